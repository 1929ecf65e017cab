import Derived.Test.YtbceafpodamnfaaH21
import Derived.Test.YtbceafpodamnfaaH22
set_option linter.all false
set_option maxHeartbeats 16000000
set_option maxRecDepth 100000
namespace Go.Proofs.Ytbceafpodamnfaa
attribute [local simp] svV cpV zbV czV aaV ctZ ad bkV ctV acV evV
attribute [local go_sem] svV cpV zbV czV aaV ctZ ad bkV ctV acV evV
section
open Go.RowKit Go.Sort
theorem Ic:Try.prog.underlying 25=some (.slice (Try.prog.elem 25)):=by kernel_rfl
theorem KE:(Try.prog.info? (Try.prog.elem 25)).map (·.size)=some 2:=by kernel_rfl
theorem NL(B:Bk)(sv:Svc)(nm:ByteArray)(num:Int)(fl:Bool)(N g1 g2 g3 k1 k2 k3 n1 n2 n3:Nat)(w:World)(hS:B.small)(hn0:0<=B.now)(hn9:B.now<1000000)(hN:N<=w.heap.size)(hB:BkRow w N g1 g2 g3 k1 k2 k3 B)(HN1:Hid (B.svcs.length=n1))(HN2:Hid (B.cps.length=n2))(HN3:Hid (B.bts.length=n3)):
  Calls Try.prog 97 #[.agg #[.int .i64 B.now,.slice (ad g1) n1 k1,.slice (ad g2) n2 k2,.slice (ad g3) n3 k3],.agg #[.int .i64 4,.string sv.name,.int .i64 sv.version,.bool sv.gone,.int .i64 sv.image,.int .i64 sv.want,.int .i64 sv.down,.int .i64 sv.over,.int .i64 sv.next,.int .i64 sv.per,.int .i64 sv.least,.int .i64 sv.most,.int .i64 sv.load,.int .i64 sv.cool,.string nm,.int .i64 num,.bool fl]] w (Ml g1 g2 w B ⟨4,sv,nm,num,fl⟩):=by
 have hSm:=hS;obtain⟨hl1,hl2,hl3⟩:=hS;rw[HN1.out]at hl1;rw[HN2.out]at hl2;rw[HN3.out]at hl3;have hq1:=hB.n1;have hq2:=hB.n2;have hq3:=hB.n3;have hg1:=hB.svcs.lt;have hg2:=hB.cps.lt;have hg3:=hB.bts.lt;have hc1:=hB.svcs.2.1;have hc2:=hB.cps.2.1;have hc3:=hB.bts.2.1;rw[HN1.out]at hc1;rw[HN2.out]at hc2;rw[HN3.out]at hc3;have h12:=hB.ne12;have h13:=hB.ne13;have h23:=hB.ne23;obtain⟨W0,hW0,t0,t1,t2,hz0,hz0',hb0⟩:=Cx w (.cells #[.int .i64 B.now,.slice (ad g1) n1 k1,.slice (ad g2) n2 k2,.slice (ad g3) n3 k3] 27) (.cells #[.int .i64 4,.string sv.name,.int .i64 sv.version,.bool sv.gone,.int .i64 sv.image,.int .i64 sv.want,.int .i64 sv.down,.int .i64 sv.over,.int .i64 sv.next,.int .i64 sv.per,.int .i64 sv.least,.int .i64 sv.most,.int .i64 sv.load,.int .i64 sv.cool,.string nm,.int .i64 num,.bool fl] 135) (.cells zbV 27);have X0:Hid _:=t0;have E0:Hid _:=t1;have Z0:Hid _:=t2;have RS0:Hid (RowIs W0 63 13 g1 n1 k1 (AU B.svcs)):=by have:=hB.svcs.below hb0 hg1;(rw[HN1.out]at this);exact this
 have RC0:Hid (RowIs W0 35 7 g2 n2 k2 (Ag B.cps)):=by have:=hB.cps.below hb0 hg2;(rw[HN2.out]at this);exact this
 have RB0:Hid (RowIs W0 74 2 g3 n3 k3 (Af B.bts)):=by have:=hB.bts.below hb0 hg3;(rw[HN3.out]at this);exact this
 clear t0 t1 t2 hB;go_enter Try.func97,Try.ntmps97
 go_upto_region 1 with fail
 clear hW0;obtain⟨e0,e1,e2,e3⟩:=c4 X0.out;have f0:=AK E0.out 0 rfl;have f14:=AK E0.out 14 rfl
 cases hat:GQ (λt:Bt=>t.name.toList==nm.toList) B.bts with
 |none=>
  have HC:Hid ((AY B ⟨4,sv,nm,num,fl⟩).2=3):=by unfold Hid;show(sinkB B nm _).2=3;unfold sinkB;rw[hat]
  have hidx:NP B.bts nm= -1:=G5 hat;have hcall:=FA B nm (ad g1) (ad g2) (ad g3) k1 k2 k3 W0 hSm RB0.out.slB
  try simp only[bkV]at hcall
  rw[HN1.out,HN2.out,HN3.out,hidx]at hcall;clear hat hidx
  go_wp2_with fail
  refine hcall.mono ?_;clear hcall;rintro e w1 ⟨rfl,hbc⟩;have hbw1:=hb0.trans (hbc.mono hb0.size);have X1:Hid _:=AL hbc X0.out (by omega);have E1:Hid _:=AL hbc E0.out (by omega);have Z1:Hid _:=AL hbc Z0.out (by omega);have hz1:w.heap.size+1+1<w1.heap.size:=(AB Z1.out).1;have hb1:KeepBut g1 g2 w w1:=CQ hbw1
  go_upto_region 17 with fail
  go_wp2_with (first
   |(refine wpList_load_row rfl 27 (.tmp 2) rfl w.heap.size rfl 27 #[.int .i64 B.now,.slice (ad g1) n1 k1,.slice (ad g2) n2 k2,.slice (ad g3) n3 k3] (0,0) _ X1.out Try.underlying27 rfl AQ ?_)
   |(refine AM rfl 27 (.tmp 4) (.tmp 78) rfl (w.heap.size+1+1) 0 #[.int .i64 B.now,.slice (ad g1) n1 k1,.slice (ad g2) n2 k2,.slice (ad g3) n3 k3] rfl rfl 27 zbV Z1.out AQ (AD rfl) (by simp[Value.oneCell']) ?_;intro w9 hz on;have Z9:Hid (Bl w9 (w.heap.size+1+1) #[.int .i64 B.now,.slice (ad g1) n1 k1,.slice (ad g2) n2 k2,.slice (ad g3) n3 k3] 27):=hz;have hb9:=hb1.only on (by omega);clear hz on))
  exact bodyPost_ret (v:=.tuple #[.agg #[.int .i64 B.now,.slice (ad g1) n1 k1,.slice (ad g2) n2 k2,.slice (ad g3) n3 k3],.int .i64 3]) (Ah rfl _ _ (w.heap.size+1+1) _ _ _ _ rfl Z9.out Try.underlying27 rfl AQ _ rfl) rfl ⟨_,_,_,_,_,_,_,_,_,_,by rw[HC.out],λh=>absurd h (by rw[HC.out];simp),hb9⟩
 |some p=>
  obtain⟨i,t⟩:=p;obtain⟨hidx,hic,_⟩:=Fr hat;have hin:i<n3:=by have:=(AC hic).1;rw[HN3.out]at this;exact this
  have hcall:=FA B nm (ad g1) (ad g2) (ad g3) k1 k2 k3 W0 hSm RB0.out.slB
  try simp only[bkV]at hcall
  rw[HN1.out,HN2.out,HN3.out,show NP B.bts nm=(i:Int) from hidx]at hcall;have HSE:Hid (AY B ⟨4,sv,nm,num,fl⟩=({B with now:=B.now+1,bts:=B.bts.take i++B.bts.drop (i+1),cps:=B.cps.filter (λc:Cp=>!(c.berth.toList==nm.toList))},0)):=by unfold Hid;show sinkB B nm _=_;unfold sinkB;rw[hat]
  clear hat hidx hic
  go_wp2_with fail
  refine hcall.mono ?_;clear hcall;rintro e w1 ⟨rfl,hbc⟩;have hbw1:=hb0.trans (hbc.mono hb0.size);have X1:Hid _:=AL hbc X0.out (by omega);have E1:Hid _:=AL hbc E0.out (by omega);have Z1:Hid _:=AL hbc Z0.out (by omega);have hz1:w.heap.size+1+1<w1.heap.size:=(AB Z1.out).1;have hb1:KeepBut g1 g2 w w1:=CQ hbw1;have RS1:Hid (RowIs w1 63 13 g1 n1 k1 (AU B.svcs)):=RS0.out.below hbc (by omega);have RC1:Hid (RowIs w1 35 7 g2 n2 k2 (Ag B.cps)):=RC0.out.below hbc (by omega);have RB1:Hid (RowIs w1 74 2 g3 n3 k3 (Af B.bts)):=RB0.out.below hbc (by omega);clear hb1;have hb1:Below w.heap.size w w1:=hbw1;clear e0 e1 e2 e3 f0 f14 hb0 X0 Z0 E0 RS0 RC0 RB0 hbc hbw1 hz0 hz0';obtain⟨mm,hmm⟩:∃q,n3 - (i+1)=q:=⟨_,rfl⟩;have HMM:Hid _:=hmm;have hm1:n3<=i+1+mm:=by omega
  have hm2:i+1+mm<=n3:=by omega
  clear hmm;have HTL:Hid ((B.bts.take i).length=i):=by unfold Hid;rw[List.length_take,HN3.out];omega
  have HRL:Hid ((B.bts.drop (i+1)).length=mm):=by unfold Hid;rw[List.length_drop,HN3.out];omega
  have SRD:Hid (∀W:World,Below w1.heap.size w1 W->∀off,(off=(i+1)*2\/k3=i+1)->∀j u,(Af (B.bts.drop (i+1)))[j]?=some u->W.cell? ((⟨g3,off,none⟩:Addr).add j)=some u):=λW hW off ho=>by
   rcases ho with ho|ho
   ·rw[ho];exact(RB1.out.below hW (by omega)).srcDrop (c:=Bt.cells) (λ_=>rfl) (i+1)
   ·intro j u hu;rw[show B.bts.drop (i+1)=[] from List.length_eq_zero_iff.1 (by rw[HRL.out];omega)]at hu;simp[Af]at hu
  go_upto_region 18 with fail
  refine Cf 13 2 [[],[],[1],[],[2,3],[0,4],[],[6],[],[8],[7,9],[5,10],[]] [11] [0,5,10,11] [11] (by kernel_rfl) (by kernel_rfl) (by kernel_rfl) ?_;refine CC (λvv W=>∃g,vv=.slice (ad g) 0 0/\w1.heap.size<=g/\Bl W g #[] 74) (λv W W2 ⟨g,h1,h2,h3⟩ hb=>⟨g,h1,h2,AL hb h3 (AB h3).1⟩) (by kernel_rfl) (by kernel_rfl) ?_ ?_
  ·intro V W K A hW hd hA hK
   simp only[pA]at hA;clear hd;obtain rfl:=hA;go_wp2;exact hK.out _ _ (AO W _) ⟨_,rfl,hW.size,heap_alloc_new W _⟩
  apply BE (by kernel_rfl)
  ·intro V W K A hW hd hA hK
   simp only[pA]at hA;clear hd;obtain rfl:=hA;go_wp2;exact hK.out _ brf
  apply BE (by kernel_rfl)
  ·intro V W K A hW hd hA hK
   have d1:V 1=_:=hd 1 (by kernel_rfl);simp only[pA,d1]at hA;clear hd d1;obtain rfl:=hA;have x3:=AK (AL hW X1.out (by omega)) 3 rfl;go_wp2;exact hK.out _ brf
  apply BE (by kernel_rfl)
  ·intro V W K A hW hd hA hK
   simp only[pA]at hA;clear hd;obtain rfl:=hA;go_wp2;exact hK.out _ brf
  apply BE (by kernel_rfl)
  ·intro V W K A hW hd hA hK
   have d2:V 2=_:=hd 2 (by kernel_rfl);have d3:V 3=_:=hd 3 (by kernel_rfl);simp only[pA,d2,d3]at hA;clear hd d2 d3;obtain rfl:=hA;go_wp2;exact hK.out _ brf
  refine CC (λvv W=>∃g cap,vv=.slice (ad g) (i) cap/\w1.heap.size<=g/\RowIs W 74 2 g (i) cap (Af (B.bts.take i))) (λv W W2 ⟨g,cap,h1,h2,h3⟩ hb=>⟨g,cap,h1,h2,h3.below hb h3.lt⟩) (by kernel_rfl) (by kernel_rfl) ?_ ?_
  ·intro V W K A hW hd hA hK
   have d0:(λvv W=>∃g,vv=.slice (ad g) 0 0/\w1.heap.size<=g/\Bl W g #[] 74) (V 0) W:=hd 0 (by kernel_rfl);have d4:V 4=_:=hd 4 (by kernel_rfl);simp only[pA,d4]at hA;clear hd d4;generalize V 0=x0 at d0 hA;obtain rfl:=hA;obtain⟨g,rfl,hg,hgz⟩:=d0;refine BC rfl (.tmp 79) (.tmp 83) 25 rfl 74 _ 2 24 Try.underlying25 BJ rfl g rfl hgz (ad g3) i _ (Af (B.bts.take i)) rfl (by rw[Cs,HTL.out]) (λ_=>⟨_,rfl,(RB1.out.below hW (by omega)).srcTake (c:=Bt.cells) (λ_=>rfl) i⟩) (Cr _) (by unfold maxLen;omega) (by omega) ?_;intro g' cap' w2 hg' hrow hb2;have hgg:w1.heap.size<=g':=by have:=hW.size;rcases hg' with rfl|rfl<;>omega
   go_wp2;exact hK.out _ _ hb2 ⟨g',cap',rfl,hgg,hrow.out⟩
  apply BE (by kernel_rfl)
  ·intro V W K A hW hd hA hK
   simp only[pA]at hA;clear hd;obtain rfl:=hA;go_wp2;exact hK.out _ brf
  apply BE (by kernel_rfl)
  ·intro V W K A hW hd hA hK
   have d6:V 6=_:=hd 6 (by kernel_rfl);simp only[pA,d6]at hA;clear hd d6;obtain rfl:=hA;have x3:=AK (AL hW X1.out (by omega)) 3 rfl;go_wp2;exact hK.out _ brf
  apply BE (by kernel_rfl)
  ·intro V W K A hW hd hA hK
   simp only[pA]at hA;clear hd;obtain rfl:=hA;go_wp2;exact hK.out _ brf
  apply BE (by kernel_rfl)
  ·intro V W K A hW hd hA hK
   have d8:V 8=_:=hd 8 (by kernel_rfl);simp only[pA,d8]at hA;clear hd d8;obtain rfl:=hA;go_wp2;exact hK.out _ brf
  refine CC (λvv (_:World)=>∃off,vv=.slice (some ⟨g3,off,none⟩) mm (k3 - (i+1))/\(off=(i+1)*2\/k3=i+1)) (λ_ _ _ h _=>h) (by kernel_rfl) (by kernel_rfl) ?_ ?_
  ·intro V W K A hW hd hA hK
   have d7:V 7=_:=hd 7 (by kernel_rfl);have d9:V 9=_:=hd 9 (by kernel_rfl);simp only[pA,d7,d9]at hA;clear hd d7 d9;obtain rfl:=hA;refine Cg rfl 25 (.tmp 86) (some (.tmp 88)) none none rfl Ic 2 KE g3 0 n3 k3 (i+1) n3 k3 rfl (some (.int .i64 ((i:Int)+1))) none none rfl rfl rfl (λw=>run_slice_l w _ _ _ _ Ic .i64 ((i+1:Nat):Int) (by omega) (by omega)) ?_;intro off hoff;rw[HMM.out];go_wp2;exact hK.out _ _ brf ⟨off,rfl,by omega⟩
  refine D9 (λvv W=>∃g cap,vv=.slice (ad g) (i+mm) cap/\w1.heap.size<=g/\RowIs W 74 2 g (i+mm) cap (Af (B.bts.take i)++Af (B.bts.drop (i+1)))) (λv W W2 ⟨g,cap,h1,h2,h3⟩ hb=>⟨g,cap,h1,h2,h3.below hb h3.lt⟩) (by kernel_rfl) (by kernel_rfl) ?_ ?_
  ·intro V W K A hW hd hA hK
   have d5:(λvv W=>∃g cap,vv=.slice (ad g) (i) cap/\w1.heap.size<=g/\RowIs W 74 2 g (i) cap (Af (B.bts.take i))) (V 5) W:=hd 5 (by kernel_rfl);have d10:(λvv (_:World)=>∃off,vv=.slice (some ⟨g3,off,none⟩) mm (k3 - (i+1))/\(off=(i+1)*2\/k3=i+1)) (V 10) W:=hd 10 (by kernel_rfl);simp only[pA]at hA;clear hd;generalize V 5=x5 at d5 hA;generalize V 10=x10 at d10 hA;obtain rfl:=hA;obtain⟨gA,capA,rfl,hgA,hrA⟩:=d5;obtain⟨off,rfl,hoff⟩:=d10;refine AV rfl (.tmp 84) (.tmp 89) 25 rfl 74 _ 2 24 Try.underlying25 BJ rfl gA i capA _ rfl hrA ⟨g3,off,none⟩ mm _ (Af (B.bts.drop (i+1))) rfl (by rw[Cs,HRL.out]) (SRD.out W hW off hoff) (Cr _) (by unfold maxLen;omega) (by omega) ?_;intro g' cap' w2 hg' hrow hgr;have hgg:w1.heap.size<=g':=by have:=hW.size;rcases hg' with rfl|rfl<;>omega
   have hbo:=Ab hgr hgA hW.size;clear hgr;go_wp2;exact hK.out _ _ hbo ⟨g',cap',rfl,hgg,hrow.out⟩
  apply BE (by kernel_rfl)
  ·intro V W K A hW hd hA hK
   simp only[pA]at hA;clear hd;obtain rfl:=hA;go_wp2;exact hK.out _ brf
  intro V W A hW hS hA;have d1:V 1=_:=hS 1 (by omega) (.inr (by kernel_rfl));have d2:V 2=_:=hS 2 (by omega) (.inr (by kernel_rfl));have d3:V 3=_:=hS 3 (by omega) (.inr (by kernel_rfl));have d4:V 4=_:=hS 4 (by omega) (.inr (by kernel_rfl));have d6:V 6=_:=hS 6 (by omega) (.inr (by kernel_rfl));have d7:V 7=_:=hS 7 (by omega) (.inr (by kernel_rfl));have d8:V 8=_:=hS 8 (by omega) (.inr (by kernel_rfl));have d9:V 9=_:=hS 9 (by omega) (.inr (by kernel_rfl));have d11:(λvv W=>∃g cap,vv=.slice (ad g) (i+mm) cap/\w1.heap.size<=g/\RowIs W 74 2 g (i+mm) cap (Af (B.bts.take i)++Af (B.bts.drop (i+1)))) (V 11) W:=hS 11 (by omega) (.inl (by kernel_rfl));have d12:V 12=_:=hS 12 (by omega) (.inr (by kernel_rfl));simp only[pA,d1,d2,d3,d4,d6,d7,d8,d9,d12]at hA;clear hS d1 d2 d3 d4 d6 d7 d8 d9 d12;generalize V 11=x11 at d11 hA;obtain rfl:=hA;simp only[List.drop_succ_cons,List.drop_zero];obtain⟨gC,capC,rfl,hgC,hrC⟩:=d11;have RBW:Hid (RowIs W 74 2 gC (i+mm) capC (Af (B.bts.take i)++Af (B.bts.drop (i+1)))):=hrC;have hgl:=hrC.lt;have hbW:=hb1.trans (hW.mono' (by omega));have XW:Hid _:=AL hW X1.out (by omega);have EW:Hid _:=AL hW E1.out (by omega);have ZW:Hid _:=AL hW Z1.out (by omega);have RSW:Hid (RowIs W 63 13 g1 n1 k1 (AU B.svcs)):=RS1.out.below hW (by omega);have RCW:Hid (RowIs W 35 7 g2 n2 k2 (Ag B.cps)):=RC1.out.below hW (by omega);have hzW:w.heap.size+1+1<W.heap.size:=(AB ZW.out).1;clear hrC X1 E1 Z1 RS1 RC1 RB1 hb1 SRD hW
  go_upto_region 19 with(refine AP rfl 25 (.tmp 91) (.tmp 90) rfl w.heap.size 3 (.slice (ad gC) (i+mm) capC) rfl rfl CN rfl rfl 27 #[.int .i64 B.now,.slice (ad g1) n1 k1,.slice (ad g2) n2 k2,.slice (ad g3) n3 k3] XW.out (AD rfl) ?_;intro w3 hz on;have X3:Hid (Bl w3 (w.heap.size) #[.int .i64 B.now,.slice (ad g1) n1 k1,.slice (ad g2) n2 k2,.slice (ad gC) (i+mm) capC] 27):=hz;have E3:Hid _:=(on.other (w.heap.size+1) (by omega)).trans EW.out;have Z3:Hid _:=(on.other (w.heap.size+1+1) (by omega)).trans ZW.out;have RS3:Hid (RowIs w3 63 13 g1 n1 k1 (AU B.svcs)):=RSW.out.blk (on.other g1 (by omega));have RC3:Hid (RowIs w3 35 7 g2 n2 k2 (Ag B.cps)):=RCW.out.blk (on.other g2 (by omega));have RB3:Hid (RowIs w3 74 2 gC (i+mm) capC (Af (B.bts.take i)++Af (B.bts.drop (i+1)))):=RBW.out.blk (on.other gC (by omega));have hb3:=hbW.trans (on.below.mono' (by omega));clear hz on)
  clear XW EW ZW RSW RCW RBW hbW;have hzw3:w.heap.size+1+1<w3.heap.size:=(AB Z3.out).1;have hgc3:=RB3.out.lt;obtain⟨w4,hw4⟩:∃W,w3.alloc (.cells #[] 35)=W:=⟨_,rfl⟩;have hb4a:=AO w3 (.cells #[] 35);have R4:Hid _:=RowIs.new w3 35 7;have hz4a:w3.heap.size<(w3.alloc (.cells #[] 35)).heap.size:=by simp
  rw[hw4]at hb4a R4 hz4a;have hb4:=hb3.trans (hb4a.mono' (by omega));have X4:Hid _:=AL hb4a X3.out (by omega);have E4:Hid _:=AL hb4a E3.out (by omega);have Z4:Hid _:=AL hb4a Z3.out (by omega);have RS4:Hid (RowIs w4 63 13 g1 n1 k1 (AU B.svcs)):=RS3.out.below hb4a RS3.out.lt;have RC4:Hid (RowIs w4 35 7 g2 n2 k2 (Ag B.cps)):=RC3.out.below hb4a RC3.out.lt;have RB4:Hid (RowIs w4 74 2 gC (i+mm) capC (Af (B.bts.take i)++Af (B.bts.drop (i+1)))):=RB3.out.below hb4a RB3.out.lt;obtain⟨gN,hgN⟩:∃q,w3.heap.size=q:=⟨_,rfl⟩;rw[hgN]at R4 hzw3 hgc3;have hg1N:g1<gN:=by rw[<-hgN];exact RS3.out.lt
  have hg2N:g2<gN:=by rw[<-hgN];exact RC3.out.lt
  clear hb4a hz4a X3 E3 Z3 RS3 RC3 RB3 hb3
  go_upto_region 20 with fail
  clear hw4 hgN;go_wp2
  go_loopw [9,10] (λov iv wr=>∃(k g n cap:Nat),k<=n2/\iv=.int .i64 k/\ov=.slice (ad g) n cap/\Hid (n=((B.cps.take k).filter (λc:Cp=>!(c.berth.toList==nm.toList))).length)/\n<=k/\gN<=g/\Below w.heap.size w wr/\Hid (Bl wr (w.heap.size) #[.int .i64 B.now,.slice (ad g1) n1 k1,.slice (ad g2) n2 k2,.slice (ad gC) (i+mm) capC] 27)/\Hid (Bl wr (w.heap.size+1) #[.int .i64 4,.string sv.name,.int .i64 sv.version,.bool sv.gone,.int .i64 sv.image,.int .i64 sv.want,.int .i64 sv.down,.int .i64 sv.over,.int .i64 sv.next,.int .i64 sv.per,.int .i64 sv.least,.int .i64 sv.most,.int .i64 sv.load,.int .i64 sv.cool,.string nm,.int .i64 num,.bool fl] 135)/\Hid (Bl wr (w.heap.size+1+1) zbV 27)/\Hid (RowIs wr 63 13 g1 n1 k1 (AU B.svcs))/\Hid (RowIs wr 35 7 g2 n2 k2 (Ag B.cps))/\Hid (RowIs wr 74 2 gC (i+mm) capC (Af (B.bts.take i)++Af (B.bts.drop (i+1))))/\Hid (RowIs wr 35 7 g n cap (Ag ((B.cps.take k).filter (λc:Cp=>!(c.berth.toList==nm.toList)))))) (λ_ i _=>n2 - (intOf i).toNat)
  case atStart=>exact⟨0,gN,0,0,by omega,rfl,rfl,rfl,AG _,AG _,hb4,X4,E4,Z4,RS4,RC4,RB4,R4⟩
  case round=>
   clear hb4 X4 E4 Z4 RS4 RC4 RB4 R4;obtain⟨k,g,n,cap,hk,rfl,rfl,HNN,hnk,hgg,hb5,X5,E5,Z5,RS5,RC5,RB5,R5⟩:=hrel;have hgl5:=R5.out.lt;have hz5:w.heap.size+1+1<wr.heap.size:=(AB Z5.out).1;have e2:=AK X5.out 2 rfl
   by_cases hlt:k<n2
   ·obtain⟨c,hck⟩:∃c,B.cps[k]?=some c:=⟨B.cps[k]'(by rw[HN2.out];exact hlt),by simp[HN2.out,hlt]⟩
    have HFS:Hid (((B.cps.take (k+1)).filter (λc:Cp=>!(c.berth.toList==nm.toList)))=((B.cps.take k).filter (λc:Cp=>!(c.berth.toList==nm.toList)))++(if(!(c.berth.toList==nm.toList))=true then [c] else [])):=by unfold Hid;rw[List.take_add_one,hck,List.filter_append];cases hq:(c.berth.toList==nm.toList)<;>simp[List.filter,hq]
    have HCK:Hid (B.cps[k]?=some c):=hck;have x2:=Al X5.out 2 rfl;have x14:=Al E5.out 14 rfl;have y6:∀p:Regrown,(grow (redrawn wr p.d) p.os).cell? ⟨g2,k*7+6,none⟩=some (.string c.berth):=λp=>cell_regrown (RC5.out.cell (BW (c:=Cp.cells) (n:=7) (λ_=>rfl) B.cps k c 6 (.string c.berth) hck rfl)) p.d p.os
    clear hck
    go_upto_region 23 with fail
    refine wp_region_quiet_below (by kernel_rfl) (by kernel_rfl) ?_
    repeat (first|go_big_quiet_step (fail)|quiet_step (fail))
    refine wpQuiet_nil ?_;intro w6 hw';obtain⟨⟨dq,osq⟩,hw''⟩:=hw';have hbq:Below wr.heap.size wr w6:=by rw[hw''];exact below_regrown _ _ _
    clear hw'' e2 x2 x14 y6;have hb6:=hb5.trans (hbq.mono' (by have:=hb5.size;omega));have X6:Hid _:=AL hbq X5.out (by omega);have E6:Hid _:=AL hbq E5.out (by omega);have Z6:Hid _:=AL hbq Z5.out (by omega);have RS6:Hid (RowIs w6 63 13 g1 n1 k1 (AU B.svcs)):=RS5.out.below hbq RS5.out.lt;have RC6:Hid (RowIs w6 35 7 g2 n2 k2 (Ag B.cps)):=RC5.out.below hbq RC5.out.lt;have RB6:Hid (RowIs w6 74 2 gC (i+mm) capC (Af (B.bts.take i)++Af (B.bts.drop (i+1)))):=RB5.out.below hbq RB5.out.lt;have R6:Hid (RowIs w6 35 7 g n cap (Ag ((B.cps.take k).filter (λc:Cp=>!(c.berth.toList==nm.toList))))):=R5.out.below hbq R5.out.lt;have hgl6:=R6.out.lt;have hz6:w.heap.size+1+1<w6.heap.size:=(AB Z6.out).1;clear hbq hb5 X5 E5 Z5 RS5 RC5 RB5 R5 hgl5 hz5;cases hq:(c.berth.toList==nm.toList)
    ·have HF1:Hid (((B.cps.take (k+1)).filter (λc:Cp=>!(c.berth.toList==nm.toList)))=((B.cps.take k).filter (λc:Cp=>!(c.berth.toList==nm.toList)))++[c]):=by unfold Hid;rw[HFS.out,hq];rfl
     have hqn:(c.berth.toList !=nm.toList)=true:=by simp[bne,hq]
     have e2:=AK X6.out 2 rfl;have y0:w6.cell? ⟨g2,k*7,none⟩=some (.string c.service):=RC6.out.cell (BW (c:=Cp.cells) (n:=7) (λ_=>rfl) B.cps k c 0 (.string c.service) HCK.out rfl);have y1:w6.cell? ⟨g2,k*7+1,none⟩=some (.int .i64 c.number):=RC6.out.cell (BW (c:=Cp.cells) (n:=7) (λ_=>rfl) B.cps k c 1 (.int .i64 c.number) HCK.out rfl);have y2:w6.cell? ⟨g2,k*7+2,none⟩=some (.int .i64 c.version):=RC6.out.cell (BW (c:=Cp.cells) (n:=7) (λ_=>rfl) B.cps k c 2 (.int .i64 c.version) HCK.out rfl);have y3:w6.cell? ⟨g2,k*7+3,none⟩=some (.int .i64 c.image):=RC6.out.cell (BW (c:=Cp.cells) (n:=7) (λ_=>rfl) B.cps k c 3 (.int .i64 c.image) HCK.out rfl);have y4:w6.cell? ⟨g2,k*7+4,none⟩=some (.int .i64 c.state):=RC6.out.cell (BW (c:=Cp.cells) (n:=7) (λ_=>rfl) B.cps k c 4 (.int .i64 c.state) HCK.out rfl);have y5:w6.cell? ⟨g2,k*7+5,none⟩=some (.bool c.ending):=RC6.out.cell (BW (c:=Cp.cells) (n:=7) (λ_=>rfl) B.cps k c 5 (.bool c.ending) HCK.out rfl);have y6:w6.cell? ⟨g2,k*7+6,none⟩=some (.string c.berth):=RC6.out.cell (BW (c:=Cp.cells) (n:=7) (λ_=>rfl) B.cps k c 6 (.string c.berth) HCK.out rfl)
     go_wp2_with (at_builtin;refine AV rfl (.tmp 109) (.tmp 115) 24 rfl 35 _ 7 72 Try.underlying24 Id rfl g n cap _ rfl (R6.out.below (AO w6 _) R6.out.lt) ⟨w6.heap.size,0,none⟩ 1 1 ((cpV c):Array Value).toList rfl rfl (BU (heap_alloc_new w6 _)) (λu hu=>(Array.all_eq_true_iff_forall_mem.1 (Nw c)) u (by simpa using hu)) (by unfold maxLen;omega) (by omega) ?_;intro g' cap' w7 hg' hrow' hgr;have hsz:(w6.alloc (.cells (cpV c) 35)).heap.size=w6.heap.size+1:=(by show(w6.heap.push _).size=_;simp);rw[hsz]at hg';have HKP:Hid (∀q,q<w6.heap.size->q≠g->w7.heap[q]?=w6.heap[q]?):=(λq hq hne=>(hgr.block q (by rw[hsz];omega) (λe=>hne (Option.some.inj e))).trans (AL (AO w6 (.cells (cpV c) 35)) rfl hq));have hb7:Below w.heap.size w w7:=(hb6.alloc (by omega) _).trans (Ab hgr (by omega) (by rw[hsz];omega));have R7:Hid (RowIs w7 35 7 g' (n+1) cap' (Ag ((B.cps.take k).filter (λc:Cp=>!(c.berth.toList==nm.toList)))++((cpV c):Array Value).toList)):=hrow';clear hrow' hgr hsz)
     have hgC6:=RB6.out.lt;have hgC7:gC≠g:=RB6.out.ne R6.out (by decide);have hne0:w.heap.size≠g:=by omega
     have hne1:w.heap.size+1≠g:=by omega
     have hne2:w.heap.size+1+1≠g:=by omega
     have hl1':=RS6.out.lt;have hl2':=RC6.out.lt
     go_roundw
     case rel=>exact⟨k+1,g',n+1,cap',by omega,by go_num,rfl,by unfold Hid;rw[HF1.out,List.length_append,HNN.out];rfl,by omega,by omega,hb7,(HKP.out _ (by omega) hne0).trans X6.out,(HKP.out _ (by omega) hne1).trans E6.out,(HKP.out _ (by omega) hne2).trans Z6.out,RS6.out.blk (HKP.out _ hl1' (by omega)),RC6.out.blk (HKP.out _ hl2' (by omega)),RB6.out.blk (HKP.out _ hgC6 hgC7),by unfold Hid;rw[HF1.out,LJ];exact R7.out⟩
     case measure=>simp[intOf];omega
    ·have HF1:Hid (((B.cps.take (k+1)).filter (λc:Cp=>!(c.berth.toList==nm.toList)))=((B.cps.take k).filter (λc:Cp=>!(c.berth.toList==nm.toList)))):=by unfold Hid;rw[HFS.out,hq];simp
     have hqn:(c.berth.toList !=nm.toList)=false:=by simp[bne,hq]
     go_wp2
     go_roundw
     case rel=>exact⟨k+1,g,n,cap,by omega,by go_num,rfl,by unfold Hid;rw[HF1.out];exact HNN.out,by omega,hgg,hb6,X6,E6,Z6,RS6,RC6,RB6,by unfold Hid;rw[HF1.out];exact R6.out⟩
     case measure=>simp[intOf];omega
   ·have HFE:Hid (((B.cps.take k).filter (λc:Cp=>!(c.berth.toList==nm.toList)))=B.cps.filter (λc:Cp=>!(c.berth.toList==nm.toList))):=by unfold Hid;rw[List.take_of_length_le (by rw[HN2.out];omega)]
    obtain⟨w6,hw6⟩:∃q,wr=q:=⟨_,rfl⟩;rw[hw6]at hb5 X5 E5 Z5 RS5 RC5 RB5 R5 hgl5 hz5 e2 ⊢;clear hw6;have hnC:gC≠g:=RB5.out.ne R5.out (by decide)
    go_upto_region 25 with fail
    clear e2
    go_wp2_with (first
     |(refine AP rfl 24 (.tmp 118) (.tmp 117) rfl w.heap.size 2 (.slice (ad g) n cap) rfl rfl C6 rfl rfl 27 #[.int .i64 B.now,.slice (ad g1) n1 k1,.slice (ad g2) n2 k2,.slice (ad gC) (i+mm) capC] X5.out (AD rfl) ?_;intro w7 hz on;have X7:Hid (Bl w7 (w.heap.size) #[.int .i64 B.now,.slice (ad g1) n1 k1,.slice (ad g) n cap,.slice (ad gC) (i+mm) capC] 27):=hz;have Z7:Hid _:=(on.other (w.heap.size+1+1) (by omega)).trans Z5.out;have hb7:=hb5.trans (on.below.mono' (by omega));have RS7:Hid (RowIs w7 63 13 g1 n1 k1 (AU B.svcs)):=RS5.out.blk (on.other g1 (by omega));have RB7:Hid (RowIs w7 74 2 gC (i+mm) capC (Af (B.bts.take i)++Af (B.bts.drop (i+1)))):=RB5.out.blk (on.other gC (by omega));have R7:Hid (RowIs w7 35 7 g n cap (Ag ((B.cps.take k).filter (λc:Cp=>!(c.berth.toList==nm.toList))))):=R5.out.blk (on.other g (by omega));clear hz on)
     |(refine AP rfl 3 (.tmp 159) (.tmp 158) rfl w.heap.size 0 (.int .i64 (B.now+1)) rfl rfl An rfl rfl 27 #[.int .i64 B.now,.slice (ad g1) n1 k1,.slice (ad g) n cap,.slice (ad gC) (i+mm) capC] X7.out (AD rfl) ?_;intro w8 hz on;have X8:Hid (Bl w8 (w.heap.size) #[.int .i64 (B.now+1),.slice (ad g1) n1 k1,.slice (ad g) n cap,.slice (ad gC) (i+mm) capC] 27):=hz;have Z8:Hid _:=(on.other (w.heap.size+1+1) (by omega)).trans Z7.out;have hb8:=hb7.trans (on.below.mono' (by omega));have RS8:Hid (RowIs w8 63 13 g1 n1 k1 (AU B.svcs)):=RS7.out.blk (on.other g1 (by omega));have RB8:Hid (RowIs w8 74 2 gC (i+mm) capC (Af (B.bts.take i)++Af (B.bts.drop (i+1)))):=RB7.out.blk (on.other gC (by omega));have R8:Hid (RowIs w8 35 7 g n cap (Ag ((B.cps.take k).filter (λc:Cp=>!(c.berth.toList==nm.toList))))):=R7.out.blk (on.other g (by omega));clear hz on)
     |(refine wpList_load_row rfl 27 (.tmp 2) rfl w.heap.size rfl 27 #[.int .i64 (B.now+1),.slice (ad g1) n1 k1,.slice (ad g) n cap,.slice (ad gC) (i+mm) capC] (0,0) _ X8.out Try.underlying27 rfl AQ ?_)
     |(refine AM rfl 27 (.tmp 4) (.tmp 160) rfl (w.heap.size+1+1) 0 #[.int .i64 (B.now+1),.slice (ad g1) n1 k1,.slice (ad g) n cap,.slice (ad gC) (i+mm) capC] rfl rfl 27 zbV Z8.out AQ (AD rfl) (by simp[Value.oneCell']) ?_;intro w9 hz on;have Z9:Hid (Bl w9 (w.heap.size+1+1) #[.int .i64 (B.now+1),.slice (ad g1) n1 k1,.slice (ad g) n cap,.slice (ad gC) (i+mm) capC] 27):=hz;have hb9:=hb8.trans (on.below.mono' (by omega));have RS9:Hid (RowIs w9 63 13 g1 n1 k1 (AU B.svcs)):=RS8.out.blk (on.other g1 (by omega));have RB9:Hid (RowIs w9 74 2 gC (i+mm) capC (Af (B.bts.take i)++Af (B.bts.drop (i+1)))):=RB8.out.blk (on.other gC (by omega));have R9:Hid (RowIs w9 35 7 g n cap (Ag ((B.cps.take k).filter (λc:Cp=>!(c.berth.toList==nm.toList))))):=R8.out.blk (on.other g (by omega));clear hz on))
    exact bodyPost_ret (v:=.tuple #[.agg #[.int .i64 (B.now+1),.slice (ad g1) n1 k1,.slice (ad g) n cap,.slice (ad gC) (i+mm) capC],.int .i64 0]) (Ah rfl _ _ (w.heap.size+1+1) _ _ _ _ rfl Z9.out Try.underlying27 rfl AQ _ rfl) rfl ⟨_,_,_,_,_,_,_,_,_,_,by rw[HSE.out],λ_=>by rw[HSE.out];exact⟨rfl,HN1.out.symm,by rw[HNN.out,HFE.out],by simp only[List.length_append,HTL.out,HRL.out],RS9.out,by rw[<-HFE.out];exact R9.out,by have h:=RB9.out;rw[show Af (B.bts.take i)++Af (B.bts.drop (i+1))=Af (B.bts.take i++B.bts.drop (i+1)) by simp[Af]]at h;exact h⟩,CQ hb9⟩
def Ev.sized(E:Ev):Prop:=E.service.name.size<=maxLen/\E.name.size<=maxLen
def noBk:Bk:=⟨0,[],[],[]⟩
def Cm(B:Bk)(E:Ev):Bk × Int:=
 if Au B=true then
  if 1000000<=B.now then(B,if inB E.kind 1 6=true then 7 else 4)
  else if(AY B E).2=0 then(if Au (AY B E).1=true then((AY B E).1,0) else(B,2)) else(B,(AY B E).2)
 else(noBk,1)
theorem K7{α:Type}(nm:α->List UInt8)(l:List α)(x:α):(Fy nm l x).length<=l.length+1:=by
 unfold Fy;rw[List.length_append,List.length_cons,List.length_take];split
 ·split<;>rw[List.length_drop]<;>omega
 ·rw[List.length_drop];omega
theorem K6{α:Type}{nm:α->List UInt8}{l:List α}{x y:α}(h:y∈Fy nm l x):y=x\/y∈l:=by
 unfold Fy at h;rcases List.mem_append.1 h with h|h
 ·exact .inr (List.mem_of_mem_take h)
 ·rcases List.mem_cons.1 h with h|h
  ·exact .inl h
  ·right
   split at h
   ·split at h<;>exact List.mem_of_mem_drop h
   ·exact List.mem_of_mem_drop h
theorem Fj{B:Bk}(hZ:∀t∈B.bts,t.name.size<=maxLen):∀k,(DC B k).1.size<=maxLen
 |0=>by show(⟨#[]⟩:ByteArray).size<=maxLen;decide
 |k+1=>by
  cases h:B.bts[k]? with
  |none=>
   have:DC B (k+1)=DC B k:=by
    unfold DC;rw[List.take_add_one,h];simp
   rw[this];exact Fj hZ k
  |some t=>
   rw[Hh h];unfold GI;split
   ·exact hZ t (AE h)
   ·exact Fj hZ k
theorem JB(v:Int)(c:Cp):(Ge v c).service=c.service/\(Ge v c).berth=c.berth:=by
 unfold Ge
 split<;>exact⟨rfl,rfl⟩
theorem G8{B:Bk}{v:Int}(hZ:B.sized):∀k,∀c∈(Cw B v k).cps,c.service.size<=maxLen/\c.berth.size<=maxLen
 |0=>λc hc=>by
  have hc':c∈DB v B.cps:=hc;unfold DB at hc';obtain⟨d,hd,rfl⟩:=List.mem_map.1 hc';rw[(JB v d).1,(JB v d).2];exact hZ.2.2.2.2.1 d ((List.mem_filter.1 hd).1)
 |k+1=>λc hc=>by
  rw[Ex]at hc;unfold DX at hc;have ih:=G8 (v:=v) hZ k;split at hc
  ·rename_i d hd
   split at hc
   ·rcases List.mem_or_eq_of_mem_set hc with h|h
    ·exact ih c h
    ·rw[h]
     refine⟨(ih d (AE hd)).1,?_⟩;show(Eh (Cw B v k)).size<=maxLen;unfold Eh;refine Fj ?_ _;rw[(Bp B v k).2.2.1];exact hZ.2.2.2.2.2
   ·exact ih c hc
  ·exact ih c hc
theorem Mh{α:Type}{p:α->Bool}{l:List α}{i:Nat}{x:α}(h:GQ p l=some (i,x)):i<l.length/\x∈l:=by
 have:=(Fr h).2.1;exact⟨(AC this).1,AE this⟩
theorem Kx(B:Bk)(E:Ev):(AY B E).1.svcs.length<=B.svcs.length+1/\(AY B E).1.cps.length<=B.cps.length/\(AY B E).1.bts.length<=B.bts.length+1:=by
 unfold AY;split
 ·obtain⟨_,q2,q3,q4⟩:=Bp B (B.now+1) (DB (B.now+1) B.cps).length
  refine⟨?_,?_,?_⟩
  ·show(Dl B (B.now+1)).svcs.length<=_;unfold Dl;rw[q2];omega
  ·show(Dl B (B.now+1)).cps.length<=_;unfold Dl;rw[q4];exact Oj _ _
  ·show(Dl B (B.now+1)).bts.length<=_;unfold Dl;rw[q3];omega
 split
 ·exact⟨K7 _ _ _,AG _,Nat.le_succ _⟩
 split
 ·unfold Hl
  split
  ·split
   ·exact⟨Nat.le_succ _,by simp,Nat.le_succ _⟩
   ·exact⟨Nat.le_succ _,AG _,Nat.le_succ _⟩
  ·exact⟨Nat.le_succ _,AG _,Nat.le_succ _⟩
 split
 ·unfold sinkB
  split
  ·exact⟨Nat.le_succ _,List.length_filter_le _ _,by simp only[List.length_append,List.length_take,List.length_drop];omega⟩
  ·exact⟨Nat.le_succ _,AG _,Nat.le_succ _⟩
 split
 ·exact⟨Nat.le_succ _,AG _,K7 _ _ _⟩
 split
 ·unfold Hg
  split
  ·split
   ·exact⟨Nat.le_succ _,AG _,Nat.le_succ _⟩
   ·exact⟨by simp,AG _,Nat.le_succ _⟩
  ·exact⟨Nat.le_succ _,AG _,Nat.le_succ _⟩
 ·exact⟨Nat.le_succ _,AG _,Nat.le_succ _⟩
theorem Lv{B:Bk}{E:Ev}(hZ:B.sized)(hE:E.sized):(∀s∈(AY B E).1.svcs,s.name.size<=maxLen)/\(∀c∈(AY B E).1.cps,c.service.size<=maxLen/\c.berth.size<=maxLen)/\(∀t∈(AY B E).1.bts,t.name.size<=maxLen):=by
 have z1:=hZ.2.2.2.1;have z2:=hZ.2.2.2.2.1;have z3:=hZ.2.2.2.2.2;unfold AY;split
 ·refine⟨?_,?_,?_⟩
  ·show ∀s∈(Dl B (B.now+1)).svcs,_;unfold Dl;rw[(Bp B _ _).2.1];exact z1
  ·exact G8 hZ _
  ·show ∀s∈(Dl B (B.now+1)).bts,_;unfold Dl;rw[(Bp B _ _).2.2.1];exact z3
 split
 ·refine⟨λs hs=>?_,z2,z3⟩
  rcases K6 hs with h|h
  ·rw[h];exact hE.1
  ·exact z1 s h
 split
 ·unfold Hl
  split
  ·rename_i i c hi
   split
   ·refine⟨z1,λd hd=>?_,z3⟩
    rcases List.mem_or_eq_of_mem_set hd with h|h
    ·exact z2 d h
    ·rw[h];exact z2 c (Mh hi).2
   ·exact⟨z1,z2,z3⟩
  ·exact⟨z1,z2,z3⟩
 split
 ·unfold sinkB
  split
  ·refine⟨z1,λd hd=>z2 d ((List.mem_filter.1 hd).1),λt ht=>?_⟩
   rcases List.mem_append.1 ht with h|h
   ·exact z3 t (List.mem_of_mem_take h)
   ·exact z3 t (List.mem_of_mem_drop h)
  ·exact⟨z1,z2,z3⟩
 split
 ·refine⟨z1,z2,λt ht=>?_⟩
  rcases K6 ht with h|h
  ·rw[h];exact hE.2
  ·exact z3 t h
 split
 ·unfold Hg
  split
  ·rename_i i s hi
   split
   ·exact⟨z1,z2,z3⟩
   ·refine⟨λd hd=>?_,z2,z3⟩
    rcases List.mem_or_eq_of_mem_set hd with h|h
    ·exact z1 d h
    ·rw[h];exact z1 s (Mh hi).2
  ·exact⟨z1,z2,z3⟩
 ·exact⟨z1,z2,z3⟩
theorem GD{B:Bk}{E:Ev}(hV:Au B=true):(AY B E).1.small:=by
 unfold Au at hV;simp only[Bool.and_eq_true,decide_eq_true_eq]at hV;obtain⟨h1,h2,h3⟩:=Kx B E;exact⟨by omega,by omega,by omega⟩
theorem IS{B:Bk}{E:Ev}(hV:Au B=true)(hZ:B.sized)(hE:E.sized):(AY B E).1.sized:=by
 obtain⟨h1,h2,h3⟩:=GD (E:=E) hV;obtain⟨q1,q2,q3⟩:=Lv hZ hE;exact⟨by unfold maxLen;omega,by unfold maxLen;omega,by unfold maxLen;omega,q1,q2,q3⟩
end
end Go.Proofs.Ytbceafpodamnfaa
