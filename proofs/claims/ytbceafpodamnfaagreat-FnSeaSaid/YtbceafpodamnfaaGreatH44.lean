import Derived.Test.YtbceafpodamnfaaGreatH43
set_option linter.all false
set_option maxHeartbeats 16000000
set_option maxRecDepth 100000
namespace Go.Proofs.YtbceafpodamnfaaGreat
section
open Go.RowKit Go.Sort
def aft(B:Bk):Bk:={B with now:=B.now+1}
def evV(E:Ev)(A:Nat):Value:=if E.kind=1 then .iface 90 (.agg #[.pointer (some ⟨A,0,none⟩)]) else if E.kind=2 then .iface 92 (.agg #[.pointer (some ⟨A,0,none⟩),.string E.service.name,.int .i64 E.service.version,.bool E.service.gone,.int .i64 E.service.image,.int .i64 E.service.want,.int .i64 E.service.down,.int .i64 E.service.over,.int .i64 E.service.next,.int .i64 E.service.per,.int .i64 E.service.least,.int .i64 E.service.most,.int .i64 E.service.load,.int .i64 E.service.cool]) else if E.kind=3 then .iface 97 (.agg #[.pointer (some ⟨A,0,none⟩),.string E.name,.int .i64 E.number]) else if E.kind=4 then .iface 99 (.agg #[.pointer (some ⟨A,0,none⟩),.string E.name]) else if E.kind=5 then .iface 101 (.agg #[.pointer (some ⟨A,0,none⟩),.string E.name,.bool E.flag]) else if E.kind=6 then .iface 103 (.agg #[.pointer (some ⟨A,0,none⟩),.string E.name,.int .i64 E.number]) else .nilIface
def IE(B:Bk)(E:Ev):Bk × Int:=
 if E.kind=1 then(Ca B B.now,0)
 else if E.kind=2 then(CB B E.service B.now,CZ (CB B E.service B.now,0))
 else if E.kind=3 then Bm B E.name E.number B.now
 else if E.kind=4 then sinkB B E.name B.now
 else if E.kind=5 then(CC B E.name E.flag,if AX (CC B E.name E.flag)=true then 0 else 2)
 else if E.kind=6 then((Bb B E.name E.number B.now).1,CZ (Bb B E.name E.number B.now))
 else(B,4)
def DZ(B:Bk)(E:Ev):Bk × Int:=if 1000000<B.now then(B,if inB E.kind 1 6=true then 7 else 4) else IE B E
def GM(B:Bk)(E:Ev):Bk:=if(DZ (aft B) E).2=0 then(DZ (aft B) E).1 else B
theorem MA{p:Bk × Int}(h:CZ p=0):p.2=0:=by
 unfold CZ at h;split at h
 ·assumption
 ·exact h
theorem L0(E:Ev)(A:Nat)(w:World):
  Calls Tryz.prog 33 #[.agg #[.int .i64 E.kind,.string E.service.name,.int .i64 E.service.version,.bool E.service.gone,.int .i64 E.service.image,.int .i64 E.service.want,.int .i64 E.service.down,.int .i64 E.service.over,.int .i64 E.service.next,.int .i64 E.service.per,.int .i64 E.service.least,.int .i64 E.service.most,.int .i64 E.service.load,.int .i64 E.service.cool,.string E.name,.int .i64 E.number,.bool E.flag],.agg #[.pointer (some ⟨A,0,none⟩)]] w λe w'=>e=.returned (evV E A)/\Below w.heap.size w w':=by
 obtain⟨kd,sv,nm,num,fl⟩:=E
 by_cases h1:kd=1
 ·subst h1;exact eventOf1 ⟨1,sv,nm,num,fl⟩ A w
 by_cases h2:kd=2
 ·subst h2;exact eventOf2 ⟨2,sv,nm,num,fl⟩ A w
 by_cases h3:kd=3
 ·subst h3;exact eventOf3 ⟨3,sv,nm,num,fl⟩ A w
 by_cases h4:kd=4
 ·subst h4;exact eventOf4 ⟨4,sv,nm,num,fl⟩ A w
 by_cases h5:kd=5
 ·subst h5;exact eventOf5 ⟨5,sv,nm,num,fl⟩ A w
 by_cases h6:kd=6
 ·subst h6;exact eventOf6 ⟨6,sv,nm,num,fl⟩ A w
 have e:evV ⟨kd,sv,nm,num,fl⟩ A=.nilIface:=by unfold evV;simp only[if_neg h1,if_neg h2,if_neg h3,if_neg h4,if_neg h5,if_neg h6]
 rw[e];exact eventOf0 ⟨kd,sv,nm,num,fl⟩ A w h1 h2 h3 h4 h5 h6
theorem Mr(B:Bk)(E:Ev)(N A:Nat)(a1 a2 a3:Option Addr)(k1 k2 k3:Nat)(w:World)(hF:Fit B)(hP:Cf B)(hwc:wfC B)(huc:GQ B)(hwf:(Lit.int .i64 E.number).wf=true)(hE:E.sized)(hN:N<=w.heap.size)(hV:BkVar w N A B a1 a2 a3 k1 k2 k3):
  Calls Tryz.prog 32 #[evV E A,.int .i64 B.now] w λe w'=>e=.returned (.int .i64 (DZ B E).2)/\((DZ B E).2=0->∃b1 b2 b3 d1 d2 d3,BkVar w' N A (DZ B E).1 b1 b2 b3 d1 d2 d3)/\Below N w w':=by
 obtain⟨kd,sv,nm,num,fl⟩:=E
 by_cases hn:1000000<B.now
 ·have hb:DZ B ⟨kd,sv,nm,num,fl⟩=(B,if inB kd 1 6=true then 7 else 4):=by unfold DZ;rw[if_pos hn]
  rw[hb]
  by_cases hk:inB kd 1 6=true
  ·rw[if_pos hk]
   have hk':1<=kd/\kd<=6:=by simpa [inB] using hk
   have:∃t l,evV ⟨kd,sv,nm,num,fl⟩ A=.iface t (.agg l):=by
    unfold evV
    by_cases h1:kd=1
    ·exact⟨_,_,by rw[if_pos h1]⟩
    by_cases h2:kd=2
    ·exact⟨_,_,by rw[if_neg h1,if_pos h2]⟩
    by_cases h3:kd=3
    ·exact⟨_,_,by rw[if_neg h1,if_neg h2,if_pos h3]⟩
    by_cases h4:kd=4
    ·exact⟨_,_,by rw[if_neg h1,if_neg h2,if_neg h3,if_pos h4]⟩
    by_cases h5:kd=5
    ·exact⟨_,_,by rw[if_neg h1,if_neg h2,if_neg h3,if_neg h4,if_pos h5]⟩
    exact⟨_,_,by rw[if_neg h1,if_neg h2,if_neg h3,if_neg h4,if_neg h5,if_pos (by show kd=6;omega)]⟩
   obtain⟨t,l,e⟩:=this;rw[e];exact(Ms t l B.now w hn).mono λe w' h=>⟨h.1,λh0=>by simp at h0,h.2.mono' hN⟩
  ·rw[if_neg hk]
   have hk':¬(1<=kd/\kd<=6):=by simpa [inB] using hk
   have e:evV ⟨kd,sv,nm,num,fl⟩ A=.nilIface:=by
    unfold evV;rw[if_neg (by show kd≠1;omega),if_neg (by show kd≠2;omega),if_neg (by show kd≠3;omega),if_neg (by show kd≠4;omega),if_neg (by show kd≠5;omega),if_neg (by show kd≠6;omega)]
   rw[e];exact(KF B.now w).mono λe w' h=>⟨h.1,λh0=>by simp at h0,h.2.mono' hN⟩
 have hn':B.now<=1000000:=by omega
 have hb:DZ B ⟨kd,sv,nm,num,fl⟩=IE B ⟨kd,sv,nm,num,fl⟩:=by unfold DZ;rw[if_neg hn]
 rw[hb]
 by_cases h1:kd=1
 ·subst h1;exact(happen1 B ⟨1,sv,nm,num,fl⟩ N A a1 a2 a3 k1 k2 k3 w hF hP hE hn' hN hV).mono λe w' h=>⟨h.1,λ_=>h.2.1,h.2.2⟩
 by_cases h2:kd=2
 ·subst h2;exact(happen2 B ⟨2,sv,nm,num,fl⟩ N A a1 a2 a3 k1 k2 k3 w hF hE hn' hN hV).mono λe w' h=>⟨h.1,λ_=>h.2.1,h.2.2⟩
 by_cases h3:kd=3
 ·subst h3;exact happen3 B ⟨3,sv,nm,num,fl⟩ N A a1 a2 a3 k1 k2 k3 w hF hwc huc hwf hE hn' hN hV
 by_cases h4:kd=4
 ·subst h4;exact happen4 B ⟨4,sv,nm,num,fl⟩ N A a1 a2 a3 k1 k2 k3 w hF hE hn' hN hV
 by_cases h5:kd=5
 ·subst h5;exact(happen5 B ⟨5,sv,nm,num,fl⟩ N A a1 a2 a3 k1 k2 k3 w hF hE hn' hN hV).mono λe w' h=>⟨h.1,λ_=>h.2.1,h.2.2⟩
 by_cases h6:kd=6
 ·subst h6;exact(happen6 B ⟨6,sv,nm,num,fl⟩ N A a1 a2 a3 k1 k2 k3 w hF hE hn' hN hV).mono λe w' h=>⟨h.1,λh0=>h.2.1 (MA h0),h.2.2⟩
 have e:evV ⟨kd,sv,nm,num,fl⟩ A=.nilIface:=by unfold evV;simp only[if_neg h1,if_neg h2,if_neg h3,if_neg h4,if_neg h5,if_neg h6]
 have eo:IE B ⟨kd,sv,nm,num,fl⟩=(B,4):=by unfold IE;simp only[if_neg h1,if_neg h2,if_neg h3,if_neg h4,if_neg h5,if_neg h6]
 rw[e,eo];exact(KF B.now w).mono λe w' h=>⟨h.1,λh0=>by simp at h0,h.2.mono' hN⟩
theorem Tryz.infosEvI:(Tryz.prog.info? 31).map (·.size)=some 17:=by kernel_rfl
theorem NF(B:Bk)(E:Ev)(a1 a2 a3:Option Addr)(c1 c2 c3:Nat)(w:World)(hS:B.small)(hn0:0<=B.now)(hn9:B.now<=1000000)(hF:Fit (aft B))(hP:Cf (aft B))(hwc:wfC (aft B))(huc:GQ (aft B))(hwf:(Lit.int .i64 E.number).wf=true)(hE:E.sized)(hB:BkAt w a1 a2 a3 B):
  Calls Tryz.prog 14 #[.agg #[.int .i64 B.now,.slice a1 B.svcs.length c1,.slice a2 B.cps.length c2,.slice a3 B.bts.length c3],.agg #[.int .i64 E.kind,.string E.service.name,.int .i64 E.service.version,.bool E.service.gone,.int .i64 E.service.image,.int .i64 E.service.want,.int .i64 E.service.down,.int .i64 E.service.over,.int .i64 E.service.next,.int .i64 E.service.per,.int .i64 E.service.least,.int .i64 E.service.most,.int .i64 E.service.load,.int .i64 E.service.cool,.string E.name,.int .i64 E.number,.bool E.flag]] w λe w'=>∃(x1 x2 x3:Option Addr) (p1 p2 p3:Nat),e=.returned (.tuple #[.agg #[.int .i64 (GM B E).now,.slice x1 (GM B E).svcs.length p1,.slice x2 (GM B E).cps.length p2,.slice x3 (GM B E).bts.length p3],.int .i64 (DZ (aft B) E).2])/\BkOf w' w.heap.size (GM B E) x1 x2 x3 p1 p2 p3/\Below w.heap.size w w':=by
 obtain⟨cd,HCD⟩:∃cd:Int,Hid ((DZ (aft B) E).2=cd):=⟨_,rfl⟩;rw[show(DZ (aft B) E).2=cd from HCD.out];obtain⟨W0,hW0,t0,t1,t2,hz0,hz0',hb0⟩:=F8 w (.cells #[.int .i64 B.now,.slice a1 B.svcs.length c1,.slice a2 B.cps.length c2,.slice a3 B.bts.length c3] 27) (.cells #[.int .i64 E.kind,.string E.service.name,.int .i64 E.service.version,.bool E.service.gone,.int .i64 E.service.image,.int .i64 E.service.want,.int .i64 E.service.down,.int .i64 E.service.over,.int .i64 E.service.next,.int .i64 E.service.per,.int .i64 E.service.least,.int .i64 E.service.most,.int .i64 E.service.load,.int .i64 E.service.cool,.string E.name,.int .i64 E.number,.bool E.flag] 31) (.cells #[.int .i64 0,.slice none 0 0,.slice none 0 0,.slice none 0 0] 27);have X0:Hid _:=t0;have E0:Hid _:=t1;have Z0:Hid _:=t2;clear t0 t1 t2;go_enter Tryz.func14,Tryz.ntmps14
 go_upto_region 1 with fail
 clear hW0;have e0:=AJ X0.out 0 rfl;have e1:=AJ X0.out 1 rfl;have e2:=AJ X0.out 2 rfl;have e3:=AJ X0.out 3 rfl
 go_wp2_with fail
 refine(F3 B a1 a2 a3 c1 c2 c3 W0 hS (hB.below hb0)).mono ?_;rintro e w1 ⟨b1,d1,b2,d2,b3,d3,rfl,hr,hbq⟩;have HR1:Hid (BkOf w1 W0.heap.size B b1 b2 b3 d1 d2 d3):=hr;have hbN1:Below W0.heap.size W0 w1:=hbq;clear hr hbq e0 e1 e2 e3;obtain⟨w2,hw2⟩:∃W,w1.alloc (.cells #[.int .i64 0,.slice none 0 0,.slice none 0 0,.slice none 0 0] 27)=W:=⟨_,rfl⟩;have hb2:=AM w1 (.cells #[.int .i64 0,.slice none 0 0,.slice none 0 0,.slice none 0 0] 27);obtain⟨A,hAe⟩:∃q,w1.heap.size=q:=⟨_,rfl⟩;have S1:Hid (w2.heap[A]?=some (.cells #[.int .i64 0,.slice none 0 0,.slice none 0 0,.slice none 0 0] 27 (0,0))):=by unfold Hid;rw[<-hw2,<-hAe];exact heap_alloc_new w1 (.cells #[.int .i64 0,.slice none 0 0,.slice none 0 0,.slice none 0 0] 27)
 rw[hw2]at hb2;have hsA:w1.heap.size<=A:=by omega
 have hsA':A<=w1.heap.size:=by omega
 have hNA:W0.heap.size<=A:=AH hbN1.size hsA
 go_upto_region 2 with(refine AL rfl 27 (.tmp 6) (.tmp 9) rfl A 0 #[.int .i64 B.now,.slice b1 B.svcs.length d1,.slice b2 B.cps.length d2,.slice b3 B.bts.length d3] rfl rfl 27 #[.int .i64 0,.slice none 0 0,.slice none 0 0,.slice none 0 0] S1.out Tryz.infosBkX (AD rfl) (by simp[Value.oneCell']) ?_;intro w3 hz on;have A3:Hid (w3.heap[A]?=some (.cells #[.int .i64 B.now,.slice b1 B.svcs.length d1,.slice b2 B.cps.length d2,.slice b3 B.bts.length d3] 27 (0,0))):=hz;have hb3:Below w1.heap.size w1 w3:=hb2.trans (on.below.mono' hsA);clear hz on)
 clear hw2 hAe S1 hb2;have HR3:Hid (BkOf w3 W0.heap.size B b1 b2 b3 d1 d2 d3):=HR1.out.below hb3;have hbN3:Below W0.heap.size W0 w3:=hbN1.trans (hb3.mono' hbN1.size);have f0:=AJ A3.out 0 rfl;clear HR1 hb3
 go_upto_region 3 with(refine Ai rfl 3 (.tmp 13) (.tmp 12) rfl A 0 (.int .i64 (B.now+1)) rfl rfl Tryz.infosIntX rfl rfl 27 #[.int .i64 B.now,.slice b1 B.svcs.length d1,.slice b2 B.cps.length d2,.slice b3 B.bts.length d3] A3.out (AD rfl) ?_;intro w4 hz on;have A4:Hid (w4.heap[A]?=some (.cells #[.int .i64 (B.now+1),.slice b1 B.svcs.length d1,.slice b2 B.cps.length d2,.slice b3 B.bts.length d3] 27 (0,0))):=hz;have HON:Hid (BA A w3 w4):=on;clear hz on)
 have V4:=Ah (B:=aft B) ⟨hNA,A4.out,(HR3.out.only HON.out A3.out (by decide) (by decide) (by decide)).svcs,(HR3.out.only HON.out A3.out (by decide) (by decide) (by decide)).cps,(HR3.out.only HON.out A3.out (by decide) (by decide) (by decide)).bts⟩;have hbN4:Below W0.heap.size W0 w4:=hbN3.trans (HON.out.below.mono' hNA);have X4:Hid (w4.heap[w.heap.size]?=some (.cells #[.int .i64 B.now,.slice a1 B.svcs.length c1,.slice a2 B.cps.length c2,.slice a3 B.bts.length c3] 27 (0,0))):=AK hbN4 X0.out (by omega);have E4:Hid (w4.heap[w.heap.size+1]?=some (.cells #[.int .i64 E.kind,.string E.service.name,.int .i64 E.service.version,.bool E.service.gone,.int .i64 E.service.image,.int .i64 E.service.want,.int .i64 E.service.down,.int .i64 E.service.over,.int .i64 E.service.next,.int .i64 E.service.per,.int .i64 E.service.least,.int .i64 E.service.most,.int .i64 E.service.load,.int .i64 E.service.cool,.string E.name,.int .i64 E.number,.bool E.flag] 31 (0,0))):=AK hbN4 E0.out (by omega);have Z4:Hid (w4.heap[w.heap.size+1+1]?=some (.cells #[.int .i64 0,.slice none 0 0,.slice none 0 0,.slice none 0 0] 27 (0,0))):=AK hbN4 Z0.out (by omega);have hA4:=(AB A4.out).1;have hE4:w.heap.size+1<w4.heap.size:=by omega
 clear f0 A3 HR3 HON X0 E0 Z0 hbN1 hbN3 hsA hsA';refine An 5 (by kernel_rfl) (by kernel_rfl) ?_;apply AQ
 ·intro V W K A hW hd hA hK
  simp only[pA]at hA;clear hd;obtain rfl:=hA;refine wpList_load_row rfl 31 (.tmp 3) rfl (w.heap.size+1) rfl 31 #[.int .i64 E.kind,.string E.service.name,.int .i64 E.service.version,.bool E.service.gone,.int .i64 E.service.image,.int .i64 E.service.want,.int .i64 E.service.down,.int .i64 E.service.over,.int .i64 E.service.next,.int .i64 E.service.per,.int .i64 E.service.least,.int .i64 E.service.most,.int .i64 E.service.load,.int .i64 E.service.cool,.string E.name,.int .i64 E.number,.bool E.flag] (0,0) _ (AK hW E4.out (by omega)) Tryz.underlying31 rfl Tryz.infosEvI ?_;go_wp2;exact hK.out _ brf
 apply AQ
 ·intro V W K A hW hd hA hK
  simp only[pA]at hA;clear hd;obtain rfl:=hA;go_wp2;exact hK.out _ brf
 apply AQ
 ·intro V W K A hW hd hA hK
  have d0:V 0=_:=hd 0 (by kernel_rfl);have d1:V 1=_:=hd 1 (by kernel_rfl);simp only[pA,d0,d1]at hA;clear hd d0 d1;obtain rfl:=hA
  go_wp2_with fail
  refine(L0 E A W).mono ?_;rintro e w5 ⟨rfl,hbq⟩;have HBQ:Hid (Below W.heap.size W w5):=hbq;clear hbq;go_wp2;exact hK.out _ HBQ.out
 apply AQ
 ·intro V W K A hW hd hA hK
  simp only[pA]at hA;clear hd;obtain rfl:=hA;go_wp2;exact hK.out _ brf
 apply AQ
 ·intro V W K A hW hd hA hK
  have d3:V 3=_:=hd 3 (by kernel_rfl);simp only[pA,d3]at hA;clear hd d3;obtain rfl:=hA;have m0:=AJ (AK hW A4.out hA4) 0 rfl;go_wp2;exact hK.out _ brf
 intro V W A hW hS hA;have d0:V 0=_:=hS 0 (by omega);have d1:V 1=_:=hS 1 (by omega);have d2:V 2=_:=hS 2 (by omega);have d3:V 3=_:=hS 3 (by omega);have d4:V 4=_:=hS 4 (by omega);simp only[pA,d0,d1,d2,d3,d4]at hA;clear hS d0 d1 d2 d3 d4;obtain rfl:=hA;simp only[List.drop_succ_cons,List.drop_zero];have HV5:=Ah (V4.out.below hW);have hsW:W0.heap.size<=W.heap.size:=by have:=hW.size;have:=hbN4.size;omega
 have hbW:Below W0.heap.size W0 W:=hbN4.trans (hW.mono' hbN4.size)
 go_wp2_with fail
 refine(Mr (aft B) E W0.heap.size A b1 b2 b3 d1 d2 d3 W hF hP hwc huc hwf hE hsW HV5.out).mono ?_;rw[show(DZ (aft B) E).2=cd from HCD.out];rintro e w6 ⟨rfl,hv6,hbq⟩;have HV6:Hid (cd=0->∃b1 b2 b3 d1 d2 d3,BkVar w6 W0.heap.size A (DZ (aft B) E).1 b1 b2 b3 d1 d2 d3):=hv6;have hb6:Below W0.heap.size W0 w6:=hbW.trans hbq;have hb6':Below w.heap.size w w6:=hb0.trans (hb6.mono' hb0.size);have X6:Hid (w6.heap[w.heap.size]?=some (.cells #[.int .i64 B.now,.slice a1 B.svcs.length c1,.slice a2 B.cps.length c2,.slice a3 B.bts.length c3] 27 (0,0))):=AK (hW.mono' hbN4.size |>.trans hbq) X4.out (by omega);have Z6:Hid (w6.heap[w.heap.size+1+1]?=some (.cells #[.int .i64 0,.slice none 0 0,.slice none 0 0,.slice none 0 0] 27 (0,0))):=AK (hW.mono' hbN4.size |>.trans hbq) Z4.out (by omega);have hz6:W0.heap.size<=w6.heap.size:=hb6.size;clear hv6 hbq hbW hsW HV5 V4 X4 E4 Z4 A4 hA4 hE4 hW hbN4 hb6
 by_cases hcd:cd=0
 ·have HBE:Hid (GM B E=(DZ (aft B) E).1):=by unfold Hid GM;rw[HCD.out,if_pos hcd]
  obtain⟨x1,x2,x3,p1,p2,p3,hv⟩:=HV6.out hcd;have V6:=Ah hv;have A6:Hid _:=hv.box;clear hv HV6;obtain⟨Y,HY⟩:∃Y,Hid ((DZ (aft B) E).1=Y):=⟨_,rfl⟩;rw[show(DZ (aft B) E).1=Y from HY.out]at V6 A6;have y0:=AJ A6.out 0 rfl;have y1:=AJ A6.out 1 rfl;have y2:=AJ A6.out 2 rfl;have y3:=AJ A6.out 3 rfl;subst hcd
  go_wp2_with (refine AL rfl 27 (.tmp 4) (.tmp 25) rfl (w.heap.size+1+1) 0 #[.int .i64 Y.now,.slice x1 Y.svcs.length p1,.slice x2 Y.cps.length p2,.slice x3 Y.bts.length p3] rfl rfl 27 #[.int .i64 0,.slice none 0 0,.slice none 0 0,.slice none 0 0] Z6.out Tryz.infosBkX (AD rfl) (by simp[Value.oneCell']) ?_;intro w7 hz on;have Z7:Hid (w7.heap[w.heap.size+1+1]?=some (.cells #[.int .i64 Y.now,.slice x1 Y.svcs.length p1,.slice x2 Y.cps.length p2,.slice x3 Y.bts.length p3] 27 (0,0))):=hz;have HON:Hid (BA (w.heap.size+1+1) w6 w7):=on;clear hz on;clear y0 y1 y2 y3)
  exact bodyPost_ret (v:=.tuple #[.agg #[.int .i64 Y.now,.slice x1 Y.svcs.length p1,.slice x2 Y.cps.length p2,.slice x3 Y.bts.length p3],.int .i64 0]) (Au rfl _ _ (w.heap.size+1+1) _ _ _ _ rfl Z7.out Tryz.underlying27 rfl Tryz.infosBkX _ rfl) rfl ⟨x1,x2,x3,p1,p2,p3,by rw[HBE.out,HY.out],by rw[HBE.out,HY.out];exact(V6.out.rows.only HON.out Z6.out (by decide) (by decide) (by decide)).mono (by omega),hb6'.trans (HON.out.below.mono' (by omega))⟩
 ·have HBE:Hid (GM B E=B):=by unfold Hid GM;rw[HCD.out,if_neg hcd]
  have e0:=AJ X6.out 0 rfl;have e1:=AJ X6.out 1 rfl;have e2:=AJ X6.out 2 rfl;have e3:=AJ X6.out 3 rfl
  go_wp2_with fail
  refine(F3 B a1 a2 a3 c1 c2 c3 w6 hS (hB.below hb6')).mono ?_;rintro e w7 ⟨x1,p1,x2,p2,x3,p3,rfl,hr,hbq⟩;have HR7:Hid (BkOf w7 w6.heap.size B x1 x2 x3 p1 p2 p3):=hr;have Z7:Hid (w7.heap[w.heap.size+1+1]?=some (.cells #[.int .i64 0,.slice none 0 0,.slice none 0 0,.slice none 0 0] 27 (0,0))):=AK hbq Z6.out (by omega);have hb7:Below w.heap.size w w7:=hb6'.trans (hbq.mono' hb6'.size);clear hr hbq e0 e1 e2 e3
  go_wp2_with (refine AL rfl 27 (.tmp 4) (.tmp 23) rfl (w.heap.size+1+1) 0 #[.int .i64 B.now,.slice x1 B.svcs.length p1,.slice x2 B.cps.length p2,.slice x3 B.bts.length p3] rfl rfl 27 #[.int .i64 0,.slice none 0 0,.slice none 0 0,.slice none 0 0] Z7.out Tryz.infosBkX (AD rfl) (by simp[Value.oneCell']) ?_;intro w8 hz on;have Z8:Hid (w8.heap[w.heap.size+1+1]?=some (.cells #[.int .i64 B.now,.slice x1 B.svcs.length p1,.slice x2 B.cps.length p2,.slice x3 B.bts.length p3] 27 (0,0))):=hz;have HON:Hid (BA (w.heap.size+1+1) w7 w8):=on;clear hz on)
  exact bodyPost_ret (v:=.tuple #[.agg #[.int .i64 B.now,.slice x1 B.svcs.length p1,.slice x2 B.cps.length p2,.slice x3 B.bts.length p3],.int .i64 cd]) (Au rfl _ _ (w.heap.size+1+1) _ _ _ _ rfl Z8.out Tryz.underlying27 rfl Tryz.infosBkX _ rfl) rfl ⟨x1,x2,x3,p1,p2,p3,by rw[HBE.out],by rw[HBE.out];exact(HR7.out.only HON.out Z7.out (by decide) (by decide) (by decide)).mono (by omega),hb7.trans (HON.out.below.mono' (by omega))⟩
def CX(B:Bk)(E:Ev):Bk × Int:=if AX B=true then(GM B E,(DZ (aft B) E).2) else(noBk,1)
theorem Mp(B:Bk)(E:Ev)(a1 a2 a3:Option Addr)(c1 c2 c3:Nat)(w:World)(hS:B.small)(hZ:B.sized)(hV:AX B=true->0<=B.now/\B.now<=1000000/\Fit (aft B)/\Cf (aft B)/\wfC (aft B)/\GQ (aft B))(hwf:AX B=true->(Lit.int .i64 E.number).wf=true)(hE:E.sized)(hB:BkAt w a1 a2 a3 B):
  Calls Tryz.prog 5 #[.agg #[.int .i64 B.now,.slice a1 B.svcs.length c1,.slice a2 B.cps.length c2,.slice a3 B.bts.length c3],.agg #[.int .i64 E.kind,.string E.service.name,.int .i64 E.service.version,.bool E.service.gone,.int .i64 E.service.image,.int .i64 E.service.want,.int .i64 E.service.down,.int .i64 E.service.over,.int .i64 E.service.next,.int .i64 E.service.per,.int .i64 E.service.least,.int .i64 E.service.most,.int .i64 E.service.load,.int .i64 E.service.cool,.string E.name,.int .i64 E.number,.bool E.flag]] w λe w'=>∃(x1 x2 x3:Option Addr) (p1 p2 p3:Nat),e=.returned (.tuple #[.agg #[.int .i64 (CX B E).1.now,.slice x1 (CX B E).1.svcs.length p1,.slice x2 (CX B E).1.cps.length p2,.slice x3 (CX B E).1.bts.length p3],.int .i64 (CX B E).2])/\BkOf w' w.heap.size (CX B E).1 x1 x2 x3 p1 p2 p3/\Below w.heap.size w w':=by
 obtain⟨W0,hW0,t0,t1,t2,hz0,hz0',hb0⟩:=F8 w (.cells #[.int .i64 B.now,.slice a1 B.svcs.length c1,.slice a2 B.cps.length c2,.slice a3 B.bts.length c3] 27) (.cells #[.int .i64 E.kind,.string E.service.name,.int .i64 E.service.version,.bool E.service.gone,.int .i64 E.service.image,.int .i64 E.service.want,.int .i64 E.service.down,.int .i64 E.service.over,.int .i64 E.service.next,.int .i64 E.service.per,.int .i64 E.service.least,.int .i64 E.service.most,.int .i64 E.service.load,.int .i64 E.service.cool,.string E.name,.int .i64 E.number,.bool E.flag] 31) (.cells #[.int .i64 0,.slice none 0 0,.slice none 0 0,.slice none 0 0] 27);have X0:Hid _:=t0;have E0:Hid _:=t1;have Z0:Hid _:=t2;clear t0 t1 t2;go_enter Tryz.func5,Tryz.ntmps5
 go_upto_region 1 with fail
 clear hW0;have e0:=AJ X0.out 0 rfl;have e1:=AJ X0.out 1 rfl;have e2:=AJ X0.out 2 rfl;have e3:=AJ X0.out 3 rfl
 go_wp2_with fail
 refine(EM B a1 a2 a3 c1 c2 c3 W0 hS hZ (hB.below hb0)).mono ?_;rintro e w1 ⟨rfl,hbq⟩;have hb1:=hb0.trans (hbq.mono' (by have:=hb0.size;omega));have X1:Hid _:=AK hbq X0.out (by omega);have E1:Hid _:=AK hbq E0.out (by omega);have Z1:Hid _:=AK hbq Z0.out (by omega);have hz1:w.heap.size+1+1<w1.heap.size:=(AB Z1.out).1;clear hbq e0 e1 e2 e3 X0 E0 Z0 hb0 hz0 hz0';cases hv:AX B
 ·have HA:Hid (CX B E=(noBk,1)):=by unfold Hid CX;rw[hv];rfl
  clear hV
  go_wp2_with (refine AL rfl 27 (.tmp 4) (.tmp 9) rfl (w.heap.size+1+1) 0 #[.int .i64 0,.slice none 0 0,.slice none 0 0,.slice none 0 0] rfl rfl 27 #[.int .i64 0,.slice none 0 0,.slice none 0 0,.slice none 0 0] Z1.out Tryz.infosBkX (AD rfl) (by simp[Value.oneCell']) ?_;intro w2 hz on;have Z2:Hid (w2.heap[w.heap.size+1+1]?=some (.cells #[.int .i64 0,.slice none 0 0,.slice none 0 0,.slice none 0 0] 27 (0,0))):=hz;have hb2:Below w.heap.size w w2:=hb1.trans (on.below.mono' (by omega));clear hz on)
  exact bodyPost_ret (v:=.tuple #[.agg #[.int .i64 0,.slice none 0 0,.slice none 0 0,.slice none 0 0],.int .i64 1]) (Au rfl _ _ (w.heap.size+1+1) _ _ _ _ rfl Z2.out Tryz.underlying27 rfl Tryz.infosBkX _ rfl) rfl ⟨none,none,none,0,0,0,by rw[HA.out];rfl,by rw[HA.out];exact⟨.inl ⟨rfl,rfl,rfl,rfl⟩,.inl ⟨rfl,rfl,rfl,rfl⟩,.inl ⟨rfl,rfl,rfl,rfl⟩⟩,hb2⟩
 ·have HA:Hid (CX B E=(GM B E,(DZ (aft B) E).2)):=by unfold Hid CX;rw[hv];rfl
  obtain⟨hn0,hn9,hF,hP,hwc,huc⟩:=hV hv;obtain⟨Y,HY⟩:∃Y,Hid (GM B E=Y):=⟨_,rfl⟩;obtain⟨cd,HCD⟩:∃cd,Hid ((DZ (aft B) E).2=cd):=⟨_,rfl⟩;have HN9:Hid (B.now<=1000000):=hn9;have HN0:Hid (0<=B.now):=hn0;clear hV hn0 hn9;have e0:=AJ X1.out 0 rfl;have e1:=AJ X1.out 1 rfl;have e2:=AJ X1.out 2 rfl;have e3:=AJ X1.out 3 rfl;have q0:=AJ E1.out 0 rfl;have q1:=AJ E1.out 1 rfl;have q2:=AJ E1.out 2 rfl;have q3:=AJ E1.out 3 rfl;have q4:=AJ E1.out 4 rfl;have q5:=AJ E1.out 5 rfl;have q6:=AJ E1.out 6 rfl;have q7:=AJ E1.out 7 rfl;have q8:=AJ E1.out 8 rfl;have q9:=AJ E1.out 9 rfl;have q10:=AJ E1.out 10 rfl;have q11:=AJ E1.out 11 rfl;have q12:=AJ E1.out 12 rfl;have q13:=AJ E1.out 13 rfl;have q14:=AJ E1.out 14 rfl;have q15:=AJ E1.out 15 rfl;have q16:=AJ E1.out 16 rfl
  go_upto_region 3 with fail
  go_wp2_with fail
  refine(NF B E a1 a2 a3 c1 c2 c3 w1 hS HN0.out HN9.out hF hP hwc huc (hwf hv) hE (hB.below hb1)).mono ?_;rw[show GM B E=Y from HY.out,show(DZ (aft B) E).2=cd from HCD.out];rintro e w2 ⟨x1,x2,x3,p1,p2,p3,rfl,hr,hbq⟩;have HR2:Hid (BkOf w2 w1.heap.size Y x1 x2 x3 p1 p2 p3):=hr;have Z2:Hid (w2.heap[w.heap.size+1+1]?=some (.cells #[.int .i64 0,.slice none 0 0,.slice none 0 0,.slice none 0 0] 27 (0,0))):=AK hbq Z1.out (by omega);have hb2:Below w.heap.size w w2:=hb1.trans (hbq.mono' hb1.size);have hs1:w.heap.size<=w1.heap.size:=hb1.size;clear hr hbq e0 e1 e2 e3 q0 q1 q2 q3 q4 q5 q6 q7 q8 q9 q10 q11 q12 q13 q14 q15 q16
  go_wp2_with (refine AL rfl 27 (.tmp 4) (.tmp 13) rfl (w.heap.size+1+1) 0 #[.int .i64 Y.now,.slice x1 Y.svcs.length p1,.slice x2 Y.cps.length p2,.slice x3 Y.bts.length p3] rfl rfl 27 #[.int .i64 0,.slice none 0 0,.slice none 0 0,.slice none 0 0] Z2.out Tryz.infosBkX (AD rfl) (by simp[Value.oneCell']) ?_;intro w3 hz on;have Z3:Hid (w3.heap[w.heap.size+1+1]?=some (.cells #[.int .i64 Y.now,.slice x1 Y.svcs.length p1,.slice x2 Y.cps.length p2,.slice x3 Y.bts.length p3] 27 (0,0))):=hz;have HON:Hid (BA (w.heap.size+1+1) w2 w3):=on;clear hz on)
  exact bodyPost_ret (v:=.tuple #[.agg #[.int .i64 Y.now,.slice x1 Y.svcs.length p1,.slice x2 Y.cps.length p2,.slice x3 Y.bts.length p3],.int .i64 cd]) (Au rfl _ _ (w.heap.size+1+1) _ _ _ _ rfl Z3.out Tryz.underlying27 rfl Tryz.infosBkX _ rfl) rfl ⟨x1,x2,x3,p1,p2,p3,by rw[HA.out,HY.out,HCD.out],by rw[HA.out,HY.out];exact(HR2.out.only HON.out Z2.out (by decide) (by decide) (by decide)).mono hs1,hb2.trans (HON.out.below.mono' (by omega))⟩
theorem Fe{f:Nat->Bool}{n:Nat}(h:BH f n=true)(i:Nat)(hi:i<n):f i=true:=by
 unfold BH at h;exact List.all_eq_true.1 h i (List.mem_range.2 hi)
theorem adj{α:Type}{r:α->α->Bool}{l:List α}(h:l.Pairwise λa b=>r a b=true){k:Nat}{s:α}(hs:l[k]?=some s):k=0\/∀p,l[k - 1]?=some p->r p s=true:=by
 cases k with
 |zero=>exact .inl rfl
 |succ k=>
  obtain⟨hk,e2⟩:=AC hs;have h1:=List.pairwise_iff_getElem.1 h k (k+1) (by omega) hk (by omega);rw[e2]at h1;have hp:l[k+1 - 1]?=some (l[k]'(by omega)):=List.getElem?_eq_getElem (by omega);refine .inr λp hq=>?_
  rw[hp]at hq;cases hq;exact h1
theorem Ih{B:Bk}(h0:0<=B.now)(h1:B.now<=1000000)(ls:B.svcs.length<=8)(lc:B.cps.length<=200)(lb:B.bts.length<=6)(hs:∀s∈B.svcs,G6 B.now s=true)(os:B.svcs.Pairwise λa b=>Op.bytesLess a.name.toList b.name.toList=true)(hb:∀t∈B.bts,Cq t.name=true)(ob:B.bts.Pairwise λa b=>Op.bytesLess a.name.toList b.name.toList=true)(hc:∀c∈B.cps,cpB B c=true)(oc:B.cps.Pairwise λa b=>Bu a b=true):AX B=true:=by
 refine validB_iff.2 ⟨inB_iff.2 ⟨h0,h1⟩,ls,lc,lb,B6 λi _=>?_,B6 λi _=>?_,B6 λi _=>?_⟩
 ·unfold BB
  cases h:B.svcs[i]? with
  |none=>rfl
  |some s=>
   rw[Bool.and_eq_true];refine⟨hs s (AE h),?_⟩;rcases adj (r:=λa b:Svc=>Op.bytesLess a.name.toList b.name.toList) os h with e|e
   ·subst e;rfl
   ·cases hp:B.svcs[i - 1]? with
    |none=>simp
    |some p=>
     have:=e p hp;simp only[this,Bool.or_true]
 ·unfold By
  cases h:B.bts[i]? with
  |none=>rfl
  |some s=>
   rw[Bool.and_eq_true];refine⟨hb s (AE h),?_⟩;rcases adj (r:=λa b:Bt=>Op.bytesLess a.name.toList b.name.toList) ob h with e|e
   ·subst e;rfl
   ·cases hp:B.bts[i - 1]? with
    |none=>simp
    |some p=>
     have:=e p hp;simp only[this,Bool.or_true]
 ·unfold BD
  cases h:B.cps[i]? with
  |none=>rfl
  |some s=>
   rw[Bool.and_eq_true];refine⟨hc s (AE h),?_⟩;rcases adj (r:=Bu) oc h with e|e
   ·subst e;rfl
   ·cases hp:B.cps[i - 1]? with
    |none=>simp
    |some p=>
     have:=e p hp;simp only[this,Bool.or_true]
theorem Valid.pwC{B:Bk}(h:Valid B):B.cps.Pairwise λa b=>Bu a b=true:=List.pairwise_iff_getElem.2 λi j hi hj hij=>Hj (Kz h.cps) j i _ _ hij (List.getElem?_eq_getElem hi) (List.getElem?_eq_getElem hj)
theorem Valid.pwS{B:Bk}(h:Valid B):B.svcs.Pairwise λa b=>Op.bytesLess a.name.toList b.name.toList=true:=List.pairwise_iff_getElem.2 λi j hi hj hij=>Fj (Fe h.svcs) j i _ _ hij (List.getElem?_eq_getElem hi) (List.getElem?_eq_getElem hj)
theorem Valid.pwB{B:Bk}(h:Valid B):B.bts.Pairwise λa b=>Op.bytesLess a.name.toList b.name.toList=true:=List.pairwise_iff_getElem.2 λi j hi hj hij=>Gu (Fe h.bts) j i _ _ hij (List.getElem?_eq_getElem hi) (List.getElem?_eq_getElem hj)
theorem Valid.btName{B:Bk}(h:Valid B){t:Bt}(ht:t∈B.bts):Cq t.name=true:=by
 obtain⟨i,hi⟩:=List.getElem?_of_mem ht;have:=Fe h.bts i (AC hi).1;unfold By at this;rw[hi]at this;simp only[Bool.and_eq_true]at this;exact this.1
theorem G5{a b:Int}{s:Svc}(h:G6 a s=true)(hab:a<=b):G6 b s=true:=by
 unfold G6 at h ⊢;simp only[Bool.and_eq_true]at h ⊢;obtain⟨⟨⟨⟨⟨⟨⟨⟨h1,h2⟩,h3⟩,h4⟩,h5⟩,h6⟩,h7⟩,h8⟩,h9⟩:=h;exact⟨⟨⟨⟨⟨⟨⟨⟨h1,inB_iff.2 ⟨(inB_iff.1 h2).1,Int.le_trans (inB_iff.1 h2).2 hab⟩⟩,h3⟩,h4⟩,h5⟩,h6⟩,h7⟩,h8⟩,h9⟩
theorem GL{B X:Bk}{c d:Cp}(hsv:X.svcs=B.svcs)(hn:B.now<=X.now)(h1:1<=X.now)(k1:d.service=c.service)(k2:d.number=c.number)(k3:d.image=c.image)(hv:d.version=c.version\/d.version=X.now)(hst:1<=d.state/\d.state<=4)(hb:Bq X.bts d=true)(h:cpB B c=true):cpB X d=true:=by
 unfold cpB Db at h ⊢;rw[hsv,k1]
 cases hs:B.svcs.find? (λs=>s.name.toList==c.service.toList) with
 |none=>rw[hs]at h;cases h
 |some s=>
  rw[hs]at h;simp only[Bool.and_eq_true]at h ⊢;refine⟨?_,hb⟩;have h:=h.1;unfold FF at h ⊢;simp only[Bool.and_eq_true,inB_iff]at h ⊢;rw[k2,k3];refine⟨⟨⟨h.1.1.1,?_⟩,h.1.2⟩,hst⟩;rcases hv with e|e<;>rw[e]<;>omega
theorem Fa{B:Bk}{c:Cp}(h:cpB B c=true):(1<=c.state/\c.state<=4)/\Bq B.bts c=true:=by
 unfold cpB at h;split at h
 ·cases h
 ·simp only[Bool.and_eq_true]at h
  refine⟨?_,h.2⟩;have h:=h.1;unfold FF at h;simp only[Bool.and_eq_true,inB_iff]at h;exact h.2
def Hm(c:Cp):ByteArray × Int:=(c.service,c.number)
theorem pw_key{l m:List Cp}(h:l.map Hm=m.map Hm)(hl:l.Pairwise λa b=>Bu a b=true):m.Pairwise λa b=>Bu a b=true:=by
 have hl':(l.map Hm).Pairwise (λp q=>(Op.bytesLess p.1.toList q.1.toList||(p.1.toList==q.1.toList&&decide (p.2<q.2)))=true):=List.pairwise_map.2 hl;rw[h]at hl';exact List.pairwise_map.1 hl'
theorem NR{l:List Cp}{i:Nat}{c d:Cp}(h:l[i]?=some c)(hk:Hm d=Hm c):(l.set i d).map Hm=l.map Hm:=by
 rw[List.map_set,hk];exact LO (by rw[List.getElem?_map,h];rfl)
theorem Mz{B:Bk}(hV:Valid B)(hn:B.now<1000000)(nm:ByteArray)(num:Int)(h:(Bm B nm num (B.now+1)).2=0):AX (Bm B nm num (B.now+1)).1=true:=by
 have hn0:=(inB_iff.1 hV.now).1;unfold Bm at h ⊢
 cases ha:Bn (isC nm num) B.cps with
 |none=>rw[ha]at h;cases h
 |some p=>
  obtain⟨i,c⟩:=p;rw[ha]at h;obtain⟨_,hi,_⟩:=CA ha;simp only at h ⊢
  by_cases hst:c.state=3\/c.state=2
  ·rw[if_pos hst]
   refine Ih (by show 0<=B.now+1;omega) (by show B.now+1<=_;omega) hV.ls (by show(B.cps.set i _).length<=_;rw[List.length_set];exact hV.lc) hV.lb (λs hs=>G5 (IJ hV.svcs hs) (by show B.now<=B.now+1;omega)) hV.pwS (λt ht=>hV.btName ht) hV.pwB (λd hd=>?_) (pw_key (NR (d:={c with state:=4,version:=B.now+1}) hi rfl).symm hV.pwC);rcases List.mem_or_eq_of_mem_set hd with hd|hd
   ·have hc:=Hk hV.cps hd
    exact GL (B:=B) (c:=d) rfl (by show B.now<=B.now+1;omega) (by show 1<=B.now+1;omega) rfl rfl rfl (.inl rfl) (Fa hc).1 (Fa hc).2 hc
   ·have hc:=Hk hV.cps (AE hi)
    rw[hd];refine GL (B:=B) (c:=c) rfl (by show B.now<=B.now+1;omega) (by show 1<=B.now+1;omega) rfl rfl rfl (.inr rfl) ⟨by show(1:Int)<=4;omega,by show(4:Int)<=4;omega⟩ ?_ hc;have hb:=(Fa hc).2;unfold Bq at hb ⊢;rw[if_neg (by show ¬((4:Int)=1);omega)];rw[if_neg (by omega)]at hb;exact hb
  ·rw[if_neg hst]at h;cases h
theorem MT{B:Bk}(hV:Valid B)(hn:B.now<1000000)(nm:ByteArray)(h:(sinkB B nm (B.now+1)).2=0):AX (sinkB B nm (B.now+1)).1=true:=by
 have hn0:=(inB_iff.1 hV.now).1;unfold sinkB at h ⊢
 cases ha:Bn (λt:Bt=>t.name.toList==nm.toList) B.bts with
 |none=>rw[ha]at h;cases h
 |some p=>
  obtain⟨i,t⟩:=p;obtain⟨_,hi,ht⟩:=CA ha;simp only;have hsub:(B.bts.take i++B.bts.drop (i+1)).Sublist B.bts:=by rw[<-List.eraseIdx_eq_take_drop_succ];exact List.eraseIdx_sublist ..
  refine Ih (by show 0<=B.now+1;omega) (by show B.now+1<=_;omega) hV.ls (AH (List.length_filter_le ..) hV.lc) (AH hsub.length_le hV.lb) (λs hs=>G5 (IJ hV.svcs hs) (by show B.now<=B.now+1;omega)) hV.pwS (λt ht=>hV.btName (hsub.subset ht)) (hV.pwB.sublist hsub) (λd hd=>?_) (hV.pwC.sublist List.filter_sublist);obtain⟨hd,hne⟩:=List.mem_filter.1 hd;have hc:=Hk hV.cps hd;refine GL (B:=B) (c:=d) rfl (by show B.now<=B.now+1;omega) (by show 1<=B.now+1;omega) rfl rfl rfl (.inl rfl) (Fa hc).1 ?_ hc;have hb:=(Fa hc).2;unfold Bq at hb ⊢
  by_cases hs1:d.state=1
  ·rw[if_pos hs1]at hb ⊢;exact hb
  ·rw[if_neg hs1]at hb ⊢
   obtain⟨b,hbm,hbe⟩:=List.any_eq_true.1 hb;refine List.any_eq_true.2 ⟨b,?_,hbe⟩;obtain⟨j,hj⟩:=List.getElem?_of_mem hbm;rcases Nat.lt_trichotomy j i with hji|hji|hji
   ·exact List.mem_append_left _ (AE (by rw[List.getElem?_take,if_pos hji];exact hj))
   ·subst hji
    rw[hi]at hj;cases hj;rw[beq_iff_eq]at ht hbe;rw[<-hbe,ht]at hne;simp at hne
   ·exact List.mem_append_right _ (AE (i:=j - (i+1)) (by rw[List.getElem?_drop,show i+1+(j - (i+1))=j by omega];exact hj))
theorem FY{B:Bk}:∀k,(Ao B k).1=⟨#[]⟩\/∃t∈B.bts,t.name=(Ao B k).1
 |0=>.inl rfl
 |k+1=>by
  cases h:B.bts[k]? with
  |none=>
   have:Ao B (k+1)=Ao B k:=by
    unfold Ao;rw[List.take_add_one,h];simp
   rw[this];exact FY k
  |some t=>
   rw[Dh h];unfold Es;split
   ·exact .inr ⟨t,AE h,rfl⟩
   ·exact FY k
theorem Hs{B:Bk}(hV:Valid B):∀k,(∀c∈(BQ B (B.now+1) k).cps,cpB (aft B) c=true)/\(BQ B (B.now+1) k).cps.map Hm=(Bw (B.now+1) B.cps).map Hm
 |0=>by
  have hn0:=(inB_iff.1 hV.now).1;refine⟨λc hc=>?_,rfl⟩;have hc':c∈Bw (B.now+1) B.cps:=hc;unfold Bw at hc';obtain⟨d,hd,rfl⟩:=List.mem_map.1 hc';have hd:=Hk hV.cps (List.mem_filter.1 hd).1;have hi:=Fa hd;unfold Cr;split
  ·rename_i h2
   refine GL (B:=B) (c:=d) rfl (by show B.now<=B.now+1;omega) (by show 1<=B.now+1;omega) rfl rfl rfl (.inr rfl) ⟨by show(1:Int)<=3;omega,by show(3:Int)<=4;omega⟩ ?_ hd;have hb:=hi.2;unfold Bq at hb ⊢;rw[if_neg (by show ¬((3:Int)=1);omega)];rw[if_neg (by omega)]at hb;exact hb
  ·exact GL (B:=B) (c:=d) rfl (by show B.now<=B.now+1;omega) (by show 1<=B.now+1;omega) rfl rfl rfl (.inl rfl) hi.1 hi.2 hd
 |k+1=>by
  have hn0:=(inB_iff.1 hV.now).1;obtain⟨ih1,ih2⟩:=Hs hV k;rw[Cz];unfold BO;split
  ·rename_i d hd
   split
   ·rename_i hp
    refine⟨λc hc=>?_,?_⟩
    ·rcases List.mem_or_eq_of_mem_set hc with h|h
     ·exact ih1 c h
     ·rw[h]
      refine GL (B:=aft B) (c:=d) rfl (Int.le_refl _) (by show 1<=B.now+1;omega) rfl rfl rfl (.inr rfl) ⟨by show(1:Int)<=2;omega,by show(2:Int)<=4;omega⟩ ?_ (ih1 d (AE hd));unfold Bq;rw[if_neg (by show ¬((2:Int)=1);omega)];rcases FY (B:=BQ B (B.now+1) k) (BQ B (B.now+1) k).bts.length with e|⟨t,ht,e⟩
      ·exact absurd e hp.2
      ·rw[(CT B (B.now+1) k).2.2.1]at ht
       refine List.any_eq_true.2 ⟨t,ht,?_⟩;show(t.name.toList==(Bo (BQ B (B.now+1) k)).toList)=true;rw[show Bo (BQ B (B.now+1) k)=t.name from e.symm];simp
    ·exact(NR (d:={d with state:=2,berth:=Bo (BQ B (B.now+1) k),version:=B.now+1}) hd rfl).trans ih2
   ·exact⟨ih1,ih2⟩
  ·exact⟨ih1,ih2⟩
theorem MM{B:Bk}(hV:Valid B)(hn:B.now<1000000):AX {Ca B (B.now+1) with now:=B.now+1}=true:=by
 have hn0:=(inB_iff.1 hV.now).1;obtain⟨g1,g2⟩:=Hs hV (Bw (B.now+1) B.cps).length;obtain⟨s1,s2,s3,s4⟩:=CT B (B.now+1) (Bw (B.now+1) B.cps).length;have hlen:(Bw (B.now+1) B.cps).length<=B.cps.length:=by unfold Bw;rw[List.length_map];exact List.length_filter_le ..
 have hk:(Bw (B.now+1) B.cps).map Hm=(B.cps.filter λc=>!c.ending).map Hm:=by
  unfold Bw;rw[List.map_map];refine List.map_congr_left λc _=>?_
  show Hm (Cr _ c)=Hm c;unfold Cr
  split<;>rfl
 refine Ih (by show 0<=B.now+1;omega) (by show B.now+1<=_;omega) ?_ ?_ ?_ ?_ ?_ ?_ ?_ ?_ ?_
 ·show(BQ _ _ _).svcs.length<=_;rw[s2];exact hV.ls
 ·show(BQ _ _ _).cps.length<=_;rw[s4];exact AH hlen hV.lc
 ·show(BQ _ _ _).bts.length<=_;rw[s3];exact hV.lb
 ·intro s hs
  have hs:s∈(BQ B (B.now+1) (Bw (B.now+1) B.cps).length).svcs:=hs;rw[s2]at hs;exact G5 (IJ hV.svcs hs) (by show B.now<=B.now+1;omega)
 ·show(BQ _ _ _).svcs.Pairwise _;rw[s2];exact hV.pwS
 ·intro s hs
  have hs:s∈(BQ B (B.now+1) (Bw (B.now+1) B.cps).length).bts:=hs;rw[s3]at hs;exact hV.btName hs
 ·show(BQ _ _ _).bts.Pairwise _;rw[s3];exact hV.pwB
 ·intro c hc
  have h:=g1 c hc;have hi:=Fa h;exact GL (B:=aft B) (c:=c) (by show(BQ _ _ _).svcs=_;rw[s2];rfl) (Int.le_refl _) (by show 1<=B.now+1;omega) rfl rfl rfl (.inl rfl) hi.1 (by show Bq (BQ _ _ _).bts c=true;rw[s3];exact hi.2) h
 ·exact pw_key (g2.trans hk).symm (hV.pwC.sublist List.filter_sublist)
end
end Go.Proofs.YtbceafpodamnfaaGreat
