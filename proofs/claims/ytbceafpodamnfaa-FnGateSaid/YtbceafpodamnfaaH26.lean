import Derived.Test.YtbceafpodamnfaaH23
import Derived.Test.YtbceafpodamnfaaH24
import Derived.Test.YtbceafpodamnfaaH25
set_option linter.all false
set_option maxHeartbeats 16000000
set_option maxRecDepth 100000
namespace Go.Proofs.Ytbceafpodamnfaa
attribute [local simp] svV cpV zbV czV aaV ctZ ad bkV ctV acV evV
attribute [local go_sem] svV cpV zbV czV aaV ctZ ad bkV ctV acV evV
section
open Go.RowKit Go.Sort
theorem Lg:(Try.prog.info? 135).map (·.size)=some 17:=by kernel_rfl
theorem Ok(B:Bk)(E:Ev)(N g1 g2 g3 k1 k2 k3:Nat)(w:World)(hS:B.small)(hn0:0<=B.now)(hn9:B.now<1000000)(hN:N<=w.heap.size)(hB:BkRow w N g1 g2 g3 k1 k2 k3 B):
  Calls Try.prog 97 #[.agg (bkV B (ad g1) k1 (ad g2) k2 (ad g3) k3),.agg (evV E)] w (Ml g1 g2 w B E):=by
 obtain⟨kind,sv,nm,num,fl⟩:=E
 by_cases h1:kind=1
 ·subst h1;exact NK B sv nm num fl N g1 g2 g3 k1 k2 k3 _ _ _ w hS hn0 hn9 hN hB rfl rfl rfl
 by_cases h2:kind=2
 ·subst h2;exact NJ B sv nm num fl N g1 g2 g3 k1 k2 k3 _ _ _ w hS hn0 hn9 hN hB rfl rfl rfl
 by_cases h3:kind=3
 ·subst h3;exact NN B sv nm num fl N g1 g2 g3 k1 k2 k3 _ _ _ w hS hn0 hn9 hN hB rfl rfl rfl
 by_cases h4:kind=4
 ·subst h4;exact NL B sv nm num fl N g1 g2 g3 k1 k2 k3 _ _ _ w hS hn0 hn9 hN hB rfl rfl rfl
 by_cases h5:kind=5
 ·subst h5;exact ML B sv nm num fl N g1 g2 g3 k1 k2 k3 _ _ _ w hS hn0 hn9 hN hB rfl rfl rfl
 by_cases h6:kind=6
 ·subst h6;exact NM B sv nm num fl N g1 g2 g3 k1 k2 k3 _ _ _ w hS hn0 hn9 hN hB rfl rfl rfl
 exact MN B kind sv nm num fl N g1 g2 g3 k1 k2 k3 _ _ _ w hS hn0 hn9 hN hB rfl rfl rfl h1 h2 h3 h4 h5 h6
theorem Lt(B:Bk)(E:Ev)(a1 a2 a3:Option Addr)(c1 c2 c3:Nat)(w:World)(hS:B.small)(hZ:B.sized)(hE:E.sized)(hB:BkAt w a1 a2 a3 B):
  Calls Try.prog 89 #[.agg (bkV B a1 c1 a2 c2 a3 c3),.agg (evV E)] w λe w'=>∃(x1 x2 x3:Option Addr) (p1 p2 p3:Nat),e=.returned (.tuple #[.agg #[.int .i64 (Cm B E).1.now,.slice x1 (Cm B E).1.svcs.length p1,.slice x2 (Cm B E).1.cps.length p2,.slice x3 (Cm B E).1.bts.length p3],.int .i64 (Cm B E).2])/\BkAt w' x1 x2 x3 (Cm B E).1/\Below w.heap.size w w':=by
 obtain⟨W0,hW0,t0,t1,t2,hz0,hz0',hb0⟩:=Cx w (.cells (bkV B a1 c1 a2 c2 a3 c3) 27) (.cells (evV E) 135) (.cells zbV 27);have X0:Hid _:=t0;have E0:Hid _:=t1;have Z0:Hid _:=t2;clear t0 t1 t2;go_enter Try.func89,Try.ntmps89
 go_upto_region 1 with fail
 clear hW0;obtain⟨e0,e1,e2,e3⟩:=c4 X0.out
 go_wp2_with fail
 refine(Az B a1 a2 a3 c1 c2 c3 W0 hS hZ (hB.below hb0)).mono ?_;rintro e w1 ⟨rfl,hbq⟩;have hb1:=hb0.trans (hbq.mono' (by have:=hb0.size;omega));have X1:Hid _:=AL hbq X0.out (by omega);have E1:Hid _:=AL hbq E0.out (by omega);have Z1:Hid _:=AL hbq Z0.out (by omega);have hz1:w.heap.size+1+1<w1.heap.size:=(AB Z1.out).1;clear hbq e0 e1 e2 e3 X0 E0 Z0 hb0 hz0 hz0';cases hv:Au B
 ·have HA:Hid (Cm B E=(noBk,1)):=by unfold Hid Cm;rw[hv];rfl
  go_wp2_with (refine AM rfl 27 (.tmp 4) (.tmp 11) rfl (w.heap.size+1+1) 0 zbV rfl rfl 27 zbV Z1.out AQ (AD rfl) (by simp[Value.oneCell']) ?_;intro w2 hz on;have Z2:Hid (Bl w2 (w.heap.size+1+1) zbV 27):=hz;have hb2:=hb1.trans (on.below.mono' (by omega));have HON:Hid (Bj (w.heap.size+1+1) w1 w2):=on;clear hz on)
  exact bodyPost_ret (v:=.tuple #[.agg zbV,.int .i64 1]) (Ah rfl _ _ (w.heap.size+1+1) _ _ _ _ rfl Z2.out Try.underlying27 rfl AQ _ rfl) rfl ⟨none,none,none,0,0,0,by rw[HA.out];rfl,by rw[HA.out];exact⟨λh=>absurd rfl h,λh=>absurd rfl h,λh=>absurd rfl h⟩,hb2⟩
 ·have hV:=hv
  have e0:=AK X1.out 0 rfl;have hn0:0<=B.now/\B.now<=1000000:=by unfold Au at hV;simp only[Bool.and_eq_true,inB,decide_eq_true_eq]at hV;omega
  obtain⟨hn0,hn1⟩:=hn0
  by_cases hn9:1000000<=B.now
  ·have k0:=AK E1.out 0 rfl
   go_upto_region 4 with fail
   go_wp2_with fail
   refine(Dz E.kind 1 6 w1).mono ?_;rintro e w2 ⟨rfl,hbq⟩;have hb2:=hb1.trans (hbq.mono' (by have:=hb1.size;omega));have X2:Hid _:=AL hbq X1.out (by omega);have E2:Hid _:=AL hbq E1.out (by omega);have Z2:Hid _:=AL hbq Z1.out (by omega);have hz2:w.heap.size+1+1<w2.heap.size:=(AB Z2.out).1;clear hbq k0 e0 X1 E1 Z1 hb1 hz1;obtain⟨e0,e1,e2,e3⟩:=c4 X2.out;cases hk:inB E.kind 1 6
   ·have HA:Hid (Cm B E=(B,4)):=by unfold Hid Cm;rw[if_pos hv,if_pos hn9,hk];rfl
    go_wp2_with fail
    refine(CP B a1 a2 a3 c1 c2 c3 w2 hS (hB.below hb2)).mono ?_;rintro e w3 ⟨r1,p1,r2,p2,r3,p3,rfl,hrw,hbq⟩;have hb3:=hb2.trans (hbq.mono' (by have:=hb2.size;omega));have X3:Hid _:=AL hbq X2.out (by omega);have E3:Hid _:=AL hbq E2.out (by omega);have Z3:Hid _:=AL hbq Z2.out (by omega);have hz3:w.heap.size+1+1<w3.heap.size:=(AB Z3.out).1;have HRW:Hid _:=hrw;clear hrw hbq e0 e1 e2 e3
    go_wp2_with (refine AM rfl 27 (.tmp 4) (.tmp 20) rfl (w.heap.size+1+1) 0 (bkV B (ad r1) p1 (ad r2) p2 (ad r3) p3) rfl rfl 27 zbV Z3.out AQ (AD rfl) (by simp[Value.oneCell']) ?_;intro w4 hz on;have Z4:Hid (Bl w4 (w.heap.size+1+1) (bkV B (ad r1) p1 (ad r2) p2 (ad r3) p3) 27):=hz;have hb4:=hb3.trans (on.below.mono' (by omega));have HON:Hid (Bj (w.heap.size+1+1) w3 w4):=on;clear hz on)
    exact bodyPost_ret (v:=.tuple #[.agg (bkV B (ad r1) p1 (ad r2) p2 (ad r3) p3),.int .i64 4]) (Ah rfl _ _ (w.heap.size+1+1) _ _ _ _ rfl Z4.out Try.underlying27 rfl AQ _ rfl) rfl ⟨some ⟨r1,0,none⟩,some ⟨r2,0,none⟩,some ⟨r3,0,none⟩,p1,p2,p3,by rw[HA.out],by rw[HA.out];exact⟨(HRW.out.svcs.blk (HON.out.other r1 (by have:=HRW.out.n1;omega))).slS,(HRW.out.cps.blk (HON.out.other r2 (by have:=HRW.out.n2;omega))).slC,(HRW.out.bts.blk (HON.out.other r3 (by have:=HRW.out.n3;omega))).slB⟩,hb4⟩
   ·have HA:Hid (Cm B E=(B,7)):=by unfold Hid Cm;rw[if_pos hv,if_pos hn9,hk];rfl
    go_wp2_with fail
    refine(CP B a1 a2 a3 c1 c2 c3 w2 hS (hB.below hb2)).mono ?_;rintro e w3 ⟨r1,p1,r2,p2,r3,p3,rfl,hrw,hbq⟩;have hb3:=hb2.trans (hbq.mono' (by have:=hb2.size;omega));have X3:Hid _:=AL hbq X2.out (by omega);have E3:Hid _:=AL hbq E2.out (by omega);have Z3:Hid _:=AL hbq Z2.out (by omega);have hz3:w.heap.size+1+1<w3.heap.size:=(AB Z3.out).1;have HRW:Hid _:=hrw;clear hrw hbq e0 e1 e2 e3
    go_wp2_with (refine AM rfl 27 (.tmp 4) (.tmp 22) rfl (w.heap.size+1+1) 0 (bkV B (ad r1) p1 (ad r2) p2 (ad r3) p3) rfl rfl 27 zbV Z3.out AQ (AD rfl) (by simp[Value.oneCell']) ?_;intro w4 hz on;have Z4:Hid (Bl w4 (w.heap.size+1+1) (bkV B (ad r1) p1 (ad r2) p2 (ad r3) p3) 27):=hz;have hb4:=hb3.trans (on.below.mono' (by omega));have HON:Hid (Bj (w.heap.size+1+1) w3 w4):=on;clear hz on)
    exact bodyPost_ret (v:=.tuple #[.agg (bkV B (ad r1) p1 (ad r2) p2 (ad r3) p3),.int .i64 7]) (Ah rfl _ _ (w.heap.size+1+1) _ _ _ _ rfl Z4.out Try.underlying27 rfl AQ _ rfl) rfl ⟨some ⟨r1,0,none⟩,some ⟨r2,0,none⟩,some ⟨r3,0,none⟩,p1,p2,p3,by rw[HA.out],by rw[HA.out];exact⟨(HRW.out.svcs.blk (HON.out.other r1 (by have:=HRW.out.n1;omega))).slS,(HRW.out.cps.blk (HON.out.other r2 (by have:=HRW.out.n2;omega))).slC,(HRW.out.bts.blk (HON.out.other r3 (by have:=HRW.out.n3;omega))).slB⟩,hb4⟩
  ·have hn9':B.now<1000000:=by omega
   have HV:Hid (Au B=true):=hv;have HSA:Hid (Cm B E=(if(AY B E).2=0 then(if Au (AY B E).1=true then((AY B E).1,0) else(B,2)) else(B,(AY B E).2))):=by unfold Hid Cm;rw[if_pos hv,if_neg hn9]
   clear hV hv hn9;have hn9:=hn9';clear hn9'
   go_upto_region 7 with fail
   clear e0;refine Ft 9 3 [[],[0],[],[1,2],[3],[4],[4],[],[5,7]] [3,8] [1,3,4,5,7,8] [8] [(3,7),(8,4)] (λi W W2=>if i=3 then ∀(b:Nat) cs fr,W.heap[b]?=some (.cells cs 27 fr)->W2.heap[b]?=W.heap[b]? else ∀(b:Nat) cs t fr,t≠27->W.heap[b]?=some (.cells cs t fr)->W2.heap[b]?=W.heap[b]?) (by kernel_rfl) (by kernel_rfl) (by kernel_rfl) ?_;apply ES (by kernel_rfl)
   ·intro V W K A hW hd hA hK
    simp only[pA]at hA;clear hd;obtain rfl:=hA;refine wpList_load_row rfl 27 (.tmp 2) rfl w.heap.size rfl 27 (bkV B a1 c1 a2 c2 a3 c3) (0,0) _ (AL hW X1.out (by omega)) Try.underlying27 rfl AQ ?_;go_wp2;exact hK.out _ brf
   refine DO (λvv W=>∃g1 k1 g2 k2 g3 k3,vv=.agg (bkV B (ad g1) k1 (ad g2) k2 (ad g3) k3)/\BkRow W w1.heap.size g1 g2 g3 k1 k2 k3 B) (λv W W2 ⟨g1,k1,g2,k2,g3,k3,h,hr⟩ hb=>⟨g1,k1,g2,k2,g3,k3,h,hr.n1,hr.n2,hr.n3,hr.svcs.below hb hr.svcs.lt,hr.cps.below hb hr.cps.lt,hr.bts.below hb hr.bts.lt⟩) (by kernel_rfl) (by kernel_rfl) ?_ ?_
   ·intro V W K A hW hd hA hK
    have d0:V 0=_:=hd 0 (by kernel_rfl);simp only[pA,d0]at hA;clear hd d0;obtain rfl:=hA
    go_wp2_with fail
    refine(CP B a1 a2 a3 c1 c2 c3 W hS ((hB.below hb1).below hW)).mono ?_;rintro e w2 ⟨g1,k1,g2,k2,g3,k3,rfl,hrw,hbq⟩;have HRW:Hid _:=hrw;have hsz:=hW.size;clear hrw;go_wp2;exact hK.out _ _ hbq ⟨g1,k1,g2,k2,g3,k3,rfl,AH hsz HRW.out.n1,AH hsz HRW.out.n2,AH hsz HRW.out.n3,HRW.out.svcs,HRW.out.cps,HRW.out.bts⟩
   apply ES (by kernel_rfl)
   ·intro V W K A hW hd hA hK
    simp only[pA]at hA;clear hd;obtain rfl:=hA;refine wpList_load_row rfl 135 (.tmp 3) rfl (w.heap.size+1) rfl 135 (evV E) (0,0) _ (AL hW E1.out (by omega)) Try.underlying135 rfl Lg ?_;go_wp2;exact hK.out _ brf
   refine JY (λ(_:Nat->Value) vv W=>∃(q:Int) (b1 b2 b3:Nat) (m1 d1 m2 d2 m3 d3:Nat),vv=.tuple #[.agg #[.int .i64 q,.slice (ad b1) m1 d1,.slice (ad b2) m2 d2,.slice (ad b3) m3 d3],.int .i64 (AY B E).2]/\((AY B E).2=0->q=(AY B E).1.now/\m1=(AY B E).1.svcs.length/\m2=(AY B E).1.cps.length/\m3=(AY B E).1.bts.length/\RowIs W 63 13 b1 m1 d1 (AU (AY B E).1.svcs)/\RowIs W 35 7 b2 m2 d2 (Ag (AY B E).1.cps)/\RowIs W 74 2 b3 m3 d3 (Af (AY B E).1.bts))) (λ_ v W W2 ⟨q,b1,b2,b3,m1,d1,m2,d2,m3,d3,h,hm⟩ hb=>⟨q,b1,b2,b3,m1,d1,m2,d2,m3,d3,h,λh0=>⟨(hm h0).1,(hm h0).2.1,(hm h0).2.2.1,(hm h0).2.2.2.1,(hm h0).2.2.2.2.1.below hb (hm h0).2.2.2.2.1.lt,(hm h0).2.2.2.2.2.1.below hb (hm h0).2.2.2.2.2.1.lt,(hm h0).2.2.2.2.2.2.below hb (hm h0).2.2.2.2.2.2.lt⟩⟩) (λ_ _ _ _ _ h=>h) (by kernel_rfl) (by kernel_rfl) ?_ ?_
   ·intro V W K A hW hd hA hK
    have d1:(λvv W=>∃g1 k1 g2 k2 g3 k3,vv=.agg (bkV B (ad g1) k1 (ad g2) k2 (ad g3) k3)/\BkRow W w1.heap.size g1 g2 g3 k1 k2 k3 B) (V 1) W:=hd 1 (by kernel_rfl);have d2:V 2=_:=hd 2 (by kernel_rfl);simp only[pA]at hA;clear hd;generalize hV0:V 0=x0 at hA hK;generalize hV1:V 1=x1 at d1 hA hK;generalize hV2:V 2=x2 at d2 hA hK;generalize hV3:V 3=x3 at hA hK;generalize hV4:V 4=x4 at hA hK;generalize hV5:V 5=x5 at hA hK;generalize hV6:V 6=x6 at hA hK;generalize hV7:V 7=x7 at hA hK;generalize hV8:V 8=x8 at hA hK;subst d2;obtain rfl:=hA;obtain⟨g1,k1,g2,k2,g3,k3,rfl,hrw⟩:=d1;have HRW:Hid _:=hrw;have hsz:=hW.size;clear hrw
    go_wp2_with fail
    refine(Ok B E w1.heap.size g1 g2 g3 k1 k2 k3 W hS hn0 hn9 hsz HRW.out).mono ?_;rintro e w2 ⟨q,b1,b2,b3,m1,d1,m2,d2,m3,d3,rfl,hm,hkp⟩;have HM:Hid _:=hm;have HKP:Hid _:=hkp;clear hm hkp;go_wp2;refine hK.out _ _ ?_ (HKP.out.below HRW.out.n1 HRW.out.n2 hsz) ⟨q,b1,b2,b3,m1,d1,m2,d2,m3,d3,rfl,HM.out⟩;show ∀(b:Nat) cs fr,W.heap[b]?=some (.cells cs 27 fr)->w2.heap[b]?=W.heap[b]?;intro b cs fr hb;refine HKP.out.block b (AB hb).1 (λe=>?_) (λe=>?_)
    ·obtain⟨_,_,cur,h1,_⟩:=HRW.out.svcs
     rw[e,h1]at hb;cases hb
    ·obtain⟨_,_,cur,h1,_⟩:=HRW.out.cps
     rw[e,h1]at hb;cases hb
   refine DO (λvv W=>∃(q:Int) (b1 b2 b3:Nat) (m1 d1 m2 d2 m3 d3:Nat),vv=.tuple #[.agg #[.int .i64 q,.slice (ad b1) m1 d1,.slice (ad b2) m2 d2,.slice (ad b3) m3 d3],.int .i64 (AY B E).2]/\((AY B E).2=0->q=(AY B E).1.now/\m1=(AY B E).1.svcs.length/\m2=(AY B E).1.cps.length/\m3=(AY B E).1.bts.length/\RowIs W 63 13 b1 m1 d1 (AU (AY B E).1.svcs)/\RowIs W 35 7 b2 m2 d2 (Ag (AY B E).1.cps)/\RowIs W 74 2 b3 m3 d3 (Af (AY B E).1.bts))) (λv W W2 ⟨q,b1,b2,b3,m1,d1,m2,d2,m3,d3,h,hm⟩ hb=>⟨q,b1,b2,b3,m1,d1,m2,d2,m3,d3,h,λh0=>⟨(hm h0).1,(hm h0).2.1,(hm h0).2.2.1,(hm h0).2.2.2.1,(hm h0).2.2.2.2.1.below hb (hm h0).2.2.2.2.1.lt,(hm h0).2.2.2.2.2.1.below hb (hm h0).2.2.2.2.2.1.lt,(hm h0).2.2.2.2.2.2.below hb (hm h0).2.2.2.2.2.2.lt⟩⟩) (by kernel_rfl) (by kernel_rfl) ?_ ?_
   ·intro V W K A hW hd hA hK
    have d3:(λ(_:Nat->Value) vv W=>∃(q:Int) (b1 b2 b3:Nat) (m1 d1 m2 d2 m3 d3:Nat),vv=.tuple #[.agg #[.int .i64 q,.slice (ad b1) m1 d1,.slice (ad b2) m2 d2,.slice (ad b3) m3 d3],.int .i64 (AY B E).2]/\((AY B E).2=0->q=(AY B E).1.now/\m1=(AY B E).1.svcs.length/\m2=(AY B E).1.cps.length/\m3=(AY B E).1.bts.length/\RowIs W 63 13 b1 m1 d1 (AU (AY B E).1.svcs)/\RowIs W 35 7 b2 m2 d2 (Ag (AY B E).1.cps)/\RowIs W 74 2 b3 m3 d3 (Af (AY B E).1.bts))) V (V 3) W:=hd 3 (by kernel_rfl);simp only[pA]at hA;clear hd;generalize V 3=x3 at d3 hA;obtain rfl:=hA;obtain⟨q,b1,b2,b3,m1,d1,m2,d2,m3,d3,rfl,hm⟩:=d3;have HM:Hid _:=hm;clear hm;go_wp2;exact hK.out _ _ brf ⟨q,b1,b2,b3,m1,d1,m2,d2,m3,d3,rfl,HM.out⟩
   refine DO (λvv W=>∃(q:Int) (b1 b2 b3:Nat) (m1 d1 m2 d2 m3 d3:Nat),vv=.agg #[.int .i64 q,.slice (ad b1) m1 d1,.slice (ad b2) m2 d2,.slice (ad b3) m3 d3]/\((AY B E).2=0->q=(AY B E).1.now/\m1=(AY B E).1.svcs.length/\m2=(AY B E).1.cps.length/\m3=(AY B E).1.bts.length/\RowIs W 63 13 b1 m1 d1 (AU (AY B E).1.svcs)/\RowIs W 35 7 b2 m2 d2 (Ag (AY B E).1.cps)/\RowIs W 74 2 b3 m3 d3 (Af (AY B E).1.bts))) (λv W W2 ⟨q,b1,b2,b3,m1,d1,m2,d2,m3,d3,h,hm⟩ hb=>⟨q,b1,b2,b3,m1,d1,m2,d2,m3,d3,h,λh0=>⟨(hm h0).1,(hm h0).2.1,(hm h0).2.2.1,(hm h0).2.2.2.1,(hm h0).2.2.2.2.1.below hb (hm h0).2.2.2.2.1.lt,(hm h0).2.2.2.2.2.1.below hb (hm h0).2.2.2.2.2.1.lt,(hm h0).2.2.2.2.2.2.below hb (hm h0).2.2.2.2.2.2.lt⟩⟩) (by kernel_rfl) (by kernel_rfl) ?_ ?_
   ·intro V W K A hW hd hA hK
    have d4:(λvv W=>∃(q:Int) (b1 b2 b3:Nat) (m1 d1 m2 d2 m3 d3:Nat),vv=.tuple #[.agg #[.int .i64 q,.slice (ad b1) m1 d1,.slice (ad b2) m2 d2,.slice (ad b3) m3 d3],.int .i64 (AY B E).2]/\((AY B E).2=0->q=(AY B E).1.now/\m1=(AY B E).1.svcs.length/\m2=(AY B E).1.cps.length/\m3=(AY B E).1.bts.length/\RowIs W 63 13 b1 m1 d1 (AU (AY B E).1.svcs)/\RowIs W 35 7 b2 m2 d2 (Ag (AY B E).1.cps)/\RowIs W 74 2 b3 m3 d3 (Af (AY B E).1.bts))) (V 4) W:=hd 4 (by kernel_rfl);simp only[pA]at hA;clear hd;generalize V 4=x4 at d4 hA;obtain rfl:=hA;obtain⟨q,b1,b2,b3,m1,d1,m2,d2,m3,d3,rfl,hm⟩:=d4;have HM:Hid _:=hm;clear hm;go_wp2;exact hK.out _ _ brf ⟨q,b1,b2,b3,m1,d1,m2,d2,m3,d3,rfl,HM.out⟩
   apply ES (by kernel_rfl)
   ·intro V W K A hW hd hA hK
    have d4:(λvv W=>∃(q:Int) (b1 b2 b3:Nat) (m1 d1 m2 d2 m3 d3:Nat),vv=.tuple #[.agg #[.int .i64 q,.slice (ad b1) m1 d1,.slice (ad b2) m2 d2,.slice (ad b3) m3 d3],.int .i64 (AY B E).2]/\((AY B E).2=0->q=(AY B E).1.now/\m1=(AY B E).1.svcs.length/\m2=(AY B E).1.cps.length/\m3=(AY B E).1.bts.length/\RowIs W 63 13 b1 m1 d1 (AU (AY B E).1.svcs)/\RowIs W 35 7 b2 m2 d2 (Ag (AY B E).1.cps)/\RowIs W 74 2 b3 m3 d3 (Af (AY B E).1.bts))) (V 4) W:=hd 4 (by kernel_rfl);simp only[pA]at hA;clear hd;generalize V 4=x4 at d4 hA;obtain rfl:=hA;obtain⟨q,b1,b2,b3,m1,d1,m2,d2,m3,d3,rfl,hm⟩:=d4;clear hm;go_wp2;exact hK.out _ brf
   refine DO (λvv W=>∃b,vv=.pointer (ad b)/\w1.heap.size<=b/\Bl W b zbV 27) (λv W W2 ⟨b,h1,h2,h3⟩ hb=>⟨b,h1,h2,AL hb h3 (AB h3).1⟩) (by kernel_rfl) (by kernel_rfl) ?_ ?_
   ·intro V W K A hW hd hA hK
    simp only[pA]at hA;clear hd;obtain rfl:=hA;go_wp2;exact hK.out _ _ (AO W _) ⟨_,rfl,hW.size,heap_alloc_new W _⟩
   refine JY (λV (_:Value) W=>∃(b:Nat) (q:Int) (b1 b2 b3:Nat) (m1 d1 m2 d2 m3 d3:Nat),V 7=.pointer (ad b)/\w1.heap.size<=b/\Bl W b #[.int .i64 q,.slice (ad b1) m1 d1,.slice (ad b2) m2 d2,.slice (ad b3) m3 d3] 27/\((AY B E).2=0->q=(AY B E).1.now/\m1=(AY B E).1.svcs.length/\m2=(AY B E).1.cps.length/\m3=(AY B E).1.bts.length/\RowIs W 63 13 b1 m1 d1 (AU (AY B E).1.svcs)/\RowIs W 35 7 b2 m2 d2 (Ag (AY B E).1.cps)/\RowIs W 74 2 b3 m3 d3 (Af (AY B E).1.bts))) (λV v W W2 ⟨b,q,b1,b2,b3,m1,d1,m2,d2,m3,d3,hv,hn,h,hm⟩ hb=>⟨b,q,b1,b2,b3,m1,d1,m2,d2,m3,d3,hv,hn,AL hb h (AB h).1,λh0=>⟨(hm h0).1,(hm h0).2.1,(hm h0).2.2.1,(hm h0).2.2.2.1,(hm h0).2.2.2.2.1.below hb (hm h0).2.2.2.2.1.lt,(hm h0).2.2.2.2.2.1.below hb (hm h0).2.2.2.2.2.1.lt,(hm h0).2.2.2.2.2.2.below hb (hm h0).2.2.2.2.2.2.lt⟩⟩) (λv V V2 W hVV ⟨b,q,b1,b2,b3,m1,d1,m2,d2,m3,d3,hv,hr⟩=>⟨b,q,b1,b2,b3,m1,d1,m2,d2,m3,d3,(hVV 7 rfl).symm.trans hv,hr⟩) (by kernel_rfl) (by kernel_rfl) ?_ ?_
   ·intro V W K A hW hd hA hK
    have d5:(λvv W=>∃(q:Int) (b1 b2 b3:Nat) (m1 d1 m2 d2 m3 d3:Nat),vv=.agg #[.int .i64 q,.slice (ad b1) m1 d1,.slice (ad b2) m2 d2,.slice (ad b3) m3 d3]/\((AY B E).2=0->q=(AY B E).1.now/\m1=(AY B E).1.svcs.length/\m2=(AY B E).1.cps.length/\m3=(AY B E).1.bts.length/\RowIs W 63 13 b1 m1 d1 (AU (AY B E).1.svcs)/\RowIs W 35 7 b2 m2 d2 (Ag (AY B E).1.cps)/\RowIs W 74 2 b3 m3 d3 (Af (AY B E).1.bts))) (V 5) W:=hd 5 (by kernel_rfl);have d7:(λvv W=>∃b,vv=.pointer (ad b)/\w1.heap.size<=b/\Bl W b zbV 27) (V 7) W:=hd 7 (by kernel_rfl);simp only[pA]at hA;clear hd;generalize hV0:V 0=x0 at hA hK;generalize hV1:V 1=x1 at hA hK;generalize hV2:V 2=x2 at hA hK;generalize hV3:V 3=x3 at hA hK;generalize hV4:V 4=x4 at hA hK;generalize hV5:V 5=x5 at d5 hA hK;generalize hV6:V 6=x6 at hA hK;generalize hV7:V 7=x7 at d7 hA hK;generalize hV8:V 8=x8 at hA hK;obtain rfl:=hA;obtain⟨q,b1,b2,b3,m1,d1,m2,d2,m3,d3,rfl,hm⟩:=d5;obtain⟨b,rfl,hbN,hbz⟩:=d7;have HM:Hid _:=hm;have hsz:=hW.size;clear hm hV0 hV1 hV2 hV3 hV4 hV5 hV6 hV7 hV8;refine AM rfl 27 (.tmp 6) (.tmp 28) rfl b 0 #[.int .i64 q,.slice (ad b1) m1 d1,.slice (ad b2) m2 d2,.slice (ad b3) m3 d3] rfl rfl 27 zbV hbz AQ (AD rfl) (by simp[Value.oneCell']) ?_;intro w2 hz on;have HZ2:Hid (Bl w2 b #[.int .i64 q,.slice (ad b1) m1 d1,.slice (ad b2) m2 d2,.slice (ad b3) m3 d3] 27):=hz;have HON:Hid (Bj b W w2):=on;have HBZ:Hid _:=hbz;clear hz on hbz;go_wp2
    have HNE:∀(t:TypeId) (c n cap sz:Nat) (xs:List Value),RowIs W t sz c n cap xs->t≠27->c≠b:=λt c n cap sz xs hr ht e=>by
     obtain⟨_,_,cur,h1,_⟩:=hr;rw[e,HBZ.out]at h1;injection h1 with h1
     injection h1 with _ h1
     exact ht h1.symm
    refine hK.out undef _ ?_ (HON.out.below.mono' (by omega)) ⟨b,q,b1,b2,b3,m1,d1,m2,d2,m3,d3,rfl,hbN,HZ2.out,λh0=>⟨(HM.out h0).1,(HM.out h0).2.1,(HM.out h0).2.2.1,(HM.out h0).2.2.2.1,(HM.out h0).2.2.2.2.1.blk (HON.out.other _ (HNE _ _ _ _ _ _ (HM.out h0).2.2.2.2.1 (by decide))),(HM.out h0).2.2.2.2.2.1.blk (HON.out.other _ (HNE _ _ _ _ _ _ (HM.out h0).2.2.2.2.2.1 (by decide))),(HM.out h0).2.2.2.2.2.2.blk (HON.out.other _ (HNE _ _ _ _ _ _ (HM.out h0).2.2.2.2.2.2 (by decide)))⟩⟩;show ∀(c:Nat) cs t fr,t≠27->W.heap[c]?=some (.cells cs t fr)->w2.heap[c]?=W.heap[c]?;intro c cs t fr ht hc;refine HON.out.other c (λe=>?_);rw[e,HBZ.out]at hc;injection hc with hc
    injection hc with _ hc
    exact ht hc.symm
   refine⟨λi j hk V v W W' hr hq=>?_,?_⟩
   ·simp only[List.contains_cons,List.contains_nil,Bool.or_false,Bool.or_eq_true,beq_iff_eq,Prod.mk.injEq]at hk
    rcases hk with⟨rfl,rfl⟩|⟨rfl,rfl⟩
    ·have hq':(λvv W=>∃b,vv=.pointer (ad b)/\w1.heap.size<=b/\Bl W b zbV 27) (v) W:=hq
     show(λvv W=>∃b,vv=.pointer (ad b)/\w1.heap.size<=b/\Bl W b zbV 27) (v) W';clear hq;obtain⟨b,h1,h2,h3⟩:=hq';exact⟨b,h1,h2,((show ∀(b:Nat) cs fr,W.heap[b]?=some (.cells cs 27 fr)->W'.heap[b]?=W.heap[b]? from hr) b _ _ h3).trans h3⟩
    ·have hq':(λvv W=>∃(q:Int) (b1 b2 b3:Nat) (m1 d1 m2 d2 m3 d3:Nat),vv=.tuple #[.agg #[.int .i64 q,.slice (ad b1) m1 d1,.slice (ad b2) m2 d2,.slice (ad b3) m3 d3],.int .i64 (AY B E).2]/\((AY B E).2=0->q=(AY B E).1.now/\m1=(AY B E).1.svcs.length/\m2=(AY B E).1.cps.length/\m3=(AY B E).1.bts.length/\RowIs W 63 13 b1 m1 d1 (AU (AY B E).1.svcs)/\RowIs W 35 7 b2 m2 d2 (Ag (AY B E).1.cps)/\RowIs W 74 2 b3 m3 d3 (Af (AY B E).1.bts))) (v) W:=hq
     show(λvv W=>∃(q:Int) (b1 b2 b3:Nat) (m1 d1 m2 d2 m3 d3:Nat),vv=.tuple #[.agg #[.int .i64 q,.slice (ad b1) m1 d1,.slice (ad b2) m2 d2,.slice (ad b3) m3 d3],.int .i64 (AY B E).2]/\((AY B E).2=0->q=(AY B E).1.now/\m1=(AY B E).1.svcs.length/\m2=(AY B E).1.cps.length/\m3=(AY B E).1.bts.length/\RowIs W 63 13 b1 m1 d1 (AU (AY B E).1.svcs)/\RowIs W 35 7 b2 m2 d2 (Ag (AY B E).1.cps)/\RowIs W 74 2 b3 m3 d3 (Af (AY B E).1.bts))) (v) W';clear hq;obtain⟨q,b1,b2,b3,m1,d1,m2,d2,m3,d3,h,hm⟩:=hq';have hr':∀(b:Nat) cs t fr,t≠27->W.heap[b]?=some (.cells cs t fr)->W'.heap[b]?=W.heap[b]?:=hr
     have kr:∀t g sz n cap xs,t≠27->RowIs W t sz g n cap xs->RowIs W' t sz g n cap xs:=λt g sz n cap xs ht h=>by
      obtain⟨_,_,cur,h1,_⟩:=id h;exact h.blk (hr' g _ t _ ht h1)
     exact⟨q,b1,b2,b3,m1,d1,m2,d2,m3,d3,h,λh0=>⟨(hm h0).1,(hm h0).2.1,(hm h0).2.2.1,(hm h0).2.2.2.1,kr _ _ _ _ _ _ (by decide) (hm h0).2.2.2.2.1,kr _ _ _ _ _ _ (by decide) (hm h0).2.2.2.2.2.1,kr _ _ _ _ _ _ (by decide) (hm h0).2.2.2.2.2.2⟩⟩
   intro V W A hW hS hA;have d0:V 0=_:=hS 0 (by omega) (.inr (by kernel_rfl));have d2:V 2=_:=hS 2 (by omega) (.inr (by kernel_rfl));have d6:V 6=_:=hS 6 (by omega) (.inr (by kernel_rfl));have d8:(λV (_:Value) W=>∃(b:Nat) (q:Int) (b1 b2 b3:Nat) (m1 d1 m2 d2 m3 d3:Nat),V 7=.pointer (ad b)/\w1.heap.size<=b/\Bl W b #[.int .i64 q,.slice (ad b1) m1 d1,.slice (ad b2) m2 d2,.slice (ad b3) m3 d3] 27/\((AY B E).2=0->q=(AY B E).1.now/\m1=(AY B E).1.svcs.length/\m2=(AY B E).1.cps.length/\m3=(AY B E).1.bts.length/\RowIs W 63 13 b1 m1 d1 (AU (AY B E).1.svcs)/\RowIs W 35 7 b2 m2 d2 (Ag (AY B E).1.cps)/\RowIs W 74 2 b3 m3 d3 (Af (AY B E).1.bts))) V (V 8) W:=hS 8 (by omega) (.inl (by kernel_rfl));simp only[pA,d0,d2,d6]at hA;dsimp only at d8;clear hS d0 d2 d6;generalize V 7=x7 at d8 hA;generalize V 8=x8 at d8 hA;obtain rfl:=hA;simp only[List.drop_succ_cons,List.drop_zero];obtain⟨b,q,b1,b2,b3,m1,d1,m2,d2,m3,d3,hv7,hbN,hbz,hm⟩:=d8;subst hv7;have HBZ:Hid _:=hbz;have HM:Hid _:=hm;clear hbz hm;have hbW:=hb1.trans (hW.mono' (by have:=hb1.size;omega));have XW:Hid _:=AL hW X1.out (by omega);have EW:Hid _:=AL hW E1.out (by omega);have ZW:Hid _:=AL hW Z1.out (by omega);have hzW:w.heap.size+1+1<W.heap.size:=(AB ZW.out).1;have hbl:=(AB HBZ.out).1;clear hW X1 E1 Z1 hb1
   by_cases h0:(AY B E).2=0
   ·obtain⟨rfl,rfl,rfl,rfl,r1,r2,r3⟩:=HM.out h0
    have R1:=hidOf r1;have R2:=hidOf r2;have R3:=hidOf r3;have H0:Hid _:=h0;clear r1 r2 r3 HM;rw[h0];clear h0;obtain⟨y0,y1,y2,y3⟩:=c4 HBZ.out
    go_wp2_with fail
    refine(Az (AY B E).1 (ad b1) (ad b2) (ad b3) d1 d2 d3 W (GD HV.out) (IS HV.out hZ hE) ⟨R1.out.slS,R2.out.slC,R3.out.slB⟩).mono ?_;rintro e w2 ⟨rfl,hbq⟩;have hb2:=hbW.trans (hbq.mono' (by have:=hbW.size;omega));have X2:Hid _:=AL hbq XW.out (by omega);have E2:Hid _:=AL hbq EW.out (by omega);have Z2:Hid _:=AL hbq ZW.out (by omega);have hz2:w.heap.size+1+1<w2.heap.size:=(AB Z2.out).1;have BZ2:Hid _:=AL hbq HBZ.out hbl;have HC2:Hid (BkAt w2 (ad b1) (ad b2) (ad b3) (AY B E).1):=BkAt.below ⟨R1.out.slS,R2.out.slC,R3.out.slB⟩ hbq;clear hbq y0 y1 y2 y3 XW EW ZW hbW HBZ R1 R2 R3;cases hvc:Au (AY B E).1
    ·have HA:Hid (Cm B E=(B,2)):=by unfold Hid;rw[HSA.out,if_pos H0.out,if_neg (by rw[hvc];simp)]
     obtain⟨e0,e1,e2,e3⟩:=c4 X2.out
     go_wp2_with fail
     refine(CP B a1 a2 a3 c1 c2 c3 w2 hS (hB.below hb2)).mono ?_;rintro e w3 ⟨r1,p1,r2,p2,r3,p3,rfl,hrw,hbq⟩;have hb3:=hb2.trans (hbq.mono' (by have:=hb2.size;omega));have X3:Hid _:=AL hbq X2.out (by omega);have E3:Hid _:=AL hbq E2.out (by omega);have Z3:Hid _:=AL hbq Z2.out (by omega);have hz3:w.heap.size+1+1<w3.heap.size:=(AB Z3.out).1;have HRW:Hid _:=hrw;clear hrw hbq e0 e1 e2 e3
     go_wp2_with (refine AM rfl 27 (.tmp 4) (.tmp 40) rfl (w.heap.size+1+1) 0 (bkV B (ad r1) p1 (ad r2) p2 (ad r3) p3) rfl rfl 27 zbV Z3.out AQ (AD rfl) (by simp[Value.oneCell']) ?_;intro w4 hz on;have Z4:Hid (Bl w4 (w.heap.size+1+1) (bkV B (ad r1) p1 (ad r2) p2 (ad r3) p3) 27):=hz;have hb4:=hb3.trans (on.below.mono' (by omega));have HON:Hid (Bj (w.heap.size+1+1) w3 w4):=on;clear hz on)
     exact bodyPost_ret (v:=.tuple #[.agg (bkV B (ad r1) p1 (ad r2) p2 (ad r3) p3),.int .i64 2]) (Ah rfl _ _ (w.heap.size+1+1) _ _ _ _ rfl Z4.out Try.underlying27 rfl AQ _ rfl) rfl ⟨some ⟨r1,0,none⟩,some ⟨r2,0,none⟩,some ⟨r3,0,none⟩,p1,p2,p3,by rw[HA.out],by rw[HA.out];exact⟨(HRW.out.svcs.blk (HON.out.other r1 (by have:=HRW.out.n1;omega))).slS,(HRW.out.cps.blk (HON.out.other r2 (by have:=HRW.out.n2;omega))).slC,(HRW.out.bts.blk (HON.out.other r3 (by have:=HRW.out.n3;omega))).slB⟩,hb4⟩
    ·have HA:Hid (Cm B E=((AY B E).1,0)):=by unfold Hid;rw[HSA.out,if_pos H0.out,if_pos hvc]
     obtain⟨e0,e1,e2,e3⟩:=c4 BZ2.out
     go_wp2_with fail
     refine(CP (AY B E).1 (ad b1) (ad b2) (ad b3) d1 d2 d3 w2 (GD HV.out) HC2.out).mono ?_;rintro e w3 ⟨r1,p1,r2,p2,r3,p3,rfl,hrw,hbq⟩;have hb3:=hb2.trans (hbq.mono' (by have:=hb2.size;omega));have X3:Hid _:=AL hbq X2.out (by omega);have E3:Hid _:=AL hbq E2.out (by omega);have Z3:Hid _:=AL hbq Z2.out (by omega);have hz3:w.heap.size+1+1<w3.heap.size:=(AB Z3.out).1;have HRW:Hid _:=hrw;clear hrw hbq e0 e1 e2 e3
     go_wp2_with (refine AM rfl 27 (.tmp 4) (.tmp 43) rfl (w.heap.size+1+1) 0 #[.int .i64 (AY B E).1.now,.slice (ad r1) (AY B E).1.svcs.length p1,.slice (ad r2) (AY B E).1.cps.length p2,.slice (ad r3) (AY B E).1.bts.length p3] rfl rfl 27 zbV Z3.out AQ (AD rfl) (by simp[Value.oneCell']) ?_;intro w4 hz on;have Z4:Hid (Bl w4 (w.heap.size+1+1) #[.int .i64 (AY B E).1.now,.slice (ad r1) (AY B E).1.svcs.length p1,.slice (ad r2) (AY B E).1.cps.length p2,.slice (ad r3) (AY B E).1.bts.length p3] 27):=hz;have hb4:=hb3.trans (on.below.mono' (by omega));have HON:Hid (Bj (w.heap.size+1+1) w3 w4):=on;clear hz on)
     exact bodyPost_ret (v:=.tuple #[.agg #[.int .i64 (AY B E).1.now,.slice (ad r1) (AY B E).1.svcs.length p1,.slice (ad r2) (AY B E).1.cps.length p2,.slice (ad r3) (AY B E).1.bts.length p3],.int .i64 0]) (Ah rfl _ _ (w.heap.size+1+1) _ _ _ _ rfl Z4.out Try.underlying27 rfl AQ _ rfl) rfl ⟨some ⟨r1,0,none⟩,some ⟨r2,0,none⟩,some ⟨r3,0,none⟩,p1,p2,p3,by rw[HA.out],by rw[HA.out];exact⟨(HRW.out.svcs.blk (HON.out.other r1 (by have:=HRW.out.n1;omega))).slS,(HRW.out.cps.blk (HON.out.other r2 (by have:=HRW.out.n2;omega))).slC,(HRW.out.bts.blk (HON.out.other r3 (by have:=HRW.out.n3;omega))).slB⟩,hb4⟩
   ·have HA:Hid (Cm B E=(B,(AY B E).2)):=by unfold Hid;rw[HSA.out,if_neg h0]
    obtain⟨cd,hcd⟩:∃cd,(AY B E).2=cd:=⟨_,rfl⟩;rw[hcd]at h0 HA ⊢;clear hcd HM HSA;have h0b:(cd==0)=false:=by simpa using h0
    have h0n:(cd !=0)=true:=by simpa using h0
    clear h0;obtain⟨e0,e1,e2,e3⟩:=c4 XW.out
    go_wp2_with fail
    refine(CP B a1 a2 a3 c1 c2 c3 W hS (hB.below hbW)).mono ?_;rintro e w3 ⟨r1,p1,r2,p2,r3,p3,rfl,hrw,hbq⟩;have hb3:=hbW.trans (hbq.mono' (by have:=hbW.size;omega));have X3:Hid _:=AL hbq XW.out (by omega);have E3:Hid _:=AL hbq EW.out (by omega);have Z3:Hid _:=AL hbq ZW.out (by omega);have hz3:w.heap.size+1+1<w3.heap.size:=(AB Z3.out).1;have HRW:Hid _:=hrw;clear hrw hbq e0 e1 e2 e3
    go_wp2_with (refine AM rfl 27 (.tmp 4) (.tmp 40) rfl (w.heap.size+1+1) 0 (bkV B (ad r1) p1 (ad r2) p2 (ad r3) p3) rfl rfl 27 zbV Z3.out AQ (AD rfl) (by simp[Value.oneCell']) ?_;intro w4 hz on;have Z4:Hid (Bl w4 (w.heap.size+1+1) (bkV B (ad r1) p1 (ad r2) p2 (ad r3) p3) 27):=hz;have hb4:=hb3.trans (on.below.mono' (by omega));have HON:Hid (Bj (w.heap.size+1+1) w3 w4):=on;clear hz on)
    exact bodyPost_ret (v:=.tuple #[.agg (bkV B (ad r1) p1 (ad r2) p2 (ad r3) p3),.int .i64 cd]) (Ah rfl _ _ (w.heap.size+1+1) _ _ _ _ rfl Z4.out Try.underlying27 rfl AQ _ rfl) rfl ⟨some ⟨r1,0,none⟩,some ⟨r2,0,none⟩,some ⟨r3,0,none⟩,p1,p2,p3,by rw[HA.out],by rw[HA.out];exact⟨(HRW.out.svcs.blk (HON.out.other r1 (by have:=HRW.out.n1;omega))).slS,(HRW.out.cps.blk (HON.out.other r2 (by have:=HRW.out.n2;omega))).slC,(HRW.out.bts.blk (HON.out.other r3 (by have:=HRW.out.n3;omega))).slB⟩,hb4⟩
def Bv(B:Bk)(c:Cp):Bool:=match B.bts.find? λb=>b.name.toList==c.berth.toList with
 |none=>false
 |some b=>b.drain
theorem Fl(B:Bk)(c:Cp)(a1 a2 a3:Option Addr)(c1 c2 c3:Nat)(w:World)(hS:B.small)(hB:BkAt w a1 a2 a3 B):
  Calls Try.prog 111 #[.agg (bkV B a1 c1 a2 c2 a3 c3),.agg (cpV c)] w λe w'=>e=.returned (.bool (Bv B c))/\Below w.heap.size w w':=by
 have hbb:Below w.heap.size w ((w.alloc (.cells (bkV B a1 c1 a2 c2 a3 c3) 27)).alloc (.cells (cpV c) 35)):=((Below.refl _ _).alloc (AG _) _).alloc (by simp) _;obtain⟨t0,t1,t2⟩:=Bh w (.cells (bkV B a1 c1 a2 c2 a3 c3) 27) (.cells (cpV c) 35);have T0:Hid _:=t0;have HS2:Hid _:=t2;clear t0 t1 t2;obtain⟨hl1,hl2,hl3⟩:=hS;go_enter Try.func111,Try.ntmps111
 go_wp2_with fail
 refine(FA B c.berth a1 a2 a3 c1 c2 c3 _ ⟨hl1,hl2,hl3⟩ (hB.below hbb).2.2).mono ?_;rintro e w1 ⟨rfl,hb1⟩;have hb2:=hbb.trans (hb1.mono hbb.size);rw[HS2.out]at hb1;have T1:Hid _:=AL hb1 T0.out (by omega);have e3:=AK T1.out 3 rfl
 cases hf:B.bts.find? λb=>b.name.toList==c.berth.toList with
 |none=>
  have HI:Hid (NP B.bts c.berth= -1):=CE hf;have HO:Hid (Bv B c=false):=by unfold Hid Bv;rw[hf]
  rw[HI.out];clear hf;go_wp2;go_ret;exact⟨AS HO.out.symm,hb2⟩
 |some b=>
  obtain⟨i,hi,hidx⟩:∃i:Nat,B.bts[i]?=some b/\NP B.bts c.berth=(i:Int):=Bo hf;have HI:Hid _:=hidx;have HO:Hid (Bv B c=b.drain):=by unfold Hid Bv;rw[hf]
  have hilt:i<B.bts.length:=(AC hi).1;obtain⟨bb,off,ea,hbs,hat⟩:=hB.2.2 (by intro h;rw[h]at hilt;simp at hilt);subst ea;have hq:=(hat i b hi).below hb2 hbs;unfold BtAt at hq;obtain⟨q0,q1⟩:=hq;rw[HI.out];clear hf hi hidx hat;go_wp2;go_ret;exact⟨AS HO.out.symm,hb2⟩
def GX(B:Bk)(x y:Cp)(img:Int):Bool:=
 if((x.state !=3)!=(y.state !=3)) then(x.state !=3) else if((x.image !=img)!=(y.image !=img)) then(x.image !=img) else if(Bv B x !=Bv B y) then Bv B x else decide (y.number<x.number)
end
end Go.Proofs.Ytbceafpodamnfaa
