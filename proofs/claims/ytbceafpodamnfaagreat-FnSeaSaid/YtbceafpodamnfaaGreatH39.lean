import Derived.Test.YtbceafpodamnfaaGreatH35
set_option linter.all false
set_option maxHeartbeats 8000000
set_option maxRecDepth 100000
namespace Go.Proofs.YtbceafpodamnfaaGreat
open Go.RowKit Go.Sort
def CZ(r:Bk × Int):Int:=if r.2=0 then(if AX r.1=true then 0 else 2) else r.2
theorem load_any(B:Bk)(nm:ByteArray)(num:Int)(N A:Nat)(a1 a2 a3:Option Addr)(k1 k2 k3:Nat)(w:World)(hF:Fit B)(hnm:nm.size<=maxLen)(hN:N<=w.heap.size)(hV:BkVar w N A B a1 a2 a3 k1 k2 k3):
  Calls Tryz.prog 61 #[.agg #[.pointer (some ⟨A,0,none⟩),.string nm,.int .i64 num]] w λe w'=>e=.returned (.int .i64 (CZ (Bb B nm num B.now)))/\((Bb B nm num B.now).2=0->∃b1 b2 b3 d1 d2 d3,BkVar w' N A (Bb B nm num B.now).1 b1 b2 b3 d1 d2 d3)/\Below N w w':=by
 obtain⟨cd,HCD⟩:∃cd:Int,Hid (CZ (Bb B nm num B.now)=cd):=⟨_,rfl⟩;rw[HCD.out];have hAl:=(AB hV.box).1;obtain⟨W0,hW0⟩:∃W,w.alloc (.cells #[.pointer (some ⟨A,0,none⟩),.string nm,.int .i64 num] 103)=W:=⟨_,rfl⟩;have hb0:=AM w (.cells #[.pointer (some ⟨A,0,none⟩),.string nm,.int .i64 num] 103);have E0:Hid (W0.heap[w.heap.size]?=some (.cells #[.pointer (some ⟨A,0,none⟩),.string nm,.int .i64 num] 103 (0,0))):=by unfold Hid;rw[<-hW0];exact heap_alloc_new w (.cells #[.pointer (some ⟨A,0,none⟩),.string nm,.int .i64 num] 103)
 rw[hW0]at hb0;have hz0:=(AB E0.out).1;have V0:=Ah (hV.below hb0);have A0:Hid _:=V0.out.box;have q0:=AJ E0.out 0 rfl;have q1:=AJ E0.out 1 rfl;clear hV;go_enter Tryz.func61,Tryz.ntmps61
 go_upto_region 1 with fail
 clear hW0
 go_wp2_with fail
 refine(KL B nm A a1 a2 a3 k1 k2 k3 W0 hF.small hF.sized hF.uS hF.uB hnm A0.out V0.out.rows.at).mono ?_;rintro e w1 ⟨rfl,hbq⟩;have V1:=Ah (V0.out.below hbq);have E1:Hid (w1.heap[w.heap.size]?=some (.cells #[.pointer (some ⟨A,0,none⟩),.string nm,.int .i64 num] 103 (0,0))):=AK hbq E0.out hz0;have A1:Hid _:=V1.out.box;have hb1:=hb0.trans (hbq.mono hb0.size);have hz1:=(AB E1.out).1;have hA1:A<w1.heap.size:=by omega
 clear q0 q1 hbq V0 E0 A0 hb0 hz0
 cases hat:Bn (λt:Svc=>t.name.toList==nm.toList) B.svcs with
 |none=>
  have HL:Hid (Bb B nm num B.now=(B,3)):=by unfold Hid Bb;rw[hat]
  have HC:Hid (cd=3):=by unfold Hid;rw[<-HCD.out,HL.out];rfl
  clear hat;go_wp2;go_ret;exact⟨by rw[HC.out];rfl,λh=>(by rw[HL.out]at h;cases h),hb1.mono' hN⟩
 |some p=>
  obtain⟨i,s⟩:=p;obtain⟨_,hic,_⟩:=CA hat;have HIC:Hid (B.svcs[i]?=some s):=hic;have hin:i<B.svcs.length:=(AC hic).1;have hfit:i*13+13<=B.svcs.length*13:=by omega
  have hll:=hF.l1;obtain⟨g,ea,hNg,hr⟩:=V1.out.rows.svcs.some (by omega);subst ea;have HR1:Hid (RowIs w1 29 13 g B.svcs.length k1 (AY B.svcs)):=hr;have hgl:=hr.lt;have hcap:=hr.2.1;have HE1:Hid ((some ⟨g,0,none⟩)≠some (⟨w.heap.size,0,none⟩:Addr)):=V1.out.rows.svcs.ne E1.out (by decide);have HA1:Hid ((some ⟨g,0,none⟩)≠some (⟨A,0,none⟩:Addr)):=V1.out.rows.svcs.ne A1.out (by decide);have q0:=AJ E1.out 0 rfl;have e1:=AJ A1.out 1 rfl;have y8:=HR1.out.cell (AT (c:=Svc.cells) (n:=13) (λ_=>rfl) B.svcs i s 8 (.int .i64 s.per) hic rfl);have HAT:Hid _:=hat;have hfst:fstI (some (i,s))=(i:Int):=rfl;rw[hfst];clear hr hic hat hfst;cases hp:(s.per==0)
  ·have HL:Hid (Bb B nm num B.now=({B with now:=B.now,svcs:=B.svcs.set i {s with load:=num,version:=B.now}},0)):=by unfold Hid Bb;rw[HAT.out];simp only;rw[if_neg (by simpa using hp)]
   go_upto_region 5 with fail
   clear q0 e1 y8;refine Br 15 3 [[],[],[],[2],[],[4],[5],[6],[7],[8],[0],[10],[3,11],[1],[13]] [12] [12] [12] [12] [] (λW=>RowOnly (some ⟨g,0,none⟩) N w1 W) (λW=>RowIs W 29 13 g B.svcs.length k1 (AY B.svcs)) (λ_ _ _=>True) (λW h=>RowOnly.of h (by have:=hb1.size;omega)) (λW h=>HR1.out.below h hgl) (λW W2 h hb=>h.grow hb (by have:=hb1.size;omega)) (λW W2 _ h hb=>h.below hb h.lt) (by kernel_rfl) (by kernel_rfl) (by kernel_rfl) ?_;apply AS (by kernel_rfl)
   ·intro V W K A hI hJ hd hA hK
    clear hJ;simp only[pA]at hA;clear hd;obtain rfl:=hA;go_wp2;exact hK.out _ brf
   apply AS (by kernel_rfl)
   ·intro V W K A hI hJ hd hA hK
    clear hJ;simp only[pA]at hA;clear hd;obtain rfl:=hA;go_wp2;exact hK.out _ brf
   apply AS (by kernel_rfl)
   ·intro V W K A hI hJ hd hA hK
    clear hJ;simp only[pA]at hA;clear hd;obtain rfl:=hA;go_wp2;exact hK.out _ brf
   apply AS (by kernel_rfl)
   ·intro V W K A hI hJ hd hA hK
    clear hJ;have d2:V 2=_:=hd 2 (by kernel_rfl);simp only[pA]at hA;clear hd;generalize V 2=x2 at d2 hA;subst d2;obtain rfl:=hA;have q2:=AJ ((hI.block w.heap.size hz1 HE1.out).trans E1.out) 2 rfl;go_wp2;exact hK.out _ brf
   apply AS (by kernel_rfl)
   ·intro V W K A hI hJ hd hA hK
    clear hJ;simp only[pA]at hA;clear hd;obtain rfl:=hA;go_wp2;exact hK.out _ brf
   apply AS (by kernel_rfl)
   ·intro V W K A hI hJ hd hA hK
    clear hJ;have d4:V 4=_:=hd 4 (by kernel_rfl);simp only[pA]at hA;clear hd;generalize V 4=x4 at d4 hA;subst d4;obtain rfl:=hA;go_wp2;exact hK.out _ brf
   apply AS (by kernel_rfl)
   ·intro V W K A hI hJ hd hA hK
    clear hJ;have d5:V 5=_:=hd 5 (by kernel_rfl);simp only[pA]at hA;clear hd;generalize V 5=x5 at d5 hA;subst d5;obtain rfl:=hA;have q0:=AJ ((hI.block w.heap.size hz1 HE1.out).trans E1.out) 0 rfl;go_wp2;exact hK.out _ brf
   apply AS (by kernel_rfl)
   ·intro V W K A hI hJ hd hA hK
    clear hJ;have d6:V 6=_:=hd 6 (by kernel_rfl);simp only[pA]at hA;clear hd;generalize V 6=x6 at d6 hA;subst d6;obtain rfl:=hA;go_wp2;exact hK.out _ brf
   apply AS (by kernel_rfl)
   ·intro V W K A hI hJ hd hA hK
    clear hJ;have d7:V 7=_:=hd 7 (by kernel_rfl);simp only[pA]at hA;clear hd;generalize V 7=x7 at d7 hA;subst d7;obtain rfl:=hA;go_wp2;exact hK.out _ brf
   apply AS (by kernel_rfl)
   ·intro V W K A hI hJ hd hA hK
    clear hJ;have d8:V 8=_:=hd 8 (by kernel_rfl);simp only[pA]at hA;clear hd;generalize V 8=x8 at d8 hA;subst d8;obtain rfl:=hA;have e0:=AJ ((hI.block A hA1 HA1.out).trans A1.out) 0 rfl;go_wp2;exact hK.out _ brf
   apply AS (by kernel_rfl)
   ·intro V W K A hI hJ hd hA hK
    clear hJ;have d0:V 0=_:=hd 0 (by kernel_rfl);simp only[pA]at hA;clear hd;generalize V 0=x0 at d0 hA;subst d0;obtain rfl:=hA;go_wp2;exact hK.out _ brf
   apply AS (by kernel_rfl)
   ·intro V W K A hI hJ hd hA hK
    clear hJ;have d10:V 10=_:=hd 10 (by kernel_rfl);simp only[pA]at hA;clear hd;generalize V 10=x10 at d10 hA;subst d10;obtain rfl:=hA;go_wp2;exact hK.out _ brf
   refine Ds (λ(_:Nat->Value) (_:Value) W=>RowIs W 29 13 g B.svcs.length k1 (AY (B.svcs.set i {s with load:=num}))) (λ_ _ W W2 h hb=>h.below hb h.lt) (λ_ _ _ _ _ h=>h) (by kernel_rfl) (by kernel_rfl) ?_ ?_
   ·intro V W K A hI hJ hd hA hK
    have hJ:=hJ (by kernel_rfl);have d3:V 3=_:=hd 3 (by kernel_rfl);have d11:V 11=_:=hd 11 (by kernel_rfl);simp only[pA]at hA;clear hd;generalize hV0:V 0=x0 at hA hK;generalize hV1:V 1=x1 at hA hK;generalize hV2:V 2=x2 at hA hK;generalize hV3:V 3=x3 at d3 hA hK;generalize hV4:V 4=x4 at hA hK;generalize hV5:V 5=x5 at hA hK;generalize hV6:V 6=x6 at hA hK;generalize hV7:V 7=x7 at hA hK;generalize hV8:V 8=x8 at hA hK;generalize hV9:V 9=x9 at hA hK;generalize hV10:V 10=x10 at hA hK;generalize hV11:V 11=x11 at d11 hA hK;generalize hV12:V 12=x12 at hA hK;generalize hV13:V 13=x13 at hA hK;generalize hV14:V 14=x14 at hA hK;subst d3;subst d11;obtain rfl:=hA;have HI:Hid (RowOnly (some ⟨g,0,none⟩) N w1 W):=hI;have HJ:Hid (RowIs W 29 13 g B.svcs.length k1 (AY B.svcs)):=hJ;have hsz:=hI.size;clear hI hJ hV0 hV1 hV2 hV3 hV4 hV5 hV6 hV7 hV8 hV9 hV10 hV11 hV12 hV13 hV14;refine B7 rfl 3 (.tmp 48) (.tmp 40) rfl g _ (.int .i64 num) rfl rfl Tryz.infosIntX rfl rfl 29 13 B.svcs.length k1 _ HJ.out (by omega) ?_;intro w2 hr on;have HR2:Hid (RowIs w2 29 13 g B.svcs.length k1 (AY (B.svcs.set i {s with load:=num}))):=(by have h:=hr.out;rw[show splice (AY B.svcs) (i*13+11) [.int .i64 num]=AY (B.svcs.set i {s with load:=num}) from Cb (c:=Svc.cells) (n:=13) (λ_=>rfl) B.svcs i 11 s {s with load:=num} _ HIC.out (by omega) rfl]at h;exact h);have HON:Hid (BA g W w2):=on;clear hr on;go_wp2;exact hK.out undef _ trivial ⟨λq hq hne=>(HON.out.other q (λe=>hne (by rw[e]))).trans (HI.out.block q hq hne),by rw[HON.out.size];exact hsz,HI.out.below.trans (HON.out.below.mono' hNg)⟩ HR2.out
   apply AS (by kernel_rfl)
   ·intro V W K A hI hJ hd hA hK
    clear hJ;have d1:V 1=_:=hd 1 (by kernel_rfl);simp only[pA]at hA;clear hd;generalize V 1=x1 at d1 hA;subst d1;obtain rfl:=hA;go_wp2;exact hK.out _ brf
   apply AS (by kernel_rfl)
   ·intro V W K A hI hJ hd hA hK
    clear hJ;have d13:V 13=_:=hd 13 (by kernel_rfl);simp only[pA]at hA;clear hd;generalize V 13=x13 at d13 hA;subst d13;obtain rfl:=hA;go_wp2;exact hK.out _ brf
   refine⟨λi j hk V v W W' hr hq=>?_,?_⟩
   ·simp at hk
   intro V W A hI hS hA;have d0:V 0=_:=hS 0 (by omega) (.inr (by kernel_rfl));have d1:V 1=_:=hS 1 (by omega) (.inr (by kernel_rfl));have d2:V 2=_:=hS 2 (by omega) (.inr (by kernel_rfl));have d3:V 3=_:=hS 3 (by omega) (.inr (by kernel_rfl));have d4:V 4=_:=hS 4 (by omega) (.inr (by kernel_rfl));have d5:V 5=_:=hS 5 (by omega) (.inr (by kernel_rfl));have d6:V 6=_:=hS 6 (by omega) (.inr (by kernel_rfl));have d7:V 7=_:=hS 7 (by omega) (.inr (by kernel_rfl));have d8:V 8=_:=hS 8 (by omega) (.inr (by kernel_rfl));have d9:V 9=_:=hS 9 (by omega) (.inr (by kernel_rfl));have d10:V 10=_:=hS 10 (by omega) (.inr (by kernel_rfl));have d11:V 11=_:=hS 11 (by omega) (.inr (by kernel_rfl));have d12:(λ(_:Nat->Value) (_:Value) W=>RowIs W 29 13 g B.svcs.length k1 (AY (B.svcs.set i {s with load:=num}))) V (V 12) W:=hS 12 (by omega) (.inl (by kernel_rfl));have d13:V 13=_:=hS 13 (by omega) (.inr (by kernel_rfl));have d14:V 14=_:=hS 14 (by omega) (.inr (by kernel_rfl));simp only[pA]at hA;dsimp only at d12;clear hS;generalize V 0=x0 at d0 hA;generalize V 1=x1 at d1 hA;generalize V 2=x2 at d2 hA;generalize V 3=x3 at d3 hA;generalize V 4=x4 at d4 hA;generalize V 5=x5 at d5 hA;generalize V 6=x6 at d6 hA;generalize V 7=x7 at d7 hA;generalize V 8=x8 at d8 hA;generalize V 9=x9 at d9 hA;generalize V 10=x10 at d10 hA;generalize V 11=x11 at d11 hA;generalize V 12=x12 at d12 hA;generalize V 13=x13 at d13 hA;generalize V 14=x14 at d14 hA;subst d0;subst d1;subst d2;subst d3;subst d4;subst d5;subst d6;subst d7;subst d8
   subst d9;subst d10;subst d11;subst d13;subst d14;obtain rfl:=hA;simp only[List.drop_succ_cons,List.drop_zero];have HR2:Hid (RowIs W 29 13 g B.svcs.length k1 (AY (B.svcs.set i {s with load:=num}))):=d12;have HI:Hid (RowOnly (some ⟨g,0,none⟩) N w1 W):=hI;have AW:Hid (W.heap[A]?=some (.cells #[.int .i64 B.now,.slice (some ⟨g,0,none⟩) B.svcs.length k1,.slice a2 B.cps.length k2,.slice a3 B.bts.length k3] 27 (0,0))):=(hI.block A hA1 HA1.out).trans A1.out;have EW:Hid (W.heap[w.heap.size]?=some (.cells #[.pointer (some ⟨A,0,none⟩),.string nm,.int .i64 num] 103 (0,0))):=(hI.block w.heap.size hz1 HE1.out).trans E1.out;have hsW:=hI.size;clear hI d12
   go_upto_region 6 with(refine B7 rfl 3 (.tmp 50) (.tmp 46) rfl g _ (.int .i64 B.now) rfl rfl Tryz.infosIntX rfl rfl 29 13 B.svcs.length k1 _ HR2.out (by omega) ?_;intro w3 hr on;have HR3:Hid (RowIs w3 29 13 g B.svcs.length k1 (AY (B.svcs.set i {s with load:=num,version:=B.now}))):=(by have h:=hr.out;rw[show splice (AY (B.svcs.set i {s with load:=num})) (i*13+1) [.int .i64 B.now]=AY ((B.svcs.set i {s with load:=num}).set i {s with load:=num,version:=B.now}) from Cb (c:=Svc.cells) (n:=13) (λ_=>rfl) (B.svcs.set i {s with load:=num}) i 1 {s with load:=num} {s with load:=num,version:=B.now} _ (by rw[List.getElem?_set_self hin]) (by omega) rfl,List.set_set]at h;exact h);have HON:Hid (BA g W w3):=on;clear hr on)
   have E3:Hid (w3.heap[w.heap.size]?=some (.cells #[.pointer (some ⟨A,0,none⟩),.string nm,.int .i64 num] 103 (0,0))):=(HON.out.other _ (λe=>HE1.out (by rw[e]))).trans EW.out;have A3:Hid (w3.heap[A]?=some (.cells #[.int .i64 B.now,.slice (some ⟨g,0,none⟩) B.svcs.length k1,.slice a2 B.cps.length k2,.slice a3 B.bts.length k3] 27 (0,0))):=(HON.out.other _ (λe=>HA1.out (by rw[e]))).trans AW.out;have HRO:Hid (RowOnly (some ⟨g,0,none⟩) N w1 w3):=⟨λq hq hne=>(HON.out.other q (λe=>hne (by rw[e]))).trans (HI.out.block q hq hne),by rw[HON.out.size];exact hsW,HI.out.below.trans (HON.out.below.mono' hNg)⟩
   have HV3:Hid (BkVar w3 N A {B with now:=B.now,svcs:=B.svcs.set i {s with load:=num,version:=B.now}} (some ⟨g,0,none⟩) a2 a3 k1 k2 k3):=by
    have hB:=V1.out.rows;refine⟨V1.out.lo,?_,?_,hB.cps.rowOnly HRO.out hB.svcs (by decide),hB.bts.rowOnly HRO.out hB.svcs (by decide)⟩
    ·have h:=A3.out;simpa using h
    ·exact .inr ⟨g,rfl,hNg,by have h:=HR3.out;simpa using h⟩
   have hb3:Below N w w3:=(hb1.mono' hN).trans HRO.out.below;have q0:=AJ E3.out 0 rfl;clear E1 A1 AW EW HI HR1 HR2 HR3 HON HRO V1 HE1 HA1 A3
   go_wp2_with fail
   refine(Dd {B with now:=B.now,svcs:=B.svcs.set i {s with load:=num,version:=B.now}} A (some ⟨g,0,none⟩) a2 a3 k1 k2 k3 w3 ?hs ?hz HV3.out.box HV3.out.rows.at).mono ?_
   case hs=>exact⟨by simp;omega,by have:=hF.l2;show B.cps.length<=_;omega,by have:=hF.l3;show B.bts.length<=_;omega⟩
   case hz=>
    obtain⟨z1,z2,z3,z4,z5,z6⟩:=hF.sized;refine⟨by simpa using z1,z2,z3,λt ht=>?_,z5,z6⟩;rcases List.mem_or_eq_of_mem_set ht with h|h
    ·exact z4 t h
    ·rw[h];exact z4 s (AE HIC.out)
   rintro e w4 ⟨rfl,hb4⟩;have HV4:=Ah (HV3.out.below hb4);have hb5:Below N w w4:=hb3.trans (hb4.mono' (by have:=hb3.size;omega));have HC:Hid (cd=(if AX {B with now:=B.now,svcs:=B.svcs.set i {s with load:=num,version:=B.now}}=true then 0 else 2)):=by unfold Hid;rw[<-HCD.out,HL.out];rfl
   rw[<-HC.out];clear q0 E3 HV3 hb3 hb4;go_wp2;go_ret;exact⟨rfl,λ_=>by rw[HL.out];exact⟨_,_,_,_,_,_,HV4.out⟩,hb5⟩
  ·have HL:Hid (Bb B nm num B.now=(B,3)):=by unfold Hid Bb;rw[HAT.out];simp only;rw[if_pos (by simpa using hp)]
   have HC:Hid (cd=3):=by unfold Hid;rw[<-HCD.out,HL.out];rfl
   go_wp2;go_ret;exact⟨by rw[HC.out];rfl,λh=>(by rw[HL.out]at h;cases h),hb1.mono' hN⟩
end Go.Proofs.YtbceafpodamnfaaGreat
