import Derived.Test.YtbceafpodamnfaaGreatH41
set_option linter.all false
set_option maxHeartbeats 16000000
set_option maxRecDepth 100000
namespace Go.Proofs.YtbceafpodamnfaaGreat
open Go.RowKit Go.Sort
theorem sink_any(B:Bk)(nm:ByteArray)(N A:Nat)(a1 a2 a3:Option Addr)(k1 k2 k3:Nat)(w:World)(hF:Fit B)(hnm:nm.size<=maxLen)(hN:N<=w.heap.size)(hV:BkVar w N A B a1 a2 a3 k1 k2 k3):
  Calls Tryz.prog 59 #[.agg #[.pointer (some ⟨A,0,none⟩),.string nm]] w λe w'=>e=.returned (.int .i64 (sinkB B nm B.now).2)/\((sinkB B nm B.now).2=0->∃b1 b2 b3 d1 d2 d3,BkVar w' N A (sinkB B nm B.now).1 b1 b2 b3 d1 d2 d3)/\Below N w w':=by
 have hAl:=(AB hV.box).1;obtain⟨W0,hW0⟩:∃W,w.alloc (.cells #[.pointer (some ⟨A,0,none⟩),.string nm] 99)=W:=⟨_,rfl⟩;have hb0:=AM w (.cells #[.pointer (some ⟨A,0,none⟩),.string nm] 99);have E0:Hid (W0.heap[w.heap.size]?=some (.cells #[.pointer (some ⟨A,0,none⟩),.string nm] 99 (0,0))):=by unfold Hid;rw[<-hW0];exact heap_alloc_new w (.cells #[.pointer (some ⟨A,0,none⟩),.string nm] 99)
 rw[hW0]at hb0;have hz0:=(AB E0.out).1;have V0:=Ah (hV.below hb0);have A0:Hid _:=V0.out.box;have q0:=AJ E0.out 0 rfl;have q1:=AJ E0.out 1 rfl;clear hV
 cases hat:Bn (λt:Bt=>t.name.toList==nm.toList) B.bts with
 |none=>
  have HL:Hid (sinkB B nm B.now=(B,3)):=by unfold Hid sinkB;rw[hat]
  rw[HL.out];go_enter Tryz.func59,Tryz.ntmps59
  go_upto_region 1 with fail
  clear hW0
  go_wp2_with fail
  refine(KK B nm A a1 a2 a3 k1 k2 k3 W0 hF.small hF.sized hF.uS hF.uB hnm A0.out V0.out.rows.at).mono ?_;rintro e w1 ⟨rfl,hbq⟩;have hb1:=hb0.trans (hbq.mono hb0.size);rw[hat];clear hat q0 q1;go_wp2;go_ret;exact⟨rfl,λh=>absurd h (by simp),hb1.mono' hN⟩
 |some p=>
  obtain⟨i,t⟩:=p;have hin:i<B.bts.length:=(AC (CA hat).2.1).1;have hll:=hF.l3;have HL:Hid (sinkB B nm B.now=({B with now:=B.now,bts:=B.bts.take i++B.bts.drop (i+1),cps:=B.cps.filter λc=>!(c.berth.toList==nm.toList)},0)):=by unfold Hid sinkB;rw[hat]
  rw[HL.out];go_enter Tryz.func59,Tryz.ntmps59
  go_upto_region 1 with fail
  clear hW0
  go_wp2_with fail
  refine(KK B nm A a1 a2 a3 k1 k2 k3 W0 hF.small hF.sized hF.uS hF.uB hnm A0.out V0.out.rows.at).mono ?_;rintro e w1 ⟨rfl,hbq⟩;have V1:=Ah (V0.out.below hbq);have E1:Hid (w1.heap[w.heap.size]?=some (.cells #[.pointer (some ⟨A,0,none⟩),.string nm] 99 (0,0))):=AK hbq E0.out hz0;have A1:Hid (w1.heap[A]?=some (.cells #[.int .i64 B.now,.slice a1 B.svcs.length k1,.slice a2 B.cps.length k2,.slice a3 B.bts.length k3] 27 (0,0))):=V1.out.box;have hb1:=hb0.trans (hbq.mono hb0.size);have hz1:=(AB E1.out).1;have hA1:A<w1.heap.size:=by omega
  have HE3:Hid (a3≠some ⟨w.heap.size,0,none⟩):=V1.out.rows.bts.ne E1.out (by decide);have HA3:Hid (a3≠some ⟨A,0,none⟩):=V1.out.rows.bts.ne A1.out (by decide);have hfst:fstI (some (i,t))=(i:Int):=rfl;rw[hat,hfst];clear hat hfst q0 q1 hbq V0 E0 A0 hb0 hz0
  go_upto_region 4 with fail
  refine Br 15 3 [[],[0],[1],[],[3],[4],[5],[6],[7],[],[],[10],[8,9,11],[2],[13]] [12] [12] [12] [12] [] (λW=>RowOnly a3 N w1 W) (λW=>RowN W N 51 2 a3 B.bts.length k3 (Ak B.bts)) (λ_ _ _=>True) (λW h=>RowOnly.of h (by omega)) (λW h=>V1.out.rows.bts.below h) (λW W2 h hb=>h.grow hb (by omega)) (λW W2 _ h hb=>h.below hb) (by kernel_rfl) (by kernel_rfl) (by kernel_rfl) ?_;apply AS (by kernel_rfl)
  ·intro V W K A hI hJ hd hA hK
   clear hJ;simp only[pA]at hA;clear hd;obtain rfl:=hA;go_wp2;exact hK.out _ brf
  apply AS (by kernel_rfl)
  ·intro V W K A hI hJ hd hA hK
   clear hJ;have d0:V 0=_:=hd 0 (by kernel_rfl);simp only[pA]at hA;clear hd;generalize V 0=x0 at d0 hA;subst d0;obtain rfl:=hA;go_wp2;exact hK.out _ brf
  apply AS (by kernel_rfl)
  ·intro V W K A hI hJ hd hA hK
   clear hJ;have d1:V 1=_:=hd 1 (by kernel_rfl);simp only[pA]at hA;clear hd;generalize V 1=x1 at d1 hA;subst d1;obtain rfl:=hA;have q0:=AJ ((hI.block w.heap.size hz1 HE3.out).trans E1.out) 0 rfl;go_wp2;exact hK.out _ brf
  apply AS (by kernel_rfl)
  ·intro V W K A hI hJ hd hA hK
   clear hJ;simp only[pA]at hA;clear hd;obtain rfl:=hA;go_wp2;exact hK.out _ brf
  apply AS (by kernel_rfl)
  ·intro V W K A hI hJ hd hA hK
   clear hJ;have d3:V 3=_:=hd 3 (by kernel_rfl);simp only[pA]at hA;clear hd;generalize V 3=x3 at d3 hA;subst d3;obtain rfl:=hA;go_wp2;exact hK.out _ brf
  apply AS (by kernel_rfl)
  ·intro V W K A hI hJ hd hA hK
   clear hJ;have d4:V 4=_:=hd 4 (by kernel_rfl);simp only[pA]at hA;clear hd;generalize V 4=x4 at d4 hA;subst d4;obtain rfl:=hA;have q0:=AJ ((hI.block w.heap.size hz1 HE3.out).trans E1.out) 0 rfl;go_wp2;exact hK.out _ brf
  apply AS (by kernel_rfl)
  ·intro V W K A hI hJ hd hA hK
   clear hJ;have d5:V 5=_:=hd 5 (by kernel_rfl);simp only[pA]at hA;clear hd;generalize V 5=x5 at d5 hA;subst d5;obtain rfl:=hA;go_wp2;exact hK.out _ brf
  apply AS (by kernel_rfl)
  ·intro V W K A hI hJ hd hA hK
   clear hJ;have d6:V 6=_:=hd 6 (by kernel_rfl);simp only[pA]at hA;clear hd;generalize V 6=x6 at d6 hA;subst d6;obtain rfl:=hA;go_wp2;exact hK.out _ brf
  apply AS (by kernel_rfl)
  ·intro V W K A hI hJ hd hA hK
   clear hJ;have d7:V 7=_:=hd 7 (by kernel_rfl);simp only[pA]at hA;clear hd;generalize V 7=x7 at d7 hA;subst d7;obtain rfl:=hA;have e3:=AJ ((hI.block A hA1 HA3.out).trans A1.out) 3 rfl;go_wp2;exact hK.out _ brf
  apply AS (by kernel_rfl)
  ·intro V W K A hI hJ hd hA hK
   clear hJ;simp only[pA]at hA;clear hd;obtain rfl:=hA;go_wp2;exact hK.out _ brf
  apply AS (by kernel_rfl)
  ·intro V W K A hI hJ hd hA hK
   clear hJ;simp only[pA]at hA;clear hd;obtain rfl:=hA;go_wp2;exact hK.out _ brf
  apply AS (by kernel_rfl)
  ·intro V W K A hI hJ hd hA hK
   clear hJ;have d10:V 10=_:=hd 10 (by kernel_rfl);simp only[pA]at hA;clear hd;generalize V 10=x10 at d10 hA;subst d10;obtain rfl:=hA;go_wp2;exact hK.out _ brf
  refine Ds (λ(_:Nat->Value) vv W=>∃bo n' kk,vv=.slice bo n' kk/\n'=(B.bts.take i++B.bts.drop (i+1)).length/\RowN W N 51 2 bo n' kk (Ak (B.bts.take i++B.bts.drop (i+1)))) (λ_ v W W2 ⟨bo,n2,kk,h1,h2,h3⟩ hb=>⟨bo,n2,kk,h1,h2,h3.below hb⟩) (λ_ _ _ _ _ h=>h) (by kernel_rfl) (by kernel_rfl) ?_ ?_
  ·intro V W K A hI hJ hd hA hK
   have hJ:=hJ (by kernel_rfl);have d8:V 8=_:=hd 8 (by kernel_rfl);have d9:V 9=_:=hd 9 (by kernel_rfl);have d11:V 11=_:=hd 11 (by kernel_rfl);simp only[pA]at hA;clear hd;generalize hV0:V 0=x0 at hA hK;generalize hV1:V 1=x1 at hA hK;generalize hV2:V 2=x2 at hA hK;generalize hV3:V 3=x3 at hA hK;generalize hV4:V 4=x4 at hA hK;generalize hV5:V 5=x5 at hA hK;generalize hV6:V 6=x6 at hA hK;generalize hV7:V 7=x7 at hA hK;generalize hV8:V 8=x8 at d8 hA hK;generalize hV9:V 9=x9 at d9 hA hK;generalize hV10:V 10=x10 at hA hK;generalize hV11:V 11=x11 at d11 hA hK;generalize hV12:V 12=x12 at hA hK;generalize hV13:V 13=x13 at hA hK;generalize hV14:V 14=x14 at hA hK;subst d8;subst d9;subst d11;obtain rfl:=hA;have HI:Hid (RowOnly a3 N w1 W):=hI;have HJ:=Ay hJ;have hsz:=hI.size;clear hI hJ hV0 hV1 hV2 hV3 hV4 hV5 hV6 hV7 hV8 hV9 hV10 hV11 hV12 hV13 hV14
   go_wp2_with fail
   refine(L7 B.bts a3 B.bts.length k3 i N W rfl (by have:=hF.l3;omega) hin (by omega) HJ.out).mono ?_;rintro e w2 ⟨bo,n2,kk,rfl,hn2,hr2,hkp,hbq⟩;have HR2:=Ay hr2;have HN2:Hid _:=hn2;have HKP:Hid _:=hkp;clear hr2 hn2 hkp;go_wp2;exact hK.out _ _ trivial ⟨λq hq hne=>(HKP.out q (by omega) hne).trans (HI.out.block q hq hne),AH hsz hbq.size,HI.out.below.trans hbq⟩ ⟨bo,n2,kk,rfl,HN2.out,HR2.out⟩
  apply AS (by kernel_rfl)
  ·intro V W K A hI hJ hd hA hK
   clear hJ;have d2:V 2=_:=hd 2 (by kernel_rfl);simp only[pA]at hA;clear hd;generalize V 2=x2 at d2 hA;subst d2;obtain rfl:=hA;go_wp2;exact hK.out _ brf
  apply AS (by kernel_rfl)
  ·intro V W K A hI hJ hd hA hK
   clear hJ;have d13:V 13=_:=hd 13 (by kernel_rfl);simp only[pA]at hA;clear hd;generalize V 13=x13 at d13 hA;subst d13;obtain rfl:=hA;go_wp2;exact hK.out _ brf
  refine⟨λi j hk V v W W' hr hq=>?_,?_⟩
  ·simp at hk
  intro V W A hI hS hA;have d0:V 0=_:=hS 0 (by omega) (.inr (by kernel_rfl));have d1:V 1=_:=hS 1 (by omega) (.inr (by kernel_rfl));have d2:V 2=_:=hS 2 (by omega) (.inr (by kernel_rfl));have d3:V 3=_:=hS 3 (by omega) (.inr (by kernel_rfl));have d4:V 4=_:=hS 4 (by omega) (.inr (by kernel_rfl));have d5:V 5=_:=hS 5 (by omega) (.inr (by kernel_rfl));have d6:V 6=_:=hS 6 (by omega) (.inr (by kernel_rfl));have d7:V 7=_:=hS 7 (by omega) (.inr (by kernel_rfl));have d8:V 8=_:=hS 8 (by omega) (.inr (by kernel_rfl));have d9:V 9=_:=hS 9 (by omega) (.inr (by kernel_rfl));have d10:V 10=_:=hS 10 (by omega) (.inr (by kernel_rfl));have d11:V 11=_:=hS 11 (by omega) (.inr (by kernel_rfl));have d12:(λ(_:Nat->Value) vv W=>∃bo n' kk,vv=.slice bo n' kk/\n'=(B.bts.take i++B.bts.drop (i+1)).length/\RowN W N 51 2 bo n' kk (Ak (B.bts.take i++B.bts.drop (i+1)))) V (V 12) W:=hS 12 (by omega) (.inl (by kernel_rfl));have d13:V 13=_:=hS 13 (by omega) (.inr (by kernel_rfl));have d14:V 14=_:=hS 14 (by omega) (.inr (by kernel_rfl));simp only[pA]at hA;dsimp only at d12;clear hS;generalize V 0=x0 at d0 hA;generalize V 1=x1 at d1 hA;generalize V 2=x2 at d2 hA;generalize V 3=x3 at d3 hA;generalize V 4=x4 at d4 hA;generalize V 5=x5 at d5 hA;generalize V 6=x6 at d6 hA;generalize V 7=x7 at d7 hA;generalize V 8=x8 at d8 hA;generalize V 9=x9 at d9 hA;generalize V 10=x10 at d10 hA;generalize V 11=x11 at d11 hA;generalize V 12=x12 at d12 hA;generalize V 13=x13 at d13 hA;generalize V 14=x14 at d14 hA;subst d0;subst d1;subst d2
  subst d3;subst d4;subst d5;subst d6;subst d7;subst d8;subst d9;subst d10;subst d11;subst d13;subst d14;obtain rfl:=hA;simp only[List.drop_succ_cons,List.drop_zero];obtain⟨bo,n3,kk,rfl,hn3,hr⟩:=d12;have HN3:Hid _:=hn3;have HRB:=Ay hr;have HI:Hid (RowOnly a3 N w1 W):=hI;have AW:Hid (W.heap[A]?=some (.cells #[.int .i64 B.now,.slice a1 B.svcs.length k1,.slice a2 B.cps.length k2,.slice a3 B.bts.length k3] 27 (0,0))):=(hI.block A hA1 HA3.out).trans A1.out;have EW:Hid (W.heap[w.heap.size]?=some (.cells #[.pointer (some ⟨A,0,none⟩),.string nm] 99 (0,0))):=(hI.block w.heap.size hz1 HE3.out).trans E1.out;have hsW:=hI.size;clear hn3 hr hI
  go_upto_region 5 with(refine Ai rfl 25 (.tmp 29) (.tmp 27) rfl A 3 (.slice bo n3 kk) rfl rfl Tryz.infosBtsI rfl rfl 27 #[.int .i64 B.now,.slice a1 B.svcs.length k1,.slice a2 B.cps.length k2,.slice a3 B.bts.length k3] AW.out (AD rfl) ?_;intro w3 hz on;have A3:Hid (w3.heap[A]?=some (.cells #[.int .i64 B.now,.slice a1 B.svcs.length k1,.slice a2 B.cps.length k2,.slice bo n3 kk] 27 (0,0))):=hz;have HON:Hid (BA A W w3):=on;clear hz on)
  have hAn:A≠w.heap.size:=by omega
  have E3:Hid (w3.heap[w.heap.size]?=some (.cells #[.pointer (some ⟨A,0,none⟩),.string nm] 99 (0,0))):=(HON.out.other _ (Ne.symm hAn)).trans EW.out
  have V3:Hid (BkVar w3 N A {B with bts:=B.bts.take i++B.bts.drop (i+1)} a1 a2 bo k1 k2 kk):=by
   have hB:=V1.out.rows;refine⟨V1.out.lo,?_,?_,?_,?_⟩
   ·have h:=A3.out;rw[HN3.out]at h;exact h
   ·exact(hB.svcs.rowOnly HI.out hB.bts (by decide)).only HON.out AW.out (by decide)
   ·exact(hB.cps.rowOnly HI.out hB.bts (by decide)).only HON.out AW.out (by decide)
   ·have h:=HRB.out.only HON.out AW.out (by decide);rw[HN3.out]at h;exact h
  have hb3:Below N w w3:=(hb1.mono' hN).trans (HI.out.below.trans (HON.out.below.mono' V1.out.lo));have hs3:w.heap.size<=w3.heap.size:=hb3.size;have hz3:=(AB E3.out).1;have hA3:A<w3.heap.size:=(AB A3.out).1;have HE2:Hid (a2≠some ⟨w.heap.size,0,none⟩):=V3.out.rows.cps.ne E3.out (by decide);have HA2:Hid (a2≠some ⟨A,0,none⟩):=V3.out.rows.cps.ne A3.out (by decide);clear AW EW HI HRB V1 A1 E1 HE3 HA3 HON hb1 hz1 hA1 hsW;refine Br 13 3 [[],[0],[1],[],[3],[4],[5],[6],[7],[],[8,9],[2],[11]] [10] [10] [10] [10] [] (λW=>RowOnly a2 N w3 W) (λW=>RowN W N 49 7 a2 B.cps.length k2 (As B.cps)) (λ_ _ _=>True) (λW h=>RowOnly.of h (by omega)) (λW h=>V3.out.rows.cps.below h) (λW W2 h hb=>h.grow hb (by omega)) (λW W2 _ h hb=>h.below hb) (by kernel_rfl) (by kernel_rfl) (by kernel_rfl) ?_;apply AS (by kernel_rfl)
  ·intro V W K A hI hJ hd hA hK
   clear hJ;simp only[pA]at hA;clear hd;obtain rfl:=hA;go_wp2;exact hK.out _ brf
  apply AS (by kernel_rfl)
  ·intro V W K A hI hJ hd hA hK
   clear hJ;have d0:V 0=_:=hd 0 (by kernel_rfl);simp only[pA]at hA;clear hd;generalize V 0=x0 at d0 hA;subst d0;obtain rfl:=hA;go_wp2;exact hK.out _ brf
  apply AS (by kernel_rfl)
  ·intro V W K A hI hJ hd hA hK
   clear hJ;have d1:V 1=_:=hd 1 (by kernel_rfl);simp only[pA]at hA;clear hd;generalize V 1=x1 at d1 hA;subst d1;obtain rfl:=hA;have q0:=AJ ((hI.block w.heap.size hz3 HE2.out).trans E3.out) 0 rfl;go_wp2;exact hK.out _ brf
  apply AS (by kernel_rfl)
  ·intro V W K A hI hJ hd hA hK
   clear hJ;simp only[pA]at hA;clear hd;obtain rfl:=hA;go_wp2;exact hK.out _ brf
  apply AS (by kernel_rfl)
  ·intro V W K A hI hJ hd hA hK
   clear hJ;have d3:V 3=_:=hd 3 (by kernel_rfl);simp only[pA]at hA;clear hd;generalize V 3=x3 at d3 hA;subst d3;obtain rfl:=hA;go_wp2;exact hK.out _ brf
  apply AS (by kernel_rfl)
  ·intro V W K A hI hJ hd hA hK
   clear hJ;have d4:V 4=_:=hd 4 (by kernel_rfl);simp only[pA]at hA;clear hd;generalize V 4=x4 at d4 hA;subst d4;obtain rfl:=hA;have q0:=AJ ((hI.block w.heap.size hz3 HE2.out).trans E3.out) 0 rfl;go_wp2;exact hK.out _ brf
  apply AS (by kernel_rfl)
  ·intro V W K A hI hJ hd hA hK
   clear hJ;have d5:V 5=_:=hd 5 (by kernel_rfl);simp only[pA]at hA;clear hd;generalize V 5=x5 at d5 hA;subst d5;obtain rfl:=hA;go_wp2;exact hK.out _ brf
  apply AS (by kernel_rfl)
  ·intro V W K A hI hJ hd hA hK
   clear hJ;have d6:V 6=_:=hd 6 (by kernel_rfl);simp only[pA]at hA;clear hd;generalize V 6=x6 at d6 hA;subst d6;obtain rfl:=hA;go_wp2;exact hK.out _ brf
  apply AS (by kernel_rfl)
  ·intro V W K A hI hJ hd hA hK
   clear hJ;have d7:V 7=_:=hd 7 (by kernel_rfl);simp only[pA]at hA;clear hd;generalize V 7=x7 at d7 hA;subst d7;obtain rfl:=hA;have e2:=AJ ((hI.block A hA3 HA2.out).trans A3.out) 2 rfl;go_wp2;exact hK.out _ brf
  apply AS (by kernel_rfl)
  ·intro V W K A hI hJ hd hA hK
   clear hJ;simp only[pA]at hA;clear hd;obtain rfl:=hA;go_wp2;exact hK.out _ brf
  refine Ds (λ(_:Nat->Value) vv W=>∃bo n' kk,vv=.slice bo n' kk/\n'=(B.cps.filter λc=>!(c.berth.toList==nm.toList)).length/\RowN W N 49 7 bo n' kk (As (B.cps.filter λc=>!(c.berth.toList==nm.toList)))) (λ_ v W W2 ⟨bo,n2,kk,h1,h2,h3⟩ hb=>⟨bo,n2,kk,h1,h2,h3.below hb⟩) (λ_ _ _ _ _ h=>h) (by kernel_rfl) (by kernel_rfl) ?_ ?_
  ·intro V W K A hI hJ hd hA hK
   have hJ:=hJ (by kernel_rfl);have d8:V 8=_:=hd 8 (by kernel_rfl);have d9:V 9=_:=hd 9 (by kernel_rfl);simp only[pA]at hA;clear hd;generalize hV0:V 0=x0 at hA hK;generalize hV1:V 1=x1 at hA hK;generalize hV2:V 2=x2 at hA hK;generalize hV3:V 3=x3 at hA hK;generalize hV4:V 4=x4 at hA hK;generalize hV5:V 5=x5 at hA hK;generalize hV6:V 6=x6 at hA hK;generalize hV7:V 7=x7 at hA hK;generalize hV8:V 8=x8 at d8 hA hK;generalize hV9:V 9=x9 at d9 hA hK;generalize hV10:V 10=x10 at hA hK;generalize hV11:V 11=x11 at hA hK;generalize hV12:V 12=x12 at hA hK;subst d8;subst d9;obtain rfl:=hA;have HI:Hid (RowOnly a2 N w3 W):=hI;have HJ:=Ay hJ;have hsz:=hI.size;have EW:Hid (W.heap[w.heap.size]?=some (.cells #[.pointer (some ⟨A,0,none⟩),.string nm] 99 (0,0))):=(hI.block w.heap.size hz3 HE2.out).trans E3.out;clear hI hJ hV0 hV1 hV2 hV3 hV4 hV5 hV6 hV7 hV8 hV9 hV10 hV11 hV12
   go_wp2_with fail
   refine(L5 B.cps nm A w.heap.size a2 B.cps.length k2 N W rfl (by have:=hF.l2;omega) (by omega) EW.out HJ.out).mono ?_;rintro e w4 ⟨bo,n2,kk,rfl,hn2,hr2,hkp,hbq⟩;have HR2:=Ay hr2;have HN2:Hid _:=hn2;have HKP:Hid _:=hkp;clear hr2 hn2 hkp;go_wp2;exact hK.out _ _ trivial ⟨λq hq hne=>(HKP.out q (by omega) hne).trans (HI.out.block q hq hne),AH hsz hbq.size,HI.out.below.trans hbq⟩ ⟨bo,n2,kk,rfl,HN2.out,HR2.out⟩
  apply AS (by kernel_rfl)
  ·intro V W K A hI hJ hd hA hK
   clear hJ;have d2:V 2=_:=hd 2 (by kernel_rfl);simp only[pA]at hA;clear hd;generalize V 2=x2 at d2 hA;subst d2;obtain rfl:=hA;go_wp2;exact hK.out _ brf
  apply AS (by kernel_rfl)
  ·intro V W K A hI hJ hd hA hK
   clear hJ;have d11:V 11=_:=hd 11 (by kernel_rfl);simp only[pA]at hA;clear hd;generalize V 11=x11 at d11 hA;subst d11;obtain rfl:=hA;go_wp2;exact hK.out _ brf
  refine⟨λi j hk V v W W' hr hq=>?_,?_⟩
  ·simp at hk
  intro V W A hI hS hA;have d0:V 0=_:=hS 0 (by omega) (.inr (by kernel_rfl));have d1:V 1=_:=hS 1 (by omega) (.inr (by kernel_rfl));have d2:V 2=_:=hS 2 (by omega) (.inr (by kernel_rfl));have d3:V 3=_:=hS 3 (by omega) (.inr (by kernel_rfl));have d4:V 4=_:=hS 4 (by omega) (.inr (by kernel_rfl));have d5:V 5=_:=hS 5 (by omega) (.inr (by kernel_rfl));have d6:V 6=_:=hS 6 (by omega) (.inr (by kernel_rfl));have d7:V 7=_:=hS 7 (by omega) (.inr (by kernel_rfl));have d8:V 8=_:=hS 8 (by omega) (.inr (by kernel_rfl));have d9:V 9=_:=hS 9 (by omega) (.inr (by kernel_rfl));have d10:(λ(_:Nat->Value) vv W=>∃bo n' kk,vv=.slice bo n' kk/\n'=(B.cps.filter λc=>!(c.berth.toList==nm.toList)).length/\RowN W N 49 7 bo n' kk (As (B.cps.filter λc=>!(c.berth.toList==nm.toList)))) V (V 10) W:=hS 10 (by omega) (.inl (by kernel_rfl));have d11:V 11=_:=hS 11 (by omega) (.inr (by kernel_rfl));have d12:V 12=_:=hS 12 (by omega) (.inr (by kernel_rfl));simp only[pA]at hA;dsimp only at d10;clear hS;generalize V 0=x0 at d0 hA;generalize V 1=x1 at d1 hA;generalize V 2=x2 at d2 hA;generalize V 3=x3 at d3 hA;generalize V 4=x4 at d4 hA;generalize V 5=x5 at d5 hA;generalize V 6=x6 at d6 hA;generalize V 7=x7 at d7 hA;generalize V 8=x8 at d8 hA;generalize V 9=x9 at d9 hA;generalize V 10=x10 at d10 hA;generalize V 11=x11 at d11 hA;generalize V 12=x12 at d12 hA;subst d0;subst d1;subst d2;subst d3;subst d4;subst d5;subst d6;subst d7;subst d8;subst d9;subst d11;subst d12;obtain rfl:=hA;simp only[List.drop_succ_cons,List.drop_zero]
  obtain⟨co,n',kc,rfl,hn',hr⟩:=d10;have HN':Hid _:=hn';have HRC:=Ay hr;have HI:Hid (RowOnly a2 N w3 W):=hI;have AW:Hid (W.heap[A]?=some (.cells #[.int .i64 B.now,.slice a1 B.svcs.length k1,.slice a2 B.cps.length k2,.slice bo n3 kk] 27 (0,0))):=(hI.block A hA3 HA2.out).trans A3.out;have hsW:=hI.size;clear hn' hr hI
  go_upto_region 6 with(refine Ai rfl 24 (.tmp 42) (.tmp 40) rfl A 2 (.slice co n' kc) rfl rfl Tryz.infosCpsI rfl rfl 27 #[.int .i64 B.now,.slice a1 B.svcs.length k1,.slice a2 B.cps.length k2,.slice bo n3 kk] AW.out (AD rfl) ?_;intro w5 hz on;have A5:Hid (w5.heap[A]?=some (.cells #[.int .i64 B.now,.slice a1 B.svcs.length k1,.slice co n' kc,.slice bo n3 kk] 27 (0,0))):=hz;have HON:Hid (BA A W w5):=on;clear hz on)
  have V5:Hid (BkVar w5 N A {B with now:=B.now,bts:=B.bts.take i++B.bts.drop (i+1),cps:=B.cps.filter λc=>!(c.berth.toList==nm.toList)} a1 co bo k1 kc kk):=by
   have hB:=V3.out.rows;refine⟨V3.out.lo,?_,?_,?_,?_⟩
   ·have h:=A5.out;rw[HN3.out,HN'.out]at h;exact h
   ·exact(hB.svcs.rowOnly HI.out hB.cps (by decide)).only HON.out AW.out (by decide)
   ·have h:=HRC.out.only HON.out AW.out (by decide);rw[HN'.out]at h;exact h
   ·exact(hB.bts.rowOnly HI.out hB.cps (by decide)).only HON.out AW.out (by decide)
  have hb5:Below N w w5:=hb3.trans (HI.out.below.trans (HON.out.below.mono' V3.out.lo));clear AW HI HRC V3 A3 E3 HE2 HA2 HON A5;go_wp2;go_ret;exact⟨rfl,λ_=>⟨_,_,_,_,_,_,V5.out⟩,hb5⟩
end Go.Proofs.YtbceafpodamnfaaGreat
