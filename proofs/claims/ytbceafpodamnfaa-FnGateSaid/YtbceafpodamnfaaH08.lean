import Derived.Test.YtbceafpodamnfaaH07
import Derived.Deep.RegionWith
set_option linter.all false
set_option maxHeartbeats 8000000
set_option maxRecDepth 100000
namespace Go.Proofs.Ytbceafpodamnfaa
attribute [local simp] svV cpV zbV czV aaV ctZ ad bkV ctV
attribute [local go_sem] svV cpV zbV czV aaV ctZ ad bkV ctV
section
open Go.RowKit Go.Sort Go.Maps
def FF(B:Bk)(sv:ByteArray):Cnt:=if Au B then D6 B sv else Cnt.none
theorem Ih(B:Bk)(sv:ByteArray)(a1 a2 a3:Option Addr)(c1 c2 c3:Nat)(w:World)(hS:B.small)(hZ:B.sized)(hB:BkAt w a1 a2 a3 B):
  Calls Try.prog 11 #[.agg (bkV B a1 c1 a2 c2 a3 c3),.string sv] w λe w'=>e=.returned (.agg (Hs (FF B sv)))/\Below w.heap.size w w':=by
 obtain⟨t0,t1,t2⟩:=Bh w (.cells (bkV B a1 c1 a2 c2 a3 c3) 27) (.cells ctZ 32);have T0:Hid _:=t0;have T1:Hid _:=t1;have T2:Hid _:=t2;clear t0 t1 t2;have hb0:Below w.heap.size w ((w.alloc (.cells (bkV B a1 c1 a2 c2 a3 c3) 27)).alloc (.cells ctZ 32)):=((Below.refl _ _).alloc (AG _) _).alloc (by simp) _;go_enter Try.func11,Try.ntmps11
 go_wp2_with fail
 refine(Az B a1 a2 a3 c1 c2 c3 _ hS hZ (hB.below hb0)).mono ?_;rintro e w1 ⟨rfl,hb1⟩;have hbb1:=hb0.trans (hb1.mono hb0.size);rw[T2.out]at hb1;have U0:Hid _:=AL hb1 T0.out (by omega);have U1:Hid _:=AL hb1 T1.out (by omega);have hz1:w.heap.size+1<w1.heap.size:=by have:=hb1.size;rw[T2.out]at this;omega
 clear hb1 hb0 T0 T1 T2;cases hv:Au B
 ·obtain⟨N,HN⟩:∃N,Hid (N=FF B sv):=⟨_,rfl⟩
  have HZ:Hid (N=Cnt.none):=by unfold Hid;rw[HN.out];simp[FF,hv]
  have p0:=AK U1.out 0 rfl;have p1:=AK U1.out 1 rfl;have p2:=AK U1.out 2 rfl;have p3:=AK U1.out 3 rfl;have p4:=AK U1.out 4 rfl;have g0:=AZ U1.out 0;have g1:=AZ U1.out 1;have g2:=AZ U1.out 2;have g3:=AZ U1.out 3;have g4:=AZ U1.out 4;go_wp2;refine bodyPost_ret (v:=.agg ctZ) (by simp[results,Try.results11,go_sem,p0,p1,p2,p3,p4]) rfl ⟨by rw[<-HN.out,HZ.out];rfl,?_⟩;exact((((hbb1.setCell (by simp) _).setCell (by simp) _).setCell (by simp) _).setCell (by simp) _).setCell (by simp) _
 ·obtain⟨N,HN⟩:∃N,Hid (N=D6 B sv):=⟨_,rfl⟩
  have HO:Hid (FF B sv=N):=by unfold Hid;rw[HN.out];simp[FF,hv]
  obtain⟨e0,e1,e2,e3⟩:=c4 U0.out
  go_wp2_with fail
  refine(EG B sv a1 a2 a3 c1 c2 c3 _ hS (hB.below hbb1) N HN).mono ?_;rintro e w2 ⟨rfl,hb2⟩;have hbb2:=hbb1.trans (hb2.mono hbb1.size);have V1:Hid _:=AL hb2 U1.out hz1;clear e0 e1 e2 e3 hb2;have p0:=AK V1.out 0 rfl;have p1:=AK V1.out 1 rfl;have p2:=AK V1.out 2 rfl;have p3:=AK V1.out 3 rfl;have p4:=AK V1.out 4 rfl;have g0:=AZ V1.out 0;have g1:=AZ V1.out 1;have g2:=AZ V1.out 2;have g3:=AZ V1.out 3;have g4:=AZ V1.out 4;go_wp2;refine bodyPost_ret (v:=.agg (ctV N)) (by simp[results,Try.results11,go_sem,p0,p1,p2,p3,p4]) rfl ⟨by rw[HO.out];rfl,?_⟩;exact((((hbb2.setCell (by simp) _).setCell (by simp) _).setCell (by simp) _).setCell (by simp) _).setCell (by simp) _
theorem Ik(B:Bk)(sv:ByteArray)(a1 a2 a3:Option Addr)(c1 c2 c3:Nat)(w:World)(HK:Hid (B.cps.length<=c2))(hsv:sv.size<=maxLen)(hS:B.small)(hZ:B.sized)(hB:BkAt w a1 a2 a3 B):
  Calls Try.prog 10 #[.agg (bkV B a1 c1 a2 c2 a3 c3),.string sv] w λe w'=>e=.returned (.agg (Hs (FF B sv)))/\Below w.heap.size w w':=by
 obtain⟨t0,t1,t2⟩:=Bh w (.cells (bkV B a1 c1 a2 c2 a3 c3) 27) (.cells ctZ 32);have T0:Hid _:=t0;have T1:Hid _:=t1;have T2:Hid _:=t2;clear t0 t1 t2;have hb0:Below w.heap.size w ((w.alloc (.cells (bkV B a1 c1 a2 c2 a3 c3) 27)).alloc (.cells ctZ 32)):=((Below.refl _ _).alloc (AG _) _).alloc (by simp) _;go_enter Try.func10,Try.ntmps10
 go_wp2_with fail
 refine(Gk B a1 a2 a3 c1 c2 c3 _ hS hZ (hB.below hb0)).mono ?_;rintro e w1 ⟨rfl,hb1⟩;have hbb1:=hb0.trans (hb1.mono hb0.size);rw[T2.out]at hb1;have U0:Hid _:=AL hb1 T0.out (by omega);have U1:Hid _:=AL hb1 T1.out (by omega);have hz1:w.heap.size+1<w1.heap.size:=by have:=hb1.size;rw[T2.out]at this;omega
 clear hb1 hb0 T0 T1 T2;cases hv:Au B
 ·obtain⟨N,HN⟩:∃N,Hid (N=FF B sv):=⟨_,rfl⟩
  have HZ:Hid (N=Cnt.none):=by unfold Hid;rw[HN.out];simp[FF,hv]
  have p0:=AK U1.out 0 rfl;have p1:=AK U1.out 1 rfl;have p2:=AK U1.out 2 rfl;have p3:=AK U1.out 3 rfl;have p4:=AK U1.out 4 rfl;have g0:=AZ U1.out 0;have g1:=AZ U1.out 1;have g2:=AZ U1.out 2;have g3:=AZ U1.out 3;have g4:=AZ U1.out 4;go_wp2;refine bodyPost_ret (v:=.agg ctZ) (by simp[results,Try.results10,go_sem,p0,p1,p2,p3,p4]) rfl ⟨by rw[<-HN.out,HZ.out];rfl,?_⟩;exact((((hbb1.setCell (by simp) _).setCell (by simp) _).setCell (by simp) _).setCell (by simp) _).setCell (by simp) _
 ·have hU:IQ B:=by
   have:=hv;simp only[Au,Bool.and_eq_true]at this;exact Iq this.1.1.2
  have HV:Hid (Au B=true):=hv;clear hv;obtain⟨e0,e1,e2,e3⟩:=c4 U0.out
  go_wp2_with fail
  refine(ER B a1 a2 a3 c1 c2 c3 _ hS hZ hU (hB.below hbb1)).mono ?_;rintro e w2 ⟨rfl,hpl,hb2⟩;have hbb2:=hbb1.trans (hb2.mono hbb1.size);have V0:Hid _:=AL hb2 U0.out (by omega);have V1:Hid _:=AL hb2 U1.out hz1;have hz2:w.heap.size+1<w2.heap.size:=AF hz1 hb2.size;obtain⟨n,D,hn,hown2,q1,q2,q3,q4⟩:=hpl;have H1:Hid _:=q1;have H2:Hid _:=q2;clear e0 e1 e2 e3 hb2 q1 q2 q3 q4
  cases hf:Bz B sv with
  |none=>
   have HO:Hid (FF B sv=Cnt.none):=by unfold Hid FF;rw[HV.out];simp[D6,hf]
   have HH:Hid (Maps.has D (key 1 sv)=false):=H1.out sv hsv (Ed hf);have HA:Hid (D.atKey (key 1 sv) (.lit (.int .i64 0))=.lit (.int .i64 0)):=atKey_of_not_has HH.out _;clear hf;have p0:=AK V1.out 0 rfl;have p1:=AK V1.out 1 rfl;have p2:=AK V1.out 2 rfl;have p3:=AK V1.out 3 rfl;have p4:=AK V1.out 4 rfl;have g0:=AZ V1.out 0;have g1:=AZ V1.out 1;have g2:=AZ V1.out 2;have g3:=AZ V1.out 3;have g4:=AZ V1.out 4
   go_wp2_with (at_lookup;refine BA _ rfl (.tmp 13) (.tmp 15) 64 rfl 67 3 .i64 thingLaw Try.underlying64 Try.underlying3 (Cd _) (w1.heap.size+1) n D rfl hown2 _ _ rfl (C8 1 sv wf1 hsv) 0 false HA.out HH.out ?_)
   refine bodyPost_ret (v:=.agg ctZ) (by simp[results,Try.results10,go_sem,p0,p1,p2,p3,p4]) rfl ⟨by rw[HO.out];rfl,?_⟩;exact((((hbb2.setCell (by simp) _).setCell (by simp) _).setCell (by simp) _).setCell (by simp) _).setCell (by simp) _
  |some s=>
   obtain⟨i,hil,hi,hnm⟩:=Ec hf;obtain⟨N,HN⟩:∃N,Hid (N=Cq s.image s.name B.cps B.cps.length):=⟨_,rfl⟩;have HO:Hid (FF B sv=N):=by unfold Hid FF;rw[HV.out,HN.out,hnm];simp[D6,hf]
   have H2':=H2.out i s hil hi;rw[hnm]at H2';have HH:Hid (Maps.has D (key 1 sv)=true):=H2'.1;have HA:Hid (D.atKey (key 1 sv) (.lit (.int .i64 0))=.lit (.int .i64 (i:Int))):=H2'.2;have hne:B.svcs≠[]:=by intro h;rw[h]at hil;simp at hil
   obtain⟨bS,offS,eS,hbsS,hatS⟩:=hB.1 hne;subst eS;have hsx:=(hatS i s hi).below hbb2 hbsS;unfold SvcAt at hsx;obtain⟨z0,z1,z2,z3,z4,z5,z6,z7,z8,z9,z10,z11,z12⟩:=hsx;have hC2:SlC w2.drew a2 B.cps:=(hB.below hbb2.drew).2.1;have hS':=hS;obtain⟨hl1,hl2,hl3⟩:=hS';obtain⟨e0,e1,e2,e3⟩:=c4 V0.out;clear hf H2' hnm hi hne hatS
   go_wp2_with (at_lookup;refine BA _ rfl (.tmp 13) (.tmp 15) 64 rfl 67 3 .i64 thingLaw Try.underlying64 Try.underlying3 (Cd _) (w1.heap.size+1) n D rfl hown2 _ _ rfl (C8 1 sv wf1 hsv) (i:Int) true HA.out HH.out ?_)
   go_region_with (go_at_call 26;refine(F3 B s _ a2 a3 c1 c2 c3 _ hl2 (Lz (validB_iff.1 HV.out)) HK hC2 N HN).mono ?_;rintro e w4 ⟨rfl,hb4⟩;have X1:Hid _:=AL hb4 V1.out hz2;have p0:=AK X1.out 0 rfl;have p1:=AK X1.out 1 rfl;have p2:=AK X1.out 2 rfl;have p3:=AK X1.out 3 rfl;have p4:=AK X1.out 4 rfl;have g0:=AZ X1.out 0;have g1:=AZ X1.out 1;have g2:=AZ X1.out 2;have g3:=AZ X1.out 3;have g4:=AZ X1.out 4)
   all_goals
    go_wp2;refine bodyPost_ret (v:=.agg (ctV N)) (by simp[results,Try.results10,go_sem,p0,p1,p2,p3,p4]) rfl ⟨by rw[HO.out];rfl,?_⟩;have hbF:=hbb2.drew.trans (hb4.mono hbb2.size);exact((((hbF.setCell (by simp) _).setCell (by simp) _).setCell (by simp) _).setCell (by simp) _).setCell (by simp) _
theorem GJ(B:Bk)(sv:ByteArray)(num:Int)(a1 a2 a3:Option Addr)(c1 c2 c3:Nat)(w:World)(HK:Hid (B.cps.length<=c2))(hsv:sv.size<=maxLen)(hnum:Au B=true->(Lit.int .i64 num).wf=true)(hS:B.small)(hZ:B.sized)(hB:BkAt w a1 a2 a3 B):
  Calls Try.prog 8 #[.agg (bkV B a1 c1 a2 c2 a3 c3),.string sv,.int .i64 num] w λe w'=>e=.returned (.bool (B4 B sv num))/\Below w.heap.size w w':=by
 have hb0:=AO w (.cells (bkV B a1 c1 a2 c2 a3 c3) 27);have T0:Hid _:=heap_alloc_new w (.cells (bkV B a1 c1 a2 c2 a3 c3) 27);have HS0:Hid _:=size_alloc' w (.cells (bkV B a1 c1 a2 c2 a3 c3) 27);have HNUM:Hid _:=hnum;clear hnum;go_enter Try.func8,Try.ntmps8
 go_wp2_with fail
 refine(Gk B a1 a2 a3 c1 c2 c3 _ hS hZ (hB.below hb0)).mono ?_;rintro e w1 ⟨rfl,hb1⟩;have hbb1:=hb0.trans (hb1.mono hb0.size);rw[HS0.out]at hb1;have T1:Hid _:=AL hb1 T0.out (by omega);have hz1:w.heap.size<w1.heap.size:=by have:=hb1.size;rw[HS0.out]at this;omega
 clear hb1 hb0 T0 HS0;cases hv:Au B
 ·have HO:Hid (B4 B sv num=false):=by unfold Hid B4;rw[hv];rfl
  go_wp2;go_ret;exact⟨AS HO.out.symm,hbb1⟩
 ·have hval:=validB_iff.1 hv
  have HNUM:Hid ((Lit.int .i64 num).wf=true):=HNUM.out hv;have HSO:Hid (Hy B.cps):=Lz hval;have HVB:Hid _:=hv;have hU:IQ B:=Iq hval.svcs;clear hv;obtain⟨e0,e1,e2,e3⟩:=c4 T1.out
  go_wp2_with fail
  refine(Js B a1 a2 a3 c1 c2 c3 _ hS hZ hval.wfC (uniqC_of hval.cps) (hB.below hbb1)).mono ?_;rintro e w2 ⟨rfl,hpl,hb2⟩;have hbb2:=hbb1.trans (hb2.mono hbb1.size);have T2:Hid _:=AL hb2 T1.out hz1;have hz2:w.heap.size<w2.heap.size:=AF hz1 hb2.size;obtain⟨n,D,hn,hown2,q1,q2⟩:=hpl;have H1:Hid _:=q1;have H2:Hid _:=q2;clear e0 e1 e2 e3 hb2 q1 q2 hbb1 T1
  cases hf:B.cps.find? (isC sv num) with
  |none=>
   have HO:Hid (B4 B sv num=false):=by unfold Hid B4;rw[hf,Bool.and_false]
   have HH:Hid (Maps.has D (F5 sv num)=false):=H1.out sv num hsv HNUM.out λi c _ hc hh=>by
    rw[List.find?_eq_none]at hf;exact hf c (AE hc) (isC_iff.2 hh)
   have HA:Hid (D.atKey (F5 sv num) (.lit (.int .i64 0))=.lit (.int .i64 0)):=atKey_of_not_has HH.out _;clear hf
   go_wp2_with (at_lookup;refine BA _ rfl (.tmp 15) (.tmp 18) 58 rfl 61 3 .i64 numLaw Try.underlying58 Try.underlying3 (Cd _) (w1.heap.size+1) n D rfl hown2 _ _ rfl (He sv num HNUM.out hsv) 0 false HA.out HH.out ?_)
   go_ret;exact⟨AS HO.out.symm,hbb2⟩
  |some c=>
   obtain⟨ic,hic,hidc⟩:∃i:Nat,B.cps[i]?=some c/\Jl B.cps sv num=(i:Int):=Bo hf;have hiclt:ic<B.cps.length:=(AC hic).1;obtain⟨hcs,hcn⟩:=isC_iff.1 (List.find?_some hf);have hcm:=AE hic;obtain⟨s,hsv',_⟩:=hval.svc hcm;rw[hcs]at hsv';have hsi:=hval.svcIn (Du hsv');obtain⟨ix,hixlt,hix,hnm⟩:=Ec hsv';obtain⟨bS,offS,eS,hbsS,hatS⟩:=hB.1 (by intro h;rw[h]at hixlt;simp at hixlt);obtain⟨bC,offC,eC,hbsC,hatC⟩:=hB.2.1 (by intro h;rw[h]at hiclt;simp at hiclt);subst eS eC;have hsx:=hatS ix s hix;have hcx:=hatC ic c hic;obtain⟨N,HN⟩:∃N,Hid (N=Cq s.image s.name B.cps B.cps.length):=⟨_,rfl⟩;have hup:=Ep s.image s.name B.cps B.cps.length (AG _);rw[<-HN.out]at hup;have hr0:=hup.2.2.1;have hr1:=hup.2.2.2.1
   have HO:Hid (B4 B sv num=mayR s c N.ready):=by
    unfold Hid B4;rw[HVB.out,hf,hsv',HN.out,hnm];simp only[Bool.true_and];exact mayL_R B s sv c
   have H2':=H2.out ic c hiclt hic;rw[hcs,hcn]at H2';have HH:Hid (Maps.has D (F5 sv num)=true):=H2'.1;have HA:Hid (D.atKey (F5 sv num) (.lit (.int .i64 0))=.lit (.int .i64 (ic:Int))):=H2'.2;have HSX:Hid _:=hix;have HNM:Hid _:=hnm;have HG1:Hid (∀W,Below w2.heap.size w2 W->Bl W (w.heap.size) (bkV B (some ⟨bS,offS,none⟩) c1 (some ⟨bC,offC,none⟩) c2 a3 c3) 27):=λW hW=>AL hW T2.out hz2
   have HG2:Hid (∀W,Below w2.heap.size w2 W->w.heap.size<W.heap.size):=λW hW=>AF hz2 hW.size
   have HG3:Hid (∀W,Below w2.heap.size w2 W->Below w.heap.size w W):=λW hW=>hbb2.trans (hW.mono hbb2.size)
   have hl:=hS;obtain⟨hl1,hl2,hl3⟩:=hl;have hr2:N.ready<=1048576:=by omega
   clear hf hic hidc hcs hcn hcm hsv' hnm hix hatS hatC hup H2' H1 H2 hval HVB hbb2 T2
   go_wp2_with (at_lookup;refine BA _ rfl (.tmp 15) (.tmp 18) 58 rfl 61 3 .i64 numLaw Try.underlying58 Try.underlying3 (Cd _) (w1.heap.size+1) n D rfl hown2 _ _ rfl (He sv num HNUM.out hsv) (ic:Int) true HA.out HH.out ?_)
   clear hown2 HA HH;refine AX 10 (by kernel_rfl) (by kernel_rfl) ?_;apply AN
   ·intro V W K A hW hd hA hK
    simp only[pA]at hA;clear hd;obtain rfl:=hA;go_wp2;exact hK.out _ brf
   apply AN
   ·intro V W K A hW hd hA hK
    have d0:V 0=_:=hd 0 (by kernel_rfl);simp only[pA,d0]at hA;clear hd d0;obtain rfl:=hA;obtain⟨e0,e1,e2,e3⟩:=c4 (HG1.out W hW);go_wp2;exact hK.out _ brf
   apply AN
   ·intro V W K A hW hd hA hK
    simp only[pA]at hA;clear hd;obtain rfl:=hA;obtain⟨e0,e1,e2,e3⟩:=c4 (HG1.out W hW);go_wp2;exact hK.out _ brf
   refine Av (λv W=>∃m,v=.map (some m)/\PlacesAt W m B B.svcs.length B.bts.length) (λv W W2 ⟨m,h1,h2⟩ hb=>⟨m,h1,h2.below hb h2.lt⟩) ?_ ?_
   ·intro V W K A hW hd hA hK
    have d2:V 2=_:=hd 2 (by kernel_rfl);simp only[pA,d2]at hA;clear hd d2;obtain rfl:=hA
    go_wp2_with fail
    refine(ER B _ _ a3 c1 c2 c3 _ hS hZ hU (hB.below (HG3.out W hW))).mono ?_;rintro e w3 ⟨rfl,hpl,hb3⟩;have HPL:Hid _:=hpl;clear hpl;go_wp2;exact hK.out _ _ hb3 ⟨_,rfl,HPL.out⟩
   apply AN
   ·intro V W K A hW hd hA hK
    simp only[pA]at hA;clear hd;obtain rfl:=hA;go_wp2;exact hK.out _ brf
   apply AN
   ·intro V W K A hW hd hA hK
    have d4:V 4=_:=hd 4 (by kernel_rfl);simp only[pA,d4]at hA;clear hd d4;obtain rfl:=hA;go_wp2;exact hK.out _ brf
   apply AN
   ·intro V W K A hW hd hA hK
    have d3:(λv W=>∃m,v=.map (some m)/\PlacesAt W m B B.svcs.length B.bts.length) (V 3) W:=hd 3 (by kernel_rfl);have d5:V 5=_:=hd 5 (by kernel_rfl);simp only[pA,d5]at hA;clear hd d5;generalize V 3=x3 at d3 hA;obtain rfl:=hA;obtain⟨m,rfl,hpl⟩:=d3;obtain⟨n,D,hn,hown,q1,q2,q3,q4⟩:=hpl;have H2:=q2 ix s hixlt HSX.out;rw[HNM.out]at H2;have HAT:Hid _:=H2.2;clear q1 q2 q3 q4 H2;refine wpList_lookup_own_int _ rfl (.tmp 27) (.tmp 29) 64 rfl 67 3 .i64 thingLaw Try.underlying64 Try.underlying3 (Cd _) m n D rfl hown _ _ rfl (C8 1 sv wf1 hsv) λc0 hc0 _=>?_
    have hcc:c0=(ix:Int):=by rw[HAT.out]at hc0;simpa using hc0.symm
    subst hcc;exact hK.out _ brf
   apply AN
   ·intro V W K A hW hd hA hK
    have d1:V 1=_:=hd 1 (by kernel_rfl);have d6:V 6=_:=hd 6 (by kernel_rfl);simp only[pA,d1,d6]at hA;clear hd d1 d6;obtain rfl:=hA;go_wp2;exact hK.out _ brf
   apply AN
   ·intro V W K A hW hd hA hK
    have d7:V 7=_:=hd 7 (by kernel_rfl);simp only[pA,d7]at hA;clear hd d7;obtain rfl:=hA;have hq:=hsx.below (HG3.out W hW) hbsS;unfold SvcAt at hq;obtain⟨q0,q1,q2,q3,q4,q5,q6,q7,q8,q9,q10,q11,q12⟩:=hq;go_wp2;exact hK.out _ brf
   refine Av (λv W=>∃p,v=.pointer (ad p)/\w.heap.size<p/\W.heap[p]?=some (.cells #[.string ⟨#[]⟩,.int .i64 0,.bool false,.int .i64 0,.int .i64 0,.int .i64 0,.int .i64 0,.int .i64 0,.int .i64 0,.int .i64 0,.int .i64 0,.int .i64 0,.int .i64 0] 63 (0,0))) (λv W W2 ⟨p,h1,h2,h3⟩ hb=>⟨p,h1,h2,AL hb h3 (AB h3).1⟩) ?_ ?_
   ·intro V W K A hW hd hA hK
    simp only[pA]at hA;clear hd;obtain rfl:=hA;go_wp2;exact hK.out _ _ (AO W _) ⟨_,rfl,HG2.out W hW,heap_alloc_new W _⟩
   intro V W A hW hS hA;have d0:V 0=_:=hS 0 (by omega);have d1:V 1=_:=hS 1 (by omega);have d2:V 2=_:=hS 2 (by omega);have d3:(λv W=>∃m,v=.map (some m)/\PlacesAt W m B B.svcs.length B.bts.length) (V 3) W:=hS 3 (by omega);have d4:V 4=_:=hS 4 (by omega);have d5:V 5=_:=hS 5 (by omega);have d6:V 6=_:=hS 6 (by omega);have d7:V 7=_:=hS 7 (by omega);have d8:V 8=_:=hS 8 (by omega);have d9:(λv W=>∃p,v=.pointer (ad p)/\w.heap.size<p/\W.heap[p]?=some (.cells #[.string ⟨#[]⟩,.int .i64 0,.bool false,.int .i64 0,.int .i64 0,.int .i64 0,.int .i64 0,.int .i64 0,.int .i64 0,.int .i64 0,.int .i64 0,.int .i64 0,.int .i64 0] 63 (0,0))) (V 9) W:=hS 9 (by omega);simp only[pA,d0,d1,d2,d4,d5,d6,d7,d8]at hA;clear hS d0 d1 d2 d4 d5 d6 d7 d8;generalize V 3=x3 at d3 hA;generalize V 9=x9 at d9 hA;obtain rfl:=hA;simp only[List.drop_succ_cons,List.drop_zero];obtain⟨p,rfl,hp,hz⟩:=d9;clear d3;have hle:w.heap.size<=p:=by omega
   refine CD rfl 63 (.tmp 9) (.tmp 32) rfl p 0 (svV s) rfl rfl 63 #[.string ⟨#[]⟩,.int .i64 0,.bool false,.int .i64 0,.int .i64 0,.int .i64 0,.int .i64 0,.int .i64 0,.int .i64 0,.int .i64 0,.int .i64 0,.int .i64 0,.int .i64 0] hz FZ (AG 13) (Nv s) ?_;intro w5 hrow2 hsz2 hb2;have hxs:Hid (Bl w5 p (svV s) 63):=hrow2;have hbox:Hid _:=(hb2.block _ hp).trans (HG1.out W hW);have hbc:=(HG3.out W hW).trans (hb2.mono hle);clear hrow2 hsz2 hb2 hz hW HG1 HG2 HG3;have hbl:w.heap.size<w5.heap.size:=(AB hbox.out).1;have hxl:p<w5.heap.size:=(AB hxs.out).1;go_wp2;refine AX 11 (by kernel_rfl) (by kernel_rfl) ?_;apply AN
   ·intro V W K A hW hd hA hK
    simp only[pA]at hA;clear hd;obtain rfl:=hA;have z0:=AK (AL hW hxs.out hxl) 0 rfl;have z1:=AK (AL hW hxs.out hxl) 1 rfl;have z2:=AK (AL hW hxs.out hxl) 2 rfl;have z3:=AK (AL hW hxs.out hxl) 3 rfl;have z4:=AK (AL hW hxs.out hxl) 4 rfl;have z5:=AK (AL hW hxs.out hxl) 5 rfl;have z6:=AK (AL hW hxs.out hxl) 6 rfl;have z7:=AK (AL hW hxs.out hxl) 7 rfl;have z8:=AK (AL hW hxs.out hxl) 8 rfl;have z9:=AK (AL hW hxs.out hxl) 9 rfl;have z10:=AK (AL hW hxs.out hxl) 10 rfl;have z11:=AK (AL hW hxs.out hxl) 11 rfl;have z12:=AK (AL hW hxs.out hxl) 12 rfl;go_wp2;exact hK.out _ brf
   apply AN
   ·intro V W K A hW hd hA hK
    simp only[pA]at hA;clear hd;obtain rfl:=hA;go_wp2;exact hK.out _ brf
   apply AN
   ·intro V W K A hW hd hA hK
    have d1:V 1=_:=hd 1 (by kernel_rfl);simp only[pA,d1]at hA;clear hd d1;obtain rfl:=hA;obtain⟨e0,e1,e2,e3⟩:=c4 (AL hW hbox.out hbl);go_wp2;exact hK.out _ brf
   apply AN
   ·intro V W K A hW hd hA hK
    simp only[pA]at hA;clear hd;obtain rfl:=hA;go_wp2;exact hK.out _ brf
   apply AN
   ·intro V W K A hW hd hA hK
    have d2:V 2=_:=hd 2 (by kernel_rfl);have d3:V 3=_:=hd 3 (by kernel_rfl);simp only[pA,d2,d3]at hA;clear hd d2 d3;obtain rfl:=hA;go_wp2;exact hK.out _ brf
   apply AN
   ·intro V W K A hW hd hA hK
    have d4:V 4=_:=hd 4 (by kernel_rfl);simp only[pA,d4]at hA;clear hd d4;obtain rfl:=hA;have hq:=hcx.below (hbc.trans (hW.mono hbc.size)) hbsC;unfold CpAt at hq;obtain⟨q0,q1,q2,q3,q4,q5,q6⟩:=hq;go_wp2;exact hK.out _ brf
   apply AN
   ·intro V W K A hW hd hA hK
    simp only[pA]at hA;clear hd;obtain rfl:=hA;obtain⟨e0,e1,e2,e3⟩:=c4 (AL hW hbox.out hbl);go_wp2;exact hK.out _ brf
   apply AN
   ·intro V W K A hW hd hA hK
    simp only[pA]at hA;clear hd;obtain rfl:=hA;have z0:=AK (AL hW hxs.out hxl) 0 rfl;have z1:=AK (AL hW hxs.out hxl) 1 rfl;have z2:=AK (AL hW hxs.out hxl) 2 rfl;have z3:=AK (AL hW hxs.out hxl) 3 rfl;have z4:=AK (AL hW hxs.out hxl) 4 rfl;have z5:=AK (AL hW hxs.out hxl) 5 rfl;have z6:=AK (AL hW hxs.out hxl) 6 rfl;have z7:=AK (AL hW hxs.out hxl) 7 rfl;have z8:=AK (AL hW hxs.out hxl) 8 rfl;have z9:=AK (AL hW hxs.out hxl) 9 rfl;have z10:=AK (AL hW hxs.out hxl) 10 rfl;have z11:=AK (AL hW hxs.out hxl) 11 rfl;have z12:=AK (AL hW hxs.out hxl) 12 rfl;go_wp2;exact hK.out _ brf
   apply AN
   ·intro V W K A hW hd hA hK
    have d6:V 6=_:=hd 6 (by kernel_rfl);have d7:V 7=_:=hd 7 (by kernel_rfl);simp only[pA,d6,d7]at hA;clear hd d6 d7;obtain rfl:=hA
    go_wp2_with fail
    refine(F3 B s _ _ a3 c1 c2 c3 _ hl2 HSO HK ((hB.below (hbc.trans (hW.mono hbc.size))).2.1) N HN).mono ?_;rintro e w3 ⟨rfl,hb3⟩;go_wp2;exact hK.out _ hb3
   apply AN
   ·intro V W K A hW hd hA hK
    have d8:V 8=_:=hd 8 (by kernel_rfl);simp only[pA,d8]at hA;clear hd d8;obtain rfl:=hA;have hfld:=Fx;go_wp2;exact hK.out _ brf
   apply AN
   ·intro V W K A hW hd hA hK
    have d0:V 0=_:=hd 0 (by kernel_rfl);have d5:V 5=_:=hd 5 (by kernel_rfl);have d9:V 9=_:=hd 9 (by kernel_rfl);simp only[pA,d0,d5,d9]at hA;clear hd d0 d5 d9;obtain rfl:=hA
    go_wp2_with fail
    refine(NA s c N.ready _ hr0 hr2 hsi.want0 hsi.want1 hsi.down0 hsi.down1).mono ?_;rintro e w3 ⟨rfl,hb3⟩;go_wp2;exact hK.out _ hb3
   intro V W A hW hS hA;have d0:V 0=_:=hS 0 (by omega);have d1:V 1=_:=hS 1 (by omega);have d2:V 2=_:=hS 2 (by omega);have d3:V 3=_:=hS 3 (by omega);have d4:V 4=_:=hS 4 (by omega);have d5:V 5=_:=hS 5 (by omega);have d6:V 6=_:=hS 6 (by omega);have d7:V 7=_:=hS 7 (by omega);have d8:V 8=_:=hS 8 (by omega);have d9:V 9=_:=hS 9 (by omega);have d10:V 10=_:=hS 10 (by omega);simp only[pA,d0,d1,d2,d3,d4,d5,d6,d7,d8,d9,d10]at hA;clear hS d0 d1 d2 d3 d4 d5 d6 d7 d8 d9 d10;obtain rfl:=hA;simp only[List.drop_succ_cons,List.drop_zero];go_wp2;go_ret;exact⟨AS HO.out.symm,hbc.trans (hW.mono hbc.size)⟩
end
section
open Go.RowKit Go.Sort
theorem LZ(B:Bk)(sv:ByteArray)(num:Int)(a1 a2 a3:Option Addr)(c1 c2 c3:Nat)(w:World)(hS:B.small)(hB:BkAt w a1 a2 a3 B)(hV:Valid B):
  Calls Try.prog 27 #[.agg (bkV B a1 c1 a2 c2 a3 c3),.string sv,.int .i64 num] w λe w'=>e=.returned (.bool (B4 B sv num))/\Below w.heap.size w w':=by
 cases hf:B.cps.find? (isC sv num) with
 |none=>
  have e:B4 B sv num=false:=by unfold B4;rw[hf,Bool.and_false]
  rw[e];exact Gi B sv num a1 a2 a3 c1 c2 c3 w hS hB hf
 |some c=>
  have hcm:=List.mem_of_find?_eq_some hf;obtain⟨s,hs,_⟩:=hV.svc hcm;obtain⟨hcs,_⟩:=isC_iff.1 (List.find?_some hf);rw[hcs]at hs;have hi:=hV.svcIn (Du hs);have e:B4 B sv num=Gc B s sv c:=by unfold B4;rw[validB_iff.2 hV,hf,hs];rfl
  rw[e];exact FK B sv num c s a1 a2 a3 c1 c2 c3 w hS hB hf hs hi.want0 hi.want1 hi.down0 hi.down1
theorem JF(B:Bk)(sv:ByteArray)(num:Int)(a1 a2 a3:Option Addr)(c1 c2 c3:Nat)(w:World)(hS:B.small)(hZ:B.sized)(hB:BkAt w a1 a2 a3 B):
  Calls Try.prog 9 #[.agg (bkV B a1 c1 a2 c2 a3 c3),.string sv,.int .i64 num] w λe w'=>e=.returned (.bool (B4 B sv num))/\Below w.heap.size w w':=by
 have hb0:=AO w (.cells (bkV B a1 c1 a2 c2 a3 c3) 27);have T0:Hid _:=heap_alloc_new w (.cells (bkV B a1 c1 a2 c2 a3 c3) 27);have HS0:Hid _:=size_alloc' w (.cells (bkV B a1 c1 a2 c2 a3 c3) 27);go_enter Try.func9,Try.ntmps9
 go_wp2_with fail
 refine(Az B a1 a2 a3 c1 c2 c3 _ hS hZ (hB.below hb0)).mono ?_;rintro e w1 ⟨rfl,hb1⟩;have hbb1:=hb0.trans (hb1.mono hb0.size);rw[HS0.out]at hb1;have T1:Hid _:=AL hb1 T0.out (by omega);clear hb1 hb0 T0 HS0;cases hv:Au B
 ·have HO:Hid (B4 B sv num=false):=by unfold Hid B4;rw[hv];rfl
  go_wp2;go_ret;exact⟨AS HO.out.symm,hbb1⟩
 ·have hval:=validB_iff.1 hv
  obtain⟨b,HB⟩:∃b,Hid (b=B4 B sv num):=⟨_,rfl⟩
  have HC:Hid (∀W:World,BkAt W a1 a2 a3 B->Calls Try.prog 27 #[.agg (bkV B a1 c1 a2 c2 a3 c3),.string sv,.int .i64 num] W λe w'=>e=.returned (.bool b)/\Below W.heap.size W w'):=by
   intro W h;rw[HB.out];exact LZ B sv num a1 a2 a3 c1 c2 c3 W hS h hval
  clear hv hval;obtain⟨e0,e1,e2,e3⟩:=c4 T1.out
  go_wp2_with fail
  refine(HC.out _ (hB.below hbb1)).mono ?_;rintro e w2 ⟨rfl,hb2⟩;go_wp2;go_ret;exact⟨AS HB.out,hbb1.trans (hb2.mono hbb1.size)⟩
structure En where
 number:Int
 seen:Int
structure Ac where
 service:ByteArray
 seen:Int
 create:Int
 want:Int
 cool:Int
 scale:Bool
 ends:List En
 drop:Bool
abbrev acV (A:Ac) (x:Option Addr) (c:Nat):Array Value:=#[.string A.service,.int .i64 A.seen,.int .i64 A.create,.int .i64 A.want,.int .i64 A.cool,.bool A.scale,.slice x A.ends.length c,.bool A.drop]
attribute [local simp] acV
attribute [local go_sem] acV
def EnAt(w:World)(b o:Nat)(s:En):Prop:=w.cell? ⟨b,o,none⟩=some (.int .i64 s.number)/\w.cell? ⟨b,o+1,none⟩=some (.int .i64 s.seen)
def LM(w:World)(b off:Nat)(l:List En):Prop:=∀i s,l[i]?=some s->EnAt w b (off+i*2) s
theorem EnAt.below{B:Nat}{w w':World}{b o:Nat}{s:En}(h:EnAt w b o s)(hb:Below B w w')(hB:b<B):EnAt w' b o s:=by
 unfold EnAt at *;simp only[λo=>hb.cell (p:=⟨b,o,none⟩) hB];exact h
theorem EnAt.blk{w w':World}{b o:Nat}{s:En}(h:EnAt w b o s)(hb:w'.heap[b]?=w.heap[b]?):EnAt w' b o s:=by
 unfold EnAt at *;simp only[λo=>World.cell?_of_block (w:=w) (w':=w') (a:=⟨b,o,none⟩) hb];exact h
def En.cells(s:En):List Value:=(#[.int .i64 s.number,.int .i64 s.seen]:Array Value).toList
def SlE(w:World)(ao:Option Addr)(l:List En):Prop:=l≠[]->∃b off,ao=some ⟨b,off,none⟩/\b<w.heap.size/\LM w b off l
theorem SlE.below{w w':World}{ao:Option Addr}{l:List En}(h:SlE w ao l)(hb:Below w.heap.size w w'):SlE w' ao l:=λhl=>
 let ⟨b,off,e,hlt,hat⟩:=h hl
 ⟨b,off,e,AF hlt hb.size,λi s hs=>(hat i s hs).below hb hlt⟩
theorem Mj:(Try.prog.info? 168).map (λi=>(i.zero,i.size,i.bytes))=some (some (.agg #[.int .i64 0,.int .i64 0]),2,16):=by kernel_rfl
end
section
open Go.RowKit
attribute [local simp] acV
attribute [local go_sem] acV
def Jw:List En->Bool
 |x::y::l=>decide (x.number<y.number)&&Jw (y::l)
 |_=>true
theorem Jv:∀l:List En,Jw l=true↔∀i x y,l[i]?=some x->l[i+1]?=some y->x.number<y.number
 |[]=>by simp[Jw]
 |[x]=>by simp[Jw]
 |x::y::l=>by
  unfold Jw;rw[Bool.and_eq_true,decide_eq_true_eq,Jv (y::l)];constructor
  ·rintro⟨h1,h2⟩ i a b ha hb
   match i,ha,hb with
   |0,ha,hb=>obtain rfl:=Option.some.inj ha;obtain rfl:=Option.some.inj hb;exact h1
   |i+1,ha,hb=>exact h2 i a b (by simpa using ha) (by simpa using hb)
  ·intro h
   exact⟨h 0 x y rfl rfl,λi a b ha hb=>h (i+1) a b (by simpa using ha) (by simpa using hb)⟩
theorem ascE_no{l:List En}{i:Nat}{x y:En}(hx:l[i]?=some x)(hy:l[i+1]?=some y)(h:¬x.number<y.number):Jw l=false:=by
 cases ha:Jw l
 ·rfl
 ·exact absurd ((Jv l).1 ha i x y hx hy) h
def Dp(A:Ac):Bool:=inB A.create 0 20&&decide (A.ends.length<=200)&&Jw A.ends&&(if A.scale then inB A.want 0 10&&inB A.cool 0 3 else A.want==0&&A.cool==0)&&(!A.drop||(A.create==0&& !A.scale&&A.ends.length==0))
theorem IZ(A:Ac)(ae:Option Addr)(ce:Nat)(w:World)(hl:A.ends.length<=1048576)(hE:SlE w ae A.ends):
  Calls Try.prog 109 #[.agg (acV A ae ce)] w λe w'=>e=.returned (.bool (Dp A))/\Below w.heap.size w w':=by
 have T0:Hid _:=heap_alloc_new w (.cells (acV A ae ce) 152);have hb0:=AO w (.cells (acV A ae ce) 152)
 by_cases hgood:inB A.create 0 20=true/\A.ends.length<=200
 rotate_left
 ·have HO:Hid (Dp A=false):=by
   unfold Hid Dp;cases h1:inB A.create 0 20
   ·rfl
   ·have:¬A.ends.length<=200:=λh=>hgood ⟨h1,h⟩
    simp[this]
  go_enter Try.func109,Try.ntmps109;cases hc:inB A.create 0 20
  ·clear hgood
   go_wp2_with (go_at_call 29;refine(B5 _ _ _ _).mono ?_;rintro e w' ⟨rfl,rfl⟩)
   go_ret;exact⟨AS HO.out.symm,hb0⟩
  ·have hn:¬A.ends.length<=200:=λh=>hgood ⟨hc,h⟩
   clear hgood
   go_wp2_with (go_at_call 29;refine(B5 _ _ _ _).mono ?_;rintro e w' ⟨rfl,rfl⟩)
   go_ret;exact⟨AS HO.out.symm,hb0⟩
 obtain⟨hcr,hle⟩:=hgood
 have HO:Hid (Dp A=(Jw A.ends&&(if A.scale then inB A.want 0 10&&inB A.cool 0 3 else A.want==0&&A.cool==0)&&(!A.drop||(A.create==0&& !A.scale&&A.ends.length==0)))):=by
  unfold Hid Dp;simp[hcr,hle]
 go_enter Try.func109,Try.ntmps109
 go_wp2_with (go_at_call 29;refine(B5 _ _ _ _).mono ?_;rintro e w' ⟨rfl,rfl⟩)
 clear hcr
 go_loopw [3] (λiv wr=>∃k:Nat,1<=k/\(k=1\/k<=A.ends.length)/\iv=.int .i64 k/\Below w.heap.size w wr/\Hid (Bl wr (w.heap.size) (acV A ae ce) 152)/\Hid (∀i x y,i+1<k->A.ends[i]?=some x->A.ends[i+1]?=some y->x.number<y.number)) (λi _=>A.ends.length - (intOf i).toNat)
 case atStart=>exact⟨1,by omega,.inl rfl,rfl,hb0,T0,λi x y h=>absurd h (by omega)⟩
 case round=>
  clear hb0 T0;obtain⟨k,hk1,hk2,rfl,hb,hbox,hall⟩:=hrel;have hNlt:w.heap.size<wr.heap.size:=(AB hbox.out).1;have e6:=AK hbox.out 6 rfl
  by_cases hlt:k<A.ends.length
  ·obtain⟨m,HM⟩:∃m,Hid (k=m+1):=⟨k - 1,by unfold Hid;omega⟩
   have hmlt:m<A.ends.length:=by have:=HM.out;omega
   have hne:A.ends≠[]:=by intro h;rw[h]at hlt;simp at hlt
   obtain⟨b,off,ea,hbs,hat⟩:=hE hne;subst ea;obtain⟨x,hx⟩:∃x,A.ends[m]?=some x:=⟨A.ends[m],by simp[hmlt]⟩;obtain⟨y,hy⟩:∃y,A.ends[k]?=some y:=⟨A.ends[k],by simp[hlt]⟩;have hxx:=hat m x hx;have hyy:=hat k y hy;have HX:Hid _:=hx;have HY:Hid (A.ends[m+1]?=some y):=by unfold Hid;rw[<-HM.out];exact hy
   clear hx hy hat hne;go_wp2;clear e6;refine AX 13 (by kernel_rfl) (by kernel_rfl) ?_;apply AN
   ·intro V W K A hW hd hA hK
    simp only[pA]at hA;clear hd;obtain rfl:=hA;go_wp2;exact hK.out _ brf
   apply AN
   ·intro V W K A hW hd hA hK
    have d0:V 0=_:=hd 0 (by kernel_rfl);simp only[pA,d0]at hA;clear hd d0;obtain rfl:=hA;have e6:=AK (AL hW hbox.out hNlt) 6 rfl;go_wp2;exact hK.out _ brf
   apply AN
   ·intro V W K A hW hd hA hK
    simp only[pA]at hA;clear hd;obtain rfl:=hA;go_wp2;exact hK.out _ brf
   refine Av (λv W=>v=.int .i64 (m:Int)) (λ_ _ _ h _=>h) ?_ ?_
   ·intro V W K A hW hd hA hK
    have d2:V 2=_:=hd 2 (by kernel_rfl);simp only[pA,d2]at hA;clear hd d2;obtain rfl:=hA;go_wp2;exact hK.out _ _ brf (by have hm:=HM.out;subst hm;go_num)
   apply AN
   ·intro V W K A hW hd hA hK
    have d1:V 1=_:=hd 1 (by kernel_rfl);have d3:(λv W=>v=.int .i64 (m:Int)) (V 3) W:=hd 3 (by kernel_rfl);simp only[pA,d1]at hA;clear hd d1;generalize V 3=x3 at d3 hA;obtain rfl:=hA;obtain rfl:=d3;go_wp2;exact hK.out _ brf
   apply AN
   ·intro V W K A hW hd hA hK
    have d4:V 4=_:=hd 4 (by kernel_rfl);simp only[pA,d4]at hA;clear hd d4;obtain rfl:=hA;go_wp2;exact hK.out _ brf
   apply AN
   ·intro V W K A hW hd hA hK
    have d5:V 5=_:=hd 5 (by kernel_rfl);simp only[pA,d5]at hA;clear hd d5;obtain rfl:=hA;have hq:=hxx.below (hb.trans (hW.mono hb.size)) hbs;unfold EnAt at hq;obtain⟨q0,q1⟩:=hq;go_wp2;exact hK.out _ brf
   apply AN
   ·intro V W K A hW hd hA hK
    simp only[pA]at hA;clear hd;obtain rfl:=hA;go_wp2;exact hK.out _ brf
   apply AN
   ·intro V W K A hW hd hA hK
    have d7:V 7=_:=hd 7 (by kernel_rfl);simp only[pA,d7]at hA;clear hd d7;obtain rfl:=hA;have e6:=AK (AL hW hbox.out hNlt) 6 rfl;go_wp2;exact hK.out _ brf
   apply AN
   ·intro V W K A hW hd hA hK
    simp only[pA]at hA;clear hd;obtain rfl:=hA;go_wp2;exact hK.out _ brf
   apply AN
   ·intro V W K A hW hd hA hK
    have d8:V 8=_:=hd 8 (by kernel_rfl);have d9:V 9=_:=hd 9 (by kernel_rfl);simp only[pA,d8,d9]at hA;clear hd d8 d9;obtain rfl:=hA;go_wp2;exact hK.out _ brf
   apply AN
   ·intro V W K A hW hd hA hK
    have d10:V 10=_:=hd 10 (by kernel_rfl);simp only[pA,d10]at hA;clear hd d10;obtain rfl:=hA;go_wp2;exact hK.out _ brf
   apply AN
   ·intro V W K A hW hd hA hK
    have d11:V 11=_:=hd 11 (by kernel_rfl);simp only[pA,d11]at hA;clear hd d11;obtain rfl:=hA;have hq:=hyy.below (hb.trans (hW.mono hb.size)) hbs;unfold EnAt at hq;obtain⟨q0,q1⟩:=hq;go_wp2;exact hK.out _ brf
   intro V W A hW hS hA;have d0:V 0=_:=hS 0 (by omega);have d1:V 1=_:=hS 1 (by omega);have d2:V 2=_:=hS 2 (by omega);have d3:(λv W=>v=.int .i64 (m:Int)) (V 3) W:=hS 3 (by omega);have d4:V 4=_:=hS 4 (by omega);have d5:V 5=_:=hS 5 (by omega);have d6:V 6=_:=hS 6 (by omega);have d7:V 7=_:=hS 7 (by omega);have d8:V 8=_:=hS 8 (by omega);have d9:V 9=_:=hS 9 (by omega);have d10:V 10=_:=hS 10 (by omega);have d11:V 11=_:=hS 11 (by omega);have d12:V 12=_:=hS 12 (by omega);simp only[pA,d0,d1,d2,d4,d5,d6,d7,d8,d9,d10,d11,d12]at hA;clear hS d0 d1 d2 d4 d5 d6 d7 d8 d9 d10 d11 d12;generalize V 3=x3 at d3 hA;obtain rfl:=hA;simp only[List.drop_succ_cons,List.drop_zero];have hbw:=hb.trans (hW.mono hb.size);have hbox2:Hid _:=AL hW hbox.out hNlt;obtain rfl:=d3
   by_cases hxy:x.number<y.number
   ·have hc:decide (y.number<=x.number)=false:=by simp;omega
    have HL:Hid (x.number<y.number):=hxy;clear hxy hxx hyy hW;go_wp2
    go_roundw
    case rel=>exact⟨k+1,by omega,.inr (by omega),by go_num,hbw,hbox2,λi x' y' hi hx' hy'=>by
     have hkm:=HM.out
     by_cases him:i=m
     ·subst him
      rw[HX.out]at hx';rw[HY.out]at hy';obtain rfl:=Option.some.inj hx';obtain rfl:=Option.some.inj hy';exact HL.out
     ·exact hall.out i x' y' (by omega) hx' hy'⟩
    case measure=>simp[intOf];omega
   ·have HF:Hid (Jw A.ends=false):=ascE_no HX.out HY.out hxy
    have hc:decide (y.number<=x.number)=true:=by simp;omega
    clear hxy hxx hyy hW;go_wp2;go_ret;exact⟨AS (by rw[HO.out,HF.out];rfl),hbw⟩
  ·have HF:Hid (Jw A.ends=true):=(Jv _).2 λi x y hx hy=>hall.out i x y (by have:=(AC hy).1;omega) hx hy
   have HO2:Hid (Dp A=((if A.scale then inB A.want 0 10&&inB A.cool 0 3 else A.want==0&&A.cool==0)&&(!A.drop||(A.create==0&& !A.scale&&A.ends.length==0)))):=by unfold Hid;rw[HO.out,HF.out];rfl
   have HLZ:Hid (((A.ends.length:Int)==0)=(A.ends.length==0)):=by
    unfold Hid;rw[Bool.eq_iff_iff,beq_iff_eq,beq_iff_eq];omega
   clear HO HF hall;have e2:=AK hbox.out 2 rfl;have e3:=AK hbox.out 3 rfl;have e4:=AK hbox.out 4 rfl;have e5:=AK hbox.out 5 rfl;have e7:=AK hbox.out 7 rfl
   go_wp2_with (go_at_call 29;refine(B5 _ _ _ _).mono ?_;rintro e w' ⟨rfl,rfl⟩)
   all_goals
    go_ret;refine⟨AS ?_,hb⟩;rw[HO2.out];clear HO2 e2 e3 e4 e5 e6 e7
    try simp only[bne_iff_ne,ne_eq,bne_eq_false_iff_eq]at *
    simp[*,HLZ.out]
end
end Go.Proofs.Ytbceafpodamnfaa
