import Derived.Test.YtbceafpodamnfaaGreatH29
import Derived.Test.YtbceafpodamnfaaGreatH34
set_option linter.all false
set_option maxHeartbeats 8000000
set_option maxRecDepth 100000
namespace Go.Proofs.YtbceafpodamnfaaGreat
section
open Go.RowKit Go.Sort
structure Fit(B:Bk):Prop where
 l1:B.svcs.length<=1000
 l2:B.cps.length<=1000
 l3:B.bts.length<=1000
 sized:B.sized
 uS:FK B
 uB:Hr B
 ascS:∀(i j:Nat) s t,i<j->B.svcs[i]?=some s->B.svcs[j]?=some t->Op.bytesLess s.name.toList t.name.toList=true
 ascB:∀(i j:Nat) s t,i<j->B.bts[i]?=some s->B.bts[j]?=some t->Op.bytesLess s.name.toList t.name.toList=true
theorem Fit.small{B:Bk}(h:Fit B):B.small:=⟨by have:=h.l1;omega,by have:=h.l2;omega,by have:=h.l3;omega⟩
structure BkVar(w:World)(N A:Nat)(B:Bk)(a1 a2 a3:Option Addr)(k1 k2 k3:Nat):Prop where
 lo:N<=A
 box:w.heap[A]?=some (.cells #[.int .i64 B.now,.slice a1 B.svcs.length k1,.slice a2 B.cps.length k2,.slice a3 B.bts.length k3] 27 (0,0))
 rows:BkOf w N B a1 a2 a3 k1 k2 k3
theorem BkVar.below{w w':World}{N A:Nat}{B:Bk}{a1 a2 a3:Option Addr}{k1 k2 k3:Nat}(h:BkVar w N A B a1 a2 a3 k1 k2 k3)(hb:Below w.heap.size w w'):BkVar w' N A B a1 a2 a3 k1 k2 k3:=
 ⟨h.lo,AK hb h.box (AB h.box).1,h.rows.below hb⟩
theorem Ah{w:World}{N A:Nat}{B:Bk}{a1 a2 a3:Option Addr}{k1 k2 k3:Nat}(h:BkVar w N A B a1 a2 a3 k1 k2 k3):Hid (BkVar w N A B a1 a2 a3 k1 k2 k3):=h
theorem Tryz.infosBtsI:(Tryz.prog.info? 25).map (·.size)=some 1:=by kernel_rfl
theorem Tryz.infosSvcsI:(Tryz.prog.info? 23).map (·.size)=some 1:=by kernel_rfl
theorem Tryz.infosCpsI:(Tryz.prog.info? 24).map (·.size)=some 1:=by kernel_rfl
theorem OP(B:Bk)(nm:ByteArray)(fl:Bool)(N A:Nat)(a1 a2 a3:Option Addr)(k1 k2 k3:Nat)(w:World)(hF:Fit B)(hnm:nm.size<=maxLen)(hN:N<=w.heap.size)(hV:BkVar w N A B a1 a2 a3 k1 k2 k3):
  Calls Tryz.prog 60 #[.agg #[.pointer (some ⟨A,0,none⟩),.string nm,.bool fl]] w λe w'=>e=.returned (.int .i64 (if AX (CC B nm fl)=true then 0 else 2))/\(∃b1 b2 b3 d1 d2 d3,BkVar w' N A (CC B nm fl) b1 b2 b3 d1 d2 d3)/\Below N w w':=by
 obtain⟨cd,HCD⟩:∃cd:Int,Hid ((if AX (CC B nm fl)=true then 0 else 2)=cd):=⟨_,rfl⟩;rw[HCD.out];have hAl:=(AB hV.box).1;obtain⟨W0,hW0⟩:∃W,w.alloc (.cells #[.pointer (some ⟨A,0,none⟩),.string nm,.bool fl] 101)=W:=⟨_,rfl⟩;have hb0:=AM w (.cells #[.pointer (some ⟨A,0,none⟩),.string nm,.bool fl] 101);have E0:Hid (W0.heap[w.heap.size]?=some (.cells #[.pointer (some ⟨A,0,none⟩),.string nm,.bool fl] 101 (0,0))):=by unfold Hid;rw[<-hW0];exact heap_alloc_new w (.cells #[.pointer (some ⟨A,0,none⟩),.string nm,.bool fl] 101)
 rw[hW0]at hb0;have hz0:=(AB E0.out).1;have V0:=Ah (hV.below hb0);have A0:Hid _:=V0.out.box;have HE3:Hid (a3≠some ⟨w.heap.size,0,none⟩):=V0.out.rows.bts.ne E0.out (by decide);have HA3:Hid (a3≠some ⟨A,0,none⟩):=V0.out.rows.bts.ne A0.out (by decide);have hA0:A<W0.heap.size:=by omega
 clear hV;go_enter Tryz.func60,Tryz.ntmps60
 go_upto_region 1 with fail
 clear hW0;refine Br 14 3 [[],[0],[1],[],[3],[4],[5],[6],[7],[],[9],[8,10],[2],[12]] [11] [11] [11] [11] [] (λW=>RowOnly a3 N W0 W) (λW=>RowN W N 51 2 a3 B.bts.length k3 (Ak B.bts)) (λ_ _ _=>True) (λW h=>RowOnly.of h (by omega)) (λW h=>V0.out.rows.bts.below h) (λW W2 h hb=>h.grow hb (by omega)) (λW W2 _ h hb=>h.below hb) (by kernel_rfl) (by kernel_rfl) (by kernel_rfl) ?_;apply AS (by kernel_rfl)
 ·intro V W K A hI hJ hd hA hK
  clear hJ;simp only[pA]at hA;clear hd;obtain rfl:=hA;go_wp2;exact hK.out _ brf
 apply AS (by kernel_rfl)
 ·intro V W K A hI hJ hd hA hK
  clear hJ;have d0:V 0=_:=hd 0 (by kernel_rfl);simp only[pA]at hA;clear hd;generalize V 0=x0 at d0 hA;subst d0;obtain rfl:=hA;go_wp2;exact hK.out _ brf
 apply AS (by kernel_rfl)
 ·intro V W K A hI hJ hd hA hK
  clear hJ;have d1:V 1=_:=hd 1 (by kernel_rfl);simp only[pA]at hA;clear hd;generalize V 1=x1 at d1 hA;subst d1;obtain rfl:=hA;have q0:=AJ ((hI.block w.heap.size hz0 HE3.out).trans E0.out) 0 rfl;go_wp2;exact hK.out _ brf
 apply AS (by kernel_rfl)
 ·intro V W K A hI hJ hd hA hK
  clear hJ;simp only[pA]at hA;clear hd;obtain rfl:=hA;go_wp2;exact hK.out _ brf
 apply AS (by kernel_rfl)
 ·intro V W K A hI hJ hd hA hK
  clear hJ;have d3:V 3=_:=hd 3 (by kernel_rfl);simp only[pA]at hA;clear hd;generalize V 3=x3 at d3 hA;subst d3;obtain rfl:=hA;go_wp2;exact hK.out _ brf
 apply AS (by kernel_rfl)
 ·intro V W K A hI hJ hd hA hK
  clear hJ;have d4:V 4=_:=hd 4 (by kernel_rfl);simp only[pA]at hA;clear hd;generalize V 4=x4 at d4 hA;subst d4;obtain rfl:=hA;have q0:=AJ ((hI.block w.heap.size hz0 HE3.out).trans E0.out) 0 rfl;go_wp2;exact hK.out _ brf
 apply AS (by kernel_rfl)
 ·intro V W K A hI hJ hd hA hK
  clear hJ;have d5:V 5=_:=hd 5 (by kernel_rfl);simp only[pA]at hA;clear hd;generalize V 5=x5 at d5 hA;subst d5;obtain rfl:=hA;go_wp2;exact hK.out _ brf
 apply AS (by kernel_rfl)
 ·intro V W K A hI hJ hd hA hK
  clear hJ;have d6:V 6=_:=hd 6 (by kernel_rfl);simp only[pA]at hA;clear hd;generalize V 6=x6 at d6 hA;subst d6;obtain rfl:=hA;go_wp2;exact hK.out _ brf
 apply AS (by kernel_rfl)
 ·intro V W K A hI hJ hd hA hK
  clear hJ;have d7:V 7=_:=hd 7 (by kernel_rfl);simp only[pA]at hA;clear hd;generalize V 7=x7 at d7 hA;subst d7;obtain rfl:=hA;have e3:=AJ ((hI.block A hA0 HA3.out).trans A0.out) 3 rfl;go_wp2;exact hK.out _ brf
 apply AS (by kernel_rfl)
 ·intro V W K A hI hJ hd hA hK
  clear hJ;simp only[pA]at hA;clear hd;obtain rfl:=hA;go_wp2;exact hK.out _ brf
 apply AS (by kernel_rfl)
 ·intro V W K A hI hJ hd hA hK
  clear hJ;have d9:V 9=_:=hd 9 (by kernel_rfl);simp only[pA]at hA;clear hd;generalize V 9=x9 at d9 hA;subst d9;obtain rfl:=hA;have q1:=AJ ((hI.block w.heap.size hz0 HE3.out).trans E0.out) 1 rfl;have q2:=AJ ((hI.block w.heap.size hz0 HE3.out).trans E0.out) 2 rfl;go_wp2;exact hK.out _ brf
 refine Ds (λ(_:Nat->Value) vv W=>∃bo n' kk,vv=.slice bo n' kk/\n'=(BT EP B.bts ⟨nm,fl⟩).length/\RowN W N 51 2 bo n' kk (Ak (BT EP B.bts ⟨nm,fl⟩))) (λ_ v W W2 ⟨bo,n2,kk,h1,h2,h3⟩ hb=>⟨bo,n2,kk,h1,h2,h3.below hb⟩) (λ_ _ _ _ _ h=>h) (by kernel_rfl) (by kernel_rfl) ?_ ?_
 ·intro V W K A hI hJ hd hA hK
  have hJ:=hJ (by kernel_rfl);have d8:V 8=_:=hd 8 (by kernel_rfl);have d10:V 10=_:=hd 10 (by kernel_rfl);simp only[pA]at hA;clear hd;generalize hV0:V 0=x0 at hA hK;generalize hV1:V 1=x1 at hA hK;generalize hV2:V 2=x2 at hA hK;generalize hV3:V 3=x3 at hA hK;generalize hV4:V 4=x4 at hA hK;generalize hV5:V 5=x5 at hA hK;generalize hV6:V 6=x6 at hA hK;generalize hV7:V 7=x7 at hA hK;generalize hV8:V 8=x8 at d8 hA hK;generalize hV9:V 9=x9 at hA hK;generalize hV10:V 10=x10 at d10 hA hK;generalize hV11:V 11=x11 at hA hK;generalize hV12:V 12=x12 at hA hK;generalize hV13:V 13=x13 at hA hK;subst d8;subst d10;obtain rfl:=hA;have HI:Hid (RowOnly a3 N W0 W):=hI;have HJ:=Ay hJ;have hsz:=hI.size;clear hI hJ hV0 hV1 hV2 hV3 hV4 hV5 hV6 hV7 hV8 hV9 hV10 hV11 hV12 hV13
  go_wp2_with fail
  refine(Ma B.bts ⟨nm,fl⟩ a3 B.bts.length k3 N W rfl (by have:=hF.l3;omega) hF.ascB (by omega) HJ.out).mono ?_;rintro e w2 ⟨bo,n2,kk,rfl,hn2,hr2,hkp,hbq⟩;have HR2:=Ay hr2;have HN2:Hid _:=hn2;have HKP:Hid _:=hkp;clear hr2 hn2 hkp;go_wp2;exact hK.out _ _ trivial ⟨λq hq hne=>(HKP.out q (by omega) hne).trans (HI.out.block q hq hne),AH hsz hbq.size,HI.out.below.trans hbq⟩ ⟨bo,n2,kk,rfl,HN2.out,HR2.out⟩
 apply AS (by kernel_rfl)
 ·intro V W K A hI hJ hd hA hK
  clear hJ;have d2:V 2=_:=hd 2 (by kernel_rfl);simp only[pA]at hA;clear hd;generalize V 2=x2 at d2 hA;subst d2;obtain rfl:=hA;go_wp2;exact hK.out _ brf
 apply AS (by kernel_rfl)
 ·intro V W K A hI hJ hd hA hK
  clear hJ;have d12:V 12=_:=hd 12 (by kernel_rfl);simp only[pA]at hA;clear hd;generalize V 12=x12 at d12 hA;subst d12;obtain rfl:=hA;go_wp2;exact hK.out _ brf
 refine⟨λi j hk V v W W' hr hq=>?_,?_⟩
 ·simp at hk
 intro V W A hI hS hA;have d0:V 0=_:=hS 0 (by omega) (.inr (by kernel_rfl));have d1:V 1=_:=hS 1 (by omega) (.inr (by kernel_rfl));have d2:V 2=_:=hS 2 (by omega) (.inr (by kernel_rfl));have d3:V 3=_:=hS 3 (by omega) (.inr (by kernel_rfl));have d4:V 4=_:=hS 4 (by omega) (.inr (by kernel_rfl));have d5:V 5=_:=hS 5 (by omega) (.inr (by kernel_rfl));have d6:V 6=_:=hS 6 (by omega) (.inr (by kernel_rfl));have d7:V 7=_:=hS 7 (by omega) (.inr (by kernel_rfl));have d8:V 8=_:=hS 8 (by omega) (.inr (by kernel_rfl));have d9:V 9=_:=hS 9 (by omega) (.inr (by kernel_rfl));have d10:V 10=_:=hS 10 (by omega) (.inr (by kernel_rfl));have d11:(λ(_:Nat->Value) vv W=>∃bo n' kk,vv=.slice bo n' kk/\n'=(BT EP B.bts ⟨nm,fl⟩).length/\RowN W N 51 2 bo n' kk (Ak (BT EP B.bts ⟨nm,fl⟩))) V (V 11) W:=hS 11 (by omega) (.inl (by kernel_rfl));have d12:V 12=_:=hS 12 (by omega) (.inr (by kernel_rfl));have d13:V 13=_:=hS 13 (by omega) (.inr (by kernel_rfl));simp only[pA]at hA;dsimp only at d11;clear hS;generalize V 0=x0 at d0 hA;generalize V 1=x1 at d1 hA;generalize V 2=x2 at d2 hA;generalize V 3=x3 at d3 hA;generalize V 4=x4 at d4 hA;generalize V 5=x5 at d5 hA;generalize V 6=x6 at d6 hA;generalize V 7=x7 at d7 hA;generalize V 8=x8 at d8 hA;generalize V 9=x9 at d9 hA;generalize V 10=x10 at d10 hA;generalize V 11=x11 at d11 hA;generalize V 12=x12 at d12 hA;generalize V 13=x13 at d13 hA;subst d0;subst d1;subst d2;subst d3;subst d4;subst d5;subst d6;subst d7;subst d8;subst d9;subst d10;subst d12;subst d13;obtain rfl:=hA
 simp only[List.drop_succ_cons,List.drop_zero];obtain⟨bo,n',kk,rfl,hn',hr⟩:=d11;have HN':Hid _:=hn';have HRB:=Ay hr;have HI:Hid (RowOnly a3 N W0 W):=hI;have AW:Hid (W.heap[A]?=some (.cells #[.int .i64 B.now,.slice a1 B.svcs.length k1,.slice a2 B.cps.length k2,.slice a3 B.bts.length k3] 27 (0,0))):=(hI.block A hA0 HA3.out).trans A0.out;have EW:Hid (W.heap[w.heap.size]?=some (.cells #[.pointer (some ⟨A,0,none⟩),.string nm,.bool fl] 101 (0,0))):=(hI.block w.heap.size hz0 HE3.out).trans E0.out;have hsW:=hI.size;clear hn' hr hI
 go_upto_region 2 with(refine Ai rfl 25 (.tmp 16) (.tmp 14) rfl A 3 (.slice bo n' kk) rfl rfl Tryz.infosBtsI rfl rfl 27 #[.int .i64 B.now,.slice a1 B.svcs.length k1,.slice a2 B.cps.length k2,.slice a3 B.bts.length k3] AW.out (AD rfl) ?_;intro w2 hz on;have A2:Hid (w2.heap[A]?=some (.cells #[.int .i64 B.now,.slice a1 B.svcs.length k1,.slice a2 B.cps.length k2,.slice bo n' kk] 27 (0,0))):=hz;have HON:Hid (BA A W w2):=on;clear hz on)
 have hAn:A≠w.heap.size:=by omega
 have E2:Hid (w2.heap[w.heap.size]?=some (.cells #[.pointer (some ⟨A,0,none⟩),.string nm,.bool fl] 101 (0,0))):=(HON.out.other _ (Ne.symm hAn)).trans EW.out
 have HV2:Hid (BkVar w2 N A (CC B nm fl) a1 a2 bo k1 k2 kk):=by
  have hB:=V0.out.rows;refine⟨V0.out.lo,?_,?_,?_,?_⟩
  ·have h:=A2.out;rw[HN'.out]at h;exact h
  ·exact(hB.svcs.rowOnly HI.out hB.bts (by decide)).only HON.out AW.out (by decide)
  ·exact(hB.cps.rowOnly HI.out hB.bts (by decide)).only HON.out AW.out (by decide)
  ·have h:=HRB.out.only HON.out AW.out (by decide);rw[HN'.out]at h;exact h
 have hb2:Below N w w2:=(hb0.mono' hN).trans (HI.out.below.trans (HON.out.below.mono' V0.out.lo));have q0:=AJ E2.out 0 rfl;clear A2 AW EW HI HRB HN' V0 A0 E0 HE3 HA3 HON
 go_wp2_with fail
 refine(Dd (CC B nm fl) A a1 a2 bo k1 k2 kk w2 ?hs ?hz HV2.out.box HV2.out.rows.at).mono ?_
 case hs=>exact⟨by have:=hF.l1;show B.svcs.length<=_;omega,by have:=hF.l2;show B.cps.length<=_;omega,by have:=hF.l3;have:=Dl EP B.bts ⟨nm,fl⟩;show(BT EP B.bts ⟨nm,fl⟩).length<=_;omega⟩
 case hz=>
  obtain⟨z1,z2,z3,z4,z5,z6⟩:=hF.sized;refine⟨z1,z2,?_,z4,z5,λt ht=>?_⟩
  ·have:=hF.l3;have:=Dl EP B.bts ⟨nm,fl⟩;show(BT EP B.bts ⟨nm,fl⟩).length<=_;unfold maxLen;omega
  ·rcases Fm ht with h|h
   ·rw[h];exact hnm
   ·exact z6 t h
 rintro e w3 ⟨rfl,hb3⟩;have HV3:=Ah (HV2.out.below hb3);have hb4:Below N w w3:=hb2.trans (hb3.mono' (by have:=hb2.size;omega));clear q0 E2 HV2 hb2 hb3;rw[HCD.out];go_wp2;go_ret;exact⟨rfl,⟨_,_,_,_,_,_,HV3.out⟩,hb4⟩
end
section
open Go.RowKit Go.Sort Go.Maps
def CS(l:List Int):List Value:=l.map (Value.int .i64)
theorem LV(l:List Int):(CS l).length=l.length*1:=by simp[CS]
theorem FR{l:List Int}{i:Nat}{x:Int}(h:l[i]?=some x):(CS l)[i]?=some (.int .i64 x):=by simp[CS,h]
theorem LU(l:List Int)(i:Nat)(x:Int)(h:i<l.length):splice (CS l) i [.int .i64 x]=CS (l.set i x):=by
 have:=C4 (c:=λy:Int=>[Value.int .i64 y]) (n:=1) (λ_=>rfl) l i x h
 simpa [CS,List.flatMap_singleton',List.map_eq_flatMap] using this
theorem Tryz.infosIntP:(Tryz.prog.info? 3).map (·.size)=some 1:=by kernel_rfl
theorem Tryz.infoIntP:(Tryz.prog.info? 3).map (λi=>(i.zero,i.size,i.bytes))=some (some (.int .i64 0),1,8):=by kernel_rfl
def Ar(B:Bk)(k:Nat):List Int:=B.bts.map λt=>CH B t.name k
theorem Hv(B:Bk):Ar B 0=List.replicate B.bts.length 0:=by
 unfold Ar CH;simp[List.map_const']
theorem MQ{B:Bk}{k i:Nat}{c:Cp}{t:Bt}(hU:Hr B)(hc:B.cps[k]?=some c)(ht:B.bts[i]?=some t)(hn:t.name=c.berth):Ar B (k+1)=(Ar B k).set i (CH B t.name k+1):=by
 refine List.ext_getElem? λj=>?_
 have hil:=(AC ht).1
 by_cases hj:j=i
 ·subst hj
  rw[List.getElem?_set_self (by unfold Ar;rw[List.length_map];exact hil)];unfold Ar;rw[List.getElem?_map,ht,Option.map_some,De hc,same_nm.2 hn.symm];rfl
 ·rw[List.getElem?_set_ne (by omega)]
  unfold Ar;rw[List.getElem?_map,List.getElem?_map]
  cases hs:B.bts[j]? with
  |none=>rfl
  |some s=>
   have hne:s.name≠t.name:=by
    rcases Nat.lt_or_gt_of_ne hj with h|h
    ·exact hU j i s t h hs ht
    ·exact λe=>hU i j t s h ht hs e.symm
   rw[Option.map_some,Option.map_some,De hc]
   have:(c.berth.toList==s.name.toList)=false:=by
    cases hq:(c.berth.toList==s.name.toList)
    ·rfl
    ·exact absurd ((same_nm.1 hq).symm.trans hn.symm) hne
   rw[this];rfl
theorem LM{B:Bk}{k:Nat}{c:Cp}(hc:B.cps[k]?=some c)(hno:∀t∈B.bts,t.name≠c.berth):Ar B (k+1)=Ar B k:=by
 unfold Ar;refine List.map_congr_left λt ht=>?_
 rw[De hc]
 have:(c.berth.toList==t.name.toList)=false:=by
  cases hq:(c.berth.toList==t.name.toList)
  ·rfl
  ·exact absurd (same_nm.1 hq).symm (hno t ht)
 rw[this];rfl
theorem KY(B:Bk)(a1 a2 a3:Option Addr)(k1 k2 k3:Nat)(w:World)(hF:Fit B)(hB:BkAt w a1 a2 a3 B):
  Calls Tryz.prog 89 #[.agg #[.int .i64 B.now,.slice a1 B.svcs.length k1,.slice a2 B.cps.length k2,.slice a3 B.bts.length k3]] w λe w'=>∃g,e=.returned (.slice (some ⟨g,0,none⟩) B.bts.length B.bts.length)/\w.heap.size<=g/\RowIs w' 3 1 g B.bts.length B.bts.length (CS (Ar B B.cps.length))/\Below w.heap.size w w':=by
 have hl2:=hF.l2;have hl3:=hF.l3;obtain⟨W0,hW0⟩:∃W,w.alloc (.cells #[.int .i64 B.now,.slice a1 B.svcs.length k1,.slice a2 B.cps.length k2,.slice a3 B.bts.length k3] 27)=W:=⟨_,rfl⟩;have hb0:=AM w (.cells #[.int .i64 B.now,.slice a1 B.svcs.length k1,.slice a2 B.cps.length k2,.slice a3 B.bts.length k3] 27);have T0:Hid (W0.heap[w.heap.size]?=some (.cells #[.int .i64 B.now,.slice a1 B.svcs.length k1,.slice a2 B.cps.length k2,.slice a3 B.bts.length k3] 27 (0,0))):=by unfold Hid;rw[<-hW0];exact heap_alloc_new w (.cells #[.int .i64 B.now,.slice a1 B.svcs.length k1,.slice a2 B.cps.length k2,.slice a3 B.bts.length k3] 27)
 rw[hW0]at hb0;have hz0:=(AB T0.out).1;have e3:=AJ T0.out 3 rfl;go_enter Tryz.func89,Tryz.ntmps89
 go_upto_region 1 with fail
 clear hW0
 go_upto_region 2 with(at_make;refine Ia rfl (.tmp 11) (.tmp 11) 44 rfl 3 _ 1 8 Tryz.underlying44 Tryz.infoIntP B.bts.length rfl rfl (by omega) (by unfold maxLen;omega) ?_;intro w1 hrow1 hsz1 hb1)
 obtain⟨gs,hgs⟩:∃q,W0.heap.size=q:=⟨_,rfl⟩
 have R1:Hid (RowIs w1 3 1 gs B.bts.length B.bts.length (CS (Ar B 0))):=by
  unfold Hid;rw[<-hgs];refine⟨by rw[LV,Hv];simp,AG _,_,hrow1.out,by simp[madeCells],?_⟩;rw[Hv];refine List.ext_getElem? λj=>?_
  simp only[madeCells,CS,List.map_replicate]
  by_cases hj:j<B.bts.length
  ·simp[hj,Value.cells,Nat.mod_one]
  ·simp[hj]
 rw[hgs];have hgs1:W0.heap.size<=gs:=by omega
 have hgs2:gs<=W0.heap.size:=by omega
 have T1:Hid (w1.heap[w.heap.size]?=some (.cells #[.int .i64 B.now,.slice a1 B.svcs.length k1,.slice a2 B.cps.length k2,.slice a3 B.bts.length k3] 27 (0,0))):=AK hb1 T0.out hz0;have hbw1:=hb0.trans (hb1.mono hb0.size);have hz1:=R1.out.lt;clear hrow1 hsz1 hgs e3 T0;have e0:=AJ T1.out 0 rfl;have e1:=AJ T1.out 1 rfl;have e2:=AJ T1.out 2 rfl;have e3:=AJ T1.out 3 rfl
 go_wp2_with fail
 refine(GC B a1 a2 a3 k1 k2 k3 w1 hF.small hF.sized hF.uS hF.uB (hB.below hbw1)).mono ?_;rintro e w2 ⟨rfl,hpl,hb2⟩;obtain⟨pb,hpb⟩:∃q,w1.heap.size+1=q:=⟨_,rfl⟩;rw[hpb]at hpl;rw[hpb];have hpb1:w1.heap.size<pb:=by omega
 have P2:Hid (PlacesX w2 pb B B.svcs.length B.bts.length):=hpl;have T2:Hid (w2.heap[w.heap.size]?=some (.cells #[.int .i64 B.now,.slice a1 B.svcs.length k1,.slice a2 B.cps.length k2,.slice a3 B.bts.length k3] 27 (0,0))):=AK hb2 T1.out (by omega);have R2:Hid (RowIs w2 3 1 gs B.bts.length B.bts.length (CS (Ar B 0))):=R1.out.below hb2 hz1;have hbw2:=hbw1.trans (hb2.mono hbw1.size);clear e0 e1 e2 e3 hb2 hpl hpb T1 R1 hb1;have e2:=AJ T2.out 2 rfl
 go_upto_region 4 with fail
 clear e2;go_wp2
 go_loopw [18] (λiv wr=>∃k:Nat,k<=B.cps.length/\iv=.int .i64 k/\Below w.heap.size w wr/\Hid (PlacesX wr pb B B.svcs.length B.bts.length)/\Hid (RowIs wr 3 1 gs B.bts.length B.bts.length (CS (Ar B k)))) (λi _=>B.cps.length - (intOf i).toNat)
 case atStart=>exact⟨0,by omega,rfl,hbw2,P2,R2⟩
 case round=>
  clear hbw2 P2 R2 T2;obtain⟨k,hk,rfl,hb,P3,R3⟩:=hrel;have hgl:=R3.out.lt;have hpl3:pb<wr.heap.size:=by obtain⟨n,D,_,⟨es,ck,he,_⟩,_⟩:=P3.out;exact(AB he).1
  by_cases hlt:k<B.cps.length
  ·obtain⟨c,hc⟩:∃c,B.cps[k]?=some c:=⟨B.cps[k],by simp[hlt]⟩
   have HC:Hid (B.cps[k]?=some c):=hc;have hcz:c.berth.size<=maxLen:=(hF.sized.2.2.2.2.1 c (AE hc)).2;have hne:B.cps≠[]:=by intro h;rw[h]at hlt;simp at hlt
   obtain⟨bC,oC,ea,hbC,hatC⟩:=(hB.below hb).2.1 hne;subst ea;have hcx:=hatC k c hc;unfold CpAt at hcx;obtain⟨y0,y1,y2,y3,y4,y5,y6⟩:=hcx;obtain⟨W4,hW4⟩:∃W,wr.alloc (.cells #[.string ⟨#[]⟩,.int .i64 0,.int .i64 0,.int .i64 0,.int .i64 0,.bool false,.string ⟨#[]⟩] 49)=W:=⟨_,rfl⟩;have hb4:=AM wr (.cells #[.string ⟨#[]⟩,.int .i64 0,.int .i64 0,.int .i64 0,.int .i64 0,.bool false,.string ⟨#[]⟩] 49);obtain⟨vb,hvb⟩:∃q,wr.heap.size=q:=⟨_,rfl⟩;have V4:Hid (W4.heap[vb]?=some (.cells #[.string ⟨#[]⟩,.int .i64 0,.int .i64 0,.int .i64 0,.int .i64 0,.bool false,.string ⟨#[]⟩] 49 (0,0))):=by unfold Hid;rw[<-hW4,<-hvb];exact heap_alloc_new wr (.cells #[.string ⟨#[]⟩,.int .i64 0,.int .i64 0,.int .i64 0,.int .i64 0,.bool false,.string ⟨#[]⟩] 49)
   rw[hW4]at hb4;have hvb1:wr.heap.size<=vb:=by omega
   have hvb2:vb<=wr.heap.size:=by omega
   clear hc hne hatC
   go_upto_region 6 with(refine AL rfl 49 (.tmp 6) (.tmp 21) rfl vb 0 #[.string c.service,.int .i64 c.number,.int .i64 c.version,.int .i64 c.image,.int .i64 c.state,.bool c.ending,.string c.berth] rfl rfl 49 #[.string ⟨#[]⟩,.int .i64 0,.int .i64 0,.int .i64 0,.int .i64 0,.bool false,.string ⟨#[]⟩] V4.out Tryz.infosCpX (AD rfl) (Gi c) ?_;intro w5 hz on;have V5:Hid (w5.heap[vb]?=some (.cells #[.string c.service,.int .i64 c.number,.int .i64 c.version,.int .i64 c.image,.int .i64 c.state,.bool c.ending,.string c.berth] 49 (0,0))):=hz;have hb5:=hb4.trans (on.below.mono' hvb1);clear hz on)
   clear hW4 hvb V4 hb4 y0 y1 y2 y3 y4 y5 y6;have P5:Hid (PlacesX w5 pb B B.svcs.length B.bts.length):=P3.out.blk (hb5.block pb hpl3);have R5:Hid (RowIs w5 3 1 gs B.bts.length B.bts.length (CS (Ar B k))):=R3.out.below hb5 hgl;have hbw5:=hb.trans (hb5.mono hb.size);have y6:=AJ V5.out 6 rfl;obtain⟨n,D,hn,hown,_,_,q3,q4⟩:=id P5.out;have H3:Hid _:=q3;have H4:Hid _:=q4;clear q3 q4 P3 R3
   cases hat:Bn (λt:Bt=>t.name.toList==c.berth.toList) B.bts with
   |none=>
    have HH:Hid (Maps.has D (key 2 c.berth)=false):=H3.out c.berth hcz λi s _ hs e=>Ec hat s (AE hs) (same_nm.2 e)
    have HAK:Hid (D.atKey (key 2 c.berth) (.lit (.int .i64 0))=.lit (.int .i64 0)):=atKey_of_not_has HH.out _;have HST:Hid (Ar B (k+1)=Ar B k):=LM HC.out λt ht e=>Ec hat t ht (same_nm.2 e)
    clear hat
    go_wp2_with (at_lookup;refine Ae _ rfl (.tmp 23) (.tmp 26) 75 rfl 79 3 .i64 thingLaw Tryz.underlying75 Tryz.underlying3 (Bz _) pb n D rfl hown _ _ rfl (B9 2 c.berth wf2 hcz) 0 false HAK.out HH.out ?_)
    go_roundw
    case rel=>exact⟨k+1,by omega,by go_num,hbw5,P5,by unfold Hid;rw[HST.out];exact R5.out⟩
    case measure=>simp[intOf];omega
   |some p=>
    obtain⟨i,t⟩:=p;obtain⟨_,hi,hp⟩:=CA hat;have hil:=(AC hi).1;have hnm:t.name=c.berth:=same_nm.1 hp;have h4':=H4.out i t hil hi;rw[hnm]at h4';have HH:Hid (Maps.has D (key 2 c.berth)=true):=h4'.1;have HAK:Hid (D.atKey (key 2 c.berth) (.lit (.int .i64 0))=.lit (.int .i64 (i:Int))):=h4'.2;obtain⟨x,hx⟩:∃x,CH B t.name k=x:=⟨_,rfl⟩;have HST:Hid (Ar B (k+1)=(Ar B k).set i (x+1)):=by unfold Hid;rw[MQ hF.uB HC.out hi hnm,hx]
    have hxi:=F9 B t.name k;rw[hx]at hxi;have hx0:=hxi.1;have hx1:=hxi.2;have HLI:Hid ((Ar B k)[i]?=some x):=by unfold Hid Ar;rw[List.getElem?_map,hi,Option.map_some,hx]
    have HLL:Hid ((Ar B k).length=B.bts.length):=by unfold Hid Ar;rw[List.length_map]
    have z0:w5.cell? ⟨gs,i,none⟩=some (.int .i64 x):=R5.out.cell (FR HLI.out);clear hat hi hp hnm h4' hx hxi
    go_wp2_with (first
     |(at_lookup;refine Ae _ rfl (.tmp 23) (.tmp 26) 75 rfl 79 3 .i64 thingLaw Tryz.underlying75 Tryz.underlying3 (Bz _) pb n D rfl hown _ _ rfl (B9 2 c.berth wf2 hcz) (i:Int) true HAK.out HH.out ?_)
     |(refine B7 rfl 3 (.tmp 36) (.tmp 35) rfl gs i (.int .i64 (x+1)) rfl rfl Tryz.infosIntP rfl rfl 3 1 B.bts.length B.bts.length _ R5.out (by omega) ?_;intro w6 hr on;have R6:Hid (RowIs w6 3 1 gs B.bts.length B.bts.length (CS ((Ar B k).set i (x+1)))):=(by have h:=hr.out;rw[LU _ i (x+1) (by rw[HLL.out];exact hil)]at h;exact h);have HON:Hid (BA gs w5 w6):=on;clear hr on))
    go_roundw
    case rel=>exact⟨k+1,by omega,by go_num,hbw5.trans (HON.out.below.mono' (by omega)),P5.out.blk (HON.out.other pb (by omega)),by unfold Hid;rw[HST.out];exact R6.out⟩
    case measure=>simp[intOf];omega
  ·have HKE:Hid (k=B.cps.length):=by unfold Hid;omega
   go_wp2;go_ret;exact⟨gs,rfl,by omega,by have h:=R3.out;rw[HKE.out]at h;exact h,hb⟩
end
section
open Go.RowKit Go.Sort
theorem Hc(x:Int)(w:World):
  Calls Tryz.prog 101 #[.int .i64 x] w λe w'=>e=.returned (.bool false)/\w'=w:=by
 go_enter Tryz.func101,Tryz.ntmps101;go_wp2;go_ret;exact⟨AR (by simp),rfl⟩
def K1(x y:Int):Int:=if x<y then -1 else if y<x then 1 else 0
theorem H9(x y:Int)(w:World):
  Calls Tryz.prog 93 #[.int .i64 x,.int .i64 y] w λe w'=>e=.returned (.int .i64 (K1 x y))/\w'=w:=by
 go_enter Tryz.func93,Tryz.ntmps93
 by_cases h1:x<y
 ·go_wp2_with (go_at_call 101;refine(Hc _ _).mono ?_;rintro e w' ⟨rfl,rfl⟩)
  go_ret;exact⟨Eh (by unfold K1;rw[if_pos h1]),rfl⟩
 ·by_cases h2:y<x
  ·go_wp2_with (go_at_call 101;refine(Hc _ _).mono ?_;rintro e w' ⟨rfl,rfl⟩)
   go_ret;exact⟨Eh (by unfold K1;rw[if_neg (by omega),if_pos h2]),rfl⟩
  ·go_wp2_with (go_at_call 101;refine(Hc _ _).mono ?_;rintro e w' ⟨rfl,rfl⟩)
   go_ret;exact⟨Eh (by unfold K1;rw[if_neg (by omega),if_neg (by omega)]),rfl⟩
def At(B:Bk):Nat->List Nat
 |0=>[]
 |k+1=>At B k++(match B.bts[k]? with|some t=>if t.drain=true then [] else [k]|none=>[])
theorem H6{B:Bk}{k:Nat}{t:Bt}(h:B.bts[k]?=some t):At B (k+1)=At B k++(if t.drain=true then [] else [k]):=by
 show At B k++_=_;rw[h]
theorem JK(B:Bk):∀k,(At B k).length<=k
 |0=>AG _
 |k+1=>by
  have:=JK B k;show(At B k++_).length<=_;rw[List.length_append];split
  ·split<;>simp<;>omega
  ·simp;omega
theorem JJ{B:Bk}:∀{k i:Nat},i∈At B k->i<k/\∃t,B.bts[i]?=some t/\t.drain=false
 |0,i,h=>by cases h
 |k+1,i,h=>by
  rcases List.mem_append.1 h with h|h
  ·obtain⟨h1,h2⟩:=JJ h
   exact⟨by omega,h2⟩
  ·split at h
   ·rename_i t ht
    split at h
    ·cases h
    ·rename_i hd
     simp only[List.mem_singleton]at h;subst h;exact⟨by omega,t,ht,by simpa using hd⟩
   ·cases h
def Fu(l:List Nat):List Int:=l.map Int.ofNat
theorem Ln(l:List Nat)(x:Nat):CS (Fu (l++[x]))=CS (Fu l)++[.int .i64 (x:Int)]:=by simp[CS,Fu]
theorem JL(B:Bk)(a1 a2 a3:Option Addr)(k1 k2 k3:Nat)(w:World)(hF:Fit B)(hB:BkAt w a1 a2 a3 B):
  Calls Tryz.prog 90 #[.agg #[.int .i64 B.now,.slice a1 B.svcs.length k1,.slice a2 B.cps.length k2,.slice a3 B.bts.length k3]] w λe w'=>∃ao n cap,e=.returned (.slice ao n cap)/\n=(At B B.bts.length).length/\RowN w' w.heap.size 3 1 ao n cap (CS (Fu (At B B.bts.length)))/\Below w.heap.size w w':=by
 have hl3:=hF.l3;obtain⟨W0,hW0⟩:∃W,w.alloc (.cells #[.int .i64 B.now,.slice a1 B.svcs.length k1,.slice a2 B.cps.length k2,.slice a3 B.bts.length k3] 27)=W:=⟨_,rfl⟩;have hb0:=AM w (.cells #[.int .i64 B.now,.slice a1 B.svcs.length k1,.slice a2 B.cps.length k2,.slice a3 B.bts.length k3] 27);have T0:Hid (W0.heap[w.heap.size]?=some (.cells #[.int .i64 B.now,.slice a1 B.svcs.length k1,.slice a2 B.cps.length k2,.slice a3 B.bts.length k3] 27 (0,0))):=by unfold Hid;rw[<-hW0];exact heap_alloc_new w (.cells #[.int .i64 B.now,.slice a1 B.svcs.length k1,.slice a2 B.cps.length k2,.slice a3 B.bts.length k3] 27)
 rw[hW0]at hb0;have e3:=AJ T0.out 3 rfl;go_enter Tryz.func90,Tryz.ntmps90
 go_upto_region 1 with fail
 clear hW0
 go_upto_region 3 with fail
 clear e3 T0;go_wp2
 go_loopw [3,9] (λov iv wr=>∃(k:Nat) (ao:Option Addr) (n cap:Nat),k<=B.bts.length/\iv=.int .i64 k/\ov=.slice ao n cap/\Hid (n=(At B k).length)/\n<=k/\Below w.heap.size w wr/\Hid (RowN wr w.heap.size 3 1 ao n cap (CS (Fu (At B k))))) (λ_ i _=>B.bts.length - (intOf i).toNat)
 case atStart=>exact⟨0,none,0,0,by omega,rfl,rfl,rfl,by omega,hb0,.inl ⟨rfl,rfl,rfl,rfl⟩⟩
 case round=>
  clear hb0;obtain⟨k,ao,n,cap,hk,rfl,rfl,HNN,hnk,hb,HR⟩:=hrel
  by_cases hlt:k<B.bts.length
  ·obtain⟨t,ht⟩:∃t,B.bts[k]?=some t:=⟨B.bts[k],by simp[hlt]⟩
   have HOS:Hid (At B (k+1)=At B k++(if t.drain=true then [] else [k])):=H6 ht;have hne:B.bts≠[]:=by intro h;rw[h]at hlt;simp at hlt
   obtain⟨bT,oT,ea,hbT,hatT⟩:=(hB.below hb).2.2 hne;subst ea;have htx:=hatT k t ht;unfold BtAt at htx;obtain⟨y0,y1⟩:=htx;obtain⟨W4,hW4⟩:∃W,wr.alloc (.cells #[.string ⟨#[]⟩,.bool false] 51)=W:=⟨_,rfl⟩;have hb4:=AM wr (.cells #[.string ⟨#[]⟩,.bool false] 51);obtain⟨vb,hvb⟩:∃q,wr.heap.size=q:=⟨_,rfl⟩;have V4:Hid (W4.heap[vb]?=some (.cells #[.string ⟨#[]⟩,.bool false] 51 (0,0))):=by unfold Hid;rw[<-hW4,<-hvb];exact heap_alloc_new wr (.cells #[.string ⟨#[]⟩,.bool false] 51)
   rw[hW4]at hb4;have hvb1:wr.heap.size<=vb:=by omega
   have hvb2:vb<=wr.heap.size:=by omega
   obtain⟨dr,HDR⟩:∃dr,Hid (t.drain=dr):=⟨_,rfl⟩;rw[show(.bool t.drain:Value)=.bool dr from congrArg _ HDR.out]at y1;clear ht hne hatT
   go_upto_region 5 with(refine AL rfl 51 (.tmp 5) (.tmp 13) rfl vb 0 #[.string t.name,.bool dr] rfl rfl 51 #[.string ⟨#[]⟩,.bool false] V4.out Tryz.infosBtI (AD rfl) (by simp[Value.oneCell']) ?_;intro w5 hz on;have V5:Hid (w5.heap[vb]?=some (.cells #[.string t.name,.bool dr] 51 (0,0))):=hz;have hb5:=hb4.trans (on.below.mono' hvb1);clear hz on)
   clear hW4 hvb V4 hb4 y0 y1;have R5:Hid (RowN w5 w.heap.size 3 1 ao n cap (CS (Fu (At B k)))):=HR.out.below hb5;have hbw5:=hb.trans (hb5.mono hb.size);have hs5:=hbw5.size;have y1:=AJ V5.out 1 rfl;cases dr
   ·have HO1:Hid (At B (k+1)=At B k++[k]):=by unfold Hid;rw[HOS.out,HDR.out];rfl
    rcases R5.out with⟨hao,hn0,hc0,hx0⟩|⟨g,hao,hNg,hr⟩
    ·subst hao hn0 hc0
     have HX0:Hid (At B k=[]):=by unfold Hid;exact List.length_eq_zero_iff.1 HNN.out.symm
     clear hx0 R5 HR
     go_wp2_with (at_builtin;refine BE rfl (.tmp 17) (.tmp 19) 44 rfl 3 _ 1 8 Tryz.underlying44 Tryz.infoIntP rfl (by omega) rfl (some ⟨w5.heap.size,0,none⟩) 1 1 [.int .i64 (k:Int)] rfl rfl (λ_=>⟨_,rfl,DU (heap_alloc_new w5 _)⟩) (by simp[Value.oneCell']) (by unfold maxLen;omega) (by omega) (λh=>absurd h (by omega)) (λ_=>?_);intro g2 cap2 w6 hg2 hr6 hb6)
     have hsz6:(w5.alloc (.cells #[.int .i64 (k:Int)] 3)).heap.size=w5.heap.size+1:=by show(w5.heap.push _).size=_;simp
     have hbw6:Below w.heap.size w w6:=(hbw5.alloc hbw5.size _).trans (hb6.mono' (by rw[hsz6];omega));rw[hsz6]at hg2;have HR6:Hid (RowIs w6 3 1 g2 1 cap2 [.int .i64 (k:Int)]):=hr6;clear hsz6 hr6 hb6
     go_roundw
     case rel=>exact⟨k+1,some ⟨g2,0,none⟩,1,cap2,by omega,by go_num,rfl,by unfold Hid;rw[HO1.out,HX0.out];rfl,by omega,hbw6,.inr ⟨g2,rfl,by omega,by rw[HO1.out,Ln,HX0.out];simpa [CS,Fu] using HR6.out⟩⟩
     case measure=>simp[intOf];omega
    ·subst hao
     have HR5:Hid (RowIs w5 3 1 g n cap (CS (Fu (At B k)))):=hr;have hgl:=hr.lt;clear hr R5 HR
     go_wp2_with (at_builtin;refine CG rfl (.tmp 17) (.tmp 19) 44 rfl 3 _ 1 8 Tryz.underlying44 Tryz.infoIntP rfl g n cap _ rfl (HR5.out.below (AM w5 _) hgl) ⟨w5.heap.size,0,none⟩ 1 1 [.int .i64 (k:Int)] rfl rfl (DU (heap_alloc_new w5 _)) (by simp[Value.oneCell']) (by unfold maxLen;omega) (by omega) ?_;intro g2 cap2 w6 hg2 hr6 hgr)
     have hsz6:(w5.alloc (.cells #[.int .i64 (k:Int)] 3)).heap.size=w5.heap.size+1:=by show(w5.heap.push _).size=_;simp
     have hbw6:Below w.heap.size w w6:=(hbw5.alloc hbw5.size _).trans (DD hgr hNg (by rw[hsz6];omega));rw[hsz6]at hg2;have HR6:Hid (RowIs w6 3 1 g2 (n+1) cap2 (CS (Fu (At B k))++[.int .i64 (k:Int)])):=hr6;clear hsz6 hr6 hgr
     go_roundw
     case rel=>exact⟨k+1,some ⟨g2,0,none⟩,n+1,cap2,by omega,by go_num,rfl,by unfold Hid;rw[HO1.out,List.length_append,HNN.out];rfl,by omega,hbw6,.inr ⟨g2,rfl,by rcases hg2 with h|h<;>omega,by rw[HO1.out,Ln];exact HR6.out⟩⟩
     case measure=>simp[intOf];omega
   ·have HO1:Hid (At B (k+1)=At B k):=by unfold Hid;rw[HOS.out,HDR.out];simp
    go_wp2
    go_roundw
    case rel=>exact⟨k+1,ao,n,cap,by omega,by go_num,rfl,by unfold Hid;rw[HO1.out];exact HNN.out,by omega,hbw5,by unfold Hid;rw[HO1.out];exact R5.out⟩
    case measure=>simp[intOf];omega
  ·have HKE:Hid (k=B.bts.length):=by unfold Hid;omega
   go_wp2;go_ret;exact⟨ao,n,cap,rfl,by rw[<-HKE.out];exact HNN.out,by rw[<-HKE.out];exact HR.out,hb⟩
theorem Mb(L:List Int)(a b sv gs n:Nat)(xa xb:Int)(w:World)(hS:w.heap[sv]?=some (.cells #[.slice (some ⟨gs,0,none⟩) n n] 44 (0,0)))(hR:RowIs w 3 1 gs n n (CS L))(ha:L[a]?=some xa)(hb:L[b]?=some xb):
  Calls Tryz.prog 92 #[.int .i64 a,.int .i64 b,.pointer (some ⟨sv,0,none⟩)] w λe w'=>e=.returned (.int .i64 (K1 xa xb))/\Below w.heap.size w w':=by
 have hll:L.length=n:=by have:=hR.1;rw[LV]at this;omega
 have han:a<n:=by rw[<-hll];exact(AC ha).1
 have hbn:b<n:=by rw[<-hll];exact(AC hb).1
 have s0:=Aa hS 0 rfl;have za:∀p:Regrown,(grow (redrawn w p.d) p.os).cell? ⟨gs,a,none⟩=some (.int .i64 xa):=λp=>cell_regrown (hR.cell (FR ha)) p.d p.os
 have zb:∀p:Regrown,(grow (redrawn w p.d) p.os).cell? ⟨gs,b,none⟩=some (.int .i64 xb):=λp=>cell_regrown (hR.cell (FR hb)) p.d p.os
 clear hS hR ha hb hll;go_enter Tryz.func92,Tryz.ntmps92
 go_upto_region 1 with fail
 refine wp_region_quiet_below (by kernel_rfl) (by kernel_rfl) ?_
 repeat (first|go_big_quiet_step (exact Calls.regrown_of ((H9 xa xb _).mono λe w' h=>⟨h.1,by rw[h.2];exact Below.refl _ _⟩))|quiet_step (exact Calls.regrown_of ((H9 xa xb _).mono λe w' h=>⟨h.1,by rw[h.2];exact Below.refl _ _⟩)))
 refine wpQuiet_nil ?_;intro w2 hw';obtain⟨⟨dq,osq⟩,hw''⟩:=hw';have hbq:Below w.heap.size w w2:=by rw[hw''];exact below_regrown _ _ _
 clear hw'' s0 za zb;go_wp2;go_ret;exact⟨rfl,hbq⟩
def D2(f:Nat->Int):List Nat->Nat
 |[]=>0
 |x::l=>l.foldl (λb y=>if f y<f b then y else b) x
theorem KQ{f:Nat->Int}{l:List Nat}(h:l≠[])(y:Nat):D2 f (l++[y])=if f y<f (D2 f l) then y else D2 f l:=by
 cases l with
 |nil=>exact absurd rfl h
 |cons x l=>
  show(l++[y]).foldl _ x=_;rw[List.foldl_append];rfl
theorem Og{f:Nat->Int}:∀{l:List Nat},l≠[]->D2 f l∈l
 |[],h=>absurd rfl h
 |x::l,_=>by
  have:∀(l:List Nat) (b:Nat),l.foldl (λb y=>if f y<f b then y else b) b=b\/l.foldl (λb y=>if f y<f b then y else b) b∈l:=by
   intro l
   induction l with
   |nil=>intro b;exact .inl rfl
   |cons y l ih=>
    intro b;rw[List.foldl_cons];rcases ih (if f y<f b then y else b) with h|h
    ·rw[h]
     split
     ·exact .inr (List.mem_cons_self ..)
     ·exact .inl rfl
    ·exact .inr (List.mem_cons_of_mem _ h)
  rcases this l x with h|h
  ·show l.foldl _ x∈_
   rw[h];exact List.mem_cons_self ..
  ·exact List.mem_cons_of_mem _ h
theorem Kt(L:List Int)(O:List Nat)(ao:Option Addr)(n cap N sv gs m:Nat)(w:World)(HN:Hid (O.length=n))(hl:n<=1000)(hO:RowN w N 3 1 ao n cap (CS (Fu O)))(hS:w.heap[sv]?=some (.cells #[.slice (some ⟨gs,0,none⟩) m m] 44 (0,0)))(hR:RowIs w 3 1 gs m m (CS L))(HIN:Hid (∀i∈O,i<L.length)):
  Calls Tryz.prog 91 #[.slice ao n cap,.func (.func 92) #[] #[.pointer (some ⟨sv,0,none⟩)]] w λe w'=>e=.returned (.tuple #[.int .i64 (D2 (λi=>L.getD i 0) O:Nat),.bool (decide (0<n))])/\Below w.heap.size w w':=by
 obtain⟨bb,HBB⟩:∃bb:Nat,Hid (D2 (λi=>L.getD i 0) O=bb):=⟨_,rfl⟩;obtain⟨dd,HDD⟩:∃dd:Bool,Hid (decide (0<n)=dd):=⟨_,rfl⟩;rw[HBB.out,HDD.out];have HON:=Ay hO;have HS:Hid _:=hS;have HR:Hid (RowIs w 3 1 gs m m (CS L)):=hR;have hgl:=hR.lt;have hsl:=(AB hS).1;clear hO hS hR;go_enter Tryz.func91,Tryz.ntmps91;go_wp2
 go_loopw [6,11] (λbv iv wr=>∃(k b:Nat),k<=n/\iv=.int .i64 k/\bv=.int .i64 b/\Below w.heap.size w wr/\Hid (b=D2 (λi=>L.getD i 0) (O.take k))) (λ_ i _=>n - (intOf i).toNat)
 case atStart=>exact⟨0,0,by omega,rfl,rfl,Below.refl _ _,rfl⟩
 case round=>
  obtain⟨k,b,hk,rfl,rfl,hb,HB⟩:=hrel
  by_cases hlt:k<n
  ·obtain⟨g,ea,_,hr⟩:=HON.out.some (by omega)
   subst ea;obtain⟨o,ho⟩:∃o,O[k]?=some o:=⟨O[k]'(by rw[HN.out];exact hlt),by rw[List.getElem?_eq_getElem]⟩;have z0:wr.cell? ⟨g,k,none⟩=some (.int .i64 (o:Int)):=(hr.below hb hr.lt).cell (FR (by simp[Fu,ho]));have HOK:Hid (O[k]?=some o):=ho;have HTS:Hid (O.take (k+1)=O.take k++[o]):=by unfold Hid;rw[List.take_add_one,ho];rfl
   clear hr ho
   by_cases hk0:k=0
   ·subst hk0
    have HB1:Hid (o=D2 (λi=>L.getD i 0) (O.take 1)):=by unfold Hid;have h:=HTS.out;simp only[Nat.zero_add,List.take_zero,List.nil_append]at h;rw[h];rfl
    go_wp2
    go_roundw
    case rel=>exact⟨1,o,by omega,by go_num,(by first|rfl|trivial),hb,HB1⟩
    case measure=>simp[intOf];omega
   ·have HTN:Hid (O.take k≠[]):=λh=>by have:=congrArg List.length h;rw[List.length_take,HN.out]at this;simp at this;omega
    have HBM:Hid (b∈O):=by unfold Hid;rw[HB.out];exact List.mem_of_mem_take (Og HTN.out)
    have HOM:Hid (o∈O):=AE HOK.out;obtain⟨xb,hxb⟩:∃x,L[b]?=some x:=⟨L[b]'(HIN.out b HBM.out),by rw[List.getElem?_eq_getElem]⟩;obtain⟨xo,hxo⟩:∃x,L[o]?=some x:=⟨L[o]'(HIN.out o HOM.out),by rw[List.getElem?_eq_getElem]⟩;have HXB:Hid (L[b]?=some xb):=hxb;have HXO:Hid (L[o]?=some xo):=hxo
    have HBS:Hid (D2 (λi=>L.getD i 0) (O.take (k+1))=if xo<xb then o else b):=by
     unfold Hid;rw[HTS.out,KQ HTN.out,<-HB.out];simp[hxb,hxo]
    have hkz:((k:Int)==0)=false:=by rw[beq_eq_false_iff_ne];omega
    clear hxb hxo
    go_wp2_with fail
    refine(Mb L o b sv gs m xo xb wr (AK hb HS.out hsl) (HR.out.below hb hgl) HXO.out HXB.out).mono ?_;rintro e w2 ⟨rfl,hbq⟩;have hb2:=hb.trans (hbq.mono hb.size);clear hbq z0
    by_cases hlx:xo<xb
    ·have hc:K1 xo xb<0:=by unfold K1;rw[if_pos hlx];omega
     have HB2:Hid (o=D2 (λi=>L.getD i 0) (O.take (k+1))):=by unfold Hid;rw[HBS.out,if_pos hlx]
     clear hlx;go_wp2
     go_roundw
     case rel=>exact⟨k+1,o,by omega,by go_num,(by first|rfl|trivial),hb2,HB2⟩
     case measure=>simp[intOf];omega
    ·have hc:¬(K1 xo xb<0):=by unfold K1;rw[if_neg hlx];split<;>omega
     have HB2:Hid (b=D2 (λi=>L.getD i 0) (O.take (k+1))):=by unfold Hid;rw[HBS.out,if_neg hlx]
     clear hlx;go_wp2
     go_roundw
     case rel=>exact⟨k+1,b,by omega,by go_num,(by first|rfl|trivial),hb2,HB2⟩
     case measure=>simp[intOf];omega
  ·have HE:Hid (bb=b):=by unfold Hid;rw[<-HBB.out,HB.out,List.take_of_length_le (by rw[HN.out];omega)]
   by_cases hn:0<n
   ·have HD2:Hid (dd=true):=by unfold Hid;rw[<-HDD.out];simp[hn]
    go_wp2;exact bodyPost_ret (v:=.tuple #[.int .i64 b,.bool true]) (by simp[results,Tryz.results91,go_sem,hn]) rfl ⟨by rw[HE.out,HD2.out],hb⟩
   ·have HD2:Hid (dd=false):=by unfold Hid;rw[<-HDD.out];simp[hn]
    go_wp2;exact bodyPost_ret (v:=.tuple #[.int .i64 b,.bool false]) (by simp[results,Tryz.results91,go_sem,hn]) rfl ⟨by rw[HE.out,HD2.out],hb⟩
end
end Go.Proofs.YtbceafpodamnfaaGreat
