import Derived.Test.YtbceafpodamnfaaH16
set_option linter.all false
set_option maxHeartbeats 16000000
set_option maxRecDepth 100000
namespace Go.Proofs.Ytbceafpodamnfaa
attribute [local simp] svV cpV zbV czV aaV ctZ ad bkV ctV acV
attribute [local go_sem] svV cpV zbV czV aaV ctZ ad bkV ctV acV
open Go.RowKit Go.Sort
theorem Gn{P:Program}{fn:Func}{R R':Ending->World->Prop}(h:∀e w,R e w->R' e w):∀e a w,bodyPost P fn R e a w->bodyPost P fn R' e a w:=by
 intro e a w hb;cases e
 all_goals first
  |exact(let ⟨h0,v,h1,h2⟩:=hb;⟨h0,v,h1,h _ _ h2⟩)
  |exact⟨hb.1,h _ _ hb.2⟩
  |exact h _ _ hb
  |exact hb
theorem OK{K K':Act->World->Prop}{Q Q':Exit->Act->World->Prop}(hk:∀a w,K a w->K' a w)(hq:∀e a w,Q e a w->Q' e a w):∀e a w,Exit.then K Q e a w->Exit.then K' Q' e a w:=by
 intro e a w h;cases e
 all_goals first
  |exact hk _ _ h
  |exact hq _ _ _ h
theorem MW(B:Bk)(A:Ac)(n:Nat)(HNC:Hid (A.create=(n:Int)))(HAW:Hid (A.scale=true->0<=A.want/\A.want<=10))(hl8:B.svcs.length<=8)(s:Svc)(MM:Option (List Cp))(a1 a2 a3:Option Addr)(c1 c2 c3:Nat)(ae:Option Addr)(ce:Nat)(w:World)(hS:B.small)(hB:BkAt w a1 a2 a3 B)(hl:A.ends.length<=1048576)(hE:SlE w ae A.ends)
  (hok:Dp A=true) (hsv:Bz B A.service=some s) (hin:A.ends.all (Dt B A)=true) (hse:s.version=A.seen) (hes:A.ends.all (DD B A)=true) (hsi:Dr s) (hcr0:0<=A.create) (hcr1:A.create<=20) (hn0:0<=B.now) (hn1:B.now<=1000000) (hm:E8 B s A.service (B.now+1) A.ends B.cps=MM):
  Calls Try.prog 99 #[.agg (bkV B a1 c1 a2 c2 a3 c3),.agg (acV A ae ce)] w λe w'=>((MM=none/\e=.returned (.tuple #[.agg (bkV B a1 c1 a2 c2 a3 c3),.int .i64 5]))\/∃L,MM=some L/\OA B A s L (.agg (bkV B a1 c1 a2 c2 a3 c3)) w.heap.size e w')/\Below w.heap.size w w':=by
 obtain⟨t0,t1,t2,t3⟩:=CR w (.cells (bkV B a1 c1 a2 c2 a3 c3) 27) (.cells (acV A ae ce) 152) (.cells zbV 27);have T0:Hid _:=t0;have T1:Hid _:=t1;have T2:Hid _:=t2;have HS3:Hid _:=t3;have HMN:Hid _:=hm;have HIN:Hid _:=hin;have HES:Hid _:=hes;have hss:=hS;obtain⟨hl1,hl2,hl3⟩:=hss;clear t0 t1 t2 t3 hm hin hes;have hbb:Below w.heap.size w (((w.alloc (.cells (bkV B a1 c1 a2 c2 a3 c3) 27)).alloc (.cells (acV A ae ce) 152)).alloc (.cells zbV 27)):=(((Below.refl _ _).alloc (AG _) _).alloc (by simp) _).alloc (by simp;omega) _;obtain⟨k,hks,hkk⟩:∃k:Nat,B.svcs[k]?=some s/\Gd B.svcs A.service=(k:Int):=Bo hsv;have hklt:k<B.svcs.length:=(AC hks).1;obtain⟨bS,offS,eS,hbsS,hatS⟩:=hB.1 (by intro h;rw[h]at hklt;simp at hklt);subst eS;have hsx:=hatS k s hks;have HKS:Hid (B.svcs[k]?=some s):=hks;have HKK:Hid (Gd B.svcs A.service=(k:Int)):=hkk;have HSV:Hid _:=hsv;clear hks hatS hsv;go_enter Try.func99,Try.ntmps99
 go_wp2_with fail
 refine(IZ A ae ce _ hl (hE.below hbb)).mono ?_;rintro e w1 ⟨rfl,hb1⟩;rw[HS3.out]at hb1;have hbw1:=hbb.trans (hb1.mono (by omega));have U0:Hid _:=AL hb1 T0.out (by omega);have U1:Hid _:=AL hb1 T1.out (by omega);have U2:Hid _:=AL hb1 T2.out (by omega);have hz1:w.heap.size+1+1+1<=w1.heap.size:=by have:=hb1.size;rw[HS3.out]at this;omega
 clear T0 T1 T2 HS3 hb1 hbb;rw[hok];obtain⟨e0,e1,e2,e3⟩:=c4 U0.out;have f0:=AK U1.out 0 rfl;clear hok
 go_wp2_with fail
 refine(B9 B A.service _ a2 a3 c1 c2 c3 _ hS (hB.below hbw1).1).mono ?_;rintro e w2 ⟨rfl,hb2⟩;have hbw2:=hbw1.trans (hb2.mono hbw1.size);have V0:Hid _:=AL hb2 U0.out (by omega);have V1:Hid _:=AL hb2 U1.out (by omega);have V2:Hid _:=AL hb2 U2.out (by omega);clear e0 e1 e2 e3 f0 U0 U1 U2 hb2 hbw1;rw[hkk];clear hkk;go_wp2
 go_loopw [7] (λiv wr=>∃j:Nat,j<=A.ends.length/\iv=.int .i64 j/\Below w.heap.size w wr/\Hid (Bl wr (w.heap.size) (bkV B (some ⟨bS,offS,none⟩) c1 a2 c2 a3 c3) 27)/\Hid (Bl wr (w.heap.size+1) (acV A ae ce) 152)/\Hid (Bl wr (w.heap.size+1+1) zbV 27)) (λi _=>A.ends.length - (intOf i).toNat)
 case atStart=>exact⟨0,by omega,rfl,hbw2,V0,V1,V2⟩
 case round=>
  clear V0 V1 V2 hbw2 hz1;obtain⟨j,hj,rfl,hb,H0,H1,H2⟩:=hrel;have hz0:w.heap.size<wr.heap.size:=(AB H0.out).1;have hz1:w.heap.size+1<wr.heap.size:=(AB H1.out).1;have hz2:w.heap.size+1+1<wr.heap.size:=(AB H2.out).1
  by_cases hlt:j<A.ends.length
  ·obtain⟨x,hx⟩:∃x,A.ends[j]?=some x:=⟨A.ends[j],by simp[hlt]⟩
   have hne:A.ends≠[]:=by intro h;rw[h]at hlt;simp at hlt
   obtain⟨b,off,ea,hbs,hat⟩:=hE hne;subst ea;have hxx:=hat j x hx;have hin:Dt B A x=true:=(List.all_eq_true.1 HIN.out) x (AE hx);unfold Dt at hin;obtain⟨c,hf⟩:=Option.isSome_iff_exists.1 hin;obtain⟨i,hic,hii⟩:=Bo hf;have HC:Hid (∀W:World,SlC W a2 B.cps->Calls Try.prog 53 #[.agg (bkV B (some ⟨bS,offS,none⟩) c1 a2 c2 a3 c3),.string A.service,.int .i64 x.number] W λe w'=>e=.returned (.int .i64 (i:Int))/\Below W.heap.size W w'):=λW h=>by rw[<-hii];exact C0 B A.service x.number _ a2 a3 c1 c2 c3 W hS h
   clear hx hat hne hin hf hic hii;have e6:=AK H1.out 6 rfl;go_wp2;clear e6;refine AX 10 (by kernel_rfl) (by kernel_rfl) ?_;apply AN
   ·intro V W K AA hW hd hA hK
    simp only[pA]at hA;clear hd;obtain rfl:=hA;obtain⟨e0,e1,e2,e3⟩:=c4 (AL hW H0.out hz0);go_wp2;exact hK.out _ brf
   apply AN
   ·intro V W K AA hW hd hA hK
    simp only[pA]at hA;clear hd;obtain rfl:=hA;go_wp2;exact hK.out _ brf
   apply AN
   ·intro V W K AA hW hd hA hK
    have d1:V 1=_:=hd 1 (by kernel_rfl);simp only[pA,d1]at hA;clear hd d1;obtain rfl:=hA;have e0:=AK (AL hW H1.out hz1) 0 rfl;go_wp2;exact hK.out _ brf
   apply AN
   ·intro V W K AA hW hd hA hK
    simp only[pA]at hA;clear hd;obtain rfl:=hA;go_wp2;exact hK.out _ brf
   apply AN
   ·intro V W K AA hW hd hA hK
    have d3:V 3=_:=hd 3 (by kernel_rfl);simp only[pA,d3]at hA;clear hd d3;obtain rfl:=hA;have e6:=AK (AL hW H1.out hz1) 6 rfl;go_wp2;exact hK.out _ brf
   apply AN
   ·intro V W K AA hW hd hA hK
    simp only[pA]at hA;clear hd;obtain rfl:=hA;go_wp2;exact hK.out _ brf
   apply AN
   ·intro V W K AA hW hd hA hK
    have d4:V 4=_:=hd 4 (by kernel_rfl);have d5:V 5=_:=hd 5 (by kernel_rfl);simp only[pA,d4,d5]at hA;clear hd d4 d5;obtain rfl:=hA;go_wp2;exact hK.out _ brf
   apply AN
   ·intro V W K AA hW hd hA hK
    have d6:V 6=_:=hd 6 (by kernel_rfl);simp only[pA,d6]at hA;clear hd d6;obtain rfl:=hA;go_wp2;exact hK.out _ brf
   apply AN
   ·intro V W K AA hW hd hA hK
    have d7:V 7=_:=hd 7 (by kernel_rfl);simp only[pA,d7]at hA;clear hd d7;obtain rfl:=hA;have hq:=hxx.below (hb.trans (hW.mono hb.size)) hbs;unfold EnAt at hq;obtain⟨q0,q1⟩:=hq;go_wp2;exact hK.out _ brf
   apply AN
   ·intro V W K AA hW hd hA hK
    have d0:V 0=_:=hd 0 (by kernel_rfl);have d2:V 2=_:=hd 2 (by kernel_rfl);have d8:V 8=_:=hd 8 (by kernel_rfl);simp only[pA,d0,d2,d8]at hA;clear hd d0 d2 d8;obtain rfl:=hA
    go_wp2_with fail
    refine(HC.out _ (hB.below (hb.trans (hW.mono hb.size))).2.1).mono ?_;rintro e w3 ⟨rfl,hb3⟩;go_wp2;exact hK.out _ hb3
   intro V W AA hW hS hA;have d0:V 0=_:=hS 0 (by omega);have d1:V 1=_:=hS 1 (by omega);have d2:V 2=_:=hS 2 (by omega);have d3:V 3=_:=hS 3 (by omega);have d4:V 4=_:=hS 4 (by omega);have d5:V 5=_:=hS 5 (by omega);have d6:V 6=_:=hS 6 (by omega);have d7:V 7=_:=hS 7 (by omega);have d8:V 8=_:=hS 8 (by omega);have d9:V 9=_:=hS 9 (by omega);simp only[pA,d0,d1,d2,d3,d4,d5,d6,d7,d8,d9]at hA;clear hS d0 d1 d2 d3 d4 d5 d6 d7 d8 d9;obtain rfl:=hA;simp only[List.drop_succ_cons,List.drop_zero];have hbw:=hb.trans (hW.mono hb.size);have H0':Hid _:=AL hW H0.out hz0;have H1':Hid _:=AL hW H1.out hz1;have H2':Hid _:=AL hW H2.out hz2;clear hW HC;go_wp2
   go_roundw
   case rel=>exact⟨j+1,by omega,by go_num,hbw,H0',H1',H2'⟩
   case measure=>simp[intOf];omega
  ·have e6:=AK H1.out 6 rfl
   go_wp2;clear e6;refine AX 8 (by kernel_rfl) (by kernel_rfl) ?_;apply AN
   ·intro V W K AA hW hd hA hK
    simp only[pA]at hA;clear hd;obtain rfl:=hA;go_wp2;exact hK.out _ brf
   apply AN
   ·intro V W K AA hW hd hA hK
    have d0:V 0=_:=hd 0 (by kernel_rfl);simp only[pA,d0]at hA;clear hd d0;obtain rfl:=hA;have e1:=AK (AL hW H0.out hz0) 1 rfl;go_wp2;exact hK.out _ brf
   apply AN
   ·intro V W K AA hW hd hA hK
    simp only[pA]at hA;clear hd;obtain rfl:=hA;go_wp2;exact hK.out _ brf
   apply AN
   ·intro V W K AA hW hd hA hK
    have d1:V 1=_:=hd 1 (by kernel_rfl);have d2:V 2=_:=hd 2 (by kernel_rfl);simp only[pA,d1,d2]at hA;clear hd d1 d2;obtain rfl:=hA;go_wp2;exact hK.out _ brf
   apply AN
   ·intro V W K AA hW hd hA hK
    have d3:V 3=_:=hd 3 (by kernel_rfl);simp only[pA,d3]at hA;clear hd d3;obtain rfl:=hA;go_wp2;exact hK.out _ brf
   apply AN
   ·intro V W K AA hW hd hA hK
    have d4:V 4=_:=hd 4 (by kernel_rfl);simp only[pA,d4]at hA;clear hd d4;obtain rfl:=hA;have hq:=hsx.below (hb.trans (hW.mono hb.size)) hbsS;unfold SvcAt at hq;obtain⟨q0,q1,q2,q3,q4,q5,q6,q7,q8,q9,q10,q11,q12⟩:=hq;go_wp2;exact hK.out _ brf
   apply AN
   ·intro V W K AA hW hd hA hK
    simp only[pA]at hA;clear hd;obtain rfl:=hA;go_wp2;exact hK.out _ brf
   apply AN
   ·intro V W K AA hW hd hA hK
    have d6:V 6=_:=hd 6 (by kernel_rfl);simp only[pA,d6]at hA;clear hd d6;obtain rfl:=hA;have e1:=AK (AL hW H1.out hz1) 1 rfl;go_wp2;exact hK.out _ brf
   intro V W AA hW hS hA;have d0:V 0=_:=hS 0 (by omega);have d1:V 1=_:=hS 1 (by omega);have d2:V 2=_:=hS 2 (by omega);have d3:V 3=_:=hS 3 (by omega);have d4:V 4=_:=hS 4 (by omega);have d5:V 5=_:=hS 5 (by omega);have d6:V 6=_:=hS 6 (by omega);have d7:V 7=_:=hS 7 (by omega);simp only[pA,d0,d1,d2,d3,d4,d5,d6,d7]at hA;clear hS d0 d1 d2 d3 d4 d5 d6 d7;obtain rfl:=hA;simp only[List.drop_succ_cons,List.drop_zero];have hbw:=hb.trans (hW.mono hb.size);have H0':Hid _:=AL hW H0.out hz0;have H1':Hid _:=AL hW H1.out hz1;have H2':Hid _:=AL hW H2.out hz2;have hse2:(s.version !=A.seen)=false:=by simpa using hse
   clear hW H0 H1 H2 hb hz0 hz1 hz2 hse;go_wp2;clear hse2
   go_loopw [8] (λiv wr=>∃j:Nat,j<=A.ends.length/\iv=.int .i64 j/\Below w.heap.size w wr/\Hid (Bl wr (w.heap.size) (bkV B (some ⟨bS,offS,none⟩) c1 a2 c2 a3 c3) 27)/\Hid (Bl wr (w.heap.size+1) (acV A ae ce) 152)/\Hid (Bl wr (w.heap.size+1+1) zbV 27)) (λi _=>A.ends.length - (intOf i).toNat)
   case atStart=>exact⟨0,by omega,rfl,hbw,H0',H1',H2'⟩
   case round=>
    clear H0' H1' H2' hbw hlt hj;obtain⟨j,hj,rfl,hb,H0,H1,H2⟩:=hrel;have hz0:w.heap.size<wr.heap.size:=(AB H0.out).1;have hz1:w.heap.size+1<wr.heap.size:=(AB H1.out).1;have hz2:w.heap.size+1+1<wr.heap.size:=(AB H2.out).1
    by_cases hlt:j<A.ends.length
    ·obtain⟨x,hx⟩:∃x,A.ends[j]?=some x:=⟨A.ends[j],by simp[hlt]⟩
     have hne:A.ends≠[]:=by intro h;rw[h]at hlt;simp at hlt
     obtain⟨b,off,ea,hbs,hat⟩:=hE hne;subst ea;have hxx:=hat j x hx;have hin:Dt B A x=true:=(List.all_eq_true.1 HIN.out) x (AE hx);have hsn:DD B A x=true:=(List.all_eq_true.1 HES.out) x (AE hx);unfold Dt at hin;obtain⟨c,hf⟩:=Option.isSome_iff_exists.1 hin;obtain⟨i,hic,hii⟩:=Bo hf;unfold DD at hsn;rw[hf]at hsn;have hilt:i<B.cps.length:=(AC hic).1;have HC:Hid (∀W:World,SlC W a2 B.cps->Calls Try.prog 53 #[.agg (bkV B (some ⟨bS,offS,none⟩) c1 a2 c2 a3 c3),.string A.service,.int .i64 x.number] W λe w'=>e=.returned (.int .i64 (i:Int))/\Below W.heap.size W w'):=λW h=>by rw[<-hii];exact C0 B A.service x.number _ a2 a3 c1 c2 c3 W hS h
     obtain⟨bC,offC,eC,hbsC,hatC⟩:=hB.2.1 (by intro h;rw[h]at hilt;simp at hilt);subst eC;have hcx:=hatC i c hic;have HSN:Hid (c.version=x.seen):=beq_iff_eq.1 hsn;clear hx hat hne hatC hin hf hic hii hsx hsn;have e6:=AK H1.out 6 rfl;go_wp2;clear e6;refine AX 21 (by kernel_rfl) (by kernel_rfl) ?_;apply AN
     ·intro V W K AA hW hd hA hK
      simp only[pA]at hA;clear hd;obtain rfl:=hA;go_wp2;exact hK.out _ brf
     apply AN
     ·intro V W K AA hW hd hA hK
      have d0:V 0=_:=hd 0 (by kernel_rfl);simp only[pA,d0]at hA;clear hd d0;obtain rfl:=hA;have e2:=AK (AL hW H0.out hz0) 2 rfl;go_wp2;exact hK.out _ brf
     apply AN
     ·intro V W K AA hW hd hA hK
      simp only[pA]at hA;clear hd;obtain rfl:=hA;obtain⟨e0,e1,e2,e3⟩:=c4 (AL hW H0.out hz0);go_wp2;exact hK.out _ brf
     apply AN
     ·intro V W K AA hW hd hA hK
      simp only[pA]at hA;clear hd;obtain rfl:=hA;go_wp2;exact hK.out _ brf
     apply AN
     ·intro V W K AA hW hd hA hK
      have d3:V 3=_:=hd 3 (by kernel_rfl);simp only[pA,d3]at hA;clear hd d3;obtain rfl:=hA;have e0:=AK (AL hW H1.out hz1) 0 rfl;go_wp2;exact hK.out _ brf
     apply AN
     ·intro V W K AA hW hd hA hK
      simp only[pA]at hA;clear hd;obtain rfl:=hA;go_wp2;exact hK.out _ brf
     apply AN
     ·intro V W K AA hW hd hA hK
      have d5:V 5=_:=hd 5 (by kernel_rfl);simp only[pA,d5]at hA;clear hd d5;obtain rfl:=hA;have e6:=AK (AL hW H1.out hz1) 6 rfl;go_wp2;exact hK.out _ brf
     apply AN
     ·intro V W K AA hW hd hA hK
      simp only[pA]at hA;clear hd;obtain rfl:=hA;go_wp2;exact hK.out _ brf
     apply AN
     ·intro V W K AA hW hd hA hK
      have d6:V 6=_:=hd 6 (by kernel_rfl);have d7:V 7=_:=hd 7 (by kernel_rfl);simp only[pA,d6,d7]at hA;clear hd d6 d7;obtain rfl:=hA;go_wp2;exact hK.out _ brf
     apply AN
     ·intro V W K AA hW hd hA hK
      have d8:V 8=_:=hd 8 (by kernel_rfl);simp only[pA,d8]at hA;clear hd d8;obtain rfl:=hA;go_wp2;exact hK.out _ brf
     apply AN
     ·intro V W K AA hW hd hA hK
      have d9:V 9=_:=hd 9 (by kernel_rfl);simp only[pA,d9]at hA;clear hd d9;obtain rfl:=hA;have hq:=hxx.below (hb.trans (hW.mono hb.size)) hbs;unfold EnAt at hq;obtain⟨q0,q1⟩:=hq;go_wp2;exact hK.out _ brf
     apply AN
     ·intro V W K AA hW hd hA hK
      have d2:V 2=_:=hd 2 (by kernel_rfl);have d4:V 4=_:=hd 4 (by kernel_rfl);have d10:V 10=_:=hd 10 (by kernel_rfl);simp only[pA,d2,d4,d10]at hA;clear hd d2 d4 d10;obtain rfl:=hA
      go_wp2_with fail
      refine(HC.out _ (hB.below (hb.trans (hW.mono hb.size))).2.1).mono ?_;rintro e w3 ⟨rfl,hb3⟩;go_wp2;exact hK.out _ hb3
     apply AN
     ·intro V W K AA hW hd hA hK
      have d1:V 1=_:=hd 1 (by kernel_rfl);have d11:V 11=_:=hd 11 (by kernel_rfl);simp only[pA,d1,d11]at hA;clear hd d1 d11;obtain rfl:=hA;go_wp2;exact hK.out _ brf
     apply AN
     ·intro V W K AA hW hd hA hK
      have d12:V 12=_:=hd 12 (by kernel_rfl);simp only[pA,d12]at hA;clear hd d12;obtain rfl:=hA;go_wp2;exact hK.out _ brf
     apply AN
     ·intro V W K AA hW hd hA hK
      have d13:V 13=_:=hd 13 (by kernel_rfl);simp only[pA,d13]at hA;clear hd d13;obtain rfl:=hA;have hq:=hcx.below (hb.trans (hW.mono hb.size)) hbsC;unfold CpAt at hq;obtain⟨q0,q1,q2,q3,q4,q5,q6⟩:=hq;go_wp2;exact hK.out _ brf
     apply AN
     ·intro V W K AA hW hd hA hK
      simp only[pA]at hA;clear hd;obtain rfl:=hA;go_wp2;exact hK.out _ brf
     apply AN
     ·intro V W K AA hW hd hA hK
      have d15:V 15=_:=hd 15 (by kernel_rfl);simp only[pA,d15]at hA;clear hd d15;obtain rfl:=hA;have e6:=AK (AL hW H1.out hz1) 6 rfl;go_wp2;exact hK.out _ brf
     apply AN
     ·intro V W K AA hW hd hA hK
      simp only[pA]at hA;clear hd;obtain rfl:=hA;go_wp2;exact hK.out _ brf
     apply AN
     ·intro V W K AA hW hd hA hK
      have d16:V 16=_:=hd 16 (by kernel_rfl);have d17:V 17=_:=hd 17 (by kernel_rfl);simp only[pA,d16,d17]at hA;clear hd d16 d17;obtain rfl:=hA;go_wp2;exact hK.out _ brf
     apply AN
     ·intro V W K AA hW hd hA hK
      have d18:V 18=_:=hd 18 (by kernel_rfl);simp only[pA,d18]at hA;clear hd d18;obtain rfl:=hA;go_wp2;exact hK.out _ brf
     apply AN
     ·intro V W K AA hW hd hA hK
      have d19:V 19=_:=hd 19 (by kernel_rfl);simp only[pA,d19]at hA;clear hd d19;obtain rfl:=hA;have hq:=hxx.below (hb.trans (hW.mono hb.size)) hbs;unfold EnAt at hq;obtain⟨q0,q1⟩:=hq;go_wp2;exact hK.out _ brf
     intro V W AA hW hS hA;have d0:V 0=_:=hS 0 (by omega);have d1:V 1=_:=hS 1 (by omega);have d2:V 2=_:=hS 2 (by omega);have d3:V 3=_:=hS 3 (by omega);have d4:V 4=_:=hS 4 (by omega);have d5:V 5=_:=hS 5 (by omega);have d6:V 6=_:=hS 6 (by omega);have d7:V 7=_:=hS 7 (by omega);have d8:V 8=_:=hS 8 (by omega);have d9:V 9=_:=hS 9 (by omega);have d10:V 10=_:=hS 10 (by omega);have d11:V 11=_:=hS 11 (by omega);have d12:V 12=_:=hS 12 (by omega);have d13:V 13=_:=hS 13 (by omega);have d14:V 14=_:=hS 14 (by omega);have d15:V 15=_:=hS 15 (by omega);have d16:V 16=_:=hS 16 (by omega);have d17:V 17=_:=hS 17 (by omega);have d18:V 18=_:=hS 18 (by omega);have d19:V 19=_:=hS 19 (by omega);have d20:V 20=_:=hS 20 (by omega);simp only[pA,d0,d1,d2,d3,d4,d5,d6,d7,d8,d9,d10,d11,d12,d13,d14,d15,d16,d17,d18,d19,d20]at hA;clear hS d0 d1 d2 d3 d4 d5 d6 d7 d8 d9 d10 d11 d12 d13 d14 d15 d16 d17 d18 d19 d20;obtain rfl:=hA;simp only[List.drop_succ_cons,List.drop_zero];have hbw:=hb.trans (hW.mono hb.size);have H0':Hid _:=AL hW H0.out hz0;have H1':Hid _:=AL hW H1.out hz1;have H2':Hid _:=AL hW H2.out hz2;clear hW HC hcx hxx;have hse2:(c.version !=x.seen)=false:=by simpa using HSN.out
     go_wp2
     go_roundw
     case rel=>exact⟨j+1,by omega,by go_num,hbw,H0',H1',H2'⟩
     case measure=>simp[intOf];omega
    ·clear hsx
     have e6:=AK H1.out 6 rfl;obtain⟨e0,e1,e2,e3⟩:=c4 H0.out
     go_wp2_with fail
     refine(CP B _ a2 a3 c1 c2 c3 _ hS (hB.below hb)).mono ?_;rintro e w4 ⟨g1,k1,g2,k2,g3,k3,rfl,hown,hb4⟩;have HOWN:Hid (BkRow w4 wr.heap.size g1 g2 g3 k1 k2 k3 B):=hown;have hbw4:=hb.trans (hb4.mono hb.size);have X0:Hid _:=AL hb4 H0.out hz0;have X1:Hid _:=AL hb4 H1.out hz1;have X2:Hid _:=AL hb4 H2.out hz2;have hz4:=hb4.size;clear e0 e1 e2 e3 e6 hown hb4 H0 H1 H2 hb hlt hj;have U9:Hid ((w4.alloc (.cells zbV 27)).heap[w4.heap.size]?=some (.cells zbV 27 (0,0))):=heap_alloc_new w4 _;have hwr:wrap64 (B.now+1)=B.now+1:=IntWalk.wrap64_in _ (by omega);have hg1:=HOWN.out.svcs.lt;have hg2:=HOWN.out.cps.lt;have hg3:=HOWN.out.bts.lt;have hgl1:w.heap.size+1+1<g1:=AF hz2 HOWN.out.n1;have hgl2:w.heap.size+1+1<g2:=AF hz2 HOWN.out.n2;have hgl3:w.heap.size+1+1<g3:=AF hz2 HOWN.out.n3;have HN12:Hid (g1≠g2):=HOWN.out.ne12;have HN23:Hid (g3≠g2):=HOWN.out.ne23.symm
     go_wp2_with (refine AM rfl 27 (.tmp 9) (.tmp 89) rfl w4.heap.size 0 (bkV B (ad g1) k1 (ad g2) k2 (ad g3) k3) rfl rfl 27 zbV U9.out As (AD rfl) (by simp[Value.oneCell']) ?_;intro w5 hz on;have Y9:Hid (Bl w5 (w4.heap.size) (bkV B (ad g1) k1 (ad g2) k2 (ad g3) k3) 27):=hz;have Y0:Hid _:=(on.other w.heap.size (by omega)).trans (AL (AO w4 _) X0.out (by omega));have Y1:Hid _:=(on.other (w.heap.size+1) (by omega)).trans (AL (AO w4 _) X1.out (by omega));have Y2:Hid _:=(on.other (w.heap.size+1+1) (by omega)).trans (AL (AO w4 _) X2.out (by omega));have Z1:Hid (RowIs w5 63 13 g1 B.svcs.length k1 (AU B.svcs)):=(HOWN.out.svcs.below (AO w4 _) hg1).blk (on.other _ (by omega));have Z2:Hid (RowIs w5 35 7 g2 B.cps.length k2 (Ag B.cps)):=(HOWN.out.cps.below (AO w4 _) hg2).blk (on.other _ (by omega));have Z3:Hid (RowIs w5 74 2 g3 B.bts.length k3 (Af B.bts)):=(HOWN.out.bts.below (AO w4 _) hg3).blk (on.other _ (by omega));have hbw5:Below w.heap.size w w5:=(hbw4.trans ((AO w4 _).mono (by omega))).trans (on.below.mono (by omega));clear hz on U9 HOWN X0 X1 X2 hbw4;have z0:=AK Y0.out 0 rfl)
     go_loopw [11] (λiv wr=>∃(j:Nat) (l:List Cp),j<=A.ends.length/\iv=.int .i64 j/\Below w.heap.size w wr/\Hid (Bl wr (w.heap.size) (bkV B (some ⟨bS,offS,none⟩) c1 a2 c2 a3 c3) 27)/\Hid (Bl wr (w.heap.size+1) (acV A ae ce) 152)/\Hid (Bl wr (w.heap.size+1+1) zbV 27)/\Hid (Bl wr (w4.heap.size) (bkV B (ad g1) k1 (ad g2) k2 (ad g3) k3) 27)/\Hid (RowIs wr 63 13 g1 B.svcs.length k1 (AU B.svcs))/\Hid (RowIs wr 35 7 g2 B.cps.length k2 (Ag l))/\Hid (RowIs wr 74 2 g3 B.bts.length k3 (Af B.bts))/\Hid (l.map KV=B.cps.map KV)/\Hid (E8 B s A.service (B.now+1) (A.ends.drop j) l=MM)) (λi _=>A.ends.length - (intOf i).toNat)
     case atStart=>exact⟨0,B.cps,by omega,rfl,hbw5,Y0,Y1,Y2,Y9,Z1,Z2,Z3,rfl,HMN⟩
     case round=>
      clear Y0 Y1 Y2 Y9 Z1 Z2 Z3 hbw5 z0 HMN hz0 hz1 hz2 hz4;obtain⟨j,l,hj,rfl,hb,H0,H1,H2,HX9,R1,R2,R3,HKEY,HMK⟩:=hrel;have hz0:w.heap.size<wr.heap.size:=(AB H0.out).1;have hz1:w.heap.size+1<wr.heap.size:=(AB H1.out).1;have hz2:w.heap.size+1+1<wr.heap.size:=(AB H2.out).1;have hz9:w4.heap.size<wr.heap.size:=(AB HX9.out).1;have HLEN:Hid (l.length=B.cps.length):=by unfold Hid;have:=congrArg List.length HKEY.out;simpa using this
      by_cases hlt:j<A.ends.length
      ·obtain⟨x,hx⟩:∃x,A.ends[j]?=some x:=⟨A.ends[j],by simp[hlt]⟩
       have hne:A.ends≠[]:=by intro h;rw[h]at hlt;simp at hlt
       obtain⟨b,off,ea,hbs,hat⟩:=hE hne;subst ea;have hxx:=hat j x hx;have hin:Dt B A x=true:=(List.all_eq_true.1 HIN.out) x (AE hx);unfold Dt at hin;rw[<-Ot HKEY.out]at hin;obtain⟨c,hf⟩:=Option.isSome_iff_exists.1 hin;obtain⟨i,hic,hii⟩:∃i:Nat,l[i]?=some c/\Jl l A.service x.number=(i:Int):=Bo hf;have hilt:i<B.cps.length:=by have:=(AC hic).1;rw[HLEN.out]at this;exact this
       obtain⟨m,HMM⟩:∃m,Hid (Gc {B with cps:=l} s A.service c=m):=⟨_,rfl⟩;have hSX:({B with cps:=l}:Bk).small:=⟨hl1,by show l.length<=_;rw[HLEN.out];exact hl2,hl3⟩;have eL:({B with cps:=l}:Bk).cps.length=B.cps.length:=HLEN.out
       have HM:Hid (∀W:World,BkAt W (ad g1) (ad g2) (ad g3) {B with cps:=l}->Calls Try.prog 27 #[.agg (bkV B (ad g1) k1 (ad g2) k2 (ad g3) k3),.string A.service,.int .i64 x.number] W λe w'=>e=.returned (.bool m)/\Below W.heap.size W w'):=λW h=>by
        have h2:=FK {B with cps:=l} A.service x.number c s _ _ _ k1 k2 k3 W hSX h hf HSV.out hsi.want0 hsi.want1 hsi.down0 hsi.down1;rw[bkV,eL,HMM.out]at h2;exact h2
       have HI:Hid (∀W:World,SlC W (ad g2) l->Calls Try.prog 53 #[.agg (bkV B (ad g1) k1 (ad g2) k2 (ad g3) k3),.string A.service,.int .i64 x.number] W λe w'=>e=.returned (.int .i64 (i:Int))/\Below W.heap.size W w'):=λW h=>by
        have h2:=C0 {B with cps:=l} A.service x.number (ad g1) (ad g2) (ad g3) k1 k2 k3 W hSX h;rw[bkV,eL]at h2;rw[<-hii];exact h2
       have hBX:BkAt wr (ad g1) (ad g2) (ad g3) {B with cps:=l}:=⟨R1.out.slS,R2.out.slC,R3.out.slB⟩
       have HNX:Hid (m=true->E8 B s A.service (B.now+1) (A.ends.drop (j+1)) (l.set i (IX (B.now+1) c))=MM):=by
        intro hmt;have:=HMK.out;rw[List.drop_eq_getElem_cons hlt,show A.ends[j]=x from(AC hx).2]at this;unfold E8 at this;rw[hf]at this;simp only[HMM.out,hmt,if_true]at this;rw[Oi hii hic]at this;exact this
       have HMF:Hid (m=false->MM=none):=by
        intro hmf;have:=HMK.out;rw[List.drop_eq_getElem_cons hlt,show A.ends[j]=x from(AC hx).2]at this;unfold E8 at this;rw[hf]at this;simp only[HMM.out,hmf]at this;exact this.symm
       have HIC:Hid _:=hic;clear hx hat hne hin hf hic hii HMK HMM hSX eL;have e6:=AK H1.out 6 rfl;go_wp2;clear e6;refine AX 10 (by kernel_rfl) (by kernel_rfl) ?_;apply AN
       ·intro V W K AA hW hd hA hK
        simp only[pA]at hA;clear hd;obtain rfl:=hA;obtain⟨e0,e1,e2,e3⟩:=c4 (AL hW HX9.out hz9);go_wp2;exact hK.out _ brf
       apply AN
       ·intro V W K AA hW hd hA hK
        simp only[pA]at hA;clear hd;obtain rfl:=hA;go_wp2;exact hK.out _ brf
       apply AN
       ·intro V W K AA hW hd hA hK
        have d1:V 1=_:=hd 1 (by kernel_rfl);simp only[pA,d1]at hA;clear hd d1;obtain rfl:=hA;have e0:=AK (AL hW H1.out hz1) 0 rfl;go_wp2;exact hK.out _ brf
       apply AN
       ·intro V W K AA hW hd hA hK
        simp only[pA]at hA;clear hd;obtain rfl:=hA;go_wp2;exact hK.out _ brf
       apply AN
       ·intro V W K AA hW hd hA hK
        have d3:V 3=_:=hd 3 (by kernel_rfl);simp only[pA,d3]at hA;clear hd d3;obtain rfl:=hA;have e6:=AK (AL hW H1.out hz1) 6 rfl;go_wp2;exact hK.out _ brf
       apply AN
       ·intro V W K AA hW hd hA hK
        simp only[pA]at hA;clear hd;obtain rfl:=hA;go_wp2;exact hK.out _ brf
       apply AN
       ·intro V W K AA hW hd hA hK
        have d4:V 4=_:=hd 4 (by kernel_rfl);have d5:V 5=_:=hd 5 (by kernel_rfl);simp only[pA,d4,d5]at hA;clear hd d4 d5;obtain rfl:=hA;go_wp2;exact hK.out _ brf
       apply AN
       ·intro V W K AA hW hd hA hK
        have d6:V 6=_:=hd 6 (by kernel_rfl);simp only[pA,d6]at hA;clear hd d6;obtain rfl:=hA;go_wp2;exact hK.out _ brf
       apply AN
       ·intro V W K AA hW hd hA hK
        have d7:V 7=_:=hd 7 (by kernel_rfl);simp only[pA,d7]at hA;clear hd d7;obtain rfl:=hA;have hq:=hxx.below (hb.trans (hW.mono hb.size)) hbs;unfold EnAt at hq;obtain⟨q0,q1⟩:=hq;go_wp2;exact hK.out _ brf
       apply AN
       ·intro V W K AA hW hd hA hK
        have d0:V 0=_:=hd 0 (by kernel_rfl);have d2:V 2=_:=hd 2 (by kernel_rfl);have d8:V 8=_:=hd 8 (by kernel_rfl);simp only[pA,d0,d2,d8]at hA;clear hd d0 d2 d8;obtain rfl:=hA
        go_wp2_with fail
        refine(HM.out _ (hBX.below hW)).mono ?_;rintro e w3 ⟨rfl,hb3⟩;go_wp2;exact hK.out _ hb3
       intro V W AA hW hS hA;have d0:V 0=_:=hS 0 (by omega);have d1:V 1=_:=hS 1 (by omega);have d2:V 2=_:=hS 2 (by omega);have d3:V 3=_:=hS 3 (by omega);have d4:V 4=_:=hS 4 (by omega);have d5:V 5=_:=hS 5 (by omega);have d6:V 6=_:=hS 6 (by omega);have d7:V 7=_:=hS 7 (by omega);have d8:V 8=_:=hS 8 (by omega);have d9:V 9=_:=hS 9 (by omega);simp only[pA,d0,d1,d2,d3,d4,d5,d6,d7,d8,d9]at hA;clear hS d0 d1 d2 d3 d4 d5 d6 d7 d8 d9;obtain rfl:=hA;simp only[List.drop_succ_cons,List.drop_zero];have hbw:=hb.trans (hW.mono hb.size);have H0':Hid _:=AL hW H0.out hz0;have H1':Hid _:=AL hW H1.out hz1;have H2':Hid _:=AL hW H2.out hz2;cases m
       ·clear hW HM HI hBX HNX
        obtain⟨e0,e1,e2,e3⟩:=c4 H0'.out
        go_wp2_with (refine AM rfl 27 (.tmp 4) (.tmp 111) rfl (w.heap.size+1+1) 0 (bkV B (some ⟨bS,offS,none⟩) c1 a2 c2 a3 c3) rfl rfl 27 zbV H2'.out As (AD rfl) (by simp[Value.oneCell']) ?_;intro wf hz on;have RF:Hid (Bl wf (w.heap.size+1+1) (bkV B (some ⟨bS,offS,none⟩) c1 a2 c2 a3 c3) 27):=hz;have hbf:=hbw.trans (on.below.mono (by omega));clear hz on e0 e1 e2 e3;have p0:=AK RF.out 0 rfl;have p1:=AK RF.out 1 rfl;have p2:=AK RF.out 2 rfl;have p3:=AK RF.out 3 rfl)
        refine bodyPost_ret (v:=.tuple #[.agg (bkV B (some ⟨bS,offS,none⟩) c1 a2 c2 a3 c3),.int .i64 5]) (by simp[results,Try.results99,go_sem,p0,p1,p2,p3]) rfl ⟨.inl ⟨HMF.out (by first|rfl|trivial),rfl⟩,hbf⟩
       ·have Q1:Hid (RowIs W 63 13 g1 B.svcs.length k1 (AU B.svcs)):=R1.out.below hW R1.out.lt
        have Q2:Hid (RowIs W 35 7 g2 B.cps.length k2 (Ag l)):=R2.out.below hW R2.out.lt;have Q3:Hid (RowIs W 74 2 g3 B.bts.length k3 (Af B.bts)):=R3.out.below hW R3.out.lt;have X9':Hid _:=AL hW HX9.out hz9;have hBX':=hBX.below hW;have HNN:Hid _:=HNX.out rfl;clear hW HM hBX HNX H0 H1 H2 HX9 R1 R2 R3 hb hz0 hz1 hz2 hz9;obtain⟨wm,HWM⟩:∃x,x=W:=⟨_,rfl⟩;subst HWM;have hb:=hbw;have H0:=H0';have H1:=H1';have H2:=H2';have HX9:=X9';have hBX:=hBX';clear hbw H0' H1' H2' X9' hBX';have hz0:w.heap.size<wm.heap.size:=(AB H0.out).1;have hz1:w.heap.size+1<wm.heap.size:=(AB H1.out).1;have hz2:w.heap.size+1+1<wm.heap.size:=(AB H2.out).1;have hz9:w4.heap.size<wm.heap.size:=(AB HX9.out).1;go_wp2;refine AX 10 (by kernel_rfl) (by kernel_rfl) ?_;apply AN
        ·intro V W K AA hW hd hA hK
         simp only[pA]at hA;clear hd;obtain rfl:=hA;obtain⟨e0,e1,e2,e3⟩:=c4 (AL hW HX9.out hz9);go_wp2;exact hK.out _ brf
        apply AN
        ·intro V W K AA hW hd hA hK
         simp only[pA]at hA;clear hd;obtain rfl:=hA;go_wp2;exact hK.out _ brf
        apply AN
        ·intro V W K AA hW hd hA hK
         have d1:V 1=_:=hd 1 (by kernel_rfl);simp only[pA,d1]at hA;clear hd d1;obtain rfl:=hA;have e0:=AK (AL hW H1.out hz1) 0 rfl;go_wp2;exact hK.out _ brf
        apply AN
        ·intro V W K AA hW hd hA hK
         simp only[pA]at hA;clear hd;obtain rfl:=hA;go_wp2;exact hK.out _ brf
        apply AN
        ·intro V W K AA hW hd hA hK
         have d3:V 3=_:=hd 3 (by kernel_rfl);simp only[pA,d3]at hA;clear hd d3;obtain rfl:=hA;have e6:=AK (AL hW H1.out hz1) 6 rfl;go_wp2;exact hK.out _ brf
        apply AN
        ·intro V W K AA hW hd hA hK
         simp only[pA]at hA;clear hd;obtain rfl:=hA;go_wp2;exact hK.out _ brf
        apply AN
        ·intro V W K AA hW hd hA hK
         have d4:V 4=_:=hd 4 (by kernel_rfl);have d5:V 5=_:=hd 5 (by kernel_rfl);simp only[pA,d4,d5]at hA;clear hd d4 d5;obtain rfl:=hA;go_wp2;exact hK.out _ brf
        apply AN
        ·intro V W K AA hW hd hA hK
         have d6:V 6=_:=hd 6 (by kernel_rfl);simp only[pA,d6]at hA;clear hd d6;obtain rfl:=hA;go_wp2;exact hK.out _ brf
        apply AN
        ·intro V W K AA hW hd hA hK
         have d7:V 7=_:=hd 7 (by kernel_rfl);simp only[pA,d7]at hA;clear hd d7;obtain rfl:=hA;have hq:=hxx.below (hb.trans (hW.mono hb.size)) hbs;unfold EnAt at hq;obtain⟨q0,q1⟩:=hq;go_wp2;exact hK.out _ brf
        apply AN
        ·intro V W K AA hW hd hA hK
         have d0:V 0=_:=hd 0 (by kernel_rfl);have d2:V 2=_:=hd 2 (by kernel_rfl);have d8:V 8=_:=hd 8 (by kernel_rfl);simp only[pA,d0,d2,d8]at hA;clear hd d0 d2 d8;obtain rfl:=hA
         go_wp2_with fail
         refine(HI.out _ (hBX.below hW).2.1).mono ?_;rintro e w3 ⟨rfl,hb3⟩;go_wp2;exact hK.out _ hb3
        intro V W AA hW hS hA;have d0:V 0=_:=hS 0 (by omega);have d1:V 1=_:=hS 1 (by omega);have d2:V 2=_:=hS 2 (by omega);have d3:V 3=_:=hS 3 (by omega);have d4:V 4=_:=hS 4 (by omega);have d5:V 5=_:=hS 5 (by omega);have d6:V 6=_:=hS 6 (by omega);have d7:V 7=_:=hS 7 (by omega);have d8:V 8=_:=hS 8 (by omega);have d9:V 9=_:=hS 9 (by omega);simp only[pA,d0,d1,d2,d3,d4,d5,d6,d7,d8,d9]at hA;clear hS d0 d1 d2 d3 d4 d5 d6 d7 d8 d9;obtain rfl:=hA;simp only[List.drop_succ_cons,List.drop_zero];have hbw:=hb.trans (hW.mono hb.size);have H0':Hid _:=AL hW H0.out hz0;have H1':Hid _:=AL hW H1.out hz1;have H2':Hid _:=AL hW H2.out hz2;have X9':Hid _:=AL hW HX9.out hz9;have S1:Hid (RowIs W 63 13 g1 B.svcs.length k1 (AU B.svcs)):=Q1.out.below hW Q1.out.lt;have S2:Hid (RowIs W 35 7 g2 B.cps.length k2 (Ag l)):=Q2.out.below hW Q2.out.lt;have S3:Hid (RowIs W 74 2 g3 B.bts.length k3 (Af B.bts)):=Q3.out.below hW Q3.out.lt;clear hW HI hBX hxx H0 H1 H2 HX9 Q1 Q2 Q3 hb;have x2:=AK X9'.out 2 rfl
        go_wp2_with (first
         |(refine At rfl 4 (.tmp 126) (.const (.bool true)) rfl g2 _ (.bool true) rfl rfl KD rfl rfl 35 7 B.cps.length k2 _ S2.out (by omega) ?_;intro w6 hr6 on6;have S2b:Hid (RowIs w6 35 7 g2 B.cps.length k2 (Ag (l.set i {c with ending:=true}))):=(by have:=hr6.out;(try simp only[Nat.zero_add]at this);rw[show splice (Ag l) (i*7+5) [.bool true]=Ag (l.set i {c with ending:=true}) from Ay (c:=Cp.cells) (n:=7) (λ_=>rfl) l i 5 c {c with ending:=true} _ HIC.out (by omega) rfl]at this;exact this);have X9b:Hid _:=(on6.other w4.heap.size (by omega)).trans X9'.out;have hb6:=hbw.trans (on6.below.mono (by omega));have on6':Hid (Bj g2 W w6):=on6;clear hr6 on6 x2 S2;have x2b:=AK X9b.out 2 rfl)
         |(refine At rfl 3 (.tmp 132) (.tmp 130) rfl g2 _ (.int .i64 (B.now+1)) rfl rfl Bm rfl rfl 35 7 B.cps.length k2 _ S2b.out (by omega) ?_;intro w7 hr7 on7;have S2c:Hid (RowIs w7 35 7 g2 B.cps.length k2 (Ag (l.set i (IX (B.now+1) c)))):=(by have:=hr7.out;(try simp only[Nat.zero_add]at this);rw[show splice (Ag (l.set i {c with ending:=true})) (i*7+2) [.int .i64 (B.now+1)]=Ag ((l.set i {c with ending:=true}).set i (IX (B.now+1) c)) from Ay (c:=Cp.cells) (n:=7) (λ_=>rfl) _ i 2 {c with ending:=true} (IX (B.now+1) c) _ (by rw[List.getElem?_set_self (by rw[HLEN.out];exact hilt)]) (by omega) rfl,List.set_set]at this;exact this);have X9c:Hid _:=(on7.other w4.heap.size (by omega)).trans X9b.out;have hb7:=hb6.trans (on7.below.mono (by omega));have on7':Hid (Bj g2 w6 w7):=on7;clear hr7 on7 x2b S2b))
        go_roundw
        case rel=>
         have o:∀k,k≠g2->w7.heap[k]?=W.heap[k]?:=λk hk=>(on7'.out.other k hk).trans (on6'.out.other k hk)
         exact⟨j+1,l.set i (IX (B.now+1) c),by omega,by go_num,hb7,(o _ (by omega)).trans H0'.out,(o _ (by omega)).trans H1'.out,(o _ (by omega)).trans H2'.out,X9c,S1.out.blk (o _ HN12.out),S2c,S3.out.blk (o _ HN23.out),(ckey_set HIC.out _).trans HKEY.out,HNN⟩
        case measure=>simp[intOf];omega
      ·have hjl:j=A.ends.length:=by omega
       have HLL:Hid (MM=some l):=by
        have:=HMK.out;rw[hjl,List.drop_length]at this;exact this.symm
       have e6:=AK H1.out 6 rfl
       go_upto_region 28 with fail
       clear HMK hlt hj hjl e6;rename_i Kz hKz;have hn13:g3≠g1:=R3.out.ne R1.out (by decide);obtain⟨⟨d01,d02,d03,d04⟩,⟨d05,d06,d07,d08⟩,⟨d09,d10,d11,d12⟩,⟨h2N,hNx,hNg1,hNg2,hNg3⟩⟩:=l4_dist hgl1 hgl2 hgl3 hg1 hg2 hg3 HN12.out hn13;refine Code.wp_mono (OK ?_ (Gn λ_ _ h=>⟨.inr ⟨l,HLL.out,h.1⟩,h.2⟩)) (l4_late B A s l n k w.heap.size (w.heap.size+1) (w.heap.size+1+1) w4.heap.size g1 k1 g2 k2 g3 k3 w.heap.size _ a2 a3 c1 c2 c3 ae ce w _ hb HNC hcr0 hcr1 hsi HAW hS hl8 (hB.below hb) HKS HKK HLEN H0 H1 H2 HX9 R1 R2 R3 d01 d02 d03 d04 d05 d06 d07 d08 d09 d10 d11 d12 h2N hNx hNg1 hNg2 hNg3 (λ_ _ h=>h));exact λa w' h=>hKz a w' (Code.wp_mono (Gn λ_ _ h=>⟨.inr ⟨l,HLL.out,h.1⟩,h.2⟩) h)
end Go.Proofs.Ytbceafpodamnfaa
