import Derived.Test.YtbceafpodamnfaaH30
set_option linter.all false
set_option maxHeartbeats 16000000
set_option maxRecDepth 100000
namespace Go.Proofs.Ytbceafpodamnfaa
attribute [local simp] svV cpV zbV czV aaV ctZ ad bkV ctV acV evV
attribute [local go_sem] svV cpV zbV czV aaV ctZ ad bkV ctV acV evV
open Go.RowKit Go.Sort
theorem ZZ{p:Prop}(h:p):Hid p:=h
theorem C2(w:World)(A B C D:Obj):((((w.alloc A).alloc B).alloc C).alloc D).heap[w.heap.size]?=some A/\((((w.alloc A).alloc B).alloc C).alloc D).heap[w.heap.size+1]?=some B/\((((w.alloc A).alloc B).alloc C).alloc D).heap[w.heap.size+1+1]?=some C/\((((w.alloc A).alloc B).alloc C).alloc D).heap[w.heap.size+1+1+1]?=some D/\((((w.alloc A).alloc B).alloc C).alloc D).heap.size=w.heap.size+1+1+1+1:=by
 have e:((((w.alloc A).alloc B).alloc C).alloc D).heap=(((w.heap.push A).push B).push C).push D:=rfl;rw[e];refine⟨?_,?_,?_,?_,by simp⟩
 ·rw[Array.getElem?_push,if_neg (by simp<;>omega),Array.getElem?_push,if_neg (by simp<;>omega),Array.getElem?_push,if_neg (by simp<;>omega),Array.getElem?_push,if_pos rfl]
 ·rw[Array.getElem?_push,if_neg (by simp<;>omega),Array.getElem?_push,if_neg (by simp<;>omega),Array.getElem?_push,if_pos (by simp<;>omega)]
 ·rw[Array.getElem?_push,if_neg (by simp),Array.getElem?_push,if_pos (by simp)]
 ·rw[Array.getElem?_push,if_pos (by simp)]
def SlEn(lo:Nat)(w:World)(ae:Option Addr)(l:List En):Prop:=l≠[]->∃g,ae=some ⟨g,0,none⟩/\lo<=g/\g<w.heap.size/\LM w g 0 l
theorem SlEn.nil(lo:Nat)(w:World)(ae:Option Addr):SlEn lo w ae []:=λh=>absurd rfl h
theorem RowIs.slEn{w:World}{g n cap lo:Nat}{l:List En}(h:RowIs w 168 2 g n cap (CZ l))(hlo:lo<=g):SlEn lo w (ad g) l:=λ_=>
 ⟨g,rfl,hlo,h.lt,λi s hs=>by
  have:=N5 l i s hs;unfold EnAt;rw[Nat.zero_add]
  exact⟨h.cell this.1,h.cell this.2⟩⟩
theorem DV:(Try.prog.info? 150).map (·.size)=some 1:=by kernel_rfl
def N6(B:Bk)(s:Svc):Bool:=((B7 B s λc=>c.image !=s.image).length:Int)==0&&((B7 B s λc=>Bv B c).length:Int)==0
def numOf(l:List En):Int:=match l with|[]=>0|e::_=>e.number
def EJ(B:Bk)(s:Svc):Ac:=
 if((BO B s.name B.cps.length).length:Int)<s.want then {a0 s with create:=s.want - (BO B s.name B.cps.length).length}
 else if s.want<((BO B s.name B.cps.length).length:Int)/\(N6 B s=true\/s.want+s.over<((BO B s.name B.cps.length).length:Int))/\B4 B s.name (numOf (De B s.image (BO B s.name B.cps.length)))=true then {a0 s with ends:=De B s.image (BO B s.name B.cps.length)}
 else a0 s
def IsAct(lo:Nat)(w:World)(v:Value)(A:Ac):Prop:=∃ae ce,v=.agg (acV A ae ce)/\SlEn lo w ae A.ends
theorem DU(lo:Nat)(w:World)(s:Svc):IsAct lo w (.agg (aaV s.name s.version 0 0 0 false (.slice none 0 0) false)) (a0 s):=⟨none,0,rfl,SlEn.nil _ _ _⟩
theorem KS(B:Bk)(s:Svc)(a1 a2 a3:Option Addr)(c1 c2 c3:Nat)(w:World)(hS:B.small)(hV:Valid B)(hsi:Dr s)(hB:BkAt w a1 a2 a3 B):
  Calls Try.prog 106 #[.agg (bkV B a1 c1 a2 c2 a3 c3),.agg (svV s),.agg (aaV s.name s.version 0 0 0 false (.slice none 0 0) false)] w λe w'=>∃v,e=.returned v/\IsAct w.heap.size w' v (EJ B s)/\Below w.heap.size w w':=by
 obtain⟨t0,t1,t2,t3,t4⟩:=C2 w (.cells (bkV B a1 c1 a2 c2 a3 c3) 27) (.cells (svV s) 63) (.cells (aaV s.name s.version 0 0 0 false (.slice none 0 0) false) 152) (.cells #[.string ⟨#[]⟩,.int .i64 0,.int .i64 0,.int .i64 0,.int .i64 0,.bool false,.slice none 0 0,.bool false] 152);have T0:Hid _:=t0;have T1:Hid _:=t1;have T2:Hid _:=t2;have T3:Hid _:=t3;have HS4:Hid _:=t4;clear t0 t1 t2 t3 t4;have hb0:Below w.heap.size w ((((w.alloc (.cells (bkV B a1 c1 a2 c2 a3 c3) 27)).alloc (.cells (svV s) 63)).alloc (.cells (aaV s.name s.version 0 0 0 false (.slice none 0 0) false) 152)).alloc (.cells #[.string ⟨#[]⟩,.int .i64 0,.int .i64 0,.int .i64 0,.int .i64 0,.bool false,.slice none 0 0,.bool false] 152)):=((((Below.refl _ _).alloc (AG _) _).alloc (by simp) _).alloc (by simp;omega) _).alloc (by simp;omega) _;obtain⟨L,HLL⟩:∃L,Hid (BO B s.name B.cps.length=L):=⟨_,rfl⟩;have hLl:L.length<=B.cps.length:=by rw[<-HLL.out];exact Bu _ _ _
 have HL:Hid (∀i∈L,i<B.cps.length):=λi hi=>by rw[<-HLL.out]at hi;exact Di hi
 have hl:=hS;obtain⟨hl1,hl2,hl3⟩:=hl;have hw0:=hsi.want0;have hw1:=hsi.want1;have ho0:=hsi.over0;have ho1:=hsi.over1;obtain⟨C,HC⟩:∃C,Hid (EJ B s=C):=⟨_,rfl⟩;rw[HC.out];have HCD:Hid (C=if(L.length:Int)<s.want then {a0 s with create:=s.want - L.length} else if s.want<(L.length:Int)/\(N6 B s=true\/s.want+s.over<(L.length:Int))/\B4 B s.name (numOf (De B s.image L))=true then {a0 s with ends:=De B s.image L} else a0 s):=by unfold Hid;rw[<-HC.out];unfold EJ;rw[HLL.out]
 clear HC;go_enter Try.func106,Try.ntmps106
 go_wp2_with fail
 refine(Dy B s.name a1 a2 a3 c1 c2 c3 _ hS (hB.below hb0).2.1).mono ?_;rw[HLL.out];rintro e w1 ⟨gL,capL,rfl,hgL0,hLr,hb1⟩;rw[HS4.out]at hgL0 hb1;have hbw1:=hb0.trans (hb1.mono (by omega));have U0:Hid (Bl w1 (w.heap.size) (bkV B a1 c1 a2 c2 a3 c3) 27):=AL hb1 T0.out (by omega);have U1:Hid (Bl w1 (w.heap.size+1) (svV s) 63):=AL hb1 T1.out (by omega);have U2:Hid (Bl w1 (w.heap.size+1+1) (aaV s.name s.version 0 0 0 false (.slice none 0 0) false) 152):=AL hb1 T2.out (by omega);have U3:Hid (w1.heap[w.heap.size+1+1+1]?=some (.cells #[.string ⟨#[]⟩,.int .i64 0,.int .i64 0,.int .i64 0,.int .i64 0,.bool false,.slice none 0 0,.bool false] 152 (0,0))):=AL hb1 T3.out (by omega);have hz1:w.heap.size+1+1+1+1<=w1.heap.size:=by have:=hb1.size;rw[HS4.out]at this;omega
 have ULR:Hid (RowIs w1 3 1 gL L.length capL (Aw L)):=hLr;clear T0 T1 T2 T3 HS4 hb1 hb0 hLr HLL;have v4:=AK U1.out 4 rfl
 by_cases hlt:(L.length:Int)<s.want
 ·have HE:Hid (C={a0 s with create:=s.want - L.length}):=by unfold Hid;rw[HCD.out,if_pos hlt]
  go_wp2_with (first
   |(refine AP rfl 3 (.tmp 24) (.tmp 23) rfl (w.heap.size+1+1) 2 (.int .i64 (s.want - L.length)) rfl rfl BR rfl rfl 152 (aaV s.name s.version 0 0 0 false (.slice none 0 0) false) U2.out (AD rfl) ?_;intro w2 hz on;have V2:Hid (Bl w2 (w.heap.size+1+1) #[.string s.name,.int .i64 s.version,.int .i64 (s.want - L.length),.int .i64 0,.int .i64 0,.bool false,.slice none 0 0,.bool false] 152):=hz;have V3:Hid _:=(on.other (w.heap.size+1+1+1) (by omega)).trans U3.out;have hbw2:=hbw1.trans (on.below.mono (by omega));clear hz on;have q0:=AK V2.out 0 rfl;have q1:=AK V2.out 1 rfl;have q2:=AK V2.out 2 rfl;have q3:=AK V2.out 3 rfl;have q4:=AK V2.out 4 rfl;have q5:=AK V2.out 5 rfl;have q6:=AK V2.out 6 rfl;have q7:=AK V2.out 7 rfl)
   |(refine AM rfl 152 (.tmp 6) (.tmp 25) rfl (w.heap.size+1+1+1) 0 #[.string s.name,.int .i64 s.version,.int .i64 (s.want - L.length),.int .i64 0,.int .i64 0,.bool false,.slice none 0 0,.bool false] rfl rfl 152 #[.string ⟨#[]⟩,.int .i64 0,.int .i64 0,.int .i64 0,.int .i64 0,.bool false,.slice none 0 0,.bool false] V3.out Aq (AD rfl) (by simp[Value.oneCell']) ?_;intro wf hz on;have RF:Hid (Bl wf (w.heap.size+1+1+1) #[.string s.name,.int .i64 s.version,.int .i64 (s.want - L.length),.int .i64 0,.int .i64 0,.bool false,.slice none 0 0,.bool false] 152):=hz;have hbf:=hbw2.trans (on.below.mono (by omega));clear hz on;have p0:=AK RF.out 0 rfl;have p1:=AK RF.out 1 rfl;have p2:=AK RF.out 2 rfl;have p3:=AK RF.out 3 rfl;have p4:=AK RF.out 4 rfl;have p5:=AK RF.out 5 rfl;have p6:=AK RF.out 6 rfl;have p7:=AK RF.out 7 rfl))
  refine bodyPost_ret (v:=.agg #[.string s.name,.int .i64 s.version,.int .i64 (s.want - L.length),.int .i64 0,.int .i64 0,.bool false,.slice none 0 0,.bool false]) (by simp[results,Try.results106,go_sem,p0,p1,p2,p3,p4,p5,p6,p7]) rfl ⟨_,rfl,?_,hbf⟩;rw[HE.out];exact⟨none,0,rfl,SlEn.nil _ _ _⟩
 ·clear v4
  obtain⟨e0,e1,e2,e3⟩:=c4 U0.out;have v0:=AK U1.out 0 rfl;have v1:=AK U1.out 1 rfl;have v2:=AK U1.out 2 rfl;have v3:=AK U1.out 3 rfl;have v4:=AK U1.out 4 rfl;have v5:=AK U1.out 5 rfl;have v6:=AK U1.out 6 rfl;have v7:=AK U1.out 7 rfl;have v8:=AK U1.out 8 rfl;have v9:=AK U1.out 9 rfl;have v10:=AK U1.out 10 rfl;have v11:=AK U1.out 11 rfl;have v12:=AK U1.out 12 rfl;obtain⟨n2,HN2⟩:∃n2:Nat,Hid ((B7 B s λc=>c.image !=s.image).length=n2):=⟨_,rfl⟩;obtain⟨n6,HN6⟩:∃n6:Nat,Hid ((B7 B s λc=>Bv B c).length=n6):=⟨_,rfl⟩;obtain⟨calm,HCM⟩:∃c,Hid (N6 B s=c):=⟨_,rfl⟩;have HCM':Hid (calm=((n2:Int)==0&&(n6:Int)==0)):=by unfold Hid;rw[<-HCM.out];unfold N6;rw[HN2.out,HN6.out]
  have hn2:n2<=1048576:=by rw[<-HN2.out];exact AH (List.length_filter_le _ _) (AH (Bu _ _ _) hl2)
  have hn6:n6<=1048576:=by rw[<-HN6.out];exact AH (List.length_filter_le _ _) (AH (Bu _ _ _) hl2)
  go_upto_region 5 with fail
  go_cut [8] (λv wx=>v=.bool calm/\Below w1.heap.size w1 wx)
  case first=>
   go_wp2_with fail
   refine(Hi B s a1 a2 a3 c1 c2 c3 _ hS (hB.below hbw1)).mono ?_;rw[HN2.out];rintro e w2 ⟨g2,cap2,rfl,_,_,hb2⟩;cases hc2:((n2:Int)==0)
   ·go_wp2
    go_meet
    case rel=>exact⟨by rw[HCM'.out,hc2];rfl,hb2⟩
   ·have W0:Hid _:=AL hb2 U0.out (by omega)
    have W1:Hid _:=AL hb2 U1.out (by omega);clear e0 e1 e2 e3 v0 v1 v2 v3 v4 v5 v6 v7 v8 v9 v10 v11 v12;obtain⟨e0,e1,e2,e3⟩:=c4 W0.out;have v0:=AK W1.out 0 rfl;have v1:=AK W1.out 1 rfl;have v2:=AK W1.out 2 rfl;have v3:=AK W1.out 3 rfl;have v4:=AK W1.out 4 rfl;have v5:=AK W1.out 5 rfl;have v6:=AK W1.out 6 rfl;have v7:=AK W1.out 7 rfl;have v8:=AK W1.out 8 rfl;have v9:=AK W1.out 9 rfl;have v10:=AK W1.out 10 rfl;have v11:=AK W1.out 11 rfl;have v12:=AK W1.out 12 rfl
    go_wp2_with fail
    refine(MQ B s a1 a2 a3 c1 c2 c3 _ hS (hB.below (hbw1.trans (hb2.mono hbw1.size)))).mono ?_;rw[HN6.out];rintro e w3 ⟨g6,cap6,rfl,_,_,hb3⟩;go_wp2;go_meet
    case rel=>exact⟨by rw[HCM'.out,hc2];rfl,hb2.trans (hb3.mono hb2.size)⟩
  case rest=>
   obtain⟨rfl,hbx⟩:=hcut;have hbwx:=hbw1.trans (hbx.mono hbw1.size);have hzx:=hbx.size;have V0:=ZZ (AL hbx U0.out (by omega));have V1:=ZZ (AL hbx U1.out (by omega));have V2:=ZZ (AL hbx U2.out (by omega));have V3:=ZZ (AL hbx U3.out (by omega));have VLR:=ZZ (ULR.out.below hbx ULR.out.lt);clear e0 e1 e2 e3 v0 v1 v2 v3 v4 v5 v6 v7 v8 v9 v10 v11 v12 U0 U1 U2 U3 ULR hbx;have v4:=AK V1.out 4 rfl;have v6:=AK V1.out 6 rfl
   by_cases hgt:s.want<(L.length:Int)
   ·obtain⟨i0,hi0⟩:∃i0,L[0]?=some i0:=⟨L[0]'(by omega),by rw[List.getElem?_eq_getElem]⟩
    have HI0:Hid _:=hi0;obtain⟨best,HBB⟩:∃b,Hid (FM B s.image i0 L L.length=b):=⟨_,rfl⟩;have HFL:Hid (De B s.image L=[Ds best]):=by unfold Hid;rw[LH hi0,HBB.out]
    obtain⟨m,HMM'⟩:∃m,Hid (B4 B s.name best.number=m):=⟨_,rfl⟩;have HMM:Hid (B4 B s.name (numOf (De B s.image L))=m):=by unfold Hid;rw[HFL.out];exact HMM'.out
    have HMC:Hid (∀W:World,BkAt W a1 a2 a3 B->Calls Try.prog 27 #[.agg (bkV B a1 c1 a2 c2 a3 c3),.string s.name,.int .i64 best.number] W λe w'=>e=.returned (.bool m)/\Below W.heap.size W w'):=λW h=>by rw[<-HMM'.out];exact LC B s.name best.number a1 a2 a3 c1 c2 c3 W hS h hV
    clear hi0 HMM';cases calm
    ·by_cases hov:s.want+s.over<(L.length:Int)
     ·clear v4 v6
      obtain⟨e0,e1,e2,e3⟩:=c4 V0.out;have v0:=AK V1.out 0 rfl;have v1:=AK V1.out 1 rfl;have v2:=AK V1.out 2 rfl;have v3:=AK V1.out 3 rfl;have v4:=AK V1.out 4 rfl;have v5:=AK V1.out 5 rfl;have v6:=AK V1.out 6 rfl;have v7:=AK V1.out 7 rfl;have v8:=AK V1.out 8 rfl;have v9:=AK V1.out 9 rfl;have v10:=AK V1.out 10 rfl;have v11:=AK V1.out 11 rfl;have v12:=AK V1.out 12 rfl
      go_wp2_with fail
      refine(Fk B s L i0 gL capL a1 a2 a3 c1 c2 c3 _ hS (hB.below hbwx) HI0.out HL.out (by omega) VLR.out).mono ?_;rw[HBB.out];rintro e w3 ⟨gF,capF,rfl,hgF,hrF,hb3⟩;have hbw3:=hbwx.trans (hb3.mono hbwx.size);have hz3:=hb3.size;have X0:Hid (Bl w3 (w.heap.size) (bkV B a1 c1 a2 c2 a3 c3) 27):=AL hb3 V0.out (by omega);have X1:Hid (Bl w3 (w.heap.size+1) (svV s) 63):=AL hb3 V1.out (by omega);have X2:Hid (Bl w3 (w.heap.size+1+1) (aaV s.name s.version 0 0 0 false (.slice none 0 0) false) 152):=AL hb3 V2.out (by omega);have X3:Hid (w3.heap[w.heap.size+1+1+1]?=some (.cells #[.string ⟨#[]⟩,.int .i64 0,.int .i64 0,.int .i64 0,.int .i64 0,.bool false,.slice none 0 0,.bool false] 152 (0,0))):=AL hb3 V3.out (by omega);have HRF:Hid (RowIs w3 168 2 gF 1 capF (CZ [Ds best])):=hrF;have HNUM:Hid ((CZ [Ds best])[0]?=some (.int .i64 best.number)):=rfl;clear hb3 hrF e0 e1 e2 e3 v0 v1 v2 v3 v4 v5 v6 v7 v8 v9 v10 v11 v12 V0 V1 V2 V3;go_wp2;refine AX 7 (by kernel_rfl) (by kernel_rfl) ?_;apply AN
      ·intro V W K A hW hd hA hK
       simp only[pA]at hA;clear hd;obtain rfl:=hA;obtain⟨e0,e1,e2,e3⟩:=c4 (AL hW X0.out (by omega));go_wp2;exact hK.out _ brf
      apply AN
      ·intro V W K A hW hd hA hK
       simp only[pA]at hA;clear hd;obtain rfl:=hA;go_wp2;exact hK.out _ brf
      apply AN
      ·intro V W K A hW hd hA hK
       have d1:V 1=_:=hd 1 (by kernel_rfl);simp only[pA,d1]at hA;clear hd d1;obtain rfl:=hA;have v0:=AK (AL hW X1.out (by omega)) 0 rfl;go_wp2;exact hK.out _ brf
      apply AN
      ·intro V W K A hW hd hA hK
       simp only[pA]at hA;clear hd;obtain rfl:=hA;go_wp2;exact hK.out _ brf
      apply AN
      ·intro V W K A hW hd hA hK
       have d3:V 3=_:=hd 3 (by kernel_rfl);simp only[pA,d3]at hA;clear hd d3;obtain rfl:=hA;go_wp2;exact hK.out _ brf
      apply AN
      ·intro V W K A hW hd hA hK
       have d4:V 4=_:=hd 4 (by kernel_rfl);simp only[pA,d4]at hA;clear hd d4;obtain rfl:=hA;go_wp2;exact hK.out _ brf
      apply AN
      ·intro V W K A hW hd hA hK
       have d5:V 5=_:=hd 5 (by kernel_rfl);simp only[pA,d5]at hA;clear hd d5;obtain rfl:=hA;have y0:=(HRF.out.below hW HRF.out.lt).cell HNUM.out;go_wp2;exact hK.out _ brf
      intro V W A hW hS hA;have d0:V 0=_:=hS 0 (by omega);have d1:V 1=_:=hS 1 (by omega);have d2:V 2=_:=hS 2 (by omega);have d3:V 3=_:=hS 3 (by omega);have d4:V 4=_:=hS 4 (by omega);have d5:V 5=_:=hS 5 (by omega);have d6:V 6=_:=hS 6 (by omega);simp only[pA,d0,d1,d2,d3,d4,d5,d6]at hA;clear hS d0 d1 d2 d3 d4 d5 d6;obtain rfl:=hA;simp only[List.drop_succ_cons,List.drop_zero];have hbW:=hbw3.trans (hW.mono hbw3.size)
      go_wp2_with fail
      refine(HMC.out _ (hB.below hbW)).mono ?_;rintro e w4 ⟨rfl,hb4⟩;have hb34:Below w3.heap.size w3 w4:=hW.trans (hb4.mono hW.size);have hbw4:=hbw3.trans (hb34.mono hbw3.size);have Y2:Hid _:=AL hb34 X2.out (by omega);have Y3:Hid _:=AL hb34 X3.out (by omega);have HR4:Hid (RowIs w4 168 2 gF 1 capF (CZ [Ds best])):=HRF.out.below hb34 HRF.out.lt;have hgF4:gF<w4.heap.size:=HR4.out.lt;clear hb4 hW hbW X0 X1 X2 X3 HRF;cases m
      ·have HE:Hid (C=a0 s):=by unfold Hid;rw[HCD.out,if_neg (by omega),if_neg];rw[HMM.out];simp
       have q0:=AK Y2.out 0 rfl;have q1:=AK Y2.out 1 rfl;have q2:=AK Y2.out 2 rfl;have q3:=AK Y2.out 3 rfl;have q4:=AK Y2.out 4 rfl;have q5:=AK Y2.out 5 rfl;have q6:=AK Y2.out 6 rfl;have q7:=AK Y2.out 7 rfl
       go_wp2_with (refine AM rfl 152 (.tmp 6) (.tmp 70) rfl (w.heap.size+1+1+1) 0 (aaV s.name s.version 0 0 0 false (.slice none 0 0) false) rfl rfl 152 #[.string ⟨#[]⟩,.int .i64 0,.int .i64 0,.int .i64 0,.int .i64 0,.bool false,.slice none 0 0,.bool false] Y3.out Aq (AD rfl) (by simp[Value.oneCell']) ?_;intro wf hz on;have RF:Hid (Bl wf (w.heap.size+1+1+1) (aaV s.name s.version 0 0 0 false (.slice none 0 0) false) 152):=hz;have hbf:=hbw4.trans (on.below.mono (by omega));clear hz on;have p0:=AK RF.out 0 rfl;have p1:=AK RF.out 1 rfl;have p2:=AK RF.out 2 rfl;have p3:=AK RF.out 3 rfl;have p4:=AK RF.out 4 rfl;have p5:=AK RF.out 5 rfl;have p6:=AK RF.out 6 rfl;have p7:=AK RF.out 7 rfl)
       refine bodyPost_ret (v:=.agg (aaV s.name s.version 0 0 0 false (.slice none 0 0) false)) (by simp[results,Try.results106,go_sem,p0,p1,p2,p3,p4,p5,p6,p7]) rfl ⟨_,rfl,?_,hbf⟩;rw[HE.out];exact DU _ _ s
      ·have HE:Hid (C={a0 s with ends:=[Ds best]}):=by unfold Hid;rw[HCD.out,if_neg (by omega),if_pos ⟨hgt,.inr hov,HMM.out⟩,HFL.out]
       go_wp2_with (first
        |(refine AP rfl 150 (.tmp 69) (.tmp 68) rfl (w.heap.size+1+1) 6 (.slice (ad gF) 1 capF) rfl rfl DV rfl rfl 152 (aaV s.name s.version 0 0 0 false (.slice none 0 0) false) Y2.out (AD rfl) ?_;intro w5 hz on;have Z2:Hid (Bl w5 (w.heap.size+1+1) #[.string s.name,.int .i64 s.version,.int .i64 0,.int .i64 0,.int .i64 0,.bool false,.slice (ad gF) 1 capF,.bool false] 152):=hz;have Z3:Hid _:=(on.other (w.heap.size+1+1+1) (by omega)).trans Y3.out;have hbw5:=hbw4.trans (on.below.mono (by omega));have HR5:Hid (RowIs w5 168 2 gF 1 capF (CZ [Ds best])):=HR4.out.blk (on.other gF (by omega));clear hz on;have q0:=AK Z2.out 0 rfl;have q1:=AK Z2.out 1 rfl;have q2:=AK Z2.out 2 rfl;have q3:=AK Z2.out 3 rfl;have q4:=AK Z2.out 4 rfl;have q5:=AK Z2.out 5 rfl;have q6:=AK Z2.out 6 rfl;have q7:=AK Z2.out 7 rfl)
        |(refine AM rfl 152 (.tmp 6) (.tmp 70) rfl (w.heap.size+1+1+1) 0 #[.string s.name,.int .i64 s.version,.int .i64 0,.int .i64 0,.int .i64 0,.bool false,.slice (ad gF) 1 capF,.bool false] rfl rfl 152 #[.string ⟨#[]⟩,.int .i64 0,.int .i64 0,.int .i64 0,.int .i64 0,.bool false,.slice none 0 0,.bool false] Z3.out Aq (AD rfl) (by simp[Value.oneCell']) ?_;intro wf hz on;have RF:Hid (Bl wf (w.heap.size+1+1+1) #[.string s.name,.int .i64 s.version,.int .i64 0,.int .i64 0,.int .i64 0,.bool false,.slice (ad gF) 1 capF,.bool false] 152):=hz;have hbf:=hbw5.trans (on.below.mono (by omega));have HR6:Hid (RowIs wf 168 2 gF 1 capF (CZ [Ds best])):=HR5.out.blk (on.other gF (by omega));clear hz on;have p0:=AK RF.out 0 rfl;have p1:=AK RF.out 1 rfl;have p2:=AK RF.out 2 rfl;have p3:=AK RF.out 3 rfl;have p4:=AK RF.out 4 rfl;have p5:=AK RF.out 5 rfl;have p6:=AK RF.out 6 rfl;have p7:=AK RF.out 7 rfl))
       refine bodyPost_ret (v:=.agg #[.string s.name,.int .i64 s.version,.int .i64 0,.int .i64 0,.int .i64 0,.bool false,.slice (ad gF) 1 capF,.bool false]) (by simp[results,Try.results106,go_sem,p0,p1,p2,p3,p4,p5,p6,p7]) rfl ⟨_,rfl,?_,hbf⟩;rw[HE.out];exact⟨some ⟨gF,0,none⟩,capF,rfl,HR6.out.slEn (by omega)⟩
     ·have HE:Hid (C=a0 s):=by unfold Hid;rw[HCD.out,if_neg (by omega),if_neg];rintro⟨_,h,_⟩;rw[HCM.out]at h;rcases h with h|h;(cases h);(exact hov h)
      have q0:=AK V2.out 0 rfl;have q1:=AK V2.out 1 rfl;have q2:=AK V2.out 2 rfl;have q3:=AK V2.out 3 rfl;have q4:=AK V2.out 4 rfl;have q5:=AK V2.out 5 rfl;have q6:=AK V2.out 6 rfl;have q7:=AK V2.out 7 rfl
      go_wp2_with (refine AM rfl 152 (.tmp 6) (.tmp 70) rfl (w.heap.size+1+1+1) 0 (aaV s.name s.version 0 0 0 false (.slice none 0 0) false) rfl rfl 152 #[.string ⟨#[]⟩,.int .i64 0,.int .i64 0,.int .i64 0,.int .i64 0,.bool false,.slice none 0 0,.bool false] V3.out Aq (AD rfl) (by simp[Value.oneCell']) ?_;intro wf hz on;have RF:Hid (Bl wf (w.heap.size+1+1+1) (aaV s.name s.version 0 0 0 false (.slice none 0 0) false) 152):=hz;have hbf:=hbwx.trans (on.below.mono (by omega));clear hz on;have p0:=AK RF.out 0 rfl;have p1:=AK RF.out 1 rfl;have p2:=AK RF.out 2 rfl;have p3:=AK RF.out 3 rfl;have p4:=AK RF.out 4 rfl;have p5:=AK RF.out 5 rfl;have p6:=AK RF.out 6 rfl;have p7:=AK RF.out 7 rfl)
      refine bodyPost_ret (v:=.agg (aaV s.name s.version 0 0 0 false (.slice none 0 0) false)) (by simp[results,Try.results106,go_sem,p0,p1,p2,p3,p4,p5,p6,p7]) rfl ⟨_,rfl,?_,hbf⟩;rw[HE.out];exact DU _ _ s
    ·clear v4 v6
     obtain⟨e0,e1,e2,e3⟩:=c4 V0.out;have v0:=AK V1.out 0 rfl;have v1:=AK V1.out 1 rfl;have v2:=AK V1.out 2 rfl;have v3:=AK V1.out 3 rfl;have v4:=AK V1.out 4 rfl;have v5:=AK V1.out 5 rfl;have v6:=AK V1.out 6 rfl;have v7:=AK V1.out 7 rfl;have v8:=AK V1.out 8 rfl;have v9:=AK V1.out 9 rfl;have v10:=AK V1.out 10 rfl;have v11:=AK V1.out 11 rfl;have v12:=AK V1.out 12 rfl
     go_wp2_with fail
     refine(Fk B s L i0 gL capL a1 a2 a3 c1 c2 c3 _ hS (hB.below hbwx) HI0.out HL.out (by omega) VLR.out).mono ?_;rw[HBB.out];rintro e w3 ⟨gF,capF,rfl,hgF,hrF,hb3⟩;have hbw3:=hbwx.trans (hb3.mono hbwx.size);have hz3:=hb3.size;have X0:Hid (Bl w3 (w.heap.size) (bkV B a1 c1 a2 c2 a3 c3) 27):=AL hb3 V0.out (by omega);have X1:Hid (Bl w3 (w.heap.size+1) (svV s) 63):=AL hb3 V1.out (by omega);have X2:Hid (Bl w3 (w.heap.size+1+1) (aaV s.name s.version 0 0 0 false (.slice none 0 0) false) 152):=AL hb3 V2.out (by omega);have X3:Hid (w3.heap[w.heap.size+1+1+1]?=some (.cells #[.string ⟨#[]⟩,.int .i64 0,.int .i64 0,.int .i64 0,.int .i64 0,.bool false,.slice none 0 0,.bool false] 152 (0,0))):=AL hb3 V3.out (by omega);have HRF:Hid (RowIs w3 168 2 gF 1 capF (CZ [Ds best])):=hrF;have HNUM:Hid ((CZ [Ds best])[0]?=some (.int .i64 best.number)):=rfl;clear hb3 hrF e0 e1 e2 e3 v0 v1 v2 v3 v4 v5 v6 v7 v8 v9 v10 v11 v12 V0 V1 V2 V3;go_wp2;refine AX 7 (by kernel_rfl) (by kernel_rfl) ?_;apply AN
     ·intro V W K A hW hd hA hK
      simp only[pA]at hA;clear hd;obtain rfl:=hA;obtain⟨e0,e1,e2,e3⟩:=c4 (AL hW X0.out (by omega));go_wp2;exact hK.out _ brf
     apply AN
     ·intro V W K A hW hd hA hK
      simp only[pA]at hA;clear hd;obtain rfl:=hA;go_wp2;exact hK.out _ brf
     apply AN
     ·intro V W K A hW hd hA hK
      have d1:V 1=_:=hd 1 (by kernel_rfl);simp only[pA,d1]at hA;clear hd d1;obtain rfl:=hA;have v0:=AK (AL hW X1.out (by omega)) 0 rfl;go_wp2;exact hK.out _ brf
     apply AN
     ·intro V W K A hW hd hA hK
      simp only[pA]at hA;clear hd;obtain rfl:=hA;go_wp2;exact hK.out _ brf
     apply AN
     ·intro V W K A hW hd hA hK
      have d3:V 3=_:=hd 3 (by kernel_rfl);simp only[pA,d3]at hA;clear hd d3;obtain rfl:=hA;go_wp2;exact hK.out _ brf
     apply AN
     ·intro V W K A hW hd hA hK
      have d4:V 4=_:=hd 4 (by kernel_rfl);simp only[pA,d4]at hA;clear hd d4;obtain rfl:=hA;go_wp2;exact hK.out _ brf
     apply AN
     ·intro V W K A hW hd hA hK
      have d5:V 5=_:=hd 5 (by kernel_rfl);simp only[pA,d5]at hA;clear hd d5;obtain rfl:=hA;have y0:=(HRF.out.below hW HRF.out.lt).cell HNUM.out;go_wp2;exact hK.out _ brf
     intro V W A hW hS hA;have d0:V 0=_:=hS 0 (by omega);have d1:V 1=_:=hS 1 (by omega);have d2:V 2=_:=hS 2 (by omega);have d3:V 3=_:=hS 3 (by omega);have d4:V 4=_:=hS 4 (by omega);have d5:V 5=_:=hS 5 (by omega);have d6:V 6=_:=hS 6 (by omega);simp only[pA,d0,d1,d2,d3,d4,d5,d6]at hA;clear hS d0 d1 d2 d3 d4 d5 d6;obtain rfl:=hA;simp only[List.drop_succ_cons,List.drop_zero];have hbW:=hbw3.trans (hW.mono hbw3.size)
     go_wp2_with fail
     refine(HMC.out _ (hB.below hbW)).mono ?_;rintro e w4 ⟨rfl,hb4⟩;have hb34:Below w3.heap.size w3 w4:=hW.trans (hb4.mono hW.size);have hbw4:=hbw3.trans (hb34.mono hbw3.size);have Y2:Hid _:=AL hb34 X2.out (by omega);have Y3:Hid _:=AL hb34 X3.out (by omega);have HR4:Hid (RowIs w4 168 2 gF 1 capF (CZ [Ds best])):=HRF.out.below hb34 HRF.out.lt;have hgF4:gF<w4.heap.size:=HR4.out.lt;clear hb4 hW hbW X0 X1 X2 X3 HRF;cases m
     ·have HE:Hid (C=a0 s):=by unfold Hid;rw[HCD.out,if_neg (by omega),if_neg];rw[HMM.out];simp
      have q0:=AK Y2.out 0 rfl;have q1:=AK Y2.out 1 rfl;have q2:=AK Y2.out 2 rfl;have q3:=AK Y2.out 3 rfl;have q4:=AK Y2.out 4 rfl;have q5:=AK Y2.out 5 rfl;have q6:=AK Y2.out 6 rfl;have q7:=AK Y2.out 7 rfl
      go_wp2_with (refine AM rfl 152 (.tmp 6) (.tmp 70) rfl (w.heap.size+1+1+1) 0 (aaV s.name s.version 0 0 0 false (.slice none 0 0) false) rfl rfl 152 #[.string ⟨#[]⟩,.int .i64 0,.int .i64 0,.int .i64 0,.int .i64 0,.bool false,.slice none 0 0,.bool false] Y3.out Aq (AD rfl) (by simp[Value.oneCell']) ?_;intro wf hz on;have RF:Hid (Bl wf (w.heap.size+1+1+1) (aaV s.name s.version 0 0 0 false (.slice none 0 0) false) 152):=hz;have hbf:=hbw4.trans (on.below.mono (by omega));clear hz on;have p0:=AK RF.out 0 rfl;have p1:=AK RF.out 1 rfl;have p2:=AK RF.out 2 rfl;have p3:=AK RF.out 3 rfl;have p4:=AK RF.out 4 rfl;have p5:=AK RF.out 5 rfl;have p6:=AK RF.out 6 rfl;have p7:=AK RF.out 7 rfl)
      refine bodyPost_ret (v:=.agg (aaV s.name s.version 0 0 0 false (.slice none 0 0) false)) (by simp[results,Try.results106,go_sem,p0,p1,p2,p3,p4,p5,p6,p7]) rfl ⟨_,rfl,?_,hbf⟩;rw[HE.out];exact DU _ _ s
     ·have HE:Hid (C={a0 s with ends:=[Ds best]}):=by unfold Hid;rw[HCD.out,if_neg (by omega),if_pos ⟨hgt,.inl HCM.out,HMM.out⟩,HFL.out]
      go_wp2_with (first
       |(refine AP rfl 150 (.tmp 69) (.tmp 68) rfl (w.heap.size+1+1) 6 (.slice (ad gF) 1 capF) rfl rfl DV rfl rfl 152 (aaV s.name s.version 0 0 0 false (.slice none 0 0) false) Y2.out (AD rfl) ?_;intro w5 hz on;have Z2:Hid (Bl w5 (w.heap.size+1+1) #[.string s.name,.int .i64 s.version,.int .i64 0,.int .i64 0,.int .i64 0,.bool false,.slice (ad gF) 1 capF,.bool false] 152):=hz;have Z3:Hid _:=(on.other (w.heap.size+1+1+1) (by omega)).trans Y3.out;have hbw5:=hbw4.trans (on.below.mono (by omega));have HR5:Hid (RowIs w5 168 2 gF 1 capF (CZ [Ds best])):=HR4.out.blk (on.other gF (by omega));clear hz on;have q0:=AK Z2.out 0 rfl;have q1:=AK Z2.out 1 rfl;have q2:=AK Z2.out 2 rfl;have q3:=AK Z2.out 3 rfl;have q4:=AK Z2.out 4 rfl;have q5:=AK Z2.out 5 rfl;have q6:=AK Z2.out 6 rfl;have q7:=AK Z2.out 7 rfl)
       |(refine AM rfl 152 (.tmp 6) (.tmp 70) rfl (w.heap.size+1+1+1) 0 #[.string s.name,.int .i64 s.version,.int .i64 0,.int .i64 0,.int .i64 0,.bool false,.slice (ad gF) 1 capF,.bool false] rfl rfl 152 #[.string ⟨#[]⟩,.int .i64 0,.int .i64 0,.int .i64 0,.int .i64 0,.bool false,.slice none 0 0,.bool false] Z3.out Aq (AD rfl) (by simp[Value.oneCell']) ?_;intro wf hz on;have RF:Hid (Bl wf (w.heap.size+1+1+1) #[.string s.name,.int .i64 s.version,.int .i64 0,.int .i64 0,.int .i64 0,.bool false,.slice (ad gF) 1 capF,.bool false] 152):=hz;have hbf:=hbw5.trans (on.below.mono (by omega));have HR6:Hid (RowIs wf 168 2 gF 1 capF (CZ [Ds best])):=HR5.out.blk (on.other gF (by omega));clear hz on;have p0:=AK RF.out 0 rfl;have p1:=AK RF.out 1 rfl;have p2:=AK RF.out 2 rfl;have p3:=AK RF.out 3 rfl;have p4:=AK RF.out 4 rfl;have p5:=AK RF.out 5 rfl;have p6:=AK RF.out 6 rfl;have p7:=AK RF.out 7 rfl))
      refine bodyPost_ret (v:=.agg #[.string s.name,.int .i64 s.version,.int .i64 0,.int .i64 0,.int .i64 0,.bool false,.slice (ad gF) 1 capF,.bool false]) (by simp[results,Try.results106,go_sem,p0,p1,p2,p3,p4,p5,p6,p7]) rfl ⟨_,rfl,?_,hbf⟩;rw[HE.out];exact⟨some ⟨gF,0,none⟩,capF,rfl,HR6.out.slEn (by omega)⟩
   ·have HE:Hid (C=a0 s):=by unfold Hid;rw[HCD.out,if_neg (by omega),if_neg (λh=>hgt h.1)]
    have q0:=AK V2.out 0 rfl;have q1:=AK V2.out 1 rfl;have q2:=AK V2.out 2 rfl;have q3:=AK V2.out 3 rfl;have q4:=AK V2.out 4 rfl;have q5:=AK V2.out 5 rfl;have q6:=AK V2.out 6 rfl;have q7:=AK V2.out 7 rfl
    go_wp2_with (refine AM rfl 152 (.tmp 6) (.tmp 70) rfl (w.heap.size+1+1+1) 0 (aaV s.name s.version 0 0 0 false (.slice none 0 0) false) rfl rfl 152 #[.string ⟨#[]⟩,.int .i64 0,.int .i64 0,.int .i64 0,.int .i64 0,.bool false,.slice none 0 0,.bool false] V3.out Aq (AD rfl) (by simp[Value.oneCell']) ?_;intro wf hz on;have RF:Hid (Bl wf (w.heap.size+1+1+1) (aaV s.name s.version 0 0 0 false (.slice none 0 0) false) 152):=hz;have hbf:=hbwx.trans (on.below.mono (by omega));clear hz on;have p0:=AK RF.out 0 rfl;have p1:=AK RF.out 1 rfl;have p2:=AK RF.out 2 rfl;have p3:=AK RF.out 3 rfl;have p4:=AK RF.out 4 rfl;have p5:=AK RF.out 5 rfl;have p6:=AK RF.out 6 rfl;have p7:=AK RF.out 7 rfl)
    refine bodyPost_ret (v:=.agg (aaV s.name s.version 0 0 0 false (.slice none 0 0) false)) (by simp[results,Try.results106,go_sem,p0,p1,p2,p3,p4,p5,p6,p7]) rfl ⟨_,rfl,?_,hbf⟩;rw[HE.out];exact DU _ _ s
end Go.Proofs.Ytbceafpodamnfaa
