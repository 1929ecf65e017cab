import Derived.Test.YtbceafpodamnfaaH11
import Derived.OwnWalk
set_option linter.all false
set_option maxHeartbeats 16000000
set_option maxRecDepth 100000
namespace Go.Proofs.Ytbceafpodamnfaa
attribute [local simp] svV cpV zbV czV aaV ctZ ad bkV ctV acV
attribute [local go_sem] svV cpV zbV czV aaV ctZ ad bkV ctV acV
section
open Go.RowKit Go.Sort
def D7:Code->Code| .seq a _=>a|c=>c
def AR:Code->Code| .seq _ b=>b|c=>c
def cIn:Code->Code| .block _ b=>b| .loop b=>b|c=>c
theorem l4_ins{u0 u1 u2 u3 u4 u5 u6 u7 u8 AA A5 Bk Ev G2 H5 JN J3 Kd Kz Op PB PM PX Pi Pt P4 QF QJ QK QL QM QN QO QP QQ QR QS QT QU QV QW QX QY QZ Qa Qb Qc Qd Qe Qf Qg Qh Qi Qj Qk Ql Qm Qn Qo Qp Qq Qr Qs Qt Qu Qv Qw Qx Qy Qz Q0 Q2 Q3 Q4 Q5 Q6 Q7 Q8 Q9 RA RB RC RD RE RF RG RH RI RJ RK RL RM RN RO RP RQ AC AE AF AG AI Ac A1 A2 A3 A4 A6 A7 A8 A9 BF BS BV BX Bb Bi Bt Bx B0 B1 B2 B3 CB CS Ca Cc Cy Cz C1 D1 D2 D3 D4 ET EW En E0 E1 E2 E3 E4 E5 E6 F2 F4 G0 G3 HA HB HC HD HE HF HG HH HI HK HL HM HN HO HP HQ HR HS HT HV HW HX HY HZ H0 H1 H2 H3 H4 H8 IN I0 I2 I3 I4 I5 I7 JA JI JR JW JX Ja Jb Jd Jx J0 J1 J2 J4 J5 J6 J7 J8 J9 KK Ka Kb Kc Ke Kf Kg Kh Ki Kj Kk Kl Kp Kq K1 K2 LT L2 MM Mv NC NW N0 N2 Os O2 O3 O4 O5 O6 O7 O8 O9 PA PC PD PE PF PG PH PI PJ PK PL PN PO PP PQ PR PS PT PU PV PW PY PZ Pa Pb Pc Pd Pe Pf Pg Ph Pj Pk Pl Pm Pn Po Pp Pq Pr Ps Pu Pv Pw Px Py Pz P0 P1 P2 P3 P5 P6 P7 P8 P9 QA QB QC QD QE QG QH QI:Value}(x9 RR c16 m q kC gC:Nat)(lst:List Cp)(c:Cp)(s0:Svc)(nw:Int)(a1 a3:Value)(w32:World)(HML:Hid (lst.length=q))(hm:m<=q)(hq2:q<200)(hwn:wrap64 (s0.next+1)=s0.next+1)(HWN:Hid (wrap64 (s0.next+1)=s0.next+1))
  (HX32:Hid (Bl w32 x9 #[.int .i64 nw,a1,.slice (ad gC) q kC,a3] 27)) (CB32:Hid (Bl w32 c16 (cpV c) 35)) (P32:Hid (Bl w32 RR (svV s0) 63)) (RC32:Hid (RowIs w32 35 7 gC q kC (Ag lst))) (hxv:x9≠RR) {K K3:Act->World->Prop} {Q1:Exit->Act->World->Prop}
  (hK:∀a w,Code.wp Try.prog (AR (AR (AR (AR (cIn (D7 (AR (cIn (cIn (AR (D7 (AR (AR (AR (AR (AR (AR (AR (AR (AR (AR (AR (AR (AR (AR (AR (AR (AR ((Try.f99.body.getD .skip)))))))))))))))))))))))))))))) (Exit.inBlock 7 (Exit.then K3 Q1)) a w->K a w)
  (hK3:∀(RS RT RU RV RW RX RY RZ Ra Rb Rc Rd Re Rf Rg Rh Ri Rj Rk:Value) (gN capN:Nat) (w42:World),w32.heap.size<=gN->Hid (RowIs w42 35 7 gN (q+1) capN (Ag (lst.take m++c::lst.drop m)))->Hid (Bl w42 x9 #[.int .i64 nw,a1,.slice (ad gN) (q+1) capN,a3] 27)->Hid (Bl w42 RR #[.string s0.name,.int .i64 s0.version,.bool s0.gone,.int .i64 s0.image,.int .i64 s0.want,.int .i64 s0.down,.int .i64 s0.over,.int .i64 (s0.next+1),.int .i64 s0.per,.int .i64 s0.least,.int .i64 s0.most,.int .i64 s0.load,.int .i64 s0.cool] 63)->(∀k,k<w32.heap.size->k≠x9->k≠RR->w42.heap[k]?=w32.heap[k]?)->Below 0 w32 w42->K3 {tmps:=#[u0,u1,u2,u3,u4,u5,u6,u7,u8,.pointer (ad x9),AA,A5,Bk,.pointer (ad RR),Ev,G2,.pointer (ad c16),.int .i64 m,H5,JN,J3,Kd,Kz,Op,PB,PM,PX,Pi,Pt,P4,QF,QJ,QK,QL,QM,QN,QO,QP,QQ,QR,QS,QT,QU,QV,QW,QX,QY,QZ,Qa,Qb,Qc,Qd,Qe,Qf,Qg,Qh,Qi,Qj,Qk,Ql,Qm,Qn,Qo,Qp,Qq,Qr,Qs,Qt,Qu,Qv,Qw,Qx,Qy,Qz,Q0,Q2,Q3,Q4,Q5,Q6,Q7,Q8,Q9,RA,RB,RC,RD,RE,RF,RG,RH,RI,RJ,RK,RL,RM,RN,RO,RP,RQ,AC,AE,AF,AG,AI,Ac,A1,A2,A3,A4,A6,A7,A8,A9,BF,BS,BV,BX,Bb,Bi,Bt,Bx,B0,B1,B2,B3,CB,CS,Ca,Cc,Cy,Cz,C1,D1,D2,D3,D4,ET,EW,En,E0,E1,E2,E3,E4,E5,E6,F2,F4,G0,G3,HA,HB,HC,HD,HE,HF,HG,HH,HI,HK,HL,HM,HN,HO,HP,HQ,HR,HS,HT,HV,HW,HX,HY,HZ,H0,H1,H2,H3,H4,H8,IN,I0,I2,I3,I4,I5,I7,JA,JI,JR,JW,JX,Ja,Jb,Jd,Jx,J0,J1,J2,J4,J5,J6,J7,J8,J9,KK,Ka,Kb,Kc,Ke,Kf,Kg,Kh,Ki,Kj,Kk,Kl,Kp,Kq,K1,K2,LT,L2,MM,Mv,NC,NW,N0,N2,Os,O2,O3,O4,O5,O6,O7,O8,O9,PA,PC,PD,PE,PF,PG,PH,PI,PJ,PK,PL,PN,PO,PP,PQ,PR,PS,PT,PU,PV,RS,RT,RU,RV,RW,RX,RY,RZ,Ra,Rb,Rc,Rd,Re,Rf,Rg,Rh,Ri,Rj,Rk,Pr,Ps,Pu,Pv,Pw,Px,Py,Pz,P0,P1,P2,P3,P5,P6,P7,P8,P9,QA,QB,QC,QD,QE,QG,QH,QI],defers:=[]} w42):
  Code.wp Try.prog (D7 (AR (AR (AR (cIn (D7 (AR (cIn (cIn (AR (D7 (AR (AR (AR (AR (AR (AR (AR (AR (AR (AR (AR (AR (AR (AR (AR (AR (AR ((Try.f99.body.getD .skip)))))))))))))))))))))))))))))) (Exit.then K (Exit.inBlock 7 (Exit.then K3 Q1))) {tmps:=#[u0,u1,u2,u3,u4,u5,u6,u7,u8,.pointer (ad x9),AA,A5,Bk,.pointer (ad RR),Ev,G2,.pointer (ad c16),.int .i64 m,H5,JN,J3,Kd,Kz,Op,PB,PM,PX,Pi,Pt,P4,QF,QJ,QK,QL,QM,QN,QO,QP,QQ,QR,QS,QT,QU,QV,QW,QX,QY,QZ,Qa,Qb,Qc,Qd,Qe,Qf,Qg,Qh,Qi,Qj,Qk,Ql,Qm,Qn,Qo,Qp,Qq,Qr,Qs,Qt,Qu,Qv,Qw,Qx,Qy,Qz,Q0,Q2,Q3,Q4,Q5,Q6,Q7,Q8,Q9,RA,RB,RC,RD,RE,RF,RG,RH,RI,RJ,RK,RL,RM,RN,RO,RP,RQ,AC,AE,AF,AG,AI,Ac,A1,A2,A3,A4,A6,A7,A8,A9,BF,BS,BV,BX,Bb,Bi,Bt,Bx,B0,B1,B2,B3,CB,CS,Ca,Cc,Cy,Cz,C1,D1,D2,D3,D4,ET,EW,En,E0,E1,E2,E3,E4,E5,E6,F2,F4,G0,G3,HA,HB,HC,HD,HE,HF,HG,HH,HI,HK,HL,HM,HN,HO,HP,HQ,HR,HS,HT,HV,HW,HX,HY,HZ,H0,H1,H2,H3,H4,H8,IN,I0,I2,I3,I4,I5,I7,JA,JI,JR,JW,JX,Ja,Jb,Jd,Jx,J0,J1,J2,J4,J5,J6,J7,J8,J9,KK,Ka,Kb,Kc,Ke,Kf,Kg,Kh,Ki,Kj,Kk,Kl,Kp,Kq,K1,K2,LT,L2,MM,Mv,NC,NW,N0,N2,Os,O2,O3,O4,O5,O6,O7,O8,O9,PA,PC,PD,PE,PF,PG,PH,PI,PJ,PK,PL,PN,PO,PP,PQ,PR,PS,PT,PU,PV,PW,PY,PZ,Pa,Pb,Pc,Pd,Pe,Pf,Pg,Ph,Pj,Pk,Pl,Pm,Pn,Po,Pp,Pq,Pr,Ps,Pu,Pv,Pw,Px,Py,Pz,P0,P1,P2,P3,P5,P6,P7,P8,P9,QA,QB,QC,QD,QE,QG,QH,QI],defers:=[]} w32:=by
 have HTL:Hid ((lst.take m).length=m):=by unfold Hid;rw[List.length_take,HML.out];exact Nat.min_eq_left hm
 obtain⟨mm,HMM⟩:∃z,Hid (q - m=z):=⟨_,rfl⟩;have HDL:Hid ((lst.drop m).length=mm):=by unfold Hid;rw[List.length_drop,HML.out];exact HMM.out
 have hm2:m+mm=q:=HMM.out▸Nat.add_sub_of_le hm;have hfa:=NR (AH hm (Nat.le_of_lt hq2));have hfb:=NQ (AH hm (Nat.le_of_lt hq2));have hfc:m+1<=maxLen:=NR (Nat.lt_of_le_of_lt hm hq2);have hfd:(m+1)*72<=140737488355328:=NQ (Nat.lt_of_le_of_lt hm hq2);have hfe:m+1+mm<=maxLen:=NR (fit_3 hm2 hq2);have hff:(m+1+mm)*72<=140737488355328:=NQ (fit_3 hm2 hq2);have hkc:=RC32.out.2.1;obtain⟨off,HOF⟩:∃z,Hid ((if kC=m then 0 else 0+m*7)=z):=⟨_,rfl⟩;have HOF2:Hid (off=m*7\/mm=0):=OM hm2 hkc HOF.out;have hK1:∀a w,Code.wp Try.prog (.region 49 _ _) (Exit.inBlock 7 (Exit.then K3 Q1)) a w->K a w:=hK;clear hK;show Code.wp Try.prog (.region 48 _ _) _ _ _;refine Cf 15 3 [[],[],[1],[],[2,3],[0,4],[],[6],[5,7],[],[9],[],[10,11],[8,12],[]] [8,13] [0,5,7,8,13] [13] (by kernel_rfl) (by kernel_rfl) (by kernel_rfl) ?_;refine CC (λvv W=>∃g,vv=.slice (ad g) 0 0/\w32.heap.size<=g/\Bl W g #[] 35) (λv W W2 ⟨g,h1,h2,h3⟩ hb=>⟨g,h1,h2,AL hb h3 (AB h3).1⟩) (by kernel_rfl) (by kernel_rfl) ?_ ?_
 ·intro V W K Zz hW hd hA hK
  simp only[pA]at hA;clear hd;obtain rfl:=hA;go_wp2;exact hK.out _ _ (AO W _) ⟨_,rfl,hW.size,heap_alloc_new W _⟩
 apply BE (by kernel_rfl)
 ·intro V W K Zz hW hd hA hK
  simp only[pA]at hA;clear hd;obtain rfl:=hA;go_wp2;exact hK.out _ brf
 apply BE (by kernel_rfl)
 ·intro V W K Zz hW hd hA hK
  have d1:V 1=_:=hd 1 (by kernel_rfl);simp only[pA]at hA;clear hd;generalize V 1=x1 at d1 hA;subst d1;obtain rfl:=hA;have x2:=AK (Ai hW HX32.out) 2 rfl;go_wp2;exact hK.out _ brf
 apply BE (by kernel_rfl)
 ·intro V W K Zz hW hd hA hK
  simp only[pA]at hA;clear hd;obtain rfl:=hA;go_wp2;exact hK.out _ brf
 apply BE (by kernel_rfl)
 ·intro V W K Zz hW hd hA hK
  have d2:V 2=_:=hd 2 (by kernel_rfl);have d3:V 3=_:=hd 3 (by kernel_rfl);simp only[pA]at hA;clear hd;generalize V 2=x2 at d2 hA;generalize V 3=x3 at d3 hA;subst d2;subst d3;obtain rfl:=hA;go_wp2;exact hK.out _ brf
 refine CC (λvv W=>∃g cap,vv=.slice (ad g) (m) cap/\w32.heap.size<=g/\RowIs W 35 7 g (m) cap (Ag (lst.take m))) (λv W W2 ⟨g,cap,h1,h2,h3⟩ hb=>⟨g,cap,h1,h2,h3.below hb h3.lt⟩) (by kernel_rfl) (by kernel_rfl) ?_ ?_
 ·intro V W K Zz hW hd hA hK
  have d0:(λvv W=>∃g,vv=.slice (ad g) 0 0/\w32.heap.size<=g/\Bl W g #[] 35) (V 0) W:=hd 0 (by kernel_rfl);have d4:V 4=_:=hd 4 (by kernel_rfl);simp only[pA]at hA;clear hd;generalize V 0=x0 at d0 hA;generalize V 4=x4 at d4 hA;subst d4;obtain rfl:=hA;obtain⟨g,rfl,hg,hgz⟩:=d0;have hsrc:m≠0->∃ad,some (⟨gC,0,none⟩:Addr)=some ad/\∀j u,(Ag (lst.take m))[j]?=some u->W.cell? (ad.add j)=some u:=λ_=>⟨_,rfl,(RC32.out.below hW RC32.out.lt).srcTakeR (c:=Cp.cells) (λ_=>rfl) m⟩
  refine BC rfl (.tmp 259) (.tmp 263) 24 rfl 35 _ 7 72 Try.underlying24 DI rfl g rfl hgz (ad gC) m _ (Ag (lst.take m)) rfl (by rw[Hq,HTL.out]) hsrc (Hp _) hfa hfb ?_;intro g' cap' w2 hg' hrow hb2;have hgg:w32.heap.size<=g':=hg'.elim (λe=>e▸hg) (λe=>e▸hW.size);go_wp2;exact hK.out _ _ hb2 ⟨g',cap',rfl,hgg,hrow.out⟩
 apply BE (by kernel_rfl)
 ·intro V W K Zz hW hd hA hK
  simp only[pA]at hA;clear hd;obtain rfl:=hA;refine wpList_load_row rfl 35 (.tmp 16) rfl c16 rfl 35 (cpV c) (0,0) _ (Ai hW CB32.out) Try.underlying35 rfl Hw ?_;go_wp2;exact hK.out _ brf
 refine CC (λvv W=>∃g,vv=.slice (ad g) 1 1/\w32.heap.size<=g/\Bl W g (cpV c) 35) (λv W W2 ⟨g,h1,h2,h3⟩ hb=>⟨g,h1,h2,AL hb h3 (AB h3).1⟩) (by kernel_rfl) (by kernel_rfl) ?_ ?_
 ·intro V W K Zz hW hd hA hK
  have d6:V 6=_:=hd 6 (by kernel_rfl);simp only[pA]at hA;clear hd;generalize V 6=x6 at d6 hA;subst d6;obtain rfl:=hA;refine Ix rfl (.tmp 265) rfl _ _ _ _ _ _ _ rfl ?_;intro w2 hz hb2;go_wp2;exact hK.out _ _ hb2 ⟨_,rfl,hW.size,hz.out⟩
 refine D9 (λvv W=>∃g cap,vv=.slice (ad g) (m+1) cap/\w32.heap.size<=g/\RowIs W 35 7 g (m+1) cap (Ag (lst.take m)++((cpV c):Array Value).toList)) (λv W W2 ⟨g,cap,h1,h2,h3⟩ hb=>⟨g,cap,h1,h2,h3.below hb h3.lt⟩) (by kernel_rfl) (by kernel_rfl) ?_ ?_
 ·intro V W K Zz hW hd hA hK
  have d5:(λvv W=>∃g cap,vv=.slice (ad g) (m) cap/\w32.heap.size<=g/\RowIs W 35 7 g (m) cap (Ag (lst.take m))) (V 5) W:=hd 5 (by kernel_rfl);have d7:(λvv W=>∃g,vv=.slice (ad g) 1 1/\w32.heap.size<=g/\Bl W g (cpV c) 35) (V 7) W:=hd 7 (by kernel_rfl);simp only[pA]at hA;clear hd;generalize V 5=x5 at d5 hA;generalize V 7=x7 at d7 hA;obtain rfl:=hA;obtain⟨gA,capA,rfl,hgA,hrA⟩:=d5;obtain⟨gb,rfl,hgb,hbz⟩:=d7;refine AV rfl (.tmp 264) (.tmp 266) 24 rfl 35 _ 7 72 Try.underlying24 DI rfl gA m capA _ rfl hrA ⟨gb,0,none⟩ 1 1 ((cpV c):Array Value).toList rfl rfl (BU hbz) (by simp[Value.oneCell']) hfc hfd ?_;intro g' cap' w2 hg' hrow hgr;have hgg:w32.heap.size<=g':=hg'.elim (λe=>e▸hgA) (λe=>e▸hW.size);have hbo:=Ab hgr hgA hW.size;clear hgr;go_wp2;exact hK.out _ _ hbo ⟨g',cap',rfl,hgg,hrow.out⟩
 apply BE (by kernel_rfl)
 ·intro V W K Zz hW hd hA hK
  simp only[pA]at hA;clear hd;obtain rfl:=hA;go_wp2;exact hK.out _ brf
 apply BE (by kernel_rfl)
 ·intro V W K Zz hW hd hA hK
  have d9:V 9=_:=hd 9 (by kernel_rfl);simp only[pA]at hA;clear hd;generalize V 9=x9 at d9 hA;subst d9;obtain rfl:=hA;have x2:=AK (Ai hW HX32.out) 2 rfl;go_wp2;exact hK.out _ brf
 apply BE (by kernel_rfl)
 ·intro V W K Zz hW hd hA hK
  simp only[pA]at hA;clear hd;obtain rfl:=hA;go_wp2;exact hK.out _ brf
 apply BE (by kernel_rfl)
 ·intro V W K Zz hW hd hA hK
  have d10:V 10=_:=hd 10 (by kernel_rfl);have d11:V 11=_:=hd 11 (by kernel_rfl);simp only[pA]at hA;clear hd;generalize V 10=x10 at d10 hA;generalize V 11=x11 at d11 hA;subst d10;subst d11;obtain rfl:=hA;refine FQ rfl 24 (.tmp 269) (some (.tmp 270)) none none rfl Ib 7 Io gC 0 q kC m q kC rfl (some (.int .i64 m)) none none rfl rfl rfl (λw=>run_slice_l w _ _ _ _ Ib .i64 m (Int.natCast_nonneg m) (Int.ofNat_le.2 hm)) ?_;rw[HMM.out,HOF.out];go_wp2;exact hK.out _ brf
 refine D9 (λvv W=>∃g cap,vv=.slice (ad g) (m+1+mm) cap/\w32.heap.size<=g/\RowIs W 35 7 g (m+1+mm) cap (Ag (lst.take m)++((cpV c):Array Value).toList++Ag (lst.drop m))) (λv W W2 ⟨g,cap,h1,h2,h3⟩ hb=>⟨g,cap,h1,h2,h3.below hb h3.lt⟩) (by kernel_rfl) (by kernel_rfl) ?_ ?_
 ·intro V W K Zz hW hd hA hK
  have d8:(λvv W=>∃g cap,vv=.slice (ad g) (m+1) cap/\w32.heap.size<=g/\RowIs W 35 7 g (m+1) cap (Ag (lst.take m)++((cpV c):Array Value).toList)) (V 8) W:=hd 8 (by kernel_rfl);have d12:V 12=_:=hd 12 (by kernel_rfl);simp only[pA]at hA;clear hd;generalize V 8=x8 at d8 hA;generalize V 12=x12 at d12 hA;subst d12;obtain rfl:=hA;obtain⟨gA,capA,rfl,hgA,hrA⟩:=d8;have hof:=HOF2.out
  have hsrc:∀j u,(Ag (lst.drop m))[j]?=some u->W.cell? ((⟨gC,off,none⟩:Addr).add j)=some u:=by
   rcases hof with ho|ho
   ·rw[ho];exact(RC32.out.below hW RC32.out.lt).srcDropR (c:=Cp.cells) (λ_=>rfl) m
   ·intro j u hu;rw[List.length_eq_zero_iff.1 (HDL.out.trans ho)]at hu;simp[Ag]at hu
  refine AV rfl (.tmp 267) (.tmp 271) 24 rfl 35 _ 7 72 Try.underlying24 DI rfl gA (m+1) capA _ rfl hrA ⟨gC,off,none⟩ mm _ (Ag (lst.drop m)) rfl (by rw[Hq,HDL.out]) hsrc (Hp _) hfe hff ?_;intro g' cap' w2 hg' hrow hgr;have hgg:w32.heap.size<=g':=hg'.elim (λe=>e▸hgA) (λe=>e▸hW.size);have hbo:=Ab hgr hgA hW.size;clear hgr;go_wp2;exact hK.out _ _ hbo ⟨g',cap',rfl,hgg,hrow.out⟩
 apply BE (by kernel_rfl)
 ·intro V W K Zz hW hd hA hK
  simp only[pA]at hA;clear hd;obtain rfl:=hA;go_wp2;exact hK.out _ brf
 intro V W Zz hW hS hA;have d1:V 1=_:=hS 1 (by omega) (.inr (by kernel_rfl));have d2:V 2=_:=hS 2 (by omega) (.inr (by kernel_rfl));have d3:V 3=_:=hS 3 (by omega) (.inr (by kernel_rfl));have d4:V 4=_:=hS 4 (by omega) (.inr (by kernel_rfl));have d6:V 6=_:=hS 6 (by omega) (.inr (by kernel_rfl));have d9:V 9=_:=hS 9 (by omega) (.inr (by kernel_rfl));have d10:V 10=_:=hS 10 (by omega) (.inr (by kernel_rfl));have d11:V 11=_:=hS 11 (by omega) (.inr (by kernel_rfl));have d12:V 12=_:=hS 12 (by omega) (.inr (by kernel_rfl));have d13:(λvv W=>∃g cap,vv=.slice (ad g) (m+1+mm) cap/\w32.heap.size<=g/\RowIs W 35 7 g (m+1+mm) cap (Ag (lst.take m)++((cpV c):Array Value).toList++Ag (lst.drop m))) (V 13) W:=hS 13 (by omega) (.inl (by kernel_rfl));have d14:V 14=_:=hS 14 (by omega) (.inr (by kernel_rfl));simp only[pA]at hA;clear hS;generalize V 1=x1 at d1 hA;generalize V 2=x2 at d2 hA;generalize V 3=x3 at d3 hA;generalize V 4=x4 at d4 hA;generalize V 6=x6 at d6 hA;generalize V 9=x9 at d9 hA;generalize V 10=x10 at d10 hA;generalize V 11=x11 at d11 hA;generalize V 12=x12 at d12 hA;generalize V 13=x13 at d13 hA;generalize V 14=x14 at d14 hA;subst d1;subst d2;subst d3;subst d4;subst d6;subst d9;subst d10;subst d11;subst d12;subst d14;obtain rfl:=hA;simp only[List.drop_succ_cons,List.drop_zero];obtain⟨gN,capN,rfl,hgN,hrN⟩:=d13;have hqq:m+1+mm=q+1:=fit_4 hm2;have HFIN:Hid (Ag (lst.take m)++((cpV c):Array Value).toList++Ag (lst.drop m)=Ag (lst.take m++c::lst.drop m)):=by unfold Hid;simp[Ag,Cp.cells]
 have RN40:Hid (RowIs W 35 7 gN (q+1) capN (Ag (lst.take m++c::lst.drop m))):=by unfold Hid;rw[<-HFIN.out,<-hqq];exact hrN
 have hx9:=(AB HX32.out).1;have hv13:=(AB P32.out).1;have HX40:Hid _:=Ai hW HX32.out;have P40:Hid _:=Ai hW P32.out;clear hrN HFIN;rw[hqq];clear hfa hfb hfc hfd hfe hff hkc RC32 CB32
 go_upto_region 49 with(refine AP rfl 24 (.tmp 273) (.tmp 272) rfl x9 2 (.slice (ad gN) (q+1) capN) rfl rfl Km rfl rfl 27 #[.int .i64 nw,a1,.slice (ad gC) q kC,a3] HX40.out (AD rfl) ?_;intro w41 hz on;have HX41:Hid (Bl w41 x9 #[.int .i64 nw,a1,.slice (ad gN) (q+1) capN,a3] 27):=hz;have P41:Hid _:=(on.other _ (λe=>hxv e.symm)).trans P40.out;have RN41:Hid (RowIs w41 35 7 gN (q+1) capN (Ag (lst.take m++c::lst.drop m))):=RN40.out.blk (on.other _ (by omega));have hF41:∀k,k<w32.heap.size->k≠x9->k≠RR->w41.heap[k]?=w32.heap[k]?:=(λk h1 h2 _=>(on.other k h2).trans (hW.block k h1));have hb41:Below 0 w32 w41:=(hW.mono (AJ _)).trans (on.below.mono (AJ _));clear hz on HX40 P40 RN40;have p7:=AK P41.out 7 rfl)
 try simp only[Act.put]
 clear hW
 go_wp2_with (refine AP rfl 3 (.tmp 277) (.tmp 276) rfl RR 7 (.int .i64 (wrap64 (s0.next+1))) rfl rfl Bm rfl rfl 63 (svV s0) P41.out (AD rfl) ?_;intro w42 hz on;have P42:Hid (Bl w42 RR #[.string s0.name,.int .i64 s0.version,.bool s0.gone,.int .i64 s0.image,.int .i64 s0.want,.int .i64 s0.down,.int .i64 s0.over,.int .i64 (s0.next+1),.int .i64 s0.per,.int .i64 s0.least,.int .i64 s0.most,.int .i64 s0.load,.int .i64 s0.cool] 63):=(by have h0:=hz.out;unfold Hid;rw[HWN.out]at h0;exact h0);have HX42:Hid _:=(on.other _ hxv).trans HX41.out;have RN42:Hid (RowIs w42 35 7 gN (q+1) capN (Ag (lst.take m++c::lst.drop m))):=RN41.out.blk (on.other _ (by omega));have hF42:∀k,k<w32.heap.size->k≠x9->k≠RR->w42.heap[k]?=w32.heap[k]?:=(λk h1 h2 h3=>(on.other k h3).trans (hF41 k h1 h2 h3));have hb42:Below 0 w32 w42:=hb41.trans (on.below.mono (AJ _));clear hz on HX41 P41 RN41 hF41 hb41)
 exact hK3 _ _ _ _ _ _ _ _ _ _ _ _ _ _ _ _ _ _ _ gN capN w42 hgN RN42 HX42 P42 hF42 hb42
theorem Mr{m:Nat}(h:m<200):wrap64 ((m:Int)+1)=(m:Int)+1:=IntWalk.wrap64_in _ (by omega)
theorem l4_place{u0 u1 u2 u3 u4 u5 u6 u7 u8 AA A3 Bb Cc Ev G2 IN JW J5 Kf K2 Os PC PN PY Pj Pu P5 QG QK QL QM QN QO QP QQ QR QS QT QU QV QW QX QY QZ Qa Qb Qc Qd Qe Qf Qg Qh Qi Qj Qk Ql Qm Qn Qo Qp Qq Qr Qs Qt Qu Qv Qw Qx Qy Qz Q0 Q1 Q2 Q3 Q4 Q5 Q6 Q7 Q8 Q9 RA RB RD RE RF RG RH RI RJ RK RL RM RN RO RP RQ RR AB AC AD AE AF AH AI Ac A1 A2 A4 A5 A6 A7 A8 A9 BF BS BV BX Bi Bk Bt Bx B0 B1 B2 B3 CS Ca Cy Cz C1 D1 D2 D3 D4 ET EW En E0 E1 E2 E3 E4 E5 E6 F2 F4 G0 G3 HB HC HD HE HF HG HH HI HK HL HM HN HO HP HQ HR HS HT HV HW HY HZ H0 H1 H2 H3 H4 H5 H8 I0 I2 I3 I4 I5 I7 JA JI JN JR JX Ja Jb Jd Jx J0 J1 J2 J3 J4 J6 J7 J8 J9 KK Ka Kb Kc Kd Ke Kg Kh Ki Kj Kk Kl Kp Kq Kz K1 K3 LT L2 MM Mv NC NW N0 N2 Op O2 O3 O4 O5 O6 O7 O8 O9 PA PB PD PE PF PG PH PI PJ PK PL PM PO PP PQ PR PS PT PU PV PW PX PZ Pa Pb Pc Pd Pe Pf Pg Ph Pi Pk Pl Pm Pn Po Pp Pq Pr Ps Pt Pv Pw Px Py Pz P0 P1 P2 P3 P4 P6 P7 P8 P9 QA QB QC QD QE QF QH QI QJ:Value}(x9 c16 q kC gC:Nat)(lst:List Cp)(c:Cp)(nw:Int)(a1 a3:Value)(w:World)(HML:Hid (lst.length=q))(hq2:q<200)
  (HX:Hid (Bl w x9 #[.int .i64 nw,a1,.slice (some ⟨gC,0,none⟩) q kC,a3] 27)) (CB:Hid (Bl w c16 (cpV c) 35)) (RC:Hid (RowIs w 35 7 gC q kC (Ag lst))) {K:Act->World->Prop} {Q:Exit->Act->World->Prop}
  (hE:∀(RS RT RU RV RW RX RY RZ Ra Rb Rc Rd Re Rf Rg Rh:Value) (m:Nat) (w':World),m<=q->Hid ((lst.takeWhile (λx=>Bg x c)).length=m)->Below w.heap.size w w'->K {tmps:=#[u0,u1,u2,u3,u4,u5,u6,u7,u8,.pointer (some ⟨x9,0,none⟩),AA,A3,Bb,Cc,Ev,G2,.pointer (some ⟨c16,0,none⟩),.int .i64 (m:Int),IN,JW,J5,Kf,K2,Os,PC,PN,PY,Pj,Pu,P5,QG,QK,QL,QM,QN,QO,QP,QQ,QR,QS,QT,QU,QV,QW,QX,QY,QZ,Qa,Qb,Qc,Qd,Qe,Qf,Qg,Qh,Qi,Qj,Qk,Ql,Qm,Qn,Qo,Qp,Qq,Qr,Qs,Qt,Qu,Qv,Qw,Qx,Qy,Qz,Q0,Q1,Q2,Q3,Q4,Q5,Q6,Q7,Q8,Q9,RA,RB,RD,RE,RF,RG,RH,RI,RJ,RK,RL,RM,RN,RO,RP,RQ,RR,AB,AC,AD,AE,AF,AH,AI,Ac,A1,A2,A4,A5,A6,A7,A8,A9,BF,BS,BV,BX,Bi,Bk,Bt,Bx,B0,B1,B2,B3,CS,Ca,Cy,Cz,C1,D1,D2,D3,D4,ET,EW,En,E0,E1,E2,E3,E4,E5,E6,F2,F4,G0,G3,HB,HC,HD,HE,HF,HG,HH,HI,HK,HL,HM,HN,HO,HP,HQ,HR,HS,HT,HV,HW,HY,HZ,H0,H1,H2,H3,H4,H5,H8,I0,I2,I3,I4,I5,I7,JA,JI,JN,JR,JX,Ja,Jb,Jd,Jx,J0,J1,J2,J3,J4,J6,J7,J8,J9,KK,Ka,Kb,Kc,Kd,Ke,Kg,Kh,Ki,Kj,Kk,Kl,Kp,Kq,Kz,K1,K3,LT,L2,MM,Mv,NC,NW,N0,N2,Op,O2,O3,O4,O5,O6,O7,O8,O9,PA,PB,PD,PE,PF,RS,RT,RU,RV,RW,RX,RY,RZ,Ra,Rb,Rc,Rd,Re,Rf,Rg,Rh,PX,PZ,Pa,Pb,Pc,Pd,Pe,Pf,Pg,Ph,Pi,Pk,Pl,Pm,Pn,Po,Pp,Pq,Pr,Ps,Pt,Pv,Pw,Px,Py,Pz,P0,P1,P2,P3,P4,P6,P7,P8,P9,QA,QB,QC,QD,QE,QF,QH,QI,QJ],defers:=[]} w'):
  Code.wp Try.prog (cIn (D7 (AR (AR (cIn (D7 (AR (cIn (cIn (AR (D7 (AR (AR (AR (AR (AR (AR (AR (AR (AR (AR (AR (AR (AR (AR (AR (AR (AR ((Try.f99.body.getD .skip)))))))))))))))))))))))))))))) (Exit.inBlock 8 (Exit.then K Q)) {tmps:=#[u0,u1,u2,u3,u4,u5,u6,u7,u8,.pointer (some ⟨x9,0,none⟩),AA,A3,Bb,Cc,Ev,G2,.pointer (some ⟨c16,0,none⟩),.int .i64 0,IN,JW,J5,Kf,K2,Os,PC,PN,PY,Pj,Pu,P5,QG,QK,QL,QM,QN,QO,QP,QQ,QR,QS,QT,QU,QV,QW,QX,QY,QZ,Qa,Qb,Qc,Qd,Qe,Qf,Qg,Qh,Qi,Qj,Qk,Ql,Qm,Qn,Qo,Qp,Qq,Qr,Qs,Qt,Qu,Qv,Qw,Qx,Qy,Qz,Q0,Q1,Q2,Q3,Q4,Q5,Q6,Q7,Q8,Q9,RA,RB,RD,RE,RF,RG,RH,RI,RJ,RK,RL,RM,RN,RO,RP,RQ,RR,AB,AC,AD,AE,AF,AH,AI,Ac,A1,A2,A4,A5,A6,A7,A8,A9,BF,BS,BV,BX,Bi,Bk,Bt,Bx,B0,B1,B2,B3,CS,Ca,Cy,Cz,C1,D1,D2,D3,D4,ET,EW,En,E0,E1,E2,E3,E4,E5,E6,F2,F4,G0,G3,HB,HC,HD,HE,HF,HG,HH,HI,HK,HL,HM,HN,HO,HP,HQ,HR,HS,HT,HV,HW,HY,HZ,H0,H1,H2,H3,H4,H5,H8,I0,I2,I3,I4,I5,I7,JA,JI,JN,JR,JX,Ja,Jb,Jd,Jx,J0,J1,J2,J3,J4,J6,J7,J8,J9,KK,Ka,Kb,Kc,Kd,Ke,Kg,Kh,Ki,Kj,Kk,Kl,Kp,Kq,Kz,K1,K3,LT,L2,MM,Mv,NC,NW,N0,N2,Op,O2,O3,O4,O5,O6,O7,O8,O9,PA,PB,PD,PE,PF,PG,PH,PI,PJ,PK,PL,PM,PO,PP,PQ,PR,PS,PT,PU,PV,PW,PX,PZ,Pa,Pb,Pc,Pd,Pe,Pf,Pg,Ph,Pi,Pk,Pl,Pm,Pn,Po,Pp,Pq,Pr,Ps,Pt,Pv,Pw,Px,Py,Pz,P0,P1,P2,P3,P4,P6,P7,P8,P9,QA,QB,QC,QD,QE,QF,QH,QI,QJ],defers:=[]} w:=by
 show Code.wp Try.prog (.loop _) _ _ _;dsimp only
 go_loopw [17] (λiv wq=>∃m:Nat,m<=q/\iv=.int .i64 m/\Below w.heap.size w wq/\Hid (∀(i:Nat) x,i<m->lst[i]?=some x->Bg x c=true)) (λi _=>q - (intOf i).toNat)
 case atStart=>exact⟨0,AJ _,rfl,Below.refl _ _,λi x hi=>absurd hi (Nat.not_lt_zero _)⟩
 case round=>
  obtain⟨m,hm,rfl,hbi,HAH⟩:=hrel;have HX1:Hid _:=Ai hbi HX.out;have CB1:Hid _:=Ai hbi CB.out;have R1:Hid (RowIs wr 35 7 gC q kC (Ag lst)):=RC.out.below hbi RC.out.lt;have x2:=Al HX1.out 2 rfl;have z0:=Al CB1.out 0 rfl;have z1:=Al CB1.out 1 rfl;have z2:=Al CB1.out 2 rfl;have z3:=Al CB1.out 3 rfl;have z4:=Al CB1.out 4 rfl;have z5:=Al CB1.out 5 rfl;have z6:=Al CB1.out 6 rfl;have hbj:∀w32,Below wr.heap.size wr w32->Below w.heap.size w w32:=λw32 h=>hbi.trans (h.mono hbi.size)
  by_cases hmq:m<q
  ·obtain⟨x,hx⟩:∃x,lst[m]?=some x:=⟨lst[m]'(by rw[HML.out];exact hmq),List.getElem?_eq_getElem _⟩
   have HX0:Hid (lst[m]?=some x):=hx;obtain⟨y0,y1,y2,y3,y4,y5,y6⟩:=(R1.out.cpAt hx).grown;clear hx;obtain⟨ah,HA⟩:∃z,Hid (Bg x c=z):=⟨_,rfl⟩
   have HAC:Hid (∀W:World,Calls Try.prog 33 #[.agg #[.string x.service,.int .i64 x.number,.int .i64 x.version,.int .i64 x.image,.int .i64 x.state,.bool x.ending,.string x.berth],.agg #[.string c.service,.int .i64 c.number,.int .i64 c.version,.int .i64 c.image,.int .i64 c.state,.bool c.ending,.string c.berth]] W λe w'=>e=.returned (.bool ah)/\Below W.heap.size W w'):=λW=>by
    have h:=EH x c W;rw[HA.out]at h;exact h
   clear HX1 CB1 R1;cases ah
   ·go_wp2
    refine wp_region_quiet_below (by kernel_rfl) (by kernel_rfl) ?_
    repeat (first|go_big_quiet_step (exact Calls.regrown_of (HAC.out _))|quiet_step (exact Calls.regrown_of (HAC.out _)))
    refine wpQuiet_nil ?_;intro w32 hw';obtain⟨⟨dq,osq⟩,hw''⟩:=hw';have hqe:Below wr.heap.size wr w32:=by rw[hw''];exact below_regrown _ _ _
    clear hw'' x2 z0 z1 z2 z3 z4 z5 z6;clear y0 y1 y2 y3 y4 y5 y6 HAC;have HTW:Hid ((lst.takeWhile (λx=>Bg x c)).length=m):=JE (by rw[HML.out];exact hm) HAH.out λx' hx'=>by rw[HX0.out]at hx';cases hx';exact HA.out
    go_wp2;exact hE _ _ _ _ _ _ _ _ _ _ _ _ _ _ _ _ m w32 hm HTW (hbj _ hqe)
   ·go_wp2
    refine wp_region_quiet_below (by kernel_rfl) (by kernel_rfl) ?_
    repeat (first|go_big_quiet_step (exact Calls.regrown_of (HAC.out _))|quiet_step (exact Calls.regrown_of (HAC.out _)))
    refine wpQuiet_nil ?_;intro w32 hw';obtain⟨⟨dq,osq⟩,hw''⟩:=hw';have hqe:Below wr.heap.size wr w32:=by rw[hw''];exact below_regrown _ _ _
    clear hw'' x2 z0 z1 z2 z3 z4 z5 z6;clear y0 y1 y2 y3 y4 y5 y6 HAC;have hwm:=Mr (Nat.lt_trans hmq hq2);have hbk:=hbj _ hqe;go_wp2
    go_roundw
    case rel=>exact⟨m+1,hmq,by go_num,hbk,λi x' hi hx'=>by
     rcases Nat.lt_or_ge i m with h|h
     ·exact HAH.out i x' h hx'
     ·rw[show i=m by omega,HX0.out]at hx'
      cases hx'
      exact HA.out⟩
    case measure=>simp[intOf];omega
  ·have hme:m=q:=Nat.le_antisymm hm (Nat.le_of_not_lt hmq)
   subst hme;clear hmq;go_wp2;refine wp_region_quiet_below (by kernel_rfl) (by kernel_rfl) ?_
   repeat (first|go_big_quiet_step (fail)|quiet_step (fail))
   refine wpQuiet_nil ?_;intro w32 hw';obtain⟨⟨dq,osq⟩,hw''⟩:=hw';have hqe:Below wr.heap.size wr w32:=by rw[hw''];exact below_regrown _ _ _
   clear hw'' x2 z0 z1 z2 z3 z4 z5 z6;have HTW:Hid ((lst.takeWhile (λx=>Bg x c)).length=m):=JE (by rw[HML.out];exact hm) HAH.out λx' hx'=>by rw[List.getElem?_eq_none (by rw[HML.out];exact AG _)]at hx';cases hx'
   go_wp2;exact hE _ _ _ _ _ _ _ _ _ _ _ _ _ _ _ _ m w32 hm HTW (hbj _ hqe)
end
end Go.Proofs.Ytbceafpodamnfaa
