import Derived.Test.YtbceafpodamnfaaGreatH39
set_option linter.all false
set_option maxHeartbeats 16000000
set_option maxRecDepth 100000
namespace Go.Proofs.YtbceafpodamnfaaGreat
open Go.RowKit Go.Sort
theorem wishN_at{l:List Svc}{x:Svc}(hasc:∀(i j:Nat) s t,i<j->l[i]?=some s->l[j]?=some t->Op.bytesLess s.name.toList t.name.toList=true):D6 l x=match Bn (λt:Svc=>t.name.toList==x.name.toList) l with|some p=>p.2.next|none=>1:=by
 cases h:Bn (λt:Svc=>t.name.toList==x.name.toList) l with
 |some p=>
  obtain⟨i,s⟩:=p;obtain⟨_,hi,hp⟩:=CA h;have hs:s.name=x.name:=same_nm.1 hp;refine If (k:=i) (Dp (Nat.le_of_lt (AC hi).1) (λj t hj ht=>?_) (λt ht=>?_)) hi hp
  ·have:=hasc j i t s hj ht hi
   rw[hs]at this;exact this
  ·rw[hi]at ht
   cases ht;show Op.bytesLess s.name.toList x.name.toList=false;rw[hs];exact B5 _
 |none=>
  show D6 l x=1;obtain⟨k,hk⟩:∃k,CE (λt=>Op.bytesLess (Bv t) (Bv x)) l=k:=⟨_,rfl⟩
  cases ht:l[k]? with
  |none=>exact Jl hk ht
  |some t=>
   refine Hq hk ht ?_;have:=Ec h t (AE ht);cases hq:(Bv t==Bv x)
   ·rfl
   ·exact absurd hq this
theorem put_any(B:Bk)(sv:Svc)(N A:Nat)(a1 a2 a3:Option Addr)(k1 k2 k3:Nat)(w:World)(hF:Fit B)(hnm:sv.name.size<=maxLen)(hN:N<=w.heap.size)(hV:BkVar w N A B a1 a2 a3 k1 k2 k3):
  Calls Tryz.prog 57 #[.agg #[.pointer (some ⟨A,0,none⟩),.string sv.name,.int .i64 sv.version,.bool sv.gone,.int .i64 sv.image,.int .i64 sv.want,.int .i64 sv.down,.int .i64 sv.over,.int .i64 sv.next,.int .i64 sv.per,.int .i64 sv.least,.int .i64 sv.most,.int .i64 sv.load,.int .i64 sv.cool]] w λe w'=>e=.returned (.int .i64 (CZ (CB B sv B.now,0)))/\(∃b1 b2 b3 d1 d2 d3,BkVar w' N A (CB B sv B.now) b1 b2 b3 d1 d2 d3)/\Below N w w':=by
 obtain⟨cd,HCD⟩:∃cd:Int,Hid ((if AX (CB B sv B.now)=true then 0 else 2)=cd):=⟨_,rfl⟩;rw[show CZ (CB B sv B.now,0)=cd from HCD.out];have HSM:Hid (CB B sv B.now).small:=⟨by have:=hF.l1;have:=Dl Bv B.svcs (FJ B.svcs sv B.now);show(BT Bv B.svcs (FJ B.svcs sv B.now)).length<=_;omega,by have:=hF.l2;show B.cps.length<=_;omega,by have:=hF.l3;show B.bts.length<=_;omega⟩
 have HSZ:Hid (CB B sv B.now).sized:=by
  obtain⟨z1,z2,z3,z4,z5,z6⟩:=hF.sized;refine⟨?_,z2,z3,λt ht=>?_,z5,z6⟩
  ·have:=hF.l1;have:=Dl Bv B.svcs (FJ B.svcs sv B.now);show(BT Bv B.svcs (FJ B.svcs sv B.now)).length<=_;unfold maxLen;omega
  ·rcases Fm ht with h|h
   ·rw[h];exact hnm
   ·exact z4 t h
 have hAl:=(AB hV.box).1;obtain⟨W0,hW0⟩:∃W,w.alloc (.cells #[.pointer (some ⟨A,0,none⟩),.string sv.name,.int .i64 sv.version,.bool sv.gone,.int .i64 sv.image,.int .i64 sv.want,.int .i64 sv.down,.int .i64 sv.over,.int .i64 sv.next,.int .i64 sv.per,.int .i64 sv.least,.int .i64 sv.most,.int .i64 sv.load,.int .i64 sv.cool] 92)=W:=⟨_,rfl⟩;have hb0:=AM w (.cells #[.pointer (some ⟨A,0,none⟩),.string sv.name,.int .i64 sv.version,.bool sv.gone,.int .i64 sv.image,.int .i64 sv.want,.int .i64 sv.down,.int .i64 sv.over,.int .i64 sv.next,.int .i64 sv.per,.int .i64 sv.least,.int .i64 sv.most,.int .i64 sv.load,.int .i64 sv.cool] 92);have E0:Hid (W0.heap[w.heap.size]?=some (.cells #[.pointer (some ⟨A,0,none⟩),.string sv.name,.int .i64 sv.version,.bool sv.gone,.int .i64 sv.image,.int .i64 sv.want,.int .i64 sv.down,.int .i64 sv.over,.int .i64 sv.next,.int .i64 sv.per,.int .i64 sv.least,.int .i64 sv.most,.int .i64 sv.load,.int .i64 sv.cool] 92 (0,0))):=by unfold Hid;rw[<-hW0];exact heap_alloc_new w (.cells #[.pointer (some ⟨A,0,none⟩),.string sv.name,.int .i64 sv.version,.bool sv.gone,.int .i64 sv.image,.int .i64 sv.want,.int .i64 sv.down,.int .i64 sv.over,.int .i64 sv.next,.int .i64 sv.per,.int .i64 sv.least,.int .i64 sv.most,.int .i64 sv.load,.int .i64 sv.cool] 92)
 rw[hW0]at hb0;have hz0:=(AB E0.out).1;have V0:=Ah (hV.below hb0);have A0:Hid _:=V0.out.box;have q1:=AJ E0.out 1 rfl;have q2:=AJ E0.out 2 rfl;have q3:=AJ E0.out 3 rfl;have q4:=AJ E0.out 4 rfl;have q5:=AJ E0.out 5 rfl;have q6:=AJ E0.out 6 rfl;have q7:=AJ E0.out 7 rfl;have q8:=AJ E0.out 8 rfl;have q9:=AJ E0.out 9 rfl;have q10:=AJ E0.out 10 rfl;have q11:=AJ E0.out 11 rfl;have q12:=AJ E0.out 12 rfl;have q13:=AJ E0.out 13 rfl;obtain⟨w1,hw1⟩:∃W,W0.alloc (.cells #[.string ⟨#[]⟩,.int .i64 0,.bool false,.int .i64 0,.int .i64 0,.int .i64 0,.int .i64 0,.int .i64 0,.int .i64 0,.int .i64 0,.int .i64 0,.int .i64 0,.int .i64 0] 29)=W:=⟨_,rfl⟩;have hb1:=AM W0 (.cells #[.string ⟨#[]⟩,.int .i64 0,.bool false,.int .i64 0,.int .i64 0,.int .i64 0,.int .i64 0,.int .i64 0,.int .i64 0,.int .i64 0,.int .i64 0,.int .i64 0,.int .i64 0] 29);obtain⟨sb,hsbe⟩:∃q,W0.heap.size=q:=⟨_,rfl⟩;have S1:Hid (w1.heap[sb]?=some (.cells #[.string ⟨#[]⟩,.int .i64 0,.bool false,.int .i64 0,.int .i64 0,.int .i64 0,.int .i64 0,.int .i64 0,.int .i64 0,.int .i64 0,.int .i64 0,.int .i64 0,.int .i64 0] 29 (0,0))):=by unfold Hid;rw[<-hw1,<-hsbe];exact heap_alloc_new W0 (.cells #[.string ⟨#[]⟩,.int .i64 0,.bool false,.int .i64 0,.int .i64 0,.int .i64 0,.int .i64 0,.int .i64 0,.int .i64 0,.int .i64 0,.int .i64 0,.int .i64 0,.int .i64 0] 29)
 rw[hw1]at hb1;have hsb:W0.heap.size<=sb:=by omega
 have hsb':sb<=W0.heap.size:=by omega
 have HS1:Hid (a1≠some ⟨sb,0,none⟩):=λe=>by
  rcases V0.out.rows.svcs with h|⟨g,h1,_,h3⟩
  ·rw[h.1]at e;cases e
  ·rw[h1]at e;cases e;have:=h3.lt;omega
 clear hV;go_enter Tryz.func57,Tryz.ntmps57
 go_upto_region 1 with fail
 clear hW0
 go_upto_region 2 with(first
  |(refine AL rfl 29 (.tmp 3) (.tmp 7) rfl sb 0 #[.string sv.name,.int .i64 sv.version,.bool sv.gone,.int .i64 sv.image,.int .i64 sv.want,.int .i64 sv.down,.int .i64 sv.over,.int .i64 sv.next,.int .i64 sv.per,.int .i64 sv.least,.int .i64 sv.most,.int .i64 sv.load,.int .i64 sv.cool] rfl rfl 29 #[.string ⟨#[]⟩,.int .i64 0,.bool false,.int .i64 0,.int .i64 0,.int .i64 0,.int .i64 0,.int .i64 0,.int .i64 0,.int .i64 0,.int .i64 0,.int .i64 0,.int .i64 0] S1.out Tryz.infosSvcI (AD rfl) (by simp[Value.oneCell']) ?_;intro w2 hz on;have S2:Hid (w2.heap[sb]?=some (.cells #[.string sv.name,.int .i64 sv.version,.bool sv.gone,.int .i64 sv.image,.int .i64 sv.want,.int .i64 sv.down,.int .i64 sv.over,.int .i64 sv.next,.int .i64 sv.per,.int .i64 sv.least,.int .i64 sv.most,.int .i64 sv.load,.int .i64 sv.cool] 29 (0,0))):=hz;have hb2:=hb1.trans (on.below.mono' hsb);clear hz on))
 clear hw1 hsbe q1 q2 q3 q4 q5 q6 q7 q8 q9 q10 q11 q12 q13;have q0:=AJ (AK hb2 E0.out hz0) 0 rfl;have e0:=AJ (AK hb2 A0.out (by omega)) 0 rfl
 go_upto_region 3 with(first
  |(refine Ai rfl 3 (.tmp 14) (.tmp 13) rfl sb 1 (.int .i64 B.now) rfl rfl Tryz.infosIntX rfl rfl 29 #[.string sv.name,.int .i64 sv.version,.bool sv.gone,.int .i64 sv.image,.int .i64 sv.want,.int .i64 sv.down,.int .i64 sv.over,.int .i64 sv.next,.int .i64 sv.per,.int .i64 sv.least,.int .i64 sv.most,.int .i64 sv.load,.int .i64 sv.cool] S2.out (AD rfl) ?_;intro w3 hz on;have S3:Hid (w3.heap[sb]?=some (.cells #[.string sv.name,.int .i64 B.now,.bool sv.gone,.int .i64 sv.image,.int .i64 sv.want,.int .i64 sv.down,.int .i64 sv.over,.int .i64 sv.next,.int .i64 sv.per,.int .i64 sv.least,.int .i64 sv.most,.int .i64 sv.load,.int .i64 sv.cool] 29 (0,0))):=hz;have hb3:=hb2.trans (on.below.mono' hsb);clear hz on)
  |(refine Ai rfl 3 (.tmp 15) (.const (.int .i64 1)) rfl sb 7 (.int .i64 1) rfl rfl Tryz.infosIntX rfl rfl 29 #[.string sv.name,.int .i64 B.now,.bool sv.gone,.int .i64 sv.image,.int .i64 sv.want,.int .i64 sv.down,.int .i64 sv.over,.int .i64 sv.next,.int .i64 sv.per,.int .i64 sv.least,.int .i64 sv.most,.int .i64 sv.load,.int .i64 sv.cool] S3.out (AD rfl) ?_;intro w4 hz on;have S4:Hid (w4.heap[sb]?=some (.cells #[.string sv.name,.int .i64 B.now,.bool sv.gone,.int .i64 sv.image,.int .i64 sv.want,.int .i64 sv.down,.int .i64 sv.over,.int .i64 1,.int .i64 sv.per,.int .i64 sv.least,.int .i64 sv.most,.int .i64 sv.load,.int .i64 sv.cool] 29 (0,0))):=hz;have hb4:=hb3.trans (on.below.mono' hsb);clear hz on)
  |(refine Ai rfl 3 (.tmp 16) (.const (.int .i64 0)) rfl sb 12 (.int .i64 0) rfl rfl Tryz.infosIntX rfl rfl 29 #[.string sv.name,.int .i64 B.now,.bool sv.gone,.int .i64 sv.image,.int .i64 sv.want,.int .i64 sv.down,.int .i64 sv.over,.int .i64 1,.int .i64 sv.per,.int .i64 sv.least,.int .i64 sv.most,.int .i64 sv.load,.int .i64 sv.cool] S4.out (AD rfl) ?_;intro w5 hz on;have S5:Hid (w5.heap[sb]?=some (.cells #[.string sv.name,.int .i64 B.now,.bool sv.gone,.int .i64 sv.image,.int .i64 sv.want,.int .i64 sv.down,.int .i64 sv.over,.int .i64 1,.int .i64 sv.per,.int .i64 sv.least,.int .i64 sv.most,.int .i64 sv.load,.int .i64 0] 29 (0,0))):=hz;have hb5:=hb4.trans (on.below.mono' hsb);clear hz on))
 clear q0 e0 S1 S2 S3 S4 hb1 hb2 hb3 hb4;have E5:Hid (w5.heap[w.heap.size]?=some (.cells #[.pointer (some ⟨A,0,none⟩),.string sv.name,.int .i64 sv.version,.bool sv.gone,.int .i64 sv.image,.int .i64 sv.want,.int .i64 sv.down,.int .i64 sv.over,.int .i64 sv.next,.int .i64 sv.per,.int .i64 sv.least,.int .i64 sv.most,.int .i64 sv.load,.int .i64 sv.cool] 92 (0,0))):=AK hb5 E0.out hz0;have V5:=Ah (V0.out.below hb5);have A5:Hid _:=V5.out.box;have q0:=AJ E5.out 0 rfl;have s0:=AJ S5.out 0 rfl;have hz5:=(AB S5.out).1
 go_wp2_with fail
 refine(KL B sv.name A a1 a2 a3 k1 k2 k3 w5 hF.small hF.sized hF.uS hF.uB hnm A5.out V5.out.rows.at).mono ?_;rintro e w6 ⟨rfl,hbq⟩;have V6:=Ah (V5.out.below hbq);have E6:Hid (w6.heap[w.heap.size]?=some (.cells #[.pointer (some ⟨A,0,none⟩),.string sv.name,.int .i64 sv.version,.bool sv.gone,.int .i64 sv.image,.int .i64 sv.want,.int .i64 sv.down,.int .i64 sv.over,.int .i64 sv.next,.int .i64 sv.per,.int .i64 sv.least,.int .i64 sv.most,.int .i64 sv.load,.int .i64 sv.cool] 92 (0,0))):=AK hbq E5.out (AB E5.out).1;have S6:Hid (w6.heap[sb]?=some (.cells #[.string sv.name,.int .i64 B.now,.bool sv.gone,.int .i64 sv.image,.int .i64 sv.want,.int .i64 sv.down,.int .i64 sv.over,.int .i64 1,.int .i64 sv.per,.int .i64 sv.least,.int .i64 sv.most,.int .i64 sv.load,.int .i64 0] 29 (0,0))):=AK hbq S5.out hz5;have hb6:=hb5.trans (hbq.mono' (by have:=hb5.size;omega));clear q0 s0 hbq V5 E5 S5 A5 hb5 hz5;have HNA:=wishN_at (l:=B.svcs) (x:=sv) hF.ascS
 cases hat:Bn (λt:Svc=>t.name.toList==sv.name.toList) B.svcs with
 |none=>
  have HNX:Hid (D6 B.svcs sv=1):=by unfold Hid;rw[HNA,hat]
  clear hat HNA;have HX:Hid (FJ B.svcs sv B.now={sv with version:=B.now,next:=1,cool:=0}):=by unfold Hid FJ;rw[HNX.out]
  obtain⟨wn,hwn⟩:∃q,w6=q:=⟨_,rfl⟩;rw[hwn]at E6 V6 S6 hb6 ⊢;clear hwn;have EN:=E6;have VN:=V6;have SNX:=S6;have hbn:=hb6;have AN:Hid (wn.heap[A]?=some (.cells #[.int .i64 B.now,.slice a1 B.svcs.length k1,.slice a2 B.cps.length k2,.slice a3 B.bts.length k3] 27 (0,0))):=VN.out.box;clear E6 V6 S6 hb6;have hzE:=(AB EN.out).1;have hzS:=(AB SNX.out).1;have hAN:=(AB AN.out).1;have hNn:N<=wn.heap.size:=by omega
  have HE1:Hid (a1≠some ⟨w.heap.size,0,none⟩):=VN.out.rows.svcs.ne EN.out (by decide);have HA1:Hid (a1≠some ⟨A,0,none⟩):=VN.out.rows.svcs.ne AN.out (by decide)
  go_upto_region 6 with fail
  refine Br 13 3 [[],[0],[1],[],[3],[4],[5],[6],[7],[],[8,9],[2],[11]] [10] [10] [10] [10] [] (λW=>RowOnly a1 N wn W) (λW=>RowN W N 29 13 a1 B.svcs.length k1 (AY B.svcs)) (λ_ _ _=>True) (λW h=>RowOnly.of h (by omega)) (λW h=>VN.out.rows.svcs.below h) (λW W2 h hb=>h.grow hb (by omega)) (λW W2 _ h hb=>h.below hb) (by kernel_rfl) (by kernel_rfl) (by kernel_rfl) ?_;apply AS (by kernel_rfl)
  ·intro V W K A hI hJ hd hA hK
   clear hJ;simp only[pA]at hA;clear hd;obtain rfl:=hA;go_wp2;exact hK.out _ brf
  apply AS (by kernel_rfl)
  ·intro V W K A hI hJ hd hA hK
   clear hJ;have d0:V 0=_:=hd 0 (by kernel_rfl);simp only[pA]at hA;clear hd;generalize V 0=x0 at d0 hA;subst d0;obtain rfl:=hA;go_wp2;exact hK.out _ brf
  apply AS (by kernel_rfl)
  ·intro V W K A hI hJ hd hA hK
   clear hJ;have d1:V 1=_:=hd 1 (by kernel_rfl);simp only[pA]at hA;clear hd;generalize V 1=x1 at d1 hA;subst d1;obtain rfl:=hA;have q0:=AJ ((hI.block w.heap.size hzE HE1.out).trans EN.out) 0 rfl;go_wp2;exact hK.out _ brf
  apply AS (by kernel_rfl)
  ·intro V W K A hI hJ hd hA hK
   clear hJ;simp only[pA]at hA;clear hd;obtain rfl:=hA;go_wp2;exact hK.out _ brf
  apply AS (by kernel_rfl)
  ·intro V W K A hI hJ hd hA hK
   clear hJ;have d3:V 3=_:=hd 3 (by kernel_rfl);simp only[pA]at hA;clear hd;generalize V 3=x3 at d3 hA;subst d3;obtain rfl:=hA;go_wp2;exact hK.out _ brf
  apply AS (by kernel_rfl)
  ·intro V W K A hI hJ hd hA hK
   clear hJ;have d4:V 4=_:=hd 4 (by kernel_rfl);simp only[pA]at hA;clear hd;generalize V 4=x4 at d4 hA;subst d4;obtain rfl:=hA;have q0:=AJ ((hI.block w.heap.size hzE HE1.out).trans EN.out) 0 rfl;go_wp2;exact hK.out _ brf
  apply AS (by kernel_rfl)
  ·intro V W K A hI hJ hd hA hK
   clear hJ;have d5:V 5=_:=hd 5 (by kernel_rfl);simp only[pA]at hA;clear hd;generalize V 5=x5 at d5 hA;subst d5;obtain rfl:=hA;go_wp2;exact hK.out _ brf
  apply AS (by kernel_rfl)
  ·intro V W K A hI hJ hd hA hK
   clear hJ;have d6:V 6=_:=hd 6 (by kernel_rfl);simp only[pA]at hA;clear hd;generalize V 6=x6 at d6 hA;subst d6;obtain rfl:=hA;go_wp2;exact hK.out _ brf
  apply AS (by kernel_rfl)
  ·intro V W K A hI hJ hd hA hK
   clear hJ;have d7:V 7=_:=hd 7 (by kernel_rfl);simp only[pA]at hA;clear hd;generalize V 7=x7 at d7 hA;subst d7;obtain rfl:=hA;have e1:=AJ ((hI.block A hAN HA1.out).trans AN.out) 1 rfl;go_wp2;exact hK.out _ brf
  apply AS (by kernel_rfl)
  ·intro V W K A hI hJ hd hA hK
   clear hJ;simp only[pA]at hA;clear hd;obtain rfl:=hA;refine wpList_load_row rfl 29 (.tmp 3) rfl sb rfl 29 #[.string sv.name,.int .i64 B.now,.bool sv.gone,.int .i64 sv.image,.int .i64 sv.want,.int .i64 sv.down,.int .i64 sv.over,.int .i64 1,.int .i64 sv.per,.int .i64 sv.least,.int .i64 sv.most,.int .i64 sv.load,.int .i64 0] (0,0) _ ((hI.block sb hzS HS1.out).trans SNX.out) Tryz.underlying29 rfl Tryz.infosSvcI ?_;go_wp2;exact hK.out _ brf
  refine Ds (λ(_:Nat->Value) vv W=>∃bo n' kk,vv=.slice bo n' kk/\n'=(BT Bv B.svcs {sv with version:=B.now,next:=1,cool:=0}).length/\RowN W N 29 13 bo n' kk (AY (BT Bv B.svcs {sv with version:=B.now,next:=1,cool:=0}))) (λ_ v W W2 ⟨bo,n2,kk,h1,h2,h3⟩ hb=>⟨bo,n2,kk,h1,h2,h3.below hb⟩) (λ_ _ _ _ _ h=>h) (by kernel_rfl) (by kernel_rfl) ?_ ?_
  ·intro V W K A hI hJ hd hA hK
   have hJ:=hJ (by kernel_rfl);have d8:V 8=_:=hd 8 (by kernel_rfl);have d9:V 9=_:=hd 9 (by kernel_rfl);simp only[pA]at hA;clear hd;generalize hV0:V 0=x0 at hA hK;generalize hV1:V 1=x1 at hA hK;generalize hV2:V 2=x2 at hA hK;generalize hV3:V 3=x3 at hA hK;generalize hV4:V 4=x4 at hA hK;generalize hV5:V 5=x5 at hA hK;generalize hV6:V 6=x6 at hA hK;generalize hV7:V 7=x7 at hA hK;generalize hV8:V 8=x8 at d8 hA hK;generalize hV9:V 9=x9 at d9 hA hK;generalize hV10:V 10=x10 at hA hK;generalize hV11:V 11=x11 at hA hK;generalize hV12:V 12=x12 at hA hK;subst d8;subst d9;obtain rfl:=hA;have HI:Hid (RowOnly a1 N wn W):=hI;have HJ:=Ay hJ;have hsz:=hI.size;clear hI hJ hV0 hV1 hV2 hV3 hV4 hV5 hV6 hV7 hV8 hV9 hV10 hV11 hV12
   go_wp2_with fail
   refine(I1 B.svcs {sv with version:=B.now,next:=1,cool:=0} a1 B.svcs.length k1 N W rfl (by have:=hF.l1;omega) hF.ascS (by omega) HJ.out).mono ?_;rintro e w2 ⟨bo,n2,kk,rfl,hn2,hr2,hkp,hbq⟩;have HR2:=Ay hr2;have HN2:Hid _:=hn2;have HKP:Hid _:=hkp;clear hr2 hn2 hkp;go_wp2;exact hK.out _ _ trivial ⟨λq hq hne=>(HKP.out q (by omega) hne).trans (HI.out.block q hq hne),AH hsz hbq.size,HI.out.below.trans hbq⟩ ⟨bo,n2,kk,rfl,HN2.out,HR2.out⟩
  apply AS (by kernel_rfl)
  ·intro V W K A hI hJ hd hA hK
   clear hJ;have d2:V 2=_:=hd 2 (by kernel_rfl);simp only[pA]at hA;clear hd;generalize V 2=x2 at d2 hA;subst d2;obtain rfl:=hA;go_wp2;exact hK.out _ brf
  apply AS (by kernel_rfl)
  ·intro V W K A hI hJ hd hA hK
   clear hJ;have d11:V 11=_:=hd 11 (by kernel_rfl);simp only[pA]at hA;clear hd;generalize V 11=x11 at d11 hA;subst d11;obtain rfl:=hA;go_wp2;exact hK.out _ brf
  refine⟨λi j hk V v W W' hr hq=>?_,?_⟩
  ·simp at hk
  intro V W A hI hS hA;have d0:V 0=_:=hS 0 (by omega) (.inr (by kernel_rfl));have d1:V 1=_:=hS 1 (by omega) (.inr (by kernel_rfl));have d2:V 2=_:=hS 2 (by omega) (.inr (by kernel_rfl));have d3:V 3=_:=hS 3 (by omega) (.inr (by kernel_rfl));have d4:V 4=_:=hS 4 (by omega) (.inr (by kernel_rfl));have d5:V 5=_:=hS 5 (by omega) (.inr (by kernel_rfl));have d6:V 6=_:=hS 6 (by omega) (.inr (by kernel_rfl));have d7:V 7=_:=hS 7 (by omega) (.inr (by kernel_rfl));have d8:V 8=_:=hS 8 (by omega) (.inr (by kernel_rfl));have d9:V 9=_:=hS 9 (by omega) (.inr (by kernel_rfl));have d10:(λ(_:Nat->Value) vv W=>∃bo n' kk,vv=.slice bo n' kk/\n'=(BT Bv B.svcs {sv with version:=B.now,next:=1,cool:=0}).length/\RowN W N 29 13 bo n' kk (AY (BT Bv B.svcs {sv with version:=B.now,next:=1,cool:=0}))) V (V 10) W:=hS 10 (by omega) (.inl (by kernel_rfl));have d11:V 11=_:=hS 11 (by omega) (.inr (by kernel_rfl));have d12:V 12=_:=hS 12 (by omega) (.inr (by kernel_rfl));simp only[pA]at hA;dsimp only at d10;clear hS;generalize V 0=x0 at d0 hA;generalize V 1=x1 at d1 hA;generalize V 2=x2 at d2 hA;generalize V 3=x3 at d3 hA;generalize V 4=x4 at d4 hA;generalize V 5=x5 at d5 hA;generalize V 6=x6 at d6 hA;generalize V 7=x7 at d7 hA;generalize V 8=x8 at d8 hA;generalize V 9=x9 at d9 hA;generalize V 10=x10 at d10 hA;generalize V 11=x11 at d11 hA;generalize V 12=x12 at d12 hA;subst d0;subst d1;subst d2;subst d3;subst d4;subst d5;subst d6;subst d7;subst d8;subst d9;subst d11;subst d12;obtain rfl:=hA;simp only[List.drop_succ_cons,List.drop_zero]
  obtain⟨bo,n',kk,rfl,hn',hr⟩:=d10;have HN':Hid _:=hn';have HRB:=Ay hr;have HI:Hid (RowOnly a1 N wn W):=hI;have AW:Hid (W.heap[A]?=some (.cells #[.int .i64 B.now,.slice a1 B.svcs.length k1,.slice a2 B.cps.length k2,.slice a3 B.bts.length k3] 27 (0,0))):=(hI.block A hAN HA1.out).trans AN.out;have EW:Hid (W.heap[w.heap.size]?=some (.cells #[.pointer (some ⟨A,0,none⟩),.string sv.name,.int .i64 sv.version,.bool sv.gone,.int .i64 sv.image,.int .i64 sv.want,.int .i64 sv.down,.int .i64 sv.over,.int .i64 sv.next,.int .i64 sv.per,.int .i64 sv.least,.int .i64 sv.most,.int .i64 sv.load,.int .i64 sv.cool] 92 (0,0))):=(hI.block w.heap.size hzE HE1.out).trans EN.out;have hsW:=hI.size;clear hn' hr hI
  go_upto_region 7 with(refine Ai rfl 23 (.tmp 49) (.tmp 47) rfl A 1 (.slice bo n' kk) rfl rfl Tryz.infosSvcsI rfl rfl 27 #[.int .i64 B.now,.slice a1 B.svcs.length k1,.slice a2 B.cps.length k2,.slice a3 B.bts.length k3] AW.out (AD rfl) ?_;intro wa hz on;have A2:Hid (wa.heap[A]?=some (.cells #[.int .i64 B.now,.slice bo n' kk,.slice a2 B.cps.length k2,.slice a3 B.bts.length k3] 27 (0,0))):=hz;have HON:Hid (BA A W wa):=on;clear hz on)
  have hAn:A≠w.heap.size:=by omega
  have E2:Hid (wa.heap[w.heap.size]?=some (.cells #[.pointer (some ⟨A,0,none⟩),.string sv.name,.int .i64 sv.version,.bool sv.gone,.int .i64 sv.image,.int .i64 sv.want,.int .i64 sv.down,.int .i64 sv.over,.int .i64 sv.next,.int .i64 sv.per,.int .i64 sv.least,.int .i64 sv.most,.int .i64 sv.load,.int .i64 sv.cool] 92 (0,0))):=(HON.out.other _ (Ne.symm hAn)).trans EW.out
  have HV2:Hid (BkVar wa N A (CB B sv B.now) bo a2 a3 kk k2 k3):=by
   have hB:=VN.out.rows;have hnl:n'=(CB B sv B.now).svcs.length:=by show n'=(BT Bv B.svcs (FJ B.svcs sv B.now)).length;rw[HX.out];exact HN'.out
   refine⟨VN.out.lo,?_,?_,?_,?_⟩
   ·have h:=A2.out;rw[hnl]at h;exact h
   ·have h:=HRB.out.only HON.out AW.out (by decide);rw[<-HX.out]at h;rw[hnl]at h;exact h
   ·exact(hB.cps.rowOnly HI.out hB.svcs (by decide)).only HON.out AW.out (by decide)
   ·exact(hB.bts.rowOnly HI.out hB.svcs (by decide)).only HON.out AW.out (by decide)
  have hb9:Below N w wa:=(hb0.mono' hN).trans ((hbn.mono' (by omega)).trans (HI.out.below.trans (HON.out.below.mono' VN.out.lo)));have q0:=AJ E2.out 0 rfl;clear A2 AW EW HI HRB HN' VN AN EN HE1 HA1 HON SNX HS1 hbn
  go_wp2_with fail
  refine(Dd (CB B sv B.now) A bo a2 a3 kk k2 k3 wa HSM.out HSZ.out HV2.out.box HV2.out.rows.at).mono ?_;rintro e wb ⟨rfl,hbq⟩;have HV3:=Ah (HV2.out.below hbq);have hb10:Below N w wb:=hb9.trans (hbq.mono' (by have:=hb9.size;omega));clear q0 E2 HV2 hb9 hbq;rw[show(if AX (CB B sv B.now)=true then(0:Int) else 2)=cd from HCD.out];go_wp2;go_ret;exact⟨rfl,⟨_,_,_,_,_,_,HV3.out⟩,hb10⟩
 |some p=>
  obtain⟨i,s⟩:=p;obtain⟨_,hic,_⟩:=CA hat;have HNX:Hid (D6 B.svcs sv=s.next):=by unfold Hid;rw[HNA,hat]
  have hin:i<B.svcs.length:=(AC hic).1;have hll:=hF.l1;have A6:Hid _:=V6.out.box;have q0:=AJ E6.out 0 rfl;have e1:=AJ A6.out 1 rfl;obtain⟨g,ea,hNg,hr⟩:=V6.out.rows.svcs.some (by omega);have hcap:=hr.2.1;have y7:=hr.cell (AT (c:=Svc.cells) (n:=13) (λ_=>rfl) B.svcs i s 7 (.int .i64 s.next) hic rfl);have hfst:fstI (some (i,s))=(i:Int):=rfl;rw[hfst];rw[ea]at e1;clear hfst hr hic hat HNA
  go_upto_region 6 with(first
   |(refine Ai rfl 3 (.tmp 36) (.tmp 35) rfl sb 7 (.int .i64 s.next) rfl rfl Tryz.infosIntX rfl rfl 29 #[.string sv.name,.int .i64 B.now,.bool sv.gone,.int .i64 sv.image,.int .i64 sv.want,.int .i64 sv.down,.int .i64 sv.over,.int .i64 1,.int .i64 sv.per,.int .i64 sv.least,.int .i64 sv.most,.int .i64 sv.load,.int .i64 0] S6.out (AD rfl) ?_;intro w7 hz on;have S7:Hid (w7.heap[sb]?=some (.cells #[.string sv.name,.int .i64 B.now,.bool sv.gone,.int .i64 sv.image,.int .i64 sv.want,.int .i64 sv.down,.int .i64 sv.over,.int .i64 s.next,.int .i64 sv.per,.int .i64 sv.least,.int .i64 sv.most,.int .i64 sv.load,.int .i64 0] 29 (0,0))):=hz;have hb7:=hb6.trans (on.below.mono' hsb);clear hz on))
  clear q0 e1 y7 ea hcap hNg;have E7:Hid (w7.heap[w.heap.size]?=some (.cells #[.pointer (some ⟨A,0,none⟩),.string sv.name,.int .i64 sv.version,.bool sv.gone,.int .i64 sv.image,.int .i64 sv.want,.int .i64 sv.down,.int .i64 sv.over,.int .i64 sv.next,.int .i64 sv.per,.int .i64 sv.least,.int .i64 sv.most,.int .i64 sv.load,.int .i64 sv.cool] 92 (0,0))):=AK hb7 E0.out hz0;have V7:=Ah (V0.out.below hb7);clear V6 E6 S6 hb6 A6;have HX:Hid (FJ B.svcs sv B.now={sv with version:=B.now,next:=s.next,cool:=0}):=by unfold Hid FJ;rw[HNX.out]
  obtain⟨wn,hwn⟩:∃q,w7=q:=⟨_,rfl⟩;rw[hwn]at E7 V7 S7 hb7 ⊢;clear hwn;have EN:=E7;have VN:=V7;have SNX:=S7;have hbn:=hb7;have AN:Hid (wn.heap[A]?=some (.cells #[.int .i64 B.now,.slice a1 B.svcs.length k1,.slice a2 B.cps.length k2,.slice a3 B.bts.length k3] 27 (0,0))):=VN.out.box;clear E7 V7 S7 hb7;have hzE:=(AB EN.out).1;have hzS:=(AB SNX.out).1;have hAN:=(AB AN.out).1;have hNn:N<=wn.heap.size:=by omega
  have HE1:Hid (a1≠some ⟨w.heap.size,0,none⟩):=VN.out.rows.svcs.ne EN.out (by decide);have HA1:Hid (a1≠some ⟨A,0,none⟩):=VN.out.rows.svcs.ne AN.out (by decide)
  skip
  refine Br 13 3 [[],[0],[1],[],[3],[4],[5],[6],[7],[],[8,9],[2],[11]] [10] [10] [10] [10] [] (λW=>RowOnly a1 N wn W) (λW=>RowN W N 29 13 a1 B.svcs.length k1 (AY B.svcs)) (λ_ _ _=>True) (λW h=>RowOnly.of h (by omega)) (λW h=>VN.out.rows.svcs.below h) (λW W2 h hb=>h.grow hb (by omega)) (λW W2 _ h hb=>h.below hb) (by kernel_rfl) (by kernel_rfl) (by kernel_rfl) ?_;apply AS (by kernel_rfl)
  ·intro V W K A hI hJ hd hA hK
   clear hJ;simp only[pA]at hA;clear hd;obtain rfl:=hA;go_wp2;exact hK.out _ brf
  apply AS (by kernel_rfl)
  ·intro V W K A hI hJ hd hA hK
   clear hJ;have d0:V 0=_:=hd 0 (by kernel_rfl);simp only[pA]at hA;clear hd;generalize V 0=x0 at d0 hA;subst d0;obtain rfl:=hA;go_wp2;exact hK.out _ brf
  apply AS (by kernel_rfl)
  ·intro V W K A hI hJ hd hA hK
   clear hJ;have d1:V 1=_:=hd 1 (by kernel_rfl);simp only[pA]at hA;clear hd;generalize V 1=x1 at d1 hA;subst d1;obtain rfl:=hA;have q0:=AJ ((hI.block w.heap.size hzE HE1.out).trans EN.out) 0 rfl;go_wp2;exact hK.out _ brf
  apply AS (by kernel_rfl)
  ·intro V W K A hI hJ hd hA hK
   clear hJ;simp only[pA]at hA;clear hd;obtain rfl:=hA;go_wp2;exact hK.out _ brf
  apply AS (by kernel_rfl)
  ·intro V W K A hI hJ hd hA hK
   clear hJ;have d3:V 3=_:=hd 3 (by kernel_rfl);simp only[pA]at hA;clear hd;generalize V 3=x3 at d3 hA;subst d3;obtain rfl:=hA;go_wp2;exact hK.out _ brf
  apply AS (by kernel_rfl)
  ·intro V W K A hI hJ hd hA hK
   clear hJ;have d4:V 4=_:=hd 4 (by kernel_rfl);simp only[pA]at hA;clear hd;generalize V 4=x4 at d4 hA;subst d4;obtain rfl:=hA;have q0:=AJ ((hI.block w.heap.size hzE HE1.out).trans EN.out) 0 rfl;go_wp2;exact hK.out _ brf
  apply AS (by kernel_rfl)
  ·intro V W K A hI hJ hd hA hK
   clear hJ;have d5:V 5=_:=hd 5 (by kernel_rfl);simp only[pA]at hA;clear hd;generalize V 5=x5 at d5 hA;subst d5;obtain rfl:=hA;go_wp2;exact hK.out _ brf
  apply AS (by kernel_rfl)
  ·intro V W K A hI hJ hd hA hK
   clear hJ;have d6:V 6=_:=hd 6 (by kernel_rfl);simp only[pA]at hA;clear hd;generalize V 6=x6 at d6 hA;subst d6;obtain rfl:=hA;go_wp2;exact hK.out _ brf
  apply AS (by kernel_rfl)
  ·intro V W K A hI hJ hd hA hK
   clear hJ;have d7:V 7=_:=hd 7 (by kernel_rfl);simp only[pA]at hA;clear hd;generalize V 7=x7 at d7 hA;subst d7;obtain rfl:=hA;have e1:=AJ ((hI.block A hAN HA1.out).trans AN.out) 1 rfl;go_wp2;exact hK.out _ brf
  apply AS (by kernel_rfl)
  ·intro V W K A hI hJ hd hA hK
   clear hJ;simp only[pA]at hA;clear hd;obtain rfl:=hA;refine wpList_load_row rfl 29 (.tmp 3) rfl sb rfl 29 #[.string sv.name,.int .i64 B.now,.bool sv.gone,.int .i64 sv.image,.int .i64 sv.want,.int .i64 sv.down,.int .i64 sv.over,.int .i64 s.next,.int .i64 sv.per,.int .i64 sv.least,.int .i64 sv.most,.int .i64 sv.load,.int .i64 0] (0,0) _ ((hI.block sb hzS HS1.out).trans SNX.out) Tryz.underlying29 rfl Tryz.infosSvcI ?_;go_wp2;exact hK.out _ brf
  refine Ds (λ(_:Nat->Value) vv W=>∃bo n' kk,vv=.slice bo n' kk/\n'=(BT Bv B.svcs {sv with version:=B.now,next:=s.next,cool:=0}).length/\RowN W N 29 13 bo n' kk (AY (BT Bv B.svcs {sv with version:=B.now,next:=s.next,cool:=0}))) (λ_ v W W2 ⟨bo,n2,kk,h1,h2,h3⟩ hb=>⟨bo,n2,kk,h1,h2,h3.below hb⟩) (λ_ _ _ _ _ h=>h) (by kernel_rfl) (by kernel_rfl) ?_ ?_
  ·intro V W K A hI hJ hd hA hK
   have hJ:=hJ (by kernel_rfl);have d8:V 8=_:=hd 8 (by kernel_rfl);have d9:V 9=_:=hd 9 (by kernel_rfl);simp only[pA]at hA;clear hd;generalize hV0:V 0=x0 at hA hK;generalize hV1:V 1=x1 at hA hK;generalize hV2:V 2=x2 at hA hK;generalize hV3:V 3=x3 at hA hK;generalize hV4:V 4=x4 at hA hK;generalize hV5:V 5=x5 at hA hK;generalize hV6:V 6=x6 at hA hK;generalize hV7:V 7=x7 at hA hK;generalize hV8:V 8=x8 at d8 hA hK;generalize hV9:V 9=x9 at d9 hA hK;generalize hV10:V 10=x10 at hA hK;generalize hV11:V 11=x11 at hA hK;generalize hV12:V 12=x12 at hA hK;subst d8;subst d9;obtain rfl:=hA;have HI:Hid (RowOnly a1 N wn W):=hI;have HJ:=Ay hJ;have hsz:=hI.size;clear hI hJ hV0 hV1 hV2 hV3 hV4 hV5 hV6 hV7 hV8 hV9 hV10 hV11 hV12
   go_wp2_with fail
   refine(I1 B.svcs {sv with version:=B.now,next:=s.next,cool:=0} a1 B.svcs.length k1 N W rfl (by have:=hF.l1;omega) hF.ascS (by omega) HJ.out).mono ?_;rintro e w2 ⟨bo,n2,kk,rfl,hn2,hr2,hkp,hbq⟩;have HR2:=Ay hr2;have HN2:Hid _:=hn2;have HKP:Hid _:=hkp;clear hr2 hn2 hkp;go_wp2;exact hK.out _ _ trivial ⟨λq hq hne=>(HKP.out q (by omega) hne).trans (HI.out.block q hq hne),AH hsz hbq.size,HI.out.below.trans hbq⟩ ⟨bo,n2,kk,rfl,HN2.out,HR2.out⟩
  apply AS (by kernel_rfl)
  ·intro V W K A hI hJ hd hA hK
   clear hJ;have d2:V 2=_:=hd 2 (by kernel_rfl);simp only[pA]at hA;clear hd;generalize V 2=x2 at d2 hA;subst d2;obtain rfl:=hA;go_wp2;exact hK.out _ brf
  apply AS (by kernel_rfl)
  ·intro V W K A hI hJ hd hA hK
   clear hJ;have d11:V 11=_:=hd 11 (by kernel_rfl);simp only[pA]at hA;clear hd;generalize V 11=x11 at d11 hA;subst d11;obtain rfl:=hA;go_wp2;exact hK.out _ brf
  refine⟨λi j hk V v W W' hr hq=>?_,?_⟩
  ·simp at hk
  intro V W A hI hS hA;have d0:V 0=_:=hS 0 (by omega) (.inr (by kernel_rfl));have d1:V 1=_:=hS 1 (by omega) (.inr (by kernel_rfl));have d2:V 2=_:=hS 2 (by omega) (.inr (by kernel_rfl));have d3:V 3=_:=hS 3 (by omega) (.inr (by kernel_rfl));have d4:V 4=_:=hS 4 (by omega) (.inr (by kernel_rfl));have d5:V 5=_:=hS 5 (by omega) (.inr (by kernel_rfl));have d6:V 6=_:=hS 6 (by omega) (.inr (by kernel_rfl));have d7:V 7=_:=hS 7 (by omega) (.inr (by kernel_rfl));have d8:V 8=_:=hS 8 (by omega) (.inr (by kernel_rfl));have d9:V 9=_:=hS 9 (by omega) (.inr (by kernel_rfl));have d10:(λ(_:Nat->Value) vv W=>∃bo n' kk,vv=.slice bo n' kk/\n'=(BT Bv B.svcs {sv with version:=B.now,next:=s.next,cool:=0}).length/\RowN W N 29 13 bo n' kk (AY (BT Bv B.svcs {sv with version:=B.now,next:=s.next,cool:=0}))) V (V 10) W:=hS 10 (by omega) (.inl (by kernel_rfl));have d11:V 11=_:=hS 11 (by omega) (.inr (by kernel_rfl));have d12:V 12=_:=hS 12 (by omega) (.inr (by kernel_rfl));simp only[pA]at hA;dsimp only at d10;clear hS;generalize V 0=x0 at d0 hA;generalize V 1=x1 at d1 hA;generalize V 2=x2 at d2 hA;generalize V 3=x3 at d3 hA;generalize V 4=x4 at d4 hA;generalize V 5=x5 at d5 hA;generalize V 6=x6 at d6 hA;generalize V 7=x7 at d7 hA;generalize V 8=x8 at d8 hA;generalize V 9=x9 at d9 hA;generalize V 10=x10 at d10 hA;generalize V 11=x11 at d11 hA;generalize V 12=x12 at d12 hA;subst d0;subst d1;subst d2;subst d3;subst d4;subst d5;subst d6;subst d7;subst d8;subst d9;subst d11;subst d12;obtain rfl:=hA;simp only[List.drop_succ_cons,List.drop_zero]
  obtain⟨bo,n',kk,rfl,hn',hr⟩:=d10;have HN':Hid _:=hn';have HRB:=Ay hr;have HI:Hid (RowOnly a1 N wn W):=hI;have AW:Hid (W.heap[A]?=some (.cells #[.int .i64 B.now,.slice a1 B.svcs.length k1,.slice a2 B.cps.length k2,.slice a3 B.bts.length k3] 27 (0,0))):=(hI.block A hAN HA1.out).trans AN.out;have EW:Hid (W.heap[w.heap.size]?=some (.cells #[.pointer (some ⟨A,0,none⟩),.string sv.name,.int .i64 sv.version,.bool sv.gone,.int .i64 sv.image,.int .i64 sv.want,.int .i64 sv.down,.int .i64 sv.over,.int .i64 sv.next,.int .i64 sv.per,.int .i64 sv.least,.int .i64 sv.most,.int .i64 sv.load,.int .i64 sv.cool] 92 (0,0))):=(hI.block w.heap.size hzE HE1.out).trans EN.out;have hsW:=hI.size;clear hn' hr hI
  go_upto_region 7 with(refine Ai rfl 23 (.tmp 49) (.tmp 47) rfl A 1 (.slice bo n' kk) rfl rfl Tryz.infosSvcsI rfl rfl 27 #[.int .i64 B.now,.slice a1 B.svcs.length k1,.slice a2 B.cps.length k2,.slice a3 B.bts.length k3] AW.out (AD rfl) ?_;intro wa hz on;have A2:Hid (wa.heap[A]?=some (.cells #[.int .i64 B.now,.slice bo n' kk,.slice a2 B.cps.length k2,.slice a3 B.bts.length k3] 27 (0,0))):=hz;have HON:Hid (BA A W wa):=on;clear hz on)
  have hAn:A≠w.heap.size:=by omega
  have E2:Hid (wa.heap[w.heap.size]?=some (.cells #[.pointer (some ⟨A,0,none⟩),.string sv.name,.int .i64 sv.version,.bool sv.gone,.int .i64 sv.image,.int .i64 sv.want,.int .i64 sv.down,.int .i64 sv.over,.int .i64 sv.next,.int .i64 sv.per,.int .i64 sv.least,.int .i64 sv.most,.int .i64 sv.load,.int .i64 sv.cool] 92 (0,0))):=(HON.out.other _ (Ne.symm hAn)).trans EW.out
  have HV2:Hid (BkVar wa N A (CB B sv B.now) bo a2 a3 kk k2 k3):=by
   have hB:=VN.out.rows;have hnl:n'=(CB B sv B.now).svcs.length:=by show n'=(BT Bv B.svcs (FJ B.svcs sv B.now)).length;rw[HX.out];exact HN'.out
   refine⟨VN.out.lo,?_,?_,?_,?_⟩
   ·have h:=A2.out;rw[hnl]at h;exact h
   ·have h:=HRB.out.only HON.out AW.out (by decide);rw[<-HX.out]at h;rw[hnl]at h;exact h
   ·exact(hB.cps.rowOnly HI.out hB.svcs (by decide)).only HON.out AW.out (by decide)
   ·exact(hB.bts.rowOnly HI.out hB.svcs (by decide)).only HON.out AW.out (by decide)
  have hb9:Below N w wa:=(hb0.mono' hN).trans ((hbn.mono' (by omega)).trans (HI.out.below.trans (HON.out.below.mono' VN.out.lo)));have q0:=AJ E2.out 0 rfl;clear A2 AW EW HI HRB HN' VN AN EN HE1 HA1 HON SNX HS1 hbn
  go_wp2_with fail
  refine(Dd (CB B sv B.now) A bo a2 a3 kk k2 k3 wa HSM.out HSZ.out HV2.out.box HV2.out.rows.at).mono ?_;rintro e wb ⟨rfl,hbq⟩;have HV3:=Ah (HV2.out.below hbq);have hb10:Below N w wb:=hb9.trans (hbq.mono' (by have:=hb9.size;omega));clear q0 E2 HV2 hb9 hbq;rw[show(if AX (CB B sv B.now)=true then(0:Int) else 2)=cd from HCD.out];go_wp2;go_ret;exact⟨rfl,⟨_,_,_,_,_,_,HV3.out⟩,hb10⟩
end Go.Proofs.YtbceafpodamnfaaGreat
