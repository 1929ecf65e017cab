import Derived.Test.YtbceafpodamnfaaH53
set_option linter.all false
set_option maxHeartbeats 16000000
set_option maxRecDepth 100000
namespace Go.Proofs.Ytbceafpodamnfaa
attribute [local simp] svV cpV zbV czV aaV ctZ ad bkV ctV acV evV
attribute [local go_sem] svV cpV zbV czV aaV ctZ ad bkV ctV acV evV
open Go.RowKit Go.Sort
theorem Gr:(Try.prog.info? 32).map (·.size)=some 5:=by kernel_rfl
section
variable {ρ:Operand->Value} {o:Oper} {W:World} {x y:Operand}
theorem OW{u v:Value}(hf:ρ (.func 11)=.func (.func 11) #[] #[])(h:o.op=.call {callee:=.value (.func 11),args:=#[x,y],argTypes:=#[27,9]})(hx:ρ x=u)(hy:ρ y=v):(execOp ρ o).run Try.prog W=.ok (.enter 11 #[u,v]) W:=by
 simp[execOp,h,hx,hy,hf,go_sem]
theorem M3{a b c d e:Int}(h:o.op=.binOp .neq 32 x y 32)(hx:ρ x=.agg #[.int .i64 a,.int .i64 b,.int .i64 c,.int .i64 d,.int .i64 e])(hy:ρ y=.agg #[.int .i64 a,.int .i64 b,.int .i64 c,.int .i64 d,.int .i64 e]):(execOp ρ o).run Try.prog W=.ok (.value (.bool false)) W:=by
 simp[execOp,h,hx,hy,go_sem]
end
theorem num_wf{B:Bk}{num:Int}(h:(0<=num/\num<9)\/∃c∈B.cps,c.number=num)(hv:Au B=true):(Lit.int .i64 num).wf=true:=by
 have hb:0<=num/\num<=1000000:=by
  rcases h with h|⟨c,hc,rfl⟩
  ·omega
  ·have hV:=validB_iff.1 hv
   obtain⟨s,h1,h2⟩:=hV.svc hc;have hsi:=hV.svcIn (Du h1);have hn:=hsi.next1;have hn0:=hsi.next0;simp only[GM,Bool.and_eq_true,inB_iff]at h2;have:=h2.1.1.1;rw[show wrap64 (s.next - 1)=s.next - 1 from IntWalk.wrap64_in _ (by omega)]at this;omega
 show(decide (IntKind.min .i64<=num)&&decide (num<=IntKind.max .i64))=true;have e1:IntKind.min .i64= -9223372036854775808:=by decide
 have e2:IntKind.max .i64=9223372036854775807:=by decide
 rw[e1,e2];simp only[Bool.and_eq_true,decide_eq_true_eq];omega
theorem MK(ao:Option Addr)(n cap:Nat)(w:World)(hcap:n<=cap)(hC:GS w ao n):
  Calls Try.prog 3 #[.slice ao n cap] w λe w'=>e=.returned (.bool true)/\Below w.heap.size w w':=by
 by_cases hbig:1048576<n
 ·go_enter Try.func3,Try.ntmps3
  go_wp2;go_ret;exact⟨rfl,Below.refl _ _⟩
 have HCC:Hid (GS w ao n):=hC;clear hC;go_enter Try.func3,Try.ntmps3
 go_upto_region 4 with(first
  |(go_at_call 7;refine(MI ao n cap _ (by omega) hcap HCC.out).mono ?_;rintro e w1 ⟨a1,a2,a3,c1,c2,c3,B,sv,num,rfl,hB,hcc,hz,hs,hsv,hnum,hb⟩;have HB1:Hid (BkAt w1 a1 a2 a3 B):=hB;have HCP:Hid (B.cps.length<=c2):=hcc;have HZ:Hid (B.sized):=hz;have HS:Hid (B.small):=hs;have HSV:Hid (sv.size<=maxLen):=hsv;have HNM:Hid _:=hnum;have HL1:Hid (Below w.heap.size w w1):=hb;have VZ:Hid ((w1.alloc (.cells zbV 27)).heap[w1.heap.size]?=some (.cells zbV 27 (0,0))):=heap_alloc_new w1 _;clear hB hcc hz hs hsv hnum hb)
  |((with_reducible show wpList _ _ _ _ _ _);refine AM rfl 27 (.tmp 3) (.tmp 19) rfl w1.heap.size 0 (bkV B a1 c1 a2 c2 a3 c3) rfl rfl 27 zbV VZ.out AT (AD rfl) (by simp[Value.oneCell']) ?_;intro w2 hz2 on2;simp only[Act.put]))
 obtain⟨x,hx⟩:∃x,w1.heap.size=x:=⟨_,rfl⟩;have hxw:w.heap.size<=x:=by rw[<-hx];exact HL1.out.size
 have VX2:Hid (Bl w2 x (bkV B a1 c1 a2 c2 a3 c3) 27):=by unfold Hid;rw[<-hx];exact hz2.out
 have HB2:Hid (BkAt w2 a1 a2 a3 B):=(HB1.out.below (AO _ _)).only (Iu VZ.out) on2;have HL2:Hid (Below w.heap.size w w2):=(HL1.out.trans ((AO w1 _).mono HL1.out.size)).trans (on2.below.mono (by omega));rw[hx];clear VZ HB1 HL1 hz2 on2 HCC;obtain⟨m,HM⟩:∃m,Hid (B4 B sv num=m):=⟨_,rfl⟩;obtain⟨N,HN⟩:∃N,Hid (FF B sv=N):=⟨_,rfl⟩;have HIM:Hid (∀W:World,BkAt W a1 a2 a3 B->Calls Try.prog 8 #[.agg (bkV B a1 c1 a2 c2 a3 c3),.string sv,.int .i64 num] W λe w'=>e=.returned (.bool m)/\Below W.heap.size W w'):=λW h=>by rw[<-HM.out];exact GJ B sv num a1 a2 a3 c1 c2 c3 W HCP HSV.out (num_wf HNM.out) HS.out HZ.out h
 have HSP:Hid (∀W:World,BkAt W a1 a2 a3 B->Calls Try.prog 9 #[.agg (bkV B a1 c1 a2 c2 a3 c3),.string sv,.int .i64 num] W λe w'=>e=.returned (.bool m)/\Below W.heap.size W w'):=λW h=>by rw[<-HM.out];exact JF B sv num a1 a2 a3 c1 c2 c3 W HS.out HZ.out h
 have HCI:Hid (∀W:World,BkAt W a1 a2 a3 B->Calls Try.prog 10 #[.agg (bkV B a1 c1 a2 c2 a3 c3),.string sv] W λe w'=>e=.returned (.agg (ctV N))/\Below W.heap.size W w'):=λW h=>by have h1:=Ik B sv a1 a2 a3 c1 c2 c3 W HCP HSV.out HS.out HZ.out h;rw[HN.out]at h1;exact h1
 have HCS:Hid (∀W:World,BkAt W a1 a2 a3 B->Calls Try.prog 11 #[.agg (bkV B a1 c1 a2 c2 a3 c3),.string sv] W λe w'=>e=.returned (.agg (ctV N))/\Below W.heap.size W w'):=λW h=>by have h1:=Ih B sv a1 a2 a3 c1 c2 c3 W HS.out HZ.out h;rw[HN.out]at h1;exact h1
 obtain⟨y0,y1,y2,y3⟩:=c4 VX2.out
 go_upto_region 5 with(go_at_call 8;refine(HIM.out _ HB2.out).mono ?_;rintro e w3 ⟨rfl,hb3⟩;have VX3:Hid _:=Ai hb3 VX2.out;have HB3:Hid (BkAt w3 a1 a2 a3 B):=HB2.out.below hb3;have HL3:Hid (Below w.heap.size w w3):=HL2.out.trans (hb3.mono HL2.out.size);clear hb3)
 clear y0 y1 y2 y3;obtain⟨y0,y1,y2,y3⟩:=c4 VX3.out
 go_upto_region 7 with(go_at_call 9;refine(HSP.out _ HB3.out).mono ?_;rintro e w4 ⟨rfl,hb4⟩;have VX4:Hid _:=Ai hb4 VX3.out;have HB4:Hid (BkAt w4 a1 a2 a3 B):=HB3.out.below hb4;have HL4:Hid (Below w.heap.size w w4):=HL3.out.trans (hb4.mono HL3.out.size);clear hb4)
 clear y0 y1 y2 y3;obtain⟨y0,y1,y2,y3⟩:=c4 VX4.out
 go_upto_region 8 with(first
  |(go_at_call 10;refine(HCI.out _ HB4.out).mono ?_;rintro e w5 ⟨rfl,hb5⟩;have VX5:Hid _:=Ai hb5 VX4.out;have HB5:Hid (BkAt w5 a1 a2 a3 B):=HB4.out.below hb5;have HL5:Hid (Below w.heap.size w w5):=HL4.out.trans (hb5.mono HL4.out.size);clear hb5;have VZ:Hid ((w5.alloc (.cells ctZ 32)).heap[w5.heap.size]?=some (.cells ctZ 32 (0,0))):=heap_alloc_new w5 _)
  |((with_reducible show wpList _ _ _ _ _ _);refine AM rfl 32 (.tmp 7) (.tmp 34) rfl w5.heap.size 0 (ctV N) rfl rfl 32 ctZ VZ.out Gr (AD rfl) (by simp[Value.oneCell']) ?_;intro w6 hz6 on6;simp only[Act.put]))
 obtain⟨nv,hnv⟩:∃nv,w5.heap.size=nv:=⟨_,rfl⟩;have hxl:=(AB VX5.out).1;have VN6:Hid (Bl w6 nv (ctV N) 32):=by unfold Hid;rw[<-hnv];exact hz6.out
 have hb6:Below w5.heap.size w5 w6:=(AO w5 _).trans (on6.below.mono (AG _));have VX6:Hid _:=Ai hb6 VX5.out;have HB6:Hid (BkAt w6 a1 a2 a3 B):=HB5.out.below hb6;have HL6:Hid (Below w.heap.size w w6):=HL5.out.trans (hb6.mono HL5.out.size);clear hb6;rw[hnv];clear VZ hz6 on6 y0 y1 y2 y3;have hnl:=(AB VN6.out).1;have hxl6:=(AB VX6.out).1;refine AX 4 (by kernel_rfl) (by kernel_rfl) ?_;refine Av (λv _=>v=.agg (ctV N)) (λ_ _ _ h _=>h) ?_ ?_
 ·intro V W K A hW hd hA hK
  obtain rfl:=hA;exact wpList_load_row rfl 32 (.tmp 7) rfl nv ((Be (by kernel_rfl)).trans rfl) 32 _ (0,0) _ (AL hW VN6.out hnl) Try.underlying32 rfl Gr (hK.out _ _ brf rfl)
 refine Av (λv _=>v=.agg (bkV B a1 c1 a2 c2 a3 c3)) (λ_ _ _ h _=>h) ?_ ?_
 ·intro V W K A hW hd hA hK
  obtain rfl:=hA;exact wpList_load_row rfl 27 (.tmp 3) rfl x ((Be (by kernel_rfl)).trans rfl) 27 _ (0,0) _ (AL hW VX6.out hxl6) Try.underlying27 rfl AT (hK.out _ _ brf rfl)
 refine Av (λv _=>v=.string sv) (λ_ _ _ h _=>h) ?_ ?_
 ·intro V W K A hW hd hA hK
  obtain rfl:=hA;exact Aa rfl (BG rfl ((Be (by kernel_rfl)).trans rfl)) (hK.out _ _ brf rfl)
 refine Av (λv _=>v=.agg (ctV N)) (λ_ _ _ h _=>h) ?_ ?_
 ·intro V W K A hW hd hA hK
  obtain rfl:=hA;have h1:(λv _=>v=.agg (bkV B a1 c1 a2 c2 a3 c3)) (V 1) W:=hd 1 (by kernel_rfl);have h2:(λv _=>v=.string sv) (V 2) W:=hd 2 (by kernel_rfl);refine DT rfl (OW rfl rfl ((BI (i:=1) (by kernel_rfl) (show 36<116 by decide)).trans h1) ((BI (i:=2) (by kernel_rfl) (show 37<116 by decide)).trans h2)) ((HCS.out W (HB6.out.below hW)).mono ?_);rintro e w2 ⟨rfl,hb⟩;exact⟨_,rfl,hK.out _ _ hb rfl⟩
 intro V w7 A hb7 hS hA;have d0:V 0=_:=hS 0 (by omega);have d1:V 1=_:=hS 1 (by omega);have d2:V 2=_:=hS 2 (by omega);have d3:V 3=_:=hS 3 (by omega);simp only[pA,d0,d1,d2,d3]at hA;clear hS d0 d1 d2 d3;obtain rfl:=hA;simp only[List.drop_succ_cons,List.drop_zero];have VN7:Hid _:=Ai hb7 VN6.out;have VX7:Hid _:=Ai hb7 VX6.out;have HB7:Hid (BkAt w7 a1 a2 a3 B):=HB6.out.below hb7;have HL7:Hid (Below w.heap.size w w7):=HL6.out.trans (hb7.mono HL6.out.size);clear hb7;refine Ip rfl (M3 rfl rfl rfl) ?_;simp only[Act.put,List.setIfInBounds_toArray,List.set_cons_succ,List.set_cons_zero]
 go_upto_region 10 with fail
 obtain⟨y0,y1,y2,y3⟩:=c4 VX7.out
 go_wp2_with fail
 clear y0 y1 y2 y3;refine(OI B sv num a1 a2 a3 c1 c2 c3 _ HS.out.2.1 HB7.out.2.1).mono ?_;rintro e w8 ⟨hfc,hb8⟩;have VN8:Hid _:=Ai hb8 VN7.out;have VX8:Hid _:=Ai hb8 VX7.out;have HB8:Hid (BkAt w8 a1 a2 a3 B):=HB7.out.below hb8;have HL8:Hid (Below w.heap.size w w8):=HL7.out.trans (hb8.mono HL7.out.size);clear hb8;have VZ:Hid ((w8.alloc (.cells czV 35)).heap[w8.heap.size]?=some (.cells czV 35 (0,0))):=heap_alloc_new w8 _;rcases hfc with⟨c,hf,rfl⟩|⟨hf,rfl⟩
 rotate_left
 ·have HF:Hid _:=hf
  clear hf
  go_upto_region 11 with((with_reducible show wpList _ _ _ _ _ _);refine AM rfl 35 (.tmp 8) (.tmp 45) rfl w8.heap.size 0 czV rfl rfl 35 czV VZ.out Dq (AD rfl) (by simp[Value.oneCell']) ?_;intro w9 hz9 on9;simp only[Act.put])
  have hb9:Below w8.heap.size w8 w9:=(AO w8 _).trans (on9.below.mono (AG _));have VX9:Hid _:=Ai hb9 VX8.out;have HB9:Hid (BkAt w9 a1 a2 a3 B):=HB8.out.below hb9;have HL9:Hid (Below w.heap.size w w9):=HL8.out.trans (hb9.mono HL8.out.size);clear hb9;obtain⟨y0,y1,y2,y3⟩:=c4 VX9.out;have HF0:Hid (m=false):=by unfold Hid;rw[<-HM.out];unfold B4;rw[HF.out,Bool.and_false]
  obtain⟨vb,HVB⟩:∃vb,Hid (Au B=vb):=⟨_,rfl⟩;have HSV9:Hid (∀W:World,BkAt W a1 a2 a3 B->Calls Try.prog 13 #[.agg (bkV B a1 c1 a2 c2 a3 c3)] W λe w'=>e=.returned (.bool vb)/\Below W.heap.size W w'):=λW h=>by rw[<-HVB.out];exact Az B a1 a2 a3 c1 c2 c3 W HS.out HZ.out h
  obtain rfl:=HF0.out;cases vb
  all_goals
   go_wp2_with (go_at_call 13;refine(HSV9.out _ HB9.out).mono ?_;rintro e w10 ⟨rfl,hb10⟩;have VX10:Hid _:=Ai hb10 VX9.out;have HB10:Hid (BkAt w10 a1 a2 a3 B):=HB9.out.below hb10;have HL10:Hid (Below w.heap.size w w10):=HL9.out.trans (hb10.mono HL9.out.size);clear hb10)
   go_ret;exact⟨rfl,HL10.out⟩
 have HF:Hid _:=hf;clear hf
 go_upto_region 11 with((with_reducible show wpList _ _ _ _ _ _);refine AM rfl 35 (.tmp 8) (.tmp 45) rfl w8.heap.size 0 (cpV c) rfl rfl 35 czV VZ.out Dq (AD rfl) (by simp[Value.oneCell']) ?_;intro w9 hz9 on9;simp only[Act.put])
 obtain⟨cv,hcv⟩:∃cv,w8.heap.size=cv:=⟨_,rfl⟩;have VC9:Hid (Bl w9 cv (cpV c) 35):=by unfold Hid;rw[<-hcv];exact hz9.out
 have hb9:Below w8.heap.size w8 w9:=(AO w8 _).trans (on9.below.mono (AG _));have VN9:Hid _:=Ai hb9 VN8.out;have VX9:Hid _:=Ai hb9 VX8.out;have HB9:Hid (BkAt w9 a1 a2 a3 B):=HB8.out.below hb9;have HL9:Hid (Below w.heap.size w w9):=HL8.out.trans (hb9.mono HL8.out.size);clear hb9;rw[hcv];clear VZ hz9 on9;obtain⟨y0,y1,y2,y3⟩:=c4 VX9.out;obtain⟨vb,HVB⟩:∃vb,Hid (Au B=vb):=⟨_,rfl⟩;have HSV9:Hid (∀W:World,BkAt W a1 a2 a3 B->Calls Try.prog 13 #[.agg (bkV B a1 c1 a2 c2 a3 c3)] W λe w'=>e=.returned (.bool vb)/\Below W.heap.size W w'):=λW h=>by rw[<-HVB.out];exact Az B a1 a2 a3 c1 c2 c3 W HS.out HZ.out h
 cases vb
 ·have HF0:Hid (m=false):=by unfold Hid;rw[<-HM.out];unfold B4;rw[HVB.out,Bool.false_and]
  obtain rfl:=HF0.out
  go_wp2_with (go_at_call 13;refine(HSV9.out _ HB9.out).mono ?_;rintro e w10 ⟨rfl,hb10⟩;have VX10:Hid _:=Ai hb10 VX9.out;have HB10:Hid (BkAt w10 a1 a2 a3 B):=HB9.out.below hb10;have HL10:Hid (Below w.heap.size w w10):=HL9.out.trans (hb10.mono HL9.out.size);clear hb10)
  go_ret;exact⟨rfl,HL10.out⟩
 go_upto_region 13 with(go_at_call 13;refine(HSV9.out _ HB9.out).mono ?_;rintro e w10 ⟨rfl,hb10⟩;have VN10:Hid _:=Ai hb10 VN9.out;have VC10:Hid _:=Ai hb10 VC9.out;have VX10:Hid _:=Ai hb10 VX9.out;have HB10:Hid (BkAt w10 a1 a2 a3 B):=HB9.out.below hb10;have HL10:Hid (Below w.heap.size w w10):=HL9.out.trans (hb10.mono HL9.out.size);clear hb10)
 clear y0 y1 y2 y3;have f4:=AK VC10.out 4 rfl;have f5:=AK VC10.out 5 rfl;obtain⟨sb,hs1,hs2,hs3⟩:∃sb:Bool,(c.state==3)=sb/\(c.state !=3)=!sb/\decide (c.state=3)=sb:=⟨_,rfl,rfl,rfl⟩;obtain⟨eb,heb⟩:∃eb:Bool,c.ending=eb:=⟨_,rfl⟩;cases m
 ·have HNO:Hid (sb=true\/eb=true):=by
   by_cases h:c.state=3
   ·left;rw[<-hs1];simp[h]
   ·right
    cases he:c.ending with
    |true=>rw[<-heb];exact he
    |false=>
     have:=LW HVB.out HF.out h he;rw[HM.out]at this;cases this
  cases sb
  ·obtain rfl:eb=true:=by rcases HNO.out with h|h;cases h;exact h
   go_wp2;go_ret;exact⟨rfl,HL10.out⟩
  ·go_wp2
   go_ret;exact⟨rfl,HL10.out⟩
 have HLV:Hid (1<=N.live):=by
  have h1:=may_live HM.out;have h2:=HN.out;unfold FF at h2;rw[HVB.out]at h2;rw[<-h2];exact h1
 have hlen:=HS.out.2.1;have n0:=AK VN10.out 0 rfl
 go_cut [67] from 56 (λv wx=>v=.bool false/\w10=wx)
 case first=>
  cases sb
  all_goals
   go_wp2;go_meet;exact⟨rfl,rfl⟩
 obtain⟨rfl,rfl⟩:=hcut;clear f4 f5 hs1 hs2 hs3 heb n0 VC10 HF
 go_upto_block 0 with fail
 rename_i KK hKK;refine Ea (GaF x nv sv num 0) ⟨rfl,rfl,rfl,rfl,rfl,rfl,rfl⟩ λa hf=>?_
 refine wp_block (wp_loop (λa wr=>∃k:Nat,GaF x nv sv num k a/\k<=B.cps.length/\Below w10.heap.size w10 wr) (λa _=>match a.eval (.tmp 10) with| .int _ i=>B.cps.length - i.toNat|_=>0) ⟨0,hf,by omega,Below.refl _ _⟩ ?_);rintro a wr ⟨k,hf,hk,hbr⟩;have hek:=hf.e10;have VXr:=Ai hbr VX10.out;have HBr:=HB10.out.below hbr;have HLr:Below w.heap.size w wr:=HL10.out.trans (hbr.mono HL10.out.size);refine wp_seq (wp_seq (ga_R18 rfl hf VXr λa hf h74=>wp_cond_split h74 (λhlt=>wp_skip ?_) λ_=>wp_exit ?_))
 rotate_left
 ·exact hKK _ _ (wp_seq (ga_R27 rfl hf (AK (Ai hbr VN10.out) 0 rfl) HLV.out λa' h2 hd=>wp_ret (bodyPost_ret (v:=.bool true) (by simp only[results,Try.results3];simp[show a'.tmps[2]?.getD undef=.bool true by have h3:a'.tmps.getD 2 undef=.bool true:=h2;simpa using h3]) hd ⟨rfl,HLr⟩)))
 have hlt':k<B.cps.length:=by have:=of_decide_eq_true hlt;omega
 obtain⟨b,off,ea,hbs,hat⟩:=HBr.2.1 (by intro h;rw[h]at hlt';simp at hlt');subst ea;obtain⟨s,hsk⟩:∃s,B.cps[k]?=some s:=⟨B.cps[k],by simp[hlt']⟩;refine wp_seq (wp_block (wp_seq (ga_R20 rfl hf VXr hlt' (hat k s hsk) λa wA hf e11 hov hbA=>?_)));have HLA:Below w10.heap.size w10 wA:=hbr.trans (hbA.mono hbr.size);refine wp_seq (ga_R21 rfl hf e11 hov λa hf h96=>wp_cond_split h96 (λhq=>?_) λ_=>wp_skip ?_)
 rotate_left
 ·refine ga_R19 rfl hf (by omega) λa' hf'=>?_
  exact⟨⟨k+1,hf',by omega,HLA⟩,by rw[hf'.e10,hek];show B.cps.length - (((k+1:Nat):Int)).toNat<B.cps.length - ((k:Nat):Int).toNat;omega⟩
 simp only[Bool.and_eq_true]at hq;obtain⟨⟨hq1,hq2⟩,hq3⟩:=hq;have hnn:s.number≠num:=by simpa using hq2
 have hst:s.state=2:=by simpa using hq3
 have VXA:=Ai hbA VXr;refine wp_seq (ga_R22 rfl hf VXA λa wB hf e12 hy hbB=>?_);have hB2:=(HBr.below hbA).below hbB;have hlB:=(AB hy).1;refine wp_seq (ga_R23 rfl hf e12 (Ai hbB VXA) hy hlen hB2 λa wC g' cap' hf e12 hy hR hg hbC=>?_);refine wp_seq (ga_R24 rfl hf e12 hy hlt' hR λa wD hf e12 hR on=>?_);have hsA:=hbA.size;have hsB:=hbB.size;have hl0:=(AB hy).1;have hrD:Below wr.heap.size wr wD:=(hbA.trans (hbB.mono hsA)).trans ((hbC.mono hsA).trans (on.below.mono (by omega)));have hyD:=(on.other wA.heap.size (by omega)).trans hy;have hcs:splice (Ag B.cps) (k*7+4) [.int .i64 3]=Ag (C7 B k s).cps:=Ay (c:=Cp.cells) (n:=7) (λ_=>rfl) _ k 4 s {s with state:=3} _ hsk (by decide) rfl;rw[hcs]at hR;have hln:(C7 B k s).cps.length=B.cps.length:=List.length_set;have hBD:BkAt wD a1 (ad g') a3 (C7 B k s):=⟨(HBr.below hrD).1,hR.slC,(HBr.below hrD).2.2⟩
 have hZ':(C7 B k s).sized:=by
  obtain⟨v1,v2,v3,v4,v5,v6⟩:=HZ.out;refine⟨v1,by rw[hln];exact v2,v3,v4,λt ht=>?_,v6⟩;rcases List.mem_or_eq_of_mem_set ht with ht|rfl
  ·exact v5 t ht
  ·exact v5 s (AE hsk)
 have hcall:=GJ (C7 B k s) sv num a1 (ad g') a3 c1 cap' c3 wD (by unfold Hid;rw[hln];exact hR.2.1) HSV.out (λhv=>num_wf HNM.out HVB.out) ⟨HS.out.1,by rw[hln];exact HS.out.2.1,HS.out.2.2⟩ hZ' hBD
 try simp only[bkV]at hcall
 rw[Oa hsk hst hnn HM.out,hln]at hcall;refine wp_seq (ga_R25 rfl hf e12 hyD hcall λa wE hf h112 hbE=>wp_cond_false h112 (wp_skip ?_));refine ga_R19 rfl hf (by omega) λa' hf'=>?_
 have HLE:Below w10.heap.size w10 wE:=(hbr.trans (hrD.mono hbr.size)).trans (hbE.mono (AH hbr.size hrD.size));exact⟨⟨k+1,hf',by omega,HLE⟩,by rw[hf'.e10,hek];show B.cps.length - (((k+1:Nat):Int)).toNat<B.cps.length - ((k:Nat):Int).toNat;omega⟩
end Go.Proofs.Ytbceafpodamnfaa
