import Derived.Test.YtbceafpodamnfaaGreatH45
import Derived.Test.YtbceafpodamnfaaGreatH53
set_option linter.all false
set_option maxHeartbeats 16000000
set_option maxRecDepth 100000
namespace Go.Proofs.YtbceafpodamnfaaGreat
open Go.RowKit Go.Sort
theorem num_wf{B:Bk}{num:Int}(h:NumOk B num)(hv:AX B=true):(Lit.int .i64 num).wf=true:=by
 have hb: -1<=num/\num<=1000001:=by
  rcases h with h|⟨c,hc,rfl⟩
  ·omega
  ·have hV:=validB_iff.1 hv
   obtain⟨s,h1,h2⟩:=hV.svc hc;have hsi:=hV.svcIn (Jn h1);have hn:=hsi.next1;have hn0:=hsi.next0;simp only[FF,Bool.and_eq_true,inB_iff]at h2;have:=h2.1.1.1;rw[show wrap64 (s.next - 1)=s.next - 1 from IntWalk.wrap64_in _ (by omega)]at this;omega
 show(decide (IntKind.min .i64<=num)&&decide (num<=IntKind.max .i64))=true;have e1:IntKind.min .i64= -9223372036854775808:=by decide
 have e2:IntKind.max .i64=9223372036854775807:=by decide
 rw[e1,e2];simp only[Bool.and_eq_true,decide_eq_true_eq];omega
theorem okSp.sized{B:Bk}(h:okSp B):B.sized:=⟨AH h.1.1 (by decide),AH h.1.2.1 (by decide),AH h.1.2.2 (by decide),h.2⟩
theorem okSp.small{B:Bk}(h:okSp B):B.small:=⟨AH h.1.1 (by decide),AH h.1.2.1 (by decide),AH h.1.2.2 (by decide)⟩
theorem OH{B:Bk}{E:Ev}(h:(AO B E).2=0):(AO B E).1.now=B.now+1:=by
 unfold AO at *;split
 ·rfl
 split
 ·rfl
 split
 ·rename_i h1 h2 h3
  rw[if_neg h1,if_neg h2,if_pos h3]at h;unfold Bm at *;split at h
  ·split at h
   ·rename_i hc
    split
    ·rfl
    ·rename_i hn;exact absurd hc hn
   ·cases h
  ·cases h
 split
 ·rename_i h1 h2 h3 h4
  rw[if_neg h1,if_neg h2,if_neg h3,if_pos h4]at h;unfold sinkB at *;split at h
  ·rfl
  ·cases h
 split
 ·rfl
 split
 ·rename_i h1 h2 h3 h4 h5 h6
  rw[if_neg h1,if_neg h2,if_neg h3,if_neg h4,if_neg h5,if_pos h6]at h;unfold Bb at *;split at h
  ·split at h
   ·cases h
   ·rename_i hc
    split
    ·rename_i hn;exact absurd hn hc
    ·rfl
  ·cases h
 ·rename_i h1 h2 h3 h4 h5 h6
  rw[if_neg h1,if_neg h2,if_neg h3,if_neg h4,if_neg h5,if_neg h6]at h;cases h
theorem ans_is{B X:Bk}{E:Ev}{c:Int}(h:BM B E=(X,c))(hS:B.small)(hZ:B.sized)(hE:E.sized):X.small/\((AX B=false/\c=1)\/(AX B=true/\c≠0/\X=B)\/(AX B=true/\c=0/\AX X=true/\X.sized/\X.now=B.now+1/\0<=B.now/\B.now<=1000000)):=by
 unfold BM at h
 by_cases hv:AX B=true
 ·obtain⟨hn0,hn1⟩:=inB_iff.1 (validB_iff.1 hv).now
  rw[if_pos hv]at h
  by_cases hn:1000000<=B.now
  ·rw[if_pos hn]at h
   cases h;refine⟨hS,.inr (.inl ⟨hv,?_,rfl⟩)⟩
   split<;>decide
  ·rw[if_neg hn]at h
   by_cases h0:(AO B E).2=0
   ·rw[if_pos h0]at h
    by_cases hw:AX (AO B E).1=true
    ·rw[if_pos hw]at h
     cases h;exact⟨D8 hv,.inr (.inr ⟨hv,rfl,hw,FP hv hZ hE,OH h0,hn0,hn1⟩)⟩
    ·rw[if_neg hw]at h
     cases h;exact⟨hS,.inr (.inl ⟨hv,by decide,rfl⟩)⟩
   ·rw[if_neg h0]at h
    cases h;exact⟨hS,.inr (.inl ⟨hv,h0,rfl⟩)⟩
 ·rw[if_neg hv]at h
  cases h;exact⟨⟨AI _,AI _,AI _⟩,.inl ⟨by simpa using hv,rfl⟩⟩
theorem Ml(ao:Option Addr)(n cap:Nat)(w:World)(hcap:n<=cap)(hC:Fg w ao n):
  Calls Tryz.prog 3 #[.slice ao n cap] w λe w'=>e=.returned (.bool true)/\Below w.heap.size w w':=by
 by_cases hbig:1048576<n
 ·go_enter Tryz.func3,Tryz.ntmps3
  go_wp2;go_ret;exact⟨rfl,Below.refl _ _⟩
 have HCC:Hid (Fg w ao n):=hC;clear hC;go_enter Tryz.func3,Tryz.ntmps3
 go_upto_region 4 with(first
  |(go_at_call 4;refine(L4 ao n cap _ (by omega) hcap HCC.out).mono ?_;rintro e w1 ⟨a1,a2,a3,c1,c2,c3,B,E,he,hB,hok,hE,hnum,hb⟩;simp only[evL]at he;subst he;have HB1:Hid (BkAt w1 a1 a2 a3 B):=hB;have HOK:Hid (okSp B):=hok;have HE:Hid (E.sized):=hE;have HNM:Hid (NumOk B E.number):=hnum;have HL1:Hid (Below w.heap.size w w1):=hb;obtain⟨t0,t1,t2⟩:=B0 w1 (.cells #[.int .i64 0,.slice none 0 0,.slice none 0 0,.slice none 0 0] 27) (.cells #[.int .i64 0,.string ⟨#[]⟩,.int .i64 0,.bool false,.int .i64 0,.int .i64 0,.int .i64 0,.int .i64 0,.int .i64 0,.int .i64 0,.int .i64 0,.int .i64 0,.int .i64 0,.int .i64 0,.string ⟨#[]⟩,.int .i64 0,.bool false] 31);have VZ:Hid _:=t0;have VE:Hid _:=t1;have HSZ:Hid _:=t2;clear hB hok hE hnum hb t0 t1 t2)
  |((with_reducible show wpList _ _ _ _ _ _);refine AL rfl 27 (.tmp 3) (.tmp 15) rfl w1.heap.size 0 #[.int .i64 B.now,.slice a1 B.svcs.length c1,.slice a2 B.cps.length c2,.slice a3 B.bts.length c3] rfl rfl 27 #[.int .i64 0,.slice none 0 0,.slice none 0 0,.slice none 0 0] VZ.out Tryz.infosBookE (AD rfl) (by simp[Value.oneCell']) ?_;intro w2 hz2 on2;simp only[Act.put])
  |((with_reducible show wpList _ _ _ _ _ _);refine AL rfl 31 (.tmp 4) (.tmp 16) rfl (w1.heap.size+1) 0 #[.int .i64 E.kind,.string E.service.name,.int .i64 E.service.version,.bool E.service.gone,.int .i64 E.service.image,.int .i64 E.service.want,.int .i64 E.service.down,.int .i64 E.service.over,.int .i64 E.service.next,.int .i64 E.service.per,.int .i64 E.service.least,.int .i64 E.service.most,.int .i64 E.service.load,.int .i64 E.service.cool,.string E.name,.int .i64 E.number,.bool E.flag] rfl rfl 31 #[.int .i64 0,.string ⟨#[]⟩,.int .i64 0,.bool false,.int .i64 0,.int .i64 0,.int .i64 0,.int .i64 0,.int .i64 0,.int .i64 0,.int .i64 0,.int .i64 0,.int .i64 0,.int .i64 0,.string ⟨#[]⟩,.int .i64 0,.bool false] ((on2.other _ (by omega)).trans VE.out) Tryz.infosEvF (AD rfl) (by simp[Value.oneCell']) ?_;intro w3 hz3 on3;simp only[Act.put]))
 obtain⟨x,hx⟩:∃x,w1.heap.size=x:=⟨_,rfl⟩;have hxw:w.heap.size<=x:=by rw[<-hx];exact HL1.out.size
 have hb13:Below w1.heap.size w1 w3:=((((Below.refl _ _).alloc (AG _) _).alloc (by simp) _).trans on2.below).trans (on3.below.mono (by omega));have VX3:Hid (w3.heap[x]?=some (.cells #[.int .i64 B.now,.slice a1 B.svcs.length c1,.slice a2 B.cps.length c2,.slice a3 B.bts.length c3] 27 (0,0))):=by unfold Hid;rw[<-hx];exact(on3.other _ (by omega)).trans hz2.out
 have VE3:Hid (w3.heap[x+1]?=some (.cells #[.int .i64 E.kind,.string E.service.name,.int .i64 E.service.version,.bool E.service.gone,.int .i64 E.service.image,.int .i64 E.service.want,.int .i64 E.service.down,.int .i64 E.service.over,.int .i64 E.service.next,.int .i64 E.service.per,.int .i64 E.service.least,.int .i64 E.service.most,.int .i64 E.service.load,.int .i64 E.service.cool,.string E.name,.int .i64 E.number,.bool E.flag] 31 (0,0))):=by unfold Hid;rw[<-hx];exact hz3.out
 have HB3:Hid (BkAt w3 a1 a2 a3 B):=HB1.out.below hb13;have HL3:Hid (Below w.heap.size w w3):=HL1.out.trans (hb13.mono HL1.out.size);rw[hx];clear VZ VE HSZ HB1 HL1 hz2 on2 hz3 on3 HCC hb13 hx;obtain⟨X,c,HA⟩:∃X c,Hid (BM B E=(X,c)):=⟨_,_,rfl⟩;obtain⟨hXS,hcase⟩:=ans_is HA.out HOK.out.small HOK.out.sized HE.out;have HXS:Hid (X.small):=hXS;have HCS:Hid _:=hcase
 have HIM:Hid (∀W:World,BkAt W a1 a2 a3 B->Calls Tryz.prog 5 #[.agg #[.int .i64 B.now,.slice a1 B.svcs.length c1,.slice a2 B.cps.length c2,.slice a3 B.bts.length c3],.agg #[.int .i64 E.kind,.string E.service.name,.int .i64 E.service.version,.bool E.service.gone,.int .i64 E.service.image,.int .i64 E.service.want,.int .i64 E.service.down,.int .i64 E.service.over,.int .i64 E.service.next,.int .i64 E.service.per,.int .i64 E.service.least,.int .i64 E.service.most,.int .i64 E.service.load,.int .i64 E.service.cool,.string E.name,.int .i64 E.number,.bool E.flag]] W λe w'=>∃(x1 x2 x3:Option Addr) (p1 p2 p3:Nat),e=.returned (.tuple #[.agg #[.int .i64 X.now,.slice x1 X.svcs.length p1,.slice x2 X.cps.length p2,.slice x3 X.bts.length p3],.int .i64 c])/\BkAt w' x1 x2 x3 X/\Below W.heap.size W w'):=λW h=>(Lt B E a1 a2 a3 c1 c2 c3 W HOK.out.small HOK.out.sized (num_wf HNM.out) HE.out h).mono λe w' ⟨x1,x2,x3,p1,p2,p3,h1,h2,h3⟩=>by
  rw[HA.out]at h1 h2;exact⟨x1,x2,x3,p1,p2,p3,h1,h2.at,h3⟩
 have HSP:Hid (∀W:World,BkAt W a1 a2 a3 B->Calls Tryz.prog 6 #[.agg #[.int .i64 B.now,.slice a1 B.svcs.length c1,.slice a2 B.cps.length c2,.slice a3 B.bts.length c3],.agg #[.int .i64 E.kind,.string E.service.name,.int .i64 E.service.version,.bool E.service.gone,.int .i64 E.service.image,.int .i64 E.service.want,.int .i64 E.service.down,.int .i64 E.service.over,.int .i64 E.service.next,.int .i64 E.service.per,.int .i64 E.service.least,.int .i64 E.service.most,.int .i64 E.service.load,.int .i64 E.service.cool,.string E.name,.int .i64 E.number,.bool E.flag]] W λe w'=>∃(x1 x2 x3:Option Addr) (p1 p2 p3:Nat),e=.returned (.tuple #[.agg #[.int .i64 X.now,.slice x1 X.svcs.length p1,.slice x2 X.cps.length p2,.slice x3 X.bts.length p3],.int .i64 c])/\BkAt w' x1 x2 x3 X/\Below W.heap.size W w'):=λW h=>(Hw B E a1 a2 a3 c1 c2 c3 W HOK.out.small HOK.out.sized HE.out h).mono λe w' ⟨x1,x2,x3,p1,p2,p3,h1,h2,h3⟩=>by
  rw[HA.out]at h1 h2;exact⟨x1,x2,x3,p1,p2,p3,h1,h2,h3⟩
 clear hXS hcase
 go_upto_region 5 with(first
  |((with_reducible show wpList _ _ _ _ _ _);refine wpList_load_row rfl 27 (.tmp 3) rfl x rfl 27 #[.int .i64 B.now,.slice a1 B.svcs.length c1,.slice a2 B.cps.length c2,.slice a3 B.bts.length c3] (0,0) _ VX3.out Tryz.underlying27 rfl Tryz.infosBookE ?_)
  |((with_reducible show wpList _ _ _ _ _ _);refine wpList_load_row rfl 31 (.tmp 4) rfl (x+1) rfl 31 #[.int .i64 E.kind,.string E.service.name,.int .i64 E.service.version,.bool E.service.gone,.int .i64 E.service.image,.int .i64 E.service.want,.int .i64 E.service.down,.int .i64 E.service.over,.int .i64 E.service.next,.int .i64 E.service.per,.int .i64 E.service.least,.int .i64 E.service.most,.int .i64 E.service.load,.int .i64 E.service.cool,.string E.name,.int .i64 E.number,.bool E.flag] (0,0) _ VE3.out Tryz.underlying31 rfl Tryz.infosEvF ?_)
  |(go_at_call 5;refine(HIM.out _ HB3.out).mono ?_;rintro e w4 ⟨x1,x2,x3,p1,p2,p3,rfl,hX,hb⟩;have HX4:Hid (BkAt w4 x1 x2 x3 X):=hX;have HB4:Hid (Below w3.heap.size w3 w4):=hb;have VZ:Hid ((w4.alloc (.cells #[.int .i64 0,.slice none 0 0,.slice none 0 0,.slice none 0 0] 27)).heap[w4.heap.size]?=some (.cells #[.int .i64 0,.slice none 0 0,.slice none 0 0,.slice none 0 0] 27 (0,0))):=heap_alloc_new w4 _;clear hX hb)
  |((with_reducible show wpList _ _ _ _ _ _);refine AL rfl 27 (.tmp 5) (.tmp 21) rfl w4.heap.size 0 #[.int .i64 X.now,.slice x1 X.svcs.length p1,.slice x2 X.cps.length p2,.slice x3 X.bts.length p3] rfl rfl 27 #[.int .i64 0,.slice none 0 0,.slice none 0 0,.slice none 0 0] VZ.out Tryz.infosBookE (AD rfl) (by simp[Value.oneCell']) ?_;intro w5 hz5 on5;simp only[Act.put]))
 obtain⟨y,hy⟩:∃y,w4.heap.size=y:=⟨_,rfl⟩;have hb45:Below w4.heap.size w4 w5:=(AM w4 _).trans on5.below;have hb35:Below w3.heap.size w3 w5:=HB4.out.trans (hb45.mono HB4.out.size);have VY5:Hid (w5.heap[y]?=some (.cells #[.int .i64 X.now,.slice x1 X.svcs.length p1,.slice x2 X.cps.length p2,.slice x3 X.bts.length p3] 27 (0,0))):=by unfold Hid;rw[<-hy];exact hz5.out
 have VX5:Hid _:=CD hb35 VX3.out;have VE5:Hid _:=CD hb35 VE3.out;have HB5:Hid (BkAt w5 a1 a2 a3 B):=HB3.out.below hb35;have HX5:Hid (BkAt w5 x1 x2 x3 X):=HX4.out.below hb45;have HL5:Hid (Below w.heap.size w w5):=HL3.out.trans (hb35.mono HL3.out.size);rw[hy];clear VZ hz5 on5 hb45 hb35 HX4 HB4 VX3 VE3 HB3 HL3 hy
 go_upto_region 6 with(first
  |((with_reducible show wpList _ _ _ _ _ _);refine wpList_load_row rfl 27 (.tmp 3) rfl x rfl 27 #[.int .i64 B.now,.slice a1 B.svcs.length c1,.slice a2 B.cps.length c2,.slice a3 B.bts.length c3] (0,0) _ VX5.out Tryz.underlying27 rfl Tryz.infosBookE ?_)
  |((with_reducible show wpList _ _ _ _ _ _);refine wpList_load_row rfl 31 (.tmp 4) rfl (x+1) rfl 31 #[.int .i64 E.kind,.string E.service.name,.int .i64 E.service.version,.bool E.service.gone,.int .i64 E.service.image,.int .i64 E.service.want,.int .i64 E.service.down,.int .i64 E.service.over,.int .i64 E.service.next,.int .i64 E.service.per,.int .i64 E.service.least,.int .i64 E.service.most,.int .i64 E.service.load,.int .i64 E.service.cool,.string E.name,.int .i64 E.number,.bool E.flag] (0,0) _ VE5.out Tryz.underlying31 rfl Tryz.infosEvF ?_)
  |(go_at_call 6;refine(HSP.out _ HB5.out).mono ?_;rintro e w6 ⟨y1,y2,y3,q1,q2,q3,rfl,hX,hb⟩;have HY6:Hid (BkAt w6 y1 y2 y3 X):=hX;have HB6:Hid (Below w5.heap.size w5 w6):=hb;have VZ:Hid ((w6.alloc (.cells #[.int .i64 0,.slice none 0 0,.slice none 0 0,.slice none 0 0] 27)).heap[w6.heap.size]?=some (.cells #[.int .i64 0,.slice none 0 0,.slice none 0 0,.slice none 0 0] 27 (0,0))):=heap_alloc_new w6 _;clear hX hb)
  |((with_reducible show wpList _ _ _ _ _ _);refine AL rfl 27 (.tmp 7) (.tmp 27) rfl w6.heap.size 0 #[.int .i64 X.now,.slice y1 X.svcs.length q1,.slice y2 X.cps.length q2,.slice y3 X.bts.length q3] rfl rfl 27 #[.int .i64 0,.slice none 0 0,.slice none 0 0,.slice none 0 0] VZ.out Tryz.infosBookE (AD rfl) (by simp[Value.oneCell']) ?_;intro w7 hz7 on7;simp only[Act.put]))
 obtain⟨z,hz⟩:∃z,w6.heap.size=z:=⟨_,rfl⟩;have hb67:Below w6.heap.size w6 w7:=(AM w6 _).trans on7.below;have hb57:Below w5.heap.size w5 w7:=HB6.out.trans (hb67.mono HB6.out.size);have VZ7:Hid (w7.heap[z]?=some (.cells #[.int .i64 X.now,.slice y1 X.svcs.length q1,.slice y2 X.cps.length q2,.slice y3 X.bts.length q3] 27 (0,0))):=by unfold Hid;rw[<-hz];exact hz7.out
 have VX7:Hid _:=CD hb57 VX5.out;have VY7:Hid _:=CD hb57 VY5.out;have HB7:Hid (BkAt w7 a1 a2 a3 B):=HB5.out.below hb57;have HX7:Hid (BkAt w7 x1 x2 x3 X):=HX5.out.below hb57;have HY7:Hid (BkAt w7 y1 y2 y3 X):=HY6.out.below hb67;have HL7:Hid (Below w.heap.size w w7):=HL5.out.trans (hb57.mono HL5.out.size);rw[hz];clear VZ hz7 on7 hb67 hb57 HY6 HB6 VX5 VY5 VE5 HB5 HX5 HL5 hz HIM HSP;have u0:=AJ VY7.out 0 rfl;have u1:=AJ VY7.out 1 rfl;have u2:=AJ VY7.out 2 rfl;have u3:=AJ VY7.out 3 rfl;have v0:=AJ VZ7.out 0 rfl;have v1:=AJ VZ7.out 1 rfl;have v2:=AJ VZ7.out 2 rfl;have v3:=AJ VZ7.out 3 rfl
 go_upto_region 8 with(first
  |(go_at_call 7;refine(Ig X x1 x2 x3 y1 y2 y3 p1 p2 p3 q1 q2 q3 _ HXS.out HX7.out HY7.out).mono ?_;rintro e w8 ⟨rfl,hb⟩;have VX8:Hid _:=CD hb VX7.out;have VY8:Hid _:=CD hb VY7.out;have HB8:Hid (BkAt w8 a1 a2 a3 B):=HB7.out.below hb;have HX8:Hid (BkAt w8 x1 x2 x3 X):=HX7.out.below hb;have HL8:Hid (Below w.heap.size w w8):=HL7.out.trans (hb.mono HL7.out.size);clear hb))
 clear VX7 VY7 VZ7 HB7 HX7 HY7 HL7 u0 u1 u2 u3 v0 v1 v2 v3;rcases HCS.out with⟨hv,hc⟩|⟨hv,hc,hXB⟩|⟨hv,hc,hw,hXZ,hnow,hn0,hn1⟩
 ·subst hc
  go_wp2_with (first
   |((with_reducible show wpList _ _ _ _ _ _);refine wpList_load_row rfl 27 (.tmp 3) rfl x rfl 27 #[.int .i64 B.now,.slice a1 B.svcs.length c1,.slice a2 B.cps.length c2,.slice a3 B.bts.length c3] (0,0) _ VX8.out Tryz.underlying27 rfl Tryz.infosBookE ?_)
   |(go_at_call 8;refine(Aj B a1 a2 a3 c1 c2 c3 _ HOK.out.small HOK.out.sized HB8.out).mono ?_;rintro e w9 ⟨rfl,hb⟩;rw[hv];have VX9:Hid _:=CD hb VX8.out;have VY9:Hid _:=CD hb VY8.out;have HB9:Hid (BkAt w9 a1 a2 a3 B):=HB8.out.below hb;have HX9:Hid (BkAt w9 x1 x2 x3 X):=HX8.out.below hb;have HL9:Hid (Below w.heap.size w w9):=HL8.out.trans (hb.mono HL8.out.size);clear hb))
  go_ret;exact⟨rfl,HL9.out⟩
 ·have hc0:(c==0)=false:=by rw[beq_eq_false_iff_ne];exact hc
  subst hXB
  go_wp2_with (first
   |((with_reducible show wpList _ _ _ _ _ _);refine wpList_load_row rfl 27 (.tmp 3) rfl x rfl 27 #[.int .i64 X.now,.slice a1 X.svcs.length c1,.slice a2 X.cps.length c2,.slice a3 X.bts.length c3] (0,0) _ VX9.out Tryz.underlying27 rfl Tryz.infosBookE ?_)
   |((with_reducible show wpList _ _ _ _ _ _);refine wpList_load_row rfl 27 (.tmp 5) rfl y rfl 27 #[.int .i64 X.now,.slice x1 X.svcs.length p1,.slice x2 X.cps.length p2,.slice x3 X.bts.length p3] (0,0) _ VY9.out Tryz.underlying27 rfl Tryz.infosBookE ?_)
   |((with_reducible show wpList _ _ _ _ _ _);refine wpList_load_row rfl 27 (.tmp 3) rfl x rfl 27 #[.int .i64 X.now,.slice a1 X.svcs.length c1,.slice a2 X.cps.length c2,.slice a3 X.bts.length c3] (0,0) _ VX8.out Tryz.underlying27 rfl Tryz.infosBookE ?_)
   |(go_at_call 8;refine(Aj X a1 a2 a3 c1 c2 c3 _ HOK.out.small HOK.out.sized HB8.out).mono ?_;rintro e w9 ⟨rfl,hb⟩;rw[hv];have VX9:Hid _:=CD hb VX8.out;have VY9:Hid _:=CD hb VY8.out;have HB9:Hid (BkAt w9 a1 a2 a3 X):=HB8.out.below hb;have HX9:Hid (BkAt w9 x1 x2 x3 X):=HX8.out.below hb;have HL9:Hid (Below w.heap.size w w9):=HL8.out.trans (hb.mono HL8.out.size);clear hb)
   |(go_at_call 7;refine(Ig X x1 x2 x3 a1 a2 a3 p1 p2 p3 c1 c2 c3 _ HXS.out HX9.out HB9.out).mono ?_;rintro e wa ⟨rfl,hb⟩;have HLa:Hid (Below w.heap.size w wa):=HL9.out.trans (hb.mono HL9.out.size);clear hb))
  go_ret;exact⟨rfl,HLa.out⟩
 ·subst hc
  have hwr:Hid (X.now=B.now+1):=hnow;clear hnow
  go_wp2_with (first
   |((with_reducible show wpList _ _ _ _ _ _);refine wpList_load_row rfl 27 (.tmp 5) rfl y rfl 27 #[.int .i64 X.now,.slice x1 X.svcs.length p1,.slice x2 X.cps.length p2,.slice x3 X.bts.length p3] (0,0) _ VY9.out Tryz.underlying27 rfl Tryz.infosBookE ?_)
   |((with_reducible show wpList _ _ _ _ _ _);refine wpList_load_row rfl 27 (.tmp 3) rfl x rfl 27 #[.int .i64 B.now,.slice a1 B.svcs.length c1,.slice a2 B.cps.length c2,.slice a3 B.bts.length c3] (0,0) _ VX8.out Tryz.underlying27 rfl Tryz.infosBookE ?_)
   |(go_at_call 9;refine(EM X x1 x2 x3 p1 p2 p3 _ HXS.out hXZ HX9.out).mono ?_;rintro e wa ⟨rfl,hb⟩;rw[hw];have VXa:Hid _:=CD hb VX9.out;have VYa:Hid _:=CD hb VY9.out;have HBa:Hid (BkAt wa a1 a2 a3 B):=HB9.out.below hb;have HXa:Hid (BkAt wa x1 x2 x3 X):=HX9.out.below hb;have HLa:Hid (Below w.heap.size w wa):=HL9.out.trans (hb.mono HL9.out.size);clear hb;have u0:=AJ VYa.out 0 rfl;have u1:=AJ VYa.out 1 rfl;have u2:=AJ VYa.out 2 rfl;have u3:=AJ VYa.out 3 rfl)
   |(go_at_call 8;refine(Aj X x1 x2 x3 p1 p2 p3 _ HXS.out hXZ HXa.out).mono ?_;rintro e wb ⟨rfl,hb⟩;rw[hw];have VXb:Hid _:=CD hb VXa.out;have VYb:Hid _:=CD hb VYa.out;have HBb:Hid (BkAt wb a1 a2 a3 B):=HBa.out.below hb;have HXb:Hid (BkAt wb x1 x2 x3 X):=HXa.out.below hb;have HLb:Hid (Below w.heap.size w wb):=HLa.out.trans (hb.mono HLa.out.size);clear hb;have e0:=AJ VXb.out 0 rfl;have e1:=AJ VYb.out 0 rfl)
   |(go_at_call 8;refine(Aj B a1 a2 a3 c1 c2 c3 _ HOK.out.small HOK.out.sized HB8.out).mono ?_;rintro e w9 ⟨rfl,hb⟩;rw[hv];have VX9:Hid _:=CD hb VX8.out;have VY9:Hid _:=CD hb VY8.out;have HB9:Hid (BkAt w9 a1 a2 a3 B):=HB8.out.below hb;have HX9:Hid (BkAt w9 x1 x2 x3 X):=HX8.out.below hb;have HL9:Hid (Below w.heap.size w w9):=HL8.out.trans (hb.mono HL8.out.size);clear hb))
  go_ret;exact⟨by have:=hwr.out;simp[this],HLb.out⟩
end Go.Proofs.YtbceafpodamnfaaGreat
