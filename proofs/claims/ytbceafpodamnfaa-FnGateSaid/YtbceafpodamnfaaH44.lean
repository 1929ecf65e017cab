import Derived.Test.YtbceafpodamnfaaH43
set_option linter.all false
set_option maxHeartbeats 16000000
set_option maxRecDepth 100000
namespace Go.Proofs.Ytbceafpodamnfaa
attribute [local simp] svV cpV zbV czV aaV ctZ ad bkV ctV acV evV
attribute [local go_sem] svV cpV zbV czV aaV ctZ ad bkV ctV acV evV
section
open Go.RowKit Go.Sort
def BV(u:Value)(W:World):Prop:=∃(x1 x2 x3:Option Addr) (y1 y2 y3:Nat) (C:Bk),u=.agg (bkV C x1 y1 x2 y2 x3 y3)/\BkAt W x1 x2 x3 C/\C.sized/\C.tiny
theorem BV.rel3{u:Value}{i a b r v f:Nat}{w W W':World}{Q:Int}(h:BV u W)(hr:Mn a b (LL r Q) (Ll r v f w) i W W'):BV u W':=by
 obtain⟨x1,x2,x3,y1,y2,y3,C,e,h,hz⟩:=h;refine⟨x1,x2,x3,y1,y2,y3,C,e,?_,hz⟩;rcases Fg hr with⟨_,⟨q,hq⟩,hp,_⟩|hr|hr
 ·exact h.past hq hp
 ·exact h.only hr.1.1 hr.2.1
 ·exact h.below hr
def SvV(u:Value)(_:World):Prop:=∃s:Svc,u=.agg (svV s)/\s.name.size<=10
def MvV(u:Value)(_:World):Prop:=∃m:Mv,u=.agg m.cells/\0<=m.age/\m.age<=1000/\m.ev.sized
def ReIs(r:Nat)(q:Int)(w:World)(e:Ending)(w':World):Prop:=∃(aq:Option Addr) (M:List Bx) (cq g1 k1 g2 k2 g3 k3:Nat) (B:Bk),e=.returned (.agg #[.slice aq M.length cq,.int .i64 B.now,.slice (ad g1) B.svcs.length k1,.slice (ad g2) B.cps.length k2,.slice (ad g3) B.bts.length k3])/\WA w' aq M (ad g1) (ad g2) (ad g3) B/\BkRow w' w.heap.size g1 g2 g3 k1 k2 k3 B/\Past r w.heap.size w w'/\Rd r w' q
theorem L4(s:ByteArray)(h:s.size<=10):Ev.sized ⟨5,sv0,s,0,false⟩:=⟨AJ _,by show s.size<=maxLen;unfold maxLen;omega⟩
theorem wish_ok(s:Svc)(h:s.name.size<=10):Ev.sized ⟨2,s,⟨#[]⟩,0,false⟩:=⟨by show s.name.size<=maxLen;unfold maxLen;omega,AJ _⟩
theorem L3(r:Nat)(q:Int)(w:World)(hR:Rd r w q)(hq:q<=100000000000):
  Calls Try.prog 76 #[.pointer (ad r)] w λe w'=>ReIs r (q+200000000) w e w':=by
 obtain⟨W0,hW0,t0,t1,hs0,hb0⟩:∃W0,(w.alloc (.cells #[.slice none 0 0,.int .i64 0,.slice none 0 0,.slice none 0 0,.slice none 0 0] 119)).alloc (.cells #[.slice none 0 0,.int .i64 0,.slice none 0 0,.slice none 0 0,.slice none 0 0] 119)=W0/\Bl W0 (w.heap.size) #[.slice none 0 0,.int .i64 0,.slice none 0 0,.slice none 0 0,.slice none 0 0] 119/\Bl W0 (w.heap.size+1) #[.slice none 0 0,.int .i64 0,.slice none 0 0,.slice none 0 0,.slice none 0 0] 119/\W0.heap.size=w.heap.size+1+1/\Below w.heap.size w W0:=by
  obtain⟨h1,h2,h3⟩:=Bh w (.cells #[.slice none 0 0,.int .i64 0,.slice none 0 0,.slice none 0 0,.slice none 0 0] 119) (.cells #[.slice none 0 0,.int .i64 0,.slice none 0 0,.slice none 0 0,.slice none 0 0] 119);exact⟨_,rfl,h1,h2,h3,(AO w _).alloc (by show w.heap.size<=(w.heap.push _).size;simp) _⟩
 have J0:Hid (ReU r (w.heap.size+1) w.heap.size w q W0):=⟨⟨none,[],0,none,none,none,0,0,0,noBk,t1,M8 _⟩,t0,hR.below hb0,.of hb0,hR.lt,by omega,AG _⟩;obtain⟨f,hf⟩:∃f,w.heap.size=f:=⟨_,rfl⟩;obtain⟨v,hv⟩:∃v,f+1=v:=⟨_,rfl⟩;have VZ:Hid _:=t1;rw[hf,hv]at J0;rw[hf,hv]at VZ;clear t0 t1 hR hs0 hb0;go_enter Try.func76,Try.ntmps76
 go_upto_region 2 with((with_reducible show wpList _ _ _ _ _ _);refine AM rfl 119 (.tmp 3) (.tmp 6) rfl v 0 #[.slice none 0 0,.int .i64 0,.slice none 0 0,.slice none 0 0,.slice none 0 0] rfl rfl 119 #[.slice none 0 0,.int .i64 0,.slice none 0 0,.slice none 0 0,.slice none 0 0] VZ.out AW (AD rfl) (by simp[Value.oneCell']) ?_;intro wi hz on;have JI:Hid (ReU r v f w q wi):=J0.out.put (ap:=none) (l:=[]) (cp:=0) (a1:=none) (a2:=none) (a3:=none) (c1:=0) (c2:=0) (c3:=0) (B:=noBk) on hz.out (M8 _);clear hz on;simp only[Act.put])
 clear hf hv hW0 J0 VZ;have J0:Hid _:=JI.out;obtain⟨ap,l,cp,a1,a2,a3,c1,c2,c3,B,hvx,hwa⟩:=J0.out.wx;have VX:Hid _:=hvx;have HA:Hid (WA _ ap l a1 a2 a3 B):=hwa;clear hvx hwa
 go_upto_region 3 with(first|((with_reducible show wpList _ _ _ _ _ _);refine wpList_load_row rfl 119 (.tmp 3) rfl v rfl 119 #[.slice ap l.length cp,.int .i64 B.now,.slice a1 B.svcs.length c1,.slice a2 B.cps.length c2,.slice a3 B.bts.length c3] (0,0) _ VX.out Try.underlying119 rfl AW ?_)|(go_at_call 83;refine(IJ l ap cp B a1 a2 a3 c1 c2 c3 ⟨0,0,⟨5,sv0,⟨#[97]⟩,0,false⟩⟩ _ (Int.le_refl 0) (by show(0:Int)<=1000;decide) (L4 _ (by decide)) HA.out).mono ?_;rintro e w4 ⟨vw,vq,rfl,hv⟩;obtain⟨aq,M,cq,z1,z2,z3,d1,d2,d3,D,rfl,hA,hb3⟩:=wis_iff.1 hv;have HA4:Hid (WA w4 aq M z1 z2 z3 D):=hA;have J4:Hid _:=J0.out.grew hb3;have VX4:Hid _:=AL hb3 VX.out (AB VX.out).1;clear hv hA hb3)|((with_reducible show wpList _ _ _ _ _ _);refine AM rfl 119 (.tmp 3) (.tmp 12) rfl v 0 #[.slice aq M.length cq,.int .i64 D.now,.slice z1 D.svcs.length d1,.slice z2 D.cps.length d2,.slice z3 D.bts.length d3] rfl rfl 119 #[.slice ap l.length cp,.int .i64 B.now,.slice a1 B.svcs.length c1,.slice a2 B.cps.length c2,.slice a3 B.bts.length c3] VX4.out AW (AD rfl) (by simp[Value.oneCell']) ?_;intro w1 hz on;have J1:Hid (ReU r v f w _ w1):=J4.out.put on hz.out HA4.out;clear hz on J4 HA4 VX4;simp only[Act.put]))
 clear VX HA J0
 go_upto_if 16 with(go_at_call 21;refine(Ao r 3 _ _ (by omega) (by omega) J1.out.rd (by omega)).mono ?_;rintro e w2 ⟨k2,rfl,hk,hs⟩;have J2:Hid _:=J1.out.step hs;have k20:=hk.1;have k21:=hk.2.1 (by omega);clear hk hs)
 go_cut [] from 6 (λwx=>ReU r v f w (q+2) wx)
 case first=>
  by_cases hk2:0<k2
  ·have hkb:decide (0<k2)=true:=by simp[hk2]
   obtain⟨ap,l,cp,a1,a2,a3,c1,c2,c3,B,hvx,hwa⟩:=J2.out.wx;have VX:Hid _:=hvx;have HA:Hid (WA _ ap l a1 a2 a3 B):=hwa;clear hvx hwa
   go_wp2_with (first|((with_reducible show wpList _ _ _ _ _ _);refine wpList_load_row rfl 119 (.tmp 3) rfl v rfl 119 #[.slice ap l.length cp,.int .i64 B.now,.slice a1 B.svcs.length c1,.slice a2 B.cps.length c2,.slice a3 B.bts.length c3] (0,0) _ VX.out Try.underlying119 rfl AW ?_)|(go_at_call 83;refine(IJ l ap cp B a1 a2 a3 c1 c2 c3 ⟨0,0,⟨5,sv0,⟨#[98]⟩,0,false⟩⟩ _ (Int.le_refl 0) (by show(0:Int)<=1000;decide) (L4 _ (by decide)) HA.out).mono ?_;rintro e w4 ⟨vw,vq,rfl,hv⟩;obtain⟨aq,M,cq,z1,z2,z3,d1,d2,d3,D,rfl,hA,hb3⟩:=wis_iff.1 hv;have HA4:Hid (WA w4 aq M z1 z2 z3 D):=hA;have J4:Hid _:=J2.out.grew hb3;have VX4:Hid _:=AL hb3 VX.out (AB VX.out).1;clear hv hA hb3)|((with_reducible show wpList _ _ _ _ _ _);refine AM rfl 119 (.tmp 3) (.tmp 22) rfl v 0 #[.slice aq M.length cq,.int .i64 D.now,.slice z1 D.svcs.length d1,.slice z2 D.cps.length d2,.slice z3 D.bts.length d3] rfl rfl 119 #[.slice ap l.length cp,.int .i64 B.now,.slice a1 B.svcs.length c1,.slice a2 B.cps.length c2,.slice a3 B.bts.length c3] VX4.out AW (AD rfl) (by simp[Value.oneCell']) ?_;intro w3 hz on;have J3:Hid (ReU r v f w _ w3):=J4.out.put on hz.out HA4.out;clear hz on J4 HA4 VX4;simp only[Act.put]))
   go_meet;exact J3.out.mono (by omega)
  ·have hkb:decide (0<k2)=false:=by simp[hk2]
   go_wp2;go_meet;exact J2.out.mono (by omega)
 clear J1 J2;have J3:Hid (ReU r v f w (q+2) wc):=hcut;clear hcut
 go_upto_region 6 with(go_at_call 21;refine(Ao r 2 _ _ (by omega) (by omega) J3.out.rd (by omega)).mono ?_;rintro e w4 ⟨k4,rfl,hk,hs⟩;have J4:Hid _:=J3.out.step hs;have k40:=hk.1;have k41:=hk.2.1 (by omega);clear hk hs)
 obtain⟨n4,hn4⟩:∃n4:Nat,1+k4=n4:=⟨(1+k4).toNat,by omega⟩;have hn4b:n4<=2:=by omega
 rw[hn4];clear J3 hn4
 go_loopw [4] (λiv wr=>∃m:Nat,iv=.int .i64 m/\m<=2/\ReU r v f w (q+10+(2 - (m:Int))*100) wr) (λi _=>(intOf i).toNat)
 case atStart=>exact⟨n4,rfl,hn4b,J4.out.mono (by omega)⟩
 case round=>
  clear J4;obtain⟨m,rfl,hm,hJ⟩:=hrel;have JR:Hid (ReU r v f w (q+10+(2 - (m:Int))*100) wr):=hJ;clear hJ
  by_cases hm0:m=0
  rotate_left
  ·obtain⟨m',rfl⟩:∃m',m=m'+1:=⟨m - 1,by omega⟩
   have hmb:decide (0<((m'+1:Nat):Int))=true:=decide_eq_true (by omega)
   go_upto_region 8 with fail
   refine EM 10 rfl 2 (λW=>ReU r v f w (q+10+(2 - ((m'+1:Nat):Int))*100+100) W) (λW=>Rd r W (q+10+(2 - ((m'+1:Nat):Int))*100)) (Mn 2 9 (LL r (q+10+(2 - ((m'+1:Nat):Int))*100+100)) (Ll r v f w)) (by kernel_rfl) (by kernel_rfl) ((JR.out.grew (II _)).mono (by omega)) (JR.out.rd.below (II _)) (λi W W' h hr=>re_inv h hr) (λi W W' hi h hr=>Np hi h hr) ?_;refine BL (WV) (λi hi _ W W' h hr=>h.rel3 hr) ?_ ?_
   ·intro V W K A hI hZ hd hA hK
    simp only[pA]at hA;clear hd;obtain rfl:=hA;obtain⟨ap,l,cp,a1,a2,a3,c1,c2,c3,B,hvx,hwa⟩:=hI.wx;refine wpList_load_row rfl 119 (.tmp 3) rfl v rfl 119 #[.slice ap l.length cp,.int .i64 B.now,.slice a1 B.svcs.length c1,.slice a2 B.cps.length c2,.slice a3 B.bts.length c3] (0,0) _ hvx Try.underlying119 rfl AW ?_;go_wp2;exact hK.out _ _ brf ⟨ap,l,cp,a1,a2,a3,c1,c2,c3,B,rfl,hwa⟩
   apply CV
   ·intro V W K A hI hZ hd hA hK
    simp only[pA]at hA;clear hd;obtain rfl:=hA;go_wp2;exact hK.out _ brf
   refine BL (SvV) (λ_ _ _ _ _ h _=>h) ?_ ?_
   ·intro V W K A hI hZ hd hA hK
    have d1:V 1=_:=hd 1 (by kernel_rfl);simp only[pA,d1]at hA;clear hd d1;obtain rfl:=hA;have h0:=hZ rfl
    go_wp2_with fail
    refine(Ho r _ W h0 (by omega)).mono ?_;rintro e w2 ⟨s,rfl,hs,hp,hr⟩;go_wp2;exact hK.out _ _ ⟨⟨_,h0⟩,hp,hr⟩ ⟨s,rfl,hs⟩
   refine BL (λu _=>∃s:Svc,u=.agg (Ev.cells ⟨2,s,⟨#[]⟩,0,false⟩)/\s.name.size<=10) (λ_ _ _ _ _ h _=>h) ?_ ?_
   ·intro V W K A hI hZ hd hA hK
    have d2:(SvV) (V 2) W:=hd 2 (by kernel_rfl);simp only[pA]at hA;clear hd;generalize V 2=x2 at d2 hA;obtain rfl:=hA;obtain⟨s,rfl,hs⟩:=d2;go_wp2;exact hK.out _ _ brf ⟨s,rfl,hs⟩
   refine BL (MvV) (λ_ _ _ _ _ h _=>h) ?_ ?_
   ·intro V W K A hI hZ hd hA hK
    have d3:(λu _=>∃s:Svc,u=.agg (Ev.cells ⟨2,s,⟨#[]⟩,0,false⟩)/\s.name.size<=10) (V 3) W:=hd 3 (by kernel_rfl);simp only[pA]at hA;clear hd;generalize V 3=x3 at d3 hA;obtain rfl:=hA;obtain⟨s,he,hs⟩:=d3;simp only[Ev.cells]at he;subst he;go_wp2;exact hK.out _ _ brf ⟨⟨0,0,⟨2,s,⟨#[]⟩,0,false⟩⟩,rfl,Int.le_refl 0,by show(0:Int)<=1000;decide,wish_ok s hs⟩
   refine BL (λu W=>∃vw vq,u=.tuple #[vw,vq]/\WV vw W) (λi hi _ W W' ⟨vw,vq,e,h⟩ hr=>⟨vw,vq,e,h.rel3 hr⟩) ?_ ?_
   ·intro V W K A hI hZ hd hA hK
    have d0:(WV) (V 0) W:=hd 0 (by kernel_rfl);have d4:(MvV) (V 4) W:=hd 4 (by kernel_rfl);simp only[pA]at hA;clear hd;generalize V 0=x0 at d0 hA;generalize V 4=x4 at d4 hA;obtain rfl:=hA;obtain⟨ap,l,cp,a1,a2,a3,c1,c2,c3,B,rfl,hwa⟩:=d0;obtain⟨m,hm,hm0,hm1,hm2⟩:=d4;simp only[Mv.cells]at hm;subst hm
    go_wp2_with fail
    refine(IJ l ap cp B a1 a2 a3 c1 c2 c3 m W hm0 hm1 hm2 hwa).mono ?_;rintro e w4 ⟨vw,vq,rfl,hv⟩;obtain⟨aq,M,cq,z1,z2,z3,d1,d2,d3,D,rfl,hA,hb3⟩:=wis_iff.1 hv;go_wp2;exact hK.out _ _ hb3 ⟨_,_,rfl,aq,M,cq,z1,z2,z3,d1,d2,d3,D,rfl,hA⟩
   refine BL (λu W=>∃vw vq,u=.tuple #[vw,vq]/\WV vw W) (λi hi _ W W' ⟨vw,vq,e,h⟩ hr=>⟨vw,vq,e,h.rel3 hr⟩) ?_ ?_
   ·intro V W K A hI hZ hd hA hK
    have d5:(λu W=>∃vw vq,u=.tuple #[vw,vq]/\WV vw W) (V 5) W:=hd 5 (by kernel_rfl);simp only[pA]at hA;clear hd;generalize V 5=x5 at d5 hA;obtain rfl:=hA;obtain⟨vw,vq,rfl,h⟩:=d5;go_wp2;exact hK.out _ _ brf ⟨vw,vq,rfl,h⟩
   refine BL (WV) (λi hi _ W W' h hr=>h.rel3 hr) ?_ ?_
   ·intro V W K A hI hZ hd hA hK
    have d6:(λu W=>∃vw vq,u=.tuple #[vw,vq]/\WV vw W) (V 6) W:=hd 6 (by kernel_rfl);simp only[pA]at hA;clear hd;generalize V 6=x6 at d6 hA;obtain rfl:=hA;obtain⟨vw,vq,rfl,h⟩:=d6;go_wp2;exact hK.out _ _ brf h
   refine BL (λ_ _=>True) (λ_ _ _ _ _ _ _=>trivial) ?_ ?_
   ·intro V W K A hI hZ hd hA hK
    have d6:(λu W=>∃vw vq,u=.tuple #[vw,vq]/\WV vw W) (V 6) W:=hd 6 (by kernel_rfl);simp only[pA]at hA;clear hd;generalize V 6=x6 at d6 hA;obtain rfl:=hA;obtain⟨vw,vq,rfl,h⟩:=d6;go_wp2;exact hK.out _ _ brf trivial
   refine BL (λ_ _=>True) (λ_ _ _ _ _ _ _=>trivial) ?_ ?_
   ·intro V W K A hI hZ hd hA hK
    have d7:(WV) (V 7) W:=hd 7 (by kernel_rfl);simp only[pA]at hA;clear hd;generalize V 7=x7 at d7 hA;obtain rfl:=hA;obtain⟨aq,M,cq,z1,z2,z3,d1,d2,d3,D,rfl,hA⟩:=d7;obtain⟨ap,l,cp,a1,a2,a3,c1,c2,c3,B,hvx,hwa⟩:=hI.wx;have HI1:Hid _:=hI;have HVX:Hid _:=hvx;have HA2:Hid (WA W aq M z1 z2 z3 D):=hA;clear hvx hwa hA hI;refine AM rfl 119 (.tmp 3) (.tmp 38) rfl v 0 #[.slice aq M.length cq,.int .i64 D.now,.slice z1 D.svcs.length d1,.slice z2 D.cps.length d2,.slice z3 D.bts.length d3] rfl rfl 119 #[.slice ap l.length cp,.int .i64 B.now,.slice a1 B.svcs.length c1,.slice a2 B.cps.length c2,.slice a3 B.bts.length c3] HVX.out AW (AD rfl) (by simp[Value.oneCell']) ?_;intro w7 hz on;have HR:Hid (Ll r v f w W w7):=Nq HI1.out on hz.out HA2.out;clear hz on;go_wp2;exact hK.out undef _ HR.out trivial
   intro V W A hI hS hA;have d1:V 1=_:=hS 1 (by decide);simp only[pA,d1]at hA;clear hS d1;obtain rfl:=hA;have JN:Hid _:=hI;clear hI;go_wp2
   go_roundw
   case rel=>exact⟨m',by go_num,by omega,JN.out.mono (by omega)⟩
   case measure=>simp[intOf]
  subst hm0;have hmb:decide (0<((0:Nat):Int))=false:=by decide
  go_upto_region 10 with(go_at_call 21;refine(Ao r 50 _ _ (by omega) (by omega) JR.out.rd (by omega)).mono ?_;rintro e w5 ⟨k5,rfl,hk,hs⟩;have J5:Hid _:=JR.out.step hs;have k50:=hk.1;have k51:=hk.2.1 (by omega);clear hk hs)
  obtain⟨n5,hn5⟩:∃n5:Nat,k5=n5:=⟨k5.toNat,by omega⟩;subst hn5;clear JR
  go_loopw [5] (λiv wr=>∃m:Nat,iv=.int .i64 m/\m<=49/\ReU r v f w (q+1000+(49 - (m:Int))*3000000) wr) (λi _=>(intOf i).toNat)
  case atStart=>exact⟨n5,rfl,by omega,J5.out.mono (by omega)⟩
  case round=>
   clear J5;obtain⟨m,rfl,hm,hJ⟩:=hrel;have J6:Hid (ReU r v f w (q+1000+(49 - (m:Int))*3000000) wr):=hJ;clear hJ
   by_cases hm0:m=0
   ·subst hm0
    have hmb:decide (0<((0:Nat):Int))=false:=by decide
    obtain⟨ap,l,cp,a1,a2,a3,c1,c2,c3,B,hvx,hwa⟩:=J6.out.wx;have VX:Hid _:=hvx;have HA:Hid (WA _ ap l a1 a2 a3 B):=hwa;clear hvx hwa
    go_wp2_with (first
     |((with_reducible show wpList _ _ _ _ _ _);refine wpList_load_row rfl 119 (.tmp 3) rfl v rfl 119 #[.slice ap l.length cp,.int .i64 B.now,.slice a1 B.svcs.length c1,.slice a2 B.cps.length c2,.slice a3 B.bts.length c3] (0,0) _ VX.out Try.underlying119 rfl AW ?_)
     |(go_at_call 87;refine(Ma l ap cp B a1 a2 a3 c1 c2 c3 _ HA.out).mono ?_;rintro e w9 ⟨aq,M,cq,g1,k1,g2,k2,g3,k3,rfl,hA,hbk,hb9⟩;have HA9:Hid (WA w9 aq M _ _ _ B):=hA;have HB9:Hid _:=hbk;have J9:Hid _:=J6.out.grew hb9;clear hA hb9 hbk)
     |((with_reducible show wpList _ _ _ _ _ _);refine AM rfl 119 (.tmp 2) (.tmp 70) rfl f 0 #[.slice aq M.length cq,.int .i64 B.now,.slice (ad g1) B.svcs.length k1,.slice (ad g2) B.cps.length k2,.slice (ad g3) B.bts.length k3] rfl rfl 119 #[.slice none 0 0,.int .i64 0,.slice none 0 0,.slice none 0 0,.slice none 0 0] J9.out.vf AW (AD rfl) (by simp[Value.oneCell']) ?_;intro wz hz on;simp only[Act.put]))
    refine bodyPost_ret (results_cell_row rfl _ wz f 119 #[.slice aq M.length cq,.int .i64 B.now,.slice (ad g1) B.svcs.length k1,.slice (ad g2) B.cps.length k2,.slice (ad g3) B.bts.length k3] (0,0) _ rfl hz.out Try.underlying119 rfl AW) rfl ?_;have h5:=J9.out.n0;have h6:=J9.out.rf;have h7:=J6.out.past.size;exact⟨aq,M,cq,g1,k1,g2,k2,g3,k3,B,rfl,HA9.out.only (Es J9.out.vf) on,(HB9.out.n h7).tame (GV J9.out.vf on),J9.out.past.trans (.of (on.below.mono h5)),(J9.out.rd.only J9.out.vf on (by omega) w_no).mono (by omega)⟩
   obtain⟨m',rfl⟩:∃m',m=m'+1:=⟨m - 1,by omega⟩;have hmb:decide (0<((m'+1:Nat):Int))=true:=decide_eq_true (by omega)
   go_upto_region 12 with fail
   refine EM 10 rfl 4 (λW=>ReU r v f w (q+1000+(49 - ((m'+1:Nat):Int))*3000000+2000010) W) (λW=>Rd r W (q+1000+(49 - ((m'+1:Nat):Int))*3000000)) (Mn 4 9 (LL r (q+1000+(49 - ((m'+1:Nat):Int))*3000000+2000010)) (Ll r v f w)) (by kernel_rfl) (by kernel_rfl) ((J6.out.grew (II _)).mono (by omega)) (J6.out.rd.below (II _)) (λi W W' h hr=>re_inv h hr) (λi W W' hi h hr=>Np hi h hr) ?_;refine BL (WV) (λi hi _ W W' h hr=>h.rel3 hr) ?_ ?_
   ·intro V W K A hI hZ hd hA hK
    simp only[pA]at hA;clear hd;obtain rfl:=hA;obtain⟨ap,l,cp,a1,a2,a3,c1,c2,c3,B,hvx,hwa⟩:=hI.wx;refine wpList_load_row rfl 119 (.tmp 3) rfl v rfl 119 #[.slice ap l.length cp,.int .i64 B.now,.slice a1 B.svcs.length c1,.slice a2 B.cps.length c2,.slice a3 B.bts.length c3] (0,0) _ hvx Try.underlying119 rfl AW ?_;go_wp2;exact hK.out _ _ brf ⟨ap,l,cp,a1,a2,a3,c1,c2,c3,B,rfl,hwa⟩
   apply CV
   ·intro V W K A hI hZ hd hA hK
    simp only[pA]at hA;clear hd;obtain rfl:=hA;go_wp2;exact hK.out _ brf
   apply CV
   ·intro V W K A hI hZ hd hA hK
    simp only[pA]at hA;clear hd;obtain rfl:=hA;go_wp2;exact hK.out _ brf
   refine BL (BV) (λi hi _ W W' h hr=>h.rel3 hr) ?_ ?_
   ·intro V W K A hI hZ hd hA hK
    have d2:V 2=_:=hd 2 (by kernel_rfl);simp only[pA,d2]at hA;clear hd d2;obtain rfl:=hA;obtain⟨ap,l,cp,a1,a2,a3,c1,c2,c3,B,hvx,hwa⟩:=hI.wx;have e1:W.cell? ⟨v,1,none⟩=some (.int .i64 B.now):=AK hvx 1 rfl;have e2:W.cell? ⟨v,2,none⟩=some (.slice a1 B.svcs.length c1):=AK hvx 2 rfl;have e3:W.cell? ⟨v,3,none⟩=some (.slice a2 B.cps.length c2):=AK hvx 3 rfl;have e4:W.cell? ⟨v,4,none⟩=some (.slice a3 B.bts.length c3):=AK hvx 4 rfl;clear hvx;go_wp2;exact hK.out _ _ brf ⟨a1,a2,a3,c1,c2,c3,B,rfl,hwa.wat.book,hwa.ok.bz,hwa.ok.bs⟩
   refine BL (MvV) (λ_ _ _ _ _ h _=>h) ?_ ?_
   ·intro V W K A hI hZ hd hA hK
    have d1:V 1=_:=hd 1 (by kernel_rfl);have d3:(BV) (V 3) W:=hd 3 (by kernel_rfl);simp only[pA,d1]at hA;clear hd d1;generalize V 3=x3 at d3 hA;obtain rfl:=hA;have h0:=hZ rfl;obtain⟨x1,x2,x3,y1,y2,y3,C,rfl,hC,hCz,hCs⟩:=d3
    go_wp2_with fail
    refine(move_any r _ C x1 x2 x3 y1 y2 y3 W hCs.small hCz hC h0 (by omega)).mono ?_;rintro e w2 ⟨m,rfl,⟨_,_,hm0,hm1,hm2⟩,hp,hr⟩;go_wp2;exact hK.out _ _ ⟨⟨_,h0⟩,hp,hr⟩ ⟨m,rfl,hm0,by omega,hm2⟩
   refine BL (λu W=>∃vw vq,u=.tuple #[vw,vq]/\WV vw W) (λi hi _ W W' ⟨vw,vq,e,h⟩ hr=>⟨vw,vq,e,h.rel3 hr⟩) ?_ ?_
   ·intro V W K A hI hZ hd hA hK
    have d0:(WV) (V 0) W:=hd 0 (by kernel_rfl);have d4:(MvV) (V 4) W:=hd 4 (by kernel_rfl);simp only[pA]at hA;clear hd;generalize V 0=x0 at d0 hA;generalize V 4=x4 at d4 hA;obtain rfl:=hA;obtain⟨ap,l,cp,a1,a2,a3,c1,c2,c3,B,rfl,hwa⟩:=d0;obtain⟨m,hm,hm0,hm1,hm2⟩:=d4;simp only[Mv.cells]at hm;subst hm
    go_wp2_with fail
    refine(IJ l ap cp B a1 a2 a3 c1 c2 c3 m W hm0 hm1 hm2 hwa).mono ?_;rintro e w4 ⟨vw,vq,rfl,hv⟩;obtain⟨aq,M,cq,z1,z2,z3,d1,d2,d3,D,rfl,hA,hb3⟩:=wis_iff.1 hv;go_wp2;exact hK.out _ _ hb3 ⟨_,_,rfl,aq,M,cq,z1,z2,z3,d1,d2,d3,D,rfl,hA⟩
   refine BL (λu W=>∃vw vq,u=.tuple #[vw,vq]/\WV vw W) (λi hi _ W W' ⟨vw,vq,e,h⟩ hr=>⟨vw,vq,e,h.rel3 hr⟩) ?_ ?_
   ·intro V W K A hI hZ hd hA hK
    have d5:(λu W=>∃vw vq,u=.tuple #[vw,vq]/\WV vw W) (V 5) W:=hd 5 (by kernel_rfl);simp only[pA]at hA;clear hd;generalize V 5=x5 at d5 hA;obtain rfl:=hA;obtain⟨vw,vq,rfl,h⟩:=d5;go_wp2;exact hK.out _ _ brf ⟨vw,vq,rfl,h⟩
   refine BL (WV) (λi hi _ W W' h hr=>h.rel3 hr) ?_ ?_
   ·intro V W K A hI hZ hd hA hK
    have d6:(λu W=>∃vw vq,u=.tuple #[vw,vq]/\WV vw W) (V 6) W:=hd 6 (by kernel_rfl);simp only[pA]at hA;clear hd;generalize V 6=x6 at d6 hA;obtain rfl:=hA;obtain⟨vw,vq,rfl,h⟩:=d6;go_wp2;exact hK.out _ _ brf h
   refine BL (λ_ _=>True) (λ_ _ _ _ _ _ _=>trivial) ?_ ?_
   ·intro V W K A hI hZ hd hA hK
    have d6:(λu W=>∃vw vq,u=.tuple #[vw,vq]/\WV vw W) (V 6) W:=hd 6 (by kernel_rfl);simp only[pA]at hA;clear hd;generalize V 6=x6 at d6 hA;obtain rfl:=hA;obtain⟨vw,vq,rfl,h⟩:=d6;go_wp2;exact hK.out _ _ brf trivial
   refine BL (λ_ _=>True) (λ_ _ _ _ _ _ _=>trivial) ?_ ?_
   ·intro V W K A hI hZ hd hA hK
    have d7:(WV) (V 7) W:=hd 7 (by kernel_rfl);simp only[pA]at hA;clear hd;generalize V 7=x7 at d7 hA;obtain rfl:=hA;obtain⟨aq,M,cq,z1,z2,z3,d1,d2,d3,D,rfl,hA⟩:=d7;obtain⟨ap,l,cp,a1,a2,a3,c1,c2,c3,B,hvx,hwa⟩:=hI.wx;have HI1:Hid _:=hI;have HVX:Hid _:=hvx;have HA2:Hid (WA W aq M z1 z2 z3 D):=hA;clear hvx hwa hA hI;refine AM rfl 119 (.tmp 3) (.tmp 53) rfl v 0 #[.slice aq M.length cq,.int .i64 D.now,.slice z1 D.svcs.length d1,.slice z2 D.cps.length d2,.slice z3 D.bts.length d3] rfl rfl 119 #[.slice ap l.length cp,.int .i64 B.now,.slice a1 B.svcs.length c1,.slice a2 B.cps.length c2,.slice a3 B.bts.length c3] HVX.out AW (AD rfl) (by simp[Value.oneCell']) ?_;intro w7 hz on;have HR:Hid (Ll r v f w W w7):=Nq HI1.out on hz.out HA2.out;clear hz on;go_wp2;exact hK.out undef _ HR.out trivial
   intro V W A hI hS hA;have d1:V 1=_:=hS 1 (by decide);have d2:V 2=_:=hS 2 (by decide);simp only[pA,d1,d2]at hA;clear hS d1 d2;obtain rfl:=hA;have J7:Hid _:=hI;clear hI
   go_upto_if 57 with(go_at_call 21;refine(Ao r 8 _ _ (by omega) (by omega) J7.out.rd (by omega)).mono ?_;rintro e w8 ⟨k8,rfl,hk,hs⟩;have J8:Hid _:=J7.out.step hs;have k80:=hk.1;have k81:=hk.2.1 (by omega);clear hk hs)
   by_cases hk8:k8=0
   rotate_left
   ·have hkb:(k8==0)=false:=by simp[hk8]
    go_wp2
    go_roundw
    case rel=>exact⟨m',by go_num,by omega,J8.out.mono (by omega)⟩
    case measure=>simp[intOf]
   subst hk8;obtain⟨ap,l,cp,a1,a2,a3,c1,c2,c3,B,hvx,hwa⟩:=J8.out.wx;have VX:Hid _:=hvx;have HA:Hid (WA _ ap l a1 a2 a3 B):=hwa;clear hvx hwa;have JR:Hid _:=J8.out;have hvs:=(AB VX.out).1;have hvr:v≠r:=by have:=J8.out.rf;have:=J8.out.fv;omega
   have hR8:=J8.out.rd
   go_upto_region 14 with fail
   refine BN 11 r 1 _ (by kernel_rfl) (by kernel_rfl) hR8 ?_;apply Cn
   ·intro V W K A hW hR hd hA hK
    simp only[pA]at hA;clear hd;obtain rfl:=hA;refine wpList_load_row rfl 119 (.tmp 3) rfl v rfl 119 #[.slice ap l.length cp,.int .i64 B.now,.slice a1 B.svcs.length c1,.slice a2 B.cps.length c2,.slice a3 B.bts.length c3] (0,0) _ (BD hW VX.out hvs hvr) Try.underlying119 rfl AW ?_;go_wp2;exact hK.out _ (RStep.re _)
   apply Cn
   ·intro V W K A hW hR hd hA hK
    simp only[pA]at hA;clear hd;obtain rfl:=hA;go_wp2;exact hK.out _ (RStep.re _)
   refine Am (Pk 7) Fi ?_ ?_
   ·intro V W K A hW hR hd hA hK
    have d1:V 1=_:=hd 1 (by kernel_rfl);simp only[pA,d1]at hA;clear hd d1;obtain rfl:=hA
    go_wp2_with fail
    refine(Ao r 7 _ W (by omega) (by omega) hR (by omega)).mono ?_;rintro e w2 ⟨k,rfl,hk,hs⟩;go_wp2;exact hK.out _ _ hs ⟨k,rfl,hk⟩
   apply Cn
   ·intro V W K A hW hR hd hA hK
    simp only[pA]at hA;clear hd;obtain rfl:=hA;go_wp2;exact hK.out _ (RStep.re _)
   refine Am (Pk 6) Fi ?_ ?_
   ·intro V W K A hW hR hd hA hK
    have d3:V 3=_:=hd 3 (by kernel_rfl);simp only[pA,d3]at hA;clear hd d3;obtain rfl:=hA
    go_wp2_with fail
    refine(Ao r 6 _ W (by omega) (by omega) hR (by omega)).mono ?_;rintro e w2 ⟨k,rfl,hk,hs⟩;go_wp2;exact hK.out _ _ hs ⟨k,rfl,hk⟩
   refine Am (λu _=>∃k:Int,u=.int .i64 k) (λ_ _ _ h _ _=>h) ?_ ?_
   ·intro V W K A hW hR hd hA hK
    have d4:(Pk 6) (V 4) W:=hd 4 (by kernel_rfl);simp only[pA]at hA;clear hd;generalize V 4=x4 at d4 hA;obtain rfl:=hA;obtain⟨k,rfl,hk⟩:=d4;go_wp2;exact hK.out _ _ (RStep.re _) ⟨_,rfl⟩
   apply Cn
   ·intro V W K A hW hR hd hA hK
    simp only[pA]at hA;clear hd;obtain rfl:=hA;go_wp2;exact hK.out _ (RStep.re _)
   refine Am (Pk 6) Fi ?_ ?_
   ·intro V W K A hW hR hd hA hK
    have d6:V 6=_:=hd 6 (by kernel_rfl);simp only[pA,d6]at hA;clear hd d6;obtain rfl:=hA
    go_wp2_with fail
    refine(Ao r 6 _ W (by omega) (by omega) hR (by omega)).mono ?_;rintro e w2 ⟨k,rfl,hk,hs⟩;go_wp2;exact hK.out _ _ hs ⟨k,rfl,hk⟩
   refine Am (λu _=>∃k:Int,u=.int .i64 k) (λ_ _ _ h _ _=>h) ?_ ?_
   ·intro V W K A hW hR hd hA hK
    have d7:(Pk 6) (V 7) W:=hd 7 (by kernel_rfl);simp only[pA]at hA;clear hd;generalize V 7=x7 at d7 hA;obtain rfl:=hA;obtain⟨k,rfl,hk⟩:=d7;go_wp2;exact hK.out _ _ (RStep.re _) ⟨_,rfl⟩
   refine Am (λu W=>∃g,u=.slice (ad g) 2 2/\g≠r/\IntRow W g 2 2) (λ_ W W' ⟨g,e,h1,h2⟩ hs _=>⟨g,e,h1,h2.blk (hs.1.block g h2.lt h1)⟩) ?_ ?_
   ·intro V W K A hW hR hd hA hK
    have d5:(λu _=>∃k:Int,u=.int .i64 k) (V 5) W:=hd 5 (by kernel_rfl);have d8:(λu _=>∃k:Int,u=.int .i64 k) (V 8) W:=hd 8 (by kernel_rfl);simp only[pA]at hA;clear hd;generalize V 5=x5 at d5 hA;generalize V 8=x8 at d8 hA;obtain rfl:=hA;obtain⟨k,rfl⟩:=d5;obtain⟨k',rfl⟩:=d8;have hlt:=hR.lt;go_wp2;exact hK.out _ _ (.of (AO _ _)) ⟨W.heap.size,rfl,by omega,int_row (cs:=#[.int .i64 k,.int .i64 k']) (heap_alloc_new W _) (λu hu=>by simp at hu;rcases hu with rfl|rfl<;>exact⟨_,rfl⟩)⟩
   refine Am (WV) (λ_ W W' h hs ⟨q,hq⟩=>h.past hq hs.1) ?_ ?_
   ·intro V W K A hW hR hd hA hK
    have d0:V 0=_:=hd 0 (by kernel_rfl);have d2:(Pk 7) (V 2) W:=hd 2 (by kernel_rfl);have d9:(λu W=>∃g,u=.slice (ad g) 2 2/\g≠r/\IntRow W g 2 2) (V 9) W:=hd 9 (by kernel_rfl);simp only[pA,d0]at hA;clear hd d0;generalize V 2=x2 at d2 hA;generalize V 9=x9 at d9 hA;obtain rfl:=hA;obtain⟨k,rfl,hk⟩:=d2;obtain⟨g,rfl,_,hi⟩:=d9;have k0:=hk.1;have k1:=hk.2.1 (by omega)
    go_wp2_with fail
    refine(calm_any l ap cp B a1 a2 a3 c1 c2 c3 k g 2 2 W k0 (by omega) (by omega) hi (HA.out.past JR.out.rd hW)).mono ?_;rintro e w4 ⟨u,rfl,hv⟩;obtain⟨aq,M,cq,z1,z2,z3,d1,d2,d3,D,rfl,hA,hb3⟩:=wis_iff.1 hv;go_wp2;exact hK.out _ _ (.of hb3) ⟨aq,M,cq,z1,z2,z3,d1,d2,d3,D,rfl,hA⟩
   intro V W A hW hR hS hA;have d0:V 0=_:=hS 0 (by omega);have d1:V 1=_:=hS 1 (by omega);have d2:(Pk 7) (V 2) W:=hS 2 (by omega);have d3:V 3=_:=hS 3 (by omega);have d4:(Pk 6) (V 4) W:=hS 4 (by omega);have d5:(λu _=>∃k:Int,u=.int .i64 k) (V 5) W:=hS 5 (by omega);have d6:V 6=_:=hS 6 (by omega);have d7:(Pk 6) (V 7) W:=hS 7 (by omega);have d8:(λu _=>∃k:Int,u=.int .i64 k) (V 8) W:=hS 8 (by omega);have d9:(λu W=>∃g,u=.slice (ad g) 2 2/\g≠r/\IntRow W g 2 2) (V 9) W:=hS 9 (by omega);have d10:(WV) (V 10) W:=hS 10 (by omega);simp only[pA,d0,d1,d3,d6]at hA;clear hS d0 d1 d3 d6;generalize V 2=x2 at d2 hA;generalize V 4=x4 at d4 hA;generalize V 5=x5 at d5 hA;generalize V 7=x7 at d7 hA;generalize V 8=x8 at d8 hA;generalize V 9=x9 at d9 hA;generalize V 10=x10 at d10 hA;obtain rfl:=hA;simp only[List.drop_succ_cons,List.drop_zero];clear d2 d4 d5 d7 d8 d9;obtain⟨aq,M,cq,z1,z2,z3,d1,d2,d3,D,rfl,hA⟩:=d10;have J9:Hid _:=J8.out.go hW hR;have HA9:Hid (WA W aq M z1 z2 z3 D):=hA;have VX9:Hid _:=BD hW VX.out hvs hvr;clear hA hW hR hR8
   go_upto_region 11 with((with_reducible show wpList _ _ _ _ _ _);refine AM rfl 119 (.tmp 3) (.tmp 68) rfl v 0 #[.slice aq M.length cq,.int .i64 D.now,.slice z1 D.svcs.length d1,.slice z2 D.cps.length d2,.slice z3 D.bts.length d3] rfl rfl 119 #[.slice ap l.length cp,.int .i64 B.now,.slice a1 B.svcs.length c1,.slice a2 B.cps.length c2,.slice a3 B.bts.length c3] VX9.out AW (AD rfl) (by simp[Value.oneCell']) ?_;intro w10 hz on;have JA:Hid (ReU r v f w _ w10):=J9.out.put on hz.out HA9.out;clear hz on;simp only[Act.put])
   go_wp2
   go_roundw
   case rel=>exact⟨m',by go_num,by omega,JA.out.mono (by omega)⟩
   case measure=>simp[intOf]
def NmIs(r:Nat)(q:Int)(w:World)(e:Ending)(w':World):Prop:=∃s:ByteArray,e=.returned (.string s)/\s.size<=maxLen/\Past r w.heap.size w w'/\Rd r w' q
theorem name_any(r:Nat)(q:Int)(B:Bk)(a1 a2 a3:Option Addr)(c1 c2 c3:Nat)(w:World)(hS:B.small)(hZ:B.sized)(hB:BkAt w a1 a2 a3 B)(hR:Rd r w q)(hq:q<=900000000000):
  Calls Try.prog 22 #[.pointer (ad r),.agg (bkV B a1 c1 a2 c2 a3 c3)] w λe w'=>NmIs r (q+100) w e w':=by
 have HZ:Hid (B.sized):=hZ;have hs1:=hS.1;have hlt:=hR.lt;obtain⟨W0,hW0⟩:∃W0,w.alloc (.cells (bkV B a1 c1 a2 c2 a3 c3) 27)=W0:=⟨_,rfl⟩;have hb0:Below w.heap.size w W0:=by rw[<-hW0];exact AO _ _
 have VX:Hid (Bl W0 (w.heap.size) (bkV B a1 c1 a2 c2 a3 c3) 27):=by unfold Hid;rw[<-hW0];exact heap_alloc_new w _
 have R0:Hid (Rd r W0 q):=hR.below hb0;have HB:Hid (BkAt W0 a1 a2 a3 B):=hB.below hb0;obtain⟨x,hx⟩:∃x,w.heap.size=x:=⟨_,rfl⟩;clear hR hB hZ hS;go_enter Try.func22,Try.ntmps22
 go_upto_region 1 with fail
 rw[hx]at VX;clear hW0;have e1:W0.cell? ⟨x,1,none⟩=some (.slice a1 B.svcs.length c1):=AK VX.out 1 rfl
 go_cut [13] from 5 (λv wx=>∃b:Bool,v=.bool b/\(b=true->0<B.svcs.length)/\Past r W0.heap.size W0 wx/\Rd r wx (q+1))
 case first=>
  by_cases hl:B.svcs.length=0
  ·have hlb:decide (0<(B.svcs.length:Int))=false:=by simp[hl]
   go_wp2;go_meet;exact⟨false,rfl,(λh=>by cases h),Past.refl _ _ _,R0.out.mono (by omega)⟩
  ·have hlb:decide (0<(B.svcs.length:Int))=true:=by simp;omega
   go_wp2_with (go_at_call 21;refine(Ao r 6 _ _ (by omega) (by omega) R0.out (by omega)).mono ?_;rintro e w1 ⟨k1,rfl,hk,hs⟩;have P1:Hid _:=hs;clear hk hs)
   go_meet;exact⟨_,rfl,λ_=>by omega,P1.out.1,P1.out.2 _ R0.out⟩
 obtain⟨b,rfl,hbl,hp,hr⟩:=hcut;have HP:Hid _:=hp;have HR:Hid (Rd r wc (q+1)):=hr;have VX:Hid _:=BD hp VX.out (AB VX.out).1 (by omega);have HB:Hid (BkAt wc a1 a2 a3 B):=HB.out.past R0.out hp;have hbp:Below w.heap.size w W0:=hb0;clear hp hr e1 R0;cases b
 ·go_wp2_with (go_at_call 21;refine(Ao r 3 _ _ (by omega) (by omega) (HR.out.below (AO _ _)) (by omega)).mono ?_;rintro e w2 ⟨k1,rfl,hk,hs⟩;have P2:Hid _:=hs;have k10:=hk.1;have k11:=hk.2.1 (by omega);have hsl:SlV r 3 CG (.slice (some ⟨wc.heap.size,0,none⟩) 3 3) w2:=HJ _ _ _ (By _ HR.out.lt (CT Ci Ci Ci)) hs ⟨_,HR.out.below (AO _ _)⟩;obtain⟨j,rfl⟩:=AI k10;obtain⟨g,eg,g1,g2,g3⟩:=hsl;injection eg with eg;injection eg with eg;injection eg with eg;subst eg;obtain⟨u,u1,nb,rfl,hnb⟩:=g3 j (by omega);clear hk hs g1 g2 g3)
  go_ret;exact⟨nb,rfl,by unfold maxLen;omega,((Past.of hbp).next (AG _) HP.out).next (AG _) ((Past.of (AO _ _)).next (AG _) P2.out.1),(P2.out.2 _ (HR.out.below (AO _ _))).mono (by omega)⟩
 have hlp:=hbl rfl;clear hbl;obtain⟨b,off,ea,hbl,hat⟩:=HB.out.1 (by intro h;rw[h]at hlp;simp at hlp);subst ea
 have hbr:b≠r:=by
  obtain⟨s,hsk⟩:∃s,B.svcs[0]?=some s:=⟨B.svcs[0],by simp⟩;exact HR.out.str (hat 0 s hsk).1
 have HAT:Hid (SvcsAt wc b off B.svcs):=hat;have hxs:=(AB VX.out).1;have hxr:x≠r:=by omega
 have hR1:=HR.out;clear hat
 go_upto_region 2 with fail
 refine BN 10 r 1 _ (by kernel_rfl) (by kernel_rfl) hR1 ?_;apply Cn
 ·intro V W K A hW hR hd hA hK
  simp only[pA]at hA;clear hd;obtain rfl:=hA;go_wp2;exact hK.out _ (RStep.re _)
 apply Cn
 ·intro V W K A hW hR hd hA hK
  have d0:V 0=_:=hd 0 (by kernel_rfl);simp only[pA,d0]at hA;clear hd d0;obtain rfl:=hA;have e1:W.cell? ⟨x,1,none⟩=some (.slice (some ⟨b,off,none⟩) B.svcs.length c1):=AK (BD hW VX.out hxs hxr) 1 rfl;go_wp2;exact hK.out _ (RStep.re _)
 apply Cn
 ·intro V W K A hW hR hd hA hK
  simp only[pA]at hA;clear hd;obtain rfl:=hA;go_wp2;exact hK.out _ (RStep.re _)
 apply Cn
 ·intro V W K A hW hR hd hA hK
  simp only[pA]at hA;clear hd;obtain rfl:=hA;go_wp2;exact hK.out _ (RStep.re _)
 apply Cn
 ·intro V W K A hW hR hd hA hK
  have d3:V 3=_:=hd 3 (by kernel_rfl);simp only[pA,d3]at hA;clear hd d3;obtain rfl:=hA;have e1:W.cell? ⟨x,1,none⟩=some (.slice (some ⟨b,off,none⟩) B.svcs.length c1):=AK (BD hW VX.out hxs hxr) 1 rfl;go_wp2;exact hK.out _ (RStep.re _)
 apply Cn
 ·intro V W K A hW hR hd hA hK
  have d4:V 4=_:=hd 4 (by kernel_rfl);simp only[pA,d4]at hA;clear hd d4;obtain rfl:=hA;go_wp2;exact hK.out _ (RStep.re _)
 refine Am (Pk (B.svcs.length:Int)) Fi ?_ ?_
 ·intro V W K A hW hR hd hA hK
  have d2:V 2=_:=hd 2 (by kernel_rfl);have d5:V 5=_:=hd 5 (by kernel_rfl);simp only[pA,d2,d5]at hA;clear hd d2 d5;obtain rfl:=hA
  go_wp2_with fail
  refine(Ao r (B.svcs.length:Int) _ W (by omega) (by omega) hR (by omega)).mono ?_;rintro e w2 ⟨k,rfl,hk,hs⟩;go_wp2;exact hK.out _ _ hs ⟨k,rfl,hk⟩
 refine Am (λv _=>∃j:Nat,v=.pointer (some ⟨b,off+j*13,none⟩)/\j<B.svcs.length) (λ_ _ _ h _ _=>h) ?_ ?_
 ·intro V W K A hW hR hd hA hK
  have d1:V 1=_:=hd 1 (by kernel_rfl);have d6:(Pk (B.svcs.length:Int)) (V 6) W:=hd 6 (by kernel_rfl);simp only[pA,d1]at hA;clear hd d1;generalize V 6=x6 at d6 hA;obtain rfl:=hA;obtain⟨k,rfl,hk⟩:=d6;obtain⟨j,rfl⟩:=AI hk.1;have hj:j<B.svcs.length:=by have:=hk.2.1;omega
  clear hk;go_wp2;exact hK.out _ _ (RStep.re _) ⟨j,rfl,hj⟩
 refine Am (λv _=>∃j:Nat,v=.pointer (some ⟨b,off+j*13,none⟩)/\j<B.svcs.length) (λ_ _ _ h _ _=>h) ?_ ?_
 ·intro V W K A hW hR hd hA hK
  have d7:(λv _=>∃j:Nat,v=.pointer (some ⟨b,off+j*13,none⟩)/\j<B.svcs.length) (V 7) W:=hd 7 (by kernel_rfl);simp only[pA]at hA;clear hd;generalize V 7=x7 at d7 hA;obtain rfl:=hA;obtain⟨j,rfl,hj⟩:=d7;go_wp2;exact hK.out _ _ (RStep.re _) ⟨j,rfl,hj⟩
 refine Am (λv _=>∃s:ByteArray,v=.string s/\s.size<=maxLen) (λ_ _ _ h _ _=>h) ?_ ?_
 ·intro V W K A hW hR hd hA hK
  have d8:(λv _=>∃j:Nat,v=.pointer (some ⟨b,off+j*13,none⟩)/\j<B.svcs.length) (V 8) W:=hd 8 (by kernel_rfl);simp only[pA]at hA;clear hd;generalize V 8=x8 at d8 hA;obtain rfl:=hA;obtain⟨j,rfl,hj⟩:=d8;obtain⟨s,hsk⟩:∃s,B.svcs[j]?=some s:=⟨B.svcs[j],by simp[hj]⟩;have hsz:s.name.size<=maxLen:=HZ.out.2.2.2.1 s (AE hsk);have q0:=(HAT.out j s hsk).1;rw[<-hW.cell hbl hbr]at q0;clear hsk;go_wp2;exact hK.out _ _ (RStep.re _) ⟨_,rfl,hsz⟩
 intro V W A hW hR hS hA;have d0:V 0=_:=hS 0 (by omega);have d1:V 1=_:=hS 1 (by omega);have d2:V 2=_:=hS 2 (by omega);have d3:V 3=_:=hS 3 (by omega);have d4:V 4=_:=hS 4 (by omega);have d5:V 5=_:=hS 5 (by omega);have d6:(Pk (B.svcs.length:Int)) (V 6) W:=hS 6 (by omega);have d7:(λv _=>∃j:Nat,v=.pointer (some ⟨b,off+j*13,none⟩)/\j<B.svcs.length) (V 7) W:=hS 7 (by omega);have d8:(λv _=>∃j:Nat,v=.pointer (some ⟨b,off+j*13,none⟩)/\j<B.svcs.length) (V 8) W:=hS 8 (by omega);have d9:(λv _=>∃s:ByteArray,v=.string s/\s.size<=maxLen) (V 9) W:=hS 9 (by omega);simp only[pA,d0,d1,d2,d3,d4,d5]at hA;clear hS d0 d1 d2 d3 d4 d5;generalize V 6=x6 at d6 hA;generalize V 7=x7 at d7 hA;generalize V 8=x8 at d8 hA;generalize V 9=x9 at d9 hA;obtain rfl:=hA;simp only[List.drop_succ_cons,List.drop_zero];obtain⟨s,rfl,hs⟩:=d9;clear d6 d7 d8;go_wp2;go_ret;exact⟨s,rfl,hs,((Past.of hbp).next (AG _) HP.out).next (AG _) hW,hR.mono (by omega)⟩
end
end Go.Proofs.Ytbceafpodamnfaa
