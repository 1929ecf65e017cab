import Derived.Test.YtbceafpodamnfaaGreatH51
set_option linter.all false
set_option maxHeartbeats 16000000
set_option maxRecDepth 100000
namespace Go.Proofs.YtbceafpodamnfaaGreat
section
open Go.RowKit Go.Sort
def Ev.cells(E:Ev):Array Value:=#[.int .i64 E.kind,.string E.service.name,.int .i64 E.service.version,.bool E.service.gone,.int .i64 E.service.image,.int .i64 E.service.want,.int .i64 E.service.down,.int .i64 E.service.over,.int .i64 E.service.next,.int .i64 E.service.per,.int .i64 E.service.least,.int .i64 E.service.most,.int .i64 E.service.load,.int .i64 E.service.cool,.string E.name,.int .i64 E.number,.bool E.flag]
def Pk(m:Int)(v:Value)(_:World):Prop:=∃k:Int,v=.int .i64 k/\Ew m k
theorem pk_l{r c:Nat}{m:Int}:GO r c (Pk m):=λ_ _ _ h _ _=>h
def BV(u:Value)(W:World):Prop:=∃(x1 x2 x3:Option Addr) (y1 y2 y3:Nat) (C:Bk),u=.agg #[.int .i64 C.now,.slice x1 C.svcs.length y1,.slice x2 C.cps.length y2,.slice x3 C.bts.length y3]/\BkAt W x1 x2 x3 C/\C.sized/\C.tiny
theorem BV.rel3{u:Value}{i a b r v f:Nat}{w W W':World}{Q:Int}(h:BV u W)(hr:MH a b (KR r Q) (LA r v f w) i W W'):BV u W':=by
 obtain⟨x1,x2,x3,y1,y2,y3,C,e,h,hz⟩:=h;refine⟨x1,x2,x3,y1,y2,y3,C,e,?_,hz⟩;rcases Ei hr with⟨_,⟨q,hq⟩,hp,_⟩|hr|hr
 ·exact h.past hq hp
 ·exact h.only hr.1.1 hr.2.1
 ·exact h.below hr
def SvV(u:Value)(_:World):Prop:=∃s:Svc,u=.agg #[.string s.name,.int .i64 s.version,.bool s.gone,.int .i64 s.image,.int .i64 s.want,.int .i64 s.down,.int .i64 s.over,.int .i64 s.next,.int .i64 s.per,.int .i64 s.least,.int .i64 s.most,.int .i64 s.load,.int .i64 s.cool]/\s.name.size<=10
def MvV(u:Value)(_:World):Prop:=∃m:Mv,u=.agg m.cells/\0<=m.age/\m.age<=1000/\m.ev.sized
def ReIs(r:Nat)(q:Int)(w:World)(e:Ending)(w':World):Prop:=∃(aq:Option Addr) (M:List Bx) (cq g1 k1 g2 k2 g3 k3:Nat) (B:Bk),e=.returned (.agg #[.slice aq M.length cq,.int .i64 B.now,.slice (some ⟨g1,0,none⟩) B.svcs.length k1,.slice (some ⟨g2,0,none⟩) B.cps.length k2,.slice (some ⟨g3,0,none⟩) B.bts.length k3])/\WA w' aq M (some ⟨g1,0,none⟩) (some ⟨g2,0,none⟩) (some ⟨g3,0,none⟩) B/\BkRow w' w.heap.size g1 g2 g3 k1 k2 k3 B/\Past r w.heap.size w w'/\Rd r w' q
theorem La(s:ByteArray)(h:s.size<=10):Ev.sized ⟨5,sv0,s,0,false⟩:=⟨AI _,by show s.size<=maxLen;unfold maxLen;omega⟩
theorem wish_ok(s:Svc)(h:s.name.size<=10):Ev.sized ⟨2,s,⟨#[]⟩,0,false⟩:=⟨by show s.name.size<=maxLen;unfold maxLen;omega,AI _⟩
theorem LZ(r:Nat)(q:Int)(w:World)(hR:Rd r w q)(hq:q<=100000000000):
  Calls Tryz.prog 52 #[.pointer (some ⟨r,0,none⟩)] w λe w'=>ReIs r (q+200000000) w e w':=by
 obtain⟨W0,hW0,t0,t1,hs0,hb0⟩:∃W0,(w.alloc (.cells #[.slice none 0 0,.int .i64 0,.slice none 0 0,.slice none 0 0,.slice none 0 0] 84)).alloc (.cells #[.slice none 0 0,.int .i64 0,.slice none 0 0,.slice none 0 0,.slice none 0 0] 84)=W0/\W0.heap[w.heap.size]?=some (.cells #[.slice none 0 0,.int .i64 0,.slice none 0 0,.slice none 0 0,.slice none 0 0] 84 (0,0))/\W0.heap[w.heap.size+1]?=some (.cells #[.slice none 0 0,.int .i64 0,.slice none 0 0,.slice none 0 0,.slice none 0 0] 84 (0,0))/\W0.heap.size=w.heap.size+1+1/\Below w.heap.size w W0:=by
  obtain⟨h1,h2,h3⟩:=B0 w (.cells #[.slice none 0 0,.int .i64 0,.slice none 0 0,.slice none 0 0,.slice none 0 0] 84) (.cells #[.slice none 0 0,.int .i64 0,.slice none 0 0,.slice none 0 0,.slice none 0 0] 84);exact⟨_,rfl,h1,h2,h3,(AM w _).alloc (by show w.heap.size<=(w.heap.push _).size;simp) _⟩
 have J0:Hid (ReU r (w.heap.size+1) w.heap.size w q W0):=⟨⟨none,[],0,none,none,none,0,0,0,noBk,t1,Mg _⟩,t0,hR.below hb0,.of hb0,hR.lt,by omega,AG _⟩;obtain⟨f,hf⟩:∃f,w.heap.size=f:=⟨_,rfl⟩;obtain⟨v,hv⟩:∃v,f+1=v:=⟨_,rfl⟩;have VZ:Hid _:=t1;rw[hf,hv]at J0;rw[hf,hv]at VZ;clear t0 t1 hR hs0 hb0;go_enter Tryz.func52,Tryz.ntmps52
 go_upto_region 2 with((with_reducible show wpList _ _ _ _ _ _);refine AL rfl 84 (.tmp 3) (.tmp 6) rfl v 0 #[.slice none 0 0,.int .i64 0,.slice none 0 0,.slice none 0 0,.slice none 0 0] rfl rfl 84 #[.slice none 0 0,.int .i64 0,.slice none 0 0,.slice none 0 0,.slice none 0 0] VZ.out Tryz.infosWorldE (AD rfl) (by simp[Value.oneCell']) ?_;intro wi hz on;have JI:Hid (ReU r v f w q wi):=J0.out.put (ap:=none) (l:=[]) (cp:=0) (a1:=none) (a2:=none) (a3:=none) (c1:=0) (c2:=0) (c3:=0) (B:=noBk) on hz.out (Mg _);clear hz on;simp only[Act.put])
 clear hf hv hW0 J0 VZ;have J0:Hid _:=JI.out;obtain⟨ap,l,cp,a1,a2,a3,c1,c2,c3,B,hvx,hwa⟩:=J0.out.wx;have VX:Hid _:=hvx;have HA:Hid (WA _ ap l a1 a2 a3 B):=hwa;clear hvx hwa
 go_upto_region 3 with(first|((with_reducible show wpList _ _ _ _ _ _);refine wpList_load_row rfl 84 (.tmp 3) rfl v rfl 84 #[.slice ap l.length cp,.int .i64 B.now,.slice a1 B.svcs.length c1,.slice a2 B.cps.length c2,.slice a3 B.bts.length c3] (0,0) _ VX.out Tryz.underlying84 rfl Tryz.infosWorldE ?_)|(go_at_call 64;refine(Hh l ap cp B a1 a2 a3 c1 c2 c3 ⟨0,0,⟨5,sv0,⟨#[97]⟩,0,false⟩⟩ _ (Int.le_refl 0) (by show(0:Int)<=1000;decide) (La _ (by decide)) HA.out).mono ?_;rintro e w4 ⟨vw,vq,rfl,hv⟩;obtain⟨aq,M,cq,z1,z2,z3,d1,d2,d3,D,rfl,hA,hb3⟩:=wis_iff.1 hv;have HA4:Hid (WA w4 aq M z1 z2 z3 D):=hA;have J4:Hid _:=J0.out.grew hb3;have VX4:Hid _:=AK hb3 VX.out (AB VX.out).1;clear hv hA hb3)|((with_reducible show wpList _ _ _ _ _ _);refine AL rfl 84 (.tmp 3) (.tmp 12) rfl v 0 #[.slice aq M.length cq,.int .i64 D.now,.slice z1 D.svcs.length d1,.slice z2 D.cps.length d2,.slice z3 D.bts.length d3] rfl rfl 84 #[.slice ap l.length cp,.int .i64 B.now,.slice a1 B.svcs.length c1,.slice a2 B.cps.length c2,.slice a3 B.bts.length c3] VX4.out Tryz.infosWorldE (AD rfl) (by simp[Value.oneCell']) ?_;intro w1 hz on;have J1:Hid (ReU r v f w _ w1):=J4.out.put on hz.out HA4.out;clear hz on J4 HA4 VX4;simp only[Act.put]))
 clear VX HA J0
 go_upto_if 16 with(go_at_call 13;refine(DS r 3 _ _ (by omega) (by omega) J1.out.rd (by omega)).mono ?_;rintro e w2 ⟨k2,rfl,hk,hs⟩;have J2:Hid _:=J1.out.step hs;have k20:=hk.1;have k21:=hk.2.1 (by omega);clear hk hs)
 go_cut [] from 6 (λwx=>ReU r v f w (q+2) wx)
 case first=>
  by_cases hk2:0<k2
  ·have hkb:decide (0<k2)=true:=by simp[hk2]
   obtain⟨ap,l,cp,a1,a2,a3,c1,c2,c3,B,hvx,hwa⟩:=J2.out.wx;have VX:Hid _:=hvx;have HA:Hid (WA _ ap l a1 a2 a3 B):=hwa;clear hvx hwa
   go_wp2_with (first|((with_reducible show wpList _ _ _ _ _ _);refine wpList_load_row rfl 84 (.tmp 3) rfl v rfl 84 #[.slice ap l.length cp,.int .i64 B.now,.slice a1 B.svcs.length c1,.slice a2 B.cps.length c2,.slice a3 B.bts.length c3] (0,0) _ VX.out Tryz.underlying84 rfl Tryz.infosWorldE ?_)|(go_at_call 64;refine(Hh l ap cp B a1 a2 a3 c1 c2 c3 ⟨0,0,⟨5,sv0,⟨#[98]⟩,0,false⟩⟩ _ (Int.le_refl 0) (by show(0:Int)<=1000;decide) (La _ (by decide)) HA.out).mono ?_;rintro e w4 ⟨vw,vq,rfl,hv⟩;obtain⟨aq,M,cq,z1,z2,z3,d1,d2,d3,D,rfl,hA,hb3⟩:=wis_iff.1 hv;have HA4:Hid (WA w4 aq M z1 z2 z3 D):=hA;have J4:Hid _:=J2.out.grew hb3;have VX4:Hid _:=AK hb3 VX.out (AB VX.out).1;clear hv hA hb3)|((with_reducible show wpList _ _ _ _ _ _);refine AL rfl 84 (.tmp 3) (.tmp 22) rfl v 0 #[.slice aq M.length cq,.int .i64 D.now,.slice z1 D.svcs.length d1,.slice z2 D.cps.length d2,.slice z3 D.bts.length d3] rfl rfl 84 #[.slice ap l.length cp,.int .i64 B.now,.slice a1 B.svcs.length c1,.slice a2 B.cps.length c2,.slice a3 B.bts.length c3] VX4.out Tryz.infosWorldE (AD rfl) (by simp[Value.oneCell']) ?_;intro w3 hz on;have J3:Hid (ReU r v f w _ w3):=J4.out.put on hz.out HA4.out;clear hz on J4 HA4 VX4;simp only[Act.put]))
   go_meet;exact J3.out.mono (by omega)
  ·have hkb:decide (0<k2)=false:=by simp[hk2]
   go_wp2;go_meet;exact J2.out.mono (by omega)
 clear J1 J2;have J3:Hid (ReU r v f w (q+2) wc):=hcut;clear hcut
 go_upto_region 6 with(go_at_call 13;refine(DS r 2 _ _ (by omega) (by omega) J3.out.rd (by omega)).mono ?_;rintro e w4 ⟨k4,rfl,hk,hs⟩;have J4:Hid _:=J3.out.step hs;have k40:=hk.1;have k41:=hk.2.1 (by omega);clear hk hs)
 obtain⟨n4,hn4⟩:∃n4:Nat,1+k4=n4:=⟨(1+k4).toNat,by omega⟩;have hn4b:n4<=2:=by omega
 rw[hn4];clear J3 hn4
 go_loopw [4] (λiv wr=>∃m:Nat,iv=.int .i64 m/\m<=2/\ReU r v f w (q+10+(2 - (m:Int))*100) wr) (λi _=>(intOf i).toNat)
 case atStart=>exact⟨n4,rfl,hn4b,J4.out.mono (by omega)⟩
 case round=>
  clear J4;obtain⟨m,rfl,hm,hJ⟩:=hrel;have JR:Hid (ReU r v f w (q+10+(2 - (m:Int))*100) wr):=hJ;clear hJ
  by_cases hm0:m=0
  rotate_left
  ·obtain⟨m',rfl⟩:∃m',m=m'+1:=⟨m - 1,by omega⟩
   have hmb:decide (0<((m'+1:Nat):Int))=true:=decide_eq_true (by omega)
   go_upto_region 8 with fail
   refine DW 10 rfl 2 (λW=>ReU r v f w (q+10+(2 - ((m'+1:Nat):Int))*100+100) W) (λW=>Rd r W (q+10+(2 - ((m'+1:Nat):Int))*100)) (MH 2 9 (KR r (q+10+(2 - ((m'+1:Nat):Int))*100+100)) (LA r v f w)) (by kernel_rfl) (by kernel_rfl) ((JR.out.grew (Hg _)).mono (by omega)) (JR.out.rd.below (Hg _)) (λi W W' h hr=>re_inv h hr) (λi W W' hi h hr=>NV hi h hr) ?_;refine Az (WV) (λi hi _ W W' h hr=>h.rel3 hr) ?_ ?_
   ·intro V W K A hI hZ hd hA hK
    simp only[pA]at hA;clear hd;obtain rfl:=hA;obtain⟨ap,l,cp,a1,a2,a3,c1,c2,c3,B,hvx,hwa⟩:=hI.wx;refine wpList_load_row rfl 84 (.tmp 3) rfl v rfl 84 #[.slice ap l.length cp,.int .i64 B.now,.slice a1 B.svcs.length c1,.slice a2 B.cps.length c2,.slice a3 B.bts.length c3] (0,0) _ hvx Tryz.underlying84 rfl Tryz.infosWorldE ?_;go_wp2;exact hK.out _ _ brf ⟨ap,l,cp,a1,a2,a3,c1,c2,c3,B,rfl,hwa⟩
   apply CK
   ·intro V W K A hI hZ hd hA hK
    simp only[pA]at hA;clear hd;obtain rfl:=hA;go_wp2;exact hK.out _ brf
   refine Az (SvV) (λ_ _ _ _ _ h _=>h) ?_ ?_
   ·intro V W K A hI hZ hd hA hK
    have d1:V 1=_:=hd 1 (by kernel_rfl);simp only[pA,d1]at hA;clear hd d1;obtain rfl:=hA;have h0:=hZ rfl
    go_wp2_with fail
    refine(Kv r _ W h0 (by omega)).mono ?_;rintro e w2 ⟨s,rfl,hs,hp,hr⟩;go_wp2;exact hK.out _ _ ⟨⟨_,h0⟩,hp,hr⟩ ⟨s,rfl,hs⟩
   refine Az (λu _=>∃s:Svc,u=.agg (Ev.cells ⟨2,s,⟨#[]⟩,0,false⟩)/\s.name.size<=10) (λ_ _ _ _ _ h _=>h) ?_ ?_
   ·intro V W K A hI hZ hd hA hK
    have d2:(SvV) (V 2) W:=hd 2 (by kernel_rfl);simp only[pA]at hA;clear hd;generalize V 2=x2 at d2 hA;obtain rfl:=hA;obtain⟨s,rfl,hs⟩:=d2;go_wp2;exact hK.out _ _ brf ⟨s,rfl,hs⟩
   refine Az (MvV) (λ_ _ _ _ _ h _=>h) ?_ ?_
   ·intro V W K A hI hZ hd hA hK
    have d3:(λu _=>∃s:Svc,u=.agg (Ev.cells ⟨2,s,⟨#[]⟩,0,false⟩)/\s.name.size<=10) (V 3) W:=hd 3 (by kernel_rfl);simp only[pA]at hA;clear hd;generalize V 3=x3 at d3 hA;obtain rfl:=hA;obtain⟨s,he,hs⟩:=d3;simp only[Ev.cells]at he;subst he;go_wp2;exact hK.out _ _ brf ⟨⟨0,0,⟨2,s,⟨#[]⟩,0,false⟩⟩,rfl,Int.le_refl 0,by show(0:Int)<=1000;decide,wish_ok s hs⟩
   refine Az (λu W=>∃vw vq,u=.tuple #[vw,vq]/\WV vw W) (λi hi _ W W' ⟨vw,vq,e,h⟩ hr=>⟨vw,vq,e,h.rel3 hr⟩) ?_ ?_
   ·intro V W K A hI hZ hd hA hK
    have d0:(WV) (V 0) W:=hd 0 (by kernel_rfl);have d4:(MvV) (V 4) W:=hd 4 (by kernel_rfl);simp only[pA]at hA;clear hd;generalize V 0=x0 at d0 hA;generalize V 4=x4 at d4 hA;obtain rfl:=hA;obtain⟨ap,l,cp,a1,a2,a3,c1,c2,c3,B,rfl,hwa⟩:=d0;obtain⟨m,hm,hm0,hm1,hm2⟩:=d4;simp only[Mv.cells]at hm;subst hm
    go_wp2_with fail
    refine(Hh l ap cp B a1 a2 a3 c1 c2 c3 m W hm0 hm1 hm2 hwa).mono ?_;rintro e w4 ⟨vw,vq,rfl,hv⟩;obtain⟨aq,M,cq,z1,z2,z3,d1,d2,d3,D,rfl,hA,hb3⟩:=wis_iff.1 hv;go_wp2;exact hK.out _ _ hb3 ⟨_,_,rfl,aq,M,cq,z1,z2,z3,d1,d2,d3,D,rfl,hA⟩
   refine Az (λu W=>∃vw vq,u=.tuple #[vw,vq]/\WV vw W) (λi hi _ W W' ⟨vw,vq,e,h⟩ hr=>⟨vw,vq,e,h.rel3 hr⟩) ?_ ?_
   ·intro V W K A hI hZ hd hA hK
    have d5:(λu W=>∃vw vq,u=.tuple #[vw,vq]/\WV vw W) (V 5) W:=hd 5 (by kernel_rfl);simp only[pA]at hA;clear hd;generalize V 5=x5 at d5 hA;obtain rfl:=hA;obtain⟨vw,vq,rfl,h⟩:=d5;go_wp2;exact hK.out _ _ brf ⟨vw,vq,rfl,h⟩
   refine Az (WV) (λi hi _ W W' h hr=>h.rel3 hr) ?_ ?_
   ·intro V W K A hI hZ hd hA hK
    have d6:(λu W=>∃vw vq,u=.tuple #[vw,vq]/\WV vw W) (V 6) W:=hd 6 (by kernel_rfl);simp only[pA]at hA;clear hd;generalize V 6=x6 at d6 hA;obtain rfl:=hA;obtain⟨vw,vq,rfl,h⟩:=d6;go_wp2;exact hK.out _ _ brf h
   refine Az (λ_ _=>True) (λ_ _ _ _ _ _ _=>trivial) ?_ ?_
   ·intro V W K A hI hZ hd hA hK
    have d6:(λu W=>∃vw vq,u=.tuple #[vw,vq]/\WV vw W) (V 6) W:=hd 6 (by kernel_rfl);simp only[pA]at hA;clear hd;generalize V 6=x6 at d6 hA;obtain rfl:=hA;obtain⟨vw,vq,rfl,h⟩:=d6;go_wp2;exact hK.out _ _ brf trivial
   refine Az (λ_ _=>True) (λ_ _ _ _ _ _ _=>trivial) ?_ ?_
   ·intro V W K A hI hZ hd hA hK
    have d7:(WV) (V 7) W:=hd 7 (by kernel_rfl);simp only[pA]at hA;clear hd;generalize V 7=x7 at d7 hA;obtain rfl:=hA;obtain⟨aq,M,cq,z1,z2,z3,d1,d2,d3,D,rfl,hA⟩:=d7;obtain⟨ap,l,cp,a1,a2,a3,c1,c2,c3,B,hvx,hwa⟩:=hI.wx;have HI1:Hid _:=hI;have HVX:Hid _:=hvx;have HA2:Hid (WA W aq M z1 z2 z3 D):=hA;clear hvx hwa hA hI;refine AL rfl 84 (.tmp 3) (.tmp 38) rfl v 0 #[.slice aq M.length cq,.int .i64 D.now,.slice z1 D.svcs.length d1,.slice z2 D.cps.length d2,.slice z3 D.bts.length d3] rfl rfl 84 #[.slice ap l.length cp,.int .i64 B.now,.slice a1 B.svcs.length c1,.slice a2 B.cps.length c2,.slice a3 B.bts.length c3] HVX.out Tryz.infosWorldE (AD rfl) (by simp[Value.oneCell']) ?_;intro w7 hz on;have HR:Hid (LA r v f w W w7):=NY HI1.out on hz.out HA2.out;clear hz on;go_wp2;exact hK.out undef _ HR.out trivial
   intro V W A hI hS hA;have d1:V 1=_:=hS 1 (by decide);simp only[pA,d1]at hA;clear hS d1;obtain rfl:=hA;have JN:Hid _:=hI;clear hI;go_wp2
   go_roundw
   case rel=>exact⟨m',by go_num,by omega,JN.out.mono (by omega)⟩
   case measure=>simp[intOf]
  subst hm0;have hmb:decide (0<((0:Nat):Int))=false:=by decide
  go_upto_region 10 with(go_at_call 13;refine(DS r 50 _ _ (by omega) (by omega) JR.out.rd (by omega)).mono ?_;rintro e w5 ⟨k5,rfl,hk,hs⟩;have J5:Hid _:=JR.out.step hs;have k50:=hk.1;have k51:=hk.2.1 (by omega);clear hk hs)
  obtain⟨n5,hn5⟩:∃n5:Nat,k5=n5:=⟨k5.toNat,by omega⟩;subst hn5;clear JR
  go_loopw [5] (λiv wr=>∃m:Nat,iv=.int .i64 m/\m<=49/\ReU r v f w (q+1000+(49 - (m:Int))*3000000) wr) (λi _=>(intOf i).toNat)
  case atStart=>exact⟨n5,rfl,by omega,J5.out.mono (by omega)⟩
  case round=>
   clear J5;obtain⟨m,rfl,hm,hJ⟩:=hrel;have J6:Hid (ReU r v f w (q+1000+(49 - (m:Int))*3000000) wr):=hJ;clear hJ
   by_cases hm0:m=0
   ·subst hm0
    have hmb:decide (0<((0:Nat):Int))=false:=by decide
    obtain⟨ap,l,cp,a1,a2,a3,c1,c2,c3,B,hvx,hwa⟩:=J6.out.wx;have VX:Hid _:=hvx;have HA:Hid (WA _ ap l a1 a2 a3 B):=hwa;clear hvx hwa
    go_wp2_with (first
     |((with_reducible show wpList _ _ _ _ _ _);refine wpList_load_row rfl 84 (.tmp 3) rfl v rfl 84 #[.slice ap l.length cp,.int .i64 B.now,.slice a1 B.svcs.length c1,.slice a2 B.cps.length c2,.slice a3 B.bts.length c3] (0,0) _ VX.out Tryz.underlying84 rfl Tryz.infosWorldE ?_)
     |(go_at_call 67;refine(L8 l ap cp B a1 a2 a3 c1 c2 c3 _ HA.out).mono ?_;rintro e w9 ⟨aq,M,cq,g1,k1,g2,k2,g3,k3,rfl,hA,hbk,hb9⟩;have HA9:Hid (WA w9 aq M _ _ _ B):=hA;have HB9:Hid _:=hbk;have J9:Hid _:=J6.out.grew hb9;clear hA hb9 hbk)
     |((with_reducible show wpList _ _ _ _ _ _);refine AL rfl 84 (.tmp 2) (.tmp 70) rfl f 0 #[.slice aq M.length cq,.int .i64 B.now,.slice (some ⟨g1,0,none⟩) B.svcs.length k1,.slice (some ⟨g2,0,none⟩) B.cps.length k2,.slice (some ⟨g3,0,none⟩) B.bts.length k3] rfl rfl 84 #[.slice none 0 0,.int .i64 0,.slice none 0 0,.slice none 0 0,.slice none 0 0] J9.out.vf Tryz.infosWorldE (AD rfl) (by simp[Value.oneCell']) ?_;intro wz hz on;simp only[Act.put]))
    refine bodyPost_ret (results_cell_row rfl _ wz f 84 #[.slice aq M.length cq,.int .i64 B.now,.slice (some ⟨g1,0,none⟩) B.svcs.length k1,.slice (some ⟨g2,0,none⟩) B.cps.length k2,.slice (some ⟨g3,0,none⟩) B.bts.length k3] (0,0) _ rfl hz.out Tryz.underlying84 rfl Tryz.infosWorldE) rfl ?_;have h5:=J9.out.n0;have h6:=J9.out.rf;have h7:=J6.out.past.size;exact⟨aq,M,cq,g1,k1,g2,k2,g3,k3,B,rfl,HA9.out.only (D3 J9.out.vf) on,(HB9.out.n h7).tame (Fi J9.out.vf on),J9.out.past.trans (.of (on.below.mono h5)),(J9.out.rd.only J9.out.vf on (by omega) w_no).mono (by omega)⟩
   obtain⟨m',rfl⟩:∃m',m=m'+1:=⟨m - 1,by omega⟩;have hmb:decide (0<((m'+1:Nat):Int))=true:=decide_eq_true (by omega)
   go_upto_region 12 with fail
   refine DW 10 rfl 4 (λW=>ReU r v f w (q+1000+(49 - ((m'+1:Nat):Int))*3000000+2000010) W) (λW=>Rd r W (q+1000+(49 - ((m'+1:Nat):Int))*3000000)) (MH 4 9 (KR r (q+1000+(49 - ((m'+1:Nat):Int))*3000000+2000010)) (LA r v f w)) (by kernel_rfl) (by kernel_rfl) ((J6.out.grew (Hg _)).mono (by omega)) (J6.out.rd.below (Hg _)) (λi W W' h hr=>re_inv h hr) (λi W W' hi h hr=>NV hi h hr) ?_;refine Az (WV) (λi hi _ W W' h hr=>h.rel3 hr) ?_ ?_
   ·intro V W K A hI hZ hd hA hK
    simp only[pA]at hA;clear hd;obtain rfl:=hA;obtain⟨ap,l,cp,a1,a2,a3,c1,c2,c3,B,hvx,hwa⟩:=hI.wx;refine wpList_load_row rfl 84 (.tmp 3) rfl v rfl 84 #[.slice ap l.length cp,.int .i64 B.now,.slice a1 B.svcs.length c1,.slice a2 B.cps.length c2,.slice a3 B.bts.length c3] (0,0) _ hvx Tryz.underlying84 rfl Tryz.infosWorldE ?_;go_wp2;exact hK.out _ _ brf ⟨ap,l,cp,a1,a2,a3,c1,c2,c3,B,rfl,hwa⟩
   apply CK
   ·intro V W K A hI hZ hd hA hK
    simp only[pA]at hA;clear hd;obtain rfl:=hA;go_wp2;exact hK.out _ brf
   apply CK
   ·intro V W K A hI hZ hd hA hK
    simp only[pA]at hA;clear hd;obtain rfl:=hA;go_wp2;exact hK.out _ brf
   refine Az (BV) (λi hi _ W W' h hr=>h.rel3 hr) ?_ ?_
   ·intro V W K A hI hZ hd hA hK
    have d2:V 2=_:=hd 2 (by kernel_rfl);simp only[pA,d2]at hA;clear hd d2;obtain rfl:=hA;obtain⟨ap,l,cp,a1,a2,a3,c1,c2,c3,B,hvx,hwa⟩:=hI.wx;have e1:W.cell? ⟨v,1,none⟩=some (.int .i64 B.now):=AJ hvx 1 rfl;have e2:W.cell? ⟨v,2,none⟩=some (.slice a1 B.svcs.length c1):=AJ hvx 2 rfl;have e3:W.cell? ⟨v,3,none⟩=some (.slice a2 B.cps.length c2):=AJ hvx 3 rfl;have e4:W.cell? ⟨v,4,none⟩=some (.slice a3 B.bts.length c3):=AJ hvx 4 rfl;clear hvx;go_wp2;exact hK.out _ _ brf ⟨a1,a2,a3,c1,c2,c3,B,rfl,hwa.wat.book,hwa.ok.bz,hwa.ok.bs⟩
   refine Az (MvV) (λ_ _ _ _ _ h _=>h) ?_ ?_
   ·intro V W K A hI hZ hd hA hK
    have d1:V 1=_:=hd 1 (by kernel_rfl);have d3:(BV) (V 3) W:=hd 3 (by kernel_rfl);simp only[pA,d1]at hA;clear hd d1;generalize V 3=x3 at d3 hA;obtain rfl:=hA;have h0:=hZ rfl;obtain⟨x1,x2,x3,y1,y2,y3,C,rfl,hC,hCz,hCs⟩:=d3
    go_wp2_with fail
    refine(move_any r _ C x1 x2 x3 y1 y2 y3 W hCs hCz hC h0 (by omega)).mono ?_;rintro e w2 ⟨m,rfl,⟨_,_,hm0,hm1,hm2⟩,hp,hr⟩;go_wp2;exact hK.out _ _ ⟨⟨_,h0⟩,hp,hr⟩ ⟨m,rfl,hm0,by omega,hm2⟩
   refine Az (λu W=>∃vw vq,u=.tuple #[vw,vq]/\WV vw W) (λi hi _ W W' ⟨vw,vq,e,h⟩ hr=>⟨vw,vq,e,h.rel3 hr⟩) ?_ ?_
   ·intro V W K A hI hZ hd hA hK
    have d0:(WV) (V 0) W:=hd 0 (by kernel_rfl);have d4:(MvV) (V 4) W:=hd 4 (by kernel_rfl);simp only[pA]at hA;clear hd;generalize V 0=x0 at d0 hA;generalize V 4=x4 at d4 hA;obtain rfl:=hA;obtain⟨ap,l,cp,a1,a2,a3,c1,c2,c3,B,rfl,hwa⟩:=d0;obtain⟨m,hm,hm0,hm1,hm2⟩:=d4;simp only[Mv.cells]at hm;subst hm
    go_wp2_with fail
    refine(Hh l ap cp B a1 a2 a3 c1 c2 c3 m W hm0 hm1 hm2 hwa).mono ?_;rintro e w4 ⟨vw,vq,rfl,hv⟩;obtain⟨aq,M,cq,z1,z2,z3,d1,d2,d3,D,rfl,hA,hb3⟩:=wis_iff.1 hv;go_wp2;exact hK.out _ _ hb3 ⟨_,_,rfl,aq,M,cq,z1,z2,z3,d1,d2,d3,D,rfl,hA⟩
   refine Az (λu W=>∃vw vq,u=.tuple #[vw,vq]/\WV vw W) (λi hi _ W W' ⟨vw,vq,e,h⟩ hr=>⟨vw,vq,e,h.rel3 hr⟩) ?_ ?_
   ·intro V W K A hI hZ hd hA hK
    have d5:(λu W=>∃vw vq,u=.tuple #[vw,vq]/\WV vw W) (V 5) W:=hd 5 (by kernel_rfl);simp only[pA]at hA;clear hd;generalize V 5=x5 at d5 hA;obtain rfl:=hA;obtain⟨vw,vq,rfl,h⟩:=d5;go_wp2;exact hK.out _ _ brf ⟨vw,vq,rfl,h⟩
   refine Az (WV) (λi hi _ W W' h hr=>h.rel3 hr) ?_ ?_
   ·intro V W K A hI hZ hd hA hK
    have d6:(λu W=>∃vw vq,u=.tuple #[vw,vq]/\WV vw W) (V 6) W:=hd 6 (by kernel_rfl);simp only[pA]at hA;clear hd;generalize V 6=x6 at d6 hA;obtain rfl:=hA;obtain⟨vw,vq,rfl,h⟩:=d6;go_wp2;exact hK.out _ _ brf h
   refine Az (λ_ _=>True) (λ_ _ _ _ _ _ _=>trivial) ?_ ?_
   ·intro V W K A hI hZ hd hA hK
    have d6:(λu W=>∃vw vq,u=.tuple #[vw,vq]/\WV vw W) (V 6) W:=hd 6 (by kernel_rfl);simp only[pA]at hA;clear hd;generalize V 6=x6 at d6 hA;obtain rfl:=hA;obtain⟨vw,vq,rfl,h⟩:=d6;go_wp2;exact hK.out _ _ brf trivial
   refine Az (λ_ _=>True) (λ_ _ _ _ _ _ _=>trivial) ?_ ?_
   ·intro V W K A hI hZ hd hA hK
    have d7:(WV) (V 7) W:=hd 7 (by kernel_rfl);simp only[pA]at hA;clear hd;generalize V 7=x7 at d7 hA;obtain rfl:=hA;obtain⟨aq,M,cq,z1,z2,z3,d1,d2,d3,D,rfl,hA⟩:=d7;obtain⟨ap,l,cp,a1,a2,a3,c1,c2,c3,B,hvx,hwa⟩:=hI.wx;have HI1:Hid _:=hI;have HVX:Hid _:=hvx;have HA2:Hid (WA W aq M z1 z2 z3 D):=hA;clear hvx hwa hA hI;refine AL rfl 84 (.tmp 3) (.tmp 53) rfl v 0 #[.slice aq M.length cq,.int .i64 D.now,.slice z1 D.svcs.length d1,.slice z2 D.cps.length d2,.slice z3 D.bts.length d3] rfl rfl 84 #[.slice ap l.length cp,.int .i64 B.now,.slice a1 B.svcs.length c1,.slice a2 B.cps.length c2,.slice a3 B.bts.length c3] HVX.out Tryz.infosWorldE (AD rfl) (by simp[Value.oneCell']) ?_;intro w7 hz on;have HR:Hid (LA r v f w W w7):=NY HI1.out on hz.out HA2.out;clear hz on;go_wp2;exact hK.out undef _ HR.out trivial
   intro V W A hI hS hA;have d1:V 1=_:=hS 1 (by decide);have d2:V 2=_:=hS 2 (by decide);simp only[pA,d1,d2]at hA;clear hS d1 d2;obtain rfl:=hA;have J7:Hid _:=hI;clear hI
   go_upto_if 57 with(go_at_call 13;refine(DS r 8 _ _ (by omega) (by omega) J7.out.rd (by omega)).mono ?_;rintro e w8 ⟨k8,rfl,hk,hs⟩;have J8:Hid _:=J7.out.step hs;have k80:=hk.1;have k81:=hk.2.1 (by omega);clear hk hs)
   by_cases hk8:k8=0
   rotate_left
   ·have hkb:(k8==0)=false:=by simp[hk8]
    go_wp2
    go_roundw
    case rel=>exact⟨m',by go_num,by omega,J8.out.mono (by omega)⟩
    case measure=>simp[intOf]
   subst hk8;obtain⟨ap,l,cp,a1,a2,a3,c1,c2,c3,B,hvx,hwa⟩:=J8.out.wx;have VX:Hid _:=hvx;have HA:Hid (WA _ ap l a1 a2 a3 B):=hwa;clear hvx hwa;have JR:Hid _:=J8.out;have hvs:=(AB VX.out).1;have hvr:v≠r:=by have:=J8.out.rf;have:=J8.out.fv;omega
   have hR8:=J8.out.rd
   go_upto_region 14 with fail
   refine IB 11 r 1 _ (by kernel_rfl) (by kernel_rfl) hR8 ?_;apply NX
   ·intro V W K A hW hR hd hA hK
    simp only[pA]at hA;clear hd;obtain rfl:=hA;refine wpList_load_row rfl 84 (.tmp 3) rfl v rfl 84 #[.slice ap l.length cp,.int .i64 B.now,.slice a1 B.svcs.length c1,.slice a2 B.cps.length c2,.slice a3 B.bts.length c3] (0,0) _ (DT hW VX.out hvs hvr) Tryz.underlying84 rfl Tryz.infosWorldE ?_;go_wp2;exact hK.out _ (RStep.re _)
   apply NX
   ·intro V W K A hW hR hd hA hK
    simp only[pA]at hA;clear hd;obtain rfl:=hA;go_wp2;exact hK.out _ (RStep.re _)
   refine Iy (Pk 7) pk_l ?_ ?_
   ·intro V W K A hW hR hd hA hK
    have d1:V 1=_:=hd 1 (by kernel_rfl);simp only[pA,d1]at hA;clear hd d1;obtain rfl:=hA
    go_wp2_with fail
    refine(DS r 7 _ W (by omega) (by omega) hR (by omega)).mono ?_;rintro e w2 ⟨k,rfl,hk,hs⟩;go_wp2;exact hK.out _ _ hs ⟨k,rfl,hk⟩
   apply NX
   ·intro V W K A hW hR hd hA hK
    simp only[pA]at hA;clear hd;obtain rfl:=hA;go_wp2;exact hK.out _ (RStep.re _)
   refine Iy (Pk 6) pk_l ?_ ?_
   ·intro V W K A hW hR hd hA hK
    have d3:V 3=_:=hd 3 (by kernel_rfl);simp only[pA,d3]at hA;clear hd d3;obtain rfl:=hA
    go_wp2_with fail
    refine(DS r 6 _ W (by omega) (by omega) hR (by omega)).mono ?_;rintro e w2 ⟨k,rfl,hk,hs⟩;go_wp2;exact hK.out _ _ hs ⟨k,rfl,hk⟩
   refine Iy (λu _=>∃k:Int,u=.int .i64 k) (λ_ _ _ h _ _=>h) ?_ ?_
   ·intro V W K A hW hR hd hA hK
    have d4:(Pk 6) (V 4) W:=hd 4 (by kernel_rfl);simp only[pA]at hA;clear hd;generalize V 4=x4 at d4 hA;obtain rfl:=hA;obtain⟨k,rfl,hk⟩:=d4;go_wp2;exact hK.out _ _ (RStep.re _) ⟨_,rfl⟩
   apply NX
   ·intro V W K A hW hR hd hA hK
    simp only[pA]at hA;clear hd;obtain rfl:=hA;go_wp2;exact hK.out _ (RStep.re _)
   refine Iy (Pk 6) pk_l ?_ ?_
   ·intro V W K A hW hR hd hA hK
    have d6:V 6=_:=hd 6 (by kernel_rfl);simp only[pA,d6]at hA;clear hd d6;obtain rfl:=hA
    go_wp2_with fail
    refine(DS r 6 _ W (by omega) (by omega) hR (by omega)).mono ?_;rintro e w2 ⟨k,rfl,hk,hs⟩;go_wp2;exact hK.out _ _ hs ⟨k,rfl,hk⟩
   refine Iy (λu _=>∃k:Int,u=.int .i64 k) (λ_ _ _ h _ _=>h) ?_ ?_
   ·intro V W K A hW hR hd hA hK
    have d7:(Pk 6) (V 7) W:=hd 7 (by kernel_rfl);simp only[pA]at hA;clear hd;generalize V 7=x7 at d7 hA;obtain rfl:=hA;obtain⟨k,rfl,hk⟩:=d7;go_wp2;exact hK.out _ _ (RStep.re _) ⟨_,rfl⟩
   refine Iy (λu W=>∃g,u=.slice (some ⟨g,0,none⟩) 2 2/\g≠r/\IntRow W g 2 2) (λ_ W W' ⟨g,e,h1,h2⟩ hs _=>⟨g,e,h1,h2.blk (hs.1.block g h2.lt h1)⟩) ?_ ?_
   ·intro V W K A hW hR hd hA hK
    have d5:(λu _=>∃k:Int,u=.int .i64 k) (V 5) W:=hd 5 (by kernel_rfl);have d8:(λu _=>∃k:Int,u=.int .i64 k) (V 8) W:=hd 8 (by kernel_rfl);simp only[pA]at hA;clear hd;generalize V 5=x5 at d5 hA;generalize V 8=x8 at d8 hA;obtain rfl:=hA;obtain⟨k,rfl⟩:=d5;obtain⟨k',rfl⟩:=d8;have hlt:=hR.lt;go_wp2;exact hK.out _ _ (.of (AM _ _)) ⟨W.heap.size,rfl,by omega,int_row (cs:=#[.int .i64 k,.int .i64 k']) (heap_alloc_new W _) (λu hu=>by simp at hu;rcases hu with rfl|rfl<;>exact⟨_,rfl⟩)⟩
   refine Iy (WV) (λ_ W W' h hs ⟨q,hq⟩=>h.past hq hs.1) ?_ ?_
   ·intro V W K A hW hR hd hA hK
    have d0:V 0=_:=hd 0 (by kernel_rfl);have d2:(Pk 7) (V 2) W:=hd 2 (by kernel_rfl);have d9:(λu W=>∃g,u=.slice (some ⟨g,0,none⟩) 2 2/\g≠r/\IntRow W g 2 2) (V 9) W:=hd 9 (by kernel_rfl);simp only[pA,d0]at hA;clear hd d0;generalize V 2=x2 at d2 hA;generalize V 9=x9 at d9 hA;obtain rfl:=hA;obtain⟨k,rfl,hk⟩:=d2;obtain⟨g,rfl,_,hi⟩:=d9;have k0:=hk.1;have k1:=hk.2.1 (by omega)
    go_wp2_with fail
    refine(calm_any l ap cp B a1 a2 a3 c1 c2 c3 k g 2 2 W k0 (by omega) (by omega) hi (HA.out.past JR.out.rd hW)).mono ?_;rintro e w4 ⟨u,rfl,hv⟩;obtain⟨aq,M,cq,z1,z2,z3,d1,d2,d3,D,rfl,hA,hb3⟩:=wis_iff.1 hv;go_wp2;exact hK.out _ _ (.of hb3) ⟨aq,M,cq,z1,z2,z3,d1,d2,d3,D,rfl,hA⟩
   intro V W A hW hR hS hA;have d0:V 0=_:=hS 0 (by omega);have d1:V 1=_:=hS 1 (by omega);have d2:(Pk 7) (V 2) W:=hS 2 (by omega);have d3:V 3=_:=hS 3 (by omega);have d4:(Pk 6) (V 4) W:=hS 4 (by omega);have d5:(λu _=>∃k:Int,u=.int .i64 k) (V 5) W:=hS 5 (by omega);have d6:V 6=_:=hS 6 (by omega);have d7:(Pk 6) (V 7) W:=hS 7 (by omega);have d8:(λu _=>∃k:Int,u=.int .i64 k) (V 8) W:=hS 8 (by omega);have d9:(λu W=>∃g,u=.slice (some ⟨g,0,none⟩) 2 2/\g≠r/\IntRow W g 2 2) (V 9) W:=hS 9 (by omega);have d10:(WV) (V 10) W:=hS 10 (by omega);simp only[pA,d0,d1,d3,d6]at hA;clear hS d0 d1 d3 d6;generalize V 2=x2 at d2 hA;generalize V 4=x4 at d4 hA;generalize V 5=x5 at d5 hA;generalize V 7=x7 at d7 hA;generalize V 8=x8 at d8 hA;generalize V 9=x9 at d9 hA;generalize V 10=x10 at d10 hA;obtain rfl:=hA;simp only[List.drop_succ_cons,List.drop_zero];clear d2 d4 d5 d7 d8 d9;obtain⟨aq,M,cq,z1,z2,z3,d1,d2,d3,D,rfl,hA⟩:=d10;have J9:Hid _:=J8.out.go hW hR;have HA9:Hid (WA W aq M z1 z2 z3 D):=hA;have VX9:Hid _:=DT hW VX.out hvs hvr;clear hA hW hR hR8
   go_upto_region 11 with((with_reducible show wpList _ _ _ _ _ _);refine AL rfl 84 (.tmp 3) (.tmp 68) rfl v 0 #[.slice aq M.length cq,.int .i64 D.now,.slice z1 D.svcs.length d1,.slice z2 D.cps.length d2,.slice z3 D.bts.length d3] rfl rfl 84 #[.slice ap l.length cp,.int .i64 B.now,.slice a1 B.svcs.length c1,.slice a2 B.cps.length c2,.slice a3 B.bts.length c3] VX9.out Tryz.infosWorldE (AD rfl) (by simp[Value.oneCell']) ?_;intro w10 hz on;have JA:Hid (ReU r v f w _ w10):=J9.out.put on hz.out HA9.out;clear hz on;simp only[Act.put])
   go_wp2
   go_roundw
   case rel=>exact⟨m',by go_num,by omega,JA.out.mono (by omega)⟩
   case measure=>simp[intOf]
theorem It(a b c d e:Value)(w:World):(Instr.field 84 (.agg #[a,b,c,d,e]) 1).run Tryz.prog w=.ok (.agg #[b,c,d,e]) w:=by
 kernel_rfl
theorem MN{W W':World}{x:Nat}{cs:Array Value}{fr:Nat × Nat}(hx:W.heap[x]?=some (.cells cs 27 fr))(on:BA x W W'):NH W W':=λc cs' t fr' h2 _ hc=>on.other c λe=>by
 subst e;rw[hx]at hc;injection hc with hc
 injection hc with _ hc
 exact h2 hc.symm
theorem zb_no:∀(j:Nat) (x:Int),(#[.int .i64 0,.slice none 0 0,.slice none 0 0,.slice none 0 0]:Array Value)[j]?≠some (Value.int .u8 x):=by
 intro j x h;rcases j with _|_|_|_|j<;>first|cases h|simp at h
def DrIs(r:Nat)(q:Int)(w:World)(e:Ending)(w':World):Prop:=∃(g1 k1 g2 k2 g3 k3:Nat) (B:Bk),e=.returned (.agg #[.int .i64 B.now,.slice (some ⟨g1,0,none⟩) B.svcs.length k1,.slice (some ⟨g2,0,none⟩) B.cps.length k2,.slice (some ⟨g3,0,none⟩) B.bts.length k3])/\BkRow w' w.heap.size g1 g2 g3 k1 k2 k3 B/\B.sized/\B.tiny/\Past r w.heap.size w w'/\Rd r w' q
theorem draw_any(r:Nat)(q:Int)(w:World)(hR:Rd r w q)(hq:q<=90000000000):
  Calls Tryz.prog 28 #[.pointer (some ⟨r,0,none⟩)] w λe w'=>DrIs r (q+200000000) w e w':=by
 have hlt:=hR.lt;obtain⟨W0,hW0⟩:∃W0,w.alloc (.cells #[.int .i64 0,.slice none 0 0,.slice none 0 0,.slice none 0 0] 27)=W0:=⟨_,rfl⟩;have hb0:Below w.heap.size w W0:=by rw[<-hW0];exact AM _ _
 have VF:Hid (W0.heap[w.heap.size]?=some (.cells #[.int .i64 0,.slice none 0 0,.slice none 0 0,.slice none 0 0] 27 (0,0))):=by unfold Hid;rw[<-hW0];exact heap_alloc_new w _
 have R0:Hid (Rd r W0 q):=hR.below hb0;obtain⟨f,hf⟩:∃f,w.heap.size=f:=⟨_,rfl⟩;have hfd:=It;clear hR;go_enter Tryz.func28,Tryz.ntmps28
 go_upto_region 1 with fail
 rw[hf]at VF;clear hW0
 go_wp2_with (first
  |(go_at_call 52;refine(LZ r _ _ R0.out (by omega)).mono ?_;rintro e w1 ⟨aq,M,cq,g1,k1,g2,k2,g3,k3,B,rfl,hA,hk,hp,hr⟩;have HK:Hid _:=hk;have HR:Hid (Rd r w1 (q+200000000)):=hr;have HP:Hid _:=hp;have V1:Hid _:=DT hp VF.out (AB VF.out).1 (by omega);have HO:Hid _:=hA.ok;clear hA hk hr hp)
  |((with_reducible show wpList _ _ _ _ _ _);refine AL rfl 27 (.tmp 2) (.tmp 5) rfl f 0 #[.int .i64 B.now,.slice (some ⟨g1,0,none⟩) B.svcs.length k1,.slice (some ⟨g2,0,none⟩) B.cps.length k2,.slice (some ⟨g3,0,none⟩) B.bts.length k3] rfl rfl 27 #[.int .i64 0,.slice none 0 0,.slice none 0 0,.slice none 0 0] V1.out Tryz.infosBookE (AD rfl) (by simp[Value.oneCell']) ?_;intro wz hz on;simp only[Act.put]))
 refine bodyPost_ret (results_cell_row rfl _ wz f 27 #[.int .i64 B.now,.slice (some ⟨g1,0,none⟩) B.svcs.length k1,.slice (some ⟨g2,0,none⟩) B.cps.length k2,.slice (some ⟨g3,0,none⟩) B.bts.length k3] (0,0) _ rfl hz.out Tryz.underlying27 rfl Tryz.infosBookE) rfl ?_;exact⟨g1,k1,g2,k2,g3,k3,B,rfl,(HK.out.n hb0.size).tame (MN V1.out on),HO.out.bz,HO.out.bs,((Past.of hb0).next (AG _) HP.out).trans (.of (on.below.mono (by omega))),HR.out.only V1.out on (by omega) zb_no⟩
def Fg(w:World)(ao:Option Addr)(n:Nat):Prop:=0<n->∃b off,ao=some ⟨b,off,none⟩/\b<w.heap.size/\∀i,i<n->∃x:Int,w.cell? ⟨b,off+i,none⟩=some (.int .u8 x)/\0<=x/\x<256
theorem rd_new{w:World}{ao:Option Addr}{n m cap:Nat}(h:Fg w ao n)(hm:m<=n)(h2:m<=2000):Rd w.heap.size (w.alloc (.cells #[.slice ao m cap,.int .i64 0] 59)) 0:=by
 refine⟨ao,m,cap,0,heap_alloc_new w _,Int.le_refl _,Int.le_refl _,h2,λhp=>?_⟩;obtain⟨b,off,e,hlt,hc⟩:=h (by omega);refine⟨b,off,e,by show b<(w.heap.push _).size;simp;omega,by omega,λi hi=>?_⟩;rw[(AM w _).cell (p:=⟨b,off+i,none⟩) hlt];exact hc i (by omega)
theorem open_any(ao:Option Addr)(n cap:Nat)(w:World)(hn:n<=1048576)(hc:n<=cap)(hC:Fg w ao n):
  Calls Tryz.prog 10 #[.slice ao n cap] w λe w'=>e=.returned (.pointer (some ⟨w.heap.size,0,none⟩))/\Rd w.heap.size w' 0/\Below w.heap.size w w':=by
 have HC:Hid (Fg w ao n):=hC;clear hC
 by_cases hg:2000<n
 ·obtain⟨b,off,ea,_⟩:=HC.out (by omega)
  subst ea;go_enter Tryz.func10,Tryz.ntmps10;go_wp2;go_ret;exact⟨rfl,rd_new HC.out (by omega) (AG _),AM _ _⟩
 ·go_enter Tryz.func10,Tryz.ntmps10
  go_wp2;go_ret;exact⟨rfl,rd_new HC.out (AG _) (by omega),AM _ _⟩
end
section
open Go Go.RowKit
theorem draw_ct(r:Nat):CN Tryz.prog (RDr r) 28 910000000000 Kx:=by
 intro w0 G w q id vs es k0 hz hrl hw0 hes _ hQ hC;obtain⟨_,hcan,_,_⟩:=hC;have hq:=hQ.resolve_left (by decide);obtain⟨G0,hargs,hZ0,hRB,hα0,hM⟩:=NB (q':=q) (r:=true) (X:=G.RB) (MZ r) (λ_ h=>h) (λ_=>⟨rfl,rfl⟩) hz hes hcan (nt:=100) rfl;obtain⟨g,e1,e2,rfl,hR,hZ⟩:=(hM 0 rdB rfl).2.1.k4 rfl;have ha:(vs.map (r2 G.α)).toArray=#[.pointer (some ⟨g,0,none⟩)]:=by rw[<-hargs];simp[r2,r1,r0,e1,Addr.add]
 rw[ha];have hqq:(q:Int)<=90000000000:=by unfold QM at hq;omega
 refine(draw_any g q w hR hqq).mono ?_;rintro e w' ⟨g1,k1,g2,k2,g3,k3,B,rfl,hrow,hZB,hT,hp,hr⟩;have hc1:∀l:List Svc,AY l=(l.map svL).flatten:=λl=>List.flatMap_def
 have hc2:∀l:List Cp,As l=(l.map cpL).flatten:=λl=>List.flatMap_def
 have hc3:∀l:List Bt,Ak l=(l.map btL).flatten:=λl=>List.flatMap_def
 rw[show(Value.agg #[.int .i64 B.now,.slice (some ⟨g1,0,none⟩) B.svcs.length k1,.slice (some ⟨g2,0,none⟩) B.cps.length k2,.slice (some ⟨g3,0,none⟩) B.bts.length k3])=r2 (λx=>match x with|0=>some ⟨g1,0,none⟩|1=>some ⟨g2,0,none⟩|_=>some ⟨g3,0,none⟩) (.agg #[.int .i64 B.now,.iface 0 (.slice none B.svcs.length k1),.iface 1 (.slice none B.cps.length k2),.iface 2 (.slice none B.bts.length k3)]) from by simp[r2,r1,r0]];refine M3 (C:=Kx vs es id) (v:=.agg #[.int .i64 B.now,.iface 0 (.slice none B.svcs.length k1),.iface 1 (.slice none B.cps.length k2),.iface 2 (.slice none B.bts.length k3)]) (es':=[(0,Ap 29 13 k1 svL B.svcs),(1,Ap 49 7 k2 cpL B.cps),(2,Ap 51 2 k3 btL B.bts)]) (β:=λx=>match x with|0=>some ⟨g1,0,none⟩|1=>some ⟨g2,0,none⟩|_=>some ⟨g3,0,none⟩) (cost:=910000000000) (X:=λk=>k=g) (λk h=>by rw[h];rw[hRB]at e2;exact e2) (λg' hg' hd=>?_) hz hrl hw0 ⟨hp.os,hp.tape,hp.output,hp.size,λk hk hn=>hp.block k hk hn⟩ rfl (λx b hx=>?_) (λx b y c hx hy hne=>?_) (f:=(id+ ·)) (λx hx=>?_) λk hk=>?_
 ·obtain⟨rfl,_,hzz⟩:=hd
  exact⟨rfl,hr.mono (by omega),hzz⟩
 ·simp only[List.mem_cons,List.not_mem_nil,or_false,Prod.mk.injEq]at hx
  rcases hx with⟨rfl,rfl⟩|⟨rfl,rfl⟩|⟨rfl,rfl⟩
  ·exact⟨g1,_,rfl,hrow.n1,RowK.of KX (hc1 _▸hrow.svcs)⟩
  ·exact⟨g2,_,rfl,hrow.n2,RowK.of Ky (hc2 _▸hrow.cps)⟩
  ·exact⟨g3,_,rfl,hrow.n3,RowK.of K2 (hc3 _▸hrow.bts)⟩
 ·have h12:=hrow.ne12
  have h13:=hrow.ne13;have h23:=hrow.ne23;simp only[List.mem_cons,List.not_mem_nil,or_false,Prod.mk.injEq]at hx hy;rcases hx with⟨rfl,_⟩|⟨rfl,_⟩|⟨rfl,_⟩<;>rcases hy with⟨rfl,_⟩|⟨rfl,_⟩|⟨rfl,_⟩<;>first|exact absurd rfl hne|(intro e;cases e;contradiction)
 ·have hx:x∈[0,1,2]:=hx
  simp only[List.mem_cons,List.not_mem_nil,or_false]at hx;rcases hx with rfl|rfl|rfl<;>exact .inl ⟨_,rfl,rfl⟩
 ·obtain⟨_,_,_,hk⟩:=hk
  exact hk _ _ ⟨B,IM hT hZB,k1,k2,k3,rfl,rfl⟩
end
end Go.Proofs.YtbceafpodamnfaaGreat
