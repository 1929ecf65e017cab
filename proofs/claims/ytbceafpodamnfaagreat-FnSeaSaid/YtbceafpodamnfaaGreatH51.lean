import Derived.Test.YtbceafpodamnfaaGreatH20
import Derived.Test.YtbceafpodamnfaaGreatH50
set_option linter.all false
set_option maxHeartbeats 16000000
set_option maxRecDepth 100000
namespace Go.Proofs.YtbceafpodamnfaaGreat
section
open Go.RowKit Go.Sort
def WV(v:Value)(W:World):Prop:=∃(ap:Option Addr) (l:List Bx) (cp:Nat) (a1 a2 a3:Option Addr) (c1 c2 c3:Nat) (B:Bk),v=.agg #[.slice ap l.length cp,.int .i64 B.now,.slice a1 B.svcs.length c1,.slice a2 B.cps.length c2,.slice a3 B.bts.length c3]/\WA W ap l a1 a2 a3 B
theorem WV.below{v:Value}{W W':World}(h:WV v W)(hb:Below W.heap.size W W'):WV v W':=let ⟨ap,l,cp,a1,a2,a3,c1,c2,c3,B,e,h⟩:=h;⟨ap,l,cp,a1,a2,a3,c1,c2,c3,B,e,h.below hb⟩
structure WvU(v f:Nat)(w wr:World):Prop where
 wx:∃(ap:Option Addr) (l:List Bx) (cp:Nat) (a1 a2 a3:Option Addr) (c1 c2 c3:Nat) (B:Bk),wr.heap[v]?=some (.cells #[.slice ap l.length cp,.int .i64 B.now,.slice a1 B.svcs.length c1,.slice a2 B.cps.length c2,.slice a3 B.bts.length c3] 84 (0,0))/\WA wr ap l a1 a2 a3 B
 vf:wr.heap[f]?=some (.cells #[.slice none 0 0,.int .i64 0,.slice none 0 0,.slice none 0 0,.slice none 0 0] 84 (0,0))
 below:Below w.heap.size w wr
section
variable {v f:Nat} {w wr w':World}
theorem WvU.grew(h:WvU v f w wr)(hb:Below wr.heap.size wr w'):WvU v f w w':=by
 obtain⟨ap,l,cp,a1,a2,a3,c1,c2,c3,B,h1,h2⟩:=h.wx;exact⟨⟨ap,l,cp,a1,a2,a3,c1,c2,c3,B,AK hb h1 (AB h1).1,h2.below hb⟩,AK hb h.vf (AB h.vf).1,h.below.trans (hb.mono h.below.size)⟩
theorem WvU.put(h:WvU v f w wr)(on:BA v wr w'){ap:Option Addr}{l:List Bx}{cp:Nat}{a1 a2 a3:Option Addr}{c1 c2 c3:Nat}{B:Bk}(hz:w'.heap[v]?=some (.cells #[.slice ap l.length cp,.int .i64 B.now,.slice a1 B.svcs.length c1,.slice a2 B.cps.length c2,.slice a3 B.bts.length c3] 84 (0,0)))(hA:WA wr ap l a1 a2 a3 B)(hf:v≠f)(hw:w.heap.size<=v):WvU v f w w':=by
 obtain⟨ap',l',cp',a1',a2',a3',c1',c2',c3',B',h1,_⟩:=h.wx;exact⟨⟨ap,l,cp,a1,a2,a3,c1,c2,c3,B,hz,hA.only (D3 h1) on⟩,(on.other f hf.symm).trans h.vf,h.below.trans (on.below.mono hw)⟩
end
theorem Mg(W:World):WA W none [] none none none noBk:=⟨⟨λh=>absurd rfl h,(λ_ h=>by cases h),λh=>absurd rfl h,λh=>absurd rfl h,λh=>absurd rfl h⟩,⟨AI _,(λ_ h=>by cases h),(λ_ h=>by cases h),noBk_ok.1,noBk_ok.2⟩,λh=>absurd rfl h⟩
theorem Hg(w:World):Below w.heap.size w {w with drawn:=w.drawn+1}:=⟨rfl,rfl,rfl,AG _,λ_ _=>rfl⟩
theorem WV.rel{u:Value}{i p v f:Nat}{w W W':World}(h:WV u W)(hr:MG p (λW W'=>NI W v/\BA v W W'/\WvU v f w W') i W W'):WV u W':=by
 rcases DH hr with hr|hr
 ·obtain⟨ap,l,cp,a1,a2,a3,c1,c2,c3,B,e,h⟩:=h
  exact⟨ap,l,cp,a1,a2,a3,c1,c2,c3,B,e,h.only hr.1 hr.2.1⟩
 ·exact h.below hr
def CalmIs(w:World)(e:Ending)(w':World):Prop:=∃v,e=.returned v/\WIs w.heap.size w w' v
theorem ev_tick:Ev.sized ⟨1,sv0,⟨#[]⟩,0,false⟩:=⟨AI _,AI _⟩
theorem ev0_ok:ev0.sized:=⟨AI _,AI _⟩
theorem calm_any(l:List Bx)(ap:Option Addr)(cp:Nat)(B:Bk)(a1 a2 a3:Option Addr)(c1 c2 c3:Nat)(rounds:Int)(b n c:Nat)(w:World)(hr0:0<=rounds)(hr1:rounds<=1000)(hn:n<=100)(hI:IntRow w b n c)(hW:WA w ap l a1 a2 a3 B):
  Calls Tryz.prog 66 #[.agg #[.slice ap l.length cp,.int .i64 B.now,.slice a1 B.svcs.length c1,.slice a2 B.cps.length c2,.slice a3 B.bts.length c3],.int .i64 rounds,.slice (some ⟨b,0,none⟩) n c] w λe w'=>CalmIs w e w':=by
 have HW:Hid (WA w ap l a1 a2 a3 B):=hW;have HI:Hid (IntRow w b n c):=hI;clear hW hI
 obtain⟨W0,hW0,t0,t1,hs0,hb0⟩:∃W0,(w.alloc (.cells #[.slice ap l.length cp,.int .i64 B.now,.slice a1 B.svcs.length c1,.slice a2 B.cps.length c2,.slice a3 B.bts.length c3] 84)).alloc (.cells #[.slice none 0 0,.int .i64 0,.slice none 0 0,.slice none 0 0,.slice none 0 0] 84)=W0/\W0.heap[w.heap.size]?=some (.cells #[.slice ap l.length cp,.int .i64 B.now,.slice a1 B.svcs.length c1,.slice a2 B.cps.length c2,.slice a3 B.bts.length c3] 84 (0,0))/\W0.heap[w.heap.size+1]?=some (.cells #[.slice none 0 0,.int .i64 0,.slice none 0 0,.slice none 0 0,.slice none 0 0] 84 (0,0))/\W0.heap.size=w.heap.size+1+1/\Below w.heap.size w W0:=by
  obtain⟨h1,h2,h3⟩:=B0 w (.cells #[.slice ap l.length cp,.int .i64 B.now,.slice a1 B.svcs.length c1,.slice a2 B.cps.length c2,.slice a3 B.bts.length c3] 84) (.cells #[.slice none 0 0,.int .i64 0,.slice none 0 0,.slice none 0 0,.slice none 0 0] 84);exact⟨_,rfl,h1,h2,h3,(AM w _).alloc (by show w.heap.size<=(w.heap.push _).size;simp) _⟩
 obtain⟨x,hx⟩:∃x,w.heap.size=x:=⟨_,rfl⟩;obtain⟨f,hf⟩:∃f,x+1=f:=⟨_,rfl⟩;have T0:Hid _:=t0;have T1:Hid _:=t1;have HS0:Hid _:=hs0;clear t0 t1 hs0;go_enter Tryz.func66,Tryz.ntmps66
 go_upto_region 1 with fail
 rw[hx]at T0;rw[hx,hf]at T1;clear hW0
 go_upto_if 13 with(first
  |((with_reducible show wpList _ _ _ _ _ _);refine wpList_load_row rfl 84 (.tmp 3) rfl x rfl 84 #[.slice ap l.length cp,.int .i64 B.now,.slice a1 B.svcs.length c1,.slice a2 B.cps.length c2,.slice a3 B.bts.length c3] (0,0) _ T0.out Tryz.underlying84 rfl Tryz.infosWorldE ?_)
  |(go_at_call 86;refine(IC l ap cp B a1 a2 a3 c1 c2 c3 _ (by have:=HW.out.ok.len;omega) HW.out.ok.zs (λx hx=>(HW.out.ok.ss x hx).small) HW.out.ok.bz HW.out.ok.bs.small (HW.out.wat.below hb0)).mono ?_;rintro e w1 ⟨rfl,hb1⟩))
 have hs0:=HS0.out;have hb1w:Below w.heap.size w w1:=hb0.trans (hb1.mono hb0.size);have U0:Hid _:=AK hb1 T0.out (by omega);have U1:Hid _:=AK hb1 T1.out (by omega);have hs1:=hb1.size;clear T0 T1 hb0 hb1;cases hok:EJ (l.map (·.b)) B
 ·go_wp2_with ((with_reducible show wpList _ _ _ _ _ _);refine AL rfl 84 (.tmp 6) (.tmp 14) rfl f 0 #[.slice none 0 0,.int .i64 0,.slice none 0 0,.slice none 0 0,.slice none 0 0] rfl rfl 84 #[.slice none 0 0,.int .i64 0,.slice none 0 0,.slice none 0 0,.slice none 0 0] U1.out Tryz.infosWorldE (AD rfl) (by simp[Value.oneCell']) ?_;intro wz hz on;simp only[Act.put])
  refine bodyPost_ret (results_cell_row rfl _ wz f 84 #[.slice none 0 0,.int .i64 0,.slice none 0 0,.slice none 0 0,.slice none 0 0] (0,0) _ rfl hz.out Tryz.underlying84 rfl Tryz.infosWorldE) rfl ?_;exact⟨_,rfl,wis_iff.2 ⟨none,[],0,none,none,none,0,0,0,noBk,rfl,Mg _,hb1w.trans (on.below.mono (by omega))⟩⟩
 clear hok
 go_upto_region 4 with(go_at_call 87;refine(OT b n c _ hn (HI.out.below hb1w)).mono ?_;rintro e w2 ⟨g,n',cap',rfl,hi2,hn2,hb2⟩)
 have I2:Hid (IntRow w2 g n' cap'):=hi2;have hb2w:Below w.heap.size w w2:=hb1w.trans (hb2.mono hb1w.size);have X2:Hid _:=AK hb2 U0.out (by omega);have F2:Hid _:=AK hb2 U1.out (by omega);have hs2:=hb2.size;have hg2:=hi2.lt;clear hi2 hb1w hb2 U0 U1 HI
 go_upto_region 5 with((with_reducible show wpList _ _ _ _ _ _);refine wpList_load_row rfl 84 (.tmp 3) rfl x rfl 84 #[.slice ap l.length cp,.int .i64 B.now,.slice a1 B.svcs.length c1,.slice a2 B.cps.length c2,.slice a3 B.bts.length c3] (0,0) _ X2.out Tryz.underlying84 rfl Tryz.infosWorldE ?_)
 obtain⟨W3,hW3⟩:∃W3,w2.alloc (.cells #[.slice ap l.length cp,.int .i64 B.now,.slice a1 B.svcs.length c1,.slice a2 B.cps.length c2,.slice a3 B.bts.length c3] 84)=W3:=⟨_,rfl⟩;rw[hW3];have hb3:Below w2.heap.size w2 W3:=by rw[<-hW3];exact AM _ _
 have hs3:W3.heap.size=w2.heap.size+1:=by rw[<-hW3];show(w2.heap.push _).size=_;simp
 have hb3w:Below w.heap.size w W3:=hb2w.trans (hb3.mono hb2w.size);have V3:Hid (W3.heap[w2.heap.size]?=some (.cells #[.slice ap l.length cp,.int .i64 B.now,.slice a1 B.svcs.length c1,.slice a2 B.cps.length c2,.slice a3 B.bts.length c3] 84 (0,0))):=by unfold Hid;rw[<-hW3];exact heap_alloc_new w2 _
 obtain⟨v,hv⟩:∃v,w2.heap.size=v:=⟨_,rfl⟩;rw[hv]at V3;rw[hv];have J0:Hid (WvU v f w W3):=⟨⟨ap,l,cp,a1,a2,a3,c1,c2,c3,B,V3.out,HW.out.below hb3w⟩,AK hb3 F2.out (by omega),hb3w⟩;have I0:Hid (IntRow W3 g n' cap'):=I2.out.below hb3;clear hW3 hb3 hb3w hb2w V3 X2 F2 I2 HW
 go_upto_region 6 with fail
 go_loopw [9] (λiv wr=>∃k:Nat,iv=.int .i64 k/\k<=1000/\WvU v f w wr/\IntRow wr g n' cap') (λi _=>1000 - (intOf i).toNat)
 case atStart=>exact⟨0,rfl,by omega,J0.out,I0.out⟩
 case round=>
  clear J0 I0;obtain⟨k,rfl,hk,hJ,hI⟩:=hrel;have J:Hid (WvU v f w wr):=hJ;have I:Hid (IntRow wr g n' cap'):=hI;clear hJ hI;obtain⟨ap,l,cp,a1,a2,a3,c1,c2,c3,B,hvx,hwa⟩:=J.out.wx;have VX:Hid _:=hvx;have HA:Hid (WA _ ap l a1 a2 a3 B):=hwa;clear hvx hwa
  by_cases hlt:(k:Int)<rounds
  rotate_left
  ·have hlb:decide ((k:Int)<rounds)=false:=by simp[hlt]
   go_wp2_with (first
    |((with_reducible show wpList _ _ _ _ _ _);refine wpList_load_row rfl 84 (.tmp 8) rfl v rfl 84 #[.slice ap l.length cp,.int .i64 B.now,.slice a1 B.svcs.length c1,.slice a2 B.cps.length c2,.slice a3 B.bts.length c3] (0,0) _ VX.out Tryz.underlying84 rfl Tryz.infosWorldE ?_)
    |(go_at_call 67;refine(L8 l ap cp B a1 a2 a3 c1 c2 c3 _ HA.out).mono ?_;rintro e w4 ⟨aq,M,cq,g1,k1,g2,k2,g3,k3,rfl,hA,_,hb4⟩;have HA4:Hid (WA w4 aq M _ _ _ B):=hA;have F4:Hid _:=AK hb4 J.out.vf (AB J.out.vf).1;have hB4:Below w.heap.size w w4:=J.out.below.trans (hb4.mono J.out.below.size);clear hA hb4)
    |((with_reducible show wpList _ _ _ _ _ _);refine AL rfl 84 (.tmp 6) (.tmp 51) rfl f 0 #[.slice aq M.length cq,.int .i64 B.now,.slice (some ⟨g1,0,none⟩) B.svcs.length k1,.slice (some ⟨g2,0,none⟩) B.cps.length k2,.slice (some ⟨g3,0,none⟩) B.bts.length k3] rfl rfl 84 #[.slice none 0 0,.int .i64 0,.slice none 0 0,.slice none 0 0,.slice none 0 0] F4.out Tryz.infosWorldE (AD rfl) (by simp[Value.oneCell']) ?_;intro wz hz on;simp only[Act.put]))
   refine bodyPost_ret (results_cell_row rfl _ wz f 84 #[.slice aq M.length cq,.int .i64 B.now,.slice (some ⟨g1,0,none⟩) B.svcs.length k1,.slice (some ⟨g2,0,none⟩) B.cps.length k2,.slice (some ⟨g3,0,none⟩) B.bts.length k3] (0,0) _ rfl hz.out Tryz.underlying84 rfl Tryz.infosWorldE) rfl ?_;exact⟨_,rfl,wis_iff.2 ⟨aq,M,cq,_,_,_,k1,k2,k3,B,rfl,HA4.out.only (D3 F4.out) on,hB4.trans (on.below.mono (by omega))⟩⟩
  have hk1:k<1000:=by omega
  have hlb:decide ((k:Int)<rounds)=true:=by simp[hlt]
  have hlc:decide ((k:Int)<1000)=true:=by simp;omega
  go_upto_region 9 with(first|((with_reducible show wpList _ _ _ _ _ _);refine wpList_load_row rfl 84 (.tmp 8) rfl v rfl 84 #[.slice ap l.length cp,.int .i64 B.now,.slice a1 B.svcs.length c1,.slice a2 B.cps.length c2,.slice a3 B.bts.length c3] (0,0) _ VX.out Tryz.underlying84 rfl Tryz.infosWorldE ?_)|(go_at_call 64;refine(Hh l ap cp B a1 a2 a3 c1 c2 c3 ⟨0,0,⟨1,sv0,⟨#[]⟩,0,false⟩⟩ _ (by decide) (by decide) ev_tick HA.out).mono ?_;rintro e w4 ⟨vw,vq,rfl,hv⟩;obtain⟨aq,M,cq,z1,z2,z3,d1,d2,d3,D,rfl,hA,hb3⟩:=wis_iff.1 hv;have HA4:Hid (WA w4 aq M z1 z2 z3 D):=hA;have J4:Hid _:=J.out.grew hb3;have I4:Hid (IntRow w4 g n' cap'):=I.out.below hb3;have VX4:Hid _:=AK hb3 VX.out (AB VX.out).1;clear hv hA hb3)|((with_reducible show wpList _ _ _ _ _ _);refine AL rfl 84 (.tmp 8) (.tmp 32) rfl v 0 #[.slice aq M.length cq,.int .i64 D.now,.slice z1 D.svcs.length d1,.slice z2 D.cps.length d2,.slice z3 D.bts.length d3] rfl rfl 84 #[.slice ap l.length cp,.int .i64 B.now,.slice a1 B.svcs.length c1,.slice a2 B.cps.length c2,.slice a3 B.bts.length c3] VX4.out Tryz.infosWorldE (AD rfl) (by simp[Value.oneCell']) ?_;intro w5 hz on;have J5:Hid (WvU v f w w5):=J4.out.put on hz.out HA4.out (by omega) (by omega);have I5:Hid (IntRow w5 g n' cap'):=I4.out.blk (on.other g (by omega));clear hz on;simp only[Act.put]))
  clear J I VX HA J4 I4 VX4 HA4 hlb hlc
  go_upto_region 10 with fail
  go_loopw [10] (λjv wq=>∃j:Nat,j<=n'/\jv=.int .i64 j/\WvU v f w wq/\IntRow wq g n' cap') (λi _=>n' - (intOf i).toNat)
  case atStart=>exact⟨0,by omega,rfl,J5.out,I5.out⟩
  case round=>
   clear J5 I5;obtain⟨j,hj,rfl,hJ,hI⟩:=hrel;have J:Hid (WvU v f w wr):=hJ;have I:Hid (IntRow wr g n' cap'):=hI;clear hJ hI
   by_cases hjl:j<n'
   rotate_left
   ·go_wp2
    go_roundw
    case rel=>exact⟨k+1,by go_num,by omega,J.out,I.out⟩
    case measure=>simp[intOf];omega
   go_upto_region 12 with fail
   refine DW 11 rfl 10 (λW=>WvU v f w W/\IntRow W g n' cap') (λ_=>True) (MG 10 (λW W'=>NI W v/\BA v W W'/\WvU v f w W')) (by kernel_rfl) (by kernel_rfl) ⟨J.out.grew (Hg wr),I.out.below (Hg wr)⟩ trivial (λi W W' h hr=>(DH hr).elim (λh'=>⟨h'.2.2,h.2.blk (h'.2.1.other g (by omega))⟩) λhb=>⟨h.1.grew hb,h.2.below hb⟩) (λ_ _ _ _ _ _=>trivial) ?_;refine Az (WV) (λi hi _ W W' h hr=>h.rel hr) ?_ ?_
   ·intro V W K A hI hZ hd hA hK
    simp only[pA]at hA;clear hd;obtain rfl:=hA;obtain⟨ap,l,cp,a1,a2,a3,c1,c2,c3,B,hvx,hwa⟩:=hI.1.wx;refine wpList_load_row rfl 84 (.tmp 8) rfl v rfl 84 #[.slice ap l.length cp,.int .i64 B.now,.slice a1 B.svcs.length c1,.slice a2 B.cps.length c2,.slice a3 B.bts.length c3] (0,0) _ hvx Tryz.underlying84 rfl Tryz.infosWorldE ?_;go_wp2;exact hK.out _ _ brf ⟨ap,l,cp,a1,a2,a3,c1,c2,c3,B,rfl,hwa⟩
   apply CK
   ·intro V W K A hI hZ hd hA hK
    simp only[pA]at hA;clear hd;obtain rfl:=hA;go_wp2;exact hK.out _ brf
   apply CK
   ·intro V W K A hI hZ hd hA hK
    simp only[pA]at hA;clear hd;obtain rfl:=hA;go_wp2;exact hK.out _ brf
   apply CK
   ·intro V W K A hI hZ hd hA hK
    have d1:V 1=_:=hd 1 (by kernel_rfl);have d2:V 2=_:=hd 2 (by kernel_rfl);simp only[pA,d1,d2]at hA;clear hd d1 d2;obtain rfl:=hA;go_wp2;exact hK.out _ brf
   refine Az (λu _=>∃st:Int,u=.int .i64 st) (λ_ _ _ _ _ h _=>h) ?_ ?_
   ·intro V W K A hI hZ hd hA hK
    have d3:V 3=_:=hd 3 (by kernel_rfl);simp only[pA,d3]at hA;clear hd d3;obtain rfl:=hA;obtain⟨st,hst⟩:=hI.2.cell hjl;go_wp2;exact hK.out _ _ brf ⟨st,rfl⟩
   refine Az (λu _=>∃st:Int,u=.agg (Mv.cells ⟨st,0,ev0⟩)) (λ_ _ _ _ _ h _=>h) ?_ ?_
   ·intro V W K A hI hZ hd hA hK
    have d4:(λu _=>∃st:Int,u=.int .i64 st) (V 4) W:=hd 4 (by kernel_rfl);simp only[pA]at hA;clear hd;generalize V 4=x4 at d4 hA;obtain rfl:=hA;obtain⟨st,rfl⟩:=d4;go_wp2;exact hK.out _ _ brf ⟨st,rfl⟩
   refine Az (λu W=>∃vw vq,u=.tuple #[vw,vq]/\WV vw W) (λi hi _ W W' ⟨vw,vq,e,h⟩ hr=>⟨vw,vq,e,h.rel hr⟩) ?_ ?_
   ·intro V W K A hI hZ hd hA hK
    have d0:(WV) (V 0) W:=hd 0 (by kernel_rfl);have d5:(λu _=>∃st:Int,u=.agg (Mv.cells ⟨st,0,ev0⟩)) (V 5) W:=hd 5 (by kernel_rfl);simp only[pA]at hA;clear hd;generalize V 0=x0 at d0 hA;generalize V 5=x5 at d5 hA;obtain rfl:=hA;obtain⟨ap,l,cp,a1,a2,a3,c1,c2,c3,B,rfl,hwa⟩:=d0;obtain⟨st,rfl⟩:=d5
    go_wp2_with fail
    refine(Hh l ap cp B a1 a2 a3 c1 c2 c3 ⟨st,0,ev0⟩ W (Int.le_refl 0) (by show(0:Int)<=1000;decide) ev0_ok hwa).mono ?_;rintro e w4 ⟨vw,vq,rfl,hv⟩;obtain⟨aq,M,cq,z1,z2,z3,d1,d2,d3,D,rfl,hA,hb3⟩:=wis_iff.1 hv;go_wp2;exact hK.out _ _ hb3 ⟨_,_,rfl,aq,M,cq,z1,z2,z3,d1,d2,d3,D,rfl,hA⟩
   refine Az (λu W=>∃vw vq,u=.tuple #[vw,vq]/\WV vw W) (λi hi _ W W' ⟨vw,vq,e,h⟩ hr=>⟨vw,vq,e,h.rel hr⟩) ?_ ?_
   ·intro V W K A hI hZ hd hA hK
    have d6:(λu W=>∃vw vq,u=.tuple #[vw,vq]/\WV vw W) (V 6) W:=hd 6 (by kernel_rfl);simp only[pA]at hA;clear hd;generalize V 6=x6 at d6 hA;obtain rfl:=hA;obtain⟨vw,vq,rfl,h⟩:=d6;go_wp2;exact hK.out _ _ brf ⟨vw,vq,rfl,h⟩
   refine Az (WV) (λi hi _ W W' h hr=>h.rel hr) ?_ ?_
   ·intro V W K A hI hZ hd hA hK
    have d7:(λu W=>∃vw vq,u=.tuple #[vw,vq]/\WV vw W) (V 7) W:=hd 7 (by kernel_rfl);simp only[pA]at hA;clear hd;generalize V 7=x7 at d7 hA;obtain rfl:=hA;obtain⟨vw,vq,rfl,h⟩:=d7;go_wp2;exact hK.out _ _ brf h
   refine Az (λ_ _=>True) (λ_ _ _ _ _ _ _=>trivial) ?_ ?_
   ·intro V W K A hI hZ hd hA hK
    have d7:(λu W=>∃vw vq,u=.tuple #[vw,vq]/\WV vw W) (V 7) W:=hd 7 (by kernel_rfl);simp only[pA]at hA;clear hd;generalize V 7=x7 at d7 hA;obtain rfl:=hA;obtain⟨vw,vq,rfl,h⟩:=d7;go_wp2;exact hK.out _ _ brf trivial
   refine Az (λ_ _=>True) (λ_ _ _ _ _ _ _=>trivial) ?_ ?_
   ·intro V W K A hI hZ hd hA hK
    have d8:(WV) (V 8) W:=hd 8 (by kernel_rfl);simp only[pA]at hA;clear hd;generalize V 8=x8 at d8 hA;obtain rfl:=hA;obtain⟨aq,M,cq,z1,z2,z3,d1,d2,d3,D,rfl,hA⟩:=d8;obtain⟨ap,l,cp,a1,a2,a3,c1,c2,c3,B,hvx,hwa⟩:=hI.1.wx;have HI1:Hid (WvU v f w W):=hI.1;have HVX:Hid _:=hvx;have HA2:Hid (WA W aq M z1 z2 z3 D):=hA;clear hvx hwa hA hI;refine AL rfl 84 (.tmp 8) (.tmp 48) rfl v 0 #[.slice aq M.length cq,.int .i64 D.now,.slice z1 D.svcs.length d1,.slice z2 D.cps.length d2,.slice z3 D.bts.length d3] rfl rfl 84 #[.slice ap l.length cp,.int .i64 B.now,.slice a1 B.svcs.length c1,.slice a2 B.cps.length c2,.slice a3 B.bts.length c3] HVX.out Tryz.infosWorldE (AD rfl) (by simp[Value.oneCell']) ?_;intro w7 hz on;have HR:Hid (NI W v/\BA v W w7/\WvU v f w w7):=⟨D3 HVX.out,on,HI1.out.put on hz.out HA2.out (by omega) (by omega)⟩;clear hz on;go_wp2;exact hK.out undef _ HR.out trivial
   intro V W A hI hS hA;have d1:V 1=_:=hS 1 (by decide);have d2:V 2=_:=hS 2 (by decide);have d3:V 3=_:=hS 3 (by decide);simp only[pA,d1,d2,d3]at hA;clear hS d1 d2 d3;obtain rfl:=hA;have J7:Hid (WvU v f w W):=hI.1;have I7:Hid (IntRow W g n' cap'):=hI.2;clear hI;go_wp2
   go_roundw
   case rel=>exact⟨j+1,by omega,by go_num,J7.out,I7.out⟩
   case measure=>simp[intOf];omega
theorem Rd.only{r g:Nat}{w w':World}{q:Int}{cs:Array Value}{t:TypeId}{fr:Nat × Nat}(hR:Rd r w q)(hb:w.heap[g]?=some (.cells cs t fr))(on:BA g w w')(hr:r≠g)(hno:∀(j:Nat) (x:Int),cs[j]?≠some (Value.int .u8 x)):Rd r w' q:=by
 obtain⟨ao,n,cap,p,c1,c2,c3,c4,c5⟩:=hR;refine⟨ao,n,cap,p,(on.other r hr).trans c1,c2,c3,c4,λhn=>?_⟩;obtain⟨b,off,e1,e2,e3,e4⟩:=c5 hn;refine⟨b,off,e1,by rw[on.size];exact e2,e3,λi hi=>?_⟩
 by_cases hbg:b=g
 ·subst hbg
  obtain⟨x,hx,_⟩:=e4 i hi;rw[cell_of_row w b _ _ _ _ hb]at hx;exact absurd hx (hno _ _)
 ·obtain⟨x,hx,hx'⟩:=e4 i hi
  exact⟨x,by rw[World.cell?_of_block (w:=w) (on.other b hbg)];exact hx,hx'⟩
theorem WA.past{r:Nat}{w w':World}{q:Int}{ap:Option Addr}{l:List Bx}{a1 a2 a3:Option Addr}{B:Bk}(h:WA w ap l a1 a2 a3 B)(hr:Rd r w q)(hb:Past r w.heap.size w w'):WA w' ap l a1 a2 a3 B:=
 ⟨h.wat.past hr hb,h.ok,λhl b off e=>by
  obtain⟨cs,fr,h1⟩:=h.rt hl b off e;refine⟨cs,fr,DT hb h1 (AB h1).1 ?_⟩;rintro rfl;obtain⟨_,_,_,_,h2,_⟩:=hr;rw[h1]at h2;injection h2 with h2
  injection h2 with _ h2
  exact absurd h2 (by decide)⟩
theorem WV.past{r:Nat}{v:Value}{W W':World}{q:Int}(h:WV v W)(hr:Rd r W q)(hb:Past r W.heap.size W W'):WV v W':=let ⟨ap,l,cp,a1,a2,a3,c1,c2,c3,B,e,h⟩:=h;⟨ap,l,cp,a1,a2,a3,c1,c2,c3,B,e,h.past hr hb⟩
structure ReU(r v f:Nat)(w:World)(q:Int)(wr:World):Prop where
 wx:∃(ap:Option Addr) (l:List Bx) (cp:Nat) (a1 a2 a3:Option Addr) (c1 c2 c3:Nat) (B:Bk),wr.heap[v]?=some (.cells #[.slice ap l.length cp,.int .i64 B.now,.slice a1 B.svcs.length c1,.slice a2 B.cps.length c2,.slice a3 B.bts.length c3] 84 (0,0))/\WA wr ap l a1 a2 a3 B
 vf:wr.heap[f]?=some (.cells #[.slice none 0 0,.int .i64 0,.slice none 0 0,.slice none 0 0,.slice none 0 0] 84 (0,0))
 rd:Rd r wr q
 past:Past r w.heap.size w wr
 rf:r<f
 fv:f<v
 n0:w.heap.size<=f
theorem w_no{ap:Option Addr}{n cp:Nat}{now:Int}{a1 a2 a3:Option Addr}{n1 n2 n3 c1 c2 c3:Nat}:∀(j:Nat) (x:Int),(#[.slice ap n cp,.int .i64 now,.slice a1 n1 c1,.slice a2 n2 c2,.slice a3 n3 c3]:Array Value)[j]?≠some (Value.int .u8 x):=by
 intro j x h;rcases j with _|_|_|_|_|j<;>first|cases h|simp at h
section
variable {r v f:Nat} {w wr w':World} {q q':Int}
theorem ReU.go(h:ReU r v f w q wr)(hp:Past r wr.heap.size wr w')(hr:Rd r w' q'):ReU r v f w q' w':=by
 obtain⟨ap,l,cp,a1,a2,a3,c1,c2,c3,B,h1,h2⟩:=h.wx;have h3:=h.rf;have h4:=h.fv;exact⟨⟨ap,l,cp,a1,a2,a3,c1,c2,c3,B,DT hp h1 (AB h1).1 (by omega),h2.past h.rd hp⟩,DT hp h.vf (AB h.vf).1 (by omega),hr,h.past.next (AG _) hp,h3,h4,h.n0⟩
theorem ReU.grew(h:ReU r v f w q wr)(hb:Below wr.heap.size wr w'):ReU r v f w q w':=h.go (.of hb) (h.rd.below hb)
theorem ReU.step(h:ReU r v f w q wr)(hs:RStep r 1 wr w'):ReU r v f w (q+1) w':=h.go hs.1 (hs.2 _ h.rd)
theorem ReU.mono(h:ReU r v f w q wr)(hq:q<=q'):ReU r v f w q' wr:={h with rd:=h.rd.mono hq}
theorem ReU.put(h:ReU r v f w q wr)(on:BA v wr w'){ap:Option Addr}{l:List Bx}{cp:Nat}{a1 a2 a3:Option Addr}{c1 c2 c3:Nat}{B:Bk}(hz:w'.heap[v]?=some (.cells #[.slice ap l.length cp,.int .i64 B.now,.slice a1 B.svcs.length c1,.slice a2 B.cps.length c2,.slice a3 B.bts.length c3] 84 (0,0)))(hA:WA wr ap l a1 a2 a3 B):ReU r v f w q w':=by
 obtain⟨ap',l',cp',a1',a2',a3',c1',c2',c3',B',h1,_⟩:=h.wx;have h3:=h.rf;have h4:=h.fv;have h5:=h.n0;exact⟨⟨ap,l,cp,a1,a2,a3,c1,c2,c3,B,hz,hA.only (D3 h1) on⟩,(on.other f (by omega)).trans h.vf,h.rd.only h1 on (by omega) w_no,h.past.trans (.of (on.below.mono (by omega))),h3,h4,h5⟩
end
def MH(a b:Nat)(RA RB:World->World->Prop)(i:Nat)(W W':World):Prop:=match Nat.beq i a with
 |true=>RA W W'
 |false=>match Nat.beq i b with
  |true=>RB W W'
  |false=>Below W.heap.size W W'
theorem Ei{a b:Nat}{RA RB:World->World->Prop}{i:Nat}{W W':World}(h:MH a b RA RB i W W'):(i=a/\RA W W')\/RB W W'\/Below W.heap.size W W':=by
 unfold MH at h;split at h
 ·rename_i hb
  exact .inl ⟨Nat.eq_of_beq_eq_true hb,h⟩
 ·split at h
  ·exact .inr (.inl h)
  ·exact .inr (.inr h)
def LA(r v f:Nat)(w:World)(W W':World):Prop:=NI W v/\BA v W W'/\(∀q,ReU r v f w q W->ReU r v f w q W')/\∀q,Rd r W q->Rd r W' q
def KR(r:Nat)(Q:Int)(W W':World):Prop:=(∃q,Rd r W q)/\Past r W.heap.size W W'/\Rd r W' Q
theorem WV.rel3{u:Value}{i a b r v f:Nat}{w W W':World}{Q:Int}(h:WV u W)(hr:MH a b (KR r Q) (LA r v f w) i W W'):WV u W':=by
 rcases Ei hr with⟨_,⟨q,hq⟩,hp,_⟩|hr|hr
 ·exact h.past hq hp
 ·obtain⟨ap,l,cp,a1,a2,a3,c1,c2,c3,B,e,h⟩:=h
  exact⟨ap,l,cp,a1,a2,a3,c1,c2,c3,B,e,h.only hr.1 hr.2.1⟩
 ·exact h.below hr
theorem re_inv{i a b r v f:Nat}{w W W':World}{Q:Int}(h:ReU r v f w Q W)(hr:MH a b (KR r Q) (LA r v f w) i W W'):ReU r v f w Q W':=by
 rcases Ei hr with⟨_,_,hp,hq⟩|hr|hr
 ·exact h.go hp hq
 ·exact hr.2.2.1 _ h
 ·exact h.grew hr
theorem NV{i a b r v f:Nat}{w W W':World}{Q q:Int}(hi:i≠a)(h:Rd r W q)(hr:MH a b (KR r Q) (LA r v f w) i W W'):Rd r W' q:=by
 rcases Ei hr with⟨e,_⟩|hr|hr
 ·exact absurd e hi
 ·exact hr.2.2.2 _ h
 ·exact h.below hr
theorem NY{r v f:Nat}{w W W':World}{Q:Int}(hJ:ReU r v f w Q W)(on:BA v W W'){ap:Option Addr}{l:List Bx}{cp:Nat}{a1 a2 a3:Option Addr}{c1 c2 c3:Nat}{B:Bk}(hz:W'.heap[v]?=some (.cells #[.slice ap l.length cp,.int .i64 B.now,.slice a1 B.svcs.length c1,.slice a2 B.cps.length c2,.slice a3 B.bts.length c3] 84 (0,0)))(hA:WA W ap l a1 a2 a3 B):LA r v f w W W':=by
 obtain⟨ap',l',cp',a1',a2',a3',c1',c2',c3',B',h1,_⟩:=hJ.wx;exact⟨D3 h1,on,λq h=>h.put on hz hA,λq h=>h.only h1 on (by have:=hJ.rf;have:=hJ.fv;omega) w_no⟩
end
end Go.Proofs.YtbceafpodamnfaaGreat
