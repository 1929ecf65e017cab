import Derived.Test.YtbceafpodamnfaaGreatH47
set_option linter.all false
set_option maxHeartbeats 16000000
set_option maxRecDepth 100000
namespace Go.Proofs.YtbceafpodamnfaaGreat
open Go.RowKit Go.Sort
structure DoU(n x f:Nat)(ao:Option Addr)(R:List Ed)(w:World)(k g cap:Nat)(wr:World):Prop where
 row:IntRow wr g k cap
 gx:n<=g
 wx:∃(ap:Option Addr) (l:List Bx) (cp:Nat) (a1 a2 a3:Option Addr) (c1 c2 c3:Nat) (B:Bk),wr.heap[x]?=some (.cells #[.slice ap l.length cp,.int .i64 B.now,.slice a1 B.svcs.length c1,.slice a2 B.cps.length c2,.slice a3 B.bts.length c3] 84 (0,0))/\WA wr ap l a1 a2 a3 B
 vf:wr.heap[f]?=some (.cells #[.slice none 0 0,.int .i64 0,.slice none 0 0,.slice none 0 0,.slice none 0 0] 84 (0,0))
 acts:SlAg g x wr ao R
 below:Below w.heap.size w wr
section
variable {n x f k g g' cap cap':Nat} {ao:Option Addr} {R:List Ed} {w wr w' w'':World}
theorem DoU.grew(h:DoU n x f ao R w k g cap wr)(hb:Below wr.heap.size wr w'):DoU n x f ao R w k g cap w':=by
 obtain⟨ap,l,cp,a1,a2,a3,c1,c2,c3,B,h1,h2⟩:=h.wx;exact⟨h.row.below hb,h.gx,⟨ap,l,cp,a1,a2,a3,c1,c2,c3,B,AK hb h1 (AB h1).1,h2.below hb⟩,AK hb h.vf (AB h.vf).1,h.acts.below hb,h.below.trans (hb.mono h.below.size)⟩
theorem DoU.turn(h:DoU n x f ao R w k g cap wr)(hr:(g'=g/\BA g wr w')\/(g'=wr.heap.size/\Below wr.heap.size wr w'))(hi:IntRow w' g' (k+1) cap')(hx:x<n)(hf:f<n)(hn:n<=wr.heap.size)(hw:w.heap.size<=x):DoU n x f ao R w (k+1) g' cap' w':=by
 have hg:=h.gx;rcases hr with⟨rfl,on⟩|⟨rfl,hb⟩
 ·obtain⟨ap,l,cp,a1,a2,a3,c1,c2,c3,B,h1,h2⟩:=h.wx
  exact⟨hi,hg,⟨ap,l,cp,a1,a2,a3,c1,c2,c3,B,(on.other x (by omega)).trans h1,h2.only h.row.bare on⟩,(on.other f (by omega)).trans h.vf,h.acts.row (.inl ⟨rfl,on⟩),h.below.trans (on.below.mono (by omega))⟩
 ·have h2:=h.grew hb
  exact⟨hi,hn,h2.wx,h2.vf,h.acts.row (.inr ⟨rfl,hb⟩),h2.below⟩
theorem DoU.put(h:DoU n x f ao R w k g cap wr)(on:BA x wr w'){ap:Option Addr}{l:List Bx}{cp:Nat}{a1 a2 a3:Option Addr}{c1 c2 c3:Nat}{B:Bk}(hz:w'.heap[x]?=some (.cells #[.slice ap l.length cp,.int .i64 B.now,.slice a1 B.svcs.length c1,.slice a2 B.cps.length c2,.slice a3 B.bts.length c3] 84 (0,0)))(hA:WA wr ap l a1 a2 a3 B)(hx:x<n)(hf:x<f)(hw:w.heap.size<=x):DoU n x f ao R w k g cap w':=by
 have hg:=h.gx;obtain⟨ap',l',cp',a1',a2',a3',c1',c2',c3',B',h1,_⟩:=h.wx;exact⟨h.row.blk (on.other g (by omega)),hg,⟨ap,l,cp,a1,a2,a3,c1,c2,c3,B,hz,hA.only (D3 h1) on⟩,(on.other f (by omega)).trans h.vf,h.acts.only on,h.below.trans (on.below.mono hw)⟩
end
theorem Li{w:World}{g:Nat}{fr:Nat × Nat}(h:w.heap[g]?=some (.cells #[.int .i64 0,.slice none 0 0,.slice none 0 0,.slice none 0 0] 27 fr)):NoStr w g:=
 .of h λj s hj=>by rcases j with _|_|_|_|j<;>first|cases hj|simp at hj
theorem Nn{w:World}{b:Nat}{k:Int}{fr:Nat × Nat}(h:w.heap[b]?=some (.cells #[.int .i64 k] 3 fr)):∀j u,([.int .i64 k]:List Value)[j]?=some u->w.cell? ((⟨b,0,none⟩:Addr).add j)=some u:=DU h
theorem do_ask(l:List Bx)(ap:Option Addr)(cp:Nat)(B:Bk)(a1 a2 a3:Option Addr)(c1 c2 c3:Nat)(m:Mv)(w:World)(hst:inB m.st 1 6=true)(hg0:0<=m.age)(hg1:m.age<=1000)(hW:WA w ap l a1 a2 a3 B):
  Calls Tryz.prog 64 #[.agg #[.slice ap l.length cp,.int .i64 B.now,.slice a1 B.svcs.length c1,.slice a2 B.cps.length c2,.slice a3 B.bts.length c3],.agg #[.int .i64 m.st,.int .i64 m.age,.int .i64 m.ev.kind,.string m.ev.service.name,.int .i64 m.ev.service.version,.bool m.ev.service.gone,.int .i64 m.ev.service.image,.int .i64 m.ev.service.want,.int .i64 m.ev.service.down,.int .i64 m.ev.service.over,.int .i64 m.ev.service.next,.int .i64 m.ev.service.per,.int .i64 m.ev.service.least,.int .i64 m.ev.service.most,.int .i64 m.ev.service.load,.int .i64 m.ev.service.cool,.string m.ev.name,.int .i64 m.ev.number,.bool m.ev.flag]] w λe w'=>DoIs w e w':=by
 have HW:Hid (WA w ap l a1 a2 a3 B):=hW;clear hW;obtain⟨W0,hW0,t0,t1,t2,hs0,hb0⟩:=Im w (.cells #[.slice ap l.length cp,.int .i64 B.now,.slice a1 B.svcs.length c1,.slice a2 B.cps.length c2,.slice a3 B.bts.length c3] 84) (.cells #[.int .i64 m.st,.int .i64 m.age,.int .i64 m.ev.kind,.string m.ev.service.name,.int .i64 m.ev.service.version,.bool m.ev.service.gone,.int .i64 m.ev.service.image,.int .i64 m.ev.service.want,.int .i64 m.ev.service.down,.int .i64 m.ev.service.over,.int .i64 m.ev.service.next,.int .i64 m.ev.service.per,.int .i64 m.ev.service.least,.int .i64 m.ev.service.most,.int .i64 m.ev.service.load,.int .i64 m.ev.service.cool,.string m.ev.name,.int .i64 m.ev.number,.bool m.ev.flag] 109) (.cells #[.slice none 0 0,.int .i64 0,.slice none 0 0,.slice none 0 0,.slice none 0 0] 84);obtain⟨x,hx⟩:∃x,w.heap.size=x:=⟨_,rfl⟩;obtain⟨y,hy⟩:∃y,x+1=y:=⟨_,rfl⟩;obtain⟨f,hf⟩:∃f,y+1=f:=⟨_,rfl⟩;have T0:Hid _:=t0;have T1:Hid _:=t1;have T2:Hid _:=t2;have HS0:Hid _:=hs0;clear t0 t1 t2 hs0;go_enter Tryz.func64,Tryz.ntmps64
 go_upto_region 1 with fail
 rw[hx]at T0;rw[hx,hy]at T1;rw[hx,hy,hf]at T2;clear hW0;have m0:W0.cell? ⟨y,0,none⟩=some (.int .i64 m.st):=AJ T1.out 0 rfl
 go_upto_region 4 with(go_at_call 15;refine(CQ _ _ _ _).mono ?_;rintro e W1 ⟨rfl,rfl⟩)
 clear m0
 go_upto_region 5 with fail
 obtain⟨W2,hW2⟩:∃W2,W1.alloc (.cells #[] 3)=W2:=⟨_,rfl⟩;rw[hW2];have hb2:Below W1.heap.size W1 W2:=by rw[<-hW2];exact AM _ _
 have G0:Hid (W2.heap[W1.heap.size]?=some (.cells #[] 3 (0,0))):=by unfold Hid;rw[<-hW2];exact heap_alloc_new W1 _
 obtain⟨g0,hg0e⟩:∃g0,W1.heap.size=g0:=⟨_,rfl⟩;rw[hg0e]at G0;rw[hg0e];have hs0:=HS0.out;have hb0:=hb0.trans (hb2.mono hb0.size);have T0:Hid _:=AK hb2 T0.out (by omega);have T1:Hid _:=AK hb2 T1.out (by omega);have T2:Hid _:=AK hb2 T2.out (by omega);have hs2:=hb2.size;clear hW2 hb2;refine An 7 (by kernel_rfl) (by kernel_rfl) ?_;apply AQ
 ·intro V W K A hW hd hA hK
  simp only[pA]at hA;clear hd;obtain rfl:=hA;go_wp2;exact hK.out _ brf
 apply AQ
 ·intro V W K A hW hd hA hK
  have d0:V 0=_:=hd 0 (by kernel_rfl);simp only[pA,d0,d0]at hA;clear hd d0;obtain rfl:=hA;have z0:W.cell? ⟨y,0,none⟩=some (.int .i64 m.st):=AJ (AK hW T1.out (by omega)) 0 rfl;go_wp2;exact hK.out _ brf
 apply AQ
 ·intro V W K A hW hd hA hK
  simp only[pA]at hA;clear hd;obtain rfl:=hA;refine wpList_load_row rfl 84 (.tmp 2) rfl x rfl 84 #[.slice ap l.length cp,.int .i64 B.now,.slice a1 B.svcs.length c1,.slice a2 B.cps.length c2,.slice a3 B.bts.length c3] (0,0) _ (AK hW T0.out (by omega)) Tryz.underlying84 rfl Tryz.infosWorldE ?_;go_wp2;exact hK.out _ brf
 apply AQ
 ·intro V W K A hW hd hA hK
  simp only[pA]at hA;clear hd;obtain rfl:=hA;go_wp2;exact hK.out _ brf
 apply AQ
 ·intro V W K A hW hd hA hK
  have d3:V 3=_:=hd 3 (by kernel_rfl);simp only[pA,d3,d3]at hA;clear hd d3;obtain rfl:=hA;have z1:W.cell? ⟨y,1,none⟩=some (.int .i64 m.age):=AJ (AK hW T1.out (by omega)) 1 rfl;go_wp2;exact hK.out _ brf
 refine Aq (λv W=>∃(x1 x2 x3:Option Addr) (y1 y2 y3:Nat) (C:Bk),v=.agg #[.int .i64 C.now,.slice x1 C.svcs.length y1,.slice x2 C.cps.length y2,.slice x3 C.bts.length y3]/\BkAt W x1 x2 x3 C/\C.sized/\C.tiny) (λ_ _ _ ⟨a1,a2,a3,c1,c2,c3,C,h1,h2,h3⟩ hb=>⟨a1,a2,a3,c1,c2,c3,C,h1,h2.below hb,h3⟩) ?_ ?_
 ·intro V W K A hW hd hA hK
  have d2:V 2=_:=hd 2 (by kernel_rfl);have d4:V 4=_:=hd 4 (by kernel_rfl);simp only[pA,d2,d4,d2,d4]at hA;clear hd d2 d4;obtain rfl:=hA
  go_wp2_with fail
  refine(view_any l ap cp B a1 a2 a3 c1 c2 c3 m.age W hg0 hg1 HW.out.ok ((HW.out.wat.below hb0).below hW)).mono ?_;rintro e w2 ⟨v,rfl,x1,x2,x3,y1,y2,y3,C,rfl,h1,h2,h3,h4⟩;go_wp2;exact hK.out _ _ h4 ⟨x1,x2,x3,y1,y2,y3,C,rfl,h1,h2,h3⟩
 refine Aq (λv W=>∃(ao:Option Addr) (cap:Nat) (R:List Ed),v=.slice ao R.length cap/\SlA W ao R/\R.length<=1000/\∀r∈R,r.1.ends.length<=1000) (λ_ _ _ ⟨ao,cap,R,h1,h2,h3⟩ hb=>⟨ao,cap,R,h1,h2.below hb,h3⟩) ?_ ?_
 ·intro V W K A hW hd hA hK
  have d1:V 1=_:=hd 1 (by kernel_rfl);have d5:(λv W=>∃(x1 x2 x3:Option Addr) (y1 y2 y3:Nat) (C:Bk),v=.agg #[.int .i64 C.now,.slice x1 C.svcs.length y1,.slice x2 C.cps.length y2,.slice x3 C.bts.length y3]/\BkAt W x1 x2 x3 C/\C.sized/\C.tiny) (V 5) W:=hd 5 (by kernel_rfl);simp only[pA,d1,d1]at hA;clear hd d1;generalize V 5=x5 at d5 hA;obtain rfl:=hA;obtain⟨x1,x2,x3,y1,y2,y3,C,rfl,h1,h2,h3⟩:=d5
  go_wp2_with fail
  refine(MR m.st C x1 x2 x3 y1 y2 y3 W h3 h2 h1).mono ?_;rintro e w2 ⟨ao,cap,R,rfl,hRl,hRe,hA,hb⟩;go_wp2;exact hK.out _ _ hb ⟨ao,cap,R,rfl,hA,hRl,hRe⟩
 intro V W A hW hS hA;have d0:V 0=_:=hS 0 (by omega);have d1:V 1=_:=hS 1 (by omega);have d2:V 2=_:=hS 2 (by omega);have d3:V 3=_:=hS 3 (by omega);have d4:V 4=_:=hS 4 (by omega);have d5:(λv W=>∃(x1 x2 x3:Option Addr) (y1 y2 y3:Nat) (C:Bk),v=.agg #[.int .i64 C.now,.slice x1 C.svcs.length y1,.slice x2 C.cps.length y2,.slice x3 C.bts.length y3]/\BkAt W x1 x2 x3 C/\C.sized/\C.tiny) (V 5) W:=hS 5 (by omega);have d6:(λv W=>∃(ao:Option Addr) (cap:Nat) (R:List Ed),v=.slice ao R.length cap/\SlA W ao R/\R.length<=1000/\∀r∈R,r.1.ends.length<=1000) (V 6) W:=hS 6 (by omega);simp only[pA,d0,d1,d2,d3,d4,d0,d1,d2,d3,d4]at hA;clear hS d0 d1 d2 d3 d4;generalize V 5=x5 at d5 hA;generalize V 6=x6 at d6 hA;obtain rfl:=hA;simp only[List.drop_succ_cons,List.drop_zero];obtain⟨ao,ca,R,rfl,hA,hRl,hRe⟩:=d6;clear d5;have HRe:Hid _:=hRe;have hlt0:=(AB G0.out).1;have J0:Hid (DoU (x+3) x f ao R w 0 g0 0 W):=⟨⟨AG _,#[],AK hW G0.out hlt0,rfl,λu h=>by cases h⟩,by omega,⟨ap,l,cp,a1,a2,a3,c1,c2,c3,B,AK hW T0.out (by omega),(HW.out.below hb0).below hW⟩,AK hW T2.out (by omega),.of hA (Lj (AK hW G0.out hlt0)) (noAct_w (AK hW T0.out (by omega))),hb0.trans (hW.mono hb0.size)⟩;clear hA hRe HW T0 T1 T2 G0 hb0 hW
 go_upto_region 7 with fail
 go_loopw [8,10] (λv8 iv wr=>∃k g cap:Nat,k<=R.length/\iv=.int .i64 k/\v8=.slice (some ⟨g,0,none⟩) k cap/\DoU (x+3) x f ao R w k g cap wr) (λ_ i _=>R.length - (intOf i).toNat)
 case atStart=>exact⟨0,g0,0,by omega,rfl,rfl,J0.out⟩
 case round=>
  obtain⟨k,g,cap,hk,rfl,rfl,hJ⟩:=hrel;obtain⟨WRS,hWRS⟩:∃n,n=wr.heap.size:=⟨_,rfl⟩;have JR:Hid _:=hJ;clear hJ;obtain⟨ap,l,cp,a1,a2,a3,c1,c2,c3,B,hvx,hwa⟩:=JR.out.wx;have VX:Hid _:=hvx;have HWA:Hid (WA _ ap l a1 a2 a3 B):=hwa;have hxs:=(AB hvx).1;clear hvx hwa
  by_cases hlt:k<R.length
  rotate_left
  ·have VF:Hid _:=JR.out.vf
   go_wp2_with (first
    |((with_reducible show wpList _ _ _ _ _ _);refine wpList_load_row rfl 84 (.tmp 2) rfl x rfl 84 #[.slice ap l.length cp,.int .i64 B.now,.slice a1 B.svcs.length c1,.slice a2 B.cps.length c2,.slice a3 B.bts.length c3] (0,0) _ VX.out Tryz.underlying84 rfl Tryz.infosWorldE ?_)
    |((with_reducible show wpList _ _ _ _ _ _);refine AL rfl 84 (.tmp 4) (.tmp 61) rfl f 0 #[.slice ap l.length cp,.int .i64 B.now,.slice a1 B.svcs.length c1,.slice a2 B.cps.length c2,.slice a3 B.bts.length c3] rfl rfl 84 #[.slice none 0 0,.int .i64 0,.slice none 0 0,.slice none 0 0,.slice none 0 0] VF.out Tryz.infosWorldE (AD rfl) (by simp[Value.oneCell']) ?_;intro wz hz on;simp only[Act.put]))
   refine bodyPost_ret (v:=.tuple #[.agg #[.slice ap l.length cp,.int .i64 B.now,.slice a1 B.svcs.length c1,.slice a2 B.cps.length c2,.slice a3 B.bts.length c3],_]) (Au rfl _ wz f _ _ _ _ rfl hz.out Tryz.underlying84 rfl Tryz.infosWorldE _ rfl) rfl ?_;exact⟨_,_,rfl,wis_iff.2 ⟨ap,l,cp,a1,a2,a3,c1,c2,c3,B,rfl,HWA.out.only (D3 VF.out) on,JR.out.below.trans (on.below.mono (by omega))⟩⟩
  obtain⟨b,off,ea,hbs,_,hat⟩:=JR.out.acts (by intro h;rw[h]at hlt;simp at hlt);subst ea;obtain⟨s,hsk⟩:∃s,R[k]?=some s:=⟨R[k],by simp[hlt]⟩;have hse:s.1.ends.length<=1000:=HRe.out s (AE hsk);have HAC:Hid (AcAt _ b (off+k*8) s):=(hat k s hsk).1;have HSE:Hid (SlE _ s.2.1 s.1.ends):=λhl=>let ⟨b',off',e',q1,_,q3⟩:=(hat k s hsk).2 hl;⟨b',off',e',q1,q3⟩
  clear hat hsk
  go_upto_region 9 with fail
  refine Ex 12 3 [[],[0],[],[],[2,3],[4],[1,5],[6],[7],[7],[],[8,10]] [11] [6,7,8,9,10,11] [9,11] [(11,7),(11,9)] (λ_ W W2=>∃b,W.heap[b]?=some (.cells #[.int .i64 0,.slice none 0 0,.slice none 0 0,.slice none 0 0] 27 (0,0))/\BA b W W2) (by kernel_rfl) (by kernel_rfl) (by kernel_rfl) ?_;apply Dg (by kernel_rfl)
  ·intro V W K AA hW hd hA hK
   simp only[pA]at hA;clear hd;obtain rfl:=hA;go_wp2;exact hK.out _ brf
  apply Dg (by kernel_rfl)
  ·intro V W K AA hW hd hA hK
   have d0:V 0=_:=hd 0 (by kernel_rfl);simp only[pA,d0]at hA;clear hd d0;obtain rfl:=hA;have e1:W.cell? ⟨x,1,none⟩=some (.int .i64 B.now):=AJ (AK hW VX.out hxs) 1 rfl;have e2:W.cell? ⟨x,2,none⟩=some (.slice a1 B.svcs.length c1):=AJ (AK hW VX.out hxs) 2 rfl;have e3:W.cell? ⟨x,3,none⟩=some (.slice a2 B.cps.length c2):=AJ (AK hW VX.out hxs) 3 rfl;have e4:W.cell? ⟨x,4,none⟩=some (.slice a3 B.bts.length c3):=AJ (AK hW VX.out hxs) 4 rfl;go_wp2;exact hK.out _ brf
  apply Dg (by kernel_rfl)
  ·intro V W K AA hW hd hA hK
   simp only[pA]at hA;clear hd;obtain rfl:=hA;go_wp2;exact hK.out _ brf
  apply Dg (by kernel_rfl)
  ·intro V W K AA hW hd hA hK
   simp only[pA]at hA;clear hd;obtain rfl:=hA;go_wp2;exact hK.out _ brf
  apply Dg (by kernel_rfl)
  ·intro V W K AA hW hd hA hK
   have d2:V 2=_:=hd 2 (by kernel_rfl);have d3:V 3=_:=hd 3 (by kernel_rfl);simp only[pA,d2,d3]at hA;clear hd d2 d3;obtain rfl:=hA;go_wp2;exact hK.out _ brf
  apply Dg (by kernel_rfl)
  ·intro V W K AA hW hd hA hK
   have d4:V 4=_:=hd 4 (by kernel_rfl);simp only[pA,d4]at hA;clear hd d4;obtain rfl:=hA;have hc:=HAC.out.below hW hbs;unfold AcAt at hc;obtain⟨q0,q1,q2,q3,q4,q5,q6,q7⟩:=hc;go_wp2;exact hK.out _ brf
  refine Cm (λv W=>∃(x1 x2 x3:Option Addr) (y1 y2 y3:Nat) (C:Bk) (kc:Int),v=.tuple #[.agg #[.int .i64 C.now,.slice x1 C.svcs.length y1,.slice x2 C.cps.length y2,.slice x3 C.bts.length y3],.int .i64 kc]/\BkAt W x1 x2 x3 C/\C.sized/\C.tiny) (λ_ _ _ ⟨a1,a2,a3,c1,c2,c3,C,kc,h1,h2,h3⟩ hb=>⟨a1,a2,a3,c1,c2,c3,C,kc,h1,h2.below hb,h3⟩) (by kernel_rfl) (by kernel_rfl) ?_ ?_
  ·intro V W K AA hW hd hA hK
   have d1:V 1=_:=hd 1 (by kernel_rfl);have d5:V 5=_:=hd 5 (by kernel_rfl);simp only[pA,d1,d5]at hA;clear hd d1 d5;obtain rfl:=hA
   go_wp2_with fail
   refine(apply_bk B s.1 a1 a2 a3 c1 c2 c3 s.2.1 s.2.2 W HWA.out.ok.bs HWA.out.ok.bz (HWA.out.wat.book.below hW) (HSE.out.below hW)).mono ?_;rintro e w2 ⟨v,rfl,x1,x2,x3,y1,y2,y3,C,kc,rfl,h1,h2,h3,h4⟩;go_wp2;exact hK.out _ _ h4 ⟨x1,x2,x3,y1,y2,y3,C,kc,rfl,h1,h2,h3⟩
  refine Cm (λv W=>∃(x1 x2 x3:Option Addr) (y1 y2 y3:Nat) (C:Bk) (kc:Int),v=.tuple #[.agg #[.int .i64 C.now,.slice x1 C.svcs.length y1,.slice x2 C.cps.length y2,.slice x3 C.bts.length y3],.int .i64 kc]/\BkAt W x1 x2 x3 C/\C.sized/\C.tiny) (λ_ _ _ ⟨a1,a2,a3,c1,c2,c3,C,kc,h1,h2,h3⟩ hb=>⟨a1,a2,a3,c1,c2,c3,C,kc,h1,h2.below hb,h3⟩) (by kernel_rfl) (by kernel_rfl) ?_ ?_
  ·intro V W K AA hW hd hA hK
   have d6:(λv W=>∃(x1 x2 x3:Option Addr) (y1 y2 y3:Nat) (C:Bk) (kc:Int),v=.tuple #[.agg #[.int .i64 C.now,.slice x1 C.svcs.length y1,.slice x2 C.cps.length y2,.slice x3 C.bts.length y3],.int .i64 kc]/\BkAt W x1 x2 x3 C/\C.sized/\C.tiny) (V 6) W:=hd 6 (by kernel_rfl);simp only[pA]at hA;clear hd;generalize V 6=x6 at d6 hA;obtain rfl:=hA;obtain⟨x1,x2,x3,y1,y2,y3,C,kc,rfl,h1⟩:=d6;go_wp2;exact hK.out _ _ brf ⟨x1,x2,x3,y1,y2,y3,C,kc,rfl,h1⟩
  refine Cm (λv W=>∃(x1 x2 x3:Option Addr) (y1 y2 y3:Nat) (C:Bk),v=.agg #[.int .i64 C.now,.slice x1 C.svcs.length y1,.slice x2 C.cps.length y2,.slice x3 C.bts.length y3]/\BkAt W x1 x2 x3 C/\C.sized/\C.tiny) (λ_ _ _ ⟨a1,a2,a3,c1,c2,c3,C,h1,h2,h3⟩ hb=>⟨a1,a2,a3,c1,c2,c3,C,h1,h2.below hb,h3⟩) (by kernel_rfl) (by kernel_rfl) ?_ ?_
  ·intro V W K AA hW hd hA hK
   have d7:(λv W=>∃(x1 x2 x3:Option Addr) (y1 y2 y3:Nat) (C:Bk) (kc:Int),v=.tuple #[.agg #[.int .i64 C.now,.slice x1 C.svcs.length y1,.slice x2 C.cps.length y2,.slice x3 C.bts.length y3],.int .i64 kc]/\BkAt W x1 x2 x3 C/\C.sized/\C.tiny) (V 7) W:=hd 7 (by kernel_rfl);simp only[pA]at hA;clear hd;generalize V 7=x7 at d7 hA;obtain rfl:=hA;obtain⟨x1,x2,x3,y1,y2,y3,C,kc,rfl,h1⟩:=d7;go_wp2;exact hK.out _ _ brf ⟨x1,x2,x3,y1,y2,y3,C,rfl,h1⟩
  refine Cm (λv _=>∃kc:Int,v=.int .i64 kc) (λ_ _ _ h _=>h) (by kernel_rfl) (by kernel_rfl) ?_ ?_
  ·intro V W K AA hW hd hA hK
   have d7:(λv W=>∃(x1 x2 x3:Option Addr) (y1 y2 y3:Nat) (C:Bk) (kc:Int),v=.tuple #[.agg #[.int .i64 C.now,.slice x1 C.svcs.length y1,.slice x2 C.cps.length y2,.slice x3 C.bts.length y3],.int .i64 kc]/\BkAt W x1 x2 x3 C/\C.sized/\C.tiny) (V 7) W:=hd 7 (by kernel_rfl);simp only[pA]at hA;clear hd;generalize V 7=x7 at d7 hA;obtain rfl:=hA;obtain⟨x1,x2,x3,y1,y2,y3,C,kc,rfl,h1⟩:=d7;go_wp2;exact hK.out _ _ brf ⟨kc,rfl⟩
  refine Cm (λv W=>∃b,v=.pointer (some ⟨b,0,none⟩)/\WRS<=b/\W.heap[b]?=some (.cells #[.int .i64 0,.slice none 0 0,.slice none 0 0,.slice none 0 0] 27 (0,0))) (λv W W2 ⟨b,h1,h2,h3⟩ hb=>⟨b,h1,h2,AK hb h3 (AB h3).1⟩) (by kernel_rfl) (by kernel_rfl) ?_ ?_
  ·intro V W K AA hW hd hA hK
   simp only[pA]at hA;clear hd;obtain rfl:=hA;go_wp2;exact hK.out _ _ (AM W _) ⟨_,rfl,by rw[hWRS];exact hW.size,heap_alloc_new W _⟩
  refine JF (λV (_:Value) W=>∃(b:Nat) (x1 x2 x3:Option Addr) (y1 y2 y3:Nat) (C:Bk),V 10=.pointer (some ⟨b,0,none⟩)/\WRS<=b/\W.heap[b]?=some (.cells #[.int .i64 C.now,.slice x1 C.svcs.length y1,.slice x2 C.cps.length y2,.slice x3 C.bts.length y3] 27 (0,0))/\BkAt W x1 x2 x3 C/\C.sized/\C.tiny) (λV v W W2 ⟨b,x1,x2,x3,y1,y2,y3,C,hv,hn,h,hm,h2⟩ hb=>⟨b,x1,x2,x3,y1,y2,y3,C,hv,hn,AK hb h (AB h).1,hm.below hb,h2⟩) (λv V V2 W hVV ⟨b,x1,x2,x3,y1,y2,y3,C,hv,hr⟩=>⟨b,x1,x2,x3,y1,y2,y3,C,(hVV 10 rfl).symm.trans hv,hr⟩) (by kernel_rfl) (by kernel_rfl) ?_ ?_
  ·intro V W K AA hW hd hA hK
   have d8:(λv W=>∃(x1 x2 x3:Option Addr) (y1 y2 y3:Nat) (C:Bk),v=.agg #[.int .i64 C.now,.slice x1 C.svcs.length y1,.slice x2 C.cps.length y2,.slice x3 C.bts.length y3]/\BkAt W x1 x2 x3 C/\C.sized/\C.tiny) (V 8) W:=hd 8 (by kernel_rfl);have d10:(λv W=>∃b,v=.pointer (some ⟨b,0,none⟩)/\WRS<=b/\W.heap[b]?=some (.cells #[.int .i64 0,.slice none 0 0,.slice none 0 0,.slice none 0 0] 27 (0,0))) (V 10) W:=hd 10 (by kernel_rfl);simp only[pA]at hA;clear hd;generalize hV0:V 0=x0 at hA hK;generalize hV1:V 1=x1 at hA hK;generalize hV2:V 2=x2 at hA hK;generalize hV3:V 3=x3 at hA hK;generalize hV4:V 4=x4 at hA hK;generalize hV5:V 5=x5 at hA hK;generalize hV6:V 6=x6 at hA hK;generalize hV7:V 7=x7 at hA hK;generalize hV8:V 8=x8 at d8 hA hK;generalize hV9:V 9=x9 at hA hK;generalize hV10:V 10=x10 at d10 hA hK;generalize hV11:V 11=x11 at hA hK;obtain rfl:=hA;obtain⟨x1,x2,x3,y1,y2,y3,C,rfl,hm,hcz⟩:=d8;obtain⟨b',rfl,hbN,hbz⟩:=d10;have HM:Hid (BkAt W x1 x2 x3 C):=hm;have hsz:=hW.size;clear hm hV0 hV1 hV2 hV3 hV4 hV5 hV6 hV7 hV8 hV9 hV10 hV11;refine AL rfl 27 (.tmp 11) (.tmp 52) rfl b' 0 #[.int .i64 C.now,.slice x1 C.svcs.length y1,.slice x2 C.cps.length y2,.slice x3 C.bts.length y3] rfl rfl 27 #[.int .i64 0,.slice none 0 0,.slice none 0 0,.slice none 0 0] hbz Tryz.infosBookE (AD rfl) (by simp[Value.oneCell']) ?_;intro u2 hz on;have HZ2:Hid (u2.heap[b']?=some (.cells #[.int .i64 C.now,.slice x1 C.svcs.length y1,.slice x2 C.cps.length y2,.slice x3 C.bts.length y3] 27 (0,0))):=hz;have HON:Hid (BA b' W u2):=on
   have HBZ:Hid _:=hbz;clear hz on hbz;go_wp2;refine hK.out undef _ ?_ (HON.out.below.mono (by omega)) ⟨b',x1,x2,x3,y1,y2,y3,C,rfl,hbN,HZ2.out,HM.out.only (Li HBZ.out) HON.out,hcz⟩;exact⟨b',HBZ.out,HON.out⟩
  refine⟨λi j hk V v W W' hr hq=>?_,?_⟩
  ·simp only[List.contains_cons,List.contains_nil,Bool.or_false,Bool.or_eq_true,beq_iff_eq,Prod.mk.injEq]at hk
   rcases hk with⟨rfl,rfl⟩|⟨rfl,rfl⟩
   ·have hq':(λv W=>∃(x1 x2 x3:Option Addr) (y1 y2 y3:Nat) (C:Bk) (kc:Int),v=.tuple #[.agg #[.int .i64 C.now,.slice x1 C.svcs.length y1,.slice x2 C.cps.length y2,.slice x3 C.bts.length y3],.int .i64 kc]/\BkAt W x1 x2 x3 C/\C.sized/\C.tiny) (v) W:=hq
    show(λv W=>∃(x1 x2 x3:Option Addr) (y1 y2 y3:Nat) (C:Bk) (kc:Int),v=.tuple #[.agg #[.int .i64 C.now,.slice x1 C.svcs.length y1,.slice x2 C.cps.length y2,.slice x3 C.bts.length y3],.int .i64 kc]/\BkAt W x1 x2 x3 C/\C.sized/\C.tiny) (v) W';clear hq;obtain⟨x1,x2,x3,y1,y2,y3,C,kc,h,hm,hz⟩:=hq';obtain⟨b,hbz,on⟩:=hr;exact⟨x1,x2,x3,y1,y2,y3,C,kc,h,hm.only (Li hbz) on,hz⟩
   ·have hq':(λv _=>∃kc:Int,v=.int .i64 kc) (v) W:=hq
    show(λv _=>∃kc:Int,v=.int .i64 kc) (v) W';clear hq;exact hq'
  intro V W AA hW hS hA;have d0:V 0=_:=hS 0 (by omega) (.inr (by kernel_rfl));have d1:V 1=_:=hS 1 (by omega) (.inr (by kernel_rfl));have d2:V 2=_:=hS 2 (by omega) (.inr (by kernel_rfl));have d3:V 3=_:=hS 3 (by omega) (.inr (by kernel_rfl));have d4:V 4=_:=hS 4 (by omega) (.inr (by kernel_rfl));have d5:V 5=_:=hS 5 (by omega) (.inr (by kernel_rfl));have d9:(λv _=>∃kc:Int,v=.int .i64 kc) (V 9) W:=hS 9 (by omega) (.inl (by kernel_rfl));have d11:(λV (_:Value) W=>∃(b:Nat) (x1 x2 x3:Option Addr) (y1 y2 y3:Nat) (C:Bk),V 10=.pointer (some ⟨b,0,none⟩)/\WRS<=b/\W.heap[b]?=some (.cells #[.int .i64 C.now,.slice x1 C.svcs.length y1,.slice x2 C.cps.length y2,.slice x3 C.bts.length y3] 27 (0,0))/\BkAt W x1 x2 x3 C/\C.sized/\C.tiny) V (V 11) W:=hS 11 (by omega) (.inl (by kernel_rfl));simp only[pA]at hA;dsimp only at d11;clear hS;generalize V 0=x0 at d0 hA;generalize V 1=x1 at d1 d11 hA;generalize V 2=x2 at d2 hA;generalize V 3=x3 at d3 hA;generalize V 4=x4 at d4 hA;generalize V 5=x5 at d5 hA;generalize V 9=x9 at d9 hA;generalize V 10=x10 at d11 hA;generalize V 11=x11 at d11 hA;subst d0;subst d1;subst d2;subst d3;subst d4;subst d5;obtain rfl:=hA;simp only[List.drop_succ_cons,List.drop_zero];obtain⟨kc,rfl⟩:=d9;obtain⟨b',x1,x2,x3,y1,y2,y3,C,rfl,hbN,hvb,hC,hCz,hCs⟩:=d11;have VB:Hid _:=hvb;have HC:Hid (BkAt W x1 x2 x3 C):=hC;have JW:Hid _:=JR.out.grew hW;have VX2:Hid _:=AK hW VX.out hxs;have HW2:Hid (WA W ap l a1 a2 a3 B):=HWA.out.below hW;clear hvb hC hW VX HWA HAC HSE JR hxs hbs
  go_upto_region 11 with(first
   |((with_reducible show wpList _ _ _ _ _ _);refine wpList_load_row rfl 84 (.tmp 2) rfl x rfl 84 #[.slice ap l.length cp,.int .i64 B.now,.slice a1 B.svcs.length c1,.slice a2 B.cps.length c2,.slice a3 B.bts.length c3] (0,0) _ VX2.out Tryz.underlying84 rfl Tryz.infosWorldE ?_)
   |((with_reducible show wpList _ _ _ _ _ _);refine wpList_load_row rfl 27 (.tmp 11) rfl b' rfl 27 #[.int .i64 C.now,.slice x1 C.svcs.length y1,.slice x2 C.cps.length y2,.slice x3 C.bts.length y3] (0,0) _ VB.out Tryz.underlying27 rfl Tryz.infosBookE ?_)
   |(go_at_call 82;refine(Ll l ap cp B C a1 a2 a3 x1 x2 x3 c1 c2 c3 y1 y2 y3 _ HW2.out.ok hCz hCs HW2.out.wat HW2.out.rt HC.out).mono ?_;rintro e w4 ⟨v,rfl,hv⟩;obtain⟨aq,M,cq,z1,z2,z3,d1,d2,d3,D,rfl,hA,hb3⟩:=wis_iff.1 hv;have HA:Hid _:=hA;have J4:Hid _:=JW.out.grew hb3;have VX4:Hid _:=AK hb3 VX2.out (AB VX2.out).1;clear hv hA hb3)
   |((with_reducible show wpList _ _ _ _ _ _);refine AL rfl 84 (.tmp 2) (.tmp 56) rfl x 0 #[.slice aq M.length cq,.int .i64 D.now,.slice z1 D.svcs.length d1,.slice z2 D.cps.length d2,.slice z3 D.bts.length d3] rfl rfl 84 #[.slice ap l.length cp,.int .i64 B.now,.slice a1 B.svcs.length c1,.slice a2 B.cps.length c2,.slice a3 B.bts.length c3] VX4.out Tryz.infosWorldE (AD rfl) (by simp[Value.oneCell']) ?_;intro w5 hz on;have J5:Hid _:=J4.out.put on hz.out HA.out (by omega) (by omega) (by omega);clear hz on;simp only[Act.put]))
  clear JW J4 HA VX2 VX4 VB HC HW2;have J6:Hid (DoU _ x f _ R w k g cap (w5.alloc (.cells #[.int .i64 kc] 3))):=J5.out.grew (AM _ _);have hsx:x+3<=(w5.alloc (.cells #[.int .i64 kc] 3)).heap.size:=by have:=J6.out.row.lt;have:=J6.out.gx;omega
  go_wp2_with ((with_reducible show wpList _ _ _ _ _ _);refine Cg rfl (.tmp 57) (.tmp 59) 44 rfl Tryz.underlying44 g k cap rfl J6.out.row ⟨w5.heap.size,0,none⟩ 1 1 [.int .i64 kc] rfl rfl (Nn (heap_alloc_new w5 _)) (λu hu=>⟨kc,by simpa using hu⟩) (by omega) ?_;intro g2 cap2 w7 hr hi;have J7:Hid _:=J6.out.turn hr hi (by omega) (by omega) hsx (by omega);clear hr hi;simp only[Act.put])
  go_roundw
  case rel=>exact⟨k+1,g2,cap2,by omega,by go_num,rfl,J7.out⟩
  case measure=>simp[intOf];omega
end Go.Proofs.YtbceafpodamnfaaGreat
