import Derived.Test.YtbceafpodamnfaaH50
set_option linter.all false
set_option maxHeartbeats 16000000
set_option maxRecDepth 100000
namespace Go.Proofs.Ytbceafpodamnfaa
attribute [local simp] svV cpV zbV czV aaV ctZ ad bkV ctV acV evV
attribute [local go_sem] svV cpV zbV czV aaV ctZ ad bkV ctV acV evV
open Go.RowKit Go.Sort
theorem Iu{w:World}{x:Nat}{fr:Nat × Nat}(h:w.heap[x]?=some (.cells zbV 27 fr)):NoStr w x:=.of h (by
 intro j s hj
 rcases j with _|_|_|_|j<;>first|cases hj|simp at hj)
theorem SpIs.store{r f:Nat}{w0 w1 w w':World}{q q':Int}{v:Value}(h:SpIs r q w1 (.returned v) w)(h0:Past r w0.heap.size w0 w1)(hrn:r<w0.heap.size)(hvf:Bl w f zbV 27)(hnf:w0.heap.size<=f)(on:Bj f w w')(hq:q<=q'):SpIs r q' w0 (.returned v) w':=by
 obtain⟨a1,a2,a3,c1,c2,c3,B,e,hB,hc,hz,hs,hP,hR⟩:=h;exact⟨a1,a2,a3,c1,c2,c3,B,e,hB.only (Iu hvf) on,hc,hz,hs,(h0.next (AG _) hP).trans (.of (on.below.mono hnf)),(hR.turn (by omega) on.size on.other).mono hq⟩
theorem SpU.nowU{r f x g1 k1 g2 k2 g3 k3:Nat}{B:Bk}{w0 w w':World}{q v:Int}(h:SpU r f x g1 k1 g2 k2 g3 k3 B w0 q w)(hz:Bl w' x #[.int .i64 v,.slice (ad g1) B.svcs.length k1,.slice (ad g2) B.cps.length k2,.slice (ad g3) B.bts.length k3] 27)(on:Bj x w w'):SpU r f x g1 k1 g2 k2 g3 k3 {B with now:=v} w0 q w':=by
 have h1:=h.rn;have h3:=h.nx;have hne:∀e,e≠27->∀{size g n c:Nat} {xs:List Value},RowIs w e size g n c xs->g≠x:=λe he _ _ _ _ _ hr=>(hr.notBk h.vx he).symm
 exact⟨(on.other f h.fx).trans h.vf,hz,⟨h.row.n1,h.row.n2,h.row.n3,h.row.svcs.blk (on.other _ (hne _ (by decide) h.row.svcs)),h.row.cps.blk (on.other _ (hne _ (by decide) h.row.cps)),h.row.bts.blk (on.other _ (hne _ (by decide) h.row.bts))⟩,h.bz,h.bs,h.rd.turn (by omega) on.size on.other,h.past.trans (.of (on.below.mono h3)),h1,h.nf,h3,h.fx⟩
theorem any_any(r:Nat)(q:Int)(w:World)(hR:Rd r w q)(hq:q<=80000000000):
  Calls Try.prog 20 #[.pointer (ad r)] w λe w'=>SpIs r (q+201000000) w e w':=by
 have hlt:=hR.lt;obtain⟨W0,hW0⟩:∃W0,w.alloc (.cells zbV 27)=W0:=⟨_,rfl⟩;have hb0:Below w.heap.size w W0:=by rw[<-hW0];exact AO _ _
 have VF:Hid (Bl W0 (w.heap.size) zbV 27):=by unfold Hid;rw[<-hW0];exact heap_alloc_new w _
 have R0:Hid (Rd r W0 q):=hR.below hb0;have HP0:Hid (Below w.heap.size w W0):=hb0;obtain⟨f,hf0⟩:∃f,w.heap.size=f:=⟨_,rfl⟩;have hff:w.heap.size<=f:=by omega
 have hff':f<=w.heap.size:=by omega
 clear hR hb0;go_enter Try.func20,Try.ntmps20
 go_upto_region 1 with fail
 rw[hf0]at VF;clear hW0
 go_upto_region 2 with(first
  |(go_at_call 49;refine(draw_any r _ _ R0.out (by omega)).mono ?_;rintro e w1 ⟨g1,k1,g2,k2,g3,k3,B,rfl,hk,hz,ht,hp,hr⟩;have HK:Hid _:=hk;have HZ:Hid (B.sized):=hz;have HT:Hid (B.tiny):=ht;have HP1:Hid (Past r W0.heap.size W0 w1):=hp;have HR1:Hid (Rd r w1 (q+200000000)):=hr;have VX:Hid ((w1.alloc (.cells zbV 27)).heap[w1.heap.size]?=some (.cells zbV 27 (0,0))):=heap_alloc_new w1 _;clear hk hz ht hp hr)
  |((with_reducible show wpList _ _ _ _ _ _);refine AM rfl 27 (.tmp 3) (.tmp 7) rfl w1.heap.size 0 (bkV B (ad g1) k1 (ad g2) k2 (ad g3) k3) rfl rfl 27 zbV VX.out AT (AD rfl) (by simp[Value.oneCell']) ?_;intro w2 hz on;simp only[Act.put]))
 have J0:Hid (SpU r f w1.heap.size g1 k1 g2 k2 g3 k3 B w (q+200000000) w2):=by
  have hl0:=(AB VF.out).1;have hbb:Below w1.heap.size w1 (w1.alloc (.cells zbV 27)):=AO _ _;have hs1:=HP1.out.size;have hn:∀k,k<w1.heap.size->w2.heap[k]?=w1.heap[k]?:=λk hk=>(on.other k (by omega)).trans (hbb.block k hk)
  have h0:=HP0.out.size;refine⟨(hn f (by omega)).trans (BD HP1.out VF.out hl0 (by omega)),hz.out,⟨AH h0 HK.out.n1,AH h0 HK.out.n2,AH h0 HK.out.n3,HK.out.svcs.blk (hn _ HK.out.svcs.lt),HK.out.cps.blk (hn _ HK.out.cps.lt),HK.out.bts.blk (hn _ HK.out.bts.lt)⟩,HZ.out,HT.out.small,(HR1.out.below hbb).turn (by have:=HR1.out.lt;omega) on.size on.other,⟨?_,?_,?_,?_,?_⟩,hlt,by omega,by omega,by omega⟩
  ·exact on.below.os.trans (hbb.os.trans (HP1.out.os.trans HP0.out.os))
  ·exact on.below.tape.trans (hbb.tape.trans (HP1.out.tape.trans HP0.out.tape))
  ·exact on.below.output.trans (hbb.output.trans (HP1.out.output.trans HP0.out.output))
  ·have:=Nat.le_trans hbb.size (Nat.le_of_eq on.size.symm);omega
  ·exact λk hk hr=>(hn k (by omega)).trans ((HP1.out.block k (by omega) hr).trans (HP0.out.block k hk))
 obtain⟨x,hx⟩:∃x,w1.heap.size=x:=⟨_,rfl⟩;rw[hx]at J0 ⊢;clear VX HK HZ HP1 HR1 VF R0 hz on hx HP0
 go_upto_block 0 with(go_at_call 21;refine(Ao r 24 _ _ (by omega) (by omega) J0.out.rd (by omega)).mono ?_;rintro e w3 ⟨kk,rfl,hk,hs⟩;have J1:Hid _:=J0.out.go hs.1 (hs.2 _ J0.out.rd);have Hkk:Hid _:=hk;clear hk hs)
 rename_i KK hKK;have hs1:=HT.out.1;have hs2:=HT.out.2.1;have hs3:=HT.out.2.2;clear J0
 by_cases h0:kk=0
 ·subst h0
  obtain⟨y0,y1,y2,y3⟩:=c4 J1.out.vx
  go_wp2_with (first
   |(go_at_call 50;refine(OL r _ B _ _ _ k1 k2 k3 _ HT.out J1.out.bz J1.out.row.at J1.out.rd (by omega)).mono ?_;rintro e w4 h4;obtain⟨x1,x2,x3,m1,m2,m3,C,rfl,hB,hc,hz,hs,hP,hr⟩:=h4;have H4:Hid (SpIs r (q+200000000+((1:Nat):Int)+100) w3 _ w4):=⟨x1,x2,x3,m1,m2,m3,C,rfl,hB,hc,hz,hs,hP,hr⟩;have V4:Hid _:=BD hP J1.out.vf (AB J1.out.vf).1 (by have:=J1.out.rn;omega);clear hB hc hz hs hP hr)
   |((with_reducible show wpList _ _ _ _ _ _);refine AM rfl 27 (.tmp 2) (.tmp 14) rfl f 0 (bkV C x1 m1 x2 m2 x3 m3) rfl rfl 27 zbV V4.out AT (AD rfl) (by simp[Value.oneCell']) ?_;intro wz hz on;simp only[Act.put]))
  refine bodyPost_ret (results_cell_row rfl _ wz f 27 (bkV C x1 m1 x2 m2 x3 m3) (0,0) _ rfl hz.out Try.underlying27 rfl AT) rfl ?_;exact H4.out.store J1.out.past hlt V4.out hff on (by omega)
 by_cases h1:kk=1
 ·subst h1
  refine wp_block ?_
  go_upto_region 6 with fail
  go_wp2_with (first
   |(go_at_call 21;refine(Ao r 2 _ _ (by omega) (by omega) J1.out.rd (by omega)).mono ?_;rintro e w4 ⟨k4,rfl,hk,hs⟩;have J2:Hid _:=J1.out.go hs.1 (hs.2 _ J1.out.rd);have Hk4:Hid _:=hk;clear hk hs)
   |((with_reducible show wpList _ _ _ _ _ _);refine AP rfl 3 (.tmp 20) (.tmp 19) rfl x 0 (.int .i64 (wrap64 (1000000 - k4))) rfl rfl Bs rfl rfl 27 (bkV B (ad g1) k1 (ad g2) k2 (ad g3) k3) J2.out.vx (AD rfl) ?_;intro w5 hz5 on5;have J3:Hid (SpU r f x g1 k1 g2 k2 g3 k3 {B with now:=wrap64 (1000000 - k4)} w _ w5):=J2.out.nowU hz5.out on5;have y0:=AK J3.out.vx 0 rfl;have y1:=AK J3.out.vx 1 rfl;have y2:=AK J3.out.vx 2 rfl;have y3:=AK J3.out.vx 3 rfl;clear hz5 on5;simp only[Act.put])
   |((with_reducible show wpList _ _ _ _ _ _);refine AM rfl 27 (.tmp 2) (.tmp 93) rfl f 0 #[.int .i64 (wrap64 (1000000 - k4)),.slice (ad g1) B.svcs.length k1,.slice (ad g2) B.cps.length k2,.slice (ad g3) B.bts.length k3] rfl rfl 27 zbV J3.out.vf AT (AD rfl) (by simp[Value.oneCell']) ?_;intro wz hz on;simp only[Act.put]))
  refine bodyPost_ret (results_cell_row rfl _ wz f 27 #[.int .i64 (wrap64 (1000000 - k4)),.slice (ad g1) B.svcs.length k1,.slice (ad g2) B.cps.length k2,.slice (ad g3) B.bts.length k3] (0,0) _ rfl hz.out Try.underlying27 rfl AT) rfl ?_;exact J3.out.done on (by omega)
 have g0:(kk==0)=false:=by rw[beq_eq_false_iff_ne];exact h0
 have g1':(kk==1)=false:=by rw[beq_eq_false_iff_ne];exact h1
 by_cases h2:kk=2
 ·subst h2
  have y1:=AK J1.out.vx 1 rfl;have y3:=AK J1.out.vx 3 rfl
  by_cases hl1:B.svcs.length=0
  ·have hd1:decide (0<(B.svcs.length:Int))=false:=by simp[hl1]
   have hl1':¬0<B.svcs.length:=by omega
   clear hl1;have y0:=AK J1.out.vx 0 rfl;have y2:=AK J1.out.vx 2 rfl
   go_wp2_with ((with_reducible show wpList _ _ _ _ _ _);refine AM rfl 27 (.tmp 2) (.tmp 93) rfl f 0 (bkV B (ad g1) k1 (ad g2) k2 (ad g3) k3) rfl rfl 27 zbV J1.out.vf AT (AD rfl) (by simp[Value.oneCell']) ?_;intro wz hz on;simp only[Act.put])
   refine bodyPost_ret (results_cell_row rfl _ wz f 27 (bkV B (ad g1) k1 (ad g2) k2 (ad g3) k3) (0,0) _ rfl hz.out Try.underlying27 rfl AT) rfl ?_;exact J1.out.done on (by omega)
  have hd1:decide (0<(B.svcs.length:Int))=true:=by simp;omega
  by_cases hl3:B.bts.length=0
  ·have hd3:decide (0<(B.bts.length:Int))=false:=by simp[hl3]
   have hl3':¬0<B.bts.length:=by omega
   clear hl3;have y0:=AK J1.out.vx 0 rfl;have y2:=AK J1.out.vx 2 rfl
   go_wp2_with ((with_reducible show wpList _ _ _ _ _ _);refine AM rfl 27 (.tmp 2) (.tmp 93) rfl f 0 (bkV B (ad g1) k1 (ad g2) k2 (ad g3) k3) rfl rfl 27 zbV J1.out.vf AT (AD rfl) (by simp[Value.oneCell']) ?_;intro wz hz on;simp only[Act.put])
   refine bodyPost_ret (results_cell_row rfl _ wz f 27 (bkV B (ad g1) k1 (ad g2) k2 (ad g3) k3) (0,0) _ rfl hz.out Try.underlying27 rfl AT) rfl ?_;exact J1.out.done on (by omega)
  have hd3:decide (0<(B.bts.length:Int))=true:=by simp;omega
  refine wp_block ?_
  go_upto_block 1 with(go_at_call 21;refine(Ao r 4 _ _ (by omega) (by omega) J1.out.rd (by omega)).mono ?_;rintro e w4 ⟨k4,rfl,hk,hs⟩;have J2:Hid _:=J1.out.go hs.1 (hs.2 _ J1.out.rd);have Hk4:Hid _:=hk;clear hk hs)
  have hn1:=Hk4.out.1;have hn2:=Hk4.out.2.1 (by omega);refine Ea (AnF r f x (B.svcs.length - 1) (200 - k4)) ⟨rfl,rfl,rfl,?_,?_,rfl,rfl⟩ λa hf=>?_
  ·show Value.int .i64 _=Value.int .i64 _
   refine congrArg _ ?_;omega
  ·show Value.int .i64 _=Value.int .i64 _
   refine congrArg _ ?_;exact IntWalk.wrap64_in _ (by omega)
  clear y1 y3 hd1 hd3 Hkk Hk4;have J3:=J2.out;clear J1 J2;generalize hqq:q+200000000+((1:Nat):Int)+((1:Nat):Int)=qq at J3;generalize hss:B.svcs.length - 1=s at hf;refine wp_block (wp_loop (λa w4=>AnF r f x s (200 - k4) a/\∃g2 k2 C,SpU r f x g1 k1 g2 k2 g3 k3 C w (qq+30*C.cps.length) w4/\s<C.svcs.length/\0<C.bts.length/\C.cps.length<=1000) (λ_ w4=>match w4.cell? ⟨x,2,none⟩ with|some (.slice _ n _)=>1001 - n|_=>0) ⟨hf,g2,k2,B,J3.mono (by omega),by omega,by omega,hs2⟩ ?_);rintro a w4 ⟨hf,g2,k2,C,hu,hs,hb,hc⟩;refine wp_seq (wp_seq (any_R11 40 rfl (by decide) (by decide) hf hu λa hf hb4=>wp_cond_split hb4 (λhlt=>wp_skip ?_) λ_=>wp_exit ?_))
  ·refine wp_block (wp_seq (any_R12 45 rfl (by kernel_rfl) (by kernel_rfl) (by decide) (by decide) (by kernel_rfl) (by kernel_rfl) hf hu (by omega) hs hb hc λa' w' g' cap' cc hk hu'=>any_R13 71 rfl (by decide) (by decide) (hf.kept hk) hu' hs λa5 w5 s' hf' hu''=>?_))
   have hlt':=of_decide_eq_true hlt;have hl:(C.cps++[cc]).length=C.cps.length+1:=by simp
   refine⟨⟨hf',g',cap',_,hu''.mono (by show qq+30*(C.cps.length:Int)+30<=qq+30*((C.cps++[cc]).length:Int);rw[hl];omega),by show s<(C.svcs.set s s').length;rw[List.length_set];exact hs,hb,by show(C.cps++[cc]).length<=1000;rw[hl];omega⟩,?_⟩;have m1:=AK hu.vx 2 rfl;have m2:=AK hu''.vx 2 rfl;rw[m1,m2];show 1001 - (C.cps++[cc]).length<1001 - C.cps.length;rw[hl];omega
  ·exact hKK _ _ (N7 rfl rfl hf.e2 hf.e3 hf.sz hf.df hu (by omega))
 by_cases h3:kk=3
 ·subst h3
  have y1:=AK J1.out.vx 1 rfl
  by_cases hl1:B.svcs.length=0
  ·have hd1:decide (0<(B.svcs.length:Int))=false:=by simp[hl1]
   have hl1':¬0<B.svcs.length:=by omega
   clear hl1;have y0:=AK J1.out.vx 0 rfl;have y2:=AK J1.out.vx 2 rfl;have y3:=AK J1.out.vx 3 rfl
   go_wp2_with ((with_reducible show wpList _ _ _ _ _ _);refine AM rfl 27 (.tmp 2) (.tmp 93) rfl f 0 (bkV B (ad g1) k1 (ad g2) k2 (ad g3) k3) rfl rfl 27 zbV J1.out.vf AT (AD rfl) (by simp[Value.oneCell']) ?_;intro wz hz on;simp only[Act.put])
   refine bodyPost_ret (results_cell_row rfl _ wz f 27 (bkV B (ad g1) k1 (ad g2) k2 (ad g3) k3) (0,0) _ rfl hz.out Try.underlying27 rfl AT) rfl ?_;exact J1.out.done on (by omega)
  have hd1:decide (0<(B.svcs.length:Int))=true:=by simp;omega
  refine wp_block ?_
  go_upto_region 16 with fail
  clear y1;exact any_R16 86 rfl (by kernel_rfl) (by kernel_rfl) (by decide) (by decide) rfl rfl rfl J1.out (by omega) (by omega) λa' w' s' hk hu=>hKK a' w' (N7 rfl rfl ((hk.1 2 (by omega)).trans rfl) ((hk.1 3 (by omega)).trans rfl) hk.2.1 hk.2.2 hu (by omega))
 have g2':(kk==2)=false:=by rw[beq_eq_false_iff_ne];exact h2
 have g3':(kk==3)=false:=by rw[beq_eq_false_iff_ne];exact h3
 obtain⟨y0,y1,y2,y3⟩:=c4 J1.out.vx
 go_wp2_with ((with_reducible show wpList _ _ _ _ _ _);refine AM rfl 27 (.tmp 2) (.tmp 93) rfl f 0 (bkV B (ad g1) k1 (ad g2) k2 (ad g3) k3) rfl rfl 27 zbV J1.out.vf AT (AD rfl) (by simp[Value.oneCell']) ?_;intro wz hz on;simp only[Act.put])
 refine bodyPost_ret (results_cell_row rfl _ wz f 27 (bkV B (ad g1) k1 (ad g2) k2 (ad g3) k3) (0,0) _ rfl hz.out Try.underlying27 rfl AT) rfl ?_;exact J1.out.done on (by omega)
end Go.Proofs.Ytbceafpodamnfaa
