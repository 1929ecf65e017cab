import Derived.Test.YtbceafpodamnfaaH49
set_option linter.all false
set_option maxHeartbeats 4000000
namespace Go.Proofs.Ytbceafpodamnfaa
attribute [local simp] svV cpV zbV czV aaV ctZ ad bkV ctV acV evV
attribute [local go_sem] svV cpV zbV czV aaV ctZ ad bkV ctV acV evV
open Go.RowKit Go.Sort
structure AnF(r f x s:Nat)(n:Int)(a:Act):Prop where
 e0:a.eval (.tmp 0)=.pointer (ad r)
 e2:a.eval (.tmp 2)=.pointer (ad f)
 e3:a.eval (.tmp 3)=.pointer (ad x)
 e4:a.eval (.tmp 4)=.int .i64 s
 e5:a.eval (.tmp 5)=.int .i64 n
 sz:a.tmps.size=94
 df:a.defers=[]
theorem AnF.kept{r f x s:Nat}{n:Int}{a a':Act}(h:AnF r f x s n a)(hk:Kept a a'):AnF r f x s n a':=
 ⟨(hk.1 0 (by omega)).trans h.e0,(hk.1 2 (by omega)).trans h.e2,(hk.1 3 (by omega)).trans h.e3,(hk.1 4 (by omega)).trans h.e4,(hk.1 5 (by omega)).trans h.e5,hk.2.1.trans h.sz,hk.2.2.trans h.df⟩
section
variable {ρ:Operand->Value} {o:Oper} {W:World} {x y x0 x1 x5 x6:Operand}
theorem ix_bts{g j m c:Nat}(h:o.op=.indexAddr 25 x y)(hx:ρ x=.slice (ad g) m c)(hy:ρ y=.int .i64 j)(hj:j<m):(execOp ρ o).run Try.prog W=.ok (.value (.pointer (some ⟨g,j*2,none⟩))) W:=by
 simp[execOp,h,hx,hy,go_sem,hj]
theorem fd_bt{g k:Nat}(h:o.op=.fieldAddr 74 x 0)(hx:ρ x=.pointer (some ⟨g,k,none⟩)):(execOp ρ o).run Try.prog W=.ok (.value (.pointer (some ⟨g,k,none⟩))) W:=by
 simp[execOp,h,hx,go_sem]
theorem run_sub{c k:Int}(hc:ρ (.const (.int .i64 c))=.int .i64 c)(h:o.op=.binOp .sub 3 (.const (.int .i64 c)) x 3)(hx:ρ x=.int .i64 k):(execOp ρ o).run Try.prog W=.ok (.value (.int .i64 (IntKind.wrap .i64 (c - k)))) W:=by
 simp[execOp,h,hx,hc,go_sem]
theorem run_mkCp{a c:ByteArray}{n:Int}{b:Bool}(hc:∀v,ρ (.const v)=v)(h:o.op=.build 35 #[(0,x0),(1,x1),(2,.const (.int .i64 1)),(3,.const (.int .i64 1)),(4,.const (.int .i64 3)),(5,x5),(6,x6)])(h0:ρ x0=.string a)(h1:ρ x1=.int .i64 n)(h5:ρ x5=.bool b)(h6:ρ x6=.string c):(execOp ρ o).run Try.prog W=.ok (.value (.agg #[.string a,.int .i64 n,.int .i64 1,.int .i64 1,.int .i64 3,.bool b,.string c])) W:=by
 simp[execOp,h,h0,h1,h5,h6,hc,go_sem]
theorem H9{a:Option Addr}{n c:Nat}(h:o.op=.call {callee:=.builtin .len,args:=#[x],argTypes:=#[24]})(hx:ρ x=.slice a n c):(execOp ρ o).run Try.prog W=.ok (.value (.int .i64 n)) W:=by
 simp[execOp,h,hx,go_sem]
theorem Nn{m n:Int}(h:o.op=.binOp .lss 3 x y 3)(hx:ρ x=.int .i64 m)(hy:ρ y=.int .i64 n):(execOp ρ o).run Try.prog W=.ok (.value (.bool (decide (m<n)))) W:=by
 simp[execOp,h,hx,hy,go_sem]
end
theorem SpU.svcU{r f x g1 k1 g2 k2 g3 k3:Nat}{B:Bk}{w0 w w':World}{q:Int}(h:SpU r f x g1 k1 g2 k2 g3 k3 B w0 q w){i F:Nat}{u:Value}{p:Value->Prop}(hs:SetS F p)(hu:p u)(hF:F<13)(hi:i<B.svcs.length)(hr:RowIs w' 63 13 g1 B.svcs.length k1 (splice (AU B.svcs) (i*13+F) [u]))(on:Bj g1 w w'):∃s',SpU r f x g1 k1 g2 k2 g3 k3 {B with svcs:=B.svcs.set i s'} w0 q w':=by
 obtain⟨s,hsi⟩:∃s,B.svcs[i]?=some s:=⟨B.svcs[i],by simp[hi]⟩;obtain⟨z1,z2,z3,z4,z5,z6⟩:=h.bz;obtain⟨s',e1,e2⟩:=hs s u hu (z4 s (AE hsi));have e:splice (AU B.svcs) (i*13+F) [u]=AU (B.svcs.set i s'):=Ay (c:=Svc.cells) (n:=13) (λ_=>rfl) _ i F s s' u hsi hF e1;rw[e]at hr;have h1:=h.rn;have h2:=h.row.n1;refine⟨s',(on.other f (h.row.svcs.notBk h.vf (by decide))).trans h.vf,?_,⟨h2,h.row.n2,h.row.n3,by rw[List.length_set];exact hr,h.row.cps.blk (on.other _ h.row.ne12.symm),h.row.bts.blk (on.other _ h.row.ne13.symm)⟩,⟨by rw[List.length_set];exact z1,z2,z3,?_,z5,z6⟩,⟨by rw[List.length_set];exact h.bs.1,h.bs.2⟩,h.rd.turn (by omega) on.size on.other,h.past.trans (.of (on.below.mono h2)),h1,h.nf,h.nx,h.fx⟩
 ·rw[on.other x (h.row.svcs.notBk h.vx (by decide)),h.vx,List.length_set]
 ·intro t ht
  rcases List.mem_or_eq_of_mem_set ht with ht|rfl
  ·exact z4 t ht
  ·exact e2
theorem any_R12{o0 o1 o2 o3 o4 o5 o6 o7 o8 o9 o10 o11 o12 o13 o14 o15 o16 o17 o18 o19 o20 o21 o22 o23 o24 o25 o26:Oper}(t:Nat)
  (hsh:[o0,o1,o2,o3,o4,o5,o6,o7,o8,o9,o10,o11,o12,o13,o14,o15,o16,o17,o18,o19,o20,o21,o22,o23,o24,o25,o26].map (λo=>(o.dst,o.op,o.guard))=[(some t,.fieldAddr 27 (.tmp 3) 2,none),(some (t+1),.load 24 (.tmp t),none),(some (t+2),.fieldAddr 27 (.tmp 3) 1,none),(some (t+3),.load 23 (.tmp (t+2)),none),(some (t+4),.move (.tmp 4),none),(some (t+5),.indexAddr 23 (.tmp (t+3)) (.tmp (t+4)),none),(some (t+6),.fieldAddr 63 (.tmp (t+5)) 0,none),(some (t+7),.load 9 (.tmp (t+6)),none),(some (t+8),.fieldAddr 27 (.tmp 3) 1,none),(some (t+9),.load 23 (.tmp (t+8)),none),(some (t+10),.move (.tmp 4),none),(some (t+11),.indexAddr 23 (.tmp (t+9)) (.tmp (t+10)),none),(some (t+12),.fieldAddr 63 (.tmp (t+11)) 7,none),(some (t+13),.load 3 (.tmp (t+12)),none),(some (t+14),.move (.tmp 0),none),(some (t+15),.call {callee:=.value (.func 21),args:=#[.tmp (t+14),.const (.int .i64 2)],argTypes:=#[52,3]},none),(some (t+16),.binOp .eql 3 (.tmp (t+15)) (.const (.int .i64 0)) 3,none),(some (t+17),.fieldAddr 27 (.tmp 3) 3,none),(some (t+18),.load 25 (.tmp (t+17)),none),(some (t+19),.indexAddr 25 (.tmp (t+18)) (.const (.int .i64 0)),none),(some (t+20),.fieldAddr 74 (.tmp (t+19)) 0,none),(some (t+21),.load 9 (.tmp (t+20)),none),(some (t+22),.build 35 #[(0,.tmp (t+7)),(1,.tmp (t+13)),(2,.const (.int .i64 1)),(3,.const (.int .i64 1)),(4,.const (.int .i64 3)),(5,.tmp (t+16)),(6,.tmp (t+21))],none),(some (t+23),.buildSlice 24 1 #[(0,.tmp (t+22))],none),(some (t+24),.call {callee:=.builtin .append,args:=#[.tmp (t+1),.tmp (t+23)],argTypes:=#[24,24]},none),(some (t+25),.fieldAddr 27 (.tmp 3) 2,none),(none,.store 24 (.tmp (t+25)) (.tmp (t+24)),none)])
  (hB:Ap [o0,o1,o2,o3,o4,o5,o6,o7,o8,o9,o10,o11,o12,o13,o14,o15,o16,o17,o18,o19,o20,o21,o22,o23,o24,o25,o26].toArray 26=true)
  (hwt:[(1,0),(3,2),(5,3),(5,4),(6,5),(7,6),(9,8),(11,9),(11,10),(12,11),(13,12),(15,14),(16,15),(18,17),(19,18),(20,19),(21,20),(22,7),(22,13),(22,16),(22,21),(23,22),(24,1),(24,23)].all (λx=>Region.waitsFor .any [o0,o1,o2,o3,o4,o5,o6,o7,o8,o9,o10,o11,o12,o13,o14,o15,o16,o17,o18,o19,o20,o21,o22,o23,o24,o25,o26].toArray x.1 x.2)=true) (ht0:33<=t) (hts:t+25<94)
  (hr23:EN [o0,o1,o2,o3,o4,o5,o6,o7,o8,o9,o10,o11,o12,o13,o14,o15,o16,o17,o18,o19,o20,o21,o22,o23,o24,o25,o26].toArray 26 24 23=true) (hr24:EN [o0,o1,o2,o3,o4,o5,o6,o7,o8,o9,o10,o11,o12,o13,o14,o15,o16,o17,o18,o19,o20,o21,o22,o23,o24,o25,o26].toArray 26 24 24=true)
  {r f x s g1 k1 g2 k2 g3 k3 id:Nat} {B:Bk} {n q:Int} {a:Act} {w0 w:World} {Q:Exit->Act->World->Prop} (hf:AnF r f x s n a) (hu:SpU r f x g1 k1 g2 k2 g3 k3 B w0 q w) (hq:q<=900000000000) (hs:s<B.svcs.length) (hb:0<B.bts.length) (ht:B.cps.length<=1000) (hQ:∀a' w' g' cap' cc,Kept a a'->SpU r f x g1 k1 g' cap' g3 k3 {B with cps:=B.cps++[cc]} w0 (q+30) w'->Q .normal a' w'):
  (Code.region id [o0,o1,o2,o3,o4,o5,o6,o7,o8,o9,o10,o11,o12,o13,o14,o15,o16,o17,o18,o19,o20,o21,o22,o23,o24,o25,o26].toArray true).wp Try.prog Q a w:=by
 simp only[List.map_cons,List.map_nil,List.cons.injEq,Prod.mk.injEq,and_true]at hsh;obtain⟨⟨d0,p0,u0⟩,⟨d1,p1,u1⟩,⟨d2,p2,u2⟩,⟨d3,p3,u3⟩,⟨d4,p4,u4⟩,⟨d5,p5,u5⟩,⟨d6,p6,u6⟩,⟨d7,p7,u7⟩,⟨d8,p8,u8⟩,⟨d9,p9,u9⟩,⟨d10,p10,u10⟩,⟨d11,p11,u11⟩,⟨d12,p12,u12⟩,⟨d13,p13,u13⟩,⟨d14,p14,u14⟩,⟨d15,p15,u15⟩,⟨d16,p16,u16⟩,⟨d17,p17,u17⟩,⟨d18,p18,u18⟩,⟨d19,p19,u19⟩,⟨d20,p20,u20⟩,⟨d21,p21,u21⟩,⟨d22,p22,u22⟩,⟨d23,p23,u23⟩,⟨d24,p24,u24⟩,⟨d25,p25,u25⟩,d26,p26,u26⟩:=hsh;simp only[List.all_cons,List.all_nil,Bool.and_eq_true,Bool.and_true]at hwt;obtain⟨w1_0,w3_2,w5_3,w5_4,w6_5,w7_6,w9_8,w11_9,w11_10,w12_11,w13_12,w15_14,w16_15,w18_17,w19_18,w20_19,w21_20,w22_7,w22_13,w22_16,w22_21,w23_22,w24_1,w24_23⟩:=hwt;have hsz:=hf.sz
 have hown:CI [o0,o1,o2,o3,o4,o5,o6,o7,o8,o9,o10,o11,o12,o13,o14,o15,o16,o17,o18,o19,o20,o21,o22,o23,o24,o25,o26].toArray 26=true:=by
  simp only[Ap,Bool.and_eq_true]at hB;exact hB.1.2
 have hold:∀(V:Nat->Value) (s:Nat),s<33->(Ad [o0,o1,o2,o3,o4,o5,o6,o7,o8,o9,o10,o11,o12,o13,o14,o15,o16,o17,o18,o19,o20,o21,o22,o23,o24,o25,o26].toArray V 26 a).eval (.tmp s)=a.eval (.tmp s):=λV s hs=>CX 26 λj hj=>by
  rcases j with _|_|_|_|_|_|_|_|_|_|_|_|_|_|_|_|_|_|_|_|_|_|_|_|_|_|j
  all_goals first|(simp[d0,d1,d2,d3,d4,d5,d6,d7,d8,d9,d10,d11,d12,d13,d14,d15,d16,d17,d18,d19,d20,d21,d22,d23,d24,d25];omega)|omega
 have G:∀(V:Nat->Value) (i d:Nat),i<26->(([o0,o1,o2,o3,o4,o5,o6,o7,o8,o9,o10,o11,o12,o13,o14,o15,o16,o17,o18,o19,o20,o21,o22,o23,o24,o25,o26].toArray)[i]?).bind (·.dst)=some d->d<a.tmps.size->(Ad [o0,o1,o2,o3,o4,o5,o6,o7,o8,o9,o10,o11,o12,o13,o14,o15,o16,o17,o18,o19,o20,o21,o22,o23,o24,o25,o26].toArray V 26 a).eval (.tmp d)=V i:=λV i d hi hd hs=>CY hd hs 26 hown hi
 have h1:=hu.rn;have h2:=hu.nx;have h3:=hu.row.n2;have hxg:=hu.row.cps.notBk hu.vx (by decide);have hX:∀W,Past2 r g2 w W->W.heap[x]?=_:=λW h=>(h.block x (AB hu.vx).1 (by omega) hxg).trans hu.vx
 obtain⟨y,hy⟩:∃y,B.svcs[s]?=some y:=⟨B.svcs[s],by simp[hs]⟩;obtain⟨z,hzz⟩:∃z,B.bts[0]?=some z:=⟨B.bts[0],by simp[hb]⟩;have hY:∀W,Past2 r g2 w W->RowIs W 63 13 g1 B.svcs.length k1 (AU B.svcs):=λW h=>hu.row.svcs.blk (h.block g1 hu.row.svcs.lt (by have:=hu.row.n1;omega) hu.row.ne12)
 have hZZ:∀W,Past2 r g2 w W->RowIs W 74 2 g3 B.bts.length k3 (Af B.bts):=λW h=>hu.row.bts.blk (h.block g3 hu.row.bts.lt (by have:=hu.row.n3;omega) hu.row.ne23.symm)
 refine DS 26 24 (Nf r g2 26 q w) (λW=>RowIs W 35 7 g2 B.cps.length k2 (Ag B.cps)) (F6 24 r g2) (by kernel_rfl) (AD rfl) hB (λW hb=>⟨G4 hu.rd hb,hu.row.cps.below hb hu.row.cps.lt⟩) (λi m W W' hm h hR=>IG (by omega) hm h hR) (λi W W' hi h hR=>IB (by omega) h hi hR) ?_;refine Ae (λv _=>v=.pointer (some ⟨x,2,none⟩)) (λ_ _ _ _ _ h _=>h) ?_ ?_
 ·intro V W K A hI hZ hd hA hK
  obtain rfl:=hA;exact Aa u0 (Ar (by omega) p0 ((hold V 3 (by omega)).trans hf.e3)) (hK.out _ _ (Ax rfl (RStep.re _)) rfl)
 refine Ae (λv _=>v=.slice (ad g2) B.cps.length k2) (λ_ _ _ _ _ h _=>h) ?_ ?_
 ·intro V W K A hI hZ hd hA hK
  obtain rfl:=hA;have h0:(λv _=>v=.pointer (some ⟨x,2,none⟩)) (V 0) W:=hd 0 w1_0;exact Aa u1 (Dd p1 ((G V 0 _ (by omega) d0 (by omega)).trans h0) (AK (hX W (CJ hI).1) 2 rfl)) (hK.out _ _ (Ax rfl (RStep.re _)) rfl)
 refine Ae (λv _=>v=.pointer (some ⟨x,1,none⟩)) (λ_ _ _ _ _ h _=>h) ?_ ?_
 ·intro V W K A hI hZ hd hA hK
  obtain rfl:=hA;exact Aa u2 (Ar (by omega) p2 ((hold V 3 (by omega)).trans hf.e3)) (hK.out _ _ (Ax rfl (RStep.re _)) rfl)
 refine Ae (λv _=>v=.slice (ad g1) B.svcs.length k1) (λ_ _ _ _ _ h _=>h) ?_ ?_
 ·intro V W K A hI hZ hd hA hK
  obtain rfl:=hA;have h2:(λv _=>v=.pointer (some ⟨x,1,none⟩)) (V 2) W:=hd 2 w3_2;exact Aa u3 (E9 p3 ((G V 2 _ (by omega) d2 (by omega)).trans h2) (AK (hX W (CJ hI).1) 1 rfl)) (hK.out _ _ (Ax rfl (RStep.re _)) rfl)
 refine Ae (λv _=>v=.int .i64 s) (λ_ _ _ _ _ h _=>h) ?_ ?_
 ·intro V W K A hI hZ hd hA hK
  obtain rfl:=hA;exact Aa u4 (BG p4 ((hold V 4 (by omega)).trans hf.e4)) (hK.out _ _ (Ax rfl (RStep.re _)) rfl)
 refine Ae (λv _=>v=.pointer (some ⟨g1,s*13,none⟩)) (λ_ _ _ _ _ h _=>h) ?_ ?_
 ·intro V W K A hI hZ hd hA hK
  obtain rfl:=hA;have h3:(λv _=>v=.slice (ad g1) B.svcs.length k1) (V 3) W:=hd 3 w5_3;have h4:(λv _=>v=.int .i64 s) (V 4) W:=hd 4 w5_4;exact Aa u5 (EV p5 ((G V 3 _ (by omega) d3 (by omega)).trans h3) ((G V 4 _ (by omega) d4 (by omega)).trans h4) hs) (hK.out _ _ (Ax rfl (RStep.re _)) rfl)
 refine Ae (λv _=>v=.pointer (some ⟨g1,s*13+0,none⟩)) (λ_ _ _ _ _ h _=>h) ?_ ?_
 ·intro V W K A hI hZ hd hA hK
  obtain rfl:=hA;have h5:(λv _=>v=.pointer (some ⟨g1,s*13,none⟩)) (V 5) W:=hd 5 w6_5;exact Aa u6 (Fo (by omega) p6 ((G V 5 _ (by omega) d5 (by omega)).trans h5)) (hK.out _ _ (Ax rfl (RStep.re _)) rfl)
 refine Ae (λv _=>v=.string y.name) (λ_ _ _ _ _ h _=>h) ?_ ?_
 ·intro V W K A hI hZ hd hA hK
  obtain rfl:=hA;have h6:(λv _=>v=.pointer (some ⟨g1,s*13+0,none⟩)) (V 6) W:=hd 6 w7_6;exact Aa u7 (Gy p7 ((G V 6 _ (by omega) d6 (by omega)).trans h6) ((hY W (CJ hI).1).cell (BW (c:=Svc.cells) (n:=13) (λ_=>rfl) B.svcs s y 0 (.string y.name) hy rfl))) (hK.out _ _ (Ax rfl (RStep.re _)) rfl)
 refine Ae (λv _=>v=.pointer (some ⟨x,1,none⟩)) (λ_ _ _ _ _ h _=>h) ?_ ?_
 ·intro V W K A hI hZ hd hA hK
  obtain rfl:=hA;exact Aa u8 (Ar (by omega) p8 ((hold V 3 (by omega)).trans hf.e3)) (hK.out _ _ (Ax rfl (RStep.re _)) rfl)
 refine Ae (λv _=>v=.slice (ad g1) B.svcs.length k1) (λ_ _ _ _ _ h _=>h) ?_ ?_
 ·intro V W K A hI hZ hd hA hK
  obtain rfl:=hA;have h8:(λv _=>v=.pointer (some ⟨x,1,none⟩)) (V 8) W:=hd 8 w9_8;exact Aa u9 (E9 p9 ((G V 8 _ (by omega) d8 (by omega)).trans h8) (AK (hX W (CJ hI).1) 1 rfl)) (hK.out _ _ (Ax rfl (RStep.re _)) rfl)
 refine Ae (λv _=>v=.int .i64 s) (λ_ _ _ _ _ h _=>h) ?_ ?_
 ·intro V W K A hI hZ hd hA hK
  obtain rfl:=hA;exact Aa u10 (BG p10 ((hold V 4 (by omega)).trans hf.e4)) (hK.out _ _ (Ax rfl (RStep.re _)) rfl)
 refine Ae (λv _=>v=.pointer (some ⟨g1,s*13,none⟩)) (λ_ _ _ _ _ h _=>h) ?_ ?_
 ·intro V W K A hI hZ hd hA hK
  obtain rfl:=hA;have h9:(λv _=>v=.slice (ad g1) B.svcs.length k1) (V 9) W:=hd 9 w11_9;have h10:(λv _=>v=.int .i64 s) (V 10) W:=hd 10 w11_10;exact Aa u11 (EV p11 ((G V 9 _ (by omega) d9 (by omega)).trans h9) ((G V 10 _ (by omega) d10 (by omega)).trans h10) hs) (hK.out _ _ (Ax rfl (RStep.re _)) rfl)
 refine Ae (λv _=>v=.pointer (some ⟨g1,s*13+7,none⟩)) (λ_ _ _ _ _ h _=>h) ?_ ?_
 ·intro V W K A hI hZ hd hA hK
  obtain rfl:=hA;have h11:(λv _=>v=.pointer (some ⟨g1,s*13,none⟩)) (V 11) W:=hd 11 w12_11;exact Aa u12 (Fo (by omega) p12 ((G V 11 _ (by omega) d11 (by omega)).trans h11)) (hK.out _ _ (Ax rfl (RStep.re _)) rfl)
 refine Ae (λv _=>v=.int .i64 y.next) (λ_ _ _ _ _ h _=>h) ?_ ?_
 ·intro V W K A hI hZ hd hA hK
  obtain rfl:=hA;have h12:(λv _=>v=.pointer (some ⟨g1,s*13+7,none⟩)) (V 12) W:=hd 12 w13_12;exact Aa u13 (Dn p13 ((G V 12 _ (by omega) d12 (by omega)).trans h12) ((hY W (CJ hI).1).cell (BW (c:=Svc.cells) (n:=13) (λ_=>rfl) B.svcs s y 7 (.int .i64 y.next) hy rfl))) (hK.out _ _ (Ax rfl (RStep.re _)) rfl)
 refine Ae (λv _=>v=.pointer (ad r)) (λ_ _ _ _ _ h _=>h) ?_ ?_
 ·intro V W K A hI hZ hd hA hK
  obtain rfl:=hA;exact Aa u14 (BG p14 ((hold V 0 (by omega)).trans hf.e0)) (hK.out _ _ (Ax rfl (RStep.re _)) rfl)
 refine Ae (Pk 2) (λ_ _ _ _ _ h _=>h) ?_ ?_
 ·intro V W K A hI hZ hd hA hK
  obtain rfl:=hA;have h14:(λv _=>v=.pointer (ad r)) (V 14) W:=hd 14 w15_14;refine DT u15 (EF rfl rfl p15 ((G V 14 _ (by omega) d14 (by omega)).trans h14)) ((Ao r 2 _ W (by omega) (by omega) (CJ hI).2 (by omega)).mono ?_);rintro e w2 ⟨k,rfl,hk,hs⟩;exact⟨_,rfl,hK.out _ _ (Ax rfl hs) ⟨k,rfl,hk⟩⟩
 refine Ae (λv _=>∃b:Bool,v=.bool b) (λ_ _ _ _ _ h _=>h) ?_ ?_
 ·intro V W K A hI hZ hd hA hK
  obtain rfl:=hA;have h15:(Pk 2) (V 15) W:=hd 15 w16_15;obtain⟨k,h15,_⟩:=h15;exact Aa u16 (LR rfl p16 ((G V 15 _ (by omega) d15 (by omega)).trans h15)) (hK.out _ _ (Ax rfl (RStep.re _)) ⟨_,rfl⟩)
 refine Ae (λv _=>v=.pointer (some ⟨x,3,none⟩)) (λ_ _ _ _ _ h _=>h) ?_ ?_
 ·intro V W K A hI hZ hd hA hK
  obtain rfl:=hA;exact Aa u17 (Ar (by omega) p17 ((hold V 3 (by omega)).trans hf.e3)) (hK.out _ _ (Ax rfl (RStep.re _)) rfl)
 refine Ae (λv _=>v=.slice (ad g3) B.bts.length k3) (λ_ _ _ _ _ h _=>h) ?_ ?_
 ·intro V W K A hI hZ hd hA hK
  obtain rfl:=hA;have h17:(λv _=>v=.pointer (some ⟨x,3,none⟩)) (V 17) W:=hd 17 w18_17;exact Aa u18 (ld_bts p18 ((G V 17 _ (by omega) d17 (by omega)).trans h17) (AK (hX W (CJ hI).1) 3 rfl)) (hK.out _ _ (Ax rfl (RStep.re _)) rfl)
 refine Ae (λv _=>v=.pointer (some ⟨g3,0*2,none⟩)) (λ_ _ _ _ _ h _=>h) ?_ ?_
 ·intro V W K A hI hZ hd hA hK
  obtain rfl:=hA;have h18:(λv _=>v=.slice (ad g3) B.bts.length k3) (V 18) W:=hd 18 w19_18;exact Aa u19 (ix_bts p19 ((G V 18 _ (by omega) d18 (by omega)).trans h18) (show _=Value.int .i64 ((0:Nat):Int) from rfl) hb) (hK.out _ _ (Ax rfl (RStep.re _)) rfl)
 refine Ae (λv _=>v=.pointer (some ⟨g3,0*2,none⟩)) (λ_ _ _ _ _ h _=>h) ?_ ?_
 ·intro V W K A hI hZ hd hA hK
  obtain rfl:=hA;have h19:(λv _=>v=.pointer (some ⟨g3,0*2,none⟩)) (V 19) W:=hd 19 w20_19;exact Aa u20 (fd_bt p20 ((G V 19 _ (by omega) d19 (by omega)).trans h19)) (hK.out _ _ (Ax rfl (RStep.re _)) rfl)
 refine Ae (λv _=>v=.string z.name) (λ_ _ _ _ _ h _=>h) ?_ ?_
 ·intro V W K A hI hZ hd hA hK
  obtain rfl:=hA;have h20:(λv _=>v=.pointer (some ⟨g3,0*2,none⟩)) (V 20) W:=hd 20 w21_20;exact Aa u21 (Gy p21 ((G V 20 _ (by omega) d20 (by omega)).trans h20) ((hZZ W (CJ hI).1).cell (BW (c:=Bt.cells) (n:=2) (λ_=>rfl) B.bts 0 z 0 (.string z.name) hzz rfl))) (hK.out _ _ (Ax rfl (RStep.re _)) rfl)
 refine Ae (λv _=>∃b:Bool,v=.agg #[.string y.name,.int .i64 y.next,.int .i64 1,.int .i64 1,.int .i64 3,.bool b,.string z.name]) (λ_ _ _ _ _ h _=>h) ?_ ?_
 ·intro V W K A hI hZ hd hA hK
  obtain rfl:=hA;have h7:(λv _=>v=.string y.name) (V 7) W:=hd 7 w22_7;have h13:(λv _=>v=.int .i64 y.next) (V 13) W:=hd 13 w22_13;have h16:(λv _=>∃b:Bool,v=.bool b) (V 16) W:=hd 16 w22_16;have h21:(λv _=>v=.string z.name) (V 21) W:=hd 21 w22_21;obtain⟨b,h16⟩:=h16;exact Aa u22 (run_mkCp (λ_=>rfl) p22 ((G V 7 _ (by omega) d7 (by omega)).trans h7) ((G V 13 _ (by omega) d13 (by omega)).trans h13) ((G V 16 _ (by omega) d16 (by omega)).trans h16) ((G V 21 _ (by omega) d21 (by omega)).trans h21)) (hK.out _ _ (Ax rfl (RStep.re _)) ⟨b,rfl⟩)
 refine Ae (Nd r g2 35 (λcs=>∃b:Bool,cs=#[.string y.name,.int .i64 y.next,.int .i64 1,.int .i64 1,.int .i64 3,.bool b,.string z.name])) M9 ?_ ?_
 ·intro V W K A hI hZ hd hA hK
  obtain rfl:=hA;have h22:(λv _=>∃b:Bool,v=.agg #[.string y.name,.int .i64 y.next,.int .i64 1,.int .i64 1,.int .i64 3,.bool b,.string z.name]) (V 22) W:=hd 22 w23_22;obtain⟨b,h22⟩:=h22;have hl:=(CJ hI).2.lt;have hg:=(hZ hr23).lt;exact Aa u23 (JK (c:=(⟨y.name,y.next,1,1,3,b,z.name⟩:Cp)) p23 ((G V 22 _ (by omega) d22 (by omega)).trans h22)) (hK.out _ _ (Ax rfl (.of (AO _ _))) ⟨_,_,rfl,by omega,by omega,heap_alloc_new W _,b,rfl⟩)
 refine Ae (Nh g2 w.heap.size (B.cps.length+1) 7 35 (λxs=>∃b:Bool,xs=Ag B.cps++((⟨y.name,y.next,1,1,3,b,z.name⟩:Cp)).cells)) (Na (by omega) hu.rd.lt) ?_ ?_
 ·intro V W K A hI hZ hd hA hK
  obtain rfl:=hA;have h1:(λv _=>v=.slice (ad g2) B.cps.length k2) (V 1) W:=hd 1 w24_1;have h23:(Nd r g2 35 (λcs=>∃b:Bool,cs=#[.string y.name,.int .i64 y.next,.int .i64 1,.int .i64 1,.int .i64 3,.bool b,.string z.name])) (V 23) W:=hd 23 w24_23;obtain⟨gl,cs,h23,l1,l2,l3,b,rfl⟩:=h23;refine AV u24 _ _ 24 p24 35 _ 7 72 Try.underlying24 DI rfl g2 B.cps.length k2 _ ((G V 1 _ (by omega) d1 (by omega)).trans h1) (hZ hr24) ⟨gl,0,none⟩ 1 1 (#[.string y.name,.int .i64 y.next,.int .i64 1,.int .i64 1,.int .i64 3,.bool b,.string z.name]:Array Value).toList ((G V 23 _ (by omega) d23 (by omega)).trans h23) rfl (BU l3) (by simp[Value.oneCell']) (by unfold maxLen;omega) (by omega) ?_;intro g' cap' w2 hg' hrow hgr;exact hK.out _ _ (JO rfl hgr) ⟨g',cap',_,rfl,hg'.elim .inl (λe=>.inr (by rw[e];exact(CJ hI).1.size)),hrow.out,b,rfl⟩
 refine Ae (λv _=>v=.pointer (some ⟨x,2,none⟩)) (λ_ _ _ _ _ h _=>h) ?_ ?_
 ·intro V W K A hI hZ hd hA hK
  obtain rfl:=hA;exact Aa u25 (Ar (by omega) p25 ((hold V 3 (by omega)).trans hf.e3)) (hK.out _ _ (Ax rfl (RStep.re _)) rfl)
 intro V W A hI hS hA;obtain rfl:=hA;obtain⟨g',cap',xs,hv,hg',hrow,b,rfl⟩:(Nh g2 w.heap.size (B.cps.length+1) 7 35 (λxs=>∃b:Bool,xs=Ag B.cps++((⟨y.name,y.next,1,1,3,b,z.name⟩:Cp)).cells)) (V 24) W:=hS 24 (by omega);have hP:V 25=_:=hS 25 (by omega);refine AP u26 24 _ _ p26 x 2 (V 24) ((G V 25 _ (by omega) d25 (by omega)).trans hP) (G V 24 _ (by omega) d24 (by omega)) C6 (by rw[hv];rfl) (by rw[hv];rfl) 27 _ (hX W hI.1) (AD rfl) ?_;intro w' hz on;have hz':=hz.out;rw[hv]at hz';rw[d26];exact hQ _ _ _ _ _ ⟨λs hs=>hold V s hs,Bq 26,BZ 26⟩ (hu.cps ht hI.1 (hI.2.mono (show q+((26 - 0:Nat):Int)<=q+30 by omega)) hg' hrow ⟨hu.bz.2.2.2.1 y (AE hy),hu.bz.2.2.2.2.2 z (AE hzz)⟩ hz' on)
theorem any_R16{o0 o1 o2 o3 o4 o5 o6 o7:Oper}(t:Nat)
  (hsh:[o0,o1,o2,o3,o4,o5,o6,o7].map (λo=>(o.dst,o.op,o.guard))=[(some t,.fieldAddr 27 (.tmp 3) 1,none),(some (t+1),.load 23 (.tmp t),none),(some (t+2),.move (.tmp 0),none),(some (t+3),.call {callee:=.value (.func 21),args:=#[.tmp (t+2),.const (.int .i64 2)],argTypes:=#[52,3]},none),(some (t+4),.binOp .sub 3 (.const (.int .i64 1000000)) (.tmp (t+3)) 3,none),(some (t+5),.indexAddr 23 (.tmp (t+1)) (.const (.int .i64 0)),none),(some (t+6),.fieldAddr 63 (.tmp (t+5)) 7,none),(none,.store 3 (.tmp (t+6)) (.tmp (t+4)),none)])
  (hB:Ap [o0,o1,o2,o3,o4,o5,o6,o7].toArray 7=true)
  (hwt:[(1,0),(3,2),(4,3),(5,1),(6,5)].all (λx=>Region.waitsFor .any [o0,o1,o2,o3,o4,o5,o6,o7].toArray x.1 x.2)=true) (ht0:33<=t) (hts:t+6<94)
  {r f x g1 k1 g2 k2 g3 k3 id:Nat} {B:Bk} {q:Int} {a:Act} {w0 w:World} {Q:Exit->Act->World->Prop} (e0:a.eval (.tmp 0)=.pointer (ad r)) (e3:a.eval (.tmp 3)=.pointer (ad x)) (hsz:a.tmps.size=94) (hu:SpU r f x g1 k1 g2 k2 g3 k3 B w0 q w) (hq:q<=900000000000) (hs:0<B.svcs.length) (hQ:∀a' w' s',Kept a a'->SpU r f x g1 k1 g2 k2 g3 k3 {B with svcs:=B.svcs.set 0 s'} w0 (q+20) w'->Q .normal a' w'):
  (Code.region id [o0,o1,o2,o3,o4,o5,o6,o7].toArray true).wp Try.prog Q a w:=by
 simp only[List.map_cons,List.map_nil,List.cons.injEq,Prod.mk.injEq,and_true]at hsh;obtain⟨⟨d0,p0,u0⟩,⟨d1,p1,u1⟩,⟨d2,p2,u2⟩,⟨d3,p3,u3⟩,⟨d4,p4,u4⟩,⟨d5,p5,u5⟩,⟨d6,p6,u6⟩,d7,p7,u7⟩:=hsh;simp only[List.all_cons,List.all_nil,Bool.and_eq_true,Bool.and_true]at hwt;obtain⟨w1_0,w3_2,w4_3,w5_1,w6_5⟩:=hwt
 have hown:CI [o0,o1,o2,o3,o4,o5,o6,o7].toArray 7=true:=by
  simp only[Ap,Bool.and_eq_true]at hB;exact hB.1.2
 have hold:∀(V:Nat->Value) (s:Nat),s<33->(Ad [o0,o1,o2,o3,o4,o5,o6,o7].toArray V 7 a).eval (.tmp s)=a.eval (.tmp s):=λV s hs=>CX 7 λj hj=>by
  rcases j with _|_|_|_|_|_|_|j
  all_goals first|(simp[d0,d1,d2,d3,d4,d5,d6];omega)|omega
 have G:∀(V:Nat->Value) (i d:Nat),i<7->(([o0,o1,o2,o3,o4,o5,o6,o7].toArray)[i]?).bind (·.dst)=some d->d<a.tmps.size->(Ad [o0,o1,o2,o3,o4,o5,o6,o7].toArray V 7 a).eval (.tmp d)=V i:=λV i d hi hd hs=>CY hd hs 7 hown hi
 refine BN 7 r 1 q (by kernel_rfl) hB hu.rd ?_;refine Am (λv _=>v=.pointer (some ⟨x,1,none⟩)) (λ_ _ _ h _ _=>h) ?_ ?_
 ·intro V W K A hW hR hd hA hK
  obtain rfl:=hA;exact Aa u0 (Ar (by omega) p0 ((hold V 3 (by omega)).trans e3)) (hK.out _ _ (RStep.re _) rfl)
 refine Am (λv _=>v=.slice (ad g1) B.svcs.length k1) (λ_ _ _ h _ _=>h) ?_ ?_
 ·intro V W K A hW hR hd hA hK
  obtain rfl:=hA;have h0:(λv _=>v=.pointer (some ⟨x,1,none⟩)) (V 0) W:=hd 0 w1_0;exact Aa u1 (E9 p1 ((G V 0 _ (by omega) d0 (by omega)).trans h0) (AK (hu.go hW hR).vx 1 rfl)) (hK.out _ _ (RStep.re _) rfl)
 refine Am (λv _=>v=.pointer (ad r)) (λ_ _ _ h _ _=>h) ?_ ?_
 ·intro V W K A hW hR hd hA hK
  obtain rfl:=hA;exact Aa u2 (BG p2 ((hold V 0 (by omega)).trans e0)) (hK.out _ _ (RStep.re _) rfl)
 refine Am (Pk 2) Fi ?_ ?_
 ·intro V W K A hW hR hd hA hK
  obtain rfl:=hA;have h2:(λv _=>v=.pointer (ad r)) (V 2) W:=hd 2 w3_2;refine DT u3 (EF rfl rfl p3 ((G V 2 _ (by omega) d2 (by omega)).trans h2)) ((Ao r 2 _ W (by omega) (by omega) hR (by omega)).mono ?_);rintro e w2 ⟨k,rfl,hk,hs⟩;exact⟨_,rfl,hK.out _ _ hs ⟨k,rfl,hk⟩⟩
 refine Am (Va IsN) I9 ?_ ?_
 ·intro V W K A hW hR hd hA hK
  obtain rfl:=hA;have h3:(Pk 2) (V 3) W:=hd 3 w4_3;obtain⟨k,h3,_⟩:=h3;exact Aa u4 (run_sub rfl p4 ((G V 3 _ (by omega) d3 (by omega)).trans h3)) (hK.out _ _ (RStep.re _) isN)
 refine Am (λv _=>v=.pointer (some ⟨g1,0*13,none⟩)) (λ_ _ _ h _ _=>h) ?_ ?_
 ·intro V W K A hW hR hd hA hK
  obtain rfl:=hA;have h1:(λv _=>v=.slice (ad g1) B.svcs.length k1) (V 1) W:=hd 1 w5_1;exact Aa u5 (EV p5 ((G V 1 _ (by omega) d1 (by omega)).trans h1) (show _=Value.int .i64 ((0:Nat):Int) from rfl) hs) (hK.out _ _ (RStep.re _) rfl)
 refine Am (λv _=>v=.pointer (some ⟨g1,0*13+7,none⟩)) (λ_ _ _ h _ _=>h) ?_ ?_
 ·intro V W K A hW hR hd hA hK
  obtain rfl:=hA;have h5:(λv _=>v=.pointer (some ⟨g1,0*13,none⟩)) (V 5) W:=hd 5 w6_5;exact Aa u6 (Fo (by omega) p6 ((G V 5 _ (by omega) d5 (by omega)).trans h5)) (hK.out _ _ (RStep.re _) rfl)
 intro V W A hW hR hS hA;obtain rfl:=hA;have hP:V 6=_:=hS 6 (by omega);have hV:IsN (V 4):=hS 4 (by omega);obtain⟨v1,v2⟩:=L9 _ hV;have hU:=hu.go hW (hR.mono (show q+((7*1:Nat):Int)<=q+20 by omega));refine At u7 3 _ _ p7 g1 (0*13+7) (V 4) ((G V 6 _ (by omega) d6 (by omega)).trans hP) (G V 4 _ (by omega) d4 (by omega)) Bs v1 v2 63 13 _ _ _ hU.row.svcs (Ff (i:=0) (m:=B.svcs.length) (size:=13) (F:=7) hs (by omega)) ?_;intro w' hr on;rw[d7];obtain⟨s',hU'⟩:=hU.svcU (Cl (F:=7) (by omega) (by omega)) hV (by omega) hs hr.out on;exact hQ _ _ s' ⟨λs hs=>hold V s hs,Bq 7,BZ 7⟩ hU'
theorem any_R13{o0 o1 o2 o3 o4 o5 o6 o7 o8 o9:Oper}(t:Nat)(hsh:[o0,o1,o2,o3,o4,o5,o6,o7,o8,o9].map (λo=>(o.dst,o.op,o.guard))=[(some t,.fieldAddr 27 (.tmp 3) 1,none),(some (t+1),.load 23 (.tmp t),none),(some (t+2),.move (.tmp 4),none),(some (t+3),.indexAddr 23 (.tmp (t+1)) (.tmp (t+2)),none),(some (t+4),.fieldAddr 63 (.tmp (t+3)) 7,none),(some (t+5),.load 3 (.tmp (t+4)),none),(some (t+6),.binOp .add 3 (.tmp (t+5)) (.const (.int .i64 1)) 3,none),(some (t+7),.indexAddr 23 (.tmp (t+1)) (.tmp (t+2)),none),(some (t+8),.fieldAddr 63 (.tmp (t+7)) 7,none),(none,.store 3 (.tmp (t+8)) (.tmp (t+6)),none)])(ht0:33<=t)(hts:t+8<94)
  {r f x s g1 k1 g2 k2 g3 k3 id:Nat} {B:Bk} {n q:Int} {a:Act} {w0 w:World} {Q:Exit->Act->World->Prop} (hf:AnF r f x s n a) (hu:SpU r f x g1 k1 g2 k2 g3 k3 B w0 q w) (hs:s<B.svcs.length)
  (hQ:∀a' w' s',AnF r f x s n a'->SpU r f x g1 k1 g2 k2 g3 k3 {B with svcs:=B.svcs.set s s'} w0 q w'->Q .normal a' w'):
  (Code.region id [o0,o1,o2,o3,o4,o5,o6,o7,o8,o9].toArray false).wp Try.prog Q a w:=by
 simp only[List.map_cons,List.map_nil,List.cons.injEq,Prod.mk.injEq,and_true]at hsh;obtain⟨⟨d0,p0,u0⟩,⟨d1,p1,u1⟩,⟨d2,p2,u2⟩,⟨d3,p3,u3⟩,⟨d4,p4,u4⟩,⟨d5,p5,u5⟩,⟨d6,p6,u6⟩,⟨d7,p7,u7⟩,⟨d8,p8,u8⟩,d9,p9,u9⟩:=hsh;have hsz:=hf.sz;obtain⟨y,hy⟩:∃y,B.svcs[s]?=some y:=⟨B.svcs[s],by simp[hs]⟩;refine wp_region_lit (Aj u0 d0 (by omega) (Ar (by omega) p0 hf.e3) λA1 q1 s1=>?_);have z1:=q1.2.1;refine Aj u1 d1 (by omega) (E9 p1 s1 (AK hu.vx 1 rfl)) λA2 q2 s2=>?_
 have z2:=q2.2.1;have k2:=((Kept.refl a).one q1 ht0).one q2 (by omega);refine Aj u2 d2 (by omega) (BG p2 ((k2.1 4 (by omega)).trans hf.e4)) λA3 q3 s3=>?_
 have z3:=q3.2.1;refine Aj u3 d3 (by omega) (EV p3 ((q3.1 _ (by omega)).trans s2) s3 hs) λA4 q4 s4=>?_
 have z4:=q4.2.1;refine Aj u4 d4 (by omega) (Fo (by omega) p4 s4) λA5 q5 s5=>?_
 have z5:=q5.2.1;refine Aj u5 d5 (by omega) (Dn p5 s5 (hu.row.svcs.cell (BW (c:=Svc.cells) (n:=13) (λ_=>rfl) B.svcs s y 7 (.int .i64 y.next) hy rfl))) λA6 q6 s6=>?_
 have z6:=q6.2.1;refine Aj u6 d6 (by omega) (Ir rfl p6 s6) λA7 q7 s7=>?_
 have z7:=q7.2.1;refine Aj u7 d7 (by omega) (EV p7 ((q7.1 _ (by omega)).trans ((q6.1 _ (by omega)).trans ((q5.1 _ (by omega)).trans ((q4.1 _ (by omega)).trans ((q3.1 _ (by omega)).trans s2))))) ((q7.1 _ (by omega)).trans ((q6.1 _ (by omega)).trans ((q5.1 _ (by omega)).trans ((q4.1 _ (by omega)).trans s3)))) hs) λA8 q8 s8=>?_
 have z8:=q8.2.1;refine Aj u8 d8 (by omega) (Fo (by omega) p8 s8) λA9 q9 s9=>?_
 have k9:=((((((k2.one q3 (by omega)).one q4 (by omega)).one q5 (by omega)).one q6 (by omega)).one q7 (by omega)).one q8 (by omega)).one q9 (by omega);refine At u9 3 _ _ p9 g1 (s*13+7) _ s9 ((q9.1 _ (by omega)).trans ((q8.1 _ (by omega)).trans s7)) Bs rfl rfl 63 13 _ _ _ hu.row.svcs (Ff hs (by omega)) ?_;intro w' hr on;rw[d9];obtain⟨s',hU⟩:=hu.svcU (Cl (F:=7) (by omega) (by omega)) isN (by omega) hs hr.out on;exact hQ _ _ s' (hf.kept k9) hU
theorem any_R11{o0 o1 o2 o3 o4:Oper}(t:Nat)(hsh:[o0,o1,o2,o3,o4].map (λo=>(o.dst,o.op,o.guard))=[(some t,.fieldAddr 27 (.tmp 3) 2,none),(some (t+1),.load 24 (.tmp t),none),(some (t+2),.call {callee:=.builtin .len,args:=#[.tmp (t+1)],argTypes:=#[24]},none),(some (t+3),.move (.tmp 5),none),(some (t+4),.binOp .lss 3 (.tmp (t+2)) (.tmp (t+3)) 3,none)])(ht0:33<=t)(hts:t+4<94)
  {r f x s g1 k1 g2 k2 g3 k3 id:Nat} {B:Bk} {n q:Int} {a:Act} {w0 w:World} {Q:Exit->Act->World->Prop} (hf:AnF r f x s n a) (hu:SpU r f x g1 k1 g2 k2 g3 k3 B w0 q w)
  (hQ:∀a',AnF r f x s n a'->a'.eval (.tmp (t+4))=.bool (decide ((B.cps.length:Int)<n))->Q .normal a' w):
  (Code.region id [o0,o1,o2,o3,o4].toArray false).wp Try.prog Q a w:=by
 simp only[List.map_cons,List.map_nil,List.cons.injEq,Prod.mk.injEq,and_true]at hsh;obtain⟨⟨d0,p0,u0⟩,⟨d1,p1,u1⟩,⟨d2,p2,u2⟩,⟨d3,p3,u3⟩,d4,p4,u4⟩:=hsh;have hsz:=hf.sz;refine wp_region_lit (Aj u0 d0 (by omega) (Ar (by omega) p0 hf.e3) λA1 q1 s1=>?_);have z1:=q1.2.1;refine Aj u1 d1 (by omega) (Dd p1 s1 (AK hu.vx 2 rfl)) λA2 q2 s2=>?_
 have z2:=q2.2.1;refine Aj u2 d2 (by omega) (H9 p2 s2) λA3 q3 s3=>?_
 have z3:=q3.2.1;have k3:=(((Kept.refl a).one q1 ht0).one q2 (by omega)).one q3 (by omega);refine Aj u3 d3 (by omega) (BG p3 ((k3.1 5 (by omega)).trans hf.e5)) λA4 q4 s4=>?_
 have z4:=q4.2.1;refine Aj u4 d4 (by omega) (Nn p4 ((q4.1 _ (by omega)).trans s3) s4) λA5 q5 s5=>?_
 exact hQ _ (hf.kept ((k3.one q4 (by omega)).one q5 (by omega))) s5
theorem SpU.done{r f x g1 k1 g2 k2 g3 k3:Nat}{B:Bk}{w0 w w':World}{q q':Int}(hu:SpU r f x g1 k1 g2 k2 g3 k3 B w0 q w)(on:Bj f w w')(hq:q<=q'):SpIs r q' w0 (.returned (.agg (bkV B (ad g1) k1 (ad g2) k2 (ad g3) k3))) w':=by
 have h1:=hu.rn;have h2:=hu.nf;have hne:∀e,e≠27->∀{size g n c:Nat} {xs:List Value},RowIs w e size g n c xs->g≠f:=λe he _ _ _ _ _ hr=>(hr.notBk hu.vf he).symm
 have hrow:BkRow w' w0.heap.size g1 g2 g3 k1 k2 k3 B:=⟨hu.row.n1,hu.row.n2,hu.row.n3,hu.row.svcs.blk (on.other _ (hne _ (by decide) hu.row.svcs)),hu.row.cps.blk (on.other _ (hne _ (by decide) hu.row.cps)),hu.row.bts.blk (on.other _ (hne _ (by decide) hu.row.bts))⟩;exact⟨_,_,_,k1,k2,k3,B,rfl,hrow.at,hu.row.cps.2.1,hu.bz,hu.bs,hu.past.trans (.of (on.below.mono h2)),(hu.rd.turn (by omega) on.size on.other).mono hq⟩
theorem N7{o0 o1:Oper}{fn:Func}(hfn:fn.results=#[.cell 2 27])(hsh:[o0,o1].map (λo=>(o.dst,o.op,o.guard))=[(some 93,.load 27 (.tmp 3),none),(none,.store 27 (.tmp 2) (.tmp 93),none)])
  {r f x id g1 k1 g2 k2 g3 k3:Nat} {B:Bk} {q q':Int} {a:Act} {w0 w:World} (e2:a.eval (.tmp 2)=.pointer (ad f)) (e3:a.eval (.tmp 3)=.pointer (ad x)) (hsz:a.tmps.size=94) (hdf:a.defers=[]) (hu:SpU r f x g1 k1 g2 k2 g3 k3 B w0 q w) (hq:q<=q'):(Code.seq (Code.region id [o0,o1].toArray false) .ret).wp Try.prog (bodyPost Try.prog fn (SpIs r q' w0)) a w:=by
 simp only[List.map_cons,List.map_nil,List.cons.injEq,Prod.mk.injEq,and_true]at hsh;obtain⟨⟨d0,p0,u0⟩,d1,p1,u1⟩:=hsh;refine wp_seq (wp_region_lit (wpList_load_row u0 27 (.tmp 3) p0 x e3 27 _ (0,0) _ hu.vx Try.underlying27 rfl AT ?_));rw[d0];refine AM u1 27 _ _ p1 f 0 (bkV B (ad g1) k1 (ad g2) k2 (ad g3) k3) ((JQ _ _ (by omega)).trans e2) (Ef _ _ (by omega)) 27 _ hu.vf AT (AD rfl) (by simp[Value.oneCell']) ?_;intro w' hz on;rw[d1];exact wp_ret (bodyPost_ret (results_cell_row hfn _ w' f 27 (bkV B (ad g1) k1 (ad g2) k2 (ad g3) k3) (0,0) _ ((JQ a _ (show 93≠2 by omega)).trans e2) hz.out Try.underlying27 rfl AT) ((Eg _ _ _).trans hdf) (hu.done on hq))
end Go.Proofs.Ytbceafpodamnfaa
