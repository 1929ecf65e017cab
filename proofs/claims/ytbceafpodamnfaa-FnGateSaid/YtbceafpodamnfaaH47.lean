import Derived.Test.YtbceafpodamnfaaH46
set_option linter.all false
set_option maxHeartbeats 1000000
namespace Go.Proofs.Ytbceafpodamnfaa
attribute [local simp] svV cpV zbV czV aaV ctZ ad bkV ctV acV evV
attribute [local go_sem] svV cpV zbV czV aaV ctZ ad bkV ctV acV evV
open Go.RowKit Go.Sort
section
variable {ρ:Operand->Value} {o:Oper} {W:World} {x y:Operand}
theorem OT{c a b:Int}(hc:ρ (.const (.int .i64 c))=.int .i64 c)(h:o.op=.buildSlice 122 3 #[(0,.const (.int .i64 c)),(1,x),(2,y)])(hx:ρ x=.int .i64 a)(hy:ρ y=.int .i64 b):(execOp ρ o).run Try.prog W=.ok (.value (.slice (some ⟨W.heap.size,0,none⟩) 3 3)) (W.alloc (.cells #[.int .i64 c,.int .i64 a,.int .i64 b] 3)):=by
 simp[execOp,h,hx,hy,hc,go_sem]
theorem OU{c a:Int}(hc:ρ (.const (.int .i64 c))=.int .i64 c)(h:o.op=.buildSlice 122 2 #[(0,.const (.int .i64 c)),(1,x)])(hx:ρ x=.int .i64 a):(execOp ρ o).run Try.prog W=.ok (.value (.slice (some ⟨W.heap.size,0,none⟩) 2 2)) (W.alloc (.cells #[.int .i64 c,.int .i64 a] 3)):=by
 simp[execOp,h,hx,hc,go_sem]
theorem Nm{b:Bool}(h:o.op=.unOp .not 4 x)(hx:ρ x=.bool b):(execOp ρ o).run Try.prog W=.ok (.value (.bool (!b))) W:=by
 simp[execOp,h,hx,go_sem]
end
theorem KC:(Try.prog.info? 4).map (·.size)=some 1:=by kernel_rfl
theorem Ff{i m size F:Nat}(h:i<m)(hF:F<size):i*size+F+1<=m*size:=by
 have:=Nat.mul_le_mul_right size (show i+1<=m from h);rw[Nat.add_mul,Nat.one_mul]at this;omega
theorem sp_R13{o0 o1 o2 o3 o4 o5 o6 o7 o8 o9 o10 o11 o12 o13 o14 o15:Oper}(t:Nat)
  (hsh:[o0,o1,o2,o3,o4,o5,o6,o7,o8,o9,o10,o11,o12,o13,o14,o15].map (λo=>(o.dst,o.op,o.guard))=[(some t,.fieldAddr 27 (.tmp 5) 1,none),(some (t+1),.load 23 (.tmp t),none),(some (t+2),.move (.tmp 6),none),(some (t+3),.fieldAddr 27 (.tmp 5) 0,none),(some (t+4),.load 3 (.tmp (t+3)),none),(some (t+5),.fieldAddr 27 (.tmp 5) 0,none),(some (t+6),.load 3 (.tmp (t+5)),none),(some (t+7),.binOp .add 3 (.tmp (t+6)) (.const (.int .i64 1)) 3,none),(some (t+8),.buildSlice 122 3 #[(0,.const (.int .i64 0)),(1,.tmp (t+4)),(2,.tmp (t+7))],none),(some (t+9),.move (.tmp 0),none),(some (t+10),.call {callee:=.value (.func 21),args:=#[.tmp (t+9),.const (.int .i64 3)],argTypes:=#[52,3]},none),(some (t+11),.indexAddr 122 (.tmp (t+8)) (.tmp (t+10)),none),(some (t+12),.load 3 (.tmp (t+11)),none),(some (t+13),.indexAddr 23 (.tmp (t+1)) (.tmp (t+2)),none),(some (t+14),.fieldAddr 63 (.tmp (t+13)) 1,none),(none,.store 3 (.tmp (t+14)) (.tmp (t+12)),none)])
  (hB:Ap [o0,o1,o2,o3,o4,o5,o6,o7,o8,o9,o10,o11,o12,o13,o14,o15].toArray 15=true)
  (hwt:[(1,0),(4,3),(6,5),(7,6),(8,4),(8,7),(10,9),(11,8),(11,10),(12,11),(13,1),(13,2),(14,13)].all (λx=>Region.waitsFor .any [o0,o1,o2,o3,o4,o5,o6,o7,o8,o9,o10,o11,o12,o13,o14,o15].toArray x.1 x.2)=true) (ht0:33<=t) (hts:t+14<284)
  {r f x s c g1 k1 g2 k2 g3 k3 id:Nat} {B:Bk} {k q:Int} {a:Act} {w0 w:World} {Q:Exit->Act->World->Prop} (hf:SpF r f x s c k a) (hu:SpU r f x g1 k1 g2 k2 g3 k3 B w0 q w) (hq:q<=900000000000) (hs:s<B.svcs.length) (hQ:∀a' w',SpF r f x s c k a'->SpW r f x w0 (q+20) w'->Q .normal a' w'):
  (Code.region id [o0,o1,o2,o3,o4,o5,o6,o7,o8,o9,o10,o11,o12,o13,o14,o15].toArray true).wp Try.prog Q a w:=by
 simp only[List.map_cons,List.map_nil,List.cons.injEq,Prod.mk.injEq,and_true]at hsh;obtain⟨⟨d0,p0,u0⟩,⟨d1,p1,u1⟩,⟨d2,p2,u2⟩,⟨d3,p3,u3⟩,⟨d4,p4,u4⟩,⟨d5,p5,u5⟩,⟨d6,p6,u6⟩,⟨d7,p7,u7⟩,⟨d8,p8,u8⟩,⟨d9,p9,u9⟩,⟨d10,p10,u10⟩,⟨d11,p11,u11⟩,⟨d12,p12,u12⟩,⟨d13,p13,u13⟩,⟨d14,p14,u14⟩,d15,p15,u15⟩:=hsh;simp only[List.all_cons,List.all_nil,Bool.and_eq_true,Bool.and_true]at hwt;obtain⟨w1_0,w4_3,w6_5,w7_6,w8_4,w8_7,w10_9,w11_8,w11_10,w12_11,w13_1,w13_2,w14_13⟩:=hwt;have hsz:=hf.sz
 have hown:CI [o0,o1,o2,o3,o4,o5,o6,o7,o8,o9,o10,o11,o12,o13,o14,o15].toArray 15=true:=by
  simp only[Ap,Bool.and_eq_true]at hB;exact hB.1.2
 have hold:∀(V:Nat->Value) (s:Nat),s<33->(Ad [o0,o1,o2,o3,o4,o5,o6,o7,o8,o9,o10,o11,o12,o13,o14,o15].toArray V 15 a).eval (.tmp s)=a.eval (.tmp s):=λV s hs=>CX 15 λj hj=>by
  rcases j with _|_|_|_|_|_|_|_|_|_|_|_|_|_|_|j
  all_goals first|(simp[d0,d1,d2,d3,d4,d5,d6,d7,d8,d9,d10,d11,d12,d13,d14];omega)|omega
 have G:∀(V:Nat->Value) (i d:Nat),i<15->(([o0,o1,o2,o3,o4,o5,o6,o7,o8,o9,o10,o11,o12,o13,o14,o15].toArray)[i]?).bind (·.dst)=some d->d<a.tmps.size->(Ad [o0,o1,o2,o3,o4,o5,o6,o7,o8,o9,o10,o11,o12,o13,o14,o15].toArray V 15 a).eval (.tmp d)=V i:=λV i d hi hd hs=>CY hd hs 15 hown hi
 refine BN 15 r 1 q (by kernel_rfl) hB hu.rd ?_;refine Am (λv _=>v=.pointer (some ⟨x,1,none⟩)) (λ_ _ _ h _ _=>h) ?_ ?_
 ·intro V W K A hW hR hd hA hK
  obtain rfl:=hA;exact Aa u0 (Ar (by omega) p0 ((hold V 5 (by omega)).trans hf.e5)) (hK.out _ _ (RStep.re _) rfl)
 refine Am (λv _=>v=.slice (ad g1) B.svcs.length k1) (λ_ _ _ h _ _=>h) ?_ ?_
 ·intro V W K A hW hR hd hA hK
  obtain rfl:=hA;have h0:(λv _=>v=.pointer (some ⟨x,1,none⟩)) (V 0) W:=hd 0 w1_0;exact Aa u1 (E9 p1 ((G V 0 _ (by omega) d0 (by omega)).trans h0) (AK (hu.go hW hR).vx 1 rfl)) (hK.out _ _ (RStep.re _) rfl)
 refine Am (λv _=>v=.int .i64 s) (λ_ _ _ h _ _=>h) ?_ ?_
 ·intro V W K A hW hR hd hA hK
  obtain rfl:=hA;exact Aa u2 (BG p2 ((hold V 6 (by omega)).trans hf.e6)) (hK.out _ _ (RStep.re _) rfl)
 refine Am (λv _=>v=.pointer (ad x)) (λ_ _ _ h _ _=>h) ?_ ?_
 ·intro V W K A hW hR hd hA hK
  obtain rfl:=hA;exact Aa u3 (Ar (by omega) p3 ((hold V 5 (by omega)).trans hf.e5)) (hK.out _ _ (RStep.re _) rfl)
 refine Am (λv _=>v=.int .i64 B.now) (λ_ _ _ h _ _=>h) ?_ ?_
 ·intro V W K A hW hR hd hA hK
  obtain rfl:=hA;have h3:(λv _=>v=.pointer (ad x)) (V 3) W:=hd 3 w4_3;exact Aa u4 (Dn p4 ((G V 3 _ (by omega) d3 (by omega)).trans h3) (AK (hu.go hW hR).vx 0 rfl)) (hK.out _ _ (RStep.re _) rfl)
 refine Am (λv _=>v=.pointer (ad x)) (λ_ _ _ h _ _=>h) ?_ ?_
 ·intro V W K A hW hR hd hA hK
  obtain rfl:=hA;exact Aa u5 (Ar (by omega) p5 ((hold V 5 (by omega)).trans hf.e5)) (hK.out _ _ (RStep.re _) rfl)
 refine Am (λv _=>v=.int .i64 B.now) (λ_ _ _ h _ _=>h) ?_ ?_
 ·intro V W K A hW hR hd hA hK
  obtain rfl:=hA;have h5:(λv _=>v=.pointer (ad x)) (V 5) W:=hd 5 w6_5;exact Aa u6 (Dn p6 ((G V 5 _ (by omega) d5 (by omega)).trans h5) (AK (hu.go hW hR).vx 0 rfl)) (hK.out _ _ (RStep.re _) rfl)
 refine Am (Va IsN) I9 ?_ ?_
 ·intro V W K A hW hR hd hA hK
  obtain rfl:=hA;have h6:(λv _=>v=.int .i64 B.now) (V 6) W:=hd 6 w7_6;exact Aa u7 (Ir rfl p7 ((G V 6 _ (by omega) d6 (by omega)).trans h6)) (hK.out _ _ (RStep.re _) isN)
 refine Am (SlV r 3 IsN) HJ ?_ ?_
 ·intro V W K A hW hR hd hA hK
  obtain rfl:=hA;have h4:(λv _=>v=.int .i64 B.now) (V 4) W:=hd 4 w8_4;have h7:(Va IsN) (V 7) W:=hd 7 w8_7;obtain⟨z,h7⟩:=h7;exact Aa u8 (OT rfl p8 ((G V 4 _ (by omega) d4 (by omega)).trans h4) ((G V 7 _ (by omega) d7 (by omega)).trans h7)) (hK.out _ _ (.of (AO _ _)) (By _ hR.lt (CT isN isN isN)))
 refine Am (λv _=>v=.pointer (ad r)) (λ_ _ _ h _ _=>h) ?_ ?_
 ·intro V W K A hW hR hd hA hK
  obtain rfl:=hA;exact Aa u9 (BG p9 ((hold V 0 (by omega)).trans hf.e0)) (hK.out _ _ (RStep.re _) rfl)
 refine Am (Pk 3) Fi ?_ ?_
 ·intro V W K A hW hR hd hA hK
  obtain rfl:=hA;have h9:(λv _=>v=.pointer (ad r)) (V 9) W:=hd 9 w10_9;refine DT u10 (EF rfl rfl p10 ((G V 9 _ (by omega) d9 (by omega)).trans h9)) ((Ao r 3 _ W (by omega) (by omega) hR (by omega)).mono ?_);rintro e w2 ⟨k,rfl,hk,hs⟩;exact⟨_,rfl,hK.out _ _ hs ⟨k,rfl,hk⟩⟩
 refine Am (PtV r IsN) L7 ?_ ?_
 ·intro V W K A hW hR hd hA hK
  obtain rfl:=hA;have h8:(SlV r 3 IsN) (V 8) W:=hd 8 w11_8;have h10:(Pk 3) (V 10) W:=hd 10 w11_10;obtain⟨gl,h8,l1,l2,l3⟩:=h8;obtain⟨k,h10,hk⟩:=h10;obtain⟨j,rfl⟩:=AI hk.1;have hj:j<3:=by have:=hk.2.1 (by omega);omega
  obtain⟨u,c1,c2⟩:=l3 j hj;exact Aa u11 (Ji p11 ((G V 8 _ (by omega) d8 (by omega)).trans h8) ((G V 10 _ (by omega) d10 (by omega)).trans h10) hj) (hK.out _ _ (RStep.re _) ⟨gl,j,u,rfl,l1,l2,c1,c2⟩)
 refine Am (Va IsN) I9 ?_ ?_
 ·intro V W K A hW hR hd hA hK
  obtain rfl:=hA;have h11:(PtV r IsN) (V 11) W:=hd 11 w12_11;obtain⟨gl,j,u,h11,l1,l2,c1,c2⟩:=h11;exact Aa u12 (Dn p12 ((G V 11 _ (by omega) d11 (by omega)).trans h11) c1) (hK.out _ _ (RStep.re _) c2)
 refine Am (λv _=>v=.pointer (some ⟨g1,s*13,none⟩)) (λ_ _ _ h _ _=>h) ?_ ?_
 ·intro V W K A hW hR hd hA hK
  obtain rfl:=hA;have h1:(λv _=>v=.slice (ad g1) B.svcs.length k1) (V 1) W:=hd 1 w13_1;have h2:(λv _=>v=.int .i64 s) (V 2) W:=hd 2 w13_2;exact Aa u13 (EV p13 ((G V 1 _ (by omega) d1 (by omega)).trans h1) ((G V 2 _ (by omega) d2 (by omega)).trans h2) hs) (hK.out _ _ (RStep.re _) rfl)
 refine Am (λv _=>v=.pointer (some ⟨g1,s*13+1,none⟩)) (λ_ _ _ h _ _=>h) ?_ ?_
 ·intro V W K A hW hR hd hA hK
  obtain rfl:=hA;have h13:(λv _=>v=.pointer (some ⟨g1,s*13,none⟩)) (V 13) W:=hd 13 w14_13;exact Aa u14 (Fo (by omega) p14 ((G V 13 _ (by omega) d13 (by omega)).trans h13)) (hK.out _ _ (RStep.re _) rfl)
 intro V W A hW hR hS hA;obtain rfl:=hA;have hP:V 14=_:=hS 14 (by omega);have hV:IsN (V 12):=hS 12 (by omega);obtain⟨v1,v2⟩:=L9 _ hV;have hU:=hu.go hW (hR.mono (show q+((15*1:Nat):Int)<=q+20 by omega));refine At u15 3 _ _ p15 g1 (s*13+1) (V 12) ((G V 14 _ (by omega) d14 (by omega)).trans hP) (G V 12 _ (by omega) d12 (by omega)) Bs v1 v2 63 13 _ _ _ hU.row.svcs (Ff hs (by omega)) ?_;intro w' hr on;rw[d15];exact hQ _ _ (hf.kept ⟨λs hs=>hold V s hs,Bq 15,BZ 15⟩) (hU.svc (Cl (.inl rfl) (by omega)) hV (by omega) hs hr.out on)
theorem sp_R46{o0 o1 o2 o3 o4 o5 o6 o7 o8 o9 o10 o11 o12 o13:Oper}(t:Nat)
  (hsh:[o0,o1,o2,o3,o4,o5,o6,o7,o8,o9,o10,o11,o12,o13].map (λo=>(o.dst,o.op,o.guard))=[(some t,.fieldAddr 27 (.tmp 5) 2,none),(some (t+1),.load 24 (.tmp t),none),(some (t+2),.move (.tmp 7),none),(some (t+3),.fieldAddr 27 (.tmp 5) 0,none),(some (t+4),.load 3 (.tmp (t+3)),none),(some (t+5),.binOp .add 3 (.tmp (t+4)) (.const (.int .i64 1)) 3,none),(some (t+6),.buildSlice 122 2 #[(0,.const (.int .i64 0)),(1,.tmp (t+5))],none),(some (t+7),.move (.tmp 0),none),(some (t+8),.call {callee:=.value (.func 21),args:=#[.tmp (t+7),.const (.int .i64 2)],argTypes:=#[52,3]},none),(some (t+9),.indexAddr 122 (.tmp (t+6)) (.tmp (t+8)),none),(some (t+10),.load 3 (.tmp (t+9)),none),(some (t+11),.indexAddr 24 (.tmp (t+1)) (.tmp (t+2)),none),(some (t+12),.fieldAddr 35 (.tmp (t+11)) 2,none),(none,.store 3 (.tmp (t+12)) (.tmp (t+10)),none)])
  (hB:Ap [o0,o1,o2,o3,o4,o5,o6,o7,o8,o9,o10,o11,o12,o13].toArray 13=true)
  (hwt:[(1,0),(4,3),(5,4),(6,5),(8,7),(9,6),(9,8),(10,9),(11,1),(11,2),(12,11)].all (λx=>Region.waitsFor .any [o0,o1,o2,o3,o4,o5,o6,o7,o8,o9,o10,o11,o12,o13].toArray x.1 x.2)=true) (ht0:33<=t) (hts:t+12<284)
  {r f x s c g1 k1 g2 k2 g3 k3 id:Nat} {B:Bk} {k q:Int} {a:Act} {w0 w:World} {Q:Exit->Act->World->Prop} (hf:SpF r f x s c k a) (hu:SpU r f x g1 k1 g2 k2 g3 k3 B w0 q w) (hq:q<=900000000000) (hs:c<B.cps.length) (hQ:∀a' w',SpF r f x s c k a'->SpW r f x w0 (q+20) w'->Q .normal a' w'):
  (Code.region id [o0,o1,o2,o3,o4,o5,o6,o7,o8,o9,o10,o11,o12,o13].toArray true).wp Try.prog Q a w:=by
 simp only[List.map_cons,List.map_nil,List.cons.injEq,Prod.mk.injEq,and_true]at hsh;obtain⟨⟨d0,p0,u0⟩,⟨d1,p1,u1⟩,⟨d2,p2,u2⟩,⟨d3,p3,u3⟩,⟨d4,p4,u4⟩,⟨d5,p5,u5⟩,⟨d6,p6,u6⟩,⟨d7,p7,u7⟩,⟨d8,p8,u8⟩,⟨d9,p9,u9⟩,⟨d10,p10,u10⟩,⟨d11,p11,u11⟩,⟨d12,p12,u12⟩,d13,p13,u13⟩:=hsh;simp only[List.all_cons,List.all_nil,Bool.and_eq_true,Bool.and_true]at hwt;obtain⟨w1_0,w4_3,w5_4,w6_5,w8_7,w9_6,w9_8,w10_9,w11_1,w11_2,w12_11⟩:=hwt;have hsz:=hf.sz
 have hown:CI [o0,o1,o2,o3,o4,o5,o6,o7,o8,o9,o10,o11,o12,o13].toArray 13=true:=by
  simp only[Ap,Bool.and_eq_true]at hB;exact hB.1.2
 have hold:∀(V:Nat->Value) (s:Nat),s<33->(Ad [o0,o1,o2,o3,o4,o5,o6,o7,o8,o9,o10,o11,o12,o13].toArray V 13 a).eval (.tmp s)=a.eval (.tmp s):=λV s hs=>CX 13 λj hj=>by
  rcases j with _|_|_|_|_|_|_|_|_|_|_|_|_|j
  all_goals first|(simp[d0,d1,d2,d3,d4,d5,d6,d7,d8,d9,d10,d11,d12];omega)|omega
 have G:∀(V:Nat->Value) (i d:Nat),i<13->(([o0,o1,o2,o3,o4,o5,o6,o7,o8,o9,o10,o11,o12,o13].toArray)[i]?).bind (·.dst)=some d->d<a.tmps.size->(Ad [o0,o1,o2,o3,o4,o5,o6,o7,o8,o9,o10,o11,o12,o13].toArray V 13 a).eval (.tmp d)=V i:=λV i d hi hd hs=>CY hd hs 13 hown hi
 refine BN 13 r 1 q (by kernel_rfl) hB hu.rd ?_;refine Am (λv _=>v=.pointer (some ⟨x,2,none⟩)) (λ_ _ _ h _ _=>h) ?_ ?_
 ·intro V W K A hW hR hd hA hK
  obtain rfl:=hA;exact Aa u0 (Ar (by omega) p0 ((hold V 5 (by omega)).trans hf.e5)) (hK.out _ _ (RStep.re _) rfl)
 refine Am (λv _=>v=.slice (ad g2) B.cps.length k2) (λ_ _ _ h _ _=>h) ?_ ?_
 ·intro V W K A hW hR hd hA hK
  obtain rfl:=hA;have h0:(λv _=>v=.pointer (some ⟨x,2,none⟩)) (V 0) W:=hd 0 w1_0;exact Aa u1 (Dd p1 ((G V 0 _ (by omega) d0 (by omega)).trans h0) (AK (hu.go hW hR).vx 2 rfl)) (hK.out _ _ (RStep.re _) rfl)
 refine Am (λv _=>v=.int .i64 c) (λ_ _ _ h _ _=>h) ?_ ?_
 ·intro V W K A hW hR hd hA hK
  obtain rfl:=hA;exact Aa u2 (BG p2 ((hold V 7 (by omega)).trans hf.e7)) (hK.out _ _ (RStep.re _) rfl)
 refine Am (λv _=>v=.pointer (ad x)) (λ_ _ _ h _ _=>h) ?_ ?_
 ·intro V W K A hW hR hd hA hK
  obtain rfl:=hA;exact Aa u3 (Ar (by omega) p3 ((hold V 5 (by omega)).trans hf.e5)) (hK.out _ _ (RStep.re _) rfl)
 refine Am (λv _=>v=.int .i64 B.now) (λ_ _ _ h _ _=>h) ?_ ?_
 ·intro V W K A hW hR hd hA hK
  obtain rfl:=hA;have h3:(λv _=>v=.pointer (ad x)) (V 3) W:=hd 3 w4_3;exact Aa u4 (Dn p4 ((G V 3 _ (by omega) d3 (by omega)).trans h3) (AK (hu.go hW hR).vx 0 rfl)) (hK.out _ _ (RStep.re _) rfl)
 refine Am (Va IsN) I9 ?_ ?_
 ·intro V W K A hW hR hd hA hK
  obtain rfl:=hA;have h4:(λv _=>v=.int .i64 B.now) (V 4) W:=hd 4 w5_4;exact Aa u5 (Ir rfl p5 ((G V 4 _ (by omega) d4 (by omega)).trans h4)) (hK.out _ _ (RStep.re _) isN)
 refine Am (SlV r 2 IsN) HJ ?_ ?_
 ·intro V W K A hW hR hd hA hK
  obtain rfl:=hA;have h5:(Va IsN) (V 5) W:=hd 5 w6_5;obtain⟨z,h5⟩:=h5;exact Aa u6 (OU rfl p6 ((G V 5 _ (by omega) d5 (by omega)).trans h5)) (hK.out _ _ (.of (AO _ _)) (By _ hR.lt (Mt isN isN)))
 refine Am (λv _=>v=.pointer (ad r)) (λ_ _ _ h _ _=>h) ?_ ?_
 ·intro V W K A hW hR hd hA hK
  obtain rfl:=hA;exact Aa u7 (BG p7 ((hold V 0 (by omega)).trans hf.e0)) (hK.out _ _ (RStep.re _) rfl)
 refine Am (Pk 2) Fi ?_ ?_
 ·intro V W K A hW hR hd hA hK
  obtain rfl:=hA;have h7:(λv _=>v=.pointer (ad r)) (V 7) W:=hd 7 w8_7;refine DT u8 (EF rfl rfl p8 ((G V 7 _ (by omega) d7 (by omega)).trans h7)) ((Ao r 2 _ W (by omega) (by omega) hR (by omega)).mono ?_);rintro e w2 ⟨k,rfl,hk,hs⟩;exact⟨_,rfl,hK.out _ _ hs ⟨k,rfl,hk⟩⟩
 refine Am (PtV r IsN) L7 ?_ ?_
 ·intro V W K A hW hR hd hA hK
  obtain rfl:=hA;have h6:(SlV r 2 IsN) (V 6) W:=hd 6 w9_6;have h8:(Pk 2) (V 8) W:=hd 8 w9_8;obtain⟨gl,h6,l1,l2,l3⟩:=h6;obtain⟨k,h8,hk⟩:=h8;obtain⟨j,rfl⟩:=AI hk.1;have hj:j<2:=by have:=hk.2.1 (by omega);omega
  obtain⟨u,c1,c2⟩:=l3 j hj;exact Aa u9 (Ji p9 ((G V 6 _ (by omega) d6 (by omega)).trans h6) ((G V 8 _ (by omega) d8 (by omega)).trans h8) hj) (hK.out _ _ (RStep.re _) ⟨gl,j,u,rfl,l1,l2,c1,c2⟩)
 refine Am (Va IsN) I9 ?_ ?_
 ·intro V W K A hW hR hd hA hK
  obtain rfl:=hA;have h9:(PtV r IsN) (V 9) W:=hd 9 w10_9;obtain⟨gl,j,u,h9,l1,l2,c1,c2⟩:=h9;exact Aa u10 (Dn p10 ((G V 9 _ (by omega) d9 (by omega)).trans h9) c1) (hK.out _ _ (RStep.re _) c2)
 refine Am (λv _=>v=.pointer (some ⟨g2,c*7,none⟩)) (λ_ _ _ h _ _=>h) ?_ ?_
 ·intro V W K A hW hR hd hA hK
  obtain rfl:=hA;have h1:(λv _=>v=.slice (ad g2) B.cps.length k2) (V 1) W:=hd 1 w11_1;have h2:(λv _=>v=.int .i64 c) (V 2) W:=hd 2 w11_2;exact Aa u11 (G1 p11 ((G V 1 _ (by omega) d1 (by omega)).trans h1) ((G V 2 _ (by omega) d2 (by omega)).trans h2) hs) (hK.out _ _ (RStep.re _) rfl)
 refine Am (λv _=>v=.pointer (some ⟨g2,c*7+2,none⟩)) (λ_ _ _ h _ _=>h) ?_ ?_
 ·intro V W K A hW hR hd hA hK
  obtain rfl:=hA;have h11:(λv _=>v=.pointer (some ⟨g2,c*7,none⟩)) (V 11) W:=hd 11 w12_11;exact Aa u12 (GL (by omega) p12 ((G V 11 _ (by omega) d11 (by omega)).trans h11)) (hK.out _ _ (RStep.re _) rfl)
 intro V W A hW hR hS hA;obtain rfl:=hA;have hP:V 12=_:=hS 12 (by omega);have hV:IsN (V 10):=hS 10 (by omega);obtain⟨v1,v2⟩:=L9 _ hV;have hU:=hu.go hW (hR.mono (show q+((13*1:Nat):Int)<=q+20 by omega));refine At u13 3 _ _ p13 g2 (c*7+2) (V 10) ((G V 12 _ (by omega) d12 (by omega)).trans hP) (G V 10 _ (by omega) d10 (by omega)) Bs v1 v2 35 7 _ _ _ hU.row.cps (Ff hs (by omega)) ?_;intro w' hr on;rw[d13];exact hQ _ _ (hf.kept ⟨λs hs=>hold V s hs,Bq 13,BZ 13⟩) (hU.cp (JG (by omega) (by omega)) hV (by omega) hs hr.out on)
theorem one_B:∀u,(∃b:Bool,u=Value.bool b)->u.cells=#[u]/\u.oneCell'=true:=by
 rintro u ⟨b,rfl⟩;exact⟨rfl,rfl⟩
theorem sp_R7{o0 o1 o2 o3 o4 o5 o6 o7 o8 o9 o10 o11 o12:Oper}(t:Nat)
  (hsh:[o0,o1,o2,o3,o4,o5,o6,o7,o8,o9,o10,o11,o12].map (λo=>(o.dst,o.op,o.guard))=[(some t,.fieldAddr 27 (.tmp 5) 2,none),(some (t+1),.load 24 (.tmp t),none),(some (t+2),.move (.tmp 7),none),(some (t+3),.fieldAddr 27 (.tmp 5) 2,none),(some (t+4),.load 24 (.tmp (t+3)),none),(some (t+5),.move (.tmp 7),none),(some (t+6),.indexAddr 24 (.tmp (t+4)) (.tmp (t+5)),none),(some (t+7),.fieldAddr 35 (.tmp (t+6)) 5,none),(some (t+8),.load 4 (.tmp (t+7)),none),(some (t+9),.unOp .not 4 (.tmp (t+8)),none),(some (t+10),.indexAddr 24 (.tmp (t+1)) (.tmp (t+2)),none),(some (t+11),.fieldAddr 35 (.tmp (t+10)) 5,none),(none,.store 4 (.tmp (t+11)) (.tmp (t+9)),none)])
  (hB:Ap [o0,o1,o2,o3,o4,o5,o6,o7,o8,o9,o10,o11,o12].toArray 12=true)
  (hwt:[(1,0),(4,3),(6,4),(6,5),(7,6),(8,7),(9,8),(10,1),(10,2),(11,10)].all (λx=>Region.waitsFor .any [o0,o1,o2,o3,o4,o5,o6,o7,o8,o9,o10,o11,o12].toArray x.1 x.2)=true) (ht0:33<=t) (hts:t+11<284)
  {r f x s c g1 k1 g2 k2 g3 k3 id:Nat} {B:Bk} {k q:Int} {a:Act} {w0 w:World} {Q:Exit->Act->World->Prop} (hf:SpF r f x s c k a) (hu:SpU r f x g1 k1 g2 k2 g3 k3 B w0 q w) (hq:q<=900000000000) (hs:c<B.cps.length) (hQ:∀a' w',SpF r f x s c k a'->SpW r f x w0 (q+20) w'->Q .normal a' w'):
  (Code.region id [o0,o1,o2,o3,o4,o5,o6,o7,o8,o9,o10,o11,o12].toArray true).wp Try.prog Q a w:=by
 simp only[List.map_cons,List.map_nil,List.cons.injEq,Prod.mk.injEq,and_true]at hsh;obtain⟨⟨d0,p0,u0⟩,⟨d1,p1,u1⟩,⟨d2,p2,u2⟩,⟨d3,p3,u3⟩,⟨d4,p4,u4⟩,⟨d5,p5,u5⟩,⟨d6,p6,u6⟩,⟨d7,p7,u7⟩,⟨d8,p8,u8⟩,⟨d9,p9,u9⟩,⟨d10,p10,u10⟩,⟨d11,p11,u11⟩,d12,p12,u12⟩:=hsh;simp only[List.all_cons,List.all_nil,Bool.and_eq_true,Bool.and_true]at hwt;obtain⟨w1_0,w4_3,w6_4,w6_5,w7_6,w8_7,w9_8,w10_1,w10_2,w11_10⟩:=hwt;have hsz:=hf.sz
 have hown:CI [o0,o1,o2,o3,o4,o5,o6,o7,o8,o9,o10,o11,o12].toArray 12=true:=by
  simp only[Ap,Bool.and_eq_true]at hB;exact hB.1.2
 have hold:∀(V:Nat->Value) (s:Nat),s<33->(Ad [o0,o1,o2,o3,o4,o5,o6,o7,o8,o9,o10,o11,o12].toArray V 12 a).eval (.tmp s)=a.eval (.tmp s):=λV s hs=>CX 12 λj hj=>by
  rcases j with _|_|_|_|_|_|_|_|_|_|_|_|j
  all_goals first|(simp[d0,d1,d2,d3,d4,d5,d6,d7,d8,d9,d10,d11];omega)|omega
 have G:∀(V:Nat->Value) (i d:Nat),i<12->(([o0,o1,o2,o3,o4,o5,o6,o7,o8,o9,o10,o11,o12].toArray)[i]?).bind (·.dst)=some d->d<a.tmps.size->(Ad [o0,o1,o2,o3,o4,o5,o6,o7,o8,o9,o10,o11,o12].toArray V 12 a).eval (.tmp d)=V i:=λV i d hi hd hs=>CY hd hs 12 hown hi
 refine BN 12 r 1 q (by kernel_rfl) hB hu.rd ?_;refine Am (λv _=>v=.pointer (some ⟨x,2,none⟩)) (λ_ _ _ h _ _=>h) ?_ ?_
 ·intro V W K A hW hR hd hA hK
  obtain rfl:=hA;exact Aa u0 (Ar (by omega) p0 ((hold V 5 (by omega)).trans hf.e5)) (hK.out _ _ (RStep.re _) rfl)
 refine Am (λv _=>v=.slice (ad g2) B.cps.length k2) (λ_ _ _ h _ _=>h) ?_ ?_
 ·intro V W K A hW hR hd hA hK
  obtain rfl:=hA;have h0:(λv _=>v=.pointer (some ⟨x,2,none⟩)) (V 0) W:=hd 0 w1_0;exact Aa u1 (Dd p1 ((G V 0 _ (by omega) d0 (by omega)).trans h0) (AK (hu.go hW hR).vx 2 rfl)) (hK.out _ _ (RStep.re _) rfl)
 refine Am (λv _=>v=.int .i64 c) (λ_ _ _ h _ _=>h) ?_ ?_
 ·intro V W K A hW hR hd hA hK
  obtain rfl:=hA;exact Aa u2 (BG p2 ((hold V 7 (by omega)).trans hf.e7)) (hK.out _ _ (RStep.re _) rfl)
 refine Am (λv _=>v=.pointer (some ⟨x,2,none⟩)) (λ_ _ _ h _ _=>h) ?_ ?_
 ·intro V W K A hW hR hd hA hK
  obtain rfl:=hA;exact Aa u3 (Ar (by omega) p3 ((hold V 5 (by omega)).trans hf.e5)) (hK.out _ _ (RStep.re _) rfl)
 refine Am (λv _=>v=.slice (ad g2) B.cps.length k2) (λ_ _ _ h _ _=>h) ?_ ?_
 ·intro V W K A hW hR hd hA hK
  obtain rfl:=hA;have h3:(λv _=>v=.pointer (some ⟨x,2,none⟩)) (V 3) W:=hd 3 w4_3;exact Aa u4 (Dd p4 ((G V 3 _ (by omega) d3 (by omega)).trans h3) (AK (hu.go hW hR).vx 2 rfl)) (hK.out _ _ (RStep.re _) rfl)
 refine Am (λv _=>v=.int .i64 c) (λ_ _ _ h _ _=>h) ?_ ?_
 ·intro V W K A hW hR hd hA hK
  obtain rfl:=hA;exact Aa u5 (BG p5 ((hold V 7 (by omega)).trans hf.e7)) (hK.out _ _ (RStep.re _) rfl)
 refine Am (λv _=>v=.pointer (some ⟨g2,c*7,none⟩)) (λ_ _ _ h _ _=>h) ?_ ?_
 ·intro V W K A hW hR hd hA hK
  obtain rfl:=hA;have h4:(λv _=>v=.slice (ad g2) B.cps.length k2) (V 4) W:=hd 4 w6_4;have h5:(λv _=>v=.int .i64 c) (V 5) W:=hd 5 w6_5;exact Aa u6 (G1 p6 ((G V 4 _ (by omega) d4 (by omega)).trans h4) ((G V 5 _ (by omega) d5 (by omega)).trans h5) hs) (hK.out _ _ (RStep.re _) rfl)
 refine Am (λv _=>v=.pointer (some ⟨g2,c*7+5,none⟩)) (λ_ _ _ h _ _=>h) ?_ ?_
 ·intro V W K A hW hR hd hA hK
  obtain rfl:=hA;have h6:(λv _=>v=.pointer (some ⟨g2,c*7,none⟩)) (V 6) W:=hd 6 w7_6;exact Aa u7 (GL (by omega) p7 ((G V 6 _ (by omega) d6 (by omega)).trans h6)) (hK.out _ _ (RStep.re _) rfl)
 refine Am (Va (λu=>∃b:Bool,u=.bool b)) I9 ?_ ?_
 ·intro V W K A hW hR hd hA hK
  obtain rfl:=hA;have h7:(λv _=>v=.pointer (some ⟨g2,c*7+5,none⟩)) (V 7) W:=hd 7 w8_7;obtain⟨y,hy⟩:∃y,B.cps[c]?=some y:=⟨B.cps[c],by simp[hs]⟩;have hc:=(hu.go hW hR).row.cps.cell (BW (c:=Cp.cells) (n:=7) (λ_=>rfl) B.cps c y 5 (.bool y.ending) hy rfl);exact Aa u8 (ld_bool p8 ((G V 7 _ (by omega) d7 (by omega)).trans h7) hc) (hK.out _ _ (RStep.re _) ⟨_,rfl⟩)
 refine Am (Va (λu=>∃b:Bool,u=.bool b)) I9 ?_ ?_
 ·intro V W K A hW hR hd hA hK
  obtain rfl:=hA;have h8:(Va (λu=>∃b:Bool,u=.bool b)) (V 8) W:=hd 8 w9_8;obtain⟨z,h8⟩:=h8;exact Aa u9 (Nm p9 ((G V 8 _ (by omega) d8 (by omega)).trans h8)) (hK.out _ _ (RStep.re _) ⟨_,rfl⟩)
 refine Am (λv _=>v=.pointer (some ⟨g2,c*7,none⟩)) (λ_ _ _ h _ _=>h) ?_ ?_
 ·intro V W K A hW hR hd hA hK
  obtain rfl:=hA;have h1:(λv _=>v=.slice (ad g2) B.cps.length k2) (V 1) W:=hd 1 w10_1;have h2:(λv _=>v=.int .i64 c) (V 2) W:=hd 2 w10_2;exact Aa u10 (G1 p10 ((G V 1 _ (by omega) d1 (by omega)).trans h1) ((G V 2 _ (by omega) d2 (by omega)).trans h2) hs) (hK.out _ _ (RStep.re _) rfl)
 refine Am (λv _=>v=.pointer (some ⟨g2,c*7+5,none⟩)) (λ_ _ _ h _ _=>h) ?_ ?_
 ·intro V W K A hW hR hd hA hK
  obtain rfl:=hA;have h10:(λv _=>v=.pointer (some ⟨g2,c*7,none⟩)) (V 10) W:=hd 10 w11_10;exact Aa u11 (GL (by omega) p11 ((G V 10 _ (by omega) d10 (by omega)).trans h10)) (hK.out _ _ (RStep.re _) rfl)
 intro V W A hW hR hS hA;obtain rfl:=hA;have hP:V 11=_:=hS 11 (by omega);have hV:∃b:Bool,V 9=.bool b:=hS 9 (by omega);obtain⟨v1,v2⟩:=one_B _ hV;have hU:=hu.go hW (hR.mono (show q+((12*1:Nat):Int)<=q+20 by omega));refine At u12 4 _ _ p12 g2 (c*7+5) (V 9) ((G V 11 _ (by omega) d11 (by omega)).trans hP) (G V 9 _ (by omega) d9 (by omega)) KC v1 v2 35 7 _ _ _ hU.row.cps (Ff hs (by omega)) ?_;intro w' hr on;rw[d12];exact hQ _ _ (hf.kept ⟨λs hs=>hold V s hs,Bq 12,BZ 12⟩) (hU.cp OO hV (by omega) hs hr.out on)
end Go.Proofs.Ytbceafpodamnfaa
