import Derived.Test.YtbceafpodamnfaaH52
set_option linter.all false
set_option maxHeartbeats 1000000
namespace Go.Proofs.Ytbceafpodamnfaa
attribute [local simp] svV cpV zbV czV aaV ctZ ad bkV ctV acV evV
attribute [local go_sem] svV cpV zbV czV aaV ctZ ad bkV ctV acV evV
open Go.RowKit Go.Sort
theorem Gs{P:Program}{ops:Array Oper}{Q:Exit->Act->World->Prop}{o:Oper}{rest:List Oper}{A:Act}{W:World}{v:Value}{d j dj:Nat}{b:Bool}(hg:o.guard=some (j,b))(hj:(ops[j]?).bind (·.dst)=some dj)(hjs:dj<A.tmps.size)(c:Bool)(hv:A.eval (.tmp dj)=.bool c)(hd:o.dst=some d)(hs:d<A.tmps.size)(hr:c=b->(execOp A.eval o).run P W=.ok (.value v) W)(h:∀A',One d A A'->(c=b->A'.eval (.tmp d)=v)->wpList P ops Q rest A' W):wpList P ops Q (o::rest) A W:=by
 have hy:yielded ops A.tmps j=some c:=by
  unfold yielded;rw[hj];have h1:A.tmps.getD dj undef=.bool c:=hv;rw[Array.getD_eq_getD_getElem?]at h1;show(match A.tmps[dj]? with|some (.bool b)=>some b|_=>none)=some c;rw[Array.getElem?_eq_getElem hjs]at h1 ⊢;have h2:A.tmps[dj]=.bool c:=h1;rw[h2]
 by_cases hcb:c=b
 ·refine wpList_step λK hK=>?_
  have hw:Region.wanted o (yielded ops A.tmps)=true:=by unfold Region.wanted;rw[hg];simp[hy,hcb]
  rw[hw];show o.wp P A W K Q;unfold Oper.wp;rw[hr hcb];exact hK _ _ (by rw[hd];exact h _ (E7 A d v) λ_=>Ef A v hs)
 ·refine wpList_skip ?_ (by rw[hd];exact h _ (E7 A d undef) λh'=>absurd h' hcb)
  unfold Region.wanted;rw[hg];simp[hy,hcb]
structure GaF(x nv:Nat)(sv:ByteArray)(num:Int)(k:Nat)(a:Act):Prop where
 e3:a.eval (.tmp 3)=.pointer (ad x)
 e4:a.eval (.tmp 4)=.string sv
 e5:a.eval (.tmp 5)=.int .i64 num
 e7:a.eval (.tmp 7)=.pointer (ad nv)
 e10:a.eval (.tmp 10)=.int .i64 k
 sz:a.tmps.size=116
 df:a.defers=[]
theorem GaF.one{x nv:Nat}{sv:ByteArray}{num:Int}{k d:Nat}{a a':Act}(h:GaF x nv sv num k a)(q:One d a a')(hd:(d==3||d==4||d==5||d==7||d==10)=false):GaF x nv sv num k a':=by
 simp only[Bool.or_eq_false_iff,beq_eq_false_iff_ne]at hd;obtain⟨⟨⟨⟨h3,h4⟩,h5⟩,h7⟩,h10⟩:=hd;exact⟨(q.1 3 (Ne.symm h3)).trans h.e3,(q.1 4 (Ne.symm h4)).trans h.e4,(q.1 5 (Ne.symm h5)).trans h.e5,(q.1 7 (Ne.symm h7)).trans h.e7,(q.1 10 (Ne.symm h10)).trans h.e10,q.2.1.trans h.sz,q.2.2.trans h.df⟩
section
variable {ρ:Operand->Value} {o:Oper} {W:World} {x y z:Operand}
theorem run_eqS{s t:ByteArray}(h:o.op=.binOp .eql 9 x y 9)(hx:ρ x=.string s)(hy:ρ y=.string t):(execOp ρ o).run Try.prog W=.ok (.value (.bool (s.toList==t.toList))) W:=by
 simp[execOp,h,hx,hy,go_sem]
theorem run_neI{s t:Int}(h:o.op=.binOp .neq 3 x y 3)(hx:ρ x=.int .i64 s)(hy:ρ y=.int .i64 t):(execOp ρ o).run Try.prog W=.ok (.value (.bool (s !=t))) W:=by
 simp[execOp,h,hx,hy,go_sem]
theorem Nl{c d:Bool}(hf:ρ (.const (.bool false))=.bool false)(h:o.op=.pick x y (.const (.bool false)))(hx:ρ x=.bool c)(hy:c=true->ρ y=.bool d):(execOp ρ o).run Try.prog W=.ok (.value (.bool (c&&d))) W:=by
 cases c
 ·simp[execOp,h,hx,hf,go_sem]
 ·simp[execOp,h,hx,hy rfl,go_sem]
theorem OR(h:o.op=.alloc 27):(execOp ρ o).run Try.prog W=.ok (.value (.pointer (some ⟨W.heap.size,0,none⟩))) (W.alloc (.cells zbV 27)):=by
 simp[execOp,h,go_sem]
theorem M2(h:o.op=.buildSlice 24 0 #[]):(execOp ρ o).run Try.prog W=.ok (.value (.slice (some ⟨W.heap.size,0,none⟩) 0 0)) (W.alloc (.cells #[] 35)):=by
 simp[execOp,h,go_sem]
theorem run_may{u v t:Value}(hf:ρ (.func 8)=.func (.func 8) #[] #[])(h:o.op=.call {callee:=.value (.func 8),args:=#[x,y,z],argTypes:=#[27,9,3]})(hx:ρ x=u)(hy:ρ y=v)(hz:ρ z=t):(execOp ρ o).run Try.prog W=.ok (.enter 8 #[u,v,t]) W:=by
 simp[execOp,h,hx,hy,hz,hf,go_sem]
theorem OV{b:Nat}(h:o.op=.fieldAddr 32 x 0)(hx:ρ x=.pointer (ad b)):(execOp ρ o).run Try.prog W=.ok (.value (.pointer (ad b))) W:=by
 simp[execOp,h,hx,go_sem]
theorem run_geq{s:Int}(hc:ρ (.const (.int .i64 1))=.int .i64 1)(h:o.op=.binOp .geq 3 x (.const (.int .i64 1)) 3)(hx:ρ x=.int .i64 s):(execOp ρ o).run Try.prog W=.ok (.value (.bool (decide (1<=s)))) W:=by
 simp[execOp,h,hx,hc,go_sem]
end
theorem ga_R18{o0 o1 o2 o3 o4:Oper}(hsh:[o0,o1,o2,o3,o4].map (λo=>(o.dst,o.op,o.guard))=[(some 70,.move (.tmp 10),none),(some 71,.fieldAddr 27 (.tmp 3) 2,none),(some 72,.load 24 (.tmp 71),none),(some 73,.call {callee:=.builtin .len,args:=#[.tmp 72],argTypes:=#[24]},none),(some 74,.binOp .lss 3 (.tmp 70) (.tmp 73) 3,none)])
  {x nv k id:Nat} {sv:ByteArray} {num:Int} {a:Act} {Q:Exit->Act->World->Prop} (hf:GaF x nv sv num k a) {B:Bk} {a1 a2 a3:Option Addr} {c1 c2 c3:Nat} {w:World} (VX:Bl w x (bkV B a1 c1 a2 c2 a3 c3) 27) (hQ:∀a',GaF x nv sv num k a'->a'.eval (.tmp 74)=.bool (decide ((k:Int)<B.cps.length))->Q .normal a' w):
  (Code.region id [o0,o1,o2,o3,o4].toArray false).wp Try.prog Q a w:=by
 simp only[List.map_cons,List.map_nil,List.cons.injEq,Prod.mk.injEq,and_true]at hsh;obtain⟨⟨d0,p0,u0⟩,⟨d1,p1,u1⟩,⟨d2,p2,u2⟩,⟨d3,p3,u3⟩,d4,p4,u4⟩:=hsh;have z0:=hf.sz;refine wp_region_lit ?_;refine Aj u0 d0 (by omega) (BG p0 (hf.e10)) λA1 q1 s1=>?_
 have z1:=q1.2.1;refine Aj u1 d1 (by omega) (Ar (by decide) p1 ((q1.1 _ (by decide)).trans (hf.e3))) λA2 q2 s2=>?_
 have z2:=q2.2.1;refine Aj u2 d2 (by omega) (Dd p2 (s2) (AK VX 2 rfl)) λA3 q3 s3=>?_
 have z3:=q3.2.1;refine Aj u3 d3 (by omega) (H9 p3 (s3)) λA4 q4 s4=>?_
 have z4:=q4.2.1;refine Aj u4 d4 (by omega) (Nn p4 ((q4.1 _ (by decide)).trans ((q3.1 _ (by decide)).trans ((q2.1 _ (by decide)).trans (s1)))) (s4)) λA5 q5 s5=>?_
 have z5:=q5.2.1;exact hQ _ ((((((hf).one q1 rfl).one q2 rfl).one q3 rfl).one q4 rfl).one q5 rfl) s5
theorem ga_R20{o0 o1 o2 o3 o4 o5 o6:Oper}(hsh:[o0,o1,o2,o3,o4,o5,o6].map (λo=>(o.dst,o.op,o.guard))=[(some 77,.fieldAddr 27 (.tmp 3) 2,none),(some 78,.load 24 (.tmp 77),none),(some 79,.move (.tmp 10),none),(some 80,.indexAddr 24 (.tmp 78) (.tmp 79),none),(some 81,.load 35 (.tmp 80),none),(some 11,.alloc 35,none),(none,.store 35 (.tmp 11) (.tmp 81),none)])
  {x nv k id:Nat} {sv:ByteArray} {num:Int} {a:Act} {Q:Exit->Act->World->Prop} (hf:GaF x nv sv num k a) {B:Bk} {a1 a3:Option Addr} {b off c1 c2 c3:Nat} {s:Cp} {w:World} (VX:Bl w x (bkV B a1 c1 (some ⟨b,off,none⟩) c2 a3 c3) 27) (hlt:k<B.cps.length) (hs:CpAt w b (off+k*7) s) (hQ:∀a' w',GaF x nv sv num k a'->a'.eval (.tmp 11)=.pointer (some ⟨w.heap.size,0,none⟩)->Bl w' (w.heap.size) (cpV s) 35->Below w.heap.size w w'->Q .normal a' w'):
  (Code.region id [o0,o1,o2,o3,o4,o5,o6].toArray false).wp Try.prog Q a w:=by
 simp only[List.map_cons,List.map_nil,List.cons.injEq,Prod.mk.injEq,and_true]at hsh;obtain⟨⟨d0,p0,u0⟩,⟨d1,p1,u1⟩,⟨d2,p2,u2⟩,⟨d3,p3,u3⟩,⟨d4,p4,u4⟩,⟨d5,p5,u5⟩,d6,p6,u6⟩:=hsh;have z0:=hf.sz;refine wp_region_lit ?_;refine Aj u0 d0 (by omega) (Ar (by decide) p0 (hf.e3)) λA1 q1 s1=>?_
 have z1:=q1.2.1;refine Aj u1 d1 (by omega) (Dd p1 (s1) (AK VX 2 rfl)) λA2 q2 s2=>?_
 have z2:=q2.2.1;refine Aj u2 d2 (by omega) (BG p2 ((q2.1 _ (by decide)).trans ((q1.1 _ (by decide)).trans (hf.e10)))) λA3 q3 s3=>?_
 have z3:=q3.2.1;refine Aj u3 d3 (by omega) (Nz p3 ((q3.1 _ (by decide)).trans (s2)) (s3) hlt) λA4 q4 s4=>?_
 have z4:=q4.2.1;refine Aj u4 d4 (by omega) (JH p4 (s4) hs) λA5 q5 s5=>?_
 have z5:=q5.2.1;refine Aj u5 d5 (by omega) (K4 p5) λA6 q6 s6=>?_
 have z6:=q6.2.1;refine AM u6 35 _ _ p6 w.heap.size 0 (cpV s) (s6) ((q6.1 _ (by decide)).trans (s5)) 35 _ (heap_alloc_new w _) Dq (AD rfl) (by simp[Value.oneCell']) ?_;intro w' hz on;rw[d6];exact hQ _ _ (((((((hf).one q1 rfl).one q2 rfl).one q3 rfl).one q4 rfl).one q5 rfl).one q6 rfl) s6 hz.out ((AO w _).trans (on.below.mono (AG _)))
theorem ga_R21{o0 o1 o2 o3 o4 o5 o6 o7 o8 o9 o10 o11 o12 o13 o14:Oper}(hsh:[o0,o1,o2,o3,o4,o5,o6,o7,o8,o9,o10,o11,o12,o13,o14].map (λo=>(o.dst,o.op,o.guard))=[(some 82,.fieldAddr 35 (.tmp 11) 0,none),(some 83,.load 9 (.tmp 82),none),(some 84,.move (.tmp 4),none),(some 85,.binOp .eql 9 (.tmp 83) (.tmp 84) 9,none),(some 86,.move (.tmp 85),none),(some 87,.fieldAddr 35 (.tmp 11) 1,some (4,true)),(some 88,.load 3 (.tmp 87),some (4,true)),(some 89,.move (.tmp 5),some (4,true)),(some 90,.binOp .neq 3 (.tmp 88) (.tmp 89) 3,some (4,true)),(some 91,.pick (.tmp 86) (.tmp 90) (.const (.bool false)),none),(some 92,.move (.tmp 91),none),(some 93,.fieldAddr 35 (.tmp 11) 4,some (10,true)),(some 94,.load 3 (.tmp 93),some (10,true)),(some 95,.binOp .eql 3 (.tmp 94) (.const (.int .i64 2)) 3,some (10,true)),(some 96,.pick (.tmp 92) (.tmp 95) (.const (.bool false)),none)])
  {x nv k id:Nat} {sv:ByteArray} {num:Int} {a:Act} {Q:Exit->Act->World->Prop} (hf:GaF x nv sv num k a) {s:Cp} {ov:Nat} {w:World} (e11:a.eval (.tmp 11)=.pointer (ad ov)) (hV:Bl w ov (cpV s) 35) (hQ:∀a',GaF x nv sv num k a'->a'.eval (.tmp 96)=.bool ((s.service.toList==sv.toList)&&(s.number !=num)&&(s.state==2))->Q .normal a' w):
  (Code.region id [o0,o1,o2,o3,o4,o5,o6,o7,o8,o9,o10,o11,o12,o13,o14].toArray false).wp Try.prog Q a w:=by
 simp only[List.map_cons,List.map_nil,List.cons.injEq,Prod.mk.injEq,and_true]at hsh;obtain⟨⟨d0,p0,u0⟩,⟨d1,p1,u1⟩,⟨d2,p2,u2⟩,⟨d3,p3,u3⟩,⟨d4,p4,u4⟩,⟨d5,p5,u5⟩,⟨d6,p6,u6⟩,⟨d7,p7,u7⟩,⟨d8,p8,u8⟩,⟨d9,p9,u9⟩,⟨d10,p10,u10⟩,⟨d11,p11,u11⟩,⟨d12,p12,u12⟩,⟨d13,p13,u13⟩,d14,p14,u14⟩:=hsh;have z0:=hf.sz;refine wp_region_lit ?_;refine Aj u0 d0 (by omega) (GL (by decide) p0 e11) λA1 q1 s1=>?_
 have z1:=q1.2.1;refine Aj u1 d1 (by omega) (Gy p1 (s1) (AK hV 0 rfl)) λA2 q2 s2=>?_
 have z2:=q2.2.1;refine Aj u2 d2 (by omega) (BG p2 ((q2.1 _ (by decide)).trans ((q1.1 _ (by decide)).trans (hf.e4)))) λA3 q3 s3=>?_
 have z3:=q3.2.1;refine Aj u3 d3 (by omega) (run_eqS p3 ((q3.1 _ (by decide)).trans (s2)) (s3)) λA4 q4 s4=>?_
 have z4:=q4.2.1;refine Aj u4 d4 (by omega) (BG p4 (s4)) λA5 q5 s5=>?_
 have z5:=q5.2.1;refine Gs u5 (show _=some 86 from d4) (by omega) (s.service.toList==sv.toList) (s5) d5 (by omega) (λhc=>GL (by decide) p5 ((q5.1 _ (by decide)).trans ((q4.1 _ (by decide)).trans ((q3.1 _ (by decide)).trans ((q2.1 _ (by decide)).trans ((q1.1 _ (by decide)).trans (e11))))))) λA6 q6 s6=>?_
 have z6:=q6.2.1;refine Gs u6 (show _=some 86 from d4) (by omega) (s.service.toList==sv.toList) ((q6.1 _ (by decide)).trans (s5)) d6 (by omega) (λhc=>Dn p6 (s6 hc) (AK hV 1 rfl)) λA7 q7 s7=>?_
 have z7:=q7.2.1;refine Gs u7 (show _=some 86 from d4) (by omega) (s.service.toList==sv.toList) ((q7.1 _ (by decide)).trans ((q6.1 _ (by decide)).trans (s5))) d7 (by omega) (λhc=>BG p7 ((q7.1 _ (by decide)).trans ((q6.1 _ (by decide)).trans ((q5.1 _ (by decide)).trans ((q4.1 _ (by decide)).trans ((q3.1 _ (by decide)).trans ((q2.1 _ (by decide)).trans ((q1.1 _ (by decide)).trans (hf.e5))))))))) λA8 q8 s8=>?_
 have z8:=q8.2.1;refine Gs u8 (show _=some 86 from d4) (by omega) (s.service.toList==sv.toList) ((q8.1 _ (by decide)).trans ((q7.1 _ (by decide)).trans ((q6.1 _ (by decide)).trans (s5)))) d8 (by omega) (λhc=>run_neI p8 ((q8.1 _ (by decide)).trans (s7 hc)) (s8 hc)) λA9 q9 s9=>?_
 have z9:=q9.2.1;refine Aj u9 d9 (by omega) (Nl rfl p9 ((q9.1 _ (by decide)).trans ((q8.1 _ (by decide)).trans ((q7.1 _ (by decide)).trans ((q6.1 _ (by decide)).trans (s5))))) s9) λA10 q10 s10=>?_
 have z10:=q10.2.1;refine Aj u10 d10 (by omega) (BG p10 (s10)) λA11 q11 s11=>?_
 have z11:=q11.2.1;refine Gs u11 (show _=some 92 from d10) (by omega) ((s.service.toList==sv.toList)&&(s.number !=num)) (s11) d11 (by omega) (λhc=>GL (by decide) p11 ((q11.1 _ (by decide)).trans ((q10.1 _ (by decide)).trans ((q9.1 _ (by decide)).trans ((q8.1 _ (by decide)).trans ((q7.1 _ (by decide)).trans ((q6.1 _ (by decide)).trans ((q5.1 _ (by decide)).trans ((q4.1 _ (by decide)).trans ((q3.1 _ (by decide)).trans ((q2.1 _ (by decide)).trans ((q1.1 _ (by decide)).trans (e11))))))))))))) λA12 q12 s12=>?_
 have z12:=q12.2.1;refine Gs u12 (show _=some 92 from d10) (by omega) ((s.service.toList==sv.toList)&&(s.number !=num)) ((q12.1 _ (by decide)).trans (s11)) d12 (by omega) (λhc=>Dn p12 (s12 hc) (AK hV 4 rfl)) λA13 q13 s13=>?_
 have z13:=q13.2.1;refine Gs u13 (show _=some 92 from d10) (by omega) ((s.service.toList==sv.toList)&&(s.number !=num)) ((q13.1 _ (by decide)).trans ((q12.1 _ (by decide)).trans (s11))) d13 (by omega) (λhc=>LR rfl p13 (s13 hc)) λA14 q14 s14=>?_
 have z14:=q14.2.1;refine Aj u14 d14 (by omega) (Nl rfl p14 ((q14.1 _ (by decide)).trans ((q13.1 _ (by decide)).trans ((q12.1 _ (by decide)).trans (s11)))) s14) λA15 q15 s15=>?_
 have z15:=q15.2.1;exact hQ _ ((((((((((((((((hf).one q1 rfl).one q2 rfl).one q3 rfl).one q4 rfl).one q5 rfl).one q6 rfl).one q7 rfl).one q8 rfl).one q9 rfl).one q10 rfl).one q11 rfl).one q12 rfl).one q13 rfl).one q14 rfl).one q15 rfl) s15
theorem ga_R22{o0 o1 o2:Oper}(hsh:[o0,o1,o2].map (λo=>(o.dst,o.op,o.guard))=[(some 97,.load 27 (.tmp 3),none),(some 12,.alloc 27,none),(none,.store 27 (.tmp 12) (.tmp 97),none)])
  {x nv k id:Nat} {sv:ByteArray} {num:Int} {a:Act} {Q:Exit->Act->World->Prop} (hf:GaF x nv sv num k a) {B:Bk} {a1 a3:Option Addr} {b off c1 c2 c3:Nat} {w:World} (VX:Bl w x (bkV B a1 c1 (some ⟨b,off,none⟩) c2 a3 c3) 27) (hQ:∀a' w',GaF x nv sv num k a'->a'.eval (.tmp 12)=.pointer (some ⟨w.heap.size,0,none⟩)->Bl w' (w.heap.size) (bkV B a1 c1 (some ⟨b,off,none⟩) c2 a3 c3) 27->Below w.heap.size w w'->Q .normal a' w'):
  (Code.region id [o0,o1,o2].toArray false).wp Try.prog Q a w:=by
 simp only[List.map_cons,List.map_nil,List.cons.injEq,Prod.mk.injEq,and_true]at hsh;obtain⟨⟨d0,p0,u0⟩,⟨d1,p1,u1⟩,d2,p2,u2⟩:=hsh;have z0:=hf.sz;refine wp_region_lit ?_;refine wpList_load_row u0 27 (.tmp 3) p0 x hf.e3 27 _ (0,0) _ VX Try.underlying27 rfl AT ?_;rw[d0];have q1:=E7 a 97 (.agg (bkV B a1 c1 (some ⟨b,off,none⟩) c2 a3 c3));have s1:(a.put (some 97) (.agg (bkV B a1 c1 (some ⟨b,off,none⟩) c2 a3 c3))).eval (.tmp 97)=_:=Ef _ _ (by omega);generalize a.put (some 97) (.agg (bkV B a1 c1 (some ⟨b,off,none⟩) c2 a3 c3))=A1 at q1 s1 ⊢;have z1:=q1.2.1;refine Aj u1 d1 (by omega) (OR p1) λA2 q2 s2=>?_
 have z2:=q2.2.1;refine AM u2 27 _ _ p2 w.heap.size 0 (bkV B a1 c1 (some ⟨b,off,none⟩) c2 a3 c3) (s2) ((q2.1 _ (by decide)).trans (s1)) 27 _ (heap_alloc_new w _) AT (AD rfl) (by simp[Value.oneCell']) ?_;intro w' hz on;rw[d2];exact hQ _ _ (((hf).one q1 rfl).one q2 rfl) s2 hz.out ((AO w _).trans (on.below.mono (AG _)))
theorem ga_R23{o0 o1 o2 o3 o4 o5:Oper}(hsh:[o0,o1,o2,o3,o4,o5].map (λo=>(o.dst,o.op,o.guard))=[(some 98,.buildSlice 24 0 #[],none),(some 99,.fieldAddr 27 (.tmp 3) 2,none),(some 100,.load 24 (.tmp 99),none),(some 101,.call {callee:=.builtin .append,args:=#[.tmp 98,.tmp 100],argTypes:=#[24,24]},none),(some 102,.fieldAddr 27 (.tmp 12) 2,none),(none,.store 24 (.tmp 102) (.tmp 101),none)])
  {x nv k id:Nat} {sv:ByteArray} {num:Int} {a:Act} {Q:Exit->Act->World->Prop} (hf:GaF x nv sv num k a) {B:Bk} {a1 a3:Option Addr} {b off c1 c2 c3:Nat} {xv:Nat} {w:World} (e12:a.eval (.tmp 12)=.pointer (ad xv)) (VX:Bl w x (bkV B a1 c1 (some ⟨b,off,none⟩) c2 a3 c3) 27) (VY:Bl w xv (bkV B a1 c1 (some ⟨b,off,none⟩) c2 a3 c3) 27) (hl:B.cps.length<=1048576) (hB:BkAt w a1 (some ⟨b,off,none⟩) a3 B) (hQ:∀a' w' g' cap',GaF x nv sv num k a'->a'.eval (.tmp 12)=.pointer (ad xv)->Bl w' xv (bkV B a1 c1 (ad g') cap' a3 c3) 27->RowIs w' 35 7 g' B.cps.length cap' (Ag B.cps)->w.heap.size<=g'->Below xv w w'->Q .normal a' w'):
  (Code.region id [o0,o1,o2,o3,o4,o5].toArray false).wp Try.prog Q a w:=by
 simp only[List.map_cons,List.map_nil,List.cons.injEq,Prod.mk.injEq,and_true]at hsh;obtain⟨⟨d0,p0,u0⟩,⟨d1,p1,u1⟩,⟨d2,p2,u2⟩,⟨d3,p3,u3⟩,⟨d4,p4,u4⟩,d5,p5,u5⟩:=hsh;have z0:=hf.sz;have hb1:Below w.heap.size w (w.alloc (.cells #[] 35)):=AO _ _;have VX1:=Ai hb1 VX;have hB1:=hB.below hb1;refine wp_region_lit ?_;refine Aj u0 d0 (by omega) (M2 p0) λA1 q1 s1=>?_
 have z1:=q1.2.1;refine Aj u1 d1 (by omega) (Ar (by decide) p1 ((q1.1 _ (by decide)).trans (hf.e3))) λA2 q2 s2=>?_
 have z2:=q2.2.1;refine Aj u2 d2 (by omega) (Dd p2 (s2) (AK VX1 2 rfl)) λA3 q3 s3=>?_
 have z3:=q3.2.1;refine BC u3 (.tmp 98) (.tmp 100) 24 p3 35 _ 7 72 Try.underlying24 DI rfl w.heap.size ((q3.1 _ (by decide)).trans ((q2.1 _ (by decide)).trans (s1))) (heap_alloc_new w _) (some ⟨b,off,none⟩) B.cps.length c2 (Ag B.cps) (s3) (Hq _) (hB1.2.1.src) (Hp _) (by unfold maxLen;omega) (by omega) ?_;intro g' cap' w2 hg' hrow hb2;have hgg:w.heap.size<=g':=by rcases hg' with h|h;omega;have:=hb1.size;omega
 have hb12:Below w.heap.size w w2:=hb1.trans (hb2.mono hb1.size);rw[d3];have q4:=E7 A3 101 (.slice (ad g') B.cps.length cap');have s4:(A3.put (some 101) (.slice (ad g') B.cps.length cap')).eval (.tmp 101)=_:=Ef _ _ (by omega);generalize A3.put (some 101) (.slice (ad g') B.cps.length cap')=A4 at q4 s4 ⊢;have z4:=q4.2.1;refine Aj u4 d4 (by omega) (Ar (by decide) p4 ((q4.1 _ (by decide)).trans ((q3.1 _ (by decide)).trans ((q2.1 _ (by decide)).trans ((q1.1 _ (by decide)).trans (e12)))))) λA5 q5 s5=>?_
 have z5:=q5.2.1;refine AP u5 24 _ _ p5 xv 2 (.slice (ad g') B.cps.length cap') (s5) ((q5.1 _ (by decide)).trans (s4)) C6 rfl rfl 27 _ (Ai hb12 VY) (AD rfl) ?_;intro w' hz on;rw[d5];have hxl:=(AB VY).1;exact hQ _ _ g' cap' ((((((hf).one q1 rfl).one q2 rfl).one q3 rfl).one q4 rfl).one q5 rfl) ((q5.1 _ (by decide)).trans ((q4.1 _ (by decide)).trans ((q3.1 _ (by decide)).trans ((q2.1 _ (by decide)).trans ((q1.1 _ (by decide)).trans (e12)))))) hz.out (hrow.out.blk (on.other _ (by omega))) hgg ((hb12.mono (by omega)).trans (on.below.mono (AG _)))
theorem ga_R24{o0 o1 o2 o3 o4 o5:Oper}(hsh:[o0,o1,o2,o3,o4,o5].map (λo=>(o.dst,o.op,o.guard))=[(some 103,.fieldAddr 27 (.tmp 12) 2,none),(some 104,.load 24 (.tmp 103),none),(some 105,.move (.tmp 10),none),(some 106,.indexAddr 24 (.tmp 104) (.tmp 105),none),(some 107,.fieldAddr 35 (.tmp 106) 4,none),(none,.store 3 (.tmp 107) (.const (.int .i64 3)),none)])
  {x nv k id:Nat} {sv:ByteArray} {num:Int} {a:Act} {Q:Exit->Act->World->Prop} (hf:GaF x nv sv num k a) {B:Bk} {a1 a3:Option Addr} {xv g' cap' c1 c3:Nat} {w:World} (e12:a.eval (.tmp 12)=.pointer (ad xv)) (VY:Bl w xv (bkV B a1 c1 (ad g') cap' a3 c3) 27) (hlt:k<B.cps.length) (hR:RowIs w 35 7 g' B.cps.length cap' (Ag B.cps)) (hQ:∀a' w',GaF x nv sv num k a'->a'.eval (.tmp 12)=.pointer (ad xv)->RowIs w' 35 7 g' B.cps.length cap' (splice (Ag B.cps) (k*7+4) [.int .i64 3])->Bj g' w w'->Q .normal a' w'):
  (Code.region id [o0,o1,o2,o3,o4,o5].toArray false).wp Try.prog Q a w:=by
 simp only[List.map_cons,List.map_nil,List.cons.injEq,Prod.mk.injEq,and_true]at hsh;obtain⟨⟨d0,p0,u0⟩,⟨d1,p1,u1⟩,⟨d2,p2,u2⟩,⟨d3,p3,u3⟩,⟨d4,p4,u4⟩,d5,p5,u5⟩:=hsh;have z0:=hf.sz;refine wp_region_lit ?_;refine Aj u0 d0 (by omega) (Ar (by decide) p0 e12) λA1 q1 s1=>?_
 have z1:=q1.2.1;refine Aj u1 d1 (by omega) (Dd p1 (s1) (AK VY 2 rfl)) λA2 q2 s2=>?_
 have z2:=q2.2.1;refine Aj u2 d2 (by omega) (BG p2 ((q2.1 _ (by decide)).trans ((q1.1 _ (by decide)).trans (hf.e10)))) λA3 q3 s3=>?_
 have z3:=q3.2.1;refine Aj u3 d3 (by omega) (G1 p3 ((q3.1 _ (by decide)).trans (s2)) (s3) hlt) λA4 q4 s4=>?_
 have z4:=q4.2.1;refine Aj u4 d4 (by omega) (GL (by decide) p4 (s4)) λA5 q5 s5=>?_
 have z5:=q5.2.1;refine At u5 3 _ _ p5 g' (k*7+4) (.int .i64 3) (s5) rfl Bs rfl rfl 35 7 _ _ _ hR (Ff hlt (by decide)) ?_;intro w' hz on;rw[d5];exact hQ _ _ ((((((hf).one q1 rfl).one q2 rfl).one q3 rfl).one q4 rfl).one q5 rfl) ((q5.1 _ (by decide)).trans ((q4.1 _ (by decide)).trans ((q3.1 _ (by decide)).trans ((q2.1 _ (by decide)).trans ((q1.1 _ (by decide)).trans (e12)))))) hz.out on
theorem ga_R25{o0 o1 o2 o3 o4:Oper}(hsh:[o0,o1,o2,o3,o4].map (λo=>(o.dst,o.op,o.guard))=[(some 108,.load 27 (.tmp 12),none),(some 109,.move (.tmp 4),none),(some 110,.move (.tmp 5),none),(some 111,.call {callee:=.value (.func 8),args:=#[.tmp 108,.tmp 109,.tmp 110],argTypes:=#[27,9,3]},none),(some 112,.unOp .not 4 (.tmp 111),none)])
  {x nv k id:Nat} {sv:ByteArray} {num:Int} {a:Act} {Q:Exit->Act->World->Prop} (hf:GaF x nv sv num k a) {B:Bk} {a1 a3:Option Addr} {xv g' cap' c1 c3:Nat} {w:World} (e12:a.eval (.tmp 12)=.pointer (ad xv)) (VY:Bl w xv (bkV B a1 c1 (ad g') cap' a3 c3) 27) (hC:Calls Try.prog 8 #[.agg (bkV B a1 c1 (ad g') cap' a3 c3),.string sv,.int .i64 num] w λe w'=>e=.returned (.bool true)/\Below w.heap.size w w') (hQ:∀a' w',GaF x nv sv num k a'->a'.eval (.tmp 112)=.bool false->Below w.heap.size w w'->Q .normal a' w'):
  (Code.region id [o0,o1,o2,o3,o4].toArray false).wp Try.prog Q a w:=by
 simp only[List.map_cons,List.map_nil,List.cons.injEq,Prod.mk.injEq,and_true]at hsh;obtain⟨⟨d0,p0,u0⟩,⟨d1,p1,u1⟩,⟨d2,p2,u2⟩,⟨d3,p3,u3⟩,d4,p4,u4⟩:=hsh;have z0:=hf.sz;refine wp_region_lit ?_;refine wpList_load_row u0 27 (.tmp 12) p0 xv e12 27 _ (0,0) _ VY Try.underlying27 rfl AT ?_;rw[d0];have q1:=E7 a 108 (.agg (bkV B a1 c1 (ad g') cap' a3 c3));have s1:(a.put (some 108) (.agg (bkV B a1 c1 (ad g') cap' a3 c3))).eval (.tmp 108)=_:=Ef _ _ (by omega);generalize a.put (some 108) (.agg (bkV B a1 c1 (ad g') cap' a3 c3))=A1 at q1 s1 ⊢;have z1:=q1.2.1;refine Aj u1 d1 (by omega) (BG p1 ((q1.1 _ (by decide)).trans (hf.e4))) λA2 q2 s2=>?_
 have z2:=q2.2.1;refine Aj u2 d2 (by omega) (BG p2 ((q2.1 _ (by decide)).trans ((q1.1 _ (by decide)).trans (hf.e5)))) λA3 q3 s3=>?_
 have z3:=q3.2.1;refine Ks u3 (run_may rfl p3 ((q3.1 _ (by decide)).trans ((q2.1 _ (by decide)).trans (s1))) ((q3.1 _ (by decide)).trans (s2)) (s3)) (hC.mono ?_);rintro e w2 ⟨rfl,hb2⟩;refine⟨_,rfl,?_⟩;rw[d3];have q4:=E7 A3 111 (.bool true);have s4:(A3.put (some 111) (.bool true)).eval (.tmp 111)=_:=Ef _ _ (by omega);generalize A3.put (some 111) (.bool true)=A4 at q4 s4 ⊢;have z4:=q4.2.1;refine Aj u4 d4 (by omega) (Nm p4 (s4)) λA5 q5 s5=>?_
 have z5:=q5.2.1;exact hQ _ _ ((((((hf).one q1 rfl).one q2 rfl).one q3 rfl).one q4 rfl).one q5 rfl) s5 hb2
theorem ga_R19{o0 o1 o2:Oper}(hsh:[o0,o1,o2].map (λo=>(o.dst,o.op,o.guard))=[(some 75,.move (.tmp 10),none),(some 76,.binOp .add 3 (.tmp 75) (.const (.int .i64 1)) 3,none),(some 10,.assign (.tmp 76),none)])
  {x nv k id:Nat} {sv:ByteArray} {num:Int} {a:Act} {Q:Exit->Act->World->Prop} (hf:GaF x nv sv num k a) {w:World} (hk:k<=1048576) (hQ:∀a',GaF x nv sv num (k+1) a'->Q .normal a' w):
  (Code.region id [o0,o1,o2].toArray false).wp Try.prog Q a w:=by
 simp only[List.map_cons,List.map_nil,List.cons.injEq,Prod.mk.injEq,and_true]at hsh;obtain⟨⟨d0,p0,u0⟩,⟨d1,p1,u1⟩,d2,p2,u2⟩:=hsh;have z0:=hf.sz;refine wp_region_lit ?_;refine Aj u0 d0 (by omega) (BG p0 (hf.e10)) λA1 q1 s1=>?_
 have z1:=q1.2.1;refine Aj u1 d1 (by omega) (Ir rfl p1 (s1)) λA2 q2 s2=>?_
 have z2:=q2.2.1;refine Aj u2 d2 (by omega) (Da p2 (s2)) λA3 q3 s3=>?_
 have z3:=q3.2.1;have e:=hf.one q1 rfl |>.one q2 rfl
 have hw:IntKind.wrap .i64 ((k:Int)+1)=(k:Int)+1:=by
  simp only[IntKind.wrap,IntKind.signed,IntKind.bits,Bool.true_and]
  split<;>(rename_i h;simp at h;omega)
 rw[hw,show(k:Int)+1=((k+1:Nat):Int) by omega]at s3;exact hQ _ ⟨(q3.1 3 (by decide)).trans e.e3,(q3.1 4 (by decide)).trans e.e4,(q3.1 5 (by decide)).trans e.e5,(q3.1 7 (by decide)).trans e.e7,s3,q3.2.1.trans e.sz,q3.2.2.trans e.df⟩
theorem ga_R27{o0 o1 o2 o3:Oper}(hsh:[o0,o1,o2,o3].map (λo=>(o.dst,o.op,o.guard))=[(some 113,.fieldAddr 32 (.tmp 7) 0,none),(some 114,.load 3 (.tmp 113),none),(some 115,.binOp .geq 3 (.tmp 114) (.const (.int .i64 1)) 3,none),(some 2,.assign (.tmp 115),none)])
  {x nv k id:Nat} {sv:ByteArray} {num:Int} {a:Act} {Q:Exit->Act->World->Prop} (hf:GaF x nv sv num k a) {w:World} {lv:Int} (hc0:w.cell? ⟨nv,0,none⟩=some (.int .i64 lv)) (hlv:1<=lv) (hQ:∀a',a'.eval (.tmp 2)=.bool true->a'.defers=[]->Q .normal a' w):
  (Code.region id [o0,o1,o2,o3].toArray false).wp Try.prog Q a w:=by
 simp only[List.map_cons,List.map_nil,List.cons.injEq,Prod.mk.injEq,and_true]at hsh;obtain⟨⟨d0,p0,u0⟩,⟨d1,p1,u1⟩,⟨d2,p2,u2⟩,d3,p3,u3⟩:=hsh;have z0:=hf.sz;refine wp_region_lit ?_;refine Aj u0 d0 (by omega) (OV p0 (hf.e7)) λA1 q1 s1=>?_
 have z1:=q1.2.1;refine Aj u1 d1 (by omega) (Dn p1 (s1) hc0) λA2 q2 s2=>?_
 have z2:=q2.2.1;refine Aj u2 d2 (by omega) (run_geq rfl p2 (s2)) λA3 q3 s3=>?_
 have z3:=q3.2.1;refine Aj u3 d3 (by omega) (Da p3 (s3)) λA4 q4 s4=>?_
 have z4:=q4.2.1;exact hQ _ (s4.trans (by simp[hlv])) (q4.2.2.trans ((hf.one q1 rfl).one q2 rfl |>.one q3 rfl).df)
end Go.Proofs.Ytbceafpodamnfaa
