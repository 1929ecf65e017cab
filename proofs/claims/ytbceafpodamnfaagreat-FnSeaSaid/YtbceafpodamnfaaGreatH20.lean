import Derived.Test.YtbceafpodamnfaaGreatH01
import Derived.Test.YtbceafpodamnfaaGreatH08
import Derived.Test.YtbceafpodamnfaaGreatH19
set_option linter.all false
set_option maxHeartbeats 8000000
set_option maxRecDepth 100000
namespace Go.Proofs.YtbceafpodamnfaaGreat
section
open Go.RowKit
def Cl(P:List Bk)(B:Bk)(i:Nat):Bool:=match P[i]? with
 |none=>false
 |some b=>AX b&&decide (b.now<=B.now)&&(match i with|0=>true|j+1=>match P[j]? with|none=>false|some p=>decide (p.now<=b.now))
def EJ(P:List Bk)(B:Bk):Bool:=AX B&&decide (P.length<=8)&&BH (Cl P B) P.length
end
section
open Go.RowKit Go.Sort
theorem Ie{l:List Bx}{B:Bk}{k:Nat}(hk:k<l.length)(h:Cl (l.map (·.b)) B k=false):EJ (l.map (·.b)) B=false:=by
 unfold EJ;rw[Al (by simpa using hk) h,Bool.and_false]
theorem map_at{l:List Bx}{k:Nat}{s:Bx}(h:l[k]?=some s):(l.map (·.b))[k]?=some s.b:=by simp[h]
theorem IC(l:List Bx)(ap:Option Addr)(cp:Nat)(B:Bk)(a1 a2 a3:Option Addr)(c1 c2 c3:Nat)(w:World)(hl:l.length<=1048576)(hZ:Sizeds l)(hS:Smalls l)(hBZ:B.sized)(hT:B.small)(hW:WAt w ap l a1 a2 a3 B):
  Calls Tryz.prog 86 #[.agg #[.slice ap l.length cp,.int .i64 B.now,.slice a1 B.svcs.length c1,.slice a2 B.cps.length c2,.slice a3 B.bts.length c3]] w λe w'=>e=.returned (.bool (EJ (l.map (·.b)) B))/\Below w.heap.size w w':=by
 have HW:Hid (WAt w ap l a1 a2 a3 B):=hW;have HS:Hid _:=hS;have HZ:Hid _:=hZ;have HBZ:Hid _:=hBZ;have HT:Hid _:=hT;clear hW hS hZ hBZ hT;have T0:Hid _:=heap_alloc_new w (.cells #[.slice ap l.length cp,.int .i64 B.now,.slice a1 B.svcs.length c1,.slice a2 B.cps.length c2,.slice a3 B.bts.length c3] 84);have hb0:=AM w (.cells #[.slice ap l.length cp,.int .i64 B.now,.slice a1 B.svcs.length c1,.slice a2 B.cps.length c2,.slice a3 B.bts.length c3] 84);have HS0:Hid ((w.alloc (.cells #[.slice ap l.length cp,.int .i64 B.now,.slice a1 B.svcs.length c1,.slice a2 B.cps.length c2,.slice a3 B.bts.length c3] 84)).heap.size=w.heap.size+1):=by show(w.heap.push _).size=_;simp
 go_enter Tryz.func86,Tryz.ntmps86
 go_wp2_with fail
 refine(Aj B a1 a2 a3 c1 c2 c3 _ HT.out HBZ.out (HW.out.book.below hb0)).mono ?_;rintro e w1 ⟨he,hb1⟩;subst he;have hbb1:=hb0.trans (hb1.mono hb0.size);have T1:Hid _:=AK hb1 T0.out (by rw[HS0.out];omega);clear T0 hb0 HS0 hb1;cases hv:AX B
 ·have HV:Hid (EJ (l.map (·.b)) B=false):=by unfold Hid EJ;rw[hv];rfl
  clear hv;go_wp2;go_ret;exact⟨AR HV.out.symm,hbb1⟩
 have HV:Hid (AX B=true):=hv;clear hv;have e0:=AJ T1.out 0 rfl
 by_cases h8:l.length<=8
 case neg=>
  have HNO:Hid (EJ (l.map (·.b)) B=false):=by unfold Hid EJ;rw[HV.out];simp[h8]
  go_wp2;go_ret;exact⟨AR HNO.out.symm,hbb1⟩
 have H8:Hid (l.length<=8):=h8;have h8d:decide (8<(l.length:Int))=false:=by simp;omega
 go_wp2;clear h8 h8d e0
 go_loopw [3] (λiv wr=>∃k:Nat,k<=l.length/\iv=.int .i64 k/\Below w.heap.size w wr/\Hid (wr.heap[w.heap.size]?=some (.cells #[.slice ap l.length cp,.int .i64 B.now,.slice a1 B.svcs.length c1,.slice a2 B.cps.length c2,.slice a3 B.bts.length c3] 84 (0,0)))/\Hid (∀i,i<k->Cl (l.map (·.b)) B i=true)) (λi _=>l.length - (intOf i).toNat)
 case atStart=>exact⟨0,by omega,rfl,hbb1,T1,λi hi=>absurd hi (by omega)⟩
 case round=>
  clear hbb1 T1;obtain⟨k,hk,rfl,hb,hbox1,hall⟩:=hrel;have hNlt:w.heap.size<wr.heap.size:=(AB hbox1.out).1;have e0:=AJ hbox1.out 0 rfl;have e1:=AJ hbox1.out 1 rfl;have e2:=AJ hbox1.out 2 rfl;have e3:=AJ hbox1.out 3 rfl;have e4:=AJ hbox1.out 4 rfl
  by_cases hlt:k<l.length
  ·have hne:l≠[]:=by intro h;rw[h]at hlt;simp at hlt
   obtain⟨b,off,ea,hbs,hat⟩:=HW.out.row hne;subst ea;obtain⟨s,hsk⟩:∃s,l[k]?=some s:=⟨l[k],by simp[hlt]⟩;have HM:Hid (s∈l):=AE hsk;have HSM:Hid s.b.small:=HS.out s HM.out;have HSZ:Hid s.b.sized:=HZ.out s HM.out;have HIN:Hid (BkAt wr s.a1 s.a2 s.a3 s.b):=(HW.out.ins s HM.out).below hb;have hmk:=map_at hsk;obtain⟨x0,x1,x2,x3⟩:=((hat k s hsk).below hb hbs).grown;have g0:=Aa hbox1.out 0 rfl;have g1:=Aa hbox1.out 1 rfl;have g2:=Aa hbox1.out 2 rfl;have g3:=Aa hbox1.out 3 rfl;have g4:=Aa hbox1.out 4 rfl;cases hok:AX s.b
   ·have HNO:Hid (Cl (l.map (·.b)) B k=false):=by unfold Hid Cl;rw[hmk];simp[hok]
    clear hsk hat hne hmk;go_wp2;refine wp_region_quiet_below (by kernel_rfl) (by kernel_rfl) ?_
    repeat (first|go_big_quiet_step (exact Calls.regrown_of (Aj s.b s.a1 s.a2 s.a3 s.c1 s.c2 s.c3 _ HSM.out HSZ.out (HIN.out.grown _ _)))|quiet_step (exact Calls.regrown_of (Aj s.b s.a1 s.a2 s.a3 s.c1 s.c2 s.c3 _ HSM.out HSZ.out (HIN.out.grown _ _))))
    refine wpQuiet_nil ?_;intro w2 hw';obtain⟨⟨dq,osq⟩,hw''⟩:=hw';have hb2:Below wr.heap.size wr w2:=by rw[hw''];exact below_regrown _ _ _
    clear hw'';go_wp2;go_ret;exact⟨AR (Ie hlt HNO.out).symm,hb.trans (hb2.mono hb.size)⟩
   have HOK:Hid (AX s.b=true):=hok;cases hd:decide (B.now<s.b.now)
   case true=>
    have HNO:Hid (Cl (l.map (·.b)) B k=false):=by
     have h':¬s.b.now<=B.now:=by have:=of_decide_eq_true hd;omega
     unfold Hid Cl;rw[hmk];simp[h']
    clear hsk hat hne hmk;go_wp2;refine wp_region_quiet_below (by kernel_rfl) (by kernel_rfl) ?_
    repeat (first|go_big_quiet_step (exact Calls.regrown_of (Aj s.b s.a1 s.a2 s.a3 s.c1 s.c2 s.c3 _ HSM.out HSZ.out (HIN.out.grown _ _)))|quiet_step (exact Calls.regrown_of (Aj s.b s.a1 s.a2 s.a3 s.c1 s.c2 s.c3 _ HSM.out HSZ.out (HIN.out.grown _ _))))
    refine wpQuiet_nil ?_;intro w2 hw';obtain⟨⟨dq,osq⟩,hw''⟩:=hw';have hb2:Below wr.heap.size wr w2:=by rw[hw''];exact below_regrown _ _ _
    clear hw'';go_wp2;go_ret;exact⟨AR (Ie hlt HNO.out).symm,hb.trans (hb2.mono hb.size)⟩
   have HLE:Hid (s.b.now<=B.now):=by have:=of_decide_eq_false hd;show s.b.now<=B.now;omega
   by_cases hk0:k=0
   ·have HYES:Hid (Cl (l.map (·.b)) B k=true):=by unfold Hid Cl;rw[hmk,hk0];simp[HOK.out,HLE.out]
    have hz:decide (0<k)=false:=by simp;omega
    clear hsk hat hne hk0 hmk;go_wp2;refine wp_region_quiet_below (by kernel_rfl) (by kernel_rfl) ?_
    repeat (first|go_big_quiet_step (exact Calls.regrown_of (Aj s.b s.a1 s.a2 s.a3 s.c1 s.c2 s.c3 _ HSM.out HSZ.out (HIN.out.grown _ _)))|quiet_step (exact Calls.regrown_of (Aj s.b s.a1 s.a2 s.a3 s.c1 s.c2 s.c3 _ HSM.out HSZ.out (HIN.out.grown _ _))))
    refine wpQuiet_nil ?_;intro w2 hw';obtain⟨⟨dq,osq⟩,hw''⟩:=hw';have hb2:Below wr.heap.size wr w2:=by rw[hw''];exact below_regrown _ _ _
    clear hw'';have hbox2:Hid _:=AK hb2 hbox1.out hNlt;have hb3:=hb.trans (hb2.mono hb.size);clear g0 g1 g2 g3 g4 x0 x1 x2 x3 e0 e1 e2 e3 e4;go_wp2
    go_roundw
    case rel=>exact⟨k+1,by omega,by go_num,hb3,hbox2,Ax hall.out HYES.out⟩
    case measure=>simp[intOf];omega
   obtain⟨k',rfl⟩:∃k',k=k'+1:=⟨k - 1,by omega⟩;clear hk0;obtain⟨p,hpk⟩:∃p,l[k']?=some p:=⟨l[k']'(by omega),by rw[List.getElem?_eq_getElem]⟩;have hmp:=map_at hpk;obtain⟨y0,y1,y2,y3⟩:=((hat k' p hpk).below hb hbs).grown;cases hle:decide (s.b.now<p.b.now)
   ·have HYES:Hid (Cl (l.map (·.b)) B (k'+1)=true):=by
     unfold Hid Cl;have h':p.b.now<=s.b.now:=by have:=of_decide_eq_false hle;omega
     rw[hmk];simp only[hmp,HOK.out,HLE.out,h',decide_true,Bool.and_true]
    clear hsk hat hne hpk hmk hmp;go_wp2;refine wp_region_quiet_below (by kernel_rfl) (by kernel_rfl) ?_
    repeat (first|go_big_quiet_step (exact Calls.regrown_of (Aj s.b s.a1 s.a2 s.a3 s.c1 s.c2 s.c3 _ HSM.out HSZ.out (HIN.out.grown _ _)))|quiet_step (exact Calls.regrown_of (Aj s.b s.a1 s.a2 s.a3 s.c1 s.c2 s.c3 _ HSM.out HSZ.out (HIN.out.grown _ _))))
    refine wpQuiet_nil ?_;intro w2 hw';obtain⟨⟨dq,osq⟩,hw''⟩:=hw';have hb2:Below wr.heap.size wr w2:=by rw[hw''];exact below_regrown _ _ _
    clear hw'';have hbox2:Hid _:=AK hb2 hbox1.out hNlt;have hb3:=hb.trans (hb2.mono hb.size);clear g0 g1 g2 g3 g4 x0 x1 x2 x3 y0 y1 y2 y3 e0 e1 e2 e3 e4;go_wp2
    go_roundw
    case rel=>exact⟨k'+1+1,by omega,by go_num,hb3,hbox2,Ax hall.out HYES.out⟩
    case measure=>simp[intOf];omega
   ·have HNO:Hid (Cl (l.map (·.b)) B (k'+1)=false):=by
     unfold Hid Cl;have h':¬p.b.now<=s.b.now:=by have:=of_decide_eq_true hle;omega
     rw[hmk];simp only[hmp,h',decide_false,Bool.and_false]
    clear hsk hat hne hpk hmk hmp;go_wp2;refine wp_region_quiet_below (by kernel_rfl) (by kernel_rfl) ?_
    repeat (first|go_big_quiet_step (exact Calls.regrown_of (Aj s.b s.a1 s.a2 s.a3 s.c1 s.c2 s.c3 _ HSM.out HSZ.out (HIN.out.grown _ _)))|quiet_step (exact Calls.regrown_of (Aj s.b s.a1 s.a2 s.a3 s.c1 s.c2 s.c3 _ HSM.out HSZ.out (HIN.out.grown _ _))))
    refine wpQuiet_nil ?_;intro w2 hw';obtain⟨⟨dq,osq⟩,hw''⟩:=hw';have hb2:Below wr.heap.size wr w2:=by rw[hw''];exact below_regrown _ _ _
    clear hw'';go_wp2;go_ret;exact⟨AR (Ie hlt HNO.out).symm,hb.trans (hb2.mono hb.size)⟩
  ·have HYES:Hid (EJ (l.map (·.b)) B=true):=by
    unfold Hid EJ;rw[HV.out,B6 λi hi=>hall.out i (by simp at hi;omega)];simp[H8.out]
   clear hall;go_wp2;go_ret;exact⟨AR HYES.out.symm,hb⟩
end
section
open Go Go.RowKit
section
variable {P:Program} {Q:Exit->Act->World->Prop}
def everyB(ops:Array Oper):Bool:=Dx .any ops ops.size&&DY ops ops.size
theorem DW{id:Nat}{a:Act}{w:World}{l:List Oper}(n:Nat)(hn:l.length=n)(p:Nat)(Inv Inv0:World->Prop)(R:Nat->World->World->Prop)(hm:P.follows .mixedOrders=true)(hB:everyB l.toArray=true)
  (hS0:Inv {w with drawn:=w.drawn+1}) (hS1:Inv0 {w with drawn:=w.drawn+1}) (hI:∀i W W',Inv W->R i W W'->Inv W') (hI0:∀i W W',i≠p->Inv0 W->R i W W'->Inv0 W')
  (h:Cn P l.toArray a n Inv p Inv0 R (λS=>∀V W A,Inv W->(∀j,j<n->S j (V j) W)->Hid (A=Af l.toArray V n a)->wpList P l.toArray Q [] A W) l 0 λ_ _ _=>True):(Code.region id l.toArray true).wp P Q a w:=by
 subst hn;simp only[everyB,Bool.and_eq_true,List.size_toArray]at hB;obtain⟨hdB,hd⟩:=hB;obtain⟨S,h1,h2,h3⟩:=DP hdB l 0 _ (by simp) (λj hj=>by simp) (λ_ _ _ _ _ _ _ _=>trivial) (λi o hi=>absurd hi (by omega)) h;refine wp_region_any hm ?_
 have inv0:HeadInv .any l.toArray l.length (Array.replicate l.toArray.size false):=
  ⟨by simp,λj oj _ hl=>(by rw[getD_replicate_false]at hl;cases hl),λt _ ht=>getD_in (by simpa using ht) (getD_replicate_false _ _)⟩
 have hleft:BW l.length (Array.replicate l.toArray.size false)=l.length:=by
  unfold BW;rw[List.countP_eq_length.2]
  ·simp
  ·intro i hi
   have:i<l.toArray.size:=by have:=List.mem_range.1 hi;simpa using this
   rw[getD_in (by simpa using this) (getD_replicate_false _ _)];rfl
 have H:=FI (P:=P) (Q:=Q) (g:=0) (S:=S) (Inv:=Inv) (Inv0:=Inv0) (p:=p) (R:=R) (a0:=a)
  (λlisted _ i _ _ t ht hr=>by
   obtain⟨_,o,ho,_⟩:=mem_ready.1 hr;have:=(AB ho).1;simp at this
   omega) (by simp) hdB hd hI hI0 h1 h2
  (λV W hb hS=>by
   unfold wpAny;refine⟨List.eq_nil_iff_forall_not_mem.2 λt ht=>?_,h3 V W _ hb hS rfl⟩;obtain⟨hu,o,ho,_⟩:=mem_ready.1 ht;have hlt:=(AB ho).1;simp at hlt;rw[show(Bp l.toArray l.length).getD t true=true by simp[Bp,hlt]]at hu
   cases hu)
  l.length _ (λj=>match (l.toArray[j]?).bind (·.dst) with|some d=>a.tmps.getD d undef|none=>undef) {w with drawn:=w.drawn+1} inv0 hleft hS0 (λ_=>hS1) (λj _ hl=>by rw[getD_replicate_false]at hl;cases hl)
 have e:Af l.toArray (λj=>match (l.toArray[j]?).bind (·.dst) with|some d=>a.tmps.getD d undef|none=>undef) l.length a=a:=C0 a l.length;rw[e,Nat.add_zero]at H
 simpa using H
end
end
section
open Go.RowKit Go.Sort
theorem Ig(B:Bk)(a1 a2 a3 b1 b2 b3:Option Addr)(c1 c2 c3 d1 d2 d3:Nat)(w:World)(hS:B.small)(hA:BkAt w a1 a2 a3 B)(hB:BkAt w b1 b2 b3 B):
  Calls Tryz.prog 7 #[.agg #[.int .i64 B.now,.slice a1 B.svcs.length c1,.slice a2 B.cps.length c2,.slice a3 B.bts.length c3],.agg #[.int .i64 B.now,.slice b1 B.svcs.length d1,.slice b2 B.cps.length d2,.slice b3 B.bts.length d3]] w λe w'=>e=.returned (.bool true)/\Below w.heap.size w w':=by
 obtain⟨t0,t1,t2⟩:=B0 w (.cells #[.int .i64 B.now,.slice a1 B.svcs.length c1,.slice a2 B.cps.length c2,.slice a3 B.bts.length c3] 27) (.cells #[.int .i64 B.now,.slice b1 B.svcs.length d1,.slice b2 B.cps.length d2,.slice b3 B.bts.length d3] 27);obtain⟨W0,hW0⟩:∃W,(w.alloc (.cells #[.int .i64 B.now,.slice a1 B.svcs.length c1,.slice a2 B.cps.length c2,.slice a3 B.bts.length c3] 27)).alloc (.cells #[.int .i64 B.now,.slice b1 B.svcs.length d1,.slice b2 B.cps.length d2,.slice b3 B.bts.length d3] 27)=W:=⟨_,rfl⟩;have hb0:Below w.heap.size w W0:=by rw[<-hW0];exact((Below.refl _ _).alloc (AG _) _).alloc (by simp) _
 rw[hW0]at t0 t1 t2;have T0:Hid _:=t0;have T1:Hid _:=t1;have HS2:Hid _:=t2;clear t0 t1 t2;obtain⟨l1,l2,l3⟩:=hS;go_enter Tryz.func7,Tryz.ntmps7
 go_upto_region 1 with fail
 clear hW0;have e0:=AJ T0.out 0 rfl;have e1:=AJ T0.out 1 rfl;have e2:=AJ T0.out 2 rfl;have e3:=AJ T0.out 3 rfl;have f0:=AJ T1.out 0 rfl;have f1:=AJ T1.out 1 rfl;have f2:=AJ T1.out 2 rfl;have f3:=AJ T1.out 3 rfl;go_wp2;clear e0 e1 e2 e3 f0 f1 f2 f3
 go_loopw [5] (λiv wr=>∃(k:Nat),k<=B.svcs.length/\iv=.int .i64 k/\Below W0.heap.size W0 wr) (λi _=>B.svcs.length - (intOf i).toNat)
 case atStart=>exact⟨0,by omega,rfl,Below.refl _ _⟩
 case round=>
  obtain⟨k,hk,rfl,hb⟩:=hrel;have U0:Hid _:=AK hb T0.out (by rw[HS2.out];omega);have U1:Hid _:=AK hb T1.out (by rw[HS2.out];omega)
  by_cases hlt:k<B.svcs.length
  ·have e0:=Aa U0.out 1 rfl
   have f0:=Aa U1.out 1 rfl;have hne:B.svcs≠[]:=by intro h;rw[h]at hlt;simp at hlt
   obtain⟨b,off,ea,hbs,hat⟩:=hA.1 hne;obtain⟨b',off',eb,hbs',hat'⟩:=hB.1 hne;obtain⟨s,hsk⟩:∃s,B.svcs[k]?=some s:=⟨B.svcs[k],by simp[hlt]⟩;have hbw:=hb0.trans (hb.mono hb0.size);obtain⟨c0,c1,c2,c3,c4,c5,c6,c7,c8,c9,c10,c11,c12⟩:=((hat k s hsk).below hbw hbs).grown;obtain⟨d0,d1,d2,d3,d4,d5,d6,d7,d8,d9,d10,d11,d12⟩:=((hat' k s hsk).below hbw hbs').grown;subst ea eb;clear hsk hat hat' hne;have ee:=AJ U0.out 1 rfl
   go_upto_region 6 with fail
   clear ee;refine wp_region_quiet_below (by kernel_rfl) (by kernel_rfl) ?_
   repeat (first|go_big_quiet_step (fail)|quiet_step (fail))
   refine wpQuiet_nil ?_;intro w1 hw';obtain⟨⟨dq,osq⟩,hw''⟩:=hw';have hb1:Below wr.heap.size wr w1:=by rw[hw''];exact below_regrown _ _ _
   clear hw'' c0 d0 c1 d1 c2 d2 c3 d3 c4 d4 c5 d5 c6 d6 c7 d7 c8 d8 c9 d9 c10 d10 c11 d11 c12 d12 e0 f0;have hb2:=hb.trans (hb1.mono hb.size);go_wp2
   go_roundw
   case rel=>exact⟨k+1,by omega,by go_num,hb2⟩
   case measure=>simp[intOf];omega
  ·have ee:=AJ U0.out 1 rfl
   go_upto_region 8 with fail
   clear ee U0 U1 hlt hk;go_wp2
   go_loopw [6] (λiv wr=>∃(k:Nat),k<=B.cps.length/\iv=.int .i64 k/\Below W0.heap.size W0 wr) (λi _=>B.cps.length - (intOf i).toNat)
   case atStart=>exact⟨0,by omega,rfl,hb⟩
   case round=>
    clear hb;obtain⟨k,hk,rfl,hb⟩:=hrel;have U0:Hid _:=AK hb T0.out (by rw[HS2.out];omega);have U1:Hid _:=AK hb T1.out (by rw[HS2.out];omega)
    by_cases hlt:k<B.cps.length
    ·have e0:=Aa U0.out 2 rfl
     have f0:=Aa U1.out 2 rfl;have hne:B.cps≠[]:=by intro h;rw[h]at hlt;simp at hlt
     obtain⟨b,off,ea,hbs,hat⟩:=hA.2.1 hne;obtain⟨b',off',eb,hbs',hat'⟩:=hB.2.1 hne;obtain⟨s,hsk⟩:∃s,B.cps[k]?=some s:=⟨B.cps[k],by simp[hlt]⟩;have hbw:=hb0.trans (hb.mono hb0.size);obtain⟨c0,c1,c2,c3,c4,c5,c6⟩:=((hat k s hsk).below hbw hbs).grown;obtain⟨d0,d1,d2,d3,d4,d5,d6⟩:=((hat' k s hsk).below hbw hbs').grown;subst ea eb;clear hsk hat hat' hne;have ee:=AJ U0.out 2 rfl
     go_upto_region 11 with fail
     clear ee;refine wp_region_quiet_below (by kernel_rfl) (by kernel_rfl) ?_
     repeat (first|go_big_quiet_step (fail)|quiet_step (fail))
     refine wpQuiet_nil ?_;intro w1 hw';obtain⟨⟨dq,osq⟩,hw''⟩:=hw';have hb1:Below wr.heap.size wr w1:=by rw[hw''];exact below_regrown _ _ _
     clear hw'' c0 d0 c1 d1 c2 d2 c3 d3 c4 d4 c5 d5 c6 d6 e0 f0;have hb2:=hb.trans (hb1.mono hb.size);go_wp2
     go_roundw
     case rel=>exact⟨k+1,by omega,by go_num,hb2⟩
     case measure=>simp[intOf];omega
    ·have ee:=AJ U0.out 2 rfl
     go_upto_region 13 with fail
     clear ee U0 U1 hlt hk;go_wp2
     go_loopw [7] (λiv wr=>∃(k:Nat),k<=B.bts.length/\iv=.int .i64 k/\Below W0.heap.size W0 wr) (λi _=>B.bts.length - (intOf i).toNat)
     case atStart=>exact⟨0,by omega,rfl,hb⟩
     case round=>
      clear hb;obtain⟨k,hk,rfl,hb⟩:=hrel;have U0:Hid _:=AK hb T0.out (by rw[HS2.out];omega);have U1:Hid _:=AK hb T1.out (by rw[HS2.out];omega)
      by_cases hlt:k<B.bts.length
      ·have e0:=Aa U0.out 3 rfl
       have f0:=Aa U1.out 3 rfl;have hne:B.bts≠[]:=by intro h;rw[h]at hlt;simp at hlt
       obtain⟨b,off,ea,hbs,hat⟩:=hA.2.2 hne;obtain⟨b',off',eb,hbs',hat'⟩:=hB.2.2 hne;obtain⟨s,hsk⟩:∃s,B.bts[k]?=some s:=⟨B.bts[k],by simp[hlt]⟩;have hbw:=hb0.trans (hb.mono hb0.size);obtain⟨c0,c1⟩:=((hat k s hsk).below hbw hbs).grown;obtain⟨d0,d1⟩:=((hat' k s hsk).below hbw hbs').grown;subst ea eb;clear hsk hat hat' hne;have ee:=AJ U0.out 3 rfl
       go_upto_region 16 with fail
       clear ee;refine wp_region_quiet_below (by kernel_rfl) (by kernel_rfl) ?_
       repeat (first|go_big_quiet_step (fail)|quiet_step (fail))
       refine wpQuiet_nil ?_;intro w1 hw';obtain⟨⟨dq,osq⟩,hw''⟩:=hw';have hb1:Below wr.heap.size wr w1:=by rw[hw''];exact below_regrown _ _ _
       clear hw'' c0 d0 c1 d1 e0 f0;have hb2:=hb.trans (hb1.mono hb.size);go_wp2
       go_roundw
       case rel=>exact⟨k+1,by omega,by go_num,hb2⟩
       case measure=>simp[intOf];omega
      ·have ee:=AJ U0.out 3 rfl
       go_wp2;go_ret;exact⟨rfl,hb0.trans (hb.mono hb0.size)⟩
end
end Go.Proofs.YtbceafpodamnfaaGreat
