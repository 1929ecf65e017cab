import Derived.Test.YtbceafpodamnfaaGreatDoorG12
set_option linter.all false
set_option maxHeartbeats 16000000
namespace Go.Proofs.YtbceafpodamnfaaGreatDoor
section
open Go.RowKit Go.Sort Go.Maps
open Go.Value renaming int->In,slice->Sl,string->Sg,bool->Bo,pointer->Po
open Go.IntKind renaming i64->i6
theorem Ap{H:Type}{P:Program}(w:World){ops:Array Oper}{rest:List Oper}{o:Oper}{a:Act}{Q:Exit->Act->World->Prop}(hg:o.guard=none)(m x:Operand)(t:TypeId)(Y:o.op=Op.lookup t m x true)
  (k e:TypeId) (q:IntKind) (K:Keyed P k) (ht:P.underlying t=some (.map k e)) (he:P.underlying e=some (.int q)) (hz:(zeroValue e).run P w=.ok (.int q 0) w) (b n:Nat) (D:DataW H)
  (hm:a.eval m=.map (some b)) (J:w.ownsMap P k (plainElem P e) b n D) (key:Value) (M:Lit) (hx:a.eval x=key) (F:keyOf P k key=some M)
  (c0:Int) (Z:Bool) (O:D.atKey M (.lit (.int q 0))=.lit (.int q c0)) (z:Maps.has D M=Z)
  (hK:wpList P ops Q rest (a.put o.dst (.tuple #[.int q c0,Bo Z])) w):wpList P ops Q (o::rest) a w:=
 wpList_lookup_own_ok_int w hg m x t Y k e q K ht he hz b n D hm J key M hx F (λc hc _=>by
  rw[O]at hc;have W:c0=c:=by simpa using hc
  subst W;rw[z]
  exact hK)
theorem NI(B:Bk)(a1 a2 a3:qO)(c1 c2 c3:Nat)(w:World)(hS:B.aR)(hZ:B.aP)(hU:Ja B)(hB:BkAt w a1 a2 a3 B)(aq:B.ah=[]):
  Calls Tryz.prog 73 #[.agg (qbV B a1 c1 a2 c2 a3 c3)] w λe w'=>e=.returned (.bool (BT (BI B) B.ar.length))/\Below w.heap.size w w':=by
 have am:Hid (B.ah=[]):=aq;clear aq;have bC:=hS;obtain⟨cd,ce,cf⟩:=bC;have T0:Hid _:=dm w (.cells (qbV B a1 c1 a2 c2 a3 c3) 28);have a4:=AN w (.cells (qbV B a1 c1 a2 c2 a3 c3) 28);have a9:(w.alloc (.cells (qbV B a1 c1 a2 c2 a3 c3) 28)).heap.size=w.heap.size+1:=by show(w.heap.push _).size=_;simp
 have aK:Hid _:=a9;clear a9;go_enter Tryz.func73,Tryz.ntmps73
 go_wp2_with fail
 refine(Jn B _ a2 a3 c1 c2 c3 _ hS hZ hU (hB.below a4)).mono ?_;rintro e w0 ⟨rfl,ag,aj⟩;rw[aK.ab]at ag aj;rw[aK.ab];have an:=a4.trans (aj.mono qo);have ax:Hid _:=AK aj T0.ab;have aJ:Hid _:=ag;have e2:=AJ ax.ab 2;clear ag aj;go_wp2;clear e2
 go_loopw [13] (λiv wr=>∃k:Nat,k<=B.ar.length/\iv=In i6 k/\Below w.heap.size w wr/\Hid (qBl wr (w.heap.size) (qbV B a1 c1 a2 c2 a3 c3) 28)/\Hid (PlacesAt wr (w.heap.size+1+1) B B.ah.length B.aw.length)/\Hid (∀i,i<k->BI B i=true)) (λi _=>B.ar.length - (intOf i).toNat)
 case atStart=>exact⟨0,qo,rfl,an,ax,aJ,λi hi=>absurd hi qo⟩
 case round=>
  clear an ax aJ;obtain⟨k,hk,rfl,hb,a5,a8,aS⟩:=hrel;have aQ:w.heap.size+1+1<wr.heap.size:=a8.ab.lt
  by_cases ae:k<B.ar.length
  ·have aC:B.ar≠[]:=by intro h;rw[h]at ae;simp at ae
   obtain⟨b,cj,ea,a6,ah⟩:=hB.2.1 aC;subst ea;obtain⟨s,ak⟩:∃s,B.ar[k]?=some s:=⟨B.ar[k],by simp[ae]⟩;have Z:=hZ.2.2.2.2.1 s (AE ak);have aw:Hid _:=ak;have a7:=(ah k s ak).below hb a6;unfold CpAt at a7;obtain⟨x0,x1,x2,x3,x4,x5,x6⟩:=a7;have aa:Below w.heap.size w (wr.alloc (.cells (qcV s) 76)):=hb.alloc hb.size _;have M:Hid ((wr.alloc (.cells (qcV s) 76)).heap.size=wr.heap.size+1):=by show(wr.heap.push _).size=_;simp
   have H:Hid _:=dm wr (.cells (qcV s) 76);have aF:=AN wr (.cells (qcV s) 76);have W:Hid _:=AK aF a5.ab;have au:Hid (PlacesAt (wr.alloc (.cells (qcV s) 76)) (w.heap.size+1+1) B B.ah.length B.aw.length):=a8.ab.below aF aQ;clear ak
   by_cases aA:k=0
   ·have b7:Hid (k=0):=aA
    have hz:decide (0<k)=false:=qp
    clear aA ah aC;go_wp2;clear x0 x1 x2 x3 x4 x5 x6;refine jl qk qk ?_
    repeat (first|go_big_quiet_step (fail)|quiet_step (fail))
    refine jn ?_;intro w2 J;obtain⟨⟨dq,al⟩,z⟩:=J;have F:Below (wr.alloc (.cells (qcV s) 76)).heap.size (wr.alloc (.cells (qcV s) 76)) w2:=by rw[z];exact jm _ _ _
    clear z;have O:=aa.trans (F.mono aa.size);have ay:Hid _:=AK F H.ab (by rw[M.ab];omega);have aM:Hid _:=AK F W.ab (by rw[M.ab];omega);have aH:Hid (PlacesAt w2 (w.heap.size+1+1) B B.ah.length B.aw.length):=au.ab.below F (by rw[M.ab];omega);have bD:wr.heap.size<w2.heap.size:=by have:=F.size;rw[M.ab]at this;omega
    have r0:=AJ ay.ab 0;obtain⟨n,D,hn,Y,h1,h2,h3,h4⟩:=aH.ab;have H1:Hid _:=h1;have H2:Hid _:=h2;clear h1 h2 h3 h4;have hf:A5 B s.aa=none:=by unfold A5;rw[am.ab];rfl
    have af:Hid (BI B k=false):=by unfold Hid BI;rw[aw.ab];simp[cpB,hf]
    have HH:Hid (Maps.has D (key 1 s.aa)=false):=H1.ab s.aa Z.1 (FZ hf);have HA:Hid (D.atKey (key 1 s.aa) (.lit (.int .i64 0))=.lit (.int .i64 0)):=atKey_of_not_has HH.ab _
    go_wp2_with (at_lookup;refine Ap _ rfl (.tmp 32) (.tmp 35) 141 rfl 181 3 .i64 thingLaw Tryz.underlying141 Tryz.underlying3 (DB _) (w.heap.size+1+1) n D rfl Y _ _ rfl (Cy 1 s.aa wf1 Z.1) 0 false HA.ab HH.ab ?_)
    refine jl qk qk ?_
    repeat (first|go_big_quiet_step (fail)|quiet_step (fail))
    refine jn ?_;intro w3 J;obtain⟨⟨dq,al⟩,z⟩:=J;have az:Below w2.heap.size w2 w3:=by rw[z];exact jm _ _ _
    clear z;go_wp2;go_ret;exact⟨AQ (Ao ae af.ab).symm,O.trans (az.mono O.size)⟩
   obtain⟨k',rfl⟩:∃k',k=k'+1:=⟨k - 1,qo⟩;clear aA;obtain⟨p,aD⟩:∃p,B.ar[k']?=some p:=⟨B.ar[k']' qo,by rw[dz]⟩;have be:Hid _:=aD;obtain⟨y0,y1,y2,y3,y4,y5,y6⟩:=((ah k' p aD).below (hb.trans (aF.mono hb.size)) a6).grown;have bm:=Az H.ab 0 rfl;have bn:=Az H.ab 1 rfl;have bo:=Az H.ab 2 rfl;have bq:=Az H.ab 3 rfl;have bv:=Az H.ab 4 rfl;have bw:=Az H.ab 5 rfl;have bx:=Az H.ab 6 rfl;have bk:=Az W.ab 2 rfl;clear aD ah aC;cases aB:An p s
   ·have af:Hid (BI B (k'+1)=false):=by unfold Hid BI;rw[aw.ab];simp[be.ab,aB]
    go_wp2;clear x0 x1 x2 x3 x4 x5 x6;refine jl qk qk ?_
    repeat (first|go_big_quiet_step (exact jk (CW p s _))|quiet_step (exact jk (CW p s _)))
    refine jn ?_;intro w2 J;obtain⟨⟨dq,al⟩,z⟩:=J;have F:Below (wr.alloc (.cells (qcV s) 76)).heap.size (wr.alloc (.cells (qcV s) 76)) w2:=by rw[z];exact jm _ _ _
    clear z;go_wp2;go_ret;exact⟨AQ (Ao ae af.ab).symm,aa.trans (F.mono aa.size)⟩
   ·have b8:Hid (An p s=true):=aB
    go_wp2;clear x0 x1 x2 x3 x4 x5 x6;refine jl qk qk ?_
    repeat (first|go_big_quiet_step (exact jk (CW p s _))|quiet_step (exact jk (CW p s _)))
    refine jn ?_;intro w2 J;obtain⟨⟨dq,al⟩,z⟩:=J;have F:Below (wr.alloc (.cells (qcV s) 76)).heap.size (wr.alloc (.cells (qcV s) 76)) w2:=by rw[z];exact jm _ _ _
    clear z;clear bm bn bo bq bv bw bx bk aB y0 y1 y2 y3 y4 y5 y6;have O:=aa.trans (F.mono aa.size);have ay:Hid _:=AK F H.ab (by rw[M.ab];omega);have aM:Hid _:=AK F W.ab (by rw[M.ab];omega);have aH:Hid (PlacesAt w2 (w.heap.size+1+1) B B.ah.length B.aw.length):=au.ab.below F (by rw[M.ab];omega);have bD:wr.heap.size<w2.heap.size:=by have:=F.size;rw[M.ab]at this;omega
    have r0:=AJ ay.ab 0;obtain⟨n,D,hn,Y,h1,h2,h3,h4⟩:=aH.ab;have H1:Hid _:=h1;have H2:Hid _:=h2;clear h1 h2 h3 h4;have hf:A5 B s.aa=none:=by unfold A5;rw[am.ab];rfl
    have af:Hid (BI B (k'+1)=false):=by unfold Hid BI;rw[aw.ab];simp[cpB,hf]
    have HH:Hid (Maps.has D (key 1 s.aa)=false):=H1.ab s.aa Z.1 (FZ hf);have HA:Hid (D.atKey (key 1 s.aa) (.lit (.int .i64 0))=.lit (.int .i64 0)):=atKey_of_not_has HH.ab _
    go_wp2_with (at_lookup;refine Ap _ rfl (.tmp 32) (.tmp 35) 141 rfl 181 3 .i64 thingLaw Tryz.underlying141 Tryz.underlying3 (DB _) (w.heap.size+1+1) n D rfl Y _ _ rfl (Cy 1 s.aa wf1 Z.1) 0 false HA.ab HH.ab ?_)
    refine jl qk qk ?_
    repeat (first|go_big_quiet_step (fail)|quiet_step (fail))
    refine jn ?_;intro w3 J;obtain⟨⟨dq,al⟩,z⟩:=J;have az:Below w2.heap.size w2 w3:=by rw[z];exact jm _ _ _
    clear z;go_wp2;go_ret;exact⟨AQ (Ao ae af.ab).symm,O.trans (az.mono O.size)⟩
  ·go_wp2
   go_ret;exact⟨AQ (CY λi hi=>aS.ab i qo).symm,hb⟩
theorem Lc(B:Bk)(a1 a2 a3:qO)(c1 c2 c3:Nat)(w:World)(hS:B.aR)(hZ:B.aP)(hU:Ja B)(hB:BkAt w a1 a2 a3 B)(bE:B.ah≠[]):
  Calls Tryz.prog 73 #[.agg (qbV B a1 c1 a2 c2 a3 c3)] w λe w'=>e=.returned (.bool (BT (BI B) B.ar.length))/\Below w.heap.size w w':=by
 obtain⟨bS,au,eS,aQ,aN⟩:=hB.1 bE;subst eS;have cf:=hS;obtain⟨c9,da,db⟩:=cf;have T0:Hid _:=dm w (.cells (qbV B (some ⟨bS,au,none⟩) c1 a2 c2 a3 c3) 28);have bz:=AN w (.cells (qbV B (some ⟨bS,au,none⟩) c1 a2 c2 a3 c3) 28);have bO:(w.alloc (.cells (qbV B (some ⟨bS,au,none⟩) c1 a2 c2 a3 c3) 28)).heap.size=w.heap.size+1:=by show(w.heap.push _).size=_;simp
 have bq:Hid _:=bO;clear bO;go_enter Tryz.func73,Tryz.ntmps73
 go_wp2_with fail
 refine(Jn B _ a2 a3 c1 c2 c3 _ hS hZ hU (hB.below bz)).mono ?_;rintro e w0 ⟨rfl,aF,aK⟩;rw[bq.ab]at aF aK;rw[bq.ab];have aO:=bz.trans (aK.mono qo);have a4:Hid _:=AK aK T0.ab;have bn:Hid _:=aF;have e2:=AJ a4.ab 2;clear aF aK;go_wp2;clear e2
 go_loopw [13] (λiv wr=>∃k:Nat,k<=B.ar.length/\iv=In i6 k/\Below w.heap.size w wr/\Hid (qBl wr (w.heap.size) (qbV B (some ⟨bS,au,none⟩) c1 a2 c2 a3 c3) 28)/\Hid (PlacesAt wr (w.heap.size+1+1) B B.ah.length B.aw.length)/\Hid (∀i,i<k->BI B i=true)) (λi _=>B.ar.length - (intOf i).toNat)
 case atStart=>exact⟨0,qo,rfl,aO,a4,bn,λi hi=>absurd hi qo⟩
 case round=>
  clear aO a4 bn;obtain⟨k,hk,rfl,hb,bB,bK,aB⟩:=hrel;have bx:w.heap.size+1+1<wr.heap.size:=bK.ab.lt
  by_cases af:k<B.ar.length
  ·have a9:B.ar≠[]:=by intro h;rw[h]at af;simp at af
   obtain⟨b,df,ea,bC,aJ⟩:=hB.2.1 a9;subst ea;obtain⟨s,aM⟩:∃s,B.ar[k]?=some s:=⟨B.ar[k],by simp[af]⟩;have F:=hZ.2.2.2.2.1 s (AE aM);have ak:Hid _:=aM;have bD:=(aJ k s aM).below hb bC;unfold CpAt at bD;obtain⟨x0,x1,x2,x3,x4,x5,x6⟩:=bD;have ax:Below w.heap.size w (wr.alloc (.cells (qcV s) 76)):=hb.alloc hb.size _;have al:Hid ((wr.alloc (.cells (qcV s) 76)).heap.size=wr.heap.size+1):=by show(wr.heap.push _).size=_;simp
   have aj:Hid _:=dm wr (.cells (qcV s) 76);have bb:=AN wr (.cells (qcV s) 76);have an:Hid _:=AK bb bB.ab;have aS:Hid (PlacesAt (wr.alloc (.cells (qcV s) 76)) (w.heap.size+1+1) B B.ah.length B.aw.length):=bK.ab.below bb bx;clear aM
   by_cases a7:k=0
   ·have b2:Hid (k=0):=a7
    have hz:decide (0<k)=false:=qp
    clear a7 aJ a9;go_wp2;clear x0 x1 x2 x3 x4 x5 x6;refine jl qk qk ?_
    repeat (first|go_big_quiet_step (fail)|quiet_step (fail))
    refine jn ?_;intro w2 J;obtain⟨⟨dq,ag⟩,z⟩:=J;have aa:Below (wr.alloc (.cells (qcV s) 76)).heap.size (wr.alloc (.cells (qcV s) 76)) w2:=by rw[z];exact jm _ _ _
    clear z;have H:=ax.trans (aa.mono ax.size);have W:Hid _:=AK aa aj.ab (by rw[al.ab];omega);have ae:Hid _:=AK aa an.ab (by rw[al.ab];omega);have Y:Hid (PlacesAt w2 (w.heap.size+1+1) B B.ah.length B.aw.length):=aS.ab.below aa (by rw[al.ab];omega);have ch:wr.heap.size<w2.heap.size:=by have:=aa.size;rw[al.ab]at this;omega
    have r0:=AJ W.ab 0;obtain⟨n,D,hn,O,h1,h2,h3,h4⟩:=Y.ab;have H1:Hid _:=h1;have H2:Hid _:=h2;clear h1 h2 h3 h4
    cases hf:A5 B s.aa with
    |none=>
     have Z:Hid (BI B k=false):=by unfold Hid BI;rw[ak.ab];simp[cpB,hf]
     have HH:Hid (Maps.has D (key 1 s.aa)=false):=H1.ab s.aa F.1 (FZ hf);have HA:Hid (D.atKey (key 1 s.aa) (.lit (.int .i64 0))=.lit (.int .i64 0)):=atKey_of_not_has HH.ab _
     go_wp2_with (at_lookup;refine Ap _ rfl (.tmp 32) (.tmp 35) 141 rfl 181 3 .i64 thingLaw Tryz.underlying141 Tryz.underlying3 (DB _) (w.heap.size+1+1) n D rfl O _ _ rfl (Cy 1 s.aa wf1 F.1) 0 false HA.ab HH.ab ?_)
     refine jl qk qk ?_
     repeat (first|go_big_quiet_step (fail)|quiet_step (fail))
     refine jn ?_;intro w3 J;obtain⟨⟨dq,ag⟩,z⟩:=J;have M:Below w2.heap.size w2 w3:=by rw[z];exact jm _ _ _
     clear z;go_wp2;go_ret;exact⟨AQ (Ao af Z.ab).symm,H.trans (M.mono H.size)⟩
    |some sv=>
     obtain⟨i,a6,hi,aD⟩:=FX hf;have ah:=H2.ab i sv a6 hi;rw[aD]at ah;have HH:Hid (Maps.has D (key 1 s.aa)=true):=ah.1;have HA:Hid (D.atKey (key 1 s.aa) (.lit (.int .i64 0))=.lit (.int .i64 (i:Int))):=ah.2;have am:Hid (cpB B s=(GI B.av sv s&&Cu B.aw s)):=by unfold Hid cpB;rw[hf]
     obtain⟨z0,z1,z2,z3,z4,z5,z6,z7,z8,z9,be,bk,bm⟩:=((aN i sv hi).below H aQ).grown;have g0:=Az ae.ab 0 rfl;have g1:=Az ae.ab 1 rfl;have m0:=Az W.ab 0 rfl;have m1:=Az W.ab 1 rfl;have m2:=Az W.ab 2 rfl;have m3:=Az W.ab 3 rfl;have m4:=Az W.ab 4 rfl;have m5:=Az W.ab 5 rfl;have m6:=Az W.ab 6 rfl;clear hf ah aD hi;cases aq:GI B.av sv s
     ·have Z:Hid (BI B k=false):=by unfold Hid BI;rw[ak.ab];simp[am.ab,aq]
      go_wp2_with (at_lookup;refine Ap _ rfl (.tmp 32) (.tmp 35) 141 rfl 181 3 .i64 thingLaw Tryz.underlying141 Tryz.underlying3 (DB _) (w.heap.size+1+1) n D rfl O _ _ rfl (Cy 1 s.aa wf1 F.1) (i:Int) true HA.ab HH.ab ?_)
      refine jl qk qk ?_
      repeat (first|go_big_quiet_step (first|exact jk (BU s sv B.av _)|exact jk (BW B s (w.heap.size+1+1) _ F.2 (Y.ab.below (jm _ _ _) qo)))|quiet_step (first|exact jk (BU s sv B.av _)|exact jk (BW B s (w.heap.size+1+1) _ F.2 (Y.ab.below (jm _ _ _) qo))))
      refine jn ?_;intro w3 J;obtain⟨⟨dq,ag⟩,z⟩:=J;have M:Below w2.heap.size w2 w3:=by rw[z];exact jm _ _ _
      clear z;go_wp2;go_ret;exact⟨AQ (Ao af Z.ab).symm,H.trans (M.mono H.size)⟩
     cases aC:Cu B.aw s
     ·have Z:Hid (BI B k=false):=by unfold Hid BI;rw[ak.ab];simp[am.ab,aq,aC]
      go_wp2_with (at_lookup;refine Ap _ rfl (.tmp 32) (.tmp 35) 141 rfl 181 3 .i64 thingLaw Tryz.underlying141 Tryz.underlying3 (DB _) (w.heap.size+1+1) n D rfl O _ _ rfl (Cy 1 s.aa wf1 F.1) (i:Int) true HA.ab HH.ab ?_)
      refine jl qk qk ?_
      repeat (first|go_big_quiet_step (first|exact jk (BU s sv B.av _)|exact jk (BW B s (w.heap.size+1+1) _ F.2 (Y.ab.below (jm _ _ _) qo)))|quiet_step (first|exact jk (BU s sv B.av _)|exact jk (BW B s (w.heap.size+1+1) _ F.2 (Y.ab.below (jm _ _ _) qo))))
      refine jn ?_;intro w3 J;obtain⟨⟨dq,ag⟩,z⟩:=J;have M:Below w2.heap.size w2 w3:=by rw[z];exact jm _ _ _
      clear z;go_wp2;go_ret;exact⟨AQ (Ao af Z.ab).symm,H.trans (M.mono H.size)⟩
     have az:Hid (BI B k=true):=by unfold Hid BI;rw[ak.ab];simp[am.ab,aq,aC,b2.ab]
     go_wp2_with (at_lookup;refine Ap _ rfl (.tmp 32) (.tmp 35) 141 rfl 181 3 .i64 thingLaw Tryz.underlying141 Tryz.underlying3 (DB _) (w.heap.size+1+1) n D rfl O _ _ rfl (Cy 1 s.aa wf1 F.1) (i:Int) true HA.ab HH.ab ?_)
     refine jl qk qk ?_
     repeat (first|go_big_quiet_step (first|exact jk (BU s sv B.av _)|exact jk (BW B s (w.heap.size+1+1) _ F.2 (Y.ab.below (jm _ _ _) qo)))|quiet_step (first|exact jk (BU s sv B.av _)|exact jk (BW B s (w.heap.size+1+1) _ F.2 (Y.ab.below (jm _ _ _) qo))))
     refine jn ?_;intro w3 J;obtain⟨⟨dq,ag⟩,z⟩:=J;have M:Below w2.heap.size w2 w3:=by rw[z];exact jm _ _ _
     clear z;have a5:=H.trans (M.mono H.size);have aA:Hid _:=AK M ae.ab;have bd:Hid (PlacesAt w3 (w.heap.size+1+1) B B.ah.length B.aw.length):=Y.ab.below M qo;clear g0 g1 m0 m1 m2 m3 m4 m5 m6 z0 z1 z2 z3 z4 z5 z6 z7 z8 z9 be bk bm;go_wp2
     go_roundw
     case rel=>exact⟨k+1,qo,qn,a5,aA,bd,A9 aB.ab az.ab⟩
     case measure=>simp[intOf];omega
   obtain⟨k',rfl⟩:∃k',k=k'+1:=⟨k - 1,qo⟩;clear a7;obtain⟨p,ba⟩:∃p,B.ar[k']?=some p:=⟨B.ar[k']' qo,by rw[dz]⟩;have bo:Hid _:=ba;obtain⟨y0,y1,y2,y3,y4,y5,y6⟩:=((aJ k' p ba).below (hb.trans (bb.mono hb.size)) bC).grown;have b5:=Az aj.ab 0 rfl;have b6:=Az aj.ab 1 rfl;have b7:=Az aj.ab 2 rfl;have b8:=Az aj.ab 3 rfl;have b9:=Az aj.ab 4 rfl;have ca:=Az aj.ab 5 rfl;have cb:=Az aj.ab 6 rfl;have b4:=Az an.ab 2 rfl;clear ba aJ a9;cases a8:An p s
   ·have Z:Hid (BI B (k'+1)=false):=by unfold Hid BI;rw[ak.ab];simp[bo.ab,a8]
    go_wp2;clear x0 x1 x2 x3 x4 x5 x6;refine jl qk qk ?_
    repeat (first|go_big_quiet_step (exact jk (CW p s _))|quiet_step (exact jk (CW p s _)))
    refine jn ?_;intro w2 J;obtain⟨⟨dq,ag⟩,z⟩:=J;have aa:Below (wr.alloc (.cells (qcV s) 76)).heap.size (wr.alloc (.cells (qcV s) 76)) w2:=by rw[z];exact jm _ _ _
    clear z;go_wp2;go_ret;exact⟨AQ (Ao af Z.ab).symm,ax.trans (aa.mono ax.size)⟩
   ·have b3:Hid (An p s=true):=a8
    go_wp2;clear x0 x1 x2 x3 x4 x5 x6;refine jl qk qk ?_
    repeat (first|go_big_quiet_step (exact jk (CW p s _))|quiet_step (exact jk (CW p s _)))
    refine jn ?_;intro w2 J;obtain⟨⟨dq,ag⟩,z⟩:=J;have aa:Below (wr.alloc (.cells (qcV s) 76)).heap.size (wr.alloc (.cells (qcV s) 76)) w2:=by rw[z];exact jm _ _ _
    clear z;clear b5 b6 b7 b8 b9 ca cb b4 a8 y0 y1 y2 y3 y4 y5 y6;have H:=ax.trans (aa.mono ax.size);have W:Hid _:=AK aa aj.ab (by rw[al.ab];omega);have ae:Hid _:=AK aa an.ab (by rw[al.ab];omega);have Y:Hid (PlacesAt w2 (w.heap.size+1+1) B B.ah.length B.aw.length):=aS.ab.below aa (by rw[al.ab];omega);have ch:wr.heap.size<w2.heap.size:=by have:=aa.size;rw[al.ab]at this;omega
    have r0:=AJ W.ab 0;obtain⟨n,D,hn,O,h1,h2,h3,h4⟩:=Y.ab;have H1:Hid _:=h1;have H2:Hid _:=h2;clear h1 h2 h3 h4
    cases hf:A5 B s.aa with
    |none=>
     have Z:Hid (BI B (k'+1)=false):=by unfold Hid BI;rw[ak.ab];simp[cpB,hf]
     have HH:Hid (Maps.has D (key 1 s.aa)=false):=H1.ab s.aa F.1 (FZ hf);have HA:Hid (D.atKey (key 1 s.aa) (.lit (.int .i64 0))=.lit (.int .i64 0)):=atKey_of_not_has HH.ab _
     go_wp2_with (at_lookup;refine Ap _ rfl (.tmp 32) (.tmp 35) 141 rfl 181 3 .i64 thingLaw Tryz.underlying141 Tryz.underlying3 (DB _) (w.heap.size+1+1) n D rfl O _ _ rfl (Cy 1 s.aa wf1 F.1) 0 false HA.ab HH.ab ?_)
     refine jl qk qk ?_
     repeat (first|go_big_quiet_step (fail)|quiet_step (fail))
     refine jn ?_;intro w3 J;obtain⟨⟨dq,ag⟩,z⟩:=J;have M:Below w2.heap.size w2 w3:=by rw[z];exact jm _ _ _
     clear z;go_wp2;go_ret;exact⟨AQ (Ao af Z.ab).symm,H.trans (M.mono H.size)⟩
    |some sv=>
     obtain⟨i,a6,hi,aD⟩:=FX hf;have ah:=H2.ab i sv a6 hi;rw[aD]at ah;have HH:Hid (Maps.has D (key 1 s.aa)=true):=ah.1;have HA:Hid (D.atKey (key 1 s.aa) (.lit (.int .i64 0))=.lit (.int .i64 (i:Int))):=ah.2;have am:Hid (cpB B s=(GI B.av sv s&&Cu B.aw s)):=by unfold Hid cpB;rw[hf]
     obtain⟨z0,z1,z2,z3,z4,z5,z6,z7,z8,z9,be,bk,bm⟩:=((aN i sv hi).below H aQ).grown;have g0:=Az ae.ab 0 rfl;have g1:=Az ae.ab 1 rfl;have m0:=Az W.ab 0 rfl;have m1:=Az W.ab 1 rfl;have m2:=Az W.ab 2 rfl;have m3:=Az W.ab 3 rfl;have m4:=Az W.ab 4 rfl;have m5:=Az W.ab 5 rfl;have m6:=Az W.ab 6 rfl;clear hf ah aD hi;cases aq:GI B.av sv s
     ·have Z:Hid (BI B (k'+1)=false):=by unfold Hid BI;rw[ak.ab];simp[am.ab,aq]
      go_wp2_with (at_lookup;refine Ap _ rfl (.tmp 32) (.tmp 35) 141 rfl 181 3 .i64 thingLaw Tryz.underlying141 Tryz.underlying3 (DB _) (w.heap.size+1+1) n D rfl O _ _ rfl (Cy 1 s.aa wf1 F.1) (i:Int) true HA.ab HH.ab ?_)
      refine jl qk qk ?_
      repeat (first|go_big_quiet_step (first|exact jk (BU s sv B.av _)|exact jk (BW B s (w.heap.size+1+1) _ F.2 (Y.ab.below (jm _ _ _) qo)))|quiet_step (first|exact jk (BU s sv B.av _)|exact jk (BW B s (w.heap.size+1+1) _ F.2 (Y.ab.below (jm _ _ _) qo))))
      refine jn ?_;intro w3 J;obtain⟨⟨dq,ag⟩,z⟩:=J;have M:Below w2.heap.size w2 w3:=by rw[z];exact jm _ _ _
      clear z;go_wp2;go_ret;exact⟨AQ (Ao af Z.ab).symm,H.trans (M.mono H.size)⟩
     cases aC:Cu B.aw s
     ·have Z:Hid (BI B (k'+1)=false):=by unfold Hid BI;rw[ak.ab];simp[am.ab,aq,aC]
      go_wp2_with (at_lookup;refine Ap _ rfl (.tmp 32) (.tmp 35) 141 rfl 181 3 .i64 thingLaw Tryz.underlying141 Tryz.underlying3 (DB _) (w.heap.size+1+1) n D rfl O _ _ rfl (Cy 1 s.aa wf1 F.1) (i:Int) true HA.ab HH.ab ?_)
      refine jl qk qk ?_
      repeat (first|go_big_quiet_step (first|exact jk (BU s sv B.av _)|exact jk (BW B s (w.heap.size+1+1) _ F.2 (Y.ab.below (jm _ _ _) qo)))|quiet_step (first|exact jk (BU s sv B.av _)|exact jk (BW B s (w.heap.size+1+1) _ F.2 (Y.ab.below (jm _ _ _) qo))))
      refine jn ?_;intro w3 J;obtain⟨⟨dq,ag⟩,z⟩:=J;have M:Below w2.heap.size w2 w3:=by rw[z];exact jm _ _ _
      clear z;go_wp2;go_ret;exact⟨AQ (Ao af Z.ab).symm,H.trans (M.mono H.size)⟩
     have az:Hid (BI B (k'+1)=true):=by unfold Hid BI;rw[ak.ab];simp[am.ab,aq,aC,bo.ab,b3.ab]
     go_wp2_with (at_lookup;refine Ap _ rfl (.tmp 32) (.tmp 35) 141 rfl 181 3 .i64 thingLaw Tryz.underlying141 Tryz.underlying3 (DB _) (w.heap.size+1+1) n D rfl O _ _ rfl (Cy 1 s.aa wf1 F.1) (i:Int) true HA.ab HH.ab ?_)
     refine jl qk qk ?_
     repeat (first|go_big_quiet_step (first|exact jk (BU s sv B.av _)|exact jk (BW B s (w.heap.size+1+1) _ F.2 (Y.ab.below (jm _ _ _) qo)))|quiet_step (first|exact jk (BU s sv B.av _)|exact jk (BW B s (w.heap.size+1+1) _ F.2 (Y.ab.below (jm _ _ _) qo))))
     refine jn ?_;intro w3 J;obtain⟨⟨dq,ag⟩,z⟩:=J;have M:Below w2.heap.size w2 w3:=by rw[z];exact jm _ _ _
     clear z;have a5:=H.trans (M.mono H.size);have aA:Hid _:=AK M ae.ab;have bd:Hid (PlacesAt w3 (w.heap.size+1+1) B B.ah.length B.aw.length):=Y.ab.below M qo;clear g0 g1 m0 m1 m2 m3 m4 m5 m6 z0 z1 z2 z3 z4 z5 z6 z7 z8 z9 be bk bm;go_wp2
     go_roundw
     case rel=>exact⟨(k'+1)+1,qo,qn,a5,aA,bd,A9 aB.ab az.ab⟩
     case measure=>simp[intOf];omega
  ·go_wp2
   go_ret;exact⟨AQ (CY λi hi=>aB.ab i qo).symm,hb⟩
def bkP(B:Bk):Nat->Bool
 |0=>inB B.av 0 1000000
 |1=>decide (B.ah.length<=8)&&decide (B.ar.length<=200)&&decide (B.aw.length<=6)
 |2=>BT (BJ B) B.ah.length
 |3=>BT (CQ B) B.aw.length
 |_=>BT (BI B) B.ar.length
theorem bkP_all(B:Bk):BT (bkP B) 5=Aj B:=by
 have h:BT (bkP B) 5=(bkP B 0&&(bkP B 1&&(bkP B 2&&(bkP B 3&&(bkP B 4&&true))))):=rfl;rw[h];simp only[bkP,Aj,iX,Bool.and_assoc]
theorem Kb{B:Bk}(h:∀i,i<B.ah.length->BJ B i=true):∀(j i:Nat) s t,i<j->B.ah[i]?=some s->B.ah[j]?=some t->Op.bytesLess s.name.toList t.name.toList=true
 |0,i,_,_,O,_,_=>absurd O qo
 |j+1,i,s,t,O,H,W=>by
  have z:j+1<B.ah.length:=(AC W).1;obtain⟨p,F⟩:∃p,B.ah[j]?=some p:=⟨B.ah[j]' qo,by rw[dz]⟩
  have M:Op.bytesLess p.name.toList t.name.toList=true:=by
   have:=h (j+1) z;unfold BJ at this;rw[W]at this;simp[F]at this;exact this.2
  rcases eW i j with J|J
  ·exact CP _ _ _ (Kb h j i s p J H F) M
  ·have e:i=j:=qo
   subst e;rw[F]at H;cases H;exact M
theorem IK{B:Bk}(h:BT (BJ B) B.ah.length=true):Ja B:=λi j s t z J M e=>by
 have F:∀i,i<B.ah.length->BJ B i=true:=λi H=>by
  unfold BT at h;exact dt.1 h i (dH.2 H)
 have:=Kb F j i s t z J M;rw[e,BE]at this;cases this
theorem Hz(B:Bk)(a1 a2 a3:qO)(c1 c2 c3:Nat)(w:World)(F:B.aR)(J:B.aP)(H:Ja B)(z:BkAt w a1 a2 a3 B):
  Calls Tryz.prog 73 #[.agg (qbV B a1 c1 a2 c2 a3 c3)] w λe w'=>e=.returned (.bool (BT (BI B) B.ar.length))/\Below w.heap.size w w':=by
 by_cases h:B.ah=[]
 ·exact NI B a1 a2 a3 c1 c2 c3 w F J H z h
 ·exact Lc B a1 a2 a3 c1 c2 c3 w F J H z h
def FnsB(w:World)(b:Nat):Prop:=w.heap[b]?=some (.cells #[.func (.func 69) #[] #[],.func (.func 70) #[] #[],.func (.func 71) #[] #[],.func (.func 72) #[] #[],.func (.func 73) #[] #[]] 59 (0,0))
theorem Pz(B:Bk)(a1 a2 a3:qO)(c1 c2 c3:Nat)(b:Nat)(w:World)(hS:B.aR)(hZ:B.aP)(hB:BkAt w a1 a2 a3 B)(hF:FnsB w b):
  Calls Tryz.prog 68 #[.agg (qbV B a1 c1 a2 c2 a3 c3),.slice (qad b) 5 5] w λe w'=>e=.returned (.bool (BT (bkP B) 5))/\Below w.heap.size w w':=by
 have aq:=AN w (.cells (qbV B a1 c1 a2 c2 a3 c3) 28);have am:Hid _:=dm w (.cells (qbV B a1 c1 a2 c2 a3 c3) 28);have al:b<w.heap.size:=(AB hF).1;have HF:Hid (FnsB w b):=hF;clear hF;go_enter Tryz.func68,Tryz.ntmps68;go_wp2
 go_loopw [9] (λiv wr=>∃k:Nat,k<=5/\iv=In i6 k/\Below w.heap.size w wr/\Hid (qBl wr (w.heap.size) (qbV B a1 c1 a2 c2 a3 c3) 28)/\Hid (∀i,i<k->bkP B i=true)) (λi _=>5 - (intOf i).toNat)
 case atStart=>exact⟨0,qo,rfl,aq,am,λi hi=>absurd hi qo⟩
 case round=>
  obtain⟨k,hk,rfl,hb,F,M⟩:=hrel;have Y:w.heap.size<wr.heap.size:=(AB F.ab).1;have Z:Hid _:=AK hb HF.ab al;have x0:=AJ F.ab 0;have x1:=AJ F.ab 1;have x2:=AJ F.ab 2;have x3:=AJ F.ab 3
  by_cases h0:k=0
  ·subst h0
   have f0:=AJ Z.ab 0;cases hv:(inB B.av 0 1000000)
   ·have O:Hid (bkP B 0=false):=hv
    go_wp2_with fail
    refine(Jq B a1 a2 a3 c1 c2 c3 _).mono ?_;rintro e w1 ⟨W,z⟩;subst W;have H:=hb.trans (z.mono hb.size);rw[hv];clear x0 x1 x2 x3 f0;go_wp2;go_ret;exact⟨AQ (Ao qo O.ab).symm,H⟩
   ·have O:Hid (bkP B 0=true):=hv
    go_wp2_with fail
    refine(Jq B a1 a2 a3 c1 c2 c3 _).mono ?_;rintro e w1 ⟨W,z⟩;subst W;have H:=hb.trans (z.mono hb.size);have J:Hid _:=AK z F.ab Y;rw[hv];clear x0 x1 x2 x3 f0;go_wp2
    go_roundw
    case rel=>exact⟨0+1,qo,qn,H,J,A9 M.ab O.ab⟩
    case measure=>simp[intOf]
  by_cases h1:k=1
  ·subst h1
   have f1:=AJ Z.ab 1;cases hv:(decide (B.ah.length<=8)&&decide (B.ar.length<=200)&&decide (B.aw.length<=6))
   ·have O:Hid (bkP B 1=false):=hv
    go_wp2_with fail
    refine(Ik B a1 a2 a3 c1 c2 c3 _ hS).mono ?_;rintro e w1 ⟨W,z⟩;subst W;have H:=hb.trans (z.mono hb.size);rw[hv];clear x0 x1 x2 x3 f1;go_wp2;go_ret;exact⟨AQ (Ao qo O.ab).symm,H⟩
   ·have O:Hid (bkP B 1=true):=hv
    go_wp2_with fail
    refine(Ik B a1 a2 a3 c1 c2 c3 _ hS).mono ?_;rintro e w1 ⟨W,z⟩;subst W;have H:=hb.trans (z.mono hb.size);have J:Hid _:=AK z F.ab Y;rw[hv];clear x0 x1 x2 x3 f1;go_wp2
    go_roundw
    case rel=>exact⟨1+1,qo,qn,H,J,A9 M.ab O.ab⟩
    case measure=>simp[intOf]
  by_cases h2:k=2
  ·subst h2
   have f2:=AJ Z.ab 2;cases hv:(BT (BJ B) B.ah.length)
   ·have O:Hid (bkP B 2=false):=hv
    go_wp2_with fail
    refine(GO B a1 a2 a3 c1 c2 c3 _ hS hZ (hB.below hb)).mono ?_;rintro e w1 ⟨W,z⟩;subst W;have H:=hb.trans (z.mono hb.size);rw[hv];clear x0 x1 x2 x3 f2;go_wp2;go_ret;exact⟨AQ (Ao qo O.ab).symm,H⟩
   ·have O:Hid (bkP B 2=true):=hv
    go_wp2_with fail
    refine(GO B a1 a2 a3 c1 c2 c3 _ hS hZ (hB.below hb)).mono ?_;rintro e w1 ⟨W,z⟩;subst W;have H:=hb.trans (z.mono hb.size);have J:Hid _:=AK z F.ab Y;rw[hv];clear x0 x1 x2 x3 f2;go_wp2
    go_roundw
    case rel=>exact⟨2+1,qo,qn,H,J,A9 M.ab O.ab⟩
    case measure=>simp[intOf]
  by_cases h3:k=3
  ·subst h3
   have f3:=AJ Z.ab 3;cases hv:(BT (CQ B) B.aw.length)
   ·have O:Hid (bkP B 3=false):=hv
    go_wp2_with fail
    refine(H7 B a1 a2 a3 c1 c2 c3 _ hS hZ (hB.below hb)).mono ?_;rintro e w1 ⟨W,z⟩;subst W;have H:=hb.trans (z.mono hb.size);rw[hv];clear x0 x1 x2 x3 f3;go_wp2;go_ret;exact⟨AQ (Ao qo O.ab).symm,H⟩
   ·have O:Hid (bkP B 3=true):=hv
    go_wp2_with fail
    refine(H7 B a1 a2 a3 c1 c2 c3 _ hS hZ (hB.below hb)).mono ?_;rintro e w1 ⟨W,z⟩;subst W;have H:=hb.trans (z.mono hb.size);have J:Hid _:=AK z F.ab Y;rw[hv];clear x0 x1 x2 x3 f3;go_wp2
    go_roundw
    case rel=>exact⟨3+1,qo,qn,H,J,A9 M.ab O.ab⟩
    case measure=>simp[intOf]
  by_cases h4:k=4
  ·subst h4
   have f4:=AJ Z.ab 4;cases hv:(BT (BI B) B.ar.length)
   ·have O:Hid (bkP B 4=false):=hv
    go_wp2_with fail
    refine(Hz B a1 a2 a3 c1 c2 c3 _ hS hZ (IK (M.ab 2 qo)) (hB.below hb)).mono ?_;rintro e w1 ⟨W,z⟩;subst W;have H:=hb.trans (z.mono hb.size);rw[hv];clear x0 x1 x2 x3 f4;go_wp2;go_ret;exact⟨AQ (Ao qo O.ab).symm,H⟩
   ·have O:Hid (bkP B 4=true):=hv
    go_wp2_with fail
    refine(Hz B a1 a2 a3 c1 c2 c3 _ hS hZ (IK (M.ab 2 qo)) (hB.below hb)).mono ?_;rintro e w1 ⟨W,z⟩;subst W;have H:=hb.trans (z.mono hb.size);have J:Hid _:=AK z F.ab Y;rw[hv];clear x0 x1 x2 x3 f4;go_wp2
    go_roundw
    case rel=>exact⟨4+1,qo,qn,H,J,A9 M.ab O.ab⟩
    case measure=>simp[intOf]
  ·have h5:k=5:=qo
   subst h5;clear x0 x1 x2 x3;go_wp2;go_ret;exact⟨AQ (CY M.ab).symm,hb⟩
theorem It(B:Bk)(a1 a2 a3:qO)(c1 c2 c3:Nat)(w:World)(M:B.aR)(O:B.aP)(J:BkAt w a1 a2 a3 B):
  Calls Tryz.prog 24 #[.agg (qbV B a1 c1 a2 c2 a3 c3)] w λe w'=>e=.returned (.bool (Aj B))/\Below w.heap.size w w':=by
 obtain⟨W,t1,t2⟩:=CL w (.cells (qbV B a1 c1 a2 c2 a3 c3) 28) (.cells #[.func (.func 69) #[] #[],.func (.func 70) #[] #[],.func (.func 71) #[] #[],.func (.func 72) #[] #[],.func (.func 73) #[] #[]] 59);have z:Below w.heap.size w ((w.alloc (.cells (qbV B a1 c1 a2 c2 a3 c3) 28)).alloc (.cells #[.func (.func 69) #[] #[],.func (.func 70) #[] #[],.func (.func 71) #[] #[],.func (.func 72) #[] #[],.func (.func 73) #[] #[]] 59)):=((dG _ _).alloc AG _).alloc qs _;have H:Hid _:=t1;clear W t1 t2;go_enter Tryz.func24,Tryz.ntmps24
 go_wp2_with fail
 refine(Pz B a1 a2 a3 c1 c2 c3 (w.heap.size+1) _ M O (J.below z) H.ab).mono ?_;rintro e w1 ⟨rfl,F⟩;rw[bkP_all];go_wp2;go_ret;exact⟨rfl,z.trans (F.mono z.size)⟩
end
section
open Go.RowKit Go.Sort
open Go.Value renaming int->In,slice->Sl,string->Sg,bool->Bo,pointer->Po
open Go.IntKind renaming i64->i6
theorem Fy(a b:Cp)(w:World):
  Calls Tryz.prog 67 #[.agg (qcV a),.agg (qcV b)] w λe w'=>e=.returned (.bool (An a b))/\Below w.heap.size w w':=by
 have z:Below w.heap.size w ((w.alloc (.cells (qcV a) 76)).alloc (.cells (qcV b) 76)):=((dG _ _).alloc AG _).alloc qs _;cases F:Op.bytesLess a.aa.toList b.aa.toList
 ·cases H:(a.aa.toList==b.aa.toList)
  ·go_enter Tryz.func67,Tryz.ntmps67
   go_wp2;go_ret;exact⟨AQ (by simp[An,F,H]),z⟩
  ·go_enter Tryz.func67,Tryz.ntmps67
   go_wp2;go_ret;exact⟨AQ (by simp[An,F,H]),z⟩
 ·go_enter Tryz.func67,Tryz.ntmps67
  go_wp2;go_ret;exact⟨AQ (by simp[An,F]),z⟩
theorem DW(s:qB)(w:World)(F:s.size<=maxLen):
  Calls Tryz.prog 65 #[Sg s] w λe w'=>e=.returned (.bool (Dh s))/\Below w.heap.size w w':=
 (Jz s w F).mono λe w' ⟨z,H⟩=>⟨z,by rw[H];exact dG _ _⟩
theorem A7(B:Bk)(a1 a2 a3:qO)(c1 c2 c3:Nat)(w:World)(hS:B.aR)(hZ:B.aP)(hB:BkAt w a1 a2 a3 B):
  Calls Tryz.prog 23 #[.agg (qbV B a1 c1 a2 c2 a3 c3)] w λe w'=>e=.returned (.bool (Aj B))/\Below w.heap.size w w':=by
 obtain⟨ax,ay,az⟩:=hS;have aG:=AN w (.cells (qbV B a1 c1 a2 c2 a3 c3) 28);have aQ:Hid _:=dm w (.cells (qbV B a1 c1 a2 c2 a3 c3) 28);cases h0:inB B.av 0 1000000
 ·go_enter Tryz.func23,Tryz.ntmps23
  go_wp2_with (go_at_call 63;refine(Cx _ _ _ _).mono ?_;rintro e w' ⟨rfl,rfl⟩)
  go_ret;exact⟨AQ (by simp[Aj,h0]),aG⟩
 by_cases bX:8<(B.ah.length:Int)
 ·go_enter Tryz.func23,Tryz.ntmps23
  go_wp2_with (go_at_call 63;refine(Cx _ _ _ _).mono ?_;rintro e w' ⟨rfl,rfl⟩)
  go_ret;exact⟨AQ (by have:¬B.ah.length<=8:=qo;simp[Aj,this]),aG⟩
 by_cases b0:200<(B.ar.length:Int)
 ·go_enter Tryz.func23,Tryz.ntmps23
  go_wp2_with (go_at_call 63;refine(Cx _ _ _ _).mono ?_;rintro e w' ⟨rfl,rfl⟩)
  go_ret;exact⟨AQ (by have:¬B.ar.length<=200:=qo;simp[Aj,this]),aG⟩
 by_cases b2:6<(B.aw.length:Int)
 ·go_enter Tryz.func23,Tryz.ntmps23
  go_wp2_with (go_at_call 63;refine(Cx _ _ _ _).mono ?_;rintro e w' ⟨rfl,rfl⟩)
  go_ret;exact⟨AQ (by have:¬B.aw.length<=6:=qo;simp[Aj,this]),aG⟩
 have HV:Hid (Aj B=(BT (BJ B) B.ah.length&&BT (CQ B) B.aw.length&&BT (BI B) B.ar.length)):=by
  have q1:B.ah.length<=8:=qo
  have q2:B.ar.length<=200:=qo
  have q3:B.aw.length<=6:=qo
  unfold Hid;simp[Aj,h0,q1,q2,q3]
 go_enter Tryz.func23,Tryz.ntmps23
 go_wp2_with (go_at_call 63;refine(Cx _ _ _ _).mono ?_;rintro e w' ⟨rfl,rfl⟩)
 clear h0
 go_loopw [3] (λiv wr=>∃k:Nat,k<=B.ah.length/\iv=In i6 k/\Below w.heap.size w wr/\Hid (qBl wr (w.heap.size) (qbV B a1 c1 a2 c2 a3 c3) 28)/\Hid (∀i,i<k->BJ B i=true)) (λi _=>B.ah.length - (intOf i).toNat)
 case atStart=>exact⟨0,qo,rfl,aG,aQ,λi hi=>absurd hi qo⟩
 case round=>
  obtain⟨k,hk,rfl,hb,z,Y⟩:=hrel;have aj:w.heap.size<wr.heap.size:=(AB z.ab).1;have e0:=AJ z.ab 0;have e1:=AJ z.ab 1;have e2:=AJ z.ab 2;have e3:=AJ z.ab 3
  by_cases ae:k<B.ah.length
  ·have af:B.ah≠[]:=by intro h;rw[h]at ae;simp at ae
   obtain⟨b,a4,ea,aw,Z⟩:=hB.1 af;subst ea;obtain⟨s,H⟩:∃s,B.ah[k]?=some s:=⟨B.ah[k],by simp[ae]⟩;have M:=hZ.2.2.2.1 s (AE H);obtain⟨x0,x1,x2,x3,x4,x5,x6,x7,x8,x9,a5,a6,a7⟩:=((Z k s H).below hb aw).grown;have g0:=Az z.ab 0 rfl;have g1:=Az z.ab 1 rfl;have g2:=Az z.ab 2 rfl;have g3:=Az z.ab 3 rfl;have au:=hB.below hb;cases ah:svcB B.av s
   ·have al:Hid (BJ B k=false):=by unfold Hid BJ;rw[H];simp[ah]
    clear H Z af;go_wp2;refine jl qk qk ?_
    repeat (first|go_big_quiet_step (exact jk (CA s B.av _ M))|quiet_step (exact jk (CA s B.av _ M)))
    refine jn ?_;intro w2 W;obtain⟨⟨dq,aq⟩,F⟩:=W;have J:Below wr.heap.size wr w2:=by rw[F];exact jm _ _ _
    clear F;go_wp2;go_ret;exact⟨AQ (by simp[Aj,Ao ae al.ab]),hb.trans (J.mono hb.size)⟩
   by_cases an:k=0
   ·have aa:Hid (BJ B k=true):=by unfold Hid BJ;rw[H];simp[ah,an]
    have hz:decide (0<k)=false:=qp
    clear H Z af an;go_wp2;refine jl qk qk ?_
    repeat (first|go_big_quiet_step (exact jk (CA s B.av _ M))|quiet_step (exact jk (CA s B.av _ M)))
    refine jn ?_;intro w2 W;obtain⟨⟨dq,aq⟩,F⟩:=W;have J:Below wr.heap.size wr w2:=by rw[F];exact jm _ _ _
    clear F;have O:Hid _:=AK J z.ab aj;have am:=hb.trans (J.mono hb.size);clear g0 g1 g2 g3 x0 x1 x2 x3 x4 x5 x6 x7 x8 x9 a5 a6 a7 e0 e1 e2 e3;go_wp2
    go_roundw
    case rel=>exact⟨k+1,qo,qn,am,O,A9 Y.ab aa.ab⟩
    case measure=>simp[intOf];omega
   obtain⟨k',rfl⟩:∃k',k=k'+1:=⟨k - 1,qo⟩;clear an;obtain⟨p,ag⟩:∃p,B.ah[k']?=some p:=⟨B.ah[k']' qo,by rw[dz]⟩;obtain⟨y0,y1,y2,y3,y4,y5,y6,y7,y8,y9,bn,bo,bq⟩:=((Z k' p ag).below hb aw).grown;cases aA:Op.bytesLess p.name.toList s.name.toList
   ·have al:Hid (BJ B (k'+1)=false):=by unfold Hid BJ;rw[H];simp[ah,ag,aA]
    clear H Z af ag;go_wp2;refine jl qk qk ?_
    repeat (first|go_big_quiet_step (exact jk (CA s B.av _ M))|quiet_step (exact jk (CA s B.av _ M)))
    refine jn ?_;intro w2 W;obtain⟨⟨dq,aq⟩,F⟩:=W;have J:Below wr.heap.size wr w2:=by rw[F];exact jm _ _ _
    clear F;go_wp2;go_ret;exact⟨AQ (by simp[Aj,Ao ae al.ab]),hb.trans (J.mono hb.size)⟩
   ·have aa:Hid (BJ B (k'+1)=true):=by unfold Hid BJ;rw[H];simp[ah,ag,aA]
    clear H Z af ag;go_wp2;refine jl qk qk ?_
    repeat (first|go_big_quiet_step (exact jk (CA s B.av _ M))|quiet_step (exact jk (CA s B.av _ M)))
    refine jn ?_;intro w2 W;obtain⟨⟨dq,aq⟩,F⟩:=W;have J:Below wr.heap.size wr w2:=by rw[F];exact jm _ _ _
    clear F;have O:Hid _:=AK J z.ab aj;have am:=hb.trans (J.mono hb.size);clear g0 g1 g2 g3 x0 x1 x2 x3 x4 x5 x6 x7 x8 x9 a5 a6 a7 y0 y1 y2 y3 y4 y5 y6 y7 y8 y9 bn bo bq e0 e1 e2 e3;go_wp2
    go_roundw
    case rel=>exact⟨k'+1+1,qo,qn,am,O,A9 Y.ab aa.ab⟩
    case measure=>simp[intOf];omega
  ·have aB:Hid (BT (BJ B) B.ah.length=true):=CY λi hi=>Y.ab i qo
   clear Y;go_wp2
   go_loopw [4] (λiv wr=>∃k:Nat,k<=B.aw.length/\iv=In i6 k/\Below w.heap.size w wr/\Hid (qBl wr (w.heap.size) (qbV B a1 c1 a2 c2 a3 c3) 28)/\Hid (∀i,i<k->CQ B i=true)) (λi _=>B.aw.length - (intOf i).toNat)
   case atStart=>exact⟨0,qo,rfl,hb,z,λi hi=>absurd hi qo⟩
   case round=>
    obtain⟨k,hk,rfl,hb,z,Y⟩:=hrel;have aj:w.heap.size<wr.heap.size:=(AB z.ab).1;have e0:=AJ z.ab 0;have e1:=AJ z.ab 1;have e2:=AJ z.ab 2;have e3:=AJ z.ab 3
    by_cases ae:k<B.aw.length
    ·have af:B.aw≠[]:=by intro h;rw[h]at ae;simp at ae
     obtain⟨b,a4,ea,aw,Z⟩:=hB.2.2 af;subst ea;obtain⟨s,H⟩:∃s,B.aw[k]?=some s:=⟨B.aw[k],by simp[ae]⟩;have M:=hZ.2.2.2.2.2 s (AE H);obtain⟨x0,x1⟩:=((Z k s H).below hb aw).grown;have g0:=Az z.ab 0 rfl;have g1:=Az z.ab 1 rfl;have g2:=Az z.ab 2 rfl;have g3:=Az z.ab 3 rfl;have au:=hB.below hb;cases ah:Dh s.name
     ·have al:Hid (CQ B k=false):=by unfold Hid CQ;rw[H];simp[ah]
      clear H Z af;go_wp2;refine jl qk qk ?_
      repeat (first|go_big_quiet_step (exact jk (DW s.name _ M))|quiet_step (exact jk (DW s.name _ M)))
      refine jn ?_;intro w2 W;obtain⟨⟨dq,aq⟩,F⟩:=W;have J:Below wr.heap.size wr w2:=by rw[F];exact jm _ _ _
      clear F;go_wp2;go_ret;exact⟨AQ (by simp[Aj,Ao ae al.ab]),hb.trans (J.mono hb.size)⟩
     by_cases an:k=0
     ·have aa:Hid (CQ B k=true):=by unfold Hid CQ;rw[H];simp[ah,an]
      have hz:decide (0<k)=false:=qp
      clear H Z af an;go_wp2;refine jl qk qk ?_
      repeat (first|go_big_quiet_step (exact jk (DW s.name _ M))|quiet_step (exact jk (DW s.name _ M)))
      refine jn ?_;intro w2 W;obtain⟨⟨dq,aq⟩,F⟩:=W;have J:Below wr.heap.size wr w2:=by rw[F];exact jm _ _ _
      clear F;have O:Hid _:=AK J z.ab aj;have am:=hb.trans (J.mono hb.size);clear g0 g1 g2 g3 x0 x1 e0 e1 e2 e3;go_wp2
      go_roundw
      case rel=>exact⟨k+1,qo,qn,am,O,A9 Y.ab aa.ab⟩
      case measure=>simp[intOf];omega
     obtain⟨k',rfl⟩:∃k',k=k'+1:=⟨k - 1,qo⟩;clear an;obtain⟨p,ag⟩:∃p,B.aw[k']?=some p:=⟨B.aw[k']' qo,by rw[dz]⟩;obtain⟨y0,y1⟩:=((Z k' p ag).below hb aw).grown;cases aA:Op.bytesLess p.name.toList s.name.toList
     ·have al:Hid (CQ B (k'+1)=false):=by unfold Hid CQ;rw[H];simp[ah,ag,aA]
      clear H Z af ag;go_wp2;refine jl qk qk ?_
      repeat (first|go_big_quiet_step (exact jk (DW s.name _ M))|quiet_step (exact jk (DW s.name _ M)))
      refine jn ?_;intro w2 W;obtain⟨⟨dq,aq⟩,F⟩:=W;have J:Below wr.heap.size wr w2:=by rw[F];exact jm _ _ _
      clear F;go_wp2;go_ret;exact⟨AQ (by simp[Aj,Ao ae al.ab]),hb.trans (J.mono hb.size)⟩
     ·have aa:Hid (CQ B (k'+1)=true):=by unfold Hid CQ;rw[H];simp[ah,ag,aA]
      clear H Z af ag;go_wp2;refine jl qk qk ?_
      repeat (first|go_big_quiet_step (exact jk (DW s.name _ M))|quiet_step (exact jk (DW s.name _ M)))
      refine jn ?_;intro w2 W;obtain⟨⟨dq,aq⟩,F⟩:=W;have J:Below wr.heap.size wr w2:=by rw[F];exact jm _ _ _
      clear F;have O:Hid _:=AK J z.ab aj;have am:=hb.trans (J.mono hb.size);clear g0 g1 g2 g3 x0 x1 y0 y1 e0 e1 e2 e3;go_wp2
      go_roundw
      case rel=>exact⟨k'+1+1,qo,qn,am,O,A9 Y.ab aa.ab⟩
      case measure=>simp[intOf];omega
    ·have aC:Hid (BT (CQ B) B.aw.length=true):=CY λi hi=>Y.ab i qo
     clear Y;go_wp2
     go_loopw [5] (λiv wr=>∃k:Nat,k<=B.ar.length/\iv=In i6 k/\Below w.heap.size w wr/\Hid (qBl wr (w.heap.size) (qbV B a1 c1 a2 c2 a3 c3) 28)/\Hid (∀i,i<k->BI B i=true)) (λi _=>B.ar.length - (intOf i).toNat)
     case atStart=>exact⟨0,qo,rfl,hb,z,λi hi=>absurd hi qo⟩
     case round=>
      obtain⟨k,hk,rfl,hb,z,Y⟩:=hrel;have aj:w.heap.size<wr.heap.size:=(AB z.ab).1;have e0:=AJ z.ab 0;have e1:=AJ z.ab 1;have e2:=AJ z.ab 2;have e3:=AJ z.ab 3
      by_cases ae:k<B.ar.length
      ·have af:B.ar≠[]:=by intro h;rw[h]at ae;simp at ae
       obtain⟨b,a4,ea,aw,Z⟩:=hB.2.1 af;subst ea;obtain⟨s,H⟩:∃s,B.ar[k]?=some s:=⟨B.ar[k],by simp[ae]⟩
       skip
       obtain⟨x0,x1,x2,x3,x4,x5,x6⟩:=((Z k s H).below hb aw).grown;have g0:=Az z.ab 0 rfl;have g1:=Az z.ab 1 rfl;have g2:=Az z.ab 2 rfl;have g3:=Az z.ab 3 rfl;have au:=hB.below hb;cases ah:cpB B s
       ·have al:Hid (BI B k=false):=by unfold Hid BI;rw[H];simp[ah]
        clear H Z af;go_wp2;refine jl qk qk ?_
        repeat (first|go_big_quiet_step (exact jk (Cf B s a1 _ a3 c1 c2 c3 _ ⟨ax,ay,az⟩ (au.grown _ _)))|quiet_step (exact jk (Cf B s a1 _ a3 c1 c2 c3 _ ⟨ax,ay,az⟩ (au.grown _ _))))
        refine jn ?_;intro w2 W;obtain⟨⟨dq,aq⟩,F⟩:=W;have J:Below wr.heap.size wr w2:=by rw[F];exact jm _ _ _
        clear F;go_wp2;go_ret;exact⟨AQ (by simp[Aj,Ao ae al.ab]),hb.trans (J.mono hb.size)⟩
       by_cases an:k=0
       ·have aa:Hid (BI B k=true):=by unfold Hid BI;rw[H];simp[ah,an]
        have hz:decide (0<k)=false:=qp
        clear H Z af an;go_wp2;refine jl qk qk ?_
        repeat (first|go_big_quiet_step (exact jk (Cf B s a1 _ a3 c1 c2 c3 _ ⟨ax,ay,az⟩ (au.grown _ _)))|quiet_step (exact jk (Cf B s a1 _ a3 c1 c2 c3 _ ⟨ax,ay,az⟩ (au.grown _ _))))
        refine jn ?_;intro w2 W;obtain⟨⟨dq,aq⟩,F⟩:=W;have J:Below wr.heap.size wr w2:=by rw[F];exact jm _ _ _
        clear F;have O:Hid _:=AK J z.ab aj;have am:=hb.trans (J.mono hb.size);clear g0 g1 g2 g3 x0 x1 x2 x3 x4 x5 x6 e0 e1 e2 e3;go_wp2
        go_roundw
        case rel=>exact⟨k+1,qo,qn,am,O,A9 Y.ab aa.ab⟩
        case measure=>simp[intOf];omega
       obtain⟨k',rfl⟩:∃k',k=k'+1:=⟨k - 1,qo⟩;clear an;obtain⟨p,ag⟩:∃p,B.ar[k']?=some p:=⟨B.ar[k']' qo,by rw[dz]⟩;obtain⟨y0,y1,y2,y3,y4,y5,y6⟩:=((Z k' p ag).below hb aw).grown;cases aA:An p s
       ·have al:Hid (BI B (k'+1)=false):=by unfold Hid BI;rw[H];simp[ah,ag,aA]
        clear H Z af ag;go_wp2;refine jl qk qk ?_
        repeat (first|go_big_quiet_step (first|exact jk (Cf B s a1 _ a3 c1 c2 c3 _ ⟨ax,ay,az⟩ (au.grown _ _))|exact jk (Fy p s _))|quiet_step (first|exact jk (Cf B s a1 _ a3 c1 c2 c3 _ ⟨ax,ay,az⟩ (au.grown _ _))|exact jk (Fy p s _)))
        refine jn ?_;intro w2 W;obtain⟨⟨dq,aq⟩,F⟩:=W;have J:Below wr.heap.size wr w2:=by rw[F];exact jm _ _ _
        clear F;go_wp2;go_ret;exact⟨AQ (by simp[Aj,Ao ae al.ab]),hb.trans (J.mono hb.size)⟩
       ·have aa:Hid (BI B (k'+1)=true):=by unfold Hid BI;rw[H];simp[ah,ag,aA]
        clear H Z af ag;go_wp2;refine jl qk qk ?_
        repeat (first|go_big_quiet_step (first|exact jk (Cf B s a1 _ a3 c1 c2 c3 _ ⟨ax,ay,az⟩ (au.grown _ _))|exact jk (Fy p s _))|quiet_step (first|exact jk (Cf B s a1 _ a3 c1 c2 c3 _ ⟨ax,ay,az⟩ (au.grown _ _))|exact jk (Fy p s _)))
        refine jn ?_;intro w2 W;obtain⟨⟨dq,aq⟩,F⟩:=W;have J:Below wr.heap.size wr w2:=by rw[F];exact jm _ _ _
        clear F;have O:Hid _:=AK J z.ab aj;have am:=hb.trans (J.mono hb.size);clear g0 g1 g2 g3 x0 x1 x2 x3 x4 x5 x6 y0 y1 y2 y3 y4 y5 y6 e0 e1 e2 e3;go_wp2
        go_roundw
        case rel=>exact⟨k'+1+1,qo,qn,am,O,A9 Y.ab aa.ab⟩
        case measure=>simp[intOf];omega
      ·have aD:Hid (BT (BI B) B.ar.length=true):=CY λi hi=>Y.ab i qo
       clear Y;go_wp2;go_ret;exact⟨AQ (by rw[HV.ab,aB.ab,aC.ab,aD.ab];rfl),hb⟩
end
end Go.Proofs.YtbceafpodamnfaaGreatDoor
