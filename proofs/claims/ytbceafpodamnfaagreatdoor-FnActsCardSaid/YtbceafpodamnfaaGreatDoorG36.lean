import Derived.Test.YtbceafpodamnfaaGreatDoorG34
import Derived.Test.YtbceafpodamnfaaGreatDoorG35
set_option linter.all false
set_option maxHeartbeats 8000000
set_option maxRecDepth 100000
namespace Go.Proofs.YtbceafpodamnfaaGreatDoor
section
open Go.RowKit Go.Sort
theorem FV{a b:Bool}(h:a=b):Ending.returned (.bool a)=.returned (.bool b):=by rw[h]
def Cnt.cC(n:Cnt):Prop:=0<=n.aI/\0<=n.au/\n.ready<=n.aI/\n.aW<=n.aI/\n.aL<=n.aI/\0<=n.ready/\0<=n.aW/\0<=n.aL
theorem Qc(F:Int)(sv:qB)(c:Cp)(n:Cnt)(h:n.cC):(CM F sv c n).cC:=by
 unfold Cnt.cC at *;unfold CM Cu G8;cases c.aa.toList==sv.toList<;>cases c.au<;>cases c.ax==3<;>cases c.ar !=F<;>cases c.ax==4<;>simp only[gM,iq,fg]<;>omega
theorem cnt_okO{C:Cnt}{F:Int}{sv:qB}{l:List Cp}(h:C=BM F sv l l.length):C.cC:=by
 subst h;unfold BM;rw[gR]
 have key:∀(l:List Cp) (n:Cnt),n.cC->(l.foldl (λn c=>CM F sv c n) n).cC:=by
  intro l
  induction l with
  |nil=>intro n h;exact h
  |cons c l H=>intro n h;exact H _ (Qc F sv c n h)
 exact key l Cnt.none (by simp[Cnt.none,Cnt.cC])
theorem On(A:Ac)(ae:qO)(ce:Nat)(X:Bk)(s:Svc)(N g k:Nat)(I:List Int)(w:World)(ci:X.aJ)(bo:Hid (Di X.ah))(hN:N<=w.heap.size)(hk:X.af[k]?=some s)(C:Cnt)(HC:Hid (C=BM s.ar s.name X.ah X.ah.length))(hS:WkAt w N g A ae ce X k I):
  Calls Tryz.prog 191 #[.pointer (qad g)] w λe w'=>e=.returned (.bool (!BY A s C))/\Below w.heap.size w w':=by
 obtain⟨b6,bq,_⟩:=ci;obtain⟨b1,b2,b3,d1,Y,d3,ve,c5,hg,bb,bl⟩:=hS;have b0:k<X.af.length:=(AC hk).1;obtain⟨g1,e1,c7,a9⟩:=bb.af.some (by omega);subst e1;obtain⟨n1,aT⟩:∃n,Hid (X.af.length=n):=⟨_,rfl⟩;obtain⟨n2,ay⟩:∃n,Hid (X.ah.length=n):=⟨_,rfl⟩;obtain⟨n3,aW⟩:∃n,Hid (X.ak.length=n):=⟨_,rfl⟩;obtain⟨ne,cq⟩:∃n,Hid (I.length=n):=⟨_,rfl⟩;obtain⟨r2,r3⟩:RowN w N 76 7 b2 X.ah.length Y (Ar X.ah)/\RowN w N 90 2 b3 X.ak.length d3 (CN X.ak):=⟨bb.ah,bb.ak⟩;clear bb;rw[aT.O]at a9 hg b0 b6;rw[ay.O]at r2 hg;rw[aW.O]at r3 hg;rw[cq.O]at bl;have HK:Hid _:=hk;have HG:Hid _:=hg;have cf:Hid (RowIs w 34 13 g1 n1 d1 (Ab X.af)):=a9;have b5:=BU r2;have dx:=BU r3;have c6:Hid (w.ownsRow N 3 1 ve ne (CP I)):=bl;have bY:g<w.heap.size:=(AB hg).1;have b4:g1<w.heap.size:=a9.lt;clear hk hg a9 r2 r3 bl;have cz:Hid (SvcAt w g1 (k*13) s):=cf.O.bC HK.O;have bk:Hid (X.ah.length<=Y):=by have:=b5.O.cap;unfold Hid;rw[ay.O];exact this
 have aL:=E5 s.ar s.name X.ah X.ah.length (AG _);rw[<-HC.O]at aL;have cl:=aL.1;have cv:=aL.2.1;have df:Hid _:=aL;clear aL;have e7:=AJ HG.O 7 rfl;go_enter Tryz.func191,Tryz.ntmps191;obtain⟨dr,bf⟩:∃b,Hid (A.drop=b):=⟨_,rfl⟩;rw[bf.O]at e7;cases dr
 ·have HO:Hid ((!BY A s C)=true):=by unfold Hid BY;rw[bf.O];rfl
  go_wp2;go_ret;exact⟨FV HO.O.symm,dI _ _⟩
 go_upto_region 4 with(go_at_call 247;refine(DT A ae ce X.aj g g1 n1 d1 k _ _ _ _ b0 b6 HG.O).mono ?_;rintro e w1 ⟨rfl,a6⟩;have hq:=cz.O.below a6 b4;unfold SvcAt at hq;obtain⟨q0,q1,q2,q3,q4,q5,q6,q7,q8,q9,cm,cd,cr⟩:=hq;have T0:Hid _:=dm w1 (.cells ((qsV s):Array Value) 34);have bi:=AN w1 (.cells ((qsV s):Array Value) 34);obtain⟨wa,bU⟩:∃W,w1.alloc (.cells ((qsV s):Array Value) 34)=W:=⟨_,rfl⟩;rw[bU]at T0 bi)
 clear e7;clear bU q0 q1 q2 q3 q4 q5 q6 q7 q8 q9 cm cd cr;have al:=a6.trans (bi.mono a6.size);have ai:Hid _:=AK al HG.O bY;have ak:g<wa.heap.size:=AF bY al.size;have F:w1.heap.size<wa.heap.size:=(AB T0.O).1
 have aG:Hid (SlC wa b2 X.ah):=by
  have:=(b5.O.below al);rw[<-ay.O]at this;exact this.bT
 clear a6 bi;obtain⟨gn,aA⟩:∃b,Hid (s.aH=b):=⟨_,rfl⟩;have ct:Hid C.cC:=cnt_okO HC.O;cases gn
 ·refine AV 12 (by kernel_rfl) (by kernel_rfl) ?_
  apply AL
  ·intro V W K AA J M H Z
   simp only[pA]at H;clear M;obtain rfl:=H;go_wp2;exact Z.O _ brf
  refine AW (λv _=>v=.bool false) (λ_ _ _ h _=>h) ?_ ?_
  ·intro V W K AA J M H Z
   have d0:V 0=_:=M 0 (by kernel_rfl);simp only[pA,d0]at H;clear M d0;obtain rfl:=H;have t0:=AJ (AK J T0.O F) 0 rfl;have t1:=AJ (AK J T0.O F) 1 rfl;have t2:=AJ (AK J T0.O F) 2 rfl;have t3:=AJ (AK J T0.O F) 3 rfl;have t4:=AJ (AK J T0.O F) 4 rfl;have t5:=AJ (AK J T0.O F) 5 rfl;have t6:=AJ (AK J T0.O F) 6 rfl;have t7:=AJ (AK J T0.O F) 7 rfl;have t8:=AJ (AK J T0.O F) 8 rfl;have t9:=AJ (AK J T0.O F) 9 rfl;have aE:=AJ (AK J T0.O F) 10 rfl;have az:=AJ (AK J T0.O F) 11 rfl;have aC:=AJ (AK J T0.O F) 12 rfl;go_wp2;exact Z.O _ _ brf (by rw[aA.O])
  apply AL
  ·intro V W K AA J M H Z
   have d1:(λv _=>v=.bool false) (V 1) W:=M 1 (by kernel_rfl);simp only[pA]at H;clear M;generalize V 1=x1 at d1 H;obtain rfl:=H;obtain rfl:=d1;go_wp2;exact Z.O _ brf
  refine AW (λ_ _=>True) (λ_ _ _ _ _=>trivial) ?_ ?_
  ·intro V W K AA J M H Z
   have Y:V 2=_:=M 2 (by kernel_rfl);simp only[pA,Y]at H;clear M Y;obtain rfl:=H;go_wp2;exact Z.O _ _ brf trivial
  refine AW (λ_ _=>True) (λ_ _ _ _ _=>trivial) ?_ ?_
  ·intro V W K AA J M H Z
   have Y:V 2=_:=M 2 (by kernel_rfl);simp only[pA,Y]at H;clear M Y;obtain rfl:=H;go_wp2;exact Z.O _ _ brf trivial
  refine AW (λ_ _=>True) (λ_ _ _ _ _=>trivial) ?_ ?_
  ·intro V W K AA J M H Z
   have Y:V 2=_:=M 2 (by kernel_rfl);simp only[pA,Y]at H;clear M Y;obtain rfl:=H;go_wp2;exact Z.O _ _ brf trivial
  refine AW (λ_ _=>True) (λ_ _ _ _ _=>trivial) ?_ ?_
  ·intro V W K AA J M H Z
   have Y:V 2=_:=M 2 (by kernel_rfl);simp only[pA,Y]at H;clear M Y;obtain rfl:=H;go_wp2;exact Z.O _ _ brf trivial
  refine AW (λ_ _=>True) (λ_ _ _ _ _=>trivial) ?_ ?_
  ·intro V W K AA J M H Z
   have Y:V 2=_:=M 2 (by kernel_rfl);simp only[pA,Y]at H;clear M Y;obtain rfl:=H;go_wp2;exact Z.O _ _ brf trivial
  refine AW (λ_ _=>True) (λ_ _ _ _ _=>trivial) ?_ ?_
  ·intro V W K AA J M H Z
   have Y:V 2=_:=M 2 (by kernel_rfl);simp only[pA,Y]at H;clear M Y;obtain rfl:=H;go_wp2;exact Z.O _ _ brf trivial
  refine AW (λ_ _=>True) (λ_ _ _ _ _=>trivial) ?_ ?_
  ·intro V W K AA J M H Z
   have Y:V 2=_:=M 2 (by kernel_rfl);simp only[pA,Y]at H;clear M Y;obtain rfl:=H;go_wp2;exact Z.O _ _ brf trivial
  refine AW (λ_ _=>True) (λ_ _ _ _ _=>trivial) ?_ ?_
  ·intro V W K AA J M H Z
   have Y:V 2=_:=M 2 (by kernel_rfl);simp only[pA,Y]at H;clear M Y;obtain rfl:=H;go_wp2;exact Z.O _ _ brf trivial
  apply AL
  ·intro V W K AA J M H Z
   have Y:V 2=_:=M 2 (by kernel_rfl);simp only[pA,Y]at H;clear M Y;obtain rfl:=H;go_wp2;exact Z.O _ brf
  intro V W AA J hS H;have d0:V 0=_:=hS 0 (by omega);have d1:(λv _=>v=.bool false) (V 1) W:=hS 1 (by omega);have Y:V 2=_:=hS 2 (by omega);have am:V 11=_:=hS 11 (by omega);simp only[pA,d0,Y,am]at H;clear hS d0 Y am;generalize V 1=x1 at d1 H;obtain rfl:=H;simp only[dl,dF];obtain rfl:=d1;have HO:Hid ((!BY A s C)=false):=by unfold Hid BY;rw[bf.O,aA.O];rfl
  go_wp2;go_ret;exact⟨FV HO.O.symm,al.trans (J.mono al.size)⟩
 have aI:=ct.O;unfold Cnt.cC at aI;obtain⟨lv,aK⟩:∃x,Hid (C.aI=x):=⟨_,rfl⟩;obtain⟨rd,a5⟩:∃x,Hid (C.ready=x):=⟨_,rfl⟩;obtain⟨od,a8⟩:∃x,Hid (C.aW=x):=⟨_,rfl⟩;obtain⟨fd,a7⟩:∃x,Hid (C.aL=x):=⟨_,rfl⟩;obtain⟨en,aF⟩:∃x,Hid (C.au=x):=⟨_,rfl⟩;rw[aK.O,a5.O,a8.O,a7.O,aF.O]at aI
 have HO:Hid ((!BY A s C)=decide (lv+en<=0)):=by
  unfold Hid BY;rw[bf.O,aA.O,aK.O,aF.O]
  by_cases h:lv+en<=0
  ·rw[dO h,dQ (show ¬0<lv+en by omega)];rfl
  ·rw[dQ h,dO (show 0<lv+en by omega)];rfl
 clear cl cv
 by_cases cc:lv=0
 ·have e1:rd=0:=by omega
  have e2:od=0:=by omega
  have e3:fd=0:=by omega
  subst cc e1 e2 e3
  by_cases cg:en=0
  ·subst cg
   clear aI;refine AV 12 (by kernel_rfl) (by kernel_rfl) ?_;apply AL
   ·intro V W K AA J M H Z
    simp only[pA]at H;clear M;obtain rfl:=H;go_wp2;exact Z.O _ brf
   refine AW (λv _=>v=.bool true) (λ_ _ _ h _=>h) ?_ ?_
   ·intro V W K AA J M H Z
    have d0:V 0=_:=M 0 (by kernel_rfl);simp only[pA,d0]at H;clear M d0;obtain rfl:=H;have t0:=AJ (AK J T0.O F) 0 rfl;have t1:=AJ (AK J T0.O F) 1 rfl;have t2:=AJ (AK J T0.O F) 2 rfl;have t3:=AJ (AK J T0.O F) 3 rfl;have t4:=AJ (AK J T0.O F) 4 rfl;have t5:=AJ (AK J T0.O F) 5 rfl;have t6:=AJ (AK J T0.O F) 6 rfl;have t7:=AJ (AK J T0.O F) 7 rfl;have t8:=AJ (AK J T0.O F) 8 rfl;have t9:=AJ (AK J T0.O F) 9 rfl;have aE:=AJ (AK J T0.O F) 10 rfl;have az:=AJ (AK J T0.O F) 11 rfl;have aC:=AJ (AK J T0.O F) 12 rfl;go_wp2;exact Z.O _ _ brf (by rw[aA.O])
   apply AL
   ·intro V W K AA J M H Z
    have d1:(λv _=>v=.bool true) (V 1) W:=M 1 (by kernel_rfl);simp only[pA]at H;clear M;generalize V 1=x1 at d1 H;obtain rfl:=H;obtain rfl:=d1;go_wp2;exact Z.O _ brf
   apply AL
   ·intro V W K AA J M H Z
    have Y:V 2=_:=M 2 (by kernel_rfl);simp only[pA,Y]at H;clear M Y;obtain rfl:=H;go_wp2;exact Z.O _ brf
   apply AL
   ·intro V W K AA J M H Z
    have Y:V 2=_:=M 2 (by kernel_rfl);have d3:V 3=_:=M 3 (by kernel_rfl);simp only[pA,Y,d3]at H;clear M Y d3;obtain rfl:=H;go_wp2;exact Z.O _ brf
   apply AL
   ·intro V W K AA J M H Z
    have Y:V 2=_:=M 2 (by kernel_rfl);have d4:V 4=_:=M 4 (by kernel_rfl);simp only[pA,Y,d4]at H;clear M Y d4;obtain rfl:=H;go_wp2;exact Z.O _ brf
   apply AL
   ·intro V W K AA J M H Z
    have Y:V 2=_:=M 2 (by kernel_rfl);have d5:V 5=_:=M 5 (by kernel_rfl);simp only[pA,Y,d5]at H;clear M Y d5;obtain rfl:=H;have e8:=AJ (AK J ai.O ak) 8 rfl;have e9:=AJ (AK J ai.O ak) 9 rfl;have bR:=AJ (AK J ai.O ak) 10 rfl;have bZ:=AJ (AK J ai.O ak) 11 rfl;go_wp2;exact Z.O _ brf
   apply AL
   ·intro V W K AA J M H Z
    have Y:V 2=_:=M 2 (by kernel_rfl);simp only[pA,Y]at H;clear M Y;obtain rfl:=H;have t0:=AJ (AK J T0.O F) 0 rfl;have t1:=AJ (AK J T0.O F) 1 rfl;have t2:=AJ (AK J T0.O F) 2 rfl;have t3:=AJ (AK J T0.O F) 3 rfl;have t4:=AJ (AK J T0.O F) 4 rfl;have t5:=AJ (AK J T0.O F) 5 rfl;have t6:=AJ (AK J T0.O F) 6 rfl;have t7:=AJ (AK J T0.O F) 7 rfl;have t8:=AJ (AK J T0.O F) 8 rfl;have t9:=AJ (AK J T0.O F) 9 rfl;have aE:=AJ (AK J T0.O F) 10 rfl;have az:=AJ (AK J T0.O F) 11 rfl;have aC:=AJ (AK J T0.O F) 12 rfl;go_wp2;exact Z.O _ brf
   refine AW (λv _=>v=.agg qtZ) (λ_ _ _ h _=>h) ?_ ?_
   ·intro V W K AA J M H Z
    have Y:V 2=_:=M 2 (by kernel_rfl);have d6:V 6=_:=M 6 (by kernel_rfl);have d7:V 7=_:=M 7 (by kernel_rfl);simp only[pA,Y,d6,d7]at H;clear M Y d6 d7;obtain rfl:=H
    go_wp2_with fail
    refine(Dz X s _ _ b3 d1 Y d3 n1 n2 n3 _ aT ay aW bq bo bk (aG.O.below J) C HC).mono ?_;rintro e w3 ⟨rfl,aH⟩;rw[qtV,aK.O,a5.O,a8.O,a7.O,aF.O];go_wp2;exact Z.O _ _ aH rfl
   apply AL
   ·intro V W K AA J M H Z
    have Y:V 2=_:=M 2 (by kernel_rfl);simp only[pA,Y]at H;clear M Y;obtain rfl:=H;go_wp2;exact Z.O _ brf
   refine AW (λv _=>v=.bool true) (λ_ _ _ h _=>h) ?_ ?_
   ·intro V W K AA J M H Z
    have Y:V 2=_:=M 2 (by kernel_rfl);have d8:(λv _=>v=.agg qtZ) (V 8) W:=M 8 (by kernel_rfl);have d9:V 9=_:=M 9 (by kernel_rfl);simp only[pA,Y,d9]at H;clear M Y d9;generalize V 8=x8 at d8 H;obtain rfl:=H;obtain rfl:=d8;go_wp2;exact Z.O _ _ brf rfl
   apply AL
   ·intro V W K AA J M H Z
    have Y:V 2=_:=M 2 (by kernel_rfl);have ah:(λv _=>v=.bool true) (V 10) W:=M 10 (by kernel_rfl);simp only[pA,Y]at H;clear M Y;generalize V 10=aM at ah H;obtain rfl:=H;obtain rfl:=ah;go_wp2;exact Z.O _ brf
   intro V W AA J hS H;have d0:V 0=_:=hS 0 (by omega);have d1:(λv _=>v=.bool true) (V 1) W:=hS 1 (by omega);have Y:V 2=_:=hS 2 (by omega);have d3:V 3=_:=hS 3 (by omega);have d4:V 4=_:=hS 4 (by omega);have d5:V 5=_:=hS 5 (by omega);have d6:V 6=_:=hS 6 (by omega);have d7:V 7=_:=hS 7 (by omega);have d8:(λv _=>v=.agg qtZ) (V 8) W:=hS 8 (by omega);have d9:V 9=_:=hS 9 (by omega);have ah:(λv _=>v=.bool true) (V 10) W:=hS 10 (by omega);have am:V 11=_:=hS 11 (by omega);simp only[pA,d0,Y,d3,d4,d5,d6,d7,d9,am]at H;clear hS d0 Y d3 d4 d5 d6 d7 d9 am;generalize V 1=x1 at d1 H;generalize V 8=x8 at d8 H;generalize V 10=aM at ah H;obtain rfl:=H;simp only[dl,dF];obtain rfl:=d1;obtain rfl:=d8;obtain rfl:=ah;have aS:=al.trans (J.mono al.size);clear J;go_wp2;go_ret;exact⟨FV (by rw[HO.O];rfl),aS⟩
  ·have bX:0<en:=by omega
   clear aI;refine AV 12 (by kernel_rfl) (by kernel_rfl) ?_;apply AL
   ·intro V W K AA J M H Z
    simp only[pA]at H;clear M;obtain rfl:=H;go_wp2;exact Z.O _ brf
   refine AW (λv _=>v=.bool true) (λ_ _ _ h _=>h) ?_ ?_
   ·intro V W K AA J M H Z
    have d0:V 0=_:=M 0 (by kernel_rfl);simp only[pA,d0]at H;clear M d0;obtain rfl:=H;have t0:=AJ (AK J T0.O F) 0 rfl;have t1:=AJ (AK J T0.O F) 1 rfl;have t2:=AJ (AK J T0.O F) 2 rfl;have t3:=AJ (AK J T0.O F) 3 rfl;have t4:=AJ (AK J T0.O F) 4 rfl;have t5:=AJ (AK J T0.O F) 5 rfl;have t6:=AJ (AK J T0.O F) 6 rfl;have t7:=AJ (AK J T0.O F) 7 rfl;have t8:=AJ (AK J T0.O F) 8 rfl;have t9:=AJ (AK J T0.O F) 9 rfl;have aE:=AJ (AK J T0.O F) 10 rfl;have az:=AJ (AK J T0.O F) 11 rfl;have aC:=AJ (AK J T0.O F) 12 rfl;go_wp2;exact Z.O _ _ brf (by rw[aA.O])
   apply AL
   ·intro V W K AA J M H Z
    have d1:(λv _=>v=.bool true) (V 1) W:=M 1 (by kernel_rfl);simp only[pA]at H;clear M;generalize V 1=x1 at d1 H;obtain rfl:=H;obtain rfl:=d1;go_wp2;exact Z.O _ brf
   apply AL
   ·intro V W K AA J M H Z
    have Y:V 2=_:=M 2 (by kernel_rfl);simp only[pA,Y]at H;clear M Y;obtain rfl:=H;go_wp2;exact Z.O _ brf
   apply AL
   ·intro V W K AA J M H Z
    have Y:V 2=_:=M 2 (by kernel_rfl);have d3:V 3=_:=M 3 (by kernel_rfl);simp only[pA,Y,d3]at H;clear M Y d3;obtain rfl:=H;go_wp2;exact Z.O _ brf
   apply AL
   ·intro V W K AA J M H Z
    have Y:V 2=_:=M 2 (by kernel_rfl);have d4:V 4=_:=M 4 (by kernel_rfl);simp only[pA,Y,d4]at H;clear M Y d4;obtain rfl:=H;go_wp2;exact Z.O _ brf
   apply AL
   ·intro V W K AA J M H Z
    have Y:V 2=_:=M 2 (by kernel_rfl);have d5:V 5=_:=M 5 (by kernel_rfl);simp only[pA,Y,d5]at H;clear M Y d5;obtain rfl:=H;have e8:=AJ (AK J ai.O ak) 8 rfl;have e9:=AJ (AK J ai.O ak) 9 rfl;have bR:=AJ (AK J ai.O ak) 10 rfl;have bZ:=AJ (AK J ai.O ak) 11 rfl;go_wp2;exact Z.O _ brf
   apply AL
   ·intro V W K AA J M H Z
    have Y:V 2=_:=M 2 (by kernel_rfl);simp only[pA,Y]at H;clear M Y;obtain rfl:=H;have t0:=AJ (AK J T0.O F) 0 rfl;have t1:=AJ (AK J T0.O F) 1 rfl;have t2:=AJ (AK J T0.O F) 2 rfl;have t3:=AJ (AK J T0.O F) 3 rfl;have t4:=AJ (AK J T0.O F) 4 rfl;have t5:=AJ (AK J T0.O F) 5 rfl;have t6:=AJ (AK J T0.O F) 6 rfl;have t7:=AJ (AK J T0.O F) 7 rfl;have t8:=AJ (AK J T0.O F) 8 rfl;have t9:=AJ (AK J T0.O F) 9 rfl;have aE:=AJ (AK J T0.O F) 10 rfl;have az:=AJ (AK J T0.O F) 11 rfl;have aC:=AJ (AK J T0.O F) 12 rfl;go_wp2;exact Z.O _ brf
   refine AW (λv _=>v=.agg #[.int .i64 0,.int .i64 0,.int .i64 0,.int .i64 0,.int .i64 en]) (λ_ _ _ h _=>h) ?_ ?_
   ·intro V W K AA J M H Z
    have Y:V 2=_:=M 2 (by kernel_rfl);have d6:V 6=_:=M 6 (by kernel_rfl);have d7:V 7=_:=M 7 (by kernel_rfl);simp only[pA,Y,d6,d7]at H;clear M Y d6 d7;obtain rfl:=H
    go_wp2_with fail
    refine(Dz X s _ _ b3 d1 Y d3 n1 n2 n3 _ aT ay aW bq bo bk (aG.O.below J) C HC).mono ?_;rintro e w3 ⟨rfl,aH⟩;rw[qtV,aK.O,a5.O,a8.O,a7.O,aF.O];go_wp2;exact Z.O _ _ aH rfl
   apply AL
   ·intro V W K AA J M H Z
    have Y:V 2=_:=M 2 (by kernel_rfl);simp only[pA,Y]at H;clear M Y;obtain rfl:=H;go_wp2;exact Z.O _ brf
   refine AW (λv _=>v=.bool false) (λ_ _ _ h _=>h) ?_ ?_
   ·intro V W K AA J M H Z
    have Y:V 2=_:=M 2 (by kernel_rfl);have d8:(λv _=>v=.agg #[.int .i64 0,.int .i64 0,.int .i64 0,.int .i64 0,.int .i64 en]) (V 8) W:=M 8 (by kernel_rfl);have d9:V 9=_:=M 9 (by kernel_rfl);simp only[pA,Y,d9]at H;clear M Y d9;generalize V 8=x8 at d8 H;obtain rfl:=H;obtain rfl:=d8;go_wp2;exact Z.O _ _ brf rfl
   apply AL
   ·intro V W K AA J M H Z
    have Y:V 2=_:=M 2 (by kernel_rfl);have ah:(λv _=>v=.bool false) (V 10) W:=M 10 (by kernel_rfl);simp only[pA,Y]at H;clear M Y;generalize V 10=aM at ah H;obtain rfl:=H;obtain rfl:=ah;go_wp2;exact Z.O _ brf
   intro V W AA J hS H;have d0:V 0=_:=hS 0 (by omega);have d1:(λv _=>v=.bool true) (V 1) W:=hS 1 (by omega);have Y:V 2=_:=hS 2 (by omega);have d3:V 3=_:=hS 3 (by omega);have d4:V 4=_:=hS 4 (by omega);have d5:V 5=_:=hS 5 (by omega);have d6:V 6=_:=hS 6 (by omega);have d7:V 7=_:=hS 7 (by omega);have d8:(λv _=>v=.agg #[.int .i64 0,.int .i64 0,.int .i64 0,.int .i64 0,.int .i64 en]) (V 8) W:=hS 8 (by omega);have d9:V 9=_:=hS 9 (by omega);have ah:(λv _=>v=.bool false) (V 10) W:=hS 10 (by omega);have am:V 11=_:=hS 11 (by omega);simp only[pA,d0,Y,d3,d4,d5,d6,d7,d9,am]at H;clear hS d0 Y d3 d4 d5 d6 d7 d9 am;generalize V 1=x1 at d1 H;generalize V 8=x8 at d8 H;generalize V 10=aM at ah H;obtain rfl:=H;simp only[dl,dF];obtain rfl:=d1;obtain rfl:=d8;obtain rfl:=ah;have aS:=al.trans (J.mono al.size);clear J;go_wp2;go_ret;exact⟨FV (by rw[HO.O];simp;omega),aS⟩
 ·have bX:0<lv+en:=by omega
  clear aI;refine AV 12 (by kernel_rfl) (by kernel_rfl) ?_;apply AL
  ·intro V W K AA J M H Z
   simp only[pA]at H;clear M;obtain rfl:=H;go_wp2;exact Z.O _ brf
  refine AW (λv _=>v=.bool true) (λ_ _ _ h _=>h) ?_ ?_
  ·intro V W K AA J M H Z
   have d0:V 0=_:=M 0 (by kernel_rfl);simp only[pA,d0]at H;clear M d0;obtain rfl:=H;have t0:=AJ (AK J T0.O F) 0 rfl;have t1:=AJ (AK J T0.O F) 1 rfl;have t2:=AJ (AK J T0.O F) 2 rfl;have t3:=AJ (AK J T0.O F) 3 rfl;have t4:=AJ (AK J T0.O F) 4 rfl;have t5:=AJ (AK J T0.O F) 5 rfl;have t6:=AJ (AK J T0.O F) 6 rfl;have t7:=AJ (AK J T0.O F) 7 rfl;have t8:=AJ (AK J T0.O F) 8 rfl;have t9:=AJ (AK J T0.O F) 9 rfl;have aE:=AJ (AK J T0.O F) 10 rfl;have az:=AJ (AK J T0.O F) 11 rfl;have aC:=AJ (AK J T0.O F) 12 rfl;go_wp2;exact Z.O _ _ brf (by rw[aA.O])
  apply AL
  ·intro V W K AA J M H Z
   have d1:(λv _=>v=.bool true) (V 1) W:=M 1 (by kernel_rfl);simp only[pA]at H;clear M;generalize V 1=x1 at d1 H;obtain rfl:=H;obtain rfl:=d1;go_wp2;exact Z.O _ brf
  apply AL
  ·intro V W K AA J M H Z
   have Y:V 2=_:=M 2 (by kernel_rfl);simp only[pA,Y]at H;clear M Y;obtain rfl:=H;go_wp2;exact Z.O _ brf
  apply AL
  ·intro V W K AA J M H Z
   have Y:V 2=_:=M 2 (by kernel_rfl);have d3:V 3=_:=M 3 (by kernel_rfl);simp only[pA,Y,d3]at H;clear M Y d3;obtain rfl:=H;go_wp2;exact Z.O _ brf
  apply AL
  ·intro V W K AA J M H Z
   have Y:V 2=_:=M 2 (by kernel_rfl);have d4:V 4=_:=M 4 (by kernel_rfl);simp only[pA,Y,d4]at H;clear M Y d4;obtain rfl:=H;go_wp2;exact Z.O _ brf
  apply AL
  ·intro V W K AA J M H Z
   have Y:V 2=_:=M 2 (by kernel_rfl);have d5:V 5=_:=M 5 (by kernel_rfl);simp only[pA,Y,d5]at H;clear M Y d5;obtain rfl:=H;have e8:=AJ (AK J ai.O ak) 8 rfl;have e9:=AJ (AK J ai.O ak) 9 rfl;have bR:=AJ (AK J ai.O ak) 10 rfl;have bZ:=AJ (AK J ai.O ak) 11 rfl;go_wp2;exact Z.O _ brf
  apply AL
  ·intro V W K AA J M H Z
   have Y:V 2=_:=M 2 (by kernel_rfl);simp only[pA,Y]at H;clear M Y;obtain rfl:=H;have t0:=AJ (AK J T0.O F) 0 rfl;have t1:=AJ (AK J T0.O F) 1 rfl;have t2:=AJ (AK J T0.O F) 2 rfl;have t3:=AJ (AK J T0.O F) 3 rfl;have t4:=AJ (AK J T0.O F) 4 rfl;have t5:=AJ (AK J T0.O F) 5 rfl;have t6:=AJ (AK J T0.O F) 6 rfl;have t7:=AJ (AK J T0.O F) 7 rfl;have t8:=AJ (AK J T0.O F) 8 rfl;have t9:=AJ (AK J T0.O F) 9 rfl;have aE:=AJ (AK J T0.O F) 10 rfl;have az:=AJ (AK J T0.O F) 11 rfl;have aC:=AJ (AK J T0.O F) 12 rfl;go_wp2;exact Z.O _ brf
  refine AW (λv _=>v=.agg #[.int .i64 lv,.int .i64 rd,.int .i64 od,.int .i64 fd,.int .i64 en]) (λ_ _ _ h _=>h) ?_ ?_
  ·intro V W K AA J M H Z
   have Y:V 2=_:=M 2 (by kernel_rfl);have d6:V 6=_:=M 6 (by kernel_rfl);have d7:V 7=_:=M 7 (by kernel_rfl);simp only[pA,Y,d6,d7]at H;clear M Y d6 d7;obtain rfl:=H
   go_wp2_with fail
   refine(Dz X s _ _ b3 d1 Y d3 n1 n2 n3 _ aT ay aW bq bo bk (aG.O.below J) C HC).mono ?_;rintro e w3 ⟨rfl,aH⟩;rw[qtV,aK.O,a5.O,a8.O,a7.O,aF.O];go_wp2;exact Z.O _ _ aH rfl
  apply AL
  ·intro V W K AA J M H Z
   have Y:V 2=_:=M 2 (by kernel_rfl);simp only[pA,Y]at H;clear M Y;obtain rfl:=H;go_wp2;exact Z.O _ brf
  refine AW (λv _=>v=.bool false) (λ_ _ _ h _=>h) ?_ ?_
  ·intro V W K AA J M H Z
   have Y:V 2=_:=M 2 (by kernel_rfl);have d8:(λv _=>v=.agg #[.int .i64 lv,.int .i64 rd,.int .i64 od,.int .i64 fd,.int .i64 en]) (V 8) W:=M 8 (by kernel_rfl);have d9:V 9=_:=M 9 (by kernel_rfl);simp only[pA,Y,d9]at H;clear M Y d9;generalize V 8=x8 at d8 H;obtain rfl:=H;obtain rfl:=d8;go_wp2;exact Z.O _ _ brf rfl
  apply AL
  ·intro V W K AA J M H Z
   have Y:V 2=_:=M 2 (by kernel_rfl);have ah:(λv _=>v=.bool false) (V 10) W:=M 10 (by kernel_rfl);simp only[pA,Y]at H;clear M Y;generalize V 10=aM at ah H;obtain rfl:=H;obtain rfl:=ah;go_wp2;exact Z.O _ brf
  intro V W AA J hS H;have d0:V 0=_:=hS 0 (by omega);have d1:(λv _=>v=.bool true) (V 1) W:=hS 1 (by omega);have Y:V 2=_:=hS 2 (by omega);have d3:V 3=_:=hS 3 (by omega);have d4:V 4=_:=hS 4 (by omega);have d5:V 5=_:=hS 5 (by omega);have d6:V 6=_:=hS 6 (by omega);have d7:V 7=_:=hS 7 (by omega);have d8:(λv _=>v=.agg #[.int .i64 lv,.int .i64 rd,.int .i64 od,.int .i64 fd,.int .i64 en]) (V 8) W:=hS 8 (by omega);have d9:V 9=_:=hS 9 (by omega);have ah:(λv _=>v=.bool false) (V 10) W:=hS 10 (by omega);have am:V 11=_:=hS 11 (by omega);simp only[pA,d0,Y,d3,d4,d5,d6,d7,d9,am]at H;clear hS d0 Y d3 d4 d5 d6 d7 d9 am;generalize V 1=x1 at d1 H;generalize V 8=x8 at d8 H;generalize V 10=aM at ah H;obtain rfl:=H;simp only[dl,dF];obtain rfl:=d1;obtain rfl:=d8;obtain rfl:=ah;have aS:=al.trans (J.mono al.size);clear J;go_wp2;go_ret;exact⟨FV (by rw[HO.O];simp;omega),aS⟩
def Be(sv:qB)(c:Cp):Bool:=Op.bytesLess c.aa.toList sv.toList||c.aa.toList==sv.toList
def BJ(l:List Cp)(sv:qB):Nat:=(l.takeWhile (Be sv)).length
theorem SU{l:List Cp}{sv:qB}{j:Nat}{c:Cp}(H:l[j]?=some c)(h:Be sv c=false)(F:∀i d,i<j->l[i]?=some d->Be sv d=true):BJ l sv=j:=by
 unfold BJ
 induction l generalizing j with
 |nil=>simp at H
 |cons x l J=>
  cases j with
  |zero=>
   obtain rfl:=dg H;rw[fo (by rw[h];decide)];rfl
  |succ j=>
   rw[eQ (F 0 x (by omega) rfl),dL,J (by simpa using H) λi d W M=>F (i+1) d (by omega) (by simpa using M)]
theorem Qi{l:List Cp}{sv:qB}(F:∀i d,i<l.length->l[i]?=some d->Be sv d=true):BJ l sv=l.length:=by
 unfold BJ
 congr 1
 induction l with
 |nil=>rfl
 |cons x l H=>rw[eQ (F 0 x (by simp) rfl),H λi d M J=>F (i+1) d (by simp;omega) (by simpa using J)]
theorem JU(X:Bk)(sv:qB)(a1 a2 a3:qO)(c1 c2 c3 n1 n2 n3:Nat)(w:World)(af:Hid (X.ah.length=n2))(aH:n2<=1048576)(hC:SlC w a2 X.ah):
  Calls Tryz.prog 249 #[.agg #[.int .i64 X.aj,.slice a1 n1 c1,.slice a2 n2 c2,.slice a3 n3 c3],.string sv] w λe w'=>e=.returned (.int .i64 (BJ X.ah sv:Nat))/\Below w.heap.size w w':=by
 have T0:Hid _:=dm w (.cells #[.int .i64 X.aj,.slice a1 n1 c1,.slice a2 n2 c2,.slice a3 n3 c3] 28);have Z:=AN w (.cells #[.int .i64 X.aj,.slice a1 n1 c1,.slice a2 n2 c2,.slice a3 n3 c3] 28);obtain⟨W0,an⟩:∃W,w.alloc (.cells #[.int .i64 X.aj,.slice a1 n1 c1,.slice a2 n2 c2,.slice a3 n3 c3] 28)=W:=⟨_,rfl⟩;rw[an]at T0 Z;have aE:w.heap.size<W0.heap.size:=(AB T0.O).1;have e2:=AJ T0.O 2 rfl;go_enter Tryz.func249,Tryz.ntmps249;go_wp2;clear e2 an
 go_loopw [10] (λiv wr=>∃j:Nat,j<=n2/\iv=.int .i64 j/\Below w.heap.size w wr/\Hid (qBl wr (w.heap.size) #[.int .i64 X.aj,.slice a1 n1 c1,.slice a2 n2 c2,.slice a3 n3 c3] 28)/\Hid (∀i d,i<j->X.ah[i]?=some d->Be sv d=true)) (λiv _=>n2 - (intOf iv).toNat)
 case atStart=>exact⟨0,AI _,rfl,Z,T0,λi d h=>absurd h (gr _)⟩
 case round=>
  obtain⟨j,hj,rfl,hb,M,F⟩:=hrel;clear T0 Z
  by_cases ag:j<n2
  ·obtain⟨c,hc⟩:∃x,X.ah[j]?=some x:=⟨X.ah[j]'(by rw[af.O];exact ag),by simp⟩
   obtain⟨b,off,ea,ay,aq⟩:=hC (by intro h;rw[h]at hc;simp at hc);subst ea;have hq:=(aq j c hc).below hb ay;unfold CpAt at hq;obtain⟨q0,q1,q2,q3,q4,q5,q6⟩:=hq;obtain⟨lb,H⟩:∃x,Hid (Op.bytesLess c.aa.toList sv.toList=x):=⟨_,rfl⟩;obtain⟨eb,Y⟩:∃x,Hid ((c.aa.toList==sv.toList)=x):=⟨_,rfl⟩;have ak:Hid _:=hc;have au:=AN wr (.cells ((qcV c):Array Value) 76);have aa:=hb.trans (au.mono hb.size);have al:Hid _:=AK au M.O (AB M.O).1;clear aq hc;cases lb
   rotate_left
   ·have J:Hid (Be sv c=true):=by unfold Hid Be;rw[H.O];rfl
    have ar:=H.O;go_wp2
    go_roundw
    case rel=>exact⟨j+1,ag,by go_num,aa,al,λi d hi hd=>by
     by_cases ah:i=j
     ·subst ah
      have:=ak.O;rw[hd]at this;obtain rfl:=dg this;exact J.O
     ·exact F.O i d (by omega) hd⟩
    case measure=>simp[intOf];omega
   cases eb
   rotate_left
   ·have J:Hid (Be sv c=true):=by unfold Hid Be;rw[H.O,Y.O];rfl
    have ar:=H.O;have az:=Y.O;go_wp2
    go_roundw
    case rel=>exact⟨j+1,ag,by go_num,aa,al,λi d hi hd=>by
     by_cases ah:i=j
     ·subst ah
      have:=ak.O;rw[hd]at this;obtain rfl:=dg this;exact J.O
     ·exact F.O i d (by omega) hd⟩
    case measure=>simp[intOf];omega
   ·have J:Hid (Be sv c=false):=by unfold Hid Be;rw[H.O,Y.O];rfl
    have ar:=H.O;have az:=Y.O;go_wp2;go_ret;have hO:BJ X.ah sv=j:=SU ak.O J.O F.O;exact⟨by rw[hO];rfl,aa⟩
  ·have hO:BJ X.ah sv=n2:=by
    rw[<-af.O];exact Qi λi d hi hd=>F.O i d (by have:=af.O;omega) hd
   have HO:Hid _:=hO;have e2:=AJ M.O 2 rfl;clear hO;go_wp2;go_ret;exact⟨by rw[HO.O];rfl,hb⟩
def DD(l:List Cp)(p:Nat)(f:Nat->Cp)(t:Nat):List Cp:=l.take p++(List.range t).map f++l.drop p
theorem Mp(l:List Cp)(p:Nat)(f:Nat->Cp):DD l p f 0=l:=by simp[DD]
theorem Ow{l:List Cp}{p:Nat}(f:Nat->Cp)(t:Nat)(F:p<=l.length):(DD l p f t).length=l.length+t:=by
 simp[DD];omega
theorem Mq{l:List Cp}{p:Nat}(f:Nat->Cp)(t:Nat)(H:p<=l.length):(DD l p f t).take (p+t)++f t::(DD l p f t).drop (p+t)=DD l p f (t+1):=by
 have F:(l.take p++(List.range t).map f).length=p+t:=by simp;omega
 unfold DD;rw[<-F,ig,List.drop_left,List.range_succ];simp
theorem M3(l:List Cp)(sv:qB):BJ l sv<=l.length:=by
 unfold BJ;exact(iI _).length_le
def mkO(X:Bk)(s:Svc)(t:Nat):Cp:=⟨s.name,s.next+(t:Int),X.aj,s.ar,1,false,⟨#[]⟩⟩
def KeepO(ao:qO)(w w':World):Prop:=w.heap.size<=w'.heap.size/\∀q,q<w.heap.size->ao≠some ⟨q,0,none⟩->w'.heap[q]?=w.heap[q]?
theorem KeepO.refl(ao:qO)(w:World):KeepO ao w w:=⟨AG _,λ_ _ _=>rfl⟩
theorem KeepO.trans{ao:qO}{w w' F:World}(h:KeepO ao w w')(J:KeepO ao w' F):KeepO ao w F:=
 ⟨AH h.1 J.1,λq M H=>(J.2 q (AF M h.1) H).trans (h.2 q M H)⟩
theorem KeepO.ba{ao:qO}{w w':World}(h:Below w.heap.size w w'):KeepO ao w w':=⟨h.size,λq F _=>h.block q F⟩
theorem KeepO.toT{ao:qO}{w w':World}{N:Nat}{e:TypeId}{size n cap:Nat}{xs:qL}(h:KeepO ao w w')(M:RowN w N e size ao n cap xs):KeepT e w w':=
 ⟨h.1,λq W F=>h.2 q W λea=>by
  rcases M with⟨Y,_⟩|⟨g,Z,_,_,_,J,H,_⟩
  ·rw[Y]at ea;cases ea
  ·rw[Z]at ea
   injection ea with ea
   injection ea with ea
   subst ea
   exact F _ _ H⟩
theorem Q3{w:World}{N:Nat}{e t:TypeId}{size n cap:Nat}{ao:qO}{xs:qL}{q:Nat}{cs:Array Value}{fr:Nat × Nat}(W:RowN w N e size ao n cap xs)(F:w.heap[q]?=some (.cells cs t fr))(H:t≠e):ao≠some ⟨q,0,none⟩:=λea=>by
 rcases W with⟨Y,_⟩|⟨g,Z,_,_,_,M,J,_⟩
 ·rw[Y]at ea;cases ea
 ·rw[Z]at ea
  injection ea with ea
  injection ea with ea
  subst ea;rw[J]at F;injection F with F
  injection F with _ F
  exact H F.symm
theorem OX{w:World}{N:Nat}{e:TypeId}{size n cap:Nat}{ao:qO}{xs:qL}{q:Nat}(H:RowN w N e size ao n cap xs)(W:w.heap.size<=q):ao≠some ⟨q,0,none⟩:=λea=>by
 rcases H with⟨J,_⟩|⟨g,F,_,M⟩
 ·rw[J]at ea;cases ea
 ·rw[F]at ea
  injection ea with ea
  injection ea with ea
  subst ea;exact absurd M.lt (by omega)
theorem ME:(Tryz.prog.info? 25).map (·.size)=some 1:=by kernel_rfl
theorem QV(A:Ac)(ae:qO)(ce:Nat)(X:Bk)(s:Svc)(N g k ar:Nat)(I:List Int)(w:World)(f2:X.aJ)(hN:N<=w.heap.size)(hk:X.af[k]?=some s)(c8:Hid (A.am=(ar:Int)))(g0:ar<=20)(g6:1<=s.next)(gx:s.next<=1000000)(cg:X.ah.length+ar<=200)(Y:WkAt w N g A ae ce X k I):
  Calls Tryz.prog 193 #[.pointer (qad g)] w λe w'=>e=.returned (.tuple #[])/\WkAt w' N g A ae ce {X with af:=X.af.set k {s with next:=s.next+A.am},ah:=DD X.ah (BJ X.ah s.name) (mkO X s) ar} k I/\Below N w w':=by
 obtain⟨eM,eg,_⟩:=f2;obtain⟨b1,b2,b3,d1,d2,d3,ve,cq,hg,bR,cd⟩:=Y;have bx:k<X.af.length:=(AC hk).1;obtain⟨g1,e1,cK,aw⟩:=bR.af.some (by omega);subst e1;obtain⟨n1,aT⟩:∃n,Hid (X.af.length=n):=⟨_,rfl⟩;obtain⟨n2,ai⟩:∃n,Hid (X.ah.length=n):=⟨_,rfl⟩;obtain⟨n3,ca⟩:∃n,Hid (X.ak.length=n):=⟨_,rfl⟩;obtain⟨ne,dq⟩:∃n,Hid (I.length=n):=⟨_,rfl⟩;obtain⟨r2,r3⟩:RowN w N 76 7 b2 X.ah.length d2 (Ar X.ah)/\RowN w N 90 2 b3 X.ak.length d3 (CN X.ak):=⟨bR.ah,bR.ak⟩;clear bR;rw[aT.O]at aw hg bx eM;rw[ai.O]at r2 hg;rw[ca.O]at r3 hg;rw[dq.O]at cd;have HK:Hid _:=hk;have HG:Hid _:=hg;have au:Hid (RowIs w 34 13 g1 n1 d1 (Ab X.af)):=aw;have aq:=BU r2;have aW:=BU r3;have cv:Hid (w.ownsRow N 3 1 ve ne (CP I)):=cd;have bO:g<w.heap.size:=(AB hg).1;have bz:g1<w.heap.size:=aw.lt;clear hk hg aw r2 r3 cd;rw[ai.O]at eg cg;have aL:Hid (SvcAt w g1 (k*13) s):=au.O.bC HK.O;obtain⟨p,HP⟩:∃p,Hid (BJ X.ah s.name=p):=⟨_,rfl⟩;have hp:p<=n2:=by rw[<-HP.O,<-ai.O];exact M3 _ _
 have bX:Hid (SlC w b2 X.ah):=by
  have:=aq.O;rw[<-ai.O]at this;exact this.bT
 go_enter Tryz.func193,Tryz.ntmps193
 go_upto_region 1 with(go_at_call 247;refine(DT A ae ce X.aj g g1 n1 d1 k _ _ _ _ bx eM HG.O).mono ?_;rintro e w1 ⟨rfl,av⟩)
 have br:Hid _:=AK av HG.O bO;have bj:g<w1.heap.size:=AF bO av.size;have b4:g1<w1.heap.size:=AF bz av.size;have bY:Hid (SvcAt w1 g1 (k*13) s):=aL.O.below av bz;have b0:Hid (SlC w1 b2 X.ah):=bX.O.below av;refine AV 9 (by kernel_rfl) (by kernel_rfl) ?_;apply AL
 ·intro V W K Z M H F J
  simp only[pA]at F;clear H;obtain rfl:=F;go_wp2;exact J.O _ brf
 apply AL
 ·intro V W K Z M H F J
  have d0:V 0=_:=H 0 (by kernel_rfl);simp only[pA,d0]at F;clear H d0;obtain rfl:=F;go_wp2;exact J.O _ brf
 apply AL
 ·intro V W K Z M H F J
  have d1:V 1=_:=H 1 (by kernel_rfl);simp only[pA,d1]at F;clear H d1;obtain rfl:=F;go_wp2;exact J.O _ brf
 apply AL
 ·intro V W K Z M H F J
  have d2:V 2=_:=H 2 (by kernel_rfl);simp only[pA,d2]at F;clear H d2;obtain rfl:=F;have e8:=AJ (AK M br.O bj) 8 rfl;have e9:=AJ (AK M br.O bj) 9 rfl;have ft:=AJ (AK M br.O bj) 10 rfl;have g4:=AJ (AK M br.O bj) 11 rfl;go_wp2;exact J.O _ brf
 apply AL
 ·intro V W K Z M H F J
  simp only[pA]at F;clear H;obtain rfl:=F;go_wp2;exact J.O _ brf
 apply AL
 ·intro V W K Z M H F J
  have d4:V 4=_:=H 4 (by kernel_rfl);simp only[pA,d4]at F;clear H d4;obtain rfl:=F;go_wp2;exact J.O _ brf
 apply AL
 ·intro V W K Z M H F J
  have d5:V 5=_:=H 5 (by kernel_rfl);simp only[pA,d5]at F;clear H d5;obtain rfl:=F;go_wp2;exact J.O _ brf
 apply AL
 ·intro V W K Z M H F J
  have d6:V 6=_:=H 6 (by kernel_rfl);simp only[pA,d6]at F;clear H d6;obtain rfl:=F;have hq:=bY.O.below M b4;unfold SvcAt at hq;obtain⟨q0,q1,q2,q3,q4,q5,q6,q7,q8,q9,bf,a8,bt⟩:=hq;go_wp2;exact J.O _ brf
 refine AW (λv _=>v=.int .i64 (p:Nat)) (λ_ _ _ h _=>h) ?_ ?_
 ·intro V W K Z M H F J
  have d3:V 3=_:=H 3 (by kernel_rfl);have d7:V 7=_:=H 7 (by kernel_rfl);simp only[pA,d3,d7]at F;clear H d3 d7;obtain rfl:=F
  go_wp2_with fail
  refine(JU X s.name _ b2 b3 d1 d2 d3 n1 n2 n3 _ ai eg (b0.O.below M)).mono ?_;rintro e w3 ⟨rfl,fv⟩;rw[HP.O];go_wp2;exact J.O _ _ fv rfl
 intro V W Z M Y F;have d0:V 0=_:=Y 0 (by omega);have d1:V 1=_:=Y 1 (by omega);have d2:V 2=_:=Y 2 (by omega);have d3:V 3=_:=Y 3 (by omega);have d4:V 4=_:=Y 4 (by omega);have d5:V 5=_:=Y 5 (by omega);have d6:V 6=_:=Y 6 (by omega);have d7:V 7=_:=Y 7 (by omega);have d8:(λv _=>v=.int .i64 (p:Nat)) (V 8) W:=Y 8 (by omega);simp only[pA,d0,d1,d2,d3,d4,d5,d6,d7]at F;clear Y d0 d1 d2 d3 d4 d5 d6 d7;generalize V 8=x8 at d8 F;obtain rfl:=F;simp only[dl,dF];obtain rfl:=d8;have an:=av.trans (M.mono av.size)
 have de:Hid (qBl W g #[.string A.aa,.int .i64 A.aF,.int .i64 A.am,.int .i64 A.av,.int .i64 A.ay,.bool A.az,.slice ae A.aw.length ce,.bool A.drop,.int .i64 X.aj,.slice (qad g1) n1 d1,.slice b2 (DD X.ah p (mkO X s) 0).length d2,.slice b3 n3 d3,.int .i64 (k:Int),ve] 227/\RowIs W 34 13 g1 n1 d1 (Ab (X.af.set k {s with next:=s.next+((0:Nat):Int)}))/\RowN W N 76 7 b2 (DD X.ah p (mkO X s) 0).length d2 (Ar (DD X.ah p (mkO X s) 0))/\RowN W N 90 2 b3 n3 d3 (CN X.ak)/\W.ownsRow N 3 1 ve ne (CP I)):=by
  have e0:DD X.ah p (mkO X s) 0=X.ah:=Mp _ _ _;have e1:({s with next:=s.next+((0:Nat):Int)}:Svc)=s:=by simp
  rw[e0,e1,ON HK.O];have a1:=aq.O.below an;rw[<-ai.O]at a1;have a2:=AK an HG.O bO;rw[<-ai.O]at a2;exact⟨a2,au.O.below an bz,a1,aW.O.below an,CK cv.O an⟩
 have a9:Hid _:=AK an HG.O bO;have e2:=AJ a9.O 2 rfl;rw[c8.O]at e2;have bq:=an.mono hN;clear av br bj b4 bY b0 M a9 aL bX an HG au aq aW cv;go_wp2;clear e2
 go_loopw [3,21] (λpv iv wr=>∃(t:Nat) (b2:qO) (cc:Nat),t<=ar/\iv=.int .i64 t/\pv=.int .i64 ((p+t:Nat):Int)/\Hid (qBl wr g #[.string A.aa,.int .i64 A.aF,.int .i64 A.am,.int .i64 A.av,.int .i64 A.ay,.bool A.az,.slice ae A.aw.length ce,.bool A.drop,.int .i64 X.aj,.slice (qad g1) n1 d1,.slice b2 (DD X.ah p (mkO X s) t).length cc,.slice b3 n3 d3,.int .i64 (k:Int),ve] 227/\RowIs wr 34 13 g1 n1 d1 (Ab (X.af.set k {s with next:=s.next+(t:Int)}))/\RowN wr N 76 7 b2 (DD X.ah p (mkO X s) t).length cc (Ar (DD X.ah p (mkO X s) t))/\RowN wr N 90 2 b3 n3 d3 (CN X.ak)/\wr.ownsRow N 3 1 ve ne (CP I))/\Below N w wr) (λ_ iv _=>ar - (intOf iv).toNat)
 case atStart=>exact⟨0,b2,d2,AI _,rfl,rfl,de,bq⟩
 case round=>
  clear de bq;obtain⟨t,b2,cc,ht,rfl,rfl,HI,hb⟩:=hrel;have ch:(DD X.ah p (mkO X s) t).length=n2+t:=by rw[Ow _ _ (by rw[ai.O];exact hp),ai.O]
  rw[ch]at HI;obtain⟨hg,aw,c5,dr,ds⟩:=HI.O;have HG:Hid _:=hg;have au:Hid (RowIs wr 34 13 g1 n1 d1 (Ab (X.af.set k {s with next:=s.next+(t:Int)}))):=aw;have aq:=BU c5;have aW:=BU dr;have b9:Hid (wr.ownsRow N 3 1 ve ne (CP I)):=ds;have cm:Hid _:=ch;have cf:g<wr.heap.size:=(AB hg).1;have aA:g1<wr.heap.size:=aw.lt;have ci:N<=wr.heap.size:=by omega
  clear hg aw c5 dr ds ch HI
  by_cases f3:t<ar
  ·obtain⟨c,e4⟩:∃x:Cp,Hid (x=mkO X s t):=⟨_,rfl⟩
   have aL:Hid (SvcAt wr g1 (k*13) {s with next:=s.next+(t:Int)}):=au.O.bC (by rw[eC (by rw[aT.O];exact bx)])
   go_upto_region 4 with fail
   refine AV 19 (by kernel_rfl) (by kernel_rfl) ?_;apply AL
   ·intro V W K Z M H F J
    simp only[pA]at F;clear H;obtain rfl:=F;go_wp2;exact J.O _ brf
   apply AL
   ·intro V W K Z M H F J
    have d0:V 0=_:=H 0 (by kernel_rfl);simp only[pA,d0]at F;clear H d0;obtain rfl:=F;go_wp2;exact J.O _ brf
   apply AL
   ·intro V W K Z M H F J
    have d1:V 1=_:=H 1 (by kernel_rfl);simp only[pA,d1]at F;clear H d1;obtain rfl:=F;go_wp2;exact J.O _ brf
   apply AL
   ·intro V W K Z M H F J
    have d2:V 2=_:=H 2 (by kernel_rfl);simp only[pA,d2]at F;clear H d2;obtain rfl:=F;have hq:=aL.O.below M aA;unfold SvcAt at hq;obtain⟨q0,q1,q2,q3,q4,q5,q6,q7,q8,q9,bf,a8,bt⟩:=hq;go_wp2;exact J.O _ brf
   apply AL
   ·intro V W K Z M H F J
    simp only[pA]at F;clear H;obtain rfl:=F;go_wp2;exact J.O _ brf
   apply AL
   ·intro V W K Z M H F J
    have d4:V 4=_:=H 4 (by kernel_rfl);simp only[pA,d4]at F;clear H d4;obtain rfl:=F;go_wp2;exact J.O _ brf
   apply AL
   ·intro V W K Z M H F J
    have d5:V 5=_:=H 5 (by kernel_rfl);simp only[pA,d5]at F;clear H d5;obtain rfl:=F;go_wp2;exact J.O _ brf
   apply AL
   ·intro V W K Z M H F J
    have d6:V 6=_:=H 6 (by kernel_rfl);simp only[pA,d6]at F;clear H d6;obtain rfl:=F;have hq:=aL.O.below M aA;unfold SvcAt at hq;obtain⟨q0,q1,q2,q3,q4,q5,q6,q7,q8,q9,bf,a8,bt⟩:=hq;go_wp2;exact J.O _ brf
   apply AL
   ·intro V W K Z M H F J
    simp only[pA]at F;clear H;obtain rfl:=F;go_wp2;exact J.O _ brf
   apply AL
   ·intro V W K Z M H F J
    have d8:V 8=_:=H 8 (by kernel_rfl);simp only[pA,d8]at F;clear H d8;obtain rfl:=F;go_wp2;exact J.O _ brf
   apply AL
   ·intro V W K Z M H F J
    have d9:V 9=_:=H 9 (by kernel_rfl);simp only[pA,d9]at F;clear H d9;obtain rfl:=F;go_wp2;exact J.O _ brf
   apply AL
   ·intro V W K Z M H F J
    have am:V 10=_:=H 10 (by kernel_rfl);simp only[pA,am]at F;clear H am;obtain rfl:=F;go_wp2;exact J.O _ brf
   apply AL
   ·intro V W K Z M H F J
    have ak:V 11=_:=H 11 (by kernel_rfl);simp only[pA,ak]at F;clear H ak;obtain rfl:=F;have e8:=AJ (AK M HG.O cf) 8 rfl;go_wp2;exact J.O _ brf
   apply AL
   ·intro V W K Z M H F J
    simp only[pA]at F;clear H;obtain rfl:=F;go_wp2;exact J.O _ brf
   apply AL
   ·intro V W K Z M H F J
    have bm:V 13=_:=H 13 (by kernel_rfl);simp only[pA,bm]at F;clear H bm;obtain rfl:=F;go_wp2;exact J.O _ brf
   apply AL
   ·intro V W K Z M H F J
    have bb:V 14=_:=H 14 (by kernel_rfl);simp only[pA,bb]at F;clear H bb;obtain rfl:=F;go_wp2;exact J.O _ brf
   apply AL
   ·intro V W K Z M H F J
    have a7:V 15=_:=H 15 (by kernel_rfl);simp only[pA,a7]at F;clear H a7;obtain rfl:=F;have hq:=aL.O.below M aA;unfold SvcAt at hq;obtain⟨q0,q1,q2,q3,q4,q5,q6,q7,q8,q9,bf,a8,bt⟩:=hq;go_wp2;exact J.O _ brf
   refine AW (λv _=>v=.agg (qcV c)) (λ_ _ _ h _=>h) ?_ ?_
   ·intro V W K Z M H F J
    have d3:V 3=_:=H 3 (by kernel_rfl);have d7:V 7=_:=H 7 (by kernel_rfl);have ax:V 12=_:=H 12 (by kernel_rfl);have bk:V 16=_:=H 16 (by kernel_rfl);simp only[pA,d3,d7,ax,bk]at F;clear H d3 d7 ax bk;obtain rfl:=F;go_wp2;exact J.O _ _ brf (by rw[e4.O];rfl)
   refine AW (λv W=>∃q,v=.pointer (qad q)/\wr.heap.size<=q/\qBl W q qyV 76) (λv W W2 ⟨q,h1,h2,h3⟩ hb=>⟨q,h1,h2,AK hb h3 (AB h3).1⟩) ?_ ?_
   ·intro V W K Z M H F J
    simp only[pA]at F;clear H;obtain rfl:=F;go_wp2;exact J.O _ _ (AN _ _) ⟨W.heap.size,rfl,M.size,dm _ _⟩
   intro V W Z M Y F;have d0:V 0=_:=Y 0 (by omega);have d1:V 1=_:=Y 1 (by omega);have d2:V 2=_:=Y 2 (by omega);have d3:V 3=_:=Y 3 (by omega);have d4:V 4=_:=Y 4 (by omega);have d5:V 5=_:=Y 5 (by omega);have d6:V 6=_:=Y 6 (by omega);have d7:V 7=_:=Y 7 (by omega);have d8:V 8=_:=Y 8 (by omega);have d9:V 9=_:=Y 9 (by omega);have am:V 10=_:=Y 10 (by omega);have ak:V 11=_:=Y 11 (by omega);have ax:V 12=_:=Y 12 (by omega);have bm:V 13=_:=Y 13 (by omega);have bb:V 14=_:=Y 14 (by omega);have a7:V 15=_:=Y 15 (by omega);have bk:V 16=_:=Y 16 (by omega);have cO:(λv _=>v=.agg (qcV c)) (V 17) W:=Y 17 (by omega);have ec:(λv W=>∃q,v=.pointer (qad q)/\wr.heap.size<=q/\qBl W q qyV 76) (V 18) W:=Y 18 (by omega);simp only[pA,d0,d1,d2,d3,d4,d5,d6,d7,d8,d9,am,ak,ax,bm,bb,a7,bk]at F;clear Y d0 d1 d2 d3 d4 d5 d6 d7 d8 d9 am ak ax bm bb a7 bk;generalize V 17=g5 at cO F;generalize V 18=gy at ec F;obtain rfl:=F;simp only[dl,dF];obtain rfl:=cO;obtain⟨q,rfl,dc,eS⟩:=ec;have ct:Hid _:=eS;have dd:=M;clear eS M
   go_upto_region 5 with((with_reducible show wpList _ _ _ _ _ _);refine AM rfl 76 (.tmp 4) (.tmp 40) rfl q 0 (qcV c) rfl rfl 76 qyV ct.O Dg (AD rfl) (by simp[Value.oneCell']) ?_;intro w2 hz on;have HB:Hid (qBl w2 q (qcV c) 76):=hz;have ee:Hid (A6 q W w2):=on;clear hz on)
   have aF:Below wr.heap.size wr w2:=dd.trans (ee.O.below.mono dc);have b8:Hid _:=AK aF HG.O cf;have da:Hid (RowIs w2 34 13 g1 n1 d1 (Ab (X.af.set k {s with next:=s.next+(t:Int)}))):=au.O.below aF aA;have bl:=BU (aq.O.below aF);have eT:=BU (aW.O.below aF);have ex:Hid (w2.ownsRow N 3 1 ve ne (CP I)):=CK b9.O aF;have cN:=hb.trans (aF.mono ci);have aI:b2≠some ⟨q,0,none⟩:=OX aq.O dc;have bZ:b2≠some ⟨g,0,none⟩:=Q3 aq.O HG.O (by decide);have aK:q<w2.heap.size:=(AB HB.O).1;have dp:g<w2.heap.size:=(AB b8.O).1;have c9:N<=w2.heap.size:=AH ci aF.size;obtain⟨L2,cz⟩:∃x,Hid (x=(DD X.ah p (mkO X s) t).take (p+t)++c::(DD X.ah p (mkO X s) t).drop (p+t)):=⟨_,rfl⟩;clear HG au aq aW b9 hb aF dd cf aA ci ct ee aL;obtain⟨wb,fl⟩:∃x,x=w2:=⟨_,rfl⟩;subst fl;refine EA 13 9 (λW W'=>KeepO b2 W W'/\Below N W W') (λW=>KeepO b2 wb W/\Below N wb W) (λW=>RowN W N 76 7 b2 (n2+t) cc (Ar (DD X.ah p (mkO X s) t))) (by kernel_rfl) (by kernel_rfl) ⟨KeepO.refl _ _,dI _ _⟩ bl.O (λ_ _ h hb=>⟨h.1.trans (.ba hb),h.2.trans (hb.mono (AH c9 h.2.size))⟩) (λ_ _ h hr=>⟨h.1.trans hr.1,h.2.trans hr.2⟩) (λ_ _ h hb=>h.below hb) ?_;apply AX
   ·intro V W K Z M hZ H F J
    simp only[pA]at F;clear H;obtain rfl:=F;go_wp2;exact J.O _ brf
   apply AX
   ·intro V W K Z M hZ H F J
    simp only[pA]at F;clear H;obtain rfl:=F;go_wp2;exact J.O _ brf
   apply AX
   ·intro V W K Z M hZ H F J
    have d1:V 1=_:=H 1 (by kernel_rfl);simp only[pA,d1]at F;clear H d1;obtain rfl:=F;go_wp2;exact J.O _ brf
   apply AX
   ·intro V W K Z M hZ H F J
    have d2:V 2=_:=H 2 (by kernel_rfl);simp only[pA,d2]at F;clear H d2;obtain rfl:=F;go_wp2;exact J.O _ brf
   apply AX
   ·intro V W K Z M hZ H F J
    have d3:V 3=_:=H 3 (by kernel_rfl);simp only[pA,d3]at F;clear H d3;obtain rfl:=F;go_wp2;exact J.O _ brf
   apply AX
   ·intro V W K Z M hZ H F J
    have d4:V 4=_:=H 4 (by kernel_rfl);simp only[pA,d4]at F;clear H d4;obtain rfl:=F;have ft:=AJ ((M.1.2 g dp bZ).trans b8.O) 10 rfl;go_wp2;exact J.O _ brf
   apply AX
   ·intro V W K Z M hZ H F J
    simp only[pA]at F;clear H;obtain rfl:=F;go_wp2;exact J.O _ brf
   apply AX
   ·intro V W K Z M hZ H F J
    simp only[pA]at F;clear H;obtain rfl:=F;have t0:=AJ ((M.1.2 q aK aI).trans HB.O) 0 rfl;have t1:=AJ ((M.1.2 q aK aI).trans HB.O) 1 rfl;have t2:=AJ ((M.1.2 q aK aI).trans HB.O) 2 rfl;have t3:=AJ ((M.1.2 q aK aI).trans HB.O) 3 rfl;have t4:=AJ ((M.1.2 q aK aI).trans HB.O) 4 rfl;have t5:=AJ ((M.1.2 q aK aI).trans HB.O) 5 rfl;have t6:=AJ ((M.1.2 q aK aI).trans HB.O) 6 rfl;go_wp2;exact J.O _ brf
   refine Al (λv W=>∃vb,v=.slice (qad vb) 1 1/\qBl W vb (qcV c) 76/\b2≠some ⟨vb,0,none⟩) (λi hi v W W' ⟨vb,h1,h2,h3⟩ hr=>⟨vb,h1,(DP hr).elim (λh=>(h.1.2 vb (AB h2).1 h3).trans h2) (λh=>AK h h2 (AB h2).1),h3⟩) ?_ ?_
   ·intro V W K Z M hZ H F J
    have d7:V 7=_:=H 7 (by kernel_rfl);simp only[pA,d7]at F;clear H d7;obtain rfl:=F;go_wp2;exact J.O _ _ (AN _ _) ⟨W.heap.size,rfl,dm _ _,OX bl.O M.1.1⟩
   refine Al (λv W=>∃bo kk,v=.slice bo (n2+t+1) kk/\RowN W N 76 7 bo (n2+t+1) kk (Ar L2)) (λi hi v W W' ⟨bo,kk,h1,h2⟩ hr=>⟨bo,kk,h1,h2.below (El hi hr)⟩) ?_ ?_
   ·intro V W K Z M hZ H F J
    have d5:V 5=_:=H 5 (by kernel_rfl);have d6:V 6=_:=H 6 (by kernel_rfl);have d8:(λv W=>∃vb,v=.slice (qad vb) 1 1/\qBl W vb (qcV c) 76/\b2≠some ⟨vb,0,none⟩) (V 8) W:=H 8 (by kernel_rfl);simp only[pA,d5,d6]at F;clear H d5 d6;generalize V 8=x8 at d8 F;obtain rfl:=F;obtain⟨vb,rfl,cM,dx⟩:=d8;have h0:=hZ rfl
    go_wp2_with fail
    refine(insC_any (DD X.ah p (mkO X s) t) c b2 (n2+t) cc (p+t) N vb _ cm (by omega) (by omega) (AH c9 M.1.1) h0 cM dx).mono ?_;rintro e w3 ⟨bo,kk,rfl,hr,hq,bq⟩
    have cl:Hid (RowN w3 N 76 7 bo (n2+t+1) kk (Ar L2)):=by
     rw[cz.O];exact hr
    have f8:Hid _:=hq;clear hr hq h0 cM dx;go_wp2;exact J.O _ _ ⟨⟨bq.size,f8.O⟩,bq⟩ ⟨bo,kk,rfl,cl.O⟩
   apply AX
   ·intro V W K Z M hZ H F J
    have d0:V 0=_:=H 0 (by kernel_rfl);simp only[pA,d0]at F;clear H d0;obtain rfl:=F;go_wp2;exact J.O _ brf
   apply AX
   ·intro V W K Z M hZ H F J
    have am:V 10=_:=H 10 (by kernel_rfl);simp only[pA,am]at F;clear H am;obtain rfl:=F;go_wp2;exact J.O _ brf
   apply AX
   ·intro V W K Z M hZ H F J
    have ak:V 11=_:=H 11 (by kernel_rfl);simp only[pA,ak]at F;clear H ak;obtain rfl:=F;go_wp2;exact J.O _ brf
   intro V W Z M Y F;have d0:V 0=_:=Y 0 (by omega);have d1:V 1=_:=Y 1 (by omega);have d2:V 2=_:=Y 2 (by omega);have d3:V 3=_:=Y 3 (by omega);have d4:V 4=_:=Y 4 (by omega);have d5:V 5=_:=Y 5 (by omega);have d6:V 6=_:=Y 6 (by omega);have d7:V 7=_:=Y 7 (by omega);have d8:(λv W=>∃vb,v=.slice (qad vb) 1 1/\qBl W vb (qcV c) 76/\b2≠some ⟨vb,0,none⟩) (V 8) W:=Y 8 (by omega);have d9:(λv W=>∃bo kk,v=.slice bo (n2+t+1) kk/\RowN W N 76 7 bo (n2+t+1) kk (Ar L2)) (V 9) W:=Y 9 (by omega);have am:V 10=_:=Y 10 (by omega);have ak:V 11=_:=Y 11 (by omega);have ax:V 12=_:=Y 12 (by omega);simp only[pA,d0,d1,d2,d3,d4,d5,d6,d7,am,ak,ax]at F;clear Y d0 d1 d2 d3 d4 d5 d6 d7 am ak ax;generalize V 8=x8 at d8 F;generalize V 9=x9 at d9 F;obtain rfl:=F;simp only[dl,dF];obtain⟨bo,kk,rfl,cr⟩:=d9;clear d8;have cl:=BU cr;have et:Hid (KeepO b2 wb W):=M.1;have an:=M.2;have cb:Hid (KeepT 76 wb W):=et.O.toT bl.O;have a9:Hid _:=(et.O.2 g dp bZ).trans b8.O;have en:Hid (RowIs W 34 13 g1 n1 d1 (Ab (X.af.set k {s with next:=s.next+(t:Int)}))):=cb.O.cy da.O (by decide);have bU:L2=DD X.ah p (mkO X s) (t+1):=by rw[cz.O,e4.O];exact Mq _ _ (by rw[ai.O];exact hp)
   have f5:Hid _:=bU;clear cr M bU
   go_wp2_with (first
    |((with_reducible show wpList _ _ _ _ _ _);refine BC rfl 25 (.tmp 53) (.tmp 50) rfl g 10 (.slice bo (n2+t+1) kk) rfl rfl ME rfl rfl 227 #[.string A.aa,.int .i64 A.aF,.int .i64 A.am,.int .i64 A.av,.int .i64 A.ay,.bool A.az,.slice ae A.aw.length ce,.bool A.drop,.int .i64 X.aj,.slice (qad g1) n1 d1,.slice b2 (n2+t) cc,.slice b3 n3 d3,.int .i64 (k:Int),ve] a9.O (AD rfl) ?_;intro w4 hz on;have fn:Hid (qBl w4 g #[.string A.aa,.int .i64 A.aF,.int .i64 A.am,.int .i64 A.av,.int .i64 A.ay,.bool A.az,.slice ae A.aw.length ce,.bool A.drop,.int .i64 X.aj,.slice (qad g1) n1 d1,.slice bo (n2+t+1) kk,.slice b3 n3 d3,.int .i64 (k:Int),ve] 227):=hz;have f0:Hid (A6 g W w4):=on;have bI:Hid (KeepT 227 W w4):=.aV on a9.O;have bB:Hid (RowIs w4 34 13 g1 n1 d1 (Ab (X.af.set k {s with next:=s.next+(t:Int)}))):=bI.O.cy en.O (by decide);have hq:=bB.O.bC (k:=k) (s:={s with next:=s.next+(t:Int)}) (by rw[eC (by rw[aT.O];exact bx)]);unfold SvcAt at hq;obtain⟨q0,q1,q2,q3,q4,q5,q6,q7,q8,q9,bf,a8,bt⟩:=hq;clear hz on)
    |((with_reducible show wpList _ _ _ _ _ _);refine Bv rfl 3 (.tmp 62) (.tmp 60) rfl g1 _ (.int .i64 (s.next+(t:Int)+1)) rfl rfl CG rfl rfl 34 13 n1 d1 _ bB.O (by omega) ?_;intro w5 hr on;have eX:Hid (RowIs w5 34 13 g1 n1 d1 (Ab (X.af.set k {s with next:=s.next+((t+1:Nat):Int)}))):=(by have:=hr.O;rw[show s.next+(t:Int)+1=s.next+((t+1:Nat):Int) by omega]at this;rw[show splice (Ab (X.af.set k {s with next:=s.next+(t:Int)})) (k*13+7) [.int .i64 (s.next+((t+1:Nat):Int))]=Ab ((X.af.set k {s with next:=s.next+(t:Int)}).set k {s with next:=s.next+((t+1:Nat):Int)}) from Bm (c:=Svc.cells) (n:=13) (λ_=>rfl) (X.af.set k {s with next:=s.next+(t:Int)}) k 7 {s with next:=s.next+(t:Int)} {s with next:=s.next+((t+1:Nat):Int)} _ (by rw[eC (by rw[aT.O];exact bx)]) (by omega) rfl,fX]at this;exact this);have eb:Hid (A6 g1 w4 w5):=on;clear hr on q0 q1 q2 q3 q4 q5 q6 q7 q8 q9 bf a8 bt))
   go_roundw
   case rel=>
    have k5:KeepT 34 w4 w5:=.be eb.O bB.O;have b7:(DD X.ah p (mkO X s) (t+1)).length=n2+t+1:=by rw[Ow _ _ (by rw[ai.O];exact hp),ai.O];omega
    refine⟨t+1,bo,kk,f3,by go_num,by go_num,⟨?_,eX.O,?_,k5.aN (bI.O.aN (cb.O.aN eT.O (by decide)) (by decide)) (by decide),k5.aQ (bI.O.aQ (cb.O.aQ ex.O (by decide)) (by decide)) (by decide)⟩,cN.trans (an.trans ((f0.O.below.mono cq).trans (eb.O.below.mono cK)))⟩
    ·rw[b7]
     exact k5.aR fn.O (by decide)
    ·rw[b7,<-f5.O]
     exact k5.aN (bI.O.aN cl.O (by decide)) (by decide)
   case measure=>simp[intOf];omega
  ·have f4:t=ar:=by omega
   subst f4;go_wp2
   go_end0
   refine⟨rfl,⟨some ⟨g1,0,none⟩,b2,b3,d1,cc,d3,ve,cq,?_,⟨?_,?_,?_⟩,?_⟩,hb⟩
   ·have:=HG.O
    rw[HP.O];show qBl wr g #[.string A.aa,.int .i64 A.aF,.int .i64 A.am,.int .i64 A.av,.int .i64 A.ay,.bool A.az,.slice ae A.aw.length ce,.bool A.drop,.int .i64 X.aj,.slice (qad g1) (X.af.set k {s with next:=s.next+A.am}).length d1,.slice b2 (DD X.ah p (mkO X s) t).length cc,.slice b3 X.ak.length d3,.int .i64 (k:Int),ve] 227;rw[du,aT.O,cm.O,ca.O];exact this
   ·have:=au.O
    rw[c8.O];show RowN wr N 34 13 (qad g1) (X.af.set k {s with next:=s.next+(t:Int)}).length d1 (Ab (X.af.set k {s with next:=s.next+(t:Int)}));rw[du,aT.O];exact .inr ⟨g1,rfl,cK,this⟩
   ·have:=aq.O
    rw[HP.O];show RowN wr N 76 7 b2 (DD X.ah p (mkO X s) t).length cc (Ar (DD X.ah p (mkO X s) t));rw[cm.O];exact this
   ·have:=aW.O
    rw[<-ca.O]at this;exact this
   ·rw[dq.O]
    exact b9.O
end
end Go.Proofs.YtbceafpodamnfaaGreatDoor
