import Derived.Test.YtbceafpodamnfaaGreatDoorG18
set_option linter.all false
set_option maxHeartbeats 16000000
set_option maxRecDepth 100000
namespace Go.Proofs.YtbceafpodamnfaaGreatDoor
open Go.RowKit Go.Sort
open Go.Value renaming int->In,slice->Sl,string->Sg,bool->Bo,pointer->Po
open Go.IntKind renaming i64->i6
theorem P9:(Tryz.prog.info? 36).map (·.size)=some 17:=qk
theorem QW(B:Bk)(E:Ev)(a1 a2 a3:qO)(c1 c2 c3:Nat)(w:World)(hS:B.aR)(hZ:B.aP)(hE:E.aP)(hB:BkAt w a1 a2 a3 B):
  Calls Tryz.prog 110 #[.agg (qbV B a1 c1 a2 c2 a3 c3),.agg (qeV E)] w λe w'=>∃(x1 x2 x3:qO) (p1 p2 p3:Nat),e=.returned (.tuple #[.agg #[In i6 (Cv B E).1.av,.slice x1 (Cv B E).1.ah.length p1,.slice x2 (Cv B E).1.ar.length p2,.slice x3 (Cv B E).1.aw.length p3],In i6 (Cv B E).2])/\BkAt w' x1 x2 x3 (Cv B E).1/\Below w.heap.size w w':=by
 obtain⟨W0,cM,t0,t1,t2,cS,ce,a9⟩:=SK w (.cells (qbV B a1 c1 a2 c2 a3 c3) 28) (.cells (qeV E) 36) (.cells qzV 28);have X0:Hid _:=t0;have E0:Hid _:=t1;have Z0:Hid _:=t2;clear t0 t1 t2;go_enter Tryz.func110,Tryz.ntmps110
 go_upto_region 1 with fail
 clear cM;have e0:=AJ X0.ab 0;have e1:=AJ X0.ab 1;have e2:=AJ X0.ab 2;have e3:=AJ X0.ab 3
 go_wp2_with fail
 refine(A7 B a1 a2 a3 c1 c2 c3 W0 hS hZ (hB.below a9)).mono ?_;rintro e w1 ⟨rfl,z⟩;have aD:=a9.trans (z.mono' (by have:=a9.size;omega));have X1:Hid _:=AK z X0.ab;have E1:Hid _:=AK z E0.ab;have Z1:Hid _:=AK z Z0.ab;have cT:w.heap.size+1+1<w1.heap.size:=(AB Z1.ab).1;clear z e0 e1 e2 e3 X0 E0 Z0 a9 cS ce;cases hv:Aj B
 ·have HA:Hid (Cv B E=(noBk,1)):=by unfold Hid Cv;rw[hv];rfl
  go_wp2_with (refine qAM Z1.ab BR ?_;intro w2 hz on;have Z2:Hid (qBl w2 (w.heap.size+1+1) qzV 28):=hz;have ak:=aD.trans (on.below.mono' qo);have ae:Hid (BH (w.heap.size+1+1) w1 w2):=on;clear hz on)
  exact dF (v:=.tuple #[.agg qzV,In i6 1]) (Bm rfl _ _ (w.heap.size+1+1) _ _ _ _ rfl Z2.ab Tryz.underlying28 rfl BR _ rfl) rfl ⟨none,none,none,0,0,0,by rw[HA.ab];rfl,by rw[HA.ab];exact⟨λh=>absurd rfl h,λh=>absurd rfl h,λh=>absurd rfl h⟩,ak⟩
 ·have hV:=hv
  have e0:=AJ X1.ab 0;have bm:0<=B.av/\B.av<=1000000:=by unfold Aj at hV;simp only[di,inB,dS]at hV;omega
  obtain⟨bm,ee⟩:=bm
  by_cases aN:1000000<=B.av
  ·have k0:=AJ E1.ab 0
   go_upto_region 4 with fail
   go_wp2_with fail
   refine(EY E.kind 1 6 w1).mono ?_;rintro e w2 ⟨rfl,z⟩;have ak:=aD.trans (z.mono' (by have:=aD.size;omega));have X2:Hid _:=AK z X1.ab;have E2:Hid _:=AK z E1.ab;have Z2:Hid _:=AK z Z1.ab;have c5:w.heap.size+1+1<w2.heap.size:=(AB Z2.ab).1;clear z k0 e0 X1 E1 Z1 aD cT;have e0:=AJ X2.ab 0;have e1:=AJ X2.ab 1;have e2:=AJ X2.ab 2;have e3:=AJ X2.ab 3;cases hk:inB E.kind 1 6
   ·have HA:Hid (Cv B E=(B,4)):=by unfold Hid Cv;rw[dv hv,dv aN,hk];rfl
    go_wp2_with fail
    refine(Cj B a1 a2 a3 c1 c2 c3 w2 hS (hB.below ak)).mono ?_;rintro e w3 ⟨r1,p1,r2,p2,r3,p3,rfl,ag,z⟩;have az:=ak.trans (z.mono' (by have:=ak.size;omega));have X3:Hid _:=AK z X2.ab;have E3:Hid _:=AK z E2.ab;have Z3:Hid _:=AK z Z2.ab;have ba:w.heap.size+1+1<w3.heap.size:=(AB Z3.ab).1;have F:Hid _:=ag;clear ag z e0 e1 e2 e3
    go_wp2_with (refine qAM Z3.ab BR ?_;intro w4 hz on;have Z4:Hid (qBl w4 (w.heap.size+1+1) (qbV B (qad r1) p1 (qad r2) p2 (qad r3) p3) 28):=hz;have aA:=az.trans (on.below.mono' qo);have ae:Hid (BH (w.heap.size+1+1) w3 w4):=on;clear hz on)
    exact dF (v:=.tuple #[.agg (qbV B (qad r1) p1 (qad r2) p2 (qad r3) p3),In i6 4]) (Bm rfl _ _ (w.heap.size+1+1) _ _ _ _ rfl Z4.ab Tryz.underlying28 rfl BR _ rfl) rfl ⟨some ⟨r1,0,none⟩,some ⟨r2,0,none⟩,some ⟨r3,0,none⟩,p1,p2,p3,by rw[HA.ab],by rw[HA.ab];exact⟨(F.ab.ah.aV (ae.ab.aL r1 (by have:=F.ab.n1;omega))).ck,(F.ab.ar.aV (ae.ab.aL r2 (by have:=F.ab.n2;omega))).bZ,(F.ab.aw.aV (ae.ab.aL r3 (by have:=F.ab.n3;omega))).cA⟩,aA⟩
   ·have HA:Hid (Cv B E=(B,7)):=by unfold Hid Cv;rw[dv hv,dv aN,hk];rfl
    go_wp2_with fail
    refine(Cj B a1 a2 a3 c1 c2 c3 w2 hS (hB.below ak)).mono ?_;rintro e w3 ⟨r1,p1,r2,p2,r3,p3,rfl,ag,z⟩;have az:=ak.trans (z.mono' (by have:=ak.size;omega));have X3:Hid _:=AK z X2.ab;have E3:Hid _:=AK z E2.ab;have Z3:Hid _:=AK z Z2.ab;have ba:w.heap.size+1+1<w3.heap.size:=(AB Z3.ab).1;have F:Hid _:=ag;clear ag z e0 e1 e2 e3
    go_wp2_with (refine qAM Z3.ab BR ?_;intro w4 hz on;have Z4:Hid (qBl w4 (w.heap.size+1+1) (qbV B (qad r1) p1 (qad r2) p2 (qad r3) p3) 28):=hz;have aA:=az.trans (on.below.mono' qo);have ae:Hid (BH (w.heap.size+1+1) w3 w4):=on;clear hz on)
    exact dF (v:=.tuple #[.agg (qbV B (qad r1) p1 (qad r2) p2 (qad r3) p3),In i6 7]) (Bm rfl _ _ (w.heap.size+1+1) _ _ _ _ rfl Z4.ab Tryz.underlying28 rfl BR _ rfl) rfl ⟨some ⟨r1,0,none⟩,some ⟨r2,0,none⟩,some ⟨r3,0,none⟩,p1,p2,p3,by rw[HA.ab],by rw[HA.ab];exact⟨(F.ab.ah.aV (ae.ab.aL r1 (by have:=F.ab.n1;omega))).ck,(F.ab.ar.aV (ae.ab.aL r2 (by have:=F.ab.n2;omega))).bZ,(F.ab.aw.aV (ae.ab.aL r3 (by have:=F.ab.n3;omega))).cA⟩,aA⟩
  ·have bd:B.av<1000000:=qo
   have HV:Hid (Aj B=true):=hv;have a5:Hid (Cv B E=(if(AS B E).2=0 then(if Aj (AS B E).1=true then((AS B E).1,0) else(B,2)) else(B,(AS B E).2))):=by unfold Hid Cv;rw[dv hv,dk aN]
   clear hV hv aN;have aN:=bd;clear bd
   go_upto_region 7 with fail
   clear e0;refine Gw 9 3 [[],[0],[],[1,2],[3],[4],[4],[],[5,7]] [3,8] [1,3,4,5,7,8] [8] [(3,7),(8,4)] (λi W W2=>if i=3 then ∀(b:Nat) cs fr,W.heap[b]?=some (.cells cs 28 fr)->W2.heap[b]?=W.heap[b]? else ∀(b:Nat) cs t fr,t≠28->W.heap[b]?=some (.cells cs t fr)->W2.heap[b]?=W.heap[b]?) qk qk qk ?_;apply FN qk
   ·intro V W K A hW hd hA hK
    simp only[pA]at hA;subst hA;refine dB rfl 28 (.tmp 2) rfl w.heap.size rfl 28 (qbV B a1 c1 a2 c2 a3 c3) (0,0) _ (AK hW X1.ab) Tryz.underlying28 rfl BR ?_;go_wp2;exact hK.ab _ brf
   refine De (λvv W=>∃g1 k1 g2 k2 g3 k3,vv=.agg (qbV B (qad g1) k1 (qad g2) k2 (qad g3) k3)/\BkRow W w1.heap.size g1 g2 g3 k1 k2 k3 B) (λv W W2 ⟨g1,k1,g2,k2,g3,k3,h,hr⟩ hb=>⟨g1,k1,g2,k2,g3,k3,h,hr.n1,hr.n2,hr.n3,hr.ah.below hb hr.ah.lt,hr.ar.below hb hr.ar.lt,hr.aw.below hb hr.aw.lt⟩) qk qk ?_ ?_
   ·intro V W K A hW hd hA hK
    simp only[pA,qv (hd 0 (by kernel_rfl))]at hA;subst hA
    go_wp2_with fail
    refine(Cj B a1 a2 a3 c1 c2 c3 W hS ((hB.below aD).below hW)).mono ?_;rintro e w2 ⟨g1,k1,g2,k2,g3,k3,rfl,ag,z⟩;have F:Hid _:=ag;have aH:=hW.size;clear ag;go_wp2;exact hK.ab _ _ z ⟨g1,k1,g2,k2,g3,k3,rfl,AH aH F.ab.n1,AH aH F.ab.n2,AH aH F.ab.n3,F.ab.ah,F.ab.ar,F.ab.aw⟩
   apply FN qk
   ·intro V W K A hW hd hA hK
    simp only[pA]at hA;subst hA;refine dB rfl 36 (.tmp 3) rfl (w.heap.size+1) rfl 36 (qeV E) (0,0) _ (AK hW E1.ab) Tryz.underlying36 rfl P9 ?_;go_wp2;exact hK.ab _ brf
   refine Mg (λ(_:Nat->Value) vv W=>∃(q:Int) (Y Z b3:Nat) (m1 d1 M d2 O d3:Nat),vv=.tuple #[.agg #[In i6 q,.slice (qad Y) m1 d1,.slice (qad Z) M d2,.slice (qad b3) O d3],In i6 (AS B E).2]/\((AS B E).2=0->q=(AS B E).1.av/\m1=(AS B E).1.ah.length/\M=(AS B E).1.ar.length/\O=(AS B E).1.aw.length/\RowIs W 34 13 Y m1 d1 (Af (AS B E).1.ah)/\RowIs W 76 7 Z M d2 (Ay (AS B E).1.ar)/\RowIs W 90 2 b3 O d3 (Cd (AS B E).1.aw))) (λ_ v W W2 ⟨q,Y,Z,b3,m1,d1,M,d2,O,d3,h,J⟩ hb=>⟨q,Y,Z,b3,m1,d1,M,d2,O,d3,h,λH=>⟨(J H).1,(J H).2.1,(J H).2.2.1,(J H).2.2.2.1,(J H).2.2.2.2.1.below hb (J H).2.2.2.2.1.lt,(J H).2.2.2.2.2.1.below hb (J H).2.2.2.2.2.1.lt,(J H).2.2.2.2.2.2.below hb (J H).2.2.2.2.2.2.lt⟩⟩) (λ_ _ _ _ _ h=>h) qk qk ?_ ?_
   ·intro V W K A hW hd hA hK
    have d1:(λvv W=>∃g1 k1 g2 k2 g3 k3,vv=.agg (qbV B (qad g1) k1 (qad g2) k2 (qad g3) k3)/\BkRow W w1.heap.size g1 g2 g3 k1 k2 k3 B) (V 1) W:=hd 1 qk;have d2:V 2=_:=hd 2 qk;simp only[pA]at hA;generalize bO:V 0=x0 at hA hK;generalize bS:V 1=x1 at d1 hA hK;generalize bT:V 2=x2 at d2 hA hK;generalize bX:V 3=x3 at hA hK;generalize b0:V 4=x4 at hA hK;generalize b4:V 5=x5 at hA hK;generalize b5:V 6=x6 at hA hK;generalize b6:V 7=x7 at hA hK;generalize b7:V 8=x8 at hA hK;subst d2;subst hA;obtain⟨g1,k1,g2,k2,g3,k3,rfl,ag⟩:=d1;have F:Hid _:=ag;have aH:=hW.size;clear ag
    go_wp2_with fail
    refine(VR B E w1.heap.size g1 g2 g3 k1 k2 k3 W (valid_tn HV.ab) bm aN qo aH F.ab).mono ?_;rintro e w2 ⟨q,Y,Z,b3,m1,d1,M,d2,O,d3,rfl,J,ca⟩;have HM:Hid _:=J;have bD:Hid _:=ca;clear J ca;go_wp2;refine hK.ab _ _ ?_ (bD.ab.below F.ab.n1 F.ab.n2 F.ab.n3 aH) ⟨q,Y,Z,b3,m1,d1,M,d2,O,d3,rfl,HM.ab⟩;show ∀(b:Nat) cs fr,W.heap[b]?=some (.cells cs 28 fr)->w2.heap[b]?=W.heap[b]?;intro b cs fr hb;refine bD.ab.block b (AB hb).1 (λe=>?_) (λe=>?_) (λe=>?_)
    ·obtain⟨_,_,a8,h1,_⟩:=F.ab.ah
     rw[e,h1]at hb;cases hb
    ·obtain⟨_,_,a8,h1,_⟩:=F.ab.ar
     rw[e,h1]at hb;cases hb
    ·obtain⟨_,_,a8,h1,_⟩:=F.ab.aw
     rw[e,h1]at hb;cases hb
   refine De (λvv W=>∃(q:Int) (Y Z b3:Nat) (m1 d1 M d2 O d3:Nat),vv=.tuple #[.agg #[In i6 q,.slice (qad Y) m1 d1,.slice (qad Z) M d2,.slice (qad b3) O d3],In i6 (AS B E).2]/\((AS B E).2=0->q=(AS B E).1.av/\m1=(AS B E).1.ah.length/\M=(AS B E).1.ar.length/\O=(AS B E).1.aw.length/\RowIs W 34 13 Y m1 d1 (Af (AS B E).1.ah)/\RowIs W 76 7 Z M d2 (Ay (AS B E).1.ar)/\RowIs W 90 2 b3 O d3 (Cd (AS B E).1.aw))) (λv W W2 ⟨q,Y,Z,b3,m1,d1,M,d2,O,d3,h,J⟩ hb=>⟨q,Y,Z,b3,m1,d1,M,d2,O,d3,h,λH=>⟨(J H).1,(J H).2.1,(J H).2.2.1,(J H).2.2.2.1,(J H).2.2.2.2.1.below hb (J H).2.2.2.2.1.lt,(J H).2.2.2.2.2.1.below hb (J H).2.2.2.2.2.1.lt,(J H).2.2.2.2.2.2.below hb (J H).2.2.2.2.2.2.lt⟩⟩) qk qk ?_ ?_
   ·intro V W K A hW hd hA hK
    have d3:(λ(_:Nat->Value) vv W=>∃(q:Int) (Y Z b3:Nat) (m1 d1 M d2 O d3:Nat),vv=.tuple #[.agg #[In i6 q,.slice (qad Y) m1 d1,.slice (qad Z) M d2,.slice (qad b3) O d3],In i6 (AS B E).2]/\((AS B E).2=0->q=(AS B E).1.av/\m1=(AS B E).1.ah.length/\M=(AS B E).1.ar.length/\O=(AS B E).1.aw.length/\RowIs W 34 13 Y m1 d1 (Af (AS B E).1.ah)/\RowIs W 76 7 Z M d2 (Ay (AS B E).1.ar)/\RowIs W 90 2 b3 O d3 (Cd (AS B E).1.aw))) V (V 3) W:=hd 3 qk;simp only[pA]at hA;generalize V 3=x3 at d3 hA;subst hA;obtain⟨q,Y,Z,b3,m1,d1,M,d2,O,d3,rfl,J⟩:=d3;have HM:Hid _:=J;clear J;go_wp2;exact hK.ab _ _ brf ⟨q,Y,Z,b3,m1,d1,M,d2,O,d3,rfl,HM.ab⟩
   refine De (λvv W=>∃(q:Int) (Y Z b3:Nat) (m1 d1 M d2 O d3:Nat),vv=.agg #[In i6 q,.slice (qad Y) m1 d1,.slice (qad Z) M d2,.slice (qad b3) O d3]/\((AS B E).2=0->q=(AS B E).1.av/\m1=(AS B E).1.ah.length/\M=(AS B E).1.ar.length/\O=(AS B E).1.aw.length/\RowIs W 34 13 Y m1 d1 (Af (AS B E).1.ah)/\RowIs W 76 7 Z M d2 (Ay (AS B E).1.ar)/\RowIs W 90 2 b3 O d3 (Cd (AS B E).1.aw))) (λv W W2 ⟨q,Y,Z,b3,m1,d1,M,d2,O,d3,h,J⟩ hb=>⟨q,Y,Z,b3,m1,d1,M,d2,O,d3,h,λH=>⟨(J H).1,(J H).2.1,(J H).2.2.1,(J H).2.2.2.1,(J H).2.2.2.2.1.below hb (J H).2.2.2.2.1.lt,(J H).2.2.2.2.2.1.below hb (J H).2.2.2.2.2.1.lt,(J H).2.2.2.2.2.2.below hb (J H).2.2.2.2.2.2.lt⟩⟩) qk qk ?_ ?_
   ·intro V W K A hW hd hA hK
    have d4:(λvv W=>∃(q:Int) (Y Z b3:Nat) (m1 d1 M d2 O d3:Nat),vv=.tuple #[.agg #[In i6 q,.slice (qad Y) m1 d1,.slice (qad Z) M d2,.slice (qad b3) O d3],In i6 (AS B E).2]/\((AS B E).2=0->q=(AS B E).1.av/\m1=(AS B E).1.ah.length/\M=(AS B E).1.ar.length/\O=(AS B E).1.aw.length/\RowIs W 34 13 Y m1 d1 (Af (AS B E).1.ah)/\RowIs W 76 7 Z M d2 (Ay (AS B E).1.ar)/\RowIs W 90 2 b3 O d3 (Cd (AS B E).1.aw))) (V 4) W:=hd 4 qk;simp only[pA]at hA;generalize V 4=x4 at d4 hA;subst hA;obtain⟨q,Y,Z,b3,m1,d1,M,d2,O,d3,rfl,J⟩:=d4;have HM:Hid _:=J;clear J;go_wp2;exact hK.ab _ _ brf ⟨q,Y,Z,b3,m1,d1,M,d2,O,d3,rfl,HM.ab⟩
   apply FN qk
   ·intro V W K A hW hd hA hK
    have d4:(λvv W=>∃(q:Int) (Y Z b3:Nat) (m1 d1 M d2 O d3:Nat),vv=.tuple #[.agg #[In i6 q,.slice (qad Y) m1 d1,.slice (qad Z) M d2,.slice (qad b3) O d3],In i6 (AS B E).2]/\((AS B E).2=0->q=(AS B E).1.av/\m1=(AS B E).1.ah.length/\M=(AS B E).1.ar.length/\O=(AS B E).1.aw.length/\RowIs W 34 13 Y m1 d1 (Af (AS B E).1.ah)/\RowIs W 76 7 Z M d2 (Ay (AS B E).1.ar)/\RowIs W 90 2 b3 O d3 (Cd (AS B E).1.aw))) (V 4) W:=hd 4 qk;simp only[pA]at hA;generalize V 4=x4 at d4 hA;subst hA;obtain⟨q,Y,Z,b3,m1,d1,M,d2,O,d3,rfl,J⟩:=d4;clear J;go_wp2;exact hK.ab _ brf
   refine De (λvv W=>∃b,vv=.pointer (qad b)/\w1.heap.size<=b/\qBl W b qzV 28) (λv W W2 ⟨b,h1,h2,h3⟩ hb=>⟨b,h1,h2,AK hb h3 (AB h3).1⟩) qk qk ?_ ?_
   ·intro V W K A hW hd hA hK
    simp only[pA]at hA;subst hA;go_wp2;exact hK.ab _ _ (AN W _) ⟨_,rfl,hW.size,dm W _⟩
   refine Mg (λV (_:Value) W=>∃(b:Nat) (q:Int) (Y Z b3:Nat) (m1 d1 M d2 O d3:Nat),V 7=.pointer (qad b)/\w1.heap.size<=b/\qBl W b #[In i6 q,.slice (qad Y) m1 d1,.slice (qad Z) M d2,.slice (qad b3) O d3] 28/\((AS B E).2=0->q=(AS B E).1.av/\m1=(AS B E).1.ah.length/\M=(AS B E).1.ar.length/\O=(AS B E).1.aw.length/\RowIs W 34 13 Y m1 d1 (Af (AS B E).1.ah)/\RowIs W 76 7 Z M d2 (Ay (AS B E).1.ar)/\RowIs W 90 2 b3 O d3 (Cd (AS B E).1.aw))) (λV v W W2 ⟨b,q,Y,Z,b3,m1,d1,M,d2,O,d3,hv,hn,h,J⟩ hb=>⟨b,q,Y,Z,b3,m1,d1,M,d2,O,d3,hv,hn,AK hb h (AB h).1,λH=>⟨(J H).1,(J H).2.1,(J H).2.2.1,(J H).2.2.2.1,(J H).2.2.2.2.1.below hb (J H).2.2.2.2.1.lt,(J H).2.2.2.2.2.1.below hb (J H).2.2.2.2.2.1.lt,(J H).2.2.2.2.2.2.below hb (J H).2.2.2.2.2.2.lt⟩⟩) (λv V V2 W cL ⟨b,q,Y,Z,b3,m1,d1,M,d2,O,d3,hv,hr⟩=>⟨b,q,Y,Z,b3,m1,d1,M,d2,O,d3,(cL 7 rfl).symm.trans hv,hr⟩) qk qk ?_ ?_
   ·intro V W K A hW hd hA hK
    have d5:(λvv W=>∃(q:Int) (Y Z b3:Nat) (m1 d1 M d2 O d3:Nat),vv=.agg #[In i6 q,.slice (qad Y) m1 d1,.slice (qad Z) M d2,.slice (qad b3) O d3]/\((AS B E).2=0->q=(AS B E).1.av/\m1=(AS B E).1.ah.length/\M=(AS B E).1.ar.length/\O=(AS B E).1.aw.length/\RowIs W 34 13 Y m1 d1 (Af (AS B E).1.ah)/\RowIs W 76 7 Z M d2 (Ay (AS B E).1.ar)/\RowIs W 90 2 b3 O d3 (Cd (AS B E).1.aw))) (V 5) W:=hd 5 qk;have d7:(λvv W=>∃b,vv=.pointer (qad b)/\w1.heap.size<=b/\qBl W b qzV 28) (V 7) W:=hd 7 qk;simp only[pA]at hA;generalize bO:V 0=x0 at hA hK;generalize bS:V 1=x1 at hA hK;generalize bT:V 2=x2 at hA hK;generalize bX:V 3=x3 at hA hK;generalize b0:V 4=x4 at hA hK;generalize b4:V 5=x5 at d5 hA hK;generalize b5:V 6=x6 at hA hK;generalize b6:V 7=x7 at d7 hA hK;generalize b7:V 8=x8 at hA hK;subst hA;obtain⟨q,Y,Z,b3,m1,d1,M,d2,O,d3,rfl,J⟩:=d5;obtain⟨b,rfl,b8,aM⟩:=d7;have HM:Hid _:=J;have aH:=hW.size;clear J bO bS bT bX b0 b4 b5 b6 b7;refine qAM aM BR ?_;intro w2 hz on;have cu:Hid (qBl w2 b #[In i6 q,.slice (qad Y) m1 d1,.slice (qad Z) M d2,.slice (qad b3) O d3] 28):=hz;have ae:Hid (BH b W w2):=on;have an:Hid _:=aM;clear hz on aM;go_wp2
    have be:∀(t:TypeId) (c n cap sz:Nat) (xs:qL),RowIs W t sz c n cap xs->t≠28->c≠b:=λt c n cap sz xs hr ht e=>by
     obtain⟨_,_,a8,h1,_⟩:=hr;rw[e,an.ab]at h1;injection h1 with h1
     injection h1 with _ h1
     exact ht h1.symm
    refine hK.ab undef _ ?_ (ae.ab.below.mono' qo) ⟨b,q,Y,Z,b3,m1,d1,M,d2,O,d3,rfl,b8,cu.ab,λH=>⟨(HM.ab H).1,(HM.ab H).2.1,(HM.ab H).2.2.1,(HM.ab H).2.2.2.1,(HM.ab H).2.2.2.2.1.aV (ae.ab.aL _ (be _ _ _ _ _ _ (HM.ab H).2.2.2.2.1 qd)),(HM.ab H).2.2.2.2.2.1.aV (ae.ab.aL _ (be _ _ _ _ _ _ (HM.ab H).2.2.2.2.2.1 qd)),(HM.ab H).2.2.2.2.2.2.aV (ae.ab.aL _ (be _ _ _ _ _ _ (HM.ab H).2.2.2.2.2.2 qd))⟩⟩;show ∀(c:Nat) cs t fr,t≠28->W.heap[c]?=some (.cells cs t fr)->w2.heap[c]?=W.heap[c]?;intro c cs t fr ht hc;refine ae.ab.aL c (λe=>?_);rw[e,an.ab]at hc;injection hc with hc
    injection hc with _ hc
    exact ht hc.symm
   refine⟨λi j hk V v W W' hr hq=>?_,?_⟩
   ·simp only[List.contains_cons,List.contains_nil,Bool.or_false,ep,fN,dR]at hk
    rcases hk with⟨rfl,rfl⟩|⟨rfl,rfl⟩
    ·have bn:(λvv W=>∃b,vv=.pointer (qad b)/\w1.heap.size<=b/\qBl W b qzV 28) (v) W:=hq
     show(λvv W=>∃b,vv=.pointer (qad b)/\w1.heap.size<=b/\qBl W b qzV 28) (v) W';clear hq;obtain⟨b,h1,h2,h3⟩:=bn;exact⟨b,h1,h2,((show ∀(b:Nat) cs fr,W.heap[b]?=some (.cells cs 28 fr)->W'.heap[b]?=W.heap[b]? from hr) b _ _ h3).trans h3⟩
    ·have bn:(λvv W=>∃(q:Int) (Y Z b3:Nat) (m1 d1 M d2 O d3:Nat),vv=.tuple #[.agg #[In i6 q,.slice (qad Y) m1 d1,.slice (qad Z) M d2,.slice (qad b3) O d3],In i6 (AS B E).2]/\((AS B E).2=0->q=(AS B E).1.av/\m1=(AS B E).1.ah.length/\M=(AS B E).1.ar.length/\O=(AS B E).1.aw.length/\RowIs W 34 13 Y m1 d1 (Af (AS B E).1.ah)/\RowIs W 76 7 Z M d2 (Ay (AS B E).1.ar)/\RowIs W 90 2 b3 O d3 (Cd (AS B E).1.aw))) (v) W:=hq
     show(λvv W=>∃(q:Int) (Y Z b3:Nat) (m1 d1 M d2 O d3:Nat),vv=.tuple #[.agg #[In i6 q,.slice (qad Y) m1 d1,.slice (qad Z) M d2,.slice (qad b3) O d3],In i6 (AS B E).2]/\((AS B E).2=0->q=(AS B E).1.av/\m1=(AS B E).1.ah.length/\M=(AS B E).1.ar.length/\O=(AS B E).1.aw.length/\RowIs W 34 13 Y m1 d1 (Af (AS B E).1.ah)/\RowIs W 76 7 Z M d2 (Ay (AS B E).1.ar)/\RowIs W 90 2 b3 O d3 (Cd (AS B E).1.aw))) (v) W';clear hq;obtain⟨q,Y,Z,b3,m1,d1,M,d2,O,d3,h,J⟩:=bn;have cQ:∀(b:Nat) cs t fr,t≠28->W.heap[b]?=some (.cells cs t fr)->W'.heap[b]?=W.heap[b]?:=hr
     have kr:∀t g sz n cap xs,t≠28->RowIs W t sz g n cap xs->RowIs W' t sz g n cap xs:=λt g sz n cap xs ht h=>by
      obtain⟨_,_,a8,h1,_⟩:=id h;exact h.aV (cQ g _ t _ ht h1)
     exact⟨q,Y,Z,b3,m1,d1,M,d2,O,d3,h,λH=>⟨(J H).1,(J H).2.1,(J H).2.2.1,(J H).2.2.2.1,kr _ _ _ _ _ _ qd (J H).2.2.2.2.1,kr _ _ _ _ _ _ qd (J H).2.2.2.2.2.1,kr _ _ _ _ _ _ qd (J H).2.2.2.2.2.2⟩⟩
   intro V W A hW hS hA;have d0:V 0=_:=hS 0 qo (.inr qk);have d2:V 2=_:=hS 2 qo (.inr qk);have d6:V 6=_:=hS 6 qo (.inr qk);have d8:(λV (_:Value) W=>∃(b:Nat) (q:Int) (Y Z b3:Nat) (m1 d1 M d2 O d3:Nat),V 7=.pointer (qad b)/\w1.heap.size<=b/\qBl W b #[In i6 q,.slice (qad Y) m1 d1,.slice (qad Z) M d2,.slice (qad b3) O d3] 28/\((AS B E).2=0->q=(AS B E).1.av/\m1=(AS B E).1.ah.length/\M=(AS B E).1.ar.length/\O=(AS B E).1.aw.length/\RowIs W 34 13 Y m1 d1 (Af (AS B E).1.ah)/\RowIs W 76 7 Z M d2 (Ay (AS B E).1.ar)/\RowIs W 90 2 b3 O d3 (Cd (AS B E).1.aw))) V (V 8) W:=hS 8 qo (.inl qk);simp only[pA,d0,d2,d6]at hA;dsimp only at d8;clear hS d0 d2 d6;generalize V 7=x7 at d8 hA;generalize V 8=x8 at d8 hA;subst hA;simp only[dA,dN];obtain⟨b,q,Y,Z,b3,m1,d1,M,d2,O,d3,cR,b8,aM,J⟩:=d8;subst cR;have an:Hid _:=aM;have HM:Hid _:=J;clear aM J;have aK:=aD.trans (hW.mono' (by have:=aD.size;omega));have XW:Hid _:=AK hW X1.ab;have EW:Hid _:=AK hW E1.ab;have ZW:Hid _:=AK hW Z1.ab;have eg:w.heap.size+1+1<W.heap.size:=(AB ZW.ab).1;have cN:=(AB an.ab).1;clear hW X1 E1 Z1 aD
   by_cases H:(AS B E).2=0
   ·obtain⟨rfl,rfl,rfl,rfl,r1,r2,r3⟩:=HM.ab H
    have R1:=hidOf r1;have R2:=hidOf r2;have R3:=hidOf r3;have H0:Hid _:=H;clear r1 r2 r3 HM;rw[H];clear H;have y0:=AJ an.ab 0;have y1:=AJ an.ab 1;have y2:=AJ an.ab 2;have y3:=AJ an.ab 3
    go_wp2_with fail
    refine(A7 (AS B E).1 (qad Y) (qad Z) (qad b3) d1 d2 d3 W (Hk HV.ab) (LC HV.ab hZ hE) ⟨R1.ab.ck,R2.ab.bZ,R3.ab.cA⟩).mono ?_;rintro e w2 ⟨rfl,z⟩;have ak:=aK.trans (z.mono' (by have:=aK.size;omega));have X2:Hid _:=AK z XW.ab;have E2:Hid _:=AK z EW.ab;have Z2:Hid _:=AK z ZW.ab;have c5:w.heap.size+1+1<w2.heap.size:=(AB Z2.ab).1;have a4:Hid _:=AK z an.ab cN;have ct:Hid (BkAt w2 (qad Y) (qad Z) (qad b3) (AS B E).1):=BkAt.below ⟨R1.ab.ck,R2.ab.bZ,R3.ab.cA⟩ z;clear z y0 y1 y2 y3 XW EW ZW aK an R1 R2 R3;cases cc:Aj (AS B E).1
    ·have HA:Hid (Cv B E=(B,2)):=by unfold Hid;rw[a5.ab,dv H0.ab,dk (by rw[cc];simp)]
     have e0:=AJ X2.ab 0;have e1:=AJ X2.ab 1;have e2:=AJ X2.ab 2;have e3:=AJ X2.ab 3
     go_wp2_with fail
     refine(Cj B a1 a2 a3 c1 c2 c3 w2 hS (hB.below ak)).mono ?_;rintro e w3 ⟨r1,p1,r2,p2,r3,p3,rfl,ag,z⟩;have az:=ak.trans (z.mono' (by have:=ak.size;omega));have X3:Hid _:=AK z X2.ab;have E3:Hid _:=AK z E2.ab;have Z3:Hid _:=AK z Z2.ab;have ba:w.heap.size+1+1<w3.heap.size:=(AB Z3.ab).1;have F:Hid _:=ag;clear ag z e0 e1 e2 e3
     go_wp2_with (refine qAM Z3.ab BR ?_;intro w4 hz on;have Z4:Hid (qBl w4 (w.heap.size+1+1) (qbV B (qad r1) p1 (qad r2) p2 (qad r3) p3) 28):=hz;have aA:=az.trans (on.below.mono' qo);have ae:Hid (BH (w.heap.size+1+1) w3 w4):=on;clear hz on)
     exact dF (v:=.tuple #[.agg (qbV B (qad r1) p1 (qad r2) p2 (qad r3) p3),In i6 2]) (Bm rfl _ _ (w.heap.size+1+1) _ _ _ _ rfl Z4.ab Tryz.underlying28 rfl BR _ rfl) rfl ⟨some ⟨r1,0,none⟩,some ⟨r2,0,none⟩,some ⟨r3,0,none⟩,p1,p2,p3,by rw[HA.ab],by rw[HA.ab];exact⟨(F.ab.ah.aV (ae.ab.aL r1 (by have:=F.ab.n1;omega))).ck,(F.ab.ar.aV (ae.ab.aL r2 (by have:=F.ab.n2;omega))).bZ,(F.ab.aw.aV (ae.ab.aL r3 (by have:=F.ab.n3;omega))).cA⟩,aA⟩
    ·have HA:Hid (Cv B E=((AS B E).1,0)):=by unfold Hid;rw[a5.ab,dv H0.ab,dv cc]
     have e0:=AJ a4.ab 0;have e1:=AJ a4.ab 1;have e2:=AJ a4.ab 2;have e3:=AJ a4.ab 3
     go_wp2_with fail
     refine(Cj (AS B E).1 (qad Y) (qad Z) (qad b3) d1 d2 d3 w2 (Hk HV.ab) ct.ab).mono ?_;rintro e w3 ⟨r1,p1,r2,p2,r3,p3,rfl,ag,z⟩;have az:=ak.trans (z.mono' (by have:=ak.size;omega));have X3:Hid _:=AK z X2.ab;have E3:Hid _:=AK z E2.ab;have Z3:Hid _:=AK z Z2.ab;have ba:w.heap.size+1+1<w3.heap.size:=(AB Z3.ab).1;have F:Hid _:=ag;clear ag z e0 e1 e2 e3
     go_wp2_with (refine qAM Z3.ab BR ?_;intro w4 hz on;have Z4:Hid (qBl w4 (w.heap.size+1+1) #[In i6 (AS B E).1.av,.slice (qad r1) (AS B E).1.ah.length p1,.slice (qad r2) (AS B E).1.ar.length p2,.slice (qad r3) (AS B E).1.aw.length p3] 28):=hz;have aA:=az.trans (on.below.mono' qo);have ae:Hid (BH (w.heap.size+1+1) w3 w4):=on;clear hz on)
     exact dF (v:=.tuple #[.agg #[In i6 (AS B E).1.av,.slice (qad r1) (AS B E).1.ah.length p1,.slice (qad r2) (AS B E).1.ar.length p2,.slice (qad r3) (AS B E).1.aw.length p3],In i6 0]) (Bm rfl _ _ (w.heap.size+1+1) _ _ _ _ rfl Z4.ab Tryz.underlying28 rfl BR _ rfl) rfl ⟨some ⟨r1,0,none⟩,some ⟨r2,0,none⟩,some ⟨r3,0,none⟩,p1,p2,p3,by rw[HA.ab],by rw[HA.ab];exact⟨(F.ab.ah.aV (ae.ab.aL r1 (by have:=F.ab.n1;omega))).ck,(F.ab.ar.aV (ae.ab.aL r2 (by have:=F.ab.n2;omega))).bZ,(F.ab.aw.aV (ae.ab.aL r3 (by have:=F.ab.n3;omega))).cA⟩,aA⟩
   ·have HA:Hid (Cv B E=(B,(AS B E).2)):=by unfold Hid;rw[a5.ab,dk H]
    obtain⟨cd,b9⟩:∃cd,(AS B E).2=cd:=⟨_,rfl⟩;rw[b9]at H HA ⊢;clear b9 HM a5;have dy:(cd==0)=false:=by simpa using H
    have d9:(cd !=0)=true:=by simpa using H
    clear H;have e0:=AJ XW.ab 0;have e1:=AJ XW.ab 1;have e2:=AJ XW.ab 2;have e3:=AJ XW.ab 3
    go_wp2_with fail
    refine(Cj B a1 a2 a3 c1 c2 c3 W hS (hB.below aK)).mono ?_;rintro e w3 ⟨r1,p1,r2,p2,r3,p3,rfl,ag,z⟩;have az:=aK.trans (z.mono' (by have:=aK.size;omega));have X3:Hid _:=AK z XW.ab;have E3:Hid _:=AK z EW.ab;have Z3:Hid _:=AK z ZW.ab;have ba:w.heap.size+1+1<w3.heap.size:=(AB Z3.ab).1;have F:Hid _:=ag;clear ag z e0 e1 e2 e3
    go_wp2_with (refine qAM Z3.ab BR ?_;intro w4 hz on;have Z4:Hid (qBl w4 (w.heap.size+1+1) (qbV B (qad r1) p1 (qad r2) p2 (qad r3) p3) 28):=hz;have aA:=az.trans (on.below.mono' qo);have ae:Hid (BH (w.heap.size+1+1) w3 w4):=on;clear hz on)
    exact dF (v:=.tuple #[.agg (qbV B (qad r1) p1 (qad r2) p2 (qad r3) p3),In i6 cd]) (Bm rfl _ _ (w.heap.size+1+1) _ _ _ _ rfl Z4.ab Tryz.underlying28 rfl BR _ rfl) rfl ⟨some ⟨r1,0,none⟩,some ⟨r2,0,none⟩,some ⟨r3,0,none⟩,p1,p2,p3,by rw[HA.ab],by rw[HA.ab];exact⟨(F.ab.ah.aV (ae.ab.aL r1 (by have:=F.ab.n1;omega))).ck,(F.ab.ar.aV (ae.ab.aL r2 (by have:=F.ab.n2;omega))).bZ,(F.ab.aw.aV (ae.ab.aL r3 (by have:=F.ab.n3;omega))).cA⟩,aA⟩
end Go.Proofs.YtbceafpodamnfaaGreatDoor
