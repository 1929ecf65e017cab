import Derived.Test.YtbceafpodamnfaaGreatDoorG40
set_option linter.all false
set_option maxHeartbeats 16000000
set_option maxRecDepth 100000
namespace Go.Proofs.YtbceafpodamnfaaGreatDoor
section
open Go.RowKit Go.Sort
open Go.Value renaming int->In,slice->Sl,string->Sg,bool->Bo,pointer->Po
open Go.IntKind renaming i64->i6
def Ev.cells(E:Ev):Array Value:=(qeV E)
def Pk(m:Int)(v:Value)(_:World):Prop:=∃k:Int,v=In i6 k/\GL m k
theorem pk_l{r c:Nat}{m:Int}:JV r c (Pk m):=λ_ _ _ h _ _=>h
def BV(u:Value)(W:World):Prop:=∃(x1 x2 x3:qO) (y1 y2 y3:Nat) (C:Bk),u=.agg (qbV C x1 y1 x2 y2 x3 y3)/\BkAt W x1 x2 x3 C/\C.aP/\C.aU
theorem BV.bJ{u:Value}{i a b r v f:Nat}{w W W':World}{Q:Int}(h:BV u W)(z:SA a b (Ov r Q) (QF r v f w) i W W'):BV u W':=by
 obtain⟨M,O,Y,Z,y2,y3,C,e,h,J⟩:=h;refine⟨M,O,Y,Z,y2,y3,C,e,?_,J⟩;rcases Gf z with⟨_,⟨q,H⟩,F,_⟩|z|z
 ·exact h.aX H F
 ·exact h.ai z.1.1 z.2.1
 ·exact h.below z
def SvV(u:Value)(_:World):Prop:=∃s:Svc,u=.agg (qsV s)/\s.name.size<=10
def MvV(u:Value)(_:World):Prop:=∃m:Mv,u=.agg m.cells/\0<=m.bv/\m.bv<=1000/\m.ev.aP
def ReIs(r:Nat)(q:Int)(w:World)(e:Ending)(w':World):Prop:=∃(aq:qO) (M:List Bx) (cq g1 k1 g2 k2 g3 k3:Nat) (B:Bk),e=.returned (.agg (qwV aq M.length cq B (qad g1) k1 (qad g2) k2 (qad g3) k3))/\WA w' aq M (qad g1) (qad g2) (qad g3) B/\BkRow w' w.heap.size g1 g2 g3 k1 k2 k3 B/\Past r w.heap.size w w'/\Rd r w' q
theorem Qp(s:qB)(h:s.size<=10):Ev.aP ⟨5,sv0,s,0,false⟩:=⟨AI _,by show s.size<=maxLen;unfold maxLen;omega⟩
theorem wish_ok(s:Svc)(h:s.name.size<=10):Ev.aP ⟨2,s,⟨#[]⟩,0,false⟩:=⟨by show s.name.size<=maxLen;unfold maxLen;omega,AI _⟩
theorem Qn(r:Nat)(q:Int)(w:World)(hR:Rd r w q)(hq:q<=100000000000):
  Calls Tryz.prog 57 #[.pointer (qad r)] w λe w'=>ReIs r (q+200000000) w e w':=by
 obtain⟨W0,b8,t0,t1,cb,a6⟩:∃W0,(w.alloc (.cells qzW 30)).alloc (.cells qzW 30)=W0/\qBl W0 (w.heap.size) qzW 30/\qBl W0 (w.heap.size+1) qzW 30/\W0.heap.size=w.heap.size+1+1/\Below w.heap.size w W0:=by
  obtain⟨h1,h2,h3⟩:=CL w (.cells qzW 30) (.cells qzW 30);exact⟨_,rfl,h1,h2,h3,(AN w _).alloc (by show w.heap.size<=(w.heap.push _).size;simp) _⟩
 have J0:Hid (ReU r (w.heap.size+1) w.heap.size w q W0):=⟨⟨none,[],0,none,none,none,0,0,0,noBk,t1,Sk _⟩,t0,hR.below a6,.of a6,hR.lt,qo,AG⟩;obtain⟨f,hf⟩:∃f,w.heap.size=f:=⟨_,rfl⟩;obtain⟨v,hv⟩:∃v,f+1=v:=⟨_,rfl⟩;have VZ:Hid _:=t1;rw[hf,hv]at J0;rw[hf,hv]at VZ;clear t0 t1 hR cb a6;go_enter Tryz.func57,Tryz.ntmps57
 go_upto_region 2 with((with_reducible show wpList _ _ _ _ _ _);refine qAM VZ.ab AO ?_;intro wi hz on;have JI:Hid (ReU r v f w q wi):=J0.ab.put (ap:=none) (l:=[]) (cp:=0) (a1:=none) (a2:=none) (a3:=none) (c1:=0) (c2:=0) (c3:=0) (B:=noBk) on hz.ab (Sk _);clear hz on;simp only[Act.put])
 clear hf hv b8 J0 VZ;have J0:Hid _:=JI.ab;obtain⟨ap,l,cp,a1,a2,a3,c1,c2,c3,B,J,O⟩:=J0.ab.wx;have VX:Hid _:=J;have HA:Hid (WA _ ap l a1 a2 a3 B):=O;clear J O
 go_upto_region 3 with(first|((with_reducible show wpList _ _ _ _ _ _);refine dB rfl 30 (.tmp 3) rfl v rfl 30 (qwV ap l.length cp B a1 c1 a2 c2 a3 c3) (0,0) _ VX.ab Tryz.underlying30 rfl AO ?_)|(go_at_call 49;refine(Kq l ap cp B a1 a2 a3 c1 c2 c3 ⟨0,0,⟨5,sv0,⟨#[97]⟩,0,false⟩⟩ _ (ff 0) (by show(0:Int)<=1000;decide) (Qp _ qd) HA.ab).mono ?_;rintro e w4 ⟨vw,vq,rfl,hv⟩;obtain⟨aq,M,cq,z1,z2,z3,d1,d2,d3,D,rfl,z,aa⟩:=wis_iff.1 hv;have az:Hid (WA w4 aq M z1 z2 z3 D):=z;have J4:Hid _:=J0.ab.bi aa;have aA:Hid _:=AK aa VX.ab (AB VX.ab).1;clear hv z aa)|((with_reducible show wpList _ _ _ _ _ _);refine qAM aA.ab AO ?_;intro w1 hz on;have J1:Hid (ReU r v f w _ w1):=J4.ab.put on hz.ab az.ab;clear hz on J4 az aA;simp only[Act.put]))
 clear VX HA J0
 go_upto_if 16 with(go_at_call 38;refine(Ek r 3 _ _ qo qo J1.ab.rd qo).mono ?_;rintro e w2 ⟨k2,rfl,hk,hs⟩;have J2:Hid _:=J1.ab.step hs;have cT:=hk.1;have c5:=hk.2.1 qo;clear hk hs)
 go_cut [] from 6 (λwx=>ReU r v f w (q+2) wx)
 case first=>
  by_cases bw:0<k2
  ·have bz:decide (0<k2)=true:=by simp[bw]
   obtain⟨ap,l,cp,a1,a2,a3,c1,c2,c3,B,J,O⟩:=J2.ab.wx;have VX:Hid _:=J;have HA:Hid (WA _ ap l a1 a2 a3 B):=O;clear J O
   go_wp2_with (first|((with_reducible show wpList _ _ _ _ _ _);refine dB rfl 30 (.tmp 3) rfl v rfl 30 (qwV ap l.length cp B a1 c1 a2 c2 a3 c3) (0,0) _ VX.ab Tryz.underlying30 rfl AO ?_)|(go_at_call 49;refine(Kq l ap cp B a1 a2 a3 c1 c2 c3 ⟨0,0,⟨5,sv0,⟨#[98]⟩,0,false⟩⟩ _ (ff 0) (by show(0:Int)<=1000;decide) (Qp _ qd) HA.ab).mono ?_;rintro e w4 ⟨vw,vq,rfl,hv⟩;obtain⟨aq,M,cq,z1,z2,z3,d1,d2,d3,D,rfl,z,aa⟩:=wis_iff.1 hv;have az:Hid (WA w4 aq M z1 z2 z3 D):=z;have J4:Hid _:=J2.ab.bi aa;have aA:Hid _:=AK aa VX.ab (AB VX.ab).1;clear hv z aa)|((with_reducible show wpList _ _ _ _ _ _);refine qAM aA.ab AO ?_;intro w3 hz on;have J3:Hid (ReU r v f w _ w3):=J4.ab.put on hz.ab az.ab;clear hz on J4 az aA;simp only[Act.put]))
   go_meet;exact J3.ab.mono qo
  ·have bz:decide (0<k2)=false:=by simp[bw]
   go_wp2;go_meet;exact J2.ab.mono qo
 clear J1 J2;have J3:Hid (ReU r v f w (q+2) wc):=hcut;clear hcut
 go_upto_region 6 with(go_at_call 38;refine(Ek r 2 _ _ qo qo J3.ab.rd qo).mono ?_;rintro e w4 ⟨k4,rfl,hk,hs⟩;have J4:Hid _:=J3.ab.step hs;have c6:=hk.1;have c7:=hk.2.1 qo;clear hk hs)
 obtain⟨n4,bB⟩:∃n4:Nat,1+k4=n4:=⟨(1+k4).toNat,qo⟩;have bC:n4<=2:=qo
 rw[bB];clear J3 bB
 go_loopw [4] (λiv wr=>∃m:Nat,iv=In i6 m/\m<=2/\ReU r v f w (q+10+(2 - (m:Int))*100) wr) (λi _=>(intOf i).toNat)
 case atStart=>exact⟨n4,rfl,bC,J4.ab.mono qo⟩
 case round=>
  clear J4;obtain⟨m,rfl,hm,hJ⟩:=hrel;have JR:Hid (ReU r v f w (q+10+(2 - (m:Int))*100) wr):=hJ;clear hJ
  by_cases al:m=0
  rotate_left
  ·obtain⟨m',rfl⟩:∃m',m=m'+1:=⟨m - 1,qo⟩
   have a8:decide (0<((m'+1:Nat):Int))=true:=dX qo
   go_upto_region 8 with fail
   refine E8 10 rfl 2 (λW=>ReU r v f w (q+10+(2 - ((m'+1:Nat):Int))*100+100) W) (λW=>Rd r W (q+10+(2 - ((m'+1:Nat):Int))*100)) (SA 2 9 (Ov r (q+10+(2 - ((m'+1:Nat):Int))*100+100)) (QF r v f w)) qk qk ((JR.ab.bi (Kp _)).mono qo) (JR.ab.rd.below (Kp _)) (λi W W' h Z=>re_inv h Z) (λi W W' hi h Z=>T7 hi h Z) ?_;refine Ab (WV) (λi hi _ W W' h Z=>h.bJ Z) ?_ ?_
   ·intro V W K A Y hZ H z F
    simp only[pA]at z;subst z;obtain⟨ap,l,cp,a1,a2,a3,c1,c2,c3,B,J,O⟩:=Y.wx;refine dB rfl 30 (.tmp 3) rfl v rfl 30 (qwV ap l.length cp B a1 c1 a2 c2 a3 c3) (0,0) _ J Tryz.underlying30 rfl AO ?_;go_wp2;exact F.ab _ _ brf ⟨ap,l,cp,a1,a2,a3,c1,c2,c3,B,rfl,O⟩
   apply AT
   ·intro V W K A Y hZ H z F
    simp only[pA]at z;subst z;go_wp2;exact F.ab _ brf
   refine Ab (SvV) (λ_ _ _ _ _ h _=>h) ?_ ?_
   ·intro V W K A Y hZ H z F
    simp only[pA,qv (H 1)]at z;subst z;have h0:=hZ rfl
    go_wp2_with fail
    refine(Ph r _ W h0 qo).mono ?_;rintro e w2 ⟨s,rfl,hs,hp,Z⟩;go_wp2;exact F.ab _ _ ⟨⟨_,h0⟩,hp,Z⟩ ⟨s,rfl,hs⟩
   refine Ab (λu _=>∃s:Svc,u=.agg (Ev.cells ⟨2,s,⟨#[]⟩,0,false⟩)/\s.name.size<=10) (λ_ _ _ _ _ h _=>h) ?_ ?_
   ·intro V W K A Y hZ H z F
    have d2:=H 2;simp only[pA]at z;generalize V 2=x2 at d2 z;subst z;obtain⟨s,rfl,hs⟩:=d2;go_wp2;exact F.ab _ _ brf ⟨s,rfl,hs⟩
   refine Ab (MvV) (λ_ _ _ _ _ h _=>h) ?_ ?_
   ·intro V W K A Y hZ H z F
    have d3:=H 3;simp only[pA]at z;generalize V 3=x3 at d3 z;subst z;obtain⟨s,he,hs⟩:=d3;simp only[Ev.cells]at he;subst he;go_wp2;exact F.ab _ _ brf ⟨⟨0,0,⟨2,s,⟨#[]⟩,0,false⟩⟩,rfl,ff 0,by show(0:Int)<=1000;decide,wish_ok s hs⟩
   refine Ab (λu W=>∃vw vq,u=.tuple #[vw,vq]/\WV vw W) (λi hi _ W W' ⟨vw,vq,e,h⟩ Z=>⟨vw,vq,e,h.bJ Z⟩) ?_ ?_
   ·intro V W K A Y hZ H z F
    have d0:=H 0;have d4:=H 4;simp only[pA]at z;generalize V 0=x0 at d0 z;generalize V 4=x4 at d4 z;subst z;obtain⟨ap,l,cp,a1,a2,a3,c1,c2,c3,B,rfl,O⟩:=d0;obtain⟨m,hm,al,aH,aF⟩:=d4;simp only[Mv.cells]at hm;subst hm
    go_wp2_with fail
    refine(Kq l ap cp B a1 a2 a3 c1 c2 c3 m W al aH aF O).mono ?_;rintro e w4 ⟨vw,vq,rfl,hv⟩;obtain⟨aq,M,cq,z1,z2,z3,d1,d2,d3,D,rfl,z,aa⟩:=wis_iff.1 hv;go_wp2;exact F.ab _ _ aa ⟨_,_,rfl,aq,M,cq,z1,z2,z3,d1,d2,d3,D,rfl,z⟩
   refine Ab (λu W=>∃vw vq,u=.tuple #[vw,vq]/\WV vw W) (λi hi _ W W' ⟨vw,vq,e,h⟩ Z=>⟨vw,vq,e,h.bJ Z⟩) ?_ ?_
   ·intro V W K A Y hZ H z F
    have d5:=H 5;simp only[pA]at z;generalize V 5=x5 at d5 z;subst z;obtain⟨vw,vq,rfl,h⟩:=d5;go_wp2;exact F.ab _ _ brf ⟨vw,vq,rfl,h⟩
   refine Ab (WV) (λi hi _ W W' h Z=>h.bJ Z) ?_ ?_
   ·intro V W K A Y hZ H z F
    have d6:=H 6;simp only[pA]at z;generalize V 6=x6 at d6 z;subst z;obtain⟨vw,vq,rfl,h⟩:=d6;go_wp2;exact F.ab _ _ brf h
   refine Ab (λ_ _=>True) (λ_ _ _ _ _ _ _=>trivial) ?_ ?_
   ·intro V W K A Y hZ H z F
    have d6:=H 6;simp only[pA]at z;generalize V 6=x6 at d6 z;subst z;obtain⟨vw,vq,rfl,h⟩:=d6;go_wp2;exact F.ab _ _ brf trivial
   refine Ab (λ_ _=>True) (λ_ _ _ _ _ _ _=>trivial) ?_ ?_
   ·intro V W K A Y hZ H z F
    have d7:=H 7;simp only[pA]at z;generalize V 7=x7 at d7 z;subst z;obtain⟨aq,M,cq,z1,z2,z3,d1,d2,d3,D,rfl,z⟩:=d7;obtain⟨ap,l,cp,a1,a2,a3,c1,c2,c3,B,J,O⟩:=Y.wx;have aN:Hid _:=Y;have aO:Hid _:=J;have aK:Hid (WA W aq M z1 z2 z3 D):=z;clear J O z Y;refine qAM aO.ab AO ?_;intro w7 hz on;have HR:Hid (QF r v f w W w7):=T9 aN.ab on hz.ab aK.ab;clear hz on;go_wp2;exact F.ab undef _ HR.ab trivial
   intro V W A Y hS z;simp only[pA,qv (hS 1)]at z;clear hS;subst z;have JN:Hid _:=Y;clear Y;go_wp2
   go_roundw
   case rel=>exact⟨m',qn,qo,JN.ab.mono qo⟩
   case measure=>simp[intOf]
  subst al;have a8:decide (0<((0:Nat):Int))=false:=qd
  go_upto_region 10 with(go_at_call 38;refine(Ek r 50 _ _ qo qo JR.ab.rd qo).mono ?_;rintro e w5 ⟨k5,rfl,hk,hs⟩;have J5:Hid _:=JR.ab.step hs;have c8:=hk.1;have c9:=hk.2.1 qo;clear hk hs)
  obtain⟨n5,b9⟩:∃n5:Nat,k5=n5:=⟨k5.toNat,qo⟩;subst b9;clear JR
  go_loopw [5] (λiv wr=>∃m:Nat,iv=In i6 m/\m<=49/\ReU r v f w (q+1000+(49 - (m:Int))*3000000) wr) (λi _=>(intOf i).toNat)
  case atStart=>exact⟨n5,rfl,qo,J5.ab.mono qo⟩
  case round=>
   clear J5;obtain⟨m,rfl,hm,hJ⟩:=hrel;have J6:Hid (ReU r v f w (q+1000+(49 - (m:Int))*3000000) wr):=hJ;clear hJ
   by_cases al:m=0
   ·subst al
    have a8:decide (0<((0:Nat):Int))=false:=qd
    obtain⟨ap,l,cp,a1,a2,a3,c1,c2,c3,B,J,O⟩:=J6.ab.wx;have VX:Hid _:=J;have HA:Hid (WA _ ap l a1 a2 a3 B):=O;clear J O
    go_wp2_with (first
     |((with_reducible show wpList _ _ _ _ _ _);refine dB rfl 30 (.tmp 3) rfl v rfl 30 (qwV ap l.length cp B a1 c1 a2 c2 a3 c3) (0,0) _ VX.ab Tryz.underlying30 rfl AO ?_)
     |(go_at_call 50;refine(Rn l ap cp B a1 a2 a3 c1 c2 c3 _ HA.ab).mono ?_;rintro e w9 ⟨aq,M,cq,g1,k1,g2,k2,g3,k3,rfl,z,bv,bq⟩;have aM:Hid (WA w9 aq M _ _ _ B):=z;have b0:Hid _:=bv;have J9:Hid _:=J6.ab.bi bq;clear z bq bv)
     |((with_reducible show wpList _ _ _ _ _ _);refine qAM J9.ab.vf AO ?_;intro wz hz on;simp only[Act.put]))
    refine dF (fj rfl _ wz f 30 (qwV aq M.length cq B (qad g1) k1 (qad g2) k2 (qad g3) k3) (0,0) _ rfl hz.ab Tryz.underlying30 rfl AO) rfl ?_;have h5:=J9.ab.n0;have h6:=J9.ab.rf;have h7:=J6.ab.aX.size;exact⟨aq,M,cq,g1,k1,g2,k2,g3,k3,B,rfl,aM.ab.ai (Fm J9.ab.vf) on,(b0.ab.n h7).bA (IL J9.ab.vf on),J9.ab.aX.trans (.of (on.below.mono h5)),(J9.ab.rd.ai J9.ab.vf on qo w_no).mono qo⟩
   obtain⟨m',rfl⟩:∃m',m=m'+1:=⟨m - 1,qo⟩;have a8:decide (0<((m'+1:Nat):Int))=true:=dX qo
   go_upto_region 12 with fail
   refine E8 10 rfl 4 (λW=>ReU r v f w (q+1000+(49 - ((m'+1:Nat):Int))*3000000+2000010) W) (λW=>Rd r W (q+1000+(49 - ((m'+1:Nat):Int))*3000000)) (SA 4 9 (Ov r (q+1000+(49 - ((m'+1:Nat):Int))*3000000+2000010)) (QF r v f w)) qk qk ((J6.ab.bi (Kp _)).mono qo) (J6.ab.rd.below (Kp _)) (λi W W' h Z=>re_inv h Z) (λi W W' hi h Z=>T7 hi h Z) ?_;refine Ab (WV) (λi hi _ W W' h Z=>h.bJ Z) ?_ ?_
   ·intro V W K A Y hZ H z F
    simp only[pA]at z;subst z;obtain⟨ap,l,cp,a1,a2,a3,c1,c2,c3,B,J,O⟩:=Y.wx;refine dB rfl 30 (.tmp 3) rfl v rfl 30 (qwV ap l.length cp B a1 c1 a2 c2 a3 c3) (0,0) _ J Tryz.underlying30 rfl AO ?_;go_wp2;exact F.ab _ _ brf ⟨ap,l,cp,a1,a2,a3,c1,c2,c3,B,rfl,O⟩
   apply AT
   ·intro V W K A Y hZ H z F
    simp only[pA]at z;subst z;go_wp2;exact F.ab _ brf
   apply AT
   ·intro V W K A Y hZ H z F
    simp only[pA]at z;subst z;go_wp2;exact F.ab _ brf
   refine Ab (BV) (λi hi _ W W' h Z=>h.bJ Z) ?_ ?_
   ·intro V W K A Y hZ H z F
    simp only[pA,qv (H 2)]at z;subst z;obtain⟨ap,l,cp,a1,a2,a3,c1,c2,c3,B,J,O⟩:=Y.wx;have e1:W.cell? ⟨v,1,none⟩=some (In i6 B.av):=AJ J 1;have e2:W.cell? ⟨v,2,none⟩=some (Sl a1 B.ah.length c1):=AJ J 2;have e3:W.cell? ⟨v,3,none⟩=some (Sl a2 B.ar.length c2):=AJ J 3;have e4:W.cell? ⟨v,4,none⟩=some (Sl a3 B.aw.length c3):=AJ J 4;clear J;go_wp2;exact F.ab _ _ brf ⟨a1,a2,a3,c1,c2,c3,B,rfl,O.bT.bE,O.ok.bz,O.ok.bs⟩
   refine Ab (MvV) (λ_ _ _ _ _ h _=>h) ?_ ?_
   ·intro V W K A Y hZ H z F
    have d3:=H 3;simp only[pA,qv (H 1)]at z;generalize V 3=x3 at d3 z;subst z;have h0:=hZ rfl;obtain⟨x1,x2,x3,y1,y2,y3,C,rfl,hC,b7,b6⟩:=d3
    go_wp2_with fail
    refine(move_any r _ C x1 x2 x3 y1 y2 y3 W b6.tn b7 hC h0 qo).mono ?_;rintro e w2 ⟨m,rfl,⟨_,_,al,aH,aF⟩,hp,Z⟩;go_wp2;exact F.ab _ _ ⟨⟨_,h0⟩,hp,Z⟩ ⟨m,rfl,al,qo,aF⟩
   refine Ab (λu W=>∃vw vq,u=.tuple #[vw,vq]/\WV vw W) (λi hi _ W W' ⟨vw,vq,e,h⟩ Z=>⟨vw,vq,e,h.bJ Z⟩) ?_ ?_
   ·intro V W K A Y hZ H z F
    have d0:=H 0;have d4:=H 4;simp only[pA]at z;generalize V 0=x0 at d0 z;generalize V 4=x4 at d4 z;subst z;obtain⟨ap,l,cp,a1,a2,a3,c1,c2,c3,B,rfl,O⟩:=d0;obtain⟨m,hm,al,aH,aF⟩:=d4;simp only[Mv.cells]at hm;subst hm
    go_wp2_with fail
    refine(Kq l ap cp B a1 a2 a3 c1 c2 c3 m W al aH aF O).mono ?_;rintro e w4 ⟨vw,vq,rfl,hv⟩;obtain⟨aq,M,cq,z1,z2,z3,d1,d2,d3,D,rfl,z,aa⟩:=wis_iff.1 hv;go_wp2;exact F.ab _ _ aa ⟨_,_,rfl,aq,M,cq,z1,z2,z3,d1,d2,d3,D,rfl,z⟩
   refine Ab (λu W=>∃vw vq,u=.tuple #[vw,vq]/\WV vw W) (λi hi _ W W' ⟨vw,vq,e,h⟩ Z=>⟨vw,vq,e,h.bJ Z⟩) ?_ ?_
   ·intro V W K A Y hZ H z F
    have d5:=H 5;simp only[pA]at z;generalize V 5=x5 at d5 z;subst z;obtain⟨vw,vq,rfl,h⟩:=d5;go_wp2;exact F.ab _ _ brf ⟨vw,vq,rfl,h⟩
   refine Ab (WV) (λi hi _ W W' h Z=>h.bJ Z) ?_ ?_
   ·intro V W K A Y hZ H z F
    have d6:=H 6;simp only[pA]at z;generalize V 6=x6 at d6 z;subst z;obtain⟨vw,vq,rfl,h⟩:=d6;go_wp2;exact F.ab _ _ brf h
   refine Ab (λ_ _=>True) (λ_ _ _ _ _ _ _=>trivial) ?_ ?_
   ·intro V W K A Y hZ H z F
    have d6:=H 6;simp only[pA]at z;generalize V 6=x6 at d6 z;subst z;obtain⟨vw,vq,rfl,h⟩:=d6;go_wp2;exact F.ab _ _ brf trivial
   refine Ab (λ_ _=>True) (λ_ _ _ _ _ _ _=>trivial) ?_ ?_
   ·intro V W K A Y hZ H z F
    have d7:=H 7;simp only[pA]at z;generalize V 7=x7 at d7 z;subst z;obtain⟨aq,M,cq,z1,z2,z3,d1,d2,d3,D,rfl,z⟩:=d7;obtain⟨ap,l,cp,a1,a2,a3,c1,c2,c3,B,J,O⟩:=Y.wx;have aN:Hid _:=Y;have aO:Hid _:=J;have aK:Hid (WA W aq M z1 z2 z3 D):=z;clear J O z Y;refine qAM aO.ab AO ?_;intro w7 hz on;have HR:Hid (QF r v f w W w7):=T9 aN.ab on hz.ab aK.ab;clear hz on;go_wp2;exact F.ab undef _ HR.ab trivial
   intro V W A Y hS z;simp only[pA,qv (hS 1),qv (hS 2)]at z;clear hS;subst z;have J7:Hid _:=Y;clear Y
   go_upto_if 57 with(go_at_call 38;refine(Ek r 8 _ _ qo qo J7.ab.rd qo).mono ?_;rintro e w8 ⟨k8,rfl,hk,hs⟩;have J8:Hid _:=J7.ab.step hs;have da:=hk.1;have db:=hk.2.1 qo;clear hk hs)
   by_cases bx:k8=0
   rotate_left
   ·have bz:(k8==0)=false:=by simp[bx]
    go_wp2
    go_roundw
    case rel=>exact⟨m',qn,qo,J8.ab.mono qo⟩
    case measure=>simp[intOf]
   subst bx;obtain⟨ap,l,cp,a1,a2,a3,c1,c2,c3,B,J,O⟩:=J8.ab.wx;have VX:Hid _:=J;have HA:Hid (WA _ ap l a1 a2 a3 B):=O;clear J O;have JR:Hid _:=J8.ab;have bE:=(AB VX.ab).1;have bD:v≠r:=by have:=J8.ab.rf;have:=J8.ab.fv;omega
   have bo:=J8.ab.rd
   go_upto_region 14 with fail
   refine LY 11 r 1 _ qk qk bo ?_;apply T8
   ·intro V W K A hW hR H z F
    simp only[pA]at z;subst z;refine dB rfl 30 (.tmp 3) rfl v rfl 30 (qwV ap l.length cp B a1 c1 a2 c2 a3 c3) (0,0) _ (GR hW VX.ab bE bD) Tryz.underlying30 rfl AO ?_;go_wp2;exact F.ab _ (RStep.re _)
   apply T8
   ·intro V W K A hW hR H z F
    simp only[pA]at z;subst z;go_wp2;exact F.ab _ (RStep.re _)
   refine MU (Pk 7) pk_l ?_ ?_
   ·intro V W K A hW hR H z F
    simp only[pA,qv (H 1)]at z;subst z
    go_wp2_with fail
    refine(Ek r 7 _ W qo qo hR qo).mono ?_;rintro e w2 ⟨k,rfl,hk,hs⟩;go_wp2;exact F.ab _ _ hs ⟨k,rfl,hk⟩
   apply T8
   ·intro V W K A hW hR H z F
    simp only[pA]at z;subst z;go_wp2;exact F.ab _ (RStep.re _)
   refine MU (Pk 6) pk_l ?_ ?_
   ·intro V W K A hW hR H z F
    simp only[pA,qv (H 3)]at z;subst z
    go_wp2_with fail
    refine(Ek r 6 _ W qo qo hR qo).mono ?_;rintro e w2 ⟨k,rfl,hk,hs⟩;go_wp2;exact F.ab _ _ hs ⟨k,rfl,hk⟩
   refine MU (λu _=>∃k:Int,u=In i6 k) (λ_ _ _ h _ _=>h) ?_ ?_
   ·intro V W K A hW hR H z F
    have d4:=H 4;simp only[pA]at z;generalize V 4=x4 at d4 z;subst z;obtain⟨k,rfl,hk⟩:=d4;go_wp2;exact F.ab _ _ (RStep.re _) ⟨_,rfl⟩
   apply T8
   ·intro V W K A hW hR H z F
    simp only[pA]at z;subst z;go_wp2;exact F.ab _ (RStep.re _)
   refine MU (Pk 6) pk_l ?_ ?_
   ·intro V W K A hW hR H z F
    simp only[pA,qv (H 6)]at z;subst z
    go_wp2_with fail
    refine(Ek r 6 _ W qo qo hR qo).mono ?_;rintro e w2 ⟨k,rfl,hk,hs⟩;go_wp2;exact F.ab _ _ hs ⟨k,rfl,hk⟩
   refine MU (λu _=>∃k:Int,u=In i6 k) (λ_ _ _ h _ _=>h) ?_ ?_
   ·intro V W K A hW hR H z F
    have d7:=H 7;simp only[pA]at z;generalize V 7=x7 at d7 z;subst z;obtain⟨k,rfl,hk⟩:=d7;go_wp2;exact F.ab _ _ (RStep.re _) ⟨_,rfl⟩
   refine MU (λu W=>∃g,u=.slice (qad g) 2 2/\g≠r/\IntRow W g 2 2) (λ_ W W' ⟨g,e,h1,h2⟩ hs _=>⟨g,e,h1,h2.aV (hs.1.block g h2.lt h1)⟩) ?_ ?_
   ·intro V W K A hW hR H z F
    have d5:=H 5;have d8:=H 8;simp only[pA]at z;generalize V 5=x5 at d5 z;generalize V 8=x8 at d8 z;subst z;obtain⟨k,rfl⟩:=d5;obtain⟨k',rfl⟩:=d8;have cR:=hR.lt;go_wp2;exact F.ab _ _ (.of (AN _ _)) ⟨W.heap.size,rfl,qo,int_row (cs:=#[In i6 k,In i6 k']) (dm W _) (λu hu=>by simp at hu;rcases hu with rfl|rfl<;>exact⟨_,rfl⟩)⟩
   refine MU (WV) (λ_ W W' h hs ⟨q,hq⟩=>h.aX hq hs.1) ?_ ?_
   ·intro V W K A hW hR H z F
    have d2:=H 2;have d9:=H 9;simp only[pA,qv (H 0)]at z;generalize V 2=x2 at d2 z;generalize V 9=x9 at d9 z;subst z;obtain⟨k,rfl,hk⟩:=d2;obtain⟨g,rfl,_,hi⟩:=d9;have k0:=hk.1;have k1:=hk.2.1 qo
    go_wp2_with fail
    refine(calm_any l ap cp B a1 a2 a3 c1 c2 c3 k g 2 2 W k0 qo qo hi (HA.ab.aX JR.ab.rd hW)).mono ?_;rintro e w4 ⟨u,rfl,hv⟩;obtain⟨aq,M,cq,z1,z2,z3,d1,d2,d3,D,rfl,z,aa⟩:=wis_iff.1 hv;go_wp2;exact F.ab _ _ (.of aa) ⟨aq,M,cq,z1,z2,z3,d1,d2,d3,D,rfl,z⟩
   intro V W A hW hR hS z;have d2:=hS 2;have d4:=hS 4;have d5:=hS 5;have d7:=hS 7;have d8:=hS 8;have d9:=hS 9;have bd:=hS 10;simp only[pA,qv (hS 0),qv (hS 1),qv (hS 3),qv (hS 6)]at z;clear hS;generalize V 2=x2 at d2 z;generalize V 4=x4 at d4 z;generalize V 5=x5 at d5 z;generalize V 7=x7 at d7 z;generalize V 8=x8 at d8 z;generalize V 9=x9 at d9 z;generalize V 10=dr at bd z;subst z;simp only[dA,dN];clear d2 d4 d5 d7 d8 d9;obtain⟨aq,M,cq,z1,z2,z3,d1,d2,d3,D,rfl,z⟩:=bd;have J9:Hid _:=J8.ab.go hW hR;have aM:Hid (WA W aq M z1 z2 z3 D):=z;have b4:Hid _:=GR hW VX.ab bE bD;clear z hW hR bo
   go_upto_region 11 with((with_reducible show wpList _ _ _ _ _ _);refine qAM b4.ab AO ?_;intro ce hz on;have JA:Hid (ReU r v f w _ ce):=J9.ab.put on hz.ab aM.ab;clear hz on;simp only[Act.put])
   go_wp2
   go_roundw
   case rel=>exact⟨m',qn,qo,JA.ab.mono qo⟩
   case measure=>simp[intOf]
end
section
open Go.RowKit Go.Sort
theorem MN(a b c d e:Value)(w:World):(Instr.field 30 (.agg #[a,b,c,d,e]) 1).run Tryz.prog w=.ok (.agg #[b,c,d,e]) w:=by
 kernel_rfl
theorem SL{W W':World}{x:Nat}{cs:Array Value}{fr:Nat × Nat}(hx:W.heap[x]?=some (.cells cs 28 fr))(M:BH x W W'):Tj W W':=λc F t H J _ z=>M.aL c λe=>by
 subst e;rw[hx]at z;injection z with z
 injection z with _ z
 exact J z.symm
theorem zb_no:∀(j:Nat) (x:Int),(qzV:Array Value)[j]?≠some (Value.int .u8 x):=by
 intro j x h;rcases j with _|_|_|_|j<;>first|cases h|simp at h
def DrIs(r:Nat)(q:Int)(w:World)(e:Ending)(w':World):Prop:=∃(g1 k1 g2 k2 g3 k3:Nat) (B:Bk),e=.returned (.agg (qbV B (qad g1) k1 (qad g2) k2 (qad g3) k3))/\BkRow w' w.heap.size g1 g2 g3 k1 k2 k3 B/\B.aP/\B.aU/\Past r w.heap.size w w'/\Rd r w' q
theorem draw_any(r:Nat)(q:Int)(w:World)(W:Rd r w q)(hq:q<=90000000000):
  Calls Tryz.prog 119 #[.pointer (qad r)] w λe w'=>DrIs r (q+200000000) w e w':=by
 have al:=W.lt;obtain⟨H,z⟩:∃H,w.alloc (.cells qzV 28)=H:=⟨_,rfl⟩;have F:Below w.heap.size w H:=by rw[<-z];exact AN _ _
 have O:Hid (qBl H (w.heap.size) qzV 28):=by unfold Hid;rw[<-z];exact dm w _
 have R0:Hid (Rd r H q):=W.below F;obtain⟨f,hf⟩:∃f,w.heap.size=f:=⟨_,rfl⟩;have ak:=MN;clear W;go_enter Tryz.func119,Tryz.ntmps119
 go_upto_region 1 with fail
 rw[hf]at O;clear z
 go_wp2_with (first
  |(go_at_call 57;refine(Qn r _ _ R0.ab qo).mono ?_;rintro e w1 ⟨aq,M,cq,g1,k1,g2,k2,g3,k3,B,rfl,hA,hk,Y,hr⟩;have HK:Hid _:=hk;have HR:Hid (Rd r w1 (q+200000000)):=hr;have HP:Hid _:=Y;have J:Hid _:=GR Y O.ab (AB O.ab).1 qo;have HO:Hid _:=hA.ok;clear hA hk hr Y)
  |((with_reducible show wpList _ _ _ _ _ _);refine qAM J.ab AY ?_;intro wz hz Z;simp only[Act.put]))
 refine dF (fj rfl _ wz f 28 (qbV B (qad g1) k1 (qad g2) k2 (qad g3) k3) (0,0) _ rfl hz.ab Tryz.underlying28 rfl AY) rfl ?_;exact⟨g1,k1,g2,k2,g3,k3,B,rfl,(HK.ab.n F.size).bA (SL J.ab Z),HO.ab.bz,HO.ab.bs,((Past.of F).next AG HP.ab).trans (.of (Z.below.mono qo)),HR.ab.ai J.ab Z qo zb_no⟩
end
section
open Go.RowKit
open Go.Value renaming int->In,slice->Sl,string->Sg,bool->Bo,pointer->Po
open Go.IntKind renaming i64->i6
theorem draw_ct(r:Nat):CH Tryz.prog (RDr r) 119 910000000000 Pm:=by
 intro w0 G w q id vs es k0 hz ah aj ae _ hQ hC;obtain⟨_,H,_,_⟩:=hC;have hq:=hQ.resolve_left qd;obtain⟨G0,F,aB,M,hα0,hM⟩:=NM (q':=q) (r:=true) (X:=G.RB) (Sc r) (λ_ h=>h) (λ_=>⟨rfl,rfl⟩) hz ae H (nt:=100) rfl;obtain⟨g,e1,e2,rfl,hR,hZ⟩:=(hM 0 rdB rfl).2.1.k4 rfl;have ha:(vs.map (r2 G.α)).toArray=#[.pointer (qad g)]:=by rw[<-F];simp[r2,r1,r0,e1,Addr.add]
 rw[ha];have ag:(q:Int)<=90000000000:=by unfold QM at hq;omega
 refine(draw_any g q w hR ag).mono ?_;rintro e w' ⟨g1,k1,g2,k2,g3,k3,B,rfl,z,W,O,J,hr⟩;have Y:∀l:List Svc,Af l=(l.map svL).flatten:=λl=>fL
 have Z:∀l:List Cp,Ay l=(l.map cpL).flatten:=λl=>fL
 have aa:∀l:List Bt,Cd l=(l.map btL).flatten:=λl=>fL
 rw[show(Value.agg (qbV B (qad g1) k1 (qad g2) k2 (qad g3) k3))=r2 (λx=>match x with|0=>some ⟨g1,0,none⟩|1=>some ⟨g2,0,none⟩|_=>some ⟨g3,0,none⟩) (.agg #[In i6 B.av,.iface 0 (Sl none B.ah.length k1),.iface 1 (Sl none B.ar.length k2),.iface 2 (Sl none B.aw.length k3)]) from by simp[r2,r1,r0]];refine ND (C:=Pm vs es id) (v:=.agg #[In i6 B.av,.iface 0 (Sl none B.ah.length k1),.iface 1 (Sl none B.ar.length k2),.iface 2 (Sl none B.aw.length k3)]) (es':=[(0,At 34 13 k1 svL B.ah),(1,At 76 7 k2 cpL B.ar),(2,At 90 2 k3 btL B.aw)]) (β:=λx=>match x with|0=>some ⟨g1,0,none⟩|1=>some ⟨g2,0,none⟩|_=>some ⟨g3,0,none⟩) (cost:=910000000000) (X:=λk=>k=g) (λk h=>by rw[h];rw[M]at e2;exact e2) (λg' aF hd=>?_) hz ah aj ⟨J.os,J.tape,J.output,J.size,λk hk hn=>J.block k hk hn⟩ rfl (λx b hx=>?_) (λx b y c hx hy af=>?_) (f:=(id+ ·)) (λx hx=>?_) λk hk=>?_
 ·obtain⟨rfl,_,ak⟩:=hd
  exact⟨rfl,hr.mono qo,ak⟩
 ·simp only[dJ,dW,fF,dR]at hx
  rcases hx with⟨rfl,rfl⟩|⟨rfl,rfl⟩|⟨rfl,rfl⟩
  ·exact⟨g1,_,rfl,z.n1,RowK.of O1 (Y _▸z.ah)⟩
  ·exact⟨g2,_,rfl,z.n2,RowK.of Pp (Z _▸z.ar)⟩
  ·exact⟨g3,_,rfl,z.n3,RowK.of Pv (aa _▸z.aw)⟩
 ·have au:=z.cZ
  have aw:=z.cU;have ax:=z.cY;simp only[dJ,dW,fF,dR]at hx hy;rcases hx with⟨rfl,_⟩|⟨rfl,_⟩|⟨rfl,_⟩<;>rcases hy with⟨rfl,_⟩|⟨rfl,_⟩|⟨rfl,_⟩<;>first|exact absurd rfl af|(intro e;cases e;contradiction)
 ·have hx:x∈[0,1,2]:=hx
  simp only[dJ,dW,fF]at hx;rcases hx with rfl|rfl|rfl<;>exact .inl ⟨_,rfl,rfl⟩
 ·obtain⟨_,_,_,hk⟩:=hk
  exact hk _ _ ⟨B,⟨⟨O.1,O.2.1,O.2.2.1⟩,W.2.2.2⟩,k1,k2,k3,rfl,rfl⟩
end
section
open Go.RowKit Go.Sort
open Go.Value renaming int->In,slice->Sl,string->Sg,bool->Bo,pointer->Po
open Go.IntKind renaming i64->i6
def JX(w:World)(ao:qO)(n:Nat):Prop:=0<n->∃b off,ao=some ⟨b,off,none⟩/\b<w.heap.size/\∀i,i<n->∃x:Int,w.cell? ⟨b,off+i,none⟩=some (.int .u8 x)/\0<=x/\x<256
theorem rd_new{w:World}{ao:qO}{n m cap:Nat}(h:JX w ao n)(O:m<=n)(H:m<=2000):Rd w.heap.size (w.alloc (.cells #[Sl ao m cap,In i6 0] 139)) 0:=by
 refine⟨ao,m,cap,0,dm w _,ff _,ff _,H,λW=>?_⟩;obtain⟨b,z,e,F,J⟩:=h qo;refine⟨b,z,e,by show b<(w.heap.push _).size;simp;omega,qo,λi M=>?_⟩;rw[(AN w _).cell (p:=⟨b,z+i,none⟩) F];exact J i qo
theorem open_any(ao:qO)(n cap:Nat)(w:World)(O:n<=1048576)(J:n<=cap)(hC:JX w ao n):
  Calls Tryz.prog 36 #[Sl ao n cap] w λe w'=>e=.returned (Po (some ⟨w.heap.size,0,none⟩))/\Rd w.heap.size w' 0/\Below w.heap.size w w':=by
 have z:Hid (JX w ao n):=hC;clear hC
 by_cases M:2000<n
 ·obtain⟨b,H,F,_⟩:=z.ab qo
  subst F;go_enter Tryz.func36,Tryz.ntmps36;go_wp2;go_ret;exact⟨rfl,rd_new z.ab qo AG,AN _ _⟩
 ·go_enter Tryz.func36,Tryz.ntmps36
  go_wp2;go_ret;exact⟨rfl,rd_new z.ab AG qo,AN _ _⟩
end
end Go.Proofs.YtbceafpodamnfaaGreatDoor
