import Derived.Test.YtbceafpodamnfaaGreatDoorG28
import Derived.Test.YtbceafpodamnfaaGreatDoorG29
import Derived.Test.YtbceafpodamnfaaGreatDoorG32
set_option linter.all false
set_option maxHeartbeats 8000000
set_option maxRecDepth 100000
namespace Go.Proofs.YtbceafpodamnfaaGreatDoor
section
open Go.RowKit Go.Sort Go.Maps
open Go.Value renaming int->In,slice->Sl,string->Sg,bool->Bo,pointer->Po
open Go.IntKind renaming i64->i6
theorem QB:(Tryz.prog.info? 3).map (λi=>(i.zero,i.size,i.bytes))=some (some (In i6 0),1,8):=qk
theorem Nd:(Tryz.prog.info? 48).map (·.size)=some 1:=qk
section
variable {P:Program}
theorem I6{ops:Array Oper}{rest:List Oper}{o:Oper}{a:Act}{w:World}{Q:Exit->Act->World->Prop}(aj:o.guard=none)(s x:Operand)(t:TypeId)
  (ho:o.op=.call {callee:=.builtin .append,args:=#[s,x],argTypes:=#[t,t]})
  (base:Nat) (e:TypeId) (z:Value) (size bytes:Nat) (ht:P.underlying t=some (.slice e)) (W:(P.info? e).map (λi=>(i.zero,i.size,i.bytes))=some (some z,size,bytes)) (aq:z.cells.size=size) (an:0<size)
  (v:Value) (n:Nat) (xs:qL) (hs:a.eval s=v) (J:w.ownsRow base e size v n xs)
  (ad:Addr) (c:Nat) (F:qL) (hx:a.eval x=.slice (some ad) 1 c) (hl:F.length=1*size) (Y:∀j u,F[j]?=some u->w.cell? (ad.add j)=some u) (h1:∀u∈F,u.oneCell'=true)
  (af:n+1<=maxLen) (M:(n+1)*bytes<=140737488355328) (O:base<=w.heap.size)
  (h:∀g cap w',base<=g->Hid (w'.ownsRow base e size (.slice (qad g) (n+1) cap) (n+1) (xs++F))->Below base w w'->KeepT e w w'->wpList P ops Q rest (a.put o.dst (.slice (qad g) (n+1) cap)) w'):wpList P ops Q (o::rest) a w:=by
 obtain⟨i,hi,hz,am,hb⟩:=gk W;refine gX w aj s x t ho base e i z size bytes ht hi hz am hb aq an v n xs hs J ad 1 c F hx hl Y h1 af M O λv' w' aa H _=>?_
 have ag:Below base w w':=⟨H.os,H.tape,H.output,H.size,λk hk=>H.block k qo (λZ=>by have:=(J.lt k Z.symm).1;omega)⟩
 have ak:KeepT e w w':=⟨H.size,λk hk al=>H.block k hk λZ=>by
  rcases J.2 with⟨rfl,_⟩|⟨g,cap,ae,rfl,_,hg,_⟩
  ·simp[Value.ownBlock]at Z
  ·simp[Value.ownBlock]at Z
   subst Z
   exact al _ _ hg⟩
 rcases aa.2 with⟨_,h0⟩|⟨g,cap,ae,rfl,ah,_⟩
 ·omega
 ·exact h g cap w' ah aa ag ak
end
theorem CopiesAt.bl{e:TypeId}{w w':World}{b:Nat}{B:Bk}{k:Nat}(h:CopiesAt w b B k)(hk:KeepT e w w'):CopiesAt w' b B k:=by
 obtain⟨n,D,F,⟨es,clock,z,r⟩,r'⟩:=id h;exact h.aV (hk.map z)
theorem CopiesAt.bV{w w':World}{b:Nat}{B:Bk}{k:Nat}(h:CopiesAt w b B k)(hk:Below w.heap.size w w'):CopiesAt w' b B k:=h.aV (hk.block b h.lt)
def DZ(X:Bk)(A:Ac):List Int:=A.aB.map λe=>KB X.ar A.aa e.ak
theorem Va{X:Bk}{A:Ac}{j:Nat}{e:En}{i:Int}(h:A.aB[j]?=some e)(z:KB X.ar A.aa e.ak=i):Cn ((DZ X A).take (j+1))=Cn ((DZ X A).take j)++[In i6 i]:=by
 have:(DZ X A)[j]?=some i:=by unfold DZ;rw[ej,h];simp[z]
 rw[ec,this];simp[Cn]
theorem Hv(X:Bk)(A:Ac):(DZ X A).length=A.aB.length:=by simp[DZ]
def FindIs(N g:Nat)(A:Ac)(ae:qO)(ce:Nat)(X:Bk)(e:Ending)(w':World):Prop:=
 (∃(k:Nat) (s:Svc),X.ah[k]?=some s/\A5 X A.aa=some s/\A.aB.all (C5 X A)=true/\e=.returned (.tuple #[])/\WkAt w' N g A ae ce X k (DZ X A))\/
 ((A5 X A.aa=none\/A.aB.all (C5 X A)=false)/\e=.panicked (OQ 3))
def Nk(B:Bk)(A:Ac):Prop:=A.aB.all (C5 B A)=true/\∃s,A5 B A.aa=some s/\BA A s=false
theorem Ve(A:Ac)(ae:qO)(ce:Nat)(X:Bk)(N g:Nat)(w:World)(s:Svc)(k:Nat)(HK:Hid (X.ah[k]?=some s))(cw:Hid (s.name=A.aa))(HF:Hid (A5 X A.aa=some s))(co:Hid (Nk X A))(b4:Hid (∀e∈A.aB,(Lit.int .i64 e.ak).wf=true))(hl:A.aB.length<=1048576)(HE:Hid (∀W,Below N w W->SlE W ae A.aB))(hV:Valid X)(z:X.aR)(hZ:X.aP)(b5:A.aa.size<=maxLen)(hN:N<=w.heap.size)(cN:WkAt w N g A ae ce X 0 []):
  Calls Tryz.prog 185 #[.pointer (qad g)] w λe w'=>FindIs N g A ae ce X e w'/\Below N w w':=by
 obtain⟨b1,b2,b3,d1,d2,d3,ve,aB,hg,aq,au⟩:=cN;have hU:Ja X:=IK hV.ah;have cQ:Tq X:=QL hV.aw;have ah:=DE aq;have HG:Hid _:=hg;have aj:Hid (w.ownsRow N 3 1 ve 0 (Cn [])):=au;have J:g<w.heap.size:=(AB hg).1;clear aq hg au;have c6:k<X.ah.length:=(AC HK.ab).1;go_enter Tryz.func185,Tryz.ntmps185
 go_upto_region 0 with fail
 refine AU 16 ?_;apply AL
 ·intro V W K A H Z F O
  simp only[pA]at F;subst F;go_wp2;exact O.ab _ brf
 iterate 2 refine qA0 qP ?_
 apply qA0
 ·intro V W K A H Z F O
  simp only[pA,qv (Z 2)]at F;subst F;have e8:=AJ (AK H HG.ab J) 8;have e9:=AJ (AK H HG.ab J) 9;have bC:=AJ (AK H HG.ab J) 10;have bD:=AJ (AK H HG.ab J) 11;go_wp2;exact O
 refine AZ (λv W=>∃m,v=.map (some m)/\PlacesX W m X X.ah.length X.aw.length) (λv W W2 ⟨m,h1,h2⟩ hb=>⟨m,h1,h2.below hb h2.lt⟩) ?_ ?_
 ·intro V W K A H Z F O
  simp only[pA,qv (Z 3)]at F;subst F
  go_wp2_with fail
  refine(MZ X _ _ _ d1 d2 d3 _ z hZ hU cQ (ah.ab.at.below H)).mono ?_;rintro e w3 ⟨rfl,ak,aC⟩;have cx:Hid _:=ak;clear ak;go_wp2;exact O.ab _ _ aC ⟨_,rfl,cx.ab⟩
 iterate 4 refine qA0 qP ?_
 apply qA0
 ·intro V W K A H Z F O
  simp only[pA,qv (Z 8)]at F;subst F;have e0:=AJ (AK H HG.ab J) 0;go_wp2;exact O
 refine qA0 qP ?_
 apply qA0
 ·intro V W K A H Z F O
  have d4:=Z 4;simp only[pA,qv (Z 10)]at F;generalize V 4=x4 at d4 F;subst F;obtain⟨m,rfl,n,D,hn,ag,q1,q2,_,_⟩:=d4;have M:=q2 k s c6 HK.ab;rw[cw.ab]at M;have HH:Hid (Maps.has D (key 1 A.aa)=true):=M.1;have HA:Hid (D.atKey (key 1 A.aa) (.lit (.int .i64 0))=.lit (.int .i64 (k:Int))):=M.2;clear q1 q2 M
  go_wp2_with (at_lookup;refine Ap _ rfl (.tmp 14) (.tmp 20) 141 rfl 181 3 .i64 thingLaw Tryz.underlying141 Tryz.underlying3 (DB _) m n D rfl ag _ _ rfl (Cy 1 A.aa wf1 b5) (k:Int) true HA.ab HH.ab ?_)
  exact O
 iterate 4 refine qA0 qP ?_
 intro V W A H z F;have d4:=z 4;simp only[pA,qv (z 0),qv (z 1),qv (z 2),qv (z 3),qv (z 5),qv (z 6),qv (z 7),qv (z 8),qv (z 9),qv (z 10),qv (z 11),qv (z 12),qv (z 13),qv (z 14),qv (z 15)]at F;clear z;generalize V 4=x4 at d4 F;subst F;simp only[dA,dN];clear d4;have af:Hid _:=AK H HG.ab J;have ay:=DE (ah.ab.below H);have az:Hid (W.ownsRow N 3 1 ve 0 (Cn [])):=Ca aj.ab H;have aD:Below N w W:=H.mono hN;have aA:N<=W.heap.size:=AH hN H.size;clear H HG ah aj J
 go_upto_region 3 with(first
  |(go_at_call 183;refine(Cl 3 _).mono ?_;rintro e w2 ⟨rfl,rfl⟩)
  |((with_reducible show wpList _ _ _ _ _ _);refine Am rfl 3 (.tmp 29) (.tmp 27) rfl g 12 (In i6 (k:Int)) rfl rfl CX rfl rfl 227 #[Sg A.aa,In i6 A.aN,In i6 A.ax,In i6 A.au,In i6 A.aA,Bo A.aJ,Sl ae A.aB.length ce,Bo A.drop,In i6 X.av,Sl b1 X.ah.length d1,Sl b2 X.ar.length d2,Sl b3 X.aw.length d3,In i6 0,ve] af.ab (AD rfl) ?_;intro w1 hz on;have aa:Hid (qBl w1 g #[Sg A.aa,In i6 A.aN,In i6 A.ax,In i6 A.au,In i6 A.aA,Bo A.aJ,Sl ae A.aB.length ce,Bo A.drop,In i6 X.av,Sl b1 X.ah.length d1,Sl b2 X.ar.length d2,Sl b3 X.aw.length d3,In i6 (k:Int),ve] 227):=hz;have am:Hid (BH g W w1):=on;clear hz on))
 have k1:KeepT 227 W w1:=.aY am.ab af.ab;have aO:=DE (ay.ab.ai am.ab af.ab qd qd qd);have bv:Hid (w1.ownsRow N 3 1 ve 0 (Cn [])):=k1.aW az.ab qd;have bO:Below N w w1:=aD.trans (am.ab.below.mono aB);have bE:N<=w1.heap.size:=by have:=am.ab.size;omega
 have aN:g<w1.heap.size:=(AB aa.ab).1;clear am af ay az aD aA k1;have e8:=AJ aa.ab 8;have e9:=AJ aa.ab 9;have bC:=AJ aa.ab 10;have bD:=AJ aa.ab 11
 go_upto_region 4 with(go_at_call 246;go_loud (refine(NH X b1 b2 b3 d1 d2 d3 _ z hZ hV.wfC (QK hV.ar) aO.ab.at).mono ?_;rintro e w2 ⟨rfl,ak,an⟩;clear e8 e9 bC bD))
 obtain⟨m,HM⟩:∃m,Hid (m=w1.heap.size+1):=⟨_,rfl⟩;rw[<-HM.ab]at ak ⊢;have bn:Hid (CopiesAt w2 m X X.ar.length):=ak;have a4:Hid _:=AK an aa.ab aN;have bB:Hid (WkAt w2 N g A ae ce X k ((DZ X A).take 0)):=⟨b1,b2,b3,d1,d2,d3,ve,aB,a4.ab,aO.ab.below an,Ca bv.ab an⟩;have aK:Below N w w2:=bO.trans (an.mono bE);have e6:=AJ a4.ab 6;clear ak an aO bv bO bE aN aa;go_wp2;clear e6 a4
 go_loopw [41] (λiv wr=>∃j:Nat,j<=A.aB.length/\iv=In i6 j/\Hid (WkAt wr N g A ae ce X k ((DZ X A).take j))/\Hid (CopiesAt wr m X X.ar.length)/\Hid (∀i e,i<j->A.aB[i]?=some e->C5 X A e=true)/\Below N w wr) (λiv _=>A.aB.length - (intOf iv).toNat)
 case atStart=>exact⟨0,AI _,rfl,bB,bn,λi e h=>absurd h (gN _),aK⟩
 case round=>
  clear bB bn aK;obtain⟨j,hj,rfl,a6,bq,aG,hb⟩:=hrel
  by_cases J:j<A.aB.length
  ·obtain⟨en,aF⟩:∃x,A.aB[j]?=some x:=⟨A.aB[j],by simp[J]⟩
   have b0:A.aB≠[]:=by intro h;rw[h]at J;simp at J
   obtain⟨b,ca,ea,d5,bK⟩:=HE.ab wr hb b0;subst ea;have hq:=bK j en aF;have cz:Hid _:=b4.ab en (AE aF);have aS:Hid _:=aF;unfold EnAt at hq;obtain⟨q0,q1⟩:=hq;obtain⟨b1,b2,b3,d1,d2,d3,ve,_,hg,aq,au⟩:=a6.ab;have HG:Hid _:=hg;have ah:=DE aq;have aj:Hid _:=au;have bb:g<wr.heap.size:=(AB hg).1;have T0:Hid _:=dm wr (.cells (#[In i6 en.ak,In i6 en.aN]:Array Value) 88);have Y:=AN wr (.cells (#[In i6 en.ak,In i6 en.aN]:Array Value) 88);obtain⟨wa,b7⟩:∃W,wr.alloc (.cells (#[In i6 en.ak,In i6 en.aN]:Array Value) 88)=W:=⟨_,rfl⟩;rw[b7]at T0 Y;clear bK b0 aF hg aq au a6;have bS:Below N w wa:=hb.trans (Y.mono (AH hN hb.size));have a5:Hid _:=AK Y HG.ab bb;have bm:=DE (ah.ab.below Y);have HJ:((DZ X A).take j).length=j:=by rw[dI,Hv];omega
   rw[HJ]at aj;have bw:Hid (wa.ownsRow N 3 1 ve j (Cn ((DZ X A).take j))):=Ca aj.ab Y;have aQ:Hid (CopiesAt wa m X X.ar.length):=bq.ab.bV Y;have ba:g<wa.heap.size:=AF bb Y.size;have b6:wr.heap.size<wa.heap.size:=(AB T0.ab).1;have a8:N<=wa.heap.size:=qo
   clear HG ah aj bq bb HJ Y
   cases hf:X.ar.find? (isC A.aa en.ak) with
   |none=>exact absurd (dt.1 co.ab.1 en (AE aS.ab)) (by simp[C5,hf])
   |some c=>
    obtain⟨ic,bd,aM⟩:∃i:Nat,X.ar[i]?=some c/\KB X.ar A.aa en.ak=(i:Int):=DY hf;have be:ic<X.ar.length:=(AC bd).1;have cr:Hid _:=bd;have ct:Hid _:=aM;have bo:Hid _:=isC_iff.1 (gM hf);have cu:Hid (C5 X A en=true):=by unfold Hid C5;rw[hf];rfl
    clear hf bd aM
    go_upto_region 7 with fail
    clear b7 q0 q1;refine AU 14 ?_;apply AL
    ·intro V W K A H Z F O
     simp only[pA]at F;subst F;go_wp2;exact O.ab _ brf
    iterate 4 refine qA0 qP ?_
    apply qA0
    ·intro V W K A H Z F O
     simp only[pA,qv (Z 4)]at F;subst F;have e0:=AJ (AK H a5.ab ba) 0;go_wp2;exact O
    refine qA0 qP ?_
    apply qA0
    ·intro V W K A H Z F O
     simp only[pA,qv (Z 6)]at F;subst F;have t0:=AJ (AK H T0.ab b6) 0;go_wp2;exact O
    refine qA0 qP ?_
    apply qA0
    ·intro V W K A H Z F O
     simp only[pA,qv (Z 0),qv (Z 8)]at F;subst F;obtain⟨n,D,hn,ag,q1,q2⟩:=aQ.ab.bV H;have M:=q2 ic c be cr.ab;rw[bo.ab.1,bo.ab.2]at M;have HH:Hid (Maps.has D (Ih A.aa en.ak)=true):=M.1;have HA:Hid (D.atKey (Ih A.aa en.ak) (.lit (.int .i64 0))=.lit (.int .i64 (ic:Int))):=M.2;clear q1 q2 M
     go_wp2_with (at_lookup;refine Ap _ rfl (.tmp 46) (.tmp 54) 287 rfl 290 3 .i64 numLaw Tryz.underlying287 Tryz.underlying3 (DB _) m n D rfl ag _ _ rfl (Lp A.aa en.ak cz.ab b5) (ic:Int) true HA.ab HH.ab ?_)
     exact O
    iterate 4 refine qA0 qP ?_
    intro V W A H z F;simp only[pA,qv (z 0),qv (z 1),qv (z 2),qv (z 3),qv (z 4),qv (z 5),qv (z 6),qv (z 7),qv (z 8),qv (z 9),qv (z 10),qv (z 11),qv (z 12),qv (z 13)]at F;clear z;subst F;simp only[dA,dN];have af:Hid _:=AK H a5.ab ba;have ay:=DE (bm.ab.below H);have az:Hid (W.ownsRow N 3 1 ve j (Cn ((DZ X A).take j))):=Ca bw.ab H;have cm:Hid (CopiesAt W m X X.ar.length):=aQ.ab.bV H;have aD:=bS.trans (H.mono a8);have aA:N<=W.heap.size:=AH a8 H.size;clear a5 bm bw aQ ba b6 a8 bS H T0;have cF:=AJ af.ab 13
    go_wp2_with (first
     |(go_at_call 183;refine(Cl 3 _).mono ?_;rintro e w2 ⟨rfl,rfl⟩)
     |(at_builtin;refine I6 rfl (.tmp 64) (.tmp 66) 48 rfl N 3 _ 1 8 Tryz.underlying48 QB rfl qo ve j _ rfl (Ca az.ab (AN W _)) ⟨W.heap.size,0,none⟩ 1 [In i6 (ic:Int)] rfl rfl (DI (dm W _)) (λu hu=>by simp at hu;subst hu;rfl) qm qo (AH aA (AN W _).size) ?_;intro ge cap w3 d6 bk aC bT;have al:Hid (KeepT 3 W w3):=(KeepT.bf (AN W _)).trans bT;have cl:Hid (Below N W w3):=((AN W _).mono aA).trans aC;have bx:Hid _:=al.ab.aV af.ab qd;clear cF bT aC)
     |((with_reducible show wpList _ _ _ _ _ _);refine Am rfl 48 (.tmp 69) (.tmp 67) rfl g 13 (.slice (qad ge) (j+1) cap) rfl rfl Nd rfl rfl 227 #[Sg A.aa,In i6 A.aN,In i6 A.ax,In i6 A.au,In i6 A.aA,Bo A.aJ,Sl (some ⟨b,ca,none⟩) A.aB.length ce,Bo A.drop,In i6 X.av,Sl b1 X.ah.length d1,Sl b2 X.ar.length d2,Sl b3 X.aw.length d3,In i6 (k:Int),ve] bx.ab (AD rfl) ?_;intro w4 hz on;have cn:Hid (qBl w4 g #[Sg A.aa,In i6 A.aN,In i6 A.ax,In i6 A.au,In i6 A.aA,Bo A.aJ,Sl (some ⟨b,ca,none⟩) A.aB.length ce,Bo A.drop,In i6 X.av,Sl b1 X.ah.length d1,Sl b2 X.ar.length d2,Sl b3 X.aw.length d3,In i6 (k:Int),.slice (qad ge) (j+1) cap] 227):=hz;have bz:Hid (BH g w3 w4):=on;clear hz on))
    go_roundw
    case rel=>
     have k4:KeepT 227 w3 w4:=.aY bz.ab bx.ab;have bX:((DZ X A).take (j+1)).length=j+1:=by rw[dI,Hv];omega
     refine⟨j+1,J,qn,⟨b1,b2,b3,d1,d2,d3,_,aB,cn.ab,?_,?_⟩,(cm.ab.bl al.ab).bl k4,?_,aD.trans (cl.ab.trans (bz.ab.below.mono aB))⟩
     ·have hB:=ay.ab
      exact⟨k4.aT (al.ab.aT hB.ah qd) qd,k4.aT (al.ab.aT hB.ar qd) qd,k4.aT (al.ab.aT hB.aw qd) qd⟩
     ·rw[bX,Va aS.ab ct.ab]
      exact k4.aW bk.ab qd
     ·intro i e hi he
      by_cases cT:i=j
      ·subst cT
       have:=aS.ab;rw[he]at this;obtain rfl:=dj this;exact cu.ab
      ·exact aG.ab i e qo he
    case measure=>simp[intOf];omega
  ·have c5:j=A.aB.length:=qo
   subst c5;go_wp2
   go_end0
   refine⟨.inl ⟨k,s,HK.ab,HF.ab,dt.2 λe he=>?_,rfl,?_⟩,hb⟩
   ·obtain⟨i,hi,cS⟩:=List.getElem_of_mem he
    exact aG.ab i e hi (by rw[dz hi,cS])
   ·have:=a6.ab
    rwa [eZ (by rw[Hv];exact AG)]at this
theorem find_any(A:Ac)(H:qO)(ce:Nat)(X:Bk)(N g:Nat)(w:World)(z:Hid (Nk X A))(F:Hid (∀e∈A.aB,(Lit.int .i64 e.ak).wf=true))(hl:A.aB.length<=1048576)(Z:Hid (∀W,Below N w W->SlE W H A.aB))(hV:Valid X)(hS:X.aR)(hZ:X.aP)(O:A.aa.size<=maxLen)(hN:N<=w.heap.size)(J:WkAt w N g A H ce X 0 []):
  Calls Tryz.prog 185 #[.pointer (qad g)] w λe w'=>FindIs N g A H ce X e w'/\Below N w w':=by
 cases hf:A5 X A.aa with
 |none=>obtain⟨_,s,Y,_⟩:=z.ab;rw[hf]at Y;cases Y
 |some s=>
  obtain⟨k,_,hk,M⟩:=FX hf;exact Ve A H ce X N g w s k hk M hf z F hl Z hV hS hZ O hN J
end
section
open Go.RowKit Go.Sort
open Go.Value renaming int->In,slice->Sl,string->Sg,bool->Bo,pointer->Po
open Go.IntKind renaming i64->i6
theorem Kg{w:World}{N:Nat}{e:TypeId}{size:Nat}{v:Value}{n:Nat}{xs:qL}(h:w.ownsRow N e size v n xs):∃ao cap,v=.slice ao n cap/\(n=0\/∃ge,ao=some ⟨ge,0,none⟩/\N<=ge/\RowIs w e size ge n cap xs):=by
 obtain⟨H,J⟩:=h;rcases J with⟨rfl,rfl⟩|⟨g,cap,z,rfl,F,M,O,_,W,Y⟩
 ·exact⟨none,0,rfl,.inl rfl⟩
 ·exact⟨_,cap,rfl,.inr ⟨g,rfl,F,H,O,z,M,W,Y⟩⟩
theorem RZ{X:Bk}{A:Ac}(h:A.aB.all (C5 X A)=true){j:Nat}{e:En}(J:A.aB[j]?=some e):∃(i:Nat) (c:Cp),X.ar[i]?=some c/\KB X.ar A.aa e.ak=(i:Int)/\X.ar.find? (isC A.aa e.ak)=some c/\(DZ X A)[j]?=some (i:Int):=by
 have F:=dt.1 h e (AE J);unfold C5 at F;obtain⟨c,H⟩:=Option.isSome_iff_exists.1 F;obtain⟨i,M,z⟩:=DY H;exact⟨i,c,M,z,H,by unfold DZ;rw[ej,J];exact ei some z⟩
def SeenIs(N g:Nat)(A:Ac)(ae:qO)(ce:Nat)(X:Bk)(s:Svc)(k:Nat)(e:Ending)(w':World):Prop:=
 ((s.ag==A.aN&&A.aB.all (CM X A))=true/\e=.returned (.tuple #[])/\WkAt w' N g A ae ce X k (DZ X A))\/
 ((s.ag==A.aN&&A.aB.all (CM X A))=false/\e=.panicked (OQ 4))
theorem Nv(A:Ac)(ae:qO)(ce:Nat)(X:Bk)(s:Svc)(N g k:Nat)(w:World)(bv:X.aR)(hl:A.aB.length<=1048576)(aO:X.ah.length<=1048576)(hN:N<=w.heap.size)(hk:X.ah[k]?=some s)(a8:Hid (A.aB.all (C5 X A)=true))(HE:Hid (∀W,Below N w W->SlE W ae A.aB))(F:WkAt w N g A ae ce X k (DZ X A)):
  Calls Tryz.prog 186 #[.pointer (qad g)] w λe w'=>SeenIs N g A ae ce X s k e w'/\Below N w w':=by
 have bk:=Hw F;obtain⟨_,bE,_⟩:=bv;obtain⟨b1,b2,b3,d1,d2,d3,ve,co,hg,Z,am⟩:=F;have aN:k<X.ah.length:=(AC hk).1;obtain⟨g1,e1,cl,aa⟩:=Z.ah.some qo;subst e1;obtain⟨n1,a9⟩:∃n,Hid (X.ah.length=n):=⟨_,rfl⟩;obtain⟨n2,ak⟩:∃n,Hid (X.ar.length=n):=⟨_,rfl⟩;obtain⟨n3,ba⟩:∃n,Hid (X.aw.length=n):=⟨_,rfl⟩;obtain⟨ne,aA⟩:∃n,Hid ((DZ X A).length=n):=⟨_,rfl⟩;obtain⟨r2,r3⟩:RowN w N 76 7 b2 X.ar.length d2 (Ay X.ar)/\RowN w N 90 2 b3 X.aw.length d3 (Cd X.aw):=⟨Z.ar,Z.aw⟩;clear Z;rw[a9.ab]at aa hg aN aO;rw[ak.ab]at r2 hg;rw[ba.ab]at r3 hg;rw[aA.ab]at am;have HK:Hid _:=hk;have HG:Hid _:=hg;have bb:Hid (RowIs w 34 13 g1 n1 d1 (Af X.ah)):=aa;have bd:=Bs r2;have cb:=Bs r3;have a7:Hid (w.ownsRow N 3 1 ve ne (Cn (DZ X A))):=am;have Y:g<w.heap.size:=(AB hg).1;have aQ:g1<w.heap.size:=aa.lt;clear hk hg aa r2 r3 am;have aS:ne=A.aB.length:=by rw[<-aA.ab,Hv]
 rw[ak.ab]at bE;obtain⟨vb,al⟩:∃b,Hid ((s.ag==A.aN)=b):=⟨_,rfl⟩;have bm:Hid (SvcAt w g1 (k*13) s):=bb.ab.bL HK.ab;go_enter Tryz.func186,Tryz.ntmps186
 go_upto_region 0 with fail
 refine AU 11 ?_;apply AL
 ·intro V W K A H M z J
  simp only[pA]at z;subst z;go_wp2;exact J.ab _ brf
 refine AZ (λv W=>v=Po (some ⟨g1,k*13,none⟩)) (λ_ _ _ h _=>h) ?_ ?_
 ·intro V W K A H M z J
  simp only[pA,qv (M 0)]at z;subst z
  go_wp2_with fail
  refine(Ej A ae ce X.av g g1 n1 d1 k _ _ _ W aN aO (AK H HG.ab Y)).mono ?_;rintro e w2 ⟨rfl,bw⟩;go_wp2;exact J.ab _ _ bw rfl
 apply qA0
 ·intro V W K A H M z J
  have d1:=M 1;simp only[pA]at z;generalize V 1=x1 at d1 z;subst z;obtain rfl:=d1;go_wp2;exact J
 refine qA0 qP ?_
 apply qA0
 ·intro V W K A H M z J
  simp only[pA,qv (M 3)]at z;subst z;have hq:=bm.ab.below H aQ;unfold SvcAt at hq;obtain⟨q0,q1,q2,q3,q4,q5,q6,q7,q8,q9,ct,cu,cv⟩:=hq;go_wp2;exact J
 iterate 4 refine qA0 qP ?_
 apply qA0
 ·intro V W K A H M z J
  simp only[pA,qv (M 8)]at z;subst z;have e1:=AJ (AK H HG.ab Y) 1;go_wp2;exact J
 refine AZ (λv W=>v=.bool vb) (λ_ _ _ h _=>h) ?_ ?_
 ·intro V W K A H M z J
  simp only[pA,qv (M 4),qv (M 9)]at z;subst z;go_wp2;exact J.ab _ _ brf (by rw[al.ab])
 intro V W A H F z;have d1:=F 1;have aD:=F 10;simp only[pA,qv (F 0),qv (F 2),qv (F 3),qv (F 4),qv (F 5),qv (F 6),qv (F 7),qv (F 8),qv (F 9)]at z;clear F;generalize V 1=x1 at d1 z;generalize V 10=cQ at aD z;subst z;simp only[dA,dN];obtain rfl:=d1;obtain rfl:=aD;have az:Hid _:=AK H HG.ab Y;have aH:=H;cases vb
 ·go_wp2_with (go_at_call 183;refine(Ea 4 _).mono ?_;rintro e w2 ⟨rfl,rfl⟩)
  exact⟨rfl,.inr ⟨by rw[al.ab];rfl,rfl⟩,H.mono hN⟩
 obtain⟨ao,de,bO,ah⟩:=Kg a7.ab;subst bO;have be:Hid _:=ah;have aj:Hid _:=aS;clear ah aS;have bn:=AJ az.ab 13
 go_wp2_with (go_at_call 183;refine(Cl 4 _).mono ?_;rintro e w2 ⟨rfl,rfl⟩)
 clear bn
 go_loopw [21] (λiv wr=>∃j:Nat,j<=ne/\iv=In i6 j/\Hid (∀i x,i<j->A.aB[i]?=some x->CM X A x=true)/\Below w.heap.size w wr) (λiv _=>ne - (intOf iv).toNat)
 case atStart=>exact⟨0,AI _,rfl,λi e h=>absurd h (gN _),aH⟩
 case round=>
  obtain⟨j,hj,rfl,af,hb⟩:=hrel;clear az aH H
  by_cases bK:j<ne
  ·obtain⟨en,O⟩:∃x,A.aB[j]?=some x:=⟨A.aB[j]'(by have:=aj.ab;omega),qs⟩
   obtain⟨b,bX,ea,bx,aG⟩:=HE.ab w (dG _ _) (by intro h;rw[h]at O;simp at O);subst ea;obtain⟨ic,c,an,aK,aJ,aM⟩:=RZ a8.ab O;have bC:ic<n2:=by rw[<-ak.ab];exact(AC an).1
   obtain⟨g2,e2,cm,aq⟩:=bd.ab.some qo;subst e2;have a5:Hid (CpAt w g2 (ic*7) c):=aq.cpAt an;have bB:g2<w.heap.size:=aq.lt;have a6:Hid (EnAt w b (bX+j*2) en):=aG j en O;have ax:Hid _:=O;obtain⟨sb,aB⟩:∃b,Hid ((c.ag==en.aN)=b):=⟨_,rfl⟩;have aC:Hid (CM X A en=sb):=by unfold Hid CM;rw[aJ];exact aB.ab
   obtain⟨ge,bo,cn,au⟩:∃ge,ao=some ⟨ge,0,none⟩/\N<=ge/\RowIs w 3 1 ge ne de (Cn (DZ X A)):=by
    rcases be.ab with h|h
    ·omega
    ·exact h
   subst bo;have bz:=(au.below hb au.lt).cell (j:=j) (u:=In i6 (ic:Int)) (by unfold Cn;rw[ej,aM];rfl);have b5:j<A.aB.length:=by have:=aj.ab;omega
   clear an aK aJ aM au aq aG O
   go_upto_region 4 with fail
   clear bz;refine AU 19 ?_;apply AL
   ·intro V W K A H M z J
    simp only[pA]at z;subst z;go_wp2;exact J.ab _ brf
   iterate 3 refine qA0 qP ?_
   apply qA0
   ·intro V W K A H M z J
    simp only[pA,qv (M 3)]at z;subst z;have ch:=AJ (AK (hb.trans (H.mono hb.size)) HG.ab Y) 10;go_wp2;exact J
   iterate 3 refine qA0 qP ?_
   apply qA0
   ·intro V W K A H M z J
    simp only[pA,qv (M 7)]at z;subst z;have hq:=a5.ab.below (hb.trans (H.mono hb.size)) bB;unfold CpAt at hq;obtain⟨q0,q1,q2,q3,q4,q5,q6⟩:=hq;go_wp2;exact J
   iterate 4 refine qA0 qP ?_
   apply qA0
   ·intro V W K A H M z J
    simp only[pA,qv (M 12)]at z;subst z;have e6:=AJ (AK (hb.trans (H.mono hb.size)) HG.ab Y) 6;go_wp2;exact J
   iterate 3 refine qA0 qP ?_
   apply qA0
   ·intro V W K A H M z J
    simp only[pA,qv (M 16)]at z;subst z;have hq:=a6.ab.below (hb.trans (H.mono hb.size)) bx;unfold EnAt at hq;obtain⟨q0,q1⟩:=hq;go_wp2;exact J
   refine AZ (λv W=>v=.bool sb) (λ_ _ _ h _=>h) ?_ ?_
   ·intro V W K A H M z J
    simp only[pA,qv (M 8),qv (M 17)]at z;subst z;go_wp2;exact J.ab _ _ brf (by rw[aB.ab])
   intro V W A H F z;have aF:=F 18;simp only[pA,qv (F 0),qv (F 1),qv (F 2),qv (F 3),qv (F 4),qv (F 5),qv (F 6),qv (F 7),qv (F 8),qv (F 9),qv (F 10),qv (F 11),qv (F 12),qv (F 13),qv (F 14),qv (F 15),qv (F 16),qv (F 17)]at z;clear F;generalize V 18=cR at aF z;subst z;simp only[dA,dN];obtain rfl:=aF;have aI:=hb.trans (H.mono hb.size);clear H;cases sb
   ·go_wp2_with (go_at_call 183;refine(Ea 4 _).mono ?_;rintro e w2 ⟨rfl,rfl⟩)
    exact⟨rfl,.inr ⟨by rw[Tg ax.ab aC.ab,iH],rfl⟩,aI.mono hN⟩
   ·go_wp2_with (go_at_call 183;refine(Cl 4 _).mono ?_;rintro e w2 ⟨rfl,rfl⟩)
    go_roundw
    case rel=>exact⟨j+1,bK,qn,λi x hi hx=>by
     by_cases bD:i=j
     ·subst bD
      have:=ax.ab;rw[hx]at this;obtain rfl:=dj this;exact aC.ab
     ·exact af.ab i x qo hx,aI⟩
    case measure=>simp[intOf];omega
  ·go_wp2
   go_end0
   have cr:j=A.aB.length:=by have:=aj.ab;omega
   refine⟨.inl ⟨?_,rfl,bk.ab.below hb⟩,hb.mono hN⟩;rw[al.ab,gY];exact Py λi x hi hx=>af.ab i x qo hx
def PK(sv:qB)(c:Cp):Bool:=c.aa.toList==sv.toList&&(!c.am&&c.ay==3)
theorem M0(img:Int)(sv:qB):∀(l:List Cp) (n:Cnt),(l.foldl (λn c=>Cc img sv c n) n).ready=n.ready+(l.countP (PK sv):Int)
 |[],n=>qs
 |c::l,n=>by
  rw[gh,M0 img sv l,fC]
  have:(Cc img sv c n).ready=n.ready+(if PK sv c=true then 1 else 0:Nat):=by
   unfold Cc DF IC PK;cases c.aa.toList==sv.toList<;>cases c.am<;>cases c.ay==3<;>simp
  rw[this];omega
theorem Oo(img:Int)(sv:qB)(l:List Cp):(Ar img sv l l.length).ready=(l.countP (PK sv):Int):=by
 unfold Ar;rw[eC,M0];simp[Cnt.none]
theorem LP(p:Cp->Bool):∀(l:List Cp) (i:Nat) (c d:Cp),l[i]?=some c->(l.set i d).countP p+(if p c=true then 1 else 0)=l.countP p+(if p d=true then 1 else 0)
 |[],i,c,d,h=>by simp at h
 |x::l,0,c,d,h=>by
  obtain rfl:=dj h;rw[List.set_cons_zero,fC,fC];omega
 |x::l,i+1,c,d,h=>by
  have:=LP p l i c d (by simpa using h);rw[List.set_cons_succ,fC,fC];omega
theorem Sa{img:Int}{sv:qB}{l:List Cp}{i:Nat}{c:Cp}{v:Int}(J:l[i]?=some c)(O:c.aa=sv)(M:c.am=false):(Ar img sv (l.set i (CU v c)) (l.set i (CU v c)).length).ready=(Ar img sv l l.length).ready - (if c.ay=3 then 1 else 0):=by
 rw[Oo,Oo];have h:=LP (PK sv) l i c (CU v c) J;have F:PK sv (CU v c)=false:=by simp[PK,CU]
 have H:PK sv c=(c.ay==3):=by simp[PK,O,M]
 rw[F,H]at h
 by_cases z:c.ay=3
 ·simp[z]at h ⊢
  omega
 ·simp[z]at h ⊢
  omega
theorem RM{l l':List Cp}(h:l.map Db=l'.map Db)(sv:qB)(num:Int):KB l sv num=KB l' sv num:=by
 have e:isC sv num=(λk:ByteArray × Int=>k.1.toList==sv.toList&&k.2==num) ∘ Db:=rfl;unfold KB F5;rw[e,<-List.findIdx?_map,h,List.findIdx?_map]
theorem find_at{l:List Cp}{sv:qB}{num:Int}{i:Nat}(M:(l.find? (isC sv num)).isSome=true)(F:KB l sv num=(i:Int)):∃c,l[i]?=some c/\l.find? (isC sv num)=some c/\c.aa=sv/\c.ak=num:=by
 obtain⟨c,z⟩:=Option.isSome_iff_exists.1 M;obtain⟨O,H,J⟩:=DY z;have:O=i:=by unfold KB at F;rw[J]at F;omega
 subst this;exact⟨c,H,z,isC_iff.1 (gM z)⟩
theorem RowN.cap{w:World}{N:Nat}{e:TypeId}{size:Nat}{ao:qO}{n cap:Nat}{xs:qL}(h:RowN w N e size ao n cap xs):n<=cap:=by
 rcases h with⟨_,z,F,_⟩|⟨_,_,_,_,h,_⟩
 ·omega
 ·exact h
theorem VJ{s:Svc}{c:Cp}{r:Int}(h:Em s c r=true):c.am=false:=by
 unfold Em at h;cases z:c.am
 ·rfl
 ·rw[z]at h;simp at h
theorem VK{B:Bk}{s:Svc}{sv:qB}{v:Int}{es:List En}{l:List Cp}{j:Nat}{en:En}{c:Cp}(z:es[j]?=some en)(hf:l.find? (isC sv en.ak)=some c)(H:Em s c (Ar s.aj sv l l.length).ready=true):BO B s sv v (es.drop j) l=BO B s sv v (es.drop (j+1)) (Cw sv v l en.ak):=by
 obtain⟨F,e⟩:=AC z;rw[fe F,e];show(match l.find? (isC sv en.ak) with|some c=>_|none=>_)=_;rw[hf];show(if FA _ s sv c then _ else _)=_;rw[PV];show(if Em s c (Ar s.aj sv l l.length).ready then _ else _)=_;rw[H];rfl
theorem marks_no{B:Bk}{s:Svc}{sv:qB}{v:Int}{es:List En}{l:List Cp}{j:Nat}{en:En}{c:Cp}(z:es[j]?=some en)(hf:l.find? (isC sv en.ak)=some c)(H:Em s c (Ar s.aj sv l l.length).ready=false):BO B s sv v (es.drop j) l=none:=by
 obtain⟨F,e⟩:=AC z;rw[fe F,e];show(match l.find? (isC sv en.ak) with|some c=>_|none=>_)=_;rw[hf];show(if FA _ s sv c then _ else _)=_;rw[PV];show(if Em s c (Ar s.aj sv l l.length).ready then _ else _)=_;rw[H];rfl
theorem Ns(B:Bk)(s:Svc)(a1 a2 a3:qO)(c1 c2 c3 n1 n2 n3:Nat)(w:World)(J:Hid (B.ah.length=n1))(M:Hid (B.ar.length=n2))(O:Hid (B.aw.length=n3))(F:B.ar.length<=1048576)(z:Hid (Ds B.ar))(H:Hid (B.ar.length<=c2))(hC:SlC w a2 B.ar)(N:Cnt)(W:Hid (N=Ar s.aj s.name B.ar B.ar.length)):
  Calls Tryz.prog 167 #[.agg #[In i6 B.av,Sl a1 n1 c1,Sl a2 n2 c2,Sl a3 n3 c3],.agg (qsV s)] w λe w'=>e=.returned (.agg (qtV N))/\Below w.heap.size w w':=by
 rw[<-J.ab,<-M.ab,<-O.ab];exact FB B s a1 a2 a3 c1 c2 c3 w F z H hC N W
def EndIs(N g:Nat)(A:Ac)(ae:qO)(ce:Nat)(B X:Bk)(s:Svc)(k:Nat)(e:Ending)(w':World):Prop:=
 (∃L,BO B s A.aa X.av A.aB B.ar=some L/\e=.returned (.tuple #[])/\WkAt w' N g A ae ce {X with ar:=L} k (DZ B A))\/
 (BO B s A.aa X.av A.aB B.ar=none/\e=.panicked (OQ 5))
theorem end_any(A:Ac)(ae:qO)(ce:Nat)(B X:Bk)(s:Svc)(N g k:Nat)(w:World)(bS:Hid (X.ar=B.ar))(ea:X.aR)(d4:Hid (Ds X.ar))(hl:A.aB.length<=1048576)(hN:N<=w.heap.size)(hk:X.ah[k]?=some s)(dy:Hid (s.name=A.aa))(ev:0<=s.au)(ex:s.au<=10)(eg:0<=s.aK)(el:s.aK<=10)(dr:Hid (A.aB.all (C5 B A)=true))(hS:WkAt w N g A ae ce X k (DZ B A)):
  Calls Tryz.prog 188 #[.pointer (qad g)] w λe w'=>EndIs N g A ae ce B X s k e w'/\Below N w w':=by
 have ch:=Hw hS;obtain⟨cF,cL,_⟩:=ea;obtain⟨b1,b2,b3,d1,d2,d3,ve,co,hg,ag,aq⟩:=hS;have cz:k<X.ah.length:=(AC hk).1;obtain⟨g1,e1,f0,aH⟩:=ag.ah.some qo;subst e1;obtain⟨n1,cc⟩:∃n,Hid (X.ah.length=n):=⟨_,rfl⟩;obtain⟨n2,O⟩:∃n,Hid (X.ar.length=n):=⟨_,rfl⟩;obtain⟨n3,cd⟩:∃n,Hid (X.aw.length=n):=⟨_,rfl⟩;obtain⟨ne,aM⟩:∃n,Hid ((DZ B A).length=n):=⟨_,rfl⟩;obtain⟨r2,r3⟩:RowN w N 76 7 b2 X.ar.length d2 (Ay X.ar)/\RowN w N 90 2 b3 X.aw.length d3 (Cd X.aw):=⟨ag.ar,ag.aw⟩;clear ag;rw[cc.ab]at aH hg cz cF;rw[O.ab]at r2 hg;rw[cd.ab]at r3 hg;rw[aM.ab]at aq;have HK:Hid _:=hk;have HG:Hid _:=hg;have cf:Hid (RowIs w 34 13 g1 n1 d1 (Af X.ah)):=aH;have an:=Bs r2;have d0:=Bs r3;have ay:Hid (w.ownsRow N 3 1 ve ne (Cn (DZ B A))):=aq;have cN:g<w.heap.size:=(AB hg).1;have cQ:g1<w.heap.size:=aH.lt;clear hk hg aH r2 r3 aq;have bB:Hid (ne=A.aB.length):=by unfold Hid;rw[<-aM.ab,Hv]
 have ci:Hid (SvcAt w g1 (k*13) s):=cf.ab.bL HK.ab;have b8:Hid (X.ar.length<=d2):=by have:=an.ab.cap;unfold Hid;rw[O.ab];exact this
 obtain⟨C,HC⟩:∃C,Hid (C=Ar s.aj s.name X.ar X.ar.length):=⟨_,rfl⟩;have e6:=La;go_enter Tryz.func188,Tryz.ntmps188
 go_upto_region 1 with(go_at_call 247;refine(Ej A ae ce X.av g g1 n1 d1 k _ _ _ _ cz cF HG.ab).mono ?_;rintro e w1 ⟨rfl,a9⟩;have hq:=ci.ab.below a9 cQ;unfold SvcAt at hq;obtain⟨q0,q1,q2,q3,q4,q5,q6,q7,q8,q9,eM,eS,eT⟩:=hq;have T0:Hid _:=dm w1 (.cells ((qsV s):Array Value) 34);have b0:=AN w1 (.cells ((qsV s):Array Value) 34);obtain⟨wa,cS⟩:∃W,w1.alloc (.cells ((qsV s):Array Value) 34)=W:=⟨_,rfl⟩;rw[cS]at T0 b0)
 clear cS q0 q1 q2 q3 q4 q5 q6 q7 q8 q9 eM eS eT;have aD:=a9.trans (b0.mono a9.size);have az:Hid _:=AK aD HG.ab cN;have aG:g<wa.heap.size:=AF cN aD.size;have J:w1.heap.size<wa.heap.size:=(AB T0.ab).1
 have bn:Hid (SlC wa b2 X.ar):=by
  have:=(an.ab.below aD);rw[<-O.ab]at this;exact this.bZ
 clear a9 b0;refine AU 7 ?_;apply AL
 ·intro V W K A z hd Y hK
  simp only[pA]at Y;subst Y;go_wp2;exact hK.ab _ brf
 iterate 2 refine qA0 qP ?_
 apply qA0
 ·intro V W K A z hd Y hK
  simp only[pA,qv (hd 2)]at Y;subst Y;have e8:=AJ (AK z az.ab aG) 8;have e9:=AJ (AK z az.ab aG) 9;have cm:=AJ (AK z az.ab aG) 10;have fs:=AJ (AK z az.ab aG) 11;go_wp2;exact hK
 apply qA0
 ·intro V W K A z hd Y hK
  simp only[pA]at Y;subst Y;have t0:=AJ (AK z T0.ab J) 0;have t1:=AJ (AK z T0.ab J) 1;have t2:=AJ (AK z T0.ab J) 2;have t3:=AJ (AK z T0.ab J) 3;have t4:=AJ (AK z T0.ab J) 4;have t5:=AJ (AK z T0.ab J) 5;have t6:=AJ (AK z T0.ab J) 6;have t7:=AJ (AK z T0.ab J) 7;have t8:=AJ (AK z T0.ab J) 8;have t9:=AJ (AK z T0.ab J) 9;have eV:=AJ (AK z T0.ab J) 10;have eX:=AJ (AK z T0.ab J) 11;have e0:=AJ (AK z T0.ab J) 12;go_wp2;exact hK
 apply AL
 ·intro V W K A z hd Y hK
  simp only[pA,qv (hd 3),qv (hd 4)]at Y;subst Y
  go_wp2_with fail
  refine(Ns X s _ _ b3 d1 d2 d3 n1 n2 n3 _ cc O cd cL d4 b8 (bn.ab.below z) C HC).mono ?_;rintro e w3 ⟨rfl,bX⟩;go_wp2;exact hK.ab _ bX
 refine qA0 qP ?_
 intro V W A z hS Y;simp only[pA,qv (hS 0),qv (hS 1),qv (hS 2),qv (hS 3),qv (hS 4),qv (hS 5),qv (hS 6)]at Y;clear hS;subst Y;simp only[dA,dN];have al:Hid _:=AK z az.ab aG;have aS:Hid _:=AK z T0.ab J;have aj:=aD.trans (z.mono aD.size);have bo:=Hw (ch.ab.below aj);obtain⟨ao,de,b6,ax⟩:=Kg ay.ab;subst b6;have e7:ne<=1048576:=by have:=bB.ab;omega
 have cn:C.ready=(Ar s.aj A.aa X.ar X.ar.length).ready:=by rw[HC.ab,dy.ab]
 have df:Hid _:=cn;have aQ:Hid (W.ownsRow N 3 1 (Sl ao ne de) ne (Cn (DZ B A))):=Ca ay.ab aj;clear ax cn az bn aG J aD z T0 cf an d0 ay HG ch ci b8;have d8:=AJ al.ab 13;go_wp2;clear d8 al
 go_loopw [3,23] (λrv iv wr=>∃(j:Nat) (l:List Cp),j<=ne/\iv=In i6 j/\rv=In i6 (Ar s.aj A.aa l l.length).ready/\Hid (WkAt wr N g A ae ce {X with ar:=l} k (DZ B A))/\Hid (BO B s A.aa X.av (A.aB.drop j) l=BO B s A.aa X.av A.aB B.ar)/\Hid (l.map Db=B.ar.map Db)/\Hid (qBl wr (w1.heap.size) (qsV s) 34)/\Hid (wr.ownsRow N 3 1 (Sl ao ne de) ne (Cn (DZ B A)))/\Below N w wr) (λ_ iv _=>ne - (intOf iv).toNat)
 case atStart=>exact⟨0,X.ar,AI _,rfl,by rw[df.ab],bo,by unfold Hid;rw[dN,bS.ab],by unfold Hid;rw[bS.ab],aS,aQ,aj.mono hN⟩
 case round=>
  obtain⟨j,l,hj,rfl,rfl,bO,bC,aK,H,bD,hb⟩:=hrel;clear bo aS aQ aj;obtain⟨r,aA⟩:∃r,Hid (r=(Ar s.aj A.aa l l.length).ready):=⟨_,rfl⟩;rw[<-aA.ab];have cj:l.length=X.ar.length:=by have:=ei List.length aK.ab;simp only[ef]at this;rw[this,bS.ab]
  have bd:=Ed s.aj A.aa l l.length AG;rw[cj,<-cj]at bd;have et:0<=r:=by rw[aA.ab];exact bd.2.2.1
  have aH:r<=1048576:=by rw[aA.ab];have:=bd.2.2.2.1;omega
  have dx:Hid _:=cj;clear bd cj
  by_cases cM:j<ne
  ·obtain⟨en,b4⟩:∃x,A.aB[j]?=some x:=⟨A.aB[j]'(by have:=bB.ab;omega),qs⟩
   obtain⟨F,c0,cw,a4,ct,cx⟩:=RZ dr.ab b4;obtain⟨c,bb,cu,cr,eb⟩:=find_at (l:=l) (sv:=A.aa) (num:=en.ak) (i:=F) (by rw[Vf aK.ab,ct];rfl) (by rw[RM aK.ab];exact a4);have au:F<l.length:=(AC bb).1;obtain⟨b1,b2,b3,d1,d2,d3,vq,_,hg,ag,aq⟩:=bO.ab;obtain⟨g2,e2,aC,b5⟩:=ag.ar.some (by show l.length≠0;omega);subst e2;obtain⟨n2,O⟩:∃n,Hid (l.length=n):=⟨_,rfl⟩;have an:Hid (RowIs wr 76 7 g2 n2 d2 (Ay l)):=by have:=b5;rw[show({X with ar:=l}:Bk).ar.length=n2 from O.ab]at this;exact this
   rw[aM.ab]at aq;obtain⟨fl,fn,b6,ax⟩:=Kg bD.ab;injection b6 with hv1 hv2 hv3
   clear hv2;subst hv1 hv3
   obtain⟨ge,d9,f1,cR⟩:∃ge,ao=some ⟨ge,0,none⟩/\N<=ge/\RowIs wr 3 1 ge ne de (Cn (DZ B A)):=by
    rcases ax with h|h
    ·omega
    ·exact h
   subst d9;have HG:Hid (qBl wr g #[Sg A.aa,In i6 A.aN,In i6 A.ax,In i6 A.au,In i6 A.aA,Bo A.aJ,Sl ae A.aB.length ce,Bo A.drop,In i6 X.av,Sl b1 X.ah.length d1,.slice (qad g2) n2 d2,Sl b3 X.aw.length d3,In i6 (k:Int),vq] 227):=by have:=hg;rw[show({X with ar:=l}:Bk).ar.length=n2 from O.ab]at this;exact this
   have bE:Hid (RowN wr N 34 13 b1 X.ah.length d1 (Af X.ah)/\RowN wr N 90 2 b3 X.aw.length d3 (Cd X.aw)):=⟨ag.ah,ag.aw⟩;have ay:Hid (wr.ownsRow N 3 1 vq ne (Cn (DZ B A))):=aq;have cv:g<wr.heap.size:=(AB hg).1;have ba:g2<wr.heap.size:=b5.lt;have M:w1.heap.size<wr.heap.size:=(AB H.ab).1;have cq:N<=wr.heap.size:=qo
   have bw:Hid (CpAt wr g2 (F*7) c):=an.ab.cpAt bb;have ee:=cR.cell (j:=j) (u:=In i6 (F:Int)) (by unfold Cn;rw[ej,cx];rfl);obtain⟨mb,a8⟩:∃b,Hid (Em s c r=b):=⟨_,rfl⟩;rw[O.ab]at au;have f3:n2<=1048576:=by rw[<-O.ab,dx.ab];exact cL
   have aJ:Hid _:=bb;have cb:Hid _:=cu;have b9:Hid _:=b4;have dp:Hid _:=cr;have ds:Hid (KB l A.aa en.ak=(F:Int)):=by unfold Hid;rw[RM aK.ab];exact a4
   have cm:=AJ HG.ab 10;clear bb cu cr eb cw a4 ct cx ag b5 hg aq ax cR b4 bO
   go_upto_region 6 with fail
   clear ee cm;refine AU 6 ?_;apply AL
   ·intro V W K A z hd Y hK
    simp only[pA]at Y;subst Y;have t0:=AJ (AK z H.ab M) 0;have t1:=AJ (AK z H.ab M) 1;have t2:=AJ (AK z H.ab M) 2;have t3:=AJ (AK z H.ab M) 3;have t4:=AJ (AK z H.ab M) 4;have t5:=AJ (AK z H.ab M) 5;have t6:=AJ (AK z H.ab M) 6;have t7:=AJ (AK z H.ab M) 7;have t8:=AJ (AK z H.ab M) 8;have t9:=AJ (AK z H.ab M) 9;have eV:=AJ (AK z H.ab M) 10;have eX:=AJ (AK z H.ab M) 11;have e0:=AJ (AK z H.ab M) 12;go_wp2;exact hK.ab _ brf
   iterate 2 refine qA0 qP ?_
   apply qA0
   ·intro V W K A z hd Y hK
    simp only[pA,qv (hd 2)]at Y;subst Y;have hq:=bw.ab.below z ba;unfold CpAt at hq;obtain⟨q0,q1,q2,q3,q4,q5,q6⟩:=hq;go_wp2;exact hK
   refine qA0 qP ?_
   refine AZ (λv W=>v=.bool mb) (λ_ _ _ h _=>h) ?_ ?_
   ·intro V W K A z hd Y hK
    simp only[pA,qv (hd 0),qv (hd 3),qv (hd 4)]at Y;subst Y
    go_wp2_with fail
    refine(Mq s c r _ et aH ev ex eg el).mono ?_;rintro e w3 ⟨rfl,bX⟩;rw[a8.ab];go_wp2;exact hK.ab _ _ bX rfl
   intro V W A z hS Y;have d5:=hS 5;simp only[pA,qv (hS 0),qv (hS 1),qv (hS 2),qv (hS 3),qv (hS 4)]at Y;clear hS;generalize V 5=x5 at d5 Y;subst Y;simp only[dA,dN];obtain rfl:=d5;have al:Hid _:=AK z HG.ab cv;have aS:Hid _:=AK z H.ab M;have aa:Hid (RowIs W 76 7 g2 n2 d2 (Ay l)):=an.ab.below z ba;have aw:Hid (RowN W N 34 13 b1 X.ah.length d1 (Af X.ah)/\RowN W N 90 2 b3 X.aw.length d3 (Cd X.aw)):=⟨bE.ab.1.below z,bE.ab.2.below z⟩;have ca:Hid (W.ownsRow N 3 1 vq ne (Cn (DZ B A))):=Ca ay.ab z;have aQ:Hid (W.ownsRow N 3 1 (.slice (qad ge) ne de) ne (Cn (DZ B A))):=Ca bD.ab z;have aj:=hb.trans (z.mono cq);have dq:Hid (CpAt W g2 (F*7) c):=bw.ab.below z ba;clear HG H an bE ay bD bw cv ba M cq hb z;cases mb
   ·go_wp2_with (go_at_call 183;refine(Ea 5 _).mono ?_;rintro e w2 ⟨rfl,rfl⟩)
    refine⟨rfl,.inr ⟨?_,rfl⟩,aj⟩;rw[<-bC.ab];exact marks_no b9.ab cb.ab (by rw[<-aA.ab];exact a8.ab)
   have bx:Hid (c.am=false):=VJ a8.ab
   have bk:Hid (BO B s A.aa X.av (A.aB.drop (j+1)) (l.set F (CU X.av c))=BO B s A.aa X.av A.aB B.ar):=by
    unfold Hid;rw[<-bC.ab,VK b9.ab cb.ab (by rw[<-aA.ab];exact a8.ab),OU ds.ab aJ.ab]
   have bm:Hid ((Ar s.aj A.aa (l.set F (CU X.av c)) (l.set F (CU X.av c)).length).ready=r - (if c.ay=3 then 1 else 0)):=by unfold Hid;rw[Sa aJ.ab dp.ab bx.ab,<-aA.ab]
   have be:Hid ((l.set F (CU X.av c)).map Db=B.ar.map Db):=by unfold Hid;rw[Ru aJ.ab,aK.ab]
   have hq:=dq.ab;unfold CpAt at hq;obtain⟨q0,q1,q2,q3,q4,q5,q6⟩:=hq
   by_cases h3:c.ay=3
   ·have bK:Hid _:=h3
    go_wp2_with (first
     |(go_at_call 183;refine(Cl 5 _).mono ?_;rintro e w2 ⟨rfl,rfl⟩)
     |((with_reducible show wpList _ _ _ _ _ _);refine CI rfl 4 (.tmp 50) (.const (.bool true)) rfl g2 _ (.bool true) rfl rfl IG rfl rfl 76 7 n2 d2 _ aa.ab qo ?_;intro w2 hr on;have R2:Hid (RowIs w2 76 7 g2 n2 d2 (Ay (l.set F {c with am:=true}))):=(by have:=hr.ab;rw[show splice (Ay l) (F*7+5) [Bo true]=Ay (l.set F {c with am:=true}) from CB (c:=Cp.cells) (n:=7) (λ_=>rfl) l F 5 c {c with am:=true} _ aJ.ab qo rfl]at this;exact this);have aN:Hid (BH g2 W w2):=on;have e8:=AJ ((KeepT.br on aa.ab).aV al.ab qd) 8;clear hr on q0 q1 q2 q3 q4 q5 q6)
     |((with_reducible show wpList _ _ _ _ _ _);refine CI rfl 3 (.tmp 58) (.tmp 56) rfl g2 _ (In i6 X.av) rfl rfl CX rfl rfl 76 7 n2 d2 _ R2.ab qo ?_;intro w3 hr on;have R3:Hid (RowIs w3 76 7 g2 n2 d2 (Ay (l.set F (CU X.av c)))):=(by have:=hr.ab;rw[show splice (Ay (l.set F {c with am:=true})) (F*7+2) [In i6 X.av]=Ay ((l.set F {c with am:=true}).set F (CU X.av c)) from CB (c:=Cp.cells) (n:=7) (λ_=>rfl) (l.set F {c with am:=true}) F 2 {c with am:=true} (CU X.av c) _ (by rw[eJ (by rw[O.ab];exact au)]) qo rfl,gq]at this;exact this);have aO:Hid (BH g2 w2 w3):=on;clear hr on e8))
    go_roundw
    case rel=>
     have k2:KeepT 76 W w2:=.br aN.ab aa.ab;have k3:KeepT 76 w2 w3:=.br aO.ab R2.ab;have Z:=k2.trans k3;have ak:(l.set F (CU X.av c)).length=n2:=by rw[dC];exact O.ab
     refine⟨j+1,l.set F (CU X.av c),cM,qn,?_,⟨b1,some ⟨g2,0,none⟩,b3,d1,d2,d3,vq,co,?_,⟨?_,?_,?_⟩,?_⟩,bk,be,Z.aV aS.ab qd,Z.aW aQ.ab qd,aj.trans ((aN.ab.below.mono aC).trans (aO.ab.below.mono aC))⟩
     ·rw[bm.ab,dv bK.ab]
      all_goals go_num
     ·have:=Z.aV al.ab qd
      show qBl w3 g #[Sg A.aa,In i6 A.aN,In i6 A.ax,In i6 A.au,In i6 A.aA,Bo A.aJ,Sl ae A.aB.length ce,Bo A.drop,In i6 X.av,Sl b1 X.ah.length d1,.slice (qad g2) (l.set F (CU X.av c)).length d2,Sl b3 X.aw.length d3,In i6 (k:Int),vq] 227;rw[ak];exact this
     ·exact Z.aT aw.ab.1 qd
     ·show RowN w3 N 76 7 (qad g2) (l.set F (CU X.av c)).length d2 (Ay (l.set F (CU X.av c)))
      rw[ak];exact .inr ⟨g2,rfl,aC,R3.ab⟩
     ·exact Z.aT aw.ab.2 qd
     ·rw[aM.ab]
      exact Z.aW ca.ab qd
    case measure=>simp[intOf];omega
   ·have bK:Hid _:=h3
    go_wp2_with (first
     |(go_at_call 183;refine(Cl 5 _).mono ?_;rintro e w2 ⟨rfl,rfl⟩)
     |((with_reducible show wpList _ _ _ _ _ _);refine CI rfl 4 (.tmp 50) (.const (.bool true)) rfl g2 _ (.bool true) rfl rfl IG rfl rfl 76 7 n2 d2 _ aa.ab qo ?_;intro w2 hr on;have R2:Hid (RowIs w2 76 7 g2 n2 d2 (Ay (l.set F {c with am:=true}))):=(by have:=hr.ab;rw[show splice (Ay l) (F*7+5) [Bo true]=Ay (l.set F {c with am:=true}) from CB (c:=Cp.cells) (n:=7) (λ_=>rfl) l F 5 c {c with am:=true} _ aJ.ab qo rfl]at this;exact this);have aN:Hid (BH g2 W w2):=on;have e8:=AJ ((KeepT.br on aa.ab).aV al.ab qd) 8;clear hr on q0 q1 q2 q3 q4 q5 q6)
     |((with_reducible show wpList _ _ _ _ _ _);refine CI rfl 3 (.tmp 58) (.tmp 56) rfl g2 _ (In i6 X.av) rfl rfl CX rfl rfl 76 7 n2 d2 _ R2.ab qo ?_;intro w3 hr on;have R3:Hid (RowIs w3 76 7 g2 n2 d2 (Ay (l.set F (CU X.av c)))):=(by have:=hr.ab;rw[show splice (Ay (l.set F {c with am:=true})) (F*7+2) [In i6 X.av]=Ay ((l.set F {c with am:=true}).set F (CU X.av c)) from CB (c:=Cp.cells) (n:=7) (λ_=>rfl) (l.set F {c with am:=true}) F 2 {c with am:=true} (CU X.av c) _ (by rw[eJ (by rw[O.ab];exact au)]) qo rfl,gq]at this;exact this);have aO:Hid (BH g2 w2 w3):=on;clear hr on e8))
    go_roundw
    case rel=>
     have k2:KeepT 76 W w2:=.br aN.ab aa.ab;have k3:KeepT 76 w2 w3:=.br aO.ab R2.ab;have Z:=k2.trans k3;have ak:(l.set F (CU X.av c)).length=n2:=by rw[dC];exact O.ab
     refine⟨j+1,l.set F (CU X.av c),cM,qn,?_,⟨b1,some ⟨g2,0,none⟩,b3,d1,d2,d3,vq,co,?_,⟨?_,?_,?_⟩,?_⟩,bk,be,Z.aV aS.ab qd,Z.aW aQ.ab qd,aj.trans ((aN.ab.below.mono aC).trans (aO.ab.below.mono aC))⟩
     ·rw[bm.ab,dk bK.ab]
      rw[Int.sub_zero]
     ·have:=Z.aV al.ab qd
      show qBl w3 g #[Sg A.aa,In i6 A.aN,In i6 A.ax,In i6 A.au,In i6 A.aA,Bo A.aJ,Sl ae A.aB.length ce,Bo A.drop,In i6 X.av,Sl b1 X.ah.length d1,.slice (qad g2) (l.set F (CU X.av c)).length d2,Sl b3 X.aw.length d3,In i6 (k:Int),vq] 227;rw[ak];exact this
     ·exact Z.aT aw.ab.1 qd
     ·show RowN w3 N 76 7 (qad g2) (l.set F (CU X.av c)).length d2 (Ay (l.set F (CU X.av c)))
      rw[ak];exact .inr ⟨g2,rfl,aC,R3.ab⟩
     ·exact Z.aT aw.ab.2 qd
     ·rw[aM.ab]
      exact Z.aW ca.ab qd
    case measure=>simp[intOf];omega
  ·go_wp2
   go_end0
   have f2:j=A.aB.length:=by have:=bB.ab;omega
   refine⟨.inl ⟨l,?_,rfl,bO.ab⟩,hb⟩;rw[<-bC.ab,ij qo];rfl
end
end Go.Proofs.YtbceafpodamnfaaGreatDoor
