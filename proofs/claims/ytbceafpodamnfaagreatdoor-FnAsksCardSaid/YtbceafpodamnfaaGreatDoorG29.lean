import Derived.Test.YtbceafpodamnfaaGreatDoorG20
import Derived.Test.YtbceafpodamnfaaGreatDoorG27
set_option linter.all false
set_option maxHeartbeats 8000000
set_option maxRecDepth 100000
namespace Go.Proofs.YtbceafpodamnfaaGreatDoor
section
open Go.RowKit
theorem VL{sv:qB}{v:Int}{l:List Cp}{num:Int}{i:Nat}{c:Cp}(h:(Cw sv v l num)[i]?=some c):∃d,l[i]?=some d/\(c=d\/(c=CU v d/\isC sv num d=true)):=by
 unfold Cw at h;split at h
 ·rename_i k hk
  split at h
  ·rename_i d z
   by_cases e:k=i
   ·subst e
    have H:=(AC z).1;rw[fE,dv rfl,dv H]at h;cases h;obtain⟨J,F,_⟩:=fp.1 hk;rw[(AC z).2]at F;exact⟨d,z,.inr ⟨rfl,F⟩⟩
   ·rw[gV e]at h
    exact⟨c,h,.inl rfl⟩
  ·exact⟨c,h,.inl rfl⟩
 ·exact⟨c,h,.inl rfl⟩
theorem Ju{B:Bk}{s:Svc}{sv:qB}{v:Int}:∀(es:List En) (l L:List Cp),BO B s sv v es l=some L->∀(i:Nat) c,L[i]?=some c->∃d,l[i]?=some d/\(c=d\/c=CU v d)
 |[],l,L,h,i,c,H=>by cases h;exact⟨c,H,.inl rfl⟩
 |e::es,l,L,h,i,c,H=>by
  unfold BO at h;split at h
  ·split at h
   ·obtain⟨d,O,z⟩:=Ju es _ L h i c H
    obtain⟨M,J,F⟩:=VL O;refine⟨M,J,?_⟩;rcases F with rfl|⟨rfl,_⟩
    ·exact z
    ·rcases z with rfl|rfl
     ·exact .inr rfl
     ·exact .inr rfl
   ·cases h
  ·cases h
theorem putC_mem{l:List Cp}{c x:Cp}(h:x∈Lb l c):x=c\/x∈l:=by
 unfold Lb at h;rcases dO.1 h with h|h
 ·exact .inr (iN _ |>.subset h)
 ·rcases dJ.1 h with h|h
  ·exact .inl h
  ·exact .inr (eE h)
theorem Jl{B:Bk}{A:Ac}{s:Svc}{L:List Cp}{x:Cp}:∀{t:Nat},x∈If B A s L t->x∈L\/∃j,j<t/\x=E9 B A s j
 |0,h=>.inl h
 |t+1,h=>by
  rcases putC_mem h with h|h
  ·exact .inr ⟨t,qo,h⟩
  ·rcases Jl h with h|⟨j,z,h⟩
   ·exact .inl h
   ·exact .inr ⟨j,qo,h⟩
theorem Pu{B:Bk}{A:Ac}(h:BM B A=0):∃s L,Be A=true/\A5 B A.aa=some s/\A.aB.all (C5 B A)=true/\s.ag=A.aN/\A.aB.all (CM B A)=true/\BO B s A.aa (B.av+1) A.aB B.ar=some L/\Dj B A s L=0/\BL B A=NA B A s L (Nr B.ah A.aa).toNat:=by
 unfold BM at h;unfold BL
 cases z:G8 B A with
 |some c=>rw[z]at h;exact absurd h (early_ne z)
 |none=>
  rw[z]at h;obtain⟨H,s,W,J,M,O⟩:=M6 z;simp only[W]at h ⊢
  cases F:BO B s A.aa (B.av+1) A.aB B.ar with
  |none=>simp only[F]at h;exact absurd h qd
  |some L=>rw[F]at h;exact⟨s,L,H,rfl,J,M,O,F,h,by simp only[F]⟩
theorem MH{B:Bk}{nm:qB}{s:Svc}(h:A5 B nm=some s):s.name=nm:=same_nm.1 (by have:=gM h;exact this)
theorem Fi(B:Bk)(A:Ac)(s:Svc):(Di B A s).name=s.name:=by unfold Di AR;cases A.aJ<;>rfl
theorem JU{B:Bk}(A:Ac)(J:Valid B)(F:okBk B):okBk (Ah B A):=by
 unfold Ah
 by_cases z:BM B A=0
 ·rw[dv z]
  obtain⟨s,L,Y,W,_,_,_,O,_,M⟩:=Pu z;rw[M];have hL:=IT _ _ _ _ _ _ _ O;have Z:=Ef Y;have l1:=J.ls;have l2:=J.lc;have l3:=J.lb;have H:=F.2.1 s (Dc W);refine⟨⟨?_,?_,by show B.aw.length<=_;omega⟩,λx hx=>?_,λx hx=>?_,F.2.2.2⟩
  ·show(Dr B A s _).length<=_
   unfold Dr;split
   ·rw[dE,dI,eh];omega
   ·rw[dC];omega
  ·show(If B A s L A.ax.toNat).length<=_
   rw[Hn,hL];omega
  ·have hx:x∈Dr B A s _:=hx
   unfold Dr at hx;split at hx
   ·rcases dO.1 hx with hx|hx
    ·exact F.2.1 x (eP hx)
    ·exact F.2.1 x (eE hx)
   ·rcases eU hx with hx|hx
    ·exact F.2.1 x hx
    ·rw[hx,Fi];exact H
  ·rcases Jl (show x∈If B A s L A.ax.toNat from hx) with hx|⟨j,_,rfl⟩
   ·obtain⟨i,hi⟩:=eD hx
    obtain⟨d,M,e⟩:=Ju _ _ _ O i x hi;have:=F.2.2.1 d (AE M);rcases e with rfl|rfl<;>exact this
   ·refine⟨?_,AI _⟩
    show A.aa.size<=maxLen;rw[<-MH W];exact H
 ·rw[dk z]
  exact F
def Bk.bQ(B:Bk):Prop:=∀c∈B.ar, -9223372036854775808<=c.ak/\c.ak<=9223372036854775807
theorem Valid.bQ{B:Bk}(F:Valid B):B.bQ:=λc J=>by
 obtain⟨s,O,z⟩:=F.bH J;have H:=F.bc (Dc O);have Y:=H.bB;have Z:=H.bK;unfold GI at z;simp only[di,inB_iff]at z;have M:=z.1.1.1;have W:wrap64 (s.next - 1)=s.next - 1:=by unfold wrap64;omega
 rw[W]at M;omega
def Ex(B:Bk)(A:Ac):Bk:=if Aj B then Ah B A else⟨0,[],[],[]⟩
def Uq(B:Bk)(A:Ac):Int:=if Aj B then BM B A else 1
theorem ans_ok{B:Bk}(A:Ac)(z:okBk B):okBk (Ex B A):=by
 unfold Ex;cases h:Aj B
 ·exact⟨⟨AI _,AI _,AI _⟩,λ_ h=>(nomatch h),λ_ h=>(nomatch h),λ_ h=>(nomatch h)⟩
 ·exact JU A (validB_iff.1 h) z
theorem ans_nums{B:Bk}(A:Ac)(J:B.bQ):(Ex B A).bQ:=by
 unfold Ex;cases h:Aj B
 ·exact λ_ h=>(nomatch h)
 ·have O:=validB_iff.1 h
  show(Ah B A).bQ;unfold Ah
  by_cases z:BM B A=0
  ·rw[dv z]
   obtain⟨s,L,M,Z,_,_,_,Y,_,F⟩:=Pu z;rw[F];intro x hx;rcases Jl (show x∈If B A s L A.ax.toNat from hx) with hx|⟨j,hj,rfl⟩
   ·obtain⟨i,W⟩:=eD hx
    obtain⟨d,F,e⟩:=Ju _ _ _ Y i x W;have:=J d (AE F);rcases e with rfl|rfl<;>exact this
   ·have H:=O.bc (Dc Z)
    have h3:=H.bB;have h4:=H.bK;have h5:=Ef M;show _<=s.next+(j:Int)/\s.next+(j:Int)<=_;omega
  ·rw[dk z]
   exact J
theorem Px{B:Bk}(A:Ac)(F:B.ah.length<=999/\B.ar.length<=999/\B.aw.length<=999):(Ex B A).ah.length<=999/\(Ex B A).ar.length<=999/\(Ex B A).aw.length<=999:=by
 unfold Ex;cases h:Aj B
 ·exact⟨AI _,AI _,AI _⟩
 ·have J:=validB_iff.1 h
  show(Ah B A).ah.length<=999/\(Ah B A).ar.length<=999/\(Ah B A).aw.length<=999;unfold Ah
  by_cases z:BM B A=0
  ·rw[dv z]
   obtain⟨s,L,H,Y,_,_,_,W,_,O⟩:=Pu z;rw[O];have hL:=IT _ _ _ _ _ _ _ W;have M:=Ef H;have Z:=J.lc;refine⟨?_,?_,F.2.2⟩
   ·show(Dr B A s _).length<=_
    unfold Dr;split
    ·rw[dE,dI,eh];omega
    ·rw[dC];omega
   ·show(If B A s L A.ax.toNat).length<=_
    rw[Hn,hL];omega
  ·rw[dk z]
   exact F
end
section
open Go.RowKit Go.Sort
theorem PV(B:Bk)(s:Svc)(sv:qB)(c:Cp):FA B s sv c=Em s c (Ar s.aj sv B.ar B.ar.length).ready:=by
 unfold FA Em;cases c.am<;>cases (c.ay !=3)<;>cases s.aH<;>rfl
theorem Valid.wfC{B:Bk}(h:Valid B):wfC B:=λc H=>by
 obtain⟨s,J,z⟩:=h.bH H;have F:=h.bc (Dc J);have M:=F.bB;have O:=F.bK;unfold GI at z;simp only[di,inB_iff]at z;have e:wrap64 (s.next - 1)=s.next - 1:=by unfold wrap64;omega
 rw[e]at z;exact ig qo
end
section
open Go.RowKit Go.Sort
open Go.Value renaming int->In,slice->Sl,string->Sg,bool->Bo,pointer->Po
open Go.IntKind renaming i64->i6
def apOf(A:Ac)(ce:Nat):AP:=⟨A.aa,A.aN,A.ax,A.au,A.aA,A.aJ,A.aB,ce,A.drop⟩
def gh4(w:World)(a1 a2 a3 a4:qO):Gh:=⟨λi=>match i with|0=>a1|1=>a2|2=>a3|3=>a4|_=>none,λk=>k<w.heap.size,λ_=>False⟩
theorem bk_in{w:World}{a1 a2 a3 H:qO}{B:Bk}{l:List En}(h:BkAt w a1 a2 a3 B)(hE:SlE w H l):∀i b,lk (bkM B++[(3,BY 88 2 enL l)]) i=some b->i<64/\Hold Jr w (gh4 w a1 a2 a3 H) w 0 i b/\¬EN b/\Clo (bkM B++[(3,BY 88 2 enL l)]) (b.cs.flatMap DJ):=by
 intro i b hb;rw[B9]at hb
 cases z:lk (bkM B) i with
 |some b'=>
  rw[z]at hb;cases hb;obtain⟨J,Z,h3,h4⟩:=Gv (RD:=Jr) (q:=0) h i b z
  have hk:b.kd=1/\b.cs=[]/\i<3:=by
   have F:=Aw _ _ _ z;simp only[bkM,dJ,dW,fF,dR]at F;rcases F with⟨rfl,rfl⟩|⟨rfl,rfl⟩|⟨rfl,rfl⟩<;>exact⟨rfl,rfl,qd⟩
  refine⟨J,⟨λh=>absurd (h.symm.trans hk.1) qd,λ_ j hj=>?_,λh=>absurd (h.symm.trans hk.1) qd,λh=>absurd (h.symm.trans hk.1) qd,λh=>absurd (h.symm.trans hk.1) qd,Z.kk⟩,h3,by rw[hk.2.1];exact λ_ h=>(nomatch h)⟩;obtain⟨g,o,el,e1,e2⟩:=Z.k1 hk.1 j hj;refine⟨g,o,el,?_,e2⟩;rw[<-e1]
  match i,hk.2.2 with
  |0,_=>rfl
  |1,_=>rfl
  |2,_=>rfl
 |none=>
  rw[z]at hb;have F:=Aw _ _ _ (show lk [(3,BY 88 2 enL l)] i=some b from hb);cases dl.1 F;refine⟨qd,IR (ao:=H) rfl (λk hk=>hk) (λx=>rfl) λW=>?_,(λh=>by rcases h with h|h<;>cases h),λ_ h=>(nomatch h)⟩;obtain⟨b,Y,e,O,M⟩:=hE W;refine⟨b,Y,e,O,λi x hx j v hv=>?_⟩;obtain⟨h0,J⟩:=M i x hx
  match j,hv with
  |0,hv=>rw[<-dj hv];exact h0
  |1,hv=>rw[<-dj hv];exact J
  |k+2,hv=>cases hv
theorem VS(B:Bk)(A:Ac)(a1 a2 a3:qO)(c1 c2 c3:Nat)(H:qO)(ce:Nat)(w:World)(M:okBk B)(hV:Valid B)(hB:BkAt w a1 a2 a3 B)(hE:SlE w H A.aB):
  Calls Tryz.prog 61 #[.agg (qbV B a1 c1 a2 c2 a3 c3),.agg (qaV A H ce)] w λe w'=>∃Z x2 x3 d1 d2 d3,e=.returned (.tuple #[.agg #[In i6 (Ah B A).av,.slice Z (Ah B A).ah.length d1,.slice x2 (Ah B A).ar.length d2,.slice x3 (Ah B A).aw.length d3],In i6 (BM B A)])/\BkAt w' Z x2 x3 (Ah B A)/\Below w.heap.size w w':=by
 have z:=vcalls (R0:=⟨λ_=>False,λ_=>none,0⟩) (G:=gh4 w a1 a2 a3 H) (w:=w) (c0:=64) (q0:=0) (m0:=bkM B++[(3,BY 88 2 enL A.aB)]) (vs:=[(⟨B,c1,c2,c3⟩:BP).v,(apOf A ce).v 3]) (TA EH) Tryz.func61 (c:=Tryz.f61.body.getD .skip) qk (Cb (TA EH) qk _ (spec4 EH) qk) (show 2<=_ from AD rfl) (Post:=λv m _=>Pw (Ah B A) (BM B A) v m) (by rw[<-Hd];exact Vt (A:=apOf A ce) M.1 hV) (bk_in hB hE) (Cg rfl) AG (λk hk=>⟨hk,λh=>h⟩) (λ_ h=>h.elim) (λ_ h=>h.elim);have ha:(List.map (r2 (gh4 w a1 a2 a3 H).α) [(⟨B,c1,c2,c3⟩:BP).v,(apOf A ce).v 3]).toArray=#[.agg (qbV B a1 c1 a2 c2 a3 c3),.agg (qaV A H ce)]:=by simp[BP.v,AP.v,apOf,acV,gh4,r2,r1,r0]
 rw[ha]at z;refine z.mono ?_;rintro e w' ⟨_,m,q,G',⟨i1,i2,i3,n1,n2,n3,k1,k2,k3,b1,b2,b3,rfl,⟨rfl,rfl,rfl⟩,⟨l1,O⟩,⟨l2,W⟩,⟨l3,Y⟩⟩,rfl,J,_,F,hz,_⟩;exact⟨_,_,_,k1,k2,k3,by simp[r2,r1,r0],IY (λk hk=>(hz k hk).1) (J _ _ l1) (J _ _ l2) (J _ _ l3) O W Y,⟨F.os,F.tape,F.output,F.size,λk hk=>F.block k hk λh=>h⟩⟩
theorem QX(B:Bk)(A:Ac)(a1 a2 a3:qO)(c1 c2 c3:Nat)(ae:qO)(ce:Nat)(w:World)(z:okBk B)(hB:BkAt w a1 a2 a3 B)(hE:SlE w ae A.aB):
  Calls Tryz.prog 22 #[.agg (qbV B a1 c1 a2 c2 a3 c3),.agg (qaV A ae ce)] w λe w'=>∃x1 x2 x3 d1 d2 d3,e=.returned (.tuple #[.agg #[In i6 (Ex B A).av,.slice x1 (Ex B A).ah.length d1,.slice x2 (Ex B A).ar.length d2,.slice x3 (Ex B A).aw.length d3],In i6 (Uq B A)])/\BkAt w' x1 x2 x3 (Ex B A)/\Below w.heap.size w w':=by
 have hS:B.aR:=⟨AH z.1.1 qd,AH z.1.2.1 qd,AH z.1.2.2 qd⟩;have hZ:B.aP:=⟨AH z.1.1 qd,AH z.1.2.1 qd,AH z.1.2.2 qd,z.2⟩;obtain⟨t0,t1,t2,t3⟩:=OB w (.cells (qbV B a1 c1 a2 c2 a3 c3) 28) (.cells (qaV A ae ce) 45) (.cells qzV 28);obtain⟨W0,ag⟩:∃W,((w.alloc (.cells (qbV B a1 c1 a2 c2 a3 c3) 28)).alloc (.cells (qaV A ae ce) 45)).alloc (.cells qzV 28)=W:=⟨_,rfl⟩;have O:Below w.heap.size w W0:=by rw[<-ag];exact(((dG _ _).alloc AG _).alloc qs _).alloc qp _
 rw[ag]at t0 t1 t2 t3;have T0:Hid _:=t0;have T1:Hid _:=t1;have T2:Hid _:=t2;have e0:=AJ t0 0;have e1:=AJ t0 1;have e2:=AJ t0 2;have e3:=AJ t0 3;clear t0 t1 t2 t3;go_enter Tryz.func22,Tryz.ntmps22
 go_wp2_with fail
 clear ag;refine(A7 B a1 a2 a3 c1 c2 c3 _ hS hZ (hB.below O)).mono ?_;rintro e w1 ⟨rfl,J⟩;have H:=O.trans (J.mono O.size);have U0:Hid _:=GJ J T0.ab;have U1:Hid _:=GJ J T1.ab;have U2:Hid _:=GJ J T2.ab;clear T0 T1 T2 e0 e1 e2 e3 J O;cases hv:Aj B
 ·have HV:Hid _:=hv
  go_wp2_with (first|((with_reducible show wpList _ _ _ _ _ _);refine qAM U2.ab Fp ?_;intro wf hz on;have M:Hid (qBl wf (w.heap.size+1+1) qzV 28):=hz;have aj:=H.trans (on.below.mono qo);clear hz on;have p0:=AJ M.ab 0;have p1:=AJ M.ab 1;have p2:=AJ M.ab 2;have p3:=AJ M.ab 3))
  exact dF (v:=.tuple #[.agg qzV,In i6 1]) (by simp[results,Tryz.results22,go_sem,p0,p1,p2,p3]) rfl ⟨none,none,none,0,0,0,by unfold Ex Uq;rw[HV.ab];rfl,by unfold Ex;rw[HV.ab];exact⟨λh=>absurd rfl h,λh=>absurd rfl h,λh=>absurd rfl h⟩,aj⟩
 ·have HV:Hid _:=hv
  have e0:=AJ U0.ab 0;have e1:=AJ U0.ab 1;have e2:=AJ U0.ab 2;have e3:=AJ U0.ab 3;obtain⟨f0,f1,f2,f3,f4,f5,f6,f7⟩:=qc8 U1.ab
  go_wp2_with fail
  refine(VS B A a1 a2 a3 c1 c2 c3 ae ce _ z (validB_iff.1 HV.ab) (hB.below H) (hE.below H)).mono ?_;have F:=JU A (validB_iff.1 HV.ab) z;have ay:Hid (Ex B A=Ah B A):=by unfold Hid Ex;rw[HV.ab];rfl
  have aJ:Hid (Uq B A=BM B A):=by unfold Hid Uq;rw[HV.ab];rfl
  obtain⟨X,HX⟩:∃X,Hid (Ah B A=X):=⟨_,rfl⟩;obtain⟨c,HC⟩:∃c,Hid (BM B A=c):=⟨_,rfl⟩;rw[HX.ab]at F ⊢;rw[HC.ab];rintro e w2 ⟨x1,x2,x3,d1,d2,d3,rfl,hX,Y⟩;clear e0 e1 e2 e3 f0 f1 f2 f3 f4 f5 f6 f7;have aO:X.aR:=⟨AH F.1.1 qd,AH F.1.2.1 qd,AH F.1.2.2 qd⟩;have aB:=H.trans (Y.mono H.size);have a4:w.heap.size+1+1<w1.heap.size:=(AB U2.ab).1;have aG:=Y.size;have V2:Hid _:=GJ Y U2.ab;obtain⟨w3,ak⟩:∃W,w2.alloc (.cells (qbV X x1 d1 x2 d2 x3 d3) 28)=W:=⟨_,rfl⟩;have Z:Below w2.heap.size w2 w3:=ak▸AN w2 _;have Y3:Hid _:=dm w2 (.cells (qbV X x1 d1 x2 d2 x3 d3) 28);rw[ak]at Y3;have aC:=aB.trans (Z.mono aB.size);have V3:Hid _:=GJ Z V2.ab;have aQ:=hX.below Z;have g0:=AJ Y3.ab 0;have g1:=AJ Y3.ab 1;have g2:=AJ Y3.ab 2;have g3:=AJ Y3.ab 3;clear V2 U0 U1 U2 Y hX
  go_wp2_with fail
  refine(Cj X x1 x2 x3 d1 d2 d3 _ aO aQ).mono ?_;rintro e w4 ⟨y1,k1,y2,k2,y3,k3,rfl,hr,aD⟩;have aS:=aC.trans (aD.mono aC.size);have V4:Hid _:=GJ aD V3.ab;clear g0 g1 g2 g3 V3 ak Y3;have b5:w.heap.size+1+1<w3.heap.size:=AF a4 (AH aG Z.size);have b2:=hr.n1;have b3:=hr.n2;have b4:=hr.n3
  go_wp2_with (first|((with_reducible show wpList _ _ _ _ _ _);refine qAM V4.ab Fp ?_;intro wf hz on;have M:Hid (qBl wf (w.heap.size+1+1) (qbV X (qad y1) k1 (qad y2) k2 (qad y3) k3) 28):=hz;have aj:=aS.trans (on.below.mono qo);have a5:BkRow wf w.heap.size y1 y2 y3 k1 k2 k3 X:=⟨qo,qo,qo,hr.ah.aV (on.aL _ qo),hr.ar.aV (on.aL _ qo),hr.aw.aV (on.aL _ qo)⟩;clear hz on;have p0:=AJ M.ab 0;have p1:=AJ M.ab 1;have p2:=AJ M.ab 2;have p3:=AJ M.ab 3))
  exact dF (v:=.tuple #[.agg (qbV X (qad y1) k1 (qad y2) k2 (qad y3) k3),In i6 c]) (by simp[results,Tryz.results22,go_sem,p0,p1,p2,p3]) rfl ⟨_,_,_,k1,k2,k3,by rw[ay.ab,HX.ab,aJ.ab,HC.ab],by rw[ay.ab,HX.ab];exact a5.at,aj⟩
end
end Go.Proofs.YtbceafpodamnfaaGreatDoor
