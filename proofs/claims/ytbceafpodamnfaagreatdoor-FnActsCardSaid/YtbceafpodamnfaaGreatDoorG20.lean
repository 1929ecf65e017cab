import Derived.Test.YtbceafpodamnfaaGreatDoorG19
set_option linter.all false
set_option maxHeartbeats 8000000
set_option maxRecDepth 100000
namespace Go.Proofs.YtbceafpodamnfaaGreatDoor
section
open Go.RowKit Go.Sort
def PU(A:Ac)(ce:Nat):AP:=⟨A.aa,A.aF,A.am,A.av,A.ay,A.az,A.aw,ce,A.drop⟩
def gh4(w:World)(a1 a2 a3 a4:qO):Gh:=⟨λi=>match i with|0=>a1|1=>a2|2=>a3|3=>a4|_=>none,λk=>k<w.heap.size,λ_=>False⟩
theorem bk_in{w:World}{a1 a2 a3 M:qO}{B:Bk}{l:List En}(h:BkAt w a1 a2 a3 B)(hE:SlE w M l):∀i b,lk (bkM B++[(3,A9 88 2 enL l)]) i=some b->i<64/\Hold G6 w (gh4 w a1 a2 a3 M) w 0 i b/\¬DQ b/\Clo (bkM B++[(3,A9 88 2 enL l)]) (b.cs.flatMap Cf):=by
 intro i b hb;rw[Ba]at hb
 cases F:lk (bkM B) i with
 |some b'=>
  rw[F]at hb;cases hb;obtain⟨Y,h2,h3,h4⟩:=EV (RD:=G6) (q:=0) h i b F
  have hk:b.kd=1/\b.cs=[]/\i<3:=by
   have H:=Aj _ _ _ F;simp only[bkM,dy,dH,eP,dw]at H;rcases H with⟨rfl,rfl⟩|⟨rfl,rfl⟩|⟨rfl,rfl⟩<;>exact⟨rfl,rfl,by decide⟩
  refine⟨Y,⟨λh=>absurd (h.symm.trans hk.1) (by decide),λ_ j hj=>?_,λh=>absurd (h.symm.trans hk.1) (by decide),λh=>absurd (h.symm.trans hk.1) (by decide),λh=>absurd (h.symm.trans hk.1) (by decide),h2.kk⟩,h3,by rw[hk.2.1];exact λ_ h=>(nomatch h)⟩;obtain⟨g,o,el,e1,e2⟩:=h2.k1 hk.1 j hj;refine⟨g,o,el,?_,e2⟩;rw[<-e1]
  match i,hk.2.2 with
  |0,_=>rfl
  |1,_=>rfl
  |2,_=>rfl
 |none=>
  rw[F]at hb;have H:=Aj _ _ _ (show lk [(3,A9 88 2 enL l)] i=some b from hb);cases cZ.1 H;refine⟨by decide,Cc (ao:=M) rfl (λk hk=>hk) (λx=>rfl) λZ=>?_,(λh=>by rcases h with h|h<;>cases h),λ_ h=>(nomatch h)⟩;obtain⟨b,off,e,W,J⟩:=hE Z;refine⟨b,off,e,W,λi x hx j v hv=>?_⟩;obtain⟨h0,Y⟩:=J i x hx
  match j,hv with
  |0,hv=>rw[<-dg hv];exact h0
  |1,hv=>rw[<-dg hv];exact Y
  |k+2,hv=>cases hv
theorem SB(B:Bk)(A:Ac)(a1 a2 a3:qO)(c1 c2 c3:Nat)(ae:qO)(ce:Nat)(w:World)(J:okBk B)(hV:Valid B)(hB:BkAt w a1 a2 a3 B)(hE:SlE w ae A.aw):
  Calls Tryz.prog 61 #[.agg (qbV B a1 c1 a2 c2 a3 c3),.agg (qaV A ae ce)] w λe w'=>∃x1 Z Y d1 d2 d3,e=.returned (.tuple #[.agg #[.int .i64 (Av B A).aj,.slice x1 (Av B A).af.length d1,.slice Z (Av B A).ah.length d2,.slice Y (Av B A).ak.length d3],.int .i64 (Bc B A)])/\BkAt w' x1 Z Y (Av B A)/\Below w.heap.size w w':=by
 have F:=Pf (R0:=⟨λ_=>False,λ_=>none,0⟩) (G:=gh4 w a1 a2 a3 ae) (w:=w) (c0:=64) (q0:=0) (m0:=bkM B++[(3,A9 88 2 enL A.aw)]) (vs:=[(⟨B,c1,c2,c3⟩:BP).v,(PU A ce).v 3]) (QN DL) Tryz.func61 (c:=Tryz.f61.body.getD .skip) (by kernel_rfl) (CL (QN DL) (by kernel_rfl) _ (spec4 DL) (by kernel_rfl)) (show 2<=_ from AD rfl) (Post:=λv m _=>Nr (Av B A) (Bc B A) v m) (by rw[<-Ff];exact SV (A:=PU A ce) J.1 hV) (bk_in hB hE) (Cz rfl) (AG _) (λk hk=>⟨hk,λh=>h⟩) (λ_ h=>h.elim) (λ_ h=>h.elim);have ha:(List.map (r2 (gh4 w a1 a2 a3 ae).α) [(⟨B,c1,c2,c3⟩:BP).v,(PU A ce).v 3]).toArray=#[.agg (qbV B a1 c1 a2 c2 a3 c3),.agg (qaV A ae ce)]:=by simp[BP.v,AP.v,PU,acV,gh4,r2,r1,r0]
 rw[ha]at F;refine F.mono ?_;rintro e w' ⟨_,m,q,G',⟨i1,i2,i3,n1,n2,n3,k1,k2,k3,b1,b2,b3,rfl,⟨rfl,rfl,rfl⟩,⟨l1,M⟩,⟨l2,r2'⟩,⟨l3,r3'⟩⟩,rfl,W,_,H,hz,_⟩;exact⟨_,_,_,k1,k2,k3,by simp[r2,r1,r0],Gw (λk hk=>(hz k hk).1) (W _ _ l1) (W _ _ l2) (W _ _ l3) M r2' r3',⟨H.os,H.tape,H.output,H.size,λk hk=>H.block k hk λh=>h⟩⟩
theorem Jd(B:Bk)(A:Ac)(a1 a2 a3:qO)(c1 c2 c3:Nat)(ae:qO)(ce:Nat)(w:World)(F:okBk B)(hB:BkAt w a1 a2 a3 B)(hE:SlE w ae A.aw):
  Calls Tryz.prog 22 #[.agg (qbV B a1 c1 a2 c2 a3 c3),.agg (qaV A ae ce)] w λe w'=>∃x1 x2 x3 d1 d2 d3,e=.returned (.tuple #[.agg #[.int .i64 (B4 B A).aj,.slice x1 (B4 B A).af.length d1,.slice x2 (B4 B A).ah.length d2,.slice x3 (B4 B A).ak.length d3],.int .i64 (F7 B A)])/\BkAt w' x1 x2 x3 (B4 B A)/\Below w.heap.size w w':=by
 have hS:B.aJ:=⟨AH F.1.1 (by decide),AH F.1.2.1 (by decide),AH F.1.2.2 (by decide)⟩;have hZ:B.aD:=⟨AH F.1.1 (by decide),AH F.1.2.1 (by decide),AH F.1.2.2 (by decide),F.2⟩;obtain⟨t0,t1,t2,t3⟩:=MM w (.cells (qbV B a1 c1 a2 c2 a3 c3) 28) (.cells (qaV A ae ce) 45) (.cells qzV 28);obtain⟨W0,al⟩:∃W,((w.alloc (.cells (qbV B a1 c1 a2 c2 a3 c3) 28)).alloc (.cells (qaV A ae ce) 45)).alloc (.cells qzV 28)=W:=⟨_,rfl⟩;have Y:Below w.heap.size w W0:=by rw[<-al];exact(((dI _ _).alloc (AG _) _).alloc (by simp) _).alloc (by simp;omega) _
 rw[al]at t0 t1 t2 t3;have T0:Hid _:=t0;have T1:Hid _:=t1;have T2:Hid _:=t2;have e0:=AJ t0 0 rfl;have e1:=AJ t0 1 rfl;have e2:=AJ t0 2 rfl;have e3:=AJ t0 3 rfl;clear t0 t1 t2 t3;go_enter Tryz.func22,Tryz.ntmps22
 go_wp2_with fail
 clear al;refine(Ai B a1 a2 a3 c1 c2 c3 _ hS hZ (hB.below Y)).mono ?_;rintro e w1 ⟨rfl,J⟩;have M:=Y.trans (J.mono Y.size);have U0:Hid _:=BW J T0.O;have U1:Hid _:=BW J T1.O;have U2:Hid _:=BW J T2.O;clear T0 T1 T2 e0 e1 e2 e3 J Y;cases hv:Ag B
 ·have HV:Hid _:=hv
  go_wp2_with (first|((with_reducible show wpList _ _ _ _ _ _);refine AM rfl 28 (.tmp 4) (.tmp 11) rfl (w.heap.size+1+1) 0 qzV rfl rfl 28 qzV U2.O FA (AD rfl) (by simp[Value.oneCell']) ?_;intro wf hz on;have RF:Hid (qBl wf (w.heap.size+1+1) qzV 28):=hz;have aq:=M.trans (on.below.mono (by omega));clear hz on;have p0:=AJ RF.O 0 rfl;have p1:=AJ RF.O 1 rfl;have p2:=AJ RF.O 2 rfl;have p3:=AJ RF.O 3 rfl))
  exact dS (v:=.tuple #[.agg qzV,.int .i64 1]) (by simp[results,Tryz.results22,go_sem,p0,p1,p2,p3]) rfl ⟨none,none,none,0,0,0,by unfold B4 F7;rw[HV.O];rfl,by unfold B4;rw[HV.O];exact⟨λh=>absurd rfl h,λh=>absurd rfl h,λh=>absurd rfl h⟩,aq⟩
 ·have HV:Hid _:=hv
  have e0:=AJ U0.O 0 rfl;have e1:=AJ U0.O 1 rfl;have e2:=AJ U0.O 2 rfl;have e3:=AJ U0.O 3 rfl;have f0:=AJ U1.O 0 rfl;have f1:=AJ U1.O 1 rfl;have f2:=AJ U1.O 2 rfl;have f3:=AJ U1.O 3 rfl;have f4:=AJ U1.O 4 rfl;have f5:=AJ U1.O 5 rfl;have f6:=AJ U1.O 6 rfl;have f7:=AJ U1.O 7 rfl
  go_wp2_with fail
  refine(SB B A a1 a2 a3 c1 c2 c3 ae ce _ F (validB_iff.1 HV.O) (hB.below M) (hE.below M)).mono ?_;have H:=Lh A (validB_iff.1 HV.O) F;have aG:Hid (B4 B A=Av B A):=by unfold Hid B4;rw[HV.O];rfl
  have bf:Hid (F7 B A=Bc B A):=by unfold Hid F7;rw[HV.O];rfl
  obtain⟨X,HX⟩:∃X,Hid (Av B A=X):=⟨_,rfl⟩;obtain⟨c,HC⟩:∃c,Hid (Bc B A=c):=⟨_,rfl⟩;rw[HX.O]at H ⊢;rw[HC.O];rintro e w2 ⟨x1,x2,x3,d1,d2,d3,rfl,hX,Z⟩;clear e0 e1 e2 e3 f0 f1 f2 f3 f4 f5 f6 f7;have a4:X.aJ:=⟨AH H.1.1 (by decide),AH H.1.2.1 (by decide),AH H.1.2.2 (by decide)⟩;have aI:=M.trans (Z.mono M.size);have bj:w.heap.size+1+1<w1.heap.size:=(AB U2.O).1;have aE:=Z.size;have V2:Hid _:=BW Z U2.O;obtain⟨w3,am⟩:∃W,w2.alloc (.cells (qbV X x1 d1 x2 d2 x3 d3) 28)=W:=⟨_,rfl⟩;have ai:Below w2.heap.size w2 w3:=am▸AN w2 _;have Y3:Hid _:=dm w2 (.cells (qbV X x1 d1 x2 d2 x3 d3) 28);rw[am]at Y3;have aC:=aI.trans (ai.mono aI.size);have V3:Hid _:=BW ai V2.O;have bm:=hX.below ai;have g0:=AJ Y3.O 0 rfl;have g1:=AJ Y3.O 1 rfl;have g2:=AJ Y3.O 2 rfl;have g3:=AJ Y3.O 3 rfl;clear V2 U0 U1 U2 Z hX
  go_wp2_with fail
  refine(CU X x1 x2 x3 d1 d2 d3 _ a4 bm).mono ?_;rintro e w4 ⟨y1,k1,y2,k2,y3,k3,rfl,hr,aL⟩;have a9:=aC.trans (aL.mono aC.size);have V4:Hid _:=BW aL V3.O;clear g0 g1 g2 g3 V3 am Y3;have b9:w.heap.size+1+1<w3.heap.size:=AF bj (AH aE ai.size);have b3:=hr.n1;have b2:=hr.n2;have b8:=hr.n3
  go_wp2_with (first|((with_reducible show wpList _ _ _ _ _ _);refine AM rfl 28 (.tmp 4) (.tmp 19) rfl (w.heap.size+1+1) 0 (qbV X (qad y1) k1 (qad y2) k2 (qad y3) k3) rfl rfl 28 qzV V4.O FA (AD rfl) (by simp[Value.oneCell']) ?_;intro wf hz on;have RF:Hid (qBl wf (w.heap.size+1+1) (qbV X (qad y1) k1 (qad y2) k2 (qad y3) k3) 28):=hz;have aq:=a9.trans (on.below.mono (by omega));have bo:BkRow wf w.heap.size y1 y2 y3 k1 k2 k3 X:=⟨by omega,by omega,by omega,hr.af.aR (on.aB _ (by omega)),hr.ah.aR (on.aB _ (by omega)),hr.ak.aR (on.aB _ (by omega))⟩;clear hz on;have p0:=AJ RF.O 0 rfl;have p1:=AJ RF.O 1 rfl;have p2:=AJ RF.O 2 rfl;have p3:=AJ RF.O 3 rfl))
  exact dS (v:=.tuple #[.agg (qbV X (qad y1) k1 (qad y2) k2 (qad y3) k3),.int .i64 c]) (by simp[results,Tryz.results22,go_sem,p0,p1,p2,p3]) rfl ⟨_,_,_,k1,k2,k3,by rw[aG.O,HX.O,bf.O,HC.O],by rw[aG.O,HX.O];exact bo.at,aq⟩
end
section
open Go.RowKit
section
variable {RD:(Nat->Prop)->World->Nat->Nat->Prop}
abbrev ctWS:Ct:=ctV (λp:BP × ByteArray=>[p.1.v,.string p.2]) (λp=>p.1.m) (λp=>p.1.tn) λp v es=>es=[]/\∃s b,v=.tuple #[Ei s,.bool b]/\((b=true/\Ah p.1.B p.2=some s)\/(b=false/\Ah p.1.B p.2=none))
theorem wS_ct(hR:B9 RD):B7 Tryz.prog RD 43 0 ctWS:=by
 refine Ci (Aw hR) Tryz.func43 (by kernel_rfl) (by kernel_rfl) (λ_=>rfl) Fw ?_;rintro⟨⟨B,c1,c2,c3⟩,nm⟩ ⟨Y,_,_⟩;have Y:B.af.length<=1000:=Y;have key:∀(s:Svc) (b:Bool) m,((b=true/\Ah B nm=some s)\/(b=false/\Ah B nm=none))->Ep (λv es=>es=[]/\∃s b,v=.tuple #[Ei s,.bool b]/\((b=true/\Ah B nm=some s)\/(b=false/\Ah B nm=none))) (.tuple #[Ei s,.bool b]) m 0:=λs b m h=>⟨_,_,[],⟨rfl,s,b,rfl,h⟩,rfl,trivial,rfl,rfl,trivial⟩
 refine⟨λn s=>∃i:Nat,i<=B.af.length/\n=B.af.length - i/\(∀y∈B.af.take i,nmB y.name nm=false)/\s=⟨[(6,.int .i64 i),(2,.complex .f64 64 0),(4,.complex .f64 72 0),(1,.string nm)],(64,AT (D5 B c1 c2 c3) 28)::(72,AT (svL ⟨⟨#[]⟩,0,false,0,0,0,0,0,0,0,0,0,0⟩) 34)::bkM B,88,0⟩,B.af.length,⟨_,(by refine⟨[],?_,?_,rfl,rfl,AG _⟩<;>repeat' (first|exact rfl|exact trivial|exact⟨_,rfl,.same _ _ rfl⟩|apply cW)),0,by omega,by omega,(λ_ h=>(nomatch h)),rfl⟩,?_⟩;rintro n _ ⟨i,hi,rfl,J,rfl⟩;refine cW (λF=>?_) (λF=>?_)
 ·refine cW (by omega) (cW F (cW (AG _) ?_))
  intro b hb;rw[di]at hb;refine cW (λW=>?_) (λW=>?_)
  ·refine cW (by omega) (cW F (cW (AG _) ?_))
   intro b' M;rw[di,hb]at M;cases M
   have hf:Ah B nm=some b:=by
    rcases Idx.bA (B:=B) (nm:=nm) (k:=i) (.inr ⟨i,b,rfl,hb,W,J⟩) with⟨h,_⟩|⟨j,s,h,Z,h2,_⟩
    ·omega
    ·obtain rfl:i=j:=by omega
     rw[hb]at Z;cases Z;exact h2
   exact⟨.inl rfl,_,rfl,key b true _ (.inl ⟨rfl,hf⟩),rfl⟩
  ·intro n' H
   have H:n'=((i+1:Nat):Int):=by have:=H ⟨by omega,by omega⟩;omega
   subst H;exact⟨B.af.length - (i+1),by omega,_,(by refine⟨[],?_,?_,rfl,rfl,AG _⟩<;>repeat' (first|exact rfl|exact trivial|exact⟨_,rfl,.same _ _ rfl⟩|apply cW)),i+1,by omega,rfl,EU J hb W,rfl⟩
 ·have hf:Ah B nm=none:=by
   rcases Idx.bA (B:=B) (nm:=nm) (k:= -1) (.inl ⟨rfl,λx hx=>J x (by rw[er (by have:¬(i:Int)<B.af.length:=F;omega)];exact hx)⟩) with⟨_,h⟩|⟨j,s,h,_⟩
   ·exact h
   ·omega
  exact⟨.inl rfl,_,rfl,key ⟨⟨#[]⟩,0,false,0,0,0,0,0,0,0,0,0,0⟩ false _ (.inr ⟨rfl,hf⟩),rfl⟩
abbrev ctWC:Ct:=ctV (λp:BP × ByteArray × Int=>[p.1.v,.string p.2.1,.int .i64 p.2.2]) (λp=>p.1.m) (λp=>p.1.tn) λp v es=>es=[]/\∃c b,v=.tuple #[cpV c,.bool b]/\((b=true/\p.1.B.ah.find? (isC p.2.1 p.2.2)=some c)\/(b=false/\p.1.B.ah.find? (isC p.2.1 p.2.2)=none))
theorem wC_ct(hR:B9 RD):B7 Tryz.prog RD 45 0 ctWC:=by
 refine Ci (Aw hR) Tryz.func45 (by kernel_rfl) (by kernel_rfl) (λ_=>rfl) Ig ?_;rintro⟨⟨B,c1,c2,c3⟩,nm,k⟩ ⟨_,hl,_⟩;have hl:B.ah.length<=1000:=hl;have key:∀(c:Cp) (b:Bool) m,((b=true/\B.ah.find? (isC nm k)=some c)\/(b=false/\B.ah.find? (isC nm k)=none))->Ep (λv es=>es=[]/\∃c b,v=.tuple #[cpV c,.bool b]/\((b=true/\B.ah.find? (isC nm k)=some c)\/(b=false/\B.ah.find? (isC nm k)=none))) (.tuple #[cpV c,.bool b]) m 0:=λs b m h=>⟨_,_,[],⟨rfl,s,b,rfl,h⟩,rfl,trivial,rfl,rfl,trivial⟩
 refine⟨λn s=>∃i:Nat,i<=B.ah.length/\n=B.ah.length - i/\(∀y∈B.ah.take i,cpQ nm k y=false)/\s=⟨[(8,.int .i64 i),(3,.complex .f64 64 0),(6,.complex .f64 72 0),(1,.string nm),(2,.int .i64 k)],(64,AT (D5 B c1 c2 c3) 28)::(72,AT (cpL ⟨⟨#[]⟩,0,0,0,0,false,⟨#[]⟩⟩) 76)::bkM B,88,0⟩,B.ah.length,⟨_,(by refine⟨[],?_,?_,rfl,rfl,AG _⟩<;>repeat' (first|exact rfl|exact trivial|exact⟨_,rfl,.same _ _ rfl⟩|apply cW)),0,by omega,by omega,(λ_ h=>(nomatch h)),rfl⟩,?_⟩;rintro n _ ⟨i,hi,rfl,M,rfl⟩;have next:∀(b:Cp),B.ah[i]?=some b->(i:Int)<B.ah.length->cpQ nm k b=false->True:=λ_ _ _ _=>trivial
 refine cW (λJ=>?_) (λJ=>?_)
 ·refine cW (by omega) (cW J (cW (AG _) ?_))
  intro b hb;rw[di]at hb;refine cW (λY=>?_) (λY=>?_)
  ·refine cW (by omega) (cW J (cW (AG _) ?_))
   intro b' H;rw[di,hb]at H;cases H;refine cW (λW=>?_) (λW=>?_)
   ·refine cW (by omega) (cW J (cW (AG _) ?_))
    intro b' H;rw[di,hb]at H;cases H;have hq:cpQ nm k b=true:=by show(nmB _ _&&_)=true;rw[show nmB b.aa nm=true from Y,dO W];rfl
    have hf:B.ah.find? (isC nm k)=some b:=by
     rcases Idx.cp (l:=B.ah) (nm:=nm) (n:=k) (k:=i) (.inr ⟨i,b,rfl,hb,hq,M⟩) with⟨h,_⟩|⟨j,s,h,h1,h2,_⟩
     ·omega
     ·obtain rfl:i=j:=by omega
      rw[hb]at h1;cases h1;exact h2
    exact⟨.inl rfl,_,rfl,key b true _ (.inl ⟨rfl,hf⟩),rfl⟩
   ·intro Z F
    have F:Z=((i+1:Nat):Int):=by have:=F ⟨by omega,by omega⟩;omega
    subst F;exact⟨B.ah.length - (i+1),by omega,_,(by refine⟨[],?_,?_,rfl,rfl,AG _⟩<;>repeat' (first|exact rfl|exact trivial|exact⟨_,rfl,.same _ _ rfl⟩|apply cW)),i+1,by omega,rfl,EU M hb (by show(nmB _ _&&_)=false;rw[show nmB b.aa nm=true from Y,dQ W];rfl),rfl⟩
  ·intro Z F
   have F:Z=((i+1:Nat):Int):=by have:=F ⟨by omega,by omega⟩;omega
   subst F;exact⟨B.ah.length - (i+1),by omega,_,(by refine⟨[],?_,?_,rfl,rfl,AG _⟩<;>repeat' (first|exact rfl|exact trivial|exact⟨_,rfl,.same _ _ rfl⟩|apply cW)),i+1,by omega,rfl,EU M hb (by show(nmB _ _&&_)=false;rw[show nmB b.aa nm=false from Y];rfl),rfl⟩
 ·have hf:B.ah.find? (isC nm k)=none:=by
   rcases Idx.cp (l:=B.ah) (nm:=nm) (n:=k) (k:= -1) (.inl ⟨rfl,λx hx=>M x (by rw[er (by have:¬(i:Int)<B.ah.length:=J;omega)];exact hx)⟩) with⟨_,h⟩|⟨j,s,h,_⟩
   ·exact h
   ·omega
  exact⟨.inl rfl,_,rfl,key ⟨⟨#[]⟩,0,0,0,0,false,⟨#[]⟩⟩ false _ (.inr ⟨rfl,hf⟩),rfl⟩
abbrev Ra:Ct:=ctV (λp:BP=>[p.v]) (λp=>p.m) (λp=>okBk p.B) λp v es=>es=[]/\v=.bool (Ag p.B)
theorem valid_ct(hR:B9 RD):B7 Tryz.prog RD 23 0 Ra:=by
 intro w0 G w q id vs es k0 Z Y aa af _ _ hC;obtain⟨⟨B,c1,c2,c3⟩,J,F,_⟩:=hC;have F:okBk B:=F;obtain⟨W,M,ag,_,_,hM⟩:=Ld (q':=0) (r:=false) (X:=λ_=>False) hR (λ_ h=>h.elim) (λh=>nomatch h) Z af J (nt:=100) rfl;have hB:BkAt w (W.α 0) (W.α 1) (W.α 2) B:=Gw (λk hk=>(ag k hk).1) (hM 0 _ rfl).2.1 (hM 1 _ rfl).2.1 (hM 2 _ rfl).2.1 .row .row .row;have ha:(vs.map (r2 G.α)).toArray=#[.agg #[.int .i64 B.aj,.slice (W.α 0) B.af.length c1,.slice (W.α 1) B.ah.length c2,.slice (W.α 2) B.ak.length c3]]:=by rw[<-M];simp[BP.v,r2,r1,r0]
 rw[ha];have hS:B.aJ:=⟨AH F.1.1 (by decide),AH F.1.2.1 (by decide),AH F.1.2.2 (by decide)⟩;have hZ:B.aD:=⟨AH F.1.1 (by decide),AH F.1.2.1 (by decide),AH F.1.2.2 (by decide),F.2⟩;refine(Ai B _ _ _ c1 c2 c3 w hS hZ hB).mono ?_;rintro e w' ⟨rfl,hb⟩;refine LV (C:=Ra vs es id) (v:=.bool (Ag B)) (es':=[]) (β:=λ_=>none) (cost:=0) (X:=λ_=>False) (λ_ h=>h.elim) (λg hg hd=>hR _ _ _ _ _ _ _ hd (λ_ h=>h) (hb.block g (Y g hg)) (λk hk=>hb.block k (Z k hk).1) (AG _)) Z Y aa ⟨hb.os,hb.tape,hb.output,hb.size,λk hk _=>hb.block k hk⟩ rfl (λx b hx=>(nomatch hx)) (λx b y c hx hy aE=>(nomatch hx)) (f:=(id+ ·)) (λx hx=>(nomatch hx)) λk hk=>?_
 obtain⟨⟨B',al,au,az⟩,H,_,hk⟩:=hk;rw[J]at H;simp only[dw,dv,dV,BP.m,bkM,fu]at H;obtain⟨h1,h3,h4,h5⟩:=H;have h6:=BP.inj h1 h3 h4 h5;cases h6;exact hk _ _ ⟨rfl,rfl⟩
abbrev Mz:Ct:=ctV (λp:BP × ByteArray=>[p.1.v,.string p.2]) (λp=>p.1.m) (λp=>okBk p.1.B/\Ag p.1.B=true) λp v es=>es=[]/\v=IA (BD p.1.B p.2)
theorem QX(J:B9 RD):B7 Tryz.prog RD 44 0 Mz:=by
 refine Ci (AZ (AZ (Aw J) (f:=103) (by kernel_rfl) (JP J)) (f:=23) (by kernel_rfl) (valid_ct J)) Tryz.func44 (by kernel_rfl) (by kernel_rfl) (λ_=>rfl) Fw ?_;rintro⟨⟨B,c1,c2,c3⟩,nm⟩ ⟨H,hv⟩;have H:okBk B:=H;refine⟨⟨B,c1,c2,c3⟩,rfl,H,?_⟩;rintro v _ ⟨rfl,F⟩;have F:v=.bool true:=F.trans (em Value.bool hv);subst F;refine⟨(⟨B,c1,c2,c3⟩,nm),rfl,H.1,?_⟩;rintro v _ ⟨rfl,F⟩;have F:v=IA (BD B nm):=F;subst F;have key:∀m,Ep (λv es=>es=[]/\v=IA (BD B nm)) (IA (BD B nm)) m 0:=λm=>⟨_,_,[],⟨rfl,rfl⟩,rfl,trivial,rfl,rfl,trivial⟩
 exact⟨.inl rfl,_,rfl,key _,rfl⟩
end
end
end Go.Proofs.YtbceafpodamnfaaGreatDoor
