import Derived.Test.YtbceafpodamnfaaGreatDoorG27
import Derived.Test.YtbceafpodamnfaaGreatDoorG37
set_option linter.all false
set_option maxHeartbeats 8000000
set_option maxRecDepth 100000
namespace Go.Proofs.YtbceafpodamnfaaGreatDoor
section
open Go.RowKit Go.Sort
section
variable {P:Program}
theorem Cx{fn:Func}{p q:Tmp}{ty:TypeId}(h:fn.results=#[.cell p ty,.tmp q])(tmps:Array Value)(w:World)(g:Nat)(t:TypeId)(cs:Array Value)(fr:Nat × Nat)(d:TypeDesc)
  (M:tmps.getD p undef=.pointer (qad g)) (W:w.heap[g]?=some (.cells cs t fr))
  (Z:P.underlying ty=some d) (Y:(match d with| .struct _| .array _ _=>true|_=>false)=true) (J:(P.info? ty).map (·.size)=some cs.size) (v:Value) (hv:tmps.getD q undef=v):
  (results fn tmps).run P w=.ok (.tuple #[.agg cs,v]) w:=by
 have H:tmps[p]?.getD undef=.pointer (qad g):=by simpa using M
 have F:tmps[q]?.getD undef=v:=by simpa using hv
 simp[results,h,H,F,asAddr,iU w g t ty cs fr d W Z Y J]
end
theorem BkOf.bK{w w':World}{M p:Nat}{B:Bk}{b1 W F:qO}{d1 H Y:Nat}(h:BkOf w M B b1 W F d1 H Y)(on:A6 p w w')(Z:p<M):BkOf w' M B b1 W F d1 H Y:=
 ⟨h.af.aR λg _ _ J _=>on.aB g (by omega),h.ah.aR λg _ _ J _=>on.aB g (by omega),h.ak.aR λg _ _ J _=>on.aB g (by omega)⟩
theorem relp_bk{p g i:Nat}{w w':World}{M:Nat}{B:Bk}{b1 W H:qO}{d1 J Y:Nat}(h:BkOf w M B b1 W H d1 J Y)(F:MJ p g i w w')(Z:g<M):BkOf w' M B b1 W H d1 J Y:=by
 unfold MJ at F;split at F
 ·exact h.bK F Z
 ·exact h.below F
theorem Ki(w:World)(A B C:Obj):∃F,((w.alloc A).alloc B).alloc C=F/\F.heap[w.heap.size]?=some A/\F.heap[w.heap.size+1]?=some B/\F.heap[w.heap.size+1+1]?=some C/\F.heap.size=w.heap.size+3/\Below w.heap.size w F:=by
 refine⟨_,rfl,?_,?_,?_,?_,?_⟩
 ·show(((w.heap.push A).push B).push C)[w.heap.size]?=_
  rw[dk,dC (by simp<;>omega),dk,dC (by simp),dk,dB rfl]
 ·show(((w.heap.push A).push B).push C)[w.heap.size+1]?=_
  rw[dk,dC (by simp),dk,dB (by simp)]
 ·show(((w.heap.push A).push B).push C)[w.heap.size+1+1]?=_
  rw[dk,dB (by simp)]
 ·show(((w.heap.push A).push B).push C).size=_
  simp
 ·exact(((dI _ _).alloc (AG _) _).alloc (by simp) _).alloc (by simp;omega) _
theorem as_nilO(t:Value)(w:World):Calls Tryz.prog 101 #[.nilIface,t] w λe w'=>e=.returned (.bool false)/\w=w':=(as_nil t w).mono λ_ _ h=>⟨h.1,h.2.symm⟩
def AppIs(N:Nat)(X:Bk)(c:Int)(e:Ending)(w':World):Prop:=∃y1 y2 y3 z1 z2 z3,e=.returned (.tuple #[.agg (qbV X y1 z1 y2 z2 y3 z3),.int .i64 c])/\BkOf w' N X y1 y2 y3 z1 z2 z3
theorem PS(B:Bk)(A:Ac)(a1 a2 a3:qO)(c1 c2 c3:Nat)(ae:qO)(ce:Nat)(w:World)(a6:Ja w)(hV:Valid B)(bk:B.aJ)(hZ:B.aD)(hB:BkAt w a1 a2 a3 B)(hl:A.aw.length<=1048576)(hE:SlE w ae A.aw)(bR:A.aa.size<=maxLen)(bo:Hid (∀e∈A.aw,(Lit.int .i64 e.ai).wf=true)):
  Calls Tryz.prog 42 #[.agg (qbV B a1 c1 a2 c2 a3 c3),.agg (qaV A ae ce)] w λe w'=>AppIs w.heap.size (Av B A) (Bc B A) e w'/\Below w.heap.size w w':=by
 obtain⟨W0,bX,t0,t1,t2,bZ,ak⟩:=Ki w (.cells (qbV B a1 c1 a2 c2 a3 c3) 28) (.cells (qaV A ae ce) 45) (.cells qzV 28)
 have b8:0<w.heap.size:=by
  rcases gk w.heap.size with h0|h
  ·unfold Ja at a6;simp[World.cell?,h0]at a6
  ·exact h
 have T0:Hid _:=t0;have T1:Hid _:=t1;have T2:Hid _:=t2;obtain⟨M,HM⟩:∃M,M=W0.heap.size:=⟨_,rfl⟩;have cM:w.heap.size+3<=M:=by omega
 clear t0 t1 t2;have g0:=AJ T1.O 0 rfl;have g1:=AJ T1.O 1 rfl;have g2:=AJ T1.O 2 rfl;have g3:=AJ T1.O 3 rfl;have g4:=AJ T1.O 4 rfl;have g5:=AJ T1.O 5 rfl;have g6:=AJ T1.O 6 rfl;have g7:=AJ T1.O 7 rfl;have k0:=AJ T0.O 0 rfl;have k1:=AJ T0.O 1 rfl;have k2:=AJ T0.O 2 rfl;have k3:=AJ T0.O 3 rfl;go_enter Tryz.func42,Tryz.ntmps42
 go_wp2_with fail
 refine(PB B A a1 a2 a3 c1 c2 c3 ae ce _ hV bk hZ (hB.below ak) hl (hE.below ak) bR bo).mono ?_;rintro e w1 ⟨hd,au⟩;rw[<-HM]at hd au;clear g0 g1 g2 g3 g4 g5 g6 g7 k0 k1 k2 k3 bX bZ;have aK:M<=w1.heap.size:=by have:=au.size;omega
 rcases hd with⟨aS,H,J,F,z1,z2,z3,rfl,aw⟩|⟨c,a4,b4,rfl⟩
 ·have ay:=CZ aw
  have aW:Hid (Av B A=Az B A):=by unfold Hid Av;rw[aS];rfl
  have b2:Hid _:=aS;obtain⟨X,HX⟩:∃X,Hid (Az B A=X):=⟨_,rfl⟩;rw[HX.O]at ay ⊢;have T3:Hid _:=dm w1 (.cells (qbV X H z1 J z2 F z3) 28);have aa:=AN w1 (.cells (qbV X H z1 J z2 F z3) 28);obtain⟨wa,al⟩:∃W,w1.alloc (.cells (qbV X H z1 J z2 F z3) 28)=W:=⟨_,rfl⟩;rw[al]at T3 aa;have Z:=AN wa (.cells #[.int .i64 0] 153);obtain⟨wr,aq⟩:∃W,wa.alloc (.cells #[.int .i64 0] 153)=W:=⟨_,rfl⟩;rw[aq]at Z;have bl:w1.heap.size<wa.heap.size:=(AB T3.O).1;have ah:Hid _:=AK Z T3.O bl;have hx:=au.trans ((aa.mono aK).trans (Z.mono (by omega)));have aF:Hid _:=AK hx T2.O (by omega);have j0:=AJ ah.O 0 rfl;have j1:=AJ ah.O 1 rfl;have j2:=AJ ah.O 2 rfl;have j3:=AJ ah.O 3 rfl;clear aw aS
  go_wp2_with (first
   |(go_at_call 101;refine(as_nilO _ _).mono ?_;rintro e w2 ⟨rfl,rfl⟩)
   |((with_reducible show wpList _ _ _ _ _ _);refine AM rfl 28 (.tmp 4) (.tmp 22) rfl (w.heap.size+1+1) 0 (qbV X H z1 J z2 F z3) rfl rfl 28 qzV aF.O Bj (AD rfl) (by simp[Value.oneCell']) ?_;intro w3 hz on;have bY:Hid (qBl w3 (w.heap.size+1+1) (qbV X H z1 J z2 F z3) 28):=hz;have bt:Hid (A6 (w.heap.size+1+1) wr w3):=on;clear hz on))
  have kA:KeepT 28 wr w3:=.aV bt.O aF.O;have aL:=aa.trans (Z.mono (Nat.le_of_lt bl));have bM:BkOf w3 M X H J F z1 z2 z3:=⟨kA.aN (ay.O.af.below aL) (by decide),kA.aN (ay.O.ah.below aL) (by decide),kA.aN (ay.O.ak.below aL) (by decide)⟩;refine dS (v:=.tuple #[.agg (qbV X H z1 J z2 F z3),.int .i64 0]) (Cx rfl _ _ (w.heap.size+1+1) _ _ _ _ rfl bY.O Tryz.underlying28 rfl Bj _ rfl) rfl ?_;refine⟨?_,ak.trans ((hx.mono (by omega)).trans (bt.O.below.mono (by omega)))⟩;rw[aW.O,HX.O,b2.O];exact⟨H,J,F,z1,z2,z3,rfl,bM.mono (by omega)⟩
 ·have b9:Hid _:=a4
  have aW:Hid (Av B A=B):=by unfold Hid Av;rw[a4,dC b4]
  have aa:=AN w1 (.cells qzV 28);obtain⟨wa,al⟩:∃W,w1.alloc (.cells qzV 28)=W:=⟨_,rfl⟩;have T3:Hid (qBl wa (w1.heap.size) qzV 28):=by unfold Hid;rw[<-al];exact dm _ _
  rw[al]at aa
  go_upto_region 2 with((with_reducible show wpList _ _ _ _ _ _);refine AM rfl 28 (.tmp 6) (.tmp 13) rfl w1.heap.size 0 qzV rfl rfl 28 qzV T3.O Bj (AD rfl) (by simp[Value.oneCell']) ?_;intro wc hz on;have bj:Hid (A6 w1.heap.size wa wc):=on;clear hz on)
  have av:Below w1.heap.size w1 wc:=aa.trans bj.O.below;obtain⟨rb,aH⟩:∃r,r=wc.heap.size:=⟨_,rfl⟩;have T4:Hid _:=dm wc (.cells #[.int .i64 0] 153);have Z:=AN wc (.cells #[.int .i64 0] 153);obtain⟨wr,aq⟩:∃W,wc.alloc (.cells #[.int .i64 0] 153)=W:=⟨_,rfl⟩;rw[aq]at Z T4;rw[<-aH]at T4;have hx:=au.trans ((av.mono aK).trans (Z.mono (AH aK av.size)));have bN:M<=rb:=by have:=av.size;omega
  have aA:Ja wr:=by
   have h1:Below w.heap.size w wr:=ak.trans (hx.mono (by omega));exact(h1.cell (p:=⟨0,0,none⟩) b8).trans a6
  clear a4 aa al
  go_upto_region 4 with(go_at_call 101;rw[<-aH];refine(as_own c rb _ _ aA T4.O).mono ?_;rintro e w2 ⟨rfl,h3,h4⟩)
  clear aq;have aI:Below M W0 w2:=hx.trans (h4 M bN (by have:=hx.size;omega));have ax:Hid _:=AK aI T0.O (by omega);have bU:Hid _:=AK aI T2.O (by omega);have HR:Hid (qBl w2 rb #[.int .i64 c] 153):=h3;have bB:rb<w2.heap.size:=(AB h3).1;have b0:M<=w2.heap.size:=by omega
  have an:w.heap.size<w2.heap.size:=by omega
  have aM:Below w.heap.size w w2:=ak.trans (aI.mono (by omega));clear h3 h4 T4 bj av Z aA hx T3;obtain⟨wb,bH⟩:∃x,x=w2:=⟨_,rfl⟩;subst bH;refine Dj 5 4 (w.heap.size+1+1) (λW=>KeepB (w.heap.size+1+1) wb W/\∀N,N<=w.heap.size+1+1->N<=wb.heap.size->Below N wb W) (λW=>qBl W (w.heap.size+1+1) qzV 28) (by kernel_rfl) (by kernel_rfl) ⟨KeepB.refl _ _,λ_ _ _=>dI _ _⟩ bU.O (λ_ _ h hb=>⟨h.1.below hb,λN h1 h2=>(h.2 N h1 h2).trans (hb.mono (AH h2 h.1.1))⟩) (λ_ _ h on=>⟨h.1.ab on,λN h1 h2=>(h.2 N h1 h2).trans (on.below.mono h1)⟩) (λ_ _ h hb=>AK hb h (AB h).1) ?_;apply AX
  ·intro V W K AA hW hZ hd Y hK
   simp only[pA]at Y;clear hd;obtain rfl:=Y;have k0:=AJ ((hW.1.2 w.heap.size an (by omega)).trans ax.O) 0 rfl;have k1:=AJ ((hW.1.2 w.heap.size an (by omega)).trans ax.O) 1 rfl;have k2:=AJ ((hW.1.2 w.heap.size an (by omega)).trans ax.O) 2 rfl;have k3:=AJ ((hW.1.2 w.heap.size an (by omega)).trans ax.O) 3 rfl;go_wp2;exact hK.O _ brf
  refine Al (λv W=>∃H J F z1 z2 z3,v=.agg (qbV B H z1 J z2 F z3)/\BkOf W M B H J F z1 z2 z3) (λi hi v W W' ⟨H,J,F,z1,z2,z3,h1,h2⟩ hr=>⟨H,J,F,z1,z2,z3,h1,relp_bk h2 hr (by omega)⟩) ?_ ?_
  ·intro V W K AA hW hZ hd Y hK
   have d0:V 0=_:=hd 0 (by kernel_rfl);simp only[pA,d0]at Y;clear hd d0;obtain rfl:=Y
   go_wp2_with fail
   refine(Hf B a1 a2 a3 c1 c2 c3 W bk (hB.below (aM.trans (hW.2 _ (by omega) aM.size)))).mono ?_;rintro e w3 ⟨H,z1,J,z2,F,z3,rfl,hr,b5⟩;have b7:=CZ (hr.mono (AH b0 hW.1.1));clear hr;go_wp2;exact hK.O _ _ b5 ⟨H,J,F,z1,z2,z3,rfl,b7.O⟩
  apply AX
  ·intro V W K AA hW hZ hd Y hK
   simp only[pA]at Y;clear hd;obtain rfl:=Y;go_wp2;exact hK.O _ brf
  apply AX
  ·intro V W K AA hW hZ hd Y hK
   have d2:V 2=_:=hd 2 (by kernel_rfl);simp only[pA,d2]at Y;clear hd d2;obtain rfl:=Y;have r0:=AJ ((hW.1.2 rb bB (by omega)).trans HR.O) 0 rfl;rw[aH]at r0;go_wp2;exact hK.O _ brf
  refine Al (λ_ W=>∃H J F z1 z2 z3,qBl W (w.heap.size+1+1) (qbV B H z1 J z2 F z3) 28/\BkOf W M B H J F z1 z2 z3) (λi hi v W W' ⟨H,J,F,z1,z2,z3,h1,h2⟩ hr=>⟨H,J,F,z1,z2,z3,AK (Ho hi hr) h1 (AB h1).1,h2.below (Ho hi hr)⟩) ?_ ?_
  ·intro V W K AA hW hZ hd Y hK
   have d1:(λv W=>∃H J F z1 z2 z3,v=.agg (qbV B H z1 J z2 F z3)/\BkOf W M B H J F z1 z2 z3) (V 1) W:=hd 1 (by kernel_rfl);simp only[pA]at Y;clear hd;generalize V 1=x1 at d1 Y;obtain rfl:=Y;obtain⟨H,J,F,z1,z2,z3,rfl,aw⟩:=d1;have h0:=hZ rfl;refine AM rfl 28 (.tmp 4) (.tmp 19) rfl (w.heap.size+1+1) 0 (qbV B H z1 J z2 F z3) rfl rfl 28 qzV h0 Bj (AD rfl) (by simp[Value.oneCell']) ?_;intro w3 hz on;have h3:qBl w3 (w.heap.size+1+1) (qbV B H z1 J z2 F z3) 28:=hz.O;exact hK.O _ _ on ⟨H,J,F,z1,z2,z3,h3,aw.bK on (by omega)⟩
  intro V W AA hW hS Y;have d0:V 0=_:=hS 0 (by omega);have d1:(λv W=>∃H J F z1 z2 z3,v=.agg (qbV B H z1 J z2 F z3)/\BkOf W M B H J F z1 z2 z3) (V 1) W:=hS 1 (by omega);have d2:V 2=_:=hS 2 (by omega);have d3:V 3=_:=hS 3 (by omega);have d4:(λ_ W=>∃H J F z1 z2 z3,qBl W (w.heap.size+1+1) (qbV B H z1 J z2 F z3) 28/\BkOf W M B H J F z1 z2 z3) (V 4) W:=hS 4 (by omega);simp only[pA,d0,d2,d3]at Y;clear hS d0 d2 d3;generalize V 1=x1 at d1 Y;obtain rfl:=Y;simp only[dl,dF];obtain⟨u1,u2,u3,v1,v2,v3,bq,aG⟩:=d4;clear d1;have b6:Hid _:=bq;have bE:=CZ aG;have ca:=hW.2;clear bq aG hW;go_wp2;refine dS (v:=.tuple #[.agg (qbV B u1 v1 u2 v2 u3 v3),.int .i64 c]) (Cx rfl _ _ (w.heap.size+1+1) _ _ _ _ rfl b6.O Tryz.underlying28 rfl Bj _ rfl) rfl ?_;refine⟨?_,aM.trans (ca _ (by omega) (by omega))⟩;rw[aW.O,b9.O];exact⟨u1,u2,u3,v1,v2,v3,rfl,bE.O.mono (by omega)⟩
theorem Ox (B : Bk) (A : Ac) (a1 a2 a3 : Option Addr) (c1 c2 c3 : Nat) (ae : Option Addr) (ce : Nat) (w : World) (af : Ja w) (hS : B.aJ) (hZ : B.aD) (hB : BkAt w a1 a2 a3 B) (hl : A.aw.length <= 1048576) (hE : SlE w ae A.aw) (aC : A.aa.size <= maxLen) (am : Hid (Ag B = true -> ∀ e ∈ A.aw, (Lit.int .i64 e.ai).wf = true)) :
    Calls Tryz.prog 11 #[.agg (qbV B a1 c1 a2 c2 a3 c3),.agg (qaV A ae ce)] w λe w'=>
      ((Ag B=false/\e=.returned (.tuple #[.agg qzV,.int .i64 1]))\/
       (Ag B=true/\AppIs w.heap.size (Av B A) (Bc B A) e w'))/\Below w.heap.size w w':=by
  obtain⟨W0,aE,t0,t1,t2,aF,ah⟩:=Ki w (.cells (qbV B a1 c1 a2 c2 a3 c3) 28) (.cells (qaV A ae ce) 45) (.cells qzV 28)
  have aG:0<w.heap.size:=by
    rcases gk w.heap.size with h0|h
    · unfold Ja at af;simp[World.cell?,h0]at af
    · exact h
  have T0:Hid _:=t0;have T1:Hid _:=t1;have T2:Hid _:=t2;obtain⟨M,HM⟩:∃M,M=W0.heap.size:=⟨_,rfl⟩;have a8:w.heap.size+3<=M:=by omega
  clear t0 t1 t2;have k0:=AJ T0.O 0 rfl;have k1:=AJ T0.O 1 rfl;have k2:=AJ T0.O 2 rfl;have k3:=AJ T0.O 3 rfl;go_enter Tryz.func11,Tryz.ntmps11
  go_wp2_with fail
  refine(FO B a1 a2 a3 c1 c2 c3 _ hS hZ (hB.below ah)).mono ?_;rintro e w1 ⟨rfl,J⟩;rw[<-HM]at J;clear k0 k1 k2 k3 aE aF;have bf:M<=w1.heap.size:=by have:=J.size;omega
  have ai:Hid _:=AK J T2.O (by omega);have F:Below w.heap.size w w1:=ah.trans (J.mono (by omega));obtain⟨vb,W⟩:∃b,Hid (Ag B=b):=⟨_,rfl⟩;rw[W.O];cases vb
  · go_wp2_with ((with_reducible show wpList _ _ _ _ _ _);refine AM rfl 28 (.tmp 4) (.tmp 9) rfl (w.heap.size+1+1) 0 qzV rfl rfl 28 qzV ai.O Bj (AD rfl) (by simp[Value.oneCell']) ?_;intro w3 hz on;have aa:Hid (qBl w3 (w.heap.size+1+1) qzV 28):=hz;have Z:Hid (A6 (w.heap.size+1+1) w1 w3):=on;clear hz on)
    refine dS (v:=.tuple #[.agg qzV,.int .i64 1]) (Cx rfl _ _ (w.heap.size+1+1) _ _ _ _ rfl aa.O Tryz.underlying28 rfl Bj _ rfl) rfl ?_;exact⟨.inl ⟨W.O,rfl⟩,F.trans (Z.O.below.mono (by omega))⟩
  · have Y:Hid _:=AK J T0.O (by omega)
    have H:Hid _:=AK J T1.O (by omega);have k0:=AJ Y.O 0 rfl;have k1:=AJ Y.O 1 rfl;have k2:=AJ Y.O 2 rfl;have k3:=AJ Y.O 3 rfl;have g0:=AJ H.O 0 rfl;have g1:=AJ H.O 1 rfl;have g2:=AJ H.O 2 rfl;have g3:=AJ H.O 3 rfl;have g4:=AJ H.O 4 rfl;have g5:=AJ H.O 5 rfl;have g6:=AJ H.O 6 rfl;have g7:=AJ H.O 7 rfl;have ag:Ja w1:=(F.cell (p:=⟨0,0,none⟩) aG).trans af
    go_wp2_with fail
    refine(PS B A a1 a2 a3 c1 c2 c3 ae ce _ ag (validB_iff.1 W.O) hS hZ (hB.below F) hl (hE.below F) aC (am.O W.O)).mono ?_;rintro e w2 ⟨⟨y1,y2,y3,z1,z2,z3,rfl,an⟩,ar⟩;have av:=CZ an;have ak:Hid _:=AK ar ai.O (by omega);clear k0 k1 k2 k3 g0 g1 g2 g3 g4 g5 g6 g7 an;obtain⟨X,HX⟩:∃X,Hid (Av B A=X):=⟨_,rfl⟩;obtain⟨cd,aq⟩:∃c,Hid (Bc B A=c):=⟨_,rfl⟩;rw[HX.O]at av ⊢;rw[aq.O]
    go_wp2_with ((with_reducible show wpList _ _ _ _ _ _);refine AM rfl 28 (.tmp 4) (.tmp 13) rfl (w.heap.size+1+1) 0 (qbV X y1 z1 y2 z2 y3 z3) rfl rfl 28 qzV ak.O Bj (AD rfl) (by simp[Value.oneCell']) ?_;intro w3 hz on;have aa:Hid (qBl w3 (w.heap.size+1+1) (qbV X y1 z1 y2 z2 y3 z3) 28):=hz;have Z:Hid (A6 (w.heap.size+1+1) w2 w3):=on;clear hz on)
    refine dS (v:=.tuple #[.agg (qbV X y1 z1 y2 z2 y3 z3),.int .i64 cd]) (Cx rfl _ _ (w.heap.size+1+1) _ _ _ _ rfl aa.O Tryz.underlying28 rfl Bj _ rfl) rfl ?_;refine⟨.inr ⟨W.O,?_⟩,F.trans ((ar.mono F.size).trans (Z.O.below.mono (by omega)))⟩;rw[HX.O,aq.O];exact⟨y1,y2,y3,z1,z2,z3,rfl,(av.O.bK Z.O (by omega)).mono (by omega)⟩
end
end Go.Proofs.YtbceafpodamnfaaGreatDoor
