import Derived.Test.YtbceafpodamnfaaGreatDoorG38
import Derived.Test.YtbceafpodamnfaaGreatDoorG41
import Derived.Test.YtbceafpodamnfaaGreatDoorG43
set_option linter.all false
set_option maxHeartbeats 16000000
set_option maxRecDepth 100000
namespace Go.Proofs.YtbceafpodamnfaaGreatDoor
open Go.RowKit Go.Sort
theorem wf_in{n:Int}(h: -9223372036854775808<=n/\n<=9223372036854775807):(Lit.int .i64 n).wf=true:=by
 show(decide (IntKind.min .i64<=n)&&decide (n<=IntKind.max .i64))=true;have F:IntKind.min .i64= -9223372036854775808:=by decide
 have e2:IntKind.max .i64=9223372036854775807:=by decide
 rw[F,e2];simp only[cY,dM];exact h
theorem okSp.aD{B:Bk}(h:okSp B):B.aD:=⟨AH h.1.1 (by decide),AH h.1.2.1 (by decide),AH h.1.2.2 (by decide),h.2⟩
theorem okSp.aJ{B:Bk}(h:okSp B):B.aJ:=⟨AH h.1.1 (by decide),AH h.1.2.1 (by decide),AH h.1.2.2 (by decide)⟩
theorem act_is(B:Bk)(A:Ac):(Ag B=false/\F7 B A=1)\/(Ag B=true/\F7 B A≠0/\B4 B A=B)\/(Ag B=true/\F7 B A=0/\Ag (B4 B A)=true/\∃s,NH B A (B4 B A) s/\A.aw.length<=1000/\0<=(By B A s).av/\(By B A s).av<=10):=by
 unfold F7 B4
 cases hv:Ag B with
 |false=>exact .inl ⟨rfl,rfl⟩
 |true=>
  refine .inr ?_;simp only[gM];have Y:=validB_iff.1 hv;unfold Av
  by_cases H:Bc B A=0
  ·refine .inr ⟨trivial,H,?_⟩
   rw[dB H];obtain⟨hX,s,Z⟩:=nh_of Y H;obtain⟨_,_,F,_⟩:=Lb H;unfold Bg at F;simp only[cY,dM]at F;have W:=Y.bc (CQ Z.sv);refine⟨validB_iff.2 hX,s,Z,by have:=F.1.1.1.2;omega,?_⟩;show 0<=(AQ A s).av/\(AQ A s).av<=10;unfold AQ;have J:=F.1.2
   cases M:A.az with
   |true=>
    rw[M]at J;simp only[gM,cY,inB_iff]at J ⊢;exact J.1
   |false=>exact⟨W.bq,W.bH⟩
  ·exact .inl ⟨trivial,H,dC H⟩
theorem lawActs_any(ao:qO)(n cap:Nat)(w:World)(bl:Ja w)(dc:n<=cap)(hC:IC w ao n):
  Calls Tryz.prog 5 #[.slice ao n cap] w λe w'=>e=.returned (.bool true)/\Below w.heap.size w w':=by
 have d9:0<w.heap.size:=by
  rcases gk w.heap.size with h0|h
  ·unfold Ja at bl;simp[World.cell?,h0]at bl
  ·exact h
 by_cases eS:1048576<n
 ·go_enter Tryz.func5,Tryz.ntmps5
  go_wp2;go_ret;exact⟨rfl,dI _ _⟩
 have de:Hid (IC w ao n):=hC;have eb:Hid (Ja w):=bl;clear hC bl;go_enter Tryz.func5,Tryz.ntmps5
 go_upto_region 4 with(first
  |(go_at_call 21;refine(L7 ao n cap _ (by omega) dc de.O).mono ?_;rintro e w1 ⟨a1,a2,a3,c1,c2,c3,B,A,ae,ce,rfl,hB,cz,hE,aL,ci,bo,hb⟩;have cL:Hid (BkAt w1 a1 a2 a3 B):=hB;have M:Hid (okSp B):=cz;have cl:Hid (SlE w1 ae A.aw):=hE;have cm:Hid (A.aw.length<=1001/\A.aa.size<=maxLen):=⟨aL,ci⟩;have d5:Hid (∀e∈A.aw,(-9223372036854775808<=e.ai/\e.ai<=9223372036854775807)\/∃c∈B.ah,c.ai=e.ai):=bo;have bf:Hid (Below w.heap.size w w1):=hb;obtain⟨t0,t1,t2⟩:=B1 w1 (.cells qzV 28) (.cells #[.string ⟨#[]⟩,.int .i64 0,.int .i64 0,.int .i64 0,.int .i64 0,.bool false,.slice none 0 0,.bool false] 45);have VZ:Hid _:=t0;have VE:Hid _:=t1;have d1:Hid _:=t2;clear hB cz hE aL ci bo hb t0 t1 t2)
  |((with_reducible show wpList _ _ _ _ _ _);refine AM rfl 28 (.tmp 3) (.tmp 15) rfl w1.heap.size 0 (qbV B a1 c1 a2 c2 a3 c3) rfl rfl 28 qzV VZ.O AU (AD rfl) (by simp[Value.oneCell']) ?_;intro w2 c7 b9;simp only[Act.put])
  |((with_reducible show wpList _ _ _ _ _ _);refine AM rfl 45 (.tmp 4) (.tmp 16) rfl (w1.heap.size+1) 0 (qaV A ae ce) rfl rfl 45 #[.string ⟨#[]⟩,.int .i64 0,.int .i64 0,.int .i64 0,.int .i64 0,.bool false,.slice none 0 0,.bool false] ((b9.aB _ (by omega)).trans VE.O) Bh (AD rfl) (by simp[Value.oneCell']) ?_;intro w3 dd bz;simp only[Act.put]))
 obtain⟨x,hx⟩:∃x,w1.heap.size=x:=⟨_,rfl⟩;have ft:w.heap.size<=x:=by rw[<-hx];exact bf.O.size
 have aw:Below w1.heap.size w1 w3:=((((dI _ _).alloc (AG _) _).alloc (by simp) _).trans b9.below).trans (bz.below.mono (by omega));have bI:Hid (qBl w3 x (qbV B a1 c1 a2 c2 a3 c3) 28):=by unfold Hid;rw[<-hx];exact(bz.aB _ (by omega)).trans c7.O
 have bx:Hid (qBl w3 (x+1) (qaV A ae ce) 45):=by unfold Hid;rw[<-hx];exact dd.O
 have bB:Hid (BkAt w3 a1 a2 a3 B):=cL.O.below aw;have bE:Hid (SlE w3 ae A.aw):=cl.O.below aw;have bj:Hid (Below w.heap.size w w3):=bf.O.trans (aw.mono bf.O.size);rw[hx];clear VZ VE d1 cL cl bf c7 b9 dd bz de aw hx;have ag:=act_is B A;have aq:okSp (B4 B A):=ans_ok A M.O;have bb:Hid (∀W:World,BkAt W a1 a2 a3 B->SlE W ae A.aw->Calls Tryz.prog 22 #[.agg (qbV B a1 c1 a2 c2 a3 c3),.agg (qaV A ae ce)] W λe w'=>∃(H F J:qO) (p1 p2 p3:Nat),e=.returned (.tuple #[.agg #[.int .i64 (B4 B A).aj,.slice H (B4 B A).af.length p1,.slice F (B4 B A).ah.length p2,.slice J (B4 B A).ak.length p3],.int .i64 (F7 B A)])/\BkAt w' H F J (B4 B A)/\Below W.heap.size W w'):=λW h hE=>Jd B A a1 a2 a3 c1 c2 c3 ae ce W M.O h hE
 have a8:Hid (∀W:World,Ja W->BkAt W a1 a2 a3 B->SlE W ae A.aw->Calls Tryz.prog 11 #[.agg (qbV B a1 c1 a2 c2 a3 c3),.agg (qaV A ae ce)] W λe w'=>∃(H F J:qO) (p1 p2 p3:Nat),e=.returned (.tuple #[.agg #[.int .i64 (B4 B A).aj,.slice H (B4 B A).af.length p1,.slice F (B4 B A).ah.length p2,.slice J (B4 B A).ak.length p3],.int .i64 (F7 B A)])/\BkAt w' H F J (B4 B A)/\Below W.heap.size W w'):=λW hr h hE=>(Ox B A a1 a2 a3 c1 c2 c3 ae ce W hr M.O.aJ M.O.aD h (by have:=cm.O.1;omega) hE cm.O.2 (λhv e he=>wf_in ((d5.O e he).elim id λ⟨c,hc,h⟩=>h▸(validB_iff.1 hv).bJ c hc))).mono λe w' ⟨h1,h2⟩=>by
  unfold B4 F7;rcases h1 with⟨hv,rfl⟩|⟨hv,H,F,J,p1,p2,p3,rfl,hX⟩
  ·rw[hv]
   exact⟨none,none,none,0,0,0,rfl,⟨λh=>absurd rfl h,λh=>absurd rfl h,λh=>absurd rfl h⟩,h2⟩
  ·rw[hv]
   exact⟨H,F,J,p1,p2,p3,rfl,hX.at,h2⟩
 revert ag aq bb a8
 generalize B4 B A=X;generalize F7 B A=c;intro ag aq bb a8;have a9:Hid (X.aJ):=aq.aJ;have b6:Hid (okSp X):=aq;have dr:Hid _:=ag;have ec:Hid (Ja w3):=(bj.O.cell (p:=⟨0,0,none⟩) d9).trans eb.O;clear aq ag
 go_upto_region 5 with(first
  |((with_reducible show wpList _ _ _ _ _ _);refine dD rfl 28 (.tmp 3) rfl x rfl 28 (qbV B a1 c1 a2 c2 a3 c3) (0,0) _ bI.O Tryz.underlying28 rfl AU ?_)
  |((with_reducible show wpList _ _ _ _ _ _);refine dD rfl 45 (.tmp 4) rfl (x+1) rfl 45 (qaV A ae ce) (0,0) _ bx.O Tryz.underlying45 rfl Bh ?_)
  |(go_at_call 11;refine(a8.O _ ec.O bB.O bE.O).mono ?_;rintro e w4 ⟨H,F,J,p1,p2,p3,rfl,hX,hb⟩;have ct:Hid (BkAt w4 H F J X):=hX;have br:Hid (Below w3.heap.size w3 w4):=hb;have VZ:Hid ((w4.alloc (.cells qzV 28)).heap[w4.heap.size]?=some (.cells qzV 28 (0,0))):=dm w4 _;clear hX hb)
  |((with_reducible show wpList _ _ _ _ _ _);refine AM rfl 28 (.tmp 5) (.tmp 21) rfl w4.heap.size 0 (qbV X H p1 F p2 J p3) rfl rfl 28 qzV VZ.O AU (AD rfl) (by simp[Value.oneCell']) ?_;intro w5 df cr;simp only[Act.put]))
 obtain⟨y,hy⟩:∃y,w4.heap.size=y:=⟨_,rfl⟩;have aK:Below w4.heap.size w4 w5:=(AN w4 _).trans cr.below;have aa:Below w3.heap.size w3 w5:=br.O.trans (aK.mono br.O.size);have cc:Hid (qBl w5 y (qbV X H p1 F p2 J p3) 28):=by unfold Hid;rw[<-hy];exact df.O
 have bS:Hid _:=BW aa bI.O;have bU:Hid _:=BW aa bx.O;have b7:Hid (BkAt w5 a1 a2 a3 B):=bB.O.below aa;have bO:Hid (SlE w5 ae A.aw):=bE.O.below aa;have cd:Hid (BkAt w5 H F J X):=ct.O.below aK;have bX:Hid (Below w.heap.size w w5):=bj.O.trans (aa.mono bj.O.size);rw[hy];clear VZ df cr aK aa ct br bI bx bB bE bj hy
 go_upto_region 6 with(first
  |((with_reducible show wpList _ _ _ _ _ _);refine dD rfl 28 (.tmp 3) rfl x rfl 28 (qbV B a1 c1 a2 c2 a3 c3) (0,0) _ bS.O Tryz.underlying28 rfl AU ?_)
  |((with_reducible show wpList _ _ _ _ _ _);refine dD rfl 45 (.tmp 4) rfl (x+1) rfl 45 (qaV A ae ce) (0,0) _ bU.O Tryz.underlying45 rfl Bh ?_)
  |(go_at_call 22;refine(bb.O _ b7.O bO.O).mono ?_;rintro e w6 ⟨y1,y2,y3,q1,q2,q3,rfl,hX,hb⟩;have cB:Hid (BkAt w6 y1 y2 y3 X):=hX;have bH:Hid (Below w5.heap.size w5 w6):=hb;have VZ:Hid ((w6.alloc (.cells qzV 28)).heap[w6.heap.size]?=some (.cells qzV 28 (0,0))):=dm w6 _;clear hX hb)
  |((with_reducible show wpList _ _ _ _ _ _);refine AM rfl 28 (.tmp 7) (.tmp 27) rfl w6.heap.size 0 (qbV X y1 q1 y2 q2 y3 q3) rfl rfl 28 qzV VZ.O AU (AD rfl) (by simp[Value.oneCell']) ?_;intro w7 c9 cK;simp only[Act.put]))
 obtain⟨z,hz⟩:∃z,w6.heap.size=z:=⟨_,rfl⟩;have aT:Below w6.heap.size w6 w7:=(AN w6 _).trans cK.below;have Y:Below w5.heap.size w5 w7:=bH.O.trans (aT.mono bH.O.size);have aM:Hid (qBl w7 z (qbV X y1 q1 y2 q2 y3 q3) 28):=by unfold Hid;rw[<-hz];exact c9.O
 have da:Hid _:=BW Y bS.O;have cq:Hid _:=BW Y bU.O;have aC:Hid _:=BW Y cc.O;have co:Hid (BkAt w7 a1 a2 a3 B):=b7.O.below Y;have cO:Hid (SlE w7 ae A.aw):=bO.O.below Y;have bt:Hid (BkAt w7 H F J X):=cd.O.below Y;have c8:Hid (BkAt w7 y1 y2 y3 X):=cB.O.below aT;have b5:Hid (Below w.heap.size w w7):=bX.O.trans (Y.mono bX.O.size);rw[hz];clear VZ c9 cK aT Y cB bH bS cc bU b7 bO cd bX hz a8 bb;have u0:=AJ aC.O 0 rfl;have u1:=AJ aC.O 1 rfl;have u2:=AJ aC.O 2 rfl;have u3:=AJ aC.O 3 rfl;have v0:=AJ aM.O 0 rfl;have v1:=AJ aM.O 1 rfl;have v2:=AJ aM.O 2 rfl;have v3:=AJ aM.O 3 rfl
 go_upto_region 8 with(first
  |(go_at_call 13;refine(Kd X H F J y1 y2 y3 p1 p2 p3 q1 q2 q3 _ a9.O bt.O c8.O).mono ?_;rintro e w8 ⟨rfl,hb⟩;have aG:Hid _:=BW hb da.O;have bZ:Hid _:=BW hb cq.O;have bR:Hid _:=BW hb aC.O;have ay:Hid (BkAt w8 a1 a2 a3 B):=co.O.below hb;have b4:Hid (SlE w8 ae A.aw):=cO.O.below hb;have bN:Hid (BkAt w8 H F J X):=bt.O.below hb;have az:Hid (Below w.heap.size w w8):=b5.O.trans (hb.mono b5.O.size);clear hb))
 clear da aC aM cq co cO bt c8 b5 u0 u1 u2 u3 v0 v1 v2 v3;rcases dr.O with⟨hv,hc⟩|⟨hv,hc,d3⟩|⟨hv,hc,hw,s,hN,aL,cv⟩
 ·subst hc
  go_wp2_with (first
   |((with_reducible show wpList _ _ _ _ _ _);refine dD rfl 28 (.tmp 3) rfl x rfl 28 (qbV B a1 c1 a2 c2 a3 c3) (0,0) _ Z.O Tryz.underlying28 rfl AU ?_)
   |((with_reducible show wpList _ _ _ _ _ _);refine dD rfl 28 (.tmp 3) rfl x rfl 28 (qbV B a1 c1 a2 c2 a3 c3) (0,0) _ aG.O Tryz.underlying28 rfl AU ?_)
   |(go_at_call 24;refine(FO B a1 a2 a3 c1 c2 c3 _ M.O.aJ M.O.aD aE.O).mono ?_;rintro e wa ⟨rfl,hb⟩;rw[hv];have cM:Hid _:=BW hb Z.O;have cN:Hid _:=BW hb bi.O;have au:Hid _:=BW hb aH.O;have db:Hid (BkAt wa a1 a2 a3 B):=aE.O.below hb;have cg:Hid (SlE wa ae A.aw):=bk.O.below hb;have bM:Hid (BkAt wa H F J X):=aF.O.below hb;have aA:Hid (Below w.heap.size w wa):=al.O.trans (hb.mono al.O.size);clear hb)
   |(go_at_call 23;refine(Ai B a1 a2 a3 c1 c2 c3 _ M.O.aJ M.O.aD ay.O).mono ?_;rintro e w9 ⟨rfl,hb⟩;rw[hv];have Z:Hid _:=BW hb aG.O;have bi:Hid _:=BW hb bZ.O;have aH:Hid _:=BW hb bR.O;have aE:Hid (BkAt w9 a1 a2 a3 B):=ay.O.below hb;have bk:Hid (SlE w9 ae A.aw):=b4.O.below hb;have aF:Hid (BkAt w9 H F J X):=bN.O.below hb;have al:Hid (Below w.heap.size w w9):=az.O.trans (hb.mono az.O.size);clear hb;have b0:=AJ Z.O 0 rfl;have b1:=AJ Z.O 1 rfl;have b2:=AJ Z.O 2 rfl;have b3:=AJ Z.O 3 rfl))
  go_ret;exact⟨rfl,aA.O⟩
 ·have fv:(c==0)=false:=by rw[eL];exact hc
  subst d3
  go_wp2_with (first
   |((with_reducible show wpList _ _ _ _ _ _);refine dD rfl 28 (.tmp 3) rfl x rfl 28 (qbV X a1 c1 a2 c2 a3 c3) (0,0) _ Z.O Tryz.underlying28 rfl AU ?_)
   |((with_reducible show wpList _ _ _ _ _ _);refine dD rfl 28 (.tmp 5) rfl y rfl 28 (qbV X H p1 F p2 J p3) (0,0) _ aH.O Tryz.underlying28 rfl AU ?_)
   |((with_reducible show wpList _ _ _ _ _ _);refine dD rfl 28 (.tmp 3) rfl x rfl 28 (qbV X a1 c1 a2 c2 a3 c3) (0,0) _ aG.O Tryz.underlying28 rfl AU ?_)
   |(go_at_call 23;refine(Ai X a1 a2 a3 c1 c2 c3 _ M.O.aJ M.O.aD ay.O).mono ?_;rintro e w9 ⟨rfl,hb⟩;rw[hv];have Z:Hid _:=BW hb aG.O;have bi:Hid _:=BW hb bZ.O;have aH:Hid _:=BW hb bR.O;have aE:Hid (BkAt w9 a1 a2 a3 X):=ay.O.below hb;have bk:Hid (SlE w9 ae A.aw):=b4.O.below hb;have aF:Hid (BkAt w9 H F J X):=bN.O.below hb;have al:Hid (Below w.heap.size w w9):=az.O.trans (hb.mono az.O.size);clear hb)
   |(go_at_call 13;refine(Kd X H F J a1 a2 a3 p1 p2 p3 c1 c2 c3 _ a9.O aF.O aE.O).mono ?_;rintro e wa ⟨rfl,hb⟩;have aA:Hid (Below w.heap.size w wa):=al.O.trans (hb.mono al.O.size);clear hb))
  go_ret;exact⟨rfl,aA.O⟩
 ·subst hc
  have HN:Hid (NH B A X s):=hN;have ch:Hid (A.aw.length<=1000/\0<=(By B A s).av/\(By B A s).av<=10):=⟨aL,cv⟩;clear hN aL cv
  go_wp2_with (first
   |((with_reducible show wpList _ _ _ _ _ _);refine dD rfl 28 (.tmp 3) rfl x rfl 28 (qbV B a1 c1 a2 c2 a3 c3) (0,0) _ aI.O Tryz.underlying28 rfl AU ?_)
   |((with_reducible show wpList _ _ _ _ _ _);refine dD rfl 45 (.tmp 4) rfl (x+1) rfl 45 (qaV A ae ce) (0,0) _ ai.O Tryz.underlying45 rfl Bh ?_)
   |((with_reducible show wpList _ _ _ _ _ _);refine dD rfl 28 (.tmp 5) rfl y rfl 28 (qbV X H p1 F p2 J p3) (0,0) _ a4.O Tryz.underlying28 rfl AU ?_)
   |((with_reducible show wpList _ _ _ _ _ _);refine dD rfl 28 (.tmp 5) rfl y rfl 28 (qbV X H p1 F p2 J p3) (0,0) _ au.O Tryz.underlying28 rfl AU ?_)
   |((with_reducible show wpList _ _ _ _ _ _);refine dD rfl 28 (.tmp 5) rfl y rfl 28 (qbV X H p1 F p2 J p3) (0,0) _ aH.O Tryz.underlying28 rfl AU ?_)
   |((with_reducible show wpList _ _ _ _ _ _);refine dD rfl 28 (.tmp 3) rfl x rfl 28 (qbV B a1 c1 a2 c2 a3 c3) (0,0) _ aG.O Tryz.underlying28 rfl AU ?_)
   |(go_at_call 24;refine(FO X H F J p1 p2 p3 _ a9.O b6.O.aD aF.O).mono ?_;rintro e wa ⟨rfl,hb⟩;rw[hw];have cM:Hid _:=BW hb Z.O;have cN:Hid _:=BW hb bi.O;have au:Hid _:=BW hb aH.O;have db:Hid (BkAt wa a1 a2 a3 B):=aE.O.below hb;have cg:Hid (SlE wa ae A.aw):=bk.O.below hb;have bM:Hid (BkAt wa H F J X):=aF.O.below hb;have aA:Hid (Below w.heap.size w wa):=al.O.trans (hb.mono al.O.size);clear hb;have u0:=AJ au.O 0 rfl;have u1:=AJ au.O 1 rfl;have u2:=AJ au.O 2 rfl;have u3:=AJ au.O 3 rfl)
   |(go_at_call 23;refine(Ai X H F J p1 p2 p3 _ a9.O b6.O.aD bM.O).mono ?_;rintro e wb ⟨rfl,hb⟩;rw[hw];have aI:Hid _:=BW hb cM.O;have ai:Hid _:=BW hb cN.O;have a4:Hid _:=BW hb au.O;have d6:Hid (BkAt wb a1 a2 a3 B):=db.O.below hb;have ee:Hid (SlE wb ae A.aw):=cg.O.below hb;have dx:Hid (BkAt wb H F J X):=bM.O.below hb;have cb:Hid (Below w.heap.size w wb):=aA.O.trans (hb.mono aA.O.size);clear hb;have b0:=AJ aI.O 0 rfl;have b1:=AJ aI.O 1 rfl;have b2:=AJ aI.O 2 rfl;have b3:=AJ aI.O 3 rfl;have e0:=AJ ai.O 0 rfl;have e1:=AJ ai.O 1 rfl;have e2:=AJ ai.O 2 rfl;have e3:=AJ ai.O 3 rfl;have e4:=AJ ai.O 4 rfl;have e5:=AJ ai.O 5 rfl;have e6:=AJ ai.O 6 rfl;have e7:=AJ ai.O 7 rfl;have v0:=AJ a4.O 0 rfl;have v1:=AJ a4.O 1 rfl;have v2:=AJ a4.O 2 rfl;have v3:=AJ a4.O 3 rfl)
   |(go_at_call 23;refine(Ai B a1 a2 a3 c1 c2 c3 _ M.O.aJ M.O.aD ay.O).mono ?_;rintro e w9 ⟨rfl,hb⟩;rw[hv];have Z:Hid _:=BW hb aG.O;have bi:Hid _:=BW hb bZ.O;have aH:Hid _:=BW hb bR.O;have aE:Hid (BkAt w9 a1 a2 a3 B):=ay.O.below hb;have bk:Hid (SlE w9 ae A.aw):=b4.O.below hb;have aF:Hid (BkAt w9 H F J X):=bN.O.below hb;have al:Hid (Below w.heap.size w w9):=az.O.trans (hb.mono az.O.size);clear hb)
   |(go_at_call 12;refine(P6 B X A s a1 a2 a3 H F J c1 c2 c3 p1 p2 p3 ae ce _ M.O b6.O (validB_iff.1 hv) (validB_iff.1 hw) ch.O.1 ch.O.2 HN.O d6.O ee.O dx.O).mono ?_;rintro e wc ⟨rfl,hb⟩;have d0:Hid (Below w.heap.size w wc):=cb.O.trans (hb.mono cb.O.size);clear hb))
  go_ret;exact⟨rfl,d0.O⟩
end Go.Proofs.YtbceafpodamnfaaGreatDoor
