import Derived.Test.YtbceafpodamnfaaGreatDoorG26
import Derived.Test.YtbceafpodamnfaaGreatDoorG28
set_option linter.all false
set_option maxHeartbeats 8000000
set_option maxRecDepth 100000
namespace Go.Proofs.YtbceafpodamnfaaGreatDoor
section
open Go.RowKit Go.Sort
theorem mayL_R(B:Bk)(s:Svc)(sv:qB)(c:Cp):FY B s sv c=LE s c (BM s.ar sv B.ah B.ah.length).ready:=by
 unfold FY LE;cases c.au<;>cases (c.ax !=3)<;>cases s.aH<;>rfl
theorem Valid.wfC{B:Bk}(h:Valid B):wfC B:=λc M=>by
 obtain⟨s,J,F⟩:=h.bA M;have H:=h.bc (CQ J);have Y:=H.br;have W:=H.bI;unfold FP at F;simp only[cY,inB_iff]at F;have e:wrap64 (s.next - 1)=s.next - 1:=by unfold wrap64;omega
 rw[e]at F;exact gS (by omega)
end
section
open Go.RowKit
theorem Lk{f:Nat->Bool}{n:Nat}(h:BI f n=true)(i:Nat)(F:i<n):f i=true:=by
 unfold BI at h;exact dh.1 h i (dA.2 F)
theorem adj{α:Type}{r:α->α->Bool}{l:List α}(h:l.Pairwise λa b=>r a b=true){k:Nat}{s:α}(J:l[k]?=some s):k=0\/∀p,l[k - 1]?=some p->r p s=true:=by
 cases k with
 |zero=>exact .inl rfl
 |succ k=>
  obtain⟨hk,e2⟩:=AC J;have F:=gb.1 h k (k+1) (by omega) hk (by omega);rw[e2]at F;have M:l[k+1 - 1]?=some (l[k]'(by omega)):=dj (by omega);refine .inr λp H=>?_
  rw[M]at H;cases H;exact F
theorem valid_mk{B:Bk}(Y:0<=B.aj)(Z:B.aj<=1000000)(ls:B.af.length<=8)(lc:B.ah.length<=200)(lb:B.ak.length<=6)(M:∀s∈B.af,svcB B.aj s=true)(os:B.af.Pairwise λa b=>Op.bytesLess a.name.toList b.name.toList=true)(hb:∀t∈B.ak,DB t.name=true)(J:B.ak.Pairwise λa b=>Op.bytesLess a.name.toList b.name.toList=true)(H:∀c∈B.ah,cpB B c=true)(W:B.ah.Pairwise λa b=>Ak a b=true):Ag B=true:=by
 refine validB_iff.2 ⟨inB_iff.2 ⟨Y,Z⟩,ls,lc,lb,CH λi _=>?_,CH λi _=>?_,CH λi _=>?_⟩
 ·unfold A7
  cases h:B.af[i]? with
  |none=>rfl
  |some s=>
   rw[cY];refine⟨M s (AE h),?_⟩;rcases adj (r:=λa b:Svc=>Op.bytesLess a.name.toList b.name.toList) os h with e|e
   ·subst e;rfl
   ·cases F:B.af[i - 1]? with
    |none=>simp
    |some p=>
     have:=e p F;simp only[this,iZ]
 ·unfold B8
  cases h:B.ak[i]? with
  |none=>rfl
  |some s=>
   rw[cY];refine⟨hb s (AE h),?_⟩;rcases adj (r:=λa b:Bt=>Op.bytesLess a.name.toList b.name.toList) J h with e|e
   ·subst e;rfl
   ·cases F:B.ak[i - 1]? with
    |none=>simp
    |some p=>
     have:=e p F;simp only[this,iZ]
 ·unfold A5
  cases h:B.ah[i]? with
  |none=>rfl
  |some s=>
   rw[cY];refine⟨H s (AE h),?_⟩;rcases adj (r:=Ak) W h with e|e
   ·subst e;rfl
   ·cases F:B.ah[i - 1]? with
    |none=>simp
    |some p=>
     have:=e p F;simp only[this,iZ]
theorem Valid.pwC{B:Bk}(h:Valid B):B.ah.Pairwise λa b=>Ak a b=true:=gb.2 λi j H J F=>JO (KS h.ah) j i _ _ F (dj H) (dj J)
theorem Valid.pwS{B:Bk}(h:Valid B):B.af.Pairwise λa b=>Op.bytesLess a.name.toList b.name.toList=true:=gb.2 λi j H J F=>Iv (Lk h.af) j i _ _ F (dj H) (dj J)
theorem Valid.pwB{B:Bk}(h:Valid B):B.ak.Pairwise λa b=>Op.bytesLess a.name.toList b.name.toList=true:=gb.2 λi j H J F=>Le (Lk h.ak) j i _ _ F (dj H) (dj J)
theorem Valid.cQ{B:Bk}(h:Valid B){t:Bt}(H:t∈B.ak):DB t.name=true:=by
 obtain⟨i,F⟩:=ef H;have:=Lk h.ak i (AC F).1;unfold B8 at this;rw[F]at this;simp only[cY]at this;exact this.1
theorem Rs{a b:Int}{s:Svc}(h:svcB a s=true)(F:a<=b):svcB b s=true:=by
 unfold svcB at h ⊢;simp only[cY]at h ⊢;obtain⟨⟨⟨⟨⟨⟨⟨⟨J,H⟩,h3⟩,Z⟩,h5⟩,Y⟩,W⟩,h8⟩,M⟩:=h;exact⟨⟨⟨⟨⟨⟨⟨⟨J,inB_iff.2 ⟨(inB_iff.1 H).1,Int.le_trans (inB_iff.1 H).2 F⟩⟩,h3⟩,Z⟩,h5⟩,Y⟩,W⟩,h8⟩,M⟩
def cKey(c:Cp):ByteArray × Int:=(c.aa,c.ai)
theorem pw_key{l m:List Cp}(h:l.map cKey=m.map cKey)(H:l.Pairwise λa b=>Ak a b=true):m.Pairwise λa b=>Ak a b=true:=by
 have F:(l.map cKey).Pairwise (λp q=>(Op.bytesLess p.1.toList q.1.toList||(p.1.toList==q.1.toList&&decide (p.2<q.2)))=true):=g9.2 H;rw[h]at F;exact g9.1 F
end
section
open Go.RowKit Go.Sort Go.Maps
theorem N2:(Tryz.prog.info? 3).map (λi=>(i.zero,i.size,i.bytes))=some (some (.int .i64 0),1,8):=by kernel_rfl
theorem Ls:(Tryz.prog.info? 48).map (·.size)=some 1:=by kernel_rfl
section
variable {P:Program}
theorem Hl{ops:Array Oper}{rest:List Oper}{o:Oper}{a:Act}{w:World}{Q:Exit->Act->World->Prop}(ak:o.guard=none)(s x:Operand)(t:TypeId)
  (ho:o.op=.call {callee:=.builtin .append,args:=#[s,x],argTypes:=#[t,t]})
  (F:Nat) (e:TypeId) (z:Value) (size bytes:Nat) (ht:P.underlying t=some (.slice e)) (aa:(P.info? e).map (λi=>(i.zero,i.size,i.bytes))=some (some z,size,bytes)) (au:z.cells.size=size) (ar:0<size)
  (v:Value) (n:Nat) (xs:qL) (hs:a.eval s=v) (M:w.ownsRow F e size v n xs)
  (ad:Addr) (c:Nat) (H:qL) (hx:a.eval x=.slice (some ad) 1 c) (hl:H.length=1*size) (Z:∀j u,H[j]?=some u->w.cell? (ad.add j)=some u) (h1:∀u∈H,u.oneCell'=true)
  (ah:n+1<=maxLen) (W:(n+1)*bytes<=140737488355328) (Y:F<=w.heap.size)
  (h:∀g cap w',F<=g->Hid (w'.ownsRow F e size (.slice (qad g) (n+1) cap) (n+1) (xs++H))->Below F w w'->KeepT e w w'->wpList P ops Q rest (a.put o.dst (.slice (qad g) (n+1) cap)) w'):wpList P ops Q (o::rest) a w:=by
 obtain⟨i,hi,hz,aq,hb⟩:=gA aa;refine je w ak s x t ho F e i z size bytes ht hi hz aq hb au ar v n xs hs M ad 1 c H hx hl Z h1 ah W Y λv' w' ag J _=>?_
 have al:Below F w w':=⟨J.os,J.tape,J.output,J.size,λk hk=>J.block k (by omega) (λe'=>by have:=(M.lt k e'.symm).1;omega)⟩
 have am:KeepT e w w':=⟨J.size,λk hk av=>J.block k hk λe'=>by
  rcases M.2 with⟨rfl,_⟩|⟨g,cap,an,rfl,_,hg,_⟩
  ·simp[Value.ownBlock]at e'
  ·simp[Value.ownBlock]at e'
   subst e'
   exact av _ _ hg⟩
 rcases ag.2 with⟨_,h0⟩|⟨g,cap,an,rfl,ai,_⟩
 ·omega
 ·exact h g cap w' ai ag al am
end
theorem CopiesAt.aZ{e:TypeId}{w w':World}{b:Nat}{B:Bk}{k:Nat}(h:CopiesAt w b B k)(hk:KeepT e w w'):CopiesAt w' b B k:=by
 obtain⟨n,D,J,⟨es,F,H,r⟩,M⟩:=id h;exact h.aR (hk.map H)
theorem CopiesAt.bL{w w':World}{b:Nat}{B:Bk}{k:Nat}(h:CopiesAt w b B k)(hk:Below w.heap.size w w'):CopiesAt w' b B k:=h.aR (hk.block b h.lt)
def C5(X:Bk)(A:Ac):List Int:=A.aw.map λe=>IX X.ah A.aa e.ai
theorem SE{X:Bk}{A:Ac}{j:Nat}{e:En}{i:Int}(h:A.aw[j]?=some e)(F:IX X.ah A.aa e.ai=i):CP ((C5 X A).take (j+1))=CP ((C5 X A).take j)++[.int .i64 i]:=by
 have:(C5 X A)[j]?=some i:=by unfold C5;rw[eh,h];simp[F]
 rw[eW,this];simp[CP]
theorem GQ(X:Bk)(A:Ac):(C5 X A).length=A.aw.length:=by simp[C5]
def Qp(N g:Nat)(A:Ac)(ae:qO)(ce:Nat)(X:Bk)(e:Ending)(w':World):Prop:=
 (∃(k:Nat) (s:Svc),X.af[k]?=some s/\Ah X A.aa=some s/\A.aw.all (Cr X A)=true/\e=.returned (.tuple #[])/\WkAt w' N g A ae ce X k (C5 X A))\/
 ((Ah X A.aa=none\/A.aw.all (Cr X A)=false)/\e=.panicked (Mc 3))
theorem SH(A:Ac)(ae:qO)(ce:Nat)(X:Bk)(N g:Nat)(w:World)(HF:Hid (Ah X A.aa=none))(hV:Valid X)(Y:X.aJ)(hZ:X.aD)(an:A.aa.size<=maxLen)(hN:N<=w.heap.size)(aK:WkAt w N g A ae ce X 0 []):
  Calls Tryz.prog 185 #[.pointer (qad g)] w λe w'=>Qp N g A ae ce X e w'/\Below N w w':=by
 obtain⟨b1,b2,b3,d1,d2,d3,ve,a6,hg,ay,ar⟩:=aK;have hU:HD X:=IE hV.af;have aH:OD X:=OC hV.ak;have aL:=CZ ay;have HG:Hid _:=hg;have a7:Hid (w.ownsRow N 3 1 ve 0 (CP [])):=ar;have af:g<w.heap.size:=(AB hg).1;clear ay hg ar;go_enter Tryz.func185,Tryz.ntmps185
 go_upto_region 0 with fail
 refine AV 16 (by kernel_rfl) (by kernel_rfl) ?_;apply AL
 ·intro V W K A M H F J
  simp only[pA]at F;clear H;obtain rfl:=F;go_wp2;exact J.O _ brf
 apply AL
 ·intro V W K A M H F J
  have d0:V 0=_:=H 0 (by kernel_rfl);simp only[pA,d0]at F;clear H d0;obtain rfl:=F;go_wp2;exact J.O _ brf
 apply AL
 ·intro V W K A M H F J
  have d1:V 1=_:=H 1 (by kernel_rfl);simp only[pA,d1]at F;clear H d1;obtain rfl:=F;go_wp2;exact J.O _ brf
 apply AL
 ·intro V W K A M H F J
  have d2:V 2=_:=H 2 (by kernel_rfl);simp only[pA,d2]at F;clear H d2;obtain rfl:=F;have e8:=AJ (AK M HG.O af) 8 rfl;have e9:=AJ (AK M HG.O af) 9 rfl;have a8:=AJ (AK M HG.O af) 10 rfl;have bi:=AJ (AK M HG.O af) 11 rfl;go_wp2;exact J.O _ brf
 refine AW (λv W=>∃m,v=.map (some m)/\PlacesX W m X X.af.length X.ak.length) (λv W W2 ⟨m,h1,h2⟩ hb=>⟨m,h1,h2.below hb h2.lt⟩) ?_ ?_
 ·intro V W K A M H F J
  have d3:V 3=_:=H 3 (by kernel_rfl);simp only[pA,d3]at F;clear H d3;obtain rfl:=F
  go_wp2_with fail
  refine(K1 X _ _ _ d1 d2 d3 _ Y hZ hU aH (aL.O.at.below M)).mono ?_;rintro e w3 ⟨rfl,aC,aI⟩;have aF:Hid _:=aC;clear aC;go_wp2;exact J.O _ _ aI ⟨_,rfl,aF.O⟩
 apply AL
 ·intro V W K A M H F J
  simp only[pA]at F;clear H;obtain rfl:=F;go_wp2;exact J.O _ brf
 apply AL
 ·intro V W K A M H F J
  have d5:V 5=_:=H 5 (by kernel_rfl);simp only[pA,d5]at F;clear H d5;obtain rfl:=F;go_wp2;exact J.O _ brf
 apply AL
 ·intro V W K A M H F J
  have d6:V 6=_:=H 6 (by kernel_rfl);simp only[pA,d6]at F;clear H d6;obtain rfl:=F;go_wp2;exact J.O _ brf
 apply AL
 ·intro V W K A M H F J
  have d7:V 7=_:=H 7 (by kernel_rfl);simp only[pA,d7]at F;clear H d7;obtain rfl:=F;go_wp2;exact J.O _ brf
 apply AL
 ·intro V W K A M H F J
  have d8:V 8=_:=H 8 (by kernel_rfl);simp only[pA,d8]at F;clear H d8;obtain rfl:=F;have e0:=AJ (AK M HG.O af) 0 rfl;go_wp2;exact J.O _ brf
 apply AL
 ·intro V W K A M H F J
  have d9:V 9=_:=H 9 (by kernel_rfl);simp only[pA,d9]at F;clear H d9;obtain rfl:=F;go_wp2;exact J.O _ brf
 apply AL
 ·intro V W K A M H F J
  have d4:(λv W=>∃m,v=.map (some m)/\PlacesX W m X X.af.length X.ak.length) (V 4) W:=H 4 (by kernel_rfl);have ah:V 10=_:=H 10 (by kernel_rfl);simp only[pA,ah]at F;clear H ah;generalize V 4=x4 at d4 F;obtain rfl:=F;obtain⟨m,rfl,n,D,hn,al,q1,q2,_,_⟩:=d4;have HH:Hid (Maps.has D (key 1 A.aa)=false):=q1 A.aa an (Eh HF.O);have HA:Hid (D.atKey (key 1 A.aa) (.lit (.int .i64 0))=.lit (.int .i64 0)):=atKey_of_not_has HH.O _;clear q1 q2
  go_wp2_with (at_lookup;refine Ao _ rfl (.tmp 14) (.tmp 20) 141 rfl 181 3 .i64 thingLaw Tryz.underlying141 Tryz.underlying3 (Ck _) m n D rfl al _ _ rfl (Cn 1 A.aa wf1 an) 0 false HA.O HH.O ?_)
  exact J.O _ brf
 apply AL
 ·intro V W K A M H F J
  have aa:V 11=_:=H 11 (by kernel_rfl);simp only[pA,aa]at F;clear H aa;obtain rfl:=F;go_wp2;exact J.O _ brf
 apply AL
 ·intro V W K A M H F J
  have Z:V 12=_:=H 12 (by kernel_rfl);simp only[pA,Z]at F;clear H Z;obtain rfl:=F;go_wp2;exact J.O _ brf
 apply AL
 ·intro V W K A M H F J
  have Z:V 12=_:=H 12 (by kernel_rfl);simp only[pA,Z]at F;clear H Z;obtain rfl:=F;go_wp2;exact J.O _ brf
 apply AL
 ·intro V W K A M H F J
  have ag:V 13=_:=H 13 (by kernel_rfl);simp only[pA,ag]at F;clear H ag;obtain rfl:=F;go_wp2;exact J.O _ brf
 intro V W A M Y F;have d0:V 0=_:=Y 0 (by omega);have d1:V 1=_:=Y 1 (by omega);have d2:V 2=_:=Y 2 (by omega);have d3:V 3=_:=Y 3 (by omega);have d4:(λv W=>∃m,v=.map (some m)/\PlacesX W m X X.af.length X.ak.length) (V 4) W:=Y 4 (by omega);have d5:V 5=_:=Y 5 (by omega);have d6:V 6=_:=Y 6 (by omega);have d7:V 7=_:=Y 7 (by omega);have d8:V 8=_:=Y 8 (by omega);have d9:V 9=_:=Y 9 (by omega);have ah:V 10=_:=Y 10 (by omega);have aa:V 11=_:=Y 11 (by omega);have Z:V 12=_:=Y 12 (by omega);have ag:V 13=_:=Y 13 (by omega);have aq:V 14=_:=Y 14 (by omega);have am:V 15=_:=Y 15 (by omega);simp only[pA,d0,d1,d2,d3,d5,d6,d7,d8,d9,ah,aa,Z,ag,aq,am]at F;clear Y d0 d1 d2 d3 d5 d6 d7 d8 d9 ah aa Z ag aq am;generalize V 4=x4 at d4 F;obtain rfl:=F;simp only[dl,dF];clear d4
 go_wp2_with (go_at_call 183;refine(Ce 3 _).mono ?_;rintro e w2 ⟨rfl,rfl⟩)
 exact⟨rfl,.inr ⟨.inl HF.O,rfl⟩,M.mono hN⟩
theorem SG(A:Ac)(ae:qO)(ce:Nat)(X:Bk)(N g:Nat)(w:World)(s:Svc)(k:Nat)(HK:Hid (X.af[k]?=some s))(ec:Hid (s.name=A.aa))(HF:Hid (Ah X A.aa=some s))(cr:Hid (∀e∈A.aw,(Lit.int .i64 e.ai).wf=true))(hl:A.aw.length<=1048576)(HE:Hid (∀W,Below N w W->SlE W ae A.aw))(hV:Valid X)(Y:X.aJ)(hZ:X.aD)(a5:A.aa.size<=maxLen)(hN:N<=w.heap.size)(ds:WkAt w N g A ae ce X 0 []):
  Calls Tryz.prog 185 #[.pointer (qad g)] w λe w'=>Qp N g A ae ce X e w'/\Below N w w':=by
 obtain⟨b1,b2,b3,d1,d2,d3,ve,aW,hg,aK,aH⟩:=ds;have hU:HD X:=IE hV.af;have db:OD X:=OC hV.ak;have aE:=CZ aK;have HG:Hid _:=hg;have aA:Hid (w.ownsRow N 3 1 ve 0 (CP [])):=aH;have ai:g<w.heap.size:=(AB hg).1;clear aK hg aH;have ee:k<X.af.length:=(AC HK.O).1;go_enter Tryz.func185,Tryz.ntmps185
 go_upto_region 0 with fail
 refine AV 16 (by kernel_rfl) (by kernel_rfl) ?_;apply AL
 ·intro V W K A M H F J
  simp only[pA]at F;clear H;obtain rfl:=F;go_wp2;exact J.O _ brf
 apply AL
 ·intro V W K A M H F J
  have d0:V 0=_:=H 0 (by kernel_rfl);simp only[pA,d0]at F;clear H d0;obtain rfl:=F;go_wp2;exact J.O _ brf
 apply AL
 ·intro V W K A M H F J
  have d1:V 1=_:=H 1 (by kernel_rfl);simp only[pA,d1]at F;clear H d1;obtain rfl:=F;go_wp2;exact J.O _ brf
 apply AL
 ·intro V W K A M H F J
  have d2:V 2=_:=H 2 (by kernel_rfl);simp only[pA,d2]at F;clear H d2;obtain rfl:=F;have e8:=AJ (AK M HG.O ai) 8 rfl;have e9:=AJ (AK M HG.O ai) 9 rfl;have b9:=AJ (AK M HG.O ai) 10 rfl;have ct:=AJ (AK M HG.O ai) 11 rfl;go_wp2;exact J.O _ brf
 refine AW (λv W=>∃m,v=.map (some m)/\PlacesX W m X X.af.length X.ak.length) (λv W W2 ⟨m,h1,h2⟩ hb=>⟨m,h1,h2.below hb h2.lt⟩) ?_ ?_
 ·intro V W K A M H F J
  have d3:V 3=_:=H 3 (by kernel_rfl);simp only[pA,d3]at F;clear H d3;obtain rfl:=F
  go_wp2_with fail
  refine(K1 X _ _ _ d1 d2 d3 _ Y hZ hU db (aE.O.at.below M)).mono ?_;rintro e w3 ⟨rfl,aC,a6⟩;have c7:Hid _:=aC;clear aC;go_wp2;exact J.O _ _ a6 ⟨_,rfl,c7.O⟩
 apply AL
 ·intro V W K A M H F J
  simp only[pA]at F;clear H;obtain rfl:=F;go_wp2;exact J.O _ brf
 apply AL
 ·intro V W K A M H F J
  have d5:V 5=_:=H 5 (by kernel_rfl);simp only[pA,d5]at F;clear H d5;obtain rfl:=F;go_wp2;exact J.O _ brf
 apply AL
 ·intro V W K A M H F J
  have d6:V 6=_:=H 6 (by kernel_rfl);simp only[pA,d6]at F;clear H d6;obtain rfl:=F;go_wp2;exact J.O _ brf
 apply AL
 ·intro V W K A M H F J
  have d7:V 7=_:=H 7 (by kernel_rfl);simp only[pA,d7]at F;clear H d7;obtain rfl:=F;go_wp2;exact J.O _ brf
 apply AL
 ·intro V W K A M H F J
  have d8:V 8=_:=H 8 (by kernel_rfl);simp only[pA,d8]at F;clear H d8;obtain rfl:=F;have e0:=AJ (AK M HG.O ai) 0 rfl;go_wp2;exact J.O _ brf
 apply AL
 ·intro V W K A M H F J
  have d9:V 9=_:=H 9 (by kernel_rfl);simp only[pA,d9]at F;clear H d9;obtain rfl:=F;go_wp2;exact J.O _ brf
 apply AL
 ·intro V W K A M H F J
  have d4:(λv W=>∃m,v=.map (some m)/\PlacesX W m X X.af.length X.ak.length) (V 4) W:=H 4 (by kernel_rfl);have Z:V 10=_:=H 10 (by kernel_rfl);simp only[pA,Z]at F;clear H Z;generalize V 4=x4 at d4 F;obtain rfl:=F;obtain⟨m,rfl,n,D,hn,al,q1,q2,_,_⟩:=d4;have am:=q2 k s ee HK.O;rw[ec.O]at am;have HH:Hid (Maps.has D (key 1 A.aa)=true):=am.1;have HA:Hid (D.atKey (key 1 A.aa) (.lit (.int .i64 0))=.lit (.int .i64 (k:Int))):=am.2;clear q1 q2 am
  go_wp2_with (at_lookup;refine Ao _ rfl (.tmp 14) (.tmp 20) 141 rfl 181 3 .i64 thingLaw Tryz.underlying141 Tryz.underlying3 (Ck _) m n D rfl al _ _ rfl (Cn 1 A.aa wf1 a5) (k:Int) true HA.O HH.O ?_)
  exact J.O _ brf
 apply AL
 ·intro V W K A M H F J
  have aa:V 11=_:=H 11 (by kernel_rfl);simp only[pA,aa]at F;clear H aa;obtain rfl:=F;go_wp2;exact J.O _ brf
 apply AL
 ·intro V W K A M H F J
  have af:V 12=_:=H 12 (by kernel_rfl);simp only[pA,af]at F;clear H af;obtain rfl:=F;go_wp2;exact J.O _ brf
 apply AL
 ·intro V W K A M H F J
  have af:V 12=_:=H 12 (by kernel_rfl);simp only[pA,af]at F;clear H af;obtain rfl:=F;go_wp2;exact J.O _ brf
 apply AL
 ·intro V W K A M H F J
  have ak:V 13=_:=H 13 (by kernel_rfl);simp only[pA,ak]at F;clear H ak;obtain rfl:=F;go_wp2;exact J.O _ brf
 intro V W A M Y F;have d0:V 0=_:=Y 0 (by omega);have d1:V 1=_:=Y 1 (by omega);have d2:V 2=_:=Y 2 (by omega);have d3:V 3=_:=Y 3 (by omega);have d4:(λv W=>∃m,v=.map (some m)/\PlacesX W m X X.af.length X.ak.length) (V 4) W:=Y 4 (by omega);have d5:V 5=_:=Y 5 (by omega);have d6:V 6=_:=Y 6 (by omega);have d7:V 7=_:=Y 7 (by omega);have d8:V 8=_:=Y 8 (by omega);have d9:V 9=_:=Y 9 (by omega);have Z:V 10=_:=Y 10 (by omega);have aa:V 11=_:=Y 11 (by omega);have af:V 12=_:=Y 12 (by omega);have ak:V 13=_:=Y 13 (by omega);have cl:V 14=_:=Y 14 (by omega);have b5:V 15=_:=Y 15 (by omega);simp only[pA,d0,d1,d2,d3,d5,d6,d7,d8,d9,Z,aa,af,ak,cl,b5]at F;clear Y d0 d1 d2 d3 d5 d6 d7 d8 d9 Z aa af ak cl b5;generalize V 4=x4 at d4 F;obtain rfl:=F;simp only[dl,dF];clear d4;have ay:Hid _:=AK M HG.O ai;have a4:=CZ (aE.O.below M);have bk:Hid (W.ownsRow N 3 1 ve 0 (CP [])):=CK aA.O M;have bm:Below N w W:=M.mono hN;have bi:N<=W.heap.size:=AH hN M.size;clear M HG aE aA ai
 go_upto_region 3 with(first
  |(go_at_call 183;refine(CV 3 _).mono ?_;rintro e w2 ⟨rfl,rfl⟩)
  |((with_reducible show wpList _ _ _ _ _ _);refine BC rfl 3 (.tmp 29) (.tmp 27) rfl g 12 (.int .i64 (k:Int)) rfl rfl CG rfl rfl 227 #[.string A.aa,.int .i64 A.aF,.int .i64 A.am,.int .i64 A.av,.int .i64 A.ay,.bool A.az,.slice ae A.aw.length ce,.bool A.drop,.int .i64 X.aj,.slice b1 X.af.length d1,.slice b2 X.ah.length d2,.slice b3 X.ak.length d3,.int .i64 0,ve] ay.O (AD rfl) ?_;intro w1 hz on;have az:Hid (qBl w1 g #[.string A.aa,.int .i64 A.aF,.int .i64 A.am,.int .i64 A.av,.int .i64 A.ay,.bool A.az,.slice ae A.aw.length ce,.bool A.drop,.int .i64 X.aj,.slice b1 X.af.length d1,.slice b2 X.ah.length d2,.slice b3 X.ak.length d3,.int .i64 (k:Int),ve] 227):=hz;have aL:Hid (A6 g W w1):=on;clear hz on))
 have k1:KeepT 227 W w1:=.aV aL.O ay.O;have bN:=CZ (a4.O.ab aL.O ay.O (by decide) (by decide) (by decide));have cb:Hid (w1.ownsRow N 3 1 ve 0 (CP [])):=k1.aQ bk.O (by decide);have ch:Below N w w1:=bm.trans (aL.O.below.mono aW);have cd:N<=w1.heap.size:=by have:=aL.O.size;omega
 have bz:g<w1.heap.size:=(AB az.O).1;clear aL ay a4 bk bm bi k1;have e8:=AJ az.O 8 rfl;have e9:=AJ az.O 9 rfl;have b9:=AJ az.O 10 rfl;have ct:=AJ az.O 11 rfl
 go_upto_region 4 with(go_at_call 246;go_loud (refine(LY X b1 b2 b3 d1 d2 d3 _ Y hZ hV.wfC (uniqC_of hV.ah) bN.O.at).mono ?_;rintro e w2 ⟨rfl,aC,aM⟩;clear e8 e9 b9 ct))
 obtain⟨m,HM⟩:∃m,Hid (m=w1.heap.size+1):=⟨_,rfl⟩;rw[<-HM.O]at aC ⊢;have cf:Hid (CopiesAt w2 m X X.ah.length):=aC;have bE:Hid _:=AK aM az.O bz;have ci:Hid (WkAt w2 N g A ae ce X k ((C5 X A).take 0)):=⟨b1,b2,b3,d1,d2,d3,ve,aW,bE.O,bN.O.below aM,CK cb.O aM⟩;have bt:Below N w w2:=ch.trans (aM.mono cd);have e6:=AJ bE.O 6 rfl;clear aC aM bN cb ch cd bz az;go_wp2;clear e6 bE
 go_loopw [41] (λiv wr=>∃j:Nat,j<=A.aw.length/\iv=.int .i64 j/\Hid (WkAt wr N g A ae ce X k ((C5 X A).take j))/\Hid (CopiesAt wr m X X.ah.length)/\Hid (∀i e,i<j->A.aw[i]?=some e->Cr X A e=true)/\Below N w wr) (λiv _=>A.aw.length - (intOf iv).toNat)
 case atStart=>exact⟨0,AI _,rfl,ci,cf,λi e h=>absurd h (gr _),bt⟩
 case round=>
  clear ci cf bt;obtain⟨j,hj,rfl,bS,co,aG,hb⟩:=hrel
  by_cases ai:j<A.aw.length
  ·obtain⟨en,a7⟩:∃x,A.aw[j]?=some x:=⟨A.aw[j],by simp[ai]⟩
   have cv:A.aw≠[]:=by intro h;rw[h]at ai;simp at ai
   obtain⟨b,off,ea,fk,b6⟩:=HE.O wr hb cv;subst ea;have hq:=b6 j en a7;have a9:Hid _:=cr.O en (AE a7);have aT:Hid _:=a7;unfold EnAt at hq;obtain⟨q0,q1⟩:=hq;obtain⟨b1,b2,b3,d1,d2,d3,ve,_,hg,aK,aH⟩:=bS.O;have HG:Hid _:=hg;have aE:=CZ aK;have aA:Hid _:=aH;have bO:g<wr.heap.size:=(AB hg).1;have T0:Hid _:=dm wr (.cells (#[.int .i64 en.ai,.int .i64 en.aF]:Array Value) 88);have an:=AN wr (.cells (#[.int .i64 en.ai,.int .i64 en.aF]:Array Value) 88);obtain⟨wa,bI⟩:∃W,wr.alloc (.cells (#[.int .i64 en.ai,.int .i64 en.aF]:Array Value) 88)=W:=⟨_,rfl⟩;rw[bI]at T0 an;clear b6 cv a7 hg aK aH bS;have bZ:Below N w wa:=hb.trans (an.mono (AH hN hb.size));have bf:Hid _:=AK an HG.O bO;have cL:=CZ (aE.O.below an);have HJ:((C5 X A).take j).length=j:=by rw[dG,GQ];omega
   rw[HJ]at aA;have b7:Hid (wa.ownsRow N 3 1 ve j (CP ((C5 X A).take j))):=CK aA.O an;have a8:Hid (CopiesAt wa m X X.ah.length):=co.O.bL an;have bl:g<wa.heap.size:=AF bO an.size;have bM:wr.heap.size<wa.heap.size:=(AB T0.O).1;have bj:N<=wa.heap.size:=by omega
   clear HG aE aA co bO HJ an
   cases hf:X.ah.find? (isC A.aa en.ai) with
   |none=>
    have eb:Hid (A.aw.all (Cr X A)=false):=by
     unfold Hid;rw[jd];exact⟨en,AE aT.O,by simp[Cr,hf]⟩
    have de:Hid (∀(i:Nat) c,i<X.ah.length->X.ah[i]?=some c->¬(c.aa=A.aa/\c.ai=en.ai)):=λi c _ hc hh=>by
     rw[fP]at hf;exact hf c (AE hc) (isC_iff.2 hh)
    clear hf
    go_upto_region 7 with fail
    clear bI q0 q1;refine AV 14 (by kernel_rfl) (by kernel_rfl) ?_;apply AL
    ·intro V W K A M H F J
     simp only[pA]at F;clear H;obtain rfl:=F;go_wp2;exact J.O _ brf
    apply AL
    ·intro V W K A M H F J
     simp only[pA]at F;clear H;obtain rfl:=F;go_wp2;exact J.O _ brf
    apply AL
    ·intro V W K A M H F J
     have d1:V 1=_:=H 1 (by kernel_rfl);simp only[pA,d1]at F;clear H d1;obtain rfl:=F;go_wp2;exact J.O _ brf
    apply AL
    ·intro V W K A M H F J
     have d2:V 2=_:=H 2 (by kernel_rfl);simp only[pA,d2]at F;clear H d2;obtain rfl:=F;go_wp2;exact J.O _ brf
    apply AL
    ·intro V W K A M H F J
     have d3:V 3=_:=H 3 (by kernel_rfl);simp only[pA,d3]at F;clear H d3;obtain rfl:=F;go_wp2;exact J.O _ brf
    apply AL
    ·intro V W K A M H F J
     have d4:V 4=_:=H 4 (by kernel_rfl);simp only[pA,d4]at F;clear H d4;obtain rfl:=F;have e0:=AJ (AK M bf.O bl) 0 rfl;go_wp2;exact J.O _ brf
    apply AL
    ·intro V W K A M H F J
     simp only[pA]at F;clear H;obtain rfl:=F;go_wp2;exact J.O _ brf
    apply AL
    ·intro V W K A M H F J
     have d6:V 6=_:=H 6 (by kernel_rfl);simp only[pA,d6]at F;clear H d6;obtain rfl:=F;have t0:=AJ (AK M T0.O bM) 0 rfl;go_wp2;exact J.O _ brf
    apply AL
    ·intro V W K A M H F J
     have d5:V 5=_:=H 5 (by kernel_rfl);have d7:V 7=_:=H 7 (by kernel_rfl);simp only[pA,d5,d7]at F;clear H d5 d7;obtain rfl:=F;go_wp2;exact J.O _ brf
    apply AL
    ·intro V W K A M H F J
     have d0:V 0=_:=H 0 (by kernel_rfl);have d8:V 8=_:=H 8 (by kernel_rfl);simp only[pA,d0,d8]at F;clear H d0 d8;obtain rfl:=F;obtain⟨n,D,hn,al,q1,q2⟩:=a8.O.bL M;have HH:Hid (Maps.has D (F8 A.aa en.ai)=false):=q1 A.aa en.ai a5 a9.O de.O;have HA:Hid (D.atKey (F8 A.aa en.ai) (.lit (.int .i64 0))=.lit (.int .i64 0)):=atKey_of_not_has HH.O _;clear q1 q2
     go_wp2_with (at_lookup;refine Ao _ rfl (.tmp 46) (.tmp 54) 287 rfl 290 3 .i64 numLaw Tryz.underlying287 Tryz.underlying3 (Ck _) m n D rfl al _ _ rfl (IS A.aa en.ai a9.O a5) 0 false HA.O HH.O ?_)
     exact J.O _ brf
    apply AL
    ·intro V W K A M H F J
     have d9:V 9=_:=H 9 (by kernel_rfl);simp only[pA,d9]at F;clear H d9;obtain rfl:=F;go_wp2;exact J.O _ brf
    apply AL
    ·intro V W K A M H F J
     have Z:V 10=_:=H 10 (by kernel_rfl);simp only[pA,Z]at F;clear H Z;obtain rfl:=F;go_wp2;exact J.O _ brf
    apply AL
    ·intro V W K A M H F J
     have Z:V 10=_:=H 10 (by kernel_rfl);simp only[pA,Z]at F;clear H Z;obtain rfl:=F;go_wp2;exact J.O _ brf
    apply AL
    ·intro V W K A M H F J
     have aa:V 11=_:=H 11 (by kernel_rfl);simp only[pA,aa]at F;clear H aa;obtain rfl:=F;go_wp2;exact J.O _ brf
    intro V W A M Y F;have d0:V 0=_:=Y 0 (by omega);have d1:V 1=_:=Y 1 (by omega);have d2:V 2=_:=Y 2 (by omega);have d3:V 3=_:=Y 3 (by omega);have d4:V 4=_:=Y 4 (by omega);have d5:V 5=_:=Y 5 (by omega);have d6:V 6=_:=Y 6 (by omega);have d7:V 7=_:=Y 7 (by omega);have d8:V 8=_:=Y 8 (by omega);have d9:V 9=_:=Y 9 (by omega);have Z:V 10=_:=Y 10 (by omega);have aa:V 11=_:=Y 11 (by omega);have af:V 12=_:=Y 12 (by omega);have ak:V 13=_:=Y 13 (by omega);simp only[pA,d0,d1,d2,d3,d4,d5,d6,d7,d8,d9,Z,aa,af,ak]at F;clear Y d0 d1 d2 d3 d4 d5 d6 d7 d8 d9 Z aa af ak;obtain rfl:=F;simp only[dl,dF];clear a9 aT aG
    go_wp2_with (go_at_call 183;refine(Ce 3 _).mono ?_;rintro e w2 ⟨rfl,rfl⟩)
    exact⟨rfl,.inr ⟨.inr eb.O,rfl⟩,bZ.trans (M.mono bj)⟩
   |some c=>
    obtain⟨ic,bX,bx⟩:∃i:Nat,X.ah[i]?=some c/\IX X.ah A.aa en.ai=(i:Int):=Co hf;have bY:ic<X.ah.length:=(AC bX).1;have c6:Hid _:=bX;have da:Hid _:=bx;have cq:Hid _:=isC_iff.1 (fN hf);have df:Hid (Cr X A en=true):=by unfold Hid Cr;rw[hf];rfl
    clear hf bX bx
    go_upto_region 7 with fail
    clear bI q0 q1;refine AV 14 (by kernel_rfl) (by kernel_rfl) ?_;apply AL
    ·intro V W K A M H F J
     simp only[pA]at F;clear H;obtain rfl:=F;go_wp2;exact J.O _ brf
    apply AL
    ·intro V W K A M H F J
     simp only[pA]at F;clear H;obtain rfl:=F;go_wp2;exact J.O _ brf
    apply AL
    ·intro V W K A M H F J
     have d1:V 1=_:=H 1 (by kernel_rfl);simp only[pA,d1]at F;clear H d1;obtain rfl:=F;go_wp2;exact J.O _ brf
    apply AL
    ·intro V W K A M H F J
     have d2:V 2=_:=H 2 (by kernel_rfl);simp only[pA,d2]at F;clear H d2;obtain rfl:=F;go_wp2;exact J.O _ brf
    apply AL
    ·intro V W K A M H F J
     have d3:V 3=_:=H 3 (by kernel_rfl);simp only[pA,d3]at F;clear H d3;obtain rfl:=F;go_wp2;exact J.O _ brf
    apply AL
    ·intro V W K A M H F J
     have d4:V 4=_:=H 4 (by kernel_rfl);simp only[pA,d4]at F;clear H d4;obtain rfl:=F;have e0:=AJ (AK M bf.O bl) 0 rfl;go_wp2;exact J.O _ brf
    apply AL
    ·intro V W K A M H F J
     simp only[pA]at F;clear H;obtain rfl:=F;go_wp2;exact J.O _ brf
    apply AL
    ·intro V W K A M H F J
     have d6:V 6=_:=H 6 (by kernel_rfl);simp only[pA,d6]at F;clear H d6;obtain rfl:=F;have t0:=AJ (AK M T0.O bM) 0 rfl;go_wp2;exact J.O _ brf
    apply AL
    ·intro V W K A M H F J
     have d5:V 5=_:=H 5 (by kernel_rfl);have d7:V 7=_:=H 7 (by kernel_rfl);simp only[pA,d5,d7]at F;clear H d5 d7;obtain rfl:=F;go_wp2;exact J.O _ brf
    apply AL
    ·intro V W K A M H F J
     have d0:V 0=_:=H 0 (by kernel_rfl);have d8:V 8=_:=H 8 (by kernel_rfl);simp only[pA,d0,d8]at F;clear H d0 d8;obtain rfl:=F;obtain⟨n,D,hn,al,q1,q2⟩:=a8.O.bL M;have am:=q2 ic c bY c6.O;rw[cq.O.1,cq.O.2]at am;have HH:Hid (Maps.has D (F8 A.aa en.ai)=true):=am.1;have HA:Hid (D.atKey (F8 A.aa en.ai) (.lit (.int .i64 0))=.lit (.int .i64 (ic:Int))):=am.2;clear q1 q2 am
     go_wp2_with (at_lookup;refine Ao _ rfl (.tmp 46) (.tmp 54) 287 rfl 290 3 .i64 numLaw Tryz.underlying287 Tryz.underlying3 (Ck _) m n D rfl al _ _ rfl (IS A.aa en.ai a9.O a5) (ic:Int) true HA.O HH.O ?_)
     exact J.O _ brf
    apply AL
    ·intro V W K A M H F J
     have d9:V 9=_:=H 9 (by kernel_rfl);simp only[pA,d9]at F;clear H d9;obtain rfl:=F;go_wp2;exact J.O _ brf
    apply AL
    ·intro V W K A M H F J
     have Z:V 10=_:=H 10 (by kernel_rfl);simp only[pA,Z]at F;clear H Z;obtain rfl:=F;go_wp2;exact J.O _ brf
    apply AL
    ·intro V W K A M H F J
     have Z:V 10=_:=H 10 (by kernel_rfl);simp only[pA,Z]at F;clear H Z;obtain rfl:=F;go_wp2;exact J.O _ brf
    apply AL
    ·intro V W K A M H F J
     have aa:V 11=_:=H 11 (by kernel_rfl);simp only[pA,aa]at F;clear H aa;obtain rfl:=F;go_wp2;exact J.O _ brf
    intro V W A M Y F;have d0:V 0=_:=Y 0 (by omega);have d1:V 1=_:=Y 1 (by omega);have d2:V 2=_:=Y 2 (by omega);have d3:V 3=_:=Y 3 (by omega);have d4:V 4=_:=Y 4 (by omega);have d5:V 5=_:=Y 5 (by omega);have d6:V 6=_:=Y 6 (by omega);have d7:V 7=_:=Y 7 (by omega);have d8:V 8=_:=Y 8 (by omega);have d9:V 9=_:=Y 9 (by omega);have Z:V 10=_:=Y 10 (by omega);have aa:V 11=_:=Y 11 (by omega);have af:V 12=_:=Y 12 (by omega);have ak:V 13=_:=Y 13 (by omega);simp only[pA,d0,d1,d2,d3,d4,d5,d6,d7,d8,d9,Z,aa,af,ak]at F;clear Y d0 d1 d2 d3 d4 d5 d6 d7 d8 d9 Z aa af ak;obtain rfl:=F;simp only[dl,dF];have ay:Hid _:=AK M bf.O bl;have a4:=CZ (cL.O.below M);have bk:Hid (W.ownsRow N 3 1 ve j (CP ((C5 X A).take j))):=CK b7.O M;have dc:Hid (CopiesAt W m X X.ah.length):=a8.O.bL M;have bm:=bZ.trans (M.mono bj);have bi:N<=W.heap.size:=AH bj M.size;clear bf cL b7 a8 bl bM bj bZ M T0;have dd:=AJ ay.O 13 rfl
    go_wp2_with (first
     |(go_at_call 183;refine(CV 3 _).mono ?_;rintro e w2 ⟨rfl,rfl⟩)
     |(at_builtin;refine Hl rfl (.tmp 64) (.tmp 66) 48 rfl N 3 _ 1 8 Tryz.underlying48 N2 rfl (by omega) ve j _ rfl (CK bk.O (AN W _)) ⟨W.heap.size,0,none⟩ 1 [.int .i64 (ic:Int)] rfl rfl (FX (dm W _)) (λu hu=>by simp at hu;subst hu;rfl) (by unfold maxLen;omega) (by omega) (AH bi (AN W _).size) ?_;intro ge cap w3 e5 bU a6 b8;have aI:Hid (KeepT 3 W w3):=(KeepT.ba (AN W _)).trans b8;have dp:Hid (Below N W w3):=((AN W _).mono bi).trans a6;have cK:Hid _:=aI.O.aR ay.O (by decide);clear dd b8 a6)
     |((with_reducible show wpList _ _ _ _ _ _);refine BC rfl 48 (.tmp 69) (.tmp 67) rfl g 13 (.slice (qad ge) (j+1) cap) rfl rfl Ls rfl rfl 227 #[.string A.aa,.int .i64 A.aF,.int .i64 A.am,.int .i64 A.av,.int .i64 A.ay,.bool A.az,.slice (some ⟨b,off,none⟩) A.aw.length ce,.bool A.drop,.int .i64 X.aj,.slice b1 X.af.length d1,.slice b2 X.ah.length d2,.slice b3 X.ak.length d3,.int .i64 (k:Int),ve] cK.O (AD rfl) ?_;intro w4 hz on;have c8:Hid (qBl w4 g #[.string A.aa,.int .i64 A.aF,.int .i64 A.am,.int .i64 A.av,.int .i64 A.ay,.bool A.az,.slice (some ⟨b,off,none⟩) A.aw.length ce,.bool A.drop,.int .i64 X.aj,.slice b1 X.af.length d1,.slice b2 X.ah.length d2,.slice b3 X.ak.length d3,.int .i64 (k:Int),.slice (qad ge) (j+1) cap] 227):=hz;have cc:Hid (A6 g w3 w4):=on;clear hz on))
    go_roundw
    case rel=>
     have k4:KeepT 227 w3 w4:=.aV cc.O cK.O;have cB:((C5 X A).take (j+1)).length=j+1:=by rw[dG,GQ];omega
     refine⟨j+1,ai,by go_num,⟨b1,b2,b3,d1,d2,d3,_,aW,c8.O,?_,?_⟩,(dc.O.aZ aI.O).aZ k4,?_,bm.trans (dp.O.trans (cc.O.below.mono aW))⟩
     ·have hB:=a4.O
      exact⟨k4.aN (aI.O.aN hB.af (by decide)) (by decide),k4.aN (aI.O.aN hB.ah (by decide)) (by decide),k4.aN (aI.O.aN hB.ak (by decide)) (by decide)⟩
     ·rw[cB,SE aT.O da.O]
      exact k4.aQ bU.O (by decide)
     ·intro i e hi he
      by_cases c9:i=j
      ·subst c9
       have:=aT.O;rw[he]at this;obtain rfl:=dg this;exact df.O
      ·exact aG.O i e (by omega) he
    case measure=>simp[intOf];omega
  ·have dx:j=A.aw.length:=by omega
   subst dx;go_wp2
   go_end0
   refine⟨.inl ⟨k,s,HK.O,HF.O,dh.2 λe he=>?_,rfl,?_⟩,hb⟩
   ·obtain⟨i,hi,dq⟩:=List.getElem_of_mem he
    exact aG.O i e hi (by rw[dj hi,dq])
   ·have:=bS.O
    rwa [er (by rw[GQ];exact AG _)]at this
theorem find_any(A:Ac)(ae:qO)(ce:Nat)(X:Bk)(N g:Nat)(w:World)(J:Hid (∀e∈A.aw,(Lit.int .i64 e.ai).wf=true))(hl:A.aw.length<=1048576)(HE:Hid (∀W,Below N w W->SlE W ae A.aw))(hV:Valid X)(Z:X.aJ)(hZ:X.aD)(H:A.aa.size<=maxLen)(Y:N<=w.heap.size)(F:WkAt w N g A ae ce X 0 []):
  Calls Tryz.prog 185 #[.pointer (qad g)] w λe w'=>Qp N g A ae ce X e w'/\Below N w w':=by
 cases hf:Ah X A.aa with
 |none=>exact SH A ae ce X N g w hf hV Z hZ H Y F
 |some s=>
  obtain⟨k,_,hk,M⟩:=Fg hf;exact SG A ae ce X N g w s k hk M hf J hl HE hV Z hZ H Y F
end
section
open Go.RowKit Go.Sort
theorem I6{w:World}{N:Nat}{e:TypeId}{size:Nat}{v:Value}{n:Nat}{xs:qL}(h:w.ownsRow N e size v n xs):∃ao cap,v=.slice ao n cap/\(n=0\/∃ge,ao=some ⟨ge,0,none⟩/\N<=ge/\RowIs w e size ge n cap xs):=by
 obtain⟨Y,Z⟩:=h;rcases Z with⟨rfl,rfl⟩|⟨g,cap,H,rfl,F,M,hn,_,W,J⟩
 ·exact⟨none,0,rfl,.inl rfl⟩
 ·exact⟨_,cap,rfl,.inr ⟨g,rfl,F,Y,hn,H,M,W,J⟩⟩
theorem O8{X:Bk}{A:Ac}(h:A.aw.all (Cr X A)=true){j:Nat}{e:En}(M:A.aw[j]?=some e):∃(i:Nat) (c:Cp),X.ah[i]?=some c/\IX X.ah A.aa e.ai=(i:Int)/\X.ah.find? (isC A.aa e.ai)=some c/\(C5 X A)[j]?=some (i:Int):=by
 have J:=dh.1 h e (AE M);unfold Cr at J;obtain⟨c,H⟩:=Option.isSome_iff_exists.1 J;obtain⟨i,W,F⟩:=Co H;exact⟨i,c,W,F,H,by unfold C5;rw[eh,M];exact em some F⟩
def SeenIs(N g:Nat)(A:Ac)(ae:qO)(ce:Nat)(X:Bk)(s:Svc)(k:Nat)(e:Ending)(w':World):Prop:=
 ((s.ag==A.aF&&A.aw.all (CD X A))=true/\e=.returned (.tuple #[])/\WkAt w' N g A ae ce X k (C5 X A))\/
 ((s.ag==A.aF&&A.aw.all (CD X A))=false/\e=.panicked (Mc 4))
theorem L9(A:Ac)(ae:qO)(ce:Nat)(X:Bk)(s:Svc)(N g k:Nat)(w:World)(bY:X.aJ)(hl:A.aw.length<=1048576)(br:X.af.length<=1048576)(hN:N<=w.heap.size)(hk:X.af[k]?=some s)(bU:Hid (A.aw.all (Cr X A)=true))(HE:Hid (∀W,Below N w W->SlE W ae A.aw))(Y:WkAt w N g A ae ce X k (C5 X A)):
  Calls Tryz.prog 186 #[.pointer (qad g)] w λe w'=>SeenIs N g A ae ce X s k e w'/\Below N w w':=by
 have b0:=GR Y;obtain⟨_,b8,_⟩:=bY;obtain⟨b1,b2,b3,d1,d2,d3,ve,ct,hg,aC,aM⟩:=Y;have bo:k<X.af.length:=(AC hk).1;obtain⟨g1,e1,cL,aA⟩:=aC.af.some (by omega);subst e1;obtain⟨n1,bI⟩:∃n,Hid (X.af.length=n):=⟨_,rfl⟩;obtain⟨n2,aH⟩:∃n,Hid (X.ah.length=n):=⟨_,rfl⟩;obtain⟨n3,bM⟩:∃n,Hid (X.ak.length=n):=⟨_,rfl⟩;obtain⟨ne,bj⟩:∃n,Hid ((C5 X A).length=n):=⟨_,rfl⟩;obtain⟨r2,r3⟩:RowN w N 76 7 b2 X.ah.length d2 (Ar X.ah)/\RowN w N 90 2 b3 X.ak.length d3 (CN X.ak):=⟨aC.ah,aC.ak⟩;clear aC;rw[bI.O]at aA hg bo br;rw[aH.O]at r2 hg;rw[bM.O]at r3 hg;rw[bj.O]at aM;have HK:Hid _:=hk;have HG:Hid _:=hg;have bO:Hid (RowIs w 34 13 g1 n1 d1 (Ab X.af)):=aA;have cb:=BU r2;have dq:=BU r3;have bH:Hid (w.ownsRow N 3 1 ve ne (CP (C5 X A))):=aM;have al:g<w.heap.size:=(AB hg).1;have bq:g1<w.heap.size:=aA.lt;clear hk hg aA r2 r3 aM;have bm:ne=A.aw.length:=by rw[<-bj.O,GQ]
 rw[aH.O]at b8;obtain⟨vb,aL⟩:∃b,Hid ((s.ag==A.aF)=b):=⟨_,rfl⟩;have cf:Hid (SvcAt w g1 (k*13) s):=bO.O.bC HK.O;go_enter Tryz.func186,Tryz.ntmps186
 go_upto_region 0 with fail
 refine AV 11 (by kernel_rfl) (by kernel_rfl) ?_;apply AL
 ·intro V W K A M H F J
  simp only[pA]at F;clear H;obtain rfl:=F;go_wp2;exact J.O _ brf
 refine AW (λv W=>v=.pointer (some ⟨g1,k*13,none⟩)) (λ_ _ _ h _=>h) ?_ ?_
 ·intro V W K A M H F J
  have d0:V 0=_:=H 0 (by kernel_rfl);simp only[pA,d0]at F;clear H d0;obtain rfl:=F
  go_wp2_with fail
  refine(DT A ae ce X.aj g g1 n1 d1 k _ _ _ W bo br (AK M HG.O al)).mono ?_;rintro e w2 ⟨rfl,b5⟩;go_wp2;exact J.O _ _ b5 rfl
 apply AL
 ·intro V W K A M H F J
  have d1:(λv W=>v=.pointer (some ⟨g1,k*13,none⟩)) (V 1) W:=H 1 (by kernel_rfl);simp only[pA]at F;clear H;generalize V 1=x1 at d1 F;obtain rfl:=F;obtain rfl:=d1;go_wp2;exact J.O _ brf
 apply AL
 ·intro V W K A M H F J
  have d2:V 2=_:=H 2 (by kernel_rfl);simp only[pA,d2]at F;clear H d2;obtain rfl:=F;go_wp2;exact J.O _ brf
 apply AL
 ·intro V W K A M H F J
  have d3:V 3=_:=H 3 (by kernel_rfl);simp only[pA,d3]at F;clear H d3;obtain rfl:=F;have hq:=cf.O.below M bq;unfold SvcAt at hq;obtain⟨q0,q1,q2,q3,q4,q5,q6,q7,q8,q9,c5,cB,c9⟩:=hq;go_wp2;exact J.O _ brf
 apply AL
 ·intro V W K A M H F J
  simp only[pA]at F;clear H;obtain rfl:=F;go_wp2;exact J.O _ brf
 apply AL
 ·intro V W K A M H F J
  have d5:V 5=_:=H 5 (by kernel_rfl);simp only[pA,d5]at F;clear H d5;obtain rfl:=F;go_wp2;exact J.O _ brf
 apply AL
 ·intro V W K A M H F J
  have d6:V 6=_:=H 6 (by kernel_rfl);simp only[pA,d6]at F;clear H d6;obtain rfl:=F;go_wp2;exact J.O _ brf
 apply AL
 ·intro V W K A M H F J
  have d7:V 7=_:=H 7 (by kernel_rfl);simp only[pA,d7]at F;clear H d7;obtain rfl:=F;go_wp2;exact J.O _ brf
 apply AL
 ·intro V W K A M H F J
  have d8:V 8=_:=H 8 (by kernel_rfl);simp only[pA,d8]at F;clear H d8;obtain rfl:=F;have e1:=AJ (AK M HG.O al) 1 rfl;go_wp2;exact J.O _ brf
 refine AW (λv W=>v=.bool vb) (λ_ _ _ h _=>h) ?_ ?_
 ·intro V W K A M H F J
  have d4:V 4=_:=H 4 (by kernel_rfl);have d9:V 9=_:=H 9 (by kernel_rfl);simp only[pA,d4,d9]at F;clear H d4 d9;obtain rfl:=F;go_wp2;exact J.O _ _ brf (by rw[aL.O])
 intro V W A M Y F;have d0:V 0=_:=Y 0 (by omega);have d1:(λv W=>v=.pointer (some ⟨g1,k*13,none⟩)) (V 1) W:=Y 1 (by omega);have d2:V 2=_:=Y 2 (by omega);have d3:V 3=_:=Y 3 (by omega);have d4:V 4=_:=Y 4 (by omega);have d5:V 5=_:=Y 5 (by omega);have d6:V 6=_:=Y 6 (by omega);have d7:V 7=_:=Y 7 (by omega);have d8:V 8=_:=Y 8 (by omega);have d9:V 9=_:=Y 9 (by omega);have Z:(λv W=>v=.bool vb) (V 10) W:=Y 10 (by omega);simp only[pA,d0,d2,d3,d4,d5,d6,d7,d8,d9]at F;clear Y d0 d2 d3 d4 d5 d6 d7 d8 d9;generalize V 1=x1 at d1 F;generalize V 10=dp at Z F;obtain rfl:=F;simp only[dl,dF];obtain rfl:=d1;obtain rfl:=Z;have bb:Hid _:=AK M HG.O al;have a4:=M;cases vb
 ·go_wp2_with (go_at_call 183;refine(Ce 4 _).mono ?_;rintro e w2 ⟨rfl,rfl⟩)
  exact⟨rfl,.inr ⟨by rw[aL.O];rfl,rfl⟩,M.mono hN⟩
 obtain⟨ao,de,b6,aE⟩:=I6 bH.O;subst b6;have cc:Hid _:=aE;have aI:Hid _:=bm;clear aE bm;have bR:=AJ bb.O 13 rfl
 go_wp2_with (go_at_call 183;refine(CV 4 _).mono ?_;rintro e w2 ⟨rfl,rfl⟩)
 clear bR
 go_loopw [21] (λiv wr=>∃j:Nat,j<=ne/\iv=.int .i64 j/\Hid (∀i x,i<j->A.aw[i]?=some x->CD X A x=true)/\Below w.heap.size w wr) (λiv _=>ne - (intOf iv).toNat)
 case atStart=>exact⟨0,AI _,rfl,λi e h=>absurd h (gr _),a4⟩
 case round=>
  obtain⟨j,hj,rfl,aF,hb⟩:=hrel;clear bb a4 M
  by_cases b4:j<ne
  ·obtain⟨en,af⟩:∃x,A.aw[j]?=some x:=⟨A.aw[j]'(by have:=aI.O;omega),by simp⟩
   obtain⟨b,off,ea,b7,a6⟩:=HE.O w (dI _ _) (by intro h;rw[h]at af;simp at af);subst ea;obtain⟨ic,c,aT,bl,bf,a7⟩:=O8 bU.O af;have ca:ic<n2:=by rw[<-aH.O];exact(AC aT).1
   obtain⟨g2,e2,cM,aK⟩:=cb.O.some (by omega);subst e2;have cg:Hid (CpAt w g2 (ic*7) c):=aK.cpAt aT;have bB:g2<w.heap.size:=aK.lt;have bZ:Hid (EnAt w b (off+j*2) en):=a6 j en af;have a5:Hid _:=af;obtain⟨sb,a8⟩:∃b,Hid ((c.ag==en.aF)=b):=⟨_,rfl⟩;have a9:Hid (CD X A en=sb):=by unfold Hid CD;rw[bf];exact a8.O
   obtain⟨ge,bX,da,aS⟩:∃ge,ao=some ⟨ge,0,none⟩/\N<=ge/\RowIs w 3 1 ge ne de (CP (C5 X A)):=by
    rcases cc.O with h|h
    ·omega
    ·exact h
   subst bX;have ch:=(aS.below hb aS.lt).cell (j:=j) (u:=.int .i64 (ic:Int)) (by unfold CP;rw[eh,a7];rfl);have co:j<A.aw.length:=by have:=aI.O;omega
   clear aT bl bf a7 aS aK a6 af
   go_upto_region 4 with fail
   clear ch;refine AV 19 (by kernel_rfl) (by kernel_rfl) ?_;apply AL
   ·intro V W K A M H F J
    simp only[pA]at F;clear H;obtain rfl:=F;go_wp2;exact J.O _ brf
   apply AL
   ·intro V W K A M H F J
    have d0:V 0=_:=H 0 (by kernel_rfl);simp only[pA,d0]at F;clear H d0;obtain rfl:=F;go_wp2;exact J.O _ brf
   apply AL
   ·intro V W K A M H F J
    have d1:V 1=_:=H 1 (by kernel_rfl);simp only[pA,d1]at F;clear H d1;obtain rfl:=F;go_wp2;exact J.O _ brf
   apply AL
   ·intro V W K A M H F J
    have d2:V 2=_:=H 2 (by kernel_rfl);simp only[pA,d2]at F;clear H d2;obtain rfl:=F;go_wp2;exact J.O _ brf
   apply AL
   ·intro V W K A M H F J
    have d3:V 3=_:=H 3 (by kernel_rfl);simp only[pA,d3]at F;clear H d3;obtain rfl:=F;have cK:=AJ (AK (hb.trans (M.mono hb.size)) HG.O al) 10 rfl;go_wp2;exact J.O _ brf
   apply AL
   ·intro V W K A M H F J
    simp only[pA]at F;clear H;obtain rfl:=F;go_wp2;exact J.O _ brf
   apply AL
   ·intro V W K A M H F J
    have d4:V 4=_:=H 4 (by kernel_rfl);have d5:V 5=_:=H 5 (by kernel_rfl);simp only[pA,d4,d5]at F;clear H d4 d5;obtain rfl:=F;go_wp2;exact J.O _ brf
   apply AL
   ·intro V W K A M H F J
    have d6:V 6=_:=H 6 (by kernel_rfl);simp only[pA,d6]at F;clear H d6;obtain rfl:=F;go_wp2;exact J.O _ brf
   apply AL
   ·intro V W K A M H F J
    have d7:V 7=_:=H 7 (by kernel_rfl);simp only[pA,d7]at F;clear H d7;obtain rfl:=F;have hq:=cg.O.below (hb.trans (M.mono hb.size)) bB;unfold CpAt at hq;obtain⟨q0,q1,q2,q3,q4,q5,q6⟩:=hq;go_wp2;exact J.O _ brf
   apply AL
   ·intro V W K A M H F J
    simp only[pA]at F;clear H;obtain rfl:=F;go_wp2;exact J.O _ brf
   apply AL
   ·intro V W K A M H F J
    have d9:V 9=_:=H 9 (by kernel_rfl);simp only[pA,d9]at F;clear H d9;obtain rfl:=F;go_wp2;exact J.O _ brf
   apply AL
   ·intro V W K A M H F J
    have Z:V 10=_:=H 10 (by kernel_rfl);simp only[pA,Z]at F;clear H Z;obtain rfl:=F;go_wp2;exact J.O _ brf
   apply AL
   ·intro V W K A M H F J
    have ai:V 11=_:=H 11 (by kernel_rfl);simp only[pA,ai]at F;clear H ai;obtain rfl:=F;go_wp2;exact J.O _ brf
   apply AL
   ·intro V W K A M H F J
    have an:V 12=_:=H 12 (by kernel_rfl);simp only[pA,an]at F;clear H an;obtain rfl:=F;have e6:=AJ (AK (hb.trans (M.mono hb.size)) HG.O al) 6 rfl;go_wp2;exact J.O _ brf
   apply AL
   ·intro V W K A M H F J
    simp only[pA]at F;clear H;obtain rfl:=F;go_wp2;exact J.O _ brf
   apply AL
   ·intro V W K A M H F J
    have aw:V 13=_:=H 13 (by kernel_rfl);have am:V 14=_:=H 14 (by kernel_rfl);simp only[pA,aw,am]at F;clear H aw am;obtain rfl:=F;go_wp2;exact J.O _ brf
   apply AL
   ·intro V W K A M H F J
    have ah:V 15=_:=H 15 (by kernel_rfl);simp only[pA,ah]at F;clear H ah;obtain rfl:=F;go_wp2;exact J.O _ brf
   apply AL
   ·intro V W K A M H F J
    have av:V 16=_:=H 16 (by kernel_rfl);simp only[pA,av]at F;clear H av;obtain rfl:=F;have hq:=bZ.O.below (hb.trans (M.mono hb.size)) b7;unfold EnAt at hq;obtain⟨q0,q1⟩:=hq;go_wp2;exact J.O _ brf
   refine AW (λv W=>v=.bool sb) (λ_ _ _ h _=>h) ?_ ?_
   ·intro V W K A M H F J
    have d8:V 8=_:=H 8 (by kernel_rfl);have ak:V 17=_:=H 17 (by kernel_rfl);simp only[pA,d8,ak]at F;clear H d8 ak;obtain rfl:=F;go_wp2;exact J.O _ _ brf (by rw[a8.O])
   intro V W A M Y F;have d0:V 0=_:=Y 0 (by omega);have d1:V 1=_:=Y 1 (by omega);have d2:V 2=_:=Y 2 (by omega);have d3:V 3=_:=Y 3 (by omega);have d4:V 4=_:=Y 4 (by omega);have d5:V 5=_:=Y 5 (by omega);have d6:V 6=_:=Y 6 (by omega);have d7:V 7=_:=Y 7 (by omega);have d8:V 8=_:=Y 8 (by omega);have d9:V 9=_:=Y 9 (by omega);have Z:V 10=_:=Y 10 (by omega);have ai:V 11=_:=Y 11 (by omega);have an:V 12=_:=Y 12 (by omega);have aw:V 13=_:=Y 13 (by omega);have am:V 14=_:=Y 14 (by omega);have ah:V 15=_:=Y 15 (by omega);have av:V 16=_:=Y 16 (by omega);have ak:V 17=_:=Y 17 (by omega);have bk:(λv W=>v=.bool sb) (V 18) W:=Y 18 (by omega);simp only[pA,d0,d1,d2,d3,d4,d5,d6,d7,d8,d9,Z,ai,an,aw,am,ah,av,ak]at F;clear Y d0 d1 d2 d3 d4 d5 d6 d7 d8 d9 Z ai an aw am ah av ak;generalize V 18=cN at bk F;obtain rfl:=F;simp only[dl,dF];obtain rfl:=bk;have bt:=hb.trans (M.mono hb.size);clear M;cases sb
   ·go_wp2_with (go_at_call 183;refine(Ce 4 _).mono ?_;rintro e w2 ⟨rfl,rfl⟩)
    exact⟨rfl,.inr ⟨by rw[Ql a5.O a9.O,ij],rfl⟩,bt.mono hN⟩
   ·go_wp2_with (go_at_call 183;refine(CV 4 _).mono ?_;rintro e w2 ⟨rfl,rfl⟩)
    go_roundw
    case rel=>exact⟨j+1,b4,by go_num,λi x hi hx=>by
     by_cases bE:i=j
     ·subst bE
      have:=a5.O;rw[hx]at this;obtain rfl:=dg this;exact a9.O
     ·exact aF.O i x (by omega) hx,bt⟩
    case measure=>simp[intOf];omega
  ·go_wp2
   go_end0
   have c7:j=A.aw.length:=by have:=aI.O;omega
   refine⟨.inl ⟨?_,rfl,b0.O.below hb⟩,hb.mono hN⟩;rw[aL.O,gL];exact Nt λi x hi hx=>aF.O i x (by omega) hx
end
end Go.Proofs.YtbceafpodamnfaaGreatDoor
