import Derived.Test.YtbceafpodamnfaaGreatDoorG17
import Derived.Test.YtbceafpodamnfaaGreatDoorG23
import Derived.Test.YtbceafpodamnfaaGreatDoorG25
import Derived.Test.YtbceafpodamnfaaGreatDoorG29
import Derived.Test.YtbceafpodamnfaaGreatDoorG30
set_option linter.all false
set_option maxHeartbeats 16000000
set_option maxRecDepth 100000
namespace Go.Proofs.YtbceafpodamnfaaGreatDoor
section
open Go.RowKit Go.Sort
open Go.Value renaming int->In,slice->Sl,string->Sg,bool->Bo,pointer->Po
open Go.IntKind renaming i64->i6
def Fk(l:List Bx):List Value:=l.flatMap Bx.cells
theorem bxsV_len(l:List Bx):(Fk l).length=l.length*4:=Es (c:=Bx.cells) (n:=4) (λ_=>rfl) l
theorem TZ(x:Bx):∀u∈x.cells,u.oneCell'=true:=λu h=>by
 simp[Bx.cells]at h;rcases h with rfl|rfl|rfl|rfl<;>rfl
theorem bxsV_one(l:List Bx):∀u∈Fk l,u.oneCell'=true:=λu z=>by
 obtain⟨s,_,h⟩:=dZ.1 z;exact TZ s u h
theorem BxAt.get{w:World}{b o:Nat}{s:Bx}(h:BxAt w b o s)(k:Nat)(u:Value)(z:s.cells[k]?=some u):w.cell? ⟨b,o+k,none⟩=some u:=by
 obtain⟨F,H,J,M⟩:=h
 match k,z with
 |0,z=>obtain rfl:=dj z;exact F
 |1,z=>obtain rfl:=dj z;exact H
 |2,z=>obtain rfl:=dj z;exact J
 |3,z=>obtain rfl:=dj z;exact M
 |k+4,z=>simp[Bx.cells]at z
theorem SlX.bG{w:World}{ao:qO}{l:List Bx}(h:SlX w ao l):l.length≠0->∃ad,ao=some ad/\∀j u,(Fk l)[j]?=some u->w.cell? (ad.add j)=some u:=λF=>by
 obtain⟨b,O,e,_,z⟩:=h (by intro h;rw[h]at F;simp at F);refine⟨_,e,λj u M=>?_⟩;obtain⟨i,k,s,H,J,rfl⟩:=FV (c:=Bx.cells) (n:=4) (λ_=>rfl) l j u M;have:=(z i s H).get k u J;rw[eG,<-fP]at this;exact this
theorem RowIs.slX{w:World}{e:TypeId}{g n cap:Nat}{l:List Bx}(h:RowIs w e 4 g n cap (Fk l))(d:Nat):SlX w (some ⟨g,d*4,none⟩) (l.drop d):=λ_=>
 ⟨g,d*4,rfl,h.lt,λi s z=>by
  rw[ew]at z;have:=λk u F=>h.cell (F8 (c:=Bx.cells) (n:=4) (λ_=>rfl) l (d+i) s k u z F)
  rw[fz]at this
  exact⟨this 0 _ rfl,this 1 _ rfl,this 2 _ rfl,this 3 _ rfl⟩⟩
theorem GK:(Tryz.prog.info? 28).map (λi=>(i.zero,i.size,i.bytes))=some (some (.agg qzV),4,80):=qk
theorem AY:(Tryz.prog.info? 28).map (·.size)=some 4:=qk
theorem AO:(Tryz.prog.info? 30).map (·.size)=some 5:=qk
def Bk.aU(B:Bk):Prop:=B.ah.length<=999/\B.ar.length<=999/\B.aw.length<=999/\B.bQ
theorem Bk.aU.tn{B:Bk}(h:B.aU):B.ah.length<=1000/\B.ar.length<=1000/\B.aw.length<=1000:=⟨by have:=h.1;omega,by have:=h.2.1;omega,by have:=h.2.2.1;omega⟩
theorem Bk.aU.aR{B:Bk}(h:B.aU):B.aR:=⟨by have:=h.1;omega,by have:=h.2.1;omega,by have:=h.2.2.1;omega⟩
def Tinys(l:List Bx):Prop:=∀x∈l,x.b.aU
structure WOk(l:List Bx)(B:Bk):Prop where
 len:l.length<=8
 zs:Sizeds l
 ss:Tinys l
 bz:B.aP
 bs:B.aU
def RowT(w:World)(ap:qO)(l:List Bx):Prop:=l≠[]->∀b off,ap=some ⟨b,off,none⟩->∃cs fr,w.heap[b]?=some (.cells cs 28 fr)
theorem RowT.below{w w':World}{ap:qO}{l:List Bx}(h:RowT w ap l)(hb:Below w.heap.size w w'):RowT w' ap l:=λF b z e=>
 let ⟨cs,fr,h1⟩:=h F b z e
 ⟨cs,fr,AK hb h1 (AB h1).1⟩
def WIs(n:Nat)(w w':World)(v:Value):Prop:=∃(ap:qO) (l:List Bx) (cp:Nat) (a1 a2 a3:qO) (c1 c2 c3:Nat) (B:Bk),v=.agg (qwV ap l.length cp B a1 c1 a2 c2 a3 c3)/\WAt w' ap l a1 a2 a3 B/\WOk l B/\RowT w' ap l/\Below n w w'
def BkIs(n:Nat)(w w':World)(v:Value):Prop:=∃(a1 a2 a3:qO) (c1 c2 c3:Nat) (B:Bk),v=.agg (qbV B a1 c1 a2 c2 a3 c3)/\BkAt w' a1 a2 a3 B/\B.aP/\B.aU/\Below n w w'
theorem OR{w w2 O:World}{g2 m F f n cap:Nat}{L:List Bx}{C:Bk}{W Y Z:qO}{y1 y2 y3:Nat}(hR:RowIs w2 28 4 g2 m F (Fk L))(H:∀x∈L,BkAt w x.a1 x.a2 x.a3 x.b/\x.b.aP/\x.b.aU)(hC:BkAt w W Y Z C)(hz:C.aP)(hs:C.aU)
  (hb:Below w.heap.size w w2) (M:BH f w2 O) (hf:w.heap.size<=f) (hg:f<g2) (d:Nat) (hn:(L.drop d).length=n) (h8:n<=8):
  ∃v,Ending.returned (.agg #[Sl (some ⟨g2,d*4,none⟩) n cap,In i6 C.av,Sl W C.ah.length y1,Sl Y C.ar.length y2,Sl Z C.aw.length y3])=.returned v/\WIs w.heap.size w O v:=by
 have z:Below w.heap.size w O:=hb.trans (M.below.mono hf);have J:∀x∈L.drop d,x∈L:=λx h=>eE h
 subst hn;refine⟨_,rfl,_,L.drop d,cap,W,Y,Z,y1,y2,y3,C,rfl,⟨(hR.aV (M.aL g2 qo)).slX d,λx h=>(H x (J x h)).1.below z,hC.below z⟩,⟨h8,λx h=>(H x (J x h)).2.1,λx h=>(H x (J x h)).2.2,hz,hs⟩,λ_ b aq e=>?_,z⟩;injection e with e
 injection e with e _
 subst e;obtain⟨_,_,ah,hc,_⟩:=hR.aV (M.aL g2 qo);exact⟨_,_,hc⟩
theorem Q3(l:List Bx)(ap:qO)(cp:Nat)(B C:Bk)(a1 a2 a3 x1 x2 O:qO)(c1 c2 c3 y1 y2 y3:Nat)(w:World)(hO:WOk l B)(aK:C.aP)(aJ:C.aU)(z:WAt w ap l a1 a2 a3 B)(hT:RowT w ap l)(hC:BkAt w x1 x2 O C):
  Calls Tryz.prog 111 #[.agg (qwV ap l.length cp B a1 c1 a2 c2 a3 c3),.agg (qbV C x1 y1 x2 y2 O y3)] w λe w'=>∃v,e=.returned v/\WIs w.heap.size w w' v:=by
 have HW:Hid (WAt w ap l a1 a2 a3 B):=z;have HC:Hid (BkAt w x1 x2 O C):=hC;have HT:Hid (RowT w ap l):=hT;have HO:Hid (WOk l B):=hO;have aC:Hid (C.aP):=aK;have aB:Hid (C.aU):=aJ;have bX:=hO.len;clear z hC hO aK aJ hT
 obtain⟨W0,a7,t0,t1,t2,aa,b0,ax⟩:∃W0,((w.alloc (.cells (qwV ap l.length cp B a1 c1 a2 c2 a3 c3) 30)).alloc (.cells (qbV C x1 y1 x2 y2 O y3) 28)).alloc (.cells qzW 30)=W0/\qBl W0 (w.heap.size) (qwV ap l.length cp B a1 c1 a2 c2 a3 c3) 30/\qBl W0 (w.heap.size+1) (qbV C x1 y1 x2 y2 O y3) 28/\qBl W0 (w.heap.size+2) qzW 30/\w.heap.size<W0.heap.size/\W0.heap.size=w.heap.size+3/\Below w.heap.size w W0:=by
  obtain⟨h1,h2,Y⟩:=CL w (.cells (qwV ap l.length cp B a1 c1 a2 c2 a3 c3) 30) (.cells (qbV C x1 y1 x2 y2 O y3) 28);obtain⟨X,hX⟩:∃X,(w.alloc (.cells (qwV ap l.length cp B a1 c1 a2 c2 a3 c3) 30)).alloc (.cells (qbV C x1 y1 x2 y2 O y3) 28)=X:=⟨_,rfl⟩;rw[hX]at h1 h2 Y;rw[hX];have a9:Below w.heap.size w X:=by rw[<-hX];exact(AN w _).alloc (by show w.heap.size<=(w.heap.push _).size;simp) _
  have hz:(X.alloc (.cells qzW 30)).heap.size=X.heap.size+1:=by show(X.heap.push _).size=_;simp
  refine⟨_,rfl,(gt X _ qo).trans h1,(gt X _ qo).trans h2,?_,qo,qo,a9.alloc qo _⟩;have:=dm X (.cells qzW 30)
  rwa [Y]at this
 have T0:Hid _:=t0;have T1:Hid _:=t1;have T2:Hid _:=t2;have e0:W0.cell? ⟨w.heap.size,1,none⟩=some (In i6 B.av):=AJ t0 1;have e1:W0.cell? ⟨w.heap.size+1,0,none⟩=some (In i6 C.av):=AJ t1 0;clear t0 t1 t2;go_enter Tryz.func111,Tryz.ntmps111
 go_upto_region 1 with fail
 clear a7
 by_cases hn:C.av=B.av
 ·have bm:(C.av==B.av)=true:=by simp[hn]
  go_wp2_with (first|((with_reducible show wpList _ _ _ _ _ _);refine dB rfl 30 (.tmp 2) rfl w.heap.size rfl 30 (qwV ap l.length cp B a1 c1 a2 c2 a3 c3) (0,0) _ T0.ab Tryz.underlying30 rfl AO ?_)|((with_reducible show wpList _ _ _ _ _ _);refine qAM T2.ab AO ?_;intro wz hz on;simp only[Act.put]))
  refine dF (fj rfl _ wz (w.heap.size+2) 30 (qwV ap l.length cp B a1 c1 a2 c2 a3 c3) (0,0) _ rfl hz.ab Tryz.underlying30 rfl AO) rfl ?_;have hb:Below w.heap.size w wz:=ax.trans (on.below.mono qo);exact⟨_,rfl,ap,l,cp,a1,a2,a3,c1,c2,c3,B,rfl,HW.ab.below hb,HO.ab,HT.ab.below hb,hb⟩
 have bm:(C.av==B.av)=false:=by simp[hn]
 go_upto_region 3 with fail
 clear e0 e1;refine AU 7 ?_;refine AZ (λv W=>∃g,v=.slice (qad g) 0 0/\w.heap.size+3<=g/\qBl W g #[] 28) (λ_ _ _ ⟨g,h1,h2,Y⟩ hb=>⟨g,h1,h2,AK hb Y (AB Y).1⟩) ?_ ?_
 ·intro V W K A z hd F hK
  simp only[pA]at F;subst F;go_wp2;exact hK.ab _ _ (AN _ _) ⟨W.heap.size,rfl,AH qo z.size,dm W _⟩
 refine qA0 qP ?_
 apply qA0
 ·intro V W K A z hd F hK
  simp only[pA,qv (hd 1)]at F;subst F;have e0:W.cell? ⟨w.heap.size,0,none⟩=some (Sl ap l.length cp):=AJ (AK z T0.ab aa) 0;go_wp2;exact hK
 refine AZ (λv W=>∃g cap,v=.slice (qad g) l.length cap/\w.heap.size+3<=g/\RowIs W 28 4 g l.length cap (Fk l)) (λ_ _ _ ⟨g,cap,h1,h2,Y⟩ hb=>⟨g,cap,h1,h2,Y.below hb Y.lt⟩) ?_ ?_
 ·intro V W K A z hd F hK
  have d0:=hd 0;simp only[pA,qv (hd 2)]at F;generalize V 0=x0 at d0 F;subst F;obtain⟨g,rfl,hg,bk⟩:=d0;refine Cq rfl (.tmp 13) (.tmp 15) 23 rfl 28 _ 4 80 Tryz.underlying23 GK rfl g rfl bk ap l.length cp (Fk l) rfl (bxsV_len _) ((HW.ab.row.below ax).below z).bG (bxsV_one _) qm qo ?_;intro g' aH w2 bb J M
  have be:w.heap.size+3<=g':=by
   have:=z.size;rcases bb with rfl|rfl<;>omega
  go_wp2;exact hK.ab _ _ M ⟨g',aH,rfl,be,J.ab⟩
 refine qA0 qP ?_
 apply qA0
 ·intro V W K A z hd F hK
  simp only[pA,qv (hd 4)]at F;subst F;have e1:W.cell? ⟨w.heap.size,1,none⟩=some (In i6 B.av):=AJ (AK z T0.ab aa) 1;have e2:W.cell? ⟨w.heap.size,2,none⟩=some (Sl a1 B.ah.length c1):=AJ (AK z T0.ab aa) 2;have e3:W.cell? ⟨w.heap.size,3,none⟩=some (Sl a2 B.ar.length c2):=AJ (AK z T0.ab aa) 3;have e4:W.cell? ⟨w.heap.size,4,none⟩=some (Sl a3 B.aw.length c3):=AJ (AK z T0.ab aa) 4;go_wp2;exact hK
 refine AZ (λv W=>∃g,v=.slice (qad g) 1 1/\w.heap.size+3<=g/\qBl W g (qbV B a1 c1 a2 c2 a3 c3) 28) (λ_ _ _ ⟨g,h1,h2,Y⟩ hb=>⟨g,h1,h2,AK hb Y (AB Y).1⟩) ?_ ?_
 ·intro V W K A z hd F hK
  simp only[pA,qv (hd 5)]at F;subst F;go_wp2;exact hK.ab _ _ (AN _ _) ⟨W.heap.size,rfl,AH qo z.size,dm W _⟩
 intro V W A z hS F;have d0:=hS 0;have d3:=hS 3;have d6:=hS 6;simp only[pA,qv (hS 1),qv (hS 2),qv (hS 4),qv (hS 5)]at F;clear hS;generalize V 0=x0 at d0 F;generalize V 3=O at d3 F;generalize V 6=x6 at d6 F;subst F;simp only[dA,dN];obtain⟨g,cap,rfl,hg,J⟩:=d3;obtain⟨k,rfl,hk,aQ⟩:=d6;clear d0;refine D9 rfl (.tmp 16) (.tmp 19) 23 rfl 28 _ 4 80 Tryz.underlying23 GK rfl g l.length cap (Fk l) rfl J ⟨k,0,none⟩ 1 1 (Bx.cells ⟨B,a1,a2,a3,c1,c2,c3⟩) rfl rfl (λj u hu=>by have h1:=AJ aQ j (v:=u) (by simpa [Bx.cells] using hu);rw[show(⟨k,0,none⟩:Addr).add j=⟨k,j,none⟩ by rw[fP,dL]];exact h1) (TZ _) qm qo ?_;intro g2 H w2 bd Z aO;have M:Below (w.heap.size+3) W w2:=(dG _ _).grown aO (by have:=z.size;omega) (λk h=>by cases h;exact hg);have aN:Below w.heap.size w w2:=(ax.trans (z.mono qo)).trans (M.mono qo);have aF:Hid _:=AK M (AK z T1.ab);have aG:Hid _:=AK M (AK z T2.ab)
 have HR:Hid (RowIs w2 28 4 g2 (l.length+1) H (Fk (l++[(⟨B,a1,a2,a3,c1,c2,c3⟩:Bx)]))):=by
  have:=Z.ab;unfold Hid
  rwa [show Fk l++Bx.cells ⟨B,a1,a2,a3,c1,c2,c3⟩=Fk (l++[(⟨B,a1,a2,a3,c1,c2,c3⟩:Bx)]) by simp[Fk]]at this
 obtain⟨L,hL⟩:∃L,l++[(⟨B,a1,a2,a3,c1,c2,c3⟩:Bx)]=L:=⟨_,rfl⟩;rw[hL]at HR
 have HX:Hid (∀x∈L,BkAt w x.a1 x.a2 x.a3 x.b/\x.b.aP/\x.b.aU):=λx hx=>by
  rw[<-hL]at hx;rcases dO.1 hx with h|h
  ·exact⟨HW.ab.bR x h,HO.ab.zs x h,HO.ab.ss x h⟩
  ·obtain rfl:=dl.1 h
   exact⟨HW.ab.bE,HO.ab.bz,HO.ab.bs⟩
 have aM:L.length=l.length+1:=by rw[<-hL];simp
 have bS:=z.size;clear J aQ aO M z T0 T1 T2 Z hL HW HO;simp only[Act.put]
 have bD:w.heap.size+3<=g2:=by
  rcases bd with rfl|rfl
  ·exact hg
  ·omega
 have bC:=HR.ab.2.1
 by_cases h8:l.length=8
 ·have bT:¬H=1:=qo
  go_wp2_with (first|((with_reducible show wpList _ _ _ _ _ _);refine dB rfl 28 (.tmp 3) rfl (w.heap.size+1) rfl 28 (qbV C x1 y1 x2 y2 O y3) (0,0) _ aF.ab Tryz.underlying28 rfl AY ?_)|((with_reducible show wpList _ _ _ _ _ _);refine qAM aG.ab AO ?_;intro wz hz on;simp only[Act.put]))
  refine dF (fj rfl _ wz (w.heap.size+2) 30 #[Sl (some ⟨g2,4,none⟩) 8 (H - 1),In i6 C.av,Sl x1 C.ah.length y1,Sl x2 C.ar.length y2,Sl O C.aw.length y3] (0,0) _ rfl hz.ab Tryz.underlying30 rfl AO) rfl ?_;exact OR HR.ab HX.ab HC.ab aC.ab aB.ab aN on qo qo 1 (by rw[eh,aM];omega) qo
 have bO:¬(8:Int)<(l.length:Int)+1:=qo
 go_wp2_with (first|((with_reducible show wpList _ _ _ _ _ _);refine dB rfl 28 (.tmp 3) rfl (w.heap.size+1) rfl 28 (qbV C x1 y1 x2 y2 O y3) (0,0) _ aF.ab Tryz.underlying28 rfl AY ?_)|((with_reducible show wpList _ _ _ _ _ _);refine qAM aG.ab AO ?_;intro wz hz on;simp only[Act.put]))
 refine dF (fj rfl _ wz (w.heap.size+2) 30 #[.slice (qad g2) (l.length+1) H,In i6 C.av,Sl x1 C.ah.length y1,Sl x2 C.ar.length y2,Sl O C.aw.length y3] (0,0) _ rfl hz.ab Tryz.underlying30 rfl AO) rfl ?_;exact OR HR.ab HX.ab HC.ab aC.ab aB.ab aN on qo qo 0 (by rw[dN,aM]) qo
theorem view_any(l:List Bx)(ap:qO)(cp:Nat)(B:Bk)(a1 a2 a3:qO)(c1 c2 c3:Nat)(bv:Int)(w:World)(aA:0<=bv)(aB:bv<=1000)(hO:WOk l B)(hW:WAt w ap l a1 a2 a3 B):
  Calls Tryz.prog 59 #[.agg (qwV ap l.length cp B a1 c1 a2 c2 a3 c3),In i6 bv] w λe w'=>∃v,e=.returned v/\BkIs w.heap.size w w' v:=by
 have HW:Hid (WAt w ap l a1 a2 a3 B):=hW;have W:Hid (WOk l B):=hO;have aD:=hO.len;clear hW hO
 obtain⟨J,am,t0,t1,aH,F⟩:∃J,(w.alloc (.cells (qwV ap l.length cp B a1 c1 a2 c2 a3 c3) 30)).alloc (.cells qzV 28)=J/\qBl J (w.heap.size) (qwV ap l.length cp B a1 c1 a2 c2 a3 c3) 30/\qBl J (w.heap.size+1) qzV 28/\J.heap.size=w.heap.size+1+1/\Below w.heap.size w J:=by
  obtain⟨h1,h2,h3⟩:=CL w (.cells (qwV ap l.length cp B a1 c1 a2 c2 a3 c3) 30) (.cells qzV 28);exact⟨_,rfl,h1,h2,h3,(AN w _).alloc (by show w.heap.size<=(w.heap.push _).size;simp) _⟩
 have T1:Hid _:=t1;have e0:J.cell? ⟨w.heap.size,0,none⟩=some (Sl ap l.length cp):=AJ t0 0;have e1:J.cell? ⟨w.heap.size,1,none⟩=some (In i6 B.av):=AJ t0 1;have e2:J.cell? ⟨w.heap.size,2,none⟩=some (Sl a1 B.ah.length c1):=AJ t0 2;have e3:J.cell? ⟨w.heap.size,3,none⟩=some (Sl a2 B.ar.length c2):=AJ t0 3;have e4:J.cell? ⟨w.heap.size,4,none⟩=some (Sl a3 B.aw.length c3):=AJ t0 4;clear t0 t1;go_enter Tryz.func59,Tryz.ntmps59
 go_upto_region 1 with fail
 clear am
 by_cases hn:bv=0
 ·subst hn
  go_wp2_with ((with_reducible show wpList _ _ _ _ _ _);refine qAM T1.ab AY ?_;intro M Z on;simp only[Act.put])
  refine dF (fj rfl _ M (w.heap.size+1) 28 (qbV B a1 c1 a2 c2 a3 c3) (0,0) _ rfl Z.ab Tryz.underlying28 rfl AY) rfl ?_;have hb:Below w.heap.size w M:=F.trans (on.below.mono qo);exact⟨_,rfl,a1,a2,a3,c1,c2,c3,B,rfl,HW.ab.bE.below hb,W.ab.bz,W.ab.bs,hb⟩
 have aG:decide (bv<=0)=false:=qp
 by_cases aa:l.length=0
 ·have aq:((l.length:Int)==0)=true:=by simp[aa]
  go_wp2_with ((with_reducible show wpList _ _ _ _ _ _);refine qAM T1.ab AY ?_;intro M Z on;simp only[Act.put])
  refine dF (fj rfl _ M (w.heap.size+1) 28 (qbV B a1 c1 a2 c2 a3 c3) (0,0) _ rfl Z.ab Tryz.underlying28 rfl AY) rfl ?_;have hb:Below w.heap.size w M:=F.trans (on.below.mono qo);exact⟨_,rfl,a1,a2,a3,c1,c2,c3,B,rfl,HW.ab.bE.below hb,W.ab.bz,W.ab.bs,hb⟩
 have aq:((l.length:Int)==0)=false:=fg.2 qo;obtain⟨b,aI,ea,ah,O⟩:=HW.ab.row (by intro h;rw[h]at aa;simp at aa);subst ea
 by_cases aj:(l.length:Int)<bv
 ·have an:decide ((l.length:Int)<bv)=true:=by simp[aj]
  have h0:0<l.length:=qo
  obtain⟨s,z⟩:∃s,l[0]?=some s:=⟨l[0],qs⟩;have Y:Hid (s∈l):=AE z;have H:=(O _ s z).below F ah;unfold BxAt at H;simp only[ik,gp]at H;have cj:(l.length:Int) - (l.length:Int)=0:=qo
  obtain⟨q0,q1,q2,q3⟩:=H;clear z O
  go_wp2_with ((with_reducible show wpList _ _ _ _ _ _);refine qAM T1.ab AY ?_;intro M Z on;simp only[Act.put])
  refine dF (fj rfl _ M (w.heap.size+1) 28 (qbV s.b s.a1 s.c1 s.a2 s.c2 s.a3 s.c3) (0,0) _ rfl Z.ab Tryz.underlying28 rfl AY) rfl ?_;have hb:Below w.heap.size w M:=F.trans (on.below.mono qo);exact⟨_,rfl,s.a1,s.a2,s.a3,s.c1,s.c2,s.c3,s.b,rfl,(HW.ab.bR s Y.ab).below hb,W.ab.zs s Y.ab,W.ab.ss s Y.ab,hb⟩
 have an:decide ((l.length:Int)<bv)=false:=by simp[aj]
 obtain⟨k,hk⟩:∃k:Nat,(l.length:Int) - bv=k:=⟨((l.length:Int) - bv).toNat,qo⟩;have aC:k<l.length:=qo
 obtain⟨s,z⟩:∃s,l[k]?=some s:=⟨l[k],qs⟩;have Y:Hid (s∈l):=AE z;have H:=(O _ s z).below F ah;unfold BxAt at H;obtain⟨q0,q1,q2,q3⟩:=H;clear z O
 go_wp2_with ((with_reducible show wpList _ _ _ _ _ _);refine qAM T1.ab AY ?_;intro M Z on;simp only[Act.put])
 refine dF (fj rfl _ M (w.heap.size+1) 28 (qbV s.b s.a1 s.c1 s.a2 s.c2 s.a3 s.c3) (0,0) _ rfl Z.ab Tryz.underlying28 rfl AY) rfl ?_;have hb:Below w.heap.size w M:=F.trans (on.below.mono qo);exact⟨_,rfl,s.a1,s.a2,s.a3,s.c1,s.c2,s.c3,s.b,rfl,(HW.ab.bR s Y.ab).below hb,W.ab.zs s Y.ab,W.ab.ss s Y.ab,hb⟩
end
section
open Go.RowKit
open Go.Value renaming int->In,slice->Sl,string->Sg,bool->Bo,pointer->Po
open Go.IntKind renaming i64->i6
def sv0:Svc:=⟨⟨#[]⟩,0,false,0,0,0,0,0,0,0,0,0,0⟩
def ev0:Ev:=⟨0,sv0,⟨#[]⟩,0,false⟩
structure Mv where
 st:Int
 bv:Int
 ev:Ev
abbrev qmV (m:Mv):Array Value:=#[In i6 m.st,In i6 m.bv,In i6 m.ev.kind,Sg m.ev.aa.name,In i6 m.ev.aa.ag,Bo m.ev.aa.aH,In i6 m.ev.aa.aj,In i6 m.ev.aa.au,In i6 m.ev.aa.aK,In i6 m.ev.aa.aG,In i6 m.ev.aa.next,In i6 m.ev.aa.aQ,In i6 m.ev.aa.az,In i6 m.ev.aa.aI,In i6 m.ev.aa.load,In i6 m.ev.aa.aA,Sg m.ev.name,In i6 m.ev.ak,Bo m.ev.bq]
def Mv.cells(m:Mv):Array Value:=(qmV m)
def Mv.ok(m:Mv):Prop:=0<=m.st/\m.st<=6/\0<=m.bv/\m.bv<=9/\m.ev.aP
theorem age6:∀e∈[[Value.int .i64 0],[In i6 0],[In i6 1],[In i6 2],[In i6 5],[In i6 9]],∃k:Int,e=[In i6 k]/\0<=k/\k<=9:=λe z=>by
 simp only[dJ,dW,fF]at z;rcases z with rfl|rfl|rfl|rfl|rfl|rfl<;>exact⟨_,rfl,qd,qd⟩
abbrev ctMove:Ct:=ctV (λp:BP=>[.complex .f64 0 0,p.v1]) (λp=>p.m1) (λp=>okBk p.B) λ_ v es=>es=[]/\∃m:Mv,v=.agg m.cells/\m.ok
theorem move_ct(r:Nat):CH Tryz.prog (RDr r) 39 2100 ctMove:=by
 refine NE (Ρ:=[]) (Aa (M3 r) (f:=90) qk (event_ct r)) (Ji r) 2100 qd Tryz.func39 qk (.nil _) qk (λ_=>rfl) (λp p' h Z=>BP.cV (gm (gm h).2).1 Z) ?_;rintro⟨B,c1,c2,c3⟩ q H hq;refine dg (show q+1<=QM by omega) ?_;refine⟨0,5,rfl,rfl,⟨qd,qd⟩,λx _=>?_⟩;refine dg (λ_=>?_) (λ_=>?_)
 ·refine dg (show q+3<=QM by omega) ?_
  refine⟨0,6,rfl,rfl,⟨qd,qd⟩,λy O=>?_⟩;intro n M;refine⟨0,6,rfl,rfl,⟨qd,qd⟩,λz J=>?_⟩;have aa:=O.1;have ae:=O.2.1 qd;have M:n=1+y:=M ⟨qo,qo⟩;refine dg J.1 (dg (J.2.1 qd) (dg AG (dg (Dg J 6 rfl qd) (λel F=>?_))));obtain⟨k,rfl,k0,k9⟩:=age6 el (AE F);exact⟨.inl rfl,_,rfl,⟨⟨_,_,[],⟨rfl,⟨n,k,ev0⟩,rfl,by show 0<=n;omega,by show n<=6;omega,k0,k9,AI _,AI _⟩,rfl,trivial,rfl,rfl,trivial⟩,(show q+3<=q+2100 by omega),0,rfl⟩,rfl⟩
 ·refine dg (show q+2001<=QM by omega) ?_
  refine⟨⟨B,c1,c2,c3⟩,rfl,okBk.sp H,?_⟩;rintro _ _ ⟨rfl,k,s,nm,n,f,rfl,W,Y,_⟩;exact⟨.inl rfl,_,rfl,⟨⟨_,_,[],⟨rfl,⟨0,0,⟨k,s,nm,n,f⟩⟩,rfl,ff 0,show(0:Int)<=6 by decide,ff 0,show(0:Int)<=9 by decide,W,Y⟩,rfl,trivial,rfl,rfl,trivial⟩,(show q+2001<=q+2100 by omega),0,rfl⟩,rfl⟩
def MvIs(r:Nat)(q:Int)(w0:World)(e:Ending)(w':World):Prop:=∃m:Mv,e=.returned (.agg m.cells)/\m.ok/\Past r w0.heap.size w0 w'/\Rd r w' q
theorem Rd.pos{r:Nat}{w:World}{q:Int}(h:Rd r w q):0<=q:=let ⟨_,_,_,_,_,h2,h3,_⟩:=h;Int.le_trans h2 h3
theorem Lm{B:Bk}(z:B.ah.length<=1000/\B.ar.length<=1000/\B.aw.length<=1000)(F:B.aP):okBk B:=⟨z,F.2.2.2⟩
theorem move_any(r:Nat)(q:Int)(B:Bk)(a1 a2 a3:qO)(c1 c2 c3:Nat)(w:World)(J:B.ah.length<=1000/\B.ar.length<=1000/\B.aw.length<=1000)(M:B.aP)(H:BkAt w a1 a2 a3 B)(F:Rd r w q)(hq:q<=700000000000):
  Calls Tryz.prog 39 #[.pointer (qad r),.agg (qbV B a1 c1 a2 c2 a3 c3)] w λe w'=>MvIs r (q+2000010) w e w':=by
 have Z:=F.pos;have z:Rd r w (q.toNat:Int):=F.mono qo;have h:=TD (move_ct r) ⟨B,c1,c2,c3⟩ (Lm J M) rfl z (show q.toNat+2100<=QM by unfold QM;omega) (m1_hold z H);rw[show(List.map (r2 (ghR r w a1 a2 a3).α) [.complex .f64 0 0,BP.v1 ⟨B,c1,c2,c3⟩]).toArray=#[.pointer (qad r),.agg (qbV B a1 c1 a2 c2 a3 c3)] from by simp[BP.v1,ghR,r2,r1,r0,Addr.add]]at h;refine h.mono ?_;rintro e w' ⟨_,_,G',⟨rfl,m,rfl,O⟩,rfl,_,W,Y,_⟩;exact⟨m,by simp[Mv.cells,up2,up1,up0,r2,r1,r0],O,W,Y.mono qo⟩
theorem Ph(r:Nat)(q:Int)(w:World)(z:Rd r w q)(O:q<=900000000000):
  Calls Tryz.prog 37 #[.pointer (qad r)] w λe w'=>∃s:Svc,e=.returned (.agg (qsV s))/\s.name.size<=10/\Past r w.heap.size w w'/\Rd r w' (q+100):=by
 have M:=z.pos;refine(wish_bk r q.toNat w (z.mono qo) (by unfold QM;omega)).mono ?_;rintro e w' ⟨s,rfl,J,F,H⟩;exact⟨s,rfl,J,F,H.mono qo⟩
end
section
open Go.RowKit Go.Sort
open Go.Value renaming int->In,slice->Sl,string->Sg,bool->Bo,pointer->Po
open Go.IntKind renaming i64->i6
def SlEn(lo:Nat)(w:World)(ae:qO)(ce:Nat)(l:List En):Prop:=(ae=none/\l=[]/\ce=0)\/∃g,ae=some ⟨g,0,none⟩/\lo<=g/\RowIs w 88 2 g l.length ce (l.map enL).flatten
theorem SlEn.bl{lo F ce:Nat}{w w':World}{H:qO}{l:List En}(h:SlEn lo w H ce l)(W:F<=lo)(hk:∀g z,lo<=g->w.heap[g]?=some (.cells z 88)->w'.heap[g]?=w.heap[g]?):SlEn F w' H ce l:=h.imp id λ⟨g,e,J,M⟩=>⟨g,e,AH W J,M.aV (by obtain⟨_,_,z,O,_⟩:=M;exact hk g z J O)⟩
theorem SlEn.below{lo ce:Nat}{w w':World}{z:qO}{l:List En}(h:SlEn lo w z ce l)(hb:Below w.heap.size w w'):SlEn lo w' z ce l:=h.bl AG λg _ _ F=>hb.block g (AB F).1
theorem fl_enL(l:List En)(i:Nat)(e:En)(h:l[i]?=some e)(j:Nat)(v:Value)(hv:(enL e)[j]?=some v):(l.map enL).flatten[i*2+j]?=some v:=by
 induction l generalizing i with
 |nil=>cases h
 |cons x l z=>
  rw[dK,fx];have hx:(enL x).length=2:=rfl
  cases i with
  |zero=>cases h;rw[dT (by have:=(AC hv).1;omega),ik,dL];exact hv
  |succ i=>rw[dU qo,hx,show(i+1)*2+j - 2=i*2+j by omega];exact z i h
theorem RowIs.ens{w:World}{g n cap:Nat}{l:List En}(h:RowIs w 88 2 g n cap (l.map enL).flatten):EnsAt w g 0 l:=λi s z=>by
 unfold EnAt;rw[dL];exact⟨h.cell (fl_enL l i s z 0 _ rfl),h.cell (fl_enL l i s z 1 _ rfl)⟩
theorem SlEn.sl{lo ce:Nat}{w:World}{z:qO}{l:List En}(h:SlEn lo w z ce l):SlE w z l:=λF=>by
 rcases h with⟨_,h,_⟩|⟨g,e,_,h⟩
 ·exact absurd h F
 ·exact⟨g,0,e,h.lt,h.ens⟩
def IsAct(lo:Nat)(w:World)(v:Value)(A:Ac):Prop:=∃ae ce,v=.agg (qaV A ae ce)/\SlEn lo w ae ce A.aB
theorem IsAct.below{lo:Nat}{w w':World}{v:Value}{A:Ac}(h:IsAct lo w v A)(hb:Below w.heap.size w w'):IsAct lo w' v A:=
 let ⟨ae,ce,e,hs⟩:=h
 ⟨ae,ce,e,hs.below hb⟩
theorem IsAct.low{lo z:Nat}{w:World}{v:Value}{A:Ac}(h:IsAct lo w v A)(F:z<=lo):IsAct z w v A:=
 let ⟨ae,ce,e,hs⟩:=h
 ⟨ae,ce,e,hs.bl F λ_ _ _ _=>rfl⟩
def EnsW(l:List En):Prop:=∀e∈l, -9223372036854775808<=e.ak/\e.ak<=9223372036854775807
def ActP(A:Ac):Prop:=A.aB.length<=1000/\EnsW A.aB/\A.aa.size<=maxLen
def EnR(lo g sz:Nat)(w:World)(r:Co):Prop:=(r.2.1=none/\r.1.aB=[]/\r.2.2=0)\/∃b,r.2.1=some ⟨b,0,none⟩/\lo<b/\b≠g/\b<sz/\RowIs w 88 2 b r.1.aB.length r.2.2 (r.1.aB.map enL).flatten
theorem EnR.bl{lo g H sz z:Nat}{w w':World}{r:Co}(h:EnR lo g sz w r)(Z:sz<=z)(Y:∀b,b<sz->b≠g->b≠H)(hk:∀b,b<sz->b≠g->w'.heap[b]?=w.heap[b]?):EnR lo H z w' r:=h.imp id λ⟨b,M,O,J,F,W⟩=>⟨b,M,O,Y b F J,AF F Z,W.aV (hk b F J)⟩
theorem actC_P{kind:Int}{B:Bk}{s:Svc}(z:okBk B)(H:Valid B)(O:s∈B.ah):ActP (CK kind B s):=by
 obtain⟨W,F⟩:=Vw kind B s;have Y:=GU B s.name;refine⟨by have:=z.1.2.1;omega,λe M=>?_,by rw[(KN kind B s).1];exact z.2.1 s O⟩;obtain⟨c,J,rfl⟩:=F e M;exact H.bQ c (eR.1 J).1
theorem l5Act_bk(kind:Int)(B:Bk)(s:Svc)(a1 a2 a3:qO)(c1 c2 c3:Nat)(w:World)(ah:okBk B)(hV:Valid B)(hs:s∈B.ah)(hB:BkAt w a1 a2 a3 B):
  Calls Tryz.prog 75 #[In i6 kind,.agg (qbV B a1 c1 a2 c2 a3 c3),.agg (qsV s)] w λe w'=>∃v A,e=.returned v/\IsAct w.heap.size w' v A/\A=CK kind B s/\Below w.heap.size w w':=by
 have hm:∀i b,(i,b)∈bkM B->Hold Jr w (gh3 w a1 a2 a3) w 0 i b:=λi b Y=>by
  have h:=Gv (RD:=Jr) (q:=0) hB;simp only[bkM,dJ,dW,fF,dR]at Y;rcases Y with⟨rfl,rfl⟩|⟨rfl,rfl⟩|⟨rfl,rfl⟩
  ·exact(h 0 _ rfl).2.1
  ·exact(h 1 _ rfl).2.1
  ·exact(h 2 _ rfl).2.1
 have H:(⟨B,c1,c2,c3⟩:BP).vd/\s∈B.ah:=⟨⟨ah.1,hV⟩,hs⟩
 have F:=actX_ct EH w (gh3 w a1 a2 a3) w 0 64 [In i6 kind,(⟨B,c1,c2,c3⟩:BP).v,GE s] (bkM B) (λv es=>∃v1 z,NY (CK kind B s) v1 z/\v=up2 (64+ ·) v1/\es=upE 64 z) (λk hk=>⟨hk,λh=>h⟩) (λ_ h=>h.elim) AG hm (λi b Y=>by
  simp only[bkM,dJ,dW,fF,dR]at Y
  rcases Y with⟨rfl,_⟩|⟨rfl,_⟩|⟨rfl,_⟩<;>exact .inl qd) (.inl rfl) ⟨(kind,⟨B,c1,c2,c3⟩,s),rfl,H,λv es J=>⟨v,es,J,rfl,rfl⟩⟩
 have ha:(List.map (r2 (gh3 w a1 a2 a3).α) [In i6 kind,(⟨B,c1,c2,c3⟩:BP).v,GE s]).toArray=#[In i6 kind,.agg (qbV B a1 c1 a2 c2 a3 c3),.agg (qsV s)]:=by simp[BP.v,GE,svL,gh3,r2,r1,r0]
 rw[ha]at F;refine F.mono ?_;rintro e w' ⟨v,an,G',hk,rfl,M,hN,_,_⟩;have hb:Below w.heap.size w w':=⟨M.bw.os,M.bw.tape,M.bw.output,M.bw.size,λk hk=>M.bw.block k hk λh=>h⟩;obtain⟨v1,z,J,rfl,rfl⟩:=hk (λv es=>∃v1 z,NY (CK kind B s) v1 z/\v=up2 (64+ ·) v1/\es=upE 64 z) ⟨(kind,⟨B,c1,c2,c3⟩,s),rfl,H,λv es J=>⟨v,es,J,rfl,rfl⟩⟩;obtain⟨A,hA⟩:∃A,CK kind B s=A:=⟨_,rfl⟩;rw[hA]at J;obtain⟨n,a,b,c,d,x,l,y⟩:=A;rcases J with⟨hE,rfl,rfl⟩|⟨cp,rfl,rfl⟩
 ·have hE:l=[]:=hE
  subst hE;exact⟨_,_,rfl,⟨none,0,by simp[acE,acV,up2,up1,up0,r2,r1,r0],.inl ⟨rfl,rfl,rfl⟩⟩,hA.symm,hb⟩
 ·have hH:=hN.be 64 _ (dl.2 rfl)
  obtain⟨g1,W,ag⟩:=hN.aW 64 _ (dl.2 rfl) (.inr rfl);obtain⟨g,els,e1,_,_,_,f1,f2,f3,f4⟩:=hH.k3 rfl;obtain rfl:g=g1:=by rw[e1]at W;cases W;rfl
  have O:els=l.map enL:=fZ λj=>by
   rw[ej]
   cases hj:els[j]? with
   |none=>rw[ix]at hj;rw[eq (by have:els.length=l.length:=f1;omega)];rfl
   |some el=>
    have Z:j<l.length:=by have h1:els.length=l.length:=f1;have:=(AC hj).1;omega
    rw[dz Z];exact ei some ((f4 j el hj).1 (λe=>e=enL l[j]) λy hy=>by rw[dz Z]at hy;cases hy;rfl)
  subst O;exact⟨_,⟨n,a,b,c,d,x,l,y⟩,rfl,⟨G'.α 64,cp,by simp[acE,acV,up2,up1,up0,r2,r1,r0],.inr ⟨g,e1,ag,f3⟩⟩,hA.symm,hb⟩
theorem OC(kind:Int)(B:Bk)(a1 a2 a3:qO)(c1 c2 c3:Nat)(w:World)(Y:okBk B)(hB:BkAt w a1 a2 a3 B):
  Calls Tryz.prog 27 #[In i6 kind,.agg (qbV B a1 c1 a2 c2 a3 c3)] w λe w'=>∃(g cap:Nat) (R:List Co),e=.returned (.slice (qad g) R.length cap)/\R.map (·.1)=EJ kind B/\w.heap.size<=g/\RowIs w' 45 8 g R.length cap (DQ R)/\(∀r∈R,SlEn w.heap.size w' r.2.1 r.2.2 r.1.aB)/\Below w.heap.size w w':=by
 obtain⟨t0,t1,t2⟩:=CL w (.cells (qbV B a1 c1 a2 c2 a3 c3) 28) (.cells #[] 45);have T0:Hid _:=t0;have T1:Hid _:=t1;have ba:Hid _:=t2;clear t0 t1 t2;have aG:Below w.heap.size w ((w.alloc (.cells (qbV B a1 c1 a2 c2 a3 c3) 28)).alloc (.cells #[] 45)):=((dG _ _).alloc AG _).alloc qs _;have hS:B.aR:=⟨AH Y.1.1 qd,AH Y.1.2.1 qd,AH Y.1.2.2 qd⟩;have hZ:B.aP:=⟨AH Y.1.1 qd,AH Y.1.2.1 qd,AH Y.1.2.2 qd,Y.2⟩;have hl:=hS;obtain⟨cL,cM,cN⟩:=hl;go_enter Tryz.func27,Tryz.ntmps27
 go_wp2_with fail
 refine(A7 B a1 a2 a3 c1 c2 c3 _ hS hZ (hB.below aG)).mono ?_;rintro e w1 ⟨rfl,am⟩;have aq:=aG.trans (am.mono aG.size);rw[ba.ab]at am;have U0:Hid (qBl w1 (w.heap.size) (qbV B a1 c1 a2 c2 a3 c3) 28):=AK am T0.ab;have U1:Hid (qBl w1 (w.heap.size+1) #[] 45):=AK am T1.ab;clear am aG T0 T1 ba;cases hv:Aj B
 ·have b0:Hid (Aj B=false):=hv
  clear hv;go_wp2;go_ret;exact⟨w.heap.size+1,0,[],rfl,by unfold EJ;rw[b0.ab];rfl,qo,⟨rfl,AG,#[],U1.ab,rfl,rfl⟩,λr hr=>absurd hr qs,aq⟩
 ·have bx:=validB_iff.1 hv
  have bT:Hid (EJ kind B=(B.ah.map (CK kind B)).filter Cz):=by unfold Hid EJ;rw[hv];rfl
  clear hv;go_wp2
  go_loopw [5,6] (λov iv wr=>∃(k g cap n:Nat) (R:List Co),k<=B.ah.length/\iv=In i6 k/\ov=.slice (qad g) n cap/\Hid (n=R.length)/\n<=k/\Hid (R.map (·.1)=((B.ah.take k).map (CK kind B)).filter Cz)/\w.heap.size<g/\Below w.heap.size w wr/\Hid (qBl wr (w.heap.size) (qbV B a1 c1 a2 c2 a3 c3) 28)/\Hid (RowIs wr 45 8 g n cap (DQ R))/\Hid (∀r∈R,EnR w.heap.size g wr.heap.size wr r)) (λ_ i _=>B.ah.length - (intOf i).toNat)
  case atStart=>exact⟨0,w.heap.size+1,0,0,[],qo,rfl,rfl,rfl,AG,rfl,qo,aq,U0,⟨rfl,AG,#[],U1.ab,rfl,rfl⟩,λr hr=>absurd hr qs⟩
  case round=>
   clear aq U0 U1;obtain⟨k,g,cap,n,R,hk,rfl,rfl,aM,cR,HR,hg,hb,z,af,Z⟩:=hrel;have aj:w.heap.size<wr.heap.size:=(AB z.ab).1;have b8:g<wr.heap.size:=af.ab.lt
   by_cases ax:k<B.ah.length
   ·obtain⟨s,aH⟩:∃s,B.ah[k]?=some s:=⟨B.ah[k],by simp[ax]⟩
    have aJ:=AE aH;have bv:B.ah≠[]:=by intro h;rw[h]at ax;simp at ax
    obtain⟨b,bC,ea,b6,bk⟩:=hB.1 bv;subst ea;have bw:=bk k s aH;have a8:Hid (∀W:World,BkAt W (some ⟨b,bC,none⟩) a2 a3 B->Calls Tryz.prog 75 #[In i6 kind,.agg (qbV B (some ⟨b,bC,none⟩) c1 a2 c2 a3 c3),.agg (qsV s)] W λe w'=>∃v F,e=.returned v/\IsAct W.heap.size w' v F/\F=CK kind B s/\Below W.heap.size W w'):=λW h=>l5Act_bk kind B s _ a2 a3 c1 c2 c3 W Y bx aJ h
    have hz:=hb.size
    have aC:Hid (((B.ah.take (k+1)).map (CK kind B)).filter Cz=((B.ah.take k).map (CK kind B)).filter Cz++if Cz (CK kind B s)=true then [CK kind B s] else []):=by
     unfold Hid;rw[ec,aH,fm,ez];cases hp:Cz (CK kind B s)<;>simp[hp]
    clear aH bv bk aJ;have e1:=AJ z.ab 1;go_wp2;clear e1;refine AU 9 ?_;apply AL
    ·intro V W K A J hd H hK
     simp only[pA]at H;subst H;go_wp2;exact hK.ab _ brf
    apply qA0
    ·intro V W K A J hd H hK
     simp only[pA]at H;subst H;have e0:=AJ (AK J z.ab aj) 0;have e1:=AJ (AK J z.ab aj) 1;have e2:=AJ (AK J z.ab aj) 2;have e3:=AJ (AK J z.ab aj) 3;go_wp2;exact hK
    refine qA0 qP ?_
    apply qA0
    ·intro V W K A J hd H hK
     simp only[pA,qv (hd 2)]at H;subst H;have e1:=AJ (AK J z.ab aj) 1;go_wp2;exact hK
    iterate 2 refine qA0 qP ?_
    apply qA0
    ·intro V W K A J hd H hK
     simp only[pA,qv (hd 5)]at H;subst H;have hq:=bw.below (hb.trans (J.mono hb.size)) b6;unfold SvcAt at hq;obtain⟨q0,q1,q2,q3,q4,q5,q6,q7,q8,q9,c8,c9,da⟩:=hq;go_wp2;exact hK
    refine AZ (λv W=>∃F,IsAct wr.heap.size W v F/\F=CK kind B s) (λv W W2 ⟨F,h,h1⟩ hb=>⟨F,h.below hb,h1⟩) ?_ ?_
    ·intro V W K A J hd H hK
     simp only[pA,qv (hd 0),qv (hd 1),qv (hd 6)]at H;subst H;have bB:=J.size
     go_wp2_with fail
     refine(a8.ab _ (hB.below (hb.trans (J.mono hb.size)))).mono ?_;rintro e w3 ⟨v,F,rfl,be,aF,b4⟩;have bO:Hid (IsAct wr.heap.size w3 v F):=be.low bB;clear be;go_wp2;exact hK.ab _ _ b4 ⟨F,bO.ab,aF⟩
    refine AZ (λv W=>∃p,v=.pointer (qad p)/\wr.heap.size<=p/\qBl W p qzA 45) (λv W W2 ⟨p,h1,h2,h3⟩ hb=>⟨p,h1,h2,AK hb h3 (AB h3).1⟩) ?_ ?_
    ·intro V W K A J hd H hK
     simp only[pA]at H;subst H;go_wp2;exact hK.ab _ _ (AN W _) ⟨_,rfl,J.size,dm W _⟩
    intro V W A J hS H;have d7:=hS 7;have d8:=hS 8;simp only[pA,qv (hS 0),qv (hS 1),qv (hS 2),qv (hS 3),qv (hS 4),qv (hS 5),qv (hS 6)]at H;clear hS;generalize V 7=x7 at d7 H;generalize V 8=x8 at d8 H;subst H;simp only[dA,dN];obtain⟨F,⟨ae,ce,rfl,hE⟩,aF⟩:=d7;have aB:Hid _:=aF;clear aF;obtain⟨p,rfl,hp,a5⟩:=d8;have bB:=J.size;refine AM rfl 45 (.tmp 7) (.tmp 27) rfl p 0 (qaV F ae ce) rfl rfl 45 qzA a5 QA (AD rfl) (PQ F ae ce) ?_;intro w2 bz on;simp only[Act.put];have M:Hid (qBl w2 p (qaV F ae ce) 45):=bz;have O:Below wr.heap.size wr w2:=J.trans (on.below.mono hp);have aS:=hb.trans (O.mono hb.size);have an:Hid _:=AK O z.ab aj;have ay:Hid (RowIs w2 45 8 g n cap (DQ R)):=af.ab.below O b8;have cm:W.heap.size<=w2.heap.size:=by rw[on.size];exact AG
    have cn:w2.heap.size<=W.heap.size:=by rw[on.size];exact AG
    have bS:Hid (SlEn wr.heap.size w2 ae ce F.aB):=hE.bl AG λge cr _ hc=>on.aL ge λe=>by
     subst e;rw[a5]at hc;simp at hc
    have aI:Hid (∀r∈R,EnR w.heap.size g wr.heap.size w2 r):=λr hr=>(Z.ab r hr).bl AG (λ_ _ h=>h) λb h4 _=>O.block b h4
    clear hE a5 bz on Z af z a8 J bw hb;obtain⟨kb,ag⟩:∃kb,Hid (Cz F=kb):=⟨_,rfl⟩
    go_upto_region 8 with fail
    go_cut [44] (λv wx=>v=.bool kb/\w2=wx)
    case first=>
     have z2:=AJ M.ab 2;have z5:=AJ M.ab 5;have z6:=AJ M.ab 6;have z7:=AJ M.ab 7
     by_cases bm:0<F.ax
     ·have HT:Hid (kb=true):=by unfold Hid;rw[<-ag.ab];unfold Cz;simp[bm]
      go_wp2;go_meet
      case rel=>exact⟨by rw[HT.ab],rfl⟩
     cases bn:F.aJ
     ·cases bo:decide (0<F.aB.length)
      case true=>
       have HT:Hid (kb=true):=by unfold Hid;rw[<-ag.ab];unfold Cz;rw[bo];simp
       go_wp2;go_meet
       case rel=>exact⟨by rw[HT.ab],rfl⟩
      case false=>
       have HT:Hid (kb=F.drop):=by unfold Hid;rw[<-ag.ab];unfold Cz;rw[ek bm,bo,bn];rfl
       go_wp2;go_meet
       case rel=>exact⟨by rw[HT.ab],rfl⟩
     ·have HT:Hid (kb=true):=by unfold Hid;rw[<-ag.ab];unfold Cz;rw[bn];simp
      go_wp2;go_meet
      case rel=>exact⟨by rw[HT.ab],rfl⟩
    case rest=>
     obtain⟨rfl,rfl⟩:=hcut;cases kb
     ·have aN:Hid (R.map (·.1)=((B.ah.take (k+1)).map (CK kind B)).filter Cz):=by
       unfold Hid;have h:=ag.ab;rw[aB.ab]at h;rw[aC.ab,h,HR.ab];simp
      clear aB aC;go_wp2
      go_roundw
      case rel=>exact⟨k+1,g,cap,n,R,qo,qn,rfl,aM,qo,aN,hg,aS,an,ay,λr hr=>(aI.ab r hr).bl O.size (λ_ _ h=>h) λ_ _ _=>rfl⟩
      case measure=>simp[intOf];omega
     ·have aN:Hid ((R++[(F,ae,ce)]).map (·.1)=((B.ah.take (k+1)).map (CK kind B)).filter Cz):=by
       unfold Hid;have h:=ag.ab;rw[aB.ab]at h;rw[aC.ab,h,fm,HR.ab,aB.ab];rfl
      clear aC;obtain⟨q0,q1,q2,q3,q4,q5,q6,q7⟩:=qc8 M.ab;have bq:g<w2.heap.size:=qo
      go_wp2_with (at_builtin;refine D9 rfl (.tmp 45) (.tmp 47) 39 rfl 45 _ 8 88 Tryz.underlying39 LW rfl g n cap _ rfl (ay.ab.below (AN w2 _) bq) ⟨w2.heap.size,0,none⟩ 1 1 ((qaV F ae ce):Array Value).toList rfl rfl (DI (dm w2 _)) (λu hu=>(eL.1 (PQ F ae ce)) u (by simpa using hu)) qm qo ?_;intro g' bb w4 b7 a6 au)
      have az:(w2.alloc (.cells (qaV F ae ce) 45)).heap.size=w2.heap.size+1:=by show(w2.heap.push _).size=_;simp
      have aQ:=AN w2 (.cells (qaV F ae ce) 45);have b5:Below w.heap.size w w4:=(aS.alloc aS.size _).trans (H9 au qo (by rw[az];omega));have a4:Hid _:=(au.block w.heap.size (by rw[az];omega) (λe=>by have:=dj e;omega)).trans (AK aQ an.ab);rw[az]at b7;have cb:=au.size;rw[az]at cb;have aw:∀q,q<w2.heap.size->q≠g->w4.heap[q]?=w2.heap[q]?:=λq hq ca=>(au.block q (by rw[az];omega) (λe=>ca (dj e))).trans (aQ.block q hq)
      have a9:Hid _:=aw;clear aw au aQ
      go_roundw
      case rel=>
       refine⟨k+1,g',bb,n+1,R++[(F,ae,ce)],qo,qn,rfl,by unfold Hid;rw[aM.ab];simp,qo,aN,qo,b5,a4,by rw[Ou];exact a6,λr hr=>?_⟩;rcases dO.1 hr with hr|hr
       ·exact(aI.ab r hr).bl qo (λb h1 h2=>qo) λb h1 h2=>a9.ab b qo h2
       ·have e:r=(F,ae,ce):=by simpa using hr
        subst e;refine bS.ab.imp id λ⟨ge,h1,h2,h3⟩=>?_
        have ax:=h3.lt;exact⟨ge,h1,qo,qo,qo,h3.aV (a9.ab ge ax qo)⟩
      case measure=>simp[intOf];omega
   ·have e1:=AJ z.ab 1
    go_wp2;go_ret;have hn:=aM.ab;subst hn;refine⟨g,cap,R,rfl,by rw[bT.ab,HR.ab,eZ qo],qo,af.ab,λr hr=>(Z.ab r hr).imp id λ⟨b,h1,h2,_,_,h5⟩=>⟨b,h1,qo,h5⟩,hb⟩
theorem MJ(kind:Int)(B:Bk)(a1 a2 a3:qO)(c1 c2 c3:Nat)(w:World)(z:okBk B)(J:BkAt w a1 a2 a3 B):
  Calls Tryz.prog 27 #[In i6 kind,.agg (qbV B a1 c1 a2 c2 a3 c3)] w λe w'=>∃(g cap:Nat) (R:List Co),e=.returned (.slice (qad g) R.length cap)/\(R.length<=1000/\∀r∈R,ActP r.1)/\w.heap.size<=g/\RowIs w' 45 8 g R.length cap (DQ R)/\(∀r∈R,SlEn w.heap.size w' r.2.1 r.2.2 r.1.aB)/\Below w.heap.size w w':=by
 refine(OC kind B a1 a2 a3 c1 c2 c3 w z J).mono ?_;rintro e w' ⟨g,cap,R,rfl,H,h⟩;refine⟨g,cap,R,rfl,⟨?_,λr M=>?_⟩,h⟩
 ·have:=ei List.length H
  rw[ef]at this;rw[this];unfold EJ;split
  ·exact AH (dV ..) (by rw[ef];exact z.1.1)
  ·exact AI _
 ·have F:r.1∈EJ kind B:=by rw[<-H];exact fo M
  unfold EJ at F;split at F
  ·rename_i hv
   obtain⟨s,O,h⟩:=fa.1 (eR.1 F).1;rw[<-h];exact actC_P z (validB_iff.1 hv) O
  ·cases F
end
end Go.Proofs.YtbceafpodamnfaaGreatDoor
