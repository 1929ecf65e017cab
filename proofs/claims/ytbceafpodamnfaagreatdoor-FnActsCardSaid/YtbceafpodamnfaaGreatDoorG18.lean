import Derived.Test.YtbceafpodamnfaaGreatDoorG14
import Derived.Test.YtbceafpodamnfaaGreatDoorG15
set_option linter.all false
set_option maxHeartbeats 8000000
set_option maxRecDepth 100000
namespace Go.Proofs.YtbceafpodamnfaaGreatDoor
section
open Go.RowKit
structure BkRow(w:World)(N g1 g2 g3 k1 k2 k3:Nat)(B:Bk):Prop where
 n1:N<=g1
 n2:N<=g2
 n3:N<=g3
 af:RowIs w 34 13 g1 B.af.length k1 (Ab B.af)
 ah:RowIs w 76 7 g2 B.ah.length k2 (Ar B.ah)
 ak:RowIs w 90 2 g3 B.ak.length k3 (CN B.ak)
theorem RowIs.ne{w:World}{e Y:TypeId}{size F g Z n n' cap J:Nat}{xs M:qL}(h:RowIs w e size g n cap xs)(h':RowIs w Y F Z n' J M)(he:e≠Y):g≠Z:=λhg=>by
 obtain⟨_,_,af,H,_⟩:=h;obtain⟨_,_,W,h2,_⟩:=h';rw[hg,h2]at H;injection H with H
 injection H with _ H
 exact he H.symm
theorem BkRow.cS{w:World}{N g1 g2 g3 k1 k2 k3:Nat}{B:Bk}(h:BkRow w N g1 g2 g3 k1 k2 k3 B):g1≠g2:=h.af.ne h.ah (by decide)
theorem BkRow.cU{w:World}{N g1 g2 g3 k1 k2 k3:Nat}{B:Bk}(h:BkRow w N g1 g2 g3 k1 k2 k3 B):g1≠g3:=h.af.ne h.ak (by decide)
theorem BkRow.cP{w:World}{N g1 g2 g3 k1 k2 k3:Nat}{B:Bk}(h:BkRow w N g1 g2 g3 k1 k2 k3 B):g2≠g3:=h.ah.ne h.ak (by decide)
theorem BkRow.at{w:World}{N g1 g2 g3 k1 k2 k3:Nat}{B:Bk}(h:BkRow w N g1 g2 g3 k1 k2 k3 B):BkAt w (qad g1) (qad g2) (qad g3) B:=⟨h.af.bW,h.ah.bT,h.ak.cx⟩
theorem FA:(Tryz.prog.info? 28).map (·.size)=some 4:=by kernel_rfl
theorem CU(B:Bk)(a1 a2 a3:qO)(c1 c2 c3:Nat)(w:World)(Y:B.aJ)(hB:BkAt w a1 a2 a3 B):
  Calls Tryz.prog 62 #[.agg (qbV B a1 c1 a2 c2 a3 c3)] w λe w'=>∃g1 k1 g2 k2 g3 k3,e=.returned (.agg (qbV B (qad g1) k1 (qad g2) k2 (qad g3) k3))/\BkRow w' w.heap.size g1 g2 g3 k1 k2 k3 B/\Below w.heap.size w w':=by
 obtain⟨bU,bI,bt⟩:=Y;obtain⟨t0,t1,t2⟩:=B1 w (.cells (qbV B a1 c1 a2 c2 a3 c3) 28) (.cells qzV 28);have T0:Hid _:=t0;have T1:Hid _:=t1;have aa:Hid _:=t2;have ax:w.heap.size<((w.alloc (.cells (qbV B a1 c1 a2 c2 a3 c3) 28)).alloc (.cells qzV 28)).heap.size:=by rw[aa.O];omega
 have a9:w.heap.size+1<((w.alloc (.cells (qbV B a1 c1 a2 c2 a3 c3) 28)).alloc (.cells qzV 28)).heap.size:=by rw[aa.O];omega
 clear t0 t1 t2;have Z:Below w.heap.size w ((w.alloc (.cells (qbV B a1 c1 a2 c2 a3 c3) 28)).alloc (.cells qzV 28)):=((dI _ _).alloc (AG _) _).alloc (by simp) _;go_enter Tryz.func62,Tryz.ntmps62;go_wp2;refine AV 15 (by kernel_rfl) (by kernel_rfl) ?_;apply AL
 ·intro V W K A J H F M
  simp only[pA]at F;clear H;obtain rfl:=F;go_wp2;exact M.O _ brf
 apply AL
 ·intro V W K A J H F M
  have d0:V 0=_:=H 0 (by kernel_rfl);simp only[pA,d0]at F;clear H d0;obtain rfl:=F;have e0:=AJ (AK J T0.O ax) 0 rfl;go_wp2;exact M.O _ brf
 refine AW (λv W=>∃g,v=.slice (qad g) 0 0/\w.heap.size+1+1<=g/\qBl W g #[] 34) (λv W W2 ⟨g,h1,h2,h3⟩ hb=>⟨g,h1,h2,AK hb h3 (AB h3).1⟩) ?_ ?_
 ·intro V W K A J H F M
  simp only[pA]at F;clear H;obtain rfl:=F;go_wp2;exact M.O _ _ (AN W _) ⟨_,rfl,by have:=J.size;rw[aa.O]at this;exact this,dm W _⟩
 apply AL
 ·intro V W K A J H F M
  simp only[pA]at F;clear H;obtain rfl:=F;go_wp2;exact M.O _ brf
 apply AL
 ·intro V W K A J H F M
  have d3:V 3=_:=H 3 (by kernel_rfl);simp only[pA,d3]at F;clear H d3;obtain rfl:=F;have e1:=AJ (AK J T0.O ax) 1 rfl;go_wp2;exact M.O _ brf
 refine AW (λv W=>∃g cap,v=.slice (qad g) B.af.length cap/\w.heap.size+1+1<=g/\RowIs W 34 13 g B.af.length cap (Ab B.af)) (λv W W2 ⟨g,cap,h1,h2,h3⟩ hb=>⟨g,cap,h1,h2,h3.below hb h3.lt⟩) ?_ ?_
 ·intro V W K A J H F M
  have d2:(λv W=>∃g,v=.slice (qad g) 0 0/\w.heap.size+1+1<=g/\qBl W g #[] 34) (V 2) W:=H 2 (by kernel_rfl);have d4:V 4=_:=H 4 (by kernel_rfl);simp only[pA,d4]at F;clear H d4;generalize V 2=x2 at d2 F;obtain rfl:=F;obtain⟨g,rfl,hg,an⟩:=d2;refine CX rfl (.tmp 5) (.tmp 7) 24 rfl 34 _ 13 112 Tryz.underlying24 KD rfl g rfl an a1 B.af.length c1 (Ab B.af) rfl (FSa _) (hB.1.below (Z.trans (J.mono Z.size))).bw (Gg _) (by unfold maxLen;omega) (by omega) ?_;intro g' ah w2 ak af av
  have al:w.heap.size+1+1<=g':=by
   have:=J.size;rw[aa.O]at this;rcases ak with rfl|rfl
   ·exact hg
   ·exact this
  go_wp2;exact M.O _ _ av ⟨g',ah,rfl,al,af.O⟩
 refine AW (λv W=>∃g,v=.slice (qad g) 0 0/\w.heap.size+1+1<=g/\qBl W g #[] 76) (λv W W2 ⟨g,h1,h2,h3⟩ hb=>⟨g,h1,h2,AK hb h3 (AB h3).1⟩) ?_ ?_
 ·intro V W K A J H F M
  simp only[pA]at F;clear H;obtain rfl:=F;go_wp2;exact M.O _ _ (AN W _) ⟨_,rfl,by have:=J.size;rw[aa.O]at this;exact this,dm W _⟩
 apply AL
 ·intro V W K A J H F M
  simp only[pA]at F;clear H;obtain rfl:=F;go_wp2;exact M.O _ brf
 apply AL
 ·intro V W K A J H F M
  have d7:V 7=_:=H 7 (by kernel_rfl);simp only[pA,d7]at F;clear H d7;obtain rfl:=F;have e2:=AJ (AK J T0.O ax) 2 rfl;go_wp2;exact M.O _ brf
 refine AW (λv W=>∃g cap,v=.slice (qad g) B.ah.length cap/\w.heap.size+1+1<=g/\RowIs W 76 7 g B.ah.length cap (Ar B.ah)) (λv W W2 ⟨g,cap,h1,h2,h3⟩ hb=>⟨g,cap,h1,h2,h3.below hb h3.lt⟩) ?_ ?_
 ·intro V W K A J H F M
  have d6:(λv W=>∃g,v=.slice (qad g) 0 0/\w.heap.size+1+1<=g/\qBl W g #[] 76) (V 6) W:=H 6 (by kernel_rfl);have d8:V 8=_:=H 8 (by kernel_rfl);simp only[pA,d8]at F;clear H d8;generalize V 6=x6 at d6 F;obtain rfl:=F;obtain⟨g,rfl,hg,an⟩:=d6;refine CX rfl (.tmp 9) (.tmp 11) 25 rfl 76 _ 7 72 Tryz.underlying25 N4 rfl g rfl an a2 B.ah.length c2 (Ar B.ah) rfl (Bz _) (hB.2.1.below (Z.trans (J.mono Z.size))).bw (GU _) (by unfold maxLen;omega) (by omega) ?_;intro g' ah w2 ak af av
  have al:w.heap.size+1+1<=g':=by
   have:=J.size;rw[aa.O]at this;rcases ak with rfl|rfl
   ·exact hg
   ·exact this
  go_wp2;exact M.O _ _ av ⟨g',ah,rfl,al,af.O⟩
 refine AW (λv W=>∃g,v=.slice (qad g) 0 0/\w.heap.size+1+1<=g/\qBl W g #[] 90) (λv W W2 ⟨g,h1,h2,h3⟩ hb=>⟨g,h1,h2,AK hb h3 (AB h3).1⟩) ?_ ?_
 ·intro V W K A J H F M
  simp only[pA]at F;clear H;obtain rfl:=F;go_wp2;exact M.O _ _ (AN W _) ⟨_,rfl,by have:=J.size;rw[aa.O]at this;exact this,dm W _⟩
 apply AL
 ·intro V W K A J H F M
  simp only[pA]at F;clear H;obtain rfl:=F;go_wp2;exact M.O _ brf
 apply AL
 ·intro V W K A J H F M
  have ai:V 11=_:=H 11 (by kernel_rfl);simp only[pA,ai]at F;clear H ai;obtain rfl:=F;have e3:=AJ (AK J T0.O ax) 3 rfl;go_wp2;exact M.O _ brf
 refine AW (λv W=>∃g cap,v=.slice (qad g) B.ak.length cap/\w.heap.size+1+1<=g/\RowIs W 90 2 g B.ak.length cap (CN B.ak)) (λv W W2 ⟨g,cap,h1,h2,h3⟩ hb=>⟨g,cap,h1,h2,h3.below hb h3.lt⟩) ?_ ?_
 ·intro V W K A J H F M
  have ar:(λv W=>∃g,v=.slice (qad g) 0 0/\w.heap.size+1+1<=g/\qBl W g #[] 90) (V 10) W:=H 10 (by kernel_rfl);have am:V 12=_:=H 12 (by kernel_rfl);simp only[pA,am]at F;clear H am;generalize V 10=bf at ar F;obtain rfl:=F;obtain⟨g,rfl,hg,an⟩:=ar;refine CX rfl (.tmp 13) (.tmp 15) 26 rfl 90 _ 2 24 Tryz.underlying26 MF rfl g rfl an a3 B.ak.length c3 (CN B.ak) rfl (If _) (hB.2.2.below (Z.trans (J.mono Z.size))).bw (Lf _) (by unfold maxLen;omega) (by omega) ?_;intro g' ah w2 ak af av
  have al:w.heap.size+1+1<=g':=by
   have:=J.size;rw[aa.O]at this;rcases ak with rfl|rfl
   ·exact hg
   ·exact this
  go_wp2;exact M.O _ _ av ⟨g',ah,rfl,al,af.O⟩
 refine AW (λv W=>∃g1 k1 g2 k2 g3 k3,v=.agg (qbV B (qad g1) k1 (qad g2) k2 (qad g3) k3)/\(w.heap.size+1+1<=g1/\RowIs W 34 13 g1 B.af.length k1 (Ab B.af))/\(w.heap.size+1+1<=g2/\RowIs W 76 7 g2 B.ah.length k2 (Ar B.ah))/\(w.heap.size+1+1<=g3/\RowIs W 90 2 g3 B.ak.length k3 (CN B.ak))) (λv W W2 ⟨g1,k1,g2,k2,g3,k3,h,⟨p1,r1⟩,⟨p2,r2⟩,⟨p3,r3⟩⟩ hb=>⟨g1,k1,g2,k2,g3,k3,h,⟨p1,r1.below hb r1.lt⟩,⟨p2,r2.below hb r2.lt⟩,⟨p3,r3.below hb r3.lt⟩⟩) ?_ ?_
 ·intro V W K A J H F M
  have d1:V 1=_:=H 1 (by kernel_rfl);have d5:(λv W=>∃g cap,v=.slice (qad g) B.af.length cap/\w.heap.size+1+1<=g/\RowIs W 34 13 g B.af.length cap (Ab B.af)) (V 5) W:=H 5 (by kernel_rfl);have d9:(λv W=>∃g cap,v=.slice (qad g) B.ah.length cap/\w.heap.size+1+1<=g/\RowIs W 76 7 g B.ah.length cap (Ar B.ah)) (V 9) W:=H 9 (by kernel_rfl);have aq:(λv W=>∃g cap,v=.slice (qad g) B.ak.length cap/\w.heap.size+1+1<=g/\RowIs W 90 2 g B.ak.length cap (CN B.ak)) (V 13) W:=H 13 (by kernel_rfl);simp only[pA,d1]at F;clear H d1;generalize V 5=x5 at d5 F;generalize V 9=x9 at d9 F;generalize V 13=a7 at aq F;obtain rfl:=F;obtain⟨g1,k1,rfl,p1,r1⟩:=d5;obtain⟨g2,k2,rfl,p2,r2⟩:=d9;obtain⟨g3,k3,rfl,p3,r3⟩:=aq;have R1:Hid (RowIs W 34 13 g1 B.af.length k1 (Ab B.af)):=r1;have R2:Hid (RowIs W 76 7 g2 B.ah.length k2 (Ar B.ah)):=r2;have R3:Hid (RowIs W 90 2 g3 B.ak.length k3 (CN B.ak)):=r3;clear r1 r2 r3;go_wp2;exact M.O _ _ brf ⟨g1,k1,g2,k2,g3,k3,rfl,⟨p1,R1.O⟩,⟨p2,R2.O⟩,⟨p3,R3.O⟩⟩
 intro V W A J Y F;have d0:V 0=_:=Y 0 (by omega);have d1:V 1=_:=Y 1 (by omega);have d2:(λv W=>∃g,v=.slice (qad g) 0 0/\w.heap.size+1+1<=g/\qBl W g #[] 34) (V 2) W:=Y 2 (by omega);have d3:V 3=_:=Y 3 (by omega);have d4:V 4=_:=Y 4 (by omega);have d5:(λv W=>∃g cap,v=.slice (qad g) B.af.length cap/\w.heap.size+1+1<=g/\RowIs W 34 13 g B.af.length cap (Ab B.af)) (V 5) W:=Y 5 (by omega);have d6:(λv W=>∃g,v=.slice (qad g) 0 0/\w.heap.size+1+1<=g/\qBl W g #[] 76) (V 6) W:=Y 6 (by omega);have d7:V 7=_:=Y 7 (by omega);have d8:V 8=_:=Y 8 (by omega);have d9:(λv W=>∃g cap,v=.slice (qad g) B.ah.length cap/\w.heap.size+1+1<=g/\RowIs W 76 7 g B.ah.length cap (Ar B.ah)) (V 9) W:=Y 9 (by omega);have ar:(λv W=>∃g,v=.slice (qad g) 0 0/\w.heap.size+1+1<=g/\qBl W g #[] 90) (V 10) W:=Y 10 (by omega);have ai:V 11=_:=Y 11 (by omega);have am:V 12=_:=Y 12 (by omega);have aq:(λv W=>∃g cap,v=.slice (qad g) B.ak.length cap/\w.heap.size+1+1<=g/\RowIs W 90 2 g B.ak.length cap (CN B.ak)) (V 13) W:=Y 13 (by omega);have aE:(λv W=>∃g1 k1 g2 k2 g3 k3,v=.agg (qbV B (qad g1) k1 (qad g2) k2 (qad g3) k3)/\(w.heap.size+1+1<=g1/\RowIs W 34 13 g1 B.af.length k1 (Ab B.af))/\(w.heap.size+1+1<=g2/\RowIs W 76 7 g2 B.ah.length k2 (Ar B.ah))/\(w.heap.size+1+1<=g3/\RowIs W 90 2 g3 B.ak.length k3 (CN B.ak))) (V 14) W:=Y 14 (by omega);simp only[pA,d0,d1,d3,d4,d7,d8,ai,am]at F;clear Y d0 d1 d3 d4 d7 d8 ai am;generalize V 2=x2 at d2 F;generalize V 5=x5 at d5 F;generalize V 6=x6 at d6 F;generalize V 9=x9 at d9 F
 generalize V 10=bf at ar F;generalize V 13=a7 at aq F;generalize V 14=bO at aE F;obtain rfl:=F;simp only[dl,dF];obtain⟨g1,k1,g2,k2,g3,k3,rfl,⟨p1,r1⟩,⟨p2,r2⟩,⟨p3,r3⟩⟩:=aE;clear d2 d5 d6 d9 ar aq;have a6:=Z.trans (J.mono Z.size);refine AM rfl 28 (.tmp 2) (.tmp 17) rfl (w.heap.size+1) 0 (qbV B (qad g1) k1 (qad g2) k2 (qad g3) k3) rfl rfl 28 qzV (AK J T1.O a9) FA (AD rfl) (by simp[Value.oneCell']) ?_;intro wf hz on;have RF:Hid (qBl wf (w.heap.size+1) (qbV B (qad g1) k1 (qad g2) k2 (qad g3) k3) 28):=hz;have HR:Hid (BkRow wf w.heap.size g1 g2 g3 k1 k2 k3 B):=⟨by omega,by omega,by omega,r1.aR (on.aB _ (by omega)),r2.aR (on.aB _ (by omega)),r3.aR (on.aB _ (by omega))⟩;have a8:Below w.heap.size w wf:=a6.trans (on.below.mono (by omega));clear hz on r1 r2 r3;have p0:=AJ RF.O 0 rfl;have q1:=AJ RF.O 1 rfl;have q2:=AJ RF.O 2 rfl;have q3:=AJ RF.O 3 rfl;go_wp2;refine dS (v:=.agg (qbV B (qad g1) k1 (qad g2) k2 (qad g3) k3)) (by simp[results,Tryz.results62,go_sem,p0,q1,q2,q3]) rfl ⟨g1,k1,g2,k2,g3,k3,rfl,HR.O,a8⟩
def G7:List En->Bool
 |x::y::l=>decide (x.ai<y.ai)&&G7 (y::l)
 |_=>true
theorem Ii:∀l:List En,G7 l=true↔∀i x y,l[i]?=some x->l[i+1]?=some y->x.ai<y.ai
 |[]=>by simp[G7]
 |[x]=>by simp[G7]
 |x::y::l=>by
  unfold G7;rw[cY,dM,Ii (y::l)];constructor
  ·rintro⟨H,J⟩ i a b F hb
   match i,F,hb with
   |0,F,hb=>obtain rfl:=dg F;obtain rfl:=dg hb;exact H
   |i+1,F,hb=>exact J i a b (by simpa using F) (by simpa using hb)
  ·intro h
   exact⟨h 0 x y rfl rfl,λi a b F hb=>h (i+1) a b (by simpa using F) (by simpa using hb)⟩
theorem Ri{l:List En}{i:Nat}{x y:En}(hx:l[i]?=some x)(F:l[i+1]?=some y)(h:¬x.ai<y.ai):G7 l=false:=by
 cases H:G7 l
 ·rfl
 ·exact absurd ((Ii l).1 H i x y hx F) h
def Bg(A:Ac):Bool:=inB A.am 0 20&&decide (A.aw.length<=200)&&G7 A.aw&&(if A.az then inB A.av 0 10&&inB A.ay 0 3 else A.av==0&&A.ay==0)&&(!A.drop||(A.am==0&& !A.az&&A.aw.length==0))
def Cr(B:Bk)(A:Ac)(e:En):Bool:=(B.ah.find? (isC A.aa e.ai)).isSome
def CD(B:Bk)(A:Ac)(e:En):Bool:=match B.ah.find? (isC A.aa e.ai) with
 |some c=>c.ag==e.aF
 |none=>false
def Hg(B:Bk)(A:Ac):Option Int:=if Bg A then(match Ah B A.aa with
 |none=>some 3
 |some s=>if A.aw.all (Cr B A) then(if s.ag==A.aF then(if A.aw.all (CD B A) then none else some 4) else some 4) else some 3) else some 2
theorem Ql{l:List En}{p:En->Bool}{j:Nat}{x:En}(hx:l[j]?=some x)(h:p x=false):l.all p=false:=by
 rw[jd];exact⟨x,AE hx,by rw[h];decide⟩
theorem Nt{l:List En}{p:En->Bool}(h:∀i x,i<l.length->l[i]?=some x->p x=true):l.all p=true:=by
 rw[dh];intro x hx;obtain⟨i,F⟩:=List.mem_iff_getElem?.1 hx;exact h i x (AC F).1 F
def Bu(v:Int)(c:Cp):Cp:={c with au:=true,ag:=v}
def Cv(c:Cp):ByteArray × Int:=(c.aa,c.ai)
def Cm(sv:qB)(v:Int)(l:List Cp)(num:Int):List Cp:=match l.findIdx? (isC sv num) with
 |some i=>(match l[i]? with
  |some c=>l.set i (Bu v c)
  |none=>l)
 |none=>l
def BL(B:Bk)(s:Svc)(sv:qB)(v:Int):List En->List Cp->Option (List Cp)
 |[],l=>some l
 |e::es,l=>match l.find? (isC sv e.ai) with
  |some c=>if FY {B with ah:=l} s sv c then BL B s sv v es (Cm sv v l e.ai) else none
  |none=>none
theorem PO{l:List Cp}{i:Nat}{c:Cp}(h:l[i]?=some c)(v:Int):(l.set i (Bu v c)).map Cv=l.map Cv:=by
 rw[List.map_set];refine fp λj=>?_
 by_cases H:i=j
 ·subst H
  have F:i<l.length:=(AC h).1;rw[eC (by rw[fw];exact F),eh,h];rfl
 ·rw[gI H]
theorem SI{l l':List Cp}(h:l.map Cv=l'.map Cv)(sv:qB)(num:Int):(l.find? (isC sv num)).isSome=(l'.find? (isC sv num)).isSome:=by
 have e:isC sv num=(λk:ByteArray × Int=>k.1.toList==sv.toList&&k.2==num) ∘ Cv:=rfl;have a:=List.find?_map (f:=Cv) (p:=λk:ByteArray × Int=>k.1.toList==sv.toList&&k.2==num) (l:=l);have b:=List.find?_map (f:=Cv) (p:=λk:ByteArray × Int=>k.1.toList==sv.toList&&k.2==num) (l:=l');rw[<-e]at a b;rw[<-Option.isSome_map (f:=Cv),<-a,h,b,Option.isSome_map]
theorem Gr{sv:qB}{v:Int}{l:List Cp}{num:Int}{i:Nat}{c:Cp}(F:IX l sv num=(i:Int))(H:l[i]?=some c):Cm sv v l num=l.set i (Bu v c):=by
 unfold IX FI at F;unfold Cm
 cases hf:l.findIdx? (isC sv num) with
 |none=>rw[hf]at F;simp at F
 |some J=>
  rw[hf]at F;obtain rfl:J=i:=Int.ofNat.inj F;simp only[H]
theorem Hj:(Tryz.prog.info? 3).map (·.size)=some 1:=by kernel_rfl
theorem BW{w w':World}{k:Nat}{o:Obj}(hb:Below w.heap.size w w')(h:w.heap[k]?=some o):w'.heap[k]?=some o:=AK hb h (AB h).1
theorem RowIs.bC{w:World}{e:TypeId}{g n cap:Nat}{l:List Svc}(h:RowIs w e 13 g n cap (Ab l)){k:Nat}{s:Svc}(hk:l[k]?=some s):SvcAt w g (k*13) s:=by
 obtain⟨b,off,J,_,F⟩:=h.bW (by intro H;rw[H]at hk;simp at hk);cases J;have:=F k s hk
 rwa [dJ]at this
theorem JS(B:Bk)(sv:qB):(BD B sv).bg B.ah.length:=by
 unfold BD;split
 ·unfold Cnt.none Cnt.bg
  simp
 ·exact E5 _ _ _ _ (AG _)
def BY(A:Ac)(s:Svc)(N:Cnt):Bool:=A.drop&&(!s.aH||decide (0<N.aI+N.au))
def AQ(A:Ac)(s:Svc):Svc:=if A.az then {s with av:=A.av,ay:=A.ay} else s
def CC(A:Ac)(s:Svc)(N:Cnt):Bool:=decide (0<A.am)&&(s.aH||decide (s.av+s.aE<N.aI+A.am))
def BA(A:Ac)(s:Svc):Bool:=A.az&&(s.aM==0|| !inB A.av s.aC s.aK)
def DO(B:Bk)(A:Ac)(s:Svc):Bool:=decide (200<(B.ah.length:Int)+A.am)||decide (1000000<s.next+A.am)||decide (1000000<=B.aj)
def DC(B:Bk)(A:Ac)(s:Svc)(L:List Cp):Int:=
 if BY A s (BD B A.aa) then 6 else if CC A (AQ A s) (BD {B with ah:=L} A.aa) then 6 else if BA A (AQ A s) then 6 else if DO B A (AQ A s) then 7 else 0
theorem Fh{A:Ac}{s:Svc}(h:A.az=true):AQ A s={s with av:=A.av,ay:=A.ay}:=by unfold AQ;rw[dB h]
theorem Gi{A:Ac}{s:Svc}(h:A.az=false):AQ A s=s:=by unfold AQ;rw[dC (by rw[h];decide)]
def Jz(l:List Cp)(c:Cp):List Cp:=l.takeWhile (λx=>Ak x c)++c::l.drop (l.takeWhile (λx=>Ak x c)).length
def D2(B:Bk)(A:Ac)(s:Svc)(t:Nat):Cp:=⟨A.aa,s.next+t,B.aj+1,s.ar,1,false,⟨#[]⟩⟩
def G5(B:Bk)(A:Ac)(s:Svc)(L:List Cp):Nat->List Cp
 |0=>L
 |t+1=>Jz (G5 B A s L t) (D2 B A s t)
def By(B:Bk)(A:Ac)(s:Svc):Svc:={AQ A s with next:=s.next+A.am,ag:=B.aj+1}
def DI(B:Bk)(A:Ac)(s:Svc)(k:Nat):List Svc:=if A.drop then B.af.take k++B.af.drop (k+1) else B.af.set k (By B A s)
def LT(B:Bk)(A:Ac)(s:Svc)(L:List Cp)(k:Nat):Bk:=⟨B.aj+1,DI B A s k,G5 B A s L A.am.toNat,B.ak⟩
theorem putC_len(l:List Cp)(c:Cp):(Jz l c).length=l.length+1:=by
 unfold Jz;have h:=(iI (p:=λx=>Ak x c) (l:=l)).length_le;rw[dE,dL,dW];omega
theorem GK(B:Bk)(A:Ac)(s:Svc)(L:List Cp):∀t,(G5 B A s L t).length=L.length+t
 |0=>rfl
 |t+1=>by
  show(Jz _ _).length=_;rw[putC_len,GK B A s L t];omega
theorem OI{α:Type}{p:α->Bool}:∀{l:List α} {k:Nat},k<=l.length->(∀(i:Nat) s,i<k->l[i]?=some s->p s=true)->(∀s,l[k]?=some s->p s=false)->(l.takeWhile p).length=k
 |[],k,hk,_,_=>by simp at hk;simp[hk]
 |x::l,0,_,_,h=>by rw[gO,dC (by rw[h x rfl];simp)];rfl
 |x::l,k+1,hk,H,M=>by
  have J:(l.takeWhile p).length=k:=OI (by simpa using hk) (λi s W F=>H (i+1) s (by omega) (by simpa using F)) (λs F=>M s (by simpa using F));rw[gO,dB (H 0 x (by omega) rfl),dL,J]
theorem GD{α:Type}(p:α->Bool):∀l:List α,l.takeWhile p=l.take (l.takeWhile p).length
 |[]=>rfl
 |x::l=>by
  rw[gO];split
  ·rw[dL,gv,<-GD p l]
  ·rfl
theorem putC_at{l:List Cp}{c:Cp}{m:Nat}(h:(l.takeWhile (λx=>Ak x c)).length=m):Jz l c=l.take m++c::l.drop m:=by
 unfold Jz;rw[h,GD,h]
theorem RowIs.cpAt{w:World}{e:TypeId}{g n cap:Nat}{l:List Cp}(h:RowIs w e 7 g n cap (Ar l)){k:Nat}{s:Cp}(hk:l[k]?=some s):CpAt w g (k*7) s:=by
 obtain⟨b,off,J,_,F⟩:=h.bT (by intro H;rw[H]at hk;simp at hk);cases J;have:=F k s hk
 rwa [dJ]at this
def Bc(B:Bk)(A:Ac):Int:=match Hg B A with
 |some c=>c
 |none=>match Ah B A.aa with
  |none=>3
  |some s=>match BL B s A.aa (B.aj+1) A.aw B.ah with
   |none=>5
   |some L=>DC B A s L
def Az(B:Bk)(A:Ac):Bk:=match Ah B A.aa with
 |none=>B
 |some s=>match BL B s A.aa (B.aj+1) A.aw B.ah with
  |none=>B
  |some L=>LT B A s L (L6 B.af A.aa).toNat
theorem QO{B:Bk}{A:Ac}(h:Hg B A=none):Bg A=true/\∃s,Ah B A.aa=some s/\A.aw.all (Cr B A)=true/\s.ag=A.aF/\A.aw.all (CD B A)=true:=by
 unfold Hg at h;split at h
 ·rename_i J
  refine⟨J,?_⟩;split at h
  ·cases h
  ·rename_i s M
   split at h
   ·rename_i H
    split at h
    ·rename_i hv
     split at h
     ·rename_i F
      exact⟨s,M,H,eq_of_beq hv,F⟩
     ·cases h
    ·cases h
   ·cases h
 ·cases h
theorem Du{A:Ac}(h:Bg A=true):0<=A.am/\A.am<=20:=by
 unfold Bg at h;simp only[cY]at h;exact inB_iff.1 h.1.1.1.1
theorem PV{A:Ac}(h:Bg A=true):Hid (A.az=true->0<=A.av/\A.av<=10):=λH=>by
 unfold Bg at h;simp only[cY]at h;have F:=h.1.2;rw[dB H,cY]at F;exact inB_iff.1 F.1
theorem early_ne{B:Bk}{A:Ac}{c:Int}(h:Hg B A=some c):c≠0:=by
 unfold Hg at h;split at h
 ·split at h
  ·cases h;decide
  ·split at h
   ·split at h
    ·split at h
     ·cases h
     ·cases h;decide
    ·cases h;decide
   ·cases h;decide
 ·cases h;decide
def Av(B:Bk)(A:Ac):Bk:=if Bc B A=0 then Az B A else B
theorem LH(sv:qB)(v:Int)(l:List Cp)(num:Int):(Cm sv v l num).length=l.length:=by
 unfold Cm;split
 ·split
  ·rw[du]
  ·rfl
 ·rfl
theorem Gq(B:Bk)(s:Svc)(sv:qB)(v:Int):∀(es:List En) (l L:List Cp),BL B s sv v es l=some L->L.length=l.length
 |[],l,L,h=>by cases h;rfl
 |e::es,l,L,h=>by
  unfold BL at h;split at h
  ·split at h
   ·rw[Gq B s sv v es _ L h,LH]
   ·cases h
  ·cases h
theorem Hz{α:Type}{c:α->List Value}{n:Nat}(F:∀s,(c s).length=n):∀(l:List α) (i:Nat),(l.take i).flatMap c=(l.flatMap c).take (i*n)
 |[],i=>by simp
 |x::l,0=>by simp
 |x::l,i+1=>by
  have e:(c x).take ((i+1)*n)=c x:=er (by rw[F,fG];omega);rw[gv,eI,eI,Hz F l i,List.take_append,e,F,show(i+1)*n - n=i*n by rw[fG];omega]
theorem LO{α:Type}{c:α->List Value}{n:Nat}(F:∀s,(c s).length=n):∀(l:List α) (i:Nat),(l.drop i).flatMap c=(l.flatMap c).drop (i*n)
 |[],i=>by simp
 |x::l,0=>by simp
 |x::l,i+1=>by
  have e:(c x).drop ((i+1)*n)=[]:=gV (by rw[F,fG];omega);rw[dl,LO F l i,eI,List.drop_append,e,eZ,F,show(i+1)*n - n=i*n by rw[fG];omega]
theorem RowIs.bQ{α:Type}{w:World}{e:TypeId}{size g n cap:Nat}{c:α->List Value}{l:List α}(h:RowIs w e size g n cap (l.flatMap c))(H:∀s,(c s).length=size)(i:Nat):∀j u,((l.drop i).flatMap c)[j]?=some u->w.cell? ((⟨g,i*size,none⟩:Addr).add j)=some u:=λj u F=>by
 rw[LO H,ej]at F;rw[fJ];exact h.cell F
theorem RowIs.cj{α:Type}{w:World}{e:TypeId}{size g n cap:Nat}{c:α->List Value}{l:List α}(h:RowIs w e size g n cap (l.flatMap c))(H:∀s,(c s).length=size)(i:Nat):∀j u,((l.take i).flatMap c)[j]?=some u->w.cell? ((⟨g,0,none⟩:Addr).add j)=some u:=λj u F=>by
 rw[Hz H]at F;rw[fJ,dJ]
 exact h.cell (by
  rw[eK]at F;split at F
  ·exact F
  ·cases F)
theorem code_2{B:Bk}{A:Ac}(h:Bg A=false):Bc B A=2:=by unfold Bc Hg;rw[h];rfl
theorem Qa{B:Bk}{A:Ac}(h:Bg A=true)(F:Ah B A.aa=none\/A.aw.all (Cr B A)=false):Bc B A=3:=by
 unfold Bc Hg;rw[h];simp only[gM]
 cases H:Ah B A.aa with
 |none=>rfl
 |some s=>
  rcases F with F|F
  ·rw[H]at F;cases F
  ·simp[F]
theorem LR{B:Bk}{A:Ac}{s:Svc}(h:Bg A=true)(F:Ah B A.aa=some s)(H:A.aw.all (Cr B A)=true):Hg B A=if(s.ag==A.aF&&A.aw.all (CD B A))=true then none else some 4:=by
 unfold Hg;rw[h,F];simp only[gM,H];cases s.ag==A.aF<;>cases A.aw.all (CD B A)<;>rfl
theorem QZ{B:Bk}{A:Ac}{s:Svc}(h:Bg A=true)(F:Ah B A.aa=some s)(H:A.aw.all (Cr B A)=true)(hv:(s.ag==A.aF&&A.aw.all (CD B A))=false):Bc B A=4:=by
 unfold Bc;rw[LR h F H,hv];rfl
theorem code_5{B:Bk}{A:Ac}{s:Svc}(h:Bg A=true)(F:Ah B A.aa=some s)(H:A.aw.all (Cr B A)=true)(hv:(s.ag==A.aF&&A.aw.all (CD B A))=true)(J:BL B s A.aa (B.aj+1) A.aw B.ah=none):Bc B A=5:=by
 unfold Bc;rw[LR h F H,hv,F];simp only[gM,J]
theorem M0{B:Bk}{A:Ac}{s:Svc}{L:List Cp}(h:Bg A=true)(F:Ah B A.aa=some s)(H:A.aw.all (Cr B A)=true)(hv:(s.ag==A.aF&&A.aw.all (CD B A))=true)(J:BL B s A.aa (B.aj+1) A.aw B.ah=some L):Bc B A=DC B A s L:=by
 unfold Bc;rw[LR h F H,hv,F];simp only[gM,J]
theorem JB{B:Bk}{s:Svc}{sv:qB}{v u:Int}:∀(es:List En) (l:List Cp),BL B {s with ag:=u} sv v es l=BL B s sv v es l
 |[],_=>rfl
 |e::es,l=>by
  show(match l.find? (isC sv e.ai) with|some c=>if FY {B with ah:=l} s sv c then BL B {s with ag:=u} sv v es (Cm sv v l e.ai) else none|none=>none)=_;rw[show BL B s sv v (e::es) l=(match l.find? (isC sv e.ai) with|some c=>if FY {B with ah:=l} s sv c then BL B s sv v es (Cm sv v l e.ai) else none|none=>none) from rfl]
  cases l.find? (isC sv e.ai) with
  |none=>rfl
  |some c=>simp only[JB es]
theorem Fi(A:Ac)(s:Svc)(u:Int):BA A (AQ A {s with ag:=u})=BA A s/\BA A (AQ A s)=BA A s/\BA A {s with ag:=u}=BA A s:=by
 unfold BA AQ;cases A.az<;>exact⟨rfl,rfl,rfl⟩
theorem LL{B:Bk}{A:Ac}{s:Svc}{L:List Cp}(h:BA A s=true):DC B A s L=6:=by
 unfold DC;rw[(Fi A s 0).2.1,h];cases BY A s (BD B A.aa)<;>cases CC A (AQ A s) (BD {B with ah:=L} A.aa)<;>rfl
theorem Mk{B:Bk}{A:Ac}{s:Svc}{L:List Cp}(h:CC A (AQ A s) (BD {B with ah:=L} A.aa)=true):DC B A s L=6:=by
 unfold DC;rw[h];cases BY A s (BD B A.aa)<;>rfl
theorem Ml{B:Bk}{A:Ac}{s:Svc}{L:List Cp}(h:BY A s (BD B A.aa)=true):DC B A s L=6:=by
 unfold DC;rw[h];rfl
theorem Mi{B:Bk}{A:Ac}{s:Svc}{L:List Cp}(F:BA A s=false)(H:CC A (AQ A s) (BD {B with ah:=L} A.aa)=false)(J:BY A s (BD B A.aa)=false):DC B A s L=if DO B A (AQ A s) then 7 else 0:=by
 unfold DC;rw[(Fi A s 0).2.1,F,H,J];rfl
theorem Mg{sv:qB}{v:Int}{l:List Cp}{num:Int}{i:Nat}{c:Cp}(h:(Cm sv v l num)[i]?=some c):∃d,l[i]?=some d/\(c=d\/(c=Bu v d/\isC sv num d=true)):=by
 unfold Cm at h;split at h
 ·rename_i k hk
  split at h
  ·rename_i d F
   by_cases e:k=i
   ·subst e
    have J:=(AC F).1;rw[fc,dB rfl,dB J]at h;cases h;obtain⟨M,H,_⟩:=fV.1 hk;rw[(AC F).2]at H;exact⟨d,F,.inr ⟨rfl,H⟩⟩
   ·rw[gI e]at h
    exact⟨c,h,.inl rfl⟩
  ·exact⟨c,h,.inl rfl⟩
 ·exact⟨c,h,.inl rfl⟩
theorem GO{B:Bk}{s:Svc}{sv:qB}{v:Int}:∀(es:List En) (l L:List Cp),BL B s sv v es l=some L->∀(i:Nat) c,L[i]?=some c->∃d,l[i]?=some d/\(c=d\/c=Bu v d)
 |[],l,L,h,i,c,J=>by cases h;exact⟨c,J,.inl rfl⟩
 |e::es,l,L,h,i,c,J=>by
  unfold BL at h;split at h
  ·split at h
   ·obtain⟨d,Y,H⟩:=GO es _ L h i c J
    obtain⟨W,M,F⟩:=Mg Y;refine⟨W,M,?_⟩;rcases F with rfl|⟨rfl,_⟩
    ·exact H
    ·rcases H with rfl|rfl
     ·exact .inr rfl
     ·exact .inr rfl
   ·cases h
  ·cases h
theorem putC_mem{l:List Cp}{c x:Cp}(h:x∈Jz l c):x=c\/x∈l:=by
 unfold Jz at h;rcases dt.1 h with h|h
 ·exact .inr (iI _ |>.subset h)
 ·rcases dy.1 h with h|h
  ·exact .inl h
  ·exact .inr (ep h)
theorem IM{B:Bk}{A:Ac}{s:Svc}{L:List Cp}{x:Cp}:∀{t:Nat},x∈G5 B A s L t->x∈L\/∃j,j<t/\x=D2 B A s j
 |0,h=>.inl h
 |t+1,h=>by
  rcases putC_mem h with h|h
  ·exact .inr ⟨t,by omega,h⟩
  ·rcases IM h with h|⟨j,F,h⟩
   ·exact .inl h
   ·exact .inr ⟨j,by omega,h⟩
theorem Lb{B:Bk}{A:Ac}(h:Bc B A=0):∃s L,Bg A=true/\Ah B A.aa=some s/\A.aw.all (Cr B A)=true/\s.ag=A.aF/\A.aw.all (CD B A)=true/\BL B s A.aa (B.aj+1) A.aw B.ah=some L/\DC B A s L=0/\Az B A=LT B A s L (L6 B.af A.aa).toNat:=by
 unfold Bc at h;unfold Az
 cases F:Hg B A with
 |some c=>rw[F]at h;exact absurd h (early_ne F)
 |none=>
  rw[F]at h;obtain⟨M,s,J,W,Z,Y⟩:=QO F;simp only[J]at h ⊢
  cases H:BL B s A.aa (B.aj+1) A.aw B.ah with
  |none=>simp only[H]at h;exact absurd h (by decide)
  |some L=>rw[H]at h;exact⟨s,L,M,rfl,W,Z,Y,H,h,by simp only[H]⟩
theorem Kk{B:Bk}{nm:qB}{s:Svc}(h:Ah B nm=some s):s.name=nm:=same_nm.1 (by have:=fN h;exact this)
theorem Ex(B:Bk)(A:Ac)(s:Svc):(By B A s).name=s.name:=by unfold By AQ;cases A.az<;>rfl
theorem Lh{B:Bk}(A:Ac)(W:Valid B)(H:okBk B):okBk (Av B A):=by
 unfold Av
 by_cases F:Bc B A=0
 ·rw[dB F]
  obtain⟨s,L,h1,Z,_,_,_,Y,_,M⟩:=Lb F;rw[M];have hL:=Gq _ _ _ _ _ _ _ Y;have af:=Du h1;have l1:=W.ls;have l2:=W.lc;have l3:=W.lb;have J:=H.2.1 s (CQ Z);refine⟨⟨?_,?_,by show B.ak.length<=_;omega⟩,λx hx=>?_,λx hx=>?_,H.2.2.2⟩
  ·show(DI B A s _).length<=_
   unfold DI;split
   ·rw[dE,dG,dW];omega
   ·rw[du];omega
  ·show(G5 B A s L A.am.toNat).length<=_
   rw[GK,hL];omega
  ·have hx:x∈DI B A s _:=hx
   unfold DI at hx;split at hx
   ·rcases dt.1 hx with hx|hx
    ·exact H.2.1 x (eE hx)
    ·exact H.2.1 x (ep hx)
   ·rcases eu hx with hx|hx
    ·exact H.2.1 x hx
    ·rw[hx,Ex];exact J
  ·rcases IM (show x∈G5 B A s L A.am.toNat from hx) with hx|⟨j,_,rfl⟩
   ·obtain⟨i,hi⟩:=ef hx
    obtain⟨d,M,e⟩:=GO _ _ _ Y i x hi;have:=H.2.2.1 d (AE M);rcases e with rfl|rfl<;>exact this
   ·refine⟨?_,AI _⟩
    show A.aa.size<=maxLen;rw[<-Kk Z];exact J
 ·rw[dC F]
  exact H
def Bk.bJ(B:Bk):Prop:=∀c∈B.ah, -9223372036854775808<=c.ai/\c.ai<=9223372036854775807
theorem Valid.bJ{B:Bk}(H:Valid B):B.bJ:=λc Y=>by
 obtain⟨s,W,F⟩:=H.bA Y;have J:=H.bc (CQ W);have h0:=J.br;have h1:=J.bI;unfold FP at F;simp only[cY,inB_iff]at F;have Z:=F.1.1.1;have M:wrap64 (s.next - 1)=s.next - 1:=by unfold wrap64;omega
 rw[M]at Z;omega
def B4(B:Bk)(A:Ac):Bk:=if Ag B then Av B A else⟨0,[],[],[]⟩
def F7(B:Bk)(A:Ac):Int:=if Ag B then Bc B A else 1
theorem ans_ok{B:Bk}(A:Ac)(F:okBk B):okBk (B4 B A):=by
 unfold B4;cases h:Ag B
 ·exact⟨⟨AI _,AI _,AI _⟩,λ_ h=>(nomatch h),λ_ h=>(nomatch h),λ_ h=>(nomatch h)⟩
 ·exact Lh A (validB_iff.1 h) F
theorem ans_nums{B:Bk}(A:Ac)(M:B.bJ):(B4 B A).bJ:=by
 unfold B4;cases h:Ag B
 ·exact λ_ h=>(nomatch h)
 ·have hV:=validB_iff.1 h
  show(Av B A).bJ;unfold Av
  by_cases F:Bc B A=0
  ·rw[dB F]
   obtain⟨s,L,h1,Z,_,_,_,Y,_,H⟩:=Lb F;rw[H];intro x hx;rcases IM (show x∈G5 B A s L A.am.toNat from hx) with hx|⟨j,hj,rfl⟩
   ·obtain⟨i,W⟩:=ef hx
    obtain⟨d,H,e⟩:=GO _ _ _ Y i x W;have:=M d (AE H);rcases e with rfl|rfl<;>exact this
   ·have J:=hV.bc (CQ Z)
    have h3:=J.br;have h4:=J.bI;have h5:=Du h1;show _<=s.next+(j:Int)/\s.next+(j:Int)<=_;omega
  ·rw[dC F]
   exact M
theorem Ns{B:Bk}(A:Ac)(H:B.af.length<=999/\B.ah.length<=999/\B.ak.length<=999):(B4 B A).af.length<=999/\(B4 B A).ah.length<=999/\(B4 B A).ak.length<=999:=by
 unfold B4;cases h:Ag B
 ·exact⟨AI _,AI _,AI _⟩
 ·have W:=validB_iff.1 h
  show(Av B A).af.length<=999/\(Av B A).ah.length<=999/\(Av B A).ak.length<=999;unfold Av
  by_cases F:Bc B A=0
  ·rw[dB F]
   obtain⟨s,L,J,hs,_,_,_,Z,_,M⟩:=Lb F;rw[M];have hL:=Gq _ _ _ _ _ _ _ Z;have Y:=Du J;have l2:=W.lc;refine⟨?_,?_,H.2.2⟩
   ·show(DI B A s _).length<=_
    unfold DI;split
    ·rw[dE,dG,dW];omega
    ·rw[du];omega
   ·show(G5 B A s L A.am.toNat).length<=_
    rw[GK,hL];omega
  ·rw[dC F]
   exact H
section
variable {P:Program} {ops:Array Oper} {Q:Exit->Act->World->Prop} {r c n:Nat} {q:Int} {w0:World} {a0:Act} {S:Nat->Value->World->Prop}
def RIn(r c n:Nat)(q:Int)(w0:World)(m:Nat)(W:World):Prop:=Past r w0.heap.size w0 W/\Rd r W (q+((n - m)*c:Nat))
def RStep(r c:Nat)(W W':World):Prop:=Past r W.heap.size W W'/\∀q,Rd r W q->Rd r W' (q+c)
theorem RStep.of{W W':World}(h:Below W.heap.size W W'):RStep r c W W':=⟨.of h,λ_ F=>(F.below h).mono (by omega)⟩
theorem RStep.re(W:World):RStep r c W W:=.of (dI _ _)
def Pb(P:Program)(ops:Array Oper)(r c n:Nat)(q:Int)(w0:World)(a0:Act)(S:Nat->Value->World->Prop)(i:Nat)(o:Oper)(T:Value->World->Prop):Prop:=
 ∀(V:Nat->Value) (W:World) (K:Act->World->Prop),Past r w0.heap.size w0 W->Rd r W (q+(n*c:Nat))->(∀j,Region.waitsFor .any ops i j=true->S j (V j) W)->
  Hid (∀v W',RStep r c W W'->T v W'->K ((Ae ops V n a0).put o.dst v) W')->wpList P ops (Cj K) [o] (Ae ops V n a0) W
def IB(r c:Nat)(T:Value->World->Prop):Prop:=∀v W W',T v W->RStep r c W W'->(∃q,Rd r W q)->T v W'
theorem rin_step{m:Nat}{W W':World}(H:m<n)(h:RIn r c n q w0 (m+1) W)(F:RStep r c W W'):RIn r c n q w0 m W':=by
 refine⟨h.1.next (AG _) F.1,(F.2 _ h.2).mono ?_⟩;have:(n - m)*c=(n - (m+1))*c+c:=by rw[show n - m=n - (m+1)+1 by omega,fi,Nat.one_mul]
 omega
theorem Q4{m:Nat}{W:World}(h:RIn r c n q w0 m W):Rd r W (q+(n*c:Nat)):=h.2.mono (by
 have:=ed c (Nat.sub_le n m)
 omega)
theorem N8{g:Nat}
  (hw:∀F,HeadInv .any ops n F->∀i,i<n->F.getD i true=false->∀t,n<=t->t∉Region.ready .any ops F)
  (hn:n<=ops.size) (af:EL .any ops n=true) (hd:Cs ops n=true)
  (aq:∀j,IB r c (S j))
  (ar:∀i o,i<n->ops[i]?=some o->Pb P ops r c n q w0 a0 S i o (S i))
  (Y:∀V W,RIn r c n q w0 0 W->(∀j,j<n->S j (V j) W)->wpAny P .any ops Q g (Br ops n) (Ae ops V n a0) W):
  ∀(m:Nat) (F:Array Bool) (V:Nat->Value) (W:World),HeadInv .any ops n F->Bw n F=m->RIn r c n q w0 m W->(∀j,j<n->F.getD j false=true->S j (V j) W)->
   wpAny P .any ops Q (m+g) F (Ae ops V n a0) W
 |0,F,V,W,H,hm,hb,hS=>by
  have J:∀i,i<n->F.getD i true=true:=by
   intro i hi;have:=fZ.1 hm i (dA.2 hi)
   simpa using this
  rw[DH H J,dJ];refine Y V W hb λj hj=>hS j hj ?_
  have:=J j hj;have ay:j<F.size:=by rw[H.size];omega
  simp[ay]at this ⊢;exact this
 |m+1,F,V,W,H,hm,hb,hS=>by
  obtain⟨u,hu,Z⟩:∃u,u<n/\F.getD u true=false:=by
   have:0<Bw n F:=by omega
   obtain⟨u,hu,Z⟩:=gP.1 this;exact⟨u,dA.1 hu,by simpa using Z⟩
  have aw:m<n:=by
   have:Bw n F<=(List.range n).length:=List.countP_le_length;rw[List.length_range]at this;omega
  rw[show m+1+g=(m+g)+1 by omega];refine⟨λh0=>absurd h0 (D3 af H u hu Z),λi hi=>?_⟩
  have M:i<n:=by
   rcases eG i n with h|h
   ·exact h
   ·exact absurd hi (hw F H u hu Z i h)
  obtain⟨aF,o,ho,J⟩:=iO.1 hi;refine DV ho (ar i o M ho V W _ hb.1 (Q4 hb) (λj hj=>?_) λv W' am aC=>?_)
  ·obtain⟨oj,aE,e,he,an,ax⟩:=Region.waitsFor_spec hj
   have:oj=o:=dg (aE.symm.trans ho);subst this;have hl:=J e he an;rw[ax]at hl
   have az:j<n:=by
    have h1:=dh.1 af i (dA.2 M);rw[ho]at h1;have h2:=fD.1 h1 e he;rw[an]at h2;have h3:e.on<i:=by simpa using h2
    omega
   exact hS j az hl
  ·have ai:o.dst=(ops[i]?).bind (·.dst):=by rw[ho];rfl
   rw[ai,Eo hd M];have aA:i<F.size:=by rw[H.size];exact(AB ho).1
   refine N8 hw hn af hd aq ar Y m _ _ W' (H.set hi M) (by have:=Er M aA aF;omega) (rin_step aw hb am) λj hj hl=>?_
   by_cases aa:j=i
   ·subst aa
    simpa [upd] using aC
   ·rw[fQ false (Ne.symm aa)]at hl
    have:=aq j (V j) W W' (hS j hj hl) am ⟨_,hb.2⟩
    simpa [upd,aa] using this
theorem M6{id:Nat}{a:Act}{w:World}{l:List Oper}(n:Nat)(S:Nat->Value->World->Prop)(hm:P.follows .mixedOrders=true)(hB:Ap l.toArray n=true)(hr:Rd r w q)
  (al:∀j,IB r c (S j)) (an:∀i o,i<n->l.toArray[i]?=some o->Pb P l.toArray r c n q w a S i o (S i))
  (J:∀V W,Past r w.heap.size w W->Rd r W (q+(n*c:Nat))->(∀j,j<n->S j (V j) W)->wpList P l.toArray Q (l.drop n) (Ae l.toArray V n a) W):(Code.region id l.toArray true).wp P Q a w:=by
 simp only[Ap,cY,dM]at hB;obtain⟨⟨⟨⟨⟨hn,hs⟩,hc⟩,am⟩,hd⟩,aa⟩:=hB;refine iw hm ?_
 have M:HeadInv .any l.toArray n (Array.replicate l.toArray.size false):=
  ⟨by simp,λj oj _ Z=>(by rw[getD_replicate_false]at Z;cases Z),λt _ ht=>getD_in (by simpa using ht) (getD_replicate_false _ _)⟩
 have Y:Below w.heap.size w {w with drawn:=w.drawn+1}:=⟨rfl,rfl,rfl,AG _,λ_ _=>rfl⟩
 have F:Bw n (Array.replicate l.toArray.size false)=n:=by
  unfold Bw;rw[gh.2]
  ·simp
  ·intro i hi
   have:i<l.toArray.size:=by have:=dA.1 hi;omega
   rw[getD_in (by simpa using this) (getD_replicate_false _ _)];rfl
 have H:=N8 (P:=P) (Q:=Q) (g:=l.toArray.size - n) (S:=S) (w0:=w) (a0:=a) (r:=r) (c:=c) (q:=q) (λag ak i hi hu t ht=>tail_waits hs hc hn ak _ i rfl hi hu t ht) (by omega) am hd al an
  (λV W hb hS=>by
   have af:(l.drop n).length=l.toArray.size - n:=by simp
   have:=wpAny_of_seq (md:=.any) (Q':=Q) (l.drop n) n (Br l.toArray n) _ W (λj=>by simp[ej]) (by rw[af];exact aa) (J V W hb.1 (Q4 hb) hS)
   rwa [af]at this)
  n _ (λj=>match (l.toArray[j]?).bind (·.dst) with|some d=>a.tmps.getD d undef|none=>undef) {w with drawn:=w.drawn+1} M F ⟨.of Y,(hr.below Y).mono (by omega)⟩ (λj _ Z=>by rw[getD_replicate_false]at Z;cases Z)
 have e:Ae l.toArray (λj=>match (l.toArray[j]?).bind (·.dst) with|some d=>a.tmps.getD d undef|none=>undef) n a=a:=D1 a n;rw[e,show n+(l.toArray.size - n)=l.toArray.size by omega]at H;exact H
def Hq(P:Program)(ops:Array Oper)(r c n:Nat)(q:Int)(w0:World)(a0:Act)(L:(Nat->Value->World->Prop)->Prop):List Oper->Nat->(Nat->Value->World->Prop)->Prop
 |[],_,S=>L S
 |o::rest,i,S=>∃T,IB r c T/\Pb P ops r c n q w0 a0 S i o T/\Hq P ops r c n q w0 a0 L rest (i+1) (Is S i T)
theorem Dh{L:(Nat->Value->World->Prop)->Prop}{o:Oper}{rest:List Oper}{i:Nat}(T:Value->World->Prop)(M:IB r c T)
  (h:∀(V:Nat->Value) (W:World) (K:Act->World->Prop) (A:Act),Past r w0.heap.size w0 W->Rd r W (q+(n*c:Nat))->(∀j,Region.waitsFor .any ops i j=true->S j (V j) W)->Hid (A=Ae ops V n a0)->
   Hid (∀v W',RStep r c W W'->T v W'->K (A.put o.dst v) W')->wpList P ops (Cj K) [o] A W)
  (H:Hq P ops r c n q w0 a0 L rest (i+1) (Is S i T)):Hq P ops r c n q w0 a0 L (o::rest) i S:=⟨T,M,λV W K hb J F Y=>h V W K _ hb J F rfl Y,H⟩
theorem Q6{L:(Nat->Value->World->Prop)->Prop}{o:Oper}{rest:List Oper}{i:Nat}{u:Value}
  (h:∀(V:Nat->Value) (W:World) (K:Act->World->Prop) (A:Act),Past r w0.heap.size w0 W->Rd r W (q+(n*c:Nat))->(∀j,Region.waitsFor .any ops i j=true->S j (V j) W)->Hid (A=Ae ops V n a0)->
   Hid (∀W',RStep r c W W'->K (A.put o.dst u) W')->wpList P ops (Cj K) [o] A W)
  (J:Hq P ops r c n q w0 a0 L rest (i+1) (Is S i λv _=>v=u)):Hq P ops r c n q w0 a0 L (o::rest) i S:=
 ⟨λv _=>v=u,λ_ _ _ h _ _=>h,λV W K hb M H Y=>h V W K _ hb M H rfl λW' F=>Y.O u W' F rfl,J⟩
theorem Kx{L:(Nat->Value->World->Prop)->Prop}(Y:EL .any ops n=true):∀(l:List Oper) (k:Nat) (S:Nat->Value->World->Prop),k+l.length=n->(∀j,j<l.length->l[j]?=ops[k+j]?)->
  (∀j,IB r c (S j))->(∀i o,i<k->ops[i]?=some o->Pb P ops r c n q w0 a0 S i o (S i))->Hq P ops r c n q w0 a0 L l k S->
  ∃Z,(∀j,IB r c (Z j))/\(∀i o,i<n->ops[i]?=some o->Pb P ops r c n q w0 a0 Z i o (Z i))/\L Z
 |[],k,S,hk,_,hl,F,h=>⟨S,hl,by rw[show n=k by simpa using hk.symm];rw[show n=k by simpa using hk.symm]at F;exact F,h⟩
 |o::l,k,S,hk,hs,hl,F,⟨T,hT,ho,h⟩=>by
  have h0:ops[k]?=some o:=by simpa using (hs 0 (by simp)).symm
  have J:∀i j,i<n->Region.waitsFor .any ops i j=true->j<i:=λi j hi H=>by
   obtain⟨oj,ak,e,he,ag,av⟩:=Region.waitsFor_spec H;have h1:=dh.1 Y i (dA.2 hi);rw[ak]at h1;have h2:=fD.1 h1 e he;rw[ag]at h2;have h3:e.on<i:=by simpa using h2
   omega
  have af:k<n:=by simp only[dL]at hk;omega
  refine Kx Y l (k+1) _ (by simp only[dL]at hk;omega) (λj H=>by have:=hs (j+1) (by simp;omega);simpa [eq,iE 1 j] using this) (λj=>?_) (λi o' hi M=>?_) h
  ·by_cases e:j=k
   ·subst e;rw[Eb];exact hT
   ·rw[DJ _ _ e];exact hl j
  ·by_cases e:i=k
   ·subst e
    have:o'=o:=dg (M.symm.trans h0);subst this;rw[Eb];exact λV W K hb hq hd hK=>ho V W K hb hq (λj H=>by have:=hd j H;rwa [DJ _ _ (by have:=J i j af H;omega)]at this) hK
   ·rw[DJ _ _ e]
    exact λV W K hb hq hd hK=>F i o' (by omega) M V W K hb hq (λj H=>by have:=hd j H;rwa [DJ _ _ (by have:=J i j (by omega) H;omega)]at this) hK
theorem EE{id:Nat}{a:Act}{w:World}{l:List Oper}(n r c:Nat)(q:Int)(Y:P.follows .mixedOrders=true)(J:Ap l.toArray n=true)(hr:Rd r w q)
  (h:Hq P l.toArray r c n q w a (λS=>∀V W A,Past r w.heap.size w W->Rd r W (q+(n*c:Nat))->(∀j,j<n->S j (V j) W)->Hid (A=Ae l.toArray V n a)->wpList P l.toArray Q (l.drop n) A W) (l.take n) 0 λ_ _ _=>True):(Code.region id l.toArray true).wp P Q a w:=by
 have F:=J;simp only[Ap,cY,dM]at F;obtain⟨⟨⟨⟨⟨hn,_⟩,_⟩,H⟩,_⟩,_⟩:=F;have am:n<l.length:=by simpa using hn
 obtain⟨S,h1,h2,h3⟩:=Kx H (l.take n) 0 _ (by simp;omega) (λj hj=>by
  have:j<n:=by simp at hj;omega
  simp[this]) (λ_ _ _ _ _ _ _=>trivial) (λi o M=>absurd M (by omega)) h
 exact M6 n S Y J hr h1 h2 λV W hb hq Z=>h3 V W _ hb hq Z rfl
end
structure AP where
 nm:ByteArray
 se:Int
 cr:Int
 wa:Int
 co:Int
 sc:Bool
 en:List En
 ce:Nat
 dr:Bool
def AP.v(i:Nat)(p:AP):Value:=acV p.nm p.se p.cr p.wa p.co p.sc (.iface i (.slice none p.en.length p.ce)) p.dr
def AP.cs(i:Nat)(p:AP):List Value:=[.string p.nm,.int .i64 p.se,.int .i64 p.cr,.int .i64 p.wa,.int .i64 p.co,.bool p.sc,.iface i (.slice none p.en.length p.ce),.bool p.dr]
theorem enL_inj(x y:En)(h:enL x=enL y):x=y:=by
 cases x;cases y;simp only[enL,dv,fF,fu,dV]at h;simp only[En.mk.injEq];exact h
theorem AP.inj{p F:AP}{i:Nat}(hv:p.v i=F.v i)(h:A9 88 2 enL p.en=A9 88 2 enL F.en):p=F:=by
 have e:=Fj enL_inj h;obtain⟨a1,a2,a3,a4,a5,a6,a7,J,a9⟩:=p;obtain⟨Z,Y,W,b4,H,b6,b7,M,b9⟩:=F;have:=em Array.toList (ix hv);simp at this;simp only at e;obtain⟨rfl,rfl,rfl,rfl,rfl,rfl,⟨_,rfl⟩,rfl⟩:=this;rw[e]
section
variable {RD:(Nat->Prop)->World->Nat->Nat->Prop}
end
def Rds{X:Type}(b:VB)(sz:Nat)(f:X->List Value)(l:List X):Prop:=(b.kd=1\/b.kd=3)/\b.sz=sz/\l.length<=b.n/\∀j,j<l.length->∀k,(∀x,l[j]?=some x->k (f x))->b.Q j k
theorem Rds.row{X:Type}{ty sz:Nat}{f:X->List Value}{l:List X}:Rds (A9 ty sz f l) sz f l:=⟨.inl rfl,rfl,AG _,λ_ _ _ h=>h⟩
theorem Rds.le{X:Type}{ρ:List (Nat × Nat)}{b:VB}{ty sz cp:Nat}{f:X->List Value}{l:List X}(h:LeB ρ b (An ty sz cp f l)):Rds b sz f l:=⟨.inr h.kd,h.sz,h.n,λj F k hk=>h.Q j F k hk⟩
theorem Hold.bh{RD:(Nat->Prop)->World->Nat->Nat->Prop}{w0 w:World}{G:Gh}{q i sz:Nat}{b:VB}{X:Type}{f:X->List Value}{l:List X}(h:Hold RD w0 G w q i b)(hz:∀k,G.Z k->k<w.heap.size)(hr:Rds b sz f l)(hl:l≠[]):
  ∃g off,G.α i=some ⟨g,off,none⟩/\g<w.heap.size/\∀j x,l[j]?=some x->∀k u,(f x)[k]?=some u->w.cell? ⟨g,off+j*sz+k,none⟩=some u:=by
 obtain⟨hk,rfl,Z,hQ⟩:=hr;have h0:0<l.length:=iW.2 hl;have J:∀j x el,l[j]?=some x->(∀k,b.Q j k->k el)->el=f x:=λj x el hx hk=>hk _ (hQ j (AC hx).1 (λe=>e=f x) λy Y=>by rw[hx]at Y;cases Y;rfl)
 rcases hk with hk|hk
 ·obtain⟨g,o,_,M,e2,_,_⟩:=h.k1 hk 0 (by omega)
  refine⟨g,o,M,hz g e2,λj x hx k u F=>?_⟩;obtain⟨g',o',el,H,_,e3,e4⟩:=h.k1 hk j (AF (AC hx).1 Z);rw[M]at H;cases H;rw[<-J j x el hx e3]at F;exact(e4.1 k u F).1
 ·obtain⟨g,els,M,_,_,_,r1,r2,r3,r4⟩:=h.k3 hk
  refine⟨g,0,M,r3.lt,λj x hx k u F=>?_⟩;have hj:j<els.length:=by rw[r1];exact AF (AC hx).1 Z
  have W:els[j]?=some els[j]:=by simp
  rw[<-J j x _ hx (r4 j _ W).1]at F;rw[dJ];refine r3.cell ?_;have hd:=RR (λe he=>(r2 e he).1) j
  have:(els.flatten.drop (j*b.sz))[k]?=some u:=by
   rw[<-hd,eH hj,fe,dU (AC F).1];exact F
  rw[ej]at this;exact this
theorem Gw{RD:(Nat->Prop)->World->Nat->Nat->Prop}{w0 w:World}{G:Gh}{q i1 i2 i3:Nat}{b1 Z Y:VB}{B:Bk}(W:∀k,G.Z k->k<w.heap.size)(h1:Hold RD w0 G w q i1 b1)(h2:Hold RD w0 G w q i2 Z)(h3:Hold RD w0 G w q i3 Y)(r1:Rds b1 13 svL B.af)(r2:Rds Z 7 cpL B.ah)(r3:Rds Y 2 btL B.ak):BkAt w (G.α i1) (G.α i2) (G.α i3) B:=by
 refine⟨λF=>?_,λF=>?_,λF=>?_⟩
 ·obtain⟨g,o,e,J,H⟩:=h1.bh W r1 F
  exact⟨g,o,e,J,λi s M=>by
   have c:=H i s M;unfold SvcAt
   exact⟨c 0 _ rfl,c 1 _ rfl,c 2 _ rfl,c 3 _ rfl,c 4 _ rfl,c 5 _ rfl,c 6 _ rfl,c 7 _ rfl,c 8 _ rfl,c 9 _ rfl,c 10 _ rfl,c 11 _ rfl,c 12 _ rfl⟩⟩
 ·obtain⟨g,o,e,J,H⟩:=h2.bh W r2 F
  exact⟨g,o,e,J,λi s M=>by
   have c:=H i s M;unfold CpAt
   exact⟨c 0 _ rfl,c 1 _ rfl,c 2 _ rfl,c 3 _ rfl,c 4 _ rfl,c 5 _ rfl,c 6 _ rfl⟩⟩
 ·obtain⟨g,o,e,J,H⟩:=h3.bh W r3 F
  exact⟨g,o,e,J,λi s M=>by
   have c:=H i s M;unfold BtAt
   exact⟨c 0 _ rfl,c 1 _ rfl⟩⟩
def bkO(B:Bk)(v:Value)(es:AY):Prop:=∃k1 k2 k3,v=.agg #[.int .i64 B.aj,.iface 0 (.slice none B.af.length k1),.iface 1 (.slice none B.ah.length k2),.iface 2 (.slice none B.ak.length k3)]/\es=[(0,An 34 13 k1 svL B.af),(1,An 76 7 k2 cpL B.ah),(2,An 90 2 k3 btL B.ak)]
abbrev QU:Ct:=ctV (λp:BP=>[p.v]) (λp=>p.m) (λp=>p.tn) λp=>bkO p.B
theorem Rg{RD:(Nat->Prop)->World->Nat->Nat->Prop}(hR:B9 RD):B7 Tryz.prog RD 62 0 QU:=by
 intro w0 G w q id vs es k0 Z Y aa ag _ _ hC;obtain⟨⟨B,c1,c2,c3⟩,J,⟨t1,t2,t3⟩,_⟩:=hC;obtain⟨W,M,ah,_,_,hM⟩:=Ld (q':=0) (r:=false) (X:=λ_=>False) hR (λ_ h=>h.elim) (λh=>nomatch h) Z ag J (nt:=100) rfl;have t1:B.af.length<=1000:=t1;have t2:B.ah.length<=1000:=t2;have t3:B.ak.length<=1000:=t3;have hB:BkAt w (W.α 0) (W.α 1) (W.α 2) B:=Gw (λk hk=>(ah k hk).1) (hM 0 _ rfl).2.1 (hM 1 _ rfl).2.1 (hM 2 _ rfl).2.1 .row .row .row;have ha:(vs.map (r2 G.α)).toArray=#[.agg #[.int .i64 B.aj,.slice (W.α 0) B.af.length c1,.slice (W.α 1) B.ah.length c2,.slice (W.α 2) B.ak.length c3]]:=by rw[<-M];simp[BP.v,r2,r1,r0]
 rw[ha];refine(CU B _ _ _ c1 c2 c3 w ⟨by omega,by omega,by omega⟩ hB).mono ?_;rintro e w' ⟨g1,k1,g2,k2,g3,k3,rfl,F,hb⟩;have af:∀l:List Svc,Ab l=(l.map svL).flatten:=λl=>fI
 have ak:∀l:List Cp,Ar l=(l.map cpL).flatten:=λl=>fI
 have al:∀l:List Bt,CN l=(l.map btL).flatten:=λl=>fI
 rw[show(Value.agg (qbV B (qad g1) k1 (qad g2) k2 (qad g3) k3))=r2 (λx=>match x with|0=>some ⟨g1,0,none⟩|1=>some ⟨g2,0,none⟩|_=>some ⟨g3,0,none⟩) (.agg #[.int .i64 B.aj,.iface 0 (.slice none B.af.length k1),.iface 1 (.slice none B.ah.length k2),.iface 2 (.slice none B.ak.length k3)]) from by simp[r2,r1,r0]];refine LV (C:=QU vs es id) (v:=.agg #[.int .i64 B.aj,.iface 0 (.slice none B.af.length k1),.iface 1 (.slice none B.ah.length k2),.iface 2 (.slice none B.ak.length k3)]) (es':=[(0,An 34 13 k1 svL B.af),(1,An 76 7 k2 cpL B.ah),(2,An 90 2 k3 btL B.ak)]) (β:=λx=>match x with|0=>some ⟨g1,0,none⟩|1=>some ⟨g2,0,none⟩|_=>some ⟨g3,0,none⟩) (cost:=0) (X:=λ_=>False) (λ_ h=>h.elim) (λg hg hd=>hR _ _ _ _ _ _ _ hd (λ_ h=>h) (hb.block g (Y g hg)) (λk hk=>hb.block k (Z k hk).1) (AG _)) Z Y aa ⟨hb.os,hb.tape,hb.output,hb.size,λk hk _=>hb.block k hk⟩ rfl (λx b hx=>?_) (λx b y c hx hy am=>?_) (f:=(id+ ·)) (λx hx=>?_) λk hk=>?_
 ·simp only[dy,dH,eP,dw]at hx
  rcases hx with⟨rfl,rfl⟩|⟨rfl,rfl⟩|⟨rfl,rfl⟩
  ·exact⟨g1,_,rfl,F.n1,RowK.of NA (af _▸F.af)⟩
  ·exact⟨g2,_,rfl,F.n2,RowK.of Nm (ak _▸F.ah)⟩
  ·exact⟨g3,_,rfl,F.n3,RowK.of Np (al _▸F.ak)⟩
 ·have aE:=F.cS
  have ax:=F.cU;have aA:=F.cP;simp only[dy,dH,eP,dw]at hx hy;rcases hx with⟨rfl,_⟩|⟨rfl,_⟩|⟨rfl,_⟩<;>rcases hy with⟨rfl,_⟩|⟨rfl,_⟩|⟨rfl,_⟩<;>first|exact absurd rfl am|(intro e;cases e;contradiction)
 ·have hx:x∈[0,1,2]:=hx
  simp only[dy,dH,eP]at hx;rcases hx with rfl|rfl|rfl<;>exact .inl ⟨_,rfl,rfl⟩
 ·obtain⟨p',H,_,hk⟩:=hk
  rw[J]at H;simp only[dw,dv,dV,BP.m,bkM,fu]at H;have:=BP.inj H.1 H.2.1 H.2.2.1 H.2.2.2;subst this;exact hk _ _ ⟨k1,k2,k3,rfl,rfl⟩
end
end Go.Proofs.YtbceafpodamnfaaGreatDoor
