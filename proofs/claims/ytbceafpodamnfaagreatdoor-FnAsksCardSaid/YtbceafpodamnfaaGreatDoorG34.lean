import Derived.Test.YtbceafpodamnfaaGreatDoorG33
import Derived.Stop.Asserts
import Derived.LaidEql
import Derived.OneCell
import Derived.RowKitTokens
set_option linter.all false
set_option maxHeartbeats 16000000
set_option maxRecDepth 100000
namespace Go.Proofs.YtbceafpodamnfaaGreatDoor
section
open Go.RowKit Go.Sort
open Go.Value renaming int->In,slice->Sl,string->Sg,bool->Bo,pointer->Po
open Go.IntKind renaming i64->i6
def KeepB(b:Nat)(w w':World):Prop:=w.heap.size<=w'.heap.size/\∀q,q<w.heap.size->q≠b->w'.heap[q]?=w.heap[q]?
theorem KeepB.toT{b:Nat}{w w':World}{e:TypeId}{cs:Array Value}{fr:Nat × Nat}(h:KeepB b w w')(hb:w.heap[b]?=some (.cells cs e fr)):KeepT e w w':=
 ⟨h.1,λk hk z=>h.2 k hk λF=>by subst F;exact z _ _ hb⟩
theorem KeepB.refl(b:Nat)(w:World):KeepB b w w:=⟨AG,λ_ _ _=>rfl⟩
theorem KeepB.below{b:Nat}{w w' z:World}(h:KeepB b w w')(hb:Below w'.heap.size w' z):KeepB b w z:=
 ⟨AH h.1 hb.size,λq H F=>(hb.block q (AF H h.1)).trans (h.2 q H F)⟩
theorem KeepB.ai{b:Nat}{w w' F:World}(h:KeepB b w w')(H:BH b w' F):KeepB b w F:=
 ⟨by rw[H.size];exact h.1,λq J z=>(H.aL q z).trans (h.2 q J z)⟩
theorem relp_row{p g:Nat}{w w':World}{i:Nat}{e:TypeId}{size b n cap:Nat}{xs:qL}(F:i≠p)(h:RowIs w e size b n cap xs)(z:OA p g i w w'):RowIs w' e size b n cap xs:=by
 unfold OA at z;split at z
 ·rename_i hb
  exact absurd (dh hb) F
 ·exact h.below z h.lt
def ScaleIs(N g:Nat)(A:Ac)(ae:qO)(ce:Nat)(X:Bk)(s:Svc)(k:Nat)(I:List Int)(e:Ending)(w':World):Prop:=
 (BA A s=false/\e=.returned (.tuple #[])/\WkAt w' N g A ae ce {X with ah:=X.ah.set k (AR A s)} k I)\/
 (BA A s=true/\e=.panicked (OQ 6))
theorem Qb{l:List Svc}{k:Nat}{s:Svc}(h:l[k]?=some s):l.set k s=l:=by
 refine fZ λj=>?_
 by_cases z:k=j
 ·subst z
  rw[eJ (AC h).1,h]
 ·rw[gV z]
theorem U8(A:Ac)(ae:qO)(ce:Nat)(X:Bk)(s:Svc)(N g k:Nat)(I:List Int)(w:World)(bm:X.ah.length<=1048576)(hN:N<=w.heap.size)(hk:X.ah[k]?=some s)(cc:Hid (BA A s=false))(F:WkAt w N g A ae ce X k I):
  Calls Tryz.prog 189 #[.pointer (qad g)] w λe w'=>ScaleIs N g A ae ce X s k I e w'/\Below N w w':=by
 have b5:=Hw F;obtain⟨b1,b2,b3,d1,d2,d3,ve,b9,hg,al,aH⟩:=F;have aI:k<X.ah.length:=(AC hk).1;obtain⟨g1,e1,aF,am⟩:=al.ah.some qo;subst e1;obtain⟨n1,ak⟩:∃n,Hid (X.ah.length=n):=⟨_,rfl⟩;obtain⟨n2,ax⟩:∃n,Hid (X.ar.length=n):=⟨_,rfl⟩;obtain⟨n3,ay⟩:∃n,Hid (X.aw.length=n):=⟨_,rfl⟩;obtain⟨ne,aN⟩:∃n,Hid (I.length=n):=⟨_,rfl⟩;obtain⟨r2,r3⟩:RowN w N 76 7 b2 X.ar.length d2 (Ay X.ar)/\RowN w N 90 2 b3 X.aw.length d3 (Cd X.aw):=⟨al.ar,al.aw⟩;clear al;rw[ak.ab]at am hg aI bm;rw[ax.ab]at r2 hg;rw[ay.ab]at r3 hg;rw[aN.ab]at aH;have HK:Hid _:=hk;have HG:Hid _:=hg;have aB:Hid (RowIs w 34 13 g1 n1 d1 (Af X.ah)):=am;have bT:=Bs r2;have bX:=Bs r3;have bD:Hid (w.ownsRow N 3 1 ve ne (Cn I)):=aH;have bn:g<w.heap.size:=(AB hg).1;have aj:g1<w.heap.size:=am.lt;clear hk hg am r2 r3 aH;have e5:=AJ HG.ab 5;rcases gc A.aJ with Y|Y
 rotate_left
 ·have bS:Hid (BA A s=false):=by unfold Hid BA;rw[Y];rfl
  have b0:Hid (AR A s=s):=IQ Y;rw[Y]at e5;clear Y;go_enter Tryz.func189,Tryz.ntmps189;go_wp2;refine dF (results_none rfl _ _ _) rfl ?_;refine⟨.inl ⟨bS.ab,rfl,?_⟩,dG _ _⟩;rw[b0.ab,Qb HK.ab];exact b5.ab
 have aD:Hid _:=Y;rw[Y]at e5;clear Y;have aQ:Hid (SvcAt w g1 (k*13) s):=aB.ab.bL HK.ab;obtain⟨pb,az⟩:∃b,Hid ((s.aQ !=0)=b):=⟨_,rfl⟩;obtain⟨ib,aw⟩:∃b,Hid (inB A.au s.az s.aI=b):=⟨_,rfl⟩;go_enter Tryz.func189,Tryz.ntmps189
 go_upto_region 2 with(go_at_call 247;refine(Ej A ae ce X.av g g1 n1 d1 k _ _ _ _ aI bm HG.ab).mono ?_;rintro e w1 ⟨rfl,O⟩)
 have aq:Hid _:=AK O HG.ab bn;have Z:Hid (SvcAt w1 g1 (k*13) s):=aQ.ab.below O aj;have bd:g<w1.heap.size:=AF bn O.size;have aa:g1<w1.heap.size:=AF aj O.size;clear e5;have af:=cc.ab;unfold BA at af;rw[aD.ab,aw.ab]at af;cases pb
 ·rw[show(s.aQ==0)=true by have:=az.ab;simpa [bne] using this]at af;cases af
 have bO:Hid (ib=true):=by unfold Hid;cases ib;simp at af;rfl
 clear af;refine AU 21 ?_;apply AL
 ·intro V W K A J H z M
  simp only[pA]at z;subst z;go_wp2;exact M.ab _ brf
 iterate 2 refine qA0 qP ?_
 apply qA0
 ·intro V W K A J H z M
  simp only[pA,qv (H 2)]at z;subst z;have hq:=Z.ab.below J aa;unfold SvcAt at hq;obtain⟨q0,q1,q2,q3,q4,q5,q6,q7,q8,q9,bo,bq,bv⟩:=hq;go_wp2;exact M
 refine AZ (λv _=>v=.bool true) (λ_ _ _ h _=>h) ?_ ?_
 ·intro V W K A J H z M
  simp only[pA,qv (H 3)]at z;subst z;go_wp2;exact M.ab _ _ brf (by rw[az.ab])
 apply qA0
 ·intro V W K A J H z M
  have d4:=H 4;simp only[pA]at z;generalize V 4=x4 at d4 z;subst z;obtain rfl:=d4;go_wp2;exact M
 iterate 4 refine qA0 qP ?_
 apply qA0
 ·intro V W K A J H z M
  simp only[pA,qv (H 5),qv (H 9)]at z;subst z;have e3:=AJ (AK J aq.ab bd) 3;go_wp2;exact M
 iterate 3 refine qA0 qP ?_
 apply qA0
 ·intro V W K A J H z M
  simp only[pA,qv (H 5),qv (H 13)]at z;subst z;have hq:=Z.ab.below J aa;unfold SvcAt at hq;obtain⟨q0,q1,q2,q3,q4,q5,q6,q7,q8,q9,bo,bq,bv⟩:=hq;go_wp2;exact M
 iterate 3 refine qA0 qP ?_
 apply qA0
 ·intro V W K A J H z M
  simp only[pA,qv (H 5),qv (H 17)]at z;subst z;have hq:=Z.ab.below J aa;unfold SvcAt at hq;obtain⟨q0,q1,q2,q3,q4,q5,q6,q7,q8,q9,bo,bq,bv⟩:=hq;go_wp2;exact M
 refine AZ (λv _=>v=.bool ib) (λ_ _ _ h _=>h) ?_ ?_
 ·intro V W K A J H z M
  simp only[pA,qv (H 5),qv (H 10),qv (H 14),qv (H 18)]at z;subst z
  go_wp2_with (go_at_call 91;refine(A8 _ _ _ _).mono ?_;rintro e w' ⟨rfl,rfl⟩)
  exact M.ab _ _ brf (by rw[aw.ab])
 apply qA0
 ·intro V W K A J H z M
  have ah:=H 19;simp only[pA,qv (H 5)]at z;generalize V 19=ch at ah z;subst z;obtain rfl:=ah;go_wp2;exact M
 intro V W A J F z;have d4:=F 4;have ah:=F 19;simp only[pA,qv (F 0),qv (F 1),qv (F 2),qv (F 3),qv (F 5),qv (F 6),qv (F 7),qv (F 8),qv (F 9),qv (F 10),qv (F 11),qv (F 12),qv (F 13),qv (F 14),qv (F 15),qv (F 16),qv (F 17),qv (F 18),qv (F 20)]at z;clear F;generalize V 4=x4 at d4 z;generalize V 19=ch at ah z;subst z;simp only[dA,dN];obtain rfl:=d4;obtain rfl:=ah;have ag:Hid _:=AK J aq.ab bd;have aC:Hid (RowIs W 34 13 g1 n1 d1 (Af X.ah)):=(aB.ab.below O aj).below J aa;have aG:=O.trans (J.mono O.size)
 have b4:Hid (BA A s=!ib):=by
  unfold Hid BA;rw[aD.ab,show(s.aQ==0)=false by have:=az.ab;simpa [bne] using this,aw.ab];rfl
 have bk:g≠g1:=λe=>by
  subst e;obtain⟨_,_,b7,hc,_⟩:=aC.ab;have:=ag.ab;rw[hc]at this;injection this with this
  injection this with _ this
  exact absurd this qd
 have be:g<W.heap.size:=(AB ag.ab).1;have b8:N<=W.heap.size:=AH hN aG.size;clear J aq Z aQ O HG aB;obtain rfl:=bO.ab
 go_upto_region 3 with(go_at_call 183;refine(Cl 6 _).mono ?_;rintro e w2 ⟨rfl,rfl⟩)
 obtain⟨wb,cd⟩:∃x,x=W:=⟨_,rfl⟩;subst cd;obtain⟨aS,HT⟩:∃T:World->Prop,Hid (∀W,T W↔RowIs W 34 13 g1 n1 d1 (Af (X.ah.set k {s with au:=A.au}))):=⟨_,λW=>Iff.rfl⟩;refine EP 17 14 g1 (λW=>KeepB g1 wb W/\Below N wb W) (λW=>RowIs W 34 13 g1 n1 d1 (Af X.ah)) qk qk ⟨KeepB.refl _ _,dG _ _⟩ aC.ab (λ_ _ h hb=>⟨h.1.below hb,h.2.trans (hb.mono (AH b8 h.2.size))⟩) (λ_ _ h on=>⟨h.1.ai on,h.2.trans (on.below.mono aF)⟩) (λ_ _ h hb=>h.below hb h.lt) ?_;refine AT qR ?_
 iterate 5 refine AT qR ?_
 apply AT
 ·intro V W K A J hZ H z M
  simp only[pA,qv (H 5)]at z;subst z;have e3:=AJ ((J.1.2 g be bk).trans ag.ab) 3;go_wp2;exact M.ab _ brf
 iterate 4 refine AT qR ?_
 apply AT
 ·intro V W K A J hZ H z M
  simp only[pA,qv (H 10)]at z;subst z;have e4:=AJ ((J.1.2 g be bk).trans ag.ab) 4;go_wp2;exact M.ab _ brf
 iterate 2 refine AT qR ?_
 refine Ab (λ_ W=>aS W) (λi hi _ W W' h hr=>(HT.ab W').2 (relp_row hi ((HT.ab W).1 h) hr)) ?_ ?_
 ·intro V W K A J hZ H z M
  simp only[pA,qv (H 6),qv (H 13)]at z;subst z;have h0:=hZ rfl;refine CI rfl 3 (.tmp 46) (.tmp 39) rfl g1 _ (In i6 A.au) rfl rfl CX rfl rfl 34 13 n1 d1 _ h0 qo ?_;intro w2 hr on;have h2:=hr.ab;rw[show splice (Af X.ah) (k*13+4) [In i6 A.au]=Af (X.ah.set k {s with au:=A.au}) from CB (c:=Svc.cells) (n:=13) (λ_=>rfl) X.ah k 4 s {s with au:=A.au} _ HK.ab qo rfl]at h2;exact M.ab _ _ on ((HT.ab _).2 h2)
 iterate 2 refine AT qR ?_
 intro V W A J F z;have d0:V 0=_:=F 0;have d1:V 1=_:=F 1;have d2:V 2=_:=F 2;have d3:V 3=_:=F 3;have d4:V 4=_:=F 4;have d5:V 5=_:=F 5;have d6:V 6=_:=F 6;have d7:V 7=_:=F 7;have d8:V 8=_:=F 8;have d9:V 9=_:=F 9;have a4:V 10=_:=F 10;have a5:V 11=_:=F 11;have a6:V 12=_:=F 12;have a7:V 13=_:=F 13;have a8:(λ_ W=>aS W) (V 14) W:=F 14;have a9:V 15=_:=F 15;have ba:V 16=_:=F 16;simp only[pA,d0,d1,d2,d3,d4,d5,d6,d7,d8,d9,a4,a5,a6,a7,a9,ba]at z;clear F d0 d1 d2 d3 d4 d5 d6 d7 d8 d9 a4 a5 a6 a7 a9 ba;subst z;simp only[dA,dN];have R2:Hid (RowIs W 34 13 g1 n1 d1 (Af (X.ah.set k {s with au:=A.au}))):=(HT.ab W).1 a8;clear a8;have bK:Hid (KeepB g1 wb W):=J.1;have cb:=J.2;clear J
 go_wp2_with ((with_reducible show wpList _ _ _ _ _ _);refine CI rfl 3 (.tmp 48) (.tmp 44) rfl g1 _ (In i6 A.aA) rfl rfl CX rfl rfl 34 13 n1 d1 _ R2.ab qo ?_;intro w3 hr on;have R3:Hid (RowIs w3 34 13 g1 n1 d1 (Af (X.ah.set k {s with au:=A.au,aA:=A.aA}))):=(by have:=hr.ab;rw[show splice (Af (X.ah.set k {s with au:=A.au})) (k*13+12) [In i6 A.aA]=Af ((X.ah.set k {s with au:=A.au}).set k {s with au:=A.au,aA:=A.aA}) from CB (c:=Svc.cells) (n:=13) (λ_=>rfl) (X.ah.set k {s with au:=A.au}) k 12 {s with au:=A.au} {s with au:=A.au,aA:=A.aA} _ (by rw[eJ (by rw[ak.ab];exact aI)]) qo rfl,gq]at this;exact this);have aO:Hid (BH g1 W w3):=on;clear hr on)
 go_end0
 have kb:=bK.ab.ai aO.ab;obtain⟨_,_,b7,bb,_⟩:=id aC.ab;have kt:KeepT 34 wb w3:=kb.toT bb;have kw:KeepT 34 w wb:=.bf aG;refine⟨.inl ⟨by rw[b4.ab];rfl,rfl,⟨some ⟨g1,0,none⟩,b2,b3,d1,d2,d3,ve,b9,?_,⟨?_,?_,?_⟩,?_⟩⟩,(aG.mono hN).trans (cb.trans (aO.ab.below.mono aF))⟩
 ·have:=kt.aV ag.ab qd
  rw[<-ax.ab,<-ay.ab,<-ak.ab]at this
  simpa only[dC] using this
 ·have h:=R3.ab
  rw[<-ak.ab,<-Gd aD.ab]at h;exact .inr ⟨g1,rfl,aF,by simpa only[dC] using h⟩
 ·have:=kt.aT (kw.aT bT.ab qd) qd
  rw[<-ax.ab]at this;exact this
 ·have:=kt.aT (kw.aT bX.ab qd) qd
  rw[<-ay.ab]at this;exact this
 ·have:=kt.aW (kw.aW bD.ab qd) qd
  rw[<-aN.ab]at this;exact this
theorem A6:Tryz.prog.underlying 25=some (.slice (Tryz.prog.elem 25)):=qk
theorem BX:(Tryz.prog.info? (Tryz.prog.elem 25)).map (·.size)=some 7:=qk
theorem EM:(Tryz.prog.info? 76).map (·.size)=some 7:=qk
theorem insC_any(l:List Cp)(x:Cp)(ao:qO)(n cap i N vb:Nat)(w:World)(HN:Hid (l.length=n))(hl:n<=1048576)(hi:i<=n)(hN:N<=w.heap.size)(hR:RowN w N 76 7 ao n cap (Ay l))(hv:qBl w vb (qcV x) 76)(bm:ao≠some ⟨vb,0,none⟩):
  Calls Tryz.prog 250 #[Sl ao n cap,In i6 i,.slice (qad vb) 1 1] w λe w'=>∃bo k,e=.returned (Sl bo (n+1) k)/\RowN w' N 76 7 bo (n+1) k (Ay (l.take i++x::l.drop i))/\(∀q,q<w.heap.size->ao≠some ⟨q,0,none⟩->w'.heap[q]?=w.heap[q]?)/\Below N w w':=by
 have b6:=(AB hv).1;have HV:Hid (qBl w vb (qcV x) 76):=hv;obtain⟨XS,au⟩:∃q,q=((qcV x):Array Value).toList:=⟨_,rfl⟩;have M:Hid (XS.length=7):=by unfold Hid;rw[au];rfl
 have aN:Hid (∀u∈XS,u.oneCell'=true):=by unfold Hid;rw[au];simp[Value.oneCell']
 have a9:Hid (Ay (l.take i++x::l.drop i)=Ay (l.take i)++XS++Ay (l.drop i)):=by unfold Hid;rw[au];simp[Ay,Cp.cells]
 have aK:Hid (∀W:World,qBl W vb (qcV x) 76->∀j u,XS[j]?=some u->W.cell? ((⟨vb,0,none⟩:Addr).add j)=some u):=λW h=>by rw[au];exact DI h
 have cl:Hid (Ay [x]=XS):=by unfold Hid;rw[au];simp[Ay,Cp.cells]
 clear hv au;rcases hR with⟨rfl,rfl,rfl,b2⟩|⟨g,rfl,aQ,hr⟩
 ·obtain rfl:i=0:=qo
  obtain rfl:l=[]:=eF.1 HN.ab;clear b2 bm;go_enter Tryz.func250,Tryz.ntmps250
  go_wp2_with (at_builtin;refine Bv rfl (.tmp 23) (.tmp 24) 25 rfl 76 _ 7 72 Tryz.underlying25 Ey rfl qo rfl (qad vb) 1 1 XS rfl (by rw[M.ab]) (λ_=>⟨_,rfl,aK.ab _ HV.ab⟩) aN.ab qm qo (λh=>absurd h qo) (λ_=>?_);intro g k w1 hg hr hb)
  have a7:Hid (RowIs w1 76 7 g 1 k XS):=hr;clear hr;go_ret;exact⟨some ⟨g,0,none⟩,k,rfl,.inr ⟨g,rfl,qo,by have h:=a7.ab;rw[<-cl.ab]at h;simpa using h⟩,λq hq _=>hb.block q hq,hb.mono hN⟩
 have HR:Hid (RowIs w 76 7 g n cap (Ay l)):=hr;have be:=hr.lt;have db:=hr.2.1;have b5:vb≠g:=λe=>bm (by rw[e])
 clear bm hr;have ax:Hid ((l.take i).length=i):=by unfold Hid;rw[dI,HN.ab];omega
 have bv:Hid ((l.drop i).length=n - i):=by unfold Hid;rw[eh,HN.ab]
 by_cases b0:i=n
 ·subst b0
  have bC:Hid (l.take i=l/\l.drop i=[]):=⟨eZ (by rw[HN.ab];omega),ij (by rw[HN.ab];omega)⟩;go_enter Tryz.func250,Tryz.ntmps250
  go_upto_region 2 with(refine Av rfl 25 (.tmp 10) (some (.tmp 11)) none none rfl A6 7 BX g 0 i cap i i cap rfl (some (In i6 (i:Int))) none none rfl rfl rfl (λw=>gH w _ _ _ _ A6 .i64 (i:Int) qo qo) ?_;intro z _)
  go_wp2_with (at_builtin;refine D9 rfl (.tmp 23) (.tmp 24) 25 rfl 76 _ 7 72 Tryz.underlying25 Ey rfl g i cap _ rfl HR.ab ⟨vb,0,none⟩ 1 1 XS rfl (by rw[M.ab]) (aK.ab _ HV.ab) aN.ab qm qo ?_;intro g' k w1 cx hr bk;have a7:Hid (RowIs w1 76 7 g' (i+1) k (Ay l++XS)):=hr;have cc:Hid (∀q,q<w.heap.size->q≠g->w1.heap[q]?=w.heap[q]?):=(λq hq aB=>bk.block q hq (λe=>aB (dj e)));have cr:=H9 bk aQ hN;clear hr bk)
  go_ret;exact⟨some ⟨g',0,none⟩,k,rfl,.inr ⟨g',rfl,by rcases cx with h|h<;>omega,by rw[a9.ab,bC.ab.1,bC.ab.2];simpa [Ay] using a7.ab⟩,λq hq aB=>cc.ab q hq (λe=>aB (by rw[e])),cr⟩
 have c9:i<n:=qo
 clear b0;have a4:Hid (∀W:World,RowIs W 76 7 g n cap (Ay l)->∀z,z=i*7->∀j u,(Ay (l.drop i))[j]?=some u->W.cell? ((⟨g,z,none⟩:Addr).add j)=some u):=λW h z ho=>by rw[ho];exact h.bP (c:=Cp.cells) (λ_=>rfl) i
 have ca:Hid (Ay (l.take i)=(Ay l).take (i*7)):=JM (c:=Cp.cells) (λ_=>rfl) l i
 by_cases aF:n+1<=cap
 ·obtain⟨F,bT,bd,b4⟩:=HR.ab.2.2
  have bw:Hid (qBl w g F 76):=bT;have bq:Hid (F.size=cap*7/\F.toList.take (n*7)=Ay l):=⟨bd,b4⟩;have aj:Hid (F.toList.length=F.size):=dY;have cw:(n+1)*7<=F.size:=by rw[bd];exact em _ aF
  clear bT bd b4;obtain⟨H,aA⟩:∃q,n - i=q:=⟨_,rfl⟩;have cu:n<=i+H:=qo
  have bK:i+H<=n:=qo
  obtain⟨ss,cF⟩:∃q,n+1 - i=q:=⟨_,rfl⟩;have df:n+1<=i+ss:=qo
  have cS:i+ss<=n+1:=qo
  have O:Hid ((l.drop i).length=H):=by unfold Hid;rw[bv.ab];exact aA
  have cv:0<H:=qo
  clear aA cF
  have aD:∀aH lb cb,(callFunc 310 #[.slice (qad vb) 1 1,Sl (some ⟨g,aH,none⟩) lb cb]).run Tryz.prog w=.ok (.value (.bool false)) w:=λaH lb cb=>by
   rw[eu Tryz.func310 qk qk qk (e:=Extern.SlicesOverlaps.overlaps #[25,25] #[4]) qk,
    Lib.run_overlaps_apart w 25 4 76 Tryz.underlying25 7 (λ_=>qk) ⟨vb,0,none⟩ ⟨g,aH,none⟩ 1 1 lb cb b5 76 76 7 F.size (by simp[World.shape?,HV.ab]) (by simp[World.shape?,bw.ab]) qo (B7 HV.ab 0) (B7 HV.ab 7)]
   rfl
  have ce:Hid _:=aD;clear aD;go_enter Tryz.func250,Tryz.ntmps250
  go_upto_region 2 with(refine Av rfl 25 (.tmp 10) (some (.tmp 11)) none none rfl A6 7 BX g 0 n cap i n cap rfl (some (In i6 (i:Int))) none none rfl rfl rfl (λw=>gH w _ _ _ _ A6 .i64 (i:Int) qo qo) ?_;intro b8 _)
  go_upto_region 14 with fail
  have aD:=ce.ab
  go_upto_region 15 with(first
   |(refine Av rfl 25 (.tmp 62) (some (.tmp 65)) none none rfl A6 7 BX g 0 (n+1) cap (i+1) (n+1) cap rfl (some (In i6 ((i:Int)+1))) none none rfl rfl rfl (λw=>gH w _ _ _ _ A6 .i64 ((i+1:Nat):Int) qo qo) ?_;intro cT _)
   |(simp only[aD]))
  clear aD;refine AU 8 ?_;apply AL
  ·intro V W K AA hW hd J hK
   simp only[pA]at J;subst J;go_wp2;exact hK.ab _ brf
  iterate 3 refine qA0 qP ?_
  refine AZ (λvv (_:World)=>∃z,vv=.slice (some ⟨g,z,none⟩) H (cap - (i+1))/\(z=(i+1)*7\/cap=i+1)) (λ_ _ _ h _=>h) ?_ ?_
  ·intro V W K AA hW hd J hK
   simp only[pA,qv (hd 0),qv (hd 3)]at J;subst J;refine Av rfl 25 (.tmp 69) (some (.tmp 72)) none none rfl A6 7 BX g 0 (n+1) cap (i+1) (n+1) cap rfl (some (In i6 ((i:Int)+1))) none none rfl rfl rfl (λw=>gH w _ _ _ _ A6 .i64 ((i+1:Nat):Int) qo qo) ?_;intro z aC;rw[show(n+1) - (i+1)=H by omega];go_wp2;exact hK.ab _ _ brf ⟨z,rfl,qo⟩
  iterate 2 refine qA0 qP ?_
  refine AZ (λvv (_:World)=>∃z,vv=.slice (some ⟨g,z,none⟩) ss (cap - i)/\(z=i*7\/cap=i)) (λ_ _ _ h _=>h) ?_ ?_
  ·intro V W K AA hW hd J hK
   simp only[pA,qv (hd 5),qv (hd 6)]at J;subst J;refine Av rfl 25 (.tmp 74) (some (.tmp 75)) none none rfl A6 7 BX g 0 (n+1) cap i (n+1) cap rfl (some (In i6 (i:Int))) none none rfl rfl rfl (λw=>gH w _ _ _ _ A6 .i64 (i:Int) qo qo) ?_;intro z aC;rw[show(n+1) - i=ss by omega];go_wp2;exact hK.ab _ _ brf ⟨z,rfl,qo⟩
  intro V W AA hW Z J;have d4:=Z 4;have d7:=Z 7;simp only[pA,qv (Z 0),qv (Z 1),qv (Z 2),qv (Z 3),qv (Z 5),qv (Z 6)]at J;clear Z;generalize V 4=x4 at d4 J;generalize V 7=x7 at d7 J;subst J;simp only[dA,dN];obtain⟨af,rfl,h4⟩:=d4;obtain⟨ag,rfl,h7⟩:=d7;have cd:Hid (qBl W g F 76):=AK hW bw.ab be;have a6:Hid (RowIs W 76 7 g n cap (Ay l)):=HR.ab.below hW be;have cj:Hid _:=AK hW HV.ab b6
  (refine Eh rfl (.tmp 73) (.tmp 76) 25 rfl 76 7 Tryz.underlying25 EM (some ⟨g,af,none⟩) (some ⟨g,ag,none⟩) H _ ss _ rfl rfl H (by show min ss H=H;omega) g ((i+1)*7) F 76 cd.ab (Ay (l.drop i)) (by rw[CJ,O.ab]) (λ_=>⟨by rw[show af=(i+1)*7 by omega],_,rfl,a4.ab W a6.ab ag qo⟩) (by rw[CJ,O.ab];omega) (Hy _) ?_;intro w2 hz on;have aO:Hid (w2.heap[g]?=some (.cells (splice F.toList ((i+1)*7) (Ay (l.drop i))).toArray 76 (0,0))):=hz;have aq:Hid (BH g W w2):=on;clear hz on)
  have ci:Hid _:=(aq.ab.aL vb b5).trans cj.ab;have ak:Hid ((splice F.toList ((i+1)*7) (Ay (l.drop i))).length=F.size):=by unfold Hid;rw[length_splice _ _ _ (by rw[CJ,O.ab,aj.ab];omega),aj.ab]
  go_upto_region 17 with(first
   |(refine Av rfl 25 (.tmp 78) (some (.tmp 79)) none none rfl A6 7 BX g 0 (n+1) cap i (n+1) cap rfl (some (In i6 (i:Int))) none none rfl rfl rfl (λw=>gH w _ _ _ _ A6 .i64 (i:Int) qo qo) ?_;intro ah h8;rw[show n+1 - i=ss by omega])
   |(refine Eh rfl (.tmp 80) (.tmp 81) 25 rfl 76 7 Tryz.underlying25 EM (some ⟨g,ah,none⟩) (qad vb) ss _ 1 1 rfl rfl 1 (by show min 1 ss=1;omega) g (i*7) _ 76 aO.ab XS (by rw[M.ab]) (λ_=>⟨by rw[show ah=i*7 by omega],_,rfl,aK.ab _ ci.ab⟩) (by rw[er,ak.ab];rw[M.ab];omega) aN.ab ?_;intro w3 hz on;have ba:Hid (w3.heap[g]?=some (.cells (splice (splice F.toList ((i+1)*7) (Ay (l.drop i))) (i*7) XS).toArray 76 (0,0))):=hz;have aM:Hid (BH g w2 w3):=on;clear hz on))
  go_wp2;go_ret;have ae:=(UO (A:=Ay (l.take i)) (X:=XS) (D:=Ay (l.drop i)) (L:=F.toList) (a:=i*7) (s:=7) (d:=H*7) (by rw[CJ,ax.ab]) M.ab (by rw[CJ,O.ab]) (by rw[ca.ab,<-bq.ab.2,List.take_take,gT (em _ qo)]) (by rw[aj.ab];omega)).2;rw[show i*7+7=(i+1)*7 by omega,show(i+1)*7+H*7=(n+1)*7 by omega]at ae;refine⟨some ⟨g,0,none⟩,cap,rfl,.inr ⟨g,rfl,aQ,?_⟩,λq hq aB=>?_,?_⟩
  ·rw[a9.ab]
   refine⟨?_,aF,_,ba.ab,?_,?_⟩
   ·simp only[dE,CJ,ax.ab,O.ab];rw[M.ab];omega
   ·rw[er,length_splice _ _ _ (by rw[ak.ab];rw[M.ab];omega),ak.ab,bq.ab.1]
   ·exact ae
  ·have b3:q≠g:=λe=>aB (by rw[e])
   exact(aM.ab.aL q b3).trans ((aq.ab.aL q b3).trans (hW.block q hq))
  ·exact(hW.mono hN).trans ((aq.ab.below.mono aQ).trans (aM.ab.below.mono aQ))
 ·obtain⟨H,aA⟩:∃q,n - i=q:=⟨_,rfl⟩
  have cu:n<=i+H:=qo
  have bK:i+H<=n:=qo
  obtain⟨mz,cz⟩:∃q,n+1 - i=q:=⟨_,rfl⟩;have da:n+1<=i+mz:=qo
  have cR:i+mz<=n+1:=qo
  have O:Hid ((l.drop i).length=H):=by unfold Hid;rw[bv.ab];exact aA
  have cv:0<H:=qo
  clear aA cz;go_enter Tryz.func250,Tryz.ntmps250
  go_upto_region 2 with(refine Av rfl 25 (.tmp 10) (some (.tmp 11)) none none rfl A6 7 BX g 0 n cap i n cap rfl (some (In i6 (i:Int))) none none rfl rfl rfl (λw=>gH w _ _ _ _ A6 .i64 (i:Int) qo qo) ?_;intro b8 _;rw[show n - i=H by omega])
  go_upto_region 9 with fail
  go_upto_region 10 with(refine Ib rfl (.tmp 34) (.tmp 39) 25 3 rfl 76 _ 7 72 .i64 Tryz.underlying25 Tryz.underlying3 Ey rfl qo ⟨g,0,none⟩ i cap (Ay (l.take i)) rfl (by rw[CJ,ax.ab]) (HR.ab.cy (c:=Cp.cells) (λ_=>rfl) i) mz (ei (Value.int .i64) qo) qo qo qm qo ?_;intro g2 Y F w1 bO ct b7 az bb)
  have cQ:vb≠g2:=qo
  have aj:Hid (F.toList.length=F.size):=dY;have cN:=(AB b7.ab).1;have ch:Hid _:=AK bb HV.ab b6;have cf:Hid (RowIs w1 76 7 g n cap (Ay l)):=HR.ab.below bb be;have cM:(i+mz)*7<=F.size:=by rw[az.ab.1];exact em _ ct
  go_upto_region 11 with(first
   |(refine Av rfl 25 (.tmp 41) (some (.tmp 42)) none none rfl A6 7 BX g2 0 (i+mz) Y i (i+mz) Y rfl (some (In i6 (i:Int))) none none rfl rfl rfl (λw=>gH w _ _ _ _ A6 .i64 (i:Int) qo qo) ?_;intro ah h8;rw[show i+mz - i=mz by omega])
   |(refine Eh rfl (.tmp 43) (.tmp 44) 25 rfl 76 7 Tryz.underlying25 EM (some ⟨g2,ah,none⟩) (qad vb) mz _ 1 1 rfl rfl 1 (by show min 1 mz=1;omega) g2 (i*7) _ 76 b7.ab XS (by rw[M.ab]) (λ_=>⟨by rw[show ah=i*7 by omega],_,rfl,aK.ab _ ch.ab⟩) (by rw[M.ab];omega) aN.ab ?_;intro w2 hz on;have aO:Hid (w2.heap[g2]?=some (.cells (splice F.toList (i*7) XS).toArray 76 (0,0))):=hz;have aq:Hid (BH g2 w1 w2):=on;clear hz on))
  have ak:Hid ((splice F.toList (i*7) XS).length=F.size):=by unfold Hid;rw[length_splice _ _ _ (by rw[aj.ab,M.ab];omega),aj.ab]
  have bB:Hid (RowIs w2 76 7 g n cap (Ay l)):=cf.ab.aV (aq.ab.aL g qo);have cq:Below w.heap.size w w2:=bb.trans (aq.ab.below.mono bO);have bS:g2<w2.heap.size:=(AB aO.ab).1;have bX:=bB.ab.lt;refine AU 8 ?_;apply AL
  ·intro V W K AA hW hd J hK
   simp only[pA]at J;subst J;go_wp2;exact hK.ab _ brf
  iterate 3 refine qA0 qP ?_
  refine AZ (λvv (_:World)=>∃z,vv=.slice (some ⟨g2,z,none⟩) H (Y - (i+1))/\(z=(i+1)*7\/Y=i+1)) (λ_ _ _ h _=>h) ?_ ?_
  ·intro V W K AA hW hd J hK
   simp only[pA,qv (hd 0),qv (hd 3)]at J;subst J;refine Av rfl 25 (.tmp 46) (some (.tmp 49)) none none rfl A6 7 BX g2 0 (i+mz) Y (i+1) (i+mz) Y rfl (some (In i6 ((i:Int)+1))) none none rfl rfl rfl (λw=>gH w _ _ _ _ A6 .i64 ((i+1:Nat):Int) qo qo) ?_;intro z aC;rw[show(i+mz) - (i+1)=H by omega];go_wp2;exact hK.ab _ _ brf ⟨z,rfl,qo⟩
  iterate 2 refine qA0 qP ?_
  refine AZ (λvv (_:World)=>∃z,vv=.slice (some ⟨g,z,none⟩) H (cap - i)/\(z=i*7\/cap=i)) (λ_ _ _ h _=>h) ?_ ?_
  ·intro V W K AA hW hd J hK
   simp only[pA,qv (hd 5),qv (hd 6)]at J;subst J;refine Av rfl 25 (.tmp 51) (some (.tmp 52)) none none rfl A6 7 BX g 0 n cap i n cap rfl (some (In i6 (i:Int))) none none rfl rfl rfl (λw=>gH w _ _ _ _ A6 .i64 (i:Int) qo qo) ?_;intro z aC;rw[show n - i=H by omega];go_wp2;exact hK.ab _ _ brf ⟨z,rfl,qo⟩
  intro V W AA hW Z J;have d4:=Z 4;have d7:=Z 7;simp only[pA,qv (Z 0),qv (Z 1),qv (Z 2),qv (Z 3),qv (Z 5),qv (Z 6)]at J;clear Z;generalize V 4=x4 at d4 J;generalize V 7=x7 at d7 J;subst J;simp only[dA,dN];obtain⟨af,rfl,h4⟩:=d4;obtain⟨ag,rfl,h7⟩:=d7;have cm:Hid _:=AK hW aO.ab bS;have a6:Hid (RowIs W 76 7 g n cap (Ay l)):=bB.ab.below hW bX
  (refine Eh rfl (.tmp 50) (.tmp 53) 25 rfl 76 7 Tryz.underlying25 EM (some ⟨g2,af,none⟩) (some ⟨g,ag,none⟩) H _ H _ rfl rfl H (by show min H H=H;omega) g2 ((i+1)*7) _ 76 cm.ab (Ay (l.drop i)) (by rw[CJ,O.ab]) (λ_=>⟨by rw[show af=(i+1)*7 by omega],_,rfl,a4.ab W a6.ab ag qo⟩) (by rw[CJ,O.ab,er,ak.ab];omega) (Hy _) ?_;intro w3 hz on;have ba:Hid (w3.heap[g2]?=some (.cells (splice (splice F.toList (i*7) XS) ((i+1)*7) (Ay (l.drop i))).toArray 76 (0,0))):=hz;have aM:Hid (BH g2 W w3):=on;clear hz on)
  go_wp2;go_ret;have ae:=(UO (A:=Ay (l.take i)) (X:=XS) (D:=Ay (l.drop i)) (L:=F.toList) (a:=i*7) (s:=7) (d:=H*7) (by rw[CJ,ax.ab]) M.ab (by rw[CJ,O.ab]) az.ab.2 (by rw[aj.ab];omega)).1;rw[show i*7+7=(i+1)*7 by omega,show(i+1)*7+H*7=(n+1)*7 by omega]at ae;have bE:Below w.heap.size w w3:=cq.trans ((hW.mono qo).trans (aM.ab.below.mono bO));refine⟨some ⟨g2,0,none⟩,Y,by rw[show i+mz=n+1 by omega];rfl,.inr ⟨g2,rfl,qo,?_⟩,λq hq _=>bE.block q hq,bE.mono hN⟩;rw[a9.ab];refine⟨?_,qo,_,ba.ab,?_,?_⟩
  ·simp only[dE,CJ,ax.ab,O.ab];rw[M.ab];omega
  ·rw[er,length_splice _ _ _ (by rw[ak.ab,CJ,O.ab];omega),ak.ab,az.ab.1]
  ·exact ae
theorem Df:Tryz.prog.underlying 24=some (.slice (Tryz.prog.elem 24)):=qk
theorem Eg:(Tryz.prog.info? (Tryz.prog.elem 24)).map (·.size)=some 13:=qk
theorem Rg(l:List Svc)(ao:qO)(n cap i N:Nat)(w:World)(HN:Hid (l.length=n))(hl:n<=1048576)(hi:i<n)(hN:N<=w.heap.size)(hR:RowN w N 34 13 ao n cap (Af l)):
  Calls Tryz.prog 251 #[Sl ao n cap,In i6 i,In i6 ((i:Int)+1)] w λe w'=>∃(bo:qO) (n' k:Nat),e=.returned (Sl bo n' k)/\n'=(l.take i++l.drop (i+1)).length/\RowN w' N 34 13 bo n' k (Af (l.take i++l.drop (i+1)))/\(∀q,q<w.heap.size->ao≠some ⟨q,0,none⟩->w'.heap[q]?=w.heap[q]?)/\Below N w w':=by
 obtain⟨g,ea,O,hr⟩:=hR.some qo;subst ea;have aJ:=hr.lt;have aa:=hr.2.1;have HR:Hid (RowIs w 34 13 g n cap (Af l)):=hr;obtain⟨m,hm⟩:∃q,n - (i+1)=q:=⟨_,rfl⟩;have bk:n<=i+1+m:=qo
 have bm:i+1+m<=n:=qo
 have aC:Hid ((l.take i).length=i):=by unfold Hid;rw[dI,HN.ab];omega
 have M:Hid ((l.drop (i+1)).length=m):=by unfold Hid;rw[eh,HN.ab];omega
 have aD:Hid (Af (l.take i++l.drop (i+1))=Af (l.take i)++Af (l.drop (i+1))):=by unfold Hid;simp[Af]
 have aA:Hid (∀W,RowIs W 34 13 g n cap (Af l)->RowIs W 34 13 g i cap (Af (l.take i))):=λW h=>h.take (c:=Svc.cells) (λ_=>rfl) (by rw[HN.ab]) qo
 clear hm hr hR;go_enter Tryz.func251,Tryz.ntmps251
 go_upto_region 2 with(refine Av rfl 24 (.tmp 8) (some (.tmp 9)) (some (.tmp 10)) (some (.tmp 12)) rfl Df 13 Eg g 0 n cap i (i+1) n rfl (some (In i6 (i:Int))) (some (In i6 ((i:Int)+1))) (some (In i6 (n:Int))) rfl rfl rfl (λw=>run_slice_lhm w _ _ _ _ Df .i64 .i64 .i64 (i:Int) ((i+1:Nat):Int) (n:Int) qo qo qo qo) ?_;intro a7 _;rw[show i+1 - i=1 by omega])
 go_upto_region 5 with fail
 rw[show((i:Int)==(i:Int)+1)=false by rw[fg];omega];refine AU 6 ?_;apply AL
 ·intro V W K AA hW hd F hK
  simp only[pA]at F;subst F;go_wp2;exact hK.ab _ brf
 iterate 4 refine qA0 qP ?_
 refine AZ (λvv (_:World)=>∃H,vv=.slice (some ⟨g,H,none⟩) m (cap - (i+1))/\(H=(i+1)*13\/cap=i+1)) (λ_ _ _ h _=>h) ?_ ?_
 ·intro V W K AA hW hd F hK
  simp only[pA,qv (hd 3),qv (hd 4)]at F;subst F;refine Av rfl 24 (.tmp 23) (some (.tmp 24)) none none rfl Df 13 Eg g 0 n cap (i+1) n cap rfl (some (In i6 ((i:Int)+1))) none none rfl rfl rfl (λw=>gH w _ _ _ _ Df .i64 ((i+1:Nat):Int) qo qo) ?_;intro H a5;rw[show n - (i+1)=m by omega];go_wp2;exact hK.ab _ _ brf ⟨H,rfl,qo⟩
 intro V W AA hW Y F;have d5:=Y 5;simp only[pA,qv (Y 0),qv (Y 1),qv (Y 2),qv (Y 3),qv (Y 4)]at F;clear Y;generalize V 5=x5 at d5 F;subst F;simp only[dA,dN];obtain⟨J,rfl,h5⟩:=d5;have aj:Hid (RowIs W 34 13 g n cap (Af l)):=HR.ab.below hW aJ
 have aB:Hid (∀j u,(Af (l.drop (i+1)))[j]?=some u->W.cell? ((⟨g,J,none⟩:Addr).add j)=some u):=by
  unfold Hid;rcases h5 with ho|ho
  ·rw[ho];exact aj.ab.bP (c:=Svc.cells) (λ_=>rfl) (i+1)
  ·intro j u hu;rw[show l.drop (i+1)=[] from eF.1 (by rw[M.ab];omega)]at hu;simp[Af]at hu
 (refine KY rfl (.tmp 22) (.tmp 25) 24 rfl 34 _ 13 112 Tryz.underlying24 FQ g i cap (Af (l.take i)) rfl (aA.ab W aj.ab) ⟨g,J,none⟩ m _ (Af (l.drop (i+1))) rfl (by rw[GN,M.ab]) aB.ab (IM _) qo ?_;intro w2 hr on;have R2:Hid (RowIs w2 34 13 g (i+m) cap (Af (l.take i)++Af (l.drop (i+1)))):=hr;have ag:Hid (BH g W w2):=on;clear hr on)
 obtain⟨z,an,Z,au⟩:=R2.ab.2.2;have ay:Hid (qBl w2 g z 34):=an;have af:Hid (z.size=cap*13/\z.toList.take ((i+m)*13)=Af (l.take i)++Af (l.drop (i+1))):=⟨Z,au⟩;have aS:n*13<=z.size:=by rw[Z];exact em _ aa
 clear an Z au
 go_upto_region 7 with(first
  |(refine Av rfl 24 (.tmp 27) (some (.tmp 29)) (some (.tmp 30)) none rfl Df 13 Eg g 0 (i+m) cap (i+m) n cap rfl (some (In i6 ((i:Int)+(m:Int)))) (some (In i6 (n:Int))) none rfl rfl rfl (λw=>run_slice_lh w _ _ _ _ Df .i64 .i64 ((i+m:Nat):Int) (n:Int) qo qo qo) ?_;intro aw h6;rw[show n - (i+m)=1 by omega])
  |(refine Ly rfl (.tmp 31) 24 rfl 34 _ 13 112 Tryz.underlying24 FQ rfl (by simp[Value.cells,Value.oneCell']) g aw 1 _ rfl z 34 ay.ab (λ_=>qo) ?_;intro ak w3 aI am ax;have ah:Hid (BH g w2 w3):=ax;clear ax))
 go_wp2;go_ret;refine⟨some ⟨g,0,none⟩,i+m,cap,rfl,by rw[dE,aC.ab,M.ab],.inr ⟨g,rfl,O,?_⟩,λq hq aK=>?_,(hW.mono hN).trans ((ag.ab.below.mono O).trans (ah.ab.below.mono O))⟩
 ·rw[aD.ab]
  refine⟨R2.ab.1,R2.ab.2.1,ak,aI.ab,by rw[am.ab.1,af.ab.1],?_⟩;rw[am.ab.2 ((i+m)*13) (λ_=>qo)];exact af.ab.2
 ·have aq:q≠g:=λe=>aK (by rw[e])
  exact(ah.ab.aL q aq).trans ((ag.ab.aL q aq).trans (hW.block q hq))
end
section
open Go.RowKit Go.Extern.Stop Go.Stop Go.Extern
open Go.Value renaming int->In,slice->Sl,string->Sg,bool->Bo,pointer->Po
open Go.IntKind renaming i64->i6
def S9(c:Int):Value:=.iface 223 (.agg #[.iface 153 (.agg #[In i6 c])])
def KW(w:World):Prop:=w.cell? ⟨0,0,none⟩=some (.iface 298 (.agg #[Po (some ⟨9,127,none⟩)]))
theorem as_nil(t:Value)(w:World):Calls Tryz.prog 101 #[.nilIface,t] w λe w'=>e=.returned (.bool false)/\w'=w:=by
 go_enter Tryz.func101,Tryz.ntmps101;go_wp2;go_ret;exact⟨rfl,rfl⟩
theorem IF(t:Addr)(w:World):(ReflectliteValue.unpack (.iface 155 (Po (some t)))).run Tryz.prog w
  =.ok (.agg #[Po (some ⟨9,155,none⟩),Po (some ⟨w.heap.size,0,none⟩),.int .u64 150]) (w.alloc (.cells #[Po (some t)] 155)):=qk
theorem Na(a:Addr)(w:World):(ReflectliteValue.methodAny (ReflectliteValue.valueError "reflectlite.Value.Type" 0) (λt _ _ _=>ReflectliteType.toType t) #[.agg #[Po (some ⟨9,155,none⟩),Po (some a),.int .u64 150]]).run Tryz.prog w
  =.ok (.iface 298 (.agg #[Po (some ⟨9,155,none⟩)])) w:=qk
theorem GZ(h:Value)(w:World):(Go.method 555 298 (.agg #[h]) "Kind").run Tryz.prog w=.ok (403,h) w:=qk
theorem LT(w:World):((ReflectliteType.abiMethod λt=>(λa:Nat=>Value.int IntKind.u8 (a:Int))<$> Rtype.kind t) #[Po (some ⟨9,155,none⟩)]).run Tryz.prog w=.ok (.int .u8 22) w:=qk
theorem LU(w:World):((ReflectliteType.abiMethod λt=>(λa:Nat=>Value.int IntKind.u8 (a:Int))<$> Rtype.kind t) #[Po (some ⟨9,153,none⟩)]).run Tryz.prog w=.ok (.int .u8 25) w:=qk
theorem rlmO(z:Sem Value)(f:TypeId->Addr->Nat->Nat->Sem Value)(v:Value):
  ReflectliteValue.method z f #[v]=(do match<-ReflectliteValue.parts v with|none=>z|some (t,a,F)=>f t a F (F%32)):=rfl
theorem KO(a:Addr)(w:World):(ReflectliteValue.parts (.agg #[Po (some ⟨9,155,none⟩),Po (some a),.int .u64 150])).run Tryz.prog w=.ok (some (155,a,150)) w:=qk
theorem R7(a p:Addr)(W:World)(z:W.cell? a=some (Po (some p))):
  (ReflectliteValue.method (ReflectliteValue.valueError "reflectlite.Value.IsNil" 0) ReflectliteValue.isNil #[.agg #[Po (some ⟨9,155,none⟩),Po (some a),.int .u64 150]]).run Tryz.prog W=.ok (.bool false) W:=by
 rw[rlmO];simp only[eA,KO,Result.andThen];simp[ReflectliteValue.isNil,loadVar,isAgg,underlying,Tryz.underlying155,z,Result.andThen]
theorem Ga(h:Value)(w:World):(Go.method 555 298 (.agg #[h]) "Elem").run Tryz.prog w=.ok (416,.agg #[h]) w:=qk
theorem EK(h:Value)(w:World):(Go.method 555 298 (.agg #[h]) "Implements").run Tryz.prog w=.ok (417,.agg #[h]) w:=qk
theorem EL(h:Value)(w:World):(Go.method 555 298 (.agg #[h]) "AssignableTo").run Tryz.prog w=.ok (414,.agg #[h]) w:=qk
theorem Nb(w:World):(ReflectliteType.method ReflectliteType.elem #[.agg #[Po (some ⟨9,155,none⟩)]]).run Tryz.prog w=.ok (.iface 298 (.agg #[Po (some ⟨9,153,none⟩)])) w:=qk
theorem Gb(w:World):(ReflectliteType.relation "Implements" ReflectliteType.implements_ #[.agg #[Po (some ⟨9,153,none⟩)],.iface 298 (.agg #[Po (some ⟨9,127,none⟩)])]).run Tryz.prog w=.ok (.bool true) w:=qk
theorem N1(v:Value)(w:World):(ReflectliteType.typeOf #[.iface 223 v]).run Tryz.prog w=.ok (.iface 298 (.agg #[Po (some ⟨9,223,none⟩)])) w:=qk
theorem Nz(v:Value)(w:World):(ReflectliteType.typeOf #[.iface 153 v]).run Tryz.prog w=.ok (.iface 298 (.agg #[Po (some ⟨9,153,none⟩)])) w:=qk
theorem KQ(w:World):(ReflectliteType.relation "AssignableTo" ReflectliteType.assignableTo #[.agg #[Po (some ⟨9,223,none⟩)],.iface 298 (.agg #[Po (some ⟨9,153,none⟩)])]).run Tryz.prog w=.ok (.bool false) w:=qk
theorem KP(w:World):(ReflectliteType.relation "AssignableTo" ReflectliteType.assignableTo #[.agg #[Po (some ⟨9,153,none⟩)],.iface 298 (.agg #[Po (some ⟨9,153,none⟩)])]).run Tryz.prog w=.ok (.bool true) w:=qk
theorem NZ(c:Int)(w:World):(ReflectliteValue.unpack (.iface 153 (.agg #[In i6 c]))).run Tryz.prog w
  =.ok (.agg #[Po (some ⟨9,153,none⟩),Po (some ⟨w.heap.size,0,none⟩),.int .u64 153]) (w.alloc (.cells #[In i6 c] 153)):=qk
theorem P7(w:World):(Rtype.elem? 155).run Tryz.prog w=.ok (some 153) w:=qk
theorem Tryz.rlMk(p:Addr)(w:World):(ReflectliteValue.mk 153 p ReflectliteValue.flagAddr).run Tryz.prog w=.ok (.agg #[Po (some ⟨9,153,none⟩),Po (some p),.int .u64 409]) w:=qk
theorem R8(a p:Addr)(W:World)(z:W.cell? a=some (Po (some p))):
  (ReflectliteValue.method (ReflectliteValue.valueError "reflectlite.Value.Elem" 0) ReflectliteValue.elem #[.agg #[Po (some ⟨9,155,none⟩),Po (some a),.int .u64 150]]).run Tryz.prog W
   =.ok (.agg #[Po (some ⟨9,153,none⟩),Po (some p),.int .u64 409]) W:=by
 rw[rlmO];simp only[eA,KO,Result.andThen];simp[ReflectliteValue.elem,loadVar,isAgg,underlying,Tryz.underlying155,z,Result.andThen,P7,Tryz.rlMk]
theorem rlsO(v x:Value):ReflectliteValue.set #[v,x]=(do
  let (some (dst,a,fl),some (src,b,_)):=(<-ReflectliteValue.parts v,<-ReflectliteValue.parts x)
   |unsupported (.noEntry "extern/(internal/reflectlite.Value).Set.zeroValue")
  if fl / ReflectliteValue.flagAddr%2==0 then unsupported (.noEntry "extern/(internal/reflectlite.Value).Set.unaddressable")
  let val<-loadVar src b
  if<-Rtype.directlyAssignable dst src then storeVar dst a val
  else if<-Rtype.implements dst src then
   if(<-Rtype.kind src)==20 then
    match val with
    | .nilIface=>unsupported (.noEntry "extern/reflectlite: a nil value of one interface type handed on as a value of another")
    |_=>storeVar dst a val
   else storeVar dst a (.iface src val)
  else panicString ("reflectlite.Set: value of type " ++(<-Rtype.spelt src)++ " is not assignable to type " ++(<-Rtype.spelt dst))
  pure (.tuple #[])):=rfl
theorem P6(a:Addr)(w:World):(ReflectliteValue.parts (.agg #[Po (some ⟨9,153,none⟩),Po (some a),.int .u64 409])).run Tryz.prog w=.ok (some (153,a,409)) w:=qk
theorem P5(a:Addr)(w:World):(ReflectliteValue.parts (.agg #[Po (some ⟨9,153,none⟩),Po (some a),.int .u64 153])).run Tryz.prog w=.ok (some (153,a,153)) w:=qk
theorem P8(w:World):(Rtype.directlyAssignable 153 153).run Tryz.prog w=.ok true w:=qk
theorem Th(w:World):(sizeOf 153).run Tryz.prog w=.ok 1 w:=qk
theorem Vx(z b:Addr)(c:Int)(aO:Value)(W:World)(hb:W.cell? b=some (In i6 c))(F:W.cell? z=some aO)(hf:W.frozen? z=false):
  (ReflectliteValue.set #[.agg #[Po (some ⟨9,153,none⟩),Po (some z),.int .u64 409],.agg #[Po (some ⟨9,153,none⟩),Po (some b),.int .u64 153]]).run Tryz.prog W
   =.ok (.tuple #[]) (W.setCell z (In i6 c)):=by
 rw[rlsO];simp only[eA,P6,P5,Result.andThen];simp[ReflectliteValue.flagAddr,loadVar,isAgg,underlying,Tryz.underlying153,hb,Result.andThen,P8,storeVar,Value.cells,storeCells,Addr.add,Th,loadCells,loadCellsFrom];rw[Go.run_store Tryz.prog W z _ _ (by rfl)];simp[F,hf]
theorem Ti(v:Value)(w:World):(Instr.typeAssert (.iface 223 v) 127 303 true).run Tryz.prog w=.ok (.tuple #[.nilIface,Bo false]) w:=
 run_typeAssert_lacksB Tryz.underlying303 qk qk v 127 w
theorem N9(v:Value)(w:World):(Instr.typeAssert (.iface 223 v) 127 306 true).run Tryz.prog w=.ok (.tuple #[.iface 223 v,Bo true]) w:=
 run_typeAssert_hasB Tryz.underlying306 qk v 127 w
theorem QE(v:Value)(w:World):(Go.method 555 223 v "Unwrap").run Tryz.prog w=.ok (409,v) w:=qk
theorem SH(v:Value)(w:World)(hv:v.oneCell'=true):Calls Tryz.prog 409 #[.agg #[v]] w λe w'=>e=.returned v/\w.alloc (.cells #[v] 223)=w':=by
 go_enter Tryz.func409,Tryz.ntmps409;go_wp2;go_ret;exact⟨rfl,rfl⟩
theorem Sx{w:World}{b z:Nat}{cs:Array Value}{t:TypeId}(h:w.heap[b]?=some (.cells cs t (0,0))):w.frozen? ⟨b,z,none⟩=false:=by
 simp[World.frozen?,h]
theorem as_in(c:Int)(z Y:Nat)(aO:Value)(w:World)(ht:qBl w z #[aO] 153)(hv:qBl w Y #[.pointer (qad z)] 155):
  Calls Tryz.prog 198 #[S9 c,.iface 155 (.pointer (qad z)),.agg #[Po (some ⟨9,155,none⟩),.pointer (qad Y),.int .u64 150],.iface 298 (.agg #[Po (some ⟨9,153,none⟩)])] w λe w'=>e=.returned (.bool true)/\qBl w' z #[In i6 c] 153/\∀N,N<=z->N<=w.heap.size->Below N w w':=by
 unfold S9;have h6:= @eu Tryz.prog 195 _ (λargs=>ReflectliteValue.unpack (args.getD 0 (.tuple #[]))) Tryz.func195 qk qk qk qk;have h7:= @eu Tryz.prog 196 _ (ReflectliteValue.methodAny (ReflectliteValue.valueError "reflectlite.Value.Type" 0) (λt _ _ _=>ReflectliteType.toType t)) Tryz.func196 qk qk qk qk;have h8:= @eu Tryz.prog 197 _ (ReflectliteValue.method (ReflectliteValue.valueError "reflectlite.Value.IsNil" 0) ReflectliteValue.isNil) Tryz.func197 qk qk qk qk;have aK:= @eu Tryz.prog 403 _ (ReflectliteType.abiMethod λt=>do pure (.int .u8 (<-Rtype.kind t))) Tryz.func403 qk qk qk qk;have aN:= @eu Tryz.prog 416 _ (ReflectliteType.method ReflectliteType.elem) Tryz.func416 qk qk qk qk;have aQ:= @eu Tryz.prog 417 _ (ReflectliteType.relation "Implements" ReflectliteType.implements_) Tryz.func417 qk qk qk qk;have aG:= @eu Tryz.prog 252 _ ReflectliteType.typeOf Tryz.func252 qk qk qk qk;have aM:= @eu Tryz.prog 414 _ (ReflectliteType.relation "AssignableTo" ReflectliteType.assignableTo) Tryz.func414 qk qk qk qk
 have aH:= @eu Tryz.prog 253 _ (ReflectliteValue.method (ReflectliteValue.valueError "reflectlite.Value.Elem" 0) ReflectliteValue.elem) Tryz.func253 qk qk qk qk;have aI:= @eu Tryz.prog 254 _ ReflectliteValue.set Tryz.func254 qk qk qk qk;have f1:=IF;have f2:=Na;have f3:=GZ;have f4:=LT;have f5:=LU;have f6:=Ga;have f7:=EK;have f8:=EL;have f9:=Nb;have au:=Gb;have aw:=N1;have ax:=Nz;have ay:=KQ;have az:=KP;have aA:=NZ;have aB:=Ti;have aC:=N9;have aD:=QE;have ak:z<w.heap.size:=(AB ht).1;have al:Y<w.heap.size:=(AB hv).1;obtain⟨O,aa⟩:∃W,w.alloc (.cells #[Po (some ⟨9,155,none⟩),.pointer (qad Y),.int .u64 150] 232)=W:=⟨_,rfl⟩;have t1:qBl O (w.heap.size) #[Po (some ⟨9,155,none⟩),.pointer (qad Y),.int .u64 150] 232:=by rw[<-aa];exact dm _ _
 have b1:Below w.heap.size w O:=by rw[<-aa];exact AN _ _
 have z1:w.heap.size<O.heap.size:=(AB t1).1;obtain⟨M,ah⟩:∃W,O.alloc (.cells #[.iface 153 (.agg #[In i6 c])] 223)=W:=⟨_,rfl⟩;have b2:Below O.heap.size O M:=by rw[<-ah];exact AN _ _
 have t2:=AK b2 t1 z1;have H:=b1.trans (b2.mono b1.size);obtain⟨Z,ae⟩:∃W,M.alloc (.cells #[In i6 c] 153)=W:=⟨_,rfl⟩;have t3:qBl Z (M.heap.size) #[In i6 c] 153:=by rw[<-ae];exact dm _ _
 have b3:Below M.heap.size M Z:=by rw[<-ae];exact AN _ _
 have F:=H.trans (b3.mono H.size);have c0:=AJ t2 0;have c1:=AJ t2 1;have c2:=AJ t2 2;have el:=R8 ⟨Y,0,none⟩ ⟨z,0,none⟩ M (AJ (AK H hv al) 0);have J:=AK F ht ak;have st:=Vx ⟨z,0,none⟩ ⟨M.heap.size,0,none⟩ c aO Z (AJ t3 0) (AJ J 0) (Sx J);have HF:Hid ((Z.setCell ⟨z,0,none⟩ (In i6 c)).heap[z]?=some (.cells #[In i6 c] 153 (0,0))/\∀N,N<=z->N<=w.heap.size->Below N w (Z.setCell ⟨z,0,none⟩ (In i6 c))):=⟨one_setCell J,λN h1 h2=>(F.mono h2).setCell h1 _⟩;clear ht hv t1 t2 t3 b1 b2 H b3 F J;go_enter Tryz.func198,Tryz.ntmps198;go_wp2;refine wp_loop_rounds 2 ?_;rw[rounds_succ]
 go_wp2_with (go_at_call 409;refine(SH _ _ rfl).mono ?_;rintro e w1 ⟨rfl,rfl⟩)
 rw[rounds_succ];go_wp2;go_ret;exact⟨rfl,HF.ab.1,HF.ab.2⟩
theorem as_own(c:Int)(z:Nat)(aO:Value)(w:World)(Z:KW w)(ht:qBl w z #[aO] 153):
  Calls Tryz.prog 101 #[S9 c,.iface 155 (.pointer (qad z))] w λe w'=>e=.returned (.bool true)/\qBl w' z #[In i6 c] 153/\∀N,N<=z->N<=w.heap.size->Below N w w':=by
 unfold KW at Z;unfold S9;have h6:= @eu Tryz.prog 195 _ (λargs=>ReflectliteValue.unpack (args.getD 0 (.tuple #[]))) Tryz.func195 qk qk qk qk;have h7:= @eu Tryz.prog 196 _ (ReflectliteValue.methodAny (ReflectliteValue.valueError "reflectlite.Value.Type" 0) (λt _ _ _=>ReflectliteType.toType t)) Tryz.func196 qk qk qk qk;have h8:= @eu Tryz.prog 197 _ (ReflectliteValue.method (ReflectliteValue.valueError "reflectlite.Value.IsNil" 0) ReflectliteValue.isNil) Tryz.func197 qk qk qk qk;have au:= @eu Tryz.prog 403 _ (ReflectliteType.abiMethod λt=>do pure (.int .u8 (<-Rtype.kind t))) Tryz.func403 qk qk qk qk;have ax:= @eu Tryz.prog 416 _ (ReflectliteType.method ReflectliteType.elem) Tryz.func416 qk qk qk qk;have ay:= @eu Tryz.prog 417 _ (ReflectliteType.relation "Implements" ReflectliteType.implements_) Tryz.func417 qk qk qk qk;have f1:=IF;have f2:=Na;have f3:=GZ;have f4:=LT;have f5:=LU;have f6:=Ga;have f7:=EK;have f8:=EL;have f9:=Nb;have am:=Gb
 have af:0<w.heap.size:=by
  rcases gi w.heap.size with h0|h
  ·simp[World.cell?,h0]at Z
  ·exact h
 have ah:z<w.heap.size:=(AB ht).1;obtain⟨H,M⟩:∃W,w.alloc (.cells #[.pointer (qad z)] 155)=W:=⟨_,rfl⟩;have t1:qBl H (w.heap.size) #[.pointer (qad z)] 155:=by rw[<-M];exact dm _ _
 have b1:Below w.heap.size w H:=by rw[<-M];exact AN _ _
 have z1:w.heap.size<H.heap.size:=(AB t1).1;obtain⟨J,O⟩:∃W,H.alloc (.cells #[Po (some ⟨9,155,none⟩),Po (some ⟨w.heap.size,0,none⟩),.int .u64 150] 232)=W:=⟨_,rfl⟩;have t2:qBl J (H.heap.size) #[Po (some ⟨9,155,none⟩),Po (some ⟨w.heap.size,0,none⟩),.int .u64 150] 232:=by rw[<-O];exact dm _ _
 have Y:Below H.heap.size H J:=by rw[<-O];exact AN _ _
 have F:=b1.trans (Y.mono b1.size);have n8:=R7 ⟨w.heap.size,0,none⟩ ⟨z,0,none⟩ J (AJ (AK Y t1) 0);have ae:J.cell? ⟨0,0,none⟩=some (.iface 298 (.agg #[Po (some ⟨9,127,none⟩)])):=(F.cell (p:=⟨0,0,none⟩) af).trans Z;have hm:=ae;have c0:=AJ t2 0;have c1:=AJ t2 1;have c2:=AJ t2 2;have HT:Hid (qBl J z #[aO] 153):=AK F ht ah;have HV:Hid (qBl J (w.heap.size) #[.pointer (qad z)] 155):=AK Y t1 z1;clear t1 t2 b1 Y ht Z;go_enter Tryz.func101,Tryz.ntmps101
 go_wp2_with (go_at_call 198;refine(as_in c z w.heap.size aO J HT.ab HV.ab).mono ?_;rintro e w3 ⟨rfl,h3,h4⟩)
 go_ret;exact⟨rfl,h3,λN h1 h2=>(F.mono h2).trans (h4 N h1 (AH h2 F.size))⟩
end
end Go.Proofs.YtbceafpodamnfaaGreatDoor
