import Derived.Test.YtbceafpodamnfaaGreatDoorG13
import Derived.Deep.DeepCutAuto
import Derived.RangeFuncNested
import Derived.RangeFuncLeaves
import Derived.Shelf.Abstract
import Derived.TacticsInMore
import Derived.LoopNIn
import Derived.LoopIn
set_option linter.all false
set_option maxHeartbeats 16000000
set_option maxRecDepth 100000
namespace Go.Proofs.YtbceafpodamnfaaGreatDoor
section
open Go.RowKit Go.Sort
open Go.Value renaming int->In,slice->Sl,string->Sg,bool->Bo,pointer->Po
open Go.IntKind renaming i64->i6
theorem Ny(c:Cp)(r:Int)(w:World):
  Calls Tryz.prog 424 #[.agg #[],.agg (qcV c),In i6 r] w λe w'=>e=.returned (.bool true)/\Below w.heap.size w w':=by
 go_enter Tryz.func424,Tryz.ntmps424;go_wp2;go_ret;exact⟨rfl,((dG _ _).alloc AG _).alloc qs _⟩
theorem NT(l:Int)(c:Cp)(r:Int)(w:World)(z:0<=r)(F:r<=1048576):
  Calls Tryz.prog 425 #[.agg #[In i6 l],.agg (qcV c),In i6 r] w λe w'=>e=.returned (.bool (c.ay !=3||decide (l<=r - 1)))/\Below w.heap.size w w':=by
 cases H:(c.ay !=3)
 ·go_enter Tryz.func425,Tryz.ntmps425
  go_wp2;go_ret;exact⟨AQ qs,((dG _ _).alloc AG _).alloc qs _⟩
 ·go_enter Tryz.func425,Tryz.ntmps425
  go_wp2;go_ret;exact⟨rfl,((dG _ _).alloc AG _).alloc qs _⟩
theorem Qi(s:Svc)(w:World)(z:s.aH=true):
  Calls Tryz.prog 309 #[.agg (qsV s)] w λe w'=>e=.returned (.iface 379 (.agg #[]))/\Below w.heap.size w w':=by
 go_enter Tryz.func309,Tryz.ntmps309;go_wp2;go_ret;exact⟨rfl,AN _ _⟩
theorem Qh(s:Svc)(w:World)(M:s.aH=false)(H:0<=s.au)(J:s.au<=10)(z:0<=s.aK)(F:s.aK<=10):
  Calls Tryz.prog 309 #[.agg (qsV s)] w λe w'=>e=.returned (.iface 381 (.agg #[In i6 (s.au - s.aK)]))/\Below w.heap.size w w':=by
 go_enter Tryz.func309,Tryz.ntmps309;go_wp2;go_ret;exact⟨rfl,AN _ _⟩
end
section
open Go.RowKit Go.Sort Go.Maps
def uniqC(B:Bk):Prop:=∀(i j:Nat) c d,i<j->B.ar[i]?=some c->B.ar[j]?=some d->¬(c.aa=d.aa/\c.ak=d.ak)
def wfC(B:Bk):Prop:=∀c∈B.ar,(Lit.int .i64 c.ak).wf=true
theorem P0{a b c:Cp}(F:An a b=true)(z:An b c=true):An a c=true:=by
 unfold An at *;simp only[ep,di,dS,fN]at *;rcases F with F|⟨J,n1⟩
 ·rcases z with z|⟨H,n2⟩
  ·exact .inl (CP _ _ _ F z)
  ·exact .inl (by rw[<-H];exact F)
 ·rcases z with z|⟨H,n2⟩
  ·exact .inl (by rw[J];exact z)
  ·exact .inr ⟨J.trans H,qo⟩
theorem Ks{B:Bk}(h:∀i,i<B.ar.length->BI B i=true):∀(j i:Nat) s t,i<j->B.ar[i]?=some s->B.ar[j]?=some t->An s t=true
 |0,i,_,_,O,_,_=>absurd O qo
 |j+1,i,s,t,O,H,W=>by
  have z:j+1<B.ar.length:=(AC W).1;obtain⟨p,F⟩:∃p,B.ar[j]?=some p:=⟨B.ar[j]' qo,by rw[dz]⟩
  have M:An p t=true:=by
   have:=h (j+1) z;unfold BI at this;rw[W]at this;simp[F]at this;exact this.2
  rcases eW i j with J|J
  ·exact P0 (Ks h j i s p J H F) M
  ·have e:i=j:=qo
   subst e;rw[F]at H;cases H;exact M
theorem QK{B:Bk}(h:BT (BI B) B.ar.length=true):uniqC B:=λi j c d z J M ⟨F,H⟩=>by
 have:=Ks (Lt h) j i c d z J M;unfold An at this;rw[F,H,BE]at this;simp at this
end
section
open Go.RowKit Go.Sort
open Go.Value renaming int->In,slice->Sl,string->Sg,bool->Bo,pointer->Po
open Go.IntKind renaming i64->i6
def Em(s:Svc)(c:Cp)(r:Int):Bool:=!c.am&&(s.aH||(c.ay !=3||decide (s.au - s.aK<=r - 1)))
theorem Mq(s:Svc)(c:Cp)(r:Int)(w:World)(aB:0<=r)(aC:r<=1048576)(aD:0<=s.au)(aF:s.au<=10)(az:0<=s.aK)(aA:s.aK<=10):
  Calls Tryz.prog 248 #[.agg (qsV s),.agg (qcV c),In i6 r] w λe w'=>e=.returned (.bool (Em s c r))/\Below w.heap.size w w':=by
 have ae:Below w.heap.size w ((w.alloc (.cells (qsV s) 34)).alloc (.cells (qcV c) 76)):=((dG _ _).alloc AG _).alloc qs _;obtain⟨t0,t1,t2⟩:=CL w (.cells (qsV s) 34) (.cells (qcV c) 76);have HF:Hid (Em s c r=(!c.am&&(s.aH||(c.ay !=3||decide (s.au - s.aK<=r - 1))))):=rfl;have af:Hid _:=λW=>Qi s W
 have ag:Hid _:=λW h=>Qh s W h aD aF az aA
 have ah:Hid _:=λW=>Ny c r W
 have aj:Hid _:=λW=>NT (s.au - s.aK) c r W aB aC
 have aK:∀w:World,(method 455 379 (.agg #[]) "loop.example/wharfsteward/impl.allows").run Tryz.prog w=.ok (424,.agg #[]) w:=λ_=>qk
 have aM:∀(w:World) (x:Int),(method 455 381 (.agg #[In i6 x]) "loop.example/wharfsteward/impl.allows").run Tryz.prog w=.ok (425,.agg #[In i6 x]) w:=λ_ _=>qk
 dsimp only[qsV,qcV]at ae t0 t1 t2 af ag ah aj⊢;generalize c.am=en at *;generalize s.aH=go at *;have Z:Hid _:=t0;have J:Hid _:=t1;have F:Hid _:=t2;clear t0 t1 t2;cases en
 ·cases go
  ·have HR:Hid _:=λW=>ag.ab W rfl
   clear af ag;go_enter Tryz.func248,Tryz.ntmps248;go_wp2;refine AU 10 ?_;apply AL
   ·intro V W K A z O H Y
    simp only[pA]at H;subst H;go_wp2;exact Y.ab _ brf
   apply qA0
   ·intro V W K A z O H Y
    simp only[pA,qv (O 0)]at H;subst H;have y0:=AJ (AK z J.ab (by rw[F.ab];omega)) 0;have y1:=AJ (AK z J.ab (by rw[F.ab];omega)) 1;have y2:=AJ (AK z J.ab (by rw[F.ab];omega)) 2;have y3:=AJ (AK z J.ab (by rw[F.ab];omega)) 3;have y4:=AJ (AK z J.ab (by rw[F.ab];omega)) 4;have y5:=AJ (AK z J.ab (by rw[F.ab];omega)) 5;have y6:=AJ (AK z J.ab (by rw[F.ab];omega)) 6;go_wp2;exact Y
   iterate 2 refine qA0 qP ?_
   apply qA0
   ·intro V W K A z O H Y
    simp only[pA,qv (O 3)]at H;subst H;have z0:=AJ (AK z Z.ab (by rw[F.ab];omega)) 0;have z1:=AJ (AK z Z.ab (by rw[F.ab];omega)) 1;have z2:=AJ (AK z Z.ab (by rw[F.ab];omega)) 2;have z3:=AJ (AK z Z.ab (by rw[F.ab];omega)) 3;have z4:=AJ (AK z Z.ab (by rw[F.ab];omega)) 4;have z5:=AJ (AK z Z.ab (by rw[F.ab];omega)) 5;have z6:=AJ (AK z Z.ab (by rw[F.ab];omega)) 6;have z7:=AJ (AK z Z.ab (by rw[F.ab];omega)) 7;have z8:=AJ (AK z Z.ab (by rw[F.ab];omega)) 8;have z9:=AJ (AK z Z.ab (by rw[F.ab];omega)) 9;have aH:=AJ (AK z Z.ab (by rw[F.ab];omega)) 10;have aI:=AJ (AK z Z.ab (by rw[F.ab];omega)) 11;have aJ:=AJ (AK z Z.ab (by rw[F.ab];omega)) 12;go_wp2;exact Y
   apply AL
   ·intro V W K A z O H Y
    simp only[pA,qv (O 3),qv (O 4)]at H;subst H
    go_wp2_with fail
    refine(HR.ab _).mono ?_;rintro e w3 ⟨rfl,aa⟩;go_wp2;exact Y.ab _ aa
   apply qA0
   ·intro V W K A z O H Y
    simp only[pA,qv (O 3)]at H;subst H;have y0:=AJ (AK z J.ab (by rw[F.ab];omega)) 0;have y1:=AJ (AK z J.ab (by rw[F.ab];omega)) 1;have y2:=AJ (AK z J.ab (by rw[F.ab];omega)) 2;have y3:=AJ (AK z J.ab (by rw[F.ab];omega)) 3;have y4:=AJ (AK z J.ab (by rw[F.ab];omega)) 4;have y5:=AJ (AK z J.ab (by rw[F.ab];omega)) 5;have y6:=AJ (AK z J.ab (by rw[F.ab];omega)) 6;go_wp2;exact Y
   refine qA0 qP ?_
   apply AL
   ·intro V W K A z O H Y
    simp only[pA,qv (O 3),qv (O 5),qv (O 6),qv (O 7)]at H;subst H
    go_wp2_with fail
    refine(aj.ab _).mono ?_;rintro e w3 ⟨rfl,aa⟩;go_wp2;exact Y.ab _ aa
   refine qA0 qP ?_
   intro V W A z M H;simp only[pA,qv (M 0),qv (M 1),qv (M 2),qv (M 3),qv (M 4),qv (M 5),qv (M 6),qv (M 7),qv (M 8),qv (M 9)]at H;clear M;subst H;simp only[dA,dN];go_wp2;go_ret;exact⟨AQ (by rw[HF.ab];simp),ae.trans (z.mono ae.size)⟩
  ·have HR:Hid _:=λW=>af.ab W rfl
   clear af ag;go_enter Tryz.func248,Tryz.ntmps248;go_wp2;refine AU 10 ?_;apply AL
   ·intro V W K A z O H Y
    simp only[pA]at H;subst H;go_wp2;exact Y.ab _ brf
   apply qA0
   ·intro V W K A z O H Y
    simp only[pA,qv (O 0)]at H;subst H;have y0:=AJ (AK z J.ab (by rw[F.ab];omega)) 0;have y1:=AJ (AK z J.ab (by rw[F.ab];omega)) 1;have y2:=AJ (AK z J.ab (by rw[F.ab];omega)) 2;have y3:=AJ (AK z J.ab (by rw[F.ab];omega)) 3;have y4:=AJ (AK z J.ab (by rw[F.ab];omega)) 4;have y5:=AJ (AK z J.ab (by rw[F.ab];omega)) 5;have y6:=AJ (AK z J.ab (by rw[F.ab];omega)) 6;go_wp2;exact Y
   iterate 2 refine qA0 qP ?_
   apply qA0
   ·intro V W K A z O H Y
    simp only[pA,qv (O 3)]at H;subst H;have z0:=AJ (AK z Z.ab (by rw[F.ab];omega)) 0;have z1:=AJ (AK z Z.ab (by rw[F.ab];omega)) 1;have z2:=AJ (AK z Z.ab (by rw[F.ab];omega)) 2;have z3:=AJ (AK z Z.ab (by rw[F.ab];omega)) 3;have z4:=AJ (AK z Z.ab (by rw[F.ab];omega)) 4;have z5:=AJ (AK z Z.ab (by rw[F.ab];omega)) 5;have z6:=AJ (AK z Z.ab (by rw[F.ab];omega)) 6;have z7:=AJ (AK z Z.ab (by rw[F.ab];omega)) 7;have z8:=AJ (AK z Z.ab (by rw[F.ab];omega)) 8;have z9:=AJ (AK z Z.ab (by rw[F.ab];omega)) 9;have aH:=AJ (AK z Z.ab (by rw[F.ab];omega)) 10;have aI:=AJ (AK z Z.ab (by rw[F.ab];omega)) 11;have aJ:=AJ (AK z Z.ab (by rw[F.ab];omega)) 12;go_wp2;exact Y
   apply AL
   ·intro V W K A z O H Y
    simp only[pA,qv (O 3),qv (O 4)]at H;subst H
    go_wp2_with fail
    refine(HR.ab _).mono ?_;rintro e w3 ⟨rfl,aa⟩;go_wp2;exact Y.ab _ aa
   apply qA0
   ·intro V W K A z O H Y
    simp only[pA,qv (O 3)]at H;subst H;have y0:=AJ (AK z J.ab (by rw[F.ab];omega)) 0;have y1:=AJ (AK z J.ab (by rw[F.ab];omega)) 1;have y2:=AJ (AK z J.ab (by rw[F.ab];omega)) 2;have y3:=AJ (AK z J.ab (by rw[F.ab];omega)) 3;have y4:=AJ (AK z J.ab (by rw[F.ab];omega)) 4;have y5:=AJ (AK z J.ab (by rw[F.ab];omega)) 5;have y6:=AJ (AK z J.ab (by rw[F.ab];omega)) 6;go_wp2;exact Y
   refine qA0 qP ?_
   apply AL
   ·intro V W K A z O H Y
    simp only[pA,qv (O 3),qv (O 5),qv (O 6),qv (O 7)]at H;subst H
    go_wp2_with fail
    refine(ah.ab _).mono ?_;rintro e w3 ⟨rfl,aa⟩;go_wp2;exact Y.ab _ aa
   refine qA0 qP ?_
   intro V W A z M H;simp only[pA,qv (M 0),qv (M 1),qv (M 2),qv (M 3),qv (M 4),qv (M 5),qv (M 6),qv (M 7),qv (M 8),qv (M 9)]at H;clear M;subst H;simp only[dA,dN];go_wp2;go_ret;exact⟨AQ (by rw[HF.ab];rfl),ae.trans (z.mono ae.size)⟩
 ·clear af ag
  go_enter Tryz.func248,Tryz.ntmps248;go_wp2;refine AU 10 ?_;apply AL
  ·intro V W K A z O H Y
   simp only[pA]at H;subst H;go_wp2;exact Y.ab _ brf
  apply qA0
  ·intro V W K A z O H Y
   simp only[pA,qv (O 0)]at H;subst H;have y0:=AJ (AK z J.ab (by rw[F.ab];omega)) 0;have y1:=AJ (AK z J.ab (by rw[F.ab];omega)) 1;have y2:=AJ (AK z J.ab (by rw[F.ab];omega)) 2;have y3:=AJ (AK z J.ab (by rw[F.ab];omega)) 3;have y4:=AJ (AK z J.ab (by rw[F.ab];omega)) 4;have y5:=AJ (AK z J.ab (by rw[F.ab];omega)) 5;have y6:=AJ (AK z J.ab (by rw[F.ab];omega)) 6;go_wp2;exact Y
  iterate 8 refine qA0 qP ?_
  intro V W A z M H;simp only[pA,qv (M 0),qv (M 1),qv (M 2),qv (M 3),qv (M 4),qv (M 5),qv (M 6),qv (M 7),qv (M 8),qv (M 9)]at H;clear M;subst H;simp only[dA,dN];go_wp2;go_ret;exact⟨AQ (by rw[HF.ab];rfl),ae.trans (z.mono ae.size)⟩
end
section
open Go.RowKit Go.Sort Go.Maps
open Go.Value renaming int->In,slice->Sl,string->Sg,bool->Bo,pointer->Po
open Go.IntKind renaming i64->i6
theorem numRow:(290:TypeId)<Tryz.prog.types.size:=iK qk
theorem numWide:(match Tryz.prog.underlying 290 with|some (.array _ _)|some (.struct _)=>true|_=>false)=true:=qk
theorem numLaw:Keyed Tryz.prog 290:=Keyed.of_law (deep_law_laid KR (m:=3) qo numRow qk numWide)
theorem Qx:Tryz.prog.cellsOf 290=2:=qk
theorem numKey:Tryz.prog.keyType 290=true:=qk
def Ih(s:qB)(n:Int):Lit:=.string (keyBytes [.string s.data.toList,.int .i64 n])
theorem Lp(s:qB)(n:Int)(hk:(Lit.int .i64 n).wf=true)(F:s.size<=maxLen):keyOf Tryz.prog 290 (.agg #[Sg s,In i6 n])=some (Ih s n):=by
 have hf:(Value.agg #[Sg s,In i6 n]).formed Tryz.prog 290=true:=by
  simp[Value.formed,Tryz.underlying290,Qx]
 unfold keyOf;rw[Tryz.underlying290];simp only[numKey,hf,Bool.and_self,gu];generalize z:Tryz.prog.types.size=m
 match m,z with
 |0,z=>have:=numRow;rw[z]at this;exact absurd this (gN _)
 |m+1,_=>
  simp[Program.keyLits,Tryz.underlying290,Qx,RI,K9,Tryz.underlying3,Tryz.underlying9,Value.cells,hk,F,Ih]
theorem Q2{n n':Int}{s z:qB}(hk:(Lit.int .i64 n).wf=true)(F:(Lit.int .i64 n').wf=true)(O:s.size<=maxLen)(H:z.size<=maxLen)(h:Ih s n=Ih z n'):s=z/\n=n':=by
 have M:=Lp s n hk O;have J:=Lp z n' F H;rw[<-h]at J;have:=numLaw.inj M J
 simpa using this
theorem Mm(s:qB)(n:Int):WideAt.IsKeyLit (Ih s n):=trivial
theorem Nn(n:Int)(w:World):(Instr.makeMap 287 (some (In i6 n))).run Tryz.prog w=.ok (.map (some w.heap.size)) (w.alloc (.map #[] 0)):=by
 simp[Instr.makeMap,fQ Tryz.underlying287,asInt,asIntOf]
def CopiesAt(w:World)(b:Nat)(B:Bk)(k:Nat):Prop:=∃(n:Nat) (D:DataW Unit),n<=k/\w.ownsMap Tryz.prog 290 (plainElem Tryz.prog 3) b n D/\
 (∀(x:qB) (m:Int),x.size<=maxLen->(Lit.int .i64 m).wf=true->(∀(i:Nat) c,i<k->B.ar[i]?=some c->¬(c.aa=x/\c.ak=m))->Maps.has D (Ih x m)=false)/\
 (∀(i:Nat) c,i<k->B.ar[i]?=some c->Maps.has D (Ih c.aa c.ak)=true/\D.atKey (Ih c.aa c.ak) (.lit (.int .i64 0))=.lit (.int .i64 i))
theorem CopiesAt.aV{w w':World}{b:Nat}{B:Bk}{k:Nat}(h:CopiesAt w b B k)(hb:w'.heap[b]?=w.heap[b]?):CopiesAt w' b B k:=by
 obtain⟨n,D,J,⟨es,clock,H,F,M,z⟩,r⟩:=h;exact⟨n,D,J,⟨es,clock,by rw[hb];exact H,F,M,z⟩,r⟩
theorem CopiesAt.lt{w:World}{b:Nat}{B:Bk}{k:Nat}(h:CopiesAt w b B k):b<w.heap.size:=by
 obtain⟨n,D,F,z,_⟩:=h;exact z.lt
theorem CopiesAt.start(w:World)(B:Bk):CopiesAt (w.alloc (.map #[] 0)) w.heap.size B 0:=
 ⟨0,.map [],AG,World.ownsMap_made w _ _ _,λ_ _ _ _ _=>rfl,λi s z=>absurd z qo⟩
theorem CopiesAt.step{w':World}{b:Nat}{B:Bk}{k n:Nat}{D:DataW Unit}{s:Cp}(hz:∀s∈B.ar,s.aa.size<=maxLen/\s.aC.size<=maxLen)(hw:wfC B)(hu:uniqC B)(z:B.ar[k]?=some s)
  (hn:n<=k) (h1:∀(x:qB) (m:Int),x.size<=maxLen->(Lit.int .i64 m).wf=true->(∀(i:Nat) c,i<k->B.ar[i]?=some c->¬(c.aa=x/\c.ak=m))->Maps.has D (Ih x m)=false)
  (h2:∀(i:Nat) c,i<k->B.ar[i]?=some c->Maps.has D (Ih c.aa c.ak)=true/\D.atKey (Ih c.aa c.ak) (.lit (.int .i64 0))=.lit (.int .i64 i))
  (hD:IsMap D)
  (M:w'.ownsMap Tryz.prog 290 (plainElem Tryz.prog 3) b (n+1) (D.put (Ih s.aa s.ak) (.lit (.int .i64 (k:Int))))):CopiesAt w' b B (k+1):=by
 have O:=(hz s (AE z)).1;have W:=hw s (AE z);refine⟨n+1,_,qo,M,λx m hx hm J=>?_,λi t hi F=>?_⟩
 ·rw[has_put_other (λe=>J k s qo z (let ⟨a,b⟩:=Q2 hm W hx O e;⟨a.symm,b.symm⟩))]
  exact h1 x m hx hm λi t hi F=>J i t qo F
 ·rcases eW i k with Y|Y
  ·have Z:=(hz t (AE F)).1
   have aa:=hw t (AE F);have H:Ih t.aa t.ak≠Ih s.aa s.ak:=λe=>hu i k t s Y F z (Q2 aa W Z O e)
   rw[has_put_other H,atKey_put_other H];exact h2 i t Y F
  ·have e:i=k:=qo
   subst e;rw[z]at F;cases F;exact⟨has_put_same hD (Mm _ _) _,atKey_put_same hD (Mm _ _) _ _⟩
theorem NH(B:Bk)(a1 a2 a3:qO)(c1 c2 c3:Nat)(w:World)(hS:B.aR)(hZ:B.aP)(hW:wfC B)(hU:uniqC B)(hB:BkAt w a1 a2 a3 B):
  Calls Tryz.prog 246 #[.agg (qbV B a1 c1 a2 c2 a3 c3)] w λe w'=>e=.returned (.map (some (w.heap.size+1)))/\CopiesAt w' (w.heap.size+1) B B.ar.length/\Below w.heap.size w w':=by
 obtain⟨aK,aM,aN⟩:=hS;have am:=Nn;obtain⟨t0,t1,t2⟩:=CL w (.cells (qbV B a1 c1 a2 c2 a3 c3) 28) (.map #[] 0);have T0:Hid _:=t0
 have T1:Hid (CopiesAt ((w.alloc (.cells (qbV B a1 c1 a2 c2 a3 c3) 28)).alloc (.map #[] 0)) (w.heap.size+1) B 0):=by
  have:=CopiesAt.start (w.alloc (.cells (qbV B a1 c1 a2 c2 a3 c3) 28)) B;have e:(w.alloc (.cells (qbV B a1 c1 a2 c2 a3 c3) 28)).heap.size=w.heap.size+1:=by show(w.heap.push _).size=_;simp
  rw[e]at this;exact this
 clear t0 t1 t2;go_enter Tryz.func246,Tryz.ntmps246;go_wp2;clear am
 go_loopw [13] (λiv wr=>∃k:Nat,k<=B.ar.length/\iv=In i6 k/\Below w.heap.size w wr/\Hid (CopiesAt wr (w.heap.size+1) B k)) (λi _=>B.ar.length - (intOf i).toNat)
 case atStart=>exact⟨0,qo,rfl,((dG _ _).alloc AG _).alloc qs _,T1⟩
 case round=>
  obtain⟨k,hk,rfl,hb,O⟩:=hrel;have ax:w.heap.size+1<wr.heap.size:=O.ab.lt
  by_cases J:k<B.ar.length
  ·have aa:B.ar≠[]:=by intro h;rw[h]at J;simp at J
   obtain⟨b,aS,ea,ak,W⟩:=hB.2.1 aa;subst ea;obtain⟨s,z⟩:∃s,B.ar[k]?=some s:=⟨B.ar[k],by simp[J]⟩;have Z:=(hZ.2.2.2.2.1 s (AE z)).1;have af:=hW s (AE z);have ah:Hid _:=af;have ag:Hid _:=z;have Y:=(W k s z).below hb ak;unfold CpAt at Y;obtain⟨x0,x1,x2,x3,x4,x5,x6⟩:=Y;obtain⟨n,D,hn,H,h1,h2⟩:=O.ab;have H1:Hid _:=h1;have H2:Hid _:=h2;have an:n<maxLen:=qm
   clear z W aa h1 h2 af
   go_wp2_with (at_mapUpdate;refine wpList_mapUpdate_own _ rfl (.tmp 18) (.tmp 23) (.tmp 24) 287 rfl 290 3 numLaw Tryz.underlying287 (plainElem Tryz.prog 3) (w.heap.size+1) n D rfl (H.alloc _) an _ _ _ rfl rfl (Lp s.aa s.ak ah.ab Z) _ [] (plainElem_int Tryz.underlying3 (ig qo)) ?_;intro w1 M F)
   have aq:(wr.alloc (.cells (qcV s) 76)).heap.size=wr.heap.size+1:=by show(wr.heap.push _).size=_;simp
   have aj:Below w.heap.size w w1:=(hb.alloc hb.size _).grown F (by rw[aq];omega) (λj hj=>by cases hj;omega);have ae:Hid _:=CopiesAt.step hZ.2.2.2.2.1 hW hU ag.ab hn H1.ab H2.ab H.isMap M
   go_roundw
   case rel=>exact⟨k+1,qo,qn,aj,ae⟩
   case measure=>simp[intOf];omega
  ·go_wp2
   go_ret;have al:k=B.ar.length:=qo
   subst al;exact⟨rfl,O.ab,hb⟩
end
section
open Go.RowKit Go.Sort
open Go.Value renaming int->In,slice->Sl,string->Sg,bool->Bo,pointer->Po
open Go.IntKind renaming i64->i6
def Nt(a b:qB):Int:=if Op.bytesLess a.toList b.toList=true then -1 else if(a.toList==b.toList)=true then 0 else 1
theorem Mz(a:qB)(w:World):Calls Tryz.prog 305 #[Sg a] w λe w'=>e=.returned (.bool false)/\w'=w:=by
 go_enter Tryz.func305,Tryz.ntmps305;go_wp2;go_ret;exact⟨rfl,rfl⟩
theorem TW(a b:qB)(w:World):Calls Tryz.prog 240 #[Sg a,Sg b] w λe w'=>e=.returned (In i6 (Nt a b))/\w'=w:=by
 obtain⟨H,z⟩:∃H,Hid (Nt a b=H):=⟨_,rfl⟩;rw[z.ab];go_enter Tryz.func240,Tryz.ntmps240
 go_wp2_with fail
 refine(Mz a _).mono ?_;rintro e _ ⟨rfl,rfl⟩
 go_wp2_with fail
 refine(Mz b _).mono ?_;rintro e _ ⟨rfl,rfl⟩;cases J:Op.bytesLess a.toList b.toList
 ·cases M:(a.toList==b.toList)
  ·have F:Hid (H=1):=by unfold Hid;rw[<-z.ab];unfold Nt;rw[J,M];rfl
   go_wp2;go_ret;exact⟨by rw[F.ab];rfl,rfl⟩
  ·have F:Hid (H=0):=by unfold Hid;rw[<-z.ab];unfold Nt;rw[J,M];rfl
   go_wp2;go_ret;exact⟨by rw[F.ab];rfl,rfl⟩
 ·have F:Hid (H= -1):=by unfold Hid;rw[<-z.ab];unfold Nt;rw[J];rfl
  go_wp2;go_ret;exact⟨by rw[F.ab];rfl,rfl⟩
theorem Rt(x:Cp)(nm:qB)(w:World):Calls Tryz.prog 239 #[.agg (qcV x),Sg nm] w λe w'=>e=.returned (In i6 (Nt x.aa nm))/\Below w.heap.size w w':=by
 obtain⟨J,z⟩:∃W,w.alloc (.cells (qcV x) 76)=W:=⟨_,rfl⟩;have F:=AN w (.cells (qcV x) 76);have H:=dm w (.cells (qcV x) 76);rw[z]at F H;have e0:=AJ H 0;clear H;go_enter Tryz.func239,Tryz.ntmps239
 go_upto_region 1 with fail
 clear z
 go_wp2_with fail
 refine(TW x.aa nm J).mono ?_;rintro e _ ⟨rfl,rfl⟩;clear e0;go_wp2;go_ret;exact⟨rfl,F⟩
def Ds(l:List Cp):Prop:=∀(i j:Nat) s t,i<j->l[i]?=some s->l[j]?=some t->Op.bytesLess t.aa.toList s.aa.toList=false
theorem LI{a b c:List UInt8}(h:Op.bytesLess b a=false)(z:Op.bytesLess b c=true):Op.bytesLess a c=true:=by
 have t:=Cm a b;rw[h]at t;simp only[Bool.not_false,ep]at t;rcases t with t|t
 ·exact CP _ _ _ t z
 ·rw[eq_of_beq t];exact z
theorem Mk{a b c:List UInt8}(h:Op.bytesLess b a=false)(z:Op.bytesLess a c=false):Op.bytesLess b c=false:=by
 cases hb:Op.bytesLess b c
 ·rfl
 ·rw[LI h hb]at z;cases z
theorem NV{a b:Cp}(h:An a b=true):Op.bytesLess b.aa.toList a.aa.toList=false:=by
 unfold An at h;simp only[ep,di]at h;rcases h with h|h
 ·have t:=Cm b.aa.toList a.aa.toList
  rw[h]at t;simp only[Bool.not_true,gG]at t;exact t.1
 ·rw[eq_of_beq h.1];exact BE _
theorem Jg{B:Bk}(h:Valid B):Ds B.ar:=by
 have step:∀(k:Nat) s t,B.ar[k]?=some s->B.ar[k+1]?=some t->Op.bytesLess t.aa.toList s.aa.toList=false:=by
  intro k s t J z;have F:=Lt h.ar (k+1) (AC z).1;unfold BI at F;rw[z]at F;simp only[Nat.add_sub_cancel,J,di,ep]at F
  have O:An s t=true:=by
   rcases F.2 with h|h
   ·exact absurd h qs
   ·exact h
  exact NV O
 intro i j s t H J z;obtain⟨d,rfl⟩:∃d,j=i+1+d:=⟨j - (i+1),qo⟩;clear H
 induction d generalizing t with
 |zero=>exact step i s t J z
 |succ d Y=>
  have W:=(AC z).1;obtain⟨u,M⟩:∃u,B.ar[i+1+d]?=some u:=⟨B.ar[i+1+d]' qo,by rw[dz]⟩;exact Mk (step (i+1+d) u t M (by rw[<-z];rfl)) (Y u M)
theorem bsC_any(l:List Cp)(nm:qB)(ao:qO)(n cap:Nat)(w:World)(HN:Hid (l.length=n))(hl:n<=1048576)(ag:Hid (Ds l))(HC:Hid (SlC w ao l)):
  Calls Tryz.prog 238 #[Sl ao n cap,Sg nm,.func (.func 239) #[] #[]] w λe w'=>∃(k:Nat) (fd:Bool),e=.returned (.tuple #[In i6 k,Bo fd])/\k<=n/\(∀(i:Nat) s,i<k->l[i]?=some s->Op.bytesLess s.aa.toList nm.toList=true)/\(∀(i:Nat) s,k<=i->l[i]?=some s->Op.bytesLess s.aa.toList nm.toList=false)/\Below w.heap.size w w':=by
 go_enter Tryz.func238,Tryz.ntmps238;go_wp2
 go_loopw [9,10] (λiv jv wr=>∃(i j:Nat),i<=j/\j<=n/\iv=In i6 i/\jv=In i6 j/\Below w.heap.size w wr/\Hid (∀(q:Nat) s,q<i->l[q]?=some s->Op.bytesLess s.aa.toList nm.toList=true)/\Hid (∀(q:Nat) s,j<=q->l[q]?=some s->Op.bytesLess s.aa.toList nm.toList=false)) (λi j _=>(intOf j).toNat - (intOf i).toNat)
 case atStart=>exact⟨0,n,qo,qo,rfl,rfl,dG _ _,λq s hq=>absurd hq qo,λq s hq Y=>absurd (AC Y).1 (by rw[HN.ab];omega)⟩
 case round=>
  obtain⟨i,j,aG,aI,rfl,rfl,hb,HL,HG⟩:=hrel
  by_cases aJ:i<j
  ·have aa:l≠[]:=by intro h;have:=HN.ab;rw[h]at this;simp at this;omega
   obtain⟨g,ah,rfl,Z,F⟩:=HC.ab aa;have ak:Hid (LX w g ah l):=F;clear F
   go_upto_region 5 with fail
   obtain⟨h,hh⟩:∃h:Nat,((i:Int)+(j:Int)) / 2=(h:Int):=⟨(i+j) / 2,qo⟩;have h1:i<=h:=qo
   have h2:h<j:=qo
   rw[hh];clear hh;obtain⟨s,Y⟩:∃s,l[h]?=some s:=⟨l[h]'(by rw[HN.ab];omega),by rw[dz]⟩;have O:Hid (l[h]?=some s):=Y;have J:=(ak.ab h s Y).below hb Z;clear Y;unfold CpAt at J;obtain⟨x0,x1,x2,x3,x4,x5,x6⟩:=J
   go_wp2_with fail
   refine(Rt s nm _).mono ?_;rintro e w2 ⟨rfl,H⟩;have W:=hb.trans (H.mono hb.size);clear H x0 x1 x2 x3 x4 x5 x6;cases z:Op.bytesLess s.aa.toList nm.toList
   ·have h0:¬(Nt s.aa nm<0):=by unfold Nt;rw[z];simp only[fI,gW];split<;>omega
    go_wp2
    go_roundw
    case rel=>exact⟨i,h,qo,qo,(by first|rfl|trivial),(by first|rfl|trivial),W,HL,λq t hq ht=>by
     rcases eW h q with M|an
     ·exact Mk (ag.ab h q s t M O.ab ht) z
     ·rw[show q=h by omega,O.ab]at ht
      cases ht
      exact z⟩
    case measure=>simp[intOf];omega
   ·have h0:Nt s.aa nm<0:=by unfold Nt;rw[z];simp
    go_wp2
    go_roundw
    case rel=>exact⟨h+1,j,qo,qo,qn,(by first|rfl|trivial),W,λq t hq ht=>by
     rcases eW q h with M|an
     ·exact LI (ag.ab q h t s M ht O.ab) z
     ·rw[show q=h by omega,O.ab]at ht
      cases ht
      exact z,HG⟩
    case measure=>simp[intOf];omega
  ·obtain rfl:i=j:=qo
   by_cases aH:i<n
   ·have aa:l≠[]:=by intro h;have:=HN.ab;rw[h]at this;simp at this;omega
    obtain⟨g,ah,rfl,Z,F⟩:=HC.ab aa;obtain⟨s,Y⟩:∃s,l[i]?=some s:=⟨l[i]'(by rw[HN.ab];omega),by rw[dz]⟩;have J:=(F i s Y).below hb Z;clear Y F;unfold CpAt at J;obtain⟨x0,x1,x2,x3,x4,x5,x6⟩:=J
    go_upto_region 8 with fail
    go_wp2_with fail
    refine(Rt s nm _).mono ?_;rintro e w2 ⟨rfl,H⟩;have W:=hb.trans (H.mono hb.size);clear H x0 x1 x2 x3 x4 x5 x6;go_wp2;exact dF (by simp[results,Tryz.results238,go_sem];rfl) rfl ⟨i,_,rfl,qo,HL.ab,HG.ab,W⟩
   ·go_wp2
    exact dF (v:=.tuple #[In i6 i,Bo false]) (by simp[results,Tryz.results238,go_sem]) rfl ⟨i,false,rfl,qo,HL.ab,HG.ab,hb⟩
end
section
open Go.RowKit Go.Shelf
open Go.Value renaming int->In,slice->Sl,string->Sg,bool->Bo,pointer->Po
open Go.IntKind renaming i64->i6
attribute [local go_sem] i7
theorem LQ(F:Fence)(n:Nat)(h:F.fn 168)(z:F.round=none)(B:Bk)(nm:qB)(a1 a2 a3:qO)(c1 c2 c3:Nat)(w:World):
  CallsIn F n Tryz.prog 168 #[.agg (qbV B a1 c1 a2 c2 a3 c3),Sg nm] w λe w'=>e=.returned (.func (.func 237) #[] #[Po (some ⟨w.heap.size,0,none⟩),Po (some ⟨w.heap.size+1,0,none⟩)])/\w'=(w.alloc (.cells (qbV B a1 c1 a2 c2 a3 c3) 28)).alloc (.cells #[Sg nm] 9):=by
 refine callsIn_of_wp Tryz.func168 rfl h ?_ z;simp only[Tryz.ntmps168,er,dM,fc,Nat.reduceAdd,Nat.reduceSub,iw,Array.replicate_zero,iO,iA,fq,fu]
 gi_wp2
 go_ret;exact⟨rfl,rfl⟩
def ofS(nm:qB)(l:List Cp):List Cp:=l.filter λc=>c.aa.toList==nm.toList
def ofG{α:Type}(g:α->Cp)(nm:qB)(l:List α):List α:=l.filter λc=>(g c).aa.toList==nm.toList
theorem PR{α:Type}(g:α->Cp)(nm:qB)(l:List α)(f k:Nat)(hR:Ds (l.map g))
  (h1:∀(i:Nat) s,i<f->(l.map g)[i]?=some s->Op.bytesLess s.aa.toList nm.toList=true)
  (h2:∀(i:Nat) s,f<=i->(l.map g)[i]?=some s->Op.bytesLess s.aa.toList nm.toList=false)
  (h3:∀x∈(l.drop f).take k,((g x).aa.toList==nm.toList)=true)
  (h4:∀x,(l.drop f)[k]?=some x->((g x).aa.toList==nm.toList)=false):ofG g nm l=(l.drop f).take k:=by
 have e:l=l.take f++((l.drop f).take k++(l.drop f).drop k):=by rw[fM,fM]
 have z:∀i x,l[i]?=some x->(l.map g)[i]?=some (g x):=λi x h=>by rw[ej,h];rfl
 have f1:(l.take f).filter (λc=>(g c).aa.toList==nm.toList)=[]:=il.2 λx hx=>by
  obtain⟨i,F⟩:=eD hx
  have J:i<f:=by
   have:=(AC F).1;rw[dI]at this;omega
  rw[eH J]at F;have hb:=h1 i _ J (z i x F);intro O;rw[eq_of_beq O,BE]at hb;cases hb
 have f2:((l.drop f).take k).filter (λc=>(g c).aa.toList==nm.toList)=(l.drop f).take k:=i9.2 h3
 have f3:((l.drop f).drop k).filter (λc=>(g c).aa.toList==nm.toList)=[]:=il.2 λx hx=>by
  obtain⟨i,F⟩:=eD hx;rw[ew,ew]at F;have au:=(AC F).1;obtain⟨y,W⟩:∃y,l[f+k]?=some y:=⟨l[f+k]' qo,by rw[dz]⟩;have H:=h4 y (by rw[ew];exact W);have Y:=h2 (f+k) _ qo (z _ y W);have ht:=Cm (g y).aa.toList nm.toList;rw[Y,H]at ht;have M:Op.bytesLess nm.toList (g y).aa.toList=true:=by simpa using ht.symm
  intro O;rcases gi i with Z|Z
  ·subst Z
   rw[gp,W]at F;cases F;rw[O]at H;cases H
  ·have hr:=hR (f+k) (f+(k+i)) _ _ qo (z _ y W) (z _ x F)
   rw[eq_of_beq O,M]at hr;cases hr
 show l.filter _=_
 conv=>lhs;rw[e]
 rw[ez,ez,f1,f2,f3,fU,fq]
theorem ofG_long{α:Type}(g:α->Cp)(nm:qB)(l:List α)(f k:Nat)(x:α)(hx:(l.drop f)[k]?=some x)(H:((g x).aa.toList==nm.toList)=true)
  (F:∀x∈(l.drop f).take k,((g x).aa.toList==nm.toList)=true):((l.drop f).take k).length<(ofG g nm l).length:=by
 have hk:=(AC hx).1;have e:(l.drop f).take (k+1)=(l.drop f).take k++[x]:=by rw[ec,hx];rfl
 have J:((l.drop f).take (k+1)).Sublist l:=(List.take_sublist _ _).trans (List.drop_sublist _ _);have h:=(J.filter λc=>(g c).aa.toList==nm.toList).length_le
 rw[i9.2 (λy z=>by
  rw[e,dO]at z;rcases z with z|z
  ·exact F y z
  ·rw[dl.1 z];exact H),e,dE]at h
 unfold ofG;simp only[iR]at h;omega
theorem take_all{α:Type}(l:List α)(p:α->Bool)(k:Nat)(x:α)(hx:l[k]?=some x)(H:p x=true)(F:∀x∈l.take k,p x=true):∀x∈l.take (k+1),p x=true:=λy z=>by
 rw[ec,hx,dO]at z;rcases z with z|z
 ·exact F y z
 ·rw[dl.1 z];exact H
def KpB(n₀ Bt:Nat)(W W':World):Prop:=Below n₀ W W'/\W'.heap[Bt]?=W.heap[Bt]?
theorem NJ{α:Type}(g:α->Cp)(L:List α)(n:Nat)(hn:1<=n)(l Bb Bt n₀:Nat)(B:Bk)(Z:L.map g=B.ar)(nm:qB)(a1 a2 a3:qO)(c1 c2 c3:Nat)(bK:B.ar.length<=1048576)(az:Hid (Ds B.ar))(HK:Hid (B.ar.length<=c2))(J Jx:List α->World->Prop)
  (hY:∀Y x c W,g x=c->J Y W->Y.length<(ofG g nm L).length->YieldAt Fence.wide (n - 1) Tryz.prog l #[.agg (qcV c)] W λe W'=>
   (e=.returned (.bool true)/\J (Y++[x]) W'/\KpB n₀ Bt W W')\/(e=.returned (.bool false)/\Jx (Y++[x]) W'))
  (W:World) (aA:AbidesFrom W.heap.size J) (aj:qBl W Bb (qbV B a1 c1 a2 c2 a3 c3) 28)
  (ak:qBl W Bt #[Sg nm] 9) (hC:B.ar≠[]->∃b O,a2=some ⟨b,O,none⟩/\b<n₀/\LX W b O B.ar) (an:n₀<=W.heap.size) (h0:J [] W):
  CallsIn Fence.wide n Tryz.prog 237 #[.func (.yield l) #[] #[],.pointer (qad Bb),.pointer (qad Bt)] W λe W'=>(∃v,e=.returned v)/\
   ((∃ys,ys=ofG g nm L/\J ys W')\/(∃Y,True/\Jx Y W')):=by
 have ba:Bt<W.heap.size:=(AB ak).1;have bC:Bb<W.heap.size:=(AB aj).1;have aQ:Hid _:=ak;have aO:Hid _:=aj;have e2:=AJ aj 2;have et:=AJ ak 0;have a9:Hid (SlC W a2 B.ar):=λbO=>let ⟨b,O,e,hb,am⟩:=hC bO;⟨b,O,e,AF hb an,am⟩
 have aq:∀w1,Below W.heap.size W w1->J [] w1:=λw1 hb=>aA _ _ _ none h0 ⟨hb.os,hb.tape,hb.output,hb.size,λi hi _=>hb.block i hi⟩ (λr e=>by cases e)
 clear ak aj;refine callsIn_of_wp Tryz.func237 rfl trivial ?_ rfl;simp only[Tryz.ntmps237,er,dM,fc,Nat.reduceAdd,Nat.reduceSub,iw,Array.replicate_zero,iO,iA,fq,fu]
 gi_wp2
 refine⟨trivial,?_⟩;refine((iQ (n:=n - 1)).2 (bsC_any B.ar nm a2 B.ar.length c2 W rfl bK az a9)).mono ?_;rintro e w1 ⟨f,fd,rfl,b9,bk,bm,F⟩;have aS:Hid _:=bk;have a4:Hid _:=bm;clear bk bm e2 et;have al:J [] w1:=aq w1 F;have aM:Hid _:=AK F aQ.ab ba;have au:Below n₀ W w1:=F.mono an;have e2:=AJ (AK F aO.ab bC) 2;have aB:L.length=B.ar.length:=by rw[<-Z,ef]
 have b2:n₀<=w1.heap.size:=AH an F.size;have bD:Bt<w1.heap.size:=AF ba F.size;have a6:∀s W1 o,J s W1->J s (W1.alloc o):=λs W1 o hs=>aA s _ _ none hs (World.grownBy_alloc W1 o none) (λr e=>by cases e)
 have ay:Hid (Ds (L.map g)):=by unfold Hid;rw[Z];exact az.ab
 have aw:Hid (∀(i:Nat) s,i<f->(L.map g)[i]?=some s->Op.bytesLess s.aa.toList nm.toList=true):=by unfold Hid;rw[Z];exact aS.ab
 have ax:Hid (∀(i:Nat) s,f<=i->(L.map g)[i]?=some s->Op.bytesLess s.aa.toList nm.toList=false):=by unfold Hid;rw[Z];exact a4.ab
 clear aO aQ F a9 aS a4 aq aA h0 az
 by_cases aF:f<B.ar.length
 ·have ae:¬(c2=f):=by have:=HK.ab;omega
  obtain⟨b,O,ea,bE,am⟩:=hC (by intro h;rw[h]at aF;simp at aF);subst ea;have bx:Hid (LX W b O B.ar):=am;obtain⟨m,hm⟩:∃m,B.ar.length - f=m:=⟨_,rfl⟩;have cd:m<=1048576:=qo
  have HM:Hid (f+m=B.ar.length):=by unfold Hid;omega
  clear hC am aF
  gi_wp2
  clear e2 hm ae
  gi_loopw [20] (λi wr=>∃k:Nat,k<=m/\i=In i6 k/\Hid (∀x∈(L.drop f).take k,((g x).aa.toList==nm.toList)=true)/\J ((L.drop f).take k) wr/\Below n₀ W wr/\Hid (qBl wr Bt #[Sg nm] 9))
   (λi _=>m - (intOf i).toNat)
  case atStart=>exact⟨0,AI _,rfl,(by intro x hx;simp at hx),al,au,aM⟩
  case round=>
   clear aM au al;obtain⟨k,hk,rfl,af,M,aH,aC⟩:=hrel
   by_cases cb:k<m
   ·obtain⟨x,aJ⟩:∃x,(L.drop f)[k]?=some x:=⟨(L.drop f)[k]'(by rw[eh,aB];have:=HM.ab;omega),by rw[dz]⟩
    have ah:Hid ((L.drop f)[k]?=some x):=aJ;have aI:B.ar[f+k]?=some (g x):=by rw[<-Z,ej,<-ew,aJ];rfl
    obtain⟨c,aG⟩:∃c,g x=c:=⟨_,rfl⟩;have ag:Hid (g x=c):=aG;rw[aG]at aI;have aD:=(bx.ab (f+k) c aI).below aH bE;rw[fz,<-eG]at aD;clear aG aI aJ;unfold CpAt at aD;obtain⟨x0,x1,x2,x3,x4,x5,x6⟩:=aD;have b0:=AJ aC.ab 0;have bb:Bt<wr.heap.size:=(AB aC.ab).1;have bq:=AN wr (.cells (qcV c) 76);have bo:=aH.trans (bq.mono (AH an aH.size));have bd:Hid _:=AK bq aC.ab bb;have a7:J ((L.drop f).take k) (wr.alloc (.cells (qcV c) 76)):=a6 _ _ _ M;cases H:(c.aa.toList==nm.toList)
    ·have z:Hid (ofG g nm L=(L.drop f).take k):=PR g nm L f k ay.ab aw.ab ax.ab af.ab (λy hy=>by rw[ah.ab]at hy;cases hy;rw[ag.ab];exact H)
     gi_wp2
     refine⟨λ_ h=>(by cases h),?_⟩
     gi_wp2
     refine dF (results_none rfl _ _ _) rfl ?_;exact⟨⟨_,rfl⟩,.inl ⟨_,z.ab.symm,a7⟩⟩
    ·have bz:Hid ((L.drop f).take (k+1)=(L.drop f).take k++[x]):=by unfold Hid;rw[ec,ah.ab];rfl
     have aN:Hid (∀x∈(L.drop f).take (k+1),((g x).aa.toList==nm.toList)=true):=take_all (L.drop f) (λy=>(g y).aa.toList==nm.toList) k x ah.ab (by show((g x).aa.toList==nm.toList)=true;rw[ag.ab];exact H) af.ab;obtain⟨fn,tmps,assign,body,hy,hR⟩:=hY _ x c (wr.alloc (.cells (qcV c) 76)) ag.ab a7 (ofG_long g nm L f k x ah.ab (by rw[ag.ab];exact H) af.ab)
     gi_wp2
     refine hR.mono ?_;rintro e W3 (⟨rfl,bB,bn⟩|⟨rfl,a8⟩)
     ·gi_wp2
      go_roundw
      case rel=>exact⟨k+1,qo,qn,aN,by rw[bz.ab];exact bB,bo.trans bn.1,bn.2.trans bd.ab⟩
      case measure=>simp[intOf];omega
     ·gi_wp2
      refine dF (results_none rfl _ _ _) rfl ?_;exact⟨⟨_,rfl⟩,.inr ⟨_,trivial,a8⟩⟩
   ·obtain rfl:k=m:=qo
    have z:Hid (ofG g nm L=(L.drop f).take k):=PR g nm L f k ay.ab aw.ab ax.ab af.ab (λy hy=>absurd (AC hy).1 (by rw[eh,aB];have:=HM.ab;omega))
    gi_wp2
    go_end0
    exact⟨⟨_,rfl⟩,.inl ⟨_,z.ab.symm,M⟩⟩
 ·obtain rfl:f=B.ar.length:=qo
  have z:Hid (ofG g nm L=[]):=PR g nm L B.ar.length 0 ay.ab aw.ab ax.ab (by intro x hx;simp at hx) (λy hy=>absurd (AC hy).1 (by rw[eh,aB];omega))
  by_cases ae:c2=B.ar.length
  ·subst ae
   gi_wp2
   clear e2
   gi_loopw [20] (λi wr=>i=In i6 0/\J [] wr) (λ_ _=>0)
   case atStart=>exact⟨rfl,al⟩
   case round=>
    obtain⟨rfl,M⟩:=hrel
    gi_wp2
    go_end0
    exact⟨⟨_,rfl⟩,.inl ⟨_,z.ab.symm,M⟩⟩
  ·have be:=ae
   clear ae
   gi_wp2
   clear e2 be
   gi_loopw [20] (λi wr=>i=In i6 0/\J [] wr) (λ_ _=>0)
   case atStart=>exact⟨rfl,al⟩
   case round=>
    obtain⟨rfl,M⟩:=hrel
    gi_wp2
    go_end0
    exact⟨⟨_,rfl⟩,.inl ⟨_,z.ab.symm,M⟩⟩
theorem Pt(n:Nat)(hn:1<=n)(O Bt n₀:Nat)(B:Bk)(nm:qB)(a1 a2 a3:qO)(c1 c2 c3:Nat)(ae:B.ar.length<=1048576)(Z:Hid (Ds B.ar))(HK:Hid (B.ar.length<=c2))(w:World)
  (F:qBl w O (qbV B a1 c1 a2 c2 a3 c3) 28)
  (H:qBl w Bt #[Sg nm] 9) (hC:B.ar≠[]->∃b z,a2=some ⟨b,z,none⟩/\b<n₀/\LX w b z B.ar) (M:n₀<=w.heap.size):
  SeqStopsK Fence.wide n Tryz.prog 237 #[.pointer (qad O),.pointer (qad Bt)] (λx:Cp=>#[.agg (qcV x)]) (KpB n₀ Bt) (λys=>ys=ofS nm B.ar) (λ_=>True) (ofS nm B.ar).length w:=λl J Jx W Y aa _ hY h0=>
 NJ id B.ar n hn l O Bt n₀ B (List.map_id _) nm a1 a2 a3 c1 c2 c3 ae Z HK J Jx (λag x c W e=>by subst e;exact hY ag x W) W aa ((Y.block O (AB F).1).trans F) ((Y.block Bt (AB H).1).trans H)
  (λaf=>let ⟨b,z,e,hb,hat⟩:=hC af;⟨b,z,e,hb,λi s hs=>(hat i s hs).below Y (AF hb M)⟩) (AH M Y.size) h0
end
section
open Go.RowKit Go.Sort
theorem BD{w:World}{k b:Nat}{x:Option Obj}(h:w.heap[k]?=x)(o:Nat)(v:Value)(z:k≠b):(w.setCell ⟨b,o,none⟩ v).heap[k]?=x:=(Below.heap_setCell _ _ _ _ z).trans h
theorem size_alloc'(w:World)(o:Obj):(w.alloc o).heap.size=w.heap.size+1:=by show(w.heap.push _).size=_;simp
end
end Go.Proofs.YtbceafpodamnfaaGreatDoor
