import Derived.Test.YtbceafpodamnfaaGreatDoorG34
import Derived.Test.YtbceafpodamnfaaGreatDoorG42
import Derived.Defers
import Derived.Recover
import Derived.Laws.Pointers
set_option linter.all false
set_option maxHeartbeats 8000000
set_option maxRecDepth 100000
namespace Go.Proofs.YtbceafpodamnfaaGreatDoor
section
open Go.RowKit Go.Sort
open Go.Value renaming int->In,slice->Sl,string->Sg,bool->Bo,pointer->Po
open Go.IntKind renaming i64->i6
def Cnt.cP(n:Cnt):Prop:=0<=n.aE/\0<=n.am/\n.ready<=n.aE/\n.aO<=n.aE/\n.aD<=n.aE/\0<=n.ready/\0<=n.aO/\0<=n.aD
theorem TV(img:Int)(sv:qB)(c:Cp)(n:Cnt)(h:n.cP):(Cc img sv c n).cP:=by
 unfold Cnt.cP at *;unfold Cc DF IC;cases c.aa.toList==sv.toList<;>cases c.am<;>cases c.ay==3<;>cases c.aj !=img<;>cases c.ay==4<;>simp only[gu,gW,fI]<;>omega
theorem cnt_okO{C:Cnt}{img:Int}{sv:qB}{l:List Cp}(h:C=Ar img sv l l.length):C.cP:=by
 subst h;unfold Ar;rw[eC]
 have key:∀(l:List Cp) (n:Cnt),n.cP->(l.foldl (λn c=>Cc img sv c n) n).cP:=by
  intro l
  induction l with
  |nil=>intro n h;exact h
  |cons c l z=>intro n h;exact z _ (TV img sv c n h)
 exact key l Cnt.none (by simp[Cnt.none,Cnt.cP])
theorem drop_vc{A:Ac}{F:qO}{ce:Nat}{X:Bk}{s:Svc}{d1 d2 d3:Nat}{ve:Value}{k:Nat}{P:World->Prop}(hS:X.aR)(H:X.ar.length<=d2)(z:Ds X.ar)(hk:X.ah[k]?=some s){C:Cnt}(hC:C=Ar s.aj s.name X.ar X.ar.length):
  vwr TTw Γc [] (Tryz.f191.body.getD .skip) (endW Tryz.f191.results A F ce X d1 d2 d3 k ve P (.bool (!Bd A s C))) ⟨Ew 0 [.complex .f64 0 0],wkM A F ce X d1 d2 d3 k ve P,64,0⟩:=by
 have M:k<X.ah.length:=(AC hk).1;obtain⟨O,W,_⟩:=hS;have Y:=cnt_okO hC;unfold Cnt.cP at Y;refine dg (λh=>?_) (λh=>?_)
 ·have h:A.drop=true:=h
  refine⟨0,A,F,ce,X.av,1,X.ah.length,d1,.iface 2 (Sl none X.ar.length d2),.iface 3 (Sl none X.aw.length d3),k,ve,BY 34 13 svL X.ah,rfl,rfl,rfl,rfl,rfl,M,AG,O,λs' aa=>?_⟩;cases (hk.symm.trans aa:some s=some s');refine dg (λJ=>?_) (λJ=>?_)
  ·refine⟨(⟨X,d1,d2,d3⟩,s),rfl,⟨W,z,H⟩,?_⟩
   rintro v _ ⟨rfl,hv⟩;have hv:v=NK C:=by rw[hC];exact hv
   subst hv;have hd:Bd A s C=decide (0<C.aE+C.am):=by unfold Bd;rw[h,show s.aH=true from J];rfl
   have he:eqI [In i6 C.aE,In i6 C.ready,In i6 C.aO,In i6 C.aD,In i6 C.am] [In i6 0,In i6 0,In i6 0,In i6 0,In i6 0]=!Bd A s C:=by
    rw[hd];unfold eqI eqI eqI eqI eqI eqI;rw[gA];simp only[di,dS,fw,ii,eo];omega
   refine dg (λZ=>?_) (λZ=>?_)
   ·exact⟨.inl rfl,_,rfl,⟨by rw[<-he];exact ei Value.bool Z.symm,rfl,rfl⟩,rfl⟩
   ·exact⟨.inl rfl,_,rfl,⟨by rw[<-he];exact ei Value.bool Z.symm,rfl,rfl⟩,rfl⟩
  ·exact⟨.inl rfl,_,rfl,⟨by unfold Bd;rw[h,show s.aH=false from J];rfl,rfl,rfl⟩,rfl⟩
 ·exact⟨.inl rfl,_,rfl,⟨by unfold Bd;rw[show A.drop=false from h];rfl,rfl,rfl⟩,rfl⟩
theorem Q9(A:Ac)(J:qO)(ce:Nat)(X:Bk)(s:Svc)(N g k:Nat)(I:List Int)(w:World)(F:X.aR)(z:Hid (Ds X.ar))(_hN:N<=w.heap.size)(hk:X.ah[k]?=some s)(C:Cnt)(H:Hid (C=Ar s.aj s.name X.ar X.ar.length))(M:WkAt w N g A J ce X k I):
  Calls Tryz.prog 191 #[.pointer (qad g)] w λe w'=>e=.returned (.bool (!Bd A s C))/\Below w.heap.size w w':=
 wk_ro (env_c EH) Tryz.func191 qk qk (AD rfl) (λ_=>rfl) (AC hk).1 M λ_ _ _ _ _ _ _ O=>drop_vc F O z.ab hk H.ab
def Br(sv:qB)(c:Cp):Bool:=Op.bytesLess c.aa.toList sv.toList||c.aa.toList==sv.toList
def Ba(l:List Cp)(sv:qB):Nat:=(l.takeWhile (Br sv)).length
theorem Vr{l:List Cp}{sv:qB}{j:Nat}{c:Cp}(F:l[j]?=some c)(h:Br sv c=false)(z:∀i d,i<j->l[i]?=some d->Br sv d=true):Ba l sv=j:=by
 unfold Ba
 induction l generalizing j with
 |nil=>simp at F
 |cons x l J=>
  cases j with
  |zero=>
   obtain rfl:=dj F;rw[fD (by rw[h];decide)];rfl
  |succ j=>
   rw[fb (z 0 x qo rfl),dM,J (by simpa using F) λi d M H=>z (i+1) d qo (by simpa using H)]
theorem Tc{l:List Cp}{sv:qB}(z:∀i d,i<l.length->l[i]?=some d->Br sv d=true):Ba l sv=l.length:=by
 unfold Ba
 congr 1
 induction l with
 |nil=>rfl
 |cons x l H=>rw[fb (z 0 x qs rfl),H λi d J F=>z (i+1) d qp (by simpa using F)]
theorem Ky(X:Bk)(sv:qB)(a1 a2 a3:qO)(c1 c2 c3 n1 n2 n3:Nat)(w:World)(Y:Hid (X.ar.length=n2))(aI:n2<=1048576)(hC:SlC w a2 X.ar):
  Calls Tryz.prog 249 #[.agg #[In i6 X.av,Sl a1 n1 c1,Sl a2 n2 c2,Sl a3 n3 c3],Sg sv] w λe w'=>e=.returned (In i6 (Ba X.ar sv:Nat))/\Below w.heap.size w w':=by
 have T0:Hid _:=dm w (.cells #[In i6 X.av,Sl a1 n1 c1,Sl a2 n2 c2,Sl a3 n3 c3] 28);have Z:=AN w (.cells #[In i6 X.av,Sl a1 n1 c1,Sl a2 n2 c2,Sl a3 n3 c3] 28);obtain⟨W0,ak⟩:∃W,w.alloc (.cells #[In i6 X.av,Sl a1 n1 c1,Sl a2 n2 c2,Sl a3 n3 c3] 28)=W:=⟨_,rfl⟩;rw[ak]at T0 Z;have aH:w.heap.size<W0.heap.size:=(AB T0.ab).1;have e2:=AJ T0.ab 2;go_enter Tryz.func249,Tryz.ntmps249;go_wp2;clear e2 ak
 go_loopw [10] (λiv wr=>∃j:Nat,j<=n2/\iv=In i6 j/\Below w.heap.size w wr/\Hid (qBl wr (w.heap.size) #[In i6 X.av,Sl a1 n1 c1,Sl a2 n2 c2,Sl a3 n3 c3] 28)/\Hid (∀i d,i<j->X.ar[i]?=some d->Br sv d=true)) (λiv _=>n2 - (intOf iv).toNat)
 case atStart=>exact⟨0,AI _,rfl,Z,T0,λi d h=>absurd h (gN _)⟩
 case round=>
  obtain⟨j,hj,rfl,hb,J,z⟩:=hrel;clear T0 Z
  by_cases ag:j<n2
  ·obtain⟨c,hc⟩:∃x,X.ar[j]?=some x:=⟨X.ar[j]'(by rw[Y.ab];exact ag),qs⟩
   obtain⟨b,aJ,ea,aw,al⟩:=hC (by intro h;rw[h]at hc;simp at hc);subst ea;have hq:=(al j c hc).below hb aw;unfold CpAt at hq;obtain⟨q0,q1,q2,q3,q4,q5,q6⟩:=hq;obtain⟨lb,F⟩:∃x,Hid (Op.bytesLess c.aa.toList sv.toList=x):=⟨_,rfl⟩;obtain⟨eb,M⟩:∃x,Hid ((c.aa.toList==sv.toList)=x):=⟨_,rfl⟩;have O:Hid _:=hc;have am:=AN wr (.cells ((qcV c):Array Value) 76);have aa:=hb.trans (am.mono hb.size);have ah:Hid _:=AK am J.ab (AB J.ab).1;clear al hc;cases lb
   rotate_left
   ·have H:Hid (Br sv c=true):=by unfold Hid Br;rw[F.ab];rfl
    have aq:=F.ab;go_wp2
    go_roundw
    case rel=>exact⟨j+1,ag,qn,aa,ah,λi d hi hd=>by
     by_cases af:i=j
     ·subst af
      have:=O.ab;rw[hd]at this;obtain rfl:=dj this;exact H.ab
     ·exact z.ab i d qo hd⟩
    case measure=>simp[intOf];omega
   cases eb
   rotate_left
   ·have H:Hid (Br sv c=true):=by unfold Hid Br;rw[F.ab,M.ab];rfl
    have aq:=F.ab;have ax:=M.ab;go_wp2
    go_roundw
    case rel=>exact⟨j+1,ag,qn,aa,ah,λi d hi hd=>by
     by_cases af:i=j
     ·subst af
      have:=O.ab;rw[hd]at this;obtain rfl:=dj this;exact H.ab
     ·exact z.ab i d qo hd⟩
    case measure=>simp[intOf];omega
   ·have H:Hid (Br sv c=false):=by unfold Hid Br;rw[F.ab,M.ab];rfl
    have aq:=F.ab;have ax:=M.ab;go_wp2;go_ret;have hO:Ba X.ar sv=j:=Vr O.ab H.ab z.ab;exact⟨by rw[hO];rfl,aa⟩
  ·have hO:Ba X.ar sv=n2:=by
    rw[<-Y.ab];exact Tc λi d hi hd=>z.ab i d (by have:=Y.ab;omega) hd
   have HO:Hid _:=hO;have e2:=AJ J.ab 2;clear hO;go_wp2;go_ret;exact⟨by rw[HO.ab];rfl,hb⟩
def Dk(l:List Cp)(p:Nat)(f:Nat->Cp)(t:Nat):List Cp:=l.take p++(List.range t).map f++l.drop p
theorem Ob(l:List Cp)(p:Nat)(f:Nat->Cp):Dk l p f 0=l:=by simp[Dk]
theorem RJ{l:List Cp}{p:Nat}(f:Nat->Cp)(t:Nat)(z:p<=l.length):(Dk l p f t).length=l.length+t:=by
 simp[Dk];omega
theorem Oc{l:List Cp}{p:Nat}(f:Nat->Cp)(t:Nat)(F:p<=l.length):(Dk l p f t).take (p+t)++f t::(Dk l p f t).drop (p+t)=Dk l p f (t+1):=by
 have z:(l.take p++(List.range t).map f).length=p+t:=qp
 unfold Dk;rw[<-z,iu,List.drop_left,List.range_succ];simp
theorem Oq(l:List Cp)(sv:qB):Ba l sv<=l.length:=by
 unfold Ba;exact(iN _).length_le
def mkO(X:Bk)(s:Svc)(t:Nat):Cp:=⟨s.name,s.next+(t:Int),X.av,s.aj,1,false,⟨#[]⟩⟩
def KeepO(ao:qO)(w w':World):Prop:=w.heap.size<=w'.heap.size/\∀q,q<w.heap.size->ao≠some ⟨q,0,none⟩->w'.heap[q]?=w.heap[q]?
theorem KeepO.refl(ao:qO)(w:World):KeepO ao w w:=⟨AG,λ_ _ _=>rfl⟩
theorem KeepO.trans{ao:qO}{w w' F:World}(h:KeepO ao w w')(H:KeepO ao w' F):KeepO ao w F:=
 ⟨AH h.1 H.1,λq J z=>(H.2 q (AF J h.1) z).trans (h.2 q J z)⟩
theorem KeepO.bf{ao:qO}{w w':World}(h:Below w.heap.size w w'):KeepO ao w w':=⟨h.size,λq z _=>h.block q z⟩
theorem KeepO.toT{ao:qO}{w w':World}{N:Nat}{e:TypeId}{size n cap:Nat}{xs:qL}(h:KeepO ao w w')(Y:RowN w N e size ao n cap xs):KeepT e w w':=
 ⟨h.1,λq W F=>h.2 q W λz=>by
  rcases Y with⟨J,_⟩|⟨g,M,_,_,_,H,O,_⟩
  ·rw[J]at z;cases z
  ·rw[M]at z
   injection z with z
   injection z with z
   subst z
   exact F _ _ O⟩
theorem T5{w:World}{N:Nat}{e t:TypeId}{size n cap:Nat}{ao:qO}{xs:qL}{q:Nat}{cs:Array Value}{fr:Nat × Nat}(W:RowN w N e size ao n cap xs)(F:w.heap[q]?=some (.cells cs t fr))(Y:t≠e):ao≠some ⟨q,0,none⟩:=λz=>by
 rcases W with⟨J,_⟩|⟨g,M,_,_,_,H,O,_⟩
 ·rw[J]at z;cases z
 ·rw[M]at z
  injection z with z
  injection z with z
  subst z;rw[O]at F;injection F with F
  injection F with _ F
  exact Y F.symm
theorem Ql{w:World}{N:Nat}{e:TypeId}{size n cap:Nat}{ao:qO}{xs:qL}{q:Nat}(M:RowN w N e size ao n cap xs)(O:w.heap.size<=q):ao≠some ⟨q,0,none⟩:=λz=>by
 rcases M with⟨F,_⟩|⟨g,H,_,J⟩
 ·rw[F]at z;cases z
 ·rw[H]at z
  injection z with z
  injection z with z
  subst z;exact absurd J.lt qo
theorem N5:(Tryz.prog.info? 25).map (·.size)=some 1:=qk
theorem TO(A:Ac)(ae:qO)(ce:Nat)(X:Bk)(s:Svc)(N g k aj:Nat)(I:List Int)(w:World)(et:X.aR)(hN:N<=w.heap.size)(hk:X.ah[k]?=some s)(b7:Hid (A.ax=(aj:Int)))(fn:aj<=20)(fr:1<=s.next)(fs:s.next<=1000000)(b5:X.ar.length+aj<=200)(F:WkAt w N g A ae ce X k I):
  Calls Tryz.prog 193 #[.pointer (qad g)] w λe w'=>e=.returned (.tuple #[])/\WkAt w' N g A ae ce {X with ah:=X.ah.set k {s with next:=s.next+A.ax},ar:=Dk X.ar (Ba X.ar s.name) (mkO X s) aj} k I/\Below N w w':=by
 obtain⟨cM,cN,_⟩:=et;obtain⟨b1,Y,b3,d1,d2,d3,ve,cx,hg,a8,bX⟩:=F;have aK:k<X.ah.length:=(AC hk).1;obtain⟨g1,e1,cv,aq⟩:=a8.ah.some qo;subst e1;obtain⟨n1,ay⟩:∃n,Hid (X.ah.length=n):=⟨_,rfl⟩;obtain⟨n2,O⟩:∃n,Hid (X.ar.length=n):=⟨_,rfl⟩;obtain⟨n3,bK⟩:∃n,Hid (X.aw.length=n):=⟨_,rfl⟩;obtain⟨ne,cd⟩:∃n,Hid (I.length=n):=⟨_,rfl⟩;obtain⟨r2,r3⟩:RowN w N 76 7 Y X.ar.length d2 (Ay X.ar)/\RowN w N 90 2 b3 X.aw.length d3 (Cd X.aw):=⟨a8.ar,a8.aw⟩;clear a8;rw[ay.ab]at aq hg aK cM;rw[O.ab]at r2 hg;rw[bK.ab]at r3 hg;rw[cd.ab]at bX;have HK:Hid _:=hk;have HG:Hid _:=hg;have ag:Hid (RowIs w 34 13 g1 n1 d1 (Af X.ah)):=aq;have aa:=Bs r2;have az:=Bs r3;have b8:Hid (w.ownsRow N 3 1 ve ne (Cn I)):=bX;have a9:g<w.heap.size:=(AB hg).1;have aM:g1<w.heap.size:=aq.lt;clear hk hg aq r2 r3 bX;rw[O.ab]at cN b5;have au:Hid (SvcAt w g1 (k*13) s):=ag.ab.bL HK.ab;obtain⟨p,HP⟩:∃p,Hid (Ba X.ar s.name=p):=⟨_,rfl⟩;have hp:p<=n2:=by rw[<-HP.ab,<-O.ab];exact Oq _ _
 have be:Hid (SlC w Y X.ar):=by
  have:=aa.ab;rw[<-O.ab]at this;exact this.bZ
 go_enter Tryz.func193,Tryz.ntmps193
 go_upto_region 1 with(go_at_call 247;refine(Ej A ae ce X.av g g1 n1 d1 k _ _ _ _ aK cM HG.ab).mono ?_;rintro e w1 ⟨rfl,ak⟩)
 have aC:Hid _:=AK ak HG.ab a9;have aJ:g<w1.heap.size:=AF a9 ak.size;have bw:g1<w1.heap.size:=AF aM ak.size;have bk:Hid (SvcAt w1 g1 (k*13) s):=au.ab.below ak aM;have bd:Hid (SlC w1 Y X.ar):=be.ab.below ak;refine AU 9 ?_;apply AL
 ·intro V W K AA H J z M
  simp only[pA]at z;subst z;go_wp2;exact M.ab _ brf
 iterate 2 refine qA0 qP ?_
 apply qA0
 ·intro V W K AA H J z M
  simp only[pA,qv (J 2)]at z;subst z;have e8:=AJ (AK H aC.ab aJ) 8;have e9:=AJ (AK H aC.ab aJ) 9;have en:=AJ (AK H aC.ab aJ) 10;have fd:=AJ (AK H aC.ab aJ) 11;go_wp2;exact M
 iterate 3 refine qA0 qP ?_
 apply qA0
 ·intro V W K AA H J z M
  simp only[pA,qv (J 6)]at z;subst z;have hq:=bk.ab.below H bw;unfold SvcAt at hq;obtain⟨q0,q1,q2,q3,q4,q5,q6,q7,q8,q9,aN,aO,aQ⟩:=hq;go_wp2;exact M
 refine AZ (λv _=>v=In i6 (p:Nat)) (λ_ _ _ h _=>h) ?_ ?_
 ·intro V W K AA H J z M
  simp only[pA,qv (J 3),qv (J 7)]at z;subst z
  go_wp2_with fail
  refine(Ky X s.name _ Y b3 d1 d2 d3 n1 n2 n3 _ O cN (bd.ab.below H)).mono ?_;rintro e w3 ⟨rfl,ev⟩;rw[HP.ab];go_wp2;exact M.ab _ _ ev rfl
 intro V W AA H F z;have d8:=F 8;simp only[pA,qv (F 0),qv (F 1),qv (F 2),qv (F 3),qv (F 4),qv (F 5),qv (F 6),qv (F 7)]at z;clear F;generalize V 8=x8 at d8 z;subst z;simp only[dA,dN];obtain rfl:=d8;have Z:=ak.trans (H.mono ak.size)
 have b9:Hid (qBl W g #[Sg A.aa,In i6 A.aN,In i6 A.ax,In i6 A.au,In i6 A.aA,Bo A.aJ,Sl ae A.aB.length ce,Bo A.drop,In i6 X.av,.slice (qad g1) n1 d1,.slice Y (Dk X.ar p (mkO X s) 0).length d2,Sl b3 n3 d3,In i6 (k:Int),ve] 227/\RowIs W 34 13 g1 n1 d1 (Af (X.ah.set k {s with next:=s.next+((0:Nat):Int)}))/\RowN W N 76 7 Y (Dk X.ar p (mkO X s) 0).length d2 (Ay (Dk X.ar p (mkO X s) 0))/\RowN W N 90 2 b3 n3 d3 (Cd X.aw)/\W.ownsRow N 3 1 ve ne (Cn I)):=by
  have e0:Dk X.ar p (mkO X s) 0=X.ar:=Ob _ _ _;have e1:({s with next:=s.next+((0:Nat):Int)}:Svc)=s:=by simp
  rw[e0,e1,Qb HK.ab];have a1:=aa.ab.below Z;rw[<-O.ab]at a1;have a2:=AK Z HG.ab a9;rw[<-O.ab]at a2;exact⟨a2,ag.ab.below Z aM,a1,az.ab.below Z,Ca b8.ab Z⟩
 have aD:Hid _:=AK Z HG.ab a9;have e2:=AJ aD.ab 2;rw[b7.ab]at e2;have aI:=Z.mono hN;clear ak aC aJ bw bk bd H aD au be Z HG ag aa az b8;go_wp2;clear e2
 go_loopw [3,21] (λpv iv wr=>∃(t:Nat) (Y:qO) (cc:Nat),t<=aj/\iv=In i6 t/\pv=In i6 ((p+t:Nat):Int)/\Hid (qBl wr g #[Sg A.aa,In i6 A.aN,In i6 A.ax,In i6 A.au,In i6 A.aA,Bo A.aJ,Sl ae A.aB.length ce,Bo A.drop,In i6 X.av,.slice (qad g1) n1 d1,.slice Y (Dk X.ar p (mkO X s) t).length cc,Sl b3 n3 d3,In i6 (k:Int),ve] 227/\RowIs wr 34 13 g1 n1 d1 (Af (X.ah.set k {s with next:=s.next+(t:Int)}))/\RowN wr N 76 7 Y (Dk X.ar p (mkO X s) t).length cc (Ay (Dk X.ar p (mkO X s) t))/\RowN wr N 90 2 b3 n3 d3 (Cd X.aw)/\wr.ownsRow N 3 1 ve ne (Cn I))/\Below N w wr) (λ_ iv _=>aj - (intOf iv).toNat)
 case atStart=>exact⟨0,Y,d2,AI _,rfl,rfl,b9,aI⟩
 case round=>
  clear b9 aI;obtain⟨t,Y,cc,ht,rfl,rfl,HI,hb⟩:=hrel;have b4:(Dk X.ar p (mkO X s) t).length=n2+t:=by rw[RJ _ _ (by rw[O.ab];exact hp),O.ab]
  rw[b4]at HI;obtain⟨hg,aq,cT,c5,c6⟩:=HI.ab;have HG:Hid _:=hg;have ag:Hid (RowIs wr 34 13 g1 n1 d1 (Af (X.ah.set k {s with next:=s.next+(t:Int)}))):=aq;have aa:=Bs cT;have az:=Bs c5;have bO:Hid (wr.ownsRow N 3 1 ve ne (Cn I)):=c6;have bE:Hid _:=b4;have b0:g<wr.heap.size:=(AB hg).1;have am:g1<wr.heap.size:=aq.lt;have bT:N<=wr.heap.size:=qo
  clear hg aq cT c5 c6 b4 HI
  by_cases ex:t<aj
  ·obtain⟨c,b6⟩:∃x:Cp,Hid (x=mkO X s t):=⟨_,rfl⟩
   have au:Hid (SvcAt wr g1 (k*13) {s with next:=s.next+(t:Int)}):=ag.ab.bL (by rw[eJ (by rw[ay.ab];exact aK)])
   go_upto_region 4 with fail
   refine AU 19 ?_;apply AL
   ·intro V W K AA H J z M
    simp only[pA]at z;subst z;go_wp2;exact M.ab _ brf
   iterate 2 refine qA0 qP ?_
   apply qA0
   ·intro V W K AA H J z M
    simp only[pA,qv (J 2)]at z;subst z;have hq:=au.ab.below H am;unfold SvcAt at hq;obtain⟨q0,q1,q2,q3,q4,q5,q6,q7,q8,q9,aN,aO,aQ⟩:=hq;go_wp2;exact M
   iterate 3 refine qA0 qP ?_
   apply qA0
   ·intro V W K AA H J z M
    simp only[pA,qv (J 6)]at z;subst z;have hq:=au.ab.below H am;unfold SvcAt at hq;obtain⟨q0,q1,q2,q3,q4,q5,q6,q7,q8,q9,aN,aO,aQ⟩:=hq;go_wp2;exact M
   iterate 4 refine qA0 qP ?_
   apply qA0
   ·intro V W K AA H J z M
    simp only[pA,qv (J 11)]at z;subst z;have e8:=AJ (AK H HG.ab b0) 8;go_wp2;exact M
   iterate 3 refine qA0 qP ?_
   apply qA0
   ·intro V W K AA H J z M
    simp only[pA,qv (J 15)]at z;subst z;have hq:=au.ab.below H am;unfold SvcAt at hq;obtain⟨q0,q1,q2,q3,q4,q5,q6,q7,q8,q9,aN,aO,aQ⟩:=hq;go_wp2;exact M
   refine AZ (λv _=>v=.agg (qcV c)) (λ_ _ _ h _=>h) ?_ ?_
   ·intro V W K AA H J z M
    simp only[pA,qv (J 3),qv (J 7),qv (J 12),qv (J 16)]at z;subst z;go_wp2;exact M.ab _ _ brf (by rw[b6.ab];rfl)
   refine AZ (λv W=>∃q,v=.pointer (qad q)/\wr.heap.size<=q/\qBl W q qyV 76) (λv W W2 ⟨q,h1,h2,h3⟩ hb=>⟨q,h1,h2,AK hb h3 (AB h3).1⟩) ?_ ?_
   ·intro V W K AA H J z M
    simp only[pA]at z;subst z;go_wp2;exact M.ab _ _ (AN _ _) ⟨W.heap.size,rfl,H.size,dm _ _⟩
   intro V W AA H F z;have cq:=F 17;have cr:=F 18;simp only[pA,qv (F 0),qv (F 1),qv (F 2),qv (F 3),qv (F 4),qv (F 5),qv (F 6),qv (F 7),qv (F 8),qv (F 9),qv (F 10),qv (F 11),qv (F 12),qv (F 13),qv (F 14),qv (F 15),qv (F 16)]at z;clear F;generalize V 17=fv at cq z;generalize V 18=f0 at cr z;subst z;simp only[dA,dN];obtain rfl:=cq;obtain⟨q,rfl,cR,cS⟩:=cr;have ci:Hid _:=cS;have cz:=H;clear cS H
   go_upto_region 5 with((with_reducible show wpList _ _ _ _ _ _);refine qAM ci.ab EM ?_;intro w2 hz on;have HB:Hid (qBl w2 q (qcV c) 76):=hz;have ch:Hid (BH q W w2):=on;clear hz on)
   have al:Below wr.heap.size wr w2:=cz.trans (ch.ab.below.mono cR);have bC:Hid _:=AK al HG.ab b0;have cm:Hid (RowIs w2 34 13 g1 n1 d1 (Af (X.ah.set k {s with next:=s.next+(t:Int)}))):=ag.ab.below al am;have aG:=Bs (aa.ab.below al);have cn:=Bs (az.ab.below al);have co:Hid (w2.ownsRow N 3 1 ve ne (Cn I)):=Ca bO.ab al;have cF:=hb.trans (al.mono bT);have aw:Y≠some ⟨q,0,none⟩:=Ql aa.ab cR;have bz:Y≠some ⟨g,0,none⟩:=T5 aa.ab HG.ab qd;have ax:q<w2.heap.size:=(AB HB.ab).1;have cL:g<w2.heap.size:=(AB bC.ab).1;have cw:N<=w2.heap.size:=AH bT al.size;obtain⟨L2,cb⟩:∃x,Hid (x=(Dk X.ar p (mkO X s) t).take (p+t)++c::(Dk X.ar p (mkO X s) t).drop (p+t)):=⟨_,rfl⟩;clear HG ag aa az bO hb al cz b0 am bT ci ch au;obtain⟨wb,eS⟩:∃x,x=w2:=⟨_,rfl⟩;subst eS;refine Ez 13 9 (λW W'=>KeepO Y W W'/\Below N W W') (λW=>KeepO Y wb W/\Below N wb W) (λW=>RowN W N 76 7 Y (n2+t) cc (Ay (Dk X.ar p (mkO X s) t))) qk qk ⟨KeepO.refl _ _,dG _ _⟩ aG.ab (λ_ _ h hb=>⟨h.1.trans (.bf hb),h.2.trans (hb.mono (AH cw h.2.size))⟩) (λ_ _ h hr=>⟨h.1.trans hr.1,h.2.trans hr.2⟩) (λ_ _ h hb=>h.below hb) ?_;refine AT qR ?_
   iterate 4 refine AT qR ?_
   apply AT
   ·intro V W K AA H hZ J z M
    simp only[pA,qv (J 4)]at z;subst z;have en:=AJ ((H.1.2 g cL bz).trans bC.ab) 10;go_wp2;exact M.ab _ brf
   refine AT qR ?_
   apply AT
   ·intro V W K AA H hZ J z M
    simp only[pA]at z;subst z;have t0:=AJ ((H.1.2 q ax aw).trans HB.ab) 0;have t1:=AJ ((H.1.2 q ax aw).trans HB.ab) 1;have t2:=AJ ((H.1.2 q ax aw).trans HB.ab) 2;have t3:=AJ ((H.1.2 q ax aw).trans HB.ab) 3;have t4:=AJ ((H.1.2 q ax aw).trans HB.ab) 4;have t5:=AJ ((H.1.2 q ax aw).trans HB.ab) 5;have t6:=AJ ((H.1.2 q ax aw).trans HB.ab) 6;go_wp2;exact M.ab _ brf
   refine Ab (λv W=>∃vb,v=.slice (qad vb) 1 1/\qBl W vb (qcV c) 76/\Y≠some ⟨vb,0,none⟩) (λi hi v W W' ⟨vb,h1,h2,h3⟩ hr=>⟨vb,h1,(DC hr).elim (λh=>(h.1.2 vb (AB h2).1 h3).trans h2) (λh=>AK h h2 (AB h2).1),h3⟩) ?_ ?_
   ·intro V W K AA H hZ J z M
    simp only[pA,qv (J 7)]at z;subst z;go_wp2;exact M.ab _ _ (AN _ _) ⟨W.heap.size,rfl,dm _ _,Ql aG.ab H.1.1⟩
   refine Ab (λv W=>∃bo kk,v=.slice bo (n2+t+1) kk/\RowN W N 76 7 bo (n2+t+1) kk (Ay L2)) (λi hi v W W' ⟨bo,kk,h1,h2⟩ hr=>⟨bo,kk,h1,h2.below (ES hi hr)⟩) ?_ ?_
   ·intro V W K AA H hZ J z M
    have d8:=J 8;simp only[pA,qv (J 5),qv (J 6)]at z;generalize V 8=x8 at d8 z;subst z;obtain⟨vb,rfl,c8,cQ⟩:=d8;have h0:=hZ rfl
    go_wp2_with fail
    refine(insC_any (Dk X.ar p (mkO X s) t) c Y (n2+t) cc (p+t) N vb _ bE qo qo (AH cw H.1.1) h0 c8 cQ).mono ?_;rintro e w3 ⟨bo,kk,rfl,hr,hq,aI⟩
    have bS:Hid (RowN w3 N 76 7 bo (n2+t+1) kk (Ay L2)):=by
     rw[cb.ab];exact hr
    have ee:Hid _:=hq;clear hr hq h0 c8 cQ;go_wp2;exact M.ab _ _ ⟨⟨aI.size,ee.ab⟩,aI⟩ ⟨bo,kk,rfl,bS.ab⟩
   iterate 3 refine AT qR ?_
   intro V W AA H F z;have d8:=F 8;have d9:=F 9;simp only[pA,qv (F 0),qv (F 1),qv (F 2),qv (F 3),qv (F 4),qv (F 5),qv (F 6),qv (F 7),qv (F 10),qv (F 11),qv (F 12)]at z;clear F;generalize V 8=x8 at d8 z;generalize V 9=x9 at d9 z;subst z;simp only[dA,dN];obtain⟨bo,kk,rfl,c7⟩:=d9;clear d8;have bS:=Bs c7;have ca:Hid (KeepO Y wb W):=H.1;have Z:=H.2;have bD:Hid (KeepT 76 wb W):=ca.ab.toT aG.ab;have aD:Hid _:=(ca.ab.2 g cL bz).trans bC.ab;have cl:Hid (RowIs W 34 13 g1 n1 d1 (Af (X.ah.set k {s with next:=s.next+(t:Int)}))):=bD.ab.cB cm.ab qd;have bv:L2=Dk X.ar p (mkO X s) (t+1):=by rw[cb.ab,b6.ab];exact Oc _ _ (by rw[O.ab];exact hp)
   have ea:Hid _:=bv;clear c7 H bv
   go_wp2_with (first
    |((with_reducible show wpList _ _ _ _ _ _);refine Am rfl 25 (.tmp 53) (.tmp 50) rfl g 10 (Sl bo (n2+t+1) kk) rfl rfl N5 rfl rfl 227 #[Sg A.aa,In i6 A.aN,In i6 A.ax,In i6 A.au,In i6 A.aA,Bo A.aJ,Sl ae A.aB.length ce,Bo A.drop,In i6 X.av,.slice (qad g1) n1 d1,Sl Y (n2+t) cc,Sl b3 n3 d3,In i6 (k:Int),ve] aD.ab (AD rfl) ?_;intro w4 hz on;have d6:Hid (qBl w4 g #[Sg A.aa,In i6 A.aN,In i6 A.ax,In i6 A.au,In i6 A.aA,Bo A.aJ,Sl ae A.aB.length ce,Bo A.drop,In i6 X.av,.slice (qad g1) n1 d1,Sl bo (n2+t+1) kk,Sl b3 n3 d3,In i6 (k:Int),ve] 227):=hz;have eb:Hid (BH g W w4):=on;have a6:Hid (KeepT 227 W w4):=.aY on aD.ab;have aF:Hid (RowIs w4 34 13 g1 n1 d1 (Af (X.ah.set k {s with next:=s.next+(t:Int)}))):=a6.ab.cB cl.ab qd;have hq:=aF.ab.bL (k:=k) (s:={s with next:=s.next+(t:Int)}) (by rw[eJ (by rw[ay.ab];exact aK)]);unfold SvcAt at hq;obtain⟨q0,q1,q2,q3,q4,q5,q6,q7,q8,q9,aN,aO,aQ⟩:=hq;clear hz on)
    |((with_reducible show wpList _ _ _ _ _ _);refine CI rfl 3 (.tmp 62) (.tmp 60) rfl g1 _ (In i6 (s.next+(t:Int)+1)) rfl rfl CX rfl rfl 34 13 n1 d1 _ aF.ab qo ?_;intro w5 hr on;have cj:Hid (RowIs w5 34 13 g1 n1 d1 (Af (X.ah.set k {s with next:=s.next+((t+1:Nat):Int)}))):=(by have:=hr.ab;rw[show s.next+(t:Int)+1=s.next+((t+1:Nat):Int) by omega]at this;rw[show splice (Af (X.ah.set k {s with next:=s.next+(t:Int)})) (k*13+7) [In i6 (s.next+((t+1:Nat):Int))]=Af ((X.ah.set k {s with next:=s.next+(t:Int)}).set k {s with next:=s.next+((t+1:Nat):Int)}) from CB (c:=Svc.cells) (n:=13) (λ_=>rfl) (X.ah.set k {s with next:=s.next+(t:Int)}) k 7 {s with next:=s.next+(t:Int)} {s with next:=s.next+((t+1:Nat):Int)} _ (by rw[eJ (by rw[ay.ab];exact aK)]) qo rfl,gq]at this;exact this);have cf:Hid (BH g1 w4 w5):=on;clear hr on q0 q1 q2 q3 q4 q5 q6 q7 q8 q9 aN aO aQ))
   go_roundw
   case rel=>
    have k5:KeepT 34 w4 w5:=.br cf.ab aF.ab;have bx:(Dk X.ar p (mkO X s) (t+1)).length=n2+t+1:=by rw[RJ _ _ (by rw[O.ab];exact hp),O.ab];omega
    refine⟨t+1,bo,kk,ex,qn,qn,⟨?_,cj.ab,?_,k5.aT (a6.ab.aT (bD.ab.aT cn.ab qd) qd) qd,k5.aW (a6.ab.aW (bD.ab.aW co.ab qd) qd) qd⟩,cF.trans (Z.trans ((eb.ab.below.mono cx).trans (cf.ab.below.mono cv)))⟩
    ·rw[bx]
     exact k5.aV d6.ab qd
    ·rw[bx,<-ea.ab]
     exact k5.aT (a6.ab.aT bS.ab qd) qd
   case measure=>simp[intOf];omega
  ·have eM:t=aj:=qo
   subst eM;go_wp2
   go_end0
   refine⟨rfl,⟨some ⟨g1,0,none⟩,Y,b3,d1,cc,d3,ve,cx,?_,⟨?_,?_,?_⟩,?_⟩,hb⟩
   ·have:=HG.ab
    rw[HP.ab];show qBl wr g #[Sg A.aa,In i6 A.aN,In i6 A.ax,In i6 A.au,In i6 A.aA,Bo A.aJ,Sl ae A.aB.length ce,Bo A.drop,In i6 X.av,.slice (qad g1) (X.ah.set k {s with next:=s.next+A.ax}).length d1,.slice Y (Dk X.ar p (mkO X s) t).length cc,Sl b3 X.aw.length d3,In i6 (k:Int),ve] 227;rw[dC,ay.ab,bE.ab,bK.ab];exact this
   ·have:=ag.ab
    rw[b7.ab];show RowN wr N 34 13 (qad g1) (X.ah.set k {s with next:=s.next+(t:Int)}).length d1 (Af (X.ah.set k {s with next:=s.next+(t:Int)}));rw[dC,ay.ab];exact .inr ⟨g1,rfl,cv,this⟩
   ·have:=aa.ab
    rw[HP.ab];show RowN wr N 76 7 Y (Dk X.ar p (mkO X s) t).length cc (Ay (Dk X.ar p (mkO X s) t));rw[bE.ab];exact this
   ·have:=az.ab
    rw[<-bK.ab]at this;exact this
   ·rw[cd.ab]
    exact bO.ab
theorem Nc:(Tryz.prog.info? 24).map (·.size)=some 1:=qk
def M8(A:Ac)(l:List Svc)(k:Nat):List Svc:=if A.drop then l.take k++l.drop (k+1) else l
theorem drop_any(A:Ac)(ae:qO)(ce:Nat)(X:Bk)(s:Svc)(N g k:Nat)(I:List Int)(w:World)(a5:X.ah.length<=1048576)(hN:N<=w.heap.size)(hk:X.ah[k]?=some s)(z:WkAt w N g A ae ce X k I):
  Calls Tryz.prog 194 #[.pointer (qad g)] w λe w'=>e=.returned (.tuple #[])/\WkAt w' N g A ae ce {X with ah:=M8 A X.ah k} k I/\Below N w w':=by
 have bq:=Hw z;obtain⟨b1,b2,b3,d1,d2,d3,ve,aO,hg,ag,aA⟩:=z;have a4:k<X.ah.length:=(AC hk).1;obtain⟨g1,e1,az,al⟩:=ag.ah.some qo;subst e1;obtain⟨n1,aI⟩:∃n,Hid (X.ah.length=n):=⟨_,rfl⟩;obtain⟨n2,au⟩:∃n,Hid (X.ar.length=n):=⟨_,rfl⟩;obtain⟨n3,aw⟩:∃n,Hid (X.aw.length=n):=⟨_,rfl⟩;obtain⟨ne,aJ⟩:∃n,Hid (I.length=n):=⟨_,rfl⟩;obtain⟨r2,r3⟩:RowN w N 76 7 b2 X.ar.length d2 (Ay X.ar)/\RowN w N 90 2 b3 X.aw.length d3 (Cd X.aw):=⟨ag.ar,ag.aw⟩;clear ag;rw[aI.ab]at al hg a4 a5;rw[au.ab]at r2 hg;rw[aw.ab]at r3 hg;rw[aJ.ab]at aA;have HK:Hid _:=hk;have HG:Hid _:=hg;have ax:Hid (RowIs w 34 13 g1 n1 d1 (Af X.ah)):=al;have bm:=Bs r2;have bn:=Bs r3;have bd:Hid (w.ownsRow N 3 1 ve ne (Cn I)):=aA;have aj:g<w.heap.size:=(AB hg).1;have bK:g1<w.heap.size:=al.lt;clear hk hg al r2 r3 aA;have e7:=AJ HG.ab 7;obtain⟨dr,am⟩:∃b,Hid (A.drop=b):=⟨_,rfl⟩;rw[am.ab]at e7;go_enter Tryz.func194,Tryz.ntmps194;cases dr
 ·go_wp2
  go_end0
  refine⟨rfl,?_,dG _ _⟩;rw[show M8 A X.ah k=X.ah by unfold M8;rw[am.ab];rfl];exact bq.ab
 have ak:(some ⟨g1,0,none⟩:qO)≠some ⟨g,0,none⟩:=T5 (.inr ⟨g1,rfl,az,ax.ab⟩) HG.ab qd;obtain⟨L2,aq⟩:∃x,Hid (x=X.ah.take k++X.ah.drop (k+1)):=⟨_,rfl⟩
 go_upto_region 1 with fail
 clear e7;obtain⟨wb,bz⟩:∃x,x=w:=⟨_,rfl⟩;subst bz;refine Ez 19 15 (λW W'=>KeepO (qad g1) W W'/\Below N W W') (λW=>KeepO (qad g1) wb W/\Below N wb W) (λW=>RowN W N 34 13 (qad g1) n1 d1 (Af X.ah)) qk qk ⟨KeepO.refl _ _,dG _ _⟩ (.inr ⟨g1,rfl,az,ax.ab⟩) (λ_ _ h hb=>⟨h.1.trans (.bf hb),h.2.trans (hb.mono (AH hN h.2.size))⟩) (λ_ _ h hr=>⟨h.1.trans hr.1,h.2.trans hr.2⟩) (λ_ _ h hb=>h.below hb) ?_;refine AT qR ?_
 iterate 4 refine AT qR ?_
 apply AT
 ·intro V W K AA H hZ Y F hK
  simp only[pA,qv (Y 4)]at F;subst F;have e9:=AJ ((H.1.2 g aj ak).trans HG.ab) 9;go_wp2;exact hK.ab _ brf
 iterate 3 refine AT qR ?_
 apply AT
 ·intro V W K AA H hZ Y F hK
  simp only[pA,qv (Y 8)]at F;subst F;have bv:=AJ ((H.1.2 g aj ak).trans HG.ab) 12;go_wp2;exact hK.ab _ brf
 iterate 3 refine AT qR ?_
 apply AT
 ·intro V W K AA H hZ Y F hK
  simp only[pA,qv (Y 12)]at F;subst F;have bv:=AJ ((H.1.2 g aj ak).trans HG.ab) 12;go_wp2;exact hK.ab _ brf
 refine Ab (λv _=>v=In i6 ((k:Int)+1)) (λ_ _ _ _ _ h _=>h) ?_ ?_
 ·intro V W K AA H hZ Y F hK
  simp only[pA,qv (Y 13)]at F;subst F;go_wp2;exact hK.ab _ _ brf qn
 refine Ab (λv W=>∃M J kk,v=.slice M J kk/\J=L2.length/\RowN W N 34 13 M J kk (Af L2)) (λi hi v W W' ⟨M,J,kk,h1,h2,h3⟩ hr=>⟨M,J,kk,h1,h2,h3.below (ES hi hr)⟩) ?_ ?_
 ·intro V W K AA H hZ Y F hK
  have O:=Y 14;simp only[pA,qv (Y 5),qv (Y 9)]at F;generalize V 14=bB at O F;subst F;obtain rfl:=O;have h0:=hZ rfl
  go_wp2_with fail
  refine(Rg X.ah (qad g1) n1 d1 k N _ aI a5 a4 (AH hN H.1.1) h0).mono ?_;rintro e w3 ⟨M,J,kk,rfl,Z,hr,hq,aS⟩
  have ay:Hid (RowN w3 N 34 13 M J kk (Af L2)):=by
   rw[aq.ab];exact hr
  have bk:Hid _:=hq;have aa:Hid (J=L2.length):=by rw[aq.ab];exact Z
  clear hr hq h0 Z;go_wp2;exact hK.ab _ _ ⟨⟨aS.size,bk.ab⟩,aS⟩ ⟨M,J,kk,rfl,aa.ab,ay.ab⟩
 iterate 3 refine AT qR ?_
 intro V W AA H z F;have O:=z 14;have aN:=z 15;simp only[pA,qv (z 0),qv (z 1),qv (z 2),qv (z 3),qv (z 4),qv (z 5),qv (z 6),qv (z 7),qv (z 8),qv (z 9),qv (z 10),qv (z 11),qv (z 12),qv (z 13),qv (z 16),qv (z 17),qv (z 18)]at F;clear z;generalize V 14=bB at O F;generalize V 15=b7 at aN F;subst F;simp only[dA,dN];obtain rfl:=O;obtain⟨M,J,kk,rfl,Z,a6⟩:=aN;have ay:=Bs a6;have aa:Hid _:=Z;have aH:Hid (KeepO (qad g1) wb W):=H.1;have bw:=H.2;have an:Hid (KeepT 34 wb W):=aH.ab.toT (.inr ⟨g1,rfl,az,ax.ab⟩);have aG:Hid _:=(aH.ab.2 g aj ak).trans HG.ab;clear a6 H Z
 go_wp2_with ((with_reducible show wpList _ _ _ _ _ _);refine Am rfl 24 (.tmp 25) (.tmp 22) rfl g 9 (Sl M J kk) rfl rfl Nc rfl rfl 227 #[Sg A.aa,In i6 A.aN,In i6 A.ax,In i6 A.au,In i6 A.aA,Bo A.aJ,Sl ae A.aB.length ce,Bo A.drop,In i6 X.av,.slice (qad g1) n1 d1,Sl b2 n2 d2,Sl b3 n3 d3,In i6 (k:Int),ve] aG.ab (AD rfl) ?_;intro w4 hz on;have be:Hid (qBl w4 g #[Sg A.aa,In i6 A.aN,In i6 A.ax,In i6 A.au,In i6 A.aA,Bo A.aJ,Sl ae A.aB.length ce,Bo A.drop,In i6 X.av,(Sl M J kk),Sl b2 n2 d2,Sl b3 n3 d3,In i6 (k:Int),ve] 227):=hz;have aK:Hid (BH g W w4):=on;clear hz on)
 go_end0
 have k4:KeepT 227 W w4:=.aY aK.ab aG.ab;have bx:M8 A X.ah k=L2:=by unfold M8;rw[am.ab,aq.ab];rfl
 rw[bx];refine⟨rfl,⟨M,b2,b3,kk,d2,d3,ve,aO,?_,⟨?_,?_,?_⟩,?_⟩,bw.trans (aK.ab.below.mono aO)⟩
 ·have:=be.ab
  rw[<-au.ab,<-aw.ab,aa.ab]at this;exact this
 ·have:=k4.aT ay.ab qd
  rw[aa.ab]at this;exact this
 ·have:=k4.aT (an.ab.aT bm.ab qd) qd
  rw[<-au.ab]at this;exact this
 ·have:=k4.aT (an.ab.aT bn.ab qd) qd
  rw[<-aw.ab]at this;exact this
 ·have:=k4.aW (an.ab.aW bd.ab qd) qd
  rw[<-aJ.ab]at this;exact this
end
section
open Go.RowKit Go.Sort
theorem Oz{α:Type}(p:α->Bool):∀l:List α,(l.drop (l.takeWhile p).length).takeWhile p=[]
 |[]=>rfl
 |x::l=>by
  cases h:p x
  ·rw[fD (by rw[h];decide),fc,dN,fD (by rw[h];decide)]
  ·rw[fb h,dM,dA]
   exact Oz p l
theorem QN{α:Type}{p q:α->Bool}:∀{l:List α},(∀x∈l,p x=q x)->l.takeWhile p=l.takeWhile q
 |[],_=>rfl
 |x::l,h=>by
  have hx:=h x qs;have H:=QN (l:=l) λy F=>h y (by simp[F])
  cases z:p x
  ·rw[fD (by rw[z];decide),fD (by rw[<-hx,z];decide)]
  ·rw[fb z,fb (by rw[<-hx];exact z),H]
theorem Ka{α:Type}{p:α->Bool}:∀{l l':List α},(∀x∈l,p x=true)->(l++l').takeWhile p=l++l'.takeWhile p
 |[],_,_=>rfl
 |x::l,l',h=>by
  rw[fu,fb (h x qs),Ka λy z=>h y (by simp[z])];rfl
theorem SJ{α:Type}{p:α->Bool}:∀{l:List α} {x:α},x∈l.takeWhile p->p x=true
 |[],_,h=>by simp at h
 |y::l,x,h=>by
  cases z:p y
  ·rw[fD (by rw[z];decide)]at h;simp at h
  ·rw[fb z]at h
   rcases dJ.1 h with rfl|h
   ·exact z
   ·exact SJ h
theorem Lj{α:Type}(p:α->Bool):∀l:List α,l.takeWhile p=l.take (l.takeWhile p).length
 |[]=>rfl
 |x::l=>by
  cases z:p x
  ·rw[fD (by rw[z];decide)];rfl
  ·rw[fb z,dM,gO,<-Lj p l]
theorem putC_atO{l:List Cp}{c:Cp}{n:Nat}(h:(l.takeWhile λx=>An x c).length=n):Lb l c=l.take n++c::l.drop n:=by
 unfold Lb;rw[h,Lj,h]
theorem MW{B:Bk}{A:Ac}{s:Svc}{L:List Cp}(z:∀x∈L,x.aa=A.aa->x.ak<s.next):∀t:Nat,If B A s L t=Dk L (Ba L A.aa) (E9 B A s) t
 |0=>by rw[Ob];rfl
 |t+1=>by
  show Lb (If B A s L t) (E9 B A s t)=_;have J:Ba L A.aa<=L.length:=Oq _ _;rw[MW z t,<-Oc _ t J];refine putC_atO ?_
  have H:∀x∈Dk L (Ba L A.aa) (E9 B A s) t,An x (E9 B A s t)=Br A.aa x:=by
   intro x hx
   have F:x.aa=A.aa->x.ak<s.next+(t:Int):=by
    intro M;unfold Dk at hx;rcases dO.1 hx with hx|hx
    ·rcases dO.1 hx with hx|hx
     ·have:=z x (eP hx) M;omega
     ·obtain⟨i,W,rfl⟩:=fa.1 hx
      have:=dH.1 W;show s.next+(i:Int)<_;omega
    ·have:=z x (eE hx) M;omega
   unfold An Br;show(Op.bytesLess x.aa.toList A.aa.toList||(x.aa.toList==A.aa.toList&&decide (x.ak<s.next+(t:Int))))=_;cases O:x.aa.toList==A.aa.toList
   ·rfl
   ·rw[dX (F (same_nm.1 O)),iX]
  rw[QN H];unfold Dk;rw[eI,Ka,Ka,show L.drop (Ba L A.aa)=L.drop (L.takeWhile (Br A.aa)).length from rfl,Oz,fU,dE,ef,List.length_range,dI,gT J]
  ·intro x hx
   obtain⟨i,_,rfl⟩:=fa.1 hx;unfold Br E9;simp
  ·intro x hx
   unfold Ba at hx;rw[<-Lj]at hx;exact SJ hx
theorem RC(sv:qB)(v:Int)(l:List Cp)(num:Int):(Cw sv v l num).map Db=l.map Db:=by
 unfold Cw
 cases l.findIdx? (isC sv num) with
 |none=>rfl
 |some i=>
  cases h:l[i]? with
  |none=>simp only[h]
  |some c=>simp only[h];exact Ru h v
theorem Gp(B:Bk)(s:Svc)(sv:qB)(v:Int):∀(es:List En) (l L:List Cp),BO B s sv v es l=some L->L.map Db=l.map Db
 |[],l,L,h=>by obtain rfl:=dj h;rfl
 |e::es,l,L,h=>by
  rw[show BO B s sv v (e::es) l=(match l.find? (isC sv e.ak) with|some c=>if FA {B with ar:=l} s sv c then BO B s sv v es (Cw sv v l e.ak) else none|none=>none) from rfl]at h
  cases hf:l.find? (isC sv e.ak) with
  |none=>rw[hf]at h;cases h
  |some c=>
   rw[hf]at h;simp only at h;cases z:FA {B with ar:=l} s sv c
   ·rw[z]at h;cases h
   ·rw[z]at h
    rw[Gp B s sv v es _ L h,RC]
theorem mem_keys{l l':List Cp}(h:l.map Db=l'.map Db){x:Cp}(hx:x∈l):∃y∈l',y.aa=x.aa/\y.ak=x.ak:=by
 have:Db x∈l'.map Db:=by rw[<-h];exact fo hx
 obtain⟨y,z,e⟩:=fa.1 this;injection e with e1 e2
 exact⟨y,z,e1,e2⟩
theorem Ul{l l':List Cp}(h:l.map Db=l'.map Db){i:Nat}{x:Cp}(hx:l[i]?=some x):∃y,l'[i]?=some y/\y.aa=x.aa/\y.ak=x.ak:=by
 have z:(l'.map Db)[i]?=some (Db x):=by rw[<-h,ej,hx];rfl
 rw[ej]at z
 cases F:l'[i]? with
 |none=>rw[F]at z;cases z
 |some y=>
  rw[F]at z;injection z with e
  injection e with e1 e2
  exact⟨y,rfl,e1,e2⟩
theorem SZ{l l':List Cp}(h:l.map Db=l'.map Db)(Z:Ds l'):Ds l:=by
 intro i j a b H Y hb;obtain⟨J,z,O,_⟩:=Ul h Y;obtain⟨M,F,W,_⟩:=Ul h hb;rw[<-O,<-W];exact Z i j J M H z F
theorem Kh{B:Bk}(M:Valid B){sv:qB}{s:Svc}(W:A5 B sv=some s){L:List Cp}(hk:L.map Db=B.ar.map Db):∀x∈L,x.aa=sv->x.ak<s.next:=by
 intro x hx J;obtain⟨y,hy,Y,e2⟩:=mem_keys hk hx;obtain⟨s',F,z⟩:=M.bH hy;rw[Y,J,W]at F;obtain rfl:=dj F;have O:=M.bc (Dc W);have h0:=O.bB;have h1:=O.bK;unfold GI at z;simp only[di]at z;have H:=z.1.1.1;unfold inB at H;simp only[di,dS]at H
 have Z:wrap64 (s.next - 1)=s.next - 1:=by
  unfold wrap64;omega
 rw[Z]at H;omega
theorem Fa(A:Ac)(s:Svc)(u:Int):(AR A {s with ag:=u}).name=s.name/\(AR A {s with ag:=u}).next=s.next/\(AR A {s with ag:=u}).aj=s.aj/\(AR A {s with ag:=u}).aH=s.aH/\(AR A {s with ag:=u}).aG=s.aG:=by
 unfold AR;cases A.aJ<;>exact⟨rfl,rfl,rfl,rfl,rfl⟩
theorem cntB_cps{B:Bk}{sv:qB}{s:Svc}(z:A5 B sv=some s)(L:List Cp):BG {B with ar:=L} sv=Ar s.aj sv L L.length:=by
 unfold BG;rw[show A5 {B with ar:=L} sv=A5 B sv from rfl,z]
theorem Np(A:Ac)(s:Svc)(u:Int)(C:Cnt):CO A (AR A {s with ag:=u}) C=CO A (AR A s) C:=by
 unfold CO AR;cases A.aJ<;>rfl
theorem M7{A:Ac}(h:Be A=true)(z:A.drop=true):A.ax=0/\A.aJ=false/\A.aB=[]:=by
 unfold Be at h;rw[z]at h;simp only[di,Bool.not_true,iW,fN,fw]at h;exact⟨h.2.1.1,h.2.1.2,eF.1 h.2.2⟩
theorem Ra{B:Bk}{A:Ac}{s:Svc}{L:List Cp}{u:Int}{C:Cnt}(O:A5 B A.aa=some s)(z:s.name=A.aa)(H:Be A=true)(F:BO B s A.aa (B.av+1) A.aB B.ar=some L)(hC:C=Ar s.aj s.name L L.length):Bd A (AR A {s with ag:=u}) C=Bd A s (BG B A.aa):=by
 unfold Bd;cases J:A.drop
 ·rfl
 ·obtain⟨_,_,M⟩:=M7 H J
  rw[M]at F;have hL:B.ar=L:=dj F
  have:BG B A.aa=C:=by
   rw[hC,<-hL,z];unfold BG;rw[O]
  rw[this,(Fa A s u).2.2.2.1]
theorem SY{B X:Bk}{A:Ac}{s:Svc}{u:Int}(J:X.ar.length=B.ar.length)(M:X.av=B.av+1):Iq X A (AR A {s with ag:=u})=!Dy B A (AR A s):=by
 have e:(AR A s).next=s.next:=by unfold AR;cases A.aJ<;>rfl
 unfold Iq Dy;rw[J,M,(Fa A s u).2.1,e]
 by_cases z:(B.ar.length:Int)+A.ax<=200
 ·by_cases F:s.next+A.ax<=1000000
  ·by_cases H:B.av+1<=1000000
   ·rw[dX z,dX F,dX H,ek (show ¬200<(B.ar.length:Int)+A.ax by omega),ek (show ¬1000000<s.next+A.ax by omega),ek (show ¬1000000<=B.av by omega)];rfl
   ·rw[dX z,dX F,ek H,dX (show 1000000<=B.av by omega)];simp
  ·rw[dX z,ek F,dX (show 1000000<s.next+A.ax by omega)];simp
 ·rw[ek z,dX (show 200<(B.ar.length:Int)+A.ax by omega)];rfl
theorem Nm{l:List Svc}{k:Nat}(s:Svc):(l.set k s).take k++(l.set k s).drop (k+1)=l.take k++l.drop (k+1):=by
 rw[List.take_set_of_le AG,List.drop_set_of_lt qo]
theorem Vi{B:Bk}{A:Ac}{s:Svc}{L:List Cp}{k F:Nat}(W:Valid B)(hA:Be A=true)(Z:A5 B A.aa=some s)(hk:B.ah[k]?=some s)(z:s.name=A.aa)(Y:BO B s A.aa (B.av+1) A.aB B.ar=some L)(H:A.ax=(F:Int)):
  BL B A=⟨B.av+1,M8 A (((B.ah.set k {s with ag:=B.av+1}).set k (AR A {s with ag:=B.av+1})).set k {AR A {s with ag:=B.av+1} with next:=(AR A {s with ag:=B.av+1}).next+A.ax}) k,Dk L (Ba L (AR A {s with ag:=B.av+1}).name) (mkO ⟨B.av+1,(B.ah.set k {s with ag:=B.av+1}).set k (AR A {s with ag:=B.av+1}),L,B.aw⟩ (AR A {s with ag:=B.av+1})) F,B.aw⟩:=by
 have J:Nr B.ah A.aa=(k:Int):=by
  unfold Nr;refine Eb hk (by rw[z];exact gl _) λi hi t ht=>?_
  cases hb:t.name.toList==A.aa.toList
  ·rfl
  ·have O:=IK W.ah i k t s hi ht hk
   exact absurd ((same_nm.1 hb).trans z.symm) O
 have M:mkO ⟨B.av+1,(B.ah.set k {s with ag:=B.av+1}).set k (AR A {s with ag:=B.av+1}),L,B.aw⟩ (AR A {s with ag:=B.av+1})=E9 B A s:=by
  funext t
  unfold mkO E9;rw[(Fa A s _).1,(Fa A s _).2.1,(Fa A s _).2.2.1,z]
 unfold BL;rw[Z];simp only[Y,J,du];unfold NA;rw[M,(Fa A s _).1,z,<-MW (Kh W Z (Gp _ _ _ _ _ _ _ Y)),H,du,gq,gq]
 congr 1
 unfold Dr M8;cases hd:A.drop
 ·simp only[fI,gW]
  congr 1
  unfold Di AR;cases A.aJ<;>(rw[H,<-z];rfl)
 ·simp only[gu]
  exact(Nm _).symm
end
section
open Go.RowKit Go.Sort
open Go.Value renaming int->In,slice->Sl,string->Sg,bool->Bo,pointer->Po
open Go.IntKind renaming i64->i6
theorem B8:(Tryz.prog.info? 28).map (·.size)=some 4:=qk
theorem KS:(Tryz.prog.info? 127).map (·.size)=some 1:=qk
theorem N8(w:World):(Instr.typeAssert .nilIface 20 223 true).run Tryz.prog w=.ok (.tuple #[.agg #[.nilIface],Bo false]) w:=qk
theorem N7(v:Value)(w:World):(Instr.typeAssert (.iface 223 v) 20 223 true).run Tryz.prog w=.ok (.tuple #[v,Bo true]) w:=qk
theorem JD{p g:Nat}{i:Nat}{W W':World}(z:i≠p)(h:OA p g i W W'):Below W.heap.size W W':=by
 unfold OA at h;split at h
 ·rename_i hb
  exact absurd (dh hb) z
 ·exact h
theorem TY(z F:Nat)(w:World):
  CallsD Tryz.prog 182 #[.pointer (qad z),.pointer (qad F)] .returning w λe J w'=>e=.returned (.tuple #[])/\J=.returning/\Below w.heap.size w w':=by
 refine callsD_of_wpS Tryz.func182 rfl λc₀ cs H=>?_
 apply wpS_seq;apply wpS_region;simp[wpOpsS,go_sem,recoverD,H,Tryz.ntmps182,Exit.thenS];refine wpS_of_wp ?_;show Code.wp _ _ _ ({tmps:=#[.pointer (qad z),.pointer (qad F),.nilIface,undef,undef,.nilIface,undef,undef,undef,undef,undef,undef,undef,undef,undef,undef,undef,undef],defers:=[]}:Act) _;have M:=N8;go_wp2;cases c₀;simp_all [bodyPostS,results,Tryz.results182];exact AN _ _
theorem Vp(z F:Nat)(c:Int)(w:World)(ha:qBl w z qzV 28)(J:qBl w F #[.nilIface] 127):
  CallsD Tryz.prog 182 #[.pointer (qad z),.pointer (qad F)] (.panicking [{v:=.iface 223 (.agg #[(.iface 153 (.agg #[In i6 c]))]),recovered:=false}]) w λe u' w'=>e=.returned (.tuple #[])/\u'=.panicking [{v:=.iface 223 (.agg #[(.iface 153 (.agg #[In i6 c]))]),recovered:=true}]/\qBl w' z qzV 28/\w'.heap[F]?=some (.cells #[.iface 223 (.agg #[(.iface 153 (.agg #[In i6 c]))])] 127 (0,0))/\(∀N,N<=z->N<=F->N<=w.heap.size->Below N w w'):=by
 refine callsD_of_wpS Tryz.func182 rfl λc₀ cs hu=>?_
 apply wpS_seq;apply wpS_region;simp[wpOpsS,go_sem,recoverD,hu,Tryz.ntmps182,Exit.thenS];refine wpS_of_wp ?_;show Code.wp _ _ _ ({tmps:=#[.pointer (qad z),.pointer (qad F),(.iface 223 (.agg #[(.iface 153 (.agg #[In i6 c]))])),undef,undef,(.iface 223 (.agg #[(.iface 153 (.agg #[In i6 c]))])),undef,undef,undef,undef,undef,undef,undef,undef,undef,undef,undef,undef],defers:=[]}:Act) _;have ta:=N7;have HA:Hid _:=ha;have HE:Hid _:=J;have aB:z<w.heap.size:=(AB ha).1;have aF:F<w.heap.size:=(AB J).1
 have al:F≠z:=λe=>by
  rw[e,qBl,ha]at J;injection J with J
  injection J with _ J
  exact absurd J qd
 have T0:Hid _:=dm w (.cells #[(.iface 153 (.agg #[In i6 c]))] 223);have H:=AN w (.cells #[(.iface 153 (.agg #[In i6 c]))] 223);obtain⟨W0,aj⟩:∃W,w.alloc (.cells #[(.iface 153 (.agg #[In i6 c]))] 223)=W:=⟨_,rfl⟩;rw[aj]at T0 H;clear ha J
 go_upto_region 3 with fail
 clear aj ta;have aq:Hid _:=AK H HA.ab aB;have aw:Hid _:=AK H HE.ab aF;have hq:w.heap.size<W0.heap.size:=(AB T0.ab).1;have aG:w.heap.size≠z:=qo
 have aD:F<W0.heap.size:=qo
 refine EP 4 3 z (λW=>KeepB z W0 W/\∀N,N<=z->N<=W0.heap.size->Below N W0 W) (λW=>qBl W z qzV 28) qk qk ⟨KeepB.refl _ _,λ_ _ _=>dG _ _⟩ aq.ab (λ_ _ h hb=>⟨h.1.below hb,λN h1 M=>(h.2 N h1 M).trans (hb.mono (AH M h.1.1))⟩) (λ_ _ h on=>⟨h.1.ai on,λN h1 M=>(h.2 N h1 M).trans (on.below.mono h1)⟩) (λ_ _ h hb=>AK hb h (AB h).1) ?_;refine AT qR ?_
 apply AT
 ·intro V W K AA Z hZ hd O hK
  simp only[pA]at O;subst O;have t0:=AJ ((Z.1.2 w.heap.size hq aG).trans T0.ab) 0;go_wp2;exact hK.ab _ brf
 refine AT qR ?_
 refine Ab (λ_ W=>qBl W z qzV 28) (λi hi _ W W' h hr=>AK (JD hi hr) h (AB h).1) ?_ ?_
 ·intro V W K AA Z hZ hd O hK
  simp only[pA,qv (hd 0)]at O;subst O;have h0:=hZ rfl;refine qAM h0 B8 ?_;intro w2 hz on;have M:qBl w2 z qzV 28:=hz.ab;exact hK.ab _ _ on M
 intro V W AA Z hS O;have d0:V 0=_:=hS 0;have d1:V 1=_:=hS 1;have d2:V 2=_:=hS 2;have d3:(λ_ W=>qBl W z qzV 28) (V 3) W:=hS 3;simp only[pA,d0,d1,d2]at O;clear hS d0 d1 d2;subst O;simp only[dA,dN];have ak:=d3;clear d3;have ay:Hid _:=(Z.1.2 F aD al).trans aw.ab;have au:Hid (qBl W z qzV 28):=ak;have a4:Hid (KeepB z W0 W):=Z.1;have aC:=Z.2;clear Z ak
 go_wp2_with ((with_reducible show wpList _ _ _ _ _ _);refine Am rfl 127 (.tmp 1) (.tmp 14) rfl F 0 (.iface 223 (.agg #[(.iface 153 (.agg #[In i6 c]))])) rfl rfl KS rfl rfl 127 #[.nilIface] ay.ab (AD rfl) ?_;intro w3 hz on;have ax:Hid (w3.heap[F]?=some (.cells #[.iface 223 (.agg #[(.iface 153 (.agg #[In i6 c]))])] 127 (0,0))):=hz;have ag:Hid (BH F W w3):=on;clear hz on)
 have aO:qBl w3 z qzV 28:=(ag.ab.aL z (Ne.symm al)).trans au.ab;have Y:∀N,N<=z->N<=F->N<=w.heap.size->Below N w w3:=λN h1 M h3=>(H.mono h3).trans ((aC N h1 qo).trans (ag.ab.below.mono M))
 have HF:Hid _:=Y;have aI:=ax.ab;clear Y;cases c₀;simp_all [qBl,bodyPostS,results,Tryz.results182];exact HF.ab
end
end Go.Proofs.YtbceafpodamnfaaGreatDoor
