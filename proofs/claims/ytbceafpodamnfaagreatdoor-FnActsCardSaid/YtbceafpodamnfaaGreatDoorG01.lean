import Derived.Test.YtbceafpodamnfaaGreatDoorG00
set_option linter.all false
namespace Go.Proofs.YtbceafpodamnfaaGreatDoor
section
open Go.RowKit
section
variable {P:Program} {ops:Array Oper} {Q:Exit->Act->World->Prop}
def MJ(p g:Nat)(i:Nat)(W W':World):Prop:=match Nat.beq i p with
 |true=>A6 g W W'
 |false=>Below W.heap.size W W'
def Iq(P:Program)(ops:Array Oper)(a0:Act)(n:Nat)(Inv:World->Prop)(p:Nat)(Inv0:World->Prop)(R:Nat->World->World->Prop)(S:Nat->Value->World->Prop)(i:Nat)(o:Oper)(T:Value->World->Prop):Prop:=
 ∀(V:Nat->Value) (W:World) (K:Act->World->Prop),Inv W->(Nat.beq i p=true->Inv0 W)->(∀j,Region.waitsFor .any ops i j=true->S j (V j) W)->
  Hid (∀v W',R i W W'->T v W'->K ((Ae ops V n a0).put o.dst v) W')->wpList P ops (Cj K) [o] (Ae ops V n a0) W
def JZ(R:Nat->World->World->Prop)(j:Nat)(T:Value->World->Prop):Prop:=∀i,i≠j->∀v W W',T v W->R i W W'->T v W'
theorem GA{n g p:Nat}{S:Nat->Value->World->Prop}{Inv Inv0:World->Prop}{R:Nat->World->World->Prop}{a0:Act}
  (hw:∀F,HeadInv .any ops n F->∀i,i<n->F.getD i true=false->∀t,n<=t->t∉Region.ready .any ops F)
  (hn:n<=ops.size) (ah:EL .any ops n=true) (hd:Cs ops n=true)
  (hI:∀i W W',Inv W->R i W W'->Inv W') (am:∀i W W',i≠p->Inv0 W->R i W W'->Inv0 W') (av:∀j,JZ R j (S j))
  (ax:∀i o,i<n->ops[i]?=some o->Iq P ops a0 n Inv p Inv0 R S i o (S i))
  (Z:∀V W,Inv W->(∀j,j<n->S j (V j) W)->wpAny P .any ops Q g (Br ops n) (Ae ops V n a0) W):
  ∀(m:Nat) (F:Array Bool) (V:Nat->Value) (W:World),HeadInv .any ops n F->Bw n F=m->Inv W->(F.getD p true=false->Inv0 W)->(∀j,j<n->F.getD j false=true->S j (V j) W)->
   wpAny P .any ops Q (m+g) F (Ae ops V n a0) W
 |0,F,V,W,H,hm,hb,_,hS=>by
  have J:∀i,i<n->F.getD i true=true:=by
   intro i hi;have:=fZ.1 hm i (dA.2 hi)
   simpa using this
  rw[DH H J,dJ];refine Z V W hb λj hj=>hS j hj ?_
  have:=J j hj;have aE:j<F.size:=by rw[H.size];omega
  simp[aE]at this ⊢;exact this
 |m+1,F,V,W,H,hm,hb,aq,hS=>by
  obtain⟨u,hu,af⟩:∃u,u<n/\F.getD u true=false:=by
   have:0<Bw n F:=by omega
   obtain⟨u,hu,af⟩:=gP.1 this;exact⟨u,dA.1 hu,by simpa using af⟩
  rw[show m+1+g=(m+g)+1 by omega];refine⟨λh0=>absurd h0 (D3 ah H u hu af),λi hi=>?_⟩
  have M:i<n:=by
   rcases eG i n with h|h
   ·exact h
   ·exact absurd hi (hw F H u hu af i h)
  obtain⟨aw,o,ho,J⟩:=iO.1 hi;refine DV ho (ax i o M ho V W _ hb (λY=>aq (by rw[<-cX Y];exact aw)) (λj hj=>?_) λv W' ag aH=>?_)
  ·obtain⟨oj,aI,e,he,au,aC⟩:=Region.waitsFor_spec hj
   have:oj=o:=dg (aI.symm.trans ho);subst this;have hl:=J e he au;rw[aC]at hl
   have aF:j<n:=by
    have h1:=dh.1 ah i (dA.2 M);rw[ho]at h1;have h2:=fD.1 h1 e he;rw[au]at h2;have h3:e.on<i:=by simpa using h2
    omega
   exact hS j aF hl
  ·have al:o.dst=(ops[i]?).bind (·.dst):=by rw[ho];rfl
   rw[al,Eo hd M];have aG:i<F.size:=by rw[H.size];exact(AB ho).1
   refine GA hw hn ah hd hI am av ax Z m _ _ W' (H.set hi M) (by have:=Er M aG aw;omega) (hI i W W' hb ag) (λhp=>?_) λj hj hl=>?_
   ·by_cases Y:i=p
    ·subst Y
     rw[show(F.setIfInBounds i true).getD i true=true by simp]at hp;cases hp
    ·rw[fQ true Y]at hp
     exact am i W W' Y (aq hp) ag
   by_cases aa:j=i
   ·subst aa
    simpa [upd] using aH
   ·rw[fQ false (Ne.symm aa)]at hl
    have:=av j i (Ne.symm aa) (V j) W W' (hS j hj hl) ag
    simpa [upd,aa] using this
theorem Fy{id:Nat}{a:Act}{w:World}{l:List Oper}(n p:Nat)(Inv Inv0:World->Prop)(R:Nat->World->World->Prop)(S:Nat->Value->World->Prop)(hm:P.follows .mixedOrders=true)(hB:Ap l.toArray n=true)
  (al:Inv {w with drawn:=w.drawn+1}) (aq:Inv0 {w with drawn:=w.drawn+1}) (hI:∀i W W',Inv W->R i W W'->Inv W') (ag:∀i W W',i≠p->Inv0 W->R i W W'->Inv0 W')
  (am:∀j,JZ R j (S j)) (ar:∀i o,i<n->l.toArray[i]?=some o->Iq P l.toArray a n Inv p Inv0 R S i o (S i))
  (J:∀V W,Inv W->(∀j,j<n->S j (V j) W)->wpList P l.toArray Q (l.drop n) (Ae l.toArray V n a) W):(Code.region id l.toArray true).wp P Q a w:=by
 simp only[Ap,cY,dM]at hB;obtain⟨⟨⟨⟨⟨hn,hs⟩,hc⟩,an⟩,hd⟩,Z⟩:=hB;refine iw hm ?_
 have M:HeadInv .any l.toArray n (Array.replicate l.toArray.size false):=
  ⟨by simp,λj oj _ Y=>(by rw[getD_replicate_false]at Y;cases Y),λt _ ht=>getD_in (by simpa using ht) (getD_replicate_false _ _)⟩
 have F:Bw n (Array.replicate l.toArray.size false)=n:=by
  unfold Bw;rw[gh.2]
  ·simp
  ·intro i hi
   have:i<l.toArray.size:=by have:=dA.1 hi;omega
   rw[getD_in (by simpa using this) (getD_replicate_false _ _)];rfl
 have H:=GA (P:=P) (Q:=Q) (g:=l.toArray.size - n) (S:=S) (Inv:=Inv) (Inv0:=Inv0) (p:=p) (R:=R) (a0:=a) (λaf ak i hi hu t ht=>tail_waits hs hc hn ak _ i rfl hi hu t ht) (by omega) an hd hI ag am ar
  (λV W hb hS=>by
   have aa:(l.drop n).length=l.toArray.size - n:=by simp
   have:=wpAny_of_seq (md:=.any) (Q':=Q) (l.drop n) n (Br l.toArray n) _ W (λj=>by simp[ej]) (by rw[aa];exact Z) (J V W hb hS)
   rwa [aa]at this)
  n _ (λj=>match (l.toArray[j]?).bind (·.dst) with|some d=>a.tmps.getD d undef|none=>undef) {w with drawn:=w.drawn+1} M F al (λ_=>aq) (λj _ Y=>by rw[getD_replicate_false]at Y;cases Y)
 have e:Ae l.toArray (λj=>match (l.toArray[j]?).bind (·.dst) with|some d=>a.tmps.getD d undef|none=>undef) n a=a:=D1 a n;rw[e,show n+(l.toArray.size - n)=l.toArray.size by omega]at H;exact H
def C8(P:Program)(ops:Array Oper)(a0:Act)(n:Nat)(Inv:World->Prop)(p:Nat)(Inv0:World->Prop)(R:Nat->World->World->Prop)(L:(Nat->Value->World->Prop)->Prop):List Oper->Nat->(Nat->Value->World->Prop)->Prop
 |[],_,S=>L S
 |o::rest,i,S=>∃T,JZ R i T/\Iq P ops a0 n Inv p Inv0 R S i o T/\C8 P ops a0 n Inv p Inv0 R L rest (i+1) (Is S i T)
theorem Al{a0:Act}{n p:Nat}{Inv Inv0:World->Prop}{R:Nat->World->World->Prop}{L:(Nat->Value->World->Prop)->Prop}{o:Oper}{rest:List Oper}{i:Nat}{S:Nat->Value->World->Prop}(T:Value->World->Prop)(Y:JZ R i T)
  (h:∀(V:Nat->Value) (W:World) (K:Act->World->Prop) (A:Act),Inv W->(Nat.beq i p=true->Inv0 W)->(∀j,Region.waitsFor .any ops i j=true->S j (V j) W)->Hid (A=Ae ops V n a0)->
   Hid (∀v W',R i W W'->T v W'->K (A.put o.dst v) W')->wpList P ops (Cj K) [o] A W)
  (J:C8 P ops a0 n Inv p Inv0 R L rest (i+1) (Is S i T)):C8 P ops a0 n Inv p Inv0 R L (o::rest) i S:=⟨T,Y,λV W K hb F H M=>h V W K _ hb F H rfl M,J⟩
theorem AX{a0:Act}{n p:Nat}{Inv Inv0:World->Prop}{R:Nat->World->World->Prop}{L:(Nat->Value->World->Prop)->Prop}{o:Oper}{rest:List Oper}{i:Nat}{S:Nat->Value->World->Prop}{u:Value}
  (h:∀(V:Nat->Value) (W:World) (K:Act->World->Prop) (A:Act),Inv W->(Nat.beq i p=true->Inv0 W)->(∀j,Region.waitsFor .any ops i j=true->S j (V j) W)->Hid (A=Ae ops V n a0)->
   Hid (∀W',R i W W'->K (A.put o.dst u) W')->wpList P ops (Cj K) [o] A W)
  (M:C8 P ops a0 n Inv p Inv0 R L rest (i+1) (Is S i λv _=>v=u)):C8 P ops a0 n Inv p Inv0 R L (o::rest) i S:=
 ⟨λv _=>v=u,λ_ _ _ _ _ h _=>h,λV W K hb H J Y=>h V W K _ hb H J rfl λW' F=>Y.O u W' F rfl,M⟩
theorem Dy{a0:Act}{n p:Nat}{Inv Inv0:World->Prop}{R:Nat->World->World->Prop}{L:(Nat->Value->World->Prop)->Prop}(Y:EL .any ops n=true):∀(l:List Oper) (k:Nat) (S:Nat->Value->World->Prop),k+l.length=n->(∀j,j<l.length->l[j]?=ops[k+j]?)->
  (∀j,JZ R j (S j))->(∀i o,i<k->ops[i]?=some o->Iq P ops a0 n Inv p Inv0 R S i o (S i))->C8 P ops a0 n Inv p Inv0 R L l k S->
  ∃Z,(∀j,JZ R j (Z j))/\(∀i o,i<n->ops[i]?=some o->Iq P ops a0 n Inv p Inv0 R Z i o (Z i))/\L Z
 |[],k,S,hk,_,hl,F,h=>⟨S,hl,by rw[show n=k by simpa using hk.symm];rw[show n=k by simpa using hk.symm]at F;exact F,h⟩
 |o::l,k,S,hk,hs,hl,F,⟨T,hT,ho,h⟩=>by
  have h0:ops[k]?=some o:=by simpa using (hs 0 (by simp)).symm
  have J:∀i j,i<n->Region.waitsFor .any ops i j=true->j<i:=λi j hi H=>by
   obtain⟨oj,ak,e,he,ah,av⟩:=Region.waitsFor_spec H;have h1:=dh.1 Y i (dA.2 hi);rw[ak]at h1;have h2:=fD.1 h1 e he;rw[ah]at h2;have h3:e.on<i:=by simpa using h2
   omega
  have ag:k<n:=by simp only[dL]at hk;omega
  refine Dy Y l (k+1) _ (by simp only[dL]at hk;omega) (λj H=>by have:=hs (j+1) (by simp;omega);simpa [eq,iE 1 j] using this) (λj=>?_) (λi o' hi M=>?_) h
  ·by_cases e:j=k
   ·subst e;rw[Eb];exact hT
   ·rw[DJ _ _ e];exact hl j
  ·by_cases e:i=k
   ·subst e
    have:o'=o:=dg (M.symm.trans h0);subst this;rw[Eb];exact λV W K hb hz hd hK=>ho V W K hb hz (λj H=>by have:=hd j H;rwa [DJ _ _ (by have:=J i j ag H;omega)]at this) hK
   ·rw[DJ _ _ e]
    exact λV W K hb hz hd hK=>F i o' (by omega) M V W K hb hz (λj H=>by have:=hd j H;rwa [DJ _ _ (by have:=J i j (by omega) H;omega)]at this) hK
theorem Dj{id:Nat}{a:Act}{w:World}{l:List Oper}(n p g:Nat)(Inv Inv0:World->Prop)(hm:P.follows .mixedOrders=true)(hB:Ap l.toArray n=true)
  (Z:Inv w) (ah:Inv0 w) (J:∀W W',Inv W->Below W.heap.size W W'->Inv W') (af:∀W W',Inv W->A6 g W W'->Inv W') (H:∀W W',Inv0 W->Below W.heap.size W W'->Inv0 W')
  (h:C8 P l.toArray a n Inv p Inv0 (MJ p g) (λS=>∀V W A,Inv W->(∀j,j<n->S j (V j) W)->Hid (A=Ae l.toArray V n a)->wpList P l.toArray Q (l.drop n) A W) (l.take n) 0 λ_ _ _=>True):(Code.region id l.toArray true).wp P Q a w:=by
 have M:=hB;simp only[Ap,cY,dM]at M;obtain⟨⟨⟨⟨⟨hn,_⟩,_⟩,ag⟩,_⟩,_⟩:=M;have aw:n<l.length:=by simpa using hn
 obtain⟨S,h1,h2,h3⟩:=Dy ag (l.take n) 0 _ (by simp;omega) (λj hj=>by
  have:j<n:=by simp at hj;omega
  simp[this]) (λ_ _ _ _ _ _ _ _=>trivial) (λi o hi=>absurd hi (by omega)) h
 refine Fy n p Inv Inv0 (MJ p g) S hm hB (J _ _ Z ⟨rfl,rfl,rfl,AG _,λ_ _=>rfl⟩) (H _ _ ah ⟨rfl,rfl,rfl,AG _,λ_ _=>rfl⟩) (λi W W' Y F=>?_) (λi W W' aa Y F=>?_) h1 h2 λV W hb hS=>h3 V W _ hb hS rfl
 ·unfold MJ at F
  split at F
  ·exact af _ _ Y F
  ·exact J _ _ Y F
 ·unfold MJ at F
  split at F
  ·rename_i hb
   exact absurd (cX hb) aa
  ·exact H _ _ Y F
def PZ(p:Nat)(RP:World->World->Prop)(i:Nat)(W W':World):Prop:=match Nat.beq i p with
 |true=>RP W W'
 |false=>Below W.heap.size W W'
theorem El{p:Nat}{H:World->World->Prop}{i:Nat}{W W':World}(F:i≠p)(h:PZ p H i W W'):Below W.heap.size W W':=by
 unfold PZ at h;split at h
 ·rename_i hb
  exact absurd (cX hb) F
 ·exact h
theorem DP{p:Nat}{F:World->World->Prop}{i:Nat}{W W':World}(h:PZ p F i W W'):F W W'\/Below W.heap.size W W':=by
 unfold PZ at h;split at h
 ·exact .inl h
 ·exact .inr h
theorem EA{id:Nat}{a:Act}{w:World}{l:List Oper}(n p:Nat)(Z:World->World->Prop)(Inv Inv0:World->Prop)(hm:P.follows .mixedOrders=true)(hB:Ap l.toArray n=true)
  (Y:Inv w) (ai:Inv0 w) (H:∀W W',Inv W->Below W.heap.size W W'->Inv W') (ag:∀W W',Inv W->Z W W'->Inv W') (F:∀W W',Inv0 W->Below W.heap.size W W'->Inv0 W')
  (h:C8 P l.toArray a n Inv p Inv0 (PZ p Z) (λS=>∀V W A,Inv W->(∀j,j<n->S j (V j) W)->Hid (A=Ae l.toArray V n a)->wpList P l.toArray Q (l.drop n) A W) (l.take n) 0 λ_ _ _=>True):(Code.region id l.toArray true).wp P Q a w:=by
 have J:=hB;simp only[Ap,cY,dM]at J;obtain⟨⟨⟨⟨⟨hn,_⟩,_⟩,ah⟩,_⟩,_⟩:=J;have ax:n<l.length:=by simpa using hn
 obtain⟨S,h1,h2,h3⟩:=Dy ah (l.take n) 0 _ (by simp;omega) (λj hj=>by
  have:j<n:=by simp at hj;omega
  simp[this]) (λ_ _ _ _ _ _ _ _=>trivial) (λi o hi=>absurd hi (by omega)) h
 refine Fy n p Inv Inv0 (PZ p Z) S hm hB (H _ _ Y ⟨rfl,rfl,rfl,AG _,λ_ _=>rfl⟩) (F _ _ ai ⟨rfl,rfl,rfl,AG _,λ_ _=>rfl⟩) (λi W W' M hR=>?_) (λi W W' af M hR=>F _ _ M (El af hR)) h1 h2 λV W hb hS=>h3 V W _ hb hS rfl
 rcases DP hR with h|h
 ·exact ag _ _ M h
 ·exact H _ _ M h
end
section
variable {P:Program} {ops:Array Oper} {Q:Exit->Act->World->Prop}
def Bf(ops:Array Oper):Nat->Nat->Nat->Bool
 |0,p,i=>Nat.beq p i
 |f+1,p,i=>Nat.beq p i||(List.range p).any λj=>Region.waitsFor .any ops p j&&Bf ops f j i
theorem Dx{n:Nat}{F:Array Bool}(H:HeadInv .any ops n F):∀f p i,Bf ops f p i=true->F.getD p false=true->F.getD i false=true
 |0,p,i,h,J=>by rw[<-cX h];exact J
 |f+1,p,i,h,J=>by
  rcases eN.1 h with h|h
  ·rw[<-cX h];exact J
  ·obtain⟨j,_,Y⟩:=fm.1 h
   obtain⟨h1,h2⟩:=gJ.1 Y;obtain⟨Z,W,e,he,hb,M⟩:=Region.waitsFor_spec h1;refine Dx H f j i h2 ?_;rw[<-M];exact H.closed p Z W J e he hb
end
section
variable {P:Program} {ops:Array Oper} {Q:Exit->Act->World->Prop} {V:Nat->Value} {a:Act}
theorem EQ(a:Act){d:Option Tmp}{e:Tmp}(v:Value)(h:d≠some e):(a.put d v).eval (.tmp e)=a.eval (.tmp e):=by
 cases d with
 |none=>rfl
 |some d=>
  show(a.tmps.setIfInBounds d v).getD e undef=a.tmps.getD e undef;have F:d≠e:=λH=>h (em some H)
  simp only[eA,Array.getElem?_setIfInBounds_ne F]
theorem IL(a:Act){d:Tmp}(v:Value)(h:d<a.tmps.size):(a.put (some d) v).eval (.tmp d)=v:=by
 show(a.tmps.setIfInBounds d v).getD d undef=v;simp[h]
theorem put_size(a:Act)(d:Option Tmp)(v:Value):(a.put d v).tmps.size=a.tmps.size:=by
 cases d<;>simp[Act.put]
theorem Px(a:Act)(d:Option Tmp)(v:Value):(a.put d v).defers=a.defers:=by
 cases d<;>simp[Act.put]
theorem Hr{e:Tmp}:∀n,(∀i,i<n->(ops[i]?).bind (·.dst)≠some e)->(Ae ops V n a).eval (.tmp e)=a.eval (.tmp e)
 |0,_=>rfl
 |n+1,h=>by
  rw[Ae,EQ _ _ (h n (by omega))];exact Hr n λi F=>h i (by omega)
theorem GL:∀n,(Ae ops V n a).tmps.size=a.tmps.size
 |0=>rfl
 |n+1=>by rw[Ae,put_size,GL n]
theorem Hd:∀n,(Ae ops V n a).defers=a.defers
 |0=>rfl
 |n+1=>by rw[Ae,Px,Hd n]
theorem Hs{i:Nat}{d:Tmp}(F:(ops[i]?).bind (·.dst)=some d)(M:d<a.tmps.size):∀n,Cs ops n=true->i<n->(Ae ops V n a).eval (.tmp d)=V i
 |0,_,h=>absurd h (by omega)
 |n+1,H,h=>by
  have J:Cs ops n=true:=by
   unfold Cs at H ⊢;refine dh.2 λj Y=>dh.1 H j (dA.2 (by have:=dA.1 Y;omega))
  rw[Ae]
  by_cases W:i=n
  ·subst W
   rw[F];exact IL _ _ (by rw[GL];exact M)
  ·rw[EQ _ _ (FE H (by omega) (by omega) d F)]
   exact Hs F M n J (by omega)
theorem Hk{o:Oper}{A:Act}{W W':World}{K:Act->World->Prop}{v:Value}(H:o.guard=none)(J:(execOp A.eval o).run P W=.ok (.value v) W')(h:K (A.put o.dst v) W'):wpList P ops (Cj K) [o] A W:=by
 refine fA H λM F=>?_
 unfold Oper.wp;rw[J];exact F _ _ h
theorem ID{o:Oper}{A:Act}{W:World}{K:Act->World->Prop}{f:FuncId}{args:Array Value}(H:o.guard=none)(J:(execOp A.eval o).run P W=.ok (.enter f args) W)(h:Calls P f args W λe w'=>∃v,e=.returned v/\K (A.put o.dst v) w'):wpList P ops (Cj K) [o] A W:=by
 refine fA H λM F=>?_
 unfold Oper.wp;rw[J];refine h.mono ?_;rintro e w' ⟨v,rfl,hk⟩;exact F _ _ hk
end
section
variable {P:Program} {ops:Array Oper} {Q:Exit->Act->World->Prop}
def Hp(ops:Array Oper):Nat->Nat->Nat->Bool
 |0,i,t=>Region.waitsFor .any ops i t
 |f+1,i,t=>Region.waitsFor .any ops i t||(List.range ops.size).any λm=>Region.waitsFor .any ops i m&&Hp ops f m t
def Cl(needs:List (List Nat))(i:Nat):List Nat:=needs.getD i []
theorem EN{n:Nat}{F:Array Bool}(J:HeadInv .any ops n F){m t:Nat}(W:F.getD m false=true)(h:Region.waitsFor .any ops m t=true):F.getD t false=true:=by
 obtain⟨o,Y,e,M,hb,H⟩:=Region.waitsFor_spec h;have:=J.closed m o Y W e M hb
 rwa [H]at this
theorem Fl{n:Nat}{F:Array Bool}(H:HeadInv .any ops n F):∀(f m t:Nat),F.getD m false=true->Hp ops f m t=true->F.getD t false=true
 |0,m,t,J,h=>EN H J h
 |f+1,m,t,J,h=>by
  unfold Hp at h;rcases eN.1 h with h|h
  ·exact EN H J h
  ·obtain⟨q,_,M⟩:=fm.1 h
   rw[cY]at M;exact Fl H f q t (EN H J M.1) M.2
theorem OZ{n:Nat}{F:Array Bool}(M:HeadInv .any ops n F){i:Nat}(H:∀j,Region.waitsFor .any ops i j=true->F.getD j false=true):∀(f t:Nat),Hp ops f i t=true->F.getD t false=true
 |0,t,h=>H t h
 |f+1,t,h=>by
  unfold Hp at h;rcases eN.1 h with h|h
  ·exact H t h
  ·obtain⟨q,_,J⟩:=fm.1 h
   rw[cY]at J;exact Fl M f q t (H q J.1) J.2
def needed(n:Nat)(needs:List (List Nat))(tailN:List Nat)(listed:Array Bool)(j:Nat):Prop:=tailN.contains j=true\/∃t,t<n/\(Cl needs t).contains j=true/\listed.getD t false=false
section
variable {a0:Act} {n:Nat} {w0:World} {needs:List (List Nat)} {aQ vary:List Nat} {L:(Nat->Value->World->Prop)->Prop} {o:Oper} {rest:List Oper} {i:Nat} {S:Nat->Value->World->Prop}
end
end
section
variable {P:Program} {ops:Array Oper} {Q:Exit->Act->World->Prop}
theorem hidOf{p:Prop}(h:p):Hid p:=h
def SteadyV(S:(Nat->Value)->World->Prop):Prop:=∀V W W',S V W->S V W'
def LastsV(S:(Nat->Value)->World->Prop):Prop:=∀V W W',S V W->Below W.heap.size W W'->S V W'
def Lt(l:List Nat)(S:(Nat->Value)->World->Prop):Prop:=∀V V' W,(∀m,l.contains m=true->V m=V' m)->S V W->S V' W
def RC(ops:Array Oper)(n:Nat)(needs:List (List Nat))(aQ vary tailN:List Nat)(keeps:List (Nat × Nat))(f:Nat):Bool:=
 ((List.range n).all λi=>(Cl needs i).all λj=>Region.waitsFor .any ops i j)&&
 (tailN.all λj=>decide (j<n))&&
 aQ.all λi=>vary.all λj=>j==i||Hp ops f j i||keeps.contains (i,j)||(!tailN.contains j&&(List.range n).all λt=>!(Cl needs t).contains j||t==i||Hp ops f i t)
def N7(P:Program)(ops:Array Oper)(a0:Act)(n:Nat)(w0:World)(needs:List (List Nat))(aQ:List Nat)(R:Nat->World->World->Prop)(S:Nat->(Nat->Value)->World->Prop)(i:Nat)(o:Oper)(T:(Nat->Value)->Value->World->Prop):Prop:=
 ∀(V:Nat->Value) (W:World) (K:Act->World->Prop),Below w0.heap.size w0 W->(∀j,(Cl needs i).contains j=true->S j V W)->
  Hid (∀v W',(if aQ.contains i then R i W W'/\Below w0.heap.size W W' else Below W.heap.size W W')->T V v W'->K ((Ae ops V n a0).put o.dst v) W')->wpList P ops (Cj K) [o] (Ae ops V n a0) W
theorem Ka{n g f:Nat}{S:Nat->(Nat->Value)->World->Prop}{T:Nat->(Nat->Value)->Value->World->Prop}{R:Nat->World->World->Prop}{keeps:List (Nat × Nat)}{w0:World}{a0:Act}{needs:List (List Nat)}{aQ vary tailN:List Nat}
  (hw:∀F,HeadInv .any ops n F->∀i,i<n->F.getD i true=false->∀t,n<=t->t∉Region.ready .any ops F)
  (hn:n<=ops.size) (ay:EL .any ops n=true) (hd:Cs ops n=true) (an:RC ops n needs aQ vary tailN keeps f=true) (ax:∀j,S j=λV W=>T j V (V j) W)
  (a5:∀j,LastsV (S j)) (aL:∀j,vary.contains j=false->SteadyV (S j)) (aw:∀j v,Lt (Cl needs j) (λV W=>T j V v W)) (aH:∀i j,keeps.contains (i,j)=true->∀V W W',R i W W'->S j V W->S j V W')
  (aT:∀i o,i<n->ops[i]?=some o->N7 P ops a0 n w0 needs aQ R S i o (T i))
  (ai:∀V W,Below w0.heap.size w0 W->(∀j,j<n->(tailN.contains j=true\/vary.contains j=false)->S j V W)->wpAny P .any ops Q g (Br ops n) (Ae ops V n a0) W):
  ∀(m:Nat) (F:Array Bool) (V:Nat->Value) (W:World),HeadInv .any ops n F->Bw n F=m->Below w0.heap.size w0 W->(∀j,j<n->F.getD j false=true->(vary.contains j=false\/needed n needs tailN F j)->S j V W)->
   wpAny P .any ops Q (m+g) F (Ae ops V n a0) W
 |0,F,V,W,H,hm,hb,hS=>by
  have af:∀i,i<n->F.getD i true=true:=by
   intro i hi;have:=fZ.1 hm i (dA.2 hi)
   simpa using this
  rw[DH H af,dJ];refine ai V W hb λj Z Y=>hS j Z ?_ ?_
  ·have:=af j Z
   have br:j<F.size:=by rw[H.size];omega
   simp[br]at this ⊢;exact this
  ·rcases Y with Y|Y
   ·exact .inr (.inl Y)
   ·exact .inl Y
 |m+1,F,V,W,H,hm,hb,hS=>by
  obtain⟨u,hu,am⟩:∃u,u<n/\F.getD u true=false:=by
   have:0<Bw n F:=by omega
   obtain⟨u,hu,am⟩:=gP.1 this;exact⟨u,dA.1 hu,by simpa using am⟩
  rw[show m+1+g=(m+g)+1 by omega];refine⟨λh0=>absurd h0 (D3 ay H u hu am),λi hi=>?_⟩
  have J:i<n:=by
   rcases eG i n with h|h
   ·exact h
   ·exact absurd hi (hw F H u hu am i h)
  obtain⟨a4,o,ho,af⟩:=iO.1 hi
  have hr:∀j,Region.waitsFor .any ops i j=true->F.getD j false=true:=λj Z=>by
   obtain⟨oj,au,e,he,ar,aS⟩:=Region.waitsFor_spec Z;have:oj=o:=dg (au.symm.trans ho);subst this;have hl:=af e he ar
   rwa [aS]at hl
  have bt:∀j,Region.waitsFor .any ops i j=true->j<n:=λj Z=>by
   obtain⟨oj,au,e,he,ar,aS⟩:=Region.waitsFor_spec Z;have h1:=dh.1 ay i (dA.2 J);rw[au]at h1;have h2:=fD.1 h1 e he;rw[ar]at h2;have h3:e.on<i:=by simpa using h2
   omega
  have hB:=an;unfold RC at hB;rw[cY,cY]at hB;obtain⟨⟨bl,_⟩,bf⟩:=hB
  have M:∀t,t<n->∀j,(Cl needs t).contains j=true->Region.waitsFor .any ops t j=true:=λt ht j Z=>
   dh.1 (dh.1 bl t (dA.2 ht)) j (g8.1 Z)
  have ag:F.getD i false=false:=getD_both a4;refine DV ho (aT i o J ho V W _ hb (λj Z=>?_) λv W' aa bm=>?_)
  ·exact hS j (bt j (M i J j Z)) (hr j (M i J j Z)) (.inr (.inr ⟨i,J,Z,ag⟩))
  ·have aI:o.dst=(ops[i]?).bind (·.dst):=by rw[ho];rfl
   rw[aI,Eo hd J];have aA:i<F.size:=by rw[H.size];exact(AB ho).1
   have bi:Below w0.heap.size w0 W':=by
    split at aa
    ·exact hb.trans aa.2
    ·exact hb.trans (aa.mono hb.size)
   refine Ka hw hn ay hd an ax a5 aL aw aH aT ai m _ _ W' (H.set hi J) (by have:=Er J aA a4;omega) bi λj Z hl Y=>?_
   by_cases ak:j=i
   ·subst ak
    rw[ax];simp only[upd,gM];refine aw j v V _ W' (λm hm=>?_) bm
    have bj:m≠j:=λe=>by
     subst e;have:=hr m (M m J m hm);rw[ag]at this;cases this
    simp[upd,bj]
   ·rw[fQ false (Ne.symm ak)]at hl
    have bx:F.getD j false=true:=hl
    have eV:∀W2,S j V W2->S j (upd V i v) W2:=λW2 h2=>by
     rw[ax]at h2 ⊢;simp only[upd,dC ak];refine aw j (V j) V _ W2 (λm hm=>?_) h2
     have bk:m≠i:=λe=>by
      subst e;have:=EN H bx (M j Z m hm);rw[ag]at this;cases this
     simp[upd,bk]
    refine eV W' ?_
    have bq:vary.contains j=false\/needed n needs tailN F j:=by
     rcases Y with Y|Y|⟨t,ht,av,hf⟩
     ·exact .inl Y
     ·exact .inr (.inl Y)
     ·refine .inr (.inr ⟨t,ht,av,?_⟩)
      by_cases ah:t=i
      ·rw[ah];exact ag
      ·rwa [fQ false (Ne.symm ah)]at hf
    have az:=hS j Z hl bq
    by_cases aC:aQ.contains i=true
    ·cases hv:vary.contains j with
     |false=>exact aL j hv _ _ _ az
     |true=>
      rw[dB aC]at aa;have hc:=dh.1 (dh.1 bf i (g8.1 aC)) j (g8.1 hv);rw[dY,dY,dY,cY]at hc;rcases hc with((hc|hc)|hc)|⟨a7,bB⟩
      ·exact absurd (by simpa using hc) ak
      ·have:=Fl H f j i hl hc
       rw[ag]at this;cases this
      ·exact aH i j hc V W W' aa.1 az
      ·exfalso
       rcases Y with Y|Y|⟨t,ht,av,hf⟩
       ·rw[hv]at Y;cases Y
       ·rw[Y]at a7;cases a7
       ·have h3:=dh.1 bB t (dA.2 ht)
        rw[dY,dY,av]at h3;rcases h3 with(h3|h3)|h3
        ·cases h3
        ·have:t=i:=by simpa using h3
         rw[this]at hf;simp[aA]at hf
        ·have aM:=OZ H hr f t h3
         by_cases ah:t=i
         ·rw[ah]at hf
          simp[aA]at hf
         ·rw[fQ false (Ne.symm ah),aM]at hf
          cases hf
    ·rw[dC aC]at aa
     exact a5 j V W W' az aa
def OB(S:Nat->(Nat->Value)->Value->World->Prop)(i:Nat)(T:(Nat->Value)->Value->World->Prop):Nat->(Nat->Value)->Value->World->Prop:=λj=>if j=i then T else S j
theorem Gc(S:Nat->(Nat->Value)->Value->World->Prop)(i:Nat)(T:(Nat->Value)->Value->World->Prop):OB S i T i=T:=by simp[OB]
theorem Gd(S:Nat->(Nat->Value)->Value->World->Prop){i j:Nat}(T:(Nat->Value)->Value->World->Prop)(h:j≠i):OB S i T j=S j:=by simp[OB,h]
def atV(T:Nat->(Nat->Value)->Value->World->Prop):Nat->(Nat->Value)->World->Prop:=λj V W=>T j V (V j) W
def Db(P:Program)(ops:Array Oper)(a0:Act)(n:Nat)(w0:World)(needs:List (List Nat))(aQ vary:List Nat)(R:Nat->World->World->Prop)(L:(Nat->(Nat->Value)->Value->World->Prop)->Prop):List Oper->Nat->(Nat->(Nat->Value)->Value->World->Prop)->Prop
 |[],_,S=>L S
 |o::rest,i,S=>∃T:(Nat->Value)->Value->World->Prop,(∀V v W W',T V v W->Below W.heap.size W W'->T V v W')/\(vary.contains i=false->∀V v W W',T V v W->T V v W')/\(∀v,Lt (Cl needs i) λV W=>T V v W)/\
   N7 P ops a0 n w0 needs aQ R (atV S) i o T/\Db P ops a0 n w0 needs aQ vary R L rest (i+1) (OB S i T)
section
variable {a0:Act} {n:Nat} {w0:World} {needs:List (List Nat)} {aQ vary:List Nat} {R:Nat->World->World->Prop} {L:(Nat->(Nat->Value)->Value->World->Prop)->Prop} {o:Oper} {rest:List Oper} {i:Nat} {S:Nat->(Nat->Value)->Value->World->Prop}
theorem ET{u:Value}(M:aQ.contains i=false)
  (h:∀(V:Nat->Value) (W:World) (K:Act->World->Prop) (A:Act),Below w0.heap.size w0 W->(∀j,(Cl needs i).contains j=true->S j V (V j) W)->Hid (A=Ae ops V n a0)->
   Hid (∀W',Below W.heap.size W W'->K (A.put o.dst u) W')->wpList P ops (Cj K) [o] A W)
  (J:Db P ops a0 n w0 needs aQ vary R L rest (i+1) (OB S i λ_ v _=>v=u)):Db P ops a0 n w0 needs aQ vary R L (o::rest) i S:=
 ⟨λ_ v _=>v=u,λ_ _ _ _ h _=>h,λ_ _ _ _ _ h=>h,λ_ _ _ _ _ h=>h,λV W K hb H Y=>h V W K _ hb H rfl λW' F=>Y.O u W' (by rw[M];exact F) rfl,J⟩
theorem C7(T:Value->World->Prop)(Y:Lu T)(H:aQ.contains i=false)(hv:vary.contains i=true)
  (h:∀(V:Nat->Value) (W:World) (K:Act->World->Prop) (A:Act),Below w0.heap.size w0 W->(∀j,(Cl needs i).contains j=true->S j V (V j) W)->Hid (A=Ae ops V n a0)->
   Hid (∀v W',Below W.heap.size W W'->T v W'->K (A.put o.dst v) W')->wpList P ops (Cj K) [o] A W)
  (M:Db P ops a0 n w0 needs aQ vary R L rest (i+1) (OB S i λ_=>T)):Db P ops a0 n w0 needs aQ vary R L (o::rest) i S:=
 ⟨λ_=>T,λ_ v W W'=>Y v W W',λh=>(by rw[hv]at h;cases h),λ_ _ _ _ _ h=>h,λV W K hb J Z=>h V W K _ hb J rfl λv W' F=>Z.O v W' (by rw[H];exact F),M⟩
theorem K7(T:(Nat->Value)->Value->World->Prop)(Z:∀V v W W',T V v W->Below W.heap.size W W'->T V v W')(M:∀v,Lt (Cl needs i) λV W=>T V v W)(J:aQ.contains i=true)(hv:vary.contains i=true)
  (h:∀(V:Nat->Value) (W:World) (K:Act->World->Prop) (A:Act),Below w0.heap.size w0 W->(∀j,(Cl needs i).contains j=true->S j V (V j) W)->Hid (A=Ae ops V n a0)->
   Hid (∀v W',R i W W'->Below w0.heap.size W W'->T V v W'->K (A.put o.dst v) W')->wpList P ops (Cj K) [o] A W)
  (H:Db P ops a0 n w0 needs aQ vary R L rest (i+1) (OB S i T)):Db P ops a0 n w0 needs aQ vary R L (o::rest) i S:=
 ⟨T,Z,λh=>(by rw[hv]at h;cases h),M,λV W K hb Y hK=>h V W K _ hb Y rfl λv W' H F=>hK.O v W' (by rw[J];exact⟨H,F⟩),H⟩
end
theorem IQ{a0:Act}{n:Nat}{w0:World}{needs:List (List Nat)}{aQ vary:List Nat}{R:Nat->World->World->Prop}{L:(Nat->(Nat->Value)->Value->World->Prop)->Prop}(M:∀i,i<n->∀j,(Cl needs i).contains j=true->j<i):∀(l:List Oper) (k:Nat) (S:Nat->(Nat->Value)->Value->World->Prop),k+l.length=n->(∀j,j<l.length->l[j]?=ops[k+j]?)->
  (∀j V v W W',S j V v W->Below W.heap.size W W'->S j V v W')->(∀j,j<k->vary.contains j=false->∀V v W W',S j V v W->S j V v W')->(∀j v,Lt (Cl needs j) λV W=>S j V v W)->(∀i o,i<k->ops[i]?=some o->N7 P ops a0 n w0 needs aQ R (atV S) i o (S i))->Db P ops a0 n w0 needs aQ vary R L l k S->
  ∃H,(∀j V v W W',H j V v W->Below W.heap.size W W'->H j V v W')/\(∀j,j<n->vary.contains j=false->∀V v W W',H j V v W->H j V v W')/\(∀j v,Lt (Cl needs j) λV W=>H j V v W)/\(∀i o,i<n->ops[i]?=some o->N7 P ops a0 n w0 needs aQ R (atV H) i o (H i))/\L H
 |[],k,S,hk,_,hl,hs,J,F,h=>by
  have e:n=k:=by simpa using hk.symm
  rw[e];rw[e]at F;exact⟨S,hl,hs,J,F,h⟩
 |o::l,k,S,hk,hs,hl,ah,J,F,⟨T,hT,al,ai,ho,h⟩=>by
  have h0:ops[k]?=some o:=by simpa using (hs 0 (by simp)).symm
  have ag:k<n:=by simp only[dL]at hk;omega
  refine IQ M l (k+1) _ (by simp only[dL]at hk;omega) (λj Y=>by have:=hs (j+1) (by simp;omega);simpa [eq,iE 1 j] using this) (λj=>?_) (λj Y hv=>?_) (λj=>?_) (λi o' hi Z=>?_) h
  ·by_cases e:j=k
   ·subst e;rw[Gc];exact hT
   ·rw[Gd _ _ e];exact hl j
  ·by_cases e:j=k
   ·subst e;rw[Gc];exact al hv
   ·rw[Gd _ _ e];exact ah j (by omega) hv
  ·by_cases e:j=k
   ·subst e;rw[Gc];exact ai
   ·rw[Gd _ _ e];exact J j
  ·by_cases e:i=k
   ·subst e
    have:o'=o:=dg (Z.symm.trans h0);subst this;rw[Gc];exact λV W K hb hd hK=>ho V W K hb (λj Y=>by have:=hd j Y;unfold atV at this ⊢;rwa [Gd _ _ (by have:=M i ag j Y;omega)]at this) hK
   ·rw[Gd _ _ e]
    exact λV W K hb hd hK=>F i o' (by omega) Z V W K hb (λj Y=>by have:=hd j Y;unfold atV at this ⊢;rwa [Gd _ _ (by have:=M i (by omega) j Y;omega)]at this) hK
theorem Fx{id:Nat}{a:Act}{w:World}{l:List Oper}(n f:Nat)(needs:List (List Nat))(aQ vary tailN:List Nat)(keeps:List (Nat × Nat))(R:Nat->World->World->Prop)(hm:P.follows .mixedOrders=true)(hB:Ap l.toArray n=true)(hO:RC l.toArray n needs aQ vary tailN keeps f=true)
  (h:Db P l.toArray a n w needs aQ vary R (λS=>(∀i j,keeps.contains (i,j)=true->∀V v W W',R i W W'->S j V v W->S j V v W')/\∀V W A,Below w.heap.size w W->(∀j,j<n->(tailN.contains j=true\/vary.contains j=false)->S j V (V j) W)->Hid (A=Ae l.toArray V n a)->wpList P l.toArray Q (l.drop n) A W) (l.take n) 0 λ_ _ _ _=>True):(Code.region id l.toArray true).wp P Q a w:=by
 have am:=hB;simp only[Ap,cY,dM]at am;obtain⟨⟨⟨⟨⟨hn,hs⟩,hc⟩,al⟩,hd⟩,ah⟩:=am;have a8:n<l.length:=by simpa using hn
 have aa:=hO;unfold RC at aa;rw[cY,cY]at aa
 have ak:∀i,i<n->∀j,(Cl needs i).contains j=true->j<i:=λi Y j F=>by
  have hw:=dh.1 (dh.1 aa.1.1 i (dA.2 Y)) j (g8.1 F);obtain⟨oj,aE,e,he,ay,bb⟩:=Region.waitsFor_spec hw;have h1:=dh.1 al i (dA.2 Y);rw[aE]at h1;have h2:=fD.1 h1 e he;rw[ay]at h2;have h3:e.on<i:=by simpa using h2
  omega
 obtain⟨S0,h1,h2,aH,h3,ax,h4⟩:=IQ ak (l.take n) 0 _ (by simp;omega) (λj F=>by
  have:j<n:=by simp at F;omega
  simp[this]) (λ_ _ _ _ _ _ _=>trivial) (λj F=>absurd F (by omega)) (λ_ _ _ _ _ _ h=>h) (λi o Y=>absurd Y (by omega)) h
 obtain⟨S,hS⟩:∃S:Nat->(Nat->Value)->Value->World->Prop,S=λj=>if j<n then S0 j else λ_ _ _=>True:=⟨_,rfl⟩
 have M:∀j,j<n->S j=S0 j:=λj F=>by rw[hS];simp[F]
 have Z:∀j,¬j<n->S j=λ_ _ _=>True:=λj F=>by rw[hS];simp[F]
 refine iw hm ?_
 have ai:HeadInv .any l.toArray n (Array.replicate l.toArray.size false):=
  ⟨by simp,λj oj _ hl=>(by rw[getD_replicate_false]at hl;cases hl),λt _ ht=>getD_in (by simpa using ht) (getD_replicate_false _ _)⟩
 have aw:Below w.heap.size w {w with drawn:=w.drawn+1}:=⟨rfl,rfl,rfl,AG _,λ_ _=>rfl⟩
 have af:Bw n (Array.replicate l.toArray.size false)=n:=by
  unfold Bw;rw[gh.2]
  ·simp
  ·intro i Y
   have:i<l.toArray.size:=by have:=dA.1 Y;omega
   rw[getD_in (by simpa using this) (getD_replicate_false _ _)];rfl
 obtain⟨V0,aK⟩:∃V0,Ae l.toArray V0 n a=a:=⟨_,D1 a n⟩
 have H:=Ka (P:=P) (Q:=Q) (g:=l.toArray.size - n) (f:=f) (S:=atV S) (T:=S) (R:=R) (keeps:=keeps) (w0:=w) (a0:=a) (needs:=needs) (aQ:=aQ) (vary:=vary) (tailN:=tailN) (λar aG i Y hu t ht=>tail_waits hs hc hn aG _ i rfl Y hu t ht) (by omega) al hd hO (λj=>rfl)
  (λj V W W' J hb=>by
   unfold atV at J ⊢
   by_cases F:j<n
   ·rw[M j F]at J ⊢;exact h1 j V _ W W' J hb
   ·rw[Z j F];trivial)
  (λj hv V W W' J=>by
   unfold atV at J ⊢
   by_cases F:j<n
   ·rw[M j F]at J ⊢;exact h2 j F hv V _ W W' J
   ·rw[Z j F];trivial)
  (λj v V V' W aC J=>by
   by_cases F:j<n
   ·simp only[M j F]at J ⊢;exact aH j v V V' W aC J
   ·simp only[Z j F])
  (λi j hk V W W' hr J=>by
   unfold atV at J ⊢
   by_cases F:j<n
   ·rw[M j F]at J ⊢;exact ax i j hk V _ W W' hr J
   ·rw[Z j F];trivial)
  (λi o Y ho=>by
   rw[M i Y]
   exact λV W K hb aA hK=>h3 i o Y ho V W K hb (λj F=>by have h':=aA j F;unfold atV at h' ⊢;rwa [M j (by have:=ak i Y j F;omega)]at h') hK)
  (λV W hb az=>by
   have an:(l.drop n).length=l.toArray.size - n:=by simp
   have:=wpAny_of_seq (md:=.any) (Q':=Q) (l.drop n) n (Br l.toArray n) _ W (λj=>by simp[ej]) (by rw[an];exact ah) (h4 V W _ hb (λj F J=>by have h':=az j F J;unfold atV at h';rwa [M j F]at h') rfl)
   rwa [an]at this)
  n _ V0 {w with drawn:=w.drawn+1} ai af aw (λj _ hl=>by rw[getD_replicate_false]at hl;cases hl)
 rw[aK,show n+(l.toArray.size - n)=l.toArray.size by omega]at H;exact H
end
section
variable {P:Program} {Q:Exit->Act->World->Prop}
def everyB(ops:Array Oper):Bool:=EL .any ops ops.size&&Cs ops ops.size
theorem EF{id:Nat}{a:Act}{w:World}{l:List Oper}(n:Nat)(hn:l.length=n)(p:Nat)(Inv Inv0:World->Prop)(R:Nat->World->World->Prop)(hm:P.follows .mixedOrders=true)(hB:everyB l.toArray=true)
  (ai:Inv {w with drawn:=w.drawn+1}) (al:Inv0 {w with drawn:=w.drawn+1}) (hI:∀i W W',Inv W->R i W W'->Inv W') (ag:∀i W W',i≠p->Inv0 W->R i W W'->Inv0 W')
  (h:C8 P l.toArray a n Inv p Inv0 R (λS=>∀V W A,Inv W->(∀j,j<n->S j (V j) W)->Hid (A=Ae l.toArray V n a)->wpList P l.toArray Q [] A W) l 0 λ_ _ _=>True):(Code.region id l.toArray true).wp P Q a w:=by
 subst hn;simp only[everyB,cY,ek]at hB;obtain⟨Z,hd⟩:=hB;obtain⟨S,h1,h2,h3⟩:=Dy Z l 0 _ (by simp) (λj hj=>by simp) (λ_ _ _ _ _ _ _ _=>trivial) (λi o hi=>absurd hi (by omega)) h;refine iw hm ?_
 have J:HeadInv .any l.toArray l.length (Array.replicate l.toArray.size false):=
  ⟨by simp,λj oj _ M=>(by rw[getD_replicate_false]at M;cases M),λt _ ht=>getD_in (by simpa using ht) (getD_replicate_false _ _)⟩
 have F:Bw l.length (Array.replicate l.toArray.size false)=l.length:=by
  unfold Bw;rw[gh.2]
  ·simp
  ·intro i hi
   have:i<l.toArray.size:=by have:=dA.1 hi;simpa using this
   rw[getD_in (by simpa using this) (getD_replicate_false _ _)];rfl
 have H:=GA (P:=P) (Q:=Q) (g:=0) (S:=S) (Inv:=Inv) (Inv0:=Inv0) (p:=p) (R:=R) (a0:=a)
  (λaf _ i _ _ t ht hr=>by
   obtain⟨_,o,ho,_⟩:=iO.1 hr;have:=(AB ho).1;simp at this
   omega) (by simp) Z hd hI ag h1 h2
  (λV W hb hS=>by
   unfold wpAny;refine⟨List.eq_nil_iff_forall_not_mem.2 λt ht=>?_,h3 V W _ hb hS rfl⟩;obtain⟨hu,o,ho,_⟩:=iO.1 ht;have Y:=(AB ho).1;simp at Y;rw[show(Br l.toArray l.length).getD t true=true by simp[Br,Y]]at hu
   cases hu)
  l.length _ (λj=>match (l.toArray[j]?).bind (·.dst) with|some d=>a.tmps.getD d undef|none=>undef) {w with drawn:=w.drawn+1} J F ai (λ_=>al) (λj _ M=>by rw[getD_replicate_false]at M;cases M)
 have e:Ae l.toArray (λj=>match (l.toArray[j]?).bind (·.dst) with|some d=>a.tmps.getD d undef|none=>undef) l.length a=a:=D1 a l.length;rw[e,fW]at H
 simpa using H
end
section
variable {P:Program}
theorem As{ops:Array Oper}{rest:List Oper}{o:Oper}{a:Act}{w:World}{Q:Exit->Act->World->Prop}(M:o.guard=none)(t:TypeId)(x:Operand)(lo hi mx:Option Operand)(ho:o.op=.slice t x lo hi mx)
  (ht:P.underlying t=some (.slice (P.elem t))) (size:Nat) (J:(P.info? (P.elem t)).map (·.size)=some size) (g off n cap l h m:Nat) (hx:a.eval x=.slice (some ⟨g,off,none⟩) n cap) (lv hv mv:Option Value) (W:lo.map a.eval=lv) (Y:hi.map a.eval=hv) (aa:mx.map a.eval=mv)
  (F:∀w:World,(Instr.slice t (.slice (some ⟨g,off,none⟩) n cap) lv hv mv).run P w=((sizeOf (P.elem t)).run P w).andThen λs w=>.ok (sliced (some ⟨g,off,none⟩) l h m s) w)
  (hk:∀H,(H=off+l*size\/m=l)->wpList P ops Q rest (a.put o.dst (.slice (some ⟨g,H,none⟩) (h - l) (m - l))) w):wpList P ops Q (o::rest) a w:=by
 refine fA M λK hK=>?_
 obtain⟨i,af,ag⟩:∃i,P.info? (P.elem t)=some i/\i.size=size:=by
  cases hq:P.info? (P.elem t) with
  |none=>simp[hq]at J
  |some i=>exact⟨i,rfl,by simpa [hq] using J⟩
 have hs:(sizeOf (P.elem t)).run P w=.ok size w:=by simp[sizeOf,typeInfo,af,ag]
 have F:=F w;rw[hs]at F;simp only[Result.andThen_ok]at F;unfold Oper.wp execOp;simp only[ho,hx,W,Y,aa,jf w t _ _ _ _ ht,ew,F,Result.andThen_ok,Sem.run_pure];unfold sliced
 by_cases Z:m=l
 ·rw[dB Z]
  exact hK _ _ (hk off (.inr Z))
 ·rw[dC Z]
  rw[eo,fJ];exact hK _ _ (hk (off+l*size) (.inl rfl))
end
end
end Go.Proofs.YtbceafpodamnfaaGreatDoor
