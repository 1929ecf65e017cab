import Derived.Test.YtbceafpodamnfaaGreatDoorG00
import Derived.OrdersIn
import Derived.OwnWalkIn
import Derived.RangeFuncCalls
set_option linter.all false
namespace Go.Proofs.YtbceafpodamnfaaGreatDoor
section
open Go.RowKit
section
variable {P:Program} {ops:Array Oper} {Q:Exit->Act->World->Prop}
def OA(p g:Nat)(i:Nat)(W W':World):Prop:=match Nat.beq i p with
 |true=>BH g W W'
 |false=>Below W.heap.size W W'
def KV(P:Program)(ops:Array Oper)(a0:Act)(n:Nat)(Inv:World->Prop)(p:Nat)(Inv0:World->Prop)(R:Nat->World->World->Prop)(S:Nat->Value->World->Prop)(i:Nat)(o:Oper)(T:Value->World->Prop):Prop:=
 ∀(V:Nat->Value) (W:World) (K:Act->World->Prop),Inv W->(Nat.beq i p=true->Inv0 W)->(∀j,Region.waitsFor .any ops i j=true->S j (V j) W)->
  Hid (∀v W',R i W W'->T v W'->K ((Ak ops V n a0).put o.dst v) W')->wpList P ops (Ch K) [o] (Ak ops V n a0) W
def K2(R:Nat->World->World->Prop)(j:Nat)(T:Value->World->Prop):Prop:=∀i,i≠j->∀v W W',T v W->R i W W'->T v W'
theorem Hc{n g p:Nat}{S:Nat->Value->World->Prop}{Inv Inv0:World->Prop}{R:Nat->World->World->Prop}{a0:Act}
  (hw:∀listed,HeadInv .any ops n listed->∀i,i<n->listed.getD i true=false->∀t,n<=t->t∉Region.ready .any ops listed)
  (hn:n<=ops.size) (aa:GA .any ops n=true) (hd:Fc ops n=true)
  (hI:∀i W W',Inv W->R i W W'->Inv W') (ag:∀i W W',i≠p->Inv0 W->R i W W'->Inv0 W') (aq:∀j,K2 R j (S j))
  (an:∀i o,i<n->ops[i]?=some o->KV P ops a0 n Inv p Inv0 R S i o (S i))
  (M:∀V W,Inv W->(∀j,j<n->S j (V j) W)->wpAny P .any ops Q g (CF ops n) (Ak ops V n a0) W):
  ∀(m:Nat) (listed:Array Bool) (V:Nat->Value) (W:World),HeadInv .any ops n listed->CC n listed=m->Inv W->(listed.getD p true=false->Inv0 W)->(∀j,j<n->listed.getD j false=true->S j (V j) W)->
   wpAny P .any ops Q (m+g) listed (Ak ops V n a0) W
 |0,listed,V,W,z,hm,hb,_,hS=>by
  have F:∀i,i<n->listed.getD i true=true:=by
   intro i hi;have:=gv.1 hm i (dH.2 hi)
   simpa using this
  rw[Dp z F,dL];refine M V W hb λj hj=>hS j hj ?_
  have:=F j hj;have aA:j<listed.size:=by rw[z.size];omega
  simp[aA]at this ⊢;exact this
 |m+1,listed,V,W,z,hm,hb,ah,hS=>by
  obtain⟨u,hu,Y⟩:∃u,u<n/\listed.getD u true=false:=by
   have:0<CC n listed:=qo
   obtain⟨u,hu,Y⟩:=g9.1 this;exact⟨u,dH.1 hu,by simpa using Y⟩
  rw[show m+1+g=(m+g)+1 by omega];refine⟨λh0=>absurd h0 (Ep aa z u hu Y),λi hi=>?_⟩
  have H:i<n:=by
   rcases eW i n with h|h
   ·exact h
   ·exact absurd hi (hw listed z u hu Y i h)
  obtain⟨au,o,ho,F⟩:=iT.1 hi;refine D8 ho (an i o H ho V W _ hb (λJ=>ah (by rw[<-dh J];exact au)) (λj hj=>?_) λv W' Z aF=>?_)
  ·obtain⟨oj,aC,e,he,aj,aD⟩:=Region.waitsFor_spec hj
   have:oj=o:=dj (aC.symm.trans ho);subst this;have hl:=F e he aj;rw[aD]at hl
   have aB:j<n:=by
    have h1:=dt.1 aa i (dH.2 H);rw[ho]at h1;have h2:=fy.1 h1 e he;rw[aj]at h2;have h3:e.on<i:=by simpa using h2
    omega
   exact hS j aB hl
  ·have ak:o.dst=(ops[i]?).bind (·.dst):=by rw[ho];rfl
   rw[ak,ET hd H];have az:i<listed.size:=by rw[z.size];exact(AB ho).1
   refine Hc hw hn aa hd hI ag aq an M m _ _ W' (z.set hi H) (by have:=Fd H az au;omega) (hI i W W' hb Z) (λhp=>?_) λj hj hl=>?_
   ·by_cases J:i=p
    ·subst J
     rw[show(listed.setIfInBounds i true).getD i true=true by simp]at hp;cases hp
    ·rw[gw true J]at hp
     exact ag i W W' J (ah hp) Z
   by_cases O:j=i
   ·subst O
    simpa [upd] using aF
   ·rw[gw false (Ne.symm O)]at hl
    have:=aq j i (Ne.symm O) (V j) W W' (hS j hj hl) Z
    simpa [upd,O] using this
theorem Gx{id:Nat}{a:Act}{w:World}{l:List Oper}(n p:Nat)(Inv Inv0:World->Prop)(R:Nat->World->World->Prop)(S:Nat->Value->World->Prop)(hm:P.follows .mixedOrders=true)(hB:Ax l.toArray n=true)
  (aa:Inv {w with drawn:=w.drawn+1}) (ae:Inv0 {w with drawn:=w.drawn+1}) (hI:∀i W W',Inv W->R i W W'->Inv W') (Z:∀i W W',i≠p->Inv0 W->R i W W'->Inv0 W')
  (aj:∀j,K2 R j (S j)) (ah:∀i o,i<n->l.toArray[i]?=some o->KV P l.toArray a n Inv p Inv0 R S i o (S i))
  (z:∀V W,Inv W->(∀j,j<n->S j (V j) W)->wpList P l.toArray Q (l.drop n) (Ak l.toArray V n a) W):(Code.region id l.toArray true).wp P Q a w:=by
 simp only[Ax,di,dS]at hB;obtain⟨⟨⟨⟨⟨hn,hs⟩,hc⟩,af⟩,hd⟩,O⟩:=hB;refine iC hm ?_
 have Y:HeadInv .any l.toArray n (Array.replicate l.toArray.size false):=
  ⟨qs,λj oj _ M=>(by rw[getD_replicate_false]at M;cases M),λt _ ht=>getD_in (by simpa using ht) (getD_replicate_false _ _)⟩
 have F:CC n (Array.replicate l.toArray.size false)=n:=by
  unfold CC;rw[gb.2]
  ·simp
  ·intro i hi
   have:i<l.toArray.size:=by have:=dH.1 hi;omega
   rw[getD_in (by simpa using this) (getD_replicate_false _ _)];rfl
 have H:=Hc (P:=P) (Q:=Q) (g:=l.toArray.size - n) (S:=S) (Inv:=Inv) (Inv0:=Inv0) (p:=p) (R:=R) (a0:=a) (λlisted al i hi hu t ht=>tail_waits hs hc hn al _ i rfl hi hu t ht) qo af hd hI Z aj ah
  (λV W hb hS=>by
   have J:(l.drop n).length=l.toArray.size - n:=by simp
   have:=wpAny_of_seq (md:=.any) (Q':=Q) (l.drop n) n (CF l.toArray n) _ W (λj=>by simp[ew]) (by rw[J];exact O) (z V W hb hS)
   rwa [J]at this)
  n _ (λj=>match (l.toArray[j]?).bind (·.dst) with|some d=>a.tmps.getD d undef|none=>undef) {w with drawn:=w.drawn+1} Y F aa (λ_=>ae) (λj _ M=>by rw[getD_replicate_false]at M;cases M)
 have e:Ak l.toArray (λj=>match (l.toArray[j]?).bind (·.dst) with|some d=>a.tmps.getD d undef|none=>undef) n a=a:=DT a n;rw[e,show n+(l.toArray.size - n)=l.toArray.size by omega]at H;exact H
def DK(P:Program)(ops:Array Oper)(a0:Act)(n:Nat)(Inv:World->Prop)(p:Nat)(Inv0:World->Prop)(R:Nat->World->World->Prop)(L:(Nat->Value->World->Prop)->Prop):List Oper->Nat->(Nat->Value->World->Prop)->Prop
 |[],_,S=>L S
 |o::rest,i,S=>∃T,K2 R i T/\KV P ops a0 n Inv p Inv0 R S i o T/\DK P ops a0 n Inv p Inv0 R L rest (i+1) (KZ S i T)
theorem Ab{a0:Act}{n p:Nat}{Inv Inv0:World->Prop}{R:Nat->World->World->Prop}{L:(Nat->Value->World->Prop)->Prop}{o:Oper}{rest:List Oper}{i:Nat}{S:Nat->Value->World->Prop}(T:Value->World->Prop)(F:K2 R i T)
  (h:∀(V:Nat->Value) (W:World) (K:Act->World->Prop) (A:Act),Inv W->(Nat.beq i p=true->Inv0 W)->qW ops S V W i->Hid (A=Ak ops V n a0)->
   Hid (∀v W',R i W W'->T v W'->K (A.put o.dst v) W')->wpList P ops (Ch K) [o] A W)
  (J:DK P ops a0 n Inv p Inv0 R L rest (i+1) (KZ S i T)):DK P ops a0 n Inv p Inv0 R L (o::rest) i S:=⟨T,F,λV W K hb M H z=>h V W K _ hb M H rfl z,J⟩
theorem AT{a0:Act}{n p:Nat}{Inv Inv0:World->Prop}{R:Nat->World->World->Prop}{L:(Nat->Value->World->Prop)->Prop}{o:Oper}{rest:List Oper}{i:Nat}{S:Nat->Value->World->Prop}{u:Value}
  (h:∀(V:Nat->Value) (W:World) (K:Act->World->Prop) (A:Act),Inv W->(Nat.beq i p=true->Inv0 W)->qW ops S V W i->Hid (A=Ak ops V n a0)->
   Hid (∀W',R i W W'->K (A.put o.dst u) W')->wpList P ops (Ch K) [o] A W)
  (J:DK P ops a0 n Inv p Inv0 R L rest (i+1) (KZ S i λv _=>v=u)):DK P ops a0 n Inv p Inv0 R L (o::rest) i S:=
 ⟨λv _=>v=u,λ_ _ _ _ _ h _=>h,λV W K hb M H F=>h V W K _ hb M H rfl λW' z=>F.ab u W' z rfl,J⟩
theorem Dq{a0:Act}{n p:Nat}{Inv Inv0:World->Prop}{R:Nat->World->World->Prop}{L:(Nat->Value->World->Prop)->Prop}(J:GA .any ops n=true):∀(l:List Oper) (k:Nat) (S:Nat->Value->World->Prop),k+l.length=n->(∀j,j<l.length->l[j]?=ops[k+j]?)->
  (∀j,K2 R j (S j))->(∀i o,i<k->ops[i]?=some o->KV P ops a0 n Inv p Inv0 R S i o (S i))->DK P ops a0 n Inv p Inv0 R L l k S->
  ∃O,(∀j,K2 R j (O j))/\(∀i o,i<n->ops[i]?=some o->KV P ops a0 n Inv p Inv0 R O i o (O i))/\L O
 |[],k,S,hk,_,hl,z,h=>⟨S,hl,by rw[show n=k by simpa using hk.symm];rw[show n=k by simpa using hk.symm]at z;exact z,h⟩
 |o::l,k,S,hk,hs,hl,z,⟨T,hT,ho,h⟩=>by
  have h0:ops[k]?=some o:=by simpa using (hs 0 qs).symm
  have H:∀i j,i<n->Region.waitsFor .any ops i j=true->j<i:=λi j hi F=>by
   obtain⟨oj,ag,e,he,Z,ay⟩:=Region.waitsFor_spec F;have h1:=dt.1 J i (dH.2 hi);rw[ag]at h1;have h2:=fy.1 h1 e he;rw[Z]at h2;have h3:e.on<i:=by simpa using h2
   omega
  have ae:k<n:=by simp only[dM]at hk;omega
  refine Dq J l (k+1) _ (by simp only[dM]at hk;omega) (λj F=>by have:=hs (j+1) qp;simpa [eG,iI 1 j] using this) (λj=>?_) (λi o' hi M=>?_) h
  ·by_cases e:j=k
   ·subst e;rw[FR];exact hT
   ·rw[Dt _ _ e];exact hl j
  ·by_cases e:i=k
   ·subst e
    have:o'=o:=dj (M.symm.trans h0);subst this;rw[FR];exact λV W K hb hz hd Y=>ho V W K hb hz (λj F=>by have:=hd j F;rwa [Dt _ _ (by have:=H i j ae F;omega)]at this) Y
   ·rw[Dt _ _ e]
    exact λV W K hb hz hd Y=>z i o' qo M V W K hb hz (λj F=>by have:=hd j F;rwa [Dt _ _ (by have:=H i j qo F;omega)]at this) Y
theorem EP{id:Nat}{a:Act}{w:World}{l:List Oper}(n p g:Nat)(Inv Inv0:World->Prop)(hm:P.follows .mixedOrders=true)(hB:Ax l.toArray n=true)
  (Y:Inv w) (Z:Inv0 w) (J:∀W W',Inv W->Below W.heap.size W W'->Inv W') (O:∀W W',Inv W->BH g W W'->Inv W') (H:∀W W',Inv0 W->Below W.heap.size W W'->Inv0 W')
  (h:DK P l.toArray a n Inv p Inv0 (OA p g) (λS=>∀V W A,Inv W->qN n S V W->Hid (A=Ak l.toArray V n a)->wpList P l.toArray Q (l.drop n) A W) (l.take n) 0 λ_ _ _=>True):(Code.region id l.toArray true).wp P Q a w:=by
 have F:=hB;simp only[Ax,di,dS]at F;obtain⟨⟨⟨⟨⟨hn,_⟩,_⟩,aa⟩,_⟩,_⟩:=F;have au:n<l.length:=by simpa using hn
 obtain⟨S,h1,h2,h3⟩:=Dq aa (l.take n) 0 _ qp (λj hj=>by
  have:j<n:=by simp at hj;omega
  simp[this]) (λ_ _ _ _ _ _ _ _=>trivial) (λi o hi=>absurd hi qo) h
 refine Gx n p Inv Inv0 (OA p g) S hm hB (J _ _ Y ⟨rfl,rfl,rfl,AG,λ_ _=>rfl⟩) (H _ _ Z ⟨rfl,rfl,rfl,AG,λ_ _=>rfl⟩) (λi W W' M z=>?_) (λi W W' ae M z=>?_) h1 h2 λV W hb hS=>h3 V W _ hb hS rfl
 ·unfold OA at z
  split at z
  ·exact O _ _ M z
  ·exact J _ _ M z
 ·unfold OA at z
  split at z
  ·rename_i hb
   exact absurd (dh hb) ae
  ·exact H _ _ M z
def Lg(p:Nat)(RP:World->World->Prop)(i:Nat)(W W':World):Prop:=match Nat.beq i p with
 |true=>RP W W'
 |false=>Below W.heap.size W W'
theorem ES{p:Nat}{z:World->World->Prop}{i:Nat}{W W':World}(F:i≠p)(h:Lg p z i W W'):Below W.heap.size W W':=by
 unfold Lg at h;split at h
 ·rename_i hb
  exact absurd (dh hb) F
 ·exact h
theorem DC{p:Nat}{z:World->World->Prop}{i:Nat}{W W':World}(h:Lg p z i W W'):z W W'\/Below W.heap.size W W':=by
 unfold Lg at h;split at h
 ·exact .inl h
 ·exact .inr h
theorem Ez{id:Nat}{a:Act}{w:World}{l:List Oper}(n p:Nat)(M:World->World->Prop)(Inv Inv0:World->Prop)(hm:P.follows .mixedOrders=true)(hB:Ax l.toArray n=true)
  (Z:Inv w) (aa:Inv0 w) (H:∀W W',Inv W->Below W.heap.size W W'->Inv W') (O:∀W W',Inv W->M W W'->Inv W') (F:∀W W',Inv0 W->Below W.heap.size W W'->Inv0 W')
  (h:DK P l.toArray a n Inv p Inv0 (Lg p M) (λS=>∀V W A,Inv W->qN n S V W->Hid (A=Ak l.toArray V n a)->wpList P l.toArray Q (l.drop n) A W) (l.take n) 0 λ_ _ _=>True):(Code.region id l.toArray true).wp P Q a w:=by
 have z:=hB;simp only[Ax,di,dS]at z;obtain⟨⟨⟨⟨⟨hn,_⟩,_⟩,ae⟩,_⟩,_⟩:=z;have aw:n<l.length:=by simpa using hn
 obtain⟨S,h1,h2,h3⟩:=Dq ae (l.take n) 0 _ qp (λj hj=>by
  have:j<n:=by simp at hj;omega
  simp[this]) (λ_ _ _ _ _ _ _ _=>trivial) (λi o hi=>absurd hi qo) h
 refine Gx n p Inv Inv0 (Lg p M) S hm hB (H _ _ Z ⟨rfl,rfl,rfl,AG,λ_ _=>rfl⟩) (F _ _ aa ⟨rfl,rfl,rfl,AG,λ_ _=>rfl⟩) (λi W W' J Y=>?_) (λi W W' af J Y=>F _ _ J (ES af Y)) h1 h2 λV W hb hS=>h3 V W _ hb hS rfl
 rcases DC Y with h|h
 ·exact O _ _ J h
 ·exact H _ _ J h
end
section
variable {P:Program} {ops:Array Oper} {Q:Exit->Act->World->Prop}
def CE(ops:Array Oper):Nat->Nat->Nat->Bool
 |0,p,i=>Nat.beq p i
 |f+1,p,i=>Nat.beq p i||(List.range p).any λj=>Region.waitsFor .any ops p j&&CE ops f j i
theorem GF{n:Nat}{listed:Array Bool}(z:HeadInv .any ops n listed):∀f p i,CE ops f p i=true->listed.getD p false=true->listed.getD i false=true
 |0,p,i,h,F=>by rw[<-dh h];exact F
 |f+1,p,i,h,F=>by
  rcases fh.1 h with h|h
  ·rw[<-dh h];exact F
  ·obtain⟨j,_,Y⟩:=fJ.1 h
   obtain⟨M,O⟩:=gJ.1 Y;obtain⟨Z,H,e,W,hb,J⟩:=Region.waitsFor_spec M;refine GF z f j i O ?_;rw[<-J];exact z.closed p Z H F e W hb
end
section
variable {P:Program} {ops:Array Oper} {Q:Exit->Act->World->Prop} {V:Nat->Value} {a:Act}
theorem wp_val{o:Oper}{A:Act}{W W':World}{K:Act->World->Prop}{v:Value}(F:o.guard=none)(H:(execOp A.eval o).run P W=.ok (.value v) W')(h:K (A.put o.dst v) W'):wpList P ops (Ch K) [o] A W:=by
 refine gd F λJ z=>?_
 unfold Oper.wp;rw[H];exact z _ _ h
end
end
section
open Go.RowKit
open Go.Value renaming int->In,slice->Sl,string->Sg,bool->Bo,pointer->Po
open Go.IntKind renaming i64->i6
section
variable {P:Program}
theorem Av{ops:Array Oper}{rest:List Oper}{o:Oper}{a:Act}{w:World}{Q:Exit->Act->World->Prop}(M:o.guard=none)(t:TypeId)(x:Operand)(lo hi mx:Option Operand)(ho:o.op=.slice t x lo hi mx)
  (ht:P.underlying t=some (.slice (P.elem t))) (size:Nat) (J:(P.info? (P.elem t)).map (·.size)=some size) (g F n cap l h m:Nat) (hx:a.eval x=Sl (some ⟨g,F,none⟩) n cap) (lv hv mv:Option Value) (Z:lo.map a.eval=lv) (O:hi.map a.eval=hv) (ae:mx.map a.eval=mv)
  (z:∀w:World,(Instr.slice t (Sl (some ⟨g,F,none⟩) n cap) lv hv mv).run P w=((sizeOf (P.elem t)).run P w).andThen λs w=>.ok (sliced (some ⟨g,F,none⟩) l h m s) w)
  (hk:∀H,(H=F+l*size\/m=l)->wpList P ops Q rest (a.put o.dst (Sl (some ⟨g,H,none⟩) (h - l) (m - l))) w):wpList P ops Q (o::rest) a w:=by
 refine gd M λK hK=>?_
 obtain⟨i,W,Y⟩:∃i,P.info? (P.elem t)=some i/\i.size=size:=by
  cases hq:P.info? (P.elem t) with
  |none=>simp[hq]at J
  |some i=>exact⟨i,rfl,by simpa [hq] using J⟩
 have hs:(sizeOf (P.elem t)).run P w=.ok size w:=by simp[sizeOf,typeInfo,W,Y]
 have z:=z w;rw[hs]at z;simp only[Result.andThen_ok]at z;unfold Oper.wp execOp;simp only[ho,hx,Z,O,ae,jh w t _ _ _ _ ht,eA,z,Result.andThen_ok,Sem.run_pure];unfold sliced
 by_cases hm:m=l
 ·rw[dv hm]
  exact hK _ _ (hk F (.inr hm))
 ·rw[dk hm]
  rw[eO,fP];exact hK _ _ (hk (F+l*size) (.inl rfl))
end
end
section
open Go.RowKit
section
variable {P:Program} {ops:Array Oper} {Q:Exit->Act->World->Prop}
def JE(ops:Array Oper):Nat->Nat->Nat->Bool
 |0,i,t=>Region.waitsFor .any ops i t
 |f+1,i,t=>Region.waitsFor .any ops i t||(List.range ops.size).any λm=>Region.waitsFor .any ops i m&&JE ops f m t
def DD(needs:List (List Nat))(i:Nat):List Nat:=needs.getD i []
theorem FI{n:Nat}{listed:Array Bool}(F:HeadInv .any ops n listed){m t:Nat}(J:listed.getD m false=true)(h:Region.waitsFor .any ops m t=true):listed.getD t false=true:=by
 obtain⟨o,M,e,H,hb,z⟩:=Region.waitsFor_spec h;have:=F.closed m o M J e H hb
 rwa [z]at this
theorem Gg{n:Nat}{listed:Array Bool}(z:HeadInv .any ops n listed):∀(f m t:Nat),listed.getD m false=true->JE ops f m t=true->listed.getD t false=true
 |0,m,t,F,h=>FI z F h
 |f+1,m,t,F,h=>by
  unfold JE at h;rcases fh.1 h with h|h
  ·exact FI z F h
  ·obtain⟨q,_,H⟩:=fJ.1 h
   rw[di]at H;exact Gg z f q t (FI z F H.1) H.2
theorem Qo{n:Nat}{listed:Array Bool}(H:HeadInv .any ops n listed){i:Nat}(F:∀j,Region.waitsFor .any ops i j=true->listed.getD j false=true):∀(f t:Nat),JE ops f i t=true->listed.getD t false=true
 |0,t,h=>F t h
 |f+1,t,h=>by
  unfold JE at h;rcases fh.1 h with h|h
  ·exact F t h
  ·obtain⟨q,_,z⟩:=fJ.1 h
   rw[di]at z;exact Gg H f q t (F q z.1) z.2
def needed(n:Nat)(needs:List (List Nat))(tailN:List Nat)(listed:Array Bool)(j:Nat):Prop:=tailN.contains j=true\/∃t,t<n/\(DD needs t).contains j=true/\listed.getD t false=false
section
variable {a0:Act} {n:Nat} {w0:World} {needs:List (List Nat)} {aW vary:List Nat} {L:(Nat->Value->World->Prop)->Prop} {o:Oper} {rest:List Oper} {i:Nat} {S:Nat->Value->World->Prop}
end
end
section
variable {P:Program} {ops:Array Oper} {Q:Exit->Act->World->Prop}
theorem Qj{n:Nat}{row:String}{args:Array Value}{w:World}{R:Value->World->Prop}(h:Rows P row args w R):RowsIn Fence.wide n P row args w R:=
 λc cs _=>let ⟨v,w',r,s⟩:=h c cs;⟨v,w',r,stepsIn_wide.2 s⟩
theorem Oper.cK{o:Oper}{a:Act}{w:World}{L M K:Act->World->Prop}{l n:Nat}(H:∀c,o.op≠.defer c)(hL:∀a w,L a w->M a w)(h:o.wp P a w L (Ch K)):o.wpIn (Fence.wide.inRound l) n P a w M Q:=by
 unfold Oper.wp at h;unfold Oper.wpIn;refine⟨λ_ _=>trivial,?_⟩;rw[Oper.semAt_plain (Fence.wide.inRound l) a.eval o H];generalize (execOp a.eval o).run P w=r at *
 cases r with
 |ok x w'=>
  cases x<;>simp only[Oper.upon,Oper.uponIn]at h ⊢<;>
   first
    |exact hL _ _ h
    |exact False.elim h
    |exact⟨(λF=>by cases F),CallsIn.inRound l (iQ.2 (Calls.mono h (λe J z=>by cases e<;>first|exact hL _ _ z|exact False.elim z|exact(let ⟨_,_,h⟩:=z;False.elim h))))⟩
    |exact⟨(λF=>by cases F),(show RowsIn (Fence.wide.inRound l) _ P _ _ _ _ from Qj (Rows.mono h (λv J z=>hL _ _ z)))⟩
 |halt x w'=>cases x<;>simp only[Oper.upon,Oper.uponIn]at h ⊢<;>first|exact False.elim h
theorem Uu{i:Nat}{a:Act}{w:World}{L J K:Act->World->Prop}{l n:Nat}(z:∀(i:Nat) o c,ops[i]?=some o->o.op≠.defer c)(hL:∀a w,L a w->J a w)(h:wpOp P ops (Ch K) i L a w):wpOpIn (Fence.wide.inRound l) n P ops Q i J a w:=by
 unfold wpOp at h;unfold wpOpIn
 cases F:ops[i]? with
 |none=>rw[F]at h;exact hL _ _ h
 |some o=>
  simp only[F]at h ⊢;split at h
  ·rename_i H
   rw[dv H];rcases h with h|⟨_,_,_,M⟩
   ·exact Oper.cK (λc=>z i o c F) hL h
   ·exact False.elim M
  ·rename_i H
   rw[dk H];exact⟨λ_ _=>trivial,hL _ _ h⟩
theorem Lz{K:Act->World->Prop}{l n:Nat}(F:∀(i:Nat) o c,ops[i]?=some o->o.op≠.defer c)(H:∀a w,K a w->Q .normal a w):
  ∀(z:Nat) (listed:Array Bool) (a:Act) (w:World),wpAny P .any ops (Ch K) z listed a w->wpAnyIn (Fence.wide.inRound l) n P .any ops Q z listed a w
 |0,_,a,w,h=>⟨h.1,H a w h.2⟩
 |z+1,_,a,w,h=>⟨λJ=>H a w (h.1 J),λi M=>Uu F (λa w h=>Lz F H z _ a w h) (h.2 i M)⟩
def UG(ops:Array Oper):Bool:=ops.all λo=>match o.op with| .defer _=>false|_=>true
theorem PS{ops:Array Oper}(h:UG ops=true):∀(i:Nat) o c,ops[i]?=some o->o.op≠.defer c:=λi o c z e=>by
 have:=fy.1 h o (Array.mem_of_getElem? z);rw[e]at this;cases this
theorem Fu{id:Nat}{a:Act}{w:World}{l:List Oper}{r N:Nat}(n:Nat)(hm:P.follows .mixedOrders=true)(hB:Ax l.toArray n=true)(ah:UG l.toArray=true)
  (h:Er P l.toArray a n w (λS=>∀V W A,Below w.heap.size w W->qN n S V W->Hid (A=Ak l.toArray V n a)->wpList P l.toArray (Ch λa w=>Q .normal a w) (l.drop n) A W) (l.take n) 0 λ_ _ _=>True):
  (Code.region id l.toArray true).wpIn (Fence.wide.inRound r) N P Q a w:=by
 have F:=hB;simp only[Ax,di,dS]at F;obtain⟨⟨⟨⟨⟨hn,hs⟩,hc⟩,J⟩,hd⟩,Z⟩:=F;have aB:n<l.length:=by simpa using hn
 obtain⟨S,ak,aj,h3⟩:=Gr J (l.take n) 0 _ qp (λj hj=>by
  have:j<n:=by simp at hj;omega
  simp[this]) (λ_ _ _ _ _ _=>trivial) (λi o O=>absurd O qo) h
 refine wpIn_region_any hm (Lz (PS ah) (λ_ _ h=>h) _ _ _ _ ?_)
 have aa:HeadInv .any l.toArray n (Array.replicate l.toArray.size false):=
  ⟨qs,λj oj _ Y=>(by rw[getD_replicate_false]at Y;cases Y),λt _ ht=>getD_in (by simpa using ht) (getD_replicate_false _ _)⟩
 have ag:Below w.heap.size w {w with drawn:=w.drawn+1}:=⟨rfl,rfl,rfl,AG,λ_ _=>rfl⟩
 have z:CC n (Array.replicate l.toArray.size false)=n:=by
  unfold CC;rw[gb.2]
  ·simp
  ·intro i O
   have:i<l.toArray.size:=by have:=dH.1 O;omega
   rw[getD_in (by simpa using this) (getD_replicate_false _ _)];rfl
 obtain⟨V0,af⟩:∃V0,Ak l.toArray V0 n a=a:=⟨_,DT a n⟩
 have H:=I8 (P:=P) (Q:=Ch λa w=>Q .normal a w) (g:=l.toArray.size - n) (S:=S) (w0:=w) (a0:=a) (λlisted am i O hu t ht=>tail_waits hs hc hn am _ i rfl O hu t ht) qo J hd ak aj
  (λV W hb hS=>by
   have M:(l.drop n).length=l.toArray.size - n:=by simp
   have:=wpAny_of_seq (md:=.any) (Q':=Ch λa w=>Q .normal a w) (l.drop n) n (CF l.toArray n) _ W (λj=>by simp[ew]) (by rw[M];exact Z) (h3 V W _ hb hS rfl)
   rwa [M]at this)
  n _ V0 {w with drawn:=w.drawn+1} aa z ag (λj _ Y=>by rw[getD_replicate_false]at Y;cases Y)
 rw[af,show n+(l.toArray.size - n)=l.toArray.size by omega]at H;exact H
end
section
variable {P:Program} {ops:Array Oper} {Q:Exit->Act->World->Prop}
theorem hidOf{p:Prop}(h:p):Hid p:=h
def SteadyV(S:(Nat->Value)->World->Prop):Prop:=∀V W W',S V W->S V W'
def LastsV(S:(Nat->Value)->World->Prop):Prop:=∀V W W',S V W->Below W.heap.size W W'->S V W'
def Nh(l:List Nat)(S:(Nat->Value)->World->Prop):Prop:=∀V V' W,(∀m,l.contains m=true->V m=V' m)->S V W->S V' W
def UD(ops:Array Oper)(n:Nat)(needs:List (List Nat))(aW vary tailN:List Nat)(keeps:List (Nat × Nat))(f:Nat):Bool:=
 ((List.range n).all λi=>(DD needs i).all λj=>Region.waitsFor .any ops i j)&&
 (tailN.all λj=>decide (j<n))&&
 aW.all λi=>vary.all λj=>j==i||JE ops f j i||keeps.contains (i,j)||(!tailN.contains j&&(List.range n).all λt=>!(DD needs t).contains j||t==i||JE ops f i t)
def QG(P:Program)(ops:Array Oper)(a0:Act)(n:Nat)(w0:World)(needs:List (List Nat))(aW:List Nat)(R:Nat->World->World->Prop)(S:Nat->(Nat->Value)->World->Prop)(i:Nat)(o:Oper)(T:(Nat->Value)->Value->World->Prop):Prop:=
 ∀(V:Nat->Value) (W:World) (K:Act->World->Prop),Below w0.heap.size w0 W->(∀j,(DD needs i).contains j=true->S j V W)->
  Hid (∀v W',(if aW.contains i then R i W W'/\Below w0.heap.size W W' else Below W.heap.size W W')->T V v W'->K ((Ak ops V n a0).put o.dst v) W')->wpList P ops (Ch K) [o] (Ak ops V n a0) W
theorem L0{n g f:Nat}{S:Nat->(Nat->Value)->World->Prop}{T:Nat->(Nat->Value)->Value->World->Prop}{R:Nat->World->World->Prop}{keeps:List (Nat × Nat)}{w0:World}{a0:Act}{needs:List (List Nat)}{aW vary tailN:List Nat}
  (hw:∀listed,HeadInv .any ops n listed->∀i,i<n->listed.getD i true=false->∀t,n<=t->t∉Region.ready .any ops listed)
  (hn:n<=ops.size) (aq:GA .any ops n=true) (hd:Fc ops n=true) (ak:UD ops n needs aW vary tailN keeps f=true) (al:∀j,S j=λV W=>T j V (V j) W)
  (aN:∀j,LastsV (S j)) (aO:∀j,vary.contains j=false->SteadyV (S j)) (ax:∀j v,Nh (DD needs j) (λV W=>T j V v W)) (aH:∀i j,keeps.contains (i,j)=true->∀V W W',R i W W'->S j V W->S j V W')
  (aM:∀i o,i<n->ops[i]?=some o->QG P ops a0 n w0 needs aW R S i o (T i))
  (aa:∀V W,Below w0.heap.size w0 W->(∀j,j<n->(tailN.contains j=true\/vary.contains j=false)->S j V W)->wpAny P .any ops Q g (CF ops n) (Ak ops V n a0) W):
  ∀(m:Nat) (listed:Array Bool) (V:Nat->Value) (W:World),HeadInv .any ops n listed->CC n listed=m->Below w0.heap.size w0 W->(∀j,j<n->listed.getD j false=true->(vary.contains j=false\/needed n needs tailN listed j)->S j V W)->
   wpAny P .any ops Q (m+g) listed (Ak ops V n a0) W
 |0,listed,V,W,z,hm,hb,hS=>by
  have Y:∀i,i<n->listed.getD i true=true:=by
   intro i hi;have:=gv.1 hm i (dH.2 hi)
   simpa using this
  rw[Dp z Y,dL];refine aa V W hb λj O J=>hS j O ?_ ?_
  ·have:=Y j O
   have be:j<listed.size:=by rw[z.size];omega
   simp[be]at this ⊢;exact this
  ·rcases J with J|J
   ·exact .inr (.inl J)
   ·exact .inl J
 |m+1,listed,V,W,z,hm,hb,hS=>by
  obtain⟨u,hu,ah⟩:∃u,u<n/\listed.getD u true=false:=by
   have:0<CC n listed:=qo
   obtain⟨u,hu,ah⟩:=g9.1 this;exact⟨u,dH.1 hu,by simpa using ah⟩
  rw[show m+1+g=(m+g)+1 by omega];refine⟨λh0=>absurd h0 (Ep aq z u hu ah),λi hi=>?_⟩
  have F:i<n:=by
   rcases eW i n with h|h
   ·exact h
   ·exact absurd hi (hw listed z u hu ah i h)
  obtain⟨aS,o,ho,Y⟩:=iT.1 hi
  have hr:∀j,Region.waitsFor .any ops i j=true->listed.getD j false=true:=λj O=>by
   obtain⟨oj,ay,e,he,an,aK⟩:=Region.waitsFor_spec O;have:oj=o:=dj (ay.symm.trans ho);subst this;have hl:=Y e he an
   rwa [aK]at hl
  have bm:∀j,Region.waitsFor .any ops i j=true->j<n:=λj O=>by
   obtain⟨oj,ay,e,he,an,aK⟩:=Region.waitsFor_spec O;have h1:=dt.1 aq i (dH.2 F);rw[ay]at h1;have h2:=fy.1 h1 e he;rw[an]at h2;have h3:e.on<i:=by simpa using h2
   omega
  have hB:=ak;unfold UD at hB;rw[di,di]at hB;obtain⟨⟨a8,_⟩,a9⟩:=hB
  have H:∀t,t<n->∀j,(DD needs t).contains j=true->Region.waitsFor .any ops t j=true:=λt ht j O=>
   dt.1 (dt.1 a8 t (dH.2 ht)) j (iq.1 O)
  have Z:listed.getD i false=false:=getD_both aS;refine D8 ho (aM i o F ho V W _ hb (λj O=>?_) λv W' M bw=>?_)
  ·exact hS j (bm j (H i F j O)) (hr j (H i F j O)) (.inr (.inr ⟨i,F,O,Z⟩))
  ·have aF:o.dst=(ops[i]?).bind (·.dst):=by rw[ho];rfl
   rw[aF,ET hd F];have au:i<listed.size:=by rw[z.size];exact(AB ho).1
   have ba:Below w0.heap.size w0 W':=by
    split at M
    ·exact hb.trans M.2
    ·exact hb.trans (M.mono hb.size)
   refine L0 hw hn aq hd ak al aN aO ax aH aM aa m _ _ W' (z.set hi F) (by have:=Fd F au aS;omega) ba λj O hl J=>?_
   by_cases ag:j=i
   ·subst ag
    rw[al];simp only[upd,gu];refine ax j v V _ W' (λm hm=>?_) bw
    have bo:m≠j:=λe=>by
     subst e;have:=hr m (H m F m hm);rw[Z]at this;cases this
    simp[upd,bo]
   ·rw[gw false (Ne.symm ag)]at hl
    have bk:listed.getD j false=true:=hl
    have eV:∀W2,S j V W2->S j (upd V i v) W2:=λW2 h2=>by
     rw[al]at h2 ⊢;simp only[upd,dk ag];refine ax j (V j) V _ W2 (λm hm=>?_) h2
     have bn:m≠i:=λe=>by
      subst e;have:=FI z bk (H j O m hm);rw[Z]at this;cases this
     simp[upd,bn]
    refine eV W' ?_
    have bq:vary.contains j=false\/needed n needs tailN listed j:=by
     rcases J with J|J|⟨t,ht,aw,hf⟩
     ·exact .inl J
     ·exact .inr (.inl J)
     ·refine .inr (.inr ⟨t,ht,aw,?_⟩)
      by_cases ae:t=i
      ·rw[ae];exact Z
      ·rwa [gw false (Ne.symm ae)]at hf
    have am:=hS j O hl bq
    by_cases az:aW.contains i=true
    ·cases hv:vary.contains j with
     |false=>exact aO j hv _ _ _ am
     |true=>
      rw[dv az]at M;have hc:=dt.1 (dt.1 a9 i (iq.1 az)) j (iq.1 hv);rw[ep,ep,ep,di]at hc;rcases hc with((hc|hc)|hc)|⟨aD,bb⟩
      ·exact absurd (by simpa using hc) ag
      ·have:=Gg z f j i hl hc
       rw[Z]at this;cases this
      ·exact aH i j hc V W W' M.1 am
      ·exfalso
       rcases J with J|J|⟨t,ht,aw,hf⟩
       ·rw[hv]at J;cases J
       ·rw[J]at aD;cases aD
       ·have h3:=dt.1 bb t (dH.2 ht)
        rw[ep,ep,aw]at h3;rcases h3 with(h3|h3)|h3
        ·cases h3
        ·have:t=i:=by simpa using h3
         rw[this]at hf;simp[au]at hf
        ·have aI:=Qo z hr f t h3
         by_cases ae:t=i
         ·rw[ae]at hf
          simp[au]at hf
         ·rw[gw false (Ne.symm ae),aI]at hf
          cases hf
    ·rw[dk az]at M
     exact aN j V W W' am M
def QJ(S:Nat->(Nat->Value)->Value->World->Prop)(i:Nat)(T:(Nat->Value)->Value->World->Prop):Nat->(Nat->Value)->Value->World->Prop:=λj=>if j=i then T else S j
theorem IH(S:Nat->(Nat->Value)->Value->World->Prop)(i:Nat)(T:(Nat->Value)->Value->World->Prop):QJ S i T i=T:=by simp[QJ]
theorem II(S:Nat->(Nat->Value)->Value->World->Prop){i j:Nat}(T:(Nat->Value)->Value->World->Prop)(h:j≠i):QJ S i T j=S j:=by simp[QJ,h]
def atV(T:Nat->(Nat->Value)->Value->World->Prop):Nat->(Nat->Value)->World->Prop:=λj V W=>T j V (V j) W
def EG(P:Program)(ops:Array Oper)(a0:Act)(n:Nat)(w0:World)(needs:List (List Nat))(aW vary:List Nat)(R:Nat->World->World->Prop)(L:(Nat->(Nat->Value)->Value->World->Prop)->Prop):List Oper->Nat->(Nat->(Nat->Value)->Value->World->Prop)->Prop
 |[],_,S=>L S
 |o::rest,i,S=>∃T:(Nat->Value)->Value->World->Prop,(∀V v W W',T V v W->Below W.heap.size W W'->T V v W')/\(vary.contains i=false->∀V v W W',T V v W->T V v W')/\(∀v,Nh (DD needs i) λV W=>T V v W)/\
   QG P ops a0 n w0 needs aW R (atV S) i o T/\EG P ops a0 n w0 needs aW vary R L rest (i+1) (QJ S i T)
section
variable {a0:Act} {n:Nat} {w0:World} {needs:List (List Nat)} {aW vary:List Nat} {R:Nat->World->World->Prop} {L:(Nat->(Nat->Value)->Value->World->Prop)->Prop} {o:Oper} {rest:List Oper} {i:Nat} {S:Nat->(Nat->Value)->Value->World->Prop}
theorem FN{u:Value}(M:aW.contains i=false)
  (h:∀(V:Nat->Value) (W:World) (K:Act->World->Prop) (A:Act),Below w0.heap.size w0 W->(∀j,(DD needs i).contains j=true->S j V (V j) W)->Hid (A=Ak ops V n a0)->
   Hid (∀W',Below W.heap.size W W'->K (A.put o.dst u) W')->wpList P ops (Ch K) [o] A W)
  (J:EG P ops a0 n w0 needs aW vary R L rest (i+1) (QJ S i λ_ v _=>v=u)):EG P ops a0 n w0 needs aW vary R L (o::rest) i S:=
 ⟨λ_ v _=>v=u,λ_ _ _ _ h _=>h,λ_ _ _ _ _ h=>h,λ_ _ _ _ _ h=>h,λV W K hb H F=>h V W K _ hb H rfl λW' z=>F.ab u W' (by rw[M];exact z) rfl,J⟩
theorem De(T:Value->World->Prop)(H:Ni T)(O:aW.contains i=false)(hv:vary.contains i=true)
  (h:∀(V:Nat->Value) (W:World) (K:Act->World->Prop) (A:Act),Below w0.heap.size w0 W->(∀j,(DD needs i).contains j=true->S j V (V j) W)->Hid (A=Ak ops V n a0)->
   Hid (∀v W',Below W.heap.size W W'->T v W'->K (A.put o.dst v) W')->wpList P ops (Ch K) [o] A W)
  (M:EG P ops a0 n w0 needs aW vary R L rest (i+1) (QJ S i λ_=>T)):EG P ops a0 n w0 needs aW vary R L (o::rest) i S:=
 ⟨λ_=>T,λ_ v W W'=>H v W W',λh=>(by rw[hv]at h;cases h),λ_ _ _ _ _ h=>h,λV W K hb J F=>h V W K _ hb J rfl λv W' z=>F.ab v W' (by rw[O];exact z),M⟩
theorem Mg(T:(Nat->Value)->Value->World->Prop)(M:∀V v W W',T V v W->Below W.heap.size W W'->T V v W')(J:∀v,Nh (DD needs i) λV W=>T V v W)(Y:aW.contains i=true)(hv:vary.contains i=true)
  (h:∀(V:Nat->Value) (W:World) (K:Act->World->Prop) (A:Act),Below w0.heap.size w0 W->(∀j,(DD needs i).contains j=true->S j V (V j) W)->Hid (A=Ak ops V n a0)->
   Hid (∀v W',R i W W'->Below w0.heap.size W W'->T V v W'->K (A.put o.dst v) W')->wpList P ops (Ch K) [o] A W)
  (F:EG P ops a0 n w0 needs aW vary R L rest (i+1) (QJ S i T)):EG P ops a0 n w0 needs aW vary R L (o::rest) i S:=
 ⟨T,M,λh=>(by rw[hv]at h;cases h),J,λV W K hb O H=>h V W K _ hb O rfl λv W' F z=>H.ab v W' (by rw[Y];exact⟨F,z⟩),F⟩
end
theorem Jo{a0:Act}{n:Nat}{w0:World}{needs:List (List Nat)}{aW vary:List Nat}{R:Nat->World->World->Prop}{L:(Nat->(Nat->Value)->Value->World->Prop)->Prop}(J:∀i,i<n->∀j,(DD needs i).contains j=true->j<i):∀(l:List Oper) (k:Nat) (S:Nat->(Nat->Value)->Value->World->Prop),k+l.length=n->(∀j,j<l.length->l[j]?=ops[k+j]?)->
  (∀j V v W W',S j V v W->Below W.heap.size W W'->S j V v W')->(∀j,j<k->vary.contains j=false->∀V v W W',S j V v W->S j V v W')->(∀j v,Nh (DD needs j) λV W=>S j V v W)->(∀i o,i<k->ops[i]?=some o->QG P ops a0 n w0 needs aW R (atV S) i o (S i))->EG P ops a0 n w0 needs aW vary R L l k S->
  ∃F,(∀j V v W W',F j V v W->Below W.heap.size W W'->F j V v W')/\(∀j,j<n->vary.contains j=false->∀V v W W',F j V v W->F j V v W')/\(∀j v,Nh (DD needs j) λV W=>F j V v W)/\(∀i o,i<n->ops[i]?=some o->QG P ops a0 n w0 needs aW R (atV F) i o (F i))/\L F
 |[],k,S,hk,_,hl,Y,M,z,h=>by
  have e:n=k:=by simpa using hk.symm
  rw[e];rw[e]at z;exact⟨S,hl,Y,M,z,h⟩
 |o::l,k,S,hk,Y,hl,aj,M,z,⟨T,hT,ae,aa,ho,h⟩=>by
  have h0:ops[k]?=some o:=by simpa using (Y 0 qs).symm
  have ag:k<n:=by simp only[dM]at hk;omega
  refine Jo J l (k+1) _ (by simp only[dM]at hk;omega) (λj H=>by have:=Y (j+1) qp;simpa [eG,iI 1 j] using this) (λj=>?_) (λj H hv=>?_) (λj=>?_) (λi o' hi O=>?_) h
  ·by_cases e:j=k
   ·subst e;rw[IH];exact hT
   ·rw[II _ _ e];exact hl j
  ·by_cases e:j=k
   ·subst e;rw[IH];exact ae hv
   ·rw[II _ _ e];exact aj j qo hv
  ·by_cases e:j=k
   ·subst e;rw[IH];exact aa
   ·rw[II _ _ e];exact M j
  ·by_cases e:i=k
   ·subst e
    have:o'=o:=dj (O.symm.trans h0);subst this;rw[IH];exact λV W K hb hd Z=>ho V W K hb (λj H=>by have:=hd j H;unfold atV at this ⊢;rwa [II _ _ (by have:=J i ag j H;omega)]at this) Z
   ·rw[II _ _ e]
    exact λV W K hb hd Z=>z i o' qo O V W K hb (λj H=>by have:=hd j H;unfold atV at this ⊢;rwa [II _ _ (by have:=J i qo j H;omega)]at this) Z
theorem Gw{id:Nat}{a:Act}{w:World}{l:List Oper}(n f:Nat)(needs:List (List Nat))(aW vary tailN:List Nat)(keeps:List (Nat × Nat))(R:Nat->World->World->Prop)(hm:P.follows .mixedOrders=true)(hB:Ax l.toArray n=true)(hO:UD l.toArray n needs aW vary tailN keeps f=true)
  (h:EG P l.toArray a n w needs aW vary R (λS=>(∀i j,keeps.contains (i,j)=true->∀V v W W',R i W W'->S j V v W->S j V v W')/\∀V W A,Below w.heap.size w W->(∀j,j<n->(tailN.contains j=true\/vary.contains j=false)->S j V (V j) W)->Hid (A=Ak l.toArray V n a)->wpList P l.toArray Q (l.drop n) A W) (l.take n) 0 λ_ _ _ _=>True):(Code.region id l.toArray true).wp P Q a w:=by
 have ae:=hB;simp only[Ax,di,dS]at ae;obtain⟨⟨⟨⟨⟨hn,hs⟩,hc⟩,af⟩,hd⟩,ak⟩:=ae;have a8:n<l.length:=by simpa using hn
 have Y:=hO;unfold UD at Y;rw[di,di]at Y
 have aj:∀i,i<n->∀j,(DD needs i).contains j=true->j<i:=λi M j z=>by
  have hw:=dt.1 (dt.1 Y.1.1 i (dH.2 M)) j (iq.1 z);obtain⟨oj,aD,e,he,az,ba⟩:=Region.waitsFor_spec hw;have h1:=dt.1 af i (dH.2 M);rw[aD]at h1;have h2:=fy.1 h1 e he;rw[az]at h2;have h3:e.on<i:=by simpa using h2
  omega
 obtain⟨S0,h1,h2,aC,h3,aB,h4⟩:=Jo aj (l.take n) 0 _ qp (λj z=>by
  have:j<n:=by simp at z;omega
  simp[this]) (λ_ _ _ _ _ _ _=>trivial) (λj z=>absurd z qo) (λ_ _ _ _ _ _ h=>h) (λi o M=>absurd M qo) h
 obtain⟨S,hS⟩:∃S:Nat->(Nat->Value)->Value->World->Prop,S=λj=>if j<n then S0 j else λ_ _ _=>True:=⟨_,rfl⟩
 have J:∀j,j<n->S j=S0 j:=λj z=>by rw[hS];simp[z]
 have O:∀j,¬j<n->S j=λ_ _ _=>True:=λj z=>by rw[hS];simp[z]
 refine iC hm ?_
 have al:HeadInv .any l.toArray n (Array.replicate l.toArray.size false):=
  ⟨qs,λj oj _ hl=>(by rw[getD_replicate_false]at hl;cases hl),λt _ ht=>getD_in (by simpa using ht) (getD_replicate_false _ _)⟩
 have ay:Below w.heap.size w {w with drawn:=w.drawn+1}:=⟨rfl,rfl,rfl,AG,λ_ _=>rfl⟩
 have Z:CC n (Array.replicate l.toArray.size false)=n:=by
  unfold CC;rw[gb.2]
  ·simp
  ·intro i M
   have:i<l.toArray.size:=by have:=dH.1 M;omega
   rw[getD_in (by simpa using this) (getD_replicate_false _ _)];rfl
 obtain⟨V0,aw⟩:∃V0,Ak l.toArray V0 n a=a:=⟨_,DT a n⟩
 have H:=L0 (P:=P) (Q:=Q) (g:=l.toArray.size - n) (f:=f) (S:=atV S) (T:=S) (R:=R) (keeps:=keeps) (w0:=w) (a0:=a) (needs:=needs) (aW:=aW) (vary:=vary) (tailN:=tailN) (λlisted aG i M hu t ht=>tail_waits hs hc hn aG _ i rfl M hu t ht) qo af hd hO (λj=>rfl)
  (λj V W W' F hb=>by
   unfold atV at F ⊢
   by_cases z:j<n
   ·rw[J j z]at F ⊢;exact h1 j V _ W W' F hb
   ·rw[O j z];trivial)
  (λj hv V W W' F=>by
   unfold atV at F ⊢
   by_cases z:j<n
   ·rw[J j z]at F ⊢;exact h2 j z hv V _ W W' F
   ·rw[O j z];trivial)
  (λj v V V' W ax F=>by
   by_cases z:j<n
   ·simp only[J j z]at F ⊢;exact aC j v V V' W ax F
   ·simp only[O j z])
  (λi j hk V W W' hr F=>by
   unfold atV at F ⊢
   by_cases z:j<n
   ·rw[J j z]at F ⊢;exact aB i j hk V _ W W' hr F
   ·rw[O j z];trivial)
  (λi o M ho=>by
   rw[J i M]
   exact λV W K hb aA hK=>h3 i o M ho V W K hb (λj z=>by have h':=aA j z;unfold atV at h' ⊢;rwa [J j (by have:=aj i M j z;omega)]at h') hK)
  (λV W hb au=>by
   have ag:(l.drop n).length=l.toArray.size - n:=by simp
   have:=wpAny_of_seq (md:=.any) (Q':=Q) (l.drop n) n (CF l.toArray n) _ W (λj=>by simp[ew]) (by rw[ag];exact ak) (h4 V W _ hb (λj z F=>by have h':=au j z F;unfold atV at h';rwa [J j z]at h') rfl)
   rwa [ag]at this)
  n _ V0 {w with drawn:=w.drawn+1} al Z ay (λj _ hl=>by rw[getD_replicate_false]at hl;cases hl)
 rw[aw,show n+(l.toArray.size - n)=l.toArray.size by omega]at H;exact H
end
section
variable {P:Program} {Q:Exit->Act->World->Prop}
def everyB(ops:Array Oper):Bool:=GA .any ops ops.size&&Fc ops ops.size
theorem E8{id:Nat}{a:Act}{w:World}{l:List Oper}(n:Nat)(hn:l.length=n)(p:Nat)(Inv Inv0:World->Prop)(R:Nat->World->World->Prop)(hm:P.follows .mixedOrders=true)(hB:everyB l.toArray=true)
  (aa:Inv {w with drawn:=w.drawn+1}) (ae:Inv0 {w with drawn:=w.drawn+1}) (hI:∀i W W',Inv W->R i W W'->Inv W') (Z:∀i W W',i≠p->Inv0 W->R i W W'->Inv0 W')
  (h:DK P l.toArray a n Inv p Inv0 R (λS=>∀V W A,Inv W->qN n S V W->Hid (A=Ak l.toArray V n a)->wpList P l.toArray Q [] A W) l 0 λ_ _ _=>True):(Code.region id l.toArray true).wp P Q a w:=by
 subst hn;simp only[everyB,di,er]at hB;obtain⟨F,hd⟩:=hB;obtain⟨S,h1,h2,h3⟩:=Dq F l 0 _ qs (λj hj=>qs) (λ_ _ _ _ _ _ _ _=>trivial) (λi o hi=>absurd hi qo) h;refine iC hm ?_
 have O:HeadInv .any l.toArray l.length (Array.replicate l.toArray.size false):=
  ⟨qs,λj oj _ J=>(by rw[getD_replicate_false]at J;cases J),λt _ Y=>getD_in (by simpa using Y) (getD_replicate_false _ _)⟩
 have z:CC l.length (Array.replicate l.toArray.size false)=l.length:=by
  unfold CC;rw[gb.2]
  ·simp
  ·intro i hi
   have:i<l.toArray.size:=by have:=dH.1 hi;simpa using this
   rw[getD_in (by simpa using this) (getD_replicate_false _ _)];rfl
 have H:=Hc (P:=P) (Q:=Q) (g:=0) (S:=S) (Inv:=Inv) (Inv0:=Inv0) (p:=p) (R:=R) (a0:=a)
  (λlisted _ i _ _ t Y hr=>by
   obtain⟨_,o,ho,_⟩:=iT.1 hr;have:=(AB ho).1;simp at this
   omega) qs F hd hI Z h1 h2
  (λV W hb hS=>by
   unfold wpAny;refine⟨List.eq_nil_iff_forall_not_mem.2 λt Y=>?_,h3 V W _ hb hS rfl⟩;obtain⟨hu,o,ho,_⟩:=iT.1 Y;have M:=(AB ho).1;simp at M;rw[show(CF l.toArray l.length).getD t true=true by simp[CF,M]]at hu
   cases hu)
  l.length _ (λj=>match (l.toArray[j]?).bind (·.dst) with|some d=>a.tmps.getD d undef|none=>undef) {w with drawn:=w.drawn+1} O z aa (λ_=>ae) (λj _ J=>by rw[getD_replicate_false]at J;cases J)
 have e:Ak l.toArray (λj=>match (l.toArray[j]?).bind (·.dst) with|some d=>a.tmps.getD d undef|none=>undef) l.length a=a:=DT a l.length;rw[e,gp]at H
 simpa using H
end
end
end Go.Proofs.YtbceafpodamnfaaGreatDoor
