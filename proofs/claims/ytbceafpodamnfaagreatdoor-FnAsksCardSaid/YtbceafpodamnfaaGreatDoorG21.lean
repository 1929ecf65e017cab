import Derived.Test.YtbceafpodamnfaaGreatDoorG09
import Derived.Test.YtbceafpodamnfaaGreatDoorG16
import Derived.Deep.DeepCutAuto
set_option linter.all false
set_option maxHeartbeats 4000000
set_option maxRecDepth 100000
namespace Go.Proofs.YtbceafpodamnfaaGreatDoor
section
open Go.RowKit
section
variable {P:Program} {ops:Array Oper} {Q:Exit->Act->World->Prop} {r c n:Nat} {q:Int} {w0:World} {a0:Act} {S:Nat->Value->World->Prop}
def RIn(r c n:Nat)(q:Int)(w0:World)(m:Nat)(W:World):Prop:=Past r w0.heap.size w0 W/\Rd r W (q+((n - m)*c:Nat))
def RStep(r c:Nat)(W W':World):Prop:=Past r W.heap.size W W'/\∀q,Rd r W q->Rd r W' (q+c)
theorem RStep.of{W W':World}(h:Below W.heap.size W W'):RStep r c W W':=⟨.of h,λ_ z=>(z.below h).mono qo⟩
theorem RStep.re(W:World):RStep r c W W:=.of (dG _ _)
def SB(P:Program)(ops:Array Oper)(r c n:Nat)(q:Int)(w0:World)(a0:Act)(S:Nat->Value->World->Prop)(i:Nat)(o:Oper)(T:Value->World->Prop):Prop:=
 ∀(V:Nat->Value) (W:World) (K:Act->World->Prop),Past r w0.heap.size w0 W->Rd r W (q+(n*c:Nat))->(∀j,Region.waitsFor .any ops i j=true->S j (V j) W)->
  Hid (∀v W',RStep r c W W'->T v W'->K ((Ak ops V n a0).put o.dst v) W')->wpList P ops (Ch K) [o] (Ak ops V n a0) W
def JV(r c:Nat)(T:Value->World->Prop):Prop:=∀v W W',T v W->RStep r c W W'->(∃q,Rd r W q)->T v W'
theorem rin_step{m:Nat}{W W':World}(F:m<n)(h:RIn r c n q w0 (m+1) W)(z:RStep r c W W'):RIn r c n q w0 m W':=by
 refine⟨h.1.next AG z.1,(z.2 _ h.2).mono ?_⟩;have:(n - m)*c=(n - (m+1))*c+c:=by rw[show n - m=n - (m+1)+1 by omega,fz,Nat.one_mul]
 omega
theorem T6{m:Nat}{W:World}(h:RIn r c n q w0 m W):Rd r W (q+(n*c:Nat)):=h.2.mono (by
 have:=em c (Nat.sub_le n m)
 omega)
theorem QH{g:Nat}
  (hw:∀listed,HeadInv .any ops n listed->∀i,i<n->listed.getD i true=false->∀t,n<=t->t∉Region.ready .any ops listed)
  (hn:n<=ops.size) (O:GA .any ops n=true) (hd:Fc ops n=true)
  (al:∀j,JV r c (S j))
  (ak:∀i o,i<n->ops[i]?=some o->SB P ops r c n q w0 a0 S i o (S i))
  (J:∀V W,RIn r c n q w0 0 W->(∀j,j<n->S j (V j) W)->wpAny P .any ops Q g (CF ops n) (Ak ops V n a0) W):
  ∀(m:Nat) (listed:Array Bool) (V:Nat->Value) (W:World),HeadInv .any ops n listed->CC n listed=m->RIn r c n q w0 m W->(∀j,j<n->listed.getD j false=true->S j (V j) W)->
   wpAny P .any ops Q (m+g) listed (Ak ops V n a0) W
 |0,listed,V,W,z,hm,hb,hS=>by
  have F:∀i,i<n->listed.getD i true=true:=by
   intro i hi;have:=gv.1 hm i (dH.2 hi)
   simpa using this
  rw[Dp z F,dL];refine J V W hb λj Z=>hS j Z ?_
  have:=F j Z;have au:j<listed.size:=by rw[z.size];omega
  simp[au]at this ⊢;exact this
 |m+1,listed,V,W,z,hm,hb,hS=>by
  obtain⟨u,hu,M⟩:∃u,u<n/\listed.getD u true=false:=by
   have:0<CC n listed:=qo
   obtain⟨u,hu,M⟩:=g9.1 this;exact⟨u,dH.1 hu,by simpa using M⟩
  have ax:m<n:=by
   have:CC n listed<=(List.range n).length:=List.countP_le_length;rw[List.length_range]at this;omega
  rw[show m+1+g=(m+g)+1 by omega];refine⟨λh0=>absurd h0 (Ep O z u hu M),λi hi=>?_⟩
  have H:i<n:=by
   rcases eW i n with h|h
   ·exact h
   ·exact absurd hi (hw listed z u hu M i h)
  obtain⟨aB,o,ho,F⟩:=iT.1 hi;refine D8 ho (ak i o H ho V W _ hb.1 (T6 hb) (λj Z=>?_) λv W' ae aA=>?_)
  ·obtain⟨oj,ay,e,he,af,az⟩:=Region.waitsFor_spec Z
   have:oj=o:=dj (ay.symm.trans ho);subst this;have hl:=F e he af;rw[az]at hl
   have aw:j<n:=by
    have h1:=dt.1 O i (dH.2 H);rw[ho]at h1;have h2:=fy.1 h1 e he;rw[af]at h2;have h3:e.on<i:=by simpa using h2
    omega
   exact hS j aw hl
  ·have ag:o.dst=(ops[i]?).bind (·.dst):=by rw[ho];rfl
   rw[ag,ET hd H];have aq:i<listed.size:=by rw[z.size];exact(AB ho).1
   refine QH hw hn O hd al ak J m _ _ W' (z.set hi H) (by have:=Fd H aq aB;omega) (rin_step ax hb ae) λj Z hl=>?_
   by_cases Y:j=i
   ·subst Y
    simpa [upd] using aA
   ·rw[gw false (Ne.symm Y)]at hl
    have:=al j (V j) W W' (hS j Z hl) ae ⟨_,hb.2⟩
    simpa [upd,Y] using this
theorem Ow{id:Nat}{a:Act}{w:World}{l:List Oper}(n:Nat)(S:Nat->Value->World->Prop)(hm:P.follows .mixedOrders=true)(hB:Ax l.toArray n=true)(hr:Rd r w q)
  (ag:∀j,JV r c (S j)) (af:∀i o,i<n->l.toArray[i]?=some o->SB P l.toArray r c n q w a S i o (S i))
  (z:∀V W,Past r w.heap.size w W->Rd r W (q+(n*c:Nat))->(∀j,j<n->S j (V j) W)->wpList P l.toArray Q (l.drop n) (Ak l.toArray V n a) W):(Code.region id l.toArray true).wp P Q a w:=by
 simp only[Ax,di,dS]at hB;obtain⟨⟨⟨⟨⟨hn,hs⟩,hc⟩,aa⟩,hd⟩,Y⟩:=hB;refine iC hm ?_
 have Z:HeadInv .any l.toArray n (Array.replicate l.toArray.size false):=
  ⟨qs,λj oj _ O=>(by rw[getD_replicate_false]at O;cases O),λt _ ht=>getD_in (by simpa using ht) (getD_replicate_false _ _)⟩
 have J:Below w.heap.size w {w with drawn:=w.drawn+1}:=⟨rfl,rfl,rfl,AG,λ_ _=>rfl⟩
 have F:CC n (Array.replicate l.toArray.size false)=n:=by
  unfold CC;rw[gb.2]
  ·simp
  ·intro i hi
   have:i<l.toArray.size:=by have:=dH.1 hi;omega
   rw[getD_in (by simpa using this) (getD_replicate_false _ _)];rfl
 have H:=QH (P:=P) (Q:=Q) (g:=l.toArray.size - n) (S:=S) (w0:=w) (a0:=a) (r:=r) (c:=c) (q:=q) (λlisted aj i hi hu t ht=>tail_waits hs hc hn aj _ i rfl hi hu t ht) qo aa hd ag af
  (λV W hb hS=>by
   have M:(l.drop n).length=l.toArray.size - n:=by simp
   have:=wpAny_of_seq (md:=.any) (Q':=Q) (l.drop n) n (CF l.toArray n) _ W (λj=>by simp[ew]) (by rw[M];exact Y) (z V W hb.1 (T6 hb) hS)
   rwa [M]at this)
  n _ (λj=>match (l.toArray[j]?).bind (·.dst) with|some d=>a.tmps.getD d undef|none=>undef) {w with drawn:=w.drawn+1} Z F ⟨.of J,(hr.below J).mono qo⟩ (λj _ O=>by rw[getD_replicate_false]at O;cases O)
 have e:Ak l.toArray (λj=>match (l.toArray[j]?).bind (·.dst) with|some d=>a.tmps.getD d undef|none=>undef) n a=a:=DT a n;rw[e,show n+(l.toArray.size - n)=l.toArray.size by omega]at H;exact H
def JF(P:Program)(ops:Array Oper)(r c n:Nat)(q:Int)(w0:World)(a0:Act)(L:(Nat->Value->World->Prop)->Prop):List Oper->Nat->(Nat->Value->World->Prop)->Prop
 |[],_,S=>L S
 |o::rest,i,S=>∃T,JV r c T/\SB P ops r c n q w0 a0 S i o T/\JF P ops r c n q w0 a0 L rest (i+1) (KZ S i T)
theorem MU{L:(Nat->Value->World->Prop)->Prop}{o:Oper}{rest:List Oper}{i:Nat}(T:Value->World->Prop)(F:JV r c T)
  (h:∀(V:Nat->Value) (W:World) (K:Act->World->Prop) (A:Act),Past r w0.heap.size w0 W->Rd r W (q+(n*c:Nat))->qW ops S V W i->Hid (A=Ak ops V n a0)->
   Hid (∀v W',RStep r c W W'->T v W'->K (A.put o.dst v) W')->wpList P ops (Ch K) [o] A W)
  (M:JF P ops r c n q w0 a0 L rest (i+1) (KZ S i T)):JF P ops r c n q w0 a0 L (o::rest) i S:=⟨T,F,λV W K hb J H z=>h V W K _ hb J H rfl z,M⟩
theorem T8{L:(Nat->Value->World->Prop)->Prop}{o:Oper}{rest:List Oper}{i:Nat}{u:Value}
  (h:∀(V:Nat->Value) (W:World) (K:Act->World->Prop) (A:Act),Past r w0.heap.size w0 W->Rd r W (q+(n*c:Nat))->qW ops S V W i->Hid (A=Ak ops V n a0)->
   Hid (∀W',RStep r c W W'->K (A.put o.dst u) W')->wpList P ops (Ch K) [o] A W)
  (M:JF P ops r c n q w0 a0 L rest (i+1) (KZ S i λv _=>v=u)):JF P ops r c n q w0 a0 L (o::rest) i S:=
 ⟨λv _=>v=u,λ_ _ _ h _ _=>h,λV W K hb J H F=>h V W K _ hb J H rfl λW' z=>F.ab u W' z rfl,M⟩
theorem MV{L:(Nat->Value->World->Prop)->Prop}(J:GA .any ops n=true):∀(l:List Oper) (k:Nat) (S:Nat->Value->World->Prop),k+l.length=n->(∀j,j<l.length->l[j]?=ops[k+j]?)->
  (∀j,JV r c (S j))->(∀i o,i<k->ops[i]?=some o->SB P ops r c n q w0 a0 S i o (S i))->JF P ops r c n q w0 a0 L l k S->
  ∃O,(∀j,JV r c (O j))/\(∀i o,i<n->ops[i]?=some o->SB P ops r c n q w0 a0 O i o (O i))/\L O
 |[],k,S,hk,_,hl,z,h=>⟨S,hl,by rw[show n=k by simpa using hk.symm];rw[show n=k by simpa using hk.symm]at z;exact z,h⟩
 |o::l,k,S,hk,hs,hl,z,⟨T,hT,ho,h⟩=>by
  have h0:ops[k]?=some o:=by simpa using (hs 0 qs).symm
  have H:∀i j,i<n->Region.waitsFor .any ops i j=true->j<i:=λi j hi F=>by
   obtain⟨oj,ag,e,he,Z,ay⟩:=Region.waitsFor_spec F;have h1:=dt.1 J i (dH.2 hi);rw[ag]at h1;have h2:=fy.1 h1 e he;rw[Z]at h2;have h3:e.on<i:=by simpa using h2
   omega
  have ae:k<n:=by simp only[dM]at hk;omega
  refine MV J l (k+1) _ (by simp only[dM]at hk;omega) (λj F=>by have:=hs (j+1) qp;simpa [eG,iI 1 j] using this) (λj=>?_) (λi o' hi M=>?_) h
  ·by_cases e:j=k
   ·subst e;rw[FR];exact hT
   ·rw[Dt _ _ e];exact hl j
  ·by_cases e:i=k
   ·subst e
    have:o'=o:=dj (M.symm.trans h0);subst this;rw[FR];exact λV W K hb hq hd Y=>ho V W K hb hq (λj F=>by have:=hd j F;rwa [Dt _ _ (by have:=H i j ae F;omega)]at this) Y
   ·rw[Dt _ _ e]
    exact λV W K hb hq hd Y=>z i o' qo M V W K hb hq (λj F=>by have:=hd j F;rwa [Dt _ _ (by have:=H i j qo F;omega)]at this) Y
theorem LY{id:Nat}{a:Act}{w:World}{l:List Oper}(n r c:Nat)(q:Int)(hm:P.follows .mixedOrders=true)(H:Ax l.toArray n=true)(hr:Rd r w q)
  (h:JF P l.toArray r c n q w a (λS=>∀V W A,Past r w.heap.size w W->Rd r W (q+(n*c:Nat))->qN n S V W->Hid (A=Ak l.toArray V n a)->wpList P l.toArray Q (l.drop n) A W) (l.take n) 0 λ_ _ _=>True):(Code.region id l.toArray true).wp P Q a w:=by
 have z:=H;simp only[Ax,di,dS]at z;obtain⟨⟨⟨⟨⟨hn,_⟩,_⟩,F⟩,_⟩,_⟩:=z;have ag:n<l.length:=by simpa using hn
 obtain⟨S,J,M,O⟩:=MV F (l.take n) 0 _ qp (λj hj=>by
  have:j<n:=by simp at hj;omega
  simp[this]) (λ_ _ _ _ _ _ _=>trivial) (λi o Z=>absurd Z qo) h
 exact Ow n S hm H hr J M λV W hb hq Y=>O V W _ hb hq Y rfl
end
section
variable {P:Program} {Q:Exit->Act->World->Prop}
theorem HU{id:Nat}{a:Act}{w:World}{l:List Oper}(n q c:Nat)(RP:World->World->Prop)(Inv:World->Prop)(Z:Value->World->Prop)(O:(Nat->Value)->World->Prop)(o:Oper)(hm:P.follows .mixedOrders=true)(hB:Ax l.toArray (n+1)=true)
  (ho:l.toArray[n]?=some o) (aG:o.dst=none) (hw:((List.range n).all λi=>Nat.beq i q||Region.waitsFor .any l.toArray n i)=true) (hc:c<n/\c≠q)
  (aC:Inv w) (al:∀W W',Inv W->Below W.heap.size W W'->Inv W') (aB:∀W W',Inv W->RP W W'->Inv W') (hZ:∀v W W',Z v W->Below W.heap.size W W'->Z v W')
  (hP:∀(V:Nat->Value) (W:World) (K:Act->World->Prop) (A:Act),Inv W->O V W->Hid (A=Ak l.toArray V (n+1) a)->Hid (∀W',RP W W'->Z (V c) W'->K A W')->wpList P l.toArray (Ch K) [o] A W)
  (h:(∀(V:Nat->Value) (W:World) (K:Act->World->Prop) (A:Act),Inv W->O V W->Hid (A=Ak l.toArray V (n+1) a)->Hid (∀W',RP W W'->Z (V c) W'->K A W')->wpList P l.toArray (Ch K) [o] A W)->DK P l.toArray a (n+1) Inv n (λ_=>True) (Lg n RP) (λS=>(∀V W,(∀j,j<n->j≠q->S j (V j) W)->O V W)/\∀V W A,Inv W->(∀j,j<n->S j (V j) W)->Z (V c) W->Hid (A=Ak l.toArray V (n+1) a)->wpList P l.toArray Q (l.drop (n+1)) A W) (l.take (n+1)) 0 λ_ _ _=>True):(Code.region id l.toArray true).wp P Q a w:=by
 have ak:=hB;simp only[Ax,di,dS]at ak;obtain⟨⟨⟨⟨⟨hn,_⟩,_⟩,an⟩,hd⟩,_⟩:=ak;have be:n+1<l.length:=by simpa using hn
 have H:∀i,i<n->i≠q->Region.waitsFor .any l.toArray n i=true:=λi hi hq=>by
  have:=dt.1 hw i (dH.2 hi);rcases fh.1 this with h|h
  ·exact absurd (dh h) hq
  ·exact h
 obtain⟨S,h1,h2,h3,h4⟩:=Dq an (l.take (n+1)) 0 _ qp (λj F=>by
  have:j<n+1:=by simp at F;omega
  simp[this]) (λ_ _ _ _ _ _ _ _=>trivial) (λi o hi=>absurd hi qo) (h hP)
 refine Ha (n+1) (λlisted A W=>∃V,A=Ak l.toArray V (n+1) a/\Inv W/\(∀j,j<n->listed.getD j false=true->S j (V j) W)/\(listed.getD n false=true->Z (V c) W)) hm hB ⟨_,(DT a (n+1)).symm,al _ _ aC ⟨rfl,rfl,rfl,AG,λ_ _=>rfl⟩,(λj _ z=>by rw[getD_replicate_false]at z;cases z),(λz=>by rw[getD_replicate_false]at z;cases z)⟩ ?_ ?_
 ·rintro listed _ W i oi aM ⟨V,rfl,hW,hS,hz⟩ hi M aJ ax K hK
  have aw:=getD_both aJ
  have aA:∀j,Region.waitsFor .any l.toArray i j=true->j<i:=λj F=>by
   obtain⟨oj,af,e,he,Y,au⟩:=Region.waitsFor_spec F;have h1:=dt.1 an i (dH.2 hi);rw[af]at h1;have h2:=fy.1 h1 e he;rw[Y]at h2;have h3:e.on<i:=by simpa using h2
   omega
  by_cases ae:i=n
  ·subst ae
   rw[ho]at M;cases M;refine hP V W K _ hW (h3 V W λj F hq=>hS j F (ax j (H j F hq))) rfl λW' hR aD=>?_
   have:=hK undef W';rw[aG]at this;exact this ⟨V,rfl,aB _ _ hW hR,λj F z=>h1 j i qo _ _ _ (hS j F (by rwa [gw false qo]at z)) (by unfold Lg;rw[show Nat.beq i i=true from Nat.beq_refl i];exact hR),λ_=>aD⟩
  ·have a5:i<n:=qo
   refine h2 i oi hi M V W K hW (λ_=>trivial) (λj F=>hS j (by have:=aA j F;omega) (ax j F)) λv W' hR hs=>?_
   have aq:oi.dst=(l.toArray[i]?).bind (·.dst):=by rw[M];rfl
   have hb:=ES ae hR;refine hK v W' ⟨upd V i v,by rw[aq,ET hd hi],al _ _ hW hb,λj F z=>?_,λz=>?_⟩
   ·by_cases J:j=i
    ·subst J
     simpa [upd] using hs
    ·rw[gw false (Ne.symm J)]at z
     have:=h1 j i (Ne.symm J) (V j) W W' (hS j F z) hR
     simpa [upd,J] using this
   ·rw[gw false ae]at z
    have aF:c≠i:=λe=>by
     subst e;obtain⟨oj,af,e,he,Y,au⟩:=Region.waitsFor_spec (H c hc.1 hc.2);have:=aM.closed n oj af z e he Y;rw[au]at this;rw[aw]at this;cases this
    have:=hZ _ _ _ (hz z) hb
    simpa [upd,aF] using this
 ·rintro _ W ⟨V,rfl,hW,hS,hz⟩
  have z:n<l.length:=qo
  refine h4 V W _ hW (λj F=>hS j F ?_) (hz ?_) rfl
  ·simp[CF,show j<l.length by omega,show j<n+1 by omega]
  ·simp[CF,z]
end
end
section
open Go.RowKit Go.Sort
open Go.Value renaming int->In,slice->Sl,string->Sg,bool->Bo,pointer->Po
open Go.IntKind renaming i64->i6
theorem bits_xor{x y:Int}(hx:0<=x)(J:x<1125899906842624)(M:0<=y)(O:y<1125899906842624):0<=bits .xor .i64 x y/\bits .xor .i64 x y<1125899906842624:=by
 obtain⟨a,rfl⟩:=gK hx;obtain⟨b,rfl⟩:=gK M;have F:a<2 ^ 50:=qo
 have hb:b<2 ^ 50:=qo
 have H:=Nat.xor_lt_two_pow F hb
 have e:(BitVec.ofInt 64 (a:Int) ^^^ BitVec.ofInt 64 (b:Int)).toNat=a ^^^ b:=by
  rw[BitVec.toNat_xor,BitVec.ofInt_natCast,BitVec.ofInt_natCast,BitVec.toNat_ofNat,BitVec.toNat_ofNat,Nat.mod_eq_of_lt qo,Nat.mod_eq_of_lt qo]
 have z:bits .xor .i64 a b=IntKind.wrap .i64 ((a ^^^ b:Nat):Int):=by
  show IntKind.wrap .i64 ((BitVec.ofInt 64 (a:Int) ^^^ BitVec.ofInt 64 (b:Int)).toNat:Int)=_;rw[e]
 rw[z];generalize a ^^^ b=c at H;have:IntKind.wrap .i64 (c:Int)=c:=by simp only[IntKind.wrap,IntKind.signed,IntKind.bits,gY];split<;>(rename_i h;simp at h;omega)
 rw[this];omega
theorem VH{r:Nat}{w w':World}{ao:qO}{n cap:Nat}{p:Int}(h:qBl w r #[Sl ao n cap,In i6 p] 139)(O:qBl w' r #[Sl ao n cap,In i6 (p+1)] 139)(F:BH r w w'):RStep r 1 w w':=by
 have J:Past r w.heap.size w w':=⟨F.below.os,F.below.tape,F.below.output,F.below.size,λk _ Z=>F.aL k Z⟩;refine⟨J,?_⟩;rintro q ⟨M,n',H,p',z,h2,h3,W,Y⟩;rw[h]at z;injection z with z
 injection z with z
 injection z with z
 injection z with hs z
 injection z with z
 injection hs with e1 e2 e3
 injection z with _ e4
 subst e1 e2 e3 e4;exact⟨_,_,_,_,O,qo,qo,W,Y.aX J⟩
theorem I1:(Tryz.prog.info? 3).map (·.size)=some 1:=qk
def GL(m k:Int):Prop:=0<=k/\(1<=m->k<m)/\(m<1->k=0)
theorem Ma{m x:Int}(z:1<=m):GL m (x%m):=⟨Int.emod_nonneg _ qo,λ_=>je _ qo,λh=>absurd h qo⟩
def PStep(r:Nat)(w w':World):Prop:=RStep r 1 w w'/\∀(ao:qO) (n cap:Nat) (p:Int),qBl w r #[Sl ao n cap,In i6 p] 139->∃p':Int,qBl w' r #[Sl ao n cap,In i6 p'] 139
theorem Qs(r:Nat)(m q:Int)(w:World)(bn: -1125899906842624<m)(bo:m<1125899906842624)(hR:Rd r w q)(hq:q<=1000000000000):
  Calls Tryz.prog 38 #[.pointer (qad r),In i6 m] w λe w'=>∃k:Int,e=.returned (In i6 k)/\GL m k/\PStep r w w':=by
 obtain⟨ao,n,cap,p,hB,h2,h3,h4,h5⟩:=hR;have HB:Hid _:=hB;have HA:Hid (ByAt r w ao n):=h5;have bm:r<w.heap.size:=(AB hB).1;have hp:p<=1000000000000:=qo
 have e0:=AJ hB 0;have e1:=AJ hB 1;have f1:=B7 hB 1;clear hB h5 h3 hq q;go_enter Tryz.func38,Tryz.ntmps38
 go_upto_region 2 with(with_reducible (show wpList _ _ _ _ _ _);refine Am rfl 3 (.tmp 14) (.tmp 12) rfl r 1 (In i6 (p+1)) rfl rfl I1 rfl rfl 139 #[Sl ao n cap,In i6 p] HB.ab AG ?_;intro w1 F an;simp only[Act.put])
 have Z:Hid (PStep r w w1):=⟨VH HB.ab F.ab an,λa8 n' aO p' h=>by rw[qBl,HB.ab]at h;cases h;exact⟨_,F.ab⟩⟩;have au:Hid (ByAt r w1 ao n):=HA.ab.aX Z.ab.1.1;have hb:qBl w1 r #[Sl ao n cap,In i6 (p+1)] 139:=F.ab;clear e0 e1 f1 HB HA an F;have HB:Hid _:=hb;have e0:=AJ hb 0;have e1:=AJ hb 1;clear hb
 by_cases hm:m<1
 ·go_wp2
  go_ret;exact⟨0,rfl,⟨qo,λh=>absurd h qo,λ_=>rfl⟩,Z.ab⟩
 by_cases hn:n=0
 ·subst hn
  go_wp2;go_ret;exact⟨0,rfl,⟨qo,λh=>qo,λ_=>rfl⟩,Z.ab⟩
 have aj:¬((n:Int)=0):=qo
 obtain⟨b,H,ea,be,bk,HC⟩:∃b H,ao=some ⟨b,H,none⟩/\b<w1.heap.size/\b<r/\Hid (∀i,i<n->∃x:Int,w1.cell? ⟨b,H+i,none⟩=some (.int .u8 x)/\0<=x/\x<256):=au.ab qo;subst ea
 by_cases hk:p<n
 ·obtain⟨i,rfl⟩:=gK h2
  obtain⟨x,hx,z,aa⟩:=HC.ab i qo;have aI:Hid (GL m (x%m)):=Ma qo;go_wp2;go_ret;exact⟨_,rfl,aI.ab,Z.ab⟩
 have J:=Int.emod_nonneg p aj;have M:=je p (show 0<(n:Int) by omega);have O:=Int.emod_nonneg (p*7+3) aj;have W:=je (p*7+3) (show 0<(n:Int) by omega);have aB:0<=Int.tdiv p n:=Int.tdiv_nonneg h2 qo;have aC:Int.tdiv p n<=p:=Int.tdiv_le_self _ h2;obtain⟨d,hd⟩:∃d,Int.tdiv p n=d:=⟨_,rfl⟩;have aA:p / n=d:=by rw[<-hd,fT h2]
 obtain⟨j1,ag⟩:=gK J;obtain⟨j2,ah⟩:=gK O;rw[ag]at M;rw[ah]at W;rw[hd]at aB aC;obtain⟨x1,aa,a4,a5⟩:=HC.ab j1 qo;obtain⟨x2,ak,a6,a7⟩:=HC.ab j2 qo;have r0:∀p:Regrown,(grow (redrawn w1 p.d) p.os).cell? ⟨r,0,none⟩=some (Sl (some ⟨b,H,none⟩) n cap):=Az HB.ab 0 rfl;have r1:=λp:Regrown=>jo aa p.d p.os
 have r2:=λp:Regrown=>jo ak p.d p.os
 clear J O
 go_upto_region 7 with fail
 refine jl qk qk ?_
 repeat (first|go_big_quiet_step (fail)|quiet_step (fail))
 refine jn ?_;intro w2 aG;obtain⟨⟨dq,bB⟩,Y⟩:=aG;have hW:Below w1.heap.size w1 w2:=by rw[Y];exact jm _ _ _
 clear Y;obtain⟨x,hx⟩:∃x,x1*131+x2*1117+p*29+d*53=x:=⟨_,rfl⟩;have z:0<=x:=qo
 have aH:x<1125899906842624:=qo
 have am:0<=Int.tdiv x 64:=Int.tdiv_nonneg z qo;have aK:Int.tdiv x 64<=x:=Int.tdiv_le_self _ z;have hy:=bits_xor z aH am qo;have aM:Int.tdiv x 64=x / 64:=fT z;rw[aM]at hy;obtain⟨y,aJ⟩:∃y,bits .xor .i64 x (x / 64)=y:=⟨_,rfl⟩;rw[aJ]at hy;have bv:=hy.1;have bw:=hy.2;have aD:Hid (GL m (y%m)):=Ma qo;clear hy am aK hd aA ag ah aa ak r0 r1 r2 e0 e1 M W;simp only[hx];clear hx;go_wp2;go_ret;exact⟨_,rfl,aD.ab,⟨Z.ab.1.1.next AG (.of hW),λq hq=>((Z.ab.1.2 q hq).below hW)⟩,λao n cap p h=>(Z.ab.2 ao n cap p h).imp λp' h'=>(hW.block r (AB h').1).trans h'⟩
theorem Ek(r:Nat)(m q:Int)(w:World)(z: -1125899906842624<m)(F:m<1125899906842624)(O:Rd r w q)(W:q<=1000000000000):
  Calls Tryz.prog 38 #[.pointer (qad r),In i6 m] w λe w'=>∃k:Int,e=.returned (In i6 k)/\GL m k/\RStep r 1 w w':=
 (Qs r m q w z F O W).mono λ_ _ ⟨k,H,J,M⟩=>⟨k,H,J,M.1⟩
end
end Go.Proofs.YtbceafpodamnfaaGreatDoor
