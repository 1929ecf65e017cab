import Derived.Test.YtbceafpodamnfaaH11
set_option linter.all false
namespace Go.Proofs.Ytbceafpodamnfaa
attribute [local simp] svV cpV zbV czV aaV ctZ ad bkV ctV acV
attribute [local go_sem] svV cpV zbV czV aaV ctZ ad bkV ctV acV
open Go Go.RowKit
section
variable {P:Program} {ops:Array Oper} {Q:Exit->Act->World->Prop}
theorem hidOf{p:Prop}(h:p):Hid p:=h
def SteadyV(S:(Nat->Value)->World->Prop):Prop:=∀V W W',S V W->S V W'
def LastsV(S:(Nat->Value)->World->Prop):Prop:=∀V W W',S V W->Below W.heap.size W W'->S V W'
def KH(l:List Nat)(S:(Nat->Value)->World->Prop):Prop:=∀V V' W,(∀m,l.contains m=true->V m=V' m)->S V W->S V' W
def Nu(ops:Array Oper)(n:Nat)(needs:List (List Nat))(own vary tailN:List Nat)(keeps:List (Nat × Nat))(f:Nat):Bool:=
 ((List.range n).all λi=>(Br needs i).all λj=>Region.waitsFor .any ops i j)&&
 (tailN.all λj=>decide (j<n))&&
 own.all λi=>vary.all λj=>j==i||GE ops f j i||keeps.contains (i,j)||(!tailN.contains j&&(List.range n).all λt=>!(Br needs t).contains j||t==i||GE ops f i t)
def Lm(P:Program)(ops:Array Oper)(a0:Act)(n:Nat)(w0:World)(needs:List (List Nat))(own:List Nat)(R:Nat->World->World->Prop)(S:Nat->(Nat->Value)->World->Prop)(i:Nat)(o:Oper)(T:(Nat->Value)->Value->World->Prop):Prop:=
 ∀(V:Nat->Value) (W:World) (K:Act->World->Prop),Below w0.heap.size w0 W->(∀j,(Br needs i).contains j=true->S j V W)->
  Hid (∀v W',(if own.contains i then R i W W'/\Below w0.heap.size W W' else Below W.heap.size W W')->T V v W'->K ((Ad ops V n a0).put o.dst v) W')->wpList P ops (Cv K) [o] (Ad ops V n a0) W
theorem Iy{n g f:Nat}{S:Nat->(Nat->Value)->World->Prop}{T:Nat->(Nat->Value)->Value->World->Prop}{R:Nat->World->World->Prop}{keeps:List (Nat × Nat)}{w0:World}{a0:Act}{needs:List (List Nat)}{own vary tailN:List Nat}
  (hw:∀listed,HeadInv .any ops n listed->∀i,i<n->listed.getD i true=false->∀t,n<=t->t∉Region.ready .any ops listed)
  (hn:n<=ops.size) (hdB:FX .any ops n=true) (hd:CI ops n=true) (hown:Nu ops n needs own vary tailN keeps f=true) (hST:∀j,S j=λV W=>T j V (V j) W)
  (hst:∀j,LastsV (S j)) (hsy:∀j,vary.contains j=false->SteadyV (S j)) (hnm:∀j v,KH (Br needs j) (λV W=>T j V v W)) (hkp:∀i j,keeps.contains (i,j)=true->∀V W W',R i W W'->S j V W->S j V W')
  (hop:∀i o,i<n->ops[i]?=some o->Lm P ops a0 n w0 needs own R S i o (T i))
  (hlast:∀V W,Below w0.heap.size w0 W->(∀j,j<n->(tailN.contains j=true\/vary.contains j=false)->S j V W)->wpAny P .any ops Q g (C9 ops n) (Ad ops V n a0) W):
  ∀(m:Nat) (listed:Array Bool) (V:Nat->Value) (W:World),HeadInv .any ops n listed->Bn n listed=m->Below w0.heap.size w0 W->(∀j,j<n->listed.getD j false=true->(vary.contains j=false\/LV n needs tailN listed j)->S j V W)->
   wpAny P .any ops Q (m+g) listed (Ad ops V n a0) W
 |0,listed,V,W,inv,hm,hb,hS=>by
  have hall:∀i,i<n->listed.getD i true=true:=by
   intro i hi;have:=List.countP_eq_zero.1 hm i (List.mem_range.2 hi)
   simpa using this
  rw[C3 inv hall,Nat.zero_add];refine hlast V W hb λj hj hq=>hS j hj ?_ ?_
  ·have:=hall j hj
   have hjs:j<listed.size:=by rw[inv.size];omega
   simp[hjs]at this ⊢;exact this
  ·rcases hq with hq|hq
   ·exact .inr (.inl hq)
   ·exact .inl hq
 |m+1,listed,V,W,inv,hm,hb,hS=>by
  obtain⟨u,hu,hul⟩:∃u,u<n/\listed.getD u true=false:=by
   have:0<Bn n listed:=by omega
   obtain⟨u,hu,hul⟩:=List.countP_pos_iff.1 this;exact⟨u,List.mem_range.1 hu,by simpa using hul⟩
  rw[show m+1+g=(m+g)+1 by omega];refine⟨λh0=>absurd h0 (Dj hdB inv u hu hul),λi hi=>?_⟩
  have hin:i<n:=by
   rcases Nat.lt_or_ge i n with h|h
   ·exact h
   ·exact absurd hi (hw listed inv u hu hul i h)
  obtain⟨hun,o,ho,hall⟩:=mem_ready.1 hi
  have hr:∀j,Region.waitsFor .any ops i j=true->listed.getD j false=true:=λj hj=>by
   obtain⟨oj,hoj,e,he,hbd,hon⟩:=Region.waitsFor_spec hj;have:oj=o:=Option.some.inj (hoj.symm.trans ho);subst this;have hl:=hall e he hbd
   rwa [hon]at hl
  have hlt:∀j,Region.waitsFor .any ops i j=true->j<n:=λj hj=>by
   obtain⟨oj,hoj,e,he,hbd,hon⟩:=Region.waitsFor_spec hj;have h1:=List.all_eq_true.1 hdB i (List.mem_range.2 hin);rw[hoj]at h1;have h2:=Array.all_eq_true'.1 h1 e he;rw[hbd]at h2;have h3:e.on<i:=by simpa using h2
   omega
  have hB:=hown;unfold Nu at hB;rw[Bool.and_eq_true,Bool.and_eq_true]at hB;obtain⟨⟨hB1,_⟩,hB2⟩:=hB
  have hwait:∀t,t<n->∀j,(Br needs t).contains j=true->Region.waitsFor .any ops t j=true:=λt ht j hj=>
   List.all_eq_true.1 (List.all_eq_true.1 hB1 t (List.mem_range.2 ht)) j (List.contains_iff_mem.1 hj)
  have hif:listed.getD i false=false:=getD_both hun;refine DJ ho (hop i o hin ho V W _ hb (λj hj=>?_) λv W' hb' hs'=>?_)
  ·exact hS j (hlt j (hwait i hin j hj)) (hr j (hwait i hin j hj)) (.inr (.inr ⟨i,hin,hj,hif⟩))
  ·have hdst:o.dst=(ops[i]?).bind (·.dst):=by rw[ho];rfl
   rw[hdst,Dc hd hin];have his:i<listed.size:=by rw[inv.size];exact(AB ho).1
   have hb0:Below w0.heap.size w0 W':=by
    split at hb'
    ·exact hb.trans hb'.2
    ·exact hb.trans (hb'.mono hb.size)
   refine Iy hw hn hdB hd hown hST hst hsy hnm hkp hop hlast m _ _ W' (inv.set hi hin) (by have:=Dx hin his hun;omega) hb0 λj hj hl hq=>?_
   by_cases hji:j=i
   ·subst hji
    rw[hST];simp only[upd,if_true];refine hnm j v V _ W' (λm hm=>?_) hs'
    have hmj:m≠j:=λe=>by
     subst e;have:=hr m (hwait m hin m hm);rw[hif]at this;cases this
    simp[upd,hmj]
   ·rw[getD_set_ne false (Ne.symm hji)]at hl
    have hlj:listed.getD j false=true:=hl
    have eV:∀W2,S j V W2->S j (upd V i v) W2:=λW2 h2=>by
     rw[hST]at h2 ⊢;simp only[upd,if_neg hji];refine hnm j (V j) V _ W2 (λm hm=>?_) h2
     have hmi:m≠i:=λe=>by
      subst e;have:=Dk inv hlj (hwait j hj m hm);rw[hif]at this;cases this
     simp[upd,hmi]
    refine eV W' ?_
    have hq0:vary.contains j=false\/LV n needs tailN listed j:=by
     rcases hq with hq|hq|⟨t,ht,hn',hf⟩
     ·exact .inl hq
     ·exact .inr (.inl hq)
     ·refine .inr (.inr ⟨t,ht,hn',?_⟩)
      by_cases hti:t=i
      ·rw[hti];exact hif
      ·rwa [getD_set_ne false (Ne.symm hti)]at hf
    have hSj:=hS j hj hl hq0
    by_cases how:own.contains i=true
    ·cases hv:vary.contains j with
     |false=>exact hsy j hv _ _ _ hSj
     |true=>
      rw[if_pos how]at hb';have hc:=List.all_eq_true.1 (List.all_eq_true.1 hB2 i (List.contains_iff_mem.1 how)) j (List.contains_iff_mem.1 hv);rw[Bool.or_eq_true,Bool.or_eq_true,Bool.or_eq_true,Bool.and_eq_true]at hc;rcases hc with((hc|hc)|hc)|⟨hc1,hc2⟩
      ·exact absurd (by simpa using hc) hji
      ·have:=Fh inv f j i hl hc
       rw[hif]at this;cases this
      ·exact hkp i j hc V W W' hb'.1 hSj
      ·exfalso
       rcases hq with hq|hq|⟨t,ht,hn',hf⟩
       ·rw[hv]at hq;cases hq
       ·rw[hq]at hc1;cases hc1
       ·have h3:=List.all_eq_true.1 hc2 t (List.mem_range.2 ht)
        rw[Bool.or_eq_true,Bool.or_eq_true,hn']at h3;rcases h3 with(h3|h3)|h3
        ·cases h3
        ·have:t=i:=by simpa using h3
         rw[this]at hf;simp[his]at hf
        ·have hlt':=IT inv hr f t h3
         by_cases hti:t=i
         ·rw[hti]at hf
          simp[his]at hf
         ·rw[getD_set_ne false (Ne.symm hti),hlt']at hf
          cases hf
    ·rw[if_neg how]at hb'
     exact hst j V W W' hSj hb'
def Lp(S:Nat->(Nat->Value)->Value->World->Prop)(i:Nat)(T:(Nat->Value)->Value->World->Prop):Nat->(Nat->Value)->Value->World->Prop:=λj=>if j=i then T else S j
theorem GT(S:Nat->(Nat->Value)->Value->World->Prop)(i:Nat)(T:(Nat->Value)->Value->World->Prop):Lp S i T i=T:=by simp[Lp]
theorem GU(S:Nat->(Nat->Value)->Value->World->Prop){i j:Nat}(T:(Nat->Value)->Value->World->Prop)(h:j≠i):Lp S i T j=S j:=by simp[Lp,h]
def atV(T:Nat->(Nat->Value)->Value->World->Prop):Nat->(Nat->Value)->World->Prop:=λj V W=>T j V (V j) W
def Dm(P:Program)(ops:Array Oper)(a0:Act)(n:Nat)(w0:World)(needs:List (List Nat))(own vary:List Nat)(R:Nat->World->World->Prop)(L:(Nat->(Nat->Value)->Value->World->Prop)->Prop):List Oper->Nat->(Nat->(Nat->Value)->Value->World->Prop)->Prop
 |[],_,S=>L S
 |o::rest,i,S=>∃T:(Nat->Value)->Value->World->Prop,(∀V v W W',T V v W->Below W.heap.size W W'->T V v W')/\(vary.contains i=false->∀V v W W',T V v W->T V v W')/\(∀v,KH (Br needs i) λV W=>T V v W)/\
   Lm P ops a0 n w0 needs own R (atV S) i o T/\Dm P ops a0 n w0 needs own vary R L rest (i+1) (Lp S i T)
section
variable {a0:Act} {n:Nat} {w0:World} {needs:List (List Nat)} {own vary:List Nat} {R:Nat->World->World->Prop} {L:(Nat->(Nat->Value)->Value->World->Prop)->Prop} {o:Oper} {rest:List Oper} {i:Nat} {S:Nat->(Nat->Value)->Value->World->Prop}
theorem ES{u:Value}(hw:own.contains i=false)
  (h:∀(V:Nat->Value) (W:World) (K:Act->World->Prop) (A:Act),Below w0.heap.size w0 W->(∀j,(Br needs i).contains j=true->S j V (V j) W)->Hid (A=Ad ops V n a0)->
   Hid (∀W',Below W.heap.size W W'->K (A.put o.dst u) W')->wpList P ops (Cv K) [o] A W)
  (hr:Dm P ops a0 n w0 needs own vary R L rest (i+1) (Lp S i λ_ v _=>v=u)):Dm P ops a0 n w0 needs own vary R L (o::rest) i S:=
 ⟨λ_ v _=>v=u,λ_ _ _ _ h _=>h,λ_ _ _ _ _ h=>h,λ_ _ _ _ _ h=>h,λV W K hb hd hK=>h V W K _ hb hd rfl λW' hb'=>hK.out u W' (by rw[hw];exact hb') rfl,hr⟩
theorem DO(T:Value->World->Prop)(hT:FH T)(hw:own.contains i=false)(hv:vary.contains i=true)
  (h:∀(V:Nat->Value) (W:World) (K:Act->World->Prop) (A:Act),Below w0.heap.size w0 W->(∀j,(Br needs i).contains j=true->S j V (V j) W)->Hid (A=Ad ops V n a0)->
   Hid (∀v W',Below W.heap.size W W'->T v W'->K (A.put o.dst v) W')->wpList P ops (Cv K) [o] A W)
  (hr:Dm P ops a0 n w0 needs own vary R L rest (i+1) (Lp S i λ_=>T)):Dm P ops a0 n w0 needs own vary R L (o::rest) i S:=
 ⟨λ_=>T,λ_ v W W'=>hT v W W',λh=>(by rw[hv]at h;cases h),λ_ _ _ _ _ h=>h,λV W K hb hd hK=>h V W K _ hb hd rfl λv W' hb'=>hK.out v W' (by rw[hw];exact hb'),hr⟩
theorem JY(T:(Nat->Value)->Value->World->Prop)(hT:∀V v W W',T V v W->Below W.heap.size W W'->T V v W')(hN:∀v,KH (Br needs i) λV W=>T V v W)(hw:own.contains i=true)(hv:vary.contains i=true)
  (h:∀(V:Nat->Value) (W:World) (K:Act->World->Prop) (A:Act),Below w0.heap.size w0 W->(∀j,(Br needs i).contains j=true->S j V (V j) W)->Hid (A=Ad ops V n a0)->
   Hid (∀v W',R i W W'->Below w0.heap.size W W'->T V v W'->K (A.put o.dst v) W')->wpList P ops (Cv K) [o] A W)
  (hr:Dm P ops a0 n w0 needs own vary R L rest (i+1) (Lp S i T)):Dm P ops a0 n w0 needs own vary R L (o::rest) i S:=
 ⟨T,hT,λh=>(by rw[hv]at h;cases h),hN,λV W K hb hd hK=>h V W K _ hb hd rfl λv W' hr hb'=>hK.out v W' (by rw[hw];exact⟨hr,hb'⟩),hr⟩
end
theorem Hb{a0:Act}{n:Nat}{w0:World}{needs:List (List Nat)}{own vary:List Nat}{R:Nat->World->World->Prop}{L:(Nat->(Nat->Value)->Value->World->Prop)->Prop}(hlt:∀i,i<n->∀j,(Br needs i).contains j=true->j<i):∀(l:List Oper) (k:Nat) (S:Nat->(Nat->Value)->Value->World->Prop),k+l.length=n->(∀j,j<l.length->l[j]?=ops[k+j]?)->
  (∀j V v W W',S j V v W->Below W.heap.size W W'->S j V v W')->(∀j,j<k->vary.contains j=false->∀V v W W',S j V v W->S j V v W')->(∀j v,KH (Br needs j) λV W=>S j V v W)->(∀i o,i<k->ops[i]?=some o->Lm P ops a0 n w0 needs own R (atV S) i o (S i))->Dm P ops a0 n w0 needs own vary R L l k S->
  ∃S',(∀j V v W W',S' j V v W->Below W.heap.size W W'->S' j V v W')/\(∀j,j<n->vary.contains j=false->∀V v W W',S' j V v W->S' j V v W')/\(∀j v,KH (Br needs j) λV W=>S' j V v W)/\(∀i o,i<n->ops[i]?=some o->Lm P ops a0 n w0 needs own R (atV S') i o (S' i))/\L S'
 |[],k,S,hk,_,hl,hs,hnm,hop,h=>by
  have e:n=k:=by simpa using hk.symm
  rw[e];rw[e]at hop;exact⟨S,hl,hs,hnm,hop,h⟩
 |o::l,k,S,hk,hs,hl,hsy,hnm,hop,⟨T,hT,hTs,hTn,ho,h⟩=>by
  have h0:ops[k]?=some o:=by simpa using (hs 0 (by simp)).symm
  have hkn:k<n:=by simp only[List.length_cons]at hk;omega
  refine Hb hlt l (k+1) _ (by simp only[List.length_cons]at hk;omega) (λj hj=>by have:=hs (j+1) (by simp;omega);simpa [Nat.add_assoc,Nat.add_comm 1 j] using this) (λj=>?_) (λj hj hv=>?_) (λj=>?_) (λi o' hi hi'=>?_) h
  ·by_cases e:j=k
   ·subst e;rw[GT];exact hT
   ·rw[GU _ _ e];exact hl j
  ·by_cases e:j=k
   ·subst e;rw[GT];exact hTs hv
   ·rw[GU _ _ e];exact hsy j (by omega) hv
  ·by_cases e:j=k
   ·subst e;rw[GT];exact hTn
   ·rw[GU _ _ e];exact hnm j
  ·by_cases e:i=k
   ·subst e
    have:o'=o:=Option.some.inj (hi'.symm.trans h0);subst this;rw[GT];exact λV W K hb hd hK=>ho V W K hb (λj hj=>by have:=hd j hj;unfold atV at this ⊢;rwa [GU _ _ (by have:=hlt i hkn j hj;omega)]at this) hK
   ·rw[GU _ _ e]
    exact λV W K hb hd hK=>hop i o' (by omega) hi' V W K hb (λj hj=>by have:=hd j hj;unfold atV at this ⊢;rwa [GU _ _ (by have:=hlt i (by omega) j hj;omega)]at this) hK
theorem Ft{id:Nat}{a:Act}{w:World}{l:List Oper}(n f:Nat)(needs:List (List Nat))(own vary tailN:List Nat)(keeps:List (Nat × Nat))(R:Nat->World->World->Prop)(hm:P.follows .mixedOrders=true)(hB:Ap l.toArray n=true)(hO:Nu l.toArray n needs own vary tailN keeps f=true)
  (h:Dm P l.toArray a n w needs own vary R (λS=>(∀i j,keeps.contains (i,j)=true->∀V v W W',R i W W'->S j V v W->S j V v W')/\∀V W A,Below w.heap.size w W->(∀j,j<n->(tailN.contains j=true\/vary.contains j=false)->S j V (V j) W)->Hid (A=Ad l.toArray V n a)->wpList P l.toArray Q (l.drop n) A W) (l.take n) 0 λ_ _ _ _=>True):(Code.region id l.toArray true).wp P Q a w:=by
 have hB':=hB;simp only[Ap,Bool.and_eq_true,decide_eq_true_eq]at hB';obtain⟨⟨⟨⟨⟨hn,hs⟩,hc⟩,hdB⟩,hd⟩,hseq⟩:=hB';have hn':n<l.length:=by simpa using hn
 have hO':=hO;unfold Nu at hO';rw[Bool.and_eq_true,Bool.and_eq_true]at hO'
 have hlt:∀i,i<n->∀j,(Br needs i).contains j=true->j<i:=λi hi j hj=>by
  have hw:=List.all_eq_true.1 (List.all_eq_true.1 hO'.1.1 i (List.mem_range.2 hi)) j (List.contains_iff_mem.1 hj);obtain⟨oj,hoj,e,he,hbd,hon⟩:=Region.waitsFor_spec hw;have h1:=List.all_eq_true.1 hdB i (List.mem_range.2 hi);rw[hoj]at h1;have h2:=Array.all_eq_true'.1 h1 e he;rw[hbd]at h2;have h3:e.on<i:=by simpa using h2
  omega
 obtain⟨S0,h1,h2,hnm,h3,hkp,h4⟩:=Hb hlt (l.take n) 0 _ (by simp;omega) (λj hj=>by
  have:j<n:=by simp at hj;omega
  simp[this]) (λ_ _ _ _ _ _ _=>trivial) (λj hj=>absurd hj (by omega)) (λ_ _ _ _ _ _ h=>h) (λi o hi=>absurd hi (by omega)) h
 obtain⟨S,hS⟩:∃S:Nat->(Nat->Value)->Value->World->Prop,S=λj=>if j<n then S0 j else λ_ _ _=>True:=⟨_,rfl⟩
 have hSn:∀j,j<n->S j=S0 j:=λj hj=>by rw[hS];simp[hj]
 have hSo:∀j,¬j<n->S j=λ_ _ _=>True:=λj hj=>by rw[hS];simp[hj]
 refine wp_region_any hm ?_
 have inv0:HeadInv .any l.toArray n (Array.replicate l.toArray.size false):=
  ⟨by simp,λj oj _ hl=>(by rw[getD_replicate_false]at hl;cases hl),λt _ ht=>getD_in (by simpa using ht) (getD_replicate_false _ _)⟩
 have hb0:Below w.heap.size w {w with drawn:=w.drawn+1}:=⟨rfl,rfl,rfl,AG _,λ_ _=>rfl⟩
 have hleft:Bn n (Array.replicate l.toArray.size false)=n:=by
  unfold Bn;rw[List.countP_eq_length.2]
  ·simp
  ·intro i hi
   have:i<l.toArray.size:=by have:=List.mem_range.1 hi;omega
   rw[getD_in (by simpa using this) (getD_replicate_false _ _)];rfl
 obtain⟨V0,hV0⟩:∃V0,Ad l.toArray V0 n a=a:=⟨_,DF a n⟩
 have H:=Iy (P:=P) (Q:=Q) (g:=l.toArray.size - n) (f:=f) (S:=atV S) (T:=S) (R:=R) (keeps:=keeps) (w0:=w) (a0:=a) (needs:=needs) (own:=own) (vary:=vary) (tailN:=tailN) (λlisted inv i hi hu t ht=>tail_waits hs hc hn inv _ i rfl hi hu t ht) (by omega) hdB hd hO (λj=>rfl)
  (λj V W W' hq hb=>by
   unfold atV at hq ⊢
   by_cases hj:j<n
   ·rw[hSn j hj]at hq ⊢;exact h1 j V _ W W' hq hb
   ·rw[hSo j hj];trivial)
  (λj hv V W W' hq=>by
   unfold atV at hq ⊢
   by_cases hj:j<n
   ·rw[hSn j hj]at hq ⊢;exact h2 j hj hv V _ W W' hq
   ·rw[hSo j hj];trivial)
  (λj v V V' W hVV hq=>by
   by_cases hj:j<n
   ·simp only[hSn j hj]at hq ⊢;exact hnm j v V V' W hVV hq
   ·simp only[hSo j hj])
  (λi j hk V W W' hr hq=>by
   unfold atV at hq ⊢
   by_cases hj:j<n
   ·rw[hSn j hj]at hq ⊢;exact hkp i j hk V _ W W' hr hq
   ·rw[hSo j hj];trivial)
  (λi o hi ho=>by
   rw[hSn i hi]
   exact λV W K hb hd' hK=>h3 i o hi ho V W K hb (λj hj=>by have h':=hd' j hj;unfold atV at h' ⊢;rwa [hSn j (by have:=hlt i hi j hj;omega)]at h') hK)
  (λV W hb hS'=>by
   have hdl:(l.drop n).length=l.toArray.size - n:=by simp
   have:=wpAny_of_seq (md:=.any) (Q':=Q) (l.drop n) n (C9 l.toArray n) _ W (λj=>by simp[List.getElem?_drop]) (by rw[hdl];exact hseq) (h4 V W _ hb (λj hj hq=>by have h':=hS' j hj hq;unfold atV at h';rwa [hSn j hj]at h') rfl)
   rwa [hdl]at this)
  n _ V0 {w with drawn:=w.drawn+1} inv0 hleft hb0 (λj _ hl=>by rw[getD_replicate_false]at hl;cases hl)
 rw[hV0,show n+(l.toArray.size - n)=l.toArray.size by omega]at H;exact H
end
end Go.Proofs.Ytbceafpodamnfaa
