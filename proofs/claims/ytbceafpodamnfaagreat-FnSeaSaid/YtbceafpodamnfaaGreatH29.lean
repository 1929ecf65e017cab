import Derived.Test.YtbceafpodamnfaaGreatH00
set_option linter.all false
namespace Go.Proofs.YtbceafpodamnfaaGreat
section
open Go Go.RowKit
section
variable {P:Program} {ops:Array Oper} {Q:Exit->Act->World->Prop}
theorem hidOf{p:Prop}(h:p):Hid p:=h
def N9(S:(Nat->Value)->World->Prop):Prop:=∀V W W',S V W->S V W'
def LastsV(S:(Nat->Value)->World->Prop):Prop:=∀V W W',S V W->Below W.heap.size W W'->S V W'
def ER(l:List Nat)(S:(Nat->Value)->World->Prop):Prop:=∀V V' W,(∀m,l.contains m=true->V m=V' m)->S V W->S V' W
def Nc(ops:Array Oper)(n:Nat)(needs:List (List Nat))(own vary tailN:List Nat)(keeps:List (Nat × Nat))(f:Nat):Bool:=
 ((List.range n).all λi=>(BI needs i).all λj=>Region.waitsFor .any ops i j)&&
 (tailN.all λj=>decide (j<n))&&
 own.all λi=>vary.all λj=>j==i||EL ops f j i||keeps.contains (i,j)||(!tailN.contains j&&(List.range n).all λt=>!(BI needs t).contains j||t==i||EL ops f i t)
def LB(P:Program)(ops:Array Oper)(a0:Act)(n:Nat)(w0:World)(needs:List (List Nat))(own:List Nat)(R:Nat->World->World->Prop)(S:Nat->(Nat->Value)->World->Prop)(i:Nat)(o:Oper)(T:(Nat->Value)->Value->World->Prop):Prop:=
 ∀(V:Nat->Value) (W:World) (K:Act->World->Prop),Below w0.heap.size w0 W->(∀j,(BI needs i).contains j=true->S j V W)->
  Hid (∀v W',(if own.contains i then R i W W'/\Below w0.heap.size W W' else Below W.heap.size W W')->T V v W'->K ((Af ops V n a0).put o.dst v) W')->wpList P ops (Ch K) [o] (Af ops V n a0) W
theorem Ib{n g f:Nat}{S:Nat->(Nat->Value)->World->Prop}{T:Nat->(Nat->Value)->Value->World->Prop}{R:Nat->World->World->Prop}{keeps:List (Nat × Nat)}{w0:World}{a0:Act}{needs:List (List Nat)}{own vary tailN:List Nat}
  (hw:∀listed,HeadInv .any ops n listed->∀i,i<n->listed.getD i true=false->∀t,n<=t->t∉Region.ready .any ops listed)
  (hn:n<=ops.size) (hdB:Dx .any ops n=true) (hd:DY ops n=true) (hown:Nc ops n needs own vary tailN keeps f=true) (hST:∀j,S j=λV W=>T j V (V j) W)
  (hst:∀j,LastsV (S j)) (hsy:∀j,vary.contains j=false->N9 (S j)) (hnm:∀j v,ER (BI needs j) (λV W=>T j V v W)) (hkp:∀i j,keeps.contains (i,j)=true->∀V W W',R i W W'->S j V W->S j V W')
  (hop:∀i o,i<n->ops[i]?=some o->LB P ops a0 n w0 needs own R S i o (T i))
  (hlast:∀V W,Below w0.heap.size w0 W->(∀j,j<n->(tailN.contains j=true\/vary.contains j=false)->S j V W)->wpAny P .any ops Q g (Bp ops n) (Af ops V n a0) W):
  ∀(m:Nat) (listed:Array Bool) (V:Nat->Value) (W:World),HeadInv .any ops n listed->BW n listed=m->Below w0.heap.size w0 W->(∀j,j<n->listed.getD j false=true->(vary.contains j=false\/Kl n needs tailN listed j)->S j V W)->
   wpAny P .any ops Q (m+g) listed (Af ops V n a0) W
 |0,listed,V,W,inv,hm,hb,hS=>by
  have hall:∀i,i<n->listed.getD i true=true:=by
   intro i hi;have:=List.countP_eq_zero.1 hm i (List.mem_range.2 hi)
   simpa using this
  rw[Cd inv hall,Nat.zero_add];refine hlast V W hb λj hj hq=>hS j hj ?_ ?_
  ·have:=hall j hj
   have hjs:j<listed.size:=by rw[inv.size];omega
   simp[hjs]at this ⊢;exact this
  ·rcases hq with hq|hq
   ·exact .inr (.inl hq)
   ·exact .inl hq
 |m+1,listed,V,W,inv,hm,hb,hS=>by
  obtain⟨u,hu,hul⟩:∃u,u<n/\listed.getD u true=false:=by
   have:0<BW n listed:=by omega
   obtain⟨u,hu,hul⟩:=List.countP_pos_iff.1 this;exact⟨u,List.mem_range.1 hu,by simpa using hul⟩
  rw[show m+1+g=(m+g)+1 by omega];refine⟨λh0=>absurd h0 (C3 hdB inv u hu hul),λi hi=>?_⟩
  have hin:i<n:=by
   rcases Nat.lt_or_ge i n with h|h
   ·exact h
   ·exact absurd hi (hw listed inv u hu hul i h)
  obtain⟨hun,o,ho,hall⟩:=mem_ready.1 hi
  have hr:∀j,Region.waitsFor .any ops i j=true->listed.getD j false=true:=λj hj=>by
   obtain⟨oj,hoj,e,he,hbd,hon⟩:=Region.waitsFor_spec hj;have:oj=o:=Option.some.inj (hoj.symm.trans ho);subst this;have hl:=hall e he hbd
   rwa [hon]at hl
  have hlt:∀j,Region.waitsFor .any ops i j=true->j<n:=λj hj=>by
   obtain⟨oj,hoj,e,he,hbd,hon⟩:=Region.waitsFor_spec hj;have h1:=List.all_eq_true.1 hdB i (List.mem_range.2 hin);rw[hoj]at h1;have h2:=Array.all_eq_true'.1 h1 e he;rw[hbd]at h2;have h3:e.on<i:=by simpa using h2
   omega
  have hB:=hown;unfold Nc at hB;rw[Bool.and_eq_true,Bool.and_eq_true]at hB;obtain⟨⟨hB1,_⟩,hB2⟩:=hB
  have hwait:∀t,t<n->∀j,(BI needs t).contains j=true->Region.waitsFor .any ops t j=true:=λt ht j hj=>
   List.all_eq_true.1 (List.all_eq_true.1 hB1 t (List.mem_range.2 ht)) j (List.contains_iff_mem.1 hj)
  have hif:listed.getD i false=false:=getD_both hun;refine Ck ho (hop i o hin ho V W _ hb (λj hj=>?_) λv W' hb' hs'=>?_)
  ·exact hS j (hlt j (hwait i hin j hj)) (hr j (hwait i hin j hj)) (.inr (.inr ⟨i,hin,hj,hif⟩))
  ·have hdst:o.dst=(ops[i]?).bind (·.dst):=by rw[ho];rfl
   rw[hdst,DI hd hin];have his:i<listed.size:=by rw[inv.size];exact(AB ho).1
   have hb0:Below w0.heap.size w0 W':=by
    split at hb'
    ·exact hb.trans hb'.2
    ·exact hb.trans (hb'.mono hb.size)
   refine Ib hw hn hdB hd hown hST hst hsy hnm hkp hop hlast m _ _ W' (inv.set hi hin) (by have:=DL hin his hun;omega) hb0 λj hj hl hq=>?_
   by_cases hji:j=i
   ·subst hji
    rw[hST];simp only[upd,if_true];refine hnm j v V _ W' (λm hm=>?_) hs'
    have hmj:m≠j:=λe=>by
     subst e;have:=hr m (hwait m hin m hm);rw[hif]at this;cases this
    simp[upd,hmj]
   ·rw[getD_set_ne false (Ne.symm hji)]at hl
    have hlj:listed.getD j false=true:=hl
    have eV:∀W2,S j V W2->S j (upd V i v) W2:=λW2 h2=>by
     rw[hST]at h2 ⊢;simp only[upd,if_neg hji];refine hnm j (V j) V _ W2 (λm hm=>?_) h2
     have hmi:m≠i:=λe=>by
      subst e;have:=C5 inv hlj (hwait j hj m hm);rw[hif]at this;cases this
     simp[upd,hmi]
    refine eV W' ?_
    have hq0:vary.contains j=false\/Kl n needs tailN listed j:=by
     rcases hq with hq|hq|⟨t,ht,hn',hf⟩
     ·exact .inl hq
     ·exact .inr (.inl hq)
     ·refine .inr (.inr ⟨t,ht,hn',?_⟩)
      by_cases hti:t=i
      ·rw[hti];exact hif
      ·rwa [getD_set_ne false (Ne.symm hti)]at hf
    have hSj:=hS j hj hl hq0
    by_cases how:own.contains i=true
    ·cases hv:vary.contains j with
     |false=>exact hsy j hv _ _ _ hSj
     |true=>
      rw[if_pos how]at hb';have hc:=List.all_eq_true.1 (List.all_eq_true.1 hB2 i (List.contains_iff_mem.1 how)) j (List.contains_iff_mem.1 hv);rw[Bool.or_eq_true,Bool.or_eq_true,Bool.or_eq_true,Bool.and_eq_true]at hc;rcases hc with((hc|hc)|hc)|⟨hc1,hc2⟩
      ·exact absurd (by simpa using hc) hji
      ·have:=Df inv f j i hl hc
       rw[hif]at this;cases this
      ·exact hkp i j hc V W W' hb'.1 hSj
      ·exfalso
       rcases hq with hq|hq|⟨t,ht,hn',hf⟩
       ·rw[hv]at hq;cases hq
       ·rw[hq]at hc1;cases hc1
       ·have h3:=List.all_eq_true.1 hc2 t (List.mem_range.2 ht)
        rw[Bool.or_eq_true,Bool.or_eq_true,hn']at h3;rcases h3 with(h3|h3)|h3
        ·cases h3
        ·have:t=i:=by simpa using h3
         rw[this]at hf;simp[his]at hf
        ·have hlt':=FS inv hr f t h3
         by_cases hti:t=i
         ·rw[hti]at hf
          simp[his]at hf
         ·rw[getD_set_ne false (Ne.symm hti),hlt']at hf
          cases hf
    ·rw[if_neg how]at hb'
     exact hst j V W W' hSj hb'
def Ii(S:Nat->(Nat->Value)->Value->World->Prop)(i:Nat)(T:(Nat->Value)->Value->World->Prop):Nat->(Nat->Value)->Value->World->Prop:=λj=>if j=i then T else S j
theorem Cy(S:Nat->(Nat->Value)->Value->World->Prop)(i:Nat)(T:(Nat->Value)->Value->World->Prop):Ii S i T i=T:=by simp[Ii]
theorem Cw(S:Nat->(Nat->Value)->Value->World->Prop){i j:Nat}(T:(Nat->Value)->Value->World->Prop)(h:j≠i):Ii S i T j=S j:=by simp[Ii,h]
def atV(T:Nat->(Nat->Value)->Value->World->Prop):Nat->(Nat->Value)->World->Prop:=λj V W=>T j V (V j) W
def DB(P:Program)(ops:Array Oper)(a0:Act)(n:Nat)(w0:World)(needs:List (List Nat))(own vary:List Nat)(R:Nat->World->World->Prop)(L:(Nat->(Nat->Value)->Value->World->Prop)->Prop):List Oper->Nat->(Nat->(Nat->Value)->Value->World->Prop)->Prop
 |[],_,S=>L S
 |o::rest,i,S=>∃T:(Nat->Value)->Value->World->Prop,(∀V v W W',T V v W->Below W.heap.size W W'->T V v W')/\(vary.contains i=false->∀V v W W',T V v W->T V v W')/\(∀v,ER (BI needs i) λV W=>T V v W)/\
   LB P ops a0 n w0 needs own R (atV S) i o T/\DB P ops a0 n w0 needs own vary R L rest (i+1) (Ii S i T)
section
variable {a0:Act} {n:Nat} {w0:World} {needs:List (List Nat)} {own vary:List Nat} {R:Nat->World->World->Prop} {L:(Nat->(Nat->Value)->Value->World->Prop)->Prop} {o:Oper} {rest:List Oper} {i:Nat} {S:Nat->(Nat->Value)->Value->World->Prop}
theorem Dg{u:Value}(hw:own.contains i=false)
  (h:∀(V:Nat->Value) (W:World) (K:Act->World->Prop) (A:Act),Below w0.heap.size w0 W->(∀j,(BI needs i).contains j=true->S j V (V j) W)->Hid (A=Af ops V n a0)->
   Hid (∀W',Below W.heap.size W W'->K (A.put o.dst u) W')->wpList P ops (Ch K) [o] A W)
  (hr:DB P ops a0 n w0 needs own vary R L rest (i+1) (Ii S i λ_ v _=>v=u)):DB P ops a0 n w0 needs own vary R L (o::rest) i S:=
 ⟨λ_ v _=>v=u,λ_ _ _ _ h _=>h,λ_ _ _ _ _ h=>h,λ_ _ _ _ _ h=>h,λV W K hb hd hK=>h V W K _ hb hd rfl λW' hb'=>hK.out u W' (by rw[hw];exact hb') rfl,hr⟩
theorem Cm(T:Value->World->Prop)(hT:Jg T)(hw:own.contains i=false)(hv:vary.contains i=true)
  (h:∀(V:Nat->Value) (W:World) (K:Act->World->Prop) (A:Act),Below w0.heap.size w0 W->(∀j,(BI needs i).contains j=true->S j V (V j) W)->Hid (A=Af ops V n a0)->
   Hid (∀v W',Below W.heap.size W W'->T v W'->K (A.put o.dst v) W')->wpList P ops (Ch K) [o] A W)
  (hr:DB P ops a0 n w0 needs own vary R L rest (i+1) (Ii S i λ_=>T)):DB P ops a0 n w0 needs own vary R L (o::rest) i S:=
 ⟨λ_=>T,λ_ v W W'=>hT v W W',λh=>(by rw[hv]at h;cases h),λ_ _ _ _ _ h=>h,λV W K hb hd hK=>h V W K _ hb hd rfl λv W' hb'=>hK.out v W' (by rw[hw];exact hb'),hr⟩
theorem JF(T:(Nat->Value)->Value->World->Prop)(hT:∀V v W W',T V v W->Below W.heap.size W W'->T V v W')(hN:∀v,ER (BI needs i) λV W=>T V v W)(hw:own.contains i=true)(hv:vary.contains i=true)
  (h:∀(V:Nat->Value) (W:World) (K:Act->World->Prop) (A:Act),Below w0.heap.size w0 W->(∀j,(BI needs i).contains j=true->S j V (V j) W)->Hid (A=Af ops V n a0)->
   Hid (∀v W',R i W W'->Below w0.heap.size W W'->T V v W'->K (A.put o.dst v) W')->wpList P ops (Ch K) [o] A W)
  (hr:DB P ops a0 n w0 needs own vary R L rest (i+1) (Ii S i T)):DB P ops a0 n w0 needs own vary R L (o::rest) i S:=
 ⟨T,hT,λh=>(by rw[hv]at h;cases h),hN,λV W K hb hd hK=>h V W K _ hb hd rfl λv W' hr hb'=>hK.out v W' (by rw[hw];exact⟨hr,hb'⟩),hr⟩
end
theorem Ge{a0:Act}{n:Nat}{w0:World}{needs:List (List Nat)}{own vary:List Nat}{R:Nat->World->World->Prop}{L:(Nat->(Nat->Value)->Value->World->Prop)->Prop}(hlt:∀i,i<n->∀j,(BI needs i).contains j=true->j<i):∀(l:List Oper) (k:Nat) (S:Nat->(Nat->Value)->Value->World->Prop),k+l.length=n->(∀j,j<l.length->l[j]?=ops[k+j]?)->
  (∀j V v W W',S j V v W->Below W.heap.size W W'->S j V v W')->(∀j,j<k->vary.contains j=false->∀V v W W',S j V v W->S j V v W')->(∀j v,ER (BI needs j) λV W=>S j V v W)->(∀i o,i<k->ops[i]?=some o->LB P ops a0 n w0 needs own R (atV S) i o (S i))->DB P ops a0 n w0 needs own vary R L l k S->
  ∃S',(∀j V v W W',S' j V v W->Below W.heap.size W W'->S' j V v W')/\(∀j,j<n->vary.contains j=false->∀V v W W',S' j V v W->S' j V v W')/\(∀j v,ER (BI needs j) λV W=>S' j V v W)/\(∀i o,i<n->ops[i]?=some o->LB P ops a0 n w0 needs own R (atV S') i o (S' i))/\L S'
 |[],k,S,hk,_,hl,hs,hnm,hop,h=>by
  have e:n=k:=by simpa using hk.symm
  rw[e];rw[e]at hop;exact⟨S,hl,hs,hnm,hop,h⟩
 |o::l,k,S,hk,hs,hl,hsy,hnm,hop,⟨T,hT,hTs,hTn,ho,h⟩=>by
  have h0:ops[k]?=some o:=by simpa using (hs 0 (by simp)).symm
  have hkn:k<n:=by simp only[List.length_cons]at hk;omega
  refine Ge hlt l (k+1) _ (by simp only[List.length_cons]at hk;omega) (λj hj=>by have:=hs (j+1) (by simp;omega);simpa [Nat.add_assoc,Nat.add_comm 1 j] using this) (λj=>?_) (λj hj hv=>?_) (λj=>?_) (λi o' hi hi'=>?_) h
  ·by_cases e:j=k
   ·subst e;rw[Cy];exact hT
   ·rw[Cw _ _ e];exact hl j
  ·by_cases e:j=k
   ·subst e;rw[Cy];exact hTs hv
   ·rw[Cw _ _ e];exact hsy j (by omega) hv
  ·by_cases e:j=k
   ·subst e;rw[Cy];exact hTn
   ·rw[Cw _ _ e];exact hnm j
  ·by_cases e:i=k
   ·subst e
    have:o'=o:=Option.some.inj (hi'.symm.trans h0);subst this;rw[Cy];exact λV W K hb hd hK=>ho V W K hb (λj hj=>by have:=hd j hj;unfold atV at this ⊢;rwa [Cw _ _ (by have:=hlt i hkn j hj;omega)]at this) hK
   ·rw[Cw _ _ e]
    exact λV W K hb hd hK=>hop i o' (by omega) hi' V W K hb (λj hj=>by have:=hd j hj;unfold atV at this ⊢;rwa [Cw _ _ (by have:=hlt i (by omega) j hj;omega)]at this) hK
theorem Ex{id:Nat}{a:Act}{w:World}{l:List Oper}(n f:Nat)(needs:List (List Nat))(own vary tailN:List Nat)(keeps:List (Nat × Nat))(R:Nat->World->World->Prop)(hm:P.follows .mixedOrders=true)(hB:Av l.toArray n=true)(hO:Nc l.toArray n needs own vary tailN keeps f=true)
  (h:DB P l.toArray a n w needs own vary R (λS=>(∀i j,keeps.contains (i,j)=true->∀V v W W',R i W W'->S j V v W->S j V v W')/\∀V W A,Below w.heap.size w W->(∀j,j<n->(tailN.contains j=true\/vary.contains j=false)->S j V (V j) W)->Hid (A=Af l.toArray V n a)->wpList P l.toArray Q (l.drop n) A W) (l.take n) 0 λ_ _ _ _=>True):(Code.region id l.toArray true).wp P Q a w:=by
 have hB':=hB;simp only[Av,Bool.and_eq_true,decide_eq_true_eq]at hB';obtain⟨⟨⟨⟨⟨hn,hs⟩,hc⟩,hdB⟩,hd⟩,hseq⟩:=hB';have hn':n<l.length:=by simpa using hn
 have hO':=hO;unfold Nc at hO';rw[Bool.and_eq_true,Bool.and_eq_true]at hO'
 have hlt:∀i,i<n->∀j,(BI needs i).contains j=true->j<i:=λi hi j hj=>by
  have hw:=List.all_eq_true.1 (List.all_eq_true.1 hO'.1.1 i (List.mem_range.2 hi)) j (List.contains_iff_mem.1 hj);obtain⟨oj,hoj,e,he,hbd,hon⟩:=Region.waitsFor_spec hw;have h1:=List.all_eq_true.1 hdB i (List.mem_range.2 hi);rw[hoj]at h1;have h2:=Array.all_eq_true'.1 h1 e he;rw[hbd]at h2;have h3:e.on<i:=by simpa using h2
  omega
 obtain⟨S0,h1,h2,hnm,h3,hkp,h4⟩:=Ge hlt (l.take n) 0 _ (by simp;omega) (λj hj=>by
  have:j<n:=by simp at hj;omega
  simp[this]) (λ_ _ _ _ _ _ _=>trivial) (λj hj=>absurd hj (by omega)) (λ_ _ _ _ _ _ h=>h) (λi o hi=>absurd hi (by omega)) h
 obtain⟨S,hS⟩:∃S:Nat->(Nat->Value)->Value->World->Prop,S=λj=>if j<n then S0 j else λ_ _ _=>True:=⟨_,rfl⟩
 have hSn:∀j,j<n->S j=S0 j:=λj hj=>by rw[hS];simp[hj]
 have hSo:∀j,¬j<n->S j=λ_ _ _=>True:=λj hj=>by rw[hS];simp[hj]
 refine wp_region_any hm ?_
 have inv0:HeadInv .any l.toArray n (Array.replicate l.toArray.size false):=
  ⟨by simp,λj oj _ hl=>(by rw[getD_replicate_false]at hl;cases hl),λt _ ht=>getD_in (by simpa using ht) (getD_replicate_false _ _)⟩
 have hb0:Below w.heap.size w {w with drawn:=w.drawn+1}:=⟨rfl,rfl,rfl,AG _,λ_ _=>rfl⟩
 have hleft:BW n (Array.replicate l.toArray.size false)=n:=by
  unfold BW;rw[List.countP_eq_length.2]
  ·simp
  ·intro i hi
   have:i<l.toArray.size:=by have:=List.mem_range.1 hi;omega
   rw[getD_in (by simpa using this) (getD_replicate_false _ _)];rfl
 obtain⟨V0,hV0⟩:∃V0,Af l.toArray V0 n a=a:=⟨_,C0 a n⟩
 have H:=Ib (P:=P) (Q:=Q) (g:=l.toArray.size - n) (f:=f) (S:=atV S) (T:=S) (R:=R) (keeps:=keeps) (w0:=w) (a0:=a) (needs:=needs) (own:=own) (vary:=vary) (tailN:=tailN) (λlisted inv i hi hu t ht=>tail_waits hs hc hn inv _ i rfl hi hu t ht) (by omega) hdB hd hO (λj=>rfl)
  (λj V W W' hq hb=>by
   unfold atV at hq ⊢
   by_cases hj:j<n
   ·rw[hSn j hj]at hq ⊢;exact h1 j V _ W W' hq hb
   ·rw[hSo j hj];trivial)
  (λj hv V W W' hq=>by
   unfold atV at hq ⊢
   by_cases hj:j<n
   ·rw[hSn j hj]at hq ⊢;exact h2 j hj hv V _ W W' hq
   ·rw[hSo j hj];trivial)
  (λj v V V' W hVV hq=>by
   by_cases hj:j<n
   ·simp only[hSn j hj]at hq ⊢;exact hnm j v V V' W hVV hq
   ·simp only[hSo j hj])
  (λi j hk V W W' hr hq=>by
   unfold atV at hq ⊢
   by_cases hj:j<n
   ·rw[hSn j hj]at hq ⊢;exact hkp i j hk V _ W W' hr hq
   ·rw[hSo j hj];trivial)
  (λi o hi ho=>by
   rw[hSn i hi]
   exact λV W K hb hd' hK=>h3 i o hi ho V W K hb (λj hj=>by have h':=hd' j hj;unfold atV at h' ⊢;rwa [hSn j (by have:=hlt i hi j hj;omega)]at h') hK)
  (λV W hb hS'=>by
   have hdl:(l.drop n).length=l.toArray.size - n:=by simp
   have:=wpAny_of_seq (md:=.any) (Q':=Q) (l.drop n) n (Bp l.toArray n) _ W (λj=>by simp[List.getElem?_drop]) (by rw[hdl];exact hseq) (h4 V W _ hb (λj hj hq=>by have h':=hS' j hj hq;unfold atV at h';rwa [hSn j hj]at h') rfl)
   rwa [hdl]at this)
  n _ V0 {w with drawn:=w.drawn+1} inv0 hleft hb0 (λj _ hl=>by rw[getD_replicate_false]at hl;cases hl)
 rw[hV0,show n+(l.toArray.size - n)=l.toArray.size by omega]at H;exact H
end
section
variable {P:Program} {ops:Array Oper} {Q:Exit->Act->World->Prop}
def Nd(ops:Array Oper)(n:Nat)(needs:List (List Nat))(own vary tailN jn:List Nat)(keeps:List (Nat × Nat))(f:Nat):Bool:=
 (own.all λi=>jn.all λt=>t==i||EL ops f i t)&&(jn.all λt=>decide (t<n))&&(
 ((List.range n).all λi=>(BI needs i).all λj=>Region.waitsFor .any ops i j)&&
 (tailN.all λj=>decide (j<n))&&
 own.all λi=>vary.all λj=>j==i||EL ops f j i||keeps.contains (i,j)||(!tailN.contains j&&(List.range n).all λt=>!(BI needs t).contains j||t==i||EL ops f i t))
def LC(P:Program)(ops:Array Oper)(a0:Act)(n:Nat)(needs:List (List Nat))(own jn:List Nat)(I J:World->Prop)(R:Nat->World->World->Prop)(S:Nat->(Nat->Value)->World->Prop)(i:Nat)(o:Oper)(T:(Nat->Value)->Value->World->Prop):Prop:=
 ∀(V:Nat->Value) (W:World) (K:Act->World->Prop),I W->(jn.contains i=true->J W)->(∀j,(BI needs i).contains j=true->S j V W)->
  Hid (∀v W',(if own.contains i then R i W W'/\I W' else Below W.heap.size W W')->T V v W'->K ((Af ops V n a0).put o.dst v) W')->wpList P ops (Ch K) [o] (Af ops V n a0) W
theorem Ic{n g f:Nat}{S:Nat->(Nat->Value)->World->Prop}{T:Nat->(Nat->Value)->Value->World->Prop}{R:Nat->World->World->Prop}{keeps:List (Nat × Nat)}{I J:World->Prop}{a0:Act}{needs:List (List Nat)}{own vary tailN jn:List Nat}
  (hw:∀listed,HeadInv .any ops n listed->∀i,i<n->listed.getD i true=false->∀t,n<=t->t∉Region.ready .any ops listed)
  (hn:n<=ops.size) (hdB:Dx .any ops n=true) (hd:DY ops n=true) (hown:Nd ops n needs own vary tailN jn keeps f=true) (hIg:∀W W',I W->Below W.heap.size W W'->I W') (hJg:∀W W',I W->J W->Below W.heap.size W W'->J W') (hST:∀j,S j=λV W=>T j V (V j) W)
  (hst:∀j,LastsV (S j)) (hsy:∀j,vary.contains j=false->N9 (S j)) (hnm:∀j v,ER (BI needs j) (λV W=>T j V v W)) (hkp:∀i j,keeps.contains (i,j)=true->∀V W W',R i W W'->S j V W->S j V W')
  (hop:∀i o,i<n->ops[i]?=some o->LC P ops a0 n needs own jn I J R S i o (T i))
  (hlast:∀V W,I W->(∀j,j<n->(tailN.contains j=true\/vary.contains j=false)->S j V W)->wpAny P .any ops Q g (Bp ops n) (Af ops V n a0) W):
  ∀(m:Nat) (listed:Array Bool) (V:Nat->Value) (W:World),HeadInv .any ops n listed->BW n listed=m->I W->(∀t,jn.contains t=true->listed.getD t false=false->J W)->(∀j,j<n->listed.getD j false=true->(vary.contains j=false\/Kl n needs tailN listed j)->S j V W)->
   wpAny P .any ops Q (m+g) listed (Af ops V n a0) W
 |0,listed,V,W,inv,hm,hb,hJ,hS=>by
  have hall:∀i,i<n->listed.getD i true=true:=by
   intro i hi;have:=List.countP_eq_zero.1 hm i (List.mem_range.2 hi)
   simpa using this
  rw[Cd inv hall,Nat.zero_add];refine hlast V W hb λj hj hq=>hS j hj ?_ ?_
  ·have:=hall j hj
   have hjs:j<listed.size:=by rw[inv.size];omega
   simp[hjs]at this ⊢;exact this
  ·rcases hq with hq|hq
   ·exact .inr (.inl hq)
   ·exact .inl hq
 |m+1,listed,V,W,inv,hm,hb,hJ,hS=>by
  obtain⟨u,hu,hul⟩:∃u,u<n/\listed.getD u true=false:=by
   have:0<BW n listed:=by omega
   obtain⟨u,hu,hul⟩:=List.countP_pos_iff.1 this;exact⟨u,List.mem_range.1 hu,by simpa using hul⟩
  rw[show m+1+g=(m+g)+1 by omega];refine⟨λh0=>absurd h0 (C3 hdB inv u hu hul),λi hi=>?_⟩
  have hin:i<n:=by
   rcases Nat.lt_or_ge i n with h|h
   ·exact h
   ·exact absurd hi (hw listed inv u hu hul i h)
  obtain⟨hun,o,ho,hall⟩:=mem_ready.1 hi
  have hr:∀j,Region.waitsFor .any ops i j=true->listed.getD j false=true:=λj hj=>by
   obtain⟨oj,hoj,e,he,hbd,hon⟩:=Region.waitsFor_spec hj;have:oj=o:=Option.some.inj (hoj.symm.trans ho);subst this;have hl:=hall e he hbd
   rwa [hon]at hl
  have hlt:∀j,Region.waitsFor .any ops i j=true->j<n:=λj hj=>by
   obtain⟨oj,hoj,e,he,hbd,hon⟩:=Region.waitsFor_spec hj;have h1:=List.all_eq_true.1 hdB i (List.mem_range.2 hin);rw[hoj]at h1;have h2:=Array.all_eq_true'.1 h1 e he;rw[hbd]at h2;have h3:e.on<i:=by simpa using h2
   omega
  have hB:=hown;unfold Nd at hB;rw[Bool.and_eq_true,Bool.and_eq_true,Bool.and_eq_true,Bool.and_eq_true]at hB;obtain⟨⟨hJ1,hJ2⟩,⟨hB1,_⟩,hB2⟩:=hB
  have hwait:∀t,t<n->∀j,(BI needs t).contains j=true->Region.waitsFor .any ops t j=true:=λt ht j hj=>
   List.all_eq_true.1 (List.all_eq_true.1 hB1 t (List.mem_range.2 ht)) j (List.contains_iff_mem.1 hj)
  have hif:listed.getD i false=false:=getD_both hun;refine Ck ho (hop i o hin ho V W _ hb (λhji=>hJ i hji hif) (λj hj=>?_) λv W' hb' hs'=>?_)
  ·exact hS j (hlt j (hwait i hin j hj)) (hr j (hwait i hin j hj)) (.inr (.inr ⟨i,hin,hj,hif⟩))
  ·have hdst:o.dst=(ops[i]?).bind (·.dst):=by rw[ho];rfl
   rw[hdst,DI hd hin];have his:i<listed.size:=by rw[inv.size];exact(AB ho).1
   have hb0:I W':=by
    split at hb'
    ·exact hb'.2
    ·exact hIg W W' hb hb'
   have hJ0:∀t,jn.contains t=true->(listed.setIfInBounds i true).getD t false=false->J W':=λt ht hlt'=>by
    have hti:t≠i:=λe=>by rw[e]at hlt';simp[his]at hlt'
    have hlt2:listed.getD t false=false:=by
     have h':=hlt';rw[getD_set_ne false (Ne.symm hti)]at h';exact h'
    by_cases how:own.contains i=true
    ·exfalso
     have h1:=List.all_eq_true.1 (List.all_eq_true.1 hJ1 i (List.contains_iff_mem.1 how)) t (List.contains_iff_mem.1 ht);rw[Bool.or_eq_true]at h1;rcases h1 with h1|h1
     ·exact hti (by simpa using h1)
     ·have:=FS inv hr f t h1
      rw[hlt2]at this;cases this
    ·rw[if_neg how]at hb'
     exact hJg W W' hb (hJ t ht hlt2) hb'
   refine Ic hw hn hdB hd hown hIg hJg hST hst hsy hnm hkp hop hlast m _ _ W' (inv.set hi hin) (by have:=DL hin his hun;omega) hb0 hJ0 λj hj hl hq=>?_
   by_cases hji:j=i
   ·subst hji
    rw[hST];simp only[upd,if_true];refine hnm j v V _ W' (λm hm=>?_) hs'
    have hmj:m≠j:=λe=>by
     subst e;have:=hr m (hwait m hin m hm);rw[hif]at this;cases this
    simp[upd,hmj]
   ·rw[getD_set_ne false (Ne.symm hji)]at hl
    have hlj:listed.getD j false=true:=hl
    have eV:∀W2,S j V W2->S j (upd V i v) W2:=λW2 h2=>by
     rw[hST]at h2 ⊢;simp only[upd,if_neg hji];refine hnm j (V j) V _ W2 (λm hm=>?_) h2
     have hmi:m≠i:=λe=>by
      subst e;have:=C5 inv hlj (hwait j hj m hm);rw[hif]at this;cases this
     simp[upd,hmi]
    refine eV W' ?_
    have hq0:vary.contains j=false\/Kl n needs tailN listed j:=by
     rcases hq with hq|hq|⟨t,ht,hn',hf⟩
     ·exact .inl hq
     ·exact .inr (.inl hq)
     ·refine .inr (.inr ⟨t,ht,hn',?_⟩)
      by_cases hti:t=i
      ·rw[hti];exact hif
      ·rwa [getD_set_ne false (Ne.symm hti)]at hf
    have hSj:=hS j hj hl hq0
    by_cases how:own.contains i=true
    ·cases hv:vary.contains j with
     |false=>exact hsy j hv _ _ _ hSj
     |true=>
      rw[if_pos how]at hb';have hc:=List.all_eq_true.1 (List.all_eq_true.1 hB2 i (List.contains_iff_mem.1 how)) j (List.contains_iff_mem.1 hv);rw[Bool.or_eq_true,Bool.or_eq_true,Bool.or_eq_true,Bool.and_eq_true]at hc;rcases hc with((hc|hc)|hc)|⟨hc1,hc2⟩
      ·exact absurd (by simpa using hc) hji
      ·have:=Df inv f j i hl hc
       rw[hif]at this;cases this
      ·exact hkp i j hc V W W' hb'.1 hSj
      ·exfalso
       rcases hq with hq|hq|⟨t,ht,hn',hf⟩
       ·rw[hv]at hq;cases hq
       ·rw[hq]at hc1;cases hc1
       ·have h3:=List.all_eq_true.1 hc2 t (List.mem_range.2 ht)
        rw[Bool.or_eq_true,Bool.or_eq_true,hn']at h3;rcases h3 with(h3|h3)|h3
        ·cases h3
        ·have:t=i:=by simpa using h3
         rw[this]at hf;simp[his]at hf
        ·have hlt':=FS inv hr f t h3
         by_cases hti:t=i
         ·rw[hti]at hf
          simp[his]at hf
         ·rw[getD_set_ne false (Ne.symm hti),hlt']at hf
          cases hf
    ·rw[if_neg how]at hb'
     exact hst j V W W' hSj hb'
def Dt(P:Program)(ops:Array Oper)(a0:Act)(n:Nat)(needs:List (List Nat))(own vary jn:List Nat)(I J:World->Prop)(R:Nat->World->World->Prop)(L:(Nat->(Nat->Value)->Value->World->Prop)->Prop):List Oper->Nat->(Nat->(Nat->Value)->Value->World->Prop)->Prop
 |[],_,S=>L S
 |o::rest,i,S=>∃T:(Nat->Value)->Value->World->Prop,(∀V v W W',T V v W->Below W.heap.size W W'->T V v W')/\(vary.contains i=false->∀V v W W',T V v W->T V v W')/\(∀v,ER (BI needs i) λV W=>T V v W)/\
   LC P ops a0 n needs own jn I J R (atV S) i o T/\Dt P ops a0 n needs own vary jn I J R L rest (i+1) (Ii S i T)
section
variable {a0:Act} {n:Nat} {needs:List (List Nat)} {own vary jn:List Nat} {I J:World->Prop} {R:Nat->World->World->Prop} {L:(Nat->(Nat->Value)->Value->World->Prop)->Prop} {o:Oper} {rest:List Oper} {i:Nat} {S:Nat->(Nat->Value)->Value->World->Prop}
theorem AS{u:Value}(hw:own.contains i=false)
  (h:∀(V:Nat->Value) (W:World) (K:Act->World->Prop) (A:Act),I W->(jn.contains i=true->J W)->(∀j,(BI needs i).contains j=true->S j V (V j) W)->Hid (A=Af ops V n a0)->
   Hid (∀W',Below W.heap.size W W'->K (A.put o.dst u) W')->wpList P ops (Ch K) [o] A W)
  (hr:Dt P ops a0 n needs own vary jn I J R L rest (i+1) (Ii S i λ_ v _=>v=u)):Dt P ops a0 n needs own vary jn I J R L (o::rest) i S:=
 ⟨λ_ v _=>v=u,λ_ _ _ _ h _=>h,λ_ _ _ _ _ h=>h,λ_ _ _ _ _ h=>h,λV W K hb hj hd hK=>h V W K _ hb hj hd rfl λW' hb'=>hK.out u W' (by rw[hw];exact hb') rfl,hr⟩
theorem Ds(T:(Nat->Value)->Value->World->Prop)(hT:∀V v W W',T V v W->Below W.heap.size W W'->T V v W')(hN:∀v,ER (BI needs i) λV W=>T V v W)(hw:own.contains i=true)(hv:vary.contains i=true)
  (h:∀(V:Nat->Value) (W:World) (K:Act->World->Prop) (A:Act),I W->(jn.contains i=true->J W)->(∀j,(BI needs i).contains j=true->S j V (V j) W)->Hid (A=Af ops V n a0)->
   Hid (∀v W',R i W W'->I W'->T V v W'->K (A.put o.dst v) W')->wpList P ops (Ch K) [o] A W)
  (hr:Dt P ops a0 n needs own vary jn I J R L rest (i+1) (Ii S i T)):Dt P ops a0 n needs own vary jn I J R L (o::rest) i S:=
 ⟨T,hT,λh=>(by rw[hv]at h;cases h),hN,λV W K hb hj hd hK=>h V W K _ hb hj hd rfl λv W' hr hb'=>hK.out v W' (by rw[hw];exact⟨hr,hb'⟩),hr⟩
end
theorem Gf{a0:Act}{n:Nat}{needs:List (List Nat)}{own vary jn:List Nat}{I J:World->Prop}{R:Nat->World->World->Prop}{L:(Nat->(Nat->Value)->Value->World->Prop)->Prop}(hlt:∀i,i<n->∀j,(BI needs i).contains j=true->j<i):∀(l:List Oper) (k:Nat) (S:Nat->(Nat->Value)->Value->World->Prop),k+l.length=n->(∀j,j<l.length->l[j]?=ops[k+j]?)->
  (∀j V v W W',S j V v W->Below W.heap.size W W'->S j V v W')->(∀j,j<k->vary.contains j=false->∀V v W W',S j V v W->S j V v W')->(∀j v,ER (BI needs j) λV W=>S j V v W)->(∀i o,i<k->ops[i]?=some o->LC P ops a0 n needs own jn I J R (atV S) i o (S i))->Dt P ops a0 n needs own vary jn I J R L l k S->
  ∃S',(∀j V v W W',S' j V v W->Below W.heap.size W W'->S' j V v W')/\(∀j,j<n->vary.contains j=false->∀V v W W',S' j V v W->S' j V v W')/\(∀j v,ER (BI needs j) λV W=>S' j V v W)/\(∀i o,i<n->ops[i]?=some o->LC P ops a0 n needs own jn I J R (atV S') i o (S' i))/\L S'
 |[],k,S,hk,_,hl,hs,hnm,hop,h=>by
  have e:n=k:=by simpa using hk.symm
  rw[e];rw[e]at hop;exact⟨S,hl,hs,hnm,hop,h⟩
 |o::l,k,S,hk,hs,hl,hsy,hnm,hop,⟨T,hT,hTs,hTn,ho,h⟩=>by
  have h0:ops[k]?=some o:=by simpa using (hs 0 (by simp)).symm
  have hkn:k<n:=by simp only[List.length_cons]at hk;omega
  refine Gf hlt l (k+1) _ (by simp only[List.length_cons]at hk;omega) (λj hj=>by have:=hs (j+1) (by simp;omega);simpa [Nat.add_assoc,Nat.add_comm 1 j] using this) (λj=>?_) (λj hj hv=>?_) (λj=>?_) (λi o' hi hi'=>?_) h
  ·by_cases e:j=k
   ·subst e;rw[Cy];exact hT
   ·rw[Cw _ _ e];exact hl j
  ·by_cases e:j=k
   ·subst e;rw[Cy];exact hTs hv
   ·rw[Cw _ _ e];exact hsy j (by omega) hv
  ·by_cases e:j=k
   ·subst e;rw[Cy];exact hTn
   ·rw[Cw _ _ e];exact hnm j
  ·by_cases e:i=k
   ·subst e
    have:o'=o:=Option.some.inj (hi'.symm.trans h0);subst this;rw[Cy];exact λV W K hb hj hd hK=>ho V W K hb hj (λj hj=>by have:=hd j hj;unfold atV at this ⊢;rwa [Cw _ _ (by have:=hlt i hkn j hj;omega)]at this) hK
   ·rw[Cw _ _ e]
    exact λV W K hb hj hd hK=>hop i o' (by omega) hi' V W K hb hj (λj hj=>by have:=hd j hj;unfold atV at this ⊢;rwa [Cw _ _ (by have:=hlt i (by omega) j hj;omega)]at this) hK
theorem Br{id:Nat}{a:Act}{w:World}{l:List Oper}(n f:Nat)(needs:List (List Nat))(own vary tailN jn:List Nat)(keeps:List (Nat × Nat))(I J:World->Prop)(R:Nat->World->World->Prop)(hI0:∀W,Below w.heap.size w W->I W)(hJ0:∀W,Below w.heap.size w W->J W)(hIg:∀W W',I W->Below W.heap.size W W'->I W')(hJg:∀W W',I W->J W->Below W.heap.size W W'->J W')(hm:P.follows .mixedOrders=true)(hB:Av l.toArray n=true)(hO:Nd l.toArray n needs own vary tailN jn keeps f=true)
  (h:Dt P l.toArray a n needs own vary jn I J R (λS=>(∀i j,keeps.contains (i,j)=true->∀V v W W',R i W W'->S j V v W->S j V v W')/\∀V W A,I W->(∀j,j<n->(tailN.contains j=true\/vary.contains j=false)->S j V (V j) W)->Hid (A=Af l.toArray V n a)->wpList P l.toArray Q (l.drop n) A W) (l.take n) 0 λ_ _ _ _=>True):(Code.region id l.toArray true).wp P Q a w:=by
 have hB':=hB;simp only[Av,Bool.and_eq_true,decide_eq_true_eq]at hB';obtain⟨⟨⟨⟨⟨hn,hs⟩,hc⟩,hdB⟩,hd⟩,hseq⟩:=hB';have hn':n<l.length:=by simpa using hn
 have hO':=hO;unfold Nd at hO';rw[Bool.and_eq_true,Bool.and_eq_true,Bool.and_eq_true,Bool.and_eq_true]at hO'
 have hlt:∀i,i<n->∀j,(BI needs i).contains j=true->j<i:=λi hi j hj=>by
  have hw:=List.all_eq_true.1 (List.all_eq_true.1 hO'.2.1.1 i (List.mem_range.2 hi)) j (List.contains_iff_mem.1 hj);obtain⟨oj,hoj,e,he,hbd,hon⟩:=Region.waitsFor_spec hw;have h1:=List.all_eq_true.1 hdB i (List.mem_range.2 hi);rw[hoj]at h1;have h2:=Array.all_eq_true'.1 h1 e he;rw[hbd]at h2;have h3:e.on<i:=by simpa using h2
  omega
 obtain⟨S0,h1,h2,hnm,h3,hkp,h4⟩:=Gf hlt (l.take n) 0 _ (by simp;omega) (λj hj=>by
  have:j<n:=by simp at hj;omega
  simp[this]) (λ_ _ _ _ _ _ _=>trivial) (λj hj=>absurd hj (by omega)) (λ_ _ _ _ _ _ h=>h) (λi o hi=>absurd hi (by omega)) h
 obtain⟨S,hS⟩:∃S:Nat->(Nat->Value)->Value->World->Prop,S=λj=>if j<n then S0 j else λ_ _ _=>True:=⟨_,rfl⟩
 have hSn:∀j,j<n->S j=S0 j:=λj hj=>by rw[hS];simp[hj]
 have hSo:∀j,¬j<n->S j=λ_ _ _=>True:=λj hj=>by rw[hS];simp[hj]
 refine wp_region_any hm ?_
 have inv0:HeadInv .any l.toArray n (Array.replicate l.toArray.size false):=
  ⟨by simp,λj oj _ hl=>(by rw[getD_replicate_false]at hl;cases hl),λt _ ht=>getD_in (by simpa using ht) (getD_replicate_false _ _)⟩
 have hb0:Below w.heap.size w {w with drawn:=w.drawn+1}:=⟨rfl,rfl,rfl,AG _,λ_ _=>rfl⟩
 have hleft:BW n (Array.replicate l.toArray.size false)=n:=by
  unfold BW;rw[List.countP_eq_length.2]
  ·simp
  ·intro i hi
   have:i<l.toArray.size:=by have:=List.mem_range.1 hi;omega
   rw[getD_in (by simpa using this) (getD_replicate_false _ _)];rfl
 obtain⟨V0,hV0⟩:∃V0,Af l.toArray V0 n a=a:=⟨_,C0 a n⟩
 have H:=Ic (P:=P) (Q:=Q) (g:=l.toArray.size - n) (f:=f) (S:=atV S) (T:=S) (R:=R) (keeps:=keeps) (I:=I) (J:=J) (jn:=jn) (a0:=a) (needs:=needs) (own:=own) (vary:=vary) (tailN:=tailN) (λlisted inv i hi hu t ht=>tail_waits hs hc hn inv _ i rfl hi hu t ht) (by omega) hdB hd hO hIg hJg (λj=>rfl)
  (λj V W W' hq hb=>by
   unfold atV at hq ⊢
   by_cases hj:j<n
   ·rw[hSn j hj]at hq ⊢;exact h1 j V _ W W' hq hb
   ·rw[hSo j hj];trivial)
  (λj hv V W W' hq=>by
   unfold atV at hq ⊢
   by_cases hj:j<n
   ·rw[hSn j hj]at hq ⊢;exact h2 j hj hv V _ W W' hq
   ·rw[hSo j hj];trivial)
  (λj v V V' W hVV hq=>by
   by_cases hj:j<n
   ·simp only[hSn j hj]at hq ⊢;exact hnm j v V V' W hVV hq
   ·simp only[hSo j hj])
  (λi j hk V W W' hr hq=>by
   unfold atV at hq ⊢
   by_cases hj:j<n
   ·rw[hSn j hj]at hq ⊢;exact hkp i j hk V _ W W' hr hq
   ·rw[hSo j hj];trivial)
  (λi o hi ho=>by
   rw[hSn i hi]
   exact λV W K hb hj hd' hK=>h3 i o hi ho V W K hb hj (λj hj=>by have h':=hd' j hj;unfold atV at h' ⊢;rwa [hSn j (by have:=hlt i hi j hj;omega)]at h') hK)
  (λV W hb hS'=>by
   have hdl:(l.drop n).length=l.toArray.size - n:=by simp
   have:=wpAny_of_seq (md:=.any) (Q':=Q) (l.drop n) n (Bp l.toArray n) _ W (λj=>by simp[List.getElem?_drop]) (by rw[hdl];exact hseq) (h4 V W _ hb (λj hj hq=>by have h':=hS' j hj hq;unfold atV at h';rwa [hSn j hj]at h') rfl)
   rwa [hdl]at this)
  n _ V0 {w with drawn:=w.drawn+1} inv0 hleft (hI0 _ hb0) (λ_ _ _=>hJ0 _ hb0) (λj _ hl=>by rw[getD_replicate_false]at hl;cases hl)
 rw[hV0,show n+(l.toArray.size - n)=l.toArray.size by omega]at H;exact H
end
end
end Go.Proofs.YtbceafpodamnfaaGreat
