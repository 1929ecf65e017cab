import Derived.Test.YtbceafpodamnfaaH10
import Derived.Great.BuildSlice
set_option linter.all false
namespace Go.Proofs.Ytbceafpodamnfaa
attribute [local simp] svV cpV zbV czV aaV ctZ ad bkV ctV acV
attribute [local go_sem] svV cpV zbV czV aaV ctZ ad bkV ctV acV
section
open Go Go.RowKit
section
variable {P:Program} {ops:Array Oper} {Q:Exit->Act->World->Prop}
def KF(T:Value->World->Prop):Prop:=∀v W W',T v W->T v W'
def GE(ops:Array Oper):Nat->Nat->Nat->Bool
 |0,i,t=>Region.waitsFor .any ops i t
 |f+1,i,t=>Region.waitsFor .any ops i t||(List.range ops.size).any λm=>Region.waitsFor .any ops i m&&GE ops f m t
def Br(needs:List (List Nat))(i:Nat):List Nat:=needs.getD i []
def ownB(ops:Array Oper)(n:Nat)(needs:List (List Nat))(own vary tailN:List Nat)(f:Nat):Bool:=
 ((List.range n).all λi=>(Br needs i).all λj=>Region.waitsFor .any ops i j)&&
 (tailN.all λj=>decide (j<n))&&
 own.all λi=>vary.all λj=>j==i||Region.waitsFor .any ops j i||(!tailN.contains j&&(List.range n).all λt=>!(Br needs t).contains j||t==i||GE ops f i t)
theorem Dk{n:Nat}{listed:Array Bool}(inv:HeadInv .any ops n listed){m t:Nat}(hm:listed.getD m false=true)(h:Region.waitsFor .any ops m t=true):listed.getD t false=true:=by
 obtain⟨o,ho,e,he,hb,hon⟩:=Region.waitsFor_spec h;have:=inv.closed m o ho hm e he hb
 rwa [hon]at this
theorem Fh{n:Nat}{listed:Array Bool}(inv:HeadInv .any ops n listed):∀(f m t:Nat),listed.getD m false=true->GE ops f m t=true->listed.getD t false=true
 |0,m,t,hm,h=>Dk inv hm h
 |f+1,m,t,hm,h=>by
  unfold GE at h;rcases Bool.or_eq_true_iff.1 h with h|h
  ·exact Dk inv hm h
  ·obtain⟨q,_,hq⟩:=List.any_eq_true.1 h
   rw[Bool.and_eq_true]at hq;exact Fh inv f q t (Dk inv hm hq.1) hq.2
theorem IT{n:Nat}{listed:Array Bool}(inv:HeadInv .any ops n listed){i:Nat}(hr:∀j,Region.waitsFor .any ops i j=true->listed.getD j false=true):∀(f t:Nat),GE ops f i t=true->listed.getD t false=true
 |0,t,h=>hr t h
 |f+1,t,h=>by
  unfold GE at h;rcases Bool.or_eq_true_iff.1 h with h|h
  ·exact hr t h
  ·obtain⟨q,_,hq⟩:=List.any_eq_true.1 h
   rw[Bool.and_eq_true]at hq;exact Fh inv f q t (hr q hq.1) hq.2
def Mp(P:Program)(ops:Array Oper)(a0:Act)(n:Nat)(w0:World)(needs:List (List Nat))(own:List Nat)(S:Nat->Value->World->Prop)(i:Nat)(o:Oper)(T:Value->World->Prop):Prop:=
 ∀(V:Nat->Value) (W:World) (K:Act->World->Prop),Below w0.heap.size w0 W->(∀j,(Br needs i).contains j=true->S j (V j) W)->
  Hid (∀v W',Below (if own.contains i then w0.heap.size else W.heap.size) W W'->T v W'->K ((Ad ops V n a0).put o.dst v) W')->wpList P ops (Cv K) [o] (Ad ops V n a0) W
def LV(n:Nat)(needs:List (List Nat))(tailN:List Nat)(listed:Array Bool)(j:Nat):Prop:=tailN.contains j=true\/∃t,t<n/\(Br needs t).contains j=true/\listed.getD t false=false
theorem Kt{n g f:Nat}{S:Nat->Value->World->Prop}{w0:World}{a0:Act}{needs:List (List Nat)}{own vary tailN:List Nat}
  (hw:∀listed,HeadInv .any ops n listed->∀i,i<n->listed.getD i true=false->∀t,n<=t->t∉Region.ready .any ops listed)
  (hn:n<=ops.size) (hdB:FX .any ops n=true) (hd:CI ops n=true) (hown:ownB ops n needs own vary tailN f=true)
  (hst:∀j,FH (S j)) (hsy:∀j,vary.contains j=false->KF (S j))
  (hop:∀i o,i<n->ops[i]?=some o->Mp P ops a0 n w0 needs own S i o (S i))
  (hlast:∀V W,Below w0.heap.size w0 W->(∀j,j<n->(tailN.contains j=true\/vary.contains j=false)->S j (V j) W)->wpAny P .any ops Q g (C9 ops n) (Ad ops V n a0) W):
  ∀(m:Nat) (listed:Array Bool) (V:Nat->Value) (W:World),HeadInv .any ops n listed->Bn n listed=m->Below w0.heap.size w0 W->(∀j,j<n->listed.getD j false=true->(vary.contains j=false\/LV n needs tailN listed j)->S j (V j) W)->
   wpAny P .any ops Q (m+g) listed (Ad ops V n a0) W
 |0,listed,V,W,inv,hm,hb,hS=>by
  have hall:∀i,i<n->listed.getD i true=true:=by
   intro i hi;have:=List.countP_eq_zero.1 hm i (List.mem_range.2 hi)
   simpa using this
  rw[C3 inv hall,Nat.zero_add];refine hlast V W hb λj hj hq=>hS j hj ?_ ?_
  ·have:=hall j hj
   have hjs:j<listed.size:=by rw[inv.size];omega
   simp[hjs]at this ⊢;exact this
  ·rcases hq with hq|hq
   ·exact .inr (.inl hq)
   ·exact .inl hq
 |m+1,listed,V,W,inv,hm,hb,hS=>by
  obtain⟨u,hu,hul⟩:∃u,u<n/\listed.getD u true=false:=by
   have:0<Bn n listed:=by omega
   obtain⟨u,hu,hul⟩:=List.countP_pos_iff.1 this;exact⟨u,List.mem_range.1 hu,by simpa using hul⟩
  rw[show m+1+g=(m+g)+1 by omega];refine⟨λh0=>absurd h0 (Dj hdB inv u hu hul),λi hi=>?_⟩
  have hin:i<n:=by
   rcases Nat.lt_or_ge i n with h|h
   ·exact h
   ·exact absurd hi (hw listed inv u hu hul i h)
  obtain⟨hun,o,ho,hall⟩:=mem_ready.1 hi
  have hr:∀j,Region.waitsFor .any ops i j=true->listed.getD j false=true:=λj hj=>by
   obtain⟨oj,hoj,e,he,hbd,hon⟩:=Region.waitsFor_spec hj;have:oj=o:=Option.some.inj (hoj.symm.trans ho);subst this;have hl:=hall e he hbd
   rwa [hon]at hl
  have hlt:∀j,Region.waitsFor .any ops i j=true->j<n:=λj hj=>by
   obtain⟨oj,hoj,e,he,hbd,hon⟩:=Region.waitsFor_spec hj;have h1:=List.all_eq_true.1 hdB i (List.mem_range.2 hin);rw[hoj]at h1;have h2:=Array.all_eq_true'.1 h1 e he;rw[hbd]at h2;have h3:e.on<i:=by simpa using h2
   omega
  have hB:=hown;unfold ownB at hB;rw[Bool.and_eq_true,Bool.and_eq_true]at hB;obtain⟨⟨hB1,_⟩,hB2⟩:=hB
  have hwait:∀t,t<n->∀j,(Br needs t).contains j=true->Region.waitsFor .any ops t j=true:=λt ht j hj=>
   List.all_eq_true.1 (List.all_eq_true.1 hB1 t (List.mem_range.2 ht)) j (List.contains_iff_mem.1 hj)
  have hif:listed.getD i false=false:=getD_both hun;refine DJ ho (hop i o hin ho V W _ hb (λj hj=>?_) λv W' hb' hs'=>?_)
  ·exact hS j (hlt j (hwait i hin j hj)) (hr j (hwait i hin j hj)) (.inr (.inr ⟨i,hin,hj,hif⟩))
  ·have hdst:o.dst=(ops[i]?).bind (·.dst):=by rw[ho];rfl
   rw[hdst,Dc hd hin];have his:i<listed.size:=by rw[inv.size];exact(AB ho).1
   have hb0:Below w0.heap.size w0 W':=by
    split at hb'
    ·exact hb.trans hb'
    ·exact hb.trans (hb'.mono hb.size)
   refine Kt hw hn hdB hd hown hst hsy hop hlast m _ _ W' (inv.set hi hin) (by have:=Dx hin his hun;omega) hb0 λj hj hl hq=>?_
   by_cases hji:j=i
   ·subst hji
    simpa [upd] using hs'
   ·rw[getD_set_ne false (Ne.symm hji)]at hl
    have eV:upd V i v j=V j:=by simp[upd,hji]
    rw[eV]
    have hq0:vary.contains j=false\/LV n needs tailN listed j:=by
     rcases hq with hq|hq|⟨t,ht,hn',hf⟩
     ·exact .inl hq
     ·exact .inr (.inl hq)
     ·refine .inr (.inr ⟨t,ht,hn',?_⟩)
      by_cases hti:t=i
      ·rw[hti];exact hif
      ·rwa [getD_set_ne false (Ne.symm hti)]at hf
    have hSj:=hS j hj hl hq0
    by_cases how:own.contains i=true
    ·cases hv:vary.contains j with
     |false=>exact hsy j hv _ _ _ hSj
     |true=>
      exfalso
      have hc:=List.all_eq_true.1 (List.all_eq_true.1 hB2 i (List.contains_iff_mem.1 how)) j (List.contains_iff_mem.1 hv);rw[Bool.or_eq_true,Bool.or_eq_true,Bool.and_eq_true]at hc;rcases hc with(hc|hc)|⟨hc1,hc2⟩
      ·exact hji (by simpa using hc)
      ·have:=Dk inv hl hc
       rw[hif]at this;cases this
      ·rcases hq with hq|hq|⟨t,ht,hn',hf⟩
       ·rw[hv]at hq;cases hq
       ·rw[hq]at hc1;cases hc1
       ·have h3:=List.all_eq_true.1 hc2 t (List.mem_range.2 ht)
        rw[Bool.or_eq_true,Bool.or_eq_true,hn']at h3;rcases h3 with(h3|h3)|h3
        ·cases h3
        ·have:t=i:=by simpa using h3
         rw[this]at hf;simp[his]at hf
        ·have hlt':=IT inv hr f t h3
         by_cases hti:t=i
         ·rw[hti]at hf
          simp[his]at hf
         ·rw[getD_set_ne false (Ne.symm hti),hlt']at hf
          cases hf
    ·rw[if_neg how]at hb'
     exact hst j (V j) W W' hSj hb'
theorem KL{id:Nat}{a:Act}{w:World}{l:List Oper}(n f:Nat)(needs:List (List Nat))(own vary tailN:List Nat)(S:Nat->Value->World->Prop)(hm:P.follows .mixedOrders=true)(hB:Ap l.toArray n=true)(hO:ownB l.toArray n needs own vary tailN f=true)
  (hst:∀j,FH (S j)) (hsy:∀j,vary.contains j=false->KF (S j)) (hop:∀i o,i<n->l.toArray[i]?=some o->Mp P l.toArray a n w needs own S i o (S i))
  (hlast:∀V W,Below w.heap.size w W->(∀j,j<n->(tailN.contains j=true\/vary.contains j=false)->S j (V j) W)->wpList P l.toArray Q (l.drop n) (Ad l.toArray V n a) W):(Code.region id l.toArray true).wp P Q a w:=by
 simp only[Ap,Bool.and_eq_true,decide_eq_true_eq]at hB;obtain⟨⟨⟨⟨⟨hn,hs⟩,hc⟩,hdB⟩,hd⟩,hseq⟩:=hB;refine wp_region_any hm ?_
 have inv0:HeadInv .any l.toArray n (Array.replicate l.toArray.size false):=
  ⟨by simp,λj oj _ hl=>(by rw[getD_replicate_false]at hl;cases hl),λt _ ht=>getD_in (by simpa using ht) (getD_replicate_false _ _)⟩
 have hb0:Below w.heap.size w {w with drawn:=w.drawn+1}:=⟨rfl,rfl,rfl,AG _,λ_ _=>rfl⟩
 have hleft:Bn n (Array.replicate l.toArray.size false)=n:=by
  unfold Bn;rw[List.countP_eq_length.2]
  ·simp
  ·intro i hi
   have:i<l.toArray.size:=by have:=List.mem_range.1 hi;omega
   rw[getD_in (by simpa using this) (getD_replicate_false _ _)];rfl
 obtain⟨V0,hV0⟩:∃V0,Ad l.toArray V0 n a=a:=⟨_,DF a n⟩
 have H:=Kt (P:=P) (Q:=Q) (g:=l.toArray.size - n) (f:=f) (S:=S) (w0:=w) (a0:=a) (needs:=needs) (own:=own) (vary:=vary) (tailN:=tailN) (λlisted inv i hi hu t ht=>tail_waits hs hc hn inv _ i rfl hi hu t ht) (by omega) hdB hd hO hst hsy hop
  (λV W hb hS=>by
   have hdl:(l.drop n).length=l.toArray.size - n:=by simp
   have:=wpAny_of_seq (md:=.any) (Q':=Q) (l.drop n) n (C9 l.toArray n) _ W (λj=>by simp[List.getElem?_drop]) (by rw[hdl];exact hseq) (hlast V W hb hS)
   rwa [hdl]at this)
  n _ V0 {w with drawn:=w.drawn+1} inv0 hleft hb0 (λj _ hl=>by rw[getD_replicate_false]at hl;cases hl)
 rw[hV0,show n+(l.toArray.size - n)=l.toArray.size by omega]at H;exact H
def EU(P:Program)(ops:Array Oper)(a0:Act)(n:Nat)(w0:World)(needs:List (List Nat))(own vary:List Nat)(L:(Nat->Value->World->Prop)->Prop):List Oper->Nat->(Nat->Value->World->Prop)->Prop
 |[],_,S=>L S
 |o::rest,i,S=>∃T,FH T/\(vary.contains i=false->KF T)/\Mp P ops a0 n w0 needs own S i o T/\EU P ops a0 n w0 needs own vary L rest (i+1) (Fb S i T)
section
variable {a0:Act} {n:Nat} {w0:World} {needs:List (List Nat)} {own vary:List Nat} {L:(Nat->Value->World->Prop)->Prop} {o:Oper} {rest:List Oper} {i:Nat} {S:Nat->Value->World->Prop}
theorem BE{u:Value}(hw:own.contains i=false)
  (h:∀(V:Nat->Value) (W:World) (K:Act->World->Prop) (A:Act),Below w0.heap.size w0 W->(∀j,(Br needs i).contains j=true->S j (V j) W)->Hid (A=Ad ops V n a0)->
   Hid (∀W',Below W.heap.size W W'->K (A.put o.dst u) W')->wpList P ops (Cv K) [o] A W)
  (hr:EU P ops a0 n w0 needs own vary L rest (i+1) (Fb S i λv _=>v=u)):EU P ops a0 n w0 needs own vary L (o::rest) i S:=
 ⟨λv _=>v=u,λ_ _ _ h _=>h,λ_ _ _ _ h=>h,λV W K hb hd hK=>h V W K _ hb hd rfl λW' hb'=>hK.out u W' (by rw[hw];exact hb') rfl,hr⟩
theorem CC(T:Value->World->Prop)(hT:FH T)(hw:own.contains i=false)(hv:vary.contains i=true)
  (h:∀(V:Nat->Value) (W:World) (K:Act->World->Prop) (A:Act),Below w0.heap.size w0 W->(∀j,(Br needs i).contains j=true->S j (V j) W)->Hid (A=Ad ops V n a0)->
   Hid (∀v W',Below W.heap.size W W'->T v W'->K (A.put o.dst v) W')->wpList P ops (Cv K) [o] A W)
  (hr:EU P ops a0 n w0 needs own vary L rest (i+1) (Fb S i T)):EU P ops a0 n w0 needs own vary L (o::rest) i S:=
 ⟨T,hT,λh=>(by rw[hv]at h;cases h),λV W K hb hd hK=>h V W K _ hb hd rfl λv W' hb'=>hK.out v W' (by rw[hw];exact hb'),hr⟩
theorem D9(T:Value->World->Prop)(hT:FH T)(hw:own.contains i=true)(hv:vary.contains i=true)
  (h:∀(V:Nat->Value) (W:World) (K:Act->World->Prop) (A:Act),Below w0.heap.size w0 W->(∀j,(Br needs i).contains j=true->S j (V j) W)->Hid (A=Ad ops V n a0)->
   Hid (∀v W',Below w0.heap.size W W'->T v W'->K (A.put o.dst v) W')->wpList P ops (Cv K) [o] A W)
  (hr:EU P ops a0 n w0 needs own vary L rest (i+1) (Fb S i T)):EU P ops a0 n w0 needs own vary L (o::rest) i S:=
 ⟨T,hT,λh=>(by rw[hv]at h;cases h),λV W K hb hd hK=>h V W K _ hb hd rfl λv W' hb'=>hK.out v W' (by rw[hw];exact hb'),hr⟩
end
theorem IV{a0:Act}{n:Nat}{w0:World}{needs:List (List Nat)}{own vary:List Nat}{L:(Nat->Value->World->Prop)->Prop}(hlt:∀i,i<n->∀j,(Br needs i).contains j=true->j<i):∀(l:List Oper) (k:Nat) (S:Nat->Value->World->Prop),k+l.length=n->(∀j,j<l.length->l[j]?=ops[k+j]?)->
  (∀j,FH (S j))->(∀j,j<k->vary.contains j=false->KF (S j))->(∀i o,i<k->ops[i]?=some o->Mp P ops a0 n w0 needs own S i o (S i))->EU P ops a0 n w0 needs own vary L l k S->
  ∃S',(∀j,FH (S' j))/\(∀j,j<n->vary.contains j=false->KF (S' j))/\(∀i o,i<n->ops[i]?=some o->Mp P ops a0 n w0 needs own S' i o (S' i))/\L S'
 |[],k,S,hk,_,hl,hs,hop,h=>by
  have e:n=k:=by simpa using hk.symm
  rw[e];rw[e]at hop;exact⟨S,hl,hs,hop,h⟩
 |o::l,k,S,hk,hs,hl,hsy,hop,⟨T,hT,hTs,ho,h⟩=>by
  have h0:ops[k]?=some o:=by simpa using (hs 0 (by simp)).symm
  have hkn:k<n:=by simp only[List.length_cons]at hk;omega
  refine IV hlt l (k+1) _ (by simp only[List.length_cons]at hk;omega) (λj hj=>by have:=hs (j+1) (by simp;omega);simpa [Nat.add_assoc,Nat.add_comm 1 j] using this) (λj=>?_) (λj hj hv=>?_) (λi o' hi hi'=>?_) h
  ·by_cases e:j=k
   ·subst e;rw[Ch];exact hT
   ·rw[B8 _ _ e];exact hl j
  ·by_cases e:j=k
   ·subst e;rw[Ch];exact hTs hv
   ·rw[B8 _ _ e];exact hsy j (by omega) hv
  ·by_cases e:i=k
   ·subst e
    have:o'=o:=Option.some.inj (hi'.symm.trans h0);subst this;rw[Ch];exact λV W K hb hd hK=>ho V W K hb (λj hj=>by have:=hd j hj;rwa [B8 _ _ (by have:=hlt i hkn j hj;omega)]at this) hK
   ·rw[B8 _ _ e]
    exact λV W K hb hd hK=>hop i o' (by omega) hi' V W K hb (λj hj=>by have:=hd j hj;rwa [B8 _ _ (by have:=hlt i (by omega) j hj;omega)]at this) hK
theorem Cf{id:Nat}{a:Act}{w:World}{l:List Oper}(n f:Nat)(needs:List (List Nat))(own vary tailN:List Nat)(hm:P.follows .mixedOrders=true)(hB:Ap l.toArray n=true)(hO:ownB l.toArray n needs own vary tailN f=true)
  (h:EU P l.toArray a n w needs own vary (λS=>∀V W A,Below w.heap.size w W->(∀j,j<n->(tailN.contains j=true\/vary.contains j=false)->S j (V j) W)->Hid (A=Ad l.toArray V n a)->wpList P l.toArray Q (l.drop n) A W) (l.take n) 0 λ_ _ _=>True):(Code.region id l.toArray true).wp P Q a w:=by
 have hB':=hB;simp only[Ap,Bool.and_eq_true,decide_eq_true_eq]at hB';obtain⟨⟨⟨⟨⟨hn,_⟩,_⟩,hdB⟩,_⟩,_⟩:=hB';have hn':n<l.length:=by simpa using hn
 have hO':=hO;unfold ownB at hO';rw[Bool.and_eq_true,Bool.and_eq_true]at hO'
 have hlt:∀i,i<n->∀j,(Br needs i).contains j=true->j<i:=λi hi j hj=>by
  have hw:=List.all_eq_true.1 (List.all_eq_true.1 hO'.1.1 i (List.mem_range.2 hi)) j (List.contains_iff_mem.1 hj);obtain⟨oj,hoj,e,he,hbd,hon⟩:=Region.waitsFor_spec hw;have h1:=List.all_eq_true.1 hdB i (List.mem_range.2 hi);rw[hoj]at h1;have h2:=Array.all_eq_true'.1 h1 e he;rw[hbd]at h2;have h3:e.on<i:=by simpa using h2
  omega
 obtain⟨S,h1,h2,h3,h4⟩:=IV hlt (l.take n) 0 _ (by simp;omega) (λj hj=>by
  have:j<n:=by simp at hj;omega
  simp[this]) (λ_ _ _ _ _ _=>trivial) (λj hj=>absurd hj (by omega)) (λi o hi=>absurd hi (by omega)) h
 refine KL n f needs own vary tailN (λj=>if j<n then S j else λ_ _=>True) hm hB hO (λj=>?_) (λj hv=>?_) (λi o hi ho=>?_) λV W hb hS=>h4 V W _ hb (λj hj hq=>by have h':=hS j hj hq;rwa [if_pos hj]at h') rfl
 ·split
  ·exact h1 j
  ·exact λ_ _ _ _ _=>trivial
 ·by_cases hj:j<n
  ·rw[if_pos hj];exact h2 j hj hv
  ·rw[if_neg hj];exact λ_ _ _ _=>trivial
 ·rw[if_pos hi]
  exact λV W K hb hd hK=>h3 i o hi ho V W K hb (λj hj=>by have h':=hd j hj;dsimp only at h';rwa [if_pos (by have:=hlt i hi j hj;omega)]at h') hK
end
end
section
open Go.RowKit
section
variable {P:Program}
theorem Cg{ops:Array Oper}{rest:List Oper}{o:Oper}{a:Act}{w:World}{Q:Exit->Act->World->Prop}(hgd:o.guard=none)(t:TypeId)(x:Operand)(lo hi mx:Option Operand)(ho:o.op=.slice t x lo hi mx)
  (ht:P.underlying t=some (.slice (P.elem t))) (size:Nat) (hsz:(P.info? (P.elem t)).map (·.size)=some size) (g off n cap l h m:Nat) (hx:a.eval x=.slice (some ⟨g,off,none⟩) n cap) (lv hv mv:Option Value) (hlv:lo.map a.eval=lv) (hhv:hi.map a.eval=hv) (hmv:mx.map a.eval=mv)
  (hrun:∀w:World,(Instr.slice t (.slice (some ⟨g,off,none⟩) n cap) lv hv mv).run P w=((sizeOf (P.elem t)).run P w).andThen λs w=>.ok (sliced (some ⟨g,off,none⟩) l h m s) w)
  (hk:∀off',(off'=off+l*size\/m=l)->wpList P ops Q rest (a.put o.dst (.slice (some ⟨g,off',none⟩) (h - l) (m - l))) w):wpList P ops Q (o::rest) a w:=by
 refine wpList_plain hgd λK hK=>?_
 obtain⟨i,hi',his⟩:∃i,P.info? (P.elem t)=some i/\i.size=size:=by
  cases hq:P.info? (P.elem t) with
  |none=>simp[hq]at hsz
  |some i=>exact⟨i,rfl,by simpa [hq] using hsz⟩
 have hs:(sizeOf (P.elem t)).run P w=.ok size w:=by simp[sizeOf,typeInfo,hi',his]
 have hrun:=hrun w;rw[hs]at hrun;simp only[Result.andThen_ok]at hrun;unfold Oper.wp execOp;simp only[ho,hx,hlv,hhv,hmv,run_sliceAt_slice w t _ _ _ _ ht,Sem.run_bind,hrun,Result.andThen_ok,Sem.run_pure];unfold sliced
 by_cases hm:m=l
 ·rw[if_pos hm]
  exact hK _ _ (hk off (.inr hm))
 ·rw[if_neg hm]
  rw[Option.map_some,Addr.add_lit];exact hK _ _ (hk (off+l*size) (.inl rfl))
end
end
section
open Go.RowKit Go.Sort
theorem Ai{w w':World}{k:Nat}{o:Obj}(hb:Below w.heap.size w w')(h:w.heap[k]?=some o):w'.heap[k]?=some o:=AL hb h (AB h).1
theorem RowIs.svcAt{w:World}{e:TypeId}{g n cap:Nat}{l:List Svc}(h:RowIs w e 13 g n cap (AU l)){k:Nat}{s:Svc}(hk:l[k]?=some s):SvcAt w g (k*13) s:=by
 obtain⟨b,off,e1,_,hat⟩:=h.slS (by intro h0;rw[h0]at hk;simp at hk);cases e1;have:=hat k s hk
 rwa [Nat.zero_add]at this
theorem LK(B:Bk)(sv:ByteArray):(D6 B sv).upTo B.cps.length:=by
 unfold D6;split
 ·unfold Cnt.none Cnt.upTo
  simp
 ·exact Ep _ _ _ _ (AG _)
def dropNo(A:Ac)(s:Svc)(N:Cnt):Bool:=A.drop&&(!s.gone||decide (0<N.live+N.ending))
def EQ(A:Ac)(s:Svc):Svc:=if A.scale then {s with want:=A.want,cool:=A.cool} else s
def makeNo(A:Ac)(s:Svc)(N:Cnt):Bool:=decide (0<A.create)&&(s.gone||decide (s.want+s.over<N.live+A.create))
def scaleNo(A:Ac)(s:Svc):Bool:=A.scale&&(s.per==0|| !inB A.want s.least s.most)
def roomNo(B:Bk)(A:Ac)(s:Svc):Bool:=decide (200<(B.cps.length:Int)+A.create)||decide (1000000<s.next+A.create)||decide (1000000<=B.now)
def Gz(B:Bk)(A:Ac)(s:Svc)(L:List Cp):Int:=
 if dropNo A s (D6 B A.service) then 6 else if makeNo A (EQ A s) (D6 {B with cps:=L} A.service) then 6 else if scaleNo A (EQ A s) then 6 else if roomNo B A (EQ A s) then 7 else 0
def Ij(l:List Cp)(c:Cp):List Cp:=l.takeWhile (λx=>Bg x c)++c::l.drop (l.takeWhile (λx=>Bg x c)).length
def newC(B:Bk)(A:Ac)(s:Svc)(t:Nat):Cp:=⟨A.service,s.next+t,B.now+1,s.image,1,false,⟨#[]⟩⟩
def Gw(B:Bk)(A:Ac)(s:Svc)(L:List Cp):Nat->List Cp
 |0=>L
 |t+1=>Ij (Gw B A s L t) (newC B A s t)
def MZ(B:Bk)(A:Ac)(s:Svc):Svc:={EQ A s with next:=s.next+A.create,version:=B.now+1}
def DH(B:Bk)(A:Ac)(s:Svc)(k:Nat):List Svc:=if A.drop then B.svcs.take k++B.svcs.drop (k+1) else B.svcs.set k (MZ B A s)
def Do(B:Bk)(A:Ac)(s:Svc)(L:List Cp)(k:Nat):Bk:=⟨B.now+1,DH B A s k,Gw B A s L A.create.toNat,B.bts⟩
theorem OD{a b:Int}{k:Nat}(h1:0<=a)(h2:a<=k)(hk:k<=1048576)(h3:0<=b)(h4:b<=20):wrap64 (a+b)=a+b:=IntWalk.wrap64_in _ (by omega)
theorem OF{b:Int}{k:Nat}(hk:k<=1048576)(h3:0<=b)(h4:b<=20):wrap64 ((k:Int)+b)=(k:Int)+b:=IntWalk.wrap64_in _ (by omega)
theorem Iv{a b:Int}(h1:0<=a)(h2:a<=10)(h3:0<=b)(h4:b<=10):wrap64 (a+b)=a+b:=IntWalk.wrap64_in _ (by omega)
theorem OE{a b:Int}(h1:1<=a)(h2:a<=1000000)(h3:0<=b)(h4:b<=20):wrap64 (a+b)=a+b:=IntWalk.wrap64_in _ (by omega)
theorem EB:(Try.prog.info? 63).map (·.size)=some 13:=by kernel_rfl
theorem GY{k n:Nat}(h:k<n):k*13+13<=n*13:=by omega
theorem putC_len(l:List Cp)(c:Cp):(Ij l c).length=l.length+1:=by
 unfold Ij;have h:=(List.takeWhile_sublist (p:=λx=>Bg x c) (l:=l)).length_le;rw[List.length_append,List.length_cons,List.length_drop];omega
theorem GF(B:Bk)(A:Ac)(s:Svc)(L:List Cp):∀t,(Gw B A s L t).length=L.length+t
 |0=>rfl
 |t+1=>by
  show(Ij _ _).length=_;rw[putC_len,GF B A s L t];omega
theorem done_row{B:Bk}{A:Ac}{s:Svc}{L:List Cp}{k t N g1 k1 gC kC g3 k3:Nat}{w:World}(hdr:A.drop=false)(hcr:A.create=(t:Int))(h1:N<g1)(h2:N<gC)(h3:N<g3)
  (r1:RowIs w 63 13 g1 B.svcs.length k1 (AU (B.svcs.set k (MZ B A s)))) (r2:RowIs w 35 7 gC (B.cps.length+t) kC (Ag (Gw B A s L t))) (r3:RowIs w 74 2 g3 B.bts.length k3 (Af B.bts)) (hL:L.length=B.cps.length):
  B.svcs.length=(Do B A s L k).svcs.length/\B.cps.length+t=(Do B A s L k).cps.length/\BkRow w N g1 gC g3 k1 kC k3 (Do B A s L k):=by
 have e1:(Do B A s L k).svcs=B.svcs.set k (MZ B A s):=by
  show DH B A s k=_;unfold DH;rw[if_neg (by rw[hdr];decide)]
 have e2:(Do B A s L k).cps=Gw B A s L t:=by
  show Gw B A s L A.create.toNat=_;rw[hcr,Int.toNat_natCast]
 have l1:B.svcs.length=(Do B A s L k).svcs.length:=by rw[e1,List.length_set]
 have l2:B.cps.length+t=(Do B A s L k).cps.length:=by rw[e2,GF,hL]
 refine⟨l1,l2,⟨by omega,by omega,by omega,?_,?_,r3⟩⟩
 ·rw[<-l1,e1];exact r1
 ·rw[<-l2,e2];exact r2
theorem JE{α:Type}{p:α->Bool}:∀{l:List α} {k:Nat},k<=l.length->(∀(i:Nat) s,i<k->l[i]?=some s->p s=true)->(∀s,l[k]?=some s->p s=false)->(l.takeWhile p).length=k
 |[],k,hk,_,_=>by simp at hk;simp[hk]
 |x::l,0,_,_,h=>by rw[List.takeWhile_cons,if_neg (by rw[h x rfl];simp)];rfl
 |x::l,k+1,hk,h1,h2=>by
  have ih:(l.takeWhile p).length=k:=JE (by simpa using hk) (λi s hi hs=>h1 (i+1) s (by omega) (by simpa using hs)) (λs hs=>h2 s (by simpa using hs));rw[List.takeWhile_cons,if_pos (h1 0 x (by omega) rfl),List.length_cons,ih]
theorem F9{α:Type}(p:α->Bool):∀l:List α,l.takeWhile p=l.take (l.takeWhile p).length
 |[]=>rfl
 |x::l=>by
  rw[List.takeWhile_cons];split
  ·rw[List.length_cons,List.take_succ_cons,<-F9 p l]
  ·rfl
theorem Nt{l:List Cp}{c:Cp}{m:Nat}(h:(l.takeWhile (λx=>Bg x c)).length=m):Ij l c=l.take m++c::l.drop m:=by
 unfold Ij;rw[h,F9,h]
theorem RowIs.cpAt{w:World}{e:TypeId}{g n cap:Nat}{l:List Cp}(h:RowIs w e 7 g n cap (Ag l)){k:Nat}{s:Cp}(hk:l[k]?=some s):CpAt w g (k*7) s:=by
 obtain⟨b,off,e1,_,hat⟩:=h.slC (by intro h0;rw[h0]at hk;simp at hk);cases e1;have:=hat k s hk
 rwa [Nat.zero_add]at this
theorem Jo{α:Type}{c:α->List Value}{n:Nat}(hc:∀s,(c s).length=n):∀(l:List α) (i:Nat),(l.drop i).flatMap c=(l.flatMap c).drop (i*n)
 |[],i=>by simp
 |x::l,0=>by simp
 |x::l,i+1=>by
  have e:(c x).drop ((i+1)*n)=[]:=List.drop_eq_nil_of_le (by rw[hc,Nat.succ_mul];omega);rw[List.drop_succ_cons,Jo hc l i,List.flatMap_cons,List.drop_append,e,List.nil_append,hc,show(i+1)*n - n=i*n by rw[Nat.succ_mul];omega]
theorem Jn{α:Type}{c:α->List Value}{n:Nat}(hc:∀s,(c s).length=n):∀(l:List α) (i:Nat),(l.take i).flatMap c=(l.flatMap c).take (i*n)
 |[],i=>by simp
 |x::l,0=>by simp
 |x::l,i+1=>by
  have e:(c x).take ((i+1)*n)=c x:=List.take_of_length_le (by rw[hc,Nat.succ_mul];omega);rw[List.take_succ_cons,List.flatMap_cons,List.flatMap_cons,Jn hc l i,List.take_append,e,hc,show(i+1)*n - n=i*n by rw[Nat.succ_mul];omega]
theorem RowIs.srcDropR{α:Type}{w:World}{e:TypeId}{size g n cap:Nat}{c:α->List Value}{l:List α}(h:RowIs w e size g n cap (l.flatMap c))(hc:∀s,(c s).length=size)(i:Nat):∀j u,((l.drop i).flatMap c)[j]?=some u->w.cell? ((⟨g,i*size,none⟩:Addr).add j)=some u:=λj u hu=>by
 rw[Jo hc,List.getElem?_drop]at hu;rw[Addr.add_lit];exact h.cell hu
theorem RowIs.srcTakeR{α:Type}{w:World}{e:TypeId}{size g n cap:Nat}{c:α->List Value}{l:List α}(h:RowIs w e size g n cap (l.flatMap c))(hc:∀s,(c s).length=size)(i:Nat):∀j u,((l.take i).flatMap c)[j]?=some u->w.cell? ((⟨g,0,none⟩:Addr).add j)=some u:=λj u hu=>by
 rw[Jn hc]at hu;rw[Addr.add_lit,Nat.zero_add]
 exact h.cell (by
  rw[List.getElem?_take]at hu;split at hu
  ·exact hu
  ·cases hu)
theorem DI:(Try.prog.info? 35).map (λi=>(i.zero,i.size,i.bytes))=some (some (.agg czV),7,72):=by kernel_rfl
theorem Hw:(Try.prog.info? 35).map (·.size)=some 7:=by kernel_rfl
theorem Km:(Try.prog.info? 24).map (·.size)=some 1:=by kernel_rfl
theorem Ib:Try.prog.underlying 24=some (.slice (Try.prog.elem 24)):=by kernel_rfl
theorem Io:(Try.prog.info? (Try.prog.elem 24)).map (·.size)=some 7:=by kernel_rfl
theorem NR{m:Nat}(h:m<=200):m<=maxLen:=by unfold maxLen;omega
theorem NQ{m:Nat}(h:m<=200):m*72<=140737488355328:=by omega
theorem Ko{a:Int}{t n:Nat}{c:Int}(h1:1<=a)(h2:a<=1000000)(hc:c=(n:Int))(h3:c<=20)(ht:t<n):wrap64 (a+(t:Int)+1)=a+(t:Int)+1:=IntWalk.wrap64_in _ (by omega)
theorem OC{t n:Nat}{c:Int}(hc:c=(n:Int))(h3:c<=20)(ht:t<n):wrap64 ((t:Int)+1)=(t:Int)+1:=IntWalk.wrap64_in _ (by omega)
theorem fit_3{m mm q:Nat}(h:m+mm=q)(hq:q<200):m+1+mm<=200:=by omega
theorem fit_4{m mm q:Nat}(h:m+mm=q):m+1+mm=q+1:=by omega
section
variable {P:Program}
theorem FQ{ops:Array Oper}{rest:List Oper}{o:Oper}{a:Act}{w:World}{Q:Exit->Act->World->Prop}(hgd:o.guard=none)(t:TypeId)(x:Operand)(lo hi mx:Option Operand)(ho:o.op=.slice t x lo hi mx)
  (ht:P.underlying t=some (.slice (P.elem t))) (size:Nat) (hsz:(P.info? (P.elem t)).map (·.size)=some size) (g off n cap l h m:Nat) (hx:a.eval x=.slice (some ⟨g,off,none⟩) n cap) (lv hv mv:Option Value) (hlv:lo.map a.eval=lv) (hhv:hi.map a.eval=hv) (hmv:mx.map a.eval=mv)
  (hrun:∀w:World,(Instr.slice t (.slice (some ⟨g,off,none⟩) n cap) lv hv mv).run P w=((sizeOf (P.elem t)).run P w).andThen λs w=>.ok (sliced (some ⟨g,off,none⟩) l h m s) w)
  (hk:wpList P ops Q rest (a.put o.dst (.slice (some ⟨g,if m=l then off else off+l*size,none⟩) (h - l) (m - l))) w):wpList P ops Q (o::rest) a w:=by
 refine wpList_plain hgd λK hK=>?_
 obtain⟨i,hi',his⟩:∃i,P.info? (P.elem t)=some i/\i.size=size:=by
  cases hq:P.info? (P.elem t) with
  |none=>simp[hq]at hsz
  |some i=>exact⟨i,rfl,by simpa [hq] using hsz⟩
 have hs:(sizeOf (P.elem t)).run P w=.ok size w:=by simp[sizeOf,typeInfo,hi',his]
 have hrun:=hrun w;rw[hs]at hrun;simp only[Result.andThen_ok]at hrun;unfold Oper.wp execOp;simp only[ho,hx,hlv,hhv,hmv,run_sliceAt_slice w t _ _ _ _ ht,Sem.run_bind,hrun,Result.andThen_ok,Sem.run_pure];unfold sliced
 by_cases hm:m=l
 ·rw[if_pos hm]
  rw[if_pos hm]at hk;exact hK _ _ hk
 ·rw[if_neg hm]
  rw[Option.map_some,Addr.add_lit];rw[if_neg hm]at hk;exact hK _ _ hk
end
theorem OM{m mm q kC off:Nat}(h:m+mm=q)(hk:q<=kC)(ho:(if kC=m then 0 else 0+m*7)=off):off=m*7\/mm=0:=by
 split at ho<;>omega
theorem fill_cp(c0 c1 c2 c3 c4 c5 c6:Value):
  Instr.fill (λi=>some (i*7,7)) ((Array.range (1*7)).map ((.agg czV:Value).cells[·%(.agg czV:Value).cells.size]!)) [(0,.agg #[c0,c1,c2,c3,c4,c5,c6])]=some #[c0,c1,c2,c3,c4,c5,c6]:=by
 kernel_rfl
theorem Ix{ops:Array Oper}{rest:List Oper}{o:Oper}{a:Act}{w:World}{Q:Exit->Act->World->Prop}(hg:o.guard=none)(x:Operand)(ho:o.op=.buildSlice 24 1 #[(0,x)])(c0 c1 c2 c3 c4 c5 c6:Value)(hx:a.eval x=.agg #[c0,c1,c2,c3,c4,c5,c6])
  (h:∀w',Hid (Bl w' (w.heap.size) #[c0,c1,c2,c3,c4,c5,c6] 35)->Below w.heap.size w w'->wpList Try.prog ops Q rest (a.put o.dst (.slice (some ⟨w.heap.size,0,none⟩) 1 1)) w'):wpList Try.prog ops Q (o::rest) a w:=by
 obtain⟨i,hi,hz,hs,hb⟩:=info_parts DI;refine wpList_buildSlice hg _ 35 1 _ ho #[c0,c1,c2,c3,c4,c5,c6] i _ Try.underlying24 hi hz (by rw[hs];decide) (by rw[hs];decide) ?_ (h _ (heap_alloc_new w _) (AO w _));rw[hs];simp only[List.map_toArray,List.map_cons,List.map_nil,hx];exact fill_cp c0 c1 c2 c3 c4 c5 c6
end
end Go.Proofs.Ytbceafpodamnfaa
