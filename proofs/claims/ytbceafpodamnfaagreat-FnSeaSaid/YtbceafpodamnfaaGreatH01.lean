import Derived.Test.YtbceafpodamnfaaGreatH00
set_option linter.all false
namespace Go.Proofs.YtbceafpodamnfaaGreat
section
open Go Go.RowKit
section
variable {P:Program} {ops:Array Oper} {Q:Exit->Act->World->Prop}
def RelP(p g:Nat)(i:Nat)(W W':World):Prop:=match Nat.beq i p with
 |true=>BA g W W'
 |false=>Below W.heap.size W W'
def Gx(P:Program)(ops:Array Oper)(a0:Act)(n:Nat)(Inv:World->Prop)(p:Nat)(Inv0:World->Prop)(R:Nat->World->World->Prop)(S:Nat->Value->World->Prop)(i:Nat)(o:Oper)(T:Value->World->Prop):Prop:=
 ∀(V:Nat->Value) (W:World) (K:Act->World->Prop),Inv W->(Nat.beq i p=true->Inv0 W)->(∀j,Region.waitsFor .any ops i j=true->S j (V j) W)->
  Hid (∀v W',R i W W'->T v W'->K ((Af ops V n a0).put o.dst v) W')->wpList P ops (Ch K) [o] (Af ops V n a0) W
def Hp(R:Nat->World->World->Prop)(j:Nat)(T:Value->World->Prop):Prop:=∀i,i≠j->∀v W W',T v W->R i W W'->T v W'
theorem FI{n g p:Nat}{S:Nat->Value->World->Prop}{Inv Inv0:World->Prop}{R:Nat->World->World->Prop}{a0:Act}
  (hw:∀listed,HeadInv .any ops n listed->∀i,i<n->listed.getD i true=false->∀t,n<=t->t∉Region.ready .any ops listed)
  (hn:n<=ops.size) (hdB:Dx .any ops n=true) (hd:DY ops n=true)
  (hI:∀i W W',Inv W->R i W W'->Inv W') (hI0:∀i W W',i≠p->Inv0 W->R i W W'->Inv0 W') (hst:∀j,Hp R j (S j))
  (hop:∀i o,i<n->ops[i]?=some o->Gx P ops a0 n Inv p Inv0 R S i o (S i))
  (hlast:∀V W,Inv W->(∀j,j<n->S j (V j) W)->wpAny P .any ops Q g (Bp ops n) (Af ops V n a0) W):
  ∀(m:Nat) (listed:Array Bool) (V:Nat->Value) (W:World),HeadInv .any ops n listed->BW n listed=m->Inv W->(listed.getD p true=false->Inv0 W)->(∀j,j<n->listed.getD j false=true->S j (V j) W)->
   wpAny P .any ops Q (m+g) listed (Af ops V n a0) W
 |0,listed,V,W,inv,hm,hb,_,hS=>by
  have hall:∀i,i<n->listed.getD i true=true:=by
   intro i hi;have:=List.countP_eq_zero.1 hm i (List.mem_range.2 hi)
   simpa using this
  rw[Cd inv hall,Nat.zero_add];refine hlast V W hb λj hj=>hS j hj ?_
  have:=hall j hj;have hjs:j<listed.size:=by rw[inv.size];omega
  simp[hjs]at this ⊢;exact this
 |m+1,listed,V,W,inv,hm,hb,hb0,hS=>by
  obtain⟨u,hu,hul⟩:∃u,u<n/\listed.getD u true=false:=by
   have:0<BW n listed:=by omega
   obtain⟨u,hu,hul⟩:=List.countP_pos_iff.1 this;exact⟨u,List.mem_range.1 hu,by simpa using hul⟩
  rw[show m+1+g=(m+g)+1 by omega];refine⟨λh0=>absurd h0 (C3 hdB inv u hu hul),λi hi=>?_⟩
  have hin:i<n:=by
   rcases Nat.lt_or_ge i n with h|h
   ·exact h
   ·exact absurd hi (hw listed inv u hu hul i h)
  obtain⟨hun,o,ho,hall⟩:=mem_ready.1 hi;refine Ck ho (hop i o hin ho V W _ hb (λhip=>hb0 (by rw[<-Nat.eq_of_beq_eq_true hip];exact hun)) (λj hj=>?_) λv W' hb' hs'=>?_)
  ·obtain⟨oj,hoj,e,he,hbd,hon⟩:=Region.waitsFor_spec hj
   have:oj=o:=Option.some.inj (hoj.symm.trans ho);subst this;have hl:=hall e he hbd;rw[hon]at hl
   have hlt:j<n:=by
    have h1:=List.all_eq_true.1 hdB i (List.mem_range.2 hin);rw[ho]at h1;have h2:=Array.all_eq_true'.1 h1 e he;rw[hbd]at h2;have h3:e.on<i:=by simpa using h2
    omega
   exact hS j hlt hl
  ·have hdst:o.dst=(ops[i]?).bind (·.dst):=by rw[ho];rfl
   rw[hdst,DI hd hin];have his:i<listed.size:=by rw[inv.size];exact(AB ho).1
   refine FI hw hn hdB hd hI hI0 hst hop hlast m _ _ W' (inv.set hi hin) (by have:=DL hin his hun;omega) (hI i W W' hb hb') (λhp=>?_) λj hj hl=>?_
   ·by_cases hip:i=p
    ·subst hip
     rw[show(listed.setIfInBounds i true).getD i true=true by simp]at hp;cases hp
    ·rw[getD_set_ne true hip]at hp
     exact hI0 i W W' hip (hb0 hp) hb'
   by_cases hji:j=i
   ·subst hji
    simpa [upd] using hs'
   ·rw[getD_set_ne false (Ne.symm hji)]at hl
    have:=hst j i (Ne.symm hji) (V j) W W' (hS j hj hl) hb'
    simpa [upd,hji] using this
theorem Ey{id:Nat}{a:Act}{w:World}{l:List Oper}(n p:Nat)(Inv Inv0:World->Prop)(R:Nat->World->World->Prop)(S:Nat->Value->World->Prop)(hm:P.follows .mixedOrders=true)(hB:Av l.toArray n=true)
  (hS0:Inv {w with drawn:=w.drawn+1}) (hS1:Inv0 {w with drawn:=w.drawn+1}) (hI:∀i W W',Inv W->R i W W'->Inv W') (hI0:∀i W W',i≠p->Inv0 W->R i W W'->Inv0 W')
  (hst:∀j,Hp R j (S j)) (hop:∀i o,i<n->l.toArray[i]?=some o->Gx P l.toArray a n Inv p Inv0 R S i o (S i))
  (hlast:∀V W,Inv W->(∀j,j<n->S j (V j) W)->wpList P l.toArray Q (l.drop n) (Af l.toArray V n a) W):(Code.region id l.toArray true).wp P Q a w:=by
 simp only[Av,Bool.and_eq_true,decide_eq_true_eq]at hB;obtain⟨⟨⟨⟨⟨hn,hs⟩,hc⟩,hdB⟩,hd⟩,hseq⟩:=hB;refine wp_region_any hm ?_
 have inv0:HeadInv .any l.toArray n (Array.replicate l.toArray.size false):=
  ⟨by simp,λj oj _ hl=>(by rw[getD_replicate_false]at hl;cases hl),λt _ ht=>getD_in (by simpa using ht) (getD_replicate_false _ _)⟩
 have hleft:BW n (Array.replicate l.toArray.size false)=n:=by
  unfold BW;rw[List.countP_eq_length.2]
  ·simp
  ·intro i hi
   have:i<l.toArray.size:=by have:=List.mem_range.1 hi;omega
   rw[getD_in (by simpa using this) (getD_replicate_false _ _)];rfl
 have H:=FI (P:=P) (Q:=Q) (g:=l.toArray.size - n) (S:=S) (Inv:=Inv) (Inv0:=Inv0) (p:=p) (R:=R) (a0:=a) (λlisted inv i hi hu t ht=>tail_waits hs hc hn inv _ i rfl hi hu t ht) (by omega) hdB hd hI hI0 hst hop
  (λV W hb hS=>by
   have hdl:(l.drop n).length=l.toArray.size - n:=by simp
   have:=wpAny_of_seq (md:=.any) (Q':=Q) (l.drop n) n (Bp l.toArray n) _ W (λj=>by simp[List.getElem?_drop]) (by rw[hdl];exact hseq) (hlast V W hb hS)
   rwa [hdl]at this)
  n _ (λj=>match (l.toArray[j]?).bind (·.dst) with|some d=>a.tmps.getD d undef|none=>undef) {w with drawn:=w.drawn+1} inv0 hleft hS0 (λ_=>hS1) (λj _ hl=>by rw[getD_replicate_false]at hl;cases hl)
 have e:Af l.toArray (λj=>match (l.toArray[j]?).bind (·.dst) with|some d=>a.tmps.getD d undef|none=>undef) n a=a:=C0 a n;rw[e,show n+(l.toArray.size - n)=l.toArray.size by omega]at H;exact H
def Cn(P:Program)(ops:Array Oper)(a0:Act)(n:Nat)(Inv:World->Prop)(p:Nat)(Inv0:World->Prop)(R:Nat->World->World->Prop)(L:(Nat->Value->World->Prop)->Prop):List Oper->Nat->(Nat->Value->World->Prop)->Prop
 |[],_,S=>L S
 |o::rest,i,S=>∃T,Hp R i T/\Gx P ops a0 n Inv p Inv0 R S i o T/\Cn P ops a0 n Inv p Inv0 R L rest (i+1) (G4 S i T)
theorem Az{a0:Act}{n p:Nat}{Inv Inv0:World->Prop}{R:Nat->World->World->Prop}{L:(Nat->Value->World->Prop)->Prop}{o:Oper}{rest:List Oper}{i:Nat}{S:Nat->Value->World->Prop}(T:Value->World->Prop)(hT:Hp R i T)
  (h:∀(V:Nat->Value) (W:World) (K:Act->World->Prop) (A:Act),Inv W->(Nat.beq i p=true->Inv0 W)->(∀j,Region.waitsFor .any ops i j=true->S j (V j) W)->Hid (A=Af ops V n a0)->
   Hid (∀v W',R i W W'->T v W'->K (A.put o.dst v) W')->wpList P ops (Ch K) [o] A W)
  (hr:Cn P ops a0 n Inv p Inv0 R L rest (i+1) (G4 S i T)):Cn P ops a0 n Inv p Inv0 R L (o::rest) i S:=⟨T,hT,λV W K hb hz hd hK=>h V W K _ hb hz hd rfl hK,hr⟩
theorem CK{a0:Act}{n p:Nat}{Inv Inv0:World->Prop}{R:Nat->World->World->Prop}{L:(Nat->Value->World->Prop)->Prop}{o:Oper}{rest:List Oper}{i:Nat}{S:Nat->Value->World->Prop}{u:Value}
  (h:∀(V:Nat->Value) (W:World) (K:Act->World->Prop) (A:Act),Inv W->(Nat.beq i p=true->Inv0 W)->(∀j,Region.waitsFor .any ops i j=true->S j (V j) W)->Hid (A=Af ops V n a0)->
   Hid (∀W',R i W W'->K (A.put o.dst u) W')->wpList P ops (Ch K) [o] A W)
  (hr:Cn P ops a0 n Inv p Inv0 R L rest (i+1) (G4 S i λv _=>v=u)):Cn P ops a0 n Inv p Inv0 R L (o::rest) i S:=
 ⟨λv _=>v=u,λ_ _ _ _ _ h _=>h,λV W K hb hz hd hK=>h V W K _ hb hz hd rfl λW' hb'=>hK.out u W' hb' rfl,hr⟩
theorem DP{a0:Act}{n p:Nat}{Inv Inv0:World->Prop}{R:Nat->World->World->Prop}{L:(Nat->Value->World->Prop)->Prop}(hdB:Dx .any ops n=true):∀(l:List Oper) (k:Nat) (S:Nat->Value->World->Prop),k+l.length=n->(∀j,j<l.length->l[j]?=ops[k+j]?)->
  (∀j,Hp R j (S j))->(∀i o,i<k->ops[i]?=some o->Gx P ops a0 n Inv p Inv0 R S i o (S i))->Cn P ops a0 n Inv p Inv0 R L l k S->
  ∃S',(∀j,Hp R j (S' j))/\(∀i o,i<n->ops[i]?=some o->Gx P ops a0 n Inv p Inv0 R S' i o (S' i))/\L S'
 |[],k,S,hk,_,hl,hop,h=>⟨S,hl,by rw[show n=k by simpa using hk.symm];rw[show n=k by simpa using hk.symm]at hop;exact hop,h⟩
 |o::l,k,S,hk,hs,hl,hop,⟨T,hT,ho,h⟩=>by
  have h0:ops[k]?=some o:=by simpa using (hs 0 (by simp)).symm
  have dep:∀i j,i<n->Region.waitsFor .any ops i j=true->j<i:=λi j hi hj=>by
   obtain⟨oj,hoj,e,he,hbd,hon⟩:=Region.waitsFor_spec hj;have h1:=List.all_eq_true.1 hdB i (List.mem_range.2 hi);rw[hoj]at h1;have h2:=Array.all_eq_true'.1 h1 e he;rw[hbd]at h2;have h3:e.on<i:=by simpa using h2
   omega
  have hkn:k<n:=by simp only[List.length_cons]at hk;omega
  refine DP hdB l (k+1) _ (by simp only[List.length_cons]at hk;omega) (λj hj=>by have:=hs (j+1) (by simp;omega);simpa [Nat.add_assoc,Nat.add_comm 1 j] using this) (λj=>?_) (λi o' hi hi'=>?_) h
  ·by_cases e:j=k
   ·subst e;rw[Dj];exact hT
   ·rw[Cx _ _ e];exact hl j
  ·by_cases e:i=k
   ·subst e
    have:o'=o:=Option.some.inj (hi'.symm.trans h0);subst this;rw[Dj];exact λV W K hb hz hd hK=>ho V W K hb hz (λj hj=>by have:=hd j hj;rwa [Cx _ _ (by have:=dep i j hkn hj;omega)]at this) hK
   ·rw[Cx _ _ e]
    exact λV W K hb hz hd hK=>hop i o' (by omega) hi' V W K hb hz (λj hj=>by have:=hd j hj;rwa [Cx _ _ (by have:=dep i j (by omega) hj;omega)]at this) hK
theorem OC{id:Nat}{a:Act}{w:World}{l:List Oper}(n p g:Nat)(Inv Inv0:World->Prop)(hm:P.follows .mixedOrders=true)(hB:Av l.toArray n=true)
  (hS0:Inv w) (hS1:Inv0 w) (hIB:∀W W',Inv W->Below W.heap.size W W'->Inv W') (hIO:∀W W',Inv W->BA g W W'->Inv W') (hI0:∀W W',Inv0 W->Below W.heap.size W W'->Inv0 W')
  (h:Cn P l.toArray a n Inv p Inv0 (RelP p g) (λS=>∀V W A,Inv W->(∀j,j<n->S j (V j) W)->Hid (A=Af l.toArray V n a)->wpList P l.toArray Q (l.drop n) A W) (l.take n) 0 λ_ _ _=>True):(Code.region id l.toArray true).wp P Q a w:=by
 have hB':=hB;simp only[Av,Bool.and_eq_true,decide_eq_true_eq]at hB';obtain⟨⟨⟨⟨⟨hn,_⟩,_⟩,hdB⟩,_⟩,_⟩:=hB';have hn':n<l.length:=by simpa using hn
 obtain⟨S,h1,h2,h3⟩:=DP hdB (l.take n) 0 _ (by simp;omega) (λj hj=>by
  have:j<n:=by simp at hj;omega
  simp[this]) (λ_ _ _ _ _ _ _ _=>trivial) (λi o hi=>absurd hi (by omega)) h
 refine Ey n p Inv Inv0 (RelP p g) S hm hB (hIB _ _ hS0 ⟨rfl,rfl,rfl,AG _,λ_ _=>rfl⟩) (hI0 _ _ hS1 ⟨rfl,rfl,rfl,AG _,λ_ _=>rfl⟩) (λi W W' hI hR=>?_) (λi W W' hip hI hR=>?_) h1 h2 λV W hb hS=>h3 V W _ hb hS rfl
 ·unfold RelP at hR
  split at hR
  ·exact hIO _ _ hI hR
  ·exact hIB _ _ hI hR
 ·unfold RelP at hR
  split at hR
  ·rename_i hb
   exact absurd (Nat.eq_of_beq_eq_true hb) hip
  ·exact hI0 _ _ hI hR
def MG(p:Nat)(RP:World->World->Prop)(i:Nat)(W W':World):Prop:=match Nat.beq i p with
 |true=>RP W W'
 |false=>Below W.heap.size W W'
theorem GA{p:Nat}{RP:World->World->Prop}{i:Nat}{W W':World}(hi:i≠p)(h:MG p RP i W W'):Below W.heap.size W W':=by
 unfold MG at h;split at h
 ·rename_i hb
  exact absurd (Nat.eq_of_beq_eq_true hb) hi
 ·exact h
theorem DH{p:Nat}{RP:World->World->Prop}{i:Nat}{W W':World}(h:MG p RP i W W'):RP W W'\/Below W.heap.size W W':=by
 unfold MG at h;split at h
 ·exact .inl h
 ·exact .inr h
theorem IA{id:Nat}{a:Act}{w:World}{l:List Oper}(n p:Nat)(RP:World->World->Prop)(Inv Inv0:World->Prop)(hm:P.follows .mixedOrders=true)(hB:Av l.toArray n=true)
  (hS0:Inv w) (hS1:Inv0 w) (hIB:∀W W',Inv W->Below W.heap.size W W'->Inv W') (hIO:∀W W',Inv W->RP W W'->Inv W') (hI0:∀W W',Inv0 W->Below W.heap.size W W'->Inv0 W')
  (h:Cn P l.toArray a n Inv p Inv0 (MG p RP) (λS=>∀V W A,Inv W->(∀j,j<n->S j (V j) W)->Hid (A=Af l.toArray V n a)->wpList P l.toArray Q (l.drop n) A W) (l.take n) 0 λ_ _ _=>True):(Code.region id l.toArray true).wp P Q a w:=by
 have hB':=hB;simp only[Av,Bool.and_eq_true,decide_eq_true_eq]at hB';obtain⟨⟨⟨⟨⟨hn,_⟩,_⟩,hdB⟩,_⟩,_⟩:=hB';have hn':n<l.length:=by simpa using hn
 obtain⟨S,h1,h2,h3⟩:=DP hdB (l.take n) 0 _ (by simp;omega) (λj hj=>by
  have:j<n:=by simp at hj;omega
  simp[this]) (λ_ _ _ _ _ _ _ _=>trivial) (λi o hi=>absurd hi (by omega)) h
 refine Ey n p Inv Inv0 (MG p RP) S hm hB (hIB _ _ hS0 ⟨rfl,rfl,rfl,AG _,λ_ _=>rfl⟩) (hI0 _ _ hS1 ⟨rfl,rfl,rfl,AG _,λ_ _=>rfl⟩) (λi W W' hI hR=>?_) (λi W W' hip hI hR=>hI0 _ _ hI (GA hip hR)) h1 h2 λV W hb hS=>h3 V W _ hb hS rfl
 rcases DH hR with h|h
 ·exact hIO _ _ hI h
 ·exact hIB _ _ hI h
end
section
variable {P:Program} {ops:Array Oper} {Q:Exit->Act->World->Prop}
def Bi(ops:Array Oper):Nat->Nat->Nat->Bool
 |0,p,i=>Nat.beq p i
 |f+1,p,i=>Nat.beq p i||(List.range p).any λj=>Region.waitsFor .any ops p j&&Bi ops f j i
theorem EK{n:Nat}{listed:Array Bool}(inv:HeadInv .any ops n listed):∀f p i,Bi ops f p i=true->listed.getD p false=true->listed.getD i false=true
 |0,p,i,h,hp=>by rw[<-Nat.eq_of_beq_eq_true h];exact hp
 |f+1,p,i,h,hp=>by
  rcases Bool.or_eq_true_iff.1 h with h|h
  ·rw[<-Nat.eq_of_beq_eq_true h];exact hp
  ·obtain⟨j,_,hj⟩:=List.any_eq_true.1 h
   obtain⟨h1,h2⟩:=Bool.and_eq_true_iff.1 hj;obtain⟨oj,hoj,e,he,hb,hon⟩:=Region.waitsFor_spec h1;refine EK inv f j i h2 ?_;rw[<-hon];exact inv.closed p oj hoj hp e he hb
end
section
variable {P:Program} {ops:Array Oper} {Q:Exit->Act->World->Prop} {V:Nat->Value} {a:Act}
theorem Fl(a:Act){d:Option Tmp}{e:Tmp}(v:Value)(h:d≠some e):(a.put d v).eval (.tmp e)=a.eval (.tmp e):=by
 cases d with
 |none=>rfl
 |some d=>
  show(a.tmps.setIfInBounds d v).getD e undef=a.tmps.getD e undef;have hne:d≠e:=λh'=>h (congrArg some h')
  simp only[Array.getD_eq_getD_getElem?,Array.getElem?_setIfInBounds_ne hne]
theorem Lc(a:Act){d:Tmp}(v:Value)(h:d<a.tmps.size):(a.put (some d) v).eval (.tmp d)=v:=by
 show(a.tmps.setIfInBounds d v).getD d undef=v;simp[h]
theorem wp_val{o:Oper}{A:Act}{W W':World}{K:Act->World->Prop}{v:Value}(hg:o.guard=none)(hr:(execOp A.eval o).run P W=.ok (.value v) W')(h:K (A.put o.dst v) W'):wpList P ops (Ch K) [o] A W:=by
 refine wpList_plain hg λK' hK'=>?_
 unfold Oper.wp;rw[hr];exact hK' _ _ h
end
end
end Go.Proofs.YtbceafpodamnfaaGreat
