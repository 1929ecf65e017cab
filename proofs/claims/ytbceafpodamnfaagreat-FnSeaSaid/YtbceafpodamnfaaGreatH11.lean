import Derived.Test.YtbceafpodamnfaaGreatH10
set_option linter.all false
namespace Go.Proofs.YtbceafpodamnfaaGreat
section
open Go Go.RowKit
section
variable {P:Program} {tt:List TE} {Γ:List (Nat × Nat × Ct)} {l:List Oper} {U U':Nat->Value × AV} {X X':Nat->Bool} {t:Tm} {m:AV} {c n:Nat}
theorem wpL_pull{ops:Array Oper}{o:Oper}{a:Act}{w:World}{p:Prop}(h:wpList P ops (Ch λ_ _=>p) [o] a w):p:=by
 unfold wpList at h;split at h
 ·rcases h with h|⟨_,a',w',h⟩
  ·have h':o.wp P a w (λ_ _=>p) (Ch λ_ _=>p):=h
   unfold Oper.wp Oper.upon at h';split at h'
   ·exact h'
   ·exact h'
   ·exact h'
   ·obtain⟨e,w',fr,hR,_⟩:=h' []
    cases e with
    |returned v=>exact hR
    |panicked c=>exact False.elim hR
    |outgrown=>obtain⟨_,_,h⟩:=hR;exact False.elim h
   ·obtain⟨v,w',hR,_⟩:=h' default []
    exact hR
   ·exact False.elim h'
   ·exact h'.elim
  ·exact False.elim h
 ·exact h
def pC(Γ:List (Nat × Nat × Ct))(l:List Oper)(X:Nat->Bool):Nat->Nat
 |0=>0
 |k+1=>pC Γ l X k+(bif X k then(match l[k]? with|some o=>Am Γ o|none=>0) else 0)
def C7(U:Nat->Value × AV)(i:Nat)(p:Value × AV):Nat->Value × AV:=λj=>if j=i then p else U j
def Ce(X:Nat->Bool)(i:Nat):Nat->Bool:=λj=>if j=i then true else X j
theorem Bh{p:Value × AV}{i:Nat}:C7 U i p i=p:=if_pos rfl
theorem CP{p:Value × AV}{i j:Nat}(h:j≠i):C7 U i p j=U j:=if_neg h
theorem CF{i:Nat}:Ce X i i=true:=if_pos rfl
theorem BY{i j:Nat}(h:j≠i):Ce X i j=X j:=if_neg h
theorem pC_off{i:Nat}:∀k,k<=i->pC Γ l (Ce X i) k=pC Γ l X k
 |0,_=>rfl
 |k+1,h=>by unfold pC;rw[pC_off k (by omega),BY (by omega)]
theorem Me{i:Nat}{o:Oper}(hX:X i=false)(ho:l[i]?=some o):∀k,i<k->pC Γ l (Ce X i) k=pC Γ l X k+Am Γ o
 |0,h=>absurd h (by omega)
 |k+1,h=>by
  unfold pC
  by_cases e:i=k
  ·subst e
   rw[pC_off i (AG _),CF,hX,ho];rfl
  ·rw[Me hX ho k (by omega),BY (Ne.symm e)];omega
theorem Nb(h:∀j,X j=true->X' j=true):∀k,pC Γ l X k<=pC Γ l X' k
 |0=>AG _
 |k+1=>by
  unfold pC;have:=Nb h k
  cases hX:X k with
  |false=>show _+0<=_;omega
  |true=>rw[h k hX];exact Nat.add_le_add_right this _
def Closed(l:List Oper)(n:Nat)(X:Nat->Bool):Prop:=∀p i,p<n->Bi l.toArray n p i=true->X p=true->X i=true
structure RelJ(tt:List TE)(Γ:List (Nat × Nat × Ct))(l:List Oper)(c:Nat)(U:Nat->Value × AV)(X:Nat->Bool)(t:Tm)(m:AV)(j:Nat)(o:Oper):Prop where
 r:(DF l (pT l U X t j) o=some false/\U j=(.tuple #[],[]))\/(DF l (pT l U X t j) o=some true/\∃vs,evs (pT l U X t j) (Bj o.op)=some vs/\∀k,opg tt Γ (c+8*j) o.op vs (EZ (pM U X m j) (vs.flatMap BN)) k->k (U j).1 (U j).2)
 cv:Clo ((U j).2++pM U X m j) (BN (U j).1)
 ce:OkE (c+8*j) (c+8*j+8) ((U j).2++pM U X m j) (U j).2
structure Run(tt:List TE)(Γ:List (Nat × Nat × Ct))(l:List Oper)(n c:Nat)(t:Tm)(m:AV)(U:Nat->Value × AV)(X:Nat->Bool):Prop where
 cl:Closed l n X
 rel:∀j o,j<n->l[j]?=some o->X j=true->RelJ tt Γ l c U X t m j o
structure Fix(l:List Oper)(n c:Nat)(t:Tm)(m:AV):Prop where
 len:n<=l.length
 loc:locB l n=true
 own:Own l n
 deps:Dx .any l.toArray n=true
 c64:64<=c
 m0:∀i b,lk m i=some b->i<c
 tc:∀x v,lk t x=some v->Clo m (BN v)
 mc:∀i b,lk m i=some b->Clo m (b.cs.flatMap Cj)
theorem Run.keys(h:Run tt Γ l n c t m U X)(F:Fix l n c t m):Keys c U X n:=λj hj hX i b hi=>by
 obtain⟨o,ho⟩:∃o,l[j]?=some o:=⟨l[j]'(by have:=F.len;omega),by simp⟩;have:=(h.rel j o hj ho hX).ce i b hi;exact⟨this.1,this.2.1⟩
theorem Kh{x:Nat}{v:Value}:∀k,lk (pT l U X t k) x=some v->lk t x=some v\/∃j,j<k/\X j=true/\v=(U j).1
 |0,h=>.inl h
 |k+1,h=>by
  unfold pT at h
  cases hX:X k with
  |false=>
   rw[hX]at h;rcases Kh k h with h1|⟨j,hj,h1⟩
   ·exact .inl h1
   ·exact .inr ⟨j,by omega,h1⟩
  |true=>
   rw[hX]at h;change lk (D5 _ _ _) x=some v at h;rw[GY]at h;split at h
   ·exact .inr ⟨k,by omega,hX,(Option.some.inj h).symm⟩
   ·rcases Kh k h with h1|⟨j,hj,h1⟩
    ·exact .inl h1
    ·exact .inr ⟨j,by omega,h1⟩
theorem Run.up(h:Run tt Γ l n c t m U X)(F:Fix l n c t m){j k:Nat}(hX:X j=true)(hj:j<k)(hk:k<=n){ids:List Nat}(hc:Clo ((U j).2++pM U X m j) ids):Clo (pM U X m k) ids:=hc.mono λi b hb=>by
 rw[Bc]at hb
 cases hu:lk (U j).2 i with
 |some b'=>exact⟨b',Ki (h.keys F) hX hu k hk hj⟩
 |none=>
  rw[hu]at hb;exact⟨b,(DJ F.m0 (h.keys F) hk).2 (((DJ F.m0 (h.keys F) (by omega)).1 hb).imp id λ⟨j',h1,h2⟩=>⟨j',by omega,h2⟩)⟩
theorem Run.tclo(h:Run tt Γ l n c t m U X)(F:Fix l n c t m){k x:Nat}{v:Value}(hk:k<=n)(hv:lk (pT l U X t k) x=some v):Clo (pM U X m k) (BN v):=by
 rcases Kh k hv with h1|⟨j,hj,hX,rfl⟩
 ·exact(F.tc x v h1).mono λi b hb=>⟨b,JC F.m0 (h.keys F) hb k hk⟩
 ·obtain⟨o,ho⟩:∃o,l[j]?=some o:=⟨l[j]'(by have:=F.len;omega),by simp⟩
  exact h.up F hX hj hk (h.rel j o (by omega) ho hX).cv
theorem Run.mclo(h:Run tt Γ l n c t m U X)(F:Fix l n c t m){k i:Nat}{b:VB}(hk:k<=n)(hb:lk (pM U X m k) i=some b):Clo (pM U X m k) (b.cs.flatMap Cj):=by
 rcases EC k i b hb with h1|⟨j,hj,hX,h1⟩
 ·exact(F.mc i b h1).mono λi b hb=>⟨b,JC F.m0 (h.keys F) hb k hk⟩
 ·obtain⟨o,ho⟩:∃o,l[j]?=some o:=⟨l[j]'(by have:=F.len;omega),by simp⟩
  exact h.up F hX hj hk ((h.rel j o (by omega) ho hX).ce i b (A9 _ _ _ h1)).2.2
theorem Kn(F:Fix l n c t m){j:Nat}{o:Oper}(hj:j<n)(ho:l[j]?=some o){k k':Nat}(hk:k<=n)(hk':k'<=n)
  (h:∀i,i<n->((i<j/\Bi l.toArray n j i=true)\/(j<i/\Bi l.toArray n i j=true))->((i<k/\X i=true)↔(i<k'/\X' i=true))/\(i<k->X i=true->U i=U' i)):
  DF l (pT l U X t k) o=DF l (pT l U' X' t k') o/\evs (pT l U X t k) (Bj o.op)=evs (pT l U' X' t k') (Bj o.op)/\∀x∈Ik (Bj o.op)++He l o,lk (pT l U X t k) x=lk (pT l U' X' t k') x:=by
 have hl:∀x∈Ik (Bj o.op)++He l o,lk (pT l U X t k) x=lk (pT l U' X' t k') x:=λx hx=>NZ F.own hk hk' λi hi hd=>h i hi ((Fo F.loc hj ho).2 x hx i hi hd)
 exact⟨MK λx hx=>hl x (List.mem_append.2 (.inr hx)),KN _ λx hx=>hl x (List.mem_append.2 (.inl hx)),hl⟩
theorem IV{t:Tm}{m:AV}(h:∀x v,lk t x=some v->Clo m (BN v)):∀(xs:List Operand) (vs:List Value),evs t xs=some vs->Clo m (vs.flatMap BN)
 |[],vs,e=>by cases e;exact λi hi=>(nomatch hi)
 |x::xs,vs,e=>by
  unfold evs at e;split at e
  ·rename_i v hv
   split at e
   ·rename_i r hr
    cases e;intro i hi;rw[List.flatMap_cons]at hi;rcases List.mem_append.1 hi with hi|hi
    ·unfold evo at hv
     split at hv
     ·exact h _ v hv i hi
     ·rw[(cst_ok hv (λ_=>none)).2]at hi;cases hi
     ·cases hv
    ·exact IV h xs r hr i hi
   ·cases e
  ·cases e
theorem Run.more(F:Fix l n c t m)(h:Run tt Γ l n c t m U X){i:Nat}{o:Oper}{p:Value × AV}(hi:i<n)(ho:l[i]?=some o)(hX:X i=false)(hr:∀i',Bi l.toArray n i i'=true->i'≠i->X i'=true)
  (hnew:RelJ tt Γ l c (C7 U i p) (Ce X i) t m i o):Run tt Γ l n c t m (C7 U i p) (Ce X i):=by
 have hsub:∀j,X j=true->Ce X i j=true/\C7 U i p j=U j:=λj hj=>by
  have:j≠i:=λe=>by rw[e,hX]at hj;cases hj
  exact⟨by rw[BY this];exact hj,CP this⟩
 have hK':Keys c (C7 U i p) (Ce X i) n:=λj hj hXj x b hx=>by
  by_cases e:j=i
  ·subst e;have:=hnew.ce x b hx;exact⟨this.1,this.2.1⟩
  ·rw[BY e]at hXj;rw[CP e]at hx;exact h.keys F j hj hXj x b hx
 have hM:∀k,k<=n->∀x b,lk (pM U X m k) x=some b->lk (pM (C7 U i p) (Ce X i) m k) x=some b:=λk hk x b hb=>
  (DJ F.m0 hK' hk).2 (((DJ F.m0 (h.keys F) hk).1 hb).imp id λ⟨j,h1,h2,h3⟩=>⟨j,h1,(hsub j h2).1,by rw[(hsub j h2).2];exact h3⟩)
 refine⟨λq x hq hqx hXq=>?_,λj oj hj hoj hXj=>?_⟩
 ·by_cases e:x=i
  ·subst e;exact CF
  ·rw[BY e]
   by_cases e':q=i
   ·subst e';exact hr x hqx e
   ·rw[BY e']at hXq;exact h.cl q x hq hqx hXq
 ·by_cases e:j=i
  ·subst e
   rw[ho]at hoj;cases hoj;exact hnew
  ·rw[BY e]at hXj
   have hR:=h.rel j oj hj hoj hXj
   obtain⟨e1,e2,_⟩:=Kn (U:=U) (X:=X) (U':=C7 U i p) (X':=Ce X i) F hj hoj (k:=j) (k':=j) (by omega) (by omega) λi' hi' hor=>by
    by_cases e':i'=i
    ·subst e'
     have hnot:¬i'<j:=λhlt=>by
      rcases hor with⟨_,hr'⟩|⟨hgt,_⟩
      ·have:=h.cl j i' hj hr' hXj;rw[hX]at this;cases this
      ·omega
     exact⟨⟨λh=>absurd h.1 hnot,λh=>absurd h.1 hnot⟩,λh=>absurd h hnot⟩
    ·rw[BY e',CP e'];exact⟨Iff.rfl,λ_ _=>rfl⟩
   have hcl:∀ids,Clo (pM U X m j) ids->EZ (pM U X m j) ids=EZ (pM (C7 U i p) (Ce X i) m j) ids:=λids hc=>GK ids λx hx=>by
    obtain⟨b,hb⟩:=hc x hx;rw[hb,hM j (by omega) x b hb]
   have hC:∀ids,Clo ((U j).2++pM U X m j) ids->Clo ((U j).2++pM (C7 U i p) (Ce X i) m j) ids:=λids hc=>hc.mono λx b hb=>by
    rw[Bc]at hb ⊢
    cases hu:lk (U j).2 x with
    |some b'=>exact⟨b',rfl⟩
    |none=>rw[hu]at hb;exact⟨b,hM j (by omega) x b hb⟩
   refine⟨?_,?_,?_⟩
   ·rw[CP e,<-e1,<-e2]
    rcases hR.r with hr|⟨h1,vs,h2,h3⟩
    ·exact .inl hr
    ·exact .inr ⟨h1,vs,h2,λk hk=>h3 k (by rw[hcl _ (IV (λx v hv=>h.tclo F (by omega) hv) _ _ h2)];exact hk)⟩
   ·rw[CP e];exact hC _ hR.cv
   ·rw[CP e]
    exact λx b hx=>⟨(hR.ce x b hx).1,(hR.ce x b hx).2.1,hC _ (hR.ce x b hx).2.2⟩
end
section
variable {P:Program} {RD:(Nat->Prop)->World->Nat->Nat->Prop} {w0:World} {R0:Ro} {nt:Nat} {tt:List TE} {Γ:List (Nat × Nat × Ct)} {l:List Oper} {U U':Nat->Value × AV} {X X':Nat->Bool} {t:Tm} {m:AV} {c n:Nat}
theorem JB{i:Nat}{p:Value × AV}:∀k,k<=i->pT l (C7 U i p) (Ce X i) t k=pT l U X t k
 |0,_=>rfl
 |k+1,h=>by unfold pT;rw[JB k (by omega),BY (by omega),CP (by omega)]
theorem JD{i:Nat}{p:Value × AV}:∀k,k<=i->pM (C7 U i p) (Ce X i) m k=pM U X m k
 |0,_=>rfl
 |k+1,h=>by unfold pM;rw[JD k (by omega),BY (by omega),CP (by omega)]
def Free(w0:World)(G:Gh)(m:AV)(W:World)(g:Nat):Prop:=w0.heap.size<=g/\g<W.heap.size/\¬G.Z g/\¬G.RB g/\∀i b,lk m i=some b->DE b->G.α i≠some ⟨g,0,none⟩
def Keeps(w0:World)(G:Gh)(m:AV)(W:World)(G':Gh)(m':AV)(W':World):Prop:=(∀k,G.Z k->G'.Z k/\W'.heap[k]?=W.heap[k]?)/\∀g,Free w0 G m W g->Free w0 G' m' W' g/\W'.heap[g]?=W.heap[g]?
theorem Keeps.gs{G G':Gh}{m es:AV}{W W':World}{q q' id:Nat}(hs:GS RD G W q G' W' q' id)(hn:NewOk RD w0 G' W W' q' es)(hz:∀k,G.Z k->k<W.heap.size/\¬G.RB k)(hold:∀i b,lk m i=some b->(i<id\/id+8<=i)):Keeps w0 G m W G' (es++m) W':=by
 refine⟨λk hk=>⟨hs.z1 k hk,hs.stp.block k (hz k hk).1 (hz k hk).2⟩,λg ⟨h1,h2,h3,h4,h5⟩=>⟨⟨h1,AF h2 hs.stp.size,λh=>(hs.z2 g h).elim h3 (by omega),λh=>(hs.r2 g h).elim h4 (by omega),λi b hb ho=>?_⟩,hs.stp.block g h2 h4⟩⟩;rw[Bc]at hb
 cases hl:lk es i with
 |some b'=>
  rw[hl]at hb;cases hb;obtain⟨g',e1,e2⟩:=hn.own i b (A9 _ _ _ hl) ho;rw[e1];intro e;cases e;omega
 |none=>
  rw[hl]at hb;rw[hs.al i (hold i b hb)];exact h5 i b hb ho
theorem exec(E:Env P RD tt Γ)(F:Fix l n c t m)(h:Run tt Γ l n c t m U X){cE q:Nat}(hcE:c+8*n<=cE){G:Gh}{a:Act}{W:World}(hs:Sat RD R0 w0 nt G ⟨pT l U X t n,pM U X m n,cE,q⟩ a W)
  {i:Nat} {o:Oper} (hi:i<n) (ho:l[i]?=some o) (hX:X i=false) (hr:∀i',Bi l.toArray n i i'=true->i'≠i->X i'=true) (hd:∀x,o.dst=some x->x<nt) (hq:Am Γ o=0\/q+Am Γ o<=QM)
  (hc:DF l (pT l U X t i) o=some false\/(DF l (pT l U X t i) o=some true/\∃vs k0,evs (pT l U X t i) (Bj o.op)=some vs/\opg tt Γ (c+8*i) o.op vs (EZ (pM U X m i) (vs.flatMap BN)) k0))
  {K:Act->World->Prop} (hK:∀v es G' W',Run tt Γ l n c t m (C7 U i (v,es)) (Ce X i)->Sat RD R0 w0 nt G' ⟨pT l (C7 U i (v,es)) (Ce X i) t n,pM (C7 U i (v,es)) (Ce X i) m n,cE,q+Am Γ o⟩ (a.put o.dst (r2 G'.α v)) W'->Keeps w0 G (pM U X m n) W G' (pM (C7 U i (v,es)) (Ce X i) m n) W'->K (a.put o.dst (r2 G'.α v)) W'):
  wpList P l.toArray (Ch K) [o] a W:=by
 have hdi:BX l i=o.dst:=by unfold BX;rw[ho];rfl
 obtain⟨e1,e2,_⟩:=Kn (U:=U) (X:=X) (U':=U) (X':=X) F hi ho (k:=i) (k':=n) (by omega) (by omega) λi' hi' hor=>by
  refine⟨⟨λh=>⟨hi',h.2⟩,λh'=>⟨?_,h'.2⟩⟩,λ_ _=>rfl⟩;rcases hor with h1|⟨_,hr'⟩
  ·exact h1.1
  ·have:=h.cl i' i hi' hr' h'.2;rw[hX]at this;cases this
 have hlow:∀x b,lk (pM U X m i) x=some b->x<c+8*i:=λx b hb=>by
  rcases EC i x b hb with h1|⟨j,hj,hXj,h1⟩
  ·have:=F.m0 x b h1;omega
  ·have:=h.keys F j (by omega) hXj x b (A9 _ _ _ h1);omega
 have hup:∀x b,lk (pM U X m i) x=some b->lk (pM U X m n) x=some b:=λx b hb=>
  (DJ F.m0 (h.keys F) (AG _)).2 (((DJ F.m0 (h.keys F) (by omega)).1 hb).imp id λ⟨j,h1,h2⟩=>⟨j,by omega,h2⟩)
 have hold:∀x b,lk (pM U X m n) x=some b->(x<c+8*i\/c+8*i+8<=x):=λx b hb=>by
  rcases EC n x b hb with h1|⟨j,hj,hXj,h1⟩
  ·have:=F.m0 x b h1;omega
  ·have hne:j≠i:=λe=>by rw[e,hX]at hXj;cases hXj
   have:=h.keys F j hj hXj x b (A9 _ _ _ h1);omega
 -- what comes of an outcome
 have fin:∀v es G' W',RelJ tt Γ l c (C7 U i (v,es)) (Ce X i) t m i o->Sat RD R0 w0 nt G' ⟨D5 o.dst v (pT l U X t n),es++pM U X m n,cE,q+Am Γ o⟩ (a.put o.dst (r2 G'.α v)) W'->Keeps w0 G (pM U X m n) W G' (es++pM U X m n) W'->K (a.put o.dst (r2 G'.α v)) W':=λv es G' W' hrel hs' hkp=>by
  have hrun:=h.more F hi ho hX hr hrel
  have hme:∀x,lk (pM (C7 U i (v,es)) (Ce X i) m n) x=lk (es++pM U X m n) x:=by
   intro x;apply Option.ext;intro b;rw[DJ F.m0 (hrun.keys F) (AG _),Bc];constructor
   ·rintro(h1|⟨j,hj,hXj,h1⟩)
    ·cases hu:lk es x with
     |some b'=>have:=hrun.keys F i hi CF x b' (by rw[Bh];exact A9 _ _ _ hu);have:=F.m0 x b h1;omega
     |none=>exact JC F.m0 (h.keys F) h1 n (AG _)
    ·by_cases e:j=i
     ·subst e;rw[Bh]at h1;rw[show lk es x=some b from h1];rfl
     ·rw[BY e]at hXj
      rw[CP e]at h1
      cases hu:lk es x with
      |some b'=>have:=hrun.keys F i hi CF x b' (by rw[Bh];exact A9 _ _ _ hu);have:=h.keys F j hj hXj x b (A9 _ _ _ h1);omega
      |none=>exact Ki (h.keys F) hXj h1 n (AG _) hj
   ·intro h1
    cases hu:lk es x with
    |some b'=>
     rw[hu]at h1;exact .inr ⟨i,hi,CF,by rw[Bh];exact hu.trans h1⟩
    |none=>
     rw[hu]at h1;rcases EC n x b h1 with h2|⟨j,hj,hXj,h2⟩
     ·exact .inl h2
     ·have hne:j≠i:=λe=>by rw[e,hX]at hXj;cases hXj
      exact .inr ⟨j,hj,by rw[BY hne];exact hXj,by rw[CP hne];exact h2⟩
  refine hK v es G' W' hrun (hs'.congr (λx=>?_) hme) ⟨hkp.1,λg hg=>⟨⟨(hkp.2 g hg).1.1,(hkp.2 g hg).1.2.1,(hkp.2 g hg).1.2.2.1,(hkp.2 g hg).1.2.2.2.1,λi b hb=>(hkp.2 g hg).1.2.2.2.2 i b ((hme i).symm.trans hb)⟩,(hkp.2 g hg).2⟩⟩
  ·rw[GY]
   split
   ·rename_i hx
    rw[IK n hi CF (hdi.trans hx) (λj hj hne=>F.own i j x hi hj (Ne.symm hne) (hdi.trans hx)),Bh]
   ·rename_i hx
    refine NZ F.own (AG _) (AG _) λj hj hdj=>?_
    have hne:j≠i:=λe=>by rw[e,hdi]at hdj;exact hx hdj
    rw[BY hne,CP hne];exact⟨Iff.rfl,λ_ _=>rfl⟩
 refine wpList_step λK' hK'=>?_
 rcases hc with hw|⟨hw,vs,k0,hvs,hop⟩
 ·rw[II (G:=G) (e1▸hw) λi v hv=>(hs.tmp i v hv).1]
  show K' (a.put o.dst undef) W;refine hK' _ _ ?_;have:=hs.step (v:=.tuple #[]) (es:=[]) (d:=o.dst) (c':=cE) (GS.refl' (P:=P) (tt:=tt) (Γ:=Γ) (id:=c+8*i) E hs.z3 hs.rl (Nat.le_add_right q (Am Γ o))) .nil hold (AG _) (by omega) (by have:=F.c64;omega) (λi hi=>(nomatch hi)) (λ_ _ h=>(nomatch h)) hd;have h2:=fin (.tuple #[]) [] G W ⟨.inl ⟨by rw[JB i (AG _)];exact hw,Bh⟩,by rw[Bh];exact λi hi=>(nomatch hi),by rw[Bh];exact λ_ _ h=>(nomatch h)⟩ this ⟨λk hk=>⟨hk,rfl⟩,λg hg=>⟨hg,rfl⟩⟩;rw[noRW]at h2;exact h2
 ·rw[II (G:=G) (e1▸hw) λi v hv=>(hs.tmp i v hv).1]
  show o.wp P a W K' _;obtain⟨hev,_⟩:=M0 (a:=a) (G:=G) (m:=pM U X m n) hs.tmp _ _ (e2▸hvs);refine Jz E (w0:=w0) (id:=c+8*i) (q:=q) (m:=pM U X m i) hs.z3 hs.rl hs.fr.size (λx b hb=>⟨(hs.mem x b (hup x b hb)).2.1,.inl (hlow x b hb)⟩) (λx b hb=>h.mclo F (by omega) hb) (IV (λx v hv=>h.tclo F (by omega) hv) _ _ hvs) hev hq hop λv es' G' w' hkk hgs hn hc1 hc2=>?_
  have hmn:∀ids,Clo (es'++pM U X m i) ids->Clo (es'++pM U X m n) ids:=λids hc=>hc.mono λx b hb=>by
   rw[Bc]at hb ⊢
   cases hu:lk es' x with
   |some b'=>exact⟨b',rfl⟩
   |none=>rw[hu]at hb;exact⟨b,hup x b hb⟩
  refine hK' _ _ (fin v es' G' w' ⟨.inr ⟨by rw[JB i (AG _)];exact hw,vs,by rw[JB i (AG _)];exact hvs,by rw[JD i (AG _),Bh];exact hkk⟩,by rw[Bh,JD i (AG _)];exact hc1,by rw[Bh,JD i (AG _)];exact hc2⟩ ?_ (.gs hgs hn hs.z3 hold));exact hs.step hgs hn hold (AG _) (by omega) (by have:=F.c64;omega) (hmn _ hc1) (λx b hx=>⟨(hc2 x b hx).1,(hc2 x b hx).2.1,hmn _ (hc2 x b hx).2.2⟩) hd
end
section
variable {P:Program} {RD:(Nat->Prop)->World->Nat->Nat->Prop} {w0:World} {R0:Ro} {nt:Nat} {tt:List TE} {Γ:List (Nat × Nat × Ct)} {l:List Oper} {U U':Nat->Value × AV} {X X':Nat->Bool} {t:Tm} {m:AV} {c n:Nat} {kk:Tm->AV->Prop}
theorem Fq(a b:List Oper):BG Γ (a++b)=BG Γ a+BG Γ b:=by
 induction a with
 |nil=>show BG Γ b=0+_;omega
 |cons o a ih=>show Am Γ o+BG Γ (a++b)=(Am Γ o+BG Γ a)+_;omega
theorem Na:∀k,pC Γ l (λ_=>true) k=BG Γ (l.take k)
 |0=>rfl
 |k+1=>by
  unfold pC;rw[Na k,List.take_add_one,Fq]
  congr 1
  cases l[k]? with
  |none=>rfl
  |some o=>show Am Γ o=Am Γ o+0;omega
theorem pC_le(X:Nat->Bool)(k:Nat):pC Γ l X k<=BG Γ l:=by
 refine AH (Nb (X':=λ_=>true) (λ_ _=>rfl) k) ?_;rw[Na k]
 conv=>rhs;rw[<-List.take_append_drop k l]
 rw[Fq];omega
theorem Hl{j:Nat}{o:Oper}{r:List Oper}(hst:OW o.op=false)(hX:X j=true)(ho:l[j]?=some o)(hR:RelJ tt Γ l c U X t m j o)(h:vO tt Γ l c (o::r) j (pT l U X t j) (pM U X m j) kk):vO tt Γ l c r (j+1) (pT l U X t (j+1)) (pM U X m (j+1)) kk:=by
 have hdj:BX l j=o.dst:=by unfold BX;rw[ho];rfl
 have eT:pT l U X t (j+1)=D5 o.dst (U j).1 (pT l U X t j):=by
  show(bif X j then D5 (BX l j) (U j).1 (pT l U X t j) else pT l U X t j)=_;rw[hX,hdj];rfl
 have eM:pM U X m (j+1)=(U j).2++pM U X m j:=by
  show(bif X j then(U j).2++pM U X m j else pM U X m j)=_;rw[hX];rfl
 rw[eT,eM];unfold vO at h;rcases hR.r with⟨h1,h2⟩|⟨h1,vs,h2,h3⟩
 ·rw[h1]at h
  rw[h2];exact h
 ·rw[h1]at h
  simp only[h2,LK hst,LQ hst]at h;exact h3 _ h
theorem N3{j:Nat}{o:Oper}{r:List Oper}{t:Tm}{m:AV}(hst:OW o.op=false)(h:vO tt Γ l c (o::r) j t m kk):DF l t o=some false\/(DF l t o=some true/\∃vs k0,evs t (Bj o.op)=some vs/\opg tt Γ (c+8*j) o.op vs (EZ m (vs.flatMap BN)) k0):=by
 unfold vO at h;split at h
 ·rename_i hw;exact .inl hw
 ·rename_i hw
  split at h
  ·rename_i vs hvs
   rw[LK hst]at h;simp only[LQ hst]at h;exact .inr ⟨hw,vs,_,hvs,h⟩
  ·exact h.elim
 ·exact h.elim
theorem think(E:Env P RD tt Γ)(F:Fix l n c t m)(hR0:Run tt Γ l n c t m U X){cE q:Nat}(hcE:c+8*n<=cE)(hq:BG Γ l=0\/q+BG Γ l<=QM)(hd:Ku nt l=true)(hv:vO tt Γ l c l 0 t m kk)
  {G:Gh} {a:Act} {W:World} (hs:Sat RD R0 w0 nt G ⟨pT l U X t n,pM U X m n,cE,q+pC Γ l X n⟩ a W):∀j,j<=n->
  ∃U' X' G' a' W',(∀k,X' k=(X k||decide (k<j)))/\(∀k,X k=true->U' k=U k)/\Run tt Γ l n c t m U' X'/\Sat RD R0 w0 nt G' ⟨pT l U' X' t n,pM U' X' m n,cE,q+pC Γ l X' n⟩ a' W'/\vO tt Γ l c (l.drop j) j (pT l U' X' t j) (pM U' X' m j) kk
 |0,_=>⟨U,X,G,a,W,λk=>by simp,λ_ _=>rfl,hR0,hs,hv⟩
 |j+1,hj=>by
  obtain⟨U',X',G',a',W',hX',hU',hrun,hs',hv'⟩:=think E F hR0 hcE hq hd hv hs j (by omega);obtain⟨o,ho⟩:∃o,l[j]?=some o:=⟨l[j]'(by have:=F.len;omega),by simp⟩
  have hdrop:l.drop j=o::l.drop (j+1):=by
   rw[List.drop_eq_getElem_cons (by have:=F.len;omega)]
   congr 1
   have:=(AC ho).2;exact this
  rw[hdrop]at hv';have hst:=(Fo F.loc (by omega) ho).1
  cases hXj:X' j with
  |true=>
   refine⟨U',X',G',a',W',λk=>?_,hU',hrun,hs',Hl hst hXj ho (hrun.rel j o (by omega) ho hXj) hv'⟩
   by_cases e:k=j
   ·subst e;rw[hXj];simp
   ·rw[hX' k];congr 1;rw[decide_eq_decide];omega
  |false=>
   have hr:∀i',Bi l.toArray n j i'=true->i'≠j->X' i'=true:=λi' hr hne=>by
    have:=Jx F.deps n j i' (by omega) hr;rw[hX' i']
    simp;omega
   have hdo:∀x,o.dst=some x->x<nt:=λx hx=>by
    have:=List.all_eq_true.1 hd o (AE ho);rw[hx]at this;exact AD this
   have hpc:pC Γ l (Ce X' j) n=pC Γ l X' n+Am Γ o:=Me hXj ho n (by omega);have hle:=pC_le (Γ:=Γ) (l:=l) (Ce X' j) n;have:=wpL_pull (exec E F hrun hcE hs' (by omega) ho hXj hr hdo (by omega) (N3 hst hv') (K:=λ_ _=>∃U' X' G' a' W',(∀k,X' k=(X k||decide (k<j+1)))/\(∀k,X k=true->U' k=U k)/\Run tt Γ l n c t m U' X'/\Sat RD R0 w0 nt G' ⟨pT l U' X' t n,pM U' X' m n,cE,q+pC Γ l X' n⟩ a' W'/\vO tt Γ l c (l.drop (j+1)) (j+1) (pT l U' X' t (j+1)) (pM U' X' m (j+1)) kk) λv es G2 W2 hrun2 hs2 _=>?_)
   ·exact this
   ·refine⟨C7 U' j (v,es),Ce X' j,G2,_,W2,λk=>?_,λk hk=>?_,hrun2,by rw[hpc,<-Nat.add_assoc];exact hs2,?_⟩
    ·by_cases e:k=j
     ·subst e;rw[CF];simp
     ·rw[BY e,hX' k];congr 1;rw[decide_eq_decide];omega
    ·have hne:k≠j:=λe=>by
      have:=hX' k;rw[hk,e,hXj]at this;cases this
     rw[CP hne];exact hU' k hk
    ·refine Hl hst CF ho (hrun2.rel j o (by omega) ho CF) ?_
     rw[JB j (AG _),JD j (AG _)];exact hv'
theorem L9(E:Env P RD tt Γ)(F:Fix l n c t m)(hR0:Run tt Γ l n c t m U X){cE q:Nat}(hcE:c+8*n<=cE)(hq:BG Γ l=0\/q+BG Γ l<=QM)(hd:Ku nt l=true)(hv:vO tt Γ l c l 0 t m kk)
  {G:Gh} {a:Act} {W:World} (hs:Sat RD R0 w0 nt G ⟨pT l U X t n,pM U X m n,cE,q+pC Γ l X n⟩ a W) {i:Nat} {o:Oper} (hi:i<n) (ho:l[i]?=some o) (hX:X i=false) (hr:∀i',Bi l.toArray n i i'=true->i'≠i->X i'=true):
  DF l (pT l U X t i) o=some false\/(DF l (pT l U X t i) o=some true/\∃vs k0,evs (pT l U X t i) (Bj o.op)=some vs/\opg tt Γ (c+8*i) o.op vs (EZ (pM U X m i) (vs.flatMap BN)) k0):=by
 obtain⟨U',X',G',a',W',hX',hU',hrun,_,hv'⟩:=think E F hR0 hcE hq hd hv hs i (by omega)
 have hdrop:l.drop i=o::l.drop (i+1):=by
  rw[List.drop_eq_getElem_cons (by have:=F.len;omega)]
  congr 1
  exact(AC ho).2
 rw[hdrop]at hv';have hst:=(Fo F.loc hi ho).1
 obtain⟨e1,e2,_⟩:=Kn (U:=U) (X:=X) (U':=U') (X':=X') F hi ho (k:=i) (k':=i) (by omega) (by omega) λi' hi' hor=>by
  rcases hor with⟨hlt,hr'⟩|⟨hgt,_⟩
  ·have hx:=hr i' hr' (by omega)
   exact⟨⟨λh=>⟨hlt,by rw[hX' i',hx];rfl⟩,λh=>⟨hlt,hx⟩⟩,λ_ h=>(hU' i' h).symm⟩
  ·exact⟨⟨λh=>absurd h.1 (by omega),λh=>absurd h.1 (by omega)⟩,λh=>absurd h (by omega)⟩
 rcases N3 hst hv' with h|⟨h1,vs,k0,h2,h3⟩
 ·exact .inl (e1.trans h)
 ·have hvs:=e2.trans h2
  refine .inr ⟨e1.trans h1,vs,k0,hvs,?_⟩;rw[GK (m:=pM U X m i) (m':=pM U' X' m i) _ λx hx=>?_]
  ·exact h3
  ·obtain⟨b,hb⟩:=IV (λx v hv=>hR0.tclo F (by omega) hv) _ _ hvs x hx
   rw[hb];refine((DJ F.m0 (hrun.keys F) (by omega)).2 (((DJ F.m0 (hR0.keys F) (by omega)).1 hb).imp id λ⟨j,h1,h2,h3⟩=>⟨j,h1,?_,?_⟩)).symm
   ·rw[hX' j,h2];rfl
   ·rw[hU' j h2];exact h3
end
section
variable {P:Program} {RD:(Nat->Prop)->World->Nat->Nat->Prop} {w0:World} {R0:Ro} {nt:Nat} {tt:List TE} {Γ:List (Nat × Nat × Ct)} {l:List Oper} {U:Nat->Value × AV} {X:Nat->Bool} {t:Tm} {m:AV} {c n:Nat} {kk:Tm->AV->Prop}
theorem Sat.drew(E:Env P RD tt Γ){G:Gh}{a:Act}{w:World}{s:St}(h:Sat RD R0 w0 nt G s a w):Sat RD R0 w0 nt G s a {w with drawn:=w.drawn+1}:=by
 refine⟨h.dfr,h.tsz,h.tmp,λi b hb=>⟨(h.mem i b hb).1,?_,(h.mem i b hb).2.2⟩,h.dis,h.z3,⟨h.fr.os,h.fr.tape,h.fr.output,h.fr.size,h.fr.block⟩,h.rb,h.rl,h.c64,h.al,h.sz⟩;have hh:=(h.mem i b hb).2.1;refine⟨hh.k0,λh1 j hj=>?_,λh2=>?_,λh3=>?_,λh4=>?_,hh.kk⟩
 ·obtain⟨g,o,el,e1,e2,e3,e4⟩:=hh.k1 h1 j hj
  exact⟨g,o,el,e1,e2,e3,e4.step e2 (λ_ h=>h) (λ_ _=>rfl)⟩
 ·obtain⟨g,o,e1,e2,e4⟩:=hh.k2 h2
  exact⟨g,o,e1,e2,e4.step e2 (λ_ h=>h) (λ_ _=>rfl)⟩
 ·obtain⟨g,els,e1,e2,e3,e4,e5⟩:=hh.k3 h3
  exact⟨g,els,e1,e2,e3,e4,e5.step rfl (λ_ h=>h) (λ_ _=>rfl)⟩
 ·obtain⟨g,e1,e2,e3⟩:=hh.k4 h4
  exact⟨g,e1,e2,E.rd _ _ _ _ _ _ _ e3 (λ_ h=>h) rfl (λ_ _=>rfl) (AG _)⟩
theorem chain(F:Fix l n c t m)(hR:Run tt Γ l n c t m U X)(hv:vO tt Γ l c l 0 t m kk):∀j,j<=n->(∀i,i<j->X i=true)->vO tt Γ l c (l.drop j) j (pT l U X t j) (pM U X m j) kk
 |0,_,_=>hv
 |j+1,hj,hX=>by
  have ih:=chain F hR hv j (by omega) λi hi=>hX i (by omega)
  obtain⟨o,ho⟩:∃o,l[j]?=some o:=⟨l[j]'(by have:=F.len;omega),by simp⟩
  have hdrop:l.drop j=o::l.drop (j+1):=by
   rw[List.drop_eq_getElem_cons (by have:=F.len;omega)]
   congr 1
   exact(AC ho).2
  rw[hdrop]at ih;exact Hl (Fo F.loc (by omega) ho).1 (hX j (by omega)) ho (hR.rel j o (by omega) ho (hX j (by omega))) ih
theorem Mc:∀k,pT l U (λ_=>false) t k=t
 |0=>rfl
 |k+1=>Mc k
theorem Md:∀k,pM U (λ_=>false) m k=m
 |0=>rfl
 |k+1=>Md k
theorem pC_nil:∀k,pC Γ l (λ_=>false) k=0
 |0=>rfl
 |k+1=>by unfold pC;rw[pC_nil k];rfl
theorem pC_all(h:∀j,j<n->X j=true):∀k,k<=n->pC Γ l X k=BG Γ (l.take k)
 |0,_=>rfl
 |k+1,hk=>by
  unfold pC;rw[pC_all h k (by omega),List.take_add_one,Fq,h k (by omega)]
  congr 1
  cases l[k]? with
  |none=>rfl
  |some o=>show Am Γ o=Am Γ o+0;omega
theorem drawn_ok(E:Env P RD tt Γ)(hmix:P.follows .mixedOrders=true){ops:Array Oper}(n:Nat)(hB:Av ops n=true)(hL:locB ops.toList n=true):OB P RD tt Γ ops:=by
 intro R0 w0 nt id k s G a w hd hv hs;have hB':=hB;simp only[Av,Bool.and_eq_true,decide_eq_true_eq]at hB';obtain⟨⟨⟨⟨⟨hn,_⟩,_⟩,hdB⟩,hown⟩,_⟩:=hB';obtain⟨t,m,c,q⟩:=s
 have hv2:(BG Γ ops.toList=0\/q+BG Γ ops.toList<=QM)/\vO tt Γ ops.toList c ops.toList 0 t m λt m=>k ⟨t,m,c+8*ops.toList.length,q+BG Γ ops.toList⟩:=by
  have h':(bif Nat.beq (BG Γ ops.toList) 0 then vO tt Γ ops.toList c ops.toList 0 t m λt m=>k ⟨t,m,c+8*ops.toList.length,q+BG Γ ops.toList⟩ else q+BG Γ ops.toList<=QM/\vO tt Γ ops.toList c ops.toList 0 t m λt m=>k ⟨t,m,c+8*ops.toList.length,q+BG Γ ops.toList⟩):=hv
  cases hb:Nat.beq (BG Γ ops.toList) 0 with
  |true=>rw[hb]at h';exact⟨.inl (Nat.eq_of_beq_eq_true hb),h'⟩
  |false=>rw[hb]at h';exact⟨.inr h'.1,h'.2⟩
 obtain⟨hq,hv3⟩:=hv2;clear hv;have hops:ops=ops.toList.toArray:=by simp
 generalize hl:ops.toList=l at *;subst hops;have hnl:n<l.length:=by simpa using hn
 have F:Fix l n c t m:=⟨by omega,hL,JH hown,hdB,hs.c64,λi b hb=>(hs.mem i b hb).1,λx v hx=>(hs.tmp x v hx).2,λi b hb=>(hs.mem i b hb).2.2⟩;refine FG n (λlisted a W=>∃U G,Run tt Γ l n c t m U (λj=>listed.getD j false)/\Sat RD R0 w0 nt G ⟨pT l U (λj=>listed.getD j false) t n,pM U (λj=>listed.getD j false) m n,c+8*l.length,q+pC Γ l (λj=>listed.getD j false) n⟩ a W) hmix hB ?_ ?_ ?_
 ·have e:(λj=>(Array.replicate l.toArray.size false).getD j false)=λ_=>false:=funext λj=>getD_replicate_false _ _
  rw[e];refine⟨λ_=>(.tuple #[],[]),G,⟨λ_ _ _ _ h=>(by cases h),λ_ _ _ _ h=>(by cases h)⟩,?_⟩;rw[Mc,Md,pC_nil];exact(hs.ids (h64:=by have h1:64<=c:=hs.c64;show 64<=c+8*l.length;omega) λi b hb=>by have:=(hs.mem i b hb).1;show i<c+8*l.length;have:i<c:=this;omega).drew E
 ·intro listed a W i o inv hI hi ho hun hdeps K hK
  obtain⟨U,G,hrun,hs'⟩:=hI;have ho':l[i]?=some o:=by simpa using ho
  have hsz:i<listed.size:=by rw[inv.size];simp;omega
  have hXi:listed.getD i false=false:=by rw[<-hun];simp[hsz]
  have hr:∀i',Bi l.toArray n i i'=true->i'≠i->listed.getD i' false=true:=λi' hr hne=>by
   obtain⟨f,hf⟩:∃f,n=f+1:=⟨n - 1,by omega⟩;rw[hf]at hr;rcases Bool.or_eq_true_iff.1 hr with h|h
   ·exact absurd (Nat.eq_of_beq_eq_true h).symm hne
   ·obtain⟨j,_,hj⟩:=List.any_eq_true.1 h
    obtain⟨h1,h2⟩:=Bool.and_eq_true_iff.1 hj;exact EK inv f j i' h2 (hdeps j h1)
  have hdo:∀x,o.dst=some x->x<nt:=λx hx=>by
   have:=List.all_eq_true.1 hd o (AE ho');rw[hx]at this;exact AD this
  have hpc:=Me (Γ:=Γ) (X:=λj=>listed.getD j false) hXi ho' n hi;have hle:=pC_le (Γ:=Γ) (l:=l) (Ce (λj=>listed.getD j false) i) n
  have eX:(λj=>(listed.setIfInBounds i true).getD j false)=Ce (λj=>listed.getD j false) i:=funext λj=>by
   unfold Ce
   by_cases e:j=i
   ·subst e;rw[if_pos rfl];simp[hsz]
   ·rw[if_neg e];exact getD_set_ne false (Ne.symm e)
  refine exec E F hrun (by omega) hs' hi ho' hXi hr hdo (by omega) (L9 E F hrun (by omega) hq hd hv3 hs' hi ho' hXi hr) λv es G' W' hrun' hs2 _=>hK _ W' ⟨C7 U i (v,es),G',?_,?_⟩
  ·rw[eX];exact hrun'
  ·rw[eX,hpc,<-Nat.add_assoc];exact hs2
 ·intro a W hI
  obtain⟨U,G,hrun,hs'⟩:=hI
  have hX:∀j,j<n->(Bp l.toArray n).getD j false=true:=λj hj=>by
   unfold Bp;rw[Array.getD_eq_getD_getElem?,Array.getElem?_ofFn,dif_pos (by simp;omega)];simp[hj]
  have hvn:=chain F hrun hv3 n (AG _) hX;have hcn:=pC_all (Γ:=Γ) (l:=l) hX n (AG _);have hsum:BG Γ l=BG Γ (l.take n)+BG Γ (l.drop n):=by rw[<-Fq,List.take_append_drop]
  rw[hcn]at hs'
  have hs3:=hs'.ids (c':=c+8*n) (h64:=by have h64:=F.c64;omega) λi b hb=>by
   rcases EC n i b hb with h1|⟨j,hj,hXj,h1⟩
   ·have:=F.m0 i b h1;omega
   ·have:=hrun.keys F j hj hXj i b (A9 _ _ _ h1);omega
  refine GP E (ops:=l) (l.drop n) n _ _ G a W _ ?_ hvn hs3 (by omega) λt' m' G' a' w' hk hs4=>⟨rfl,_,G',hk,?_⟩
  ·exact List.all_eq_true.2 λo ho=>List.all_eq_true.1 hd o (List.mem_of_mem_drop ho)
  ·rw[show n+(l.drop n).length=l.length by simp;omega,Nat.add_assoc,<-hsum]at hs4
   exact hs4
end
def isW:Op->Bool
 | .store ..=>true
 | .call ⟨.builtin .append,_,_⟩=>true
 |_=>false
def gnFrom:List Oper->Nat
 |[]=>0
 |o::r=>bif isW o.op then 0 else gnFrom r+1
def gn(l:List Oper):Nat:=Nat.min (gnFrom l) (l.length - 1)
def EG(Ρ:Sp)(nt:Nat):Code->Bool
 | .region i ops d=>(lk Ρ i).isSome||Ku nt ops.toList&&(!d||(Av ops (gn ops.toList)&&locB ops.toList (gn ops.toList)))
 | .seq x y=>EG Ρ nt x&&EG Ρ nt y
 | .cond _ x y=>EG Ρ nt x&&EG Ρ nt y
 | .block _ c=>EG Ρ nt c
 | .loop c=>EG Ρ nt c
 |_=>true
def Kd(i:Nat):Code->List (Array Oper × Bool)
 | .region j ops d=>bif Nat.beq j i then [(ops,d)] else []
 | .seq x y=>Kd i x++Kd i y
 | .cond _ x y=>Kd i x++Kd i y
 | .block _ c=>Kd i c
 | .loop c=>Kd i c
 |_=>[]
def SpAll(P:Program)(RD:(Nat->Prop)->World->Nat->Nat->Prop)(Ρ:Sp)(nt:Nat)(c:Code):Prop:=∀i C,lk Ρ i=some C->∀p∈Kd i c,Ho P RD nt i p.1 p.2 C
theorem SpAll.nil{P:Program}{RD:(Nat->Prop)->World->Nat->Nat->Prop}{nt:Nat}(c:Code):SpAll P RD [] nt c:=λ_ _ h=>(nomatch h)
theorem CR{P:Program}{RD:(Nat->Prop)->World->Nat->Nat->Prop}{tt:List TE}{Γ:List (Nat × Nat × Ct)}(E:Env P RD tt Γ)(hmix:P.follows .mixedOrders=true){Ρ:Sp}{nt:Nat}:∀c:Code,SpAll P RD Ρ nt c->EG Ρ nt c=true->CL P RD tt Γ Ρ nt c
 | .region i ops d,hS,h=>by
  unfold EG at h;unfold CL;split
  ·rename_i C hC
   exact hS i C hC (ops,d) (by unfold Kd;rw[show Nat.beq i i=true from by simp];exact List.mem_singleton.2 rfl)
  ·rename_i hC
   rw[hC]at h;simp only[Option.isSome_none,Bool.false_or,Bool.and_eq_true,Bool.or_eq_true,Bool.not_eq_true']at h;refine⟨h.1,λhd=>?_⟩;rcases h.2 with h2|h2
   ·rw[hd]at h2;cases h2
   ·exact drawn_ok E hmix _ h2.1 h2.2
 | .seq x y,hS,h=>by
  unfold EG at h;simp only[Bool.and_eq_true]at h;exact⟨CR E hmix x (λi C hC p hp=>hS i C hC p (List.mem_append.2 (.inl hp))) h.1,CR E hmix y (λi C hC p hp=>hS i C hC p (List.mem_append.2 (.inr hp))) h.2⟩
 | .cond _ x y,hS,h=>by
  unfold EG at h;simp only[Bool.and_eq_true]at h;exact⟨CR E hmix x (λi C hC p hp=>hS i C hC p (List.mem_append.2 (.inl hp))) h.1,CR E hmix y (λi C hC p hp=>hS i C hC p (List.mem_append.2 (.inr hp))) h.2⟩
 | .block _ c,hS,h=>CR E hmix c hS h
 | .loop c,hS,h=>CR E hmix c hS h
 | .skip,_,_| .rangeFunc ..,_,_| .exit _,_,_| .scope _,_,_| .label _,_,_| .goto _,_,_| .ret,_,_| .refuse _,_,_=>trivial
end
end Go.Proofs.YtbceafpodamnfaaGreat
