import Derived.Test.YtbceafpodamnfaaGreatDoorG07
set_option linter.all false
namespace Go.Proofs.YtbceafpodamnfaaGreatDoor
section
open Go.RowKit
def ldO(tt:List TE)(T:Nat)(cs:qL)(o:Nat):Option Value:=
 match tyo tt T with
 |some e=>bif Nat.beq e.u 4 then(bif Nat.ble (o+e.size) cs.length then some (.agg ((cs.drop o).take e.size).toArray) else none) else match cs[o]? with
  |some v=>bif Fr v then some v else none
  |none=>none
 |none=>none
def Ku(tt:List TE)(t:Tm)(m:AY):ResultVar->Option Value
 | .tmp x=>match lk t x with
  |some v=>bif FB v then some v else none
  |none=>none
 | .cell x T=>match lk t x with
  |some (.complex _ i off)=>match lk m i with
   |some b=>bif Nat.beq b.kd 0||Nat.beq b.kd 2 then ldO tt T b.cs off else none
   |none=>none
  |_=>none
def Lz(tt:List TE)(rs:List ResultVar)(t:Tm)(m:AY):Option Value:=
 match rs with
 |[r]=>Ku tt t m r
 |[r,r']=>match Ku tt t m r,Ku tt t m r' with
  |some v,some v'=>some (.tuple #[v,v'])
  |_,_=>none
 |_=>none
def EM:Nat->List Value->Tm
 |_,[]=>[]
 |i,v::r=>(i,v)::EM (i+1) r
section
variable {P:Program} {RD:(Nat->Prop)->World->Nat->Nat->Prop} {w0:World} {tt:List TE} {Γ:List (Nat × Nat × Ct)} {R0:Ro} {nt:Nat} {G:Gh} {w:World} {a:Act} {s:St} {Ρ:Sp}
theorem run_ldO(E:Env P RD tt Γ){T off:Nat}{cs:qL}{v:Value}(h:ldO tt T cs off=some v){g o:Nat}(H:∀x v,cs[x]?=some v->w.cell? ⟨g,o+x,none⟩=some (r0 G.α v)):(loadVar T ⟨g,o+off,none⟩).run P w=.ok (r2 G.α v) w/\r2 G.α v=r1 G.α v:=by
 unfold ldO at h;split at h
 ·rename_i e he
  obtain⟨h1,h2⟩:=E.ty he;subst h2
  cases M:Nat.beq e.u 4 with
  |true=>
   simp only[M,eD]at h
   cases J:Nat.ble (off+e.size) cs.length with
   |false=>rw[J]at h;cases h
   |true=>
    rw[J]at h;cases h;have ah:=AD J;obtain⟨fs,hd,_,_⟩:=h1.struct (cX M);obtain⟨i,_,hi,hs,_⟩:=h1.bG;have e1:∀W,(isAgg e.ty).run P W=.ok true W:=λW=>by simp[isAgg,underlying,hd,go_sem]
    have e2:(sizeOf e.ty).run P w=.ok (((cs.drop off).take e.size).map (r0 G.α)).length w:=by simp[sizeOf,typeInfo,hi,hs,go_sem];omega
    have e3:=run_loadCells_list (P:=P) w ⟨g,o+off,none⟩ (((cs.drop off).take e.size).map (r0 G.α)) λj v hv=>by
     rw[eh]at hv
     cases F:((cs.drop off).take e.size)[j]? with
     |none=>rw[F]at hv;cases hv
     |some u=>
      rw[F]at hv;cases hv;rw[JX,eq];refine H _ _ ?_;rw[eK]at F;split at F
      ·rwa [ej]at F
      ·cases F
    refine⟨?_,rfl⟩;simp only[loadVar,ew,e1,e2,e3,Result.andThen_ok,gM,Sem.run_pure];show Result.ok _ _=Result.ok (Value.agg _) _;simp
  |false=>
   simp only[M,cond_false]at h;have Z:e.u≠4:=λh=>by rw[h]at M;cases M
   split at h
   ·rename_i u hv
    cases Y:Fr u with
    |false=>rw[Y]at h;cases h
    |true=>
     rw[Y]at h;cases h;obtain⟨d,hd,h3,h4⟩:=h1.bv Z
     have e1:∀W,(isAgg e.ty).run P W=.ok false W:=λW=>by
      cases d<;>first|exact absurd rfl (h3 _)|exact absurd rfl (h4 _ _)|simp[isAgg,underlying,hd,go_sem]
     refine⟨?_,?_⟩
     ·rw[(Dp Y G.α).1]
      simp[loadVar,e1,H _ _ hv,go_sem]
     ·rcases Iu v with⟨_,rfl⟩|⟨h5,_⟩
      ·cases Y
      ·exact h5 _
   ·cases h
 ·cases h
def resSem(tmps:Array Value):ResultVar->Sem Value
 | .tmp t=>pure (tmps.getD t undef)
 | .cell a t=>do loadVar t (<-asAddr (tmps.getD a undef))
theorem NE(E:Env P RD tt Γ)(Y:Sat RD R0 w0 nt G s a w){r:ResultVar}{v:Value}(h:Ku tt s.t s.m r=some v):
  (resSem a.tmps r).run P w=.ok (r2 G.α v) w/\r2 G.α v=r1 G.α v:=by
 have F:∀x u,lk s.t x=some u->a.tmps.getD x undef=r2 G.α u:=λx u J=>by rw[eA,(Y.tmp x u J).1];rfl
 unfold Ku at h;split at h
 ·rename_i x
  split at h
  ·rename_i u J
   cases M:FB u with
   |false=>rw[M]at h;cases h
   |true=>
    rw[M]at h;cases h;refine⟨by show(Sem.run P (pure (a.tmps.getD x undef)) w)=_;rw[F x v J];simp,?_⟩;rcases Iu v with⟨_,rfl⟩|⟨h5,_⟩
    ·cases M
    ·exact h5 _
  ·cases h
 ·rename_i x T
  split at h
  ·rename_i fk i off J
   split at h
   ·rename_i b hb
    cases hk:(Nat.beq b.kd 0||Nat.beq b.kd 2) with
    |false=>rw[hk]at h;cases h
    |true=>
     rw[hk]at h
     have W:b.kd=0\/b.kd=2:=by
      rcases eN.1 hk with h|h
      ·exact .inl (cX h)
      ·exact .inr (cX h)
     obtain⟨g,o,Z,H⟩:=(Y.mem i b hb).2.1.cell W;obtain⟨h1,h2⟩:=run_ldO (P:=P) (G:=G) (w:=w) E h H;refine⟨?_,h2⟩;show(Sem.run P (do loadVar T (<-asAddr (a.tmps.getD x undef))) w)=_;rw[F x _ J,Fq fk off Z];simp only[asAddr,ew,Sem.run_pure,Result.andThen_ok];exact h1
   ·cases h
  ·cases h
theorem Kt(fn:Func)(tmps:Array Value):results fn tmps=(fn.results.mapM (resSem tmps) >>=λvs=>pure (if h:vs.size=1 then vs[0] else .tuple vs)):=by
 unfold results
 congr 1
theorem res_ok(E:Env P RD tt Γ)(H:Sat RD R0 w0 nt G s a w){fn:Func}{v:Value}(h:Lz tt fn.results.toList s.t s.m=some v):(results fn a.tmps).run P w=.ok (r2 G.α v) w:=by
 unfold Lz at h;split at h
 ·rename_i r Y
  have F:fn.results=#[r]:=by rw[<-ff (xs:=fn.results),Y]
  obtain⟨J,_⟩:=NE (P:=P) E H h;rw[Kt,F];simp[J]
 ·rename_i r r' Y
  have F:fn.results=#[r,r']:=by rw[<-ff (xs:=fn.results),Y]
  split at h
  ·rename_i u u' hu M
   cases h;obtain⟨J,h2⟩:=NE (P:=P) E H hu;obtain⟨W,Z⟩:=NE (P:=P) E H M;rw[Kt,F];simp[J,W];rw[h2,Z];show _=Value.tuple (Array.map _ #[u,u']);simp
  ·cases h
 ·cases h
theorem PR:∀(l:qL) (j i:Nat) (v:Value),lk (EM j l) i=some v->j<=i/\l[i - j]?=some v
 |[],_,_,_,h=>by cases h
 |u::r,j,i,v,h=>by
  unfold EM at h
  by_cases F:j=i
  ·subst F;rw[Ad]at h;cases h;exact⟨AG _,by simp⟩
  ·rw[At F]at h
   obtain⟨J,H⟩:=PR r (j+1) i v h;exact⟨by omega,by rw[show i - j=i - (j+1)+1 by omega];exact H⟩
def Gives(RD:(Nat->Prop)->World->Nat->Nat->Prop)(R0:Ro)(w0:World)(Post:Value->AY->Nat->Prop):Ending->World->Prop:=λe w'=>
 ∃v m q G',Post v m q/\e=.returned (r2 G'.α v)/\(∀i b,lk m i=some b->Hold RD w0 G' w' q i b)/\Clo m (BS v)/\Stp R0.R w0 w'/\(∀k,G'.Z k->k<w'.heap.size/\¬G'.RB k)/\(∀i b j c,lk m i=some b->lk m j=some c->DQ b->DQ c->i≠j->G'.α i≠G'.α j)/\(∀i,i<64->G'.α i=R0.A i)/\R0.n<=w'.heap.size
theorem M7(E:Env P RD tt Γ){f:Nat}{fn:Func}{c:Code}(hf:P.funcs[f]?=some fn)(hb:fn.body=some c)(hD:CA P RD tt Γ Ρ fn.ntmps c){vs:qL}(hn:vs.length<=fn.ntmps){m0:AY}{c0 q0:Nat}{Post:Value->AY->Nat->Prop}
  (hv:vw tt Γ Ρ c (λe s=>(e=.ret\/e=.normal)/\∃v,Lz tt fn.results.toList s.t s.m=some v/\Post v s.m s.q/\clo s.m (BS v)=true) ⟨EM 0 vs,m0,c0,q0⟩)
  (hm:∀i b,lk m0 i=some b->i<c0/\Hold RD w0 G w q0 i b/\Clo m0 (b.cs.flatMap Cf)) (H:∀i b j c,lk m0 i=some b->lk m0 j=some c->DQ b->DQ c->i≠j->G.α i≠G.α j) (W:Clo m0 (vs.flatMap BS)) (h64:64<=c0) (hz:∀k,G.Z k->k<w.heap.size/\¬G.RB k) (hr:∀k,G.RB k->R0.R k\/w0.heap.size<=k) (M:∀k,G.RB k->k<w.heap.size) (Z:Stp R0.R w0 w):
  Calls P f (vs.map (r2 G.α)).toArray w (Gives RD ⟨R0.R,G.α,w.heap.size⟩ w0 Post):=by
 refine calls_of_wp hf hb (iQ (DF (R0:=⟨R0.R,G.α,w.heap.size⟩) (w0:=w0) E c _ _ G _ w hD hv ?_) λe a' w' hq=>?_)
 ·refine⟨rfl,?_,λi v hi=>?_,hm,H,hz,Z,hr,M,h64,λ_ _=>rfl,AG _⟩
  ·simp;omega
  ·obtain⟨_,J⟩:=PR vs 0 i v hi
   rw[Nat.sub_zero]at J;have Y:i<vs.length:=(AC J).1;refine⟨?_,λj hj=>W j (dR.2 ⟨v,AE J,hj⟩)⟩;rw[Array.getElem?_append_left (by simpa using Y)];simp[J]
 ·obtain⟨s,G',⟨he,v,hv,hp,hc⟩,F⟩:=hq
  have hR:Gives RD ⟨R0.R,G.α,w.heap.size⟩ w0 Post (.returned (r2 G'.α v)) w':=⟨v,s.m,s.q,G',hp,rfl,λi b hb=>(F.mem i b hb).2.1,Cz hc,F.fr,F.z3,F.bM,F.al,F.sz⟩;rcases he with rfl|rfl
  ·exact⟨F.bO,_,res_ok E F hv,hR⟩
  ·exact⟨F.bO,_,res_ok E F hv,hR⟩
theorem Pf(E:Env P RD tt Γ){f:Nat}{fn:Func}{c:Code}(hf:P.funcs[f]?=some fn)(hb:fn.body=some c)(hD:CA P RD tt Γ Ρ fn.ntmps c){vs:qL}(Z:vs.length<=fn.ntmps){m0:AY}{c0 q0:Nat}{Post:Value->AY->Nat->Prop}
  (hv:vw tt Γ Ρ c (λe s=>(e=.ret\/e=.normal)/\∃v,Lz tt fn.results.toList s.t s.m=some v/\Post v s.m s.q/\clo s.m (BS v)=true) ⟨EM 0 vs,m0,c0,q0⟩)
  (F:∀i b,lk m0 i=some b->i<c0/\Hold RD w G w q0 i b/\¬DQ b/\Clo m0 (b.cs.flatMap Cf)) (J:Clo m0 (vs.flatMap BS)) (h64:64<=c0) (M:∀k,G.Z k->k<w.heap.size/\¬G.RB k) (W:∀k,G.RB k->R0.R k) (H:∀k,G.RB k->k<w.heap.size):
  Calls P f (vs.map (r2 G.α)).toArray w (Gives RD ⟨R0.R,G.α,w.heap.size⟩ w Post):=
 M7 E hf hb hD Z hv (λi b hb=>⟨(F i b hb).1,(F i b hb).2.1,(F i b hb).2.2.2⟩) (λi b j b' hb _ Y=>absurd Y (F i b hb).2.2.1) J h64 M (λk hk=>.inl (W k hk)) H (.refl _ _)
end
section
variable {P:Program} {ops:Array Oper} {Q:Exit->Act->World->Prop}
theorem Qs{n g:Nat}{I:Array Bool->Act->World->Prop}
  (hw:∀F,HeadInv .any ops n F->∀i,i<n->F.getD i true=false->∀t,n<=t->t∉Region.ready .any ops F)
  (hn:n<=ops.size) (af:EL .any ops n=true)
  (ah:∀F a W i o,HeadInv .any ops n F->I F a W->i<n->ops[i]?=some o->F.getD i true=false->(∀j,Region.waitsFor .any ops i j=true->F.getD j false=true)->
   ∀K:Act->World->Prop,(∀v W',I (F.setIfInBounds i true) (a.put o.dst v) W'->K (a.put o.dst v) W')->wpList P ops (Cj K) [o] a W)
  (J:∀a W,I (Br ops n) a W->wpAny P .any ops Q g (Br ops n) a W):
  ∀(m:Nat) (F:Array Bool) (a:Act) (W:World),HeadInv .any ops n F->Bw n F=m->I F a W->wpAny P .any ops Q (m+g) F a W
 |0,F,a,W,H,hm,hI=>by
  have M:∀i,i<n->F.getD i true=true:=by
   intro i hi;have:=fZ.1 hm i (dA.2 hi)
   simpa using this
  rw[DH H M]at hI ⊢;rw[dJ];exact J a W hI
 |m+1,F,a,W,H,hm,hI=>by
  obtain⟨u,hu,Y⟩:∃u,u<n/\F.getD u true=false:=by
   have:0<Bw n F:=by omega
   obtain⟨u,hu,Y⟩:=gP.1 this;exact⟨u,dA.1 hu,by simpa using Y⟩
  rw[show m+1+g=(m+g)+1 by omega];refine⟨λh0=>absurd h0 (D3 af H u hu Y),λi hi=>?_⟩
  have Z:i<n:=by
   rcases eG i n with h|h
   ·exact h
   ·exact absurd hi (hw F H u hu Y i h)
  obtain⟨ag,o,ho,M⟩:=iO.1 hi;refine DV ho (ah F a W i o H hI Z ho ag (λj hj=>?_) _ λv W' am=>?_)
  ·obtain⟨oj,au,e,he,an,aq⟩:=Region.waitsFor_spec hj
   have:oj=o:=dg (au.symm.trans ho);subst this;have hl:=M e he an
   rwa [aq]at hl
  ·have ar:i<F.size:=by rw[H.size];exact(AB ho).1
   exact Qs hw hn af ah J m _ _ W' (H.set hi Z) (by have:=Er Z ar ag;omega) am
theorem FC{id:Nat}{a:Act}{w:World}{l:List Oper}(n:Nat)(I:Array Bool->Act->World->Prop)(hm:P.follows .mixedOrders=true)(hB:Ap l.toArray n=true)
  (h0:I (Array.replicate l.toArray.size false) a {w with drawn:=w.drawn+1})
  (ak:∀F a W i o,HeadInv .any l.toArray n F->I F a W->i<n->l.toArray[i]?=some o->F.getD i true=false->(∀j,Region.waitsFor .any l.toArray i j=true->F.getD j false=true)->
   ∀K:Act->World->Prop,(∀v W',I (F.setIfInBounds i true) (a.put o.dst v) W'->K (a.put o.dst v) W')->wpList P l.toArray (Cj K) [o] a W)
  (M:∀a W,I (Br l.toArray n) a W->wpList P l.toArray Q (l.drop n) a W):(Code.region id l.toArray true).wp P Q a w:=by
 simp only[Ap,cY,dM]at hB;obtain⟨⟨⟨⟨⟨hn,hs⟩,hc⟩,ai⟩,hd⟩,Z⟩:=hB;refine iw hm ?_
 have Y:HeadInv .any l.toArray n (Array.replicate l.toArray.size false):=
  ⟨by simp,λj oj _ hl=>(by rw[getD_replicate_false]at hl;cases hl),λt _ ht=>getD_in (by simpa using ht) (getD_replicate_false _ _)⟩
 have J:Bw n (Array.replicate l.toArray.size false)=n:=by
  unfold Bw;rw[gh.2]
  ·simp
  ·intro i hi
   have:i<l.toArray.size:=by have:=dA.1 hi;omega
   rw[getD_in (by simpa using this) (getD_replicate_false _ _)];rfl
 have H:=Qs (P:=P) (Q:=Q) (g:=l.toArray.size - n) (I:=I) (λF ah i hi hu t ht=>tail_waits hs hc hn ah _ i rfl hi hu t ht) (by omega) ai ak
  (λa W hI=>by
   have aa:(l.drop n).length=l.toArray.size - n:=by simp
   have:=wpAny_of_seq (md:=.any) (Q':=Q) (l.drop n) n (Br l.toArray n) _ W (λj=>by simp[ej]) (by rw[aa];exact Z) (M a W hI)
   rwa [aa]at this)
  n _ a {w with drawn:=w.drawn+1} Y J h0
 rw[show n+(l.toArray.size - n)=l.toArray.size by omega]at H;exact H
end
def BR(l:List Oper)(j:Nat):Option Nat:=(l[j]?).bind (·.dst)
def pT(l:List Oper)(U:Nat->Value × AY)(X:Nat->Bool)(t:Tm):Nat->Tm
 |0=>t
 |k+1=>bif X k then ER (BR l k) (U k).1 (pT l U X t k) else pT l U X t k
def pM(U:Nat->Value × AY)(X:Nat->Bool)(m:AY):Nat->AY
 |0=>m
 |k+1=>bif X k then(U k).2++pM U X m k else pM U X m k
section
variable {l:List Oper} {U U':Nat->Value × AY} {X X':Nat->Bool} {t:Tm} {m:AY} {c n:Nat}
theorem Gm(d:Option Nat)(v:Value)(t:Tm)(x:Nat):lk (ER d v t) x=if d=some x then some v else lk t x:=by
 cases d with
 |none=>rw[dC (by simp)];rfl
 |some y=>
  by_cases h:y=x
  ·subst h;rw[dB rfl];exact Ad _ _ _
  ·rw[dC (by simpa using h)];exact At h _ _
theorem KJ{x:Nat}:∀k,(∀j,j<k->X j=true->BR l j≠some x)->lk (pT l U X t k) x=lk t x
 |0,_=>rfl
 |k+1,h=>by
  have F:=KJ k λj J=>h j (by omega)
  unfold pT
  cases H:X k with
  |false=>exact F
  |true=>show lk (ER _ _ _) x=_;rw[Gm,dC (h k (by omega) H)];exact F
theorem Gn{x j:Nat}:∀k,j<k->X j=true->BR l j=some x->(∀i,i<k->i≠j->BR l i≠some x)->lk (pT l U X t k) x=some (U j).1
 |0,W,_,_,_=>absurd W (by omega)
 |k+1,W,H,M,J=>by
  unfold pT
  by_cases e:j=k
  ·subst e;rw[H];show lk (ER _ _ _) x=_;rw[Gm,dB M]
  ·have F:=Gn k (by omega) H M λi Y=>J i (by omega)
   cases hk:X k with
   |false=>exact F
   |true=>show lk (ER _ _ _) x=_;rw[Gm,dC (J k (by omega) (Ne.symm e))];exact F
def Own(l:List Oper)(n:Nat):Prop:=∀i j x,i<n->j<n->i≠j->BR l i=some x->BR l j≠some x
theorem Ma(ho:Own l n){k k' x:Nat}(hk:k<=n)(ai:k'<=n)(h:∀j,j<n->BR l j=some x->((j<k/\X j=true)↔(j<k'/\X' j=true))/\(j<k->X j=true->U j=U' j)):lk (pT l U X t k) x=lk (pT l U' X' t k') x:=by
 by_cases W:∃j,j<k/\X j=true/\BR l j=some x
 ·obtain⟨j,H,J,F⟩:=W
  obtain⟨h1,h2⟩:=h j (by omega) F;obtain⟨Y,Z⟩:=h1.1 ⟨H,J⟩;rw[Gn k H J F λi hi M=>ho j i x (by omega) (by omega) (Ne.symm M) F,Gn k' Y Z F λi hi M=>ho j i x (by omega) (by omega) (Ne.symm M) F,h2 H J]
 ·rw[KJ k λj H J F=>W ⟨j,H,J,F⟩,KJ k' λj H J F=>?_]
  obtain⟨h1,h2⟩:=(h j (by omega) F).1.2 ⟨H,J⟩;exact W ⟨j,h1,h2,F⟩
def Keys(c:Nat)(U:Nat->Value × AY)(X:Nat->Bool)(n:Nat):Prop:=∀j,j<n->X j=true->∀i b,(i,b)∈(U j).2->c+8*j<=i/\i<c+8*j+8
theorem ES:∀k i b,lk (pM U X m k) i=some b->lk m i=some b\/∃j,j<k/\X j=true/\lk (U j).2 i=some b
 |0,i,b,h=>.inl h
 |k+1,i,b,h=>by
  unfold pM at h
  cases H:X k with
  |false=>
   rw[H]at h;rcases ES k i b h with F|⟨j,M,F⟩
   ·exact .inl F
   ·exact .inr ⟨j,by omega,F⟩
  |true=>
   rw[H]at h;change lk ((U k).2++_) i=some b at h;rw[Ba]at h
   cases J:lk (U k).2 i with
   |some b'=>rw[J]at h;exact .inr ⟨k,by omega,H,by rw[J];exact h⟩
   |none=>
    rw[J]at h;rcases ES k i b h with F|⟨j,M,F⟩
    ·exact .inl F
    ·exact .inr ⟨j,by omega,F⟩
theorem K5(H:∀i b,lk m i=some b->i<c)(J:Keys c U X n){i:Nat}{b:VB}(h:lk m i=some b):∀k,k<=n->lk (pM U X m k) i=some b
 |0,_=>h
 |k+1,hk=>by
  have F:=K5 H J h k (by omega);unfold pM
  cases M:X k with
  |false=>exact F
  |true=>
   show lk ((U k).2++_) i=some b;rw[Ba]
   cases W:lk (U k).2 i with
   |none=>exact F
   |some Y=>have:=J k (by omega) M i Y (Aj _ _ _ W);have:=H i b h;omega
theorem NN(J:Keys c U X n){j i:Nat}{b:VB}(H:X j=true)(h:lk (U j).2 i=some b):∀k,k<=n->j<k->lk (pM U X m k) i=some b
 |0,_,M=>absurd M (by omega)
 |k+1,hk,M=>by
  unfold pM
  by_cases e:j=k
  ·subst e
   rw[H];show lk ((U j).2++_) i=some b;rw[Ba,h];rfl
  ·have W:=NN J H h k (by omega) (by omega)
   cases F:X k with
   |false=>exact W
   |true=>
    show lk ((U k).2++_) i=some b;rw[Ba]
    cases Z:lk (U k).2 i with
    |none=>exact W
    |some Y=>have:=J k (by omega) F i Y (Aj _ _ _ Z);have:=J j (by omega) H i b (Aj _ _ _ h);omega
theorem Do(M:∀i b,lk m i=some b->i<c)(F:Keys c U X n){k i:Nat}{b:VB}(hk:k<=n):lk (pM U X m k) i=some b↔(lk m i=some b\/∃j,j<k/\X j=true/\lk (U j).2 i=some b):=
 ⟨ES k i b,λh=>h.elim (λh=>K5 M F h k hk) λ⟨_,J,H,h⟩=>NN F H h k hk J⟩
theorem Jn{m m':AY}:∀(F:List Nat),(∀i∈F,lk m i=lk m' i)->Jo m F=Jo m' F
 |[],_=>rfl
 |i::r,h=>by
  unfold Jo;rw[h i dK,Jn r λj H=>h j (dN _ H)]
theorem H7{m m':AY}:∀(F:List Nat),(∀i∈F,lk m i=lk m' i/\∀b,lk m i=some b->∀j∈b.cs.flatMap Cf,lk m j=lk m' j)->Fa m F=Fa m' F
 |[],_=>rfl
 |i::r,h=>by
  obtain⟨H,J⟩:=h i dK;unfold Fa;rw[<-H,H7 r λj M=>h j (dN _ M)]
  cases hb:lk m i with
  |none=>rfl
  |some b=>simp only[Jn _ (J b hb)]
def Ke(xs:List Operand):List Nat:=xs.filterMap λx=>match x with
 | .tmp t=>some t
 |_=>none
def JE(l:List Oper)(o:Oper):List Nat:=match o.guard with
 |some (j,_)=>(BR l j).toList
 |none=>[]
theorem JG{t F:Tm}:∀(xs:List Operand),(∀x∈Ke xs,lk t x=lk F x)->evs t xs=evs F xs
 |[],_=>rfl
 |x::r,h=>by
  have J:evo t x=evo F x:=by
   cases x with
   |tmp i=>exact h i (i8.2 ⟨.tmp i,dK,rfl⟩)
   |_=>rfl
  unfold evs
  rw[J,JG r λy W=>h y (by
   obtain⟨z,M,H⟩:=i8.1 W
   exact i8.2 ⟨z,dN _ M,H⟩)]
theorem Pe{t F:Tm}{o:Oper}(h:∀x∈JE l o,lk t x=lk F x):DR l t o=DR l F o:=by
 unfold DR
 cases J:o.guard with
 |none=>rfl
 |some p=>
  obtain⟨j,b⟩:=p;simp only
  cases W:l[j]? with
  |none=>rfl
  |some M=>
   simp only
   cases H:M.dst with
   |none=>rfl
   |some d=>
    simp only;rw[h d (by unfold JE BR;rw[J];simp[W,H])]
theorem Sat.congr{RD:(Nat->Prop)->World->Nat->Nat->Prop}{R0:Ro}{w0 w:World}{nt:Nat}{G:Gh}{a:Act}{t Z:Tm}{m m':AY}{c q:Nat}(h:Sat RD R0 w0 nt G ⟨t,m,c,q⟩ a w)(ht:∀x,lk Z x=lk t x)(H:∀i,lk m' i=lk m i):Sat RD R0 w0 nt G ⟨Z,m',c,q⟩ a w:=by
 have Y:∀F,Clo m F->Clo m' F:=λF h i hi=>let ⟨b,hb⟩:=h i hi;⟨b,(H i).trans hb⟩
 refine⟨h.bO,h.bR,λi v hv=>?_,λi b hb=>?_,λi b j b' hb J=>?_,h.z3,h.fr,h.rb,h.rl,h.bi,h.al,h.sz⟩
 ·obtain⟨M,W⟩:=h.tmp i v ((ht i).symm.trans hv);exact⟨M,Y _ W⟩
 ·obtain⟨M,W,h3⟩:=h.mem i b ((H i).symm.trans hb);exact⟨M,W,Y _ h3⟩
 ·exact h.bM i b j b' ((H i).symm.trans hb) ((H j).symm.trans J)
def SC:Op->Bool
 | .store ..=>true
 | .call ⟨.builtin .append,_,_⟩=>true
 |_=>false
def Oo(l:List Oper)(n:Nat):Bool:=(List.range n).all λj=>match l[j]? with
 |some o=>!SC o.op&&(Ke (BT o.op)++JE l o).all λx=>(List.range n).all λi=>match BR l i with
  |some d=>!Nat.beq d x||(Nat.ble (i+1) j&&Bf l.toArray n j i)||(Nat.ble (j+1) i&&Bf l.toArray n i j)
  |none=>true
 |none=>false
theorem Gs(h:Oo l n=true){j:Nat}{o:Oper}(Y:j<n)(M:l[j]?=some o):SC o.op=false/\∀x∈Ke (BT o.op)++JE l o,∀i,i<n->BR l i=some x->(i<j/\Bf l.toArray n j i=true)\/(j<i/\Bf l.toArray n i j=true):=by
 have H:=dh.1 h j (dA.2 Y);rw[M]at H;simp only[cY,eR]at H;refine⟨H.1,λx hx i W J=>?_⟩;have F:=dh.1 (dh.1 H.2 x hx) i (dA.2 W);rw[J]at F;simp only[dY,cY,eR]at F;rcases F with(F|F)|F
 ·rw[show Nat.beq x x=true from by simp]at F;cases F
 ·exact .inl ⟨AD F.1,F.2⟩
 ·exact .inr ⟨AD F.1,F.2⟩
theorem OK{tt:List TE}{op:Op}(h:SC op=false)(vs:qL)(m:AY):stv tt op vs m=none:=by
 unfold stv;split
 ·cases h
 ·rfl
theorem OP{tt:List TE}{op:Op}(h:SC op=false)(id:Nat)(vs:qL)(m:AY):rwg tt id op vs m=none:=by
 unfold rwg;split
 ·cases h
 ·cases h
 ·cases h
 ·rfl
theorem Hv(h:Cs l.toArray n=true):Own l n:=λi j x W Y J M H=>by
 have e:∀k,(l.toArray[k]?).bind (·.dst)=BR l k:=λk=>by unfold BR;simp
 rcases Nat.lt_or_gt_of_ne J with F|F
 ·exact FE h F Y x ((e i).trans M) ((e j).trans H)
 ·exact FE h F W x ((e j).trans H) ((e i).trans M)
theorem Gk(F:EL .any l.toArray n=true):∀f p i,p<n->Bf l.toArray f p i=true->i<=p
 |0,p,i,_,h=>by rw[cX h];exact AG _
 |f+1,p,i,W,h=>by
  rcases eN.1 h with h|h
  ·rw[cX h];exact AG _
  ·obtain⟨j,M,H⟩:=fm.1 h
   have:=dA.1 M;obtain⟨_,J⟩:=gJ.1 H;have:=Gk F f j i (by omega) J;omega
end
section
variable {P:Program} {tt:List TE} {Γ:List (Nat × Nat × Ct)} {l:List Oper} {U U':Nat->Value × AY} {X X':Nat->Bool} {t:Tm} {m:AY} {c n:Nat}
theorem wpL_pull{ops:Array Oper}{o:Oper}{a:Act}{w:World}{p:Prop}(h:wpList P ops (Cj λ_ _=>p) [o] a w):p:=by
 unfold wpList at h;split at h
 ·rcases h with h|⟨_,J,w',h⟩
  ·have F:o.wp P a w (λ_ _=>p) (Cj λ_ _=>p):=h
   unfold Oper.wp Oper.upon at F;split at F
   ·exact F
   ·exact F
   ·exact F
   ·obtain⟨e,w',fr,H,_⟩:=F []
    cases e with
    |returned v=>exact H
    |panicked c=>exact False.elim H
    |outgrown=>obtain⟨_,_,h⟩:=H;exact False.elim h
   ·obtain⟨v,w',H,_⟩:=F default []
    exact H
   ·exact False.elim F
   ·exact F.elim
  ·exact False.elim h
 ·exact h
def pC(Γ:List (Nat × Nat × Ct))(l:List Oper)(X:Nat->Bool):Nat->Nat
 |0=>0
 |k+1=>pC Γ l X k+(bif X k then(match l[k]? with|some o=>Af Γ o|none=>0) else 0)
def C0(U:Nat->Value × AY)(i:Nat)(p:Value × AY):Nat->Value × AY:=λj=>if j=i then p else U j
def CI(X:Nat->Bool)(i:Nat):Nat->Bool:=λj=>if j=i then true else X j
theorem BH{p:Value × AY}{i:Nat}:C0 U i p i=p:=dB rfl
theorem CB{p:Value × AY}{i j:Nat}(h:j≠i):C0 U i p j=U j:=dC h
theorem Bp{i:Nat}:CI X i i=true:=dB rfl
theorem BE{i j:Nat}(h:j≠i):CI X i j=X j:=dC h
theorem Pz{i:Nat}:∀k,k<=i->pC Γ l (CI X i) k=pC Γ l X k
 |0,_=>rfl
 |k+1,h=>by unfold pC;rw[Pz k (by omega),BE (by omega)]
theorem NP{i:Nat}{o:Oper}(F:X i=false)(H:l[i]?=some o):∀k,i<k->pC Γ l (CI X i) k=pC Γ l X k+Af Γ o
 |0,h=>absurd h (by omega)
 |k+1,h=>by
  unfold pC
  by_cases e:i=k
  ·subst e
   rw[Pz i (AG _),Bp,F,H];rfl
  ·rw[NP F H k (by omega),BE (Ne.symm e)];omega
theorem Q9(h:∀j,X j=true->X' j=true):∀k,pC Γ l X k<=pC Γ l X' k
 |0=>AG _
 |k+1=>by
  unfold pC;have:=Q9 h k
  cases F:X k with
  |false=>show _+0<=_;omega
  |true=>rw[h k F];exact Nat.add_le_add_right this _
def Closed(l:List Oper)(n:Nat)(X:Nat->Bool):Prop:=∀p i,p<n->Bf l.toArray n p i=true->X p=true->X i=true
structure RelJ(tt:List TE)(Γ:List (Nat × Nat × Ct))(l:List Oper)(c:Nat)(U:Nat->Value × AY)(X:Nat->Bool)(t:Tm)(m:AY)(j:Nat)(o:Oper):Prop where
 r:(DR l (pT l U X t j) o=some false/\U j=(.tuple #[],[]))\/(DR l (pT l U X t j) o=some true/\∃vs,evs (pT l U X t j) (BT o.op)=some vs/\∀k,opg tt Γ (c+8*j) o.op vs (Fa (pM U X m j) (vs.flatMap BS)) k->k (U j).1 (U j).2)
 cv:Clo ((U j).2++pM U X m j) (BS (U j).1)
 ce:OkE (c+8*j) (c+8*j+8) ((U j).2++pM U X m j) (U j).2
structure Run(tt:List TE)(Γ:List (Nat × Nat × Ct))(l:List Oper)(n c:Nat)(t:Tm)(m:AY)(U:Nat->Value × AY)(X:Nat->Bool):Prop where
 cl:Closed l n X
 rel:∀j o,j<n->l[j]?=some o->X j=true->RelJ tt Γ l c U X t m j o
structure Fix(l:List Oper)(n c:Nat)(t:Tm)(m:AY):Prop where
 len:n<=l.length
 loc:Oo l n=true
 aQ:Own l n
 cM:EL .any l.toArray n=true
 bi:64<=c
 m0:∀i b,lk m i=some b->i<c
 tc:∀x v,lk t x=some v->Clo m (BS v)
 mc:∀i b,lk m i=some b->Clo m (b.cs.flatMap Cf)
theorem Run.aU(h:Run tt Γ l n c t m U X)(F:Fix l n c t m):Keys c U X n:=λj M H i b J=>by
 obtain⟨o,W⟩:∃o,l[j]?=some o:=⟨l[j]'(by have:=F.len;omega),by simp⟩;have:=(h.rel j o M W H).ce i b J;exact⟨this.1,this.2.1⟩
theorem NK{x:Nat}{v:Value}:∀k,lk (pT l U X t k) x=some v->lk t x=some v\/∃j,j<k/\X j=true/\v=(U j).1
 |0,h=>.inl h
 |k+1,h=>by
  unfold pT at h
  cases H:X k with
  |false=>
   rw[H]at h;rcases NK k h with F|⟨j,J,F⟩
   ·exact .inl F
   ·exact .inr ⟨j,by omega,F⟩
  |true=>
   rw[H]at h;change lk (ER _ _ _) x=some v at h;rw[Gm]at h;split at h
   ·exact .inr ⟨k,by omega,H,(dg h).symm⟩
   ·rcases NK k h with F|⟨j,J,F⟩
    ·exact .inl F
    ·exact .inr ⟨j,by omega,F⟩
theorem Run.up(h:Run tt Γ l n c t m U X)(F:Fix l n c t m){j k:Nat}(hX:X j=true)(Z:j<k)(hk:k<=n){H:List Nat}(M:Clo ((U j).2++pM U X m j) H):Clo (pM U X m k) H:=M.mono λi b hb=>by
 rw[Ba]at hb
 cases J:lk (U j).2 i with
 |some W=>exact⟨W,NN (h.aU F) hX J k hk Z⟩
 |none=>
  rw[J]at hb;exact⟨b,(Do F.m0 (h.aU F) hk).2 (((Do F.m0 (h.aU F) (by omega)).1 hb).imp id λ⟨Y,h1,h2⟩=>⟨Y,by omega,h2⟩)⟩
theorem Run.cn(h:Run tt Γ l n c t m U X)(F:Fix l n c t m){k x:Nat}{v:Value}(hk:k<=n)(hv:lk (pT l U X t k) x=some v):Clo (pM U X m k) (BS v):=by
 rcases NK k hv with J|⟨j,W,H,rfl⟩
 ·exact(F.tc x v J).mono λi b hb=>⟨b,K5 F.m0 (h.aU F) hb k hk⟩
 ·obtain⟨o,M⟩:∃o,l[j]?=some o:=⟨l[j]'(by have:=F.len;omega),by simp⟩
  exact h.up F H W hk (h.rel j o (by omega) M H).cv
theorem Run.cV(h:Run tt Γ l n c t m U X)(F:Fix l n c t m){k i:Nat}{b:VB}(hk:k<=n)(hb:lk (pM U X m k) i=some b):Clo (pM U X m k) (b.cs.flatMap Cf):=by
 rcases ES k i b hb with H|⟨j,W,J,H⟩
 ·exact(F.mc i b H).mono λi b hb=>⟨b,K5 F.m0 (h.aU F) hb k hk⟩
 ·obtain⟨o,M⟩:∃o,l[j]?=some o:=⟨l[j]'(by have:=F.len;omega),by simp⟩
  exact h.up F J W hk ((h.rel j o (by omega) M J).ce i b (Aj _ _ _ H)).2.2
theorem KM(F:Fix l n c t m){j:Nat}{o:Oper}(Z:j<n)(Y:l[j]?=some o){k k':Nat}(hk:k<=n)(J:k'<=n)
  (h:∀i,i<n->((i<j/\Bf l.toArray n j i=true)\/(j<i/\Bf l.toArray n i j=true))->((i<k/\X i=true)↔(i<k'/\X' i=true))/\(i<k->X i=true->U i=U' i)):
  DR l (pT l U X t k) o=DR l (pT l U' X' t k') o/\evs (pT l U X t k) (BT o.op)=evs (pT l U' X' t k') (BT o.op)/\∀x∈Ke (BT o.op)++JE l o,lk (pT l U X t k) x=lk (pT l U' X' t k') x:=by
 have H:∀x∈Ke (BT o.op)++JE l o,lk (pT l U X t k) x=lk (pT l U' X' t k') x:=λx hx=>Ma F.aQ hk J λi M W=>h i M ((Gs F.loc Z Y).2 x hx i M W)
 exact⟨Pe λx hx=>H x (dt.2 (.inr hx)),JG _ λx hx=>H x (dt.2 (.inl hx)),H⟩
theorem KR{t:Tm}{m:AY}(h:∀x v,lk t x=some v->Clo m (BS v)):∀(xs:List Operand) (vs:qL),evs t xs=some vs->Clo m (vs.flatMap BS)
 |[],vs,e=>by cases e;exact λi F=>(nomatch F)
 |x::xs,vs,e=>by
  unfold evs at e;split at e
  ·rename_i v hv
   split at e
   ·rename_i r H
    cases e;intro i F;rw[eI]at F;rcases dt.1 F with F|F
    ·unfold evo at hv
     split at hv
     ·exact h _ v hv i F
     ·rw[(cst_ok hv (λ_=>none)).2]at F;cases F
     ·cases hv
    ·exact KR h xs r H i F
   ·cases e
  ·cases e
theorem Run.cR(F:Fix l n c t m)(h:Run tt Γ l n c t m U X){i:Nat}{o:Oper}{p:Value × AY}(hi:i<n)(ho:l[i]?=some o)(hX:X i=false)(hr:∀i',Bf l.toArray n i i'=true->i'≠i->X i'=true)
  (aa:RelJ tt Γ l c (C0 U i p) (CI X i) t m i o):Run tt Γ l n c t m (C0 U i p) (CI X i):=by
 have Z:∀j,X j=true->CI X i j=true/\C0 U i p j=U j:=λj W=>by
  have:j≠i:=λe=>by rw[e,hX]at W;cases W
  exact⟨by rw[BE this];exact W,CB this⟩
 have ar:Keys c (C0 U i p) (CI X i) n:=λj W J x b hx=>by
  by_cases e:j=i
  ·subst e;have:=aa.ce x b hx;exact⟨this.1,this.2.1⟩
  ·rw[BE e]at J;rw[CB e]at hx;exact h.aU F j W J x b hx
 have hM:∀k,k<=n->∀x b,lk (pM U X m k) x=some b->lk (pM (C0 U i p) (CI X i) m k) x=some b:=λk hk x b hb=>
  (Do F.m0 ar hk).2 (((Do F.m0 (h.aU F) hk).1 hb).imp id λ⟨j,h1,h2,h3⟩=>⟨j,h1,(Z j h2).1,by rw[(Z j h2).2];exact h3⟩)
 refine⟨λq x hq ak ai=>?_,λj oj W Y J=>?_⟩
 ·by_cases e:x=i
  ·subst e;exact Bp
  ·rw[BE e]
   by_cases e':q=i
   ·subst e';exact hr x ak e
   ·rw[BE e']at ai;exact h.cl q x hq ak ai
 ·by_cases e:j=i
  ·subst e
   rw[ho]at Y;cases Y;exact aa
  ·rw[BE e]at J
   have hR:=h.rel j oj W Y J
   obtain⟨e1,e2,_⟩:=KM (U:=U) (X:=X) (U':=C0 U i p) (X':=CI X i) F W Y (k:=j) (k':=j) (by omega) (by omega) λi' aM an=>by
    by_cases e':i'=i
    ·subst e'
     have M:¬i'<j:=λaG=>by
      rcases an with⟨_,av⟩|⟨aW,_⟩
      ·have:=h.cl j i' W av J;rw[hX]at this;cases this
      ·omega
     exact⟨⟨λh=>absurd h.1 M,λh=>absurd h.1 M⟩,λh=>absurd h M⟩
    ·rw[BE e',CB e'];exact⟨Iff.rfl,λ_ _=>rfl⟩
   have aw:∀H,Clo (pM U X m j) H->Fa (pM U X m j) H=Fa (pM (C0 U i p) (CI X i) m j) H:=λH hc=>H7 H λx hx=>by
    obtain⟨b,hb⟩:=hc x hx;refine⟨by rw[hb,hM j (by omega) x b hb],λb' au y hy=>?_⟩;obtain⟨b2,ah⟩:=h.cV F (by omega) au y hy;rw[ah,hM j (by omega) y b2 ah]
   have hC:∀H,Clo ((U j).2++pM U X m j) H->Clo ((U j).2++pM (C0 U i p) (CI X i) m j) H:=λH hc=>hc.mono λx b hb=>by
    rw[Ba]at hb ⊢
    cases hu:lk (U j).2 x with
    |some b'=>exact⟨b',rfl⟩
    |none=>rw[hu]at hb;exact⟨b,hM j (by omega) x b hb⟩
   refine⟨?_,?_,?_⟩
   ·rw[CB e,<-e1,<-e2]
    rcases hR.r with hr|⟨h1,vs,h2,h3⟩
    ·exact .inl hr
    ·exact .inr ⟨h1,vs,h2,λk hk=>h3 k (by rw[aw _ (KR (λx v hv=>h.cn F (by omega) hv) _ _ h2)];exact hk)⟩
   ·rw[CB e];exact hC _ hR.cv
   ·rw[CB e]
    exact λx b hx=>⟨(hR.ce x b hx).1,(hR.ce x b hx).2.1,hC _ (hR.ce x b hx).2.2⟩
end
section
variable {P:Program} {RD:(Nat->Prop)->World->Nat->Nat->Prop} {w0:World} {R0:Ro} {nt:Nat} {tt:List TE} {Γ:List (Nat × Nat × Ct)} {l:List Oper} {U U':Nat->Value × AY} {X X':Nat->Bool} {t:Tm} {m:AY} {c n:Nat}
theorem Ht{i:Nat}{p:Value × AY}:∀k,k<=i->pT l (C0 U i p) (CI X i) t k=pT l U X t k
 |0,_=>rfl
 |k+1,h=>by unfold pT;rw[Ht k (by omega),BE (by omega),CB (by omega)]
theorem Hu{i:Nat}{p:Value × AY}:∀k,k<=i->pM (C0 U i p) (CI X i) m k=pM U X m k
 |0,_=>rfl
 |k+1,h=>by unfold pM;rw[Hu k (by omega),BE (by omega),CB (by omega)]
def Free(w0:World)(G:Gh)(m:AY)(W:World)(g:Nat):Prop:=w0.heap.size<=g/\g<W.heap.size/\¬G.Z g/\¬G.RB g/\∀i b,lk m i=some b->DQ b->G.α i≠some ⟨g,0,none⟩
def Keeps(w0:World)(G:Gh)(m:AY)(W:World)(G':Gh)(m':AY)(W':World):Prop:=(∀k,G.Z k->G'.Z k/\W'.heap[k]?=W.heap[k]?)/\∀g,Free w0 G m W g->Free w0 G' m' W' g/\W'.heap[g]?=W.heap[g]?
theorem Keeps.gs{G G':Gh}{m es:AY}{W W':World}{q q' id:Nat}(F:GS RD G W q G' W' q' id)(hn:NewOk RD w0 G' W W' q' es)(J:∀k,G.Z k->k<W.heap.size/\¬G.RB k)(aT:∀i b,lk m i=some b->(i<id\/id+8<=i)):Keeps w0 G m W G' (es++m) W':=by
 refine⟨λk hk=>⟨F.z1 k hk,F.bE.block k (J k hk).1 (J k hk).2⟩,λg ⟨h1,Y,h3,Z,h5⟩=>⟨⟨h1,AF Y F.bE.size,λh=>(F.z2 g h).elim h3 (by omega),λh=>(F.r2 g h).elim Z (by omega),λi b hb M=>?_⟩,F.bE.block g Y Z⟩⟩;rw[Ba]at hb
 cases H:lk es i with
 |some b'=>
  rw[H]at hb;cases hb;obtain⟨g',e1,e2⟩:=hn.aQ i b (Aj _ _ _ H) M;rw[e1];intro e;cases e;omega
 |none=>
  rw[H]at hb;rw[F.al i (aT i b hb)];exact h5 i b hb M
theorem exec(E:Env P RD tt Γ)(F:Fix l n c t m)(h:Run tt Γ l n c t m U X){cE q:Nat}(bq:c+8*n<=cE){G:Gh}{a:Act}{W:World}(hs:Sat RD R0 w0 nt G ⟨pT l U X t n,pM U X m n,cE,q⟩ a W)
  {i:Nat} {o:Oper} (hi:i<n) (ho:l[i]?=some o) (hX:X i=false) (hr:∀i',Bf l.toArray n i i'=true->i'≠i->X i'=true) (hd:∀x,o.dst=some x->x<nt) (hq:Af Γ o=0\/q+Af Γ o<=QM)
  (hc:DR l (pT l U X t i) o=some false\/(DR l (pT l U X t i) o=some true/\∃vs k0,evs (pT l U X t i) (BT o.op)=some vs/\opg tt Γ (c+8*i) o.op vs (Fa (pM U X m i) (vs.flatMap BS)) k0))
  {K:Act->World->Prop} (hK:∀v es G' W',Run tt Γ l n c t m (C0 U i (v,es)) (CI X i)->Sat RD R0 w0 nt G' ⟨pT l (C0 U i (v,es)) (CI X i) t n,pM (C0 U i (v,es)) (CI X i) m n,cE,q+Af Γ o⟩ (a.put o.dst (r2 G'.α v)) W'->Keeps w0 G (pM U X m n) W G' (pM (C0 U i (v,es)) (CI X i) m n) W'->K (a.put o.dst (r2 G'.α v)) W'):
  wpList P l.toArray (Cj K) [o] a W:=by
 have au:BR l i=o.dst:=by unfold BR;rw[ho];rfl
 obtain⟨e1,e2,_⟩:=KM (U:=U) (X:=X) (U':=U) (X':=X) F hi ho (k:=i) (k':=n) (by omega) (by omega) λi' ax a7=>by
  refine⟨⟨λh=>⟨ax,h.2⟩,λh'=>⟨?_,h'.2⟩⟩,λ_ _=>rfl⟩;rcases a7 with J|⟨_,a4⟩
  ·exact J.1
  ·have:=h.cl i' i ax a4 h'.2;rw[hX]at this;cases this
 have ay:∀x b,lk (pM U X m i) x=some b->x<c+8*i:=λx b hb=>by
  rcases ES i x b hb with J|⟨j,hj,H,J⟩
  ·have:=F.m0 x b J;omega
  ·have:=h.aU F j (by omega) H x b (Aj _ _ _ J);omega
 have aG:∀x b,lk (pM U X m i) x=some b->lk (pM U X m n) x=some b:=λx b hb=>
  (Do F.m0 (h.aU F) (AG _)).2 (((Do F.m0 (h.aU F) (by omega)).1 hb).imp id λ⟨j,J,h2⟩=>⟨j,by omega,h2⟩)
 have aT:∀x b,lk (pM U X m n) x=some b->(x<c+8*i\/c+8*i+8<=x):=λx b hb=>by
  rcases ES n x b hb with J|⟨j,hj,H,J⟩
  ·have:=F.m0 x b J;omega
  ·have M:j≠i:=λe=>by rw[e,hX]at H;cases H
   have:=h.aU F j hj H x b (Aj _ _ _ J);omega
 -- what comes of an outcome
 have aw:∀v es G' W',RelJ tt Γ l c (C0 U i (v,es)) (CI X i) t m i o->Sat RD R0 w0 nt G' ⟨ER o.dst v (pT l U X t n),es++pM U X m n,cE,q+Af Γ o⟩ (a.put o.dst (r2 G'.α v)) W'->Keeps w0 G (pM U X m n) W G' (es++pM U X m n) W'->K (a.put o.dst (r2 G'.α v)) W':=λv es G' W' aI aW Y=>by
  have Z:=h.cR F hi ho hX hr aI
  have az:∀x,lk (pM (C0 U i (v,es)) (CI X i) m n) x=lk (es++pM U X m n) x:=by
   intro x;apply Option.ext;intro b;rw[Do F.m0 (Z.aU F) (AG _),Ba];constructor
   ·rintro(J|⟨j,hj,H,J⟩)
    ·cases hu:lk es x with
     |some b'=>have:=Z.aU F i hi Bp x b' (by rw[BH];exact Aj _ _ _ hu);have:=F.m0 x b J;omega
     |none=>exact K5 F.m0 (h.aU F) J n (AG _)
    ·by_cases e:j=i
     ·subst e;rw[BH]at J;rw[show lk es x=some b from J];rfl
     ·rw[BE e]at H
      rw[CB e]at J
      cases hu:lk es x with
      |some b'=>have:=Z.aU F i hi Bp x b' (by rw[BH];exact Aj _ _ _ hu);have:=h.aU F j hj H x b (Aj _ _ _ J);omega
      |none=>exact NN (h.aU F) H J n (AG _) hj
   ·intro J
    cases hu:lk es x with
    |some b'=>
     rw[hu]at J;exact .inr ⟨i,hi,Bp,by rw[BH];exact hu.trans J⟩
    |none=>
     rw[hu]at J;rcases ES n x b J with h2|⟨j,hj,H,h2⟩
     ·exact .inl h2
     ·have M:j≠i:=λe=>by rw[e,hX]at H;cases H
      exact .inr ⟨j,hj,by rw[BE M];exact H,by rw[CB M];exact h2⟩
  refine hK v es G' W' Z (aW.congr (λx=>?_) az) ⟨Y.1,λg hg=>⟨⟨(Y.2 g hg).1.1,(Y.2 g hg).1.2.1,(Y.2 g hg).1.2.2.1,(Y.2 g hg).1.2.2.2.1,λi b hb=>(Y.2 g hg).1.2.2.2.2 i b ((az i).symm.trans hb)⟩,(Y.2 g hg).2⟩⟩
  ·rw[Gm]
   split
   ·rename_i hx
    rw[Gn n hi Bp (au.trans hx) (λj hj M=>F.aQ i j x hi hj (Ne.symm M) (au.trans hx)),BH]
   ·rename_i hx
    refine Ma F.aQ (AG _) (AG _) λj hj aA=>?_
    have M:j≠i:=λe=>by rw[e,au]at aA;exact hx aA
    rw[BE M,CB M];exact⟨Iff.rfl,λ_ _=>rfl⟩
 refine wpList_step λK' aF=>?_
 rcases hc with hw|⟨hw,vs,k0,ar,a5⟩
 ·rw[KF (G:=G) (e1▸hw) λi v hv=>(hs.tmp i v hv).1]
  show K' (a.put o.dst undef) W;refine aF _ _ ?_;have:=hs.step (v:=.tuple #[]) (es:=[]) (d:=o.dst) (c':=cE) (GS.cu (P:=P) (tt:=tt) (Γ:=Γ) (id:=c+8*i) E hs.z3 hs.rl (gQ q (Af Γ o))) .nil aT (AG _) (by omega) (by have:=F.bi;omega) (λi hi=>(nomatch hi)) (λ_ _ h=>(nomatch h)) hd;have h2:=aw (.tuple #[]) [] G W ⟨.inl ⟨by rw[Ht i (AG _)];exact hw,BH⟩,by rw[BH];exact λi hi=>(nomatch hi),by rw[BH];exact λ_ _ h=>(nomatch h)⟩ this ⟨λk hk=>⟨hk,rfl⟩,λg hg=>⟨hg,rfl⟩⟩;rw[noRW]at h2;exact h2
 ·rw[KF (G:=G) (e1▸hw) λi v hv=>(hs.tmp i v hv).1]
  show o.wp P a W K' _;obtain⟨aS,_⟩:=QJ (a:=a) (G:=G) (m:=pM U X m n) hs.tmp _ _ (e2▸ar);refine Mb E (w0:=w0) (id:=c+8*i) (q:=q) (m:=pM U X m i) hs.z3 hs.rl hs.fr.size (λx b hb=>⟨(hs.mem x b (aG x b hb)).2.1,.inl (ay x b hb)⟩) (λx b hb=>h.cV F (by omega) hb) (KR (λx v hv=>h.cn F (by omega) hv) _ _ ar) aS hq a5 λv ah G' w' a6 aE hn aK ai=>?_
  have aC:∀aq,Clo (ah++pM U X m i) aq->Clo (ah++pM U X m n) aq:=λaq hc=>hc.mono λx b hb=>by
   rw[Ba]at hb ⊢
   cases hu:lk ah x with
   |some b'=>exact⟨b',rfl⟩
   |none=>rw[hu]at hb;exact⟨b,aG x b hb⟩
  refine aF _ _ (aw v ah G' w' ⟨.inr ⟨by rw[Ht i (AG _)];exact hw,vs,by rw[Ht i (AG _)];exact ar,by rw[Hu i (AG _),BH];exact a6⟩,by rw[BH,Hu i (AG _)];exact aK,by rw[BH,Hu i (AG _)];exact ai⟩ ?_ (.gs aE hn hs.z3 aT));exact hs.step aE hn aT (AG _) (by omega) (by have:=F.bi;omega) (aC _ aK) (λx b hx=>⟨(ai x b hx).1,(ai x b hx).2.1,aC _ (ai x b hx).2.2⟩) hd
end
section
variable {P:Program} {RD:(Nat->Prop)->World->Nat->Nat->Prop} {w0:World} {R0:Ro} {nt:Nat} {tt:List TE} {Γ:List (Nat × Nat × Ct)} {l:List Oper} {U U':Nat->Value × AY} {X X':Nat->Bool} {t:Tm} {m:AY} {c n:Nat} {kk:Tm->AY->Prop}
theorem Fb(a b:List Oper):Au Γ (a++b)=Au Γ a+Au Γ b:=by
 induction a with
 |nil=>show Au Γ b=0+_;omega
 |cons o a F=>show Af Γ o+Au Γ (a++b)=(Af Γ o+Au Γ a)+_;omega
theorem Q8:∀k,pC Γ l (λ_=>true) k=Au Γ (l.take k)
 |0=>rfl
 |k+1=>by
  unfold pC;rw[Q8 k,eW,Fb]
  congr 1
  cases l[k]? with
  |none=>rfl
  |some o=>show Af Γ o=Af Γ o+0;omega
theorem pC_le(X:Nat->Bool)(k:Nat):pC Γ l X k<=Au Γ l:=by
 refine AH (Q9 (X':=λ_=>true) (λ_ _=>rfl) k) ?_;rw[Q8 k]
 conv=>rhs;rw[<-eY k l]
 rw[Fb];omega
theorem JQ{j:Nat}{o:Oper}{r:List Oper}(F:SC o.op=false)(W:X j=true)(ho:l[j]?=some o)(Y:RelJ tt Γ l c U X t m j o)(h:vO tt Γ l c (o::r) j (pT l U X t j) (pM U X m j) kk):vO tt Γ l c r (j+1) (pT l U X t (j+1)) (pM U X m (j+1)) kk:=by
 have M:BR l j=o.dst:=by unfold BR;rw[ho];rfl
 have eT:pT l U X t (j+1)=ER o.dst (U j).1 (pT l U X t j):=by
  show(bif X j then ER (BR l j) (U j).1 (pT l U X t j) else pT l U X t j)=_;rw[W,M];rfl
 have Z:pM U X m (j+1)=(U j).2++pM U X m j:=by
  show(bif X j then(U j).2++pM U X m j else pM U X m j)=_;rw[W];rfl
 rw[eT,Z];unfold vO at h;rcases Y.r with⟨H,J⟩|⟨H,vs,J,h3⟩
 ·rw[H]at h
  rw[J];exact h
 ·rw[H]at h
  simp only[J,OK F,OP F]at h;exact h3 _ h
theorem KU{j:Nat}{o:Oper}{r:List Oper}{t:Tm}{m:AY}(F:SC o.op=false)(h:vO tt Γ l c (o::r) j t m kk):DR l t o=some false\/(DR l t o=some true/\∃vs k0,evs t (BT o.op)=some vs/\opg tt Γ (c+8*j) o.op vs (Fa m (vs.flatMap BS)) k0):=by
 unfold vO at h;split at h
 ·rename_i J;exact .inl J
 ·rename_i J
  split at h
  ·rename_i vs H
   rw[OK F]at h;simp only[OP F]at h;exact .inr ⟨J,vs,_,H,h⟩
  ·exact h.elim
 ·exact h.elim
theorem think(E:Env P RD tt Γ)(F:Fix l n c t m)(am:Run tt Γ l n c t m U X){cE q:Nat}(aq:c+8*n<=cE)(hq:Au Γ l=0\/q+Au Γ l<=QM)(hd:KA nt l=true)(hv:vO tt Γ l c l 0 t m kk)
  {G:Gh} {a:Act} {W:World} (hs:Sat RD R0 w0 nt G ⟨pT l U X t n,pM U X m n,cE,q+pC Γ l X n⟩ a W):∀j,j<=n->
  ∃U' X' G' a' W',(∀k,X' k=(X k||decide (k<j)))/\(∀k,X k=true->U' k=U k)/\Run tt Γ l n c t m U' X'/\Sat RD R0 w0 nt G' ⟨pT l U' X' t n,pM U' X' m n,cE,q+pC Γ l X' n⟩ a' W'/\vO tt Γ l c (l.drop j) j (pT l U' X' t j) (pM U' X' m j) kk
 |0,_=>⟨U,X,G,a,W,λk=>by simp,λ_ _=>rfl,am,hs,hv⟩
 |j+1,hj=>by
  obtain⟨U',X',G',a',W',aa,ak,M,al,Y⟩:=think E F am aq hq hd hv hs j (by omega);obtain⟨o,Z⟩:∃o,l[j]?=some o:=⟨l[j]'(by have:=F.len;omega),by simp⟩
  have af:l.drop j=o::l.drop (j+1):=by
   rw[eH (by have:=F.len;omega)]
   congr 1
   have:=(AC Z).2;exact this
  rw[af]at Y;have ag:=(Gs F.loc (by omega) Z).1
  cases H:X' j with
  |true=>
   refine⟨U',X',G',a',W',λk=>?_,ak,M,al,JQ ag H Z (M.rel j o (by omega) Z H) Y⟩
   by_cases e:k=j
   ·subst e;rw[H];simp
   ·rw[aa k];congr 1;rw[decide_eq_decide];omega
  |false=>
   have hr:∀i',Bf l.toArray n j i'=true->i'≠j->X' i'=true:=λi' hr an=>by
    have:=Gk F.cM n j i' (by omega) hr;rw[aa i']
    simp;omega
   have au:∀x,o.dst=some x->x<nt:=λx hx=>by
    have:=dh.1 hd o (AE Z);rw[hx]at this;exact AD this
   have av:pC Γ l (CI X' j) n=pC Γ l X' n+Af Γ o:=NP H Z n (by omega);have az:=pC_le (Γ:=Γ) (l:=l) (CI X' j) n;have:=wpL_pull (exec E F M aq al (by omega) Z H hr au (by omega) (KU ag Y) (K:=λ_ _=>∃U' X' G' a' W',(∀k,X' k=(X k||decide (k<j+1)))/\(∀k,X k=true->U' k=U k)/\Run tt Γ l n c t m U' X'/\Sat RD R0 w0 nt G' ⟨pT l U' X' t n,pM U' X' m n,cE,q+pC Γ l X' n⟩ a' W'/\vO tt Γ l c (l.drop (j+1)) (j+1) (pT l U' X' t (j+1)) (pM U' X' m (j+1)) kk) λv es G2 W2 J aw _=>?_)
   ·exact this
   ·refine⟨C0 U' j (v,es),CI X' j,G2,_,W2,λk=>?_,λk hk=>?_,J,by rw[av,<-eq];exact aw,?_⟩
    ·by_cases e:k=j
     ·subst e;rw[Bp];simp
     ·rw[BE e,aa k];congr 1;rw[decide_eq_decide];omega
    ·have an:k≠j:=λe=>by
      have:=aa k;rw[hk,e,H]at this;cases this
     rw[CB an];exact ak k hk
    ·refine JQ ag Bp Z (J.rel j o (by omega) Z Bp) ?_
     rw[Ht j (AG _),Hu j (AG _)];exact Y
theorem La(E:Env P RD tt Γ)(F:Fix l n c t m)(H:Run tt Γ l n c t m U X){cE q:Nat}(aw:c+8*n<=cE)(hq:Au Γ l=0\/q+Au Γ l<=QM)(hd:KA nt l=true)(hv:vO tt Γ l c l 0 t m kk)
  {G:Gh} {a:Act} {W:World} (hs:Sat RD R0 w0 nt G ⟨pT l U X t n,pM U X m n,cE,q+pC Γ l X n⟩ a W) {i:Nat} {o:Oper} (hi:i<n) (ho:l[i]?=some o) (hX:X i=false) (hr:∀M,Bf l.toArray n i M=true->M≠i->X M=true):
  DR l (pT l U X t i) o=some false\/(DR l (pT l U X t i) o=some true/\∃vs k0,evs (pT l U X t i) (BT o.op)=some vs/\opg tt Γ (c+8*i) o.op vs (Fa (pM U X m i) (vs.flatMap BS)) k0):=by
 obtain⟨U',X',G',a',W',ah,aa,af,_,Y⟩:=think E F H aw hq hd hv hs i (by omega)
 have J:l.drop i=o::l.drop (i+1):=by
  rw[eH (by have:=F.len;omega)]
  congr 1
  exact(AC ho).2
 rw[J]at Y;have aq:=(Gs F.loc hi ho).1
 obtain⟨e1,e2,_⟩:=KM (U:=U) (X:=X) (U':=U') (X':=X') F hi ho (k:=i) (k':=i) (by omega) (by omega) λM aG al=>by
  rcases al with⟨ag,an⟩|⟨aI,_⟩
  ·have hx:=hr M an (by omega)
   exact⟨⟨λh=>⟨ag,by rw[ah M,hx];rfl⟩,λh=>⟨ag,hx⟩⟩,λ_ h=>(aa M h).symm⟩
  ·exact⟨⟨λh=>absurd h.1 (by omega),λh=>absurd h.1 (by omega)⟩,λh=>absurd h (by omega)⟩
 rcases KU aq Y with h|⟨h1,vs,k0,h2,h3⟩
 ·exact .inl (e1.trans h)
 ·have Z:=e2.trans h2
  refine .inr ⟨e1.trans h1,vs,k0,Z,?_⟩;rw[H7 (m:=pM U X m i) (m':=pM U' X' m i) _ λx hx=>?_]
  ·exact h3
  ·have go:∀x b,lk (pM U X m i) x=some b->lk (pM U X m i) x=lk (pM U' X' m i) x:=λx b hb=>by
    rw[hb];refine((Do F.m0 (af.aU F) (by omega)).2 (((Do F.m0 (H.aU F) (by omega)).1 hb).imp id λ⟨j,h1,h2,h3⟩=>⟨j,h1,?_,?_⟩)).symm
    ·rw[ah j,h2];rfl
    ·rw[aa j h2];exact h3
   obtain⟨b,hb⟩:=KR (λx v hv=>H.cn F (by omega) hv) _ _ Z x hx;refine⟨go x b hb,λb' am y hy=>?_⟩;obtain⟨b2,ak⟩:=H.cV F (by omega) am y hy;exact go y b2 ak
end
section
variable {P:Program} {RD:(Nat->Prop)->World->Nat->Nat->Prop} {w0:World} {R0:Ro} {nt:Nat} {tt:List TE} {Γ:List (Nat × Nat × Ct)} {l:List Oper} {U:Nat->Value × AY} {X:Nat->Bool} {t:Tm} {m:AY} {c n:Nat} {kk:Tm->AY->Prop}
theorem Sat.drew(E:Env P RD tt Γ){G:Gh}{a:Act}{w:World}{s:St}(h:Sat RD R0 w0 nt G s a w):Sat RD R0 w0 nt G s a {w with drawn:=w.drawn+1}:=by
 refine⟨h.bO,h.bR,h.tmp,λi b hb=>⟨(h.mem i b hb).1,?_,(h.mem i b hb).2.2⟩,h.bM,h.z3,⟨h.fr.os,h.fr.tape,h.fr.output,h.fr.size,h.fr.block⟩,h.rb,h.rl,h.bi,h.al,h.sz⟩;have H:=(h.mem i b hb).2.1;refine⟨H.k0,λW j J=>?_,λY=>?_,λM=>?_,λZ=>?_,H.kk⟩
 ·obtain⟨g,o,el,F,e2,e3,e4⟩:=H.k1 W j J
  exact⟨g,o,el,F,e2,e3,e4.step e2 (λ_ h=>h) (λ_ _=>rfl)⟩
 ·obtain⟨g,o,F,e2,e4⟩:=H.k2 Y
  exact⟨g,o,F,e2,e4.step e2 (λ_ h=>h) (λ_ _=>rfl)⟩
 ·obtain⟨g,els,F,e2,e3,e4,e5⟩:=H.k3 M
  exact⟨g,els,F,e2,e3,e4,e5.step rfl (λ_ h=>h) (λ_ _=>rfl)⟩
 ·obtain⟨g,F,e2,e3⟩:=H.k4 Z
  exact⟨g,F,e2,E.rd _ _ _ _ _ _ _ e3 (λ_ h=>h) rfl (λ_ _=>rfl) (AG _)⟩
theorem M2(F:Fix l n c t m)(Y:Run tt Γ l n c t m U X)(hv:vO tt Γ l c l 0 t m kk):∀j,j<=n->(∀i,i<j->X i=true)->vO tt Γ l c (l.drop j) j (pT l U X t j) (pM U X m j) kk
 |0,_,_=>hv
 |j+1,hj,M=>by
  have W:=M2 F Y hv j (by omega) λi Z=>M i (by omega)
  obtain⟨o,J⟩:∃o,l[j]?=some o:=⟨l[j]'(by have:=F.len;omega),by simp⟩
  have H:l.drop j=o::l.drop (j+1):=by
   rw[eH (by have:=F.len;omega)]
   congr 1
   exact(AC J).2
  rw[H]at W;exact JQ (Gs F.loc (by omega) J).1 (M j (by omega)) J (Y.rel j o (by omega) J (M j (by omega))) W
theorem NJ:∀k,pT l U (λ_=>false) t k=t
 |0=>rfl
 |k+1=>NJ k
theorem NM:∀k,pM U (λ_=>false) m k=m
 |0=>rfl
 |k+1=>NM k
theorem P0:∀k,pC Γ l (λ_=>false) k=0
 |0=>rfl
 |k+1=>by unfold pC;rw[P0 k];rfl
theorem P1(h:∀j,j<n->X j=true):∀k,k<=n->pC Γ l X k=Au Γ (l.take k)
 |0,_=>rfl
 |k+1,hk=>by
  unfold pC;rw[P1 h k (by omega),eW,Fb,h k (by omega)]
  congr 1
  cases l[k]? with
  |none=>rfl
  |some o=>show Af Γ o=Af Γ o+0;omega
theorem PA(E:Env P RD tt Γ)(ax:P.follows .mixedOrders=true){ops:Array Oper}(n:Nat)(hB:Ap ops n=true)(hL:Oo ops.toList n=true):KX P RD tt Γ ops:=by
 intro R0 w0 nt id k s G a w hd hv hs;have aq:=hB;simp only[Ap,cY,dM]at aq;obtain⟨⟨⟨⟨⟨hn,_⟩,_⟩,aG⟩,au⟩,_⟩:=aq;obtain⟨t,m,c,q⟩:=s
 have aM:(Au Γ ops.toList=0\/q+Au Γ ops.toList<=QM)/\vO tt Γ ops.toList c ops.toList 0 t m λt m=>k ⟨t,m,c+8*ops.toList.length,q+Au Γ ops.toList⟩:=by
  have h':(bif Nat.beq (Au Γ ops.toList) 0 then vO tt Γ ops.toList c ops.toList 0 t m λt m=>k ⟨t,m,c+8*ops.toList.length,q+Au Γ ops.toList⟩ else q+Au Γ ops.toList<=QM/\vO tt Γ ops.toList c ops.toList 0 t m λt m=>k ⟨t,m,c+8*ops.toList.length,q+Au Γ ops.toList⟩):=hv
  cases hb:Nat.beq (Au Γ ops.toList) 0 with
  |true=>rw[hb]at h';exact⟨.inl (cX hb),h'⟩
  |false=>rw[hb]at h';exact⟨.inr h'.1,h'.2⟩
 obtain⟨hq,an⟩:=aM;clear hv;have ak:ops=ops.toList.toArray:=by simp
 generalize hl:ops.toList=l at *;subst ak;have bi:n<l.length:=by simpa using hn
 have F:Fix l n c t m:=⟨by omega,hL,Hv au,aG,hs.bi,λi b hb=>(hs.mem i b hb).1,λx v hx=>(hs.tmp x v hx).2,λi b hb=>(hs.mem i b hb).2.2⟩;refine FC n (λH a W=>∃U G,Run tt Γ l n c t m U (λj=>H.getD j false)/\Sat RD R0 w0 nt G ⟨pT l U (λj=>H.getD j false) t n,pM U (λj=>H.getD j false) m n,c+8*l.length,q+pC Γ l (λj=>H.getD j false) n⟩ a W) ax hB ?_ ?_ ?_
 ·have e:(λj=>(Array.replicate l.toArray.size false).getD j false)=λ_=>false:=funext λj=>getD_replicate_false _ _
  rw[e];refine⟨λ_=>(.tuple #[],[]),G,⟨λ_ _ _ _ h=>(by cases h),λ_ _ _ _ h=>(by cases h)⟩,?_⟩;rw[NJ,NM,P0];exact(hs.aY (h64:=by have h1:64<=c:=hs.bi;show 64<=c+8*l.length;omega) λi b hb=>by have:=(hs.mem i b hb).1;show i<c+8*l.length;have:i<c:=this;omega).drew E
 ·intro H a W i o am hI hi ho aL af K hK
  obtain⟨U,G,J,M⟩:=hI;have Y:l[i]?=some o:=by simpa using ho
  have az:i<H.size:=by rw[am.size];simp;omega
  have Z:H.getD i false=false:=by rw[<-aL];simp[az]
  have hr:∀i',Bf l.toArray n i i'=true->i'≠i->H.getD i' false=true:=λi' hr aS=>by
   obtain⟨f,hf⟩:∃f,n=f+1:=⟨n - 1,by omega⟩;rw[hf]at hr;rcases eN.1 hr with h|h
   ·exact absurd (cX h).symm aS
   ·obtain⟨j,_,hj⟩:=fm.1 h
    obtain⟨h1,h2⟩:=gJ.1 hj;exact Dx am f j i' h2 (af j h1)
  have aE:∀x,o.dst=some x->x<nt:=λx hx=>by
   have:=dh.1 hd o (AE Y);rw[hx]at this;exact AD this
  have aF:=NP (Γ:=Γ) (X:=λj=>H.getD j false) Z Y n hi;have bf:=pC_le (Γ:=Γ) (l:=l) (CI (λj=>H.getD j false) i) n
  have eX:(λj=>(H.setIfInBounds i true).getD j false)=CI (λj=>H.getD j false) i:=funext λj=>by
   unfold CI
   by_cases e:j=i
   ·subst e;rw[dB rfl];simp[az]
   ·rw[dC e];exact fQ false (Ne.symm e)
  refine exec E F J (by omega) M hi Y Z hr aE (by omega) (La E F J (by omega) hq hd an M hi Y Z hr) λv es G' W' ag aT _=>hK _ W' ⟨C0 U i (v,es),G',?_,?_⟩
  ·rw[eX];exact ag
  ·rw[eX,aF,<-eq];exact aT
 ·intro a W hI
  obtain⟨U,G,J,M⟩:=hI
  have hX:∀j,j<n->(Br l.toArray n).getD j false=true:=λj hj=>by
   unfold Br;rw[eA,iY,dif_pos (by simp;omega)];simp[hj]
  have a6:=M2 F J an n (AG _) hX;have aI:=P1 (Γ:=Γ) (l:=l) hX n (AG _);have al:Au Γ l=Au Γ (l.take n)+Au Γ (l.drop n):=by rw[<-Fb,eY]
  rw[aI]at M
  have aW:=M.aY (c':=c+8*n) (h64:=by have ar:=F.bi;omega) λi b hb=>by
   rcases ES n i b hb with h1|⟨j,hj,aH,h1⟩
   ·have:=F.m0 i b h1;omega
   ·have:=J.aU F j hj aH i b (Aj _ _ _ h1);omega
  refine Eg E (ops:=l) (l.drop n) n _ _ G a W _ ?_ a6 aW (by omega) λt' m' G' a' w' hk ai=>⟨rfl,_,G',hk,?_⟩
  ·exact dh.2 λo ho=>dh.1 hd o (ep ho)
  ·rw[show n+(l.drop n).length=l.length by simp;omega,eq,<-al]at ai
   exact ai
end
end
end Go.Proofs.YtbceafpodamnfaaGreatDoor
