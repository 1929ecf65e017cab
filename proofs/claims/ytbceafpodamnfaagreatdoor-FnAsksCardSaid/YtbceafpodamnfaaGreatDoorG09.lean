import Derived.Test.YtbceafpodamnfaaGreatDoorG08
set_option linter.all false
namespace Go.Proofs.YtbceafpodamnfaaGreatDoor
section
open Go.RowKit
def ldO(tt:List TE)(T:Nat)(cs:qL)(o:Nat):Option Value:=
 match tyo tt T with
 |some e=>bif Nat.beq e.u 4 then(bif Nat.ble (o+e.size) cs.length then some (.agg ((cs.drop o).take e.size).toArray) else none) else match cs[o]? with
  |some v=>bif Gm v then some v else none
  |none=>none
 |none=>none
def MR(tt:List TE)(t:Tm)(m:AW):ResultVar->Option Value
 | .tmp x=>match lk t x with
  |some v=>bif Ig v then some v else none
  |none=>none
 | .cell x T=>match lk t x with
  |some (.complex _ i off)=>match lk m i with
   |some b=>bif Nat.beq b.kd 0||Nat.beq b.kd 2 then ldO tt T b.cs off else none
   |none=>none
  |_=>none
def PD(tt:List TE)(rs:List ResultVar)(t:Tm)(m:AW):Option Value:=
 match rs with
 |[r]=>MR tt t m r
 |[r,r']=>match MR tt t m r,MR tt t m r' with
  |some v,some v'=>some (.tuple #[v,v'])
  |_,_=>none
 |_=>none
def Ew:Nat->List Value->Tm
 |_,[]=>[]
 |i,v::r=>(i,v)::Ew (i+1) r
section
variable {P:Program} {RD:(Nat->Prop)->World->Nat->Nat->Prop} {w0:World} {tt:List TE} {Γ:List (Nat × Nat × Ct)} {R0:Ro} {nt:Nat} {G:Gh} {w:World} {a:Act} {s:St} {Ρ:Sp}
theorem run_ldO(E:Env P RD tt Γ){T z:Nat}{cs:qL}{v:Value}(h:ldO tt T cs z=some v){g o:Nat}(H:∀x v,cs[x]?=some v->w.cell? ⟨g,o+x,none⟩=some (r0 G.α v)):(loadVar T ⟨g,o+z,none⟩).run P w=.ok (r2 G.α v) w/\r2 G.α v=r1 G.α v:=by
 unfold ldO at h;split at h
 ·rename_i e he
  obtain⟨Z,h2⟩:=E.ty he;subst h2
  cases M:Nat.beq e.u 4 with
  |true=>
   simp only[M,eY]at h
   cases J:Nat.ble (z+e.size) cs.length with
   |false=>rw[J]at h;cases h
   |true=>
    rw[J]at h;cases h;have af:=AD J;obtain⟨fs,hd,_,_⟩:=Z.struct (dh M);obtain⟨i,_,hi,hs,_⟩:=Z.bI;have Y:∀W,(isAgg e.ty).run P W=.ok true W:=λW=>by simp[isAgg,underlying,hd,go_sem]
    have e2:(sizeOf e.ty).run P w=.ok (((cs.drop z).take e.size).map (r0 G.α)).length w:=by simp[sizeOf,typeInfo,hi,hs,go_sem];omega
    have e3:=run_loadCells_list (P:=P) w ⟨g,o+z,none⟩ (((cs.drop z).take e.size).map (r0 G.α)) λj v hv=>by
     rw[ej]at hv
     cases F:((cs.drop z).take e.size)[j]? with
     |none=>rw[F]at hv;cases hv
     |some u=>
      rw[F]at hv;cases hv;rw[K0,eG];refine H _ _ ?_;rw[eK]at F;split at F
      ·rwa [ew]at F
      ·cases F
    refine⟨?_,rfl⟩;simp only[loadVar,eA,Y,e2,e3,Result.andThen_ok,gu,Sem.run_pure];show Result.ok _ _=Result.ok (Value.agg _) _;simp
  |false=>
   simp only[M,cond_false]at h;have ae:e.u≠4:=λh=>by rw[h]at M;cases M
   split at h
   ·rename_i u hv
    cases O:Gm u with
    |false=>rw[O]at h;cases h
    |true=>
     rw[O]at h;cases h;obtain⟨d,hd,h3,h4⟩:=Z.bF ae
     have Y:∀W,(isAgg e.ty).run P W=.ok false W:=λW=>by
      cases d<;>first|exact absurd rfl (h3 _)|exact absurd rfl (h4 _ _)|simp[isAgg,underlying,hd,go_sem]
     refine⟨?_,?_⟩
     ·rw[(EV O G.α).1]
      simp[loadVar,Y,H _ _ hv,go_sem]
     ·rcases MA v with⟨_,rfl⟩|⟨h5,_⟩
      ·cases O
      ·exact h5 _
   ·cases h
 ·cases h
def resSem(tmps:Array Value):ResultVar->Sem Value
 | .tmp t=>pure (tmps.getD t undef)
 | .cell a t=>do loadVar t (<-asAddr (tmps.getD a undef))
theorem PC(E:Env P RD tt Γ)(W:Sat RD R0 w0 nt G s a w){r:ResultVar}{v:Value}(h:MR tt s.t s.m r=some v):
  (resSem a.tmps r).run P w=.ok (r2 G.α v) w/\r2 G.α v=r1 G.α v:=by
 have z:∀x u,lk s.t x=some u->a.tmps.getD x undef=r2 G.α u:=λx u H=>by rw[fO,(W.tmp x u H).1];rfl
 unfold MR at h;split at h
 ·rename_i x
  split at h
  ·rename_i u H
   cases M:Ig u with
   |false=>rw[M]at h;cases h
   |true=>
    rw[M]at h;cases h;refine⟨by show(Sem.run P (pure (a.tmps.getD x undef)) w)=_;rw[z x v H];simp,?_⟩;rcases MA v with⟨_,rfl⟩|⟨h5,_⟩
    ·cases M
    ·exact h5 _
  ·cases h
 ·rename_i x T
  split at h
  ·rename_i Y i O H
   split at h
   ·rename_i b hb
    cases hk:(Nat.beq b.kd 0||Nat.beq b.kd 2) with
    |false=>rw[hk]at h;cases h
    |true=>
     rw[hk]at h
     have J:b.kd=0\/b.kd=2:=by
      rcases fh.1 hk with h|h
      ·exact .inl (dh h)
      ·exact .inr (dh h)
     obtain⟨g,o,hg,F⟩:=(W.mem i b hb).2.1.cell J;obtain⟨Z,h2⟩:=run_ldO (P:=P) (G:=G) (w:=w) E h F;refine⟨?_,h2⟩;show(Sem.run P (do loadVar T (<-asAddr (a.tmps.getD x undef))) w)=_;rw[z x _ H,Gl Y O hg];simp only[asAddr,eA,Sem.run_pure,Result.andThen_ok];exact Z
   ·cases h
  ·cases h
theorem MQ(fn:Func)(tmps:Array Value):results fn tmps=(fn.results.mapM (resSem tmps) >>=λvs=>pure (if h:vs.size=1 then vs[0] else .tuple vs)):=by
 unfold results
 congr 1
theorem res_ok(E:Env P RD tt Γ)(O:Sat RD R0 w0 nt G s a w){fn:Func}{v:Value}(h:PD tt fn.results.toList s.t s.m=some v):(results fn a.tmps).run P w=.ok (r2 G.α v) w:=by
 unfold PD at h;split at h
 ·rename_i r M
  have z:fn.results=#[r]:=by rw[<-fi (xs:=fn.results),M]
  obtain⟨F,_⟩:=PC (P:=P) E O h;rw[MQ,z];simp[F]
 ·rename_i r r' M
  have z:fn.results=#[r,r']:=by rw[<-fi (xs:=fn.results),M]
  split at h
  ·rename_i u u' Z W
   cases h;obtain⟨F,Y⟩:=PC (P:=P) E O Z;obtain⟨H,J⟩:=PC (P:=P) E O W;rw[MQ,z];simp[F,H];rw[Y,J];show _=Value.tuple (Array.map _ #[u,u']);simp
  ·cases h
 ·cases h
theorem Ry:∀(l:qL) (j i:Nat) (v:Value),lk (Ew j l) i=some v->j<=i/\l[i - j]?=some v
 |[],_,_,_,h=>by cases h
 |u::r,j,i,v,h=>by
  unfold Ew at h
  by_cases z:j=i
  ·subst z;rw[Ae]at h;cases h;exact⟨AG,qs⟩
  ·rw[Au z]at h
   obtain⟨H,F⟩:=Ry r (j+1) i v h;exact⟨qo,by rw[show i - j=i - (j+1)+1 by omega];exact F⟩
def Gives(RD:(Nat->Prop)->World->Nat->Nat->Prop)(R0:Ro)(w0:World)(Post:Value->AW->Nat->Prop):Ending->World->Prop:=λe w'=>
 ∃v m q G',Post v m q/\e=.returned (r2 G'.α v)/\(∀i b,lk m i=some b->Hold RD w0 G' w' q i b)/\Clo m (Bc v)/\Stp R0.R w0 w'/\(∀k,G'.Z k->k<w'.heap.size/\¬G'.RB k)/\(∀i b j c,lk m i=some b->lk m j=some c->EN b->EN c->i≠j->G'.α i≠G'.α j)/\(∀i,i<64->G'.α i=R0.A i)/\R0.n<=w'.heap.size
theorem Ox(E:Env P RD tt Γ){f:Nat}{fn:Func}{c:Code}(hf:P.funcs[f]?=some fn)(hb:fn.body=some c)(Z:Ci P RD tt Γ Ρ fn.ntmps c){vs:qL}(hn:vs.length<=fn.ntmps){m0:AW}{c0 q0:Nat}{Post:Value->AW->Nat->Prop}
  (hv:vw tt Γ Ρ c (λe s=>(e=.ret\/e=.normal)/\∃v,PD tt fn.results.toList s.t s.m=some v/\Post v s.m s.q/\clo s.m (Bc v)=true) ⟨Ew 0 vs,m0,c0,q0⟩)
  (hm:∀i b,lk m0 i=some b->i<c0/\Hold RD w0 G w q0 i b/\Clo m0 (b.cs.flatMap DJ)) (F:∀i b j c,lk m0 i=some b->lk m0 j=some c->EN b->EN c->i≠j->G.α i≠G.α j) (J:Clo m0 (vs.flatMap Bc)) (h64:64<=c0) (hz:∀k,G.Z k->k<w.heap.size/\¬G.RB k) (hr:∀k,G.RB k->R0.R k\/w0.heap.size<=k) (W:∀k,G.RB k->k<w.heap.size) (M:Stp R0.R w0 w):
  Calls P f (vs.map (r2 G.α)).toArray w (Gives RD ⟨R0.R,G.α,w.heap.size⟩ w0 Post):=by
 refine calls_of_wp hf hb (jf (EA (R0:=⟨R0.R,G.α,w.heap.size⟩) (w0:=w0) E c _ _ G _ w Z hv ?_) λe a' w' hq=>?_)
 ·refine⟨rfl,?_,λi v hi=>?_,hm,F,hz,M,hr,W,h64,λ_ _=>rfl,AG⟩
  ·simp;omega
  ·obtain⟨_,H⟩:=Ry vs 0 i v hi
   rw[Nat.sub_zero]at H;have O:i<vs.length:=(AC H).1;refine⟨?_,λj hj=>J j (dZ.2 ⟨v,AE H,hj⟩)⟩;rw[Array.getElem?_append_left (by simpa using O)];simp[H]
 ·obtain⟨s,G',⟨he,v,hv,hp,hc⟩,z⟩:=hq
  have Y:Gives RD ⟨R0.R,G.α,w.heap.size⟩ w0 Post (.returned (r2 G'.α v)) w':=⟨v,s.m,s.q,G',hp,rfl,λi b hb=>(z.mem i b hb).2.1,Cg hc,z.fr,z.z3,z.bO,z.al,z.sz⟩;rcases he with rfl|rfl
  ·exact⟨z.ci,_,res_ok E z hv,Y⟩
  ·exact⟨z.ci,_,res_ok E z hv,Y⟩
theorem vcalls(E:Env P RD tt Γ){f:Nat}{fn:Func}{c:Code}(hf:P.funcs[f]?=some fn)(hb:fn.body=some c)(M:Ci P RD tt Γ Ρ fn.ntmps c){vs:qL}(O:vs.length<=fn.ntmps){m0:AW}{c0 q0:Nat}{Post:Value->AW->Nat->Prop}
  (hv:vw tt Γ Ρ c (λe s=>(e=.ret\/e=.normal)/\∃v,PD tt fn.results.toList s.t s.m=some v/\Post v s.m s.q/\clo s.m (Bc v)=true) ⟨Ew 0 vs,m0,c0,q0⟩)
  (z:∀i b,lk m0 i=some b->i<c0/\Hold RD w G w q0 i b/\¬EN b/\Clo m0 (b.cs.flatMap DJ)) (F:Clo m0 (vs.flatMap Bc)) (h64:64<=c0) (Y:∀k,G.Z k->k<w.heap.size/\¬G.RB k) (W:∀k,G.RB k->R0.R k) (H:∀k,G.RB k->k<w.heap.size):
  Calls P f (vs.map (r2 G.α)).toArray w (Gives RD ⟨R0.R,G.α,w.heap.size⟩ w Post):=
 Ox E hf hb M O hv (λi b hb=>⟨(z i b hb).1,(z i b hb).2.1,(z i b hb).2.2.2⟩) (λi b j Z hb _ J=>absurd J (z i b hb).2.2.1) F h64 Y (λk hk=>.inl (W k hk)) H (.refl _ _)
end
section
variable {P:Program} {ops:Array Oper} {Q:Exit->Act->World->Prop}
theorem Tl{n g:Nat}{I:Array Bool->Act->World->Prop}
  (hw:∀listed,HeadInv .any ops n listed->∀i,i<n->listed.getD i true=false->∀t,n<=t->t∉Region.ready .any ops listed)
  (hn:n<=ops.size) (O:GA .any ops n=true)
  (Z:∀listed a W i o,HeadInv .any ops n listed->I listed a W->i<n->ops[i]?=some o->listed.getD i true=false->(∀j,Region.waitsFor .any ops i j=true->listed.getD j false=true)->
   ∀K:Act->World->Prop,(∀v W',I (listed.setIfInBounds i true) (a.put o.dst v) W'->K (a.put o.dst v) W')->wpList P ops (Ch K) [o] a W)
  (H:∀a W,I (CF ops n) a W->wpAny P .any ops Q g (CF ops n) a W):
  ∀(m:Nat) (listed:Array Bool) (a:Act) (W:World),HeadInv .any ops n listed->CC n listed=m->I listed a W->wpAny P .any ops Q (m+g) listed a W
 |0,listed,a,W,z,hm,hI=>by
  have F:∀i,i<n->listed.getD i true=true:=by
   intro i Y;have:=gv.1 hm i (dH.2 Y)
   simpa using this
  rw[Dp z F]at hI ⊢;rw[dL];exact H a W hI
 |m+1,listed,a,W,z,hm,hI=>by
  obtain⟨u,hu,J⟩:∃u,u<n/\listed.getD u true=false:=by
   have:0<CC n listed:=qo
   obtain⟨u,hu,J⟩:=g9.1 this;exact⟨u,dH.1 hu,by simpa using J⟩
  rw[show m+1+g=(m+g)+1 by omega];refine⟨λh0=>absurd h0 (Ep O z u hu J),λi Y=>?_⟩
  have M:i<n:=by
   rcases eW i n with h|h
   ·exact h
   ·exact absurd Y (hw listed z u hu J i h)
  obtain⟨aa,o,ho,F⟩:=iT.1 Y;refine D8 ho (Z listed a W i o z hI M ho aa (λj hj=>?_) _ λv W' ah=>?_)
  ·obtain⟨oj,al,e,he,aj,am⟩:=Region.waitsFor_spec hj
   have:oj=o:=dj (al.symm.trans ho);subst this;have hl:=F e he aj
   rwa [am]at hl
  ·have ak:i<listed.size:=by rw[z.size];exact(AB ho).1
   exact Tl hw hn O Z H m _ _ W' (z.set Y M) (by have:=Fd M ak aa;omega) ah
theorem Ha{id:Nat}{a:Act}{w:World}{l:List Oper}(n:Nat)(I:Array Bool->Act->World->Prop)(hm:P.follows .mixedOrders=true)(hB:Ax l.toArray n=true)
  (h0:I (Array.replicate l.toArray.size false) a {w with drawn:=w.drawn+1})
  (aa:∀listed a W i o,HeadInv .any l.toArray n listed->I listed a W->i<n->l.toArray[i]?=some o->listed.getD i true=false->(∀j,Region.waitsFor .any l.toArray i j=true->listed.getD j false=true)->
   ∀K:Act->World->Prop,(∀v W',I (listed.setIfInBounds i true) (a.put o.dst v) W'->K (a.put o.dst v) W')->wpList P l.toArray (Ch K) [o] a W)
  (z:∀a W,I (CF l.toArray n) a W->wpList P l.toArray Q (l.drop n) a W):(Code.region id l.toArray true).wp P Q a w:=by
 simp only[Ax,di,dS]at hB;obtain⟨⟨⟨⟨⟨hn,hs⟩,hc⟩,Y⟩,hd⟩,M⟩:=hB;refine iC hm ?_
 have O:HeadInv .any l.toArray n (Array.replicate l.toArray.size false):=
  ⟨qs,λj oj _ hl=>(by rw[getD_replicate_false]at hl;cases hl),λt _ ht=>getD_in (by simpa using ht) (getD_replicate_false _ _)⟩
 have F:CC n (Array.replicate l.toArray.size false)=n:=by
  unfold CC;rw[gb.2]
  ·simp
  ·intro i Z
   have:i<l.toArray.size:=by have:=dH.1 Z;omega
   rw[getD_in (by simpa using this) (getD_replicate_false _ _)];rfl
 have H:=Tl (P:=P) (Q:=Q) (g:=l.toArray.size - n) (I:=I) (λlisted af i Z hu t ht=>tail_waits hs hc hn af _ i rfl Z hu t ht) qo Y aa
  (λa W hI=>by
   have J:(l.drop n).length=l.toArray.size - n:=by simp
   have:=wpAny_of_seq (md:=.any) (Q':=Q) (l.drop n) n (CF l.toArray n) _ W (λj=>by simp[ew]) (by rw[J];exact M) (z a W hI)
   rwa [J]at this)
  n _ a {w with drawn:=w.drawn+1} O F h0
 rw[show n+(l.toArray.size - n)=l.toArray.size by omega]at H;exact H
end
def Bu(l:List Oper)(j:Nat):Option Nat:=(l[j]?).bind (·.dst)
def pT(l:List Oper)(U:Nat->Value × AW)(X:Nat->Bool)(t:Tm):Nat->Tm
 |0=>t
 |k+1=>bif X k then Fr (Bu l k) (U k).1 (pT l U X t k) else pT l U X t k
def pM(U:Nat->Value × AW)(X:Nat->Bool)(m:AW):Nat->AW
 |0=>m
 |k+1=>bif X k then(U k).2++pM U X m k else pM U X m k
section
variable {l:List Oper} {U U':Nat->Value × AW} {X X':Nat->Bool} {t:Tm} {m:AW} {c n:Nat}
theorem Jk(d:Option Nat)(v:Value)(t:Tm)(x:Nat):lk (Fr d v t) x=if d=some x then some v else lk t x:=by
 cases d with
 |none=>rw[dk qs];rfl
 |some y=>
  by_cases h:y=x
  ·subst h;rw[dv rfl];exact Ae _ _ _
  ·rw[dk (by simpa using h)];exact Au h _ _
theorem Ll{x:Nat}:∀k,(∀j,j<k->X j=true->Bu l j≠some x)->lk (pT l U X t k) x=lk t x
 |0,_=>rfl
 |k+1,h=>by
  have z:=Ll k λj H=>h j qo
  unfold pT
  cases F:X k with
  |false=>exact z
  |true=>show lk (Fr _ _ _) x=_;rw[Jk,dk (h k qo F)];exact z
theorem Lk{x j:Nat}:∀k,j<k->X j=true->Bu l j=some x->(∀i,i<k->i≠j->Bu l i≠some x)->lk (pT l U X t k) x=some (U j).1
 |0,H,_,_,_=>absurd H qo
 |k+1,H,z,F,J=>by
  unfold pT
  by_cases e:j=k
  ·subst e;rw[z];show lk (Fr _ _ _) x=_;rw[Jk,dv F]
  ·have M:=Lk k qo z F λi O=>J i qo
   cases hk:X k with
   |false=>exact M
   |true=>show lk (Fr _ _ _) x=_;rw[Jk,dk (J k qo (Ne.symm e))];exact M
def Own(l:List Oper)(n:Nat):Prop:=∀i j x,i<n->j<n->i≠j->Bu l i=some x->Bu l j≠some x
theorem UA(ho:Own l n){k k' x:Nat}(hk:k<=n)(af:k'<=n)(h:∀j,j<n->Bu l j=some x->((j<k/\X j=true)↔(j<k'/\X' j=true))/\(j<k->X j=true->U j=U' j)):lk (pT l U X t k) x=lk (pT l U' X' t k') x:=by
 by_cases H:∃j,j<k/\X j=true/\Bu l j=some x
 ·obtain⟨j,J,F,z⟩:=H
  obtain⟨O,W⟩:=h j qo z;obtain⟨Z,Y⟩:=O.1 ⟨J,F⟩;rw[Lk k J F z λi hi M=>ho j i x qo qo (Ne.symm M) z,Lk k' Z Y z λi hi M=>ho j i x qo qo (Ne.symm M) z,W J F]
 ·rw[Ll k λj J F z=>H ⟨j,J,F,z⟩,Ll k' λj J F z=>?_]
  obtain⟨O,W⟩:=(h j qo z).1.2 ⟨J,F⟩;exact H ⟨j,O,W,z⟩
def Keys(c:Nat)(U:Nat->Value × AW)(X:Nat->Bool)(n:Nat):Prop:=∀j,j<n->X j=true->∀i b,(i,b)∈(U j).2->c+8*j<=i/\i<c+8*j+8
theorem Fx:∀k i b,lk (pM U X m k) i=some b->lk m i=some b\/∃j,j<k/\X j=true/\lk (U j).2 i=some b
 |0,i,b,h=>.inl h
 |k+1,i,b,h=>by
  unfold pM at h
  cases F:X k with
  |false=>
   rw[F]at h;rcases Fx k i b h with z|⟨j,J,z⟩
   ·exact .inl z
   ·exact .inr ⟨j,qo,z⟩
  |true=>
   rw[F]at h;change lk ((U k).2++_) i=some b at h;rw[B9]at h
   cases H:lk (U k).2 i with
   |some b'=>rw[H]at h;exact .inr ⟨k,qo,F,by rw[H];exact h⟩
   |none=>
    rw[H]at h;rcases Fx k i b h with z|⟨j,J,z⟩
    ·exact .inl z
    ·exact .inr ⟨j,qo,z⟩
theorem Md(F:∀i b,lk m i=some b->i<c)(z:Keys c U X n){i:Nat}{b:VB}(h:lk m i=some b):∀k,k<=n->lk (pM U X m k) i=some b
 |0,_=>h
 |k+1,hk=>by
  have H:=Md F z h k qo;unfold pM
  cases M:X k with
  |false=>exact H
  |true=>
   show lk ((U k).2++_) i=some b;rw[B9]
   cases O:lk (U k).2 i with
   |none=>exact H
   |some J=>have:=z k qo M i J (Aw _ _ _ O);have:=F i b h;omega
theorem PN(z:Keys c U X n){j i:Nat}{b:VB}(F:X j=true)(h:lk (U j).2 i=some b):∀k,k<=n->j<k->lk (pM U X m k) i=some b
 |0,_,J=>absurd J qo
 |k+1,hk,J=>by
  unfold pM
  by_cases e:j=k
  ·subst e
   rw[F];show lk ((U j).2++_) i=some b;rw[B9,h];rfl
  ·have M:=PN z F h k qo qo
   cases H:X k with
   |false=>exact M
   |true=>
    show lk ((U k).2++_) i=some b;rw[B9]
    cases W:lk (U k).2 i with
    |none=>exact M
    |some O=>have:=z k qo H i O (Aw _ _ _ W);have:=z j qo F i b (Aw _ _ _ h);omega
theorem EU(J:∀i b,lk m i=some b->i<c)(z:Keys c U X n){k i:Nat}{b:VB}(hk:k<=n):lk (pM U X m k) i=some b↔(lk m i=some b\/∃j,j<k/\X j=true/\lk (U j).2 i=some b):=
 ⟨Fx k i b,λh=>h.elim (λh=>Md J z h k hk) λ⟨_,H,F,h⟩=>PN z F h k hk H⟩
theorem LM{m m':AW}:∀(z:List Nat),(∀i∈z,lk m i=lk m' i)->LN m z=LN m' z
 |[],_=>rfl
 |i::r,h=>by
  unfold LN;rw[h i dP,LM r λj F=>h j (dQ _ F)]
theorem JS{m m':AW}:∀(z:List Nat),(∀i∈z,lk m i=lk m' i/\∀b,lk m i=some b->∀j∈b.cs.flatMap DJ,lk m j=lk m' j)->GW m z=GW m' z
 |[],_=>rfl
 |i::r,h=>by
  obtain⟨F,H⟩:=h i dP;unfold GW;rw[<-F,JS r λj J=>h j (dQ _ J)]
  cases hb:lk m i with
  |none=>rfl
  |some b=>simp only[LM _ (H b hb)]
def MB(xs:List Operand):List Nat:=xs.filterMap λx=>match x with
 | .tmp t=>some t
 |_=>none
def Km(l:List Oper)(o:Oper):List Nat:=match o.guard with
 |some (j,_)=>(Bu l j).toList
 |none=>[]
theorem Ok{t H:Tm}:∀(xs:List Operand),(∀x∈MB xs,lk t x=lk H x)->evs t xs=evs H xs
 |[],_=>rfl
 |x::r,h=>by
  have J:evo t x=evo H x:=by
   cases x with
   |tmp i=>exact h i (jd.2 ⟨.tmp i,dP,rfl⟩)
   |_=>rfl
  unfold evs
  rw[J,Ok r λy M=>h y (by
   obtain⟨z,O,F⟩:=jd.1 M
   exact jd.2 ⟨z,dQ _ O,F⟩)]
theorem SF{t z:Tm}{o:Oper}(h:∀x∈Km l o,lk t x=lk z x):EO l t o=EO l z o:=by
 unfold EO
 cases H:o.guard with
 |none=>rfl
 |some p=>
  obtain⟨j,b⟩:=p;simp only
  cases J:l[j]? with
  |none=>rfl
  |some M=>
   simp only
   cases F:M.dst with
   |none=>rfl
   |some d=>
    simp only;rw[h d (by unfold Km Bu;rw[H];simp[J,F])]
theorem Sat.congr{RD:(Nat->Prop)->World->Nat->Nat->Prop}{R0:Ro}{w0 w:World}{nt:Nat}{G:Gh}{a:Act}{t W:Tm}{m m':AW}{c q:Nat}(h:Sat RD R0 w0 nt G ⟨t,m,c,q⟩ a w)(ht:∀x,lk W x=lk t x)(F:∀i,lk m' i=lk m i):Sat RD R0 w0 nt G ⟨W,m',c,q⟩ a w:=by
 have O:∀z,Clo m z->Clo m' z:=λz h i hi=>let ⟨b,hb⟩:=h i hi;⟨b,(F i).trans hb⟩
 refine⟨h.ci,h.bX,λi v hv=>?_,λi b hb=>?_,λi b j Y hb M=>?_,h.z3,h.fr,h.rb,h.rl,h.bD,h.al,h.sz⟩
 ·obtain⟨H,J⟩:=h.tmp i v ((ht i).symm.trans hv);exact⟨H,O _ J⟩
 ·obtain⟨H,J,Z⟩:=h.mem i b ((F i).symm.trans hb);exact⟨H,J,O _ Z⟩
 ·exact h.bO i b j Y ((F i).symm.trans hb) ((F j).symm.trans M)
def VU:Op->Bool
 | .store ..=>true
 | .call ⟨.builtin .append,_,_⟩=>true
 |_=>false
def locB(l:List Oper)(n:Nat):Bool:=(List.range n).all λj=>match l[j]? with
 |some o=>!VU o.op&&(MB (Bz o.op)++Km l o).all λx=>(List.range n).all λi=>match Bu l i with
  |some d=>!Nat.beq d x||(Nat.ble (i+1) j&&CE l.toArray n j i)||(Nat.ble (j+1) i&&CE l.toArray n i j)
  |none=>true
 |none=>false
theorem IU(h:locB l n=true){j:Nat}{o:Oper}(M:j<n)(O:l[j]?=some o):VU o.op=false/\∀x∈MB (Bz o.op)++Km l o,∀i,i<n->Bu l i=some x->(i<j/\CE l.toArray n j i=true)\/(j<i/\CE l.toArray n i j=true):=by
 have F:=dt.1 h j (dH.2 M);rw[O]at F;simp only[di,fw]at F;refine⟨F.1,λx hx i J H=>?_⟩;have z:=dt.1 (dt.1 F.2 x hx) i (dH.2 J);rw[H]at z;simp only[ep,di,fw]at z;rcases z with(z|z)|z
 ·rw[show Nat.beq x x=true from by simp]at z;cases z
 ·exact .inl ⟨AD z.1,z.2⟩
 ·exact .inr ⟨AD z.1,z.2⟩
theorem QU{tt:List TE}{op:Op}(h:VU op=false)(vs:qL)(m:AW):stv tt op vs m=none:=by
 unfold stv;split
 ·cases h
 ·rfl
theorem Qe{tt:List TE}{op:Op}(h:VU op=false)(id:Nat)(vs:qL)(m:AW):rwg tt id op vs m=none:=by
 unfold rwg;split
 ·cases h
 ·cases h
 ·cases h
 ·rfl
theorem Mi(h:Fc l.toArray n=true):Own l n:=λi j x M O H J F=>by
 have e:∀k,(l.toArray[k]?).bind (·.dst)=Bu l k:=λk=>by unfold Bu;simp
 rcases Nat.lt_or_gt_of_ne H with z|z
 ·exact Hp h z O x ((e i).trans J) ((e j).trans F)
 ·exact Hp h z M x ((e j).trans F) ((e i).trans J)
theorem OK(z:GA .any l.toArray n=true):∀f p i,p<n->CE l.toArray f p i=true->i<=p
 |0,p,i,_,h=>by rw[dh h];exact AG
 |f+1,p,i,M,h=>by
  rcases fh.1 h with h|h
  ·rw[dh h];exact AG
  ·obtain⟨j,J,F⟩:=fJ.1 h
   have:=dH.1 J;obtain⟨_,H⟩:=gJ.1 F;have:=OK z f j i qo H;omega
end
section
variable {P:Program} {tt:List TE} {Γ:List (Nat × Nat × Ct)} {l:List Oper} {U U':Nat->Value × AW} {X X':Nat->Bool} {t:Tm} {m:AW} {c n:Nat}
theorem wpL_pull{ops:Array Oper}{o:Oper}{a:Act}{w:World}{p:Prop}(h:wpList P ops (Ch λ_ _=>p) [o] a w):p:=by
 unfold wpList at h;split at h
 ·rcases h with h|⟨_,H,w',h⟩
  ·have z:o.wp P a w (λ_ _=>p) (Ch λ_ _=>p):=h
   unfold Oper.wp Oper.upon at z;split at z
   ·exact z
   ·exact z
   ·exact z
   ·obtain⟨e,w',fr,F,_⟩:=z []
    cases e with
    |returned v=>exact F
    |panicked c=>exact False.elim F
    |outgrown=>obtain⟨_,_,h⟩:=F;exact False.elim h
   ·obtain⟨v,w',F,_⟩:=z default []
    exact F
   ·exact False.elim z
   ·exact z.elim
  ·exact False.elim h
 ·exact h
def pC(Γ:List (Nat × Nat × Ct))(l:List Oper)(X:Nat->Bool):Nat->Nat
 |0=>0
 |k+1=>pC Γ l X k+(bif X k then(match l[k]? with|some o=>Al Γ o|none=>0) else 0)
def EB(U:Nat->Value × AW)(i:Nat)(p:Value × AW):Nat->Value × AW:=λj=>if j=i then p else U j
def DM(X:Nat->Bool)(i:Nat):Nat->Bool:=λj=>if j=i then true else X j
theorem CD{p:Value × AW}{i:Nat}:EB U i p i=p:=dv rfl
theorem Cr{p:Value × AW}{i j:Nat}(h:j≠i):EB U i p j=U j:=dk h
theorem Ce{i:Nat}:DM X i i=true:=dv rfl
theorem Bw{i j:Nat}(h:j≠i):DM X i j=X j:=dk h
theorem pC_off{i:Nat}:∀k,k<=i->pC Γ l (DM X i) k=pC Γ l X k
 |0,_=>rfl
 |k+1,h=>by unfold pC;rw[pC_off k qo,Bw qo]
theorem Sh{i:Nat}{o:Oper}(z:X i=false)(F:l[i]?=some o):∀k,i<k->pC Γ l (DM X i) k=pC Γ l X k+Al Γ o
 |0,h=>absurd h qo
 |k+1,h=>by
  unfold pC
  by_cases e:i=k
  ·subst e
   rw[pC_off i AG,Ce,z,F];rfl
  ·rw[Sh z F k qo,Bw (Ne.symm e)];omega
theorem UC(h:∀j,X j=true->X' j=true):∀k,pC Γ l X k<=pC Γ l X' k
 |0=>AG
 |k+1=>by
  unfold pC;have:=UC h k
  cases z:X k with
  |false=>show _+0<=_;omega
  |true=>rw[h k z];exact Nat.add_le_add_right this _
def Closed(l:List Oper)(n:Nat)(X:Nat->Bool):Prop:=∀p i,p<n->CE l.toArray n p i=true->X p=true->X i=true
structure RelJ(tt:List TE)(Γ:List (Nat × Nat × Ct))(l:List Oper)(c:Nat)(U:Nat->Value × AW)(X:Nat->Bool)(t:Tm)(m:AW)(j:Nat)(o:Oper):Prop where
 r:(EO l (pT l U X t j) o=some false/\U j=(.tuple #[],[]))\/(EO l (pT l U X t j) o=some true/\∃vs,evs (pT l U X t j) (Bz o.op)=some vs/\∀k,opg tt Γ (c+8*j) o.op vs (GW (pM U X m j) (vs.flatMap Bc)) k->k (U j).1 (U j).2)
 cv:Clo ((U j).2++pM U X m j) (Bc (U j).1)
 ce:OkE (c+8*j) (c+8*j+8) ((U j).2++pM U X m j) (U j).2
structure Run(tt:List TE)(Γ:List (Nat × Nat × Ct))(l:List Oper)(n c:Nat)(t:Tm)(m:AW)(U:Nat->Value × AW)(X:Nat->Bool):Prop where
 cl:Closed l n X
 rel:∀j o,j<n->l[j]?=some o->X j=true->RelJ tt Γ l c U X t m j o
structure Fix(l:List Oper)(n c:Nat)(t:Tm)(m:AW):Prop where
 len:n<=l.length
 loc:locB l n=true
 aW:Own l n
 deps:GA .any l.toArray n=true
 bD:64<=c
 m0:∀i b,lk m i=some b->i<c
 tc:∀x v,lk t x=some v->Clo m (Bc v)
 mc:∀i b,lk m i=some b->Clo m (b.cs.flatMap DJ)
theorem Run.aZ(h:Run tt Γ l n c t m U X)(F:Fix l n c t m):Keys c U X n:=λj J z i b H=>by
 obtain⟨o,M⟩:∃o,l[j]?=some o:=⟨l[j]'(by have:=F.len;omega),qs⟩;have:=(h.rel j o J M z).ce i b H;exact⟨this.1,this.2.1⟩
theorem PM{x:Nat}{v:Value}:∀k,lk (pT l U X t k) x=some v->lk t x=some v\/∃j,j<k/\X j=true/\v=(U j).1
 |0,h=>.inl h
 |k+1,h=>by
  unfold pT at h
  cases F:X k with
  |false=>
   rw[F]at h;rcases PM k h with z|⟨j,H,z⟩
   ·exact .inl z
   ·exact .inr ⟨j,qo,z⟩
  |true=>
   rw[F]at h;change lk (Fr _ _ _) x=some v at h;rw[Jk]at h;split at h
   ·exact .inr ⟨k,qo,F,(dj h).symm⟩
   ·rcases PM k h with z|⟨j,H,z⟩
    ·exact .inl z
    ·exact .inr ⟨j,qo,z⟩
theorem Run.up(h:Run tt Γ l n c t m U X)(F:Fix l n c t m){j k:Nat}(O:X j=true)(Y:j<k)(hk:k<=n){z:List Nat}(W:Clo ((U j).2++pM U X m j) z):Clo (pM U X m k) z:=W.mono λi b hb=>by
 rw[B9]at hb
 cases H:lk (U j).2 i with
 |some J=>exact⟨J,PN (h.aZ F) O H k hk Y⟩
 |none=>
  rw[H]at hb;exact⟨b,(EU F.m0 (h.aZ F) hk).2 (((EU F.m0 (h.aZ F) qo).1 hb).imp id λ⟨Z,h1,M⟩=>⟨Z,qo,M⟩)⟩
theorem Run.cI(h:Run tt Γ l n c t m U X)(F:Fix l n c t m){k x:Nat}{v:Value}(hk:k<=n)(hv:lk (pT l U X t k) x=some v):Clo (pM U X m k) (Bc v):=by
 rcases PM k hv with H|⟨j,J,z,rfl⟩
 ·exact(F.tc x v H).mono λi b hb=>⟨b,Md F.m0 (h.aZ F) hb k hk⟩
 ·obtain⟨o,M⟩:∃o,l[j]?=some o:=⟨l[j]'(by have:=F.len;omega),qs⟩
  exact h.up F z J hk (h.rel j o qo M z).cv
theorem Run.dc(h:Run tt Γ l n c t m U X)(F:Fix l n c t m){k i:Nat}{b:VB}(hk:k<=n)(hb:lk (pM U X m k) i=some b):Clo (pM U X m k) (b.cs.flatMap DJ):=by
 rcases Fx k i b hb with z|⟨j,J,H,z⟩
 ·exact(F.mc i b z).mono λi b hb=>⟨b,Md F.m0 (h.aZ F) hb k hk⟩
 ·obtain⟨o,M⟩:∃o,l[j]?=some o:=⟨l[j]'(by have:=F.len;omega),qs⟩
  exact h.up F H J hk ((h.rel j o qo M H).ce i b (Aw _ _ _ z)).2.2
theorem PW(F:Fix l n c t m){j:Nat}{o:Oper}(O:j<n)(W:l[j]?=some o){k k':Nat}(hk:k<=n)(z:k'<=n)
  (h:∀i,i<n->((i<j/\CE l.toArray n j i=true)\/(j<i/\CE l.toArray n i j=true))->((i<k/\X i=true)↔(i<k'/\X' i=true))/\(i<k->X i=true->U i=U' i)):
  EO l (pT l U X t k) o=EO l (pT l U' X' t k') o/\evs (pT l U X t k) (Bz o.op)=evs (pT l U' X' t k') (Bz o.op)/\∀x∈MB (Bz o.op)++Km l o,lk (pT l U X t k) x=lk (pT l U' X' t k') x:=by
 have H:∀x∈MB (Bz o.op)++Km l o,lk (pT l U X t k) x=lk (pT l U' X' t k') x:=λx hx=>UA F.aW hk z λi J M=>h i J ((IU F.loc O W).2 x hx i J M)
 exact⟨SF λx hx=>H x (dO.2 (.inr hx)),Ok _ λx hx=>H x (dO.2 (.inl hx)),H⟩
theorem Ls{t:Tm}{m:AW}(h:∀x v,lk t x=some v->Clo m (Bc v)):∀(xs:List Operand) (vs:qL),evs t xs=some vs->Clo m (vs.flatMap Bc)
 |[],vs,e=>by cases e;exact λi z=>(nomatch z)
 |x::xs,vs,e=>by
  unfold evs at e;split at e
  ·rename_i v hv
   split at e
   ·rename_i r F
    cases e;intro i z;rw[eB]at z;rcases dO.1 z with z|z
    ·unfold evo at hv
     split at hv
     ·exact h _ v hv i z
     ·rw[(cst_ok hv (λ_=>none)).2]at z;cases z
     ·cases hv
    ·exact Ls h xs r F i z
   ·cases e
  ·cases e
theorem Run.more(F:Fix l n c t m)(h:Run tt Γ l n c t m U X){i:Nat}{o:Oper}{p:Value × AW}(hi:i<n)(ho:l[i]?=some o)(hX:X i=false)(hr:∀Z,CE l.toArray n i Z=true->Z≠i->X Z=true)
  (W:RelJ tt Γ l c (EB U i p) (DM X i) t m i o):Run tt Γ l n c t m (EB U i p) (DM X i):=by
 have Y:∀j,X j=true->DM X i j=true/\EB U i p j=U j:=λj M=>by
  have:j≠i:=λe=>by rw[e,hX]at M;cases M
  exact⟨by rw[Bw this];exact M,Cr this⟩
 have am:Keys c (EB U i p) (DM X i) n:=λj M H x b hx=>by
  by_cases e:j=i
  ·subst e;have:=W.ce x b hx;exact⟨this.1,this.2.1⟩
  ·rw[Bw e]at H;rw[Cr e]at hx;exact h.aZ F j M H x b hx
 have hM:∀k,k<=n->∀x b,lk (pM U X m k) x=some b->lk (pM (EB U i p) (DM X i) m k) x=some b:=λk hk x b hb=>
  (EU F.m0 am hk).2 (((EU F.m0 (h.aZ F) hk).1 hb).imp id λ⟨j,h1,h2,h3⟩=>⟨j,h1,(Y j h2).1,by rw[(Y j h2).2];exact h3⟩)
 refine⟨λq x hq aj ag=>?_,λj oj M O H=>?_⟩
 ·by_cases e:x=i
  ·subst e;exact Ce
  ·rw[Bw e]
   by_cases e':q=i
   ·subst e';exact hr x aj e
   ·rw[Bw e']at ag;exact h.cl q x hq aj ag
 ·by_cases e:j=i
  ·subst e
   rw[ho]at O;cases O;exact W
  ·rw[Bw e]at H
   have hR:=h.rel j oj M O H
   obtain⟨e1,e2,_⟩:=PW (U:=U) (X:=X) (U':=EB U i p) (X':=DM X i) F M O (k:=j) (k':=j) qo qo λZ aH ax=>by
    by_cases e':Z=i
    ·subst e'
     have J:¬Z<j:=λaI=>by
      rcases ax with⟨_,az⟩|⟨aG,_⟩
      ·have:=h.cl j Z M az H;rw[hX]at this;cases this
      ·omega
     exact⟨⟨λh=>absurd h.1 J,λh=>absurd h.1 J⟩,λh=>absurd h J⟩
    ·rw[Bw e',Cr e'];exact⟨Iff.rfl,λ_ _=>rfl⟩
   have aw:∀z,Clo (pM U X m j) z->GW (pM U X m j) z=GW (pM (EB U i p) (DM X i) m j) z:=λz hc=>JS z λx hx=>by
    obtain⟨b,hb⟩:=hc x hx;refine⟨by rw[hb,hM j qo x b hb],λb' aq y hy=>?_⟩;obtain⟨b2,ah⟩:=h.dc F qo aq y hy;rw[ah,hM j qo y b2 ah]
   have hC:∀z,Clo ((U j).2++pM U X m j) z->Clo ((U j).2++pM (EB U i p) (DM X i) m j) z:=λz hc=>hc.mono λx b hb=>by
    rw[B9]at hb ⊢
    cases hu:lk (U j).2 x with
    |some b'=>exact⟨b',rfl⟩
    |none=>rw[hu]at hb;exact⟨b,hM j qo x b hb⟩
   refine⟨?_,?_,?_⟩
   ·rw[Cr e,<-e1,<-e2]
    rcases hR.r with hr|⟨h1,vs,h2,h3⟩
    ·exact .inl hr
    ·exact .inr ⟨h1,vs,h2,λk hk=>h3 k (by rw[aw _ (Ls (λx v hv=>h.cI F qo hv) _ _ h2)];exact hk)⟩
   ·rw[Cr e];exact hC _ hR.cv
   ·rw[Cr e]
    exact λx b hx=>⟨(hR.ce x b hx).1,(hR.ce x b hx).2.1,hC _ (hR.ce x b hx).2.2⟩
end
section
variable {P:Program} {RD:(Nat->Prop)->World->Nat->Nat->Prop} {w0:World} {R0:Ro} {nt:Nat} {tt:List TE} {Γ:List (Nat × Nat × Ct)} {l:List Oper} {U U':Nat->Value × AW} {X X':Nat->Bool} {t:Tm} {m:AW} {c n:Nat}
theorem Mc{i:Nat}{p:Value × AW}:∀k,k<=i->pT l (EB U i p) (DM X i) t k=pT l U X t k
 |0,_=>rfl
 |k+1,h=>by unfold pT;rw[Mc k qo,Bw qo,Cr qo]
theorem Me{i:Nat}{p:Value × AW}:∀k,k<=i->pM (EB U i p) (DM X i) m k=pM U X m k
 |0,_=>rfl
 |k+1,h=>by unfold pM;rw[Me k qo,Bw qo,Cr qo]
def Free(w0:World)(G:Gh)(m:AW)(W:World)(g:Nat):Prop:=w0.heap.size<=g/\g<W.heap.size/\¬G.Z g/\¬G.RB g/\∀i b,lk m i=some b->EN b->G.α i≠some ⟨g,0,none⟩
def Keeps(w0:World)(G:Gh)(m:AW)(W:World)(G':Gh)(m':AW)(W':World):Prop:=(∀k,G.Z k->G'.Z k/\W'.heap[k]?=W.heap[k]?)/\∀g,Free w0 G m W g->Free w0 G' m' W' g/\W'.heap[g]?=W.heap[g]?
theorem Keeps.gs{G G':Gh}{m es:AW}{W W':World}{q q' id:Nat}(z:GS RD G W q G' W' q' id)(hn:NewOk RD w0 G' W W' q' es)(O:∀k,G.Z k->k<W.heap.size/\¬G.RB k)(be:∀i b,lk m i=some b->(i<id\/id+8<=i)):Keeps w0 G m W G' (es++m) W':=by
 refine⟨λk hk=>⟨z.z1 k hk,z.bw.block k (O k hk).1 (O k hk).2⟩,λg ⟨Z,H,h3,J,h5⟩=>⟨⟨Z,AF H z.bw.size,λh=>(z.z2 g h).elim h3 qo,λh=>(z.r2 g h).elim J qo,λi b hb M=>?_⟩,z.bw.block g H J⟩⟩;rw[B9]at hb
 cases F:lk es i with
 |some b'=>
  rw[F]at hb;cases hb;obtain⟨g',Y,e2⟩:=hn.aW i b (Aw _ _ _ F) M;rw[Y];intro e;cases e;omega
 |none=>
  rw[F]at hb;rw[z.al i (be i b hb)];exact h5 i b hb M
theorem exec(E:Env P RD tt Γ)(F:Fix l n c t m)(h:Run tt Γ l n c t m U X){cE q:Nat}(bd:c+8*n<=cE){G:Gh}{a:Act}{W:World}(Y:Sat RD R0 w0 nt G ⟨pT l U X t n,pM U X m n,cE,q⟩ a W)
  {i:Nat} {o:Oper} (Z:i<n) (ho:l[i]?=some o) (hX:X i=false) (hr:∀i',CE l.toArray n i i'=true->i'≠i->X i'=true) (hd:∀x,o.dst=some x->x<nt) (hq:Al Γ o=0\/q+Al Γ o<=QM)
  (hc:EO l (pT l U X t i) o=some false\/(EO l (pT l U X t i) o=some true/\∃vs k0,evs (pT l U X t i) (Bz o.op)=some vs/\opg tt Γ (c+8*i) o.op vs (GW (pM U X m i) (vs.flatMap Bc)) k0))
  {K:Act->World->Prop} (hK:∀v es G' W',Run tt Γ l n c t m (EB U i (v,es)) (DM X i)->Sat RD R0 w0 nt G' ⟨pT l (EB U i (v,es)) (DM X i) t n,pM (EB U i (v,es)) (DM X i) m n,cE,q+Al Γ o⟩ (a.put o.dst (r2 G'.α v)) W'->Keeps w0 G (pM U X m n) W G' (pM (EB U i (v,es)) (DM X i) m n) W'->K (a.put o.dst (r2 G'.α v)) W'):
  wpList P l.toArray (Ch K) [o] a W:=by
 have ak:Bu l i=o.dst:=by unfold Bu;rw[ho];rfl
 obtain⟨e1,e2,_⟩:=PW (U:=U) (X:=X) (U':=U) (X':=X) F Z ho (k:=i) (k':=n) qo qo λi' az aQ=>by
  refine⟨⟨λh=>⟨az,h.2⟩,λh'=>⟨?_,h'.2⟩⟩,λ_ _=>rfl⟩;rcases aQ with H|⟨_,aS⟩
  ·exact H.1
  ·have:=h.cl i' i az aS h'.2;rw[hX]at this;cases this
 have aA:∀x b,lk (pM U X m i) x=some b->x<c+8*i:=λx b hb=>by
  rcases Fx i x b hb with H|⟨j,hj,z,H⟩
  ·have:=F.m0 x b H;omega
  ·have:=h.aZ F j qo z x b (Aw _ _ _ H);omega
 have aF:∀x b,lk (pM U X m i) x=some b->lk (pM U X m n) x=some b:=λx b hb=>
  (EU F.m0 (h.aZ F) AG).2 (((EU F.m0 (h.aZ F) qo).1 hb).imp id λ⟨j,H,h2⟩=>⟨j,qo,h2⟩)
 have be:∀x b,lk (pM U X m n) x=some b->(x<c+8*i\/c+8*i+8<=x):=λx b hb=>by
  rcases Fx n x b hb with H|⟨j,hj,z,H⟩
  ·have:=F.m0 x b H;omega
  ·have J:j≠i:=λe=>by rw[e,hX]at z;cases z
   have:=h.aZ F j hj z x b (Aw _ _ _ H);omega
 -- what comes of an outcome
 have fin:∀v es G' W',RelJ tt Γ l c (EB U i (v,es)) (DM X i) t m i o->Sat RD R0 w0 nt G' ⟨Fr o.dst v (pT l U X t n),es++pM U X m n,cE,q+Al Γ o⟩ (a.put o.dst (r2 G'.α v)) W'->Keeps w0 G (pM U X m n) W G' (es++pM U X m n) W'->K (a.put o.dst (r2 G'.α v)) W':=λv es G' W' aD a4 M=>by
  have O:=h.more F Z ho hX hr aD
  have aB:∀x,lk (pM (EB U i (v,es)) (DM X i) m n) x=lk (es++pM U X m n) x:=by
   intro x;apply Option.ext;intro b;rw[EU F.m0 (O.aZ F) AG,B9];constructor
   ·rintro(H|⟨j,hj,z,H⟩)
    ·cases hu:lk es x with
     |some b'=>have:=O.aZ F i Z Ce x b' (by rw[CD];exact Aw _ _ _ hu);have:=F.m0 x b H;omega
     |none=>exact Md F.m0 (h.aZ F) H n AG
    ·by_cases e:j=i
     ·subst e;rw[CD]at H;rw[show lk es x=some b from H];rfl
     ·rw[Bw e]at z
      rw[Cr e]at H
      cases hu:lk es x with
      |some b'=>have:=O.aZ F i Z Ce x b' (by rw[CD];exact Aw _ _ _ hu);have:=h.aZ F j hj z x b (Aw _ _ _ H);omega
      |none=>exact PN (h.aZ F) z H n AG hj
   ·intro H
    cases hu:lk es x with
    |some b'=>
     rw[hu]at H;exact .inr ⟨i,Z,Ce,by rw[CD];exact hu.trans H⟩
    |none=>
     rw[hu]at H;rcases Fx n x b H with h2|⟨j,hj,z,h2⟩
     ·exact .inl h2
     ·have J:j≠i:=λe=>by rw[e,hX]at z;cases z
      exact .inr ⟨j,hj,by rw[Bw J];exact z,by rw[Cr J];exact h2⟩
  refine hK v es G' W' O (a4.congr (λx=>?_) aB) ⟨M.1,λg hg=>⟨⟨(M.2 g hg).1.1,(M.2 g hg).1.2.1,(M.2 g hg).1.2.2.1,(M.2 g hg).1.2.2.2.1,λi b hb=>(M.2 g hg).1.2.2.2.2 i b ((aB i).symm.trans hb)⟩,(M.2 g hg).2⟩⟩
  ·rw[Jk]
   split
   ·rename_i hx
    rw[Lk n Z Ce (ak.trans hx) (λj hj J=>F.aW i j x Z hj (Ne.symm J) (ak.trans hx)),CD]
   ·rename_i hx
    refine UA F.aW AG AG λj hj ax=>?_
    have J:j≠i:=λe=>by rw[e,ak]at ax;exact hx ax
    rw[Bw J,Cr J];exact⟨Iff.rfl,λ_ _=>rfl⟩
 refine wpList_step λK' au=>?_
 rcases hc with hw|⟨hw,vs,k0,al,aO⟩
 ·rw[Li (G:=G) (e1▸hw) λi v hv=>(Y.tmp i v hv).1]
  show K' (a.put o.dst undef) W;refine au _ _ ?_;have:=Y.step (v:=.tuple #[]) (es:=[]) (d:=o.dst) (c':=cE) (GS.cC (P:=P) (tt:=tt) (Γ:=Γ) (id:=c+8*i) E Y.z3 Y.rl (ie q (Al Γ o))) .nil be AG qo (by have:=F.bD;omega) (λi Z=>(nomatch Z)) (λ_ _ h=>(nomatch h)) hd;have h2:=fin (.tuple #[]) [] G W ⟨.inl ⟨by rw[Mc i AG];exact hw,CD⟩,by rw[CD];exact λi Z=>(nomatch Z),by rw[CD];exact λ_ _ h=>(nomatch h)⟩ this ⟨λk hk=>⟨hk,rfl⟩,λg hg=>⟨hg,rfl⟩⟩;rw[noRW]at h2;exact h2
 ·rw[Li (G:=G) (e1▸hw) λi v hv=>(Y.tmp i v hv).1]
  show o.wp P a W K' _;obtain⟨aK,_⟩:=S7 (a:=a) (G:=G) (m:=pM U X m n) Y.tmp _ _ (e2▸al);refine OO E (w0:=w0) (id:=c+8*i) (q:=q) (m:=pM U X m i) Y.z3 Y.rl Y.fr.size (λx b hb=>⟨(Y.mem x b (aF x b hb)).2.1,.inl (aA x b hb)⟩) (λx b hb=>h.dc F qo hb) (Ls (λx v hv=>h.cI F qo hv) _ _ al) aK hq aO λv ae G' w' aM ay hn aw af=>?_
  have aC:∀am,Clo (ae++pM U X m i) am->Clo (ae++pM U X m n) am:=λam hc=>hc.mono λx b hb=>by
   rw[B9]at hb ⊢
   cases hu:lk ae x with
   |some b'=>exact⟨b',rfl⟩
   |none=>rw[hu]at hb;exact⟨b,aF x b hb⟩
  refine au _ _ (fin v ae G' w' ⟨.inr ⟨by rw[Mc i AG];exact hw,vs,by rw[Mc i AG];exact al,by rw[Me i AG,CD];exact aM⟩,by rw[CD,Me i AG];exact aw,by rw[CD,Me i AG];exact af⟩ ?_ (.gs ay hn Y.z3 be));exact Y.step ay hn be AG qo (by have:=F.bD;omega) (aC _ aw) (λx b hx=>⟨(af x b hx).1,(af x b hx).2.1,aC _ (af x b hx).2.2⟩) hd
end
section
variable {P:Program} {RD:(Nat->Prop)->World->Nat->Nat->Prop} {w0:World} {R0:Ro} {nt:Nat} {tt:List TE} {Γ:List (Nat × Nat × Ct)} {l:List Oper} {U U':Nat->Value × AW} {X X':Nat->Bool} {t:Tm} {m:AW} {c n:Nat} {kk:Tm->AW->Prop}
theorem IX(a b:List Oper):BS Γ (a++b)=BS Γ a+BS Γ b:=by
 induction a with
 |nil=>show BS Γ b=0+_;omega
 |cons o a z=>show Al Γ o+BS Γ (a++b)=(Al Γ o+BS Γ a)+_;omega
theorem UB:∀k,pC Γ l (λ_=>true) k=BS Γ (l.take k)
 |0=>rfl
 |k+1=>by
  unfold pC;rw[UB k,ec,IX]
  congr 1
  cases l[k]? with
  |none=>rfl
  |some o=>show Al Γ o=Al Γ o+0;omega
theorem pC_le(X:Nat->Bool)(k:Nat):pC Γ l X k<=BS Γ l:=by
 refine AH (UC (X':=λ_=>true) (λ_ _=>rfl) k) ?_;rw[UB k]
 conv=>rhs;rw[<-fM k l]
 rw[IX];omega
theorem Kv{j:Nat}{o:Oper}{r:List Oper}(z:VU o.op=false)(M:X j=true)(ho:l[j]?=some o)(Z:RelJ tt Γ l c U X t m j o)(h:vO tt Γ l c (o::r) j (pT l U X t j) (pM U X m j) kk):vO tt Γ l c r (j+1) (pT l U X t (j+1)) (pM U X m (j+1)) kk:=by
 have J:Bu l j=o.dst:=by unfold Bu;rw[ho];rfl
 have W:pT l U X t (j+1)=Fr o.dst (U j).1 (pT l U X t j):=by
  show(bif X j then Fr (Bu l j) (U j).1 (pT l U X t j) else pT l U X t j)=_;rw[M,J];rfl
 have O:pM U X m (j+1)=(U j).2++pM U X m j:=by
  show(bif X j then(U j).2++pM U X m j else pM U X m j)=_;rw[M];rfl
 rw[W,O];unfold vO at h;rcases Z.r with⟨F,H⟩|⟨F,vs,H,Y⟩
 ·rw[F]at h
  rw[H];exact h
 ·rw[F]at h
  simp only[H,QU z,Qe z]at h;exact Y _ h
theorem Uh{j:Nat}{o:Oper}{r:List Oper}{t:Tm}{m:AW}(z:VU o.op=false)(h:vO tt Γ l c (o::r) j t m kk):EO l t o=some false\/(EO l t o=some true/\∃vs k0,evs t (Bz o.op)=some vs/\opg tt Γ (c+8*j) o.op vs (GW m (vs.flatMap Bc)) k0):=by
 unfold vO at h;split at h
 ·rename_i H;exact .inl H
 ·rename_i H
  split at h
  ·rename_i vs F
   rw[QU z]at h;simp only[Qe z]at h;exact .inr ⟨H,vs,_,F,h⟩
  ·exact h.elim
 ·exact h.elim
theorem think(E:Env P RD tt Γ)(F:Fix l n c t m)(ag:Run tt Γ l n c t m U X){cE q:Nat}(aj:c+8*n<=cE)(hq:BS Γ l=0\/q+BS Γ l<=QM)(hd:Pg nt l=true)(hv:vO tt Γ l c l 0 t m kk)
  {G:Gh} {a:Act} {W:World} (hs:Sat RD R0 w0 nt G ⟨pT l U X t n,pM U X m n,cE,q+pC Γ l X n⟩ a W):∀j,j<=n->
  ∃U' X' G' a' W',(∀k,X' k=(X k||decide (k<j)))/\(∀k,X k=true->U' k=U k)/\Run tt Γ l n c t m U' X'/\Sat RD R0 w0 nt G' ⟨pT l U' X' t n,pM U' X' m n,cE,q+pC Γ l X' n⟩ a' W'/\vO tt Γ l c (l.drop j) j (pT l U' X' t j) (pM U' X' m j) kk
 |0,_=>⟨U,X,G,a,W,λk=>qs,λ_ _=>rfl,ag,hs,hv⟩
 |j+1,hj=>by
  obtain⟨U',X',G',a',W',M,ah,H,al,Y⟩:=think E F ag aj hq hd hv hs j qo;obtain⟨o,O⟩:∃o,l[j]?=some o:=⟨l[j]'(by have:=F.len;omega),qs⟩
  have Z:l.drop j=o::l.drop (j+1):=by
   rw[fe (by have:=F.len;omega)]
   congr 1
   have:=(AC O).2;exact this
  rw[Z]at Y;have aa:=(IU F.loc qo O).1
  cases z:X' j with
  |true=>
   refine⟨U',X',G',a',W',λk=>?_,ah,H,al,Kv aa z O (H.rel j o qo O z) Y⟩
   by_cases e:k=j
   ·subst e;rw[z];simp
   ·rw[M k];congr 1;rw[decide_eq_decide];omega
  |false=>
   have hr:∀i',CE l.toArray n j i'=true->i'≠j->X' i'=true:=λi' hr ak=>by
    have:=OK F.deps n j i' qo hr;rw[M i']
    simp;omega
   have am:∀x,o.dst=some x->x<nt:=λx hx=>by
    have:=dt.1 hd o (AE O);rw[hx]at this;exact AD this
   have an:pC Γ l (DM X' j) n=pC Γ l X' n+Al Γ o:=Sh z O n qo;have aA:=pC_le (Γ:=Γ) (l:=l) (DM X' j) n;have:=wpL_pull (exec E F H aj al qo O z hr am qo (Uh aa Y) (K:=λ_ _=>∃U' X' G' a' W',(∀k,X' k=(X k||decide (k<j+1)))/\(∀k,X k=true->U' k=U k)/\Run tt Γ l n c t m U' X'/\Sat RD R0 w0 nt G' ⟨pT l U' X' t n,pM U' X' m n,cE,q+pC Γ l X' n⟩ a' W'/\vO tt Γ l c (l.drop (j+1)) (j+1) (pT l U' X' t (j+1)) (pM U' X' m (j+1)) kk) λv es G2 W2 J au _=>?_)
   ·exact this
   ·refine⟨EB U' j (v,es),DM X' j,G2,_,W2,λk=>?_,λk hk=>?_,J,by rw[an,<-eG];exact au,?_⟩
    ·by_cases e:k=j
     ·subst e;rw[Ce];simp
     ·rw[Bw e,M k];congr 1;rw[decide_eq_decide];omega
    ·have ak:k≠j:=λe=>by
      have:=M k;rw[hk,e,z]at this;cases this
     rw[Cr ak];exact ah k hk
    ·refine Kv aa Ce O (J.rel j o qo O Ce) ?_
     rw[Mc j AG,Me j AG];exact Y
theorem Rp(E:Env P RD tt Γ)(F:Fix l n c t m)(z:Run tt Γ l n c t m U X){cE q:Nat}(al:c+8*n<=cE)(hq:BS Γ l=0\/q+BS Γ l<=QM)(hd:Pg nt l=true)(hv:vO tt Γ l c l 0 t m kk)
  {G:Gh} {a:Act} {W:World} (hs:Sat RD R0 w0 nt G ⟨pT l U X t n,pM U X m n,cE,q+pC Γ l X n⟩ a W) {i:Nat} {o:Oper} (hi:i<n) (ho:l[i]?=some o) (hX:X i=false) (hr:∀J,CE l.toArray n i J=true->J≠i->X J=true):
  EO l (pT l U X t i) o=some false\/(EO l (pT l U X t i) o=some true/\∃vs k0,evs (pT l U X t i) (Bz o.op)=some vs/\opg tt Γ (c+8*i) o.op vs (GW (pM U X m i) (vs.flatMap Bc)) k0):=by
 obtain⟨U',X',G',a',W',O,M,Z,_,aa⟩:=think E F z al hq hd hv hs i qo
 have H:l.drop i=o::l.drop (i+1):=by
  rw[fe (by have:=F.len;omega)]
  congr 1
  exact(AC ho).2
 rw[H]at aa;have au:=(IU F.loc hi ho).1
 obtain⟨e1,e2,_⟩:=PW (U:=U) (X:=X) (U':=U') (X':=X') F hi ho (k:=i) (k':=i) qo qo λJ aC an=>by
  rcases an with⟨Y,aq⟩|⟨aB,_⟩
  ·have hx:=hr J aq qo
   exact⟨⟨λh=>⟨Y,by rw[O J,hx];rfl⟩,λh=>⟨Y,hx⟩⟩,λ_ h=>(M J h).symm⟩
  ·exact⟨⟨λh=>absurd h.1 qo,λh=>absurd h.1 qo⟩,λh=>absurd h qo⟩
 rcases Uh au aa with h|⟨h1,vs,k0,h2,h3⟩
 ·exact .inl (e1.trans h)
 ·have ae:=e2.trans h2
  refine .inr ⟨e1.trans h1,vs,k0,ae,?_⟩;rw[JS (m:=pM U X m i) (m':=pM U' X' m i) _ λx hx=>?_]
  ·exact h3
  ·have go:∀x b,lk (pM U X m i) x=some b->lk (pM U X m i) x=lk (pM U' X' m i) x:=λx b hb=>by
    rw[hb];refine((EU F.m0 (Z.aZ F) qo).2 (((EU F.m0 (z.aZ F) qo).1 hb).imp id λ⟨j,h1,h2,h3⟩=>⟨j,h1,?_,?_⟩)).symm
    ·rw[O j,h2];rfl
    ·rw[M j h2];exact h3
   obtain⟨b,hb⟩:=Ls (λx v hv=>z.cI F qo hv) _ _ ae x hx;refine⟨go x b hb,λb' aj y hy=>?_⟩;obtain⟨b2,ak⟩:=z.dc F qo aj y hy;exact go y b2 ak
end
section
variable {P:Program} {RD:(Nat->Prop)->World->Nat->Nat->Prop} {w0:World} {R0:Ro} {nt:Nat} {tt:List TE} {Γ:List (Nat × Nat × Ct)} {l:List Oper} {U:Nat->Value × AW} {X:Nat->Bool} {t:Tm} {m:AW} {c n:Nat} {kk:Tm->AW->Prop}
theorem Sat.drew(E:Env P RD tt Γ){G:Gh}{a:Act}{w:World}{s:St}(h:Sat RD R0 w0 nt G s a w):Sat RD R0 w0 nt G s a {w with drawn:=w.drawn+1}:=by
 refine⟨h.ci,h.bX,h.tmp,λi b hb=>⟨(h.mem i b hb).1,?_,(h.mem i b hb).2.2⟩,h.bO,h.z3,⟨h.fr.os,h.fr.tape,h.fr.output,h.fr.size,h.fr.block⟩,h.rb,h.rl,h.bD,h.al,h.sz⟩;have H:=(h.mem i b hb).2.1;refine⟨H.k0,λJ j Y=>?_,λM=>?_,λO=>?_,λW=>?_,H.kk⟩
 ·obtain⟨g,o,el,F,z,e3,e4⟩:=H.k1 J j Y
  exact⟨g,o,el,F,z,e3,e4.step z (λ_ h=>h) (λ_ _=>rfl)⟩
 ·obtain⟨g,o,F,z,e4⟩:=H.k2 M
  exact⟨g,o,F,z,e4.step z (λ_ h=>h) (λ_ _=>rfl)⟩
 ·obtain⟨g,els,F,z,e3,e4,e5⟩:=H.k3 O
  exact⟨g,els,F,z,e3,e4,e5.step rfl (λ_ h=>h) (λ_ _=>rfl)⟩
 ·obtain⟨g,F,z,e3⟩:=H.k4 W
  exact⟨g,F,z,E.rd _ _ _ _ _ _ _ e3 (λ_ h=>h) rfl (λ_ _=>rfl) AG⟩
theorem chain(F:Fix l n c t m)(M:Run tt Γ l n c t m U X)(hv:vO tt Γ l c l 0 t m kk):∀j,j<=n->(∀i,i<j->X i=true)->vO tt Γ l c (l.drop j) j (pT l U X t j) (pM U X m j) kk
 |0,_,_=>hv
 |j+1,Y,J=>by
  have O:=chain F M hv j qo λi W=>J i qo
  obtain⟨o,H⟩:∃o,l[j]?=some o:=⟨l[j]'(by have:=F.len;omega),qs⟩
  have z:l.drop j=o::l.drop (j+1):=by
   rw[fe (by have:=F.len;omega)]
   congr 1
   exact(AC H).2
  rw[z]at O;exact Kv (IU F.loc qo H).1 (J j qo) H (M.rel j o qo H (J j qo)) O
theorem Se:∀k,pT l U (λ_=>false) t k=t
 |0=>rfl
 |k+1=>Se k
theorem Sf:∀k,pM U (λ_=>false) m k=m
 |0=>rfl
 |k+1=>Sf k
theorem pC_nil:∀k,pC Γ l (λ_=>false) k=0
 |0=>rfl
 |k+1=>by unfold pC;rw[pC_nil k];rfl
theorem pC_all(h:∀j,j<n->X j=true):∀k,k<=n->pC Γ l X k=BS Γ (l.take k)
 |0,_=>rfl
 |k+1,hk=>by
  unfold pC;rw[pC_all h k qo,ec,IX,h k qo]
  congr 1
  cases l[k]? with
  |none=>rfl
  |some o=>show Al Γ o=Al Γ o+0;omega
theorem drawn_ok(E:Env P RD tt Γ)(aj:P.follows .mixedOrders=true){ops:Array Oper}(n:Nat)(hB:Ax ops n=true)(hL:locB ops.toList n=true):Ut P RD tt Γ ops:=by
 intro R0 w0 nt id k s G a w hd hv Z;have ag:=hB;simp only[Ax,di,dS]at ag;obtain⟨⟨⟨⟨⟨hn,_⟩,_⟩,aD⟩,al⟩,_⟩:=ag;obtain⟨t,m,c,q⟩:=s
 have aO:(BS Γ ops.toList=0\/q+BS Γ ops.toList<=QM)/\vO tt Γ ops.toList c ops.toList 0 t m λt m=>k ⟨t,m,c+8*ops.toList.length,q+BS Γ ops.toList⟩:=by
  have h':(bif Nat.beq (BS Γ ops.toList) 0 then vO tt Γ ops.toList c ops.toList 0 t m λt m=>k ⟨t,m,c+8*ops.toList.length,q+BS Γ ops.toList⟩ else q+BS Γ ops.toList<=QM/\vO tt Γ ops.toList c ops.toList 0 t m λt m=>k ⟨t,m,c+8*ops.toList.length,q+BS Γ ops.toList⟩):=hv
  cases hb:Nat.beq (BS Γ ops.toList) 0 with
  |true=>rw[hb]at h';exact⟨.inl (dh hb),h'⟩
  |false=>rw[hb]at h';exact⟨.inr h'.1,h'.2⟩
 obtain⟨hq,aw⟩:=aO;clear hv;have ak:ops=ops.toList.toArray:=by simp
 generalize hl:ops.toList=l at *;subst ak;have ba:n<l.length:=by simpa using hn
 have F:Fix l n c t m:=⟨qo,hL,Mi al,aD,Z.bD,λi b hb=>(Z.mem i b hb).1,λx v hx=>(Z.tmp x v hx).2,λi b hb=>(Z.mem i b hb).2.2⟩;refine Ha n (λlisted a W=>∃U G,Run tt Γ l n c t m U (λj=>listed.getD j false)/\Sat RD R0 w0 nt G ⟨pT l U (λj=>listed.getD j false) t n,pM U (λj=>listed.getD j false) m n,c+8*l.length,q+pC Γ l (λj=>listed.getD j false) n⟩ a W) aj hB ?_ ?_ ?_
 ·have e:(λj=>(Array.replicate l.toArray.size false).getD j false)=λ_=>false:=funext λj=>getD_replicate_false _ _
  rw[e];refine⟨λ_=>(.tuple #[],[]),G,⟨λ_ _ _ _ h=>(by cases h),λ_ _ _ _ h=>(by cases h)⟩,?_⟩;rw[Se,Sf,pC_nil];exact(Z.bh (h64:=by have h1:64<=c:=Z.bD;show 64<=c+8*l.length;omega) λi b hb=>by have:=(Z.mem i b hb).1;show i<c+8*l.length;have:i<c:=this;omega).drew E
 ·intro listed a W i o ay hI hi ho aN O K hK
  obtain⟨U,G,z,H⟩:=hI;have J:l[i]?=some o:=by simpa using ho
  have au:i<listed.size:=by rw[ay.size];simp;omega
  have M:listed.getD i false=false:=by rw[<-aN];simp[au]
  have hr:∀i',CE l.toArray n i i'=true->i'≠i->listed.getD i' false=true:=λi' hr aH=>by
   obtain⟨f,hf⟩:∃f,n=f+1:=⟨n - 1,qo⟩;rw[hf]at hr;rcases fh.1 hr with h|h
   ·exact absurd (dh h).symm aH
   ·obtain⟨j,_,hj⟩:=fJ.1 h
    obtain⟨h1,h2⟩:=gJ.1 hj;exact GF ay f j i' h2 (O j h1)
  have aF:∀x,o.dst=some x->x<nt:=λx hx=>by
   have:=dt.1 hd o (AE J);rw[hx]at this;exact AD this
  have aJ:=Sh (Γ:=Γ) (X:=λj=>listed.getD j false) M J n hi;have a8:=pC_le (Γ:=Γ) (l:=l) (DM (λj=>listed.getD j false) i) n
  have eX:(λj=>(listed.setIfInBounds i true).getD j false)=DM (λj=>listed.getD j false) i:=funext λj=>by
   unfold DM
   by_cases e:j=i
   ·subst e;rw[dv rfl];simp[au]
   ·rw[dk e];exact gw false (Ne.symm e)
  refine exec E F z qo H hi J M hr aF qo (Rp E F z qo hq hd aw H hi J M hr) λv es G' W' Y aK _=>hK _ W' ⟨EB U i (v,es),G',?_,?_⟩
  ·rw[eX];exact Y
  ·rw[eX,aJ,<-eG];exact aK
 ·intro a W hI
  obtain⟨U,G,z,H⟩:=hI
  have hX:∀j,j<n->(CF l.toArray n).getD j false=true:=λj hj=>by
   unfold CF;rw[fO,Array.getElem?_ofFn,dif_pos qp];simp[hj]
  have aQ:=chain F z aw n AG hX;have aB:=pC_all (Γ:=Γ) (l:=l) hX n AG;have aq:BS Γ l=BS Γ (l.take n)+BS Γ (l.drop n):=by rw[<-IX,fM]
  rw[aB]at H
  have aM:=H.bh (c':=c+8*n) (h64:=by have af:=F.bD;omega) λi b hb=>by
   rcases Fx n i b hb with h1|⟨j,hj,aA,h1⟩
   ·have:=F.m0 i b h1;omega
   ·have:=z.aZ F j hj aA i b (Aw _ _ _ h1);omega
  refine JZ E (ops:=l) (l.drop n) n _ _ G a W _ ?_ aQ aM qo λt' m' G' a' w' hk an=>⟨rfl,_,G',hk,?_⟩
  ·exact dt.2 λo ho=>dt.1 hd o (eE ho)
  ·rw[show n+(l.drop n).length=l.length by simp;omega,eG,<-aq]at an
   exact an
end
end
end Go.Proofs.YtbceafpodamnfaaGreatDoor
