import Derived.Test.YtbceafpodamnfaaGreatDoorG20
import Derived.Test.YtbceafpodamnfaaGreatDoorG42
set_option linter.all false
set_option maxHeartbeats 4000000
set_option maxRecDepth 100000
namespace Go.Proofs.YtbceafpodamnfaaGreatDoor
section
open Go.RowKit
section
variable {P:Program} {RD:(Nat->Prop)->World->Nat->Nat->Prop} {w0:World} {R0:Ro} {nt:Nat} {tt:List TE} {Γ:List (Nat × Nat × Ct)} {l:List Oper} {U:Nat->Value × AY} {X:Nat->Bool} {t:Tm} {m:AY} {c n p:Nat} {kk:Tm->AY->Prop}
theorem Qr{ops:Array Oper}{o:Oper}{a:Act}{w:World}{K M:Act->World->Prop}(Z:∀J w',K J w'->J.defers=[])(F:∀v w',K (a.put o.dst v) w'->M (a.put o.dst v) w')(h:wpList P ops (Cj K) [o] a w):wpList P ops (Cj M) [o] a w:=by
  unfold wpList at h ⊢;split at h
  · rename_i W
    rw[dB W];rcases h with h|⟨_,J,w',h⟩
    · refine .inl ?_
      have H:o.wp P a w (λJ w'=>K J w') (Cj K):=h;show o.wp P a w (λJ w'=>M J w') (Cj M);unfold Oper.wp Oper.upon at H ⊢;split at H
      · exact F _ _ H
      · exact F _ _ H
      · exfalso
        have:=Z _ _ H;cases Y:o.dst<;>(rw[Y]at this;cases this)
      · refine Calls.mono H λe w' h=>?_
        cases e with
        |returned v=>exact F _ _ h
        |panicked c=>exact False.elim h
        |outgrown=>obtain⟨_,_,h⟩:=h;exact False.elim h
      · exact Rows.mono H λv w' h=>F _ _ h
      · exact False.elim H
      · exact H.elim
    · exact False.elim h
  · rename_i W
    rw[dC W];exact F _ _ h
theorem ML{i:Nat}:C0 U i (U i)=U:=funext λj=>by
  unfold C0;split
  · rename_i h;rw[h]
  · rfl
theorem Py{k:Nat}(h:k<=n):pT l U (CI X n) t k=pT l U X t k:=by
  have:=Ht (l:=l) (U:=U) (X:=X) (t:=t) (i:=n) (p:=U n) k h
  rwa [ML]at this
theorem NO{k:Nat}(h:k<=n):pM U (CI X n) m k=pM U X m k:=by
  have:=Hu (U:=U) (X:=X) (m:=m) (i:=n) (p:=U n) k h
  rwa [ML]at this
theorem Run.far(h:Run tt Γ l n c t m U X)(F:Fix l n c t m):Run tt Γ l n c t m U (CI X n):=by
  refine⟨λq i W M H=>?_,λj o Z Y H=>?_⟩
  · have:=Gk F.cM n q i W M
    rw[BE (by omega)]at H ⊢;exact h.cl q i W M H
  · rw[BE (by omega)]at H
    have J:=h.rel j o Z Y H;refine⟨?_,?_,?_⟩
    · rw[Py (by omega),NO (by omega)];exact J.r
    · rw[NO (by omega)];exact J.cv
    · rw[NO (by omega)];exact J.ce
theorem NL{v:Value}(F:X p=false):∀k,pM (C0 U p (v,[])) (CI X p) m k=pM U X m k
  |0=>rfl
  |k+1=>by
    unfold pM;rw[NL F k]
    by_cases e:k=p
    · subst e;rw[Bp,BH,F];rfl
    · rw[BE e,CB e]
theorem Dk{o:Oper}(h:o.guard=none):DR l t o=some true:=by unfold DR;rw[h]
theorem Mj (F : Fix l n c t m) (h : Run tt Γ l n c t m U X) (hv : vO tt Γ l c l 0 t m kk) {ox : Oper} {x kx : Nat} (aa : p < n) (hx : l[p]? = some ox) (J : ox.op = .extract (.tmp x) kx) (ai : ox.guard = none) (hX : X p = false) (M : ∀ j, j < n -> j ≠ p -> X j = true) :
    ∃us v,lk (pT l U X t n) x=some (.tuple us)/\us[kx]?=some v/\FB v=true/\Run tt Γ l n c t m (C0 U p (v,[])) (CI X p):=by
  have hc:=M2 F h hv p (by omega) λi hi=>M i (by omega) (by omega)
  have Y:l.drop p=ox::l.drop (p+1):=by
    rw[eH (by have:=F.len;omega)]
    congr 1
    exact(AC hx).2
  rw[Y]at hc
  obtain⟨_,e2,e3⟩:=KM (U:=U) (X:=X) (U':=U) (X':=X) F aa hx (k:=p) (k':=n) (by omega) (by omega) λi' ah an=>by
    refine⟨⟨λh=>⟨ah,h.2⟩,λh'=>⟨?_,h'.2⟩⟩,λ_ _=>rfl⟩;rcases an with h1|⟨_,aq⟩
    · exact h1.1
    · have:=h.cl i' p ah aq h'.2;rw[hX]at this;cases this
  rcases KU (by rw[J];rfl) hc with h1|⟨_,vs,k0,W,h3⟩
  · rw[Dk ai]at h1;cases h1
  rw[J]at W h3;have hl:=e3 x (by rw[J];exact dt.2 (.inl (cZ.2 rfl)));change (match lk (pT l U X t p) x with|some v=>_|none=>_)=_ at W
  cases H:lk (pT l U X t p) x with
  |none=>rw[H]at W;cases W
  |some v0=>
  rw[H]at W;cases W
  have au:∃us v,v0=.tuple us/\us[kx]?=some v/\FB v=true:=by
    cases v0 with
    |tuple us=>
      change (match us[kx]? with|some v=>bif FB v then k0 v [] else False|none=>False) at h3
      cases Z:us[kx]? with
      |none=>rw[Z]at h3;exact h3.elim
      |some v=>
        rw[Z]at h3
        cases hb:FB v with
        |false=>simp only[hb,cond_false]at h3
        |true=>exact⟨us,v,rfl,Z,hb⟩
    |_=>exact False.elim h3
  obtain⟨us,v,rfl,Z,hb⟩:=au;refine⟨us,v,by rw[<-hl,H],Z,hb,h.cR F aa hx hX (λi' hr av=>M i' (by have:=Gk F.cM n p i' aa hr;omega) av) ⟨.inr ⟨Dk ai,[.tuple us],?_,λk hk=>?_⟩,?_,?_⟩⟩
  · rw[Ht p (AG _),J]
    show(match lk (pT l U X t p) x with|some v=>_|none=>_)=_;rw[H];rfl
  · rw[J]at hk
    rw[BH];change (match us[kx]? with|some v=>bif FB v then k v [] else False|none=>False) at hk;simp only[Z,hb,eD]at hk;exact hk
  · rw[BH,Hu p (AG _)]
    have ar:=h.cn F (k:=p) (by omega) H;intro i hi;rcases Iu v with⟨_,rfl⟩|⟨_,W⟩
    · cases hb
    · rw[W]at hi
      exact ar i (dR.2 ⟨v,by rw[iT];exact Array.mem_of_getElem? Z,hi⟩)
  · rw[BH]
    exact λi b hi=>(nomatch hi)
theorem JC (F : Fix l n c t m) (h : Run tt Γ l n c t m U X) (hv : vO tt Γ l c l 0 t m kk) {os oa : Oper} {pa T Ta d y : Nat} (hn : l[n]? = some os) (au : os.op = .store T (.tmp d) (.tmp y)) (av : os.guard = none) (aw : os.dst = none) (W : pa < n) (ha : l[pa]? = some oa) (ag : oa.op = .alloc Ta) (ak : oa.guard = none) (an : oa.dst = some d) (M : ∀ j, j < n -> X j = true) :
    ∃vs cm,evs (pT l U X t n) (BT os.op)=some vs/\stv tt os.op vs (pM U X m n)=some cm/\vO tt Γ l c (l.drop (n+1)) (n+1) (pT l U X t n) cm.2 kk:=by
  have ah:∀{j:Nat} {o:Oper},l[j]?=some o->l.drop j=o::l.drop (j+1):=λ{j o} ho=>by
    rw[eH (AC ho).1]
    congr 1
    exact(AC ho).2
  have J:=M2 F h hv pa (by omega) λi hi=>M i (by omega)
  rw[ah ha]at J
  have hU:∃fk i off,(U pa).1=.complex fk i off:=by
    rcases KU (by rw[ag];rfl) J with h1|⟨_,vs,k0,h2,h3⟩
    · rw[Dk ak]at h1;cases h1
    rcases(h.rel pa oa W ha (M pa W)).r with⟨h1,_⟩|⟨_,vs',h4,h5⟩
    · rw[Dk ak]at h1;cases h1
    rw[ag]at h2 h3 h4 h5;cases h2;cases h4;refine h5 (λv _=>∃fk i off,v=.complex fk i off) ?_;change (match tyo tt Ta with|some e=>bif e.zero.all noV then k0 _ _ else False|none=>False) at h3;show(match tyo tt Ta with|some e=>bif e.zero.all noV then _ else False|none=>False)
    cases aa:tyo tt Ta with
    |none=>rw[aa]at h3;exact h3.elim
    |some e=>
      rw[aa]at h3
      cases hz:e.zero.all noV with
      |false=>simp only[hz,cond_false]at h3
      |true=>simp only[hz,eD];exact⟨_,_,_,rfl⟩
  obtain⟨fk,i,off,hU⟩:=hU
  have hd:lk (pT l U X t n) d=some (.complex fk i off):=by
    rw[<-hU];have Z:BR l pa=some d:=by unfold BR;rw[ha];exact an
    exact Gn n W (M pa W) Z λi' ax ay h'=>F.aQ pa i' d W ax (Ne.symm ay) Z h'
  have J:=M2 F h hv n (AG _) M;rw[ah hn]at J;unfold vO at J;rw[Dk av]at J;simp only[]at J;split at J
  · rename_i vs H
    split at J
    · rename_i cm Y
      rw[Gt,aw]at J;exact⟨vs,cm,H,Y,J⟩
    · rename_i Y
      exfalso
      rw[au]at H J Y;change (match lk (pT l U X t n) d with|some v=>_|none=>_)=_ at H;rw[hd]at H;change (match (match lk (pT l U X t n) y with|some v=>some [v]|none=>none) with|some l=>_|none=>_)=_ at H
      cases hy:lk (pT l U X t n) y with
      |none=>rw[hy]at H;cases H
      |some v2=>
        rw[hy]at H;cases H;exact J
  · exact J.elim
theorem Os(F:Fix l n c t m){os ox:Oper}{T d y e:Nat}{q:Value × AY}(W:os.op=.store T (.tmp d) (.tmp y))(hx:l[p]?=some ox)(Y:ox.dst=some e)(M:e≠d)(Z:e≠y):evs (pT l U X t n) (BT os.op)=evs (pT l (C0 U p q) (CI X p) t n) (BT os.op):=by
  refine JG _ λz hz=>Ma F.aQ (AG _) (AG _) λj hj H=>?_
  have J:j≠p:=λe'=>by
    subst e';have:BR l j=some e:=by unfold BR;rw[hx];exact Y
    rw[this]at H;cases H;rw[W]at hz;rcases dy.1 (show e∈[d,y] from hz) with h|h
    · exact M h
    · exact Z (cZ.1 h)
  rw[BE J,CB J];exact⟨Iff.rfl,λ_ _=>rfl⟩
theorem late_sv (F : Fix l n c t m) (h : Run tt Γ l n c t m U X) (hv : vO tt Γ l c l 0 t m kk) {os oa ox : Oper} {pa T Ta d y x kx e : Nat} (hn : l[n]? = some os) (J : os.op = .store T (.tmp d) (.tmp y)) (Z : os.guard = none) (af : os.dst = none) (Y : pa < n) (ha : l[pa]? = some oa) (aa : oa.op = .alloc Ta) (ag : oa.guard = none) (M : oa.dst = some d)
    (au:p<n) (hx:l[p]?=some ox) (ax:ox.op=.extract (.tmp x) kx) (aw:ox.guard=none) (am:ox.dst=some e) (al:e≠d) (an:e≠y) (H:∀j,j<n->j≠p->X j=true):
    ∃vs W,evs (pT l U X t n) (BT os.op)=some vs/\stv tt os.op vs (pM U X m n)=some W:=by
  cases hX:X p with
  |true=>
    obtain⟨vs,W,h1,h2,_⟩:=JC F h hv hn J Z af Y ha aa ag M λj hj=>if e:j=p then e▸hX else H j hj e
    exact⟨vs,W,h1,h2⟩
  |false=>
    obtain⟨us,v,_,_,_,hr⟩:=Mj F h hv au hx ax aw hX H;obtain⟨vs,W,h1,h2,_⟩:=JC F hr hv hn J Z af Y ha aa ag M λj hj=>if e:j=p then e▸Bp else by rw[BE e];exact H j hj e
    rw[NL hX]at h2;exact⟨vs,W,(Os F J hx am al an).trans h1,h2⟩
theorem late_ok (E : Env P RD tt Γ) (bN : P.follows .mixedOrders = true) {os oa ox : Oper} {pa T Ta d y x kx e : Nat} (cr : l.length = n + 2) (hn : l[n]? = some os) (aA : os.op = .store T (.tmp d) (.tmp y)) (aT : os.guard = none) (a5 : os.dst = none) (bR : pa < n) (ha : l[pa]? = some oa) (br : oa.op = .alloc Ta) (bo : oa.guard = none) (bO : oa.dst = some d)
    (aw:p<n) (hx:l[p]?=some ox) (ax:ox.op=.extract (.tmp x) kx) (aS:ox.guard=none) (bB:ox.dst=some e) (bH:e≠d) (bM:e≠y) (cb:∀j,j<n->j≠p->Bf l.toArray (n+1) n j=true)
    (hB:Ap l.toArray (n+1)=true) (hL:Oo l n=true) (b6:EL .any l.toArray n=true) (bI:Cs l.toArray n=true):KX P RD tt Γ l.toArray:=by
  intro R0 w0 nt id k s G a w hd hv hs
  replace hd:KA nt l=true:=hd
  obtain⟨t,m,c,q⟩:=s
  have cd:(Au Γ l=0\/q+Au Γ l<=QM)/\vO tt Γ l c l 0 t m λt m=>k ⟨t,m,c+8*l.length,q+Au Γ l⟩:=by
    have h':(bif Nat.beq (Au Γ l) 0 then vO tt Γ l c l 0 t m λt m=>k ⟨t,m,c+8*l.length,q+Au Γ l⟩ else q+Au Γ l<=QM/\vO tt Γ l c l 0 t m λt m=>k ⟨t,m,c+8*l.length,q+Au Γ l⟩):=hv
    cases hb:Nat.beq (Au Γ l) 0 with
    |true=>rw[hb]at h';exact⟨.inl (cX hb),h'⟩
    |false=>rw[hb]at h';exact⟨.inr h'.1,h'.2⟩
  obtain⟨hq,aC⟩:=cd;clear hv;have F:Fix l n c t m:=⟨by omega,hL,Hv bI,b6,hs.bi,λi b hb=>(hs.mem i b hb).1,λx v hx=>(hs.tmp x v hx).2,λi b hb=>(hs.mem i b hb).2.2⟩;have a8:Af Γ os=0:=by simp[Af,aA]
  have a9:Af Γ ox=0:=by simp[Af,ax]
  have b3:∀{i:Nat} {o:Oper},l[i]?=some o->∀x,o.dst=some x->x<nt:=λM x hx=>by
    have:=dh.1 hd _ (AE M);rw[hx]at this;exact AD this
  have bq:∀{i:Nat} {o:Oper},l[i]?=some o->KA nt [o]=true:=λM=>dh.2 λo' ho=>by
    rw[cZ.1 ho];exact dh.1 hd _ (AE M)
  refine FC (n+1) (λH a W=>∃U G,Run tt Γ l n c t m U (λj=>H.getD j false)/\
    ((H.getD n false=false/\Sat RD R0 w0 nt G ⟨pT l U (λj=>H.getD j false) t n,pM U (λj=>H.getD j false) m n,c+8*l.length,q+pC Γ l (λj=>H.getD j false) n⟩ a W)\/
     (H.getD n false=true/\(∀j,j<n->j≠p->H.getD j false=true)/\∃vs cm,evs (pT l U (λj=>H.getD j false) t n) (BT os.op)=some vs/\stv tt os.op vs (pM U (λj=>H.getD j false) m n)=some cm/\
       Sat RD R0 w0 nt G ⟨pT l U (λj=>H.getD j false) t n,cm.2,c+8*l.length,q+pC Γ l (λj=>H.getD j false) n⟩ a W))) bN hB ?_ ?_ ?_
  · have e:(λj=>(Array.replicate l.toArray.size false).getD j false)=λ_=>false:=funext λj=>getD_replicate_false _ _
    rw[e];refine⟨λ_=>(.tuple #[],[]),G,⟨λ_ _ _ _ h=>(by cases h),λ_ _ _ _ h=>(by cases h)⟩,.inl ⟨getD_replicate_false _ _,?_⟩⟩;rw[NJ,NM,P0];exact(hs.aY (h64:=by have h1:64<=c:=hs.bi;show 64<=c+8*l.length;omega) λi b hb=>by have:=(hs.mem i b hb).1;show i<c+8*l.length;have:i<c:=this;omega).drew E
  · intro H a W i o bz hI hi ho cc aW K hK
    obtain⟨U,G,Z,hI⟩:=hI;have M:l[i]?=some o:=by simpa using ho
    have a7:i<H.size:=by rw[bz.size];simp;omega
    have ag:H.getD i false=false:=by rw[<-cc];simp[a7]
    have hr:∀f i',Bf l.toArray f i i'=true->i'≠i->H.getD i' false=true:=λf i' hr J=>by
      cases f with
      |zero=>exact absurd (cX hr).symm J
      |succ f=>
        rcases eN.1 hr with h|h
        · exact absurd (cX h).symm J
        · obtain⟨j,_,hj⟩:=fm.1 h
          obtain⟨h1,h2⟩:=gJ.1 hj;exact Dx bz f j i' h2 (aW j h1)
    have eX:(λj=>(H.setIfInBounds i true).getD j false)=CI (λj=>H.getD j false) i:=funext λj=>by
      unfold CI
      by_cases e:j=i
      · subst e;rw[dB rfl];simp[a7]
      · rw[dC e];exact fQ false (Ne.symm e)
    have bY:∀{b},i≠n->H.getD n false=b->(H.setIfInBounds i true).getD n false=b:=λJ h=>(fQ false J).trans h
    have bt:∀{i:Nat} {o:Oper},H.getD i false=false->l[i]?=some o->i<n->pC Γ l (CI (λj=>H.getD j false) i) n=pC Γ l (λj=>H.getD j false) n+Af Γ o:=λhX M aq=>NP (Γ:=Γ) (X:=λj=>H.getD j false) hX M n aq
    rcases hI with⟨al,Y⟩|⟨al,af,vs,cm,ar,ai,Y⟩
    · by_cases aq:i=n
      · subst aq
        rw[hn]at M;cases M;have af:∀j,j<i->j≠p->H.getD j false=true:=λj hj J=>hr (i+1) j (cb j hj J) (by omega)
        obtain⟨vs,cm,ar,ai⟩:=late_sv F Z aC hn aA aT a5 bR ha br bo bO aw hx ax aS bB bH bM af;obtain⟨_,_,_,_,ii,_,_,b,_,_,_,hb,_,_,_,_,_,aK⟩:=Pm ai;refine Qr (K:=λa' w'=>a'.defers=[]/\∃G',Sat RD R0 w0 nt G' ⟨pT l U (λj=>H.getD j false) t i,cm.2,c+8*l.length,q+pC Γ l (λj=>H.getD j false) i⟩ a' w') (λ_ _ h=>h.1) (λv w' ⟨_,G',h⟩=>hK v w' ⟨U,G',?_,.inr ⟨by simp[a7],λj hj J=>?_,vs,cm,?_,?_,?_⟩⟩) ?_
        · rw[eX];exact Z.far F
        · rw[fQ false (by omega)];exact af j hj J
        · rw[eX,Py (AG _)];exact ar
        · rw[eX,NO (AG _)];exact ai
        · rw[eX,Py (AG _),Pz _ (AG _)];exact h
        · refine Eg E (ops:=l) (c:=c+8*l.length) (k:=λt' m'=>t'=pT l U (λj=>H.getD j false) t i/\m'=cm.2) [os] 0 _ _ G a W _ (bq hn) ?_ Y (.inl (show Af Γ os+0=0 by rw[a8])) λt' m' G' a' w' hk ah=>?_
          · unfold vO
            rw[Dk aT];simp only[ar,ai];rw[Gt,a5];exact⟨rfl,rfl⟩
          · obtain⟨rfl,rfl⟩:=hk
            refine⟨ah.bO,G',?_⟩
            have ay:=ah.aY (c':=c+8*l.length) (h64:=by have:=Y.bi;exact this) λj b' aa=>by
              rw[aK]at aa;rw[FF _ _ _ _ _ hb]at aa
              by_cases e:j=ii
              · subst e;exact(Y.mem _ _ hb).1
              · rw[dC e]at aa;exact(Y.mem _ _ aa).1
            rw[show Au Γ [os]=0 from(show Af Γ os+0=0 by rw[a8])]at ay;exact ay
      · have av:i<n:=by omega
        have cz:=pC_le (Γ:=Γ) (l:=l) (CI (λj=>H.getD j false) i) n;have hp:=bt ag M av;refine exec E F Z (by omega) Y av M ag (hr n) (b3 M) (by omega) (La E F Z (by omega) hq hd aC Y av M ag (hr n)) λv es G' W' ak cf _=>hK _ W' ⟨C0 U i (v,es),G',?_,.inl ⟨bY aq al,?_⟩⟩
        · rw[eX];exact ak
        · rw[eX,hp,<-eq];exact cf
    · have aq:i≠n:=λe=>by rw[e,al]at ag;cases ag
      have b5:i=p:=Classical.byContradiction λe=>by have:=af i (by omega) e;rw[ag]at this;cases this
      subst b5;rw[hx]at M;cases M;obtain⟨us,v,ca,hu,hb,ak⟩:=Mj F Z aC aw hx ax aS ag af;have hp:=bt ag hx aw;refine Qr (K:=λa' w'=>a'.defers=[]/\∃G',Sat RD R0 w0 nt G' ⟨ER ox.dst v (pT l U (λj=>H.getD j false) t n),cm.2,c+8*l.length,q+pC Γ l (λj=>H.getD j false) n⟩ a' w') (λ_ _ h=>h.1) (λv' w' ⟨_,G',h⟩=>hK v' w' ⟨C0 U i (v,[]),G',?_,.inr ⟨bY aq al,λj hj J=>?_,vs,cm,?_,?_,?_⟩⟩) ?_
      · rw[eX];exact ak
      · rw[fQ false (Ne.symm J)];exact af j hj J
      · rw[eX,<-Os F aA hx bB bH bM];exact ar
      · rw[eX,NL ag];exact ai
      · rw[eX,hp,a9]
        refine h.congr (λz=>?_) λ_=>rfl
        rw[Gm];have aL:BR l i=ox.dst:=by unfold BR;rw[hx];rfl
        by_cases ez:ox.dst=some z
        · rw[dB ez,Gn n aw Bp (aL.trans ez) λi' av J h'=>F.aQ i i' z aw av (Ne.symm J) (aL.trans ez) h',BH]
        · rw[dC ez]
          refine Ma F.aQ (AG _) (AG _) λj hj b8=>?_
          have J:j≠i:=λe'=>by subst e';exact ez (aL.symm.trans b8)
          rw[BE J,CB J];exact⟨Iff.rfl,λ_ _=>rfl⟩
      · refine Eg E (ops:=l) (c:=c+8*l.length) (k:=λt' m'=>t'=ER ox.dst v (pT l U (λj=>H.getD j false) t n)/\m'=cm.2) [ox] 0 _ _ G a W _ (bq hx) ?_ Y (.inl (show Af Γ ox+0=0 by rw[a9])) λt' m' G' a' w' hk ah=>?_
        · unfold vO
          rw[Dk aS]
          have b2:evs (pT l U (λj=>H.getD j false) t n) (BT ox.op)=some [.tuple us]:=by
            rw[ax];show(match lk (pT l U (λj=>H.getD j false) t n) x with|some v=>_|none=>_)=_;rw[ca];rfl
          simp only[b2];rw[ax];show(match us[kx]? with|some v=>bif FB v then _ else False|none=>False);simp only[hu,hb,eD];exact⟨rfl,rfl⟩
        · obtain⟨rfl,rfl⟩:=hk
          refine⟨ah.bO,G',?_⟩;have ay:=ah.aY (c':=c+8*l.length) (h64:=by have:=Y.bi;exact this) λj b' aa=>(Y.mem _ _ aa).1
          rw[show Au Γ [ox]=0 from(show Af Γ ox+0=0 by rw[a9])]at ay;exact ay
  · intro a W hI
    obtain⟨U,G,Z,hI⟩:=hI
    have hX:∀j,j<n+1->(Br l.toArray (n+1)).getD j false=true:=λj hj=>by
      unfold Br;rw[eA,iY,dif_pos (by simp;omega)];simp[hj]
    rcases hI with⟨al,_⟩|⟨_,_,vs,cm,ar,ai,Y⟩
    · rw[hX n (by omega)]at al;cases al
    obtain⟨cK,cM,aI,aG,ch⟩:=JC F Z aC hn aA aT a5 bR ha br bo bO λj hj=>hX j (by omega)
    rw[ar]at aI;cases aI;rw[ai]at aG;cases aG;have b9:=P1 (Γ:=Γ) (l:=l) (λj (hj:j<n)=>hX j (by omega)) n (AG _);have bx:Au Γ l=Au Γ (l.take n)+Au Γ (l.drop n):=by rw[<-Fb,eY]
    have bm:Au Γ (l.drop n)=Au Γ (l.drop (n+1)):=by
      rw[eH (by omega),(AC hn).2];show Af Γ os+_=_;rw[a8,dJ]
    rw[b9]at Y;obtain⟨_,_,_,_,ii,_,_,b,_,_,_,hb,_,_,_,_,_,aK⟩:=Pm ai
    have aH:∀i b,lk (pM U (λj=>(Br l.toArray (n+1)).getD j false) m n) i=some b->i<c+8*(n+1):=λi b hb=>by
      rcases ES n i b hb with h1|⟨j,hj,b7,h1⟩
      · have:=F.m0 i b h1;omega
      · have:=Z.aU F j hj b7 i b (Aj _ _ _ h1);omega
    have cg:=Y.aY (c':=c+8*(n+1)) (h64:=by have aE:=F.bi;omega) λi b' aa=>by
      rw[aK]at aa;rw[FF _ _ _ _ _ hb]at aa
      by_cases e:i=ii
      · subst e;exact aH _ _ hb
      · rw[dC e]at aa;exact aH _ _ aa
    refine Eg E (ops:=l) (l.drop (n+1)) (n+1) _ _ G a W _ ?_ ch cg (by omega) λt' m' G' a' w' hk ah=>⟨rfl,_,G',hk,?_⟩
    · exact dh.2 λo ho=>dh.1 hd o (ep ho)
    · rw[show n+1+(l.drop (n+1)).length=l.length by simp;omega,eq,<-bm,<-bx]at ah
      exact ah
end
def lateB(l:List Oper):Bool:=
  match l[l.length - 2]?,l[l.length - 3]?,l[l.length - 4]? with
  |some ⟨none,.store _ (.tmp d) (.tmp y),_,_,_,none⟩,some ⟨some d',.alloc _,_,_,_,none⟩,some ⟨some e,.extract (.tmp _) _,_,_,_,none⟩=>
    Nat.beq d' d&&(!Nat.beq e d&& !Nat.beq e y)&&Nat.ble 4 l.length&&(List.range (l.length - 2)).all (λj=>Nat.beq j (l.length - 4)||Bf l.toArray (l.length - 1) (l.length - 2) j)
    &&Ap l.toArray (l.length - 1)&&Oo l (l.length - 2)&&EL .any l.toArray (l.length - 2)&&Cs l.toArray (l.length - 2)
  |_,_,_=>false
theorem lateB_ok{P:Program}{RD:(Nat->Prop)->World->Nat->Nat->Prop}{tt:List TE}{Γ:List (Nat × Nat × Ct)}(E:Env P RD tt Γ)(F:P.follows .mixedOrders=true){l:List Oper}(h:lateB l=true):KX P RD tt Γ l.toArray:=by
  unfold lateB at h;split at h
  · rename_i hn Z hx
    simp only[cY,eR]at h;obtain⟨⟨⟨⟨⟨⟨⟨h1,h2,h3⟩,Y⟩,M⟩,W⟩,h7⟩,h8⟩,h9⟩:=h;have Y:=AD Y;cases cX h1;have H:∀{a b:Nat},Nat.beq a b=false->a≠b:=λh e=>by rw[e,show Nat.beq _ _=true from by simp]at h;cases h
    have e1:l.length - 1=(l.length - 2)+1:=by omega
    rw[e1]at M W;refine late_ok (n:=l.length - 2) (pa:=l.length - 3) (p:=l.length - 4) E F (by omega) hn rfl rfl rfl (by omega) Z rfl rfl rfl (by omega) hx rfl rfl rfl (H h2) (H h3) (λj hj J=>?_) W h7 h8 h9;have:=dh.1 M j (dA.2 hj);rcases eN.1 this with h|h
    · exact absurd (cX h) J
    · exact h
  · cases h
def Hh(Ρ:Sp)(nt:Nat):Code->Bool
  | .region i ops d=>(lk Ρ i).isSome||KA nt ops.toList&&(!d||(Ap ops (gn ops.toList)&&Oo ops.toList (gn ops.toList))||lateB ops.toList)
  | .seq x y=>Hh Ρ nt x&&Hh Ρ nt y
  | .cond _ x y=>Hh Ρ nt x&&Hh Ρ nt y
  | .block _ c=>Hh Ρ nt c
  | .loop c=>Hh Ρ nt c
  |_=>true
theorem Ez{P:Program}{RD:(Nat->Prop)->World->Nat->Nat->Prop}{tt:List TE}{Γ:List (Nat × Nat × Ct)}(E:Env P RD tt Γ)(F:P.follows .mixedOrders=true){Ρ:Sp}{nt:Nat}:∀c:Code,SpAll P RD Ρ nt c->Hh Ρ nt c=true->CA P RD tt Γ Ρ nt c
  | .region i ops d,H,h=>by
    unfold Hh at h;unfold CA;split
    · rename_i C hC
      exact H i C hC (ops,d) (by unfold L0;rw[show Nat.beq i i=true from by simp];exact cZ.2 rfl)
    · rename_i hC
      rw[hC]at h;simp only[Option.isSome_none,ir,cY,dY,eR]at h;refine⟨h.1,λW=>?_⟩;rcases h.2 with(M|M)|M
      · rw[W]at M;cases M
      · exact PA E F _ M.1 M.2
      · exact lateB_ok E F M
  | .seq x y,H,h=>by
    unfold Hh at h;simp only[cY]at h;exact⟨Ez E F x (λi C hC p J=>H i C hC p (dt.2 (.inl J))) h.1,Ez E F y (λi C hC p J=>H i C hC p (dt.2 (.inr J))) h.2⟩
  | .cond _ x y,H,h=>by
    unfold Hh at h;simp only[cY]at h;exact⟨Ez E F x (λi C hC p J=>H i C hC p (dt.2 (.inl J))) h.1,Ez E F y (λi C hC p J=>H i C hC p (dt.2 (.inr J))) h.2⟩
  | .block _ c,H,h=>Ez E F c H h
  | .loop c,H,h=>Ez E F c H h
  | .skip,_,_| .rangeFunc ..,_,_| .exit _,_,_| .scope _,_,_| .label _,_,_| .goto _,_,_| .ret,_,_| .refuse _,_,_=>trivial
def bkV4(B:Bk)(c1 c2 c3:Nat):List Value:=[.int .i64 B.aj,.iface 4 (.slice none B.af.length c1),.iface 5 (.slice none B.ah.length c2),.iface 6 (.slice none B.ak.length c3)]
def SS(B:Bk):AY:=[(4,A9 34 13 svL B.af),(5,A9 76 7 cpL B.ah),(6,A9 90 2 btL B.ak)]
abbrev Γn:List (Nat × Nat × Ct):=[(43,0,ctWS),(45,0,ctWC),(44,0,Mz)]
theorem LQ{RD:(Nat->Prop)->World->Nat->Nat->Prop}(F:B9 RD):Env Tryz.prog RD TT Γn:=AZ (AZ (AZ (Aw F) (by kernel_rfl) (QX F)) (by kernel_rfl) (wC_ct F)) (by kernel_rfl) (wS_ct F)
def mNh(B X:Bk)(A:AP)(c1 c2 c3 d1 d2 d3:Nat):AY:=(64,AT (D5 B c1 c2 c3) 28)::(72,AT (A.cs 3) 45)::(80,AT (bkV4 X d1 d2 d3) 28)::(bkM B++((3,A9 88 2 enL A.en)::SS X))
def SK:Exit->St->Prop:=λe s=>(e=.ret\/e=.normal)/\∃v,Lz TT Tryz.f12.results.toList s.t s.m=some v/\v=.bool true/\clo s.m (BS v)=true
abbrev Ρn:Sp:=[(4,H9 TT Γn (A8 4 (Tryz.f12.body.getD .skip))),(6,H9 TT Γn (A8 6 (Tryz.f12.body.getD .skip))),(8,H9 TT Γn (A8 8 (Tryz.f12.body.getD .skip))),(18,H9 TT Γn (A8 18 (Tryz.f12.body.getD .skip))),(30,H9 TT Γn (A8 30 (Tryz.f12.body.getD .skip)))]
theorem spec_n{RD:(Nat->Prop)->World->Nat->Nat->Prop}(H:B9 RD):SpAll Tryz.prog RD Ρn 249 (Tryz.f12.body.getD .skip):=by
 intro i C hC p F;have J:=Aj _ _ _ hC;simp only[dy,dH,eP,dw]at J;rcases J with⟨rfl,rfl⟩|⟨rfl,rfl⟩|⟨rfl,rfl⟩|⟨rfl,rfl⟩|⟨rfl,rfl⟩
 ·cases cZ.1 (show p∈[(_,_)] from F)
  exact Cy (LQ H) (by kernel_rfl) (by kernel_rfl)
 ·cases cZ.1 (show p∈[(_,_)] from F)
  exact Cy (LQ H) (by kernel_rfl) (by kernel_rfl)
 ·cases cZ.1 (show p∈[(_,_)] from F)
  exact Cy (LQ H) (by kernel_rfl) (by kernel_rfl)
 ·cases cZ.1 (show p∈[(_,_)] from F)
  exact Cy (LQ H) (by kernel_rfl) (by kernel_rfl)
 ·cases cZ.1 (show p∈[(_,_)] from F)
  exact Cy (LQ H) (by kernel_rfl) (by kernel_rfl)
def cntL(N:Cnt):List Value:=[.int .i64 N.aI,.int .i64 N.ready,.int .i64 N.aW,.int .i64 N.aL,.int .i64 N.au]
section
variable {B X:Bk} {A:AP} {s:Svc} {c1 c2 c3 d1 d2 d3:Nat}
theorem nh_svcs(hB:okBk B)(hX:okBk X)(N:NH B A.ac X s){z:St}(hE:Ent z ⟨[(3,.complex .f64 64 0),(4,.complex .f64 72 0),(5,.complex .f64 80 0)],mNh B X A c1 c2 c3 d1 d2 d3,900,0⟩):vwr TT Γn Ρn (Ej 10 (Tryz.f12.body.getD .skip)) SK z:=by
 have hl:=hB.1.1;refine⟨_,hE,?_⟩;refine⟨λn st=>∃i:Nat,i<=B.af.length/\n=B.af.length - i/\st=⟨[(22,.int .i64 i),(3,.complex .f64 64 0),(4,.complex .f64 72 0),(5,.complex .f64 80 0)],mNh B X A c1 c2 c3 d1 d2 d3,1000,0⟩,B.af.length,⟨_,(by refine⟨[],?_,?_,rfl,rfl,AG _⟩<;>repeat' (first|exact rfl|exact trivial|exact⟨_,rfl,.same _ _ rfl⟩|apply cW)),0,by omega,by omega,rfl⟩,?_⟩;rintro n _ ⟨i,hi,rfl,rfl⟩;refine cW (λF=>?_) (λF=>?_)
 ·have F:(i:Int)<B.af.length:=F
  refine cW (by omega) (cW F (cW (AG _) (λo Y=>?_)));rw[di]at Y;refine⟨(⟨X,d1,d2,d3⟩,o.name),rfl,hX.1,?_⟩;rintro _ _ ⟨rfl,s',b,rfl,W⟩;refine cW (by omega) (cW F (cW (AG _) (λZ H=>?_)));rw[di,Y]at H;cases H;refine cW (λJ=>?_) (λJ=>?_)
  ·have J:(!(o.name.toList==A.nm.toList))=true:=J
   have hx:=N.af o (AE Y) (λe=>by rw[show o.name=A.nm from e]at J;simp at J);rcases W with⟨rfl,W⟩|⟨_,W⟩
   ·rw[show Ah X o.name=some s' from W]at hx
    cases hx;refine cW (by omega) (cW F (cW (AG _) (λZ H=>?_)));rw[di,Y]at H;cases H;refine cW rfl ?_;refine λy M=>?_
    have M:y=((i+1:Nat):Int):=by have:=M ⟨by omega,by omega⟩;omega
    subst M;exact⟨B.af.length - (i+1),by omega,_,(by refine⟨[],?_,?_,rfl,rfl,AG _⟩<;>repeat' (first|exact rfl|exact trivial|exact⟨_,rfl,.same _ _ rfl⟩|apply cW)),i+1,by omega,rfl,rfl⟩
   ·rw[show Ah X o.name=none from W]at hx
    cases hx
  ·refine λy M=>?_
   have M:y=((i+1:Nat):Int):=by have:=M ⟨by omega,by omega⟩;omega
   subst M;exact⟨B.af.length - (i+1),by omega,_,(by refine⟨[],?_,?_,rfl,rfl,AG _⟩<;>repeat' (first|exact rfl|exact trivial|exact⟨_,rfl,.same _ _ rfl⟩|apply cW)),i+1,by omega,rfl,rfl⟩
 ·exact⟨.inl rfl,_,rfl,rfl,rfl⟩
theorem Gp(hB:okBk B)(hX:okBk X)(av:A.en.length<=1000)(N:NH B A.ac X s){z:St}(hE:Ent z ⟨[(3,.complex .f64 64 0),(4,.complex .f64 72 0),(5,.complex .f64 80 0)],mNh B X A c1 c2 c3 d1 d2 d3,600,0⟩):vwr TT Γn Ρn (Ej 9 (Tryz.f12.body.getD .skip)) SK z:=by
 have hl:=hB.1.2.1;refine⟨_,hE,?_⟩;refine⟨λn st=>∃i:Nat,i<=B.ah.length/\n=B.ah.length - i/\st=⟨[(16,.int .i64 i),(3,.complex .f64 64 0),(4,.complex .f64 72 0),(5,.complex .f64 80 0)],mNh B X A c1 c2 c3 d1 d2 d3,700,0⟩,B.ah.length,⟨_,(by refine⟨[],?_,?_,rfl,rfl,AG _⟩<;>repeat' (first|exact rfl|exact trivial|exact⟨_,rfl,.same _ _ rfl⟩|apply cW)),0,by omega,by omega,rfl⟩,?_⟩;rintro n _ ⟨i,hi,rfl,rfl⟩;refine cW (λY=>?_) (λY=>?_)
 ·have Y:(i:Int)<B.ah.length:=Y
  refine cW (by omega) (cW Y (cW (AG _) (λc hc=>?_)));rw[di]at hc;refine⟨(⟨X,d1,d2,d3⟩,c.aa,c.ai),rfl,hX.1,?_⟩;rintro _ _ ⟨rfl,d,b,rfl,J⟩;obtain⟨d',W,q1,q2⟩:=N.cO c (AE hc);rcases J with⟨rfl,J⟩|⟨_,J⟩
  ·have J:X.ah.find? (isC c.aa c.ai)=some d:=J
   rw[J]at W;cases W;clear J;refine⟨λn st=>∃(k:Nat) (r:Bool),(k<=A.en.length/\(r=true->∃e∈A.en,isC A.nm e.ai c=true)/\(r=false->∀e∈A.en.take k,isC A.nm e.ai c=false))/\n=A.en.length - k/\st=⟨[(21,.int .i64 k),(20,.bool r),(19,.bool true),(18,.complex .f64 868 0),(17,.complex .f64 780 0),(16,.int .i64 i),(3,.complex .f64 64 0),(4,.complex .f64 72 0),(5,.complex .f64 80 0)],(868,AT (cpL d) 76)::(780,AT (cpL c) 76)::mNh B X A c1 c2 c3 d1 d2 d3,1000,0⟩,A.en.length,⟨_,(by refine⟨[],?_,?_,rfl,rfl,AG _⟩<;>repeat' (first|exact rfl|exact trivial|exact⟨_,rfl,.same _ _ rfl⟩|apply cW)),0,false,⟨by omega,λh=>(nomatch h),λ_ _ h=>(nomatch h)⟩,by omega,rfl⟩,?_⟩;rintro n _ ⟨k,r,⟨hk,aa,M⟩,rfl,rfl⟩;refine cW (λH=>?_) (λH=>?_)
   ·have H:(k:Int)<A.en.length:=H
    obtain⟨e,he⟩:∃e,A.en[k]?=some e:=⟨A.en[k]'(by omega),by simp⟩
    cases r with
    |true=>
     refine λy F=>?_
     have F:y=((k+1:Nat):Int):=by have:=F ⟨by omega,by omega⟩;omega
     subst F;exact⟨A.en.length - (k+1),by omega,_,(by refine⟨[],?_,?_,rfl,rfl,AG _⟩<;>repeat' (first|exact rfl|exact trivial|exact⟨_,rfl,.same _ _ rfl⟩|apply cW)),k+1,true,⟨by omega,aa,λh=>(nomatch h)⟩,rfl,rfl⟩
    |false=>
     refine cW (λZ=>?_) (λZ=>?_)
     ·have Z:(c.aa.toList==A.nm.toList)=true:=Z
      refine cW (by omega) (cW H (cW (AG _) (λe' af=>?_)));rw[di,he]at af;cases af;refine cW (λhn=>?_) (λhn=>?_)
      ·refine λy F=>?_
       have F:y=((k+1:Nat):Int):=by have:=F ⟨by omega,by omega⟩;omega
       subst F;exact⟨A.en.length - (k+1),by omega,_,(by refine⟨[],?_,?_,rfl,rfl,AG _⟩<;>repeat' (first|exact rfl|exact trivial|exact⟨_,rfl,.same _ _ rfl⟩|apply cW)),k+1,true,⟨by omega,λ_=>⟨e,AE he,by unfold isC;rw[Z,show(c.ai==e.ai)=true from fq.2 hn];rfl⟩,λh=>(nomatch h)⟩,rfl,rfl⟩
      ·refine λy F=>?_
       have F:y=((k+1:Nat):Int):=by have:=F ⟨by omega,by omega⟩;omega
       subst F;exact⟨A.en.length - (k+1),by omega,_,(by refine⟨[],?_,?_,rfl,rfl,AG _⟩<;>repeat' (first|exact rfl|exact trivial|exact⟨_,rfl,.same _ _ rfl⟩|apply cW)),k+1,false,⟨by omega,λh=>(nomatch h),λ_=>EU (p:=λe:En=>isC A.nm e.ai c) (M rfl) he (by show isC _ _ _=false;unfold isC;rw[show(c.ai==e.ai)=false from eL.2 hn,ij])⟩,rfl,rfl⟩
     ·refine λy F=>?_
      have F:y=((k+1:Nat):Int):=by have:=F ⟨by omega,by omega⟩;omega
      subst F;exact⟨A.en.length - (k+1),by omega,_,(by refine⟨[],?_,?_,rfl,rfl,AG _⟩<;>repeat' (first|exact rfl|exact trivial|exact⟨_,rfl,.same _ _ rfl⟩|apply cW)),k+1,false,⟨by omega,λh=>(nomatch h),λ_=>EU (p:=λe:En=>isC A.nm e.ai c) (M rfl) he (by show isC _ _ _=false;unfold isC;rw[show(c.aa.toList==A.nm.toList)=false from Z];rfl)⟩,rfl,rfl⟩
   ·have ah:A.en.take k=A.en:=er (by have:¬(k:Int)<A.en.length:=H;omega)
    rw[ah]at M
    cases r with
    |true=>
     have ai:=q1 (aa rfl);refine cW (λ_=>?_) (λh=>?_)
     ·refine λy F=>?_
      have F:y=((i+1:Nat):Int):=by have:=F ⟨by omega,by omega⟩;omega
      subst F;exact⟨B.ah.length - (i+1),by omega,_,(by refine⟨[],?_,?_,rfl,rfl,AG _⟩<;>repeat' (first|exact rfl|exact trivial|exact⟨_,rfl,.same _ _ rfl⟩|apply cW)),i+1,by omega,rfl,rfl⟩
     ·exact absurd (ai.symm.trans h) (by decide)
    |false=>
     obtain rfl:=q2 (M rfl);refine cW rfl ?_;refine λy F=>?_
     have F:y=((i+1:Nat):Int):=by have:=F ⟨by omega,by omega⟩;omega
     subst F;exact⟨B.ah.length - (i+1),by omega,_,(by refine⟨[],?_,?_,rfl,rfl,AG _⟩<;>repeat' (first|exact rfl|exact trivial|exact⟨_,rfl,.same _ _ rfl⟩|apply cW)),i+1,by omega,rfl,rfl⟩
  ·have J:X.ah.find? (isC c.aa c.ai)=none:=J
   rw[J]at W;cases W
 ·exact nh_svcs hB hX N (by refine⟨[],?_,?_,rfl,rfl,AG _⟩<;>repeat' (first|exact rfl|exact trivial|exact⟨_,rfl,.same _ _ rfl⟩|apply cW))
theorem RI(hB:okBk B)(hX:okBk X)(al:Valid B)(Z:A.en.length<=1000)(N:NH B A.ac X s){z:St}(hE:Ent z ⟨[(7,.complex .f64 152 0),(9,.complex .f64 208 0),(3,.complex .f64 64 0),(4,.complex .f64 72 0),(5,.complex .f64 80 0)],(152,AT (svL s) 34)::(208,AT (cntL (BD X A.nm)) 83)::mNh B X A c1 c2 c3 d1 d2 d3,400,0⟩):vwr TT Γn Ρn (Ej 6 (Tryz.f12.body.getD .skip)) SK z:=by
 have Y:=al.bc (CQ N.sv);have e1:=Y.bq;have e2:=Y.bH;have e3:=Y.bY;have e4:=Y.bZ;refine⟨_,hE,?_⟩;refine⟨λn st=>∃(i:Nat) (r:Bool),(i<=A.en.length/\(r=true->∃e∈A.en,∃c,B.ah.find? (isC A.nm e.ai)=some c/\c.ax=3))/\n=A.en.length - i/\st=⟨[(13,.int .i64 i),(12,.bool r),(7,.complex .f64 152 0),(9,.complex .f64 208 0),(3,.complex .f64 64 0),(4,.complex .f64 72 0),(5,.complex .f64 80 0)],(152,AT (svL s) 34)::(208,AT (cntL (BD X A.nm)) 83)::mNh B X A c1 c2 c3 d1 d2 d3,450,0⟩,A.en.length,⟨_,(by refine⟨[],?_,?_,rfl,rfl,AG _⟩<;>repeat' (first|exact rfl|exact trivial|exact⟨_,rfl,.same _ _ rfl⟩|apply cW)),0,false,⟨by omega,λh=>(nomatch h)⟩,by omega,rfl⟩,?_⟩;rintro n _ ⟨i,r,⟨hi,hr⟩,rfl,rfl⟩;refine cW (λJ=>?_) (λJ=>?_)
 ·have J:(i:Int)<A.en.length:=J
  refine cW (by omega) (cW J (cW (AG _) (λe he=>?_)));rw[di]at he;refine⟨(⟨B,c1,c2,c3⟩,A.nm,e.ai),rfl,hB.1,?_⟩;rintro _ _ ⟨rfl,c,b,rfl,hc⟩;obtain⟨c',F,hv,aq⟩:=N.aw e (AE he);have F:B.ah.find? (isC A.nm e.ai)=some c':=F;rcases hc with⟨rfl,hc⟩|⟨_,hc⟩
  rotate_left
  ·rw[show B.ah.find? (isC A.nm e.ai)=none from hc]at F;cases F
  rw[show B.ah.find? (isC A.nm e.ai)=some c from hc]at F;cases F;have an:=AE he;cases r
  case' false=>
   refine cW (λh3=>?ready) (λh3=>?aB)
   case' ready=>have H:∃(W:Bool),W=true/\(W=true->∃e∈A.en,∃c,B.ah.find? (isC A.nm e.ai)=some c/\c.ax=3):=⟨true,rfl,λ_=>⟨e,an,c,hc,h3⟩⟩
   case' aB=>have H:∃(W:Bool),W=false/\(W=true->∃e∈A.en,∃c,B.ah.find? (isC A.nm e.ai)=some c/\c.ax=3):=⟨false,rfl,λh=>(nomatch h)⟩
  case' true=>have H:∃(W:Bool),W=true/\(W=true->∃e∈A.en,∃c,B.ah.find? (isC A.nm e.ai)=some c/\c.ax=3):=⟨true,rfl,hr⟩
  all_goals
   obtain⟨W,am,H⟩:=H;refine cW (by omega) (cW J (cW (AG _) (λe' ah=>?_)));rw[di,he]at ah;cases ah;refine cW (λh=>absurd hv h) (λ_=>?_);refine cW (λh=>absurd (aq.symm.trans h) (by decide)) (λ_=>?_);refine λy M=>?_
   have M:y=((i+1:Nat):Int):=by have:=M ⟨by omega,by omega⟩;omega
   subst M;subst am;exact⟨A.en.length - (i+1),by omega,_,(by refine⟨[],?_,?_,rfl,rfl,AG _⟩<;>repeat' (first|exact rfl|exact trivial|exact⟨_,rfl,.same _ _ rfl⟩|apply cW)),i+1,_,⟨by omega,H⟩,rfl,rfl⟩
 ·cases r with
  |false=>exact Gp hB hX Z N (by refine⟨[],?_,?_,rfl,rfl,AG _⟩<;>repeat' (first|exact rfl|exact trivial|exact⟨_,rfl,.same _ _ rfl⟩|apply cW))
  |true=>
   refine cW (λhg=>?_) (λhg=>?_)
   ·exact Gp hB hX Z N (by refine⟨[],?_,?_,rfl,rfl,AG _⟩<;>repeat' (first|exact rfl|exact trivial|exact⟨_,rfl,.same _ _ rfl⟩|apply cW))
   ·refine cW (λag=>?_) (λag=>?_)
    ·exact Gp hB hX Z N (by refine⟨[],?_,?_,rfl,rfl,AG _⟩<;>repeat' (first|exact rfl|exact trivial|exact⟨_,rfl,.same _ _ rfl⟩|apply cW))
    ·refine λy M=>?_
     have M:inR (s.av - s.aG)->y=s.av - s.aG:=M;have M:=M ⟨by omega,by omega⟩;subst M;have ay:s.av - s.aG<=(BD X A.nm).ready:=N.ready ag hg (hr rfl);refine cW (λh=>?_) (λ_=>?_)
     ·have h:(BD X A.nm).ready<s.av - s.aG:=h
      omega
     ·exact Gp hB hX Z N (by refine⟨[],?_,?_,rfl,rfl,AG _⟩<;>repeat' (first|exact rfl|exact trivial|exact⟨_,rfl,.same _ _ rfl⟩|apply cW))
end
section
variable {B X:Bk} {A:AP} {s t:Svc} {c1 c2 c3 d1 d2 d3:Nat}
theorem nh_mid(W:okBk B)(M:okBk X)(J:Valid B)(F:A.en.length<=1000)(Y:0<A.cr->(0<=t.av/\t.av<=10/\0<=t.aE/\t.aE<=10)/\(BD X A.nm).aI<=t.av+t.aE)(N:NH B A.ac X s){z:St}(Z:Ent z ⟨[(7,.complex .f64 152 0),(9,.complex .f64 208 0),(10,.complex .f64 280 0),(3,.complex .f64 64 0),(4,.complex .f64 72 0),(5,.complex .f64 80 0)],(280,AT (svL t) 34)::(152,AT (svL s) 34)::(208,AT (cntL (BD X A.nm)) 83)::mNh B X A c1 c2 c3 d1 d2 d3,350,0⟩):vwr TT Γn Ρn (Ej 5 (Tryz.f12.body.getD .skip)) SK z:=by
 refine⟨_,Z,?_⟩;refine cW (λh=>?_) (λh=>?_)
 ·obtain⟨⟨q1,q2,q3,q4⟩,q5⟩:=Y h
  refine λy H=>?_
  have H:inR (t.av+t.aE)->y=t.av+t.aE:=H;have H:=H ⟨by omega,by omega⟩;subst H;refine cW (λh=>?_) (λ_=>?_)
  ·have h:t.av+t.aE<(BD X A.nm).aI:=h
   omega
  ·exact RI W M J F N (by refine⟨[],?_,?_,rfl,rfl,AG _⟩<;>repeat' (first|exact rfl|exact trivial|exact⟨_,rfl,.same _ _ rfl⟩|apply cW))
 ·exact RI W M J F N (by refine⟨[],?_,?_,rfl,rfl,AG _⟩<;>repeat' (first|exact rfl|exact trivial|exact⟨_,rfl,.same _ _ rfl⟩|apply cW))
theorem nh_top(hB:okBk B)(Z:okBk X)(J:Valid B)(M:A.en.length<=1000)(hq:0<A.cr->(0<=t.av/\t.av<=10/\0<=t.aE/\t.aE<=10)/\(BD X A.nm).aI<=t.av+t.aE)(N:NH B A.ac X s){b:Bool}(hb:b=!A.dr){z:St}(hE:Ent z ⟨[(7,.complex .f64 152 0),(8,.bool true),(9,.complex .f64 208 0),(10,.complex .f64 280 0),(11,.bool b),(3,.complex .f64 64 0),(4,.complex .f64 72 0),(5,.complex .f64 80 0)],(280,AT (svL t) 34)::(152,AT (svL s) 34)::(208,AT (cntL (BD X A.nm)) 83)::mNh B X A c1 c2 c3 d1 d2 d3,310,0⟩):vwr TT Γn Ρn (Ej 4 (Tryz.f12.body.getD .skip)) SK z:=by
 have aa:=inB_iff.1 J.aj;have W:=N.aj;have F:s.ag=A.se:=N.aF;cases b
 ·have Y:A.dr=true:=by cases h:A.dr<;>rw[h]at hb<;>first|rfl|cases hb
  refine⟨_,hE,?_⟩;refine cW (λh=>absurd F h) (λ_=>?_);refine cW (λ_=>?_) (λh=>absurd (Y.symm.trans h) (by decide));refine λy H=>?_
  have H:inR (B.aj+1)->y=B.aj+1:=H;have H:=H ⟨by omega,by omega⟩;subst H;refine cW (λh=>absurd W h) (λ_=>?_);exact nh_mid hB Z J M hq N (by refine⟨[],?_,?_,rfl,rfl,AG _⟩<;>repeat' (first|exact rfl|exact trivial|exact⟨_,rfl,.same _ _ rfl⟩|apply cW))
 ·have Y:A.dr=false:=by cases h:A.dr<;>rw[h]at hb<;>first|rfl|cases hb
  refine⟨_,hE,?_⟩;refine cW (λh=>absurd F h) (λ_=>?_);refine cW (λh=>absurd (Y.symm.trans h) (by decide)) (λ_=>?_);refine λy H=>?_
  have H:inR (B.aj+1)->y=B.aj+1:=H;have H:=H ⟨by omega,by omega⟩;subst H;refine cW (λh=>absurd W h) (λ_=>?_);exact nh_mid hB Z J M hq N (by refine⟨[],?_,?_,rfl,rfl,AG _⟩<;>repeat' (first|exact rfl|exact trivial|exact⟨_,rfl,.same _ _ rfl⟩|apply cW))
theorem nh_vc(hB:okBk B)(hX:okBk X)(aa:Valid B)(ah:Valid X)(ai:A.en.length<=1000)(J:0<=(By B A.ac s).av/\(By B A.ac s).av<=10)(N:NH B A.ac X s):vwr TT Γn Ρn (Tryz.f12.body.getD .skip) SK ⟨EM 0 [(⟨B,c1,c2,c3⟩:BP).v,A.v 3,.agg (bkV4 X d1 d2 d3).toArray],bkM B++((3,A9 88 2 enL A.en)::SS X),64,0⟩:=by
 have ag:=aa.bc (CQ N.sv);refine⟨(⟨B,c1,c2,c3⟩,A.nm),rfl,hB.1,?_⟩;rintro _ _ ⟨rfl,s',b,rfl,M⟩;have H:Ah B A.nm=some s:=N.sv;rcases M with⟨rfl,M⟩|⟨_,M⟩
 rotate_left
 ·rw[show Ah B A.nm=none from M]at H;cases H
 rw[show Ah B A.nm=some s' from M]at H;cases H;clear M;refine⟨(⟨X,d1,d2,d3⟩,A.nm),rfl,⟨hX,validB_iff.2 ah⟩,?_⟩;rintro v _ ⟨rfl,hv⟩;have hv:v=IA (BD X A.nm):=hv;subst hv;refine⟨(⟨X,d1,d2,d3⟩,A.nm),rfl,hX.1,?_⟩;rintro _ _ ⟨rfl,t,b,rfl,Z⟩;have F:Ah X A.nm=if A.dr then none else some (By B A.ac s):=N.left
 have af:b=!A.dr/\(A.dr=false->t=By B A.ac s):=by
  rcases Z with⟨rfl,Z⟩|⟨rfl,Z⟩
  ·rw[show Ah X A.nm=some t from Z]at F
   cases W:A.dr
   ·rw[W]at F
    exact⟨rfl,λ_=>dg F⟩
   ·rw[W]at F;cases F
  ·rw[show Ah X A.nm=none from Z]at F
   cases W:A.dr
   ·rw[W]at F;cases F
   ·exact⟨rfl,λh=>(nomatch h)⟩
 have hq:0<A.cr->(0<=t.av/\t.av<=10/\0<=t.aE/\t.aE<=10)/\(BD X A.nm).aI<=t.av+t.aE:=λh=>by
  obtain⟨W,Y⟩:=N.cr h;have e:=af.2 W;have q2:t.aE=s.aE:=by rw[e];exact(Ic _ _ _).2.2.2.2.1
  rw[<-e]at J Y;exact⟨⟨J.1,J.2,by rw[q2];exact ag.cf,by rw[q2];exact ag.cg⟩,Y⟩
 exact nh_top hB hX aa ai hq N af.1 (by refine⟨[],?_,?_,rfl,rfl,AG _⟩<;>repeat' (first|exact rfl|exact trivial|exact⟨_,rfl,.same _ _ rfl⟩|apply cW))
end
end
section
open Go.RowKit Go.Sort
def gh7(w:World)(a1 a2 a3 a4 x1 x2 x3:qO):Gh:=⟨λi=>match i with|0=>a1|1=>a2|2=>a3|3=>a4|4=>x1|5=>x2|6=>x3|_=>none,λk=>k<w.heap.size,λ_=>False⟩
theorem rows7{w:World}{a1 a2 a3 M x1 W H:qO}{B X:Bk}{l:List En}(hB:BkAt w a1 a2 a3 B)(hE:SlE w M l)(hX:BkAt w x1 W H X):∀i b,lk (bkM B++((3,A9 88 2 enL l)::SS X)) i=some b->i<64/\Hold G6 w (gh7 w a1 a2 a3 M x1 W H) w 0 i b/\¬DQ b/\Clo (bkM B++((3,A9 88 2 enL l)::SS X)) (b.cs.flatMap Cf):=by
 intro i b hb;have h3:=EV (RD:=G6) (q:=0) hB;have h4:=EV (RD:=G6) (q:=0) hX;have no:∀{ty sz:Nat} {Y:Type} {f:Y->List Value} {l:List Y},¬DQ (A9 ty sz f l):=λh=>by rcases h with h|h<;>cases h
 have hm:=Aj _ _ _ hb;simp only[bkM,SS,fb,eZ,dy,dH,eP,dw]at hm;rcases hm with⟨rfl,rfl⟩|⟨rfl,rfl⟩|⟨rfl,rfl⟩|⟨rfl,rfl⟩|⟨rfl,rfl⟩|⟨rfl,rfl⟩|⟨rfl,rfl⟩
 ·exact⟨by decide,Cc (ao:=a1) rfl (λ_ h=>h) (λ_=>rfl) λF=>((h3 0 _ rfl).2.1).bh (f:=svL) (l:=B.af) (λk hk=>hk) .row F,no,λ_ h=>(nomatch h)⟩
 ·exact⟨by decide,Cc (ao:=a2) rfl (λ_ h=>h) (λ_=>rfl) λF=>((h3 1 _ rfl).2.1).bh (f:=cpL) (l:=B.ah) (λk hk=>hk) .row F,no,λ_ h=>(nomatch h)⟩
 ·exact⟨by decide,Cc (ao:=a3) rfl (λ_ h=>h) (λ_=>rfl) λF=>((h3 2 _ rfl).2.1).bh (f:=btL) (l:=B.ak) (λk hk=>hk) .row F,no,λ_ h=>(nomatch h)⟩
 ·refine⟨by decide,Cc (ao:=M) rfl (λ_ h=>h) (λ_=>rfl) λF=>?_,no,λ_ h=>(nomatch h)⟩
  obtain⟨b,off,e,Z,J⟩:=hE F;refine⟨b,off,e,Z,λi x hx j v hv=>?_⟩;obtain⟨h0,h1⟩:=J i x hx
  match j,hv with
  |0,hv=>rw[<-dg hv];exact h0
  |1,hv=>rw[<-dg hv];exact h1
  |k+2,hv=>cases hv
 ·exact⟨by decide,Cc (ao:=x1) rfl (λ_ h=>h) (λ_=>rfl) λF=>((h4 0 _ rfl).2.1).bh (f:=svL) (l:=X.af) (λk hk=>hk) .row F,no,λ_ h=>(nomatch h)⟩
 ·exact⟨by decide,Cc (ao:=W) rfl (λ_ h=>h) (λ_=>rfl) λF=>((h4 1 _ rfl).2.1).bh (f:=cpL) (l:=X.ah) (λk hk=>hk) .row F,no,λ_ h=>(nomatch h)⟩
 ·exact⟨by decide,Cc (ao:=H) rfl (λ_ h=>h) (λ_=>rfl) λF=>((h4 2 _ rfl).2.1).bh (f:=btL) (l:=X.ak) (λk hk=>hk) .row F,no,λ_ h=>(nomatch h)⟩
theorem P6(B X:Bk)(A:Ac)(s:Svc)(a1 a2 a3 W M J:qO)(c1 c2 c3 d1 Z Y:Nat)(ae:qO)(ce:Nat)(w:World)(hB:okBk B)(hX:okBk X)(aa:Valid B)(af:Valid X)(ah:A.aw.length<=1000)(ag:0<=(By B A s).av/\(By B A s).av<=10)(N:NH B A X s)(bB:BkAt w a1 a2 a3 B)(hE:SlE w ae A.aw)(bX:BkAt w W M J X):
  Calls Tryz.prog 12 #[.agg (qbV B a1 c1 a2 c2 a3 c3),.agg (qaV A ae ce),.agg (qbV X W d1 M Z J Y)] w λe w'=>e=.returned (.bool true)/\Below w.heap.size w w':=by
 have F:=Pf (R0:=⟨λ_=>False,λ_=>none,0⟩) (G:=gh7 w a1 a2 a3 ae W M J) (w:=w) (c0:=64) (q0:=0) (m0:=bkM B++((3,A9 88 2 enL A.aw)::SS X)) (vs:=[(⟨B,c1,c2,c3⟩:BP).v,(PU A ce).v 3,.agg (bkV4 X d1 Z Y).toArray]) (LQ DL) Tryz.func12 (c:=Tryz.f12.body.getD .skip) (by kernel_rfl) (Ez (LQ DL) (by kernel_rfl) _ (spec_n DL) (by kernel_rfl)) (show 3<=_ from AD rfl) (Post:=λv _ _=>v=.bool true) (by rw[<-Ff];exact nh_vc (A:=PU A ce) hB hX aa af ah ag N) (rows7 bB hE bX) (Cz rfl) (AG _) (λk hk=>⟨hk,λh=>h⟩) (λ_ h=>h.elim) (λ_ h=>h.elim);have ha:(List.map (r2 (gh7 w a1 a2 a3 ae W M J).α) [(⟨B,c1,c2,c3⟩:BP).v,(PU A ce).v 3,.agg (bkV4 X d1 Z Y).toArray]).toArray=#[.agg (qbV B a1 c1 a2 c2 a3 c3),.agg (qaV A ae ce),.agg (qbV X W d1 M Z J Y)]:=by simp[BP.v,AP.v,PU,acV,gh7,bkV4,r2,r1,r0]
 rw[ha]at F;refine F.mono ?_;rintro e w' ⟨_,m,q,G',rfl,rfl,hH,_,H,hz,_⟩;exact⟨rfl,H.os,H.tape,H.output,H.size,λk hk=>H.block k hk λh=>h⟩
end
end Go.Proofs.YtbceafpodamnfaaGreatDoor
