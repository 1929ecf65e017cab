import Derived.Test.YtbceafpodamnfaaGreatH01
import Derived.Test.YtbceafpodamnfaaGreatH09
set_option linter.all false
namespace Go.Proofs.YtbceafpodamnfaaGreat
section
open Go Go.RowKit
theorem wp_count{P:Program}{c:Code}{Q:Exit->Act->World->Prop}(I:Nat->Act->World->Prop)(round:∀n a w,I n a w->c.wp P (Exit.then (λa' w'=>∃n',n'<n/\I n' a' w') Q) a w){n:Nat}{a:Act}{w:World}(h:I n a w):(Code.loop c).wp P Q a w:=by
 intro b k cs
 have key:∀n a w,I n a w->∃e a' w',Q e a' w'/\Arrives P (lone (b.at a (.code c:: .inLoop c::k)) cs w) b k cs e a' w':=by
  intro n
  induction n using Nat.strongRecOn with
  |_ n ih=>
   intro a w hI;obtain⟨e,a1,w1,hq,harr⟩:=round n a w hI b (.inLoop c::k) cs
   cases e with
   |normal=>
    obtain⟨n',hlt,hI1⟩:=hq;obtain⟨e2,a2,w2,hq2,harr2⟩:=ih n' hlt a1 w1 hI1;exact⟨e2,a2,w2,hq2,.of_steps (Steps.trans harr (.one step_inLoop)) harr2⟩
   |_=>exact⟨_,a1,w1,hq,.pass (x:=.inLoop c) rfl (λ_ _=>.inl (by simp)) harr⟩
 obtain⟨e,a',w',hq,harr⟩:=key n a w h;exact⟨e,a',w',hq,.of_steps (.one step_loop) harr⟩
theorem rn0_r(ρ:List (Nat × Nat))(α:Nat->Option Addr)(v:Value):r0 (λi=>α (rnI ρ i)) v=r0 α (rn0 ρ v):=by
 cases v with
 |iface i u=>cases u<;>first|rfl|(rename_i p;cases p<;>rfl)
 |_=>rfl
theorem rn1_r(ρ:List (Nat × Nat))(α:Nat->Option Addr)(v:Value)(h:Ft v=true):r2 (λi=>α (rnI ρ i)) v=r2 α (rn1 ρ v):=by
 cases v with
 |tuple _=>cases h
 |agg cs=>
  show Value.agg _=Value.agg _
  congr 1
  apply Array.ext';simp only[Array.toList_map,List.map_map];exact List.map_congr_left λv _=>rn0_r ρ α v
 |iface i u=>cases u<;>first|rfl|(rename_i p;cases p<;>rfl)
 |_=>rfl
section
variable {P:Program} {RD:(Nat->Prop)->World->Nat->Nat->Prop} {w0:World} {tt:List TE} {Γ:List (Nat × Nat × Ct)} {R0:Ro} {nt:Nat} {G:Gh} {w:World} {a:Act} {s s':St} {Ρ:Sp}
theorem Ns{ρ:List (Nat × Nat)}{t:Tm}:∀(t':Tm),entT ρ t t'->∀i v,lk t' i=some v->lk t i=some (rn1 ρ v)/\Ft v=true
 |[],_,_,_,h=>by cases h
 |(j,u)::r,he,i,v,h=>by
  unfold entT at he
  by_cases hj:j=i
  ·subst hj;rw[Ag]at h;cases h;exact⟨he.1,he.2.1⟩
  ·rw[Aw hj]at h;exact Ns r he.2.2 i v h
theorem Nt{ρ:List (Nat × Nat)}{m:AV}:∀(m':AV),OZ ρ m m'->∀i b,lk m' i=some b->∃b0,lk m (rnI ρ i)=some b0/\LeB ρ b0 b
 |[],_,_,_,h=>by cases h
 |(j,u)::r,he,i,b,h=>by
  unfold OZ at he
  by_cases hj:j=i
  ·subst hj;rw[Ag]at h;cases h;exact he.1
  ·rw[Aw hj]at h;exact Nt r he.2 i b h
theorem JG:∀(m:AV) (i:Nat) (b:VB),lk m i=some b->DE b->i∈Lf m
 |[],_,_,h,_=>by cases h
 |(j,u)::r,i,b,h,hk=>by
  unfold Lf
  by_cases hj:j=i
  ·subst hj;rw[Ag]at h;cases h;rcases hk with hk|hk<;>(rw[hk];exact List.mem_cons_self)
  ·rw[Aw hj]at h
   have:=JG r i b h hk
   cases hb:(Nat.beq u.kd 0||Nat.beq u.kd 3) with
   |true=>exact List.mem_cons_of_mem _ this
   |false=>exact this
theorem Kp{ρ:List (Nat × Nat)}:∀(l:List Nat),OX ρ l=true->∀i j,i∈l->j∈l->i≠j->rnI ρ i≠rnI ρ j
 |[],_,_,_,h,_,_=>by cases h
 |k::r,h,i,j,hi,hj,hne=>by
  unfold OX at h;simp only[Bool.and_eq_true]at h
  have h1:∀x∈r,k≠x->rnI ρ k≠rnI ρ x:=λx hx hkx he=>by
   have:=List.all_eq_true.1 h.1 x hx;rw[he]at this;simp only[Bool.or_eq_true]at this;rcases this with h2|h2
   ·exact hkx (Nat.eq_of_beq_eq_true h2)
   ·rw[show Nat.beq (rnI ρ x) (rnI ρ x)=true from by simp]at h2;cases h2
  rcases List.mem_cons.1 hi with e1|e1<;>rcases List.mem_cons.1 hj with f1|f1
  ·exact absurd (e1.trans f1.symm) hne
  ·subst e1;exact h1 j f1 hne
  ·subst f1;exact λe=>h1 i e1 (Ne.symm hne) e.symm
  ·exact Kp r h.2 i j e1 f1 hne
theorem fix_ok:∀{ρ:List (Nat × Nat)},fixB ρ=true->∀{i:Nat},i<64->rnI ρ i=i:=λ{ρ} h {i} hi=>by
 unfold rnI
 cases hl:lk ρ i with
 |none=>rfl
 |some j=>
  have:=AD (List.all_eq_true.1 h _ (A9 _ _ _ hl));exact absurd hi (Nat.not_lt.2 this)
theorem Sat.ent(E:Env P RD tt Γ)(h:Sat RD R0 w0 nt G s a w)(he:Ent s s'):∃G',Sat RD R0 w0 nt G' s' a w:=by
 obtain⟨ρ,hT,hM,hinj,hcl,hq⟩:=he;unfold cloB at hcl;simp only[Bool.and_eq_true]at hcl hinj;obtain⟨hcl,hc64⟩:=hcl;obtain⟨hinj,hfix⟩:=hinj;have hM':=Nt s'.m hM;refine⟨⟨λi=>G.α (rnI ρ i),G.Z,G.RB⟩,h.dfr,h.tsz,λi v hv=>?_,λi b hb=>?_,λi b j c hb hc h0 h0' hne=>?_,h.z3,h.fr,h.rb,h.rl,AD hc64,λi hi=>by show G.α (rnI ρ i)=_;rw[fix_ok hfix hi];exact h.al i hi,h.sz⟩
 ·obtain⟨h1,h2⟩:=Ns s'.t hT i v hv
  exact⟨by rw[(h.tmp i _ h1).1,rn1_r ρ G.α v h2],DQ (List.all_eq_true.1 hcl.1 _ (A9 _ _ _ hv))⟩
 ·obtain⟨b0,hb0,hle⟩:=hM' i b hb
  have hc:=List.all_eq_true.1 hcl.2 _ (A9 _ _ _ hb);simp only[Bool.and_eq_true]at hc;obtain⟨_,h2,_⟩:=h.mem _ b0 hb0;refine⟨AD hc.1,⟨λh0=>?_,λh0 x hx=>?_,λh0=>?_,λh0=>?_,λh0=>?_,hle.kd▸h2.kk⟩,DQ hc.2⟩
  ·obtain⟨g,e1,e2,e3,e4,e5⟩:=h2.k0 (hle.kd.trans h0)
   refine⟨g,e1,e2,e3,e4,?_⟩;rw[e5,hle.cs,hle.ty,List.map_map]
   congr 3
   exact List.map_congr_left λv _=>(rn0_r ρ G.α v).symm
  ·obtain⟨g,o,el,e1,e2,e3,e4⟩:=h2.k1 (hle.kd.trans h0) x (AF hx hle.n)
   exact⟨g,o,el,e1,e2,λk hk=>e3 k (hle.Q x hx k hk),by rw[<-hle.sz];exact⟨e4.1,λW hW=>hle.E _ _ (e4.2 W hW)⟩⟩
  ·obtain⟨g,o,e1,e2,e4⟩:=h2.k2 (hle.kd.trans h0)
   rw[hle.v h0]at e4;exact⟨g,o,e1,e2,e4.1,λW hW=>hle.E _ _ (e4.2 W hW)⟩
  ·obtain⟨g,els,e1,e2,e3,e4,r1,r2',r3,r4⟩:=h2.k3 (hle.kd.trans h0)
   obtain⟨n1,n2⟩:=hle.n3 h0;refine⟨g,els,e1,e2,e3,e4,r1.trans n1,λel hel=>(by rw[<-hle.sz];exact r2' el hel),(by rw[<-hle.ty,<-hle.sz,<-n1,<-n2];exact r3),λj el hj=>⟨λk hk=>(r4 j el hj).1 k (hle.Q j ?_ k hk),λW hW=>hle.E _ _ ((r4 j el hj).2 W hW)⟩⟩;have:=(AC hj).1;omega
  ·obtain⟨g,e1,e2,e3⟩:=h2.k4 (hle.kd.trans h0)
   exact⟨g,e1,e2,E.rd _ _ _ _ _ _ _ e3 (λ_ h=>h) rfl (λ_ _=>rfl) hq⟩
 ·obtain⟨b0,hb0,hle⟩:=hM' i b hb
  obtain⟨c0,hc0,hle'⟩:=hM' j c hc;exact h.dis _ b0 _ c0 hb0 hc0 (h0.imp hle.kd.trans hle.kd.trans) (h0'.imp hle'.kd.trans hle'.kd.trans) (Kp _ hinj i j (JG _ _ _ hb h0) (JG _ _ _ hc h0') hne)
def OB(P:Program)(RD:(Nat->Prop)->World->Nat->Nat->Prop)(tt:List TE)(Γ:List (Nat × Nat × Ct))(ops:Array Oper):Prop:=
 ∀(R0:Ro) (w0:World) (nt id:Nat) (k:St->Prop) (s:St) (G:Gh) (a:Act) (w:World),Ku nt ops.toList=true->vR tt Γ ops.toList s k->Sat RD R0 w0 nt G s a w->
  (Code.region id ops true).wp P (λe a w=>e=.normal/\∃s' G',k s'/\Sat RD R0 w0 nt G' s' a w) a w
def Ho(P:Program)(RD:(Nat->Prop)->World->Nat->Nat->Prop)(nt id:Nat)(ops:Array Oper)(d:Bool)(C:St->(St->Prop)->Prop):Prop:=
 ∀(R0:Ro) (w0:World) (k:St->Prop) (s:St) (G:Gh) (a:Act) (w:World),C s k->Sat RD R0 w0 nt G s a w->(Code.region id ops d).wp P (λe a w=>e=.normal/\∃s' G',k s'/\Sat RD R0 w0 nt G' s' a w) a w
def CL(P:Program)(RD:(Nat->Prop)->World->Nat->Nat->Prop)(tt:List TE)(Γ:List (Nat × Nat × Ct))(Ρ:Sp)(nt:Nat):Code->Prop
 | .region i ops d=>match lk Ρ i with
  |some C=>Ho P RD nt i ops d C
  |none=>Ku nt ops.toList=true/\(d=true->OB P RD tt Γ ops)
 | .seq x y=>CL P RD tt Γ Ρ nt x/\CL P RD tt Γ Ρ nt y
 | .cond _ x y=>CL P RD tt Γ Ρ nt x/\CL P RD tt Γ Ρ nt y
 | .block _ c=>CL P RD tt Γ Ρ nt c
 | .loop c=>CL P RD tt Γ Ρ nt c
 |_=>True
theorem C6(E:Env P RD tt Γ):∀(c:Code) (Q:Exit->St->Prop) (s:St) (G:Gh) (a:Act) (w:World),CL P RD tt Γ Ρ nt c->vw tt Γ Ρ c Q s->Sat RD R0 w0 nt G s a w->c.wp P (After RD R0 w0 nt Q) a w
 | .skip,Q,s,G,a,w,_,h,hs=>wp_skip ⟨s,G,h,hs⟩
 | .exit i,Q,s,G,a,w,_,h,hs=>wp_exit ⟨s,G,h,hs⟩
 | .ret,Q,s,G,a,w,_,h,hs=>wp_ret ⟨s,G,h,hs⟩
 | .region id ops d,Q,s,G,a,w,hd,h,hs=>by
  unfold vw at h;unfold CL at hd;split at h
  ·rename_i C hC
   rw[hC]at hd;exact wp_mono (hd R0 w0 _ s G a w h hs) λe a' w' ⟨he,s',G',hk,hs'⟩=>by subst he;exact⟨s',G',hk,hs'⟩
  rename_i hC;rw[hC]at hd
  cases d with
  |true=>exact wp_mono (hd.2 rfl R0 w0 nt id _ s G a w hd.1 h hs) λe a' w' ⟨he,s',G',hk,hs'⟩=>by subst he;exact⟨s',G',hk,hs'⟩
  |false=>
   have hv:(BG Γ ops.toList=0\/s.q+BG Γ ops.toList<=QM)/\vO tt Γ ops.toList s.c ops.toList 0 s.t s.m λt m=>Q .normal ⟨t,m,s.c+8*ops.toList.length,s.q+BG Γ ops.toList⟩:=by
    have h':(bif Nat.beq (BG Γ ops.toList) 0 then vO tt Γ ops.toList s.c ops.toList 0 s.t s.m λt m=>Q .normal ⟨t,m,s.c+8*ops.toList.length,s.q+BG Γ ops.toList⟩ else s.q+BG Γ ops.toList<=QM/\vO tt Γ ops.toList s.c ops.toList 0 s.t s.m λt m=>Q .normal ⟨t,m,s.c+8*ops.toList.length,s.q+BG Γ ops.toList⟩):=h
    cases hb:Nat.beq (BG Γ ops.toList) 0 with
    |true=>rw[hb]at h';exact⟨.inl (Nat.eq_of_beq_eq_true hb),h'⟩
    |false=>rw[hb]at h';exact⟨.inr h'.1,h'.2⟩
   refine wp_region_list ?_;have:=GP E (ops:=ops.toList) (Q:=After RD R0 w0 nt Q) ops.toList 0 s.t s.m G a w s.q hd.1 hv.2 hs hv.1 λt' m' G' a' w' hk hs'=>⟨_,G',hk,by rw[Nat.zero_add]at hs';exact hs'⟩
   rwa [Array.toArray_toList]at this
 | .seq x y,Q,s,G,a,w,hd,h,hs=>by
  refine wp_seq (wp_mono (C6 E x _ s G a w hd.1 h hs) λe a' w' hq=>?_);obtain⟨s',G',hk,hs'⟩:=hq
  cases e with
  |normal=>exact C6 E y Q s' G' a' w' hd.2 hk hs'
  |_=>exact⟨s',G',hk,hs'⟩
 | .cond c x y,Q,s,G,a,w,hd,h,hs=>by
  unfold vw at h;split at h
  ·rename_i he;exact wp_cond (t:=true) (M1 he hs.tmp).1 (C6 E x Q s G a w hd.1 h hs)
  ·rename_i he;exact wp_cond (t:=false) (M1 he hs.tmp).1 (C6 E y Q s G a w hd.2 h hs)
  ·exact h.elim
 | .block i c,Q,s,G,a,w,hd,h,hs=>by
  refine wp_block (wp_mono (C6 E c _ s G a w hd h hs) λe a' w' hq=>?_);obtain⟨s',G',hk,hs'⟩:=hq
  cases e with
  |exit j=>
   show if j=i then _ else _
   split
   ·rename_i e;subst e
    have hk':(bif Nat.beq j j then Q .normal s' else Q (.exit j) s'):=hk;rw[show Nat.beq j j=true from by simp]at hk';exact⟨s',G',hk',hs'⟩
   ·rename_i e
    have hk':(bif Nat.beq i j then Q .normal s' else Q (.exit j) s'):=hk;rw[show Nat.beq i j=false from by cases hb:Nat.beq i j;rfl;exact absurd (Nat.eq_of_beq_eq_true hb).symm e]at hk';exact⟨s',G',hk',hs'⟩
  |_=>exact⟨s',G',hk,hs'⟩
 | .loop c,Q,s,G,a,w,hd,h,hs=>by
  obtain⟨I,n,⟨s',he,hI⟩,hr⟩:=h;obtain⟨G',hs'⟩:=hs.ent E he;refine wp_count (λn a w=>∃s G,I n s/\Sat RD R0 w0 nt G s a w) (λn a w ⟨s,G,hI,hs⟩=>?_) ⟨s',G',hI,hs'⟩;refine wp_mono (C6 E c _ s G a w hd (hr n s hI) hs) λe a' w' hq=>?_
  obtain⟨s2,G2,hk,hs2⟩:=hq
  cases e with
  |normal=>
   obtain⟨n',hlt,s3,he3,hI3⟩:=hk;obtain⟨G3,hs3⟩:=hs2.ent E he3;exact⟨n',hlt,s3,G3,hI3,hs3⟩
  |_=>exact⟨s2,G2,hk,hs2⟩
 | .rangeFunc ..,_,_,_,_,_,_,h,_| .scope _,_,_,_,_,_,_,h,_| .label _,_,_,_,_,_,_,h,_| .goto _,_,_,_,_,_,_,h,_| .refuse _,_,_,_,_,_,_,h,_=>h.elim
end
def ldO(tt:List TE)(T:Nat)(cs:List Value)(o:Nat):Option Value:=
 match tyo tt T with
 |some e=>bif Nat.beq e.u 4 then(bif Nat.ble (o+e.size) cs.length then some (.agg ((cs.drop o).take e.size).toArray) else none) else match cs[o]? with
  |some v=>bif Eo v then some v else none
  |none=>none
 |none=>none
def Ix(tt:List TE)(t:Tm)(m:AV):ResultVar->Option Value
 | .tmp x=>match lk t x with
  |some v=>bif Ft v then some v else none
  |none=>none
 | .cell x T=>match lk t x with
  |some (.complex _ i off)=>match lk m i with
   |some b=>bif Nat.beq b.kd 0||Nat.beq b.kd 2 then ldO tt T b.cs off else none
   |none=>none
  |_=>none
def LW(tt:List TE)(rs:List ResultVar)(t:Tm)(m:AV):Option Value:=
 match rs with
 |[r]=>Ix tt t m r
 |[r,r']=>match Ix tt t m r,Ix tt t m r' with
  |some v,some v'=>some (.tuple #[v,v'])
  |_,_=>none
 |_=>none
def FD:Nat->List Value->Tm
 |_,[]=>[]
 |i,v::r=>(i,v)::FD (i+1) r
section
variable {P:Program} {RD:(Nat->Prop)->World->Nat->Nat->Prop} {w0:World} {tt:List TE} {Γ:List (Nat × Nat × Ct)} {R0:Ro} {nt:Nat} {G:Gh} {w:World} {a:Act} {s:St} {Ρ:Sp}
theorem run_ldO(E:Env P RD tt Γ){T off:Nat}{cs:List Value}{v:Value}(h:ldO tt T cs off=some v){g o:Nat}(hcell:∀x v,cs[x]?=some v->w.cell? ⟨g,o+x,none⟩=some (r0 G.α v)):(loadVar T ⟨g,o+off,none⟩).run P w=.ok (r2 G.α v) w/\r2 G.α v=r1 G.α v:=by
 unfold ldO at h;split at h
 ·rename_i e he
  obtain⟨h1,h2⟩:=E.ty he;subst h2
  cases hu:Nat.beq e.u 4 with
  |true=>
   simp only[hu,cond_true]at h
   cases hle:Nat.ble (off+e.size) cs.length with
   |false=>rw[hle]at h;cases h
   |true=>
    rw[hle]at h;cases h;have hle':=AD hle;obtain⟨fs,hd,_,_⟩:=h1.struct (Nat.eq_of_beq_eq_true hu);obtain⟨i,_,hi,hs,_⟩:=h1.info;have e1:∀W,(isAgg e.ty).run P W=.ok true W:=λW=>by simp[isAgg,underlying,hd,go_sem]
    have e2:(sizeOf e.ty).run P w=.ok (((cs.drop off).take e.size).map (r0 G.α)).length w:=by simp[sizeOf,typeInfo,hi,hs,go_sem];omega
    have e3:=run_loadCells_list (P:=P) w ⟨g,o+off,none⟩ (((cs.drop off).take e.size).map (r0 G.α)) λj v hv=>by
     rw[List.getElem?_map]at hv
     cases hv':((cs.drop off).take e.size)[j]? with
     |none=>rw[hv']at hv;cases hv
     |some u=>
      rw[hv']at hv;cases hv;rw[IG,Nat.add_assoc];refine hcell _ _ ?_;rw[List.getElem?_take]at hv';split at hv'
      ·rwa [List.getElem?_drop]at hv'
      ·cases hv'
    refine⟨?_,rfl⟩;simp only[loadVar,Sem.run_bind,e1,e2,e3,Result.andThen_ok,if_true,Sem.run_pure];show Result.ok _ _=Result.ok (Value.agg _) _;simp
  |false=>
   simp only[hu,cond_false]at h;have hu':e.u≠4:=λh=>by rw[h]at hu;cases hu
   split at h
   ·rename_i u hv
    cases ho:Eo u with
    |false=>rw[ho]at h;cases h
    |true=>
     rw[ho]at h;cases h;obtain⟨d,hd,h3,h4⟩:=h1.not_struct hu'
     have e1:∀W,(isAgg e.ty).run P W=.ok false W:=λW=>by
      cases d<;>first|exact absurd rfl (h3 _)|exact absurd rfl (h4 _ _)|simp[isAgg,underlying,hd,go_sem]
     refine⟨?_,?_⟩
     ·rw[(DK ho G.α).1]
      simp[loadVar,e1,hcell _ _ hv,go_sem]
     ·rcases Ij v with⟨_,rfl⟩|⟨h5,_⟩
      ·cases ho
      ·exact h5 _
   ·cases h
 ·cases h
def resSem(tmps:Array Value):ResultVar->Sem Value
 | .tmp t=>pure (tmps.getD t undef)
 | .cell a t=>do loadVar t (<-asAddr (tmps.getD a undef))
theorem Kc(E:Env P RD tt Γ)(hs:Sat RD R0 w0 nt G s a w){r:ResultVar}{v:Value}(h:Ix tt s.t s.m r=some v):
  (resSem a.tmps r).run P w=.ok (r2 G.α v) w/\r2 G.α v=r1 G.α v:=by
 have hget:∀x u,lk s.t x=some u->a.tmps.getD x undef=r2 G.α u:=λx u hu=>by rw[Array.getD_eq_getD_getElem?,(hs.tmp x u hu).1];rfl
 unfold Ix at h;split at h
 ·rename_i x
  split at h
  ·rename_i u hu
   cases hn:Ft u with
   |false=>rw[hn]at h;cases h
   |true=>
    rw[hn]at h;cases h;refine⟨by show(Sem.run P (pure (a.tmps.getD x undef)) w)=_;rw[hget x v hu];simp,?_⟩;rcases Ij v with⟨_,rfl⟩|⟨h5,_⟩
    ·cases hn
    ·exact h5 _
  ·cases h
 ·rename_i x T
  split at h
  ·rename_i fk i off hu
   split at h
   ·rename_i b hb
    cases hk:(Nat.beq b.kd 0||Nat.beq b.kd 2) with
    |false=>rw[hk]at h;cases h
    |true=>
     rw[hk]at h
     have hkd:b.kd=0\/b.kd=2:=by
      rcases Bool.or_eq_true_iff.1 hk with h|h
      ·exact .inl (Nat.eq_of_beq_eq_true h)
      ·exact .inr (Nat.eq_of_beq_eq_true h)
     obtain⟨g,o,hg,hcell⟩:=(hs.mem i b hb).2.1.cell hkd;obtain⟨h1,h2⟩:=run_ldO (P:=P) (G:=G) (w:=w) E h hcell;refine⟨?_,h2⟩;show(Sem.run P (do loadVar T (<-asAddr (a.tmps.getD x undef))) w)=_;rw[hget x _ hu,FT fk off hg];simp only[asAddr,Sem.run_bind,Sem.run_pure,Result.andThen_ok];exact h1
   ·cases h
  ·cases h
theorem Iw(fn:Func)(tmps:Array Value):results fn tmps=(fn.results.mapM (resSem tmps) >>=λvs=>pure (if h:vs.size=1 then vs[0] else .tuple vs)):=by
 unfold results
 congr 1
theorem res_ok(E:Env P RD tt Γ)(hs:Sat RD R0 w0 nt G s a w){fn:Func}{v:Value}(h:LW tt fn.results.toList s.t s.m=some v):(results fn a.tmps).run P w=.ok (r2 G.α v) w:=by
 unfold LW at h;split at h
 ·rename_i r hr
  have hr':fn.results=#[r]:=by rw[<-Array.toArray_toList (xs:=fn.results),hr]
  obtain⟨h1,_⟩:=Kc (P:=P) E hs h;rw[Iw,hr'];simp[h1]
 ·rename_i r r' hr
  have hr':fn.results=#[r,r']:=by rw[<-Array.toArray_toList (xs:=fn.results),hr]
  split at h
  ·rename_i u u' hu hu'
   cases h;obtain⟨h1,h2⟩:=Kc (P:=P) E hs hu;obtain⟨h1',h2'⟩:=Kc (P:=P) E hs hu';rw[Iw,hr'];simp[h1,h1'];rw[h2,h2'];show _=Value.tuple (Array.map _ #[u,u']);simp
  ·cases h
 ·cases h
theorem ME:∀(l:List Value) (j i:Nat) (v:Value),lk (FD j l) i=some v->j<=i/\l[i - j]?=some v
 |[],_,_,_,h=>by cases h
 |u::r,j,i,v,h=>by
  unfold FD at h
  by_cases hj:j=i
  ·subst hj;rw[Ag]at h;cases h;exact⟨AG _,by simp⟩
  ·rw[Aw hj]at h
   obtain⟨h1,h2⟩:=ME r (j+1) i v h;exact⟨by omega,by rw[show i - j=i - (j+1)+1 by omega];exact h2⟩
def Gives(RD:(Nat->Prop)->World->Nat->Nat->Prop)(R0:Ro)(w0:World)(Post:Value->AV->Nat->Prop):Ending->World->Prop:=λe w'=>
 ∃v m q G',Post v m q/\e=.returned (r2 G'.α v)/\(∀i b,lk m i=some b->Hold RD w0 G' w' q i b)/\Clo m (BN v)/\Stp R0.R w0 w'/\(∀k,G'.Z k->k<w'.heap.size/\¬G'.RB k)/\(∀i b j c,lk m i=some b->lk m j=some c->DE b->DE c->i≠j->G'.α i≠G'.α j)/\(∀i,i<64->G'.α i=R0.A i)/\R0.n<=w'.heap.size
theorem NL(E:Env P RD tt Γ){f:Nat}{fn:Func}{c:Code}(hf:P.funcs[f]?=some fn)(hb:fn.body=some c)(hD:CL P RD tt Γ Ρ fn.ntmps c){vs:List Value}(hn:vs.length<=fn.ntmps){m0:AV}{c0 q0:Nat}{Post:Value->AV->Nat->Prop}
  (hv:vw tt Γ Ρ c (λe s=>(e=.ret\/e=.normal)/\∃v,LW tt fn.results.toList s.t s.m=some v/\Post v s.m s.q/\clo s.m (BN v)=true) ⟨FD 0 vs,m0,c0,q0⟩)
  (hm:∀i b,lk m0 i=some b->i<c0/\Hold RD w0 G w q0 i b/\Clo m0 (b.cs.flatMap Cj)) (hdis:∀i b j c,lk m0 i=some b->lk m0 j=some c->DE b->DE c->i≠j->G.α i≠G.α j) (hcl:Clo m0 (vs.flatMap BN)) (h64:64<=c0) (hz:∀k,G.Z k->k<w.heap.size/\¬G.RB k) (hr:∀k,G.RB k->R0.R k\/w0.heap.size<=k) (hrl:∀k,G.RB k->k<w.heap.size) (hfr:Stp R0.R w0 w):
  Calls P f (vs.map (r2 G.α)).toArray w (Gives RD ⟨R0.R,G.α,w.heap.size⟩ w0 Post):=by
 refine calls_of_wp hf hb (wp_mono (C6 (R0:=⟨R0.R,G.α,w.heap.size⟩) (w0:=w0) E c _ _ G _ w hD hv ?_) λe a' w' hq=>?_)
 ·refine⟨rfl,?_,λi v hi=>?_,hm,hdis,hz,hfr,hr,hrl,h64,λ_ _=>rfl,AG _⟩
  ·simp;omega
  ·obtain⟨_,h2⟩:=ME vs 0 i v hi
   rw[Nat.sub_zero]at h2;have hlt:i<vs.length:=(AC h2).1;refine⟨?_,λj hj=>hcl j (List.mem_flatMap.2 ⟨v,AE h2,hj⟩)⟩;rw[Array.getElem?_append_left (by simpa using hlt)];simp[h2]
 ·obtain⟨s,G',⟨he,v,hv,hp,hc⟩,hs⟩:=hq
  have hR:Gives RD ⟨R0.R,G.α,w.heap.size⟩ w0 Post (.returned (r2 G'.α v)) w':=⟨v,s.m,s.q,G',hp,rfl,λi b hb=>(hs.mem i b hb).2.1,DQ hc,hs.fr,hs.z3,hs.dis,hs.al,hs.sz⟩;rcases he with rfl|rfl
  ·exact⟨hs.dfr,_,res_ok E hs hv,hR⟩
  ·exact⟨hs.dfr,_,res_ok E hs hv,hR⟩
theorem vcalls(E:Env P RD tt Γ){f:Nat}{fn:Func}{c:Code}(hf:P.funcs[f]?=some fn)(hb:fn.body=some c)(hD:CL P RD tt Γ Ρ fn.ntmps c){vs:List Value}(hn:vs.length<=fn.ntmps){m0:AV}{c0 q0:Nat}{Post:Value->AV->Nat->Prop}
  (hv:vw tt Γ Ρ c (λe s=>(e=.ret\/e=.normal)/\∃v,LW tt fn.results.toList s.t s.m=some v/\Post v s.m s.q/\clo s.m (BN v)=true) ⟨FD 0 vs,m0,c0,q0⟩)
  (hm:∀i b,lk m0 i=some b->i<c0/\Hold RD w G w q0 i b/\¬DE b/\Clo m0 (b.cs.flatMap Cj)) (hcl:Clo m0 (vs.flatMap BN)) (h64:64<=c0) (hz:∀k,G.Z k->k<w.heap.size/\¬G.RB k) (hr:∀k,G.RB k->R0.R k) (hrl:∀k,G.RB k->k<w.heap.size):
  Calls P f (vs.map (r2 G.α)).toArray w (Gives RD ⟨R0.R,G.α,w.heap.size⟩ w Post):=
 NL E hf hb hD hn hv (λi b hb=>⟨(hm i b hb).1,(hm i b hb).2.1,(hm i b hb).2.2.2⟩) (λi b j b' hb _ h0=>absurd h0 (hm i b hb).2.2.1) hcl h64 hz (λk hk=>.inl (hr k hk)) hrl (.refl _ _)
end
section
variable {P:Program} {ops:Array Oper} {Q:Exit->Act->World->Prop}
theorem NJ{n g:Nat}{I:Array Bool->Act->World->Prop}
  (hw:∀listed,HeadInv .any ops n listed->∀i,i<n->listed.getD i true=false->∀t,n<=t->t∉Region.ready .any ops listed)
  (hn:n<=ops.size) (hdB:Dx .any ops n=true)
  (hop:∀listed a W i o,HeadInv .any ops n listed->I listed a W->i<n->ops[i]?=some o->listed.getD i true=false->(∀j,Region.waitsFor .any ops i j=true->listed.getD j false=true)->
   ∀K:Act->World->Prop,(∀v W',I (listed.setIfInBounds i true) (a.put o.dst v) W'->K (a.put o.dst v) W')->wpList P ops (Ch K) [o] a W)
  (hlast:∀a W,I (Bp ops n) a W->wpAny P .any ops Q g (Bp ops n) a W):
  ∀(m:Nat) (listed:Array Bool) (a:Act) (W:World),HeadInv .any ops n listed->BW n listed=m->I listed a W->wpAny P .any ops Q (m+g) listed a W
 |0,listed,a,W,inv,hm,hI=>by
  have hall:∀i,i<n->listed.getD i true=true:=by
   intro i hi;have:=List.countP_eq_zero.1 hm i (List.mem_range.2 hi)
   simpa using this
  rw[Cd inv hall]at hI ⊢;rw[Nat.zero_add];exact hlast a W hI
 |m+1,listed,a,W,inv,hm,hI=>by
  obtain⟨u,hu,hul⟩:∃u,u<n/\listed.getD u true=false:=by
   have:0<BW n listed:=by omega
   obtain⟨u,hu,hul⟩:=List.countP_pos_iff.1 this;exact⟨u,List.mem_range.1 hu,by simpa using hul⟩
  rw[show m+1+g=(m+g)+1 by omega];refine⟨λh0=>absurd h0 (C3 hdB inv u hu hul),λi hi=>?_⟩
  have hin:i<n:=by
   rcases Nat.lt_or_ge i n with h|h
   ·exact h
   ·exact absurd hi (hw listed inv u hu hul i h)
  obtain⟨hun,o,ho,hall⟩:=mem_ready.1 hi;refine Ck ho (hop listed a W i o inv hI hin ho hun (λj hj=>?_) _ λv W' hI'=>?_)
  ·obtain⟨oj,hoj,e,he,hbd,hon⟩:=Region.waitsFor_spec hj
   have:oj=o:=Option.some.inj (hoj.symm.trans ho);subst this;have hl:=hall e he hbd
   rwa [hon]at hl
  ·have his:i<listed.size:=by rw[inv.size];exact(AB ho).1
   exact NJ hw hn hdB hop hlast m _ _ W' (inv.set hi hin) (by have:=DL hin his hun;omega) hI'
theorem FG{id:Nat}{a:Act}{w:World}{l:List Oper}(n:Nat)(I:Array Bool->Act->World->Prop)(hm:P.follows .mixedOrders=true)(hB:Av l.toArray n=true)
  (h0:I (Array.replicate l.toArray.size false) a {w with drawn:=w.drawn+1})
  (hop:∀listed a W i o,HeadInv .any l.toArray n listed->I listed a W->i<n->l.toArray[i]?=some o->listed.getD i true=false->(∀j,Region.waitsFor .any l.toArray i j=true->listed.getD j false=true)->
   ∀K:Act->World->Prop,(∀v W',I (listed.setIfInBounds i true) (a.put o.dst v) W'->K (a.put o.dst v) W')->wpList P l.toArray (Ch K) [o] a W)
  (hlast:∀a W,I (Bp l.toArray n) a W->wpList P l.toArray Q (l.drop n) a W):(Code.region id l.toArray true).wp P Q a w:=by
 simp only[Av,Bool.and_eq_true,decide_eq_true_eq]at hB;obtain⟨⟨⟨⟨⟨hn,hs⟩,hc⟩,hdB⟩,hd⟩,hseq⟩:=hB;refine wp_region_any hm ?_
 have inv0:HeadInv .any l.toArray n (Array.replicate l.toArray.size false):=
  ⟨by simp,λj oj _ hl=>(by rw[getD_replicate_false]at hl;cases hl),λt _ ht=>getD_in (by simpa using ht) (getD_replicate_false _ _)⟩
 have hleft:BW n (Array.replicate l.toArray.size false)=n:=by
  unfold BW;rw[List.countP_eq_length.2]
  ·simp
  ·intro i hi
   have:i<l.toArray.size:=by have:=List.mem_range.1 hi;omega
   rw[getD_in (by simpa using this) (getD_replicate_false _ _)];rfl
 have H:=NJ (P:=P) (Q:=Q) (g:=l.toArray.size - n) (I:=I) (λlisted inv i hi hu t ht=>tail_waits hs hc hn inv _ i rfl hi hu t ht) (by omega) hdB hop
  (λa W hI=>by
   have hdl:(l.drop n).length=l.toArray.size - n:=by simp
   have:=wpAny_of_seq (md:=.any) (Q':=Q) (l.drop n) n (Bp l.toArray n) _ W (λj=>by simp[List.getElem?_drop]) (by rw[hdl];exact hseq) (hlast a W hI)
   rwa [hdl]at this)
  n _ a {w with drawn:=w.drawn+1} inv0 hleft h0
 rw[show n+(l.toArray.size - n)=l.toArray.size by omega]at H;exact H
end
def BX(l:List Oper)(j:Nat):Option Nat:=(l[j]?).bind (·.dst)
def pT(l:List Oper)(U:Nat->Value × AV)(X:Nat->Bool)(t:Tm):Nat->Tm
 |0=>t
 |k+1=>bif X k then D5 (BX l k) (U k).1 (pT l U X t k) else pT l U X t k
def pM(U:Nat->Value × AV)(X:Nat->Bool)(m:AV):Nat->AV
 |0=>m
 |k+1=>bif X k then(U k).2++pM U X m k else pM U X m k
section
variable {l:List Oper} {U U':Nat->Value × AV} {X X':Nat->Bool} {t:Tm} {m:AV} {c n:Nat}
theorem GY(d:Option Nat)(v:Value)(t:Tm)(x:Nat):lk (D5 d v t) x=if d=some x then some v else lk t x:=by
 cases d with
 |none=>rw[if_neg (by simp)];rfl
 |some y=>
  by_cases h:y=x
  ·subst h;rw[if_pos rfl];exact Ag _ _ _
  ·rw[if_neg (by simpa using h)];exact Aw h _ _
theorem IL{x:Nat}:∀k,(∀j,j<k->X j=true->BX l j≠some x)->lk (pT l U X t k) x=lk t x
 |0,_=>rfl
 |k+1,h=>by
  have ih:=IL k λj hj=>h j (by omega)
  unfold pT
  cases hX:X k with
  |false=>exact ih
  |true=>show lk (D5 _ _ _) x=_;rw[GY,if_neg (h k (by omega) hX)];exact ih
theorem IK{x j:Nat}:∀k,j<k->X j=true->BX l j=some x->(∀i,i<k->i≠j->BX l i≠some x)->lk (pT l U X t k) x=some (U j).1
 |0,hj,_,_,_=>absurd hj (by omega)
 |k+1,hj,hX,hd,hu=>by
  unfold pT
  by_cases e:j=k
  ·subst e;rw[hX];show lk (D5 _ _ _) x=_;rw[GY,if_pos hd]
  ·have ih:=IK k (by omega) hX hd λi hi=>hu i (by omega)
   cases hk:X k with
   |false=>exact ih
   |true=>show lk (D5 _ _ _) x=_;rw[GY,if_neg (hu k (by omega) (Ne.symm e))];exact ih
def Own(l:List Oper)(n:Nat):Prop:=∀i j x,i<n->j<n->i≠j->BX l i=some x->BX l j≠some x
theorem NZ(ho:Own l n){k k' x:Nat}(hk:k<=n)(hk':k'<=n)(h:∀j,j<n->BX l j=some x->((j<k/\X j=true)↔(j<k'/\X' j=true))/\(j<k->X j=true->U j=U' j)):lk (pT l U X t k) x=lk (pT l U' X' t k') x:=by
 by_cases hex:∃j,j<k/\X j=true/\BX l j=some x
 ·obtain⟨j,hj,hX,hd⟩:=hex
  obtain⟨h1,h2⟩:=h j (by omega) hd;obtain⟨hj',hX'⟩:=h1.1 ⟨hj,hX⟩;rw[IK k hj hX hd λi hi hne=>ho j i x (by omega) (by omega) (Ne.symm hne) hd,IK k' hj' hX' hd λi hi hne=>ho j i x (by omega) (by omega) (Ne.symm hne) hd,h2 hj hX]
 ·rw[IL k λj hj hX hd=>hex ⟨j,hj,hX,hd⟩,IL k' λj hj hX hd=>?_]
  obtain⟨h1,h2⟩:=(h j (by omega) hd).1.2 ⟨hj,hX⟩;exact hex ⟨j,h1,h2,hd⟩
def Keys(c:Nat)(U:Nat->Value × AV)(X:Nat->Bool)(n:Nat):Prop:=∀j,j<n->X j=true->∀i b,(i,b)∈(U j).2->c+8*j<=i/\i<c+8*j+8
theorem EC:∀k i b,lk (pM U X m k) i=some b->lk m i=some b\/∃j,j<k/\X j=true/\lk (U j).2 i=some b
 |0,i,b,h=>.inl h
 |k+1,i,b,h=>by
  unfold pM at h
  cases hX:X k with
  |false=>
   rw[hX]at h;rcases EC k i b h with h1|⟨j,hj,h1⟩
   ·exact .inl h1
   ·exact .inr ⟨j,by omega,h1⟩
  |true=>
   rw[hX]at h;change lk ((U k).2++_) i=some b at h;rw[Bc]at h
   cases hu:lk (U k).2 i with
   |some b'=>rw[hu]at h;exact .inr ⟨k,by omega,hX,by rw[hu];exact h⟩
   |none=>
    rw[hu]at h;rcases EC k i b h with h1|⟨j,hj,h1⟩
    ·exact .inl h1
    ·exact .inr ⟨j,by omega,h1⟩
theorem JC(hm:∀i b,lk m i=some b->i<c)(hK:Keys c U X n){i:Nat}{b:VB}(h:lk m i=some b):∀k,k<=n->lk (pM U X m k) i=some b
 |0,_=>h
 |k+1,hk=>by
  have ih:=JC hm hK h k (by omega);unfold pM
  cases hX:X k with
  |false=>exact ih
  |true=>
   show lk ((U k).2++_) i=some b;rw[Bc]
   cases hu:lk (U k).2 i with
   |none=>exact ih
   |some b'=>have:=hK k (by omega) hX i b' (A9 _ _ _ hu);have:=hm i b h;omega
theorem Ki(hK:Keys c U X n){j i:Nat}{b:VB}(hX:X j=true)(h:lk (U j).2 i=some b):∀k,k<=n->j<k->lk (pM U X m k) i=some b
 |0,_,hj=>absurd hj (by omega)
 |k+1,hk,hj=>by
  unfold pM
  by_cases e:j=k
  ·subst e
   rw[hX];show lk ((U j).2++_) i=some b;rw[Bc,h];rfl
  ·have ih:=Ki hK hX h k (by omega) (by omega)
   cases hk':X k with
   |false=>exact ih
   |true=>
    show lk ((U k).2++_) i=some b;rw[Bc]
    cases hu:lk (U k).2 i with
    |none=>exact ih
    |some b'=>have:=hK k (by omega) hk' i b' (A9 _ _ _ hu);have:=hK j (by omega) hX i b (A9 _ _ _ h);omega
theorem DJ(hm:∀i b,lk m i=some b->i<c)(hK:Keys c U X n){k i:Nat}{b:VB}(hk:k<=n):lk (pM U X m k) i=some b↔(lk m i=some b\/∃j,j<k/\X j=true/\lk (U j).2 i=some b):=
 ⟨EC k i b,λh=>h.elim (λh=>JC hm hK h k hk) λ⟨_,hj,hX,h⟩=>Ki hK hX h k hk hj⟩
theorem GK{m m':AV}:∀(ids:List Nat),(∀i∈ids,lk m i=lk m' i)->EZ m ids=EZ m' ids
 |[],_=>rfl
 |i::r,h=>by
  unfold EZ;rw[h i List.mem_cons_self,GK r λj hj=>h j (List.mem_cons_of_mem _ hj)]
def Ik(xs:List Operand):List Nat:=xs.filterMap λx=>match x with
 | .tmp t=>some t
 |_=>none
def He(l:List Oper)(o:Oper):List Nat:=match o.guard with
 |some (j,_)=>(BX l j).toList
 |none=>[]
theorem KN{t t':Tm}:∀(xs:List Operand),(∀x∈Ik xs,lk t x=lk t' x)->evs t xs=evs t' xs
 |[],_=>rfl
 |x::r,h=>by
  have h1:evo t x=evo t' x:=by
   cases x with
   |tmp i=>exact h i (List.mem_filterMap.2 ⟨.tmp i,List.mem_cons_self,rfl⟩)
   |_=>rfl
  unfold evs
  rw[h1,KN r λy hy=>h y (by
   obtain⟨z,hz,hz'⟩:=List.mem_filterMap.1 hy
   exact List.mem_filterMap.2 ⟨z,List.mem_cons_of_mem _ hz,hz'⟩)]
theorem MK{t t':Tm}{o:Oper}(h:∀x∈He l o,lk t x=lk t' x):DF l t o=DF l t' o:=by
 unfold DF
 cases hg:o.guard with
 |none=>rfl
 |some p=>
  obtain⟨j,b⟩:=p;simp only
  cases hj:l[j]? with
  |none=>rfl
  |some o'=>
   simp only
   cases hd:o'.dst with
   |none=>rfl
   |some d=>
    simp only;rw[h d (by unfold He BX;rw[hg];simp[hj,hd])]
theorem Sat.congr{RD:(Nat->Prop)->World->Nat->Nat->Prop}{R0:Ro}{w0 w:World}{nt:Nat}{G:Gh}{a:Act}{t t':Tm}{m m':AV}{c q:Nat}(h:Sat RD R0 w0 nt G ⟨t,m,c,q⟩ a w)(ht:∀x,lk t' x=lk t x)(hm:∀i,lk m' i=lk m i):Sat RD R0 w0 nt G ⟨t',m',c,q⟩ a w:=by
 have hc:∀ids,Clo m ids->Clo m' ids:=λids h i hi=>let ⟨b,hb⟩:=h i hi;⟨b,(hm i).trans hb⟩
 refine⟨h.dfr,h.tsz,λi v hv=>?_,λi b hb=>?_,λi b j b' hb hb'=>?_,h.z3,h.fr,h.rb,h.rl,h.c64,h.al,h.sz⟩
 ·obtain⟨h1,h2⟩:=h.tmp i v ((ht i).symm.trans hv);exact⟨h1,hc _ h2⟩
 ·obtain⟨h1,h2,h3⟩:=h.mem i b ((hm i).symm.trans hb);exact⟨h1,h2,hc _ h3⟩
 ·exact h.dis i b j b' ((hm i).symm.trans hb) ((hm j).symm.trans hb')
def OW:Op->Bool
 | .store ..=>true
 | .call ⟨.builtin .append,_,_⟩=>true
 |_=>false
def locB(l:List Oper)(n:Nat):Bool:=(List.range n).all λj=>match l[j]? with
 |some o=>!OW o.op&&(Ik (Bj o.op)++He l o).all λx=>(List.range n).all λi=>match BX l i with
  |some d=>!Nat.beq d x||(Nat.ble (i+1) j&&Bi l.toArray n j i)||(Nat.ble (j+1) i&&Bi l.toArray n i j)
  |none=>true
 |none=>false
theorem Fo(h:locB l n=true){j:Nat}{o:Oper}(hj:j<n)(ho:l[j]?=some o):OW o.op=false/\∀x∈Ik (Bj o.op)++He l o,∀i,i<n->BX l i=some x->(i<j/\Bi l.toArray n j i=true)\/(j<i/\Bi l.toArray n i j=true):=by
 have h1:=List.all_eq_true.1 h j (List.mem_range.2 hj);rw[ho]at h1;simp only[Bool.and_eq_true,Bool.not_eq_true']at h1;refine⟨h1.1,λx hx i hi hd=>?_⟩;have h2:=List.all_eq_true.1 (List.all_eq_true.1 h1.2 x hx) i (List.mem_range.2 hi);rw[hd]at h2;simp only[Bool.or_eq_true,Bool.and_eq_true,Bool.not_eq_true']at h2;rcases h2 with(h2|h2)|h2
 ·rw[show Nat.beq x x=true from by simp]at h2;cases h2
 ·exact .inl ⟨AD h2.1,h2.2⟩
 ·exact .inr ⟨AD h2.1,h2.2⟩
theorem LK{tt:List TE}{op:Op}(h:OW op=false)(vs:List Value)(m:AV):stv tt op vs m=none:=by
 unfold stv;split
 ·cases h
 ·rfl
theorem LQ{tt:List TE}{op:Op}(h:OW op=false)(id:Nat)(vs:List Value)(m:AV):rwg tt id op vs m=none:=by
 unfold rwg;split
 ·cases h
 ·cases h
 ·rfl
theorem JH(h:DY l.toArray n=true):Own l n:=λi j x hi hj hne hd hd'=>by
 have e:∀k,(l.toArray[k]?).bind (·.dst)=BX l k:=λk=>by unfold BX;simp
 rcases Nat.lt_or_gt_of_ne hne with hlt|hlt
 ·exact FV h hlt hj x ((e i).trans hd) ((e j).trans hd')
 ·exact FV h hlt hi x ((e j).trans hd') ((e i).trans hd)
theorem Jx(hdB:Dx .any l.toArray n=true):∀f p i,p<n->Bi l.toArray f p i=true->i<=p
 |0,p,i,_,h=>by rw[Nat.eq_of_beq_eq_true h];exact AG _
 |f+1,p,i,hp,h=>by
  rcases Bool.or_eq_true_iff.1 h with h|h
  ·rw[Nat.eq_of_beq_eq_true h];exact AG _
  ·obtain⟨j,hj,hj'⟩:=List.any_eq_true.1 h
   have:=List.mem_range.1 hj;obtain⟨_,h2⟩:=Bool.and_eq_true_iff.1 hj';have:=Jx hdB f j i (by omega) h2;omega
end
end
end Go.Proofs.YtbceafpodamnfaaGreat
