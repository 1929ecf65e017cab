import Derived.Test.YtbceafpodamnfaaGreatH13
set_option linter.all false
namespace Go.Proofs.YtbceafpodamnfaaGreat
open Go Go.RowKit
section
variable {P:Program} {RD:(Nat->Prop)->World->Nat->Nat->Prop} {w0:World} {R0:Ro} {nt:Nat} {tt:List TE} {l:List Oper} {n c:Nat} {t:Tm} {m:AV} {U U':Nat->Value × AV} {X X':Nat->Bool}
def Ext(tt:List TE)(l:List Oper)(n c:Nat)(t:Tm)(m:AV)(U:Nat->Value × AV)(X:Nat->Bool)(U':Nat->Value × AV)(X':Nat->Bool):Prop:=Run tt [] l n c t m U' X'/\∀j,X j=true->X' j=true/\U' j=U j
theorem ext_t(F:Fix l n c t m)(h:Ext tt l n c t m U X U' X'){s:Nat}(hs:∀i,i<n->BX l i=some s->X i=true):lk (pT l U' X' t n) s=lk (pT l U X t n) s:=
 NZ F.own (AG _) (AG _) λj hj hd=>by
  have hX:=hs j hj hd;obtain⟨h1,h2⟩:=h.2 j hX;exact⟨⟨λ_=>⟨hj,hX⟩,λ_=>⟨hj,h1⟩⟩,λ_ _=>h2⟩
theorem ext_m(F:Fix l n c t m)(hR:Run tt [] l n c t m U X)(h:Ext tt l n c t m U X U' X'){i:Nat}{b:VB}(hb:lk (pM U X m n) i=some b):lk (pM U' X' m n) i=some b:=
 (DJ F.m0 (h.1.keys F) (AG _)).2 (((DJ F.m0 (hR.keys F) (AG _)).1 hb).imp id λ⟨j,h1,h2,h3⟩=>⟨j,h1,(h.2 j h2).1,by rw[(h.2 j h2).2];exact h3⟩)
theorem Ext.up{i:Nat}{p:Value × AV}(hX:X i=false)(h:Ext tt l n c t m (C7 U i p) (Ce X i) U' X'):Ext tt l n c t m U X U' X':=⟨h.1,λj hj=>by
 have hne:j≠i:=λe=>by rw[e,hX]at hj;cases hj
 obtain⟨h1,h2⟩:=h.2 j (by rw[BY hne];exact hj)
 exact⟨h1,by rw[h2,CP hne]⟩⟩
theorem nop_more(F:Fix l n c t m)(h:Run tt [] l n c t m U X){i:Nat}{o:Oper}(hi:i<n)(ho:l[i]?=some (nop o))(hg:o.guard=none)(hX:X i=false)(hr:∀i',Bi l.toArray n i i'=true->i'≠i->X i'=true):
  Run tt [] l n c t m (C7 U i (.bool true,[])) (Ce X i)/\(∀x,lk (pT l (C7 U i (.bool true,[])) (Ce X i) t n) x=lk (pT l U X t n) x)/\∀x,lk (pM (C7 U i (.bool true,[])) (Ce X i) m n) x=lk (pM U X m n) x:=by
 have hd:BX l i=none:=by unfold BX;rw[ho];rfl
 have hrun:=h.more (p:=(.bool true,[])) F hi ho hX hr ⟨.inr ⟨by unfold DF;rw[show(nop o).guard=none from hg],[.bool true],rfl,λk hk=>by rw[Bh];exact hk⟩,by rw[Bh];exact λ_ h=>(nomatch h),by rw[Bh];exact λ_ _ h=>(nomatch h)⟩;refine⟨hrun,λx=>NZ F.own (AG _) (AG _) λj hj hdj=>?_,λx=>?_⟩
 ·have hne:j≠i:=λe=>by rw[e,hd]at hdj;cases hdj
  rw[BY hne,CP hne];exact⟨Iff.rfl,λ_ _=>rfl⟩
 ·apply Option.ext
  intro b;rw[DJ F.m0 (hrun.keys F) (AG _),DJ F.m0 (h.keys F) (AG _)];refine or_congr Iff.rfl ⟨?_,?_⟩<;>rintro⟨j,h1,h2,h3⟩<;>refine⟨j,h1,?_⟩
  ·by_cases e:j=i
   ·subst e;rw[Bh]at h3;cases h3
   ·rw[BY e]at h2;rw[CP e]at h3;exact⟨h2,h3⟩
  ·have e:j≠i:=λe=>by rw[e,hX]at h2;cases h2
   rw[BY e,CP e];exact⟨h2,h3⟩
def ChI(tt:List TE)(w0:World)(l:List Oper)(n c:Nat)(t:Tm)(m:AV)(ty sz p0 d0:Nat)(ch:List (Nat × Nat × Nat))(U:Nat->Value × AV)(X:Nat->Bool)(G:Gh)(a:Act)(W:World):Prop:=
 (∀p∈B8 p0 ch,X p=false)\/∃dn rs g els b,ch=dn++rs/\X p0=true/\(∀c∈dn,X c.1=true)/\(∀c∈rs,X c.1=false)/\(b.kd=3/\b.ty=ty/\b.sz=sz/\b.cs=[])/\RowK G.Z W g b els/\Free w0 G (pM U X m n) W g/\a.tmps[H7 d0 dn]?=some (.slice (some ⟨g,0,none⟩) b.n b.cp)/\
  ∀U' X',Ext tt l n c t m U X U' X'->∀K,chn (pT l U' X' t n) (pM U' X' m n) ty sz (ch.map (·.2.2)) (Dw ty sz []) K->chn (pT l U' X' t n) (pM U' X' m n) ty sz (rs.map (·.2.2)) b K
theorem ChI.step{ty sz p0 d0 i:Nat}{ch:List (Nat × Nat × Nat)}{G G':Gh}{a:Act}{W W':World}{p:Value × AV}{d:Option Nat}{v:Value}(h:ChI tt w0 l n c t m ty sz p0 d0 ch U X G a W)(hX:X i=false)(hi:i∉B8 p0 ch)(hk:Keeps w0 G (pM U X m n) W G' (pM (C7 U i p) (Ce X i) m n) W')(hd:∀dn rs,ch=dn++rs->d≠some (H7 d0 dn)):ChI tt w0 l n c t m ty sz p0 d0 ch (C7 U i p) (Ce X i) G' (a.put d v) W':=by
 have hne:∀x∈B8 p0 ch,Ce X i x=X x:=λx hx=>BY λe=>hi (e▸hx)
 rcases h with h|⟨dn,rs,g,els,b,e1,e2,e3,e4,e5,e6,e7,e8,e9⟩
 ·exact .inl λx hx=>(hne x hx).trans (h x hx)
 ·have hin:∀cc∈ch,cc.1∈B8 p0 ch:=λcc hc=>List.mem_cons_of_mem _ (List.mem_map_of_mem hc)
  obtain⟨k1,k2⟩:=hk.2 g e7;refine .inr ⟨dn,rs,g,els,b,e1,(hne _ List.mem_cons_self).trans e2,λcc hc=>(hne _ (hin cc (by rw[e1];exact List.mem_append_left _ hc))).trans (e3 cc hc),λcc hc=>(hne _ (hin cc (by rw[e1];exact List.mem_append_right _ hc))).trans (e4 cc hc),e5,e6.step k2 (λk hk'=>(hk.1 k hk').1) (λk hk'=>(hk.1 k hk').2),k1,?_,λU' X' hE K=>e9 U' X' (hE.up hX) K⟩
  cases d with
  |none=>exact e8
  |some d=>rw[Ek,if_neg λe=>hd dn rs e1 (by rw[e])];exact e8
def gdB(l:List Oper):Bool:=l.all λo=>o.guard.isNone
def prB(l:List Oper)(n:Nat):List Nat->Bool
 |[]=>true
 |p::r=>Nat.ble (p+1) n&&r.all (λp'=>Bi l.toArray n p' p&& !Nat.beq p p')&&prB l n r
def srB(l:List Oper)(n:Nat)(ch:List (Nat × Nat × Nat)):Bool:=ch.all λc=>(List.range n).all λi=>match BX l i with
 |some d=>!Nat.beq d c.2.2||Bi l.toArray n c.1 i
 |none=>true
def ChOk(l:List Oper)(T:Nat):Nat->List (Nat × Nat × Nat)->Prop
 |_,[]=>True
 |d',(p,d,s)::r=>(∃o,l[p]?=some o/\o.op=.call ⟨.builtin .append,#[.tmp d',.tmp s],#[T,T]⟩/\o.dst=some d)/\ChOk l T d r
theorem ChOk.tail{T:Nat}:∀{dn rs:List (Nat × Nat × Nat)} {d0:Nat},ChOk l T d0 (dn++rs)->ChOk l T (H7 d0 dn) rs
 |[],_,_,h=>h
 |(_,_,_)::r,_,_,h=>ChOk.tail (dn:=r) h.2
theorem KE{p d s:Nat}:∀(dn:List (Nat × Nat × Nat)) (d0:Nat),H7 d0 (dn++[(p,d,s)])=d
 |[],_=>rfl
 |(_,d',_)::r,_=>KE r d'
theorem KD{T:Nat}:∀{dn:List (Nat × Nat × Nat)} {rs:List (Nat × Nat × Nat)} {p0 d0:Nat},BX l p0=some d0->ChOk l T d0 (dn++rs)->∃p∈B8 p0 dn,BX l p=some (H7 d0 dn)
 |[],_,p0,d0,h,_=>⟨p0,List.mem_cons_self,h⟩
 |(p,d,s)::r,rs,p0,d0,_,h=>by
  obtain⟨⟨o,h1,_,h2⟩,h3⟩:=h;obtain⟨q,hq,h4⟩:=KD (dn:=r) (p0:=p) (show BX l p=some d by unfold BX;rw[h1];exact h2) h3;exact⟨q,List.mem_cons_of_mem _ hq,h4⟩
theorem prB_ok:∀{ps:List Nat},prB l n ps=true->(∀p∈ps,p<n)/\ps.Pairwise λp p'=>Bi l.toArray n p' p=true/\p≠p'
 |[],_=>⟨λ_ h=>(nomatch h),.nil⟩
 |p::r,h=>by
  unfold prB at h;simp only[Bool.and_eq_true]at h;obtain⟨⟨h1,h2⟩,h3⟩:=h;obtain⟨h4,h5⟩:=prB_ok h3;refine⟨λq hq=>?_,.cons (λq hq=>?_) h5⟩
  ·rcases List.mem_cons.1 hq with rfl|hq
   ·exact AD h1
   ·exact h4 q hq
  ·have:=List.all_eq_true.1 h2 q hq
   simp only[Bool.and_eq_true,Bool.not_eq_true']at this;exact⟨this.1,λe=>by rw[e]at this;rw[show Nat.beq q q=true from by simp]at this;cases this.2⟩
theorem LH{a:Act}{d:Nat}{v:Value}(h:a.tmps[d]?=some v):a.eval (.tmp d)=v:=by
 show a.tmps.getD d undef=v;rw[Array.getD_eq_getD_getElem?,h];rfl
theorem put_more{a:Act}{d:Nat}{v:Value}:(a.put (some d) v).defers=a.defers/\(a.put (some d) v).tmps.size=a.tmps.size:=⟨rfl,by show(a.tmps.setIfInBounds d v).size=_;rw[Array.size_setIfInBounds]⟩
end
theorem Gt{P:Program}{RD:(Nat->Prop)->World->Nat->Nat->Prop}{tt:List TE}(E:Env P RD tt [])(hmix:P.follows .mixedOrders=true){l:List Oper}{n T p0 d0 nt id:Nat}{ch:List (Nat × Nat × Nat)}(hB:Av l.toArray n=true)(hL:locB (msk (B8 p0 ch) 0 (l.take n)) n=true)
  (hb:(Ku nt l&&gdB (l.take n)&&prB l n (B8 p0 ch)&&srB l n ch&&Dx .any (msk (B8 p0 ch) 0 (l.take n)).toArray n)=true) (h0:∃o,l[p0]?=some o/\o.op=.buildSlice T 0 #[]/\o.dst=some d0) (hch:ChOk l T d0 ch):Ho P RD nt id l.toArray true (vC tt l n T p0 d0 ch):=by
 rintro R0 w0 k ⟨t,m,c,q⟩ G a w ⟨I,hC⟩ hs
 replace hC:=hC (hs.caps I)
 simp only[Bool.and_eq_true]at hb;obtain⟨⟨⟨⟨hdB,hgd⟩,hpr⟩,hsr⟩,hdp⟩:=hb;obtain⟨hpn,hpw⟩:=prB_ok hpr;have hB':=hB;simp only[Av,Bool.and_eq_true,decide_eq_true_eq]at hB';obtain⟨⟨⟨⟨⟨hn,_⟩,_⟩,_⟩,hown⟩,_⟩:=hB';have hnl:n<l.length:=by simpa using hn
 have hownl:=JH hown;obtain⟨l',hl'⟩:∃l',msk (B8 p0 ch) 0 (l.take n)=l':=⟨_,rfl⟩;have hlen:l'.length=n:=by rw[<-hl',Nj,List.length_take];omega
 have hget:∀i,i<n->l'[i]?=(l[i]?).map λo=>bif (B8 p0 ch).any (Nat.beq i) then nop o else o:=λi hi=>by rw[<-hl',Km,Nat.zero_add,List.getElem?_take,if_pos hi]
 have hreach:∀p i,p<n->Bi l'.toArray n p i=Bi l.toArray n p i:=λp i hp=>by rw[<-hl'];exact Jw n p i hp
 have hdst:∀i x,i<n->BX l' i=some x->BX l i=some x/\i∉B8 p0 ch:=λi x hi hx=>by
  unfold BX at hx ⊢;rw[hget i hi]at hx
  cases ho:l[i]? with
  |none=>rw[ho]at hx;cases hx
  |some o=>
   rw[ho]at hx;have hx:(bif (B8 p0 ch).any (Nat.beq i) then nop o else o).dst=some x:=hx
   cases hp:(B8 p0 ch).any (Nat.beq i) with
   |true=>rw[hp]at hx;cases hx
   |false=>
    rw[hp]at hx;exact⟨hx,λh=>by rw[any_mem.2 h]at hp;cases hp⟩
 have hfree:∀p∈B8 p0 ch,∀d,BX l p=some d->∀i,i<n->BX l' i≠some d:=λp hp d hd i hi e=>by
  obtain⟨h1,h2⟩:=hdst i d hi e;exact hownl p i d (hpn p hp) hi (λe=>h2 (e▸hp)) hd h1
 rw[hl']at hL hdp
 cases hte:tyo tt T with
 |none=>rw[hte]at hC;exact hC.elim
 |some e=>
 simp only[hte]at hC
 cases hte':tyo tt e.el with
 |none=>rw[hte']at hC;exact hC.elim
 |some e'=>
 simp only[hte']at hC;obtain⟨hT1,hT2⟩:=E.ty hte;obtain⟨hT3,hT4⟩:=E.ty hte';subst hT2
 cases hcb:(((d0::ch.map (·.2.1)).all λd=>(lk t d).isNone)&&Nat.beq e.u 3&&Nat.beq e'.zero.length e'.size&&Nat.ble 1 e'.size) with
 |false=>rw[hcb]at hC;exact hC.elim
 |true=>
 rw[hcb,cond_true,IU]at hC;simp only[Bool.and_eq_true]at hcb;obtain⟨⟨⟨hnone,hu3⟩,hz9⟩,hs1⟩:=hcb;have hu3:=Nat.eq_of_beq_eq_true hu3;have hz9:=Nat.eq_of_beq_eq_true hz9;have hs1:=AD hs1;have hnone:∀d∈d0::ch.map (·.2.1),lk t d=none:=λd hd=>Option.isNone_iff_eq_none.1 (List.all_eq_true.1 hnone d hd)
 obtain⟨G1,hs⟩:=hs.rests E.rd I;generalize setl I m=m1 at hC hs;rw[hl']at hC;rw[KU]at hC;have F:Fix l' n c t m1:=⟨by omega,hL,λi j x hi hj hne hi' hj'=>hownl i j x hi hj hne (hdst i x hi hi').1 (hdst j x hj hj').1,hdp,hs.c64,λi b hb=>(hs.mem i b hb).1,λx v hx=>(hs.tmp x v hx).2,λi b hb=>(hs.mem i b hb).2.2⟩
 have hdB':Ku nt l'=true:=List.all_eq_true.2 λo ho=>by
  obtain⟨i,hi⟩:=List.getElem?_of_mem ho;have hin:i<n:=by rw[<-hlen];exact(AC hi).1
  rw[hget i hin]at hi
  cases hl:l[i]? with
  |none=>rw[hl]at hi;cases hi
  |some o'=>
   rw[hl]at hi;cases hi
   cases (B8 p0 ch).any (Nat.beq i) with
   |true=>rfl
   |false=>exact List.all_eq_true.1 hdB o' (AE hl)
 obtain⟨o0,h01,h02,h03⟩:=h0;have hd0:BX l p0=some d0:=by unfold BX;rw[h01];exact h03
 have htn:∀(U:Nat->Value × AV) (X:Nat->Bool) (p d:Nat),p∈B8 p0 ch->BX l p=some d->d∈d0::ch.map (·.2.1)->lk (pT l' U X t n) d=none:=λU X p d hp hd hm=>(IL n λj hj _=>hfree p hp d hd j hj).trans (hnone d hm)
 refine FG n (λlisted a W=>∃U G,Run tt [] l' n c t m1 U (λj=>listed.getD j false)/\Sat RD R0 w0 nt G ⟨pT l' U (λj=>listed.getD j false) t n,pM U (λj=>listed.getD j false) m1 n,c+8*l.length,q⟩ a W/\ChI tt w0 l' n c t m1 e.el e'.size p0 d0 ch U (λj=>listed.getD j false) G a W) hmix hB ?_ ?_ ?_
 ·have eX:(λj=>(Array.replicate l.toArray.size false).getD j false)=λ_=>false:=funext λj=>getD_replicate_false _ _
  rw[eX];refine⟨λ_=>(.tuple #[],[]),G1,⟨λ_ _ _ _ h=>(by cases h),λ_ _ _ _ h=>(by cases h)⟩,?_,.inl λ_ _=>rfl⟩;rw[Mc,Md];exact(hs.ids (h64:=by have h1:64<=c:=hs.c64;show 64<=c+8*l.length;omega) λi b hb=>by have:i<c:=(hs.mem i b hb).1;show i<c+8*l.length;omega).drew E
 ·intro listed a W i o inv hI hi ho hun hdeps K hK
  obtain⟨U,G,hrun,hs',hcI⟩:=hI;have ho':l[i]?=some o:=by simpa using ho
  have hsz:i<listed.size:=by rw[inv.size];simp;omega
  have hXi:(λj=>listed.getD j false) i=false:=by show listed.getD i false=false;rw[<-hun];simp[hsz]
  have hrl:∀i',Bi l.toArray n i i'=true->i'≠i->(λj=>listed.getD j false) i'=true:=λi' hr hne=>by
   obtain⟨f,hf⟩:∃f,n=f+1:=⟨n - 1,by omega⟩;rw[hf]at hr;rcases Bool.or_eq_true_iff.1 hr with h|h
   ·exact absurd (Nat.eq_of_beq_eq_true h).symm hne
   ·obtain⟨j,_,hj⟩:=List.any_eq_true.1 h
    obtain⟨h1,h2⟩:=Bool.and_eq_true_iff.1 hj;exact EK inv f j i' h2 (hdeps j h1)
  have hr:∀i',Bi l'.toArray n i i'=true->i'≠i->(λj=>listed.getD j false) i'=true:=λi' hr=>hrl i' (by rw[<-hreach i i' hi];exact hr)
  have hdo:∀x,o.dst=some x->x<nt:=λx hx=>by
   have:=List.all_eq_true.1 hdB o (AE ho');rw[hx]at this;exact AD this
  have hgo:o.guard=none:=by
   have:=List.all_eq_true.1 hgd o (AE (i:=i) (by rw[List.getElem?_take,if_pos hi];exact ho'));exact Option.isNone_iff_eq_none.1 this
  have eX:(λj=>(listed.setIfInBounds i true).getD j false)=Ce (λj=>listed.getD j false) i:=funext λj=>by
   unfold Ce
   by_cases e:j=i
   ·subst e;rw[if_pos rfl];simp[hsz]
   ·rw[if_neg e];exact getD_set_ne false (Ne.symm e)
  rw[eX]at hK;generalize (λj=>listed.getD j false)=X at *
  by_cases hip:i∈B8 p0 ch
  ·have hl2:l'[i]?=some (nop o):=by rw[hget i hi,ho',Option.map_some,any_mem.2 hip];rfl
   obtain⟨hrun2,hT,hM⟩:=nop_more F hrun hi hl2 hgo hXi hr
   have hq0:∀g,Free w0 G (pM U X m1 n) W g->∀W',W.grownBy W' (some g)->∀d v,BX l i=some d->d∈d0::ch.map (·.2.1)->Sat RD R0 w0 nt G ⟨pT l' (C7 U i (.bool true,[])) (Ce X i) t n,pM (C7 U i (.bool true,[])) (Ce X i) m1 n,c+8*l.length,q⟩ (a.put (some d) v) W':=λg hg W' hW d v hd hdm=>
    ((hs'.congr hT hM).other E.rd hW hg.1 hg.2.2.1 hg.2.2.2.1 (λj b hb=>hg.2.2.2.2 j b ((hM j).symm.trans hb)) put_more.1 put_more.2 λx u hu=>by
     have hu':=(hT x).symm.trans hu
     rw[Ek,if_neg λe=>by rw[<-e,htn U X i d hip hd hdm]at hu';cases hu'])
   rcases List.mem_cons.1 hip with rfl|hic
   ·
    have hoo:o0=o:=Option.some.inj (h01.symm.trans ho');subst hoo
    have hall:∀p∈B8 i ch,X p=false:=by
     rcases hcI with h|⟨dn,rs,_,_,_,_,h,_⟩
     ·exact h
     ·rw[hXi]at h;cases h
    have hrun':=Hx (P:=P) (w:=W) (ρ:=a.eval) hT1 hu3 hT3 hT4 h02 rfl rfl hs1 (by omega) (λ_ h=>(nomatch h))
    have hf:Free w0 G (pM U X m1 n) (W.alloc (.cells #[] e.el)) W.heap.size:=⟨hs'.fr.size,by show _<(W.heap.push _).size;simp,λh=>absurd (hs'.z3 _ h).1 (Nat.lt_irrefl _),λh=>absurd (hs'.rl _ h) (Nat.lt_irrefl _),λj b hb hob e=>by
     obtain⟨gj,e1,_,_,_,e2⟩:=((hs'.mem j b hb).2.1).own hob
     rw[e1]at e;cases e;omega⟩
    have hgr:W.grownBy (W.alloc (.cells #[] e.el)) (some W.heap.size):=⟨rfl,rfl,rfl,by show _<=(W.heap.push _).size;simp,λk hk _=>by show(W.heap.push _)[k]?=_;rw[Array.getElem?_push,if_neg (by omega)]⟩;have hgo':=hK (.slice (some ⟨W.heap.size,0,none⟩) 0 0) (W.alloc (.cells #[] e.el));rw[h03]at hgo';refine wp_val hgo hrun' ?_;rw[h03];refine hgo' ⟨_,G,hrun2,?_,.inr ⟨[],ch,W.heap.size,[],Dw e.el e'.size [],rfl,CF,(λ_ h=>(nomatch h)),λcc hc=>?_,⟨rfl,rfl,rfl,rfl⟩,⟨rfl,(λ_ h=>(nomatch h)),RowIs.new W e.el e'.size,λj el h=>(nomatch h)⟩,⟨hf.1,hf.2.1,hf.2.2.1,hf.2.2.2.1,λj b hb=>hf.2.2.2.2 j b ((hM j).symm.trans hb)⟩,?_,λ_ _ _ _ h=>h⟩⟩
    ·refine(hs'.congr hT hM).other E.rd hgr hf.1 hf.2.2.1 hf.2.2.2.1 (λj b hb=>hf.2.2.2.2 j b ((hM j).symm.trans hb)) put_more.1 put_more.2 λx u hu=>?_
     have hu':=(hT x).symm.trans hu;rw[Ek,if_neg λe=>by rw[<-e,htn U X i d0 hip hd0 List.mem_cons_self]at hu';cases hu']
    ·have hne:cc.1≠i:=λe=>(List.rel_of_pairwise_cons hpw (List.mem_map_of_mem hc)).2 e.symm
     rw[BY hne];exact hall cc.1 (List.mem_cons_of_mem _ (List.mem_map_of_mem hc))
    ·show(a.put (some d0) _).tmps[d0]?=_
     rw[Ek,if_pos rfl,if_pos (by rw[hs'.tsz];exact hdo d0 h03)];rfl
   ·
    obtain⟨cc,hcc,rfl⟩:=List.mem_map.1 hic;rcases hcI with h|⟨dn,rs,g,els,b,e1,e2,e3,e4,e5,e6,e7,e8,e9⟩
    ·exact absurd (hrl p0 (List.rel_of_pairwise_cons hpw hic).1 (List.rel_of_pairwise_cons hpw hic).2) (by rw[h p0 List.mem_cons_self];decide)
    ·cases rs with
     |nil=>exact absurd (e3 cc (by rw[e1,List.append_nil]at hcc;exact hcc)) (by rw[hXi];decide)
     |cons c1 rs=>
     have hpw':(ch.map (·.1)).Pairwise λp p'=>Bi l.toArray n p' p=true/\p≠p':=hpw.tail
     have hc1:cc=c1:=by
      have hin:cc∈c1::rs:=by
       rw[e1]at hcc;rcases List.mem_append.1 hcc with h|h
       ·exact absurd (e3 cc h) (by rw[hXi];decide)
       ·exact h
      rcases List.mem_cons.1 hin with h|h
      ·exact h
      ·rw[e1,List.map_append,List.map_cons,List.pairwise_append]at hpw'
       obtain⟨h1,h2⟩:=List.rel_of_pairwise_cons hpw'.2.1 (List.mem_map_of_mem h);exact absurd (hrl c1.1 h1 h2) (by rw[e4 c1 List.mem_cons_self];decide)
     subst hc1;obtain⟨p,d,s⟩:=cc;have hch1:=ChOk.tail (dn:=dn) (e1▸hch);obtain⟨⟨o1,o11,o12,o13⟩,_⟩:=hch1;have hoo:o1=o:=Option.some.inj (o11.symm.trans ho');subst hoo;have hdd:BX l p=some d:=by unfold BX;rw[o11];exact o13
     have hdm:d∈d0::ch.map (·.2.1):=List.mem_cons_of_mem _ (List.mem_map_of_mem (f:=λx:Nat × Nat × Nat=>x.2.1) hcc)
     -- what is put behind it,in a whole run in thought
     have hprod:∀i,i<n->BX l' i=some s->X i=true:=λi hi hx=>by
      obtain⟨hx1,hx2⟩:=hdst i s hi hx;have:=List.all_eq_true.1 (List.all_eq_true.1 hsr _ hcc) i (List.mem_range.2 hi);rw[hx1]at this;simp only[Bool.or_eq_true,Bool.not_eq_true']at this;rcases this with h|h
      ·rw[show Nat.beq s s=true from by simp]at h;cases h
      ·exact hrl i h λe=>hx2 (e▸hip)
     have hsq:Sat RD R0 w0 nt G ⟨pT l' U X t n,pM U X m1 n,c+8*l.length,q+pC [] l' X n⟩ a W:=by rw[pC_nil'];exact hs'
     obtain⟨U2,X2,G2,a2,W2,hX2,hU2,hrn2,hs2,hv2⟩:=think E F hrun (by omega) (.inl (Dy _)) hdB' hC hsq n (AG _);rw[List.drop_of_length_le (by omega)]at hv2;have hE2:Ext tt l' n c t m1 U X U2 X2:=⟨hrn2,λj hj=>⟨by rw[hX2 j,hj];rfl,hU2 j hj⟩⟩;have hc2:=e9 U2 X2 hE2 _ hv2;rw[List.map_cons]at hc2;unfold chn at hc2;rw[ext_t F hE2 hprod]at hc2
     cases hls:lk (pT l' U X t n) s with
     |none=>rw[hls]at hc2;exact hc2.elim
     |some vs=>
     have hcl:=hrun.tclo F (AG _) hls;rw[hls]at hc2;split at hc2
     ·rename_i j x1 n' x2 hv
      cases hv;obtain⟨b1,hb1⟩:=hcl j (List.mem_singleton.2 rfl);rw[ext_m F hrun hE2 hb1]at hc2;simp only at hc2
      cases hkk:((Nat.beq b1.kd 3||Nat.beq b1.kd 1)&&Nat.beq b1.sz e'.size&&Nat.beq b1.ty e.el) with
      |false=>rw[hkk]at hc2;exact hc2.elim
      |true=>
      rw[hkk,cond_true]at hc2;have hkk':=hkk;simp only[Bool.and_eq_true,Bool.or_eq_true]at hkk';obtain⟨⟨k1,k2⟩,k3⟩:=hkk';have k1:b1.kd=3\/b1.kd=1:=k1.imp Nat.eq_of_beq_eq_true Nat.eq_of_beq_eq_true;obtain⟨n1,n2,n3⟩:=hc2;have hq1:=(Ir k1 n3).1;have hev:a.eval (.tmp s)=.slice (G.α j) n' x2:=LH (hs'.tmp s _ hls).1;obtain⟨g',cap',W',hr',hgg,hgr,els',hrow⟩:=N8 (q:=q) (w0:=w0) (a:=a) (G:=G) (w:=W) (j:=j) (b:=b) (b':=b1) (els:=els) (c2:=x2) E o12 rfl hT1 hu3 hT3 hT4 hz9 (by rw[List.map_toArray,List.map_cons,List.map_cons,List.map_nil,LH e8,hev]) e6 (hs'.mem j b1 hb1).2.1 k1 n1 hq1 n2 e5.2.2.1 (Nat.eq_of_beq_eq_true k2) e5.2.1 e7.2.2.1 λk hk=>(hs'.z3 k hk).1
      have hgo':=hK (.slice (some ⟨g',0,none⟩) (b.n+n') cap') W';rw[o13]at hgo';refine wp_val hgo hr' ?_;rw[o13];have hglt:g<W.heap.size:=e7.2.1;refine hgo' ⟨_,G,hrun2,hq0 g e7 W' hgr d _ hdd hdm,.inr ⟨dn++[(p,d,s)],rs,g',els',Eu b b1 n' cap',by rw[e1,List.append_assoc];rfl,?_,λx hx=>?_,λx hx=>?_,⟨rfl,e5.2.1,e5.2.2.1,rfl⟩,hrow,?_,?_,λU3 X3 hE3 K3 h3=>?_⟩⟩
      ·rw[BY (List.rel_of_pairwise_cons hpw hic).2];exact e2
      ·rcases List.mem_append.1 hx with hx|hx
       ·by_cases e:x.1=p
        ·rw[e];exact CF
        ·rw[BY e];exact e3 x hx
       ·rw[List.mem_singleton.1 hx];exact CF
      ·rw[e1,List.map_append,List.map_cons,List.pairwise_append]at hpw'
       rw[BY (List.rel_of_pairwise_cons hpw'.2.1 (List.mem_map_of_mem hx)).2.symm];exact e4 x (List.mem_cons_of_mem _ hx)
      ·refine⟨hgg.elim (λe=>e▸e7.1) λe=>by have:=hs'.fr.size;omega,hrow.2.2.1.lt,λh=>hgg.elim (λe=>e7.2.2.1 (e▸h)) λe=>absurd (hs'.z3 g' h).1 (by omega),λh=>hgg.elim (λe=>e7.2.2.2.1 (e▸h)) λe=>absurd (hs'.rl g' h) (by omega),λx bx hbx hob e=>?_⟩
       have hbx:=(hM x).symm.trans hbx;rcases hgg with rfl|h
       ·exact e7.2.2.2.2 x bx hbx hob e
       ·obtain⟨gj,e1',_,_,_,e2'⟩:=((hs'.mem x bx hbx).2.1).own hob
        rw[e1']at e;cases e;omega
      ·rw[KE]
       show(a.put (some d) _).tmps[d]?=_;rw[Ek,if_pos rfl,if_pos (by rw[hs'.tsz];exact hdo d o13)];rfl
      ·have hE4:=hE3.up hXi
       have h4:=e9 U3 X3 hE4 K3 h3;rw[List.map_cons]at h4;unfold chn at h4;rw[ext_t F hE4 hprod,hls]at h4;simp only[ext_m F hrun hE4 hb1,hkk,cond_true]at h4;exact(Ir k1 h4.2.2).2 cap'
     ·exact hc2.elim
  ·have hl2:l'[i]?=some o:=by
    rw[hget i hi,ho',Option.map_some]
    cases hp:(B8 p0 ch).any (Nat.beq i) with
    |true=>exact absurd (any_mem.1 hp) hip
    |false=>rfl
   have hsq:Sat RD R0 w0 nt G ⟨pT l' U X t n,pM U X m1 n,c+8*l.length,q+pC [] l' X n⟩ a W:=by rw[pC_nil'];exact hs'
   have hc0:Am [] o=0:=by have:=Dy [o];unfold BG at this;omega
   have hex:=exec E F hrun (cE:=c+8*l.length) (by omega) hs' hi hl2 hXi hr hdo (.inl hc0) (L9 E F hrun (by omega) (.inl (Dy _)) hdB' hC hsq hi hl2 hXi hr) (K:=K) λv es G' W' hrun' hs2 hkp=>hK _ W' ⟨C7 U i (v,es),G',hrun',by rw[hc0]at hs2;exact hs2,hcI.step hXi hip hkp λdn rs he hd=>by
    obtain⟨p,hp,hpd⟩:=KD (dn:=dn) hd0 (he▸hch)
    have hpp:p∈B8 p0 ch:=by
     rcases List.mem_cons.1 hp with h|h
     ·exact h▸List.mem_cons_self
     ·rw[he];unfold B8;rw[List.map_append];exact List.mem_cons_of_mem _ (List.mem_append_left _ h)
    refine hownl i p _ hi (hpn p hpp) (λe=>hip (e▸hpp)) ?_ hpd
    unfold BX;rw[ho'];exact hd⟩
   unfold wpList at hex ⊢;unfold Region.wanted at hex ⊢;rw[hgo]at hex ⊢;exact hex
 ·intro a W hI
  obtain⟨U,G,hrun,hs',hcI⟩:=hI
  have hX:∀j,j<n->(λj=>(Bp l.toArray n).getD j false) j=true:=λj hj=>by
   show(Bp l.toArray n).getD j false=true;unfold Bp;rw[Array.getD_eq_getD_getElem?,Array.getElem?_ofFn,dif_pos (by simp;omega)];simp[hj]
  generalize (λj=>(Bp l.toArray n).getD j false)=X at *;have hvn:=chain F hrun hC n (AG _) hX;rw[List.drop_of_length_le (by omega)]at hvn;rcases hcI with h|⟨dn,rs,g,els,b,e1,e2,e3,e4,e5,e6,e7,e8,e9⟩
  ·exact absurd (h p0 List.mem_cons_self) (by rw[hX p0 (hpn p0 List.mem_cons_self)];decide)
  ·cases rs with
   |cons c1 rs=>exact absurd (e4 c1 List.mem_cons_self) (by rw[hX c1.1 (hpn _ (List.mem_cons_of_mem _ (List.mem_map_of_mem (by rw[e1];exact List.mem_append_right _ List.mem_cons_self))))];decide)
   |nil=>
   rw[List.append_nil]at e1;subst e1;have hfin:=e9 U X ⟨hrun,λj hj=>⟨hj,rfl⟩⟩ _ hvn;have hfin:vOr tt [] l (c+8*(l.length+1)) (l.drop n) n _ _ _:=hfin;rw[KU]at hfin;have s1:=hs'.add (id:=c+8*l.length) (c':=c+8*(l.length+1)+8*n) (ad:=⟨g,0,none⟩) (b1:=b) (AG _) (by omega) e5.2.2.2 ⟨λh=>(nomatch e5.1.symm.trans h),λh=>(nomatch e5.1.symm.trans h),λh=>(nomatch e5.1.symm.trans h),λ_=>⟨g,els,if_pos rfl,e7.1,e7.2.2.1,e7.2.2.2.1,e6⟩,λh=>(nomatch e5.1.symm.trans h),.inr (.inr (.inr (.inl e5.1)))⟩ e7.2.2.2.2
   have s2:=s1.know (d:=H7 d0 ch) (v:=.iface (c+8*l.length) (.slice none b.n b.cp)) (by rw[e8];show _=some (Value.slice (if _=_ then _ else _) _ _);rw[if_pos rfl]) λy hy=>by
    cases List.mem_singleton.1 (show y∈[c+8*l.length] from hy);exact⟨b,Ag _ _ _⟩
   refine GP E (ops:=l) (l.drop n) n _ _ _ a W q ?_ hfin s2 (.inl (Dy _)) λt' m' G' a' w' hk hs4=>⟨rfl,_,G',hk,?_⟩
   ·exact List.all_eq_true.2 λo ho=>List.all_eq_true.1 hdB o (List.mem_of_mem_drop ho)
   ·rw[show n+(l.drop n).length=l.length by simp;omega,Dy]at hs4
    exact hs4
section
variable {P:Program} {RD:(Nat->Prop)->World->Nat->Nat->Prop} {tt:List TE} {Γ:List (Nat × Nat × Ct)} {nt id:Nat} {ops:Array Oper} {d:Bool}
def Oa(tt:List TE)(Γ:List (Nat × Nat × Ct))(ops:List Oper)(s:St)(k:St->Prop):Prop:=∃s',Ent s s'/\vRr tt Γ ops s' k
def cutS(C:St->(St->Prop)->Prop)(s:St)(k:St->Prop):Prop:=∃s',Ent s s'/\C s' k
theorem cutS_ok(E:Env P RD tt Γ){C:St->(St->Prop)->Prop}(h:Ho P RD nt id ops d C):Ho P RD nt id ops d (cutS C):=by
 rintro R0 w0 k s G a w ⟨s',hE,hC⟩ hs;obtain⟨G',hs'⟩:=hs.ent E hE;exact h R0 w0 k s' G' a w hC hs'
theorem Gr(E:Env P RD tt Γ)(hmix:P.follows .mixedOrders=true)(hc:EG [] nt (.region id ops d)=true):Ho P RD nt id ops d (Oa tt Γ ops.toList):=by
 rintro R0 w0 k s G a w ⟨s',hE,hv⟩ hs;obtain⟨G',hs'⟩:=hs.ent E hE;rw[vRr_eq]at hv;refine wp_mono (C6 (R0:=R0) (w0:=w0) E (.region id ops d) (λe s=>match e with| .normal=>k s|_=>False) s' G' a w (CR E hmix _ (.nil _) hc) (by rw[vw];exact hv) hs') ?_;rintro e a' w' ⟨s1,G1,hq,h1⟩;cases e<;>first|exact⟨rfl,s1,G1,hq,h1⟩|exact hq.elim
end
def Gg(i:Nat)(c:Code):List Oper:=match Kd i c with
 |(a,_)::_=>a.toList
 |[]=>[]
end Go.Proofs.YtbceafpodamnfaaGreat
