import Derived.Test.YtbceafpodamnfaaGreatDoorG39
set_option linter.all false
set_option maxHeartbeats 16000000
set_option maxRecDepth 100000
namespace Go.Proofs.YtbceafpodamnfaaGreatDoor
section
open Go.RowKit Go.Sort
open Go.Value renaming int->In,slice->Sl,string->Sg,bool->Bo,pointer->Po
open Go.IntKind renaming i64->i6
structure But(r:Option Nat)(W W':World):Prop where
 os:W'.os=W.os
 tape:W'.tape=W.tape
 output:W'.output=W.output
 size:W.heap.size<=W'.heap.size
 block:∀k,k<W.heap.size->r≠some k->W'.heap[k]?=W.heap[k]?
theorem But.refl(r:Option Nat)(W:World):But r W W:=⟨rfl,rfl,rfl,AG,λ_ _ _=>rfl⟩
theorem But.trans{r:Option Nat}{A B C:World}(h:But r A B)(k:But r B C):But r A C:=⟨k.os.trans h.os,k.tape.trans h.tape,k.output.trans h.output,AH h.size k.size,λi z F=>(k.block i (AF z h.size) F).trans (h.block i z F)⟩
theorem But.of{r:Option Nat}{W W':World}(h:Below W.heap.size W W'):But r W W':=⟨h.os,h.tape,h.output,h.size,λk hk _=>h.block k hk⟩
theorem But.below{r:Option Nat}{W W':World}{N:Nat}(h:But r W W')(F:N<=W.heap.size)(z:∀k,r=some k->N<=k):Below N W W':=⟨h.os,h.tape,h.output,h.size,λk hk=>h.block k qo λe=>by have:=z _ e;omega⟩
section
variable {P:Program}
theorem Hb{ops:Array Oper}{rest:List Oper}{o:Oper}{a:Act}{w:World}{Q:Exit->Act->World->Prop}(aj:o.guard=none)(s x:Operand)(t:TypeId)
  (ho:o.op=.call {callee:=.builtin .append,args:=#[s,x],argTypes:=#[t,t]})
  (base:Nat) (e:TypeId) (z:Value) (size bytes:Nat) (ht:P.underlying t=some (.slice e)) (W:(P.info? e).map (λi=>(i.zero,i.size,i.bytes))=some (some z,size,bytes)) (an:z.cells.size=size) (am:0<size)
  (v:Value) (n:Nat) (xs:qL) (hs:a.eval s=v) (M:w.ownsRow base e size v n xs)
  (da:Addr) (c:Nat) (H:qL) (hx:a.eval x=.slice (some da) 1 c) (hl:H.length=1*size) (Y:∀j u,H[j]?=some u->w.cell? (da.add j)=some u) (h1:∀u∈H,u.oneCell'=true)
  (af:n+1<=maxLen) (J:(n+1)*bytes<=140737488355328) (O:base<=w.heap.size)
  (h:∀g cap w',base<=g->Hid (w'.ownsRow base e size (.slice (qad g) (n+1) cap) (n+1) (xs++H))->Below base w w'->But v.ownBlock w w'->wpList P ops Q rest (a.put o.dst (.slice (qad g) (n+1) cap)) w'):wpList P ops Q (o::rest) a w:=by
 obtain⟨i,hi,hz,al,hb⟩:=gk W;refine gX w aj s x t ho base e i z size bytes ht hi hz al hb an am v n xs hs M da 1 c H hx hl Y h1 af J O λv' w' Z F _=>?_
 have ag:Below base w w':=⟨F.os,F.tape,F.output,F.size,λk hk=>F.block k qo (λe'=>by have:=(M.lt k e'.symm).1;omega)⟩;rcases Z.2 with⟨_,h0⟩|⟨g,cap,aq,rfl,ah,_⟩
 ·omega
 ·exact h g cap w' ah Z ag ⟨F.os,F.tape,F.output,F.size,λk hk ak=>F.block k hk (λe'=>ak e'.symm)⟩
end
theorem Mf{w w':World}{base n size:Nat}{e:TypeId}{v:Value}{xs:qL}(h:w.ownsRow base e size v n xs)(hb:Below w.heap.size w w'):w'.ownsRow base e size v n xs:=by
 refine⟨h.1,?_⟩;rcases h.2 with h|⟨g,cap,z,H,J,F,M⟩
 ·exact .inl h
 ·exact .inr ⟨g,cap,z,H,J,AK hb F (AB F).1,M⟩
theorem BkRow.but{N n g1 g2 g3 k1 k2 k3:Nat}{r:Option Nat}{W W':World}{B:Bk}(h:BkRow W N g1 g2 g3 k1 k2 k3 B)(hb:But r W W')(z:∀k,r=some k->k<n)(J:n<=N):BkRow W' N g1 g2 g3 k1 k2 k3 B:=by
 have M:=h.n1;have F:=h.n2;have H:=h.n3;exact⟨h.n1,h.n2,h.n3,h.ah.aV (hb.block g1 h.ah.lt λe=>by have:=z _ e;omega),h.ar.aV (hb.block g2 h.ar.lt λe=>by have:=z _ e;omega),h.aw.aV (hb.block g3 h.aw.lt λe=>by have:=z _ e;omega)⟩
theorem BkRow.n{W:World}{N F g1 g2 g3 k1 k2 k3:Nat}{B:Bk}(h:BkRow W N g1 g2 g3 k1 k2 k3 B)(z:F<=N):BkRow W F g1 g2 g3 k1 k2 k3 B:=⟨AH z h.n1,AH z h.n2,AH z h.n3,h.ah,h.ar,h.aw⟩
def Tj(W W':World):Prop:=∀(c:Nat) (cs:Array Value) (t:TypeId) (fr:Nat × Nat),t≠28->t≠30->W.heap[c]?=some (Obj.cells cs t fr)->W'.heap[c]?=W.heap[c]?
theorem RowIs.bA{W W':World}{e:TypeId}{size g n cap:Nat}{xs:qL}(h:RowIs W e size g n cap xs)(M:Tj W W')(F:e≠28)(H:e≠30):RowIs W' e size g n cap xs:=by
 obtain⟨_,_,z,J,_⟩:=id h;exact h.aV (M _ _ _ _ F H J)
theorem BkRow.bA{W W':World}{N g1 g2 g3 k1 k2 k3:Nat}{B:Bk}(h:BkRow W N g1 g2 g3 k1 k2 k3 B)(z:Tj W W'):BkRow W' N g1 g2 g3 k1 k2 k3 B:=
 ⟨h.n1,h.n2,h.n3,h.ah.bA z qd qd,h.ar.bA z qd qd,h.aw.bA z qd qd⟩
def BxOwn(W:World)(y:Bx):Prop:=(∃h1 h2 h3,y.a1=some ⟨h1,0,none⟩/\y.a2=some ⟨h2,0,none⟩/\y.a3=some ⟨h3,0,none⟩/\BkRow W 0 h1 h2 h3 y.c1 y.c2 y.c3 y.b)/\y.b.aP/\y.b.aU
theorem BxOwn.bA{W W':World}{y:Bx}(h:BxOwn W y)(z:Tj W W'):BxOwn W' y:=let ⟨⟨h1,h2,h3,e1,e2,e3,hk⟩,hz⟩:=h;⟨⟨h1,h2,h3,e1,e2,e3,hk.bA z⟩,hz⟩
theorem BxOwn.at{W:World}{y:Bx}(h:BxOwn W y):BkAt W y.a1 y.a2 y.a3 y.b:=by
 obtain⟨⟨H,J,M,z,F,e3,hk⟩,_⟩:=h;rw[z,F,e3];exact hk.at
theorem IL{W W':World}{x:Nat}{cs:Array Value}{fr:Nat × Nat}(hx:W.heap[x]?=some (.cells cs 30 fr))(M:BH x W W'):Tj W W':=λc F t H _ J z=>M.aL c λe=>by
 subst e;rw[hx]at z;injection z with z
 injection z with _ z
 exact J z.symm
theorem tame_but{W W':World}{N n:Nat}{v:Value}{xs:qL}(M:W.ownsRow N 28 4 v n xs)(hb:But v.ownBlock W W'):Tj W W':=λc cs t fr H _ z=>hb.block c (AB z).1 λe=>by
 rcases M.2 with⟨h,_⟩|⟨g,cap,F,h,_,J,_⟩
 ·rw[h]at e;cases e
 ·rw[h]at e
  obtain rfl:=dj (show some g=some c from e);rw[J]at z;injection z with z
  injection z with _ z
  exact H z.symm
theorem Le:(Tryz.prog.info? 23).map (·.size)=some 1:=qk
structure CyU(N x f v:Nat)(src:Array Value)(B:Bk)(g1 g2 g3 k1 k2 k3:Nat)(w:World)(k:Nat)(vs:Value)(M:List Bx)(wr:World):Prop where
 hx:qBl wr x src 30
 hf:qBl wr f qzW 30
 hv:qBl wr v #[vs,In i6 B.av,.slice (qad g1) B.ah.length k1,.slice (qad g2) B.ar.length k2,.slice (qad g3) B.aw.length k3] 30
 aW:wr.ownsRow N 28 4 vs k (Fk M)
 len:M.length=k
 bR:∀y∈M,BxOwn wr y
 bk:BkRow wr w.heap.size g1 g2 g3 k1 k2 k3 B
 below:Below w.heap.size w wr
 ns:N<=wr.heap.size
theorem past_of{N x f v k:Nat}{src:Array Value}{B:Bk}{g1 g2 g3 k1 k2 k3:Nat}{w wr:World}{vs:Value}{M:List Bx}(h:CyU N x f v src B g1 g2 g3 k1 k2 k3 w k vs M wr):∃aq J,vs=.slice aq M.length J/\SlX wr aq M/\RowT wr aq M:=by
 rcases h.aW.2 with⟨e,e0⟩|⟨g,cap,F,e,_,H,O,_,W,Y⟩
 ·have Z:M=[]:=gI (h.len.trans e0)
  subst Z;exact⟨none,0,e,λh=>absurd rfl h,λh=>absurd rfl h⟩
 ·have hr:RowIs wr 28 4 g k cap (Fk M):=⟨h.aW.1,O,F,H,W,Y⟩
  exact⟨_,cap,by rw[e,h.len],hr.slX 0,λ_ b ae z=>by
   injection z with z
   injection z with z _
   subst z
   exact⟨_,_,H⟩⟩
def CpIs(w:World)(B:Bk)(e:Ending)(w':World):Prop:=∃(aq:qO) (M:List Bx) (cq g1 k1 g2 k2 g3 k3:Nat),e=.returned (.agg (qwV aq M.length cq B (qad g1) k1 (qad g2) k2 (qad g3) k3))/\WA w' aq M (qad g1) (qad g2) (qad g3) B/\BkRow w' w.heap.size g1 g2 g3 k1 k2 k3 B/\Below w.heap.size w w'
theorem Rn(l:List Bx)(ap:qO)(cp:Nat)(B:Bk)(a1 a2 a3:qO)(c1 c2 c3:Nat)(w:World)(hW:WA w ap l a1 a2 a3 B):
  Calls Tryz.prog 50 #[.agg (qwV ap l.length cp B a1 c1 a2 c2 a3 c3)] w λe w'=>CpIs w B e w':=by
 have HW:Hid (WA w ap l a1 a2 a3 B):=hW;have cR:=hW.ok.len;clear hW
 obtain⟨W0,cb,t0,t1,aM,am⟩:∃W0,(w.alloc (.cells (qwV ap l.length cp B a1 c1 a2 c2 a3 c3) 30)).alloc (.cells qzW 30)=W0/\qBl W0 (w.heap.size) (qwV ap l.length cp B a1 c1 a2 c2 a3 c3) 30/\qBl W0 (w.heap.size+1) qzW 30/\W0.heap.size=w.heap.size+1+1/\Below w.heap.size w W0:=by
  obtain⟨z,F,H⟩:=CL w (.cells (qwV ap l.length cp B a1 c1 a2 c2 a3 c3) 30) (.cells qzW 30);exact⟨_,rfl,z,F,H,(AN w _).alloc (by show w.heap.size<=(w.heap.push _).size;simp) _⟩
 obtain⟨x,hx⟩:∃x,w.heap.size=x:=⟨_,rfl⟩;obtain⟨f,hf⟩:∃f,x+1=f:=⟨_,rfl⟩;have T0:Hid _:=t0;have T1:Hid _:=t1;have bb:Hid _:=aM;clear t0 t1 aM;go_enter Tryz.func50,Tryz.ntmps50
 go_upto_region 1 with fail
 rw[hx]at T0;rw[hx,hf]at T1;clear cb;have e1:W0.cell? ⟨x,1,none⟩=some (In i6 B.av):=AJ T0.ab 1;have e2:W0.cell? ⟨x,2,none⟩=some (Sl a1 B.ah.length c1):=AJ T0.ab 2;have e3:W0.cell? ⟨x,3,none⟩=some (Sl a2 B.ar.length c2):=AJ T0.ab 3;have e4:W0.cell? ⟨x,4,none⟩=some (Sl a3 B.aw.length c3):=AJ T0.ab 4
 go_upto_region 2 with(go_at_call 62;refine(Cj B a1 a2 a3 c1 c2 c3 _ HW.ab.ok.bs.aR (HW.ab.bT.bE.below am)).mono ?_;rintro e w1 ⟨g1,k1,g2,k2,g3,k3,rfl,hk,an⟩)
 clear e1 e2 e3 e4;have aM:=bb.ab;obtain⟨W2,al⟩:∃W2,w1.alloc (.cells #[Sl none 0 0,In i6 B.av,.slice (qad g1) B.ah.length k1,.slice (qad g2) B.ar.length k2,.slice (qad g3) B.aw.length k3] 30)=W2:=⟨_,rfl⟩;rw[al];have au:Below w1.heap.size w1 W2:=by rw[<-al];exact AN _ _
 have cS:=an.size;have cT:W2.heap.size=w1.heap.size+1:=by rw[<-al];show(w1.heap.push _).size=_;simp
 obtain⟨v,hv⟩:∃v,w1.heap.size=v:=⟨_,rfl⟩;have J0:Hid (CyU (v+1) x f v (qwV ap l.length cp B a1 c1 a2 c2 a3 c3) B g1 g2 g3 k1 k2 k3 w 0 (Sl none 0 0) [] W2):=⟨AK au (AK an T0.ab),AK au (AK an T1.ab),by rw[<-al,<-hv];exact dm w1 _,⟨rfl,.inl ⟨rfl,rfl⟩⟩,rfl,(λ_ h=>by cases h),(hk.n am.size).but (.of au) (r:=none) (n:=0) (λ_ h=>by cases h) qo,(am.trans (an.mono am.size)).trans (au.mono qo),qo⟩;rw[hv];clear al au hk an T0 T1 am bb
 go_upto_region 3 with fail
 go_loopw [4] (λiv wr=>∃(k:Nat) (vs:Value) (M:List Bx),k<=l.length/\iv=In i6 k/\CyU (v+1) x f v (qwV ap l.length cp B a1 c1 a2 c2 a3 c3) B g1 g2 g3 k1 k2 k3 w k vs M wr) (λi _=>l.length - (intOf i).toNat)
 case atStart=>exact⟨0,_,[],qo,rfl,J0.ab⟩
 case round=>
  clear J0;obtain⟨k,vs,M,hk,rfl,hJ⟩:=hrel;obtain⟨aq,cq,rfl,aD,bw⟩:=past_of hJ;have b2:Hid (SlX wr aq M):=aD;have b0:Hid (RowT wr aq M):=bw;clear aD bw;have J:Hid _:=hJ;have HX:Hid _:=hJ.hx;have HV:Hid _:=hJ.hv;have HF:Hid _:=hJ.hf;clear hJ;have ex:_=some (Value.slice ap l.length cp):=AJ HX.ab 0
  by_cases aJ:k<l.length
  rotate_left
  ·go_wp2_with (first
    |((with_reducible show wpList _ _ _ _ _ _);refine dB rfl 30 (.tmp 3) rfl v rfl 30 (qwV aq M.length cq B (qad g1) k1 (qad g2) k2 (qad g3) k3) (0,0) _ HV.ab Tryz.underlying30 rfl AO ?_)
    |((with_reducible show wpList _ _ _ _ _ _);refine qAM HF.ab AO ?_;intro wz hz on;simp only[Act.put]))
   refine dF (fj rfl _ wz f 30 (qwV aq M.length cq B (qad g1) k1 (qad g2) k2 (qad g3) k3) (0,0) _ rfl hz.ab Tryz.underlying30 rfl AO) rfl ?_;have O:WA _ aq M (qad g1) (qad g2) (qad g3) B:=⟨⟨b2.ab,λy hy=>(J.ab.bR y hy).at,J.ab.bk.at⟩,⟨by have:=J.ab.len;omega,λy hy=>(J.ab.bR y hy).2.1,λy hy=>(J.ab.bR y hy).2.2,HW.ab.ok.bz,HW.ab.ok.bs⟩,b0.ab⟩;exact⟨aq,M,cq,g1,k1,g2,k2,g3,k3,rfl,O.ai (Fm HF.ab) on,J.ab.bk.bA (IL HF.ab on),J.ab.below.trans (on.below.mono qo)⟩
  obtain⟨b,aQ,ea,ce,bo⟩:=HW.ab.bT.row (by intro h;rw[h]at aJ;simp at aJ);subst ea;obtain⟨s,ax⟩:∃s,l[k]?=some s:=⟨l[k],by simp[aJ]⟩;have bd:Hid (BxAt wr b (aQ+k*4) s):=(bo k s ax).below J.ab.below ce;have a9:Hid (BkAt w s.a1 s.a2 s.a3 s.b):=HW.ab.bT.bR s (AE ax);have bx:s.b.aU:=HW.ab.ok.ss s (AE ax);have ch:s.b.aP:=HW.ab.ok.zs s (AE ax);clear bo ax;obtain⟨n0,aA⟩:∃n0,n0=wr.heap.size:=⟨_,rfl⟩;obtain⟨N,hN⟩:∃N,v+1=N:=⟨_,rfl⟩;rw[hN]at J;have aG:Hid (wr.ownsRow N 28 4 (Value.slice aq M.length cq) k (Fk M)):=J.ab.aW;have af:∀k',(Value.slice aq M.length cq).ownBlock=some k'->k'<n0:=λk' e=>by rw[aA];exact(J.ab.aW.lt k' e).2
  have aw:∀k',(Value.slice aq M.length cq).ownBlock=some k'->N<=k':=λk' e=>(J.ab.aW.lt k' e).1
  have b9:N<=wr.heap.size:=J.ab.ns;have bz:v<wr.heap.size:=qo
  have bC:x<wr.heap.size:=qo
  have cc:b<wr.heap.size:=qo
  have bB:(Value.slice aq M.length cq).ownBlock≠some v:=λe=>by have:=aw _ e;omega
  have bD:(Value.slice aq M.length cq).ownBlock≠some x:=λe=>by have:=aw _ e;omega
  have cd:(Value.slice aq M.length cq).ownBlock≠some b:=λe=>by have:=aw _ e;omega
  have cf:(Value.slice aq M.length cq).ownBlock≠some f:=λe=>by have:=aw _ e;omega
  have aI:∀W,But (Value.slice aq M.length cq).ownBlock wr W->Below w.heap.size w W:=λW h=>J.ab.below.trans (h.below qo (λk' e=>by have:=aw _ e;omega))
  go_upto_region 5 with fail
  clear ex;refine Ez 11 9 (But (Value.slice aq M.length cq).ownBlock) (λW=>But (Value.slice aq M.length cq).ownBlock wr W) (λW=>W.ownsRow N 28 4 (Value.slice aq M.length cq) k (Fk M)) qk qk (But.refl _ _) aG.ab (λ_ _ h hb=>h.trans (.of hb)) (λ_ _ h hb=>h.trans hb) (λ_ _ h hb=>Mf h hb) ?_;refine AT qR ?_
  apply AT
  ·intro V W K AA hW hZ hd O hK
   simp only[pA,qv (hd 0)]at O;subst O;have ev0:W.cell? ⟨v,0,none⟩=some (Value.slice aq M.length cq):=AJ ((hW.block v bz bB).trans HV.ab) 0;go_wp2;exact hK.ab _ brf
  refine AT qR ?_
  apply AT
  ·intro V W K AA hW hZ hd O hK
   simp only[pA,qv (hd 2)]at O;subst O;have cM:W.cell? ⟨x,0,none⟩=some (Sl (some ⟨b,aQ,none⟩) l.length cp):=AJ ((hW.block x bC bD).trans HX.ab) 0;go_wp2;exact hK.ab _ brf
  iterate 2 refine AT qR ?_
  apply AT
  ·intro V W K AA hW hZ hd O hK
   simp only[pA,qv (hd 5)]at O;subst O;have hc:=bd.ab;unfold BxAt at hc;have bq:∀o,W.cell? ⟨b,o,none⟩=wr.cell? ⟨b,o,none⟩:=λo=>eQ (w:=wr) (hW.block b cc cd)
   simp only[<-bq]at hc;clear bq;obtain⟨q0,q1,q2,q3⟩:=hc;go_wp2;exact hK.ab _ brf
  refine Ab (λv W=>∃z m1 F Y H Z,v=.agg (qbV s.b (qad z) m1 (qad F) Y (qad H) Z)/\BkRow W n0 z F H m1 Y Z s.b) (λi hi _ W W' ⟨z,m1,F,Y,H,Z,e,hk⟩ hr=>⟨z,m1,F,Y,H,Z,e,hk.but ((DC hr).elim id But.of) af AG⟩) ?_ ?_
  ·intro V W K AA hW hZ hd O hK
   simp only[pA,qv (hd 6)]at O;subst O
   go_wp2_with fail
   refine(Cj s.b s.a1 s.a2 s.a3 s.c1 s.c2 s.c3 W bx.aR (a9.ab.below (aI W hW))).mono ?_;rintro e w2 ⟨z,m1,F,Y,H,Z,rfl,hk,hb⟩;go_wp2;exact hK.ab _ _ hb ⟨z,m1,F,Y,H,Z,rfl,hk.n (by rw[aA];exact hW.size)⟩
  refine Ab (λv W=>∃b z m1 F Y H Z,v=.slice (qad b) 1 1/\n0<=b/\qBl W b (qbV s.b (qad z) m1 (qad F) Y (qad H) Z) 28/\BkRow W n0 z F H m1 Y Z s.b) (λi hi _ W W' ⟨b,z,m1,F,Y,H,Z,e,hb,hz,hk⟩ hr=>⟨b,z,m1,F,Y,H,Z,e,hb,(((DC hr).elim id But.of).block b (AB hz).1 (λe'=>by have:=af _ e';omega)).trans hz,hk.but ((DC hr).elim id But.of) af AG⟩) ?_ ?_
  ·intro V W K AA hW hZ hd O hK
   have d7:=hd 7;simp only[pA]at O;generalize V 7=x7 at d7 O;subst O;obtain⟨z,m1,F,Y,H,Z,rfl,hk⟩:=d7;go_wp2;exact hK.ab _ _ (AN _ _) ⟨W.heap.size,z,m1,F,Y,H,Z,rfl,by rw[aA];exact hW.size,dm W _,hk.but (.of (AN _ _)) af AG⟩
  refine Ab (λv W=>∃g cap z m1 F Y H Z,v=.slice (qad g) (k+1) cap/\N<=g/\W.ownsRow N 28 4 v (k+1) (Fk M++Bx.cells ⟨s.b,some ⟨z,0,none⟩,some ⟨F,0,none⟩,some ⟨H,0,none⟩,m1,Y,Z⟩)/\BkRow W n0 z F H m1 Y Z s.b) (λi hi _ W W' ⟨g,cap,z,m1,F,Y,H,Z,e,hg,ho,hk⟩ hr=>⟨g,cap,z,m1,F,Y,H,Z,e,hg,Mf ho (ES hi hr),hk.but (.of (ES hi hr)) af AG⟩) ?_ ?_
  ·intro V W K AA hW hZ hd O hK
   have d8:=hd 8;simp only[pA,qv (hd 1)]at O;generalize V 8=x8 at d8 O;subst O;obtain⟨b8,z,m1,F,Y,H,Z,rfl,cN,ci,hk⟩:=d8;have h0:=hZ rfl;refine Hb rfl (.tmp 17) (.tmp 24) 23 rfl N 28 _ 4 80 Tryz.underlying23 GK rfl qd (Value.slice aq M.length cq) k (Fk M) rfl h0 ⟨b8,0,none⟩ 1 (Bx.cells ⟨s.b,some ⟨z,0,none⟩,some ⟨F,0,none⟩,some ⟨H,0,none⟩,m1,Y,Z⟩) rfl rfl (DI ci) (TZ _) qm qo (AH b9 hW.size) ?_;intro g cap w2 hg ho hb aC;go_wp2;exact hK.ab _ _ aC ⟨g,cap,z,m1,F,Y,H,Z,rfl,hg,ho.ab,hk.but aC af AG⟩
  refine AT qR ?_
  intro V W AA hW hS O;have d7:=hS 7;have d8:=hS 8;have d9:=hS 9;simp only[pA,qv (hS 0),qv (hS 1),qv (hS 2),qv (hS 3),qv (hS 4),qv (hS 5),qv (hS 6),qv (hS 10)]at O;clear hS;generalize V 7=x7 at d7 O;generalize V 8=x8 at d8 O;generalize V 9=x9 at d9 O;subst O;simp only[dA,dN];obtain⟨g,cap,z,m1,F,Y,H,Z,rfl,hg,ho,bv⟩:=d9;clear d7 d8;have aF:Hid _:=ho;have ba:Hid _:=bv;have HB:Hid (But (Value.slice aq M.length cq).ownBlock wr W):=hW;have VW:Hid _:=(hW.block v bz bB).trans HV.ab;clear ho bv hW
  go_upto_region 4 with((with_reducible show wpList _ _ _ _ _ _);refine Am rfl 23 (.tmp 26) (.tmp 25) rfl v 0 (.slice (qad g) (k+1) cap) rfl rfl Le rfl rfl 30 #[(Sl aq M.length cq),In i6 B.av,.slice (qad g1) B.ah.length k1,.slice (qad g2) B.ar.length k2,.slice (qad g3) B.aw.length k3] VW.ab (AD rfl) ?_;intro w3 hz on;simp only[Act.put])
  have hT:Tj wr w3:=λc cs t fr q1 q2 hc=>by
   have h4:=tame_but aG.ab HB.ab c cs t fr q1 q2 hc;exact(IL VW.ab on c cs t fr q1 q2 (h4.trans hc)).trans h4
  have cQ:=HB.ab.size
  have JN:Hid (CyU N x f v (qwV (some ⟨b,aQ,none⟩) l.length cp B a1 c1 a2 c2 a3 c3) B g1 g2 g3 k1 k2 k3 w (k+1) (.slice (qad g) (k+1) cap) (M++[⟨s.b,some ⟨z,0,none⟩,some ⟨F,0,none⟩,some ⟨H,0,none⟩,m1,Y,Z⟩]) w3):=by
   refine⟨(on.aL x qo).trans ((HB.ab.block x bC bD).trans HX.ab),(on.aL f qo).trans ((HB.ab.block f qo cf).trans HF.ab),hz.ab,?_,by rw[dE,J.ab.len];rfl,λy hy=>?_,J.ab.bk.bA hT,(aI W HB.ab).trans (on.below.mono qo),by rw[on.size];omega⟩
   ·rw[show Fk (M++[(⟨s.b,some ⟨z,0,none⟩,some ⟨F,0,none⟩,some ⟨H,0,none⟩,m1,Y,Z⟩:Bx)])=Fk M++Bx.cells ⟨s.b,some ⟨z,0,none⟩,some ⟨F,0,none⟩,some ⟨H,0,none⟩,m1,Y,Z⟩ by simp[Fk]]
    refine⟨aF.ab.1,?_⟩;rcases aF.ab.2 with⟨_,h0⟩|⟨g',bk,b6,e,q1,q2,q3⟩
    ·omega
    ·exact .inr ⟨g',bk,b6,e,q1,(on.aL g' qo).trans q2,q3⟩
   ·rcases dO.1 hy with h|h
    ·exact(J.ab.bR y h).bA hT
    ·obtain rfl:=dl.1 h
     exact⟨⟨z,F,H,rfl,rfl,rfl,(ba.ab.n (AI _)).bA (IL VW.ab on)⟩,ch,bx⟩
  rw[<-hN]at JN;clear aF ba HB VW hz on hT J aG bd a9 hN aA aI;go_wp2
  go_roundw
  case rel=>exact⟨k+1,_,_,qo,qn,JN.ab⟩
  case measure=>simp[intOf];omega
def WV(v:Value)(W:World):Prop:=∃(ap:qO) (l:List Bx) (cp:Nat) (a1 a2 a3:qO) (c1 c2 c3:Nat) (B:Bk),v=.agg (qwV ap l.length cp B a1 c1 a2 c2 a3 c3)/\WA W ap l a1 a2 a3 B
theorem WV.below{v:Value}{W W':World}(h:WV v W)(hb:Below W.heap.size W W'):WV v W':=let ⟨ap,l,cp,a1,a2,a3,c1,c2,c3,B,e,h⟩:=h;⟨ap,l,cp,a1,a2,a3,c1,c2,c3,B,e,h.below hb⟩
structure WvU(v f:Nat)(w wr:World):Prop where
 wx:∃(ap:qO) (l:List Bx) (cp:Nat) (a1 a2 a3:qO) (c1 c2 c3:Nat) (B:Bk),qBl wr v (qwV ap l.length cp B a1 c1 a2 c2 a3 c3) 30/\WA wr ap l a1 a2 a3 B
 vf:qBl wr f qzW 30
 below:Below w.heap.size w wr
section
variable {v f:Nat} {w wr w':World}
theorem WvU.bi(h:WvU v f w wr)(hb:Below wr.heap.size wr w'):WvU v f w w':=by
 obtain⟨ap,l,cp,a1,a2,a3,c1,c2,c3,B,z,F⟩:=h.wx;exact⟨⟨ap,l,cp,a1,a2,a3,c1,c2,c3,B,AK hb z (AB z).1,F.below hb⟩,AK hb h.vf (AB h.vf).1,h.below.trans (hb.mono h.below.size)⟩
theorem WvU.put(h:WvU v f w wr)(z:BH v wr w'){ap:qO}{l:List Bx}{cp:Nat}{a1 a2 a3:qO}{c1 c2 c3:Nat}{B:Bk}(hz:qBl w' v (qwV ap l.length cp B a1 c1 a2 c2 a3 c3) 30)(hA:WA wr ap l a1 a2 a3 B)(hf:v≠f)(hw:w.heap.size<=v):WvU v f w w':=by
 obtain⟨M,l',Z,F,H,J,O,W,Y,B',h1,_⟩:=h.wx;exact⟨⟨ap,l,cp,a1,a2,a3,c1,c2,c3,B,hz,hA.ai (Fm h1) z⟩,(z.aL f hf.symm).trans h.vf,h.below.trans (z.below.mono hw)⟩
end
theorem Sk(W:World):WA W none [] none none none noBk:=⟨⟨λh=>absurd rfl h,(λ_ h=>by cases h),λh=>absurd rfl h,λh=>absurd rfl h,λh=>absurd rfl h⟩,⟨AI _,(λ_ h=>by cases h),(λ_ h=>by cases h),noBk_ok.1,noBk_ok.2⟩,λh=>absurd rfl h⟩
theorem Kp(w:World):Below w.heap.size w {w with drawn:=w.drawn+1}:=⟨rfl,rfl,rfl,AG,λ_ _=>rfl⟩
theorem WV.rel{u:Value}{i p v f:Nat}{w W W':World}(h:WV u W)(z:Lg p (λW W'=>Tk W v/\BH v W W'/\WvU v f w W') i W W'):WV u W':=by
 rcases DC z with z|z
 ·obtain⟨ap,l,cp,a1,a2,a3,c1,c2,c3,B,e,h⟩:=h
  exact⟨ap,l,cp,a1,a2,a3,c1,c2,c3,B,e,h.ai z.1 z.2.1⟩
 ·exact h.below z
def CalmIs(w:World)(e:Ending)(w':World):Prop:=∃v,e=.returned v/\WIs w.heap.size w w' v
theorem ev_tick:Ev.aP ⟨1,sv0,⟨#[]⟩,0,false⟩:=⟨AI _,AI _⟩
theorem ev0_ok:ev0.aP:=⟨AI _,AI _⟩
theorem calm_any(l:List Bx)(ap:qO)(cp:Nat)(B:Bk)(a1 a2 a3:qO)(c1 c2 c3:Nat)(F:Int)(b n c:Nat)(w:World)(co:0<=F)(cr:F<=1000)(hn:n<=100)(O:IntRow w b n c)(hW:WA w ap l a1 a2 a3 B):
  Calls Tryz.prog 30 #[.agg (qwV ap l.length cp B a1 c1 a2 c2 a3 c3),In i6 F,.slice (qad b) n c] w λe w'=>CalmIs w e w':=by
 have HW:Hid (WA w ap l a1 a2 a3 B):=hW;have HI:Hid (IntRow w b n c):=O;clear hW O
 obtain⟨W0,bm,t0,t1,aH,az⟩:∃W0,(w.alloc (.cells (qwV ap l.length cp B a1 c1 a2 c2 a3 c3) 30)).alloc (.cells qzW 30)=W0/\qBl W0 (w.heap.size) (qwV ap l.length cp B a1 c1 a2 c2 a3 c3) 30/\qBl W0 (w.heap.size+1) qzW 30/\W0.heap.size=w.heap.size+1+1/\Below w.heap.size w W0:=by
  obtain⟨h1,h2,h3⟩:=CL w (.cells (qwV ap l.length cp B a1 c1 a2 c2 a3 c3) 30) (.cells qzW 30);exact⟨_,rfl,h1,h2,h3,(AN w _).alloc (by show w.heap.size<=(w.heap.push _).size;simp) _⟩
 obtain⟨x,hx⟩:∃x,w.heap.size=x:=⟨_,rfl⟩;obtain⟨f,hf⟩:∃f,x+1=f:=⟨_,rfl⟩;have T0:Hid _:=t0;have T1:Hid _:=t1;have ba:Hid _:=aH;clear t0 t1 aH;go_enter Tryz.func30,Tryz.ntmps30
 go_upto_region 1 with fail
 rw[hx]at T0;rw[hx,hf]at T1;clear bm
 go_upto_if 13 with(first
  |((with_reducible show wpList _ _ _ _ _ _);refine dB rfl 30 (.tmp 3) rfl x rfl 30 (qwV ap l.length cp B a1 c1 a2 c2 a3 c3) (0,0) _ T0.ab Tryz.underlying30 rfl AO ?_)
  |(go_at_call 31;refine(LZ l ap cp B a1 a2 a3 c1 c2 c3 _ (by have:=HW.ab.ok.len;omega) HW.ab.ok.zs (λx hx=>(HW.ab.ok.ss x hx).aR) HW.ab.ok.bz HW.ab.ok.bs.aR (HW.ab.bT.below az)).mono ?_;rintro e w1 ⟨rfl,am⟩))
 have aH:=ba.ab;have ae:Below w.heap.size w w1:=az.trans (am.mono az.size);have U0:Hid _:=AK am T0.ab;have U1:Hid _:=AK am T1.ab;have ct:=am.size;clear T0 T1 az am;cases bv:GC (l.map (·.b)) B
 ·go_wp2_with ((with_reducible show wpList _ _ _ _ _ _);refine qAM U1.ab AO ?_;intro wz hz on;simp only[Act.put])
  refine dF (fj rfl _ wz f 30 qzW (0,0) _ rfl hz.ab Tryz.underlying30 rfl AO) rfl ?_;exact⟨_,rfl,wis_iff.2 ⟨none,[],0,none,none,none,0,0,0,noBk,rfl,Sk _,ae.trans (on.below.mono qo)⟩⟩
 clear bv
 go_upto_region 4 with(go_at_call 78;refine(VI b n c _ hn (HI.ab.below ae)).mono ?_;rintro e w2 ⟨g,n',H,rfl,aG,cn,an⟩)
 have I2:Hid (IntRow w2 g n' H):=aG;have au:Below w.heap.size w w2:=ae.trans (an.mono ae.size);have X2:Hid _:=AK an U0.ab;have F2:Hid _:=AK an U1.ab;have cu:=an.size;have cj:=aG.lt;clear aG ae an U0 U1 HI
 go_upto_region 5 with((with_reducible show wpList _ _ _ _ _ _);refine dB rfl 30 (.tmp 3) rfl x rfl 30 (qwV ap l.length cp B a1 c1 a2 c2 a3 c3) (0,0) _ X2.ab Tryz.underlying30 rfl AO ?_)
 obtain⟨W3,al⟩:∃W3,w2.alloc (.cells (qwV ap l.length cp B a1 c1 a2 c2 a3 c3) 30)=W3:=⟨_,rfl⟩;rw[al];have Y:Below w2.heap.size w2 W3:=by rw[<-al];exact AN _ _
 have cv:W3.heap.size=w2.heap.size+1:=by rw[<-al];show(w2.heap.push _).size=_;simp
 have aw:Below w.heap.size w W3:=au.trans (Y.mono au.size);have V3:Hid (qBl W3 (w2.heap.size) (qwV ap l.length cp B a1 c1 a2 c2 a3 c3) 30):=by unfold Hid;rw[<-al];exact dm w2 _
 obtain⟨v,hv⟩:∃v,w2.heap.size=v:=⟨_,rfl⟩;rw[hv]at V3;rw[hv];have J0:Hid (WvU v f w W3):=⟨⟨ap,l,cp,a1,a2,a3,c1,c2,c3,B,V3.ab,HW.ab.below aw⟩,AK Y F2.ab,aw⟩;have I0:Hid (IntRow W3 g n' H):=I2.ab.below Y;clear al Y aw au V3 X2 F2 I2 HW
 go_upto_region 6 with fail
 go_loopw [9] (λiv wr=>∃k:Nat,iv=In i6 k/\k<=1000/\WvU v f w wr/\IntRow wr g n' H) (λi _=>1000 - (intOf i).toNat)
 case atStart=>exact⟨0,rfl,qo,J0.ab,I0.ab⟩
 case round=>
  clear J0 I0;obtain⟨k,rfl,hk,hJ,O⟩:=hrel;have J:Hid (WvU v f w wr):=hJ;have I:Hid (IntRow wr g n' H):=O;clear hJ O;obtain⟨ap,l,cp,a1,a2,a3,c1,c2,c3,B,ag,af⟩:=J.ab.wx;have VX:Hid _:=ag;have HA:Hid (WA _ ap l a1 a2 a3 B):=af;clear ag af
  by_cases a4:(k:Int)<F
  rotate_left
  ·have aS:decide ((k:Int)<F)=false:=by simp[a4]
   go_wp2_with (first
    |((with_reducible show wpList _ _ _ _ _ _);refine dB rfl 30 (.tmp 8) rfl v rfl 30 (qwV ap l.length cp B a1 c1 a2 c2 a3 c3) (0,0) _ VX.ab Tryz.underlying30 rfl AO ?_)
    |(go_at_call 50;refine(Rn l ap cp B a1 a2 a3 c1 c2 c3 _ HA.ab).mono ?_;rintro e w4 ⟨aq,M,cq,g1,k1,g2,k2,g3,k3,rfl,z,_,aF⟩;have ay:Hid (WA w4 aq M _ _ _ B):=z;have F4:Hid _:=AK aF J.ab.vf (AB J.ab.vf).1;have bk:Below w.heap.size w w4:=J.ab.below.trans (aF.mono J.ab.below.size);clear z aF)
    |((with_reducible show wpList _ _ _ _ _ _);refine qAM F4.ab AO ?_;intro wz hz on;simp only[Act.put]))
   refine dF (fj rfl _ wz f 30 (qwV aq M.length cq B (qad g1) k1 (qad g2) k2 (qad g3) k3) (0,0) _ rfl hz.ab Tryz.underlying30 rfl AO) rfl ?_;exact⟨_,rfl,wis_iff.2 ⟨aq,M,cq,_,_,_,k1,k2,k3,B,rfl,ay.ab.ai (Fm F4.ab) on,bk.trans (on.below.mono qo)⟩⟩
  have cl:k<1000:=qo
  have aS:decide ((k:Int)<F)=true:=by simp[a4]
  have bq:decide ((k:Int)<1000)=true:=qp
  go_upto_region 9 with(first|((with_reducible show wpList _ _ _ _ _ _);refine dB rfl 30 (.tmp 8) rfl v rfl 30 (qwV ap l.length cp B a1 c1 a2 c2 a3 c3) (0,0) _ VX.ab Tryz.underlying30 rfl AO ?_)|(go_at_call 49;refine(Kq l ap cp B a1 a2 a3 c1 c2 c3 ⟨0,0,⟨1,sv0,⟨#[]⟩,0,false⟩⟩ _ qd qd ev_tick HA.ab).mono ?_;rintro e w4 ⟨vw,vq,rfl,hv⟩;obtain⟨aq,M,cq,z1,z2,z3,d1,d2,d3,D,rfl,z,Y⟩:=wis_iff.1 hv;have ay:Hid (WA w4 aq M z1 z2 z3 D):=z;have J4:Hid _:=J.ab.bi Y;have I4:Hid (IntRow w4 g n' H):=I.ab.below Y;have aN:Hid _:=AK Y VX.ab (AB VX.ab).1;clear hv z Y)|((with_reducible show wpList _ _ _ _ _ _);refine qAM aN.ab AO ?_;intro w5 hz on;have J5:Hid (WvU v f w w5):=J4.ab.put on hz.ab ay.ab qo qo;have I5:Hid (IntRow w5 g n' H):=I4.ab.aV (on.aL g qo);clear hz on;simp only[Act.put]))
  clear J I VX HA J4 I4 aN ay aS bq
  go_upto_region 10 with fail
  go_loopw [10] (λjv wq=>∃j:Nat,j<=n'/\jv=In i6 j/\WvU v f w wq/\IntRow wq g n' H) (λi _=>n' - (intOf i).toNat)
  case atStart=>exact⟨0,qo,rfl,J5.ab,I5.ab⟩
  case round=>
   clear J5 I5;obtain⟨j,hj,rfl,hJ,O⟩:=hrel;have J:Hid (WvU v f w wr):=hJ;have I:Hid (IntRow wr g n' H):=O;clear hJ O
   by_cases bo:j<n'
   rotate_left
   ·go_wp2
    go_roundw
    case rel=>exact⟨k+1,qn,qo,J.ab,I.ab⟩
    case measure=>simp[intOf];omega
   go_upto_region 12 with fail
   refine E8 11 rfl 10 (λW=>WvU v f w W/\IntRow W g n' H) (λ_=>True) (Lg 10 (λW W'=>Tk W v/\BH v W W'/\WvU v f w W')) qk qk ⟨J.ab.bi (Kp wr),I.ab.below (Kp wr)⟩ trivial (λi W W' h hr=>(DC hr).elim (λh'=>⟨h'.2.2,h.2.aV (h'.2.1.aL g qo)⟩) λhb=>⟨h.1.bi hb,h.2.below hb⟩) (λ_ _ _ _ _ _=>trivial) ?_;refine Ab (WV) (λi hi _ W W' h hr=>h.rel hr) ?_ ?_
   ·intro V W K A O hZ hd z Z
    simp only[pA]at z;subst z;obtain⟨ap,l,cp,a1,a2,a3,c1,c2,c3,B,ag,af⟩:=O.1.wx;refine dB rfl 30 (.tmp 8) rfl v rfl 30 (qwV ap l.length cp B a1 c1 a2 c2 a3 c3) (0,0) _ ag Tryz.underlying30 rfl AO ?_;go_wp2;exact Z.ab _ _ brf ⟨ap,l,cp,a1,a2,a3,c1,c2,c3,B,rfl,af⟩
   apply AT
   ·intro V W K A O hZ hd z Z
    simp only[pA]at z;subst z;go_wp2;exact Z.ab _ brf
   apply AT
   ·intro V W K A O hZ hd z Z
    simp only[pA]at z;subst z;go_wp2;exact Z.ab _ brf
   apply AT
   ·intro V W K A O hZ hd z Z
    simp only[pA,qv (hd 1),qv (hd 2)]at z;subst z;go_wp2;exact Z.ab _ brf
   refine Ab (λu _=>∃st:Int,u=In i6 st) (λ_ _ _ _ _ h _=>h) ?_ ?_
   ·intro V W K A O hZ hd z Z
    simp only[pA,qv (hd 3)]at z;subst z;obtain⟨st,cw⟩:=O.2.cell bo;go_wp2;exact Z.ab _ _ brf ⟨st,rfl⟩
   refine Ab (λu _=>∃st:Int,u=.agg (Mv.cells ⟨st,0,ev0⟩)) (λ_ _ _ _ _ h _=>h) ?_ ?_
   ·intro V W K A O hZ hd z Z
    have d4:=hd 4;simp only[pA]at z;generalize V 4=x4 at d4 z;subst z;obtain⟨st,rfl⟩:=d4;go_wp2;exact Z.ab _ _ brf ⟨st,rfl⟩
   refine Ab (λu W=>∃vw vq,u=.tuple #[vw,vq]/\WV vw W) (λi hi _ W W' ⟨vw,vq,e,h⟩ hr=>⟨vw,vq,e,h.rel hr⟩) ?_ ?_
   ·intro V W K A O hZ hd z Z
    have d0:=hd 0;have d5:=hd 5;simp only[pA]at z;generalize V 0=x0 at d0 z;generalize V 5=x5 at d5 z;subst z;obtain⟨ap,l,cp,a1,a2,a3,c1,c2,c3,B,rfl,af⟩:=d0;obtain⟨st,rfl⟩:=d5
    go_wp2_with fail
    refine(Kq l ap cp B a1 a2 a3 c1 c2 c3 ⟨st,0,ev0⟩ W (ff 0) (by show(0:Int)<=1000;decide) ev0_ok af).mono ?_;rintro e w4 ⟨vw,vq,rfl,hv⟩;obtain⟨aq,M,cq,z1,z2,z3,d1,d2,d3,D,rfl,z,Y⟩:=wis_iff.1 hv;go_wp2;exact Z.ab _ _ Y ⟨_,_,rfl,aq,M,cq,z1,z2,z3,d1,d2,d3,D,rfl,z⟩
   refine Ab (λu W=>∃vw vq,u=.tuple #[vw,vq]/\WV vw W) (λi hi _ W W' ⟨vw,vq,e,h⟩ hr=>⟨vw,vq,e,h.rel hr⟩) ?_ ?_
   ·intro V W K A O hZ hd z Z
    have d6:=hd 6;simp only[pA]at z;generalize V 6=x6 at d6 z;subst z;obtain⟨vw,vq,rfl,h⟩:=d6;go_wp2;exact Z.ab _ _ brf ⟨vw,vq,rfl,h⟩
   refine Ab (WV) (λi hi _ W W' h hr=>h.rel hr) ?_ ?_
   ·intro V W K A O hZ hd z Z
    have d7:=hd 7;simp only[pA]at z;generalize V 7=x7 at d7 z;subst z;obtain⟨vw,vq,rfl,h⟩:=d7;go_wp2;exact Z.ab _ _ brf h
   refine Ab (λ_ _=>True) (λ_ _ _ _ _ _ _=>trivial) ?_ ?_
   ·intro V W K A O hZ hd z Z
    have d7:=hd 7;simp only[pA]at z;generalize V 7=x7 at d7 z;subst z;obtain⟨vw,vq,rfl,h⟩:=d7;go_wp2;exact Z.ab _ _ brf trivial
   refine Ab (λ_ _=>True) (λ_ _ _ _ _ _ _=>trivial) ?_ ?_
   ·intro V W K A O hZ hd z Z
    have d8:=hd 8;simp only[pA]at z;generalize V 8=x8 at d8 z;subst z;obtain⟨aq,M,cq,z1,z2,z3,d1,d2,d3,D,rfl,z⟩:=d8;obtain⟨ap,l,cp,a1,a2,a3,c1,c2,c3,B,ag,af⟩:=O.1.wx;have a9:Hid (WvU v f w W):=O.1;have aK:Hid _:=ag;have a8:Hid (WA W aq M z1 z2 z3 D):=z;clear ag af z O;refine qAM aK.ab AO ?_;intro w7 hz on;have HR:Hid (Tk W v/\BH v W w7/\WvU v f w w7):=⟨Fm aK.ab,on,a9.ab.put on hz.ab a8.ab qo qo⟩;clear hz on;go_wp2;exact Z.ab undef _ HR.ab trivial
   intro V W A O hS z;simp only[pA,qv (hS 1),qv (hS 2),qv (hS 3)]at z;clear hS;subst z;have J7:Hid (WvU v f w W):=O.1;have I7:Hid (IntRow W g n' H):=O.2;clear O;go_wp2
   go_roundw
   case rel=>exact⟨j+1,qo,qn,J7.ab,I7.ab⟩
   case measure=>simp[intOf];omega
theorem Rd.ai{r g:Nat}{w w':World}{q:Int}{cs:Array Value}{t:TypeId}{fr:Nat × Nat}(hR:Rd r w q)(hb:w.heap[g]?=some (.cells cs t fr))(M:BH g w w')(hr:r≠g)(F:∀(j:Nat) (x:Int),cs[j]?≠some (Value.int .u8 x)):Rd r w' q:=by
 obtain⟨ao,n,cap,p,c1,c2,c3,c4,W⟩:=hR;refine⟨ao,n,cap,p,(M.aL r hr).trans c1,c2,c3,c4,λhn=>?_⟩;obtain⟨b,J,Y,Z,e3,e4⟩:=W hn;refine⟨b,J,Y,by rw[M.size];exact Z,e3,λi O=>?_⟩
 by_cases z:b=g
 ·subst z
  obtain⟨x,hx,_⟩:=e4 i O;rw[gU w b _ _ _ _ hb]at hx;exact absurd hx (F _ _)
 ·obtain⟨x,hx,H⟩:=e4 i O
  exact⟨x,by rw[eQ (w:=w) (M.aL b z)];exact hx,H⟩
theorem WA.aX{r:Nat}{w w':World}{q:Int}{ap:qO}{l:List Bx}{a1 a2 a3:qO}{B:Bk}(h:WA w ap l a1 a2 a3 B)(J:Rd r w q)(hb:Past r w.heap.size w w'):WA w' ap l a1 a2 a3 B:=
 ⟨h.bT.aX J hb,h.ok,λM b H e=>by
  obtain⟨cs,fr,F⟩:=h.rt M b H e;refine⟨cs,fr,GR hb F (AB F).1 ?_⟩;rintro rfl;obtain⟨_,_,_,_,z,_⟩:=J;rw[F]at z;injection z with z
  injection z with _ z
  exact absurd z qd⟩
theorem WV.aX{r:Nat}{v:Value}{W W':World}{q:Int}(h:WV v W)(z:Rd r W q)(hb:Past r W.heap.size W W'):WV v W':=let ⟨ap,l,cp,a1,a2,a3,c1,c2,c3,B,e,h⟩:=h;⟨ap,l,cp,a1,a2,a3,c1,c2,c3,B,e,h.aX z hb⟩
structure ReU(r v f:Nat)(w:World)(q:Int)(wr:World):Prop where
 wx:∃(ap:qO) (l:List Bx) (cp:Nat) (a1 a2 a3:qO) (c1 c2 c3:Nat) (B:Bk),qBl wr v (qwV ap l.length cp B a1 c1 a2 c2 a3 c3) 30/\WA wr ap l a1 a2 a3 B
 vf:qBl wr f qzW 30
 rd:Rd r wr q
 aX:Past r w.heap.size w wr
 rf:r<f
 fv:f<v
 n0:w.heap.size<=f
theorem w_no{ap:qO}{n cp:Nat}{av:Int}{a1 a2 a3:qO}{n1 n2 n3 c1 c2 c3:Nat}:∀(j:Nat) (x:Int),(#[Sl ap n cp,In i6 av,Sl a1 n1 c1,Sl a2 n2 c2,Sl a3 n3 c3]:Array Value)[j]?≠some (Value.int .u8 x):=by
 intro j x h;rcases j with _|_|_|_|_|j<;>first|cases h|simp at h
section
variable {r v f:Nat} {w wr w':World} {q q':Int}
theorem ReU.go(h:ReU r v f w q wr)(z:Past r wr.heap.size wr w')(O:Rd r w' q'):ReU r v f w q' w':=by
 obtain⟨ap,l,cp,a1,a2,a3,c1,c2,c3,B,F,H⟩:=h.wx;have J:=h.rf;have M:=h.fv;exact⟨⟨ap,l,cp,a1,a2,a3,c1,c2,c3,B,GR z F (AB F).1 qo,H.aX h.rd z⟩,GR z h.vf (AB h.vf).1 qo,O,h.aX.next AG z,J,M,h.n0⟩
theorem ReU.bi(h:ReU r v f w q wr)(hb:Below wr.heap.size wr w'):ReU r v f w q w':=h.go (.of hb) (h.rd.below hb)
theorem ReU.step(h:ReU r v f w q wr)(z:RStep r 1 wr w'):ReU r v f w (q+1) w':=h.go z.1 (z.2 _ h.rd)
theorem ReU.mono(h:ReU r v f w q wr)(z:q<=q'):ReU r v f w q' wr:={h with rd:=h.rd.mono z}
theorem ReU.put(h:ReU r v f w q wr)(z:BH v wr w'){ap:qO}{l:List Bx}{cp:Nat}{a1 a2 a3:qO}{c1 c2 c3:Nat}{B:Bk}(hz:qBl w' v (qwV ap l.length cp B a1 c1 a2 c2 a3 c3) 30)(hA:WA wr ap l a1 a2 a3 B):ReU r v f w q w':=by
 obtain⟨O,l',aa,H,J,M,W,Y,Z,B',F,_⟩:=h.wx;have h3:=h.rf;have h4:=h.fv;have h5:=h.n0;exact⟨⟨ap,l,cp,a1,a2,a3,c1,c2,c3,B,hz,hA.ai (Fm F) z⟩,(z.aL f qo).trans h.vf,h.rd.ai F z qo w_no,h.aX.trans (.of (z.below.mono qo)),h3,h4,h5⟩
end
def SA(a b:Nat)(RA RB:World->World->Prop)(i:Nat)(W W':World):Prop:=match Nat.beq i a with
 |true=>RA W W'
 |false=>match Nat.beq i b with
  |true=>RB W W'
  |false=>Below W.heap.size W W'
theorem Gf{a b:Nat}{z RB:World->World->Prop}{i:Nat}{W W':World}(h:SA a b z RB i W W'):(i=a/\z W W')\/RB W W'\/Below W.heap.size W W':=by
 unfold SA at h;split at h
 ·rename_i hb
  exact .inl ⟨dh hb,h⟩
 ·split at h
  ·exact .inr (.inl h)
  ·exact .inr (.inr h)
def QF(r v f:Nat)(w:World)(W W':World):Prop:=Tk W v/\BH v W W'/\(∀q,ReU r v f w q W->ReU r v f w q W')/\∀q,Rd r W q->Rd r W' q
def Ov(r:Nat)(Q:Int)(W W':World):Prop:=(∃q,Rd r W q)/\Past r W.heap.size W W'/\Rd r W' Q
theorem WV.bJ{u:Value}{i a b r v f:Nat}{w W W':World}{Q:Int}(h:WV u W)(z:SA a b (Ov r Q) (QF r v f w) i W W'):WV u W':=by
 rcases Gf z with⟨_,⟨q,H⟩,F,_⟩|z|z
 ·exact h.aX H F
 ·obtain⟨ap,l,cp,a1,a2,a3,c1,c2,c3,B,e,h⟩:=h
  exact⟨ap,l,cp,a1,a2,a3,c1,c2,c3,B,e,h.ai z.1 z.2.1⟩
 ·exact h.below z
theorem re_inv{i a b r v f:Nat}{w W W':World}{Q:Int}(h:ReU r v f w Q W)(z:SA a b (Ov r Q) (QF r v f w) i W W'):ReU r v f w Q W':=by
 rcases Gf z with⟨_,_,F,H⟩|z|z
 ·exact h.go F H
 ·exact z.2.2.1 _ h
 ·exact h.bi z
theorem T7{i a b r v f:Nat}{w W W':World}{Q q:Int}(F:i≠a)(h:Rd r W q)(z:SA a b (Ov r Q) (QF r v f w) i W W'):Rd r W' q:=by
 rcases Gf z with⟨e,_⟩|z|z
 ·exact absurd e F
 ·exact z.2.2.2 _ h
 ·exact h.below z
theorem T9{r v f:Nat}{w W W':World}{Q:Int}(z:ReU r v f w Q W)(F:BH v W W'){ap:qO}{l:List Bx}{cp:Nat}{a1 a2 a3:qO}{c1 c2 c3:Nat}{B:Bk}(hz:qBl W' v (qwV ap l.length cp B a1 c1 a2 c2 a3 c3) 30)(hA:WA W ap l a1 a2 a3 B):QF r v f w W W':=by
 obtain⟨Y,l',af,J,M,O,Z,aa,ae,B',H,_⟩:=z.wx;exact⟨Fm H,F,λq h=>h.put F hz hA,λq h=>h.ai H F (by have:=z.rf;have:=z.fv;omega) w_no⟩
end
end Go.Proofs.YtbceafpodamnfaaGreatDoor
