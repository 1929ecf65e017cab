import Derived.Test.YtbceafpodamnfaaGreatDoorG02
set_option linter.all false
namespace Go.Proofs.YtbceafpodamnfaaGreatDoor
open Go.RowKit
open Go.Value renaming int->In,slice->Sl,string->Sg,bool->Bo,pointer->Po
open Go.IntKind renaming i64->i6
theorem Aw{β:Type}:∀(l:List (Nat × β)) (i:Nat) (b:β),lk l i=some b->(i,b)∈l
 |[],_,_,h=>by cases h
 |(j,c)::r,i,b,h=>by
  unfold lk at h
  cases z:Nat.beq j i with
  |true=>rw[z]at h;cases h;rw[dh z];exact dP
  |false=>rw[z]at h;exact dQ _ (Aw r i b h)
theorem Ae{β:Type}(i:Nat)(b:β)(r:List (Nat × β)):lk ((i,b)::r) i=some b:=by
 unfold lk;rw[show Nat.beq i i=true from by simp];rfl
theorem Au{β:Type}{i j:Nat}(h:j≠i)(b:β)(r:List (Nat × β)):lk ((j,b)::r) i=lk r i:=by
 conv=>lhs;unfold lk
 rw[show Nat.beq j i=false from by cases hb:Nat.beq j i;rfl;exact absurd (dh hb) h];rfl
theorem B9{β:Type}:∀(l m:List (Nat × β)) (i:Nat),lk (l++m) i=(lk l i).or (lk m i)
 |[],_,_=>rfl
 |(j,c)::r,m,i=>by
  by_cases h:j=i
  ·subst h;rw[fu,Ae,Ae];rfl
  ·rw[fu,Au h,Au h];exact B9 r m i
structure Stp(RB:Nat->Prop)(w w':World):Prop where
 os:w'.os=w.os
 tape:w'.tape=w.tape
 output:w'.output=w.output
 size:w.heap.size<=w'.heap.size
 block:∀k,k<w.heap.size->¬RB k->w'.heap[k]?=w.heap[k]?
theorem Stp.refl(RB:Nat->Prop)(w:World):Stp RB w w:=⟨rfl,rfl,rfl,AG,λ_ _ _=>rfl⟩
theorem Stp.alloc(RB:Nat->Prop)(w:World)(o:Obj):Stp RB w (w.alloc o):=
 ⟨rfl,rfl,rfl,by show _<=(w.heap.push o).size;simp,λk hk _=>by show(w.heap.push o)[k]?=_;rw[dw,dk qo]⟩
theorem Stp.trans{RB z:Nat->Prop}{a b c:World}(h:Stp RB a b)(k:Stp z b c)(J:∀i,z i->RB i\/a.heap.size<=i):Stp RB a c:=
 ⟨k.os.trans h.os,k.tape.trans h.tape,k.output.trans h.output,AH h.size k.size,λi F H=>(k.block i (AF F h.size) λhb=>(J i hb).elim H (λM=>qo)).trans (h.block i F H)⟩
def Clo(m:AW)(l:List Nat):Prop:=∀i∈l,∃b,lk m i=some b
structure Gh where
 α:Nat->Option Addr
 Z:Nat->Prop
 RB:Nat->Prop
def ElOk(Z:Nat->Prop)(w:World)(g off:Nat)(el:qL)(E:World->List Value->Prop):Prop:=
 (∀x v,el[x]?=some v->w.cell? ⟨g,off+x,none⟩=some v/\∀β,r0 β v=v)/\∀W:World,(∀k,Z k->W.heap[k]?=w.heap[k]?)->E W el
def RowK(Z:Nat->Prop)(w:World)(g:Nat)(b:VB)(els:List (List Value)):Prop:=
 els.length=b.n/\(∀el∈els,el.length=b.sz/\∀v∈el,v.oneCell'=true/\∀β,r0 β v=v)/\RowIs w b.ty b.sz g b.n b.cp els.flatten/\∀j el,els[j]?=some el->(∀k,b.Q j k->k el)/\∀W:World,(∀k,Z k->W.heap[k]?=w.heap[k]?)->b.E W el
def EN(b:VB):Prop:=b.kd=0\/b.kd=3
section
variable (RD:(Nat->Prop)->World->Nat->Nat->Prop)
def CR:Prop:=∀(Z Z':Nat->Prop) (w w':World) (g q q':Nat),RD Z w g q->(∀k,Z k->Z' k)->w'.heap[g]?=w.heap[g]?->(∀k,Z k->w'.heap[k]?=w.heap[k]?)->q<=q'->RD Z' w' g q'
structure Hold(w0:World)(G:Gh)(w:World)(q i:Nat)(b:VB):Prop where
 k0:b.kd=0->∃g,G.α i=some ⟨g,0,none⟩/\w0.heap.size<=g/\¬G.Z g/\¬G.RB g/\w.heap[g]?=some (.cells (b.cs.map (r0 G.α)).toArray b.ty (0,0))
 k1:b.kd=1->∀j,j<b.n->∃g o el,G.α i=some ⟨g,o,none⟩/\G.Z g/\(∀k,b.Q j k->k el)/\ElOk G.Z w g (o+j*b.sz) el b.E
 k2:b.kd=2->∃g o,G.α i=some ⟨g,o,none⟩/\G.Z g/\ElOk G.Z w g o b.cs b.E
 k3:b.kd=3->∃g els,G.α i=some ⟨g,0,none⟩/\w0.heap.size<=g/\¬G.Z g/\¬G.RB g/\RowK G.Z w g b els
 k4:b.kd=4->∃g,G.α i=some ⟨g,0,none⟩/\G.RB g/\RD G.Z w g q
 kk:b.kd=0\/b.kd=1\/b.kd=2\/b.kd=3\/b.kd=4\/b.kd=7
structure Ro where
 R:Nat->Prop
 A:Nat->Option Addr
 n:Nat
structure GS(G:Gh)(w:World)(q:Nat)(G':Gh)(w':World)(q' id:Nat):Prop where
 bw:Stp G.RB w w'
 al:∀i,i<id\/id+8<=i->G'.α i=G.α i
 z1:∀k,G.Z k->G'.Z k
 z2:∀k,G'.Z k->G.Z k\/w.heap.size<=k
 z3:∀k,G'.Z k->k<w'.heap.size/\¬G'.RB k
 r1:∀k,G.RB k->G'.RB k
 r2:∀k,G'.RB k->G.RB k\/w.heap.size<=k
 r3:∀k,G'.RB k->k<w'.heap.size
 rd:∀g,G.RB g->RD G.Z w g q->RD G'.Z w' g q'
structure NewOk(w0:World)(G':Gh)(w w':World)(q':Nat)(es:AW):Prop where
 be:∀i b,(i,b)∈es->Hold RD w0 G' w' q' i b
 aW:∀i b,(i,b)∈es->EN b->∃g,G'.α i=some ⟨g,0,none⟩/\w.heap.size<=g
 bO:∀i b j c,(i,b)∈es->(j,c)∈es->EN b->EN c->i≠j->G'.α i≠G'.α j
structure Sat(R0:Ro)(w0:World)(nt:Nat)(G:Gh)(s:St)(a:Act)(w:World):Prop where
 ci:a.defers=[]
 bX:a.tmps.size=nt
 tmp:∀i v,lk s.t i=some v->a.tmps[i]?=some (r2 G.α v)/\Clo s.m (Bc v)
 mem:∀i b,lk s.m i=some b->i<s.c/\Hold RD w0 G w s.q i b/\Clo s.m (b.cs.flatMap DJ)
 bO:∀i b j c,lk s.m i=some b->lk s.m j=some c->EN b->EN c->i≠j->G.α i≠G.α j
 z3:∀k,G.Z k->k<w.heap.size/\¬G.RB k
 fr:Stp R0.R w0 w
 rb:∀k,G.RB k->R0.R k\/w0.heap.size<=k
 rl:∀k,G.RB k->k<w.heap.size
 bD:64<=s.c
 al:∀i,i<64->G.α i=R0.A i
 sz:R0.n<=w.heap.size
end
theorem GQ{α β:Nat->Option Addr}:∀v:Value,(∀i∈DJ v,β i=α i)->r0 β v=r0 α v
 | .complex k i o,h=>by show Value.pointer _=Value.pointer _;rw[h i (dl.2 rfl)]
 | .iface i u,h=>by
  cases u with
  |slice a n c'=>show Value.slice _ _ _=Value.slice _ _ _;rw[h i (dl.2 rfl)]
  |pointer p=>cases p with
   |none=>rfl
   |some p=>show Value.pointer _=Value.pointer _;rw[h i (dl.2 rfl)]
  |_=>rfl
 | Bo _,_| .int ..,_| .float ..,_| Sg _,_| .pointer _,_| .slice ..,_| .map _,_| .chan _,_| .func ..,_| .nilFunc,_| .nilIface,_| .agg _,_| .tuple _,_=>rfl
theorem GT{f g:Value->Value}{z:Value->List Nat}{α β:Nat->Option Addr}(h:∀v,(∀i∈z v,β i=α i)->f v=g v)(cs:qL)(F:∀i∈cs.flatMap z,β i=α i):cs.map f=cs.map g:=
 fA λv hv=>h v λi H=>F i (dZ.2 ⟨v,hv,H⟩)
theorem NS{f g:Value->Value}{z:Value->List Nat}{α β:Nat->Option Addr}(h:∀v,(∀i∈z v,β i=α i)->f v=g v)(cs:Array Value)(F:∀i∈cs.toList.flatMap z,β i=α i):cs.map f=cs.map g:=by
 apply jb;rw[eN,eN];exact GT h cs.toList F
theorem NX(v:Value):(∃cs,v=.agg cs)\/((∀β,r1 β v=r0 β v)/\RN v=DJ v/\v.cells=#[v]/\Ad v=[v]):=by
 cases v with
 |agg cs=>exact .inl ⟨cs,rfl⟩
 |_=>exact .inr ⟨λ_=>rfl,rfl,rfl,rfl⟩
theorem MA(v:Value):(∃cs,v=.tuple cs)\/((∀β,r2 β v=r1 β v)/\Bc v=RN v):=by
 cases v with
 |tuple cs=>exact .inl ⟨cs,rfl⟩
 |_=>exact .inr ⟨λ_=>rfl,rfl⟩
theorem Qq{α β:Nat->Option Addr}(v:Value)(h:∀i∈RN v,β i=α i):r1 β v=r1 α v:=by
 rcases NX v with⟨cs,rfl⟩|⟨z,F,_⟩
 ·show Value.agg _=Value.agg _;rw[NS GQ cs h]
 ·rw[z,z,GQ v (F▸h)]
theorem Jj{α β:Nat->Option Addr}(v:Value)(h:∀i∈Bc v,β i=α i):r2 β v=r2 α v:=by
 rcases MA v with⟨cs,rfl⟩|⟨z,F⟩
 ·show Value.tuple _=Value.tuple _;rw[NS Qq cs h]
 ·rw[z,z,Qq v (F▸h)]
theorem Cg{m:AW}{l:List Nat}(h:clo m l=true):Clo m l:=λi z=>by
 have:=dt.1 h i z
 cases F:lk m i with
 |none=>rw[F]at this;cases this
 |some b=>exact⟨b,rfl⟩
theorem Clo.mono{m m':AW}{l:List Nat}(h:Clo m l)(F:∀i b,lk m i=some b->∃b',lk m' i=some b'):Clo m' l:=λi z=>let ⟨b,hb⟩:=h i z;F i b hb
section
variable {RD:(Nat->Prop)->World->Nat->Nat->Prop} {w0:World} {G G':Gh} {w w':World} {q q' id:Nat}
theorem cell_blk{w w':World}{g o:Nat}{s:Option Nat}(h:w'.heap[g]?=w.heap[g]?):w'.cell? ⟨g,o,s⟩=w.cell? ⟨g,o,s⟩:=by
 unfold World.cell?;rw[show(w'.heap[(⟨g,o,s⟩:Addr).block]?)=w.heap[(⟨g,o,s⟩:Addr).block]? from h]
theorem ElOk.step{Z F:Nat->Prop}{g z:Nat}{el:qL}{E:World->List Value->Prop}(h:ElOk Z w g z el E)(J:Z g)(M:∀k,Z k->F k)(hb:∀k,Z k->w'.heap[k]?=w.heap[k]?):ElOk F w' g z el E:=
 ⟨λx v hx=>⟨(cell_blk (hb g J)).trans (h.1 x v hx).1,(h.1 x v hx).2⟩,λW H=>h.2 W λk hk=>(H k (M k hk)).trans (hb k hk)⟩
theorem RowK.step{Z z:Nat->Prop}{g:Nat}{b:VB}{els:List (List Value)}(h:RowK Z w g b els)(J:w'.heap[g]?=w.heap[g]?)(M:∀k,Z k->z k)(hb:∀k,Z k->w'.heap[k]?=w.heap[k]?):RowK z w' g b els:=
 ⟨h.1,h.2.1,h.2.2.1.aV J,λj el F=>⟨(h.2.2.2 j el F).1,λW H=>(h.2.2.2 j el F).2 W λk hk=>(H k (M k hk)).trans (hb k hk)⟩⟩
theorem Hold.aW{i:Nat}{b:VB}(h:Hold RD w0 G w q i b)(W:EN b):∃g,G.α i=some ⟨g,0,none⟩/\w0.heap.size<=g/\¬G.Z g/\¬G.RB g/\g<w.heap.size:=by
 rcases W with z|z
 ·obtain⟨g,F,H,J,M,O⟩:=h.k0 z
  exact⟨g,F,H,J,M,(AB O).1⟩
 ·obtain⟨g,els,F,H,J,M,O⟩:=h.k3 z
  exact⟨g,F,H,J,M,O.2.2.1.lt⟩
theorem Hold.step{i:Nat}{b:VB}(h:Hold RD w0 G w q i b)(z:GS RD G w q G' w' q' id)(hz:∀k,G.Z k->k<w.heap.size/\¬G.RB k)(Y:i<id\/id+8<=i)(hb:∀j∈b.cs.flatMap DJ,j<id\/id+8<=j):Hold RD w0 G' w' q' i b:=by
 have F:∀k,G.Z k->w'.heap[k]?=w.heap[k]?:=λk hk=>z.bw.block k (hz k hk).1 (hz k hk).2
 refine⟨λh0=>?_,λh1 j hj=>?_,λh2=>?_,λh3=>?_,λh4=>?_,h.kk⟩
 ·obtain⟨g,J,hw,H,M,hg⟩:=h.k0 h0
  have hl:g<w.heap.size:=(AB hg).1;refine⟨g,(z.al i Y).trans J,hw,λW=>(z.z2 g W).elim H qo,λO=>(z.r2 g O).elim M qo,?_⟩;rw[z.bw.block g hl M,hg,GT (β:=G'.α) (α:=G.α) GQ b.cs λj hj=>z.al j (hb j hj)]
 ·obtain⟨g,o,el,J,H,hQ,Z⟩:=h.k1 h1 j hj
  exact⟨g,o,el,(z.al i Y).trans J,z.z1 g H,hQ,Z.step H z.z1 F⟩
 ·obtain⟨g,o,J,H,Z⟩:=h.k2 h2
  exact⟨g,o,(z.al i Y).trans J,z.z1 g H,Z.step H z.z1 F⟩
 ·obtain⟨g,els,J,hw,H,M,hk⟩:=h.k3 h3
  have hl:=hk.2.2.1.lt;exact⟨g,els,(z.al i Y).trans J,hw,λW=>(z.z2 g W).elim H qo,λO=>(z.r2 g O).elim M qo,hk.step (z.bw.block g hl M) z.z1 F⟩
 ·obtain⟨g,J,M,hd⟩:=h.k4 h4
  exact⟨g,(z.al i Y).trans J,z.r1 g M,z.rd g M hd⟩
def OkE(lo hi:Nat)(m es:AW):Prop:=∀i b,(i,b)∈es->lo<=i/\i<hi/\Clo m (b.cs.flatMap DJ)
theorem Gk{a:Act}{d i:Nat}{v:Value}:(a.put (some d) v).tmps[i]?=if d=i then(if d<a.tmps.size then some v else none) else a.tmps[i]?:=by
 show(a.tmps.setIfInBounds d v)[i]?=_;rw[Array.getElem?_setIfInBounds]
theorem Sat.step{R0:Ro}{nt:Nat}{t:Tm}{m:AW}{c c':Nat}{a:Act}{v:Value}{es:AW}{d:Option Nat}
  (h:Sat RD R0 w0 nt G ⟨t,m,c,q⟩ a w) (H:GS RD G w q G' w' q' id) (hn:NewOk RD w0 G' w w' q' es)
  (be:∀i b,lk m i=some b->(i<id\/id+8<=i)) (hc:c<=c') (he:id+8<=c') (h64:64<=id)
  (hv:Clo (es++m) (Bc v)) (hE:OkE id (id+8) (es++m) es) (hd:∀x,d=some x->x<nt):
  Sat RD R0 w0 nt G' ⟨Fr d v t,es++m,c',q'⟩ (a.put d (r2 G'.α v)) w':=by
 have au:∀i b,lk m i=some b->lk (es++m) i=some b:=λi b hb=>by
  rw[B9]
  cases z:lk es i with
  |none=>exact hb
  |some J=>have:=hE i J (Aw es i J z);have:=be i b hb;omega
 have af:∀l,Clo m l->Clo (es++m) l:=λl z=>z.mono λi b hb=>⟨b,au i b hb⟩
 have Z:∀l,Clo m l->∀j∈l,j<id\/id+8<=j:=λl z j hj=>let ⟨b,hb⟩:=z j hj;be j b hb
 have M:∀i b,lk (es++m) i=some b->(lk es i=some b)\/(lk es i=none/\lk m i=some b):=λi b hb=>by
  rw[B9]at hb
  cases z:lk es i with
  |none=>rw[z]at hb;exact .inr ⟨rfl,hb⟩
  |some J=>rw[z]at hb;exact .inl hb
 refine⟨?_,?_,λi u hu=>?_,λi b hb=>?_,λi b j J hb al h0 W ag=>?_,H.z3,h.fr.trans H.bw h.rb,λk hk=>?_,H.r3,AH h.bD hc,λi hi=>(H.al i (.inl qo)).trans (h.al i hi),AH h.sz H.bw.size⟩
 ·cases d<;>exact h.ci
 ·cases d with
  |none=>exact h.bX
  |some x=>show(a.tmps.setIfInBounds x _).size=nt;rw[Array.size_setIfInBounds];exact h.bX
 ·have O:∀u,lk t i=some u->a.tmps[i]?=some (r2 G'.α u)/\Clo (es++m) (Bc u):=λu hu=>by
   obtain⟨Y,h2⟩:=h.tmp i u hu;exact⟨by rw[Y,Jj (β:=G'.α) (α:=G.α) u λj hj=>H.al j (Z _ h2 j hj)],af _ h2⟩
  cases d with
  |none=>exact O u hu
  |some x=>
   by_cases hx:x=i
   ·subst hx
    rw[show Fr (some x) v t=(x,v)::t from rfl,Ae]at hu;cases hu;exact⟨by rw[Gk,dv rfl,dv (by rw[h.bX];exact hd x rfl)],hv⟩
   ·rw[show Fr (some x) v t=(x,v)::t from rfl,Au hx]at hu
    rw[Gk,dk hx];exact O u hu
 ·rcases M i b hb with z|⟨_,z⟩
  ·have Y:=hE i b (Aw es i b z)
   exact⟨by show i<c';omega,hn.be i b (Aw es i b z),Y.2.2⟩
  ·obtain⟨Y,h2,h3⟩:=h.mem i b z
   exact⟨AF Y hc,h2.step H h.z3 (be i b z) (Z _ h3),af _ h3⟩
 ·rcases M i b hb with z|⟨_,z⟩<;>rcases M j J al with F|⟨_,F⟩
  ·exact hn.bO i b j J (Aw _ _ _ z) (Aw _ _ _ F) h0 W ag
  ·obtain⟨g,hg,an⟩:=hn.aW i b (Aw _ _ _ z) h0
   obtain⟨g',aa,_,_,_,this⟩:=((h.mem j J F).2.1).aW W;rw[hg,H.al j (be j J F),aa];intro e;cases e;omega
  ·obtain⟨g,hg,an⟩:=hn.aW j J (Aw _ _ _ F) W
   obtain⟨g',aa,_,_,_,this⟩:=((h.mem i b z).2.1).aW h0;rw[hg,H.al i (be i b z),aa];intro e;cases e;omega
  ·rw[H.al i (be i b z),H.al j (be j J F)]
   exact h.bO i b j J z F h0 W ag
 ·rcases H.r2 k hk with Y|Y
  ·exact h.rb k Y
  ·exact .inr (AH h.fr.size Y)
end
end Go.Proofs.YtbceafpodamnfaaGreatDoor
