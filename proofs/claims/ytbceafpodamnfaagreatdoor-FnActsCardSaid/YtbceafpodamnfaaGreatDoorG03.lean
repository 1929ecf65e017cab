import Derived.Test.YtbceafpodamnfaaGreatDoorG02
set_option linter.all false
namespace Go.Proofs.YtbceafpodamnfaaGreatDoor
open Go.RowKit
theorem Aj{β:Type}:∀(l:List (Nat × β)) (i:Nat) (b:β),lk l i=some b->(i,b)∈l
 |[],_,_,h=>by cases h
 |(j,c)::r,i,b,h=>by
  unfold lk at h
  cases F:Nat.beq j i with
  |true=>rw[F]at h;cases h;rw[cX F];exact dK
  |false=>rw[F]at h;exact dN _ (Aj r i b h)
theorem Ad{β:Type}(i:Nat)(b:β)(r:List (Nat × β)):lk ((i,b)::r) i=some b:=by
 unfold lk;rw[show Nat.beq i i=true from by simp];rfl
theorem At{β:Type}{i j:Nat}(h:j≠i)(b:β)(r:List (Nat × β)):lk ((j,b)::r) i=lk r i:=by
 conv=>lhs;unfold lk
 rw[show Nat.beq j i=false from by cases hb:Nat.beq j i;rfl;exact absurd (cX hb) h];rfl
theorem Ba{β:Type}:∀(l m:List (Nat × β)) (i:Nat),lk (l++m) i=(lk l i).or (lk m i)
 |[],_,_=>rfl
 |(j,c)::r,m,i=>by
  by_cases h:j=i
  ·subst h;rw[fb,Ad,Ad];rfl
  ·rw[fb,At h,At h];exact Ba r m i
structure Stp(RB:Nat->Prop)(w w':World):Prop where
 os:w'.os=w.os
 tape:w'.tape=w.tape
 output:w'.output=w.output
 size:w.heap.size<=w'.heap.size
 block:∀k,k<w.heap.size->¬RB k->w'.heap[k]?=w.heap[k]?
theorem Stp.refl(RB:Nat->Prop)(w:World):Stp RB w w:=⟨rfl,rfl,rfl,AG _,λ_ _ _=>rfl⟩
theorem Stp.alloc(RB:Nat->Prop)(w:World)(o:Obj):Stp RB w (w.alloc o):=
 ⟨rfl,rfl,rfl,by show _<=(w.heap.push o).size;simp,λk hk _=>by show(w.heap.push o)[k]?=_;rw[dk,dC (by omega)]⟩
theorem Stp.trans{RB F:Nat->Prop}{a b c:World}(h:Stp RB a b)(k:Stp F b c)(M:∀i,F i->RB i\/a.heap.size<=i):Stp RB a c:=
 ⟨k.os.trans h.os,k.tape.trans h.tape,k.output.trans h.output,AH h.size k.size,λi J H=>(k.block i (AF J h.size) λhb=>(M i hb).elim H (λW=>by omega)).trans (h.block i J H)⟩
def Clo(m:AY)(l:List Nat):Prop:=∀i∈l,∃b,lk m i=some b
structure Gh where
 α:Nat->Option Addr
 Z:Nat->Prop
 RB:Nat->Prop
def ElOk(Z:Nat->Prop)(w:World)(g off:Nat)(el:qL)(E:World->List Value->Prop):Prop:=
 (∀x v,el[x]?=some v->w.cell? ⟨g,off+x,none⟩=some v/\∀β,r0 β v=v)/\∀W:World,(∀k,Z k->W.heap[k]?=w.heap[k]?)->E W el
def RowK(Z:Nat->Prop)(w:World)(g:Nat)(b:VB)(els:List (List Value)):Prop:=
 els.length=b.n/\(∀el∈els,el.length=b.sz/\∀v∈el,v.oneCell'=true/\∀β,r0 β v=v)/\RowIs w b.ty b.sz g b.n b.cp els.flatten/\∀j el,els[j]?=some el->(∀k,b.Q j k->k el)/\∀W:World,(∀k,Z k->W.heap[k]?=w.heap[k]?)->b.E W el
def DQ(b:VB):Prop:=b.kd=0\/b.kd=3
section
variable (RD:(Nat->Prop)->World->Nat->Nat->Prop)
def B9:Prop:=∀(Z Z':Nat->Prop) (w w':World) (g q q':Nat),RD Z w g q->(∀k,Z k->Z' k)->w'.heap[g]?=w.heap[g]?->(∀k,Z k->w'.heap[k]?=w.heap[k]?)->q<=q'->RD Z' w' g q'
structure Hold(w0:World)(G:Gh)(w:World)(q i:Nat)(b:VB):Prop where
 k0:b.kd=0->∃g,G.α i=some ⟨g,0,none⟩/\w0.heap.size<=g/\¬G.Z g/\¬G.RB g/\w.heap[g]?=some (.cells (b.cs.map (r0 G.α)).toArray b.ty (0,0))
 k1:b.kd=1->∀j,j<b.n->∃g o el,G.α i=some ⟨g,o,none⟩/\G.Z g/\(∀k,b.Q j k->k el)/\ElOk G.Z w g (o+j*b.sz) el b.E
 k2:b.kd=2->∃g o,G.α i=some ⟨g,o,none⟩/\G.Z g/\ElOk G.Z w g o b.cs b.E
 k3:b.kd=3->∃g els,G.α i=some ⟨g,0,none⟩/\w0.heap.size<=g/\¬G.Z g/\¬G.RB g/\RowK G.Z w g b els
 k4:b.kd=4->∃g,G.α i=some ⟨g,0,none⟩/\G.RB g/\RD G.Z w g q
 kk:b.kd=0\/b.kd=1\/b.kd=2\/b.kd=3\/b.kd=4\/b.kd=7
structure Ro where
 R:Nat->Prop
 A:Nat->Option Addr
 n:Nat
structure GS(G:Gh)(w:World)(q:Nat)(G':Gh)(w':World)(q' id:Nat):Prop where
 bE:Stp G.RB w w'
 al:∀i,i<id\/id+8<=i->G'.α i=G.α i
 z1:∀k,G.Z k->G'.Z k
 z2:∀k,G'.Z k->G.Z k\/w.heap.size<=k
 z3:∀k,G'.Z k->k<w'.heap.size/\¬G'.RB k
 r1:∀k,G.RB k->G'.RB k
 r2:∀k,G'.RB k->G.RB k\/w.heap.size<=k
 r3:∀k,G'.RB k->k<w'.heap.size
 rd:∀g,G.RB g->RD G.Z w g q->RD G'.Z w' g q'
structure NewOk(w0:World)(G':Gh)(w w':World)(q':Nat)(es:AY):Prop where
 aT:∀i b,(i,b)∈es->Hold RD w0 G' w' q' i b
 aQ:∀i b,(i,b)∈es->DQ b->∃g,G'.α i=some ⟨g,0,none⟩/\w.heap.size<=g
 bM:∀i b j c,(i,b)∈es->(j,c)∈es->DQ b->DQ c->i≠j->G'.α i≠G'.α j
structure Sat(R0:Ro)(w0:World)(nt:Nat)(G:Gh)(s:St)(a:Act)(w:World):Prop where
 bO:a.defers=[]
 bR:a.tmps.size=nt
 tmp:∀i v,lk s.t i=some v->a.tmps[i]?=some (r2 G.α v)/\Clo s.m (BS v)
 mem:∀i b,lk s.m i=some b->i<s.c/\Hold RD w0 G w s.q i b/\Clo s.m (b.cs.flatMap Cf)
 bM:∀i b j c,lk s.m i=some b->lk s.m j=some c->DQ b->DQ c->i≠j->G.α i≠G.α j
 z3:∀k,G.Z k->k<w.heap.size/\¬G.RB k
 fr:Stp R0.R w0 w
 rb:∀k,G.RB k->R0.R k\/w0.heap.size<=k
 rl:∀k,G.RB k->k<w.heap.size
 bi:64<=s.c
 al:∀i,i<64->G.α i=R0.A i
 sz:R0.n<=w.heap.size
end
theorem FW{α β:Nat->Option Addr}:∀v:Value,(∀i∈Cf v,β i=α i)->r0 β v=r0 α v
 | .complex k i o,h=>by show Value.pointer _=Value.pointer _;rw[h i (cZ.2 rfl)]
 | .iface i u,h=>by
  cases u with
  |slice a n c'=>show Value.slice _ _ _=Value.slice _ _ _;rw[h i (cZ.2 rfl)]
  |pointer p=>cases p with
   |none=>rfl
   |some p=>show Value.pointer _=Value.pointer _;rw[h i (cZ.2 rfl)]
  |_=>rfl
 | .bool _,_| .int ..,_| .float ..,_| .string _,_| .pointer _,_| .slice ..,_| .map _,_| .chan _,_| .func ..,_| .nilFunc,_| .nilIface,_| .agg _,_| .tuple _,_=>rfl
theorem FZ{f g:Value->Value}{F:Value->List Nat}{α β:Nat->Option Addr}(h:∀v,(∀i∈F v,β i=α i)->f v=g v)(cs:qL)(H:∀i∈cs.flatMap F,β i=α i):cs.map f=cs.map g:=
 fj λv hv=>h v λi J=>H i (dR.2 ⟨v,hv,J⟩)
theorem Li{f g:Value->Value}{F:Value->List Nat}{α β:Nat->Option Addr}(h:∀v,(∀i∈F v,β i=α i)->f v=g v)(cs:Array Value)(H:∀i∈cs.toList.flatMap F,β i=α i):cs.map f=cs.map g:=by
 apply i5;rw[eJ,eJ];exact FZ h cs.toList H
theorem Lm(v:Value):(∃cs,v=.agg cs)\/((∀β,r1 β v=r0 β v)/\Oz v=Cf v/\v.cells=#[v]/\Aa v=[v]):=by
 cases v with
 |agg cs=>exact .inl ⟨cs,rfl⟩
 |_=>exact .inr ⟨λ_=>rfl,rfl,rfl,rfl⟩
theorem Iu(v:Value):(∃cs,v=.tuple cs)\/((∀β,r2 β v=r1 β v)/\BS v=Oz v):=by
 cases v with
 |tuple cs=>exact .inl ⟨cs,rfl⟩
 |_=>exact .inr ⟨λ_=>rfl,rfl⟩
theorem Ob{α β:Nat->Option Addr}(v:Value)(h:∀i∈Oz v,β i=α i):r1 β v=r1 α v:=by
 rcases Lm v with⟨cs,rfl⟩|⟨F,H,_⟩
 ·show Value.agg _=Value.agg _;rw[Li FW cs h]
 ·rw[F,F,FW v (H▸h)]
theorem IK{α β:Nat->Option Addr}(v:Value)(h:∀i∈BS v,β i=α i):r2 β v=r2 α v:=by
 rcases Iu v with⟨cs,rfl⟩|⟨F,H⟩
 ·show Value.tuple _=Value.tuple _;rw[Li Ob cs h]
 ·rw[F,F,Ob v (H▸h)]
theorem Cz{m:AY}{l:List Nat}(h:clo m l=true):Clo m l:=λi H=>by
 have:=dh.1 h i H
 cases F:lk m i with
 |none=>rw[F]at this;cases this
 |some b=>exact⟨b,rfl⟩
theorem Clo.mono{m m':AY}{l:List Nat}(h:Clo m l)(H:∀i b,lk m i=some b->∃b',lk m' i=some b'):Clo m' l:=λi F=>let ⟨b,hb⟩:=h i F;H i b hb
section
variable {RD:(Nat->Prop)->World->Nat->Nat->Prop} {w0:World} {G G':Gh} {w w':World} {q q' id:Nat}
theorem cell_blk{w w':World}{g o:Nat}{s:Option Nat}(h:w'.heap[g]?=w.heap[g]?):w'.cell? ⟨g,o,s⟩=w.cell? ⟨g,o,s⟩:=by
 unfold World.cell?;rw[show(w'.heap[(⟨g,o,s⟩:Addr).block]?)=w.heap[(⟨g,o,s⟩:Addr).block]? from h]
theorem ElOk.step{Z F:Nat->Prop}{g off:Nat}{el:qL}{E:World->List Value->Prop}(h:ElOk Z w g off el E)(J:Z g)(H:∀k,Z k->F k)(hb:∀k,Z k->w'.heap[k]?=w.heap[k]?):ElOk F w' g off el E:=
 ⟨λx v hx=>⟨(cell_blk (hb g J)).trans (h.1 x v hx).1,(h.1 x v hx).2⟩,λW M=>h.2 W λk hk=>(M k (H k hk)).trans (hb k hk)⟩
theorem RowK.step{Z H:Nat->Prop}{g:Nat}{b:VB}{els:List (List Value)}(h:RowK Z w g b els)(Y:w'.heap[g]?=w.heap[g]?)(J:∀k,Z k->H k)(hb:∀k,Z k->w'.heap[k]?=w.heap[k]?):RowK H w' g b els:=
 ⟨h.1,h.2.1,h.2.2.1.aR Y,λj el F=>⟨(h.2.2.2 j el F).1,λW M=>(h.2.2.2 j el F).2 W λk hk=>(M k (J k hk)).trans (hb k hk)⟩⟩
theorem Hold.aQ{i:Nat}{b:VB}(h:Hold RD w0 G w q i b)(Z:DQ b):∃g,G.α i=some ⟨g,0,none⟩/\w0.heap.size<=g/\¬G.Z g/\¬G.RB g/\g<w.heap.size:=by
 rcases Z with M|M
 ·obtain⟨g,F,H,W,J,Y⟩:=h.k0 M
  exact⟨g,F,H,W,J,(AB Y).1⟩
 ·obtain⟨g,els,F,H,W,J,Y⟩:=h.k3 M
  exact⟨g,F,H,W,J,Y.2.2.1.lt⟩
theorem Hold.step{i:Nat}{b:VB}(h:Hold RD w0 G w q i b)(F:GS RD G w q G' w' q' id)(hz:∀k,G.Z k->k<w.heap.size/\¬G.RB k)(hi:i<id\/id+8<=i)(hb:∀j∈b.cs.flatMap Cf,j<id\/id+8<=j):Hold RD w0 G' w' q' i b:=by
 have H:∀k,G.Z k->w'.heap[k]?=w.heap[k]?:=λk hk=>F.bE.block k (hz k hk).1 (hz k hk).2
 refine⟨λh0=>?_,λh1 j hj=>?_,λh2=>?_,λh3=>?_,λh4=>?_,h.kk⟩
 ·obtain⟨g,J,hw,M,W,hg⟩:=h.k0 h0
  have hl:g<w.heap.size:=(AB hg).1;refine⟨g,(F.al i hi).trans J,hw,λY=>(F.z2 g Y).elim M (by omega),λZ=>(F.r2 g Z).elim W (by omega),?_⟩;rw[F.bE.block g hl W,hg,FZ (β:=G'.α) (α:=G.α) FW b.cs λj hj=>F.al j (hb j hj)]
 ·obtain⟨g,o,el,J,M,hQ,hE⟩:=h.k1 h1 j hj
  exact⟨g,o,el,(F.al i hi).trans J,F.z1 g M,hQ,hE.step M F.z1 H⟩
 ·obtain⟨g,o,J,M,hE⟩:=h.k2 h2
  exact⟨g,o,(F.al i hi).trans J,F.z1 g M,hE.step M F.z1 H⟩
 ·obtain⟨g,els,J,hw,M,W,hk⟩:=h.k3 h3
  have hl:=hk.2.2.1.lt;exact⟨g,els,(F.al i hi).trans J,hw,λY=>(F.z2 g Y).elim M (by omega),λZ=>(F.r2 g Z).elim W (by omega),hk.step (F.bE.block g hl W) F.z1 H⟩
 ·obtain⟨g,J,W,hd⟩:=h.k4 h4
  exact⟨g,(F.al i hi).trans J,F.r1 g W,F.rd g W hd⟩
def OkE(lo hi:Nat)(m es:AY):Prop:=∀i b,(i,b)∈es->lo<=i/\i<hi/\Clo m (b.cs.flatMap Cf)
theorem Fp{a:Act}{d i:Nat}{v:Value}:(a.put (some d) v).tmps[i]?=if d=i then(if d<a.tmps.size then some v else none) else a.tmps[i]?:=by
 show(a.tmps.setIfInBounds d v)[i]?=_;rw[fO]
theorem Sat.step{R0:Ro}{nt:Nat}{t:Tm}{m:AY}{c c':Nat}{a:Act}{v:Value}{es:AY}{d:Option Nat}
  (h:Sat RD R0 w0 nt G ⟨t,m,c,q⟩ a w) (J:GS RD G w q G' w' q' id) (hn:NewOk RD w0 G' w w' q' es)
  (aT:∀i b,lk m i=some b->(i<id\/id+8<=i)) (hc:c<=c') (he:id+8<=c') (h64:64<=id)
  (hv:Clo (es++m) (BS v)) (hE:OkE id (id+8) (es++m) es) (hd:∀x,d=some x->x<nt):
  Sat RD R0 w0 nt G' ⟨ER d v t,es++m,c',q'⟩ (a.put d (r2 G'.α v)) w':=by
 have aw:∀i b,lk m i=some b->lk (es++m) i=some b:=λi b hb=>by
  rw[Ba]
  cases F:lk es i with
  |none=>exact hb
  |some W=>have:=hE i W (Aj es i W F);have:=aT i b hb;omega
 have ai:∀l,Clo m l->Clo (es++m) l:=λl F=>F.mono λi b hb=>⟨b,aw i b hb⟩
 have af:∀l,Clo m l->∀j∈l,j<id\/id+8<=j:=λl F j hj=>let ⟨b,hb⟩:=F j hj;aT j b hb
 have Y:∀i b,lk (es++m) i=some b->(lk es i=some b)\/(lk es i=none/\lk m i=some b):=λi b hb=>by
  rw[Ba]at hb
  cases F:lk es i with
  |none=>rw[F]at hb;exact .inr ⟨rfl,hb⟩
  |some W=>rw[F]at hb;exact .inl hb
 refine⟨?_,?_,λi u hu=>?_,λi b hb=>?_,λi b j W hb ar h0 Z ak=>?_,J.z3,h.fr.trans J.bE h.rb,λk hk=>?_,J.r3,AH h.bi hc,λi hi=>(J.al i (.inl (by omega))).trans (h.al i hi),AH h.sz J.bE.size⟩
 ·cases d<;>exact h.bO
 ·cases d with
  |none=>exact h.bR
  |some x=>show(a.tmps.setIfInBounds x _).size=nt;rw[Array.size_setIfInBounds];exact h.bR
 ·have M:∀u,lk t i=some u->a.tmps[i]?=some (r2 G'.α u)/\Clo (es++m) (BS u):=λu hu=>by
   obtain⟨h1,h2⟩:=h.tmp i u hu;exact⟨by rw[h1,IK (β:=G'.α) (α:=G.α) u λj hj=>J.al j (af _ h2 j hj)],ai _ h2⟩
  cases d with
  |none=>exact M u hu
  |some x=>
   by_cases hx:x=i
   ·subst hx
    rw[show ER (some x) v t=(x,v)::t from rfl,Ad]at hu;cases hu;exact⟨by rw[Fp,dB rfl,dB (by rw[h.bR];exact hd x rfl)],hv⟩
   ·rw[show ER (some x) v t=(x,v)::t from rfl,At hx]at hu
    rw[Fp,dC hx];exact M u hu
 ·rcases Y i b hb with F|⟨_,F⟩
  ·have h1:=hE i b (Aj es i b F)
   exact⟨by show i<c';omega,hn.aT i b (Aj es i b F),h1.2.2⟩
  ·obtain⟨h1,h2,h3⟩:=h.mem i b F
   exact⟨AF h1 hc,h2.step J h.z3 (aT i b F) (af _ h3),ai _ h3⟩
 ·rcases Y i b hb with F|⟨_,F⟩<;>rcases Y j W ar with H|⟨_,H⟩
  ·exact hn.bM i b j W (Aj _ _ _ F) (Aj _ _ _ H) h0 Z ak
  ·obtain⟨g,hg,aq⟩:=hn.aQ i b (Aj _ _ _ F) h0
   obtain⟨g',ag,_,_,_,this⟩:=((h.mem j W H).2.1).aQ Z;rw[hg,J.al j (aT j W H),ag];intro e;cases e;omega
  ·obtain⟨g,hg,aq⟩:=hn.aQ j W (Aj _ _ _ H) Z
   obtain⟨g',ag,_,_,_,this⟩:=((h.mem i b F).2.1).aQ h0;rw[hg,J.al i (aT i b F),ag];intro e;cases e;omega
  ·rw[J.al i (aT i b F),J.al j (aT j W H)]
   exact h.bM i b j W F H h0 Z ak
 ·rcases J.r2 k hk with h1|h1
  ·exact h.rb k h1
  ·exact .inr (AH h.fr.size h1)
end
end Go.Proofs.YtbceafpodamnfaaGreatDoor
