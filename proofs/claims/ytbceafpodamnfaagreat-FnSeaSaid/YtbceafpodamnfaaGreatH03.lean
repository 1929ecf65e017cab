import Derived.Test.YtbceafpodamnfaaGreatH02
set_option linter.all false
namespace Go.Proofs.YtbceafpodamnfaaGreat
open Go Go.RowKit
theorem A9{β:Type}:∀(l:List (Nat × β)) (i:Nat) (b:β),lk l i=some b->(i,b)∈l
 |[],_,_,h=>by cases h
 |(j,c)::r,i,b,h=>by
  unfold lk at h
  cases hj:Nat.beq j i with
  |true=>rw[hj]at h;cases h;rw[Nat.eq_of_beq_eq_true hj];exact List.mem_cons_self
  |false=>rw[hj]at h;exact List.mem_cons_of_mem _ (A9 r i b h)
theorem Ag{β:Type}(i:Nat)(b:β)(r:List (Nat × β)):lk ((i,b)::r) i=some b:=by
 unfold lk;rw[show Nat.beq i i=true from by simp];rfl
theorem Aw{β:Type}{i j:Nat}(h:j≠i)(b:β)(r:List (Nat × β)):lk ((j,b)::r) i=lk r i:=by
 conv=>lhs;unfold lk
 rw[show Nat.beq j i=false from by cases hb:Nat.beq j i;rfl;exact absurd (Nat.eq_of_beq_eq_true hb) h];rfl
theorem Bc{β:Type}:∀(l m:List (Nat × β)) (i:Nat),lk (l++m) i=(lk l i).or (lk m i)
 |[],_,_=>rfl
 |(j,c)::r,m,i=>by
  by_cases h:j=i
  ·subst h;rw[List.cons_append,Ag,Ag];rfl
  ·rw[List.cons_append,Aw h,Aw h];exact Bc r m i
structure Stp(RB:Nat->Prop)(w w':World):Prop where
 os:w'.os=w.os
 tape:w'.tape=w.tape
 output:w'.output=w.output
 size:w.heap.size<=w'.heap.size
 block:∀k,k<w.heap.size->¬RB k->w'.heap[k]?=w.heap[k]?
theorem Stp.refl(RB:Nat->Prop)(w:World):Stp RB w w:=⟨rfl,rfl,rfl,AG _,λ_ _ _=>rfl⟩
theorem Stp.alloc(RB:Nat->Prop)(w:World)(o:Obj):Stp RB w (w.alloc o):=
 ⟨rfl,rfl,rfl,by show _<=(w.heap.push o).size;simp,λk hk _=>by show(w.heap.push o)[k]?=_;rw[Array.getElem?_push,if_neg (by omega)]⟩
theorem Stp.trans{RB RB':Nat->Prop}{a b c:World}(h:Stp RB a b)(k:Stp RB' b c)(hr:∀i,RB' i->RB i\/a.heap.size<=i):Stp RB a c:=
 ⟨k.os.trans h.os,k.tape.trans h.tape,k.output.trans h.output,AH h.size k.size,λi hi hn=>(k.block i (AF hi h.size) λhb=>(hr i hb).elim hn (λh'=>by omega)).trans (h.block i hi hn)⟩
def Clo(m:AV)(l:List Nat):Prop:=∀i∈l,∃b,lk m i=some b
structure Gh where
 α:Nat->Option Addr
 Z:Nat->Prop
 RB:Nat->Prop
def ElOk(Z:Nat->Prop)(w:World)(g off:Nat)(el:List Value)(E:World->List Value->Prop):Prop:=
 (∀x v,el[x]?=some v->w.cell? ⟨g,off+x,none⟩=some v/\∀β,r0 β v=v)/\∀W:World,(∀k,Z k->W.heap[k]?=w.heap[k]?)->E W el
def RowK(Z:Nat->Prop)(w:World)(g:Nat)(b:VB)(els:List (List Value)):Prop:=
 els.length=b.n/\(∀el∈els,el.length=b.sz/\∀v∈el,v.oneCell'=true/\∀β,r0 β v=v)/\RowIs w b.ty b.sz g b.n b.cp els.flatten/\∀j el,els[j]?=some el->(∀k,b.Q j k->k el)/\∀W:World,(∀k,Z k->W.heap[k]?=w.heap[k]?)->b.E W el
def DE(b:VB):Prop:=b.kd=0\/b.kd=3
section
variable (RD:(Nat->Prop)->World->Nat->Nat->Prop)
def Cc:Prop:=∀(Z Z':Nat->Prop) (w w':World) (g q q':Nat),RD Z w g q->(∀k,Z k->Z' k)->w'.heap[g]?=w.heap[g]?->(∀k,Z k->w'.heap[k]?=w.heap[k]?)->q<=q'->RD Z' w' g q'
structure Hold(w0:World)(G:Gh)(w:World)(q i:Nat)(b:VB):Prop where
 k0:b.kd=0->∃g,G.α i=some ⟨g,0,none⟩/\w0.heap.size<=g/\¬G.Z g/\¬G.RB g/\w.heap[g]?=some (.cells (b.cs.map (r0 G.α)).toArray b.ty (0,0))
 k1:b.kd=1->∀j,j<b.n->∃g o el,G.α i=some ⟨g,o,none⟩/\G.Z g/\(∀k,b.Q j k->k el)/\ElOk G.Z w g (o+j*b.sz) el b.E
 k2:b.kd=2->∃g o,G.α i=some ⟨g,o,none⟩/\G.Z g/\ElOk G.Z w g o b.cs b.E
 k3:b.kd=3->∃g els,G.α i=some ⟨g,0,none⟩/\w0.heap.size<=g/\¬G.Z g/\¬G.RB g/\RowK G.Z w g b els
 k4:b.kd=4->∃g,G.α i=some ⟨g,0,none⟩/\G.RB g/\RD G.Z w g q
 kk:b.kd=0\/b.kd=1\/b.kd=2\/b.kd=3\/b.kd=4\/b.kd=7
structure Ro where
 R:Nat->Prop
 A:Nat->Option Addr
 n:Nat
structure GS(G:Gh)(w:World)(q:Nat)(G':Gh)(w':World)(q' id:Nat):Prop where
 stp:Stp G.RB w w'
 al:∀i,i<id\/id+8<=i->G'.α i=G.α i
 z1:∀k,G.Z k->G'.Z k
 z2:∀k,G'.Z k->G.Z k\/w.heap.size<=k
 z3:∀k,G'.Z k->k<w'.heap.size/\¬G'.RB k
 r1:∀k,G.RB k->G'.RB k
 r2:∀k,G'.RB k->G.RB k\/w.heap.size<=k
 r3:∀k,G'.RB k->k<w'.heap.size
 rd:∀g,G.RB g->RD G.Z w g q->RD G'.Z w' g q'
structure NewOk(w0:World)(G':Gh)(w w':World)(q':Nat)(es:AV):Prop where
 hold:∀i b,(i,b)∈es->Hold RD w0 G' w' q' i b
 own:∀i b,(i,b)∈es->DE b->∃g,G'.α i=some ⟨g,0,none⟩/\w.heap.size<=g
 dis:∀i b j c,(i,b)∈es->(j,c)∈es->DE b->DE c->i≠j->G'.α i≠G'.α j
structure Sat(R0:Ro)(w0:World)(nt:Nat)(G:Gh)(s:St)(a:Act)(w:World):Prop where
 dfr:a.defers=[]
 tsz:a.tmps.size=nt
 tmp:∀i v,lk s.t i=some v->a.tmps[i]?=some (r2 G.α v)/\Clo s.m (BN v)
 mem:∀i b,lk s.m i=some b->i<s.c/\Hold RD w0 G w s.q i b/\Clo s.m (b.cs.flatMap Cj)
 dis:∀i b j c,lk s.m i=some b->lk s.m j=some c->DE b->DE c->i≠j->G.α i≠G.α j
 z3:∀k,G.Z k->k<w.heap.size/\¬G.RB k
 fr:Stp R0.R w0 w
 rb:∀k,G.RB k->R0.R k\/w0.heap.size<=k
 rl:∀k,G.RB k->k<w.heap.size
 c64:64<=s.c
 al:∀i,i<64->G.α i=R0.A i
 sz:R0.n<=w.heap.size
end
theorem EV{α β:Nat->Option Addr}:∀v:Value,(∀i∈Cj v,β i=α i)->r0 β v=r0 α v
 | .complex k i o,h=>by show Value.pointer _=Value.pointer _;rw[h i (List.mem_singleton.2 rfl)]
 | .iface i u,h=>by
  cases u with
  |slice a n c'=>show Value.slice _ _ _=Value.slice _ _ _;rw[h i (List.mem_singleton.2 rfl)]
  |pointer p=>cases p with
   |none=>rfl
   |some p=>show Value.pointer _=Value.pointer _;rw[h i (List.mem_singleton.2 rfl)]
  |_=>rfl
 | .bool _,_| .int ..,_| .float ..,_| .string _,_| .pointer _,_| .slice ..,_| .map _,_| .chan _,_| .func ..,_| .nilFunc,_| .nilIface,_| .agg _,_| .tuple _,_=>rfl
theorem EX{f g:Value->Value}{ids:Value->List Nat}{α β:Nat->Option Addr}(h:∀v,(∀i∈ids v,β i=α i)->f v=g v)(cs:List Value)(hc:∀i∈cs.flatMap ids,β i=α i):cs.map f=cs.map g:=
 List.map_congr_left λv hv=>h v λi hi=>hc i (List.mem_flatMap.2 ⟨v,hv,hi⟩)
theorem Je{f g:Value->Value}{ids:Value->List Nat}{α β:Nat->Option Addr}(h:∀v,(∀i∈ids v,β i=α i)->f v=g v)(cs:Array Value)(hc:∀i∈cs.toList.flatMap ids,β i=α i):cs.map f=cs.map g:=by
 apply Array.ext';rw[Array.toList_map,Array.toList_map];exact EX h cs.toList hc
theorem Jf(v:Value):(∃cs,v=.agg cs)\/((∀β,r1 β v=r0 β v)/\Lv v=Cj v/\v.cells=#[v]/\Ad v=[v]):=by
 cases v with
 |agg cs=>exact .inl ⟨cs,rfl⟩
 |_=>exact .inr ⟨λ_=>rfl,rfl,rfl,rfl⟩
theorem Ij(v:Value):(∃cs,v=.tuple cs)\/((∀β,r2 β v=r1 β v)/\BN v=Lv v):=by
 cases v with
 |tuple cs=>exact .inl ⟨cs,rfl⟩
 |_=>exact .inr ⟨λ_=>rfl,rfl⟩
theorem Lb{α β:Nat->Option Addr}(v:Value)(h:∀i∈Lv v,β i=α i):r1 β v=r1 α v:=by
 rcases Jf v with⟨cs,rfl⟩|⟨h1,h2,_⟩
 ·show Value.agg _=Value.agg _;rw[Je EV cs h]
 ·rw[h1,h1,EV v (h2▸h)]
theorem GX{α β:Nat->Option Addr}(v:Value)(h:∀i∈BN v,β i=α i):r2 β v=r2 α v:=by
 rcases Ij v with⟨cs,rfl⟩|⟨h1,h2⟩
 ·show Value.tuple _=Value.tuple _;rw[Je Lb cs h]
 ·rw[h1,h1,Lb v (h2▸h)]
theorem DQ{m:AV}{l:List Nat}(h:clo m l=true):Clo m l:=λi hi=>by
 have:=List.all_eq_true.1 h i hi
 cases hl:lk m i with
 |none=>rw[hl]at this;cases this
 |some b=>exact⟨b,rfl⟩
theorem Clo.mono{m m':AV}{l:List Nat}(h:Clo m l)(hm:∀i b,lk m i=some b->∃b',lk m' i=some b'):Clo m' l:=λi hi=>let ⟨b,hb⟩:=h i hi;hm i b hb
section
variable {RD:(Nat->Prop)->World->Nat->Nat->Prop} {w0:World} {G G':Gh} {w w':World} {q q' id:Nat}
theorem cell_blk{w w':World}{g o:Nat}{s:Option Nat}(h:w'.heap[g]?=w.heap[g]?):w'.cell? ⟨g,o,s⟩=w.cell? ⟨g,o,s⟩:=by
 unfold World.cell?;rw[show(w'.heap[(⟨g,o,s⟩:Addr).block]?)=w.heap[(⟨g,o,s⟩:Addr).block]? from h]
theorem ElOk.step{Z Z':Nat->Prop}{g off:Nat}{el:List Value}{E:World->List Value->Prop}(h:ElOk Z w g off el E)(hg:Z g)(hz:∀k,Z k->Z' k)(hb:∀k,Z k->w'.heap[k]?=w.heap[k]?):ElOk Z' w' g off el E:=
 ⟨λx v hx=>⟨(cell_blk (hb g hg)).trans (h.1 x v hx).1,(h.1 x v hx).2⟩,λW hW=>h.2 W λk hk=>(hW k (hz k hk)).trans (hb k hk)⟩
theorem RowK.step{Z Z':Nat->Prop}{g:Nat}{b:VB}{els:List (List Value)}(h:RowK Z w g b els)(hg:w'.heap[g]?=w.heap[g]?)(hz:∀k,Z k->Z' k)(hb:∀k,Z k->w'.heap[k]?=w.heap[k]?):RowK Z' w' g b els:=
 ⟨h.1,h.2.1,h.2.2.1.blk hg,λj el hj=>⟨(h.2.2.2 j el hj).1,λW hW=>(h.2.2.2 j el hj).2 W λk hk=>(hW k (hz k hk)).trans (hb k hk)⟩⟩
theorem Hold.own{i:Nat}{b:VB}(h:Hold RD w0 G w q i b)(ho:DE b):∃g,G.α i=some ⟨g,0,none⟩/\w0.heap.size<=g/\¬G.Z g/\¬G.RB g/\g<w.heap.size:=by
 rcases ho with h0|h0
 ·obtain⟨g,h1,h2,h3,h4,h5⟩:=h.k0 h0
  exact⟨g,h1,h2,h3,h4,(AB h5).1⟩
 ·obtain⟨g,els,h1,h2,h3,h4,h5⟩:=h.k3 h0
  exact⟨g,h1,h2,h3,h4,h5.2.2.1.lt⟩
theorem Hold.step{i:Nat}{b:VB}(h:Hold RD w0 G w q i b)(hs:GS RD G w q G' w' q' id)(hz:∀k,G.Z k->k<w.heap.size/\¬G.RB k)(hi:i<id\/id+8<=i)(hb:∀j∈b.cs.flatMap Cj,j<id\/id+8<=j):Hold RD w0 G' w' q' i b:=by
 have hblk:∀k,G.Z k->w'.heap[k]?=w.heap[k]?:=λk hk=>hs.stp.block k (hz k hk).1 (hz k hk).2
 refine⟨λh0=>?_,λh1 j hj=>?_,λh2=>?_,λh3=>?_,λh4=>?_,h.kk⟩
 ·obtain⟨g,ha,hw,hZ,hR,hg⟩:=h.k0 h0
  have hl:g<w.heap.size:=(AB hg).1;refine⟨g,(hs.al i hi).trans ha,hw,λhz'=>(hs.z2 g hz').elim hZ (by omega),λhr'=>(hs.r2 g hr').elim hR (by omega),?_⟩;rw[hs.stp.block g hl hR,hg,EX (β:=G'.α) (α:=G.α) EV b.cs λj hj=>hs.al j (hb j hj)]
 ·obtain⟨g,o,el,ha,hZ,hQ,hE⟩:=h.k1 h1 j hj
  exact⟨g,o,el,(hs.al i hi).trans ha,hs.z1 g hZ,hQ,hE.step hZ hs.z1 hblk⟩
 ·obtain⟨g,o,ha,hZ,hE⟩:=h.k2 h2
  exact⟨g,o,(hs.al i hi).trans ha,hs.z1 g hZ,hE.step hZ hs.z1 hblk⟩
 ·obtain⟨g,els,ha,hw,hZ,hR,hk⟩:=h.k3 h3
  have hl:=hk.2.2.1.lt;exact⟨g,els,(hs.al i hi).trans ha,hw,λhz'=>(hs.z2 g hz').elim hZ (by omega),λhr'=>(hs.r2 g hr').elim hR (by omega),hk.step (hs.stp.block g hl hR) hs.z1 hblk⟩
 ·obtain⟨g,ha,hR,hd⟩:=h.k4 h4
  exact⟨g,(hs.al i hi).trans ha,hs.r1 g hR,hs.rd g hR hd⟩
def OkE(lo hi:Nat)(m es:AV):Prop:=∀i b,(i,b)∈es->lo<=i/\i<hi/\Clo m (b.cs.flatMap Cj)
theorem Ek{a:Act}{d i:Nat}{v:Value}:(a.put (some d) v).tmps[i]?=if d=i then(if d<a.tmps.size then some v else none) else a.tmps[i]?:=by
 show(a.tmps.setIfInBounds d v)[i]?=_;rw[Array.getElem?_setIfInBounds]
theorem Sat.step{R0:Ro}{nt:Nat}{t:Tm}{m:AV}{c c':Nat}{a:Act}{v:Value}{es:AV}{d:Option Nat}
  (h:Sat RD R0 w0 nt G ⟨t,m,c,q⟩ a w) (hs:GS RD G w q G' w' q' id) (hn:NewOk RD w0 G' w w' q' es)
  (hold:∀i b,lk m i=some b->(i<id\/id+8<=i)) (hc:c<=c') (he:id+8<=c') (h64:64<=id)
  (hv:Clo (es++m) (BN v)) (hE:OkE id (id+8) (es++m) es) (hd:∀x,d=some x->x<nt):
  Sat RD R0 w0 nt G' ⟨D5 d v t,es++m,c',q'⟩ (a.put d (r2 G'.α v)) w':=by
 have hne:∀i b,lk m i=some b->lk (es++m) i=some b:=λi b hb=>by
  rw[Bc]
  cases hl:lk es i with
  |none=>exact hb
  |some b'=>have:=hE i b' (A9 es i b' hl);have:=hold i b hb;omega
 have hcl:∀l,Clo m l->Clo (es++m) l:=λl hl=>hl.mono λi b hb=>⟨b,hne i b hb⟩
 have hids:∀l,Clo m l->∀j∈l,j<id\/id+8<=j:=λl hl j hj=>let ⟨b,hb⟩:=hl j hj;hold j b hb
 have hget:∀i b,lk (es++m) i=some b->(lk es i=some b)\/(lk es i=none/\lk m i=some b):=λi b hb=>by
  rw[Bc]at hb
  cases hl:lk es i with
  |none=>rw[hl]at hb;exact .inr ⟨rfl,hb⟩
  |some b'=>rw[hl]at hb;exact .inl hb
 refine⟨?_,?_,λi u hu=>?_,λi b hb=>?_,λi b j b' hb hb' h0 h0' hij=>?_,hs.z3,h.fr.trans hs.stp h.rb,λk hk=>?_,hs.r3,AH h.c64 hc,λi hi=>(hs.al i (.inl (by omega))).trans (h.al i hi),AH h.sz hs.stp.size⟩
 ·cases d<;>exact h.dfr
 ·cases d with
  |none=>exact h.tsz
  |some x=>show(a.tmps.setIfInBounds x _).size=nt;rw[Array.size_setIfInBounds];exact h.tsz
 ·have hold':∀u,lk t i=some u->a.tmps[i]?=some (r2 G'.α u)/\Clo (es++m) (BN u):=λu hu=>by
   obtain⟨h1,h2⟩:=h.tmp i u hu;exact⟨by rw[h1,GX (β:=G'.α) (α:=G.α) u λj hj=>hs.al j (hids _ h2 j hj)],hcl _ h2⟩
  cases d with
  |none=>exact hold' u hu
  |some x=>
   by_cases hx:x=i
   ·subst hx
    rw[show D5 (some x) v t=(x,v)::t from rfl,Ag]at hu;cases hu;exact⟨by rw[Ek,if_pos rfl,if_pos (by rw[h.tsz];exact hd x rfl)],hv⟩
   ·rw[show D5 (some x) v t=(x,v)::t from rfl,Aw hx]at hu
    rw[Ek,if_neg hx];exact hold' u hu
 ·rcases hget i b hb with hl|⟨_,hl⟩
  ·have h1:=hE i b (A9 es i b hl)
   exact⟨by show i<c';omega,hn.hold i b (A9 es i b hl),h1.2.2⟩
  ·obtain⟨h1,h2,h3⟩:=h.mem i b hl
   exact⟨AF h1 hc,h2.step hs h.z3 (hold i b hl) (hids _ h3),hcl _ h3⟩
 ·rcases hget i b hb with hl|⟨_,hl⟩<;>rcases hget j b' hb' with hl'|⟨_,hl'⟩
  ·exact hn.dis i b j b' (A9 _ _ _ hl) (A9 _ _ _ hl') h0 h0' hij
  ·obtain⟨g,hg,hgw⟩:=hn.own i b (A9 _ _ _ hl) h0
   obtain⟨g',hg',_,_,_,this⟩:=((h.mem j b' hl').2.1).own h0';rw[hg,hs.al j (hold j b' hl'),hg'];intro e;cases e;omega
  ·obtain⟨g,hg,hgw⟩:=hn.own j b' (A9 _ _ _ hl') h0'
   obtain⟨g',hg',_,_,_,this⟩:=((h.mem i b hl).2.1).own h0;rw[hg,hs.al i (hold i b hl),hg'];intro e;cases e;omega
  ·rw[hs.al i (hold i b hl),hs.al j (hold j b' hl')]
   exact h.dis i b j b' hl hl' h0 h0' hij
 ·rcases hs.r2 k hk with h1|h1
  ·exact h.rb k h1
  ·exact .inr (AH h.fr.size h1)
end
end Go.Proofs.YtbceafpodamnfaaGreat
