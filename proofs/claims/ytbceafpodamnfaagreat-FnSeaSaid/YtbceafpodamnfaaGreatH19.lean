import Derived.Test.YtbceafpodamnfaaGreatH05
import Derived.Deep.DeepCutAuto
set_option linter.all false
set_option maxHeartbeats 4000000
set_option maxRecDepth 100000
namespace Go.Proofs.YtbceafpodamnfaaGreat
section
open Go.RowKit Go.Sort
structure Bx where
 b:Bk
 a1:Option Addr
 a2:Option Addr
 a3:Option Addr
 c1:Nat
 c2:Nat
 c3:Nat
def Bx.cells(x:Bx):List Value:=(#[.int .i64 x.b.now,.slice x.a1 x.b.svcs.length x.c1,.slice x.a2 x.b.cps.length x.c2,.slice x.a3 x.b.bts.length x.c3]:Array Value).toList
def BxAt(w:World)(b o:Nat)(x:Bx):Prop:=w.cell? ⟨b,o,none⟩=some (.int .i64 x.b.now)/\w.cell? ⟨b,o+1,none⟩=some (.slice x.a1 x.b.svcs.length x.c1)/\w.cell? ⟨b,o+2,none⟩=some (.slice x.a2 x.b.cps.length x.c2)/\w.cell? ⟨b,o+3,none⟩=some (.slice x.a3 x.b.bts.length x.c3)
def BxsAt(w:World)(b off:Nat)(l:List Bx):Prop:=∀i x,l[i]?=some x->BxAt w b (off+i*4) x
def SlX(w:World)(ao:Option Addr)(l:List Bx):Prop:=l≠[]->∃b off,ao=some ⟨b,off,none⟩/\b<w.heap.size/\BxsAt w b off l
def BxsIn(w:World)(l:List Bx):Prop:=∀x∈l,BkAt w x.a1 x.a2 x.a3 x.b
def Sizeds(l:List Bx):Prop:=∀x∈l,x.b.sized
def Smalls(l:List Bx):Prop:=∀x∈l,x.b.small
theorem BxAt.below{B:Nat}{w w':World}{b o:Nat}{x:Bx}(h:BxAt w b o x)(hb:Below B w w')(hB:b<B):BxAt w' b o x:=by
 unfold BxAt at *;simp only[λo=>hb.cell (p:=⟨b,o,none⟩) hB];exact h
theorem SlX.below{w w':World}{ao:Option Addr}{l:List Bx}(h:SlX w ao l)(hb:Below w.heap.size w w'):SlX w' ao l:=λhl=>
 let ⟨b,off,e,hlt,hat⟩:=h hl
 ⟨b,off,e,AF hlt hb.size,λi s hs=>(hat i s hs).below hb hlt⟩
theorem BxsIn.below{w w':World}{l:List Bx}(h:BxsIn w l)(hb:Below w.heap.size w w'):BxsIn w' l:=λx hx=>(h x hx).below hb
structure WAt(w:World)(ap:Option Addr)(l:List Bx)(a1 a2 a3:Option Addr)(B:Bk):Prop where
 row:SlX w ap l
 ins:BxsIn w l
 book:BkAt w a1 a2 a3 B
theorem WAt.below{w w':World}{ap:Option Addr}{l:List Bx}{a1 a2 a3:Option Addr}{B:Bk}(h:WAt w ap l a1 a2 a3 B)(hb:Below w.heap.size w w'):WAt w' ap l a1 a2 a3 B:=⟨h.row.below hb,h.ins.below hb,h.book.below hb⟩
theorem BxAt.grown{w:World}{b o:Nat}{x:Bx}(h:BxAt w b o x):(∀p:Regrown,(grow (redrawn w p.d) p.os).cell? ⟨b,o,none⟩=some (.int .i64 x.b.now))/\(∀p:Regrown,(grow (redrawn w p.d) p.os).cell? ⟨b,o+1,none⟩=some (.slice x.a1 x.b.svcs.length x.c1))/\(∀p:Regrown,(grow (redrawn w p.d) p.os).cell? ⟨b,o+2,none⟩=some (.slice x.a2 x.b.cps.length x.c2))/\(∀p:Regrown,(grow (redrawn w p.d) p.os).cell? ⟨b,o+3,none⟩=some (.slice x.a3 x.b.bts.length x.c3)):=by
 unfold BxAt at h;obtain⟨c0,c1,c2,c3⟩:=h;exact⟨λp=>cell_regrown c0 p.d p.os,λp=>cell_regrown c1 p.d p.os,λp=>cell_regrown c2 p.d p.os,λp=>cell_regrown c3 p.d p.os⟩
structure Past(r n:Nat)(w w':World):Prop where
 os:w'.os=w.os
 tape:w'.tape=w.tape
 output:w'.output=w.output
 size:w.heap.size<=w'.heap.size
 block:∀k,k<n->k≠r->w'.heap[k]?=w.heap[k]?
theorem Past.trans{r n:Nat}{a b c:World}(h:Past r n a b)(k:Past r n b c):Past r n a c:=
 ⟨k.os.trans h.os,k.tape.trans h.tape,k.output.trans h.output,AH h.size k.size,λi hi hr=>(k.block i hi hr).trans (h.block i hi hr)⟩
theorem Past.mono{r n m:Nat}{w w':World}(h:Past r n w w')(hm:m<=n):Past r m w w':=⟨h.os,h.tape,h.output,h.size,λk hk=>h.block k (AF hk hm)⟩
theorem Past.of{r n:Nat}{w w':World}(h:Below n w w'):Past r n w w':=⟨h.os,h.tape,h.output,h.size,λk hk _=>h.block k hk⟩
theorem Past.next{r n:Nat}{a b c:World}(h:Past r n a b)(hn:n<=a.heap.size)(k:Past r b.heap.size b c):Past r n a c:=h.trans (k.mono (AH hn h.size))
theorem DT{r n:Nat}{w w':World}{k:Nat}{x:Option Obj}(hb:Past r n w w')(h:w.heap[k]?=x)(hk:k<n)(hr:k≠r):w'.heap[k]?=x:=(hb.block k hk hr).trans h
theorem Past.cell{r n:Nat}{w w':World}(h:Past r n w w'){b:Nat}(hb:b<n)(hr:b≠r)(o:Nat):w'.cell? ⟨b,o,none⟩=w.cell? ⟨b,o,none⟩:=World.cell?_of_block (w:=w) (h.block b hb hr)
def ByAt(r:Nat)(w:World)(ao:Option Addr)(n:Nat):Prop:=0<n->∃b off,ao=some ⟨b,off,none⟩/\b<w.heap.size/\b<r/\∀i,i<n->∃x:Int,w.cell? ⟨b,off+i,none⟩=some (.int .u8 x)/\0<=x/\x<256
theorem ByAt.past{r n:Nat}{w w':World}{ao:Option Addr}(h:ByAt r w ao n)(hp:Past r w.heap.size w w'):ByAt r w' ao n:=λhn=>
 let ⟨b,off,e,hlt,hr,hc⟩:=h hn
 ⟨b,off,e,AF hlt hp.size,hr,λi hi=>by rw[hp.cell hlt (Nat.ne_of_lt hr)];exact hc i hi⟩
def Rd(r:Nat)(w:World)(q:Int):Prop:=∃(ao:Option Addr) (n cap:Nat) (p:Int),w.heap[r]?=some (.cells #[.slice ao n cap,.int .i64 p] 59 (0,0))/\0<=p/\p<=q/\n<=2000/\ByAt r w ao n
theorem Rd.mono{r:Nat}{w:World}{q q':Int}(h:Rd r w q)(hq:q<=q'):Rd r w q':=
 let ⟨ao,n,cap,p,h1,h2,h3,h4,h5⟩:=h
 ⟨ao,n,cap,p,h1,h2,Int.le_trans h3 hq,h4,h5⟩
theorem Rd.lt{r:Nat}{w:World}{q:Int}(h:Rd r w q):r<w.heap.size:=
 let ⟨_,_,_,_,h1,_⟩:=h
 (AB h1).1
theorem Rd.below{r:Nat}{w w':World}{q:Int}(h:Rd r w q)(hb:Below w.heap.size w w'):Rd r w' q:=
 have hl:=h.lt
 let ⟨ao,n,cap,p,h1,h2,h3,h4,h5⟩:=h
 ⟨ao,n,cap,p,AK hb h1 hl,h2,h3,h4,h5.past (.of hb)⟩
theorem Rd.str{r:Nat}{w:World}{q:Int}(h:Rd r w q){b o:Nat}{s:ByteArray}(hc:w.cell? ⟨b,o,none⟩=some (.string s)):b≠r:=by
 rintro rfl;obtain⟨ao,n,cap,p,h1,_⟩:=h;rw[cell_of_row w b o _ _ _ h1]at hc;rcases o with _|_|o
 ·cases hc
 ·cases hc
 ·simp at hc
theorem Rd.two{r:Nat}{w:World}{q:Int}(h:Rd r w q){b o:Nat}{x:Int}{v:Value}(hc:w.cell? ⟨b,o,none⟩=some (.int .i64 x))(hd:w.cell? ⟨b,o+1,none⟩=some v):b≠r:=by
 rintro rfl;obtain⟨ao,n,cap,p,h1,_⟩:=h;rw[cell_of_row w b o _ _ _ h1]at hc;rw[cell_of_row w b _ _ _ _ h1]at hd;rcases o with _|_|o
 ·cases hc
 ·simp at hd
 ·simp at hc
theorem SlS.past{r:Nat}{w w':World}{q:Int}{ao:Option Addr}{l:List Svc}(h:SlS w ao l)(hr:Rd r w q)(hb:Past r w.heap.size w w'):SlS w' ao l:=λhl=>
 let ⟨b,off,e,hlt,hat⟩:=h hl
 ⟨b,off,e,AF hlt hb.size,λi s hs=>by
  have h1:=hat i s hs;have hne:=hr.str h1.1;unfold SvcAt at *;simp only[hb.cell hlt hne]
  exact h1⟩
theorem SlC.past{r:Nat}{w w':World}{q:Int}{ao:Option Addr}{l:List Cp}(h:SlC w ao l)(hr:Rd r w q)(hb:Past r w.heap.size w w'):SlC w' ao l:=λhl=>
 let ⟨b,off,e,hlt,hat⟩:=h hl
 ⟨b,off,e,AF hlt hb.size,λi s hs=>by
  have h1:=hat i s hs;have hne:=hr.str h1.1;unfold CpAt at *;simp only[hb.cell hlt hne]
  exact h1⟩
theorem SlB.past{r:Nat}{w w':World}{q:Int}{ao:Option Addr}{l:List Bt}(h:SlB w ao l)(hr:Rd r w q)(hb:Past r w.heap.size w w'):SlB w' ao l:=λhl=>
 let ⟨b,off,e,hlt,hat⟩:=h hl
 ⟨b,off,e,AF hlt hb.size,λi s hs=>by
  have h1:=hat i s hs;have hne:=hr.str h1.1;unfold BtAt at *;simp only[hb.cell hlt hne]
  exact h1⟩
theorem SlX.past{r:Nat}{w w':World}{q:Int}{ao:Option Addr}{l:List Bx}(h:SlX w ao l)(hr:Rd r w q)(hb:Past r w.heap.size w w'):SlX w' ao l:=λhl=>
 let ⟨b,off,e,hlt,hat⟩:=h hl
 ⟨b,off,e,AF hlt hb.size,λi s hs=>by
  have h1:=hat i s hs;have hne:=hr.two h1.1 h1.2.1;unfold BxAt at *;simp only[hb.cell hlt hne]
  exact h1⟩
theorem BkAt.past{r:Nat}{w w':World}{q:Int}{a1 a2 a3:Option Addr}{B:Bk}(h:BkAt w a1 a2 a3 B)(hr:Rd r w q)(hb:Past r w.heap.size w w'):BkAt w' a1 a2 a3 B:=
 ⟨h.1.past hr hb,h.2.1.past hr hb,h.2.2.past hr hb⟩
theorem WAt.past{r:Nat}{w w':World}{q:Int}{ap:Option Addr}{l:List Bx}{a1 a2 a3:Option Addr}{B:Bk}(h:WAt w ap l a1 a2 a3 B)(hr:Rd r w q)(hb:Past r w.heap.size w w'):WAt w' ap l a1 a2 a3 B:=
 ⟨h.row.past hr hb,λx hx=>(h.ins x hx).past hr hb,h.book.past hr hb⟩
end
section
open Go Go.RowKit
section
variable {P:Program} {ops:Array Oper} {Q:Exit->Act->World->Prop} {r c n:Nat} {q:Int} {w0:World} {a0:Act} {S:Nat->Value->World->Prop}
def RIn(r c n:Nat)(q:Int)(w0:World)(m:Nat)(W:World):Prop:=Past r w0.heap.size w0 W/\Rd r W (q+((n - m)*c:Nat))
def RStep(r c:Nat)(W W':World):Prop:=Past r W.heap.size W W'/\∀q,Rd r W q->Rd r W' (q+c)
theorem RStep.of{W W':World}(h:Below W.heap.size W W'):RStep r c W W':=⟨.of h,λ_ hq=>(hq.below h).mono (by omega)⟩
theorem RStep.re(W:World):RStep r c W W:=.of (Below.refl _ _)
def MI(P:Program)(ops:Array Oper)(r c n:Nat)(q:Int)(w0:World)(a0:Act)(S:Nat->Value->World->Prop)(i:Nat)(o:Oper)(T:Value->World->Prop):Prop:=
 ∀(V:Nat->Value) (W:World) (K:Act->World->Prop),Past r w0.heap.size w0 W->Rd r W (q+(n*c:Nat))->(∀j,Region.waitsFor .any ops i j=true->S j (V j) W)->
  Hid (∀v W',RStep r c W W'->T v W'->K ((Af ops V n a0).put o.dst v) W')->wpList P ops (Ch K) [o] (Af ops V n a0) W
def GO(r c:Nat)(T:Value->World->Prop):Prop:=∀v W W',T v W->RStep r c W W'->(∃q,Rd r W q)->T v W'
theorem rin_step{m:Nat}{W W':World}(hm:m<n)(h:RIn r c n q w0 (m+1) W)(h':RStep r c W W'):RIn r c n q w0 m W':=by
 refine⟨h.1.next (AG _) h'.1,(h'.2 _ h.2).mono ?_⟩;have:(n - m)*c=(n - (m+1))*c+c:=by rw[show n - m=n - (m+1)+1 by omega,Nat.add_mul,Nat.one_mul]
 omega
theorem NU{m:Nat}{W:World}(h:RIn r c n q w0 m W):Rd r W (q+(n*c:Nat)):=h.2.mono (by
 have:=Nat.mul_le_mul_right c (Nat.sub_le n m)
 omega)
theorem LD{g:Nat}
  (hw:∀listed,HeadInv .any ops n listed->∀i,i<n->listed.getD i true=false->∀t,n<=t->t∉Region.ready .any ops listed)
  (hn:n<=ops.size) (hdB:Dx .any ops n=true) (hd:DY ops n=true)
  (hst:∀j,GO r c (S j))
  (hop:∀i o,i<n->ops[i]?=some o->MI P ops r c n q w0 a0 S i o (S i))
  (hlast:∀V W,RIn r c n q w0 0 W->(∀j,j<n->S j (V j) W)->wpAny P .any ops Q g (Bp ops n) (Af ops V n a0) W):
  ∀(m:Nat) (listed:Array Bool) (V:Nat->Value) (W:World),HeadInv .any ops n listed->BW n listed=m->RIn r c n q w0 m W->(∀j,j<n->listed.getD j false=true->S j (V j) W)->
   wpAny P .any ops Q (m+g) listed (Af ops V n a0) W
 |0,listed,V,W,inv,hm,hb,hS=>by
  have hall:∀i,i<n->listed.getD i true=true:=by
   intro i hi;have:=List.countP_eq_zero.1 hm i (List.mem_range.2 hi)
   simpa using this
  rw[Cd inv hall,Nat.zero_add];refine hlast V W hb λj hj=>hS j hj ?_
  have:=hall j hj;have hjs:j<listed.size:=by rw[inv.size];omega
  simp[hjs]at this ⊢;exact this
 |m+1,listed,V,W,inv,hm,hb,hS=>by
  obtain⟨u,hu,hul⟩:∃u,u<n/\listed.getD u true=false:=by
   have:0<BW n listed:=by omega
   obtain⟨u,hu,hul⟩:=List.countP_pos_iff.1 this;exact⟨u,List.mem_range.1 hu,by simpa using hul⟩
  have hmn:m<n:=by
   have:BW n listed<=(List.range n).length:=List.countP_le_length;rw[List.length_range]at this;omega
  rw[show m+1+g=(m+g)+1 by omega];refine⟨λh0=>absurd h0 (C3 hdB inv u hu hul),λi hi=>?_⟩
  have hin:i<n:=by
   rcases Nat.lt_or_ge i n with h|h
   ·exact h
   ·exact absurd hi (hw listed inv u hu hul i h)
  obtain⟨hun,o,ho,hall⟩:=mem_ready.1 hi;refine Ck ho (hop i o hin ho V W _ hb.1 (NU hb) (λj hj=>?_) λv W' hb' hs'=>?_)
  ·obtain⟨oj,hoj,e,he,hbd,hon⟩:=Region.waitsFor_spec hj
   have:oj=o:=Option.some.inj (hoj.symm.trans ho);subst this;have hl:=hall e he hbd;rw[hon]at hl
   have hlt:j<n:=by
    have h1:=List.all_eq_true.1 hdB i (List.mem_range.2 hin);rw[ho]at h1;have h2:=Array.all_eq_true'.1 h1 e he;rw[hbd]at h2;have h3:e.on<i:=by simpa using h2
    omega
   exact hS j hlt hl
  ·have hdst:o.dst=(ops[i]?).bind (·.dst):=by rw[ho];rfl
   rw[hdst,DI hd hin];have his:i<listed.size:=by rw[inv.size];exact(AB ho).1
   refine LD hw hn hdB hd hst hop hlast m _ _ W' (inv.set hi hin) (by have:=DL hin his hun;omega) (rin_step hmn hb hb') λj hj hl=>?_
   by_cases hji:j=i
   ·subst hji
    simpa [upd] using hs'
   ·rw[getD_set_ne false (Ne.symm hji)]at hl
    have:=hst j (V j) W W' (hS j hj hl) hb' ⟨_,hb.2⟩
    simpa [upd,hji] using this
theorem KT{id:Nat}{a:Act}{w:World}{l:List Oper}(n:Nat)(S:Nat->Value->World->Prop)(hm:P.follows .mixedOrders=true)(hB:Av l.toArray n=true)(hr:Rd r w q)
  (hst:∀j,GO r c (S j)) (hop:∀i o,i<n->l.toArray[i]?=some o->MI P l.toArray r c n q w a S i o (S i))
  (hlast:∀V W,Past r w.heap.size w W->Rd r W (q+(n*c:Nat))->(∀j,j<n->S j (V j) W)->wpList P l.toArray Q (l.drop n) (Af l.toArray V n a) W):(Code.region id l.toArray true).wp P Q a w:=by
 simp only[Av,Bool.and_eq_true,decide_eq_true_eq]at hB;obtain⟨⟨⟨⟨⟨hn,hs⟩,hc⟩,hdB⟩,hd⟩,hseq⟩:=hB;refine wp_region_any hm ?_
 have inv0:HeadInv .any l.toArray n (Array.replicate l.toArray.size false):=
  ⟨by simp,λj oj _ hl=>(by rw[getD_replicate_false]at hl;cases hl),λt _ ht=>getD_in (by simpa using ht) (getD_replicate_false _ _)⟩
 have hb0:Below w.heap.size w {w with drawn:=w.drawn+1}:=⟨rfl,rfl,rfl,AG _,λ_ _=>rfl⟩
 have hleft:BW n (Array.replicate l.toArray.size false)=n:=by
  unfold BW;rw[List.countP_eq_length.2]
  ·simp
  ·intro i hi
   have:i<l.toArray.size:=by have:=List.mem_range.1 hi;omega
   rw[getD_in (by simpa using this) (getD_replicate_false _ _)];rfl
 have H:=LD (P:=P) (Q:=Q) (g:=l.toArray.size - n) (S:=S) (w0:=w) (a0:=a) (r:=r) (c:=c) (q:=q) (λlisted inv i hi hu t ht=>tail_waits hs hc hn inv _ i rfl hi hu t ht) (by omega) hdB hd hst hop
  (λV W hb hS=>by
   have hdl:(l.drop n).length=l.toArray.size - n:=by simp
   have:=wpAny_of_seq (md:=.any) (Q':=Q) (l.drop n) n (Bp l.toArray n) _ W (λj=>by simp[List.getElem?_drop]) (by rw[hdl];exact hseq) (hlast V W hb.1 (NU hb) hS)
   rwa [hdl]at this)
  n _ (λj=>match (l.toArray[j]?).bind (·.dst) with|some d=>a.tmps.getD d undef|none=>undef) {w with drawn:=w.drawn+1} inv0 hleft ⟨.of hb0,(hr.below hb0).mono (by omega)⟩ (λj _ hl=>by rw[getD_replicate_false]at hl;cases hl)
 have e:Af l.toArray (λj=>match (l.toArray[j]?).bind (·.dst) with|some d=>a.tmps.getD d undef|none=>undef) n a=a:=C0 a n;rw[e,show n+(l.toArray.size - n)=l.toArray.size by omega]at H;exact H
def GB(P:Program)(ops:Array Oper)(r c n:Nat)(q:Int)(w0:World)(a0:Act)(L:(Nat->Value->World->Prop)->Prop):List Oper->Nat->(Nat->Value->World->Prop)->Prop
 |[],_,S=>L S
 |o::rest,i,S=>∃T,GO r c T/\MI P ops r c n q w0 a0 S i o T/\GB P ops r c n q w0 a0 L rest (i+1) (G4 S i T)
theorem Iy{L:(Nat->Value->World->Prop)->Prop}{o:Oper}{rest:List Oper}{i:Nat}(T:Value->World->Prop)(hT:GO r c T)
  (h:∀(V:Nat->Value) (W:World) (K:Act->World->Prop) (A:Act),Past r w0.heap.size w0 W->Rd r W (q+(n*c:Nat))->(∀j,Region.waitsFor .any ops i j=true->S j (V j) W)->Hid (A=Af ops V n a0)->
   Hid (∀v W',RStep r c W W'->T v W'->K (A.put o.dst v) W')->wpList P ops (Ch K) [o] A W)
  (hr:GB P ops r c n q w0 a0 L rest (i+1) (G4 S i T)):GB P ops r c n q w0 a0 L (o::rest) i S:=⟨T,hT,λV W K hb hq hd hK=>h V W K _ hb hq hd rfl hK,hr⟩
theorem NX{L:(Nat->Value->World->Prop)->Prop}{o:Oper}{rest:List Oper}{i:Nat}{u:Value}
  (h:∀(V:Nat->Value) (W:World) (K:Act->World->Prop) (A:Act),Past r w0.heap.size w0 W->Rd r W (q+(n*c:Nat))->(∀j,Region.waitsFor .any ops i j=true->S j (V j) W)->Hid (A=Af ops V n a0)->
   Hid (∀W',RStep r c W W'->K (A.put o.dst u) W')->wpList P ops (Ch K) [o] A W)
  (hr:GB P ops r c n q w0 a0 L rest (i+1) (G4 S i λv _=>v=u)):GB P ops r c n q w0 a0 L (o::rest) i S:=
 ⟨λv _=>v=u,λ_ _ _ h _ _=>h,λV W K hb hq hd hK=>h V W K _ hb hq hd rfl λW' hb'=>hK.out u W' hb' rfl,hr⟩
theorem Iz{L:(Nat->Value->World->Prop)->Prop}(hdB:Dx .any ops n=true):∀(l:List Oper) (k:Nat) (S:Nat->Value->World->Prop),k+l.length=n->(∀j,j<l.length->l[j]?=ops[k+j]?)->
  (∀j,GO r c (S j))->(∀i o,i<k->ops[i]?=some o->MI P ops r c n q w0 a0 S i o (S i))->GB P ops r c n q w0 a0 L l k S->
  ∃S',(∀j,GO r c (S' j))/\(∀i o,i<n->ops[i]?=some o->MI P ops r c n q w0 a0 S' i o (S' i))/\L S'
 |[],k,S,hk,_,hl,hop,h=>⟨S,hl,by rw[show n=k by simpa using hk.symm];rw[show n=k by simpa using hk.symm]at hop;exact hop,h⟩
 |o::l,k,S,hk,hs,hl,hop,⟨T,hT,ho,h⟩=>by
  have h0:ops[k]?=some o:=by simpa using (hs 0 (by simp)).symm
  have dep:∀i j,i<n->Region.waitsFor .any ops i j=true->j<i:=λi j hi hj=>by
   obtain⟨oj,hoj,e,he,hbd,hon⟩:=Region.waitsFor_spec hj;have h1:=List.all_eq_true.1 hdB i (List.mem_range.2 hi);rw[hoj]at h1;have h2:=Array.all_eq_true'.1 h1 e he;rw[hbd]at h2;have h3:e.on<i:=by simpa using h2
   omega
  have hkn:k<n:=by simp only[List.length_cons]at hk;omega
  refine Iz hdB l (k+1) _ (by simp only[List.length_cons]at hk;omega) (λj hj=>by have:=hs (j+1) (by simp;omega);simpa [Nat.add_assoc,Nat.add_comm 1 j] using this) (λj=>?_) (λi o' hi hi'=>?_) h
  ·by_cases e:j=k
   ·subst e;rw[Dj];exact hT
   ·rw[Cx _ _ e];exact hl j
  ·by_cases e:i=k
   ·subst e
    have:o'=o:=Option.some.inj (hi'.symm.trans h0);subst this;rw[Dj];exact λV W K hb hq hd hK=>ho V W K hb hq (λj hj=>by have:=hd j hj;rwa [Cx _ _ (by have:=dep i j hkn hj;omega)]at this) hK
   ·rw[Cx _ _ e]
    exact λV W K hb hq hd hK=>hop i o' (by omega) hi' V W K hb hq (λj hj=>by have:=hd j hj;rwa [Cx _ _ (by have:=dep i j (by omega) hj;omega)]at this) hK
theorem IB{id:Nat}{a:Act}{w:World}{l:List Oper}(n r c:Nat)(q:Int)(hm:P.follows .mixedOrders=true)(hB:Av l.toArray n=true)(hr:Rd r w q)
  (h:GB P l.toArray r c n q w a (λS=>∀V W A,Past r w.heap.size w W->Rd r W (q+(n*c:Nat))->(∀j,j<n->S j (V j) W)->Hid (A=Af l.toArray V n a)->wpList P l.toArray Q (l.drop n) A W) (l.take n) 0 λ_ _ _=>True):(Code.region id l.toArray true).wp P Q a w:=by
 have hB':=hB;simp only[Av,Bool.and_eq_true,decide_eq_true_eq]at hB';obtain⟨⟨⟨⟨⟨hn,_⟩,_⟩,hdB⟩,_⟩,_⟩:=hB';have hn':n<l.length:=by simpa using hn
 obtain⟨S,h1,h2,h3⟩:=Iz hdB (l.take n) 0 _ (by simp;omega) (λj hj=>by
  have:j<n:=by simp at hj;omega
  simp[this]) (λ_ _ _ _ _ _ _=>trivial) (λi o hi=>absurd hi (by omega)) h
 exact KT n S hm hB hr h1 h2 λV W hb hq hS=>h3 V W _ hb hq hS rfl
end
end
section
open Go.RowKit Go.Sort
theorem bits_xor{x y:Int}(hx:0<=x)(hx1:x<1125899906842624)(hy:0<=y)(hy1:y<1125899906842624):0<=bits .xor .i64 x y/\bits .xor .i64 x y<1125899906842624:=by
 obtain⟨a,rfl⟩:=Int.eq_ofNat_of_zero_le hx;obtain⟨b,rfl⟩:=Int.eq_ofNat_of_zero_le hy;have ha:a<2 ^ 50:=by omega
 have hb:b<2 ^ 50:=by omega
 have hc:=Nat.xor_lt_two_pow ha hb
 have e:(BitVec.ofInt 64 (a:Int) ^^^ BitVec.ofInt 64 (b:Int)).toNat=a ^^^ b:=by
  rw[BitVec.toNat_xor,BitVec.ofInt_natCast,BitVec.ofInt_natCast,BitVec.toNat_ofNat,BitVec.toNat_ofNat,Nat.mod_eq_of_lt (by omega),Nat.mod_eq_of_lt (by omega)]
 have e2:bits .xor .i64 a b=IntKind.wrap .i64 ((a ^^^ b:Nat):Int):=by
  show IntKind.wrap .i64 ((BitVec.ofInt 64 (a:Int) ^^^ BitVec.ofInt 64 (b:Int)).toNat:Int)=_;rw[e]
 rw[e2];generalize a ^^^ b=c at hc;have:IntKind.wrap .i64 (c:Int)=c:=by simp only[IntKind.wrap,IntKind.signed,IntKind.bits,Bool.true_and];split<;>(rename_i h;simp at h;omega)
 rw[this];omega
theorem OS{r:Nat}{w w':World}{ao:Option Addr}{n cap:Nat}{p:Int}(h:w.heap[r]?=some (.cells #[.slice ao n cap,.int .i64 p] 59 (0,0)))(h':w'.heap[r]?=some (.cells #[.slice ao n cap,.int .i64 (p+1)] 59 (0,0)))(on:BA r w w'):RStep r 1 w w':=by
 have hp:Past r w.heap.size w w':=⟨on.below.os,on.below.tape,on.below.output,on.below.size,λk _ hr=>on.other k hr⟩;refine⟨hp,?_⟩;rintro q ⟨ao',n',cap',p',h1,h2,h3,h4,h5⟩;rw[h]at h1;injection h1 with h1
 injection h1 with h1
 injection h1 with h1
 injection h1 with hs h1
 injection h1 with h1
 injection hs with e1 e2 e3
 injection h1 with _ e4
 subst e1 e2 e3 e4;exact⟨_,_,_,_,h',by omega,by omega,h4,h5.past hp⟩
theorem Tryz.infosIntR:(Tryz.prog.info? 3).map (·.size)=some 1:=by kernel_rfl
def Ew(m k:Int):Prop:=0<=k/\(1<=m->k<m)/\(m<1->k=0)
theorem I9{m x:Int}(hm:1<=m):Ew m (x%m):=⟨Int.emod_nonneg _ (by omega),λ_=>Int.emod_lt_of_pos _ (by omega),λh=>absurd h (by omega)⟩
theorem DS(r:Nat)(m q:Int)(w:World)(hm0: -1125899906842624<m)(hm1:m<1125899906842624)(hR:Rd r w q)(hq:q<=1000000000000):
  Calls Tryz.prog 13 #[.pointer (some ⟨r,0,none⟩),.int .i64 m] w λe w'=>∃k:Int,e=.returned (.int .i64 k)/\Ew m k/\RStep r 1 w w':=by
 obtain⟨ao,n,cap,p,hB,h2,h3,h4,h5⟩:=hR;have HB:Hid _:=hB;have HA:Hid (ByAt r w ao n):=h5;have hlt:r<w.heap.size:=(AB hB).1;have hp:p<=1000000000000:=by omega
 have e0:=AJ hB 0 rfl;have e1:=AJ hB 1 rfl;have f1:=D1 hB 1;clear hB h5 h3 hq q;go_enter Tryz.func13,Tryz.ntmps13
 go_upto_region 2 with(with_reducible (show wpList _ _ _ _ _ _);refine Ai rfl 3 (.tmp 14) (.tmp 12) rfl r 1 (.int .i64 (p+1)) rfl rfl Tryz.infosIntR rfl rfl 59 #[.slice ao n cap,.int .i64 p] HB.out (AG _) ?_;intro w1 hb1 on1;simp only[Act.put])
 have HS:Hid (RStep r 1 w w1):=OS HB.out hb1.out on1;have HA1:Hid (ByAt r w1 ao n):=HA.out.past HS.out.1;have hb:w1.heap[r]?=some (.cells #[.slice ao n cap,.int .i64 (p+1)] 59 (0,0)):=hb1.out;clear e0 e1 f1 HB HA on1 hb1;have HB:Hid _:=hb;have e0:=AJ hb 0 rfl;have e1:=AJ hb 1 rfl;clear hb
 by_cases hm:m<1
 ·go_wp2
  go_ret;exact⟨0,rfl,⟨by omega,λh=>absurd h (by omega),λ_=>rfl⟩,HS.out⟩
 by_cases hn:n=0
 ·subst hn
  go_wp2;go_ret;exact⟨0,rfl,⟨by omega,λh=>by omega,λ_=>rfl⟩,HS.out⟩
 have hn':¬((n:Int)=0):=by omega
 obtain⟨b,off,ea,hbl,hbr,HC⟩:∃b off,ao=some ⟨b,off,none⟩/\b<w1.heap.size/\b<r/\Hid (∀i,i<n->∃x:Int,w1.cell? ⟨b,off+i,none⟩=some (.int .u8 x)/\0<=x/\x<256):=HA1.out (by omega);subst ea
 by_cases hk:p<n
 ·obtain⟨i,rfl⟩:=Int.eq_ofNat_of_zero_le h2
  obtain⟨x,hx,hx0,hx1⟩:=HC.out i (by omega);have hxp:Hid (Ew m (x%m)):=I9 (by omega);go_wp2;go_ret;exact⟨_,rfl,hxp.out,HS.out⟩
 have hj1a:=Int.emod_nonneg p hn';have hj1b:=Int.emod_lt_of_pos p (show 0<(n:Int) by omega);have hj2a:=Int.emod_nonneg (p*7+3) hn';have hj2b:=Int.emod_lt_of_pos (p*7+3) (show 0<(n:Int) by omega);have hda:0<=Int.tdiv p n:=Int.tdiv_nonneg h2 (by omega);have hdb:Int.tdiv p n<=p:=Int.tdiv_le_self _ h2;obtain⟨d,hd⟩:∃d,Int.tdiv p n=d:=⟨_,rfl⟩;have hd':p / n=d:=by rw[<-hd,Int.tdiv_eq_ediv_of_nonneg h2]
 obtain⟨j1,hj1⟩:=Int.eq_ofNat_of_zero_le hj1a;obtain⟨j2,hj2⟩:=Int.eq_ofNat_of_zero_le hj2a;rw[hj1]at hj1b;rw[hj2]at hj2b;rw[hd]at hda hdb;obtain⟨x1,hx1,hx1a,hx1b⟩:=HC.out j1 (by omega);obtain⟨x2,hx2,hx2a,hx2b⟩:=HC.out j2 (by omega);have r0:∀p:Regrown,(grow (redrawn w1 p.d) p.os).cell? ⟨r,0,none⟩=some (.slice (some ⟨b,off,none⟩) n cap):=Aa HB.out 0 rfl;have r1:=λp:Regrown=>cell_regrown hx1 p.d p.os
 have r2:=λp:Regrown=>cell_regrown hx2 p.d p.os
 clear hj1a hj2a
 go_upto_region 7 with fail
 refine wp_region_quiet_below (by kernel_rfl) (by kernel_rfl) ?_
 repeat (first|go_big_quiet_step (fail)|quiet_step (fail))
 refine wpQuiet_nil ?_;intro w2 hw';obtain⟨⟨dq,osq⟩,hw''⟩:=hw';have hW:Below w1.heap.size w1 w2:=by rw[hw''];exact below_regrown _ _ _
 clear hw'';obtain⟨x,hx⟩:∃x,x1*131+x2*1117+p*29+d*53=x:=⟨_,rfl⟩;have hx0:0<=x:=by omega
 have hxb:x<1125899906842624:=by omega
 have hz1:0<=Int.tdiv x 64:=Int.tdiv_nonneg hx0 (by omega);have hz2:Int.tdiv x 64<=x:=Int.tdiv_le_self _ hx0;have hy:=bits_xor hx0 hxb hz1 (by omega);have hz3:Int.tdiv x 64=x / 64:=Int.tdiv_eq_ediv_of_nonneg hx0;rw[hz3]at hy;obtain⟨y,hye⟩:∃y,bits .xor .i64 x (x / 64)=y:=⟨_,rfl⟩;rw[hye]at hy;have hy0:=hy.1;have hy1:=hy.2;have hp2:Hid (Ew m (y%m)):=I9 (by omega);clear hy hz1 hz2 hd hd' hj1 hj2 hx1 hx2 r0 r1 r2 e0 e1 hj1b hj2b;simp only[hx];clear hx;go_wp2;go_ret;exact⟨_,rfl,hp2.out,HS.out.1.next (AG _) (.of hW),λq hq=>((HS.out.2 q hq).below hW)⟩
end
end Go.Proofs.YtbceafpodamnfaaGreat
