import Derived.Test.YtbceafpodamnfaaGreatH05
set_option linter.all false
set_option maxHeartbeats 8000000
set_option maxRecDepth 100000
namespace Go.Proofs.YtbceafpodamnfaaGreat
section
open Go.RowKit
def addB(b:Bool)(n:Int):Int:=if b then n+1 else n
theorem same_nm{a b:ByteArray}:(a.toList==b.toList)=true↔a=b:=by
 rw[beq_iff_eq,ByteArray.toList_eq,ByteArray.toList_eq];constructor
 ·intro h
  cases a;cases b;simp only[ByteArray.mk.injEq];exact Array.toList_inj.1 h
 ·intro h;rw[h]
theorem Kz{B:Bk}(h:BH (BD B) B.cps.length=true):∀i,i<B.cps.length->BD B i=true:=λi hi=>by
 unfold BH at h;exact List.all_eq_true.1 h i (List.mem_range.2 hi)
theorem Hk{B:Bk}(h:BH (BD B) B.cps.length=true){c:Cp}(hc:c∈B.cps):cpB B c=true:=by
 obtain⟨i,hi⟩:=List.getElem?_of_mem hc;have:=Kz h i (AC hi).1;unfold BD at this;rw[hi]at this;simp only[Bool.and_eq_true]at this;exact this.1
theorem IJ{B:Bk}(h:BH (BB B) B.svcs.length=true){s:Svc}(hs:s∈B.svcs):G6 B.now s=true:=by
 obtain⟨i,hi⟩:=List.getElem?_of_mem hs;have h1:BB B i=true:=by unfold BH at h;exact List.all_eq_true.1 h i (List.mem_range.2 (AC hi).1)
 unfold BB at h1;rw[hi]at h1;simp only[Bool.and_eq_true]at h1;exact h1.1
structure Valid(B:Bk):Prop where
 now:inB B.now 0 1000000=true
 ls:B.svcs.length<=8
 lc:B.cps.length<=200
 lb:B.bts.length<=6
 svcs:BH (BB B) B.svcs.length=true
 bts:BH (By B) B.bts.length=true
 cps:BH (BD B) B.cps.length=true
theorem validB_iff{B:Bk}:AX B=true↔Valid B:=by
 unfold AX;simp only[Bool.and_eq_true,decide_eq_true_eq];exact⟨λ⟨⟨⟨⟨⟨⟨a,b⟩,c⟩,d⟩,e⟩,f⟩,g⟩=>⟨a,b,c,d,e,f,g⟩,λh=>⟨⟨⟨⟨⟨⟨h.now,h.ls⟩,h.lc⟩,h.lb⟩,h.svcs⟩,h.bts⟩,h.cps⟩⟩
theorem inB_iff{n lo hi:Int}:inB n lo hi=true↔lo<=n/\n<=hi:=by
 unfold inB;simp
theorem Valid.svc{B:Bk}(h:Valid B){c:Cp}(hc:c∈B.cps):∃s,Db B c.service=some s/\FF B.now s c=true:=by
 have:=Hk h.cps hc;unfold cpB at this
 cases hs:Db B c.service with
 |none=>rw[hs]at this;cases this
 |some s=>rw[hs]at this;simp only[Bool.and_eq_true]at this;exact⟨s,rfl,this.1⟩
theorem Jn{B:Bk}{x:ByteArray}{s:Svc}(h:Db B x=some s):s∈B.svcs:=List.mem_of_find?_eq_some h
structure SvcIn(s:Svc):Prop where
 want0:0<=s.want
 want1:s.want<=10
 down0:0<=s.down
 down1:s.down<=10
 over0:0<=s.over
 over1:s.over<=10
 next0:1<=s.next
 next1:s.next<=1000000
theorem Valid.svcIn{B:Bk}(h:Valid B){s:Svc}(hs:s∈B.svcs):SvcIn s:=by
 have:=IJ h.svcs hs;unfold G6 at this;simp only[Bool.and_eq_true,inB_iff]at this;obtain⟨⟨⟨⟨⟨⟨_,h1⟩,h2⟩,h3⟩,h4⟩,_⟩,_⟩:=this;exact⟨h2.1,h2.2,h3.1,h3.2,h4.1,h4.2,h1.1,h1.2⟩
def CH(B:Bk)(nm:ByteArray)(m:Nat):Int:=((B.cps.take m).filter λc=>c.berth.toList==nm.toList).length
theorem De{B:Bk}{nm:ByteArray}{m:Nat}{c:Cp}(h:B.cps[m]?=some c):CH B nm (m+1)=addB (c.berth.toList==nm.toList) (CH B nm m):=by
 unfold CH addB;rw[List.take_add_one,h,List.filter_append];cases hc:(c.berth.toList==nm.toList)<;>simp[List.filter,hc]
theorem F9(B:Bk)(nm:ByteArray)(m:Nat):0<=CH B nm m/\CH B nm m<=m:=by
 unfold CH;have h1:=List.length_filter_le (λc:Cp=>c.berth.toList==nm.toList) (B.cps.take m);have h2:(B.cps.take m).length<=m:=by rw[List.length_take];omega
 omega
def Bs(B:Bk)(nm:ByteArray):Int:=CH B nm B.cps.length
def Es(B:Bk)(p:ByteArray × Int)(t:Bt):ByteArray × Int:=if(!t.drain&&(p.1.toList==[]||decide (Bs B t.name<p.2)))=true then(t.name,Bs B t.name) else p
def Ao(B:Bk)(k:Nat):ByteArray × Int:=(B.bts.take k).foldl (Es B) (⟨#[]⟩,0)
theorem Dh{B:Bk}{k:Nat}{t:Bt}(h:B.bts[k]?=some t):Ao B (k+1)=Es B (Ao B k) t:=by
 unfold Ao;rw[List.take_add_one,h,List.foldl_append];rfl
def Bo(B:Bk):ByteArray:=(Ao B B.bts.length).1
def Cr(v:Int)(c:Cp):Cp:=if c.state=2 then {c with state:=3,version:=v} else c
def Bw(v:Int)(l:List Cp):List Cp:=(l.filter λc=>!c.ending).map (Cr v)
def BO(v:Int)(X:Bk)(i:Nat):Bk:=match X.cps[i]? with
 |some c=>if c.state=1/\Bo X≠⟨#[]⟩ then {X with cps:=X.cps.set i {c with state:=2,berth:=Bo X,version:=v}} else X
 |none=>X
def Ht(B:Bk)(v:Int):Bk:={B with cps:=Bw v B.cps}
def BQ(B:Bk)(v:Int)(k:Nat):Bk:=(List.range k).foldl (BO v) (Ht B v)
def Ca(B:Bk)(v:Int):Bk:=BQ B v (Bw v B.cps).length
theorem Cz(B:Bk)(v:Int)(k:Nat):BQ B v (k+1)=BO v (BQ B v k) k:=by
 unfold BQ;rw[List.range_succ,List.foldl_append];rfl
theorem Gd(v:Int)(X:Bk)(i:Nat):(BO v X i).now=X.now/\(BO v X i).svcs=X.svcs/\(BO v X i).bts=X.bts/\(BO v X i).cps.length=X.cps.length:=by
 unfold BO;split
 ·split
  ·exact⟨rfl,rfl,rfl,List.length_set ..⟩
  ·exact⟨rfl,rfl,rfl,rfl⟩
 ·exact⟨rfl,rfl,rfl,rfl⟩
theorem CT(B:Bk)(v:Int):∀k,(BQ B v k).now=B.now/\(BQ B v k).svcs=B.svcs/\(BQ B v k).bts=B.bts/\(BQ B v k).cps.length=(Bw v B.cps).length
 |0=>⟨rfl,rfl,rfl,rfl⟩
 |k+1=>by
  rw[Cz];obtain⟨h1,h2,h3,h4⟩:=Gd v (BQ B v k) k;obtain⟨q1,q2,q3,q4⟩:=CT B v k;exact⟨h1.trans q1,h2.trans q2,h3.trans q3,h4.trans q4⟩
section
variable {P:Program}
theorem Gv(w:World)(g:Nat)(cur:Array Value)(t:TypeId)(hg:w.heap[g]?=some (.cells cur t (0,0))):Below w.heap.size w (w.setRow g cur):=
 ⟨rfl,rfl,rfl,by rw[D7];exact AG _,λk _=>by
  by_cases h:k=g
  ·subst h;rw[setRow_heap w k cur cur t _ hg,hg]
  ·exact C9 w g k cur h⟩
theorem HD(w:World)(t ty e:TypeId)(z:Value)(size bytes:Nat)(ht:P.underlying t=some (.slice e))(hinfo:(P.info? e).map (λi=>(i.zero,i.size,i.bytes))=some (some z,size,bytes))(hzs:z.cells.size=size)
  (g:Nat) (hg:w.heap[g]?=some (.cells #[] e (0,0)))
  (ao:Option Addr) (m c:Nat) (news:List Value) (hl:news.length=m*size) (hsrc:m≠0->∃ad,ao=some ad/\∀j u,news[j]?=some u->w.cell? (ad.add j)=some u) (h1:∀u∈news,u.oneCell'=true)
  (h63:m<=maxLen) (hbytes:m*bytes<=140737488355328):
  ∃g' cap' w',(Builtin.append_ #[t,t] ty #[.slice (some ⟨g,0,none⟩) 0 0,.slice ao m c]).run P w=.ok (.slice (some ⟨g',0,none⟩) m cap') w'/\(g'=g\/g'=w.heap.size)/\RowIs w' e size g' m cap' news/\Below w.heap.size w w':=by
 by_cases hm:m=0
 ·subst hm
  have hn:news=[]:=List.eq_nil_of_length_eq_zero (by simpa using hl);subst hn;obtain⟨i,hi,hz,hs,hb⟩:=info_parts hinfo;subst hs hb
  cases ao with
  |none=>
   refine⟨g,0,w,?_,.inl rfl,⟨by simp,AG _,#[],hg,by simp,by simp⟩,Below.refl _ _⟩;simp[Builtin.append_,run_underlying ht,sizeOf,typeInfo,hi,Builtin.lenOf,Builtin.firstCells,storeCells]
  |some ad=>
   have hr:=run_append_room (P:=P) w t ty e i ht hi g 0 0 #[] hg ad 0 c [] (by simp) (by simp) (by simp) (AG _) (by simp);refine⟨g,0,_,by simpa using hr,.inl rfl,⟨by simp,AG _,#[],setRow_heap w g #[] #[] e _ hg,by simp,by simp⟩,Gv w g #[] e hg⟩
 ·obtain⟨ad,rfl,hnews⟩:=hsrc hm
  obtain⟨i,hi,hz,hs,hb⟩:=info_parts hinfo;subst hs hb;have hr:=run_append_grow (P:=P) w t ty e i z ht hi hz ⟨g,0,none⟩ 0 0 [] (by simp) (by simp) ad m c news hl hnews (by omega) (by unfold maxLen at h63;omega) (growslice_fits (by omega) (by simpa using hbytes));simp only[Nat.zero_add]at hr;have hge:=grownCap_ge w m 0 e;refine⟨w.heap.size,_,_,hr,.inr rfl,⟨hl,hge,_,heap_alloc_new w.drew _,?_,?_⟩,⟨rfl,rfl,rfl,by simp,λk hk=>by show(w.heap.push _)[k]?=_;rw[Array.getElem?_push,if_neg (by omega)]⟩⟩
  ·simp only[Array.size_append,List.size_toArray,size_zeroCells,hzs,hl,List.length_nil,Nat.zero_add]
   rw[<-Nat.add_mul]
   congr 1
   omega
  ·simp only[Array.toList_append,List.nil_append]
   rw[<-hl];exact List.take_left
theorem CO{ops:Array Oper}{rest:List Oper}{o:Oper}{a:Act}{w:World}{Q:Exit->Act->World->Prop}(hgd:o.guard=none)(s x:Operand)(t:TypeId)
  (ho:o.op=.call {callee:=.builtin .append,args:=#[s,x],argTypes:=#[t,t]})
  (e:TypeId) (z:Value) (size bytes:Nat) (ht:P.underlying t=some (.slice e)) (hinfo:(P.info? e).map (λi=>(i.zero,i.size,i.bytes))=some (some z,size,bytes)) (hzs:z.cells.size=size)
  (g:Nat) (hs:a.eval s=.slice (some ⟨g,0,none⟩) 0 0) (hg:w.heap[g]?=some (.cells #[] e (0,0)))
  (ao:Option Addr) (m c:Nat) (news:List Value) (hx:a.eval x=.slice ao m c) (hl:news.length=m*size) (hsrc:m≠0->∃ad,ao=some ad/\∀j u,news[j]?=some u->w.cell? (ad.add j)=some u) (h1:∀u∈news,u.oneCell'=true)
  (h63:m<=maxLen) (hbytes:m*bytes<=140737488355328)
  (h:∀g' cap' w',(g'=g\/g'=w.heap.size)->Hid (RowIs w' e size g' m cap' news)->Below w.heap.size w w'->wpList P ops Q rest (a.put o.dst (.slice (some ⟨g',0,none⟩) m cap')) w'):wpList P ops Q (o::rest) a w:=by
 refine wpList_plain hgd λK hK=>?_
 obtain⟨g',cap',w',hr,h2,h3,h4⟩:=HD (P:=P) w t o.type e z size bytes ht hinfo hzs g hg ao m c news hl hsrc h1 h63 hbytes;unfold Oper.wp execOp;simp only[ho,resolve,invoke,builtin,Sem.run_bind,Sem.run_pure,Result.andThen_ok,List.map_toArray,List.map_cons,List.map_nil,hs,hx,hr];exact hK _ _ (h g' cap' w' h2 h3 h4)
end
theorem DV{α:Type}{c:α->List Value}{n:Nat}(hc:∀s,(c s).length=n)(l:List α):(l.flatMap c).length=l.length*n:=by
 induction l with
 |nil=>simp
 |cons x l ih=>rw[List.flatMap_cons,List.length_append,ih,hc,List.length_cons,Nat.succ_mul];omega
theorem Do{α:Type}{c:α->List Value}{n:Nat}(hc:∀s,(c s).length=n):∀(l:List α) (j:Nat) (u:Value),(l.flatMap c)[j]?=some u->∃i k s,l[i]?=some s/\(c s)[k]?=some u/\j=i*n+k
 |[],j,u,h=>by simp at h
 |x::l,j,u,h=>by
  rw[List.flatMap_cons]at h
  by_cases hj:j<n
  ·rw[List.getElem?_append_left (by rw[hc];exact hj)]at h
   exact⟨0,j,x,rfl,h,by omega⟩
  ·rw[List.getElem?_append_right (by rw[hc];omega),hc]at h
   obtain⟨i,k,s,h1,h2,h3⟩:=Do hc l _ u h;exact⟨i+1,k,s,by simpa using h1,h2,by rw[Nat.succ_mul];omega⟩
theorem AT{α:Type}{c:α->List Value}{n:Nat}(hc:∀s,(c s).length=n):∀(l:List α) (i:Nat) (s:α) (k:Nat) (u:Value),l[i]?=some s->(c s)[k]?=some u->(l.flatMap c)[i*n+k]?=some u
 |[],i,s,k,u,h,_=>by simp at h
 |x::l,0,s,k,u,h,hu=>by
  simp at h;subst h;have hk:k<(c x).length:=(AC hu).1;rw[List.flatMap_cons,Nat.zero_mul,Nat.zero_add,List.getElem?_append_left hk];exact hu
 |x::l,i+1,s,k,u,h,hu=>by
  rw[List.flatMap_cons,List.getElem?_append_right (by rw[hc,Nat.succ_mul];omega),hc,show(i+1)*n+k - n=i*n+k by rw[Nat.succ_mul];omega];exact AT hc l i s k u (by simpa using h) hu
def AY(l:List Svc):List Value:=l.flatMap Svc.cells
def As(l:List Cp):List Value:=l.flatMap Cp.cells
def Ak(l:List Bt):List Value:=l.flatMap Bt.cells
theorem BS(l:List Svc):(AY l).length=l.length*13:=DV (c:=Svc.cells) (n:=13) (λ_=>rfl) l
theorem Ea(l:List Cp):(As l).length=l.length*7:=DV (c:=Cp.cells) (n:=7) (λ_=>rfl) l
theorem Bf(l:List Bt):(Ak l).length=l.length*2:=DV (c:=Bt.cells) (n:=2) (λ_=>rfl) l
theorem ES(l:List Svc):∀u∈AY l,u.oneCell'=true:=λu hu=>by
 obtain⟨s,_,h⟩:=List.mem_flatMap.1 hu;simp[Svc.cells]at h;rcases h with rfl|rfl|rfl|rfl|rfl|rfl|rfl|rfl|rfl|rfl|rfl|rfl|rfl<;>rfl
theorem JY(l:List Cp):∀u∈As l,u.oneCell'=true:=λu hu=>by
 obtain⟨s,_,h⟩:=List.mem_flatMap.1 hu;simp[Cp.cells]at h;rcases h with rfl|rfl|rfl|rfl|rfl|rfl|rfl<;>rfl
theorem Eb(l:List Bt):∀u∈Ak l,u.oneCell'=true:=λu hu=>by
 obtain⟨s,_,h⟩:=List.mem_flatMap.1 hu;simp[Bt.cells]at h;rcases h with rfl|rfl<;>rfl
theorem SvcAt.get{w:World}{b o:Nat}{s:Svc}(h:SvcAt w b o s)(k:Nat)(u:Value)(hu:s.cells[k]?=some u):w.cell? ⟨b,o+k,none⟩=some u:=by
 obtain⟨h0,h1,h2,h3,h4,h5,h6,h7,h8,h9,h10,h11,h12⟩:=h
 match k,hu with
 |0,hu=>obtain rfl:=Option.some.inj hu;exact h0
 |1,hu=>obtain rfl:=Option.some.inj hu;exact h1
 |2,hu=>obtain rfl:=Option.some.inj hu;exact h2
 |3,hu=>obtain rfl:=Option.some.inj hu;exact h3
 |4,hu=>obtain rfl:=Option.some.inj hu;exact h4
 |5,hu=>obtain rfl:=Option.some.inj hu;exact h5
 |6,hu=>obtain rfl:=Option.some.inj hu;exact h6
 |7,hu=>obtain rfl:=Option.some.inj hu;exact h7
 |8,hu=>obtain rfl:=Option.some.inj hu;exact h8
 |9,hu=>obtain rfl:=Option.some.inj hu;exact h9
 |10,hu=>obtain rfl:=Option.some.inj hu;exact h10
 |11,hu=>obtain rfl:=Option.some.inj hu;exact h11
 |12,hu=>obtain rfl:=Option.some.inj hu;exact h12
 |k+13,hu=>simp[Svc.cells]at hu
theorem CpAt.get{w:World}{b o:Nat}{s:Cp}(h:CpAt w b o s)(k:Nat)(u:Value)(hu:s.cells[k]?=some u):w.cell? ⟨b,o+k,none⟩=some u:=by
 obtain⟨h0,h1,h2,h3,h4,h5,h6⟩:=h
 match k,hu with
 |0,hu=>obtain rfl:=Option.some.inj hu;exact h0
 |1,hu=>obtain rfl:=Option.some.inj hu;exact h1
 |2,hu=>obtain rfl:=Option.some.inj hu;exact h2
 |3,hu=>obtain rfl:=Option.some.inj hu;exact h3
 |4,hu=>obtain rfl:=Option.some.inj hu;exact h4
 |5,hu=>obtain rfl:=Option.some.inj hu;exact h5
 |6,hu=>obtain rfl:=Option.some.inj hu;exact h6
 |k+7,hu=>simp[Cp.cells]at hu
theorem BtAt.get{w:World}{b o:Nat}{s:Bt}(h:BtAt w b o s)(k:Nat)(u:Value)(hu:s.cells[k]?=some u):w.cell? ⟨b,o+k,none⟩=some u:=by
 obtain⟨h0,h1⟩:=h
 match k,hu with
 |0,hu=>obtain rfl:=Option.some.inj hu;exact h0
 |1,hu=>obtain rfl:=Option.some.inj hu;exact h1
 |k+2,hu=>simp[Bt.cells]at hu
theorem SlS.src{w:World}{ao:Option Addr}{l:List Svc}(h:SlS w ao l):l.length≠0->∃ad,ao=some ad/\∀j u,(AY l)[j]?=some u->w.cell? (ad.add j)=some u:=λhn=>by
 obtain⟨b,off,e,_,hat⟩:=h (by intro h;rw[h]at hn;simp at hn);refine⟨_,e,λj u hu=>?_⟩;obtain⟨i,k,s,h1,h2,rfl⟩:=Do (c:=Svc.cells) (n:=13) (λ_=>rfl) l j u hu;have:=(hat i s h1).get k u h2;rw[Nat.add_assoc,<-Addr.add_lit]at this;exact this
theorem SlC.src{w:World}{ao:Option Addr}{l:List Cp}(h:SlC w ao l):l.length≠0->∃ad,ao=some ad/\∀j u,(As l)[j]?=some u->w.cell? (ad.add j)=some u:=λhn=>by
 obtain⟨b,off,e,_,hat⟩:=h (by intro h;rw[h]at hn;simp at hn);refine⟨_,e,λj u hu=>?_⟩;obtain⟨i,k,s,h1,h2,rfl⟩:=Do (c:=Cp.cells) (n:=7) (λ_=>rfl) l j u hu;have:=(hat i s h1).get k u h2;rw[Nat.add_assoc,<-Addr.add_lit]at this;exact this
theorem SlB.src{w:World}{ao:Option Addr}{l:List Bt}(h:SlB w ao l):l.length≠0->∃ad,ao=some ad/\∀j u,(Ak l)[j]?=some u->w.cell? (ad.add j)=some u:=λhn=>by
 obtain⟨b,off,e,_,hat⟩:=h (by intro h;rw[h]at hn;simp at hn);refine⟨_,e,λj u hu=>?_⟩;obtain⟨i,k,s,h1,h2,rfl⟩:=Do (c:=Bt.cells) (n:=2) (λ_=>rfl) l j u hu;have:=(hat i s h1).get k u h2;rw[Nat.add_assoc,<-Addr.add_lit]at this;exact this
theorem RowIs.slS{w:World}{e:TypeId}{g n cap:Nat}{l:List Svc}(h:RowIs w e 13 g n cap (AY l)):SlS w (some ⟨g,0,none⟩) l:=λ_=>
 ⟨g,0,rfl,h.lt,λi s hs=>by
  have:=λk u hu=>h.cell (AT (c:=Svc.cells) (n:=13) (λ_=>rfl) l i s k u hs hu)
  unfold SvcAt;rw[Nat.zero_add]
  exact⟨this 0 _ rfl,this 1 _ rfl,this 2 _ rfl,this 3 _ rfl,this 4 _ rfl,this 5 _ rfl,this 6 _ rfl,this 7 _ rfl,this 8 _ rfl,this 9 _ rfl,this 10 _ rfl,this 11 _ rfl,this 12 _ rfl⟩⟩
theorem RowIs.slC{w:World}{e:TypeId}{g n cap:Nat}{l:List Cp}(h:RowIs w e 7 g n cap (As l)):SlC w (some ⟨g,0,none⟩) l:=λ_=>
 ⟨g,0,rfl,h.lt,λi s hs=>by
  have:=λk u hu=>h.cell (AT (c:=Cp.cells) (n:=7) (λ_=>rfl) l i s k u hs hu)
  unfold CpAt;rw[Nat.zero_add]
  exact⟨this 0 _ rfl,this 1 _ rfl,this 2 _ rfl,this 3 _ rfl,this 4 _ rfl,this 5 _ rfl,this 6 _ rfl⟩⟩
theorem RowIs.slB{w:World}{e:TypeId}{g n cap:Nat}{l:List Bt}(h:RowIs w e 2 g n cap (Ak l)):SlB w (some ⟨g,0,none⟩) l:=λ_=>
 ⟨g,0,rfl,h.lt,λi s hs=>by
  have:=λk u hu=>h.cell (AT (c:=Bt.cells) (n:=2) (λ_=>rfl) l i s k u hs hu)
  unfold BtAt;rw[Nat.zero_add]
  exact⟨this 0 _ rfl,this 1 _ rfl⟩⟩
theorem BR{α:Type}(l:List α)(o:Nat)(xs:List α)(h:o+xs.length<=l.length)(j:Nat):(splice l o xs)[j]?=if j<o then l[j]? else if j<o+xs.length then xs[j - o]? else l[j]?:=by
 have ht:(l.take o).length=o:=by rw[List.length_take];omega
 unfold splice
 by_cases h1:j<o
 ·rw[if_pos h1,List.getElem?_append_left (by omega),List.getElem?_take_of_lt h1]
 ·rw[if_neg h1,List.getElem?_append_right (by omega),ht]
  by_cases h2:j<o+xs.length
  ·rw[if_pos h2,List.getElem?_append_left (by omega)]
  ·rw[if_neg h2,List.getElem?_append_right (by omega),List.getElem?_drop]
   congr 1
   omega
theorem LN{α:Type}(l:List α)(o n:Nat)(xs:List α)(h:o+xs.length<=n)(hn:n<=l.length):(splice l o xs).take n=splice (l.take n) o xs:=by
 have hl:(l.take n).length=n:=by rw[List.length_take];omega
 refine List.ext_getElem? λj=>?_
 rw[BR _ _ _ (by omega)]
 by_cases hj:j<n
 ·rw[List.getElem?_take_of_lt hj,BR _ _ _ (by omega),List.getElem?_take_of_lt hj]
 ·rw[List.getElem?_eq_none (by rw[List.length_take];omega),if_neg (by omega),if_neg (by omega),List.getElem?_eq_none (by omega)]
theorem C4{α:Type}{c:α->List Value}{n:Nat}(hc:∀s,(c s).length=n)(l:List α)(i:Nat)(s:α)(hi:i<l.length):splice (l.flatMap c) (i*n) (c s)=(l.set i s).flatMap c:=by
 have hlen:=DV hc l;have hfit:i*n+n<=l.length*n:=by rw[<-Nat.succ_mul];exact Nat.mul_le_mul_right n hi
 refine List.ext_getElem? λj=>?_
 rw[BR _ _ _ (by rw[hc,hlen];exact hfit),hc]
 by_cases hj:j<l.length*n
 ·have hn:0<n:=Nat.pos_of_ne_zero λh=>(by rw[h]at hj;simp at hj)
  obtain⟨u,hu⟩:∃u,(l.flatMap c)[j]?=some u:=⟨(l.flatMap c)[j]'(by rw[hlen];exact hj),by rw[List.getElem?_eq_getElem]⟩;obtain⟨p,k,x,h1,h2,rfl⟩:=Do hc l j u hu;have hk:k<n:=by have:=(AC h2).1;rw[hc]at this;exact this
  by_cases hp:p=i
  ·subst hp
   obtain⟨v,hv⟩:∃v,(c s)[k]?=some v:=⟨(c s)[k]'(by rw[hc];exact hk),by rw[List.getElem?_eq_getElem]⟩;rw[if_neg (by omega),if_pos (by omega),show p*n+k - p*n=k by omega,hv];exact(AT hc (l.set p s) p s k v (by simp[hi]) hv).symm
  ·have hg:(l.set i s)[p]?=some x:=by rw[List.getElem?_set_ne (by omega)];exact h1
   rw[AT hc (l.set i s) p x k u hg h2,hu]
   by_cases hlt:p<i
   ·have:p*n+n<=i*n:=by rw[<-Nat.succ_mul];exact Nat.mul_le_mul_right n hlt
    rw[if_pos (by omega)]
   ·have:i*n+n<=p*n:=by rw[<-Nat.succ_mul];exact Nat.mul_le_mul_right n (by omega)
    rw[if_neg (by omega),if_neg (by omega)]
 ·rw[if_neg (by omega),if_neg (by omega),List.getElem?_eq_none (by omega),List.getElem?_eq_none (by rw[DV hc];simpa using Nat.le_of_not_lt hj)]
theorem Cb{α:Type}{c:α->List Value}{n:Nat}(hc:∀s,(c s).length=n)(l:List α)(i k:Nat)(s s':α)(u:Value)(hi:l[i]?=some s)(hk:k<n)(hs:c s'=(c s).set k u):splice (l.flatMap c) (i*n+k) [u]=(l.set i s').flatMap c:=by
 have hil:i<l.length:=(AC hi).1;have hlen:=DV hc l;have hfit:i*n+n<=l.length*n:=by rw[<-Nat.succ_mul];exact Nat.mul_le_mul_right n hil
 rw[<-C4 hc l i s' hil];refine List.ext_getElem? λj=>?_
 rw[BR _ _ _ (by rw[hlen,List.length_singleton];omega),BR _ _ _ (by rw[hc,hlen];exact hfit),hc,List.length_singleton]
 by_cases h1:j<i*n
 ·rw[if_pos (by omega),if_pos h1]
 ·rw[if_neg h1]
  by_cases h2:j<i*n+n
  ·obtain⟨q,rfl⟩:∃q,j=i*n+q:=⟨j - i*n,by omega⟩
   rw[if_pos h2,show i*n+q - i*n=q by omega,hs]
   by_cases h3:q=k
   ·subst h3
    rw[if_neg (by omega),if_pos (by omega),List.getElem?_set_self (by rw[hc];exact hk),show i*n+q - (i*n+q)=0 by omega];rfl
   ·rw[List.getElem?_set_ne (by omega)]
    obtain⟨v,hv⟩:∃v,(c s)[q]?=some v:=⟨(c s)[q]'(by rw[hc];omega),by rw[List.getElem?_eq_getElem]⟩;rw[hv,AT hc l i s q v hi hv]
    by_cases h4:q<k
    ·rw[if_pos (by omega)]
    ·rw[if_neg (by omega),if_neg (by omega)]
  ·rw[if_neg h2,if_neg (by omega),if_neg (by omega)]
theorem RowIs.stored{w w':World}{e:TypeId}{size g n cap:Nat}{xs:List Value}(h:RowIs w e size g n cap xs)(cur:Array Value)(hg:w.heap[g]?=some (.cells cur e (0,0)))(o:Nat)(ys:List Value)(hfit:o+ys.length<=n*size)
  (h':w'.heap[g]?=some (.cells (splice cur.toList o ys).toArray e (0,0))):RowIs w' e size g n cap (splice xs o ys):=by
 obtain⟨hx,hc,cur',h1,h2,h3⟩:=h;rw[hg]at h1;injection h1 with h1
 injection h1 with h1
 subst h1;have hnc:n*size<=cur.toList.length:=by rw[Array.length_toList,h2];exact Nat.mul_le_mul_right size hc
 refine⟨by rw[length_splice _ _ _ (by rw[hx];exact hfit),hx],hc,_,h',?_,?_⟩
 ·rw[List.size_toArray,length_splice _ _ _ (by omega),Array.length_toList,h2]
 ·show(splice cur.toList o ys).take (n*size)=_
  rw[LN _ _ _ _ hfit hnc,h3]
section
variable {P:Program}
theorem B7{ops:Array Oper}{rest:List Oper}{o:Oper}{a:Act}{w:World}{Q:Exit->Act->World->Prop}(hgd:o.guard=none)(ty:TypeId)(x y:Operand)(ho:o.op=.store ty x y)
  (g off:Nat) (v:Value) (hx:a.eval x=.pointer (some ⟨g,off,none⟩)) (hy:a.eval y=v) (hi:(P.info? ty).map (·.size)=some 1) (hv:v.cells=#[v]) (h1:v.oneCell'=true)
  (e:TypeId) (size n cap:Nat) (xs:List Value) (hrow:RowIs w e size g n cap xs) (hfit:off+1<=n*size)
  (h:∀w',Hid (RowIs w' e size g n cap (splice xs off [v]))->BA g w w'->wpList P ops Q rest (a.put o.dst undef) w'):wpList P ops Q (o::rest) a w:=by
 have hr:=hrow;obtain⟨hxl,hc,cur,hg,hs,ht⟩:=hr;have hnc:n*size<=cap*size:=Nat.mul_le_mul_right size hc;exact Ai hgd ty x y ho g off v hx hy hi hv h1 e cur hg (by omega) λw' h' on=>h w' (hrow.stored cur hg off [v] hfit h'.out) on
theorem Cv{ops:Array Oper}{rest:List Oper}{o:Oper}{a:Act}{w:World}{Q:Exit->Act->World->Prop}(hgd:o.guard=none)(ty:TypeId)(x y:Operand)(ho:o.op=.store ty x y)
  (g off:Nat) (cells:Array Value) (hx:a.eval x=.pointer (some ⟨g,off,none⟩)) (hy:a.eval y=.agg cells) (hi:(P.info? ty).map (·.size)=some cells.size) (h1:cells.all (·.oneCell')=true)
  (e:TypeId) (size n cap:Nat) (xs:List Value) (hrow:RowIs w e size g n cap xs) (hfit:off+cells.size<=n*size)
  (h:∀w',Hid (RowIs w' e size g n cap (splice xs off cells.toList))->BA g w w'->wpList P ops Q rest (a.put o.dst undef) w'):wpList P ops Q (o::rest) a w:=by
 have hr:=hrow;obtain⟨hxl,hc,cur,hg,hs,ht⟩:=hr;have hnc:n*size<=cap*size:=Nat.mul_le_mul_right size hc;exact AL hgd ty x y ho g off cells hx hy e cur hg hi (by omega) h1 λw' h' on=>h w' (hrow.stored cur hg off cells.toList (by rw[Array.length_toList];exact hfit) h'.out) on
end
end
section
open Go.RowKit Go.Sort
structure En where
 number:Int
 seen:Int
structure Ac where
 service:ByteArray
 seen:Int
 create:Int
 want:Int
 cool:Int
 scale:Bool
 ends:List En
 drop:Bool
def EnAt(w:World)(b o:Nat)(s:En):Prop:=w.cell? ⟨b,o,none⟩=some (.int .i64 s.number)/\w.cell? ⟨b,o+1,none⟩=some (.int .i64 s.seen)
def KS(w:World)(b off:Nat)(l:List En):Prop:=∀i s,l[i]?=some s->EnAt w b (off+i*2) s
theorem EnAt.below{B:Nat}{w w':World}{b o:Nat}{s:En}(h:EnAt w b o s)(hb:Below B w w')(hB:b<B):EnAt w' b o s:=by
 unfold EnAt at *;simp only[λo=>hb.cell (p:=⟨b,o,none⟩) hB];exact h
theorem EnAt.blk{w w':World}{b o:Nat}{s:En}(h:EnAt w b o s)(hb:w'.heap[b]?=w.heap[b]?):EnAt w' b o s:=by
 unfold EnAt at *;simp only[λo=>World.cell?_of_block (w:=w) (w':=w') (a:=⟨b,o,none⟩) hb];exact h
def SlE(w:World)(ao:Option Addr)(l:List En):Prop:=l≠[]->∃b off,ao=some ⟨b,off,none⟩/\b<w.heap.size/\KS w b off l
theorem SlE.below{w w':World}{ao:Option Addr}{l:List En}(h:SlE w ao l)(hb:Below w.heap.size w w'):SlE w' ao l:=λhl=>
 let ⟨b,off,e,hlt,hat⟩:=h hl
 ⟨b,off,e,AF hlt hb.size,λi s hs=>(hat i s hs).below hb hlt⟩
abbrev Ed:=Ac × Option Addr × Nat
def D4(r:Ed):List Value:=(#[.string r.1.service,.int .i64 r.1.seen,.int .i64 r.1.create,.int .i64 r.1.want,.int .i64 r.1.cool,.bool r.1.scale,.slice r.2.1 r.1.ends.length r.2.2,.bool r.1.drop]:Array Value).toList
def EH(R:List Ed):List Value:=R.flatMap D4
theorem Oh(R:List Ed)(r:Ed):EH (R++[r])=EH R++D4 r:=by simp[EH]
def AcAt(w:World)(b o:Nat)(r:Ed):Prop:=w.cell? ⟨b,o,none⟩=some (.string r.1.service)/\w.cell? ⟨b,o+1,none⟩=some (.int .i64 r.1.seen)/\w.cell? ⟨b,o+2,none⟩=some (.int .i64 r.1.create)/\w.cell? ⟨b,o+3,none⟩=some (.int .i64 r.1.want)/\w.cell? ⟨b,o+4,none⟩=some (.int .i64 r.1.cool)/\w.cell? ⟨b,o+5,none⟩=some (.bool r.1.scale)/\w.cell? ⟨b,o+6,none⟩=some (.slice r.2.1 r.1.ends.length r.2.2)/\w.cell? ⟨b,o+7,none⟩=some (.bool r.1.drop)
theorem AcAt.below{N:Nat}{w w':World}{b o:Nat}{r:Ed}(h:AcAt w b o r)(hb:Below N w w')(hB:b<N):AcAt w' b o r:=by
 unfold AcAt at *;simp only[λo=>hb.cell (p:=⟨b,o,none⟩) hB];exact h
def SlA(w:World)(ao:Option Addr)(R:List Ed):Prop:=R≠[]->∃b off,ao=some ⟨b,off,none⟩/\b<w.heap.size/\∀i r,R[i]?=some r->AcAt w b (off+i*8) r/\SlE w r.2.1 r.1.ends
theorem SlA.below{w w':World}{ao:Option Addr}{R:List Ed}(h:SlA w ao R)(hb:Below w.heap.size w w'):SlA w' ao R:=λhn=>
 let ⟨b,off,e,hlt,hat⟩:=h hn
 ⟨b,off,e,AF hlt hb.size,λi r hr=>⟨(hat i r hr).1.below hb hlt,(hat i r hr).2.below hb⟩⟩
end
section
open Go.RowKit
structure BkRow(w:World)(N g1 g2 g3 k1 k2 k3:Nat)(B:Bk):Prop where
 n1:N<=g1
 n2:N<=g2
 n3:N<=g3
 svcs:RowIs w 29 13 g1 B.svcs.length k1 (AY B.svcs)
 cps:RowIs w 49 7 g2 B.cps.length k2 (As B.cps)
 bts:RowIs w 51 2 g3 B.bts.length k3 (Ak B.bts)
theorem RowIs.ne{w:World}{e e':TypeId}{size size' g g' n n' cap cap':Nat}{xs xs':List Value}(h:RowIs w e size g n cap xs)(h':RowIs w e' size' g' n' cap' xs')(he:e≠e'):g≠g':=λhg=>by
 obtain⟨_,_,cur,h1,_⟩:=h;obtain⟨_,_,cur',h2,_⟩:=h';rw[hg,h2]at h1;injection h1 with h1
 injection h1 with _ h1
 exact he h1.symm
theorem BkRow.ne12{w:World}{N g1 g2 g3 k1 k2 k3:Nat}{B:Bk}(h:BkRow w N g1 g2 g3 k1 k2 k3 B):g1≠g2:=h.svcs.ne h.cps (by decide)
theorem BkRow.ne13{w:World}{N g1 g2 g3 k1 k2 k3:Nat}{B:Bk}(h:BkRow w N g1 g2 g3 k1 k2 k3 B):g1≠g3:=h.svcs.ne h.bts (by decide)
theorem BkRow.ne23{w:World}{N g1 g2 g3 k1 k2 k3:Nat}{B:Bk}(h:BkRow w N g1 g2 g3 k1 k2 k3 B):g2≠g3:=h.cps.ne h.bts (by decide)
theorem BkRow.at{w:World}{N g1 g2 g3 k1 k2 k3:Nat}{B:Bk}(h:BkRow w N g1 g2 g3 k1 k2 k3 B):BkAt w (some ⟨g1,0,none⟩) (some ⟨g2,0,none⟩) (some ⟨g3,0,none⟩) B:=⟨h.svcs.slS,h.cps.slC,h.bts.slB⟩
theorem Tryz.infosBookR:(Tryz.prog.info? 27).map (·.size)=some 4:=by kernel_rfl
theorem CM(B:Bk)(a1 a2 a3:Option Addr)(c1 c2 c3:Nat)(w:World)(hS:B.small)(hB:BkAt w a1 a2 a3 B):
  Calls Tryz.prog 16 #[.agg #[.int .i64 B.now,.slice a1 B.svcs.length c1,.slice a2 B.cps.length c2,.slice a3 B.bts.length c3]] w λe w'=>∃g1 k1 g2 k2 g3 k3,e=.returned (.agg #[.int .i64 B.now,.slice (some ⟨g1,0,none⟩) B.svcs.length k1,.slice (some ⟨g2,0,none⟩) B.cps.length k2,.slice (some ⟨g3,0,none⟩) B.bts.length k3])/\BkRow w' w.heap.size g1 g2 g3 k1 k2 k3 B/\Below w.heap.size w w':=by
 obtain⟨hl1,hl2,hl3⟩:=hS;obtain⟨t0,t1,t2⟩:=B0 w (.cells #[.int .i64 B.now,.slice a1 B.svcs.length c1,.slice a2 B.cps.length c2,.slice a3 B.bts.length c3] 27) (.cells #[.int .i64 0,.slice none 0 0,.slice none 0 0,.slice none 0 0] 27);have T0:Hid _:=t0;have T1:Hid _:=t1;have HS2:Hid _:=t2;have hz0:w.heap.size<((w.alloc (.cells #[.int .i64 B.now,.slice a1 B.svcs.length c1,.slice a2 B.cps.length c2,.slice a3 B.bts.length c3] 27)).alloc (.cells #[.int .i64 0,.slice none 0 0,.slice none 0 0,.slice none 0 0] 27)).heap.size:=by rw[HS2.out];omega
 have hz1:w.heap.size+1<((w.alloc (.cells #[.int .i64 B.now,.slice a1 B.svcs.length c1,.slice a2 B.cps.length c2,.slice a3 B.bts.length c3] 27)).alloc (.cells #[.int .i64 0,.slice none 0 0,.slice none 0 0,.slice none 0 0] 27)).heap.size:=by rw[HS2.out];omega
 clear t0 t1 t2;have hbb:Below w.heap.size w ((w.alloc (.cells #[.int .i64 B.now,.slice a1 B.svcs.length c1,.slice a2 B.cps.length c2,.slice a3 B.bts.length c3] 27)).alloc (.cells #[.int .i64 0,.slice none 0 0,.slice none 0 0,.slice none 0 0] 27)):=((Below.refl _ _).alloc (AG _) _).alloc (by simp) _;go_enter Tryz.func16,Tryz.ntmps16;go_wp2;refine An 15 (by kernel_rfl) (by kernel_rfl) ?_;apply AQ
 ·intro V W K A hW hd hA hK
  simp only[pA]at hA;clear hd;obtain rfl:=hA;go_wp2;exact hK.out _ brf
 apply AQ
 ·intro V W K A hW hd hA hK
  have d0:V 0=_:=hd 0 (by kernel_rfl);simp only[pA,d0]at hA;clear hd d0;obtain rfl:=hA;have e0:=AJ (AK hW T0.out hz0) 0 rfl;go_wp2;exact hK.out _ brf
 refine Aq (λv W=>∃g,v=.slice (some ⟨g,0,none⟩) 0 0/\w.heap.size+1+1<=g/\W.heap[g]?=some (.cells #[] 29 (0,0))) (λv W W2 ⟨g,h1,h2,h3⟩ hb=>⟨g,h1,h2,AK hb h3 (AB h3).1⟩) ?_ ?_
 ·intro V W K A hW hd hA hK
  simp only[pA]at hA;clear hd;obtain rfl:=hA;go_wp2;exact hK.out _ _ (AM W _) ⟨_,rfl,by have:=hW.size;rw[HS2.out]at this;exact this,heap_alloc_new W _⟩
 apply AQ
 ·intro V W K A hW hd hA hK
  simp only[pA]at hA;clear hd;obtain rfl:=hA;go_wp2;exact hK.out _ brf
 apply AQ
 ·intro V W K A hW hd hA hK
  have d3:V 3=_:=hd 3 (by kernel_rfl);simp only[pA,d3]at hA;clear hd d3;obtain rfl:=hA;have e1:=AJ (AK hW T0.out hz0) 1 rfl;go_wp2;exact hK.out _ brf
 refine Aq (λv W=>∃g cap,v=.slice (some ⟨g,0,none⟩) B.svcs.length cap/\w.heap.size+1+1<=g/\RowIs W 29 13 g B.svcs.length cap (AY B.svcs)) (λv W W2 ⟨g,cap,h1,h2,h3⟩ hb=>⟨g,cap,h1,h2,h3.below hb h3.lt⟩) ?_ ?_
 ·intro V W K A hW hd hA hK
  have d2:(λv W=>∃g,v=.slice (some ⟨g,0,none⟩) 0 0/\w.heap.size+1+1<=g/\W.heap[g]?=some (.cells #[] 29 (0,0))) (V 2) W:=hd 2 (by kernel_rfl);have d4:V 4=_:=hd 4 (by kernel_rfl);simp only[pA,d4]at hA;clear hd d4;generalize V 2=x2 at d2 hA;obtain rfl:=hA;obtain⟨g,rfl,hg,hgz⟩:=d2;refine CO rfl (.tmp 5) (.tmp 7) 23 rfl 29 _ 13 112 Tryz.underlying23 Tryz.infoService rfl g rfl hgz a1 B.svcs.length c1 (AY B.svcs) rfl (BS _) (hB.1.below (hbb.trans (hW.mono hbb.size))).src (ES _) (by unfold maxLen;omega) (by omega) ?_;intro g' cap' w2 hg' hrow hb2
  have hgg:w.heap.size+1+1<=g':=by
   have:=hW.size;rw[HS2.out]at this;rcases hg' with rfl|rfl
   ·exact hg
   ·exact this
  go_wp2;exact hK.out _ _ hb2 ⟨g',cap',rfl,hgg,hrow.out⟩
 refine Aq (λv W=>∃g,v=.slice (some ⟨g,0,none⟩) 0 0/\w.heap.size+1+1<=g/\W.heap[g]?=some (.cells #[] 49 (0,0))) (λv W W2 ⟨g,h1,h2,h3⟩ hb=>⟨g,h1,h2,AK hb h3 (AB h3).1⟩) ?_ ?_
 ·intro V W K A hW hd hA hK
  simp only[pA]at hA;clear hd;obtain rfl:=hA;go_wp2;exact hK.out _ _ (AM W _) ⟨_,rfl,by have:=hW.size;rw[HS2.out]at this;exact this,heap_alloc_new W _⟩
 apply AQ
 ·intro V W K A hW hd hA hK
  simp only[pA]at hA;clear hd;obtain rfl:=hA;go_wp2;exact hK.out _ brf
 apply AQ
 ·intro V W K A hW hd hA hK
  have d7:V 7=_:=hd 7 (by kernel_rfl);simp only[pA,d7]at hA;clear hd d7;obtain rfl:=hA;have e2:=AJ (AK hW T0.out hz0) 2 rfl;go_wp2;exact hK.out _ brf
 refine Aq (λv W=>∃g cap,v=.slice (some ⟨g,0,none⟩) B.cps.length cap/\w.heap.size+1+1<=g/\RowIs W 49 7 g B.cps.length cap (As B.cps)) (λv W W2 ⟨g,cap,h1,h2,h3⟩ hb=>⟨g,cap,h1,h2,h3.below hb h3.lt⟩) ?_ ?_
 ·intro V W K A hW hd hA hK
  have d6:(λv W=>∃g,v=.slice (some ⟨g,0,none⟩) 0 0/\w.heap.size+1+1<=g/\W.heap[g]?=some (.cells #[] 49 (0,0))) (V 6) W:=hd 6 (by kernel_rfl);have d8:V 8=_:=hd 8 (by kernel_rfl);simp only[pA,d8]at hA;clear hd d8;generalize V 6=x6 at d6 hA;obtain rfl:=hA;obtain⟨g,rfl,hg,hgz⟩:=d6;refine CO rfl (.tmp 9) (.tmp 11) 24 rfl 49 _ 7 72 Tryz.underlying24 Tryz.infoCopy rfl g rfl hgz a2 B.cps.length c2 (As B.cps) rfl (Ea _) (hB.2.1.below (hbb.trans (hW.mono hbb.size))).src (JY _) (by unfold maxLen;omega) (by omega) ?_;intro g' cap' w2 hg' hrow hb2
  have hgg:w.heap.size+1+1<=g':=by
   have:=hW.size;rw[HS2.out]at this;rcases hg' with rfl|rfl
   ·exact hg
   ·exact this
  go_wp2;exact hK.out _ _ hb2 ⟨g',cap',rfl,hgg,hrow.out⟩
 refine Aq (λv W=>∃g,v=.slice (some ⟨g,0,none⟩) 0 0/\w.heap.size+1+1<=g/\W.heap[g]?=some (.cells #[] 51 (0,0))) (λv W W2 ⟨g,h1,h2,h3⟩ hb=>⟨g,h1,h2,AK hb h3 (AB h3).1⟩) ?_ ?_
 ·intro V W K A hW hd hA hK
  simp only[pA]at hA;clear hd;obtain rfl:=hA;go_wp2;exact hK.out _ _ (AM W _) ⟨_,rfl,by have:=hW.size;rw[HS2.out]at this;exact this,heap_alloc_new W _⟩
 apply AQ
 ·intro V W K A hW hd hA hK
  simp only[pA]at hA;clear hd;obtain rfl:=hA;go_wp2;exact hK.out _ brf
 apply AQ
 ·intro V W K A hW hd hA hK
  have d11:V 11=_:=hd 11 (by kernel_rfl);simp only[pA,d11]at hA;clear hd d11;obtain rfl:=hA;have e3:=AJ (AK hW T0.out hz0) 3 rfl;go_wp2;exact hK.out _ brf
 refine Aq (λv W=>∃g cap,v=.slice (some ⟨g,0,none⟩) B.bts.length cap/\w.heap.size+1+1<=g/\RowIs W 51 2 g B.bts.length cap (Ak B.bts)) (λv W W2 ⟨g,cap,h1,h2,h3⟩ hb=>⟨g,cap,h1,h2,h3.below hb h3.lt⟩) ?_ ?_
 ·intro V W K A hW hd hA hK
  have d10:(λv W=>∃g,v=.slice (some ⟨g,0,none⟩) 0 0/\w.heap.size+1+1<=g/\W.heap[g]?=some (.cells #[] 51 (0,0))) (V 10) W:=hd 10 (by kernel_rfl);have d12:V 12=_:=hd 12 (by kernel_rfl);simp only[pA,d12]at hA;clear hd d12;generalize V 10=x10 at d10 hA;obtain rfl:=hA;obtain⟨g,rfl,hg,hgz⟩:=d10;refine CO rfl (.tmp 13) (.tmp 15) 25 rfl 51 _ 2 24 Tryz.underlying25 Tryz.infoBerth rfl g rfl hgz a3 B.bts.length c3 (Ak B.bts) rfl (Bf _) (hB.2.2.below (hbb.trans (hW.mono hbb.size))).src (Eb _) (by unfold maxLen;omega) (by omega) ?_;intro g' cap' w2 hg' hrow hb2
  have hgg:w.heap.size+1+1<=g':=by
   have:=hW.size;rw[HS2.out]at this;rcases hg' with rfl|rfl
   ·exact hg
   ·exact this
  go_wp2;exact hK.out _ _ hb2 ⟨g',cap',rfl,hgg,hrow.out⟩
 refine Aq (λv W=>∃g1 k1 g2 k2 g3 k3,v=.agg #[.int .i64 B.now,.slice (some ⟨g1,0,none⟩) B.svcs.length k1,.slice (some ⟨g2,0,none⟩) B.cps.length k2,.slice (some ⟨g3,0,none⟩) B.bts.length k3]/\(w.heap.size+1+1<=g1/\RowIs W 29 13 g1 B.svcs.length k1 (AY B.svcs))/\(w.heap.size+1+1<=g2/\RowIs W 49 7 g2 B.cps.length k2 (As B.cps))/\(w.heap.size+1+1<=g3/\RowIs W 51 2 g3 B.bts.length k3 (Ak B.bts))) (λv W W2 ⟨g1,k1,g2,k2,g3,k3,h,⟨p1,r1⟩,⟨p2,r2⟩,⟨p3,r3⟩⟩ hb=>⟨g1,k1,g2,k2,g3,k3,h,⟨p1,r1.below hb r1.lt⟩,⟨p2,r2.below hb r2.lt⟩,⟨p3,r3.below hb r3.lt⟩⟩) ?_ ?_
 ·intro V W K A hW hd hA hK
  have d1:V 1=_:=hd 1 (by kernel_rfl);have d5:(λv W=>∃g cap,v=.slice (some ⟨g,0,none⟩) B.svcs.length cap/\w.heap.size+1+1<=g/\RowIs W 29 13 g B.svcs.length cap (AY B.svcs)) (V 5) W:=hd 5 (by kernel_rfl);have d9:(λv W=>∃g cap,v=.slice (some ⟨g,0,none⟩) B.cps.length cap/\w.heap.size+1+1<=g/\RowIs W 49 7 g B.cps.length cap (As B.cps)) (V 9) W:=hd 9 (by kernel_rfl);have d13:(λv W=>∃g cap,v=.slice (some ⟨g,0,none⟩) B.bts.length cap/\w.heap.size+1+1<=g/\RowIs W 51 2 g B.bts.length cap (Ak B.bts)) (V 13) W:=hd 13 (by kernel_rfl);simp only[pA,d1]at hA;clear hd d1;generalize V 5=x5 at d5 hA;generalize V 9=x9 at d9 hA;generalize V 13=x13 at d13 hA;obtain rfl:=hA;obtain⟨g1,k1,rfl,p1,r1⟩:=d5;obtain⟨g2,k2,rfl,p2,r2⟩:=d9;obtain⟨g3,k3,rfl,p3,r3⟩:=d13;have R1:Hid (RowIs W 29 13 g1 B.svcs.length k1 (AY B.svcs)):=r1;have R2:Hid (RowIs W 49 7 g2 B.cps.length k2 (As B.cps)):=r2;have R3:Hid (RowIs W 51 2 g3 B.bts.length k3 (Ak B.bts)):=r3;clear r1 r2 r3;go_wp2;exact hK.out _ _ brf ⟨g1,k1,g2,k2,g3,k3,rfl,⟨p1,R1.out⟩,⟨p2,R2.out⟩,⟨p3,R3.out⟩⟩
 intro V W A hW hS hA;have d0:V 0=_:=hS 0 (by omega);have d1:V 1=_:=hS 1 (by omega);have d2:(λv W=>∃g,v=.slice (some ⟨g,0,none⟩) 0 0/\w.heap.size+1+1<=g/\W.heap[g]?=some (.cells #[] 29 (0,0))) (V 2) W:=hS 2 (by omega);have d3:V 3=_:=hS 3 (by omega);have d4:V 4=_:=hS 4 (by omega);have d5:(λv W=>∃g cap,v=.slice (some ⟨g,0,none⟩) B.svcs.length cap/\w.heap.size+1+1<=g/\RowIs W 29 13 g B.svcs.length cap (AY B.svcs)) (V 5) W:=hS 5 (by omega);have d6:(λv W=>∃g,v=.slice (some ⟨g,0,none⟩) 0 0/\w.heap.size+1+1<=g/\W.heap[g]?=some (.cells #[] 49 (0,0))) (V 6) W:=hS 6 (by omega);have d7:V 7=_:=hS 7 (by omega);have d8:V 8=_:=hS 8 (by omega);have d9:(λv W=>∃g cap,v=.slice (some ⟨g,0,none⟩) B.cps.length cap/\w.heap.size+1+1<=g/\RowIs W 49 7 g B.cps.length cap (As B.cps)) (V 9) W:=hS 9 (by omega);have d10:(λv W=>∃g,v=.slice (some ⟨g,0,none⟩) 0 0/\w.heap.size+1+1<=g/\W.heap[g]?=some (.cells #[] 51 (0,0))) (V 10) W:=hS 10 (by omega);have d11:V 11=_:=hS 11 (by omega);have d12:V 12=_:=hS 12 (by omega);have d13:(λv W=>∃g cap,v=.slice (some ⟨g,0,none⟩) B.bts.length cap/\w.heap.size+1+1<=g/\RowIs W 51 2 g B.bts.length cap (Ak B.bts)) (V 13) W:=hS 13 (by omega);have d14:(λv W=>∃g1 k1 g2 k2 g3 k3,v=.agg #[.int .i64 B.now,.slice (some ⟨g1,0,none⟩) B.svcs.length k1,.slice (some ⟨g2,0,none⟩) B.cps.length k2,.slice (some ⟨g3,0,none⟩) B.bts.length k3]/\(w.heap.size+1+1<=g1/\RowIs W 29 13 g1 B.svcs.length k1 (AY B.svcs))/\(w.heap.size+1+1<=g2/\RowIs W 49 7 g2 B.cps.length k2 (As B.cps))/\(w.heap.size+1+1<=g3/\RowIs W 51 2 g3 B.bts.length k3 (Ak B.bts))) (V 14) W:=hS 14 (by omega)
 simp only[pA,d0,d1,d3,d4,d7,d8,d11,d12]at hA;clear hS d0 d1 d3 d4 d7 d8 d11 d12;generalize V 2=x2 at d2 hA;generalize V 5=x5 at d5 hA;generalize V 6=x6 at d6 hA;generalize V 9=x9 at d9 hA;generalize V 10=x10 at d10 hA;generalize V 13=x13 at d13 hA;generalize V 14=x14 at d14 hA;obtain rfl:=hA;simp only[List.drop_succ_cons,List.drop_zero];obtain⟨g1,k1,g2,k2,g3,k3,rfl,⟨p1,r1⟩,⟨p2,r2⟩,⟨p3,r3⟩⟩:=d14;clear d2 d5 d6 d9 d10 d13;have hbw:=hbb.trans (hW.mono hbb.size);refine AL rfl 27 (.tmp 2) (.tmp 17) rfl (w.heap.size+1) 0 #[.int .i64 B.now,.slice (some ⟨g1,0,none⟩) B.svcs.length k1,.slice (some ⟨g2,0,none⟩) B.cps.length k2,.slice (some ⟨g3,0,none⟩) B.bts.length k3] rfl rfl 27 #[.int .i64 0,.slice none 0 0,.slice none 0 0,.slice none 0 0] (AK hW T1.out hz1) Tryz.infosBookR (AD rfl) (by simp[Value.oneCell']) ?_;intro wf hz on;have RF:Hid (wf.heap[w.heap.size+1]?=some (.cells #[.int .i64 B.now,.slice (some ⟨g1,0,none⟩) B.svcs.length k1,.slice (some ⟨g2,0,none⟩) B.cps.length k2,.slice (some ⟨g3,0,none⟩) B.bts.length k3] 27 (0,0))):=hz;have HR:Hid (BkRow wf w.heap.size g1 g2 g3 k1 k2 k3 B):=⟨by omega,by omega,by omega,r1.blk (on.other _ (by omega)),r2.blk (on.other _ (by omega)),r3.blk (on.other _ (by omega))⟩;have hbf:Below w.heap.size w wf:=hbw.trans (on.below.mono (by omega));clear hz on r1 r2 r3;have p0:=AJ RF.out 0 rfl;have q1:=AJ RF.out 1 rfl;have q2:=AJ RF.out 2 rfl;have q3:=AJ RF.out 3 rfl;go_wp2;refine bodyPost_ret (v:=.agg #[.int .i64 B.now,.slice (some ⟨g1,0,none⟩) B.svcs.length k1,.slice (some ⟨g2,0,none⟩) B.cps.length k2,.slice (some ⟨g3,0,none⟩) B.bts.length k3]) (by simp[results,Tryz.results16,go_sem,p0,q1,q2,q3]) rfl ⟨g1,k1,g2,k2,g3,k3,rfl,HR.out,hbf⟩
end
end Go.Proofs.YtbceafpodamnfaaGreat
