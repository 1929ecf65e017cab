import Derived.Test.YtbceafpodamnfaaH05
import Derived.Laws.AppendOwn
set_option linter.all false
set_option maxHeartbeats 8000000
set_option maxRecDepth 100000
namespace Go.Proofs.Ytbceafpodamnfaa
attribute [local simp] svV cpV zbV czV aaV ctZ ad bkV ctV
attribute [local go_sem] svV cpV zbV czV aaV ctZ ad bkV ctV
section
open Go.RowKit
def RowIs(w:World)(e:TypeId)(size g n cap:Nat)(xs:List Value):Prop:=
 xs.length=n*size/\n<=cap/\∃cur:Array Value,w.heap[g]?=some (.cells cur e (0,0))/\cur.size=cap*size/\cur.toList.take (n*size)=xs
theorem RowIs.lt{w:World}{e:TypeId}{size g n cap:Nat}{xs:List Value}(h:RowIs w e size g n cap xs):g<w.heap.size:=by
 obtain⟨_,_,cur,hg,_⟩:=h;exact(AB hg).1
theorem RowIs.blk{w w':World}{e:TypeId}{size g n cap:Nat}{xs:List Value}(h:RowIs w e size g n cap xs)(hb:w'.heap[g]?=w.heap[g]?):RowIs w' e size g n cap xs:=by
 obtain⟨h1,h2,cur,hg,r⟩:=h;exact⟨h1,h2,cur,hb.trans hg,r⟩
theorem RowIs.below{w w':World}{e:TypeId}{size g n cap N:Nat}{xs:List Value}(h:RowIs w e size g n cap xs)(hb:Below N w w')(hN:g<N):RowIs w' e size g n cap xs:=h.blk (hb.block g hN)
theorem RowIs.grown{w w':World}{e:TypeId}{size g n cap:Nat}{xs:List Value}{r:Option Nat}(h:RowIs w e size g n cap xs)(hb:w.grownBy w' r)(hr:some g≠r):RowIs w' e size g n cap xs:=h.blk (hb.block g h.lt hr)
theorem RowIs.cell{w:World}{e:TypeId}{size g n cap:Nat}{xs:List Value}(h:RowIs w e size g n cap xs){j:Nat}{u:Value}(hu:xs[j]?=some u):w.cell? ⟨g,j,none⟩=some u:=by
 obtain⟨h1,h2,cur,hg,hs,ht⟩:=h;rw[Mf hg];rw[<-ht,List.getElem?_take]at hu;split at hu
 ·exact hu
 ·cases hu
theorem RowIs.new(w:World)(e:TypeId)(size:Nat):RowIs (w.alloc (.cells #[] e)) e size w.heap.size 0 0 []:=
 ⟨by simp,AG _,#[],heap_alloc_new w _,by simp,by simp⟩
theorem Ab{w w':World}{g N:Nat}(h:w.grownBy w' (some g))(hN:N<=g)(hs:N<=w.heap.size):Below N w w':=
 ⟨h.os,h.tape,h.output,h.size,λk hk=>h.block k (by omega) (λe=>by have:=Option.some.inj e;omega)⟩
theorem BU{w:World}{b:Nat}{cs:Array Value}{t:TypeId}{fr:Nat × Nat}(h:w.heap[b]?=some (.cells cs t fr)):∀j u,cs.toList[j]?=some u->w.cell? ((⟨b,0,none⟩:Addr).add j)=some u:=λj u hu=>by
 rw[Addr.add_lit,Mf h,Nat.zero_add];exact hu
section
variable {P:Program}
theorem JL(w:World)(t ty e:TypeId)(z:Value)(size bytes:Nat)(ht:P.underlying t=some (.slice e))(hinfo:(P.info? e).map (λi=>(i.zero,i.size,i.bytes))=some (some z,size,bytes))(hzs:z.cells.size=size)
  (g n cap:Nat) (xs:List Value) (hrow:RowIs w e size g n cap xs)
  (ad:Addr) (m c:Nat) (news:List Value) (hl:news.length=m*size) (hnews:∀j u,news[j]?=some u->w.cell? (ad.add j)=some u) (h1:∀u∈news,u.oneCell'=true)
  (h63:n+m<=maxLen) (hbytes:(n+m)*bytes<=140737488355328):
  ∃g' cap' w',(Builtin.append_ #[t,t] ty #[.slice (some ⟨g,0,none⟩) n cap,.slice (some ad) m c]).run P w=.ok (.slice (some ⟨g',0,none⟩) (n+m) cap') w'/\(g'=g\/g'=w.heap.size)/\
   RowIs w' e size g' (n+m) cap' (xs++news)/\w.grownBy w' (some g):=by
 obtain⟨i,hi,hz,hs,hb⟩:=info_parts hinfo;subst hs hb;have hr0:=hrow;obtain⟨hx,hnc,cur,hg,hcs,htake⟩:=hrow;have hlen:(xs++news).length=(n+m)*i.size:=by rw[List.length_append,hx,hl,Nat.add_mul]
 have hsmall:n+m<=9223372036854775807:=by simp only[maxLen]at h63;omega
 by_cases hroom:n+m<=cap
 ·have hfit:n*i.size+news.length<=cur.size:=by rw[hl,hcs,<-Nat.add_mul];exact Nat.mul_le_mul_right _ hroom
  have hr:=run_append_room (P:=P) w t ty e i ht hi g n cap cur hg ad m c news hl hnews h1 hroom hfit;refine⟨g,cap,_,hr,.inl rfl,⟨hlen,hroom,_,setRow_heap w g cur _ e _ hg,?_,?_⟩,⟨rfl,rfl,rfl,by simp,λk _ hk=>setRow_other w g k _ (λe=>hk (by rw[e]))⟩⟩
  ·simp only[List.size_toArray,List.length_append,List.length_take,List.length_drop,Array.length_toList]
   omega
  ·rw[htake,<-hlen]
   exact List.take_left
 ·have holds:∀j u,xs[j]?=some u->w.cell? ((⟨g,0,none⟩:Addr).add j)=some u:=λj u hu=>by
   have:=hr0.cell hu
   simpa [Addr.add_lit] using this
  have hr:=run_append_grow (P:=P) w t ty e i z ht hi hz ⟨g,0,none⟩ n cap xs hx holds ad m c news hl hnews (by omega) (by omega) (growslice_fits (by omega) hbytes);have hge:=grownCap_ge w (n+m) cap e;refine⟨w.heap.size,_,_,hr,.inr rfl,⟨hlen,hge,_,heap_alloc_new w.drew _,?_,?_⟩,⟨rfl,rfl,rfl,by simp,λk hk _=>by show(w.heap.push _)[k]?=_;rw[Array.getElem?_push,if_neg (by omega)]⟩⟩
  ·simp only[Array.size_append,List.size_toArray,size_zeroCells,hzs,hx,hl,<-Nat.add_mul]
   congr 1
   omega
  ·simp only[Array.toList_append,List.append_assoc]
   rw[<-List.append_assoc,<-hlen];exact List.take_left
theorem AV{ops:Array Oper}{rest:List Oper}{o:Oper}{a:Act}{w:World}{Q:Exit->Act->World->Prop}(hgd:o.guard=none)(s x:Operand)(t:TypeId)
  (ho:o.op=.call {callee:=.builtin .append,args:=#[s,x],argTypes:=#[t,t]})
  (e:TypeId) (z:Value) (size bytes:Nat) (ht:P.underlying t=some (.slice e)) (hinfo:(P.info? e).map (λi=>(i.zero,i.size,i.bytes))=some (some z,size,bytes)) (hzs:z.cells.size=size)
  (g n cap:Nat) (xs:List Value) (hs:a.eval s=.slice (some ⟨g,0,none⟩) n cap) (hrow:RowIs w e size g n cap xs)
  (ad:Addr) (m c:Nat) (news:List Value) (hx:a.eval x=.slice (some ad) m c) (hl:news.length=m*size) (hnews:∀j u,news[j]?=some u->w.cell? (ad.add j)=some u) (h1:∀u∈news,u.oneCell'=true)
  (h63:n+m<=maxLen) (hbytes:(n+m)*bytes<=140737488355328)
  (h:∀g' cap' w',(g'=g\/g'=w.heap.size)->Hid (RowIs w' e size g' (n+m) cap' (xs++news))->w.grownBy w' (some g)->wpList P ops Q rest (a.put o.dst (.slice (some ⟨g',0,none⟩) (n+m) cap')) w'):wpList P ops Q (o::rest) a w:=by
 refine wpList_plain hgd λK hK=>?_
 obtain⟨g',cap',w',hr,h2,h3,h4⟩:=JL (P:=P) w t o.type e z size bytes ht hinfo hzs g n cap xs hrow ad m c news hl hnews h1 h63 hbytes;unfold Oper.wp execOp;simp only[ho,resolve,invoke,builtin,Sem.run_bind,Sem.run_pure,Result.andThen_ok,List.map_toArray,List.map_cons,List.map_nil,hs,hx,hr];exact hK _ _ (h g' cap' w' h2 h3 h4)
end
section
variable {P:Program}
structure Bj(g:Nat)(w w':World):Prop where
 other:∀k,k≠g->w'.heap[k]?=w.heap[k]?
 below:Below g w w'
 size:w'.heap.size=w.heap.size
theorem GG(w:World)(g:Nat)(cs:Array Value):Bj g w (w.setRow g cs):=⟨λk hk=>Fd w g k cs hk,below_setRow' w g cs,Ey w g cs⟩
theorem H7(w:World)(g off:Nat)(t ty:TypeId)(cur:Array Value)(v:Value)(hg:w.heap[g]?=some (.cells cur t (0,0)))(hi:(P.info? ty).map (·.size)=some 1)(hv:v.cells=#[v])
  (hfit:off+1<=cur.size) (h1:v.oneCell'=true):
  (storeVar ty ⟨g,off,none⟩ v).run P w=.ok () (w.setRow g (splice cur.toList off [v]).toArray):=by
 have:=run_storeCells_at P g off t [v] 0 cur w hg (by simpa using hfit) (λu hu=>by simp at hu;subst hu;exact h1)
 cases hq:P.info? ty with
 |none=>simp[hq]at hi
 |some i=>
  have hs:i.size=1:=by simpa [hq] using hi
  simp only[Nat.add_zero,List.append_assoc]at this;simp[storeVar,sizeOf,typeInfo,hq,hv,hs,this,splice]
theorem AP{ops:Array Oper}{rest:List Oper}{o:Oper}{a:Act}{w:World}{Q:Exit->Act->World->Prop}(hgd:o.guard=none)(ty:TypeId)(x y:Operand)(ho:o.op=.store ty x y)
  (g off:Nat) (v:Value) (hx:a.eval x=.pointer (some ⟨g,off,none⟩)) (hy:a.eval y=v) (hi:(P.info? ty).map (·.size)=some 1) (hv:v.cells=#[v]) (h1:v.oneCell'=true)
  (t:TypeId) (cur:Array Value) (hg:w.heap[g]?=some (.cells cur t (0,0))) (hfit:off+1<=cur.size)
  (h:∀w',Hid (w'.heap[g]?=some (.cells (splice cur.toList off [v]).toArray t (0,0)))->Bj g w w'->wpList P ops Q rest (a.put o.dst undef) w'):wpList P ops Q (o::rest) a w:=by
 refine wpList_plain hgd λK hK=>?_
 unfold Oper.wp execOp;simp only[ho,hx,hy,Instr.storeAt,Instr.sureAddr,Sem.run_bind,Sem.run_pure,Result.andThen_ok,H7 w g off t ty cur v hg hi hv hfit h1];exact hK _ _ (h _ (setRow_heap w g cur _ t _ hg) (GG w g _))
theorem AM{ops:Array Oper}{rest:List Oper}{o:Oper}{a:Act}{w:World}{Q:Exit->Act->World->Prop}(hgd:o.guard=none)(ty:TypeId)(x y:Operand)(ho:o.op=.store ty x y)
  (g off:Nat) (cells:Array Value) (hx:a.eval x=.pointer (some ⟨g,off,none⟩)) (hy:a.eval y=.agg cells) (t:TypeId) (cur:Array Value) (hg:w.heap[g]?=some (.cells cur t (0,0)))
  (hi:(P.info? ty).map (·.size)=some cells.size) (hfit:off+cells.size<=cur.size) (h1:cells.all (·.oneCell')=true)
  (h:∀w',Hid (w'.heap[g]?=some (.cells (splice cur.toList off cells.toList).toArray t (0,0)))->Bj g w w'->wpList P ops Q rest (a.put o.dst undef) w'):wpList P ops Q (o::rest) a w:=by
 refine wpList_plain hgd λK hK=>?_
 unfold Oper.wp execOp;simp only[ho,hx,hy,Instr.storeAt,Instr.sureAddr,Sem.run_bind,Sem.run_pure,Result.andThen_ok,Fw w g off t ty cur cells hg hi hfit h1];exact hK _ _ (h _ (setRow_heap w g cur _ t _ hg) (GG w g _))
end
section
variable {P:Program}
theorem Ht(w:World)(g:Nat)(cur:Array Value)(t:TypeId)(hg:w.heap[g]?=some (.cells cur t (0,0))):Below w.heap.size w (w.setRow g cur):=
 ⟨rfl,rfl,rfl,by rw[Ey];exact AG _,λk _=>by
  by_cases h:k=g
  ·subst h;rw[setRow_heap w k cur cur t _ hg,hg]
  ·exact Fd w g k cur h⟩
theorem IA(w:World)(t ty e:TypeId)(z:Value)(size bytes:Nat)(ht:P.underlying t=some (.slice e))(hinfo:(P.info? e).map (λi=>(i.zero,i.size,i.bytes))=some (some z,size,bytes))(hzs:z.cells.size=size)
  (g:Nat) (hg:w.heap[g]?=some (.cells #[] e (0,0)))
  (ao:Option Addr) (m c:Nat) (news:List Value) (hl:news.length=m*size) (hsrc:m≠0->∃ad,ao=some ad/\∀j u,news[j]?=some u->w.cell? (ad.add j)=some u) (h1:∀u∈news,u.oneCell'=true)
  (h63:m<=maxLen) (hbytes:m*bytes<=140737488355328):
  ∃g' cap' w',(Builtin.append_ #[t,t] ty #[.slice (ad g) 0 0,.slice ao m c]).run P w=.ok (.slice (ad g') m cap') w'/\(g'=g\/g'=w.heap.size)/\RowIs w' e size g' m cap' news/\Below w.heap.size w w':=by
 by_cases hm:m=0
 ·subst hm
  have hn:news=[]:=List.eq_nil_of_length_eq_zero (by simpa using hl);subst hn;obtain⟨i,hi,hz,hs,hb⟩:=info_parts hinfo;subst hs hb
  cases ao with
  |none=>
   refine⟨g,0,w,?_,.inl rfl,⟨by simp,AG _,#[],hg,by simp,by simp⟩,Below.refl _ _⟩;simp[Builtin.append_,run_underlying ht,sizeOf,typeInfo,hi,Builtin.lenOf,Builtin.firstCells,storeCells]
  |some ad=>
   have hr:=run_append_room (P:=P) w t ty e i ht hi g 0 0 #[] hg ad 0 c [] (by simp) (by simp) (by simp) (AG _) (by simp);refine⟨g,0,_,by simpa using hr,.inl rfl,⟨by simp,AG _,#[],setRow_heap w g #[] #[] e _ hg,by simp,by simp⟩,Ht w g #[] e hg⟩
 ·obtain⟨ad,rfl,hnews⟩:=hsrc hm
  obtain⟨i,hi,hz,hs,hb⟩:=info_parts hinfo;subst hs hb;have hr:=run_append_grow (P:=P) w t ty e i z ht hi hz ⟨g,0,none⟩ 0 0 [] (by simp) (by simp) ad m c news hl hnews (by omega) (by unfold maxLen at h63;omega) (growslice_fits (by omega) (by simpa using hbytes));simp only[Nat.zero_add]at hr;have hge:=grownCap_ge w m 0 e;refine⟨w.heap.size,_,_,hr,.inr rfl,⟨hl,hge,_,heap_alloc_new w.drew _,?_,?_⟩,⟨rfl,rfl,rfl,by simp,λk hk=>by show(w.heap.push _)[k]?=_;rw[Array.getElem?_push,if_neg (by omega)]⟩⟩
  ·simp only[Array.size_append,List.size_toArray,size_zeroCells,hzs,hl,List.length_nil,Nat.zero_add]
   rw[<-Nat.add_mul]
   congr 1
   omega
  ·simp only[Array.toList_append,List.nil_append]
   rw[<-hl];exact List.take_left
theorem BC{ops:Array Oper}{rest:List Oper}{o:Oper}{a:Act}{w:World}{Q:Exit->Act->World->Prop}(hgd:o.guard=none)(s x:Operand)(t:TypeId)
  (ho:o.op=.call {callee:=.builtin .append,args:=#[s,x],argTypes:=#[t,t]})
  (e:TypeId) (z:Value) (size bytes:Nat) (ht:P.underlying t=some (.slice e)) (hinfo:(P.info? e).map (λi=>(i.zero,i.size,i.bytes))=some (some z,size,bytes)) (hzs:z.cells.size=size)
  (g:Nat) (hs:a.eval s=.slice (ad g) 0 0) (hg:w.heap[g]?=some (.cells #[] e (0,0)))
  (ao:Option Addr) (m c:Nat) (news:List Value) (hx:a.eval x=.slice ao m c) (hl:news.length=m*size) (hsrc:m≠0->∃ad,ao=some ad/\∀j u,news[j]?=some u->w.cell? (ad.add j)=some u) (h1:∀u∈news,u.oneCell'=true)
  (h63:m<=maxLen) (hbytes:m*bytes<=140737488355328)
  (h:∀g' cap' w',(g'=g\/g'=w.heap.size)->Hid (RowIs w' e size g' m cap' news)->Below w.heap.size w w'->wpList P ops Q rest (a.put o.dst (.slice (ad g') m cap')) w'):wpList P ops Q (o::rest) a w:=by
 refine wpList_plain hgd λK hK=>?_
 obtain⟨g',cap',w',hr,h2,h3,h4⟩:=IA (P:=P) w t o.type e z size bytes ht hinfo hzs g hg ao m c news hl hsrc h1 h63 hbytes;unfold Oper.wp execOp;simp only[ho,resolve,invoke,builtin,Sem.run_bind,Sem.run_pure,Result.andThen_ok,List.map_toArray,List.map_cons,List.map_nil,hs,hx,hr];exact hK _ _ (h g' cap' w' h2 h3 h4)
end
theorem Em{α:Type}{c:α->List Value}{n:Nat}(hc:∀s,(c s).length=n)(l:List α):(l.flatMap c).length=l.length*n:=by
 induction l with
 |nil=>simp
 |cons x l ih=>rw[List.flatMap_cons,List.length_append,ih,hc,List.length_cons,Nat.succ_mul];omega
theorem Eb{α:Type}{c:α->List Value}{n:Nat}(hc:∀s,(c s).length=n):∀(l:List α) (j:Nat) (u:Value),(l.flatMap c)[j]?=some u->∃i k s,l[i]?=some s/\(c s)[k]?=some u/\j=i*n+k
 |[],j,u,h=>by simp at h
 |x::l,j,u,h=>by
  rw[List.flatMap_cons]at h
  by_cases hj:j<n
  ·rw[List.getElem?_append_left (by rw[hc];exact hj)]at h
   exact⟨0,j,x,rfl,h,by omega⟩
  ·rw[List.getElem?_append_right (by rw[hc];omega),hc]at h
   obtain⟨i,k,s,h1,h2,h3⟩:=Eb hc l _ u h;exact⟨i+1,k,s,by simpa using h1,h2,by rw[Nat.succ_mul];omega⟩
theorem BW{α:Type}{c:α->List Value}{n:Nat}(hc:∀s,(c s).length=n):∀(l:List α) (i:Nat) (s:α) (k:Nat) (u:Value),l[i]?=some s->(c s)[k]?=some u->(l.flatMap c)[i*n+k]?=some u
 |[],i,s,k,u,h,_=>by simp at h
 |x::l,0,s,k,u,h,hu=>by
  simp at h;subst h;have hk:k<(c x).length:=(AC hu).1;rw[List.flatMap_cons,Nat.zero_mul,Nat.zero_add,List.getElem?_append_left hk];exact hu
 |x::l,i+1,s,k,u,h,hu=>by
  rw[List.flatMap_cons,List.getElem?_append_right (by rw[hc,Nat.succ_mul];omega),hc,show(i+1)*n+k - n=i*n+k by rw[Nat.succ_mul];omega];exact BW hc l i s k u (by simpa using h) hu
def AU(l:List Svc):List Value:=l.flatMap Svc.cells
def Ag(l:List Cp):List Value:=l.flatMap Cp.cells
def Af(l:List Bt):List Value:=l.flatMap Bt.cells
theorem DL(l:List Svc):(AU l).length=l.length*13:=Em (c:=Svc.cells) (n:=13) (λ_=>rfl) l
theorem Hq(l:List Cp):(Ag l).length=l.length*7:=Em (c:=Cp.cells) (n:=7) (λ_=>rfl) l
theorem Cs(l:List Bt):(Af l).length=l.length*2:=Em (c:=Bt.cells) (n:=2) (λ_=>rfl) l
theorem DK(l:List Svc):∀u∈AU l,u.oneCell'=true:=λu hu=>by
 obtain⟨s,_,h⟩:=List.mem_flatMap.1 hu;simp[Svc.cells]at h;rcases h with rfl|rfl|rfl|rfl|rfl|rfl|rfl|rfl|rfl|rfl|rfl|rfl|rfl<;>rfl
theorem Hp(l:List Cp):∀u∈Ag l,u.oneCell'=true:=λu hu=>by
 obtain⟨s,_,h⟩:=List.mem_flatMap.1 hu;simp[Cp.cells]at h;rcases h with rfl|rfl|rfl|rfl|rfl|rfl|rfl<;>rfl
theorem Cr(l:List Bt):∀u∈Af l,u.oneCell'=true:=λu hu=>by
 obtain⟨s,_,h⟩:=List.mem_flatMap.1 hu;simp[Bt.cells]at h;rcases h with rfl|rfl<;>rfl
theorem SvcAt.get{w:World}{b o:Nat}{s:Svc}(h:SvcAt w b o s)(k:Nat)(u:Value)(hu:s.cells[k]?=some u):w.cell? ⟨b,o+k,none⟩=some u:=by
 obtain⟨h0,h1,h2,h3,h4,h5,h6,h7,h8,h9,h10,h11,h12⟩:=h
 match k,hu with
 |0,hu=>obtain rfl:=Option.some.inj hu;exact h0
 |1,hu=>obtain rfl:=Option.some.inj hu;exact h1
 |2,hu=>obtain rfl:=Option.some.inj hu;exact h2
 |3,hu=>obtain rfl:=Option.some.inj hu;exact h3
 |4,hu=>obtain rfl:=Option.some.inj hu;exact h4
 |5,hu=>obtain rfl:=Option.some.inj hu;exact h5
 |6,hu=>obtain rfl:=Option.some.inj hu;exact h6
 |7,hu=>obtain rfl:=Option.some.inj hu;exact h7
 |8,hu=>obtain rfl:=Option.some.inj hu;exact h8
 |9,hu=>obtain rfl:=Option.some.inj hu;exact h9
 |10,hu=>obtain rfl:=Option.some.inj hu;exact h10
 |11,hu=>obtain rfl:=Option.some.inj hu;exact h11
 |12,hu=>obtain rfl:=Option.some.inj hu;exact h12
 |k+13,hu=>simp[Svc.cells]at hu
theorem CpAt.get{w:World}{b o:Nat}{s:Cp}(h:CpAt w b o s)(k:Nat)(u:Value)(hu:s.cells[k]?=some u):w.cell? ⟨b,o+k,none⟩=some u:=by
 obtain⟨h0,h1,h2,h3,h4,h5,h6⟩:=h
 match k,hu with
 |0,hu=>obtain rfl:=Option.some.inj hu;exact h0
 |1,hu=>obtain rfl:=Option.some.inj hu;exact h1
 |2,hu=>obtain rfl:=Option.some.inj hu;exact h2
 |3,hu=>obtain rfl:=Option.some.inj hu;exact h3
 |4,hu=>obtain rfl:=Option.some.inj hu;exact h4
 |5,hu=>obtain rfl:=Option.some.inj hu;exact h5
 |6,hu=>obtain rfl:=Option.some.inj hu;exact h6
 |k+7,hu=>simp[Cp.cells]at hu
theorem BtAt.get{w:World}{b o:Nat}{s:Bt}(h:BtAt w b o s)(k:Nat)(u:Value)(hu:s.cells[k]?=some u):w.cell? ⟨b,o+k,none⟩=some u:=by
 obtain⟨h0,h1⟩:=h
 match k,hu with
 |0,hu=>obtain rfl:=Option.some.inj hu;exact h0
 |1,hu=>obtain rfl:=Option.some.inj hu;exact h1
 |k+2,hu=>simp[Bt.cells]at hu
theorem SlS.src{w:World}{ao:Option Addr}{l:List Svc}(h:SlS w ao l):l.length≠0->∃ad,ao=some ad/\∀j u,(AU l)[j]?=some u->w.cell? (ad.add j)=some u:=λhn=>by
 obtain⟨b,off,e,_,hat⟩:=h (by intro h;rw[h]at hn;simp at hn);refine⟨_,e,λj u hu=>?_⟩;obtain⟨i,k,s,h1,h2,rfl⟩:=Eb (c:=Svc.cells) (n:=13) (λ_=>rfl) l j u hu;have:=(hat i s h1).get k u h2;rw[Nat.add_assoc,<-Addr.add_lit]at this;exact this
theorem SlC.src{w:World}{ao:Option Addr}{l:List Cp}(h:SlC w ao l):l.length≠0->∃ad,ao=some ad/\∀j u,(Ag l)[j]?=some u->w.cell? (ad.add j)=some u:=λhn=>by
 obtain⟨b,off,e,_,hat⟩:=h (by intro h;rw[h]at hn;simp at hn);refine⟨_,e,λj u hu=>?_⟩;obtain⟨i,k,s,h1,h2,rfl⟩:=Eb (c:=Cp.cells) (n:=7) (λ_=>rfl) l j u hu;have:=(hat i s h1).get k u h2;rw[Nat.add_assoc,<-Addr.add_lit]at this;exact this
theorem SlB.src{w:World}{ao:Option Addr}{l:List Bt}(h:SlB w ao l):l.length≠0->∃ad,ao=some ad/\∀j u,(Af l)[j]?=some u->w.cell? (ad.add j)=some u:=λhn=>by
 obtain⟨b,off,e,_,hat⟩:=h (by intro h;rw[h]at hn;simp at hn);refine⟨_,e,λj u hu=>?_⟩;obtain⟨i,k,s,h1,h2,rfl⟩:=Eb (c:=Bt.cells) (n:=2) (λ_=>rfl) l j u hu;have:=(hat i s h1).get k u h2;rw[Nat.add_assoc,<-Addr.add_lit]at this;exact this
theorem RowIs.slS{w:World}{e:TypeId}{g n cap:Nat}{l:List Svc}(h:RowIs w e 13 g n cap (AU l)):SlS w (ad g) l:=λ_=>
 ⟨g,0,rfl,h.lt,λi s hs=>by
  have:=λk u hu=>h.cell (BW (c:=Svc.cells) (n:=13) (λ_=>rfl) l i s k u hs hu)
  unfold SvcAt;rw[Nat.zero_add]
  exact⟨this 0 _ rfl,this 1 _ rfl,this 2 _ rfl,this 3 _ rfl,this 4 _ rfl,this 5 _ rfl,this 6 _ rfl,this 7 _ rfl,this 8 _ rfl,this 9 _ rfl,this 10 _ rfl,this 11 _ rfl,this 12 _ rfl⟩⟩
theorem RowIs.slC{w:World}{e:TypeId}{g n cap:Nat}{l:List Cp}(h:RowIs w e 7 g n cap (Ag l)):SlC w (ad g) l:=λ_=>
 ⟨g,0,rfl,h.lt,λi s hs=>by
  have:=λk u hu=>h.cell (BW (c:=Cp.cells) (n:=7) (λ_=>rfl) l i s k u hs hu)
  unfold CpAt;rw[Nat.zero_add]
  exact⟨this 0 _ rfl,this 1 _ rfl,this 2 _ rfl,this 3 _ rfl,this 4 _ rfl,this 5 _ rfl,this 6 _ rfl⟩⟩
theorem RowIs.slB{w:World}{e:TypeId}{g n cap:Nat}{l:List Bt}(h:RowIs w e 2 g n cap (Af l)):SlB w (ad g) l:=λ_=>
 ⟨g,0,rfl,h.lt,λi s hs=>by
  have:=λk u hu=>h.cell (BW (c:=Bt.cells) (n:=2) (λ_=>rfl) l i s k u hs hu)
  unfold BtAt;rw[Nat.zero_add]
  exact⟨this 0 _ rfl,this 1 _ rfl⟩⟩
structure BkRow(w:World)(N g1 g2 g3 k1 k2 k3:Nat)(B:Bk):Prop where
 n1:N<=g1
 n2:N<=g2
 n3:N<=g3
 svcs:RowIs w 63 13 g1 B.svcs.length k1 (AU B.svcs)
 cps:RowIs w 35 7 g2 B.cps.length k2 (Ag B.cps)
 bts:RowIs w 74 2 g3 B.bts.length k3 (Af B.bts)
theorem RowIs.ne{w:World}{e e':TypeId}{size size' g g' n n' cap cap':Nat}{xs xs':List Value}(h:RowIs w e size g n cap xs)(h':RowIs w e' size' g' n' cap' xs')(he:e≠e'):g≠g':=λhg=>by
 obtain⟨_,_,cur,h1,_⟩:=h;obtain⟨_,_,cur',h2,_⟩:=h';rw[hg,h2]at h1;injection h1 with h1
 injection h1 with _ h1
 exact he h1.symm
theorem BkRow.ne12{w:World}{N g1 g2 g3 k1 k2 k3:Nat}{B:Bk}(h:BkRow w N g1 g2 g3 k1 k2 k3 B):g1≠g2:=h.svcs.ne h.cps (by decide)
theorem BkRow.ne13{w:World}{N g1 g2 g3 k1 k2 k3:Nat}{B:Bk}(h:BkRow w N g1 g2 g3 k1 k2 k3 B):g1≠g3:=h.svcs.ne h.bts (by decide)
theorem BkRow.ne23{w:World}{N g1 g2 g3 k1 k2 k3:Nat}{B:Bk}(h:BkRow w N g1 g2 g3 k1 k2 k3 B):g2≠g3:=h.cps.ne h.bts (by decide)
theorem BkRow.at{w:World}{N g1 g2 g3 k1 k2 k3:Nat}{B:Bk}(h:BkRow w N g1 g2 g3 k1 k2 k3 B):BkAt w (ad g1) (ad g2) (ad g3) B:=⟨h.svcs.slS,h.cps.slC,h.bts.slB⟩
theorem As:(Try.prog.info? 27).map (·.size)=some 4:=by kernel_rfl
theorem CP(B:Bk)(a1 a2 a3:Option Addr)(c1 c2 c3:Nat)(w:World)(hS:B.small)(hB:BkAt w a1 a2 a3 B):
  Calls Try.prog 77 #[.agg (bkV B a1 c1 a2 c2 a3 c3)] w λe w'=>∃g1 k1 g2 k2 g3 k3,e=.returned (.agg (bkV B (ad g1) k1 (ad g2) k2 (ad g3) k3))/\BkRow w' w.heap.size g1 g2 g3 k1 k2 k3 B/\Below w.heap.size w w':=by
 obtain⟨hl1,hl2,hl3⟩:=hS;obtain⟨t0,t1,t2⟩:=Bh w (.cells (bkV B a1 c1 a2 c2 a3 c3) 27) (.cells zbV 27);have T0:Hid _:=t0;have T1:Hid _:=t1;have HS2:Hid _:=t2;have hz0:w.heap.size<((w.alloc (.cells (bkV B a1 c1 a2 c2 a3 c3) 27)).alloc (.cells zbV 27)).heap.size:=by rw[HS2.out];omega
 have hz1:w.heap.size+1<((w.alloc (.cells (bkV B a1 c1 a2 c2 a3 c3) 27)).alloc (.cells zbV 27)).heap.size:=by rw[HS2.out];omega
 clear t0 t1 t2;have hbb:Below w.heap.size w ((w.alloc (.cells (bkV B a1 c1 a2 c2 a3 c3) 27)).alloc (.cells zbV 27)):=((Below.refl _ _).alloc (AG _) _).alloc (by simp) _;go_enter Try.func77,Try.ntmps77;go_wp2;refine AX 15 (by kernel_rfl) (by kernel_rfl) ?_;apply AN
 ·intro V W K A hW hd hA hK
  simp only[pA]at hA;clear hd;obtain rfl:=hA;go_wp2;exact hK.out _ brf
 apply AN
 ·intro V W K A hW hd hA hK
  have d0:V 0=_:=hd 0 (by kernel_rfl);simp only[pA,d0]at hA;clear hd d0;obtain rfl:=hA;have e0:=AK (AL hW T0.out hz0) 0 rfl;go_wp2;exact hK.out _ brf
 refine Av (λv W=>∃g,v=.slice (ad g) 0 0/\w.heap.size+1+1<=g/\Bl W g #[] 63) (λv W W2 ⟨g,h1,h2,h3⟩ hb=>⟨g,h1,h2,AL hb h3 (AB h3).1⟩) ?_ ?_
 ·intro V W K A hW hd hA hK
  simp only[pA]at hA;clear hd;obtain rfl:=hA;go_wp2;exact hK.out _ _ (AO W _) ⟨_,rfl,by have:=hW.size;rw[HS2.out]at this;exact this,heap_alloc_new W _⟩
 apply AN
 ·intro V W K A hW hd hA hK
  simp only[pA]at hA;clear hd;obtain rfl:=hA;go_wp2;exact hK.out _ brf
 apply AN
 ·intro V W K A hW hd hA hK
  have d3:V 3=_:=hd 3 (by kernel_rfl);simp only[pA,d3]at hA;clear hd d3;obtain rfl:=hA;have e1:=AK (AL hW T0.out hz0) 1 rfl;go_wp2;exact hK.out _ brf
 refine Av (λv W=>∃g cap,v=.slice (ad g) B.svcs.length cap/\w.heap.size+1+1<=g/\RowIs W 63 13 g B.svcs.length cap (AU B.svcs)) (λv W W2 ⟨g,cap,h1,h2,h3⟩ hb=>⟨g,cap,h1,h2,h3.below hb h3.lt⟩) ?_ ?_
 ·intro V W K A hW hd hA hK
  have d2:(λv W=>∃g,v=.slice (ad g) 0 0/\w.heap.size+1+1<=g/\Bl W g #[] 63) (V 2) W:=hd 2 (by kernel_rfl);have d4:V 4=_:=hd 4 (by kernel_rfl);simp only[pA,d4]at hA;clear hd d4;generalize V 2=x2 at d2 hA;obtain rfl:=hA;obtain⟨g,rfl,hg,hgz⟩:=d2;refine BC rfl (.tmp 5) (.tmp 7) 23 rfl 63 _ 13 112 Try.underlying23 In rfl g rfl hgz a1 B.svcs.length c1 (AU B.svcs) rfl (DL _) (hB.1.below (hbb.trans (hW.mono hbb.size))).src (DK _) (by unfold maxLen;omega) (by omega) ?_;intro g' cap' w2 hg' hrow hb2
  have hgg:w.heap.size+1+1<=g':=by
   have:=hW.size;rw[HS2.out]at this;rcases hg' with rfl|rfl
   ·exact hg
   ·exact this
  go_wp2;exact hK.out _ _ hb2 ⟨g',cap',rfl,hgg,hrow.out⟩
 refine Av (λv W=>∃g,v=.slice (ad g) 0 0/\w.heap.size+1+1<=g/\Bl W g #[] 35) (λv W W2 ⟨g,h1,h2,h3⟩ hb=>⟨g,h1,h2,AL hb h3 (AB h3).1⟩) ?_ ?_
 ·intro V W K A hW hd hA hK
  simp only[pA]at hA;clear hd;obtain rfl:=hA;go_wp2;exact hK.out _ _ (AO W _) ⟨_,rfl,by have:=hW.size;rw[HS2.out]at this;exact this,heap_alloc_new W _⟩
 apply AN
 ·intro V W K A hW hd hA hK
  simp only[pA]at hA;clear hd;obtain rfl:=hA;go_wp2;exact hK.out _ brf
 apply AN
 ·intro V W K A hW hd hA hK
  have d7:V 7=_:=hd 7 (by kernel_rfl);simp only[pA,d7]at hA;clear hd d7;obtain rfl:=hA;have e2:=AK (AL hW T0.out hz0) 2 rfl;go_wp2;exact hK.out _ brf
 refine Av (λv W=>∃g cap,v=.slice (ad g) B.cps.length cap/\w.heap.size+1+1<=g/\RowIs W 35 7 g B.cps.length cap (Ag B.cps)) (λv W W2 ⟨g,cap,h1,h2,h3⟩ hb=>⟨g,cap,h1,h2,h3.below hb h3.lt⟩) ?_ ?_
 ·intro V W K A hW hd hA hK
  have d6:(λv W=>∃g,v=.slice (ad g) 0 0/\w.heap.size+1+1<=g/\Bl W g #[] 35) (V 6) W:=hd 6 (by kernel_rfl);have d8:V 8=_:=hd 8 (by kernel_rfl);simp only[pA,d8]at hA;clear hd d8;generalize V 6=x6 at d6 hA;obtain rfl:=hA;obtain⟨g,rfl,hg,hgz⟩:=d6;refine BC rfl (.tmp 9) (.tmp 11) 24 rfl 35 _ 7 72 Try.underlying24 Lk rfl g rfl hgz a2 B.cps.length c2 (Ag B.cps) rfl (Hq _) (hB.2.1.below (hbb.trans (hW.mono hbb.size))).src (Hp _) (by unfold maxLen;omega) (by omega) ?_;intro g' cap' w2 hg' hrow hb2
  have hgg:w.heap.size+1+1<=g':=by
   have:=hW.size;rw[HS2.out]at this;rcases hg' with rfl|rfl
   ·exact hg
   ·exact this
  go_wp2;exact hK.out _ _ hb2 ⟨g',cap',rfl,hgg,hrow.out⟩
 refine Av (λv W=>∃g,v=.slice (ad g) 0 0/\w.heap.size+1+1<=g/\Bl W g #[] 74) (λv W W2 ⟨g,h1,h2,h3⟩ hb=>⟨g,h1,h2,AL hb h3 (AB h3).1⟩) ?_ ?_
 ·intro V W K A hW hd hA hK
  simp only[pA]at hA;clear hd;obtain rfl:=hA;go_wp2;exact hK.out _ _ (AO W _) ⟨_,rfl,by have:=hW.size;rw[HS2.out]at this;exact this,heap_alloc_new W _⟩
 apply AN
 ·intro V W K A hW hd hA hK
  simp only[pA]at hA;clear hd;obtain rfl:=hA;go_wp2;exact hK.out _ brf
 apply AN
 ·intro V W K A hW hd hA hK
  have d11:V 11=_:=hd 11 (by kernel_rfl);simp only[pA,d11]at hA;clear hd d11;obtain rfl:=hA;have e3:=AK (AL hW T0.out hz0) 3 rfl;go_wp2;exact hK.out _ brf
 refine Av (λv W=>∃g cap,v=.slice (ad g) B.bts.length cap/\w.heap.size+1+1<=g/\RowIs W 74 2 g B.bts.length cap (Af B.bts)) (λv W W2 ⟨g,cap,h1,h2,h3⟩ hb=>⟨g,cap,h1,h2,h3.below hb h3.lt⟩) ?_ ?_
 ·intro V W K A hW hd hA hK
  have d10:(λv W=>∃g,v=.slice (ad g) 0 0/\w.heap.size+1+1<=g/\Bl W g #[] 74) (V 10) W:=hd 10 (by kernel_rfl);have d12:V 12=_:=hd 12 (by kernel_rfl);simp only[pA,d12]at hA;clear hd d12;generalize V 10=x10 at d10 hA;obtain rfl:=hA;obtain⟨g,rfl,hg,hgz⟩:=d10;refine BC rfl (.tmp 13) (.tmp 15) 25 rfl 74 _ 2 24 Try.underlying25 Kn rfl g rfl hgz a3 B.bts.length c3 (Af B.bts) rfl (Cs _) (hB.2.2.below (hbb.trans (hW.mono hbb.size))).src (Cr _) (by unfold maxLen;omega) (by omega) ?_;intro g' cap' w2 hg' hrow hb2
  have hgg:w.heap.size+1+1<=g':=by
   have:=hW.size;rw[HS2.out]at this;rcases hg' with rfl|rfl
   ·exact hg
   ·exact this
  go_wp2;exact hK.out _ _ hb2 ⟨g',cap',rfl,hgg,hrow.out⟩
 refine Av (λv W=>∃g1 k1 g2 k2 g3 k3,v=.agg (bkV B (ad g1) k1 (ad g2) k2 (ad g3) k3)/\(w.heap.size+1+1<=g1/\RowIs W 63 13 g1 B.svcs.length k1 (AU B.svcs))/\(w.heap.size+1+1<=g2/\RowIs W 35 7 g2 B.cps.length k2 (Ag B.cps))/\(w.heap.size+1+1<=g3/\RowIs W 74 2 g3 B.bts.length k3 (Af B.bts))) (λv W W2 ⟨g1,k1,g2,k2,g3,k3,h,⟨p1,r1⟩,⟨p2,r2⟩,⟨p3,r3⟩⟩ hb=>⟨g1,k1,g2,k2,g3,k3,h,⟨p1,r1.below hb r1.lt⟩,⟨p2,r2.below hb r2.lt⟩,⟨p3,r3.below hb r3.lt⟩⟩) ?_ ?_
 ·intro V W K A hW hd hA hK
  have d1:V 1=_:=hd 1 (by kernel_rfl);have d5:(λv W=>∃g cap,v=.slice (ad g) B.svcs.length cap/\w.heap.size+1+1<=g/\RowIs W 63 13 g B.svcs.length cap (AU B.svcs)) (V 5) W:=hd 5 (by kernel_rfl);have d9:(λv W=>∃g cap,v=.slice (ad g) B.cps.length cap/\w.heap.size+1+1<=g/\RowIs W 35 7 g B.cps.length cap (Ag B.cps)) (V 9) W:=hd 9 (by kernel_rfl);have d13:(λv W=>∃g cap,v=.slice (ad g) B.bts.length cap/\w.heap.size+1+1<=g/\RowIs W 74 2 g B.bts.length cap (Af B.bts)) (V 13) W:=hd 13 (by kernel_rfl);simp only[pA,d1]at hA;clear hd d1;generalize V 5=x5 at d5 hA;generalize V 9=x9 at d9 hA;generalize V 13=x13 at d13 hA;obtain rfl:=hA;obtain⟨g1,k1,rfl,p1,r1⟩:=d5;obtain⟨g2,k2,rfl,p2,r2⟩:=d9;obtain⟨g3,k3,rfl,p3,r3⟩:=d13;have R1:Hid (RowIs W 63 13 g1 B.svcs.length k1 (AU B.svcs)):=r1;have R2:Hid (RowIs W 35 7 g2 B.cps.length k2 (Ag B.cps)):=r2;have R3:Hid (RowIs W 74 2 g3 B.bts.length k3 (Af B.bts)):=r3;clear r1 r2 r3;go_wp2;exact hK.out _ _ brf ⟨g1,k1,g2,k2,g3,k3,rfl,⟨p1,R1.out⟩,⟨p2,R2.out⟩,⟨p3,R3.out⟩⟩
 intro V W A hW hS hA;have d0:V 0=_:=hS 0 (by omega);have d1:V 1=_:=hS 1 (by omega);have d2:(λv W=>∃g,v=.slice (ad g) 0 0/\w.heap.size+1+1<=g/\Bl W g #[] 63) (V 2) W:=hS 2 (by omega);have d3:V 3=_:=hS 3 (by omega);have d4:V 4=_:=hS 4 (by omega);have d5:(λv W=>∃g cap,v=.slice (ad g) B.svcs.length cap/\w.heap.size+1+1<=g/\RowIs W 63 13 g B.svcs.length cap (AU B.svcs)) (V 5) W:=hS 5 (by omega);have d6:(λv W=>∃g,v=.slice (ad g) 0 0/\w.heap.size+1+1<=g/\Bl W g #[] 35) (V 6) W:=hS 6 (by omega);have d7:V 7=_:=hS 7 (by omega);have d8:V 8=_:=hS 8 (by omega);have d9:(λv W=>∃g cap,v=.slice (ad g) B.cps.length cap/\w.heap.size+1+1<=g/\RowIs W 35 7 g B.cps.length cap (Ag B.cps)) (V 9) W:=hS 9 (by omega);have d10:(λv W=>∃g,v=.slice (ad g) 0 0/\w.heap.size+1+1<=g/\Bl W g #[] 74) (V 10) W:=hS 10 (by omega);have d11:V 11=_:=hS 11 (by omega);have d12:V 12=_:=hS 12 (by omega);have d13:(λv W=>∃g cap,v=.slice (ad g) B.bts.length cap/\w.heap.size+1+1<=g/\RowIs W 74 2 g B.bts.length cap (Af B.bts)) (V 13) W:=hS 13 (by omega);have d14:(λv W=>∃g1 k1 g2 k2 g3 k3,v=.agg (bkV B (ad g1) k1 (ad g2) k2 (ad g3) k3)/\(w.heap.size+1+1<=g1/\RowIs W 63 13 g1 B.svcs.length k1 (AU B.svcs))/\(w.heap.size+1+1<=g2/\RowIs W 35 7 g2 B.cps.length k2 (Ag B.cps))/\(w.heap.size+1+1<=g3/\RowIs W 74 2 g3 B.bts.length k3 (Af B.bts))) (V 14) W:=hS 14 (by omega);simp only[pA,d0,d1,d3,d4,d7,d8,d11,d12]at hA;clear hS d0 d1 d3 d4 d7 d8 d11 d12;generalize V 2=x2 at d2 hA;generalize V 5=x5 at d5 hA;generalize V 6=x6 at d6 hA;generalize V 9=x9 at d9 hA
 generalize V 10=x10 at d10 hA;generalize V 13=x13 at d13 hA;generalize V 14=x14 at d14 hA;obtain rfl:=hA;simp only[List.drop_succ_cons,List.drop_zero];obtain⟨g1,k1,g2,k2,g3,k3,rfl,⟨p1,r1⟩,⟨p2,r2⟩,⟨p3,r3⟩⟩:=d14;clear d2 d5 d6 d9 d10 d13;have hbw:=hbb.trans (hW.mono hbb.size);refine AM rfl 27 (.tmp 2) (.tmp 17) rfl (w.heap.size+1) 0 (bkV B (ad g1) k1 (ad g2) k2 (ad g3) k3) rfl rfl 27 zbV (AL hW T1.out hz1) As (AD rfl) (by simp[Value.oneCell']) ?_;intro wf hz on;have RF:Hid (Bl wf (w.heap.size+1) (bkV B (ad g1) k1 (ad g2) k2 (ad g3) k3) 27):=hz;have HR:Hid (BkRow wf w.heap.size g1 g2 g3 k1 k2 k3 B):=⟨by omega,by omega,by omega,r1.blk (on.other _ (by omega)),r2.blk (on.other _ (by omega)),r3.blk (on.other _ (by omega))⟩;have hbf:Below w.heap.size w wf:=hbw.trans (on.below.mono (by omega));clear hz on r1 r2 r3;obtain⟨p0,q1,q2,q3⟩:=c4 RF.out;go_wp2;refine bodyPost_ret (v:=.agg (bkV B (ad g1) k1 (ad g2) k2 (ad g3) k3)) (by simp[results,Try.results77,go_sem,p0,q1,q2,q3]) rfl ⟨g1,k1,g2,k2,g3,k3,rfl,HR.out,hbf⟩
end
end Go.Proofs.Ytbceafpodamnfaa
