import Derived.WalkKit
import Derived.Test.YtbceafpodamnfaaGreatChecked
import GoSem.Claim
import GoSem.ClaimJoined
import GoSem.ClaimMapViews
import Derived.JoinedTies
import Derived.KernelRfl
import Derived.RowKit
import Derived.WalkSpells
import Derived.WalkLawsBesides
import Derived.Laws.CopyOwn
import Derived.Laws.AppendOwn
import Derived.StillTail
import Derived.Below
set_option linter.all false
set_option maxHeartbeats 400000
namespace Go.Proofs.YtbceafpodamnfaaGreat
section
open Go.RowKit
theorem AB{α:Type}{xs:Array α}{i:Nat}{b:α}:xs[i]?=some b->∃h:i<xs.size,xs[i]=b:=Array.getElem?_eq_some_iff.1
theorem AC{α:Type}{l:List α}{i:Nat}{b:α}:l[i]?=some b->∃h:i<l.length,l[i]=b:=List.getElem?_eq_some_iff.1
theorem AD{n m:Nat}:Nat.ble n m=true->n<=m:=Nat.le_of_ble_eq_true
theorem AE{α:Type}{l:List α}{i:Nat}{a:α}:l[i]?=some a->a∈l:=List.mem_of_getElem?
theorem AF{n m k:Nat}:n<m->m<=k->n<k:=Nat.lt_of_lt_of_le
theorem AG(n:Nat):n<=n:=Nat.le_refl n
theorem AH{n m k:Nat}:n<=m->m<=k->n<=k:=Nat.le_trans
theorem AI(n:Nat):0<=n:=Nat.zero_le n
structure Svc where
 name:ByteArray
 version:Int
 gone:Bool
 image:Int
 want:Int
 down:Int
 over:Int
 next:Int
 per:Int
 least:Int
 most:Int
 load:Int
 cool:Int
structure Cp where
 service:ByteArray
 number:Int
 version:Int
 image:Int
 state:Int
 ending:Bool
 berth:ByteArray
structure Bt where
 name:ByteArray
 drain:Bool
def SvcAt(w:World)(b o:Nat)(s:Svc):Prop:=w.cell? ⟨b,o,none⟩=some (.string s.name)/\w.cell? ⟨b,o+1,none⟩=some (.int .i64 s.version)/\w.cell? ⟨b,o+2,none⟩=some (.bool s.gone)/\w.cell? ⟨b,o+3,none⟩=some (.int .i64 s.image)/\w.cell? ⟨b,o+4,none⟩=some (.int .i64 s.want)/\w.cell? ⟨b,o+5,none⟩=some (.int .i64 s.down)/\w.cell? ⟨b,o+6,none⟩=some (.int .i64 s.over)/\w.cell? ⟨b,o+7,none⟩=some (.int .i64 s.next)/\w.cell? ⟨b,o+8,none⟩=some (.int .i64 s.per)/\w.cell? ⟨b,o+9,none⟩=some (.int .i64 s.least)/\w.cell? ⟨b,o+10,none⟩=some (.int .i64 s.most)/\w.cell? ⟨b,o+11,none⟩=some (.int .i64 s.load)/\w.cell? ⟨b,o+12,none⟩=some (.int .i64 s.cool)
def CpAt(w:World)(b o:Nat)(s:Cp):Prop:=w.cell? ⟨b,o,none⟩=some (.string s.service)/\w.cell? ⟨b,o+1,none⟩=some (.int .i64 s.number)/\w.cell? ⟨b,o+2,none⟩=some (.int .i64 s.version)/\w.cell? ⟨b,o+3,none⟩=some (.int .i64 s.image)/\w.cell? ⟨b,o+4,none⟩=some (.int .i64 s.state)/\w.cell? ⟨b,o+5,none⟩=some (.bool s.ending)/\w.cell? ⟨b,o+6,none⟩=some (.string s.berth)
def BtAt(w:World)(b o:Nat)(s:Bt):Prop:=w.cell? ⟨b,o,none⟩=some (.string s.name)/\w.cell? ⟨b,o+1,none⟩=some (.bool s.drain)
def SvcsAt(w:World)(b off:Nat)(l:List Svc):Prop:=∀i s,l[i]?=some s->SvcAt w b (off+i*13) s
def CpsAt(w:World)(b off:Nat)(l:List Cp):Prop:=∀i s,l[i]?=some s->CpAt w b (off+i*7) s
def BtsAt(w:World)(b off:Nat)(l:List Bt):Prop:=∀i s,l[i]?=some s->BtAt w b (off+i*2) s
theorem SvcAt.below{B:Nat}{w w':World}{b o:Nat}{s:Svc}(h:SvcAt w b o s)(hb:Below B w w')(hB:b<B):SvcAt w' b o s:=by
 unfold SvcAt at *;simp only[λo=>hb.cell (p:=⟨b,o,none⟩) hB];exact h
theorem CpAt.below{B:Nat}{w w':World}{b o:Nat}{s:Cp}(h:CpAt w b o s)(hb:Below B w w')(hB:b<B):CpAt w' b o s:=by
 unfold CpAt at *;simp only[λo=>hb.cell (p:=⟨b,o,none⟩) hB];exact h
theorem BtAt.below{B:Nat}{w w':World}{b o:Nat}{s:Bt}(h:BtAt w b o s)(hb:Below B w w')(hB:b<B):BtAt w' b o s:=by
 unfold BtAt at *;simp only[λo=>hb.cell (p:=⟨b,o,none⟩) hB];exact h
def inB(n lo hi:Int):Bool:=decide (lo<=n)&&decide (n<=hi)
def F5(c:Int):Bool:=(decide (97<=c)&&decide (c<=122))||((decide (48<=c)&&decide (c<=57))||(c==45))
def Cq(s:ByteArray):Bool:=inB s.size 1 20&&s.data.toList.all λc=>F5 c.toNat
def perB(s:Svc):Bool:=if s.per=0 then s.least==0&&s.most==0&&s.load==0&&s.cool==0 else inB s.per 0 1000000&&inB s.load 0 1000000&&inB s.least 0 10&&inB s.most s.least 10&&inB s.cool 0 3
def G6(now:Int)(s:Svc):Bool:=Cq s.name&&inB s.version 1 now&&inB s.image 1 1000000&&inB s.next 1 1000000&&inB s.want 0 10&&inB s.down 0 10&&inB s.over 0 10&& !(s.down+s.over==0)&&perB s
theorem Ha(s:ByteArray):Cq s=true↔inB s.size 1 20=true/\∀i (h:i<s.size),F5 (s[i]'h).toNat=true:=by
 unfold Cq;rw[Bool.and_eq_true,List.all_eq_true];refine and_congr_right λ_=>⟨λh i hi=>h _ ?_,λh c hc=>?_⟩
 ·exact Array.getElem_mem_toList (by simpa using hi)
 ·obtain⟨i,hi,rfl⟩:=List.mem_iff_getElem.1 hc
  exact h i (by simpa using hi)
theorem Lo(s:ByteArray)(i:Nat)(h:i<s.size)(hb:F5 (s[i]'h).toNat=false):Cq s=false:=by
 cases hn:Cq s with
 |false=>rfl
 |true=>rw[((Ha s).1 hn).2 i h]at hb;cases hb
theorem JQ(s:ByteArray)(h:inB s.size 1 20=false):Cq s=false:=by
 unfold Cq;rw[h];rfl
theorem AR{a b:Bool}(h:a=b):Ending.returned (.bool a)=.returned (.bool b):=by rw[h]
theorem Eh{k:IntKind}{a b:Int}(h:a=b):Ending.returned (.int k a)=.returned (.int k b):=by rw[h]
theorem CQ(n lo hi:Int)(w:World):
  Calls Tryz.prog 15 #[.int .i64 n,.int .i64 lo,.int .i64 hi] w λe w'=>e=.returned (.bool (inB n lo hi))/\w'=w:=by
 go_enter Tryz.func15,Tryz.ntmps15;go_wp2
 all_goals
  go_ret;exact⟨AR (by rw[Bool.eq_iff_iff];simp[inB];try omega),rfl⟩
section
variable {P:Program}
theorem C9(w:World)(g k:Nat)(cs:Array Value)(h:k≠g):(w.setRow g cs).heap[k]?=w.heap[k]?:=by
 unfold World.setRow;simp only[Array.getElem?_modify];rw[if_neg (by omega)]
theorem D7(w:World)(g:Nat)(cs:Array Value):(w.setRow g cs).heap.size=w.heap.size:=by
 unfold World.setRow;simp
theorem below_setRow'(w:World)(g:Nat)(cs:Array Value):Below g w (w.setRow g cs):=
 ⟨rfl,rfl,rfl,by rw[D7];exact AG _,λk hk=>C9 w g k cs (by omega)⟩
theorem ID(w:World)(g off:Nat)(t ty:TypeId)(cur cells:Array Value)(hg:w.heap[g]?=some (.cells cur t (0,0)))(hi:(P.info? ty).map (·.size)=some cells.size)
  (hfit:off+cells.size<=cur.size) (h1:cells.all (·.oneCell')=true):
  (storeVar ty ⟨g,off,none⟩ (.agg cells)).run P w=.ok () (w.setRow g (splice cur.toList off cells.toList).toArray):=by
 have:=run_storeCells_at P g off t cells.toList 0 cur w hg (by simpa using hfit) (λv hv=>(Array.all_eq_true_iff_forall_mem.1 h1) v (by simpa using hv))
 cases hq:P.info? ty with
 |none=>simp[hq]at hi
 |some i=>
  have hs:cells.size=i.size:=by simp[hq]at hi;omega
  simp only[Nat.add_zero,List.append_assoc]at this;simp[storeVar,sizeOf,typeInfo,hq,Value.cells,hs,this,splice]
theorem Ia{ops:Array Oper}{rest:List Oper}{o:Oper}{a:Act}{w:World}{Q:Exit->Act->World->Prop}(hgd:o.guard=none)(l c:Operand)(t:TypeId)(hop:o.op=Op.makeSlice t l c)
  (e:TypeId) (z:Value) (size bytes:Nat) (ht:P.underlying t=some (.slice e)) (hinfo:(P.info? e).map (λi=>(i.zero,i.size,i.bytes))=some (some z,size,bytes))
  (n:Nat) (hl:a.eval l=.int .i64 (n:Int)) (hc:a.eval c=.int .i64 (n:Int)) (b2:bytes*n<=281474976710656) (b3:n<=maxLen)
  (h:∀w',Hid (w'.heap[w.heap.size]?=some (.cells (madeCells z.cells (n*size)) e (0,0)))->Hid (w'.heap.size=w.heap.size+1)->Below w.heap.size w w'->wpList P ops Q rest (a.put o.dst (.slice (some ⟨w.heap.size,0,none⟩) n n)) w'):
  wpList P ops Q (o::rest) a w:=by
 obtain⟨i,hi,hz,hs,hb⟩:=info_parts hinfo;subst hs hb;unfold maxLen at b3
 have hb2:(i.bytes:Int)*(n:Int)<=281474976710656:=by
  have h:((i.bytes*n:Nat):Int)<=281474976710656:=by omega
  rwa [Int.natCast_mul]at h
 have hr:=run_make (P:=P) w t e i z ht hi hz .i64 .i64 n n (by omega) (Int.le_refl _) hb2 (by omega);simp only[Int.toNat_natCast]at hr;refine wpList_plain hgd λK hK=>?_
 unfold Oper.wp;simp[execOp,hop,hl,hc,hr,Result.andThen];refine hK _ _ (h _ (heap_alloc_new w _) (by show(w.heap.push _).size=_;simp) ((Below.refl _ _).alloc (AG _) _))
end
theorem AJ{w:World}{b:Nat}{cs:Array Value}{t:TypeId}{fr:Nat × Nat}(h:w.heap[b]?=some (.cells cs t fr))(o:Nat){v:Value}(hv:cs[o]?=some v):w.cell? ⟨b,o,none⟩=some v:=by
 rw[cell_of_row w b o cs t fr h];exact hv
theorem c4{w:World}{b:Nat}{x y z t:Value}{ty:TypeId}{fr:Nat × Nat}(h:w.heap[b]?=some (.cells #[x,y,z,t] ty fr)):w.cell? ⟨b,0,none⟩=some x/\w.cell? ⟨b,1,none⟩=some y/\w.cell? ⟨b,2,none⟩=some z/\w.cell? ⟨b,3,none⟩=some t:=⟨AJ h 0 rfl,AJ h 1 rfl,AJ h 2 rfl,AJ h 3 rfl⟩
theorem D1{w:World}{b:Nat}{cs:Array Value}{t:TypeId}(h:w.heap[b]?=some (.cells cs t (0,0)))(o:Nat):w.frozen? ⟨b,o,none⟩=false:=by
 simp[World.frozen?,h]
theorem Jm(w:World)(A B C:Obj):(((w.alloc A).alloc B).alloc C).heap[w.heap.size]?=some A/\(((w.alloc A).alloc B).alloc C).heap[w.heap.size+1]?=some B/\(((w.alloc A).alloc B).alloc C).heap[w.heap.size+1+1]?=some C/\(((w.alloc A).alloc B).alloc C).heap.size=w.heap.size+1+1+1:=by
 have e:(((w.alloc A).alloc B).alloc C).heap=((w.heap.push A).push B).push C:=rfl;rw[e];refine⟨?_,?_,?_,by simp⟩
 ·rw[Array.getElem?_push,if_neg (by simp;omega),Array.getElem?_push,if_neg (by simp),Array.getElem?_push,if_pos rfl]
 ·rw[Array.getElem?_push,if_neg (by simp),Array.getElem?_push,if_pos (by simp)]
 ·rw[Array.getElem?_push,if_pos (by simp)]
def Svc.cells(s:Svc):List Value:=(#[.string s.name,.int .i64 s.version,.bool s.gone,.int .i64 s.image,.int .i64 s.want,.int .i64 s.down,.int .i64 s.over,.int .i64 s.next,.int .i64 s.per,.int .i64 s.least,.int .i64 s.most,.int .i64 s.load,.int .i64 s.cool]:Array Value).toList
def Cp.cells(s:Cp):List Value:=(#[.string s.service,.int .i64 s.number,.int .i64 s.version,.int .i64 s.image,.int .i64 s.state,.bool s.ending,.string s.berth]:Array Value).toList
def Bt.cells(s:Bt):List Value:=(#[.string s.name,.bool s.drain]:Array Value).toList
theorem Jd{w:World}{b:Nat}{cur:Array Value}{t:TypeId}{fr:Nat × Nat}(h:w.heap[b]?=some (.cells cur t fr))(o:Nat):w.cell? ⟨b,o,none⟩=cur.toList[o]?:=by
 rw[cell_of_row w b o cur t fr h];simp
def RowIs(w:World)(e:TypeId)(size g n cap:Nat)(xs:List Value):Prop:=
 xs.length=n*size/\n<=cap/\∃cur:Array Value,w.heap[g]?=some (.cells cur e (0,0))/\cur.size=cap*size/\cur.toList.take (n*size)=xs
theorem RowIs.lt{w:World}{e:TypeId}{size g n cap:Nat}{xs:List Value}(h:RowIs w e size g n cap xs):g<w.heap.size:=by
 obtain⟨_,_,cur,hg,_⟩:=h;exact(AB hg).1
theorem RowIs.blk{w w':World}{e:TypeId}{size g n cap:Nat}{xs:List Value}(h:RowIs w e size g n cap xs)(hb:w'.heap[g]?=w.heap[g]?):RowIs w' e size g n cap xs:=by
 obtain⟨h1,h2,cur,hg,r⟩:=h;exact⟨h1,h2,cur,hb.trans hg,r⟩
theorem RowIs.below{w w':World}{e:TypeId}{size g n cap N:Nat}{xs:List Value}(h:RowIs w e size g n cap xs)(hb:Below N w w')(hN:g<N):RowIs w' e size g n cap xs:=h.blk (hb.block g hN)
theorem RowIs.cell{w:World}{e:TypeId}{size g n cap:Nat}{xs:List Value}(h:RowIs w e size g n cap xs){j:Nat}{u:Value}(hu:xs[j]?=some u):w.cell? ⟨g,j,none⟩=some u:=by
 obtain⟨h1,h2,cur,hg,hs,ht⟩:=h;rw[Jd hg];rw[<-ht,List.getElem?_take]at hu;split at hu
 ·exact hu
 ·cases hu
theorem RowIs.new(w:World)(e:TypeId)(size:Nat):RowIs (w.alloc (.cells #[] e)) e size w.heap.size 0 0 []:=
 ⟨by simp,AG _,#[],heap_alloc_new w _,by simp,by simp⟩
theorem DD{w w':World}{g N:Nat}(h:w.grownBy w' (some g))(hN:N<=g)(hs:N<=w.heap.size):Below N w w':=
 ⟨h.os,h.tape,h.output,h.size,λk hk=>h.block k (by omega) (λe=>by have:=Option.some.inj e;omega)⟩
theorem Mt(w:World)(r:Option Nat):w.grownBy w r:=⟨rfl,rfl,rfl,AG _,λ_ _ _=>rfl⟩
theorem DU{w:World}{b:Nat}{cs:Array Value}{t:TypeId}{fr:Nat × Nat}(h:w.heap[b]?=some (.cells cs t fr)):∀j u,cs.toList[j]?=some u->w.cell? ((⟨b,0,none⟩:Addr).add j)=some u:=λj u hu=>by
 rw[Addr.add_lit,Jd h,Nat.zero_add];exact hu
section
variable {P:Program}
theorem FQ(w:World)(t ty e:TypeId)(z:Value)(size bytes:Nat)(ht:P.underlying t=some (.slice e))(hinfo:(P.info? e).map (λi=>(i.zero,i.size,i.bytes))=some (some z,size,bytes))(hzs:z.cells.size=size)
  (g n cap:Nat) (xs:List Value) (hrow:RowIs w e size g n cap xs)
  (ad:Addr) (m c:Nat) (news:List Value) (hl:news.length=m*size) (hnews:∀j u,news[j]?=some u->w.cell? (ad.add j)=some u) (h1:∀u∈news,u.oneCell'=true)
  (h63:n+m<=maxLen) (hbytes:(n+m)*bytes<=140737488355328):
  ∃g' cap' w',(Builtin.append_ #[t,t] ty #[.slice (some ⟨g,0,none⟩) n cap,.slice (some ad) m c]).run P w=.ok (.slice (some ⟨g',0,none⟩) (n+m) cap') w'/\(g'=g\/g'=w.heap.size)/\
   RowIs w' e size g' (n+m) cap' (xs++news)/\w.grownBy w' (some g):=by
 obtain⟨i,hi,hz,hs,hb⟩:=info_parts hinfo;subst hs hb;have hr0:=hrow;obtain⟨hx,hnc,cur,hg,hcs,htake⟩:=hrow;have hlen:(xs++news).length=(n+m)*i.size:=by rw[List.length_append,hx,hl,Nat.add_mul]
 have hsmall:n+m<=9223372036854775807:=by simp only[maxLen]at h63;omega
 by_cases hroom:n+m<=cap
 ·have hfit:n*i.size+news.length<=cur.size:=by rw[hl,hcs,<-Nat.add_mul];exact Nat.mul_le_mul_right _ hroom
  have hr:=run_append_room (P:=P) w t ty e i ht hi g n cap cur hg ad m c news hl hnews h1 hroom hfit;refine⟨g,cap,_,hr,.inl rfl,⟨hlen,hroom,_,setRow_heap w g cur _ e _ hg,?_,?_⟩,⟨rfl,rfl,rfl,by simp,λk _ hk=>setRow_other w g k _ (λe=>hk (by rw[e]))⟩⟩
  ·simp only[List.size_toArray,List.length_append,List.length_take,List.length_drop,Array.length_toList]
   omega
  ·rw[htake,<-hlen]
   exact List.take_left
 ·have holds:∀j u,xs[j]?=some u->w.cell? ((⟨g,0,none⟩:Addr).add j)=some u:=λj u hu=>by
   have:=hr0.cell hu
   simpa [Addr.add_lit] using this
  have hr:=run_append_grow (P:=P) w t ty e i z ht hi hz ⟨g,0,none⟩ n cap xs hx holds ad m c news hl hnews (by omega) (by omega) (growslice_fits (by omega) hbytes);have hge:=grownCap_ge w (n+m) cap e;refine⟨w.heap.size,_,_,hr,.inr rfl,⟨hlen,hge,_,heap_alloc_new w.drew _,?_,?_⟩,⟨rfl,rfl,rfl,by simp,λk hk _=>by show(w.heap.push _)[k]?=_;rw[Array.getElem?_push,if_neg (by omega)]⟩⟩
  ·simp only[Array.size_append,List.size_toArray,size_zeroCells,hzs,hx,hl,<-Nat.add_mul]
   congr 1
   omega
  ·simp only[Array.toList_append,List.append_assoc]
   rw[<-List.append_assoc,<-hlen];exact List.take_left
theorem CG{ops:Array Oper}{rest:List Oper}{o:Oper}{a:Act}{w:World}{Q:Exit->Act->World->Prop}(hgd:o.guard=none)(s x:Operand)(t:TypeId)
  (ho:o.op=.call {callee:=.builtin .append,args:=#[s,x],argTypes:=#[t,t]})
  (e:TypeId) (z:Value) (size bytes:Nat) (ht:P.underlying t=some (.slice e)) (hinfo:(P.info? e).map (λi=>(i.zero,i.size,i.bytes))=some (some z,size,bytes)) (hzs:z.cells.size=size)
  (g n cap:Nat) (xs:List Value) (hs:a.eval s=.slice (some ⟨g,0,none⟩) n cap) (hrow:RowIs w e size g n cap xs)
  (ad:Addr) (m c:Nat) (news:List Value) (hx:a.eval x=.slice (some ad) m c) (hl:news.length=m*size) (hnews:∀j u,news[j]?=some u->w.cell? (ad.add j)=some u) (h1:∀u∈news,u.oneCell'=true)
  (h63:n+m<=maxLen) (hbytes:(n+m)*bytes<=140737488355328)
  (h:∀g' cap' w',(g'=g\/g'=w.heap.size)->Hid (RowIs w' e size g' (n+m) cap' (xs++news))->w.grownBy w' (some g)->wpList P ops Q rest (a.put o.dst (.slice (some ⟨g',0,none⟩) (n+m) cap')) w'):wpList P ops Q (o::rest) a w:=by
 refine wpList_plain hgd λK hK=>?_
 obtain⟨g',cap',w',hr,h2,h3,h4⟩:=FQ (P:=P) w t o.type e z size bytes ht hinfo hzs g n cap xs hrow ad m c news hl hnews h1 h63 hbytes;unfold Oper.wp execOp;simp only[ho,resolve,invoke,builtin,Sem.run_bind,Sem.run_pure,Result.andThen_ok,List.map_toArray,List.map_cons,List.map_nil,hs,hx,hr];exact hK _ _ (h g' cap' w' h2 h3 h4)
end
section
variable {P:Program}
structure BA(g:Nat)(w w':World):Prop where
 other:∀k,k≠g->w'.heap[k]?=w.heap[k]?
 below:Below g w w'
 size:w'.heap.size=w.heap.size
theorem C2(w:World)(g:Nat)(cs:Array Value):BA g w (w.setRow g cs):=⟨λk hk=>C9 w g k cs hk,below_setRow' w g cs,D7 w g cs⟩
theorem G9(w:World)(g off:Nat)(t ty:TypeId)(cur:Array Value)(v:Value)(hg:w.heap[g]?=some (.cells cur t (0,0)))(hi:(P.info? ty).map (·.size)=some 1)(hv:v.cells=#[v])
  (hfit:off+1<=cur.size) (h1:v.oneCell'=true):
  (storeVar ty ⟨g,off,none⟩ v).run P w=.ok () (w.setRow g (splice cur.toList off [v]).toArray):=by
 have:=run_storeCells_at P g off t [v] 0 cur w hg (by simpa using hfit) (λu hu=>by simp at hu;subst hu;exact h1)
 cases hq:P.info? ty with
 |none=>simp[hq]at hi
 |some i=>
  have hs:i.size=1:=by simpa [hq] using hi
  simp only[Nat.add_zero,List.append_assoc]at this;simp[storeVar,sizeOf,typeInfo,hq,hv,hs,this,splice]
theorem Ai{ops:Array Oper}{rest:List Oper}{o:Oper}{a:Act}{w:World}{Q:Exit->Act->World->Prop}(hgd:o.guard=none)(ty:TypeId)(x y:Operand)(ho:o.op=.store ty x y)
  (g off:Nat) (v:Value) (hx:a.eval x=.pointer (some ⟨g,off,none⟩)) (hy:a.eval y=v) (hi:(P.info? ty).map (·.size)=some 1) (hv:v.cells=#[v]) (h1:v.oneCell'=true)
  (t:TypeId) (cur:Array Value) (hg:w.heap[g]?=some (.cells cur t (0,0))) (hfit:off+1<=cur.size)
  (h:∀w',Hid (w'.heap[g]?=some (.cells (splice cur.toList off [v]).toArray t (0,0)))->BA g w w'->wpList P ops Q rest (a.put o.dst undef) w'):wpList P ops Q (o::rest) a w:=by
 refine wpList_plain hgd λK hK=>?_
 unfold Oper.wp execOp;simp only[ho,hx,hy,Instr.storeAt,Instr.sureAddr,Sem.run_bind,Sem.run_pure,Result.andThen_ok,G9 w g off t ty cur v hg hi hv hfit h1];exact hK _ _ (h _ (setRow_heap w g cur _ t _ hg) (C2 w g _))
theorem AL{ops:Array Oper}{rest:List Oper}{o:Oper}{a:Act}{w:World}{Q:Exit->Act->World->Prop}(hgd:o.guard=none)(ty:TypeId)(x y:Operand)(ho:o.op=.store ty x y)
  (g off:Nat) (cells:Array Value) (hx:a.eval x=.pointer (some ⟨g,off,none⟩)) (hy:a.eval y=.agg cells) (t:TypeId) (cur:Array Value) (hg:w.heap[g]?=some (.cells cur t (0,0)))
  (hi:(P.info? ty).map (·.size)=some cells.size) (hfit:off+cells.size<=cur.size) (h1:cells.all (·.oneCell')=true)
  (h:∀w',Hid (w'.heap[g]?=some (.cells (splice cur.toList off cells.toList).toArray t (0,0)))->BA g w w'->wpList P ops Q rest (a.put o.dst undef) w'):wpList P ops Q (o::rest) a w:=by
 refine wpList_plain hgd λK hK=>?_
 unfold Oper.wp execOp;simp only[ho,hx,hy,Instr.storeAt,Instr.sureAddr,Sem.run_bind,Sem.run_pure,Result.andThen_ok,ID w g off t ty cur cells hg hi hfit h1];exact hK _ _ (h _ (setRow_heap w g cur _ t _ hg) (C2 w g _))
end
end
section
open Go Go.RowKit
section
variable {P:Program} {ops:Array Oper} {md:Region.Mode} {Q:Exit->Act->World->Prop}
def Af(ops:Array Oper)(V:Nat->Value):Nat->Act->Act
 |0,a=>a
 |n+1,a=>(Af ops V n a).put ((ops[n]?).bind (·.dst)) (V n)
def upd(V:Nat->Value)(i:Nat)(v:Value):Nat->Value:=λj=>if j=i then v else V j
theorem put_put(a:Act)(d:Option Tmp)(u v:Value):(a.put d u).put d v=a.put d v:=by
 cases d<;>simp[Act.put]
theorem I6(V:Nat->Value)(i:Nat)(v:Value)(a:Act):∀n,n<=i->Af ops (upd V i v) n a=Af ops V n a
 |0,_=>rfl
 |n+1,h=>by
  have e:upd V i v n=V n:=by simp[upd];omega
  simp only[Af,e,I6 V i v a n (by omega)]
def DY(ops:Array Oper)(n:Nat):Bool:=
 (List.range n).all λj=>(List.range j).all λi=>match (ops[i]?).bind (·.dst) with
  |some d=>(ops[j]?).bind (·.dst)!=some d
  |none=>true
theorem FV{n:Nat}(h:DY ops n=true){i j:Nat}(hij:i<j)(hj:j<n):∀d,(ops[i]?).bind (·.dst)=some d->(ops[j]?).bind (·.dst)≠some d:=by
 intro d hd;have h1:=List.all_eq_true.1 (List.all_eq_true.1 h j (List.mem_range.2 hj)) i (List.mem_range.2 hij);rw[hd]at h1
 simpa using h1
theorem DI{V:Nat->Value}{i:Nat}{v:Value}{a:Act}:∀{n:Nat},DY ops n=true->i<n->(Af ops V n a).put ((ops[i]?).bind (·.dst)) v=Af ops (upd V i v) n a
 |0,_,h=>absurd h (by omega)
 |n+1,ho,h=>by
  have ho':DY ops n=true:=by
   unfold DY at ho ⊢;refine List.all_eq_true.2 λj hj=>List.all_eq_true.1 ho j (List.mem_range.2 (by have:=List.mem_range.1 hj;omega))
  by_cases hi:i=n
  ·subst hi
   simp only[Af,put_put,I6 V i v a i (AG _)];simp[upd]
  ·have e:upd V i v n=V n:=by simp[upd];omega
   simp only[Af,e];rw[<-DI (V:=V) (i:=i) (v:=v) (a:=a) ho' (by omega)];exact(Act.put_comm _ _ _ (FV ho (by omega) (by omega))).symm
theorem C0(a:Act)(n:Nat):Af ops (λj=>match (ops[j]?).bind (·.dst) with|some d=>a.tmps.getD d undef|none=>undef) n a=a:=by
 induction n with
 |zero=>rfl
 |succ n ih=>
  simp only[Af,ih]
  cases (ops[n]?).bind (·.dst) with
  |none=>rfl
  |some d=>
   simp only[Act.put]
   congr 1
   apply Array.ext
   ·simp
   ·intro i h1 h2
    by_cases hid:d=i
    ·subst hid;simp[h2]
    ·rw[Array.getElem_setIfInBounds_ne (h:=hid)]
def BW(n:Nat)(listed:Array Bool):Nat:=(List.range n).countP λi=>!listed.getD i true
theorem Ja(p:Nat->Bool)(i:Nat)(hp:p i=true):∀l:List Nat,l.Nodup->i∈l->l.countP p=l.countP (λj=>p j&&j !=i)+1
 |[],_,h=>by cases h
 |x::l,hn,h=>by
  rw[List.nodup_cons]at hn
  by_cases hx:x=i
  ·subst hx
   have:l.countP (λj=>p j&&j !=x)=l.countP p:=by
    refine List.countP_congr λj hj=>?_
    have:j≠x:=λe=>hn.1 (e▸hj)
    simp[this]
   rw[List.countP_cons,List.countP_cons,this];simp[hp]
  ·have hm:i∈l:=by rcases List.mem_cons.1 h with h|h;exact absurd h.symm hx;exact h
   have ih:=Ja p i hp l hn.2 hm;rw[List.countP_cons,List.countP_cons,ih];have:(x !=i)=true:=by simpa using hx
   rw[this,Bool.and_true];omega
theorem DL{n i:Nat}{listed:Array Bool}(hi:i<n)(hs:i<listed.size)(hu:listed.getD i true=false):BW n listed=BW n (listed.setIfInBounds i true)+1:=by
 unfold BW;rw[Ja _ i (by simp only[hu];rfl) _ List.nodup_range (List.mem_range.2 hi)]
 congr 1
 refine List.countP_congr λj hj=>?_
 by_cases hji:j=i
 ·subst hji
  have:(listed.setIfInBounds j true).getD j true=true:=by simp[hs]
  simp
 ·rw[getD_set_ne true (Ne.symm hji)]
  simp[hji]
def Dx(md:Region.Mode)(ops:Array Oper)(n:Nat):Bool:=
 (List.range n).all λi=>match ops[i]? with
  |some o=>o.after.all λe=>!Region.binds md e||decide (e.on<i)
  |none=>false
def Bp(ops:Array Oper)(n:Nat):Array Bool:=Array.ofFn (n:=ops.size) λi=>decide (i.val<n)
theorem Cd{n:Nat}{listed:Array Bool}(inv:HeadInv md ops n listed)(hall:∀i,i<n->listed.getD i true=true):listed=Bp ops n:=by
 apply Array.ext
 ·simp[Bp,inv.size]
 ·intro i h1 h2
  simp only[Bp,Array.getElem_ofFn]
  by_cases hi:i<n
  ·have:=hall i hi
   simp[h1]at this;simp[this,hi]
  ·have:=inv.tail i (by omega) (by rw[<-inv.size];exact h1)
   simp[h1]at this;simp[this,hi]
theorem C3{n:Nat}{listed:Array Bool}(hdB:Dx md ops n=true)(inv:HeadInv md ops n listed):∀(i:Nat),i<n->listed.getD i true=false->Region.ready md ops listed≠[]:=by
 intro i
 induction i using Nat.strongRecOn with
 |_ i ih=>
  intro hi hu;have h1:=List.all_eq_true.1 hdB i (List.mem_range.2 hi)
  cases ho:ops[i]? with
  |none=>rw[ho]at h1;cases h1
  |some o=>
   rw[ho]at h1
   by_cases hall:∀e∈o.after,Region.binds md e=true->listed.getD e.on false=true
   ·have:i∈Region.ready md ops listed:=mem_ready.2 ⟨hu,o,ho,hall⟩
    intro h;rw[h]at this;cases this
   ·simp only[Classical.not_forall]at hall
    obtain⟨e,he,hb,hl⟩:=hall;have h2:=Array.all_eq_true'.1 h1 e he;rw[hb]at h2;have h3:e.on<i:=by simpa using h2
    refine ih e.on h3 (by omega) ?_
    have hsz:e.on<listed.size:=by
     have:=(AB ho).1;rw[inv.size];omega
    exact getD_in hsz (by simpa using hl)
def Ch(K:Act->World->Prop):Exit->Act->World->Prop
 | .normal,a,w=>K a w
 |_,_,_=>False
theorem Oper.wp_only{o:Oper}{a:Act}{w:World}{L K:Act->World->Prop}(hh:o.wp P a w L (Ch K)):o.wp P a w L Q:=by
 unfold Oper.wp at *;generalize (execOp a.eval o).run P w=r at *
 cases r with
 |ok n w'=>
  cases n<;>simp only[Oper.upon]at hh ⊢<;>
   first
    |exact hh
    |exact Calls.mono hh (λe w'' he=>by cases e<;>first|exact he|exact False.elim he|exact(let ⟨_,_,h⟩:=he;False.elim h))
 |halt x w'=>cases x<;>simp only[Oper.upon]at hh ⊢<;>first|exact hh|exact False.elim hh
theorem Ck{i:Nat}{o:Oper}{a:Act}{W:World}{K:Act->World->Prop}(hi:ops[i]?=some o)(h:wpList P ops (Ch K) [o] a W):wpOp P ops Q i K a W:=by
 unfold wpOp;simp only[hi];simp only[wpList]at h;split at h
 ·rename_i hw
  rw[if_pos hw];rcases h with h|⟨_,_,_,h2⟩
  ·exact .inl (Oper.wp_only (Go.Oper.wp_mono (λ_ _ h=>h) h))
  ·exact False.elim h2
 ·rename_i hw
  rw[if_neg hw];exact h
def Jh(P:Program)(ops:Array Oper)(a0:Act)(n:Nat)(w0:World)(S:Nat->Value->World->Prop)(i:Nat)(o:Oper)(T:Value->World->Prop):Prop:=
 ∀(V:Nat->Value) (W:World) (K:Act->World->Prop),Below w0.heap.size w0 W->(∀j,Region.waitsFor .any ops i j=true->S j (V j) W)->
  Hid (∀v W',Below W.heap.size W W'->T v W'->K ((Af ops V n a0).put o.dst v) W')->wpList P ops (Ch K) [o] (Af ops V n a0) W
def Jg(T:Value->World->Prop):Prop:=∀v W W',T v W->Below W.heap.size W W'->T v W'
theorem Id{n g:Nat}{S:Nat->Value->World->Prop}{w0:World}{a0:Act}
  (hw:∀listed,HeadInv .any ops n listed->∀i,i<n->listed.getD i true=false->∀t,n<=t->t∉Region.ready .any ops listed)
  (hn:n<=ops.size) (hdB:Dx .any ops n=true) (hd:DY ops n=true)
  (hst:∀j,Jg (S j))
  (hop:∀i o,i<n->ops[i]?=some o->Jh P ops a0 n w0 S i o (S i))
  (hlast:∀V W,Below w0.heap.size w0 W->(∀j,j<n->S j (V j) W)->wpAny P .any ops Q g (Bp ops n) (Af ops V n a0) W):
  ∀(m:Nat) (listed:Array Bool) (V:Nat->Value) (W:World),HeadInv .any ops n listed->BW n listed=m->Below w0.heap.size w0 W->(∀j,j<n->listed.getD j false=true->S j (V j) W)->
   wpAny P .any ops Q (m+g) listed (Af ops V n a0) W
 |0,listed,V,W,inv,hm,hb,hS=>by
  have hall:∀i,i<n->listed.getD i true=true:=by
   intro i hi;have:=List.countP_eq_zero.1 hm i (List.mem_range.2 hi)
   simpa using this
  rw[Cd inv hall,Nat.zero_add];refine hlast V W hb λj hj=>hS j hj ?_
  have:=hall j hj;have hjs:j<listed.size:=by rw[inv.size];omega
  simp[hjs]at this ⊢;exact this
 |m+1,listed,V,W,inv,hm,hb,hS=>by
  obtain⟨u,hu,hul⟩:∃u,u<n/\listed.getD u true=false:=by
   have:0<BW n listed:=by omega
   obtain⟨u,hu,hul⟩:=List.countP_pos_iff.1 this;exact⟨u,List.mem_range.1 hu,by simpa using hul⟩
  rw[show m+1+g=(m+g)+1 by omega];refine⟨λh0=>absurd h0 (C3 hdB inv u hu hul),λi hi=>?_⟩
  have hin:i<n:=by
   rcases Nat.lt_or_ge i n with h|h
   ·exact h
   ·exact absurd hi (hw listed inv u hu hul i h)
  obtain⟨hun,o,ho,hall⟩:=mem_ready.1 hi;refine Ck ho (hop i o hin ho V W _ hb (λj hj=>?_) λv W' hb' hs'=>?_)
  ·obtain⟨oj,hoj,e,he,hbd,hon⟩:=Region.waitsFor_spec hj
   have:oj=o:=Option.some.inj (hoj.symm.trans ho);subst this;have hl:=hall e he hbd;rw[hon]at hl
   have hlt:j<n:=by
    have h1:=List.all_eq_true.1 hdB i (List.mem_range.2 hin);rw[ho]at h1;have h2:=Array.all_eq_true'.1 h1 e he;rw[hbd]at h2;have h3:e.on<i:=by simpa using h2
    omega
   exact hS j hlt hl
  ·have hdst:o.dst=(ops[i]?).bind (·.dst):=by rw[ho];rfl
   rw[hdst,DI hd hin];have his:i<listed.size:=by rw[inv.size];exact(AB ho).1
   refine Id hw hn hdB hd hst hop hlast m _ _ W' (inv.set hi hin) (by have:=DL hin his hun;omega) (hb.trans ⟨hb'.os,hb'.tape,hb'.output,hb'.size,λk hk=>hb'.block k (AF hk hb.size)⟩) λj hj hl=>?_
   by_cases hji:j=i
   ·subst hji
    simpa [upd] using hs'
   ·rw[getD_set_ne false (Ne.symm hji)]at hl
    have:=hst j (V j) W W' (hS j hj hl) hb'
    simpa [upd,hji] using this
def Av(ops:Array Oper)(n:Nat):Bool:=
 decide (n<ops.size)&&Region.sinkB .any ops n&&Region.chainB .any ops n&&Dx .any ops n&&DY ops n&&Region.seqB .any ops (ops.size - n) n (Bp ops n)
theorem IZ{id:Nat}{a:Act}{w:World}{l:List Oper}(n:Nat)(S:Nat->Value->World->Prop)(hm:P.follows .mixedOrders=true)(hB:Av l.toArray n=true)
  (hst:∀j,Jg (S j)) (hop:∀i o,i<n->l.toArray[i]?=some o->Jh P l.toArray a n w S i o (S i))
  (hlast:∀V W,Below w.heap.size w W->(∀j,j<n->S j (V j) W)->wpList P l.toArray Q (l.drop n) (Af l.toArray V n a) W):(Code.region id l.toArray true).wp P Q a w:=by
 simp only[Av,Bool.and_eq_true,decide_eq_true_eq]at hB;obtain⟨⟨⟨⟨⟨hn,hs⟩,hc⟩,hdB⟩,hd⟩,hseq⟩:=hB;refine wp_region_any hm ?_
 have inv0:HeadInv .any l.toArray n (Array.replicate l.toArray.size false):=
  ⟨by simp,λj oj _ hl=>(by rw[getD_replicate_false]at hl;cases hl),λt _ ht=>getD_in (by simpa using ht) (getD_replicate_false _ _)⟩
 have hb0:Below w.heap.size w {w with drawn:=w.drawn+1}:=⟨rfl,rfl,rfl,AG _,λ_ _=>rfl⟩
 have hleft:BW n (Array.replicate l.toArray.size false)=n:=by
  unfold BW;rw[List.countP_eq_length.2]
  ·simp
  ·intro i hi
   have:i<l.toArray.size:=by have:=List.mem_range.1 hi;omega
   rw[getD_in (by simpa using this) (getD_replicate_false _ _)];rfl
 have H:=Id (P:=P) (Q:=Q) (g:=l.toArray.size - n) (S:=S) (w0:=w) (a0:=a) (λlisted inv i hi hu t ht=>tail_waits hs hc hn inv _ i rfl hi hu t ht) (by omega) hdB hd hst hop
  (λV W hb hS=>by
   have hdl:(l.drop n).length=l.toArray.size - n:=by simp
   have:=wpAny_of_seq (md:=.any) (Q':=Q) (l.drop n) n (Bp l.toArray n) _ W (λj=>by simp[List.getElem?_drop]) (by rw[hdl];exact hseq) (hlast V W hb hS)
   rwa [hdl]at this)
  n _ (λj=>match (l.toArray[j]?).bind (·.dst) with|some d=>a.tmps.getD d undef|none=>undef) {w with drawn:=w.drawn+1} inv0 hleft hb0 (λj _ hl=>by rw[getD_replicate_false]at hl;cases hl)
 rw[C0,show n+(l.toArray.size - n)=l.toArray.size by omega]at H;exact H
def G4(S:Nat->Value->World->Prop)(i:Nat)(T:Value->World->Prop):Nat->Value->World->Prop:=λj=>match Nat.beq j i with
 |true=>T
 |false=>S j
def Dv(P:Program)(ops:Array Oper)(a0:Act)(n:Nat)(w0:World)(L:(Nat->Value->World->Prop)->Prop):List Oper->Nat->(Nat->Value->World->Prop)->Prop
 |[],_,S=>L S
 |o::rest,i,S=>∃T,Jg T/\Jh P ops a0 n w0 S i o T/\Dv P ops a0 n w0 L rest (i+1) (G4 S i T)
theorem Aq{a0:Act}{n:Nat}{w0:World}{L:(Nat->Value->World->Prop)->Prop}{o:Oper}{rest:List Oper}{i:Nat}{S:Nat->Value->World->Prop}(T:Value->World->Prop)(hT:Jg T)
  (h:∀(V:Nat->Value) (W:World) (K:Act->World->Prop) (A:Act),Below w0.heap.size w0 W->(∀j,Region.waitsFor .any ops i j=true->S j (V j) W)->Hid (A=Af ops V n a0)->
   Hid (∀v W',Below W.heap.size W W'->T v W'->K (A.put o.dst v) W')->wpList P ops (Ch K) [o] A W)
  (hr:Dv P ops a0 n w0 L rest (i+1) (G4 S i T)):Dv P ops a0 n w0 L (o::rest) i S:=⟨T,hT,λV W K hb hd hK=>h V W K _ hb hd rfl hK,hr⟩
theorem AQ{a0:Act}{n:Nat}{w0:World}{L:(Nat->Value->World->Prop)->Prop}{o:Oper}{rest:List Oper}{i:Nat}{S:Nat->Value->World->Prop}{u:Value}
  (h:∀(V:Nat->Value) (W:World) (K:Act->World->Prop) (A:Act),Below w0.heap.size w0 W->(∀j,Region.waitsFor .any ops i j=true->S j (V j) W)->Hid (A=Af ops V n a0)->
   Hid (∀W',Below W.heap.size W W'->K (A.put o.dst u) W')->wpList P ops (Ch K) [o] A W)
  (hr:Dv P ops a0 n w0 L rest (i+1) (G4 S i λv _=>v=u)):Dv P ops a0 n w0 L (o::rest) i S:=
 ⟨λv _=>v=u,λ_ _ _ h _=>h,λV W K hb hd hK=>h V W K _ hb hd rfl λW' hb'=>hK.out u W' hb' rfl,hr⟩
theorem Dj(S:Nat->Value->World->Prop)(i:Nat)(T:Value->World->Prop):G4 S i T i=T:=by simp[G4]
theorem Cx(S:Nat->Value->World->Prop){i j:Nat}(T:Value->World->Prop)(h:j≠i):G4 S i T j=S j:=by
 have:Nat.beq j i=false:=by
  cases hb:Nat.beq j i with
  |false=>rfl
  |true=>exact absurd (Nat.eq_of_beq_eq_true hb) h
 simp[G4,this]
theorem Gp{a0:Act}{n:Nat}{w0:World}{L:(Nat->Value->World->Prop)->Prop}(hdB:Dx .any ops n=true):∀(l:List Oper) (k:Nat) (S:Nat->Value->World->Prop),k+l.length=n->(∀j,j<l.length->l[j]?=ops[k+j]?)->
  (∀j,Jg (S j))->(∀i o,i<k->ops[i]?=some o->Jh P ops a0 n w0 S i o (S i))->Dv P ops a0 n w0 L l k S->
  ∃S',(∀j,Jg (S' j))/\(∀i o,i<n->ops[i]?=some o->Jh P ops a0 n w0 S' i o (S' i))/\L S'
 |[],k,S,hk,_,hl,hop,h=>⟨S,hl,by rw[show n=k by simpa using hk.symm];rw[show n=k by simpa using hk.symm]at hop;exact hop,h⟩
 |o::l,k,S,hk,hs,hl,hop,⟨T,hT,ho,h⟩=>by
  have h0:ops[k]?=some o:=by simpa using (hs 0 (by simp)).symm
  have dep:∀i j,i<n->Region.waitsFor .any ops i j=true->j<i:=λi j hi hj=>by
   obtain⟨oj,hoj,e,he,hbd,hon⟩:=Region.waitsFor_spec hj;have h1:=List.all_eq_true.1 hdB i (List.mem_range.2 hi);rw[hoj]at h1;have h2:=Array.all_eq_true'.1 h1 e he;rw[hbd]at h2;have h3:e.on<i:=by simpa using h2
   omega
  have hkn:k<n:=by simp only[List.length_cons]at hk;omega
  refine Gp hdB l (k+1) _ (by simp only[List.length_cons]at hk;omega) (λj hj=>by have:=hs (j+1) (by simp;omega);simpa [Nat.add_assoc,Nat.add_comm 1 j] using this) (λj=>?_) (λi o' hi hi'=>?_) h
  ·by_cases e:j=k
   ·subst e;rw[Dj];exact hT
   ·rw[Cx _ _ e];exact hl j
  ·by_cases e:i=k
   ·subst e
    have:o'=o:=Option.some.inj (hi'.symm.trans h0);subst this;rw[Dj];exact λV W K hb hd hK=>ho V W K hb (λj hj=>by have:=hd j hj;rwa [Cx _ _ (by have:=dep i j hkn hj;omega)]at this) hK
   ·rw[Cx _ _ e]
    exact λV W K hb hd hK=>hop i o' (by omega) hi' V W K hb (λj hj=>by have:=hd j hj;rwa [Cx _ _ (by have:=dep i j (by omega) hj;omega)]at this) hK
theorem An{id:Nat}{a:Act}{w:World}{l:List Oper}(n:Nat)(hm:P.follows .mixedOrders=true)(hB:Av l.toArray n=true)
  (h:Dv P l.toArray a n w (λS=>∀V W A,Below w.heap.size w W->(∀j,j<n->S j (V j) W)->Hid (A=Af l.toArray V n a)->wpList P l.toArray Q (l.drop n) A W) (l.take n) 0 λ_ _ _=>True):(Code.region id l.toArray true).wp P Q a w:=by
 have hB':=hB;simp only[Av,Bool.and_eq_true,decide_eq_true_eq]at hB';obtain⟨⟨⟨⟨⟨hn,_⟩,_⟩,hdB⟩,_⟩,_⟩:=hB';have hn':n<l.length:=by simpa using hn
 obtain⟨S,h1,h2,h3⟩:=Gp hdB (l.take n) 0 _ (by simp;omega) (λj hj=>by
  have:j<n:=by simp at hj;omega
  simp[this]) (λ_ _ _ _ _ _=>trivial) (λi o hi=>absurd hi (by omega)) h
 exact IZ n S hm hB h1 h2 λV W hb hS=>h3 V W _ hb hS rfl
end
theorem pA:(∀(ops:Array Oper) (V:Nat->Value) (a:Act),Af ops V 0 a=a)/\(∀(ops:Array Oper) (V:Nat->Value) (n:Nat) (a:Act),Af ops V (n+1) a=(Af ops V n a).put ((ops[n]?).bind (·.dst)) (V n))/\
 (∀(l:List Oper) (i:Nat),l.toArray[i]?=l[i]?)/\(∀(a:Oper) (l:List Oper) (i:Nat),(a::l)[i+1]?=l[i]?)/\(∀(a:Oper) (l:List Oper),(a::l)[0]?=some a)/\(∀(a:Oper) (f:Oper->Option Tmp),(some a).bind f=f a)/\
 (∀(t:Array Value) (d:List Deferred) (i:Tmp) (v:Value),Act.put ⟨t,d⟩ (some i) v=⟨t.setIfInBounds i v,d⟩)/\(∀(a:Act) (v:Value),Act.put a none v=a)/\
 (∀(l:List Value) (i:Nat) (a:Value),l.toArray.setIfInBounds i a=(l.set i a).toArray)/\(∀(x:Value) (xs:List Value) (n:Nat) (a:Value),(x::xs).set (n+1) a=x::xs.set n a)/\(∀(x:Value) (xs:List Value) (a:Value),(x::xs).set 0 a=a::xs):=
 ⟨λ_ _ _=>rfl,λ_ _ _ _=>rfl,λ_ _=>by simp,λ_ _ _=>by simp,λ_ _=>by simp,λ_ _=>rfl,λ_ _ _ _=>rfl,λ_ _=>rfl,λ_ _ _=>by simp,λ_ _ _ _=>rfl,λ_ _ _=>rfl⟩
theorem brf{N:Nat}{w:World}:Below N w w:=Below.refl N w
section
variable {P:Program} {ops:Array Oper} {Q:Exit->Act->World->Prop}
def EL(ops:Array Oper):Nat->Nat->Nat->Bool
 |0,i,t=>Region.waitsFor .any ops i t
 |f+1,i,t=>Region.waitsFor .any ops i t||(List.range ops.size).any λm=>Region.waitsFor .any ops i m&&EL ops f m t
def BI(needs:List (List Nat))(i:Nat):List Nat:=needs.getD i []
theorem C5{n:Nat}{listed:Array Bool}(inv:HeadInv .any ops n listed){m t:Nat}(hm:listed.getD m false=true)(h:Region.waitsFor .any ops m t=true):listed.getD t false=true:=by
 obtain⟨o,ho,e,he,hb,hon⟩:=Region.waitsFor_spec h;have:=inv.closed m o ho hm e he hb
 rwa [hon]at this
theorem Df{n:Nat}{listed:Array Bool}(inv:HeadInv .any ops n listed):∀(f m t:Nat),listed.getD m false=true->EL ops f m t=true->listed.getD t false=true
 |0,m,t,hm,h=>C5 inv hm h
 |f+1,m,t,hm,h=>by
  unfold EL at h;rcases Bool.or_eq_true_iff.1 h with h|h
  ·exact C5 inv hm h
  ·obtain⟨q,_,hq⟩:=List.any_eq_true.1 h
   rw[Bool.and_eq_true]at hq;exact Df inv f q t (C5 inv hm hq.1) hq.2
theorem FS{n:Nat}{listed:Array Bool}(inv:HeadInv .any ops n listed){i:Nat}(hr:∀j,Region.waitsFor .any ops i j=true->listed.getD j false=true):∀(f t:Nat),EL ops f i t=true->listed.getD t false=true
 |0,t,h=>hr t h
 |f+1,t,h=>by
  unfold EL at h;rcases Bool.or_eq_true_iff.1 h with h|h
  ·exact hr t h
  ·obtain⟨q,_,hq⟩:=List.any_eq_true.1 h
   rw[Bool.and_eq_true]at hq;exact Df inv f q t (hr q hq.1) hq.2
def Kl(n:Nat)(needs:List (List Nat))(tailN:List Nat)(listed:Array Bool)(j:Nat):Prop:=tailN.contains j=true\/∃t,t<n/\(BI needs t).contains j=true/\listed.getD t false=false
section
variable {a0:Act} {n:Nat} {w0:World} {needs:List (List Nat)} {own vary:List Nat} {L:(Nat->Value->World->Prop)->Prop} {o:Oper} {rest:List Oper} {i:Nat} {S:Nat->Value->World->Prop}
end
end
end
section
open Go.RowKit
section
variable {P:Program}
theorem AU{ops:Array Oper}{rest:List Oper}{o:Oper}{a:Act}{w:World}{Q:Exit->Act->World->Prop}(hgd:o.guard=none)(t:TypeId)(x:Operand)(lo hi mx:Option Operand)(ho:o.op=.slice t x lo hi mx)
  (ht:P.underlying t=some (.slice (P.elem t))) (size:Nat) (hsz:(P.info? (P.elem t)).map (·.size)=some size) (g off n cap l h m:Nat) (hx:a.eval x=.slice (some ⟨g,off,none⟩) n cap) (lv hv mv:Option Value) (hlv:lo.map a.eval=lv) (hhv:hi.map a.eval=hv) (hmv:mx.map a.eval=mv)
  (hrun:∀w:World,(Instr.slice t (.slice (some ⟨g,off,none⟩) n cap) lv hv mv).run P w=((sizeOf (P.elem t)).run P w).andThen λs w=>.ok (sliced (some ⟨g,off,none⟩) l h m s) w)
  (hk:∀off',(off'=off+l*size\/m=l)->wpList P ops Q rest (a.put o.dst (.slice (some ⟨g,off',none⟩) (h - l) (m - l))) w):wpList P ops Q (o::rest) a w:=by
 refine wpList_plain hgd λK hK=>?_
 obtain⟨i,hi',his⟩:∃i,P.info? (P.elem t)=some i/\i.size=size:=by
  cases hq:P.info? (P.elem t) with
  |none=>simp[hq]at hsz
  |some i=>exact⟨i,rfl,by simpa [hq] using hsz⟩
 have hs:(sizeOf (P.elem t)).run P w=.ok size w:=by simp[sizeOf,typeInfo,hi',his]
 have hrun:=hrun w;rw[hs]at hrun;simp only[Result.andThen_ok]at hrun;unfold Oper.wp execOp;simp only[ho,hx,hlv,hhv,hmv,run_sliceAt_slice w t _ _ _ _ ht,Sem.run_bind,hrun,Result.andThen_ok,Sem.run_pure];unfold sliced
 by_cases hm:m=l
 ·rw[if_pos hm]
  exact hK _ _ (hk off (.inr hm))
 ·rw[if_neg hm]
  rw[Option.map_some,Addr.add_lit];exact hK _ _ (hk (off+l*size) (.inl rfl))
end
end
end Go.Proofs.YtbceafpodamnfaaGreat
