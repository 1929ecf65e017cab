import Derived.WalkKit
import Derived.Test.YtbceafpodamnfaaChecked
import GoSem.Claim
import GoSem.ClaimJoined
import GoSem.ClaimMapViews
import Derived.JoinedTies
import Derived.KernelRfl
import Derived.RowKit
import Derived.WalkSpells
import Derived.WalkLawsBesides
import Derived.Laws.CopyOwn
import Derived.Lib.QuietBelow
import Derived.BigQuiet
set_option linter.all false
set_option maxHeartbeats 4000000
namespace Go.Proofs.Ytbceafpodamnfaa
section
open Go.RowKit
theorem AB{α:Type}{xs:Array α}{i:Nat}{b:α}:xs[i]?=some b->∃h:i<xs.size,xs[i]=b:=Array.getElem?_eq_some_iff.1
theorem AC{α:Type}{l:List α}{i:Nat}{b:α}:l[i]?=some b->∃h:i<l.length,l[i]=b:=List.getElem?_eq_some_iff.1
theorem AD{n m:Nat}:Nat.ble n m=true->n<=m:=Nat.le_of_ble_eq_true
theorem AE{α:Type}{l:List α}{i:Nat}{a:α}:l[i]?=some a->a∈l:=List.mem_of_getElem?
theorem AF{n m k:Nat}:n<m->m<=k->n<k:=Nat.lt_of_lt_of_le
theorem AG(n:Nat):n<=n:=Nat.le_refl n
theorem AH{n m k:Nat}:n<=m->m<=k->n<=k:=Nat.le_trans
theorem AI{a:Int}:0<=a->∃n:Nat,a=n:=Int.eq_ofNat_of_zero_le
theorem AJ(n:Nat):0<=n:=Nat.zero_le n
structure Svc where
 name:ByteArray
 version:Int
 gone:Bool
 image:Int
 want:Int
 down:Int
 over:Int
 next:Int
 per:Int
 least:Int
 most:Int
 load:Int
 cool:Int
structure Cp where
 service:ByteArray
 number:Int
 version:Int
 image:Int
 state:Int
 ending:Bool
 berth:ByteArray
structure Bt where
 name:ByteArray
 drain:Bool
abbrev svV (s:Svc):Array Value:=#[.string s.name,.int .i64 s.version,.bool s.gone,.int .i64 s.image,.int .i64 s.want,.int .i64 s.down,.int .i64 s.over,.int .i64 s.next,.int .i64 s.per,.int .i64 s.least,.int .i64 s.most,.int .i64 s.load,.int .i64 s.cool]
attribute [local simp] svV
attribute [local go_sem] svV
abbrev cpV (c:Cp):Array Value:=#[.string c.service,.int .i64 c.number,.int .i64 c.version,.int .i64 c.image,.int .i64 c.state,.bool c.ending,.string c.berth]
attribute [local simp] cpV
attribute [local go_sem] cpV
abbrev zbV:Array Value:=#[.int .i64 0,.slice none 0 0,.slice none 0 0,.slice none 0 0]
attribute [local simp] zbV
attribute [local go_sem] zbV
abbrev czV:Array Value:=#[.string ⟨#[]⟩,.int .i64 0,.int .i64 0,.int .i64 0,.int .i64 0,.bool false,.string ⟨#[]⟩]
attribute [local simp] czV
attribute [local go_sem] czV
abbrev aaV (n:ByteArray) (v a b c:Int) (x:Bool) (y:Value) (z:Bool):Array Value:=#[.string n,.int .i64 v,.int .i64 a,.int .i64 b,.int .i64 c,.bool x,y,.bool z]
attribute [local simp] aaV
attribute [local go_sem] aaV
abbrev ctZ:Array Value:=#[.int .i64 0,.int .i64 0,.int .i64 0,.int .i64 0,.int .i64 0]
attribute [local simp] ctZ
attribute [local go_sem] ctZ
abbrev ad (g:Nat):Option Addr:=some ⟨g,0,none⟩
attribute [local simp] ad
attribute [local go_sem] ad
abbrev Bl (w:World) (b:Nat) (cs:Array Value) (t:TypeId):Prop:=w.heap[b]?=some (.cells cs t (0,0))
def SvcAt(w:World)(b o:Nat)(s:Svc):Prop:=w.cell? ⟨b,o,none⟩=some (.string s.name)/\w.cell? ⟨b,o+1,none⟩=some (.int .i64 s.version)/\w.cell? ⟨b,o+2,none⟩=some (.bool s.gone)/\w.cell? ⟨b,o+3,none⟩=some (.int .i64 s.image)/\w.cell? ⟨b,o+4,none⟩=some (.int .i64 s.want)/\w.cell? ⟨b,o+5,none⟩=some (.int .i64 s.down)/\w.cell? ⟨b,o+6,none⟩=some (.int .i64 s.over)/\w.cell? ⟨b,o+7,none⟩=some (.int .i64 s.next)/\w.cell? ⟨b,o+8,none⟩=some (.int .i64 s.per)/\w.cell? ⟨b,o+9,none⟩=some (.int .i64 s.least)/\w.cell? ⟨b,o+10,none⟩=some (.int .i64 s.most)/\w.cell? ⟨b,o+11,none⟩=some (.int .i64 s.load)/\w.cell? ⟨b,o+12,none⟩=some (.int .i64 s.cool)
def CpAt(w:World)(b o:Nat)(s:Cp):Prop:=w.cell? ⟨b,o,none⟩=some (.string s.service)/\w.cell? ⟨b,o+1,none⟩=some (.int .i64 s.number)/\w.cell? ⟨b,o+2,none⟩=some (.int .i64 s.version)/\w.cell? ⟨b,o+3,none⟩=some (.int .i64 s.image)/\w.cell? ⟨b,o+4,none⟩=some (.int .i64 s.state)/\w.cell? ⟨b,o+5,none⟩=some (.bool s.ending)/\w.cell? ⟨b,o+6,none⟩=some (.string s.berth)
def BtAt(w:World)(b o:Nat)(s:Bt):Prop:=w.cell? ⟨b,o,none⟩=some (.string s.name)/\w.cell? ⟨b,o+1,none⟩=some (.bool s.drain)
def SvcsAt(w:World)(b off:Nat)(l:List Svc):Prop:=∀i s,l[i]?=some s->SvcAt w b (off+i*13) s
def KJ(w:World)(b off:Nat)(l:List Cp):Prop:=∀i s,l[i]?=some s->CpAt w b (off+i*7) s
def BtsAt(w:World)(b off:Nat)(l:List Bt):Prop:=∀i s,l[i]?=some s->BtAt w b (off+i*2) s
theorem SvcAt.below{B:Nat}{w w':World}{b o:Nat}{s:Svc}(h:SvcAt w b o s)(hb:Below B w w')(hB:b<B):SvcAt w' b o s:=by
 unfold SvcAt at *;simp only[λo=>hb.cell (p:=⟨b,o,none⟩) hB];exact h
theorem CpAt.below{B:Nat}{w w':World}{b o:Nat}{s:Cp}(h:CpAt w b o s)(hb:Below B w w')(hB:b<B):CpAt w' b o s:=by
 unfold CpAt at *;simp only[λo=>hb.cell (p:=⟨b,o,none⟩) hB];exact h
theorem BtAt.below{B:Nat}{w w':World}{b o:Nat}{s:Bt}(h:BtAt w b o s)(hb:Below B w w')(hB:b<B):BtAt w' b o s:=by
 unfold BtAt at *;simp only[λo=>hb.cell (p:=⟨b,o,none⟩) hB];exact h
theorem SvcAt.blk{w w':World}{b o:Nat}{s:Svc}(h:SvcAt w b o s)(hb:w'.heap[b]?=w.heap[b]?):SvcAt w' b o s:=by
 unfold SvcAt at *;simp only[λo=>World.cell?_of_block (w:=w) (w':=w') (a:=⟨b,o,none⟩) hb];exact h
def inB(n lo hi:Int):Bool:=decide (lo<=n)&&decide (n<=hi)
def Gm(c:Int):Bool:=(decide (97<=c)&&decide (c<=122))||((decide (48<=c)&&decide (c<=57))||(c==45))
def Dh(s:ByteArray):Bool:=inB s.size 1 20&&s.data.toList.all λc=>Gm c.toNat
def Od(s:Svc):Bool:=if s.per=0 then s.least==0&&s.most==0&&s.load==0&&s.cool==0 else inB s.per 0 1000000&&inB s.load 0 1000000&&inB s.least 0 10&&inB s.most s.least 10&&inB s.cool 0 3
def KM(now:Int)(s:Svc):Bool:=Dh s.name&&inB s.version 1 now&&inB s.image 1 1000000&&inB s.next 1 1000000&&inB s.want 0 10&&inB s.down 0 10&&inB s.over 0 10&& !(s.down+s.over==0)&&Od s
theorem ID(s:ByteArray):Dh s=true↔inB s.size 1 20=true/\∀i (h:i<s.size),Gm (s[i]'h).toNat=true:=by
 unfold Dh;rw[Bool.and_eq_true,List.all_eq_true];refine and_congr_right λ_=>⟨λh i hi=>h _ ?_,λh c hc=>?_⟩
 ·exact Array.getElem_mem_toList (by simpa using hi)
 ·obtain⟨i,hi,rfl⟩:=List.mem_iff_getElem.1 hc
  exact h i (by simpa using hi)
theorem MG(s:ByteArray)(i:Nat)(h:i<s.size)(hb:Gm (s[i]'h).toNat=false):Dh s=false:=by
 cases hn:Dh s with
 |false=>rfl
 |true=>rw[((ID s).1 hn).2 i h]at hb;cases hb
theorem Jf(s:ByteArray)(h:inB s.size 1 20=false):Dh s=false:=by
 unfold Dh;rw[h];rfl
theorem AS{a b:Bool}(h:a=b):Ending.returned (.bool a)=.returned (.bool b):=by rw[h]
theorem D8{k:IntKind}{a b:Int}(h:a=b):Ending.returned (.int k a)=.returned (.int k b):=by rw[h]
theorem B5(n lo hi:Int)(w:World):
  Calls Try.prog 29 #[.int .i64 n,.int .i64 lo,.int .i64 hi] w λe w'=>e=.returned (.bool (inB n lo hi))/\w'=w:=by
 go_enter Try.func29,Try.ntmps29;go_wp2
 all_goals
  go_ret;exact⟨AS (by rw[Bool.eq_iff_iff];simp[inB];try omega),rfl⟩
section
variable {P:Program}
theorem Fd(w:World)(g k:Nat)(cs:Array Value)(h:k≠g):(w.setRow g cs).heap[k]?=w.heap[k]?:=by
 unfold World.setRow;simp only[Array.getElem?_modify];rw[if_neg (by omega)]
theorem Ey(w:World)(g:Nat)(cs:Array Value):(w.setRow g cs).heap.size=w.heap.size:=by
 unfold World.setRow;simp
theorem below_setRow'(w:World)(g:Nat)(cs:Array Value):Below g w (w.setRow g cs):=
 ⟨rfl,rfl,rfl,by rw[Ey];exact AG _,λk hk=>Fd w g k cs (by omega)⟩
theorem Fw(w:World)(g off:Nat)(t ty:TypeId)(cur cells:Array Value)(hg:w.heap[g]?=some (.cells cur t (0,0)))(hi:(P.info? ty).map (·.size)=some cells.size)
  (hfit:off+cells.size<=cur.size) (h1:cells.all (·.oneCell')=true):
  (storeVar ty ⟨g,off,none⟩ (.agg cells)).run P w=.ok () (w.setRow g (splice cur.toList off cells.toList).toArray):=by
 have:=run_storeCells_at P g off t cells.toList 0 cur w hg (by simpa using hfit) (λv hv=>(Array.all_eq_true_iff_forall_mem.1 h1) v (by simpa using hv))
 cases hq:P.info? ty with
 |none=>simp[hq]at hi
 |some i=>
  have hs:cells.size=i.size:=by simp[hq]at hi;omega
  simp only[Nat.add_zero,List.append_assoc]at this;simp[storeVar,sizeOf,typeInfo,hq,Value.cells,hs,this,splice]
theorem CD{ops:Array Oper}{rest:List Oper}{o:Oper}{a:Act}{w:World}{Q:Exit->Act->World->Prop}(hgd:o.guard=none)(ty:TypeId)(x y:Operand)(ho:o.op=.store ty x y)
  (g off:Nat) (cells:Array Value) (hx:a.eval x=.pointer (some ⟨g,off,none⟩)) (hy:a.eval y=.agg cells) (t:TypeId) (cur:Array Value) (hg:w.heap[g]?=some (.cells cur t (0,0)))
  (hi:(P.info? ty).map (·.size)=some cells.size) (hfit:off+cells.size<=cur.size) (h1:cells.all (·.oneCell')=true)
  (h:∀w',Hid (w'.heap[g]?=some (.cells (splice cur.toList off cells.toList).toArray t (0,0)))->Hid (w'.heap.size=w.heap.size)->Below g w w'->wpList P ops Q rest (a.put o.dst undef) w'):wpList P ops Q (o::rest) a w:=by
 refine wpList_plain hgd λK hK=>?_
 unfold Oper.wp execOp;simp only[ho,hx,hy,Instr.storeAt,Instr.sureAddr,Sem.run_bind,Sem.run_pure,Result.andThen_ok,Fw w g off t ty cur cells hg hi hfit h1];exact hK _ _ (h _ (setRow_heap w g cur _ t _ hg) (Ey w g _) (below_setRow' w g _))
end
theorem AK{w:World}{b:Nat}{cs:Array Value}{t:TypeId}{fr:Nat × Nat}(h:w.heap[b]?=some (.cells cs t fr))(o:Nat){v:Value}(hv:cs[o]?=some v):w.cell? ⟨b,o,none⟩=some v:=by
 rw[cell_of_row w b o cs t fr h];exact hv
theorem c4{w:World}{b:Nat}{x y z t:Value}{ty:TypeId}{fr:Nat × Nat}(h:w.heap[b]?=some (.cells #[x,y,z,t] ty fr)):w.cell? ⟨b,0,none⟩=some x/\w.cell? ⟨b,1,none⟩=some y/\w.cell? ⟨b,2,none⟩=some z/\w.cell? ⟨b,3,none⟩=some t:=⟨AK h 0 rfl,AK h 1 rfl,AK h 2 rfl,AK h 3 rfl⟩
theorem AZ{w:World}{b:Nat}{cs:Array Value}{t:TypeId}(h:w.heap[b]?=some (.cells cs t (0,0)))(o:Nat):w.frozen? ⟨b,o,none⟩=false:=by
 simp[World.frozen?,h]
theorem BM{w:World}{b:Nat}{cs:Array Value}{t:TypeId}(h:w.heap[b]?=some (.cells cs t (0,0)))(o:Nat)(v:Value):(w.setCell ⟨b,o,none⟩ v).heap[b]?=some (.cells (cs.setIfInBounds o v) t (0,0)):=by
 rw[setCell_eq_setRow w b o cs t (0,0) v h];exact setRow_heap w b cs _ t _ h
theorem BQ(w:World)(a:Addr)(v:Value):(w.setCell a v).heap.size=w.heap.size:=by simp[World.setCell]
theorem CR(w:World)(A B C:Obj):(((w.alloc A).alloc B).alloc C).heap[w.heap.size]?=some A/\(((w.alloc A).alloc B).alloc C).heap[w.heap.size+1]?=some B/\(((w.alloc A).alloc B).alloc C).heap[w.heap.size+1+1]?=some C/\(((w.alloc A).alloc B).alloc C).heap.size=w.heap.size+1+1+1:=by
 have e:(((w.alloc A).alloc B).alloc C).heap=((w.heap.push A).push B).push C:=rfl;rw[e];refine⟨?_,?_,?_,by simp⟩
 ·rw[Array.getElem?_push,if_neg (by simp;omega),Array.getElem?_push,if_neg (by simp),Array.getElem?_push,if_pos rfl]
 ·rw[Array.getElem?_push,if_neg (by simp),Array.getElem?_push,if_pos (by simp)]
 ·rw[Array.getElem?_push,if_pos (by simp)]
def Svc.cells(s:Svc):List Value:=((svV s):Array Value).toList
def Cp.cells(s:Cp):List Value:=((cpV s):Array Value).toList
def Bt.cells(s:Bt):List Value:=(#[.string s.name,.bool s.drain]:Array Value).toList
theorem Nv(s:Svc):((svV s):Array Value).all (·.oneCell')=true:=by simp[Value.oneCell']
theorem JZ(s:Cp):((cpV s):Array Value).all (·.oneCell')=true:=by simp[Value.oneCell']
theorem Mf{w:World}{b:Nat}{cur:Array Value}{t:TypeId}{fr:Nat × Nat}(h:w.heap[b]?=some (.cells cur t fr))(o:Nat):w.cell? ⟨b,o,none⟩=cur.toList[o]?:=by
 rw[cell_of_row w b o cur t fr h];simp
theorem In:(Try.prog.info? 63).map (λi=>(i.zero,i.size,i.bytes))=some (some (.agg #[.string ⟨#[]⟩,.int .i64 0,.bool false,.int .i64 0,.int .i64 0,.int .i64 0,.int .i64 0,.int .i64 0,.int .i64 0,.int .i64 0,.int .i64 0,.int .i64 0,.int .i64 0]),13,112):=by kernel_rfl
theorem FZ:(Try.prog.info? 63).map (·.size)=some 13:=by kernel_rfl
theorem Lk:(Try.prog.info? 35).map (λi=>(i.zero,i.size,i.bytes))=some (some (.agg czV),7,72):=by kernel_rfl
theorem DW:(Try.prog.info? 35).map (·.size)=some 7:=by kernel_rfl
theorem Kn:(Try.prog.info? 74).map (λi=>(i.zero,i.size,i.bytes))=some (some (.agg #[.string ⟨#[]⟩,.bool false]),2,24):=by kernel_rfl
structure Bk where
 now:Int
 svcs:List Svc
 cps:List Cp
 bts:List Bt
abbrev bkV (B:Bk) (x:Option Addr) (a:Nat) (y:Option Addr) (b:Nat) (z:Option Addr) (c:Nat):Array Value:=#[.int .i64 B.now,.slice x B.svcs.length a,.slice y B.cps.length b,.slice z B.bts.length c]
attribute [local simp] bkV
attribute [local go_sem] bkV
def SlS(w:World)(ao:Option Addr)(l:List Svc):Prop:=l≠[]->∃b off,ao=some ⟨b,off,none⟩/\b<w.heap.size/\SvcsAt w b off l
def SlC(w:World)(ao:Option Addr)(l:List Cp):Prop:=l≠[]->∃b off,ao=some ⟨b,off,none⟩/\b<w.heap.size/\KJ w b off l
def SlB(w:World)(ao:Option Addr)(l:List Bt):Prop:=l≠[]->∃b off,ao=some ⟨b,off,none⟩/\b<w.heap.size/\BtsAt w b off l
theorem SlS.below{w w':World}{ao:Option Addr}{l:List Svc}(h:SlS w ao l)(hb:Below w.heap.size w w'):SlS w' ao l:=λhl=>
 let ⟨b,off,e,hlt,hat⟩:=h hl
 ⟨b,off,e,AF hlt hb.size,λi s hs=>(hat i s hs).below hb hlt⟩
theorem SlC.below{w w':World}{ao:Option Addr}{l:List Cp}(h:SlC w ao l)(hb:Below w.heap.size w w'):SlC w' ao l:=λhl=>
 let ⟨b,off,e,hlt,hat⟩:=h hl
 ⟨b,off,e,AF hlt hb.size,λi s hs=>(hat i s hs).below hb hlt⟩
theorem SlB.below{w w':World}{ao:Option Addr}{l:List Bt}(h:SlB w ao l)(hb:Below w.heap.size w w'):SlB w' ao l:=λhl=>
 let ⟨b,off,e,hlt,hat⟩:=h hl
 ⟨b,off,e,AF hlt hb.size,λi s hs=>(hat i s hs).below hb hlt⟩
def BkAt(w:World)(a1 a2 a3:Option Addr)(B:Bk):Prop:=SlS w a1 B.svcs/\SlC w a2 B.cps/\SlB w a3 B.bts
theorem BkAt.below{w w':World}{a1 a2 a3:Option Addr}{B:Bk}(h:BkAt w a1 a2 a3 B)(hb:Below w.heap.size w w'):BkAt w' a1 a2 a3 B:=
 ⟨h.1.below hb,h.2.1.below hb,h.2.2.below hb⟩
def Bk.sized(B:Bk):Prop:=B.svcs.length<=maxLen/\B.cps.length<=maxLen/\B.bts.length<=maxLen/\(∀s∈B.svcs,s.name.size<=maxLen)/\(∀s∈B.cps,s.service.size<=maxLen/\s.berth.size<=maxLen)/\(∀s∈B.bts,s.name.size<=maxLen)
def Bk.small(B:Bk):Prop:=B.svcs.length<=1048576/\B.cps.length<=1048576/\B.bts.length<=1048576
theorem AO(w:World)(o:Obj):Below w.heap.size w (w.alloc o):=(Below.refl _ _).alloc (AG _) _
end
section
open Go.RowKit Go.Sort
attribute [local simp] svV cpV zbV czV aaV ctZ ad bkV
attribute [local go_sem] svV cpV zbV czV aaV ctZ ad bkV
theorem SvcAt.grown{w:World}{b o:Nat}{s:Svc}(h:SvcAt w b o s):(∀p:Regrown,(grow (redrawn w p.d) p.os).cell? ⟨b,o,none⟩=some (.string s.name))/\(∀p:Regrown,(grow (redrawn w p.d) p.os).cell? ⟨b,o+1,none⟩=some (.int .i64 s.version))/\(∀p:Regrown,(grow (redrawn w p.d) p.os).cell? ⟨b,o+2,none⟩=some (.bool s.gone))/\(∀p:Regrown,(grow (redrawn w p.d) p.os).cell? ⟨b,o+3,none⟩=some (.int .i64 s.image))/\(∀p:Regrown,(grow (redrawn w p.d) p.os).cell? ⟨b,o+4,none⟩=some (.int .i64 s.want))/\(∀p:Regrown,(grow (redrawn w p.d) p.os).cell? ⟨b,o+5,none⟩=some (.int .i64 s.down))/\(∀p:Regrown,(grow (redrawn w p.d) p.os).cell? ⟨b,o+6,none⟩=some (.int .i64 s.over))/\(∀p:Regrown,(grow (redrawn w p.d) p.os).cell? ⟨b,o+7,none⟩=some (.int .i64 s.next))/\(∀p:Regrown,(grow (redrawn w p.d) p.os).cell? ⟨b,o+8,none⟩=some (.int .i64 s.per))/\(∀p:Regrown,(grow (redrawn w p.d) p.os).cell? ⟨b,o+9,none⟩=some (.int .i64 s.least))/\(∀p:Regrown,(grow (redrawn w p.d) p.os).cell? ⟨b,o+10,none⟩=some (.int .i64 s.most))/\(∀p:Regrown,(grow (redrawn w p.d) p.os).cell? ⟨b,o+11,none⟩=some (.int .i64 s.load))/\(∀p:Regrown,(grow (redrawn w p.d) p.os).cell? ⟨b,o+12,none⟩=some (.int .i64 s.cool)):=by
 unfold SvcAt at h;obtain⟨c0,c1,c2,c3,c4,c5,c6,c7,c8,c9,c10,c11,c12⟩:=h;exact⟨λp=>cell_regrown c0 p.d p.os,λp=>cell_regrown c1 p.d p.os,λp=>cell_regrown c2 p.d p.os,λp=>cell_regrown c3 p.d p.os,λp=>cell_regrown c4 p.d p.os,λp=>cell_regrown c5 p.d p.os,λp=>cell_regrown c6 p.d p.os,λp=>cell_regrown c7 p.d p.os,λp=>cell_regrown c8 p.d p.os,λp=>cell_regrown c9 p.d p.os,λp=>cell_regrown c10 p.d p.os,λp=>cell_regrown c11 p.d p.os,λp=>cell_regrown c12 p.d p.os⟩
theorem CpAt.grown{w:World}{b o:Nat}{s:Cp}(h:CpAt w b o s):(∀p:Regrown,(grow (redrawn w p.d) p.os).cell? ⟨b,o,none⟩=some (.string s.service))/\(∀p:Regrown,(grow (redrawn w p.d) p.os).cell? ⟨b,o+1,none⟩=some (.int .i64 s.number))/\(∀p:Regrown,(grow (redrawn w p.d) p.os).cell? ⟨b,o+2,none⟩=some (.int .i64 s.version))/\(∀p:Regrown,(grow (redrawn w p.d) p.os).cell? ⟨b,o+3,none⟩=some (.int .i64 s.image))/\(∀p:Regrown,(grow (redrawn w p.d) p.os).cell? ⟨b,o+4,none⟩=some (.int .i64 s.state))/\(∀p:Regrown,(grow (redrawn w p.d) p.os).cell? ⟨b,o+5,none⟩=some (.bool s.ending))/\(∀p:Regrown,(grow (redrawn w p.d) p.os).cell? ⟨b,o+6,none⟩=some (.string s.berth)):=by
 unfold CpAt at h;obtain⟨c0,c1,c2,c3,c4,c5,c6⟩:=h;exact⟨λp=>cell_regrown c0 p.d p.os,λp=>cell_regrown c1 p.d p.os,λp=>cell_regrown c2 p.d p.os,λp=>cell_regrown c3 p.d p.os,λp=>cell_regrown c4 p.d p.os,λp=>cell_regrown c5 p.d p.os,λp=>cell_regrown c6 p.d p.os⟩
theorem BtAt.grown{w:World}{b o:Nat}{s:Bt}(h:BtAt w b o s):(∀p:Regrown,(grow (redrawn w p.d) p.os).cell? ⟨b,o,none⟩=some (.string s.name))/\(∀p:Regrown,(grow (redrawn w p.d) p.os).cell? ⟨b,o+1,none⟩=some (.bool s.drain)):=by
 unfold BtAt at h;obtain⟨c0,c1⟩:=h;exact⟨λp=>cell_regrown c0 p.d p.os,λp=>cell_regrown c1 p.d p.os⟩
theorem BkAt.grown{w:World}{a1 a2 a3:Option Addr}{B:Bk}(h:BkAt w a1 a2 a3 B)(d:Nat)(os:Array Obj):BkAt (grow (redrawn w d) os) a1 a2 a3 B:=h.below (below_regrown w d os)
end
section
open Go.RowKit
attribute [local simp] svV cpV zbV czV aaV ctZ ad bkV
attribute [local go_sem] svV cpV zbV czV aaV ctZ ad bkV
theorem B6(n lo hi:Int)(w:World):
  Calls Try.prog 62 #[.int .i64 n,.int .i64 lo,.int .i64 hi] w λe w'=>e=.returned (.bool (inB n lo hi))/\w'=w:=by
 go_enter Try.func62,Try.ntmps62;go_wp2
 all_goals
  go_ret;exact⟨AS (by rw[Bool.eq_iff_iff];simp[inB];try omega),rfl⟩
theorem Hf(c:Int)(w:World):
  Calls Try.prog 82 #[.int .u8 c] w λe w'=>e=.returned (.bool (Gm c))/\w'=w:=by
 go_enter Try.func82,Try.ntmps82;go_wp2
 all_goals
  go_ret;exact⟨AS (by rw[Bool.eq_iff_iff];simp[Gm];try omega),rfl⟩
theorem Hj (s : ByteArray) (w : World) (hs : s.size <= maxLen) :
    Calls Try.prog 31 #[.string s] w λe w'=>e=.returned (.bool (Dh s))/\w'=w:=by
  unfold maxLen at hs;have hsz:(s.size:Int)<=9223372036854775807:=by omega
  clear hs
  by_cases hin:inB s.size 1 20=true
  · go_enter Try.func31,Try.ntmps31
    go_wp2_with (go_at_call 29;refine(B5 _ _ _ _).mono ?_;rintro e w' ⟨rfl,rfl⟩)
    have HIN:Hid (inB s.size 1 20=true):=hin;clear hin
    go_loop [3] (λi=>∃k:Nat,k<=s.size/\i=.int .i64 k/\Hid (∀i (h:i<s.size),i<k->Gm (s[i]'h).toNat=true)) (λi=>s.size - (intOf i).toNat)
    case atStart=>exact⟨0,by omega,rfl,λi _ h=>absurd h (by omega)⟩
    case round=>
      obtain⟨k,hk,rfl,hall⟩:=hrel
      by_cases hlt:k<s.size
      · go_wp2
        all_goals first
          | (go_ret
             exact⟨AS (MG s k hlt (by clear hall HIN;simp only[Gm];simp at *;omega)).symm,rfl⟩)
          | (go_round
             case rel=>
               refine⟨k+1,by omega,by go_num,λi h hi=>?_⟩;rcases Nat.lt_or_ge i k with h'|h'
               · exact hall.out i h h'
               · have e:i=k:=by omega
                 subst e;clear hall HIN;simp only[Gm];simp at *;omega
             case measure=>simp[intOf];omega)
      · go_wp2
        go_ret;exact⟨AS ((ID s).2 ⟨HIN.out,λi h=>hall.out i h (by omega)⟩).symm,rfl⟩
  · have hin':inB s.size 1 20=false:=by simpa using hin
    clear hin;go_enter Try.func31,Try.ntmps31
    go_wp2_with (go_at_call 29;refine(B5 _ _ _ _).mono ?_;rintro e w' ⟨rfl,rfl⟩)
    go_ret;exact⟨AS (Jf s hin').symm,rfl⟩
theorem Ei (s : ByteArray) (w : World) (hs : s.size <= maxLen) :
    Calls Try.prog 69 #[.string s] w λe w'=>e=.returned (.bool (Dh s))/\w'=w:=by
  unfold maxLen at hs;have hsz:(s.size:Int)<=9223372036854775807:=by omega
  clear hs
  by_cases hin:inB s.size 1 20=true
  · go_enter Try.func69,Try.ntmps69
    go_wp2_with (go_at_call 62;refine(B6 _ _ _ _).mono ?_;rintro e w' ⟨rfl,rfl⟩)
    have HIN:Hid (inB s.size 1 20=true):=hin;clear hin
    go_loop [10] (λi=>∃k:Nat,k<=s.size/\i=.int .i64 k/\Hid (∀i (h:i<s.size),i<k->Gm (s[i]'h).toNat=true)) (λi=>s.size - (intOf i).toNat)
    case atStart=>exact⟨0,by omega,rfl,λi _ h=>absurd h (by omega)⟩
    case round=>
      obtain⟨k,hk,rfl,hall⟩:=hrel
      by_cases hlt:k<s.size
      · cases hbt:Gm (s[k]'hlt).toNat
        · go_wp2_with (go_at_call 82;refine(Hf _ _).mono ?_;rintro e w' ⟨rfl,rfl⟩)
          go_ret;exact⟨AS (MG s k hlt hbt).symm,rfl⟩
        · go_wp2_with (go_at_call 82;refine(Hf _ _).mono ?_;rintro e w' ⟨rfl,rfl⟩)
          go_round
          case rel=>
            refine⟨k+1,by omega,by go_num,λi h hi=>?_⟩;rcases Nat.lt_or_ge i k with h'|h'
            · exact hall.out i h h'
            · have e:i=k:=by omega
              subst e;exact hbt
          case measure=>simp[intOf];omega
      · go_wp2
        go_ret;exact⟨AS ((ID s).2 ⟨HIN.out,λi h=>hall.out i h (by omega)⟩).symm,rfl⟩
  · have hin':inB s.size 1 20=false:=by simpa using hin
    clear hin;go_enter Try.func69,Try.ntmps69
    go_wp2_with (go_at_call 62;refine(B6 _ _ _ _).mono ?_;rintro e w' ⟨rfl,rfl⟩)
    go_ret;exact⟨AS (Jf s hin').symm,rfl⟩
theorem NY(w:World)(o:Obj):Below w.heap.size w (w.alloc o):=(Below.refl _ _).alloc (AG _) _
theorem wrap_sum{a b:Int}(ha:inB a 0 10=true)(hb:inB b 0 10=true):wrap64 (a+b)=a+b:=by
  simp[inB]at ha hb;exact IntWalk.wrap64_in _ (by omega)
theorem Bw (s : Svc) (now : Int) (w : World) (hs : s.name.size <= maxLen) :
    Calls Try.prog 30 #[.agg (svV s),.int .i64 now] w λe w'=>e=.returned (.bool (KM now s))/\Below w.heap.size w w':=by
  go_enter Try.func30,Try.ntmps30
  go_wp2_with (first|(go_at_call 29;refine(B5 _ _ _ _).mono ?_;rintro e w' ⟨rfl,rfl⟩)|(go_at_call 31;refine(Hj _ _ hs).mono ?_;rintro e w' ⟨rfl,rfl⟩))
  all_goals
    go_ret;refine⟨AS ?_,NY _ _⟩
    first
      | (have hw := wrap_sum (a := s.down) (b := s.over) ‹_› ‹_›
         simp only[hw,beq_iff_eq,beq_eq_false_iff_ne,ne_eq]at *
         simp[KM,Od, *];done)
      |(simp[KM,Od, *];done)
def Ek{α:Type}(p:α->Bool)(l:List α):Int:=match l.findIdx? p with|some i=>(i:Int)|none=> -1
def Gd(l:List Svc)(n:ByteArray):Int:=Ek (λs=>s.name.toList==n.toList) l
def NP(l:List Bt)(n:ByteArray):Int:=Ek (λs=>s.name.toList==n.toList) l
theorem Fn{α:Type}{p:α->Bool}{l:List α}{k:Nat}{s:α}(hk:l[k]?=some s)(hp:p s=true)(hno:∀i,i<k->∀s,l[i]?=some s->p s=false):Ek p l=k:=by
 obtain⟨h1,h2⟩:=AC hk
 have:l.findIdx? p=some k:=by
  rw[List.findIdx?_eq_some_iff_getElem];refine⟨h1,by rw[h2];exact hp,λj hj=>?_⟩;rw[hno j hj _ (List.getElem?_eq_getElem (by omega))];simp
 simp[Ek,this]
theorem Fm{α:Type}{p:α->Bool}{l:List α}(hno:∀(i:Nat) s,l[i]?=some s->p s=false):Ek p l= -1:=by
 have:l.findIdx? p=none:=by
  rw[List.findIdx?_eq_none_iff];intro x hx;obtain⟨i,hi,rfl⟩:=List.mem_iff_getElem.1 hx;exact hno i _ (List.getElem?_eq_getElem hi)
 simp[Ek,this]
end
section
open Go.RowKit Go.Sort
attribute [local simp] svV cpV zbV czV aaV ctZ ad bkV
attribute [local go_sem] svV cpV zbV czV aaV ctZ ad bkV
theorem B9(B:Bk)(n:ByteArray)(a1 a2 a3:Option Addr)(c1 c2 c3:Nat)(w:World)(hS:B.small)(hB:SlS w a1 B.svcs):
  Calls Try.prog 54 #[.agg (bkV B a1 c1 a2 c2 a3 c3),.string n] w λe w'=>e=.returned (.int .i64 (Gd B.svcs n))/\Below w.heap.size w w':=by
 obtain⟨hl1,hl2,hl3⟩:=hS;go_enter Try.func54,Try.ntmps54;go_wp2
 go_loop [5] (λi=>∃k:Nat,k<=B.svcs.length/\i=.int .i64 k/\Hid (∀i,i<k->∀s,B.svcs[i]?=some s->(s.name.toList==n.toList)=false)) (λi=>B.svcs.length - (intOf i).toNat)
 case atStart=>exact⟨0,by omega,rfl,λi hi=>absurd hi (by omega)⟩
 case round=>
  obtain⟨k,hk,rfl,hno⟩:=hrel
  by_cases hlt:k<B.svcs.length
  ·have hne:B.svcs≠[]:=by intro h;rw[h]at hlt;simp at hlt
   obtain⟨b,off,rfl,hbs,hat⟩:=hB hne;obtain⟨s,hsk⟩:∃s,B.svcs[k]?=some s:=⟨B.svcs[k],by simp[hlt]⟩;have HSK:Hid (B.svcs[k]?=some s):=hsk;have hc:=hat k s hsk;unfold SvcAt at hc;have hc0:=hc.1;clear hat hc hsk hne;cases hq:(s.name.toList==n.toList)
   ·go_wp2
    go_round
    case rel=>
     refine⟨k+1,by omega,by go_num,λi hi t ht=>?_⟩;rcases Nat.lt_or_ge i k with h'|h'
     ·exact hno.out i h' t ht
     ·have e:i=k:=by omega
      subst e;rw[HSK.out]at ht;cases ht;exact hq
    case measure=>simp[intOf];omega
   ·go_wp2
    go_ret;exact⟨D8 (Fn HSK.out hq hno.out).symm,AO _ _⟩
  ·go_wp2
   go_ret;exact⟨D8 (Fm λi s hs=>hno.out i (by have:=(AC hs).1;omega) s hs).symm,AO _ _⟩
theorem FA(B:Bk)(n:ByteArray)(a1 a2 a3:Option Addr)(c1 c2 c3:Nat)(w:World)(hS:B.small)(hB:SlB w a3 B.bts):
  Calls Try.prog 55 #[.agg (bkV B a1 c1 a2 c2 a3 c3),.string n] w λe w'=>e=.returned (.int .i64 (NP B.bts n))/\Below w.heap.size w w':=by
 obtain⟨hl1,hl2,hl3⟩:=hS;go_enter Try.func55,Try.ntmps55;go_wp2
 go_loop [5] (λi=>∃k:Nat,k<=B.bts.length/\i=.int .i64 k/\Hid (∀i,i<k->∀s,B.bts[i]?=some s->(s.name.toList==n.toList)=false)) (λi=>B.bts.length - (intOf i).toNat)
 case atStart=>exact⟨0,by omega,rfl,λi hi=>absurd hi (by omega)⟩
 case round=>
  obtain⟨k,hk,rfl,hno⟩:=hrel
  by_cases hlt:k<B.bts.length
  ·have hne:B.bts≠[]:=by intro h;rw[h]at hlt;simp at hlt
   obtain⟨b,off,rfl,hbs,hat⟩:=hB hne;obtain⟨s,hsk⟩:∃s,B.bts[k]?=some s:=⟨B.bts[k],by simp[hlt]⟩;have HSK:Hid (B.bts[k]?=some s):=hsk;have hc:=hat k s hsk;unfold BtAt at hc;have hc0:=hc.1;clear hat hc hsk hne;cases hq:(s.name.toList==n.toList)
   ·go_wp2
    go_round
    case rel=>
     refine⟨k+1,by omega,by go_num,λi hi t ht=>?_⟩;rcases Nat.lt_or_ge i k with h'|h'
     ·exact hno.out i h' t ht
     ·have e:i=k:=by omega
      subst e;rw[HSK.out]at ht;cases ht;exact hq
    case measure=>simp[intOf];omega
   ·go_wp2
    go_ret;exact⟨D8 (Fn HSK.out hq hno.out).symm,AO _ _⟩
  ·go_wp2
   go_ret;exact⟨D8 (Fm λi s hs=>hno.out i (by have:=(AC hs).1;omega) s hs).symm,AO _ _⟩
end
section
open Go.RowKit
attribute [local simp] svV cpV zbV czV aaV ctZ ad bkV
attribute [local go_sem] svV cpV zbV czV aaV ctZ ad bkV
theorem Bo{α:Type}{p:α->Bool}{l:List α}{s:α}(h:l.find? p=some s):∃i:Nat,l[i]?=some s/\Ek p l=(i:Int):=by
 rw[List.find?_eq_some_iff_getElem]at h;obtain⟨hp,i,hi,hs,hno⟩:=h;refine⟨i,by rw[List.getElem?_eq_getElem hi,hs],Fn (by rw[List.getElem?_eq_getElem hi,hs]) hp λj hj t ht=>?_⟩;have:=hno j hj;obtain⟨h1,h2⟩:=AC ht;rw[h2]at this
 simpa using this
theorem CE{α:Type}{p:α->Bool}{l:List α}(h:l.find? p=none):Ek p l= -1:=by
 rw[List.find?_eq_none]at h;exact Fm λi s hs=>by have:=h s (AE hs);simpa using this
theorem idxOf_ge{α:Type}(p:α->Bool)(l:List α):decide (0<=Ek p l)=l.any p:=by
 cases h:l.find? p with
 |none=>
  rw[CE h];rw[List.find?_eq_none]at h
  symm
  rw[show decide ((0:Int)<= -1)=false from by decide,List.any_eq_false];exact h
 |some s=>
  obtain⟨i,hi,e⟩:=Bo h;rw[e];have:decide (0<=(i:Int))=true:=by simp
  rw[this];symm;rw[List.any_eq_true];exact⟨s,AE hi,List.find?_some h⟩
def Bz(B:Bk)(n:ByteArray):Option Svc:=B.svcs.find? λs=>s.name.toList==n.toList
def GM(now:Int)(s:Svc)(c:Cp):Bool:=inB c.number 1 (wrap64 (s.next - 1))&&inB c.version 1 now&&inB c.image 1 1000000&&inB c.state 1 4
def DQ(bts:List Bt)(c:Cp):Bool:=if c.state=1 then c.berth.toList.isEmpty else bts.any λb=>b.name.toList==c.berth.toList
def cpB(B:Bk)(c:Cp):Bool:=match Bz B c.service with|none=>false|some s=>GM B.now s c&&DQ B.bts c
end
section
open Go.RowKit Go.Sort
attribute [local simp] svV cpV zbV czV aaV ctZ ad bkV
attribute [local go_sem] svV cpV zbV czV aaV ctZ ad bkV
theorem AL{N:Nat}{w w':World}{k:Nat}{x:Option Obj}(hb:Below N w w')(h:w.heap[k]?=x)(hk:k<N):w'.heap[k]?=x:=(hb.block k hk).trans h
theorem Al{w:World}{b:Nat}{cs:Array Value}{t:TypeId}{fr:Nat × Nat}(h:w.heap[b]?=some (.cells cs t fr))(o:Nat){v:Value}(hv:cs[o]?=some v):∀p:Regrown,(grow (redrawn w p.d) p.os).cell? ⟨b,o,none⟩=some v:=
 λp=>cell_regrown (AK h o hv) p.d p.os
theorem Bh(w:World)(A B:Obj):((w.alloc A).alloc B).heap[w.heap.size]?=some A/\((w.alloc A).alloc B).heap[w.heap.size+1]?=some B/\((w.alloc A).alloc B).heap.size=w.heap.size+1+1:=by
 have e:((w.alloc A).alloc B).heap=(w.heap.push A).push B:=rfl;rw[e];refine⟨?_,?_,by simp⟩
 ·rw[Array.getElem?_push,if_neg (by simp),Array.getElem?_push,if_pos rfl]
 ·rw[Array.getElem?_push,if_pos (by simp)]
theorem Dz(n lo hi:Int)(w:World):
  Calls Try.prog 29 #[.int .i64 n,.int .i64 lo,.int .i64 hi] w λe w'=>e=.returned (.bool (inB n lo hi))/\Below w.heap.size w w':=
 (B5 n lo hi w).mono λe w' ⟨he,hw⟩=>⟨he,by rw[hw];exact Below.refl _ _⟩
theorem CU(B:Bk)(c:Cp)(a1 a2 a3:Option Addr)(c1 c2 c3:Nat)(w:World)(hS:B.small)(hB:BkAt w a1 a2 a3 B):
  Calls Try.prog 32 #[.agg (bkV B a1 c1 a2 c2 a3 c3),.agg (cpV c)] w λe w'=>e=.returned (.bool (cpB B c))/\Below w.heap.size w w':=by
 obtain⟨t0,t1,t2⟩:=Bh w (.cells (bkV B a1 c1 a2 c2 a3 c3) 27) (.cells (cpV c) 35);have hb0:Below w.heap.size w ((w.alloc (.cells (bkV B a1 c1 a2 c2 a3 c3) 27)).alloc (.cells (cpV c) 35)):=((Below.refl _ _).alloc (AG _) _).alloc (by simp) _;have T0:Hid _:=t0;have T1:Hid _:=t1;have T2:Hid _:=t2;clear t0 t1 t2
 cases hf:Bz B c.service with
 |none=>
  have hcp:Hid (cpB B c=false):=by unfold Hid cpB;rw[hf]
  have hidx:Gd B.svcs c.service= -1:=CE hf;clear hf;go_enter Try.func32,Try.ntmps32
  go_wp2_with fail
  refine(B9 B c.service a1 a2 a3 c1 c2 c3 _ hS (hB.1.below hb0)).mono ?_;rintro e w1 ⟨rfl,hb1⟩;have hbb1:=hb0.trans (hb1.mono hb0.size);rw[hidx];clear hidx;go_wp2;refine wp_region_quiet_below (by kernel_rfl) (by kernel_rfl) ?_
  repeat (first|go_big_quiet_step (exact Calls.regrown_of (Dz _ _ _ _))|quiet_step (exact Calls.regrown_of (Dz _ _ _ _)))
  refine wpQuiet_nil ?_;intro w2 hw';obtain⟨⟨dq,osq⟩,hw''⟩:=hw';have hb2:Below w1.heap.size w1 w2:=by rw[hw''];exact below_regrown _ _ _
  clear hw'';go_wp2;go_ret;exact⟨AS hcp.out.symm,hbb1.trans (hb2.mono hbb1.size)⟩
 |some s=>
  have hcp:Hid (cpB B c=(GM B.now s c&&DQ B.bts c)):=by unfold Hid cpB;rw[hf]
  obtain⟨i,hi,hidx⟩:∃i:Nat,B.svcs[i]?=some s/\Gd B.svcs c.service=(i:Int):=Bo hf;have hilt:i<B.svcs.length:=(AC hi).1;clear hf;have hne:B.svcs≠[]:=by intro h;rw[h]at hilt;simp at hilt
  obtain⟨b,off,ea1,hbs,hat⟩:=hB.1 hne;subst ea1;go_enter Try.func32,Try.ntmps32
  go_wp2_with fail
  refine(B9 B c.service _ a2 a3 c1 c2 c3 _ hS (hB.1.below hb0)).mono ?_;rintro e w1 ⟨rfl,hb1⟩;have hbb1:=hb0.trans (hb1.mono hb0.size);rw[hidx];clear hidx;rw[T2.out]at hb1;have T0':Hid _:=AL hb1 T0.out (by omega);have T1':Hid _:=AL hb1 T1.out (by omega);have hz1:w.heap.size+1<w1.heap.size:=by have:=hb1.size;rw[T2.out]at this;omega
  obtain⟨q0,q1,q2,q3,q4,q5,q6,q7,q8,q9,q10,q11,q12⟩:=((hat i s hi).below hbb1 hbs).grown;clear q0 q1 q2 q3 q4 q5 q6 q8 q9 q10 q11 q12;have g0:=Al T0'.out 0 rfl;have g1:=Al T0'.out 1 rfl;have k1:=Al T1'.out 1 rfl;have k2:=Al T1'.out 2 rfl;have k3:=Al T1'.out 3 rfl;have k4:=Al T1'.out 4 rfl;have HAT:Hid _:=hat;have HI:Hid _:=hi;clear hat hi hne hb1;go_wp2;cases h1:inB c.number 1 (wrap64 (s.next - 1))
  ·refine wp_region_quiet_below (by kernel_rfl) (by kernel_rfl) ?_
   repeat (first|go_big_quiet_step (exact Calls.regrown_of (Dz _ _ _ _))|quiet_step (exact Calls.regrown_of (Dz _ _ _ _)))
   refine wpQuiet_nil ?_;intro w2 hw';obtain⟨⟨dq,osq⟩,hw''⟩:=hw';have hb2:Below w1.heap.size w1 w2:=by rw[hw''];exact below_regrown _ _ _
   clear hw'';go_wp2;go_ret;exact⟨AS (by rw[hcp.out];simp[GM,h1]),hbb1.trans (hb2.mono hbb1.size)⟩
  cases h2:inB c.version 1 B.now
  ·refine wp_region_quiet_below (by kernel_rfl) (by kernel_rfl) ?_
   repeat (first|go_big_quiet_step (exact Calls.regrown_of (Dz _ _ _ _))|quiet_step (exact Calls.regrown_of (Dz _ _ _ _)))
   refine wpQuiet_nil ?_;intro w2 hw';obtain⟨⟨dq,osq⟩,hw''⟩:=hw';have hb2:Below w1.heap.size w1 w2:=by rw[hw''];exact below_regrown _ _ _
   clear hw'';go_wp2;go_ret;exact⟨AS (by rw[hcp.out];simp[GM,h1,h2]),hbb1.trans (hb2.mono hbb1.size)⟩
  cases h3:inB c.image 1 1000000
  ·refine wp_region_quiet_below (by kernel_rfl) (by kernel_rfl) ?_
   repeat (first|go_big_quiet_step (exact Calls.regrown_of (Dz _ _ _ _))|quiet_step (exact Calls.regrown_of (Dz _ _ _ _)))
   refine wpQuiet_nil ?_;intro w2 hw';obtain⟨⟨dq,osq⟩,hw''⟩:=hw';have hb2:Below w1.heap.size w1 w2:=by rw[hw''];exact below_regrown _ _ _
   clear hw'';go_wp2;go_ret;exact⟨AS (by rw[hcp.out];simp[GM,h1,h2,h3]),hbb1.trans (hb2.mono hbb1.size)⟩
  cases h4:inB c.state 1 4
  ·refine wp_region_quiet_below (by kernel_rfl) (by kernel_rfl) ?_
   repeat (first|go_big_quiet_step (exact Calls.regrown_of (Dz _ _ _ _))|quiet_step (exact Calls.regrown_of (Dz _ _ _ _)))
   refine wpQuiet_nil ?_;intro w2 hw';obtain⟨⟨dq,osq⟩,hw''⟩:=hw';have hb2:Below w1.heap.size w1 w2:=by rw[hw''];exact below_regrown _ _ _
   clear hw'';go_wp2;go_ret;exact⟨AS (by rw[hcp.out];simp[GM,h1,h2,h3,h4]),hbb1.trans (hb2.mono hbb1.size)⟩
  refine wp_region_quiet_below (by kernel_rfl) (by kernel_rfl) ?_
  repeat (first|go_big_quiet_step (exact Calls.regrown_of (Dz _ _ _ _))|quiet_step (exact Calls.regrown_of (Dz _ _ _ _)))
  refine wpQuiet_nil ?_;intro w2 hw';obtain⟨⟨dq,osq⟩,hw''⟩:=hw';have hb2:Below w1.heap.size w1 w2:=by rw[hw''];exact below_regrown _ _ _
  clear hw'';have hcp2:Hid (cpB B c=DQ B.bts c):=by unfold Hid;rw[hcp.out];simp[GM,h1,h2,h3,h4]
  have hbb2:=hbb1.trans (hb2.mono hbb1.size);have T0'':Hid _:=AL hb2 T0'.out (by omega);have T1'':Hid _:=AL hb2 T1'.out (by omega);clear g0 g1 k1 k2 k3 k4 h1 h2 h3 h4 q7;obtain⟨m0,m1,m2,m3⟩:=c4 T0''.out;have n4:=AK T1''.out 4 rfl;have n6:=AK T1''.out 6 rfl
  by_cases h5:c.state=1
  ·have H5:Hid (c.state=1):=h5
   have h5':(c.state==1)=true:=by simp[h5]
   clear h5;go_wp2;go_ret;exact⟨AS (by rw[hcp2.out];simp[DQ,H5.out]),hbb2⟩
  ·have H5:Hid (¬c.state=1):=h5
   have h5':(c.state==1)=false:=by simp[h5]
   clear h5
   go_wp2_with fail
   refine(FA B c.berth _ a2 a3 c1 c2 c3 _ hS (hB.2.2.below hbb2)).mono ?_;rintro e w3 ⟨rfl,hb3⟩;have HG:Hid (decide (0<=NP B.bts c.berth)=B.bts.any λb=>b.name.toList==c.berth.toList):=idxOf_ge _ _;generalize NP B.bts c.berth=z at *;go_wp2;go_ret;exact⟨AS (by rw[hcp2.out];simp[DQ,H5.out,<-HG.out]),hbb2.trans (hb3.mono hbb2.size)⟩
end
end Go.Proofs.Ytbceafpodamnfaa
