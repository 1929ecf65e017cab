import Derived.WalkKit
import Derived.Test.YtbceafpodamnfaaGreatDoorChecked
import GoSem.Claim
import GoSem.ClaimJoined
import GoSem.ClaimMapViews
import Derived.JoinedTies
import Derived.KernelRfl
import Derived.RowKit
import Derived.WalkSpells
import Derived.WalkLawsBesides
import Derived.Laws.CopyOwn
import Derived.StillTail
import Derived.Below
import Derived.Laws.AppendOwn
set_option linter.all false
set_option maxHeartbeats 400000
theorem Go.RowKit.Hid.O{p:Prop}(h:Go.RowKit.Hid p):p:=h
theorem Go.RowKit.Below.mono'{N M:Nat}{w w':Go.World}(h:Go.RowKit.Below M w w')(F:N<=M):Go.RowKit.Below N w w':=h.mono F
namespace Go.Proofs.YtbceafpodamnfaaGreatDoor
section
abbrev qO:=Option Go.Addr
abbrev qB:=ByteArray
abbrev qL:=List Go.Value
abbrev cW:=@And.intro
abbrev cX:=@Nat.eq_of_beq_eq_true
abbrev cY:=@Bool.and_eq_true
abbrev cZ:=@List.mem_singleton
abbrev dg:=@Option.some.inj
abbrev dh:=@List.all_eq_true
abbrev di:=@Int.toNat_natCast
abbrev dj:=@List.getElem?_eq_getElem
abbrev dk:=@Array.getElem?_push
abbrev dl:=@List.drop_succ_cons
abbrev dm:=@Go.heap_alloc_new
abbrev dt:=@List.mem_append
abbrev du:=@List.length_set
abbrev dv:=@List.cons.injEq
abbrev dw:=@Prod.mk.injEq
abbrev dy:=@List.mem_cons
abbrev dz:=@List.map_cons
abbrev dA:=@List.mem_range
abbrev dB:=@if_pos
abbrev dC:=@if_neg
abbrev dD:=@Go.wpList_load_row
abbrev dE:=@List.length_append
abbrev dF:=@List.drop_zero
abbrev dG:=@List.length_take
abbrev dH:=@List.not_mem_nil
abbrev dI:=@Go.RowKit.Below.refl
abbrev dJ:=@Nat.zero_add
abbrev dK:=@List.mem_cons_self
abbrev dL:=@List.length_cons
abbrev dM:=@decide_eq_true_eq
abbrev dN:=@List.mem_cons_of_mem
abbrev dO:=@decide_eq_true
abbrev dP:=@List.map_nil
abbrev dQ:=@decide_eq_false
abbrev dR:=@List.mem_flatMap
abbrev dS:=@Go.bodyPost_ret
abbrev dT:=@Array.length_toList
abbrev dU:=@List.getElem?_append_left
abbrev dV:=@and_true
abbrev dW:=@List.length_drop
abbrev dX:=@List.getElem?_append_right
abbrev dY:=@Bool.or_eq_true
abbrev dZ:=@List.getElem?_eq_none
abbrev ed:=@Nat.mul_le_mul_right
abbrev ef:=@List.getElem?_of_mem
abbrev eh:=@List.getElem?_map
abbrev ei:=@Go.run_callFunc_extern
abbrev ej:=@List.getElem?_drop
abbrev ek:=@List.size_toArray
abbrev em:=@congrArg
abbrev eo:=@Option.map_some
abbrev ep:=@List.mem_of_mem_drop
abbrev eq:=@Nat.add_assoc
abbrev er:=@List.take_of_length_le
abbrev eu:=@List.mem_or_eq_of_mem_set
abbrev ew:=@Go.Sem.run_bind
abbrev eA:=@Array.getD_eq_getD_getElem?
abbrev eB:=@List.append_assoc
abbrev eC:=@List.getElem?_set_self
abbrev eD:=@cond_true
abbrev eE:=@List.mem_of_mem_take
abbrev eF:=@Go.World.cell?_of_block
abbrev eG:=@Nat.lt_or_ge
abbrev eH:=@List.drop_eq_getElem_cons
abbrev eI:=@List.flatMap_cons
abbrev eJ:=@Array.toList_map
abbrev eK:=@List.getElem?_take
abbrev eL:=@beq_eq_false_iff_ne
abbrev eN:=@Bool.or_eq_true_iff
abbrev eO:=@List.getElem?_take_of_lt
abbrev eP:=@or_false
abbrev eQ:=@List.takeWhile_cons_of_pos
abbrev eR:=@Bool.not_eq_true'
abbrev eU:=@Go.results_cell_row
abbrev eW:=@List.take_add_one
abbrev eY:=@List.take_append_drop
abbrev eZ:=@List.nil_append
abbrev fa:=@List.countP_cons
abbrev fb:=@List.cons_append
abbrev fc:=@List.getElem?_set
abbrev fe:=@List.flatten_cons
abbrev ff:=@Array.toArray_toList
abbrev fg:=@Bool.false_eq_true
abbrev fh:=@Nat.le_succ
abbrev fi:=@Nat.add_mul
abbrev fj:=@List.map_congr_left
abbrev fm:=@List.any_eq_true
abbrev fo:=@List.takeWhile_cons_of_neg
abbrev fp:=@List.ext_getElem?
abbrev fq:=@beq_iff_eq
abbrev fu:=@true_and
abbrev fw:=@List.length_map
abbrev fx:=@List.map_toArray
abbrev fy:=@List.mem_map_of_mem
abbrev fz:=@List.mem_map
abbrev fA:=@Go.wpList_plain
abbrev fB:=@Int.le_refl
abbrev fC:=@Go.run_underlying
abbrev fD:=@Array.all_eq_true'
abbrev fE:=@List.exists_cons_of_ne_nil
abbrev fF:=@Go.Value.int.injEq
abbrev fG:=@Nat.succ_mul
abbrev fH:=@Nat.le_of_eq
abbrev fI:=@List.flatMap_def
abbrev fJ:=@Go.Addr.add_lit
abbrev fK:=@List.rel_of_pairwise_cons
abbrev fL:=@List.getElem?_eq_none_iff
abbrev fM:=@Go.ByteArray.toList_eq
abbrev fN:=@List.find?_some
abbrev fO:=@Array.getElem?_setIfInBounds
abbrev fP:=@List.find?_eq_none
abbrev fQ:=@Go.getD_set_ne
abbrev fR:=@List.pairwise_append
abbrev fS:=@Bool.or_eq_false_iff
abbrev fT:=@List.length_eq_zero_iff
abbrev fU:=@Int.eq_ofNat_of_zero_le
abbrev fV:=@List.findIdx?_eq_some_iff_getElem
abbrev fW:=@Nat.add_zero
abbrev fX:=@List.set_set
abbrev fY:=@Option.some.injEq
abbrev fZ:=@List.countP_eq_zero
abbrev gb:=@List.pairwise_iff_getElem
abbrev gc:=@List.mem_of_find?_eq_some
abbrev gd:=@UInt8.lt_iff_toNat_lt
abbrev gh:=@List.countP_eq_length
abbrev gi:=@Go.wpList_nil
abbrev gk:=@Nat.eq_zero_or_pos
abbrev gl:=@Go.setRow_heap
abbrev gm:=@Go.run_slice_l
abbrev gp:=@List.eq_nil_of_length_eq_zero
abbrev gq:=@List.find?_append
abbrev gr:=@Nat.not_lt_zero
abbrev gt:=@List.map_append
abbrev gu:=@List.append_nil
abbrev gv:=@List.take_succ_cons
abbrev gw:=@List.map_map
abbrev gz:=@List.cons.inj
abbrev gA:=@Go.info_parts
abbrev gB:=@Go.heap_alloc_old
abbrev gC:=@Go.Value.string.injEq
abbrev gD:=@List.length_filter_le
abbrev gE:=@List.foldl_cons
abbrev gF:=@Bool.eq_iff_iff
abbrev gG:=@Go.Oper.upon_value
abbrev gH:=@Go.cell_of_row
abbrev gI:=@List.getElem?_set_ne
abbrev gJ:=@Bool.and_eq_true_iff
abbrev gK:=@of_decide_eq_true
abbrev gL:=@Bool.true_and
abbrev gM:=@if_true
abbrev gN:=@List.toList_toArray
abbrev gO:=@List.takeWhile_cons
abbrev gP:=@List.countP_pos_iff
abbrev gQ:=@Nat.le_add_right
abbrev gR:=@List.take_length
abbrev gS:=@Go.WalkArith.wf_i64
abbrev gT:=@List.find?_eq_some_iff_getElem
abbrev gU:=@List.filter_append
abbrev gV:=@List.drop_eq_nil_of_le
abbrev gW:=@congrFun
abbrev gX:=@Nat.min_eq_left
abbrev gY:=@Nat.lt_irrefl
abbrev gZ:=@Go.wp_region_lit
abbrev g8:=@List.contains_iff_mem
abbrev g9:=@List.pairwise_map
abbrev ie:=@Go.run_storeCells_at
abbrev ig:=@List.take_left
abbrev ij:=@Bool.and_false
abbrev ik:=@Int.tdiv_eq_ediv_of_nonneg
abbrev il:=@beq_self_eq_true
abbrev io:=@Array.getElem?_eq_getElem
abbrev ip:=@Array.toList_append
abbrev iq:=@if_false
abbrev ir:=@Bool.false_or
abbrev iu:=@Bool.and_true
abbrev iw:=@Go.wp_region_any
abbrev ix:=@Go.Value.agg.inj
abbrev iy:=@List.length_nil
abbrev iz:=@List.countP_append
abbrev iA:=@Int.natCast_nonneg
abbrev iB:=@decide_eq_false_iff_not
abbrev iC:=@List.set_eq_take_append_cons_drop
abbrev iD:=@Nat.zero_mul
abbrev iE:=@Nat.add_comm
abbrev iF:=@Go.size_zeroCells
abbrev iG:=@Array.size_append
abbrev iH:=@Go.Value.iface.injEq
abbrev iI:=@List.takeWhile_sublist
abbrev iJ:=@List.find?_cons_of_neg
abbrev iK:=@Array.all_eq_true_iff_forall_mem
abbrev iL:=@Array.getElem?_eq_none
abbrev iM:=@List.length_singleton
abbrev iN:=@Array.getElem?_toList
abbrev iO:=@Go.mem_ready
abbrev iP:=@Go.Value.bool.injEq
abbrev iQ:=@Go.wp_mono
abbrev iR:=@List.mem_iff_getElem
abbrev iS:=@Array.replicate_succ
abbrev iT:=@Array.mem_toList_iff
abbrev iU:=@Go.run_loadVar_row
abbrev iV:=@Go.run_append_room
abbrev iW:=@List.length_pos_iff
abbrev iX:=@List.append_toArray
abbrev iY:=@Array.getElem?_ofFn
abbrev iZ:=@Bool.or_true
abbrev i0:=@Go.wp_seq
abbrev i5:=@Array.ext'
abbrev i7:=@Go.growslice_fits
abbrev i8:=@List.mem_filterMap
abbrev i9:=@Int.emod_lt_of_pos
abbrev ja:=@Nat.mul_one
abbrev jb:=@List.push_toArray
abbrev jc:=@List.foldl_append
abbrev jd:=@List.all_eq_false
abbrev je:=@Go.wpList_append_own
abbrev jf:=@Go.run_sliceAt_slice
abbrev jg:=@Go.Value.slice.injEq
end
section
open Go.RowKit
theorem AB{α:Type}{xs:Array α}{i:Nat}{b:α}:xs[i]?=some b->∃h:i<xs.size,xs[i]=b:=Array.getElem?_eq_some_iff.1
theorem AC{α:Type}{l:List α}{i:Nat}{b:α}:l[i]?=some b->∃h:i<l.length,l[i]=b:=List.getElem?_eq_some_iff.1
theorem AD{n m:Nat}:Nat.ble n m=true->n<=m:=Nat.le_of_ble_eq_true
theorem AE{α:Type}{l:List α}{i:Nat}{a:α}:l[i]?=some a->a∈l:=List.mem_of_getElem?
theorem AF{n m k:Nat}:n<m->m<=k->n<k:=Nat.lt_of_lt_of_le
theorem AG(n:Nat):n<=n:=Nat.le_refl n
theorem AH{n m k:Nat}:n<=m->m<=k->n<=k:=Nat.le_trans
theorem AI(n:Nat):0<=n:=Nat.zero_le n
structure Svc where
 name:ByteArray
 ag:Int
 aH:Bool
 ar:Int
 av:Int
 aG:Int
 aE:Int
 next:Int
 aM:Int
 aC:Int
 aK:Int
 load:Int
 ay:Int
structure Cp where
 aa:ByteArray
 ai:Int
 ag:Int
 ar:Int
 ax:Int
 au:Bool
 aA:ByteArray
structure Bt where
 name:ByteArray
 aS:Bool
@[simp,go_sem,reducible] def qsV (s:Svc):Array Value:=#[.string s.name,.int .i64 s.ag,.bool s.aH,.int .i64 s.ar,.int .i64 s.av,.int .i64 s.aG,.int .i64 s.aE,.int .i64 s.next,.int .i64 s.aM,.int .i64 s.aC,.int .i64 s.aK,.int .i64 s.load,.int .i64 s.ay]
@[simp,go_sem,reducible] def qcV (c:Cp):Array Value:=#[.string c.aa,.int .i64 c.ai,.int .i64 c.ag,.int .i64 c.ar,.int .i64 c.ax,.bool c.au,.string c.aA]
@[simp,go_sem,reducible] def qzV:Array Value:=#[.int .i64 0,.slice none 0 0,.slice none 0 0,.slice none 0 0]
@[simp,go_sem,reducible] def qyV:Array Value:=#[.string ⟨#[]⟩,.int .i64 0,.int .i64 0,.int .i64 0,.int .i64 0,.bool false,.string ⟨#[]⟩]
@[simp,go_sem,reducible] def qgV (n:qB) (v a b c:Int) (x:Bool) (y:Value) (z:Bool):Array Value:=#[.string n,.int .i64 v,.int .i64 a,.int .i64 b,.int .i64 c,.bool x,y,.bool z]
@[simp,go_sem,reducible] def qtZ:Array Value:=#[.int .i64 0,.int .i64 0,.int .i64 0,.int .i64 0,.int .i64 0]
@[simp,go_sem,reducible] def qad (g:Nat):Option Addr:=some ⟨g,0,none⟩
@[reducible] def qBl (w:World) (b:Nat) (cs:Array Value) (t:TypeId):Prop:=w.heap[b]?=some (.cells cs t (0,0))
def SvcAt(w:World)(b o:Nat)(s:Svc):Prop:=w.cell? ⟨b,o,none⟩=some (.string s.name)/\w.cell? ⟨b,o+1,none⟩=some (.int .i64 s.ag)/\w.cell? ⟨b,o+2,none⟩=some (.bool s.aH)/\w.cell? ⟨b,o+3,none⟩=some (.int .i64 s.ar)/\w.cell? ⟨b,o+4,none⟩=some (.int .i64 s.av)/\w.cell? ⟨b,o+5,none⟩=some (.int .i64 s.aG)/\w.cell? ⟨b,o+6,none⟩=some (.int .i64 s.aE)/\w.cell? ⟨b,o+7,none⟩=some (.int .i64 s.next)/\w.cell? ⟨b,o+8,none⟩=some (.int .i64 s.aM)/\w.cell? ⟨b,o+9,none⟩=some (.int .i64 s.aC)/\w.cell? ⟨b,o+10,none⟩=some (.int .i64 s.aK)/\w.cell? ⟨b,o+11,none⟩=some (.int .i64 s.load)/\w.cell? ⟨b,o+12,none⟩=some (.int .i64 s.ay)
def CpAt(w:World)(b o:Nat)(s:Cp):Prop:=w.cell? ⟨b,o,none⟩=some (.string s.aa)/\w.cell? ⟨b,o+1,none⟩=some (.int .i64 s.ai)/\w.cell? ⟨b,o+2,none⟩=some (.int .i64 s.ag)/\w.cell? ⟨b,o+3,none⟩=some (.int .i64 s.ar)/\w.cell? ⟨b,o+4,none⟩=some (.int .i64 s.ax)/\w.cell? ⟨b,o+5,none⟩=some (.bool s.au)/\w.cell? ⟨b,o+6,none⟩=some (.string s.aA)
def BtAt(w:World)(b o:Nat)(s:Bt):Prop:=w.cell? ⟨b,o,none⟩=some (.string s.name)/\w.cell? ⟨b,o+1,none⟩=some (.bool s.aS)
def SvcsAt(w:World)(b off:Nat)(l:List Svc):Prop:=∀i s,l[i]?=some s->SvcAt w b (off+i*13) s
def M5(w:World)(b off:Nat)(l:List Cp):Prop:=∀i s,l[i]?=some s->CpAt w b (off+i*7) s
def BtsAt(w:World)(b off:Nat)(l:List Bt):Prop:=∀i s,l[i]?=some s->BtAt w b (off+i*2) s
theorem SvcAt.below{B:Nat}{w w':World}{b o:Nat}{s:Svc}(h:SvcAt w b o s)(hb:Below B w w')(F:b<B):SvcAt w' b o s:=by
 unfold SvcAt at *;simp only[λo=>hb.cell (p:=⟨b,o,none⟩) F];exact h
theorem CpAt.below{B:Nat}{w w':World}{b o:Nat}{s:Cp}(h:CpAt w b o s)(hb:Below B w w')(F:b<B):CpAt w' b o s:=by
 unfold CpAt at *;simp only[λo=>hb.cell (p:=⟨b,o,none⟩) F];exact h
theorem BtAt.below{B:Nat}{w w':World}{b o:Nat}{s:Bt}(h:BtAt w b o s)(hb:Below B w w')(F:b<B):BtAt w' b o s:=by
 unfold BtAt at *;simp only[λo=>hb.cell (p:=⟨b,o,none⟩) F];exact h
def inB(n lo hi:Int):Bool:=decide (lo<=n)&&decide (n<=hi)
def Hi(c:Int):Bool:=(decide (97<=c)&&decide (c<=122))||((decide (48<=c)&&decide (c<=57))||(c==45))
def DB(s:qB):Bool:=inB s.size 1 20&&s.data.toList.all λc=>Hi c.toNat
def R5(s:Svc):Bool:=if s.aM=0 then s.aC==0&&s.aK==0&&s.load==0&&s.ay==0 else inB s.aM 0 1000000&&inB s.load 0 1000000&&inB s.aC 0 10&&inB s.aK s.aC 10&&inB s.ay 0 3
def svcB(aj:Int)(s:Svc):Bool:=DB s.name&&inB s.ag 1 aj&&inB s.ar 1 1000000&&inB s.next 1 1000000&&inB s.av 0 10&&inB s.aG 0 10&&inB s.aE 0 10&& !(s.aG+s.aE==0)&&R5 s
theorem I9(s:qB):DB s=true↔inB s.size 1 20=true/\∀i (h:i<s.size),Hi (s[i]'h).toNat=true:=by
 unfold DB;rw[cY,dh];refine and_congr_right λ_=>⟨λh i F=>h _ ?_,λh c H=>?_⟩
 ·exact Array.getElem_mem_toList (by simpa using F)
 ·obtain⟨i,F,rfl⟩:=iR.1 H
  exact h i (by simpa using F)
theorem Om(s:qB)(i:Nat)(h:i<s.size)(hb:Hi (s[i]'h).toNat=false):DB s=false:=by
 cases F:DB s with
 |false=>rfl
 |true=>rw[((I9 s).1 F).2 i h]at hb;cases hb
theorem LC(s:qB)(h:inB s.size 1 20=false):DB s=false:=by
 unfold DB;rw[h];rfl
theorem AR{a b:Bool}(h:a=b):Ending.returned (.bool a)=.returned (.bool b):=by rw[h]
theorem KI{k:IntKind}{a b:Int}(h:a=b):Ending.returned (.int k a)=.returned (.int k b):=by rw[h]
theorem Cd(n lo F:Int)(w:World):
  Calls Tryz.prog 63 #[.int .i64 n,.int .i64 lo,.int .i64 F] w λe w'=>e=.returned (.bool (inB n lo F))/\w'=w:=by
 go_enter Tryz.func63,Tryz.ntmps63;go_wp2
 all_goals
  go_ret;exact⟨AR (by rw[gF];simp[inB];try omega),rfl⟩
section
variable {P:Program}
theorem Da(w:World)(g k:Nat)(cs:Array Value)(h:k≠g):(w.setRow g cs).heap[k]?=w.heap[k]?:=by
 unfold World.setRow;simp only[Array.getElem?_modify];rw[dC (by omega)]
theorem FD(w:World)(g:Nat)(cs:Array Value):(w.setRow g cs).heap.size=w.heap.size:=by
 unfold World.setRow;simp
theorem below_setRow'(w:World)(g:Nat)(cs:Array Value):Below g w (w.setRow g cs):=
 ⟨rfl,rfl,rfl,by rw[FD];exact AG _,λk hk=>Da w g k cs (by omega)⟩
theorem Jw(w:World)(g off:Nat)(t ty:TypeId)(F cells:Array Value)(Z:w.heap[g]?=some (.cells F t (0,0)))(M:(P.info? ty).map (·.size)=some cells.size)
  (H:off+cells.size<=F.size) (Y:cells.all (·.oneCell')=true):
  (storeVar ty ⟨g,off,none⟩ (.agg cells)).run P w=.ok () (w.setRow g (splice F.toList off cells.toList).toArray):=by
 have:=ie P g off t cells.toList 0 F w Z (by simpa using H) (λv hv=>(iK.1 Y) v (by simpa using hv))
 cases J:P.info? ty with
 |none=>simp[J]at M
 |some i=>
  have W:cells.size=i.size:=by simp[J]at M;omega
  simp only[fW,eB]at this;simp[storeVar,sizeOf,typeInfo,J,Value.cells,W,this,splice]
end
theorem AJ{w:World}{b:Nat}{cs:Array Value}{t:TypeId}{fr:Nat × Nat}(h:w.heap[b]?=some (.cells cs t fr))(o:Nat){v:Value}(hv:cs[o]?=some v):w.cell? ⟨b,o,none⟩=some v:=by
 rw[gH w b o cs t fr h];exact hv
theorem c4{w:World}{b:Nat}{x y z t:Value}{ty:TypeId}{fr:Nat × Nat}(h:w.heap[b]?=some (.cells #[x,y,z,t] ty fr)):w.cell? ⟨b,0,none⟩=some x/\w.cell? ⟨b,1,none⟩=some y/\w.cell? ⟨b,2,none⟩=some z/\w.cell? ⟨b,3,none⟩=some t:=⟨AJ h 0 rfl,AJ h 1 rfl,AJ h 2 rfl,AJ h 3 rfl⟩
theorem Bs{w:World}{b:Nat}{cs:Array Value}{t:TypeId}(h:w.heap[b]?=some (.cells cs t (0,0)))(o:Nat):w.frozen? ⟨b,o,none⟩=false:=by
 simp[World.frozen?,h]
theorem CE{w:World}{b:Nat}{cs:Array Value}{t:TypeId}(h:w.heap[b]?=some (.cells cs t (0,0)))(o:Nat)(v:Value):(w.setCell ⟨b,o,none⟩ v).heap[b]?=some (.cells (cs.setIfInBounds o v) t (0,0)):=by
 rw[setCell_eq_setRow w b o cs t (0,0) v h];exact gl w b cs _ t _ h
theorem CR(w:World)(a:Addr)(v:Value):(w.setCell a v).heap.size=w.heap.size:=by simp[World.setCell]
theorem MM(w:World)(A B C:Obj):(((w.alloc A).alloc B).alloc C).heap[w.heap.size]?=some A/\(((w.alloc A).alloc B).alloc C).heap[w.heap.size+1]?=some B/\(((w.alloc A).alloc B).alloc C).heap[w.heap.size+1+1]?=some C/\(((w.alloc A).alloc B).alloc C).heap.size=w.heap.size+1+1+1:=by
 have e:(((w.alloc A).alloc B).alloc C).heap=((w.heap.push A).push B).push C:=rfl;rw[e];refine⟨?_,?_,?_,by simp⟩
 ·rw[dk,dC (by simp;omega),dk,dC (by simp),dk,dB rfl]
 ·rw[dk,dC (by simp),dk,dB (by simp)]
 ·rw[dk,dB (by simp)]
def Svc.cells(s:Svc):List Value:=((qsV s):Array Value).toList
def Cp.cells(s:Cp):List Value:=((qcV s):Array Value).toList
def Bt.cells(s:Bt):List Value:=(#[.string s.name,.bool s.aS]:Array Value).toList
theorem Lc{w:World}{b:Nat}{F:Array Value}{t:TypeId}{fr:Nat × Nat}(h:w.heap[b]?=some (.cells F t fr))(o:Nat):w.cell? ⟨b,o,none⟩=F.toList[o]?:=by
 rw[gH w b o F t fr h];simp
section
variable {P:Program} {ops:Array Oper} {md:Region.Mode} {Q:Exit->Act->World->Prop}
def Ae(ops:Array Oper)(V:Nat->Value):Nat->Act->Act
 |0,a=>a
 |n+1,a=>(Ae ops V n a).put ((ops[n]?).bind (·.dst)) (V n)
def upd(V:Nat->Value)(i:Nat)(v:Value):Nat->Value:=λj=>if j=i then v else V j
theorem put_put(a:Act)(d:Option Tmp)(u v:Value):(a.put d u).put d v=a.put d v:=by
 cases d<;>simp[Act.put]
theorem K0(V:Nat->Value)(i:Nat)(v:Value)(a:Act):∀n,n<=i->Ae ops (upd V i v) n a=Ae ops V n a
 |0,_=>rfl
 |n+1,h=>by
  have e:upd V i v n=V n:=by simp[upd];omega
  simp only[Ae,e,K0 V i v a n (by omega)]
def Cs(ops:Array Oper)(n:Nat):Bool:=
 (List.range n).all λj=>(List.range j).all λi=>match (ops[i]?).bind (·.dst) with
  |some d=>(ops[j]?).bind (·.dst)!=some d
  |none=>true
theorem FE{n:Nat}(h:Cs ops n=true){i j:Nat}(F:i<j)(M:j<n):∀d,(ops[i]?).bind (·.dst)=some d->(ops[j]?).bind (·.dst)≠some d:=by
 intro d J;have H:=dh.1 (dh.1 h j (dA.2 M)) i (dA.2 F);rw[J]at H
 simpa using H
theorem Eo{V:Nat->Value}{i:Nat}{v:Value}{a:Act}:∀{n:Nat},Cs ops n=true->i<n->(Ae ops V n a).put ((ops[i]?).bind (·.dst)) v=Ae ops (upd V i v) n a
 |0,_,h=>absurd h (by omega)
 |n+1,F,h=>by
  have H:Cs ops n=true:=by
   unfold Cs at F ⊢;refine dh.2 λj M=>dh.1 F j (dA.2 (by have:=dA.1 M;omega))
  by_cases J:i=n
  ·subst J
   simp only[Ae,put_put,K0 V i v a i (AG _)];simp[upd]
  ·have e:upd V i v n=V n:=by simp[upd];omega
   simp only[Ae,e];rw[<-Eo (V:=V) (i:=i) (v:=v) (a:=a) H (by omega)];exact(Act.put_comm _ _ _ (FE F (by omega) (by omega))).symm
theorem D1(a:Act)(n:Nat):Ae ops (λj=>match (ops[j]?).bind (·.dst) with|some d=>a.tmps.getD d undef|none=>undef) n a=a:=by
 induction n with
 |zero=>rfl
 |succ n H=>
  simp only[Ae,H]
  cases (ops[n]?).bind (·.dst) with
  |none=>rfl
  |some d=>
   simp only[Act.put]
   congr 1
   apply Array.ext
   ·simp
   ·intro i M J
    by_cases F:d=i
    ·subst F;simp[J]
    ·rw[Array.getElem_setIfInBounds_ne (h:=F)]
def Bw(n:Nat)(listed:Array Bool):Nat:=(List.range n).countP λi=>!listed.getD i true
theorem LW(p:Nat->Bool)(i:Nat)(H:p i=true):∀l:List Nat,l.Nodup->i∈l->l.countP p=l.countP (λj=>p j&&j !=i)+1
 |[],_,h=>by cases h
 |x::l,F,h=>by
  rw[List.nodup_cons]at F
  by_cases hx:x=i
  ·subst hx
   have:l.countP (λj=>p j&&j !=x)=l.countP p:=by
    refine List.countP_congr λj M=>?_
    have:j≠x:=λe=>F.1 (e▸M)
    simp[this]
   rw[fa,fa,this];simp[H]
  ·have W:i∈l:=by rcases dy.1 h with h|h;exact absurd h.symm hx;exact h
   have J:=LW p i H l F.2 W;rw[fa,fa,J];have:(x !=i)=true:=by simpa using hx
   rw[this,iu];omega
theorem Er{n i:Nat}{F:Array Bool}(W:i<n)(M:i<F.size)(J:F.getD i true=false):Bw n F=Bw n (F.setIfInBounds i true)+1:=by
 unfold Bw;rw[LW _ i (by simp only[J];rfl) _ List.nodup_range (dA.2 W)]
 congr 1
 refine List.countP_congr λj Y=>?_
 by_cases H:j=i
 ·subst H
  have:(F.setIfInBounds j true).getD j true=true:=by simp[M]
  simp
 ·rw[fQ true (Ne.symm H)]
  simp[H]
def EL(md:Region.Mode)(ops:Array Oper)(n:Nat):Bool:=
 (List.range n).all λi=>match ops[i]? with
  |some o=>o.after.all λe=>!Region.binds md e||decide (e.on<i)
  |none=>false
def Br(ops:Array Oper)(n:Nat):Array Bool:=Array.ofFn (n:=ops.size) λi=>decide (i.val<n)
theorem DH{n:Nat}{F:Array Bool}(H:HeadInv md ops n F)(J:∀i,i<n->F.getD i true=true):F=Br ops n:=by
 apply Array.ext
 ·simp[Br,H.size]
 ·intro i M Y
  simp only[Br,Array.getElem_ofFn]
  by_cases W:i<n
  ·have:=J i W
   simp[M]at this;simp[this,W]
  ·have:=H.tail i (by omega) (by rw[<-H.size];exact M)
   simp[M]at this;simp[this,W]
theorem D3{n:Nat}{F:Array Bool}(Z:EL md ops n=true)(W:HeadInv md ops n F):∀(i:Nat),i<n->F.getD i true=false->Region.ready md ops F≠[]:=by
 intro i
 induction i using Nat.strongRecOn with
 |_ i ih=>
  intro hi hu;have M:=dh.1 Z i (dA.2 hi)
  cases J:ops[i]? with
  |none=>rw[J]at M;cases M
  |some o=>
   rw[J]at M
   by_cases H:∀e∈o.after,Region.binds md e=true->F.getD e.on false=true
   ·have:i∈Region.ready md ops F:=iO.2 ⟨hu,o,J,H⟩
    intro h;rw[h]at this;cases this
   ·simp only[Classical.not_forall]at H
    obtain⟨e,he,hb,hl⟩:=H;have h2:=fD.1 M e he;rw[hb]at h2;have h3:e.on<i:=by simpa using h2
    refine ih e.on h3 (by omega) ?_
    have Y:e.on<F.size:=by
     have:=(AB J).1;rw[W.size];omega
    exact getD_in Y (by simpa using hl)
def Cj(K:Act->World->Prop):Exit->Act->World->Prop
 | .normal,a,w=>K a w
 |_,_,_=>False
theorem Oper.cG{o:Oper}{a:Act}{w:World}{L K:Act->World->Prop}(F:o.wp P a w L (Cj K)):o.wp P a w L Q:=by
 unfold Oper.wp at *;generalize (execOp a.eval o).run P w=r at *
 cases r with
 |ok n w'=>
  cases n<;>simp only[Oper.upon]at F ⊢<;>
   first
    |exact F
    |exact Calls.mono F (λe J H=>by cases e<;>first|exact H|exact False.elim H|exact(let ⟨_,_,h⟩:=H;False.elim h))
 |halt x w'=>cases x<;>simp only[Oper.upon]at F ⊢<;>first|exact F|exact False.elim F
theorem DV{i:Nat}{o:Oper}{a:Act}{W:World}{K:Act->World->Prop}(J:ops[i]?=some o)(h:wpList P ops (Cj K) [o] a W):wpOp P ops Q i K a W:=by
 unfold wpOp;simp only[J];simp only[wpList]at h;split at h
 ·rename_i F
  rw[dB F];rcases h with h|⟨_,_,_,H⟩
  ·exact .inl (Oper.cG (Go.Oper.wp_mono (λ_ _ h=>h) h))
  ·exact False.elim H
 ·rename_i F
  rw[dC F];exact h
def Lv(P:Program)(ops:Array Oper)(a0:Act)(n:Nat)(w0:World)(S:Nat->Value->World->Prop)(i:Nat)(o:Oper)(T:Value->World->Prop):Prop:=
 ∀(V:Nat->Value) (W:World) (K:Act->World->Prop),Below w0.heap.size w0 W->(∀j,Region.waitsFor .any ops i j=true->S j (V j) W)->
  Hid (∀v W',Below W.heap.size W W'->T v W'->K ((Ae ops V n a0).put o.dst v) W')->wpList P ops (Cj K) [o] (Ae ops V n a0) W
def Lu(T:Value->World->Prop):Prop:=∀v W W',T v W->Below W.heap.size W W'->T v W'
theorem Kb{n g:Nat}{S:Nat->Value->World->Prop}{w0:World}{a0:Act}
  (hw:∀F,HeadInv .any ops n F->∀i,i<n->F.getD i true=false->∀t,n<=t->t∉Region.ready .any ops F)
  (hn:n<=ops.size) (ag:EL .any ops n=true) (hd:Cs ops n=true)
  (aq:∀j,Lu (S j))
  (ar:∀i o,i<n->ops[i]?=some o->Lv P ops a0 n w0 S i o (S i))
  (Z:∀V W,Below w0.heap.size w0 W->(∀j,j<n->S j (V j) W)->wpAny P .any ops Q g (Br ops n) (Ae ops V n a0) W):
  ∀(m:Nat) (F:Array Bool) (V:Nat->Value) (W:World),HeadInv .any ops n F->Bw n F=m->Below w0.heap.size w0 W->(∀j,j<n->F.getD j false=true->S j (V j) W)->
   wpAny P .any ops Q (m+g) F (Ae ops V n a0) W
 |0,F,V,W,H,hm,hb,hS=>by
  have J:∀i,i<n->F.getD i true=true:=by
   intro i hi;have:=fZ.1 hm i (dA.2 hi)
   simpa using this
  rw[DH H J,dJ];refine Z V W hb λj hj=>hS j hj ?_
  have:=J j hj;have ax:j<F.size:=by rw[H.size];omega
  simp[ax]at this ⊢;exact this
 |m+1,F,V,W,H,hm,hb,hS=>by
  obtain⟨u,hu,aa⟩:∃u,u<n/\F.getD u true=false:=by
   have:0<Bw n F:=by omega
   obtain⟨u,hu,aa⟩:=gP.1 this;exact⟨u,dA.1 hu,by simpa using aa⟩
  rw[show m+1+g=(m+g)+1 by omega];refine⟨λh0=>absurd h0 (D3 ag H u hu aa),λi hi=>?_⟩
  have Y:i<n:=by
   rcases eG i n with h|h
   ·exact h
   ·exact absurd hi (hw F H u hu aa i h)
  obtain⟨aE,o,ho,J⟩:=iO.1 hi;refine DV ho (ar i o Y ho V W _ hb (λj hj=>?_) λv W' M aA=>?_)
  ·obtain⟨oj,aC,e,he,an,aw⟩:=Region.waitsFor_spec hj
   have:oj=o:=dg (aC.symm.trans ho);subst this;have hl:=J e he an;rw[aw]at hl
   have ay:j<n:=by
    have h1:=dh.1 ag i (dA.2 Y);rw[ho]at h1;have h2:=fD.1 h1 e he;rw[an]at h2;have h3:e.on<i:=by simpa using h2
    omega
   exact hS j ay hl
  ·have ak:o.dst=(ops[i]?).bind (·.dst):=by rw[ho];rfl
   rw[ak,Eo hd Y];have az:i<F.size:=by rw[H.size];exact(AB ho).1
   refine Kb hw hn ag hd aq ar Z m _ _ W' (H.set hi Y) (by have:=Er Y az aE;omega) (hb.trans ⟨M.os,M.tape,M.output,M.size,λk hk=>M.block k (AF hk hb.size)⟩) λj hj hl=>?_
   by_cases af:j=i
   ·subst af
    simpa [upd] using aA
   ·rw[fQ false (Ne.symm af)]at hl
    have:=aq j (V j) W W' (hS j hj hl) M
    simpa [upd,af] using this
def Ap(ops:Array Oper)(n:Nat):Bool:=
 decide (n<ops.size)&&Region.sinkB .any ops n&&Region.chainB .any ops n&&EL .any ops n&&Cs ops n&&Region.seqB .any ops (ops.size - n) n (Br ops n)
theorem KY{id:Nat}{a:Act}{w:World}{l:List Oper}(n:Nat)(S:Nat->Value->World->Prop)(hm:P.follows .mixedOrders=true)(hB:Ap l.toArray n=true)
  (al:∀j,Lu (S j)) (an:∀i o,i<n->l.toArray[i]?=some o->Lv P l.toArray a n w S i o (S i))
  (J:∀V W,Below w.heap.size w W->(∀j,j<n->S j (V j) W)->wpList P l.toArray Q (l.drop n) (Ae l.toArray V n a) W):(Code.region id l.toArray true).wp P Q a w:=by
 simp only[Ap,cY,dM]at hB;obtain⟨⟨⟨⟨⟨hn,hs⟩,hc⟩,am⟩,hd⟩,Z⟩:=hB;refine iw hm ?_
 have M:HeadInv .any l.toArray n (Array.replicate l.toArray.size false):=
  ⟨by simp,λj oj _ Y=>(by rw[getD_replicate_false]at Y;cases Y),λt _ ht=>getD_in (by simpa using ht) (getD_replicate_false _ _)⟩
 have ag:Below w.heap.size w {w with drawn:=w.drawn+1}:=⟨rfl,rfl,rfl,AG _,λ_ _=>rfl⟩
 have F:Bw n (Array.replicate l.toArray.size false)=n:=by
  unfold Bw;rw[gh.2]
  ·simp
  ·intro i hi
   have:i<l.toArray.size:=by have:=dA.1 hi;omega
   rw[getD_in (by simpa using this) (getD_replicate_false _ _)];rfl
 have H:=Kb (P:=P) (Q:=Q) (g:=l.toArray.size - n) (S:=S) (w0:=w) (a0:=a) (λaf ak i hi hu t ht=>tail_waits hs hc hn ak _ i rfl hi hu t ht) (by omega) am hd al an
  (λV W hb hS=>by
   have aa:(l.drop n).length=l.toArray.size - n:=by simp
   have:=wpAny_of_seq (md:=.any) (Q':=Q) (l.drop n) n (Br l.toArray n) _ W (λj=>by simp[ej]) (by rw[aa];exact Z) (J V W hb hS)
   rwa [aa]at this)
  n _ (λj=>match (l.toArray[j]?).bind (·.dst) with|some d=>a.tmps.getD d undef|none=>undef) {w with drawn:=w.drawn+1} M F ag (λj _ Y=>by rw[getD_replicate_false]at Y;cases Y)
 rw[D1,show n+(l.toArray.size - n)=l.toArray.size by omega]at H;exact H
def Is(S:Nat->Value->World->Prop)(i:Nat)(T:Value->World->Prop):Nat->Value->World->Prop:=λj=>match Nat.beq j i with
 |true=>T
 |false=>S j
def Eu(P:Program)(ops:Array Oper)(a0:Act)(n:Nat)(w0:World)(L:(Nat->Value->World->Prop)->Prop):List Oper->Nat->(Nat->Value->World->Prop)->Prop
 |[],_,S=>L S
 |o::rest,i,S=>∃T,Lu T/\Lv P ops a0 n w0 S i o T/\Eu P ops a0 n w0 L rest (i+1) (Is S i T)
theorem AW{a0:Act}{n:Nat}{w0:World}{L:(Nat->Value->World->Prop)->Prop}{o:Oper}{rest:List Oper}{i:Nat}{S:Nat->Value->World->Prop}(T:Value->World->Prop)(J:Lu T)
  (h:∀(V:Nat->Value) (W:World) (K:Act->World->Prop) (A:Act),Below w0.heap.size w0 W->(∀j,Region.waitsFor .any ops i j=true->S j (V j) W)->Hid (A=Ae ops V n a0)->
   Hid (∀v W',Below W.heap.size W W'->T v W'->K (A.put o.dst v) W')->wpList P ops (Cj K) [o] A W)
  (H:Eu P ops a0 n w0 L rest (i+1) (Is S i T)):Eu P ops a0 n w0 L (o::rest) i S:=⟨T,J,λV W K hb F M=>h V W K _ hb F rfl M,H⟩
theorem AL{a0:Act}{n:Nat}{w0:World}{L:(Nat->Value->World->Prop)->Prop}{o:Oper}{rest:List Oper}{i:Nat}{S:Nat->Value->World->Prop}{u:Value}
  (h:∀(V:Nat->Value) (W:World) (K:Act->World->Prop) (A:Act),Below w0.heap.size w0 W->(∀j,Region.waitsFor .any ops i j=true->S j (V j) W)->Hid (A=Ae ops V n a0)->
   Hid (∀W',Below W.heap.size W W'->K (A.put o.dst u) W')->wpList P ops (Cj K) [o] A W)
  (J:Eu P ops a0 n w0 L rest (i+1) (Is S i λv _=>v=u)):Eu P ops a0 n w0 L (o::rest) i S:=
 ⟨λv _=>v=u,λ_ _ _ h _=>h,λV W K hb H M=>h V W K _ hb H rfl λW' F=>M.O u W' F rfl,J⟩
theorem Eb(S:Nat->Value->World->Prop)(i:Nat)(T:Value->World->Prop):Is S i T i=T:=by simp[Is]
theorem DJ(S:Nat->Value->World->Prop){i j:Nat}(T:Value->World->Prop)(h:j≠i):Is S i T j=S j:=by
 have:Nat.beq j i=false:=by
  cases hb:Nat.beq j i with
  |false=>rfl
  |true=>exact absurd (cX hb) h
 simp[Is,this]
theorem IZ{a0:Act}{n:Nat}{w0:World}{L:(Nat->Value->World->Prop)->Prop}(Y:EL .any ops n=true):∀(l:List Oper) (k:Nat) (S:Nat->Value->World->Prop),k+l.length=n->(∀j,j<l.length->l[j]?=ops[k+j]?)->
  (∀j,Lu (S j))->(∀i o,i<k->ops[i]?=some o->Lv P ops a0 n w0 S i o (S i))->Eu P ops a0 n w0 L l k S->
  ∃Z,(∀j,Lu (Z j))/\(∀i o,i<n->ops[i]?=some o->Lv P ops a0 n w0 Z i o (Z i))/\L Z
 |[],k,S,hk,_,hl,F,h=>⟨S,hl,by rw[show n=k by simpa using hk.symm];rw[show n=k by simpa using hk.symm]at F;exact F,h⟩
 |o::l,k,S,hk,hs,hl,F,⟨T,hT,ho,h⟩=>by
  have h0:ops[k]?=some o:=by simpa using (hs 0 (by simp)).symm
  have J:∀i j,i<n->Region.waitsFor .any ops i j=true->j<i:=λi j hi H=>by
   obtain⟨oj,ai,e,he,ag,au⟩:=Region.waitsFor_spec H;have h1:=dh.1 Y i (dA.2 hi);rw[ai]at h1;have h2:=fD.1 h1 e he;rw[ag]at h2;have h3:e.on<i:=by simpa using h2
   omega
  have af:k<n:=by simp only[dL]at hk;omega
  refine IZ Y l (k+1) _ (by simp only[dL]at hk;omega) (λj H=>by have:=hs (j+1) (by simp;omega);simpa [eq,iE 1 j] using this) (λj=>?_) (λi o' hi M=>?_) h
  ·by_cases e:j=k
   ·subst e;rw[Eb];exact hT
   ·rw[DJ _ _ e];exact hl j
  ·by_cases e:i=k
   ·subst e
    have:o'=o:=dg (M.symm.trans h0);subst this;rw[Eb];exact λV W K hb hd hK=>ho V W K hb (λj H=>by have:=hd j H;rwa [DJ _ _ (by have:=J i j af H;omega)]at this) hK
   ·rw[DJ _ _ e]
    exact λV W K hb hd hK=>F i o' (by omega) M V W K hb (λj H=>by have:=hd j H;rwa [DJ _ _ (by have:=J i j (by omega) H;omega)]at this) hK
theorem AV{id:Nat}{a:Act}{w:World}{l:List Oper}(n:Nat)(Y:P.follows .mixedOrders=true)(J:Ap l.toArray n=true)
  (h:Eu P l.toArray a n w (λS=>∀V W A,Below w.heap.size w W->(∀j,j<n->S j (V j) W)->Hid (A=Ae l.toArray V n a)->wpList P l.toArray Q (l.drop n) A W) (l.take n) 0 λ_ _ _=>True):(Code.region id l.toArray true).wp P Q a w:=by
 have F:=J;simp only[Ap,cY,dM]at F;obtain⟨⟨⟨⟨⟨hn,_⟩,_⟩,H⟩,_⟩,_⟩:=F;have ak:n<l.length:=by simpa using hn
 obtain⟨S,h1,h2,h3⟩:=IZ H (l.take n) 0 _ (by simp;omega) (λj hj=>by
  have:j<n:=by simp at hj;omega
  simp[this]) (λ_ _ _ _ _ _=>trivial) (λi o M=>absurd M (by omega)) h
 exact KY n S Y J h1 h2 λV W hb Z=>h3 V W _ hb Z rfl
end
theorem pA:(∀(ops:Array Oper) (V:Nat->Value) (a:Act),Ae ops V 0 a=a)/\(∀(ops:Array Oper) (V:Nat->Value) (n:Nat) (a:Act),Ae ops V (n+1) a=(Ae ops V n a).put ((ops[n]?).bind (·.dst)) (V n))/\
 (∀(l:List Oper) (i:Nat),l.toArray[i]?=l[i]?)/\(∀(a:Oper) (l:List Oper) (i:Nat),(a::l)[i+1]?=l[i]?)/\(∀(a:Oper) (l:List Oper),(a::l)[0]?=some a)/\(∀(a:Oper) (f:Oper->Option Tmp),(some a).bind f=f a)/\
 (∀(t:Array Value) (d:List Deferred) (i:Tmp) (v:Value),Act.put ⟨t,d⟩ (some i) v=⟨t.setIfInBounds i v,d⟩)/\(∀(a:Act) (v:Value),Act.put a none v=a)/\
 (∀(l:qL) (i:Nat) (a:Value),l.toArray.setIfInBounds i a=(l.set i a).toArray)/\(∀(x:Value) (xs:qL) (n:Nat) (a:Value),(x::xs).set (n+1) a=x::xs.set n a)/\(∀(x:Value) (xs:qL) (a:Value),(x::xs).set 0 a=a::xs):=
 ⟨λ_ _ _=>rfl,λ_ _ _ _=>rfl,λ_ _=>by simp,λ_ _ _=>by simp,λ_ _=>by simp,λ_ _=>rfl,λ_ _ _ _=>rfl,λ_ _=>rfl,λ_ _ _=>by simp,λ_ _ _ _=>rfl,λ_ _ _=>rfl⟩
theorem brf{N:Nat}{w:World}:Below N w w:=dI N w
def RowIs(w:World)(e:TypeId)(size g n cap:Nat)(xs:qL):Prop:=
 xs.length=n*size/\n<=cap/\∃cur:Array Value,w.heap[g]?=some (.cells cur e (0,0))/\cur.size=cap*size/\cur.toList.take (n*size)=xs
theorem RowIs.lt{w:World}{e:TypeId}{size g n cap:Nat}{xs:qL}(h:RowIs w e size g n cap xs):g<w.heap.size:=by
 obtain⟨_,_,H,F,_⟩:=h;exact(AB F).1
theorem RowIs.aR{w w':World}{e:TypeId}{size g n cap:Nat}{xs:qL}(h:RowIs w e size g n cap xs)(hb:w'.heap[g]?=w.heap[g]?):RowIs w' e size g n cap xs:=by
 obtain⟨H,J,F,M,r⟩:=h;exact⟨H,J,F,hb.trans M,r⟩
theorem RowIs.below{w w':World}{e:TypeId}{size g n cap N:Nat}{xs:qL}(h:RowIs w e size g n cap xs)(hb:Below N w w')(F:g<N):RowIs w' e size g n cap xs:=h.aR (hb.block g F)
theorem RowIs.cell{w:World}{e:TypeId}{size g n cap:Nat}{xs:qL}(h:RowIs w e size g n cap xs){j:Nat}{u:Value}(F:xs[j]?=some u):w.cell? ⟨g,j,none⟩=some u:=by
 obtain⟨Y,Z,M,J,W,H⟩:=h;rw[Lc J];rw[<-H,eK]at F;split at F
 ·exact F
 ·cases F
theorem RowIs.new(w:World)(e:TypeId)(size:Nat):RowIs (w.alloc (.cells #[] e)) e size w.heap.size 0 0 []:=
 ⟨by simp,AG _,#[],dm w _,by simp,by simp⟩
theorem GY{w w':World}{g N:Nat}(h:w.grownBy w' (some g))(H:N<=g)(F:N<=w.heap.size):Below N w w':=
 ⟨h.os,h.tape,h.output,h.size,λk hk=>h.block k (by omega) (λe=>by have:=dg e;omega)⟩
theorem QD(w:World)(r:Option Nat):w.grownBy w r:=⟨rfl,rfl,rfl,AG _,λ_ _ _=>rfl⟩
theorem FX{w:World}{b:Nat}{cs:Array Value}{t:TypeId}{fr:Nat × Nat}(h:w.heap[b]?=some (.cells cs t fr)):∀j u,cs.toList[j]?=some u->w.cell? ((⟨b,0,none⟩:Addr).add j)=some u:=λj u F=>by
 rw[fJ,Lc h,dJ];exact F
section
variable {P:Program}
theorem GJ(w:World)(t ty e:TypeId)(z:Value)(size bytes:Nat)(ht:P.underlying t=some (.slice e))(ah:(P.info? e).map (λi=>(i.zero,i.size,i.bytes))=some (some z,size,bytes))(av:z.cells.size=size)
  (g n cap:Nat) (xs:qL) (Z:RowIs w e size g n cap xs)
  (ad:Addr) (m c:Nat) (F:qL) (hl:F.length=m*size) (M:∀j u,F[j]?=some u->w.cell? (ad.add j)=some u) (h1:∀u∈F,u.oneCell'=true)
  (an:n+m<=maxLen) (W:(n+m)*bytes<=140737488355328):
  ∃g' Y w',(Builtin.append_ #[t,t] ty #[.slice (qad g) n cap,.slice (some ad) m c]).run P w=.ok (.slice (qad g') (n+m) Y) w'/\(g'=g\/g'=w.heap.size)/\
   RowIs w' e size g' (n+m) Y (xs++F)/\w.grownBy w' (some g):=by
 obtain⟨i,hi,hz,hs,hb⟩:=gA ah;subst hs hb;have aw:=Z;obtain⟨hx,aE,ag,hg,ar,af⟩:=Z;have J:(xs++F).length=(n+m)*i.size:=by rw[dE,hx,hl,fi]
 have al:n+m<=9223372036854775807:=by simp only[maxLen]at an;omega
 by_cases H:n+m<=cap
 ·have ak:n*i.size+F.length<=ag.size:=by rw[hl,ar,<-fi];exact ed _ H
  have hr:=iV (P:=P) w t ty e i ht hi g n cap ag hg ad m c F hl M h1 H ak;refine⟨g,cap,_,hr,.inl rfl,⟨J,H,_,gl w g ag _ e _ hg,?_,?_⟩,⟨rfl,rfl,rfl,by simp,λk _ hk=>setRow_other w g k _ (λe=>hk (by rw[e]))⟩⟩
  ·simp only[ek,dE,dG,dW,dT]
   omega
  ·rw[af,<-J]
   exact ig
 ·have aa:∀j u,xs[j]?=some u->w.cell? ((⟨g,0,none⟩:Addr).add j)=some u:=λj u hu=>by
   have:=aw.cell hu
   simpa [fJ] using this
  have hr:=run_append_grow (P:=P) w t ty e i z ht hi hz ⟨g,0,none⟩ n cap xs hx aa ad m c F hl M (by omega) (by omega) (i7 (by omega) W);have au:=grownCap_ge w (n+m) cap e;refine⟨w.heap.size,_,_,hr,.inr rfl,⟨J,au,_,dm w.drew _,?_,?_⟩,⟨rfl,rfl,rfl,by simp,λk hk _=>by show(w.heap.push _)[k]?=_;rw[dk,dC (by omega)]⟩⟩
  ·simp only[iG,ek,iF,av,hx,hl,<-fi]
   congr 1
   omega
  ·simp only[ip,eB]
   rw[<-eB,<-J];exact ig
theorem DW{ops:Array Oper}{rest:List Oper}{o:Oper}{a:Act}{w:World}{Q:Exit->Act->World->Prop}(af:o.guard=none)(s x:Operand)(t:TypeId)
  (ho:o.op=.call {callee:=.builtin .append,args:=#[s,x],argTypes:=#[t,t]})
  (e:TypeId) (z:Value) (size bytes:Nat) (ht:P.underlying t=some (.slice e)) (W:(P.info? e).map (λi=>(i.zero,i.size,i.bytes))=some (some z,size,bytes)) (ag:z.cells.size=size)
  (g n cap:Nat) (xs:qL) (hs:a.eval s=.slice (qad g) n cap) (Z:RowIs w e size g n cap xs)
  (ad:Addr) (m c:Nat) (F:qL) (hx:a.eval x=.slice (some ad) m c) (hl:F.length=m*size) (M:∀j u,F[j]?=some u->w.cell? (ad.add j)=some u) (h1:∀u∈F,u.oneCell'=true)
  (aa:n+m<=maxLen) (J:(n+m)*bytes<=140737488355328)
  (h:∀Y H w',(Y=g\/Y=w.heap.size)->Hid (RowIs w' e size Y (n+m) H (xs++F))->w.grownBy w' (some g)->wpList P ops Q rest (a.put o.dst (.slice (qad Y) (n+m) H)) w'):wpList P ops Q (o::rest) a w:=by
 refine fA af λK hK=>?_
 obtain⟨Y,H,w',hr,h2,h3,h4⟩:=GJ (P:=P) w t o.type e z size bytes ht W ag g n cap xs Z ad m c F hl M h1 aa J;unfold Oper.wp execOp;simp only[ho,resolve,invoke,builtin,ew,Sem.run_pure,Result.andThen_ok,fx,dz,dP,hs,hx,hr];exact hK _ _ (h Y H w' h2 h3 h4)
end
section
variable {P:Program}
structure A6(g:Nat)(w w':World):Prop where
 aB:∀k,k≠g->w'.heap[k]?=w.heap[k]?
 below:Below g w w'
 size:w'.heap.size=w.heap.size
theorem DU(w:World)(g:Nat)(cs:Array Value):A6 g w (w.setRow g cs):=⟨λk hk=>Da w g k cs hk,below_setRow' w g cs,FD w g cs⟩
theorem Iy(w:World)(g off:Nat)(t ty:TypeId)(F:Array Value)(v:Value)(Y:w.heap[g]?=some (.cells F t (0,0)))(M:(P.info? ty).map (·.size)=some 1)(hv:v.cells=#[v])
  (H:off+1<=F.size) (h1:v.oneCell'=true):
  (storeVar ty ⟨g,off,none⟩ v).run P w=.ok () (w.setRow g (splice F.toList off [v]).toArray):=by
 have:=ie P g off t [v] 0 F w Y (by simpa using H) (λu W=>by simp at W;subst W;exact h1)
 cases J:P.info? ty with
 |none=>simp[J]at M
 |some i=>
  have Z:i.size=1:=by simpa [J] using M
  simp only[fW,eB]at this;simp[storeVar,sizeOf,typeInfo,J,hv,Z,this,splice]
theorem BC{ops:Array Oper}{rest:List Oper}{o:Oper}{a:Act}{w:World}{Q:Exit->Act->World->Prop}(J:o.guard=none)(ty:TypeId)(x y:Operand)(Z:o.op=.store ty x y)
  (g off:Nat) (v:Value) (hx:a.eval x=.pointer (some ⟨g,off,none⟩)) (W:a.eval y=v) (Y:(P.info? ty).map (·.size)=some 1) (hv:v.cells=#[v]) (h1:v.oneCell'=true)
  (t:TypeId) (F:Array Value) (M:w.heap[g]?=some (.cells F t (0,0))) (H:off+1<=F.size)
  (h:∀w',Hid (w'.heap[g]?=some (.cells (splice F.toList off [v]).toArray t (0,0)))->A6 g w w'->wpList P ops Q rest (a.put o.dst undef) w'):wpList P ops Q (o::rest) a w:=by
 refine fA J λK hK=>?_
 unfold Oper.wp execOp;simp only[Z,hx,W,Instr.storeAt,Instr.sureAddr,ew,Sem.run_pure,Result.andThen_ok,Iy w g off t ty F v M Y hv H h1];exact hK _ _ (h _ (gl w g F _ t _ M) (DU w g _))
theorem AM{ops:Array Oper}{rest:List Oper}{o:Oper}{a:Act}{w:World}{Q:Exit->Act->World->Prop}(J:o.guard=none)(ty:TypeId)(x y:Operand)(Z:o.op=.store ty x y)
  (g off:Nat) (cells:Array Value) (hx:a.eval x=.pointer (some ⟨g,off,none⟩)) (W:a.eval y=.agg cells) (t:TypeId) (F:Array Value) (M:w.heap[g]?=some (.cells F t (0,0)))
  (Y:(P.info? ty).map (·.size)=some cells.size) (H:off+cells.size<=F.size) (h1:cells.all (·.oneCell')=true)
  (h:∀w',Hid (w'.heap[g]?=some (.cells (splice F.toList off cells.toList).toArray t (0,0)))->A6 g w w'->wpList P ops Q rest (a.put o.dst undef) w'):wpList P ops Q (o::rest) a w:=by
 refine fA J λK hK=>?_
 unfold Oper.wp execOp;simp only[Z,hx,W,Instr.storeAt,Instr.sureAddr,ew,Sem.run_pure,Result.andThen_ok,Jw w g off t ty F cells M Y H h1];exact hK _ _ (h _ (gl w g F _ t _ M) (DU w g _))
end
section
variable {P:Program}
theorem Ih(w:World)(g:Nat)(F:Array Value)(t:TypeId)(H:w.heap[g]?=some (.cells F t (0,0))):Below w.heap.size w (w.setRow g F):=
 ⟨rfl,rfl,rfl,by rw[FD];exact AG _,λk _=>by
  by_cases h:k=g
  ·subst h;rw[gl w k F F t _ H,H]
  ·exact Da w g k F h⟩
theorem I1(w:World)(t ty e:TypeId)(z:Value)(size bytes:Nat)(ht:P.underlying t=some (.slice e))(H:(P.info? e).map (λi=>(i.zero,i.size,i.bytes))=some (some z,size,bytes))(an:z.cells.size=size)
  (g:Nat) (hg:w.heap[g]?=some (.cells #[] e (0,0)))
  (ao:qO) (m c:Nat) (F:qL) (Y:F.length=m*size) (Z:m≠0->∃ad,ao=some ad/\∀j u,F[j]?=some u->w.cell? (ad.add j)=some u) (h1:∀u∈F,u.oneCell'=true)
  (ai:m<=maxLen) (J:m*bytes<=140737488355328):
  ∃g' M w',(Builtin.append_ #[t,t] ty #[.slice (qad g) 0 0,.slice ao m c]).run P w=.ok (.slice (qad g') m M) w'/\(g'=g\/g'=w.heap.size)/\RowIs w' e size g' m M F/\Below w.heap.size w w':=by
 by_cases hm:m=0
 ·subst hm
  have hn:F=[]:=gp (by simpa using Y);subst hn;obtain⟨i,hi,hz,hs,hb⟩:=gA H;subst hs hb
  cases ao with
  |none=>
   refine⟨g,0,w,?_,.inl rfl,⟨by simp,AG _,#[],hg,by simp,by simp⟩,dI _ _⟩;simp[Builtin.append_,fC ht,sizeOf,typeInfo,hi,Builtin.lenOf,Builtin.firstCells,storeCells]
  |some ad=>
   have hr:=iV (P:=P) w t ty e i ht hi g 0 0 #[] hg ad 0 c [] (by simp) (by simp) (by simp) (AG _) (by simp);refine⟨g,0,_,by simpa using hr,.inl rfl,⟨by simp,AG _,#[],gl w g #[] #[] e _ hg,by simp,by simp⟩,Ih w g #[] e hg⟩
 ·obtain⟨ad,rfl,W⟩:=Z hm
  obtain⟨i,hi,hz,hs,hb⟩:=gA H;subst hs hb;have hr:=run_append_grow (P:=P) w t ty e i z ht hi hz ⟨g,0,none⟩ 0 0 [] (by simp) (by simp) ad m c F Y W (by omega) (by unfold maxLen at ai;omega) (i7 (by omega) (by simpa using J));simp only[dJ]at hr;have am:=grownCap_ge w m 0 e;refine⟨w.heap.size,_,_,hr,.inr rfl,⟨Y,am,_,dm w.drew _,?_,?_⟩,⟨rfl,rfl,rfl,by simp,λk hk=>by show(w.heap.push _)[k]?=_;rw[dk,dC (by omega)]⟩⟩
  ·simp only[iG,ek,iF,an,Y,iy,dJ]
   rw[<-fi]
   congr 1
   omega
  ·simp only[ip,eZ]
   rw[<-Y];exact ig
theorem CX{ops:Array Oper}{rest:List Oper}{o:Oper}{a:Act}{w:World}{Q:Exit->Act->World->Prop}(aa:o.guard=none)(s x:Operand)(t:TypeId)
  (ho:o.op=.call {callee:=.builtin .append,args:=#[s,x],argTypes:=#[t,t]})
  (e:TypeId) (z:Value) (size bytes:Nat) (ht:P.underlying t=some (.slice e)) (M:(P.info? e).map (λi=>(i.zero,i.size,i.bytes))=some (some z,size,bytes)) (af:z.cells.size=size)
  (g:Nat) (hs:a.eval s=.slice (qad g) 0 0) (hg:w.heap[g]?=some (.cells #[] e (0,0)))
  (ao:qO) (m c:Nat) (F:qL) (hx:a.eval x=.slice ao m c) (hl:F.length=m*size) (Y:m≠0->∃ad,ao=some ad/\∀j u,F[j]?=some u->w.cell? (ad.add j)=some u) (h1:∀u∈F,u.oneCell'=true)
  (Z:m<=maxLen) (J:m*bytes<=140737488355328)
  (h:∀W H w',(W=g\/W=w.heap.size)->Hid (RowIs w' e size W m H F)->Below w.heap.size w w'->wpList P ops Q rest (a.put o.dst (.slice (qad W) m H)) w'):wpList P ops Q (o::rest) a w:=by
 refine fA aa λK hK=>?_
 obtain⟨W,H,w',hr,h2,h3,h4⟩:=I1 (P:=P) w t o.type e z size bytes ht M af g hg ao m c F hl Y h1 Z J;unfold Oper.wp execOp;simp only[ho,resolve,invoke,builtin,ew,Sem.run_pure,Result.andThen_ok,fx,dz,dP,hs,hx,hr];exact hK _ _ (h W H w' h2 h3 h4)
end
end
end Go.Proofs.YtbceafpodamnfaaGreatDoor
