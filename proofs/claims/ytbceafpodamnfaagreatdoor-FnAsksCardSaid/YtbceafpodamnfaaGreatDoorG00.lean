import Derived.WalkKit
import Derived.Test.YtbceafpodamnfaaGreatDoorChecked
import GoSem.Claim
import GoSem.ClaimJoined
import GoSem.ClaimMapViews
import Derived.JoinedTies
import Derived.KernelRfl
import Derived.RowKit
import Derived.WalkSpells
import Derived.WalkLawsBesides
import Derived.Laws.CopyOwn
import Derived.Laws.AppendOwn
import Derived.StillTail
import Derived.Below
set_option linter.all false
set_option maxHeartbeats 400000
theorem Go.RowKit.Hid.ab{p:Prop}(h:Go.RowKit.Hid p):p:=h
theorem Go.RowKit.Below.mono'{N M:Nat}{w w':Go.World}(h:Go.RowKit.Below M w w')(z:N<=M):Go.RowKit.Below N w w':=h.mono z
namespace Go.Proofs.YtbceafpodamnfaaGreatDoor
section
abbrev qO:=Option Go.Addr
abbrev qB:=ByteArray
abbrev qL:=List Go.Value
abbrev dg:=@And.intro
abbrev dh:=@Nat.eq_of_beq_eq_true
abbrev di:=@Bool.and_eq_true
abbrev dj:=@Option.some.inj
abbrev dk:=@if_neg
abbrev dl:=@List.mem_singleton
abbrev dm:=@Go.heap_alloc_new
abbrev dt:=@List.all_eq_true
abbrev du:=@Int.toNat_natCast
abbrev dv:=@if_pos
abbrev dw:=@Array.getElem?_push
abbrev dz:=@List.getElem?_eq_getElem
abbrev dA:=@List.drop_succ_cons
abbrev dB:=@Go.wpList_load_row
abbrev dC:=@List.length_set
abbrev dD:=@List.cons.injEq
abbrev dE:=@List.length_append
abbrev dF:=@Go.bodyPost_ret
abbrev dG:=@Go.RowKit.Below.refl
abbrev dH:=@List.mem_range
abbrev dI:=@List.length_take
abbrev dJ:=@List.mem_cons
abbrev dK:=@List.map_cons
abbrev dL:=@Nat.zero_add
abbrev dM:=@List.length_cons
abbrev dN:=@List.drop_zero
abbrev dO:=@List.mem_append
abbrev dP:=@List.mem_cons_self
abbrev dQ:=@List.mem_cons_of_mem
abbrev dR:=@Prod.mk.injEq
abbrev dS:=@decide_eq_true_eq
abbrev dT:=@List.getElem?_append_left
abbrev dU:=@List.getElem?_append_right
abbrev dV:=@List.length_filter_le
abbrev dW:=@List.not_mem_nil
abbrev dX:=@decide_eq_true
abbrev dY:=@Array.length_toList
abbrev dZ:=@List.mem_flatMap
abbrev ec:=@List.take_add_one
abbrev ed:=@List.map_nil
abbrev ef:=@List.length_map
abbrev eh:=@List.length_drop
abbrev ei:=@congrArg
abbrev ej:=@List.getElem?_map
abbrev ek:=@decide_eq_false
abbrev em:=@Nat.mul_le_mul_right
abbrev eo:=@and_true
abbrev ep:=@Bool.or_eq_true
abbrev eq:=@List.getElem?_eq_none
abbrev er:=@List.size_toArray
abbrev eu:=@Go.run_callFunc_extern
abbrev ew:=@List.getElem?_drop
abbrev ez:=@List.filter_append
abbrev eA:=@Go.Sem.run_bind
abbrev eB:=@List.flatMap_cons
abbrev eC:=@List.take_length
abbrev eD:=@List.getElem?_of_mem
abbrev eE:=@List.mem_of_mem_drop
abbrev eF:=@List.length_eq_zero_iff
abbrev eG:=@Nat.add_assoc
abbrev eH:=@List.getElem?_take_of_lt
abbrev eI:=@List.append_assoc
abbrev eJ:=@List.getElem?_set_self
abbrev eK:=@List.getElem?_take
abbrev eL:=@Array.all_eq_true_iff_forall_mem
abbrev eN:=@Array.toList_map
abbrev eO:=@Option.map_some
abbrev eP:=@List.mem_of_mem_take
abbrev eQ:=@Go.World.cell?_of_block
abbrev eR:=@List.mem_filter
abbrev eU:=@List.mem_or_eq_of_mem_set
abbrev eW:=@Nat.lt_or_ge
abbrev eY:=@cond_true
abbrev eZ:=@List.take_of_length_le
abbrev fa:=@List.mem_map
abbrev fb:=@List.takeWhile_cons_of_pos
abbrev fc:=@List.length_nil
abbrev fe:=@List.drop_eq_getElem_cons
abbrev ff:=@Int.le_refl
abbrev fg:=@beq_eq_false_iff_ne
abbrev fh:=@Bool.or_eq_true_iff
abbrev fi:=@Array.toArray_toList
abbrev fj:=@Go.results_cell_row
abbrev fm:=@List.map_append
abbrev fo:=@List.mem_map_of_mem
abbrev fp:=@List.findIdx?_eq_some_iff_getElem
abbrev fq:=@List.nil_append
abbrev fu:=@List.cons_append
abbrev fw:=@Bool.not_eq_true'
abbrev fx:=@List.flatten_cons
abbrev fy:=@Array.all_eq_true'
abbrev fz:=@Nat.add_mul
abbrev fA:=@List.map_congr_left
abbrev fB:=@Go.Value.int.injEq
abbrev fC:=@List.countP_cons
abbrev fD:=@List.takeWhile_cons_of_neg
abbrev fE:=@List.getElem?_set
abbrev fF:=@or_false
abbrev fG:=@Nat.le_succ
abbrev fH:=@true_and
abbrev fI:=@Bool.false_eq_true
abbrev fJ:=@List.any_eq_true
abbrev fK:=@List.map_toArray
abbrev fL:=@List.flatMap_def
abbrev fM:=@List.take_append_drop
abbrev fN:=@beq_iff_eq
abbrev fO:=@Array.getD_eq_getD_getElem?
abbrev fP:=@Go.Addr.add_lit
abbrev fQ:=@Go.run_underlying
abbrev fR:=@List.exists_cons_of_ne_nil
abbrev fS:=@List.find?_eq_none
abbrev fT:=@Int.tdiv_eq_ediv_of_nonneg
abbrev fU:=@List.append_nil
abbrev fV:=@Nat.succ_mul
abbrev fW:=@Nat.le_of_eq
abbrev fX:=@List.rel_of_pairwise_cons
abbrev fY:=@Go.ByteArray.toList_eq
abbrev fZ:=@List.ext_getElem?
abbrev gb:=@List.countP_eq_length
abbrev gc:=@Bool.eq_false_or_eq_true
abbrev gd:=@Go.wpList_plain
abbrev gh:=@List.foldl_cons
abbrev gi:=@Nat.eq_zero_or_pos
abbrev gk:=@Go.info_parts
abbrev gl:=@beq_self_eq_true
abbrev gm:=@List.cons.inj
abbrev gp:=@Nat.add_zero
abbrev gq:=@List.set_set
abbrev gr:=@List.find?_append
abbrev gt:=@Go.heap_alloc_old
abbrev gu:=@if_true
abbrev gv:=@List.countP_eq_zero
abbrev gw:=@Go.getD_set_ne
abbrev gz:=@Go.setRow_heap
abbrev gA:=@Bool.eq_iff_iff
abbrev gB:=@List.pairwise_iff_getElem
abbrev gC:=@UInt8.lt_iff_toNat_lt
abbrev gD:=@List.find?_eq_some_iff_getElem
abbrev gE:=@List.map_map
abbrev gF:=@List.pairwise_append
abbrev gG:=@Bool.or_eq_false_iff
abbrev gH:=@Go.run_slice_l
abbrev gI:=@List.eq_nil_of_length_eq_zero
abbrev gJ:=@Bool.and_eq_true_iff
abbrev gK:=@Int.eq_ofNat_of_zero_le
abbrev gL:=@List.pairwise_map
abbrev gM:=@List.find?_some
abbrev gN:=@Nat.not_lt_zero
abbrev gO:=@List.take_succ_cons
abbrev gP:=@List.find?_cons_of_neg
abbrev gQ:=@Go.Value.string.injEq
abbrev gR:=@Array.getElem?_eq_getElem
abbrev gS:=@Go.Oper.upon_value
abbrev gT:=@Nat.min_eq_left
abbrev gU:=@Go.cell_of_row
abbrev gV:=@List.getElem?_set_ne
abbrev gW:=@if_false
abbrev gX:=@Go.wpList_append_own
abbrev gY:=@Bool.true_and
abbrev gZ:=@List.toList_toArray
abbrev g8:=@List.takeWhile_cons
abbrev g9:=@List.countP_pos_iff
abbrev ie:=@Nat.le_add_right
abbrev ig:=@Go.WalkArith.wf_i64
abbrev ii:=@decide_eq_false_iff_not
abbrev ij:=@List.drop_eq_nil_of_le
abbrev ik:=@Nat.zero_mul
abbrev il:=@List.filter_eq_nil_iff
abbrev io:=@Array.getElem?_eq_none
abbrev ip:=@congrFun
abbrev iq:=@List.contains_iff_mem
abbrev ir:=@Go.run_storeCells_at
abbrev iu:=@List.take_left
abbrev iw:=@Array.replicate_succ
abbrev ix:=@List.getElem?_eq_none_iff
abbrev iy:=@List.mem_of_find?_eq_some
abbrev iz:=@Array.toList_append
abbrev iA:=@List.append_toArray
abbrev iB:=@Nat.lt_irrefl
abbrev iC:=@Go.wp_region_any
abbrev iD:=@Go.Value.agg.inj
abbrev iE:=@List.pairwise_cons
abbrev iF:=@List.set_eq_take_append_cons_drop
abbrev iG:=@Option.some.injEq
abbrev iH:=@Bool.and_false
abbrev iI:=@Nat.add_comm
abbrev iJ:=@Go.size_zeroCells
abbrev iK:=@of_decide_eq_true
abbrev iL:=@Array.size_append
abbrev iM:=@Go.Value.iface.injEq
abbrev iN:=@List.takeWhile_sublist
abbrev iO:=@List.push_toArray
abbrev iP:=@List.foldl_append
abbrev iQ:=@Go.callsIn_wide
abbrev iR:=@List.length_singleton
abbrev iS:=@Array.getElem?_toList
abbrev iT:=@Go.mem_ready
abbrev iU:=@Go.Value.bool.injEq
abbrev iV:=@Array.toList_inj
abbrev iW:=@Bool.false_or
abbrev iX:=@Bool.and_true
abbrev iY:=@List.mem_iff_getElem
abbrev iZ:=@Go.run_loadVar_row
abbrev i5:=@Go.run_append_room
abbrev i7:=@Go.Oper.semAt_some
abbrev i8:=@List.length_pos_iff
abbrev i9:=@List.filter_eq_self
abbrev ja:=@Bool.or_true
abbrev jb:=@Array.ext'
abbrev jc:=@Go.growslice_fits
abbrev jd:=@List.mem_filterMap
abbrev je:=@Int.emod_lt_of_pos
abbrev jf:=@Go.wp_mono
abbrev jg:=@Nat.mul_one
abbrev jh:=@Go.run_sliceAt_slice
abbrev ji:=@Go.Value.slice.injEq
abbrev jj:=@Nat.lt_trichotomy
end
section
open Go.RowKit
open Go.Value renaming int->In,slice->Sl,string->Sg,bool->Bo,pointer->Po
open Go.IntKind renaming i64->i6
theorem qo{p:Prop}(h:p:=by omega):p:=h
theorem qk{p:Prop}(h:p:=by kernel_rfl):p:=h
theorem qd{p:Prop}(h:p:=by decide):p:=h
theorem qs{p:Prop}(h:p:=by simp):p:=h
theorem qn{p:Prop}(h:p:=by go_num):p:=h
theorem qp{p:Prop}(h:p:=by simp;omega):p:=h
theorem qm{p:Prop}(h:p:=by unfold maxLen;omega):p:=h
theorem AB{α:Type}{xs:Array α}{i:Nat}{b:α}:xs[i]?=some b->∃h:i<xs.size,xs[i]=b:=Array.getElem?_eq_some_iff.1
theorem AC{α:Type}{l:List α}{i:Nat}{b:α}:l[i]?=some b->∃h:i<l.length,l[i]=b:=List.getElem?_eq_some_iff.1
theorem AD{n m:Nat}:Nat.ble n m=true->n<=m:=Nat.le_of_ble_eq_true
theorem AE{α:Type}{l:List α}{i:Nat}{a:α}:l[i]?=some a->a∈l:=List.mem_of_getElem?
theorem AF{n m k:Nat}:n<m->m<=k->n<k:=Nat.lt_of_lt_of_le
theorem AG{n:Nat}:n<=n:=Nat.le_refl n
theorem AH{n m k:Nat}:n<=m->m<=k->n<=k:=Nat.le_trans
theorem AI(n:Nat):0<=n:=Nat.zero_le n
structure Svc where
 name:ByteArray
 ag:Int
 aH:Bool
 aj:Int
 au:Int
 aK:Int
 aG:Int
 next:Int
 aQ:Int
 az:Int
 aI:Int
 load:Int
 aA:Int
structure Cp where
 aa:ByteArray
 ak:Int
 ag:Int
 aj:Int
 ay:Int
 am:Bool
 aC:ByteArray
structure Bt where
 name:ByteArray
 aM:Bool
abbrev qsV (s:Svc):Array Value:=#[Sg s.name,In i6 s.ag,Bo s.aH,In i6 s.aj,In i6 s.au,In i6 s.aK,In i6 s.aG,In i6 s.next,In i6 s.aQ,In i6 s.az,In i6 s.aI,In i6 s.load,In i6 s.aA]
abbrev qcV (c:Cp):Array Value:=#[Sg c.aa,In i6 c.ak,In i6 c.ag,In i6 c.aj,In i6 c.ay,Bo c.am,Sg c.aC]
abbrev qzV:Array Value:=#[In i6 0,Sl none 0 0,Sl none 0 0,Sl none 0 0]
abbrev qyV:Array Value:=#[.string ⟨#[]⟩,In i6 0,In i6 0,In i6 0,In i6 0,Bo false,.string ⟨#[]⟩]
abbrev qgV (n:qB) (v a b c:Int) (x:Bool) (y:Value) (z:Bool):Array Value:=#[Sg n,In i6 v,In i6 a,In i6 b,In i6 c,Bo x,y,Bo z]
abbrev qtZ:Array Value:=#[In i6 0,In i6 0,In i6 0,In i6 0,In i6 0]
abbrev qzA:Array Value:=#[.string ⟨#[]⟩,In i6 0,In i6 0,In i6 0,In i6 0,Bo false,Sl none 0 0,Bo false]
abbrev qzW:Array Value:=#[Sl none 0 0,In i6 0,Sl none 0 0,Sl none 0 0,Sl none 0 0]
abbrev qzG:Array Value:=#[.string ⟨#[]⟩,In i6 0,Bo false,In i6 0,In i6 0,In i6 0,In i6 0,In i6 0,In i6 0,In i6 0,In i6 0,In i6 0,In i6 0,In i6 0,In i6 0,In i6 0,In i6 0,In i6 0,In i6 0,Sl none 0 0]
abbrev qzN:Array Value:=#[.string ⟨#[]⟩,In i6 0,In i6 0,In i6 0,In i6 0,Bo false,.string ⟨#[]⟩,Bo false,Bo false]
abbrev qad (g:Nat):Option Addr:=some ⟨g,0,none⟩
abbrev qBl (w:World) (b:Nat) (cs:Array Value) (t:TypeId):Prop:=w.heap[b]?=some (.cells cs t (0,0))
def SvcAt(w:World)(b o:Nat)(s:Svc):Prop:=w.cell? ⟨b,o,none⟩=some (.string s.name)/\w.cell? ⟨b,o+1,none⟩=some (In i6 s.ag)/\w.cell? ⟨b,o+2,none⟩=some (.bool s.aH)/\w.cell? ⟨b,o+3,none⟩=some (In i6 s.aj)/\w.cell? ⟨b,o+4,none⟩=some (In i6 s.au)/\w.cell? ⟨b,o+5,none⟩=some (In i6 s.aK)/\w.cell? ⟨b,o+6,none⟩=some (In i6 s.aG)/\w.cell? ⟨b,o+7,none⟩=some (In i6 s.next)/\w.cell? ⟨b,o+8,none⟩=some (In i6 s.aQ)/\w.cell? ⟨b,o+9,none⟩=some (In i6 s.az)/\w.cell? ⟨b,o+10,none⟩=some (In i6 s.aI)/\w.cell? ⟨b,o+11,none⟩=some (In i6 s.load)/\w.cell? ⟨b,o+12,none⟩=some (In i6 s.aA)
def CpAt(w:World)(b o:Nat)(s:Cp):Prop:=w.cell? ⟨b,o,none⟩=some (.string s.aa)/\w.cell? ⟨b,o+1,none⟩=some (In i6 s.ak)/\w.cell? ⟨b,o+2,none⟩=some (In i6 s.ag)/\w.cell? ⟨b,o+3,none⟩=some (In i6 s.aj)/\w.cell? ⟨b,o+4,none⟩=some (In i6 s.ay)/\w.cell? ⟨b,o+5,none⟩=some (.bool s.am)/\w.cell? ⟨b,o+6,none⟩=some (.string s.aC)
def BtAt(w:World)(b o:Nat)(s:Bt):Prop:=w.cell? ⟨b,o,none⟩=some (.string s.name)/\w.cell? ⟨b,o+1,none⟩=some (.bool s.aM)
def SvcsAt(w:World)(b off:Nat)(l:List Svc):Prop:=∀i s,l[i]?=some s->SvcAt w b (off+i*13) s
def LX(w:World)(b off:Nat)(l:List Cp):Prop:=∀i s,l[i]?=some s->CpAt w b (off+i*7) s
def BtsAt(w:World)(b off:Nat)(l:List Bt):Prop:=∀i s,l[i]?=some s->BtAt w b (off+i*2) s
theorem SvcAt.below{B:Nat}{w w':World}{b o:Nat}{s:Svc}(h:SvcAt w b o s)(hb:Below B w w')(z:b<B):SvcAt w' b o s:=by
 unfold SvcAt at *;simp only[λo=>hb.cell (p:=⟨b,o,none⟩) z];exact h
theorem CpAt.below{B:Nat}{w w':World}{b o:Nat}{s:Cp}(h:CpAt w b o s)(hb:Below B w w')(z:b<B):CpAt w' b o s:=by
 unfold CpAt at *;simp only[λo=>hb.cell (p:=⟨b,o,none⟩) z];exact h
theorem BtAt.below{B:Nat}{w w':World}{b o:Nat}{s:Bt}(h:BtAt w b o s)(hb:Below B w w')(z:b<B):BtAt w' b o s:=by
 unfold BtAt at *;simp only[λo=>hb.cell (p:=⟨b,o,none⟩) z];exact h
def inB(n lo hi:Int):Bool:=decide (lo<=n)&&decide (n<=hi)
def Iy(c:Int):Bool:=(decide (97<=c)&&decide (c<=122))||((decide (48<=c)&&decide (c<=57))||(c==45))
def Dh(s:qB):Bool:=inB s.size 1 20&&s.data.toList.all λc=>Iy c.toNat
def Qt(s:Svc):Bool:=if s.aQ=0 then s.az==0&&s.aI==0&&s.load==0&&s.aA==0 else inB s.aQ 0 1000000&&inB s.load 0 1000000&&inB s.az 0 10&&inB s.aI s.az 10&&inB s.aA 0 3
def svcB(av:Int)(s:Svc):Bool:=Dh s.name&&inB s.ag 1 av&&inB s.aj 1 1000000&&inB s.next 1 1000000&&inB s.au 0 10&&inB s.aK 0 10&&inB s.aG 0 10&& !(s.aK+s.aG==0)&&Qt s
theorem Ki(s:qB):Dh s=true↔inB s.size 1 20=true/\∀i (h:i<s.size),Iy (s[i]'h).toNat=true:=by
 unfold Dh;rw[di,dt];refine and_congr_right λ_=>⟨λh i z=>h _ ?_,λh c F=>?_⟩
 ·exact Array.getElem_mem_toList (by simpa using z)
 ·obtain⟨i,z,rfl⟩:=iY.1 F
  exact h i (by simpa using z)
theorem Q5(s:qB)(i:Nat)(h:i<s.size)(hb:Iy (s[i]'h).toNat=false):Dh s=false:=by
 cases z:Dh s with
 |false=>rfl
 |true=>rw[((Ki s).1 z).2 i h]at hb;cases hb
theorem Mo(s:qB)(h:inB s.size 1 20=false):Dh s=false:=by
 unfold Dh;rw[h];rfl
theorem AQ{a b:Bool}(h:a=b):Ending.returned (.bool a)=.returned (.bool b):=by rw[h]
theorem FM{k:IntKind}{a b:Int}(h:a=b):Ending.returned (.int k a)=.returned (.int k b):=by rw[h]
theorem Cx(n lo z:Int)(w:World):
  Calls Tryz.prog 63 #[In i6 n,In i6 lo,In i6 z] w λe w'=>e=.returned (.bool (inB n lo z))/\w'=w:=by
 go_enter Tryz.func63,Tryz.ntmps63;go_wp2
 all_goals
  go_ret;exact⟨AQ (by rw[gA];simp[inB];try omega),rfl⟩
section
variable {P:Program}
theorem EE(w:World)(g k:Nat)(cs:Array Value)(h:k≠g):(w.setRow g cs).heap[k]?=w.heap[k]?:=by
 unfold World.setRow;simp only[Array.getElem?_modify];rw[dk qo]
theorem Fw(w:World)(g:Nat)(cs:Array Value):(w.setRow g cs).heap.size=w.heap.size:=by
 unfold World.setRow;simp
theorem below_setRow'(w:World)(g:Nat)(cs:Array Value):Below g w (w.setRow g cs):=
 ⟨rfl,rfl,rfl,by rw[Fw];exact AG,λk hk=>EE w g k cs qo⟩
theorem Gy(w:World)(g F:Nat)(t ty:TypeId)(z cells:Array Value)(W:w.heap[g]?=some (.cells z t (0,0)))(M:(P.info? ty).map (·.size)=some cells.size)
  (H:F+cells.size<=z.size) (O:cells.all (·.oneCell')=true):
  (storeVar ty ⟨g,F,none⟩ (.agg cells)).run P w=.ok () (w.setRow g (splice z.toList F cells.toList).toArray):=by
 have:=ir P g F t cells.toList 0 z w W (by simpa using H) (λv hv=>(eL.1 O) v (by simpa using hv))
 cases J:P.info? ty with
 |none=>simp[J]at M
 |some i=>
  have Y:cells.size=i.size:=by simp[J]at M;omega
  simp only[gp,eI]at this;simp[storeVar,sizeOf,typeInfo,J,Value.cells,Y,this,splice]
end
theorem AJ{w:World}{b:Nat}{cs:Array Value}{t:TypeId}{fr:Nat × Nat}(h:w.heap[b]?=some (.cells cs t fr))(o:Nat){v:Value}(hv:cs[o]?=some v:=by exact rfl):w.cell? ⟨b,o,none⟩=some v:=by
 rw[gU w b o cs t fr h];exact hv
theorem qc8{w:World}{b:Nat}{t:TypeId}{fr:Nat×Nat}{cs:Array Value}{a0 a1 a2 a3 z F H J:Value}{r:qL}(h:w.heap[b]?=some (.cells cs t fr))(hv:cs.toList=a0::a1::a2::a3::z::F::H::J::r:=by exact rfl):w.cell? ⟨b,0,none⟩=some a0/\w.cell? ⟨b,1,none⟩=some a1/\w.cell? ⟨b,2,none⟩=some a2/\w.cell? ⟨b,3,none⟩=some a3/\w.cell? ⟨b,4,none⟩=some z/\w.cell? ⟨b,5,none⟩=some F/\w.cell? ⟨b,6,none⟩=some H/\w.cell? ⟨b,7,none⟩=some J:=by obtain⟨l⟩:=cs;cases hv;exact⟨AJ h 0 rfl,AJ h 1 rfl,AJ h 2 rfl,AJ h 3 rfl,AJ h 4 rfl,AJ h 5 rfl,AJ h 6 rfl,AJ h 7 rfl⟩
theorem c4{w:World}{b:Nat}{x y z t:Value}{ty:TypeId}{fr:Nat × Nat}(h:w.heap[b]?=some (.cells #[x,y,z,t] ty fr)):w.cell? ⟨b,0,none⟩=some x/\w.cell? ⟨b,1,none⟩=some y/\w.cell? ⟨b,2,none⟩=some z/\w.cell? ⟨b,3,none⟩=some t:=⟨AJ h 0,AJ h 1,AJ h 2,AJ h 3⟩
theorem B7{w:World}{b:Nat}{cs:Array Value}{t:TypeId}(h:w.heap[b]?=some (.cells cs t (0,0)))(o:Nat):w.frozen? ⟨b,o,none⟩=false:=by
 simp[World.frozen?,h]
theorem CN{w:World}{b:Nat}{cs:Array Value}{t:TypeId}(h:w.heap[b]?=some (.cells cs t (0,0)))(o:Nat)(v:Value):(w.setCell ⟨b,o,none⟩ v).heap[b]?=some (.cells (cs.setIfInBounds o v) t (0,0)):=by
 rw[setCell_eq_setRow w b o cs t (0,0) v h];exact gz w b cs _ t _ h
theorem CS(w:World)(a:Addr)(v:Value):(w.setCell a v).heap.size=w.heap.size:=by simp[World.setCell]
theorem OB(w:World)(A B C:Obj):(((w.alloc A).alloc B).alloc C).heap[w.heap.size]?=some A/\(((w.alloc A).alloc B).alloc C).heap[w.heap.size+1]?=some B/\(((w.alloc A).alloc B).alloc C).heap[w.heap.size+1+1]?=some C/\(((w.alloc A).alloc B).alloc C).heap.size=w.heap.size+1+1+1:=by
 have e:(((w.alloc A).alloc B).alloc C).heap=((w.heap.push A).push B).push C:=rfl;rw[e];refine⟨?_,?_,?_,qs⟩
 ·rw[dw,dk qp,dw,dk qs,dw,dv rfl]
 ·rw[dw,dk qs,dw,dv qs]
 ·rw[dw,dv qs]
def Svc.cells(s:Svc):List Value:=((qsV s):Array Value).toList
def Cp.cells(s:Cp):List Value:=((qcV s):Array Value).toList
def Bt.cells(s:Bt):List Value:=(#[Sg s.name,Bo s.aM]:Array Value).toList
theorem H6{w:World}{b:Nat}{z:Array Value}{t:TypeId}{fr:Nat × Nat}(h:w.heap[b]?=some (.cells z t fr))(o:Nat):w.cell? ⟨b,o,none⟩=z.toList[o]?:=by
 rw[gU w b o z t fr h];simp
end
section
open Go.RowKit
def RowIs(w:World)(e:TypeId)(size g n cap:Nat)(xs:qL):Prop:=
 xs.length=n*size/\n<=cap/\∃cur:Array Value,w.heap[g]?=some (.cells cur e (0,0))/\cur.size=cap*size/\cur.toList.take (n*size)=xs
theorem RowIs.lt{w:World}{e:TypeId}{size g n cap:Nat}{xs:qL}(h:RowIs w e size g n cap xs):g<w.heap.size:=by
 obtain⟨_,_,z,F,_⟩:=h;exact(AB F).1
theorem RowIs.aV{w w':World}{e:TypeId}{size g n cap:Nat}{xs:qL}(h:RowIs w e size g n cap xs)(hb:w'.heap[g]?=w.heap[g]?):RowIs w' e size g n cap xs:=by
 obtain⟨F,H,z,J,r⟩:=h;exact⟨F,H,z,hb.trans J,r⟩
theorem RowIs.below{w w':World}{e:TypeId}{size g n cap N:Nat}{xs:qL}(h:RowIs w e size g n cap xs)(hb:Below N w w')(z:g<N):RowIs w' e size g n cap xs:=h.aV (hb.block g z)
theorem RowIs.cell{w:World}{e:TypeId}{size g n cap:Nat}{xs:qL}(h:RowIs w e size g n cap xs){j:Nat}{u:Value}(z:xs[j]?=some u):w.cell? ⟨g,j,none⟩=some u:=by
 obtain⟨M,O,F,H,W,J⟩:=h;rw[H6 H];rw[<-J,eK]at z;split at z
 ·exact z
 ·cases z
theorem RowIs.new(w:World)(e:TypeId)(size:Nat):RowIs (w.alloc (.cells #[] e)) e size w.heap.size 0 0 []:=
 ⟨qs,AG,#[],dm w _,qs,qs⟩
theorem H9{w w':World}{g N:Nat}(h:w.grownBy w' (some g))(z:N<=g)(F:N<=w.heap.size):Below N w w':=
 ⟨h.os,h.tape,h.output,h.size,λk hk=>h.block k qo (λe=>by have:=dj e;omega)⟩
theorem Sw(w:World)(r:Option Nat):w.grownBy w r:=⟨rfl,rfl,rfl,AG,λ_ _ _=>rfl⟩
theorem DI{w:World}{b:Nat}{cs:Array Value}{t:TypeId}{fr:Nat × Nat}(h:w.heap[b]?=some (.cells cs t fr)):∀j u,cs.toList[j]?=some u->w.cell? ((⟨b,0,none⟩:Addr).add j)=some u:=λj u z=>by
 rw[fP,H6 h,dL];exact z
section
variable {P:Program}
theorem Hm(w:World)(t ty e:TypeId)(z:Value)(size bytes:Nat)(ht:P.underlying t=some (.slice e))(aa:(P.info? e).map (λi=>(i.zero,i.size,i.bytes))=some (some z,size,bytes))(aw:z.cells.size=size)
  (g n cap:Nat) (xs:qL) (Y:RowIs w e size g n cap xs)
  (ad:Addr) (m c:Nat) (F:qL) (hl:F.length=m*size) (M:∀j u,F[j]?=some u->w.cell? (ad.add j)=some u) (h1:∀u∈F,u.oneCell'=true)
  (al:n+m<=maxLen) (O:(n+m)*bytes<=140737488355328):
  ∃g' W w',(Builtin.append_ #[t,t] ty #[.slice (qad g) n cap,.slice (some ad) m c]).run P w=.ok (.slice (qad g') (n+m) W) w'/\(g'=g\/g'=w.heap.size)/\
   RowIs w' e size g' (n+m) W (xs++F)/\w.grownBy w' (some g):=by
 obtain⟨i,hi,hz,hs,hb⟩:=gk aa;subst hs hb;have au:=Y;obtain⟨hx,aB,Z,hg,am,af⟩:=Y;have J:(xs++F).length=(n+m)*i.size:=by rw[dE,hx,hl,fz]
 have ak:n+m<=9223372036854775807:=by simp only[maxLen]at al;omega
 by_cases H:n+m<=cap
 ·have ag:n*i.size+F.length<=Z.size:=by rw[hl,am,<-fz];exact em _ H
  have hr:=i5 (P:=P) w t ty e i ht hi g n cap Z hg ad m c F hl M h1 H ag;refine⟨g,cap,_,hr,.inl rfl,⟨J,H,_,gz w g Z _ e _ hg,?_,?_⟩,⟨rfl,rfl,rfl,qs,λk _ hk=>setRow_other w g k _ (λe=>hk (by rw[e]))⟩⟩
  ·simp only[er,dE,dI,eh,dY]
   omega
  ·rw[af,<-J]
   exact iu
 ·have ae:∀j u,xs[j]?=some u->w.cell? ((⟨g,0,none⟩:Addr).add j)=some u:=λj u hu=>by
   have:=au.cell hu
   simpa [fP] using this
  have hr:=run_append_grow (P:=P) w t ty e i z ht hi hz ⟨g,0,none⟩ n cap xs hx ae ad m c F hl M qo qo (jc qo O);have an:=grownCap_ge w (n+m) cap e;refine⟨w.heap.size,_,_,hr,.inr rfl,⟨J,an,_,dm w.drew _,?_,?_⟩,⟨rfl,rfl,rfl,qs,λk hk _=>by show(w.heap.push _)[k]?=_;rw[dw,dk qo]⟩⟩
  ·simp only[iL,er,iJ,aw,hx,hl,<-fz]
   congr 1
   omega
  ·simp only[iz,eI]
   rw[<-eI,<-J];exact iu
theorem D9{ops:Array Oper}{rest:List Oper}{o:Oper}{a:Act}{w:World}{Q:Exit->Act->World->Prop}(aa:o.guard=none)(s x:Operand)(t:TypeId)
  (ho:o.op=.call {callee:=.builtin .append,args:=#[s,x],argTypes:=#[t,t]})
  (e:TypeId) (z:Value) (size bytes:Nat) (ht:P.underlying t=some (.slice e)) (M:(P.info? e).map (λi=>(i.zero,i.size,i.bytes))=some (some z,size,bytes)) (ae:z.cells.size=size)
  (g n cap:Nat) (xs:qL) (hs:a.eval s=.slice (qad g) n cap) (Y:RowIs w e size g n cap xs)
  (ad:Addr) (m c:Nat) (F:qL) (hx:a.eval x=.slice (some ad) m c) (hl:F.length=m*size) (O:∀j u,F[j]?=some u->w.cell? (ad.add j)=some u) (h1:∀u∈F,u.oneCell'=true)
  (Z:n+m<=maxLen) (J:(n+m)*bytes<=140737488355328)
  (h:∀W H w',(W=g\/W=w.heap.size)->Hid (RowIs w' e size W (n+m) H (xs++F))->w.grownBy w' (some g)->wpList P ops Q rest (a.put o.dst (.slice (qad W) (n+m) H)) w'):wpList P ops Q (o::rest) a w:=by
 refine gd aa λK hK=>?_
 obtain⟨W,H,w',hr,h2,h3,h4⟩:=Hm (P:=P) w t o.type e z size bytes ht M ae g n cap xs Y ad m c F hl O h1 Z J;unfold Oper.wp execOp;simp only[ho,resolve,invoke,builtin,eA,Sem.run_pure,Result.andThen_ok,fK,dK,ed,hs,hx,hr];exact hK _ _ (h W H w' h2 h3 h4)
end
end
section
open Go.RowKit
open Go.Value renaming int->In,slice->Sl,string->Sg,bool->Bo,pointer->Po
open Go.IntKind renaming i64->i6
section
variable {P:Program}
theorem KK(w:World)(g:Nat)(z:Array Value)(t:TypeId)(F:w.heap[g]?=some (.cells z t (0,0))):Below w.heap.size w (w.setRow g z):=
 ⟨rfl,rfl,rfl,by rw[Fw];exact AG,λk _=>by
  by_cases h:k=g
  ·subst h;rw[gz w k z z t _ F,F]
  ·exact EE w g k z h⟩
theorem Ke(w:World)(t ty e:TypeId)(z:Value)(size bytes:Nat)(ht:P.underlying t=some (.slice e))(H:(P.info? e).map (λi=>(i.zero,i.size,i.bytes))=some (some z,size,bytes))(al:z.cells.size=size)
  (g:Nat) (hg:w.heap[g]?=some (.cells #[] e (0,0)))
  (ao:qO) (m c:Nat) (F:qL) (W:F.length=m*size) (Y:m≠0->∃ad,ao=some ad/\∀j u,F[j]?=some u->w.cell? (ad.add j)=some u) (h1:∀u∈F,u.oneCell'=true)
  (ag:m<=maxLen) (J:m*bytes<=140737488355328):
  ∃Z M w',(Builtin.append_ #[t,t] ty #[.slice (qad g) 0 0,Sl ao m c]).run P w=.ok (.slice (qad Z) m M) w'/\(Z=g\/Z=w.heap.size)/\RowIs w' e size Z m M F/\Below w.heap.size w w':=by
 by_cases hm:m=0
 ·subst hm
  have hn:F=[]:=gI (by simpa using W);subst hn;obtain⟨i,hi,hz,hs,hb⟩:=gk H;subst hs hb
  cases ao with
  |none=>
   refine⟨g,0,w,?_,.inl rfl,⟨qs,AG,#[],hg,qs,qs⟩,dG _ _⟩;simp[Builtin.append_,fQ ht,sizeOf,typeInfo,hi,Builtin.lenOf,Builtin.firstCells,storeCells]
  |some ad=>
   have hr:=i5 (P:=P) w t ty e i ht hi g 0 0 #[] hg ad 0 c [] qs qs qs AG qs;refine⟨g,0,_,by simpa using hr,.inl rfl,⟨qs,AG,#[],gz w g #[] #[] e _ hg,qs,qs⟩,KK w g #[] e hg⟩
 ·obtain⟨ad,rfl,O⟩:=Y hm
  obtain⟨i,hi,hz,hs,hb⟩:=gk H;subst hs hb;have hr:=run_append_grow (P:=P) w t ty e i z ht hi hz ⟨g,0,none⟩ 0 0 [] qs qs ad m c F W O qo (by unfold maxLen at ag;omega) (jc qo (by simpa using J));simp only[dL]at hr;have ah:=grownCap_ge w m 0 e;refine⟨w.heap.size,_,_,hr,.inr rfl,⟨W,ah,_,dm w.drew _,?_,?_⟩,⟨rfl,rfl,rfl,qs,λk hk=>by show(w.heap.push _)[k]?=_;rw[dw,dk qo]⟩⟩
  ·simp only[iL,er,iJ,al,W,fc,dL]
   rw[<-fz]
   congr 1
   omega
  ·simp only[iz,fq]
   rw[<-W];exact iu
theorem Cq{ops:Array Oper}{rest:List Oper}{o:Oper}{a:Act}{w:World}{Q:Exit->Act->World->Prop}(Z:o.guard=none)(s x:Operand)(t:TypeId)
  (ho:o.op=.call {callee:=.builtin .append,args:=#[s,x],argTypes:=#[t,t]})
  (e:TypeId) (z:Value) (size bytes:Nat) (ht:P.underlying t=some (.slice e)) (M:(P.info? e).map (λi=>(i.zero,i.size,i.bytes))=some (some z,size,bytes)) (aa:z.cells.size=size)
  (g:Nat) (hs:a.eval s=.slice (qad g) 0 0) (hg:w.heap[g]?=some (.cells #[] e (0,0)))
  (ao:qO) (m c:Nat) (F:qL) (hx:a.eval x=Sl ao m c) (hl:F.length=m*size) (W:m≠0->∃ad,ao=some ad/\∀j u,F[j]?=some u->w.cell? (ad.add j)=some u) (h1:∀u∈F,u.oneCell'=true)
  (Y:m<=maxLen) (J:m*bytes<=140737488355328)
  (h:∀O H w',(O=g\/O=w.heap.size)->Hid (RowIs w' e size O m H F)->Below w.heap.size w w'->wpList P ops Q rest (a.put o.dst (.slice (qad O) m H)) w'):wpList P ops Q (o::rest) a w:=by
 refine gd Z λK hK=>?_
 obtain⟨O,H,w',hr,h2,h3,h4⟩:=Ke (P:=P) w t o.type e z size bytes ht M aa g hg ao m c F hl W h1 Y J;unfold Oper.wp execOp;simp only[ho,resolve,invoke,builtin,eA,Sem.run_pure,Result.andThen_ok,fK,dK,ed,hs,hx,hr];exact hK _ _ (h O H w' h2 h3 h4)
end
section
variable {P:Program}
structure BH(g:Nat)(w w':World):Prop where
 aL:∀k,k≠g->w'.heap[k]?=w.heap[k]?
 below:Below g w w'
 size:w'.heap.size=w.heap.size
theorem DU(w:World)(g:Nat)(cs:Array Value):BH g w (w.setRow g cs):=⟨λk hk=>EE w g k cs hk,below_setRow' w g cs,Fw w g cs⟩
theorem Kd(w:World)(g F:Nat)(t ty:TypeId)(z:Array Value)(v:Value)(Y:w.heap[g]?=some (.cells z t (0,0)))(M:(P.info? ty).map (·.size)=some 1)(hv:v.cells=#[v])
  (H:F+1<=z.size) (W:v.oneCell'=true):
  (storeVar ty ⟨g,F,none⟩ v).run P w=.ok () (w.setRow g (splice z.toList F [v]).toArray):=by
 have:=ir P g F t [v] 0 z w Y (by simpa using H) (λu O=>by simp at O;subst O;exact W)
 cases J:P.info? ty with
 |none=>simp[J]at M
 |some i=>
  have Z:i.size=1:=by simpa [J] using M
  simp only[gp,eI]at this;simp[storeVar,sizeOf,typeInfo,J,hv,Z,this,splice]
theorem Am{ops:Array Oper}{rest:List Oper}{o:Oper}{a:Act}{w:World}{Q:Exit->Act->World->Prop}(J:o.guard=none)(ty:TypeId)(x y:Operand)(Z:o.op=.store ty x y)
  (g F:Nat) (v:Value) (hx:a.eval x=Po (some ⟨g,F,none⟩)) (hy:a.eval y=v) (Y:(P.info? ty).map (·.size)=some 1) (hv:v.cells=#[v]) (O:v.oneCell'=true)
  (t:TypeId) (z:Array Value) (M:w.heap[g]?=some (.cells z t (0,0))) (H:F+1<=z.size)
  (h:∀w',Hid (w'.heap[g]?=some (.cells (splice z.toList F [v]).toArray t (0,0)))->BH g w w'->wpList P ops Q rest (a.put o.dst undef) w'):wpList P ops Q (o::rest) a w:=by
 refine gd J λK W=>?_
 unfold Oper.wp execOp;simp only[Z,hx,hy,Instr.storeAt,Instr.sureAddr,eA,Sem.run_pure,Result.andThen_ok,Kd w g F t ty z v M Y hv H O];exact W _ _ (h _ (gz w g z _ t _ M) (DU w g _))
theorem AM{ops:Array Oper}{rest:List Oper}{o:Oper}{a:Act}{w:World}{Q:Exit->Act->World->Prop}(J:o.guard=none)(ty:TypeId)(x y:Operand)(Z:o.op=.store ty x y)
  (g F:Nat) (cells:Array Value) (hx:a.eval x=Po (some ⟨g,F,none⟩)) (hy:a.eval y=.agg cells) (t:TypeId) (z:Array Value) (M:w.heap[g]?=some (.cells z t (0,0)))
  (Y:(P.info? ty).map (·.size)=some cells.size) (H:F+cells.size<=z.size) (O:cells.all (·.oneCell')=true)
  (h:∀w',Hid (w'.heap[g]?=some (.cells (splice z.toList F cells.toList).toArray t (0,0)))->BH g w w'->wpList P ops Q rest (a.put o.dst undef) w'):wpList P ops Q (o::rest) a w:=by
 refine gd J λK W=>?_
 unfold Oper.wp execOp;simp only[Z,hx,hy,Instr.storeAt,Instr.sureAddr,eA,Sem.run_pure,Result.andThen_ok,Gy w g F t ty z cells M Y H O];exact W _ _ (h _ (gz w g z _ t _ M) (DU w g _))
theorem qAM{ops:Array Oper}{rest:List Oper}{o:Oper}{a:Act}{w:World}{Q:Exit->Act->World->Prop}{ty t:TypeId}{x y:Operand}{g F n:Nat}{cells z:Array Value}(O:w.heap[g]?=some (.cells z t (0,0)))(W:(P.info? ty).map (·.size)=some n)(h:∀w',Hid (w'.heap[g]?=some (.cells (splice z.toList F cells.toList).toArray t (0,0)))->BH g w w'->wpList P ops Q rest (a.put o.dst undef) w')(J:o.guard=none:=by exact rfl)(Z:o.op=.store ty x y:=by exact rfl)(hx:a.eval x=Po (some ⟨g,F,none⟩):=by exact rfl)(hy:a.eval y=.agg cells:=by exact rfl)(Y:n=cells.size:=by exact rfl)(H:F+cells.size<=z.size:=by exact AD rfl)(M:cells.all (·.oneCell')=true:=by simp[Value.oneCell']):wpList P ops Q (o::rest) a w:=AM J ty x y Z g F cells hx hy t z O (Y▸W) H M h
end
end
section
open Go.RowKit
section
def qW(ops:Array Oper)(S:Nat->Value->World->Prop)(V:Nat->Value)(W:World)(i:Nat):Prop:=∀j,(_:Region.waitsFor .any ops i j=true:=by kernel_rfl)->S j (V j) W
theorem qv{v u:Value}(h:v=u):v=u:=h
def qN(n:Nat)(S:Nat->Value->World->Prop)(V:Nat->Value)(W:World):Prop:=∀j,(_:j<n:=by omega)->S j (V j) W
variable {P:Program} {ops:Array Oper} {md:Region.Mode} {Q:Exit->Act->World->Prop}
def Ak(ops:Array Oper)(V:Nat->Value):Nat->Act->Act
 |0,a=>a
 |n+1,a=>(Ak ops V n a).put ((ops[n]?).bind (·.dst)) (V n)
def upd(V:Nat->Value)(i:Nat)(v:Value):Nat->Value:=λj=>if j=i then v else V j
theorem put_put(a:Act)(d:Option Tmp)(u v:Value):(a.put d u).put d v=a.put d v:=by
 cases d<;>simp[Act.put]
theorem MY(V:Nat->Value)(i:Nat)(v:Value)(a:Act):∀n,n<=i->Ak ops (upd V i v) n a=Ak ops V n a
 |0,_=>rfl
 |n+1,h=>by
  have e:upd V i v n=V n:=by simp[upd];omega
  simp only[Ak,e,MY V i v a n qo]
def Fc(ops:Array Oper)(n:Nat):Bool:=
 (List.range n).all λj=>(List.range j).all λi=>match (ops[i]?).bind (·.dst) with
  |some d=>(ops[j]?).bind (·.dst)!=some d
  |none=>true
theorem Hp{n:Nat}(h:Fc ops n=true){i j:Nat}(z:i<j)(J:j<n):∀d,(ops[i]?).bind (·.dst)=some d->(ops[j]?).bind (·.dst)≠some d:=by
 intro d H;have F:=dt.1 (dt.1 h j (dH.2 J)) i (dH.2 z);rw[H]at F
 simpa using F
theorem ET{V:Nat->Value}{i:Nat}{v:Value}{a:Act}:∀{n:Nat},Fc ops n=true->i<n->(Ak ops V n a).put ((ops[i]?).bind (·.dst)) v=Ak ops (upd V i v) n a
 |0,_,h=>absurd h qo
 |n+1,z,h=>by
  have F:Fc ops n=true:=by
   unfold Fc at z ⊢;refine dt.2 λj J=>dt.1 z j (dH.2 (by have:=dH.1 J;omega))
  by_cases H:i=n
  ·subst H
   simp only[Ak,put_put,MY V i v a i AG];simp[upd]
  ·have e:upd V i v n=V n:=by simp[upd];omega
   simp only[Ak,e];rw[<-ET (V:=V) (i:=i) (v:=v) (a:=a) F qo];exact(Act.put_comm _ _ _ (Hp z qo qo)).symm
theorem DT(a:Act)(n:Nat):Ak ops (λj=>match (ops[j]?).bind (·.dst) with|some d=>a.tmps.getD d undef|none=>undef) n a=a:=by
 induction n with
 |zero=>rfl
 |succ n H=>
  simp only[Ak,H]
  cases (ops[n]?).bind (·.dst) with
  |none=>rfl
  |some d=>
   simp only[Act.put]
   congr 1
   apply Array.ext
   ·simp
   ·intro i J F
    by_cases z:d=i
    ·subst z;simp[F]
    ·rw[Array.getElem_setIfInBounds_ne (h:=z)]
def CC(n:Nat)(listed:Array Bool):Nat:=(List.range n).countP λi=>!listed.getD i true
theorem NF(p:Nat->Bool)(i:Nat)(F:p i=true):∀l:List Nat,l.Nodup->i∈l->l.countP p=l.countP (λj=>p j&&j !=i)+1
 |[],_,h=>by cases h
 |x::l,z,h=>by
  rw[List.nodup_cons]at z
  by_cases hx:x=i
  ·subst hx
   have:l.countP (λj=>p j&&j !=x)=l.countP p:=by
    refine List.countP_congr λj H=>?_
    have:j≠x:=λe=>z.1 (e▸H)
    simp[this]
   rw[fC,fC,this];simp[F]
  ·have J:i∈l:=by rcases dJ.1 h with h|h;exact absurd h.symm hx;exact h
   have M:=NF p i F l z.2 J;rw[fC,fC,M];have:(x !=i)=true:=by simpa using hx
   rw[this,iX];omega
theorem Fd{n i:Nat}{listed:Array Bool}(F:i<n)(H:i<listed.size)(J:listed.getD i true=false):CC n listed=CC n (listed.setIfInBounds i true)+1:=by
 unfold CC;rw[NF _ i (by simp only[J];rfl) _ List.nodup_range (dH.2 F)]
 congr 1
 refine List.countP_congr λj M=>?_
 by_cases z:j=i
 ·subst z
  have:(listed.setIfInBounds j true).getD j true=true:=by simp[H]
  simp
 ·rw[gw true (Ne.symm z)]
  simp[z]
def GA(md:Region.Mode)(ops:Array Oper)(n:Nat):Bool:=
 (List.range n).all λi=>match ops[i]? with
  |some o=>o.after.all λe=>!Region.binds md e||decide (e.on<i)
  |none=>false
def CF(ops:Array Oper)(n:Nat):Array Bool:=Array.ofFn (n:=ops.size) λi=>decide (i.val<n)
theorem Dp{n:Nat}{listed:Array Bool}(z:HeadInv md ops n listed)(F:∀i,i<n->listed.getD i true=true):listed=CF ops n:=by
 apply Array.ext
 ·simp[CF,z.size]
 ·intro i H M
  simp only[CF,Array.getElem_ofFn]
  by_cases J:i<n
  ·have:=F i J
   simp[H]at this;simp[this,J]
  ·have:=z.tail i qo (by rw[<-z.size];exact H)
   simp[H]at this;simp[this,J]
theorem Ep{n:Nat}{listed:Array Bool}(J:GA md ops n=true)(O:HeadInv md ops n listed):∀(i:Nat),i<n->listed.getD i true=false->Region.ready md ops listed≠[]:=by
 intro i
 induction i using Nat.strongRecOn with
 |_ i ih=>
  intro hi hu;have F:=dt.1 J i (dH.2 hi)
  cases H:ops[i]? with
  |none=>rw[H]at F;cases F
  |some o=>
   rw[H]at F
   by_cases z:∀e∈o.after,Region.binds md e=true->listed.getD e.on false=true
   ·have:i∈Region.ready md ops listed:=iT.2 ⟨hu,o,H,z⟩
    intro h;rw[h]at this;cases this
   ·simp only[Classical.not_forall]at z
    obtain⟨e,Z,hb,hl⟩:=z;have W:=fy.1 F e Z;rw[hb]at W;have Y:e.on<i:=by simpa using W
    refine ih e.on Y qo ?_
    have M:e.on<listed.size:=by
     have:=(AB H).1;rw[O.size];omega
    exact getD_in M (by simpa using hl)
def Ch(K:Act->World->Prop):Exit->Act->World->Prop
 | .normal,a,w=>K a w
 |_,_,_=>False
theorem Oper.cG{o:Oper}{a:Act}{w:World}{L K:Act->World->Prop}(z:o.wp P a w L (Ch K)):o.wp P a w L Q:=by
 unfold Oper.wp at *;generalize (execOp a.eval o).run P w=r at *
 cases r with
 |ok n w'=>
  cases n<;>simp only[Oper.upon]at z ⊢<;>
   first
    |exact z
    |exact Calls.mono z (λe H F=>by cases e<;>first|exact F|exact False.elim F|exact(let ⟨_,_,h⟩:=F;False.elim h))
 |halt x w'=>cases x<;>simp only[Oper.upon]at z ⊢<;>first|exact z|exact False.elim z
theorem D8{i:Nat}{o:Oper}{a:Act}{W:World}{K:Act->World->Prop}(H:ops[i]?=some o)(h:wpList P ops (Ch K) [o] a W):wpOp P ops Q i K a W:=by
 unfold wpOp;simp only[H];simp only[wpList]at h;split at h
 ·rename_i z
  rw[dv z];rcases h with h|⟨_,_,_,F⟩
  ·exact .inl (Oper.cG (Go.Oper.wp_mono (λ_ _ h=>h) h))
  ·exact False.elim F
 ·rename_i z
  rw[dk z];exact h
def Nj(P:Program)(ops:Array Oper)(a0:Act)(n:Nat)(w0:World)(S:Nat->Value->World->Prop)(i:Nat)(o:Oper)(T:Value->World->Prop):Prop:=
 ∀(V:Nat->Value) (W:World) (K:Act->World->Prop),Below w0.heap.size w0 W->(∀j,Region.waitsFor .any ops i j=true->S j (V j) W)->
  Hid (∀v W',Below W.heap.size W W'->T v W'->K ((Ak ops V n a0).put o.dst v) W')->wpList P ops (Ch K) [o] (Ak ops V n a0) W
def Ni(T:Value->World->Prop):Prop:=∀v W W',T v W->Below W.heap.size W W'->T v W'
theorem I8{n g:Nat}{S:Nat->Value->World->Prop}{w0:World}{a0:Act}
  (hw:∀listed,HeadInv .any ops n listed->∀i,i<n->listed.getD i true=false->∀t,n<=t->t∉Region.ready .any ops listed)
  (hn:n<=ops.size) (Y:GA .any ops n=true) (hd:Fc ops n=true)
  (al:∀j,Ni (S j))
  (ak:∀i o,i<n->ops[i]?=some o->Nj P ops a0 n w0 S i o (S i))
  (M:∀V W,Below w0.heap.size w0 W->(∀j,j<n->S j (V j) W)->wpAny P .any ops Q g (CF ops n) (Ak ops V n a0) W):
  ∀(m:Nat) (listed:Array Bool) (V:Nat->Value) (W:World),HeadInv .any ops n listed->CC n listed=m->Below w0.heap.size w0 W->(∀j,j<n->listed.getD j false=true->S j (V j) W)->
   wpAny P .any ops Q (m+g) listed (Ak ops V n a0) W
 |0,listed,V,W,z,hm,hb,hS=>by
  have F:∀i,i<n->listed.getD i true=true:=by
   intro i hi;have:=gv.1 hm i (dH.2 hi)
   simpa using this
  rw[Dp z F,dL];refine M V W hb λj hj=>hS j hj ?_
  have:=F j hj;have au:j<listed.size:=by rw[z.size];omega
  simp[au]at this ⊢;exact this
 |m+1,listed,V,W,z,hm,hb,hS=>by
  obtain⟨u,hu,O⟩:∃u,u<n/\listed.getD u true=false:=by
   have:0<CC n listed:=qo
   obtain⟨u,hu,O⟩:=g9.1 this;exact⟨u,dH.1 hu,by simpa using O⟩
  rw[show m+1+g=(m+g)+1 by omega];refine⟨λh0=>absurd h0 (Ep Y z u hu O),λi hi=>?_⟩
  have J:i<n:=by
   rcases eW i n with h|h
   ·exact h
   ·exact absurd hi (hw listed z u hu O i h)
  obtain⟨aA,o,ho,F⟩:=iT.1 hi;refine D8 ho (ak i o J ho V W _ hb (λj hj=>?_) λv W' H az=>?_)
  ·obtain⟨oj,ax,e,he,af,ay⟩:=Region.waitsFor_spec hj
   have:oj=o:=dj (ax.symm.trans ho);subst this;have hl:=F e he af;rw[ay]at hl
   have aw:j<n:=by
    have h1:=dt.1 Y i (dH.2 J);rw[ho]at h1;have h2:=fy.1 h1 e he;rw[af]at h2;have h3:e.on<i:=by simpa using h2
    omega
   exact hS j aw hl
  ·have ag:o.dst=(ops[i]?).bind (·.dst):=by rw[ho];rfl
   rw[ag,ET hd J];have aq:i<listed.size:=by rw[z.size];exact(AB ho).1
   refine I8 hw hn Y hd al ak M m _ _ W' (z.set hi J) (by have:=Fd J aq aA;omega) (hb.trans ⟨H.os,H.tape,H.output,H.size,λk hk=>H.block k (AF hk hb.size)⟩) λj hj hl=>?_
   by_cases Z:j=i
   ·subst Z
    simpa [upd] using az
   ·rw[gw false (Ne.symm Z)]at hl
    have:=al j (V j) W W' (hS j hj hl) H
    simpa [upd,Z] using this
def Ax(ops:Array Oper)(n:Nat):Bool:=
 decide (n<ops.size)&&Region.sinkB .any ops n&&Region.chainB .any ops n&&GA .any ops n&&Fc ops n&&Region.seqB .any ops (ops.size - n) n (CF ops n)
theorem Lx{id:Nat}{a:Act}{w:World}{l:List Oper}(n:Nat)(S:Nat->Value->World->Prop)(hm:P.follows .mixedOrders=true)(hB:Ax l.toArray n=true)
  (ag:∀j,Ni (S j)) (af:∀i o,i<n->l.toArray[i]?=some o->Nj P l.toArray a n w S i o (S i))
  (z:∀V W,Below w.heap.size w W->(∀j,j<n->S j (V j) W)->wpList P l.toArray Q (l.drop n) (Ak l.toArray V n a) W):(Code.region id l.toArray true).wp P Q a w:=by
 simp only[Ax,di,dS]at hB;obtain⟨⟨⟨⟨⟨hn,hs⟩,hc⟩,aa⟩,hd⟩,O⟩:=hB;refine iC hm ?_
 have Y:HeadInv .any l.toArray n (Array.replicate l.toArray.size false):=
  ⟨qs,λj oj _ M=>(by rw[getD_replicate_false]at M;cases M),λt _ ht=>getD_in (by simpa using ht) (getD_replicate_false _ _)⟩
 have Z:Below w.heap.size w {w with drawn:=w.drawn+1}:=⟨rfl,rfl,rfl,AG,λ_ _=>rfl⟩
 have F:CC n (Array.replicate l.toArray.size false)=n:=by
  unfold CC;rw[gb.2]
  ·simp
  ·intro i hi
   have:i<l.toArray.size:=by have:=dH.1 hi;omega
   rw[getD_in (by simpa using this) (getD_replicate_false _ _)];rfl
 have H:=I8 (P:=P) (Q:=Q) (g:=l.toArray.size - n) (S:=S) (w0:=w) (a0:=a) (λlisted aj i hi hu t ht=>tail_waits hs hc hn aj _ i rfl hi hu t ht) qo aa hd ag af
  (λV W hb hS=>by
   have J:(l.drop n).length=l.toArray.size - n:=by simp
   have:=wpAny_of_seq (md:=.any) (Q':=Q) (l.drop n) n (CF l.toArray n) _ W (λj=>by simp[ew]) (by rw[J];exact O) (z V W hb hS)
   rwa [J]at this)
  n _ (λj=>match (l.toArray[j]?).bind (·.dst) with|some d=>a.tmps.getD d undef|none=>undef) {w with drawn:=w.drawn+1} Y F Z (λj _ M=>by rw[getD_replicate_false]at M;cases M)
 rw[DT,show n+(l.toArray.size - n)=l.toArray.size by omega]at H;exact H
def KZ(S:Nat->Value->World->Prop)(i:Nat)(T:Value->World->Prop):Nat->Value->World->Prop:=λj=>match Nat.beq j i with
 |true=>T
 |false=>S j
def Er(P:Program)(ops:Array Oper)(a0:Act)(n:Nat)(w0:World)(L:(Nat->Value->World->Prop)->Prop):List Oper->Nat->(Nat->Value->World->Prop)->Prop
 |[],_,S=>L S
 |o::rest,i,S=>∃T,Ni T/\Nj P ops a0 n w0 S i o T/\Er P ops a0 n w0 L rest (i+1) (KZ S i T)
theorem AZ{a0:Act}{n:Nat}{w0:World}{L:(Nat->Value->World->Prop)->Prop}{o:Oper}{rest:List Oper}{i:Nat}{S:Nat->Value->World->Prop}(T:Value->World->Prop)(F:Ni T)
  (h:∀(V:Nat->Value) (W:World) (K:Act->World->Prop) (A:Act),Below w0.heap.size w0 W->qW ops S V W i->Hid (A=Ak ops V n a0)->
   Hid (∀v W',Below W.heap.size W W'->T v W'->K (A.put o.dst v) W')->wpList P ops (Ch K) [o] A W)
  (J:Er P ops a0 n w0 L rest (i+1) (KZ S i T)):Er P ops a0 n w0 L (o::rest) i S:=⟨T,F,λV W K hb H z=>h V W K _ hb H rfl z,J⟩
theorem AL{a0:Act}{n:Nat}{w0:World}{L:(Nat->Value->World->Prop)->Prop}{o:Oper}{rest:List Oper}{i:Nat}{S:Nat->Value->World->Prop}{u:Value}
  (h:∀(V:Nat->Value) (W:World) (K:Act->World->Prop) (A:Act),Below w0.heap.size w0 W->qW ops S V W i->Hid (A=Ak ops V n a0)->
   Hid (∀W',Below W.heap.size W W'->K (A.put o.dst u) W')->wpList P ops (Ch K) [o] A W)
  (J:Er P ops a0 n w0 L rest (i+1) (KZ S i λv _=>v=u)):Er P ops a0 n w0 L (o::rest) i S:=
 ⟨λv _=>v=u,λ_ _ _ h _=>h,λV W K hb H F=>h V W K _ hb H rfl λW' z=>F.ab u W' z rfl,J⟩
theorem qA0{a0:Act}{n:Nat}{w0:World}{L:(Nat->Value->World->Prop)->Prop}{o:Oper}{rest:List Oper}{i:Nat}{S:Nat->Value->World->Prop}{u:Value}
  (h:∀(V:Nat->Value) (W:World) (K:Act->World->Prop) (A:Act),Below w0.heap.size w0 W->qW ops S V W i->Hid (A=Ak ops V n a0)->
   Hid (K (A.put o.dst u) W)->wpList P ops (Ch K) [o] A W)
  (z:Er P ops a0 n w0 L rest (i+1) (KZ S i λv _=>v=u)):Er P ops a0 n w0 L (o::rest) i S:=AL (λV W K A a b c d=>h V W K A a @b c (d.ab W (dG _ _))) z
theorem FR(S:Nat->Value->World->Prop)(i:Nat)(T:Value->World->Prop):KZ S i T i=T:=by simp[KZ]
theorem Dt(S:Nat->Value->World->Prop){i j:Nat}(T:Value->World->Prop)(h:j≠i):KZ S i T j=S j:=by
 have:Nat.beq j i=false:=by
  cases hb:Nat.beq j i with
  |false=>rfl
  |true=>exact absurd (dh hb) h
 simp[KZ,this]
theorem Gr{a0:Act}{n:Nat}{w0:World}{L:(Nat->Value->World->Prop)->Prop}(J:GA .any ops n=true):∀(l:List Oper) (k:Nat) (S:Nat->Value->World->Prop),k+l.length=n->(∀j,j<l.length->l[j]?=ops[k+j]?)->
  (∀j,Ni (S j))->(∀i o,i<k->ops[i]?=some o->Nj P ops a0 n w0 S i o (S i))->Er P ops a0 n w0 L l k S->
  ∃O,(∀j,Ni (O j))/\(∀i o,i<n->ops[i]?=some o->Nj P ops a0 n w0 O i o (O i))/\L O
 |[],k,S,hk,_,hl,z,h=>⟨S,hl,by rw[show n=k by simpa using hk.symm];rw[show n=k by simpa using hk.symm]at z;exact z,h⟩
 |o::l,k,S,hk,hs,hl,z,⟨T,hT,ho,h⟩=>by
  have h0:ops[k]?=some o:=by simpa using (hs 0 qs).symm
  have H:∀i j,i<n->Region.waitsFor .any ops i j=true->j<i:=λi j hi F=>by
   obtain⟨oj,ag,e,he,Z,ax⟩:=Region.waitsFor_spec F;have h1:=dt.1 J i (dH.2 hi);rw[ag]at h1;have h2:=fy.1 h1 e he;rw[Z]at h2;have h3:e.on<i:=by simpa using h2
   omega
  have ae:k<n:=by simp only[dM]at hk;omega
  refine Gr J l (k+1) _ (by simp only[dM]at hk;omega) (λj F=>by have:=hs (j+1) qp;simpa [eG,iI 1 j] using this) (λj=>?_) (λi o' hi M=>?_) h
  ·by_cases e:j=k
   ·subst e;rw[FR];exact hT
   ·rw[Dt _ _ e];exact hl j
  ·by_cases e:i=k
   ·subst e
    have:o'=o:=dj (M.symm.trans h0);subst this;rw[FR];exact λV W K hb hd Y=>ho V W K hb (λj F=>by have:=hd j F;rwa [Dt _ _ (by have:=H i j ae F;omega)]at this) Y
   ·rw[Dt _ _ e]
    exact λV W K hb hd Y=>z i o' qo M V W K hb (λj F=>by have:=hd j F;rwa [Dt _ _ (by have:=H i j qo F;omega)]at this) Y
theorem AU{id:Nat}{a:Act}{w:World}{l:List Oper}(n:Nat)
  (h:Er P l.toArray a n w (λS=>∀V W A,Below w.heap.size w W->qN n S V W->Hid (A=Ak l.toArray V n a)->wpList P l.toArray Q (l.drop n) A W) (l.take n) 0 λ_ _ _=>True)(hm:P.follows .mixedOrders=true:=by kernel_rfl)(H:Ax l.toArray n=true:=by kernel_rfl):(Code.region id l.toArray true).wp P Q a w:=by
 have z:=H;simp only[Ax,di,dS]at z;obtain⟨⟨⟨⟨⟨hn,_⟩,_⟩,F⟩,_⟩,_⟩:=z;have ag:n<l.length:=by simpa using hn
 obtain⟨S,J,M,O⟩:=Gr F (l.take n) 0 _ qp (λj hj=>by
  have:j<n:=by simp at hj;omega
  simp[this]) (λ_ _ _ _ _ _=>trivial) (λi o Z=>absurd Z qo) h
 exact Lx n S hm H J M λV W hb Y=>O V W _ hb Y rfl
end
theorem pA:(∀(ops:Array Oper) (V:Nat->Value) (a:Act),Ak ops V 0 a=a)/\(∀(ops:Array Oper) (V:Nat->Value) (n:Nat) (a:Act),Ak ops V (n+1) a=(Ak ops V n a).put ((ops[n]?).bind (·.dst)) (V n))/\
 (∀(l:List Oper) (i:Nat),l.toArray[i]?=l[i]?)/\(∀(a:Oper) (l:List Oper) (i:Nat),(a::l)[i+1]?=l[i]?)/\(∀(a:Oper) (l:List Oper),(a::l)[0]?=some a)/\(∀(a:Oper) (f:Oper->Option Tmp),(some a).bind f=f a)/\
 (∀(t:Array Value) (d:List Deferred) (i:Tmp) (v:Value),Act.put ⟨t,d⟩ (some i) v=⟨t.setIfInBounds i v,d⟩)/\(∀(a:Act) (v:Value),Act.put a none v=a)/\
 (∀(l:qL) (i:Nat) (a:Value),l.toArray.setIfInBounds i a=(l.set i a).toArray)/\(∀(x:Value) (xs:qL) (n:Nat) (a:Value),(x::xs).set (n+1) a=x::xs.set n a)/\(∀(x:Value) (xs:qL) (a:Value),(x::xs).set 0 a=a::xs):=
 ⟨λ_ _ _=>rfl,λ_ _ _ _=>rfl,λ_ _=>qs,λ_ _ _=>qs,λ_ _=>qs,λ_ _=>rfl,λ_ _ _ _=>rfl,λ_ _=>rfl,λ_ _ _=>qs,λ_ _ _ _=>rfl,λ_ _ _=>rfl⟩
theorem brf{N:Nat}{w:World}:Below N w w:=dG N w
theorem qP{p:Prop}(h:p:=by intro V W K A J F z H;simp only[pA]at z;(try simp only[show V 0=_ from F 0 (by decide +kernel)]at z);(try simp only[show V 1=_ from F 1 (by decide +kernel)]at z);(try simp only[show V 2=_ from F 2 (by decide +kernel)]at z);(try simp only[show V 3=_ from F 3 (by decide +kernel)]at z);(try simp only[show V 4=_ from F 4 (by decide +kernel)]at z);(try simp only[show V 5=_ from F 5 (by decide +kernel)]at z);(try simp only[show V 6=_ from F 6 (by decide +kernel)]at z);(try simp only[show V 7=_ from F 7 (by decide +kernel)]at z);(try simp only[show V 8=_ from F 8 (by decide +kernel)]at z);(try simp only[show V 9=_ from F 9 (by decide +kernel)]at z);(try simp only[show V 10=_ from F 10 (by decide +kernel)]at z);(try simp only[show V 11=_ from F 11 (by decide +kernel)]at z);(try simp only[show V 12=_ from F 12 (by decide +kernel)]at z);(try simp only[show V 13=_ from F 13 (by decide +kernel)]at z);(try simp only[show V 14=_ from F 14 (by decide +kernel)]at z);(try simp only[show V 15=_ from F 15 (by decide +kernel)]at z);(try simp only[show V 16=_ from F 16 (by decide +kernel)]at z);(try simp only[show V 17=_ from F 17 (by decide +kernel)]at z);(try simp only[show V 18=_ from F 18 (by decide +kernel)]at z);(try simp only[show V 19=_ from F 19 (by decide +kernel)]at z);(try simp only[show V 20=_ from F 20 (by decide +kernel)]at z);(try simp only[show V 21=_ from F 21 (by decide +kernel)]at z);(try simp only[show V 22=_ from F 22 (by decide +kernel)]at z);subst z;go_wp2;exact H):p:=h
theorem qR{p:Prop}(h:p:=by intro V W K A J M F z H;simp only[pA]at z;(try simp only[show V 0=_ from F 0 (by decide +kernel)]at z);(try simp only[show V 1=_ from F 1 (by decide +kernel)]at z);(try simp only[show V 2=_ from F 2 (by decide +kernel)]at z);(try simp only[show V 3=_ from F 3 (by decide +kernel)]at z);(try simp only[show V 4=_ from F 4 (by decide +kernel)]at z);(try simp only[show V 5=_ from F 5 (by decide +kernel)]at z);(try simp only[show V 6=_ from F 6 (by decide +kernel)]at z);(try simp only[show V 7=_ from F 7 (by decide +kernel)]at z);(try simp only[show V 8=_ from F 8 (by decide +kernel)]at z);(try simp only[show V 9=_ from F 9 (by decide +kernel)]at z);(try simp only[show V 10=_ from F 10 (by decide +kernel)]at z);(try simp only[show V 11=_ from F 11 (by decide +kernel)]at z);(try simp only[show V 12=_ from F 12 (by decide +kernel)]at z);(try simp only[show V 13=_ from F 13 (by decide +kernel)]at z);(try simp only[show V 14=_ from F 14 (by decide +kernel)]at z);(try simp only[show V 15=_ from F 15 (by decide +kernel)]at z);(try simp only[show V 16=_ from F 16 (by decide +kernel)]at z);(try simp only[show V 17=_ from F 17 (by decide +kernel)]at z);(try simp only[show V 18=_ from F 18 (by decide +kernel)]at z);(try simp only[show V 19=_ from F 19 (by decide +kernel)]at z);(try simp only[show V 20=_ from F 20 (by decide +kernel)]at z);(try simp only[show V 21=_ from F 21 (by decide +kernel)]at z);(try simp only[show V 22=_ from F 22 (by decide +kernel)]at z);subst z;go_wp2;exact H.ab _ brf):p:=h
end
end Go.Proofs.YtbceafpodamnfaaGreatDoor
