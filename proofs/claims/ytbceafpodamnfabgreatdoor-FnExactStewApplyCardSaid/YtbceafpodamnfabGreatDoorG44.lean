/-
  My own: Ot.
-/
import Derived.Test.YtbceafpodamnfabGreatDoorG25
import Derived.Stop.Asserts
import Derived.LaidEql
import Derived.OneCell
import Derived.RowKitTokens
import Derived.Laws.Externs
set_option linter.unusedVariables false
set_option linter.unusedSimpArgs false
namespace Go.Proofs.YtbceafpodamnfabGreatDoor
open Go.RowKit Go.Extern.Stop Go.Stop Go.Extern
def errV (c : Int) : Value := .iface 218 (.agg #[.iface 170 (.agg #[.int .i64 c])])
def ErrT (w : World) : Prop := w.cell? ⟨0, 0, none⟩ = some (.iface 285 (.agg #[.pointer (some ⟨9, 132, none⟩)]))
theorem as_nil (t : Value) (w : World) : Calls Tryz.prog 107 #[.nilIface, t] w fun e w' => e = .returned (.bool false) ∧ w' = w := by
 go_enter Tryz.func107, Tryz.ntmps107
 go_wp2
 go_ret
 exact ⟨rfl, rfl⟩
theorem Tryz.rlValueOfP (t : Addr) (w : World) : (ReflectliteValue.unpack (.iface 172 (.pointer (some t)))).run Tryz.prog w
  = .ok (.agg #[.pointer (some ⟨9, 172, none⟩), .pointer (some ⟨w.heap.size, 0, none⟩), .int .u64 150]) (w.alloc (.cells #[.pointer (some t)] 172)) := by kernel_rfl
theorem Tryz.rlType (a : Addr) (w : World) : (ReflectliteValue.methodAny (ReflectliteValue.valueError "reflectlite.Value.Type" 0) (fun t _ _ _ => ReflectliteType.toType t) #[.agg #[.pointer (some ⟨9, 172, none⟩), .pointer (some a), .int .u64 150]]).run Tryz.prog w
  = .ok (.iface 285 (.agg #[.pointer (some ⟨9, 172, none⟩)])) w := by kernel_rfl
theorem Tryz.rlMethodKind (h : Value) (w : World) : (Go.method 581 285 (.agg #[h]) "Kind").run Tryz.prog w = .ok (426, h) w := by kernel_rfl
theorem Tryz.rlKindP (w : World) : ((ReflectliteType.abiMethod fun t => (fun a : Nat => Value.int IntKind.u8 (a : Int)) <$> Rtype.kind t) #[.pointer (some ⟨9, 172, none⟩)]).run Tryz.prog w = .ok (.int .u8 22) w := by kernel_rfl
theorem Tryz.rlKindE (w : World) : ((ReflectliteType.abiMethod fun t => (fun a : Nat => Value.int IntKind.u8 (a : Int)) <$> Rtype.kind t) #[.pointer (some ⟨9, 170, none⟩)]).run Tryz.prog w = .ok (.int .u8 25) w := by kernel_rfl
theorem rlmO (z : Sem Value) (f : TypeId → Addr → Nat → Nat → Sem Value) (v : Value) :
  ReflectliteValue.method z f #[v] = (do match ← ReflectliteValue.parts v with | none => z | some (t, a, fl) => f t a fl (fl % 32)) := rfl
theorem Tryz.rlPartsP (a : Addr) (w : World) : (ReflectliteValue.parts (.agg #[.pointer (some ⟨9, 172, none⟩), .pointer (some a), .int .u64 150])).run Tryz.prog w = .ok (some (172, a, 150)) w := by kernel_rfl
theorem Tryz.rlIsNil (a p : Addr) (W : World) (ha : W.cell? a = some (.pointer (some p))) :
  (ReflectliteValue.method (ReflectliteValue.valueError "reflectlite.Value.IsNil" 0) ReflectliteValue.isNil #[.agg #[.pointer (some ⟨9, 172, none⟩), .pointer (some a), .int .u64 150]]).run Tryz.prog W = .ok (.bool false) W := by
 rw [rlmO]
 simp only [Sem.run_bind, Tryz.rlPartsP, Result.andThen]
 simp [ReflectliteValue.isNil, loadVar, isAgg, underlying, Tryz.underlying172, ha, Result.andThen]
theorem Tryz.rlMethodElem (h : Value) (w : World) : (Go.method 581 285 (.agg #[h]) "Elem").run Tryz.prog w = .ok (439, .agg #[h]) w := by kernel_rfl
theorem Tryz.rlMethodImplements (h : Value) (w : World) : (Go.method 581 285 (.agg #[h]) "Implements").run Tryz.prog w = .ok (440, .agg #[h]) w := by kernel_rfl
theorem Tryz.rlMethodAssignable (h : Value) (w : World) : (Go.method 581 285 (.agg #[h]) "AssignableTo").run Tryz.prog w = .ok (437, .agg #[h]) w := by kernel_rfl
theorem Tryz.rlElem (w : World) : (ReflectliteType.method ReflectliteType.elem #[.agg #[.pointer (some ⟨9, 172, none⟩)]]).run Tryz.prog w = .ok (.iface 285 (.agg #[.pointer (some ⟨9, 170, none⟩)])) w := by kernel_rfl
theorem Tryz.rlImplements (w : World) : (ReflectliteType.relation "Implements" ReflectliteType.implements_ #[.agg #[.pointer (some ⟨9, 170, none⟩)], .iface 285 (.agg #[.pointer (some ⟨9, 132, none⟩)])]).run Tryz.prog w = .ok (.bool true) w := by kernel_rfl
theorem Tryz.rlTypeOfN (v : Value) (w : World) : (ReflectliteType.typeOf #[.iface 218 v]).run Tryz.prog w = .ok (.iface 285 (.agg #[.pointer (some ⟨9, 218, none⟩)])) w := by kernel_rfl
theorem Tryz.rlTypeOfR (v : Value) (w : World) : (ReflectliteType.typeOf #[.iface 170 v]).run Tryz.prog w = .ok (.iface 285 (.agg #[.pointer (some ⟨9, 170, none⟩)])) w := by kernel_rfl
theorem Tryz.rlAssignableN (w : World) : (ReflectliteType.relation "AssignableTo" ReflectliteType.assignableTo #[.agg #[.pointer (some ⟨9, 218, none⟩)], .iface 285 (.agg #[.pointer (some ⟨9, 170, none⟩)])]).run Tryz.prog w = .ok (.bool false) w := by kernel_rfl
theorem Tryz.rlAssignableR (w : World) : (ReflectliteType.relation "AssignableTo" ReflectliteType.assignableTo #[.agg #[.pointer (some ⟨9, 170, none⟩)], .iface 285 (.agg #[.pointer (some ⟨9, 170, none⟩)])]).run Tryz.prog w = .ok (.bool true) w := by kernel_rfl
theorem Tryz.rlValueOfR (c : Int) (w : World) : (ReflectliteValue.unpack (.iface 170 (.agg #[.int .i64 c]))).run Tryz.prog w
  = .ok (.agg #[.pointer (some ⟨9, 170, none⟩), .pointer (some ⟨w.heap.size, 0, none⟩), .int .u64 153]) (w.alloc (.cells #[.int .i64 c] 170)) := by kernel_rfl
theorem Tryz.rlElemOf (w : World) : (Rtype.elem? 172).run Tryz.prog w = .ok (some 170) w := by kernel_rfl
theorem Tryz.rlMk (p : Addr) (w : World) : (ReflectliteValue.mk 170 p ReflectliteValue.flagAddr).run Tryz.prog w = .ok (.agg #[.pointer (some ⟨9, 170, none⟩), .pointer (some p), .int .u64 409]) w := by kernel_rfl
theorem Tryz.rlElemV (a p : Addr) (W : World) (ha : W.cell? a = some (.pointer (some p))) :
  (ReflectliteValue.method (ReflectliteValue.valueError "reflectlite.Value.Elem" 0) ReflectliteValue.elem #[.agg #[.pointer (some ⟨9, 172, none⟩), .pointer (some a), .int .u64 150]]).run Tryz.prog W
   = .ok (.agg #[.pointer (some ⟨9, 170, none⟩), .pointer (some p), .int .u64 409]) W := by
 rw [rlmO]
 simp only [Sem.run_bind, Tryz.rlPartsP, Result.andThen]
 simp [ReflectliteValue.elem, loadVar, isAgg, underlying, Tryz.underlying172, ha, Result.andThen, Tryz.rlElemOf, Tryz.rlMk]
theorem rlsO (v x : Value) : ReflectliteValue.set #[v, x] = (do
  let (some (dst, a, fl), some (src, b, _)) := (← ReflectliteValue.parts v, ← ReflectliteValue.parts x)
   | unsupported (.noEntry "extern/(internal/reflectlite.Value).Set.zeroValue")
  if fl / ReflectliteValue.flagAddr % 2 == 0 then unsupported (.noEntry "extern/(internal/reflectlite.Value).Set.unaddressable")
  let val ← loadVar src b
  if ← Rtype.directlyAssignable dst src then storeVar dst a val
  else if ← Rtype.implements dst src then
   if (← Rtype.kind src) == 20 then
    match val with
    | .nilIface => unsupported (.noEntry "extern/reflectlite: a nil value of one interface type handed on as a value of another")
    | _ => storeVar dst a val
   else storeVar dst a (.iface src val)
  else panicString ("reflectlite.Set: value of type " ++ (← Rtype.spelt src) ++ " is not assignable to type " ++ (← Rtype.spelt dst))
  pure (.tuple #[])) := rfl
theorem Tryz.rlPartsA (a : Addr) (w : World) : (ReflectliteValue.parts (.agg #[.pointer (some ⟨9, 170, none⟩), .pointer (some a), .int .u64 409])).run Tryz.prog w = .ok (some (170, a, 409)) w := by kernel_rfl
theorem Tryz.rlPartsR (a : Addr) (w : World) : (ReflectliteValue.parts (.agg #[.pointer (some ⟨9, 170, none⟩), .pointer (some a), .int .u64 153])).run Tryz.prog w = .ok (some (170, a, 153)) w := by kernel_rfl
theorem Tryz.rlDirect (w : World) : (Rtype.directlyAssignable 170 170).run Tryz.prog w = .ok true w := by kernel_rfl
theorem Tryz.rlSize (w : World) : (sizeOf 170).run Tryz.prog w = .ok 1 w := by kernel_rfl
theorem Tryz.rlSet (ta b : Addr) (c : Int) (old : Value) (W : World) (hb : W.cell? b = some (.int .i64 c)) (ht : W.cell? ta = some old) (hf : W.frozen? ta = false) :
  (ReflectliteValue.set #[.agg #[.pointer (some ⟨9, 170, none⟩), .pointer (some ta), .int .u64 409], .agg #[.pointer (some ⟨9, 170, none⟩), .pointer (some b), .int .u64 153]]).run Tryz.prog W
   = .ok (.tuple #[]) (W.setCell ta (.int .i64 c)) := by
 rw [rlsO]
 simp only [Sem.run_bind, Tryz.rlPartsA, Tryz.rlPartsR, Result.andThen]
 simp [ReflectliteValue.flagAddr, loadVar, isAgg, underlying, Tryz.underlying170, hb, Result.andThen, Tryz.rlDirect, storeVar, Value.cells, storeCells, Addr.add, Tryz.rlSize, loadCells, loadCellsFrom]
 rw [run_store Tryz.prog W ta _ _ (by rfl)]
 simp [ht, hf]
theorem Tryz.asNoAs (v : Value) (w : World) : (Instr.typeAssert (.iface 218 v) 132 290 true).run Tryz.prog w = .ok (.tuple #[.nilIface, .bool false]) w :=
 run_typeAssert_lacksB Tryz.underlying290 (by kernel_rfl) (by kernel_rfl) v 132 w
theorem Tryz.asUnwraps (v : Value) (w : World) : (Instr.typeAssert (.iface 218 v) 132 293 true).run Tryz.prog w = .ok (.tuple #[.iface 218 v, .bool true]) w :=
 run_typeAssert_hasB Tryz.underlying293 (by kernel_rfl) v 132 w
theorem Tryz.asUnwrap (v : Value) (w : World) : (Go.method 581 218 v "Unwrap").run Tryz.prog w = .ok (432, v) w := by kernel_rfl
theorem unwrap_own (v : Value) (w : World) (hv : v.oneCell' = true) : Calls Tryz.prog 432 #[.agg #[v]] w fun e w' => e = .returned v ∧ w.alloc (.cells #[v] 218) = w' := by
 go_enter Tryz.func432, Tryz.ntmps432
 go_wp2
 go_ret
 exact ⟨rfl, rfl⟩
theorem frozen_blk {w : World} {b off : Nat} {cs : Array Value} {t : TypeId} (h : w.heap[b]? = some (.cells cs t (0, 0))) : w.frozen? ⟨b, off, none⟩ = false := by
 simp [World.frozen?, h]
set_option maxRecDepth 100000 in
set_option maxHeartbeats 8000000 in
theorem as_in (c : Int) (tb vb : Nat) (old : Value) (w : World) (ht : w.heap[tb]? = some (.cells #[old] 170 (0, 0))) (hv : w.heap[vb]? = some (.cells #[.pointer (some ⟨tb, 0, none⟩)] 172 (0, 0))) :
  Calls Tryz.prog 182 #[errV c, .iface 172 (.pointer (some ⟨tb, 0, none⟩)), .agg #[.pointer (some ⟨9, 172, none⟩), .pointer (some ⟨vb, 0, none⟩), .int .u64 150], .iface 285 (.agg #[.pointer (some ⟨9, 170, none⟩)])] w fun e w' => e = .returned (.bool true) ∧ w'.heap[tb]? = some (.cells #[.int .i64 c] 170 (0, 0)) ∧ ∀ N, N ≤ tb → N ≤ w.heap.size → Below N w w' := by
 unfold errV
 have h6 := @run_callFunc_extern Tryz.prog 179 _ (fun args => ReflectliteValue.unpack (args.getD 0 (.tuple #[]))) Tryz.func179 (by kernel_rfl) (by kernel_rfl) (by kernel_rfl) (by kernel_rfl)
 have h7 := @run_callFunc_extern Tryz.prog 180 _ (ReflectliteValue.methodAny (ReflectliteValue.valueError "reflectlite.Value.Type" 0) (fun t _ _ _ => ReflectliteType.toType t)) Tryz.func180 (by kernel_rfl) (by kernel_rfl) (by kernel_rfl) (by kernel_rfl)
 have h8 := @run_callFunc_extern Tryz.prog 181 _ (ReflectliteValue.method (ReflectliteValue.valueError "reflectlite.Value.IsNil" 0) ReflectliteValue.isNil) Tryz.func181 (by kernel_rfl) (by kernel_rfl) (by kernel_rfl) (by kernel_rfl)
 have h27 := @run_callFunc_extern Tryz.prog 426 _ (ReflectliteType.abiMethod fun t => do pure (.int .u8 (← Rtype.kind t))) Tryz.func426 (by kernel_rfl) (by kernel_rfl) (by kernel_rfl) (by kernel_rfl)
 have h37 := @run_callFunc_extern Tryz.prog 439 _ (ReflectliteType.method ReflectliteType.elem) Tryz.func439 (by kernel_rfl) (by kernel_rfl) (by kernel_rfl) (by kernel_rfl)
 have h38 := @run_callFunc_extern Tryz.prog 440 _ (ReflectliteType.relation "Implements" ReflectliteType.implements_) Tryz.func440 (by kernel_rfl) (by kernel_rfl) (by kernel_rfl) (by kernel_rfl)
 have h10 := @run_callFunc_extern Tryz.prog 230 _ ReflectliteType.typeOf Tryz.func230 (by kernel_rfl) (by kernel_rfl) (by kernel_rfl) (by kernel_rfl)
 have h35 := @run_callFunc_extern Tryz.prog 437 _ (ReflectliteType.relation "AssignableTo" ReflectliteType.assignableTo) Tryz.func437 (by kernel_rfl) (by kernel_rfl) (by kernel_rfl) (by kernel_rfl)
 have h11 := @run_callFunc_extern Tryz.prog 231 _ (ReflectliteValue.method (ReflectliteValue.valueError "reflectlite.Value.Elem" 0) ReflectliteValue.elem) Tryz.func231 (by kernel_rfl) (by kernel_rfl) (by kernel_rfl) (by kernel_rfl)
 have h12 := @run_callFunc_extern Tryz.prog 232 _ ReflectliteValue.set Tryz.func232 (by kernel_rfl) (by kernel_rfl) (by kernel_rfl) (by kernel_rfl)
 have f1 := Tryz.rlValueOfP
 have f2 := Tryz.rlType
 have f3 := Tryz.rlMethodKind
 have f4 := Tryz.rlKindP
 have f5 := Tryz.rlKindE
 have f6 := Tryz.rlMethodElem
 have f7 := Tryz.rlMethodImplements
 have f8 := Tryz.rlMethodAssignable
 have f9 := Tryz.rlElem
 have f10 := Tryz.rlImplements
 have f11 := Tryz.rlTypeOfN
 have f12 := Tryz.rlTypeOfR
 have f13 := Tryz.rlAssignableN
 have f14 := Tryz.rlAssignableR
 have f15 := Tryz.rlValueOfR
 have f16 := Tryz.asNoAs
 have f17 := Tryz.asUnwraps
 have f18 := Tryz.asUnwrap
 have htl : tb < w.heap.size := (Array.getElem?_eq_some_iff.1 ht).1
 have hvl : vb < w.heap.size := (Array.getElem?_eq_some_iff.1 hv).1
 obtain ⟨V1, hV1⟩ : ∃ W, w.alloc (.cells #[.pointer (some ⟨9, 172, none⟩), .pointer (some ⟨vb, 0, none⟩), .int .u64 150] 227) = W := ⟨_, rfl⟩
 have t1 : V1.heap[w.heap.size]? = some (.cells #[.pointer (some ⟨9, 172, none⟩), .pointer (some ⟨vb, 0, none⟩), .int .u64 150] 227 (0, 0)) := by rw [← hV1]; exact heap_alloc_new _ _
 have b1 : Below w.heap.size w V1 := by rw [← hV1]; exact below_box _ _
 have z1 : w.heap.size < V1.heap.size := (Array.getElem?_eq_some_iff.1 t1).1
 obtain ⟨V2, hV2⟩ : ∃ W, V1.alloc (.cells #[.iface 170 (.agg #[.int .i64 c])] 218) = W := ⟨_, rfl⟩
 have b2 : Below V1.heap.size V1 V2 := by rw [← hV2]; exact below_box _ _
 have t2 := below_blk b2 t1 z1
 have b12 := b1.trans (b2.mono b1.size)
 obtain ⟨V3, hV3⟩ : ∃ W, V2.alloc (.cells #[.int .i64 c] 170) = W := ⟨_, rfl⟩
 have t3 : V3.heap[V2.heap.size]? = some (.cells #[.int .i64 c] 170 (0, 0)) := by rw [← hV3]; exact heap_alloc_new _ _
 have b3 : Below V2.heap.size V2 V3 := by rw [← hV3]; exact below_box _ _
 have b123 := b12.trans (b3.mono b12.size)
 have c0 := blk_cell t2 0 rfl
 have c1 := blk_cell t2 1 rfl
 have c2 := blk_cell t2 2 rfl
 have el := Tryz.rlElemV ⟨vb, 0, none⟩ ⟨tb, 0, none⟩ V2 (blk_cell (below_blk b12 hv hvl) 0 rfl)
 have ht3 := below_blk b123 ht htl
 have st := Tryz.rlSet ⟨tb, 0, none⟩ ⟨V2.heap.size, 0, none⟩ c old V3 (blk_cell t3 0 rfl) (blk_cell ht3 0 rfl) (frozen_blk ht3)
 have HF : Hid ((V3.setCell ⟨tb, 0, none⟩ (.int .i64 c)).heap[tb]? = some (.cells #[.int .i64 c] 170 (0, 0)) ∧ ∀ N, N ≤ tb → N ≤ w.heap.size → Below N w (V3.setCell ⟨tb, 0, none⟩ (.int .i64 c))) := ⟨one_setCell ht3, fun N h1 h2 => (b123.mono h2).setCell h1 _⟩
 clear ht hv t1 t2 t3 b1 b2 b12 b3 b123 ht3
 go_enter Tryz.func182, Tryz.ntmps182
 go_wp2
 refine wp_loop_rounds 2 ?_
 rw [rounds_succ]
 go_wp2_with (go_at_call 432; refine (unwrap_own _ _ rfl).mono ?_; rintro e w1 ⟨rfl, rfl⟩)
 rw [rounds_succ]
 go_wp2
 go_ret
 exact ⟨rfl, HF.out.1, HF.out.2⟩
end Go.Proofs.YtbceafpodamnfabGreatDoor
