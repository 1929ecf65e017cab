/-
  My own. Laws that the walks want: a struct stored into the middle of a row; rows that are filled struct by struct.
-/
import Derived.Test.YtbceafpodamnfaaData
import Derived.Laws.CopyOwn
import Derived.WalkKit
namespace Go.Proofs.Ytbceafpodamnfaa
open Go.RowKit

section
variable {P : Program}

theorem setRow_block (w : World) (g k : Nat) (cs : Array Value) (h : k ≠ g) : (w.setRow g cs).heap[k]? = w.heap[k]? := by
  unfold World.setRow
  simp only [Array.getElem?_modify]
  rw [if_neg (by omega)]
theorem setRow_size (w : World) (g : Nat) (cs : Array Value) : (w.setRow g cs).heap.size = w.heap.size := by
  unfold World.setRow; simp
theorem below_setRow' (w : World) (g : Nat) (cs : Array Value) : Below g w (w.setRow g cs) :=
  ⟨rfl, rfl, rfl, by rw [setRow_size]; exact Nat.le_refl _, fun k hk => setRow_block w g k cs (by omega)⟩

theorem run_storeVar_at (w : World) (g off : Nat) (t ty : TypeId) (cur cells : Array Value) (hg : w.heap[g]? = some (.cells cur t (0, 0))) (hi : (P.info? ty).map (·.size) = some cells.size)
    (hfit : off + cells.size ≤ cur.size) (h1 : cells.all (·.oneCell') = true) :
    (storeVar ty ⟨g, off, none⟩ (.agg cells)).run P w = .ok () (w.setRow g (splice cur.toList off cells.toList).toArray) := by
  have := run_storeCells_at P g off t cells.toList 0 cur w hg (by simpa using hfit) (fun v hv => (Array.all_eq_true_iff_forall_mem.1 h1) v (by simpa using hv))
  cases hq : P.info? ty with
  | none => simp [hq] at hi
  | some i =>
    have hs : cells.size = i.size := by simp [hq] at hi; omega
    simp only [Nat.add_zero, List.append_assoc] at this
    simp [storeVar, sizeOf, typeInfo, hq, Value.cells, hs, this, splice]

/-- A struct stored into the middle of a row. Behind it the world is a variable. -/
theorem wpList_store_at {ops : Array Oper} {rest : List Oper} {o : Oper} {a : Act} {w : World} {Q : Exit → Act → World → Prop} (hgd : o.guard = none) (ty : TypeId) (x y : Operand) (ho : o.op = .store ty x y)
    (g off : Nat) (cells : Array Value) (hx : a.eval x = .pointer (some ⟨g, off, none⟩)) (hy : a.eval y = .agg cells) (t : TypeId) (cur : Array Value) (hg : w.heap[g]? = some (.cells cur t (0, 0)))
    (hi : (P.info? ty).map (·.size) = some cells.size) (hfit : off + cells.size ≤ cur.size) (h1 : cells.all (·.oneCell') = true)
    (h : ∀ w', Hid (w'.heap[g]? = some (.cells (splice cur.toList off cells.toList).toArray t (0, 0))) → Hid (w'.heap.size = w.heap.size) → Below g w w' → wpList P ops Q rest (a.put o.dst undef) w') : wpList P ops Q (o :: rest) a w := by
  refine wpList_plain hgd fun K hK => ?_
  unfold Oper.wp execOp
  simp only [ho, hx, hy, Instr.storeAt, Instr.sureAddr, Sem.run_bind, Sem.run_pure, Result.andThen_ok, run_storeVar_at w g off t ty cur cells hg hi hfit h1]
  exact hK _ _ (h _ (setRow_heap w g cur _ t _ hg) (setRow_size w g _) (below_setRow' w g _))

/-- 'make([]T, n)': the new block as it is. -/
theorem wpList_make_at {ops : Array Oper} {rest : List Oper} {o : Oper} {a : Act} {w : World} {Q : Exit → Act → World → Prop} (hgd : o.guard = none) (l c : Operand) (t : TypeId) (hop : o.op = Op.makeSlice t l c)
    (e : TypeId) (z : Value) (size bytes : Nat) (ht : P.underlying t = some (.slice e)) (hinfo : (P.info? e).map (fun i => (i.zero, i.size, i.bytes)) = some (some z, size, bytes))
    (n : Nat) (hl : a.eval l = .int .i64 (n : Int)) (hc : a.eval c = .int .i64 (n : Int)) (b2 : bytes * n ≤ 281474976710656) (b3 : n ≤ maxLen)
    (h : ∀ w', Hid (w'.heap[w.heap.size]? = some (.cells (madeCells z.cells (n * size)) e (0, 0))) → Hid (w'.heap.size = w.heap.size + 1) → Below w.heap.size w w' → wpList P ops Q rest (a.put o.dst (.slice (some ⟨w.heap.size, 0, none⟩) n n)) w') :
    wpList P ops Q (o :: rest) a w := by
  obtain ⟨i, hi, hz, hs, hb⟩ := info_parts hinfo
  subst hs hb
  unfold maxLen at b3
  have hb2 : (i.bytes : Int) * (n : Int) ≤ 281474976710656 := by
    have h : ((i.bytes * n : Nat) : Int) ≤ 281474976710656 := by omega
    rwa [Int.natCast_mul] at h
  have hr := run_make (P := P) w t e i z ht hi hz .i64 .i64 n n (by omega) (Int.le_refl _) hb2 (by omega)
  simp only [Int.toNat_natCast] at hr
  refine wpList_plain hgd fun K hK => ?_
  unfold Oper.wp
  simp [execOp, hop, hl, hc, hr, Result.andThen]
  refine hK _ _ (h _ (heap_alloc_new w _) (by show (w.heap.push _).size = _; simp) ((Below.refl _ _).alloc (Nat.le_refl _) _))
end

theorem blk_cell {w : World} {b : Nat} {cs : Array Value} {t : TypeId} {fr : Nat × Nat} (h : w.heap[b]? = some (.cells cs t fr)) (o : Nat) {v : Value} (hv : cs[o]? = some v) : w.cell? ⟨b, o, none⟩ = some v := by
  rw [cell_of_row w b o cs t fr h]; exact hv
theorem blk_frozen {w : World} {b : Nat} {cs : Array Value} {t : TypeId} (h : w.heap[b]? = some (.cells cs t (0, 0))) (o : Nat) : w.frozen? ⟨b, o, none⟩ = false := by
  simp [World.frozen?, h]
theorem blk_set {w : World} {b : Nat} {cs : Array Value} {t : TypeId} (h : w.heap[b]? = some (.cells cs t (0, 0))) (o : Nat) (v : Value) : (w.setCell ⟨b, o, none⟩ v).heap[b]? = some (.cells (cs.setIfInBounds o v) t (0, 0)) := by
  rw [setCell_eq_setRow w b o cs t (0, 0) v h]; exact setRow_heap w b cs _ t _ h
theorem size_setCell (w : World) (a : Addr) (v : Value) : (w.setCell a v).heap.size = w.heap.size := by simp [World.setCell]

theorem three_new (w : World) (A B C : Obj) : (((w.alloc A).alloc B).alloc C).heap[w.heap.size]? = some A ∧ (((w.alloc A).alloc B).alloc C).heap[w.heap.size + 1]? = some B ∧ (((w.alloc A).alloc B).alloc C).heap[w.heap.size + 1 + 1]? = some C ∧ (((w.alloc A).alloc B).alloc C).heap.size = w.heap.size + 1 + 1 + 1 := by
  have e : (((w.alloc A).alloc B).alloc C).heap = ((w.heap.push A).push B).push C := rfl
  rw [e]
  refine ⟨?_, ?_, ?_, by simp⟩
  · rw [Array.getElem?_push, if_neg (by simp; omega), Array.getElem?_push, if_neg (by simp), Array.getElem?_push, if_pos rfl]
  · rw [Array.getElem?_push, if_neg (by simp), Array.getElem?_push, if_pos (by simp)]
  · rw [Array.getElem?_push, if_pos (by simp)]

/-- The first k structs of l, n cells each, lie in the row. -/
def Filled {α : Type} (c : α → List Value) (n : Nat) (l : List α) (k : Nat) (cur : List Value) : Prop :=
  cur.length = l.length * n ∧ ∀ i s, i < k → l[i]? = some s → ∀ j, j < n → cur[i * n + j]? = (c s)[j]?

theorem Filled.step {α : Type} {c : α → List Value} {n : Nat} {l : List α} {k : Nat} {cur : List Value} (h : Filled c n l k cur) {s : α} (hs : l[k]? = some s) (hc : (c s).length = n) :
    Filled c n l (k + 1) (splice cur (k * n) (c s)) := by
  obtain ⟨hlen, hf⟩ := h
  have hk : k < l.length := by
    rcases Nat.lt_or_ge k l.length with h | h
    · exact h
    · rw [List.getElem?_eq_none h] at hs; cases hs
  have hle : k * n + n ≤ cur.length := by rw [hlen, ← Nat.succ_mul]; exact Nat.mul_le_mul_right n hk
  refine ⟨by rw [length_splice _ _ _ (by omega), hlen], fun i s' hi hs' j hj => ?_⟩
  unfold splice
  by_cases hik : i = k
  · subst hik
    rw [hs] at hs'; cases hs'
    rw [List.getElem?_append_right (by simp; omega), List.getElem?_append_left (by simp; omega)]
    congr 1
    simp; omega
  · have hlt : i < k := by omega
    have : i * n + n ≤ k * n := by rw [← Nat.succ_mul]; exact Nat.mul_le_mul_right n hlt
    rw [List.getElem?_append_left (by simp; omega), List.getElem?_take, if_pos (by omega)]
    exact hf i s' hlt hs' j hj

def Svc.cells (s : Svc) : List Value := (#[.string s.name, .int .i64 s.version, .bool s.gone, .int .i64 s.image, .int .i64 s.want, .int .i64 s.down, .int .i64 s.over, .int .i64 s.next, .int .i64 s.per, .int .i64 s.least, .int .i64 s.most, .int .i64 s.load, .int .i64 s.cool] : Array Value).toList
def Cp.cells (s : Cp) : List Value := (#[.string s.service, .int .i64 s.number, .int .i64 s.version, .int .i64 s.image, .int .i64 s.state, .bool s.ending, .string s.berth] : Array Value).toList
def Bt.cells (s : Bt) : List Value := (#[.string s.name, .bool s.drain] : Array Value).toList

theorem one_Svc (s : Svc) : (#[.string s.name, .int .i64 s.version, .bool s.gone, .int .i64 s.image, .int .i64 s.want, .int .i64 s.down, .int .i64 s.over, .int .i64 s.next, .int .i64 s.per, .int .i64 s.least, .int .i64 s.most, .int .i64 s.load, .int .i64 s.cool] : Array Value).all (·.oneCell') = true := by simp [Value.oneCell']
theorem one_Cp (s : Cp) : (#[.string s.service, .int .i64 s.number, .int .i64 s.version, .int .i64 s.image, .int .i64 s.state, .bool s.ending, .string s.berth] : Array Value).all (·.oneCell') = true := by simp [Value.oneCell']
theorem one_Bt (s : Bt) : (#[.string s.name, .bool s.drain] : Array Value).all (·.oneCell') = true := by simp [Value.oneCell']

theorem cell_row {w : World} {b : Nat} {cur : Array Value} {t : TypeId} {fr : Nat × Nat} (h : w.heap[b]? = some (.cells cur t fr)) (o : Nat) : w.cell? ⟨b, o, none⟩ = cur.toList[o]? := by
  rw [cell_of_row w b o cur t fr h]; simp

theorem svcsAt_of_filled {w : World} {b : Nat} {cur : Array Value} {t : TypeId} {fr : Nat × Nat} {l : List Svc} (h : w.heap[b]? = some (.cells cur t fr)) (hf : Filled Svc.cells 13 l l.length cur.toList) : SvcsAt w b 0 l := by
  intro i s hs
  have hi : i < l.length := by
    rcases Nat.lt_or_ge i l.length with h | h
    · exact h
    · rw [List.getElem?_eq_none h] at hs; cases hs
  have := hf.2 i s hi hs
  unfold SvcAt
  simp only [cell_row h, Nat.zero_add]
  refine ⟨?_, ?_, ?_, ?_, ?_, ?_, ?_, ?_, ?_, ?_, ?_, ?_, ?_⟩
  · exact this 0 (by omega)
  · exact this 1 (by omega)
  · exact this 2 (by omega)
  · exact this 3 (by omega)
  · exact this 4 (by omega)
  · exact this 5 (by omega)
  · exact this 6 (by omega)
  · exact this 7 (by omega)
  · exact this 8 (by omega)
  · exact this 9 (by omega)
  · exact this 10 (by omega)
  · exact this 11 (by omega)
  · exact this 12 (by omega)
theorem cpsAt_of_filled {w : World} {b : Nat} {cur : Array Value} {t : TypeId} {fr : Nat × Nat} {l : List Cp} (h : w.heap[b]? = some (.cells cur t fr)) (hf : Filled Cp.cells 7 l l.length cur.toList) : CpsAt w b 0 l := by
  intro i s hs
  have hi : i < l.length := by
    rcases Nat.lt_or_ge i l.length with h | h
    · exact h
    · rw [List.getElem?_eq_none h] at hs; cases hs
  have := hf.2 i s hi hs
  unfold CpAt
  simp only [cell_row h, Nat.zero_add]
  refine ⟨?_, ?_, ?_, ?_, ?_, ?_, ?_⟩
  · exact this 0 (by omega)
  · exact this 1 (by omega)
  · exact this 2 (by omega)
  · exact this 3 (by omega)
  · exact this 4 (by omega)
  · exact this 5 (by omega)
  · exact this 6 (by omega)
theorem btsAt_of_filled {w : World} {b : Nat} {cur : Array Value} {t : TypeId} {fr : Nat × Nat} {l : List Bt} (h : w.heap[b]? = some (.cells cur t fr)) (hf : Filled Bt.cells 2 l l.length cur.toList) : BtsAt w b 0 l := by
  intro i s hs
  have hi : i < l.length := by
    rcases Nat.lt_or_ge i l.length with h | h
    · exact h
    · rw [List.getElem?_eq_none h] at hs; cases hs
  have := hf.2 i s hi hs
  unfold BtAt
  simp only [cell_row h, Nat.zero_add]
  refine ⟨?_, ?_⟩
  · exact this 0 (by omega)
  · exact this 1 (by omega)

end Go.Proofs.Ytbceafpodamnfaa
