/-
  My own: La, Lb, Lc, Rz, Ra.
-/
import Derived.Test.YtbceafpodamnfabGreatDoorG00
import Derived.Laws.AppendOwn
import Derived.Test.YtbceafpodamnfabGreatDoorG01
import Derived.Test.YtbceafpodamnfabGreatDoorG07
set_option linter.unusedVariables false
set_option linter.unusedSimpArgs false
namespace Go.Proofs.YtbceafpodamnfabGreatDoor
open Go.RowKit
def RowIs (w : World) (e : TypeId) (size g n cap : Nat) (xs : List Value) : Prop :=
 xs.length = n * size ∧ n ≤ cap ∧ ∃ cur : Array Value, w.heap[g]? = some (.cells cur e (0, 0)) ∧ cur.size = cap * size ∧ cur.toList.take (n * size) = xs
theorem RowIs.lt {w : World} {e : TypeId} {size g n cap : Nat} {xs : List Value} (h : RowIs w e size g n cap xs) : g < w.heap.size := by
 obtain ⟨_, _, cur, hg, _⟩ := h
 exact (Array.getElem?_eq_some_iff.1 hg).1
theorem RowIs.blk {w w' : World} {e : TypeId} {size g n cap : Nat} {xs : List Value} (h : RowIs w e size g n cap xs) (hb : w'.heap[g]? = w.heap[g]?) : RowIs w' e size g n cap xs := by
 obtain ⟨h1, h2, cur, hg, r⟩ := h
 exact ⟨h1, h2, cur, hb.trans hg, r⟩
theorem RowIs.below {w w' : World} {e : TypeId} {size g n cap N : Nat} {xs : List Value} (h : RowIs w e size g n cap xs) (hb : Below N w w') (hN : g < N) : RowIs w' e size g n cap xs := h.blk (hb.block g hN)
theorem RowIs.cell {w : World} {e : TypeId} {size g n cap : Nat} {xs : List Value} (h : RowIs w e size g n cap xs) {j : Nat} {u : Value} (hu : xs[j]? = some u) : w.cell? ⟨g, j, none⟩ = some u := by
 obtain ⟨h1, h2, cur, hg, hs, ht⟩ := h
 rw [cell_row hg]
 rw [← ht, List.getElem?_take] at hu
 split at hu
 ·exact hu
 ·cases hu
theorem below_of_grown {w w' : World} {g N : Nat} (h : w.grownBy w' (some g)) (hN : N ≤ g) (hs : N ≤ w.heap.size) : Below N w w' :=
 ⟨h.os, h.tape, h.output, h.size, fun k hk => h.block k (by omega) (fun e => by have := Option.some.inj e; omega)⟩
theorem grown_refl (w : World) (r : Option Nat) : w.grownBy w r := ⟨rfl, rfl, rfl, Nat.le_refl _, fun _ _ _ => rfl⟩
theorem news_row {w : World} {b : Nat} {cs : Array Value} {t : TypeId} {fr : Nat × Nat} (h : w.heap[b]? = some (.cells cs t fr)) : ∀ j u, cs.toList[j]? = some u → w.cell? ((⟨b, 0, none⟩ : Addr).add j) = some u := fun j u hu => by
 rw [Addr.add_lit, cell_row h, Nat.zero_add]
 exact hu
section
variable {P : Program}
theorem run_append_row (w : World) (t ty e : TypeId) (z : Value) (size bytes : Nat) (ht : P.underlying t = some (.slice e)) (hinfo : (P.info? e).map (fun i => (i.zero, i.size, i.bytes)) = some (some z, size, bytes)) (hzs : z.cells.size = size)
  (g n cap : Nat) (xs : List Value) (hrow : RowIs w e size g n cap xs)
  (ad : Addr) (m c : Nat) (news : List Value) (hl : news.length = m * size) (hnews : ∀ j u, news[j]? = some u → w.cell? (ad.add j) = some u) (h1 : ∀ u ∈ news, u.oneCell' = true)
  (h63 : n + m ≤ maxLen) (hbytes : (n + m) * bytes ≤ 140737488355328) :
  ∃ g' cap' w', (Builtin.append_ #[t, t] ty #[.slice (some ⟨g, 0, none⟩) n cap, .slice (some ad) m c]).run P w = .ok (.slice (some ⟨g', 0, none⟩) (n + m) cap') w' ∧ (g' = g ∨ g' = w.heap.size) ∧
   RowIs w' e size g' (n + m) cap' (xs ++ news) ∧ w.grownBy w' (some g) := by
 obtain ⟨i, hi, hz, hs, hb⟩ := info_parts hinfo
 subst hs hb
 have hr0 := hrow
 obtain ⟨hx, hnc, cur, hg, hcs, htake⟩ := hrow
 have hlen : (xs ++ news).length = (n + m) * i.size := by rw [List.length_append, hx, hl, Nat.add_mul]
 have hsmall : n + m ≤ 9223372036854775807 := by simp only [maxLen] at h63; omega
 by_cases hroom : n + m ≤ cap
 ·have hfit : n * i.size + news.length ≤ cur.size := by rw [hl, hcs, ← Nat.add_mul]; exact Nat.mul_le_mul_right _ hroom
  have hr := run_append_room (P := P) w t ty e i ht hi g n cap cur hg ad m c news hl hnews h1 hroom hfit
  refine ⟨g, cap, _, hr, .inl rfl, ⟨hlen, hroom, _, setRow_heap w g cur _ e _ hg, ?_, ?_⟩, ⟨rfl, rfl, rfl, by simp, fun k _ hk => setRow_other w g k _ (fun e => hk (by rw [e]))⟩⟩
  ·simp only [List.size_toArray, List.length_append, List.length_take, List.length_drop, Array.length_toList]
   omega
  ·rw [htake, ← hlen]
   exact List.take_left
 ·have holds : ∀ j u, xs[j]? = some u → w.cell? ((⟨g, 0, none⟩ : Addr).add j) = some u := fun j u hu => by
   have := hr0.cell hu
   simpa [Addr.add_lit] using this
  have hr := run_append_grow (P := P) w t ty e i z ht hi hz ⟨g, 0, none⟩ n cap xs hx holds ad m c news hl hnews (by omega) (by omega) (growslice_fits (by omega) hbytes)
  have hge := grownCap_ge w (n + m) cap e
  refine ⟨w.heap.size, _, _, hr, .inr rfl, ⟨hlen, hge, _, heap_alloc_new w.drew _, ?_, ?_⟩, ⟨rfl, rfl, rfl, by simp, fun k hk _ => by show (w.heap.push _)[k]? = _; rw [Array.getElem?_push, if_neg (by omega)]⟩⟩
  ·simp only [Array.size_append, List.size_toArray, size_zeroCells, hzs, hx, hl, ← Nat.add_mul]
   congr 1
   omega
  ·simp only [Array.toList_append, List.append_assoc]
   rw [← List.append_assoc, ← hlen]
   exact List.take_left
theorem wpList_append_row {ops : Array Oper} {rest : List Oper} {o : Oper} {a : Act} {w : World} {Q : Exit → Act → World → Prop} (hgd : o.guard = none) (s x : Operand) (t : TypeId)
  (ho : o.op = .call { callee := .builtin .append, args := #[s, x], argTypes := #[t, t] })
  (e : TypeId) (z : Value) (size bytes : Nat) (ht : P.underlying t = some (.slice e)) (hinfo : (P.info? e).map (fun i => (i.zero, i.size, i.bytes)) = some (some z, size, bytes)) (hzs : z.cells.size = size)
  (g n cap : Nat) (xs : List Value) (hs : a.eval s = .slice (some ⟨g, 0, none⟩) n cap) (hrow : RowIs w e size g n cap xs)
  (ad : Addr) (m c : Nat) (news : List Value) (hx : a.eval x = .slice (some ad) m c) (hl : news.length = m * size) (hnews : ∀ j u, news[j]? = some u → w.cell? (ad.add j) = some u) (h1 : ∀ u ∈ news, u.oneCell' = true)
  (h63 : n + m ≤ maxLen) (hbytes : (n + m) * bytes ≤ 140737488355328)
  (h : ∀ g' cap' w', (g' = g ∨ g' = w.heap.size) → Hid (RowIs w' e size g' (n + m) cap' (xs ++ news)) → w.grownBy w' (some g) → wpList P ops Q rest (a.put o.dst (.slice (some ⟨g', 0, none⟩) (n + m) cap')) w') : wpList P ops Q (o :: rest) a w := by
 refine wpList_plain hgd fun K hK => ?_
 obtain ⟨g', cap', w', hr, h2, h3, h4⟩ := run_append_row (P := P) w t o.type e z size bytes ht hinfo hzs g n cap xs hrow ad m c news hl hnews h1 h63 hbytes
 unfold Oper.wp execOp
 simp only [ho, resolve, invoke, builtin, Sem.run_bind, Sem.run_pure, Result.andThen_ok, List.map_toArray, List.map_cons, List.map_nil, hs, hx, hr]
 exact hK _ _ (h g' cap' w' h2 h3 h4)
end
end Go.Proofs.YtbceafpodamnfabGreatDoor

namespace Go.Proofs.YtbceafpodamnfabGreatDoor
open Go.RowKit
section
variable {P : Program}
structure Only (g : Nat) (w w' : World) : Prop where
 other : ∀ k, k ≠ g → w'.heap[k]? = w.heap[k]?
 below : Below g w w'
 size : w'.heap.size = w.heap.size
theorem only_setRow (w : World) (g : Nat) (cs : Array Value) : Only g w (w.setRow g cs) := ⟨fun k hk => setRow_block w g k cs hk, below_setRow' w g cs, setRow_size w g cs⟩
theorem run_storeVar_one (w : World) (g off : Nat) (t ty : TypeId) (cur : Array Value) (v : Value) (hg : w.heap[g]? = some (.cells cur t (0, 0))) (hi : (P.info? ty).map (·.size) = some 1) (hv : v.cells = #[v])
  (hfit : off + 1 ≤ cur.size) (h1 : v.oneCell' = true) :
  (storeVar ty ⟨g, off, none⟩ v).run P w = .ok () (w.setRow g (splice cur.toList off [v]).toArray) := by
 have := run_storeCells_at P g off t [v] 0 cur w hg (by simpa using hfit) (fun u hu => by simp at hu; subst hu; exact h1)
 cases hq : P.info? ty with
 | none => simp [hq] at hi
 | some i =>
  have hs : i.size = 1 := by simpa [hq] using hi
  simp only [Nat.add_zero, List.append_assoc] at this
  simp [storeVar, sizeOf, typeInfo, hq, hv, hs, this, splice]
theorem wpList_store_one {ops : Array Oper} {rest : List Oper} {o : Oper} {a : Act} {w : World} {Q : Exit → Act → World → Prop} (hgd : o.guard = none) (ty : TypeId) (x y : Operand) (ho : o.op = .store ty x y)
  (g off : Nat) (v : Value) (hx : a.eval x = .pointer (some ⟨g, off, none⟩)) (hy : a.eval y = v) (hi : (P.info? ty).map (·.size) = some 1) (hv : v.cells = #[v]) (h1 : v.oneCell' = true)
  (t : TypeId) (cur : Array Value) (hg : w.heap[g]? = some (.cells cur t (0, 0))) (hfit : off + 1 ≤ cur.size)
  (h : ∀ w', Hid (w'.heap[g]? = some (.cells (splice cur.toList off [v]).toArray t (0, 0))) → Only g w w' → wpList P ops Q rest (a.put o.dst undef) w') : wpList P ops Q (o :: rest) a w := by
 refine wpList_plain hgd fun K hK => ?_
 unfold Oper.wp execOp
 simp only [ho, hx, hy, Instr.storeAt, Instr.sureAddr, Sem.run_bind, Sem.run_pure, Result.andThen_ok, run_storeVar_one w g off t ty cur v hg hi hv hfit h1]
 exact hK _ _ (h _ (setRow_heap w g cur _ t _ hg) (only_setRow w g _))
theorem wpList_store_only {ops : Array Oper} {rest : List Oper} {o : Oper} {a : Act} {w : World} {Q : Exit → Act → World → Prop} (hgd : o.guard = none) (ty : TypeId) (x y : Operand) (ho : o.op = .store ty x y)
  (g off : Nat) (cells : Array Value) (hx : a.eval x = .pointer (some ⟨g, off, none⟩)) (hy : a.eval y = .agg cells) (t : TypeId) (cur : Array Value) (hg : w.heap[g]? = some (.cells cur t (0, 0)))
  (hi : (P.info? ty).map (·.size) = some cells.size) (hfit : off + cells.size ≤ cur.size) (h1 : cells.all (·.oneCell') = true)
  (h : ∀ w', Hid (w'.heap[g]? = some (.cells (splice cur.toList off cells.toList).toArray t (0, 0))) → Only g w w' → wpList P ops Q rest (a.put o.dst undef) w') : wpList P ops Q (o :: rest) a w := by
 refine wpList_plain hgd fun K hK => ?_
 unfold Oper.wp execOp
 simp only [ho, hx, hy, Instr.storeAt, Instr.sureAddr, Sem.run_bind, Sem.run_pure, Result.andThen_ok, run_storeVar_at w g off t ty cur cells hg hi hfit h1]
 exact hK _ _ (h _ (setRow_heap w g cur _ t _ hg) (only_setRow w g _))
end
end Go.Proofs.YtbceafpodamnfabGreatDoor

namespace Go.Proofs.YtbceafpodamnfabGreatDoor
open Go.RowKit
section
variable {P : Program}
theorem below_setRow_same (w : World) (g : Nat) (cur : Array Value) (t : TypeId) (hg : w.heap[g]? = some (.cells cur t (0, 0))) : Below w.heap.size w (w.setRow g cur) :=
 ⟨rfl, rfl, rfl, by rw [setRow_size]; exact Nat.le_refl _, fun k _ => by
  by_cases h : k = g
  ·subst h; rw [setRow_heap w k cur cur t _ hg, hg]
  ·exact setRow_block w g k cur h⟩
theorem run_append_fresh (w : World) (t ty e : TypeId) (z : Value) (size bytes : Nat) (ht : P.underlying t = some (.slice e)) (hinfo : (P.info? e).map (fun i => (i.zero, i.size, i.bytes)) = some (some z, size, bytes)) (hzs : z.cells.size = size)
  (g : Nat) (hg : w.heap[g]? = some (.cells #[] e (0, 0)))
  (ao : Option Addr) (m c : Nat) (news : List Value) (hl : news.length = m * size) (hsrc : m ≠ 0 → ∃ ad, ao = some ad ∧ ∀ j u, news[j]? = some u → w.cell? (ad.add j) = some u) (h1 : ∀ u ∈ news, u.oneCell' = true)
  (h63 : m ≤ maxLen) (hbytes : m * bytes ≤ 140737488355328) :
  ∃ g' cap' w', (Builtin.append_ #[t, t] ty #[.slice (some ⟨g, 0, none⟩) 0 0, .slice ao m c]).run P w = .ok (.slice (some ⟨g', 0, none⟩) m cap') w' ∧ (g' = g ∨ g' = w.heap.size) ∧ RowIs w' e size g' m cap' news ∧ Below w.heap.size w w' := by
 by_cases hm : m = 0
 ·subst hm
  have hn : news = [] := List.eq_nil_of_length_eq_zero (by simpa using hl)
  subst hn
  obtain ⟨i, hi, hz, hs, hb⟩ := info_parts hinfo
  subst hs hb
  cases ao with
  | none =>
   refine ⟨g, 0, w, ?_, .inl rfl, ⟨by simp, Nat.le_refl _, #[], hg, by simp, by simp⟩, Below.refl _ _⟩
   simp [Builtin.append_, run_underlying ht, sizeOf, typeInfo, hi, Builtin.lenOf, Builtin.firstCells, storeCells]
  | some ad =>
   have hr := run_append_room (P := P) w t ty e i ht hi g 0 0 #[] hg ad 0 c [] (by simp) (by simp) (by simp) (Nat.le_refl _) (by simp)
   refine ⟨g, 0, _, by simpa using hr, .inl rfl, ⟨by simp, Nat.le_refl _, #[], setRow_heap w g #[] #[] e _ hg, by simp, by simp⟩, below_setRow_same w g #[] e hg⟩
 ·obtain ⟨ad, rfl, hnews⟩ := hsrc hm
  obtain ⟨i, hi, hz, hs, hb⟩ := info_parts hinfo
  subst hs hb
  have hr := run_append_grow (P := P) w t ty e i z ht hi hz ⟨g, 0, none⟩ 0 0 [] (by simp) (by simp) ad m c news hl hnews (by omega) (by unfold maxLen at h63; omega) (growslice_fits (by omega) (by simpa using hbytes))
  simp only [Nat.zero_add] at hr
  have hge := grownCap_ge w m 0 e
  refine ⟨w.heap.size, _, _, hr, .inr rfl, ⟨hl, hge, _, heap_alloc_new w.drew _, ?_, ?_⟩, ⟨rfl, rfl, rfl, by simp, fun k hk => by show (w.heap.push _)[k]? = _; rw [Array.getElem?_push, if_neg (by omega)]⟩⟩
  ·simp only [Array.size_append, List.size_toArray, size_zeroCells, hzs, hl, List.length_nil, Nat.zero_add]
   rw [← Nat.add_mul]
   congr 1
   omega
  ·simp only [Array.toList_append, List.nil_append]
   rw [← hl]
   exact List.take_left
theorem wpList_append_fresh {ops : Array Oper} {rest : List Oper} {o : Oper} {a : Act} {w : World} {Q : Exit → Act → World → Prop} (hgd : o.guard = none) (s x : Operand) (t : TypeId)
  (ho : o.op = .call { callee := .builtin .append, args := #[s, x], argTypes := #[t, t] })
  (e : TypeId) (z : Value) (size bytes : Nat) (ht : P.underlying t = some (.slice e)) (hinfo : (P.info? e).map (fun i => (i.zero, i.size, i.bytes)) = some (some z, size, bytes)) (hzs : z.cells.size = size)
  (g : Nat) (hs : a.eval s = .slice (some ⟨g, 0, none⟩) 0 0) (hg : w.heap[g]? = some (.cells #[] e (0, 0)))
  (ao : Option Addr) (m c : Nat) (news : List Value) (hx : a.eval x = .slice ao m c) (hl : news.length = m * size) (hsrc : m ≠ 0 → ∃ ad, ao = some ad ∧ ∀ j u, news[j]? = some u → w.cell? (ad.add j) = some u) (h1 : ∀ u ∈ news, u.oneCell' = true)
  (h63 : m ≤ maxLen) (hbytes : m * bytes ≤ 140737488355328)
  (h : ∀ g' cap' w', (g' = g ∨ g' = w.heap.size) → Hid (RowIs w' e size g' m cap' news) → Below w.heap.size w w' → wpList P ops Q rest (a.put o.dst (.slice (some ⟨g', 0, none⟩) m cap')) w') : wpList P ops Q (o :: rest) a w := by
 refine wpList_plain hgd fun K hK => ?_
 obtain ⟨g', cap', w', hr, h2, h3, h4⟩ := run_append_fresh (P := P) w t o.type e z size bytes ht hinfo hzs g hg ao m c news hl hsrc h1 h63 hbytes
 unfold Oper.wp execOp
 simp only [ho, resolve, invoke, builtin, Sem.run_bind, Sem.run_pure, Result.andThen_ok, List.map_toArray, List.map_cons, List.map_nil, hs, hx, hr]
 exact hK _ _ (h g' cap' w' h2 h3 h4)
end
end Go.Proofs.YtbceafpodamnfabGreatDoor

namespace Go.Proofs.YtbceafpodamnfabGreatDoor
open Go.RowKit
theorem flat_len {α : Type} {c : α → List Value} {n : Nat} (hc : ∀ s, (c s).length = n) (l : List α) : (l.flatMap c).length = l.length * n := by
 induction l with
 | nil => simp
 | cons x l ih => rw [List.flatMap_cons, List.length_append, ih, hc, List.length_cons, Nat.succ_mul]; omega
theorem flat_cell {α : Type} {c : α → List Value} {n : Nat} (hc : ∀ s, (c s).length = n) : ∀ (l : List α) (j : Nat) (u : Value), (l.flatMap c)[j]? = some u → ∃ i k s, l[i]? = some s ∧ (c s)[k]? = some u ∧ j = i * n + k
 | [], j, u, h => by simp at h
 | x :: l, j, u, h => by
  rw [List.flatMap_cons] at h
  by_cases hj : j < n
  ·rw [List.getElem?_append_left (by rw [hc]; exact hj)] at h
   exact ⟨0, j, x, rfl, h, by omega⟩
  ·rw [List.getElem?_append_right (by rw [hc]; omega), hc] at h
   obtain ⟨i, k, s, h1, h2, h3⟩ := flat_cell hc l _ u h
   exact ⟨i + 1, k, s, by simpa using h1, h2, by rw [Nat.succ_mul]; omega⟩
theorem flat_at {α : Type} {c : α → List Value} {n : Nat} (hc : ∀ s, (c s).length = n) : ∀ (l : List α) (i : Nat) (s : α) (k : Nat) (u : Value), l[i]? = some s → (c s)[k]? = some u → (l.flatMap c)[i * n + k]? = some u
 | [], i, s, k, u, h, _ => by simp at h
 | x :: l, 0, s, k, u, h, hu => by
  simp at h
  subst h
  have hk : k < (c x).length := (List.getElem?_eq_some_iff.1 hu).1
  rw [List.flatMap_cons, Nat.zero_mul, Nat.zero_add, List.getElem?_append_left hk]
  exact hu
 | x :: l, i + 1, s, k, u, h, hu => by
  rw [List.flatMap_cons, List.getElem?_append_right (by rw [hc, Nat.succ_mul]; omega), hc, show (i + 1) * n + k - n = i * n + k by rw [Nat.succ_mul]; omega]
  exact flat_at hc l i s k u (by simpa using h) hu
def svcsV (l : List Svc) : List Value := l.flatMap Svc.cells
def cpsV (l : List Cp) : List Value := l.flatMap Cp.cells
def btsV (l : List Bt) : List Value := l.flatMap Bt.cells
theorem svcsV_len (l : List Svc) : (svcsV l).length = l.length * 13 := flat_len (c := Svc.cells) (n := 13) (fun _ => rfl) l
theorem cpsV_len (l : List Cp) : (cpsV l).length = l.length * 7 := flat_len (c := Cp.cells) (n := 7) (fun _ => rfl) l
theorem btsV_len (l : List Bt) : (btsV l).length = l.length * 2 := flat_len (c := Bt.cells) (n := 2) (fun _ => rfl) l
theorem svcsV_one (l : List Svc) : ∀ u ∈ svcsV l, u.oneCell' = true := fun u hu => by
 obtain ⟨s, _, h⟩ := List.mem_flatMap.1 hu
 simp [Svc.cells] at h
 rcases h with rfl | rfl | rfl | rfl | rfl | rfl | rfl | rfl | rfl | rfl | rfl | rfl | rfl <;> rfl
theorem cpsV_one (l : List Cp) : ∀ u ∈ cpsV l, u.oneCell' = true := fun u hu => by
 obtain ⟨s, _, h⟩ := List.mem_flatMap.1 hu
 simp [Cp.cells] at h
 rcases h with rfl | rfl | rfl | rfl | rfl | rfl | rfl <;> rfl
theorem btsV_one (l : List Bt) : ∀ u ∈ btsV l, u.oneCell' = true := fun u hu => by
 obtain ⟨s, _, h⟩ := List.mem_flatMap.1 hu
 simp [Bt.cells] at h
 rcases h with rfl | rfl <;> rfl
theorem SvcAt.get {w : World} {b o : Nat} {s : Svc} (h : SvcAt w b o s) (k : Nat) (u : Value) (hu : s.cells[k]? = some u) : w.cell? ⟨b, o + k, none⟩ = some u := by
 obtain ⟨h0, h1, h2, h3, h4, h5, h6, h7, h8, h9, h10, h11, h12⟩ := h
 match k, hu with
 | 0, hu => obtain rfl := Option.some.inj hu; exact h0
 | 1, hu => obtain rfl := Option.some.inj hu; exact h1
 | 2, hu => obtain rfl := Option.some.inj hu; exact h2
 | 3, hu => obtain rfl := Option.some.inj hu; exact h3
 | 4, hu => obtain rfl := Option.some.inj hu; exact h4
 | 5, hu => obtain rfl := Option.some.inj hu; exact h5
 | 6, hu => obtain rfl := Option.some.inj hu; exact h6
 | 7, hu => obtain rfl := Option.some.inj hu; exact h7
 | 8, hu => obtain rfl := Option.some.inj hu; exact h8
 | 9, hu => obtain rfl := Option.some.inj hu; exact h9
 | 10, hu => obtain rfl := Option.some.inj hu; exact h10
 | 11, hu => obtain rfl := Option.some.inj hu; exact h11
 | 12, hu => obtain rfl := Option.some.inj hu; exact h12
 | k + 13, hu => simp [Svc.cells] at hu
theorem CpAt.get {w : World} {b o : Nat} {s : Cp} (h : CpAt w b o s) (k : Nat) (u : Value) (hu : s.cells[k]? = some u) : w.cell? ⟨b, o + k, none⟩ = some u := by
 obtain ⟨h0, h1, h2, h3, h4, h5, h6⟩ := h
 match k, hu with
 | 0, hu => obtain rfl := Option.some.inj hu; exact h0
 | 1, hu => obtain rfl := Option.some.inj hu; exact h1
 | 2, hu => obtain rfl := Option.some.inj hu; exact h2
 | 3, hu => obtain rfl := Option.some.inj hu; exact h3
 | 4, hu => obtain rfl := Option.some.inj hu; exact h4
 | 5, hu => obtain rfl := Option.some.inj hu; exact h5
 | 6, hu => obtain rfl := Option.some.inj hu; exact h6
 | k + 7, hu => simp [Cp.cells] at hu
theorem BtAt.get {w : World} {b o : Nat} {s : Bt} (h : BtAt w b o s) (k : Nat) (u : Value) (hu : s.cells[k]? = some u) : w.cell? ⟨b, o + k, none⟩ = some u := by
 obtain ⟨h0, h1⟩ := h
 match k, hu with
 | 0, hu => obtain rfl := Option.some.inj hu; exact h0
 | 1, hu => obtain rfl := Option.some.inj hu; exact h1
 | k + 2, hu => simp [Bt.cells] at hu
theorem SlS.src {w : World} {ao : Option Addr} {l : List Svc} (h : SlS w ao l) : l.length ≠ 0 → ∃ ad, ao = some ad ∧ ∀ j u, (svcsV l)[j]? = some u → w.cell? (ad.add j) = some u := fun hn => by
 obtain ⟨b, off, e, _, hat⟩ := h (by intro h; rw [h] at hn; simp at hn)
 refine ⟨_, e, fun j u hu => ?_⟩
 obtain ⟨i, k, s, h1, h2, rfl⟩ := flat_cell (c := Svc.cells) (n := 13) (fun _ => rfl) l j u hu
 have := (hat i s h1).get k u h2
 rw [Nat.add_assoc, ← Addr.add_lit] at this
 exact this
theorem SlC.src {w : World} {ao : Option Addr} {l : List Cp} (h : SlC w ao l) : l.length ≠ 0 → ∃ ad, ao = some ad ∧ ∀ j u, (cpsV l)[j]? = some u → w.cell? (ad.add j) = some u := fun hn => by
 obtain ⟨b, off, e, _, hat⟩ := h (by intro h; rw [h] at hn; simp at hn)
 refine ⟨_, e, fun j u hu => ?_⟩
 obtain ⟨i, k, s, h1, h2, rfl⟩ := flat_cell (c := Cp.cells) (n := 7) (fun _ => rfl) l j u hu
 have := (hat i s h1).get k u h2
 rw [Nat.add_assoc, ← Addr.add_lit] at this
 exact this
theorem SlB.src {w : World} {ao : Option Addr} {l : List Bt} (h : SlB w ao l) : l.length ≠ 0 → ∃ ad, ao = some ad ∧ ∀ j u, (btsV l)[j]? = some u → w.cell? (ad.add j) = some u := fun hn => by
 obtain ⟨b, off, e, _, hat⟩ := h (by intro h; rw [h] at hn; simp at hn)
 refine ⟨_, e, fun j u hu => ?_⟩
 obtain ⟨i, k, s, h1, h2, rfl⟩ := flat_cell (c := Bt.cells) (n := 2) (fun _ => rfl) l j u hu
 have := (hat i s h1).get k u h2
 rw [Nat.add_assoc, ← Addr.add_lit] at this
 exact this
theorem RowIs.slS {w : World} {e : TypeId} {g n cap : Nat} {l : List Svc} (h : RowIs w e 13 g n cap (svcsV l)) : SlS w (some ⟨g, 0, none⟩) l := fun _ =>
 ⟨g, 0, rfl, h.lt, fun i s hs => by
  have := fun k u hu => h.cell (flat_at (c := Svc.cells) (n := 13) (fun _ => rfl) l i s k u hs hu)
  unfold SvcAt
  rw [Nat.zero_add]
  exact ⟨this 0 _ rfl, this 1 _ rfl, this 2 _ rfl, this 3 _ rfl, this 4 _ rfl, this 5 _ rfl, this 6 _ rfl, this 7 _ rfl, this 8 _ rfl, this 9 _ rfl, this 10 _ rfl, this 11 _ rfl, this 12 _ rfl⟩⟩
theorem RowIs.slC {w : World} {e : TypeId} {g n cap : Nat} {l : List Cp} (h : RowIs w e 7 g n cap (cpsV l)) : SlC w (some ⟨g, 0, none⟩) l := fun _ =>
 ⟨g, 0, rfl, h.lt, fun i s hs => by
  have := fun k u hu => h.cell (flat_at (c := Cp.cells) (n := 7) (fun _ => rfl) l i s k u hs hu)
  unfold CpAt
  rw [Nat.zero_add]
  exact ⟨this 0 _ rfl, this 1 _ rfl, this 2 _ rfl, this 3 _ rfl, this 4 _ rfl, this 5 _ rfl, this 6 _ rfl⟩⟩
theorem RowIs.slB {w : World} {e : TypeId} {g n cap : Nat} {l : List Bt} (h : RowIs w e 2 g n cap (btsV l)) : SlB w (some ⟨g, 0, none⟩) l := fun _ =>
 ⟨g, 0, rfl, h.lt, fun i s hs => by
  have := fun k u hu => h.cell (flat_at (c := Bt.cells) (n := 2) (fun _ => rfl) l i s k u hs hu)
  unfold BtAt
  rw [Nat.zero_add]
  exact ⟨this 0 _ rfl, this 1 _ rfl⟩⟩
end Go.Proofs.YtbceafpodamnfabGreatDoor

namespace Go.Proofs.YtbceafpodamnfabGreatDoor
open Go.RowKit
structure BkRow (w : World) (N g1 g2 g3 k1 k2 k3 : Nat) (B : Bk) : Prop where
 n1 : N ≤ g1
 n2 : N ≤ g2
 n3 : N ≤ g3
 svcs : RowIs w 67 13 g1 B.svcs.length k1 (svcsV B.svcs)
 cps : RowIs w 149 7 g2 B.cps.length k2 (cpsV B.cps)
 bts : RowIs w 147 2 g3 B.bts.length k3 (btsV B.bts)
theorem RowIs.ne {w : World} {e e' : TypeId} {size size' g g' n n' cap cap' : Nat} {xs xs' : List Value} (h : RowIs w e size g n cap xs) (h' : RowIs w e' size' g' n' cap' xs') (he : e ≠ e') : g ≠ g' := fun hg => by
 obtain ⟨_, _, cur, h1, _⟩ := h
 obtain ⟨_, _, cur', h2, _⟩ := h'
 rw [hg, h2] at h1
 injection h1 with h1
 injection h1 with _ h1
 exact he h1.symm
theorem BkRow.ne12 {w : World} {N g1 g2 g3 k1 k2 k3 : Nat} {B : Bk} (h : BkRow w N g1 g2 g3 k1 k2 k3 B) : g1 ≠ g2 := h.svcs.ne h.cps (by decide)
theorem BkRow.ne23 {w : World} {N g1 g2 g3 k1 k2 k3 : Nat} {B : Bk} (h : BkRow w N g1 g2 g3 k1 k2 k3 B) : g2 ≠ g3 := h.cps.ne h.bts (by decide)
theorem Tryz.infosBookR : (Tryz.prog.info? 36).map (·.size) = some 4 := by kernel_rfl
set_option maxRecDepth 100000 in
set_option maxHeartbeats 8000000 in
theorem l1Book_own (B : Bk) (a1 a2 a3 : Option Addr) (c1 c2 c3 : Nat) (w : World) (hS : B.small) (hB : BkAt w a1 a2 a3 B) :
  Calls Tryz.prog 41 #[.agg #[.int .i64 B.now, .slice a1 B.svcs.length c1, .slice a2 B.cps.length c2, .slice a3 B.bts.length c3]] w fun e w' => ∃ g1 k1 g2 k2 g3 k3, e = .returned (.agg #[.int .i64 B.now, .slice (some ⟨g1, 0, none⟩) B.svcs.length k1, .slice (some ⟨g2, 0, none⟩) B.cps.length k2, .slice (some ⟨g3, 0, none⟩) B.bts.length k3]) ∧ BkRow w' w.heap.size g1 g2 g3 k1 k2 k3 B ∧ Below w.heap.size w w' := by
 obtain ⟨hl1, hl2, hl3⟩ := hS
 obtain ⟨t0, t1, t2⟩ := two_new w (.cells #[.int .i64 B.now, .slice a1 B.svcs.length c1, .slice a2 B.cps.length c2, .slice a3 B.bts.length c3] 36) (.cells #[.int .i64 0, .slice none 0 0, .slice none 0 0, .slice none 0 0] 36)
 have T0 : Hid _ := t0
 have T1 : Hid _ := t1
 have HS2 : Hid _ := t2
 have hz0 : w.heap.size < ((w.alloc (.cells #[.int .i64 B.now, .slice a1 B.svcs.length c1, .slice a2 B.cps.length c2, .slice a3 B.bts.length c3] 36)).alloc (.cells #[.int .i64 0, .slice none 0 0, .slice none 0 0, .slice none 0 0] 36)).heap.size := by rw [HS2.out]; omega
 have hz1 : w.heap.size + 1 < ((w.alloc (.cells #[.int .i64 B.now, .slice a1 B.svcs.length c1, .slice a2 B.cps.length c2, .slice a3 B.bts.length c3] 36)).alloc (.cells #[.int .i64 0, .slice none 0 0, .slice none 0 0, .slice none 0 0] 36)).heap.size := by rw [HS2.out]; omega
 clear t0 t1 t2
 have hbb : Below w.heap.size w ((w.alloc (.cells #[.int .i64 B.now, .slice a1 B.svcs.length c1, .slice a2 B.cps.length c2, .slice a3 B.bts.length c3] 36)).alloc (.cells #[.int .i64 0, .slice none 0 0, .slice none 0 0, .slice none 0 0] 36)) := ((Below.refl _ _).alloc (Nat.le_refl _) _).alloc (by simp) _
 go_enter Tryz.func41, Tryz.ntmps41
 go_wp2
 refine wp_region_grows 15 (by kernel_rfl) (by kernel_rfl) ?_
 apply grow_eq
 ·intro V W K A hW hd hA hK
  simp only [putAll, pz1, pz2, pz3, pz4, Act.put, pz5, pz6, pz7] at hA
  clear hd
  obtain rfl := hA
  go_wp2
  exact hK.out _ brf
 apply grow_eq
 ·intro V W K A hW hd hA hK
  have d0 : V 0 = _ := hd 0 (by kernel_rfl)
  simp only [putAll, pz1, pz2, pz3, pz4, Act.put, pz5, pz6, pz7, d0] at hA
  clear hd d0
  obtain rfl := hA
  have e0 := blk_cell (below_blk hW T0.out hz0) 0 rfl
  go_wp2
  exact hK.out _ brf
 refine grow_op (fun v W => ∃ g, v = .slice (some ⟨g, 0, none⟩) 0 0 ∧ w.heap.size + 1 + 1 ≤ g ∧ W.heap[g]? = some (.cells #[] 67 (0, 0))) (fun v W W2 ⟨g, h1, h2, h3⟩ hb => ⟨g, h1, h2, below_blk hb h3 (Array.getElem?_eq_some_iff.1 h3).1⟩) ?_ ?_
 ·intro V W K A hW hd hA hK
  simp only [putAll, pz1, pz2, pz3, pz4, Act.put, pz5, pz6, pz7] at hA
  clear hd
  obtain rfl := hA
  go_wp2
  exact hK.out _ _ (below_box W _) ⟨_, rfl, by have := hW.size; rw [HS2.out] at this; exact this, heap_alloc_new W _⟩
 apply grow_eq
 ·intro V W K A hW hd hA hK
  simp only [putAll, pz1, pz2, pz3, pz4, Act.put, pz5, pz6, pz7] at hA
  clear hd
  obtain rfl := hA
  go_wp2
  exact hK.out _ brf
 apply grow_eq
 ·intro V W K A hW hd hA hK
  have d3 : V 3 = _ := hd 3 (by kernel_rfl)
  simp only [putAll, pz1, pz2, pz3, pz4, Act.put, pz5, pz6, pz7, d3] at hA
  clear hd d3
  obtain rfl := hA
  have e1 := blk_cell (below_blk hW T0.out hz0) 1 rfl
  go_wp2
  exact hK.out _ brf
 refine grow_op (fun v W => ∃ g cap, v = .slice (some ⟨g, 0, none⟩) B.svcs.length cap ∧ w.heap.size + 1 + 1 ≤ g ∧ RowIs W 67 13 g B.svcs.length cap (svcsV B.svcs)) (fun v W W2 ⟨g, cap, h1, h2, h3⟩ hb => ⟨g, cap, h1, h2, h3.below hb h3.lt⟩) ?_ ?_
 ·intro V W K A hW hd hA hK
  have d2 : (fun v W => ∃ g, v = .slice (some ⟨g, 0, none⟩) 0 0 ∧ w.heap.size + 1 + 1 ≤ g ∧ W.heap[g]? = some (.cells #[] 67 (0, 0))) (V 2) W := hd 2 (by kernel_rfl)
  have d4 : V 4 = _ := hd 4 (by kernel_rfl)
  simp only [putAll, pz1, pz2, pz3, pz4, Act.put, pz5, pz6, pz7, d4] at hA
  clear hd d4
  generalize V 2 = x2 at d2 hA
  obtain rfl := hA
  obtain ⟨g, rfl, hg, hgz⟩ := d2
  refine wpList_append_fresh rfl (.tmp 5) (.tmp 7) 32 rfl 67 _ 13 112 Tryz.underlying32 Tryz.infoService rfl g rfl hgz a1 B.svcs.length c1 (svcsV B.svcs) rfl (svcsV_len _) (hB.1.below (hbb.trans (hW.mono hbb.size))).src (svcsV_one _) (by unfold maxLen; omega) (by omega) ?_
  intro g' cap' w2 hg' hrow hb2
  have hgg : w.heap.size + 1 + 1 ≤ g' := by
   have := hW.size
   rw [HS2.out] at this
   rcases hg' with rfl | rfl
   ·exact hg
   ·exact this
  go_wp2
  exact hK.out _ _ hb2 ⟨g', cap', rfl, hgg, hrow.out⟩
 refine grow_op (fun v W => ∃ g, v = .slice (some ⟨g, 0, none⟩) 0 0 ∧ w.heap.size + 1 + 1 ≤ g ∧ W.heap[g]? = some (.cells #[] 149 (0, 0))) (fun v W W2 ⟨g, h1, h2, h3⟩ hb => ⟨g, h1, h2, below_blk hb h3 (Array.getElem?_eq_some_iff.1 h3).1⟩) ?_ ?_
 ·intro V W K A hW hd hA hK
  simp only [putAll, pz1, pz2, pz3, pz4, Act.put, pz5, pz6, pz7] at hA
  clear hd
  obtain rfl := hA
  go_wp2
  exact hK.out _ _ (below_box W _) ⟨_, rfl, by have := hW.size; rw [HS2.out] at this; exact this, heap_alloc_new W _⟩
 apply grow_eq
 ·intro V W K A hW hd hA hK
  simp only [putAll, pz1, pz2, pz3, pz4, Act.put, pz5, pz6, pz7] at hA
  clear hd
  obtain rfl := hA
  go_wp2
  exact hK.out _ brf
 apply grow_eq
 ·intro V W K A hW hd hA hK
  have d7 : V 7 = _ := hd 7 (by kernel_rfl)
  simp only [putAll, pz1, pz2, pz3, pz4, Act.put, pz5, pz6, pz7, d7] at hA
  clear hd d7
  obtain rfl := hA
  have e2 := blk_cell (below_blk hW T0.out hz0) 2 rfl
  go_wp2
  exact hK.out _ brf
 refine grow_op (fun v W => ∃ g cap, v = .slice (some ⟨g, 0, none⟩) B.cps.length cap ∧ w.heap.size + 1 + 1 ≤ g ∧ RowIs W 149 7 g B.cps.length cap (cpsV B.cps)) (fun v W W2 ⟨g, cap, h1, h2, h3⟩ hb => ⟨g, cap, h1, h2, h3.below hb h3.lt⟩) ?_ ?_
 ·intro V W K A hW hd hA hK
  have d6 : (fun v W => ∃ g, v = .slice (some ⟨g, 0, none⟩) 0 0 ∧ w.heap.size + 1 + 1 ≤ g ∧ W.heap[g]? = some (.cells #[] 149 (0, 0))) (V 6) W := hd 6 (by kernel_rfl)
  have d8 : V 8 = _ := hd 8 (by kernel_rfl)
  simp only [putAll, pz1, pz2, pz3, pz4, Act.put, pz5, pz6, pz7, d8] at hA
  clear hd d8
  generalize V 6 = x6 at d6 hA
  obtain rfl := hA
  obtain ⟨g, rfl, hg, hgz⟩ := d6
  refine wpList_append_fresh rfl (.tmp 9) (.tmp 11) 33 rfl 149 _ 7 72 Tryz.underlying33 Tryz.infoCopy rfl g rfl hgz a2 B.cps.length c2 (cpsV B.cps) rfl (cpsV_len _) (hB.2.1.below (hbb.trans (hW.mono hbb.size))).src (cpsV_one _) (by unfold maxLen; omega) (by omega) ?_
  intro g' cap' w2 hg' hrow hb2
  have hgg : w.heap.size + 1 + 1 ≤ g' := by
   have := hW.size
   rw [HS2.out] at this
   rcases hg' with rfl | rfl
   ·exact hg
   ·exact this
  go_wp2
  exact hK.out _ _ hb2 ⟨g', cap', rfl, hgg, hrow.out⟩
 refine grow_op (fun v W => ∃ g, v = .slice (some ⟨g, 0, none⟩) 0 0 ∧ w.heap.size + 1 + 1 ≤ g ∧ W.heap[g]? = some (.cells #[] 147 (0, 0))) (fun v W W2 ⟨g, h1, h2, h3⟩ hb => ⟨g, h1, h2, below_blk hb h3 (Array.getElem?_eq_some_iff.1 h3).1⟩) ?_ ?_
 ·intro V W K A hW hd hA hK
  simp only [putAll, pz1, pz2, pz3, pz4, Act.put, pz5, pz6, pz7] at hA
  clear hd
  obtain rfl := hA
  go_wp2
  exact hK.out _ _ (below_box W _) ⟨_, rfl, by have := hW.size; rw [HS2.out] at this; exact this, heap_alloc_new W _⟩
 apply grow_eq
 ·intro V W K A hW hd hA hK
  simp only [putAll, pz1, pz2, pz3, pz4, Act.put, pz5, pz6, pz7] at hA
  clear hd
  obtain rfl := hA
  go_wp2
  exact hK.out _ brf
 apply grow_eq
 ·intro V W K A hW hd hA hK
  have d11 : V 11 = _ := hd 11 (by kernel_rfl)
  simp only [putAll, pz1, pz2, pz3, pz4, Act.put, pz5, pz6, pz7, d11] at hA
  clear hd d11
  obtain rfl := hA
  have e3 := blk_cell (below_blk hW T0.out hz0) 3 rfl
  go_wp2
  exact hK.out _ brf
 refine grow_op (fun v W => ∃ g cap, v = .slice (some ⟨g, 0, none⟩) B.bts.length cap ∧ w.heap.size + 1 + 1 ≤ g ∧ RowIs W 147 2 g B.bts.length cap (btsV B.bts)) (fun v W W2 ⟨g, cap, h1, h2, h3⟩ hb => ⟨g, cap, h1, h2, h3.below hb h3.lt⟩) ?_ ?_
 ·intro V W K A hW hd hA hK
  have d10 : (fun v W => ∃ g, v = .slice (some ⟨g, 0, none⟩) 0 0 ∧ w.heap.size + 1 + 1 ≤ g ∧ W.heap[g]? = some (.cells #[] 147 (0, 0))) (V 10) W := hd 10 (by kernel_rfl)
  have d12 : V 12 = _ := hd 12 (by kernel_rfl)
  simp only [putAll, pz1, pz2, pz3, pz4, Act.put, pz5, pz6, pz7, d12] at hA
  clear hd d12
  generalize V 10 = x10 at d10 hA
  obtain rfl := hA
  obtain ⟨g, rfl, hg, hgz⟩ := d10
  refine wpList_append_fresh rfl (.tmp 13) (.tmp 15) 34 rfl 147 _ 2 24 Tryz.underlying34 Tryz.infoBerth rfl g rfl hgz a3 B.bts.length c3 (btsV B.bts) rfl (btsV_len _) (hB.2.2.below (hbb.trans (hW.mono hbb.size))).src (btsV_one _) (by unfold maxLen; omega) (by omega) ?_
  intro g' cap' w2 hg' hrow hb2
  have hgg : w.heap.size + 1 + 1 ≤ g' := by
   have := hW.size
   rw [HS2.out] at this
   rcases hg' with rfl | rfl
   ·exact hg
   ·exact this
  go_wp2
  exact hK.out _ _ hb2 ⟨g', cap', rfl, hgg, hrow.out⟩
 refine grow_op (fun v W => ∃ g1 k1 g2 k2 g3 k3, v = .agg #[.int .i64 B.now, .slice (some ⟨g1, 0, none⟩) B.svcs.length k1, .slice (some ⟨g2, 0, none⟩) B.cps.length k2, .slice (some ⟨g3, 0, none⟩) B.bts.length k3] ∧ (w.heap.size + 1 + 1 ≤ g1 ∧ RowIs W 67 13 g1 B.svcs.length k1 (svcsV B.svcs)) ∧ (w.heap.size + 1 + 1 ≤ g2 ∧ RowIs W 149 7 g2 B.cps.length k2 (cpsV B.cps)) ∧ (w.heap.size + 1 + 1 ≤ g3 ∧ RowIs W 147 2 g3 B.bts.length k3 (btsV B.bts))) (fun v W W2 ⟨g1, k1, g2, k2, g3, k3, h, ⟨p1, r1⟩, ⟨p2, r2⟩, ⟨p3, r3⟩⟩ hb => ⟨g1, k1, g2, k2, g3, k3, h, ⟨p1, r1.below hb r1.lt⟩, ⟨p2, r2.below hb r2.lt⟩, ⟨p3, r3.below hb r3.lt⟩⟩) ?_ ?_
 ·intro V W K A hW hd hA hK
  have d1 : V 1 = _ := hd 1 (by kernel_rfl)
  have d5 : (fun v W => ∃ g cap, v = .slice (some ⟨g, 0, none⟩) B.svcs.length cap ∧ w.heap.size + 1 + 1 ≤ g ∧ RowIs W 67 13 g B.svcs.length cap (svcsV B.svcs)) (V 5) W := hd 5 (by kernel_rfl)
  have d9 : (fun v W => ∃ g cap, v = .slice (some ⟨g, 0, none⟩) B.cps.length cap ∧ w.heap.size + 1 + 1 ≤ g ∧ RowIs W 149 7 g B.cps.length cap (cpsV B.cps)) (V 9) W := hd 9 (by kernel_rfl)
  have d13 : (fun v W => ∃ g cap, v = .slice (some ⟨g, 0, none⟩) B.bts.length cap ∧ w.heap.size + 1 + 1 ≤ g ∧ RowIs W 147 2 g B.bts.length cap (btsV B.bts)) (V 13) W := hd 13 (by kernel_rfl)
  simp only [putAll, pz1, pz2, pz3, pz4, Act.put, pz5, pz6, pz7, d1] at hA
  clear hd d1
  generalize V 5 = x5 at d5 hA
  generalize V 9 = x9 at d9 hA
  generalize V 13 = x13 at d13 hA
  obtain rfl := hA
  obtain ⟨g1, k1, rfl, p1, r1⟩ := d5
  obtain ⟨g2, k2, rfl, p2, r2⟩ := d9
  obtain ⟨g3, k3, rfl, p3, r3⟩ := d13
  have R1 : Hid (RowIs W 67 13 g1 B.svcs.length k1 (svcsV B.svcs)) := r1
  have R2 : Hid (RowIs W 149 7 g2 B.cps.length k2 (cpsV B.cps)) := r2
  have R3 : Hid (RowIs W 147 2 g3 B.bts.length k3 (btsV B.bts)) := r3
  clear r1 r2 r3
  go_wp2
  exact hK.out _ _ brf ⟨g1, k1, g2, k2, g3, k3, rfl, ⟨p1, R1.out⟩, ⟨p2, R2.out⟩, ⟨p3, R3.out⟩⟩
 intro V W A hW hS hA
 have d0 : V 0 = _ := hS 0 (by omega)
 have d1 : V 1 = _ := hS 1 (by omega)
 have d2 : (fun v W => ∃ g, v = .slice (some ⟨g, 0, none⟩) 0 0 ∧ w.heap.size + 1 + 1 ≤ g ∧ W.heap[g]? = some (.cells #[] 67 (0, 0))) (V 2) W := hS 2 (by omega)
 have d3 : V 3 = _ := hS 3 (by omega)
 have d4 : V 4 = _ := hS 4 (by omega)
 have d5 : (fun v W => ∃ g cap, v = .slice (some ⟨g, 0, none⟩) B.svcs.length cap ∧ w.heap.size + 1 + 1 ≤ g ∧ RowIs W 67 13 g B.svcs.length cap (svcsV B.svcs)) (V 5) W := hS 5 (by omega)
 have d6 : (fun v W => ∃ g, v = .slice (some ⟨g, 0, none⟩) 0 0 ∧ w.heap.size + 1 + 1 ≤ g ∧ W.heap[g]? = some (.cells #[] 149 (0, 0))) (V 6) W := hS 6 (by omega)
 have d7 : V 7 = _ := hS 7 (by omega)
 have d8 : V 8 = _ := hS 8 (by omega)
 have d9 : (fun v W => ∃ g cap, v = .slice (some ⟨g, 0, none⟩) B.cps.length cap ∧ w.heap.size + 1 + 1 ≤ g ∧ RowIs W 149 7 g B.cps.length cap (cpsV B.cps)) (V 9) W := hS 9 (by omega)
 have d10 : (fun v W => ∃ g, v = .slice (some ⟨g, 0, none⟩) 0 0 ∧ w.heap.size + 1 + 1 ≤ g ∧ W.heap[g]? = some (.cells #[] 147 (0, 0))) (V 10) W := hS 10 (by omega)
 have d11 : V 11 = _ := hS 11 (by omega)
 have d12 : V 12 = _ := hS 12 (by omega)
 have d13 : (fun v W => ∃ g cap, v = .slice (some ⟨g, 0, none⟩) B.bts.length cap ∧ w.heap.size + 1 + 1 ≤ g ∧ RowIs W 147 2 g B.bts.length cap (btsV B.bts)) (V 13) W := hS 13 (by omega)
 have d14 : (fun v W => ∃ g1 k1 g2 k2 g3 k3, v = .agg #[.int .i64 B.now, .slice (some ⟨g1, 0, none⟩) B.svcs.length k1, .slice (some ⟨g2, 0, none⟩) B.cps.length k2, .slice (some ⟨g3, 0, none⟩) B.bts.length k3] ∧ (w.heap.size + 1 + 1 ≤ g1 ∧ RowIs W 67 13 g1 B.svcs.length k1 (svcsV B.svcs)) ∧ (w.heap.size + 1 + 1 ≤ g2 ∧ RowIs W 149 7 g2 B.cps.length k2 (cpsV B.cps)) ∧ (w.heap.size + 1 + 1 ≤ g3 ∧ RowIs W 147 2 g3 B.bts.length k3 (btsV B.bts))) (V 14) W := hS 14 (by omega)
 simp only [putAll, pz1, pz2, pz3, pz4, Act.put, pz5, pz6, pz7, d0, d1, d3, d4, d7, d8, d11, d12] at hA
 clear hS d0 d1 d3 d4 d7 d8 d11 d12
 generalize V 2 = x2 at d2 hA
 generalize V 5 = x5 at d5 hA
 generalize V 6 = x6 at d6 hA
 generalize V 9 = x9 at d9 hA
 generalize V 10 = x10 at d10 hA
 generalize V 13 = x13 at d13 hA
 generalize V 14 = x14 at d14 hA
 obtain rfl := hA
 simp only [List.drop_succ_cons, List.drop_zero]
 obtain ⟨g1, k1, g2, k2, g3, k3, rfl, ⟨p1, r1⟩, ⟨p2, r2⟩, ⟨p3, r3⟩⟩ := d14
 clear d2 d5 d6 d9 d10 d13
 have hbw := hbb.trans (hW.mono hbb.size)
 refine wpList_store_only rfl 36 (.tmp 2) (.tmp 17) rfl (w.heap.size + 1) 0 #[.int .i64 B.now, .slice (some ⟨g1, 0, none⟩) B.svcs.length k1, .slice (some ⟨g2, 0, none⟩) B.cps.length k2, .slice (some ⟨g3, 0, none⟩) B.bts.length k3] rfl rfl 36 #[.int .i64 0, .slice none 0 0, .slice none 0 0, .slice none 0 0] (below_blk hW T1.out hz1) Tryz.infosBookR (Nat.le_of_ble_eq_true rfl) (by simp [Value.oneCell']) ?_
 intro wf hz on
 have RF : Hid (wf.heap[w.heap.size + 1]? = some (.cells #[.int .i64 B.now, .slice (some ⟨g1, 0, none⟩) B.svcs.length k1, .slice (some ⟨g2, 0, none⟩) B.cps.length k2, .slice (some ⟨g3, 0, none⟩) B.bts.length k3] 36 (0, 0))) := hz
 have HR : Hid (BkRow wf w.heap.size g1 g2 g3 k1 k2 k3 B) := ⟨by omega, by omega, by omega, r1.blk (on.other _ (by omega)), r2.blk (on.other _ (by omega)), r3.blk (on.other _ (by omega))⟩
 have hbf : Below w.heap.size w wf := hbw.trans (on.below.mono (by omega))
 clear hz on r1 r2 r3
 have p0 := blk_cell RF.out 0 rfl
 have q1 := blk_cell RF.out 1 rfl
 have q2 := blk_cell RF.out 2 rfl
 have q3 := blk_cell RF.out 3 rfl
 go_wp2
 refine bodyPost_ret (v := .agg #[.int .i64 B.now, .slice (some ⟨g1, 0, none⟩) B.svcs.length k1, .slice (some ⟨g2, 0, none⟩) B.cps.length k2, .slice (some ⟨g3, 0, none⟩) B.bts.length k3]) (by simp [results, Tryz.results41, go_sem, p0, q1, q2, q3]) rfl ⟨g1, k1, g2, k2, g3, k3, rfl, HR.out, hbf⟩
end Go.Proofs.YtbceafpodamnfabGreatDoor
