/-
  My own: Rz, Lb, Ld, Vs, Xc, Xf.
-/
import Derived.Test.YtbceafpodamnfabGreatG00
import Derived.Test.YtbceafpodamnfabGreatG04
import Derived.Test.YtbceafpodamnfabGreatG03
import Derived.Test.YtbceafpodamnfabGreatG01
import Derived.Deep.DeepCutAuto
namespace Go.Proofs.YtbceafpodamnfabGreat
open Go.RowKit
theorem flat_len {α : Type} {c : α → List Value} {n : Nat} (hc : ∀ s, (c s).length = n) (l : List α) : (l.flatMap c).length = l.length * n := by
 induction l with
 | nil => simp
 | cons x l ih => rw [List.flatMap_cons, List.length_append, ih, hc, List.length_cons, Nat.succ_mul]; omega
theorem flat_cell {α : Type} {c : α → List Value} {n : Nat} (hc : ∀ s, (c s).length = n) : ∀ (l : List α) (j : Nat) (u : Value), (l.flatMap c)[j]? = some u → ∃ i k s, l[i]? = some s ∧ (c s)[k]? = some u ∧ j = i * n + k
 | [], j, u, h => by simp at h
 | x :: l, j, u, h => by
  rw [List.flatMap_cons] at h
  by_cases hj : j < n
  ·rw [List.getElem?_append_left (by rw [hc]; exact hj)] at h
   exact ⟨0, j, x, rfl, h, by omega⟩
  ·rw [List.getElem?_append_right (by rw [hc]; omega), hc] at h
   obtain ⟨i, k, s, h1, h2, h3⟩ := flat_cell hc l _ u h
   exact ⟨i + 1, k, s, by simpa using h1, h2, by rw [Nat.succ_mul]; omega⟩
theorem flat_at {α : Type} {c : α → List Value} {n : Nat} (hc : ∀ s, (c s).length = n) : ∀ (l : List α) (i : Nat) (s : α) (k : Nat) (u : Value), l[i]? = some s → (c s)[k]? = some u → (l.flatMap c)[i * n + k]? = some u
 | [], i, s, k, u, h, _ => by simp at h
 | x :: l, 0, s, k, u, h, hu => by
  simp at h
  subst h
  have hk : k < (c x).length := (List.getElem?_eq_some_iff.1 hu).1
  rw [List.flatMap_cons, Nat.zero_mul, Nat.zero_add, List.getElem?_append_left hk]
  exact hu
 | x :: l, i + 1, s, k, u, h, hu => by
  rw [List.flatMap_cons, List.getElem?_append_right (by rw [hc, Nat.succ_mul]; omega), hc, show (i + 1) * n + k - n = i * n + k by rw [Nat.succ_mul]; omega]
  exact flat_at hc l i s k u (by simpa using h) hu
def svcsV (l : List Svc) : List Value := l.flatMap Svc.cells
def cpsV (l : List Cp) : List Value := l.flatMap Cp.cells
def btsV (l : List Bt) : List Value := l.flatMap Bt.cells
theorem svcsV_len (l : List Svc) : (svcsV l).length = l.length * 13 := flat_len (c := Svc.cells) (n := 13) (fun _ => rfl) l
theorem cpsV_len (l : List Cp) : (cpsV l).length = l.length * 7 := flat_len (c := Cp.cells) (n := 7) (fun _ => rfl) l
theorem btsV_len (l : List Bt) : (btsV l).length = l.length * 2 := flat_len (c := Bt.cells) (n := 2) (fun _ => rfl) l
theorem svcsV_one (l : List Svc) : ∀ u ∈ svcsV l, u.oneCell' = true := fun u hu => by
 obtain ⟨s, _, h⟩ := List.mem_flatMap.1 hu
 simp [Svc.cells] at h
 rcases h with rfl | rfl | rfl | rfl | rfl | rfl | rfl | rfl | rfl | rfl | rfl | rfl | rfl <;> rfl
theorem cpsV_one (l : List Cp) : ∀ u ∈ cpsV l, u.oneCell' = true := fun u hu => by
 obtain ⟨s, _, h⟩ := List.mem_flatMap.1 hu
 simp [Cp.cells] at h
 rcases h with rfl | rfl | rfl | rfl | rfl | rfl | rfl <;> rfl
theorem btsV_one (l : List Bt) : ∀ u ∈ btsV l, u.oneCell' = true := fun u hu => by
 obtain ⟨s, _, h⟩ := List.mem_flatMap.1 hu
 simp [Bt.cells] at h
 rcases h with rfl | rfl <;> rfl
theorem SvcAt.get {w : World} {b o : Nat} {s : Svc} (h : SvcAt w b o s) (k : Nat) (u : Value) (hu : s.cells[k]? = some u) : w.cell? ⟨b, o + k, none⟩ = some u := by
 obtain ⟨h0, h1, h2, h3, h4, h5, h6, h7, h8, h9, h10, h11, h12⟩ := h
 match k, hu with
 | 0, hu => obtain rfl := Option.some.inj hu; exact h0
 | 1, hu => obtain rfl := Option.some.inj hu; exact h1
 | 2, hu => obtain rfl := Option.some.inj hu; exact h2
 | 3, hu => obtain rfl := Option.some.inj hu; exact h3
 | 4, hu => obtain rfl := Option.some.inj hu; exact h4
 | 5, hu => obtain rfl := Option.some.inj hu; exact h5
 | 6, hu => obtain rfl := Option.some.inj hu; exact h6
 | 7, hu => obtain rfl := Option.some.inj hu; exact h7
 | 8, hu => obtain rfl := Option.some.inj hu; exact h8
 | 9, hu => obtain rfl := Option.some.inj hu; exact h9
 | 10, hu => obtain rfl := Option.some.inj hu; exact h10
 | 11, hu => obtain rfl := Option.some.inj hu; exact h11
 | 12, hu => obtain rfl := Option.some.inj hu; exact h12
 | k + 13, hu => simp [Svc.cells] at hu
theorem CpAt.get {w : World} {b o : Nat} {s : Cp} (h : CpAt w b o s) (k : Nat) (u : Value) (hu : s.cells[k]? = some u) : w.cell? ⟨b, o + k, none⟩ = some u := by
 obtain ⟨h0, h1, h2, h3, h4, h5, h6⟩ := h
 match k, hu with
 | 0, hu => obtain rfl := Option.some.inj hu; exact h0
 | 1, hu => obtain rfl := Option.some.inj hu; exact h1
 | 2, hu => obtain rfl := Option.some.inj hu; exact h2
 | 3, hu => obtain rfl := Option.some.inj hu; exact h3
 | 4, hu => obtain rfl := Option.some.inj hu; exact h4
 | 5, hu => obtain rfl := Option.some.inj hu; exact h5
 | 6, hu => obtain rfl := Option.some.inj hu; exact h6
 | k + 7, hu => simp [Cp.cells] at hu
theorem BtAt.get {w : World} {b o : Nat} {s : Bt} (h : BtAt w b o s) (k : Nat) (u : Value) (hu : s.cells[k]? = some u) : w.cell? ⟨b, o + k, none⟩ = some u := by
 obtain ⟨h0, h1⟩ := h
 match k, hu with
 | 0, hu => obtain rfl := Option.some.inj hu; exact h0
 | 1, hu => obtain rfl := Option.some.inj hu; exact h1
 | k + 2, hu => simp [Bt.cells] at hu
theorem SlS.src {w : World} {ao : Option Addr} {l : List Svc} (h : SlS w ao l) : l.length ≠ 0 → ∃ ad, ao = some ad ∧ ∀ j u, (svcsV l)[j]? = some u → w.cell? (ad.add j) = some u := fun hn => by
 obtain ⟨b, off, e, _, hat⟩ := h (by intro h; rw [h] at hn; simp at hn)
 refine ⟨_, e, fun j u hu => ?_⟩
 obtain ⟨i, k, s, h1, h2, rfl⟩ := flat_cell (c := Svc.cells) (n := 13) (fun _ => rfl) l j u hu
 have := (hat i s h1).get k u h2
 rw [Nat.add_assoc, ← Addr.add_lit] at this
 exact this
theorem SlC.src {w : World} {ao : Option Addr} {l : List Cp} (h : SlC w ao l) : l.length ≠ 0 → ∃ ad, ao = some ad ∧ ∀ j u, (cpsV l)[j]? = some u → w.cell? (ad.add j) = some u := fun hn => by
 obtain ⟨b, off, e, _, hat⟩ := h (by intro h; rw [h] at hn; simp at hn)
 refine ⟨_, e, fun j u hu => ?_⟩
 obtain ⟨i, k, s, h1, h2, rfl⟩ := flat_cell (c := Cp.cells) (n := 7) (fun _ => rfl) l j u hu
 have := (hat i s h1).get k u h2
 rw [Nat.add_assoc, ← Addr.add_lit] at this
 exact this
theorem SlB.src {w : World} {ao : Option Addr} {l : List Bt} (h : SlB w ao l) : l.length ≠ 0 → ∃ ad, ao = some ad ∧ ∀ j u, (btsV l)[j]? = some u → w.cell? (ad.add j) = some u := fun hn => by
 obtain ⟨b, off, e, _, hat⟩ := h (by intro h; rw [h] at hn; simp at hn)
 refine ⟨_, e, fun j u hu => ?_⟩
 obtain ⟨i, k, s, h1, h2, rfl⟩ := flat_cell (c := Bt.cells) (n := 2) (fun _ => rfl) l j u hu
 have := (hat i s h1).get k u h2
 rw [Nat.add_assoc, ← Addr.add_lit] at this
 exact this
theorem RowIs.slS {w : World} {e : TypeId} {g n cap : Nat} {l : List Svc} (h : RowIs w e 13 g n cap (svcsV l)) : SlS w (some ⟨g, 0, none⟩) l := fun _ =>
 ⟨g, 0, rfl, h.lt, fun i s hs => by
  have := fun k u hu => h.cell (flat_at (c := Svc.cells) (n := 13) (fun _ => rfl) l i s k u hs hu)
  unfold SvcAt
  rw [Nat.zero_add]
  exact ⟨this 0 _ rfl, this 1 _ rfl, this 2 _ rfl, this 3 _ rfl, this 4 _ rfl, this 5 _ rfl, this 6 _ rfl, this 7 _ rfl, this 8 _ rfl, this 9 _ rfl, this 10 _ rfl, this 11 _ rfl, this 12 _ rfl⟩⟩
theorem RowIs.slC {w : World} {e : TypeId} {g n cap : Nat} {l : List Cp} (h : RowIs w e 7 g n cap (cpsV l)) : SlC w (some ⟨g, 0, none⟩) l := fun _ =>
 ⟨g, 0, rfl, h.lt, fun i s hs => by
  have := fun k u hu => h.cell (flat_at (c := Cp.cells) (n := 7) (fun _ => rfl) l i s k u hs hu)
  unfold CpAt
  rw [Nat.zero_add]
  exact ⟨this 0 _ rfl, this 1 _ rfl, this 2 _ rfl, this 3 _ rfl, this 4 _ rfl, this 5 _ rfl, this 6 _ rfl⟩⟩
theorem RowIs.slB {w : World} {e : TypeId} {g n cap : Nat} {l : List Bt} (h : RowIs w e 2 g n cap (btsV l)) : SlB w (some ⟨g, 0, none⟩) l := fun _ =>
 ⟨g, 0, rfl, h.lt, fun i s hs => by
  have := fun k u hu => h.cell (flat_at (c := Bt.cells) (n := 2) (fun _ => rfl) l i s k u hs hu)
  unfold BtAt
  rw [Nat.zero_add]
  exact ⟨this 0 _ rfl, this 1 _ rfl⟩⟩
end Go.Proofs.YtbceafpodamnfabGreat

namespace Go.Proofs.YtbceafpodamnfabGreat
open Go.RowKit
section
variable {P : Program}
structure Only (g : Nat) (w w' : World) : Prop where
 other : ∀ k, k ≠ g → w'.heap[k]? = w.heap[k]?
 below : Below g w w'
 size : w'.heap.size = w.heap.size
theorem only_setRow (w : World) (g : Nat) (cs : Array Value) : Only g w (w.setRow g cs) := ⟨fun k hk => setRow_block w g k cs hk, below_setRow' w g cs, setRow_size w g cs⟩
theorem run_storeVar_one (w : World) (g off : Nat) (t ty : TypeId) (cur : Array Value) (v : Value) (hg : w.heap[g]? = some (.cells cur t (0, 0))) (hi : (P.info? ty).map (·.size) = some 1) (hv : v.cells = #[v])
  (hfit : off + 1 ≤ cur.size) (h1 : v.oneCell' = true) :
  (storeVar ty ⟨g, off, none⟩ v).run P w = .ok () (w.setRow g (splice cur.toList off [v]).toArray) := by
 have := run_storeCells_at P g off t [v] 0 cur w hg (by simpa using hfit) (fun u hu => by simp at hu; subst hu; exact h1)
 cases hq : P.info? ty with
 | none => simp [hq] at hi
 | some i =>
  have hs : i.size = 1 := by simpa [hq] using hi
  simp only [Nat.add_zero, List.append_assoc] at this
  simp [storeVar, sizeOf, typeInfo, hq, hv, hs, this, splice]
theorem wpList_store_one {ops : Array Oper} {rest : List Oper} {o : Oper} {a : Act} {w : World} {Q : Exit → Act → World → Prop} (hgd : o.guard = none) (ty : TypeId) (x y : Operand) (ho : o.op = .store ty x y)
  (g off : Nat) (v : Value) (hx : a.eval x = .pointer (some ⟨g, off, none⟩)) (hy : a.eval y = v) (hi : (P.info? ty).map (·.size) = some 1) (hv : v.cells = #[v]) (h1 : v.oneCell' = true)
  (t : TypeId) (cur : Array Value) (hg : w.heap[g]? = some (.cells cur t (0, 0))) (hfit : off + 1 ≤ cur.size)
  (h : ∀ w', Hid (w'.heap[g]? = some (.cells (splice cur.toList off [v]).toArray t (0, 0))) → Only g w w' → wpList P ops Q rest (a.put o.dst undef) w') : wpList P ops Q (o :: rest) a w := by
 refine wpList_plain hgd fun K hK => ?_
 unfold Oper.wp execOp
 simp only [ho, hx, hy, Instr.storeAt, Instr.sureAddr, Sem.run_bind, Sem.run_pure, Result.andThen_ok, run_storeVar_one w g off t ty cur v hg hi hv hfit h1]
 exact hK _ _ (h _ (setRow_heap w g cur _ t _ hg) (only_setRow w g _))
theorem wpList_store_only {ops : Array Oper} {rest : List Oper} {o : Oper} {a : Act} {w : World} {Q : Exit → Act → World → Prop} (hgd : o.guard = none) (ty : TypeId) (x y : Operand) (ho : o.op = .store ty x y)
  (g off : Nat) (cells : Array Value) (hx : a.eval x = .pointer (some ⟨g, off, none⟩)) (hy : a.eval y = .agg cells) (t : TypeId) (cur : Array Value) (hg : w.heap[g]? = some (.cells cur t (0, 0)))
  (hi : (P.info? ty).map (·.size) = some cells.size) (hfit : off + cells.size ≤ cur.size) (h1 : cells.all (·.oneCell') = true)
  (h : ∀ w', Hid (w'.heap[g]? = some (.cells (splice cur.toList off cells.toList).toArray t (0, 0))) → Only g w w' → wpList P ops Q rest (a.put o.dst undef) w') : wpList P ops Q (o :: rest) a w := by
 refine wpList_plain hgd fun K hK => ?_
 unfold Oper.wp execOp
 simp only [ho, hx, hy, Instr.storeAt, Instr.sureAddr, Sem.run_bind, Sem.run_pure, Result.andThen_ok, run_storeVar_at w g off t ty cur cells hg hi hfit h1]
 exact hK _ _ (h _ (setRow_heap w g cur _ t _ hg) (only_setRow w g _))
end
end Go.Proofs.YtbceafpodamnfabGreat

namespace Go.Proofs.YtbceafpodamnfabGreat
open Go.RowKit
theorem splice_get {α : Type} (l : List α) (o : Nat) (xs : List α) (h : o + xs.length ≤ l.length) (j : Nat) : (splice l o xs)[j]? = if j < o then l[j]? else if j < o + xs.length then xs[j - o]? else l[j]? := by
 have ht : (l.take o).length = o := by rw [List.length_take]; omega
 unfold splice
 by_cases h1 : j < o
 ·rw [if_pos h1, List.getElem?_append_left (by omega), List.getElem?_take_of_lt h1]
 ·rw [if_neg h1, List.getElem?_append_right (by omega), ht]
  by_cases h2 : j < o + xs.length
  ·rw [if_pos h2, List.getElem?_append_left (by omega)]
  ·rw [if_neg h2, List.getElem?_append_right (by omega), List.getElem?_drop]
   congr 1
   omega
theorem splice_take {α : Type} (l : List α) (o n : Nat) (xs : List α) (h : o + xs.length ≤ n) (hn : n ≤ l.length) : (splice l o xs).take n = splice (l.take n) o xs := by
 have hl : (l.take n).length = n := by rw [List.length_take]; omega
 refine List.ext_getElem? fun j => ?_
 rw [splice_get _ _ _ (by omega)]
 by_cases hj : j < n
 ·rw [List.getElem?_take_of_lt hj, splice_get _ _ _ (by omega), List.getElem?_take_of_lt hj]
 ·rw [List.getElem?_eq_none (by rw [List.length_take]; omega), if_neg (by omega), if_neg (by omega), List.getElem?_eq_none (by omega)]
theorem flat_splice {α : Type} {c : α → List Value} {n : Nat} (hc : ∀ s, (c s).length = n) (l : List α) (i : Nat) (s : α) (hi : i < l.length) : splice (l.flatMap c) (i * n) (c s) = (l.set i s).flatMap c := by
 have hlen := flat_len hc l
 have hfit : i * n + n ≤ l.length * n := by rw [← Nat.succ_mul]; exact Nat.mul_le_mul_right n hi
 refine List.ext_getElem? fun j => ?_
 rw [splice_get _ _ _ (by rw [hc, hlen]; exact hfit), hc]
 by_cases hj : j < l.length * n
 ·have hn : 0 < n := by rcases Nat.eq_zero_or_pos n with h | h; · rw [h] at hj; simp at hj
                        ·exact h
  obtain ⟨u, hu⟩ : ∃ u, (l.flatMap c)[j]? = some u := ⟨(l.flatMap c)[j]'(by rw [hlen]; exact hj), by rw [List.getElem?_eq_getElem]⟩
  obtain ⟨p, k, x, h1, h2, rfl⟩ := flat_cell hc l j u hu
  have hk : k < n := by have := (List.getElem?_eq_some_iff.1 h2).1; rw [hc] at this; exact this
  by_cases hp : p = i
  ·subst hp
   obtain ⟨v, hv⟩ : ∃ v, (c s)[k]? = some v := ⟨(c s)[k]'(by rw [hc]; exact hk), by rw [List.getElem?_eq_getElem]⟩
   rw [if_neg (by omega), if_pos (by omega), show p * n + k - p * n = k by omega, hv]
   exact (flat_at hc (l.set p s) p s k v (by simp [hi]) hv).symm
  ·have hg : (l.set i s)[p]? = some x := by rw [List.getElem?_set_ne (by omega)]; exact h1
   rw [flat_at hc (l.set i s) p x k u hg h2, hu]
   by_cases hlt : p < i
   ·have : p * n + n ≤ i * n := by rw [← Nat.succ_mul]; exact Nat.mul_le_mul_right n hlt
    rw [if_pos (by omega)]
   ·have : i * n + n ≤ p * n := by rw [← Nat.succ_mul]; exact Nat.mul_le_mul_right n (by omega)
    rw [if_neg (by omega), if_neg (by omega)]
 ·rw [if_neg (by omega), if_neg (by omega), List.getElem?_eq_none (by omega), List.getElem?_eq_none (by rw [flat_len hc]; simpa using Nat.le_of_not_lt hj)]
theorem flat_splice_one {α : Type} {c : α → List Value} {n : Nat} (hc : ∀ s, (c s).length = n) (l : List α) (i k : Nat) (s s' : α) (u : Value) (hi : l[i]? = some s) (hk : k < n) (hs : c s' = (c s).set k u) : splice (l.flatMap c) (i * n + k) [u] = (l.set i s').flatMap c := by
 have hil : i < l.length := (List.getElem?_eq_some_iff.1 hi).1
 have hlen := flat_len hc l
 have hfit : i * n + n ≤ l.length * n := by rw [← Nat.succ_mul]; exact Nat.mul_le_mul_right n hil
 rw [← flat_splice hc l i s' hil]
 refine List.ext_getElem? fun j => ?_
 rw [splice_get _ _ _ (by rw [hlen, List.length_singleton]; omega), splice_get _ _ _ (by rw [hc, hlen]; exact hfit), hc, List.length_singleton]
 by_cases h1 : j < i * n
 ·rw [if_pos (by omega), if_pos h1]
 ·rw [if_neg h1]
  by_cases h2 : j < i * n + n
  ·obtain ⟨q, rfl⟩ : ∃ q, j = i * n + q := ⟨j - i * n, by omega⟩
   rw [if_pos h2, show i * n + q - i * n = q by omega, hs]
   by_cases h3 : q = k
   ·subst h3
    rw [if_neg (by omega), if_pos (by omega), List.getElem?_set_self (by rw [hc]; exact hk), show i * n + q - (i * n + q) = 0 by omega]
    rfl
   ·rw [List.getElem?_set_ne (by omega)]
    obtain ⟨v, hv⟩ : ∃ v, (c s)[q]? = some v := ⟨(c s)[q]'(by rw [hc]; omega), by rw [List.getElem?_eq_getElem]⟩
    rw [hv, flat_at hc l i s q v hi hv]
    by_cases h4 : q < k
    ·rw [if_pos (by omega)]
    ·rw [if_neg (by omega), if_neg (by omega)]
  ·rw [if_neg h2, if_neg (by omega), if_neg (by omega)]
theorem RowIs.stored {w w' : World} {e : TypeId} {size g n cap : Nat} {xs : List Value} (h : RowIs w e size g n cap xs) (cur : Array Value) (hg : w.heap[g]? = some (.cells cur e (0, 0))) (o : Nat) (ys : List Value) (hfit : o + ys.length ≤ n * size)
  (h' : w'.heap[g]? = some (.cells (splice cur.toList o ys).toArray e (0, 0))) : RowIs w' e size g n cap (splice xs o ys) := by
 obtain ⟨hx, hc, cur', h1, h2, h3⟩ := h
 rw [hg] at h1
 injection h1 with h1
 injection h1 with h1
 subst h1
 have hnc : n * size ≤ cur.toList.length := by rw [Array.length_toList, h2]; exact Nat.mul_le_mul_right size hc
 refine ⟨by rw [length_splice _ _ _ (by rw [hx]; exact hfit), hx], hc, _, h', ?_, ?_⟩
 ·rw [List.size_toArray, length_splice _ _ _ (by omega), Array.length_toList, h2]
 ·show (splice cur.toList o ys).take (n * size) = _
  rw [splice_take _ _ _ _ hfit hnc, h3]
section
variable {P : Program}
theorem wpList_row_one {ops : Array Oper} {rest : List Oper} {o : Oper} {a : Act} {w : World} {Q : Exit → Act → World → Prop} (hgd : o.guard = none) (ty : TypeId) (x y : Operand) (ho : o.op = .store ty x y)
  (g off : Nat) (v : Value) (hx : a.eval x = .pointer (some ⟨g, off, none⟩)) (hy : a.eval y = v) (hi : (P.info? ty).map (·.size) = some 1) (hv : v.cells = #[v]) (h1 : v.oneCell' = true)
  (e : TypeId) (size n cap : Nat) (xs : List Value) (hrow : RowIs w e size g n cap xs) (hfit : off + 1 ≤ n * size)
  (h : ∀ w', Hid (RowIs w' e size g n cap (splice xs off [v])) → Only g w w' → wpList P ops Q rest (a.put o.dst undef) w') : wpList P ops Q (o :: rest) a w := by
 have hr := hrow
 obtain ⟨hxl, hc, cur, hg, hs, ht⟩ := hr
 have hnc : n * size ≤ cap * size := Nat.mul_le_mul_right size hc
 exact wpList_store_one hgd ty x y ho g off v hx hy hi hv h1 e cur hg (by omega) fun w' h' on => h w' (hrow.stored cur hg off [v] hfit h'.out) on
theorem wpList_row_only {ops : Array Oper} {rest : List Oper} {o : Oper} {a : Act} {w : World} {Q : Exit → Act → World → Prop} (hgd : o.guard = none) (ty : TypeId) (x y : Operand) (ho : o.op = .store ty x y)
  (g off : Nat) (cells : Array Value) (hx : a.eval x = .pointer (some ⟨g, off, none⟩)) (hy : a.eval y = .agg cells) (hi : (P.info? ty).map (·.size) = some cells.size) (h1 : cells.all (·.oneCell') = true)
  (e : TypeId) (size n cap : Nat) (xs : List Value) (hrow : RowIs w e size g n cap xs) (hfit : off + cells.size ≤ n * size)
  (h : ∀ w', Hid (RowIs w' e size g n cap (splice xs off cells.toList)) → Only g w w' → wpList P ops Q rest (a.put o.dst undef) w') : wpList P ops Q (o :: rest) a w := by
 have hr := hrow
 obtain ⟨hxl, hc, cur, hg, hs, ht⟩ := hr
 have hnc : n * size ≤ cap * size := Nat.mul_le_mul_right size hc
 exact wpList_store_only hgd ty x y ho g off cells hx hy e cur hg hi (by omega) h1 fun w' h' on => h w' (hrow.stored cur hg off cells.toList (by rw [Array.length_toList]; exact hfit) h'.out) on
end
end Go.Proofs.YtbceafpodamnfabGreat

namespace Go.Proofs.YtbceafpodamnfabGreat
open Go.RowKit Go.Sort
theorem two_newV (w : World) (A B : Obj) : ∃ W0, (w.alloc A).alloc B = W0 ∧ W0.heap[w.heap.size]? = some A ∧ W0.heap[w.heap.size + 1]? = some B ∧ w.heap.size + 1 + 1 ≤ W0.heap.size ∧ W0.heap.size ≤ w.heap.size + 1 + 1 ∧ Below w.heap.size w W0 := by
 obtain ⟨t0, t1, t2⟩ := two_new w A B
 exact ⟨_, rfl, t0, t1, by rw [t2]; exact Nat.le_refl _, by rw [t2]; exact Nat.le_refl _, ((Below.refl _ _).alloc (Nat.le_refl _) _).alloc (by simp) _⟩
end Go.Proofs.YtbceafpodamnfabGreat

namespace Go.Proofs.YtbceafpodamnfabGreat
open Go.RowKit Go.Sort
theorem Tryz.infosIntX : (Tryz.prog.info? 3).map (·.size) = some 1 := by kernel_rfl
theorem Tryz.infosStrX : (Tryz.prog.info? 9).map (·.size) = some 1 := by kernel_rfl
theorem Tryz.infosCpsX : (Tryz.prog.info? 31).map (·.size) = some 1 := by kernel_rfl
theorem Tryz.infosBkX : (Tryz.prog.info? 34).map (·.size) = some 4 := by kernel_rfl
theorem Tryz.infosCpX : (Tryz.prog.info? 88).map (·.size) = some 7 := by kernel_rfl
theorem Tryz.infoCpX : (Tryz.prog.info? 88).map (fun i => (i.zero, i.size, i.bytes)) = some (some (.agg #[.string ⟨#[]⟩, .int .i64 0, .int .i64 0, .int .i64 0, .int .i64 0, .bool false, .string ⟨#[]⟩]), 7, 72) := by kernel_rfl
theorem one_CpX (x : Cp) : (#[.string x.service, .int .i64 x.number, .int .i64 x.version, .int .i64 x.image, .int .i64 x.state, .bool x.ending, .string x.berth] : Array Value).all (·.oneCell') = true := by simp [Value.oneCell']
theorem cpsV_addX (l : List Cp) (x : Cp) : cpsV (l ++ [x]) = cpsV l ++ (#[.string x.service, .int .i64 x.number, .int .i64 x.version, .int .i64 x.image, .int .i64 x.state, .bool x.ending, .string x.berth] : Array Value).toList := by simp [cpsV, Cp.cells]
theorem leftL_succ {v : Int} {l : List Cp} {k : Nat} {c : Cp} (h : l[k]? = some c) : leftL v (l.take (k + 1)) = leftL v (l.take k) ++ (if c.ending then [] else [tickC v c]) := by
 unfold leftL
 rw [List.take_add_one, h, List.filter_append, List.map_append]
 cases hc : c.ending <;> simp [List.filter, hc]
theorem leftL_len (v : Int) (l : List Cp) : (leftL v l).length ≤ l.length := by
 unfold leftL
 rw [List.length_map]
 exact List.length_filter_le _ _
theorem placeAt_yes {v : Int} {X : Bk} {i : Nat} {c : Cp} (h : X.cps[i]? = some c) (h1 : c.state = 1) (h2 : leastB X ≠ ⟨#[]⟩) : (placeAt v X i).cps = X.cps.set i { c with state := 2, berth := leastB X, version := v } := by
 unfold placeAt
 rw [h]
 simp only
 rw [if_pos ⟨h1, h2⟩]
theorem placeAt_no {v : Int} {X : Bk} {i : Nat} {c : Cp} (h : X.cps[i]? = some c) (h1 : ¬ (c.state = 1 ∧ leastB X ≠ ⟨#[]⟩)) : (placeAt v X i).cps = X.cps := by
 unfold placeAt
 rw [h]
 simp only
 rw [if_neg h1]
theorem nil_bytes {b : ByteArray} : (b.toList == []) = true ↔ b = ⟨#[]⟩ := by
 have := same_nm (a := b) (b := ⟨#[]⟩)
 rw [show (⟨#[]⟩ : ByteArray).toList = [] by rw [ByteArray.toList_eq]] at this
 exact this
set_option maxRecDepth 100000 in
set_option maxHeartbeats 32000000 in
theorem l6Tick_any (B : Bk) (v : Int) (a1 a2 a3 : Option Addr) (c1 c2 c3 : Nat) (w : World) (hS : B.small) (hB : BkAt w a1 a2 a3 B) :
  Calls Tryz.prog 83 #[.agg #[.int .i64 B.now, .slice a1 B.svcs.length c1, .slice a2 B.cps.length c2, .slice a3 B.bts.length c3], .int .i64 v] w fun e w' => ∃ g n cap, e = .returned (.agg #[.int .i64 B.now, .slice a1 B.svcs.length c1, .slice (some ⟨g, 0, none⟩) n cap, .slice a3 B.bts.length c3]) ∧ Hid (n = (tickB B v).cps.length) ∧ w.heap.size ≤ g ∧ Hid (RowIs w' 88 7 g n cap (cpsV (tickB B v).cps)) ∧ Below w.heap.size w w' := by
 obtain ⟨hl1, hl2, hl3⟩ := hS
 obtain ⟨W1, hW1, t0, t1, hz1, hz1', hb1⟩ := two_newV w (.cells #[.int .i64 B.now, .slice a1 B.svcs.length c1, .slice a2 B.cps.length c2, .slice a3 B.bts.length c3] 34) (.cells #[.int .i64 0, .slice none 0 0, .slice none 0 0, .slice none 0 0] 34)
 obtain ⟨W0, hW0⟩ : ∃ W, W1.alloc (.cells #[] 88) = W := ⟨_, rfl⟩
 have hb0' := below_box W1 (.cells #[] 88)
 have R0 : Hid _ := RowIs.new W1 88 7
 have hz0 : W1.heap.size < (W1.alloc (.cells #[] 88)).heap.size := by simp
 rw [hW0] at hb0' R0 hz0
 have T0 : Hid _ := below_blk hb0' t0 (by omega)
 have T1 : Hid _ := below_blk hb0' t1 (by omega)
 have hb0 := hb1.trans (hb0'.mono hb1.size)
 obtain ⟨gN, hgN⟩ : ∃ q, W1.heap.size = q := ⟨_, rfl⟩
 have hgn : w.heap.size + 1 < gN := by omega
 clear t0 t1 hb1 hb0'
 go_enter Tryz.func83, Tryz.ntmps83
 go_upto_region 2 with fail
 clear hW0 hW1
 rw [hgN] at R0
 clear hgN hz0 hz1 hz1'
 go_wp2
 go_loopw [5, 6] (fun ov iv wr => ∃ (k g n cap : Nat), k ≤ B.cps.length ∧ iv = .int .i64 k ∧ ov = .slice (some ⟨g, 0, none⟩) n cap ∧ Hid (n = (leftL v (B.cps.take k)).length) ∧ n ≤ k ∧ w.heap.size + 1 < g ∧ Below w.heap.size w wr ∧ Hid (wr.heap[w.heap.size]? = some (.cells #[.int .i64 B.now, .slice a1 B.svcs.length c1, .slice a2 B.cps.length c2, .slice a3 B.bts.length c3] 34 (0, 0))) ∧ Hid (wr.heap[w.heap.size + 1]? = some (.cells #[.int .i64 0, .slice none 0 0, .slice none 0 0, .slice none 0 0] 34 (0, 0))) ∧ Hid (RowIs wr 88 7 g n cap (cpsV (leftL v (B.cps.take k))))) (fun _ i _ => B.cps.length - (intOf i).toNat)
 case atStart => exact ⟨0, gN, 0, 0, by omega, rfl, rfl, rfl, Nat.le_refl _, hgn, hb0, T0, T1, R0⟩
 case round =>
  clear hb0 T0 T1 R0 hgn
  obtain ⟨k, g, n, cap, hk, rfl, rfl, HN, hnk, hg, hb, HX, HZ, HR⟩ := hrel
  have hzg := HR.out.lt
  have e2 := blk_cell HX.out 2 rfl
  by_cases hlt : k < B.cps.length
  ·obtain ⟨c, hck⟩ : ∃ c, B.cps[k]? = some c := ⟨B.cps[k], by simp [hlt]⟩
   have HLS : Hid (leftL v (B.cps.take (k + 1)) = leftL v (B.cps.take k) ++ (if c.ending then [] else [tickC v c])) := leftL_succ hck
   have hne : B.cps ≠ [] := by intro h; rw [h] at hlt; simp at hlt
   obtain ⟨bC, oC, ea, hbC, hat⟩ := (hB.below hb).2.1 hne
   subst ea
   have hcx := hat k c hck
   unfold CpAt at hcx
   obtain ⟨x0, x1, x2, x3, x4, x5, x6⟩ := hcx
   obtain ⟨Wa, hWa⟩ : ∃ W, wr.alloc (.cells #[.string c.service, .int .i64 c.number, .int .i64 c.version, .int .i64 c.image, .int .i64 c.state, .bool c.ending, .string c.berth] 88) = W := ⟨_, rfl⟩
   have hba := below_box wr (.cells #[.string c.service, .int .i64 c.number, .int .i64 c.version, .int .i64 c.image, .int .i64 c.state, .bool c.ending, .string c.berth] 88)
   have Ca : Hid _ := heap_alloc_new wr (.cells #[.string c.service, .int .i64 c.number, .int .i64 c.version, .int .i64 c.image, .int .i64 c.state, .bool c.ending, .string c.berth] 88)
   have hza : wr.heap.size < (wr.alloc (.cells #[.string c.service, .int .i64 c.number, .int .i64 c.version, .int .i64 c.image, .int .i64 c.state, .bool c.ending, .string c.berth] 88)).heap.size := by simp
   rw [hWa] at hba Ca hza
   clear hck hne hat
   go_upto_region 6 with fail
   clear hWa e2 x0 x1 x2 x3 x4 x5 x6
   have c5a := blk_cell Ca.out 5 rfl
   obtain ⟨en, hen⟩ : ∃ en, Hid (c.ending = en) := ⟨_, rfl⟩
   rw [show (.bool c.ending : Value) = .bool en from congrArg _ hen.out] at Ca
   have y5 : Wa.cell? ⟨wr.heap.size, 5, none⟩ = some (.bool en) := blk_cell Ca.out 5 rfl
   clear c5a
   cases en
   ·obtain ⟨c', HC'⟩ : ∃ c', Hid (c' = tickC v c) := ⟨_, rfl⟩
    have y4 := blk_cell Ca.out 4 rfl
    go_upto_if 27 with fail
    go_cut [6] (fun iv wx => iv = .int .i64 k ∧ Below wr.heap.size wr wx ∧ wr.heap.size < wx.heap.size ∧ Hid (wx.heap[wr.heap.size]? = some (.cells #[.string c'.service, .int .i64 c'.number, .int .i64 c'.version, .int .i64 c'.image, .int .i64 c'.state, .bool false, .string c'.berth] 88 (0, 0))))
    case first =>
     by_cases hs2 : c.state = 2
     ·have HE : Hid (c' = { c with state := 3, version := v }) := by unfold Hid; rw [HC'.out]; unfold tickC; rw [if_pos hs2]
      have hs2b : (c.state == 2) = true := by rw [hs2]; rfl
      go_wp2_with (first
       | (refine wpList_store_one rfl 3 (.tmp 28) (.const (.int .i64 3)) rfl wr.heap.size 4 (.int .i64 3) rfl rfl Tryz.infosIntX rfl rfl 88 #[.string c.service, .int .i64 c.number, .int .i64 c.version, .int .i64 c.image, .int .i64 c.state, .bool false, .string c.berth] Ca.out (Nat.le_of_ble_eq_true rfl) ?_; intro wy hz on; have Cy : Hid (wy.heap[wr.heap.size]? = some (.cells #[.string c.service, .int .i64 c.number, .int .i64 c.version, .int .i64 c.image, .int .i64 3, .bool false, .string c.berth] 88 (0, 0))) := hz; have hby := hba.trans (on.below.mono (by omega)); have hzy := (show wr.heap.size < wy.heap.size by rw [on.size]; exact hza); clear hz on)
       | (refine wpList_store_one rfl 3 (.tmp 30) (.tmp 29) rfl wr.heap.size 2 (.int .i64 v) rfl rfl Tryz.infosIntX rfl rfl 88 #[.string c.service, .int .i64 c.number, .int .i64 c.version, .int .i64 c.image, .int .i64 3, .bool false, .string c.berth] Cy.out (Nat.le_of_ble_eq_true rfl) ?_; intro wz hz on; have Cz : Hid (wz.heap[wr.heap.size]? = some (.cells #[.string c.service, .int .i64 c.number, .int .i64 v, .int .i64 c.image, .int .i64 3, .bool false, .string c.berth] 88 (0, 0))) := hz; have hbz := hby.trans (on.below.mono (by omega)); have hzz := (show wr.heap.size < wz.heap.size by rw [on.size]; exact hzy); clear hz on))
      go_meet
      case rel => exact ⟨rfl, hbz, hzz, by unfold Hid; rw [HE.out]; exact Cz.out⟩
     ·have HE : Hid (c' = c) := by unfold Hid; rw [HC'.out]; unfold tickC; rw [if_neg hs2]
      have hs2b : (c.state == 2) = false := by simpa using hs2
      go_wp2
      go_meet
      case rel => exact ⟨rfl, hba, hza, by unfold Hid; rw [HE.out]; exact Ca.out⟩
    case rest =>
     obtain ⟨rfl, hbc, hzc, Cc⟩ := hcut
     have hbw := hb.trans (hbc.mono hb.size)
     have Xc : Hid _ := below_blk hbc HX.out (by omega)
     have Zc : Hid _ := below_blk hbc HZ.out (by omega)
     have Rc : Hid (RowIs wc 88 7 g n cap (cpsV (leftL v (B.cps.take k)))) := HR.out.below hbc hzg
     have hen' : Hid (c'.ending = false) := by unfold Hid; rw [HC'.out]; unfold tickC; split <;> exact hen.out
     rw [show (.bool false : Value) = .bool c'.ending from congrArg _ hen'.out.symm] at Cc
     clear hb hba hza Ca y4 y5 HX HZ HR hbc
     go_wp2_with (first
      | (refine wpList_load_row rfl 88 (.tmp 7) rfl wr.heap.size rfl 88 #[.string c'.service, .int .i64 c'.number, .int .i64 c'.version, .int .i64 c'.image, .int .i64 c'.state, .bool c'.ending, .string c'.berth] (0, 0) _ Cc.out Tryz.underlying88 rfl Tryz.infosCpX ?_)
      | (at_builtin; refine wpList_append_row rfl (.tmp 31) (.tmp 33) 31 rfl 88 _ 7 72 Tryz.underlying31 Tryz.infoCpX rfl g n cap _ rfl (Rc.out.below (below_box wc _) Rc.out.lt) ⟨wc.heap.size, 0, none⟩ 1 1 (#[.string c'.service, .int .i64 c'.number, .int .i64 c'.version, .int .i64 c'.image, .int .i64 c'.state, .bool c'.ending, .string c'.berth] : Array Value).toList rfl rfl (news_row (heap_alloc_new wc _)) (fun u hu => (Array.all_eq_true_iff_forall_mem.1 (one_CpX c')) u (by simpa using hu)) (by unfold maxLen; omega) (by omega) ?_; intro g' cap' w2 hg' hrow' hgr; have hsz : (wc.alloc (.cells #[.string c'.service, .int .i64 c'.number, .int .i64 c'.version, .int .i64 c'.image, .int .i64 c'.state, .bool c'.ending, .string c'.berth] 88)).heap.size = wc.heap.size + 1 := (by show (wc.heap.push _).size = _; simp); rw [hsz] at hg'; have hzR := Rc.out.lt; have hb2 : Below w.heap.size w w2 := (hbw.alloc hbw.size _).trans (below_of_grown hgr (by omega) (by rw [hsz]; have := hbw.size; omega)); have hg2 := hg'; have X2 : Hid _ := (hgr.block w.heap.size (by rw [hsz]; omega) (fun e => by have := Option.some.inj e; omega)).trans (below_blk (below_box wc (.cells #[.string c'.service, .int .i64 c'.number, .int .i64 c'.version, .int .i64 c'.image, .int .i64 c'.state, .bool c'.ending, .string c'.berth] 88)) Xc.out (by omega)); have Z2 : Hid _ := (hgr.block (w.heap.size + 1) (by rw [hsz]; omega) (fun e => by have := Option.some.inj e; omega)).trans (below_blk (below_box wc (.cells #[.string c'.service, .int .i64 c'.number, .int .i64 c'.version, .int .i64 c'.image, .int .i64 c'.state, .bool c'.ending, .string c'.berth] 88)) Zc.out (by omega)); have R2 : Hid (RowIs w2 88 7 g' (n + 1) cap' (cpsV (leftL v (B.cps.take k)) ++ (#[.string c'.service, .int .i64 c'.number, .int .i64 c'.version, .int .i64 c'.image, .int .i64 c'.state, .bool c'.ending, .string c'.berth] : Array Value).toList)) := hrow'; clear hrow' hgr hsz))
     go_roundw
     case rel => exact ⟨k + 1, g', n + 1, cap', by omega, by go_num, rfl, by unfold Hid; rw [HLS.out, hen.out, HN.out]; simp, by omega, by omega, hb2, X2, Z2, by unfold Hid; rw [HLS.out, hen.out, ← HC'.out]; simp only [Bool.false_eq_true, if_false, cpsV_addX]; exact R2.out⟩
     case measure => simp [intOf]; omega
   ·have HL0 : Hid (leftL v (B.cps.take (k + 1)) = leftL v (B.cps.take k)) := by unfold Hid; rw [HLS.out, hen.out]; simp
    have Xa : Hid _ := below_blk hba HX.out (by omega)
    have Za : Hid _ := below_blk hba HZ.out (by omega)
    have Ra : Hid (RowIs Wa 88 7 g n cap (cpsV (leftL v (B.cps.take k)))) := HR.out.below hba hzg
    have hbw := hb.trans (hba.mono hb.size)
    go_wp2
    go_roundw
    case rel => exact ⟨k + 1, g, n, cap, by omega, by go_num, rfl, by unfold Hid; rw [HL0.out]; exact HN.out, by omega, hg, hbw, Xa, Za, by unfold Hid; rw [HL0.out]; exact Ra.out⟩
    case measure => simp [intOf]; omega
  ·have HNL : Hid (n = (leftL v B.cps).length) := by unfold Hid; rw [HN.out, show k = B.cps.length by omega, List.take_length]
   have R1 : Hid (RowIs wr 88 7 g n cap (cpsV (leftL v B.cps))) := by unfold Hid; have := HR.out; rw [show k = B.cps.length by omega, List.take_length] at this; exact this
   have hnc : n ≤ 1048576 := by omega
   clear HR HN hnk
   go_upto_region 13 with (first
    | (refine wpList_store_one rfl 31 (.tmp 36) (.tmp 35) rfl w.heap.size 2 (.slice (some ⟨g, 0, none⟩) n cap) rfl rfl Tryz.infosCpsX rfl rfl 34 #[.int .i64 B.now, .slice a1 B.svcs.length c1, .slice a2 B.cps.length c2, .slice a3 B.bts.length c3] HX.out (Nat.le_of_ble_eq_true rfl) ?_; intro w1 hz on; have X1 : Hid (w1.heap[w.heap.size]? = some (.cells #[.int .i64 B.now, .slice a1 B.svcs.length c1, .slice (some ⟨g, 0, none⟩) n cap, .slice a3 B.bts.length c3] 34 (0, 0))) := hz; have hb1 := hb.trans (on.below.mono (by omega)); have Z1 : Hid _ := (on.other (w.heap.size + 1) (by omega)).trans HZ.out; have R1b : Hid (RowIs w1 88 7 g n cap (cpsV (leftL v B.cps))) := R1.out.blk (on.other g (by omega)); clear hz on))
   clear R1 HX HZ hb e2
   go_wp2
   go_loopw [8] (fun iv wr => ∃ (k : Nat) (l : List Cp), k ≤ n ∧ iv = .int .i64 k ∧ Hid (l = (tickTo B v k).cps) ∧ Below w.heap.size w wr ∧ Hid (wr.heap[w.heap.size]? = some (.cells #[.int .i64 B.now, .slice a1 B.svcs.length c1, .slice (some ⟨g, 0, none⟩) n cap, .slice a3 B.bts.length c3] 34 (0, 0))) ∧ Hid (wr.heap[w.heap.size + 1]? = some (.cells #[.int .i64 0, .slice none 0 0, .slice none 0 0, .slice none 0 0] 34 (0, 0))) ∧ Hid (RowIs wr 88 7 g n cap (cpsV l))) (fun i _ => n - (intOf i).toNat)
   case atStart => exact ⟨0, leftL v B.cps, by omega, rfl, rfl, hb1, X1, Z1, R1b⟩
   case round =>
    clear hb1 X1 Z1 R1b
    rename_i wr0 _
    obtain ⟨k, l, hk, rfl, HL, hb, HX, HZ, HR⟩ := hrel
    have hzg := HR.out.lt
    have hzx : w.heap.size + 1 < wr.heap.size := (Array.getElem?_eq_some_iff.1 HZ.out).1
    have HLL : Hid (l.length = n) := by unfold Hid; rw [HL.out, (tickTo_same B v k).2.2.2, HNL.out]
    have e2 := blk_cell HX.out 2 rfl
    by_cases hlm : k < n
    ·obtain ⟨c, hck⟩ : ∃ c, l[k]? = some c := ⟨l[k]'(by rw [HLL.out]; exact hlm), by simp [HLL.out, hlm]⟩
     have HLK : Hid (l[k]? = some c) := hck
     have HLKX : Hid ((tickTo B v k).cps[k]? = some c) := by unfold Hid; rw [← HL.out]; exact hck
     obtain ⟨bn, HBN⟩ : ∃ bn, Hid (leastB (tickTo B v k) = bn) := ⟨_, rfl⟩
     have HXB : Hid (BkAt wr a1 (some ⟨g, 0, none⟩) a3 (tickTo B v k)) := by
      have h1 := hB.below hb
      obtain ⟨q1, q2, q3, q4⟩ := tickTo_same B v k
      refine ⟨?_, ?_, ?_⟩
      ·rw [q2]; exact h1.1
      ·rw [← HL.out]; exact RowIs.slC HR.out
      ·rw [q3]; exact h1.2.2
     have HSM : Hid ((tickTo B v k).small) := by
      obtain ⟨q1, q2, q3, q4⟩ := tickTo_same B v k
      refine ⟨by rw [q2]; exact hl1, by rw [q4, ← HNL.out]; exact hnc, by rw [q3]; exact hl3⟩
     have HCL : Hid (∀ W, Below wr.heap.size wr W → Calls Tryz.prog 123 #[.agg #[.int .i64 B.now, .slice a1 B.svcs.length c1, .slice (some ⟨g, 0, none⟩) n cap, .slice a3 B.bts.length c3]] W fun e w' => e = .returned (.string bn) ∧ Below W.heap.size W w') := fun W hW => by
      have := l6Least_any (tickTo B v k) a1 (some ⟨g, 0, none⟩) a3 c1 cap c3 W HSM.out (HXB.out.below hW)
      obtain ⟨q1, q2, q3, q4⟩ := tickTo_same B v k
      rw [HBN.out, q1, q2, q3, q4, ← HNL.out] at this
      exact this
     have e0 := blk_cell HX.out 0 rfl
     have e1 := blk_cell HX.out 1 rfl
     have e3 := blk_cell HX.out 3 rfl
     clear hck
     go_wp2_with fail
     refine (HCL.out _ (Below.refl _ _)).mono ?_
     rintro e wc ⟨rfl, hbq⟩
     have hzc := hbq.size
     have hbc := hb.trans (hbq.mono hb.size)
     have Xc : Hid _ := below_blk hbq HX.out (by omega)
     have Zc : Hid _ := below_blk hbq HZ.out hzx
     have Rc : Hid (RowIs wc 88 7 g n cap (cpsV l)) := HR.out.below hbq hzg
     have hzgc := Rc.out.lt
     clear e0 e1 e2 e3 hb hbq HX HZ HR HXB HSM HCL
     have q2 := blk_cell Xc.out 2 rfl
     have y4 := Rc.out.cell (flat_at (c := Cp.cells) (n := 7) (fun _ => rfl) l k c 4 (.int .i64 c.state) HLK.out rfl)
     have hlen7 : k * 7 + 7 ≤ n * 7 := by omega
     go_upto_region 16 with fail
     by_cases hy : c.state = 1 ∧ bn ≠ ⟨#[]⟩
     ·have hs1 : (c.state == 1) = true := by rw [hy.1]; rfl
      have hbe : (bn.toList == []) = false := by rw [Bool.eq_false_iff]; intro h; exact hy.2 (nil_bytes.1 h)
      have HLY : Hid (l.set k { c with state := 2, berth := bn, version := v } = (tickTo B v (k + 1)).cps) := by unfold Hid; rw [tickTo_succ, placeAt_yes HLKX.out hy.1 (by rw [HBN.out]; exact hy.2), ← HL.out, HBN.out]
      clear hy
      go_wp2_with (first
       | (refine wpList_row_one rfl 3 (.tmp 61) (.const (.int .i64 2)) rfl g _ (.int .i64 2) rfl rfl Tryz.infosIntX rfl rfl 88 7 n cap _ Rc.out (by omega) ?_; intro w3 hr on; have R3 : Hid (RowIs w3 88 7 g n cap (cpsV (l.set k { c with state := 2 }))) := (by have := hr.out; (try simp only [Nat.zero_add] at this); rw [show splice (cpsV l) (k * 7 + 4) [.int .i64 2] = cpsV (l.set k { c with state := 2 }) from flat_splice_one (c := Cp.cells) (n := 7) (fun _ => rfl) l k 4 c { c with state := 2 } _ HLK.out (by omega) rfl] at this; exact this); have Xd : Hid _ := (on.other w.heap.size (by omega)).trans Xc.out; have Zd : Hid _ := (on.other (w.heap.size + 1) (by omega)).trans Zc.out; have hbd := hbc.trans (on.below.mono (by omega)); clear q2; have q2 := blk_cell Xd.out 2 rfl; clear hr on)
       | (refine wpList_row_one rfl 9 (.tmp 67) (.tmp 65) rfl g _ (.string bn) rfl rfl Tryz.infosStrX rfl rfl 88 7 n cap _ R3.out (by omega) ?_; intro w4 hr on; have R4 : Hid (RowIs w4 88 7 g n cap (cpsV (l.set k { c with state := 2, berth := bn }))) := (by have := hr.out; (try simp only [Nat.zero_add] at this); rw [show splice (cpsV (l.set k { c with state := 2 })) (k * 7 + 6) [.string bn] = cpsV ((l.set k { c with state := 2 }).set k { c with state := 2, berth := bn }) from flat_splice_one (c := Cp.cells) (n := 7) (fun _ => rfl) (l.set k { c with state := 2 }) k 6 { c with state := 2 } { c with state := 2, berth := bn } _ (by rw [List.getElem?_set_self (by rw [HLL.out]; exact hlm)]) (by omega) rfl, List.set_set] at this; exact this); have Xf : Hid _ := (on.other w.heap.size (by omega)).trans Xd.out; have Zf : Hid _ := (on.other (w.heap.size + 1) (by omega)).trans Zd.out; have hbf := hbd.trans (on.below.mono (by omega)); clear q2; have q2 := blk_cell Xf.out 2 rfl; clear hr on)
       | (refine wpList_row_one rfl 3 (.tmp 73) (.tmp 71) rfl g _ (.int .i64 v) rfl rfl Tryz.infosIntX rfl rfl 88 7 n cap _ R4.out (by omega) ?_; intro w5 hr on; have R5 : Hid (RowIs w5 88 7 g n cap (cpsV (l.set k { c with state := 2, berth := bn, version := v }))) := (by have := hr.out; (try simp only [Nat.zero_add] at this); rw [show splice (cpsV (l.set k { c with state := 2, berth := bn })) (k * 7 + 2) [.int .i64 v] = cpsV ((l.set k { c with state := 2, berth := bn }).set k { c with state := 2, berth := bn, version := v }) from flat_splice_one (c := Cp.cells) (n := 7) (fun _ => rfl) (l.set k { c with state := 2, berth := bn }) k 2 { c with state := 2, berth := bn } { c with state := 2, berth := bn, version := v } _ (by rw [List.getElem?_set_self (by rw [HLL.out]; exact hlm)]) (by omega) rfl, List.set_set] at this; exact this); have Xh : Hid _ := (on.other w.heap.size (by omega)).trans Xf.out; have Zh : Hid _ := (on.other (w.heap.size + 1) (by omega)).trans Zf.out; have hbh := hbf.trans (on.below.mono (by omega)); clear q2; have q2 := blk_cell Xh.out 2 rfl; clear hr on))
      go_wp2
      go_roundw
      case rel => exact ⟨k + 1, _, by omega, by go_num, HLY, hbh, Xh, Zh, R5⟩
      case measure => simp [intOf]; omega
     ·have HLY : Hid (l = (tickTo B v (k + 1)).cps) := by unfold Hid; rw [tickTo_succ, placeAt_no HLKX.out (by rw [HBN.out]; exact hy), ← HL.out]
      cases hs1 : (c.state == 1)
      ·clear hy
       go_wp2
       go_roundw
       case rel => exact ⟨k + 1, l, by omega, by go_num, HLY, hbc, Xc, Zc, Rc⟩
       case measure => simp [intOf]; omega
      ·have hbe : (bn.toList == []) = true := by
        rw [nil_bytes]
        exact Classical.byContradiction fun h => hy ⟨by simpa using hs1, h⟩
       clear hy
       go_wp2
       go_roundw
       case rel => exact ⟨k + 1, l, by omega, by go_num, HLY, hbc, Xc, Zc, Rc⟩
       case measure => simp [intOf]; omega
    ·have HE : Hid (l = (tickB B v).cps) := by unfold Hid tickB; rw [HL.out, show k = n by omega, HNL.out]
     have e0 := blk_cell HX.out 0 rfl
     have e1 := blk_cell HX.out 1 rfl
     have e3 := blk_cell HX.out 3 rfl
     go_wp2_with (first
      | (refine wpList_store_only rfl 34 (.tmp 4) (.tmp 74) rfl (w.heap.size + 1) 0 #[.int .i64 B.now, .slice a1 B.svcs.length c1, .slice (some ⟨g, 0, none⟩) n cap, .slice a3 B.bts.length c3] rfl rfl 34 #[.int .i64 0, .slice none 0 0, .slice none 0 0, .slice none 0 0] HZ.out Tryz.infosBkX (Nat.le_of_ble_eq_true rfl) (by simp [Value.oneCell']) ?_; intro w2 hz on; have Z2 : Hid (w2.heap[w.heap.size + 1]? = some (.cells #[.int .i64 B.now, .slice a1 B.svcs.length c1, .slice (some ⟨g, 0, none⟩) n cap, .slice a3 B.bts.length c3] 34 (0, 0))) := hz; have hb2 := hb.trans (on.below.mono (by omega)); have R2 : Hid (RowIs w2 88 7 g n cap (cpsV l)) := HR.out.blk (on.other g (by omega)); clear hz on))
     exact bodyPost_ret (v := .agg #[.int .i64 B.now, .slice a1 B.svcs.length c1, .slice (some ⟨g, 0, none⟩) n cap, .slice a3 B.bts.length c3]) (results_cell_row rfl _ _ (w.heap.size + 1) _ _ _ _ rfl Z2.out Tryz.underlying34 rfl Tryz.infosBkX) rfl ⟨g, n, cap, rfl, by unfold Hid; rw [← HE.out, HLL.out], by omega, by unfold Hid; rw [← HE.out]; exact R2.out, hb2⟩
end Go.Proofs.YtbceafpodamnfabGreat

namespace Go.Proofs.YtbceafpodamnfabGreat
open Go.RowKit Go.Sort
def aheadK {α : Type} (p : α → Bool) (l : List α) : Nat := (l.takeWhile p).length
theorem aheadK_is {α : Type} {p : α → Bool} : ∀ {l : List α} {k : Nat}, k ≤ l.length → (∀ (i : Nat) s, i < k → l[i]? = some s → p s = true) → (∀ s, l[k]? = some s → p s = false) → aheadK p l = k
 | [], k, hk, _, _ => by unfold aheadK; simp at hk; simp [hk]
 | x :: l, 0, _, _, h => by unfold aheadK; rw [List.takeWhile_cons, if_neg (by rw [h x rfl]; simp)]; rfl
 | x :: l, k + 1, hk, h1, h2 => by
  have ih : aheadK p l = k := aheadK_is (by simpa using hk) (fun i s hi hs => h1 (i + 1) s (by omega) (by simpa using hs)) (fun s hs => h2 s (by simpa using hs))
  unfold aheadK at ih ⊢
  rw [List.takeWhile_cons, if_pos (h1 0 x (by omega) rfl), List.length_cons, ih]
def putIn {α : Type} (nm : α → List UInt8) (l : List α) (x : α) : List α := l.take (aheadK (fun t => Op.bytesLess (nm t) (nm x)) l) ++ x :: (match l[aheadK (fun t => Op.bytesLess (nm t) (nm x)) l]? with
 | some t => if (nm t == nm x) = true then l.drop (aheadK (fun t => Op.bytesLess (nm t) (nm x)) l + 1) else l.drop (aheadK (fun t => Op.bytesLess (nm t) (nm x)) l)
 | none => l.drop (aheadK (fun t => Op.bytesLess (nm t) (nm x)) l))
theorem putIn_same {α : Type} {nm : α → List UInt8} {l : List α} {x t : α} {k : Nat} (h : aheadK (fun t => Op.bytesLess (nm t) (nm x)) l = k) (ht : l[k]? = some t) (hq : (nm t == nm x) = true) : putIn nm l x = l.take k ++ x :: l.drop (k + 1) := by
 unfold putIn
 rw [h, ht]
 simp only
 rw [if_pos hq]
theorem putIn_other {α : Type} {nm : α → List UInt8} {l : List α} {x t : α} {k : Nat} (h : aheadK (fun t => Op.bytesLess (nm t) (nm x)) l = k) (ht : l[k]? = some t) (hq : (nm t == nm x) = false) : putIn nm l x = l.take k ++ x :: l.drop k := by
 unfold putIn
 rw [h, ht]
 simp only
 rw [if_neg (by rw [hq]; simp)]
theorem putIn_end {α : Type} {nm : α → List UInt8} {l : List α} {x : α} {k : Nat} (h : aheadK (fun t => Op.bytesLess (nm t) (nm x)) l = k) (ht : l[k]? = none) : putIn nm l x = l.take k ++ x :: l.drop k := by
 unfold putIn
 rw [h, ht]
def btNm (t : Bt) : List UInt8 := t.name.toList
def raiseB (B : Bk) (nm : ByteArray) (dr : Bool) : Bk := { B with bts := putIn btNm B.bts ⟨nm, dr⟩ }
theorem flat_drop {α : Type} {c : α → List Value} {n : Nat} (hc : ∀ s, (c s).length = n) : ∀ (l : List α) (i : Nat), (l.drop i).flatMap c = (l.flatMap c).drop (i * n)
 | [], i => by simp
 | x :: l, 0 => by simp
 | x :: l, i + 1 => by
  have e : (c x).drop ((i + 1) * n) = [] := List.drop_eq_nil_of_le (by rw [hc, Nat.succ_mul]; omega)
  rw [List.drop_succ_cons, flat_drop hc l i, List.flatMap_cons, List.drop_append, e, List.nil_append, hc, show (i + 1) * n - n = i * n by rw [Nat.succ_mul]; omega]
theorem flat_take {α : Type} {c : α → List Value} {n : Nat} (hc : ∀ s, (c s).length = n) : ∀ (l : List α) (i : Nat), (l.take i).flatMap c = (l.flatMap c).take (i * n)
 | [], i => by simp
 | x :: l, 0 => by simp
 | x :: l, i + 1 => by
  have e : (c x).take ((i + 1) * n) = c x := List.take_of_length_le (by rw [hc, Nat.succ_mul]; omega)
  rw [List.take_succ_cons, List.flatMap_cons, List.flatMap_cons, flat_take hc l i, List.take_append, e, hc, show (i + 1) * n - n = i * n by rw [Nat.succ_mul]; omega]
theorem RowIs.srcDrop {α : Type} {w : World} {e : TypeId} {size g n cap : Nat} {c : α → List Value} {l : List α} (h : RowIs w e size g n cap (l.flatMap c)) (hc : ∀ s, (c s).length = size) (i : Nat) : ∀ j u, ((l.drop i).flatMap c)[j]? = some u → w.cell? ((⟨g, i * size, none⟩ : Addr).add j) = some u := fun j u hu => by
 rw [flat_drop hc, List.getElem?_drop] at hu
 rw [Addr.add_lit]
 exact h.cell hu
theorem RowIs.srcTake {α : Type} {w : World} {e : TypeId} {size g n cap : Nat} {c : α → List Value} {l : List α} (h : RowIs w e size g n cap (l.flatMap c)) (hc : ∀ s, (c s).length = size) (i : Nat) : ∀ j u, ((l.take i).flatMap c)[j]? = some u → w.cell? ((⟨g, 0, none⟩ : Addr).add j) = some u := fun j u hu => by
 rw [flat_take hc] at hu
 rw [Addr.add_lit, Nat.zero_add]
 exact h.cell (by
  rw [List.getElem?_take] at hu
  split at hu
  ·exact hu
  ·cases hu)
end Go.Proofs.YtbceafpodamnfabGreat
