/-
  My own: Rz, Wq, Wr, Dd, De, Wm, Ws, Wt.
-/
import Derived.Test.YtbceafpodamnfabG00
import Derived.Test.YtbceafpodamnfabG01
import Derived.Maps.OwnSet
import Derived.DeepKeys5
/-
  My own. Rows of structs as one list of cells: read, and made.
-/
namespace Go.Proofs.Ytbceafpodamnfab
open Go.RowKit

theorem flat_len {α : Type} {c : α → List Value} {n : Nat} (hc : ∀ s, (c s).length = n) (l : List α) : (l.flatMap c).length = l.length * n := by
  induction l with
  | nil => simp
  | cons x l ih => rw [List.flatMap_cons, List.length_append, ih, hc, List.length_cons, Nat.succ_mul]; omega

theorem flat_cell {α : Type} {c : α → List Value} {n : Nat} (hc : ∀ s, (c s).length = n) : ∀ (l : List α) (j : Nat) (u : Value), (l.flatMap c)[j]? = some u → ∃ i k s, l[i]? = some s ∧ (c s)[k]? = some u ∧ j = i * n + k
  | [], j, u, h => by simp at h
  | x :: l, j, u, h => by
    rw [List.flatMap_cons] at h
    by_cases hj : j < n
    · rw [List.getElem?_append_left (by rw [hc]; exact hj)] at h
      exact ⟨0, j, x, rfl, h, by omega⟩
    · rw [List.getElem?_append_right (by rw [hc]; omega), hc] at h
      obtain ⟨i, k, s, h1, h2, h3⟩ := flat_cell hc l _ u h
      exact ⟨i + 1, k, s, by simpa using h1, h2, by rw [Nat.succ_mul]; omega⟩

theorem flat_at {α : Type} {c : α → List Value} {n : Nat} (hc : ∀ s, (c s).length = n) : ∀ (l : List α) (i : Nat) (s : α) (k : Nat) (u : Value), l[i]? = some s → (c s)[k]? = some u → (l.flatMap c)[i * n + k]? = some u
  | [], i, s, k, u, h, _ => by simp at h
  | x :: l, 0, s, k, u, h, hu => by
    simp at h
    subst h
    have hk : k < (c x).length := (List.getElem?_eq_some_iff.1 hu).1
    rw [List.flatMap_cons, Nat.zero_mul, Nat.zero_add, List.getElem?_append_left hk]
    exact hu
  | x :: l, i + 1, s, k, u, h, hu => by
    rw [List.flatMap_cons, List.getElem?_append_right (by rw [hc, Nat.succ_mul]; omega), hc, show (i + 1) * n + k - n = i * n + k by rw [Nat.succ_mul]; omega]
    exact flat_at hc l i s k u (by simpa using h) hu

def svcsV (l : List Svc) : List Value := l.flatMap Svc.cells
def cpsV (l : List Cp) : List Value := l.flatMap Cp.cells
def btsV (l : List Bt) : List Value := l.flatMap Bt.cells
theorem svcsV_len (l : List Svc) : (svcsV l).length = l.length * 13 := flat_len (c := Svc.cells) (n := 13) (fun _ => rfl) l
theorem cpsV_len (l : List Cp) : (cpsV l).length = l.length * 7 := flat_len (c := Cp.cells) (n := 7) (fun _ => rfl) l
theorem btsV_len (l : List Bt) : (btsV l).length = l.length * 2 := flat_len (c := Bt.cells) (n := 2) (fun _ => rfl) l
theorem svcsV_one (l : List Svc) : ∀ u ∈ svcsV l, u.oneCell' = true := fun u hu => by
  obtain ⟨s, _, h⟩ := List.mem_flatMap.1 hu
  simp [Svc.cells] at h
  rcases h with rfl | rfl | rfl | rfl | rfl | rfl | rfl | rfl | rfl | rfl | rfl | rfl | rfl <;> rfl
theorem cpsV_one (l : List Cp) : ∀ u ∈ cpsV l, u.oneCell' = true := fun u hu => by
  obtain ⟨s, _, h⟩ := List.mem_flatMap.1 hu
  simp [Cp.cells] at h
  rcases h with rfl | rfl | rfl | rfl | rfl | rfl | rfl <;> rfl
theorem btsV_one (l : List Bt) : ∀ u ∈ btsV l, u.oneCell' = true := fun u hu => by
  obtain ⟨s, _, h⟩ := List.mem_flatMap.1 hu
  simp [Bt.cells] at h
  rcases h with rfl | rfl <;> rfl

theorem SvcAt.get {w : World} {b o : Nat} {s : Svc} (h : SvcAt w b o s) (k : Nat) (u : Value) (hu : s.cells[k]? = some u) : w.cell? ⟨b, o + k, none⟩ = some u := by
  obtain ⟨h0, h1, h2, h3, h4, h5, h6, h7, h8, h9, h10, h11, h12⟩ := h
  match k, hu with
  | 0, hu => obtain rfl := Option.some.inj hu; exact h0
  | 1, hu => obtain rfl := Option.some.inj hu; exact h1
  | 2, hu => obtain rfl := Option.some.inj hu; exact h2
  | 3, hu => obtain rfl := Option.some.inj hu; exact h3
  | 4, hu => obtain rfl := Option.some.inj hu; exact h4
  | 5, hu => obtain rfl := Option.some.inj hu; exact h5
  | 6, hu => obtain rfl := Option.some.inj hu; exact h6
  | 7, hu => obtain rfl := Option.some.inj hu; exact h7
  | 8, hu => obtain rfl := Option.some.inj hu; exact h8
  | 9, hu => obtain rfl := Option.some.inj hu; exact h9
  | 10, hu => obtain rfl := Option.some.inj hu; exact h10
  | 11, hu => obtain rfl := Option.some.inj hu; exact h11
  | 12, hu => obtain rfl := Option.some.inj hu; exact h12
  | k + 13, hu => simp [Svc.cells] at hu
theorem CpAt.get {w : World} {b o : Nat} {s : Cp} (h : CpAt w b o s) (k : Nat) (u : Value) (hu : s.cells[k]? = some u) : w.cell? ⟨b, o + k, none⟩ = some u := by
  obtain ⟨h0, h1, h2, h3, h4, h5, h6⟩ := h
  match k, hu with
  | 0, hu => obtain rfl := Option.some.inj hu; exact h0
  | 1, hu => obtain rfl := Option.some.inj hu; exact h1
  | 2, hu => obtain rfl := Option.some.inj hu; exact h2
  | 3, hu => obtain rfl := Option.some.inj hu; exact h3
  | 4, hu => obtain rfl := Option.some.inj hu; exact h4
  | 5, hu => obtain rfl := Option.some.inj hu; exact h5
  | 6, hu => obtain rfl := Option.some.inj hu; exact h6
  | k + 7, hu => simp [Cp.cells] at hu
theorem BtAt.get {w : World} {b o : Nat} {s : Bt} (h : BtAt w b o s) (k : Nat) (u : Value) (hu : s.cells[k]? = some u) : w.cell? ⟨b, o + k, none⟩ = some u := by
  obtain ⟨h0, h1⟩ := h
  match k, hu with
  | 0, hu => obtain rfl := Option.some.inj hu; exact h0
  | 1, hu => obtain rfl := Option.some.inj hu; exact h1
  | k + 2, hu => simp [Bt.cells] at hu

/-- What 'append' copies from: the cells of a slice that lies there. -/
theorem SlS.src {w : World} {ao : Option Addr} {l : List Svc} (h : SlS w ao l) : l.length ≠ 0 → ∃ ad, ao = some ad ∧ ∀ j u, (svcsV l)[j]? = some u → w.cell? (ad.add j) = some u := fun hn => by
  obtain ⟨b, off, e, _, hat⟩ := h (by intro h; rw [h] at hn; simp at hn)
  refine ⟨_, e, fun j u hu => ?_⟩
  obtain ⟨i, k, s, h1, h2, rfl⟩ := flat_cell (c := Svc.cells) (n := 13) (fun _ => rfl) l j u hu
  have := (hat i s h1).get k u h2
  rw [Nat.add_assoc, ← Addr.add_lit] at this
  exact this
theorem SlC.src {w : World} {ao : Option Addr} {l : List Cp} (h : SlC w ao l) : l.length ≠ 0 → ∃ ad, ao = some ad ∧ ∀ j u, (cpsV l)[j]? = some u → w.cell? (ad.add j) = some u := fun hn => by
  obtain ⟨b, off, e, _, hat⟩ := h (by intro h; rw [h] at hn; simp at hn)
  refine ⟨_, e, fun j u hu => ?_⟩
  obtain ⟨i, k, s, h1, h2, rfl⟩ := flat_cell (c := Cp.cells) (n := 7) (fun _ => rfl) l j u hu
  have := (hat i s h1).get k u h2
  rw [Nat.add_assoc, ← Addr.add_lit] at this
  exact this
theorem SlB.src {w : World} {ao : Option Addr} {l : List Bt} (h : SlB w ao l) : l.length ≠ 0 → ∃ ad, ao = some ad ∧ ∀ j u, (btsV l)[j]? = some u → w.cell? (ad.add j) = some u := fun hn => by
  obtain ⟨b, off, e, _, hat⟩ := h (by intro h; rw [h] at hn; simp at hn)
  refine ⟨_, e, fun j u hu => ?_⟩
  obtain ⟨i, k, s, h1, h2, rfl⟩ := flat_cell (c := Bt.cells) (n := 2) (fun _ => rfl) l j u hu
  have := (hat i s h1).get k u h2
  rw [Nat.add_assoc, ← Addr.add_lit] at this
  exact this

/-- A row that a call has made: read as a slice. -/
theorem RowIs.slS {w : World} {e : TypeId} {g n cap : Nat} {l : List Svc} (h : RowIs w e 13 g n cap (svcsV l)) : SlS w (some ⟨g, 0, none⟩) l := fun _ =>
  ⟨g, 0, rfl, h.lt, fun i s hs => by
    have := fun k u hu => h.cell (flat_at (c := Svc.cells) (n := 13) (fun _ => rfl) l i s k u hs hu)
    unfold SvcAt
    rw [Nat.zero_add]
    exact ⟨this 0 _ rfl, this 1 _ rfl, this 2 _ rfl, this 3 _ rfl, this 4 _ rfl, this 5 _ rfl, this 6 _ rfl, this 7 _ rfl, this 8 _ rfl, this 9 _ rfl, this 10 _ rfl, this 11 _ rfl, this 12 _ rfl⟩⟩
theorem RowIs.slC {w : World} {e : TypeId} {g n cap : Nat} {l : List Cp} (h : RowIs w e 7 g n cap (cpsV l)) : SlC w (some ⟨g, 0, none⟩) l := fun _ =>
  ⟨g, 0, rfl, h.lt, fun i s hs => by
    have := fun k u hu => h.cell (flat_at (c := Cp.cells) (n := 7) (fun _ => rfl) l i s k u hs hu)
    unfold CpAt
    rw [Nat.zero_add]
    exact ⟨this 0 _ rfl, this 1 _ rfl, this 2 _ rfl, this 3 _ rfl, this 4 _ rfl, this 5 _ rfl, this 6 _ rfl⟩⟩
theorem RowIs.slB {w : World} {e : TypeId} {g n cap : Nat} {l : List Bt} (h : RowIs w e 2 g n cap (btsV l)) : SlB w (some ⟨g, 0, none⟩) l := fun _ =>
  ⟨g, 0, rfl, h.lt, fun i s hs => by
    have := fun k u hu => h.cell (flat_at (c := Bt.cells) (n := 2) (fun _ => rfl) l i s k u hs hu)
    unfold BtAt
    rw [Nat.zero_add]
    exact ⟨this 0 _ rfl, this 1 _ rfl⟩⟩

end Go.Proofs.Ytbceafpodamnfab

/-
  My own. The map of places: its keys.
-/
namespace Go.Proofs.Ytbceafpodamnfab
open Go.RowKit Go.Sort Go.Maps

theorem Try.laidOutB : laidOutB Try.prog = true := by kernel_rfl
theorem thingRow : (107 : TypeId) < Try.prog.types.size := of_decide_eq_true (by kernel_rfl)
theorem thingWide : (match Try.prog.underlying 107 with | some (.array _ _) | some (.struct _) => true | _ => false) = true := by kernel_rfl
set_option maxRecDepth 100000 in
theorem thingLaw : Keyed Try.prog 107 := Keyed.of_law (deep_law_laid Try.laidOutB (m := 3) (by omega) thingRow (by kernel_rfl) thingWide)
theorem thingCells : Try.prog.cellsOf 107 = 2 := by kernel_rfl
theorem thingKey : Try.prog.keyType 107 = true := by kernel_rfl
theorem intCells : Try.prog.cellsOf 3 = 1 := by kernel_rfl
theorem stringCells : Try.prog.cellsOf 9 = 1 := by kernel_rfl
theorem zeroInt (w : World) : (zeroValue 3).run Try.prog w = .ok (.int .i64 0) w := by kernel_rfl

/-- What a key reads as. -/
def key (kd : Int) (s : ByteArray) : Lit := .string (keyBytes [.int .i64 kd, .string s.data.toList])

theorem key_ok (kd : Int) (s : ByteArray) (hk : (Lit.int .i64 kd).wf = true) (hs : s.size ≤ maxLen) : keyOf Try.prog 107 (.agg #[.int .i64 kd, .string s]) = some (key kd s) := by
  have hf : (Value.agg #[.int .i64 kd, .string s]).formed Try.prog 107 = true := by
    simp [Value.formed, Try.underlying107, thingCells]
  unfold keyOf
  rw [Try.underlying107]
  simp only [thingKey, hf, Bool.and_self, if_true]
  generalize hn : Try.prog.types.size = n
  match n, hn with
  | 0, hn => have := thingRow; rw [hn] at this; exact absurd this (Nat.not_lt_zero _)
  | n + 1, _ =>
    simp [Program.keyLits, Try.underlying107, thingCells, intCells, stringCells, Try.underlying3, Try.underlying9, Value.cells, hk, hs, key]

theorem key_inj {kd kd' : Int} {s s' : ByteArray} (hk : (Lit.int .i64 kd).wf = true) (hk' : (Lit.int .i64 kd').wf = true) (hs : s.size ≤ maxLen) (hs' : s'.size ≤ maxLen) (h : key kd s = key kd' s') : kd = kd' ∧ s = s' := by
  have h1 := key_ok kd s hk hs
  have h2 := key_ok kd' s' hk' hs'
  rw [← h] at h2
  have := thingLaw.inj h1 h2
  simpa using this

theorem run_makeMap_n (n : Int) (w : World) : (Instr.makeMap 104 (some (.int .i64 n))).run Try.prog w = .ok (.map (some w.heap.size)) (w.alloc (.map #[] 0)) := by
  simp [Instr.makeMap, run_underlying Try.underlying104, asInt, asIntOf]

theorem wf1 : (Lit.int .i64 1).wf = true := by decide
theorem wf2 : (Lit.int .i64 2).wf = true := by decide
theorem key_isKey (kd : Int) (s : ByteArray) : WideAt.IsKeyLit (key kd s) := trivial
theorem key_ne_name {kd : Int} {s s' : ByteArray} (hk : (Lit.int .i64 kd).wf = true) (hs : s.size ≤ maxLen) (hs' : s'.size ≤ maxLen) (h : s ≠ s') : key kd s ≠ key kd s' := fun e => h (key_inj hk hk hs hs' e).2
theorem key_ne_kind {s s' : ByteArray} (hs : s.size ≤ maxLen) (hs' : s'.size ≤ maxLen) : key 1 s ≠ key 2 s' := fun e => absurd (key_inj wf1 wf2 hs hs' e).1 (by decide)

def uniqS (B : Bk) : Prop := ∀ (i j : Nat) s t, i < j → B.svcs[i]? = some s → B.svcs[j]? = some t → s.name ≠ t.name

/-- The map at block b tells of the first ks services and the first kb berths where they are. -/
def PlacesAt (w : World) (b : Nat) (B : Bk) (ks kb : Nat) : Prop := ∃ (n : Nat) (D : DataW Unit), n ≤ ks + kb ∧ w.ownsMap Try.prog 107 (plainElem Try.prog 3) b n D ∧
  (∀ x : ByteArray, x.size ≤ maxLen → (∀ (i : Nat) s, i < ks → B.svcs[i]? = some s → s.name ≠ x) → Maps.has D (key 1 x) = false) ∧
  (∀ (i : Nat) s, i < ks → B.svcs[i]? = some s → Maps.has D (key 1 s.name) = true ∧ D.atKey (key 1 s.name) (.lit (.int .i64 0)) = .lit (.int .i64 i)) ∧
  (∀ x : ByteArray, x.size ≤ maxLen → (∀ (i : Nat) s, i < kb → B.bts[i]? = some s → s.name ≠ x) → Maps.has D (key 2 x) = false) ∧
  (∀ (i : Nat) s, i < kb → B.bts[i]? = some s → Maps.has D (key 2 s.name) = true)

theorem PlacesAt.blk {w w' : World} {b : Nat} {B : Bk} {ks kb : Nat} (h : PlacesAt w b B ks kb) (hb : w'.heap[b]? = w.heap[b]?) : PlacesAt w' b B ks kb := by
  obtain ⟨n, D, hn, ⟨es, clock, he, F, hs, hD⟩, r⟩ := h
  exact ⟨n, D, hn, ⟨es, clock, by rw [hb]; exact he, F, hs, hD⟩, r⟩
theorem PlacesAt.below {w w' : World} {b N : Nat} {B : Bk} {ks kb : Nat} (h : PlacesAt w b B ks kb) (hb : Below N w w') (hN : b < N) : PlacesAt w' b B ks kb := h.blk (hb.block b hN)
theorem PlacesAt.lt {w : World} {b : Nat} {B : Bk} {ks kb : Nat} (h : PlacesAt w b B ks kb) : b < w.heap.size := by
  obtain ⟨n, D, hn, hown, _⟩ := h
  exact hown.lt

theorem PlacesAt.start (w : World) (B : Bk) : PlacesAt (w.alloc (.map #[] 0)) w.heap.size B 0 0 :=
  ⟨0, .map [], Nat.le_refl _, World.ownsMap_made w _ _ _, fun _ _ _ => rfl, fun i s hi => absurd hi (by omega), fun _ _ _ => rfl, fun i s hi => absurd hi (by omega)⟩

theorem PlacesAt.stepS {w' : World} {b : Nat} {B : Bk} {k n : Nat} {D : DataW Unit} {s : Svc} (hz : ∀ s ∈ B.svcs, s.name.size ≤ maxLen) (_hzb : ∀ s ∈ B.bts, s.name.size ≤ maxLen) (hu : uniqS B) (hsk : B.svcs[k]? = some s)
    (hn : n ≤ k + 0) (h1 : ∀ x : ByteArray, x.size ≤ maxLen → (∀ (i : Nat) s, i < k → B.svcs[i]? = some s → s.name ≠ x) → Maps.has D (key 1 x) = false)
    (h2 : ∀ (i : Nat) s, i < k → B.svcs[i]? = some s → Maps.has D (key 1 s.name) = true ∧ D.atKey (key 1 s.name) (.lit (.int .i64 0)) = .lit (.int .i64 i))
    (h3 : ∀ x : ByteArray, x.size ≤ maxLen → (∀ (i : Nat) s, i < 0 → B.bts[i]? = some s → s.name ≠ x) → Maps.has D (key 2 x) = false)
    (hD : IsMap D)
    (hown : w'.ownsMap Try.prog 107 (plainElem Try.prog 3) b (n + 1) (D.put (key 1 s.name) (.lit (.int .i64 (k : Int))))) : PlacesAt w' b B (k + 1) 0 := by
  have hss := hz s (List.mem_of_getElem? hsk)
  refine ⟨n + 1, _, by omega, hown, fun x hx hno => ?_, fun i t hi ht => ?_, fun x hx hno => ?_, fun i t hi => absurd hi (by omega)⟩
  · rw [has_put_other (key_ne_name wf1 hx hss (fun e => hno k s (by omega) hsk e.symm))]
    exact h1 x hx fun i t hi ht => hno i t (by omega) ht
  · rcases Nat.lt_or_ge i k with h' | h'
    · have hts := hz t (List.mem_of_getElem? ht)
      have hne := key_ne_name wf1 hts hss (hu i k t s h' ht hsk)
      rw [has_put_other hne, atKey_put_other hne]
      exact h2 i t h' ht
    · have e : i = k := by omega
      subst e
      rw [hsk] at ht
      cases ht
      exact ⟨has_put_same hD (key_isKey _ _) _, atKey_put_same hD (key_isKey _ _) _ _⟩
  · rw [has_put_other (fun e => key_ne_kind hss hx e.symm)]
    exact h3 x hx fun i t hi => absurd hi (by omega)

theorem PlacesAt.stepB {w' : World} {b : Nat} {B : Bk} {ks k n : Nat} {D : DataW Unit} {s : Bt} (hz : ∀ s ∈ B.svcs, s.name.size ≤ maxLen) (hzb : ∀ s ∈ B.bts, s.name.size ≤ maxLen) (hsk : B.bts[k]? = some s)
    (hn : n ≤ ks + k) (h1 : ∀ x : ByteArray, x.size ≤ maxLen → (∀ (i : Nat) s, i < ks → B.svcs[i]? = some s → s.name ≠ x) → Maps.has D (key 1 x) = false)
    (h2 : ∀ (i : Nat) s, i < ks → B.svcs[i]? = some s → Maps.has D (key 1 s.name) = true ∧ D.atKey (key 1 s.name) (.lit (.int .i64 0)) = .lit (.int .i64 i))
    (h3 : ∀ x : ByteArray, x.size ≤ maxLen → (∀ (i : Nat) s, i < k → B.bts[i]? = some s → s.name ≠ x) → Maps.has D (key 2 x) = false)
    (h4 : ∀ (i : Nat) s, i < k → B.bts[i]? = some s → Maps.has D (key 2 s.name) = true)
    (hD : IsMap D) (d : DataW Unit)
    (hown : w'.ownsMap Try.prog 107 (plainElem Try.prog 3) b (n + 1) (D.put (key 2 s.name) d)) : PlacesAt w' b B ks (k + 1) := by
  have hss := hzb s (List.mem_of_getElem? hsk)
  refine ⟨n + 1, _, by omega, hown, fun x hx hno => ?_, fun i t hi ht => ?_, fun x hx hno => ?_, fun i t hi ht => ?_⟩
  · rw [has_put_other (key_ne_kind hx hss)]
    exact h1 x hx hno
  · have hts := hz t (List.mem_of_getElem? ht)
    rw [has_put_other (key_ne_kind hts hss), atKey_put_other (key_ne_kind hts hss)]
    exact h2 i t hi ht
  · rw [has_put_other (key_ne_name wf2 hx hss (fun e => hno k s (by omega) hsk e.symm))]
    exact h3 x hx fun i t hi ht => hno i t (by omega) ht
  · by_cases he : t.name = s.name
    · rw [he]; exact has_put_same hD (key_isKey _ _) _
    · have hts := hzb t (List.mem_of_getElem? ht)
      rw [has_put_other (key_ne_name wf2 hts hss he)]
      rcases Nat.lt_or_ge i k with h' | h'
      · exact h4 i t h' ht
      · have e : i = k := by omega
        subst e
        rw [hsk] at ht
        cases ht
        exact absurd rfl he

end Go.Proofs.Ytbceafpodamnfab

/-
  My own. The map of places: made.
-/
namespace Go.Proofs.Ytbceafpodamnfab
open Go.RowKit Go.Sort Go.Maps

set_option maxHeartbeats 4000000 in
theorem placesIn_any (B : Bk) (a1 a2 a3 : Option Addr) (c1 c2 c3 : Nat) (w : World) (hS : B.small) (hZ : B.sized) (hU : uniqS B) (hB : BkAt w a1 a2 a3 B) :
    Calls Try.prog 74 #[.agg #[.int .i64 B.now, .slice a1 B.svcs.length c1, .slice a2 B.cps.length c2, .slice a3 B.bts.length c3]] w fun e w' => e = .returned (.map (some (w.heap.size + 1))) ∧ PlacesAt w' (w.heap.size + 1) B B.svcs.length B.bts.length ∧ Below w.heap.size w w' := by
  obtain ⟨hl1, hl2, hl3⟩ := hS
  have hmm := run_makeMap_n
  obtain ⟨t0, t1, t2⟩ := two_new w (.cells #[.int .i64 B.now, .slice a1 B.svcs.length c1, .slice a2 B.cps.length c2, .slice a3 B.bts.length c3] 33) (.map #[] 0)
  have T0 : Hid _ := t0
  have T1 : Hid (PlacesAt ((w.alloc (.cells #[.int .i64 B.now, .slice a1 B.svcs.length c1, .slice a2 B.cps.length c2, .slice a3 B.bts.length c3] 33)).alloc (.map #[] 0)) (w.heap.size + 1) B 0 0) := by
    have := PlacesAt.start (w.alloc (.cells #[.int .i64 B.now, .slice a1 B.svcs.length c1, .slice a2 B.cps.length c2, .slice a3 B.bts.length c3] 33)) B
    have e : (w.alloc (.cells #[.int .i64 B.now, .slice a1 B.svcs.length c1, .slice a2 B.cps.length c2, .slice a3 B.bts.length c3] 33)).heap.size = w.heap.size + 1 := by show (w.heap.push _).size = _; simp
    rw [e] at this
    exact this
  clear t0 t1 t2
  go_enter Try.func74, Try.ntmps74
  go_wp2
  clear hmm
  go_loopw [19] (fun iv wr => ∃ k : Nat, k ≤ B.svcs.length ∧ iv = .int .i64 k ∧ Below w.heap.size w wr ∧ Hid (wr.heap[w.heap.size]? = some (.cells #[.int .i64 B.now, .slice a1 B.svcs.length c1, .slice a2 B.cps.length c2, .slice a3 B.bts.length c3] 33 (0, 0))) ∧ Hid (PlacesAt wr (w.heap.size + 1) B k 0)) (fun i _ => B.svcs.length - (intOf i).toNat)
  case atStart => exact ⟨0, by omega, rfl, ((Below.refl _ _).alloc (Nat.le_refl _) _).alloc (by simp) _, T0, T1⟩
  case round =>
    obtain ⟨k, hk, rfl, hb, hbox, hpl⟩ := hrel
    have hNlt : w.heap.size + 1 < wr.heap.size := hpl.out.lt
    by_cases hlt : k < B.svcs.length
    · have hne : B.svcs ≠ [] := by intro h; rw [h] at hlt; simp at hlt
      obtain ⟨b, off, ea, hbs, hat⟩ := hB.1 hne
      subst ea
      obtain ⟨s, hsk⟩ : ∃ s, B.svcs[k]? = some s := ⟨B.svcs[k], by simp [hlt]⟩
      have hmem := hZ.2.2.2.1 s (List.mem_of_getElem? hsk)
      have HSK : Hid _ := hsk
      have hcs := (hat k s hsk).below hb hbs
      unfold SvcAt at hcs
      obtain ⟨x0, x1, x2, x3, x4, x5, x6, x7, x8, x9, x10, x11, x12⟩ := hcs
      obtain ⟨n, D, hn, hown, h1, h2, h3, h4⟩ := hpl.out
      have H1 : Hid _ := h1
      have H2 : Hid _ := h2
      have H3 : Hid _ := h3
      have hnn : n < maxLen := by unfold maxLen; omega
      clear hsk hat hne h1 h2 h3 h4
      go_wp2_with (at_mapUpdate; refine wpList_mapUpdate_own _ rfl (.tmp 24) (.tmp 27) (.tmp 28) 104 rfl 107 3 thingLaw Try.underlying104 (plainElem Try.prog 3) (w.heap.size + 1) n D rfl (hown.alloc _) hnn _ _ _ rfl rfl (key_ok 1 s.name wf1 hmem) _ [] (plainElem_int Try.underlying3 (WalkArith.wf_i64 (by omega))) ?_; intro w1 hown1 hgrow1)
      have hsz : (wr.alloc (.cells #[.string s.name, .int .i64 s.version, .bool s.gone, .int .i64 s.image, .int .i64 s.want, .int .i64 s.down, .int .i64 s.over, .int .i64 s.next, .int .i64 s.per, .int .i64 s.least, .int .i64 s.most, .int .i64 s.load, .int .i64 s.cool] 57)).heap.size = wr.heap.size + 1 := by show (wr.heap.push _).size = _; simp
      have hb1 : Below w.heap.size w w1 := (hb.alloc hb.size _).grown hgrow1 (by rw [hsz]; omega) (fun j hj => by cases hj; omega)
      have hbox1 : Hid _ := (hgrow1.block w.heap.size (by rw [hsz]; omega) (fun e => by have := Option.some.inj e; omega)).trans (below_blk (below_box wr (.cells #[.string s.name, .int .i64 s.version, .bool s.gone, .int .i64 s.image, .int .i64 s.want, .int .i64 s.down, .int .i64 s.over, .int .i64 s.next, .int .i64 s.per, .int .i64 s.least, .int .i64 s.most, .int .i64 s.load, .int .i64 s.cool] 57)) hbox.out (by omega))
      have hpl1 : Hid _ := PlacesAt.stepS hZ.2.2.2.1 hZ.2.2.2.2.2 hU HSK.out hn H1.out H2.out H3.out hown.isMap hown1
      go_roundw
      case rel => exact ⟨k + 1, by omega, by go_num, hb1, hbox1, hpl1⟩
      case measure => simp [intOf]; omega
    · have hkl : k = B.svcs.length := by omega
      subst hkl
      have e3 := blk_cell hbox.out 3 rfl
      go_wp2
      clear e3
      go_loopw [33] (fun iv wr => ∃ k : Nat, k ≤ B.bts.length ∧ iv = .int .i64 k ∧ Below w.heap.size w wr ∧ Hid (wr.heap[w.heap.size]? = some (.cells #[.int .i64 B.now, .slice a1 B.svcs.length c1, .slice a2 B.cps.length c2, .slice a3 B.bts.length c3] 33 (0, 0))) ∧ Hid (PlacesAt wr (w.heap.size + 1) B B.svcs.length k)) (fun i _ => B.bts.length - (intOf i).toNat)
      case atStart => exact ⟨0, by omega, rfl, hb, hbox, hpl⟩
      case round =>
        clear hb hbox hpl hNlt hlt
        rename_i wr0 _
        obtain ⟨k, hk, rfl, hb, hbox, hpl⟩ := hrel
        have hNlt : w.heap.size + 1 < wr.heap.size := hpl.out.lt
        by_cases hlt : k < B.bts.length
        · have hne : B.bts ≠ [] := by intro h; rw [h] at hlt; simp at hlt
          obtain ⟨b, off, ea, hbs, hat⟩ := hB.2.2 hne
          subst ea
          obtain ⟨s, hsk⟩ : ∃ s, B.bts[k]? = some s := ⟨B.bts[k], by simp [hlt]⟩
          have hmem := hZ.2.2.2.2.2 s (List.mem_of_getElem? hsk)
          have HSK : Hid _ := hsk
          have hcs := (hat k s hsk).below hb hbs
          unfold BtAt at hcs
          obtain ⟨x0, x1⟩ := hcs
          obtain ⟨n, D, hn, hown, h1, h2, h3, h4⟩ := hpl.out
          have H1 : Hid _ := h1
          have H2 : Hid _ := h2
          have H3 : Hid _ := h3
          have H4 : Hid _ := h4
          have hnn : n < maxLen := by unfold maxLen; omega
          clear hsk hat hne h1 h2 h3 h4
          go_wp2_with (at_mapUpdate; refine wpList_mapUpdate_own _ rfl (.tmp 38) (.tmp 41) (.tmp 42) 104 rfl 107 3 thingLaw Try.underlying104 (plainElem Try.prog 3) (w.heap.size + 1) n D rfl (hown.alloc _) hnn _ _ _ rfl rfl (key_ok 2 s.name wf2 hmem) _ [] (plainElem_int Try.underlying3 (WalkArith.wf_i64 (by omega))) ?_; intro w1 hown1 hgrow1)
          have hsz : (wr.alloc (.cells #[.string s.name, .bool s.drain] 94)).heap.size = wr.heap.size + 1 := by show (wr.heap.push _).size = _; simp
          have hb1 : Below w.heap.size w w1 := (hb.alloc hb.size _).grown hgrow1 (by rw [hsz]; omega) (fun j hj => by cases hj; omega)
          have hbox1 : Hid _ := (hgrow1.block w.heap.size (by rw [hsz]; omega) (fun e => by have := Option.some.inj e; omega)).trans (below_blk (below_box wr (.cells #[.string s.name, .bool s.drain] 94)) hbox.out (by omega))
          have hpl1 : Hid _ := PlacesAt.stepB hZ.2.2.2.1 hZ.2.2.2.2.2 HSK.out hn H1.out H2.out H3.out H4.out hown.isMap _ hown1
          go_roundw
          case rel => exact ⟨k + 1, by omega, by go_num, hb1, hbox1, hpl1⟩
          case measure => simp [intOf]; omega
        · go_wp2
          go_ret
          have hkl : k = B.bts.length := by omega
          subst hkl
          exact ⟨rfl, hpl.out, hb⟩

end Go.Proofs.Ytbceafpodamnfab

/-
  My own. Plain data, more: a valid book.
-/
namespace Go.Proofs.Ytbceafpodamnfab
open Go.RowKit

def aheadB (a b : Cp) : Bool := Op.bytesLess a.service.toList b.service.toList || (a.service.toList == b.service.toList && decide (a.number < b.number))
def svcAtB (B : Bk) (k : Nat) : Bool := match B.svcs[k]? with
  | none => true
  | some s => svcB B.now s && (k == 0 || match B.svcs[k - 1]? with | none => true | some p => Op.bytesLess p.name.toList s.name.toList)
def btAtB (B : Bk) (k : Nat) : Bool := match B.bts[k]? with
  | none => true
  | some s => nameB s.name && (k == 0 || match B.bts[k - 1]? with | none => true | some p => Op.bytesLess p.name.toList s.name.toList)
def cpAtB (B : Bk) (k : Nat) : Bool := match B.cps[k]? with
  | none => true
  | some s => cpB B s && (k == 0 || match B.cps[k - 1]? with | none => true | some p => aheadB p s)
def allTo (f : Nat → Bool) (n : Nat) : Bool := (List.range n).all f
def validB (B : Bk) : Bool := inB B.now 0 1000000 && decide (B.svcs.length ≤ 8) && decide (B.cps.length ≤ 200) && decide (B.bts.length ≤ 6) && allTo (svcAtB B) B.svcs.length && allTo (btAtB B) B.bts.length && allTo (cpAtB B) B.cps.length

theorem allTo_yes {f : Nat → Bool} {n : Nat} (h : ∀ i, i < n → f i = true) : allTo f n = true := by
  unfold allTo; rw [List.all_eq_true]; intro i hi; exact h i (List.mem_range.1 hi)
theorem allTo_no {f : Nat → Bool} {n k : Nat} (hk : k < n) (h : f k = false) : allTo f n = false := by
  unfold allTo; rw [List.all_eq_false]; exact ⟨k, List.mem_range.2 hk, by rw [h]; simp⟩
theorem upTo_step {f : Nat → Bool} {k : Nat} (h : ∀ i, i < k → f i = true) (hk : f k = true) : ∀ i, i < k + 1 → f i = true := fun i hi => by
  rcases Nat.lt_or_ge i k with h' | h'
  · exact h i h'
  · rw [show i = k by omega]; exact hk

end Go.Proofs.Ytbceafpodamnfab

/-
  My own. Plain data, more: the program's checks of a service, against the specification's.
-/
namespace Go.Proofs.Ytbceafpodamnfab
open Go.RowKit

def numB (s : Svc) : Bool := inB s.image 1 1000000 && inB s.next 1 1000000 && inB s.want 0 10
def spareB (s : Svc) : Bool := inB s.down 0 10 && inB s.over 0 10 && (s.down != 0 || s.over != 0)
def followB (s : Svc) : Bool := inB s.per 0 1000000 && inB s.load 0 1000000 && inB s.least 0 10 && inB s.most 0 10 && decide (s.least ≤ s.most) && inB s.cool 0 3
def stillB (s : Svc) : Bool := s.per != 0 || (s.least == 0 && s.most == 0 && s.load == 0 && s.cool == 0)

theorem svcB_split (now : Int) (s : Svc) : svcB now s = (inB s.version 1 now && (nameB s.name && numB s && spareB s && followB s && stillB s)) := by
  unfold svcB
  generalize nameB s.name = n
  cases n
  · simp
  · rw [Bool.eq_iff_iff]
    by_cases hp : s.per = 0
    · simp [perB, numB, spareB, followB, stillB, inB, hp]
      omega
    · simp only [perB, numB, spareB, followB, stillB, inB, Bool.and_eq_true, Bool.or_eq_true, decide_eq_true_eq, Bool.not_eq_true', beq_eq_false_iff_ne, bne_iff_ne, beq_iff_eq, ne_eq, true_and, if_neg hp]
      omega

theorem bytesLess_irrefl : ∀ l : List UInt8, Op.bytesLess l l = false
  | [] => rfl
  | a :: x => by simp [Op.bytesLess, bytesLess_irrefl x]
theorem bytesLess_tri : ∀ a b : List UInt8, (Op.bytesLess a b || a == b) = !(Op.bytesLess b a)
  | [], [] => by simp [Op.bytesLess]
  | [], _ :: _ => by simp [Op.bytesLess]
  | _ :: _, [] => by simp [Op.bytesLess]
  | a :: x, b :: y => by
    have ih := bytesLess_tri x y
    simp only [Op.bytesLess]
    rcases Nat.lt_trichotomy a.toNat b.toNat with h | h | h
    · have h1 : a < b := UInt8.lt_iff_toNat_lt.2 h
      have h2 : ¬ b < a := fun h' => by have := UInt8.lt_iff_toNat_lt.1 h'; omega
      have h3 : (b == a) = false := by rw [beq_eq_false_iff_ne]; intro e; rw [e] at h; omega
      simp [h1, h2, h3]
    · have e : a = b := UInt8.toNat_inj.1 h
      subst e
      have h2 : ¬ a < a := fun h' => by have := UInt8.lt_iff_toNat_lt.1 h'; omega
      simp [h2] at ih ⊢
      exact ih
    · have h1 : b < a := UInt8.lt_iff_toNat_lt.2 h
      have h2 : ¬ a < b := fun h' => by have := UInt8.lt_iff_toNat_lt.1 h'; omega
      have h3 : (a == b) = false := by rw [beq_eq_false_iff_ne]; intro e; rw [e] at h; omega
      simp [h1, h2, h3]
theorem bytesLess_trans : ∀ a b c : List UInt8, Op.bytesLess a b = true → Op.bytesLess b c = true → Op.bytesLess a c = true
  | _, [], _, h, _ => by simp [Op.bytesLess] at h
  | _, _ :: _, [], _, h => by simp [Op.bytesLess] at h
  | [], _ :: _, _ :: _, _, _ => by simp [Op.bytesLess]
  | a :: x, b :: y, c :: z, h, k => by
    simp only [Op.bytesLess, Bool.or_eq_true, Bool.and_eq_true, decide_eq_true_eq, beq_iff_eq, UInt8.lt_iff_toNat_lt] at *
    rcases h with h | ⟨rfl, h⟩
    · rcases k with k | ⟨rfl, k⟩
      · exact Or.inl (by omega)
      · exact Or.inl h
    · rcases k with k | ⟨rfl, k⟩
      · exact Or.inl k
      · exact Or.inr ⟨rfl, bytesLess_trans x y z h k⟩

end Go.Proofs.Ytbceafpodamnfab

/-
  My own. The program's checks of a service.
-/
namespace Go.Proofs.Ytbceafpodamnfab
open Go.RowKit Go.Sort

set_option maxHeartbeats 1000000 in
theorem serviceNamed_any (s : Svc) (w : World) (hs : s.name.size ≤ maxLen) :
    Calls Try.prog 94 #[.agg #[.string s.name, .int .i64 s.version, .bool s.gone, .int .i64 s.image, .int .i64 s.want, .int .i64 s.down, .int .i64 s.over, .int .i64 s.next, .int .i64 s.per, .int .i64 s.least, .int .i64 s.most, .int .i64 s.load, .int .i64 s.cool]] w fun e w' => e = .returned (.bool (nameB s.name)) ∧ Below w.heap.size w w' := by
  go_enter Try.func94, Try.ntmps94
  go_wp2_with (first | (go_at_call 100; refine (isName_any _ _ hs).mono ?_; rintro e w' ⟨rfl, rfl⟩))
  all_goals
    go_ret
    exact ⟨ret_bool rfl, below_box _ _⟩

set_option maxHeartbeats 1000000 in
theorem numbersHold_any (s : Svc) (w : World) :
    Calls Try.prog 95 #[.agg #[.string s.name, .int .i64 s.version, .bool s.gone, .int .i64 s.image, .int .i64 s.want, .int .i64 s.down, .int .i64 s.over, .int .i64 s.next, .int .i64 s.per, .int .i64 s.least, .int .i64 s.most, .int .i64 s.load, .int .i64 s.cool]] w fun e w' => e = .returned (.bool (numB s)) ∧ Below w.heap.size w w' := by
  go_enter Try.func95, Try.ntmps95
  go_wp2_with (first | (go_at_call 93; refine (within_any _ _ _ _).mono ?_; rintro e w' ⟨rfl, rfl⟩))
  all_goals
    go_ret
    exact ⟨ret_bool (by simp [numB, *]), below_box _ _⟩

set_option maxHeartbeats 1000000 in
theorem spareHolds_any (s : Svc) (w : World) :
    Calls Try.prog 96 #[.agg #[.string s.name, .int .i64 s.version, .bool s.gone, .int .i64 s.image, .int .i64 s.want, .int .i64 s.down, .int .i64 s.over, .int .i64 s.next, .int .i64 s.per, .int .i64 s.least, .int .i64 s.most, .int .i64 s.load, .int .i64 s.cool]] w fun e w' => e = .returned (.bool (spareB s)) ∧ Below w.heap.size w w' := by
  go_enter Try.func96, Try.ntmps96
  go_wp2_with (first | (go_at_call 93; refine (within_any _ _ _ _).mono ?_; rintro e w' ⟨rfl, rfl⟩))
  all_goals
    go_ret
    exact ⟨ret_bool (by simp [spareB, *] <;> (intro _; rfl)), below_box _ _⟩

set_option maxHeartbeats 1000000 in
theorem followHolds_any (s : Svc) (w : World) :
    Calls Try.prog 97 #[.agg #[.string s.name, .int .i64 s.version, .bool s.gone, .int .i64 s.image, .int .i64 s.want, .int .i64 s.down, .int .i64 s.over, .int .i64 s.next, .int .i64 s.per, .int .i64 s.least, .int .i64 s.most, .int .i64 s.load, .int .i64 s.cool]] w fun e w' => e = .returned (.bool (followB s)) ∧ Below w.heap.size w w' := by
  go_enter Try.func97, Try.ntmps97
  go_wp2_with (first | (go_at_call 93; refine (within_any _ _ _ _).mono ?_; rintro e w' ⟨rfl, rfl⟩))
  all_goals
    go_ret
    exact ⟨ret_bool (by simp [followB, *] <;> (intro h; exfalso; omega)), below_box _ _⟩

set_option maxHeartbeats 1000000 in
theorem stillWithoutPer_any (s : Svc) (w : World) :
    Calls Try.prog 98 #[.agg #[.string s.name, .int .i64 s.version, .bool s.gone, .int .i64 s.image, .int .i64 s.want, .int .i64 s.down, .int .i64 s.over, .int .i64 s.next, .int .i64 s.per, .int .i64 s.least, .int .i64 s.most, .int .i64 s.load, .int .i64 s.cool]] w fun e w' => e = .returned (.bool (stillB s)) ∧ Below w.heap.size w w' := by
  go_enter Try.func98, Try.ntmps98
  go_wp2
  all_goals
    go_ret
    exact ⟨ret_bool (by simp [stillB, *]), below_box _ _⟩

set_option maxHeartbeats 1000000 in
theorem nowHolds_any (B : Bk) (a1 a2 a3 : Option Addr) (c1 c2 c3 : Nat) (w : World) :
    Calls Try.prog 62 #[.agg #[.int .i64 B.now, .slice a1 B.svcs.length c1, .slice a2 B.cps.length c2, .slice a3 B.bts.length c3]] w fun e w' => e = .returned (.bool (inB B.now 0 1000000)) ∧ Below w.heap.size w w' := by
  go_enter Try.func62, Try.ntmps62
  go_wp2_with (go_at_call 93; refine (within_any _ _ _ _).mono ?_; rintro e w' ⟨rfl, rfl⟩)
  go_ret
  exact ⟨rfl, below_box _ _⟩

set_option maxHeartbeats 1000000 in
theorem sizesHold_any (B : Bk) (a1 a2 a3 : Option Addr) (c1 c2 c3 : Nat) (w : World) (hS : B.small) :
    Calls Try.prog 63 #[.agg #[.int .i64 B.now, .slice a1 B.svcs.length c1, .slice a2 B.cps.length c2, .slice a3 B.bts.length c3]] w fun e w' => e = .returned (.bool (decide (B.svcs.length ≤ 8) && decide (B.cps.length ≤ 200) && decide (B.bts.length ≤ 6))) ∧ Below w.heap.size w w' := by
  obtain ⟨hl1, hl2, hl3⟩ := hS
  go_enter Try.func63, Try.ntmps63
  go_wp2
  all_goals
    go_ret
    exact ⟨ret_bool (by rw [Bool.eq_iff_iff]; simp; try omega), below_box _ _⟩

set_option maxHeartbeats 1000000 in
theorem copyAhead_any (a b : Cp) (w : World) :
    Calls Try.prog 101 #[.agg #[.string a.service, .int .i64 a.number, .int .i64 a.version, .int .i64 a.image, .int .i64 a.state, .bool a.ending, .string a.berth], .agg #[.string b.service, .int .i64 b.number, .int .i64 b.version, .int .i64 b.image, .int .i64 b.state, .bool b.ending, .string b.berth]] w fun e w' => e = .returned (.bool (aheadB a b)) ∧ Below w.heap.size w w' := by
  have hfin : Below w.heap.size w ((w.alloc (.cells #[.string a.service, .int .i64 a.number, .int .i64 a.version, .int .i64 a.image, .int .i64 a.state, .bool a.ending, .string a.berth] 72)).alloc (.cells #[.string b.service, .int .i64 b.number, .int .i64 b.version, .int .i64 b.image, .int .i64 b.state, .bool b.ending, .string b.berth] 72)) := ((Below.refl _ _).alloc (Nat.le_refl _) _).alloc (by simp) _
  cases h2 : (a.service.toList == b.service.toList)
  · go_enter Try.func101, Try.ntmps101
    go_wp2
    go_ret
    exact ⟨ret_bool (by simp [aheadB, h2]), hfin⟩
  · have hirr : Hid (Op.bytesLess a.service.toList b.service.toList = false) := by
      unfold Hid
      rw [eq_of_beq h2]
      exact bytesLess_irrefl _
    go_enter Try.func101, Try.ntmps101
    go_wp2
    go_ret
    exact ⟨ret_bool (by simp [aheadB, h2, hirr.out]), hfin⟩

set_option maxHeartbeats 1000000 in
theorem copyHolds_any (c : Cp) (s : Svc) (now : Int) (w : World) :
    Calls Try.prog 102 #[.agg #[.string c.service, .int .i64 c.number, .int .i64 c.version, .int .i64 c.image, .int .i64 c.state, .bool c.ending, .string c.berth], .agg #[.string s.name, .int .i64 s.version, .bool s.gone, .int .i64 s.image, .int .i64 s.want, .int .i64 s.down, .int .i64 s.over, .int .i64 s.next, .int .i64 s.per, .int .i64 s.least, .int .i64 s.most, .int .i64 s.load, .int .i64 s.cool], .int .i64 now] w fun e w' => e = .returned (.bool (cpOk now s c)) ∧ Below w.heap.size w w' := by
  have hfin : Below w.heap.size w ((w.alloc (.cells #[.string c.service, .int .i64 c.number, .int .i64 c.version, .int .i64 c.image, .int .i64 c.state, .bool c.ending, .string c.berth] 72)).alloc (.cells #[.string s.name, .int .i64 s.version, .bool s.gone, .int .i64 s.image, .int .i64 s.want, .int .i64 s.down, .int .i64 s.over, .int .i64 s.next, .int .i64 s.per, .int .i64 s.least, .int .i64 s.most, .int .i64 s.load, .int .i64 s.cool] 57)) := ((Below.refl _ _).alloc (Nat.le_refl _) _).alloc (by simp) _
  go_enter Try.func102, Try.ntmps102
  go_wp2_with (go_at_call 93; refine (within_any _ _ _ _).mono ?_; rintro e w' ⟨rfl, rfl⟩)
  all_goals
    go_ret
    exact ⟨ret_bool (by simp [cpOk, *]), hfin⟩

end Go.Proofs.Ytbceafpodamnfab

/-
  My own. The map of places: asked.
-/
namespace Go.Proofs.Ytbceafpodamnfab
open Go.RowKit Go.Sort Go.Maps

theorem same_name {a b : ByteArray} : (a.toList == b.toList) = true ↔ a = b := by
  rw [beq_iff_eq, ByteArray.toList_eq, ByteArray.toList_eq]
  constructor
  · intro h
    cases a; cases b
    simp only [ByteArray.mk.injEq]
    exact Array.toList_inj.1 h
  · intro h; rw [h]

theorem has_berth {D : DataW Unit} {B : Bk} {x : ByteArray} (hx : x.size ≤ maxLen)
    (h3 : ∀ x : ByteArray, x.size ≤ maxLen → (∀ (i : Nat) s, i < B.bts.length → B.bts[i]? = some s → s.name ≠ x) → Maps.has D (key 2 x) = false)
    (h4 : ∀ (i : Nat) s, i < B.bts.length → B.bts[i]? = some s → Maps.has D (key 2 s.name) = true) : Maps.has D (key 2 x) = B.bts.any fun b => b.name.toList == x.toList := by
  cases h : B.bts.any fun b => b.name.toList == x.toList with
  | true =>
    obtain ⟨s, hs, he⟩ := List.any_eq_true.1 h
    obtain ⟨i, hi, rfl⟩ := List.mem_iff_getElem.1 hs
    have e := same_name.1 he
    rw [← e]
    exact h4 i _ hi (List.getElem?_eq_getElem hi)
  | false =>
    rw [List.any_eq_false] at h
    exact h3 x hx fun i s hi hs e => h s (List.mem_of_getElem? hs) (same_name.2 e)

theorem svcOf_none {B : Bk} {x : ByteArray} (h : svcOf B x = none) : ∀ (i : Nat) s, i < B.svcs.length → B.svcs[i]? = some s → s.name ≠ x := fun i s _ hs e => by
  unfold svcOf at h
  rw [List.find?_eq_none] at h
  exact h s (List.mem_of_getElem? hs) (same_name.2 e)
theorem svcOf_some {B : Bk} {x : ByteArray} {s : Svc} (h : svcOf B x = some s) : ∃ i : Nat, i < B.svcs.length ∧ B.svcs[i]? = some s ∧ s.name = x := by
  unfold svcOf at h
  obtain ⟨i, hi, _⟩ := idxOf_find h
  exact ⟨i, (List.getElem?_eq_some_iff.1 hi).1, hi, same_name.1 (List.find?_some (p := fun s : Svc => s.name.toList == x.toList) h)⟩

set_option maxHeartbeats 1000000 in
theorem berthFits_any (B : Bk) (c : Cp) (b : Nat) (w : World) (hc : c.berth.size ≤ maxLen) (hP : PlacesAt w b B B.svcs.length B.bts.length) :
    Calls Try.prog 103 #[.agg #[.string c.service, .int .i64 c.number, .int .i64 c.version, .int .i64 c.image, .int .i64 c.state, .bool c.ending, .string c.berth], .map (some b)] w fun e w' => e = .returned (.bool (berthOk B.bts c)) ∧ Below w.heap.size w w' := by
  by_cases h5 : c.state = 1
  · have H5 : Hid (c.state = 1) := h5
    have h5' : (c.state == 1) = true := by simp [h5]
    clear h5
    go_enter Try.func103, Try.ntmps103
    go_wp2
    go_ret
    exact ⟨ret_bool (by simp [berthOk, H5.out]), below_box _ _⟩
  · have H5 : Hid (¬ c.state = 1) := h5
    have h5' : (c.state == 1) = false := by simp [h5]
    clear h5
    obtain ⟨n, D, hn, hown, h1, h2, h3, h4⟩ := hP
    have HB : Hid (Maps.has D (key 2 c.berth) = B.bts.any fun b => b.name.toList == c.berth.toList) := has_berth hc h3 h4
    clear h1 h2 h3 h4
    go_enter Try.func103, Try.ntmps103
    go_wp2_with (at_lookup; refine wpList_lookup_own_ok_int _ rfl (.tmp 14) (.tmp 17) 104 rfl 107 3 .i64 thingLaw Try.underlying104 Try.underlying3 (zeroInt _) b n D rfl (hown.alloc _) _ _ rfl (key_ok 2 c.berth wf2 hc) ?_; intro z hat hwz)
    go_ret
    exact ⟨ret_bool (by rw [HB.out]; simp [berthOk, H5.out]), below_box _ _⟩

end Go.Proofs.Ytbceafpodamnfab

/-
  My own. The program's check of the copies (no services).
-/
namespace Go.Proofs.Ytbceafpodamnfab
open Go.RowKit Go.Sort Go.Maps

/-- 'v, ok := m[k]', what is there being known. -/
theorem wpList_lookup_is {H : Type} {P : Program} (w : World) {ops : Array Oper} {rest : List Oper} {o : Oper} {a : Act} {Q : Exit → Act → World → Prop} (hg : o.guard = none) (m x : Operand) (t : TypeId) (hop : o.op = Op.lookup t m x true)
    (k e : TypeId) (q : IntKind) (K : Keyed P k) (ht : P.underlying t = some (.map k e)) (he : P.underlying e = some (.int q)) (hz : (zeroValue e).run P w = .ok (.int q 0) w) (b n : Nat) (D : DataW H)
    (hm : a.eval m = .map (some b)) (hown : w.ownsMap P k (plainElem P e) b n D) (key : Value) (kl : Lit) (hx : a.eval x = key) (hkey : keyOf P k key = some kl)
    (c0 : Int) (bb : Bool) (hat : D.atKey kl (.lit (.int q 0)) = .lit (.int q c0)) (hhas : Maps.has D kl = bb)
    (hK : wpList P ops Q rest (a.put o.dst (.tuple #[.int q c0, .bool bb])) w) : wpList P ops Q (o :: rest) a w :=
  wpList_lookup_own_ok_int w hg m x t hop k e q K ht he hz b n D hm hown key kl hx hkey (fun c hc _ => by
    rw [hat] at hc
    have hcc : c0 = c := by simpa using hc
    subst hcc
    rw [hhas]
    exact hK)

set_option maxHeartbeats 16000000 in
theorem copiesHold_nil (B : Bk) (a1 a2 a3 : Option Addr) (c1 c2 c3 : Nat) (w : World) (hS : B.small) (hZ : B.sized) (hU : uniqS B) (hB : BkAt w a1 a2 a3 B) (hnil : B.svcs = []) :
    Calls Try.prog 66 #[.agg #[.int .i64 B.now, .slice a1 B.svcs.length c1, .slice a2 B.cps.length c2, .slice a3 B.bts.length c3]] w fun e w' => e = .returned (.bool (allTo (cpAtB B) B.cps.length)) ∧ Below w.heap.size w w' := by
  have HNIL : Hid (B.svcs = []) := hnil
  clear hnil
  have hS' := hS
  obtain ⟨hl1, hl2, hl3⟩ := hS'
  have T0 : Hid _ := heap_alloc_new w (.cells #[.int .i64 B.now, .slice a1 B.svcs.length c1, .slice a2 B.cps.length c2, .slice a3 B.bts.length c3] 33)
  have hb0 := below_box w (.cells #[.int .i64 B.now, .slice a1 B.svcs.length c1, .slice a2 B.cps.length c2, .slice a3 B.bts.length c3] 33)
  have hs0 : (w.alloc (.cells #[.int .i64 B.now, .slice a1 B.svcs.length c1, .slice a2 B.cps.length c2, .slice a3 B.bts.length c3] 33)).heap.size = w.heap.size + 1 := by show (w.heap.push _).size = _; simp
  have HS0 : Hid _ := hs0
  clear hs0
  go_enter Try.func66, Try.ntmps66
  go_wp2_with fail
  refine (placesIn_any B _ a2 a3 c1 c2 c3 _ hS hZ hU (hB.below hb0)).mono ?_
  rintro e w0 ⟨rfl, hpl0, hb1⟩
  rw [HS0.out] at hpl0 hb1
  rw [HS0.out]
  have hbb0 := hb0.trans (hb1.mono (by omega))
  have T0' : Hid _ := below_blk hb1 T0.out (by omega)
  have HP0 : Hid _ := hpl0
  have e2 := blk_cell T0'.out 2 rfl
  clear hpl0 hb1
  go_wp2
  clear e2
  go_loopw [13] (fun iv wr => ∃ k : Nat, k ≤ B.cps.length ∧ iv = .int .i64 k ∧ Below w.heap.size w wr ∧ Hid (wr.heap[w.heap.size]? = some (.cells #[.int .i64 B.now, .slice a1 B.svcs.length c1, .slice a2 B.cps.length c2, .slice a3 B.bts.length c3] 33 (0, 0))) ∧ Hid (PlacesAt wr (w.heap.size + 1 + 1) B B.svcs.length B.bts.length) ∧ Hid (∀ i, i < k → cpAtB B i = true)) (fun i _ => B.cps.length - (intOf i).toNat)
  case atStart => exact ⟨0, by omega, rfl, hbb0, T0', HP0, fun i hi => absurd hi (by omega)⟩
  case round =>
    clear hbb0 T0' HP0
    obtain ⟨k, hk, rfl, hb, hbox, hpl, hall⟩ := hrel
    have hNlt : w.heap.size + 1 + 1 < wr.heap.size := hpl.out.lt
    by_cases hlt : k < B.cps.length
    · have hne : B.cps ≠ [] := by intro h; rw [h] at hlt; simp at hlt
      obtain ⟨b, off, ea, hbs, hat⟩ := hB.2.1 hne
      subst ea
      obtain ⟨s, hsk⟩ : ∃ s, B.cps[k]? = some s := ⟨B.cps[k], by simp [hlt]⟩
      have hmem := hZ.2.2.2.2.1 s (List.mem_of_getElem? hsk)
      have HSK : Hid _ := hsk
      have hcs := (hat k s hsk).below hb hbs
      unfold CpAt at hcs
      obtain ⟨x0, x1, x2, x3, x4, x5, x6⟩ := hcs
      have hbr : Below w.heap.size w (wr.alloc (.cells #[.string s.service, .int .i64 s.number, .int .i64 s.version, .int .i64 s.image, .int .i64 s.state, .bool s.ending, .string s.berth] 72)) := hb.alloc hb.size _
      have HSZ : Hid ((wr.alloc (.cells #[.string s.service, .int .i64 s.number, .int .i64 s.version, .int .i64 s.image, .int .i64 s.state, .bool s.ending, .string s.berth] 72)).heap.size = wr.heap.size + 1) := by show (wr.heap.push _).size = _; simp
      have HBX : Hid _ := heap_alloc_new wr (.cells #[.string s.service, .int .i64 s.number, .int .i64 s.version, .int .i64 s.image, .int .i64 s.state, .bool s.ending, .string s.berth] 72)
      have hw1 := below_box wr (.cells #[.string s.service, .int .i64 s.number, .int .i64 s.version, .int .i64 s.image, .int .i64 s.state, .bool s.ending, .string s.berth] 72)
      have hboxr : Hid _ := below_blk hw1 hbox.out (by omega)
      have hplr : Hid (PlacesAt (wr.alloc (.cells #[.string s.service, .int .i64 s.number, .int .i64 s.version, .int .i64 s.image, .int .i64 s.state, .bool s.ending, .string s.berth] 72)) (w.heap.size + 1 + 1) B B.svcs.length B.bts.length) := hpl.out.below hw1 hNlt
      clear hsk
      by_cases hk0 : k = 0
      · have HK0 : Hid (k = 0) := hk0
        have hz : decide (0 < k) = false := by simp; omega
        clear hk0 hat hne
        go_wp2
        clear x0 x1 x2 x3 x4 x5 x6
        refine wp_region_quiet_below (by kernel_rfl) (by kernel_rfl) ?_
        repeat (first | go_big_quiet_step (fail) | quiet_step (fail))
        refine wpQuiet_nil ?_
        intro w2 hw'
        obtain ⟨⟨dq, osq⟩, hw''⟩ := hw'
        have hb2 : Below (wr.alloc (.cells #[.string s.service, .int .i64 s.number, .int .i64 s.version, .int .i64 s.image, .int .i64 s.state, .bool s.ending, .string s.berth] 72)).heap.size (wr.alloc (.cells #[.string s.service, .int .i64 s.number, .int .i64 s.version, .int .i64 s.image, .int .i64 s.state, .bool s.ending, .string s.berth] 72)) w2 := by rw [hw'']; exact below_regrown _ _ _
        clear hw''
        have hbr2 := hbr.trans (hb2.mono hbr.size)
        have bxr : Hid _ := below_blk hb2 HBX.out (by rw [HSZ.out]; omega)
        have box2 : Hid _ := below_blk hb2 hboxr.out (by rw [HSZ.out]; omega)
        have pl2 : Hid (PlacesAt w2 (w.heap.size + 1 + 1) B B.svcs.length B.bts.length) := hplr.out.below hb2 (by rw [HSZ.out]; omega)
        have hz2 : wr.heap.size < w2.heap.size := by have := hb2.size; rw [HSZ.out] at this; omega
        have r0 := blk_cell bxr.out 0 rfl
        obtain ⟨n, D, hn, hown2, h1, h2, h3, h4⟩ := pl2.out
        have H1 : Hid _ := h1
        have H2 : Hid _ := h2
        clear h1 h2 h3 h4
        have hf : svcOf B s.service = none := by unfold svcOf; rw [HNIL.out]; rfl
        have HNO : Hid (cpAtB B k = false) := by unfold Hid cpAtB; rw [HSK.out]; simp [cpB, hf]
        have HH : Hid (Maps.has D (key 1 s.service) = false) := H1.out s.service hmem.1 (svcOf_none hf)
        have HA : Hid (D.atKey (key 1 s.service) (.lit (.int .i64 0)) = .lit (.int .i64 0)) := atKey_of_not_has HH.out _
        go_wp2_with (at_lookup; refine wpList_lookup_is _ rfl (.tmp 32) (.tmp 35) 104 rfl 107 3 .i64 thingLaw Try.underlying104 Try.underlying3 (zeroInt _) (w.heap.size + 1 + 1) n D rfl hown2 _ _ rfl (key_ok 1 s.service wf1 hmem.1) 0 false HA.out HH.out ?_)
        refine wp_region_quiet_below (by kernel_rfl) (by kernel_rfl) ?_
        repeat (first | go_big_quiet_step (fail) | quiet_step (fail))
        refine wpQuiet_nil ?_
        intro w3 hw'
        obtain ⟨⟨dq, osq⟩, hw''⟩ := hw'
        have hb3 : Below w2.heap.size w2 w3 := by rw [hw'']; exact below_regrown _ _ _
        clear hw''
        go_wp2
        go_ret
        exact ⟨ret_bool (allTo_no hlt HNO.out).symm, hbr2.trans (hb3.mono hbr2.size)⟩
      obtain ⟨k', rfl⟩ : ∃ k', k = k' + 1 := ⟨k - 1, by omega⟩
      clear hk0
      obtain ⟨p, hpk⟩ : ∃ p, B.cps[k']? = some p := ⟨B.cps[k']'(by omega), by rw [List.getElem?_eq_getElem]⟩
      have HPK : Hid _ := hpk
      obtain ⟨y0, y1, y2, y3, y4, y5, y6⟩ := ((hat k' p hpk).below (hb.trans (hw1.mono hb.size)) hbs).grown
      have gx0 := gcell HBX.out 0 rfl
      have gx1 := gcell HBX.out 1 rfl
      have gx2 := gcell HBX.out 2 rfl
      have gx3 := gcell HBX.out 3 rfl
      have gx4 := gcell HBX.out 4 rfl
      have gx5 := gcell HBX.out 5 rfl
      have gx6 := gcell HBX.out 6 rfl
      have gb2 := gcell hboxr.out 2 rfl
      clear hpk hat hne
      cases hle : aheadB p s
      · have HNO : Hid (cpAtB B (k' + 1) = false) := by unfold Hid cpAtB; rw [HSK.out]; simp [HPK.out, hle]
        go_wp2
        clear x0 x1 x2 x3 x4 x5 x6
        refine wp_region_quiet_below (by kernel_rfl) (by kernel_rfl) ?_
        repeat (first | go_big_quiet_step (exact Calls.regrown_of (copyAhead_any p s _)) | quiet_step (exact Calls.regrown_of (copyAhead_any p s _)))
        refine wpQuiet_nil ?_
        intro w2 hw'
        obtain ⟨⟨dq, osq⟩, hw''⟩ := hw'
        have hb2 : Below (wr.alloc (.cells #[.string s.service, .int .i64 s.number, .int .i64 s.version, .int .i64 s.image, .int .i64 s.state, .bool s.ending, .string s.berth] 72)).heap.size (wr.alloc (.cells #[.string s.service, .int .i64 s.number, .int .i64 s.version, .int .i64 s.image, .int .i64 s.state, .bool s.ending, .string s.berth] 72)) w2 := by rw [hw'']; exact below_regrown _ _ _
        clear hw''
        go_wp2
        go_ret
        exact ⟨ret_bool (allTo_no hlt HNO.out).symm, hbr.trans (hb2.mono hbr.size)⟩
      · have HLE : Hid (aheadB p s = true) := hle
        go_wp2
        clear x0 x1 x2 x3 x4 x5 x6
        refine wp_region_quiet_below (by kernel_rfl) (by kernel_rfl) ?_
        repeat (first | go_big_quiet_step (exact Calls.regrown_of (copyAhead_any p s _)) | quiet_step (exact Calls.regrown_of (copyAhead_any p s _)))
        refine wpQuiet_nil ?_
        intro w2 hw'
        obtain ⟨⟨dq, osq⟩, hw''⟩ := hw'
        have hb2 : Below (wr.alloc (.cells #[.string s.service, .int .i64 s.number, .int .i64 s.version, .int .i64 s.image, .int .i64 s.state, .bool s.ending, .string s.berth] 72)).heap.size (wr.alloc (.cells #[.string s.service, .int .i64 s.number, .int .i64 s.version, .int .i64 s.image, .int .i64 s.state, .bool s.ending, .string s.berth] 72)) w2 := by rw [hw'']; exact below_regrown _ _ _
        clear hw''
        clear gx0 gx1 gx2 gx3 gx4 gx5 gx6 gb2 hle y0 y1 y2 y3 y4 y5 y6
        have hbr2 := hbr.trans (hb2.mono hbr.size)
        have bxr : Hid _ := below_blk hb2 HBX.out (by rw [HSZ.out]; omega)
        have box2 : Hid _ := below_blk hb2 hboxr.out (by rw [HSZ.out]; omega)
        have pl2 : Hid (PlacesAt w2 (w.heap.size + 1 + 1) B B.svcs.length B.bts.length) := hplr.out.below hb2 (by rw [HSZ.out]; omega)
        have hz2 : wr.heap.size < w2.heap.size := by have := hb2.size; rw [HSZ.out] at this; omega
        have r0 := blk_cell bxr.out 0 rfl
        obtain ⟨n, D, hn, hown2, h1, h2, h3, h4⟩ := pl2.out
        have H1 : Hid _ := h1
        have H2 : Hid _ := h2
        clear h1 h2 h3 h4
        have hf : svcOf B s.service = none := by unfold svcOf; rw [HNIL.out]; rfl
        have HNO : Hid (cpAtB B (k' + 1) = false) := by unfold Hid cpAtB; rw [HSK.out]; simp [cpB, hf]
        have HH : Hid (Maps.has D (key 1 s.service) = false) := H1.out s.service hmem.1 (svcOf_none hf)
        have HA : Hid (D.atKey (key 1 s.service) (.lit (.int .i64 0)) = .lit (.int .i64 0)) := atKey_of_not_has HH.out _
        go_wp2_with (at_lookup; refine wpList_lookup_is _ rfl (.tmp 32) (.tmp 35) 104 rfl 107 3 .i64 thingLaw Try.underlying104 Try.underlying3 (zeroInt _) (w.heap.size + 1 + 1) n D rfl hown2 _ _ rfl (key_ok 1 s.service wf1 hmem.1) 0 false HA.out HH.out ?_)
        refine wp_region_quiet_below (by kernel_rfl) (by kernel_rfl) ?_
        repeat (first | go_big_quiet_step (fail) | quiet_step (fail))
        refine wpQuiet_nil ?_
        intro w3 hw'
        obtain ⟨⟨dq, osq⟩, hw''⟩ := hw'
        have hb3 : Below w2.heap.size w2 w3 := by rw [hw'']; exact below_regrown _ _ _
        clear hw''
        go_wp2
        go_ret
        exact ⟨ret_bool (allTo_no hlt HNO.out).symm, hbr2.trans (hb3.mono hbr2.size)⟩
    · go_wp2
      go_ret
      exact ⟨ret_bool (allTo_yes fun i hi => hall.out i (by omega)).symm, hb⟩

end Go.Proofs.Ytbceafpodamnfab
