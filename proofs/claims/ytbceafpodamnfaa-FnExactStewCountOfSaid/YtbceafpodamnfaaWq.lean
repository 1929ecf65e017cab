/-
  My own. The map of places: its keys.
-/
import Derived.Test.YtbceafpodamnfaaWk
import Derived.Maps.OwnSet
import Derived.DeepKeys5
namespace Go.Proofs.Ytbceafpodamnfaa
open Go.RowKit Go.Sort Go.Maps

theorem Try.laidOutB : laidOutB Try.prog = true := by kernel_rfl
theorem thingRow : (67 : TypeId) < Try.prog.types.size := of_decide_eq_true (by kernel_rfl)
theorem thingWide : (match Try.prog.underlying 67 with | some (.array _ _) | some (.struct _) => true | _ => false) = true := by kernel_rfl
set_option maxRecDepth 100000 in
theorem thingLaw : Keyed Try.prog 67 := Keyed.of_law (deep_law_laid Try.laidOutB (m := 3) (by omega) thingRow (by kernel_rfl) thingWide)
theorem thingCells : Try.prog.cellsOf 67 = 2 := by kernel_rfl
theorem thingKey : Try.prog.keyType 67 = true := by kernel_rfl
theorem intCells : Try.prog.cellsOf 3 = 1 := by kernel_rfl
theorem stringCells : Try.prog.cellsOf 9 = 1 := by kernel_rfl
theorem zeroInt (w : World) : (zeroValue 3).run Try.prog w = .ok (.int .i64 0) w := by kernel_rfl

/-- What a key reads as. -/
def key (kd : Int) (s : ByteArray) : Lit := .string (keyBytes [.int .i64 kd, .string s.data.toList])

theorem key_ok (kd : Int) (s : ByteArray) (hk : (Lit.int .i64 kd).wf = true) (hs : s.size ≤ maxLen) : keyOf Try.prog 67 (.agg #[.int .i64 kd, .string s]) = some (key kd s) := by
  have hf : (Value.agg #[.int .i64 kd, .string s]).formed Try.prog 67 = true := by
    simp [Value.formed, Try.underlying67, thingCells]
  unfold keyOf
  rw [Try.underlying67]
  simp only [thingKey, hf, Bool.and_self, if_true]
  generalize hn : Try.prog.types.size = n
  match n, hn with
  | 0, hn => have := thingRow; rw [hn] at this; exact absurd this (Nat.not_lt_zero _)
  | n + 1, _ =>
    simp [Program.keyLits, Try.underlying67, thingCells, intCells, stringCells, Try.underlying3, Try.underlying9, Value.cells, hk, hs, key]

theorem key_inj {kd kd' : Int} {s s' : ByteArray} (hk : (Lit.int .i64 kd).wf = true) (hk' : (Lit.int .i64 kd').wf = true) (hs : s.size ≤ maxLen) (hs' : s'.size ≤ maxLen) (h : key kd s = key kd' s') : kd = kd' ∧ s = s' := by
  have h1 := key_ok kd s hk hs
  have h2 := key_ok kd' s' hk' hs'
  rw [← h] at h2
  have := thingLaw.inj h1 h2
  simpa using this

theorem run_makeMap_n (n : Int) (w : World) : (Instr.makeMap 64 (some (.int .i64 n))).run Try.prog w = .ok (.map (some w.heap.size)) (w.alloc (.map #[] 0)) := by
  simp [Instr.makeMap, run_underlying Try.underlying64, asInt, asIntOf]

theorem wf1 : (Lit.int .i64 1).wf = true := by decide
theorem wf2 : (Lit.int .i64 2).wf = true := by decide
theorem key_isKey (kd : Int) (s : ByteArray) : WideAt.IsKeyLit (key kd s) := trivial
theorem key_ne_name {kd : Int} {s s' : ByteArray} (hk : (Lit.int .i64 kd).wf = true) (hs : s.size ≤ maxLen) (hs' : s'.size ≤ maxLen) (h : s ≠ s') : key kd s ≠ key kd s' := fun e => h (key_inj hk hk hs hs' e).2
theorem key_ne_kind {s s' : ByteArray} (hs : s.size ≤ maxLen) (hs' : s'.size ≤ maxLen) : key 1 s ≠ key 2 s' := fun e => absurd (key_inj wf1 wf2 hs hs' e).1 (by decide)

def uniqS (B : Bk) : Prop := ∀ (i j : Nat) s t, i < j → B.svcs[i]? = some s → B.svcs[j]? = some t → s.name ≠ t.name

/-- The map at block b tells of the first ks services and the first kb berths where they are. -/
def PlacesAt (w : World) (b : Nat) (B : Bk) (ks kb : Nat) : Prop := ∃ (n : Nat) (D : DataW Unit), n ≤ ks + kb ∧ w.ownsMap Try.prog 67 (plainElem Try.prog 3) b n D ∧
  (∀ x : ByteArray, x.size ≤ maxLen → (∀ (i : Nat) s, i < ks → B.svcs[i]? = some s → s.name ≠ x) → Maps.has D (key 1 x) = false) ∧
  (∀ (i : Nat) s, i < ks → B.svcs[i]? = some s → Maps.has D (key 1 s.name) = true ∧ D.atKey (key 1 s.name) (.lit (.int .i64 0)) = .lit (.int .i64 i)) ∧
  (∀ x : ByteArray, x.size ≤ maxLen → (∀ (i : Nat) s, i < kb → B.bts[i]? = some s → s.name ≠ x) → Maps.has D (key 2 x) = false) ∧
  (∀ (i : Nat) s, i < kb → B.bts[i]? = some s → Maps.has D (key 2 s.name) = true)

theorem PlacesAt.blk {w w' : World} {b : Nat} {B : Bk} {ks kb : Nat} (h : PlacesAt w b B ks kb) (hb : w'.heap[b]? = w.heap[b]?) : PlacesAt w' b B ks kb := by
  obtain ⟨n, D, hn, ⟨es, clock, he, F, hs, hD⟩, r⟩ := h
  exact ⟨n, D, hn, ⟨es, clock, by rw [hb]; exact he, F, hs, hD⟩, r⟩
theorem PlacesAt.below {w w' : World} {b N : Nat} {B : Bk} {ks kb : Nat} (h : PlacesAt w b B ks kb) (hb : Below N w w') (hN : b < N) : PlacesAt w' b B ks kb := h.blk (hb.block b hN)
theorem PlacesAt.lt {w : World} {b : Nat} {B : Bk} {ks kb : Nat} (h : PlacesAt w b B ks kb) : b < w.heap.size := by
  obtain ⟨n, D, hn, hown, _⟩ := h
  exact hown.lt

theorem PlacesAt.start (w : World) (B : Bk) : PlacesAt (w.alloc (.map #[] 0)) w.heap.size B 0 0 :=
  ⟨0, .map [], Nat.le_refl _, World.ownsMap_made w _ _ _, fun _ _ _ => rfl, fun i s hi => absurd hi (by omega), fun _ _ _ => rfl, fun i s hi => absurd hi (by omega)⟩

theorem PlacesAt.stepS {w' : World} {b : Nat} {B : Bk} {k n : Nat} {D : DataW Unit} {s : Svc} (hz : ∀ s ∈ B.svcs, s.name.size ≤ maxLen) (_hzb : ∀ s ∈ B.bts, s.name.size ≤ maxLen) (hu : uniqS B) (hsk : B.svcs[k]? = some s)
    (hn : n ≤ k + 0) (h1 : ∀ x : ByteArray, x.size ≤ maxLen → (∀ (i : Nat) s, i < k → B.svcs[i]? = some s → s.name ≠ x) → Maps.has D (key 1 x) = false)
    (h2 : ∀ (i : Nat) s, i < k → B.svcs[i]? = some s → Maps.has D (key 1 s.name) = true ∧ D.atKey (key 1 s.name) (.lit (.int .i64 0)) = .lit (.int .i64 i))
    (h3 : ∀ x : ByteArray, x.size ≤ maxLen → (∀ (i : Nat) s, i < 0 → B.bts[i]? = some s → s.name ≠ x) → Maps.has D (key 2 x) = false)
    (hD : IsMap D)
    (hown : w'.ownsMap Try.prog 67 (plainElem Try.prog 3) b (n + 1) (D.put (key 1 s.name) (.lit (.int .i64 (k : Int))))) : PlacesAt w' b B (k + 1) 0 := by
  have hss := hz s (List.mem_of_getElem? hsk)
  refine ⟨n + 1, _, by omega, hown, fun x hx hno => ?_, fun i t hi ht => ?_, fun x hx hno => ?_, fun i t hi => absurd hi (by omega)⟩
  · rw [has_put_other (key_ne_name wf1 hx hss (fun e => hno k s (by omega) hsk e.symm))]
    exact h1 x hx fun i t hi ht => hno i t (by omega) ht
  · rcases Nat.lt_or_ge i k with h' | h'
    · have hts := hz t (List.mem_of_getElem? ht)
      have hne := key_ne_name wf1 hts hss (hu i k t s h' ht hsk)
      rw [has_put_other hne, atKey_put_other hne]
      exact h2 i t h' ht
    · have e : i = k := by omega
      subst e
      rw [hsk] at ht
      cases ht
      exact ⟨has_put_same hD (key_isKey _ _) _, atKey_put_same hD (key_isKey _ _) _ _⟩
  · rw [has_put_other (fun e => key_ne_kind hss hx e.symm)]
    exact h3 x hx fun i t hi => absurd hi (by omega)

theorem PlacesAt.stepB {w' : World} {b : Nat} {B : Bk} {ks k n : Nat} {D : DataW Unit} {s : Bt} (hz : ∀ s ∈ B.svcs, s.name.size ≤ maxLen) (hzb : ∀ s ∈ B.bts, s.name.size ≤ maxLen) (hsk : B.bts[k]? = some s)
    (hn : n ≤ ks + k) (h1 : ∀ x : ByteArray, x.size ≤ maxLen → (∀ (i : Nat) s, i < ks → B.svcs[i]? = some s → s.name ≠ x) → Maps.has D (key 1 x) = false)
    (h2 : ∀ (i : Nat) s, i < ks → B.svcs[i]? = some s → Maps.has D (key 1 s.name) = true ∧ D.atKey (key 1 s.name) (.lit (.int .i64 0)) = .lit (.int .i64 i))
    (h3 : ∀ x : ByteArray, x.size ≤ maxLen → (∀ (i : Nat) s, i < k → B.bts[i]? = some s → s.name ≠ x) → Maps.has D (key 2 x) = false)
    (h4 : ∀ (i : Nat) s, i < k → B.bts[i]? = some s → Maps.has D (key 2 s.name) = true)
    (hD : IsMap D) (d : DataW Unit)
    (hown : w'.ownsMap Try.prog 67 (plainElem Try.prog 3) b (n + 1) (D.put (key 2 s.name) d)) : PlacesAt w' b B ks (k + 1) := by
  have hss := hzb s (List.mem_of_getElem? hsk)
  refine ⟨n + 1, _, by omega, hown, fun x hx hno => ?_, fun i t hi ht => ?_, fun x hx hno => ?_, fun i t hi ht => ?_⟩
  · rw [has_put_other (key_ne_kind hx hss)]
    exact h1 x hx hno
  · have hts := hz t (List.mem_of_getElem? ht)
    rw [has_put_other (key_ne_kind hts hss), atKey_put_other (key_ne_kind hts hss)]
    exact h2 i t hi ht
  · rw [has_put_other (key_ne_name wf2 hx hss (fun e => hno k s (by omega) hsk e.symm))]
    exact h3 x hx fun i t hi ht => hno i t (by omega) ht
  · by_cases he : t.name = s.name
    · rw [he]; exact has_put_same hD (key_isKey _ _) _
    · have hts := hzb t (List.mem_of_getElem? ht)
      rw [has_put_other (key_ne_name wf2 hts hss he)]
      rcases Nat.lt_or_ge i k with h' | h'
      · exact h4 i t h' ht
      · have e : i = k := by omega
        subst e
        rw [hsk] at ht
        cases ht
        exact absurd rfl he

end Go.Proofs.Ytbceafpodamnfaa
