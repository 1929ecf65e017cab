/-
  My own. The map of copies: its keys, its making.
-/
import Derived.Test.YtbceafpodamnfaaZa
import Derived.Test.YtbceafpodamnfaaWv
import Derived.Test.YtbceafpodamnfaaDh
import Derived.Test.YtbceafpodamnfaaZu
namespace Go.Proofs.Ytbceafpodamnfaa
open Go.RowKit Go.Sort Go.Maps

theorem numRow : (61 : TypeId) < Try.prog.types.size := of_decide_eq_true (by kernel_rfl)
theorem numWide : (match Try.prog.underlying 61 with | some (.array _ _) | some (.struct _) => true | _ => false) = true := by kernel_rfl
set_option maxRecDepth 100000 in
theorem numLaw : Keyed Try.prog 61 := Keyed.of_law (deep_law_laid Try.laidOutB (m := 3) (by omega) numRow (by kernel_rfl) numWide)
theorem numCells : Try.prog.cellsOf 61 = 2 := by kernel_rfl
theorem numKey : Try.prog.keyType 61 = true := by kernel_rfl

/-- What a key reads as. -/
def nkey (s : ByteArray) (n : Int) : Lit := .string (keyBytes [.string s.data.toList, .int .i64 n])

theorem nkey_ok (s : ByteArray) (n : Int) (hk : (Lit.int .i64 n).wf = true) (hs : s.size ≤ maxLen) : keyOf Try.prog 61 (.agg #[.string s, .int .i64 n]) = some (nkey s n) := by
  have hf : (Value.agg #[.string s, .int .i64 n]).formed Try.prog 61 = true := by
    simp [Value.formed, Try.underlying61, numCells]
  unfold keyOf
  rw [Try.underlying61]
  simp only [numKey, hf, Bool.and_self, if_true]
  generalize hn : Try.prog.types.size = m
  match m, hn with
  | 0, hn => have := numRow; rw [hn] at this; exact absurd this (Nat.not_lt_zero _)
  | m + 1, _ =>
    simp [Program.keyLits, Try.underlying61, numCells, intCells, stringCells, Try.underlying3, Try.underlying9, Value.cells, hk, hs, nkey]

theorem nkey_inj {n n' : Int} {s s' : ByteArray} (hk : (Lit.int .i64 n).wf = true) (hk' : (Lit.int .i64 n').wf = true) (hs : s.size ≤ maxLen) (hs' : s'.size ≤ maxLen) (h : nkey s n = nkey s' n') : s = s' ∧ n = n' := by
  have h1 := nkey_ok s n hk hs
  have h2 := nkey_ok s' n' hk' hs'
  rw [← h] at h2
  have := numLaw.inj h1 h2
  simpa using this
theorem nkey_isKey (s : ByteArray) (n : Int) : WideAt.IsKeyLit (nkey s n) := trivial

theorem run_makeMap_c (n : Int) (w : World) : (Instr.makeMap 58 (some (.int .i64 n))).run Try.prog w = .ok (.map (some w.heap.size)) (w.alloc (.map #[] 0)) := by
  simp [Instr.makeMap, run_underlying Try.underlying58, asInt, asIntOf]

/-- The map at block b tells of the first k copies where they are. -/
def CopiesAt (w : World) (b : Nat) (B : Bk) (k : Nat) : Prop := ∃ (n : Nat) (D : DataW Unit), n ≤ k ∧ w.ownsMap Try.prog 61 (plainElem Try.prog 3) b n D ∧
  (∀ (x : ByteArray) (m : Int), x.size ≤ maxLen → (Lit.int .i64 m).wf = true → (∀ (i : Nat) c, i < k → B.cps[i]? = some c → ¬ (c.service = x ∧ c.number = m)) → Maps.has D (nkey x m) = false) ∧
  (∀ (i : Nat) c, i < k → B.cps[i]? = some c → Maps.has D (nkey c.service c.number) = true ∧ D.atKey (nkey c.service c.number) (.lit (.int .i64 0)) = .lit (.int .i64 i))

theorem CopiesAt.blk {w w' : World} {b : Nat} {B : Bk} {k : Nat} (h : CopiesAt w b B k) (hb : w'.heap[b]? = w.heap[b]?) : CopiesAt w' b B k := by
  obtain ⟨n, D, hn, ⟨es, clock, he, F, hs, hD⟩, r⟩ := h
  exact ⟨n, D, hn, ⟨es, clock, by rw [hb]; exact he, F, hs, hD⟩, r⟩
theorem CopiesAt.lt {w : World} {b : Nat} {B : Bk} {k : Nat} (h : CopiesAt w b B k) : b < w.heap.size := by
  obtain ⟨n, D, hn, hown, _⟩ := h
  exact hown.lt
theorem CopiesAt.start (w : World) (B : Bk) : CopiesAt (w.alloc (.map #[] 0)) w.heap.size B 0 :=
  ⟨0, .map [], Nat.le_refl _, World.ownsMap_made w _ _ _, fun _ _ _ _ _ => rfl, fun i s hi => absurd hi (by omega)⟩

theorem CopiesAt.step {w' : World} {b : Nat} {B : Bk} {k n : Nat} {D : DataW Unit} {s : Cp} (hz : ∀ s ∈ B.cps, s.service.size ≤ maxLen ∧ s.berth.size ≤ maxLen) (hw : wfC B) (hu : uniqC B) (hsk : B.cps[k]? = some s)
    (hn : n ≤ k) (h1 : ∀ (x : ByteArray) (m : Int), x.size ≤ maxLen → (Lit.int .i64 m).wf = true → (∀ (i : Nat) c, i < k → B.cps[i]? = some c → ¬ (c.service = x ∧ c.number = m)) → Maps.has D (nkey x m) = false)
    (h2 : ∀ (i : Nat) c, i < k → B.cps[i]? = some c → Maps.has D (nkey c.service c.number) = true ∧ D.atKey (nkey c.service c.number) (.lit (.int .i64 0)) = .lit (.int .i64 i))
    (hD : IsMap D)
    (hown : w'.ownsMap Try.prog 61 (plainElem Try.prog 3) b (n + 1) (D.put (nkey s.service s.number) (.lit (.int .i64 (k : Int))))) : CopiesAt w' b B (k + 1) := by
  have hss := (hz s (List.mem_of_getElem? hsk)).1
  have hsw := hw s (List.mem_of_getElem? hsk)
  refine ⟨n + 1, _, by omega, hown, fun x m hx hm hno => ?_, fun i t hi ht => ?_⟩
  · rw [has_put_other (fun e => hno k s (by omega) hsk (let ⟨a, b⟩ := nkey_inj hm hsw hx hss e; ⟨a.symm, b.symm⟩))]
    exact h1 x m hx hm fun i t hi ht => hno i t (by omega) ht
  · rcases Nat.lt_or_ge i k with h' | h'
    · have hts := (hz t (List.mem_of_getElem? ht)).1
      have htw := hw t (List.mem_of_getElem? ht)
      have hne : nkey t.service t.number ≠ nkey s.service s.number := fun e => hu i k t s h' ht hsk (nkey_inj htw hsw hts hss e)
      rw [has_put_other hne, atKey_put_other hne]
      exact h2 i t h' ht
    · have e : i = k := by omega
      subst e
      rw [hsk] at ht
      cases ht
      exact ⟨has_put_same hD (nkey_isKey _ _) _, atKey_put_same hD (nkey_isKey _ _) _ _⟩

set_option maxHeartbeats 4000000 in
theorem copyPlaces_any (B : Bk) (a1 a2 a3 : Option Addr) (c1 c2 c3 : Nat) (w : World) (hS : B.small) (hZ : B.sized) (hW : wfC B) (hU : uniqC B) (hB : BkAt w a1 a2 a3 B) :
    Calls Try.prog 23 #[.agg #[.int .i64 B.now, .slice a1 B.svcs.length c1, .slice a2 B.cps.length c2, .slice a3 B.bts.length c3]] w fun e w' => e = .returned (.map (some (w.heap.size + 1))) ∧ CopiesAt w' (w.heap.size + 1) B B.cps.length ∧ Below w.heap.size w w' := by
  obtain ⟨hl1, hl2, hl3⟩ := hS
  have hmm := run_makeMap_c
  obtain ⟨t0, t1, t2⟩ := two_new w (.cells #[.int .i64 B.now, .slice a1 B.svcs.length c1, .slice a2 B.cps.length c2, .slice a3 B.bts.length c3] 27) (.map #[] 0)
  have T0 : Hid _ := t0
  have T1 : Hid (CopiesAt ((w.alloc (.cells #[.int .i64 B.now, .slice a1 B.svcs.length c1, .slice a2 B.cps.length c2, .slice a3 B.bts.length c3] 27)).alloc (.map #[] 0)) (w.heap.size + 1) B 0) := by
    have := CopiesAt.start (w.alloc (.cells #[.int .i64 B.now, .slice a1 B.svcs.length c1, .slice a2 B.cps.length c2, .slice a3 B.bts.length c3] 27)) B
    have e : (w.alloc (.cells #[.int .i64 B.now, .slice a1 B.svcs.length c1, .slice a2 B.cps.length c2, .slice a3 B.bts.length c3] 27)).heap.size = w.heap.size + 1 := by show (w.heap.push _).size = _; simp
    rw [e] at this
    exact this
  clear t0 t1 t2
  go_enter Try.func23, Try.ntmps23
  go_wp2
  clear hmm
  go_loopw [13] (fun iv wr => ∃ k : Nat, k ≤ B.cps.length ∧ iv = .int .i64 k ∧ Below w.heap.size w wr ∧ Hid (CopiesAt wr (w.heap.size + 1) B k)) (fun i _ => B.cps.length - (intOf i).toNat)
  case atStart => exact ⟨0, by omega, rfl, ((Below.refl _ _).alloc (Nat.le_refl _) _).alloc (by simp) _, T1⟩
  case round =>
    obtain ⟨k, hk, rfl, hb, hpl⟩ := hrel
    have hNlt : w.heap.size + 1 < wr.heap.size := hpl.out.lt
    by_cases hlt : k < B.cps.length
    · have hne : B.cps ≠ [] := by intro h; rw [h] at hlt; simp at hlt
      obtain ⟨b, off, ea, hbs, hat⟩ := hB.2.1 hne
      subst ea
      obtain ⟨s, hsk⟩ : ∃ s, B.cps[k]? = some s := ⟨B.cps[k], by simp [hlt]⟩
      have hmem := (hZ.2.2.2.2.1 s (List.mem_of_getElem? hsk)).1
      have hwf := hW s (List.mem_of_getElem? hsk)
      have HWF : Hid _ := hwf
      have HSK : Hid _ := hsk
      have hcs := (hat k s hsk).below hb hbs
      unfold CpAt at hcs
      obtain ⟨x0, x1, x2, x3, x4, x5, x6⟩ := hcs
      obtain ⟨n, D, hn, hown, h1, h2⟩ := hpl.out
      have H1 : Hid _ := h1
      have H2 : Hid _ := h2
      have hnn : n < maxLen := by unfold maxLen; omega
      clear hsk hat hne h1 h2 hwf
      go_wp2_with (at_mapUpdate; refine wpList_mapUpdate_own _ rfl (.tmp 18) (.tmp 23) (.tmp 24) 58 rfl 61 3 numLaw Try.underlying58 (plainElem Try.prog 3) (w.heap.size + 1) n D rfl (hown.alloc _) hnn _ _ _ rfl rfl (nkey_ok s.service s.number HWF.out hmem) _ [] (plainElem_int Try.underlying3 (WalkArith.wf_i64 (by omega))) ?_; intro w1 hown1 hgrow1)
      have hsz : (wr.alloc (.cells #[.string s.service, .int .i64 s.number, .int .i64 s.version, .int .i64 s.image, .int .i64 s.state, .bool s.ending, .string s.berth] 35)).heap.size = wr.heap.size + 1 := by show (wr.heap.push _).size = _; simp
      have hb1 : Below w.heap.size w w1 := (hb.alloc hb.size _).grown hgrow1 (by rw [hsz]; omega) (fun j hj => by cases hj; omega)
      have hpl1 : Hid _ := CopiesAt.step hZ.2.2.2.2.1 hW hU HSK.out hn H1.out H2.out hown.isMap hown1
      go_roundw
      case rel => exact ⟨k + 1, by omega, by go_num, hb1, hpl1⟩
      case measure => simp [intOf]; omega
    · go_wp2
      go_ret
      have hkl : k = B.cps.length := by omega
      subst hkl
      exact ⟨rfl, hpl.out, hb⟩

end Go.Proofs.Ytbceafpodamnfaa
