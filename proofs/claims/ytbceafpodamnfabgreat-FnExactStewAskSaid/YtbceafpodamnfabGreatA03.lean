/-
  My own: Wp, Wq, Wr, Ws, Wt.
-/
import Derived.Test.YtbceafpodamnfabGreatA02
import Derived.Test.YtbceafpodamnfabGreatA01
import Derived.Maps.OwnSet
import Derived.DeepKeys5
/-
  My own. The program's check of the berths.
-/
namespace Go.Proofs.YtbceafpodamnfabGreat
open Go.RowKit Go.Sort

set_option maxHeartbeats 8000000 in
theorem berthsHold_any (B : Bk) (a1 a2 a3 : Option Addr) (c1 c2 c3 : Nat) (w : World) (hS : B.small) (hZ : B.sized) (hB : BkAt w a1 a2 a3 B) :
    Calls Tryz.prog 69 #[.agg #[.int .i64 B.now, .slice a1 B.svcs.length c1, .slice a2 B.cps.length c2, .slice a3 B.bts.length c3]] w fun e w' => e = .returned (.bool (allTo (btAtB B) B.bts.length)) ∧ Below w.heap.size w w' := by
  obtain ⟨hl1, hl2, hl3⟩ := hS
  have T0 : Hid _ := heap_alloc_new w (.cells #[.int .i64 B.now, .slice a1 B.svcs.length c1, .slice a2 B.cps.length c2, .slice a3 B.bts.length c3] 34)
  go_enter Tryz.func69, Tryz.ntmps69
  go_wp2
  go_loopw [8] (fun iv wr => ∃ k : Nat, k ≤ B.bts.length ∧ iv = .int .i64 k ∧ Below w.heap.size w wr ∧ Hid (wr.heap[w.heap.size]? = some (.cells #[.int .i64 B.now, .slice a1 B.svcs.length c1, .slice a2 B.cps.length c2, .slice a3 B.bts.length c3] 34 (0, 0))) ∧ Hid (∀ i, i < k → btAtB B i = true)) (fun i _ => B.bts.length - (intOf i).toNat)
  case atStart => exact ⟨0, by omega, rfl, below_box _ _, T0, fun i hi => absurd hi (by omega)⟩
  case round =>
    obtain ⟨k, hk, rfl, hb, hbox, hall⟩ := hrel
    have hNlt : w.heap.size < wr.heap.size := (Array.getElem?_eq_some_iff.1 hbox.out).1
    by_cases hlt : k < B.bts.length
    · have hne : B.bts ≠ [] := by intro h; rw [h] at hlt; simp at hlt
      obtain ⟨b, off, ea, hbs, hat⟩ := hB.2.2 hne
      subst ea
      obtain ⟨s, hsk⟩ : ∃ s, B.bts[k]? = some s := ⟨B.bts[k], by simp [hlt]⟩
      have hmem := hZ.2.2.2.2.2 s (List.mem_of_getElem? hsk)
      have HSK : Hid _ := hsk
      have hcs := (hat k s hsk).below hb hbs
      unfold BtAt at hcs
      obtain ⟨x0, x1⟩ := hcs
      have hbr : Below w.heap.size w (wr.alloc (.cells #[.string s.name, .bool s.drain] 86)) := hb.alloc hb.size _
      have HSZ : Hid ((wr.alloc (.cells #[.string s.name, .bool s.drain] 86)).heap.size = wr.heap.size + 1) := by show (wr.heap.push _).size = _; simp
      have HBX : Hid _ := heap_alloc_new wr (.cells #[.string s.name, .bool s.drain] 86)
      have hw1 := below_box wr (.cells #[.string s.name, .bool s.drain] 86)
      have hboxr : Hid _ := below_blk hw1 hbox.out (by omega)
      clear hsk
      by_cases hk0 : k = 0
      · have HK0 : Hid (k = 0) := hk0
        have hz : decide (0 < k) = false := by simp; omega
        clear hk0 hat hne
        go_wp2
        clear x0 x1
        refine wp_region_quiet_below (by kernel_rfl) (by kernel_rfl) ?_
        repeat (first | go_big_quiet_step (fail) | quiet_step (fail))
        refine wpQuiet_nil ?_
        intro w2 hw'
        obtain ⟨⟨dq, osq⟩, hw''⟩ := hw'
        have hb2 : Below (wr.alloc (.cells #[.string s.name, .bool s.drain] 86)).heap.size (wr.alloc (.cells #[.string s.name, .bool s.drain] 86)) w2 := by rw [hw'']; exact below_regrown _ _ _
        clear hw''
        have hbr2 := hbr.trans (hb2.mono hbr.size)
        have bxr : Hid _ := below_blk hb2 HBX.out (by rw [HSZ.out]; omega)
        have box2 : Hid _ := below_blk hb2 hboxr.out (by rw [HSZ.out]; omega)
        have hz2 : wr.heap.size < w2.heap.size := by have := hb2.size; rw [HSZ.out] at this; omega
        have r0 := blk_cell bxr.out 0 rfl
        cases hver : nameB s.name
        · have HNO : Hid (btAtB B k = false) := by unfold Hid btAtB; rw [HSK.out]; simp [hver]
          go_wp2_with (go_at_call 103; refine (isName_any _ _ hmem).mono ?_; rintro e w' ⟨rfl, rfl⟩)
          go_ret
          exact ⟨ret_bool (allTo_no hlt HNO.out).symm, hbr2⟩
        have HYES : Hid (btAtB B k = true) := by unfold Hid btAtB; rw [HSK.out]; simp [hver, HK0.out]
        go_wp2_with (go_at_call 103; refine (isName_any _ _ hmem).mono ?_; rintro e w' ⟨rfl, rfl⟩)
        go_roundw
        case rel => exact ⟨k + 1, by omega, by go_num, hbr2, box2, upTo_step hall.out HYES.out⟩
        case measure => simp [intOf]; omega
      obtain ⟨k', rfl⟩ : ∃ k', k = k' + 1 := ⟨k - 1, by omega⟩
      clear hk0
      obtain ⟨p, hpk⟩ : ∃ p, B.bts[k']? = some p := ⟨B.bts[k']'(by omega), by rw [List.getElem?_eq_getElem]⟩
      have HPK : Hid _ := hpk
      obtain ⟨y0, y1⟩ := ((hat k' p hpk).below (hb.trans (hw1.mono hb.size)) hbs).grown
      have gx0 := gcell HBX.out 0 rfl
      have gb3 := gcell hboxr.out 3 rfl
      have HTRI := bytesLess_tri s.name.toList p.name.toList
      have HT : Hid _ := HTRI
      clear HTRI hpk hat hne
      cases hle : Op.bytesLess p.name.toList s.name.toList
      · have HNO : Hid (btAtB B (k' + 1) = false) := by unfold Hid btAtB; rw [HSK.out]; simp [HPK.out, hle]
        have hle2 : (Op.bytesLess s.name.toList p.name.toList || s.name.toList == p.name.toList) = true := by rw [HT.out, hle]; rfl
        clear hle
        go_wp2
        clear x0 x1
        refine wp_region_quiet_below (by kernel_rfl) (by kernel_rfl) ?_
        repeat (first | go_big_quiet_step (fail) | quiet_step (fail))
        refine wpQuiet_nil ?_
        intro w2 hw'
        obtain ⟨⟨dq, osq⟩, hw''⟩ := hw'
        have hb2 : Below (wr.alloc (.cells #[.string s.name, .bool s.drain] 86)).heap.size (wr.alloc (.cells #[.string s.name, .bool s.drain] 86)) w2 := by rw [hw'']; exact below_regrown _ _ _
        clear hw''
        go_wp2
        go_ret
        exact ⟨ret_bool (allTo_no hlt HNO.out).symm, hbr.trans (hb2.mono hbr.size)⟩
      · have hle2 : (Op.bytesLess s.name.toList p.name.toList || s.name.toList == p.name.toList) = false := by rw [HT.out, hle]; rfl
        have HLE : Hid _ := hle
        clear hle
        go_wp2
        clear x0 x1
        refine wp_region_quiet_below (by kernel_rfl) (by kernel_rfl) ?_
        repeat (first | go_big_quiet_step (fail) | quiet_step (fail))
        refine wpQuiet_nil ?_
        intro w2 hw'
        obtain ⟨⟨dq, osq⟩, hw''⟩ := hw'
        have hb2 : Below (wr.alloc (.cells #[.string s.name, .bool s.drain] 86)).heap.size (wr.alloc (.cells #[.string s.name, .bool s.drain] 86)) w2 := by rw [hw'']; exact below_regrown _ _ _
        clear hw''
        clear gx0 gb3 hle2 y0 y1
        have hbr2 := hbr.trans (hb2.mono hbr.size)
        have bxr : Hid _ := below_blk hb2 HBX.out (by rw [HSZ.out]; omega)
        have box2 : Hid _ := below_blk hb2 hboxr.out (by rw [HSZ.out]; omega)
        have hz2 : wr.heap.size < w2.heap.size := by have := hb2.size; rw [HSZ.out] at this; omega
        have r0 := blk_cell bxr.out 0 rfl
        cases hver : nameB s.name
        · have HNO : Hid (btAtB B (k' + 1) = false) := by unfold Hid btAtB; rw [HSK.out]; simp [hver]
          go_wp2_with (go_at_call 103; refine (isName_any _ _ hmem).mono ?_; rintro e w' ⟨rfl, rfl⟩)
          go_ret
          exact ⟨ret_bool (allTo_no hlt HNO.out).symm, hbr2⟩
        have HYES : Hid (btAtB B (k' + 1) = true) := by unfold Hid btAtB; rw [HSK.out]; simp [hver, HPK.out, HLE.out]
        go_wp2_with (go_at_call 103; refine (isName_any _ _ hmem).mono ?_; rintro e w' ⟨rfl, rfl⟩)
        go_roundw
        case rel => exact ⟨(k' + 1) + 1, by omega, by go_num, hbr2, box2, upTo_step hall.out HYES.out⟩
        case measure => simp [intOf]; omega
    · go_wp2
      go_ret
      exact ⟨ret_bool (allTo_yes fun i hi => hall.out i (by omega)).symm, hb⟩

end Go.Proofs.YtbceafpodamnfabGreat

/-
  My own. The map of places: its keys.
-/
namespace Go.Proofs.YtbceafpodamnfabGreat
open Go.RowKit Go.Sort Go.Maps

theorem Tryz.laidOutB : laidOutB Tryz.prog = true := by kernel_rfl
theorem thingRow : (138 : TypeId) < Tryz.prog.types.size := of_decide_eq_true (by kernel_rfl)
theorem thingWide : (match Tryz.prog.underlying 138 with | some (.array _ _) | some (.struct _) => true | _ => false) = true := by kernel_rfl
set_option maxRecDepth 100000 in
theorem thingLaw : Keyed Tryz.prog 138 := Keyed.of_law (deep_law_laid Tryz.laidOutB (m := 3) (by omega) thingRow (by kernel_rfl) thingWide)
theorem thingCells : Tryz.prog.cellsOf 138 = 2 := by kernel_rfl
theorem thingKey : Tryz.prog.keyType 138 = true := by kernel_rfl
theorem intCells : Tryz.prog.cellsOf 3 = 1 := by kernel_rfl
theorem stringCells : Tryz.prog.cellsOf 9 = 1 := by kernel_rfl
theorem zeroInt (w : World) : (zeroValue 3).run Tryz.prog w = .ok (.int .i64 0) w := by kernel_rfl

/-- What a key reads as. -/
def key (kd : Int) (s : ByteArray) : Lit := .string (keyBytes [.int .i64 kd, .string s.data.toList])

theorem key_ok (kd : Int) (s : ByteArray) (hk : (Lit.int .i64 kd).wf = true) (hs : s.size ≤ maxLen) : keyOf Tryz.prog 138 (.agg #[.int .i64 kd, .string s]) = some (key kd s) := by
  have hf : (Value.agg #[.int .i64 kd, .string s]).formed Tryz.prog 138 = true := by
    simp [Value.formed, Tryz.underlying138, thingCells]
  unfold keyOf
  rw [Tryz.underlying138]
  simp only [thingKey, hf, Bool.and_self, if_true]
  generalize hn : Tryz.prog.types.size = n
  match n, hn with
  | 0, hn => have := thingRow; rw [hn] at this; exact absurd this (Nat.not_lt_zero _)
  | n + 1, _ =>
    simp [Program.keyLits, Tryz.underlying138, thingCells, intCells, stringCells, Tryz.underlying3, Tryz.underlying9, Value.cells, hk, hs, key]

theorem key_inj {kd kd' : Int} {s s' : ByteArray} (hk : (Lit.int .i64 kd).wf = true) (hk' : (Lit.int .i64 kd').wf = true) (hs : s.size ≤ maxLen) (hs' : s'.size ≤ maxLen) (h : key kd s = key kd' s') : kd = kd' ∧ s = s' := by
  have h1 := key_ok kd s hk hs
  have h2 := key_ok kd' s' hk' hs'
  rw [← h] at h2
  have := thingLaw.inj h1 h2
  simpa using this

theorem run_makeMap_n (n : Int) (w : World) : (Instr.makeMap 104 (some (.int .i64 n))).run Tryz.prog w = .ok (.map (some w.heap.size)) (w.alloc (.map #[] 0)) := by
  simp [Instr.makeMap, run_underlying Tryz.underlying104, asInt, asIntOf]

theorem wf1 : (Lit.int .i64 1).wf = true := by decide
theorem wf2 : (Lit.int .i64 2).wf = true := by decide
theorem key_isKey (kd : Int) (s : ByteArray) : WideAt.IsKeyLit (key kd s) := trivial
theorem key_ne_name {kd : Int} {s s' : ByteArray} (hk : (Lit.int .i64 kd).wf = true) (hs : s.size ≤ maxLen) (hs' : s'.size ≤ maxLen) (h : s ≠ s') : key kd s ≠ key kd s' := fun e => h (key_inj hk hk hs hs' e).2
theorem key_ne_kind {s s' : ByteArray} (hs : s.size ≤ maxLen) (hs' : s'.size ≤ maxLen) : key 1 s ≠ key 2 s' := fun e => absurd (key_inj wf1 wf2 hs hs' e).1 (by decide)

def uniqS (B : Bk) : Prop := ∀ (i j : Nat) s t, i < j → B.svcs[i]? = some s → B.svcs[j]? = some t → s.name ≠ t.name

/-- The map at block b tells of the first ks services and the first kb berths where they are. -/
def PlacesAt (w : World) (b : Nat) (B : Bk) (ks kb : Nat) : Prop := ∃ (n : Nat) (D : DataW Unit), n ≤ ks + kb ∧ w.ownsMap Tryz.prog 138 (plainElem Tryz.prog 3) b n D ∧
  (∀ x : ByteArray, x.size ≤ maxLen → (∀ (i : Nat) s, i < ks → B.svcs[i]? = some s → s.name ≠ x) → Maps.has D (key 1 x) = false) ∧
  (∀ (i : Nat) s, i < ks → B.svcs[i]? = some s → Maps.has D (key 1 s.name) = true ∧ D.atKey (key 1 s.name) (.lit (.int .i64 0)) = .lit (.int .i64 i)) ∧
  (∀ x : ByteArray, x.size ≤ maxLen → (∀ (i : Nat) s, i < kb → B.bts[i]? = some s → s.name ≠ x) → Maps.has D (key 2 x) = false) ∧
  (∀ (i : Nat) s, i < kb → B.bts[i]? = some s → Maps.has D (key 2 s.name) = true)

theorem PlacesAt.blk {w w' : World} {b : Nat} {B : Bk} {ks kb : Nat} (h : PlacesAt w b B ks kb) (hb : w'.heap[b]? = w.heap[b]?) : PlacesAt w' b B ks kb := by
  obtain ⟨n, D, hn, ⟨es, clock, he, F, hs, hD⟩, r⟩ := h
  exact ⟨n, D, hn, ⟨es, clock, by rw [hb]; exact he, F, hs, hD⟩, r⟩
theorem PlacesAt.below {w w' : World} {b N : Nat} {B : Bk} {ks kb : Nat} (h : PlacesAt w b B ks kb) (hb : Below N w w') (hN : b < N) : PlacesAt w' b B ks kb := h.blk (hb.block b hN)
theorem PlacesAt.lt {w : World} {b : Nat} {B : Bk} {ks kb : Nat} (h : PlacesAt w b B ks kb) : b < w.heap.size := by
  obtain ⟨n, D, hn, hown, _⟩ := h
  exact hown.lt

theorem PlacesAt.start (w : World) (B : Bk) : PlacesAt (w.alloc (.map #[] 0)) w.heap.size B 0 0 :=
  ⟨0, .map [], Nat.le_refl _, World.ownsMap_made w _ _ _, fun _ _ _ => rfl, fun i s hi => absurd hi (by omega), fun _ _ _ => rfl, fun i s hi => absurd hi (by omega)⟩

theorem PlacesAt.stepS {w' : World} {b : Nat} {B : Bk} {k n : Nat} {D : DataW Unit} {s : Svc} (hz : ∀ s ∈ B.svcs, s.name.size ≤ maxLen) (_hzb : ∀ s ∈ B.bts, s.name.size ≤ maxLen) (hu : uniqS B) (hsk : B.svcs[k]? = some s)
    (hn : n ≤ k + 0) (h1 : ∀ x : ByteArray, x.size ≤ maxLen → (∀ (i : Nat) s, i < k → B.svcs[i]? = some s → s.name ≠ x) → Maps.has D (key 1 x) = false)
    (h2 : ∀ (i : Nat) s, i < k → B.svcs[i]? = some s → Maps.has D (key 1 s.name) = true ∧ D.atKey (key 1 s.name) (.lit (.int .i64 0)) = .lit (.int .i64 i))
    (h3 : ∀ x : ByteArray, x.size ≤ maxLen → (∀ (i : Nat) s, i < 0 → B.bts[i]? = some s → s.name ≠ x) → Maps.has D (key 2 x) = false)
    (hD : IsMap D)
    (hown : w'.ownsMap Tryz.prog 138 (plainElem Tryz.prog 3) b (n + 1) (D.put (key 1 s.name) (.lit (.int .i64 (k : Int))))) : PlacesAt w' b B (k + 1) 0 := by
  have hss := hz s (List.mem_of_getElem? hsk)
  refine ⟨n + 1, _, by omega, hown, fun x hx hno => ?_, fun i t hi ht => ?_, fun x hx hno => ?_, fun i t hi => absurd hi (by omega)⟩
  · rw [has_put_other (key_ne_name wf1 hx hss (fun e => hno k s (by omega) hsk e.symm))]
    exact h1 x hx fun i t hi ht => hno i t (by omega) ht
  · rcases Nat.lt_or_ge i k with h' | h'
    · have hts := hz t (List.mem_of_getElem? ht)
      have hne := key_ne_name wf1 hts hss (hu i k t s h' ht hsk)
      rw [has_put_other hne, atKey_put_other hne]
      exact h2 i t h' ht
    · have e : i = k := by omega
      subst e
      rw [hsk] at ht
      cases ht
      exact ⟨has_put_same hD (key_isKey _ _) _, atKey_put_same hD (key_isKey _ _) _ _⟩
  · rw [has_put_other (fun e => key_ne_kind hss hx e.symm)]
    exact h3 x hx fun i t hi => absurd hi (by omega)

theorem PlacesAt.stepB {w' : World} {b : Nat} {B : Bk} {ks k n : Nat} {D : DataW Unit} {s : Bt} (hz : ∀ s ∈ B.svcs, s.name.size ≤ maxLen) (hzb : ∀ s ∈ B.bts, s.name.size ≤ maxLen) (hsk : B.bts[k]? = some s)
    (hn : n ≤ ks + k) (h1 : ∀ x : ByteArray, x.size ≤ maxLen → (∀ (i : Nat) s, i < ks → B.svcs[i]? = some s → s.name ≠ x) → Maps.has D (key 1 x) = false)
    (h2 : ∀ (i : Nat) s, i < ks → B.svcs[i]? = some s → Maps.has D (key 1 s.name) = true ∧ D.atKey (key 1 s.name) (.lit (.int .i64 0)) = .lit (.int .i64 i))
    (h3 : ∀ x : ByteArray, x.size ≤ maxLen → (∀ (i : Nat) s, i < k → B.bts[i]? = some s → s.name ≠ x) → Maps.has D (key 2 x) = false)
    (h4 : ∀ (i : Nat) s, i < k → B.bts[i]? = some s → Maps.has D (key 2 s.name) = true)
    (hD : IsMap D) (d : DataW Unit)
    (hown : w'.ownsMap Tryz.prog 138 (plainElem Tryz.prog 3) b (n + 1) (D.put (key 2 s.name) d)) : PlacesAt w' b B ks (k + 1) := by
  have hss := hzb s (List.mem_of_getElem? hsk)
  refine ⟨n + 1, _, by omega, hown, fun x hx hno => ?_, fun i t hi ht => ?_, fun x hx hno => ?_, fun i t hi ht => ?_⟩
  · rw [has_put_other (key_ne_kind hx hss)]
    exact h1 x hx hno
  · have hts := hz t (List.mem_of_getElem? ht)
    rw [has_put_other (key_ne_kind hts hss), atKey_put_other (key_ne_kind hts hss)]
    exact h2 i t hi ht
  · rw [has_put_other (key_ne_name wf2 hx hss (fun e => hno k s (by omega) hsk e.symm))]
    exact h3 x hx fun i t hi ht => hno i t (by omega) ht
  · by_cases he : t.name = s.name
    · rw [he]; exact has_put_same hD (key_isKey _ _) _
    · have hts := hzb t (List.mem_of_getElem? ht)
      rw [has_put_other (key_ne_name wf2 hts hss he)]
      rcases Nat.lt_or_ge i k with h' | h'
      · exact h4 i t h' ht
      · have e : i = k := by omega
        subst e
        rw [hsk] at ht
        cases ht
        exact absurd rfl he

end Go.Proofs.YtbceafpodamnfabGreat

/-
  My own. The map of places: made.
-/
namespace Go.Proofs.YtbceafpodamnfabGreat
open Go.RowKit Go.Sort Go.Maps

set_option maxHeartbeats 4000000 in
theorem placesIn_any (B : Bk) (a1 a2 a3 : Option Addr) (c1 c2 c3 : Nat) (w : World) (hS : B.small) (hZ : B.sized) (hU : uniqS B) (hB : BkAt w a1 a2 a3 B) :
    Calls Tryz.prog 71 #[.agg #[.int .i64 B.now, .slice a1 B.svcs.length c1, .slice a2 B.cps.length c2, .slice a3 B.bts.length c3]] w fun e w' => e = .returned (.map (some (w.heap.size + 1))) ∧ PlacesAt w' (w.heap.size + 1) B B.svcs.length B.bts.length ∧ Below w.heap.size w w' := by
  obtain ⟨hl1, hl2, hl3⟩ := hS
  have hmm := run_makeMap_n
  obtain ⟨t0, t1, t2⟩ := two_new w (.cells #[.int .i64 B.now, .slice a1 B.svcs.length c1, .slice a2 B.cps.length c2, .slice a3 B.bts.length c3] 34) (.map #[] 0)
  have T0 : Hid _ := t0
  have T1 : Hid (PlacesAt ((w.alloc (.cells #[.int .i64 B.now, .slice a1 B.svcs.length c1, .slice a2 B.cps.length c2, .slice a3 B.bts.length c3] 34)).alloc (.map #[] 0)) (w.heap.size + 1) B 0 0) := by
    have := PlacesAt.start (w.alloc (.cells #[.int .i64 B.now, .slice a1 B.svcs.length c1, .slice a2 B.cps.length c2, .slice a3 B.bts.length c3] 34)) B
    have e : (w.alloc (.cells #[.int .i64 B.now, .slice a1 B.svcs.length c1, .slice a2 B.cps.length c2, .slice a3 B.bts.length c3] 34)).heap.size = w.heap.size + 1 := by show (w.heap.push _).size = _; simp
    rw [e] at this
    exact this
  clear t0 t1 t2
  go_enter Tryz.func71, Tryz.ntmps71
  go_wp2
  clear hmm
  go_loopw [19] (fun iv wr => ∃ k : Nat, k ≤ B.svcs.length ∧ iv = .int .i64 k ∧ Below w.heap.size w wr ∧ Hid (wr.heap[w.heap.size]? = some (.cells #[.int .i64 B.now, .slice a1 B.svcs.length c1, .slice a2 B.cps.length c2, .slice a3 B.bts.length c3] 34 (0, 0))) ∧ Hid (PlacesAt wr (w.heap.size + 1) B k 0)) (fun i _ => B.svcs.length - (intOf i).toNat)
  case atStart => exact ⟨0, by omega, rfl, ((Below.refl _ _).alloc (Nat.le_refl _) _).alloc (by simp) _, T0, T1⟩
  case round =>
    obtain ⟨k, hk, rfl, hb, hbox, hpl⟩ := hrel
    have hNlt : w.heap.size + 1 < wr.heap.size := hpl.out.lt
    by_cases hlt : k < B.svcs.length
    · have hne : B.svcs ≠ [] := by intro h; rw [h] at hlt; simp at hlt
      obtain ⟨b, off, ea, hbs, hat⟩ := hB.1 hne
      subst ea
      obtain ⟨s, hsk⟩ : ∃ s, B.svcs[k]? = some s := ⟨B.svcs[k], by simp [hlt]⟩
      have hmem := hZ.2.2.2.1 s (List.mem_of_getElem? hsk)
      have HSK : Hid _ := hsk
      have hcs := (hat k s hsk).below hb hbs
      unfold SvcAt at hcs
      obtain ⟨x0, x1, x2, x3, x4, x5, x6, x7, x8, x9, x10, x11, x12⟩ := hcs
      obtain ⟨n, D, hn, hown, h1, h2, h3, h4⟩ := hpl.out
      have H1 : Hid _ := h1
      have H2 : Hid _ := h2
      have H3 : Hid _ := h3
      have hnn : n < maxLen := by unfold maxLen; omega
      clear hsk hat hne h1 h2 h3 h4
      go_wp2_with (at_mapUpdate; refine wpList_mapUpdate_own _ rfl (.tmp 24) (.tmp 27) (.tmp 28) 104 rfl 138 3 thingLaw Tryz.underlying104 (plainElem Tryz.prog 3) (w.heap.size + 1) n D rfl (hown.alloc _) hnn _ _ _ rfl rfl (key_ok 1 s.name wf1 hmem) _ [] (plainElem_int Tryz.underlying3 (WalkArith.wf_i64 (by omega))) ?_; intro w1 hown1 hgrow1)
      have hsz : (wr.alloc (.cells #[.string s.name, .int .i64 s.version, .bool s.gone, .int .i64 s.image, .int .i64 s.want, .int .i64 s.down, .int .i64 s.over, .int .i64 s.next, .int .i64 s.per, .int .i64 s.least, .int .i64 s.most, .int .i64 s.load, .int .i64 s.cool] 48)).heap.size = wr.heap.size + 1 := by show (wr.heap.push _).size = _; simp
      have hb1 : Below w.heap.size w w1 := (hb.alloc hb.size _).grown hgrow1 (by rw [hsz]; omega) (fun j hj => by cases hj; omega)
      have hbox1 : Hid _ := (hgrow1.block w.heap.size (by rw [hsz]; omega) (fun e => by have := Option.some.inj e; omega)).trans (below_blk (below_box wr (.cells #[.string s.name, .int .i64 s.version, .bool s.gone, .int .i64 s.image, .int .i64 s.want, .int .i64 s.down, .int .i64 s.over, .int .i64 s.next, .int .i64 s.per, .int .i64 s.least, .int .i64 s.most, .int .i64 s.load, .int .i64 s.cool] 48)) hbox.out (by omega))
      have hpl1 : Hid _ := PlacesAt.stepS hZ.2.2.2.1 hZ.2.2.2.2.2 hU HSK.out hn H1.out H2.out H3.out hown.isMap hown1
      go_roundw
      case rel => exact ⟨k + 1, by omega, by go_num, hb1, hbox1, hpl1⟩
      case measure => simp [intOf]; omega
    · have hkl : k = B.svcs.length := by omega
      subst hkl
      have e3 := blk_cell hbox.out 3 rfl
      go_wp2
      clear e3
      go_loopw [33] (fun iv wr => ∃ k : Nat, k ≤ B.bts.length ∧ iv = .int .i64 k ∧ Below w.heap.size w wr ∧ Hid (wr.heap[w.heap.size]? = some (.cells #[.int .i64 B.now, .slice a1 B.svcs.length c1, .slice a2 B.cps.length c2, .slice a3 B.bts.length c3] 34 (0, 0))) ∧ Hid (PlacesAt wr (w.heap.size + 1) B B.svcs.length k)) (fun i _ => B.bts.length - (intOf i).toNat)
      case atStart => exact ⟨0, by omega, rfl, hb, hbox, hpl⟩
      case round =>
        clear hb hbox hpl hNlt hlt
        rename_i wr0 _
        obtain ⟨k, hk, rfl, hb, hbox, hpl⟩ := hrel
        have hNlt : w.heap.size + 1 < wr.heap.size := hpl.out.lt
        by_cases hlt : k < B.bts.length
        · have hne : B.bts ≠ [] := by intro h; rw [h] at hlt; simp at hlt
          obtain ⟨b, off, ea, hbs, hat⟩ := hB.2.2 hne
          subst ea
          obtain ⟨s, hsk⟩ : ∃ s, B.bts[k]? = some s := ⟨B.bts[k], by simp [hlt]⟩
          have hmem := hZ.2.2.2.2.2 s (List.mem_of_getElem? hsk)
          have HSK : Hid _ := hsk
          have hcs := (hat k s hsk).below hb hbs
          unfold BtAt at hcs
          obtain ⟨x0, x1⟩ := hcs
          obtain ⟨n, D, hn, hown, h1, h2, h3, h4⟩ := hpl.out
          have H1 : Hid _ := h1
          have H2 : Hid _ := h2
          have H3 : Hid _ := h3
          have H4 : Hid _ := h4
          have hnn : n < maxLen := by unfold maxLen; omega
          clear hsk hat hne h1 h2 h3 h4
          go_wp2_with (at_mapUpdate; refine wpList_mapUpdate_own _ rfl (.tmp 38) (.tmp 41) (.tmp 42) 104 rfl 138 3 thingLaw Tryz.underlying104 (plainElem Tryz.prog 3) (w.heap.size + 1) n D rfl (hown.alloc _) hnn _ _ _ rfl rfl (key_ok 2 s.name wf2 hmem) _ [] (plainElem_int Tryz.underlying3 (WalkArith.wf_i64 (by omega))) ?_; intro w1 hown1 hgrow1)
          have hsz : (wr.alloc (.cells #[.string s.name, .bool s.drain] 86)).heap.size = wr.heap.size + 1 := by show (wr.heap.push _).size = _; simp
          have hb1 : Below w.heap.size w w1 := (hb.alloc hb.size _).grown hgrow1 (by rw [hsz]; omega) (fun j hj => by cases hj; omega)
          have hbox1 : Hid _ := (hgrow1.block w.heap.size (by rw [hsz]; omega) (fun e => by have := Option.some.inj e; omega)).trans (below_blk (below_box wr (.cells #[.string s.name, .bool s.drain] 86)) hbox.out (by omega))
          have hpl1 : Hid _ := PlacesAt.stepB hZ.2.2.2.1 hZ.2.2.2.2.2 HSK.out hn H1.out H2.out H3.out H4.out hown.isMap _ hown1
          go_roundw
          case rel => exact ⟨k + 1, by omega, by go_num, hb1, hbox1, hpl1⟩
          case measure => simp [intOf]; omega
        · go_wp2
          go_ret
          have hkl : k = B.bts.length := by omega
          subst hkl
          exact ⟨rfl, hpl.out, hb⟩

end Go.Proofs.YtbceafpodamnfabGreat

/-
  My own. The map of places: asked.
-/
namespace Go.Proofs.YtbceafpodamnfabGreat
open Go.RowKit Go.Sort Go.Maps

theorem same_name {a b : ByteArray} : (a.toList == b.toList) = true ↔ a = b := by
  rw [beq_iff_eq, ByteArray.toList_eq, ByteArray.toList_eq]
  constructor
  · intro h
    cases a; cases b
    simp only [ByteArray.mk.injEq]
    exact Array.toList_inj.1 h
  · intro h; rw [h]

theorem has_berth {D : DataW Unit} {B : Bk} {x : ByteArray} (hx : x.size ≤ maxLen)
    (h3 : ∀ x : ByteArray, x.size ≤ maxLen → (∀ (i : Nat) s, i < B.bts.length → B.bts[i]? = some s → s.name ≠ x) → Maps.has D (key 2 x) = false)
    (h4 : ∀ (i : Nat) s, i < B.bts.length → B.bts[i]? = some s → Maps.has D (key 2 s.name) = true) : Maps.has D (key 2 x) = B.bts.any fun b => b.name.toList == x.toList := by
  cases h : B.bts.any fun b => b.name.toList == x.toList with
  | true =>
    obtain ⟨s, hs, he⟩ := List.any_eq_true.1 h
    obtain ⟨i, hi, rfl⟩ := List.mem_iff_getElem.1 hs
    have e := same_name.1 he
    rw [← e]
    exact h4 i _ hi (List.getElem?_eq_getElem hi)
  | false =>
    rw [List.any_eq_false] at h
    exact h3 x hx fun i s hi hs e => h s (List.mem_of_getElem? hs) (same_name.2 e)

theorem svcOf_none {B : Bk} {x : ByteArray} (h : svcOf B x = none) : ∀ (i : Nat) s, i < B.svcs.length → B.svcs[i]? = some s → s.name ≠ x := fun i s _ hs e => by
  unfold svcOf at h
  rw [List.find?_eq_none] at h
  exact h s (List.mem_of_getElem? hs) (same_name.2 e)
theorem svcOf_some {B : Bk} {x : ByteArray} {s : Svc} (h : svcOf B x = some s) : ∃ i : Nat, i < B.svcs.length ∧ B.svcs[i]? = some s ∧ s.name = x := by
  unfold svcOf at h
  obtain ⟨i, hi, _⟩ := idxOf_find h
  exact ⟨i, (List.getElem?_eq_some_iff.1 hi).1, hi, same_name.1 (List.find?_some (p := fun s : Svc => s.name.toList == x.toList) h)⟩

set_option maxHeartbeats 1000000 in
theorem berthFits_any (B : Bk) (c : Cp) (b : Nat) (w : World) (hc : c.berth.size ≤ maxLen) (hP : PlacesAt w b B B.svcs.length B.bts.length) :
    Calls Tryz.prog 106 #[.agg #[.string c.service, .int .i64 c.number, .int .i64 c.version, .int .i64 c.image, .int .i64 c.state, .bool c.ending, .string c.berth], .map (some b)] w fun e w' => e = .returned (.bool (berthOk B.bts c)) ∧ Below w.heap.size w w' := by
  by_cases h5 : c.state = 1
  · have H5 : Hid (c.state = 1) := h5
    have h5' : (c.state == 1) = true := by simp [h5]
    clear h5
    go_enter Tryz.func106, Tryz.ntmps106
    go_wp2
    go_ret
    exact ⟨ret_bool (by simp [berthOk, H5.out]), below_box _ _⟩
  · have H5 : Hid (¬ c.state = 1) := h5
    have h5' : (c.state == 1) = false := by simp [h5]
    clear h5
    obtain ⟨n, D, hn, hown, h1, h2, h3, h4⟩ := hP
    have HB : Hid (Maps.has D (key 2 c.berth) = B.bts.any fun b => b.name.toList == c.berth.toList) := has_berth hc h3 h4
    clear h1 h2 h3 h4
    go_enter Tryz.func106, Tryz.ntmps106
    go_wp2_with (at_lookup; refine wpList_lookup_own_ok_int _ rfl (.tmp 14) (.tmp 17) 104 rfl 138 3 .i64 thingLaw Tryz.underlying104 Tryz.underlying3 (zeroInt _) b n D rfl (hown.alloc _) _ _ rfl (key_ok 2 c.berth wf2 hc) ?_; intro z hat hwz)
    go_ret
    exact ⟨ret_bool (by rw [HB.out]; simp [berthOk, H5.out]), below_box _ _⟩

end Go.Proofs.YtbceafpodamnfabGreat

/-
  My own. The program's check of the copies (no services).
-/
namespace Go.Proofs.YtbceafpodamnfabGreat
open Go.RowKit Go.Sort Go.Maps

/-- 'v, ok := m[k]', what is there being known. -/
theorem wpList_lookup_is {H : Type} {P : Program} (w : World) {ops : Array Oper} {rest : List Oper} {o : Oper} {a : Act} {Q : Exit → Act → World → Prop} (hg : o.guard = none) (m x : Operand) (t : TypeId) (hop : o.op = Op.lookup t m x true)
    (k e : TypeId) (q : IntKind) (K : Keyed P k) (ht : P.underlying t = some (.map k e)) (he : P.underlying e = some (.int q)) (hz : (zeroValue e).run P w = .ok (.int q 0) w) (b n : Nat) (D : DataW H)
    (hm : a.eval m = .map (some b)) (hown : w.ownsMap P k (plainElem P e) b n D) (key : Value) (kl : Lit) (hx : a.eval x = key) (hkey : keyOf P k key = some kl)
    (c0 : Int) (bb : Bool) (hat : D.atKey kl (.lit (.int q 0)) = .lit (.int q c0)) (hhas : Maps.has D kl = bb)
    (hK : wpList P ops Q rest (a.put o.dst (.tuple #[.int q c0, .bool bb])) w) : wpList P ops Q (o :: rest) a w :=
  wpList_lookup_own_ok_int w hg m x t hop k e q K ht he hz b n D hm hown key kl hx hkey (fun c hc _ => by
    rw [hat] at hc
    have hcc : c0 = c := by simpa using hc
    subst hcc
    rw [hhas]
    exact hK)

set_option maxHeartbeats 16000000 in
theorem copiesHold_nil (B : Bk) (a1 a2 a3 : Option Addr) (c1 c2 c3 : Nat) (w : World) (hS : B.small) (hZ : B.sized) (hU : uniqS B) (hB : BkAt w a1 a2 a3 B) (hnil : B.svcs = []) :
    Calls Tryz.prog 70 #[.agg #[.int .i64 B.now, .slice a1 B.svcs.length c1, .slice a2 B.cps.length c2, .slice a3 B.bts.length c3]] w fun e w' => e = .returned (.bool (allTo (cpAtB B) B.cps.length)) ∧ Below w.heap.size w w' := by
  have HNIL : Hid (B.svcs = []) := hnil
  clear hnil
  have hS' := hS
  obtain ⟨hl1, hl2, hl3⟩ := hS'
  have T0 : Hid _ := heap_alloc_new w (.cells #[.int .i64 B.now, .slice a1 B.svcs.length c1, .slice a2 B.cps.length c2, .slice a3 B.bts.length c3] 34)
  have hb0 := below_box w (.cells #[.int .i64 B.now, .slice a1 B.svcs.length c1, .slice a2 B.cps.length c2, .slice a3 B.bts.length c3] 34)
  have hs0 : (w.alloc (.cells #[.int .i64 B.now, .slice a1 B.svcs.length c1, .slice a2 B.cps.length c2, .slice a3 B.bts.length c3] 34)).heap.size = w.heap.size + 1 := by show (w.heap.push _).size = _; simp
  have HS0 : Hid _ := hs0
  clear hs0
  go_enter Tryz.func70, Tryz.ntmps70
  go_wp2_with fail
  refine (placesIn_any B _ a2 a3 c1 c2 c3 _ hS hZ hU (hB.below hb0)).mono ?_
  rintro e w0 ⟨rfl, hpl0, hb1⟩
  rw [HS0.out] at hpl0 hb1
  rw [HS0.out]
  have hbb0 := hb0.trans (hb1.mono (by omega))
  have T0' : Hid _ := below_blk hb1 T0.out (by omega)
  have HP0 : Hid _ := hpl0
  have e2 := blk_cell T0'.out 2 rfl
  clear hpl0 hb1
  go_wp2
  clear e2
  go_loopw [13] (fun iv wr => ∃ k : Nat, k ≤ B.cps.length ∧ iv = .int .i64 k ∧ Below w.heap.size w wr ∧ Hid (wr.heap[w.heap.size]? = some (.cells #[.int .i64 B.now, .slice a1 B.svcs.length c1, .slice a2 B.cps.length c2, .slice a3 B.bts.length c3] 34 (0, 0))) ∧ Hid (PlacesAt wr (w.heap.size + 1 + 1) B B.svcs.length B.bts.length) ∧ Hid (∀ i, i < k → cpAtB B i = true)) (fun i _ => B.cps.length - (intOf i).toNat)
  case atStart => exact ⟨0, by omega, rfl, hbb0, T0', HP0, fun i hi => absurd hi (by omega)⟩
  case round =>
    clear hbb0 T0' HP0
    obtain ⟨k, hk, rfl, hb, hbox, hpl, hall⟩ := hrel
    have hNlt : w.heap.size + 1 + 1 < wr.heap.size := hpl.out.lt
    by_cases hlt : k < B.cps.length
    · have hne : B.cps ≠ [] := by intro h; rw [h] at hlt; simp at hlt
      obtain ⟨b, off, ea, hbs, hat⟩ := hB.2.1 hne
      subst ea
      obtain ⟨s, hsk⟩ : ∃ s, B.cps[k]? = some s := ⟨B.cps[k], by simp [hlt]⟩
      have hmem := hZ.2.2.2.2.1 s (List.mem_of_getElem? hsk)
      have HSK : Hid _ := hsk
      have hcs := (hat k s hsk).below hb hbs
      unfold CpAt at hcs
      obtain ⟨x0, x1, x2, x3, x4, x5, x6⟩ := hcs
      have hbr : Below w.heap.size w (wr.alloc (.cells #[.string s.service, .int .i64 s.number, .int .i64 s.version, .int .i64 s.image, .int .i64 s.state, .bool s.ending, .string s.berth] 88)) := hb.alloc hb.size _
      have HSZ : Hid ((wr.alloc (.cells #[.string s.service, .int .i64 s.number, .int .i64 s.version, .int .i64 s.image, .int .i64 s.state, .bool s.ending, .string s.berth] 88)).heap.size = wr.heap.size + 1) := by show (wr.heap.push _).size = _; simp
      have HBX : Hid _ := heap_alloc_new wr (.cells #[.string s.service, .int .i64 s.number, .int .i64 s.version, .int .i64 s.image, .int .i64 s.state, .bool s.ending, .string s.berth] 88)
      have hw1 := below_box wr (.cells #[.string s.service, .int .i64 s.number, .int .i64 s.version, .int .i64 s.image, .int .i64 s.state, .bool s.ending, .string s.berth] 88)
      have hboxr : Hid _ := below_blk hw1 hbox.out (by omega)
      have hplr : Hid (PlacesAt (wr.alloc (.cells #[.string s.service, .int .i64 s.number, .int .i64 s.version, .int .i64 s.image, .int .i64 s.state, .bool s.ending, .string s.berth] 88)) (w.heap.size + 1 + 1) B B.svcs.length B.bts.length) := hpl.out.below hw1 hNlt
      clear hsk
      by_cases hk0 : k = 0
      · have HK0 : Hid (k = 0) := hk0
        have hz : decide (0 < k) = false := by simp; omega
        clear hk0 hat hne
        go_wp2
        clear x0 x1 x2 x3 x4 x5 x6
        refine wp_region_quiet_below (by kernel_rfl) (by kernel_rfl) ?_
        repeat (first | go_big_quiet_step (fail) | quiet_step (fail))
        refine wpQuiet_nil ?_
        intro w2 hw'
        obtain ⟨⟨dq, osq⟩, hw''⟩ := hw'
        have hb2 : Below (wr.alloc (.cells #[.string s.service, .int .i64 s.number, .int .i64 s.version, .int .i64 s.image, .int .i64 s.state, .bool s.ending, .string s.berth] 88)).heap.size (wr.alloc (.cells #[.string s.service, .int .i64 s.number, .int .i64 s.version, .int .i64 s.image, .int .i64 s.state, .bool s.ending, .string s.berth] 88)) w2 := by rw [hw'']; exact below_regrown _ _ _
        clear hw''
        have hbr2 := hbr.trans (hb2.mono hbr.size)
        have bxr : Hid _ := below_blk hb2 HBX.out (by rw [HSZ.out]; omega)
        have box2 : Hid _ := below_blk hb2 hboxr.out (by rw [HSZ.out]; omega)
        have pl2 : Hid (PlacesAt w2 (w.heap.size + 1 + 1) B B.svcs.length B.bts.length) := hplr.out.below hb2 (by rw [HSZ.out]; omega)
        have hz2 : wr.heap.size < w2.heap.size := by have := hb2.size; rw [HSZ.out] at this; omega
        have r0 := blk_cell bxr.out 0 rfl
        obtain ⟨n, D, hn, hown2, h1, h2, h3, h4⟩ := pl2.out
        have H1 : Hid _ := h1
        have H2 : Hid _ := h2
        clear h1 h2 h3 h4
        have hf : svcOf B s.service = none := by unfold svcOf; rw [HNIL.out]; rfl
        have HNO : Hid (cpAtB B k = false) := by unfold Hid cpAtB; rw [HSK.out]; simp [cpB, hf]
        have HH : Hid (Maps.has D (key 1 s.service) = false) := H1.out s.service hmem.1 (svcOf_none hf)
        have HA : Hid (D.atKey (key 1 s.service) (.lit (.int .i64 0)) = .lit (.int .i64 0)) := atKey_of_not_has HH.out _
        go_wp2_with (at_lookup; refine wpList_lookup_is _ rfl (.tmp 32) (.tmp 35) 104 rfl 138 3 .i64 thingLaw Tryz.underlying104 Tryz.underlying3 (zeroInt _) (w.heap.size + 1 + 1) n D rfl hown2 _ _ rfl (key_ok 1 s.service wf1 hmem.1) 0 false HA.out HH.out ?_)
        refine wp_region_quiet_below (by kernel_rfl) (by kernel_rfl) ?_
        repeat (first | go_big_quiet_step (fail) | quiet_step (fail))
        refine wpQuiet_nil ?_
        intro w3 hw'
        obtain ⟨⟨dq, osq⟩, hw''⟩ := hw'
        have hb3 : Below w2.heap.size w2 w3 := by rw [hw'']; exact below_regrown _ _ _
        clear hw''
        go_wp2
        go_ret
        exact ⟨ret_bool (allTo_no hlt HNO.out).symm, hbr2.trans (hb3.mono hbr2.size)⟩
      obtain ⟨k', rfl⟩ : ∃ k', k = k' + 1 := ⟨k - 1, by omega⟩
      clear hk0
      obtain ⟨p, hpk⟩ : ∃ p, B.cps[k']? = some p := ⟨B.cps[k']'(by omega), by rw [List.getElem?_eq_getElem]⟩
      have HPK : Hid _ := hpk
      obtain ⟨y0, y1, y2, y3, y4, y5, y6⟩ := ((hat k' p hpk).below (hb.trans (hw1.mono hb.size)) hbs).grown
      have gx0 := gcell HBX.out 0 rfl
      have gx1 := gcell HBX.out 1 rfl
      have gx2 := gcell HBX.out 2 rfl
      have gx3 := gcell HBX.out 3 rfl
      have gx4 := gcell HBX.out 4 rfl
      have gx5 := gcell HBX.out 5 rfl
      have gx6 := gcell HBX.out 6 rfl
      have gb2 := gcell hboxr.out 2 rfl
      clear hpk hat hne
      cases hle : aheadB p s
      · have HNO : Hid (cpAtB B (k' + 1) = false) := by unfold Hid cpAtB; rw [HSK.out]; simp [HPK.out, hle]
        go_wp2
        clear x0 x1 x2 x3 x4 x5 x6
        refine wp_region_quiet_below (by kernel_rfl) (by kernel_rfl) ?_
        repeat (first | go_big_quiet_step (exact Calls.regrown_of (copyAhead_any p s _)) | quiet_step (exact Calls.regrown_of (copyAhead_any p s _)))
        refine wpQuiet_nil ?_
        intro w2 hw'
        obtain ⟨⟨dq, osq⟩, hw''⟩ := hw'
        have hb2 : Below (wr.alloc (.cells #[.string s.service, .int .i64 s.number, .int .i64 s.version, .int .i64 s.image, .int .i64 s.state, .bool s.ending, .string s.berth] 88)).heap.size (wr.alloc (.cells #[.string s.service, .int .i64 s.number, .int .i64 s.version, .int .i64 s.image, .int .i64 s.state, .bool s.ending, .string s.berth] 88)) w2 := by rw [hw'']; exact below_regrown _ _ _
        clear hw''
        go_wp2
        go_ret
        exact ⟨ret_bool (allTo_no hlt HNO.out).symm, hbr.trans (hb2.mono hbr.size)⟩
      · have HLE : Hid (aheadB p s = true) := hle
        go_wp2
        clear x0 x1 x2 x3 x4 x5 x6
        refine wp_region_quiet_below (by kernel_rfl) (by kernel_rfl) ?_
        repeat (first | go_big_quiet_step (exact Calls.regrown_of (copyAhead_any p s _)) | quiet_step (exact Calls.regrown_of (copyAhead_any p s _)))
        refine wpQuiet_nil ?_
        intro w2 hw'
        obtain ⟨⟨dq, osq⟩, hw''⟩ := hw'
        have hb2 : Below (wr.alloc (.cells #[.string s.service, .int .i64 s.number, .int .i64 s.version, .int .i64 s.image, .int .i64 s.state, .bool s.ending, .string s.berth] 88)).heap.size (wr.alloc (.cells #[.string s.service, .int .i64 s.number, .int .i64 s.version, .int .i64 s.image, .int .i64 s.state, .bool s.ending, .string s.berth] 88)) w2 := by rw [hw'']; exact below_regrown _ _ _
        clear hw''
        clear gx0 gx1 gx2 gx3 gx4 gx5 gx6 gb2 hle y0 y1 y2 y3 y4 y5 y6
        have hbr2 := hbr.trans (hb2.mono hbr.size)
        have bxr : Hid _ := below_blk hb2 HBX.out (by rw [HSZ.out]; omega)
        have box2 : Hid _ := below_blk hb2 hboxr.out (by rw [HSZ.out]; omega)
        have pl2 : Hid (PlacesAt w2 (w.heap.size + 1 + 1) B B.svcs.length B.bts.length) := hplr.out.below hb2 (by rw [HSZ.out]; omega)
        have hz2 : wr.heap.size < w2.heap.size := by have := hb2.size; rw [HSZ.out] at this; omega
        have r0 := blk_cell bxr.out 0 rfl
        obtain ⟨n, D, hn, hown2, h1, h2, h3, h4⟩ := pl2.out
        have H1 : Hid _ := h1
        have H2 : Hid _ := h2
        clear h1 h2 h3 h4
        have hf : svcOf B s.service = none := by unfold svcOf; rw [HNIL.out]; rfl
        have HNO : Hid (cpAtB B (k' + 1) = false) := by unfold Hid cpAtB; rw [HSK.out]; simp [cpB, hf]
        have HH : Hid (Maps.has D (key 1 s.service) = false) := H1.out s.service hmem.1 (svcOf_none hf)
        have HA : Hid (D.atKey (key 1 s.service) (.lit (.int .i64 0)) = .lit (.int .i64 0)) := atKey_of_not_has HH.out _
        go_wp2_with (at_lookup; refine wpList_lookup_is _ rfl (.tmp 32) (.tmp 35) 104 rfl 138 3 .i64 thingLaw Tryz.underlying104 Tryz.underlying3 (zeroInt _) (w.heap.size + 1 + 1) n D rfl hown2 _ _ rfl (key_ok 1 s.service wf1 hmem.1) 0 false HA.out HH.out ?_)
        refine wp_region_quiet_below (by kernel_rfl) (by kernel_rfl) ?_
        repeat (first | go_big_quiet_step (fail) | quiet_step (fail))
        refine wpQuiet_nil ?_
        intro w3 hw'
        obtain ⟨⟨dq, osq⟩, hw''⟩ := hw'
        have hb3 : Below w2.heap.size w2 w3 := by rw [hw'']; exact below_regrown _ _ _
        clear hw''
        go_wp2
        go_ret
        exact ⟨ret_bool (allTo_no hlt HNO.out).symm, hbr2.trans (hb3.mono hbr2.size)⟩
    · go_wp2
      go_ret
      exact ⟨ret_bool (allTo_yes fun i hi => hall.out i (by omega)).symm, hb⟩

end Go.Proofs.YtbceafpodamnfabGreat
