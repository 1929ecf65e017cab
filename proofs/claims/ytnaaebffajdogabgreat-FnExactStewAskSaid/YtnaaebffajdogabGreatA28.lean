/-
  My own: Sk, Lh, Yj.
-/
import Derived.Test.YtnaaebffajdogabGreatA03
import Derived.Test.YtnaaebffajdogabGreatA04
import Derived.Test.YtnaaebffajdogabGreatA08
import Derived.Test.YtnaaebffajdogabGreatA06
import Derived.OrdersIn
import Derived.OwnWalkIn
import Derived.RangeFuncCalls
import Derived.Test.YtnaaebffajdogabGreatA05
/-
  My own. The map of places, with the places of berths; on a berth that is to be drained.
-/
namespace Go.Proofs.YtnaaebffajdogabGreat
open Go.RowKit Go.Sort Go.Maps

def uniqB (B : Bk) : Prop := ∀ (i j : Nat) s t, i < j → B.bts[i]? = some s → B.bts[j]? = some t → s.name ≠ t.name
theorem bts_less {B : Bk} (h : ∀ i, i < B.bts.length → btAtB B i = true) : ∀ (j i : Nat) s t, i < j → B.bts[i]? = some s → B.bts[j]? = some t → Op.bytesLess s.name.toList t.name.toList = true
  | 0, i, _, _, hi, _, _ => absurd hi (by omega)
  | j + 1, i, s, t, hi, hs, ht => by
    have hlt : j + 1 < B.bts.length := (List.getElem?_eq_some_iff.1 ht).1
    obtain ⟨p, hp⟩ : ∃ p, B.bts[j]? = some p := ⟨B.bts[j]'(by omega), by rw [List.getElem?_eq_getElem]⟩
    have h1 : Op.bytesLess p.name.toList t.name.toList = true := by
      have := h (j + 1) hlt
      unfold btAtB at this
      rw [ht] at this
      simp [hp] at this
      exact this.2
    rcases Nat.lt_or_ge i j with h' | h'
    · exact bytesLess_trans _ _ _ (bts_less h j i s p h' hs hp) h1
    · have e : i = j := by omega
      subst e
      rw [hp] at hs
      cases hs
      exact h1
theorem uniqB_of {B : Bk} (h : allTo (btAtB B) B.bts.length = true) : uniqB B := fun i j s t hij hs ht e => by
  have h' : ∀ i, i < B.bts.length → btAtB B i = true := fun i hi => by
    unfold allTo at h; exact List.all_eq_true.1 h i (List.mem_range.2 hi)
  have := bts_less h' j i s t hij hs ht
  rw [e, bytesLess_irrefl] at this
  cases this

/-- The map at block b tells of the first ks services and the first kb berths where they are. -/
def PlacesX (w : World) (b : Nat) (B : Bk) (ks kb : Nat) : Prop := ∃ (n : Nat) (D : DataW Unit), n ≤ ks + kb ∧ w.ownsMap Tryz.prog 138 (plainElem Tryz.prog 3) b n D ∧
  (∀ x : ByteArray, x.size ≤ maxLen → (∀ (i : Nat) s, i < ks → B.svcs[i]? = some s → s.name ≠ x) → Maps.has D (key 1 x) = false) ∧
  (∀ (i : Nat) s, i < ks → B.svcs[i]? = some s → Maps.has D (key 1 s.name) = true ∧ D.atKey (key 1 s.name) (.lit (.int .i64 0)) = .lit (.int .i64 i)) ∧
  (∀ x : ByteArray, x.size ≤ maxLen → (∀ (i : Nat) s, i < kb → B.bts[i]? = some s → s.name ≠ x) → Maps.has D (key 2 x) = false) ∧
  (∀ (i : Nat) s, i < kb → B.bts[i]? = some s → Maps.has D (key 2 s.name) = true ∧ D.atKey (key 2 s.name) (.lit (.int .i64 0)) = .lit (.int .i64 i))

theorem PlacesX.blk {w w' : World} {b : Nat} {B : Bk} {ks kb : Nat} (h : PlacesX w b B ks kb) (hb : w'.heap[b]? = w.heap[b]?) : PlacesX w' b B ks kb := by
  obtain ⟨n, D, hn, ⟨es, clock, he, F, hs, hD⟩, r⟩ := h
  exact ⟨n, D, hn, ⟨es, clock, by rw [hb]; exact he, F, hs, hD⟩, r⟩
theorem PlacesX.below {w w' : World} {b N : Nat} {B : Bk} {ks kb : Nat} (h : PlacesX w b B ks kb) (hb : Below N w w') (hN : b < N) : PlacesX w' b B ks kb := h.blk (hb.block b hN)
theorem PlacesX.lt {w : World} {b : Nat} {B : Bk} {ks kb : Nat} (h : PlacesX w b B ks kb) : b < w.heap.size := by
  obtain ⟨n, D, hn, hown, _⟩ := h
  exact hown.lt

theorem PlacesX.start (w : World) (B : Bk) : PlacesX (w.alloc (.map #[] 0)) w.heap.size B 0 0 :=
  ⟨0, .map [], Nat.le_refl _, World.ownsMap_made w _ _ _, fun _ _ _ => rfl, fun i s hi => absurd hi (by omega), fun _ _ _ => rfl, fun i s hi => absurd hi (by omega)⟩

theorem PlacesX.stepS {w' : World} {b : Nat} {B : Bk} {k n : Nat} {D : DataW Unit} {s : Svc} (hz : ∀ s ∈ B.svcs, s.name.size ≤ maxLen) (_hzb : ∀ s ∈ B.bts, s.name.size ≤ maxLen) (hu : uniqS B) (hsk : B.svcs[k]? = some s)
    (hn : n ≤ k + 0) (h1 : ∀ x : ByteArray, x.size ≤ maxLen → (∀ (i : Nat) s, i < k → B.svcs[i]? = some s → s.name ≠ x) → Maps.has D (key 1 x) = false)
    (h2 : ∀ (i : Nat) s, i < k → B.svcs[i]? = some s → Maps.has D (key 1 s.name) = true ∧ D.atKey (key 1 s.name) (.lit (.int .i64 0)) = .lit (.int .i64 i))
    (h3 : ∀ x : ByteArray, x.size ≤ maxLen → (∀ (i : Nat) s, i < 0 → B.bts[i]? = some s → s.name ≠ x) → Maps.has D (key 2 x) = false)
    (hD : IsMap D)
    (hown : w'.ownsMap Tryz.prog 138 (plainElem Tryz.prog 3) b (n + 1) (D.put (key 1 s.name) (.lit (.int .i64 (k : Int))))) : PlacesX w' b B (k + 1) 0 := by
  have hss := hz s (List.mem_of_getElem? hsk)
  refine ⟨n + 1, _, by omega, hown, fun x hx hno => ?_, fun i t hi ht => ?_, fun x hx hno => ?_, fun i t hi => absurd hi (by omega)⟩
  · rw [has_put_other (key_ne_name wf1 hx hss (fun e => hno k s (by omega) hsk e.symm))]
    exact h1 x hx fun i t hi ht => hno i t (by omega) ht
  · rcases Nat.lt_or_ge i k with h' | h'
    · have hts := hz t (List.mem_of_getElem? ht)
      have hne := key_ne_name wf1 hts hss (hu i k t s h' ht hsk)
      rw [has_put_other hne, atKey_put_other hne]
      exact h2 i t h' ht
    · have e : i = k := by omega
      subst e
      rw [hsk] at ht
      cases ht
      exact ⟨has_put_same hD (key_isKey _ _) _, atKey_put_same hD (key_isKey _ _) _ _⟩
  · rw [has_put_other (fun e => key_ne_kind hss hx e.symm)]
    exact h3 x hx fun i t hi => absurd hi (by omega)

theorem PlacesX.stepB {w' : World} {b : Nat} {B : Bk} {ks k n : Nat} {D : DataW Unit} {s : Bt} (hz : ∀ s ∈ B.svcs, s.name.size ≤ maxLen) (hzb : ∀ s ∈ B.bts, s.name.size ≤ maxLen) (hub : uniqB B) (hsk : B.bts[k]? = some s)
    (hn : n ≤ ks + k) (h1 : ∀ x : ByteArray, x.size ≤ maxLen → (∀ (i : Nat) s, i < ks → B.svcs[i]? = some s → s.name ≠ x) → Maps.has D (key 1 x) = false)
    (h2 : ∀ (i : Nat) s, i < ks → B.svcs[i]? = some s → Maps.has D (key 1 s.name) = true ∧ D.atKey (key 1 s.name) (.lit (.int .i64 0)) = .lit (.int .i64 i))
    (h3 : ∀ x : ByteArray, x.size ≤ maxLen → (∀ (i : Nat) s, i < k → B.bts[i]? = some s → s.name ≠ x) → Maps.has D (key 2 x) = false)
    (h4 : ∀ (i : Nat) s, i < k → B.bts[i]? = some s → Maps.has D (key 2 s.name) = true ∧ D.atKey (key 2 s.name) (.lit (.int .i64 0)) = .lit (.int .i64 i))
    (hD : IsMap D)
    (hown : w'.ownsMap Tryz.prog 138 (plainElem Tryz.prog 3) b (n + 1) (D.put (key 2 s.name) (.lit (.int .i64 (k : Int))))) : PlacesX w' b B ks (k + 1) := by
  have hss := hzb s (List.mem_of_getElem? hsk)
  refine ⟨n + 1, _, by omega, hown, fun x hx hno => ?_, fun i t hi ht => ?_, fun x hx hno => ?_, fun i t hi ht => ?_⟩
  · rw [has_put_other (key_ne_kind hx hss)]
    exact h1 x hx hno
  · have hts := hz t (List.mem_of_getElem? ht)
    rw [has_put_other (key_ne_kind hts hss), atKey_put_other (key_ne_kind hts hss)]
    exact h2 i t hi ht
  · rw [has_put_other (key_ne_name wf2 hx hss (fun e => hno k s (by omega) hsk e.symm))]
    exact h3 x hx fun i t hi ht => hno i t (by omega) ht
  · rcases Nat.lt_or_ge i k with h' | h'
    · have hts := hzb t (List.mem_of_getElem? ht)
      have hne := key_ne_name wf2 hts hss (hub i k t s h' ht hsk)
      rw [has_put_other hne, atKey_put_other hne]
      exact h4 i t h' ht
    · have e : i = k := by omega
      subst e
      rw [hsk] at ht
      cases ht
      exact ⟨has_put_same hD (key_isKey _ _) _, atKey_put_same hD (key_isKey _ _) _ _⟩

set_option maxHeartbeats 4000000 in
theorem placesIn_x (B : Bk) (a1 a2 a3 : Option Addr) (c1 c2 c3 : Nat) (w : World) (hS : B.small) (hZ : B.sized) (hU : uniqS B) (hUB : uniqB B) (hB : BkAt w a1 a2 a3 B) :
    Calls Tryz.prog 71 #[.agg #[.int .i64 B.now, .slice a1 B.svcs.length c1, .slice a2 B.cps.length c2, .slice a3 B.bts.length c3]] w fun e w' => e = .returned (.map (some (w.heap.size + 1))) ∧ PlacesX w' (w.heap.size + 1) B B.svcs.length B.bts.length ∧ Below w.heap.size w w' := by
  obtain ⟨hl1, hl2, hl3⟩ := hS
  have hmm := run_makeMap_n
  obtain ⟨t0, t1, t2⟩ := two_new w (.cells #[.int .i64 B.now, .slice a1 B.svcs.length c1, .slice a2 B.cps.length c2, .slice a3 B.bts.length c3] 34) (.map #[] 0)
  have T0 : Hid _ := t0
  have T1 : Hid (PlacesX ((w.alloc (.cells #[.int .i64 B.now, .slice a1 B.svcs.length c1, .slice a2 B.cps.length c2, .slice a3 B.bts.length c3] 34)).alloc (.map #[] 0)) (w.heap.size + 1) B 0 0) := by
    have := PlacesX.start (w.alloc (.cells #[.int .i64 B.now, .slice a1 B.svcs.length c1, .slice a2 B.cps.length c2, .slice a3 B.bts.length c3] 34)) B
    have e : (w.alloc (.cells #[.int .i64 B.now, .slice a1 B.svcs.length c1, .slice a2 B.cps.length c2, .slice a3 B.bts.length c3] 34)).heap.size = w.heap.size + 1 := by show (w.heap.push _).size = _; simp
    rw [e] at this
    exact this
  clear t0 t1 t2
  go_enter Tryz.func71, Tryz.ntmps71
  go_wp2
  clear hmm
  go_loopw [19] (fun iv wr => ∃ k : Nat, k ≤ B.svcs.length ∧ iv = .int .i64 k ∧ Below w.heap.size w wr ∧ Hid (wr.heap[w.heap.size]? = some (.cells #[.int .i64 B.now, .slice a1 B.svcs.length c1, .slice a2 B.cps.length c2, .slice a3 B.bts.length c3] 34 (0, 0))) ∧ Hid (PlacesX wr (w.heap.size + 1) B k 0)) (fun i _ => B.svcs.length - (intOf i).toNat)
  case atStart => exact ⟨0, by omega, rfl, ((Below.refl _ _).alloc (Nat.le_refl _) _).alloc (by simp) _, T0, T1⟩
  case round =>
    obtain ⟨k, hk, rfl, hb, hbox, hpl⟩ := hrel
    have hNlt : w.heap.size + 1 < wr.heap.size := hpl.out.lt
    by_cases hlt : k < B.svcs.length
    · have hne : B.svcs ≠ [] := by intro h; rw [h] at hlt; simp at hlt
      obtain ⟨b, off, ea, hbs, hat⟩ := hB.1 hne
      subst ea
      obtain ⟨s, hsk⟩ : ∃ s, B.svcs[k]? = some s := ⟨B.svcs[k], by simp [hlt]⟩
      have hmem := hZ.2.2.2.1 s (List.mem_of_getElem? hsk)
      have HSK : Hid _ := hsk
      have hcs := (hat k s hsk).below hb hbs
      unfold SvcAt at hcs
      obtain ⟨x0, x1, x2, x3, x4, x5, x6, x7, x8, x9, x10, x11, x12⟩ := hcs
      obtain ⟨n, D, hn, hown, h1, h2, h3, h4⟩ := hpl.out
      have H1 : Hid _ := h1
      have H2 : Hid _ := h2
      have H3 : Hid _ := h3
      have hnn : n < maxLen := by unfold maxLen; omega
      clear hsk hat hne h1 h2 h3 h4
      go_wp2_with (at_mapUpdate; refine wpList_mapUpdate_own _ rfl (.tmp 24) (.tmp 27) (.tmp 28) 104 rfl 138 3 thingLaw Tryz.underlying104 (plainElem Tryz.prog 3) (w.heap.size + 1) n D rfl (hown.alloc _) hnn _ _ _ rfl rfl (key_ok 1 s.name wf1 hmem) _ [] (plainElem_int Tryz.underlying3 (WalkArith.wf_i64 (by omega))) ?_; intro w1 hown1 hgrow1)
      have hsz : (wr.alloc (.cells #[.string s.name, .int .i64 s.version, .bool s.gone, .int .i64 s.image, .int .i64 s.want, .int .i64 s.down, .int .i64 s.over, .int .i64 s.next, .int .i64 s.per, .int .i64 s.least, .int .i64 s.most, .int .i64 s.load, .int .i64 s.cool] 48)).heap.size = wr.heap.size + 1 := by show (wr.heap.push _).size = _; simp
      have hb1 : Below w.heap.size w w1 := (hb.alloc hb.size _).grown hgrow1 (by rw [hsz]; omega) (fun j hj => by cases hj; omega)
      have hbox1 : Hid _ := (hgrow1.block w.heap.size (by rw [hsz]; omega) (fun e => by have := Option.some.inj e; omega)).trans (below_blk (below_box wr (.cells #[.string s.name, .int .i64 s.version, .bool s.gone, .int .i64 s.image, .int .i64 s.want, .int .i64 s.down, .int .i64 s.over, .int .i64 s.next, .int .i64 s.per, .int .i64 s.least, .int .i64 s.most, .int .i64 s.load, .int .i64 s.cool] 48)) hbox.out (by omega))
      have hpl1 : Hid _ := PlacesX.stepS hZ.2.2.2.1 hZ.2.2.2.2.2 hU HSK.out hn H1.out H2.out H3.out hown.isMap hown1
      go_roundw
      case rel => exact ⟨k + 1, by omega, by go_num, hb1, hbox1, hpl1⟩
      case measure => simp [intOf]; omega
    · have hkl : k = B.svcs.length := by omega
      subst hkl
      have e3 := blk_cell hbox.out 3 rfl
      go_wp2
      clear e3
      go_loopw [33] (fun iv wr => ∃ k : Nat, k ≤ B.bts.length ∧ iv = .int .i64 k ∧ Below w.heap.size w wr ∧ Hid (wr.heap[w.heap.size]? = some (.cells #[.int .i64 B.now, .slice a1 B.svcs.length c1, .slice a2 B.cps.length c2, .slice a3 B.bts.length c3] 34 (0, 0))) ∧ Hid (PlacesX wr (w.heap.size + 1) B B.svcs.length k)) (fun i _ => B.bts.length - (intOf i).toNat)
      case atStart => exact ⟨0, by omega, rfl, hb, hbox, hpl⟩
      case round =>
        clear hb hbox hpl hNlt hlt
        rename_i wr0 _
        obtain ⟨k, hk, rfl, hb, hbox, hpl⟩ := hrel
        have hNlt : w.heap.size + 1 < wr.heap.size := hpl.out.lt
        by_cases hlt : k < B.bts.length
        · have hne : B.bts ≠ [] := by intro h; rw [h] at hlt; simp at hlt
          obtain ⟨b, off, ea, hbs, hat⟩ := hB.2.2 hne
          subst ea
          obtain ⟨s, hsk⟩ : ∃ s, B.bts[k]? = some s := ⟨B.bts[k], by simp [hlt]⟩
          have hmem := hZ.2.2.2.2.2 s (List.mem_of_getElem? hsk)
          have HSK : Hid _ := hsk
          have hcs := (hat k s hsk).below hb hbs
          unfold BtAt at hcs
          obtain ⟨x0, x1⟩ := hcs
          obtain ⟨n, D, hn, hown, h1, h2, h3, h4⟩ := hpl.out
          have H1 : Hid _ := h1
          have H2 : Hid _ := h2
          have H3 : Hid _ := h3
          have H4 : Hid _ := h4
          have hnn : n < maxLen := by unfold maxLen; omega
          clear hsk hat hne h1 h2 h3 h4
          go_wp2_with (at_mapUpdate; refine wpList_mapUpdate_own _ rfl (.tmp 38) (.tmp 41) (.tmp 42) 104 rfl 138 3 thingLaw Tryz.underlying104 (plainElem Tryz.prog 3) (w.heap.size + 1) n D rfl (hown.alloc _) hnn _ _ _ rfl rfl (key_ok 2 s.name wf2 hmem) _ [] (plainElem_int Tryz.underlying3 (WalkArith.wf_i64 (by omega))) ?_; intro w1 hown1 hgrow1)
          have hsz : (wr.alloc (.cells #[.string s.name, .bool s.drain] 86)).heap.size = wr.heap.size + 1 := by show (wr.heap.push _).size = _; simp
          have hb1 : Below w.heap.size w w1 := (hb.alloc hb.size _).grown hgrow1 (by rw [hsz]; omega) (fun j hj => by cases hj; omega)
          have hbox1 : Hid _ := (hgrow1.block w.heap.size (by rw [hsz]; omega) (fun e => by have := Option.some.inj e; omega)).trans (below_blk (below_box wr (.cells #[.string s.name, .bool s.drain] 86)) hbox.out (by omega))
          have hpl1 : Hid _ := PlacesX.stepB hZ.2.2.2.1 hZ.2.2.2.2.2 hUB HSK.out hn H1.out H2.out H3.out H4.out hown.isMap hown1
          go_roundw
          case rel => exact ⟨k + 1, by omega, by go_num, hb1, hbox1, hpl1⟩
          case measure => simp [intOf]; omega
        · go_wp2
          go_ret
          have hkl : k = B.bts.length := by omega
          subst hkl
          exact ⟨rfl, hpl.out, hb⟩


set_option maxRecDepth 100000 in
set_option maxHeartbeats 4000000 in
theorem onDrain_any (B : Bk) (c : Cp) (b : Nat) (a1 a2 a3 : Option Addr) (c1 c2 c3 : Nat) (w : World) (hS : B.small) (hc : c.berth.size ≤ maxLen) (hP : PlacesX w b B B.svcs.length B.bts.length) (hB : BkAt w a1 a2 a3 B) :
    Calls Tryz.prog 109 #[.agg #[.int .i64 B.now, .slice a1 B.svcs.length c1, .slice a2 B.cps.length c2, .slice a3 B.bts.length c3], .map (some b), .agg #[.string c.service, .int .i64 c.number, .int .i64 c.version, .int .i64 c.image, .int .i64 c.state, .bool c.ending, .string c.berth]] w fun e w' => e = .returned (.bool (drainsB B c)) ∧ Below w.heap.size w w' := by
  obtain ⟨hl1, hl2, hl3⟩ := hS
  have hbb : Below w.heap.size w ((w.alloc (.cells #[.int .i64 B.now, .slice a1 B.svcs.length c1, .slice a2 B.cps.length c2, .slice a3 B.bts.length c3] 34)).alloc (.cells #[.string c.service, .int .i64 c.number, .int .i64 c.version, .int .i64 c.image, .int .i64 c.state, .bool c.ending, .string c.berth] 88)) := ((Below.refl _ _).alloc (Nat.le_refl _) _).alloc (by simp) _
  obtain ⟨n, D, hn, hown, h1, h2, h3, h4⟩ := hP
  have hown2 := (hown.alloc (.cells #[.int .i64 B.now, .slice a1 B.svcs.length c1, .slice a2 B.cps.length c2, .slice a3 B.bts.length c3] 34)).alloc (.cells #[.string c.service, .int .i64 c.number, .int .i64 c.version, .int .i64 c.image, .int .i64 c.state, .bool c.ending, .string c.berth] 88)
  clear h1 h2
  cases hf : B.bts.find? fun b => b.name.toList == c.berth.toList with
  | none =>
    have HD : Hid (drainsB B c = false) := by unfold Hid drainsB; rw [hf]
    have HH : Hid (Maps.has D (key 2 c.berth) = false) := h3 c.berth hc fun i s _ hs e => by
      rw [List.find?_eq_none] at hf
      exact hf s (List.mem_of_getElem? hs) (same_name.2 e)
    have HA : Hid (D.atKey (key 2 c.berth) (.lit (.int .i64 0)) = .lit (.int .i64 0)) := atKey_of_not_has HH.out _
    clear h3 h4 hf
    rw [HD.out]
    go_enter Tryz.func109, Tryz.ntmps109
    go_wp2_with (at_lookup; refine wpList_lookup_is _ rfl (.tmp 10) (.tmp 13) 104 rfl 138 3 .i64 thingLaw Tryz.underlying104 Tryz.underlying3 (zeroInt _) b n D rfl hown2 _ _ rfl (key_ok 2 c.berth wf2 hc) 0 false HA.out HH.out ?_)
    go_ret
    exact ⟨rfl, hbb⟩
  | some bt =>
    obtain ⟨i, hi, _⟩ := idxOf_find hf
    have hil := (List.getElem?_eq_some_iff.1 hi).1
    have hnm : bt.name = c.berth := same_name.1 (List.find?_some (p := fun b : Bt => b.name.toList == c.berth.toList) hf)
    have HD : Hid (drainsB B c = bt.drain) := by unfold Hid drainsB; rw [hf]
    have h4' := h4 i bt hil hi
    rw [hnm] at h4'
    have HH : Hid (Maps.has D (key 2 c.berth) = true) := h4'.1
    have HA : Hid (D.atKey (key 2 c.berth) (.lit (.int .i64 0)) = .lit (.int .i64 (i : Int))) := h4'.2
    have hne : B.bts ≠ [] := by intro h; rw [h] at hil; simp at hil
    obtain ⟨b3, o3, ea, hbs, hat⟩ := hB.2.2 hne
    subst ea
    have hbt := (hat i bt hi).below hbb hbs
    unfold BtAt at hbt
    obtain ⟨x0, x1⟩ := hbt
    clear h3 h4 hf h4' hi hnm hne hat
    rw [HD.out]
    go_enter Tryz.func109, Tryz.ntmps109
    go_wp2_with (at_lookup; refine wpList_lookup_is _ rfl (.tmp 10) (.tmp 13) 104 rfl 138 3 .i64 thingLaw Tryz.underlying104 Tryz.underlying3 (zeroInt _) b n D rfl hown2 _ _ rfl (key_ok 2 c.berth wf2 hc) (i : Int) true HA.out HH.out ?_)
    go_ret
    exact ⟨rfl, hbb⟩

end Go.Proofs.YtnaaebffajdogabGreat

/-
  My own. A region that draws its order, in a round of a range over a function: by the walk of Lg.
-/
namespace Go.Proofs.YtnaaebffajdogabGreat
open Go Go.RowKit

section
variable {P : Program} {ops : Array Oper} {Q : Exit → Act → World → Prop}

theorem rowsIn_wide {n : Nat} {row : String} {args : Array Value} {w : World} {R : Value → World → Prop} (h : Rows P row args w R) : RowsIn Fence.wide n P row args w R :=
  fun c cs _ => let ⟨v, w', r, s⟩ := h c cs; ⟨v, w', r, stepsIn_wide.2 s⟩

theorem Oper.wp_toIn {o : Oper} {a : Act} {w : World} {L L' K : Act → World → Prop} {l n : Nat} (hnd : ∀ c, o.op ≠ .defer c) (hL : ∀ a w, L a w → L' a w) (h : o.wp P a w L (KPost K)) : o.wpIn (Fence.wide.inRound l) n P a w L' Q := by
  unfold Oper.wp at h
  unfold Oper.wpIn
  refine ⟨fun _ _ => trivial, ?_⟩
  rw [Oper.semAt_plain (Fence.wide.inRound l) a.eval o hnd]
  generalize (execOp a.eval o).run P w = r at *
  cases r with
  | ok x w' =>
    cases x <;> simp only [Oper.upon, Oper.uponIn] at h ⊢ <;>
      first
        | exact hL _ _ h
        | exact False.elim h
        | exact ⟨(fun h0 => by cases h0), CallsIn.inRound l (callsIn_wide.2 (Calls.mono h (fun e w'' he => by cases e <;> first | exact hL _ _ he | exact False.elim he | exact (let ⟨_, _, h⟩ := he; False.elim h))))⟩
        | exact ⟨(fun h0 => by cases h0), (show RowsIn (Fence.wide.inRound l) _ P _ _ _ _ from rowsIn_wide (Rows.mono h (fun v w'' he => hL _ _ he)))⟩
  | halt x w' => cases x <;> simp only [Oper.upon, Oper.uponIn] at h ⊢ <;> first | exact False.elim h

theorem wpOp_toIn {i : Nat} {a : Act} {w : World} {L L' K : Act → World → Prop} {l n : Nat} (hnd : ∀ (i : Nat) o c, ops[i]? = some o → o.op ≠ .defer c) (hL : ∀ a w, L a w → L' a w) (h : wpOp P ops (KPost K) i L a w) : wpOpIn (Fence.wide.inRound l) n P ops Q i L' a w := by
  unfold wpOp at h
  unfold wpOpIn
  cases ho : ops[i]? with
  | none => rw [ho] at h; exact hL _ _ h
  | some o =>
    simp only [ho] at h ⊢
    split at h
    · rename_i hw
      rw [if_pos hw]
      rcases h with h | ⟨_, _, _, h2⟩
      · exact Oper.wp_toIn (fun c => hnd i o c ho) hL h
      · exact False.elim h2
    · rename_i hw
      rw [if_neg hw]
      exact ⟨fun _ _ => trivial, hL _ _ h⟩

theorem wpAny_toIn {K : Act → World → Prop} {l n : Nat} (hnd : ∀ (i : Nat) o c, ops[i]? = some o → o.op ≠ .defer c) (hK : ∀ a w, K a w → Q .normal a w) :
    ∀ (fuel : Nat) (listed : Array Bool) (a : Act) (w : World), wpAny P .any ops (KPost K) fuel listed a w → wpAnyIn (Fence.wide.inRound l) n P .any ops Q fuel listed a w
  | 0, _, a, w, h => ⟨h.1, hK a w h.2⟩
  | fuel + 1, _, a, w, h => ⟨fun h0 => hK a w (h.1 h0), fun i hi => wpOp_toIn hnd (fun a w h => wpAny_toIn hnd hK fuel _ a w h) (h.2 i hi)⟩

def noDefer (ops : Array Oper) : Bool := ops.all fun o => match o.op with | .defer _ => false | _ => true
theorem noDefer_spec {ops : Array Oper} (h : noDefer ops = true) : ∀ (i : Nat) o c, ops[i]? = some o → o.op ≠ .defer c := fun i o c hi e => by
  have := Array.all_eq_true'.1 h o (Array.mem_of_getElem? hi)
  rw [e] at this
  cases this

theorem wpIn_region_grows {id : Nat} {a : Act} {w : World} {l : List Oper} {r N : Nat} (n : Nat) (hm : P.follows .mixedOrders = true) (hB : growTailB l.toArray n = true) (hnd : noDefer l.toArray = true)
    (h : growFrom P l.toArray a n w (fun S => ∀ V W A, Below w.heap.size w W → (∀ j, j < n → S j (V j) W) → Hid (A = putAll l.toArray V n a) → wpList P l.toArray (KPost fun a w => Q .normal a w) (l.drop n) A W) (l.take n) 0 fun _ _ _ => True) :
    (Code.region id l.toArray true).wpIn (Fence.wide.inRound r) N P Q a w := by
  have hB' := hB
  simp only [growTailB, Bool.and_eq_true, decide_eq_true_eq] at hB'
  obtain ⟨⟨⟨⟨⟨hn, hs⟩, hc⟩, hdB⟩, hd⟩, hseq⟩ := hB'
  have hn' : n < l.length := by simpa using hn
  obtain ⟨S, hst, hop, h3⟩ := growFrom_out hdB (l.take n) 0 _ (by simp; omega) (fun j hj => by
    have : j < n := by simp at hj; omega
    simp [this]) (fun _ _ _ _ _ _ => trivial) (fun i o hi => absurd hi (by omega)) h
  refine wpIn_region_any hm (wpAny_toIn (noDefer_spec hnd) (fun _ _ h => h) _ _ _ _ ?_)
  have inv0 : HeadInv .any l.toArray n (Array.replicate l.toArray.size false) :=
    ⟨by simp, fun j oj _ hl => (by rw [getD_replicate_false] at hl; cases hl), fun t _ ht => getD_in (by simpa using ht) (getD_replicate_false _ _)⟩
  have hb0 : Below w.heap.size w { w with drawn := w.drawn + 1 } := ⟨rfl, rfl, rfl, Nat.le_refl _, fun _ _ => rfl⟩
  have hleft : leftOf n (Array.replicate l.toArray.size false) = n := by
    unfold leftOf
    rw [List.countP_eq_length.2]
    · simp
    · intro i hi
      have : i < l.toArray.size := by have := List.mem_range.1 hi; omega
      rw [getD_in (by simpa using this) (getD_replicate_false _ _)]
      rfl
  obtain ⟨V0, hV0⟩ : ∃ V0, putAll l.toArray V0 n a = a := ⟨_, putAll_self a n⟩
  have H := wpAny_grow (P := P) (Q := KPost fun a w => Q .normal a w) (g := l.toArray.size - n) (S := S) (w0 := w) (a0 := a) (fun listed inv i hi hu t ht => tail_waits hs hc hn inv _ i rfl hi hu t ht) (by omega) hdB hd hst hop
    (fun V W hb hS => by
      have hdl : (l.drop n).length = l.toArray.size - n := by simp
      have := wpAny_of_seq (md := .any) (Q' := KPost fun a w => Q .normal a w) (l.drop n) n (firstN l.toArray n) _ W (fun j => by simp [List.getElem?_drop]) (by rw [hdl]; exact hseq) (h3 V W _ hb hS rfl)
      rwa [hdl] at this)
    n _ V0 { w with drawn := w.drawn + 1 } inv0 hleft hb0 (fun j _ hl => by rw [getD_replicate_false] at hl; cases hl)
  rw [hV0, show n + (l.toArray.size - n) = l.toArray.size by omega] at H
  exact H
end
end Go.Proofs.YtnaaebffajdogabGreat

/-
  My own. The walk over a service's copies, each known to be one of the book's.
-/
namespace Go.Proofs.YtnaaebffajdogabGreat
open Go.RowKit Go.Shelf

attribute [local go_sem] Oper.semAt_some

def ofA {p : Cp → Prop} (nm : ByteArray) (l : List {c // p c}) : List {c // p c} := l.filter fun c => c.1.service.toList == nm.toList
theorem ofA_succ {p : Cp → Prop} (nm : ByteArray) (l : List {c // p c}) (k : Nat) (c : {c // p c}) (h : l[k]? = some c) : ofA nm (l.take (k + 1)) = ofA nm (l.take k) ++ (if c.1.service.toList == nm.toList then [c] else []) := by
  obtain ⟨hk, e⟩ := List.getElem?_eq_some_iff.1 h
  unfold ofA
  rw [List.take_succ_eq_append_getElem hk, List.filter_append, e]
  by_cases hc : (c.1.service.toList == nm.toList) = true
  · simp [List.filter, hc]
  · simp [List.filter, hc]
theorem ofA_le {p : Cp → Prop} (nm : ByteArray) (l : List {c // p c}) (k : Nat) (c : {c // p c}) (h : l[k]? = some c) (hc : (c.1.service.toList == nm.toList) = true) : (ofA nm (l.take k)).length < (ofA nm l).length := by
  have h1 := ofA_succ nm l k c h
  rw [if_pos hc] at h1
  have h2 : (ofA nm (l.take (k + 1))).length ≤ (ofA nm l).length := by
    unfold ofA
    exact ((List.take_sublist (k + 1) l).filter _).length_le
  rw [h1] at h2
  simp at h2
  omega
theorem ofA_map (nm : ByteArray) (l : List Cp) : (ofA nm l.attach).map (·.1) = ofS nm l := by
  unfold ofA ofS
  have h : (fun c : {c // c ∈ l} => c.1.service.toList == nm.toList) = (fun c : Cp => c.service.toList == nm.toList) ∘ Subtype.val := rfl
  rw [h, ← List.filter_map, List.attach_map_subtype_val]
theorem ofA_len (nm : ByteArray) (l : List Cp) : (ofA nm l.attach).length ≤ l.length := by
  have := List.length_filter_le (fun c : {c // c ∈ l} => c.1.service.toList == nm.toList) l.attach
  unfold ofA
  simpa using this

set_option maxRecDepth 100000 in
set_option maxHeartbeats 2000000 in
theorem copies1_mem (F : Fence) (n : Nat) (h : F.fn 135) (hro : F.round = none) (hn : 1 ≤ n) (l Bb Bt n₀ : Nat) (B : Bk) (nm : ByteArray) (a1 a2 a3 : Option Addr) (c1 c2 c3 : Nat) (hl2 : B.cps.length ≤ 1048576) (J Jx : List {c // c ∈ B.cps} → World → Prop)
    (hY : ∀ pre x W, J pre W → pre.length < (ofA nm B.cps.attach).length → YieldAt F (n - 1) Tryz.prog l #[.agg #[.string x.1.service, .int .i64 x.1.number, .int .i64 x.1.version, .int .i64 x.1.image, .int .i64 x.1.state, .bool x.1.ending, .string x.1.berth]] W fun e W' =>
      (e = .returned (.bool true) ∧ J (pre ++ [x]) W' ∧ KpB n₀ Bt W W') ∨ (e = .returned (.bool false) ∧ Jx (pre ++ [x]) W'))
    (W : World) (hJa : AbidesFrom W.heap.size J) (hBb : W.heap[Bb]? = some (.cells #[.int .i64 B.now, .slice a1 B.svcs.length c1, .slice a2 B.cps.length c2, .slice a3 B.bts.length c3] 34 (0, 0)))
    (hBt : W.heap[Bt]? = some (.cells #[.string nm] 9 (0, 0))) (hC : B.cps ≠ [] → ∃ b off, a2 = some ⟨b, off, none⟩ ∧ b < n₀ ∧ CpsAt W b off B.cps) (hn0 : n₀ ≤ W.heap.size) (h0 : J [] W) :
    CallsIn F n Tryz.prog 135 #[.func (.yield l) #[] #[], .pointer (some ⟨Bb, 0, none⟩), .pointer (some ⟨Bt, 0, none⟩)] W fun e W' => (∃ v, e = .returned v) ∧
      ((∃ ys, ys = ofA nm B.cps.attach ∧ J ys W') ∨ (∃ pre, True ∧ Jx pre W')) := by
  have hbl : Bt < W.heap.size := (Array.getElem?_eq_some_iff.1 hBt).1
  have HBt : Hid _ := hBt
  have e2 := blk_cell hBb 2 rfl
  clear hBt hBb
  refine callsIn_of_wp Tryz.func135 rfl h ?_ hro
  simp only [Tryz.ntmps135, List.size_toArray, List.length_cons, List.length_nil, Nat.reduceAdd, Nat.reduceSub, Array.replicate_succ, Array.replicate_zero, List.push_toArray, List.append_toArray, List.nil_append, List.cons_append]
  gi_wp2
  clear e2
  gi_loopw [9] (fun i wr => ∃ k : Nat, k ≤ B.cps.length ∧ i = .int .i64 k ∧ J (ofA nm (B.cps.attach.take k)) wr ∧ Below n₀ W wr ∧ Hid (wr.heap[Bt]? = some (.cells #[.string nm] 9 (0, 0))))
    (fun i _ => B.cps.length - (intOf i).toNat)
  case atStart => exact ⟨0, Nat.zero_le _, rfl, h0, Below.refl _ _, HBt⟩
  case round =>
    obtain ⟨k, hk, rfl, hJs, hnx, hbt⟩ := hrel
    by_cases hlt : k < B.cps.length
    · have hne : B.cps ≠ [] := by intro h; rw [h] at hlt; simp at hlt
      obtain ⟨b, off, ea, hbs, hat⟩ := hC hne
      subst ea
      obtain ⟨c, hsk⟩ : ∃ c, B.cps[k]? = some c := ⟨B.cps[k], by simp [hlt]⟩
      have hmem := List.mem_of_getElem? hsk
      have hska : B.cps.attach[k]? = some ⟨c, hmem⟩ := by
        rw [List.getElem?_attach]
        obtain ⟨_, e⟩ := List.getElem?_eq_some_iff.1 hsk
        simp [hlt, e]
      have hcs := (hat k c hsk).below hnx hbs
      unfold CpAt at hcs
      obtain ⟨x0, x1, x2, x3, x4, x5, x6⟩ := hcs
      have hbt0 := blk_cell hbt.out 0 rfl
      have hblt : Bt < wr.heap.size := (Array.getElem?_eq_some_iff.1 hbt.out).1
      have HS : Hid _ := ofA_succ nm B.cps.attach k ⟨c, hmem⟩ hska
      have HLE : Hid _ := ofA_le nm B.cps.attach k ⟨c, hmem⟩ hska
      have hw1 := below_box wr (.cells #[.string c.service, .int .i64 c.number, .int .i64 c.version, .int .i64 c.image, .int .i64 c.state, .bool c.ending, .string c.berth] 88)
      have hnx1 := hnx.trans (hw1.mono (Nat.le_trans hn0 hnx.size))
      have hbt1 : Hid _ := below_blk hw1 hbt.out hblt
      have hJb : J (ofA nm (B.cps.attach.take k)) (wr.alloc (.cells #[.string c.service, .int .i64 c.number, .int .i64 c.version, .int .i64 c.image, .int .i64 c.state, .bool c.ending, .string c.berth] 88)) := hJa _ _ _ none hJs (World.grownBy_alloc wr _ none) (fun r e => by cases e)
      cases hsame : (c.service.toList == nm.toList)
      · gi_wp2
        refine ⟨fun _ h => (by cases h), ?_⟩
        gi_wp2
        go_roundw
        case rel => exact ⟨k + 1, by omega, by go_num, by rw [HS.out, hsame]; simpa using hJb, hnx1, hbt1⟩
        case measure => simp [intOf]; omega
      · obtain ⟨fn, tmps, assign, body, hy, hR⟩ := hY _ ⟨c, hmem⟩ (wr.alloc (.cells #[.string c.service, .int .i64 c.number, .int .i64 c.version, .int .i64 c.image, .int .i64 c.state, .bool c.ending, .string c.berth] 88)) hJb (HLE.out hsame)
        gi_wp2
        refine hR.mono ?_
        rintro e W3 (⟨rfl, hJ3, hk3⟩ | ⟨rfl, hJx3⟩)
        · gi_wp2
          go_roundw
          case rel => exact ⟨k + 1, by omega, by go_num, by rw [HS.out, hsame]; exact hJ3, hnx1.trans hk3.1, hk3.2.trans hbt1.out⟩
          case measure => simp [intOf]; omega
        · gi_wp2
          refine bodyPost_ret (results_none rfl _ _ _) rfl ?_
          exact ⟨⟨_, rfl⟩, .inr ⟨_, trivial, hJx3⟩⟩
    · obtain rfl : k = B.cps.length := by omega
      gi_wp2
      go_end0
      exact ⟨⟨_, rfl⟩, .inl ⟨_, by rw [show B.cps.length = B.cps.attach.length by simp, List.take_length], hJs⟩⟩

theorem copies_stops_mem (F : Fence) (n : Nat) (h : F.fn 135) (hro : F.round = none) (hn : 1 ≤ n) (Bb Bt n₀ : Nat) (B : Bk) (nm : ByteArray) (a1 a2 a3 : Option Addr) (c1 c2 c3 : Nat) (hl2 : B.cps.length ≤ 1048576) (w : World)
    (hBb : w.heap[Bb]? = some (.cells #[.int .i64 B.now, .slice a1 B.svcs.length c1, .slice a2 B.cps.length c2, .slice a3 B.bts.length c3] 34 (0, 0)))
    (hBt : w.heap[Bt]? = some (.cells #[.string nm] 9 (0, 0))) (hC : B.cps ≠ [] → ∃ b off, a2 = some ⟨b, off, none⟩ ∧ b < n₀ ∧ CpsAt w b off B.cps) (hn0 : n₀ ≤ w.heap.size) :
    SeqStopsK F n Tryz.prog 135 #[.pointer (some ⟨Bb, 0, none⟩), .pointer (some ⟨Bt, 0, none⟩)] (fun x : {c // c ∈ B.cps} => #[.agg #[.string x.1.service, .int .i64 x.1.number, .int .i64 x.1.version, .int .i64 x.1.image, .int .i64 x.1.state, .bool x.1.ending, .string x.1.berth]]) (KpB n₀ Bt) (fun ys => ys = ofA nm B.cps.attach) (fun _ => True) (ofA nm B.cps.attach).length w := fun l J Jx W hW hJa _ hY h0 =>
  copies1_mem F n h hro hn l Bb Bt n₀ B nm a1 a2 a3 c1 c2 c3 hl2 J Jx hY W hJa ((hW.block Bb (Array.getElem?_eq_some_iff.1 hBb).1).trans hBb) ((hW.block Bt (Array.getElem?_eq_some_iff.1 hBt).1).trans hBt)
    (fun hne => let ⟨b, off, e, hb, hat⟩ := hC hne; ⟨b, off, e, hb, fun i s hs => (hat i s hs).below hW (Nat.lt_of_lt_of_le hb hn0)⟩) (Nat.le_trans hn0 hW.size) h0


end Go.Proofs.YtnaaebffajdogabGreat
