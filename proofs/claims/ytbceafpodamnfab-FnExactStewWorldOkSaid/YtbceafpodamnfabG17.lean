/-
  My own: Mw, Ka, Kb, Kc.
-/
import Derived.Test.YtbceafpodamnfabG01
import Derived.Test.YtbceafpodamnfabG00
import Derived.Deep.DeepCutAuto
set_option linter.unusedVariables false
set_option linter.unusedSimpArgs false
/-
  My own (as Ma, but for ends). Copies that own their rows.
-/
namespace Go.Proofs.Ytbceafpodamnfab
open Go.RowKit Go.Sort

/-- At block b lies just this list. -/
def OwnS (w : World) (b : Nat) (l : List Svc) : Prop := ∃ cur : Array Value, w.heap[b]? = some (.cells cur 57 (0, 0)) ∧ Filled Svc.cells 13 l l.length cur.toList
theorem OwnS.blk {w w' : World} {b : Nat} {l : List Svc} (h : OwnS w b l) (hb : w'.heap[b]? = w.heap[b]?) : OwnS w' b l := let ⟨cur, h1, h2⟩ := h; ⟨cur, hb.trans h1, h2⟩
theorem OwnS.lt {w : World} {b : Nat} {l : List Svc} (h : OwnS w b l) : b < w.heap.size := let ⟨_, h1, _⟩ := h; (Array.getElem?_eq_some_iff.1 h1).1
theorem OwnS.sl {w : World} {b : Nat} {l : List Svc} (h : OwnS w b l) : SlS w (some ⟨b, 0, none⟩) l := fun _ => let ⟨_, h1, h2⟩ := h; ⟨b, 0, rfl, (Array.getElem?_eq_some_iff.1 h1).1, svcsAt_of_filled h1 h2⟩

/-- At block b lies just this list. -/
def OwnC (w : World) (b : Nat) (l : List Cp) : Prop := ∃ cur : Array Value, w.heap[b]? = some (.cells cur 72 (0, 0)) ∧ Filled Cp.cells 7 l l.length cur.toList
theorem OwnC.blk {w w' : World} {b : Nat} {l : List Cp} (h : OwnC w b l) (hb : w'.heap[b]? = w.heap[b]?) : OwnC w' b l := let ⟨cur, h1, h2⟩ := h; ⟨cur, hb.trans h1, h2⟩
theorem OwnC.lt {w : World} {b : Nat} {l : List Cp} (h : OwnC w b l) : b < w.heap.size := let ⟨_, h1, _⟩ := h; (Array.getElem?_eq_some_iff.1 h1).1
theorem OwnC.sl {w : World} {b : Nat} {l : List Cp} (h : OwnC w b l) : SlC w (some ⟨b, 0, none⟩) l := fun _ => let ⟨_, h1, h2⟩ := h; ⟨b, 0, rfl, (Array.getElem?_eq_some_iff.1 h1).1, cpsAt_of_filled h1 h2⟩

/-- At block b lies just this list. -/
def OwnB (w : World) (b : Nat) (l : List Bt) : Prop := ∃ cur : Array Value, w.heap[b]? = some (.cells cur 94 (0, 0)) ∧ Filled Bt.cells 2 l l.length cur.toList
theorem OwnB.blk {w w' : World} {b : Nat} {l : List Bt} (h : OwnB w b l) (hb : w'.heap[b]? = w.heap[b]?) : OwnB w' b l := let ⟨cur, h1, h2⟩ := h; ⟨cur, hb.trans h1, h2⟩
theorem OwnB.lt {w : World} {b : Nat} {l : List Bt} (h : OwnB w b l) : b < w.heap.size := let ⟨_, h1, _⟩ := h; (Array.getElem?_eq_some_iff.1 h1).1
theorem OwnB.sl {w : World} {b : Nat} {l : List Bt} (h : OwnB w b l) : SlB w (some ⟨b, 0, none⟩) l := fun _ => let ⟨_, h1, h2⟩ := h; ⟨b, 0, rfl, (Array.getElem?_eq_some_iff.1 h1).1, btsAt_of_filled h1 h2⟩


set_option maxHeartbeats 1000000 in
theorem toServiceS_own (l : List Svc) (ao : Option Addr) (cap : Nat) (w : World) (hl : l.length ≤ 1048576)
    (hc : l ≠ [] → ∃ b off, ao = some ⟨b, off, none⟩ ∧ b < w.heap.size ∧ SvcsAt w b off l) :
    Calls Try.prog 27 #[.slice ao l.length cap] w fun e w' => e = .returned (.slice (some ⟨w.heap.size, 0, none⟩) l.length l.length) ∧ w.heap.size < w'.heap.size ∧ OwnS w' w.heap.size l ∧ Below w.heap.size w w' := by
  go_enter Try.func27, Try.ntmps27
  go_wp2_with (at_make; refine wpList_make_at rfl (.tmp 6) (.tmp 6) 29 rfl 57 _ 13 112 Try.underlying29 Try.infoService l.length rfl rfl (by omega) (by unfold maxLen; omega) ?_; intro w0 hrow0 hsz0 hb0)
  go_loopw [4] (fun iv wr => ∃ (k : Nat), k ≤ l.length ∧ iv = .int .i64 k ∧ w.heap.size < wr.heap.size ∧ Below w.heap.size w wr ∧ ∃ cur : Array Value, Hid (wr.heap[w.heap.size]? = some (.cells cur 57 (0, 0))) ∧ Hid (Filled Svc.cells 13 l k cur.toList)) (fun i _ => l.length - (intOf i).toNat)
  case atStart => exact ⟨0, by omega, rfl, by rw [hsz0.out]; omega, hb0, _, hrow0, ⟨by rw [Array.length_toList, size_madeCells], fun i s hi => absurd hi (by omega)⟩⟩
  case round =>
    obtain ⟨k, hk, rfl, hsz, hb, cur, hrow, hfill⟩ := hrel
    by_cases hlt : k < l.length
    · obtain ⟨b, off, rfl, hbs, hat⟩ := hc (by intro h; rw [h] at hlt; simp at hlt)
      obtain ⟨s, hsk⟩ : ∃ s, l[k]? = some s := ⟨l[k], by simp [hlt]⟩
      have hcs := (hat k s hsk).below hb hbs
      have hsk' : Hid (l[k]? = some s) := hsk
      unfold SvcAt at hcs
      obtain ⟨c0, c1, c2, c3, c4, c5, c6, c7, c8, c9, c10, c11, c12⟩ := hcs
      clear hsk hat hc
      go_wp2_with fail
      refine (toService_any s _).mono ?_
      rintro e w1 ⟨rfl, hb1⟩
      clear c0 c1 c2 c3 c4 c5 c6 c7 c8 c9 c10 c11 c12
      have hb2 := hb.trans (hb1.mono hb.size)
      have hrow1 : Hid (w1.heap[w.heap.size]? = some (.cells cur 57 (0, 0))) := (hb1.block _ hsz).trans hrow.out
      have hlen := hfill.out.1
      have hfit : k * 13 + 13 ≤ cur.size := by rw [Array.length_toList] at hlen; omega
      go_wp2_with (refine wpList_store_at rfl 57 (.tmp 21) (.tmp 20) rfl w.heap.size (k * 13) #[.string s.name, .int .i64 s.version, .bool s.gone, .int .i64 s.image, .int .i64 s.want, .int .i64 s.down, .int .i64 s.over, .int .i64 s.next, .int .i64 s.per, .int .i64 s.least, .int .i64 s.most, .int .i64 s.load, .int .i64 s.cool] rfl rfl 57 cur hrow1.out Try.infosService hfit (one_Svc s) ?_; intro w2 hrow2 hsz2 hb3)
      have hsz3 : w.heap.size < w2.heap.size := by rw [hsz2.out]; exact Nat.lt_of_lt_of_le hsz hb1.size
      have hb4 : Below w.heap.size w w2 := hb2.trans hb3
      go_roundw
      case rel => exact ⟨k + 1, by omega, by go_num, hsz3, hb4, _, hrow2, hfill.out.step hsk'.out rfl⟩
      case measure => simp [intOf]; omega
    · go_wp2
      go_ret
      have hkl : k = l.length := by omega
      rw [hkl] at hfill
      exact ⟨rfl, hsz, ⟨_, hrow.out, hfill.out⟩, hb⟩

set_option maxHeartbeats 1000000 in
theorem toCopyS_own (l : List Cp) (ao : Option Addr) (cap : Nat) (w : World) (hl : l.length ≤ 1048576)
    (hc : l ≠ [] → ∃ b off, ao = some ⟨b, off, none⟩ ∧ b < w.heap.size ∧ CpsAt w b off l) :
    Calls Try.prog 28 #[.slice ao l.length cap] w fun e w' => e = .returned (.slice (some ⟨w.heap.size, 0, none⟩) l.length l.length) ∧ w.heap.size < w'.heap.size ∧ OwnC w' w.heap.size l ∧ Below w.heap.size w w' := by
  go_enter Try.func28, Try.ntmps28
  go_wp2_with (at_make; refine wpList_make_at rfl (.tmp 6) (.tmp 6) 30 rfl 72 _ 7 72 Try.underlying30 Try.infoCopy l.length rfl rfl (by omega) (by unfold maxLen; omega) ?_; intro w0 hrow0 hsz0 hb0)
  go_loopw [4] (fun iv wr => ∃ (k : Nat), k ≤ l.length ∧ iv = .int .i64 k ∧ w.heap.size < wr.heap.size ∧ Below w.heap.size w wr ∧ ∃ cur : Array Value, Hid (wr.heap[w.heap.size]? = some (.cells cur 72 (0, 0))) ∧ Hid (Filled Cp.cells 7 l k cur.toList)) (fun i _ => l.length - (intOf i).toNat)
  case atStart => exact ⟨0, by omega, rfl, by rw [hsz0.out]; omega, hb0, _, hrow0, ⟨by rw [Array.length_toList, size_madeCells], fun i s hi => absurd hi (by omega)⟩⟩
  case round =>
    obtain ⟨k, hk, rfl, hsz, hb, cur, hrow, hfill⟩ := hrel
    by_cases hlt : k < l.length
    · obtain ⟨b, off, rfl, hbs, hat⟩ := hc (by intro h; rw [h] at hlt; simp at hlt)
      obtain ⟨s, hsk⟩ : ∃ s, l[k]? = some s := ⟨l[k], by simp [hlt]⟩
      have hcs := (hat k s hsk).below hb hbs
      have hsk' : Hid (l[k]? = some s) := hsk
      unfold CpAt at hcs
      obtain ⟨c0, c1, c2, c3, c4, c5, c6⟩ := hcs
      clear hsk hat hc
      go_wp2_with fail
      refine (toCopy_any s _).mono ?_
      rintro e w1 ⟨rfl, hb1⟩
      clear c0 c1 c2 c3 c4 c5 c6
      have hb2 := hb.trans (hb1.mono hb.size)
      have hrow1 : Hid (w1.heap[w.heap.size]? = some (.cells cur 72 (0, 0))) := (hb1.block _ hsz).trans hrow.out
      have hlen := hfill.out.1
      have hfit : k * 7 + 7 ≤ cur.size := by rw [Array.length_toList] at hlen; omega
      go_wp2_with (refine wpList_store_at rfl 72 (.tmp 21) (.tmp 20) rfl w.heap.size (k * 7) #[.string s.service, .int .i64 s.number, .int .i64 s.version, .int .i64 s.image, .int .i64 s.state, .bool s.ending, .string s.berth] rfl rfl 72 cur hrow1.out Try.infosCopy hfit (one_Cp s) ?_; intro w2 hrow2 hsz2 hb3)
      have hsz3 : w.heap.size < w2.heap.size := by rw [hsz2.out]; exact Nat.lt_of_lt_of_le hsz hb1.size
      have hb4 : Below w.heap.size w w2 := hb2.trans hb3
      go_roundw
      case rel => exact ⟨k + 1, by omega, by go_num, hsz3, hb4, _, hrow2, hfill.out.step hsk'.out rfl⟩
      case measure => simp [intOf]; omega
    · go_wp2
      go_ret
      have hkl : k = l.length := by omega
      rw [hkl] at hfill
      exact ⟨rfl, hsz, ⟨_, hrow.out, hfill.out⟩, hb⟩

set_option maxHeartbeats 1000000 in
theorem toBerthS_own (l : List Bt) (ao : Option Addr) (cap : Nat) (w : World) (hl : l.length ≤ 1048576)
    (hc : l ≠ [] → ∃ b off, ao = some ⟨b, off, none⟩ ∧ b < w.heap.size ∧ BtsAt w b off l) :
    Calls Try.prog 29 #[.slice ao l.length cap] w fun e w' => e = .returned (.slice (some ⟨w.heap.size, 0, none⟩) l.length l.length) ∧ w.heap.size < w'.heap.size ∧ OwnB w' w.heap.size l ∧ Below w.heap.size w w' := by
  go_enter Try.func29, Try.ntmps29
  go_wp2_with (at_make; refine wpList_make_at rfl (.tmp 6) (.tmp 6) 31 rfl 94 _ 2 24 Try.underlying31 Try.infoBerth l.length rfl rfl (by omega) (by unfold maxLen; omega) ?_; intro w0 hrow0 hsz0 hb0)
  go_loopw [4] (fun iv wr => ∃ (k : Nat), k ≤ l.length ∧ iv = .int .i64 k ∧ w.heap.size < wr.heap.size ∧ Below w.heap.size w wr ∧ ∃ cur : Array Value, Hid (wr.heap[w.heap.size]? = some (.cells cur 94 (0, 0))) ∧ Hid (Filled Bt.cells 2 l k cur.toList)) (fun i _ => l.length - (intOf i).toNat)
  case atStart => exact ⟨0, by omega, rfl, by rw [hsz0.out]; omega, hb0, _, hrow0, ⟨by rw [Array.length_toList, size_madeCells], fun i s hi => absurd hi (by omega)⟩⟩
  case round =>
    obtain ⟨k, hk, rfl, hsz, hb, cur, hrow, hfill⟩ := hrel
    by_cases hlt : k < l.length
    · obtain ⟨b, off, rfl, hbs, hat⟩ := hc (by intro h; rw [h] at hlt; simp at hlt)
      obtain ⟨s, hsk⟩ : ∃ s, l[k]? = some s := ⟨l[k], by simp [hlt]⟩
      have hcs := (hat k s hsk).below hb hbs
      have hsk' : Hid (l[k]? = some s) := hsk
      unfold BtAt at hcs
      obtain ⟨c0, c1⟩ := hcs
      clear hsk hat hc
      go_wp2_with fail
      refine (toBerth_any s _).mono ?_
      rintro e w1 ⟨rfl, hb1⟩
      clear c0 c1
      have hb2 := hb.trans (hb1.mono hb.size)
      have hrow1 : Hid (w1.heap[w.heap.size]? = some (.cells cur 94 (0, 0))) := (hb1.block _ hsz).trans hrow.out
      have hlen := hfill.out.1
      have hfit : k * 2 + 2 ≤ cur.size := by rw [Array.length_toList] at hlen; omega
      go_wp2_with (refine wpList_store_at rfl 94 (.tmp 21) (.tmp 20) rfl w.heap.size (k * 2) #[.string s.name, .bool s.drain] rfl rfl 94 cur hrow1.out Try.infosBerth hfit (one_Bt s) ?_; intro w2 hrow2 hsz2 hb3)
      have hsz3 : w.heap.size < w2.heap.size := by rw [hsz2.out]; exact Nat.lt_of_lt_of_le hsz hb1.size
      have hb4 : Below w.heap.size w w2 := hb2.trans hb3
      go_roundw
      case rel => exact ⟨k + 1, by omega, by go_num, hsz3, hb4, _, hrow2, hfill.out.step hsk'.out rfl⟩
      case measure => simp [intOf]; omega
    · go_wp2
      go_ret
      have hkl : k = l.length := by omega
      rw [hkl] at hfill
      exact ⟨rfl, hsz, ⟨_, hrow.out, hfill.out⟩, hb⟩

/-- A book whose three lists lie in rows of their own, new since block lo. -/
structure BkOwn (lo : Nat) (w : World) (b1 b2 b3 : Nat) (B : Bk) : Prop where
  lo1 : lo ≤ b1
  lt12 : b1 < b2
  lt23 : b2 < b3
  svcs : OwnS w b1 B.svcs
  cps : OwnC w b2 B.cps
  bts : OwnB w b3 B.bts
theorem BkOwn.at {lo : Nat} {w : World} {b1 b2 b3 : Nat} {B : Bk} (h : BkOwn lo w b1 b2 b3 B) : BkAt w (some ⟨b1, 0, none⟩) (some ⟨b2, 0, none⟩) (some ⟨b3, 0, none⟩) B := ⟨h.svcs.sl, h.cps.sl, h.bts.sl⟩
theorem BkOwn.below {lo N : Nat} {w w' : World} {b1 b2 b3 : Nat} {B : Bk} (h : BkOwn lo w b1 b2 b3 B) (hb : Below N w w') (hN : b3 < N) : BkOwn lo w' b1 b2 b3 B :=
  ⟨h.lo1, h.lt12, h.lt23, h.svcs.blk (hb.block _ (by have := h.lt12; have := h.lt23; omega)), h.cps.blk (hb.block _ (by have := h.lt23; omega)), h.bts.blk (hb.block _ hN)⟩

set_option maxHeartbeats 400000 in
theorem toBook_own (B : Bk) (a1 a2 a3 : Option Addr) (c1 c2 c3 : Nat) (w : World) (hB : BkAt w a1 a2 a3 B) (hS : B.small) :
    Calls Try.prog 8 #[.agg #[.int .i64 B.now, .slice a1 B.svcs.length c1, .slice a2 B.cps.length c2, .slice a3 B.bts.length c3]] w fun e w' => ∃ x1 x2 x3, e = .returned (.agg #[.int .i64 B.now, .slice (some ⟨x1, 0, none⟩) B.svcs.length B.svcs.length, .slice (some ⟨x2, 0, none⟩) B.cps.length B.cps.length, .slice (some ⟨x3, 0, none⟩) B.bts.length B.bts.length]) ∧ BkOwn w.heap.size w' x1 x2 x3 B ∧ Below w.heap.size w w' := by
  go_enter Try.func8, Try.ntmps8
  go_wp2_with fail
  refine (toServiceS_own B.svcs a1 c1 _ hS.1 (hB.1.below ?hb)).mono ?_
  case hb => exact (((Below.refl _ _).alloc (Nat.le_refl _) _).alloc (by simp) _).alloc (by simp; omega) _
  rintro e w1 ⟨rfl, hz1, hat1, hb1⟩
  have hbb1 : Below w.heap.size w w1 := ((((Below.refl _ _).alloc (Nat.le_refl _) _).alloc (by simp) _).alloc (by simp; omega) _).trans (hb1.mono (by simp; omega))
  obtain ⟨t0, t1, t2, t3⟩ := three_new w (.cells #[.int .i64 B.now, .slice a1 B.svcs.length c1, .slice a2 B.cps.length c2, .slice a3 B.bts.length c3] 26) (.cells #[.int .i64 0, .slice none 0 0, .slice none 0 0, .slice none 0 0] 33) (.cells #[.int .i64 B.now, .slice none 0 0, .slice none 0 0, .slice none 0 0] 33)
  rw [t3] at hz1 hat1 hb1
  rw [t3]
  have k0 : Hid (w1.heap[w.heap.size]? = _) := (hb1.block _ (by omega)).trans t0
  have k1 : Hid (w1.heap[w.heap.size + 1]? = _) := (hb1.block _ (by omega)).trans t1
  have k2 : Hid (w1.heap[w.heap.size + 1 + 1]? = _) := (hb1.block _ (by omega)).trans t2
  have HAT1 : Hid (OwnS w1 (w.heap.size + 1 + 1 + 1) B.svcs) := hat1
  have HZ1 : Hid (w.heap.size + 1 + 1 + 1 < w1.heap.size) := hz1
  clear t0 t1 t2 t3
  have q1 := blk_cell k0.out 2 rfl
  have q2 := blk_cell k2.out 1 rfl
  have q3 := blk_frozen k2.out 1
  clear hat1 hz1 hb1
  go_wp2_with fail
  have hbs1 : Below w.heap.size w (w1.setCell ⟨w.heap.size + 1 + 1, 1, none⟩ (.slice (some ⟨w.heap.size + 1 + 1 + 1, 0, none⟩) B.svcs.length B.svcs.length)) := hbb1.setCell (by show _ ≤ w.heap.size + 1 + 1; omega) _
  refine (toCopyS_own B.cps a2 c2 _ hS.2.1 (hB.2.1.below hbs1)).mono ?_
  rintro e w2 ⟨rfl, hz2, hat2, hb2⟩
  rw [size_setCell] at hz2 hat2 hb2
  rw [size_setCell]
  have hbb2 : Below w.heap.size w w2 := hbs1.trans (hb2.mono hbb1.size)
  have k0' : Hid (w2.heap[w.heap.size]? = _) := (hb2.block _ (by have := HZ1.out; omega)).trans ((Below.heap_setCell _ _ _ _ (by show _ ≠ w.heap.size + 1 + 1; omega)).trans k0.out)
  have k1' : Hid (w2.heap[w.heap.size + 1]? = _) := (hb2.block _ (by have := HZ1.out; omega)).trans ((Below.heap_setCell _ _ _ _ (by show _ ≠ w.heap.size + 1 + 1; omega)).trans k1.out)
  have k2' : Hid (w2.heap[w.heap.size + 1 + 1]? = _) := (hb2.block _ (by have := HZ1.out; omega)).trans (blk_set k2.out 1 _)
  have HAT2 : Hid (OwnC w2 w1.heap.size B.cps) := hat2
  have HAT1' : Hid (OwnS w2 (w.heap.size + 1 + 1 + 1) B.svcs) := HAT1.out.blk ((hb2.block _ HZ1.out).trans (Below.heap_setCell _ _ _ _ (by show _ ≠ w.heap.size + 1 + 1; omega)))
  have HZ2 : Hid (w1.heap.size < w2.heap.size) := hz2
  have p1 := blk_cell k0'.out 3 rfl
  have p2 := blk_cell k2'.out 2 rfl
  have p3 := blk_frozen k2'.out 2
  clear hat2 hz2 hb2 q1 q2 q3 hbs1 hbb1
  go_wp2_with fail
  have hbs2 : Below w.heap.size w (w2.setCell ⟨w.heap.size + 1 + 1, 2, none⟩ (.slice (some ⟨w1.heap.size, 0, none⟩) B.cps.length B.cps.length)) := hbb2.setCell (by show _ ≤ w.heap.size + 1 + 1; omega) _
  refine (toBerthS_own B.bts a3 c3 _ hS.2.2 (hB.2.2.below hbs2)).mono ?_
  rintro e w3 ⟨rfl, hz3, hat3, hb3⟩
  rw [size_setCell] at hz3 hat3 hb3
  rw [size_setCell]
  have hbb3 : Below w.heap.size w w3 := hbs2.trans (hb3.mono hbb2.size)
  have hzz : w.heap.size + 1 + 1 + 1 < w2.heap.size := by have := HZ1.out; have := HZ2.out; omega
  have k1'' : Hid (w3.heap[w.heap.size + 1]? = _) := (hb3.block _ (by omega)).trans ((Below.heap_setCell _ _ _ _ (by show _ ≠ w.heap.size + 1 + 1; omega)).trans k1'.out)
  have k2'' : Hid (w3.heap[w.heap.size + 1 + 1]? = _) := (hb3.block _ (by omega)).trans (blk_set k2'.out 2 _)
  have HAT3 : Hid (OwnB w3 w2.heap.size B.bts) := hat3
  have HAT2' : Hid (OwnC w3 w1.heap.size B.cps) := HAT2.out.blk ((hb3.block _ HZ2.out).trans (Below.heap_setCell _ _ _ _ (by show _ ≠ w.heap.size + 1 + 1; have := HZ1.out; omega)))
  have HAT1'' : Hid (OwnS w3 (w.heap.size + 1 + 1 + 1) B.svcs) := HAT1'.out.blk ((hb3.block _ hzz).trans (Below.heap_setCell _ _ _ _ (by show _ ≠ w.heap.size + 1 + 1; omega)))
  have HZ3 : Hid (w2.heap.size < w3.heap.size) := hz3
  have p3 := blk_cell k2''.out 3 rfl
  have p4 := blk_frozen k2''.out 3
  have HZZ : Hid (w.heap.size + 1 + 1 + 1 < w2.heap.size) := hzz
  clear hat3 hz3 hb3 p1 p2 p3 hbs2 hbb2 hzz
  have p3 := blk_cell k2''.out 3 rfl
  have r0 := blk_cell k2''.out 0 rfl
  have r1 := blk_cell k2''.out 1 rfl
  have r2 := blk_cell k2''.out 2 rfl
  have s0 := blk_cell k1''.out 0 rfl
  have s1 := blk_cell k1''.out 1 rfl
  have s2 := blk_cell k1''.out 2 rfl
  have s3 := blk_cell k1''.out 3 rfl
  have f0 := blk_frozen k1''.out 0
  have f1 := blk_frozen k1''.out 1
  have f2 := blk_frozen k1''.out 2
  have f3 := blk_frozen k1''.out 3
  go_wp2
  refine bodyPost_ret (v := .agg #[.int .i64 B.now, .slice (some ⟨w.heap.size + 1 + 1 + 1, 0, none⟩) B.svcs.length B.svcs.length, .slice (some ⟨w1.heap.size, 0, none⟩) B.cps.length B.cps.length, .slice (some ⟨w2.heap.size, 0, none⟩) B.bts.length B.bts.length]) (by simp [results, Try.results8, go_sem, s0, s1, s2, s3]) rfl ⟨_, _, _, rfl, ?_, ?_⟩
  · have z1 := HZ1.out
    have z2 := HZ2.out
    have z3 := HZ3.out
    have z4 := HZZ.out
    refine ⟨by omega, by omega, by omega, HAT1''.out.blk ?_, HAT2'.out.blk ?_, HAT3.out.blk ?_⟩
    · repeat rw [Below.heap_setCell _ _ _ _ (by simp; try omega)]
    · repeat rw [Below.heap_setCell _ _ _ _ (by simp; try omega)]
    · repeat rw [Below.heap_setCell _ _ _ _ (by simp; try omega)]
  · exact ((((hbb3.setCell (by simp; omega) _).setCell (by simp) _).setCell (by simp) _).setCell (by simp) _).setCell (by simp) _

end Go.Proofs.Ytbceafpodamnfab

/-
  My own. Worlds: rows of books, measured.
-/
namespace Go.Proofs.Ytbceafpodamnfab
open Go.RowKit Go.Sort

/-- A book that lies in a row: its data, its slices' addresses and capacities. -/
structure Bx where
  b : Bk
  a1 : Option Addr
  a2 : Option Addr
  a3 : Option Addr
  c1 : Nat
  c2 : Nat
  c3 : Nat

def Bx.cells (x : Bx) : List Value := (#[.int .i64 x.b.now, .slice x.a1 x.b.svcs.length x.c1, .slice x.a2 x.b.cps.length x.c2, .slice x.a3 x.b.bts.length x.c3] : Array Value).toList
def BxAt (w : World) (b o : Nat) (x : Bx) : Prop := w.cell? ⟨b, o, none⟩ = some (.int .i64 x.b.now) ∧ w.cell? ⟨b, o + 1, none⟩ = some (.slice x.a1 x.b.svcs.length x.c1) ∧ w.cell? ⟨b, o + 2, none⟩ = some (.slice x.a2 x.b.cps.length x.c2) ∧ w.cell? ⟨b, o + 3, none⟩ = some (.slice x.a3 x.b.bts.length x.c3)
def BxsAt (w : World) (b off : Nat) (l : List Bx) : Prop := ∀ i x, l[i]? = some x → BxAt w b (off + i * 4) x
def SlX (w : World) (ao : Option Addr) (l : List Bx) : Prop := l ≠ [] → ∃ b off, ao = some ⟨b, off, none⟩ ∧ b < w.heap.size ∧ BxsAt w b off l
/-- The books of a row lie in w. -/
def BxsIn (w : World) (l : List Bx) : Prop := ∀ x ∈ l, BkAt w x.a1 x.a2 x.a3 x.b
def Sizeds (l : List Bx) : Prop := ∀ x ∈ l, x.b.sized
def Smalls (l : List Bx) : Prop := ∀ x ∈ l, x.b.small

theorem BxAt.below {B : Nat} {w w' : World} {b o : Nat} {x : Bx} (h : BxAt w b o x) (hb : Below B w w') (hB : b < B) : BxAt w' b o x := by
  unfold BxAt at *
  simp only [fun o => hb.cell (p := ⟨b, o, none⟩) hB]
  exact h
theorem SlX.below {w w' : World} {ao : Option Addr} {l : List Bx} (h : SlX w ao l) (hb : Below w.heap.size w w') : SlX w' ao l := fun hl =>
  let ⟨b, off, e, hlt, hat⟩ := h hl
  ⟨b, off, e, Nat.lt_of_lt_of_le hlt hb.size, fun i s hs => (hat i s hs).below hb hlt⟩
theorem BxsIn.below {w w' : World} {l : List Bx} (h : BxsIn w l) (hb : Below w.heap.size w w') : BxsIn w' l := fun x hx => (h x hx).below hb

set_option maxRecDepth 100000 in
set_option maxHeartbeats 1000000 in
theorem szBookS_any (l : List Bx) (ao : Option Addr) (cap : Nat) (left : Int) (w : World) (h0 : 0 ≤ left) (h1 : left ≤ 1048576) (hl : l.length ≤ maxLen) (hZ : Sizeds l) (hc : SlX w ao l) (hI : BxsIn w l) :
    Calls Try.prog 44 #[.slice ao l.length cap, .int .i64 left] w fun e w' => ∃ r, e = .returned (.int .i64 r) ∧ -1 ≤ r ∧ r ≤ left ∧ Hid (0 ≤ r → (l.length : Int) ≤ left ∧ Smalls l) ∧ Below w.heap.size w w' := by
  unfold maxLen at hl
  have HZ : Hid _ := hZ
  have HI : Hid (BxsIn w l) := hI
  have HC : Hid (SlX w ao l) := hc
  clear hZ hI hc
  by_cases hneg : left - l.length < 0
  · go_enter Try.func44, Try.ntmps44
    go_wp2
    go_ret
    exact ⟨-1, rfl, by omega, by omega, fun h => absurd h (by omega), Below.refl _ _⟩
  go_enter Try.func44, Try.ntmps44
  go_wp2
  go_loopw [1, 5] (fun lv iv wr => ∃ (k : Nat) (lf : Int), k ≤ l.length ∧ iv = .int .i64 k ∧ lv = .int .i64 lf ∧ 0 ≤ lf ∧ lf ≤ left ∧ Hid (∀ i x, i < k → l[i]? = some x → x.b.small) ∧ Below w.heap.size w wr) (fun _ i _ => l.length - (intOf i).toNat)
  case atStart => exact ⟨0, _, by omega, rfl, rfl, by omega, by omega, fun i x hi => absurd hi (by omega), Below.refl _ _⟩
  case round =>
    obtain ⟨k, lf, hk, rfl, rfl, hl0, hl1, HS, hb⟩ := hrel
    by_cases hlt : k < l.length
    · obtain ⟨b, off, ea, hbs, hat⟩ := HC.out (by intro h; rw [h] at hlt; simp at hlt)
      subst ea
      obtain ⟨s, hsk⟩ : ∃ s, l[k]? = some s := ⟨l[k], by simp [hlt]⟩
      have HM : Hid (s ∈ l) := List.mem_of_getElem? hsk
      have HK : Hid (l[k]? = some s) := hsk
      have hcs := (hat k s hsk).below hb hbs
      unfold BxAt at hcs
      obtain ⟨e0, e1, e2, e3⟩ := hcs
      clear hsk hat
      go_wp2_with fail
      refine (szBook_any s.b s.a1 s.a2 s.a3 s.c1 s.c2 s.c3 lf _ hl0 (by omega) ((HI.out s HM.out).below hb) (HZ.out s HM.out)).mono ?_
      rintro e w1 ⟨r, rfl, hr0, hr1, hq, hb1⟩
      have hb2 := hb.trans (hb1.mono hb.size)
      clear e0 e1 e2 e3
      by_cases hr : r < 0
      · go_wp2
        go_ret
        exact ⟨-1, rfl, by omega, by omega, fun h => absurd h (by omega), hb2⟩
      · have HS2 : Hid (∀ i x, i < k + 1 → l[i]? = some x → x.b.small) := fun i x hi hx => by
          rcases Nat.lt_or_ge i k with h | h
          · exact HS.out i x h hx
          · have e : i = k := by omega
            subst e
            rw [HK.out] at hx
            cases hx
            exact hq.out (by omega)
        clear HS hq
        go_wp2
        go_roundw
        case rel => exact ⟨k + 1, r, by omega, by go_num, rfl, by omega, by omega, HS2, hb2⟩
        case measure => simp [intOf]; omega
    · go_wp2
      go_ret
      refine ⟨lf, rfl, by omega, by omega, fun _ => ⟨by omega, fun x hx => ?_⟩, hb⟩
      obtain ⟨i, hi, rfl⟩ := List.mem_iff_getElem.1 hx
      exact HS.out i _ (by omega) (List.getElem?_eq_getElem hi)

end Go.Proofs.Ytbceafpodamnfab

/-
  My own. Worlds: measured, copied.
-/
namespace Go.Proofs.Ytbceafpodamnfab
open Go.RowKit Go.Sort

set_option maxRecDepth 100000 in
set_option maxHeartbeats 1000000 in
theorem szWorld_any (l : List Bx) (ap : Option Addr) (cp : Nat) (B : Bk) (a1 a2 a3 : Option Addr) (c1 c2 c3 : Nat) (left : Int) (w : World) (h0 : 0 ≤ left) (h1 : left ≤ 1048576) (hl : l.length ≤ maxLen) (hZ : Sizeds l) (hc : SlX w ap l) (hI : BxsIn w l) (hB : BkAt w a1 a2 a3 B) (hS : B.sized) :
    Calls Try.prog 17 #[.agg #[.slice ap l.length cp, .int .i64 B.now, .slice a1 B.svcs.length c1, .slice a2 B.cps.length c2, .slice a3 B.bts.length c3], .int .i64 left] w fun e w' => ∃ r, e = .returned (.int .i64 r) ∧ -1 ≤ r ∧ r ≤ left ∧ Hid (0 ≤ r → l.length ≤ 1048576 ∧ Smalls l ∧ B.small) ∧ Below w.heap.size w w' := by
  have HC : Hid (SlX w ap l) := hc
  have HI : Hid (BxsIn w l) := hI
  have HB : Hid (BkAt w a1 a2 a3 B) := hB
  clear hc hI hB
  have T0 : Hid _ := heap_alloc_new w (.cells #[.slice ap l.length cp, .int .i64 B.now, .slice a1 B.svcs.length c1, .slice a2 B.cps.length c2, .slice a3 B.bts.length c3] 44)
  have hb0 := below_box w (.cells #[.slice ap l.length cp, .int .i64 B.now, .slice a1 B.svcs.length c1, .slice a2 B.cps.length c2, .slice a3 B.bts.length c3] 44)
  have HS0 : Hid ((w.alloc (.cells #[.slice ap l.length cp, .int .i64 B.now, .slice a1 B.svcs.length c1, .slice a2 B.cps.length c2, .slice a3 B.bts.length c3] 44)).heap.size = w.heap.size + 1) := by show (w.heap.push _).size = _; simp
  go_enter Try.func17, Try.ntmps17
  go_wp2_with fail
  refine (szBookS_any l ap cp left _ h0 h1 hl hZ (HC.out.below hb0) (HI.out.below hb0)).mono ?_
  rintro e w1 ⟨r1, rfl, hr1, hr1', hq1, hb1⟩
  have HB1 : Hid (BkAt w1 a1 a2 a3 B) := (HB.out.below hb0).below hb1
  have hbb1 := hb0.trans (hb1.mono hb0.size)
  have T1 : Hid _ := below_blk hb1 T0.out (by rw [HS0.out]; omega)
  clear T0 HB HC HI HS0 hb0 hb1
  by_cases hn1 : r1 < 0
  · go_wp2
    go_ret
    exact ⟨-1, rfl, by omega, by omega, fun h => absurd h (by omega), hbb1⟩
  have HQ : Hid ((l.length : Int) ≤ left ∧ Smalls l) := hq1.out (by omega)
  clear hq1
  have e1 := blk_cell T1.out 1 rfl
  have e2 := blk_cell T1.out 2 rfl
  have e3 := blk_cell T1.out 3 rfl
  have e4 := blk_cell T1.out 4 rfl
  go_wp2_with fail
  clear e1 e2 e3 e4
  refine (szBook_any B a1 a2 a3 c1 c2 c3 r1 _ (by omega) (by omega) HB1.out hS).mono ?_
  rintro e w2 ⟨r2, rfl, hr2, hr2', hq2, hb2⟩
  have hbb2 := hbb1.trans (hb2.mono hbb1.size)
  by_cases hn2 : r2 < 0
  · go_wp2
    go_ret
    exact ⟨-1, rfl, by omega, by omega, fun h => absurd h (by omega), hbb2⟩
  have HQ2 : Hid B.small := hq2.out (by omega)
  clear hq2
  go_wp2
  go_ret
  exact ⟨r2, rfl, by omega, by omega, fun _ => ⟨by have := HQ.out.1; omega, HQ.out.2, HQ2.out⟩, hbb2⟩

/-- The first books of a row of n lie in it. -/
def FillX (M : List Bx) (n : Nat) (cur : List Value) : Prop := cur.length = n * 4 ∧ ∀ i x, M[i]? = some x → ∀ j, j < 4 → cur[i * 4 + j]? = x.cells[j]?
theorem FillX.step {M : List Bx} {n : Nat} {cur : List Value} (h : FillX M n cur) (hk : M.length < n) (y : Bx) : FillX (M ++ [y]) n (splice cur (M.length * 4) y.cells) := by
  obtain ⟨hlen, hf⟩ := h
  have hy : y.cells.length = 4 := rfl
  have hle : M.length * 4 + 4 ≤ cur.length := by omega
  refine ⟨by rw [length_splice _ _ _ (by omega), hlen], fun i x hx j hj => ?_⟩
  unfold splice
  rcases Nat.lt_or_ge i M.length with hi | hi
  · rw [List.getElem?_append_left hi] at hx
    rw [List.getElem?_append_left (by simp; omega), List.getElem?_take, if_pos (by omega)]
    exact hf i x hx j hj
  · have e : i = M.length := by
      have := (List.getElem?_eq_some_iff.1 hx).1
      simp at this
      omega
    subst e
    have e : x = y := by simpa using hx.symm
    subst e
    rw [List.getElem?_append_right (by simp; omega), List.getElem?_append_left (by simp; omega)]
    congr 1
    simp; omega
theorem bxsAt_of_fill {w : World} {b : Nat} {cur : Array Value} {t : TypeId} {fr : Nat × Nat} {M : List Bx} {n : Nat} (h : w.heap[b]? = some (.cells cur t fr)) (hf : FillX M n cur.toList) : BxsAt w b 0 M := by
  intro i x hx
  have := hf.2 i x hx
  unfold BxAt
  simp only [cell_row h, Nat.zero_add]
  exact ⟨this 0 (by omega), this 1 (by omega), this 2 (by omega), this 3 (by omega)⟩

theorem Try.infoBook : (Try.prog.info? 33).map (fun i => (i.zero, i.size, i.bytes)) = some (some (.agg #[.int .i64 0, .slice none 0 0, .slice none 0 0, .slice none 0 0]), 4, 80) := by kernel_rfl
theorem Try.infosBook : (Try.prog.info? 33).map (·.size) = some 4 := by kernel_rfl
theorem one_Bx (x : Bx) : (#[.int .i64 x.b.now, .slice x.a1 x.b.svcs.length x.c1, .slice x.a2 x.b.cps.length x.c2, .slice x.a3 x.b.bts.length x.c3] : Array Value).all (·.oneCell') = true := by simp [Value.oneCell']

/-- A book of a row whose lists lie in rows of their own, above block g. -/
def OwnX (g : Nat) (w : World) (x : Bx) : Prop := ∃ b1 b2 b3, x.a1 = some ⟨b1, 0, none⟩ ∧ x.a2 = some ⟨b2, 0, none⟩ ∧ x.a3 = some ⟨b3, 0, none⟩ ∧ BkOwn (g + 1) w b1 b2 b3 x.b
theorem OwnX.at {g : Nat} {w : World} {x : Bx} (h : OwnX g w x) : BkAt w x.a1 x.a2 x.a3 x.b := by
  obtain ⟨b1, b2, b3, e1, e2, e3, ho⟩ := h
  rw [e1, e2, e3]
  exact ho.at
theorem OwnX.below {g : Nat} {w w' : World} {x : Bx} (h : OwnX g w x) (hb : Below w.heap.size w w') : OwnX g w' x := by
  obtain ⟨b1, b2, b3, e1, e2, e3, ho⟩ := h
  exact ⟨b1, b2, b3, e1, e2, e3, ho.below hb ho.bts.lt⟩
theorem OwnX.only {g k : Nat} {w w' : World} {x : Bx} (h : OwnX g w x) (on : Only k w w') (hk : k ≤ g) : OwnX g w' x := by
  obtain ⟨b1, b2, b3, e1, e2, e3, ho⟩ := h
  have h1 := ho.lo1
  have h2 := ho.lt12
  have h3 := ho.lt23
  exact ⟨b1, b2, b3, e1, e2, e3, ⟨h1, h2, h3, ho.svcs.blk (on.other _ (by omega)), ho.cps.blk (on.other _ (by omega)), ho.bts.blk (on.other _ (by omega))⟩⟩
def OwnXs (g : Nat) (w : World) (l : List Bx) : Prop := ∀ x ∈ l, OwnX g w x
theorem OwnXs.in {g : Nat} {w : World} {l : List Bx} (h : OwnXs g w l) : BxsIn w l := fun x hx => (h x hx).at
theorem OwnXs.below {g : Nat} {w w' : World} {l : List Bx} (h : OwnXs g w l) (hb : Below w.heap.size w w') : OwnXs g w' l := fun x hx => (h x hx).below hb
theorem OwnXs.only {g k : Nat} {w w' : World} {l : List Bx} (h : OwnXs g w l) (on : Only k w w') (hk : k ≤ g) : OwnXs g w' l := fun x hx => (h x hx).only on hk

theorem BxsAt.only {w w' : World} {b g off : Nat} {l : List Bx} (h : BxsAt w b off l) (on : Only g w w') (hne : b ≠ g) : BxsAt w' b off l := fun i x hx => by
  have hc : ∀ o, w'.cell? ⟨b, o, none⟩ = w.cell? ⟨b, o, none⟩ := fun o => by simp only [World.cell?, on.other b hne]
  have := h i x hx
  unfold BxAt at *
  simp only [hc]
  exact this

set_option maxRecDepth 100000 in
set_option maxHeartbeats 2000000 in
/-- A row of books copied: the new row lies at block w.heap.size; the books in it are the same. -/
theorem toBookS_any (l : List Bx) (ao : Option Addr) (cap : Nat) (w : World) (hl : l.length ≤ 1048576) (hS : Smalls l) (hc : SlX w ao l) (hI : BxsIn w l) :
    Calls Try.prog 45 #[.slice ao l.length cap] w fun e w' => e = .returned (.slice (some ⟨w.heap.size, 0, none⟩) l.length l.length) ∧ w.heap.size < w'.heap.size ∧ (∃ M : List Bx, Hid (M.map (·.b) = l.map (·.b)) ∧ BxsAt w' w.heap.size 0 M ∧ OwnXs w.heap.size w' M) ∧ Below w.heap.size w w' := by
  have HS : Hid _ := hS
  have HI : Hid (BxsIn w l) := hI
  have HC : Hid (SlX w ao l) := hc
  clear hS hI hc
  go_enter Try.func45, Try.ntmps45
  go_wp2_with (at_make; refine wpList_make_at rfl (.tmp 6) (.tmp 6) 47 rfl 33 _ 4 80 Try.underlying47 Try.infoBook l.length rfl rfl (by omega) (by unfold maxLen; omega) ?_; intro w0 hrow0 hsz0 hb0)
  go_loopw [4] (fun iv wr => ∃ (k : Nat), k ≤ l.length ∧ iv = .int .i64 k ∧ w.heap.size < wr.heap.size ∧ Below w.heap.size w wr ∧ ∃ (cur : Array Value) (M : List Bx), Hid (wr.heap[w.heap.size]? = some (.cells cur 33 (0, 0))) ∧ Hid (M.map (·.b) = (l.take k).map (·.b)) ∧ Hid (FillX M l.length cur.toList) ∧ Hid (OwnXs w.heap.size wr M)) (fun i _ => l.length - (intOf i).toNat)
  case atStart => exact ⟨0, by omega, rfl, by rw [hsz0.out]; omega, hb0, _, [], hrow0, rfl, ⟨by rw [Array.length_toList, size_madeCells], fun i s hi => by simp at hi⟩, fun x hx => by cases hx⟩
  case round =>
    obtain ⟨k, hk, rfl, hsz, hb, cur, M, hrow, HM, hfill, HA⟩ := hrel
    by_cases hlt : k < l.length
    · obtain ⟨b, off, ea, hbs, hat⟩ := HC.out (by intro h; rw [h] at hlt; simp at hlt)
      subst ea
      obtain ⟨s, hsk⟩ : ∃ s, l[k]? = some s := ⟨l[k], by simp [hlt]⟩
      have hcs := (hat k s hsk).below hb hbs
      have hsk' : Hid (l[k]? = some s) := hsk
      have HML : Hid (s ∈ l) := List.mem_of_getElem? hsk
      have HMk : Hid (M.length = k) := by
        have := congrArg List.length HM.out
        simp at this
        show M.length = k
        omega
      unfold BxAt at hcs
      obtain ⟨c0, c1, c2, c3⟩ := hcs
      clear hsk hat
      go_wp2_with fail
      refine (toBook_own s.b s.a1 s.a2 s.a3 s.c1 s.c2 s.c3 _ ((HI.out s HML.out).below hb) (HS.out s HML.out)).mono ?_
      rintro e w1 ⟨x1, x2, x3, rfl, hX, hb1⟩
      clear c0 c1 c2 c3
      have HX : Hid (BkOwn wr.heap.size w1 x1 x2 x3 s.b) := hX
      have hb2 := hb.trans (hb1.mono hb.size)
      have hrow1 : Hid (w1.heap[w.heap.size]? = some (.cells cur 33 (0, 0))) := (hb1.block _ hsz).trans hrow.out
      have HA1 : Hid (OwnXs w.heap.size w1 M) := HA.out.below hb1
      have hz1 := hb1.size
      clear hX HA
      have HFIT : Hid (k * 4 + 4 ≤ cur.size) := by have hlen := hfill.out.1; rw [Array.length_toList] at hlen; show k * 4 + 4 ≤ cur.size; omega
      have HONE : Hid ((#[.int .i64 s.b.now, .slice (some ⟨x1, 0, none⟩) s.b.svcs.length s.b.svcs.length, .slice (some ⟨x2, 0, none⟩) s.b.cps.length s.b.cps.length, .slice (some ⟨x3, 0, none⟩) s.b.bts.length s.b.bts.length] : Array Value).all (·.oneCell') = true) := by unfold Hid; simp [Value.oneCell']
      go_wp2_with (refine wpList_store_only rfl 33 (.tmp 21) (.tmp 20) rfl w.heap.size (k * 4) #[.int .i64 s.b.now, .slice (some ⟨x1, 0, none⟩) s.b.svcs.length s.b.svcs.length, .slice (some ⟨x2, 0, none⟩) s.b.cps.length s.b.cps.length, .slice (some ⟨x3, 0, none⟩) s.b.bts.length s.b.bts.length] rfl rfl 33 cur hrow1.out Try.infosBook HFIT.out HONE.out ?_; intro w2 hrow2 on2)
      have HON : Hid (Only w.heap.size w1 w2) := on2
      have hsz2 := on2.size
      have hsz3 : w.heap.size < w2.heap.size := by rw [hsz2]; omega
      have hb4 : Below w.heap.size w w2 := hb2.trans on2.below
      clear on2 hsz2
      have HM2 : Hid ((M ++ [(⟨s.b, some ⟨x1, 0, none⟩, some ⟨x2, 0, none⟩, some ⟨x3, 0, none⟩, s.b.svcs.length, s.b.cps.length, s.b.bts.length⟩ : Bx)]).map (·.b) = (l.take (k + 1)).map (·.b)) := by
        unfold Hid
        rw [List.take_add_one, hsk'.out, List.map_append, List.map_append, HM.out]
        rfl
      have HF2 : Hid (FillX (M ++ [(⟨s.b, some ⟨x1, 0, none⟩, some ⟨x2, 0, none⟩, some ⟨x3, 0, none⟩, s.b.svcs.length, s.b.cps.length, s.b.bts.length⟩ : Bx)]) l.length (splice cur.toList (k * 4) (#[.int .i64 s.b.now, .slice (some ⟨x1, 0, none⟩) s.b.svcs.length s.b.svcs.length, .slice (some ⟨x2, 0, none⟩) s.b.cps.length s.b.cps.length, .slice (some ⟨x3, 0, none⟩) s.b.bts.length s.b.bts.length] : Array Value).toList).toArray.toList) := by
        have := hfill.out.step (by rw [HMk.out]; exact hlt) ⟨s.b, some ⟨x1, 0, none⟩, some ⟨x2, 0, none⟩, some ⟨x3, 0, none⟩, s.b.svcs.length, s.b.cps.length, s.b.bts.length⟩
        rw [HMk.out] at this
        exact this
      have HA2 : Hid (OwnXs w.heap.size w2 (M ++ [(⟨s.b, some ⟨x1, 0, none⟩, some ⟨x2, 0, none⟩, some ⟨x3, 0, none⟩, s.b.svcs.length, s.b.cps.length, s.b.bts.length⟩ : Bx)])) := fun x hx => by
        rcases List.mem_append.1 hx with h | h
        · exact (HA1.out x h).only HON.out (Nat.le_refl _)
        · obtain rfl := List.mem_singleton.1 h
          have hx0 := HX.out
          exact OwnX.only (g := w.heap.size) ⟨x1, x2, x3, rfl, rfl, rfl, ⟨by have := hx0.lo1; omega, hx0.lt12, hx0.lt23, hx0.svcs, hx0.cps, hx0.bts⟩⟩ HON.out (Nat.le_refl _)
      go_roundw
      case rel => exact ⟨k + 1, by omega, by go_num, hsz3, hb4, _, _, hrow2, HM2, HF2, HA2⟩
      case measure => simp [intOf]; omega
    · go_wp2
      go_ret
      have hkl : k = l.length := by omega
      refine ⟨rfl, hsz, ⟨M, ?_, bxsAt_of_fill hrow.out hfill.out, HA.out⟩, hb⟩
      unfold Hid
      rw [HM.out, hkl, List.take_length]

end Go.Proofs.Ytbceafpodamnfab

/-
  My own. A world copied; worlds held equal.
-/
namespace Go.Proofs.Ytbceafpodamnfab
open Go.RowKit Go.Sort

theorem Try.infosWorld : (Try.prog.info? 49).map (·.size) = some 5 := by kernel_rfl
theorem Try.infosBookS : (Try.prog.info? 47).map (·.size) = some 1 := by kernel_rfl

/-- A world that lies in w: its past books (l, at ap) and its book. -/
structure WAt (w : World) (ap : Option Addr) (l : List Bx) (a1 a2 a3 : Option Addr) (B : Bk) : Prop where
  row : SlX w ap l
  ins : BxsIn w l
  book : BkAt w a1 a2 a3 B
theorem WAt.below {w w' : World} {ap : Option Addr} {l : List Bx} {a1 a2 a3 : Option Addr} {B : Bk} (h : WAt w ap l a1 a2 a3 B) (hb : Below w.heap.size w w') : WAt w' ap l a1 a2 a3 B := ⟨h.row.below hb, h.ins.below hb, h.book.below hb⟩
theorem WAt.drew {w : World} {ap : Option Addr} {l : List Bx} {a1 a2 a3 : Option Addr} {B : Bk} (h : WAt w ap l a1 a2 a3 B) : WAt w.drew ap l a1 a2 a3 B := h.below ((Below.refl _ _).drew)

set_option maxRecDepth 100000 in
set_option maxHeartbeats 2000000 in
theorem toWorld_any (l : List Bx) (ap : Option Addr) (cp : Nat) (B : Bk) (a1 a2 a3 : Option Addr) (c1 c2 c3 : Nat) (w : World) (hl : l.length ≤ 1048576) (hS : Smalls l) (hT : B.small) (hW : WAt w ap l a1 a2 a3 B) :
    Calls Try.prog 19 #[.agg #[.slice ap l.length cp, .int .i64 B.now, .slice a1 B.svcs.length c1, .slice a2 B.cps.length c2, .slice a3 B.bts.length c3]] w fun e w' => ∃ (g x1 x2 x3 : Nat) (M : List Bx), e = .returned (.agg #[.slice (some ⟨g, 0, none⟩) l.length l.length, .int .i64 B.now, .slice (some ⟨x1, 0, none⟩) B.svcs.length B.svcs.length, .slice (some ⟨x2, 0, none⟩) B.cps.length B.cps.length, .slice (some ⟨x3, 0, none⟩) B.bts.length B.bts.length]) ∧ Hid (M.map (·.b) = l.map (·.b)) ∧ WAt w' (some ⟨g, 0, none⟩) M (some ⟨x1, 0, none⟩) (some ⟨x2, 0, none⟩) (some ⟨x3, 0, none⟩) B ∧ Below w.heap.size w w' := by
  have HW : Hid (WAt w ap l a1 a2 a3 B) := hW
  have HS : Hid _ := hS
  clear hW hS
  obtain ⟨t0, t1, t2, t3⟩ := three_new w (.cells #[.slice ap l.length cp, .int .i64 B.now, .slice a1 B.svcs.length c1, .slice a2 B.cps.length c2, .slice a3 B.bts.length c3] 44) (.cells #[.slice none 0 0, .int .i64 0, .slice none 0 0, .slice none 0 0, .slice none 0 0] 49) (.cells #[.slice none 0 0, .int .i64 0, .slice none 0 0, .slice none 0 0, .slice none 0 0] 49)
  have hb0 : Below w.heap.size w (((w.alloc (.cells #[.slice ap l.length cp, .int .i64 B.now, .slice a1 B.svcs.length c1, .slice a2 B.cps.length c2, .slice a3 B.bts.length c3] 44)).alloc (.cells #[.slice none 0 0, .int .i64 0, .slice none 0 0, .slice none 0 0, .slice none 0 0] 49)).alloc (.cells #[.slice none 0 0, .int .i64 0, .slice none 0 0, .slice none 0 0, .slice none 0 0] 49)) := (((Below.refl _ _).alloc (Nat.le_refl _) _).alloc (by simp) _).alloc (by simp; omega) _
  obtain ⟨W0, hW0⟩ : ∃ W0, (((w.alloc (.cells #[.slice ap l.length cp, .int .i64 B.now, .slice a1 B.svcs.length c1, .slice a2 B.cps.length c2, .slice a3 B.bts.length c3] 44)).alloc (.cells #[.slice none 0 0, .int .i64 0, .slice none 0 0, .slice none 0 0, .slice none 0 0] 49)).alloc (.cells #[.slice none 0 0, .int .i64 0, .slice none 0 0, .slice none 0 0, .slice none 0 0] 49)) = W0 := ⟨_, rfl⟩
  have K0 : Hid (W0.heap[w.heap.size]? = some (.cells #[.slice ap l.length cp, .int .i64 B.now, .slice a1 B.svcs.length c1, .slice a2 B.cps.length c2, .slice a3 B.bts.length c3] 44)) := hW0 ▸ t0
  have K1 : Hid (W0.heap[w.heap.size + 1]? = some (.cells #[.slice none 0 0, .int .i64 0, .slice none 0 0, .slice none 0 0, .slice none 0 0] 49)) := hW0 ▸ t1
  have K2 : Hid (W0.heap[w.heap.size + 1 + 1]? = some (.cells #[.slice none 0 0, .int .i64 0, .slice none 0 0, .slice none 0 0, .slice none 0 0] 49)) := hW0 ▸ t2
  have HSZ : Hid (W0.heap.size = w.heap.size + 1 + 1 + 1) := hW0 ▸ t3
  have HB0 : Hid (Below w.heap.size w W0) := hW0 ▸ hb0
  clear t0 t1 t2 t3 hb0
  have e0 := blk_cell K0.out 0 rfl
  go_enter Try.func19, Try.ntmps19
  go_wp2_with fail
  clear hW0 e0
  refine (toBookS_any l ap cp _ hl HS.out (HW.out.row.below HB0.out) (HW.out.ins.below HB0.out)).mono ?_
  rintro e w1 ⟨rfl, hz1, ⟨M, HM, hat, hown⟩, hb1⟩
  have HAT : Hid (BxsAt w1 (w.heap.size + 1 + 1 + 1) 0 M) := by rw [← HSZ.out]; exact hat
  have HOWN : Hid (OwnXs (w.heap.size + 1 + 1 + 1) w1 M) := by rw [← HSZ.out]; exact hown
  have HZ1 : Hid (w.heap.size + 1 + 1 + 1 < w1.heap.size) := by rw [← HSZ.out]; exact hz1
  have A1 : Hid _ := below_blk hb1 K0.out (by rw [HSZ.out]; omega)
  have R1 : Hid _ := below_blk hb1 K1.out (by rw [HSZ.out]; omega)
  have O1 : Hid _ := below_blk hb1 K2.out (by rw [HSZ.out]; omega)
  have HB1 : Hid (Below w.heap.size w w1) := HB0.out.trans (hb1.mono HB0.out.size)
  rw [HSZ.out]
  clear hat hown hz1 hb1 K0 K1 K2 HB0 HSZ
  go_upto_region 3 with (refine wpList_store_one rfl 47 (.tmp 7) (.tmp 6) rfl (w.heap.size + 1 + 1) 0 _ rfl rfl Try.infosBookS rfl rfl 49 _ O1.out (by decide) ?_; intro w2 O2 on2)
  have O2' : Hid (w2.heap[w.heap.size + 1 + 1]? = some (.cells #[.slice (some ⟨w.heap.size + 1 + 1 + 1, 0, none⟩) l.length l.length, .int .i64 0, .slice none 0 0, .slice none 0 0, .slice none 0 0] 49 (0, 0))) := O2.out
  have A2 : Hid (w2.heap[w.heap.size]? = some (.cells #[.slice ap l.length cp, .int .i64 B.now, .slice a1 B.svcs.length c1, .slice a2 B.cps.length c2, .slice a3 B.bts.length c3] 44 (0, 0))) := (on2.other _ (by omega)).trans A1.out
  have R2 : Hid (w2.heap[w.heap.size + 1]? = some (.cells #[.slice none 0 0, .int .i64 0, .slice none 0 0, .slice none 0 0, .slice none 0 0] 49 (0, 0))) := (on2.other _ (by omega)).trans R1.out
  have HAT2 : Hid (BxsAt w2 (w.heap.size + 1 + 1 + 1) 0 M) := HAT.out.only on2 (by omega)
  have HOWN2 : Hid (OwnXs (w.heap.size + 1 + 1 + 1) w2 M) := HOWN.out.only on2 (by omega)
  have HZ2 : Hid (w.heap.size + 1 + 1 + 1 < w2.heap.size) := by unfold Hid; rw [on2.size]; exact HZ1.out
  have HB2 : Hid (Below w.heap.size w w2) := HB1.out.trans (on2.below.mono (by omega))
  clear O1 O2 A1 R1 HAT HOWN HZ1 HB1 on2
  have e1 := blk_cell A2.out 1 rfl
  have e2 := blk_cell A2.out 2 rfl
  have e3 := blk_cell A2.out 3 rfl
  have e4 := blk_cell A2.out 4 rfl
  go_wp2_with fail
  clear e1 e2 e3 e4
  refine (toBook_own B a1 a2 a3 c1 c2 c3 _ (HW.out.book.below HB2.out) hT).mono ?_
  rintro e w3 ⟨x1, x2, x3, rfl, hX, hb3⟩
  have HX : Hid (BkOwn w2.heap.size w3 x1 x2 x3 B) := hX
  have HZ3 : Hid (w.heap.size + 1 + 1 + 1 < w3.heap.size) := Nat.lt_of_lt_of_le HZ2.out hb3.size
  have O3 : Hid _ := below_blk hb3 O2'.out (by have := HZ2.out; omega)
  have R3 : Hid _ := below_blk hb3 R2.out (by have := HZ2.out; omega)
  have HAT3 : Hid (BxsAt w3 (w.heap.size + 1 + 1 + 1) 0 M) := fun i x hx => (HAT2.out i x hx).below hb3 HZ2.out
  have HOWN3 : Hid (OwnXs (w.heap.size + 1 + 1 + 1) w3 M) := HOWN2.out.below hb3
  have HB3 : Hid (Below w.heap.size w w3) := HB2.out.trans (hb3.mono HB2.out.size)
  clear hX hb3 O2' R2 A2 HAT2 HOWN2 HB2
  go_upto_region 4 with (refine wpList_store_only rfl 33 (.tmp 11) (.tmp 10) rfl (w.heap.size + 1 + 1) 1 #[.int .i64 B.now, .slice (some ⟨x1, 0, none⟩) B.svcs.length B.svcs.length, .slice (some ⟨x2, 0, none⟩) B.cps.length B.cps.length, .slice (some ⟨x3, 0, none⟩) B.bts.length B.bts.length] rfl rfl 49 _ O3.out Try.infosBook (by simp) (by simp [Value.oneCell']) ?_; intro w4 O4 on4)
  have O4' : Hid (w4.heap[w.heap.size + 1 + 1]? = some (.cells #[.slice (some ⟨w.heap.size + 1 + 1 + 1, 0, none⟩) l.length l.length, .int .i64 B.now, .slice (some ⟨x1, 0, none⟩) B.svcs.length B.svcs.length, .slice (some ⟨x2, 0, none⟩) B.cps.length B.cps.length, .slice (some ⟨x3, 0, none⟩) B.bts.length B.bts.length] 49 (0, 0))) := O4.out
  have R4 : Hid (w4.heap[w.heap.size + 1]? = some (.cells #[.slice none 0 0, .int .i64 0, .slice none 0 0, .slice none 0 0, .slice none 0 0] 49 (0, 0))) := (on4.other _ (by omega)).trans R3.out
  have HON4 : Hid (Only (w.heap.size + 1 + 1) w3 w4) := on4
  clear on4 O4 O3 R3
  go_wp2_with (first
    | (refine wpList_load_row rfl 49 (.tmp 3) rfl (w.heap.size + 1 + 1) rfl 49 #[.slice (some ⟨w.heap.size + 1 + 1 + 1, 0, none⟩) l.length l.length, .int .i64 B.now, .slice (some ⟨x1, 0, none⟩) B.svcs.length B.svcs.length, .slice (some ⟨x2, 0, none⟩) B.cps.length B.cps.length, .slice (some ⟨x3, 0, none⟩) B.bts.length B.bts.length] (0, 0) _ O4'.out Try.underlying49 rfl Try.infosWorld ?_)
    | (refine wpList_store_only rfl 49 (.tmp 2) (.tmp 12) rfl (w.heap.size + 1) 0 #[.slice (some ⟨w.heap.size + 1 + 1 + 1, 0, none⟩) l.length l.length, .int .i64 B.now, .slice (some ⟨x1, 0, none⟩) B.svcs.length B.svcs.length, .slice (some ⟨x2, 0, none⟩) B.cps.length B.cps.length, .slice (some ⟨x3, 0, none⟩) B.bts.length B.bts.length] rfl rfl 49 _ R4.out Try.infosWorld (by simp) (by simp [Value.oneCell']) ?_; intro w5 R5 on5))
  have R5' : Hid (w5.heap[w.heap.size + 1]? = some (.cells #[.slice (some ⟨w.heap.size + 1 + 1 + 1, 0, none⟩) l.length l.length, .int .i64 B.now, .slice (some ⟨x1, 0, none⟩) B.svcs.length B.svcs.length, .slice (some ⟨x2, 0, none⟩) B.cps.length B.cps.length, .slice (some ⟨x3, 0, none⟩) B.bts.length B.bts.length] 49 (0, 0))) := R5.out
  have hx0 := HX.out
  have h1 := hx0.lo1
  have h2 := hx0.lt12
  have h3 := hx0.lt23
  have hz2 := HZ2.out
  refine bodyPost_ret (v := .agg #[.slice (some ⟨w.heap.size + 1 + 1 + 1, 0, none⟩) l.length l.length, .int .i64 B.now, .slice (some ⟨x1, 0, none⟩) B.svcs.length B.svcs.length, .slice (some ⟨x2, 0, none⟩) B.cps.length B.cps.length, .slice (some ⟨x3, 0, none⟩) B.bts.length B.bts.length]) (results_cell_row rfl _ _ (w.heap.size + 1) _ _ _ _ rfl R5'.out Try.underlying49 rfl Try.infosWorld) rfl ⟨_, x1, x2, x3, rfl, M, HM, ⟨?_, ?_, ?_⟩, ?_⟩
  · exact fun _ => ⟨_, 0, rfl, by rw [on5.size, HON4.out.size]; exact HZ3.out, (HAT3.out.only HON4.out (by omega)).only on5 (by omega)⟩
  · exact ((HOWN3.out.only HON4.out (by omega)).only on5 (by omega)).in
  · exact BkOwn.at (lo := w2.heap.size) ⟨h1, h2, h3, (hx0.svcs.blk (HON4.out.other _ (by omega))).blk (on5.other _ (by omega)), (hx0.cps.blk (HON4.out.other _ (by omega))).blk (on5.other _ (by omega)), (hx0.bts.blk (HON4.out.other _ (by omega))).blk (on5.other _ (by omega))⟩
  · exact (HB3.out.trans (HON4.out.below.mono (by omega))).trans (on5.below.mono (by omega))

theorem BxAt.grown {w : World} {b o : Nat} {x : Bx} (h : BxAt w b o x) : (∀ p : Regrown, (grow (redrawn w p.d) p.os).cell? ⟨b, o, none⟩ = some (.int .i64 x.b.now)) ∧ (∀ p : Regrown, (grow (redrawn w p.d) p.os).cell? ⟨b, o + 1, none⟩ = some (.slice x.a1 x.b.svcs.length x.c1)) ∧ (∀ p : Regrown, (grow (redrawn w p.d) p.os).cell? ⟨b, o + 2, none⟩ = some (.slice x.a2 x.b.cps.length x.c2)) ∧ (∀ p : Regrown, (grow (redrawn w p.d) p.os).cell? ⟨b, o + 3, none⟩ = some (.slice x.a3 x.b.bts.length x.c3)) := by
  unfold BxAt at h
  obtain ⟨c0, c1, c2, c3⟩ := h
  exact ⟨fun p => cell_regrown c0 p.d p.os, fun p => cell_regrown c1 p.d p.os, fun p => cell_regrown c2 p.d p.os, fun p => cell_regrown c3 p.d p.os⟩

set_option maxRecDepth 100000 in
set_option maxHeartbeats 2000000 in
theorem eqBookS_same (l m : List Bx) (n : Nat) (hn : l.length = n) (ao ap : Option Addr) (cap cap' : Nat) (w : World) (hl : n ≤ 1048576) (hS : Smalls l) (hm : Hid (m.map (·.b) = l.map (·.b))) (h1 : SlX w ao l) (h2 : SlX w ap m) (i1 : BxsIn w l) (i2 : BxsIn w m) :
    Calls Try.prog 50 #[.slice ao n cap, .slice ap n cap'] w fun e w' => e = .returned (.bool true) ∧ Below w.heap.size w w' := by
  have HN : Hid (l.length = n) := hn
  have HL : Hid (m.length = l.length) := by unfold Hid; have := congrArg List.length hm.out; simpa using this
  have H1 : Hid (SlX w ao l) := h1
  have H2 : Hid (SlX w ap m) := h2
  have I1 : Hid (BxsIn w l) := i1
  have I2 : Hid (BxsIn w m) := i2
  have HS : Hid _ := hS
  clear h1 h2 i1 i2 hS hn
  go_enter Try.func50, Try.ntmps50
  go_wp2
  go_loopw [5] (fun iv wr => ∃ (k : Nat), k ≤ n ∧ iv = .int .i64 k ∧ Below w.heap.size w wr) (fun i _ => n - (intOf i).toNat)
  case atStart => exact ⟨0, by omega, rfl, Below.refl _ _⟩
  case round =>
    obtain ⟨k, hk, rfl, hb⟩ := hrel
    by_cases hlt : k < n
    · have hne : l ≠ [] := by intro h; have := HN.out; rw [h] at this; simp at this; omega
      have hne2 : m ≠ [] := by intro h; have := HL.out; rw [h] at this; have := HN.out; simp at *; omega
      obtain ⟨b, off, ea, hbs, hat⟩ := H1.out hne
      obtain ⟨b', off', ea', hbs', hat'⟩ := H2.out hne2
      subst ea ea'
      obtain ⟨s, hsk⟩ : ∃ s, l[k]? = some s := ⟨l[k]'(by have := HN.out; omega), by rw [List.getElem?_eq_getElem]⟩
      obtain ⟨t, htk⟩ : ∃ t, m[k]? = some t := ⟨m[k]'(by have := HN.out; have := HL.out; omega), by rw [List.getElem?_eq_getElem]⟩
      have HE : Hid (t.b = s.b) := by
        unfold Hid
        have := congrArg (fun z : List Bk => z[k]?) hm.out
        simpa [hsk, htk] using this
      obtain ⟨B, x1, x2, x3, y1, y2, y3⟩ := s
      obtain ⟨B', z1, z2, z3, u1, u2, u3⟩ := t
      have HE' : B' = B := HE.out
      subst HE'
      obtain ⟨p0, p1, p2, p3⟩ := ((hat k _ hsk).below hb hbs).grown
      obtain ⟨q0, q1, q2, q3⟩ := ((hat' k _ htk).below hb hbs').grown
      have hM1 := List.mem_of_getElem? hsk
      have hM2 := List.mem_of_getElem? htk
      have J1 : Hid (BkAt wr x1 x2 x3 B') := (I1.out _ hM1).below hb
      have J2 : Hid (BkAt wr z1 z2 z3 B') := (I2.out _ hM2).below hb
      have HB' : Hid B'.small := HS.out _ hM1
      clear hsk htk hat hat' hne hne2 hM1 hM2
      go_wp2
      refine wp_region_quiet_below (by kernel_rfl) (by kernel_rfl) ?_
      repeat (first | go_big_quiet_step (exact Calls.regrown_of (eqBook_same B' x1 x2 x3 z1 z2 z3 y1 y2 y3 u1 u2 u3 _ HB'.out (J1.out.grown _ _) (J2.out.grown _ _))) | quiet_step (exact Calls.regrown_of (eqBook_same B' x1 x2 x3 z1 z2 z3 y1 y2 y3 u1 u2 u3 _ HB'.out (J1.out.grown _ _) (J2.out.grown _ _))))
      refine wpQuiet_nil ?_
      intro w1 hw'
      obtain ⟨⟨dq, osq⟩, hw''⟩ := hw'
      have hb1 : Below wr.heap.size wr w1 := by rw [hw'']; exact below_regrown _ _ _
      clear hw'' p0 p1 p2 p3 q0 q1 q2 q3
      have hb2 := hb.trans (hb1.mono hb.size)
      go_wp2
      go_roundw
      case rel => exact ⟨k + 1, by omega, by go_num, hb2⟩
      case measure => simp [intOf]; omega
    · go_wp2
      go_ret
      exact ⟨rfl, hb⟩

set_option maxRecDepth 100000 in
set_option maxHeartbeats 2000000 in
theorem eqWorld_same (l m : List Bx) (n : Nat) (hn : l.length = n) (ap aq : Option Addr) (cp cq : Nat) (B : Bk) (a1 a2 a3 x1 x2 x3 : Option Addr) (c1 c2 c3 y1 y2 y3 : Nat) (w : World) (hl : n ≤ 1048576) (hS : Smalls l) (hT : B.small) (hm : Hid (m.map (·.b) = l.map (·.b))) (hA : WAt w ap l a1 a2 a3 B) (hX : WAt w aq m x1 x2 x3 B) :
    Calls Try.prog 21 #[.agg #[.slice ap n cp, .int .i64 B.now, .slice a1 B.svcs.length c1, .slice a2 B.cps.length c2, .slice a3 B.bts.length c3], .agg #[.slice aq n cq, .int .i64 B.now, .slice x1 B.svcs.length y1, .slice x2 B.cps.length y2, .slice x3 B.bts.length y3]] w fun e w' => e = .returned (.bool true) ∧ Below w.heap.size w w' := by
  have HA : Hid (WAt w ap l a1 a2 a3 B) := hA
  have HX : Hid (WAt w aq m x1 x2 x3 B) := hX
  have HN : Hid (l.length = n) := hn
  have HS : Hid _ := hS
  clear hA hX hn hS
  obtain ⟨t0, t1, t2⟩ := two_new w (.cells #[.slice ap n cp, .int .i64 B.now, .slice a1 B.svcs.length c1, .slice a2 B.cps.length c2, .slice a3 B.bts.length c3] 49) (.cells #[.slice aq n cq, .int .i64 B.now, .slice x1 B.svcs.length y1, .slice x2 B.cps.length y2, .slice x3 B.bts.length y3] 49)
  have hb0 : Below w.heap.size w ((w.alloc (.cells #[.slice ap n cp, .int .i64 B.now, .slice a1 B.svcs.length c1, .slice a2 B.cps.length c2, .slice a3 B.bts.length c3] 49)).alloc (.cells #[.slice aq n cq, .int .i64 B.now, .slice x1 B.svcs.length y1, .slice x2 B.cps.length y2, .slice x3 B.bts.length y3] 49)) := ((Below.refl _ _).alloc (Nat.le_refl _) _).alloc (by simp) _
  have T0 : Hid _ := t0
  have T1 : Hid _ := t1
  have T2 : Hid _ := t2
  clear t0 t1 t2
  go_enter Try.func21, Try.ntmps21
  go_wp2_with fail
  refine (eqBookS_same l m n HN.out ap aq cp cq _ hl HS.out hm (HA.out.row.below hb0) (HX.out.row.below hb0) (HA.out.ins.below hb0) (HX.out.ins.below hb0)).mono ?_
  rintro e w1 ⟨rfl, hb1⟩
  have hbb1 := hb0.trans (hb1.mono hb0.size)
  have U0 : Hid _ := below_blk hb1 T0.out (by rw [T2.out]; omega)
  have U1 : Hid _ := below_blk hb1 T1.out (by rw [T2.out]; omega)
  clear T0 T1 T2 hb0 hb1
  have e1 := blk_cell U0.out 1 rfl
  have e2 := blk_cell U0.out 2 rfl
  have e3 := blk_cell U0.out 3 rfl
  have e4 := blk_cell U0.out 4 rfl
  have f1 := blk_cell U1.out 1 rfl
  have f2 := blk_cell U1.out 2 rfl
  have f3 := blk_cell U1.out 3 rfl
  have f4 := blk_cell U1.out 4 rfl
  go_wp2_with fail
  clear e1 e2 e3 e4 f1 f2 f3 f4
  refine (eqBook_same B a1 a2 a3 x1 x2 x3 c1 c2 c3 y1 y2 y3 _ hT (HA.out.book.below hbb1) (HX.out.book.below hbb1)).mono ?_
  rintro e w2 ⟨rfl, hb2⟩
  have hbb2 := hbb1.trans (hb2.mono hbb1.size)
  go_wp2
  go_ret
  exact ⟨rfl, hbb2⟩

end Go.Proofs.Ytbceafpodamnfab
