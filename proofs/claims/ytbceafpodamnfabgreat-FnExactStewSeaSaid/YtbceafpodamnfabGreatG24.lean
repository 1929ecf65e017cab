/-
  My own: Ma, Mb, Mc.
-/
import Derived.Test.YtbceafpodamnfabGreatG01
import Derived.Test.YtbceafpodamnfabGreatG23
import Derived.Test.YtbceafpodamnfabGreatG05
import Derived.Laws.BytesString
import Derived.Laws.Concat
set_option linter.unusedVariables false
set_option linter.unusedSimpArgs false
namespace Go.Proofs.YtbceafpodamnfabGreat
open Go.RowKit Go.Sort
def OwnS (w : World) (b : Nat) (l : List Svc) : Prop := ∃ cur : Array Value, w.heap[b]? = some (.cells cur 48 (0, 0)) ∧ Filled Svc.cells 13 l l.length cur.toList
theorem OwnS.blk {w w' : World} {b : Nat} {l : List Svc} (h : OwnS w b l) (hb : w'.heap[b]? = w.heap[b]?) : OwnS w' b l := let ⟨cur, h1, h2⟩ := h; ⟨cur, hb.trans h1, h2⟩
theorem OwnS.lt {w : World} {b : Nat} {l : List Svc} (h : OwnS w b l) : b < w.heap.size := let ⟨_, h1, _⟩ := h; (Array.getElem?_eq_some_iff.1 h1).1
theorem OwnS.sl {w : World} {b : Nat} {l : List Svc} (h : OwnS w b l) : SlS w (some ⟨b, 0, none⟩) l := fun _ => let ⟨_, h1, h2⟩ := h; ⟨b, 0, rfl, (Array.getElem?_eq_some_iff.1 h1).1, svcsAt_of_filled h1 h2⟩
def OwnC (w : World) (b : Nat) (l : List Cp) : Prop := ∃ cur : Array Value, w.heap[b]? = some (.cells cur 88 (0, 0)) ∧ Filled Cp.cells 7 l l.length cur.toList
theorem OwnC.blk {w w' : World} {b : Nat} {l : List Cp} (h : OwnC w b l) (hb : w'.heap[b]? = w.heap[b]?) : OwnC w' b l := let ⟨cur, h1, h2⟩ := h; ⟨cur, hb.trans h1, h2⟩
theorem OwnC.lt {w : World} {b : Nat} {l : List Cp} (h : OwnC w b l) : b < w.heap.size := let ⟨_, h1, _⟩ := h; (Array.getElem?_eq_some_iff.1 h1).1
theorem OwnC.sl {w : World} {b : Nat} {l : List Cp} (h : OwnC w b l) : SlC w (some ⟨b, 0, none⟩) l := fun _ => let ⟨_, h1, h2⟩ := h; ⟨b, 0, rfl, (Array.getElem?_eq_some_iff.1 h1).1, cpsAt_of_filled h1 h2⟩
def OwnB (w : World) (b : Nat) (l : List Bt) : Prop := ∃ cur : Array Value, w.heap[b]? = some (.cells cur 86 (0, 0)) ∧ Filled Bt.cells 2 l l.length cur.toList
theorem OwnB.blk {w w' : World} {b : Nat} {l : List Bt} (h : OwnB w b l) (hb : w'.heap[b]? = w.heap[b]?) : OwnB w' b l := let ⟨cur, h1, h2⟩ := h; ⟨cur, hb.trans h1, h2⟩
theorem OwnB.lt {w : World} {b : Nat} {l : List Bt} (h : OwnB w b l) : b < w.heap.size := let ⟨_, h1, _⟩ := h; (Array.getElem?_eq_some_iff.1 h1).1
theorem OwnB.sl {w : World} {b : Nat} {l : List Bt} (h : OwnB w b l) : SlB w (some ⟨b, 0, none⟩) l := fun _ => let ⟨_, h1, h2⟩ := h; ⟨b, 0, rfl, (Array.getElem?_eq_some_iff.1 h1).1, btsAt_of_filled h1 h2⟩
def OwnE (w : World) (b : Nat) (l : List En) : Prop := ∃ cur : Array Value, w.heap[b]? = some (.cells cur 118 (0, 0)) ∧ Filled En.cells 2 l l.length cur.toList
theorem OwnE.blk {w w' : World} {b : Nat} {l : List En} (h : OwnE w b l) (hb : w'.heap[b]? = w.heap[b]?) : OwnE w' b l := let ⟨cur, h1, h2⟩ := h; ⟨cur, hb.trans h1, h2⟩
theorem OwnE.lt {w : World} {b : Nat} {l : List En} (h : OwnE w b l) : b < w.heap.size := let ⟨_, h1, _⟩ := h; (Array.getElem?_eq_some_iff.1 h1).1
theorem OwnE.sl {w : World} {b : Nat} {l : List En} (h : OwnE w b l) : SlE w (some ⟨b, 0, none⟩) l := fun _ => let ⟨_, h1, h2⟩ := h; ⟨b, 0, rfl, (Array.getElem?_eq_some_iff.1 h1).1, ensAt_of_filled h1 h2⟩
set_option maxHeartbeats 1000000 in
theorem toServiceS_own (l : List Svc) (ao : Option Addr) (cap : Nat) (w : World) (hl : l.length ≤ 1048576)
  (hc : l ≠ [] → ∃ b off, ao = some ⟨b, off, none⟩ ∧ b < w.heap.size ∧ SvcsAt w b off l) :
  Calls Tryz.prog 24 #[.slice ao l.length cap] w fun e w' => e = .returned (.slice (some ⟨w.heap.size, 0, none⟩) l.length l.length) ∧ w.heap.size < w'.heap.size ∧ OwnS w' w.heap.size l ∧ Below w.heap.size w w' := by
 go_enter Tryz.func24, Tryz.ntmps24
 go_wp2_with (at_make; refine wpList_make_at rfl (.tmp 6) (.tmp 6) 30 rfl 48 _ 13 112 Tryz.underlying30 Tryz.infoService l.length rfl rfl (by omega) (by unfold maxLen; omega) ?_; intro w0 hrow0 hsz0 hb0)
 go_loopw [4] (fun iv wr => ∃ (k : Nat), k ≤ l.length ∧ iv = .int .i64 k ∧ w.heap.size < wr.heap.size ∧ Below w.heap.size w wr ∧ ∃ cur : Array Value, Hid (wr.heap[w.heap.size]? = some (.cells cur 48 (0, 0))) ∧ Hid (Filled Svc.cells 13 l k cur.toList)) (fun i _ => l.length - (intOf i).toNat)
 case atStart => exact ⟨0, by omega, rfl, by rw [hsz0.out]; omega, hb0, _, hrow0, ⟨by rw [Array.length_toList, size_madeCells], fun i s hi => absurd hi (by omega)⟩⟩
 case round =>
  obtain ⟨k, hk, rfl, hsz, hb, cur, hrow, hfill⟩ := hrel
  by_cases hlt : k < l.length
  ·obtain ⟨b, off, rfl, hbs, hat⟩ := hc (by intro h; rw [h] at hlt; simp at hlt)
   obtain ⟨s, hsk⟩ : ∃ s, l[k]? = some s := ⟨l[k], by simp [hlt]⟩
   have hcs := (hat k s hsk).below hb hbs
   have hsk' : Hid (l[k]? = some s) := hsk
   unfold SvcAt at hcs
   obtain ⟨c0, c1, c2, c3, c4, c5, c6, c7, c8, c9, c10, c11, c12⟩ := hcs
   clear hsk hat hc
   go_wp2_with fail
   refine (toService_any s _).mono ?_
   rintro e w1 ⟨rfl, hb1⟩
   clear c0 c1 c2 c3 c4 c5 c6 c7 c8 c9 c10 c11 c12
   have hb2 := hb.trans (hb1.mono hb.size)
   have hrow1 : Hid (w1.heap[w.heap.size]? = some (.cells cur 48 (0, 0))) := (hb1.block _ hsz).trans hrow.out
   have hlen := hfill.out.1
   have hfit : k * 13 + 13 ≤ cur.size := by rw [Array.length_toList] at hlen; omega
   go_wp2_with (refine wpList_store_at rfl 48 (.tmp 21) (.tmp 20) rfl w.heap.size (k * 13) #[.string s.name, .int .i64 s.version, .bool s.gone, .int .i64 s.image, .int .i64 s.want, .int .i64 s.down, .int .i64 s.over, .int .i64 s.next, .int .i64 s.per, .int .i64 s.least, .int .i64 s.most, .int .i64 s.load, .int .i64 s.cool] rfl rfl 48 cur hrow1.out Tryz.infosService hfit (one_Svc s) ?_; intro w2 hrow2 hsz2 hb3)
   have hsz3 : w.heap.size < w2.heap.size := by rw [hsz2.out]; exact Nat.lt_of_lt_of_le hsz hb1.size
   have hb4 : Below w.heap.size w w2 := hb2.trans hb3
   go_roundw
   case rel => exact ⟨k + 1, by omega, by go_num, hsz3, hb4, _, hrow2, hfill.out.step hsk'.out rfl⟩
   case measure => simp [intOf]; omega
  ·go_wp2
   go_ret
   have hkl : k = l.length := by omega
   rw [hkl] at hfill
   exact ⟨rfl, hsz, ⟨_, hrow.out, hfill.out⟩, hb⟩
set_option maxHeartbeats 1000000 in
theorem toCopyS_own (l : List Cp) (ao : Option Addr) (cap : Nat) (w : World) (hl : l.length ≤ 1048576)
  (hc : l ≠ [] → ∃ b off, ao = some ⟨b, off, none⟩ ∧ b < w.heap.size ∧ CpsAt w b off l) :
  Calls Tryz.prog 25 #[.slice ao l.length cap] w fun e w' => e = .returned (.slice (some ⟨w.heap.size, 0, none⟩) l.length l.length) ∧ w.heap.size < w'.heap.size ∧ OwnC w' w.heap.size l ∧ Below w.heap.size w w' := by
 go_enter Tryz.func25, Tryz.ntmps25
 go_wp2_with (at_make; refine wpList_make_at rfl (.tmp 6) (.tmp 6) 31 rfl 88 _ 7 72 Tryz.underlying31 Tryz.infoCopy l.length rfl rfl (by omega) (by unfold maxLen; omega) ?_; intro w0 hrow0 hsz0 hb0)
 go_loopw [4] (fun iv wr => ∃ (k : Nat), k ≤ l.length ∧ iv = .int .i64 k ∧ w.heap.size < wr.heap.size ∧ Below w.heap.size w wr ∧ ∃ cur : Array Value, Hid (wr.heap[w.heap.size]? = some (.cells cur 88 (0, 0))) ∧ Hid (Filled Cp.cells 7 l k cur.toList)) (fun i _ => l.length - (intOf i).toNat)
 case atStart => exact ⟨0, by omega, rfl, by rw [hsz0.out]; omega, hb0, _, hrow0, ⟨by rw [Array.length_toList, size_madeCells], fun i s hi => absurd hi (by omega)⟩⟩
 case round =>
  obtain ⟨k, hk, rfl, hsz, hb, cur, hrow, hfill⟩ := hrel
  by_cases hlt : k < l.length
  ·obtain ⟨b, off, rfl, hbs, hat⟩ := hc (by intro h; rw [h] at hlt; simp at hlt)
   obtain ⟨s, hsk⟩ : ∃ s, l[k]? = some s := ⟨l[k], by simp [hlt]⟩
   have hcs := (hat k s hsk).below hb hbs
   have hsk' : Hid (l[k]? = some s) := hsk
   unfold CpAt at hcs
   obtain ⟨c0, c1, c2, c3, c4, c5, c6⟩ := hcs
   clear hsk hat hc
   go_wp2_with fail
   refine (toCopy_any s _).mono ?_
   rintro e w1 ⟨rfl, hb1⟩
   clear c0 c1 c2 c3 c4 c5 c6
   have hb2 := hb.trans (hb1.mono hb.size)
   have hrow1 : Hid (w1.heap[w.heap.size]? = some (.cells cur 88 (0, 0))) := (hb1.block _ hsz).trans hrow.out
   have hlen := hfill.out.1
   have hfit : k * 7 + 7 ≤ cur.size := by rw [Array.length_toList] at hlen; omega
   go_wp2_with (refine wpList_store_at rfl 88 (.tmp 21) (.tmp 20) rfl w.heap.size (k * 7) #[.string s.service, .int .i64 s.number, .int .i64 s.version, .int .i64 s.image, .int .i64 s.state, .bool s.ending, .string s.berth] rfl rfl 88 cur hrow1.out Tryz.infosCopy hfit (one_Cp s) ?_; intro w2 hrow2 hsz2 hb3)
   have hsz3 : w.heap.size < w2.heap.size := by rw [hsz2.out]; exact Nat.lt_of_lt_of_le hsz hb1.size
   have hb4 : Below w.heap.size w w2 := hb2.trans hb3
   go_roundw
   case rel => exact ⟨k + 1, by omega, by go_num, hsz3, hb4, _, hrow2, hfill.out.step hsk'.out rfl⟩
   case measure => simp [intOf]; omega
  ·go_wp2
   go_ret
   have hkl : k = l.length := by omega
   rw [hkl] at hfill
   exact ⟨rfl, hsz, ⟨_, hrow.out, hfill.out⟩, hb⟩
set_option maxHeartbeats 1000000 in
theorem toBerthS_own (l : List Bt) (ao : Option Addr) (cap : Nat) (w : World) (hl : l.length ≤ 1048576)
  (hc : l ≠ [] → ∃ b off, ao = some ⟨b, off, none⟩ ∧ b < w.heap.size ∧ BtsAt w b off l) :
  Calls Tryz.prog 26 #[.slice ao l.length cap] w fun e w' => e = .returned (.slice (some ⟨w.heap.size, 0, none⟩) l.length l.length) ∧ w.heap.size < w'.heap.size ∧ OwnB w' w.heap.size l ∧ Below w.heap.size w w' := by
 go_enter Tryz.func26, Tryz.ntmps26
 go_wp2_with (at_make; refine wpList_make_at rfl (.tmp 6) (.tmp 6) 32 rfl 86 _ 2 24 Tryz.underlying32 Tryz.infoBerth l.length rfl rfl (by omega) (by unfold maxLen; omega) ?_; intro w0 hrow0 hsz0 hb0)
 go_loopw [4] (fun iv wr => ∃ (k : Nat), k ≤ l.length ∧ iv = .int .i64 k ∧ w.heap.size < wr.heap.size ∧ Below w.heap.size w wr ∧ ∃ cur : Array Value, Hid (wr.heap[w.heap.size]? = some (.cells cur 86 (0, 0))) ∧ Hid (Filled Bt.cells 2 l k cur.toList)) (fun i _ => l.length - (intOf i).toNat)
 case atStart => exact ⟨0, by omega, rfl, by rw [hsz0.out]; omega, hb0, _, hrow0, ⟨by rw [Array.length_toList, size_madeCells], fun i s hi => absurd hi (by omega)⟩⟩
 case round =>
  obtain ⟨k, hk, rfl, hsz, hb, cur, hrow, hfill⟩ := hrel
  by_cases hlt : k < l.length
  ·obtain ⟨b, off, rfl, hbs, hat⟩ := hc (by intro h; rw [h] at hlt; simp at hlt)
   obtain ⟨s, hsk⟩ : ∃ s, l[k]? = some s := ⟨l[k], by simp [hlt]⟩
   have hcs := (hat k s hsk).below hb hbs
   have hsk' : Hid (l[k]? = some s) := hsk
   unfold BtAt at hcs
   obtain ⟨c0, c1⟩ := hcs
   clear hsk hat hc
   go_wp2_with fail
   refine (toBerth_any s _).mono ?_
   rintro e w1 ⟨rfl, hb1⟩
   clear c0 c1
   have hb2 := hb.trans (hb1.mono hb.size)
   have hrow1 : Hid (w1.heap[w.heap.size]? = some (.cells cur 86 (0, 0))) := (hb1.block _ hsz).trans hrow.out
   have hlen := hfill.out.1
   have hfit : k * 2 + 2 ≤ cur.size := by rw [Array.length_toList] at hlen; omega
   go_wp2_with (refine wpList_store_at rfl 86 (.tmp 21) (.tmp 20) rfl w.heap.size (k * 2) #[.string s.name, .bool s.drain] rfl rfl 86 cur hrow1.out Tryz.infosBerth hfit (one_Bt s) ?_; intro w2 hrow2 hsz2 hb3)
   have hsz3 : w.heap.size < w2.heap.size := by rw [hsz2.out]; exact Nat.lt_of_lt_of_le hsz hb1.size
   have hb4 : Below w.heap.size w w2 := hb2.trans hb3
   go_roundw
   case rel => exact ⟨k + 1, by omega, by go_num, hsz3, hb4, _, hrow2, hfill.out.step hsk'.out rfl⟩
   case measure => simp [intOf]; omega
  ·go_wp2
   go_ret
   have hkl : k = l.length := by omega
   rw [hkl] at hfill
   exact ⟨rfl, hsz, ⟨_, hrow.out, hfill.out⟩, hb⟩
structure BkOwn (lo : Nat) (w : World) (b1 b2 b3 : Nat) (B : Bk) : Prop where
 lo1 : lo ≤ b1
 lt12 : b1 < b2
 lt23 : b2 < b3
 svcs : OwnS w b1 B.svcs
 cps : OwnC w b2 B.cps
 bts : OwnB w b3 B.bts
theorem BkOwn.at {lo : Nat} {w : World} {b1 b2 b3 : Nat} {B : Bk} (h : BkOwn lo w b1 b2 b3 B) : BkAt w (some ⟨b1, 0, none⟩) (some ⟨b2, 0, none⟩) (some ⟨b3, 0, none⟩) B := ⟨h.svcs.sl, h.cps.sl, h.bts.sl⟩
theorem BkOwn.below {lo N : Nat} {w w' : World} {b1 b2 b3 : Nat} {B : Bk} (h : BkOwn lo w b1 b2 b3 B) (hb : Below N w w') (hN : b3 < N) : BkOwn lo w' b1 b2 b3 B :=
 ⟨h.lo1, h.lt12, h.lt23, h.svcs.blk (hb.block _ (by have := h.lt12; have := h.lt23; omega)), h.cps.blk (hb.block _ (by have := h.lt23; omega)), h.bts.blk (hb.block _ hN)⟩
set_option maxHeartbeats 400000 in
theorem toBook_own (B : Bk) (a1 a2 a3 : Option Addr) (c1 c2 c3 : Nat) (w : World) (hB : BkAt w a1 a2 a3 B) (hS : B.small) :
  Calls Tryz.prog 7 #[.agg #[.int .i64 B.now, .slice a1 B.svcs.length c1, .slice a2 B.cps.length c2, .slice a3 B.bts.length c3]] w fun e w' => ∃ x1 x2 x3, e = .returned (.agg #[.int .i64 B.now, .slice (some ⟨x1, 0, none⟩) B.svcs.length B.svcs.length, .slice (some ⟨x2, 0, none⟩) B.cps.length B.cps.length, .slice (some ⟨x3, 0, none⟩) B.bts.length B.bts.length]) ∧ BkOwn w.heap.size w' x1 x2 x3 B ∧ Below w.heap.size w w' := by
 go_enter Tryz.func7, Tryz.ntmps7
 go_wp2_with fail
 refine (toServiceS_own B.svcs a1 c1 _ hS.1 (hB.1.below ?hb)).mono ?_
 case hb => exact (((Below.refl _ _).alloc (Nat.le_refl _) _).alloc (by simp) _).alloc (by simp; omega) _
 rintro e w1 ⟨rfl, hz1, hat1, hb1⟩
 have hbb1 : Below w.heap.size w w1 := ((((Below.refl _ _).alloc (Nat.le_refl _) _).alloc (by simp) _).alloc (by simp; omega) _).trans (hb1.mono (by simp; omega))
 obtain ⟨t0, t1, t2, t3⟩ := three_new w (.cells #[.int .i64 B.now, .slice a1 B.svcs.length c1, .slice a2 B.cps.length c2, .slice a3 B.bts.length c3] 26) (.cells #[.int .i64 0, .slice none 0 0, .slice none 0 0, .slice none 0 0] 34) (.cells #[.int .i64 B.now, .slice none 0 0, .slice none 0 0, .slice none 0 0] 34)
 rw [t3] at hz1 hat1 hb1
 rw [t3]
 have k0 : Hid (w1.heap[w.heap.size]? = _) := (hb1.block _ (by omega)).trans t0
 have k1 : Hid (w1.heap[w.heap.size + 1]? = _) := (hb1.block _ (by omega)).trans t1
 have k2 : Hid (w1.heap[w.heap.size + 1 + 1]? = _) := (hb1.block _ (by omega)).trans t2
 have HAT1 : Hid (OwnS w1 (w.heap.size + 1 + 1 + 1) B.svcs) := hat1
 have HZ1 : Hid (w.heap.size + 1 + 1 + 1 < w1.heap.size) := hz1
 clear t0 t1 t2 t3
 have q1 := blk_cell k0.out 2 rfl
 have q2 := blk_cell k2.out 1 rfl
 have q3 := blk_frozen k2.out 1
 clear hat1 hz1 hb1
 go_wp2_with fail
 have hbs1 : Below w.heap.size w (w1.setCell ⟨w.heap.size + 1 + 1, 1, none⟩ (.slice (some ⟨w.heap.size + 1 + 1 + 1, 0, none⟩) B.svcs.length B.svcs.length)) := hbb1.setCell (by show _ ≤ w.heap.size + 1 + 1; omega) _
 refine (toCopyS_own B.cps a2 c2 _ hS.2.1 (hB.2.1.below hbs1)).mono ?_
 rintro e w2 ⟨rfl, hz2, hat2, hb2⟩
 rw [size_setCell] at hz2 hat2 hb2
 rw [size_setCell]
 have hbb2 : Below w.heap.size w w2 := hbs1.trans (hb2.mono hbb1.size)
 have k0' : Hid (w2.heap[w.heap.size]? = _) := (hb2.block _ (by have := HZ1.out; omega)).trans ((Below.heap_setCell _ _ _ _ (by show _ ≠ w.heap.size + 1 + 1; omega)).trans k0.out)
 have k1' : Hid (w2.heap[w.heap.size + 1]? = _) := (hb2.block _ (by have := HZ1.out; omega)).trans ((Below.heap_setCell _ _ _ _ (by show _ ≠ w.heap.size + 1 + 1; omega)).trans k1.out)
 have k2' : Hid (w2.heap[w.heap.size + 1 + 1]? = _) := (hb2.block _ (by have := HZ1.out; omega)).trans (blk_set k2.out 1 _)
 have HAT2 : Hid (OwnC w2 w1.heap.size B.cps) := hat2
 have HAT1' : Hid (OwnS w2 (w.heap.size + 1 + 1 + 1) B.svcs) := HAT1.out.blk ((hb2.block _ HZ1.out).trans (Below.heap_setCell _ _ _ _ (by show _ ≠ w.heap.size + 1 + 1; omega)))
 have HZ2 : Hid (w1.heap.size < w2.heap.size) := hz2
 have p1 := blk_cell k0'.out 3 rfl
 have p2 := blk_cell k2'.out 2 rfl
 have p3 := blk_frozen k2'.out 2
 clear hat2 hz2 hb2 q1 q2 q3 hbs1 hbb1
 go_wp2_with fail
 have hbs2 : Below w.heap.size w (w2.setCell ⟨w.heap.size + 1 + 1, 2, none⟩ (.slice (some ⟨w1.heap.size, 0, none⟩) B.cps.length B.cps.length)) := hbb2.setCell (by show _ ≤ w.heap.size + 1 + 1; omega) _
 refine (toBerthS_own B.bts a3 c3 _ hS.2.2 (hB.2.2.below hbs2)).mono ?_
 rintro e w3 ⟨rfl, hz3, hat3, hb3⟩
 rw [size_setCell] at hz3 hat3 hb3
 rw [size_setCell]
 have hbb3 : Below w.heap.size w w3 := hbs2.trans (hb3.mono hbb2.size)
 have hzz : w.heap.size + 1 + 1 + 1 < w2.heap.size := by have := HZ1.out; have := HZ2.out; omega
 have k1'' : Hid (w3.heap[w.heap.size + 1]? = _) := (hb3.block _ (by omega)).trans ((Below.heap_setCell _ _ _ _ (by show _ ≠ w.heap.size + 1 + 1; omega)).trans k1'.out)
 have k2'' : Hid (w3.heap[w.heap.size + 1 + 1]? = _) := (hb3.block _ (by omega)).trans (blk_set k2'.out 2 _)
 have HAT3 : Hid (OwnB w3 w2.heap.size B.bts) := hat3
 have HAT2' : Hid (OwnC w3 w1.heap.size B.cps) := HAT2.out.blk ((hb3.block _ HZ2.out).trans (Below.heap_setCell _ _ _ _ (by show _ ≠ w.heap.size + 1 + 1; have := HZ1.out; omega)))
 have HAT1'' : Hid (OwnS w3 (w.heap.size + 1 + 1 + 1) B.svcs) := HAT1'.out.blk ((hb3.block _ hzz).trans (Below.heap_setCell _ _ _ _ (by show _ ≠ w.heap.size + 1 + 1; omega)))
 have HZ3 : Hid (w2.heap.size < w3.heap.size) := hz3
 have p3 := blk_cell k2''.out 3 rfl
 have p4 := blk_frozen k2''.out 3
 have HZZ : Hid (w.heap.size + 1 + 1 + 1 < w2.heap.size) := hzz
 clear hat3 hz3 hb3 p1 p2 p3 hbs2 hbb2 hzz
 have p3 := blk_cell k2''.out 3 rfl
 have r0 := blk_cell k2''.out 0 rfl
 have r1 := blk_cell k2''.out 1 rfl
 have r2 := blk_cell k2''.out 2 rfl
 have s0 := blk_cell k1''.out 0 rfl
 have s1 := blk_cell k1''.out 1 rfl
 have s2 := blk_cell k1''.out 2 rfl
 have s3 := blk_cell k1''.out 3 rfl
 have f0 := blk_frozen k1''.out 0
 have f1 := blk_frozen k1''.out 1
 have f2 := blk_frozen k1''.out 2
 have f3 := blk_frozen k1''.out 3
 go_wp2
 refine bodyPost_ret (v := .agg #[.int .i64 B.now, .slice (some ⟨w.heap.size + 1 + 1 + 1, 0, none⟩) B.svcs.length B.svcs.length, .slice (some ⟨w1.heap.size, 0, none⟩) B.cps.length B.cps.length, .slice (some ⟨w2.heap.size, 0, none⟩) B.bts.length B.bts.length]) (by simp [results, Tryz.results7, go_sem, s0, s1, s2, s3]) rfl ⟨_, _, _, rfl, ?_, ?_⟩
 ·have z1 := HZ1.out
  have z2 := HZ2.out
  have z3 := HZ3.out
  have z4 := HZZ.out
  refine ⟨by omega, by omega, by omega, HAT1''.out.blk ?_, HAT2'.out.blk ?_, HAT3.out.blk ?_⟩
  ·repeat rw [Below.heap_setCell _ _ _ _ (by simp; try omega)]
  ·repeat rw [Below.heap_setCell _ _ _ _ (by simp; try omega)]
  ·repeat rw [Below.heap_setCell _ _ _ _ (by simp; try omega)]
 ·exact ((((hbb3.setCell (by simp; omega) _).setCell (by simp) _).setCell (by simp) _).setCell (by simp) _).setCell (by simp) _
end Go.Proofs.YtbceafpodamnfabGreat

namespace Go.Proofs.YtbceafpodamnfabGreat
open Go.RowKit Go.Sort
def digB (d : Nat) : ByteArray := ⟨#[48 + UInt8.ofNat d]⟩
def mtGo : Nat → Nat → ByteArray → ByteArray
 | 0, _, out => out
 | f + 1, k, out => if k = 0 then out else mtGo f (k / 10) (digB (k % 10) ++ out)
def mt (k : Int) : ByteArray := ⟨#[109]⟩ ++ mtGo 12 k.toNat ⟨#[]⟩
theorem mtGo_zero (f : Nat) (out : ByteArray) : mtGo f 0 out = out := by cases f <;> simp [mtGo]
theorem run_conv_one (w : World) (d : Int) : (convert 116 9 (.slice (some ⟨w.heap.size, 0, none⟩) 1 1)).run Tryz.prog (w.alloc (.cells #[.int .u8 d] 5)) = .ok (.string ⟨#[UInt8.ofNat d.toNat]⟩) (w.alloc (.cells #[.int .u8 d] 5)) := by
 rw [run_convert_bytes_string _ _ _ _ _ _ _ Tryz.underlying116 Tryz.underlying5 Tryz.underlying9]
 rw [run_bytesToString _ _ 1 1 [d] (by simp [loadCells, loadCellsFrom, go_sem])]
 rfl
set_option maxRecDepth 100000 in
set_option maxHeartbeats 2000000 in
theorem markText_any (k : Int) (w : World) (h0 : 1 ≤ k) (h1 : k < 100000000) :
  Calls Tryz.prog 37 #[.int .i64 k] w fun e w' => e = .returned (.string (mt k)) ∧ Below w.heap.size w w' := by
 have hcv := run_conv_one
 go_enter Tryz.func37, Tryz.ntmps37
 go_wp2
 go_loopw [0, 3] (fun kv ov wr => ∃ (f j : Nat) (out : ByteArray), kv = .int .i64 (j : Int) ∧ ov = .string out ∧ f ≤ 12 ∧ out.size + f = 12 ∧ j < 10 ^ f ∧ j < 100000000 ∧ Hid (mtGo f j out = mtGo 12 k.toNat ⟨#[]⟩) ∧ Below w.heap.size w wr) (fun kv _ _ => (intOf kv).toNat)
 case atStart => exact ⟨12, k.toNat, ⟨#[]⟩, by rw [Int.toNat_of_nonneg (by omega)], rfl, Nat.le_refl _, rfl, by omega, by omega, rfl, Below.refl _ _⟩
 case round =>
  obtain ⟨f, j, out, rfl, rfl, hf, ho, hj, hj8, HM, hb⟩ := hrel
  have hos : (out.size : Int) ≤ 8388608 := by omega
  by_cases hz : j = 0
  ·subst hz
   go_wp2
   go_ret
   refine ⟨?_, hb⟩
   have e := HM.out
   rw [mtGo_zero] at e
   show Ending.returned (.string (⟨#[109]⟩ ++ out)) = _
   rw [e]
   rfl
  ·have hjp : 0 < (j : Int) := by omega
   have hd : decide (0 < j) = true := by simp; omega
   obtain ⟨f', rfl⟩ : ∃ f', f = f' + 1 := by
    cases f with
    | zero => simp at hj; omega
    | succ f' => exact ⟨f', rfl⟩
   go_wp2
   go_roundw
   case rel =>
    refine ⟨f', j / 10, digB (j % 10) ++ out, by go_num, rfl, by omega, ?_, ?_, by omega, ?_, hb.alloc hb.size _⟩
    ·have : (digB (j % 10) ++ out).size = 1 + out.size := by rw [ByteArray.size_append]; rfl
     rw [this]
     omega
    ·rw [Nat.pow_succ] at hj; omega
    ·unfold Hid
     rw [← HM.out]
     show _ = mtGo (f' + 1) j out
     rw [mtGo, if_neg hz]
   case measure => simp [intOf]; omega
end Go.Proofs.YtbceafpodamnfabGreat

namespace Go.Proofs.YtbceafpodamnfabGreat
open Go.RowKit Go.Sort
theorem splice_nil (l : List Value) (o : Nat) : splice l o [] = l := by unfold splice; simp
theorem splice_add (l : List Value) (o : Nat) (xs : List Value) (v : Value) (h : o + xs.length + 1 ≤ l.length) : splice (splice l o xs) (o + xs.length) [v] = splice l o (xs ++ [v]) := by
 have hA : (l.take o).length = o := by simp; omega
 have hAX : (l.take o ++ xs).length = o + xs.length := by rw [List.length_append, hA]
 have e : splice l o xs = (l.take o ++ xs) ++ l.drop (o + xs.length) := by unfold splice; rw [List.append_assoc]
 have e1 : (splice l o xs).take (o + xs.length) = l.take o ++ xs := by rw [e, ← hAX, List.take_left]
 have e2 : (splice l o xs).drop (o + xs.length) = l.drop (o + xs.length) := by rw [e, ← hAX, List.drop_left]
 have e3 : (splice l o xs).drop (o + xs.length + 1) = l.drop (o + xs.length + 1) := by rw [← List.drop_drop, e2, List.drop_drop]
 have e4 : splice (splice l o xs) (o + xs.length) [v] = (splice l o xs).take (o + xs.length) ++ ([v] ++ (splice l o xs).drop (o + xs.length + 1)) := rfl
 rw [e4, e1, e3]
 unfold splice
 simp [List.append_assoc, Nat.add_assoc]
theorem splice_len (l : List Value) (o : Nat) (xs : List Value) (h : o + xs.length ≤ l.length) : (splice l o xs).length = l.length := by
 unfold splice
 simp
 omega
def FillP {α : Type} (c : α → List Value) (n : Nat) (l : List α) (k : Nat) (cur : List Value) : Prop :=
 l.length * n ≤ cur.length ∧ ∀ i s, i < k → l[i]? = some s → ∀ j, j < n → cur[i * n + j]? = (c s)[j]?
theorem FillP.step {α : Type} {c : α → List Value} {n : Nat} {l : List α} {k : Nat} {cur : List Value} (h : FillP c n l k cur) {s : α} (hs : l[k]? = some s) (hc : (c s).length = n) :
  FillP c n l (k + 1) (splice cur (k * n) (c s)) := by
 obtain ⟨hlen, hf⟩ := h
 have hk : k < l.length := (List.getElem?_eq_some_iff.1 hs).1
 have hle : k * n + n ≤ cur.length := Nat.le_trans (by rw [← Nat.succ_mul]; exact Nat.mul_le_mul_right n hk) hlen
 refine ⟨by rw [splice_len _ _ _ (by omega)]; exact hlen, fun i s' hi hs' j hj => ?_⟩
 unfold splice
 by_cases hik : i = k
 ·subst hik
  rw [hs] at hs'; cases hs'
  rw [List.getElem?_append_right (by simp; omega), List.getElem?_append_left (by simp; omega)]
  congr 1
  simp; omega
 ·have hlt : i < k := by omega
  have : i * n + n ≤ k * n := by rw [← Nat.succ_mul]; exact Nat.mul_le_mul_right n hlt
  rw [List.getElem?_append_left (by simp; omega), List.getElem?_take, if_pos (by omega)]
  exact hf i s' hlt hs' j hj
theorem Tryz.infosString : (Tryz.prog.info? 9).map (·.size) = some 1 := by kernel_rfl
theorem Tryz.infosInt' : (Tryz.prog.info? 3).map (·.size) = some 1 := by kernel_rfl
theorem Tryz.infosBool' : (Tryz.prog.info? 4).map (·.size) = some 1 := by kernel_rfl
theorem grown_below {w w1 w2 : World} {r : Option Nat} (h : w.grownBy w1 r) (hb : Below w1.heap.size w1 w2) : w.grownBy w2 r :=
 ⟨hb.os.trans h.os, hb.tape.trans h.tape, hb.output.trans h.output, Nat.le_trans h.size hb.size, fun k hk hr => (hb.block k (Nat.lt_of_lt_of_le hk h.size)).trans (h.block k hk hr)⟩
theorem grown_only {w w1 w2 : World} {b : Nat} (h : w.grownBy w1 (some b)) (on : Only b w1 w2) : w.grownBy w2 (some b) :=
 ⟨on.below.os.trans h.os, on.below.tape.trans h.tape, on.below.output.trans h.output, by rw [on.size]; exact h.size, fun k hk hr => (on.other k (fun e => hr (by rw [e]))).trans (h.block k hk hr)⟩
theorem wpList_store_next {P : Program} {ops : Array Oper} {rest : List Oper} {o : Oper} {a : Act} {w : World} {Q : Exit → Act → World → Prop} (hgd : o.guard = none) (ty : TypeId) (x y : Operand) (ho : o.op = .store ty x y)
  (g off : Nat) (xs base : List Value) (v : Value) (hx : a.eval x = .pointer (some ⟨g, off + xs.length, none⟩)) (hy : a.eval y = v) (hi : (P.info? ty).map (·.size) = some 1) (hv : v.cells = #[v]) (h1 : v.oneCell' = true)
  (t : TypeId) (hg : w.heap[g]? = some (.cells (splice base off xs).toArray t (0, 0))) (hfit : off + xs.length + 1 ≤ base.length)
  (h : ∀ w', Hid (w'.heap[g]? = some (.cells (splice base off (xs ++ [v])).toArray t (0, 0))) → Only g w w' → wpList P ops Q rest (a.put o.dst undef) w') : wpList P ops Q (o :: rest) a w := by
 refine wpList_store_one hgd ty x y ho g (off + xs.length) v hx hy hi hv h1 t _ hg (by simp only [List.size_toArray]; rw [splice_len _ _ _ (by omega)]; exact hfit) fun w' hr on => h w' ?_ on
 have := hr.out
 rw [splice_add _ _ _ _ hfit] at this
 exact this
def markSvc (k : Int) : Svc := ⟨mt (k), k + 1, ((k + 1 + 1) % 3 == 0), k + 1 + 1 + 1, k + 1 + 1 + 1 + 1, k + 1 + 1 + 1 + 1 + 1, k + 1 + 1 + 1 + 1 + 1 + 1, k + 1 + 1 + 1 + 1 + 1 + 1 + 1, k + 1 + 1 + 1 + 1 + 1 + 1 + 1 + 1, k + 1 + 1 + 1 + 1 + 1 + 1 + 1 + 1 + 1, k + 1 + 1 + 1 + 1 + 1 + 1 + 1 + 1 + 1 + 1, k + 1 + 1 + 1 + 1 + 1 + 1 + 1 + 1 + 1 + 1 + 1, k + 1 + 1 + 1 + 1 + 1 + 1 + 1 + 1 + 1 + 1 + 1 + 1⟩
def marksSvc (k : Int) (n : Nat) : List Svc := (List.range n).map fun (i : Nat) => markSvc (k + 13 * i)
def RoomS (w : World) (b len : Nat) : Prop := ∃ cur : Array Value, w.heap[b]? = some (.cells cur 48 (0, 0)) ∧ len * 13 ≤ cur.size
def FillS (w : World) (b : Nat) (l : List Svc) : Prop := ∃ cur : Array Value, w.heap[b]? = some (.cells cur 48 (0, 0)) ∧ FillP Svc.cells 13 l l.length cur.toList
theorem OwnS.room {w : World} {b : Nat} {l : List Svc} (h : OwnS w b l) : RoomS w b l.length := let ⟨cur, h1, h2⟩ := h; ⟨cur, h1, by have := h2.1; rw [Array.length_toList] at this; omega⟩
theorem RoomS.blk {w w' : World} {b n : Nat} (h : RoomS w b n) (hb : w'.heap[b]? = w.heap[b]?) : RoomS w' b n := let ⟨cur, h1, h2⟩ := h; ⟨cur, hb.trans h1, h2⟩
theorem FillS.blk {w w' : World} {b : Nat} {l : List Svc} (h : FillS w b l) (hb : w'.heap[b]? = w.heap[b]?) : FillS w' b l := let ⟨cur, h1, h2⟩ := h; ⟨cur, hb.trans h1, h2⟩
theorem FillS.sl {w : World} {b : Nat} {l : List Svc} (h : FillS w b l) : SlS w (some ⟨b, 0, none⟩) l := fun _ => by
 obtain ⟨cur, h1, h2⟩ := h
 refine ⟨b, 0, rfl, (Array.getElem?_eq_some_iff.1 h1).1, fun i s hs => ?_⟩
 have := h2.2 i s (List.getElem?_eq_some_iff.1 hs).1 hs
 unfold SvcAt
 simp only [cell_row h1, Nat.zero_add]
 exact ⟨this 0 (by omega), this 1 (by omega), this 2 (by omega), this 3 (by omega), this 4 (by omega), this 5 (by omega), this 6 (by omega), this 7 (by omega), this 8 (by omega), this 9 (by omega), this 10 (by omega), this 11 (by omega), this 12 (by omega)⟩
theorem marksSvc_len (k : Int) (n : Nat) : (marksSvc k n).length = n := by simp [marksSvc]
theorem marksSvc_at {k : Int} {n i : Nat} (h : i < n) : (marksSvc k n)[i]? = some (markSvc (k + 13 * i)) := by simp [marksSvc, h]
set_option maxRecDepth 100000 in
set_option maxHeartbeats 8000000 in
theorem markSvcS_any (len : Nat) (b cap : Nat) (k0 : Int) (w : World) (hl : len ≤ 1048576) (h0 : 1 ≤ k0) (h1 : k0 + 13 * len < 100000000) (hO : RoomS w b len) :
  Calls Tryz.prog 34 #[.slice (some ⟨b, 0, none⟩) len cap, .int .i64 k0] w fun e w' => e = .returned (.int .i64 (k0 + 13 * len)) ∧ FillS w' b (marksSvc k0 len) ∧ w.grownBy w' (some b) := by
 obtain ⟨cur0, hc0, hf0⟩ := hO
 have HC0 : Hid _ := hc0
 have hcs0 : len * 13 ≤ cur0.toList.length := by rw [Array.length_toList]; exact hf0
 clear hc0 hf0
 go_enter Tryz.func34, Tryz.ntmps34
 go_wp2
 go_loopw [1, 5] (fun kv iv wr => ∃ (i : Nat) (k : Int) (cur : Array Value), i ≤ len ∧ iv = .int .i64 i ∧ kv = .int .i64 k ∧ Hid (k = k0 + 13 * i) ∧ 1 ≤ k ∧ k ≤ k0 + 13 * i ∧ Hid (wr.heap[b]? = some (.cells cur 48 (0, 0))) ∧ Hid (FillP Svc.cells 13 (marksSvc k0 len) i cur.toList) ∧ w.grownBy wr (some b)) (fun _ i _ => len - (intOf i).toNat)
 case atStart => exact ⟨0, k0, cur0, by omega, rfl, rfl, by unfold Hid; simp, h0, by simp, HC0, ⟨by rw [marksSvc_len]; exact hcs0, fun i s hi => absurd hi (by omega)⟩, grown_refl _ _⟩
 case round =>
  obtain ⟨i, k, cur, hi, rfl, rfl, HK, hk1, hk2, hrow, hfill, hgr⟩ := hrel
  have hbl : b < wr.heap.size := (Array.getElem?_eq_some_iff.1 hrow.out).1
  by_cases hlt : i < len
  ·have hcl : len * 13 ≤ cur.toList.length := by have := hfill.out.1; rwa [marksSvc_len] at this
   have hfit : i * 13 + 13 ≤ cur.toList.length := Nat.le_trans (by rw [← Nat.succ_mul]; exact Nat.mul_le_mul_right 13 hlt) hcl
   clear hcl
   go_wp2_with fail
   refine (markText_any (k) _ (by omega) (by omega)).mono ?_
   rintro e wm0 ⟨rfl, hbm⟩
   have hrs : Hid (wm0.heap[b]? = some (.cells (splice cur.toList (i * 13) []).toArray 48 (0, 0))) := by unfold Hid; rw [splice_nil]; exact (hbm.block b hbl).trans hrow.out
   have hgs := grown_below hgr hbm
   clear hbm
   go_wp2_with (first
    | (refine wpList_store_next rfl 9 (.tmp 17) (.tmp 15) rfl b (i * 13) [] cur.toList _ rfl rfl Tryz.infosString rfl rfl 48 hrs.out (by simp only [List.length_nil]; omega) ?_; intro wx0 hx on; have hr0 : Hid (wx0.heap[b]? = some (.cells (splice cur.toList (i * 13) [.string (mt (k))]).toArray 48 (0, 0))) := hx; have hg0 := grown_only hgs on; clear hx on)
    | (refine wpList_store_next rfl 3 (.tmp 24) (.tmp 22) rfl b (i * 13) [.string (mt (k))] cur.toList _ rfl rfl Tryz.infosInt' rfl rfl 48 hr0.out (by simp only [List.length_cons, List.length_nil]; omega) ?_; intro wx1 hx on; have hr1 : Hid (wx1.heap[b]? = some (.cells (splice cur.toList (i * 13) [.string (mt (k)), .int .i64 (k + 1)]).toArray 48 (0, 0))) := hx; have hg1 := grown_only hg0 on; clear hx on)
    | (refine wpList_store_next rfl 4 (.tmp 33) (.tmp 31) rfl b (i * 13) [.string (mt (k)), .int .i64 (k + 1)] cur.toList _ rfl rfl Tryz.infosBool' rfl rfl 48 hr1.out (by simp only [List.length_cons, List.length_nil]; omega) ?_; intro wx2 hx on; have hr2 : Hid (wx2.heap[b]? = some (.cells (splice cur.toList (i * 13) [.string (mt (k)), .int .i64 (k + 1), .bool ((k + 1 + 1) % 3 == 0)]).toArray 48 (0, 0))) := hx; have hg2 := grown_only hg1 on; clear hx on)
    | (refine wpList_store_next rfl 3 (.tmp 40) (.tmp 38) rfl b (i * 13) [.string (mt (k)), .int .i64 (k + 1), .bool ((k + 1 + 1) % 3 == 0)] cur.toList _ rfl rfl Tryz.infosInt' rfl rfl 48 hr2.out (by simp only [List.length_cons, List.length_nil]; omega) ?_; intro wx3 hx on; have hr3 : Hid (wx3.heap[b]? = some (.cells (splice cur.toList (i * 13) [.string (mt (k)), .int .i64 (k + 1), .bool ((k + 1 + 1) % 3 == 0), .int .i64 (k + 1 + 1 + 1)]).toArray 48 (0, 0))) := hx; have hg3 := grown_only hg2 on; clear hx on)
    | (refine wpList_store_next rfl 3 (.tmp 47) (.tmp 45) rfl b (i * 13) [.string (mt (k)), .int .i64 (k + 1), .bool ((k + 1 + 1) % 3 == 0), .int .i64 (k + 1 + 1 + 1)] cur.toList _ rfl rfl Tryz.infosInt' rfl rfl 48 hr3.out (by simp only [List.length_cons, List.length_nil]; omega) ?_; intro wx4 hx on; have hr4 : Hid (wx4.heap[b]? = some (.cells (splice cur.toList (i * 13) [.string (mt (k)), .int .i64 (k + 1), .bool ((k + 1 + 1) % 3 == 0), .int .i64 (k + 1 + 1 + 1), .int .i64 (k + 1 + 1 + 1 + 1)]).toArray 48 (0, 0))) := hx; have hg4 := grown_only hg3 on; clear hx on)
    | (refine wpList_store_next rfl 3 (.tmp 54) (.tmp 52) rfl b (i * 13) [.string (mt (k)), .int .i64 (k + 1), .bool ((k + 1 + 1) % 3 == 0), .int .i64 (k + 1 + 1 + 1), .int .i64 (k + 1 + 1 + 1 + 1)] cur.toList _ rfl rfl Tryz.infosInt' rfl rfl 48 hr4.out (by simp only [List.length_cons, List.length_nil]; omega) ?_; intro wx5 hx on; have hr5 : Hid (wx5.heap[b]? = some (.cells (splice cur.toList (i * 13) [.string (mt (k)), .int .i64 (k + 1), .bool ((k + 1 + 1) % 3 == 0), .int .i64 (k + 1 + 1 + 1), .int .i64 (k + 1 + 1 + 1 + 1), .int .i64 (k + 1 + 1 + 1 + 1 + 1)]).toArray 48 (0, 0))) := hx; have hg5 := grown_only hg4 on; clear hx on)
    | (refine wpList_store_next rfl 3 (.tmp 61) (.tmp 59) rfl b (i * 13) [.string (mt (k)), .int .i64 (k + 1), .bool ((k + 1 + 1) % 3 == 0), .int .i64 (k + 1 + 1 + 1), .int .i64 (k + 1 + 1 + 1 + 1), .int .i64 (k + 1 + 1 + 1 + 1 + 1)] cur.toList _ rfl rfl Tryz.infosInt' rfl rfl 48 hr5.out (by simp only [List.length_cons, List.length_nil]; omega) ?_; intro wx6 hx on; have hr6 : Hid (wx6.heap[b]? = some (.cells (splice cur.toList (i * 13) [.string (mt (k)), .int .i64 (k + 1), .bool ((k + 1 + 1) % 3 == 0), .int .i64 (k + 1 + 1 + 1), .int .i64 (k + 1 + 1 + 1 + 1), .int .i64 (k + 1 + 1 + 1 + 1 + 1), .int .i64 (k + 1 + 1 + 1 + 1 + 1 + 1)]).toArray 48 (0, 0))) := hx; have hg6 := grown_only hg5 on; clear hx on)
    | (refine wpList_store_next rfl 3 (.tmp 68) (.tmp 66) rfl b (i * 13) [.string (mt (k)), .int .i64 (k + 1), .bool ((k + 1 + 1) % 3 == 0), .int .i64 (k + 1 + 1 + 1), .int .i64 (k + 1 + 1 + 1 + 1), .int .i64 (k + 1 + 1 + 1 + 1 + 1), .int .i64 (k + 1 + 1 + 1 + 1 + 1 + 1)] cur.toList _ rfl rfl Tryz.infosInt' rfl rfl 48 hr6.out (by simp only [List.length_cons, List.length_nil]; omega) ?_; intro wx7 hx on; have hr7 : Hid (wx7.heap[b]? = some (.cells (splice cur.toList (i * 13) [.string (mt (k)), .int .i64 (k + 1), .bool ((k + 1 + 1) % 3 == 0), .int .i64 (k + 1 + 1 + 1), .int .i64 (k + 1 + 1 + 1 + 1), .int .i64 (k + 1 + 1 + 1 + 1 + 1), .int .i64 (k + 1 + 1 + 1 + 1 + 1 + 1), .int .i64 (k + 1 + 1 + 1 + 1 + 1 + 1 + 1)]).toArray 48 (0, 0))) := hx; have hg7 := grown_only hg6 on; clear hx on)
    | (refine wpList_store_next rfl 3 (.tmp 75) (.tmp 73) rfl b (i * 13) [.string (mt (k)), .int .i64 (k + 1), .bool ((k + 1 + 1) % 3 == 0), .int .i64 (k + 1 + 1 + 1), .int .i64 (k + 1 + 1 + 1 + 1), .int .i64 (k + 1 + 1 + 1 + 1 + 1), .int .i64 (k + 1 + 1 + 1 + 1 + 1 + 1), .int .i64 (k + 1 + 1 + 1 + 1 + 1 + 1 + 1)] cur.toList _ rfl rfl Tryz.infosInt' rfl rfl 48 hr7.out (by simp only [List.length_cons, List.length_nil]; omega) ?_; intro wx8 hx on; have hr8 : Hid (wx8.heap[b]? = some (.cells (splice cur.toList (i * 13) [.string (mt (k)), .int .i64 (k + 1), .bool ((k + 1 + 1) % 3 == 0), .int .i64 (k + 1 + 1 + 1), .int .i64 (k + 1 + 1 + 1 + 1), .int .i64 (k + 1 + 1 + 1 + 1 + 1), .int .i64 (k + 1 + 1 + 1 + 1 + 1 + 1), .int .i64 (k + 1 + 1 + 1 + 1 + 1 + 1 + 1), .int .i64 (k + 1 + 1 + 1 + 1 + 1 + 1 + 1 + 1)]).toArray 48 (0, 0))) := hx; have hg8 := grown_only hg7 on; clear hx on)
    | (refine wpList_store_next rfl 3 (.tmp 82) (.tmp 80) rfl b (i * 13) [.string (mt (k)), .int .i64 (k + 1), .bool ((k + 1 + 1) % 3 == 0), .int .i64 (k + 1 + 1 + 1), .int .i64 (k + 1 + 1 + 1 + 1), .int .i64 (k + 1 + 1 + 1 + 1 + 1), .int .i64 (k + 1 + 1 + 1 + 1 + 1 + 1), .int .i64 (k + 1 + 1 + 1 + 1 + 1 + 1 + 1), .int .i64 (k + 1 + 1 + 1 + 1 + 1 + 1 + 1 + 1)] cur.toList _ rfl rfl Tryz.infosInt' rfl rfl 48 hr8.out (by simp only [List.length_cons, List.length_nil]; omega) ?_; intro wx9 hx on; have hr9 : Hid (wx9.heap[b]? = some (.cells (splice cur.toList (i * 13) [.string (mt (k)), .int .i64 (k + 1), .bool ((k + 1 + 1) % 3 == 0), .int .i64 (k + 1 + 1 + 1), .int .i64 (k + 1 + 1 + 1 + 1), .int .i64 (k + 1 + 1 + 1 + 1 + 1), .int .i64 (k + 1 + 1 + 1 + 1 + 1 + 1), .int .i64 (k + 1 + 1 + 1 + 1 + 1 + 1 + 1), .int .i64 (k + 1 + 1 + 1 + 1 + 1 + 1 + 1 + 1), .int .i64 (k + 1 + 1 + 1 + 1 + 1 + 1 + 1 + 1 + 1)]).toArray 48 (0, 0))) := hx; have hg9 := grown_only hg8 on; clear hx on)
    | (refine wpList_store_next rfl 3 (.tmp 89) (.tmp 87) rfl b (i * 13) [.string (mt (k)), .int .i64 (k + 1), .bool ((k + 1 + 1) % 3 == 0), .int .i64 (k + 1 + 1 + 1), .int .i64 (k + 1 + 1 + 1 + 1), .int .i64 (k + 1 + 1 + 1 + 1 + 1), .int .i64 (k + 1 + 1 + 1 + 1 + 1 + 1), .int .i64 (k + 1 + 1 + 1 + 1 + 1 + 1 + 1), .int .i64 (k + 1 + 1 + 1 + 1 + 1 + 1 + 1 + 1), .int .i64 (k + 1 + 1 + 1 + 1 + 1 + 1 + 1 + 1 + 1)] cur.toList _ rfl rfl Tryz.infosInt' rfl rfl 48 hr9.out (by simp only [List.length_cons, List.length_nil]; omega) ?_; intro wx10 hx on; have hr10 : Hid (wx10.heap[b]? = some (.cells (splice cur.toList (i * 13) [.string (mt (k)), .int .i64 (k + 1), .bool ((k + 1 + 1) % 3 == 0), .int .i64 (k + 1 + 1 + 1), .int .i64 (k + 1 + 1 + 1 + 1), .int .i64 (k + 1 + 1 + 1 + 1 + 1), .int .i64 (k + 1 + 1 + 1 + 1 + 1 + 1), .int .i64 (k + 1 + 1 + 1 + 1 + 1 + 1 + 1), .int .i64 (k + 1 + 1 + 1 + 1 + 1 + 1 + 1 + 1), .int .i64 (k + 1 + 1 + 1 + 1 + 1 + 1 + 1 + 1 + 1), .int .i64 (k + 1 + 1 + 1 + 1 + 1 + 1 + 1 + 1 + 1 + 1)]).toArray 48 (0, 0))) := hx; have hg10 := grown_only hg9 on; clear hx on)
    | (refine wpList_store_next rfl 3 (.tmp 96) (.tmp 94) rfl b (i * 13) [.string (mt (k)), .int .i64 (k + 1), .bool ((k + 1 + 1) % 3 == 0), .int .i64 (k + 1 + 1 + 1), .int .i64 (k + 1 + 1 + 1 + 1), .int .i64 (k + 1 + 1 + 1 + 1 + 1), .int .i64 (k + 1 + 1 + 1 + 1 + 1 + 1), .int .i64 (k + 1 + 1 + 1 + 1 + 1 + 1 + 1), .int .i64 (k + 1 + 1 + 1 + 1 + 1 + 1 + 1 + 1), .int .i64 (k + 1 + 1 + 1 + 1 + 1 + 1 + 1 + 1 + 1), .int .i64 (k + 1 + 1 + 1 + 1 + 1 + 1 + 1 + 1 + 1 + 1)] cur.toList _ rfl rfl Tryz.infosInt' rfl rfl 48 hr10.out (by simp only [List.length_cons, List.length_nil]; omega) ?_; intro wx11 hx on; have hr11 : Hid (wx11.heap[b]? = some (.cells (splice cur.toList (i * 13) [.string (mt (k)), .int .i64 (k + 1), .bool ((k + 1 + 1) % 3 == 0), .int .i64 (k + 1 + 1 + 1), .int .i64 (k + 1 + 1 + 1 + 1), .int .i64 (k + 1 + 1 + 1 + 1 + 1), .int .i64 (k + 1 + 1 + 1 + 1 + 1 + 1), .int .i64 (k + 1 + 1 + 1 + 1 + 1 + 1 + 1), .int .i64 (k + 1 + 1 + 1 + 1 + 1 + 1 + 1 + 1), .int .i64 (k + 1 + 1 + 1 + 1 + 1 + 1 + 1 + 1 + 1), .int .i64 (k + 1 + 1 + 1 + 1 + 1 + 1 + 1 + 1 + 1 + 1), .int .i64 (k + 1 + 1 + 1 + 1 + 1 + 1 + 1 + 1 + 1 + 1 + 1)]).toArray 48 (0, 0))) := hx; have hg11 := grown_only hg10 on; clear hx on)
    | (refine wpList_store_next rfl 3 (.tmp 103) (.tmp 101) rfl b (i * 13) [.string (mt (k)), .int .i64 (k + 1), .bool ((k + 1 + 1) % 3 == 0), .int .i64 (k + 1 + 1 + 1), .int .i64 (k + 1 + 1 + 1 + 1), .int .i64 (k + 1 + 1 + 1 + 1 + 1), .int .i64 (k + 1 + 1 + 1 + 1 + 1 + 1), .int .i64 (k + 1 + 1 + 1 + 1 + 1 + 1 + 1), .int .i64 (k + 1 + 1 + 1 + 1 + 1 + 1 + 1 + 1), .int .i64 (k + 1 + 1 + 1 + 1 + 1 + 1 + 1 + 1 + 1), .int .i64 (k + 1 + 1 + 1 + 1 + 1 + 1 + 1 + 1 + 1 + 1), .int .i64 (k + 1 + 1 + 1 + 1 + 1 + 1 + 1 + 1 + 1 + 1 + 1)] cur.toList _ rfl rfl Tryz.infosInt' rfl rfl 48 hr11.out (by simp only [List.length_cons, List.length_nil]; omega) ?_; intro wx12 hx on; have hr12 : Hid (wx12.heap[b]? = some (.cells (splice cur.toList (i * 13) [.string (mt (k)), .int .i64 (k + 1), .bool ((k + 1 + 1) % 3 == 0), .int .i64 (k + 1 + 1 + 1), .int .i64 (k + 1 + 1 + 1 + 1), .int .i64 (k + 1 + 1 + 1 + 1 + 1), .int .i64 (k + 1 + 1 + 1 + 1 + 1 + 1), .int .i64 (k + 1 + 1 + 1 + 1 + 1 + 1 + 1), .int .i64 (k + 1 + 1 + 1 + 1 + 1 + 1 + 1 + 1), .int .i64 (k + 1 + 1 + 1 + 1 + 1 + 1 + 1 + 1 + 1), .int .i64 (k + 1 + 1 + 1 + 1 + 1 + 1 + 1 + 1 + 1 + 1), .int .i64 (k + 1 + 1 + 1 + 1 + 1 + 1 + 1 + 1 + 1 + 1 + 1), .int .i64 (k + 1 + 1 + 1 + 1 + 1 + 1 + 1 + 1 + 1 + 1 + 1 + 1)]).toArray 48 (0, 0))) := hx; have hg12 := grown_only hg11 on; clear hx on))
   have HS : Hid _ := hfill.out.step (marksSvc_at hlt) rfl
   rw [← HK.out] at HS
   go_roundw
   case rel => exact ⟨i + 1, k + 1 + 1 + 1 + 1 + 1 + 1 + 1 + 1 + 1 + 1 + 1 + 1 + 1, _, by omega, by go_num, rfl, by unfold Hid; rw [HK.out]; push_cast; omega, by omega, by push_cast; omega, hr12, HS, hg12⟩
   case measure => simp [intOf]; omega
  ·go_wp2
   go_ret
   have hil : i = len := by omega
   subst hil
   have hkk := HK.out
   subst hkk
   refine ⟨rfl, ⟨cur, hrow.out, ?_⟩, hgr⟩
   have := hfill.out
   rw [marksSvc_len]
   exact this
def markCp (k : Int) : Cp := ⟨mt (k), k + 1, k + 1 + 1, k + 1 + 1 + 1, k + 1 + 1 + 1 + 1, ((k + 1 + 1 + 1 + 1 + 1) % 3 == 0), mt (k + 1 + 1 + 1 + 1 + 1 + 1)⟩
def marksCp (k : Int) (n : Nat) : List Cp := (List.range n).map fun (i : Nat) => markCp (k + 7 * i)
def RoomC (w : World) (b len : Nat) : Prop := ∃ cur : Array Value, w.heap[b]? = some (.cells cur 88 (0, 0)) ∧ len * 7 ≤ cur.size
def FillC (w : World) (b : Nat) (l : List Cp) : Prop := ∃ cur : Array Value, w.heap[b]? = some (.cells cur 88 (0, 0)) ∧ FillP Cp.cells 7 l l.length cur.toList
theorem OwnC.room {w : World} {b : Nat} {l : List Cp} (h : OwnC w b l) : RoomC w b l.length := let ⟨cur, h1, h2⟩ := h; ⟨cur, h1, by have := h2.1; rw [Array.length_toList] at this; omega⟩
theorem RoomC.blk {w w' : World} {b n : Nat} (h : RoomC w b n) (hb : w'.heap[b]? = w.heap[b]?) : RoomC w' b n := let ⟨cur, h1, h2⟩ := h; ⟨cur, hb.trans h1, h2⟩
theorem FillC.blk {w w' : World} {b : Nat} {l : List Cp} (h : FillC w b l) (hb : w'.heap[b]? = w.heap[b]?) : FillC w' b l := let ⟨cur, h1, h2⟩ := h; ⟨cur, hb.trans h1, h2⟩
theorem FillC.sl {w : World} {b : Nat} {l : List Cp} (h : FillC w b l) : SlC w (some ⟨b, 0, none⟩) l := fun _ => by
 obtain ⟨cur, h1, h2⟩ := h
 refine ⟨b, 0, rfl, (Array.getElem?_eq_some_iff.1 h1).1, fun i s hs => ?_⟩
 have := h2.2 i s (List.getElem?_eq_some_iff.1 hs).1 hs
 unfold CpAt
 simp only [cell_row h1, Nat.zero_add]
 exact ⟨this 0 (by omega), this 1 (by omega), this 2 (by omega), this 3 (by omega), this 4 (by omega), this 5 (by omega), this 6 (by omega)⟩
theorem marksCp_len (k : Int) (n : Nat) : (marksCp k n).length = n := by simp [marksCp]
theorem marksCp_at {k : Int} {n i : Nat} (h : i < n) : (marksCp k n)[i]? = some (markCp (k + 7 * i)) := by simp [marksCp, h]
set_option maxRecDepth 100000 in
set_option maxHeartbeats 8000000 in
theorem markCpS_any (len : Nat) (b cap : Nat) (k0 : Int) (w : World) (hl : len ≤ 1048576) (h0 : 1 ≤ k0) (h1 : k0 + 7 * len < 100000000) (hO : RoomC w b len) :
  Calls Tryz.prog 35 #[.slice (some ⟨b, 0, none⟩) len cap, .int .i64 k0] w fun e w' => e = .returned (.int .i64 (k0 + 7 * len)) ∧ FillC w' b (marksCp k0 len) ∧ w.grownBy w' (some b) := by
 obtain ⟨cur0, hc0, hf0⟩ := hO
 have HC0 : Hid _ := hc0
 have hcs0 : len * 7 ≤ cur0.toList.length := by rw [Array.length_toList]; exact hf0
 clear hc0 hf0
 go_enter Tryz.func35, Tryz.ntmps35
 go_wp2
 go_loopw [1, 5] (fun kv iv wr => ∃ (i : Nat) (k : Int) (cur : Array Value), i ≤ len ∧ iv = .int .i64 i ∧ kv = .int .i64 k ∧ Hid (k = k0 + 7 * i) ∧ 1 ≤ k ∧ k ≤ k0 + 7 * i ∧ Hid (wr.heap[b]? = some (.cells cur 88 (0, 0))) ∧ Hid (FillP Cp.cells 7 (marksCp k0 len) i cur.toList) ∧ w.grownBy wr (some b)) (fun _ i _ => len - (intOf i).toNat)
 case atStart => exact ⟨0, k0, cur0, by omega, rfl, rfl, by unfold Hid; simp, h0, by simp, HC0, ⟨by rw [marksCp_len]; exact hcs0, fun i s hi => absurd hi (by omega)⟩, grown_refl _ _⟩
 case round =>
  obtain ⟨i, k, cur, hi, rfl, rfl, HK, hk1, hk2, hrow, hfill, hgr⟩ := hrel
  have hbl : b < wr.heap.size := (Array.getElem?_eq_some_iff.1 hrow.out).1
  by_cases hlt : i < len
  ·have hcl : len * 7 ≤ cur.toList.length := by have := hfill.out.1; rwa [marksCp_len] at this
   have hfit : i * 7 + 7 ≤ cur.toList.length := Nat.le_trans (by rw [← Nat.succ_mul]; exact Nat.mul_le_mul_right 7 hlt) hcl
   clear hcl
   go_wp2_with fail
   refine (markText_any (k) _ (by omega) (by omega)).mono ?_
   rintro e wm0 ⟨rfl, hbm⟩
   have hrs : Hid (wm0.heap[b]? = some (.cells (splice cur.toList (i * 7) []).toArray 88 (0, 0))) := by unfold Hid; rw [splice_nil]; exact (hbm.block b hbl).trans hrow.out
   have hgs := grown_below hgr hbm
   clear hbm
   go_wp2_with (first
    | (refine wpList_store_next rfl 9 (.tmp 17) (.tmp 15) rfl b (i * 7) [] cur.toList _ rfl rfl Tryz.infosString rfl rfl 88 hrs.out (by simp only [List.length_nil]; omega) ?_; intro wx0 hx on; have hr0 : Hid (wx0.heap[b]? = some (.cells (splice cur.toList (i * 7) [.string (mt (k))]).toArray 88 (0, 0))) := hx; have hg0 := grown_only hgs on; clear hx on)
    | (refine wpList_store_next rfl 3 (.tmp 24) (.tmp 22) rfl b (i * 7) [.string (mt (k))] cur.toList _ rfl rfl Tryz.infosInt' rfl rfl 88 hr0.out (by simp only [List.length_cons, List.length_nil]; omega) ?_; intro wx1 hx on; have hr1 : Hid (wx1.heap[b]? = some (.cells (splice cur.toList (i * 7) [.string (mt (k)), .int .i64 (k + 1)]).toArray 88 (0, 0))) := hx; have hg1 := grown_only hg0 on; clear hx on)
    | (refine wpList_store_next rfl 3 (.tmp 31) (.tmp 29) rfl b (i * 7) [.string (mt (k)), .int .i64 (k + 1)] cur.toList _ rfl rfl Tryz.infosInt' rfl rfl 88 hr1.out (by simp only [List.length_cons, List.length_nil]; omega) ?_; intro wx2 hx on; have hr2 : Hid (wx2.heap[b]? = some (.cells (splice cur.toList (i * 7) [.string (mt (k)), .int .i64 (k + 1), .int .i64 (k + 1 + 1)]).toArray 88 (0, 0))) := hx; have hg2 := grown_only hg1 on; clear hx on)
    | (refine wpList_store_next rfl 3 (.tmp 38) (.tmp 36) rfl b (i * 7) [.string (mt (k)), .int .i64 (k + 1), .int .i64 (k + 1 + 1)] cur.toList _ rfl rfl Tryz.infosInt' rfl rfl 88 hr2.out (by simp only [List.length_cons, List.length_nil]; omega) ?_; intro wx3 hx on; have hr3 : Hid (wx3.heap[b]? = some (.cells (splice cur.toList (i * 7) [.string (mt (k)), .int .i64 (k + 1), .int .i64 (k + 1 + 1), .int .i64 (k + 1 + 1 + 1)]).toArray 88 (0, 0))) := hx; have hg3 := grown_only hg2 on; clear hx on)
    | (refine wpList_store_next rfl 3 (.tmp 45) (.tmp 43) rfl b (i * 7) [.string (mt (k)), .int .i64 (k + 1), .int .i64 (k + 1 + 1), .int .i64 (k + 1 + 1 + 1)] cur.toList _ rfl rfl Tryz.infosInt' rfl rfl 88 hr3.out (by simp only [List.length_cons, List.length_nil]; omega) ?_; intro wx4 hx on; have hr4 : Hid (wx4.heap[b]? = some (.cells (splice cur.toList (i * 7) [.string (mt (k)), .int .i64 (k + 1), .int .i64 (k + 1 + 1), .int .i64 (k + 1 + 1 + 1), .int .i64 (k + 1 + 1 + 1 + 1)]).toArray 88 (0, 0))) := hx; have hg4 := grown_only hg3 on; clear hx on)
    | (refine wpList_store_next rfl 4 (.tmp 54) (.tmp 52) rfl b (i * 7) [.string (mt (k)), .int .i64 (k + 1), .int .i64 (k + 1 + 1), .int .i64 (k + 1 + 1 + 1), .int .i64 (k + 1 + 1 + 1 + 1)] cur.toList _ rfl rfl Tryz.infosBool' rfl rfl 88 hr4.out (by simp only [List.length_cons, List.length_nil]; omega) ?_; intro wx5 hx on; have hr5 : Hid (wx5.heap[b]? = some (.cells (splice cur.toList (i * 7) [.string (mt (k)), .int .i64 (k + 1), .int .i64 (k + 1 + 1), .int .i64 (k + 1 + 1 + 1), .int .i64 (k + 1 + 1 + 1 + 1), .bool ((k + 1 + 1 + 1 + 1 + 1) % 3 == 0)]).toArray 88 (0, 0))) := hx; have hg5 := grown_only hg4 on; clear hx on))
   refine (markText_any (k + 1 + 1 + 1 + 1 + 1 + 1) _ (by omega) (by omega)).mono ?_
   rintro e wm1 ⟨rfl, hbm⟩
   have hq5 : Hid (wm1.heap[b]? = some (.cells (splice cur.toList (i * 7) [.string (mt (k)), .int .i64 (k + 1), .int .i64 (k + 1 + 1), .int .i64 (k + 1 + 1 + 1), .int .i64 (k + 1 + 1 + 1 + 1), .bool ((k + 1 + 1 + 1 + 1 + 1) % 3 == 0)]).toArray 88 (0, 0))) := (hbm.block b (Array.getElem?_eq_some_iff.1 hr5.out).1).trans hr5.out
   have hh5 := grown_below hg5 hbm
   clear hbm
   go_wp2_with (first
    | (refine wpList_store_next rfl 9 (.tmp 62) (.tmp 60) rfl b (i * 7) [.string (mt (k)), .int .i64 (k + 1), .int .i64 (k + 1 + 1), .int .i64 (k + 1 + 1 + 1), .int .i64 (k + 1 + 1 + 1 + 1), .bool ((k + 1 + 1 + 1 + 1 + 1) % 3 == 0)] cur.toList _ rfl rfl Tryz.infosString rfl rfl 88 hq5.out (by simp only [List.length_cons, List.length_nil]; omega) ?_; intro wx6 hx on; have hr6 : Hid (wx6.heap[b]? = some (.cells (splice cur.toList (i * 7) [.string (mt (k)), .int .i64 (k + 1), .int .i64 (k + 1 + 1), .int .i64 (k + 1 + 1 + 1), .int .i64 (k + 1 + 1 + 1 + 1), .bool ((k + 1 + 1 + 1 + 1 + 1) % 3 == 0), .string (mt (k + 1 + 1 + 1 + 1 + 1 + 1))]).toArray 88 (0, 0))) := hx; have hg6 := grown_only hh5 on; clear hx on))
   have HS : Hid _ := hfill.out.step (marksCp_at hlt) rfl
   rw [← HK.out] at HS
   go_roundw
   case rel => exact ⟨i + 1, k + 1 + 1 + 1 + 1 + 1 + 1 + 1, _, by omega, by go_num, rfl, by unfold Hid; rw [HK.out]; push_cast; omega, by omega, by push_cast; omega, hr6, HS, hg6⟩
   case measure => simp [intOf]; omega
  ·go_wp2
   go_ret
   have hil : i = len := by omega
   subst hil
   have hkk := HK.out
   subst hkk
   refine ⟨rfl, ⟨cur, hrow.out, ?_⟩, hgr⟩
   have := hfill.out
   rw [marksCp_len]
   exact this
def markBt (k : Int) : Bt := ⟨mt (k), ((k + 1) % 3 == 0)⟩
def marksBt (k : Int) (n : Nat) : List Bt := (List.range n).map fun (i : Nat) => markBt (k + 2 * i)
def RoomB (w : World) (b len : Nat) : Prop := ∃ cur : Array Value, w.heap[b]? = some (.cells cur 86 (0, 0)) ∧ len * 2 ≤ cur.size
def FillB (w : World) (b : Nat) (l : List Bt) : Prop := ∃ cur : Array Value, w.heap[b]? = some (.cells cur 86 (0, 0)) ∧ FillP Bt.cells 2 l l.length cur.toList
theorem OwnB.room {w : World} {b : Nat} {l : List Bt} (h : OwnB w b l) : RoomB w b l.length := let ⟨cur, h1, h2⟩ := h; ⟨cur, h1, by have := h2.1; rw [Array.length_toList] at this; omega⟩
theorem RoomB.blk {w w' : World} {b n : Nat} (h : RoomB w b n) (hb : w'.heap[b]? = w.heap[b]?) : RoomB w' b n := let ⟨cur, h1, h2⟩ := h; ⟨cur, hb.trans h1, h2⟩
theorem FillB.blk {w w' : World} {b : Nat} {l : List Bt} (h : FillB w b l) (hb : w'.heap[b]? = w.heap[b]?) : FillB w' b l := let ⟨cur, h1, h2⟩ := h; ⟨cur, hb.trans h1, h2⟩
theorem FillB.sl {w : World} {b : Nat} {l : List Bt} (h : FillB w b l) : SlB w (some ⟨b, 0, none⟩) l := fun _ => by
 obtain ⟨cur, h1, h2⟩ := h
 refine ⟨b, 0, rfl, (Array.getElem?_eq_some_iff.1 h1).1, fun i s hs => ?_⟩
 have := h2.2 i s (List.getElem?_eq_some_iff.1 hs).1 hs
 unfold BtAt
 simp only [cell_row h1, Nat.zero_add]
 exact ⟨this 0 (by omega), this 1 (by omega)⟩
theorem marksBt_len (k : Int) (n : Nat) : (marksBt k n).length = n := by simp [marksBt]
theorem marksBt_at {k : Int} {n i : Nat} (h : i < n) : (marksBt k n)[i]? = some (markBt (k + 2 * i)) := by simp [marksBt, h]
set_option maxRecDepth 100000 in
set_option maxHeartbeats 8000000 in
theorem markBtS_any (len : Nat) (b cap : Nat) (k0 : Int) (w : World) (hl : len ≤ 1048576) (h0 : 1 ≤ k0) (h1 : k0 + 2 * len < 100000000) (hO : RoomB w b len) :
  Calls Tryz.prog 36 #[.slice (some ⟨b, 0, none⟩) len cap, .int .i64 k0] w fun e w' => e = .returned (.int .i64 (k0 + 2 * len)) ∧ FillB w' b (marksBt k0 len) ∧ w.grownBy w' (some b) := by
 obtain ⟨cur0, hc0, hf0⟩ := hO
 have HC0 : Hid _ := hc0
 have hcs0 : len * 2 ≤ cur0.toList.length := by rw [Array.length_toList]; exact hf0
 clear hc0 hf0
 go_enter Tryz.func36, Tryz.ntmps36
 go_wp2
 go_loopw [1, 5] (fun kv iv wr => ∃ (i : Nat) (k : Int) (cur : Array Value), i ≤ len ∧ iv = .int .i64 i ∧ kv = .int .i64 k ∧ Hid (k = k0 + 2 * i) ∧ 1 ≤ k ∧ k ≤ k0 + 2 * i ∧ Hid (wr.heap[b]? = some (.cells cur 86 (0, 0))) ∧ Hid (FillP Bt.cells 2 (marksBt k0 len) i cur.toList) ∧ w.grownBy wr (some b)) (fun _ i _ => len - (intOf i).toNat)
 case atStart => exact ⟨0, k0, cur0, by omega, rfl, rfl, by unfold Hid; simp, h0, by simp, HC0, ⟨by rw [marksBt_len]; exact hcs0, fun i s hi => absurd hi (by omega)⟩, grown_refl _ _⟩
 case round =>
  obtain ⟨i, k, cur, hi, rfl, rfl, HK, hk1, hk2, hrow, hfill, hgr⟩ := hrel
  have hbl : b < wr.heap.size := (Array.getElem?_eq_some_iff.1 hrow.out).1
  by_cases hlt : i < len
  ·have hcl : len * 2 ≤ cur.toList.length := by have := hfill.out.1; rwa [marksBt_len] at this
   have hfit : i * 2 + 2 ≤ cur.toList.length := Nat.le_trans (by rw [← Nat.succ_mul]; exact Nat.mul_le_mul_right 2 hlt) hcl
   clear hcl
   go_wp2_with fail
   refine (markText_any (k) _ (by omega) (by omega)).mono ?_
   rintro e wm0 ⟨rfl, hbm⟩
   have hrs : Hid (wm0.heap[b]? = some (.cells (splice cur.toList (i * 2) []).toArray 86 (0, 0))) := by unfold Hid; rw [splice_nil]; exact (hbm.block b hbl).trans hrow.out
   have hgs := grown_below hgr hbm
   clear hbm
   go_wp2_with (first
    | (refine wpList_store_next rfl 9 (.tmp 17) (.tmp 15) rfl b (i * 2) [] cur.toList _ rfl rfl Tryz.infosString rfl rfl 86 hrs.out (by simp only [List.length_nil]; omega) ?_; intro wx0 hx on; have hr0 : Hid (wx0.heap[b]? = some (.cells (splice cur.toList (i * 2) [.string (mt (k))]).toArray 86 (0, 0))) := hx; have hg0 := grown_only hgs on; clear hx on)
    | (refine wpList_store_next rfl 4 (.tmp 26) (.tmp 24) rfl b (i * 2) [.string (mt (k))] cur.toList _ rfl rfl Tryz.infosBool' rfl rfl 86 hr0.out (by simp only [List.length_cons, List.length_nil]; omega) ?_; intro wx1 hx on; have hr1 : Hid (wx1.heap[b]? = some (.cells (splice cur.toList (i * 2) [.string (mt (k)), .bool ((k + 1) % 3 == 0)]).toArray 86 (0, 0))) := hx; have hg1 := grown_only hg0 on; clear hx on))
   have HS : Hid _ := hfill.out.step (marksBt_at hlt) rfl
   rw [← HK.out] at HS
   go_roundw
   case rel => exact ⟨i + 1, k + 1 + 1, _, by omega, by go_num, rfl, by unfold Hid; rw [HK.out]; push_cast; omega, by omega, by push_cast; omega, hr1, HS, hg1⟩
   case measure => simp [intOf]; omega
  ·go_wp2
   go_ret
   have hil : i = len := by omega
   subst hil
   have hkk := HK.out
   subst hkk
   refine ⟨rfl, ⟨cur, hrow.out, ?_⟩, hgr⟩
   have := hfill.out
   rw [marksBt_len]
   exact this
def RoomE (w : World) (b len : Nat) : Prop := ∃ cur : Array Value, w.heap[b]? = some (.cells cur 118 (0, 0)) ∧ len * 2 ≤ cur.size
def FillE (w : World) (b : Nat) (l : List En) : Prop := ∃ cur : Array Value, w.heap[b]? = some (.cells cur 118 (0, 0)) ∧ FillP En.cells 2 l l.length cur.toList
theorem OwnE.room {w : World} {b : Nat} {l : List En} (h : OwnE w b l) : RoomE w b l.length := let ⟨cur, h1, h2⟩ := h; ⟨cur, h1, by have := h2.1; rw [Array.length_toList] at this; omega⟩
theorem RoomE.blk {w w' : World} {b n : Nat} (h : RoomE w b n) (hb : w'.heap[b]? = w.heap[b]?) : RoomE w' b n := let ⟨cur, h1, h2⟩ := h; ⟨cur, hb.trans h1, h2⟩
theorem FillE.blk {w w' : World} {b : Nat} {l : List En} (h : FillE w b l) (hb : w'.heap[b]? = w.heap[b]?) : FillE w' b l := let ⟨cur, h1, h2⟩ := h; ⟨cur, hb.trans h1, h2⟩
theorem FillE.sl {w : World} {b : Nat} {l : List En} (h : FillE w b l) : SlE w (some ⟨b, 0, none⟩) l := fun _ => by
 obtain ⟨cur, h1, h2⟩ := h
 refine ⟨b, 0, rfl, (Array.getElem?_eq_some_iff.1 h1).1, fun i s hs => ?_⟩
 have := h2.2 i s (List.getElem?_eq_some_iff.1 hs).1 hs
 unfold EnAt
 simp only [cell_row h1, Nat.zero_add]
 exact ⟨this 0 (by omega), this 1 (by omega)⟩
end Go.Proofs.YtbceafpodamnfabGreat
