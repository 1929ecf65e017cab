/-
  My own. The book: measured, copied.
-/
import Derived.Test.YtbceafpodamnfaaWd2
namespace Go.Proofs.Ytbceafpodamnfaa
open Go.RowKit

structure Bk where
  now : Int
  svcs : List Svc
  cps : List Cp
  bts : List Bt

def SlS (w : World) (ao : Option Addr) (l : List Svc) : Prop := l ≠ [] → ∃ b off, ao = some ⟨b, off, none⟩ ∧ b < w.heap.size ∧ SvcsAt w b off l
def SlC (w : World) (ao : Option Addr) (l : List Cp) : Prop := l ≠ [] → ∃ b off, ao = some ⟨b, off, none⟩ ∧ b < w.heap.size ∧ CpsAt w b off l
def SlB (w : World) (ao : Option Addr) (l : List Bt) : Prop := l ≠ [] → ∃ b off, ao = some ⟨b, off, none⟩ ∧ b < w.heap.size ∧ BtsAt w b off l

theorem SlS.below {w w' : World} {ao : Option Addr} {l : List Svc} (h : SlS w ao l) (hb : Below w.heap.size w w') : SlS w' ao l := fun hl =>
  let ⟨b, off, e, hlt, hat⟩ := h hl
  ⟨b, off, e, Nat.lt_of_lt_of_le hlt hb.size, fun i s hs => (hat i s hs).below hb hlt⟩
theorem SlC.below {w w' : World} {ao : Option Addr} {l : List Cp} (h : SlC w ao l) (hb : Below w.heap.size w w') : SlC w' ao l := fun hl =>
  let ⟨b, off, e, hlt, hat⟩ := h hl
  ⟨b, off, e, Nat.lt_of_lt_of_le hlt hb.size, fun i s hs => (hat i s hs).below hb hlt⟩
theorem SlB.below {w w' : World} {ao : Option Addr} {l : List Bt} (h : SlB w ao l) (hb : Below w.heap.size w w') : SlB w' ao l := fun hl =>
  let ⟨b, off, e, hlt, hat⟩ := h hl
  ⟨b, off, e, Nat.lt_of_lt_of_le hlt hb.size, fun i s hs => (hat i s hs).below hb hlt⟩

/-- The book B lies in w, its three slices at these addresses. -/
def BkAt (w : World) (a1 a2 a3 : Option Addr) (B : Bk) : Prop := SlS w a1 B.svcs ∧ SlC w a2 B.cps ∧ SlB w a3 B.bts
theorem BkAt.below {w w' : World} {a1 a2 a3 : Option Addr} {B : Bk} (h : BkAt w a1 a2 a3 B) (hb : Below w.heap.size w w') : BkAt w' a1 a2 a3 B :=
  ⟨h.1.below hb, h.2.1.below hb, h.2.2.below hb⟩

/-- All that a book's strings may be. -/
def Bk.sized (B : Bk) : Prop := B.svcs.length ≤ maxLen ∧ B.cps.length ≤ maxLen ∧ B.bts.length ≤ maxLen ∧ (∀ s ∈ B.svcs, s.name.size ≤ maxLen) ∧ (∀ s ∈ B.cps, s.service.size ≤ maxLen ∧ s.berth.size ≤ maxLen) ∧ (∀ s ∈ B.bts, s.name.size ≤ maxLen)
def Bk.small (B : Bk) : Prop := B.svcs.length ≤ 1048576 ∧ B.cps.length ≤ 1048576 ∧ B.bts.length ≤ 1048576

theorem below_box (w : World) (o : Obj) : Below w.heap.size w (w.alloc o) := (Below.refl _ _).alloc (Nat.le_refl _) _

theorem bcell {W w1 : World} (hb : Below W.heap.size W w1) : (∀ b o, b < W.heap.size → w1.cell? ⟨b, o, none⟩ = W.cell? ⟨b, o, none⟩) ∧ (∀ b o, b < W.heap.size → w1.frozen? ⟨b, o, none⟩ = W.frozen? ⟨b, o, none⟩) :=
  ⟨fun b o h => hb.cell (p := ⟨b, o, none⟩) h, fun b o h => hb.frozen (p := ⟨b, o, none⟩) h⟩

set_option maxHeartbeats 400000 in
theorem szBook_any (B : Bk) (a1 a2 a3 : Option Addr) (c1 c2 c3 : Nat) (left : Int) (w : World) (h0 : 0 ≤ left) (h1 : left ≤ 1048576) (hB : BkAt w a1 a2 a3 B) (hS : B.sized) :
    Calls Try.prog 14 #[.agg #[.int .i64 B.now, .slice a1 B.svcs.length c1, .slice a2 B.cps.length c2, .slice a3 B.bts.length c3], .int .i64 left] w fun e w' => ∃ r, e = .returned (.int .i64 r) ∧ -1 ≤ r ∧ r ≤ left ∧ Hid (0 ≤ r → B.small) ∧ Below w.heap.size w w' := by
  go_enter Try.func14, Try.ntmps14
  go_wp2_with fail
  have hb0 := below_box w (.cells #[.int .i64 B.now, .slice a1 B.svcs.length c1, .slice a2 B.cps.length c2, .slice a3 B.bts.length c3] 44)
  refine (szServiceS_any B.svcs a1 c1 left _ h0 h1 hS.1 hS.2.2.2.1 (hB.1.below hb0)).mono ?_
  rintro e w1 ⟨r1, rfl, hr1, hr1', hq1, hb1⟩
  have hB1 := (hB.below hb0).below hb1
  have hbb1 := hb0.trans (hb1.mono hb0.size)
  obtain ⟨hc1, hf1⟩ := bcell hb1
  have HQ1 : Hid (0 ≤ r1 → (B.svcs.length : Int) ≤ left) := hq1
  clear hq1
  by_cases hn1 : r1 < 0
  · go_wp2
    go_ret
    exact ⟨-1, rfl, by omega, by omega, fun h => absurd h (by omega), hbb1⟩
  have HL1 : Hid ((B.svcs.length : Int) ≤ left) := HQ1.out (by omega)
  go_wp2_with fail
  refine (szCopyS_any B.cps a2 c2 r1 _ (by omega) (by omega) hS.2.1 hS.2.2.2.2.1 hB1.2.1).mono ?_
  rintro e w2 ⟨r2, rfl, hr2, hr2', hq2, hb2⟩
  have hB2 := hB1.below hb2
  have hbb2 := hbb1.trans (hb2.mono hbb1.size)
  have hz1 : w.heap.size < w1.heap.size := by have := hb1.size; simp at this; omega
  obtain ⟨hc2, hf2⟩ := bcell hb2
  have HQ2 : Hid (0 ≤ r2 → (B.cps.length : Int) ≤ r1) := hq2
  clear hq2
  by_cases hn2 : r2 < 0
  · go_wp2
    go_ret
    exact ⟨-1, rfl, by omega, by omega, fun h => absurd h (by omega), hbb2⟩
  have HL2 : Hid ((B.cps.length : Int) ≤ r1) := HQ2.out (by omega)
  go_wp2_with fail
  refine (szBerthS_any B.bts a3 c3 r2 _ (by omega) (by omega) hS.2.2.1 hS.2.2.2.2.2 hB2.2.2).mono ?_
  rintro e w3 ⟨r3, rfl, hr3, hr3', hq3, hb3⟩
  have hbb3 := hbb2.trans (hb3.mono hbb2.size)
  have HQ3 : Hid (0 ≤ r3 → (B.bts.length : Int) ≤ r2) := hq3
  clear hq3
  by_cases hn3 : r3 < 0
  · go_wp2
    go_ret
    exact ⟨-1, rfl, by omega, by omega, fun h => absurd h (by omega), hbb3⟩
  go_wp2
  go_ret
  exact ⟨r3, rfl, by omega, by omega, fun _ => ⟨by have := HL1.out; omega, by have := HL2.out; omega, by have := HQ3.out (by omega); omega⟩, hbb3⟩

set_option maxHeartbeats 400000 in
theorem toBook_any (B : Bk) (a1 a2 a3 : Option Addr) (c1 c2 c3 : Nat) (w : World) (hB : BkAt w a1 a2 a3 B) (hS : B.small) :
    Calls Try.prog 15 #[.agg #[.int .i64 B.now, .slice a1 B.svcs.length c1, .slice a2 B.cps.length c2, .slice a3 B.bts.length c3]] w fun e w' => ∃ x1 x2 x3, e = .returned (.agg #[.int .i64 B.now, .slice x1 B.svcs.length B.svcs.length, .slice x2 B.cps.length B.cps.length, .slice x3 B.bts.length B.bts.length]) ∧ BkAt w' x1 x2 x3 B ∧ Below w.heap.size w w' := by
  go_enter Try.func15, Try.ntmps15
  go_wp2_with fail
  refine (toServiceS_any B.svcs a1 c1 _ hS.1 (hB.1.below ?hb)).mono ?_
  case hb => exact (((Below.refl _ _).alloc (Nat.le_refl _) _).alloc (by simp) _).alloc (by simp; omega) _
  rintro e w1 ⟨rfl, hz1, hat1, hb1⟩
  have hbb1 : Below w.heap.size w w1 := ((((Below.refl _ _).alloc (Nat.le_refl _) _).alloc (by simp) _).alloc (by simp; omega) _).trans (hb1.mono (by simp; omega))
  obtain ⟨t0, t1, t2, t3⟩ := three_new w (.cells #[.int .i64 B.now, .slice a1 B.svcs.length c1, .slice a2 B.cps.length c2, .slice a3 B.bts.length c3] 44) (.cells #[.int .i64 0, .slice none 0 0, .slice none 0 0, .slice none 0 0] 27) (.cells #[.int .i64 B.now, .slice none 0 0, .slice none 0 0, .slice none 0 0] 27)
  rw [t3] at hz1 hat1 hb1
  rw [t3]
  have k0 : Hid (w1.heap[w.heap.size]? = _) := (hb1.block _ (by omega)).trans t0
  have k1 : Hid (w1.heap[w.heap.size + 1]? = _) := (hb1.block _ (by omega)).trans t1
  have k2 : Hid (w1.heap[w.heap.size + 1 + 1]? = _) := (hb1.block _ (by omega)).trans t2
  have HAT1 : Hid (SvcsAt w1 (w.heap.size + 1 + 1 + 1) 0 B.svcs) := hat1
  have HZ1 : Hid (w.heap.size + 1 + 1 + 1 < w1.heap.size) := hz1
  clear t0 t1 t2 t3
  have q1 := blk_cell k0.out 2 rfl
  have q2 := blk_cell k2.out 1 rfl
  have q3 := blk_frozen k2.out 1
  clear hat1 hz1 hb1
  go_wp2_with fail
  have hbs1 : Below w.heap.size w (w1.setCell ⟨w.heap.size + 1 + 1, 1, none⟩ (.slice (some ⟨w.heap.size + 1 + 1 + 1, 0, none⟩) B.svcs.length B.svcs.length)) := hbb1.setCell (by show _ ≤ w.heap.size + 1 + 1; omega) _
  refine (toCopyS_any B.cps a2 c2 _ hS.2.1 (hB.2.1.below hbs1)).mono ?_
  rintro e w2 ⟨rfl, hz2, hat2, hb2⟩
  rw [size_setCell] at hz2 hat2 hb2
  rw [size_setCell]
  have hbb2 : Below w.heap.size w w2 := hbs1.trans (hb2.mono hbb1.size)
  have k0' : Hid (w2.heap[w.heap.size]? = _) := (hb2.block _ (by have := HZ1.out; omega)).trans ((Below.heap_setCell _ _ _ _ (by show _ ≠ w.heap.size + 1 + 1; omega)).trans k0.out)
  have k1' : Hid (w2.heap[w.heap.size + 1]? = _) := (hb2.block _ (by have := HZ1.out; omega)).trans ((Below.heap_setCell _ _ _ _ (by show _ ≠ w.heap.size + 1 + 1; omega)).trans k1.out)
  have k2' : Hid (w2.heap[w.heap.size + 1 + 1]? = _) := (hb2.block _ (by have := HZ1.out; omega)).trans (blk_set k2.out 1 _)
  have HAT2 : Hid (CpsAt w2 w1.heap.size 0 B.cps) := hat2
  have HAT1' : Hid (SvcsAt w2 (w.heap.size + 1 + 1 + 1) 0 B.svcs) := fun i s hs => (HAT1.out i s hs).blk ((hb2.block _ HZ1.out).trans (Below.heap_setCell _ _ _ _ (by show _ ≠ w.heap.size + 1 + 1; omega)))
  have HZ2 : Hid (w1.heap.size < w2.heap.size) := hz2
  have p1 := blk_cell k0'.out 3 rfl
  have p2 := blk_cell k2'.out 2 rfl
  have p3 := blk_frozen k2'.out 2
  clear hat2 hz2 hb2 q1 q2 q3 hbs1 hbb1
  go_wp2_with fail
  have hbs2 : Below w.heap.size w (w2.setCell ⟨w.heap.size + 1 + 1, 2, none⟩ (.slice (some ⟨w1.heap.size, 0, none⟩) B.cps.length B.cps.length)) := hbb2.setCell (by show _ ≤ w.heap.size + 1 + 1; omega) _
  refine (toBerthS_any B.bts a3 c3 _ hS.2.2 (hB.2.2.below hbs2)).mono ?_
  rintro e w3 ⟨rfl, hz3, hat3, hb3⟩
  rw [size_setCell] at hz3 hat3 hb3
  rw [size_setCell]
  have hbb3 : Below w.heap.size w w3 := hbs2.trans (hb3.mono hbb2.size)
  have hzz : w.heap.size + 1 + 1 + 1 < w2.heap.size := by have := HZ1.out; have := HZ2.out; omega
  have k1'' : Hid (w3.heap[w.heap.size + 1]? = _) := (hb3.block _ (by omega)).trans ((Below.heap_setCell _ _ _ _ (by show _ ≠ w.heap.size + 1 + 1; omega)).trans k1'.out)
  have k2'' : Hid (w3.heap[w.heap.size + 1 + 1]? = _) := (hb3.block _ (by omega)).trans (blk_set k2'.out 2 _)
  have HAT3 : Hid (BtsAt w3 w2.heap.size 0 B.bts) := hat3
  have HAT2' : Hid (CpsAt w3 w1.heap.size 0 B.cps) := fun i s hs => (HAT2.out i s hs).blk ((hb3.block _ HZ2.out).trans (Below.heap_setCell _ _ _ _ (by show _ ≠ w.heap.size + 1 + 1; have := HZ1.out; omega)))
  have HAT1'' : Hid (SvcsAt w3 (w.heap.size + 1 + 1 + 1) 0 B.svcs) := fun i s hs => (HAT1'.out i s hs).blk ((hb3.block _ hzz).trans (Below.heap_setCell _ _ _ _ (by show _ ≠ w.heap.size + 1 + 1; omega)))
  have HZ3 : Hid (w2.heap.size < w3.heap.size) := hz3
  have p3 := blk_cell k2''.out 3 rfl
  have p4 := blk_frozen k2''.out 3
  have HZZ : Hid (w.heap.size + 1 + 1 + 1 < w2.heap.size) := hzz
  clear hat3 hz3 hb3 p1 p2 p3 hbs2 hbb2 hzz
  have p3 := blk_cell k2''.out 3 rfl
  have r0 := blk_cell k2''.out 0 rfl
  have r1 := blk_cell k2''.out 1 rfl
  have r2 := blk_cell k2''.out 2 rfl
  have s0 := blk_cell k1''.out 0 rfl
  have s1 := blk_cell k1''.out 1 rfl
  have s2 := blk_cell k1''.out 2 rfl
  have s3 := blk_cell k1''.out 3 rfl
  have f0 := blk_frozen k1''.out 0
  have f1 := blk_frozen k1''.out 1
  have f2 := blk_frozen k1''.out 2
  have f3 := blk_frozen k1''.out 3
  go_wp2
  refine bodyPost_ret (v := .agg #[.int .i64 B.now, .slice (some ⟨w.heap.size + 1 + 1 + 1, 0, none⟩) B.svcs.length B.svcs.length, .slice (some ⟨w1.heap.size, 0, none⟩) B.cps.length B.cps.length, .slice (some ⟨w2.heap.size, 0, none⟩) B.bts.length B.bts.length]) (by simp [results, Try.results15, go_sem, s0, s1, s2, s3]) rfl ⟨_, _, _, rfl, ?_, ?_⟩
  · have z1 := HZ1.out
    have z2 := HZ2.out
    have z3 := HZ3.out
    have z4 := HZZ.out
    refine ⟨fun _ => ⟨_, _, rfl, ?_, fun i s hs => (HAT1''.out i s hs).blk ?_⟩, fun _ => ⟨_, _, rfl, ?_, fun i s hs => (HAT2'.out i s hs).blk ?_⟩, fun _ => ⟨_, _, rfl, ?_, fun i s hs => (HAT3.out i s hs).blk ?_⟩⟩
    · simp only [size_setCell]; omega
    · repeat rw [Below.heap_setCell _ _ _ _ (by simp; try omega)]
    · simp only [size_setCell]; omega
    · repeat rw [Below.heap_setCell _ _ _ _ (by simp; try omega)]
    · simp only [size_setCell]; omega
    · repeat rw [Below.heap_setCell _ _ _ _ (by simp; try omega)]
  · exact ((((hbb3.setCell (by simp; omega) _).setCell (by simp) _).setCell (by simp) _).setCell (by simp) _).setCell (by simp) _

end Go.Proofs.Ytbceafpodamnfaa
