/-
  My own: Ye, Yi.
-/
import Derived.Test.YtbceafpodamnfabGreatDoorG05
set_option linter.unusedVariables false
set_option linter.unusedSimpArgs false
namespace Go.Proofs.YtbceafpodamnfabGreatDoor
open Go.RowKit Go.Shelf
attribute [local go_sem] Oper.semAt_some
def cntCells (n : Cnt) : Array Value := #[.int .i64 n.live, .int .i64 n.ready, .int .i64 n.old, .int .i64 n.failed, .int .i64 n.ending]
def cntF (img : Int) (l : List Cp) : Cnt := l.foldl (fun n c => cntAdd img c n) Cnt.none
theorem cntF_snoc (img : Int) (l : List Cp) (c : Cp) : cntF img (l ++ [c]) = cntAdd img c (cntF img l) := by simp [cntF]
theorem cntF_ofS (img : Int) (nm : ByteArray) : ∀ (l : List Cp) (n : Cnt), (ofS nm l).foldl (fun n c => cntAdd img c n) n = l.foldl (fun n c => cntOne img nm c n) n
 | [], _ => rfl
 | c :: l, n => by
  have ih := cntF_ofS img nm l
  unfold ofS at *
  rw [List.filter_cons, List.foldl_cons]
  by_cases h : (c.service.toList == nm.toList) = true
  ·rw [if_pos h, List.foldl_cons, ih]; simp [cntOne, h]
  ·rw [if_neg h, ih]; simp [cntOne, h]
theorem cntAdd_upTo (img : Int) (c : Cp) (n : Cnt) (k : Nat) (h : n.upTo k) : (cntAdd img c n).upTo (k + 1) := by
 have := cntOne_upTo img c.service c n k h
 simpa [cntOne] using this
theorem cntF_upTo (img : Int) (l : List Cp) : (cntF img l).upTo l.length := by
 have : ∀ (l : List Cp) (n : Cnt) (k : Nat), n.upTo k → (l.foldl (fun n c => cntAdd img c n) n).upTo (k + l.length) := by
  intro l
  induction l with
  | nil => intro n k h; exact h
  | cons c l ih =>
   intro n k h
   have := ih _ _ (cntAdd_upTo img c n k h)
   rw [List.foldl_cons, List.length_cons, Nat.add_comm l.length 1, ← Nat.add_assoc]
   exact this
 have h := this l Cnt.none 0 (by unfold Cnt.upTo Cnt.none; dsimp only; omega)
 rw [Nat.zero_add] at h
 exact h
theorem ofS_length (nm : ByteArray) (l : List Cp) : (ofS nm l).length ≤ l.length := List.length_filter_le _ _
theorem cells_own {β : Type} (B : Nat) (t : TypeId) (f : β → Array Value) : Own (fun s W => W.heap[B]? = some (.cells (f s) t (0, 0))) := fun s X Y row hs hg hrow =>
 (hg.block B (Array.getElem?_eq_some_iff.1 hs).1 (fun e => by obtain ⟨o, ho, hc⟩ := hrow B e.symm; rw [hs] at ho; cases ho; cases hc)).trans hs
theorem six_new (w : World) (A B C D E F : Obj) : ∃ W0, ((((((w.alloc A).alloc B).alloc C).alloc D).alloc E).alloc F) = W0 ∧ W0.heap[w.heap.size + 1]? = some B ∧ W0.heap[w.heap.size + 1 + 1]? = some C ∧ W0.heap[w.heap.size + 1 + 1 + 1]? = some D ∧ W0.heap[w.heap.size + 1 + 1 + 1 + 1]? = some E ∧ W0.heap[w.heap.size + 1 + 1 + 1 + 1 + 1]? = some F ∧ W0.heap.size = w.heap.size + 1 + 1 + 1 + 1 + 1 + 1 ∧ Below w.heap.size w W0 := by
 refine ⟨_, rfl, ?_⟩
 have e : ((((((w.alloc A).alloc B).alloc C).alloc D).alloc E).alloc F).heap = (((((w.heap.push A).push B).push C).push D).push E).push F := rfl
 rw [e]
 refine ⟨?_, ?_, ?_, ?_, ?_, by simp, ?_⟩
 ·rw [Array.getElem?_push, if_neg (by simp; try omega), Array.getElem?_push, if_neg (by simp; try omega), Array.getElem?_push, if_neg (by simp; try omega), Array.getElem?_push, if_neg (by simp), Array.getElem?_push, if_pos (by simp)]
 ·rw [Array.getElem?_push, if_neg (by simp; try omega), Array.getElem?_push, if_neg (by simp; try omega), Array.getElem?_push, if_neg (by simp), Array.getElem?_push, if_pos (by simp)]
 ·rw [Array.getElem?_push, if_neg (by simp; try omega), Array.getElem?_push, if_neg (by simp), Array.getElem?_push, if_pos (by simp)]
 ·rw [Array.getElem?_push, if_neg (by simp), Array.getElem?_push, if_pos (by simp)]
 ·rw [Array.getElem?_push, if_pos (by simp)]
 ·exact ((((((Below.refl _ _).alloc (Nat.le_refl _) _).alloc (by simp) _).alloc (by simp; omega) _).alloc (by simp; omega) _).alloc (by simp; omega) _).alloc (by simp; omega) _
set_option maxRecDepth 100000 in
set_option maxHeartbeats 8000000 in
theorem countCopies_in (n : Nat) (hn : 3 ≤ n) (B : Bk) (s : Svc) (a1 a2 a3 : Option Addr) (c1 c2 c3 : Nat) (w : World) (hl2 : B.cps.length ≤ 1048576) (HSO : Hid (RiseC B.cps)) (HK : Hid (B.cps.length ≤ c2)) (hC : SlC w a2 B.cps) :
  CallsIn Fence.wide n Tryz.prog 225 #[.agg #[.int .i64 B.now, .slice a1 B.svcs.length c1, .slice a2 B.cps.length c2, .slice a3 B.bts.length c3], .agg #[.string s.name, .int .i64 s.version, .bool s.gone, .int .i64 s.image, .int .i64 s.want, .int .i64 s.down, .int .i64 s.over, .int .i64 s.next, .int .i64 s.per, .int .i64 s.least, .int .i64 s.most, .int .i64 s.load, .int .i64 s.cool]] w fun e w' => e = .returned (.agg (cntCells (cntF s.image (ofS s.name B.cps)))) ∧ Below w.heap.size w w' := by
 have hn1 : 1 ≤ n := by omega
 have hle := ofS_length s.name B.cps
 refine callsIn_of_wp_marks Tryz.func225 rfl trivial ?_ rfl
 simp only [Tryz.ntmps225, List.size_toArray, List.length_cons, List.length_nil, Nat.reduceAdd, Nat.reduceSub, Array.replicate_succ, Array.replicate_zero, List.push_toArray, List.append_toArray, List.nil_append, List.cons_append]
 gi_wp2
 refine ⟨trivial, ?_⟩
 refine (copiesIn_in Fence.wide (n - 1) trivial rfl B s.name a1 a2 a3 c1 c2 c3 _).mono ?_
 rintro e w' ⟨rfl, rfl⟩
 gi_wp2
 obtain ⟨W0, hW0, b1, b2, b3, b4, b5, hsz0, hB0⟩ := six_new w (.cells #[.int .i64 B.now, .slice a1 B.svcs.length c1, .slice a2 B.cps.length c2, .slice a3 B.bts.length c3] 36) (.cells #[.string s.name, .int .i64 s.version, .bool s.gone, .int .i64 s.image, .int .i64 s.want, .int .i64 s.down, .int .i64 s.over, .int .i64 s.next, .int .i64 s.per, .int .i64 s.least, .int .i64 s.most, .int .i64 s.load, .int .i64 s.cool] 67) (.cells #[.int .i64 0, .int .i64 0, .int .i64 0, .int .i64 0, .int .i64 0] 158) (.cells #[.int .i64 0, .int .i64 0, .int .i64 0, .int .i64 0, .int .i64 0] 158) (.cells #[.int .i64 B.now, .slice a1 B.svcs.length c1, .slice a2 B.cps.length c2, .slice a3 B.bts.length c3] 36) (.cells #[.string s.name] 9)
 rw [hW0]
 clear hW0
 have hC0 : B.cps ≠ [] → ∃ b off, a2 = some ⟨b, off, none⟩ ∧ b < w.heap.size ∧ CpsAt W0 b off B.cps := fun hne =>
  let ⟨b, off, e, hb, hat⟩ := hC hne
  ⟨b, off, e, hb, fun i c hc => (hat i c hc).below hB0 hb⟩
 refine wpIn_rangeFunc_ownH rfl hn1 (gf := 348) (lb := #[.pointer (some ⟨w.heap.size + 1 + 1 + 1 + 1, 0, none⟩), .pointer (some ⟨w.heap.size + 1 + 1 + 1 + 1 + 1, 0, none⟩)]) rfl trivial (enters_of Tryz.func348 (by kernel_rfl) rfl)
  (copies_stops (n - 1) (by omega) (w.heap.size + 1 + 1 + 1 + 1) (w.heap.size + 1 + 1 + 1 + 1 + 1) w.heap.size B s.name a1 a2 a3 c1 c2 c3 hl2 HSO HK W0 b4 b5 hC0 (by omega)) (fun h k => ⟨h.1.trans k.1, k.2.trans h.2⟩)
  (fun W l o o' hl ho hc hw => ⟨belowK_b (w := W0) (by omega) W l o o' hl ho hc hw, by
   by_cases hlt : w.heap.size + 1 + 1 + 1 + 1 + 1 < W.heap.size
   ·exact (grownBy_putObj' W l o').block _ hlt (fun e => by have := Option.some.inj e; omega)
   ·have e1 : W.heap[w.heap.size + 1 + 1 + 1 + 1 + 1]? = none := by rw [Array.getElem?_eq_none (by omega)]
    have e2 : (W.putObj l o').heap[w.heap.size + 1 + 1 + 1 + 1 + 1]? = none := by rw [Array.getElem?_eq_none]; have := (Array.getElem?_eq_some_iff.1 ho).1; omega
    rw [e1, e2]⟩) (Below.refl _ _) (fun _ => rfl)
  (fun pre W => (W.heap[w.heap.size + 1 + 1 + 1]? = some (.cells (cntCells (cntF s.image pre)) 158 (0, 0)) ∧ W.heap[w.heap.size + 1 + 1]? = some (.cells #[.int .i64 0, .int .i64 0, .int .i64 0, .int .i64 0, .int .i64 0] 158 (0, 0)) ∧ W.heap[w.heap.size + 1]? = some (.cells #[.string s.name, .int .i64 s.version, .bool s.gone, .int .i64 s.image, .int .i64 s.want, .int .i64 s.down, .int .i64 s.over, .int .i64 s.next, .int .i64 s.per, .int .i64 s.least, .int .i64 s.most, .int .i64 s.load, .int .i64 s.cool] 67 (0, 0))) ∧ W0.heap.size ≤ W.heap.size ∧ Below w.heap.size w W)
  (fun _ _ _ => False)
  (OwnFrom.and (OwnFrom.and (Own.from (cells_own _ _ _) _) (OwnFrom.and (Own.from (cells_own _ _ _) _) (Own.from (cells_own _ _ _) _))) (OwnFrom.and (fun _ _ _ _ hs hg _ => Nat.le_trans hs hg.size) (ownFrom_below (Nat.le_refl _) (by omega))))
  (fun _ _ _ _ _ hs _ _ => hs)
  ⟨⟨b3, b2, b1⟩, Nat.le_refl _, hB0⟩
  (fun x a' W => ∃ Bx, w.heap.size + 1 + 1 + 1 + 1 + 1 < Bx ∧ W.heap[Bx]? = some (.cells #[.string x.service, .int .i64 x.number, .int .i64 x.version, .int .i64 x.image, .int .i64 x.state, .bool x.ending, .string x.berth] 149 (0, 0)) ∧ a' = { tmps := #[.agg #[.int .i64 B.now, .slice a1 B.svcs.length c1, .slice a2 B.cps.length c2, .slice a3 B.bts.length c3], .agg #[.string s.name, .int .i64 s.version, .bool s.gone, .int .i64 s.image, .int .i64 s.want, .int .i64 s.down, .int .i64 s.over, .int .i64 s.next, .int .i64 s.per, .int .i64 s.least, .int .i64 s.most, .int .i64 s.load, .int .i64 s.cool], .pointer (some ⟨w.heap.size, 0, none⟩), .pointer (some ⟨w.heap.size + 1, 0, none⟩), .pointer (some ⟨w.heap.size + 1 + 1, 0, none⟩), .pointer (some ⟨w.heap.size + 1 + 1 + 1, 0, none⟩), .pointer (some ⟨Bx, 0, none⟩), .agg #[.int .i64 B.now, .slice a1 B.svcs.length c1, .slice a2 B.cps.length c2, .slice a3 B.bts.length c3], .pointer (some ⟨w.heap.size + 1, 0, none⟩), .string s.name, .func (.func 348) #[] #[.pointer (some ⟨w.heap.size + 1 + 1 + 1 + 1, 0, none⟩), .pointer (some ⟨w.heap.size + 1 + 1 + 1 + 1 + 1, 0, none⟩)], .agg #[.string x.service, .int .i64 x.number, .int .i64 x.version, .int .i64 x.image, .int .i64 x.state, .bool x.ending, .string x.berth], undef, undef, undef, undef, undef, undef, undef, undef, undef, undef, undef, undef, undef, undef, undef, undef, undef, undef, undef, undef, undef, undef, undef, undef, undef, undef, undef, undef, undef, undef, undef, undef, undef, undef], defers := [] })
  (fun x a' _ X Y row hs hg hr => by obtain ⟨Bx, g1, g2, g3⟩ := hs; exact ⟨Bx, g1, cells_own Bx 149 (fun (_ : Unit) => #[.string x.service, .int .i64 x.number, .int .i64 x.version, .int .i64 x.image, .int .i64 x.state, .bool x.ending, .string x.berth]) () X Y row g2 hg (fun r e => (hr r e).2), g3⟩)
  ?assign ?body ?done ?stop
 case assign =>
  rintro l pre x W K ⟨⟨hM, hR, hSb⟩, hsz, hB⟩ hK
  gi_wp2
  have hw1 := below_box W (.cells #[.string x.service, .int .i64 x.number, .int .i64 x.version, .int .i64 x.image, .int .i64 x.state, .bool x.ending, .string x.berth] 149)
  exact hK _ _ ((KeepsOthers.alloc _ _).from _) ⟨(Below.refl _ W).alloc hB.size _, hw1.block _ (by omega)⟩ ⟨⟨below_blk hw1 hM (by omega), below_blk hw1 hR (by omega), below_blk hw1 hSb (by omega)⟩, Nat.le_trans hsz hw1.size, hB.alloc hB.size _⟩ ⟨W.heap.size, by omega, heap_alloc_new W _, rfl⟩
 case body =>
  rintro l pre x a' W hl _ ⟨⟨hM0, hR0, hSb0⟩, hsz, hB⟩ ⟨Bx, hBx, hX, rfl⟩ hlt
  have hup := cntF_upTo s.image pre
  obtain ⟨n0, HN⟩ : ∃ n, Hid (cntF s.image pre = n) := ⟨_, rfl⟩
  rw [HN.out] at hup hM0
  have hM : Hid (W.heap[w.heap.size + 1 + 1 + 1]? = some (.cells #[.int .i64 n0.live, .int .i64 n0.ready, .int .i64 n0.old, .int .i64 n0.failed, .int .i64 n0.ending] 158 (0, 0))) := hM0
  have hR : Hid _ := hR0
  have hSb : Hid _ := hSb0
  clear hM0 hR0 hSb0
  unfold Cnt.upTo at hup
  obtain ⟨u0, u1, u2, u3, u4, u5, u6, u7, u8, u9⟩ := hup
  have o0 := blk_cell hM.out 0 rfl
  have o1 := blk_cell hM.out 1 rfl
  have o2 := blk_cell hM.out 2 rfl
  have o3 := blk_cell hM.out 3 rfl
  have o4 := blk_cell hM.out 4 rfl
  have f0 := blk_frozen hM.out 0
  have f1 := blk_frozen hM.out 1
  have f2 := blk_frozen hM.out 2
  have f3 := blk_frozen hM.out 3
  have f4 := blk_frozen hM.out 4
  have x3 := blk_cell hX 3 rfl
  have x4 := blk_cell hX 4 rfl
  have x5 := blk_cell hX 5 rfl
  have q3 := blk_cell hSb.out 3 rfl
  have hneB : Bx ≠ w.heap.size + 1 + 1 + 1 := by omega
  clear hX b1 b2 b3 b4 b5 hC0 hC
  cases hend : x.ending
  ·cases hst3 : (x.state == 3)
   ·cases hst4 : (x.state == 4)
    ·cases himg : (x.image != s.image)
     ·have HC : Hid (cntF s.image (pre ++ [x]) = ⟨n0.live + 1, n0.ready, n0.old, n0.failed, n0.ending⟩) := by unfold Hid; rw [cntF_snoc, HN.out]; simp [cntAdd, addB, hend, hst3, hst4, himg]
      have outF : Hid _ := blk_set (hM.out) 0 (.int .i64 (n0.live + 1))
      gi_wp2
      exact ⟨(KeepsOthers.setCell _ _ _).from _, ⟨((Below.refl w.heap.size W).setCell (p := ⟨w.heap.size + 1 + 1 + 1, 0, none⟩) (by show _ ≤ w.heap.size + 1 + 1 + 1; omega) (.int .i64 (n0.live + 1))), blk_ne (b := w.heap.size + 1 + 1 + 1) (rfl) 0 (.int .i64 (n0.live + 1)) (by omega)⟩, ⟨by rw [HC.out]; exact outF.out, blk_ne (b := w.heap.size + 1 + 1 + 1) (hR.out) 0 (.int .i64 (n0.live + 1)) (by omega), blk_ne (b := w.heap.size + 1 + 1 + 1) (hSb.out) 0 (.int .i64 (n0.live + 1)) (by omega)⟩, by simp only [size_setCell]; exact hsz, (hB.setCell (p := ⟨w.heap.size + 1 + 1 + 1, 0, none⟩) (by show _ ≤ w.heap.size + 1 + 1 + 1; omega) (.int .i64 (n0.live + 1)))⟩
     ·have HC : Hid (cntF s.image (pre ++ [x]) = ⟨n0.live + 1, n0.ready, n0.old + 1, n0.failed, n0.ending⟩) := by unfold Hid; rw [cntF_snoc, HN.out]; simp [cntAdd, addB, hend, hst3, hst4, himg]
      have outF : Hid _ := blk_set (blk_set (hM.out) 0 (.int .i64 (n0.live + 1))) 2 (.int .i64 (n0.old + 1))
      gi_wp2
      exact ⟨((KeepsOthers.setCell _ _ _).trans (KeepsOthers.setCell _ _ _)).from _, ⟨(((Below.refl w.heap.size W).setCell (p := ⟨w.heap.size + 1 + 1 + 1, 0, none⟩) (by show _ ≤ w.heap.size + 1 + 1 + 1; omega) (.int .i64 (n0.live + 1))).setCell (p := ⟨w.heap.size + 1 + 1 + 1, 2, none⟩) (by show _ ≤ w.heap.size + 1 + 1 + 1; omega) (.int .i64 (n0.old + 1))), blk_ne (b := w.heap.size + 1 + 1 + 1) (blk_ne (b := w.heap.size + 1 + 1 + 1) (rfl) 0 (.int .i64 (n0.live + 1)) (by omega)) 2 (.int .i64 (n0.old + 1)) (by omega)⟩, ⟨by rw [HC.out]; exact outF.out, blk_ne (b := w.heap.size + 1 + 1 + 1) (blk_ne (b := w.heap.size + 1 + 1 + 1) (hR.out) 0 (.int .i64 (n0.live + 1)) (by omega)) 2 (.int .i64 (n0.old + 1)) (by omega), blk_ne (b := w.heap.size + 1 + 1 + 1) (blk_ne (b := w.heap.size + 1 + 1 + 1) (hSb.out) 0 (.int .i64 (n0.live + 1)) (by omega)) 2 (.int .i64 (n0.old + 1)) (by omega)⟩, by simp only [size_setCell]; exact hsz, ((hB.setCell (p := ⟨w.heap.size + 1 + 1 + 1, 0, none⟩) (by show _ ≤ w.heap.size + 1 + 1 + 1; omega) (.int .i64 (n0.live + 1))).setCell (p := ⟨w.heap.size + 1 + 1 + 1, 2, none⟩) (by show _ ≤ w.heap.size + 1 + 1 + 1; omega) (.int .i64 (n0.old + 1)))⟩
    ·cases himg : (x.image != s.image)
     ·have HC : Hid (cntF s.image (pre ++ [x]) = ⟨n0.live + 1, n0.ready, n0.old, n0.failed + 1, n0.ending⟩) := by unfold Hid; rw [cntF_snoc, HN.out]; simp [cntAdd, addB, hend, hst3, hst4, himg]
      have outF : Hid _ := blk_set (blk_set (hM.out) 0 (.int .i64 (n0.live + 1))) 3 (.int .i64 (n0.failed + 1))
      gi_wp2
      exact ⟨((KeepsOthers.setCell _ _ _).trans (KeepsOthers.setCell _ _ _)).from _, ⟨(((Below.refl w.heap.size W).setCell (p := ⟨w.heap.size + 1 + 1 + 1, 0, none⟩) (by show _ ≤ w.heap.size + 1 + 1 + 1; omega) (.int .i64 (n0.live + 1))).setCell (p := ⟨w.heap.size + 1 + 1 + 1, 3, none⟩) (by show _ ≤ w.heap.size + 1 + 1 + 1; omega) (.int .i64 (n0.failed + 1))), blk_ne (b := w.heap.size + 1 + 1 + 1) (blk_ne (b := w.heap.size + 1 + 1 + 1) (rfl) 0 (.int .i64 (n0.live + 1)) (by omega)) 3 (.int .i64 (n0.failed + 1)) (by omega)⟩, ⟨by rw [HC.out]; exact outF.out, blk_ne (b := w.heap.size + 1 + 1 + 1) (blk_ne (b := w.heap.size + 1 + 1 + 1) (hR.out) 0 (.int .i64 (n0.live + 1)) (by omega)) 3 (.int .i64 (n0.failed + 1)) (by omega), blk_ne (b := w.heap.size + 1 + 1 + 1) (blk_ne (b := w.heap.size + 1 + 1 + 1) (hSb.out) 0 (.int .i64 (n0.live + 1)) (by omega)) 3 (.int .i64 (n0.failed + 1)) (by omega)⟩, by simp only [size_setCell]; exact hsz, ((hB.setCell (p := ⟨w.heap.size + 1 + 1 + 1, 0, none⟩) (by show _ ≤ w.heap.size + 1 + 1 + 1; omega) (.int .i64 (n0.live + 1))).setCell (p := ⟨w.heap.size + 1 + 1 + 1, 3, none⟩) (by show _ ≤ w.heap.size + 1 + 1 + 1; omega) (.int .i64 (n0.failed + 1)))⟩
     ·have HC : Hid (cntF s.image (pre ++ [x]) = ⟨n0.live + 1, n0.ready, n0.old + 1, n0.failed + 1, n0.ending⟩) := by unfold Hid; rw [cntF_snoc, HN.out]; simp [cntAdd, addB, hend, hst3, hst4, himg]
      have outF : Hid _ := blk_set (blk_set (blk_set (hM.out) 0 (.int .i64 (n0.live + 1))) 2 (.int .i64 (n0.old + 1))) 3 (.int .i64 (n0.failed + 1))
      gi_wp2
      exact ⟨(((KeepsOthers.setCell _ _ _).trans (KeepsOthers.setCell _ _ _)).trans (KeepsOthers.setCell _ _ _)).from _, ⟨((((Below.refl w.heap.size W).setCell (p := ⟨w.heap.size + 1 + 1 + 1, 0, none⟩) (by show _ ≤ w.heap.size + 1 + 1 + 1; omega) (.int .i64 (n0.live + 1))).setCell (p := ⟨w.heap.size + 1 + 1 + 1, 2, none⟩) (by show _ ≤ w.heap.size + 1 + 1 + 1; omega) (.int .i64 (n0.old + 1))).setCell (p := ⟨w.heap.size + 1 + 1 + 1, 3, none⟩) (by show _ ≤ w.heap.size + 1 + 1 + 1; omega) (.int .i64 (n0.failed + 1))), blk_ne (b := w.heap.size + 1 + 1 + 1) (blk_ne (b := w.heap.size + 1 + 1 + 1) (blk_ne (b := w.heap.size + 1 + 1 + 1) (rfl) 0 (.int .i64 (n0.live + 1)) (by omega)) 2 (.int .i64 (n0.old + 1)) (by omega)) 3 (.int .i64 (n0.failed + 1)) (by omega)⟩, ⟨by rw [HC.out]; exact outF.out, blk_ne (b := w.heap.size + 1 + 1 + 1) (blk_ne (b := w.heap.size + 1 + 1 + 1) (blk_ne (b := w.heap.size + 1 + 1 + 1) (hR.out) 0 (.int .i64 (n0.live + 1)) (by omega)) 2 (.int .i64 (n0.old + 1)) (by omega)) 3 (.int .i64 (n0.failed + 1)) (by omega), blk_ne (b := w.heap.size + 1 + 1 + 1) (blk_ne (b := w.heap.size + 1 + 1 + 1) (blk_ne (b := w.heap.size + 1 + 1 + 1) (hSb.out) 0 (.int .i64 (n0.live + 1)) (by omega)) 2 (.int .i64 (n0.old + 1)) (by omega)) 3 (.int .i64 (n0.failed + 1)) (by omega)⟩, by simp only [size_setCell]; exact hsz, (((hB.setCell (p := ⟨w.heap.size + 1 + 1 + 1, 0, none⟩) (by show _ ≤ w.heap.size + 1 + 1 + 1; omega) (.int .i64 (n0.live + 1))).setCell (p := ⟨w.heap.size + 1 + 1 + 1, 2, none⟩) (by show _ ≤ w.heap.size + 1 + 1 + 1; omega) (.int .i64 (n0.old + 1))).setCell (p := ⟨w.heap.size + 1 + 1 + 1, 3, none⟩) (by show _ ≤ w.heap.size + 1 + 1 + 1; omega) (.int .i64 (n0.failed + 1)))⟩
   ·have hst4 : (x.state == 4) = false := by have h := eq_of_beq hst3; rw [h]; rfl
    cases himg : (x.image != s.image)
    ·have HC : Hid (cntF s.image (pre ++ [x]) = ⟨n0.live + 1, n0.ready + 1, n0.old, n0.failed, n0.ending⟩) := by unfold Hid; rw [cntF_snoc, HN.out]; simp [cntAdd, addB, hend, hst3, hst4, himg]
     have outF : Hid _ := blk_set (blk_set (hM.out) 0 (.int .i64 (n0.live + 1))) 1 (.int .i64 (n0.ready + 1))
     gi_wp2
     exact ⟨((KeepsOthers.setCell _ _ _).trans (KeepsOthers.setCell _ _ _)).from _, ⟨(((Below.refl w.heap.size W).setCell (p := ⟨w.heap.size + 1 + 1 + 1, 0, none⟩) (by show _ ≤ w.heap.size + 1 + 1 + 1; omega) (.int .i64 (n0.live + 1))).setCell (p := ⟨w.heap.size + 1 + 1 + 1, 1, none⟩) (by show _ ≤ w.heap.size + 1 + 1 + 1; omega) (.int .i64 (n0.ready + 1))), blk_ne (b := w.heap.size + 1 + 1 + 1) (blk_ne (b := w.heap.size + 1 + 1 + 1) (rfl) 0 (.int .i64 (n0.live + 1)) (by omega)) 1 (.int .i64 (n0.ready + 1)) (by omega)⟩, ⟨by rw [HC.out]; exact outF.out, blk_ne (b := w.heap.size + 1 + 1 + 1) (blk_ne (b := w.heap.size + 1 + 1 + 1) (hR.out) 0 (.int .i64 (n0.live + 1)) (by omega)) 1 (.int .i64 (n0.ready + 1)) (by omega), blk_ne (b := w.heap.size + 1 + 1 + 1) (blk_ne (b := w.heap.size + 1 + 1 + 1) (hSb.out) 0 (.int .i64 (n0.live + 1)) (by omega)) 1 (.int .i64 (n0.ready + 1)) (by omega)⟩, by simp only [size_setCell]; exact hsz, ((hB.setCell (p := ⟨w.heap.size + 1 + 1 + 1, 0, none⟩) (by show _ ≤ w.heap.size + 1 + 1 + 1; omega) (.int .i64 (n0.live + 1))).setCell (p := ⟨w.heap.size + 1 + 1 + 1, 1, none⟩) (by show _ ≤ w.heap.size + 1 + 1 + 1; omega) (.int .i64 (n0.ready + 1)))⟩
    ·have HC : Hid (cntF s.image (pre ++ [x]) = ⟨n0.live + 1, n0.ready + 1, n0.old + 1, n0.failed, n0.ending⟩) := by unfold Hid; rw [cntF_snoc, HN.out]; simp [cntAdd, addB, hend, hst3, hst4, himg]
     have outF : Hid _ := blk_set (blk_set (blk_set (hM.out) 0 (.int .i64 (n0.live + 1))) 1 (.int .i64 (n0.ready + 1))) 2 (.int .i64 (n0.old + 1))
     gi_wp2
     exact ⟨(((KeepsOthers.setCell _ _ _).trans (KeepsOthers.setCell _ _ _)).trans (KeepsOthers.setCell _ _ _)).from _, ⟨((((Below.refl w.heap.size W).setCell (p := ⟨w.heap.size + 1 + 1 + 1, 0, none⟩) (by show _ ≤ w.heap.size + 1 + 1 + 1; omega) (.int .i64 (n0.live + 1))).setCell (p := ⟨w.heap.size + 1 + 1 + 1, 1, none⟩) (by show _ ≤ w.heap.size + 1 + 1 + 1; omega) (.int .i64 (n0.ready + 1))).setCell (p := ⟨w.heap.size + 1 + 1 + 1, 2, none⟩) (by show _ ≤ w.heap.size + 1 + 1 + 1; omega) (.int .i64 (n0.old + 1))), blk_ne (b := w.heap.size + 1 + 1 + 1) (blk_ne (b := w.heap.size + 1 + 1 + 1) (blk_ne (b := w.heap.size + 1 + 1 + 1) (rfl) 0 (.int .i64 (n0.live + 1)) (by omega)) 1 (.int .i64 (n0.ready + 1)) (by omega)) 2 (.int .i64 (n0.old + 1)) (by omega)⟩, ⟨by rw [HC.out]; exact outF.out, blk_ne (b := w.heap.size + 1 + 1 + 1) (blk_ne (b := w.heap.size + 1 + 1 + 1) (blk_ne (b := w.heap.size + 1 + 1 + 1) (hR.out) 0 (.int .i64 (n0.live + 1)) (by omega)) 1 (.int .i64 (n0.ready + 1)) (by omega)) 2 (.int .i64 (n0.old + 1)) (by omega), blk_ne (b := w.heap.size + 1 + 1 + 1) (blk_ne (b := w.heap.size + 1 + 1 + 1) (blk_ne (b := w.heap.size + 1 + 1 + 1) (hSb.out) 0 (.int .i64 (n0.live + 1)) (by omega)) 1 (.int .i64 (n0.ready + 1)) (by omega)) 2 (.int .i64 (n0.old + 1)) (by omega)⟩, by simp only [size_setCell]; exact hsz, (((hB.setCell (p := ⟨w.heap.size + 1 + 1 + 1, 0, none⟩) (by show _ ≤ w.heap.size + 1 + 1 + 1; omega) (.int .i64 (n0.live + 1))).setCell (p := ⟨w.heap.size + 1 + 1 + 1, 1, none⟩) (by show _ ≤ w.heap.size + 1 + 1 + 1; omega) (.int .i64 (n0.ready + 1))).setCell (p := ⟨w.heap.size + 1 + 1 + 1, 2, none⟩) (by show _ ≤ w.heap.size + 1 + 1 + 1; omega) (.int .i64 (n0.old + 1)))⟩
  ·have HC : Hid (cntF s.image (pre ++ [x]) = ⟨n0.live, n0.ready, n0.old, n0.failed, n0.ending + 1⟩) := by unfold Hid; rw [cntF_snoc, HN.out]; simp [cntAdd, hend]
   have outF : Hid _ := blk_set (hM.out) 4 (.int .i64 (n0.ending + 1))
   gi_wp2
   exact ⟨(KeepsOthers.setCell _ _ _).from _, ⟨((Below.refl w.heap.size W).setCell (p := ⟨w.heap.size + 1 + 1 + 1, 4, none⟩) (by show _ ≤ w.heap.size + 1 + 1 + 1; omega) (.int .i64 (n0.ending + 1))), blk_ne (b := w.heap.size + 1 + 1 + 1) (rfl) 4 (.int .i64 (n0.ending + 1)) (by omega)⟩, ⟨by rw [HC.out]; exact outF.out, blk_ne (b := w.heap.size + 1 + 1 + 1) (hR.out) 4 (.int .i64 (n0.ending + 1)) (by omega), blk_ne (b := w.heap.size + 1 + 1 + 1) (hSb.out) 4 (.int .i64 (n0.ending + 1)) (by omega)⟩, by simp only [size_setCell]; exact hsz, (hB.setCell (p := ⟨w.heap.size + 1 + 1 + 1, 4, none⟩) (by show _ ≤ w.heap.size + 1 + 1 + 1; omega) (.int .i64 (n0.ending + 1)))⟩
 case done =>
  rintro D ys W hD rfl ⟨⟨hM0, hR, hSb⟩, hsz, hB⟩ hK
  obtain ⟨n0, HN⟩ : ∃ n, Hid (cntF s.image (ofS s.name B.cps) = n) := ⟨_, rfl⟩
  rw [HN.out] at hM0
  have hM : W.heap[w.heap.size + 1 + 1 + 1]? = some (.cells #[.int .i64 n0.live, .int .i64 n0.ready, .int .i64 n0.old, .int .i64 n0.failed, .int .i64 n0.ending] 158 (0, 0)) := hM0
  have hRlt : w.heap.size + 1 + 1 < W.heap.size := by omega
  have hRD : w.heap.size + 1 + 1 ≠ D := by omega
  have HK : Hid _ := hK
  have HR : Hid _ := hR
  have o0 := blk_cell hM 0 rfl
  have o1 := blk_cell hM 1 rfl
  have o2 := blk_cell hM 2 rfl
  have o3 := blk_cell hM 3 rfl
  have o4 := blk_cell hM 4 rfl
  have p0 := blk_cell hR 0 rfl
  have p1 := blk_cell hR 1 rfl
  have p2 := blk_cell hR 2 rfl
  have p3 := blk_cell hR 3 rfl
  have p4 := blk_cell hR 4 rfl
  have g0 := blk_frozen hR 0
  have g1 := blk_frozen hR 1
  have g2 := blk_frozen hR 2
  have g3 := blk_frozen hR 3
  have g4 := blk_frozen hR 4
  clear hM0 hM hSb hK hR b1 b2 b3 b4 b5 hC0 hC
  gi_wp2
  have hK' := (((((KeepsOthers.setCell W ⟨w.heap.size + 1 + 1, 0, none⟩ (.int .i64 n0.live)).trans (KeepsOthers.setCell _ ⟨w.heap.size + 1 + 1, 1, none⟩ (.int .i64 n0.ready))).trans (KeepsOthers.setCell _ ⟨w.heap.size + 1 + 1, 2, none⟩ (.int .i64 n0.old))).trans (KeepsOthers.setCell _ ⟨w.heap.size + 1 + 1, 3, none⟩ (.int .i64 n0.failed))).trans (KeepsOthers.setCell _ ⟨w.heap.size + 1 + 1, 4, none⟩ (.int .i64 n0.ending))).same D _ HK.out rfl
  refine ⟨by simp, .inl ⟨_, _, rfl, run_takeDeferred hK', ?_⟩⟩
  have hX := ((grownBy_putObj' _ D (.deferred none)).block (w.heap.size + 1 + 1) (by simp only [size_setCell]; exact hRlt) (fun e => hRD (Option.some.inj e))).trans (blk_set (blk_set (blk_set (blk_set (blk_set (HR.out) 0 (.int .i64 n0.live)) 1 (.int .i64 n0.ready)) 2 (.int .i64 n0.old)) 3 (.int .i64 n0.failed)) 4 (.int .i64 n0.ending))
  have y0 := blk_cell hX 0 rfl
  have y1 := blk_cell hX 1 rfl
  have y2 := blk_cell hX 2 rfl
  have y3 := blk_cell hX 3 rfl
  have y4 := blk_cell hX 4 rfl
  refine ⟨.agg #[.int .i64 n0.live, .int .i64 n0.ready, .int .i64 n0.old, .int .i64 n0.failed, .int .i64 n0.ending], ?_, by rw [HN.out]; rfl, (((((hB.setCell (p := ⟨w.heap.size + 1 + 1, 0, none⟩) (by show _ ≤ w.heap.size + 1 + 1; omega) (.int .i64 n0.live)).setCell (p := ⟨w.heap.size + 1 + 1, 1, none⟩) (by show _ ≤ w.heap.size + 1 + 1; omega) (.int .i64 n0.ready)).setCell (p := ⟨w.heap.size + 1 + 1, 2, none⟩) (by show _ ≤ w.heap.size + 1 + 1; omega) (.int .i64 n0.old)).setCell (p := ⟨w.heap.size + 1 + 1, 3, none⟩) (by show _ ≤ w.heap.size + 1 + 1; omega) (.int .i64 n0.failed)).setCell (p := ⟨w.heap.size + 1 + 1, 4, none⟩) (by show _ ≤ w.heap.size + 1 + 1; omega) (.int .i64 n0.ending)).trans (belowK_b (w := w) (Nat.le_refl _) _ D _ _ (by omega) hK' rfl rfl)⟩
  simp [results, Tryz.f225, go_sem, y0, y1, y2, y3, y4]
 case stop =>
  rintro D c pre W _ _ h _
  exact h.elim
end Go.Proofs.YtbceafpodamnfabGreatDoor

namespace Go.Proofs.YtbceafpodamnfabGreatDoor
open Go.RowKit Go.Sort Go.Maps
theorem countCopies_any (B : Bk) (s : Svc) (a1 a2 a3 : Option Addr) (c1 c2 c3 : Nat) (w : World) (hl2 : B.cps.length ≤ 1048576) (HSO : Hid (RiseC B.cps)) (HK : Hid (B.cps.length ≤ c2)) (hC : SlC w a2 B.cps) (N : Cnt) (hN : Hid (N = cntTo s.image s.name B.cps B.cps.length)) :
  Calls Tryz.prog 225 #[.agg #[.int .i64 B.now, .slice a1 B.svcs.length c1, .slice a2 B.cps.length c2, .slice a3 B.bts.length c3], .agg #[.string s.name, .int .i64 s.version, .bool s.gone, .int .i64 s.image, .int .i64 s.want, .int .i64 s.down, .int .i64 s.over, .int .i64 s.next, .int .i64 s.per, .int .i64 s.least, .int .i64 s.most, .int .i64 s.load, .int .i64 s.cool]] w fun e w' => e = .returned (.agg #[.int .i64 N.live, .int .i64 N.ready, .int .i64 N.old, .int .i64 N.failed, .int .i64 N.ending]) ∧ Below w.heap.size w w' := by
 refine ((callsIn_wide (n := 3)).1 (countCopies_in 3 (by omega) B s a1 a2 a3 c1 c2 c3 w hl2 HSO HK hC)).mono fun e w' ⟨he, hb⟩ => ⟨?_, hb⟩
 rw [he]
 have e1 : cntF s.image (ofS s.name B.cps) = N := by
  rw [hN.out]
  unfold cntF cntTo
  rw [cntF_ofS, List.take_length]
 rw [e1]
 rfl
end Go.Proofs.YtbceafpodamnfabGreatDoor
