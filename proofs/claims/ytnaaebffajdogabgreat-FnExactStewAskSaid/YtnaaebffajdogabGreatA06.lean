/-
  My own: Ye, Yi, Lg, Za, Zb.
-/
import Derived.Test.YtnaaebffajdogabGreatA05
import Derived.StillTail
import Derived.Below
import Derived.Test.YtnaaebffajdogabGreatA01
/-
  My own. The program counts.
-/
namespace Go.Proofs.YtnaaebffajdogabGreat
open Go.RowKit Go.Shelf

attribute [local go_sem] Oper.semAt_some

def cntCells (n : Cnt) : Array Value := #[.int .i64 n.live, .int .i64 n.ready, .int .i64 n.old, .int .i64 n.failed, .int .i64 n.ending]
def cntF (img : Int) (l : List Cp) : Cnt := l.foldl (fun n c => cntAdd img c n) Cnt.none
theorem cntF_snoc (img : Int) (l : List Cp) (c : Cp) : cntF img (l ++ [c]) = cntAdd img c (cntF img l) := by simp [cntF]
theorem cntF_ofS (img : Int) (nm : ByteArray) : ∀ (l : List Cp) (n : Cnt), (ofS nm l).foldl (fun n c => cntAdd img c n) n = l.foldl (fun n c => cntOne img nm c n) n
  | [], _ => rfl
  | c :: l, n => by
    have ih := cntF_ofS img nm l
    unfold ofS at *
    rw [List.filter_cons, List.foldl_cons]
    by_cases h : (c.service.toList == nm.toList) = true
    · rw [if_pos h, List.foldl_cons, ih]; simp [cntOne, h]
    · rw [if_neg h, ih]; simp [cntOne, h]
theorem cntAdd_upTo (img : Int) (c : Cp) (n : Cnt) (k : Nat) (h : n.upTo k) : (cntAdd img c n).upTo (k + 1) := by
  have := cntOne_upTo img c.service c n k h
  simpa [cntOne] using this
theorem cntF_upTo (img : Int) (l : List Cp) : (cntF img l).upTo l.length := by
  have : ∀ (l : List Cp) (n : Cnt) (k : Nat), n.upTo k → (l.foldl (fun n c => cntAdd img c n) n).upTo (k + l.length) := by
    intro l
    induction l with
    | nil => intro n k h; exact h
    | cons c l ih =>
      intro n k h
      have := ih _ _ (cntAdd_upTo img c n k h)
      rw [List.foldl_cons, List.length_cons, Nat.add_comm l.length 1, ← Nat.add_assoc]
      exact this
  have h := this l Cnt.none 0 (by unfold Cnt.upTo Cnt.none; dsimp only; omega)
  rw [Nat.zero_add] at h
  exact h
theorem ofS_length (nm : ByteArray) (l : List Cp) : (ofS nm l).length ≤ l.length := List.length_filter_le _ _

theorem cells_own {β : Type} (B : Nat) (t : TypeId) (f : β → Array Value) : Own (fun s W => W.heap[B]? = some (.cells (f s) t (0, 0))) := fun s X Y row hs hg hrow =>
  (hg.block B (Array.getElem?_eq_some_iff.1 hs).1 (fun e => by obtain ⟨o, ho, hc⟩ := hrow B e.symm; rw [hs] at ho; cases ho; cases hc)).trans hs

theorem six_new (w : World) (A B C D E F : Obj) : ∃ W0, ((((((w.alloc A).alloc B).alloc C).alloc D).alloc E).alloc F) = W0 ∧ W0.heap[w.heap.size + 1]? = some B ∧ W0.heap[w.heap.size + 1 + 1]? = some C ∧ W0.heap[w.heap.size + 1 + 1 + 1]? = some D ∧ W0.heap[w.heap.size + 1 + 1 + 1 + 1]? = some E ∧ W0.heap[w.heap.size + 1 + 1 + 1 + 1 + 1]? = some F ∧ W0.heap.size = w.heap.size + 1 + 1 + 1 + 1 + 1 + 1 ∧ Below w.heap.size w W0 := by
  refine ⟨_, rfl, ?_⟩
  have e : ((((((w.alloc A).alloc B).alloc C).alloc D).alloc E).alloc F).heap = (((((w.heap.push A).push B).push C).push D).push E).push F := rfl
  rw [e]
  refine ⟨?_, ?_, ?_, ?_, ?_, by simp, ?_⟩
  · rw [Array.getElem?_push, if_neg (by simp; try omega), Array.getElem?_push, if_neg (by simp; try omega), Array.getElem?_push, if_neg (by simp; try omega), Array.getElem?_push, if_neg (by simp), Array.getElem?_push, if_pos (by simp)]
  · rw [Array.getElem?_push, if_neg (by simp; try omega), Array.getElem?_push, if_neg (by simp; try omega), Array.getElem?_push, if_neg (by simp), Array.getElem?_push, if_pos (by simp)]
  · rw [Array.getElem?_push, if_neg (by simp; try omega), Array.getElem?_push, if_neg (by simp), Array.getElem?_push, if_pos (by simp)]
  · rw [Array.getElem?_push, if_neg (by simp), Array.getElem?_push, if_pos (by simp)]
  · rw [Array.getElem?_push, if_pos (by simp)]
  · exact ((((((Below.refl _ _).alloc (Nat.le_refl _) _).alloc (by simp) _).alloc (by simp; omega) _).alloc (by simp; omega) _).alloc (by simp; omega) _).alloc (by simp; omega) _

set_option maxRecDepth 100000 in
set_option maxHeartbeats 8000000 in
theorem countCopies_in (F : Fence) (n : Nat) (h1 : F.fn 107) (h2 : F.fn 108) (h3 : F.fn 135) (hro : F.round = none) (hn : 3 ≤ n) (B : Bk) (s : Svc) (a1 a2 a3 : Option Addr) (c1 c2 c3 : Nat) (w : World) (hl2 : B.cps.length ≤ 1048576) (hC : SlC w a2 B.cps) :
    CallsIn F n Tryz.prog 107 #[.agg #[.int .i64 B.now, .slice a1 B.svcs.length c1, .slice a2 B.cps.length c2, .slice a3 B.bts.length c3], .agg #[.string s.name, .int .i64 s.version, .bool s.gone, .int .i64 s.image, .int .i64 s.want, .int .i64 s.down, .int .i64 s.over, .int .i64 s.next, .int .i64 s.per, .int .i64 s.least, .int .i64 s.most, .int .i64 s.load, .int .i64 s.cool]] w fun e w' => e = .returned (.agg (cntCells (cntF s.image (ofS s.name B.cps)))) ∧ Below w.heap.size w w' := by
  have hn1 : 1 ≤ n := by omega
  have hle := ofS_length s.name B.cps
  refine callsIn_of_wp_marks Tryz.func107 rfl h1 ?_ hro
  simp only [Tryz.ntmps107, List.size_toArray, List.length_cons, List.length_nil, Nat.reduceAdd, Nat.reduceSub, Array.replicate_succ, Array.replicate_zero, List.push_toArray, List.append_toArray, List.nil_append, List.cons_append]
  gi_wp2_with (gi_at_call 108; refine (copiesIn_in F (n - 1) h2 hro B s.name a1 a2 a3 c1 c2 c3 _).mono ?_; rintro e w' ⟨rfl, rfl⟩)
  obtain ⟨W0, hW0, b1, b2, b3, b4, b5, hsz0, hB0⟩ := six_new w (.cells #[.int .i64 B.now, .slice a1 B.svcs.length c1, .slice a2 B.cps.length c2, .slice a3 B.bts.length c3] 34) (.cells #[.string s.name, .int .i64 s.version, .bool s.gone, .int .i64 s.image, .int .i64 s.want, .int .i64 s.down, .int .i64 s.over, .int .i64 s.next, .int .i64 s.per, .int .i64 s.least, .int .i64 s.most, .int .i64 s.load, .int .i64 s.cool] 48) (.cells #[.int .i64 0, .int .i64 0, .int .i64 0, .int .i64 0, .int .i64 0] 95) (.cells #[.int .i64 0, .int .i64 0, .int .i64 0, .int .i64 0, .int .i64 0] 95) (.cells #[.int .i64 B.now, .slice a1 B.svcs.length c1, .slice a2 B.cps.length c2, .slice a3 B.bts.length c3] 34) (.cells #[.string s.name] 9)
  rw [hW0]
  clear hW0
  have hC0 : B.cps ≠ [] → ∃ b off, a2 = some ⟨b, off, none⟩ ∧ b < w.heap.size ∧ CpsAt W0 b off B.cps := fun hne =>
    let ⟨b, off, e, hb, hat⟩ := hC hne
    ⟨b, off, e, hb, fun i c hc => (hat i c hc).below hB0 hb⟩
  refine wpIn_rangeFunc_ownH hro hn1 (gf := 135) (lb := #[.pointer (some ⟨w.heap.size + 1 + 1 + 1 + 1, 0, none⟩), .pointer (some ⟨w.heap.size + 1 + 1 + 1 + 1 + 1, 0, none⟩)]) rfl h3 (enters_of Tryz.func135 (by kernel_rfl) rfl)
    (copies_stops F (n - 1) h3 hro (by omega) (w.heap.size + 1 + 1 + 1 + 1) (w.heap.size + 1 + 1 + 1 + 1 + 1) w.heap.size B s.name a1 a2 a3 c1 c2 c3 hl2 W0 b4 b5 hC0 (by omega)) (fun h k => ⟨h.1.trans k.1, k.2.trans h.2⟩)
    (fun W l o o' hl ho hc hw => ⟨belowK_b (w := W0) (by omega) W l o o' hl ho hc hw, by
      by_cases hlt : w.heap.size + 1 + 1 + 1 + 1 + 1 < W.heap.size
      · exact (grownBy_putObj' W l o').block _ hlt (fun e => by have := Option.some.inj e; omega)
      · have e1 : W.heap[w.heap.size + 1 + 1 + 1 + 1 + 1]? = none := by rw [Array.getElem?_eq_none (by omega)]
        have e2 : (W.putObj l o').heap[w.heap.size + 1 + 1 + 1 + 1 + 1]? = none := by rw [Array.getElem?_eq_none]; have := (Array.getElem?_eq_some_iff.1 ho).1; omega
        rw [e1, e2]⟩) (Below.refl _ _) (fun _ => rfl)
    (fun pre W => (W.heap[w.heap.size + 1 + 1 + 1]? = some (.cells (cntCells (cntF s.image pre)) 95 (0, 0)) ∧ W.heap[w.heap.size + 1 + 1]? = some (.cells #[.int .i64 0, .int .i64 0, .int .i64 0, .int .i64 0, .int .i64 0] 95 (0, 0)) ∧ W.heap[w.heap.size + 1]? = some (.cells #[.string s.name, .int .i64 s.version, .bool s.gone, .int .i64 s.image, .int .i64 s.want, .int .i64 s.down, .int .i64 s.over, .int .i64 s.next, .int .i64 s.per, .int .i64 s.least, .int .i64 s.most, .int .i64 s.load, .int .i64 s.cool] 48 (0, 0))) ∧ W0.heap.size ≤ W.heap.size ∧ Below w.heap.size w W)
    (fun _ _ _ => False)
    (OwnFrom.and (OwnFrom.and (Own.from (cells_own _ _ _) _) (OwnFrom.and (Own.from (cells_own _ _ _) _) (Own.from (cells_own _ _ _) _))) (OwnFrom.and (fun _ _ _ _ hs hg _ => Nat.le_trans hs hg.size) (ownFrom_below (Nat.le_refl _) (by omega))))
    (fun _ _ _ _ _ hs _ _ => hs)
    ⟨⟨b3, b2, b1⟩, Nat.le_refl _, hB0⟩
    (fun x a' W => ∃ Bx, w.heap.size + 1 + 1 + 1 + 1 + 1 < Bx ∧ W.heap[Bx]? = some (.cells #[.string x.service, .int .i64 x.number, .int .i64 x.version, .int .i64 x.image, .int .i64 x.state, .bool x.ending, .string x.berth] 88 (0, 0)) ∧ a' = { tmps := #[.agg #[.int .i64 B.now, .slice a1 B.svcs.length c1, .slice a2 B.cps.length c2, .slice a3 B.bts.length c3], .agg #[.string s.name, .int .i64 s.version, .bool s.gone, .int .i64 s.image, .int .i64 s.want, .int .i64 s.down, .int .i64 s.over, .int .i64 s.next, .int .i64 s.per, .int .i64 s.least, .int .i64 s.most, .int .i64 s.load, .int .i64 s.cool], .pointer (some ⟨w.heap.size, 0, none⟩), .pointer (some ⟨w.heap.size + 1, 0, none⟩), .pointer (some ⟨w.heap.size + 1 + 1, 0, none⟩), .pointer (some ⟨w.heap.size + 1 + 1 + 1, 0, none⟩), .pointer (some ⟨Bx, 0, none⟩), .agg #[.int .i64 B.now, .slice a1 B.svcs.length c1, .slice a2 B.cps.length c2, .slice a3 B.bts.length c3], .pointer (some ⟨w.heap.size + 1, 0, none⟩), .string s.name, .func (.func 135) #[] #[.pointer (some ⟨w.heap.size + 1 + 1 + 1 + 1, 0, none⟩), .pointer (some ⟨w.heap.size + 1 + 1 + 1 + 1 + 1, 0, none⟩)], .agg #[.string x.service, .int .i64 x.number, .int .i64 x.version, .int .i64 x.image, .int .i64 x.state, .bool x.ending, .string x.berth], undef, undef, undef, undef, undef, undef, undef, undef, undef, undef, undef, undef, undef, undef, undef, undef, undef, undef, undef, undef, undef, undef, undef, undef, undef, undef, undef, undef, undef, undef, undef, undef, undef, undef], defers := [] })
    (fun x a' _ X Y row hs hg hr => by obtain ⟨Bx, g1, g2, g3⟩ := hs; exact ⟨Bx, g1, cells_own Bx 88 (fun (_ : Unit) => #[.string x.service, .int .i64 x.number, .int .i64 x.version, .int .i64 x.image, .int .i64 x.state, .bool x.ending, .string x.berth]) () X Y row g2 hg (fun r e => (hr r e).2), g3⟩)
    ?assign ?body ?done ?stop
  case assign =>
    rintro l pre x W K ⟨⟨hM, hR, hSb⟩, hsz, hB⟩ hK
    gi_wp2
    have hw1 := below_box W (.cells #[.string x.service, .int .i64 x.number, .int .i64 x.version, .int .i64 x.image, .int .i64 x.state, .bool x.ending, .string x.berth] 88)
    exact hK _ _ ((KeepsOthers.alloc _ _).from _) ⟨(Below.refl _ W).alloc hB.size _, hw1.block _ (by omega)⟩ ⟨⟨below_blk hw1 hM (by omega), below_blk hw1 hR (by omega), below_blk hw1 hSb (by omega)⟩, Nat.le_trans hsz hw1.size, hB.alloc hB.size _⟩ ⟨W.heap.size, by omega, heap_alloc_new W _, rfl⟩
  case body =>
    rintro l pre x a' W hl _ ⟨⟨hM0, hR0, hSb0⟩, hsz, hB⟩ ⟨Bx, hBx, hX, rfl⟩ hlt
    have hup := cntF_upTo s.image pre
    obtain ⟨n0, HN⟩ : ∃ n, Hid (cntF s.image pre = n) := ⟨_, rfl⟩
    rw [HN.out] at hup hM0
    have hM : Hid (W.heap[w.heap.size + 1 + 1 + 1]? = some (.cells #[.int .i64 n0.live, .int .i64 n0.ready, .int .i64 n0.old, .int .i64 n0.failed, .int .i64 n0.ending] 95 (0, 0))) := hM0
    have hR : Hid _ := hR0
    have hSb : Hid _ := hSb0
    clear hM0 hR0 hSb0
    unfold Cnt.upTo at hup
    obtain ⟨u0, u1, u2, u3, u4, u5, u6, u7, u8, u9⟩ := hup
    have o0 := blk_cell hM.out 0 rfl
    have o1 := blk_cell hM.out 1 rfl
    have o2 := blk_cell hM.out 2 rfl
    have o3 := blk_cell hM.out 3 rfl
    have o4 := blk_cell hM.out 4 rfl
    have f0 := blk_frozen hM.out 0
    have f1 := blk_frozen hM.out 1
    have f2 := blk_frozen hM.out 2
    have f3 := blk_frozen hM.out 3
    have f4 := blk_frozen hM.out 4
    have x3 := blk_cell hX 3 rfl
    have x4 := blk_cell hX 4 rfl
    have x5 := blk_cell hX 5 rfl
    have q3 := blk_cell hSb.out 3 rfl
    have hneB : Bx ≠ w.heap.size + 1 + 1 + 1 := by omega
    clear hX b1 b2 b3 b4 b5 hC0 hC
    cases hend : x.ending
    · cases hst3 : (x.state == 3)
      · cases hst4 : (x.state == 4)
        · cases himg : (x.image != s.image)
          · have HC : Hid (cntF s.image (pre ++ [x]) = ⟨n0.live + 1, n0.ready, n0.old, n0.failed, n0.ending⟩) := by unfold Hid; rw [cntF_snoc, HN.out]; simp [cntAdd, addB, hend, hst3, hst4, himg]
            have outF : Hid _ := blk_set (hM.out) 0 (.int .i64 (n0.live + 1))
            gi_wp2
            exact ⟨(KeepsOthers.setCell _ _ _).from _, ⟨((Below.refl w.heap.size W).setCell (p := ⟨w.heap.size + 1 + 1 + 1, 0, none⟩) (by show _ ≤ w.heap.size + 1 + 1 + 1; omega) (.int .i64 (n0.live + 1))), blk_ne (b := w.heap.size + 1 + 1 + 1) (rfl) 0 (.int .i64 (n0.live + 1)) (by omega)⟩, ⟨by rw [HC.out]; exact outF.out, blk_ne (b := w.heap.size + 1 + 1 + 1) (hR.out) 0 (.int .i64 (n0.live + 1)) (by omega), blk_ne (b := w.heap.size + 1 + 1 + 1) (hSb.out) 0 (.int .i64 (n0.live + 1)) (by omega)⟩, by simp only [size_setCell]; exact hsz, (hB.setCell (p := ⟨w.heap.size + 1 + 1 + 1, 0, none⟩) (by show _ ≤ w.heap.size + 1 + 1 + 1; omega) (.int .i64 (n0.live + 1)))⟩
          · have HC : Hid (cntF s.image (pre ++ [x]) = ⟨n0.live + 1, n0.ready, n0.old + 1, n0.failed, n0.ending⟩) := by unfold Hid; rw [cntF_snoc, HN.out]; simp [cntAdd, addB, hend, hst3, hst4, himg]
            have outF : Hid _ := blk_set (blk_set (hM.out) 0 (.int .i64 (n0.live + 1))) 2 (.int .i64 (n0.old + 1))
            gi_wp2
            exact ⟨((KeepsOthers.setCell _ _ _).trans (KeepsOthers.setCell _ _ _)).from _, ⟨(((Below.refl w.heap.size W).setCell (p := ⟨w.heap.size + 1 + 1 + 1, 0, none⟩) (by show _ ≤ w.heap.size + 1 + 1 + 1; omega) (.int .i64 (n0.live + 1))).setCell (p := ⟨w.heap.size + 1 + 1 + 1, 2, none⟩) (by show _ ≤ w.heap.size + 1 + 1 + 1; omega) (.int .i64 (n0.old + 1))), blk_ne (b := w.heap.size + 1 + 1 + 1) (blk_ne (b := w.heap.size + 1 + 1 + 1) (rfl) 0 (.int .i64 (n0.live + 1)) (by omega)) 2 (.int .i64 (n0.old + 1)) (by omega)⟩, ⟨by rw [HC.out]; exact outF.out, blk_ne (b := w.heap.size + 1 + 1 + 1) (blk_ne (b := w.heap.size + 1 + 1 + 1) (hR.out) 0 (.int .i64 (n0.live + 1)) (by omega)) 2 (.int .i64 (n0.old + 1)) (by omega), blk_ne (b := w.heap.size + 1 + 1 + 1) (blk_ne (b := w.heap.size + 1 + 1 + 1) (hSb.out) 0 (.int .i64 (n0.live + 1)) (by omega)) 2 (.int .i64 (n0.old + 1)) (by omega)⟩, by simp only [size_setCell]; exact hsz, ((hB.setCell (p := ⟨w.heap.size + 1 + 1 + 1, 0, none⟩) (by show _ ≤ w.heap.size + 1 + 1 + 1; omega) (.int .i64 (n0.live + 1))).setCell (p := ⟨w.heap.size + 1 + 1 + 1, 2, none⟩) (by show _ ≤ w.heap.size + 1 + 1 + 1; omega) (.int .i64 (n0.old + 1)))⟩
        · cases himg : (x.image != s.image)
          · have HC : Hid (cntF s.image (pre ++ [x]) = ⟨n0.live + 1, n0.ready, n0.old, n0.failed + 1, n0.ending⟩) := by unfold Hid; rw [cntF_snoc, HN.out]; simp [cntAdd, addB, hend, hst3, hst4, himg]
            have outF : Hid _ := blk_set (blk_set (hM.out) 0 (.int .i64 (n0.live + 1))) 3 (.int .i64 (n0.failed + 1))
            gi_wp2
            exact ⟨((KeepsOthers.setCell _ _ _).trans (KeepsOthers.setCell _ _ _)).from _, ⟨(((Below.refl w.heap.size W).setCell (p := ⟨w.heap.size + 1 + 1 + 1, 0, none⟩) (by show _ ≤ w.heap.size + 1 + 1 + 1; omega) (.int .i64 (n0.live + 1))).setCell (p := ⟨w.heap.size + 1 + 1 + 1, 3, none⟩) (by show _ ≤ w.heap.size + 1 + 1 + 1; omega) (.int .i64 (n0.failed + 1))), blk_ne (b := w.heap.size + 1 + 1 + 1) (blk_ne (b := w.heap.size + 1 + 1 + 1) (rfl) 0 (.int .i64 (n0.live + 1)) (by omega)) 3 (.int .i64 (n0.failed + 1)) (by omega)⟩, ⟨by rw [HC.out]; exact outF.out, blk_ne (b := w.heap.size + 1 + 1 + 1) (blk_ne (b := w.heap.size + 1 + 1 + 1) (hR.out) 0 (.int .i64 (n0.live + 1)) (by omega)) 3 (.int .i64 (n0.failed + 1)) (by omega), blk_ne (b := w.heap.size + 1 + 1 + 1) (blk_ne (b := w.heap.size + 1 + 1 + 1) (hSb.out) 0 (.int .i64 (n0.live + 1)) (by omega)) 3 (.int .i64 (n0.failed + 1)) (by omega)⟩, by simp only [size_setCell]; exact hsz, ((hB.setCell (p := ⟨w.heap.size + 1 + 1 + 1, 0, none⟩) (by show _ ≤ w.heap.size + 1 + 1 + 1; omega) (.int .i64 (n0.live + 1))).setCell (p := ⟨w.heap.size + 1 + 1 + 1, 3, none⟩) (by show _ ≤ w.heap.size + 1 + 1 + 1; omega) (.int .i64 (n0.failed + 1)))⟩
          · have HC : Hid (cntF s.image (pre ++ [x]) = ⟨n0.live + 1, n0.ready, n0.old + 1, n0.failed + 1, n0.ending⟩) := by unfold Hid; rw [cntF_snoc, HN.out]; simp [cntAdd, addB, hend, hst3, hst4, himg]
            have outF : Hid _ := blk_set (blk_set (blk_set (hM.out) 0 (.int .i64 (n0.live + 1))) 2 (.int .i64 (n0.old + 1))) 3 (.int .i64 (n0.failed + 1))
            gi_wp2
            exact ⟨(((KeepsOthers.setCell _ _ _).trans (KeepsOthers.setCell _ _ _)).trans (KeepsOthers.setCell _ _ _)).from _, ⟨((((Below.refl w.heap.size W).setCell (p := ⟨w.heap.size + 1 + 1 + 1, 0, none⟩) (by show _ ≤ w.heap.size + 1 + 1 + 1; omega) (.int .i64 (n0.live + 1))).setCell (p := ⟨w.heap.size + 1 + 1 + 1, 2, none⟩) (by show _ ≤ w.heap.size + 1 + 1 + 1; omega) (.int .i64 (n0.old + 1))).setCell (p := ⟨w.heap.size + 1 + 1 + 1, 3, none⟩) (by show _ ≤ w.heap.size + 1 + 1 + 1; omega) (.int .i64 (n0.failed + 1))), blk_ne (b := w.heap.size + 1 + 1 + 1) (blk_ne (b := w.heap.size + 1 + 1 + 1) (blk_ne (b := w.heap.size + 1 + 1 + 1) (rfl) 0 (.int .i64 (n0.live + 1)) (by omega)) 2 (.int .i64 (n0.old + 1)) (by omega)) 3 (.int .i64 (n0.failed + 1)) (by omega)⟩, ⟨by rw [HC.out]; exact outF.out, blk_ne (b := w.heap.size + 1 + 1 + 1) (blk_ne (b := w.heap.size + 1 + 1 + 1) (blk_ne (b := w.heap.size + 1 + 1 + 1) (hR.out) 0 (.int .i64 (n0.live + 1)) (by omega)) 2 (.int .i64 (n0.old + 1)) (by omega)) 3 (.int .i64 (n0.failed + 1)) (by omega), blk_ne (b := w.heap.size + 1 + 1 + 1) (blk_ne (b := w.heap.size + 1 + 1 + 1) (blk_ne (b := w.heap.size + 1 + 1 + 1) (hSb.out) 0 (.int .i64 (n0.live + 1)) (by omega)) 2 (.int .i64 (n0.old + 1)) (by omega)) 3 (.int .i64 (n0.failed + 1)) (by omega)⟩, by simp only [size_setCell]; exact hsz, (((hB.setCell (p := ⟨w.heap.size + 1 + 1 + 1, 0, none⟩) (by show _ ≤ w.heap.size + 1 + 1 + 1; omega) (.int .i64 (n0.live + 1))).setCell (p := ⟨w.heap.size + 1 + 1 + 1, 2, none⟩) (by show _ ≤ w.heap.size + 1 + 1 + 1; omega) (.int .i64 (n0.old + 1))).setCell (p := ⟨w.heap.size + 1 + 1 + 1, 3, none⟩) (by show _ ≤ w.heap.size + 1 + 1 + 1; omega) (.int .i64 (n0.failed + 1)))⟩
      · have hst4 : (x.state == 4) = false := by have h := eq_of_beq hst3; rw [h]; rfl
        cases himg : (x.image != s.image)
        · have HC : Hid (cntF s.image (pre ++ [x]) = ⟨n0.live + 1, n0.ready + 1, n0.old, n0.failed, n0.ending⟩) := by unfold Hid; rw [cntF_snoc, HN.out]; simp [cntAdd, addB, hend, hst3, hst4, himg]
          have outF : Hid _ := blk_set (blk_set (hM.out) 0 (.int .i64 (n0.live + 1))) 1 (.int .i64 (n0.ready + 1))
          gi_wp2
          exact ⟨((KeepsOthers.setCell _ _ _).trans (KeepsOthers.setCell _ _ _)).from _, ⟨(((Below.refl w.heap.size W).setCell (p := ⟨w.heap.size + 1 + 1 + 1, 0, none⟩) (by show _ ≤ w.heap.size + 1 + 1 + 1; omega) (.int .i64 (n0.live + 1))).setCell (p := ⟨w.heap.size + 1 + 1 + 1, 1, none⟩) (by show _ ≤ w.heap.size + 1 + 1 + 1; omega) (.int .i64 (n0.ready + 1))), blk_ne (b := w.heap.size + 1 + 1 + 1) (blk_ne (b := w.heap.size + 1 + 1 + 1) (rfl) 0 (.int .i64 (n0.live + 1)) (by omega)) 1 (.int .i64 (n0.ready + 1)) (by omega)⟩, ⟨by rw [HC.out]; exact outF.out, blk_ne (b := w.heap.size + 1 + 1 + 1) (blk_ne (b := w.heap.size + 1 + 1 + 1) (hR.out) 0 (.int .i64 (n0.live + 1)) (by omega)) 1 (.int .i64 (n0.ready + 1)) (by omega), blk_ne (b := w.heap.size + 1 + 1 + 1) (blk_ne (b := w.heap.size + 1 + 1 + 1) (hSb.out) 0 (.int .i64 (n0.live + 1)) (by omega)) 1 (.int .i64 (n0.ready + 1)) (by omega)⟩, by simp only [size_setCell]; exact hsz, ((hB.setCell (p := ⟨w.heap.size + 1 + 1 + 1, 0, none⟩) (by show _ ≤ w.heap.size + 1 + 1 + 1; omega) (.int .i64 (n0.live + 1))).setCell (p := ⟨w.heap.size + 1 + 1 + 1, 1, none⟩) (by show _ ≤ w.heap.size + 1 + 1 + 1; omega) (.int .i64 (n0.ready + 1)))⟩
        · have HC : Hid (cntF s.image (pre ++ [x]) = ⟨n0.live + 1, n0.ready + 1, n0.old + 1, n0.failed, n0.ending⟩) := by unfold Hid; rw [cntF_snoc, HN.out]; simp [cntAdd, addB, hend, hst3, hst4, himg]
          have outF : Hid _ := blk_set (blk_set (blk_set (hM.out) 0 (.int .i64 (n0.live + 1))) 1 (.int .i64 (n0.ready + 1))) 2 (.int .i64 (n0.old + 1))
          gi_wp2
          exact ⟨(((KeepsOthers.setCell _ _ _).trans (KeepsOthers.setCell _ _ _)).trans (KeepsOthers.setCell _ _ _)).from _, ⟨((((Below.refl w.heap.size W).setCell (p := ⟨w.heap.size + 1 + 1 + 1, 0, none⟩) (by show _ ≤ w.heap.size + 1 + 1 + 1; omega) (.int .i64 (n0.live + 1))).setCell (p := ⟨w.heap.size + 1 + 1 + 1, 1, none⟩) (by show _ ≤ w.heap.size + 1 + 1 + 1; omega) (.int .i64 (n0.ready + 1))).setCell (p := ⟨w.heap.size + 1 + 1 + 1, 2, none⟩) (by show _ ≤ w.heap.size + 1 + 1 + 1; omega) (.int .i64 (n0.old + 1))), blk_ne (b := w.heap.size + 1 + 1 + 1) (blk_ne (b := w.heap.size + 1 + 1 + 1) (blk_ne (b := w.heap.size + 1 + 1 + 1) (rfl) 0 (.int .i64 (n0.live + 1)) (by omega)) 1 (.int .i64 (n0.ready + 1)) (by omega)) 2 (.int .i64 (n0.old + 1)) (by omega)⟩, ⟨by rw [HC.out]; exact outF.out, blk_ne (b := w.heap.size + 1 + 1 + 1) (blk_ne (b := w.heap.size + 1 + 1 + 1) (blk_ne (b := w.heap.size + 1 + 1 + 1) (hR.out) 0 (.int .i64 (n0.live + 1)) (by omega)) 1 (.int .i64 (n0.ready + 1)) (by omega)) 2 (.int .i64 (n0.old + 1)) (by omega), blk_ne (b := w.heap.size + 1 + 1 + 1) (blk_ne (b := w.heap.size + 1 + 1 + 1) (blk_ne (b := w.heap.size + 1 + 1 + 1) (hSb.out) 0 (.int .i64 (n0.live + 1)) (by omega)) 1 (.int .i64 (n0.ready + 1)) (by omega)) 2 (.int .i64 (n0.old + 1)) (by omega)⟩, by simp only [size_setCell]; exact hsz, (((hB.setCell (p := ⟨w.heap.size + 1 + 1 + 1, 0, none⟩) (by show _ ≤ w.heap.size + 1 + 1 + 1; omega) (.int .i64 (n0.live + 1))).setCell (p := ⟨w.heap.size + 1 + 1 + 1, 1, none⟩) (by show _ ≤ w.heap.size + 1 + 1 + 1; omega) (.int .i64 (n0.ready + 1))).setCell (p := ⟨w.heap.size + 1 + 1 + 1, 2, none⟩) (by show _ ≤ w.heap.size + 1 + 1 + 1; omega) (.int .i64 (n0.old + 1)))⟩
    · have HC : Hid (cntF s.image (pre ++ [x]) = ⟨n0.live, n0.ready, n0.old, n0.failed, n0.ending + 1⟩) := by unfold Hid; rw [cntF_snoc, HN.out]; simp [cntAdd, hend]
      have outF : Hid _ := blk_set (hM.out) 4 (.int .i64 (n0.ending + 1))
      gi_wp2
      exact ⟨(KeepsOthers.setCell _ _ _).from _, ⟨((Below.refl w.heap.size W).setCell (p := ⟨w.heap.size + 1 + 1 + 1, 4, none⟩) (by show _ ≤ w.heap.size + 1 + 1 + 1; omega) (.int .i64 (n0.ending + 1))), blk_ne (b := w.heap.size + 1 + 1 + 1) (rfl) 4 (.int .i64 (n0.ending + 1)) (by omega)⟩, ⟨by rw [HC.out]; exact outF.out, blk_ne (b := w.heap.size + 1 + 1 + 1) (hR.out) 4 (.int .i64 (n0.ending + 1)) (by omega), blk_ne (b := w.heap.size + 1 + 1 + 1) (hSb.out) 4 (.int .i64 (n0.ending + 1)) (by omega)⟩, by simp only [size_setCell]; exact hsz, (hB.setCell (p := ⟨w.heap.size + 1 + 1 + 1, 4, none⟩) (by show _ ≤ w.heap.size + 1 + 1 + 1; omega) (.int .i64 (n0.ending + 1)))⟩
  case done =>
    rintro D ys W hD rfl ⟨⟨hM0, hR, hSb⟩, hsz, hB⟩ hK
    obtain ⟨n0, HN⟩ : ∃ n, Hid (cntF s.image (ofS s.name B.cps) = n) := ⟨_, rfl⟩
    rw [HN.out] at hM0
    have hM : W.heap[w.heap.size + 1 + 1 + 1]? = some (.cells #[.int .i64 n0.live, .int .i64 n0.ready, .int .i64 n0.old, .int .i64 n0.failed, .int .i64 n0.ending] 95 (0, 0)) := hM0
    have hRlt : w.heap.size + 1 + 1 < W.heap.size := by omega
    have hRD : w.heap.size + 1 + 1 ≠ D := by omega
    have HK : Hid _ := hK
    have HR : Hid _ := hR
    have o0 := blk_cell hM 0 rfl
    have o1 := blk_cell hM 1 rfl
    have o2 := blk_cell hM 2 rfl
    have o3 := blk_cell hM 3 rfl
    have o4 := blk_cell hM 4 rfl
    have p0 := blk_cell hR 0 rfl
    have p1 := blk_cell hR 1 rfl
    have p2 := blk_cell hR 2 rfl
    have p3 := blk_cell hR 3 rfl
    have p4 := blk_cell hR 4 rfl
    have g0 := blk_frozen hR 0
    have g1 := blk_frozen hR 1
    have g2 := blk_frozen hR 2
    have g3 := blk_frozen hR 3
    have g4 := blk_frozen hR 4
    clear hM0 hM hSb hK hR b1 b2 b3 b4 b5 hC0 hC
    gi_wp2
    have hK' := (((((KeepsOthers.setCell W ⟨w.heap.size + 1 + 1, 0, none⟩ (.int .i64 n0.live)).trans (KeepsOthers.setCell _ ⟨w.heap.size + 1 + 1, 1, none⟩ (.int .i64 n0.ready))).trans (KeepsOthers.setCell _ ⟨w.heap.size + 1 + 1, 2, none⟩ (.int .i64 n0.old))).trans (KeepsOthers.setCell _ ⟨w.heap.size + 1 + 1, 3, none⟩ (.int .i64 n0.failed))).trans (KeepsOthers.setCell _ ⟨w.heap.size + 1 + 1, 4, none⟩ (.int .i64 n0.ending))).same D _ HK.out rfl
    refine ⟨by simp, .inl ⟨_, _, rfl, run_takeDeferred hK', ?_⟩⟩
    have hX := ((grownBy_putObj' _ D (.deferred none)).block (w.heap.size + 1 + 1) (by simp only [size_setCell]; exact hRlt) (fun e => hRD (Option.some.inj e))).trans (blk_set (blk_set (blk_set (blk_set (blk_set (HR.out) 0 (.int .i64 n0.live)) 1 (.int .i64 n0.ready)) 2 (.int .i64 n0.old)) 3 (.int .i64 n0.failed)) 4 (.int .i64 n0.ending))
    have y0 := blk_cell hX 0 rfl
    have y1 := blk_cell hX 1 rfl
    have y2 := blk_cell hX 2 rfl
    have y3 := blk_cell hX 3 rfl
    have y4 := blk_cell hX 4 rfl
    refine ⟨.agg #[.int .i64 n0.live, .int .i64 n0.ready, .int .i64 n0.old, .int .i64 n0.failed, .int .i64 n0.ending], ?_, by rw [HN.out]; rfl, (((((hB.setCell (p := ⟨w.heap.size + 1 + 1, 0, none⟩) (by show _ ≤ w.heap.size + 1 + 1; omega) (.int .i64 n0.live)).setCell (p := ⟨w.heap.size + 1 + 1, 1, none⟩) (by show _ ≤ w.heap.size + 1 + 1; omega) (.int .i64 n0.ready)).setCell (p := ⟨w.heap.size + 1 + 1, 2, none⟩) (by show _ ≤ w.heap.size + 1 + 1; omega) (.int .i64 n0.old)).setCell (p := ⟨w.heap.size + 1 + 1, 3, none⟩) (by show _ ≤ w.heap.size + 1 + 1; omega) (.int .i64 n0.failed)).setCell (p := ⟨w.heap.size + 1 + 1, 4, none⟩) (by show _ ≤ w.heap.size + 1 + 1; omega) (.int .i64 n0.ending)).trans (belowK_b (w := w) (Nat.le_refl _) _ D _ _ (by omega) hK' rfl rfl)⟩
    simp [results, Tryz.f107, go_sem, y0, y1, y2, y3, y4]
  case stop =>
    rintro D c pre W _ _ h _
    exact h.elim

end Go.Proofs.YtnaaebffajdogabGreat

/-
  My own. The program's counting.
-/
namespace Go.Proofs.YtnaaebffajdogabGreat
open Go.RowKit Go.Sort Go.Maps

theorem countCopies_any (B : Bk) (s : Svc) (a1 a2 a3 : Option Addr) (c1 c2 c3 : Nat) (w : World) (hl2 : B.cps.length ≤ 1048576) (hC : SlC w a2 B.cps) (N : Cnt) (hN : Hid (N = cntTo s.image s.name B.cps B.cps.length)) :
    Calls Tryz.prog 107 #[.agg #[.int .i64 B.now, .slice a1 B.svcs.length c1, .slice a2 B.cps.length c2, .slice a3 B.bts.length c3], .agg #[.string s.name, .int .i64 s.version, .bool s.gone, .int .i64 s.image, .int .i64 s.want, .int .i64 s.down, .int .i64 s.over, .int .i64 s.next, .int .i64 s.per, .int .i64 s.least, .int .i64 s.most, .int .i64 s.load, .int .i64 s.cool]] w fun e w' => e = .returned (.agg #[.int .i64 N.live, .int .i64 N.ready, .int .i64 N.old, .int .i64 N.failed, .int .i64 N.ending]) ∧ Below w.heap.size w w' := by
  refine ((callsIn_wide (n := 3)).1 (countCopies_in Fence.wide 3 trivial trivial trivial rfl (by omega) B s a1 a2 a3 c1 c2 c3 w hl2 hC)).mono fun e w' ⟨he, hb⟩ => ⟨?_, hb⟩
  rw [he]
  have e1 : cntF s.image (ofS s.name B.cps) = N := by
    rw [hN.out]
    unfold cntF cntTo
    rw [cntF_ofS, List.take_length]
  rw [e1]
  rfl

end Go.Proofs.YtnaaebffajdogabGreat

/-
  My own. Regions that draw their order and whose operations only let the world grow: one walk, operation by operation.
-/
namespace Go.Proofs.YtnaaebffajdogabGreat
open Go Go.RowKit

section
variable {P : Program} {ops : Array Oper} {md : Region.Mode} {Q : Exit → Act → World → Prop}

/-- The frame with what each of the first n operations gave. -/
def putAll (ops : Array Oper) (V : Nat → Value) : Nat → Act → Act
  | 0, a => a
  | n + 1, a => (putAll ops V n a).put ((ops[n]?).bind (·.dst)) (V n)

def upd (V : Nat → Value) (i : Nat) (v : Value) : Nat → Value := fun j => if j = i then v else V j

theorem put_put (a : Act) (d : Option Tmp) (u v : Value) : (a.put d u).put d v = a.put d v := by
  cases d <;> simp [Act.put]

theorem putAll_off (V : Nat → Value) (i : Nat) (v : Value) (a : Act) : ∀ n, n ≤ i → putAll ops (upd V i v) n a = putAll ops V n a
  | 0, _ => rfl
  | n + 1, h => by
    have e : upd V i v n = V n := by simp [upd]; omega
    simp only [putAll, e, putAll_off V i v a n (by omega)]

/-- Each of the first n operations has a place of its own. -/
def ownDst (ops : Array Oper) (n : Nat) : Bool :=
  (List.range n).all fun j => (List.range j).all fun i => match (ops[i]?).bind (·.dst) with
    | some d => (ops[j]?).bind (·.dst) != some d
    | none => true

theorem ownDst_spec {n : Nat} (h : ownDst ops n = true) {i j : Nat} (hij : i < j) (hj : j < n) : ∀ d, (ops[i]?).bind (·.dst) = some d → (ops[j]?).bind (·.dst) ≠ some d := by
  intro d hd
  have h1 := List.all_eq_true.1 (List.all_eq_true.1 h j (List.mem_range.2 hj)) i (List.mem_range.2 hij)
  rw [hd] at h1
  simpa using h1

theorem putAll_upd {V : Nat → Value} {i : Nat} {v : Value} {a : Act} : ∀ {n : Nat}, ownDst ops n = true → i < n → (putAll ops V n a).put ((ops[i]?).bind (·.dst)) v = putAll ops (upd V i v) n a
  | 0, _, h => absurd h (by omega)
  | n + 1, ho, h => by
    have ho' : ownDst ops n = true := by
      unfold ownDst at ho ⊢
      refine List.all_eq_true.2 fun j hj => List.all_eq_true.1 ho j (List.mem_range.2 (by have := List.mem_range.1 hj; omega))
    by_cases hi : i = n
    · subst hi
      simp only [putAll, put_put, putAll_off V i v a i (Nat.le_refl _)]
      simp [upd]
    · have e : upd V i v n = V n := by simp [upd]; omega
      simp only [putAll, e]
      rw [← putAll_upd (V := V) (i := i) (v := v) (a := a) ho' (by omega)]
      exact (Act.put_comm _ _ _ (ownDst_spec ho (by omega) (by omega))).symm

theorem putAll_self (a : Act) (n : Nat) : putAll ops (fun j => match (ops[j]?).bind (·.dst) with | some d => a.tmps.getD d undef | none => undef) n a = a := by
  induction n with
  | zero => rfl
  | succ n ih =>
    simp only [putAll, ih]
    cases (ops[n]?).bind (·.dst) with
    | none => rfl
    | some d =>
      simp only [Act.put]
      congr 1
      apply Array.ext
      · simp
      · intro i h1 h2
        by_cases hid : d = i
        · subst hid; simp [h2]
        · rw [Array.getElem_setIfInBounds_ne (h := hid)]

/-- How many of the first n have not come up. -/
def leftOf (n : Nat) (listed : Array Bool) : Nat := (List.range n).countP fun i => !listed.getD i true

theorem countP_but (p : Nat → Bool) (i : Nat) (hp : p i = true) : ∀ l : List Nat, l.Nodup → i ∈ l → l.countP p = l.countP (fun j => p j && j != i) + 1
  | [], _, h => by cases h
  | x :: l, hn, h => by
    rw [List.nodup_cons] at hn
    by_cases hx : x = i
    · subst hx
      have : l.countP (fun j => p j && j != x) = l.countP p := by
        refine List.countP_congr fun j hj => ?_
        have : j ≠ x := fun e => hn.1 (e ▸ hj)
        simp [this]
      rw [List.countP_cons, List.countP_cons, this]
      simp [hp]
    · have hm : i ∈ l := by rcases List.mem_cons.1 h with h | h; exact absurd h.symm hx; exact h
      have ih := countP_but p i hp l hn.2 hm
      rw [List.countP_cons, List.countP_cons, ih]
      have : (x != i) = true := by simpa using hx
      rw [this, Bool.and_true]
      omega

theorem leftOf_set {n i : Nat} {listed : Array Bool} (hi : i < n) (hs : i < listed.size) (hu : listed.getD i true = false) : leftOf n listed = leftOf n (listed.setIfInBounds i true) + 1 := by
  unfold leftOf
  rw [countP_but _ i (by simp only [hu]; rfl) _ List.nodup_range (List.mem_range.2 hi)]
  congr 1
  refine List.countP_congr fun j hj => ?_
  by_cases hji : j = i
  · subst hji
    have : (listed.setIfInBounds j true).getD j true = true := by simp [hs]
    simp
  · rw [getD_set_ne true (Ne.symm hji)]
    simp [hji]

/-- Nothing waits for what comes later. -/
def depsB (md : Region.Mode) (ops : Array Oper) (n : Nat) : Bool :=
  (List.range n).all fun i => match ops[i]? with
    | some o => o.after.all fun e => !Region.binds md e || decide (e.on < i)
    | none => false

def firstN (ops : Array Oper) (n : Nat) : Array Bool := Array.ofFn (n := ops.size) fun i => decide (i.val < n)

theorem listed_firstN {n : Nat} {listed : Array Bool} (inv : HeadInv md ops n listed) (hall : ∀ i, i < n → listed.getD i true = true) : listed = firstN ops n := by
  apply Array.ext
  · simp [firstN, inv.size]
  · intro i h1 h2
    simp only [firstN, Array.getElem_ofFn]
    by_cases hi : i < n
    · have := hall i hi
      simp [h1] at this
      simp [this, hi]
    · have := inv.tail i (by omega) (by rw [← inv.size]; exact h1)
      simp [h1] at this
      simp [this, hi]

theorem least_ready {n : Nat} {listed : Array Bool} (hdB : depsB md ops n = true) (inv : HeadInv md ops n listed) : ∀ (i : Nat), i < n → listed.getD i true = false → Region.ready md ops listed ≠ [] := by
  intro i
  induction i using Nat.strongRecOn with
  | _ i ih =>
    intro hi hu
    have h1 := List.all_eq_true.1 hdB i (List.mem_range.2 hi)
    cases ho : ops[i]? with
    | none => rw [ho] at h1; cases h1
    | some o =>
      rw [ho] at h1
      by_cases hall : ∀ e ∈ o.after, Region.binds md e = true → listed.getD e.on false = true
      · have : i ∈ Region.ready md ops listed := mem_ready.2 ⟨hu, o, ho, hall⟩
        intro h; rw [h] at this; cases this
      · simp only [Classical.not_forall] at hall
        obtain ⟨e, he, hb, hl⟩ := hall
        have h2 := Array.all_eq_true'.1 h1 e he
        rw [hb] at h2
        have h3 : e.on < i := by simpa using h2
        refine ih e.on h3 (by omega) ?_
        have hsz : e.on < listed.size := by
          have := (Array.getElem?_eq_some_iff.1 ho).1
          rw [inv.size]; omega
        exact getD_in hsz (by simpa using hl)

/-- One operation alone, and what is asked behind it; it may not stop otherwise. -/
def KPost (K : Act → World → Prop) : Exit → Act → World → Prop
  | .normal, a, w => K a w
  | _, _, _ => False

theorem KPost_in {K : Act → World → Prop} {a : Act} {w : World} (h : K a w) : KPost K .normal a w := h

theorem Oper.wp_only {o : Oper} {a : Act} {w : World} {L K : Act → World → Prop} (hh : o.wp P a w L (KPost K)) : o.wp P a w L Q := by
  unfold Oper.wp at *
  generalize (execOp a.eval o).run P w = r at *
  cases r with
  | ok n w' =>
    cases n <;> simp only [Oper.upon] at hh ⊢ <;>
      first
        | exact hh
        | exact Calls.mono hh (fun e w'' he => by cases e <;> first | exact he | exact False.elim he | exact (let ⟨_, _, h⟩ := he; False.elim h))
  | halt x w' => cases x <;> simp only [Oper.upon] at hh ⊢ <;> first | exact hh | exact False.elim hh

theorem wpOp_of_list {i : Nat} {o : Oper} {a : Act} {W : World} {K : Act → World → Prop} (hi : ops[i]? = some o) (h : wpList P ops (KPost K) [o] a W) : wpOp P ops Q i K a W := by
  unfold wpOp
  simp only [hi]
  simp only [wpList] at h
  split at h
  · rename_i hw
    rw [if_pos hw]
    rcases h with h | ⟨_, _, _, h2⟩
    · exact .inl (Oper.wp_only (Go.Oper.wp_mono (fun _ _ h => h) h))
    · exact False.elim h2
  · rename_i hw
    rw [if_neg hw]
    exact h

/-- What operation i must do where S holds of what the others left: give a value of which T holds, in a world that has only grown. -/
def GrowOp (P : Program) (ops : Array Oper) (a0 : Act) (n : Nat) (w0 : World) (S : Nat → Value → World → Prop) (i : Nat) (o : Oper) (T : Value → World → Prop) : Prop :=
  ∀ (V : Nat → Value) (W : World) (K : Act → World → Prop), Below w0.heap.size w0 W → (∀ j, Region.waitsFor .any ops i j = true → S j (V j) W) →
    Hid (∀ v W', Below W.heap.size W W' → T v W' → K ((putAll ops V n a0).put o.dst v) W') → wpList P ops (KPost K) [o] (putAll ops V n a0) W

def Lasts (T : Value → World → Prop) : Prop := ∀ v W W', T v W → Below W.heap.size W W' → T v W'

theorem wpAny_grow {n g : Nat} {S : Nat → Value → World → Prop} {w0 : World} {a0 : Act}
    (hw : ∀ listed, HeadInv .any ops n listed → ∀ i, i < n → listed.getD i true = false → ∀ t, n ≤ t → t ∉ Region.ready .any ops listed)
    (hn : n ≤ ops.size) (hdB : depsB .any ops n = true) (hd : ownDst ops n = true)
    (hst : ∀ j, Lasts (S j))
    (hop : ∀ i o, i < n → ops[i]? = some o → GrowOp P ops a0 n w0 S i o (S i))
    (hlast : ∀ V W, Below w0.heap.size w0 W → (∀ j, j < n → S j (V j) W) → wpAny P .any ops Q g (firstN ops n) (putAll ops V n a0) W) :
    ∀ (m : Nat) (listed : Array Bool) (V : Nat → Value) (W : World), HeadInv .any ops n listed → leftOf n listed = m → Below w0.heap.size w0 W → (∀ j, j < n → listed.getD j false = true → S j (V j) W) →
      wpAny P .any ops Q (m + g) listed (putAll ops V n a0) W
  | 0, listed, V, W, inv, hm, hb, hS => by
    have hall : ∀ i, i < n → listed.getD i true = true := by
      intro i hi
      have := List.countP_eq_zero.1 hm i (List.mem_range.2 hi)
      simpa using this
    rw [listed_firstN inv hall, Nat.zero_add]
    refine hlast V W hb fun j hj => hS j hj ?_
    have := hall j hj
    have hjs : j < listed.size := by rw [inv.size]; omega
    simp [hjs] at this ⊢
    exact this
  | m + 1, listed, V, W, inv, hm, hb, hS => by
    obtain ⟨u, hu, hul⟩ : ∃ u, u < n ∧ listed.getD u true = false := by
      have : 0 < leftOf n listed := by omega
      obtain ⟨u, hu, hul⟩ := List.countP_pos_iff.1 this
      exact ⟨u, List.mem_range.1 hu, by simpa using hul⟩
    rw [show m + 1 + g = (m + g) + 1 by omega]
    refine ⟨fun h0 => absurd h0 (least_ready hdB inv u hu hul), fun i hi => ?_⟩
    have hin : i < n := by
      rcases Nat.lt_or_ge i n with h | h
      · exact h
      · exact absurd hi (hw listed inv u hu hul i h)
    obtain ⟨hun, o, ho, hall⟩ := mem_ready.1 hi
    refine wpOp_of_list ho (hop i o hin ho V W _ hb (fun j hj => ?_) fun v W' hb' hs' => ?_)
    · obtain ⟨oj, hoj, e, he, hbd, hon⟩ := Region.waitsFor_spec hj
      have : oj = o := Option.some.inj (hoj.symm.trans ho)
      subst this
      have hl := hall e he hbd
      rw [hon] at hl
      have hlt : j < n := by
        have h1 := List.all_eq_true.1 hdB i (List.mem_range.2 hin)
        rw [ho] at h1
        have h2 := Array.all_eq_true'.1 h1 e he
        rw [hbd] at h2
        have h3 : e.on < i := by simpa using h2
        omega
      exact hS j hlt hl
    · have hdst : o.dst = (ops[i]?).bind (·.dst) := by rw [ho]; rfl
      rw [hdst, putAll_upd hd hin]
      have his : i < listed.size := by rw [inv.size]; exact (Array.getElem?_eq_some_iff.1 ho).1
      refine wpAny_grow hw hn hdB hd hst hop hlast m _ _ W' (inv.set hi hin) (by have := leftOf_set hin his hun; omega) (hb.trans ⟨hb'.os, hb'.tape, hb'.output, hb'.size, fun k hk => hb'.block k (Nat.lt_of_lt_of_le hk hb.size)⟩) fun j hj hl => ?_
      by_cases hji : j = i
      · subst hji
        simpa [upd] using hs'
      · rw [getD_set_ne false (Ne.symm hji)] at hl
        have := hst j (V j) W W' (hS j hj hl) hb'
        simpa [upd, hji] using this

/-- What a region with a tail must keep to. -/
def growTailB (ops : Array Oper) (n : Nat) : Bool :=
  decide (n < ops.size) && Region.sinkB .any ops n && Region.chainB .any ops n && depsB .any ops n && ownDst ops n && Region.seqB .any ops (ops.size - n) n (firstN ops n)

theorem wp_region_grow {id : Nat} {a : Act} {w : World} {l : List Oper} (n : Nat) (S : Nat → Value → World → Prop) (hm : P.follows .mixedOrders = true) (hB : growTailB l.toArray n = true)
    (hst : ∀ j, Lasts (S j)) (hop : ∀ i o, i < n → l.toArray[i]? = some o → GrowOp P l.toArray a n w S i o (S i))
    (hlast : ∀ V W, Below w.heap.size w W → (∀ j, j < n → S j (V j) W) → wpList P l.toArray Q (l.drop n) (putAll l.toArray V n a) W) : (Code.region id l.toArray true).wp P Q a w := by
  simp only [growTailB, Bool.and_eq_true, decide_eq_true_eq] at hB
  obtain ⟨⟨⟨⟨⟨hn, hs⟩, hc⟩, hdB⟩, hd⟩, hseq⟩ := hB
  refine wp_region_any hm ?_
  have inv0 : HeadInv .any l.toArray n (Array.replicate l.toArray.size false) :=
    ⟨by simp, fun j oj _ hl => (by rw [getD_replicate_false] at hl; cases hl), fun t _ ht => getD_in (by simpa using ht) (getD_replicate_false _ _)⟩
  have hb0 : Below w.heap.size w { w with drawn := w.drawn + 1 } := ⟨rfl, rfl, rfl, Nat.le_refl _, fun _ _ => rfl⟩
  have hleft : leftOf n (Array.replicate l.toArray.size false) = n := by
    unfold leftOf
    rw [List.countP_eq_length.2]
    · simp
    · intro i hi
      have : i < l.toArray.size := by have := List.mem_range.1 hi; omega
      rw [getD_in (by simpa using this) (getD_replicate_false _ _)]
      rfl
  have H := wpAny_grow (P := P) (Q := Q) (g := l.toArray.size - n) (S := S) (w0 := w) (a0 := a) (fun listed inv i hi hu t ht => tail_waits hs hc hn inv _ i rfl hi hu t ht) (by omega) hdB hd hst hop
    (fun V W hb hS => by
      have hdl : (l.drop n).length = l.toArray.size - n := by simp
      have := wpAny_of_seq (md := .any) (Q' := Q) (l.drop n) n (firstN l.toArray n) _ W (fun j => by simp [List.getElem?_drop]) (by rw [hdl]; exact hseq) (hlast V W hb hS)
      rwa [hdl] at this)
    n _ (fun j => match (l.toArray[j]?).bind (·.dst) with | some d => a.tmps.getD d undef | none => undef) { w with drawn := w.drawn + 1 } inv0 hleft hb0 (fun j _ hl => by rw [getD_replicate_false] at hl; cases hl)
  rw [putAll_self, show n + (l.toArray.size - n) = l.toArray.size by omega] at H
  exact H

/-! ### Operation by operation -/

def updS (S : Nat → Value → World → Prop) (i : Nat) (T : Value → World → Prop) : Nat → Value → World → Prop := fun j => match Nat.beq j i with
  | true => T
  | false => S j

def growFrom (P : Program) (ops : Array Oper) (a0 : Act) (n : Nat) (w0 : World) (L : (Nat → Value → World → Prop) → Prop) : List Oper → Nat → (Nat → Value → World → Prop) → Prop
  | [], _, S => L S
  | o :: rest, i, S => ∃ T, Lasts T ∧ GrowOp P ops a0 n w0 S i o T ∧ growFrom P ops a0 n w0 L rest (i + 1) (updS S i T)

theorem grow_op {a0 : Act} {n : Nat} {w0 : World} {L : (Nat → Value → World → Prop) → Prop} {o : Oper} {rest : List Oper} {i : Nat} {S : Nat → Value → World → Prop} (T : Value → World → Prop) (hT : Lasts T)
    (h : ∀ (V : Nat → Value) (W : World) (K : Act → World → Prop) (A : Act), Below w0.heap.size w0 W → (∀ j, Region.waitsFor .any ops i j = true → S j (V j) W) → Hid (A = putAll ops V n a0) →
      Hid (∀ v W', Below W.heap.size W W' → T v W' → K (A.put o.dst v) W') → wpList P ops (KPost K) [o] A W)
    (hr : growFrom P ops a0 n w0 L rest (i + 1) (updS S i T)) : growFrom P ops a0 n w0 L (o :: rest) i S := ⟨T, hT, fun V W K hb hd hK => h V W K _ hb hd rfl hK, hr⟩

theorem grow_eq {a0 : Act} {n : Nat} {w0 : World} {L : (Nat → Value → World → Prop) → Prop} {o : Oper} {rest : List Oper} {i : Nat} {S : Nat → Value → World → Prop} {u : Value}
    (h : ∀ (V : Nat → Value) (W : World) (K : Act → World → Prop) (A : Act), Below w0.heap.size w0 W → (∀ j, Region.waitsFor .any ops i j = true → S j (V j) W) → Hid (A = putAll ops V n a0) →
      Hid (∀ W', Below W.heap.size W W' → K (A.put o.dst u) W') → wpList P ops (KPost K) [o] A W)
    (hr : growFrom P ops a0 n w0 L rest (i + 1) (updS S i fun v _ => v = u)) : growFrom P ops a0 n w0 L (o :: rest) i S :=
  ⟨fun v _ => v = u, fun _ _ _ h _ => h, fun V W K hb hd hK => h V W K _ hb hd rfl fun W' hb' => hK.out u W' hb' rfl, hr⟩

theorem updS_self (S : Nat → Value → World → Prop) (i : Nat) (T : Value → World → Prop) : updS S i T i = T := by simp [updS]
theorem updS_ne (S : Nat → Value → World → Prop) {i j : Nat} (T : Value → World → Prop) (h : j ≠ i) : updS S i T j = S j := by
  have : Nat.beq j i = false := by
    cases hb : Nat.beq j i with
    | false => rfl
    | true => exact absurd (Nat.eq_of_beq_eq_true hb) h
  simp [updS, this]

theorem growFrom_out {a0 : Act} {n : Nat} {w0 : World} {L : (Nat → Value → World → Prop) → Prop} (hdB : depsB .any ops n = true) : ∀ (l : List Oper) (k : Nat) (S : Nat → Value → World → Prop), k + l.length = n → (∀ j, j < l.length → l[j]? = ops[k + j]?) →
    (∀ j, Lasts (S j)) → (∀ i o, i < k → ops[i]? = some o → GrowOp P ops a0 n w0 S i o (S i)) → growFrom P ops a0 n w0 L l k S →
    ∃ S', (∀ j, Lasts (S' j)) ∧ (∀ i o, i < n → ops[i]? = some o → GrowOp P ops a0 n w0 S' i o (S' i)) ∧ L S'
  | [], k, S, hk, _, hl, hop, h => ⟨S, hl, by rw [show n = k by simpa using hk.symm]; rw [show n = k by simpa using hk.symm] at hop; exact hop, h⟩
  | o :: l, k, S, hk, hs, hl, hop, ⟨T, hT, ho, h⟩ => by
    have h0 : ops[k]? = some o := by simpa using (hs 0 (by simp)).symm
    have dep : ∀ i j, i < n → Region.waitsFor .any ops i j = true → j < i := fun i j hi hj => by
      obtain ⟨oj, hoj, e, he, hbd, hon⟩ := Region.waitsFor_spec hj
      have h1 := List.all_eq_true.1 hdB i (List.mem_range.2 hi)
      rw [hoj] at h1
      have h2 := Array.all_eq_true'.1 h1 e he
      rw [hbd] at h2
      have h3 : e.on < i := by simpa using h2
      omega
    have hkn : k < n := by simp only [List.length_cons] at hk; omega
    refine growFrom_out hdB l (k + 1) _ (by simp only [List.length_cons] at hk; omega) (fun j hj => by have := hs (j + 1) (by simp; omega); simpa [Nat.add_assoc, Nat.add_comm 1 j] using this) (fun j => ?_) (fun i o' hi hi' => ?_) h
    · by_cases e : j = k
      · subst e; rw [updS_self]; exact hT
      · rw [updS_ne _ _ e]; exact hl j
    · by_cases e : i = k
      · subst e
        have : o' = o := Option.some.inj (hi'.symm.trans h0)
        subst this
        rw [updS_self]
        exact fun V W K hb hd hK => ho V W K hb (fun j hj => by have := hd j hj; rwa [updS_ne _ _ (by have := dep i j hkn hj; omega)] at this) hK
      · rw [updS_ne _ _ e]
        exact fun V W K hb hd hK => hop i o' (by omega) hi' V W K hb (fun j hj => by have := hd j hj; rwa [updS_ne _ _ (by have := dep i j (by omega) hj; omega)] at this) hK

/-- A region that draws its order, its operations walked one by one in the order of the text: the first n only let the world grow, each leaving a value of which it says something that lasts; then a tail in order. -/
theorem wp_region_grows {id : Nat} {a : Act} {w : World} {l : List Oper} (n : Nat) (hm : P.follows .mixedOrders = true) (hB : growTailB l.toArray n = true)
    (h : growFrom P l.toArray a n w (fun S => ∀ V W A, Below w.heap.size w W → (∀ j, j < n → S j (V j) W) → Hid (A = putAll l.toArray V n a) → wpList P l.toArray Q (l.drop n) A W) (l.take n) 0 fun _ _ _ => True) : (Code.region id l.toArray true).wp P Q a w := by
  have hB' := hB
  simp only [growTailB, Bool.and_eq_true, decide_eq_true_eq] at hB'
  obtain ⟨⟨⟨⟨⟨hn, _⟩, _⟩, hdB⟩, _⟩, _⟩ := hB'
  have hn' : n < l.length := by simpa using hn
  obtain ⟨S, h1, h2, h3⟩ := growFrom_out hdB (l.take n) 0 _ (by simp; omega) (fun j hj => by
    have : j < n := by simp at hj; omega
    simp [this]) (fun _ _ _ _ _ _ => trivial) (fun i o hi => absurd hi (by omega)) h
  exact wp_region_grow n S hm hB h1 h2 fun V W hb hS => h3 V W _ hb hS rfl
end
end Go.Proofs.YtnaaebffajdogabGreat

/-
  My own. Looking for a copy; what may end, by the specification.
-/
namespace Go.Proofs.YtnaaebffajdogabGreat
open Go.RowKit Go.Sort

def isC (sv : ByteArray) (num : Int) (c : Cp) : Bool := c.service.toList == sv.toList && c.number == num
def idxC (l : List Cp) (sv : ByteArray) (num : Int) : Int := idxOf (isC sv num) l

set_option maxHeartbeats 2000000 in
theorem l1Copy_any (B : Bk) (sv : ByteArray) (num : Int) (a1 a2 a3 : Option Addr) (c1 c2 c3 : Nat) (w : World) (hS : B.small) (hB : SlC w a2 B.cps) :
    Calls Tryz.prog 85 #[.agg #[.int .i64 B.now, .slice a1 B.svcs.length c1, .slice a2 B.cps.length c2, .slice a3 B.bts.length c3], .string sv, .int .i64 num] w fun e w' => e = .returned (.int .i64 (idxC B.cps sv num)) ∧ Below w.heap.size w w' := by
  obtain ⟨hl1, hl2, hl3⟩ := hS
  go_enter Tryz.func85, Tryz.ntmps85
  go_wp2
  go_loop [7] (fun i => ∃ k : Nat, k ≤ B.cps.length ∧ i = .int .i64 k ∧ Hid (∀ i, i < k → ∀ s, B.cps[i]? = some s → isC sv num s = false)) (fun i => B.cps.length - (intOf i).toNat)
  case atStart => exact ⟨0, by omega, rfl, fun i hi => absurd hi (by omega)⟩
  case round =>
    obtain ⟨k, hk, rfl, hno⟩ := hrel
    by_cases hlt : k < B.cps.length
    · have hne : B.cps ≠ [] := by intro h; rw [h] at hlt; simp at hlt
      obtain ⟨b, off, rfl, hbs, hat⟩ := hB hne
      obtain ⟨s, hsk⟩ : ∃ s, B.cps[k]? = some s := ⟨B.cps[k], by simp [hlt]⟩
      have HSK : Hid (B.cps[k]? = some s) := hsk
      have hc := hat k s hsk
      unfold CpAt at hc
      have hc0 := hc.1
      have hc1 := hc.2.1
      clear hat hc hsk hne
      cases hq : (s.service.toList == sv.toList)
      · have HN : Hid (isC sv num s = false) := by unfold Hid isC; rw [hq]; rfl
        go_wp2
        go_round
        case rel =>
          refine ⟨k + 1, by omega, by go_num, fun i hi t ht => ?_⟩
          rcases Nat.lt_or_ge i k with h' | h'
          · exact hno.out i h' t ht
          · have e : i = k := by omega
            subst e
            rw [HSK.out] at ht; cases ht; exact HN.out
        case measure => simp [intOf]; omega
      cases hq2 : (s.number == num)
      · have HN : Hid (isC sv num s = false) := by unfold Hid isC; rw [hq, hq2]; rfl
        go_wp2
        go_round
        case rel =>
          refine ⟨k + 1, by omega, by go_num, fun i hi t ht => ?_⟩
          rcases Nat.lt_or_ge i k with h' | h'
          · exact hno.out i h' t ht
          · have e : i = k := by omega
            subst e
            rw [HSK.out] at ht; cases ht; exact HN.out
        case measure => simp [intOf]; omega
      · have HN : Hid (isC sv num s = true) := by unfold Hid isC; rw [hq, hq2]; rfl
        go_wp2
        go_ret
        exact ⟨ret_int (idxOf_here HSK.out HN.out hno.out).symm, below_box _ _⟩
    · go_wp2
      go_ret
      exact ⟨ret_int (idxOf_none fun i s hs => hno.out i (by have := (List.getElem?_eq_some_iff.1 hs).1; omega) s hs).symm, below_box _ _⟩

end Go.Proofs.YtnaaebffajdogabGreat

/-
  My own. What may end, by the specification.
-/
namespace Go.Proofs.YtnaaebffajdogabGreat
open Go.RowKit Go.Sort

def mayL (B : Bk) (s : Svc) (sv : ByteArray) (c : Cp) : Bool := !c.ending && (c.state != 3 || (s.gone || decide (s.want - s.down ≤ (cntTo s.image sv B.cps B.cps.length).ready - 1)))

set_option maxHeartbeats 2000000 in
theorem l3MayEnd_none (B : Bk) (sv : ByteArray) (num : Int) (a1 a2 a3 : Option Addr) (c1 c2 c3 : Nat) (w : World) (hS : B.small) (hB : BkAt w a1 a2 a3 B) (hf : B.cps.find? (isC sv num) = none) :
    Calls Tryz.prog 94 #[.agg #[.int .i64 B.now, .slice a1 B.svcs.length c1, .slice a2 B.cps.length c2, .slice a3 B.bts.length c3], .string sv, .int .i64 num] w fun e w' => e = .returned (.bool false) ∧ Below w.heap.size w w' := by
  have HIDX : Hid (idxC B.cps sv num = -1) := idxOf_find_none hf
  clear hf
  have hb0 := below_box w (.cells #[.int .i64 B.now, .slice a1 B.svcs.length c1, .slice a2 B.cps.length c2, .slice a3 B.bts.length c3] 34)
  go_enter Tryz.func94, Tryz.ntmps94
  go_wp2_with fail
  refine (l1Copy_any B sv num a1 a2 a3 c1 c2 c3 _ hS (hB.2.1.below hb0)).mono ?_
  rintro e w1 ⟨rfl, hb1⟩
  rw [HIDX.out]
  go_wp2
  go_ret
  exact ⟨rfl, hb0.trans (hb1.mono hb0.size)⟩

end Go.Proofs.YtnaaebffajdogabGreat
