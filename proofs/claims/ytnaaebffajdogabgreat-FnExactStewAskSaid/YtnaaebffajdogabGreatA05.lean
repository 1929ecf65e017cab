/-
  My own: Df, Yb, Yc, Yh, Yd.
-/
import Derived.Test.YtnaaebffajdogabGreatA01
import Derived.Test.YtnaaebffajdogabGreatA02
import Derived.Test.YtnaaebffajdogabGreatA00
import Derived.RangeFuncNested
import Derived.RangeFuncLeaves
import Derived.Shelf.Abstract
import Derived.OwnWalkIn
import Derived.TacticsInMore
import Derived.LoopNIn
import Derived.LoopIn
/-
  My own. Plain data: counting.
-/
namespace Go.Proofs.YtnaaebffajdogabGreat
open Go.RowKit

structure Cnt where
  live : Int
  ready : Int
  old : Int
  failed : Int
  ending : Int

def Cnt.none : Cnt := ⟨0, 0, 0, 0, 0⟩
def addB (b : Bool) (n : Int) : Int := if b then n + 1 else n
def cntAdd (img : Int) (c : Cp) (n : Cnt) : Cnt :=
  if c.ending then { n with ending := n.ending + 1 }
  else ⟨n.live + 1, addB (c.state == 3) n.ready, addB (c.image != img) n.old, addB (c.state == 4) n.failed, n.ending⟩
def cntOne (img : Int) (sv : ByteArray) (c : Cp) (n : Cnt) : Cnt := if c.service.toList == sv.toList then cntAdd img c n else n
/-- The first k copies, counted. -/
def cntTo (img : Int) (sv : ByteArray) (l : List Cp) (k : Nat) : Cnt := (l.take k).foldl (fun n c => cntOne img sv c n) Cnt.none
theorem cntTo_succ (img : Int) (sv : ByteArray) (l : List Cp) (k : Nat) (c : Cp) (h : l[k]? = some c) : cntTo img sv l (k + 1) = cntOne img sv c (cntTo img sv l k) := by
  obtain ⟨hk, e⟩ := List.getElem?_eq_some_iff.1 h
  unfold cntTo
  rw [List.take_succ_eq_append_getElem hk, List.foldl_append, e]
  rfl
def Cnt.upTo (n : Cnt) (k : Nat) : Prop := 0 ≤ n.live ∧ n.live ≤ k ∧ 0 ≤ n.ready ∧ n.ready ≤ k ∧ 0 ≤ n.old ∧ n.old ≤ k ∧ 0 ≤ n.failed ∧ n.failed ≤ k ∧ 0 ≤ n.ending ∧ n.ending ≤ k
theorem cntOne_upTo (img : Int) (sv : ByteArray) (c : Cp) (n : Cnt) (k : Nat) (h : n.upTo k) : (cntOne img sv c n).upTo (k + 1) := by
  unfold Cnt.upTo at *
  unfold cntOne cntAdd addB
  split
  · split
    · dsimp only; omega
    · dsimp only; repeat' split
      all_goals omega
  · omega
theorem fold_upTo (img : Int) (sv : ByteArray) : ∀ (l : List Cp) (n : Cnt) (k : Nat), n.upTo k → (l.foldl (fun n c => cntOne img sv c n) n).upTo (k + l.length)
  | [], n, k, h => h
  | c :: l, n, k, h => by
    have := fold_upTo img sv l (cntOne img sv c n) (k + 1) (cntOne_upTo img sv c n k h)
    rw [List.foldl_cons, List.length_cons, Nat.add_comm l.length 1, ← Nat.add_assoc]
    exact this
theorem cntTo_upTo (img : Int) (sv : ByteArray) (l : List Cp) (k : Nat) (hk : k ≤ l.length) : (cntTo img sv l k).upTo k := by
  have := fold_upTo img sv (l.take k) Cnt.none 0 (by unfold Cnt.upTo Cnt.none; dsimp only; omega)
  rw [List.length_take, Nat.zero_add, Nat.min_eq_left hk] at this
  exact this

/-- What StewCountOf answers for a valid book. -/
def cntB (B : Bk) (sv : ByteArray) : Cnt := match svcOf B sv with | none => Cnt.none | some s => cntTo s.image sv B.cps B.cps.length

end Go.Proofs.YtnaaebffajdogabGreat

/-
  My own. The specification counts.
-/
namespace Go.Proofs.YtnaaebffajdogabGreat
open Go.RowKit Go.Sort

theorem below_of_grow {w w2 : World} {d : Nat} {os : Array Obj} (h : w2 = grow (redrawn w d) os) : Below w.heap.size w w2 := by rw [h]; exact below_regrown _ _ _
theorem blk_ne {w : World} {k b : Nat} {x : Option Obj} (h : w.heap[k]? = x) (o : Nat) (v : Value) (hne : k ≠ b) : (w.setCell ⟨b, o, none⟩ v).heap[k]? = x := (Below.heap_setCell _ _ _ _ hne).trans h
theorem size_alloc' (w : World) (o : Obj) : (w.alloc o).heap.size = w.heap.size + 1 := by show (w.heap.push _).size = _; simp

set_option maxHeartbeats 4000000 in
theorem l2Count_none (B : Bk) (sv : ByteArray) (a1 a2 a3 : Option Addr) (c1 c2 c3 : Nat) (w : World) (hS : B.small) (hB : BkAt w a1 a2 a3 B) (hf : svcOf B sv = none) :
    Calls Tryz.prog 58 #[.agg #[.int .i64 B.now, .slice a1 B.svcs.length c1, .slice a2 B.cps.length c2, .slice a3 B.bts.length c3], .string sv] w fun e w' => e = .returned (.agg #[.int .i64 0, .int .i64 0, .int .i64 0, .int .i64 0, .int .i64 0]) ∧ Below w.heap.size w w' := by
  have hidx : idxS B.svcs sv = -1 := idxOf_find_none hf
  have HIDX : Hid _ := hidx
  clear hf hidx
  obtain ⟨t0, t1, t2, t3⟩ := three_new w (.cells #[.int .i64 B.now, .slice a1 B.svcs.length c1, .slice a2 B.cps.length c2, .slice a3 B.bts.length c3] 34) (.cells #[.int .i64 0, .int .i64 0, .int .i64 0, .int .i64 0, .int .i64 0] 95) (.cells #[.int .i64 0, .int .i64 0, .int .i64 0, .int .i64 0, .int .i64 0] 95)
  have T0 : Hid _ := t0
  have T1 : Hid _ := t1
  have T2 : Hid _ := t2
  have T3 : Hid _ := t3
  clear t0 t1 t2 t3
  have hb0 : Below w.heap.size w (((w.alloc (.cells #[.int .i64 B.now, .slice a1 B.svcs.length c1, .slice a2 B.cps.length c2, .slice a3 B.bts.length c3] 34)).alloc (.cells #[.int .i64 0, .int .i64 0, .int .i64 0, .int .i64 0, .int .i64 0] 95)).alloc (.cells #[.int .i64 0, .int .i64 0, .int .i64 0, .int .i64 0, .int .i64 0] 95)) := (((Below.refl _ _).alloc (Nat.le_refl _) _).alloc (by simp) _).alloc (by simp; omega) _
  have hS' := hS
  obtain ⟨hl1, hl2, hl3⟩ := hS'
  go_enter Tryz.func58, Tryz.ntmps58
  go_wp2_with fail
  refine (l1Service_any B sv a1 a2 a3 c1 c2 c3 _ hS (hB.1.below hb0)).mono ?_
  rintro e w1 ⟨rfl, hb1⟩
  rw [HIDX.out]
  have hbb1 := hb0.trans (hb1.mono hb0.size)
  rw [T3.out] at hb1
  have U0 : Hid _ := below_blk hb1 T0.out (by omega)
  have U1 : Hid _ := below_blk hb1 T1.out (by omega)
  have U2 : Hid _ := below_blk hb1 T2.out (by omega)
  have e2 := blk_cell U0.out 2 rfl
  have o0 := blk_cell U2.out 0 rfl
  have o1 := blk_cell U2.out 1 rfl
  have o2 := blk_cell U2.out 2 rfl
  have o3 := blk_cell U2.out 3 rfl
  have o4 := blk_cell U2.out 4 rfl
  have p0 := blk_cell U1.out 0 rfl
  have p1 := blk_cell U1.out 1 rfl
  have p2 := blk_cell U1.out 2 rfl
  have p3 := blk_cell U1.out 3 rfl
  have p4 := blk_cell U1.out 4 rfl
  have f0 := blk_frozen U1.out 0
  have f1 := blk_frozen U1.out 1
  have f2 := blk_frozen U1.out 2
  have f3 := blk_frozen U1.out 3
  have f4 := blk_frozen U1.out 4
  clear hb1 hB
  go_wp2
  go_loop [7] (fun i => i = .int .i64 0) (fun _ => 0)
  case atStart => rfl
  case round =>
    subst hrel
    by_cases hz : (0 : Int) < (B.cps.length : Int)
    all_goals
      go_wp2
      refine bodyPost_ret (v := .agg #[.int .i64 0, .int .i64 0, .int .i64 0, .int .i64 0, .int .i64 0]) (by simp [results, Tryz.results58, go_sem, p0, p1, p2, p3, p4]) rfl ⟨rfl, ?_⟩
      exact ((((hbb1.setCell (by simp) _).setCell (by simp) _).setCell (by simp) _).setCell (by simp) _).setCell (by simp) _

end Go.Proofs.YtnaaebffajdogabGreat

/-
  My own. The specification counts: the loop.
-/
namespace Go.Proofs.YtnaaebffajdogabGreat
open Go.RowKit Go.Sort

set_option maxHeartbeats 8000000 in
theorem l2Count_some (B : Bk) (sv : ByteArray) (s : Svc) (a1 a2 a3 : Option Addr) (c1 c2 c3 : Nat) (w : World) (hS : B.small) (hB : BkAt w a1 a2 a3 B) (hf : svcOf B sv = some s) (N : Cnt) (hN : Hid (N = cntTo s.image sv B.cps B.cps.length)) :
    Calls Tryz.prog 58 #[.agg #[.int .i64 B.now, .slice a1 B.svcs.length c1, .slice a2 B.cps.length c2, .slice a3 B.bts.length c3], .string sv] w fun e w' => e = .returned (.agg #[.int .i64 N.live, .int .i64 N.ready, .int .i64 N.old, .int .i64 N.failed, .int .i64 N.ending]) ∧ Below w.heap.size w w' := by
  obtain ⟨ix, hix, hidx⟩ : ∃ i : Nat, B.svcs[i]? = some s ∧ idxS B.svcs sv = (i : Int) := idxOf_find hf
  have HIDX : Hid _ := hidx
  have hixlt : ix < B.svcs.length := (List.getElem?_eq_some_iff.1 hix).1
  have hne0 : B.svcs ≠ [] := by intro h; rw [h] at hixlt; simp at hixlt
  obtain ⟨bS, offS, eS, hbsS, hatS⟩ := hB.1 hne0
  subst eS
  have hsx := hatS ix s hix
  clear hf hidx hix hatS hne0
  obtain ⟨t0, t1, t2, t3⟩ := three_new w (.cells #[.int .i64 B.now, .slice (some ⟨bS, offS, none⟩) B.svcs.length c1, .slice a2 B.cps.length c2, .slice a3 B.bts.length c3] 34) (.cells #[.int .i64 0, .int .i64 0, .int .i64 0, .int .i64 0, .int .i64 0] 95) (.cells #[.int .i64 0, .int .i64 0, .int .i64 0, .int .i64 0, .int .i64 0] 95)
  have T0 : Hid _ := t0
  have T1 : Hid _ := t1
  have T2 : Hid _ := t2
  have T3 : Hid _ := t3
  clear t0 t1 t2 t3
  have hb0 : Below w.heap.size w (((w.alloc (.cells #[.int .i64 B.now, .slice (some ⟨bS, offS, none⟩) B.svcs.length c1, .slice a2 B.cps.length c2, .slice a3 B.bts.length c3] 34)).alloc (.cells #[.int .i64 0, .int .i64 0, .int .i64 0, .int .i64 0, .int .i64 0] 95)).alloc (.cells #[.int .i64 0, .int .i64 0, .int .i64 0, .int .i64 0, .int .i64 0] 95)) := (((Below.refl _ _).alloc (Nat.le_refl _) _).alloc (by simp) _).alloc (by simp; omega) _
  have hS' := hS
  obtain ⟨hl1, hl2, hl3⟩ := hS'
  go_enter Tryz.func58, Tryz.ntmps58
  go_wp2_with fail
  refine (l1Service_any B sv _ a2 a3 c1 c2 c3 _ hS (hB.1.below hb0)).mono ?_
  rintro e w1 ⟨rfl, hb1⟩
  rw [HIDX.out]
  have hbb1 := hb0.trans (hb1.mono hb0.size)
  rw [T3.out] at hb1
  have U0 : Hid _ := below_blk hb1 T0.out (by omega)
  have U1 : Hid _ := below_blk hb1 T1.out (by omega)
  have U2 : Hid _ := below_blk hb1 T2.out (by omega)
  clear hb1 hb0 T0 T1 T2 T3 HIDX
  go_wp2
  go_loopw [7] (fun iv wr => ∃ (k : Nat) (n : Cnt), k ≤ B.cps.length ∧ iv = .int .i64 k ∧ Below w.heap.size w wr ∧ Hid (wr.heap[w.heap.size]? = some (.cells #[.int .i64 B.now, .slice (some ⟨bS, offS, none⟩) B.svcs.length c1, .slice a2 B.cps.length c2, .slice a3 B.bts.length c3] 34 (0, 0))) ∧ Hid (wr.heap[w.heap.size + 1]? = some (.cells #[.int .i64 0, .int .i64 0, .int .i64 0, .int .i64 0, .int .i64 0] 95 (0, 0))) ∧ Hid (wr.heap[(w.heap.size + 1 + 1)]? = some (.cells #[.int .i64 n.live, .int .i64 n.ready, .int .i64 n.old, .int .i64 n.failed, .int .i64 n.ending] 95 (0, 0))) ∧ Hid (n = cntTo s.image sv B.cps k)) (fun i _ => B.cps.length - (intOf i).toNat)
  case atStart => exact ⟨0, Cnt.none, by omega, rfl, hbb1, U0, U1, U2, rfl⟩
  case round =>
    clear hbb1 U0 U1 U2
    obtain ⟨k, n, hk, rfl, hb, hbox, hres, hout, HN⟩ := hrel
    have hMlt : (w.heap.size + 1 + 1) < wr.heap.size := (Array.getElem?_eq_some_iff.1 hout.out).1
    have hMlt1 : w.heap.size + 1 < wr.heap.size := by omega
    have hMlt0 : w.heap.size < wr.heap.size := by omega
    have e2 := blk_cell hbox.out 2 rfl
    have o0 := blk_cell hout.out 0 rfl
    have o1 := blk_cell hout.out 1 rfl
    have o2 := blk_cell hout.out 2 rfl
    have o3 := blk_cell hout.out 3 rfl
    have o4 := blk_cell hout.out 4 rfl
    by_cases hlt : k < B.cps.length
    · have hne : B.cps ≠ [] := by intro h; rw [h] at hlt; simp at hlt
      obtain ⟨b, off, ea, hbs, hat⟩ := hB.2.1 hne
      subst ea
      obtain ⟨c, hsk⟩ : ∃ c, B.cps[k]? = some c := ⟨B.cps[k], by simp [hlt]⟩
      have HST : Hid (cntTo s.image sv B.cps (k + 1) = cntOne s.image sv c n) := by unfold Hid; rw [cntTo_succ _ _ _ _ _ hsk, HN.out]
      have hup : n.upTo k := by rw [HN.out]; exact cntTo_upTo _ _ _ _ hk
      unfold Cnt.upTo at hup
      obtain ⟨u0, u1, u2, u3, u4, u5, u6, u7, u8, u9⟩ := hup
      have hcs := (hat k c hsk).below hb hbs
      unfold CpAt at hcs
      obtain ⟨x0, x1, x2, x3, x4, x5, x6⟩ := hcs
      have f0 := blk_frozen hout.out 0
      have f1 := blk_frozen hout.out 1
      have f2 := blk_frozen hout.out 2
      have f3 := blk_frozen hout.out 3
      have f4 := blk_frozen hout.out 4
      have hw1 := below_box wr (.cells #[.string c.service, .int .i64 c.number, .int .i64 c.version, .int .i64 c.image, .int .i64 c.state, .bool c.ending, .string c.berth] 88)
      have hb1 := hb.trans (hw1.mono hb.size)
      have box1 : Hid _ := below_blk hw1 hbox.out hMlt0
      have res1 : Hid _ := below_blk hw1 hres.out hMlt1
      have out1 : Hid _ := below_blk hw1 hout.out hMlt
      clear hsk hat hne
      cases hsame : (c.service.toList == sv.toList)
      · have HC : Hid (n = cntTo s.image sv B.cps (k + 1)) := by unfold Hid; rw [HST.out]; simp [cntOne, hsame]
        go_wp2
        go_roundw
        case rel => exact ⟨k + 1, n, by omega, by go_num, hb1, box1, res1, out1, HC⟩
        case measure => simp [intOf]; omega
      cases hend : c.ending
      · -- LIVE
        cases hst3 : (c.state == 3)
        · cases hst4 : (c.state == 4)
          · cases himg : (c.image != s.image)
            · have HC : Hid ((⟨n.live + 1, n.ready, n.old, n.failed, n.ending⟩ : Cnt) = cntTo s.image sv B.cps (k + 1)) := by unfold Hid; rw [HST.out]; simp [cntOne, cntAdd, addB, hsame, hend, hst3, hst4, himg]
              have hwS := below_box (wr.setCell ⟨(w.heap.size + 1 + 1), 0, none⟩ (.int .i64 (n.live + 1))) (.cells #[.string c.service, .int .i64 c.number, .int .i64 c.version, .int .i64 c.image, .int .i64 c.state, .bool false, .string c.berth] 88)
              have hsz : (wr.setCell ⟨(w.heap.size + 1 + 1), 0, none⟩ (.int .i64 (n.live + 1))).heap.size = wr.heap.size := by simp only [size_setCell]
              have outS : Hid _ := below_blk hwS (blk_set (hout.out) 0 (.int .i64 (n.live + 1))) (by rw [hsz]; omega)
              have boxS : Hid _ := below_blk hwS (blk_ne (b := (w.heap.size + 1 + 1)) (hbox.out) 0 (.int .i64 (n.live + 1)) (by omega)) (by rw [hsz]; omega)
              have resS : Hid _ := below_blk hwS (blk_ne (b := (w.heap.size + 1 + 1)) (hres.out) 0 (.int .i64 (n.live + 1)) (by omega)) (by rw [hsz]; omega)
              have hbS := ((hb.setCell (p := ⟨(w.heap.size + 1 + 1), 0, none⟩) (by show _ ≤ (w.heap.size + 1 + 1); omega) (.int .i64 (n.live + 1)))).alloc (by rw [hsz]; exact hb.size) (.cells #[.string c.service, .int .i64 c.number, .int .i64 c.version, .int .i64 c.image, .int .i64 c.state, .bool false, .string c.berth] 88)
              have HSZ : Hid (((wr.setCell ⟨(w.heap.size + 1 + 1), 0, none⟩ (.int .i64 (n.live + 1))).alloc (.cells #[.string c.service, .int .i64 c.number, .int .i64 c.version, .int .i64 c.image, .int .i64 c.state, .bool false, .string c.berth] 88)).heap.size = wr.heap.size + 1) := by unfold Hid; rw [size_alloc', hsz]
              have cbxS : Hid _ := heap_alloc_new (wr.setCell ⟨(w.heap.size + 1 + 1), 0, none⟩ (.int .i64 (n.live + 1))) (.cells #[.string c.service, .int .i64 c.number, .int .i64 c.version, .int .i64 c.image, .int .i64 c.state, .bool false, .string c.berth] 88)
              rw [hsz] at cbxS
              have svS := (((hsx.below hb hbsS).blk (w' := (wr.setCell ⟨(w.heap.size + 1 + 1), 0, none⟩ (.int .i64 (n.live + 1)))) (blk_ne (b := (w.heap.size + 1 + 1)) (rfl) 0 (.int .i64 (n.live + 1)) (by omega))).below hwS (by rw [hsz]; omega))
              obtain ⟨z0, z1, z2, z3, z4, z5, z6, z7, z8, z9, z10, z11, z12⟩ := svS.grown
              clear z0 z1 z2 z4 z5 z6 z7 z8 z9 z10 z11 z12 svS hsz
              have gc3 := gcell cbxS.out 3 rfl
              have gb1 := gcell boxS.out 1 rfl
              go_wp2
              refine wp_region_quiet_below (by kernel_rfl) (by kernel_rfl) ?_
              repeat (first | go_big_quiet_step (fail) | quiet_step (fail))
              refine wpQuiet_nil ?_
              intro w2 hw'
              obtain ⟨⟨dq, osq⟩, hw''⟩ := hw'
              have hb2 := below_of_grow hw''
              clear hw''
              rw [HSZ.out] at hb2
              have out2 : Hid _ := below_blk hb2 outS.out (by omega)
              have box2 : Hid _ := below_blk hb2 boxS.out (by omega)
              have res2 : Hid _ := below_blk hb2 resS.out (by omega)
              have hbF := hbS.trans (hb2.mono (by omega))
              clear gc3 gb1 z3 x0 x1 x2 x3 x4 x5 x6 o0 o1 o2 o3 o4 f0 f1 f2 f3 f4
              have q2 := blk_cell out2.out 2 rfl
              have qf := blk_frozen out2.out 2
              go_wp2
              go_roundw
              case rel => exact ⟨k + 1, ⟨n.live + 1, n.ready, n.old, n.failed, n.ending⟩, by omega, by go_num, hbF, box2, res2, out2, HC⟩
              case measure => simp [intOf]; omega
            · have HC : Hid ((⟨n.live + 1, n.ready, n.old + 1, n.failed, n.ending⟩ : Cnt) = cntTo s.image sv B.cps (k + 1)) := by unfold Hid; rw [HST.out]; simp [cntOne, cntAdd, addB, hsame, hend, hst3, hst4, himg]
              have hwS := below_box (wr.setCell ⟨(w.heap.size + 1 + 1), 0, none⟩ (.int .i64 (n.live + 1))) (.cells #[.string c.service, .int .i64 c.number, .int .i64 c.version, .int .i64 c.image, .int .i64 c.state, .bool false, .string c.berth] 88)
              have hsz : (wr.setCell ⟨(w.heap.size + 1 + 1), 0, none⟩ (.int .i64 (n.live + 1))).heap.size = wr.heap.size := by simp only [size_setCell]
              have outS : Hid _ := below_blk hwS (blk_set (hout.out) 0 (.int .i64 (n.live + 1))) (by rw [hsz]; omega)
              have boxS : Hid _ := below_blk hwS (blk_ne (b := (w.heap.size + 1 + 1)) (hbox.out) 0 (.int .i64 (n.live + 1)) (by omega)) (by rw [hsz]; omega)
              have resS : Hid _ := below_blk hwS (blk_ne (b := (w.heap.size + 1 + 1)) (hres.out) 0 (.int .i64 (n.live + 1)) (by omega)) (by rw [hsz]; omega)
              have hbS := ((hb.setCell (p := ⟨(w.heap.size + 1 + 1), 0, none⟩) (by show _ ≤ (w.heap.size + 1 + 1); omega) (.int .i64 (n.live + 1)))).alloc (by rw [hsz]; exact hb.size) (.cells #[.string c.service, .int .i64 c.number, .int .i64 c.version, .int .i64 c.image, .int .i64 c.state, .bool false, .string c.berth] 88)
              have HSZ : Hid (((wr.setCell ⟨(w.heap.size + 1 + 1), 0, none⟩ (.int .i64 (n.live + 1))).alloc (.cells #[.string c.service, .int .i64 c.number, .int .i64 c.version, .int .i64 c.image, .int .i64 c.state, .bool false, .string c.berth] 88)).heap.size = wr.heap.size + 1) := by unfold Hid; rw [size_alloc', hsz]
              have cbxS : Hid _ := heap_alloc_new (wr.setCell ⟨(w.heap.size + 1 + 1), 0, none⟩ (.int .i64 (n.live + 1))) (.cells #[.string c.service, .int .i64 c.number, .int .i64 c.version, .int .i64 c.image, .int .i64 c.state, .bool false, .string c.berth] 88)
              rw [hsz] at cbxS
              have svS := (((hsx.below hb hbsS).blk (w' := (wr.setCell ⟨(w.heap.size + 1 + 1), 0, none⟩ (.int .i64 (n.live + 1)))) (blk_ne (b := (w.heap.size + 1 + 1)) (rfl) 0 (.int .i64 (n.live + 1)) (by omega))).below hwS (by rw [hsz]; omega))
              obtain ⟨z0, z1, z2, z3, z4, z5, z6, z7, z8, z9, z10, z11, z12⟩ := svS.grown
              clear z0 z1 z2 z4 z5 z6 z7 z8 z9 z10 z11 z12 svS hsz
              have gc3 := gcell cbxS.out 3 rfl
              have gb1 := gcell boxS.out 1 rfl
              go_wp2
              refine wp_region_quiet_below (by kernel_rfl) (by kernel_rfl) ?_
              repeat (first | go_big_quiet_step (fail) | quiet_step (fail))
              refine wpQuiet_nil ?_
              intro w2 hw'
              obtain ⟨⟨dq, osq⟩, hw''⟩ := hw'
              have hb2 := below_of_grow hw''
              clear hw''
              rw [HSZ.out] at hb2
              have out2 : Hid _ := below_blk hb2 outS.out (by omega)
              have box2 : Hid _ := below_blk hb2 boxS.out (by omega)
              have res2 : Hid _ := below_blk hb2 resS.out (by omega)
              have hbF := hbS.trans (hb2.mono (by omega))
              clear gc3 gb1 z3 x0 x1 x2 x3 x4 x5 x6 o0 o1 o2 o3 o4 f0 f1 f2 f3 f4
              have q2 := blk_cell out2.out 2 rfl
              have qf := blk_frozen out2.out 2
              have outF : Hid _ := blk_set out2.out 2 (.int .i64 (n.old + 1))
              go_wp2
              go_roundw
              case rel => exact ⟨k + 1, ⟨n.live + 1, n.ready, n.old + 1, n.failed, n.ending⟩, by omega, by go_num, hbF.setCell (by simp; omega) _, blk_ne box2.out _ _ (by omega), blk_ne res2.out _ _ (by omega), outF, HC⟩
              case measure => simp [intOf]; omega
          · cases himg : (c.image != s.image)
            · have HC : Hid ((⟨n.live + 1, n.ready, n.old, n.failed + 1, n.ending⟩ : Cnt) = cntTo s.image sv B.cps (k + 1)) := by unfold Hid; rw [HST.out]; simp [cntOne, cntAdd, addB, hsame, hend, hst3, hst4, himg]
              have hwS := below_box ((wr.setCell ⟨(w.heap.size + 1 + 1), 0, none⟩ (.int .i64 (n.live + 1))).setCell ⟨(w.heap.size + 1 + 1), 3, none⟩ (.int .i64 (n.failed + 1))) (.cells #[.string c.service, .int .i64 c.number, .int .i64 c.version, .int .i64 c.image, .int .i64 c.state, .bool false, .string c.berth] 88)
              have hsz : ((wr.setCell ⟨(w.heap.size + 1 + 1), 0, none⟩ (.int .i64 (n.live + 1))).setCell ⟨(w.heap.size + 1 + 1), 3, none⟩ (.int .i64 (n.failed + 1))).heap.size = wr.heap.size := by simp only [size_setCell]
              have outS : Hid _ := below_blk hwS (blk_set (blk_set (hout.out) 0 (.int .i64 (n.live + 1))) 3 (.int .i64 (n.failed + 1))) (by rw [hsz]; omega)
              have boxS : Hid _ := below_blk hwS (blk_ne (b := (w.heap.size + 1 + 1)) (blk_ne (b := (w.heap.size + 1 + 1)) (hbox.out) 0 (.int .i64 (n.live + 1)) (by omega)) 3 (.int .i64 (n.failed + 1)) (by omega)) (by rw [hsz]; omega)
              have resS : Hid _ := below_blk hwS (blk_ne (b := (w.heap.size + 1 + 1)) (blk_ne (b := (w.heap.size + 1 + 1)) (hres.out) 0 (.int .i64 (n.live + 1)) (by omega)) 3 (.int .i64 (n.failed + 1)) (by omega)) (by rw [hsz]; omega)
              have hbS := (((hb.setCell (p := ⟨(w.heap.size + 1 + 1), 0, none⟩) (by show _ ≤ (w.heap.size + 1 + 1); omega) (.int .i64 (n.live + 1))).setCell (p := ⟨(w.heap.size + 1 + 1), 3, none⟩) (by show _ ≤ (w.heap.size + 1 + 1); omega) (.int .i64 (n.failed + 1)))).alloc (by rw [hsz]; exact hb.size) (.cells #[.string c.service, .int .i64 c.number, .int .i64 c.version, .int .i64 c.image, .int .i64 c.state, .bool false, .string c.berth] 88)
              have HSZ : Hid ((((wr.setCell ⟨(w.heap.size + 1 + 1), 0, none⟩ (.int .i64 (n.live + 1))).setCell ⟨(w.heap.size + 1 + 1), 3, none⟩ (.int .i64 (n.failed + 1))).alloc (.cells #[.string c.service, .int .i64 c.number, .int .i64 c.version, .int .i64 c.image, .int .i64 c.state, .bool false, .string c.berth] 88)).heap.size = wr.heap.size + 1) := by unfold Hid; rw [size_alloc', hsz]
              have cbxS : Hid _ := heap_alloc_new ((wr.setCell ⟨(w.heap.size + 1 + 1), 0, none⟩ (.int .i64 (n.live + 1))).setCell ⟨(w.heap.size + 1 + 1), 3, none⟩ (.int .i64 (n.failed + 1))) (.cells #[.string c.service, .int .i64 c.number, .int .i64 c.version, .int .i64 c.image, .int .i64 c.state, .bool false, .string c.berth] 88)
              rw [hsz] at cbxS
              have svS := (((hsx.below hb hbsS).blk (w' := ((wr.setCell ⟨(w.heap.size + 1 + 1), 0, none⟩ (.int .i64 (n.live + 1))).setCell ⟨(w.heap.size + 1 + 1), 3, none⟩ (.int .i64 (n.failed + 1)))) (blk_ne (b := (w.heap.size + 1 + 1)) (blk_ne (b := (w.heap.size + 1 + 1)) (rfl) 0 (.int .i64 (n.live + 1)) (by omega)) 3 (.int .i64 (n.failed + 1)) (by omega))).below hwS (by rw [hsz]; omega))
              obtain ⟨z0, z1, z2, z3, z4, z5, z6, z7, z8, z9, z10, z11, z12⟩ := svS.grown
              clear z0 z1 z2 z4 z5 z6 z7 z8 z9 z10 z11 z12 svS hsz
              have gc3 := gcell cbxS.out 3 rfl
              have gb1 := gcell boxS.out 1 rfl
              go_wp2
              refine wp_region_quiet_below (by kernel_rfl) (by kernel_rfl) ?_
              repeat (first | go_big_quiet_step (fail) | quiet_step (fail))
              refine wpQuiet_nil ?_
              intro w2 hw'
              obtain ⟨⟨dq, osq⟩, hw''⟩ := hw'
              have hb2 := below_of_grow hw''
              clear hw''
              rw [HSZ.out] at hb2
              have out2 : Hid _ := below_blk hb2 outS.out (by omega)
              have box2 : Hid _ := below_blk hb2 boxS.out (by omega)
              have res2 : Hid _ := below_blk hb2 resS.out (by omega)
              have hbF := hbS.trans (hb2.mono (by omega))
              clear gc3 gb1 z3 x0 x1 x2 x3 x4 x5 x6 o0 o1 o2 o3 o4 f0 f1 f2 f3 f4
              have q2 := blk_cell out2.out 2 rfl
              have qf := blk_frozen out2.out 2
              go_wp2
              go_roundw
              case rel => exact ⟨k + 1, ⟨n.live + 1, n.ready, n.old, n.failed + 1, n.ending⟩, by omega, by go_num, hbF, box2, res2, out2, HC⟩
              case measure => simp [intOf]; omega
            · have HC : Hid ((⟨n.live + 1, n.ready, n.old + 1, n.failed + 1, n.ending⟩ : Cnt) = cntTo s.image sv B.cps (k + 1)) := by unfold Hid; rw [HST.out]; simp [cntOne, cntAdd, addB, hsame, hend, hst3, hst4, himg]
              have hwS := below_box ((wr.setCell ⟨(w.heap.size + 1 + 1), 0, none⟩ (.int .i64 (n.live + 1))).setCell ⟨(w.heap.size + 1 + 1), 3, none⟩ (.int .i64 (n.failed + 1))) (.cells #[.string c.service, .int .i64 c.number, .int .i64 c.version, .int .i64 c.image, .int .i64 c.state, .bool false, .string c.berth] 88)
              have hsz : ((wr.setCell ⟨(w.heap.size + 1 + 1), 0, none⟩ (.int .i64 (n.live + 1))).setCell ⟨(w.heap.size + 1 + 1), 3, none⟩ (.int .i64 (n.failed + 1))).heap.size = wr.heap.size := by simp only [size_setCell]
              have outS : Hid _ := below_blk hwS (blk_set (blk_set (hout.out) 0 (.int .i64 (n.live + 1))) 3 (.int .i64 (n.failed + 1))) (by rw [hsz]; omega)
              have boxS : Hid _ := below_blk hwS (blk_ne (b := (w.heap.size + 1 + 1)) (blk_ne (b := (w.heap.size + 1 + 1)) (hbox.out) 0 (.int .i64 (n.live + 1)) (by omega)) 3 (.int .i64 (n.failed + 1)) (by omega)) (by rw [hsz]; omega)
              have resS : Hid _ := below_blk hwS (blk_ne (b := (w.heap.size + 1 + 1)) (blk_ne (b := (w.heap.size + 1 + 1)) (hres.out) 0 (.int .i64 (n.live + 1)) (by omega)) 3 (.int .i64 (n.failed + 1)) (by omega)) (by rw [hsz]; omega)
              have hbS := (((hb.setCell (p := ⟨(w.heap.size + 1 + 1), 0, none⟩) (by show _ ≤ (w.heap.size + 1 + 1); omega) (.int .i64 (n.live + 1))).setCell (p := ⟨(w.heap.size + 1 + 1), 3, none⟩) (by show _ ≤ (w.heap.size + 1 + 1); omega) (.int .i64 (n.failed + 1)))).alloc (by rw [hsz]; exact hb.size) (.cells #[.string c.service, .int .i64 c.number, .int .i64 c.version, .int .i64 c.image, .int .i64 c.state, .bool false, .string c.berth] 88)
              have HSZ : Hid ((((wr.setCell ⟨(w.heap.size + 1 + 1), 0, none⟩ (.int .i64 (n.live + 1))).setCell ⟨(w.heap.size + 1 + 1), 3, none⟩ (.int .i64 (n.failed + 1))).alloc (.cells #[.string c.service, .int .i64 c.number, .int .i64 c.version, .int .i64 c.image, .int .i64 c.state, .bool false, .string c.berth] 88)).heap.size = wr.heap.size + 1) := by unfold Hid; rw [size_alloc', hsz]
              have cbxS : Hid _ := heap_alloc_new ((wr.setCell ⟨(w.heap.size + 1 + 1), 0, none⟩ (.int .i64 (n.live + 1))).setCell ⟨(w.heap.size + 1 + 1), 3, none⟩ (.int .i64 (n.failed + 1))) (.cells #[.string c.service, .int .i64 c.number, .int .i64 c.version, .int .i64 c.image, .int .i64 c.state, .bool false, .string c.berth] 88)
              rw [hsz] at cbxS
              have svS := (((hsx.below hb hbsS).blk (w' := ((wr.setCell ⟨(w.heap.size + 1 + 1), 0, none⟩ (.int .i64 (n.live + 1))).setCell ⟨(w.heap.size + 1 + 1), 3, none⟩ (.int .i64 (n.failed + 1)))) (blk_ne (b := (w.heap.size + 1 + 1)) (blk_ne (b := (w.heap.size + 1 + 1)) (rfl) 0 (.int .i64 (n.live + 1)) (by omega)) 3 (.int .i64 (n.failed + 1)) (by omega))).below hwS (by rw [hsz]; omega))
              obtain ⟨z0, z1, z2, z3, z4, z5, z6, z7, z8, z9, z10, z11, z12⟩ := svS.grown
              clear z0 z1 z2 z4 z5 z6 z7 z8 z9 z10 z11 z12 svS hsz
              have gc3 := gcell cbxS.out 3 rfl
              have gb1 := gcell boxS.out 1 rfl
              go_wp2
              refine wp_region_quiet_below (by kernel_rfl) (by kernel_rfl) ?_
              repeat (first | go_big_quiet_step (fail) | quiet_step (fail))
              refine wpQuiet_nil ?_
              intro w2 hw'
              obtain ⟨⟨dq, osq⟩, hw''⟩ := hw'
              have hb2 := below_of_grow hw''
              clear hw''
              rw [HSZ.out] at hb2
              have out2 : Hid _ := below_blk hb2 outS.out (by omega)
              have box2 : Hid _ := below_blk hb2 boxS.out (by omega)
              have res2 : Hid _ := below_blk hb2 resS.out (by omega)
              have hbF := hbS.trans (hb2.mono (by omega))
              clear gc3 gb1 z3 x0 x1 x2 x3 x4 x5 x6 o0 o1 o2 o3 o4 f0 f1 f2 f3 f4
              have q2 := blk_cell out2.out 2 rfl
              have qf := blk_frozen out2.out 2
              have outF : Hid _ := blk_set out2.out 2 (.int .i64 (n.old + 1))
              go_wp2
              go_roundw
              case rel => exact ⟨k + 1, ⟨n.live + 1, n.ready, n.old + 1, n.failed + 1, n.ending⟩, by omega, by go_num, hbF.setCell (by simp; omega) _, blk_ne box2.out _ _ (by omega), blk_ne res2.out _ _ (by omega), outF, HC⟩
              case measure => simp [intOf]; omega
        · have hst4 : (c.state == 4) = false := by have h := eq_of_beq hst3; rw [h]; rfl
          cases himg : (c.image != s.image)
          · have HC : Hid ((⟨n.live + 1, n.ready + 1, n.old, n.failed, n.ending⟩ : Cnt) = cntTo s.image sv B.cps (k + 1)) := by unfold Hid; rw [HST.out]; simp [cntOne, cntAdd, addB, hsame, hend, hst3, hst4, himg]
            have hwS := below_box ((wr.setCell ⟨(w.heap.size + 1 + 1), 0, none⟩ (.int .i64 (n.live + 1))).setCell ⟨(w.heap.size + 1 + 1), 1, none⟩ (.int .i64 (n.ready + 1))) (.cells #[.string c.service, .int .i64 c.number, .int .i64 c.version, .int .i64 c.image, .int .i64 c.state, .bool false, .string c.berth] 88)
            have hsz : ((wr.setCell ⟨(w.heap.size + 1 + 1), 0, none⟩ (.int .i64 (n.live + 1))).setCell ⟨(w.heap.size + 1 + 1), 1, none⟩ (.int .i64 (n.ready + 1))).heap.size = wr.heap.size := by simp only [size_setCell]
            have outS : Hid _ := below_blk hwS (blk_set (blk_set (hout.out) 0 (.int .i64 (n.live + 1))) 1 (.int .i64 (n.ready + 1))) (by rw [hsz]; omega)
            have boxS : Hid _ := below_blk hwS (blk_ne (b := (w.heap.size + 1 + 1)) (blk_ne (b := (w.heap.size + 1 + 1)) (hbox.out) 0 (.int .i64 (n.live + 1)) (by omega)) 1 (.int .i64 (n.ready + 1)) (by omega)) (by rw [hsz]; omega)
            have resS : Hid _ := below_blk hwS (blk_ne (b := (w.heap.size + 1 + 1)) (blk_ne (b := (w.heap.size + 1 + 1)) (hres.out) 0 (.int .i64 (n.live + 1)) (by omega)) 1 (.int .i64 (n.ready + 1)) (by omega)) (by rw [hsz]; omega)
            have hbS := (((hb.setCell (p := ⟨(w.heap.size + 1 + 1), 0, none⟩) (by show _ ≤ (w.heap.size + 1 + 1); omega) (.int .i64 (n.live + 1))).setCell (p := ⟨(w.heap.size + 1 + 1), 1, none⟩) (by show _ ≤ (w.heap.size + 1 + 1); omega) (.int .i64 (n.ready + 1)))).alloc (by rw [hsz]; exact hb.size) (.cells #[.string c.service, .int .i64 c.number, .int .i64 c.version, .int .i64 c.image, .int .i64 c.state, .bool false, .string c.berth] 88)
            have HSZ : Hid ((((wr.setCell ⟨(w.heap.size + 1 + 1), 0, none⟩ (.int .i64 (n.live + 1))).setCell ⟨(w.heap.size + 1 + 1), 1, none⟩ (.int .i64 (n.ready + 1))).alloc (.cells #[.string c.service, .int .i64 c.number, .int .i64 c.version, .int .i64 c.image, .int .i64 c.state, .bool false, .string c.berth] 88)).heap.size = wr.heap.size + 1) := by unfold Hid; rw [size_alloc', hsz]
            have cbxS : Hid _ := heap_alloc_new ((wr.setCell ⟨(w.heap.size + 1 + 1), 0, none⟩ (.int .i64 (n.live + 1))).setCell ⟨(w.heap.size + 1 + 1), 1, none⟩ (.int .i64 (n.ready + 1))) (.cells #[.string c.service, .int .i64 c.number, .int .i64 c.version, .int .i64 c.image, .int .i64 c.state, .bool false, .string c.berth] 88)
            rw [hsz] at cbxS
            have svS := (((hsx.below hb hbsS).blk (w' := ((wr.setCell ⟨(w.heap.size + 1 + 1), 0, none⟩ (.int .i64 (n.live + 1))).setCell ⟨(w.heap.size + 1 + 1), 1, none⟩ (.int .i64 (n.ready + 1)))) (blk_ne (b := (w.heap.size + 1 + 1)) (blk_ne (b := (w.heap.size + 1 + 1)) (rfl) 0 (.int .i64 (n.live + 1)) (by omega)) 1 (.int .i64 (n.ready + 1)) (by omega))).below hwS (by rw [hsz]; omega))
            obtain ⟨z0, z1, z2, z3, z4, z5, z6, z7, z8, z9, z10, z11, z12⟩ := svS.grown
            clear z0 z1 z2 z4 z5 z6 z7 z8 z9 z10 z11 z12 svS hsz
            have gc3 := gcell cbxS.out 3 rfl
            have gb1 := gcell boxS.out 1 rfl
            go_wp2
            refine wp_region_quiet_below (by kernel_rfl) (by kernel_rfl) ?_
            repeat (first | go_big_quiet_step (fail) | quiet_step (fail))
            refine wpQuiet_nil ?_
            intro w2 hw'
            obtain ⟨⟨dq, osq⟩, hw''⟩ := hw'
            have hb2 := below_of_grow hw''
            clear hw''
            rw [HSZ.out] at hb2
            have out2 : Hid _ := below_blk hb2 outS.out (by omega)
            have box2 : Hid _ := below_blk hb2 boxS.out (by omega)
            have res2 : Hid _ := below_blk hb2 resS.out (by omega)
            have hbF := hbS.trans (hb2.mono (by omega))
            clear gc3 gb1 z3 x0 x1 x2 x3 x4 x5 x6 o0 o1 o2 o3 o4 f0 f1 f2 f3 f4
            have q2 := blk_cell out2.out 2 rfl
            have qf := blk_frozen out2.out 2
            go_wp2
            go_roundw
            case rel => exact ⟨k + 1, ⟨n.live + 1, n.ready + 1, n.old, n.failed, n.ending⟩, by omega, by go_num, hbF, box2, res2, out2, HC⟩
            case measure => simp [intOf]; omega
          · have HC : Hid ((⟨n.live + 1, n.ready + 1, n.old + 1, n.failed, n.ending⟩ : Cnt) = cntTo s.image sv B.cps (k + 1)) := by unfold Hid; rw [HST.out]; simp [cntOne, cntAdd, addB, hsame, hend, hst3, hst4, himg]
            have hwS := below_box ((wr.setCell ⟨(w.heap.size + 1 + 1), 0, none⟩ (.int .i64 (n.live + 1))).setCell ⟨(w.heap.size + 1 + 1), 1, none⟩ (.int .i64 (n.ready + 1))) (.cells #[.string c.service, .int .i64 c.number, .int .i64 c.version, .int .i64 c.image, .int .i64 c.state, .bool false, .string c.berth] 88)
            have hsz : ((wr.setCell ⟨(w.heap.size + 1 + 1), 0, none⟩ (.int .i64 (n.live + 1))).setCell ⟨(w.heap.size + 1 + 1), 1, none⟩ (.int .i64 (n.ready + 1))).heap.size = wr.heap.size := by simp only [size_setCell]
            have outS : Hid _ := below_blk hwS (blk_set (blk_set (hout.out) 0 (.int .i64 (n.live + 1))) 1 (.int .i64 (n.ready + 1))) (by rw [hsz]; omega)
            have boxS : Hid _ := below_blk hwS (blk_ne (b := (w.heap.size + 1 + 1)) (blk_ne (b := (w.heap.size + 1 + 1)) (hbox.out) 0 (.int .i64 (n.live + 1)) (by omega)) 1 (.int .i64 (n.ready + 1)) (by omega)) (by rw [hsz]; omega)
            have resS : Hid _ := below_blk hwS (blk_ne (b := (w.heap.size + 1 + 1)) (blk_ne (b := (w.heap.size + 1 + 1)) (hres.out) 0 (.int .i64 (n.live + 1)) (by omega)) 1 (.int .i64 (n.ready + 1)) (by omega)) (by rw [hsz]; omega)
            have hbS := (((hb.setCell (p := ⟨(w.heap.size + 1 + 1), 0, none⟩) (by show _ ≤ (w.heap.size + 1 + 1); omega) (.int .i64 (n.live + 1))).setCell (p := ⟨(w.heap.size + 1 + 1), 1, none⟩) (by show _ ≤ (w.heap.size + 1 + 1); omega) (.int .i64 (n.ready + 1)))).alloc (by rw [hsz]; exact hb.size) (.cells #[.string c.service, .int .i64 c.number, .int .i64 c.version, .int .i64 c.image, .int .i64 c.state, .bool false, .string c.berth] 88)
            have HSZ : Hid ((((wr.setCell ⟨(w.heap.size + 1 + 1), 0, none⟩ (.int .i64 (n.live + 1))).setCell ⟨(w.heap.size + 1 + 1), 1, none⟩ (.int .i64 (n.ready + 1))).alloc (.cells #[.string c.service, .int .i64 c.number, .int .i64 c.version, .int .i64 c.image, .int .i64 c.state, .bool false, .string c.berth] 88)).heap.size = wr.heap.size + 1) := by unfold Hid; rw [size_alloc', hsz]
            have cbxS : Hid _ := heap_alloc_new ((wr.setCell ⟨(w.heap.size + 1 + 1), 0, none⟩ (.int .i64 (n.live + 1))).setCell ⟨(w.heap.size + 1 + 1), 1, none⟩ (.int .i64 (n.ready + 1))) (.cells #[.string c.service, .int .i64 c.number, .int .i64 c.version, .int .i64 c.image, .int .i64 c.state, .bool false, .string c.berth] 88)
            rw [hsz] at cbxS
            have svS := (((hsx.below hb hbsS).blk (w' := ((wr.setCell ⟨(w.heap.size + 1 + 1), 0, none⟩ (.int .i64 (n.live + 1))).setCell ⟨(w.heap.size + 1 + 1), 1, none⟩ (.int .i64 (n.ready + 1)))) (blk_ne (b := (w.heap.size + 1 + 1)) (blk_ne (b := (w.heap.size + 1 + 1)) (rfl) 0 (.int .i64 (n.live + 1)) (by omega)) 1 (.int .i64 (n.ready + 1)) (by omega))).below hwS (by rw [hsz]; omega))
            obtain ⟨z0, z1, z2, z3, z4, z5, z6, z7, z8, z9, z10, z11, z12⟩ := svS.grown
            clear z0 z1 z2 z4 z5 z6 z7 z8 z9 z10 z11 z12 svS hsz
            have gc3 := gcell cbxS.out 3 rfl
            have gb1 := gcell boxS.out 1 rfl
            go_wp2
            refine wp_region_quiet_below (by kernel_rfl) (by kernel_rfl) ?_
            repeat (first | go_big_quiet_step (fail) | quiet_step (fail))
            refine wpQuiet_nil ?_
            intro w2 hw'
            obtain ⟨⟨dq, osq⟩, hw''⟩ := hw'
            have hb2 := below_of_grow hw''
            clear hw''
            rw [HSZ.out] at hb2
            have out2 : Hid _ := below_blk hb2 outS.out (by omega)
            have box2 : Hid _ := below_blk hb2 boxS.out (by omega)
            have res2 : Hid _ := below_blk hb2 resS.out (by omega)
            have hbF := hbS.trans (hb2.mono (by omega))
            clear gc3 gb1 z3 x0 x1 x2 x3 x4 x5 x6 o0 o1 o2 o3 o4 f0 f1 f2 f3 f4
            have q2 := blk_cell out2.out 2 rfl
            have qf := blk_frozen out2.out 2
            have outF : Hid _ := blk_set out2.out 2 (.int .i64 (n.old + 1))
            go_wp2
            go_roundw
            case rel => exact ⟨k + 1, ⟨n.live + 1, n.ready + 1, n.old + 1, n.failed, n.ending⟩, by omega, by go_num, hbF.setCell (by simp; omega) _, blk_ne box2.out _ _ (by omega), blk_ne res2.out _ _ (by omega), outF, HC⟩
            case measure => simp [intOf]; omega
      · have HC : Hid ({ n with ending := n.ending + 1 } = cntTo s.image sv B.cps (k + 1)) := by unfold Hid; rw [HST.out]; simp [cntOne, cntAdd, hsame, hend]
        have hwS := below_box (wr.setCell ⟨(w.heap.size + 1 + 1), 4, none⟩ (.int .i64 (n.ending + 1))) (.cells #[.string c.service, .int .i64 c.number, .int .i64 c.version, .int .i64 c.image, .int .i64 c.state, .bool true, .string c.berth] 88)
        have hsz : (wr.setCell ⟨(w.heap.size + 1 + 1), 4, none⟩ (.int .i64 (n.ending + 1))).heap.size = wr.heap.size := by simp only [size_setCell]
        have outS : Hid _ := below_blk hwS (blk_set (hout.out) 4 (.int .i64 (n.ending + 1))) (by rw [hsz]; omega)
        have boxS : Hid _ := below_blk hwS (blk_ne (b := (w.heap.size + 1 + 1)) (hbox.out) 4 (.int .i64 (n.ending + 1)) (by omega)) (by rw [hsz]; omega)
        have resS : Hid _ := below_blk hwS (blk_ne (b := (w.heap.size + 1 + 1)) (hres.out) 4 (.int .i64 (n.ending + 1)) (by omega)) (by rw [hsz]; omega)
        have hbS := ((hb.setCell (p := ⟨(w.heap.size + 1 + 1), 4, none⟩) (by show _ ≤ (w.heap.size + 1 + 1); omega) (.int .i64 (n.ending + 1)))).alloc (by rw [hsz]; exact hb.size) (.cells #[.string c.service, .int .i64 c.number, .int .i64 c.version, .int .i64 c.image, .int .i64 c.state, .bool true, .string c.berth] 88)
        have HSZ : Hid (((wr.setCell ⟨(w.heap.size + 1 + 1), 4, none⟩ (.int .i64 (n.ending + 1))).alloc (.cells #[.string c.service, .int .i64 c.number, .int .i64 c.version, .int .i64 c.image, .int .i64 c.state, .bool true, .string c.berth] 88)).heap.size = wr.heap.size + 1) := by unfold Hid; rw [size_alloc', hsz]
        go_wp2
        go_roundw
        case rel => exact ⟨k + 1, { n with ending := n.ending + 1 }, by omega, by go_num, hbS, boxS, resS, outS, HC⟩
        case measure => simp [intOf]; omega
    · have hkl : k = B.cps.length := by omega
      have HNN : Hid (N = n) := by unfold Hid; rw [hN.out, HN.out, hkl]
      have p0 := blk_cell hres.out 0 rfl
      have p1 := blk_cell hres.out 1 rfl
      have p2 := blk_cell hres.out 2 rfl
      have p3 := blk_cell hres.out 3 rfl
      have p4 := blk_cell hres.out 4 rfl
      have g0 := blk_frozen hres.out 0
      have g1 := blk_frozen hres.out 1
      have g2 := blk_frozen hres.out 2
      have g3 := blk_frozen hres.out 3
      have g4 := blk_frozen hres.out 4
      clear hkl
      go_wp2
      refine bodyPost_ret (v := .agg #[.int .i64 n.live, .int .i64 n.ready, .int .i64 n.old, .int .i64 n.failed, .int .i64 n.ending]) (by simp [results, Tryz.results58, go_sem, p0, p1, p2, p3, p4]) rfl ⟨by rw [HNN.out], ?_⟩
      exact ((((hb.setCell (by simp) _).setCell (by simp) _).setCell (by simp) _).setCell (by simp) _).setCell (by simp) _

end Go.Proofs.YtnaaebffajdogabGreat

/-
  My own. spec.l2Count, whatever the service.
-/
namespace Go.Proofs.YtnaaebffajdogabGreat
open Go.RowKit Go.Sort

theorem l2Count_any (B : Bk) (sv : ByteArray) (a1 a2 a3 : Option Addr) (c1 c2 c3 : Nat) (w : World) (hS : B.small) (hB : BkAt w a1 a2 a3 B) (N : Cnt) (hN : Hid (N = cntB B sv)) :
    Calls Tryz.prog 58 #[.agg #[.int .i64 B.now, .slice a1 B.svcs.length c1, .slice a2 B.cps.length c2, .slice a3 B.bts.length c3], .string sv] w fun e w' => e = .returned (.agg #[.int .i64 N.live, .int .i64 N.ready, .int .i64 N.old, .int .i64 N.failed, .int .i64 N.ending]) ∧ Below w.heap.size w w' := by
  cases hf : svcOf B sv with
  | none =>
    have e : N = Cnt.none := by rw [hN.out]; unfold cntB; rw [hf]
    subst e
    exact l2Count_none B sv a1 a2 a3 c1 c2 c3 w hS hB hf
  | some s => exact l2Count_some B sv s a1 a2 a3 c1 c2 c3 w hS hB hf N (by unfold Hid; rw [hN.out]; unfold cntB; rw [hf])

theorem run_field_count (a b c d e : Int) (w : World) : (Instr.field 95 (.agg #[.int .i64 a, .int .i64 b, .int .i64 c, .int .i64 d, .int .i64 e]) 1).run Tryz.prog w = .ok (.int .i64 b) w := by
  kernel_rfl
theorem run_field_count0 (a b c d e : Int) (w : World) : (Instr.field 95 (.agg #[.int .i64 a, .int .i64 b, .int .i64 c, .int .i64 d, .int .i64 e]) 0).run Tryz.prog w = .ok (.int .i64 a) w := by
  kernel_rfl

end Go.Proofs.YtnaaebffajdogabGreat

/-
  My own. The walk over a service's copies: an iterator.
-/
namespace Go.Proofs.YtnaaebffajdogabGreat
open Go.RowKit Go.Shelf

attribute [local go_sem] Oper.semAt_some

set_option maxHeartbeats 1000000 in
theorem copiesIn_in (F : Fence) (n : Nat) (h : F.fn 108) (hro : F.round = none) (B : Bk) (nm : ByteArray) (a1 a2 a3 : Option Addr) (c1 c2 c3 : Nat) (w : World) :
    CallsIn F n Tryz.prog 108 #[.agg #[.int .i64 B.now, .slice a1 B.svcs.length c1, .slice a2 B.cps.length c2, .slice a3 B.bts.length c3], .string nm] w fun e w' => e = .returned (.func (.func 135) #[] #[.pointer (some ⟨w.heap.size, 0, none⟩), .pointer (some ⟨w.heap.size + 1, 0, none⟩)]) ∧ w' = (w.alloc (.cells #[.int .i64 B.now, .slice a1 B.svcs.length c1, .slice a2 B.cps.length c2, .slice a3 B.bts.length c3] 34)).alloc (.cells #[.string nm] 9) := by
  refine callsIn_of_wp Tryz.func108 rfl h ?_ hro
  simp only [Tryz.ntmps108, List.size_toArray, List.length_cons, List.length_nil, Nat.reduceAdd, Nat.reduceSub, Array.replicate_succ, Array.replicate_zero, List.push_toArray, List.append_toArray, List.nil_append, List.cons_append]
  gi_wp2
  go_ret
  exact ⟨rfl, rfl⟩

def ofS (nm : ByteArray) (l : List Cp) : List Cp := l.filter fun c => c.service.toList == nm.toList
theorem ofS_succ (nm : ByteArray) (l : List Cp) (k : Nat) (c : Cp) (h : l[k]? = some c) : ofS nm (l.take (k + 1)) = ofS nm (l.take k) ++ (if c.service.toList == nm.toList then [c] else []) := by
  obtain ⟨hk, e⟩ := List.getElem?_eq_some_iff.1 h
  unfold ofS
  rw [List.take_succ_eq_append_getElem hk, List.filter_append, e]
  by_cases hc : (c.service.toList == nm.toList) = true
  · simp [List.filter, hc]
  · simp [List.filter, hc]
theorem ofS_le (nm : ByteArray) (l : List Cp) (k : Nat) (c : Cp) (h : l[k]? = some c) (hc : (c.service.toList == nm.toList) = true) : (ofS nm (l.take k)).length < (ofS nm l).length := by
  have h1 := ofS_succ nm l k c h
  rw [if_pos hc] at h1
  have h2 : (ofS nm (l.take (k + 1))).length ≤ (ofS nm l).length := by
    unfold ofS
    exact ((List.take_sublist (k + 1) l).filter _).length_le
  rw [h1] at h2
  simp at h2
  omega

/-- What a round keeps: all below n₀, and the block Bt. -/
def KpB (n₀ Bt : Nat) (W W' : World) : Prop := Below n₀ W W' ∧ W'.heap[Bt]? = W.heap[Bt]?

set_option maxRecDepth 100000 in
set_option maxHeartbeats 2000000 in
theorem copies1_in (F : Fence) (n : Nat) (h : F.fn 135) (hro : F.round = none) (hn : 1 ≤ n) (l Bb Bt n₀ : Nat) (B : Bk) (nm : ByteArray) (a1 a2 a3 : Option Addr) (c1 c2 c3 : Nat) (hl2 : B.cps.length ≤ 1048576) (J Jx : List Cp → World → Prop)
    (hY : ∀ pre x W, J pre W → pre.length < (ofS nm B.cps).length → YieldAt F (n - 1) Tryz.prog l #[.agg #[.string x.service, .int .i64 x.number, .int .i64 x.version, .int .i64 x.image, .int .i64 x.state, .bool x.ending, .string x.berth]] W fun e W' =>
      (e = .returned (.bool true) ∧ J (pre ++ [x]) W' ∧ KpB n₀ Bt W W') ∨ (e = .returned (.bool false) ∧ Jx (pre ++ [x]) W'))
    (W : World) (hJa : AbidesFrom W.heap.size J) (hBb : W.heap[Bb]? = some (.cells #[.int .i64 B.now, .slice a1 B.svcs.length c1, .slice a2 B.cps.length c2, .slice a3 B.bts.length c3] 34 (0, 0)))
    (hBt : W.heap[Bt]? = some (.cells #[.string nm] 9 (0, 0))) (hC : B.cps ≠ [] → ∃ b off, a2 = some ⟨b, off, none⟩ ∧ b < n₀ ∧ CpsAt W b off B.cps) (hn0 : n₀ ≤ W.heap.size) (h0 : J [] W) :
    CallsIn F n Tryz.prog 135 #[.func (.yield l) #[] #[], .pointer (some ⟨Bb, 0, none⟩), .pointer (some ⟨Bt, 0, none⟩)] W fun e W' => (∃ v, e = .returned v) ∧
      ((∃ ys, ys = ofS nm B.cps ∧ J ys W') ∨ (∃ pre, True ∧ Jx pre W')) := by
  have hbl : Bt < W.heap.size := (Array.getElem?_eq_some_iff.1 hBt).1
  have HBt : Hid _ := hBt
  have e2 := blk_cell hBb 2 rfl
  clear hBt hBb
  refine callsIn_of_wp Tryz.func135 rfl h ?_ hro
  simp only [Tryz.ntmps135, List.size_toArray, List.length_cons, List.length_nil, Nat.reduceAdd, Nat.reduceSub, Array.replicate_succ, Array.replicate_zero, List.push_toArray, List.append_toArray, List.nil_append, List.cons_append]
  gi_wp2
  clear e2
  gi_loopw [9] (fun i wr => ∃ k : Nat, k ≤ B.cps.length ∧ i = .int .i64 k ∧ J (ofS nm (B.cps.take k)) wr ∧ Below n₀ W wr ∧ Hid (wr.heap[Bt]? = some (.cells #[.string nm] 9 (0, 0))))
    (fun i _ => B.cps.length - (intOf i).toNat)
  case atStart => exact ⟨0, Nat.zero_le _, rfl, h0, Below.refl _ _, HBt⟩
  case round =>
    obtain ⟨k, hk, rfl, hJs, hnx, hbt⟩ := hrel
    by_cases hlt : k < B.cps.length
    · have hne : B.cps ≠ [] := by intro h; rw [h] at hlt; simp at hlt
      obtain ⟨b, off, ea, hbs, hat⟩ := hC hne
      subst ea
      obtain ⟨c, hsk⟩ : ∃ c, B.cps[k]? = some c := ⟨B.cps[k], by simp [hlt]⟩
      have hcs := (hat k c hsk).below hnx hbs
      unfold CpAt at hcs
      obtain ⟨x0, x1, x2, x3, x4, x5, x6⟩ := hcs
      have hbt0 := blk_cell hbt.out 0 rfl
      have hblt : Bt < wr.heap.size := (Array.getElem?_eq_some_iff.1 hbt.out).1
      have HS : Hid _ := ofS_succ nm B.cps k c hsk
      have HLE : Hid _ := ofS_le nm B.cps k c hsk
      have hw1 := below_box wr (.cells #[.string c.service, .int .i64 c.number, .int .i64 c.version, .int .i64 c.image, .int .i64 c.state, .bool c.ending, .string c.berth] 88)
      have hnx1 := hnx.trans (hw1.mono (Nat.le_trans hn0 hnx.size))
      have hbt1 : Hid _ := below_blk hw1 hbt.out hblt
      have hJb : J (ofS nm (B.cps.take k)) (wr.alloc (.cells #[.string c.service, .int .i64 c.number, .int .i64 c.version, .int .i64 c.image, .int .i64 c.state, .bool c.ending, .string c.berth] 88)) := hJa _ _ _ none hJs (World.grownBy_alloc wr _ none) (fun r e => by cases e)
      cases hsame : (c.service.toList == nm.toList)
      · gi_wp2
        refine ⟨fun _ h => (by cases h), ?_⟩
        gi_wp2
        go_roundw
        case rel => exact ⟨k + 1, by omega, by go_num, by rw [HS.out, hsame]; simpa using hJb, hnx1, hbt1⟩
        case measure => simp [intOf]; omega
      · obtain ⟨fn, tmps, assign, body, hy, hR⟩ := hY _ c (wr.alloc (.cells #[.string c.service, .int .i64 c.number, .int .i64 c.version, .int .i64 c.image, .int .i64 c.state, .bool c.ending, .string c.berth] 88)) hJb (HLE.out hsame)
        gi_wp2
        refine hR.mono ?_
        rintro e W3 (⟨rfl, hJ3, hk3⟩ | ⟨rfl, hJx3⟩)
        · gi_wp2
          go_roundw
          case rel => exact ⟨k + 1, by omega, by go_num, by rw [HS.out, hsame]; exact hJ3, hnx1.trans hk3.1, hk3.2.trans hbt1.out⟩
          case measure => simp [intOf]; omega
        · gi_wp2
          refine bodyPost_ret (results_none rfl _ _ _) rfl ?_
          exact ⟨⟨_, rfl⟩, .inr ⟨_, trivial, hJx3⟩⟩
    · obtain rfl : k = B.cps.length := by omega
      gi_wp2
      go_end0
      exact ⟨⟨_, rfl⟩, .inl ⟨_, by rw [List.take_length], hJs⟩⟩

theorem copies_stops (F : Fence) (n : Nat) (h : F.fn 135) (hro : F.round = none) (hn : 1 ≤ n) (Bb Bt n₀ : Nat) (B : Bk) (nm : ByteArray) (a1 a2 a3 : Option Addr) (c1 c2 c3 : Nat) (hl2 : B.cps.length ≤ 1048576) (w : World)
    (hBb : w.heap[Bb]? = some (.cells #[.int .i64 B.now, .slice a1 B.svcs.length c1, .slice a2 B.cps.length c2, .slice a3 B.bts.length c3] 34 (0, 0)))
    (hBt : w.heap[Bt]? = some (.cells #[.string nm] 9 (0, 0))) (hC : B.cps ≠ [] → ∃ b off, a2 = some ⟨b, off, none⟩ ∧ b < n₀ ∧ CpsAt w b off B.cps) (hn0 : n₀ ≤ w.heap.size) :
    SeqStopsK F n Tryz.prog 135 #[.pointer (some ⟨Bb, 0, none⟩), .pointer (some ⟨Bt, 0, none⟩)] (fun x : Cp => #[.agg #[.string x.service, .int .i64 x.number, .int .i64 x.version, .int .i64 x.image, .int .i64 x.state, .bool x.ending, .string x.berth]]) (KpB n₀ Bt) (fun ys => ys = ofS nm B.cps) (fun _ => True) (ofS nm B.cps).length w := fun l J Jx W hW hJa _ hY h0 =>
  copies1_in F n h hro hn l Bb Bt n₀ B nm a1 a2 a3 c1 c2 c3 hl2 J Jx hY W hJa ((hW.block Bb (Array.getElem?_eq_some_iff.1 hBb).1).trans hBb) ((hW.block Bt (Array.getElem?_eq_some_iff.1 hBt).1).trans hBt)
    (fun hne => let ⟨b, off, e, hb, hat⟩ := hC hne; ⟨b, off, e, hb, fun i s hs => (hat i s hs).below hW (Nat.lt_of_lt_of_le hb hn0)⟩) (Nat.le_trans hn0 hW.size) h0

end Go.Proofs.YtnaaebffajdogabGreat
