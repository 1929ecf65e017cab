/-
  My own: Df, Yb, Yc, Yh, Di, Yk.
-/
import Derived.Test.YtbceafpodamnfabGreatA01
import Derived.Test.YtbceafpodamnfabGreatA02
import Derived.Test.YtbceafpodamnfabGreatA00
import Derived.Deep.DeepCutAuto
/-
  My own. Plain data: counting.
-/
namespace Go.Proofs.YtbceafpodamnfabGreat
open Go.RowKit

structure Cnt where
  live : Int
  ready : Int
  old : Int
  failed : Int
  ending : Int

def Cnt.none : Cnt := ⟨0, 0, 0, 0, 0⟩
def addB (b : Bool) (n : Int) : Int := if b then n + 1 else n
def cntAdd (img : Int) (c : Cp) (n : Cnt) : Cnt :=
  if c.ending then { n with ending := n.ending + 1 }
  else ⟨n.live + 1, addB (c.state == 3) n.ready, addB (c.image != img) n.old, addB (c.state == 4) n.failed, n.ending⟩
def cntOne (img : Int) (sv : ByteArray) (c : Cp) (n : Cnt) : Cnt := if c.service.toList == sv.toList then cntAdd img c n else n
/-- The first k copies, counted. -/
def cntTo (img : Int) (sv : ByteArray) (l : List Cp) (k : Nat) : Cnt := (l.take k).foldl (fun n c => cntOne img sv c n) Cnt.none
theorem cntTo_succ (img : Int) (sv : ByteArray) (l : List Cp) (k : Nat) (c : Cp) (h : l[k]? = some c) : cntTo img sv l (k + 1) = cntOne img sv c (cntTo img sv l k) := by
  obtain ⟨hk, e⟩ := List.getElem?_eq_some_iff.1 h
  unfold cntTo
  rw [List.take_succ_eq_append_getElem hk, List.foldl_append, e]
  rfl
def Cnt.upTo (n : Cnt) (k : Nat) : Prop := 0 ≤ n.live ∧ n.live ≤ k ∧ 0 ≤ n.ready ∧ n.ready ≤ k ∧ 0 ≤ n.old ∧ n.old ≤ k ∧ 0 ≤ n.failed ∧ n.failed ≤ k ∧ 0 ≤ n.ending ∧ n.ending ≤ k
theorem cntOne_upTo (img : Int) (sv : ByteArray) (c : Cp) (n : Cnt) (k : Nat) (h : n.upTo k) : (cntOne img sv c n).upTo (k + 1) := by
  unfold Cnt.upTo at *
  unfold cntOne cntAdd addB
  split
  · split
    · dsimp only; omega
    · dsimp only; repeat' split
      all_goals omega
  · omega
theorem fold_upTo (img : Int) (sv : ByteArray) : ∀ (l : List Cp) (n : Cnt) (k : Nat), n.upTo k → (l.foldl (fun n c => cntOne img sv c n) n).upTo (k + l.length)
  | [], n, k, h => h
  | c :: l, n, k, h => by
    have := fold_upTo img sv l (cntOne img sv c n) (k + 1) (cntOne_upTo img sv c n k h)
    rw [List.foldl_cons, List.length_cons, Nat.add_comm l.length 1, ← Nat.add_assoc]
    exact this
theorem cntTo_upTo (img : Int) (sv : ByteArray) (l : List Cp) (k : Nat) (hk : k ≤ l.length) : (cntTo img sv l k).upTo k := by
  have := fold_upTo img sv (l.take k) Cnt.none 0 (by unfold Cnt.upTo Cnt.none; dsimp only; omega)
  rw [List.length_take, Nat.zero_add, Nat.min_eq_left hk] at this
  exact this

/-- What StewCountOf answers for a valid book. -/
def cntB (B : Bk) (sv : ByteArray) : Cnt := match svcOf B sv with | none => Cnt.none | some s => cntTo s.image sv B.cps B.cps.length

end Go.Proofs.YtbceafpodamnfabGreat

/-
  My own. The specification counts.
-/
namespace Go.Proofs.YtbceafpodamnfabGreat
open Go.RowKit Go.Sort

theorem below_of_grow {w w2 : World} {d : Nat} {os : Array Obj} (h : w2 = grow (redrawn w d) os) : Below w.heap.size w w2 := by rw [h]; exact below_regrown _ _ _
theorem blk_ne {w : World} {k b : Nat} {x : Option Obj} (h : w.heap[k]? = x) (o : Nat) (v : Value) (hne : k ≠ b) : (w.setCell ⟨b, o, none⟩ v).heap[k]? = x := (Below.heap_setCell _ _ _ _ hne).trans h
theorem size_alloc' (w : World) (o : Obj) : (w.alloc o).heap.size = w.heap.size + 1 := by show (w.heap.push _).size = _; simp

set_option maxHeartbeats 4000000 in
theorem l2Count_none (B : Bk) (sv : ByteArray) (a1 a2 a3 : Option Addr) (c1 c2 c3 : Nat) (w : World) (hS : B.small) (hB : BkAt w a1 a2 a3 B) (hf : svcOf B sv = none) :
    Calls Tryz.prog 58 #[.agg #[.int .i64 B.now, .slice a1 B.svcs.length c1, .slice a2 B.cps.length c2, .slice a3 B.bts.length c3], .string sv] w fun e w' => e = .returned (.agg #[.int .i64 0, .int .i64 0, .int .i64 0, .int .i64 0, .int .i64 0]) ∧ Below w.heap.size w w' := by
  have hidx : idxS B.svcs sv = -1 := idxOf_find_none hf
  have HIDX : Hid _ := hidx
  clear hf hidx
  obtain ⟨t0, t1, t2, t3⟩ := three_new w (.cells #[.int .i64 B.now, .slice a1 B.svcs.length c1, .slice a2 B.cps.length c2, .slice a3 B.bts.length c3] 34) (.cells #[.int .i64 0, .int .i64 0, .int .i64 0, .int .i64 0, .int .i64 0] 95) (.cells #[.int .i64 0, .int .i64 0, .int .i64 0, .int .i64 0, .int .i64 0] 95)
  have T0 : Hid _ := t0
  have T1 : Hid _ := t1
  have T2 : Hid _ := t2
  have T3 : Hid _ := t3
  clear t0 t1 t2 t3
  have hb0 : Below w.heap.size w (((w.alloc (.cells #[.int .i64 B.now, .slice a1 B.svcs.length c1, .slice a2 B.cps.length c2, .slice a3 B.bts.length c3] 34)).alloc (.cells #[.int .i64 0, .int .i64 0, .int .i64 0, .int .i64 0, .int .i64 0] 95)).alloc (.cells #[.int .i64 0, .int .i64 0, .int .i64 0, .int .i64 0, .int .i64 0] 95)) := (((Below.refl _ _).alloc (Nat.le_refl _) _).alloc (by simp) _).alloc (by simp; omega) _
  have hS' := hS
  obtain ⟨hl1, hl2, hl3⟩ := hS'
  go_enter Tryz.func58, Tryz.ntmps58
  go_wp2_with fail
  refine (l1Service_any B sv a1 a2 a3 c1 c2 c3 _ hS (hB.1.below hb0)).mono ?_
  rintro e w1 ⟨rfl, hb1⟩
  rw [HIDX.out]
  have hbb1 := hb0.trans (hb1.mono hb0.size)
  rw [T3.out] at hb1
  have U0 : Hid _ := below_blk hb1 T0.out (by omega)
  have U1 : Hid _ := below_blk hb1 T1.out (by omega)
  have U2 : Hid _ := below_blk hb1 T2.out (by omega)
  have e2 := blk_cell U0.out 2 rfl
  have o0 := blk_cell U2.out 0 rfl
  have o1 := blk_cell U2.out 1 rfl
  have o2 := blk_cell U2.out 2 rfl
  have o3 := blk_cell U2.out 3 rfl
  have o4 := blk_cell U2.out 4 rfl
  have p0 := blk_cell U1.out 0 rfl
  have p1 := blk_cell U1.out 1 rfl
  have p2 := blk_cell U1.out 2 rfl
  have p3 := blk_cell U1.out 3 rfl
  have p4 := blk_cell U1.out 4 rfl
  have f0 := blk_frozen U1.out 0
  have f1 := blk_frozen U1.out 1
  have f2 := blk_frozen U1.out 2
  have f3 := blk_frozen U1.out 3
  have f4 := blk_frozen U1.out 4
  clear hb1 hB
  go_wp2
  go_loop [7] (fun i => i = .int .i64 0) (fun _ => 0)
  case atStart => rfl
  case round =>
    subst hrel
    by_cases hz : (0 : Int) < (B.cps.length : Int)
    all_goals
      go_wp2
      refine bodyPost_ret (v := .agg #[.int .i64 0, .int .i64 0, .int .i64 0, .int .i64 0, .int .i64 0]) (by simp [results, Tryz.results58, go_sem, p0, p1, p2, p3, p4]) rfl ⟨rfl, ?_⟩
      exact ((((hbb1.setCell (by simp) _).setCell (by simp) _).setCell (by simp) _).setCell (by simp) _).setCell (by simp) _

end Go.Proofs.YtbceafpodamnfabGreat

/-
  My own. The specification counts: the loop.
-/
namespace Go.Proofs.YtbceafpodamnfabGreat
open Go.RowKit Go.Sort

set_option maxHeartbeats 8000000 in
theorem l2Count_some (B : Bk) (sv : ByteArray) (s : Svc) (a1 a2 a3 : Option Addr) (c1 c2 c3 : Nat) (w : World) (hS : B.small) (hB : BkAt w a1 a2 a3 B) (hf : svcOf B sv = some s) (N : Cnt) (hN : Hid (N = cntTo s.image sv B.cps B.cps.length)) :
    Calls Tryz.prog 58 #[.agg #[.int .i64 B.now, .slice a1 B.svcs.length c1, .slice a2 B.cps.length c2, .slice a3 B.bts.length c3], .string sv] w fun e w' => e = .returned (.agg #[.int .i64 N.live, .int .i64 N.ready, .int .i64 N.old, .int .i64 N.failed, .int .i64 N.ending]) ∧ Below w.heap.size w w' := by
  obtain ⟨ix, hix, hidx⟩ : ∃ i : Nat, B.svcs[i]? = some s ∧ idxS B.svcs sv = (i : Int) := idxOf_find hf
  have HIDX : Hid _ := hidx
  have hixlt : ix < B.svcs.length := (List.getElem?_eq_some_iff.1 hix).1
  have hne0 : B.svcs ≠ [] := by intro h; rw [h] at hixlt; simp at hixlt
  obtain ⟨bS, offS, eS, hbsS, hatS⟩ := hB.1 hne0
  subst eS
  have hsx := hatS ix s hix
  clear hf hidx hix hatS hne0
  obtain ⟨t0, t1, t2, t3⟩ := three_new w (.cells #[.int .i64 B.now, .slice (some ⟨bS, offS, none⟩) B.svcs.length c1, .slice a2 B.cps.length c2, .slice a3 B.bts.length c3] 34) (.cells #[.int .i64 0, .int .i64 0, .int .i64 0, .int .i64 0, .int .i64 0] 95) (.cells #[.int .i64 0, .int .i64 0, .int .i64 0, .int .i64 0, .int .i64 0] 95)
  have T0 : Hid _ := t0
  have T1 : Hid _ := t1
  have T2 : Hid _ := t2
  have T3 : Hid _ := t3
  clear t0 t1 t2 t3
  have hb0 : Below w.heap.size w (((w.alloc (.cells #[.int .i64 B.now, .slice (some ⟨bS, offS, none⟩) B.svcs.length c1, .slice a2 B.cps.length c2, .slice a3 B.bts.length c3] 34)).alloc (.cells #[.int .i64 0, .int .i64 0, .int .i64 0, .int .i64 0, .int .i64 0] 95)).alloc (.cells #[.int .i64 0, .int .i64 0, .int .i64 0, .int .i64 0, .int .i64 0] 95)) := (((Below.refl _ _).alloc (Nat.le_refl _) _).alloc (by simp) _).alloc (by simp; omega) _
  have hS' := hS
  obtain ⟨hl1, hl2, hl3⟩ := hS'
  go_enter Tryz.func58, Tryz.ntmps58
  go_wp2_with fail
  refine (l1Service_any B sv _ a2 a3 c1 c2 c3 _ hS (hB.1.below hb0)).mono ?_
  rintro e w1 ⟨rfl, hb1⟩
  rw [HIDX.out]
  have hbb1 := hb0.trans (hb1.mono hb0.size)
  rw [T3.out] at hb1
  have U0 : Hid _ := below_blk hb1 T0.out (by omega)
  have U1 : Hid _ := below_blk hb1 T1.out (by omega)
  have U2 : Hid _ := below_blk hb1 T2.out (by omega)
  clear hb1 hb0 T0 T1 T2 T3 HIDX
  go_wp2
  go_loopw [7] (fun iv wr => ∃ (k : Nat) (n : Cnt), k ≤ B.cps.length ∧ iv = .int .i64 k ∧ Below w.heap.size w wr ∧ Hid (wr.heap[w.heap.size]? = some (.cells #[.int .i64 B.now, .slice (some ⟨bS, offS, none⟩) B.svcs.length c1, .slice a2 B.cps.length c2, .slice a3 B.bts.length c3] 34 (0, 0))) ∧ Hid (wr.heap[w.heap.size + 1]? = some (.cells #[.int .i64 0, .int .i64 0, .int .i64 0, .int .i64 0, .int .i64 0] 95 (0, 0))) ∧ Hid (wr.heap[(w.heap.size + 1 + 1)]? = some (.cells #[.int .i64 n.live, .int .i64 n.ready, .int .i64 n.old, .int .i64 n.failed, .int .i64 n.ending] 95 (0, 0))) ∧ Hid (n = cntTo s.image sv B.cps k)) (fun i _ => B.cps.length - (intOf i).toNat)
  case atStart => exact ⟨0, Cnt.none, by omega, rfl, hbb1, U0, U1, U2, rfl⟩
  case round =>
    clear hbb1 U0 U1 U2
    obtain ⟨k, n, hk, rfl, hb, hbox, hres, hout, HN⟩ := hrel
    have hMlt : (w.heap.size + 1 + 1) < wr.heap.size := (Array.getElem?_eq_some_iff.1 hout.out).1
    have hMlt1 : w.heap.size + 1 < wr.heap.size := by omega
    have hMlt0 : w.heap.size < wr.heap.size := by omega
    have e2 := blk_cell hbox.out 2 rfl
    have o0 := blk_cell hout.out 0 rfl
    have o1 := blk_cell hout.out 1 rfl
    have o2 := blk_cell hout.out 2 rfl
    have o3 := blk_cell hout.out 3 rfl
    have o4 := blk_cell hout.out 4 rfl
    by_cases hlt : k < B.cps.length
    · have hne : B.cps ≠ [] := by intro h; rw [h] at hlt; simp at hlt
      obtain ⟨b, off, ea, hbs, hat⟩ := hB.2.1 hne
      subst ea
      obtain ⟨c, hsk⟩ : ∃ c, B.cps[k]? = some c := ⟨B.cps[k], by simp [hlt]⟩
      have HST : Hid (cntTo s.image sv B.cps (k + 1) = cntOne s.image sv c n) := by unfold Hid; rw [cntTo_succ _ _ _ _ _ hsk, HN.out]
      have hup : n.upTo k := by rw [HN.out]; exact cntTo_upTo _ _ _ _ hk
      unfold Cnt.upTo at hup
      obtain ⟨u0, u1, u2, u3, u4, u5, u6, u7, u8, u9⟩ := hup
      have hcs := (hat k c hsk).below hb hbs
      unfold CpAt at hcs
      obtain ⟨x0, x1, x2, x3, x4, x5, x6⟩ := hcs
      have f0 := blk_frozen hout.out 0
      have f1 := blk_frozen hout.out 1
      have f2 := blk_frozen hout.out 2
      have f3 := blk_frozen hout.out 3
      have f4 := blk_frozen hout.out 4
      have hw1 := below_box wr (.cells #[.string c.service, .int .i64 c.number, .int .i64 c.version, .int .i64 c.image, .int .i64 c.state, .bool c.ending, .string c.berth] 88)
      have hb1 := hb.trans (hw1.mono hb.size)
      have box1 : Hid _ := below_blk hw1 hbox.out hMlt0
      have res1 : Hid _ := below_blk hw1 hres.out hMlt1
      have out1 : Hid _ := below_blk hw1 hout.out hMlt
      clear hsk hat hne
      cases hsame : (c.service.toList == sv.toList)
      · have HC : Hid (n = cntTo s.image sv B.cps (k + 1)) := by unfold Hid; rw [HST.out]; simp [cntOne, hsame]
        go_wp2
        go_roundw
        case rel => exact ⟨k + 1, n, by omega, by go_num, hb1, box1, res1, out1, HC⟩
        case measure => simp [intOf]; omega
      cases hend : c.ending
      · -- LIVE
        cases hst3 : (c.state == 3)
        · cases hst4 : (c.state == 4)
          · cases himg : (c.image != s.image)
            · have HC : Hid ((⟨n.live + 1, n.ready, n.old, n.failed, n.ending⟩ : Cnt) = cntTo s.image sv B.cps (k + 1)) := by unfold Hid; rw [HST.out]; simp [cntOne, cntAdd, addB, hsame, hend, hst3, hst4, himg]
              have hwS := below_box (wr.setCell ⟨(w.heap.size + 1 + 1), 0, none⟩ (.int .i64 (n.live + 1))) (.cells #[.string c.service, .int .i64 c.number, .int .i64 c.version, .int .i64 c.image, .int .i64 c.state, .bool false, .string c.berth] 88)
              have hsz : (wr.setCell ⟨(w.heap.size + 1 + 1), 0, none⟩ (.int .i64 (n.live + 1))).heap.size = wr.heap.size := by simp only [size_setCell]
              have outS : Hid _ := below_blk hwS (blk_set (hout.out) 0 (.int .i64 (n.live + 1))) (by rw [hsz]; omega)
              have boxS : Hid _ := below_blk hwS (blk_ne (b := (w.heap.size + 1 + 1)) (hbox.out) 0 (.int .i64 (n.live + 1)) (by omega)) (by rw [hsz]; omega)
              have resS : Hid _ := below_blk hwS (blk_ne (b := (w.heap.size + 1 + 1)) (hres.out) 0 (.int .i64 (n.live + 1)) (by omega)) (by rw [hsz]; omega)
              have hbS := ((hb.setCell (p := ⟨(w.heap.size + 1 + 1), 0, none⟩) (by show _ ≤ (w.heap.size + 1 + 1); omega) (.int .i64 (n.live + 1)))).alloc (by rw [hsz]; exact hb.size) (.cells #[.string c.service, .int .i64 c.number, .int .i64 c.version, .int .i64 c.image, .int .i64 c.state, .bool false, .string c.berth] 88)
              have HSZ : Hid (((wr.setCell ⟨(w.heap.size + 1 + 1), 0, none⟩ (.int .i64 (n.live + 1))).alloc (.cells #[.string c.service, .int .i64 c.number, .int .i64 c.version, .int .i64 c.image, .int .i64 c.state, .bool false, .string c.berth] 88)).heap.size = wr.heap.size + 1) := by unfold Hid; rw [size_alloc', hsz]
              have cbxS : Hid _ := heap_alloc_new (wr.setCell ⟨(w.heap.size + 1 + 1), 0, none⟩ (.int .i64 (n.live + 1))) (.cells #[.string c.service, .int .i64 c.number, .int .i64 c.version, .int .i64 c.image, .int .i64 c.state, .bool false, .string c.berth] 88)
              rw [hsz] at cbxS
              have svS := (((hsx.below hb hbsS).blk (w' := (wr.setCell ⟨(w.heap.size + 1 + 1), 0, none⟩ (.int .i64 (n.live + 1)))) (blk_ne (b := (w.heap.size + 1 + 1)) (rfl) 0 (.int .i64 (n.live + 1)) (by omega))).below hwS (by rw [hsz]; omega))
              obtain ⟨z0, z1, z2, z3, z4, z5, z6, z7, z8, z9, z10, z11, z12⟩ := svS.grown
              clear z0 z1 z2 z4 z5 z6 z7 z8 z9 z10 z11 z12 svS hsz
              have gc3 := gcell cbxS.out 3 rfl
              have gb1 := gcell boxS.out 1 rfl
              go_wp2
              refine wp_region_quiet_below (by kernel_rfl) (by kernel_rfl) ?_
              repeat (first | go_big_quiet_step (fail) | quiet_step (fail))
              refine wpQuiet_nil ?_
              intro w2 hw'
              obtain ⟨⟨dq, osq⟩, hw''⟩ := hw'
              have hb2 := below_of_grow hw''
              clear hw''
              rw [HSZ.out] at hb2
              have out2 : Hid _ := below_blk hb2 outS.out (by omega)
              have box2 : Hid _ := below_blk hb2 boxS.out (by omega)
              have res2 : Hid _ := below_blk hb2 resS.out (by omega)
              have hbF := hbS.trans (hb2.mono (by omega))
              clear gc3 gb1 z3 x0 x1 x2 x3 x4 x5 x6 o0 o1 o2 o3 o4 f0 f1 f2 f3 f4
              have q2 := blk_cell out2.out 2 rfl
              have qf := blk_frozen out2.out 2
              go_wp2
              go_roundw
              case rel => exact ⟨k + 1, ⟨n.live + 1, n.ready, n.old, n.failed, n.ending⟩, by omega, by go_num, hbF, box2, res2, out2, HC⟩
              case measure => simp [intOf]; omega
            · have HC : Hid ((⟨n.live + 1, n.ready, n.old + 1, n.failed, n.ending⟩ : Cnt) = cntTo s.image sv B.cps (k + 1)) := by unfold Hid; rw [HST.out]; simp [cntOne, cntAdd, addB, hsame, hend, hst3, hst4, himg]
              have hwS := below_box (wr.setCell ⟨(w.heap.size + 1 + 1), 0, none⟩ (.int .i64 (n.live + 1))) (.cells #[.string c.service, .int .i64 c.number, .int .i64 c.version, .int .i64 c.image, .int .i64 c.state, .bool false, .string c.berth] 88)
              have hsz : (wr.setCell ⟨(w.heap.size + 1 + 1), 0, none⟩ (.int .i64 (n.live + 1))).heap.size = wr.heap.size := by simp only [size_setCell]
              have outS : Hid _ := below_blk hwS (blk_set (hout.out) 0 (.int .i64 (n.live + 1))) (by rw [hsz]; omega)
              have boxS : Hid _ := below_blk hwS (blk_ne (b := (w.heap.size + 1 + 1)) (hbox.out) 0 (.int .i64 (n.live + 1)) (by omega)) (by rw [hsz]; omega)
              have resS : Hid _ := below_blk hwS (blk_ne (b := (w.heap.size + 1 + 1)) (hres.out) 0 (.int .i64 (n.live + 1)) (by omega)) (by rw [hsz]; omega)
              have hbS := ((hb.setCell (p := ⟨(w.heap.size + 1 + 1), 0, none⟩) (by show _ ≤ (w.heap.size + 1 + 1); omega) (.int .i64 (n.live + 1)))).alloc (by rw [hsz]; exact hb.size) (.cells #[.string c.service, .int .i64 c.number, .int .i64 c.version, .int .i64 c.image, .int .i64 c.state, .bool false, .string c.berth] 88)
              have HSZ : Hid (((wr.setCell ⟨(w.heap.size + 1 + 1), 0, none⟩ (.int .i64 (n.live + 1))).alloc (.cells #[.string c.service, .int .i64 c.number, .int .i64 c.version, .int .i64 c.image, .int .i64 c.state, .bool false, .string c.berth] 88)).heap.size = wr.heap.size + 1) := by unfold Hid; rw [size_alloc', hsz]
              have cbxS : Hid _ := heap_alloc_new (wr.setCell ⟨(w.heap.size + 1 + 1), 0, none⟩ (.int .i64 (n.live + 1))) (.cells #[.string c.service, .int .i64 c.number, .int .i64 c.version, .int .i64 c.image, .int .i64 c.state, .bool false, .string c.berth] 88)
              rw [hsz] at cbxS
              have svS := (((hsx.below hb hbsS).blk (w' := (wr.setCell ⟨(w.heap.size + 1 + 1), 0, none⟩ (.int .i64 (n.live + 1)))) (blk_ne (b := (w.heap.size + 1 + 1)) (rfl) 0 (.int .i64 (n.live + 1)) (by omega))).below hwS (by rw [hsz]; omega))
              obtain ⟨z0, z1, z2, z3, z4, z5, z6, z7, z8, z9, z10, z11, z12⟩ := svS.grown
              clear z0 z1 z2 z4 z5 z6 z7 z8 z9 z10 z11 z12 svS hsz
              have gc3 := gcell cbxS.out 3 rfl
              have gb1 := gcell boxS.out 1 rfl
              go_wp2
              refine wp_region_quiet_below (by kernel_rfl) (by kernel_rfl) ?_
              repeat (first | go_big_quiet_step (fail) | quiet_step (fail))
              refine wpQuiet_nil ?_
              intro w2 hw'
              obtain ⟨⟨dq, osq⟩, hw''⟩ := hw'
              have hb2 := below_of_grow hw''
              clear hw''
              rw [HSZ.out] at hb2
              have out2 : Hid _ := below_blk hb2 outS.out (by omega)
              have box2 : Hid _ := below_blk hb2 boxS.out (by omega)
              have res2 : Hid _ := below_blk hb2 resS.out (by omega)
              have hbF := hbS.trans (hb2.mono (by omega))
              clear gc3 gb1 z3 x0 x1 x2 x3 x4 x5 x6 o0 o1 o2 o3 o4 f0 f1 f2 f3 f4
              have q2 := blk_cell out2.out 2 rfl
              have qf := blk_frozen out2.out 2
              have outF : Hid _ := blk_set out2.out 2 (.int .i64 (n.old + 1))
              go_wp2
              go_roundw
              case rel => exact ⟨k + 1, ⟨n.live + 1, n.ready, n.old + 1, n.failed, n.ending⟩, by omega, by go_num, hbF.setCell (by simp; omega) _, blk_ne box2.out _ _ (by omega), blk_ne res2.out _ _ (by omega), outF, HC⟩
              case measure => simp [intOf]; omega
          · cases himg : (c.image != s.image)
            · have HC : Hid ((⟨n.live + 1, n.ready, n.old, n.failed + 1, n.ending⟩ : Cnt) = cntTo s.image sv B.cps (k + 1)) := by unfold Hid; rw [HST.out]; simp [cntOne, cntAdd, addB, hsame, hend, hst3, hst4, himg]
              have hwS := below_box ((wr.setCell ⟨(w.heap.size + 1 + 1), 0, none⟩ (.int .i64 (n.live + 1))).setCell ⟨(w.heap.size + 1 + 1), 3, none⟩ (.int .i64 (n.failed + 1))) (.cells #[.string c.service, .int .i64 c.number, .int .i64 c.version, .int .i64 c.image, .int .i64 c.state, .bool false, .string c.berth] 88)
              have hsz : ((wr.setCell ⟨(w.heap.size + 1 + 1), 0, none⟩ (.int .i64 (n.live + 1))).setCell ⟨(w.heap.size + 1 + 1), 3, none⟩ (.int .i64 (n.failed + 1))).heap.size = wr.heap.size := by simp only [size_setCell]
              have outS : Hid _ := below_blk hwS (blk_set (blk_set (hout.out) 0 (.int .i64 (n.live + 1))) 3 (.int .i64 (n.failed + 1))) (by rw [hsz]; omega)
              have boxS : Hid _ := below_blk hwS (blk_ne (b := (w.heap.size + 1 + 1)) (blk_ne (b := (w.heap.size + 1 + 1)) (hbox.out) 0 (.int .i64 (n.live + 1)) (by omega)) 3 (.int .i64 (n.failed + 1)) (by omega)) (by rw [hsz]; omega)
              have resS : Hid _ := below_blk hwS (blk_ne (b := (w.heap.size + 1 + 1)) (blk_ne (b := (w.heap.size + 1 + 1)) (hres.out) 0 (.int .i64 (n.live + 1)) (by omega)) 3 (.int .i64 (n.failed + 1)) (by omega)) (by rw [hsz]; omega)
              have hbS := (((hb.setCell (p := ⟨(w.heap.size + 1 + 1), 0, none⟩) (by show _ ≤ (w.heap.size + 1 + 1); omega) (.int .i64 (n.live + 1))).setCell (p := ⟨(w.heap.size + 1 + 1), 3, none⟩) (by show _ ≤ (w.heap.size + 1 + 1); omega) (.int .i64 (n.failed + 1)))).alloc (by rw [hsz]; exact hb.size) (.cells #[.string c.service, .int .i64 c.number, .int .i64 c.version, .int .i64 c.image, .int .i64 c.state, .bool false, .string c.berth] 88)
              have HSZ : Hid ((((wr.setCell ⟨(w.heap.size + 1 + 1), 0, none⟩ (.int .i64 (n.live + 1))).setCell ⟨(w.heap.size + 1 + 1), 3, none⟩ (.int .i64 (n.failed + 1))).alloc (.cells #[.string c.service, .int .i64 c.number, .int .i64 c.version, .int .i64 c.image, .int .i64 c.state, .bool false, .string c.berth] 88)).heap.size = wr.heap.size + 1) := by unfold Hid; rw [size_alloc', hsz]
              have cbxS : Hid _ := heap_alloc_new ((wr.setCell ⟨(w.heap.size + 1 + 1), 0, none⟩ (.int .i64 (n.live + 1))).setCell ⟨(w.heap.size + 1 + 1), 3, none⟩ (.int .i64 (n.failed + 1))) (.cells #[.string c.service, .int .i64 c.number, .int .i64 c.version, .int .i64 c.image, .int .i64 c.state, .bool false, .string c.berth] 88)
              rw [hsz] at cbxS
              have svS := (((hsx.below hb hbsS).blk (w' := ((wr.setCell ⟨(w.heap.size + 1 + 1), 0, none⟩ (.int .i64 (n.live + 1))).setCell ⟨(w.heap.size + 1 + 1), 3, none⟩ (.int .i64 (n.failed + 1)))) (blk_ne (b := (w.heap.size + 1 + 1)) (blk_ne (b := (w.heap.size + 1 + 1)) (rfl) 0 (.int .i64 (n.live + 1)) (by omega)) 3 (.int .i64 (n.failed + 1)) (by omega))).below hwS (by rw [hsz]; omega))
              obtain ⟨z0, z1, z2, z3, z4, z5, z6, z7, z8, z9, z10, z11, z12⟩ := svS.grown
              clear z0 z1 z2 z4 z5 z6 z7 z8 z9 z10 z11 z12 svS hsz
              have gc3 := gcell cbxS.out 3 rfl
              have gb1 := gcell boxS.out 1 rfl
              go_wp2
              refine wp_region_quiet_below (by kernel_rfl) (by kernel_rfl) ?_
              repeat (first | go_big_quiet_step (fail) | quiet_step (fail))
              refine wpQuiet_nil ?_
              intro w2 hw'
              obtain ⟨⟨dq, osq⟩, hw''⟩ := hw'
              have hb2 := below_of_grow hw''
              clear hw''
              rw [HSZ.out] at hb2
              have out2 : Hid _ := below_blk hb2 outS.out (by omega)
              have box2 : Hid _ := below_blk hb2 boxS.out (by omega)
              have res2 : Hid _ := below_blk hb2 resS.out (by omega)
              have hbF := hbS.trans (hb2.mono (by omega))
              clear gc3 gb1 z3 x0 x1 x2 x3 x4 x5 x6 o0 o1 o2 o3 o4 f0 f1 f2 f3 f4
              have q2 := blk_cell out2.out 2 rfl
              have qf := blk_frozen out2.out 2
              go_wp2
              go_roundw
              case rel => exact ⟨k + 1, ⟨n.live + 1, n.ready, n.old, n.failed + 1, n.ending⟩, by omega, by go_num, hbF, box2, res2, out2, HC⟩
              case measure => simp [intOf]; omega
            · have HC : Hid ((⟨n.live + 1, n.ready, n.old + 1, n.failed + 1, n.ending⟩ : Cnt) = cntTo s.image sv B.cps (k + 1)) := by unfold Hid; rw [HST.out]; simp [cntOne, cntAdd, addB, hsame, hend, hst3, hst4, himg]
              have hwS := below_box ((wr.setCell ⟨(w.heap.size + 1 + 1), 0, none⟩ (.int .i64 (n.live + 1))).setCell ⟨(w.heap.size + 1 + 1), 3, none⟩ (.int .i64 (n.failed + 1))) (.cells #[.string c.service, .int .i64 c.number, .int .i64 c.version, .int .i64 c.image, .int .i64 c.state, .bool false, .string c.berth] 88)
              have hsz : ((wr.setCell ⟨(w.heap.size + 1 + 1), 0, none⟩ (.int .i64 (n.live + 1))).setCell ⟨(w.heap.size + 1 + 1), 3, none⟩ (.int .i64 (n.failed + 1))).heap.size = wr.heap.size := by simp only [size_setCell]
              have outS : Hid _ := below_blk hwS (blk_set (blk_set (hout.out) 0 (.int .i64 (n.live + 1))) 3 (.int .i64 (n.failed + 1))) (by rw [hsz]; omega)
              have boxS : Hid _ := below_blk hwS (blk_ne (b := (w.heap.size + 1 + 1)) (blk_ne (b := (w.heap.size + 1 + 1)) (hbox.out) 0 (.int .i64 (n.live + 1)) (by omega)) 3 (.int .i64 (n.failed + 1)) (by omega)) (by rw [hsz]; omega)
              have resS : Hid _ := below_blk hwS (blk_ne (b := (w.heap.size + 1 + 1)) (blk_ne (b := (w.heap.size + 1 + 1)) (hres.out) 0 (.int .i64 (n.live + 1)) (by omega)) 3 (.int .i64 (n.failed + 1)) (by omega)) (by rw [hsz]; omega)
              have hbS := (((hb.setCell (p := ⟨(w.heap.size + 1 + 1), 0, none⟩) (by show _ ≤ (w.heap.size + 1 + 1); omega) (.int .i64 (n.live + 1))).setCell (p := ⟨(w.heap.size + 1 + 1), 3, none⟩) (by show _ ≤ (w.heap.size + 1 + 1); omega) (.int .i64 (n.failed + 1)))).alloc (by rw [hsz]; exact hb.size) (.cells #[.string c.service, .int .i64 c.number, .int .i64 c.version, .int .i64 c.image, .int .i64 c.state, .bool false, .string c.berth] 88)
              have HSZ : Hid ((((wr.setCell ⟨(w.heap.size + 1 + 1), 0, none⟩ (.int .i64 (n.live + 1))).setCell ⟨(w.heap.size + 1 + 1), 3, none⟩ (.int .i64 (n.failed + 1))).alloc (.cells #[.string c.service, .int .i64 c.number, .int .i64 c.version, .int .i64 c.image, .int .i64 c.state, .bool false, .string c.berth] 88)).heap.size = wr.heap.size + 1) := by unfold Hid; rw [size_alloc', hsz]
              have cbxS : Hid _ := heap_alloc_new ((wr.setCell ⟨(w.heap.size + 1 + 1), 0, none⟩ (.int .i64 (n.live + 1))).setCell ⟨(w.heap.size + 1 + 1), 3, none⟩ (.int .i64 (n.failed + 1))) (.cells #[.string c.service, .int .i64 c.number, .int .i64 c.version, .int .i64 c.image, .int .i64 c.state, .bool false, .string c.berth] 88)
              rw [hsz] at cbxS
              have svS := (((hsx.below hb hbsS).blk (w' := ((wr.setCell ⟨(w.heap.size + 1 + 1), 0, none⟩ (.int .i64 (n.live + 1))).setCell ⟨(w.heap.size + 1 + 1), 3, none⟩ (.int .i64 (n.failed + 1)))) (blk_ne (b := (w.heap.size + 1 + 1)) (blk_ne (b := (w.heap.size + 1 + 1)) (rfl) 0 (.int .i64 (n.live + 1)) (by omega)) 3 (.int .i64 (n.failed + 1)) (by omega))).below hwS (by rw [hsz]; omega))
              obtain ⟨z0, z1, z2, z3, z4, z5, z6, z7, z8, z9, z10, z11, z12⟩ := svS.grown
              clear z0 z1 z2 z4 z5 z6 z7 z8 z9 z10 z11 z12 svS hsz
              have gc3 := gcell cbxS.out 3 rfl
              have gb1 := gcell boxS.out 1 rfl
              go_wp2
              refine wp_region_quiet_below (by kernel_rfl) (by kernel_rfl) ?_
              repeat (first | go_big_quiet_step (fail) | quiet_step (fail))
              refine wpQuiet_nil ?_
              intro w2 hw'
              obtain ⟨⟨dq, osq⟩, hw''⟩ := hw'
              have hb2 := below_of_grow hw''
              clear hw''
              rw [HSZ.out] at hb2
              have out2 : Hid _ := below_blk hb2 outS.out (by omega)
              have box2 : Hid _ := below_blk hb2 boxS.out (by omega)
              have res2 : Hid _ := below_blk hb2 resS.out (by omega)
              have hbF := hbS.trans (hb2.mono (by omega))
              clear gc3 gb1 z3 x0 x1 x2 x3 x4 x5 x6 o0 o1 o2 o3 o4 f0 f1 f2 f3 f4
              have q2 := blk_cell out2.out 2 rfl
              have qf := blk_frozen out2.out 2
              have outF : Hid _ := blk_set out2.out 2 (.int .i64 (n.old + 1))
              go_wp2
              go_roundw
              case rel => exact ⟨k + 1, ⟨n.live + 1, n.ready, n.old + 1, n.failed + 1, n.ending⟩, by omega, by go_num, hbF.setCell (by simp; omega) _, blk_ne box2.out _ _ (by omega), blk_ne res2.out _ _ (by omega), outF, HC⟩
              case measure => simp [intOf]; omega
        · have hst4 : (c.state == 4) = false := by have h := eq_of_beq hst3; rw [h]; rfl
          cases himg : (c.image != s.image)
          · have HC : Hid ((⟨n.live + 1, n.ready + 1, n.old, n.failed, n.ending⟩ : Cnt) = cntTo s.image sv B.cps (k + 1)) := by unfold Hid; rw [HST.out]; simp [cntOne, cntAdd, addB, hsame, hend, hst3, hst4, himg]
            have hwS := below_box ((wr.setCell ⟨(w.heap.size + 1 + 1), 0, none⟩ (.int .i64 (n.live + 1))).setCell ⟨(w.heap.size + 1 + 1), 1, none⟩ (.int .i64 (n.ready + 1))) (.cells #[.string c.service, .int .i64 c.number, .int .i64 c.version, .int .i64 c.image, .int .i64 c.state, .bool false, .string c.berth] 88)
            have hsz : ((wr.setCell ⟨(w.heap.size + 1 + 1), 0, none⟩ (.int .i64 (n.live + 1))).setCell ⟨(w.heap.size + 1 + 1), 1, none⟩ (.int .i64 (n.ready + 1))).heap.size = wr.heap.size := by simp only [size_setCell]
            have outS : Hid _ := below_blk hwS (blk_set (blk_set (hout.out) 0 (.int .i64 (n.live + 1))) 1 (.int .i64 (n.ready + 1))) (by rw [hsz]; omega)
            have boxS : Hid _ := below_blk hwS (blk_ne (b := (w.heap.size + 1 + 1)) (blk_ne (b := (w.heap.size + 1 + 1)) (hbox.out) 0 (.int .i64 (n.live + 1)) (by omega)) 1 (.int .i64 (n.ready + 1)) (by omega)) (by rw [hsz]; omega)
            have resS : Hid _ := below_blk hwS (blk_ne (b := (w.heap.size + 1 + 1)) (blk_ne (b := (w.heap.size + 1 + 1)) (hres.out) 0 (.int .i64 (n.live + 1)) (by omega)) 1 (.int .i64 (n.ready + 1)) (by omega)) (by rw [hsz]; omega)
            have hbS := (((hb.setCell (p := ⟨(w.heap.size + 1 + 1), 0, none⟩) (by show _ ≤ (w.heap.size + 1 + 1); omega) (.int .i64 (n.live + 1))).setCell (p := ⟨(w.heap.size + 1 + 1), 1, none⟩) (by show _ ≤ (w.heap.size + 1 + 1); omega) (.int .i64 (n.ready + 1)))).alloc (by rw [hsz]; exact hb.size) (.cells #[.string c.service, .int .i64 c.number, .int .i64 c.version, .int .i64 c.image, .int .i64 c.state, .bool false, .string c.berth] 88)
            have HSZ : Hid ((((wr.setCell ⟨(w.heap.size + 1 + 1), 0, none⟩ (.int .i64 (n.live + 1))).setCell ⟨(w.heap.size + 1 + 1), 1, none⟩ (.int .i64 (n.ready + 1))).alloc (.cells #[.string c.service, .int .i64 c.number, .int .i64 c.version, .int .i64 c.image, .int .i64 c.state, .bool false, .string c.berth] 88)).heap.size = wr.heap.size + 1) := by unfold Hid; rw [size_alloc', hsz]
            have cbxS : Hid _ := heap_alloc_new ((wr.setCell ⟨(w.heap.size + 1 + 1), 0, none⟩ (.int .i64 (n.live + 1))).setCell ⟨(w.heap.size + 1 + 1), 1, none⟩ (.int .i64 (n.ready + 1))) (.cells #[.string c.service, .int .i64 c.number, .int .i64 c.version, .int .i64 c.image, .int .i64 c.state, .bool false, .string c.berth] 88)
            rw [hsz] at cbxS
            have svS := (((hsx.below hb hbsS).blk (w' := ((wr.setCell ⟨(w.heap.size + 1 + 1), 0, none⟩ (.int .i64 (n.live + 1))).setCell ⟨(w.heap.size + 1 + 1), 1, none⟩ (.int .i64 (n.ready + 1)))) (blk_ne (b := (w.heap.size + 1 + 1)) (blk_ne (b := (w.heap.size + 1 + 1)) (rfl) 0 (.int .i64 (n.live + 1)) (by omega)) 1 (.int .i64 (n.ready + 1)) (by omega))).below hwS (by rw [hsz]; omega))
            obtain ⟨z0, z1, z2, z3, z4, z5, z6, z7, z8, z9, z10, z11, z12⟩ := svS.grown
            clear z0 z1 z2 z4 z5 z6 z7 z8 z9 z10 z11 z12 svS hsz
            have gc3 := gcell cbxS.out 3 rfl
            have gb1 := gcell boxS.out 1 rfl
            go_wp2
            refine wp_region_quiet_below (by kernel_rfl) (by kernel_rfl) ?_
            repeat (first | go_big_quiet_step (fail) | quiet_step (fail))
            refine wpQuiet_nil ?_
            intro w2 hw'
            obtain ⟨⟨dq, osq⟩, hw''⟩ := hw'
            have hb2 := below_of_grow hw''
            clear hw''
            rw [HSZ.out] at hb2
            have out2 : Hid _ := below_blk hb2 outS.out (by omega)
            have box2 : Hid _ := below_blk hb2 boxS.out (by omega)
            have res2 : Hid _ := below_blk hb2 resS.out (by omega)
            have hbF := hbS.trans (hb2.mono (by omega))
            clear gc3 gb1 z3 x0 x1 x2 x3 x4 x5 x6 o0 o1 o2 o3 o4 f0 f1 f2 f3 f4
            have q2 := blk_cell out2.out 2 rfl
            have qf := blk_frozen out2.out 2
            go_wp2
            go_roundw
            case rel => exact ⟨k + 1, ⟨n.live + 1, n.ready + 1, n.old, n.failed, n.ending⟩, by omega, by go_num, hbF, box2, res2, out2, HC⟩
            case measure => simp [intOf]; omega
          · have HC : Hid ((⟨n.live + 1, n.ready + 1, n.old + 1, n.failed, n.ending⟩ : Cnt) = cntTo s.image sv B.cps (k + 1)) := by unfold Hid; rw [HST.out]; simp [cntOne, cntAdd, addB, hsame, hend, hst3, hst4, himg]
            have hwS := below_box ((wr.setCell ⟨(w.heap.size + 1 + 1), 0, none⟩ (.int .i64 (n.live + 1))).setCell ⟨(w.heap.size + 1 + 1), 1, none⟩ (.int .i64 (n.ready + 1))) (.cells #[.string c.service, .int .i64 c.number, .int .i64 c.version, .int .i64 c.image, .int .i64 c.state, .bool false, .string c.berth] 88)
            have hsz : ((wr.setCell ⟨(w.heap.size + 1 + 1), 0, none⟩ (.int .i64 (n.live + 1))).setCell ⟨(w.heap.size + 1 + 1), 1, none⟩ (.int .i64 (n.ready + 1))).heap.size = wr.heap.size := by simp only [size_setCell]
            have outS : Hid _ := below_blk hwS (blk_set (blk_set (hout.out) 0 (.int .i64 (n.live + 1))) 1 (.int .i64 (n.ready + 1))) (by rw [hsz]; omega)
            have boxS : Hid _ := below_blk hwS (blk_ne (b := (w.heap.size + 1 + 1)) (blk_ne (b := (w.heap.size + 1 + 1)) (hbox.out) 0 (.int .i64 (n.live + 1)) (by omega)) 1 (.int .i64 (n.ready + 1)) (by omega)) (by rw [hsz]; omega)
            have resS : Hid _ := below_blk hwS (blk_ne (b := (w.heap.size + 1 + 1)) (blk_ne (b := (w.heap.size + 1 + 1)) (hres.out) 0 (.int .i64 (n.live + 1)) (by omega)) 1 (.int .i64 (n.ready + 1)) (by omega)) (by rw [hsz]; omega)
            have hbS := (((hb.setCell (p := ⟨(w.heap.size + 1 + 1), 0, none⟩) (by show _ ≤ (w.heap.size + 1 + 1); omega) (.int .i64 (n.live + 1))).setCell (p := ⟨(w.heap.size + 1 + 1), 1, none⟩) (by show _ ≤ (w.heap.size + 1 + 1); omega) (.int .i64 (n.ready + 1)))).alloc (by rw [hsz]; exact hb.size) (.cells #[.string c.service, .int .i64 c.number, .int .i64 c.version, .int .i64 c.image, .int .i64 c.state, .bool false, .string c.berth] 88)
            have HSZ : Hid ((((wr.setCell ⟨(w.heap.size + 1 + 1), 0, none⟩ (.int .i64 (n.live + 1))).setCell ⟨(w.heap.size + 1 + 1), 1, none⟩ (.int .i64 (n.ready + 1))).alloc (.cells #[.string c.service, .int .i64 c.number, .int .i64 c.version, .int .i64 c.image, .int .i64 c.state, .bool false, .string c.berth] 88)).heap.size = wr.heap.size + 1) := by unfold Hid; rw [size_alloc', hsz]
            have cbxS : Hid _ := heap_alloc_new ((wr.setCell ⟨(w.heap.size + 1 + 1), 0, none⟩ (.int .i64 (n.live + 1))).setCell ⟨(w.heap.size + 1 + 1), 1, none⟩ (.int .i64 (n.ready + 1))) (.cells #[.string c.service, .int .i64 c.number, .int .i64 c.version, .int .i64 c.image, .int .i64 c.state, .bool false, .string c.berth] 88)
            rw [hsz] at cbxS
            have svS := (((hsx.below hb hbsS).blk (w' := ((wr.setCell ⟨(w.heap.size + 1 + 1), 0, none⟩ (.int .i64 (n.live + 1))).setCell ⟨(w.heap.size + 1 + 1), 1, none⟩ (.int .i64 (n.ready + 1)))) (blk_ne (b := (w.heap.size + 1 + 1)) (blk_ne (b := (w.heap.size + 1 + 1)) (rfl) 0 (.int .i64 (n.live + 1)) (by omega)) 1 (.int .i64 (n.ready + 1)) (by omega))).below hwS (by rw [hsz]; omega))
            obtain ⟨z0, z1, z2, z3, z4, z5, z6, z7, z8, z9, z10, z11, z12⟩ := svS.grown
            clear z0 z1 z2 z4 z5 z6 z7 z8 z9 z10 z11 z12 svS hsz
            have gc3 := gcell cbxS.out 3 rfl
            have gb1 := gcell boxS.out 1 rfl
            go_wp2
            refine wp_region_quiet_below (by kernel_rfl) (by kernel_rfl) ?_
            repeat (first | go_big_quiet_step (fail) | quiet_step (fail))
            refine wpQuiet_nil ?_
            intro w2 hw'
            obtain ⟨⟨dq, osq⟩, hw''⟩ := hw'
            have hb2 := below_of_grow hw''
            clear hw''
            rw [HSZ.out] at hb2
            have out2 : Hid _ := below_blk hb2 outS.out (by omega)
            have box2 : Hid _ := below_blk hb2 boxS.out (by omega)
            have res2 : Hid _ := below_blk hb2 resS.out (by omega)
            have hbF := hbS.trans (hb2.mono (by omega))
            clear gc3 gb1 z3 x0 x1 x2 x3 x4 x5 x6 o0 o1 o2 o3 o4 f0 f1 f2 f3 f4
            have q2 := blk_cell out2.out 2 rfl
            have qf := blk_frozen out2.out 2
            have outF : Hid _ := blk_set out2.out 2 (.int .i64 (n.old + 1))
            go_wp2
            go_roundw
            case rel => exact ⟨k + 1, ⟨n.live + 1, n.ready + 1, n.old + 1, n.failed, n.ending⟩, by omega, by go_num, hbF.setCell (by simp; omega) _, blk_ne box2.out _ _ (by omega), blk_ne res2.out _ _ (by omega), outF, HC⟩
            case measure => simp [intOf]; omega
      · have HC : Hid ({ n with ending := n.ending + 1 } = cntTo s.image sv B.cps (k + 1)) := by unfold Hid; rw [HST.out]; simp [cntOne, cntAdd, hsame, hend]
        have hwS := below_box (wr.setCell ⟨(w.heap.size + 1 + 1), 4, none⟩ (.int .i64 (n.ending + 1))) (.cells #[.string c.service, .int .i64 c.number, .int .i64 c.version, .int .i64 c.image, .int .i64 c.state, .bool true, .string c.berth] 88)
        have hsz : (wr.setCell ⟨(w.heap.size + 1 + 1), 4, none⟩ (.int .i64 (n.ending + 1))).heap.size = wr.heap.size := by simp only [size_setCell]
        have outS : Hid _ := below_blk hwS (blk_set (hout.out) 4 (.int .i64 (n.ending + 1))) (by rw [hsz]; omega)
        have boxS : Hid _ := below_blk hwS (blk_ne (b := (w.heap.size + 1 + 1)) (hbox.out) 4 (.int .i64 (n.ending + 1)) (by omega)) (by rw [hsz]; omega)
        have resS : Hid _ := below_blk hwS (blk_ne (b := (w.heap.size + 1 + 1)) (hres.out) 4 (.int .i64 (n.ending + 1)) (by omega)) (by rw [hsz]; omega)
        have hbS := ((hb.setCell (p := ⟨(w.heap.size + 1 + 1), 4, none⟩) (by show _ ≤ (w.heap.size + 1 + 1); omega) (.int .i64 (n.ending + 1)))).alloc (by rw [hsz]; exact hb.size) (.cells #[.string c.service, .int .i64 c.number, .int .i64 c.version, .int .i64 c.image, .int .i64 c.state, .bool true, .string c.berth] 88)
        have HSZ : Hid (((wr.setCell ⟨(w.heap.size + 1 + 1), 4, none⟩ (.int .i64 (n.ending + 1))).alloc (.cells #[.string c.service, .int .i64 c.number, .int .i64 c.version, .int .i64 c.image, .int .i64 c.state, .bool true, .string c.berth] 88)).heap.size = wr.heap.size + 1) := by unfold Hid; rw [size_alloc', hsz]
        go_wp2
        go_roundw
        case rel => exact ⟨k + 1, { n with ending := n.ending + 1 }, by omega, by go_num, hbS, boxS, resS, outS, HC⟩
        case measure => simp [intOf]; omega
    · have hkl : k = B.cps.length := by omega
      have HNN : Hid (N = n) := by unfold Hid; rw [hN.out, HN.out, hkl]
      have p0 := blk_cell hres.out 0 rfl
      have p1 := blk_cell hres.out 1 rfl
      have p2 := blk_cell hres.out 2 rfl
      have p3 := blk_cell hres.out 3 rfl
      have p4 := blk_cell hres.out 4 rfl
      have g0 := blk_frozen hres.out 0
      have g1 := blk_frozen hres.out 1
      have g2 := blk_frozen hres.out 2
      have g3 := blk_frozen hres.out 3
      have g4 := blk_frozen hres.out 4
      clear hkl
      go_wp2
      refine bodyPost_ret (v := .agg #[.int .i64 n.live, .int .i64 n.ready, .int .i64 n.old, .int .i64 n.failed, .int .i64 n.ending]) (by simp [results, Tryz.results58, go_sem, p0, p1, p2, p3, p4]) rfl ⟨by rw [HNN.out], ?_⟩
      exact ((((hb.setCell (by simp) _).setCell (by simp) _).setCell (by simp) _).setCell (by simp) _).setCell (by simp) _

end Go.Proofs.YtbceafpodamnfabGreat

/-
  My own. spec.l2Count, whatever the service.
-/
namespace Go.Proofs.YtbceafpodamnfabGreat
open Go.RowKit Go.Sort

theorem l2Count_any (B : Bk) (sv : ByteArray) (a1 a2 a3 : Option Addr) (c1 c2 c3 : Nat) (w : World) (hS : B.small) (hB : BkAt w a1 a2 a3 B) (N : Cnt) (hN : Hid (N = cntB B sv)) :
    Calls Tryz.prog 58 #[.agg #[.int .i64 B.now, .slice a1 B.svcs.length c1, .slice a2 B.cps.length c2, .slice a3 B.bts.length c3], .string sv] w fun e w' => e = .returned (.agg #[.int .i64 N.live, .int .i64 N.ready, .int .i64 N.old, .int .i64 N.failed, .int .i64 N.ending]) ∧ Below w.heap.size w w' := by
  cases hf : svcOf B sv with
  | none =>
    have e : N = Cnt.none := by rw [hN.out]; unfold cntB; rw [hf]
    subst e
    exact l2Count_none B sv a1 a2 a3 c1 c2 c3 w hS hB hf
  | some s => exact l2Count_some B sv s a1 a2 a3 c1 c2 c3 w hS hB hf N (by unfold Hid; rw [hN.out]; unfold cntB; rw [hf])

theorem run_field_count (a b c d e : Int) (w : World) : (Instr.field 95 (.agg #[.int .i64 a, .int .i64 b, .int .i64 c, .int .i64 d, .int .i64 e]) 1).run Tryz.prog w = .ok (.int .i64 b) w := by
  kernel_rfl
theorem run_field_count0 (a b c d e : Int) (w : World) : (Instr.field 95 (.agg #[.int .i64 a, .int .i64 b, .int .i64 c, .int .i64 d, .int .i64 e]) 0).run Tryz.prog w = .ok (.int .i64 a) w := by
  kernel_rfl

end Go.Proofs.YtbceafpodamnfabGreat

/-
  My own. Plain data, more: what a valid book tells.
-/
namespace Go.Proofs.YtbceafpodamnfabGreat
open Go.RowKit

theorem same_nm {a b : ByteArray} : (a.toList == b.toList) = true ↔ a = b := by
  rw [beq_iff_eq, ByteArray.toList_eq, ByteArray.toList_eq]
  constructor
  · intro h
    cases a; cases b
    simp only [ByteArray.mk.injEq]
    exact Array.toList_inj.1 h
  · intro h; rw [h]

theorem cpAt_of {B : Bk} (h : allTo (cpAtB B) B.cps.length = true) : ∀ i, i < B.cps.length → cpAtB B i = true := fun i hi => by
  unfold allTo at h; exact List.all_eq_true.1 h i (List.mem_range.2 hi)

theorem cpB_of {B : Bk} (h : allTo (cpAtB B) B.cps.length = true) {c : Cp} (hc : c ∈ B.cps) : cpB B c = true := by
  obtain ⟨i, hi⟩ := List.getElem?_of_mem hc
  have := cpAt_of h i (List.getElem?_eq_some_iff.1 hi).1
  unfold cpAtB at this
  rw [hi] at this
  simp only [Bool.and_eq_true] at this
  exact this.1

theorem svcB_of {B : Bk} (h : allTo (svcAtB B) B.svcs.length = true) {s : Svc} (hs : s ∈ B.svcs) : svcB B.now s = true := by
  obtain ⟨i, hi⟩ := List.getElem?_of_mem hs
  have h1 : svcAtB B i = true := by unfold allTo at h; exact List.all_eq_true.1 h i (List.mem_range.2 (List.getElem?_eq_some_iff.1 hi).1)
  unfold svcAtB at h1
  rw [hi] at h1
  simp only [Bool.and_eq_true] at h1
  exact h1.1

structure Valid (B : Bk) : Prop where
  now : inB B.now 0 1000000 = true
  ls : B.svcs.length ≤ 8
  lc : B.cps.length ≤ 200
  lb : B.bts.length ≤ 6
  svcs : allTo (svcAtB B) B.svcs.length = true
  bts : allTo (btAtB B) B.bts.length = true
  cps : allTo (cpAtB B) B.cps.length = true

theorem validB_iff {B : Bk} : validB B = true ↔ Valid B := by
  unfold validB
  simp only [Bool.and_eq_true, decide_eq_true_eq]
  exact ⟨fun ⟨⟨⟨⟨⟨⟨a, b⟩, c⟩, d⟩, e⟩, f⟩, g⟩ => ⟨a, b, c, d, e, f, g⟩, fun h => ⟨⟨⟨⟨⟨⟨h.now, h.ls⟩, h.lc⟩, h.lb⟩, h.svcs⟩, h.bts⟩, h.cps⟩⟩

theorem inB_iff {n lo hi : Int} : inB n lo hi = true ↔ lo ≤ n ∧ n ≤ hi := by
  unfold inB
  simp

theorem Valid.svc {B : Bk} (h : Valid B) {c : Cp} (hc : c ∈ B.cps) : ∃ s, svcOf B c.service = some s ∧ cpOk B.now s c = true := by
  have := cpB_of h.cps hc
  unfold cpB at this
  cases hs : svcOf B c.service with
  | none => rw [hs] at this; cases this
  | some s => rw [hs] at this; simp only [Bool.and_eq_true] at this; exact ⟨s, rfl, this.1⟩

theorem svcOf_mem {B : Bk} {x : ByteArray} {s : Svc} (h : svcOf B x = some s) : s ∈ B.svcs := List.mem_of_find?_eq_some h

structure SvcIn (s : Svc) : Prop where
  want0 : 0 ≤ s.want
  want1 : s.want ≤ 10
  down0 : 0 ≤ s.down
  down1 : s.down ≤ 10
  over0 : 0 ≤ s.over
  over1 : s.over ≤ 10
  next0 : 1 ≤ s.next
  next1 : s.next ≤ 1000000

theorem Valid.svcIn {B : Bk} (h : Valid B) {s : Svc} (hs : s ∈ B.svcs) : SvcIn s := by
  have := svcB_of h.svcs hs
  unfold svcB at this
  simp only [Bool.and_eq_true, inB_iff] at this
  obtain ⟨⟨⟨⟨⟨⟨_, h1⟩, h2⟩, h3⟩, h4⟩, _⟩, _⟩ := this
  exact ⟨h2.1, h2.2, h3.1, h3.2, h4.1, h4.2, h1.1, h1.2⟩

end Go.Proofs.YtbceafpodamnfabGreat

/-
  My own. The copies of a service are searched for: cmp.Compare of names, slices.BinarySearchFunc.
-/
namespace Go.Proofs.YtbceafpodamnfabGreat
open Go.RowKit Go.Sort

def cmpS (a b : ByteArray) : Int := if Op.bytesLess a.toList b.toList = true then -1 else if (a.toList == b.toList) = true then 0 else 1

set_option maxHeartbeats 1000000 in
theorem isNaNS_any (a : ByteArray) (w : World) : Calls Tryz.prog 155 #[.string a] w fun e w' => e = .returned (.bool false) ∧ w' = w := by
  go_enter Tryz.func155, Tryz.ntmps155
  go_wp2
  go_ret
  exact ⟨rfl, rfl⟩

set_option maxHeartbeats 1000000 in
theorem cmpStr_any (a b : ByteArray) (w : World) : Calls Tryz.prog 138 #[.string a, .string b] w fun e w' => e = .returned (.int .i64 (cmpS a b)) ∧ w' = w := by
  obtain ⟨cd, HCD⟩ : ∃ cd, Hid (cmpS a b = cd) := ⟨_, rfl⟩
  rw [HCD.out]
  go_enter Tryz.func138, Tryz.ntmps138
  go_wp2_with fail
  refine (isNaNS_any a _).mono ?_
  rintro e _ ⟨rfl, rfl⟩
  go_wp2_with fail
  refine (isNaNS_any b _).mono ?_
  rintro e _ ⟨rfl, rfl⟩
  cases h1 : Op.bytesLess a.toList b.toList
  · cases h2 : (a.toList == b.toList)
    · have HC : Hid (cd = 1) := by unfold Hid; rw [← HCD.out]; unfold cmpS; rw [h1, h2]; rfl
      go_wp2
      go_ret
      exact ⟨by rw [HC.out]; rfl, rfl⟩
    · have HC : Hid (cd = 0) := by unfold Hid; rw [← HCD.out]; unfold cmpS; rw [h1, h2]; rfl
      go_wp2
      go_ret
      exact ⟨by rw [HC.out]; rfl, rfl⟩
  · have HC : Hid (cd = -1) := by unfold Hid; rw [← HCD.out]; unfold cmpS; rw [h1]; rfl
    go_wp2
    go_ret
    exact ⟨by rw [HC.out]; rfl, rfl⟩

set_option maxRecDepth 100000 in
set_option maxHeartbeats 2000000 in
theorem cmpC_any (x : Cp) (nm : ByteArray) (w : World) : Calls Tryz.prog 137 #[.agg #[.string x.service, .int .i64 x.number, .int .i64 x.version, .int .i64 x.image, .int .i64 x.state, .bool x.ending, .string x.berth], .string nm] w fun e w' => e = .returned (.int .i64 (cmpS x.service nm)) ∧ Below w.heap.size w w' := by
  obtain ⟨W0, hW0⟩ : ∃ W, w.alloc (.cells #[.string x.service, .int .i64 x.number, .int .i64 x.version, .int .i64 x.image, .int .i64 x.state, .bool x.ending, .string x.berth] 88) = W := ⟨_, rfl⟩
  have hb0 := below_box w (.cells #[.string x.service, .int .i64 x.number, .int .i64 x.version, .int .i64 x.image, .int .i64 x.state, .bool x.ending, .string x.berth] 88)
  have t0 := heap_alloc_new w (.cells #[.string x.service, .int .i64 x.number, .int .i64 x.version, .int .i64 x.image, .int .i64 x.state, .bool x.ending, .string x.berth] 88)
  rw [hW0] at hb0 t0
  have e0 := blk_cell t0 0 rfl
  clear t0
  go_enter Tryz.func137, Tryz.ntmps137
  go_upto_region 1 with fail
  clear hW0
  go_wp2_with fail
  refine (cmpStr_any x.service nm W0).mono ?_
  rintro e _ ⟨rfl, rfl⟩
  clear e0
  go_wp2
  go_ret
  exact ⟨rfl, hb0⟩

/-- A service's copies stand together: names never fall. -/
def RiseC (l : List Cp) : Prop := ∀ (i j : Nat) s t, i < j → l[i]? = some s → l[j]? = some t → Op.bytesLess t.service.toList s.service.toList = false

theorem less_of_not {a b c : List UInt8} (h : Op.bytesLess b a = false) (h2 : Op.bytesLess b c = true) : Op.bytesLess a c = true := by
  have t := bytesLess_tri a b
  rw [h] at t
  simp only [Bool.not_false, Bool.or_eq_true] at t
  rcases t with t | t
  · exact bytesLess_trans _ _ _ t h2
  · rw [eq_of_beq t]; exact h2
theorem not_of_not {a b c : List UInt8} (h : Op.bytesLess b a = false) (h2 : Op.bytesLess a c = false) : Op.bytesLess b c = false := by
  cases hb : Op.bytesLess b c
  · rfl
  · rw [less_of_not h hb] at h2; cases h2

theorem ahead_not_less {a b : Cp} (h : aheadB a b = true) : Op.bytesLess b.service.toList a.service.toList = false := by
  unfold aheadB at h
  simp only [Bool.or_eq_true, Bool.and_eq_true] at h
  rcases h with h | h
  · have t := bytesLess_tri b.service.toList a.service.toList
    rw [h] at t
    simp only [Bool.not_true, Bool.or_eq_false_iff] at t
    exact t.1
  · rw [eq_of_beq h.1]; exact bytesLess_irrefl _

theorem riseC_of {B : Bk} (h : Valid B) : RiseC B.cps := by
  have step : ∀ (k : Nat) s t, B.cps[k]? = some s → B.cps[k + 1]? = some t → Op.bytesLess t.service.toList s.service.toList = false := by
    intro k s t hs ht
    have h1 := cpAt_of h.cps (k + 1) (List.getElem?_eq_some_iff.1 ht).1
    unfold cpAtB at h1
    rw [ht] at h1
    simp only [Nat.add_sub_cancel, hs, Bool.and_eq_true, Bool.or_eq_true] at h1
    have h2 : aheadB s t = true := by
      rcases h1.2 with h | h
      · exact absurd h (by simp)
      · exact h
    exact ahead_not_less h2
  intro i j s t hij hs ht
  obtain ⟨d, rfl⟩ : ∃ d, j = i + 1 + d := ⟨j - (i + 1), by omega⟩
  clear hij
  induction d generalizing t with
  | zero => exact step i s t hs ht
  | succ d ih =>
    have hlt := (List.getElem?_eq_some_iff.1 ht).1
    obtain ⟨u, hu⟩ : ∃ u, B.cps[i + 1 + d]? = some u := ⟨B.cps[i + 1 + d]'(by omega), by rw [List.getElem?_eq_getElem]⟩
    exact not_of_not (step (i + 1 + d) u t hu (by rw [← ht]; rfl)) (ih u hu)

set_option maxRecDepth 100000 in
set_option maxHeartbeats 16000000 in
theorem bsC_any (l : List Cp) (nm : ByteArray) (ao : Option Addr) (n cap : Nat) (w : World) (HN : Hid (l.length = n)) (hl : n ≤ 1048576) (HSO : Hid (RiseC l)) (HC : Hid (SlC w ao l)) :
    Calls Tryz.prog 136 #[.slice ao n cap, .string nm, .func (.func 137) #[] #[]] w fun e w' => ∃ (k : Nat) (fd : Bool), e = .returned (.tuple #[.int .i64 k, .bool fd]) ∧ k ≤ n ∧ (∀ (i : Nat) s, i < k → l[i]? = some s → Op.bytesLess s.service.toList nm.toList = true) ∧ (∀ (i : Nat) s, k ≤ i → l[i]? = some s → Op.bytesLess s.service.toList nm.toList = false) ∧ Below w.heap.size w w' := by
  go_enter Tryz.func136, Tryz.ntmps136
  go_wp2
  go_loopw [9, 10] (fun iv jv wr => ∃ (i j : Nat), i ≤ j ∧ j ≤ n ∧ iv = .int .i64 i ∧ jv = .int .i64 j ∧ Below w.heap.size w wr ∧ Hid (∀ (q : Nat) s, q < i → l[q]? = some s → Op.bytesLess s.service.toList nm.toList = true) ∧ Hid (∀ (q : Nat) s, j ≤ q → l[q]? = some s → Op.bytesLess s.service.toList nm.toList = false)) (fun i j _ => (intOf j).toNat - (intOf i).toNat)
  case atStart => exact ⟨0, n, by omega, by omega, rfl, rfl, Below.refl _ _, fun q s hq => absurd hq (by omega), fun q s hq hs => absurd (List.getElem?_eq_some_iff.1 hs).1 (by rw [HN.out]; omega)⟩
  case round =>
    obtain ⟨i, j, hij, hjn, rfl, rfl, hb, HL, HG⟩ := hrel
    by_cases hlt : i < j
    · have hne : l ≠ [] := by intro h; have := HN.out; rw [h] at this; simp at this; omega
      obtain ⟨g, off, rfl, hgl, hat⟩ := HC.out hne
      have HAT : Hid (CpsAt w g off l) := hat
      clear hat
      go_upto_region 5 with fail
      obtain ⟨h, hh⟩ : ∃ h : Nat, ((i : Int) + (j : Int)) / 2 = (h : Int) := ⟨(i + j) / 2, by omega⟩
      have h1 : i ≤ h := by omega
      have h2 : h < j := by omega
      rw [hh]
      clear hh
      obtain ⟨s, hs⟩ : ∃ s, l[h]? = some s := ⟨l[h]'(by rw [HN.out]; omega), by rw [List.getElem?_eq_getElem]⟩
      have HLS : Hid (l[h]? = some s) := hs
      have hcs := (HAT.out h s hs).below hb hgl
      clear hs
      unfold CpAt at hcs
      obtain ⟨x0, x1, x2, x3, x4, x5, x6⟩ := hcs
      go_wp2_with fail
      refine (cmpC_any s nm _).mono ?_
      rintro e w2 ⟨rfl, hbq⟩
      have hb2 := hb.trans (hbq.mono hb.size)
      clear hbq x0 x1 x2 x3 x4 x5 x6
      cases hle : Op.bytesLess s.service.toList nm.toList
      · have h0 : ¬ (cmpS s.service nm < 0) := by unfold cmpS; rw [hle]; simp only [Bool.false_eq_true, if_false]; split <;> omega
        go_wp2
        go_roundw
        case rel => exact ⟨i, h, by omega, by omega, (by first | rfl | trivial), (by first | rfl | trivial), hb2, HL, fun q t hq ht => by
          rcases Nat.lt_or_ge h q with hlt' | hge
          · exact not_of_not (HSO.out h q s t hlt' HLS.out ht) hle
          · rw [show q = h by omega, HLS.out] at ht
            cases ht
            exact hle⟩
        case measure => simp [intOf]; omega
      · have h0 : cmpS s.service nm < 0 := by unfold cmpS; rw [hle]; simp
        go_wp2
        go_roundw
        case rel => exact ⟨h + 1, j, by omega, by omega, by go_num, (by first | rfl | trivial), hb2, fun q t hq ht => by
          rcases Nat.lt_or_ge q h with hlt' | hge
          · exact less_of_not (HSO.out q h t s hlt' ht HLS.out) hle
          · rw [show q = h by omega, HLS.out] at ht
            cases ht
            exact hle, HG⟩
        case measure => simp [intOf]; omega
    · obtain rfl : i = j := by omega
      by_cases hin : i < n
      · have hne : l ≠ [] := by intro h; have := HN.out; rw [h] at this; simp at this; omega
        obtain ⟨g, off, rfl, hgl, hat⟩ := HC.out hne
        obtain ⟨s, hs⟩ : ∃ s, l[i]? = some s := ⟨l[i]'(by rw [HN.out]; omega), by rw [List.getElem?_eq_getElem]⟩
        have hcs := (hat i s hs).below hb hgl
        clear hs hat
        unfold CpAt at hcs
        obtain ⟨x0, x1, x2, x3, x4, x5, x6⟩ := hcs
        go_upto_region 8 with fail
        go_wp2_with fail
        refine (cmpC_any s nm _).mono ?_
        rintro e w2 ⟨rfl, hbq⟩
        have hb2 := hb.trans (hbq.mono hb.size)
        clear hbq x0 x1 x2 x3 x4 x5 x6
        go_wp2
        exact bodyPost_ret (by simp [results, Tryz.results136, go_sem]; rfl) rfl ⟨i, _, rfl, by omega, HL.out, HG.out, hb2⟩
      · go_wp2
        exact bodyPost_ret (v := .tuple #[.int .i64 i, .bool false]) (by simp [results, Tryz.results136, go_sem]) rfl ⟨i, false, rfl, by omega, HL.out, HG.out, hb⟩

end Go.Proofs.YtbceafpodamnfabGreat
