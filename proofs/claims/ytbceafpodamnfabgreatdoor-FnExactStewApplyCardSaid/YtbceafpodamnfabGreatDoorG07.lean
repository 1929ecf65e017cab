/-
  My own: Za, Zb, Yc, Yh, Lg.
-/
import Derived.Test.YtbceafpodamnfabGreatDoorG01
import Derived.Test.YtbceafpodamnfabGreatDoorG04
import Derived.Test.YtbceafpodamnfabGreatDoorG05
import Derived.StillTail
import Derived.Below
set_option linter.unusedVariables false
set_option linter.unusedSimpArgs false
namespace Go.Proofs.YtbceafpodamnfabGreatDoor
open Go.RowKit Go.Sort
def isC (sv : ByteArray) (num : Int) (c : Cp) : Bool := c.service.toList == sv.toList && c.number == num
def idxC (l : List Cp) (sv : ByteArray) (num : Int) : Int := idxOf (isC sv num) l
set_option maxHeartbeats 2000000 in
theorem l1Copy_any (B : Bk) (sv : ByteArray) (num : Int) (a1 a2 a3 : Option Addr) (c1 c2 c3 : Nat) (w : World) (hS : B.small) (hB : SlC w a2 B.cps) :
  Calls Tryz.prog 93 #[.agg #[.int .i64 B.now, .slice a1 B.svcs.length c1, .slice a2 B.cps.length c2, .slice a3 B.bts.length c3], .string sv, .int .i64 num] w fun e w' => e = .returned (.int .i64 (idxC B.cps sv num)) ∧ Below w.heap.size w w' := by
 obtain ⟨hl1, hl2, hl3⟩ := hS
 go_enter Tryz.func93, Tryz.ntmps93
 go_wp2
 go_loop [7] (fun i => ∃ k : Nat, k ≤ B.cps.length ∧ i = .int .i64 k ∧ Hid (∀ i, i < k → ∀ s, B.cps[i]? = some s → isC sv num s = false)) (fun i => B.cps.length - (intOf i).toNat)
 case atStart => exact ⟨0, by omega, rfl, fun i hi => absurd hi (by omega)⟩
 case round =>
  obtain ⟨k, hk, rfl, hno⟩ := hrel
  by_cases hlt : k < B.cps.length
  ·have hne : B.cps ≠ [] := by intro h; rw [h] at hlt; simp at hlt
   obtain ⟨b, off, rfl, hbs, hat⟩ := hB hne
   obtain ⟨s, hsk⟩ : ∃ s, B.cps[k]? = some s := ⟨B.cps[k], by simp [hlt]⟩
   have HSK : Hid (B.cps[k]? = some s) := hsk
   have hc := hat k s hsk
   unfold CpAt at hc
   have hc0 := hc.1
   have hc1 := hc.2.1
   clear hat hc hsk hne
   cases hq : (s.service.toList == sv.toList)
   ·have HN : Hid (isC sv num s = false) := by unfold Hid isC; rw [hq]; rfl
    go_wp2
    go_round
    case rel =>
     refine ⟨k + 1, by omega, by go_num, fun i hi t ht => ?_⟩
     rcases Nat.lt_or_ge i k with h' | h'
     ·exact hno.out i h' t ht
     ·have e : i = k := by omega
      subst e
      rw [HSK.out] at ht; cases ht; exact HN.out
    case measure => simp [intOf]; omega
   cases hq2 : (s.number == num)
   ·have HN : Hid (isC sv num s = false) := by unfold Hid isC; rw [hq, hq2]; rfl
    go_wp2
    go_round
    case rel =>
     refine ⟨k + 1, by omega, by go_num, fun i hi t ht => ?_⟩
     rcases Nat.lt_or_ge i k with h' | h'
     ·exact hno.out i h' t ht
     ·have e : i = k := by omega
      subst e
      rw [HSK.out] at ht; cases ht; exact HN.out
    case measure => simp [intOf]; omega
   ·have HN : Hid (isC sv num s = true) := by unfold Hid isC; rw [hq, hq2]; rfl
    go_wp2
    go_ret
    exact ⟨ret_int (idxOf_here HSK.out HN.out hno.out).symm, below_box _ _⟩
  ·go_wp2
   go_ret
   exact ⟨ret_int (idxOf_none fun i s hs => hno.out i (by have := (List.getElem?_eq_some_iff.1 hs).1; omega) s hs).symm, below_box _ _⟩
end Go.Proofs.YtbceafpodamnfabGreatDoor

namespace Go.Proofs.YtbceafpodamnfabGreatDoor
open Go.RowKit Go.Sort
def mayL (B : Bk) (s : Svc) (sv : ByteArray) (c : Cp) : Bool := !c.ending && (c.state != 3 || (s.gone || decide (s.want - s.down ≤ (cntTo s.image sv B.cps B.cps.length).ready - 1)))
end Go.Proofs.YtbceafpodamnfabGreatDoor

namespace Go.Proofs.YtbceafpodamnfabGreatDoor
open Go.RowKit Go.Sort
set_option maxHeartbeats 8000000 in
theorem l2Count_some (B : Bk) (sv : ByteArray) (s : Svc) (a1 a2 a3 : Option Addr) (c1 c2 c3 : Nat) (w : World) (hS : B.small) (hB : BkAt w a1 a2 a3 B) (hf : svcOf B sv = some s) (N : Cnt) (hN : Hid (N = cntTo s.image sv B.cps B.cps.length)) :
  Calls Tryz.prog 95 #[.agg #[.int .i64 B.now, .slice a1 B.svcs.length c1, .slice a2 B.cps.length c2, .slice a3 B.bts.length c3], .string sv] w fun e w' => e = .returned (.agg #[.int .i64 N.live, .int .i64 N.ready, .int .i64 N.old, .int .i64 N.failed, .int .i64 N.ending]) ∧ Below w.heap.size w w' := by
 obtain ⟨ix, hix, hidx⟩ : ∃ i : Nat, B.svcs[i]? = some s ∧ idxS B.svcs sv = (i : Int) := idxOf_find hf
 have HIDX : Hid _ := hidx
 have hixlt : ix < B.svcs.length := (List.getElem?_eq_some_iff.1 hix).1
 have hne0 : B.svcs ≠ [] := by intro h; rw [h] at hixlt; simp at hixlt
 obtain ⟨bS, offS, eS, hbsS, hatS⟩ := hB.1 hne0
 subst eS
 have hsx := hatS ix s hix
 clear hf hidx hix hatS hne0
 obtain ⟨t0, t1, t2, t3⟩ := three_new w (.cells #[.int .i64 B.now, .slice (some ⟨bS, offS, none⟩) B.svcs.length c1, .slice a2 B.cps.length c2, .slice a3 B.bts.length c3] 36) (.cells #[.int .i64 0, .int .i64 0, .int .i64 0, .int .i64 0, .int .i64 0] 158) (.cells #[.int .i64 0, .int .i64 0, .int .i64 0, .int .i64 0, .int .i64 0] 158)
 have T0 : Hid _ := t0
 have T1 : Hid _ := t1
 have T2 : Hid _ := t2
 have T3 : Hid _ := t3
 clear t0 t1 t2 t3
 have hb0 : Below w.heap.size w (((w.alloc (.cells #[.int .i64 B.now, .slice (some ⟨bS, offS, none⟩) B.svcs.length c1, .slice a2 B.cps.length c2, .slice a3 B.bts.length c3] 36)).alloc (.cells #[.int .i64 0, .int .i64 0, .int .i64 0, .int .i64 0, .int .i64 0] 158)).alloc (.cells #[.int .i64 0, .int .i64 0, .int .i64 0, .int .i64 0, .int .i64 0] 158)) := (((Below.refl _ _).alloc (Nat.le_refl _) _).alloc (by simp) _).alloc (by simp; omega) _
 have hS' := hS
 obtain ⟨hl1, hl2, hl3⟩ := hS'
 go_enter Tryz.func95, Tryz.ntmps95
 go_wp2_with fail
 refine (l1Service_any B sv _ a2 a3 c1 c2 c3 _ hS (hB.1.below hb0)).mono ?_
 rintro e w1 ⟨rfl, hb1⟩
 rw [HIDX.out]
 have hbb1 := hb0.trans (hb1.mono hb0.size)
 rw [T3.out] at hb1
 have U0 : Hid _ := below_blk hb1 T0.out (by omega)
 have U1 : Hid _ := below_blk hb1 T1.out (by omega)
 have U2 : Hid _ := below_blk hb1 T2.out (by omega)
 clear hb1 hb0 T0 T1 T2 T3 HIDX
 go_wp2
 go_loopw [7] (fun iv wr => ∃ (k : Nat) (n : Cnt), k ≤ B.cps.length ∧ iv = .int .i64 k ∧ Below w.heap.size w wr ∧ Hid (wr.heap[w.heap.size]? = some (.cells #[.int .i64 B.now, .slice (some ⟨bS, offS, none⟩) B.svcs.length c1, .slice a2 B.cps.length c2, .slice a3 B.bts.length c3] 36 (0, 0))) ∧ Hid (wr.heap[w.heap.size + 1]? = some (.cells #[.int .i64 0, .int .i64 0, .int .i64 0, .int .i64 0, .int .i64 0] 158 (0, 0))) ∧ Hid (wr.heap[(w.heap.size + 1 + 1)]? = some (.cells #[.int .i64 n.live, .int .i64 n.ready, .int .i64 n.old, .int .i64 n.failed, .int .i64 n.ending] 158 (0, 0))) ∧ Hid (n = cntTo s.image sv B.cps k)) (fun i _ => B.cps.length - (intOf i).toNat)
 case atStart => exact ⟨0, Cnt.none, by omega, rfl, hbb1, U0, U1, U2, rfl⟩
 case round =>
  clear hbb1 U0 U1 U2
  obtain ⟨k, n, hk, rfl, hb, hbox, hres, hout, HN⟩ := hrel
  have hMlt : (w.heap.size + 1 + 1) < wr.heap.size := (Array.getElem?_eq_some_iff.1 hout.out).1
  have hMlt1 : w.heap.size + 1 < wr.heap.size := by omega
  have hMlt0 : w.heap.size < wr.heap.size := by omega
  have e2 := blk_cell hbox.out 2 rfl
  have o0 := blk_cell hout.out 0 rfl
  have o1 := blk_cell hout.out 1 rfl
  have o2 := blk_cell hout.out 2 rfl
  have o3 := blk_cell hout.out 3 rfl
  have o4 := blk_cell hout.out 4 rfl
  by_cases hlt : k < B.cps.length
  ·have hne : B.cps ≠ [] := by intro h; rw [h] at hlt; simp at hlt
   obtain ⟨b, off, ea, hbs, hat⟩ := hB.2.1 hne
   subst ea
   obtain ⟨c, hsk⟩ : ∃ c, B.cps[k]? = some c := ⟨B.cps[k], by simp [hlt]⟩
   have HST : Hid (cntTo s.image sv B.cps (k + 1) = cntOne s.image sv c n) := by unfold Hid; rw [cntTo_succ _ _ _ _ _ hsk, HN.out]
   have hup : n.upTo k := by rw [HN.out]; exact cntTo_upTo _ _ _ _ hk
   unfold Cnt.upTo at hup
   obtain ⟨u0, u1, u2, u3, u4, u5, u6, u7, u8, u9⟩ := hup
   have hcs := (hat k c hsk).below hb hbs
   unfold CpAt at hcs
   obtain ⟨x0, x1, x2, x3, x4, x5, x6⟩ := hcs
   have f0 := blk_frozen hout.out 0
   have f1 := blk_frozen hout.out 1
   have f2 := blk_frozen hout.out 2
   have f3 := blk_frozen hout.out 3
   have f4 := blk_frozen hout.out 4
   have hw1 := below_box wr (.cells #[.string c.service, .int .i64 c.number, .int .i64 c.version, .int .i64 c.image, .int .i64 c.state, .bool c.ending, .string c.berth] 149)
   have hb1 := hb.trans (hw1.mono hb.size)
   have box1 : Hid _ := below_blk hw1 hbox.out hMlt0
   have res1 : Hid _ := below_blk hw1 hres.out hMlt1
   have out1 : Hid _ := below_blk hw1 hout.out hMlt
   clear hsk hat hne
   cases hsame : (c.service.toList == sv.toList)
   ·have HC : Hid (n = cntTo s.image sv B.cps (k + 1)) := by unfold Hid; rw [HST.out]; simp [cntOne, hsame]
    go_wp2
    go_roundw
    case rel => exact ⟨k + 1, n, by omega, by go_num, hb1, box1, res1, out1, HC⟩
    case measure => simp [intOf]; omega
   cases hend : c.ending
   ·
    cases hst3 : (c.state == 3)
    ·cases hst4 : (c.state == 4)
     ·cases himg : (c.image != s.image)
      ·have HC : Hid ((⟨n.live + 1, n.ready, n.old, n.failed, n.ending⟩ : Cnt) = cntTo s.image sv B.cps (k + 1)) := by unfold Hid; rw [HST.out]; simp [cntOne, cntAdd, addB, hsame, hend, hst3, hst4, himg]
       have hwS := below_box (wr.setCell ⟨(w.heap.size + 1 + 1), 0, none⟩ (.int .i64 (n.live + 1))) (.cells #[.string c.service, .int .i64 c.number, .int .i64 c.version, .int .i64 c.image, .int .i64 c.state, .bool false, .string c.berth] 149)
       have hsz : (wr.setCell ⟨(w.heap.size + 1 + 1), 0, none⟩ (.int .i64 (n.live + 1))).heap.size = wr.heap.size := by simp only [size_setCell]
       have outS : Hid _ := below_blk hwS (blk_set (hout.out) 0 (.int .i64 (n.live + 1))) (by rw [hsz]; omega)
       have boxS : Hid _ := below_blk hwS (blk_ne (b := (w.heap.size + 1 + 1)) (hbox.out) 0 (.int .i64 (n.live + 1)) (by omega)) (by rw [hsz]; omega)
       have resS : Hid _ := below_blk hwS (blk_ne (b := (w.heap.size + 1 + 1)) (hres.out) 0 (.int .i64 (n.live + 1)) (by omega)) (by rw [hsz]; omega)
       have hbS := ((hb.setCell (p := ⟨(w.heap.size + 1 + 1), 0, none⟩) (by show _ ≤ (w.heap.size + 1 + 1); omega) (.int .i64 (n.live + 1)))).alloc (by rw [hsz]; exact hb.size) (.cells #[.string c.service, .int .i64 c.number, .int .i64 c.version, .int .i64 c.image, .int .i64 c.state, .bool false, .string c.berth] 149)
       have HSZ : Hid (((wr.setCell ⟨(w.heap.size + 1 + 1), 0, none⟩ (.int .i64 (n.live + 1))).alloc (.cells #[.string c.service, .int .i64 c.number, .int .i64 c.version, .int .i64 c.image, .int .i64 c.state, .bool false, .string c.berth] 149)).heap.size = wr.heap.size + 1) := by unfold Hid; rw [size_alloc', hsz]
       have cbxS : Hid _ := heap_alloc_new (wr.setCell ⟨(w.heap.size + 1 + 1), 0, none⟩ (.int .i64 (n.live + 1))) (.cells #[.string c.service, .int .i64 c.number, .int .i64 c.version, .int .i64 c.image, .int .i64 c.state, .bool false, .string c.berth] 149)
       rw [hsz] at cbxS
       have svS := (((hsx.below hb hbsS).blk (w' := (wr.setCell ⟨(w.heap.size + 1 + 1), 0, none⟩ (.int .i64 (n.live + 1)))) (blk_ne (b := (w.heap.size + 1 + 1)) (rfl) 0 (.int .i64 (n.live + 1)) (by omega))).below hwS (by rw [hsz]; omega))
       obtain ⟨z0, z1, z2, z3, z4, z5, z6, z7, z8, z9, z10, z11, z12⟩ := svS.grown
       clear z0 z1 z2 z4 z5 z6 z7 z8 z9 z10 z11 z12 svS hsz
       have gc3 := gcell cbxS.out 3 rfl
       have gb1 := gcell boxS.out 1 rfl
       go_wp2
       refine wp_region_quiet_below (by kernel_rfl) (by kernel_rfl) ?_
       repeat (first | go_big_quiet_step (fail) | quiet_step (fail))
       refine wpQuiet_nil ?_
       intro w2 hw'
       obtain ⟨⟨dq, osq⟩, hw''⟩ := hw'
       have hb2 := below_of_grow hw''
       clear hw''
       rw [HSZ.out] at hb2
       have out2 : Hid _ := below_blk hb2 outS.out (by omega)
       have box2 : Hid _ := below_blk hb2 boxS.out (by omega)
       have res2 : Hid _ := below_blk hb2 resS.out (by omega)
       have hbF := hbS.trans (hb2.mono (by omega))
       clear gc3 gb1 z3 x0 x1 x2 x3 x4 x5 x6 o0 o1 o2 o3 o4 f0 f1 f2 f3 f4
       have q2 := blk_cell out2.out 2 rfl
       have qf := blk_frozen out2.out 2
       go_wp2
       go_roundw
       case rel => exact ⟨k + 1, ⟨n.live + 1, n.ready, n.old, n.failed, n.ending⟩, by omega, by go_num, hbF, box2, res2, out2, HC⟩
       case measure => simp [intOf]; omega
      ·have HC : Hid ((⟨n.live + 1, n.ready, n.old + 1, n.failed, n.ending⟩ : Cnt) = cntTo s.image sv B.cps (k + 1)) := by unfold Hid; rw [HST.out]; simp [cntOne, cntAdd, addB, hsame, hend, hst3, hst4, himg]
       have hwS := below_box (wr.setCell ⟨(w.heap.size + 1 + 1), 0, none⟩ (.int .i64 (n.live + 1))) (.cells #[.string c.service, .int .i64 c.number, .int .i64 c.version, .int .i64 c.image, .int .i64 c.state, .bool false, .string c.berth] 149)
       have hsz : (wr.setCell ⟨(w.heap.size + 1 + 1), 0, none⟩ (.int .i64 (n.live + 1))).heap.size = wr.heap.size := by simp only [size_setCell]
       have outS : Hid _ := below_blk hwS (blk_set (hout.out) 0 (.int .i64 (n.live + 1))) (by rw [hsz]; omega)
       have boxS : Hid _ := below_blk hwS (blk_ne (b := (w.heap.size + 1 + 1)) (hbox.out) 0 (.int .i64 (n.live + 1)) (by omega)) (by rw [hsz]; omega)
       have resS : Hid _ := below_blk hwS (blk_ne (b := (w.heap.size + 1 + 1)) (hres.out) 0 (.int .i64 (n.live + 1)) (by omega)) (by rw [hsz]; omega)
       have hbS := ((hb.setCell (p := ⟨(w.heap.size + 1 + 1), 0, none⟩) (by show _ ≤ (w.heap.size + 1 + 1); omega) (.int .i64 (n.live + 1)))).alloc (by rw [hsz]; exact hb.size) (.cells #[.string c.service, .int .i64 c.number, .int .i64 c.version, .int .i64 c.image, .int .i64 c.state, .bool false, .string c.berth] 149)
       have HSZ : Hid (((wr.setCell ⟨(w.heap.size + 1 + 1), 0, none⟩ (.int .i64 (n.live + 1))).alloc (.cells #[.string c.service, .int .i64 c.number, .int .i64 c.version, .int .i64 c.image, .int .i64 c.state, .bool false, .string c.berth] 149)).heap.size = wr.heap.size + 1) := by unfold Hid; rw [size_alloc', hsz]
       have cbxS : Hid _ := heap_alloc_new (wr.setCell ⟨(w.heap.size + 1 + 1), 0, none⟩ (.int .i64 (n.live + 1))) (.cells #[.string c.service, .int .i64 c.number, .int .i64 c.version, .int .i64 c.image, .int .i64 c.state, .bool false, .string c.berth] 149)
       rw [hsz] at cbxS
       have svS := (((hsx.below hb hbsS).blk (w' := (wr.setCell ⟨(w.heap.size + 1 + 1), 0, none⟩ (.int .i64 (n.live + 1)))) (blk_ne (b := (w.heap.size + 1 + 1)) (rfl) 0 (.int .i64 (n.live + 1)) (by omega))).below hwS (by rw [hsz]; omega))
       obtain ⟨z0, z1, z2, z3, z4, z5, z6, z7, z8, z9, z10, z11, z12⟩ := svS.grown
       clear z0 z1 z2 z4 z5 z6 z7 z8 z9 z10 z11 z12 svS hsz
       have gc3 := gcell cbxS.out 3 rfl
       have gb1 := gcell boxS.out 1 rfl
       go_wp2
       refine wp_region_quiet_below (by kernel_rfl) (by kernel_rfl) ?_
       repeat (first | go_big_quiet_step (fail) | quiet_step (fail))
       refine wpQuiet_nil ?_
       intro w2 hw'
       obtain ⟨⟨dq, osq⟩, hw''⟩ := hw'
       have hb2 := below_of_grow hw''
       clear hw''
       rw [HSZ.out] at hb2
       have out2 : Hid _ := below_blk hb2 outS.out (by omega)
       have box2 : Hid _ := below_blk hb2 boxS.out (by omega)
       have res2 : Hid _ := below_blk hb2 resS.out (by omega)
       have hbF := hbS.trans (hb2.mono (by omega))
       clear gc3 gb1 z3 x0 x1 x2 x3 x4 x5 x6 o0 o1 o2 o3 o4 f0 f1 f2 f3 f4
       have q2 := blk_cell out2.out 2 rfl
       have qf := blk_frozen out2.out 2
       have outF : Hid _ := blk_set out2.out 2 (.int .i64 (n.old + 1))
       go_wp2
       go_roundw
       case rel => exact ⟨k + 1, ⟨n.live + 1, n.ready, n.old + 1, n.failed, n.ending⟩, by omega, by go_num, hbF.setCell (by simp; omega) _, blk_ne box2.out _ _ (by omega), blk_ne res2.out _ _ (by omega), outF, HC⟩
       case measure => simp [intOf]; omega
     ·cases himg : (c.image != s.image)
      ·have HC : Hid ((⟨n.live + 1, n.ready, n.old, n.failed + 1, n.ending⟩ : Cnt) = cntTo s.image sv B.cps (k + 1)) := by unfold Hid; rw [HST.out]; simp [cntOne, cntAdd, addB, hsame, hend, hst3, hst4, himg]
       have hwS := below_box ((wr.setCell ⟨(w.heap.size + 1 + 1), 0, none⟩ (.int .i64 (n.live + 1))).setCell ⟨(w.heap.size + 1 + 1), 3, none⟩ (.int .i64 (n.failed + 1))) (.cells #[.string c.service, .int .i64 c.number, .int .i64 c.version, .int .i64 c.image, .int .i64 c.state, .bool false, .string c.berth] 149)
       have hsz : ((wr.setCell ⟨(w.heap.size + 1 + 1), 0, none⟩ (.int .i64 (n.live + 1))).setCell ⟨(w.heap.size + 1 + 1), 3, none⟩ (.int .i64 (n.failed + 1))).heap.size = wr.heap.size := by simp only [size_setCell]
       have outS : Hid _ := below_blk hwS (blk_set (blk_set (hout.out) 0 (.int .i64 (n.live + 1))) 3 (.int .i64 (n.failed + 1))) (by rw [hsz]; omega)
       have boxS : Hid _ := below_blk hwS (blk_ne (b := (w.heap.size + 1 + 1)) (blk_ne (b := (w.heap.size + 1 + 1)) (hbox.out) 0 (.int .i64 (n.live + 1)) (by omega)) 3 (.int .i64 (n.failed + 1)) (by omega)) (by rw [hsz]; omega)
       have resS : Hid _ := below_blk hwS (blk_ne (b := (w.heap.size + 1 + 1)) (blk_ne (b := (w.heap.size + 1 + 1)) (hres.out) 0 (.int .i64 (n.live + 1)) (by omega)) 3 (.int .i64 (n.failed + 1)) (by omega)) (by rw [hsz]; omega)
       have hbS := (((hb.setCell (p := ⟨(w.heap.size + 1 + 1), 0, none⟩) (by show _ ≤ (w.heap.size + 1 + 1); omega) (.int .i64 (n.live + 1))).setCell (p := ⟨(w.heap.size + 1 + 1), 3, none⟩) (by show _ ≤ (w.heap.size + 1 + 1); omega) (.int .i64 (n.failed + 1)))).alloc (by rw [hsz]; exact hb.size) (.cells #[.string c.service, .int .i64 c.number, .int .i64 c.version, .int .i64 c.image, .int .i64 c.state, .bool false, .string c.berth] 149)
       have HSZ : Hid ((((wr.setCell ⟨(w.heap.size + 1 + 1), 0, none⟩ (.int .i64 (n.live + 1))).setCell ⟨(w.heap.size + 1 + 1), 3, none⟩ (.int .i64 (n.failed + 1))).alloc (.cells #[.string c.service, .int .i64 c.number, .int .i64 c.version, .int .i64 c.image, .int .i64 c.state, .bool false, .string c.berth] 149)).heap.size = wr.heap.size + 1) := by unfold Hid; rw [size_alloc', hsz]
       have cbxS : Hid _ := heap_alloc_new ((wr.setCell ⟨(w.heap.size + 1 + 1), 0, none⟩ (.int .i64 (n.live + 1))).setCell ⟨(w.heap.size + 1 + 1), 3, none⟩ (.int .i64 (n.failed + 1))) (.cells #[.string c.service, .int .i64 c.number, .int .i64 c.version, .int .i64 c.image, .int .i64 c.state, .bool false, .string c.berth] 149)
       rw [hsz] at cbxS
       have svS := (((hsx.below hb hbsS).blk (w' := ((wr.setCell ⟨(w.heap.size + 1 + 1), 0, none⟩ (.int .i64 (n.live + 1))).setCell ⟨(w.heap.size + 1 + 1), 3, none⟩ (.int .i64 (n.failed + 1)))) (blk_ne (b := (w.heap.size + 1 + 1)) (blk_ne (b := (w.heap.size + 1 + 1)) (rfl) 0 (.int .i64 (n.live + 1)) (by omega)) 3 (.int .i64 (n.failed + 1)) (by omega))).below hwS (by rw [hsz]; omega))
       obtain ⟨z0, z1, z2, z3, z4, z5, z6, z7, z8, z9, z10, z11, z12⟩ := svS.grown
       clear z0 z1 z2 z4 z5 z6 z7 z8 z9 z10 z11 z12 svS hsz
       have gc3 := gcell cbxS.out 3 rfl
       have gb1 := gcell boxS.out 1 rfl
       go_wp2
       refine wp_region_quiet_below (by kernel_rfl) (by kernel_rfl) ?_
       repeat (first | go_big_quiet_step (fail) | quiet_step (fail))
       refine wpQuiet_nil ?_
       intro w2 hw'
       obtain ⟨⟨dq, osq⟩, hw''⟩ := hw'
       have hb2 := below_of_grow hw''
       clear hw''
       rw [HSZ.out] at hb2
       have out2 : Hid _ := below_blk hb2 outS.out (by omega)
       have box2 : Hid _ := below_blk hb2 boxS.out (by omega)
       have res2 : Hid _ := below_blk hb2 resS.out (by omega)
       have hbF := hbS.trans (hb2.mono (by omega))
       clear gc3 gb1 z3 x0 x1 x2 x3 x4 x5 x6 o0 o1 o2 o3 o4 f0 f1 f2 f3 f4
       have q2 := blk_cell out2.out 2 rfl
       have qf := blk_frozen out2.out 2
       go_wp2
       go_roundw
       case rel => exact ⟨k + 1, ⟨n.live + 1, n.ready, n.old, n.failed + 1, n.ending⟩, by omega, by go_num, hbF, box2, res2, out2, HC⟩
       case measure => simp [intOf]; omega
      ·have HC : Hid ((⟨n.live + 1, n.ready, n.old + 1, n.failed + 1, n.ending⟩ : Cnt) = cntTo s.image sv B.cps (k + 1)) := by unfold Hid; rw [HST.out]; simp [cntOne, cntAdd, addB, hsame, hend, hst3, hst4, himg]
       have hwS := below_box ((wr.setCell ⟨(w.heap.size + 1 + 1), 0, none⟩ (.int .i64 (n.live + 1))).setCell ⟨(w.heap.size + 1 + 1), 3, none⟩ (.int .i64 (n.failed + 1))) (.cells #[.string c.service, .int .i64 c.number, .int .i64 c.version, .int .i64 c.image, .int .i64 c.state, .bool false, .string c.berth] 149)
       have hsz : ((wr.setCell ⟨(w.heap.size + 1 + 1), 0, none⟩ (.int .i64 (n.live + 1))).setCell ⟨(w.heap.size + 1 + 1), 3, none⟩ (.int .i64 (n.failed + 1))).heap.size = wr.heap.size := by simp only [size_setCell]
       have outS : Hid _ := below_blk hwS (blk_set (blk_set (hout.out) 0 (.int .i64 (n.live + 1))) 3 (.int .i64 (n.failed + 1))) (by rw [hsz]; omega)
       have boxS : Hid _ := below_blk hwS (blk_ne (b := (w.heap.size + 1 + 1)) (blk_ne (b := (w.heap.size + 1 + 1)) (hbox.out) 0 (.int .i64 (n.live + 1)) (by omega)) 3 (.int .i64 (n.failed + 1)) (by omega)) (by rw [hsz]; omega)
       have resS : Hid _ := below_blk hwS (blk_ne (b := (w.heap.size + 1 + 1)) (blk_ne (b := (w.heap.size + 1 + 1)) (hres.out) 0 (.int .i64 (n.live + 1)) (by omega)) 3 (.int .i64 (n.failed + 1)) (by omega)) (by rw [hsz]; omega)
       have hbS := (((hb.setCell (p := ⟨(w.heap.size + 1 + 1), 0, none⟩) (by show _ ≤ (w.heap.size + 1 + 1); omega) (.int .i64 (n.live + 1))).setCell (p := ⟨(w.heap.size + 1 + 1), 3, none⟩) (by show _ ≤ (w.heap.size + 1 + 1); omega) (.int .i64 (n.failed + 1)))).alloc (by rw [hsz]; exact hb.size) (.cells #[.string c.service, .int .i64 c.number, .int .i64 c.version, .int .i64 c.image, .int .i64 c.state, .bool false, .string c.berth] 149)
       have HSZ : Hid ((((wr.setCell ⟨(w.heap.size + 1 + 1), 0, none⟩ (.int .i64 (n.live + 1))).setCell ⟨(w.heap.size + 1 + 1), 3, none⟩ (.int .i64 (n.failed + 1))).alloc (.cells #[.string c.service, .int .i64 c.number, .int .i64 c.version, .int .i64 c.image, .int .i64 c.state, .bool false, .string c.berth] 149)).heap.size = wr.heap.size + 1) := by unfold Hid; rw [size_alloc', hsz]
       have cbxS : Hid _ := heap_alloc_new ((wr.setCell ⟨(w.heap.size + 1 + 1), 0, none⟩ (.int .i64 (n.live + 1))).setCell ⟨(w.heap.size + 1 + 1), 3, none⟩ (.int .i64 (n.failed + 1))) (.cells #[.string c.service, .int .i64 c.number, .int .i64 c.version, .int .i64 c.image, .int .i64 c.state, .bool false, .string c.berth] 149)
       rw [hsz] at cbxS
       have svS := (((hsx.below hb hbsS).blk (w' := ((wr.setCell ⟨(w.heap.size + 1 + 1), 0, none⟩ (.int .i64 (n.live + 1))).setCell ⟨(w.heap.size + 1 + 1), 3, none⟩ (.int .i64 (n.failed + 1)))) (blk_ne (b := (w.heap.size + 1 + 1)) (blk_ne (b := (w.heap.size + 1 + 1)) (rfl) 0 (.int .i64 (n.live + 1)) (by omega)) 3 (.int .i64 (n.failed + 1)) (by omega))).below hwS (by rw [hsz]; omega))
       obtain ⟨z0, z1, z2, z3, z4, z5, z6, z7, z8, z9, z10, z11, z12⟩ := svS.grown
       clear z0 z1 z2 z4 z5 z6 z7 z8 z9 z10 z11 z12 svS hsz
       have gc3 := gcell cbxS.out 3 rfl
       have gb1 := gcell boxS.out 1 rfl
       go_wp2
       refine wp_region_quiet_below (by kernel_rfl) (by kernel_rfl) ?_
       repeat (first | go_big_quiet_step (fail) | quiet_step (fail))
       refine wpQuiet_nil ?_
       intro w2 hw'
       obtain ⟨⟨dq, osq⟩, hw''⟩ := hw'
       have hb2 := below_of_grow hw''
       clear hw''
       rw [HSZ.out] at hb2
       have out2 : Hid _ := below_blk hb2 outS.out (by omega)
       have box2 : Hid _ := below_blk hb2 boxS.out (by omega)
       have res2 : Hid _ := below_blk hb2 resS.out (by omega)
       have hbF := hbS.trans (hb2.mono (by omega))
       clear gc3 gb1 z3 x0 x1 x2 x3 x4 x5 x6 o0 o1 o2 o3 o4 f0 f1 f2 f3 f4
       have q2 := blk_cell out2.out 2 rfl
       have qf := blk_frozen out2.out 2
       have outF : Hid _ := blk_set out2.out 2 (.int .i64 (n.old + 1))
       go_wp2
       go_roundw
       case rel => exact ⟨k + 1, ⟨n.live + 1, n.ready, n.old + 1, n.failed + 1, n.ending⟩, by omega, by go_num, hbF.setCell (by simp; omega) _, blk_ne box2.out _ _ (by omega), blk_ne res2.out _ _ (by omega), outF, HC⟩
       case measure => simp [intOf]; omega
    ·have hst4 : (c.state == 4) = false := by have h := eq_of_beq hst3; rw [h]; rfl
     cases himg : (c.image != s.image)
     ·have HC : Hid ((⟨n.live + 1, n.ready + 1, n.old, n.failed, n.ending⟩ : Cnt) = cntTo s.image sv B.cps (k + 1)) := by unfold Hid; rw [HST.out]; simp [cntOne, cntAdd, addB, hsame, hend, hst3, hst4, himg]
      have hwS := below_box ((wr.setCell ⟨(w.heap.size + 1 + 1), 0, none⟩ (.int .i64 (n.live + 1))).setCell ⟨(w.heap.size + 1 + 1), 1, none⟩ (.int .i64 (n.ready + 1))) (.cells #[.string c.service, .int .i64 c.number, .int .i64 c.version, .int .i64 c.image, .int .i64 c.state, .bool false, .string c.berth] 149)
      have hsz : ((wr.setCell ⟨(w.heap.size + 1 + 1), 0, none⟩ (.int .i64 (n.live + 1))).setCell ⟨(w.heap.size + 1 + 1), 1, none⟩ (.int .i64 (n.ready + 1))).heap.size = wr.heap.size := by simp only [size_setCell]
      have outS : Hid _ := below_blk hwS (blk_set (blk_set (hout.out) 0 (.int .i64 (n.live + 1))) 1 (.int .i64 (n.ready + 1))) (by rw [hsz]; omega)
      have boxS : Hid _ := below_blk hwS (blk_ne (b := (w.heap.size + 1 + 1)) (blk_ne (b := (w.heap.size + 1 + 1)) (hbox.out) 0 (.int .i64 (n.live + 1)) (by omega)) 1 (.int .i64 (n.ready + 1)) (by omega)) (by rw [hsz]; omega)
      have resS : Hid _ := below_blk hwS (blk_ne (b := (w.heap.size + 1 + 1)) (blk_ne (b := (w.heap.size + 1 + 1)) (hres.out) 0 (.int .i64 (n.live + 1)) (by omega)) 1 (.int .i64 (n.ready + 1)) (by omega)) (by rw [hsz]; omega)
      have hbS := (((hb.setCell (p := ⟨(w.heap.size + 1 + 1), 0, none⟩) (by show _ ≤ (w.heap.size + 1 + 1); omega) (.int .i64 (n.live + 1))).setCell (p := ⟨(w.heap.size + 1 + 1), 1, none⟩) (by show _ ≤ (w.heap.size + 1 + 1); omega) (.int .i64 (n.ready + 1)))).alloc (by rw [hsz]; exact hb.size) (.cells #[.string c.service, .int .i64 c.number, .int .i64 c.version, .int .i64 c.image, .int .i64 c.state, .bool false, .string c.berth] 149)
      have HSZ : Hid ((((wr.setCell ⟨(w.heap.size + 1 + 1), 0, none⟩ (.int .i64 (n.live + 1))).setCell ⟨(w.heap.size + 1 + 1), 1, none⟩ (.int .i64 (n.ready + 1))).alloc (.cells #[.string c.service, .int .i64 c.number, .int .i64 c.version, .int .i64 c.image, .int .i64 c.state, .bool false, .string c.berth] 149)).heap.size = wr.heap.size + 1) := by unfold Hid; rw [size_alloc', hsz]
      have cbxS : Hid _ := heap_alloc_new ((wr.setCell ⟨(w.heap.size + 1 + 1), 0, none⟩ (.int .i64 (n.live + 1))).setCell ⟨(w.heap.size + 1 + 1), 1, none⟩ (.int .i64 (n.ready + 1))) (.cells #[.string c.service, .int .i64 c.number, .int .i64 c.version, .int .i64 c.image, .int .i64 c.state, .bool false, .string c.berth] 149)
      rw [hsz] at cbxS
      have svS := (((hsx.below hb hbsS).blk (w' := ((wr.setCell ⟨(w.heap.size + 1 + 1), 0, none⟩ (.int .i64 (n.live + 1))).setCell ⟨(w.heap.size + 1 + 1), 1, none⟩ (.int .i64 (n.ready + 1)))) (blk_ne (b := (w.heap.size + 1 + 1)) (blk_ne (b := (w.heap.size + 1 + 1)) (rfl) 0 (.int .i64 (n.live + 1)) (by omega)) 1 (.int .i64 (n.ready + 1)) (by omega))).below hwS (by rw [hsz]; omega))
      obtain ⟨z0, z1, z2, z3, z4, z5, z6, z7, z8, z9, z10, z11, z12⟩ := svS.grown
      clear z0 z1 z2 z4 z5 z6 z7 z8 z9 z10 z11 z12 svS hsz
      have gc3 := gcell cbxS.out 3 rfl
      have gb1 := gcell boxS.out 1 rfl
      go_wp2
      refine wp_region_quiet_below (by kernel_rfl) (by kernel_rfl) ?_
      repeat (first | go_big_quiet_step (fail) | quiet_step (fail))
      refine wpQuiet_nil ?_
      intro w2 hw'
      obtain ⟨⟨dq, osq⟩, hw''⟩ := hw'
      have hb2 := below_of_grow hw''
      clear hw''
      rw [HSZ.out] at hb2
      have out2 : Hid _ := below_blk hb2 outS.out (by omega)
      have box2 : Hid _ := below_blk hb2 boxS.out (by omega)
      have res2 : Hid _ := below_blk hb2 resS.out (by omega)
      have hbF := hbS.trans (hb2.mono (by omega))
      clear gc3 gb1 z3 x0 x1 x2 x3 x4 x5 x6 o0 o1 o2 o3 o4 f0 f1 f2 f3 f4
      have q2 := blk_cell out2.out 2 rfl
      have qf := blk_frozen out2.out 2
      go_wp2
      go_roundw
      case rel => exact ⟨k + 1, ⟨n.live + 1, n.ready + 1, n.old, n.failed, n.ending⟩, by omega, by go_num, hbF, box2, res2, out2, HC⟩
      case measure => simp [intOf]; omega
     ·have HC : Hid ((⟨n.live + 1, n.ready + 1, n.old + 1, n.failed, n.ending⟩ : Cnt) = cntTo s.image sv B.cps (k + 1)) := by unfold Hid; rw [HST.out]; simp [cntOne, cntAdd, addB, hsame, hend, hst3, hst4, himg]
      have hwS := below_box ((wr.setCell ⟨(w.heap.size + 1 + 1), 0, none⟩ (.int .i64 (n.live + 1))).setCell ⟨(w.heap.size + 1 + 1), 1, none⟩ (.int .i64 (n.ready + 1))) (.cells #[.string c.service, .int .i64 c.number, .int .i64 c.version, .int .i64 c.image, .int .i64 c.state, .bool false, .string c.berth] 149)
      have hsz : ((wr.setCell ⟨(w.heap.size + 1 + 1), 0, none⟩ (.int .i64 (n.live + 1))).setCell ⟨(w.heap.size + 1 + 1), 1, none⟩ (.int .i64 (n.ready + 1))).heap.size = wr.heap.size := by simp only [size_setCell]
      have outS : Hid _ := below_blk hwS (blk_set (blk_set (hout.out) 0 (.int .i64 (n.live + 1))) 1 (.int .i64 (n.ready + 1))) (by rw [hsz]; omega)
      have boxS : Hid _ := below_blk hwS (blk_ne (b := (w.heap.size + 1 + 1)) (blk_ne (b := (w.heap.size + 1 + 1)) (hbox.out) 0 (.int .i64 (n.live + 1)) (by omega)) 1 (.int .i64 (n.ready + 1)) (by omega)) (by rw [hsz]; omega)
      have resS : Hid _ := below_blk hwS (blk_ne (b := (w.heap.size + 1 + 1)) (blk_ne (b := (w.heap.size + 1 + 1)) (hres.out) 0 (.int .i64 (n.live + 1)) (by omega)) 1 (.int .i64 (n.ready + 1)) (by omega)) (by rw [hsz]; omega)
      have hbS := (((hb.setCell (p := ⟨(w.heap.size + 1 + 1), 0, none⟩) (by show _ ≤ (w.heap.size + 1 + 1); omega) (.int .i64 (n.live + 1))).setCell (p := ⟨(w.heap.size + 1 + 1), 1, none⟩) (by show _ ≤ (w.heap.size + 1 + 1); omega) (.int .i64 (n.ready + 1)))).alloc (by rw [hsz]; exact hb.size) (.cells #[.string c.service, .int .i64 c.number, .int .i64 c.version, .int .i64 c.image, .int .i64 c.state, .bool false, .string c.berth] 149)
      have HSZ : Hid ((((wr.setCell ⟨(w.heap.size + 1 + 1), 0, none⟩ (.int .i64 (n.live + 1))).setCell ⟨(w.heap.size + 1 + 1), 1, none⟩ (.int .i64 (n.ready + 1))).alloc (.cells #[.string c.service, .int .i64 c.number, .int .i64 c.version, .int .i64 c.image, .int .i64 c.state, .bool false, .string c.berth] 149)).heap.size = wr.heap.size + 1) := by unfold Hid; rw [size_alloc', hsz]
      have cbxS : Hid _ := heap_alloc_new ((wr.setCell ⟨(w.heap.size + 1 + 1), 0, none⟩ (.int .i64 (n.live + 1))).setCell ⟨(w.heap.size + 1 + 1), 1, none⟩ (.int .i64 (n.ready + 1))) (.cells #[.string c.service, .int .i64 c.number, .int .i64 c.version, .int .i64 c.image, .int .i64 c.state, .bool false, .string c.berth] 149)
      rw [hsz] at cbxS
      have svS := (((hsx.below hb hbsS).blk (w' := ((wr.setCell ⟨(w.heap.size + 1 + 1), 0, none⟩ (.int .i64 (n.live + 1))).setCell ⟨(w.heap.size + 1 + 1), 1, none⟩ (.int .i64 (n.ready + 1)))) (blk_ne (b := (w.heap.size + 1 + 1)) (blk_ne (b := (w.heap.size + 1 + 1)) (rfl) 0 (.int .i64 (n.live + 1)) (by omega)) 1 (.int .i64 (n.ready + 1)) (by omega))).below hwS (by rw [hsz]; omega))
      obtain ⟨z0, z1, z2, z3, z4, z5, z6, z7, z8, z9, z10, z11, z12⟩ := svS.grown
      clear z0 z1 z2 z4 z5 z6 z7 z8 z9 z10 z11 z12 svS hsz
      have gc3 := gcell cbxS.out 3 rfl
      have gb1 := gcell boxS.out 1 rfl
      go_wp2
      refine wp_region_quiet_below (by kernel_rfl) (by kernel_rfl) ?_
      repeat (first | go_big_quiet_step (fail) | quiet_step (fail))
      refine wpQuiet_nil ?_
      intro w2 hw'
      obtain ⟨⟨dq, osq⟩, hw''⟩ := hw'
      have hb2 := below_of_grow hw''
      clear hw''
      rw [HSZ.out] at hb2
      have out2 : Hid _ := below_blk hb2 outS.out (by omega)
      have box2 : Hid _ := below_blk hb2 boxS.out (by omega)
      have res2 : Hid _ := below_blk hb2 resS.out (by omega)
      have hbF := hbS.trans (hb2.mono (by omega))
      clear gc3 gb1 z3 x0 x1 x2 x3 x4 x5 x6 o0 o1 o2 o3 o4 f0 f1 f2 f3 f4
      have q2 := blk_cell out2.out 2 rfl
      have qf := blk_frozen out2.out 2
      have outF : Hid _ := blk_set out2.out 2 (.int .i64 (n.old + 1))
      go_wp2
      go_roundw
      case rel => exact ⟨k + 1, ⟨n.live + 1, n.ready + 1, n.old + 1, n.failed, n.ending⟩, by omega, by go_num, hbF.setCell (by simp; omega) _, blk_ne box2.out _ _ (by omega), blk_ne res2.out _ _ (by omega), outF, HC⟩
      case measure => simp [intOf]; omega
   ·have HC : Hid ({ n with ending := n.ending + 1 } = cntTo s.image sv B.cps (k + 1)) := by unfold Hid; rw [HST.out]; simp [cntOne, cntAdd, hsame, hend]
    have hwS := below_box (wr.setCell ⟨(w.heap.size + 1 + 1), 4, none⟩ (.int .i64 (n.ending + 1))) (.cells #[.string c.service, .int .i64 c.number, .int .i64 c.version, .int .i64 c.image, .int .i64 c.state, .bool true, .string c.berth] 149)
    have hsz : (wr.setCell ⟨(w.heap.size + 1 + 1), 4, none⟩ (.int .i64 (n.ending + 1))).heap.size = wr.heap.size := by simp only [size_setCell]
    have outS : Hid _ := below_blk hwS (blk_set (hout.out) 4 (.int .i64 (n.ending + 1))) (by rw [hsz]; omega)
    have boxS : Hid _ := below_blk hwS (blk_ne (b := (w.heap.size + 1 + 1)) (hbox.out) 4 (.int .i64 (n.ending + 1)) (by omega)) (by rw [hsz]; omega)
    have resS : Hid _ := below_blk hwS (blk_ne (b := (w.heap.size + 1 + 1)) (hres.out) 4 (.int .i64 (n.ending + 1)) (by omega)) (by rw [hsz]; omega)
    have hbS := ((hb.setCell (p := ⟨(w.heap.size + 1 + 1), 4, none⟩) (by show _ ≤ (w.heap.size + 1 + 1); omega) (.int .i64 (n.ending + 1)))).alloc (by rw [hsz]; exact hb.size) (.cells #[.string c.service, .int .i64 c.number, .int .i64 c.version, .int .i64 c.image, .int .i64 c.state, .bool true, .string c.berth] 149)
    have HSZ : Hid (((wr.setCell ⟨(w.heap.size + 1 + 1), 4, none⟩ (.int .i64 (n.ending + 1))).alloc (.cells #[.string c.service, .int .i64 c.number, .int .i64 c.version, .int .i64 c.image, .int .i64 c.state, .bool true, .string c.berth] 149)).heap.size = wr.heap.size + 1) := by unfold Hid; rw [size_alloc', hsz]
    go_wp2
    go_roundw
    case rel => exact ⟨k + 1, { n with ending := n.ending + 1 }, by omega, by go_num, hbS, boxS, resS, outS, HC⟩
    case measure => simp [intOf]; omega
  ·have hkl : k = B.cps.length := by omega
   have HNN : Hid (N = n) := by unfold Hid; rw [hN.out, HN.out, hkl]
   have p0 := blk_cell hres.out 0 rfl
   have p1 := blk_cell hres.out 1 rfl
   have p2 := blk_cell hres.out 2 rfl
   have p3 := blk_cell hres.out 3 rfl
   have p4 := blk_cell hres.out 4 rfl
   have g0 := blk_frozen hres.out 0
   have g1 := blk_frozen hres.out 1
   have g2 := blk_frozen hres.out 2
   have g3 := blk_frozen hres.out 3
   have g4 := blk_frozen hres.out 4
   clear hkl
   go_wp2
   refine bodyPost_ret (v := .agg #[.int .i64 n.live, .int .i64 n.ready, .int .i64 n.old, .int .i64 n.failed, .int .i64 n.ending]) (by simp [results, Tryz.results95, go_sem, p0, p1, p2, p3, p4]) rfl ⟨by rw [HNN.out], ?_⟩
   exact ((((hb.setCell (by simp) _).setCell (by simp) _).setCell (by simp) _).setCell (by simp) _).setCell (by simp) _
end Go.Proofs.YtbceafpodamnfabGreatDoor

namespace Go.Proofs.YtbceafpodamnfabGreatDoor
open Go.RowKit Go.Sort
theorem l2Count_any (B : Bk) (sv : ByteArray) (a1 a2 a3 : Option Addr) (c1 c2 c3 : Nat) (w : World) (hS : B.small) (hB : BkAt w a1 a2 a3 B) (N : Cnt) (hN : Hid (N = cntB B sv)) :
  Calls Tryz.prog 95 #[.agg #[.int .i64 B.now, .slice a1 B.svcs.length c1, .slice a2 B.cps.length c2, .slice a3 B.bts.length c3], .string sv] w fun e w' => e = .returned (.agg #[.int .i64 N.live, .int .i64 N.ready, .int .i64 N.old, .int .i64 N.failed, .int .i64 N.ending]) ∧ Below w.heap.size w w' := by
 cases hf : svcOf B sv with
 | none =>
  have e : N = Cnt.none := by rw [hN.out]; unfold cntB; rw [hf]
  subst e
  exact l2Count_none B sv a1 a2 a3 c1 c2 c3 w hS hB hf
 | some s => exact l2Count_some B sv s a1 a2 a3 c1 c2 c3 w hS hB hf N (by unfold Hid; rw [hN.out]; unfold cntB; rw [hf])
theorem run_field_count (a b c d e : Int) (w : World) : (Instr.field 158 (.agg #[.int .i64 a, .int .i64 b, .int .i64 c, .int .i64 d, .int .i64 e]) 1).run Tryz.prog w = .ok (.int .i64 b) w := by
 kernel_rfl
theorem run_field_count0 (a b c d e : Int) (w : World) : (Instr.field 158 (.agg #[.int .i64 a, .int .i64 b, .int .i64 c, .int .i64 d, .int .i64 e]) 0).run Tryz.prog w = .ok (.int .i64 a) w := by
 kernel_rfl
end Go.Proofs.YtbceafpodamnfabGreatDoor

namespace Go.Proofs.YtbceafpodamnfabGreatDoor
open Go Go.RowKit
section
variable {P : Program} {ops : Array Oper} {md : Region.Mode} {Q : Exit → Act → World → Prop}
def putAll (ops : Array Oper) (V : Nat → Value) : Nat → Act → Act
 | 0, a => a
 | n + 1, a => (putAll ops V n a).put ((ops[n]?).bind (·.dst)) (V n)
def upd (V : Nat → Value) (i : Nat) (v : Value) : Nat → Value := fun j => if j = i then v else V j
theorem put_put (a : Act) (d : Option Tmp) (u v : Value) : (a.put d u).put d v = a.put d v := by
 cases d <;> simp [Act.put]
theorem putAll_off (V : Nat → Value) (i : Nat) (v : Value) (a : Act) : ∀ n, n ≤ i → putAll ops (upd V i v) n a = putAll ops V n a
 | 0, _ => rfl
 | n + 1, h => by
  have e : upd V i v n = V n := by simp [upd]; omega
  simp only [putAll, e, putAll_off V i v a n (by omega)]
def ownDst (ops : Array Oper) (n : Nat) : Bool :=
 (List.range n).all fun j => (List.range j).all fun i => match (ops[i]?).bind (·.dst) with
  | some d => (ops[j]?).bind (·.dst) != some d
  | none => true
theorem ownDst_spec {n : Nat} (h : ownDst ops n = true) {i j : Nat} (hij : i < j) (hj : j < n) : ∀ d, (ops[i]?).bind (·.dst) = some d → (ops[j]?).bind (·.dst) ≠ some d := by
 intro d hd
 have h1 := List.all_eq_true.1 (List.all_eq_true.1 h j (List.mem_range.2 hj)) i (List.mem_range.2 hij)
 rw [hd] at h1
 simpa using h1
theorem putAll_upd {V : Nat → Value} {i : Nat} {v : Value} {a : Act} : ∀ {n : Nat}, ownDst ops n = true → i < n → (putAll ops V n a).put ((ops[i]?).bind (·.dst)) v = putAll ops (upd V i v) n a
 | 0, _, h => absurd h (by omega)
 | n + 1, ho, h => by
  have ho' : ownDst ops n = true := by
   unfold ownDst at ho ⊢
   refine List.all_eq_true.2 fun j hj => List.all_eq_true.1 ho j (List.mem_range.2 (by have := List.mem_range.1 hj; omega))
  by_cases hi : i = n
  ·subst hi
   simp only [putAll, put_put, putAll_off V i v a i (Nat.le_refl _)]
   simp [upd]
  ·have e : upd V i v n = V n := by simp [upd]; omega
   simp only [putAll, e]
   rw [← putAll_upd (V := V) (i := i) (v := v) (a := a) ho' (by omega)]
   exact (Act.put_comm _ _ _ (ownDst_spec ho (by omega) (by omega))).symm
theorem putAll_self (a : Act) (n : Nat) : putAll ops (fun j => match (ops[j]?).bind (·.dst) with | some d => a.tmps.getD d undef | none => undef) n a = a := by
 induction n with
 | zero => rfl
 | succ n ih =>
  simp only [putAll, ih]
  cases (ops[n]?).bind (·.dst) with
  | none => rfl
  | some d =>
   simp only [Act.put]
   congr 1
   apply Array.ext
   ·simp
   ·intro i h1 h2
    by_cases hid : d = i
    ·subst hid; simp [h2]
    ·rw [Array.getElem_setIfInBounds_ne (h := hid)]
def leftOf (n : Nat) (listed : Array Bool) : Nat := (List.range n).countP fun i => !listed.getD i true
theorem countP_but (p : Nat → Bool) (i : Nat) (hp : p i = true) : ∀ l : List Nat, l.Nodup → i ∈ l → l.countP p = l.countP (fun j => p j && j != i) + 1
 | [], _, h => by cases h
 | x :: l, hn, h => by
  rw [List.nodup_cons] at hn
  by_cases hx : x = i
  ·subst hx
   have : l.countP (fun j => p j && j != x) = l.countP p := by
    refine List.countP_congr fun j hj => ?_
    have : j ≠ x := fun e => hn.1 (e ▸ hj)
    simp [this]
   rw [List.countP_cons, List.countP_cons, this]
   simp [hp]
  ·have hm : i ∈ l := by rcases List.mem_cons.1 h with h | h; exact absurd h.symm hx; exact h
   have ih := countP_but p i hp l hn.2 hm
   rw [List.countP_cons, List.countP_cons, ih]
   have : (x != i) = true := by simpa using hx
   rw [this, Bool.and_true]
   omega
theorem leftOf_set {n i : Nat} {listed : Array Bool} (hi : i < n) (hs : i < listed.size) (hu : listed.getD i true = false) : leftOf n listed = leftOf n (listed.setIfInBounds i true) + 1 := by
 unfold leftOf
 rw [countP_but _ i (by simp only [hu]; rfl) _ List.nodup_range (List.mem_range.2 hi)]
 congr 1
 refine List.countP_congr fun j hj => ?_
 by_cases hji : j = i
 ·subst hji
  have : (listed.setIfInBounds j true).getD j true = true := by simp [hs]
  simp
 ·rw [getD_set_ne true (Ne.symm hji)]
  simp [hji]
def depsB (md : Region.Mode) (ops : Array Oper) (n : Nat) : Bool :=
 (List.range n).all fun i => match ops[i]? with
  | some o => o.after.all fun e => !Region.binds md e || decide (e.on < i)
  | none => false
def firstN (ops : Array Oper) (n : Nat) : Array Bool := Array.ofFn (n := ops.size) fun i => decide (i.val < n)
theorem listed_firstN {n : Nat} {listed : Array Bool} (inv : HeadInv md ops n listed) (hall : ∀ i, i < n → listed.getD i true = true) : listed = firstN ops n := by
 apply Array.ext
 ·simp [firstN, inv.size]
 ·intro i h1 h2
  simp only [firstN, Array.getElem_ofFn]
  by_cases hi : i < n
  ·have := hall i hi
   simp [h1] at this
   simp [this, hi]
  ·have := inv.tail i (by omega) (by rw [← inv.size]; exact h1)
   simp [h1] at this
   simp [this, hi]
theorem least_ready {n : Nat} {listed : Array Bool} (hdB : depsB md ops n = true) (inv : HeadInv md ops n listed) : ∀ (i : Nat), i < n → listed.getD i true = false → Region.ready md ops listed ≠ [] := by
 intro i
 induction i using Nat.strongRecOn with
 | _ i ih =>
  intro hi hu
  have h1 := List.all_eq_true.1 hdB i (List.mem_range.2 hi)
  cases ho : ops[i]? with
  | none => rw [ho] at h1; cases h1
  | some o =>
   rw [ho] at h1
   by_cases hall : ∀ e ∈ o.after, Region.binds md e = true → listed.getD e.on false = true
   ·have : i ∈ Region.ready md ops listed := mem_ready.2 ⟨hu, o, ho, hall⟩
    intro h; rw [h] at this; cases this
   ·simp only [Classical.not_forall] at hall
    obtain ⟨e, he, hb, hl⟩ := hall
    have h2 := Array.all_eq_true'.1 h1 e he
    rw [hb] at h2
    have h3 : e.on < i := by simpa using h2
    refine ih e.on h3 (by omega) ?_
    have hsz : e.on < listed.size := by
     have := (Array.getElem?_eq_some_iff.1 ho).1
     rw [inv.size]; omega
    exact getD_in hsz (by simpa using hl)
def KPost (K : Act → World → Prop) : Exit → Act → World → Prop
 | .normal, a, w => K a w
 | _, _, _ => False
theorem Oper.wp_only {o : Oper} {a : Act} {w : World} {L K : Act → World → Prop} (hh : o.wp P a w L (KPost K)) : o.wp P a w L Q := by
 unfold Oper.wp at *
 generalize (execOp a.eval o).run P w = r at *
 cases r with
 | ok n w' =>
  cases n <;> simp only [Oper.upon] at hh ⊢ <;>
   first
    | exact hh
    | exact Calls.mono hh (fun e w'' he => by cases e <;> first | exact he | exact False.elim he | exact (let ⟨_, _, h⟩ := he; False.elim h))
 | halt x w' => cases x <;> simp only [Oper.upon] at hh ⊢ <;> first | exact hh | exact False.elim hh
theorem wpOp_of_list {i : Nat} {o : Oper} {a : Act} {W : World} {K : Act → World → Prop} (hi : ops[i]? = some o) (h : wpList P ops (KPost K) [o] a W) : wpOp P ops Q i K a W := by
 unfold wpOp
 simp only [hi]
 simp only [wpList] at h
 split at h
 ·rename_i hw
  rw [if_pos hw]
  rcases h with h | ⟨_, _, _, h2⟩
  ·exact .inl (Oper.wp_only (Go.Oper.wp_mono (fun _ _ h => h) h))
  ·exact False.elim h2
 ·rename_i hw
  rw [if_neg hw]
  exact h
def GrowOp (P : Program) (ops : Array Oper) (a0 : Act) (n : Nat) (w0 : World) (S : Nat → Value → World → Prop) (i : Nat) (o : Oper) (T : Value → World → Prop) : Prop :=
 ∀ (V : Nat → Value) (W : World) (K : Act → World → Prop), Below w0.heap.size w0 W → (∀ j, Region.waitsFor .any ops i j = true → S j (V j) W) →
  Hid (∀ v W', Below W.heap.size W W' → T v W' → K ((putAll ops V n a0).put o.dst v) W') → wpList P ops (KPost K) [o] (putAll ops V n a0) W
def Lasts (T : Value → World → Prop) : Prop := ∀ v W W', T v W → Below W.heap.size W W' → T v W'
theorem wpAny_grow {n g : Nat} {S : Nat → Value → World → Prop} {w0 : World} {a0 : Act}
  (hw : ∀ listed, HeadInv .any ops n listed → ∀ i, i < n → listed.getD i true = false → ∀ t, n ≤ t → t ∉ Region.ready .any ops listed)
  (hn : n ≤ ops.size) (hdB : depsB .any ops n = true) (hd : ownDst ops n = true)
  (hst : ∀ j, Lasts (S j))
  (hop : ∀ i o, i < n → ops[i]? = some o → GrowOp P ops a0 n w0 S i o (S i))
  (hlast : ∀ V W, Below w0.heap.size w0 W → (∀ j, j < n → S j (V j) W) → wpAny P .any ops Q g (firstN ops n) (putAll ops V n a0) W) :
  ∀ (m : Nat) (listed : Array Bool) (V : Nat → Value) (W : World), HeadInv .any ops n listed → leftOf n listed = m → Below w0.heap.size w0 W → (∀ j, j < n → listed.getD j false = true → S j (V j) W) →
   wpAny P .any ops Q (m + g) listed (putAll ops V n a0) W
 | 0, listed, V, W, inv, hm, hb, hS => by
  have hall : ∀ i, i < n → listed.getD i true = true := by
   intro i hi
   have := List.countP_eq_zero.1 hm i (List.mem_range.2 hi)
   simpa using this
  rw [listed_firstN inv hall, Nat.zero_add]
  refine hlast V W hb fun j hj => hS j hj ?_
  have := hall j hj
  have hjs : j < listed.size := by rw [inv.size]; omega
  simp [hjs] at this ⊢
  exact this
 | m + 1, listed, V, W, inv, hm, hb, hS => by
  obtain ⟨u, hu, hul⟩ : ∃ u, u < n ∧ listed.getD u true = false := by
   have : 0 < leftOf n listed := by omega
   obtain ⟨u, hu, hul⟩ := List.countP_pos_iff.1 this
   exact ⟨u, List.mem_range.1 hu, by simpa using hul⟩
  rw [show m + 1 + g = (m + g) + 1 by omega]
  refine ⟨fun h0 => absurd h0 (least_ready hdB inv u hu hul), fun i hi => ?_⟩
  have hin : i < n := by
   rcases Nat.lt_or_ge i n with h | h
   ·exact h
   ·exact absurd hi (hw listed inv u hu hul i h)
  obtain ⟨hun, o, ho, hall⟩ := mem_ready.1 hi
  refine wpOp_of_list ho (hop i o hin ho V W _ hb (fun j hj => ?_) fun v W' hb' hs' => ?_)
  ·obtain ⟨oj, hoj, e, he, hbd, hon⟩ := Region.waitsFor_spec hj
   have : oj = o := Option.some.inj (hoj.symm.trans ho)
   subst this
   have hl := hall e he hbd
   rw [hon] at hl
   have hlt : j < n := by
    have h1 := List.all_eq_true.1 hdB i (List.mem_range.2 hin)
    rw [ho] at h1
    have h2 := Array.all_eq_true'.1 h1 e he
    rw [hbd] at h2
    have h3 : e.on < i := by simpa using h2
    omega
   exact hS j hlt hl
  ·have hdst : o.dst = (ops[i]?).bind (·.dst) := by rw [ho]; rfl
   rw [hdst, putAll_upd hd hin]
   have his : i < listed.size := by rw [inv.size]; exact (Array.getElem?_eq_some_iff.1 ho).1
   refine wpAny_grow hw hn hdB hd hst hop hlast m _ _ W' (inv.set hi hin) (by have := leftOf_set hin his hun; omega) (hb.trans ⟨hb'.os, hb'.tape, hb'.output, hb'.size, fun k hk => hb'.block k (Nat.lt_of_lt_of_le hk hb.size)⟩) fun j hj hl => ?_
   by_cases hji : j = i
   ·subst hji
    simpa [upd] using hs'
   ·rw [getD_set_ne false (Ne.symm hji)] at hl
    have := hst j (V j) W W' (hS j hj hl) hb'
    simpa [upd, hji] using this
def growTailB (ops : Array Oper) (n : Nat) : Bool :=
 decide (n < ops.size) && Region.sinkB .any ops n && Region.chainB .any ops n && depsB .any ops n && ownDst ops n && Region.seqB .any ops (ops.size - n) n (firstN ops n)
theorem wp_region_grow {id : Nat} {a : Act} {w : World} {l : List Oper} (n : Nat) (S : Nat → Value → World → Prop) (hm : P.follows .mixedOrders = true) (hB : growTailB l.toArray n = true)
  (hst : ∀ j, Lasts (S j)) (hop : ∀ i o, i < n → l.toArray[i]? = some o → GrowOp P l.toArray a n w S i o (S i))
  (hlast : ∀ V W, Below w.heap.size w W → (∀ j, j < n → S j (V j) W) → wpList P l.toArray Q (l.drop n) (putAll l.toArray V n a) W) : (Code.region id l.toArray true).wp P Q a w := by
 simp only [growTailB, Bool.and_eq_true, decide_eq_true_eq] at hB
 obtain ⟨⟨⟨⟨⟨hn, hs⟩, hc⟩, hdB⟩, hd⟩, hseq⟩ := hB
 refine wp_region_any hm ?_
 have inv0 : HeadInv .any l.toArray n (Array.replicate l.toArray.size false) :=
  ⟨by simp, fun j oj _ hl => (by rw [getD_replicate_false] at hl; cases hl), fun t _ ht => getD_in (by simpa using ht) (getD_replicate_false _ _)⟩
 have hb0 : Below w.heap.size w { w with drawn := w.drawn + 1 } := ⟨rfl, rfl, rfl, Nat.le_refl _, fun _ _ => rfl⟩
 have hleft : leftOf n (Array.replicate l.toArray.size false) = n := by
  unfold leftOf
  rw [List.countP_eq_length.2]
  ·simp
  ·intro i hi
   have : i < l.toArray.size := by have := List.mem_range.1 hi; omega
   rw [getD_in (by simpa using this) (getD_replicate_false _ _)]
   rfl
 have H := wpAny_grow (P := P) (Q := Q) (g := l.toArray.size - n) (S := S) (w0 := w) (a0 := a) (fun listed inv i hi hu t ht => tail_waits hs hc hn inv _ i rfl hi hu t ht) (by omega) hdB hd hst hop
  (fun V W hb hS => by
   have hdl : (l.drop n).length = l.toArray.size - n := by simp
   have := wpAny_of_seq (md := .any) (Q' := Q) (l.drop n) n (firstN l.toArray n) _ W (fun j => by simp [List.getElem?_drop]) (by rw [hdl]; exact hseq) (hlast V W hb hS)
   rwa [hdl] at this)
  n _ (fun j => match (l.toArray[j]?).bind (·.dst) with | some d => a.tmps.getD d undef | none => undef) { w with drawn := w.drawn + 1 } inv0 hleft hb0 (fun j _ hl => by rw [getD_replicate_false] at hl; cases hl)
 rw [putAll_self, show n + (l.toArray.size - n) = l.toArray.size by omega] at H
 exact H
def updS (S : Nat → Value → World → Prop) (i : Nat) (T : Value → World → Prop) : Nat → Value → World → Prop := fun j => match Nat.beq j i with
 | true => T
 | false => S j
def growFrom (P : Program) (ops : Array Oper) (a0 : Act) (n : Nat) (w0 : World) (L : (Nat → Value → World → Prop) → Prop) : List Oper → Nat → (Nat → Value → World → Prop) → Prop
 | [], _, S => L S
 | o :: rest, i, S => ∃ T, Lasts T ∧ GrowOp P ops a0 n w0 S i o T ∧ growFrom P ops a0 n w0 L rest (i + 1) (updS S i T)
theorem grow_op {a0 : Act} {n : Nat} {w0 : World} {L : (Nat → Value → World → Prop) → Prop} {o : Oper} {rest : List Oper} {i : Nat} {S : Nat → Value → World → Prop} (T : Value → World → Prop) (hT : Lasts T)
  (h : ∀ (V : Nat → Value) (W : World) (K : Act → World → Prop) (A : Act), Below w0.heap.size w0 W → (∀ j, Region.waitsFor .any ops i j = true → S j (V j) W) → Hid (A = putAll ops V n a0) →
   Hid (∀ v W', Below W.heap.size W W' → T v W' → K (A.put o.dst v) W') → wpList P ops (KPost K) [o] A W)
  (hr : growFrom P ops a0 n w0 L rest (i + 1) (updS S i T)) : growFrom P ops a0 n w0 L (o :: rest) i S := ⟨T, hT, fun V W K hb hd hK => h V W K _ hb hd rfl hK, hr⟩
theorem grow_eq {a0 : Act} {n : Nat} {w0 : World} {L : (Nat → Value → World → Prop) → Prop} {o : Oper} {rest : List Oper} {i : Nat} {S : Nat → Value → World → Prop} {u : Value}
  (h : ∀ (V : Nat → Value) (W : World) (K : Act → World → Prop) (A : Act), Below w0.heap.size w0 W → (∀ j, Region.waitsFor .any ops i j = true → S j (V j) W) → Hid (A = putAll ops V n a0) →
   Hid (∀ W', Below W.heap.size W W' → K (A.put o.dst u) W') → wpList P ops (KPost K) [o] A W)
  (hr : growFrom P ops a0 n w0 L rest (i + 1) (updS S i fun v _ => v = u)) : growFrom P ops a0 n w0 L (o :: rest) i S :=
 ⟨fun v _ => v = u, fun _ _ _ h _ => h, fun V W K hb hd hK => h V W K _ hb hd rfl fun W' hb' => hK.out u W' hb' rfl, hr⟩
theorem updS_self (S : Nat → Value → World → Prop) (i : Nat) (T : Value → World → Prop) : updS S i T i = T := by simp [updS]
theorem updS_ne (S : Nat → Value → World → Prop) {i j : Nat} (T : Value → World → Prop) (h : j ≠ i) : updS S i T j = S j := by
 have : Nat.beq j i = false := by
  cases hb : Nat.beq j i with
  | false => rfl
  | true => exact absurd (Nat.eq_of_beq_eq_true hb) h
 simp [updS, this]
theorem growFrom_out {a0 : Act} {n : Nat} {w0 : World} {L : (Nat → Value → World → Prop) → Prop} (hdB : depsB .any ops n = true) : ∀ (l : List Oper) (k : Nat) (S : Nat → Value → World → Prop), k + l.length = n → (∀ j, j < l.length → l[j]? = ops[k + j]?) →
  (∀ j, Lasts (S j)) → (∀ i o, i < k → ops[i]? = some o → GrowOp P ops a0 n w0 S i o (S i)) → growFrom P ops a0 n w0 L l k S →
  ∃ S', (∀ j, Lasts (S' j)) ∧ (∀ i o, i < n → ops[i]? = some o → GrowOp P ops a0 n w0 S' i o (S' i)) ∧ L S'
 | [], k, S, hk, _, hl, hop, h => ⟨S, hl, by rw [show n = k by simpa using hk.symm]; rw [show n = k by simpa using hk.symm] at hop; exact hop, h⟩
 | o :: l, k, S, hk, hs, hl, hop, ⟨T, hT, ho, h⟩ => by
  have h0 : ops[k]? = some o := by simpa using (hs 0 (by simp)).symm
  have dep : ∀ i j, i < n → Region.waitsFor .any ops i j = true → j < i := fun i j hi hj => by
   obtain ⟨oj, hoj, e, he, hbd, hon⟩ := Region.waitsFor_spec hj
   have h1 := List.all_eq_true.1 hdB i (List.mem_range.2 hi)
   rw [hoj] at h1
   have h2 := Array.all_eq_true'.1 h1 e he
   rw [hbd] at h2
   have h3 : e.on < i := by simpa using h2
   omega
  have hkn : k < n := by simp only [List.length_cons] at hk; omega
  refine growFrom_out hdB l (k + 1) _ (by simp only [List.length_cons] at hk; omega) (fun j hj => by have := hs (j + 1) (by simp; omega); simpa [Nat.add_assoc, Nat.add_comm 1 j] using this) (fun j => ?_) (fun i o' hi hi' => ?_) h
  ·by_cases e : j = k
   ·subst e; rw [updS_self]; exact hT
   ·rw [updS_ne _ _ e]; exact hl j
  ·by_cases e : i = k
   ·subst e
    have : o' = o := Option.some.inj (hi'.symm.trans h0)
    subst this
    rw [updS_self]
    exact fun V W K hb hd hK => ho V W K hb (fun j hj => by have := hd j hj; rwa [updS_ne _ _ (by have := dep i j hkn hj; omega)] at this) hK
   ·rw [updS_ne _ _ e]
    exact fun V W K hb hd hK => hop i o' (by omega) hi' V W K hb (fun j hj => by have := hd j hj; rwa [updS_ne _ _ (by have := dep i j (by omega) hj; omega)] at this) hK
theorem wp_region_grows {id : Nat} {a : Act} {w : World} {l : List Oper} (n : Nat) (hm : P.follows .mixedOrders = true) (hB : growTailB l.toArray n = true)
  (h : growFrom P l.toArray a n w (fun S => ∀ V W A, Below w.heap.size w W → (∀ j, j < n → S j (V j) W) → Hid (A = putAll l.toArray V n a) → wpList P l.toArray Q (l.drop n) A W) (l.take n) 0 fun _ _ _ => True) : (Code.region id l.toArray true).wp P Q a w := by
 have hB' := hB
 simp only [growTailB, Bool.and_eq_true, decide_eq_true_eq] at hB'
 obtain ⟨⟨⟨⟨⟨hn, _⟩, _⟩, hdB⟩, _⟩, _⟩ := hB'
 have hn' : n < l.length := by simpa using hn
 obtain ⟨S, h1, h2, h3⟩ := growFrom_out hdB (l.take n) 0 _ (by simp; omega) (fun j hj => by
  have : j < n := by simp at hj; omega
  simp [this]) (fun _ _ _ _ _ _ => trivial) (fun i o hi => absurd hi (by omega)) h
 exact wp_region_grow n S hm hB h1 h2 fun V W hb hS => h3 V W _ hb hS rfl
end
theorem pz1 {α : Type} {l : List α} {i : Nat} : l.toArray[i]? = l[i]? := List.getElem?_toArray
theorem pz2 {α : Type} {a : α} {l : List α} {i : Nat} : (a :: l)[i + 1]? = l[i]? := List.getElem?_cons_succ
theorem pz3 {α : Type} {a : α} {l : List α} : (a :: l)[0]? = some a := List.getElem?_cons_zero
theorem pz4 {α β : Type} (a : α) (f : α → Option β) : (some a).bind f = f a := Option.bind_some a f
theorem pz5 {α : Type} (l : List α) (i : Nat) (a : α) : l.toArray.setIfInBounds i a = (l.set i a).toArray := List.setIfInBounds_toArray l i a
theorem pz6 {α : Type} (x : α) (xs : List α) (n : Nat) (a : α) : (x :: xs).set (n + 1) a = x :: xs.set n a := List.set_cons_succ
theorem pz7 {α : Type} (x : α) (xs : List α) (a : α) : (x :: xs).set 0 a = a :: xs := List.set_cons_zero
theorem brf {N : Nat} {w : World} : Below N w w := Below.refl N w
end Go.Proofs.YtbceafpodamnfabGreatDoor
