/-
  My own. The specification counts: the loop.
-/
import Derived.Test.YtbceafpodamnfaaYb
namespace Go.Proofs.Ytbceafpodamnfaa
open Go.RowKit Go.Sort

set_option maxHeartbeats 8000000 in
theorem l2Count_some (B : Bk) (sv : ByteArray) (s : Svc) (a1 a2 a3 : Option Addr) (c1 c2 c3 : Nat) (w : World) (hS : B.small) (hB : BkAt w a1 a2 a3 B) (hf : svcOf B sv = some s) (N : Cnt) (hN : Hid (N = cntTo s.image sv B.cps B.cps.length)) :
    Calls Try.prog 28 #[.agg #[.int .i64 B.now, .slice a1 B.svcs.length c1, .slice a2 B.cps.length c2, .slice a3 B.bts.length c3], .string sv] w fun e w' => e = .returned (.agg #[.int .i64 N.live, .int .i64 N.ready, .int .i64 N.old, .int .i64 N.failed, .int .i64 N.ending]) ∧ Below w.heap.size w w' := by
  obtain ⟨ix, hix, hidx⟩ : ∃ i : Nat, B.svcs[i]? = some s ∧ idxS B.svcs sv = (i : Int) := idxOf_find hf
  have HIDX : Hid _ := hidx
  have hixlt : ix < B.svcs.length := (List.getElem?_eq_some_iff.1 hix).1
  have hne0 : B.svcs ≠ [] := by intro h; rw [h] at hixlt; simp at hixlt
  obtain ⟨bS, offS, eS, hbsS, hatS⟩ := hB.1 hne0
  subst eS
  have hsx := hatS ix s hix
  clear hf hidx hix hatS hne0
  obtain ⟨t0, t1, t2, t3⟩ := three_new w (.cells #[.int .i64 B.now, .slice (some ⟨bS, offS, none⟩) B.svcs.length c1, .slice a2 B.cps.length c2, .slice a3 B.bts.length c3] 27) (.cells #[.int .i64 0, .int .i64 0, .int .i64 0, .int .i64 0, .int .i64 0] 32) (.cells #[.int .i64 0, .int .i64 0, .int .i64 0, .int .i64 0, .int .i64 0] 32)
  have T0 : Hid _ := t0
  have T1 : Hid _ := t1
  have T2 : Hid _ := t2
  have T3 : Hid _ := t3
  clear t0 t1 t2 t3
  have hb0 : Below w.heap.size w (((w.alloc (.cells #[.int .i64 B.now, .slice (some ⟨bS, offS, none⟩) B.svcs.length c1, .slice a2 B.cps.length c2, .slice a3 B.bts.length c3] 27)).alloc (.cells #[.int .i64 0, .int .i64 0, .int .i64 0, .int .i64 0, .int .i64 0] 32)).alloc (.cells #[.int .i64 0, .int .i64 0, .int .i64 0, .int .i64 0, .int .i64 0] 32)) := (((Below.refl _ _).alloc (Nat.le_refl _) _).alloc (by simp) _).alloc (by simp; omega) _
  have hS' := hS
  obtain ⟨hl1, hl2, hl3⟩ := hS'
  go_enter Try.func28, Try.ntmps28
  go_wp2_with fail
  refine (l1Service_any B sv _ a2 a3 c1 c2 c3 _ hS (hB.1.below hb0)).mono ?_
  rintro e w1 ⟨rfl, hb1⟩
  rw [HIDX.out]
  have hbb1 := hb0.trans (hb1.mono hb0.size)
  rw [T3.out] at hb1
  have U0 : Hid _ := below_blk hb1 T0.out (by omega)
  have U1 : Hid _ := below_blk hb1 T1.out (by omega)
  have U2 : Hid _ := below_blk hb1 T2.out (by omega)
  clear hb1 hb0 T0 T1 T2 T3 HIDX
  go_wp2
  go_loopw [7] (fun iv wr => ∃ (k : Nat) (n : Cnt), k ≤ B.cps.length ∧ iv = .int .i64 k ∧ Below w.heap.size w wr ∧ Hid (wr.heap[w.heap.size]? = some (.cells #[.int .i64 B.now, .slice (some ⟨bS, offS, none⟩) B.svcs.length c1, .slice a2 B.cps.length c2, .slice a3 B.bts.length c3] 27 (0, 0))) ∧ Hid (wr.heap[w.heap.size + 1]? = some (.cells #[.int .i64 0, .int .i64 0, .int .i64 0, .int .i64 0, .int .i64 0] 32 (0, 0))) ∧ Hid (wr.heap[(w.heap.size + 1 + 1)]? = some (.cells #[.int .i64 n.live, .int .i64 n.ready, .int .i64 n.old, .int .i64 n.failed, .int .i64 n.ending] 32 (0, 0))) ∧ Hid (n = cntTo s.image sv B.cps k)) (fun i _ => B.cps.length - (intOf i).toNat)
  case atStart => exact ⟨0, Cnt.none, by omega, rfl, hbb1, U0, U1, U2, rfl⟩
  case round =>
    clear hbb1 U0 U1 U2
    obtain ⟨k, n, hk, rfl, hb, hbox, hres, hout, HN⟩ := hrel
    have hMlt : (w.heap.size + 1 + 1) < wr.heap.size := (Array.getElem?_eq_some_iff.1 hout.out).1
    have hMlt1 : w.heap.size + 1 < wr.heap.size := by omega
    have hMlt0 : w.heap.size < wr.heap.size := by omega
    have e2 := blk_cell hbox.out 2 rfl
    have o0 := blk_cell hout.out 0 rfl
    have o1 := blk_cell hout.out 1 rfl
    have o2 := blk_cell hout.out 2 rfl
    have o3 := blk_cell hout.out 3 rfl
    have o4 := blk_cell hout.out 4 rfl
    by_cases hlt : k < B.cps.length
    · have hne : B.cps ≠ [] := by intro h; rw [h] at hlt; simp at hlt
      obtain ⟨b, off, ea, hbs, hat⟩ := hB.2.1 hne
      subst ea
      obtain ⟨c, hsk⟩ : ∃ c, B.cps[k]? = some c := ⟨B.cps[k], by simp [hlt]⟩
      have HST : Hid (cntTo s.image sv B.cps (k + 1) = cntOne s.image sv c n) := by unfold Hid; rw [cntTo_succ _ _ _ _ _ hsk, HN.out]
      have hup : n.upTo k := by rw [HN.out]; exact cntTo_upTo _ _ _ _ hk
      unfold Cnt.upTo at hup
      obtain ⟨u0, u1, u2, u3, u4, u5, u6, u7, u8, u9⟩ := hup
      have hcs := (hat k c hsk).below hb hbs
      unfold CpAt at hcs
      obtain ⟨x0, x1, x2, x3, x4, x5, x6⟩ := hcs
      have f0 := blk_frozen hout.out 0
      have f1 := blk_frozen hout.out 1
      have f2 := blk_frozen hout.out 2
      have f3 := blk_frozen hout.out 3
      have f4 := blk_frozen hout.out 4
      have hw1 := below_box wr (.cells #[.string c.service, .int .i64 c.number, .int .i64 c.version, .int .i64 c.image, .int .i64 c.state, .bool c.ending, .string c.berth] 35)
      have hb1 := hb.trans (hw1.mono hb.size)
      have box1 : Hid _ := below_blk hw1 hbox.out hMlt0
      have res1 : Hid _ := below_blk hw1 hres.out hMlt1
      have out1 : Hid _ := below_blk hw1 hout.out hMlt
      clear hsk hat hne
      cases hsame : (c.service.toList == sv.toList)
      · have HC : Hid (n = cntTo s.image sv B.cps (k + 1)) := by unfold Hid; rw [HST.out]; simp [cntOne, hsame]
        go_wp2
        go_roundw
        case rel => exact ⟨k + 1, n, by omega, by go_num, hb1, box1, res1, out1, HC⟩
        case measure => simp [intOf]; omega
      cases hend : c.ending
      · -- LIVE
        cases hst3 : (c.state == 3)
        · cases hst4 : (c.state == 4)
          · cases himg : (c.image != s.image)
            · have HC : Hid ((⟨n.live + 1, n.ready, n.old, n.failed, n.ending⟩ : Cnt) = cntTo s.image sv B.cps (k + 1)) := by unfold Hid; rw [HST.out]; simp [cntOne, cntAdd, addB, hsame, hend, hst3, hst4, himg]
              have hwS := below_box (wr.setCell ⟨(w.heap.size + 1 + 1), 0, none⟩ (.int .i64 (n.live + 1))) (.cells #[.string c.service, .int .i64 c.number, .int .i64 c.version, .int .i64 c.image, .int .i64 c.state, .bool false, .string c.berth] 35)
              have hsz : (wr.setCell ⟨(w.heap.size + 1 + 1), 0, none⟩ (.int .i64 (n.live + 1))).heap.size = wr.heap.size := by simp only [size_setCell]
              have outS : Hid _ := below_blk hwS (blk_set (hout.out) 0 (.int .i64 (n.live + 1))) (by rw [hsz]; omega)
              have boxS : Hid _ := below_blk hwS (blk_ne (b := (w.heap.size + 1 + 1)) (hbox.out) 0 (.int .i64 (n.live + 1)) (by omega)) (by rw [hsz]; omega)
              have resS : Hid _ := below_blk hwS (blk_ne (b := (w.heap.size + 1 + 1)) (hres.out) 0 (.int .i64 (n.live + 1)) (by omega)) (by rw [hsz]; omega)
              have hbS := ((hb.setCell (p := ⟨(w.heap.size + 1 + 1), 0, none⟩) (by show _ ≤ (w.heap.size + 1 + 1); omega) (.int .i64 (n.live + 1)))).alloc (by rw [hsz]; exact hb.size) (.cells #[.string c.service, .int .i64 c.number, .int .i64 c.version, .int .i64 c.image, .int .i64 c.state, .bool false, .string c.berth] 35)
              have HSZ : Hid (((wr.setCell ⟨(w.heap.size + 1 + 1), 0, none⟩ (.int .i64 (n.live + 1))).alloc (.cells #[.string c.service, .int .i64 c.number, .int .i64 c.version, .int .i64 c.image, .int .i64 c.state, .bool false, .string c.berth] 35)).heap.size = wr.heap.size + 1) := by unfold Hid; rw [size_alloc', hsz]
              have cbxS : Hid _ := heap_alloc_new (wr.setCell ⟨(w.heap.size + 1 + 1), 0, none⟩ (.int .i64 (n.live + 1))) (.cells #[.string c.service, .int .i64 c.number, .int .i64 c.version, .int .i64 c.image, .int .i64 c.state, .bool false, .string c.berth] 35)
              rw [hsz] at cbxS
              have svS := (((hsx.below hb hbsS).blk (w' := (wr.setCell ⟨(w.heap.size + 1 + 1), 0, none⟩ (.int .i64 (n.live + 1)))) (blk_ne (b := (w.heap.size + 1 + 1)) (rfl) 0 (.int .i64 (n.live + 1)) (by omega))).below hwS (by rw [hsz]; omega))
              obtain ⟨z0, z1, z2, z3, z4, z5, z6, z7, z8, z9, z10, z11, z12⟩ := svS.grown
              clear z0 z1 z2 z4 z5 z6 z7 z8 z9 z10 z11 z12 svS hsz
              have gc3 := gcell cbxS.out 3 rfl
              have gb1 := gcell boxS.out 1 rfl
              go_wp2
              refine wp_region_quiet_below (by kernel_rfl) (by kernel_rfl) ?_
              repeat (first | go_big_quiet_step (fail) | quiet_step (fail))
              refine wpQuiet_nil ?_
              intro w2 hw'
              obtain ⟨⟨dq, osq⟩, hw''⟩ := hw'
              have hb2 := below_of_grow hw''
              clear hw''
              rw [HSZ.out] at hb2
              have out2 : Hid _ := below_blk hb2 outS.out (by omega)
              have box2 : Hid _ := below_blk hb2 boxS.out (by omega)
              have res2 : Hid _ := below_blk hb2 resS.out (by omega)
              have hbF := hbS.trans (hb2.mono (by omega))
              clear gc3 gb1 z3 x0 x1 x2 x3 x4 x5 x6 o0 o1 o2 o3 o4 f0 f1 f2 f3 f4
              have q2 := blk_cell out2.out 2 rfl
              have qf := blk_frozen out2.out 2
              go_wp2
              go_roundw
              case rel => exact ⟨k + 1, ⟨n.live + 1, n.ready, n.old, n.failed, n.ending⟩, by omega, by go_num, hbF, box2, res2, out2, HC⟩
              case measure => simp [intOf]; omega
            · have HC : Hid ((⟨n.live + 1, n.ready, n.old + 1, n.failed, n.ending⟩ : Cnt) = cntTo s.image sv B.cps (k + 1)) := by unfold Hid; rw [HST.out]; simp [cntOne, cntAdd, addB, hsame, hend, hst3, hst4, himg]
              have hwS := below_box (wr.setCell ⟨(w.heap.size + 1 + 1), 0, none⟩ (.int .i64 (n.live + 1))) (.cells #[.string c.service, .int .i64 c.number, .int .i64 c.version, .int .i64 c.image, .int .i64 c.state, .bool false, .string c.berth] 35)
              have hsz : (wr.setCell ⟨(w.heap.size + 1 + 1), 0, none⟩ (.int .i64 (n.live + 1))).heap.size = wr.heap.size := by simp only [size_setCell]
              have outS : Hid _ := below_blk hwS (blk_set (hout.out) 0 (.int .i64 (n.live + 1))) (by rw [hsz]; omega)
              have boxS : Hid _ := below_blk hwS (blk_ne (b := (w.heap.size + 1 + 1)) (hbox.out) 0 (.int .i64 (n.live + 1)) (by omega)) (by rw [hsz]; omega)
              have resS : Hid _ := below_blk hwS (blk_ne (b := (w.heap.size + 1 + 1)) (hres.out) 0 (.int .i64 (n.live + 1)) (by omega)) (by rw [hsz]; omega)
              have hbS := ((hb.setCell (p := ⟨(w.heap.size + 1 + 1), 0, none⟩) (by show _ ≤ (w.heap.size + 1 + 1); omega) (.int .i64 (n.live + 1)))).alloc (by rw [hsz]; exact hb.size) (.cells #[.string c.service, .int .i64 c.number, .int .i64 c.version, .int .i64 c.image, .int .i64 c.state, .bool false, .string c.berth] 35)
              have HSZ : Hid (((wr.setCell ⟨(w.heap.size + 1 + 1), 0, none⟩ (.int .i64 (n.live + 1))).alloc (.cells #[.string c.service, .int .i64 c.number, .int .i64 c.version, .int .i64 c.image, .int .i64 c.state, .bool false, .string c.berth] 35)).heap.size = wr.heap.size + 1) := by unfold Hid; rw [size_alloc', hsz]
              have cbxS : Hid _ := heap_alloc_new (wr.setCell ⟨(w.heap.size + 1 + 1), 0, none⟩ (.int .i64 (n.live + 1))) (.cells #[.string c.service, .int .i64 c.number, .int .i64 c.version, .int .i64 c.image, .int .i64 c.state, .bool false, .string c.berth] 35)
              rw [hsz] at cbxS
              have svS := (((hsx.below hb hbsS).blk (w' := (wr.setCell ⟨(w.heap.size + 1 + 1), 0, none⟩ (.int .i64 (n.live + 1)))) (blk_ne (b := (w.heap.size + 1 + 1)) (rfl) 0 (.int .i64 (n.live + 1)) (by omega))).below hwS (by rw [hsz]; omega))
              obtain ⟨z0, z1, z2, z3, z4, z5, z6, z7, z8, z9, z10, z11, z12⟩ := svS.grown
              clear z0 z1 z2 z4 z5 z6 z7 z8 z9 z10 z11 z12 svS hsz
              have gc3 := gcell cbxS.out 3 rfl
              have gb1 := gcell boxS.out 1 rfl
              go_wp2
              refine wp_region_quiet_below (by kernel_rfl) (by kernel_rfl) ?_
              repeat (first | go_big_quiet_step (fail) | quiet_step (fail))
              refine wpQuiet_nil ?_
              intro w2 hw'
              obtain ⟨⟨dq, osq⟩, hw''⟩ := hw'
              have hb2 := below_of_grow hw''
              clear hw''
              rw [HSZ.out] at hb2
              have out2 : Hid _ := below_blk hb2 outS.out (by omega)
              have box2 : Hid _ := below_blk hb2 boxS.out (by omega)
              have res2 : Hid _ := below_blk hb2 resS.out (by omega)
              have hbF := hbS.trans (hb2.mono (by omega))
              clear gc3 gb1 z3 x0 x1 x2 x3 x4 x5 x6 o0 o1 o2 o3 o4 f0 f1 f2 f3 f4
              have q2 := blk_cell out2.out 2 rfl
              have qf := blk_frozen out2.out 2
              have outF : Hid _ := blk_set out2.out 2 (.int .i64 (n.old + 1))
              go_wp2
              go_roundw
              case rel => exact ⟨k + 1, ⟨n.live + 1, n.ready, n.old + 1, n.failed, n.ending⟩, by omega, by go_num, hbF.setCell (by simp; omega) _, blk_ne box2.out _ _ (by omega), blk_ne res2.out _ _ (by omega), outF, HC⟩
              case measure => simp [intOf]; omega
          · cases himg : (c.image != s.image)
            · have HC : Hid ((⟨n.live + 1, n.ready, n.old, n.failed + 1, n.ending⟩ : Cnt) = cntTo s.image sv B.cps (k + 1)) := by unfold Hid; rw [HST.out]; simp [cntOne, cntAdd, addB, hsame, hend, hst3, hst4, himg]
              have hwS := below_box ((wr.setCell ⟨(w.heap.size + 1 + 1), 0, none⟩ (.int .i64 (n.live + 1))).setCell ⟨(w.heap.size + 1 + 1), 3, none⟩ (.int .i64 (n.failed + 1))) (.cells #[.string c.service, .int .i64 c.number, .int .i64 c.version, .int .i64 c.image, .int .i64 c.state, .bool false, .string c.berth] 35)
              have hsz : ((wr.setCell ⟨(w.heap.size + 1 + 1), 0, none⟩ (.int .i64 (n.live + 1))).setCell ⟨(w.heap.size + 1 + 1), 3, none⟩ (.int .i64 (n.failed + 1))).heap.size = wr.heap.size := by simp only [size_setCell]
              have outS : Hid _ := below_blk hwS (blk_set (blk_set (hout.out) 0 (.int .i64 (n.live + 1))) 3 (.int .i64 (n.failed + 1))) (by rw [hsz]; omega)
              have boxS : Hid _ := below_blk hwS (blk_ne (b := (w.heap.size + 1 + 1)) (blk_ne (b := (w.heap.size + 1 + 1)) (hbox.out) 0 (.int .i64 (n.live + 1)) (by omega)) 3 (.int .i64 (n.failed + 1)) (by omega)) (by rw [hsz]; omega)
              have resS : Hid _ := below_blk hwS (blk_ne (b := (w.heap.size + 1 + 1)) (blk_ne (b := (w.heap.size + 1 + 1)) (hres.out) 0 (.int .i64 (n.live + 1)) (by omega)) 3 (.int .i64 (n.failed + 1)) (by omega)) (by rw [hsz]; omega)
              have hbS := (((hb.setCell (p := ⟨(w.heap.size + 1 + 1), 0, none⟩) (by show _ ≤ (w.heap.size + 1 + 1); omega) (.int .i64 (n.live + 1))).setCell (p := ⟨(w.heap.size + 1 + 1), 3, none⟩) (by show _ ≤ (w.heap.size + 1 + 1); omega) (.int .i64 (n.failed + 1)))).alloc (by rw [hsz]; exact hb.size) (.cells #[.string c.service, .int .i64 c.number, .int .i64 c.version, .int .i64 c.image, .int .i64 c.state, .bool false, .string c.berth] 35)
              have HSZ : Hid ((((wr.setCell ⟨(w.heap.size + 1 + 1), 0, none⟩ (.int .i64 (n.live + 1))).setCell ⟨(w.heap.size + 1 + 1), 3, none⟩ (.int .i64 (n.failed + 1))).alloc (.cells #[.string c.service, .int .i64 c.number, .int .i64 c.version, .int .i64 c.image, .int .i64 c.state, .bool false, .string c.berth] 35)).heap.size = wr.heap.size + 1) := by unfold Hid; rw [size_alloc', hsz]
              have cbxS : Hid _ := heap_alloc_new ((wr.setCell ⟨(w.heap.size + 1 + 1), 0, none⟩ (.int .i64 (n.live + 1))).setCell ⟨(w.heap.size + 1 + 1), 3, none⟩ (.int .i64 (n.failed + 1))) (.cells #[.string c.service, .int .i64 c.number, .int .i64 c.version, .int .i64 c.image, .int .i64 c.state, .bool false, .string c.berth] 35)
              rw [hsz] at cbxS
              have svS := (((hsx.below hb hbsS).blk (w' := ((wr.setCell ⟨(w.heap.size + 1 + 1), 0, none⟩ (.int .i64 (n.live + 1))).setCell ⟨(w.heap.size + 1 + 1), 3, none⟩ (.int .i64 (n.failed + 1)))) (blk_ne (b := (w.heap.size + 1 + 1)) (blk_ne (b := (w.heap.size + 1 + 1)) (rfl) 0 (.int .i64 (n.live + 1)) (by omega)) 3 (.int .i64 (n.failed + 1)) (by omega))).below hwS (by rw [hsz]; omega))
              obtain ⟨z0, z1, z2, z3, z4, z5, z6, z7, z8, z9, z10, z11, z12⟩ := svS.grown
              clear z0 z1 z2 z4 z5 z6 z7 z8 z9 z10 z11 z12 svS hsz
              have gc3 := gcell cbxS.out 3 rfl
              have gb1 := gcell boxS.out 1 rfl
              go_wp2
              refine wp_region_quiet_below (by kernel_rfl) (by kernel_rfl) ?_
              repeat (first | go_big_quiet_step (fail) | quiet_step (fail))
              refine wpQuiet_nil ?_
              intro w2 hw'
              obtain ⟨⟨dq, osq⟩, hw''⟩ := hw'
              have hb2 := below_of_grow hw''
              clear hw''
              rw [HSZ.out] at hb2
              have out2 : Hid _ := below_blk hb2 outS.out (by omega)
              have box2 : Hid _ := below_blk hb2 boxS.out (by omega)
              have res2 : Hid _ := below_blk hb2 resS.out (by omega)
              have hbF := hbS.trans (hb2.mono (by omega))
              clear gc3 gb1 z3 x0 x1 x2 x3 x4 x5 x6 o0 o1 o2 o3 o4 f0 f1 f2 f3 f4
              have q2 := blk_cell out2.out 2 rfl
              have qf := blk_frozen out2.out 2
              go_wp2
              go_roundw
              case rel => exact ⟨k + 1, ⟨n.live + 1, n.ready, n.old, n.failed + 1, n.ending⟩, by omega, by go_num, hbF, box2, res2, out2, HC⟩
              case measure => simp [intOf]; omega
            · have HC : Hid ((⟨n.live + 1, n.ready, n.old + 1, n.failed + 1, n.ending⟩ : Cnt) = cntTo s.image sv B.cps (k + 1)) := by unfold Hid; rw [HST.out]; simp [cntOne, cntAdd, addB, hsame, hend, hst3, hst4, himg]
              have hwS := below_box ((wr.setCell ⟨(w.heap.size + 1 + 1), 0, none⟩ (.int .i64 (n.live + 1))).setCell ⟨(w.heap.size + 1 + 1), 3, none⟩ (.int .i64 (n.failed + 1))) (.cells #[.string c.service, .int .i64 c.number, .int .i64 c.version, .int .i64 c.image, .int .i64 c.state, .bool false, .string c.berth] 35)
              have hsz : ((wr.setCell ⟨(w.heap.size + 1 + 1), 0, none⟩ (.int .i64 (n.live + 1))).setCell ⟨(w.heap.size + 1 + 1), 3, none⟩ (.int .i64 (n.failed + 1))).heap.size = wr.heap.size := by simp only [size_setCell]
              have outS : Hid _ := below_blk hwS (blk_set (blk_set (hout.out) 0 (.int .i64 (n.live + 1))) 3 (.int .i64 (n.failed + 1))) (by rw [hsz]; omega)
              have boxS : Hid _ := below_blk hwS (blk_ne (b := (w.heap.size + 1 + 1)) (blk_ne (b := (w.heap.size + 1 + 1)) (hbox.out) 0 (.int .i64 (n.live + 1)) (by omega)) 3 (.int .i64 (n.failed + 1)) (by omega)) (by rw [hsz]; omega)
              have resS : Hid _ := below_blk hwS (blk_ne (b := (w.heap.size + 1 + 1)) (blk_ne (b := (w.heap.size + 1 + 1)) (hres.out) 0 (.int .i64 (n.live + 1)) (by omega)) 3 (.int .i64 (n.failed + 1)) (by omega)) (by rw [hsz]; omega)
              have hbS := (((hb.setCell (p := ⟨(w.heap.size + 1 + 1), 0, none⟩) (by show _ ≤ (w.heap.size + 1 + 1); omega) (.int .i64 (n.live + 1))).setCell (p := ⟨(w.heap.size + 1 + 1), 3, none⟩) (by show _ ≤ (w.heap.size + 1 + 1); omega) (.int .i64 (n.failed + 1)))).alloc (by rw [hsz]; exact hb.size) (.cells #[.string c.service, .int .i64 c.number, .int .i64 c.version, .int .i64 c.image, .int .i64 c.state, .bool false, .string c.berth] 35)
              have HSZ : Hid ((((wr.setCell ⟨(w.heap.size + 1 + 1), 0, none⟩ (.int .i64 (n.live + 1))).setCell ⟨(w.heap.size + 1 + 1), 3, none⟩ (.int .i64 (n.failed + 1))).alloc (.cells #[.string c.service, .int .i64 c.number, .int .i64 c.version, .int .i64 c.image, .int .i64 c.state, .bool false, .string c.berth] 35)).heap.size = wr.heap.size + 1) := by unfold Hid; rw [size_alloc', hsz]
              have cbxS : Hid _ := heap_alloc_new ((wr.setCell ⟨(w.heap.size + 1 + 1), 0, none⟩ (.int .i64 (n.live + 1))).setCell ⟨(w.heap.size + 1 + 1), 3, none⟩ (.int .i64 (n.failed + 1))) (.cells #[.string c.service, .int .i64 c.number, .int .i64 c.version, .int .i64 c.image, .int .i64 c.state, .bool false, .string c.berth] 35)
              rw [hsz] at cbxS
              have svS := (((hsx.below hb hbsS).blk (w' := ((wr.setCell ⟨(w.heap.size + 1 + 1), 0, none⟩ (.int .i64 (n.live + 1))).setCell ⟨(w.heap.size + 1 + 1), 3, none⟩ (.int .i64 (n.failed + 1)))) (blk_ne (b := (w.heap.size + 1 + 1)) (blk_ne (b := (w.heap.size + 1 + 1)) (rfl) 0 (.int .i64 (n.live + 1)) (by omega)) 3 (.int .i64 (n.failed + 1)) (by omega))).below hwS (by rw [hsz]; omega))
              obtain ⟨z0, z1, z2, z3, z4, z5, z6, z7, z8, z9, z10, z11, z12⟩ := svS.grown
              clear z0 z1 z2 z4 z5 z6 z7 z8 z9 z10 z11 z12 svS hsz
              have gc3 := gcell cbxS.out 3 rfl
              have gb1 := gcell boxS.out 1 rfl
              go_wp2
              refine wp_region_quiet_below (by kernel_rfl) (by kernel_rfl) ?_
              repeat (first | go_big_quiet_step (fail) | quiet_step (fail))
              refine wpQuiet_nil ?_
              intro w2 hw'
              obtain ⟨⟨dq, osq⟩, hw''⟩ := hw'
              have hb2 := below_of_grow hw''
              clear hw''
              rw [HSZ.out] at hb2
              have out2 : Hid _ := below_blk hb2 outS.out (by omega)
              have box2 : Hid _ := below_blk hb2 boxS.out (by omega)
              have res2 : Hid _ := below_blk hb2 resS.out (by omega)
              have hbF := hbS.trans (hb2.mono (by omega))
              clear gc3 gb1 z3 x0 x1 x2 x3 x4 x5 x6 o0 o1 o2 o3 o4 f0 f1 f2 f3 f4
              have q2 := blk_cell out2.out 2 rfl
              have qf := blk_frozen out2.out 2
              have outF : Hid _ := blk_set out2.out 2 (.int .i64 (n.old + 1))
              go_wp2
              go_roundw
              case rel => exact ⟨k + 1, ⟨n.live + 1, n.ready, n.old + 1, n.failed + 1, n.ending⟩, by omega, by go_num, hbF.setCell (by simp; omega) _, blk_ne box2.out _ _ (by omega), blk_ne res2.out _ _ (by omega), outF, HC⟩
              case measure => simp [intOf]; omega
        · have hst4 : (c.state == 4) = false := by have h := eq_of_beq hst3; rw [h]; rfl
          cases himg : (c.image != s.image)
          · have HC : Hid ((⟨n.live + 1, n.ready + 1, n.old, n.failed, n.ending⟩ : Cnt) = cntTo s.image sv B.cps (k + 1)) := by unfold Hid; rw [HST.out]; simp [cntOne, cntAdd, addB, hsame, hend, hst3, hst4, himg]
            have hwS := below_box ((wr.setCell ⟨(w.heap.size + 1 + 1), 0, none⟩ (.int .i64 (n.live + 1))).setCell ⟨(w.heap.size + 1 + 1), 1, none⟩ (.int .i64 (n.ready + 1))) (.cells #[.string c.service, .int .i64 c.number, .int .i64 c.version, .int .i64 c.image, .int .i64 c.state, .bool false, .string c.berth] 35)
            have hsz : ((wr.setCell ⟨(w.heap.size + 1 + 1), 0, none⟩ (.int .i64 (n.live + 1))).setCell ⟨(w.heap.size + 1 + 1), 1, none⟩ (.int .i64 (n.ready + 1))).heap.size = wr.heap.size := by simp only [size_setCell]
            have outS : Hid _ := below_blk hwS (blk_set (blk_set (hout.out) 0 (.int .i64 (n.live + 1))) 1 (.int .i64 (n.ready + 1))) (by rw [hsz]; omega)
            have boxS : Hid _ := below_blk hwS (blk_ne (b := (w.heap.size + 1 + 1)) (blk_ne (b := (w.heap.size + 1 + 1)) (hbox.out) 0 (.int .i64 (n.live + 1)) (by omega)) 1 (.int .i64 (n.ready + 1)) (by omega)) (by rw [hsz]; omega)
            have resS : Hid _ := below_blk hwS (blk_ne (b := (w.heap.size + 1 + 1)) (blk_ne (b := (w.heap.size + 1 + 1)) (hres.out) 0 (.int .i64 (n.live + 1)) (by omega)) 1 (.int .i64 (n.ready + 1)) (by omega)) (by rw [hsz]; omega)
            have hbS := (((hb.setCell (p := ⟨(w.heap.size + 1 + 1), 0, none⟩) (by show _ ≤ (w.heap.size + 1 + 1); omega) (.int .i64 (n.live + 1))).setCell (p := ⟨(w.heap.size + 1 + 1), 1, none⟩) (by show _ ≤ (w.heap.size + 1 + 1); omega) (.int .i64 (n.ready + 1)))).alloc (by rw [hsz]; exact hb.size) (.cells #[.string c.service, .int .i64 c.number, .int .i64 c.version, .int .i64 c.image, .int .i64 c.state, .bool false, .string c.berth] 35)
            have HSZ : Hid ((((wr.setCell ⟨(w.heap.size + 1 + 1), 0, none⟩ (.int .i64 (n.live + 1))).setCell ⟨(w.heap.size + 1 + 1), 1, none⟩ (.int .i64 (n.ready + 1))).alloc (.cells #[.string c.service, .int .i64 c.number, .int .i64 c.version, .int .i64 c.image, .int .i64 c.state, .bool false, .string c.berth] 35)).heap.size = wr.heap.size + 1) := by unfold Hid; rw [size_alloc', hsz]
            have cbxS : Hid _ := heap_alloc_new ((wr.setCell ⟨(w.heap.size + 1 + 1), 0, none⟩ (.int .i64 (n.live + 1))).setCell ⟨(w.heap.size + 1 + 1), 1, none⟩ (.int .i64 (n.ready + 1))) (.cells #[.string c.service, .int .i64 c.number, .int .i64 c.version, .int .i64 c.image, .int .i64 c.state, .bool false, .string c.berth] 35)
            rw [hsz] at cbxS
            have svS := (((hsx.below hb hbsS).blk (w' := ((wr.setCell ⟨(w.heap.size + 1 + 1), 0, none⟩ (.int .i64 (n.live + 1))).setCell ⟨(w.heap.size + 1 + 1), 1, none⟩ (.int .i64 (n.ready + 1)))) (blk_ne (b := (w.heap.size + 1 + 1)) (blk_ne (b := (w.heap.size + 1 + 1)) (rfl) 0 (.int .i64 (n.live + 1)) (by omega)) 1 (.int .i64 (n.ready + 1)) (by omega))).below hwS (by rw [hsz]; omega))
            obtain ⟨z0, z1, z2, z3, z4, z5, z6, z7, z8, z9, z10, z11, z12⟩ := svS.grown
            clear z0 z1 z2 z4 z5 z6 z7 z8 z9 z10 z11 z12 svS hsz
            have gc3 := gcell cbxS.out 3 rfl
            have gb1 := gcell boxS.out 1 rfl
            go_wp2
            refine wp_region_quiet_below (by kernel_rfl) (by kernel_rfl) ?_
            repeat (first | go_big_quiet_step (fail) | quiet_step (fail))
            refine wpQuiet_nil ?_
            intro w2 hw'
            obtain ⟨⟨dq, osq⟩, hw''⟩ := hw'
            have hb2 := below_of_grow hw''
            clear hw''
            rw [HSZ.out] at hb2
            have out2 : Hid _ := below_blk hb2 outS.out (by omega)
            have box2 : Hid _ := below_blk hb2 boxS.out (by omega)
            have res2 : Hid _ := below_blk hb2 resS.out (by omega)
            have hbF := hbS.trans (hb2.mono (by omega))
            clear gc3 gb1 z3 x0 x1 x2 x3 x4 x5 x6 o0 o1 o2 o3 o4 f0 f1 f2 f3 f4
            have q2 := blk_cell out2.out 2 rfl
            have qf := blk_frozen out2.out 2
            go_wp2
            go_roundw
            case rel => exact ⟨k + 1, ⟨n.live + 1, n.ready + 1, n.old, n.failed, n.ending⟩, by omega, by go_num, hbF, box2, res2, out2, HC⟩
            case measure => simp [intOf]; omega
          · have HC : Hid ((⟨n.live + 1, n.ready + 1, n.old + 1, n.failed, n.ending⟩ : Cnt) = cntTo s.image sv B.cps (k + 1)) := by unfold Hid; rw [HST.out]; simp [cntOne, cntAdd, addB, hsame, hend, hst3, hst4, himg]
            have hwS := below_box ((wr.setCell ⟨(w.heap.size + 1 + 1), 0, none⟩ (.int .i64 (n.live + 1))).setCell ⟨(w.heap.size + 1 + 1), 1, none⟩ (.int .i64 (n.ready + 1))) (.cells #[.string c.service, .int .i64 c.number, .int .i64 c.version, .int .i64 c.image, .int .i64 c.state, .bool false, .string c.berth] 35)
            have hsz : ((wr.setCell ⟨(w.heap.size + 1 + 1), 0, none⟩ (.int .i64 (n.live + 1))).setCell ⟨(w.heap.size + 1 + 1), 1, none⟩ (.int .i64 (n.ready + 1))).heap.size = wr.heap.size := by simp only [size_setCell]
            have outS : Hid _ := below_blk hwS (blk_set (blk_set (hout.out) 0 (.int .i64 (n.live + 1))) 1 (.int .i64 (n.ready + 1))) (by rw [hsz]; omega)
            have boxS : Hid _ := below_blk hwS (blk_ne (b := (w.heap.size + 1 + 1)) (blk_ne (b := (w.heap.size + 1 + 1)) (hbox.out) 0 (.int .i64 (n.live + 1)) (by omega)) 1 (.int .i64 (n.ready + 1)) (by omega)) (by rw [hsz]; omega)
            have resS : Hid _ := below_blk hwS (blk_ne (b := (w.heap.size + 1 + 1)) (blk_ne (b := (w.heap.size + 1 + 1)) (hres.out) 0 (.int .i64 (n.live + 1)) (by omega)) 1 (.int .i64 (n.ready + 1)) (by omega)) (by rw [hsz]; omega)
            have hbS := (((hb.setCell (p := ⟨(w.heap.size + 1 + 1), 0, none⟩) (by show _ ≤ (w.heap.size + 1 + 1); omega) (.int .i64 (n.live + 1))).setCell (p := ⟨(w.heap.size + 1 + 1), 1, none⟩) (by show _ ≤ (w.heap.size + 1 + 1); omega) (.int .i64 (n.ready + 1)))).alloc (by rw [hsz]; exact hb.size) (.cells #[.string c.service, .int .i64 c.number, .int .i64 c.version, .int .i64 c.image, .int .i64 c.state, .bool false, .string c.berth] 35)
            have HSZ : Hid ((((wr.setCell ⟨(w.heap.size + 1 + 1), 0, none⟩ (.int .i64 (n.live + 1))).setCell ⟨(w.heap.size + 1 + 1), 1, none⟩ (.int .i64 (n.ready + 1))).alloc (.cells #[.string c.service, .int .i64 c.number, .int .i64 c.version, .int .i64 c.image, .int .i64 c.state, .bool false, .string c.berth] 35)).heap.size = wr.heap.size + 1) := by unfold Hid; rw [size_alloc', hsz]
            have cbxS : Hid _ := heap_alloc_new ((wr.setCell ⟨(w.heap.size + 1 + 1), 0, none⟩ (.int .i64 (n.live + 1))).setCell ⟨(w.heap.size + 1 + 1), 1, none⟩ (.int .i64 (n.ready + 1))) (.cells #[.string c.service, .int .i64 c.number, .int .i64 c.version, .int .i64 c.image, .int .i64 c.state, .bool false, .string c.berth] 35)
            rw [hsz] at cbxS
            have svS := (((hsx.below hb hbsS).blk (w' := ((wr.setCell ⟨(w.heap.size + 1 + 1), 0, none⟩ (.int .i64 (n.live + 1))).setCell ⟨(w.heap.size + 1 + 1), 1, none⟩ (.int .i64 (n.ready + 1)))) (blk_ne (b := (w.heap.size + 1 + 1)) (blk_ne (b := (w.heap.size + 1 + 1)) (rfl) 0 (.int .i64 (n.live + 1)) (by omega)) 1 (.int .i64 (n.ready + 1)) (by omega))).below hwS (by rw [hsz]; omega))
            obtain ⟨z0, z1, z2, z3, z4, z5, z6, z7, z8, z9, z10, z11, z12⟩ := svS.grown
            clear z0 z1 z2 z4 z5 z6 z7 z8 z9 z10 z11 z12 svS hsz
            have gc3 := gcell cbxS.out 3 rfl
            have gb1 := gcell boxS.out 1 rfl
            go_wp2
            refine wp_region_quiet_below (by kernel_rfl) (by kernel_rfl) ?_
            repeat (first | go_big_quiet_step (fail) | quiet_step (fail))
            refine wpQuiet_nil ?_
            intro w2 hw'
            obtain ⟨⟨dq, osq⟩, hw''⟩ := hw'
            have hb2 := below_of_grow hw''
            clear hw''
            rw [HSZ.out] at hb2
            have out2 : Hid _ := below_blk hb2 outS.out (by omega)
            have box2 : Hid _ := below_blk hb2 boxS.out (by omega)
            have res2 : Hid _ := below_blk hb2 resS.out (by omega)
            have hbF := hbS.trans (hb2.mono (by omega))
            clear gc3 gb1 z3 x0 x1 x2 x3 x4 x5 x6 o0 o1 o2 o3 o4 f0 f1 f2 f3 f4
            have q2 := blk_cell out2.out 2 rfl
            have qf := blk_frozen out2.out 2
            have outF : Hid _ := blk_set out2.out 2 (.int .i64 (n.old + 1))
            go_wp2
            go_roundw
            case rel => exact ⟨k + 1, ⟨n.live + 1, n.ready + 1, n.old + 1, n.failed, n.ending⟩, by omega, by go_num, hbF.setCell (by simp; omega) _, blk_ne box2.out _ _ (by omega), blk_ne res2.out _ _ (by omega), outF, HC⟩
            case measure => simp [intOf]; omega
      · have HC : Hid ({ n with ending := n.ending + 1 } = cntTo s.image sv B.cps (k + 1)) := by unfold Hid; rw [HST.out]; simp [cntOne, cntAdd, hsame, hend]
        have hwS := below_box (wr.setCell ⟨(w.heap.size + 1 + 1), 4, none⟩ (.int .i64 (n.ending + 1))) (.cells #[.string c.service, .int .i64 c.number, .int .i64 c.version, .int .i64 c.image, .int .i64 c.state, .bool true, .string c.berth] 35)
        have hsz : (wr.setCell ⟨(w.heap.size + 1 + 1), 4, none⟩ (.int .i64 (n.ending + 1))).heap.size = wr.heap.size := by simp only [size_setCell]
        have outS : Hid _ := below_blk hwS (blk_set (hout.out) 4 (.int .i64 (n.ending + 1))) (by rw [hsz]; omega)
        have boxS : Hid _ := below_blk hwS (blk_ne (b := (w.heap.size + 1 + 1)) (hbox.out) 4 (.int .i64 (n.ending + 1)) (by omega)) (by rw [hsz]; omega)
        have resS : Hid _ := below_blk hwS (blk_ne (b := (w.heap.size + 1 + 1)) (hres.out) 4 (.int .i64 (n.ending + 1)) (by omega)) (by rw [hsz]; omega)
        have hbS := ((hb.setCell (p := ⟨(w.heap.size + 1 + 1), 4, none⟩) (by show _ ≤ (w.heap.size + 1 + 1); omega) (.int .i64 (n.ending + 1)))).alloc (by rw [hsz]; exact hb.size) (.cells #[.string c.service, .int .i64 c.number, .int .i64 c.version, .int .i64 c.image, .int .i64 c.state, .bool true, .string c.berth] 35)
        have HSZ : Hid (((wr.setCell ⟨(w.heap.size + 1 + 1), 4, none⟩ (.int .i64 (n.ending + 1))).alloc (.cells #[.string c.service, .int .i64 c.number, .int .i64 c.version, .int .i64 c.image, .int .i64 c.state, .bool true, .string c.berth] 35)).heap.size = wr.heap.size + 1) := by unfold Hid; rw [size_alloc', hsz]
        go_wp2
        go_roundw
        case rel => exact ⟨k + 1, { n with ending := n.ending + 1 }, by omega, by go_num, hbS, boxS, resS, outS, HC⟩
        case measure => simp [intOf]; omega
    · have hkl : k = B.cps.length := by omega
      have HNN : Hid (N = n) := by unfold Hid; rw [hN.out, HN.out, hkl]
      have p0 := blk_cell hres.out 0 rfl
      have p1 := blk_cell hres.out 1 rfl
      have p2 := blk_cell hres.out 2 rfl
      have p3 := blk_cell hres.out 3 rfl
      have p4 := blk_cell hres.out 4 rfl
      have g0 := blk_frozen hres.out 0
      have g1 := blk_frozen hres.out 1
      have g2 := blk_frozen hres.out 2
      have g3 := blk_frozen hres.out 3
      have g4 := blk_frozen hres.out 4
      clear hkl
      go_wp2
      refine bodyPost_ret (v := .agg #[.int .i64 n.live, .int .i64 n.ready, .int .i64 n.old, .int .i64 n.failed, .int .i64 n.ending]) (by simp [results, Try.results28, go_sem, p0, p1, p2, p3, p4]) rfl ⟨by rw [HNN.out], ?_⟩
      exact ((((hb.setCell (by simp) _).setCell (by simp) _).setCell (by simp) _).setCell (by simp) _).setCell (by simp) _

end Go.Proofs.Ytbceafpodamnfaa
