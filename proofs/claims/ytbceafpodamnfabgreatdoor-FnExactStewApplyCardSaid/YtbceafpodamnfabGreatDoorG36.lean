/-
  My own: Oo, Op.
-/
import Derived.Test.YtbceafpodamnfabGreatDoorG35
import Derived.Test.YtbceafpodamnfabGreatDoorG34
import Derived.Defers
import Derived.Recover
import Derived.Laws.Pointers
set_option linter.unusedVariables false
set_option linter.unusedSimpArgs false
namespace Go.Proofs.YtbceafpodamnfabGreatDoor
open Go.RowKit Go.Sort
theorem Tryz.infosSvcsO : (Tryz.prog.info? 32).map (·.size) = some 1 := by kernel_rfl
def dropS (A : Ac) (l : List Svc) (k : Nat) : List Svc := if A.drop then l.take k ++ l.drop (k + 1) else l
set_option maxRecDepth 100000 in
set_option maxHeartbeats 8000000 in
theorem drop_any (A : Ac) (ae : Option Addr) (ce : Nat) (X : Bk) (s : Svc) (N g k : Nat) (I : List Int) (w : World) (hl1 : X.svcs.length ≤ 1048576) (hN : N ≤ w.heap.size) (hk : X.svcs[k]? = some s) (hS : WkAt w N g A ae ce X k I) :
  Calls Tryz.prog 178 #[.pointer (some ⟨g, 0, none⟩)] w fun e w' => e = .returned (.tuple #[]) ∧ WkAt w' N g A ae ce { X with svcs := dropS A X.svcs k } k I ∧ Below N w w' := by
 have HST := hidWk hS
 obtain ⟨b1, b2, b3, d1, d2, d3, ve, hNg, hg, hbk, hei⟩ := hS
 have hkl : k < X.svcs.length := (List.getElem?_eq_some_iff.1 hk).1
 obtain ⟨g1, e1, hN1, hr1⟩ := hbk.svcs.some (by omega)
 subst e1
 obtain ⟨n1, HN1⟩ : ∃ n, Hid (X.svcs.length = n) := ⟨_, rfl⟩
 obtain ⟨n2, HN2⟩ : ∃ n, Hid (X.cps.length = n) := ⟨_, rfl⟩
 obtain ⟨n3, HN3⟩ : ∃ n, Hid (X.bts.length = n) := ⟨_, rfl⟩
 obtain ⟨ne, HNE⟩ : ∃ n, Hid (I.length = n) := ⟨_, rfl⟩
 obtain ⟨r2, r3⟩ : RowN w N 149 7 b2 X.cps.length d2 (cpsV X.cps) ∧ RowN w N 147 2 b3 X.bts.length d3 (btsV X.bts) := ⟨hbk.cps, hbk.bts⟩
 clear hbk
 rw [HN1.out] at hr1 hg hkl hl1
 rw [HN2.out] at r2 hg
 rw [HN3.out] at r3 hg
 rw [HNE.out] at hei
 have HK : Hid _ := hk
 have HG : Hid _ := hg
 have HR1 : Hid (RowIs w 67 13 g1 n1 d1 (svcsV X.svcs)) := hr1
 have HR2 := hidRowN r2
 have HR3 := hidRowN r3
 have HEI : Hid (w.ownsRow N 3 1 ve ne (intsV I)) := hei
 have hlt : g < w.heap.size := (Array.getElem?_eq_some_iff.1 hg).1
 have hlt1 : g1 < w.heap.size := hr1.lt
 clear hk hg hr1 r2 r3 hei
 have e7 := blk_cell HG.out 7 rfl
 obtain ⟨dr, HDR⟩ : ∃ b, Hid (A.drop = b) := ⟨_, rfl⟩
 rw [HDR.out] at e7
 go_enter Tryz.func178, Tryz.ntmps178
 cases dr
 ·go_wp2
  go_end0
  refine ⟨rfl, ?_, Below.refl _ _⟩
  rw [show dropS A X.svcs k = X.svcs by unfold dropS; rw [HDR.out]; rfl]
  exact HST.out
 have hng : (some ⟨g1, 0, none⟩ : Option Addr) ≠ some ⟨g, 0, none⟩ := rowN_ne (.inr ⟨g1, rfl, hN1, HR1.out⟩) HG.out (by decide)
 obtain ⟨L2, HL2⟩ : ∃ x, Hid (x = X.svcs.take k ++ X.svcs.drop (k + 1)) := ⟨_, rfl⟩
 go_upto_region 1 with fail
 clear e7
 obtain ⟨wb, hwb⟩ : ∃ x, x = w := ⟨_, rfl⟩
 subst hwb
 refine wp_region_turns 19 15 (fun W W' => KeepO (some ⟨g1, 0, none⟩) W W' ∧ Below N W W') (fun W => KeepO (some ⟨g1, 0, none⟩) wb W ∧ Below N wb W) (fun W => RowN W N 67 13 (some ⟨g1, 0, none⟩) n1 d1 (svcsV X.svcs)) (by kernel_rfl) (by kernel_rfl) ⟨KeepO.refl _ _, Below.refl _ _⟩ (.inr ⟨g1, rfl, hN1, HR1.out⟩) (fun _ _ h hb => ⟨h.1.trans (.of_below hb), h.2.trans (hb.mono (Nat.le_trans hN h.2.size))⟩) (fun _ _ h hr => ⟨h.1.trans hr.1, h.2.trans hr.2⟩) (fun _ _ h hb => h.below hb) ?_
 apply growR_eq
 ·intro V W K AA hW hZ hd hA hK
  simp only [putAll, pz1, pz2, pz3, pz4, Act.put, pz5, pz6, pz7] at hA
  clear hd
  obtain rfl := hA
  go_wp2
  exact hK.out _ brf
 apply growR_eq
 ·intro V W K AA hW hZ hd hA hK
  simp only [putAll, pz1, pz2, pz3, pz4, Act.put, pz5, pz6, pz7] at hA
  clear hd
  obtain rfl := hA
  go_wp2
  exact hK.out _ brf
 apply growR_eq
 ·intro V W K AA hW hZ hd hA hK
  have d1 : V 1 = _ := hd 1 (by kernel_rfl)
  simp only [putAll, pz1, pz2, pz3, pz4, Act.put, pz5, pz6, pz7, d1] at hA
  clear hd d1
  obtain rfl := hA
  go_wp2
  exact hK.out _ brf
 apply growR_eq
 ·intro V W K AA hW hZ hd hA hK
  have d2 : V 2 = _ := hd 2 (by kernel_rfl)
  simp only [putAll, pz1, pz2, pz3, pz4, Act.put, pz5, pz6, pz7, d2] at hA
  clear hd d2
  obtain rfl := hA
  go_wp2
  exact hK.out _ brf
 apply growR_eq
 ·intro V W K AA hW hZ hd hA hK
  have d3 : V 3 = _ := hd 3 (by kernel_rfl)
  simp only [putAll, pz1, pz2, pz3, pz4, Act.put, pz5, pz6, pz7, d3] at hA
  clear hd d3
  obtain rfl := hA
  go_wp2
  exact hK.out _ brf
 apply growR_eq
 ·intro V W K AA hW hZ hd hA hK
  have d4 : V 4 = _ := hd 4 (by kernel_rfl)
  simp only [putAll, pz1, pz2, pz3, pz4, Act.put, pz5, pz6, pz7, d4] at hA
  clear hd d4
  obtain rfl := hA
  have e9 := blk_cell ((hW.1.2 g hlt hng).trans HG.out) 9 rfl
  go_wp2
  exact hK.out _ brf
 apply growR_eq
 ·intro V W K AA hW hZ hd hA hK
  simp only [putAll, pz1, pz2, pz3, pz4, Act.put, pz5, pz6, pz7] at hA
  clear hd
  obtain rfl := hA
  go_wp2
  exact hK.out _ brf
 apply growR_eq
 ·intro V W K AA hW hZ hd hA hK
  have d6 : V 6 = _ := hd 6 (by kernel_rfl)
  simp only [putAll, pz1, pz2, pz3, pz4, Act.put, pz5, pz6, pz7, d6] at hA
  clear hd d6
  obtain rfl := hA
  go_wp2
  exact hK.out _ brf
 apply growR_eq
 ·intro V W K AA hW hZ hd hA hK
  have d7 : V 7 = _ := hd 7 (by kernel_rfl)
  simp only [putAll, pz1, pz2, pz3, pz4, Act.put, pz5, pz6, pz7, d7] at hA
  clear hd d7
  obtain rfl := hA
  go_wp2
  exact hK.out _ brf
 apply growR_eq
 ·intro V W K AA hW hZ hd hA hK
  have d8 : V 8 = _ := hd 8 (by kernel_rfl)
  simp only [putAll, pz1, pz2, pz3, pz4, Act.put, pz5, pz6, pz7, d8] at hA
  clear hd d8
  obtain rfl := hA
  have e12 := blk_cell ((hW.1.2 g hlt hng).trans HG.out) 12 rfl
  go_wp2
  exact hK.out _ brf
 apply growR_eq
 ·intro V W K AA hW hZ hd hA hK
  simp only [putAll, pz1, pz2, pz3, pz4, Act.put, pz5, pz6, pz7] at hA
  clear hd
  obtain rfl := hA
  go_wp2
  exact hK.out _ brf
 apply growR_eq
 ·intro V W K AA hW hZ hd hA hK
  have d10 : V 10 = _ := hd 10 (by kernel_rfl)
  simp only [putAll, pz1, pz2, pz3, pz4, Act.put, pz5, pz6, pz7, d10] at hA
  clear hd d10
  obtain rfl := hA
  go_wp2
  exact hK.out _ brf
 apply growR_eq
 ·intro V W K AA hW hZ hd hA hK
  have d11 : V 11 = _ := hd 11 (by kernel_rfl)
  simp only [putAll, pz1, pz2, pz3, pz4, Act.put, pz5, pz6, pz7, d11] at hA
  clear hd d11
  obtain rfl := hA
  go_wp2
  exact hK.out _ brf
 apply growR_eq
 ·intro V W K AA hW hZ hd hA hK
  have d12 : V 12 = _ := hd 12 (by kernel_rfl)
  simp only [putAll, pz1, pz2, pz3, pz4, Act.put, pz5, pz6, pz7, d12] at hA
  clear hd d12
  obtain rfl := hA
  have e12 := blk_cell ((hW.1.2 g hlt hng).trans HG.out) 12 rfl
  go_wp2
  exact hK.out _ brf
 refine growR_op (fun v _ => v = .int .i64 ((k : Int) + 1)) (fun _ _ _ _ _ h _ => h) ?_ ?_
 ·intro V W K AA hW hZ hd hA hK
  have d13 : V 13 = _ := hd 13 (by kernel_rfl)
  simp only [putAll, pz1, pz2, pz3, pz4, Act.put, pz5, pz6, pz7, d13] at hA
  clear hd d13
  obtain rfl := hA
  go_wp2
  exact hK.out _ _ brf (by go_num)
 refine growR_op (fun v W => ∃ bo n' kk, v = .slice bo n' kk ∧ n' = L2.length ∧ RowN W N 67 13 bo n' kk (svcsV L2)) (fun i hi v W W' ⟨bo, n', kk, h1, h2, h3⟩ hr => ⟨bo, n', kk, h1, h2, h3.below (relq_other hi hr)⟩) ?_ ?_
 ·intro V W K AA hW hZ hd hA hK
  have d5 : V 5 = _ := hd 5 (by kernel_rfl)
  have d9 : V 9 = _ := hd 9 (by kernel_rfl)
  have d14 : (fun v _ => v = .int .i64 ((k : Int) + 1)) (V 14) W := hd 14 (by kernel_rfl)
  simp only [putAll, pz1, pz2, pz3, pz4, Act.put, pz5, pz6, pz7, d5, d9] at hA
  clear hd d5 d9
  generalize V 14 = x14 at d14 hA
  obtain rfl := hA
  obtain rfl := d14
  have h0 := hZ rfl
  go_wp2_with fail
  refine (deleteS_any X.svcs (some ⟨g1, 0, none⟩) n1 d1 k N _ HN1 hl1 hkl (Nat.le_trans hN hW.1.1) h0).mono ?_
  rintro e w3 ⟨bo, n', kk, rfl, hn', hr, hq, hbN⟩
  have HRR : Hid (RowN w3 N 67 13 bo n' kk (svcsV L2)) := by
   rw [HL2.out]
   exact hr
  have HQQ : Hid _ := hq
  have HNN : Hid (n' = L2.length) := by rw [HL2.out]; exact hn'
  clear hr hq h0 hn'
  go_wp2
  exact hK.out _ _ ⟨⟨hbN.size, HQQ.out⟩, hbN⟩ ⟨bo, n', kk, rfl, HNN.out, HRR.out⟩
 apply growR_eq
 ·intro V W K AA hW hZ hd hA hK
  have d0 : V 0 = _ := hd 0 (by kernel_rfl)
  simp only [putAll, pz1, pz2, pz3, pz4, Act.put, pz5, pz6, pz7, d0] at hA
  clear hd d0
  obtain rfl := hA
  go_wp2
  exact hK.out _ brf
 apply growR_eq
 ·intro V W K AA hW hZ hd hA hK
  have d16 : V 16 = _ := hd 16 (by kernel_rfl)
  simp only [putAll, pz1, pz2, pz3, pz4, Act.put, pz5, pz6, pz7, d16] at hA
  clear hd d16
  obtain rfl := hA
  go_wp2
  exact hK.out _ brf
 apply growR_eq
 ·intro V W K AA hW hZ hd hA hK
  have d17 : V 17 = _ := hd 17 (by kernel_rfl)
  simp only [putAll, pz1, pz2, pz3, pz4, Act.put, pz5, pz6, pz7, d17] at hA
  clear hd d17
  obtain rfl := hA
  go_wp2
  exact hK.out _ brf
 intro V W AA hW hS hA
 have d0 : V 0 = _ := hS 0 (by omega)
 have d1 : V 1 = _ := hS 1 (by omega)
 have d2 : V 2 = _ := hS 2 (by omega)
 have d3 : V 3 = _ := hS 3 (by omega)
 have d4 : V 4 = _ := hS 4 (by omega)
 have d5 : V 5 = _ := hS 5 (by omega)
 have d6 : V 6 = _ := hS 6 (by omega)
 have d7 : V 7 = _ := hS 7 (by omega)
 have d8 : V 8 = _ := hS 8 (by omega)
 have d9 : V 9 = _ := hS 9 (by omega)
 have d10 : V 10 = _ := hS 10 (by omega)
 have d11 : V 11 = _ := hS 11 (by omega)
 have d12 : V 12 = _ := hS 12 (by omega)
 have d13 : V 13 = _ := hS 13 (by omega)
 have d14 : (fun v _ => v = .int .i64 ((k : Int) + 1)) (V 14) W := hS 14 (by omega)
 have d15 : (fun v W => ∃ bo n' kk, v = .slice bo n' kk ∧ n' = L2.length ∧ RowN W N 67 13 bo n' kk (svcsV L2)) (V 15) W := hS 15 (by omega)
 have d16 : V 16 = _ := hS 16 (by omega)
 have d17 : V 17 = _ := hS 17 (by omega)
 have d18 : V 18 = _ := hS 18 (by omega)
 simp only [putAll, pz1, pz2, pz3, pz4, Act.put, pz5, pz6, pz7, d0, d1, d2, d3, d4, d5, d6, d7, d8, d9, d10, d11, d12, d13, d16, d17, d18] at hA
 clear hS d0 d1 d2 d3 d4 d5 d6 d7 d8 d9 d10 d11 d12 d13 d16 d17 d18
 generalize V 14 = x14 at d14 hA
 generalize V 15 = x15 at d15 hA
 obtain rfl := hA
 simp only [List.drop_succ_cons, List.drop_zero]
 obtain rfl := d14
 obtain ⟨bo, n', kk, rfl, hn', hrr⟩ := d15
 have HRR := hidRowN hrr
 have HNN : Hid _ := hn'
 have HKO : Hid (KeepO (some ⟨g1, 0, none⟩) wb W) := hW.1
 have hbW := hW.2
 have HKT : Hid (KeepT 67 wb W) := HKO.out.toT (.inr ⟨g1, rfl, hN1, HR1.out⟩)
 have HGW : Hid _ := (HKO.out.2 g hlt hng).trans HG.out
 clear hrr hW hn'
 go_wp2_with ((with_reducible show wpList _ _ _ _ _ _); refine wpList_store_one rfl 32 (.tmp 25) (.tmp 22) rfl g 9 (.slice bo n' kk) rfl rfl Tryz.infosSvcsO rfl rfl 222 #[.string A.service, .int .i64 A.seen, .int .i64 A.create, .int .i64 A.want, .int .i64 A.cool, .bool A.scale, .slice ae A.ends.length ce, .bool A.drop, .int .i64 X.now, .slice (some ⟨g1, 0, none⟩) n1 d1, .slice b2 n2 d2, .slice b3 n3 d3, .int .i64 (k : Int), ve] HGW.out (Nat.le_of_ble_eq_true rfl) ?_; intro w4 hz on; have HG4 : Hid (w4.heap[g]? = some (.cells #[.string A.service, .int .i64 A.seen, .int .i64 A.create, .int .i64 A.want, .int .i64 A.cool, .bool A.scale, .slice ae A.ends.length ce, .bool A.drop, .int .i64 X.now, (.slice bo n' kk), .slice b2 n2 d2, .slice b3 n3 d3, .int .i64 (k : Int), ve] 222 (0, 0))) := hz; have HO4 : Hid (Only g W w4) := on; clear hz on)
 go_end0
 have k4 : KeepT 222 W w4 := .of_only HO4.out HGW.out
 have hds : dropS A X.svcs k = L2 := by unfold dropS; rw [HDR.out, HL2.out]; rfl
 rw [hds]
 refine ⟨rfl, ⟨bo, b2, b3, kk, d2, d3, ve, hNg, ?_, ⟨?_, ?_, ?_⟩, ?_⟩, hbW.trans (HO4.out.below.mono hNg)⟩
 ·have := HG4.out
  rw [← HN2.out, ← HN3.out, HNN.out] at this
  exact this
 ·have := k4.rowN HRR.out (by decide)
  rw [HNN.out] at this
  exact this
 ·have := k4.rowN (HKT.out.rowN HR2.out (by decide)) (by decide)
  rw [← HN2.out] at this
  exact this
 ·have := k4.rowN (HKT.out.rowN HR3.out (by decide)) (by decide)
  rw [← HN3.out] at this
  exact this
 ·have := k4.own (HKT.out.own HEI.out (by decide)) (by decide)
  rw [← HNE.out] at this
  exact this
end Go.Proofs.YtbceafpodamnfabGreatDoor

namespace Go.Proofs.YtbceafpodamnfabGreatDoor
open Go.RowKit Go.Sort
theorem Tryz.infosBk4 : (Tryz.prog.info? 36).map (·.size) = some 4 := by kernel_rfl
theorem Tryz.infosErr : (Tryz.prog.info? 132).map (·.size) = some 1 := by kernel_rfl
theorem Tryz.assertNil (w : World) : (Instr.typeAssert .nilIface 20 218 true).run Tryz.prog w = .ok (.tuple #[.agg #[.nilIface], .bool false]) w := by kernel_rfl
theorem Tryz.assertOwn (v : Value) (w : World) : (Instr.typeAssert (.iface 218 v) 20 218 true).run Tryz.prog w = .ok (.tuple #[v, .bool true]) w := by kernel_rfl
theorem relp_other {p g : Nat} {i : Nat} {W W' : World} (hi : i ≠ p) (h : RelP p g i W W') : Below W.heap.size W W' := by
 unfold RelP at h
 split at h
 ·rename_i hb
  exact absurd (Nat.eq_of_beq_eq_true hb) hi
 ·exact h
set_option maxRecDepth 100000 in
set_option maxHeartbeats 4000000 in
theorem catch_idle (pa pe : Nat) (w : World) :
  CallsD Tryz.prog 166 #[.pointer (some ⟨pa, 0, none⟩), .pointer (some ⟨pe, 0, none⟩)] .returning w fun e u' w' => e = .returned (.tuple #[]) ∧ u' = .returning ∧ Below w.heap.size w w' := by
 refine callsD_of_wpS Tryz.func166 rfl fun c₀ cs hu => ?_
 apply wpS_seq
 apply wpS_region
 simp [wpOpsS, go_sem, recoverD, hu, Tryz.ntmps166, Exit.thenS]
 refine wpS_of_wp ?_
 show Code.wp _ _ _ ({ tmps := #[.pointer (some ⟨pa, 0, none⟩), .pointer (some ⟨pe, 0, none⟩), .nilIface, undef, undef, .nilIface, undef, undef, undef, undef, undef, undef, undef, undef, undef, undef, undef, undef], defers := [] } : Act) _
 have ta := Tryz.assertNil
 go_wp2
 cases c₀
 simp_all [bodyPostS, results, Tryz.results166]
 exact below_box _ _
set_option maxRecDepth 100000 in
set_option maxHeartbeats 4000000 in
theorem catch_own (pa pe : Nat) (c : Int) (w : World) (ha : w.heap[pa]? = some (.cells #[.int .i64 0, .slice none 0 0, .slice none 0 0, .slice none 0 0] 36 (0, 0))) (he : w.heap[pe]? = some (.cells #[.nilIface] 132 (0, 0))) :
  CallsD Tryz.prog 166 #[.pointer (some ⟨pa, 0, none⟩), .pointer (some ⟨pe, 0, none⟩)] (.panicking [{ v := .iface 218 (.agg #[(.iface 170 (.agg #[.int .i64 c]))]), recovered := false }]) w fun e u' w' => e = .returned (.tuple #[]) ∧ u' = .panicking [{ v := .iface 218 (.agg #[(.iface 170 (.agg #[.int .i64 c]))]), recovered := true }] ∧ w'.heap[pa]? = some (.cells #[.int .i64 0, .slice none 0 0, .slice none 0 0, .slice none 0 0] 36 (0, 0)) ∧ w'.heap[pe]? = some (.cells #[.iface 218 (.agg #[(.iface 170 (.agg #[.int .i64 c]))])] 132 (0, 0)) ∧ (∀ N, N ≤ pa → N ≤ pe → N ≤ w.heap.size → Below N w w') := by
 refine callsD_of_wpS Tryz.func166 rfl fun c₀ cs hu => ?_
 apply wpS_seq
 apply wpS_region
 simp [wpOpsS, go_sem, recoverD, hu, Tryz.ntmps166, Exit.thenS]
 refine wpS_of_wp ?_
 show Code.wp _ _ _ ({ tmps := #[.pointer (some ⟨pa, 0, none⟩), .pointer (some ⟨pe, 0, none⟩), (.iface 218 (.agg #[(.iface 170 (.agg #[.int .i64 c]))])), undef, undef, (.iface 218 (.agg #[(.iface 170 (.agg #[.int .i64 c]))])), undef, undef, undef, undef, undef, undef, undef, undef, undef, undef, undef, undef], defers := [] } : Act) _
 have ta := Tryz.assertOwn
 have HA : Hid _ := ha
 have HE : Hid _ := he
 have hal : pa < w.heap.size := (Array.getElem?_eq_some_iff.1 ha).1
 have hel : pe < w.heap.size := (Array.getElem?_eq_some_iff.1 he).1
 have hne : pe ≠ pa := fun e => by
  rw [e, ha] at he
  injection he with he
  injection he with _ he
  exact absurd he (by decide)
 have T0 : Hid _ := heap_alloc_new w (.cells #[(.iface 170 (.agg #[.int .i64 c]))] 218)
 have hb0 := below_box w (.cells #[(.iface 170 (.agg #[.int .i64 c]))] 218)
 obtain ⟨W0, hW0⟩ : ∃ W, w.alloc (.cells #[(.iface 170 (.agg #[.int .i64 c]))] 218) = W := ⟨_, rfl⟩
 rw [hW0] at T0 hb0
 clear ha he
 go_upto_region 3 with fail
 clear hW0 ta
 have HA0 : Hid _ := below_blk hb0 HA.out hal
 have HE0 : Hid _ := below_blk hb0 HE.out hel
 have hq : w.heap.size < W0.heap.size := (Array.getElem?_eq_some_iff.1 T0.out).1
 have hqa : w.heap.size ≠ pa := by omega
 have hea : pe < W0.heap.size := by omega
 refine wp_region_stores 4 3 pa (fun W => KeepB pa W0 W ∧ ∀ N, N ≤ pa → N ≤ W0.heap.size → Below N W0 W) (fun W => W.heap[pa]? = some (.cells #[.int .i64 0, .slice none 0 0, .slice none 0 0, .slice none 0 0] 36 (0, 0))) (by kernel_rfl) (by kernel_rfl) ⟨KeepB.refl _ _, fun _ _ _ => Below.refl _ _⟩ HA0.out (fun _ _ h hb => ⟨h.1.below hb, fun N h1 h2 => (h.2 N h1 h2).trans (hb.mono (Nat.le_trans h2 h.1.1))⟩) (fun _ _ h on => ⟨h.1.only on, fun N h1 h2 => (h.2 N h1 h2).trans (on.below.mono h1)⟩) (fun _ _ h hb => below_blk hb h (Array.getElem?_eq_some_iff.1 h).1) ?_
 apply growR_eq
 ·intro V W K AA hW hZ hd hA hK
  simp only [putAll, pz1, pz2, pz3, pz4, Act.put, pz5, pz6, pz7] at hA
  clear hd
  obtain rfl := hA
  go_wp2
  exact hK.out _ brf
 apply growR_eq
 ·intro V W K AA hW hZ hd hA hK
  simp only [putAll, pz1, pz2, pz3, pz4, Act.put, pz5, pz6, pz7] at hA
  clear hd
  obtain rfl := hA
  have t0 := blk_cell ((hW.1.2 w.heap.size hq hqa).trans T0.out) 0 rfl
  go_wp2
  exact hK.out _ brf
 apply growR_eq
 ·intro V W K AA hW hZ hd hA hK
  have d1 : V 1 = _ := hd 1 (by kernel_rfl)
  simp only [putAll, pz1, pz2, pz3, pz4, Act.put, pz5, pz6, pz7, d1] at hA
  clear hd d1
  obtain rfl := hA
  go_wp2
  exact hK.out _ brf
 refine growR_op (fun _ W => W.heap[pa]? = some (.cells #[.int .i64 0, .slice none 0 0, .slice none 0 0, .slice none 0 0] 36 (0, 0))) (fun i hi _ W W' h hr => below_blk (relp_other hi hr) h (Array.getElem?_eq_some_iff.1 h).1) ?_ ?_
 ·intro V W K AA hW hZ hd hA hK
  have d0 : V 0 = _ := hd 0 (by kernel_rfl)
  simp only [putAll, pz1, pz2, pz3, pz4, Act.put, pz5, pz6, pz7, d0] at hA
  clear hd d0
  obtain rfl := hA
  have h0 := hZ rfl
  refine wpList_store_only rfl 36 (.tmp 0) (.tmp 12) rfl pa 0 #[.int .i64 0, .slice none 0 0, .slice none 0 0, .slice none 0 0] rfl rfl 36 #[.int .i64 0, .slice none 0 0, .slice none 0 0, .slice none 0 0] h0 Tryz.infosBk4 (Nat.le_of_ble_eq_true rfl) (by simp [Value.oneCell']) ?_
  intro w2 hz on
  have h2 : w2.heap[pa]? = some (.cells #[.int .i64 0, .slice none 0 0, .slice none 0 0, .slice none 0 0] 36 (0, 0)) := hz.out
  exact hK.out _ _ on h2
 intro V W AA hW hS hA
 have d0 : V 0 = _ := hS 0 (by omega)
 have d1 : V 1 = _ := hS 1 (by omega)
 have d2 : V 2 = _ := hS 2 (by omega)
 have d3 : (fun _ W => W.heap[pa]? = some (.cells #[.int .i64 0, .slice none 0 0, .slice none 0 0, .slice none 0 0] 36 (0, 0))) (V 3) W := hS 3 (by omega)
 simp only [putAll, pz1, pz2, pz3, pz4, Act.put, pz5, pz6, pz7, d0, d1, d2] at hA
 clear hS d0 d1 d2
 obtain rfl := hA
 simp only [List.drop_succ_cons, List.drop_zero]
 have hd3 := d3
 clear d3
 have HEW : Hid _ := (hW.1.2 pe hea hne).trans HE0.out
 have HAW : Hid (W.heap[pa]? = some (.cells #[.int .i64 0, .slice none 0 0, .slice none 0 0, .slice none 0 0] 36 (0, 0))) := hd3
 have HKB : Hid (KeepB pa W0 W) := hW.1
 have hbW := hW.2
 clear hW hd3
 go_wp2_with ((with_reducible show wpList _ _ _ _ _ _); refine wpList_store_one rfl 132 (.tmp 1) (.tmp 14) rfl pe 0 (.iface 218 (.agg #[(.iface 170 (.agg #[.int .i64 c]))])) rfl rfl Tryz.infosErr rfl rfl 132 #[.nilIface] HEW.out (Nat.le_of_ble_eq_true rfl) ?_; intro w3 hz on; have HE3 : Hid (w3.heap[pe]? = some (.cells #[.iface 218 (.agg #[(.iface 170 (.agg #[.int .i64 c]))])] 132 (0, 0))) := hz; have HO3 : Hid (Only pe W w3) := on; clear hz on)
 have HA3 : w3.heap[pa]? = some (.cells #[.int .i64 0, .slice none 0 0, .slice none 0 0, .slice none 0 0] 36 (0, 0)) := (HO3.out.other pa (Ne.symm hne)).trans HAW.out
 have hfin : ∀ N, N ≤ pa → N ≤ pe → N ≤ w.heap.size → Below N w w3 := fun N h1 h2 h3 => (hb0.mono h3).trans ((hbW N h1 (by omega)).trans (HO3.out.below.mono h2))
 have HF : Hid _ := hfin
 have HE3' := HE3.out
 clear hfin
 cases c₀
 simp_all [bodyPostS, results, Tryz.results166]
 exact HF.out
end Go.Proofs.YtbceafpodamnfabGreatDoor
