/-
  My own: Vi, Vz, Vj, Vk, Vy.
-/
import Derived.Test.YtbceafpodamnfabG11
import Derived.Test.YtbceafpodamnfabG12
import Derived.Test.YtbceafpodamnfabG04
import Derived.Test.YtbceafpodamnfabG10
import Derived.ChangeKeysEq
import Derived.Test.YtbceafpodamnfabG09
/-
  My own. The rank by the program.
-/
namespace Go.Proofs.Ytbceafpodamnfab
open Go.RowKit Go.Sort Go.Maps

theorem Try.infosArr5 : (Try.prog.info? 74).map (·.size) = some 5 := by kernel_rfl
theorem Try.infosIntW : (Try.prog.info? 3).map (·.size) = some 1 := by kernel_rfl

theorem run_index5_0 (pb pm ps pl : Nat) (w : World) : (Instr.index 116 (.agg #[.func (.func 78) #[] #[.pointer (some ⟨pb, 0, none⟩)], .func (.func 80) #[] #[.pointer (some ⟨pb, 0, none⟩), .pointer (some ⟨ps, 0, none⟩)], .func (.func 83) #[] #[.pointer (some ⟨pb, 0, none⟩)], .func (.func 85) #[] #[.pointer (some ⟨pl, 0, none⟩), .pointer (some ⟨ps, 0, none⟩), .pointer (some ⟨pb, 0, none⟩), .pointer (some ⟨pm, 0, none⟩)], .func (.func 89) #[] #[.pointer (some ⟨pl, 0, none⟩)]]) (.int .i64 0)).run Try.prog w = .ok (.func (.func 78) #[] #[.pointer (some ⟨pb, 0, none⟩)]) w := by
  kernel_rfl
theorem run_index5_1 (pb pm ps pl : Nat) (w : World) : (Instr.index 116 (.agg #[.func (.func 78) #[] #[.pointer (some ⟨pb, 0, none⟩)], .func (.func 80) #[] #[.pointer (some ⟨pb, 0, none⟩), .pointer (some ⟨ps, 0, none⟩)], .func (.func 83) #[] #[.pointer (some ⟨pb, 0, none⟩)], .func (.func 85) #[] #[.pointer (some ⟨pl, 0, none⟩), .pointer (some ⟨ps, 0, none⟩), .pointer (some ⟨pb, 0, none⟩), .pointer (some ⟨pm, 0, none⟩)], .func (.func 89) #[] #[.pointer (some ⟨pl, 0, none⟩)]]) (.int .i64 1)).run Try.prog w = .ok (.func (.func 80) #[] #[.pointer (some ⟨pb, 0, none⟩), .pointer (some ⟨ps, 0, none⟩)]) w := by
  kernel_rfl
theorem run_index5_2 (pb pm ps pl : Nat) (w : World) : (Instr.index 116 (.agg #[.func (.func 78) #[] #[.pointer (some ⟨pb, 0, none⟩)], .func (.func 80) #[] #[.pointer (some ⟨pb, 0, none⟩), .pointer (some ⟨ps, 0, none⟩)], .func (.func 83) #[] #[.pointer (some ⟨pb, 0, none⟩)], .func (.func 85) #[] #[.pointer (some ⟨pl, 0, none⟩), .pointer (some ⟨ps, 0, none⟩), .pointer (some ⟨pb, 0, none⟩), .pointer (some ⟨pm, 0, none⟩)], .func (.func 89) #[] #[.pointer (some ⟨pl, 0, none⟩)]]) (.int .i64 2)).run Try.prog w = .ok (.func (.func 83) #[] #[.pointer (some ⟨pb, 0, none⟩)]) w := by
  kernel_rfl
theorem run_index5_3 (pb pm ps pl : Nat) (w : World) : (Instr.index 116 (.agg #[.func (.func 78) #[] #[.pointer (some ⟨pb, 0, none⟩)], .func (.func 80) #[] #[.pointer (some ⟨pb, 0, none⟩), .pointer (some ⟨ps, 0, none⟩)], .func (.func 83) #[] #[.pointer (some ⟨pb, 0, none⟩)], .func (.func 85) #[] #[.pointer (some ⟨pl, 0, none⟩), .pointer (some ⟨ps, 0, none⟩), .pointer (some ⟨pb, 0, none⟩), .pointer (some ⟨pm, 0, none⟩)], .func (.func 89) #[] #[.pointer (some ⟨pl, 0, none⟩)]]) (.int .i64 3)).run Try.prog w = .ok (.func (.func 85) #[] #[.pointer (some ⟨pl, 0, none⟩), .pointer (some ⟨ps, 0, none⟩), .pointer (some ⟨pb, 0, none⟩), .pointer (some ⟨pm, 0, none⟩)]) w := by
  kernel_rfl
theorem run_index5_4 (pb pm ps pl : Nat) (w : World) : (Instr.index 116 (.agg #[.func (.func 78) #[] #[.pointer (some ⟨pb, 0, none⟩)], .func (.func 80) #[] #[.pointer (some ⟨pb, 0, none⟩), .pointer (some ⟨ps, 0, none⟩)], .func (.func 83) #[] #[.pointer (some ⟨pb, 0, none⟩)], .func (.func 85) #[] #[.pointer (some ⟨pl, 0, none⟩), .pointer (some ⟨ps, 0, none⟩), .pointer (some ⟨pb, 0, none⟩), .pointer (some ⟨pm, 0, none⟩)], .func (.func 89) #[] #[.pointer (some ⟨pl, 0, none⟩)]]) (.int .i64 4)).run Try.prog w = .ok (.func (.func 89) #[] #[.pointer (some ⟨pl, 0, none⟩)]) w := by
  kernel_rfl

def liveL (B : Bk) : List Cp := B.cps.filter fun c => !c.ending
/-- The rank, as the program counts. -/
def rkI (B : Bk) : Rk := ⟨(B.svcs.filter fun s => s.gone).length, (B.cps.filter (goneQ B)).length, offTo B B.svcs.length, ((liveL B).filter (oldQ B)).length, ((liveL B).filter fun c => c.state != 3).length⟩

/-- What lies there while the five are counted. -/
structure RankAt (w : World) (B : Bk) (pb pm ps pl po b : Nat) (a1 a2 a3 al : Option Addr) (c1 c2 c3 cl : Nat) (L : List Cp) : Prop where
  fn : SvcFn w pb pm b a1 a2 a3 c1 c2 c3 B
  cell : w.heap[ps]? = some (.cells #[.func (.func 75) #[] #[.pointer (some ⟨pb, 0, none⟩), .pointer (some ⟨pm, 0, none⟩)]] 108 (0, 0))
  live : w.heap[pl]? = some (.cells #[.slice al L.length cl] 30 (0, 0))
  row : SlC w al L
  out : w.heap[po]? = some (.cells #[.int .i64 0, .int .i64 0, .int .i64 0, .int .i64 0, .int .i64 0] 74 (0, 0))
theorem RankAt.below {w w' : World} {B : Bk} {pb pm ps pl po b : Nat} {a1 a2 a3 al : Option Addr} {c1 c2 c3 cl : Nat} {L : List Cp} (h : RankAt w B pb pm ps pl po b a1 a2 a3 al c1 c2 c3 cl L) (hb : Below w.heap.size w w') : RankAt w' B pb pm ps pl po b a1 a2 a3 al c1 c2 c3 cl L :=
  ⟨h.fn.below hb (Nat.le_refl _), below_blk hb h.cell (Array.getElem?_eq_some_iff.1 h.cell).1, below_blk hb h.live (Array.getElem?_eq_some_iff.1 h.live).1, h.row.below hb, below_blk hb h.out (Array.getElem?_eq_some_iff.1 h.out).1⟩

def rkArr (r : Rk) : Nat → Array Value
  | 0 => #[.int .i64 0, .int .i64 0, .int .i64 0, .int .i64 0, .int .i64 0]
  | 1 => #[.int .i64 r.a, .int .i64 0, .int .i64 0, .int .i64 0, .int .i64 0]
  | 2 => #[.int .i64 r.a, .int .i64 r.b, .int .i64 0, .int .i64 0, .int .i64 0]
  | 3 => #[.int .i64 r.a, .int .i64 r.b, .int .i64 r.c, .int .i64 0, .int .i64 0]
  | 4 => #[.int .i64 r.a, .int .i64 r.b, .int .i64 r.c, .int .i64 r.d, .int .i64 0]
  | _ => #[.int .i64 r.a, .int .i64 r.b, .int .i64 r.c, .int .i64 r.d, .int .i64 r.e]

set_option maxRecDepth 100000 in
set_option maxHeartbeats 32000000 in
theorem rankOf_any (B : Bk) (a1 a2 a3 : Option Addr) (c1 c2 c3 : Nat) (w : World) (HK : Hid (B.cps.length ≤ c2)) (hS : B.small) (hZ : B.sized) (hV : Valid B) (hB : BkAt w a1 a2 a3 B) :
    Calls Try.prog 40 #[.agg #[.int .i64 B.now, .slice a1 B.svcs.length c1, .slice a2 B.cps.length c2, .slice a3 B.bts.length c3]] w fun e w' => ∃ r : Rk, Hid (r = rkI B) ∧ e = .returned (.agg #[.int .i64 r.a, .int .i64 r.b, .int .i64 r.c, .int .i64 r.d, .int .i64 r.e]) ∧ Below w.heap.size w w' := by
  obtain ⟨W0, hW0, t0, t1, hz0, hz0', hb0⟩ := two_newV w (.cells #[.int .i64 B.now, .slice a1 B.svcs.length c1, .slice a2 B.cps.length c2, .slice a3 B.bts.length c3] 33) (.cells #[.int .i64 0, .int .i64 0, .int .i64 0, .int .i64 0, .int .i64 0] 74)
  have T0 : Hid _ := t0
  have T1 : Hid _ := t1
  clear t0 t1
  go_enter Try.func40, Try.ntmps40
  go_upto_region 1 with fail
  clear hW0
  have e0 := blk_cell T0.out 0 rfl
  have e1 := blk_cell T0.out 1 rfl
  have e2 := blk_cell T0.out 2 rfl
  have e3 := blk_cell T0.out 3 rfl
  go_wp2_with fail
  refine (placesIn_x B a1 a2 a3 c1 c2 c3 _ hS hZ (uniq_of hV.svcs) (uniqB_of hV.bts) (hB.below hb0)).mono ?_
  rintro e w1 ⟨rfl, hPl, hb1⟩
  obtain ⟨b, hbe⟩ : ∃ b, W0.heap.size + 1 = b := ⟨_, rfl⟩
  rw [hbe] at hPl
  rw [hbe]
  have hz1 := hb1.size
  have hbw1 := hb0.trans (hb1.mono hb0.size)
  have U0 : Hid _ := below_blk hb1 T0.out (by omega)
  have U1 : Hid _ := below_blk hb1 T1.out (by omega)
  have P1 : Hid (PlacesX w1 b B B.svcs.length B.bts.length) := hPl
  have hbl := hPl.lt
  clear e0 e1 e2 e3 hb1 hb0 T0 T1 hPl hbe
  obtain ⟨W2, hW2, t0, t1, hz2, hz2', hb2⟩ := two_newV w1 (.cells #[.map (some b)] 104) (.cells #[.func (.func 75) #[] #[.pointer (some ⟨w.heap.size, 0, none⟩), .pointer (some ⟨w1.heap.size, 0, none⟩)]] 108)
  have M2 : Hid _ := t0
  have P2 : Hid _ := t1
  clear t0 t1
  go_upto_region 3 with fail
  clear hW2
  have hbw2 := hbw1.trans (hb2.mono hbw1.size)
  have F2 : Hid (SvcFn W2 w.heap.size w1.heap.size b a1 a2 a3 c1 c2 c3 B) := ⟨below_blk hb2 U0.out (by omega), M2.out, P1.out.below hb2 hbl, hB.below hbw2⟩
  have O2 : Hid _ := below_blk hb2 U1.out (by omega)
  clear U0 U1 P1 M2 hbw1 hb2
  have e2 := blk_cell F2.out.1 2 rfl
  go_wp2_with fail
  refine (keptCp0 77 (enters_of Try.func77 (by kernel_rfl) rfl) (fun c => !c.ending) B.cps a2 c2 W2 hS.2.1 F2.out.2.2.2.2.1 (fun x _ W _ => live1_any x W)).mono ?_
  obtain ⟨L, HL⟩ : ∃ L, Hid (liveL B = L) := ⟨_, rfl⟩
  rw [show (B.cps.filter fun c => !c.ending) = L from HL.out]
  rintro e w3 ⟨al, cl, rfl, hown, hb3⟩
  have HLm : Hid (∀ x ∈ L, x ∈ B.cps) := fun x hx => by rw [← HL.out] at hx; exact (List.mem_filter.1 hx).1
  have hLl : L.length ≤ 1048576 := by rw [← HL.out]; exact Nat.le_trans (List.length_filter_le _ _) hS.2.1
  have S3 : Hid (SlC w3 al L) := OwnCp.sl hown
  have hz3 := hb3.size
  have hbw3 := hbw2.trans (hb3.mono hbw2.size)
  have F3 : Hid (SvcFn w3 w.heap.size w1.heap.size b a1 a2 a3 c1 c2 c3 B) := F2.out.below hb3 (Nat.le_refl _)
  have P3 : Hid _ := below_blk hb3 P2.out (by omega)
  have O3 : Hid _ := below_blk hb3 O2.out (by omega)
  clear e2 hown hb3 F2 P2 O2 hbw2
  obtain ⟨W3a, hW3a⟩ : ∃ W, w3.alloc (.cells #[.slice al L.length cl] 30) = W := ⟨_, rfl⟩
  have hb3a := below_box w3 (.cells #[.slice al L.length cl] 30)
  have Q3 : Hid _ := heap_alloc_new w3 (.cells #[.slice al L.length cl] 30)
  have hz3a : w3.heap.size + 1 ≤ (w3.alloc (.cells #[.slice al L.length cl] 30)).heap.size := by simp
  rw [hW3a] at hb3a Q3 hz3a
  obtain ⟨W4, hW4⟩ : ∃ W, W3a.alloc (.cells #[.int .i64 0, .int .i64 0, .int .i64 0, .int .i64 0, .int .i64 0] 74) = W := ⟨_, rfl⟩
  have hb4 := below_box W3a (.cells #[.int .i64 0, .int .i64 0, .int .i64 0, .int .i64 0, .int .i64 0] 74)
  have G4 : Hid _ := heap_alloc_new W3a (.cells #[.int .i64 0, .int .i64 0, .int .i64 0, .int .i64 0, .int .i64 0] 74)
  rw [hW4] at hb4 G4
  go_upto_region 5 with fail
  clear hW4 hW3a
  have hbw4 := hbw3.trans (hb3a.mono hbw3.size)
  have A4 : Hid (RankAt W3a B w.heap.size w1.heap.size (w1.heap.size + 1) w3.heap.size (w.heap.size + 1) b a1 a2 a3 al c1 c2 c3 cl L) := ⟨F3.out.below hb3a (Nat.le_refl _), below_blk hb3a P3.out (by omega), Q3.out, S3.out.below hb3a, below_blk hb3a O3.out (by omega)⟩
  clear F3 P3 O3 Q3 S3 hb3a hbw3
  obtain ⟨pb, hpb⟩ : ∃ p, w.heap.size = p := ⟨_, rfl⟩
  obtain ⟨pm, hpm⟩ : ∃ p, w1.heap.size = p := ⟨_, rfl⟩
  obtain ⟨pr, hpr⟩ : ∃ p, W3a.heap.size = p := ⟨_, rfl⟩
  obtain ⟨pl, hpl⟩ : ∃ p, w3.heap.size = p := ⟨_, rfl⟩
  obtain ⟨ps, hps⟩ : ∃ p, w1.heap.size + 1 = p := ⟨_, rfl⟩
  rw [hpr] at G4 hb4
  rw [hps, hpl, hpm, hpb] at A4
  have hpo : pb + 1 < pr := by omega
  have HPR : Hid (pr ≤ W3a.heap.size) := by unfold Hid; rw [hpr]; exact Nat.le_refl _
  have HPR' : Hid (W3a.heap.size = pr) := hpr
  rw [hpr, hpl, hps, hpm]
  try rw [hpb]
  obtain ⟨r, HR⟩ : ∃ r, Hid (r = rkI B) := ⟨_, rfl⟩
  have HC0 : Hid (∀ W : World, RankAt W B pb pm ps pl (pb + 1) b a1 a2 a3 al c1 c2 c3 cl L → Calls Try.prog 78 #[.pointer (some ⟨pb, 0, none⟩)] W fun e w' => e = .returned (.int .i64 r.a) ∧ Below W.heap.size W w') := by rw [show r.a = _ from congrArg Rk.a HR.out]; exact fun W h => rankF1 B pb pm b a1 a2 a3 c1 c2 c3 W hS h.fn
  have HC1 : Hid (∀ W : World, RankAt W B pb pm ps pl (pb + 1) b a1 a2 a3 al c1 c2 c3 cl L → Calls Try.prog 80 #[.pointer (some ⟨pb, 0, none⟩), .pointer (some ⟨ps, 0, none⟩)] W fun e w' => e = .returned (.int .i64 r.b) ∧ Below W.heap.size W w') := by rw [show r.b = _ from congrArg Rk.b HR.out]; exact fun W h => rankF2 ps B pb pm b a1 a2 a3 c1 c2 c3 W hS hZ hV h.cell h.fn
  have HC2 : Hid (∀ W : World, RankAt W B pb pm ps pl (pb + 1) b a1 a2 a3 al c1 c2 c3 cl L → Calls Try.prog 83 #[.pointer (some ⟨pb, 0, none⟩)] W fun e w' => e = .returned (.int .i64 r.c) ∧ Below W.heap.size W w') := by rw [show r.c = _ from congrArg Rk.c HR.out]; exact fun W h => rankF3 B pb pm b a1 a2 a3 c1 c2 c3 W HK hS hV h.fn
  have HC3 : Hid (∀ W : World, RankAt W B pb pm ps pl (pb + 1) b a1 a2 a3 al c1 c2 c3 cl L → Calls Try.prog 85 #[.pointer (some ⟨pl, 0, none⟩), .pointer (some ⟨ps, 0, none⟩), .pointer (some ⟨pb, 0, none⟩), .pointer (some ⟨pm, 0, none⟩)] W fun e w' => e = .returned (.int .i64 r.d) ∧ Below W.heap.size W w') := by rw [show r.d = _ from congrArg Rk.d HR.out]; exact (fun W h => by have := rankF4 ps pl al cl L B pb pm b a1 a2 a3 c1 c2 c3 W hS hZ hV hLl HLm.out h.row h.live h.cell h.fn; rw [← HL.out] at this; exact this)
  have HC4 : Hid (∀ W : World, RankAt W B pb pm ps pl (pb + 1) b a1 a2 a3 al c1 c2 c3 cl L → Calls Try.prog 89 #[.pointer (some ⟨pl, 0, none⟩)] W fun e w' => e = .returned (.int .i64 r.e) ∧ Below W.heap.size W w') := by rw [show r.e = _ from congrArg Rk.e HR.out]; exact (fun W h => by have := rankF5 pl al cl L W hLl h.row h.live; rw [← HL.out] at this; exact this)
  have hpbw : w.heap.size ≤ pb := by omega
  clear hpb hpm hpr hpl hps
  go_wp2
  go_loopw [21] (fun iv wr => ∃ k : Nat, k ≤ 5 ∧ iv = .int .i64 k ∧ Below pr W3a wr ∧ Hid (wr.heap[pr]? = some (.cells (rkArr r k) 74 (0, 0)))) (fun i _ => 5 - (intOf i).toNat)
  case atStart => exact ⟨0, by omega, rfl, hb4, G4⟩
  case round =>
    clear hb4 G4
    obtain ⟨k, hk, rfl, hb, HG⟩ := hrel
    have HA : Hid (RankAt wr B pb pm ps pl (pb + 1) b a1 a2 a3 al c1 c2 c3 cl L) := A4.out.below (by rw [HPR'.out]; exact hb)
    have hzr : pr < wr.heap.size := (Array.getElem?_eq_some_iff.1 HG.out).1
    by_cases h0 : k = 0
    · subst h0
      have G0 : Hid (wr.heap[pr]? = some (.cells #[.int .i64 0, .int .i64 0, .int .i64 0, .int .i64 0, .int .i64 0] 74 (0, 0))) := HG
      clear HG
      have hix := run_index5_0 pb pm ps pl
      go_wp2_with fail
      clear hix
      refine (HC0.out _ HA.out).mono ?_
      rintro e w1' ⟨rfl, hbq⟩
      have hb1 := hb.trans (hbq.mono (by omega))
      have G1 : Hid _ := below_blk hbq G0.out hzr
      have hzq := hbq.size
      clear HA G0 hbq
      go_wp2_with (first
        | (refine wpList_store_one rfl 3 (.tmp 28) (.tmp 27) rfl pr 0 (.int .i64 r.a) rfl rfl Try.infosIntW rfl rfl 74 #[.int .i64 0, .int .i64 0, .int .i64 0, .int .i64 0, .int .i64 0] G1.out (Nat.le_of_ble_eq_true rfl) ?_; intro w2 hz on; have G2 : Hid (w2.heap[pr]? = some (.cells #[.int .i64 r.a, .int .i64 0, .int .i64 0, .int .i64 0, .int .i64 0] 74 (0, 0))) := hz; have hb2 := hb1.trans (on.below.mono (by omega)); clear hz on))
      go_wp2
      go_roundw
      case rel => exact ⟨0 + 1, by omega, by go_num, hb2, G2⟩
      case measure => simp [intOf]
    by_cases h1 : k = 1
    · subst h1
      have G0 : Hid (wr.heap[pr]? = some (.cells #[.int .i64 r.a, .int .i64 0, .int .i64 0, .int .i64 0, .int .i64 0] 74 (0, 0))) := HG
      clear HG
      have hix := run_index5_1 pb pm ps pl
      go_wp2_with fail
      clear hix
      refine (HC1.out _ HA.out).mono ?_
      rintro e w1' ⟨rfl, hbq⟩
      have hb1 := hb.trans (hbq.mono (by omega))
      have G1 : Hid _ := below_blk hbq G0.out hzr
      have hzq := hbq.size
      clear HA G0 hbq
      go_wp2_with (first
        | (refine wpList_store_one rfl 3 (.tmp 28) (.tmp 27) rfl pr 1 (.int .i64 r.b) rfl rfl Try.infosIntW rfl rfl 74 #[.int .i64 r.a, .int .i64 0, .int .i64 0, .int .i64 0, .int .i64 0] G1.out (Nat.le_of_ble_eq_true rfl) ?_; intro w2 hz on; have G2 : Hid (w2.heap[pr]? = some (.cells #[.int .i64 r.a, .int .i64 r.b, .int .i64 0, .int .i64 0, .int .i64 0] 74 (0, 0))) := hz; have hb2 := hb1.trans (on.below.mono (by omega)); clear hz on))
      go_wp2
      go_roundw
      case rel => exact ⟨1 + 1, by omega, by go_num, hb2, G2⟩
      case measure => simp [intOf]
    by_cases h2 : k = 2
    · subst h2
      have G0 : Hid (wr.heap[pr]? = some (.cells #[.int .i64 r.a, .int .i64 r.b, .int .i64 0, .int .i64 0, .int .i64 0] 74 (0, 0))) := HG
      clear HG
      have hix := run_index5_2 pb pm ps pl
      go_wp2_with fail
      clear hix
      refine (HC2.out _ HA.out).mono ?_
      rintro e w1' ⟨rfl, hbq⟩
      have hb1 := hb.trans (hbq.mono (by omega))
      have G1 : Hid _ := below_blk hbq G0.out hzr
      have hzq := hbq.size
      clear HA G0 hbq
      go_wp2_with (first
        | (refine wpList_store_one rfl 3 (.tmp 28) (.tmp 27) rfl pr 2 (.int .i64 r.c) rfl rfl Try.infosIntW rfl rfl 74 #[.int .i64 r.a, .int .i64 r.b, .int .i64 0, .int .i64 0, .int .i64 0] G1.out (Nat.le_of_ble_eq_true rfl) ?_; intro w2 hz on; have G2 : Hid (w2.heap[pr]? = some (.cells #[.int .i64 r.a, .int .i64 r.b, .int .i64 r.c, .int .i64 0, .int .i64 0] 74 (0, 0))) := hz; have hb2 := hb1.trans (on.below.mono (by omega)); clear hz on))
      go_wp2
      go_roundw
      case rel => exact ⟨2 + 1, by omega, by go_num, hb2, G2⟩
      case measure => simp [intOf]
    by_cases h3 : k = 3
    · subst h3
      have G0 : Hid (wr.heap[pr]? = some (.cells #[.int .i64 r.a, .int .i64 r.b, .int .i64 r.c, .int .i64 0, .int .i64 0] 74 (0, 0))) := HG
      clear HG
      have hix := run_index5_3 pb pm ps pl
      go_wp2_with fail
      clear hix
      refine (HC3.out _ HA.out).mono ?_
      rintro e w1' ⟨rfl, hbq⟩
      have hb1 := hb.trans (hbq.mono (by omega))
      have G1 : Hid _ := below_blk hbq G0.out hzr
      have hzq := hbq.size
      clear HA G0 hbq
      go_wp2_with (first
        | (refine wpList_store_one rfl 3 (.tmp 28) (.tmp 27) rfl pr 3 (.int .i64 r.d) rfl rfl Try.infosIntW rfl rfl 74 #[.int .i64 r.a, .int .i64 r.b, .int .i64 r.c, .int .i64 0, .int .i64 0] G1.out (Nat.le_of_ble_eq_true rfl) ?_; intro w2 hz on; have G2 : Hid (w2.heap[pr]? = some (.cells #[.int .i64 r.a, .int .i64 r.b, .int .i64 r.c, .int .i64 r.d, .int .i64 0] 74 (0, 0))) := hz; have hb2 := hb1.trans (on.below.mono (by omega)); clear hz on))
      go_wp2
      go_roundw
      case rel => exact ⟨3 + 1, by omega, by go_num, hb2, G2⟩
      case measure => simp [intOf]
    by_cases h4 : k = 4
    · subst h4
      have G0 : Hid (wr.heap[pr]? = some (.cells #[.int .i64 r.a, .int .i64 r.b, .int .i64 r.c, .int .i64 r.d, .int .i64 0] 74 (0, 0))) := HG
      clear HG
      have hix := run_index5_4 pb pm ps pl
      go_wp2_with fail
      clear hix
      refine (HC4.out _ HA.out).mono ?_
      rintro e w1' ⟨rfl, hbq⟩
      have hb1 := hb.trans (hbq.mono (by omega))
      have G1 : Hid _ := below_blk hbq G0.out hzr
      have hzq := hbq.size
      clear HA G0 hbq
      go_wp2_with (first
        | (refine wpList_store_one rfl 3 (.tmp 28) (.tmp 27) rfl pr 4 (.int .i64 r.e) rfl rfl Try.infosIntW rfl rfl 74 #[.int .i64 r.a, .int .i64 r.b, .int .i64 r.c, .int .i64 r.d, .int .i64 0] G1.out (Nat.le_of_ble_eq_true rfl) ?_; intro w2 hz on; have G2 : Hid (w2.heap[pr]? = some (.cells #[.int .i64 r.a, .int .i64 r.b, .int .i64 r.c, .int .i64 r.d, .int .i64 r.e] 74 (0, 0))) := hz; have hb2 := hb1.trans (on.below.mono (by omega)); clear hz on))
      go_wp2
      go_roundw
      case rel => exact ⟨4 + 1, by omega, by go_num, hb2, G2⟩
      case measure => simp [intOf]
    · have hk5 : k = 5 := by omega
      subst hk5
      have G0 : Hid (wr.heap[pr]? = some (.cells #[.int .i64 r.a, .int .i64 r.b, .int .i64 r.c, .int .i64 r.d, .int .i64 r.e] 74 (0, 0))) := HG
      have O0 : Hid _ := HA.out.out
      have hzo : pb + 1 < wr.heap.size := (Array.getElem?_eq_some_iff.1 O0.out).1
      clear HA HG
      go_wp2_with (first
        | (refine wpList_load_row rfl 74 (.tmp 6) rfl pr rfl 74 #[.int .i64 r.a, .int .i64 r.b, .int .i64 r.c, .int .i64 r.d, .int .i64 r.e] (0, 0) _ G0.out Try.underlying74 rfl Try.infosArr5 ?_)
        | (refine wpList_store_only rfl 74 (.tmp 2) (.tmp 30) rfl (pb + 1) 0 #[.int .i64 r.a, .int .i64 r.b, .int .i64 r.c, .int .i64 r.d, .int .i64 r.e] rfl rfl 74 #[.int .i64 0, .int .i64 0, .int .i64 0, .int .i64 0, .int .i64 0] O0.out Try.infosArr5 (Nat.le_of_ble_eq_true rfl) (by simp [Value.oneCell']) ?_; intro w2 hz on; have O1 : Hid (w2.heap[pb + 1]? = some (.cells #[.int .i64 r.a, .int .i64 r.b, .int .i64 r.c, .int .i64 r.d, .int .i64 r.e] 74 (0, 0))) := hz; have hb1 := (hbw4.trans (hb.mono (show w.heap.size ≤ pr by omega))).trans (on.below.mono (show w.heap.size ≤ pb + 1 by omega)); clear hz on))
      exact bodyPost_ret (v := .agg #[.int .i64 r.a, .int .i64 r.b, .int .i64 r.c, .int .i64 r.d, .int .i64 r.e]) (results_cell_row rfl _ _ (pb + 1) _ _ _ _ rfl O1.out Try.underlying74 rfl Try.infosArr5) rfl ⟨r, HR, rfl, hb1⟩

end Go.Proofs.Ytbceafpodamnfab

/-
  My own. A rank that is all 0: data.
-/
namespace Go.Proofs.Ytbceafpodamnfab
open Go.RowKit Go.Sort

def rkN (r : Rk) : Nat → Int
  | 0 => r.a
  | 1 => r.b
  | 2 => r.c
  | 3 => r.d
  | _ => r.e
theorem rk_cell (r : Rk) {k : Nat} (hk : k < 5) : (#[.int .i64 r.a, .int .i64 r.b, .int .i64 r.c, .int .i64 r.d, .int .i64 r.e] : Array Value)[k]? = some (.int .i64 (rkN r k)) := by
  match k, hk with
  | 0, _ => rfl
  | 1, _ => rfl
  | 2, _ => rfl
  | 3, _ => rfl
  | 4, _ => rfl
  | k + 5, h => omega
def zeroR (r : Rk) : Bool := r.a == 0 && r.b == 0 && r.c == 0 && r.d == 0 && r.e == 0
theorem zeroR_not {r : Rk} {k : Nat} (hk : k < 5) (h : rkN r k ≠ 0) : zeroR r = false := by
  match k, hk with
  | 0, _ => have : (r.a == 0) = false := by simpa [rkN] using h
            unfold zeroR; rw [this]; rfl
  | 1, _ => have : (r.b == 0) = false := by simpa [rkN] using h
            unfold zeroR; rw [this]; simp
  | 2, _ => have : (r.c == 0) = false := by simpa [rkN] using h
            unfold zeroR; rw [this]; simp
  | 3, _ => have : (r.d == 0) = false := by simpa [rkN] using h
            unfold zeroR; rw [this]; simp
  | 4, _ => have : (r.e == 0) = false := by simpa [rkN] using h
            unfold zeroR; rw [this]; simp
  | k + 5, h => omega
theorem zeroR_yes {r : Rk} (h : ∀ i, i < 5 → rkN r i = 0) : zeroR r = true := by
  have h0 := h 0 (by omega)
  have h1 := h 1 (by omega)
  have h2 := h 2 (by omega)
  have h3 := h 3 (by omega)
  have h4 := h 4 (by omega)
  simp only [rkN] at h0 h1 h2 h3 h4
  unfold zeroR
  rw [h0, h1, h2, h3, h4]
  rfl
end Go.Proofs.Ytbceafpodamnfab

/-
  My own. Done, by the program.
-/
namespace Go.Proofs.Ytbceafpodamnfab
open Go.RowKit Go.Sort Go.Maps

theorem run_build5 (w : World) : (Instr.build 74 #[]).run Try.prog w = .ok (.agg #[.int .i64 0, .int .i64 0, .int .i64 0, .int .i64 0, .int .i64 0]) w := by
  kernel_rfl

set_option maxRecDepth 100000 in
theorem run_eq5 (r : Rk) (w : World) : (Op.equalIn 10000 74 (.agg #[.int .i64 r.a, .int .i64 r.b, .int .i64 r.c, .int .i64 r.d, .int .i64 r.e]) (.agg #[.int .i64 0, .int .i64 0, .int .i64 0, .int .i64 0, .int .i64 0])).run Try.prog w = .ok (zeroR r) w := by
  obtain ⟨i, hi, _⟩ := Option.map_eq_some_iff.1 Try.infosIntW
  have hs : (Op.equalIn 10000 74 (.agg #[.int .i64 r.a, .int .i64 r.b, .int .i64 r.c, .int .i64 r.d, .int .i64 r.e]) (.agg #[.int .i64 0, .int .i64 0, .int .i64 0, .int .i64 0, .int .i64 0])).run Try.prog w = _ := run_equalIn_array w 9999 (t := 74) (e := 3) #[.int .i64 r.a, .int .i64 r.b, .int .i64 r.c, .int .i64 r.d, .int .i64 r.e] #[.int .i64 0, .int .i64 0, .int .i64 0, .int .i64 0, .int .i64 0] Try.underlying74 hi
  rw [hs]
  have hc : Try.prog.cellsOf 3 = 1 := by kernel_rfl
  have hr : List.range 5 = [0, 1, 2, 3, 4] := rfl
  have heq : ∀ (x y : Int) (W : World), (Op.equalIn 9999 3 (.int .i64 x) (.int .i64 y)).run Try.prog W = .ok (x == y) W := fun x y W => run_equalIn_int W 9998 3 .i64 .i64 x y Try.underlying3
  have p0 : (part 3 #[.int .i64 r.a, .int .i64 r.b, .int .i64 r.c, .int .i64 r.d, .int .i64 r.e] 0).run Try.prog w = .ok (.int .i64 r.a) w := by kernel_rfl
  have q0 : (part 3 #[.int .i64 0, .int .i64 0, .int .i64 0, .int .i64 0, .int .i64 0] 0).run Try.prog w = .ok (.int .i64 0) w := by kernel_rfl
  have p1 : (part 3 #[.int .i64 r.a, .int .i64 r.b, .int .i64 r.c, .int .i64 r.d, .int .i64 r.e] 1).run Try.prog w = .ok (.int .i64 r.b) w := by kernel_rfl
  have q1 : (part 3 #[.int .i64 0, .int .i64 0, .int .i64 0, .int .i64 0, .int .i64 0] 1).run Try.prog w = .ok (.int .i64 0) w := by kernel_rfl
  have p2 : (part 3 #[.int .i64 r.a, .int .i64 r.b, .int .i64 r.c, .int .i64 r.d, .int .i64 r.e] 2).run Try.prog w = .ok (.int .i64 r.c) w := by kernel_rfl
  have q2 : (part 3 #[.int .i64 0, .int .i64 0, .int .i64 0, .int .i64 0, .int .i64 0] 2).run Try.prog w = .ok (.int .i64 0) w := by kernel_rfl
  have p3 : (part 3 #[.int .i64 r.a, .int .i64 r.b, .int .i64 r.c, .int .i64 r.d, .int .i64 r.e] 3).run Try.prog w = .ok (.int .i64 r.d) w := by kernel_rfl
  have q3 : (part 3 #[.int .i64 0, .int .i64 0, .int .i64 0, .int .i64 0, .int .i64 0] 3).run Try.prog w = .ok (.int .i64 0) w := by kernel_rfl
  have p4 : (part 3 #[.int .i64 r.a, .int .i64 r.b, .int .i64 r.c, .int .i64 r.d, .int .i64 r.e] 4).run Try.prog w = .ok (.int .i64 r.e) w := by kernel_rfl
  have q4 : (part 3 #[.int .i64 0, .int .i64 0, .int .i64 0, .int .i64 0, .int .i64 0] 4).run Try.prog w = .ok (.int .i64 0) w := by kernel_rfl
  rw [hc, hr]
  have step : ∀ (k : Nat) (is : List Nat) (x : Int) (v : Bool), (part 3 #[.int .i64 r.a, .int .i64 r.b, .int .i64 r.c, .int .i64 r.d, .int .i64 r.e] k).run Try.prog w = .ok (.int .i64 x) w → (part 3 #[.int .i64 0, .int .i64 0, .int .i64 0, .int .i64 0, .int .i64 0] k).run Try.prog w = .ok (.int .i64 0) w → (Op.eqItems 9999 3 1 #[.int .i64 r.a, .int .i64 r.b, .int .i64 r.c, .int .i64 r.d, .int .i64 r.e] #[.int .i64 0, .int .i64 0, .int .i64 0, .int .i64 0, .int .i64 0] is).run Try.prog w = .ok v w → (Op.eqItems 9999 3 1 #[.int .i64 r.a, .int .i64 r.b, .int .i64 r.c, .int .i64 r.d, .int .i64 r.e] #[.int .i64 0, .int .i64 0, .int .i64 0, .int .i64 0, .int .i64 0] (k :: is)).run Try.prog w = .ok ((x == 0) && v) w := fun k is x v h1 h2 h3 => by
    simp only [Op.eqItems, Sem.run_bind, Nat.mul_one, h1, h2, heq, Result.andThen_ok]
    cases (x == 0)
    · rfl
    · exact h3
  have e : zeroR r = ((r.a == 0) && ((r.b == 0) && ((r.c == 0) && ((r.d == 0) && ((r.e == 0) && true))))) := by unfold zeroR; simp only [Bool.and_assoc, Bool.and_true]
  rw [e]
  exact step 0 _ _ _ p0 q0 (step 1 _ _ _ p1 q1 (step 2 _ _ _ p2 q2 (step 3 _ _ _ p3 q3 (step 4 _ _ _ p4 q4 rfl))))

set_option maxRecDepth 100000 in
set_option maxHeartbeats 8000000 in
theorem nothingLeft_any (B : Bk) (a1 a2 a3 : Option Addr) (c1 c2 c3 : Nat) (w : World) (HK : Hid (B.cps.length ≤ c2)) (hS : B.small) (hZ : B.sized) (hV : Valid B) (hB : BkAt w a1 a2 a3 B) :
    Calls Try.prog 32 #[.agg #[.int .i64 B.now, .slice a1 B.svcs.length c1, .slice a2 B.cps.length c2, .slice a3 B.bts.length c3]] w fun e w' => e = .returned (.bool (zeroR (rkI B))) ∧ Below w.heap.size w w' := by
  have hb0 := below_box w (.cells #[.int .i64 B.now, .slice a1 B.svcs.length c1, .slice a2 B.cps.length c2, .slice a3 B.bts.length c3] 33)
  have T0 : Hid _ := heap_alloc_new w (.cells #[.int .i64 B.now, .slice a1 B.svcs.length c1, .slice a2 B.cps.length c2, .slice a3 B.bts.length c3] 33)
  obtain ⟨W0, hW0⟩ : ∃ W, w.alloc (.cells #[.int .i64 B.now, .slice a1 B.svcs.length c1, .slice a2 B.cps.length c2, .slice a3 B.bts.length c3] 33) = W := ⟨_, rfl⟩
  rw [hW0] at hb0 T0
  obtain ⟨zr, HZR⟩ : ∃ z, Hid (zeroR (rkI B) = z) := ⟨_, rfl⟩
  rw [HZR.out]
  go_enter Try.func32, Try.ntmps32
  go_upto_region 1 with fail
  clear hW0
  have e0 := blk_cell T0.out 0 rfl
  have e1 := blk_cell T0.out 1 rfl
  have e2 := blk_cell T0.out 2 rfl
  have e3 := blk_cell T0.out 3 rfl
  go_wp2_with fail
  refine (rankOf_any B a1 a2 a3 c1 c2 c3 _ HK hS hZ hV (hB.below hb0)).mono ?_
  rintro e w1 ⟨r, HR, rfl, hb1⟩
  have hbw1 := hb0.trans (hb1.mono hb0.size)
  clear e0 e1 e2 e3 hb1 hb0 T0
  have hbu := run_build5
  have heq5 := run_eq5 r
  go_wp2
  go_ret
  exact ⟨ret_bool (by rw [HR.out, HZR.out]), hbw1⟩

end Go.Proofs.Ytbceafpodamnfab

/-
  My own. Done, by the program: its walk.
-/
namespace Go.Proofs.Ytbceafpodamnfab
open Go.RowKit Go.Sort Go.Maps

def calmL (B : Bk) : Bool := B.svcs.all fun s => !missB s
theorem calmL_len (B : Bk) : (((B.svcs.filter missB).length : Int) == 0) = calmL B := by
  unfold calmL
  induction B.svcs with
  | nil => rfl
  | cons s l ih =>
    rw [List.all_cons, ← ih, List.filter_cons]
    cases missB s
    · simp
    · simp only [if_true, List.length_cons, Bool.not_true, Bool.false_and]
      rw [beq_eq_false_iff_ne]
      omega

set_option maxRecDepth 100000 in
set_option maxHeartbeats 8000000 in
theorem loadsFollowed_any (B : Bk) (a1 a2 a3 : Option Addr) (c1 c2 c3 : Nat) (w : World) (hS : B.small) (hV : Valid B) (hB : BkAt w a1 a2 a3 B) :
    Calls Try.prog 33 #[.agg #[.int .i64 B.now, .slice a1 B.svcs.length c1, .slice a2 B.cps.length c2, .slice a3 B.bts.length c3]] w fun e w' => e = .returned (.bool (calmL B)) ∧ Below w.heap.size w w' := by
  have hb0 := below_box w (.cells #[.int .i64 B.now, .slice a1 B.svcs.length c1, .slice a2 B.cps.length c2, .slice a3 B.bts.length c3] 33)
  have T0 : Hid _ := heap_alloc_new w (.cells #[.int .i64 B.now, .slice a1 B.svcs.length c1, .slice a2 B.cps.length c2, .slice a3 B.bts.length c3] 33)
  obtain ⟨W0, hW0⟩ : ∃ W, w.alloc (.cells #[.int .i64 B.now, .slice a1 B.svcs.length c1, .slice a2 B.cps.length c2, .slice a3 B.bts.length c3] 33) = W := ⟨_, rfl⟩
  rw [hW0] at hb0 T0
  obtain ⟨zr, HZR⟩ : ∃ z, Hid (calmL B = z) := ⟨_, rfl⟩
  rw [HZR.out]
  go_enter Try.func33, Try.ntmps33
  go_upto_region 1 with fail
  clear hW0
  have e1 := blk_cell T0.out 1 rfl
  go_wp2_with fail
  refine (howManySvc0 68 (enters_of Try.func68 (by kernel_rfl) rfl) missB B.svcs a1 c1 W0 hS.1 (hB.below hb0).1 (fun x hx W _ => loadMissed_any x W (fun h => perInV hV hx h))).mono ?_
  rintro e w1 ⟨rfl, hb1⟩
  have hbw1 := hb0.trans (hb1.mono hb0.size)
  obtain ⟨n, HN, hn⟩ : ∃ n : Nat, Hid ((B.svcs.filter missB).length = n) ∧ n ≤ 1048576 := ⟨_, rfl, Nat.le_trans (List.length_filter_le _ _) hS.1⟩
  rw [HN.out]
  clear e1 hb1 hb0 T0
  go_wp2
  go_ret
  exact ⟨ret_bool (by rw [← HZR.out, ← calmL_len, HN.out]), hbw1⟩

def dnP (B : Bk) : Nat → Bool
  | 0 => validB B
  | 1 => zeroR (rkI B)
  | _ => calmL B
/-- What the program's StewDone answers. -/
def doneI (B : Bk) : Bool := validB B && (zeroR (rkI B) && calmL B)
theorem dnP_all (B : Bk) : allTo (dnP B) 3 = doneI B := by
  have h : allTo (dnP B) 3 = (dnP B 0 && (dnP B 1 && (dnP B 2 && true))) := rfl
  rw [h]
  simp only [dnP, doneI, Bool.and_true]

def FnsD (w : World) (b : Nat) : Prop := w.heap[b]? = some (.cells #[.func (.func 31) #[] #[], .func (.func 32) #[] #[], .func (.func 33) #[] #[]] 28 (0, 0))

set_option maxRecDepth 100000 in
set_option maxHeartbeats 8000000 in
theorem allHoldD_any (B : Bk) (a1 a2 a3 : Option Addr) (c1 c2 c3 : Nat) (w : World) (HK : Hid (B.cps.length ≤ c2)) (hS : B.small) (hZ : B.sized) (b : Nat) (hB : BkAt w a1 a2 a3 B) (hF : FnsD w b) :
    Calls Try.prog 30 #[.agg #[.int .i64 B.now, .slice a1 B.svcs.length c1, .slice a2 B.cps.length c2, .slice a3 B.bts.length c3], .slice (some ⟨b, 0, none⟩) 3 3] w fun e w' => e = .returned (.bool (allTo (dnP B) 3)) ∧ Below w.heap.size w w' := by
  have hbx := below_box w (.cells #[.int .i64 B.now, .slice a1 B.svcs.length c1, .slice a2 B.cps.length c2, .slice a3 B.bts.length c3] 33)
  have hbox : Hid _ := heap_alloc_new w (.cells #[.int .i64 B.now, .slice a1 B.svcs.length c1, .slice a2 B.cps.length c2, .slice a3 B.bts.length c3] 33)
  have hblt : b < w.heap.size := (Array.getElem?_eq_some_iff.1 hF).1
  have HF : Hid (FnsD w b) := hF
  clear hF
  go_enter Try.func30, Try.ntmps30
  go_wp2
  go_loopw [9] (fun iv wr => ∃ k : Nat, k ≤ 3 ∧ iv = .int .i64 k ∧ Below w.heap.size w wr ∧ Hid (wr.heap[w.heap.size]? = some (.cells #[.int .i64 B.now, .slice a1 B.svcs.length c1, .slice a2 B.cps.length c2, .slice a3 B.bts.length c3] 33 (0, 0))) ∧ Hid (∀ i, i < k → dnP B i = true)) (fun i _ => 3 - (intOf i).toNat)
  case atStart => exact ⟨0, by omega, rfl, hbx, hbox, fun i hi => absurd hi (by omega)⟩
  case round =>
    obtain ⟨k, hk, rfl, hb, hbox1, hall⟩ := hrel
    have hNlt : w.heap.size < wr.heap.size := (Array.getElem?_eq_some_iff.1 hbox1.out).1
    have hfn : Hid _ := below_blk hb HF.out hblt
    have x0 := blk_cell hbox1.out 0 rfl
    have x1 := blk_cell hbox1.out 1 rfl
    have x2 := blk_cell hbox1.out 2 rfl
    have x3 := blk_cell hbox1.out 3 rfl
    by_cases h0 : k = 0
    · subst h0
      have f0 := blk_cell hfn.out 0 rfl
      obtain ⟨v, hv⟩ : ∃ v, Hid (validB B = v) := ⟨_, rfl⟩
      go_wp2_with fail
      refine (implValid_any B a1 a2 a3 c1 c2 c3 _ hS hZ (hB.below hb)).mono ?_
      rw [hv.out]
      rintro e w1 ⟨he, hb1⟩
      subst he
      have hb2 := hb.trans (hb1.mono hb.size)
      have hbox2 : Hid _ := below_blk hb1 hbox1.out hNlt
      clear x0 x1 x2 x3 f0
      cases v
      · have HV : Hid (dnP B 0 = false) := hv
        go_wp2
        go_ret
        exact ⟨ret_bool (allTo_no (by omega) HV.out).symm, hb2⟩
      · have HV : Hid (dnP B 0 = true) := hv
        go_wp2
        go_roundw
        case rel => exact ⟨0 + 1, by omega, by go_num, hb2, hbox2, upTo_step hall.out HV.out⟩
        case measure => simp [intOf]
    by_cases h1 : k = 1
    · subst h1
      have f1 := blk_cell hfn.out 1 rfl
      have hV : Valid B := validB_iff.1 (hall.out 0 (by omega))
      obtain ⟨v, hv⟩ : ∃ v, Hid (zeroR (rkI B) = v) := ⟨_, rfl⟩
      go_wp2_with fail
      refine (nothingLeft_any B a1 a2 a3 c1 c2 c3 _ HK hS hZ hV (hB.below hb)).mono ?_
      rw [hv.out]
      rintro e w1 ⟨he, hb1⟩
      subst he
      have hb2 := hb.trans (hb1.mono hb.size)
      have hbox2 : Hid _ := below_blk hb1 hbox1.out hNlt
      clear x0 x1 x2 x3 f1
      cases v
      · have HV : Hid (dnP B 1 = false) := hv
        go_wp2
        go_ret
        exact ⟨ret_bool (allTo_no (by omega) HV.out).symm, hb2⟩
      · have HV : Hid (dnP B 1 = true) := hv
        go_wp2
        go_roundw
        case rel => exact ⟨1 + 1, by omega, by go_num, hb2, hbox2, upTo_step hall.out HV.out⟩
        case measure => simp [intOf]
    by_cases h2 : k = 2
    · subst h2
      have f2 := blk_cell hfn.out 2 rfl
      have hV : Valid B := validB_iff.1 (hall.out 0 (by omega))
      obtain ⟨v, hv⟩ : ∃ v, Hid (calmL B = v) := ⟨_, rfl⟩
      go_wp2_with fail
      refine (loadsFollowed_any B a1 a2 a3 c1 c2 c3 _ hS hV (hB.below hb)).mono ?_
      rw [hv.out]
      rintro e w1 ⟨he, hb1⟩
      subst he
      have hb2 := hb.trans (hb1.mono hb.size)
      have hbox2 : Hid _ := below_blk hb1 hbox1.out hNlt
      clear x0 x1 x2 x3 f2
      cases v
      · have HV : Hid (dnP B 2 = false) := hv
        go_wp2
        go_ret
        exact ⟨ret_bool (allTo_no (by omega) HV.out).symm, hb2⟩
      · have HV : Hid (dnP B 2 = true) := hv
        go_wp2
        go_roundw
        case rel => exact ⟨2 + 1, by omega, by go_num, hb2, hbox2, upTo_step hall.out HV.out⟩
        case measure => simp [intOf]
    · have h3 : k = 3 := by omega
      subst h3
      clear x0 x1 x2 x3
      go_wp2
      go_ret
      exact ⟨ret_bool (allTo_yes hall.out).symm, hb⟩

set_option maxRecDepth 100000 in
set_option maxHeartbeats 8000000 in
theorem implDone_any (B : Bk) (a1 a2 a3 : Option Addr) (c1 c2 c3 : Nat) (w : World) (HK : Hid (B.cps.length ≤ c2)) (hS : B.small) (hZ : B.sized) (hB : BkAt w a1 a2 a3 B) :
    Calls Try.prog 9 #[.agg #[.int .i64 B.now, .slice a1 B.svcs.length c1, .slice a2 B.cps.length c2, .slice a3 B.bts.length c3]] w fun e w' => e = .returned (.bool (doneI B)) ∧ Below w.heap.size w w' := by
  obtain ⟨t0, t1, t2⟩ := two_new w (.cells #[.int .i64 B.now, .slice a1 B.svcs.length c1, .slice a2 B.cps.length c2, .slice a3 B.bts.length c3] 33) (.cells #[.func (.func 31) #[] #[], .func (.func 32) #[] #[], .func (.func 33) #[] #[]] 28)
  have hb0 : Below w.heap.size w ((w.alloc (.cells #[.int .i64 B.now, .slice a1 B.svcs.length c1, .slice a2 B.cps.length c2, .slice a3 B.bts.length c3] 33)).alloc (.cells #[.func (.func 31) #[] #[], .func (.func 32) #[] #[], .func (.func 33) #[] #[]] 28)) := ((Below.refl _ _).alloc (Nat.le_refl _) _).alloc (by simp) _
  have T1 : Hid _ := t1
  clear t0 t1 t2
  go_enter Try.func9, Try.ntmps9
  go_wp2_with fail
  refine (allHoldD_any B a1 a2 a3 c1 c2 c3 _ HK hS hZ (w.heap.size + 1) (hB.below hb0) T1.out).mono ?_
  rintro e w1 ⟨rfl, hb1⟩
  rw [dnP_all]
  go_wp2
  go_ret
  exact ⟨rfl, hb0.trans (hb1.mono hb0.size)⟩

end Go.Proofs.Ytbceafpodamnfab

/-
  My own. Both ranks are all 0 at the same books.
-/
namespace Go.Proofs.Ytbceafpodamnfab

def Rk.add (r x : Rk) : Rk := ⟨r.a + x.a, r.b + x.b, r.c + x.c, r.d + x.d, r.e + x.e⟩
def r0 : Rk := ⟨0, 0, 0, 0, 0⟩
theorem addB_add (b : Bool) (x y : Int) : addB b (x + y) = x + addB b y := by unfold addB; split <;> omega
theorem rkC_add (B : Bk) (s : Svc) (r x : Rk) (c : Cp) : rkC B s (r.add x) c = r.add (rkC B s x c) := by
  unfold rkC Rk.add
  simp only [addB_add]
theorem foldC_add (B : Bk) (s : Svc) (r : Rk) : ∀ (l : List Nat) (x : Rk), l.foldl (fun r i => rkC B s r (cpD B i)) (r.add x) = r.add (l.foldl (fun r i => rkC B s r (cpD B i)) x)
  | [], _ => rfl
  | i :: l, x => by
    rw [List.foldl_cons, List.foldl_cons, rkC_add]
    exact foldC_add B s r l _
theorem add_r0 (r : Rk) : r.add r0 = r := by unfold Rk.add r0; simp
theorem rk1_add (B : Bk) (s : Svc) (r : Rk) : rk1 B s r = r.add (rk1 B s r0) := by
  unfold rk1 Rk.add r0
  simp
/-- What one service gives that is not Gone. -/
def giveS (B : Bk) (s : Svc) : Rk := rkL B s r0 (liveTo B s.name B.cps.length).length
theorem rkS_add {B : Bk} {s : Svc} (h : s.gone = false) (r : Rk) : rkS B r s = r.add (giveS B s) := by
  unfold rkS giveS rkL
  rw [if_neg (by rw [h]; simp), rk1_add, foldC_add]

/-- The live ones, counted. -/
theorem foldC_d (B : Bk) (s : Svc) : ∀ (l : List Nat) (x : Rk), 0 ≤ x.d → 0 ≤ (l.foldl (fun r i => rkC B s r (cpD B i)) x).d ∧ ((l.foldl (fun r i => rkC B s r (cpD B i)) x).d = 0 ↔ x.d = 0 ∧ ∀ i ∈ l, ((cpD B i).image != s.image || drainsB B (cpD B i)) = false)
  | [], x, h => ⟨h, by simp⟩
  | i :: l, x, h => by
    have hi := addB_in ((cpD B i).image != s.image || drainsB B (cpD B i)) x.d
    have ih := foldC_d B s l (rkC B s x (cpD B i)) (by show 0 ≤ addB _ _; omega)
    rw [List.foldl_cons]
    refine ⟨ih.1, ih.2.trans ?_⟩
    have e : (rkC B s x (cpD B i)).d = addB ((cpD B i).image != s.image || drainsB B (cpD B i)) x.d := rfl
    rw [e, List.forall_mem_cons]
    cases hb : ((cpD B i).image != s.image || drainsB B (cpD B i))
    · simp [addB]
    · simp only [addB, if_true]
      constructor
      · intro h'; omega
      · intro h'; exact absurd h'.2.1 (by simp)
theorem foldC_e (B : Bk) (s : Svc) : ∀ (l : List Nat) (x : Rk), 0 ≤ x.e → 0 ≤ (l.foldl (fun r i => rkC B s r (cpD B i)) x).e ∧ ((l.foldl (fun r i => rkC B s r (cpD B i)) x).e = 0 ↔ x.e = 0 ∧ ∀ i ∈ l, ((cpD B i).state != 3) = false)
  | [], x, h => ⟨h, by simp⟩
  | i :: l, x, h => by
    have hi := addB_in ((cpD B i).state != 3) x.e
    have ih := foldC_e B s l (rkC B s x (cpD B i)) (by show 0 ≤ addB _ _; omega)
    rw [List.foldl_cons]
    refine ⟨ih.1, ih.2.trans ?_⟩
    have e : (rkC B s x (cpD B i)).e = addB ((cpD B i).state != 3) x.e := rfl
    rw [e, List.forall_mem_cons]
    cases hb : ((cpD B i).state != 3)
    · simp [addB]
    · simp only [addB, if_true]
      constructor
      · intro h'; omega
      · intro h'; exact absurd h'.2.1 (by simp)
theorem foldC_abc (B : Bk) (s : Svc) : ∀ (l : List Nat) (x : Rk), (l.foldl (fun r i => rkC B s r (cpD B i)) x).a = x.a ∧ (l.foldl (fun r i => rkC B s r (cpD B i)) x).b = x.b ∧ (l.foldl (fun r i => rkC B s r (cpD B i)) x).c = x.c
  | [], _ => ⟨rfl, rfl, rfl⟩
  | i :: l, x => by
    rw [List.foldl_cons]
    exact foldC_abc B s l (rkC B s x (cpD B i))

/-- All that one service must meet. -/
def OkS (B : Bk) (s : Svc) : Prop := (cntB B s.name).ending = 0 ∧ (cntB B s.name).live = s.want ∧ (∀ i ∈ liveTo B s.name B.cps.length, ((cpD B i).image != s.image || drainsB B (cpD B i)) = false) ∧ ∀ i ∈ liveTo B s.name B.cps.length, ((cpD B i).state != 3) = false
structure Rk.pos (r : Rk) : Prop where
  a : 0 ≤ r.a
  b : 0 ≤ r.b
  c : 0 ≤ r.c
  d : 0 ≤ r.d
  e : 0 ≤ r.e
theorem zeroR_iff {r : Rk} : zeroR r = true ↔ r.a = 0 ∧ r.b = 0 ∧ r.c = 0 ∧ r.d = 0 ∧ r.e = 0 := by
  unfold zeroR
  simp [and_assoc]
theorem absI_zero (x : Int) : absI x = 0 ↔ x = 0 := by unfold absI; split <;> omega
theorem absI_pos (x : Int) : 0 ≤ absI x := by unfold absI; split <;> omega
theorem giveS_pos (B : Bk) (s : Svc) : (giveS B s).pos ∧ (zeroR (giveS B s) = true ↔ OkS B s) := by
  have hc := cntB_le B s.name
  unfold Cnt.upTo at hc
  unfold giveS rkL
  rw [List.take_length]
  obtain ⟨ha, hb, hcc⟩ := foldC_abc B s (liveTo B s.name B.cps.length) (rk1 B s r0)
  have hd := foldC_d B s (liveTo B s.name B.cps.length) (rk1 B s r0) (Int.le_refl _)
  have he := foldC_e B s (liveTo B s.name B.cps.length) (rk1 B s r0) (Int.le_refl _)
  have ea : (rk1 B s r0).a = 0 := rfl
  have eb : (rk1 B s r0).b = 0 + (cntB B s.name).ending := rfl
  have ec : (rk1 B s r0).c = 0 + absI ((cntB B s.name).live - s.want) := rfl
  have ed : (rk1 B s r0).d = 0 := rfl
  have ee : (rk1 B s r0).e = 0 := rfl
  have hp := absI_pos ((cntB B s.name).live - s.want)
  have hz := absI_zero ((cntB B s.name).live - s.want)
  refine ⟨⟨by omega, by omega, by omega, hd.1, he.1⟩, ?_⟩
  rw [zeroR_iff, hd.2, he.2, ha, hb, hcc, ea, eb, ec, ed, ee]
  unfold OkS
  constructor
  · rintro ⟨_, h2, h3, ⟨_, h4⟩, _, h5⟩
    exact ⟨by omega, by have := hz.1 (by omega); omega, h4, h5⟩
  · rintro ⟨h2, h3, h4, h5⟩
    exact ⟨rfl, by omega, by have := hz.2 (by omega); omega, ⟨rfl, h4⟩, rfl, h5⟩

theorem foldS_zero {B : Bk} : ∀ (l : List Svc) (r : Rk), (∀ s ∈ l, s.gone = false) → r.pos → (l.foldl (rkS B) r).pos ∧ (zeroR (l.foldl (rkS B) r) = true ↔ zeroR r = true ∧ ∀ s ∈ l, OkS B s)
  | [], r, _, h => ⟨h, by simp⟩
  | s :: l, r, hg, h => by
    rw [List.foldl_cons, rkS_add (hg s (List.mem_cons_self ..))]
    obtain ⟨gp, gz⟩ := giveS_pos B s
    have hp : (r.add (giveS B s)).pos := ⟨Int.add_nonneg h.a gp.a, Int.add_nonneg h.b gp.b, Int.add_nonneg h.c gp.c, Int.add_nonneg h.d gp.d, Int.add_nonneg h.e gp.e⟩
    obtain ⟨q1, q2⟩ := foldS_zero l (r.add (giveS B s)) (fun t ht => hg t (List.mem_cons_of_mem _ ht)) hp
    refine ⟨q1, q2.trans ?_⟩
    have : zeroR (r.add (giveS B s)) = true ↔ zeroR r = true ∧ OkS B s := by
      rw [← gz, zeroR_iff, zeroR_iff, zeroR_iff]
      unfold Rk.add
      have := h.a; have := h.b; have := h.c; have := h.d; have := h.e
      have := gp.a; have := gp.b; have := gp.c; have := gp.d; have := gp.e
      dsimp only
      constructor
      · intro h'; omega
      · intro h'; omega
    rw [this, List.forall_mem_cons, and_assoc]

/-- The services that are Gone, counted. -/
theorem foldS_a {B : Bk} : ∀ (l : List Svc) (r : Rk), (l.foldl (rkS B) r).a = r.a + (l.filter fun s => s.gone).length
  | [], r => by simp
  | s :: l, r => by
    rw [List.foldl_cons, foldS_a l, List.filter_cons]
    cases hg : s.gone
    · rw [rkS_add hg]
      obtain ⟨ha, _, _⟩ := foldC_abc B s ((liveTo B s.name B.cps.length).take (liveTo B s.name B.cps.length).length) (rk1 B s r0)
      have e : (r.add (giveS B s)).a = r.a + 0 := congrArg (fun x => r.a + x) ha
      rw [e]
      simp
    · have e : (rkS B r s).a = r.a + 1 := by unfold rkS; rw [if_pos hg]
      rw [e]
      simp only [if_true, List.length_cons]
      omega

end Go.Proofs.Ytbceafpodamnfab
