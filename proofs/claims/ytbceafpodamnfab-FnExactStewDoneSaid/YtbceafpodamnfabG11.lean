/-
  My own: Vg, Vh.
-/
import Derived.Test.YtbceafpodamnfabG10
import Derived.Test.YtbceafpodamnfabG06
/-
  My own. The rank by the program: its five counts.
-/
namespace Go.Proofs.Ytbceafpodamnfab
open Go.RowKit Go.Sort Go.Maps

def cntS (B : Bk) (s : Svc) : Cnt := cntTo s.image s.name B.cps B.cps.length
def offS (B : Bk) (x : Int) (s : Svc) : Int := if s.gone = true then x else x + absI ((cntS B s).live - s.want)
def offTo (B : Bk) (k : Nat) : Int := (B.svcs.take k).foldl (offS B) 0
theorem offTo_succ {B : Bk} {k : Nat} {s : Svc} (h : B.svcs[k]? = some s) : offTo B (k + 1) = offS B (offTo B k) s := by
  unfold offTo
  rw [List.take_add_one, h, List.foldl_append]
  rfl
theorem cntS_upTo (B : Bk) (s : Svc) : (cntS B s).upTo B.cps.length := cntTo_upTo s.image s.name B.cps B.cps.length (Nat.le_refl _)
theorem offTo_in {B : Bk} (hV : Valid B) : ∀ k, k ≤ B.svcs.length → 0 ≤ offTo B k ∧ offTo B k ≤ 400 * k
  | 0, _ => by unfold offTo; simp
  | k + 1, hk => by
    obtain ⟨s, hsk⟩ : ∃ s, B.svcs[k]? = some s := ⟨B.svcs[k], by simp [show k < B.svcs.length by omega]⟩
    have ih := offTo_in hV k (by omega)
    rw [offTo_succ hsk]
    have hc := cntS_upTo B s
    have hsi := hV.svcIn (List.mem_of_getElem? hsk)
    have hw0 := hsi.want0
    have hw1 := hsi.want1
    have hlc := hV.lc
    unfold Cnt.upTo at hc
    have ha := absI_in ((cntS B s).live - s.want) 400 (by omega) (by omega)
    unfold offS
    split <;> omega

set_option maxRecDepth 100000 in
set_option maxHeartbeats 16000000 in
theorem offWant_any (B : Bk) (a1 a2 a3 : Option Addr) (c1 c2 c3 : Nat) (w : World) (HK : Hid (B.cps.length ≤ c2)) (hS : B.small) (hV : Valid B) (hB : BkAt w a1 a2 a3 B) :
    Calls Try.prog 84 #[.agg #[.int .i64 B.now, .slice a1 B.svcs.length c1, .slice a2 B.cps.length c2, .slice a3 B.bts.length c3]] w fun e w' => e = .returned (.int .i64 (offTo B B.svcs.length)) ∧ Below w.heap.size w w' := by
  have hls := hV.ls
  have hlc := hV.lc
  have hb0 := below_box w (.cells #[.int .i64 B.now, .slice a1 B.svcs.length c1, .slice a2 B.cps.length c2, .slice a3 B.bts.length c3] 33)
  have T0 : Hid _ := heap_alloc_new w (.cells #[.int .i64 B.now, .slice a1 B.svcs.length c1, .slice a2 B.cps.length c2, .slice a3 B.bts.length c3] 33)
  go_enter Try.func84, Try.ntmps84
  go_wp2
  go_loopw [3, 10] (fun ov iv wr => ∃ (k : Nat) (x : Int), k ≤ B.svcs.length ∧ iv = .int .i64 k ∧ ov = .int .i64 x ∧ Hid (x = offTo B k) ∧ Below w.heap.size w wr ∧ Hid (wr.heap[w.heap.size]? = some (.cells #[.int .i64 B.now, .slice a1 B.svcs.length c1, .slice a2 B.cps.length c2, .slice a3 B.bts.length c3] 33 (0, 0)))) (fun _ i _ => B.svcs.length - (intOf i).toNat)
  case atStart => exact ⟨0, 0, by omega, rfl, rfl, rfl, hb0, T0⟩
  case round =>
    clear hb0 T0
    obtain ⟨k, x, hk, rfl, rfl, HX, hb, HT⟩ := hrel
    have hzt : w.heap.size < wr.heap.size := (Array.getElem?_eq_some_iff.1 HT.out).1
    by_cases hlt : k < B.svcs.length
    · obtain ⟨s, hsk⟩ : ∃ s, B.svcs[k]? = some s := ⟨B.svcs[k], by simp [hlt]⟩
      have hmem := List.mem_of_getElem? hsk
      have hxi := offTo_in hV k hk
      rw [← HX.out] at hxi
      obtain ⟨hx0, hx1⟩ := hxi
      have hsi := hV.svcIn hmem
      have hw0 := hsi.want0
      have hw1 := hsi.want1
      have HXS : Hid (offTo B (k + 1) = offS B x s) := by unfold Hid; rw [offTo_succ hsk, ← HX.out]
      have hne : B.svcs ≠ [] := by intro h; rw [h] at hlt; simp at hlt
      obtain ⟨bS, oS, ea, hbs, hat⟩ := (hB.below hb).1 hne
      subst ea
      have hsx := hat k s hsk
      unfold SvcAt at hsx
      obtain ⟨x0, x1, x2, x3, x4, x5, x6, x7, x8, x9, x10, x11, x12⟩ := hsx
      have hcu := cntS_upTo B s
      obtain ⟨N, HN⟩ : ∃ N, Hid (N = cntS B s) := ⟨_, rfl⟩
      rw [← HN.out] at hcu
      unfold Cnt.upTo at hcu
      obtain ⟨n0, n1, _, _, _, _, _, _, _, _⟩ := hcu
      obtain ⟨Wa, hWa⟩ : ∃ W, wr.alloc (.cells #[.string s.name, .int .i64 s.version, .bool s.gone, .int .i64 s.image, .int .i64 s.want, .int .i64 s.down, .int .i64 s.over, .int .i64 s.next, .int .i64 s.per, .int .i64 s.least, .int .i64 s.most, .int .i64 s.load, .int .i64 s.cool] 57) = W := ⟨_, rfl⟩
      have hba := below_box wr (.cells #[.string s.name, .int .i64 s.version, .bool s.gone, .int .i64 s.image, .int .i64 s.want, .int .i64 s.down, .int .i64 s.over, .int .i64 s.next, .int .i64 s.per, .int .i64 s.least, .int .i64 s.most, .int .i64 s.load, .int .i64 s.cool] 57)
      have Xa : Hid _ := heap_alloc_new wr (.cells #[.string s.name, .int .i64 s.version, .bool s.gone, .int .i64 s.image, .int .i64 s.want, .int .i64 s.down, .int .i64 s.over, .int .i64 s.next, .int .i64 s.per, .int .i64 s.least, .int .i64 s.most, .int .i64 s.load, .int .i64 s.cool] 57)
      have hza : wr.heap.size < (wr.alloc (.cells #[.string s.name, .int .i64 s.version, .bool s.gone, .int .i64 s.image, .int .i64 s.want, .int .i64 s.down, .int .i64 s.over, .int .i64 s.next, .int .i64 s.per, .int .i64 s.least, .int .i64 s.most, .int .i64 s.load, .int .i64 s.cool] 57)).heap.size := by simp
      rw [hWa] at hba Xa hza
      clear hsk hne hat hmem hsi
      go_upto_region 5 with fail
      clear hWa x0 x1 x2 x3 x4 x5 x6 x7 x8 x9 x10 x11 x12
      have hbwa := hb.trans (hba.mono hb.size)
      have Ba : Hid _ := below_blk hba HT.out hzt
      have x2a := blk_cell Xa.out 2 rfl
      rcases Bool.eq_false_or_eq_true s.gone with hgo0 | hgo0
      · have hgo : Hid (s.gone = true) := hgo0
        have x2 : Wa.cell? ⟨wr.heap.size, 2, none⟩ = some (.bool true) := by rw [hgo0] at x2a; exact x2a
        clear hgo0 x2a
        go_wp2
        go_roundw
        case rel => exact ⟨k + 1, x, by omega, by go_num, rfl, by unfold Hid; rw [HXS.out]; unfold offS; rw [if_pos hgo.out], hbwa, Ba⟩
        case measure => simp [intOf]; omega
      · have hgo : Hid (s.gone = false) := hgo0
        have x2 : Wa.cell? ⟨wr.heap.size, 2, none⟩ = some (.bool false) := by rw [hgo0] at x2a; exact x2a
        clear hgo0 x2a
        go_upto_region 6 with fail
        clear x2
        have e0 := blk_cell Ba.out 0 rfl
        have e1 := blk_cell Ba.out 1 rfl
        have e2 := blk_cell Ba.out 2 rfl
        have e3 := blk_cell Ba.out 3 rfl
        have z0 := blk_cell Xa.out 0 rfl
        have z1 := blk_cell Xa.out 1 rfl
        have z2 := blk_cell Xa.out 2 rfl
        have z3 := blk_cell Xa.out 3 rfl
        have z4 := blk_cell Xa.out 4 rfl
        have z5 := blk_cell Xa.out 5 rfl
        have z6 := blk_cell Xa.out 6 rfl
        have z7 := blk_cell Xa.out 7 rfl
        have z8 := blk_cell Xa.out 8 rfl
        have z9 := blk_cell Xa.out 9 rfl
        have z10 := blk_cell Xa.out 10 rfl
        have z11 := blk_cell Xa.out 11 rfl
        have z12 := blk_cell Xa.out 12 rfl
        go_wp2_with fail
        refine (countCopies_any B s _ a2 a3 c1 c2 c3 _ hS.2.1 (riseC_of hV) HK (hB.below hbwa).2.1 N HN).mono ?_
        rintro e w2 ⟨rfl, hb2⟩
        have hz2 := hb2.size
        have hbw2 := hbwa.trans (hb2.mono hbwa.size)
        have B2 : Hid _ := below_blk hb2 Ba.out (by omega)
        have X2 : Hid _ := below_blk hb2 Xa.out (by omega)
        clear e0 e1 e2 e3 z0 z1 z2 z3 z4 z5 z6 z7 z8 z9 z10 z11 z12 hb2 hbwa hba Ba Xa
        have hf0 := run_field_count0
        go_upto_region 7 with fail
        clear hf0
        have y4 := blk_cell X2.out 4 rfl
        have HXN : Hid (offTo B (k + 1) = x + absI (N.live - s.want)) := by unfold Hid; rw [HXS.out]; unfold offS; rw [if_neg (by rw [hgo.out]; simp), HN.out]
        by_cases hle : N.live ≤ s.want
        · have HA : Hid (absI (N.live - s.want) = s.want - N.live) := by unfold Hid absI; split <;> omega
          go_wp2
          all_goals (first | omega | skip)
          all_goals go_roundw
          case rel => exact ⟨k + 1, x + (s.want - N.live), by omega, by go_num, by first | rfl | (congr 1; omega), by unfold Hid; rw [HXN.out, HA.out], hbw2, B2⟩
          case measure => simp [intOf]; omega
        · have HA : Hid (absI (N.live - s.want) = N.live - s.want) := by unfold Hid absI; split <;> omega
          go_wp2
          all_goals (first | omega | skip)
          all_goals go_roundw
          case rel => exact ⟨k + 1, x + (N.live - s.want), by omega, by go_num, by first | rfl | (congr 1; omega), by unfold Hid; rw [HXN.out, HA.out], hbw2, B2⟩
          case measure => simp [intOf]; omega
    · have HE : Hid (x = offTo B B.svcs.length) := by unfold Hid; rw [HX.out, show k = B.svcs.length by omega]
      go_wp2
      go_ret
      exact ⟨ret_int HE.out, hb⟩

end Go.Proofs.Ytbceafpodamnfab

/-
  My own. The rank by the program: the five functions.
-/
namespace Go.Proofs.Ytbceafpodamnfab
open Go.RowKit Go.Sort Go.Maps

def goneQ (B : Bk) (c : Cp) : Bool := c.ending || (match svcOf B c.service with | some s => s.gone | none => false)
def oldQ (B : Bk) (c : Cp) : Bool := (match svcOf B c.service with | some s => c.image != s.image | none => false) || drainsB B c
theorem goneQ_of {B : Bk} {c : Cp} {s : Svc} (h : svcOf B c.service = some s) : goneQ B c = (c.ending || s.gone) := by unfold goneQ; rw [h]
theorem oldQ_of {B : Bk} {c : Cp} {s : Svc} (h : svcOf B c.service = some s) : oldQ B c = (c.image != s.image || drainsB B c) := by unfold oldQ; rw [h]

set_option maxRecDepth 100000 in
set_option maxHeartbeats 8000000 in
theorem rankF1 (B : Bk) (pb pm b : Nat) (a1 a2 a3 : Option Addr) (c1 c2 c3 : Nat) (w : World) (hS : B.small) (hF : SvcFn w pb pm b a1 a2 a3 c1 c2 c3 B) :
    Calls Try.prog 78 #[.pointer (some ⟨pb, 0, none⟩)] w fun e w' => e = .returned (.int .i64 (B.svcs.filter fun s => s.gone).length) ∧ Below w.heap.size w w' := by
  have HL : Hid (SlS w a1 B.svcs) := hF.2.2.2.1
  have x1 := blk_cell hF.1 1 rfl
  clear hF
  go_enter Try.func78, Try.ntmps78
  go_wp2_with fail
  refine (howManySvc0 79 (enters_of Try.func79 (by kernel_rfl) rfl) (fun s => s.gone) B.svcs a1 c1 w hS.1 HL.out (fun x _ W _ => gone1_any x W)).mono ?_
  rintro e w1 ⟨rfl, hb1⟩
  go_wp2
  go_ret
  exact ⟨rfl, hb1⟩

set_option maxRecDepth 100000 in
set_option maxHeartbeats 8000000 in
theorem rankF2 (ps : Nat) (B : Bk) (pb pm b : Nat) (a1 a2 a3 : Option Addr) (c1 c2 c3 : Nat) (w : World) (hS : B.small) (hZ : B.sized) (hV : Valid B) (hp : w.heap[ps]? = some (.cells #[.func (.func 75) #[] #[.pointer (some ⟨pb, 0, none⟩), .pointer (some ⟨pm, 0, none⟩)]] 108 (0, 0))) (hF : SvcFn w pb pm b a1 a2 a3 c1 c2 c3 B) :
    Calls Try.prog 80 #[.pointer (some ⟨pb, 0, none⟩), .pointer (some ⟨ps, 0, none⟩)] w fun e w' => e = .returned (.int .i64 (B.cps.filter (goneQ B)).length) ∧ Below w.heap.size w w' := by
  have HL : Hid (SlC w a2 B.cps) := hF.2.2.2.2.1
  have x1 := blk_cell hF.1 2 rfl
  have HC : Hid (∀ x ∈ B.cps, ∀ W : World, Below w.heap.size w W → Calls Try.prog 82 #[.agg #[.string x.service, .int .i64 x.number, .int .i64 x.version, .int .i64 x.image, .int .i64 x.state, .bool x.ending, .string x.berth], .pointer (some ⟨ps, 0, none⟩)] W fun e w' => e = .returned (.bool (goneQ B x)) ∧ Below W.heap.size W w') := fun x hx W hW => by
    obtain ⟨s, hs, _⟩ := hV.svc hx
    rw [goneQ_of hs]
    exact goneC_any B s x ps pb pm b a1 a2 a3 c1 c2 c3 W hS (hZ.2.2.2.2.1 x hx).1 hs (below_blk hW hp (Array.getElem?_eq_some_iff.1 hp).1) (hF.below hW (Nat.le_refl _))
  clear hF hp
  go_enter Try.func80, Try.ntmps80
  go_wp2_with fail
  refine (howManyCp1 82 (enters_of Try.func82 (by kernel_rfl) rfl) (.pointer (some ⟨ps, 0, none⟩)) (goneQ B) B.cps a2 c2 w hS.2.1 HL.out HC.out).mono ?_
  rintro e w1 ⟨rfl, hb1⟩
  go_wp2
  go_ret
  exact ⟨rfl, hb1⟩

set_option maxRecDepth 100000 in
set_option maxHeartbeats 8000000 in
theorem rankF3 (B : Bk) (pb pm b : Nat) (a1 a2 a3 : Option Addr) (c1 c2 c3 : Nat) (w : World) (HK : Hid (B.cps.length ≤ c2)) (hS : B.small) (hV : Valid B) (hF : SvcFn w pb pm b a1 a2 a3 c1 c2 c3 B) :
    Calls Try.prog 83 #[.pointer (some ⟨pb, 0, none⟩)] w fun e w' => e = .returned (.int .i64 (offTo B B.svcs.length)) ∧ Below w.heap.size w w' := by
  have HB : Hid (BkAt w a1 a2 a3 B) := hF.2.2.2
  have e0 := blk_cell hF.1 0 rfl
  have e1 := blk_cell hF.1 1 rfl
  have e2 := blk_cell hF.1 2 rfl
  have e3 := blk_cell hF.1 3 rfl
  clear hF
  go_enter Try.func83, Try.ntmps83
  go_wp2_with fail
  refine (offWant_any B a1 a2 a3 c1 c2 c3 w HK hS hV HB.out).mono ?_
  rintro e w1 ⟨rfl, hb1⟩
  go_wp2
  go_ret
  exact ⟨rfl, hb1⟩

set_option maxRecDepth 100000 in
set_option maxHeartbeats 8000000 in
theorem rankF4 (ps pl : Nat) (al : Option Addr) (cl : Nat) (L : List Cp) (B : Bk) (pb pm b : Nat) (a1 a2 a3 : Option Addr) (c1 c2 c3 : Nat) (w : World) (hS : B.small) (hZ : B.sized) (hV : Valid B) (hLl : L.length ≤ 1048576) (hLm : ∀ x ∈ L, x ∈ B.cps) (hLs : SlC w al L) (hq : w.heap[pl]? = some (.cells #[.slice al L.length cl] 30 (0, 0)))
    (hp : w.heap[ps]? = some (.cells #[.func (.func 75) #[] #[.pointer (some ⟨pb, 0, none⟩), .pointer (some ⟨pm, 0, none⟩)]] 108 (0, 0))) (hF : SvcFn w pb pm b a1 a2 a3 c1 c2 c3 B) :
    Calls Try.prog 85 #[.pointer (some ⟨pl, 0, none⟩), .pointer (some ⟨ps, 0, none⟩), .pointer (some ⟨pb, 0, none⟩), .pointer (some ⟨pm, 0, none⟩)] w fun e w' => e = .returned (.int .i64 (L.filter (oldQ B)).length) ∧ Below w.heap.size w w' := by
  have HL : Hid (SlC w al L) := hLs
  have x1 := blk_cell hq 0 rfl
  have HC : Hid (∀ x ∈ L, ∀ W : World, Below w.heap.size w W → Calls Try.prog 86 #[.agg #[.string x.service, .int .i64 x.number, .int .i64 x.version, .int .i64 x.image, .int .i64 x.state, .bool x.ending, .string x.berth], .pointer (some ⟨ps, 0, none⟩), .pointer (some ⟨pb, 0, none⟩), .pointer (some ⟨pm, 0, none⟩)] W fun e w' => e = .returned (.bool (oldQ B x)) ∧ Below W.heap.size W w') := fun x hx W hW => by
    obtain ⟨s, hs, _⟩ := hV.svc (hLm x hx)
    rw [oldQ_of hs]
    exact oldC_any B s x ps pb pm b a1 a2 a3 c1 c2 c3 W hS (hZ.2.2.2.2.1 x (hLm x hx)).1 (hZ.2.2.2.2.1 x (hLm x hx)).2 hs (below_blk hW hp (Array.getElem?_eq_some_iff.1 hp).1) (hF.below hW (Nat.le_refl _))
  clear hF hp hq hLs
  go_enter Try.func85, Try.ntmps85
  go_wp2_with fail
  refine (howManyCp3 86 (enters_of Try.func86 (by kernel_rfl) rfl) (.pointer (some ⟨ps, 0, none⟩)) (.pointer (some ⟨pb, 0, none⟩)) (.pointer (some ⟨pm, 0, none⟩)) (oldQ B) L al cl w hLl HL.out HC.out).mono ?_
  rintro e w1 ⟨rfl, hb1⟩
  go_wp2
  go_ret
  exact ⟨rfl, hb1⟩

set_option maxRecDepth 100000 in
set_option maxHeartbeats 8000000 in
theorem rankF5 (pl : Nat) (al : Option Addr) (cl : Nat) (L : List Cp) (w : World) (hLl : L.length ≤ 1048576) (hLs : SlC w al L) (hq : w.heap[pl]? = some (.cells #[.slice al L.length cl] 30 (0, 0))) :
    Calls Try.prog 89 #[.pointer (some ⟨pl, 0, none⟩)] w fun e w' => e = .returned (.int .i64 (L.filter fun c => c.state != 3).length) ∧ Below w.heap.size w w' := by
  have HL : Hid (SlC w al L) := hLs
  have x1 := blk_cell hq 0 rfl
  clear hq hLs
  go_enter Try.func89, Try.ntmps89
  go_wp2_with fail
  refine (howManyCp0 90 (enters_of Try.func90 (by kernel_rfl) rfl) (fun c => c.state != 3) L al cl w hLl HL.out (fun x _ W _ => unready1_any x W)).mono ?_
  rintro e w1 ⟨rfl, hb1⟩
  go_wp2
  go_ret
  exact ⟨rfl, hb1⟩

end Go.Proofs.Ytbceafpodamnfab
