/-
  My own: Kg, Kh, Ki.
-/
import Derived.Test.YtbceafpodamnfabG18
import Derived.Deep.RegionWith
import Derived.Test.YtbceafpodamnfabG08
import Derived.Test.YtbceafpodamnfabG17
set_option linter.unusedVariables false
set_option linter.unusedSimpArgs false
/-
  My own. The program's StewWorldOk: the Nows; all three checks.
-/
namespace Go.Proofs.Ytbceafpodamnfab
open Go.RowKit Go.Sort

set_option maxRecDepth 100000 in
set_option maxHeartbeats 4000000 in
theorem nowsRise_any (l : List Bx) (ap : Option Addr) (cp : Nat) (B : Bk) (a1 a2 a3 : Option Addr) (c1 c2 c3 : Nat) (w : World) (hl : l.length ≤ 1048576) (hW : WAt w ap l a1 a2 a3 B) :
    Calls Try.prog 49 #[.agg #[.slice ap l.length cp, .int .i64 B.now, .slice a1 B.svcs.length c1, .slice a2 B.cps.length c2, .slice a3 B.bts.length c3]] w fun e w' => e = .returned (.bool (riseB (l.map (·.b)) B)) ∧ Below w.heap.size w w' := by
  have HW : Hid (WAt w ap l a1 a2 a3 B) := hW
  have HLM : Hid ((l.map (·.b)).length = l.length) := by unfold Hid; simp
  clear hW
  have T0 : Hid _ := heap_alloc_new w (.cells #[.slice ap l.length cp, .int .i64 B.now, .slice a1 B.svcs.length c1, .slice a2 B.cps.length c2, .slice a3 B.bts.length c3] 49)
  have hb0 := below_box w (.cells #[.slice ap l.length cp, .int .i64 B.now, .slice a1 B.svcs.length c1, .slice a2 B.cps.length c2, .slice a3 B.bts.length c3] 49)
  go_enter Try.func49, Try.ntmps49
  go_wp2
  go_loopw [3, 9] (fun nv iv wr => ∃ (k : Nat) (m : Int), k ≤ l.length ∧ iv = .int .i64 k ∧ nv = .int .i64 m ∧ Hid (m = nowB (l.map (·.b)) k) ∧ Below w.heap.size w wr ∧ Hid (wr.heap[w.heap.size]? = some (.cells #[.slice ap l.length cp, .int .i64 B.now, .slice a1 B.svcs.length c1, .slice a2 B.cps.length c2, .slice a3 B.bts.length c3] 49 (0, 0))) ∧ Hid (∀ i, i < k → riseAtB (l.map (·.b)) i = true)) (fun _ i _ => l.length - (intOf i).toNat)
  case atStart => exact ⟨0, 0, by omega, rfl, rfl, rfl, hb0, T0, fun i hi => absurd hi (by omega)⟩
  case round =>
    clear hb0 T0
    obtain ⟨k, m, hk, rfl, rfl, HM, hb, hbox1, hall⟩ := hrel
    have hNlt : w.heap.size < wr.heap.size := (Array.getElem?_eq_some_iff.1 hbox1.out).1
    by_cases hlt : k < l.length
    · have hne : l ≠ [] := by intro h; rw [h] at hlt; simp at hlt
      obtain ⟨b, off, ea, hbs, hat⟩ := HW.out.row hne
      subst ea
      obtain ⟨s, hsk⟩ : ∃ s, l[k]? = some s := ⟨l[k], by simp [hlt]⟩
      have HMK : Hid ((l.map (·.b))[k]? = some s.b) := map_at hsk
      have hcs := (hat k s hsk).below hb hbs
      unfold BxAt at hcs
      obtain ⟨x0, x1, x2, x3⟩ := hcs
      have hb2 := hb.trans ((below_box wr (.cells #[.int .i64 s.b.now, .slice s.a1 s.b.svcs.length s.c1, .slice s.a2 s.b.cps.length s.c2, .slice s.a3 s.b.bts.length s.c3] 33)).mono hb.size)
      have hbox2 : Hid _ := below_blk (below_box wr (.cells #[.int .i64 s.b.now, .slice s.a1 s.b.svcs.length s.c1, .slice s.a2 s.b.cps.length s.c2, .slice s.a3 s.b.bts.length s.c3] 33)) hbox1.out hNlt
      clear hsk hat hne
      cases hd : decide (s.b.now < m)
      · have HYES : Hid (riseAtB (l.map (·.b)) k = true) := by
          unfold Hid riseAtB
          rw [HMK.out, ← HM.out]
          have := of_decide_eq_false hd
          simp
          omega
        go_wp2
        go_roundw
        case rel => exact ⟨k + 1, s.b.now, by omega, by go_num, rfl, (nowB_succ HMK.out).symm, hb2, hbox2, upTo_step hall.out HYES.out⟩
        case measure => simp [intOf]; omega
      · have HNO : Hid (riseB (l.map (·.b)) B = false) := by
          have h1 : riseAtB (l.map (·.b)) k = false := by
            unfold riseAtB
            rw [HMK.out, ← HM.out]
            have := of_decide_eq_true hd
            simp
            omega
          unfold Hid riseB
          rw [allTo_no (by rw [HLM.out]; exact hlt) h1, Bool.false_and]
        go_wp2
        go_ret
        exact ⟨ret_bool HNO.out.symm, hb2⟩
    · have HE : Hid (riseB (l.map (·.b)) B = decide (m ≤ B.now)) := by
        have hkl : k = l.length := by omega
        unfold Hid riseB
        rw [allTo_yes fun i hi => hall.out i (by rw [HLM.out] at hi; omega), HLM.out, ← hkl, ← HM.out, Bool.true_and]
      have e1 := blk_cell hbox1.out 1 rfl
      clear hall
      go_wp2
      go_ret
      refine ⟨ret_bool ?_, hb⟩
      rw [HE.out]

/-- The three checks. -/
def wP (P : List Bk) (B : Bk) : Nat → Bool
  | 0 => decide (P.length ≤ 8)
  | 1 => holdB P B
  | _ => riseB P B
theorem wP_all (P : List Bk) (B : Bk) : allTo (wP P B) 3 = worldB P B := by
  have h : allTo (wP P B) 3 = (wP P B 0 && (wP P B 1 && (wP P B 2 && true))) := rfl
  rw [h, world_same]
  simp only [wP, Bool.and_true]
def FnsW (w : World) (b : Nat) : Prop := w.heap[b]? = some (.cells #[.func (.func 47) #[] #[], .func (.func 48) #[] #[], .func (.func 49) #[] #[]] 46 (0, 0))

set_option maxRecDepth 100000 in
set_option maxHeartbeats 4000000 in
theorem allHoldW_any (l : List Bx) (ap : Option Addr) (cp : Nat) (B : Bk) (a1 a2 a3 : Option Addr) (c1 c2 c3 : Nat) (b : Nat) (w : World) (hl : l.length ≤ 1048576) (hZ : Sizeds l) (hS : Smalls l) (hBZ : B.sized) (hT : B.small) (hW : WAt w ap l a1 a2 a3 B) (hF : FnsW w b) :
    Calls Try.prog 46 #[.agg #[.slice ap l.length cp, .int .i64 B.now, .slice a1 B.svcs.length c1, .slice a2 B.cps.length c2, .slice a3 B.bts.length c3], .slice (some ⟨b, 0, none⟩) 3 3] w fun e w' => e = .returned (.bool (allTo (wP (l.map (·.b)) B) 3)) ∧ Below w.heap.size w w' := by
  have HW : Hid (WAt w ap l a1 a2 a3 B) := hW
  have HS : Hid _ := hS
  have HZ : Hid _ := hZ
  have HBZ : Hid _ := hBZ
  have HT : Hid _ := hT
  clear hW hS hZ hBZ hT
  have hbx := below_box w (.cells #[.slice ap l.length cp, .int .i64 B.now, .slice a1 B.svcs.length c1, .slice a2 B.cps.length c2, .slice a3 B.bts.length c3] 49)
  have hbox : Hid _ := heap_alloc_new w (.cells #[.slice ap l.length cp, .int .i64 B.now, .slice a1 B.svcs.length c1, .slice a2 B.cps.length c2, .slice a3 B.bts.length c3] 49)
  have hblt : b < w.heap.size := (Array.getElem?_eq_some_iff.1 hF).1
  have HF : Hid (FnsW w b) := hF
  clear hF
  go_enter Try.func46, Try.ntmps46
  go_wp2
  go_loopw [9] (fun iv wr => ∃ k : Nat, k ≤ 3 ∧ iv = .int .i64 k ∧ Below w.heap.size w wr ∧ Hid (wr.heap[w.heap.size]? = some (.cells #[.slice ap l.length cp, .int .i64 B.now, .slice a1 B.svcs.length c1, .slice a2 B.cps.length c2, .slice a3 B.bts.length c3] 49 (0, 0))) ∧ Hid (∀ i, i < k → wP (l.map (·.b)) B i = true)) (fun i _ => 3 - (intOf i).toNat)
  case atStart => exact ⟨0, by omega, rfl, hbx, hbox, fun i hi => absurd hi (by omega)⟩
  case round =>
    clear hbx hbox
    obtain ⟨k, hk, rfl, hb, hbox1, hall⟩ := hrel
    have hNlt : w.heap.size < wr.heap.size := (Array.getElem?_eq_some_iff.1 hbox1.out).1
    have hfn : Hid _ := below_blk hb HF.out hblt
    have x0 := blk_cell hbox1.out 0 rfl
    have x1 := blk_cell hbox1.out 1 rfl
    have x2 := blk_cell hbox1.out 2 rfl
    have x3 := blk_cell hbox1.out 3 rfl
    have x4 := blk_cell hbox1.out 4 rfl
    by_cases h0 : k = 0
    · subst h0
      have f0 := blk_cell hfn.out 0 rfl
      cases hv : (decide (l.length ≤ 8))
      · have HV : Hid (wP (l.map (·.b)) B 0 = false) := by show decide ((l.map (·.b)).length ≤ 8) = false; rw [List.length_map]; exact hv
        go_wp2_with fail
        refine (pastFits_any l ap cp B a1 a2 a3 c1 c2 c3 _ hl).mono ?_
        rintro e w1 ⟨he, hb1⟩
        subst he
        have hb2 := hb.trans (hb1.mono hb.size)
        rw [hv]
        clear x0 x1 x2 x3 x4 f0
        go_wp2
        go_ret
        exact ⟨ret_bool (allTo_no (by omega) HV.out).symm, hb2⟩
      · have HV : Hid (wP (l.map (·.b)) B 0 = true) := by show decide ((l.map (·.b)).length ≤ 8) = true; rw [List.length_map]; exact hv
        go_wp2_with fail
        refine (pastFits_any l ap cp B a1 a2 a3 c1 c2 c3 _ hl).mono ?_
        rintro e w1 ⟨he, hb1⟩
        subst he
        have hb2 := hb.trans (hb1.mono hb.size)
        have hbox2 : Hid _ := below_blk hb1 hbox1.out hNlt
        rw [hv]
        clear x0 x1 x2 x3 x4 f0
        go_wp2
        go_roundw
        case rel => exact ⟨0 + 1, by omega, by go_num, hb2, hbox2, upTo_step hall.out HV.out⟩
        case measure => simp [intOf]
    by_cases h1 : k = 1
    · subst h1
      have f1 := blk_cell hfn.out 1 rfl
      cases hv : (holdB (l.map (·.b)) B)
      · have HV : Hid (wP (l.map (·.b)) B 1 = false) := hv
        go_wp2_with fail
        refine (booksHold_any l ap cp B a1 a2 a3 c1 c2 c3 _ hl HZ.out HS.out HBZ.out HT.out (HW.out.below hb)).mono ?_
        rintro e w1 ⟨he, hb1⟩
        subst he
        have hb2 := hb.trans (hb1.mono hb.size)
        rw [hv]
        clear x0 x1 x2 x3 x4 f1
        go_wp2
        go_ret
        exact ⟨ret_bool (allTo_no (by omega) HV.out).symm, hb2⟩
      · have HV : Hid (wP (l.map (·.b)) B 1 = true) := hv
        go_wp2_with fail
        refine (booksHold_any l ap cp B a1 a2 a3 c1 c2 c3 _ hl HZ.out HS.out HBZ.out HT.out (HW.out.below hb)).mono ?_
        rintro e w1 ⟨he, hb1⟩
        subst he
        have hb2 := hb.trans (hb1.mono hb.size)
        have hbox2 : Hid _ := below_blk hb1 hbox1.out hNlt
        rw [hv]
        clear x0 x1 x2 x3 x4 f1
        go_wp2
        go_roundw
        case rel => exact ⟨1 + 1, by omega, by go_num, hb2, hbox2, upTo_step hall.out HV.out⟩
        case measure => simp [intOf]
    by_cases h2 : k = 2
    · subst h2
      have f2 := blk_cell hfn.out 2 rfl
      cases hv : (riseB (l.map (·.b)) B)
      · have HV : Hid (wP (l.map (·.b)) B 2 = false) := hv
        go_wp2_with fail
        refine (nowsRise_any l ap cp B a1 a2 a3 c1 c2 c3 _ hl (HW.out.below hb)).mono ?_
        rintro e w1 ⟨he, hb1⟩
        subst he
        have hb2 := hb.trans (hb1.mono hb.size)
        rw [hv]
        clear x0 x1 x2 x3 x4 f2
        go_wp2
        go_ret
        exact ⟨ret_bool (allTo_no (by omega) HV.out).symm, hb2⟩
      · have HV : Hid (wP (l.map (·.b)) B 2 = true) := hv
        go_wp2_with fail
        refine (nowsRise_any l ap cp B a1 a2 a3 c1 c2 c3 _ hl (HW.out.below hb)).mono ?_
        rintro e w1 ⟨he, hb1⟩
        subst he
        have hb2 := hb.trans (hb1.mono hb.size)
        have hbox2 : Hid _ := below_blk hb1 hbox1.out hNlt
        rw [hv]
        clear x0 x1 x2 x3 x4 f2
        go_wp2
        go_roundw
        case rel => exact ⟨2 + 1, by omega, by go_num, hb2, hbox2, upTo_step hall.out HV.out⟩
        case measure => simp [intOf]
    · have h3 : k = 3 := by omega
      subst h3
      clear x0 x1 x2 x3 x4
      go_wp2
      go_ret
      exact ⟨ret_bool (allTo_yes hall.out).symm, hb⟩

set_option maxRecDepth 100000 in
set_option maxHeartbeats 1000000 in
theorem implWorldOk_any (l : List Bx) (ap : Option Addr) (cp : Nat) (B : Bk) (a1 a2 a3 : Option Addr) (c1 c2 c3 : Nat) (w : World) (hl : l.length ≤ 1048576) (hZ : Sizeds l) (hS : Smalls l) (hBZ : B.sized) (hT : B.small) (hW : WAt w ap l a1 a2 a3 B) :
    Calls Try.prog 20 #[.agg #[.slice ap l.length cp, .int .i64 B.now, .slice a1 B.svcs.length c1, .slice a2 B.cps.length c2, .slice a3 B.bts.length c3]] w fun e w' => e = .returned (.bool (worldB (l.map (·.b)) B)) ∧ Below w.heap.size w w' := by
  have HW : Hid (WAt w ap l a1 a2 a3 B) := hW
  have HS : Hid _ := hS
  have HZ : Hid _ := hZ
  have HBZ : Hid _ := hBZ
  have HT : Hid _ := hT
  clear hW hS hZ hBZ hT
  obtain ⟨t0, t1, t2⟩ := two_new w (.cells #[.slice ap l.length cp, .int .i64 B.now, .slice a1 B.svcs.length c1, .slice a2 B.cps.length c2, .slice a3 B.bts.length c3] 49) (.cells #[.func (.func 47) #[] #[], .func (.func 48) #[] #[], .func (.func 49) #[] #[]] 46)
  have hb0 : Below w.heap.size w ((w.alloc (.cells #[.slice ap l.length cp, .int .i64 B.now, .slice a1 B.svcs.length c1, .slice a2 B.cps.length c2, .slice a3 B.bts.length c3] 49)).alloc (.cells #[.func (.func 47) #[] #[], .func (.func 48) #[] #[], .func (.func 49) #[] #[]] 46)) := ((Below.refl _ _).alloc (Nat.le_refl _) _).alloc (by simp) _
  have T1 : Hid _ := t1
  clear t0 t1 t2
  go_enter Try.func20, Try.ntmps20
  go_wp2_with fail
  refine (allHoldW_any l ap cp B a1 a2 a3 c1 c2 c3 (w.heap.size + 1) _ hl HZ.out HS.out HBZ.out HT.out (HW.out.below hb0) T1.out).mono ?_
  rintro e w1 ⟨rfl, hb1⟩
  rw [wP_all]
  go_wp2
  go_ret
  exact ⟨rfl, hb0.trans (hb1.mono hb0.size)⟩

end Go.Proofs.Ytbceafpodamnfab

/-
  My own. The law on StewWorldOk: its walk.
-/
namespace Go.Proofs.Ytbceafpodamnfab
open Go.RowKit Go.Sort

theorem maps_len {l m : List Bx} (h : m.map (·.b) = l.map (·.b)) : m.length = l.length := by have := congrArg List.length h; simpa using this
theorem smalls_of {l m : List Bx} (h : m.map (·.b) = l.map (·.b)) (hS : Smalls l) : Smalls m := fun x hx => by
  have h1 : x.b ∈ l.map (·.b) := by rw [← h]; exact List.mem_map_of_mem hx
  obtain ⟨y, hy, e⟩ := List.mem_map.1 h1
  rw [← e]
  exact hS y hy
theorem sizeds_of {l m : List Bx} (h : m.map (·.b) = l.map (·.b)) (hS : Sizeds l) : Sizeds m := fun x hx => by
  have h1 : x.b ∈ l.map (·.b) := by rw [← h]; exact List.mem_map_of_mem hx
  obtain ⟨y, hy, e⟩ := List.mem_map.1 h1
  rw [← e]
  exact hS y hy

/-- Both functions at a copy of a world. -/
theorem specWorldOk_copy (l m : List Bx) (g : Nat) (B : Bk) (x1 x2 x3 : Nat) (w : World) (hl : l.length ≤ 1048576) (hm : Hid (m.map (·.b) = l.map (·.b))) (hZ : Sizeds l) (hS : Smalls l) (hBZ : B.sized) (hT : B.small) (hW : WAt w (some ⟨g, 0, none⟩) m (some ⟨x1, 0, none⟩) (some ⟨x2, 0, none⟩) (some ⟨x3, 0, none⟩) B) :
    Calls Try.prog 18 #[.agg #[.slice (some ⟨g, 0, none⟩) l.length l.length, .int .i64 B.now, .slice (some ⟨x1, 0, none⟩) B.svcs.length B.svcs.length, .slice (some ⟨x2, 0, none⟩) B.cps.length B.cps.length, .slice (some ⟨x3, 0, none⟩) B.bts.length B.bts.length]] w fun e w' => e = .returned (.bool (worldB (l.map (·.b)) B)) ∧ Below w.heap.size w w' := by
  have hn := maps_len hm.out
  have := specWorldOk_any m (some ⟨g, 0, none⟩) l.length B (some ⟨x1, 0, none⟩) (some ⟨x2, 0, none⟩) (some ⟨x3, 0, none⟩) B.svcs.length B.cps.length B.bts.length w (by omega) (sizeds_of hm.out hZ) (smalls_of hm.out hS) hBZ hT hW
  rw [hn, hm.out] at this
  exact this
theorem implWorldOk_copy (l m : List Bx) (g : Nat) (B : Bk) (x1 x2 x3 : Nat) (w : World) (hl : l.length ≤ 1048576) (hm : Hid (m.map (·.b) = l.map (·.b))) (hZ : Sizeds l) (hS : Smalls l) (hBZ : B.sized) (hT : B.small) (hW : WAt w (some ⟨g, 0, none⟩) m (some ⟨x1, 0, none⟩) (some ⟨x2, 0, none⟩) (some ⟨x3, 0, none⟩) B) :
    Calls Try.prog 20 #[.agg #[.slice (some ⟨g, 0, none⟩) l.length l.length, .int .i64 B.now, .slice (some ⟨x1, 0, none⟩) B.svcs.length B.svcs.length, .slice (some ⟨x2, 0, none⟩) B.cps.length B.cps.length, .slice (some ⟨x3, 0, none⟩) B.bts.length B.bts.length]] w fun e w' => e = .returned (.bool (worldB (l.map (·.b)) B)) ∧ Below w.heap.size w w' := by
  have hn := maps_len hm.out
  have := implWorldOk_any m (some ⟨g, 0, none⟩) l.length B (some ⟨x1, 0, none⟩) (some ⟨x2, 0, none⟩) (some ⟨x3, 0, none⟩) B.svcs.length B.cps.length B.bts.length w (by omega) (sizeds_of hm.out hZ) (smalls_of hm.out hS) hBZ hT hW
  rw [hn, hm.out] at this
  exact this

set_option maxRecDepth 100000 in
set_option maxHeartbeats 8000000 in
theorem lawWorldOk_any (l : List Bx) (ap : Option Addr) (cp : Nat) (B : Bk) (a1 a2 a3 : Option Addr) (c1 c2 c3 : Nat) (w : World) (hl : l.length ≤ maxLen) (hZ : Sizeds l) (hBZ : B.sized) (hW : WAt w ap l a1 a2 a3 B) :
    Calls Try.prog 5 #[.agg #[.slice ap l.length cp, .int .i64 B.now, .slice a1 B.svcs.length c1, .slice a2 B.cps.length c2, .slice a3 B.bts.length c3]] w fun e w' => e = .returned (.bool true) ∧ Below w.heap.size w w' := by
  have HW : Hid (WAt w ap l a1 a2 a3 B) := hW
  have HZ : Hid (Sizeds l) := hZ
  have HBZ : Hid B.sized := hBZ
  clear hW hZ hBZ
  have hb0 := below_box w (.cells #[.slice ap l.length cp, .int .i64 B.now, .slice a1 B.svcs.length c1, .slice a2 B.cps.length c2, .slice a3 B.bts.length c3] 44)
  have T0 : Hid _ := heap_alloc_new w (.cells #[.slice ap l.length cp, .int .i64 B.now, .slice a1 B.svcs.length c1, .slice a2 B.cps.length c2, .slice a3 B.bts.length c3] 44)
  have HS0 : Hid ((w.alloc (.cells #[.slice ap l.length cp, .int .i64 B.now, .slice a1 B.svcs.length c1, .slice a2 B.cps.length c2, .slice a3 B.bts.length c3] 44)).heap.size = w.heap.size + 1) := by show (w.heap.push _).size = _; simp
  go_enter Try.func5, Try.ntmps5
  go_wp2_with fail
  refine (szWorld_any l ap cp B a1 a2 a3 c1 c2 c3 1048576 _ (by omega) (by omega) hl HZ.out (HW.out.row.below hb0) (HW.out.ins.below hb0) (HW.out.book.below hb0) HBZ.out).mono ?_
  rintro e w1 ⟨r, rfl, hr0, hr1, hsm, hb1⟩
  have hbb1 := hb0.trans (hb1.mono hb0.size)
  have T1 : Hid _ := below_blk hb1 T0.out (by rw [HS0.out]; omega)
  have hz1 : w.heap.size < w1.heap.size := by have := hb1.size; rw [HS0.out] at this; omega
  have W1 : Hid (WAt w1 ap l a1 a2 a3 B) := HW.out.below hbb1
  clear hb1 hb0 T0 HS0 HW
  by_cases hneg : r < 0
  · go_wp2
    go_ret
    exact ⟨rfl, hbb1⟩
  have HSM : Hid (l.length ≤ 1048576 ∧ Smalls l ∧ B.small) := hsm.out (by omega)
  clear hsm
  have e0 := blk_cell T1.out 0 rfl
  have e1 := blk_cell T1.out 1 rfl
  have e2 := blk_cell T1.out 2 rfl
  have e3 := blk_cell T1.out 3 rfl
  have e4 := blk_cell T1.out 4 rfl
  go_wp2_with fail
  clear e0 e1 e2 e3 e4 hneg hr0 hr1
  refine (toWorld_any l ap cp B a1 a2 a3 c1 c2 c3 _ HSM.out.1 HSM.out.2.1 HSM.out.2.2 W1.out).mono ?_
  rintro e w2 ⟨g, x1, x2, x3, M, rfl, HM, hX, hb2⟩
  go_wp2_with fail
  refine (specWorldOk_copy l M g B x1 x2 x3 _ HSM.out.1 HM HZ.out HSM.out.2.1 HBZ.out HSM.out.2.2 hX).mono ?_
  rintro e w3 ⟨he, hb3⟩
  subst he
  have hbb3 := hb2.trans (hb3.mono hb2.size)
  have T3 : Hid _ := below_blk hbb3 T1.out hz1
  have W3 : Hid (WAt w3 ap l a1 a2 a3 B) := W1.out.below hbb3
  have hbw3 := hbb1.trans (hbb3.mono hbb1.size)
  have hz3 : w.heap.size < w3.heap.size := Nat.lt_of_lt_of_le hz1 hbb3.size
  clear hX hb2 hb3 hbb3 T1 hbb1 W1 hz1 HM
  generalize hvw : worldB (l.map (·.b)) B = v
  have HVW : Hid (worldB (l.map (·.b)) B = v) := hvw
  clear hvw
  have e0 := blk_cell T3.out 0 rfl
  have e1 := blk_cell T3.out 1 rfl
  have e2 := blk_cell T3.out 2 rfl
  have e3 := blk_cell T3.out 3 rfl
  have e4 := blk_cell T3.out 4 rfl
  go_wp2_with fail
  clear e0 e1 e2 e3 e4
  refine (toWorld_any l ap cp B a1 a2 a3 c1 c2 c3 _ HSM.out.1 HSM.out.2.1 HSM.out.2.2 W3.out).mono ?_
  rintro e w4 ⟨g, x1, x2, x3, M, rfl, HM, hY, hb4⟩
  have HY : Hid (WAt w4 (some ⟨g, 0, none⟩) M (some ⟨x1, 0, none⟩) (some ⟨x2, 0, none⟩) (some ⟨x3, 0, none⟩) B) := hY
  have hbw4 := hbw3.trans (hb4.mono hbw3.size)
  have T4 : Hid _ := below_blk hb4 T3.out hz3
  have hz4 : w.heap.size < w4.heap.size := Nat.lt_of_lt_of_le hz3 hb4.size
  have W4 : Hid (WAt w4 ap l a1 a2 a3 B) := W3.out.below hb4
  clear hb4 hbw3 T3 hz3 W3 hY
  have hb5 := below_box w4 (.cells #[.slice (some ⟨g, 0, none⟩) l.length l.length, .int .i64 B.now, .slice (some ⟨x1, 0, none⟩) B.svcs.length B.svcs.length, .slice (some ⟨x2, 0, none⟩) B.cps.length B.cps.length, .slice (some ⟨x3, 0, none⟩) B.bts.length B.bts.length] 49)
  have U5 : Hid _ := heap_alloc_new w4 (.cells #[.slice (some ⟨g, 0, none⟩) l.length l.length, .int .i64 B.now, .slice (some ⟨x1, 0, none⟩) B.svcs.length B.svcs.length, .slice (some ⟨x2, 0, none⟩) B.cps.length B.cps.length, .slice (some ⟨x3, 0, none⟩) B.bts.length B.bts.length] 49)
  have HS5 : Hid ((w4.alloc (.cells #[.slice (some ⟨g, 0, none⟩) l.length l.length, .int .i64 B.now, .slice (some ⟨x1, 0, none⟩) B.svcs.length B.svcs.length, .slice (some ⟨x2, 0, none⟩) B.cps.length B.cps.length, .slice (some ⟨x3, 0, none⟩) B.bts.length B.bts.length] 49)).heap.size = w4.heap.size + 1) := by show (w4.heap.push _).size = _; simp
  go_wp2_with fail
  refine (implWorldOk_copy l M g B x1 x2 x3 _ HSM.out.1 HM HZ.out HSM.out.2.1 HBZ.out HSM.out.2.2 (HY.out.below hb5)).mono ?_
  rintro e w6 ⟨he, hb6⟩
  subst he
  rw [HVW.out]
  have hbb6 := hb5.trans (hb6.mono hb5.size)
  have hbw6 := hbw4.trans (hbb6.mono hbw4.size)
  have T6 : Hid _ := below_blk hbb6 T4.out hz4
  have U6 : Hid _ := below_blk hb6 U5.out (by rw [HS5.out]; omega)
  have hzM : w4.heap.size < w6.heap.size := by have := hb6.size; rw [HS5.out] at this; omega
  have hzN : w.heap.size < w6.heap.size := by omega
  have W6 : Hid (WAt w6.drew ap l a1 a2 a3 B) := (W4.out.below hbb6).drew
  have Y6 : Hid (WAt w6.drew (some ⟨g, 0, none⟩) M (some ⟨x1, 0, none⟩) (some ⟨x2, 0, none⟩) (some ⟨x3, 0, none⟩) B) := (HY.out.below hbb6).drew
  clear hb5 hb6 hbb6 hbw4 T4 U5 HS5 W4 HY
  have e0 := blk_cell T6.out 0 rfl
  have e1 := blk_cell T6.out 1 rfl
  have e2 := blk_cell T6.out 2 rfl
  have e3 := blk_cell T6.out 3 rfl
  have e4 := blk_cell T6.out 4 rfl
  have u0 := blk_cell U6.out 0 rfl
  have u1 := blk_cell U6.out 1 rfl
  have u2 := blk_cell U6.out 2 rfl
  have u3 := blk_cell U6.out 3 rfl
  have u4 := blk_cell U6.out 4 rfl
  have hvv : (v != v) = false := by simp
  go_wp2
  go_region_with (first
    | (go_at_call 19; refine (toWorld_any l ap cp B a1 a2 a3 c1 c2 c3 _ HSM.out.1 HSM.out.2.1 HSM.out.2.2 W6.out).mono ?_; rintro e w7 ⟨g7, y1, y2, y3, M7, rfl, HM7, hX7, hb7⟩; have hc7 : ∀ o, w7.cell? ⟨w4.heap.size, o, none⟩ = w6.cell? ⟨w4.heap.size, o, none⟩ := fun o => hb7.cell (p := ⟨w4.heap.size, o, none⟩) hzM; have Y7 : Hid (WAt w7 (some ⟨g, 0, none⟩) M (some ⟨x1, 0, none⟩) (some ⟨x2, 0, none⟩) (some ⟨x3, 0, none⟩) B) := Y6.out.below hb7; have X7 : Hid (WAt w7 (some ⟨g7, 0, none⟩) M7 (some ⟨y1, 0, none⟩) (some ⟨y2, 0, none⟩) (some ⟨y3, 0, none⟩) B) := hX7; clear hX7)
    | (go_at_call 21; refine (eqWorld_same M M7 l.length (maps_len HM.out) (some ⟨g, 0, none⟩) (some ⟨g7, 0, none⟩) _ _ B (some ⟨x1, 0, none⟩) (some ⟨x2, 0, none⟩) (some ⟨x3, 0, none⟩) (some ⟨y1, 0, none⟩) (some ⟨y2, 0, none⟩) (some ⟨y3, 0, none⟩) _ _ _ _ _ _ _ HSM.out.1 (smalls_of HM.out HSM.out.2.1) HSM.out.2.2 (HM7.out.trans HM.out.symm) Y7.out X7.out).mono ?_; rintro e w8 ⟨rfl, hb8⟩))
  all_goals
    go_wp2
    go_ret
    exact ⟨rfl, (hbw6.drew.trans (hb7.mono hbw6.size)).trans (hb8.mono (Nat.le_trans hbw6.size hb7.size))⟩

end Go.Proofs.Ytbceafpodamnfab

/-
  My own. A world that came in, opened.
-/
namespace Go.Proofs.Ytbceafpodamnfab
open Go.ChangeShapes Go.WideShapes Go.ChangeAt Go.RowKit Go.Deep

section
variable {H : Type} {enc : TypeId × Value → H} {w : World} {spare : Nat → Bool} {held : Bool}

set_option maxRecDepth 100000 in
theorem cellsSvcS : Try.prog.cellsOf 22 = 1 := by kernel_rfl
set_option maxRecDepth 100000 in
theorem cellsCpS : Try.prog.cellsOf 23 = 1 := by kernel_rfl
set_option maxRecDepth 100000 in
theorem cellsBtS : Try.prog.cellsOf 24 = 1 := by kernel_rfl
set_option maxRecDepth 100000 in
theorem cellsBkS : Try.prog.cellsOf 42 = 1 := by kernel_rfl
set_option maxRecDepth 100000 in
theorem cellsBk : Try.prog.cellsOf 26 = 4 := by kernel_rfl
set_option maxRecDepth 100000 in
theorem cellsWd : Try.prog.cellsOf 44 = 5 := by kernel_rfl

set_option maxRecDepth 100000 in
theorem open_Bx {n : Nat} {cs : List Value} {x : DataW H × List MemPlace} (h : DataW.trod enc Try.prog w 0 spare held n 26 cs = some x) : ∃ s : Bx, cs = Bx.cells s ∧ BkAt w s.a1 s.a2 s.a3 s.b ∧ s.b.sized := by
  obtain ⟨xs, m, rfl, _, hlen, hxs, hf⟩ := DataW.trod_struct Try.underlying26 h
  rw [cellsBk] at hlen
  have hx : xs.length = 4 := hxs
  match cs, hlen with
  | [c0, c1, c2, c3], _ =>
    have h0 : DataW.trod enc Try.prog w 0 spare held m 3 (List.take (Try.prog.cellsOf 3) (List.drop 0 [c0, c1, c2, c3])) = xs[0]? := hf 0 _ rfl
    rw [List.getElem?_eq_getElem (show 0 < xs.length by omega)] at h0
    simp only [List.drop_zero, List.drop_succ_cons, List.take_succ_cons, List.take_zero, intCells] at h0
    obtain ⟨v0, e0, _, _⟩ := DataW.trod_int Try.underlying3 h0
    have h1 : DataW.trod enc Try.prog w 0 spare held m 22 (List.take (Try.prog.cellsOf 22) (List.drop 1 [c0, c1, c2, c3])) = xs[1]? := hf 1 _ rfl
    rw [List.getElem?_eq_getElem (show 1 < xs.length by omega)] at h1
    simp only [List.drop_zero, List.drop_succ_cons, List.take_succ_cons, List.take_zero, cellsSvcS] at h1
    obtain ⟨a1, l1, k1, e1, m1, s1, z1⟩ := open_Svcs h1
    have h2 : DataW.trod enc Try.prog w 0 spare held m 23 (List.take (Try.prog.cellsOf 23) (List.drop 2 [c0, c1, c2, c3])) = xs[2]? := hf 2 _ rfl
    rw [List.getElem?_eq_getElem (show 2 < xs.length by omega)] at h2
    simp only [List.drop_zero, List.drop_succ_cons, List.take_succ_cons, List.take_zero, cellsCpS] at h2
    obtain ⟨a2, l2, k2, e2, m2, s2, z2⟩ := open_Cps h2
    have h3 : DataW.trod enc Try.prog w 0 spare held m 24 (List.take (Try.prog.cellsOf 24) (List.drop 3 [c0, c1, c2, c3])) = xs[3]? := hf 3 _ rfl
    rw [List.getElem?_eq_getElem (show 3 < xs.length by omega)] at h3
    simp only [List.drop_zero, List.drop_succ_cons, List.take_succ_cons, List.take_zero, cellsBtS] at h3
    obtain ⟨a3, l3, k3, e3, m3, s3, z3⟩ := open_Bts h3
    simp only [List.cons.injEq, and_true] at e0
    subst e0 e1 e2 e3
    exact ⟨⟨⟨v0, l1, l2, l3⟩, a1, a2, a3, k1, k2, k3⟩, rfl, ⟨s1, s2, s3⟩, m1, m2, m3, z1, z2, z3⟩

set_option maxRecDepth 100000 in
theorem open_Bxs {n : Nat} {v : Value} {x : DataW H × List MemPlace} (h : DataW.trod enc Try.prog w 0 spare held n 42 [v] = some x) : ∃ (ao : Option Addr) (l : List Bx) (cap : Nat), v = .slice ao l.length cap ∧ l.length ≤ maxLen ∧ SlX w ao l ∧ ∀ s ∈ l, BkAt w s.a1 s.a2 s.a3 s.b ∧ s.b.sized := by
  rcases open_slice Try.underlying42 h with ⟨hcs, _⟩ | ⟨a, len, cap, m, k, D, Pl, hcs, _, hlc, hcm, hm, _, hx⟩
  · simp only [List.cons.injEq, and_true] at hcs
    exact ⟨none, [], 0, hcs, Nat.zero_le _, fun h => absurd rfl h, fun s hs => by cases hs⟩
  · simp only [List.cons.injEq, and_true] at hcs
    subst hcs
    have hle : len ≤ m := by rw [hm]; split <;> omega
    have hel : ∀ i, i < len → ∃ s : Bx, w.cells? 0 (a.add (i * 4)) 4 = some (Bx.cells s) ∧ BkAt w s.a1 s.a2 s.a3 s.b ∧ s.b.sized := fun i hi => by
      obtain ⟨cs', h1, h2⟩ := hx i (by omega)
      obtain ⟨s, rfl, hs⟩ := open_Bx h2
      rw [cellsBk] at h1
      exact ⟨s, h1, hs⟩
    obtain ⟨f, hf⟩ : ∃ f : Nat → Bx, ∀ i, i < len → w.cells? 0 (a.add (i * 4)) 4 = some (Bx.cells (f i)) ∧ BkAt w (f i).a1 (f i).a2 (f i).a3 (f i).b ∧ (f i).b.sized := by
      haveI : Inhabited Bx := ⟨⟨⟨0, [], [], []⟩, none, none, none, 0, 0, 0⟩⟩
      exact choose_lt hel
    have hlen : ((List.range len).map f).length = len := by simp
    refine ⟨some a, (List.range len).map f, cap, by rw [hlen], by rw [hlen]; omega, fun hne => ?_, fun s hs => ?_⟩
    · have hpos : 0 < len := by
        rcases Nat.eq_zero_or_pos len with h0 | h0
        · subst h0; exact absurd rfl hne
        · exact h0
      obtain ⟨b, off, sp⟩ := a
      have hc0 := (World.cells?_some (hf 0 hpos).1).2.2 0 (by omega)
      have hsp : sp = none := by
        have e : ((⟨b, off, sp⟩ : Addr).add (0 * 4)).add 0 = ⟨b, off, sp⟩ := by simp [Addr.add]
        rw [e] at hc0
        exact World.cell?_spot hc0
      subst hsp
      have hcell : ∀ i, i < len → ∀ j, j < 4 → w.cell? ⟨b, off + i * 4 + j, none⟩ = (Bx.cells (f i))[j]? := fun i hi j hj => by
        have := (World.cells?_some (hf i hi).1).2.2 j hj
        rw [← this]
        congr 1
        unfold Addr.add
        by_cases h1 : i * 4 = 0 <;> by_cases h2 : j = 0 <;> simp [h1, h2]
      refine ⟨b, off, rfl, ?_, fun i s hs => ?_⟩
      · have := hcell 0 hpos 0 (by omega)
        exact World.block_lt_of_cell? _ _ this
      · have hi : i < len := by
          have := (List.getElem?_eq_some_iff.1 hs).1
          rw [hlen] at this; exact this
        have e : f i = s := by simpa [hi] using hs
        subst e
        unfold BxAt
        exact ⟨hcell i hi 0 (by omega), hcell i hi 1 (by omega), hcell i hi 2 (by omega), hcell i hi 3 (by omega)⟩
    · obtain ⟨i, hi, rfl⟩ := List.mem_map.1 hs
      exact (hf i (List.mem_range.1 hi)).2

set_option maxRecDepth 100000 in
theorem open_WorldC {n : Nat} {cs : List Value} {x : DataW H × List MemPlace} (h : DataW.trod enc Try.prog w 0 spare held n 44 cs = some x) :
    ∃ (l : List Bx) (ap : Option Addr) (cp : Nat) (s : Bx), cs.toArray = #[.slice ap l.length cp, .int .i64 s.b.now, .slice s.a1 s.b.svcs.length s.c1, .slice s.a2 s.b.cps.length s.c2, .slice s.a3 s.b.bts.length s.c3] ∧ l.length ≤ maxLen ∧ Sizeds l ∧ s.b.sized ∧ WAt w ap l s.a1 s.a2 s.a3 s.b := by
  obtain ⟨xs, m, rfl, _, hlen, hxs, hf⟩ := DataW.trod_struct Try.underlying44 h
  rw [cellsWd] at hlen
  have hx : xs.length = 2 := hxs
  match cs, hlen with
  | [c0, c1, c2, c3, c4], _ =>
    have h0 : DataW.trod enc Try.prog w 0 spare held m 42 (List.take (Try.prog.cellsOf 42) (List.drop 0 [c0, c1, c2, c3, c4])) = xs[0]? := hf 0 _ rfl
    rw [List.getElem?_eq_getElem (show 0 < xs.length by omega)] at h0
    simp only [List.drop_zero, List.drop_succ_cons, List.take_succ_cons, List.take_zero, cellsBkS] at h0
    obtain ⟨ap, l, cp, e0, ml, sl, zl⟩ := open_Bxs h0
    have h1 : DataW.trod enc Try.prog w 0 spare held m 26 (List.take (Try.prog.cellsOf 26) (List.drop 1 [c0, c1, c2, c3, c4])) = xs[1]? := hf 1 _ rfl
    rw [List.getElem?_eq_getElem (show 1 < xs.length by omega)] at h1
    simp only [List.drop_zero, List.drop_succ_cons, List.take_succ_cons, List.take_zero, cellsBk] at h1
    obtain ⟨s, e1, hB, hZ⟩ := open_Bx h1
    simp only [Bx.cells, List.cons.injEq, and_true] at e1
    obtain ⟨rfl, rfl, rfl, rfl⟩ := e1
    subst e0
    exact ⟨l, ap, cp, s, rfl, ml, fun x hx => (zl x hx).2, hZ, ⟨sl, fun x hx => (zl x hx).1, hB⟩⟩

set_option maxRecDepth 100000 in
theorem open_World {r : Reach} {b0 : Nat} {v : Value} {d : DataW H} {p : List MemPlace} (hv : Value.okWide Try.prog w r b0 44 v) (h : DataW.Trod enc Try.prog w 0 spare held 44 v d p) :
    ∃ (l : List Bx) (ap : Option Addr) (cp : Nat) (s : Bx), v = .agg #[.slice ap l.length cp, .int .i64 s.b.now, .slice s.a1 s.b.svcs.length s.c1, .slice s.a2 s.b.cps.length s.c2, .slice s.a3 s.b.bts.length s.c3] ∧ l.length ≤ maxLen ∧ Sizeds l ∧ s.b.sized ∧ WAt w ap l s.a1 s.a2 s.a3 s.b := by
  obtain ⟨cs, rfl, _⟩ := okWide_struct Try.underlying44 hv
  obtain ⟨fuel, hf⟩ := h
  obtain ⟨l, ap, cp, s, e, h1⟩ := open_WorldC hf
  refine ⟨l, ap, cp, s, ?_, h1⟩
  rw [← e]
  simp [Value.cells]
end

end Go.Proofs.Ytbceafpodamnfab
