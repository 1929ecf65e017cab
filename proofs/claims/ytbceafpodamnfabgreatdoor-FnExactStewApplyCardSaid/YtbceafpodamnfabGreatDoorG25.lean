/-
  My own: Oc.
-/
import Derived.Test.YtbceafpodamnfabGreatDoorG10
import Derived.Test.YtbceafpodamnfabGreatDoorG01
set_option linter.unusedVariables false
set_option linter.unusedSimpArgs false
namespace Go.Proofs.YtbceafpodamnfabGreatDoor
open Go.RowKit
def noWay (c : Int) : List PanicEntry := [{ v := .iface 218 (.agg #[.iface 170 (.agg #[.int .i64 c])]), recovered := false }]
theorem insist_yes (c : Int) (w : World) : Calls Tryz.prog 167 #[.bool true, .int .i64 c] w fun e w' => e = .returned (.tuple #[]) ∧ w = w' := by
 go_enter Tryz.func167, Tryz.ntmps167
 go_wp2
 go_end0
 exact ⟨rfl, rfl⟩
theorem insist_no (c : Int) (w : World) : Calls Tryz.prog 167 #[.bool false, .int .i64 c] w fun e w' => e = .panicked (noWay c) ∧ w = w' := by
 go_enter Tryz.func167, Tryz.ntmps167
 go_wp2
 exact ⟨rfl, rfl, rfl⟩
set_option maxRecDepth 100000 in
set_option maxHeartbeats 4000000 in
theorem endsAscend_any (l : List En) (ae : Option Addr) (ce : Nat) (w : World) (hl : l.length ≤ 1048576) (hE : SlE w ae l) :
  Calls Tryz.prog 221 #[.slice ae l.length ce] w fun e w' => e = .returned (.bool (ascE l)) ∧ Below w.heap.size w w' := by
 go_enter Tryz.func221, Tryz.ntmps221
 go_wp2
 go_loopw [3] (fun iv wr => ∃ k : Nat, 1 ≤ k ∧ (k = 1 ∨ k ≤ l.length) ∧ iv = .int .i64 k ∧ Below w.heap.size w wr ∧ Hid (∀ i x y, i + 1 < k → l[i]? = some x → l[i + 1]? = some y → x.number < y.number)) (fun iv _ => l.length - (intOf iv).toNat)
 case atStart => exact ⟨1, by omega, .inl rfl, rfl, Below.refl _ _, fun i x y h => absurd h (by omega)⟩
 case round =>
  obtain ⟨k, hk1, hk2, rfl, hb, hall⟩ := hrel
  by_cases hlt : k < l.length
  ·obtain ⟨m, HM⟩ : ∃ m, Hid (k = m + 1) := ⟨k - 1, by unfold Hid; omega⟩
   have hmlt : m < l.length := by have := HM.out; omega
   have hne : l ≠ [] := by intro h; rw [h] at hlt; simp at hlt
   obtain ⟨b, off, ea, hbs, hat⟩ := hE hne
   subst ea
   obtain ⟨x, hx⟩ : ∃ x, l[m]? = some x := ⟨l[m], by simp [hmlt]⟩
   obtain ⟨y, hy⟩ : ∃ y, l[k]? = some y := ⟨l[k], by simp [hlt]⟩
   have hxx := hat m x hx
   have hyy := hat k y hy
   have HX : Hid _ := hx
   have HY : Hid (l[m + 1]? = some y) := by unfold Hid; rw [← HM.out]; exact hy
   clear hx hy hat hne
   go_wp2
   refine wp_region_grows 11 (by kernel_rfl) (by kernel_rfl) ?_
   apply grow_eq
   ·intro V W K A hW hd hA hK
    simp only [putAll, pz1, pz2, pz3, pz4, Act.put, pz5, pz6, pz7] at hA
    clear hd
    obtain rfl := hA
    go_wp2
    exact hK.out _ brf
   apply grow_eq
   ·intro V W K A hW hd hA hK
    simp only [putAll, pz1, pz2, pz3, pz4, Act.put, pz5, pz6, pz7] at hA
    clear hd
    obtain rfl := hA
    go_wp2
    exact hK.out _ brf
   apply grow_eq
   ·intro V W K A hW hd hA hK
    have d0 : V 0 = _ := hd 0 (by kernel_rfl)
    have d1 : V 1 = _ := hd 1 (by kernel_rfl)
    simp only [putAll, pz1, pz2, pz3, pz4, Act.put, pz5, pz6, pz7, d0, d1] at hA
    clear hd d0 d1
    obtain rfl := hA
    go_wp2
    exact hK.out _ brf
   apply grow_eq
   ·intro V W K A hW hd hA hK
    have d2 : V 2 = _ := hd 2 (by kernel_rfl)
    simp only [putAll, pz1, pz2, pz3, pz4, Act.put, pz5, pz6, pz7, d2] at hA
    clear hd d2
    obtain rfl := hA
    go_wp2
    exact hK.out _ brf
   apply grow_eq
   ·intro V W K A hW hd hA hK
    have d3 : V 3 = _ := hd 3 (by kernel_rfl)
    simp only [putAll, pz1, pz2, pz3, pz4, Act.put, pz5, pz6, pz7, d3] at hA
    clear hd d3
    obtain rfl := hA
    have hq := hyy.below (hb.trans (hW.mono hb.size)) hbs
    unfold EnAt at hq
    obtain ⟨q0, q1⟩ := hq
    go_wp2
    exact hK.out _ brf
   apply grow_eq
   ·intro V W K A hW hd hA hK
    simp only [putAll, pz1, pz2, pz3, pz4, Act.put, pz5, pz6, pz7] at hA
    clear hd
    obtain rfl := hA
    go_wp2
    exact hK.out _ brf
   apply grow_eq
   ·intro V W K A hW hd hA hK
    simp only [putAll, pz1, pz2, pz3, pz4, Act.put, pz5, pz6, pz7] at hA
    clear hd
    obtain rfl := hA
    go_wp2
    exact hK.out _ brf
   refine grow_op (fun v W => v = .int .i64 (m : Int)) (fun _ _ _ h _ => h) ?_ ?_
   ·intro V W K A hW hd hA hK
    have d6 : V 6 = _ := hd 6 (by kernel_rfl)
    simp only [putAll, pz1, pz2, pz3, pz4, Act.put, pz5, pz6, pz7, d6] at hA
    clear hd d6
    obtain rfl := hA
    go_wp2
    exact hK.out _ _ brf (by have hm := HM.out; subst hm; go_num)
   apply grow_eq
   ·intro V W K A hW hd hA hK
    have d5 : V 5 = _ := hd 5 (by kernel_rfl)
    have d7 : (fun v W => v = .int .i64 (m : Int)) (V 7) W := hd 7 (by kernel_rfl)
    simp only [putAll, pz1, pz2, pz3, pz4, Act.put, pz5, pz6, pz7, d5] at hA
    clear hd d5
    generalize V 7 = x7 at d7 hA
    obtain rfl := hA
    obtain rfl := d7
    go_wp2
    exact hK.out _ brf
   apply grow_eq
   ·intro V W K A hW hd hA hK
    have d8 : V 8 = _ := hd 8 (by kernel_rfl)
    simp only [putAll, pz1, pz2, pz3, pz4, Act.put, pz5, pz6, pz7, d8] at hA
    clear hd d8
    obtain rfl := hA
    go_wp2
    exact hK.out _ brf
   apply grow_eq
   ·intro V W K A hW hd hA hK
    have d9 : V 9 = _ := hd 9 (by kernel_rfl)
    simp only [putAll, pz1, pz2, pz3, pz4, Act.put, pz5, pz6, pz7, d9] at hA
    clear hd d9
    obtain rfl := hA
    have hq := hxx.below (hb.trans (hW.mono hb.size)) hbs
    unfold EnAt at hq
    obtain ⟨q0, q1⟩ := hq
    go_wp2
    exact hK.out _ brf
   intro V W A hW hS hA
   have d0 : V 0 = _ := hS 0 (by omega)
   have d1 : V 1 = _ := hS 1 (by omega)
   have d2 : V 2 = _ := hS 2 (by omega)
   have d3 : V 3 = _ := hS 3 (by omega)
   have d4 : V 4 = _ := hS 4 (by omega)
   have d5 : V 5 = _ := hS 5 (by omega)
   have d6 : V 6 = _ := hS 6 (by omega)
   have d7 : (fun v W => v = .int .i64 (m : Int)) (V 7) W := hS 7 (by omega)
   have d8 : V 8 = _ := hS 8 (by omega)
   have d9 : V 9 = _ := hS 9 (by omega)
   have d10 : V 10 = _ := hS 10 (by omega)
   simp only [putAll, pz1, pz2, pz3, pz4, Act.put, pz5, pz6, pz7, d0, d1, d2, d3, d4, d5, d6, d8, d9, d10] at hA
   clear hS d0 d1 d2 d3 d4 d5 d6 d8 d9 d10
   generalize V 7 = x7 at d7 hA
   obtain rfl := hA
   simp only [List.drop_succ_cons, List.drop_zero]
   obtain rfl := d7
   by_cases hlt2 : x.number < y.number
   ·have hle2 : ¬ y.number ≤ x.number := by omega
    have HL2 : Hid _ := hlt2
    clear hlt2
    go_wp2
    go_roundw
    case rel => exact ⟨k + 1, by omega, .inr (by omega), by go_num, hb.trans (hW.mono hb.size), fun i a b hi ha hb' => by
     have hm := HM.out
     by_cases e : i = m
     ·subst e
      have h1 := HX.out
      have h2 := HY.out
      rw [ha] at h1
      rw [hb'] at h2
      obtain rfl := Option.some.inj h1
      obtain rfl := Option.some.inj h2
      exact HL2.out
     ·exact hall.out i a b (by omega) ha hb'⟩
    case measure => simp [intOf]; omega
   ·have HF : Hid (ascE l = false) := ascE_no HX.out HY.out hlt2
    have hle2 : y.number ≤ x.number := by omega
    go_wp2
    go_ret
    exact ⟨ret_bool HF.out.symm, hb.trans (hW.mono hb.size)⟩
  ·go_wp2
   go_ret
   refine ⟨ret_bool ((ascE_iff l).2 fun i x y hx hy => ?_).symm, hb⟩
   have hi : i + 1 < l.length := by
    rcases Nat.lt_or_ge (i + 1) l.length with h | h
    ·exact h
    ·rw [List.getElem?_eq_none h] at hy; cases hy
   exact hall.out i x y (by omega) hx hy
set_option maxRecDepth 100000 in
set_option maxHeartbeats 4000000 in
theorem scaleHolds_any (A : Ac) (ae : Option Addr) (ce : Nat) (w : World) :
  Calls Tryz.prog 222 #[.agg #[.string A.service, .int .i64 A.seen, .int .i64 A.create, .int .i64 A.want, .int .i64 A.cool, .bool A.scale, .slice ae A.ends.length ce, .bool A.drop]] w fun e w' => e = .returned (.bool (if A.scale then inB A.want 0 10 && inB A.cool 0 3 else A.want == 0 && A.cool == 0)) ∧ Below w.heap.size w w' := by
 have hb0 := below_box w (.cells #[.string A.service, .int .i64 A.seen, .int .i64 A.create, .int .i64 A.want, .int .i64 A.cool, .bool A.scale, .slice ae A.ends.length ce, .bool A.drop] 42)
 go_enter Tryz.func222, Tryz.ntmps222
 rcases Bool.eq_false_or_eq_true A.scale with hs | hs
 ·cases hw : inB A.want 0 10
  ·go_wp2_with (go_at_call 154; refine (within_any _ _ _ _).mono ?_; rintro e w' ⟨rfl, rfl⟩)
   go_ret
   exact ⟨by simp, below_box w _⟩
  ·go_wp2_with (go_at_call 154; refine (within_any _ _ _ _).mono ?_; rintro e w' ⟨rfl, rfl⟩)
   go_ret
   exact ⟨by simp, below_box w _⟩
 ·obtain ⟨wz, HWZ⟩ : ∃ b : Bool, Hid ((A.want == 0) = b) := ⟨_, rfl⟩
  obtain ⟨cz, HCZ⟩ : ∃ b : Bool, Hid ((A.cool == 0) = b) := ⟨_, rfl⟩
  have HSC : Hid _ := hs
  cases wz
  ·have h1 : A.want ≠ 0 := by have := HWZ.out; simpa using this
   go_wp2
   all_goals
    go_ret
    exact ⟨(by first | (simp [HWZ.out, HCZ.out]; done) | (simp [*]; done)), below_box w _⟩
  ·have h1 : A.want = 0 := by have := HWZ.out; simpa using this
   cases cz
   ·have h2 : A.cool ≠ 0 := by have := HCZ.out; simpa using this
    go_wp2
    all_goals
     go_ret
     exact ⟨(by first | (simp [HWZ.out, HCZ.out]; done) | (simp [*]; done)), below_box w _⟩
   ·have h2 : A.cool = 0 := by have := HCZ.out; simpa using this
    go_wp2
    all_goals
     go_ret
     exact ⟨(by first | (simp [HWZ.out, HCZ.out]; done) | (simp [*]; done)), below_box w _⟩
set_option maxRecDepth 100000 in
set_option maxHeartbeats 4000000 in
theorem shapeHolds_any (A : Ac) (ae : Option Addr) (ce : Nat) (w : World) (hl : A.ends.length ≤ 1048576) (hE : SlE w ae A.ends) :
  Calls Tryz.prog 168 #[.agg #[.string A.service, .int .i64 A.seen, .int .i64 A.create, .int .i64 A.want, .int .i64 A.cool, .bool A.scale, .slice ae A.ends.length ce, .bool A.drop]] w fun e w' => e = .returned (.bool (actOkB A)) ∧ Below w.heap.size w w' := by
 have T0 : Hid _ := heap_alloc_new w (.cells #[.string A.service, .int .i64 A.seen, .int .i64 A.create, .int .i64 A.want, .int .i64 A.cool, .bool A.scale, .slice ae A.ends.length ce, .bool A.drop] 42)
 have hb0 := below_box w (.cells #[.string A.service, .int .i64 A.seen, .int .i64 A.create, .int .i64 A.want, .int .i64 A.cool, .bool A.scale, .slice ae A.ends.length ce, .bool A.drop] 42)
 have HO : Hid (actOkB A = (inB A.create 0 20 && decide (A.ends.length ≤ 200) && ascE A.ends && (if A.scale then inB A.want 0 10 && inB A.cool 0 3 else A.want == 0 && A.cool == 0) && (!A.drop || (A.create == 0 && !A.scale && A.ends.length == 0)))) := rfl
 obtain ⟨W0, hW0⟩ : ∃ W, w.alloc (.cells #[.string A.service, .int .i64 A.seen, .int .i64 A.create, .int .i64 A.want, .int .i64 A.cool, .bool A.scale, .slice ae A.ends.length ce, .bool A.drop] 42) = W := ⟨_, rfl⟩
 rw [hW0] at T0 hb0
 have hN0 : w.heap.size < W0.heap.size := (Array.getElem?_eq_some_iff.1 T0.out).1
 have e2 := blk_cell T0.out 2 rfl
 have e6 := blk_cell T0.out 6 rfl
 go_enter Tryz.func168, Tryz.ntmps168
 cases hc : inB A.create 0 20
 ·go_wp2_with (go_at_call 154; refine (within_any _ _ _ _).mono ?_; rintro e w' ⟨rfl, rfl⟩)
  go_ret
  exact ⟨ret_bool (by rw [HO.out]; simp [hc]), hb0⟩
 by_cases hle : A.ends.length ≤ 200
 rotate_left
 ·go_wp2_with (go_at_call 154; refine (within_any _ _ _ _).mono ?_; rintro e w' ⟨rfl, rfl⟩)
  go_ret
  exact ⟨ret_bool (by rw [HO.out]; simp [hle]), hb0⟩
 have HLE : Hid _ := hle
 have HO2 : Hid (actOkB A = (ascE A.ends && (if A.scale then inB A.want 0 10 && inB A.cool 0 3 else A.want == 0 && A.cool == 0) && (!A.drop || (A.create == 0 && !A.scale && A.ends.length == 0)))) := by unfold Hid; rw [HO.out, hc]; simp [hle]
 have HLZ : Hid (((A.ends.length : Int) == 0) = (A.ends.length == 0)) := by
  unfold Hid
  rw [Bool.eq_iff_iff, beq_iff_eq, beq_iff_eq]
  omega
 clear HO
 obtain ⟨asc, HA⟩ : ∃ b : Bool, Hid (ascE A.ends = b) := ⟨_, rfl⟩
 obtain ⟨sc, HSC⟩ : ∃ sc : Bool, Hid (sc = (if A.scale then inB A.want 0 10 && inB A.cool 0 3 else A.want == 0 && A.cool == 0)) := ⟨_, rfl⟩
 cases asc
 ·go_wp2_with (first | (go_at_call 154; refine (within_any _ _ _ _).mono ?_; rintro e w' ⟨rfl, rfl⟩) | (go_at_call 221; refine (endsAscend_any A.ends ae ce _ hl (hE.below hb0)).mono ?_; rintro e w1 ⟨rfl, hb1⟩; rw [HA.out]; have T1 : Hid _ := below_blk hb1 T0.out hN0; have hbb1 := hb0.trans (hb1.mono hb0.size); have hN1 : w.heap.size < w1.heap.size := Nat.lt_of_lt_of_le hN0 hb1.size; clear hb1 e2 e6; have e0 := blk_cell T1.out 0 rfl; have e1 := blk_cell T1.out 1 rfl; have e2 := blk_cell T1.out 2 rfl; have e3 := blk_cell T1.out 3 rfl; have e4 := blk_cell T1.out 4 rfl; have e5 := blk_cell T1.out 5 rfl; have e6 := blk_cell T1.out 6 rfl; have e7 := blk_cell T1.out 7 rfl))
  go_ret
  exact ⟨ret_bool (by rw [HO2.out, HA.out]; rfl), hbb1⟩
 cases sc
 ·go_wp2_with (first | (go_at_call 154; refine (within_any _ _ _ _).mono ?_; rintro e w' ⟨rfl, rfl⟩) | (go_at_call 221; refine (endsAscend_any A.ends ae ce _ hl (hE.below hb0)).mono ?_; rintro e w1 ⟨rfl, hb1⟩; rw [HA.out]; have T1 : Hid _ := below_blk hb1 T0.out hN0; have hbb1 := hb0.trans (hb1.mono hb0.size); have hN1 : w.heap.size < w1.heap.size := Nat.lt_of_lt_of_le hN0 hb1.size; clear hb1 e2 e6; have e0 := blk_cell T1.out 0 rfl; have e1 := blk_cell T1.out 1 rfl; have e2 := blk_cell T1.out 2 rfl; have e3 := blk_cell T1.out 3 rfl; have e4 := blk_cell T1.out 4 rfl; have e5 := blk_cell T1.out 5 rfl; have e6 := blk_cell T1.out 6 rfl; have e7 := blk_cell T1.out 7 rfl) | (go_at_call 222; refine (scaleHolds_any A ae ce _).mono ?_; rintro e w2 ⟨rfl, hb2⟩; rw [← HSC.out]; have T2 : Hid _ := below_blk hb2 T1.out hN1; have hbb2 := hbb1.trans (hb2.mono hbb1.size); clear hb2 e0 e1 e2 e3 e4 e5 e6 e7; have e2 := blk_cell T2.out 2 rfl; have e5 := blk_cell T2.out 5 rfl; have e6 := blk_cell T2.out 6 rfl; have e7 := blk_cell T2.out 7 rfl))
  go_ret
  exact ⟨ret_bool (by rw [HO2.out, ← HSC.out]; simp), hbb2⟩
 ·go_wp2_with (first | (go_at_call 154; refine (within_any _ _ _ _).mono ?_; rintro e w' ⟨rfl, rfl⟩) | (go_at_call 221; refine (endsAscend_any A.ends ae ce _ hl (hE.below hb0)).mono ?_; rintro e w1 ⟨rfl, hb1⟩; rw [HA.out]; have T1 : Hid _ := below_blk hb1 T0.out hN0; have hbb1 := hb0.trans (hb1.mono hb0.size); have hN1 : w.heap.size < w1.heap.size := Nat.lt_of_lt_of_le hN0 hb1.size; clear hb1 e2 e6; have e0 := blk_cell T1.out 0 rfl; have e1 := blk_cell T1.out 1 rfl; have e2 := blk_cell T1.out 2 rfl; have e3 := blk_cell T1.out 3 rfl; have e4 := blk_cell T1.out 4 rfl; have e5 := blk_cell T1.out 5 rfl; have e6 := blk_cell T1.out 6 rfl; have e7 := blk_cell T1.out 7 rfl) | (go_at_call 222; refine (scaleHolds_any A ae ce _).mono ?_; rintro e w2 ⟨rfl, hb2⟩; rw [← HSC.out]; have T2 : Hid _ := below_blk hb2 T1.out hN1; have hbb2 := hbb1.trans (hb2.mono hbb1.size); clear hb2 e0 e1 e2 e3 e4 e5 e6 e7; have e2 := blk_cell T2.out 2 rfl; have e5 := blk_cell T2.out 5 rfl; have e6 := blk_cell T2.out 6 rfl; have e7 := blk_cell T2.out 7 rfl))
  all_goals
   go_ret
   refine ⟨ret_bool ?_, hbb2⟩
   rw [HO2.out, HA.out, ← HSC.out]
   clear e2 e5 e6 e7 HO2 HSC HA
   try simp only [bne_iff_ne, ne_eq, bne_eq_false_iff_eq] at *
   simp [*, HLZ.out]
end Go.Proofs.YtbceafpodamnfabGreatDoor
