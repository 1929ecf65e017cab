/-
  My own: Dd, De, Wm, Wn, Wo, Wp, Wq, Wr.
-/
import Derived.Test.YtbceafpodamnfabGreatDoorG01
import Derived.Laws.EntriesVeiled
import Derived.Maps.OwnSet
import Derived.DeepKeys5
set_option linter.unusedVariables false
set_option linter.unusedSimpArgs false
namespace Go.Proofs.YtbceafpodamnfabGreatDoor
open Go.RowKit
def aheadB (a b : Cp) : Bool := Op.bytesLess a.service.toList b.service.toList || (a.service.toList == b.service.toList && decide (a.number < b.number))
def svcAtB (B : Bk) (k : Nat) : Bool := match B.svcs[k]? with
 | none => true
 | some s => svcB B.now s && (k == 0 || match B.svcs[k - 1]? with | none => true | some p => Op.bytesLess p.name.toList s.name.toList)
def btAtB (B : Bk) (k : Nat) : Bool := match B.bts[k]? with
 | none => true
 | some s => nameB s.name && (k == 0 || match B.bts[k - 1]? with | none => true | some p => Op.bytesLess p.name.toList s.name.toList)
def cpAtB (B : Bk) (k : Nat) : Bool := match B.cps[k]? with
 | none => true
 | some s => cpB B s && (k == 0 || match B.cps[k - 1]? with | none => true | some p => aheadB p s)
def allTo (f : Nat → Bool) (n : Nat) : Bool := (List.range n).all f
def validB (B : Bk) : Bool := inB B.now 0 1000000 && decide (B.svcs.length ≤ 8) && decide (B.cps.length ≤ 200) && decide (B.bts.length ≤ 6) && allTo (svcAtB B) B.svcs.length && allTo (btAtB B) B.bts.length && allTo (cpAtB B) B.cps.length
theorem allTo_yes {f : Nat → Bool} {n : Nat} (h : ∀ i, i < n → f i = true) : allTo f n = true := by
 unfold allTo; rw [List.all_eq_true]; intro i hi; exact h i (List.mem_range.1 hi)
theorem allTo_no {f : Nat → Bool} {n k : Nat} (hk : k < n) (h : f k = false) : allTo f n = false := by
 unfold allTo; rw [List.all_eq_false]; exact ⟨k, List.mem_range.2 hk, by rw [h]; simp⟩
theorem upTo_step {f : Nat → Bool} {k : Nat} (h : ∀ i, i < k → f i = true) (hk : f k = true) : ∀ i, i < k + 1 → f i = true := fun i hi => by
 rcases Nat.lt_or_ge i k with h' | h'
 ·exact h i h'
 ·rw [show i = k by omega]; exact hk
end Go.Proofs.YtbceafpodamnfabGreatDoor

namespace Go.Proofs.YtbceafpodamnfabGreatDoor
open Go.RowKit
def numB (s : Svc) : Bool := inB s.image 1 1000000 && inB s.next 1 1000000 && inB s.want 0 10
def spareB (s : Svc) : Bool := inB s.down 0 10 && inB s.over 0 10 && (s.down != 0 || s.over != 0)
def followB (s : Svc) : Bool := inB s.per 0 1000000 && inB s.load 0 1000000 && inB s.least 0 10 && inB s.most 0 10 && decide (s.least ≤ s.most) && inB s.cool 0 3
def stillB (s : Svc) : Bool := s.per != 0 || (s.least == 0 && s.most == 0 && s.load == 0 && s.cool == 0)
theorem svcB_split (now : Int) (s : Svc) : svcB now s = (inB s.version 1 now && (nameB s.name && numB s && spareB s && followB s && stillB s)) := by
 unfold svcB
 generalize nameB s.name = n
 cases n
 ·simp
 ·rw [Bool.eq_iff_iff]
  by_cases hp : s.per = 0
  ·simp [perB, numB, spareB, followB, stillB, inB, hp]
   omega
  ·simp only [perB, numB, spareB, followB, stillB, inB, Bool.and_eq_true, Bool.or_eq_true, decide_eq_true_eq, Bool.not_eq_true', beq_eq_false_iff_ne, bne_iff_ne, beq_iff_eq, ne_eq, true_and, if_neg hp]
   omega
theorem bytesLess_irrefl : ∀ l : List UInt8, Op.bytesLess l l = false
 | [] => rfl
 | a :: x => by simp [Op.bytesLess, bytesLess_irrefl x]
theorem bytesLess_tri : ∀ a b : List UInt8, (Op.bytesLess a b || a == b) = !(Op.bytesLess b a)
 | [], [] => by simp [Op.bytesLess]
 | [], _ :: _ => by simp [Op.bytesLess]
 | _ :: _, [] => by simp [Op.bytesLess]
 | a :: x, b :: y => by
  have ih := bytesLess_tri x y
  simp only [Op.bytesLess]
  rcases Nat.lt_trichotomy a.toNat b.toNat with h | h | h
  ·have h1 : a < b := UInt8.lt_iff_toNat_lt.2 h
   have h2 : ¬ b < a := fun h' => by have := UInt8.lt_iff_toNat_lt.1 h'; omega
   have h3 : (b == a) = false := by rw [beq_eq_false_iff_ne]; intro e; rw [e] at h; omega
   simp [h1, h2, h3]
  ·have e : a = b := UInt8.toNat_inj.1 h
   subst e
   have h2 : ¬ a < a := fun h' => by have := UInt8.lt_iff_toNat_lt.1 h'; omega
   simp [h2] at ih ⊢
   exact ih
  ·have h1 : b < a := UInt8.lt_iff_toNat_lt.2 h
   have h2 : ¬ a < b := fun h' => by have := UInt8.lt_iff_toNat_lt.1 h'; omega
   have h3 : (a == b) = false := by rw [beq_eq_false_iff_ne]; intro e; rw [e] at h; omega
   simp [h1, h2, h3]
theorem bytesLess_trans : ∀ a b c : List UInt8, Op.bytesLess a b = true → Op.bytesLess b c = true → Op.bytesLess a c = true
 | _, [], _, h, _ => by simp [Op.bytesLess] at h
 | _, _ :: _, [], _, h => by simp [Op.bytesLess] at h
 | [], _ :: _, _ :: _, _, _ => by simp [Op.bytesLess]
 | a :: x, b :: y, c :: z, h, k => by
  simp only [Op.bytesLess, Bool.or_eq_true, Bool.and_eq_true, decide_eq_true_eq, beq_iff_eq, UInt8.lt_iff_toNat_lt] at *
  rcases h with h | ⟨rfl, h⟩
  ·rcases k with k | ⟨rfl, k⟩
   ·exact Or.inl (by omega)
   ·exact Or.inl h
  ·rcases k with k | ⟨rfl, k⟩
   ·exact Or.inl k
   ·exact Or.inr ⟨rfl, bytesLess_trans x y z h k⟩
end Go.Proofs.YtbceafpodamnfabGreatDoor

namespace Go.Proofs.YtbceafpodamnfabGreatDoor
open Go.RowKit Go.Sort
set_option maxHeartbeats 1000000 in
theorem serviceNamed_any (s : Svc) (w : World) (hs : s.name.size ≤ maxLen) :
  Calls Tryz.prog 155 #[.agg #[.string s.name, .int .i64 s.version, .bool s.gone, .int .i64 s.image, .int .i64 s.want, .int .i64 s.down, .int .i64 s.over, .int .i64 s.next, .int .i64 s.per, .int .i64 s.least, .int .i64 s.most, .int .i64 s.load, .int .i64 s.cool]] w fun e w' => e = .returned (.bool (nameB s.name)) ∧ Below w.heap.size w w' := by
 go_enter Tryz.func155, Tryz.ntmps155
 go_wp2_with (first | (go_at_call 161; refine (isName_any _ _ hs).mono ?_; rintro e w' ⟨rfl, rfl⟩))
 all_goals
  go_ret
  exact ⟨ret_bool rfl, below_box _ _⟩
set_option maxHeartbeats 1000000 in
theorem numbersHold_any (s : Svc) (w : World) :
  Calls Tryz.prog 156 #[.agg #[.string s.name, .int .i64 s.version, .bool s.gone, .int .i64 s.image, .int .i64 s.want, .int .i64 s.down, .int .i64 s.over, .int .i64 s.next, .int .i64 s.per, .int .i64 s.least, .int .i64 s.most, .int .i64 s.load, .int .i64 s.cool]] w fun e w' => e = .returned (.bool (numB s)) ∧ Below w.heap.size w w' := by
 go_enter Tryz.func156, Tryz.ntmps156
 go_wp2_with (first | (go_at_call 154; refine (within_any _ _ _ _).mono ?_; rintro e w' ⟨rfl, rfl⟩))
 all_goals
  go_ret
  exact ⟨ret_bool (by simp [numB, *]), below_box _ _⟩
set_option maxHeartbeats 1000000 in
theorem spareHolds_any (s : Svc) (w : World) :
  Calls Tryz.prog 157 #[.agg #[.string s.name, .int .i64 s.version, .bool s.gone, .int .i64 s.image, .int .i64 s.want, .int .i64 s.down, .int .i64 s.over, .int .i64 s.next, .int .i64 s.per, .int .i64 s.least, .int .i64 s.most, .int .i64 s.load, .int .i64 s.cool]] w fun e w' => e = .returned (.bool (spareB s)) ∧ Below w.heap.size w w' := by
 go_enter Tryz.func157, Tryz.ntmps157
 go_wp2_with (first | (go_at_call 154; refine (within_any _ _ _ _).mono ?_; rintro e w' ⟨rfl, rfl⟩))
 all_goals
  go_ret
  exact ⟨ret_bool (by simp [spareB, *] <;> (intro _; rfl)), below_box _ _⟩
set_option maxHeartbeats 1000000 in
theorem followHolds_any (s : Svc) (w : World) :
  Calls Tryz.prog 158 #[.agg #[.string s.name, .int .i64 s.version, .bool s.gone, .int .i64 s.image, .int .i64 s.want, .int .i64 s.down, .int .i64 s.over, .int .i64 s.next, .int .i64 s.per, .int .i64 s.least, .int .i64 s.most, .int .i64 s.load, .int .i64 s.cool]] w fun e w' => e = .returned (.bool (followB s)) ∧ Below w.heap.size w w' := by
 go_enter Tryz.func158, Tryz.ntmps158
 go_wp2_with (first | (go_at_call 154; refine (within_any _ _ _ _).mono ?_; rintro e w' ⟨rfl, rfl⟩))
 all_goals
  go_ret
  exact ⟨ret_bool (by simp [followB, *] <;> (intro h; exfalso; omega)), below_box _ _⟩
set_option maxHeartbeats 1000000 in
theorem stillWithoutPer_any (s : Svc) (w : World) :
  Calls Tryz.prog 159 #[.agg #[.string s.name, .int .i64 s.version, .bool s.gone, .int .i64 s.image, .int .i64 s.want, .int .i64 s.down, .int .i64 s.over, .int .i64 s.next, .int .i64 s.per, .int .i64 s.least, .int .i64 s.most, .int .i64 s.load, .int .i64 s.cool]] w fun e w' => e = .returned (.bool (stillB s)) ∧ Below w.heap.size w w' := by
 go_enter Tryz.func159, Tryz.ntmps159
 go_wp2
 all_goals
  go_ret
  exact ⟨ret_bool (by simp [stillB, *]), below_box _ _⟩
set_option maxHeartbeats 1000000 in
theorem nowHolds_any (B : Bk) (a1 a2 a3 : Option Addr) (c1 c2 c3 : Nat) (w : World) :
  Calls Tryz.prog 101 #[.agg #[.int .i64 B.now, .slice a1 B.svcs.length c1, .slice a2 B.cps.length c2, .slice a3 B.bts.length c3]] w fun e w' => e = .returned (.bool (inB B.now 0 1000000)) ∧ Below w.heap.size w w' := by
 go_enter Tryz.func101, Tryz.ntmps101
 go_wp2_with (go_at_call 154; refine (within_any _ _ _ _).mono ?_; rintro e w' ⟨rfl, rfl⟩)
 go_ret
 exact ⟨rfl, below_box _ _⟩
set_option maxHeartbeats 1000000 in
theorem sizesHold_any (B : Bk) (a1 a2 a3 : Option Addr) (c1 c2 c3 : Nat) (w : World) (hS : B.small) :
  Calls Tryz.prog 102 #[.agg #[.int .i64 B.now, .slice a1 B.svcs.length c1, .slice a2 B.cps.length c2, .slice a3 B.bts.length c3]] w fun e w' => e = .returned (.bool (decide (B.svcs.length ≤ 8) && decide (B.cps.length ≤ 200) && decide (B.bts.length ≤ 6))) ∧ Below w.heap.size w w' := by
 obtain ⟨hl1, hl2, hl3⟩ := hS
 go_enter Tryz.func102, Tryz.ntmps102
 go_wp2
 all_goals
  go_ret
  exact ⟨ret_bool (by rw [Bool.eq_iff_iff]; simp; try omega), below_box _ _⟩
set_option maxHeartbeats 1000000 in
theorem copyAhead_any (a b : Cp) (w : World) :
  Calls Tryz.prog 163 #[.agg #[.string a.service, .int .i64 a.number, .int .i64 a.version, .int .i64 a.image, .int .i64 a.state, .bool a.ending, .string a.berth], .agg #[.string b.service, .int .i64 b.number, .int .i64 b.version, .int .i64 b.image, .int .i64 b.state, .bool b.ending, .string b.berth]] w fun e w' => e = .returned (.bool (aheadB a b)) ∧ Below w.heap.size w w' := by
 have hfin : Below w.heap.size w ((w.alloc (.cells #[.string a.service, .int .i64 a.number, .int .i64 a.version, .int .i64 a.image, .int .i64 a.state, .bool a.ending, .string a.berth] 149)).alloc (.cells #[.string b.service, .int .i64 b.number, .int .i64 b.version, .int .i64 b.image, .int .i64 b.state, .bool b.ending, .string b.berth] 149)) := ((Below.refl _ _).alloc (Nat.le_refl _) _).alloc (by simp) _
 cases h2 : (a.service.toList == b.service.toList)
 ·go_enter Tryz.func163, Tryz.ntmps163
  go_wp2
  go_ret
  exact ⟨ret_bool (by simp [aheadB, h2]), hfin⟩
 ·have hirr : Hid (Op.bytesLess a.service.toList b.service.toList = false) := by
   unfold Hid
   rw [eq_of_beq h2]
   exact bytesLess_irrefl _
  go_enter Tryz.func163, Tryz.ntmps163
  go_wp2
  go_ret
  exact ⟨ret_bool (by simp [aheadB, h2, hirr.out]), hfin⟩
set_option maxHeartbeats 1000000 in
theorem copyHolds_any (c : Cp) (s : Svc) (now : Int) (w : World) :
  Calls Tryz.prog 164 #[.agg #[.string c.service, .int .i64 c.number, .int .i64 c.version, .int .i64 c.image, .int .i64 c.state, .bool c.ending, .string c.berth], .agg #[.string s.name, .int .i64 s.version, .bool s.gone, .int .i64 s.image, .int .i64 s.want, .int .i64 s.down, .int .i64 s.over, .int .i64 s.next, .int .i64 s.per, .int .i64 s.least, .int .i64 s.most, .int .i64 s.load, .int .i64 s.cool], .int .i64 now] w fun e w' => e = .returned (.bool (cpOk now s c)) ∧ Below w.heap.size w w' := by
 have hfin : Below w.heap.size w ((w.alloc (.cells #[.string c.service, .int .i64 c.number, .int .i64 c.version, .int .i64 c.image, .int .i64 c.state, .bool c.ending, .string c.berth] 149)).alloc (.cells #[.string s.name, .int .i64 s.version, .bool s.gone, .int .i64 s.image, .int .i64 s.want, .int .i64 s.down, .int .i64 s.over, .int .i64 s.next, .int .i64 s.per, .int .i64 s.least, .int .i64 s.most, .int .i64 s.load, .int .i64 s.cool] 67)) := ((Below.refl _ _).alloc (Nat.le_refl _) _).alloc (by simp) _
 go_enter Tryz.func164, Tryz.ntmps164
 go_wp2_with (go_at_call 154; refine (within_any _ _ _ _).mono ?_; rintro e w' ⟨rfl, rfl⟩)
 all_goals
  go_ret
  exact ⟨ret_bool (by simp [cpOk, *]), hfin⟩
end Go.Proofs.YtbceafpodamnfabGreatDoor

namespace Go.Proofs.YtbceafpodamnfabGreatDoor
open Go.RowKit Go.Sort
def svcP (s : Svc) : Nat → Bool
 | 0 => nameB s.name
 | 1 => numB s
 | 2 => spareB s
 | 3 => followB s
 | _ => stillB s
theorem svcP_all (s : Svc) : allTo (svcP s) 5 = (nameB s.name && numB s && spareB s && followB s && stillB s) := by
 simp [allTo, List.range, List.range.loop, svcP, Bool.and_assoc]
def FnsS (w : World) (b : Nat) : Prop := w.heap[b]? = some (.cells #[.func (.func 155) #[] #[], .func (.func 156) #[] #[], .func (.func 157) #[] #[], .func (.func 158) #[] #[], .func (.func 159) #[] #[]] 207 (0, 0))
set_option maxHeartbeats 4000000 in
theorem allHoldS_any (s : Svc) (b : Nat) (w : World) (hs : s.name.size ≤ maxLen) (hF : FnsS w b) :
  Calls Tryz.prog 160 #[.agg #[.string s.name, .int .i64 s.version, .bool s.gone, .int .i64 s.image, .int .i64 s.want, .int .i64 s.down, .int .i64 s.over, .int .i64 s.next, .int .i64 s.per, .int .i64 s.least, .int .i64 s.most, .int .i64 s.load, .int .i64 s.cool], .slice (some ⟨b, 0, none⟩) 5 5] w fun e w' => e = .returned (.bool (allTo (svcP s) 5)) ∧ Below w.heap.size w w' := by
 have hbx := below_box w (.cells #[.string s.name, .int .i64 s.version, .bool s.gone, .int .i64 s.image, .int .i64 s.want, .int .i64 s.down, .int .i64 s.over, .int .i64 s.next, .int .i64 s.per, .int .i64 s.least, .int .i64 s.most, .int .i64 s.load, .int .i64 s.cool] 67)
 have hbox : Hid _ := heap_alloc_new w (.cells #[.string s.name, .int .i64 s.version, .bool s.gone, .int .i64 s.image, .int .i64 s.want, .int .i64 s.down, .int .i64 s.over, .int .i64 s.next, .int .i64 s.per, .int .i64 s.least, .int .i64 s.most, .int .i64 s.load, .int .i64 s.cool] 67)
 have hblt : b < w.heap.size := (Array.getElem?_eq_some_iff.1 hF).1
 have HF : Hid (FnsS w b) := hF
 clear hF
 go_enter Tryz.func160, Tryz.ntmps160
 go_wp2
 go_loopw [9] (fun iv wr => ∃ k : Nat, k ≤ 5 ∧ iv = .int .i64 k ∧ Below w.heap.size w wr ∧ Hid (wr.heap[w.heap.size]? = some (.cells #[.string s.name, .int .i64 s.version, .bool s.gone, .int .i64 s.image, .int .i64 s.want, .int .i64 s.down, .int .i64 s.over, .int .i64 s.next, .int .i64 s.per, .int .i64 s.least, .int .i64 s.most, .int .i64 s.load, .int .i64 s.cool] 67 (0, 0))) ∧ Hid (∀ i, i < k → svcP s i = true)) (fun i _ => 5 - (intOf i).toNat)
 case atStart => exact ⟨0, by omega, rfl, hbx, hbox, fun i hi => absurd hi (by omega)⟩
 case round =>
  obtain ⟨k, hk, rfl, hb, hbox1, hall⟩ := hrel
  have hNlt : w.heap.size < wr.heap.size := (Array.getElem?_eq_some_iff.1 hbox1.out).1
  have hfn : Hid _ := below_blk hb HF.out hblt
  have x0 := blk_cell hbox1.out 0 rfl
  have x1 := blk_cell hbox1.out 1 rfl
  have x2 := blk_cell hbox1.out 2 rfl
  have x3 := blk_cell hbox1.out 3 rfl
  have x4 := blk_cell hbox1.out 4 rfl
  have x5 := blk_cell hbox1.out 5 rfl
  have x6 := blk_cell hbox1.out 6 rfl
  have x7 := blk_cell hbox1.out 7 rfl
  have x8 := blk_cell hbox1.out 8 rfl
  have x9 := blk_cell hbox1.out 9 rfl
  have x10 := blk_cell hbox1.out 10 rfl
  have x11 := blk_cell hbox1.out 11 rfl
  have x12 := blk_cell hbox1.out 12 rfl
  by_cases h0 : k = 0
  ·subst h0
   have f0 := blk_cell hfn.out 0 rfl
   cases hv : nameB s.name
   ·have HV : Hid ((svcP s) 0 = false) := hv
    go_wp2_with fail
    refine (serviceNamed_any s _ hs).mono ?_
    rintro e w1 ⟨rfl, hb1⟩
    have hb2 := hb.trans (hb1.mono hb.size)
    rw [hv]
    clear x0 x1 x2 x3 x4 x5 x6 x7 x8 x9 x10 x11 x12 f0
    go_wp2
    go_ret
    exact ⟨ret_bool (allTo_no (by omega) HV.out).symm, hb2⟩
   ·have HV : Hid ((svcP s) 0 = true) := hv
    go_wp2_with fail
    refine (serviceNamed_any s _ hs).mono ?_
    rintro e w1 ⟨rfl, hb1⟩
    have hb2 := hb.trans (hb1.mono hb.size)
    have hbox2 : Hid _ := below_blk hb1 hbox1.out hNlt
    rw [hv]
    clear x0 x1 x2 x3 x4 x5 x6 x7 x8 x9 x10 x11 x12 f0
    go_wp2
    go_roundw
    case rel => exact ⟨0 + 1, by omega, by go_num, hb2, hbox2, upTo_step hall.out HV.out⟩
    case measure => simp [intOf]
  by_cases h1 : k = 1
  ·subst h1
   have f1 := blk_cell hfn.out 1 rfl
   cases hv : numB s
   ·have HV : Hid ((svcP s) 1 = false) := hv
    go_wp2_with fail
    refine (numbersHold_any s _).mono ?_
    rintro e w1 ⟨rfl, hb1⟩
    have hb2 := hb.trans (hb1.mono hb.size)
    rw [hv]
    clear x0 x1 x2 x3 x4 x5 x6 x7 x8 x9 x10 x11 x12 f1
    go_wp2
    go_ret
    exact ⟨ret_bool (allTo_no (by omega) HV.out).symm, hb2⟩
   ·have HV : Hid ((svcP s) 1 = true) := hv
    go_wp2_with fail
    refine (numbersHold_any s _).mono ?_
    rintro e w1 ⟨rfl, hb1⟩
    have hb2 := hb.trans (hb1.mono hb.size)
    have hbox2 : Hid _ := below_blk hb1 hbox1.out hNlt
    rw [hv]
    clear x0 x1 x2 x3 x4 x5 x6 x7 x8 x9 x10 x11 x12 f1
    go_wp2
    go_roundw
    case rel => exact ⟨1 + 1, by omega, by go_num, hb2, hbox2, upTo_step hall.out HV.out⟩
    case measure => simp [intOf]
  by_cases h2 : k = 2
  ·subst h2
   have f2 := blk_cell hfn.out 2 rfl
   cases hv : spareB s
   ·have HV : Hid ((svcP s) 2 = false) := hv
    go_wp2_with fail
    refine (spareHolds_any s _).mono ?_
    rintro e w1 ⟨rfl, hb1⟩
    have hb2 := hb.trans (hb1.mono hb.size)
    rw [hv]
    clear x0 x1 x2 x3 x4 x5 x6 x7 x8 x9 x10 x11 x12 f2
    go_wp2
    go_ret
    exact ⟨ret_bool (allTo_no (by omega) HV.out).symm, hb2⟩
   ·have HV : Hid ((svcP s) 2 = true) := hv
    go_wp2_with fail
    refine (spareHolds_any s _).mono ?_
    rintro e w1 ⟨rfl, hb1⟩
    have hb2 := hb.trans (hb1.mono hb.size)
    have hbox2 : Hid _ := below_blk hb1 hbox1.out hNlt
    rw [hv]
    clear x0 x1 x2 x3 x4 x5 x6 x7 x8 x9 x10 x11 x12 f2
    go_wp2
    go_roundw
    case rel => exact ⟨2 + 1, by omega, by go_num, hb2, hbox2, upTo_step hall.out HV.out⟩
    case measure => simp [intOf]
  by_cases h3 : k = 3
  ·subst h3
   have f3 := blk_cell hfn.out 3 rfl
   cases hv : followB s
   ·have HV : Hid ((svcP s) 3 = false) := hv
    go_wp2_with fail
    refine (followHolds_any s _).mono ?_
    rintro e w1 ⟨rfl, hb1⟩
    have hb2 := hb.trans (hb1.mono hb.size)
    rw [hv]
    clear x0 x1 x2 x3 x4 x5 x6 x7 x8 x9 x10 x11 x12 f3
    go_wp2
    go_ret
    exact ⟨ret_bool (allTo_no (by omega) HV.out).symm, hb2⟩
   ·have HV : Hid ((svcP s) 3 = true) := hv
    go_wp2_with fail
    refine (followHolds_any s _).mono ?_
    rintro e w1 ⟨rfl, hb1⟩
    have hb2 := hb.trans (hb1.mono hb.size)
    have hbox2 : Hid _ := below_blk hb1 hbox1.out hNlt
    rw [hv]
    clear x0 x1 x2 x3 x4 x5 x6 x7 x8 x9 x10 x11 x12 f3
    go_wp2
    go_roundw
    case rel => exact ⟨3 + 1, by omega, by go_num, hb2, hbox2, upTo_step hall.out HV.out⟩
    case measure => simp [intOf]
  by_cases h4 : k = 4
  ·subst h4
   have f4 := blk_cell hfn.out 4 rfl
   cases hv : stillB s
   ·have HV : Hid ((svcP s) 4 = false) := hv
    go_wp2_with fail
    refine (stillWithoutPer_any s _).mono ?_
    rintro e w1 ⟨rfl, hb1⟩
    have hb2 := hb.trans (hb1.mono hb.size)
    rw [hv]
    clear x0 x1 x2 x3 x4 x5 x6 x7 x8 x9 x10 x11 x12 f4
    go_wp2
    go_ret
    exact ⟨ret_bool (allTo_no (by omega) HV.out).symm, hb2⟩
   ·have HV : Hid ((svcP s) 4 = true) := hv
    go_wp2_with fail
    refine (stillWithoutPer_any s _).mono ?_
    rintro e w1 ⟨rfl, hb1⟩
    have hb2 := hb.trans (hb1.mono hb.size)
    have hbox2 : Hid _ := below_blk hb1 hbox1.out hNlt
    rw [hv]
    clear x0 x1 x2 x3 x4 x5 x6 x7 x8 x9 x10 x11 x12 f4
    go_wp2
    go_roundw
    case rel => exact ⟨4 + 1, by omega, by go_num, hb2, hbox2, upTo_step hall.out HV.out⟩
    case measure => simp [intOf]
  ·have h5 : k = 5 := by omega
   subst h5
   clear x0 x1 x2 x3 x4 x5 x6 x7 x8 x9 x10 x11 x12
   go_wp2
   go_ret
   exact ⟨ret_bool (allTo_yes hall.out).symm, hb⟩
end Go.Proofs.YtbceafpodamnfabGreatDoor

namespace Go.Proofs.YtbceafpodamnfabGreatDoor
open Go.RowKit Go.Sort
set_option maxHeartbeats 8000000 in
theorem servicesHold_any (B : Bk) (a1 a2 a3 : Option Addr) (c1 c2 c3 : Nat) (w : World) (hS : B.small) (hZ : B.sized) (hB : BkAt w a1 a2 a3 B) :
  Calls Tryz.prog 103 #[.agg #[.int .i64 B.now, .slice a1 B.svcs.length c1, .slice a2 B.cps.length c2, .slice a3 B.bts.length c3]] w fun e w' => e = .returned (.bool (allTo (svcAtB B) B.svcs.length)) ∧ Below w.heap.size w w' := by
 obtain ⟨hl1, hl2, hl3⟩ := hS
 obtain ⟨t0, t1, t2⟩ := two_new w (.cells #[.int .i64 B.now, .slice a1 B.svcs.length c1, .slice a2 B.cps.length c2, .slice a3 B.bts.length c3] 36) (.cells #[.func (.func 155) #[] #[], .func (.func 156) #[] #[], .func (.func 157) #[] #[], .func (.func 158) #[] #[], .func (.func 159) #[] #[]] 207)
 have T0 : Hid _ := t0
 have T1 : Hid _ := t1
 clear t0 t1 t2
 go_enter Tryz.func103, Tryz.ntmps103
 go_wp2
 go_loopw [10] (fun iv wr => ∃ k : Nat, k ≤ B.svcs.length ∧ iv = .int .i64 k ∧ Below w.heap.size w wr ∧ Hid (wr.heap[w.heap.size]? = some (.cells #[.int .i64 B.now, .slice a1 B.svcs.length c1, .slice a2 B.cps.length c2, .slice a3 B.bts.length c3] 36 (0, 0))) ∧ Hid (FnsS wr (w.heap.size + 1)) ∧ Hid (∀ i, i < k → svcAtB B i = true)) (fun i _ => B.svcs.length - (intOf i).toNat)
 case atStart => exact ⟨0, by omega, rfl, ((Below.refl _ _).alloc (Nat.le_refl _) _).alloc (by simp) _, T0, T1, fun i hi => absurd hi (by omega)⟩
 case round =>
  obtain ⟨k, hk, rfl, hb, hbox, hfn, hall⟩ := hrel
  have hNlt : w.heap.size + 1 < wr.heap.size := (Array.getElem?_eq_some_iff.1 hfn.out).1
  have hNlt0 : w.heap.size < wr.heap.size := by omega
  by_cases hlt : k < B.svcs.length
  ·have hne : B.svcs ≠ [] := by intro h; rw [h] at hlt; simp at hlt
   obtain ⟨b, off, ea, hbs, hat⟩ := hB.1 hne
   subst ea
   obtain ⟨s, hsk⟩ : ∃ s, B.svcs[k]? = some s := ⟨B.svcs[k], by simp [hlt]⟩
   have hmem := hZ.2.2.2.1 s (List.mem_of_getElem? hsk)
   have HSK : Hid _ := hsk
   have hcs := (hat k s hsk).below hb hbs
   unfold SvcAt at hcs
   obtain ⟨x0, x1, x2, x3, x4, x5, x6, x7, x8, x9, x10, x11, x12⟩ := hcs
   have hbr : Below w.heap.size w (wr.alloc (.cells #[.string s.name, .int .i64 s.version, .bool s.gone, .int .i64 s.image, .int .i64 s.want, .int .i64 s.down, .int .i64 s.over, .int .i64 s.next, .int .i64 s.per, .int .i64 s.least, .int .i64 s.most, .int .i64 s.load, .int .i64 s.cool] 67)) := hb.alloc hb.size _
   have HSZ : Hid ((wr.alloc (.cells #[.string s.name, .int .i64 s.version, .bool s.gone, .int .i64 s.image, .int .i64 s.want, .int .i64 s.down, .int .i64 s.over, .int .i64 s.next, .int .i64 s.per, .int .i64 s.least, .int .i64 s.most, .int .i64 s.load, .int .i64 s.cool] 67)).heap.size = wr.heap.size + 1) := by show (wr.heap.push _).size = _; simp
   have HBX : Hid _ := heap_alloc_new wr (.cells #[.string s.name, .int .i64 s.version, .bool s.gone, .int .i64 s.image, .int .i64 s.want, .int .i64 s.down, .int .i64 s.over, .int .i64 s.next, .int .i64 s.per, .int .i64 s.least, .int .i64 s.most, .int .i64 s.load, .int .i64 s.cool] 67)
   have hw1 := below_box wr (.cells #[.string s.name, .int .i64 s.version, .bool s.gone, .int .i64 s.image, .int .i64 s.want, .int .i64 s.down, .int .i64 s.over, .int .i64 s.next, .int .i64 s.per, .int .i64 s.least, .int .i64 s.most, .int .i64 s.load, .int .i64 s.cool] 67)
   have hboxr : Hid _ := below_blk hw1 hbox.out (by omega)
   have hfnr : Hid (FnsS (wr.alloc (.cells #[.string s.name, .int .i64 s.version, .bool s.gone, .int .i64 s.image, .int .i64 s.want, .int .i64 s.down, .int .i64 s.over, .int .i64 s.next, .int .i64 s.per, .int .i64 s.least, .int .i64 s.most, .int .i64 s.load, .int .i64 s.cool] 67)) (w.heap.size + 1)) := below_blk hw1 hfn.out hNlt
   clear hsk
   by_cases hk0 : k = 0
   ·have HK0 : Hid (k = 0) := hk0
    have hz : decide (0 < k) = false := by simp; omega
    clear hk0 hat hne
    go_wp2
    clear x0 x1 x2 x3 x4 x5 x6 x7 x8 x9 x10 x11 x12
    refine wp_region_quiet_below (by kernel_rfl) (by kernel_rfl) ?_
    repeat (first | go_big_quiet_step (fail) | quiet_step (fail))
    refine wpQuiet_nil ?_
    intro w2 hw'
    obtain ⟨⟨dq, osq⟩, hw''⟩ := hw'
    have hb2 : Below (wr.alloc (.cells #[.string s.name, .int .i64 s.version, .bool s.gone, .int .i64 s.image, .int .i64 s.want, .int .i64 s.down, .int .i64 s.over, .int .i64 s.next, .int .i64 s.per, .int .i64 s.least, .int .i64 s.most, .int .i64 s.load, .int .i64 s.cool] 67)).heap.size (wr.alloc (.cells #[.string s.name, .int .i64 s.version, .bool s.gone, .int .i64 s.image, .int .i64 s.want, .int .i64 s.down, .int .i64 s.over, .int .i64 s.next, .int .i64 s.per, .int .i64 s.least, .int .i64 s.most, .int .i64 s.load, .int .i64 s.cool] 67)) w2 := by rw [hw'']; exact below_regrown _ _ _
    clear hw''
    have hbr2 := hbr.trans (hb2.mono hbr.size)
    have bxr : Hid _ := below_blk hb2 HBX.out (by rw [HSZ.out]; omega)
    have box2 : Hid _ := below_blk hb2 hboxr.out (by rw [HSZ.out]; omega)
    have fns2 : Hid (FnsS w2 (w.heap.size + 1)) := below_blk hb2 hfnr.out (by rw [HSZ.out]; omega)
    have hz2 : wr.heap.size < w2.heap.size := by have := hb2.size; rw [HSZ.out] at this; omega
    have r0 := blk_cell bxr.out 0 rfl
    have r1 := blk_cell bxr.out 1 rfl
    have r2 := blk_cell bxr.out 2 rfl
    have r3 := blk_cell bxr.out 3 rfl
    have r4 := blk_cell bxr.out 4 rfl
    have r5 := blk_cell bxr.out 5 rfl
    have r6 := blk_cell bxr.out 6 rfl
    have r7 := blk_cell bxr.out 7 rfl
    have r8 := blk_cell bxr.out 8 rfl
    have r9 := blk_cell bxr.out 9 rfl
    have r10 := blk_cell bxr.out 10 rfl
    have r11 := blk_cell bxr.out 11 rfl
    have r12 := blk_cell bxr.out 12 rfl
    have q0 := blk_cell box2.out 0 rfl
    cases hver : inB s.version 1 B.now
    ·have HNO : Hid (svcAtB B k = false) := by unfold Hid svcAtB; rw [HSK.out]; simp [svcB_split, hver]
     go_wp2_with (go_at_call 154; refine (within_any _ _ _ _).mono ?_; rintro e w' ⟨rfl, rfl⟩)
     go_ret
     exact ⟨ret_bool (allTo_no hlt HNO.out).symm, hbr2⟩
    cases hal : allTo (svcP s) 5
    ·have HNO : Hid (svcAtB B k = false) := by unfold Hid svcAtB; rw [HSK.out]; simp [svcB_split, hver, ← svcP_all, hal]
     go_wp2_with (first | (go_at_call 154; refine (within_any _ _ _ _).mono ?_; rintro e w' ⟨rfl, rfl⟩) | (go_at_call 160; refine (allHoldS_any s (w.heap.size + 1) _ hmem fns2.out).mono ?_; rintro e w3 ⟨rfl, hb3⟩))
     go_ret
     exact ⟨ret_bool (allTo_no hlt HNO.out).symm, hbr2.trans (hb3.mono hbr2.size)⟩
    have HYES : Hid (svcAtB B k = true) := by unfold Hid svcAtB; rw [HSK.out]; simp [svcB_split, hver, ← svcP_all, hal, HK0.out]
    go_wp2_with (first | (go_at_call 154; refine (within_any _ _ _ _).mono ?_; rintro e w' ⟨rfl, rfl⟩) | (go_at_call 160; refine (allHoldS_any s (w.heap.size + 1) _ hmem fns2.out).mono ?_; rintro e w3 ⟨rfl, hb3⟩))
    have hb4 := hbr2.trans (hb3.mono hbr2.size)
    have box3 : Hid _ := below_blk hb3 box2.out (by omega)
    have fns3 : Hid (FnsS w3 (w.heap.size + 1)) := below_blk hb3 fns2.out (by omega)
    go_roundw
    case rel => exact ⟨k + 1, by omega, by go_num, hb4, box3, fns3, upTo_step hall.out HYES.out⟩
    case measure => simp [intOf]; omega
   obtain ⟨k', rfl⟩ : ∃ k', k = k' + 1 := ⟨k - 1, by omega⟩
   clear hk0
   obtain ⟨p, hpk⟩ : ∃ p, B.svcs[k']? = some p := ⟨B.svcs[k']'(by omega), by rw [List.getElem?_eq_getElem]⟩
   have HPK : Hid _ := hpk
   obtain ⟨y0, y1, y2, y3, y4, y5, y6, y7, y8, y9, y10, y11, y12⟩ := ((hat k' p hpk).below (hb.trans (hw1.mono hb.size)) hbs).grown
   have gx0 := gcell HBX.out 0 rfl
   have gb1 := gcell hboxr.out 1 rfl
   have HTRI := bytesLess_tri s.name.toList p.name.toList
   have HT : Hid _ := HTRI
   clear HTRI hpk hat hne
   cases hle : Op.bytesLess p.name.toList s.name.toList
   ·have HNO : Hid (svcAtB B (k' + 1) = false) := by unfold Hid svcAtB; rw [HSK.out]; simp [HPK.out, hle]
    have hle2 : (Op.bytesLess s.name.toList p.name.toList || s.name.toList == p.name.toList) = true := by rw [HT.out, hle]; rfl
    clear hle
    go_wp2
    clear x0 x1 x2 x3 x4 x5 x6 x7 x8 x9 x10 x11 x12
    refine wp_region_quiet_below (by kernel_rfl) (by kernel_rfl) ?_
    repeat (first | go_big_quiet_step (fail) | quiet_step (fail))
    refine wpQuiet_nil ?_
    intro w2 hw'
    obtain ⟨⟨dq, osq⟩, hw''⟩ := hw'
    have hb2 : Below (wr.alloc (.cells #[.string s.name, .int .i64 s.version, .bool s.gone, .int .i64 s.image, .int .i64 s.want, .int .i64 s.down, .int .i64 s.over, .int .i64 s.next, .int .i64 s.per, .int .i64 s.least, .int .i64 s.most, .int .i64 s.load, .int .i64 s.cool] 67)).heap.size (wr.alloc (.cells #[.string s.name, .int .i64 s.version, .bool s.gone, .int .i64 s.image, .int .i64 s.want, .int .i64 s.down, .int .i64 s.over, .int .i64 s.next, .int .i64 s.per, .int .i64 s.least, .int .i64 s.most, .int .i64 s.load, .int .i64 s.cool] 67)) w2 := by rw [hw'']; exact below_regrown _ _ _
    clear hw''
    go_wp2
    go_ret
    exact ⟨ret_bool (allTo_no hlt HNO.out).symm, hbr.trans (hb2.mono hbr.size)⟩
   ·have hle2 : (Op.bytesLess s.name.toList p.name.toList || s.name.toList == p.name.toList) = false := by rw [HT.out, hle]; rfl
    have HLE : Hid _ := hle
    clear hle
    go_wp2
    clear x0 x1 x2 x3 x4 x5 x6 x7 x8 x9 x10 x11 x12
    refine wp_region_quiet_below (by kernel_rfl) (by kernel_rfl) ?_
    repeat (first | go_big_quiet_step (fail) | quiet_step (fail))
    refine wpQuiet_nil ?_
    intro w2 hw'
    obtain ⟨⟨dq, osq⟩, hw''⟩ := hw'
    have hb2 : Below (wr.alloc (.cells #[.string s.name, .int .i64 s.version, .bool s.gone, .int .i64 s.image, .int .i64 s.want, .int .i64 s.down, .int .i64 s.over, .int .i64 s.next, .int .i64 s.per, .int .i64 s.least, .int .i64 s.most, .int .i64 s.load, .int .i64 s.cool] 67)).heap.size (wr.alloc (.cells #[.string s.name, .int .i64 s.version, .bool s.gone, .int .i64 s.image, .int .i64 s.want, .int .i64 s.down, .int .i64 s.over, .int .i64 s.next, .int .i64 s.per, .int .i64 s.least, .int .i64 s.most, .int .i64 s.load, .int .i64 s.cool] 67)) w2 := by rw [hw'']; exact below_regrown _ _ _
    clear hw''
    clear gx0 gb1 hle2 y0 y1 y2 y3 y4 y5 y6 y7 y8 y9 y10 y11 y12
    have hbr2 := hbr.trans (hb2.mono hbr.size)
    have bxr : Hid _ := below_blk hb2 HBX.out (by rw [HSZ.out]; omega)
    have box2 : Hid _ := below_blk hb2 hboxr.out (by rw [HSZ.out]; omega)
    have fns2 : Hid (FnsS w2 (w.heap.size + 1)) := below_blk hb2 hfnr.out (by rw [HSZ.out]; omega)
    have hz2 : wr.heap.size < w2.heap.size := by have := hb2.size; rw [HSZ.out] at this; omega
    have r0 := blk_cell bxr.out 0 rfl
    have r1 := blk_cell bxr.out 1 rfl
    have r2 := blk_cell bxr.out 2 rfl
    have r3 := blk_cell bxr.out 3 rfl
    have r4 := blk_cell bxr.out 4 rfl
    have r5 := blk_cell bxr.out 5 rfl
    have r6 := blk_cell bxr.out 6 rfl
    have r7 := blk_cell bxr.out 7 rfl
    have r8 := blk_cell bxr.out 8 rfl
    have r9 := blk_cell bxr.out 9 rfl
    have r10 := blk_cell bxr.out 10 rfl
    have r11 := blk_cell bxr.out 11 rfl
    have r12 := blk_cell bxr.out 12 rfl
    have q0 := blk_cell box2.out 0 rfl
    cases hver : inB s.version 1 B.now
    ·have HNO : Hid (svcAtB B (k' + 1) = false) := by unfold Hid svcAtB; rw [HSK.out]; simp [svcB_split, hver]
     go_wp2_with (go_at_call 154; refine (within_any _ _ _ _).mono ?_; rintro e w' ⟨rfl, rfl⟩)
     go_ret
     exact ⟨ret_bool (allTo_no hlt HNO.out).symm, hbr2⟩
    cases hal : allTo (svcP s) 5
    ·have HNO : Hid (svcAtB B (k' + 1) = false) := by unfold Hid svcAtB; rw [HSK.out]; simp [svcB_split, hver, ← svcP_all, hal]
     go_wp2_with (first | (go_at_call 154; refine (within_any _ _ _ _).mono ?_; rintro e w' ⟨rfl, rfl⟩) | (go_at_call 160; refine (allHoldS_any s (w.heap.size + 1) _ hmem fns2.out).mono ?_; rintro e w3 ⟨rfl, hb3⟩))
     go_ret
     exact ⟨ret_bool (allTo_no hlt HNO.out).symm, hbr2.trans (hb3.mono hbr2.size)⟩
    have HYES : Hid (svcAtB B (k' + 1) = true) := by unfold Hid svcAtB; rw [HSK.out]; simp [svcB_split, hver, ← svcP_all, hal, HPK.out, HLE.out]
    go_wp2_with (first | (go_at_call 154; refine (within_any _ _ _ _).mono ?_; rintro e w' ⟨rfl, rfl⟩) | (go_at_call 160; refine (allHoldS_any s (w.heap.size + 1) _ hmem fns2.out).mono ?_; rintro e w3 ⟨rfl, hb3⟩))
    have hb4 := hbr2.trans (hb3.mono hbr2.size)
    have box3 : Hid _ := below_blk hb3 box2.out (by omega)
    have fns3 : Hid (FnsS w3 (w.heap.size + 1)) := below_blk hb3 fns2.out (by omega)
    go_roundw
    case rel => exact ⟨(k' + 1) + 1, by omega, by go_num, hb4, box3, fns3, upTo_step hall.out HYES.out⟩
    case measure => simp [intOf]; omega
  ·go_wp2
   go_ret
   exact ⟨ret_bool (allTo_yes fun i hi => hall.out i (by omega)).symm, hb⟩
end Go.Proofs.YtbceafpodamnfabGreatDoor

namespace Go.Proofs.YtbceafpodamnfabGreatDoor
open Go.RowKit Go.Sort
set_option maxHeartbeats 8000000 in
theorem berthsHold_any (B : Bk) (a1 a2 a3 : Option Addr) (c1 c2 c3 : Nat) (w : World) (hS : B.small) (hZ : B.sized) (hB : BkAt w a1 a2 a3 B) :
  Calls Tryz.prog 104 #[.agg #[.int .i64 B.now, .slice a1 B.svcs.length c1, .slice a2 B.cps.length c2, .slice a3 B.bts.length c3]] w fun e w' => e = .returned (.bool (allTo (btAtB B) B.bts.length)) ∧ Below w.heap.size w w' := by
 obtain ⟨hl1, hl2, hl3⟩ := hS
 have T0 : Hid _ := heap_alloc_new w (.cells #[.int .i64 B.now, .slice a1 B.svcs.length c1, .slice a2 B.cps.length c2, .slice a3 B.bts.length c3] 36)
 go_enter Tryz.func104, Tryz.ntmps104
 go_wp2
 go_loopw [8] (fun iv wr => ∃ k : Nat, k ≤ B.bts.length ∧ iv = .int .i64 k ∧ Below w.heap.size w wr ∧ Hid (wr.heap[w.heap.size]? = some (.cells #[.int .i64 B.now, .slice a1 B.svcs.length c1, .slice a2 B.cps.length c2, .slice a3 B.bts.length c3] 36 (0, 0))) ∧ Hid (∀ i, i < k → btAtB B i = true)) (fun i _ => B.bts.length - (intOf i).toNat)
 case atStart => exact ⟨0, by omega, rfl, below_box _ _, T0, fun i hi => absurd hi (by omega)⟩
 case round =>
  obtain ⟨k, hk, rfl, hb, hbox, hall⟩ := hrel
  have hNlt : w.heap.size < wr.heap.size := (Array.getElem?_eq_some_iff.1 hbox.out).1
  by_cases hlt : k < B.bts.length
  ·have hne : B.bts ≠ [] := by intro h; rw [h] at hlt; simp at hlt
   obtain ⟨b, off, ea, hbs, hat⟩ := hB.2.2 hne
   subst ea
   obtain ⟨s, hsk⟩ : ∃ s, B.bts[k]? = some s := ⟨B.bts[k], by simp [hlt]⟩
   have hmem := hZ.2.2.2.2.2 s (List.mem_of_getElem? hsk)
   have HSK : Hid _ := hsk
   have hcs := (hat k s hsk).below hb hbs
   unfold BtAt at hcs
   obtain ⟨x0, x1⟩ := hcs
   have hbr : Below w.heap.size w (wr.alloc (.cells #[.string s.name, .bool s.drain] 147)) := hb.alloc hb.size _
   have HSZ : Hid ((wr.alloc (.cells #[.string s.name, .bool s.drain] 147)).heap.size = wr.heap.size + 1) := by show (wr.heap.push _).size = _; simp
   have HBX : Hid _ := heap_alloc_new wr (.cells #[.string s.name, .bool s.drain] 147)
   have hw1 := below_box wr (.cells #[.string s.name, .bool s.drain] 147)
   have hboxr : Hid _ := below_blk hw1 hbox.out (by omega)
   clear hsk
   by_cases hk0 : k = 0
   ·have HK0 : Hid (k = 0) := hk0
    have hz : decide (0 < k) = false := by simp; omega
    clear hk0 hat hne
    go_wp2
    clear x0 x1
    refine wp_region_quiet_below (by kernel_rfl) (by kernel_rfl) ?_
    repeat (first | go_big_quiet_step (fail) | quiet_step (fail))
    refine wpQuiet_nil ?_
    intro w2 hw'
    obtain ⟨⟨dq, osq⟩, hw''⟩ := hw'
    have hb2 : Below (wr.alloc (.cells #[.string s.name, .bool s.drain] 147)).heap.size (wr.alloc (.cells #[.string s.name, .bool s.drain] 147)) w2 := by rw [hw'']; exact below_regrown _ _ _
    clear hw''
    have hbr2 := hbr.trans (hb2.mono hbr.size)
    have bxr : Hid _ := below_blk hb2 HBX.out (by rw [HSZ.out]; omega)
    have box2 : Hid _ := below_blk hb2 hboxr.out (by rw [HSZ.out]; omega)
    have hz2 : wr.heap.size < w2.heap.size := by have := hb2.size; rw [HSZ.out] at this; omega
    have r0 := blk_cell bxr.out 0 rfl
    cases hver : nameB s.name
    ·have HNO : Hid (btAtB B k = false) := by unfold Hid btAtB; rw [HSK.out]; simp [hver]
     go_wp2_with (go_at_call 161; refine (isName_any _ _ hmem).mono ?_; rintro e w' ⟨rfl, rfl⟩)
     go_ret
     exact ⟨ret_bool (allTo_no hlt HNO.out).symm, hbr2⟩
    have HYES : Hid (btAtB B k = true) := by unfold Hid btAtB; rw [HSK.out]; simp [hver, HK0.out]
    go_wp2_with (go_at_call 161; refine (isName_any _ _ hmem).mono ?_; rintro e w' ⟨rfl, rfl⟩)
    go_roundw
    case rel => exact ⟨k + 1, by omega, by go_num, hbr2, box2, upTo_step hall.out HYES.out⟩
    case measure => simp [intOf]; omega
   obtain ⟨k', rfl⟩ : ∃ k', k = k' + 1 := ⟨k - 1, by omega⟩
   clear hk0
   obtain ⟨p, hpk⟩ : ∃ p, B.bts[k']? = some p := ⟨B.bts[k']'(by omega), by rw [List.getElem?_eq_getElem]⟩
   have HPK : Hid _ := hpk
   obtain ⟨y0, y1⟩ := ((hat k' p hpk).below (hb.trans (hw1.mono hb.size)) hbs).grown
   have gx0 := gcell HBX.out 0 rfl
   have gb3 := gcell hboxr.out 3 rfl
   have HTRI := bytesLess_tri s.name.toList p.name.toList
   have HT : Hid _ := HTRI
   clear HTRI hpk hat hne
   cases hle : Op.bytesLess p.name.toList s.name.toList
   ·have HNO : Hid (btAtB B (k' + 1) = false) := by unfold Hid btAtB; rw [HSK.out]; simp [HPK.out, hle]
    have hle2 : (Op.bytesLess s.name.toList p.name.toList || s.name.toList == p.name.toList) = true := by rw [HT.out, hle]; rfl
    clear hle
    go_wp2
    clear x0 x1
    refine wp_region_quiet_below (by kernel_rfl) (by kernel_rfl) ?_
    repeat (first | go_big_quiet_step (fail) | quiet_step (fail))
    refine wpQuiet_nil ?_
    intro w2 hw'
    obtain ⟨⟨dq, osq⟩, hw''⟩ := hw'
    have hb2 : Below (wr.alloc (.cells #[.string s.name, .bool s.drain] 147)).heap.size (wr.alloc (.cells #[.string s.name, .bool s.drain] 147)) w2 := by rw [hw'']; exact below_regrown _ _ _
    clear hw''
    go_wp2
    go_ret
    exact ⟨ret_bool (allTo_no hlt HNO.out).symm, hbr.trans (hb2.mono hbr.size)⟩
   ·have hle2 : (Op.bytesLess s.name.toList p.name.toList || s.name.toList == p.name.toList) = false := by rw [HT.out, hle]; rfl
    have HLE : Hid _ := hle
    clear hle
    go_wp2
    clear x0 x1
    refine wp_region_quiet_below (by kernel_rfl) (by kernel_rfl) ?_
    repeat (first | go_big_quiet_step (fail) | quiet_step (fail))
    refine wpQuiet_nil ?_
    intro w2 hw'
    obtain ⟨⟨dq, osq⟩, hw''⟩ := hw'
    have hb2 : Below (wr.alloc (.cells #[.string s.name, .bool s.drain] 147)).heap.size (wr.alloc (.cells #[.string s.name, .bool s.drain] 147)) w2 := by rw [hw'']; exact below_regrown _ _ _
    clear hw''
    clear gx0 gb3 hle2 y0 y1
    have hbr2 := hbr.trans (hb2.mono hbr.size)
    have bxr : Hid _ := below_blk hb2 HBX.out (by rw [HSZ.out]; omega)
    have box2 : Hid _ := below_blk hb2 hboxr.out (by rw [HSZ.out]; omega)
    have hz2 : wr.heap.size < w2.heap.size := by have := hb2.size; rw [HSZ.out] at this; omega
    have r0 := blk_cell bxr.out 0 rfl
    cases hver : nameB s.name
    ·have HNO : Hid (btAtB B (k' + 1) = false) := by unfold Hid btAtB; rw [HSK.out]; simp [hver]
     go_wp2_with (go_at_call 161; refine (isName_any _ _ hmem).mono ?_; rintro e w' ⟨rfl, rfl⟩)
     go_ret
     exact ⟨ret_bool (allTo_no hlt HNO.out).symm, hbr2⟩
    have HYES : Hid (btAtB B (k' + 1) = true) := by unfold Hid btAtB; rw [HSK.out]; simp [hver, HPK.out, HLE.out]
    go_wp2_with (go_at_call 161; refine (isName_any _ _ hmem).mono ?_; rintro e w' ⟨rfl, rfl⟩)
    go_roundw
    case rel => exact ⟨(k' + 1) + 1, by omega, by go_num, hbr2, box2, upTo_step hall.out HYES.out⟩
    case measure => simp [intOf]; omega
  ·go_wp2
   go_ret
   exact ⟨ret_bool (allTo_yes fun i hi => hall.out i (by omega)).symm, hb⟩
end Go.Proofs.YtbceafpodamnfabGreatDoor

namespace Go.Proofs.YtbceafpodamnfabGreatDoor
open Go.RowKit Go.Sort Go.Maps
theorem Tryz.laidOutB : laidOutB Tryz.prog = true := by kernel_rfl
theorem thingRow : (214 : TypeId) < Tryz.prog.types.size := of_decide_eq_true (by kernel_rfl)
theorem thingWide : (match Tryz.prog.underlying 214 with | some (.array _ _) | some (.struct _) => true | _ => false) = true := by kernel_rfl
set_option maxRecDepth 100000 in
theorem thingLaw : Keyed Tryz.prog 214 := Keyed.of_law (deep_law_laid Tryz.laidOutB (m := 3) (by omega) thingRow (by kernel_rfl) thingWide)
theorem thingCells : Tryz.prog.cellsOf 214 = 2 := by kernel_rfl
theorem thingKey : Tryz.prog.keyType 214 = true := by kernel_rfl
theorem intCells : Tryz.prog.cellsOf 3 = 1 := by kernel_rfl
theorem stringCells : Tryz.prog.cellsOf 9 = 1 := by kernel_rfl
theorem zeroInt (w : World) : (zeroValue 3).run Tryz.prog w = .ok (.int .i64 0) w := by kernel_rfl
def key (kd : Int) (s : ByteArray) : Lit := .string (keyBytes [.int .i64 kd, .string s.data.toList])
theorem key_ok (kd : Int) (s : ByteArray) (hk : (Lit.int .i64 kd).wf = true) (hs : s.size ≤ maxLen) : keyOf Tryz.prog 214 (.agg #[.int .i64 kd, .string s]) = some (key kd s) := by
 have hf : (Value.agg #[.int .i64 kd, .string s]).formed Tryz.prog 214 = true := by
  simp [Value.formed, Tryz.underlying214, thingCells]
 unfold keyOf
 rw [Tryz.underlying214]
 simp only [thingKey, hf, Bool.and_self, if_true]
 generalize hn : Tryz.prog.types.size = n
 match n, hn with
 | 0, hn => have := thingRow; rw [hn] at this; exact absurd this (Nat.not_lt_zero _)
 | n + 1, _ =>
  simp [Program.keyLits, Tryz.underlying214, thingCells, intCells, stringCells, Tryz.underlying3, Tryz.underlying9, Value.cells, hk, hs, key]
theorem key_inj {kd kd' : Int} {s s' : ByteArray} (hk : (Lit.int .i64 kd).wf = true) (hk' : (Lit.int .i64 kd').wf = true) (hs : s.size ≤ maxLen) (hs' : s'.size ≤ maxLen) (h : key kd s = key kd' s') : kd = kd' ∧ s = s' := by
 have h1 := key_ok kd s hk hs
 have h2 := key_ok kd' s' hk' hs'
 rw [← h] at h2
 have := thingLaw.inj h1 h2
 simpa using this
theorem run_makeMap_n (n : Int) (w : World) : (Instr.makeMap 210 (some (.int .i64 n))).run Tryz.prog w = .ok (.map (some w.heap.size)) (w.alloc (.map #[] 0)) := by
 simp [Instr.makeMap, run_underlying Tryz.underlying210, asInt, asIntOf]
theorem wf1 : (Lit.int .i64 1).wf = true := by decide
theorem wf2 : (Lit.int .i64 2).wf = true := by decide
theorem key_isKey (kd : Int) (s : ByteArray) : WideAt.IsKeyLit (key kd s) := trivial
theorem key_ne_name {kd : Int} {s s' : ByteArray} (hk : (Lit.int .i64 kd).wf = true) (hs : s.size ≤ maxLen) (hs' : s'.size ≤ maxLen) (h : s ≠ s') : key kd s ≠ key kd s' := fun e => h (key_inj hk hk hs hs' e).2
theorem key_ne_kind {s s' : ByteArray} (hs : s.size ≤ maxLen) (hs' : s'.size ≤ maxLen) : key 1 s ≠ key 2 s' := fun e => absurd (key_inj wf1 wf2 hs hs' e).1 (by decide)
def uniqS (B : Bk) : Prop := ∀ (i j : Nat) s t, i < j → B.svcs[i]? = some s → B.svcs[j]? = some t → s.name ≠ t.name
def PlacesAt (w : World) (b : Nat) (B : Bk) (ks kb : Nat) : Prop := ∃ (n : Nat) (D : DataW Unit), n ≤ ks + kb ∧ w.ownsMap Tryz.prog 214 (plainElem Tryz.prog 3) b n D ∧
 (∀ x : ByteArray, x.size ≤ maxLen → (∀ (i : Nat) s, i < ks → B.svcs[i]? = some s → s.name ≠ x) → Maps.has D (key 1 x) = false) ∧
 (∀ (i : Nat) s, i < ks → B.svcs[i]? = some s → Maps.has D (key 1 s.name) = true ∧ D.atKey (key 1 s.name) (.lit (.int .i64 0)) = .lit (.int .i64 i)) ∧
 (∀ x : ByteArray, x.size ≤ maxLen → (∀ (i : Nat) s, i < kb → B.bts[i]? = some s → s.name ≠ x) → Maps.has D (key 2 x) = false) ∧
 (∀ (i : Nat) s, i < kb → B.bts[i]? = some s → Maps.has D (key 2 s.name) = true)
theorem PlacesAt.blk {w w' : World} {b : Nat} {B : Bk} {ks kb : Nat} (h : PlacesAt w b B ks kb) (hb : w'.heap[b]? = w.heap[b]?) : PlacesAt w' b B ks kb := by
 obtain ⟨n, D, hn, ⟨es, clock, he, F, hs, hD⟩, r⟩ := h
 exact ⟨n, D, hn, ⟨es, clock, by rw [hb]; exact he, F, hs, hD⟩, r⟩
theorem PlacesAt.below {w w' : World} {b N : Nat} {B : Bk} {ks kb : Nat} (h : PlacesAt w b B ks kb) (hb : Below N w w') (hN : b < N) : PlacesAt w' b B ks kb := h.blk (hb.block b hN)
theorem PlacesAt.lt {w : World} {b : Nat} {B : Bk} {ks kb : Nat} (h : PlacesAt w b B ks kb) : b < w.heap.size := by
 obtain ⟨n, D, hn, hown, _⟩ := h
 exact hown.lt
theorem PlacesAt.start (w : World) (B : Bk) : PlacesAt (w.alloc (.map #[] 0)) w.heap.size B 0 0 :=
 ⟨0, .map [], Nat.le_refl _, World.ownsMap_made w _ _ _, fun _ _ _ => rfl, fun i s hi => absurd hi (by omega), fun _ _ _ => rfl, fun i s hi => absurd hi (by omega)⟩
theorem PlacesAt.stepS {w' : World} {b : Nat} {B : Bk} {k n : Nat} {D : DataW Unit} {s : Svc} (hz : ∀ s ∈ B.svcs, s.name.size ≤ maxLen) (_hzb : ∀ s ∈ B.bts, s.name.size ≤ maxLen) (hu : uniqS B) (hsk : B.svcs[k]? = some s)
  (hn : n ≤ k + 0) (h1 : ∀ x : ByteArray, x.size ≤ maxLen → (∀ (i : Nat) s, i < k → B.svcs[i]? = some s → s.name ≠ x) → Maps.has D (key 1 x) = false)
  (h2 : ∀ (i : Nat) s, i < k → B.svcs[i]? = some s → Maps.has D (key 1 s.name) = true ∧ D.atKey (key 1 s.name) (.lit (.int .i64 0)) = .lit (.int .i64 i))
  (h3 : ∀ x : ByteArray, x.size ≤ maxLen → (∀ (i : Nat) s, i < 0 → B.bts[i]? = some s → s.name ≠ x) → Maps.has D (key 2 x) = false)
  (hD : IsMap D)
  (hown : w'.ownsMap Tryz.prog 214 (plainElem Tryz.prog 3) b (n + 1) (D.put (key 1 s.name) (.lit (.int .i64 (k : Int))))) : PlacesAt w' b B (k + 1) 0 := by
 have hss := hz s (List.mem_of_getElem? hsk)
 refine ⟨n + 1, _, by omega, hown, fun x hx hno => ?_, fun i t hi ht => ?_, fun x hx hno => ?_, fun i t hi => absurd hi (by omega)⟩
 ·rw [has_put_other (key_ne_name wf1 hx hss (fun e => hno k s (by omega) hsk e.symm))]
  exact h1 x hx fun i t hi ht => hno i t (by omega) ht
 ·rcases Nat.lt_or_ge i k with h' | h'
  ·have hts := hz t (List.mem_of_getElem? ht)
   have hne := key_ne_name wf1 hts hss (hu i k t s h' ht hsk)
   rw [has_put_other hne, atKey_put_other hne]
   exact h2 i t h' ht
  ·have e : i = k := by omega
   subst e
   rw [hsk] at ht
   cases ht
   exact ⟨has_put_same hD (key_isKey _ _) _, atKey_put_same hD (key_isKey _ _) _ _⟩
 ·rw [has_put_other (fun e => key_ne_kind hss hx e.symm)]
  exact h3 x hx fun i t hi => absurd hi (by omega)
theorem PlacesAt.stepB {w' : World} {b : Nat} {B : Bk} {ks k n : Nat} {D : DataW Unit} {s : Bt} (hz : ∀ s ∈ B.svcs, s.name.size ≤ maxLen) (hzb : ∀ s ∈ B.bts, s.name.size ≤ maxLen) (hsk : B.bts[k]? = some s)
  (hn : n ≤ ks + k) (h1 : ∀ x : ByteArray, x.size ≤ maxLen → (∀ (i : Nat) s, i < ks → B.svcs[i]? = some s → s.name ≠ x) → Maps.has D (key 1 x) = false)
  (h2 : ∀ (i : Nat) s, i < ks → B.svcs[i]? = some s → Maps.has D (key 1 s.name) = true ∧ D.atKey (key 1 s.name) (.lit (.int .i64 0)) = .lit (.int .i64 i))
  (h3 : ∀ x : ByteArray, x.size ≤ maxLen → (∀ (i : Nat) s, i < k → B.bts[i]? = some s → s.name ≠ x) → Maps.has D (key 2 x) = false)
  (h4 : ∀ (i : Nat) s, i < k → B.bts[i]? = some s → Maps.has D (key 2 s.name) = true)
  (hD : IsMap D) (d : DataW Unit)
  (hown : w'.ownsMap Tryz.prog 214 (plainElem Tryz.prog 3) b (n + 1) (D.put (key 2 s.name) d)) : PlacesAt w' b B ks (k + 1) := by
 have hss := hzb s (List.mem_of_getElem? hsk)
 refine ⟨n + 1, _, by omega, hown, fun x hx hno => ?_, fun i t hi ht => ?_, fun x hx hno => ?_, fun i t hi ht => ?_⟩
 ·rw [has_put_other (key_ne_kind hx hss)]
  exact h1 x hx hno
 ·have hts := hz t (List.mem_of_getElem? ht)
  rw [has_put_other (key_ne_kind hts hss), atKey_put_other (key_ne_kind hts hss)]
  exact h2 i t hi ht
 ·rw [has_put_other (key_ne_name wf2 hx hss (fun e => hno k s (by omega) hsk e.symm))]
  exact h3 x hx fun i t hi ht => hno i t (by omega) ht
 ·by_cases he : t.name = s.name
  ·rw [he]; exact has_put_same hD (key_isKey _ _) _
  ·have hts := hzb t (List.mem_of_getElem? ht)
   rw [has_put_other (key_ne_name wf2 hts hss he)]
   rcases Nat.lt_or_ge i k with h' | h'
   ·exact h4 i t h' ht
   ·have e : i = k := by omega
    subst e
    rw [hsk] at ht
    cases ht
    exact absurd rfl he
end Go.Proofs.YtbceafpodamnfabGreatDoor

namespace Go.Proofs.YtbceafpodamnfabGreatDoor
open Go.RowKit Go.Sort Go.Maps
set_option maxHeartbeats 4000000 in
theorem placesIn_any (B : Bk) (a1 a2 a3 : Option Addr) (c1 c2 c3 : Nat) (w : World) (hS : B.small) (hZ : B.sized) (hU : uniqS B) (hB : BkAt w a1 a2 a3 B) :
  Calls Tryz.prog 162 #[.agg #[.int .i64 B.now, .slice a1 B.svcs.length c1, .slice a2 B.cps.length c2, .slice a3 B.bts.length c3]] w fun e w' => e = .returned (.map (some (w.heap.size + 1))) ∧ PlacesAt w' (w.heap.size + 1) B B.svcs.length B.bts.length ∧ Below w.heap.size w w' := by
 obtain ⟨hl1, hl2, hl3⟩ := hS
 have hmm := run_makeMap_n
 obtain ⟨t0, t1, t2⟩ := two_new w (.cells #[.int .i64 B.now, .slice a1 B.svcs.length c1, .slice a2 B.cps.length c2, .slice a3 B.bts.length c3] 36) (.map #[] 0)
 have T0 : Hid _ := t0
 have T1 : Hid (PlacesAt ((w.alloc (.cells #[.int .i64 B.now, .slice a1 B.svcs.length c1, .slice a2 B.cps.length c2, .slice a3 B.bts.length c3] 36)).alloc (.map #[] 0)) (w.heap.size + 1) B 0 0) := by
  have := PlacesAt.start (w.alloc (.cells #[.int .i64 B.now, .slice a1 B.svcs.length c1, .slice a2 B.cps.length c2, .slice a3 B.bts.length c3] 36)) B
  have e : (w.alloc (.cells #[.int .i64 B.now, .slice a1 B.svcs.length c1, .slice a2 B.cps.length c2, .slice a3 B.bts.length c3] 36)).heap.size = w.heap.size + 1 := by show (w.heap.push _).size = _; simp
  rw [e] at this
  exact this
 clear t0 t1 t2
 go_enter Tryz.func162, Tryz.ntmps162
 go_wp2
 clear hmm
 go_loopw [19] (fun iv wr => ∃ k : Nat, k ≤ B.svcs.length ∧ iv = .int .i64 k ∧ Below w.heap.size w wr ∧ Hid (wr.heap[w.heap.size]? = some (.cells #[.int .i64 B.now, .slice a1 B.svcs.length c1, .slice a2 B.cps.length c2, .slice a3 B.bts.length c3] 36 (0, 0))) ∧ Hid (PlacesAt wr (w.heap.size + 1) B k 0)) (fun i _ => B.svcs.length - (intOf i).toNat)
 case atStart => exact ⟨0, by omega, rfl, ((Below.refl _ _).alloc (Nat.le_refl _) _).alloc (by simp) _, T0, T1⟩
 case round =>
  obtain ⟨k, hk, rfl, hb, hbox, hpl⟩ := hrel
  have hNlt : w.heap.size + 1 < wr.heap.size := hpl.out.lt
  by_cases hlt : k < B.svcs.length
  ·have hne : B.svcs ≠ [] := by intro h; rw [h] at hlt; simp at hlt
   obtain ⟨b, off, ea, hbs, hat⟩ := hB.1 hne
   subst ea
   obtain ⟨s, hsk⟩ : ∃ s, B.svcs[k]? = some s := ⟨B.svcs[k], by simp [hlt]⟩
   have hmem := hZ.2.2.2.1 s (List.mem_of_getElem? hsk)
   have HSK : Hid _ := hsk
   have hcs := (hat k s hsk).below hb hbs
   unfold SvcAt at hcs
   obtain ⟨x0, x1, x2, x3, x4, x5, x6, x7, x8, x9, x10, x11, x12⟩ := hcs
   obtain ⟨n, D, hn, hown, h1, h2, h3, h4⟩ := hpl.out
   have H1 : Hid _ := h1
   have H2 : Hid _ := h2
   have H3 : Hid _ := h3
   have hnn : n < maxLen := by unfold maxLen; omega
   clear hsk hat hne h1 h2 h3 h4
   go_wp2_with (at_mapUpdate; refine wpList_mapUpdate_own _ rfl (.tmp 24) (.tmp 27) (.tmp 28) 210 rfl 214 3 thingLaw Tryz.underlying210 (plainElem Tryz.prog 3) (w.heap.size + 1) n D rfl (hown.alloc _) hnn _ _ _ rfl rfl (key_ok 1 s.name wf1 hmem) _ [] (plainElem_int Tryz.underlying3 (WalkArith.wf_i64 (by omega))) ?_; intro w1 hown1 hgrow1)
   have hsz : (wr.alloc (.cells #[.string s.name, .int .i64 s.version, .bool s.gone, .int .i64 s.image, .int .i64 s.want, .int .i64 s.down, .int .i64 s.over, .int .i64 s.next, .int .i64 s.per, .int .i64 s.least, .int .i64 s.most, .int .i64 s.load, .int .i64 s.cool] 67)).heap.size = wr.heap.size + 1 := by show (wr.heap.push _).size = _; simp
   have hb1 : Below w.heap.size w w1 := (hb.alloc hb.size _).grown hgrow1 (by rw [hsz]; omega) (fun j hj => by cases hj; omega)
   have hbox1 : Hid _ := (hgrow1.block w.heap.size (by rw [hsz]; omega) (fun e => by have := Option.some.inj e; omega)).trans (below_blk (below_box wr (.cells #[.string s.name, .int .i64 s.version, .bool s.gone, .int .i64 s.image, .int .i64 s.want, .int .i64 s.down, .int .i64 s.over, .int .i64 s.next, .int .i64 s.per, .int .i64 s.least, .int .i64 s.most, .int .i64 s.load, .int .i64 s.cool] 67)) hbox.out (by omega))
   have hpl1 : Hid _ := PlacesAt.stepS hZ.2.2.2.1 hZ.2.2.2.2.2 hU HSK.out hn H1.out H2.out H3.out hown.isMap hown1
   go_roundw
   case rel => exact ⟨k + 1, by omega, by go_num, hb1, hbox1, hpl1⟩
   case measure => simp [intOf]; omega
  ·have hkl : k = B.svcs.length := by omega
   subst hkl
   have e3 := blk_cell hbox.out 3 rfl
   go_wp2
   clear e3
   go_loopw [33] (fun iv wr => ∃ k : Nat, k ≤ B.bts.length ∧ iv = .int .i64 k ∧ Below w.heap.size w wr ∧ Hid (wr.heap[w.heap.size]? = some (.cells #[.int .i64 B.now, .slice a1 B.svcs.length c1, .slice a2 B.cps.length c2, .slice a3 B.bts.length c3] 36 (0, 0))) ∧ Hid (PlacesAt wr (w.heap.size + 1) B B.svcs.length k)) (fun i _ => B.bts.length - (intOf i).toNat)
   case atStart => exact ⟨0, by omega, rfl, hb, hbox, hpl⟩
   case round =>
    clear hb hbox hpl hNlt hlt
    rename_i wr0 _
    obtain ⟨k, hk, rfl, hb, hbox, hpl⟩ := hrel
    have hNlt : w.heap.size + 1 < wr.heap.size := hpl.out.lt
    by_cases hlt : k < B.bts.length
    ·have hne : B.bts ≠ [] := by intro h; rw [h] at hlt; simp at hlt
     obtain ⟨b, off, ea, hbs, hat⟩ := hB.2.2 hne
     subst ea
     obtain ⟨s, hsk⟩ : ∃ s, B.bts[k]? = some s := ⟨B.bts[k], by simp [hlt]⟩
     have hmem := hZ.2.2.2.2.2 s (List.mem_of_getElem? hsk)
     have HSK : Hid _ := hsk
     have hcs := (hat k s hsk).below hb hbs
     unfold BtAt at hcs
     obtain ⟨x0, x1⟩ := hcs
     obtain ⟨n, D, hn, hown, h1, h2, h3, h4⟩ := hpl.out
     have H1 : Hid _ := h1
     have H2 : Hid _ := h2
     have H3 : Hid _ := h3
     have H4 : Hid _ := h4
     have hnn : n < maxLen := by unfold maxLen; omega
     clear hsk hat hne h1 h2 h3 h4
     go_wp2_with (at_mapUpdate; refine wpList_mapUpdate_own _ rfl (.tmp 38) (.tmp 41) (.tmp 42) 210 rfl 214 3 thingLaw Tryz.underlying210 (plainElem Tryz.prog 3) (w.heap.size + 1) n D rfl (hown.alloc _) hnn _ _ _ rfl rfl (key_ok 2 s.name wf2 hmem) _ [] (plainElem_int Tryz.underlying3 (WalkArith.wf_i64 (by omega))) ?_; intro w1 hown1 hgrow1)
     have hsz : (wr.alloc (.cells #[.string s.name, .bool s.drain] 147)).heap.size = wr.heap.size + 1 := by show (wr.heap.push _).size = _; simp
     have hb1 : Below w.heap.size w w1 := (hb.alloc hb.size _).grown hgrow1 (by rw [hsz]; omega) (fun j hj => by cases hj; omega)
     have hbox1 : Hid _ := (hgrow1.block w.heap.size (by rw [hsz]; omega) (fun e => by have := Option.some.inj e; omega)).trans (below_blk (below_box wr (.cells #[.string s.name, .bool s.drain] 147)) hbox.out (by omega))
     have hpl1 : Hid _ := PlacesAt.stepB hZ.2.2.2.1 hZ.2.2.2.2.2 HSK.out hn H1.out H2.out H3.out H4.out hown.isMap _ hown1
     go_roundw
     case rel => exact ⟨k + 1, by omega, by go_num, hb1, hbox1, hpl1⟩
     case measure => simp [intOf]; omega
    ·go_wp2
     go_ret
     have hkl : k = B.bts.length := by omega
     subst hkl
     exact ⟨rfl, hpl.out, hb⟩
end Go.Proofs.YtbceafpodamnfabGreatDoor
