/-
  My own: Ta, Rb.
-/
import Derived.Test.YtbceafpodamnfabGreatDoorG01
import Derived.Test.YtbceafpodamnfabGreatDoorG07
set_option linter.unusedVariables false
set_option linter.unusedSimpArgs false
namespace Go.Proofs.YtbceafpodamnfabGreatDoor
open Go.RowKit Go.Sort
structure En where
 number : Int
 seen : Int
structure Ac where
 service : ByteArray
 seen : Int
 create : Int
 want : Int
 cool : Int
 scale : Bool
 ends : List En
 drop : Bool
def EnAt (w : World) (b o : Nat) (s : En) : Prop := w.cell? ⟨b, o, none⟩ = some (.int .i64 s.number) ∧ w.cell? ⟨b, o + 1, none⟩ = some (.int .i64 s.seen)
def EnsAt (w : World) (b off : Nat) (l : List En) : Prop := ∀ i s, l[i]? = some s → EnAt w b (off + i * 2) s
theorem EnAt.below {B : Nat} {w w' : World} {b o : Nat} {s : En} (h : EnAt w b o s) (hb : Below B w w') (hB : b < B) : EnAt w' b o s := by
 unfold EnAt at *
 simp only [fun o => hb.cell (p := ⟨b, o, none⟩) hB]
 exact h
def En.cells (s : En) : List Value := (#[.int .i64 s.number, .int .i64 s.seen] : Array Value).toList
theorem one_En (s : En) : (#[.int .i64 s.number, .int .i64 s.seen] : Array Value).all (·.oneCell') = true := by simp [Value.oneCell']
theorem ensAt_of_filled {w : World} {b : Nat} {cur : Array Value} {t : TypeId} {fr : Nat × Nat} {l : List En} (h : w.heap[b]? = some (.cells cur t fr)) (hf : Filled En.cells 2 l l.length cur.toList) : EnsAt w b 0 l := by
 intro i s hs
 have hi : i < l.length := by
  rcases Nat.lt_or_ge i l.length with h | h
  ·exact h
  ·rw [List.getElem?_eq_none h] at hs; cases hs
 have := hf.2 i s hi hs
 unfold EnAt
 simp only [cell_row h, Nat.zero_add]
 refine ⟨?_, ?_⟩
 ·exact this 0 (by omega)
 ·exact this 1 (by omega)
def SlE (w : World) (ao : Option Addr) (l : List En) : Prop := l ≠ [] → ∃ b off, ao = some ⟨b, off, none⟩ ∧ b < w.heap.size ∧ EnsAt w b off l
theorem SlE.below {w w' : World} {ao : Option Addr} {l : List En} (h : SlE w ao l) (hb : Below w.heap.size w w') : SlE w' ao l := fun hl =>
 let ⟨b, off, e, hlt, hat⟩ := h hl
 ⟨b, off, e, Nat.lt_of_lt_of_le hlt hb.size, fun i s hs => (hat i s hs).below hb hlt⟩
theorem EnAt.grown {w : World} {b o : Nat} {s : En} (h : EnAt w b o s) : (∀ p : Regrown, (grow (redrawn w p.d) p.os).cell? ⟨b, o, none⟩ = some (.int .i64 s.number)) ∧ (∀ p : Regrown, (grow (redrawn w p.d) p.os).cell? ⟨b, o + 1, none⟩ = some (.int .i64 s.seen)) := by
 unfold EnAt at h
 obtain ⟨c0, c1⟩ := h
 exact ⟨fun p => cell_regrown c0 p.d p.os, fun p => cell_regrown c1 p.d p.os⟩
theorem Tryz.infoEnd : (Tryz.prog.info? 155).map (fun i => (i.zero, i.size, i.bytes)) = some (some (.agg #[.int .i64 0, .int .i64 0]), 2, 16) := by kernel_rfl
theorem Tryz.infosEnd : (Tryz.prog.info? 155).map (·.size) = some 2 := by kernel_rfl
end Go.Proofs.YtbceafpodamnfabGreatDoor

namespace Go.Proofs.YtbceafpodamnfabGreatDoor
open Go.RowKit
def ascE : List En → Bool
 | x :: y :: l => decide (x.number < y.number) && ascE (y :: l)
 | _ => true
theorem ascE_iff : ∀ l : List En, ascE l = true ↔ ∀ i x y, l[i]? = some x → l[i + 1]? = some y → x.number < y.number
 | [] => by simp [ascE]
 | [x] => by simp [ascE]
 | x :: y :: l => by
  unfold ascE
  rw [Bool.and_eq_true, decide_eq_true_eq, ascE_iff (y :: l)]
  constructor
  ·rintro ⟨h1, h2⟩ i a b ha hb
   match i, ha, hb with
   | 0, ha, hb => obtain rfl := Option.some.inj ha; obtain rfl := Option.some.inj hb; exact h1
   | i + 1, ha, hb => exact h2 i a b (by simpa using ha) (by simpa using hb)
  ·intro h
   exact ⟨h 0 x y rfl rfl, fun i a b ha hb => h (i + 1) a b (by simpa using ha) (by simpa using hb)⟩
theorem ascE_no {l : List En} {i : Nat} {x y : En} (hx : l[i]? = some x) (hy : l[i + 1]? = some y) (h : ¬ x.number < y.number) : ascE l = false := by
 cases ha : ascE l
 ·rfl
 ·exact absurd ((ascE_iff l).1 ha i x y hx hy) h
def actOkB (A : Ac) : Bool := inB A.create 0 20 && decide (A.ends.length ≤ 200) && ascE A.ends && (if A.scale then inB A.want 0 10 && inB A.cool 0 3 else A.want == 0 && A.cool == 0) && (!A.drop || (A.create == 0 && !A.scale && A.ends.length == 0))
set_option maxRecDepth 100000 in
set_option maxHeartbeats 8000000 in
theorem l4ActOk_any (A : Ac) (ae : Option Addr) (ce : Nat) (w : World) (hl : A.ends.length ≤ 1048576) (hE : SlE w ae A.ends) :
  Calls Tryz.prog 91 #[.agg #[.string A.service, .int .i64 A.seen, .int .i64 A.create, .int .i64 A.want, .int .i64 A.cool, .bool A.scale, .slice ae A.ends.length ce, .bool A.drop]] w fun e w' => e = .returned (.bool (actOkB A)) ∧ Below w.heap.size w w' := by
 have T0 : Hid _ := heap_alloc_new w (.cells #[.string A.service, .int .i64 A.seen, .int .i64 A.create, .int .i64 A.want, .int .i64 A.cool, .bool A.scale, .slice ae A.ends.length ce, .bool A.drop] 42)
 have hb0 := below_box w (.cells #[.string A.service, .int .i64 A.seen, .int .i64 A.create, .int .i64 A.want, .int .i64 A.cool, .bool A.scale, .slice ae A.ends.length ce, .bool A.drop] 42)
 by_cases hgood : inB A.create 0 20 = true ∧ A.ends.length ≤ 200
 rotate_left
 ·have HO : Hid (actOkB A = false) := by
   unfold Hid actOkB
   cases h1 : inB A.create 0 20
   ·rfl
   ·have : ¬ A.ends.length ≤ 200 := fun h => hgood ⟨h1, h⟩
    simp [this]
  go_enter Tryz.func91, Tryz.ntmps91
  cases hc : inB A.create 0 20
  ·clear hgood
   go_wp2_with (go_at_call 86; refine (l1In_any _ _ _ _).mono ?_; rintro e w' ⟨rfl, rfl⟩)
   go_ret
   exact ⟨ret_bool HO.out.symm, hb0⟩
  ·have hn : ¬ A.ends.length ≤ 200 := fun h => hgood ⟨hc, h⟩
   clear hgood
   go_wp2_with (go_at_call 86; refine (l1In_any _ _ _ _).mono ?_; rintro e w' ⟨rfl, rfl⟩)
   go_ret
   exact ⟨ret_bool HO.out.symm, hb0⟩
 obtain ⟨hcr, hle⟩ := hgood
 have HO : Hid (actOkB A = (ascE A.ends && (if A.scale then inB A.want 0 10 && inB A.cool 0 3 else A.want == 0 && A.cool == 0) && (!A.drop || (A.create == 0 && !A.scale && A.ends.length == 0)))) := by
  unfold Hid actOkB
  simp [hcr, hle]
 go_enter Tryz.func91, Tryz.ntmps91
 go_wp2_with (go_at_call 86; refine (l1In_any _ _ _ _).mono ?_; rintro e w' ⟨rfl, rfl⟩)
 clear hcr
 go_loopw [3] (fun iv wr => ∃ k : Nat, 1 ≤ k ∧ (k = 1 ∨ k ≤ A.ends.length) ∧ iv = .int .i64 k ∧ Below w.heap.size w wr ∧ Hid (wr.heap[w.heap.size]? = some (.cells #[.string A.service, .int .i64 A.seen, .int .i64 A.create, .int .i64 A.want, .int .i64 A.cool, .bool A.scale, .slice ae A.ends.length ce, .bool A.drop] 42 (0, 0))) ∧ Hid (∀ i x y, i + 1 < k → A.ends[i]? = some x → A.ends[i + 1]? = some y → x.number < y.number)) (fun i _ => A.ends.length - (intOf i).toNat)
 case atStart => exact ⟨1, by omega, .inl rfl, rfl, hb0, T0, fun i x y h => absurd h (by omega)⟩
 case round =>
  clear hb0 T0
  obtain ⟨k, hk1, hk2, rfl, hb, hbox, hall⟩ := hrel
  have hNlt : w.heap.size < wr.heap.size := (Array.getElem?_eq_some_iff.1 hbox.out).1
  have e6 := blk_cell hbox.out 6 rfl
  by_cases hlt : k < A.ends.length
  ·obtain ⟨m, HM⟩ : ∃ m, Hid (k = m + 1) := ⟨k - 1, by unfold Hid; omega⟩
   have hmlt : m < A.ends.length := by have := HM.out; omega
   have hne : A.ends ≠ [] := by intro h; rw [h] at hlt; simp at hlt
   obtain ⟨b, off, ea, hbs, hat⟩ := hE hne
   subst ea
   obtain ⟨x, hx⟩ : ∃ x, A.ends[m]? = some x := ⟨A.ends[m], by simp [hmlt]⟩
   obtain ⟨y, hy⟩ : ∃ y, A.ends[k]? = some y := ⟨A.ends[k], by simp [hlt]⟩
   have hxx := hat m x hx
   have hyy := hat k y hy
   have HX : Hid _ := hx
   have HY : Hid (A.ends[m + 1]? = some y) := by unfold Hid; rw [← HM.out]; exact hy
   clear hx hy hat hne
   go_wp2
   clear e6
   refine wp_region_grows 13 (by kernel_rfl) (by kernel_rfl) ?_
   apply grow_eq
   ·intro V W K A hW hd hA hK
    simp only [putAll, pz1, pz2, pz3, pz4, Act.put, pz5, pz6, pz7] at hA
    clear hd
    obtain rfl := hA
    go_wp2
    exact hK.out _ brf
   apply grow_eq
   ·intro V W K A hW hd hA hK
    have d0 : V 0 = _ := hd 0 (by kernel_rfl)
    simp only [putAll, pz1, pz2, pz3, pz4, Act.put, pz5, pz6, pz7, d0] at hA
    clear hd d0
    obtain rfl := hA
    have e6 := blk_cell (below_blk hW hbox.out hNlt) 6 rfl
    go_wp2
    exact hK.out _ brf
   apply grow_eq
   ·intro V W K A hW hd hA hK
    simp only [putAll, pz1, pz2, pz3, pz4, Act.put, pz5, pz6, pz7] at hA
    clear hd
    obtain rfl := hA
    go_wp2
    exact hK.out _ brf
   refine grow_op (fun v W => v = .int .i64 (m : Int)) (fun _ _ _ h _ => h) ?_ ?_
   ·intro V W K A hW hd hA hK
    have d2 : V 2 = _ := hd 2 (by kernel_rfl)
    simp only [putAll, pz1, pz2, pz3, pz4, Act.put, pz5, pz6, pz7, d2] at hA
    clear hd d2
    obtain rfl := hA
    go_wp2
    exact hK.out _ _ brf (by have hm := HM.out; subst hm; go_num)
   apply grow_eq
   ·intro V W K A hW hd hA hK
    have d1 : V 1 = _ := hd 1 (by kernel_rfl)
    have d3 : (fun v W => v = .int .i64 (m : Int)) (V 3) W := hd 3 (by kernel_rfl)
    simp only [putAll, pz1, pz2, pz3, pz4, Act.put, pz5, pz6, pz7, d1] at hA
    clear hd d1
    generalize V 3 = x3 at d3 hA
    obtain rfl := hA
    obtain rfl := d3
    go_wp2
    exact hK.out _ brf
   apply grow_eq
   ·intro V W K A hW hd hA hK
    have d4 : V 4 = _ := hd 4 (by kernel_rfl)
    simp only [putAll, pz1, pz2, pz3, pz4, Act.put, pz5, pz6, pz7, d4] at hA
    clear hd d4
    obtain rfl := hA
    go_wp2
    exact hK.out _ brf
   apply grow_eq
   ·intro V W K A hW hd hA hK
    have d5 : V 5 = _ := hd 5 (by kernel_rfl)
    simp only [putAll, pz1, pz2, pz3, pz4, Act.put, pz5, pz6, pz7, d5] at hA
    clear hd d5
    obtain rfl := hA
    have hq := hxx.below (hb.trans (hW.mono hb.size)) hbs
    unfold EnAt at hq
    obtain ⟨q0, q1⟩ := hq
    go_wp2
    exact hK.out _ brf
   apply grow_eq
   ·intro V W K A hW hd hA hK
    simp only [putAll, pz1, pz2, pz3, pz4, Act.put, pz5, pz6, pz7] at hA
    clear hd
    obtain rfl := hA
    go_wp2
    exact hK.out _ brf
   apply grow_eq
   ·intro V W K A hW hd hA hK
    have d7 : V 7 = _ := hd 7 (by kernel_rfl)
    simp only [putAll, pz1, pz2, pz3, pz4, Act.put, pz5, pz6, pz7, d7] at hA
    clear hd d7
    obtain rfl := hA
    have e6 := blk_cell (below_blk hW hbox.out hNlt) 6 rfl
    go_wp2
    exact hK.out _ brf
   apply grow_eq
   ·intro V W K A hW hd hA hK
    simp only [putAll, pz1, pz2, pz3, pz4, Act.put, pz5, pz6, pz7] at hA
    clear hd
    obtain rfl := hA
    go_wp2
    exact hK.out _ brf
   apply grow_eq
   ·intro V W K A hW hd hA hK
    have d8 : V 8 = _ := hd 8 (by kernel_rfl)
    have d9 : V 9 = _ := hd 9 (by kernel_rfl)
    simp only [putAll, pz1, pz2, pz3, pz4, Act.put, pz5, pz6, pz7, d8, d9] at hA
    clear hd d8 d9
    obtain rfl := hA
    go_wp2
    exact hK.out _ brf
   apply grow_eq
   ·intro V W K A hW hd hA hK
    have d10 : V 10 = _ := hd 10 (by kernel_rfl)
    simp only [putAll, pz1, pz2, pz3, pz4, Act.put, pz5, pz6, pz7, d10] at hA
    clear hd d10
    obtain rfl := hA
    go_wp2
    exact hK.out _ brf
   apply grow_eq
   ·intro V W K A hW hd hA hK
    have d11 : V 11 = _ := hd 11 (by kernel_rfl)
    simp only [putAll, pz1, pz2, pz3, pz4, Act.put, pz5, pz6, pz7, d11] at hA
    clear hd d11
    obtain rfl := hA
    have hq := hyy.below (hb.trans (hW.mono hb.size)) hbs
    unfold EnAt at hq
    obtain ⟨q0, q1⟩ := hq
    go_wp2
    exact hK.out _ brf
   intro V W A hW hS hA
   have d0 : V 0 = _ := hS 0 (by omega)
   have d1 : V 1 = _ := hS 1 (by omega)
   have d2 : V 2 = _ := hS 2 (by omega)
   have d3 : (fun v W => v = .int .i64 (m : Int)) (V 3) W := hS 3 (by omega)
   have d4 : V 4 = _ := hS 4 (by omega)
   have d5 : V 5 = _ := hS 5 (by omega)
   have d6 : V 6 = _ := hS 6 (by omega)
   have d7 : V 7 = _ := hS 7 (by omega)
   have d8 : V 8 = _ := hS 8 (by omega)
   have d9 : V 9 = _ := hS 9 (by omega)
   have d10 : V 10 = _ := hS 10 (by omega)
   have d11 : V 11 = _ := hS 11 (by omega)
   have d12 : V 12 = _ := hS 12 (by omega)
   simp only [putAll, pz1, pz2, pz3, pz4, Act.put, pz5, pz6, pz7, d0, d1, d2, d4, d5, d6, d7, d8, d9, d10, d11, d12] at hA
   clear hS d0 d1 d2 d4 d5 d6 d7 d8 d9 d10 d11 d12
   generalize V 3 = x3 at d3 hA
   obtain rfl := hA
   simp only [List.drop_succ_cons, List.drop_zero]
   have hbw := hb.trans (hW.mono hb.size)
   have hbox2 : Hid _ := below_blk hW hbox.out hNlt
   obtain rfl := d3
   by_cases hxy : x.number < y.number
   ·have hc : decide (y.number ≤ x.number) = false := by simp; omega
    have HL : Hid (x.number < y.number) := hxy
    clear hxy hxx hyy hW
    go_wp2
    go_roundw
    case rel => exact ⟨k + 1, by omega, .inr (by omega), by go_num, hbw, hbox2, fun i x' y' hi hx' hy' => by
     have hkm := HM.out
     by_cases him : i = m
     ·subst him
      rw [HX.out] at hx'
      rw [HY.out] at hy'
      obtain rfl := Option.some.inj hx'
      obtain rfl := Option.some.inj hy'
      exact HL.out
     ·exact hall.out i x' y' (by omega) hx' hy'⟩
    case measure => simp [intOf]; omega
   ·have HF : Hid (ascE A.ends = false) := ascE_no HX.out HY.out hxy
    have hc : decide (y.number ≤ x.number) = true := by simp; omega
    clear hxy hxx hyy hW
    go_wp2
    go_ret
    exact ⟨ret_bool (by rw [HO.out, HF.out]; rfl), hbw⟩
  ·have HF : Hid (ascE A.ends = true) := (ascE_iff _).2 fun i x y hx hy => hall.out i x y (by have := (List.getElem?_eq_some_iff.1 hy).1; omega) hx hy
   have HO2 : Hid (actOkB A = ((if A.scale then inB A.want 0 10 && inB A.cool 0 3 else A.want == 0 && A.cool == 0) && (!A.drop || (A.create == 0 && !A.scale && A.ends.length == 0)))) := by unfold Hid; rw [HO.out, HF.out]; rfl
   have HLZ : Hid (((A.ends.length : Int) == 0) = (A.ends.length == 0)) := by
    unfold Hid
    rw [Bool.eq_iff_iff, beq_iff_eq, beq_iff_eq]
    omega
   clear HO HF hall
   have e2 := blk_cell hbox.out 2 rfl
   have e3 := blk_cell hbox.out 3 rfl
   have e4 := blk_cell hbox.out 4 rfl
   have e5 := blk_cell hbox.out 5 rfl
   have e7 := blk_cell hbox.out 7 rfl
   go_wp2_with (go_at_call 86; refine (l1In_any _ _ _ _).mono ?_; rintro e w' ⟨rfl, rfl⟩)
   all_goals
    go_ret
    refine ⟨ret_bool ?_, hb⟩
    rw [HO2.out]
    clear HO2 e2 e3 e4 e5 e6 e7
    try simp only [bne_iff_ne, ne_eq, bne_eq_false_iff_eq] at *
    simp [*, HLZ.out]
end Go.Proofs.YtbceafpodamnfabGreatDoor
