/-
  My own: Yd, Wl, Yb.
-/
import Derived.Test.YtbceafpodamnfabGreatDoorG00
import Derived.Test.YtbceafpodamnfabGreatDoorG04
import Derived.Test.YtbceafpodamnfabGreatDoorG01
import Derived.RangeFuncNested
import Derived.RangeFuncLeaves
import Derived.Shelf.Abstract
import Derived.OwnWalkIn
import Derived.TacticsInMore
import Derived.LoopNIn
import Derived.LoopIn
import Derived.Test.YtbceafpodamnfabGreatDoorG02
set_option linter.unusedVariables false
set_option linter.unusedSimpArgs false
namespace Go.Proofs.YtbceafpodamnfabGreatDoor
open Go.RowKit Go.Shelf
attribute [local go_sem] Oper.semAt_some
set_option maxHeartbeats 1000000 in
theorem copiesIn_in (F : Fence) (n : Nat) (h : F.fn 287) (hro : F.round = none) (B : Bk) (nm : ByteArray) (a1 a2 a3 : Option Addr) (c1 c2 c3 : Nat) (w : World) :
  CallsIn F n Tryz.prog 287 #[.agg #[.int .i64 B.now, .slice a1 B.svcs.length c1, .slice a2 B.cps.length c2, .slice a3 B.bts.length c3], .string nm] w fun e w' => e = .returned (.func (.func 348) #[] #[.pointer (some ⟨w.heap.size, 0, none⟩), .pointer (some ⟨w.heap.size + 1, 0, none⟩)]) ∧ w' = (w.alloc (.cells #[.int .i64 B.now, .slice a1 B.svcs.length c1, .slice a2 B.cps.length c2, .slice a3 B.bts.length c3] 36)).alloc (.cells #[.string nm] 9) := by
 refine callsIn_of_wp Tryz.func287 rfl h ?_ hro
 simp only [Tryz.ntmps287, List.size_toArray, List.length_cons, List.length_nil, Nat.reduceAdd, Nat.reduceSub, Array.replicate_succ, Array.replicate_zero, List.push_toArray, List.append_toArray, List.nil_append, List.cons_append]
 gi_wp2
 go_ret
 exact ⟨rfl, rfl⟩
def ofS (nm : ByteArray) (l : List Cp) : List Cp := l.filter fun c => c.service.toList == nm.toList
def ofG {α : Type} (g : α → Cp) (nm : ByteArray) (l : List α) : List α := l.filter fun c => (g c).service.toList == nm.toList
theorem ofG_cut {α : Type} (g : α → Cp) (nm : ByteArray) (l : List α) (f k : Nat) (hR : RiseC (l.map g))
  (h1 : ∀ (i : Nat) s, i < f → (l.map g)[i]? = some s → Op.bytesLess s.service.toList nm.toList = true)
  (h2 : ∀ (i : Nat) s, f ≤ i → (l.map g)[i]? = some s → Op.bytesLess s.service.toList nm.toList = false)
  (h3 : ∀ x ∈ (l.drop f).take k, ((g x).service.toList == nm.toList) = true)
  (h4 : ∀ x, (l.drop f)[k]? = some x → ((g x).service.toList == nm.toList) = false) : ofG g nm l = (l.drop f).take k := by
 have e : l = l.take f ++ ((l.drop f).take k ++ (l.drop f).drop k) := by rw [List.take_append_drop, List.take_append_drop]
 have at' : ∀ i x, l[i]? = some x → (l.map g)[i]? = some (g x) := fun i x h => by rw [List.getElem?_map, h]; rfl
 have f1 : (l.take f).filter (fun c => (g c).service.toList == nm.toList) = [] := List.filter_eq_nil_iff.2 fun x hx => by
  obtain ⟨i, hi⟩ := List.getElem?_of_mem hx
  have hif : i < f := by
   have := (List.getElem?_eq_some_iff.1 hi).1
   rw [List.length_take] at this
   omega
  rw [List.getElem?_take_of_lt hif] at hi
  have hb := h1 i _ hif (at' i x hi)
  intro hq
  rw [eq_of_beq hq, bytesLess_irrefl] at hb
  cases hb
 have f2 : ((l.drop f).take k).filter (fun c => (g c).service.toList == nm.toList) = (l.drop f).take k := List.filter_eq_self.2 h3
 have f3 : ((l.drop f).drop k).filter (fun c => (g c).service.toList == nm.toList) = [] := List.filter_eq_nil_iff.2 fun x hx => by
  obtain ⟨i, hi⟩ := List.getElem?_of_mem hx
  rw [List.getElem?_drop, List.getElem?_drop] at hi
  have hlt := (List.getElem?_eq_some_iff.1 hi).1
  obtain ⟨y, hy⟩ : ∃ y, l[f + k]? = some y := ⟨l[f + k]'(by omega), by rw [List.getElem?_eq_getElem]⟩
  have hyn := h4 y (by rw [List.getElem?_drop]; exact hy)
  have hyg := h2 (f + k) _ (by omega) (at' _ y hy)
  have ht := bytesLess_tri (g y).service.toList nm.toList
  rw [hyg, hyn] at ht
  have hlt2 : Op.bytesLess nm.toList (g y).service.toList = true := by simpa using ht.symm
  intro hq
  rcases Nat.eq_zero_or_pos i with h0 | h0
  ·subst h0
   rw [Nat.add_zero, hy] at hi
   cases hi
   rw [hq] at hyn
   cases hyn
  ·have hr := hR (f + k) (f + (k + i)) _ _ (by omega) (at' _ y hy) (at' _ x hi)
   rw [eq_of_beq hq, hlt2] at hr
   cases hr
 show l.filter _ = _
 conv => lhs; rw [e]
 rw [List.filter_append, List.filter_append, f1, f2, f3, List.append_nil, List.nil_append]
theorem ofG_long {α : Type} (g : α → Cp) (nm : ByteArray) (l : List α) (f k : Nat) (x : α) (hx : (l.drop f)[k]? = some x) (hq : ((g x).service.toList == nm.toList) = true)
  (h3 : ∀ x ∈ (l.drop f).take k, ((g x).service.toList == nm.toList) = true) : ((l.drop f).take k).length < (ofG g nm l).length := by
 have hk := (List.getElem?_eq_some_iff.1 hx).1
 have e : (l.drop f).take (k + 1) = (l.drop f).take k ++ [x] := by rw [List.take_add_one, hx]; rfl
 have hs : ((l.drop f).take (k + 1)).Sublist l := (List.take_sublist _ _).trans (List.drop_sublist _ _)
 have h := (hs.filter fun c => (g c).service.toList == nm.toList).length_le
 rw [List.filter_eq_self.2 (fun y hy => by
  rw [e, List.mem_append] at hy
  rcases hy with hy | hy
  ·exact h3 y hy
  ·rw [List.mem_singleton.1 hy]; exact hq), e, List.length_append] at h
 unfold ofG
 simp only [List.length_singleton] at h
 omega
theorem take_all {α : Type} (l : List α) (p : α → Bool) (k : Nat) (x : α) (hx : l[k]? = some x) (hq : p x = true) (h3 : ∀ x ∈ l.take k, p x = true) : ∀ x ∈ l.take (k + 1), p x = true := fun y hy => by
 rw [List.take_add_one, hx, List.mem_append] at hy
 rcases hy with hy | hy
 ·exact h3 y hy
 ·rw [List.mem_singleton.1 hy]; exact hq
def KpB (n₀ Bt : Nat) (W W' : World) : Prop := Below n₀ W W' ∧ W'.heap[Bt]? = W.heap[Bt]?
set_option maxRecDepth 100000 in
set_option maxHeartbeats 4000000 in
theorem copies1_in {α : Type} (g : α → Cp) (L : List α) (n : Nat) (hn : 1 ≤ n) (l Bb Bt n₀ : Nat) (B : Bk) (hLB : L.map g = B.cps) (nm : ByteArray) (a1 a2 a3 : Option Addr) (c1 c2 c3 : Nat) (hl2 : B.cps.length ≤ 1048576) (HSO : Hid (RiseC B.cps)) (HK : Hid (B.cps.length ≤ c2)) (J Jx : List α → World → Prop)
  (hY : ∀ pre x c W, g x = c → J pre W → pre.length < (ofG g nm L).length → YieldAt Fence.wide (n - 1) Tryz.prog l #[.agg #[.string c.service, .int .i64 c.number, .int .i64 c.version, .int .i64 c.image, .int .i64 c.state, .bool c.ending, .string c.berth]] W fun e W' =>
   (e = .returned (.bool true) ∧ J (pre ++ [x]) W' ∧ KpB n₀ Bt W W') ∨ (e = .returned (.bool false) ∧ Jx (pre ++ [x]) W'))
  (W : World) (hJa : AbidesFrom W.heap.size J) (hBb : W.heap[Bb]? = some (.cells #[.int .i64 B.now, .slice a1 B.svcs.length c1, .slice a2 B.cps.length c2, .slice a3 B.bts.length c3] 36 (0, 0)))
  (hBt : W.heap[Bt]? = some (.cells #[.string nm] 9 (0, 0))) (hC : B.cps ≠ [] → ∃ b off, a2 = some ⟨b, off, none⟩ ∧ b < n₀ ∧ CpsAt W b off B.cps) (hn0 : n₀ ≤ W.heap.size) (h0 : J [] W) :
  CallsIn Fence.wide n Tryz.prog 348 #[.func (.yield l) #[] #[], .pointer (some ⟨Bb, 0, none⟩), .pointer (some ⟨Bt, 0, none⟩)] W fun e W' => (∃ v, e = .returned v) ∧
   ((∃ ys, ys = ofG g nm L ∧ J ys W') ∨ (∃ pre, True ∧ Jx pre W')) := by
 have hbl : Bt < W.heap.size := (Array.getElem?_eq_some_iff.1 hBt).1
 have hbb : Bb < W.heap.size := (Array.getElem?_eq_some_iff.1 hBb).1
 have HBt : Hid _ := hBt
 have HBb : Hid _ := hBb
 have e2 := blk_cell hBb 2 rfl
 have et := blk_cell hBt 0 rfl
 have hSl : Hid (SlC W a2 B.cps) := fun hne => let ⟨b, off, e, hb, hat⟩ := hC hne; ⟨b, off, e, Nat.lt_of_lt_of_le hb hn0, hat⟩
 have hJb1 : ∀ w1, Below W.heap.size W w1 → J [] w1 := fun w1 hb => hJa _ _ _ none h0 ⟨hb.os, hb.tape, hb.output, hb.size, fun i hi _ => hb.block i hi⟩ (fun r e => by cases e)
 clear hBt hBb
 refine callsIn_of_wp Tryz.func348 rfl trivial ?_ rfl
 simp only [Tryz.ntmps348, List.size_toArray, List.length_cons, List.length_nil, Nat.reduceAdd, Nat.reduceSub, Array.replicate_succ, Array.replicate_zero, List.push_toArray, List.append_toArray, List.nil_append, List.cons_append]
 gi_wp2
 refine ⟨trivial, ?_⟩
 refine ((callsIn_wide (n := n - 1)).2 (bsC_any B.cps nm a2 B.cps.length c2 W rfl hl2 HSO hSl)).mono ?_
 rintro e w1 ⟨f, fd, rfl, hfn, hf1, hf2, hb1⟩
 have HF1 : Hid _ := hf1
 have HF2 : Hid _ := hf2
 clear hf1 hf2 e2 et
 have hJ1 : J [] w1 := hJb1 w1 hb1
 have BT1 : Hid _ := below_blk hb1 HBt.out hbl
 have hnb1 : Below n₀ W w1 := hb1.mono hn0
 have e2 := blk_cell (below_blk hb1 HBb.out hbb) 2 rfl
 have hLn : L.length = B.cps.length := by rw [← hLB, List.length_map]
 have hlt1 : n₀ ≤ w1.heap.size := Nat.le_trans hn0 hb1.size
 have hblt1 : Bt < w1.heap.size := Nat.lt_of_lt_of_le hbl hb1.size
 have hJa1 : ∀ s W1 o, J s W1 → J s (W1.alloc o) := fun s W1 o hs => hJa s _ _ none hs (World.grownBy_alloc W1 o none) (fun r e => by cases e)
 have HRG : Hid (RiseC (L.map g)) := by unfold Hid; rw [hLB]; exact HSO.out
 have HG1 : Hid (∀ (i : Nat) s, i < f → (L.map g)[i]? = some s → Op.bytesLess s.service.toList nm.toList = true) := by unfold Hid; rw [hLB]; exact HF1.out
 have HG2 : Hid (∀ (i : Nat) s, f ≤ i → (L.map g)[i]? = some s → Op.bytesLess s.service.toList nm.toList = false) := by unfold Hid; rw [hLB]; exact HF2.out
 clear HBb HBt hb1 hSl HF1 HF2 hJb1 hJa h0 HSO
 by_cases hfl : f < B.cps.length
 ·have hcf : ¬ (c2 = f) := by have := HK.out; omega
  obtain ⟨b, off, ea, hbs, hat⟩ := hC (by intro h; rw [h] at hfl; simp at hfl)
  subst ea
  have HAT : Hid (CpsAt W b off B.cps) := hat
  obtain ⟨m, hm⟩ : ∃ m, B.cps.length - f = m := ⟨_, rfl⟩
  have hm1 : m ≤ 1048576 := by omega
  have HM : Hid (f + m = B.cps.length) := by unfold Hid; omega
  clear hC hat hfl
  gi_wp2
  clear e2 hm hcf
  gi_loopw [20] (fun i wr => ∃ k : Nat, k ≤ m ∧ i = .int .i64 k ∧ Hid (∀ x ∈ (L.drop f).take k, ((g x).service.toList == nm.toList) = true) ∧ J ((L.drop f).take k) wr ∧ Below n₀ W wr ∧ Hid (wr.heap[Bt]? = some (.cells #[.string nm] 9 (0, 0))))
   (fun i _ => m - (intOf i).toNat)
  case atStart => exact ⟨0, Nat.zero_le _, rfl, (by intro x hx; simp at hx), hJ1, hnb1, BT1⟩
  case round =>
   clear BT1 hnb1 hJ1
   obtain ⟨k, hk, rfl, HAL, hJs, hnx, hbt⟩ := hrel
   by_cases hlt : k < m
   ·obtain ⟨x, hxk⟩ : ∃ x, (L.drop f)[k]? = some x := ⟨(L.drop f)[k]'(by rw [List.length_drop, hLn]; have := HM.out; omega), by rw [List.getElem?_eq_getElem]⟩
    have HXK : Hid ((L.drop f)[k]? = some x) := hxk
    have hsk : B.cps[f + k]? = some (g x) := by rw [← hLB, List.getElem?_map, ← List.getElem?_drop, hxk]; rfl
    obtain ⟨c, hgc⟩ : ∃ c, g x = c := ⟨_, rfl⟩
    have HGC : Hid (g x = c) := hgc
    rw [hgc] at hsk
    have hcs := (HAT.out (f + k) c hsk).below hnx hbs
    rw [Nat.add_mul, ← Nat.add_assoc] at hcs
    clear hgc hsk hxk
    unfold CpAt at hcs
    obtain ⟨x0, x1, x2, x3, x4, x5, x6⟩ := hcs
    have hbt0 := blk_cell hbt.out 0 rfl
    have hblt : Bt < wr.heap.size := (Array.getElem?_eq_some_iff.1 hbt.out).1
    have hw1 := below_box wr (.cells #[.string c.service, .int .i64 c.number, .int .i64 c.version, .int .i64 c.image, .int .i64 c.state, .bool c.ending, .string c.berth] 149)
    have hnx1 := hnx.trans (hw1.mono (Nat.le_trans hn0 hnx.size))
    have hbt1 : Hid _ := below_blk hw1 hbt.out hblt
    have hJb : J ((L.drop f).take k) (wr.alloc (.cells #[.string c.service, .int .i64 c.number, .int .i64 c.version, .int .i64 c.image, .int .i64 c.state, .bool c.ending, .string c.berth] 149)) := hJa1 _ _ _ hJs
    cases hsame : (c.service.toList == nm.toList)
    ·have HCUT : Hid (ofG g nm L = (L.drop f).take k) := ofG_cut g nm L f k HRG.out HG1.out HG2.out HAL.out (fun y hy => by rw [HXK.out] at hy; cases hy; rw [HGC.out]; exact hsame)
     gi_wp2
     refine ⟨fun _ h => (by cases h), ?_⟩
     gi_wp2
     refine bodyPost_ret (results_none rfl _ _ _) rfl ?_
     exact ⟨⟨_, rfl⟩, .inl ⟨_, HCUT.out.symm, hJb⟩⟩
    ·have HTK : Hid ((L.drop f).take (k + 1) = (L.drop f).take k ++ [x]) := by unfold Hid; rw [List.take_add_one, HXK.out]; rfl
     have HAL1 : Hid (∀ x ∈ (L.drop f).take (k + 1), ((g x).service.toList == nm.toList) = true) := take_all (L.drop f) (fun y => (g y).service.toList == nm.toList) k x HXK.out (by show ((g x).service.toList == nm.toList) = true; rw [HGC.out]; exact hsame) HAL.out
     obtain ⟨fn, tmps, assign, body, hy, hR⟩ := hY _ x c (wr.alloc (.cells #[.string c.service, .int .i64 c.number, .int .i64 c.version, .int .i64 c.image, .int .i64 c.state, .bool c.ending, .string c.berth] 149)) HGC.out hJb (ofG_long g nm L f k x HXK.out (by rw [HGC.out]; exact hsame) HAL.out)
     gi_wp2
     refine hR.mono ?_
     rintro e W3 (⟨rfl, hJ3, hk3⟩ | ⟨rfl, hJx3⟩)
     ·gi_wp2
      go_roundw
      case rel => exact ⟨k + 1, by omega, by go_num, HAL1, by rw [HTK.out]; exact hJ3, hnx1.trans hk3.1, hk3.2.trans hbt1.out⟩
      case measure => simp [intOf]; omega
     ·gi_wp2
      refine bodyPost_ret (results_none rfl _ _ _) rfl ?_
      exact ⟨⟨_, rfl⟩, .inr ⟨_, trivial, hJx3⟩⟩
   ·obtain rfl : k = m := by omega
    have HCUT : Hid (ofG g nm L = (L.drop f).take k) := ofG_cut g nm L f k HRG.out HG1.out HG2.out HAL.out (fun y hy => absurd (List.getElem?_eq_some_iff.1 hy).1 (by rw [List.length_drop, hLn]; have := HM.out; omega))
    gi_wp2
    go_end0
    exact ⟨⟨_, rfl⟩, .inl ⟨_, HCUT.out.symm, hJs⟩⟩
 ·obtain rfl : f = B.cps.length := by omega
  have HCUT : Hid (ofG g nm L = []) := ofG_cut g nm L B.cps.length 0 HRG.out HG1.out HG2.out (by intro x hx; simp at hx) (fun y hy => absurd (List.getElem?_eq_some_iff.1 hy).1 (by rw [List.length_drop, hLn]; omega))
  by_cases hcf : c2 = B.cps.length
  ·subst hcf
   gi_wp2
   clear e2
   gi_loopw [20] (fun i wr => i = .int .i64 0 ∧ J [] wr) (fun _ _ => 0)
   case atStart => exact ⟨rfl, hJ1⟩
   case round =>
    obtain ⟨rfl, hJs⟩ := hrel
    gi_wp2
    go_end0
    exact ⟨⟨_, rfl⟩, .inl ⟨_, HCUT.out.symm, hJs⟩⟩
  ·have hcf' := hcf
   clear hcf
   gi_wp2
   clear e2 hcf'
   gi_loopw [20] (fun i wr => i = .int .i64 0 ∧ J [] wr) (fun _ _ => 0)
   case atStart => exact ⟨rfl, hJ1⟩
   case round =>
    obtain ⟨rfl, hJs⟩ := hrel
    gi_wp2
    go_end0
    exact ⟨⟨_, rfl⟩, .inl ⟨_, HCUT.out.symm, hJs⟩⟩
theorem copies_stops (n : Nat) (hn : 1 ≤ n) (Bb Bt n₀ : Nat) (B : Bk) (nm : ByteArray) (a1 a2 a3 : Option Addr) (c1 c2 c3 : Nat) (hl2 : B.cps.length ≤ 1048576) (HSO : Hid (RiseC B.cps)) (HK : Hid (B.cps.length ≤ c2)) (w : World)
  (hBb : w.heap[Bb]? = some (.cells #[.int .i64 B.now, .slice a1 B.svcs.length c1, .slice a2 B.cps.length c2, .slice a3 B.bts.length c3] 36 (0, 0)))
  (hBt : w.heap[Bt]? = some (.cells #[.string nm] 9 (0, 0))) (hC : B.cps ≠ [] → ∃ b off, a2 = some ⟨b, off, none⟩ ∧ b < n₀ ∧ CpsAt w b off B.cps) (hn0 : n₀ ≤ w.heap.size) :
  SeqStopsK Fence.wide n Tryz.prog 348 #[.pointer (some ⟨Bb, 0, none⟩), .pointer (some ⟨Bt, 0, none⟩)] (fun x : Cp => #[.agg #[.string x.service, .int .i64 x.number, .int .i64 x.version, .int .i64 x.image, .int .i64 x.state, .bool x.ending, .string x.berth]]) (KpB n₀ Bt) (fun ys => ys = ofS nm B.cps) (fun _ => True) (ofS nm B.cps).length w := fun l J Jx W hW hJa _ hY h0 =>
 copies1_in id B.cps n hn l Bb Bt n₀ B (List.map_id _) nm a1 a2 a3 c1 c2 c3 hl2 HSO HK J Jx (fun pre x c W e => by subst e; exact hY pre x W) W hJa ((hW.block Bb (Array.getElem?_eq_some_iff.1 hBb).1).trans hBb) ((hW.block Bt (Array.getElem?_eq_some_iff.1 hBt).1).trans hBt)
  (fun hne => let ⟨b, off, e, hb, hat⟩ := hC hne; ⟨b, off, e, hb, fun i s hs => (hat i s hs).below hW (Nat.lt_of_lt_of_le hb hn0)⟩) (Nat.le_trans hn0 hW.size) h0
end Go.Proofs.YtbceafpodamnfabGreatDoor

namespace Go.Proofs.YtbceafpodamnfabGreatDoor
open Go.RowKit Go.Sort
set_option maxHeartbeats 1000000 in
theorem l1Ahead_any (a b : Cp) (w : World) :
  Calls Tryz.prog 90 #[.agg #[.string a.service, .int .i64 a.number, .int .i64 a.version, .int .i64 a.image, .int .i64 a.state, .bool a.ending, .string a.berth], .agg #[.string b.service, .int .i64 b.number, .int .i64 b.version, .int .i64 b.image, .int .i64 b.state, .bool b.ending, .string b.berth]] w fun e w' => e = .returned (.bool (aheadB a b)) ∧ Below w.heap.size w w' := by
 have hfin : Below w.heap.size w ((w.alloc (.cells #[.string a.service, .int .i64 a.number, .int .i64 a.version, .int .i64 a.image, .int .i64 a.state, .bool a.ending, .string a.berth] 149)).alloc (.cells #[.string b.service, .int .i64 b.number, .int .i64 b.version, .int .i64 b.image, .int .i64 b.state, .bool b.ending, .string b.berth] 149)) := ((Below.refl _ _).alloc (Nat.le_refl _) _).alloc (by simp) _
 cases h1 : Op.bytesLess a.service.toList b.service.toList
 ·cases h2 : (a.service.toList == b.service.toList)
  ·go_enter Tryz.func90, Tryz.ntmps90
   go_wp2
   go_ret
   exact ⟨ret_bool (by simp [aheadB, h1, h2]), hfin⟩
  ·go_enter Tryz.func90, Tryz.ntmps90
   go_wp2
   go_ret
   exact ⟨ret_bool (by simp [aheadB, h1, h2]), hfin⟩
 ·go_enter Tryz.func90, Tryz.ntmps90
  go_wp2
  go_ret
  exact ⟨ret_bool (by simp [aheadB, h1]), hfin⟩
theorem l1NameOk_b (s : ByteArray) (w : World) (hs : s.size ≤ maxLen) :
  Calls Tryz.prog 88 #[.string s] w fun e w' => e = .returned (.bool (nameB s)) ∧ Below w.heap.size w w' :=
 (l1NameOk_any s w hs).mono fun e w' ⟨he, hw⟩ => ⟨he, by rw [hw]; exact Below.refl _ _⟩
set_option maxHeartbeats 4000000 in
theorem specValid_any (B : Bk) (a1 a2 a3 : Option Addr) (c1 c2 c3 : Nat) (w : World) (hS : B.small) (hZ : B.sized) (hB : BkAt w a1 a2 a3 B) :
  Calls Tryz.prog 39 #[.agg #[.int .i64 B.now, .slice a1 B.svcs.length c1, .slice a2 B.cps.length c2, .slice a3 B.bts.length c3]] w fun e w' => e = .returned (.bool (validB B)) ∧ Below w.heap.size w w' := by
 obtain ⟨hl1, hl2, hl3⟩ := hS
 have hbx := below_box w (.cells #[.int .i64 B.now, .slice a1 B.svcs.length c1, .slice a2 B.cps.length c2, .slice a3 B.bts.length c3] 36)
 have hbox : Hid _ := heap_alloc_new w (.cells #[.int .i64 B.now, .slice a1 B.svcs.length c1, .slice a2 B.cps.length c2, .slice a3 B.bts.length c3] 36)
 cases h0 : inB B.now 0 1000000
 ·go_enter Tryz.func39, Tryz.ntmps39
  go_wp2_with (go_at_call 86; refine (l1In_any _ _ _ _).mono ?_; rintro e w' ⟨rfl, rfl⟩)
  go_ret
  exact ⟨ret_bool (by simp [validB, h0]), hbx⟩
 by_cases hs1 : 8 < (B.svcs.length : Int)
 ·go_enter Tryz.func39, Tryz.ntmps39
  go_wp2_with (go_at_call 86; refine (l1In_any _ _ _ _).mono ?_; rintro e w' ⟨rfl, rfl⟩)
  go_ret
  exact ⟨ret_bool (by have : ¬ B.svcs.length ≤ 8 := by omega
                      simp [validB, this]), hbx⟩
 by_cases hs2 : 200 < (B.cps.length : Int)
 ·go_enter Tryz.func39, Tryz.ntmps39
  go_wp2_with (go_at_call 86; refine (l1In_any _ _ _ _).mono ?_; rintro e w' ⟨rfl, rfl⟩)
  go_ret
  exact ⟨ret_bool (by have : ¬ B.cps.length ≤ 200 := by omega
                      simp [validB, this]), hbx⟩
 by_cases hs3 : 6 < (B.bts.length : Int)
 ·go_enter Tryz.func39, Tryz.ntmps39
  go_wp2_with (go_at_call 86; refine (l1In_any _ _ _ _).mono ?_; rintro e w' ⟨rfl, rfl⟩)
  go_ret
  exact ⟨ret_bool (by have : ¬ B.bts.length ≤ 6 := by omega
                      simp [validB, this]), hbx⟩
 have HV : Hid (validB B = (allTo (svcAtB B) B.svcs.length && allTo (btAtB B) B.bts.length && allTo (cpAtB B) B.cps.length)) := by
  have q1 : B.svcs.length ≤ 8 := by omega
  have q2 : B.cps.length ≤ 200 := by omega
  have q3 : B.bts.length ≤ 6 := by omega
  unfold Hid; simp [validB, h0, q1, q2, q3]
 go_enter Tryz.func39, Tryz.ntmps39
 go_wp2_with (go_at_call 86; refine (l1In_any _ _ _ _).mono ?_; rintro e w' ⟨rfl, rfl⟩)
 clear h0
 go_loopw [3] (fun iv wr => ∃ k : Nat, k ≤ B.svcs.length ∧ iv = .int .i64 k ∧ Below w.heap.size w wr ∧ Hid (wr.heap[w.heap.size]? = some (.cells #[.int .i64 B.now, .slice a1 B.svcs.length c1, .slice a2 B.cps.length c2, .slice a3 B.bts.length c3] 36 (0, 0))) ∧ Hid (∀ i, i < k → svcAtB B i = true)) (fun i _ => B.svcs.length - (intOf i).toNat)
 case atStart => exact ⟨0, by omega, rfl, hbx, hbox, fun i hi => absurd hi (by omega)⟩
 case round =>
  obtain ⟨k, hk, rfl, hb, hbox1, hall⟩ := hrel
  have hNlt : w.heap.size < wr.heap.size := (Array.getElem?_eq_some_iff.1 hbox1.out).1
  have e0 := blk_cell hbox1.out 0 rfl
  have e1 := blk_cell hbox1.out 1 rfl
  have e2 := blk_cell hbox1.out 2 rfl
  have e3 := blk_cell hbox1.out 3 rfl
  by_cases hlt : k < B.svcs.length
  ·have hne : B.svcs ≠ [] := by intro h; rw [h] at hlt; simp at hlt
   obtain ⟨b, off, ea, hbs, hat⟩ := hB.1 hne
   subst ea
   obtain ⟨s, hsk⟩ : ∃ s, B.svcs[k]? = some s := ⟨B.svcs[k], by simp [hlt]⟩
   have hmem := hZ.2.2.2.1 s (List.mem_of_getElem? hsk)
   obtain ⟨x0, x1, x2, x3, x4, x5, x6, x7, x8, x9, x10, x11, x12⟩ := ((hat k s hsk).below hb hbs).grown
   have g0 := gcell hbox1.out 0 rfl
   have g1 := gcell hbox1.out 1 rfl
   have g2 := gcell hbox1.out 2 rfl
   have g3 := gcell hbox1.out 3 rfl
   have hBr := hB.below hb
   cases hok : svcB B.now s
   ·have HNO : Hid (svcAtB B k = false) := by unfold Hid svcAtB; rw [hsk]; simp [hok]
    clear hsk hat hne
    go_wp2
    refine wp_region_quiet_below (by kernel_rfl) (by kernel_rfl) ?_
    repeat (first | go_big_quiet_step (exact Calls.regrown_of (l1ServiceOk_any s B.now _ hmem)) | quiet_step (exact Calls.regrown_of (l1ServiceOk_any s B.now _ hmem)))
    refine wpQuiet_nil ?_
    intro w2 hw'
    obtain ⟨⟨dq, osq⟩, hw''⟩ := hw'
    have hb2 : Below wr.heap.size wr w2 := by rw [hw'']; exact below_regrown _ _ _
    clear hw''
    go_wp2
    go_ret
    exact ⟨ret_bool (by simp [validB, allTo_no hlt HNO.out]), hb.trans (hb2.mono hb.size)⟩
   by_cases hk0 : k = 0
   ·have HYES : Hid (svcAtB B k = true) := by unfold Hid svcAtB; rw [hsk]; simp [hok, hk0]
    have hz : decide (0 < k) = false := by simp; omega
    clear hsk hat hne hk0
    go_wp2
    refine wp_region_quiet_below (by kernel_rfl) (by kernel_rfl) ?_
    repeat (first | go_big_quiet_step (exact Calls.regrown_of (l1ServiceOk_any s B.now _ hmem)) | quiet_step (exact Calls.regrown_of (l1ServiceOk_any s B.now _ hmem)))
    refine wpQuiet_nil ?_
    intro w2 hw'
    obtain ⟨⟨dq, osq⟩, hw''⟩ := hw'
    have hb2 : Below wr.heap.size wr w2 := by rw [hw'']; exact below_regrown _ _ _
    clear hw''
    have hbox2 : Hid _ := below_blk hb2 hbox1.out hNlt
    have hb3 := hb.trans (hb2.mono hb.size)
    clear g0 g1 g2 g3 x0 x1 x2 x3 x4 x5 x6 x7 x8 x9 x10 x11 x12 e0 e1 e2 e3
    go_wp2
    go_roundw
    case rel => exact ⟨k + 1, by omega, by go_num, hb3, hbox2, upTo_step hall.out HYES.out⟩
    case measure => simp [intOf]; omega
   obtain ⟨k', rfl⟩ : ∃ k', k = k' + 1 := ⟨k - 1, by omega⟩
   clear hk0
   obtain ⟨p, hpk⟩ : ∃ p, B.svcs[k']? = some p := ⟨B.svcs[k']'(by omega), by rw [List.getElem?_eq_getElem]⟩
   obtain ⟨y0, y1, y2, y3, y4, y5, y6, y7, y8, y9, y10, y11, y12⟩ := ((hat k' p hpk).below hb hbs).grown
   cases hle : Op.bytesLess p.name.toList s.name.toList
   ·have HNO : Hid (svcAtB B (k' + 1) = false) := by unfold Hid svcAtB; rw [hsk]; simp [hok, hpk, hle]
    clear hsk hat hne hpk
    go_wp2
    refine wp_region_quiet_below (by kernel_rfl) (by kernel_rfl) ?_
    repeat (first | go_big_quiet_step (exact Calls.regrown_of (l1ServiceOk_any s B.now _ hmem)) | quiet_step (exact Calls.regrown_of (l1ServiceOk_any s B.now _ hmem)))
    refine wpQuiet_nil ?_
    intro w2 hw'
    obtain ⟨⟨dq, osq⟩, hw''⟩ := hw'
    have hb2 : Below wr.heap.size wr w2 := by rw [hw'']; exact below_regrown _ _ _
    clear hw''
    go_wp2
    go_ret
    exact ⟨ret_bool (by simp [validB, allTo_no hlt HNO.out]), hb.trans (hb2.mono hb.size)⟩
   ·have HYES : Hid (svcAtB B (k' + 1) = true) := by unfold Hid svcAtB; rw [hsk]; simp [hok, hpk, hle]
    clear hsk hat hne hpk
    go_wp2
    refine wp_region_quiet_below (by kernel_rfl) (by kernel_rfl) ?_
    repeat (first | go_big_quiet_step (exact Calls.regrown_of (l1ServiceOk_any s B.now _ hmem)) | quiet_step (exact Calls.regrown_of (l1ServiceOk_any s B.now _ hmem)))
    refine wpQuiet_nil ?_
    intro w2 hw'
    obtain ⟨⟨dq, osq⟩, hw''⟩ := hw'
    have hb2 : Below wr.heap.size wr w2 := by rw [hw'']; exact below_regrown _ _ _
    clear hw''
    have hbox2 : Hid _ := below_blk hb2 hbox1.out hNlt
    have hb3 := hb.trans (hb2.mono hb.size)
    clear g0 g1 g2 g3 x0 x1 x2 x3 x4 x5 x6 x7 x8 x9 x10 x11 x12 y0 y1 y2 y3 y4 y5 y6 y7 y8 y9 y10 y11 y12 e0 e1 e2 e3
    go_wp2
    go_roundw
    case rel => exact ⟨k' + 1 + 1, by omega, by go_num, hb3, hbox2, upTo_step hall.out HYES.out⟩
    case measure => simp [intOf]; omega
  ·have HALLsvcs : Hid (allTo (svcAtB B) B.svcs.length = true) := allTo_yes fun i hi => hall.out i (by omega)
   clear hall
   go_wp2
   go_loopw [4] (fun iv wr => ∃ k : Nat, k ≤ B.bts.length ∧ iv = .int .i64 k ∧ Below w.heap.size w wr ∧ Hid (wr.heap[w.heap.size]? = some (.cells #[.int .i64 B.now, .slice a1 B.svcs.length c1, .slice a2 B.cps.length c2, .slice a3 B.bts.length c3] 36 (0, 0))) ∧ Hid (∀ i, i < k → btAtB B i = true)) (fun i _ => B.bts.length - (intOf i).toNat)
   case atStart => exact ⟨0, by omega, rfl, hb, hbox1, fun i hi => absurd hi (by omega)⟩
   case round =>
    obtain ⟨k, hk, rfl, hb, hbox1, hall⟩ := hrel
    have hNlt : w.heap.size < wr.heap.size := (Array.getElem?_eq_some_iff.1 hbox1.out).1
    have e0 := blk_cell hbox1.out 0 rfl
    have e1 := blk_cell hbox1.out 1 rfl
    have e2 := blk_cell hbox1.out 2 rfl
    have e3 := blk_cell hbox1.out 3 rfl
    by_cases hlt : k < B.bts.length
    ·have hne : B.bts ≠ [] := by intro h; rw [h] at hlt; simp at hlt
     obtain ⟨b, off, ea, hbs, hat⟩ := hB.2.2 hne
     subst ea
     obtain ⟨s, hsk⟩ : ∃ s, B.bts[k]? = some s := ⟨B.bts[k], by simp [hlt]⟩
     have hmem := hZ.2.2.2.2.2 s (List.mem_of_getElem? hsk)
     obtain ⟨x0, x1⟩ := ((hat k s hsk).below hb hbs).grown
     have g0 := gcell hbox1.out 0 rfl
     have g1 := gcell hbox1.out 1 rfl
     have g2 := gcell hbox1.out 2 rfl
     have g3 := gcell hbox1.out 3 rfl
     have hBr := hB.below hb
     cases hok : nameB s.name
     ·have HNO : Hid (btAtB B k = false) := by unfold Hid btAtB; rw [hsk]; simp [hok]
      clear hsk hat hne
      go_wp2
      refine wp_region_quiet_below (by kernel_rfl) (by kernel_rfl) ?_
      repeat (first | go_big_quiet_step (exact Calls.regrown_of (l1NameOk_b s.name _ hmem)) | quiet_step (exact Calls.regrown_of (l1NameOk_b s.name _ hmem)))
      refine wpQuiet_nil ?_
      intro w2 hw'
      obtain ⟨⟨dq, osq⟩, hw''⟩ := hw'
      have hb2 : Below wr.heap.size wr w2 := by rw [hw'']; exact below_regrown _ _ _
      clear hw''
      go_wp2
      go_ret
      exact ⟨ret_bool (by simp [validB, allTo_no hlt HNO.out]), hb.trans (hb2.mono hb.size)⟩
     by_cases hk0 : k = 0
     ·have HYES : Hid (btAtB B k = true) := by unfold Hid btAtB; rw [hsk]; simp [hok, hk0]
      have hz : decide (0 < k) = false := by simp; omega
      clear hsk hat hne hk0
      go_wp2
      refine wp_region_quiet_below (by kernel_rfl) (by kernel_rfl) ?_
      repeat (first | go_big_quiet_step (exact Calls.regrown_of (l1NameOk_b s.name _ hmem)) | quiet_step (exact Calls.regrown_of (l1NameOk_b s.name _ hmem)))
      refine wpQuiet_nil ?_
      intro w2 hw'
      obtain ⟨⟨dq, osq⟩, hw''⟩ := hw'
      have hb2 : Below wr.heap.size wr w2 := by rw [hw'']; exact below_regrown _ _ _
      clear hw''
      have hbox2 : Hid _ := below_blk hb2 hbox1.out hNlt
      have hb3 := hb.trans (hb2.mono hb.size)
      clear g0 g1 g2 g3 x0 x1 e0 e1 e2 e3
      go_wp2
      go_roundw
      case rel => exact ⟨k + 1, by omega, by go_num, hb3, hbox2, upTo_step hall.out HYES.out⟩
      case measure => simp [intOf]; omega
     obtain ⟨k', rfl⟩ : ∃ k', k = k' + 1 := ⟨k - 1, by omega⟩
     clear hk0
     obtain ⟨p, hpk⟩ : ∃ p, B.bts[k']? = some p := ⟨B.bts[k']'(by omega), by rw [List.getElem?_eq_getElem]⟩
     obtain ⟨y0, y1⟩ := ((hat k' p hpk).below hb hbs).grown
     cases hle : Op.bytesLess p.name.toList s.name.toList
     ·have HNO : Hid (btAtB B (k' + 1) = false) := by unfold Hid btAtB; rw [hsk]; simp [hok, hpk, hle]
      clear hsk hat hne hpk
      go_wp2
      refine wp_region_quiet_below (by kernel_rfl) (by kernel_rfl) ?_
      repeat (first | go_big_quiet_step (exact Calls.regrown_of (l1NameOk_b s.name _ hmem)) | quiet_step (exact Calls.regrown_of (l1NameOk_b s.name _ hmem)))
      refine wpQuiet_nil ?_
      intro w2 hw'
      obtain ⟨⟨dq, osq⟩, hw''⟩ := hw'
      have hb2 : Below wr.heap.size wr w2 := by rw [hw'']; exact below_regrown _ _ _
      clear hw''
      go_wp2
      go_ret
      exact ⟨ret_bool (by simp [validB, allTo_no hlt HNO.out]), hb.trans (hb2.mono hb.size)⟩
     ·have HYES : Hid (btAtB B (k' + 1) = true) := by unfold Hid btAtB; rw [hsk]; simp [hok, hpk, hle]
      clear hsk hat hne hpk
      go_wp2
      refine wp_region_quiet_below (by kernel_rfl) (by kernel_rfl) ?_
      repeat (first | go_big_quiet_step (exact Calls.regrown_of (l1NameOk_b s.name _ hmem)) | quiet_step (exact Calls.regrown_of (l1NameOk_b s.name _ hmem)))
      refine wpQuiet_nil ?_
      intro w2 hw'
      obtain ⟨⟨dq, osq⟩, hw''⟩ := hw'
      have hb2 : Below wr.heap.size wr w2 := by rw [hw'']; exact below_regrown _ _ _
      clear hw''
      have hbox2 : Hid _ := below_blk hb2 hbox1.out hNlt
      have hb3 := hb.trans (hb2.mono hb.size)
      clear g0 g1 g2 g3 x0 x1 y0 y1 e0 e1 e2 e3
      go_wp2
      go_roundw
      case rel => exact ⟨k' + 1 + 1, by omega, by go_num, hb3, hbox2, upTo_step hall.out HYES.out⟩
      case measure => simp [intOf]; omega
    ·have HALLbts : Hid (allTo (btAtB B) B.bts.length = true) := allTo_yes fun i hi => hall.out i (by omega)
     clear hall
     go_wp2
     go_loopw [5] (fun iv wr => ∃ k : Nat, k ≤ B.cps.length ∧ iv = .int .i64 k ∧ Below w.heap.size w wr ∧ Hid (wr.heap[w.heap.size]? = some (.cells #[.int .i64 B.now, .slice a1 B.svcs.length c1, .slice a2 B.cps.length c2, .slice a3 B.bts.length c3] 36 (0, 0))) ∧ Hid (∀ i, i < k → cpAtB B i = true)) (fun i _ => B.cps.length - (intOf i).toNat)
     case atStart => exact ⟨0, by omega, rfl, hb, hbox1, fun i hi => absurd hi (by omega)⟩
     case round =>
      obtain ⟨k, hk, rfl, hb, hbox1, hall⟩ := hrel
      have hNlt : w.heap.size < wr.heap.size := (Array.getElem?_eq_some_iff.1 hbox1.out).1
      have e0 := blk_cell hbox1.out 0 rfl
      have e1 := blk_cell hbox1.out 1 rfl
      have e2 := blk_cell hbox1.out 2 rfl
      have e3 := blk_cell hbox1.out 3 rfl
      by_cases hlt : k < B.cps.length
      ·have hne : B.cps ≠ [] := by intro h; rw [h] at hlt; simp at hlt
       obtain ⟨b, off, ea, hbs, hat⟩ := hB.2.1 hne
       subst ea
       obtain ⟨s, hsk⟩ : ∃ s, B.cps[k]? = some s := ⟨B.cps[k], by simp [hlt]⟩
       skip
       obtain ⟨x0, x1, x2, x3, x4, x5, x6⟩ := ((hat k s hsk).below hb hbs).grown
       have g0 := gcell hbox1.out 0 rfl
       have g1 := gcell hbox1.out 1 rfl
       have g2 := gcell hbox1.out 2 rfl
       have g3 := gcell hbox1.out 3 rfl
       have hBr := hB.below hb
       cases hok : cpB B s
       ·have HNO : Hid (cpAtB B k = false) := by unfold Hid cpAtB; rw [hsk]; simp [hok]
        clear hsk hat hne
        go_wp2
        refine wp_region_quiet_below (by kernel_rfl) (by kernel_rfl) ?_
        repeat (first | go_big_quiet_step (exact Calls.regrown_of (l1CopyOk_any B s a1 _ a3 c1 c2 c3 _ ⟨hl1, hl2, hl3⟩ (hBr.grown _ _))) | quiet_step (exact Calls.regrown_of (l1CopyOk_any B s a1 _ a3 c1 c2 c3 _ ⟨hl1, hl2, hl3⟩ (hBr.grown _ _))))
        refine wpQuiet_nil ?_
        intro w2 hw'
        obtain ⟨⟨dq, osq⟩, hw''⟩ := hw'
        have hb2 : Below wr.heap.size wr w2 := by rw [hw'']; exact below_regrown _ _ _
        clear hw''
        go_wp2
        go_ret
        exact ⟨ret_bool (by simp [validB, allTo_no hlt HNO.out]), hb.trans (hb2.mono hb.size)⟩
       by_cases hk0 : k = 0
       ·have HYES : Hid (cpAtB B k = true) := by unfold Hid cpAtB; rw [hsk]; simp [hok, hk0]
        have hz : decide (0 < k) = false := by simp; omega
        clear hsk hat hne hk0
        go_wp2
        refine wp_region_quiet_below (by kernel_rfl) (by kernel_rfl) ?_
        repeat (first | go_big_quiet_step (exact Calls.regrown_of (l1CopyOk_any B s a1 _ a3 c1 c2 c3 _ ⟨hl1, hl2, hl3⟩ (hBr.grown _ _))) | quiet_step (exact Calls.regrown_of (l1CopyOk_any B s a1 _ a3 c1 c2 c3 _ ⟨hl1, hl2, hl3⟩ (hBr.grown _ _))))
        refine wpQuiet_nil ?_
        intro w2 hw'
        obtain ⟨⟨dq, osq⟩, hw''⟩ := hw'
        have hb2 : Below wr.heap.size wr w2 := by rw [hw'']; exact below_regrown _ _ _
        clear hw''
        have hbox2 : Hid _ := below_blk hb2 hbox1.out hNlt
        have hb3 := hb.trans (hb2.mono hb.size)
        clear g0 g1 g2 g3 x0 x1 x2 x3 x4 x5 x6 e0 e1 e2 e3
        go_wp2
        go_roundw
        case rel => exact ⟨k + 1, by omega, by go_num, hb3, hbox2, upTo_step hall.out HYES.out⟩
        case measure => simp [intOf]; omega
       obtain ⟨k', rfl⟩ : ∃ k', k = k' + 1 := ⟨k - 1, by omega⟩
       clear hk0
       obtain ⟨p, hpk⟩ : ∃ p, B.cps[k']? = some p := ⟨B.cps[k']'(by omega), by rw [List.getElem?_eq_getElem]⟩
       obtain ⟨y0, y1, y2, y3, y4, y5, y6⟩ := ((hat k' p hpk).below hb hbs).grown
       cases hle : aheadB p s
       ·have HNO : Hid (cpAtB B (k' + 1) = false) := by unfold Hid cpAtB; rw [hsk]; simp [hok, hpk, hle]
        clear hsk hat hne hpk
        go_wp2
        refine wp_region_quiet_below (by kernel_rfl) (by kernel_rfl) ?_
        repeat (first | go_big_quiet_step (first | exact Calls.regrown_of (l1CopyOk_any B s a1 _ a3 c1 c2 c3 _ ⟨hl1, hl2, hl3⟩ (hBr.grown _ _)) | exact Calls.regrown_of (l1Ahead_any p s _)) | quiet_step (first | exact Calls.regrown_of (l1CopyOk_any B s a1 _ a3 c1 c2 c3 _ ⟨hl1, hl2, hl3⟩ (hBr.grown _ _)) | exact Calls.regrown_of (l1Ahead_any p s _)))
        refine wpQuiet_nil ?_
        intro w2 hw'
        obtain ⟨⟨dq, osq⟩, hw''⟩ := hw'
        have hb2 : Below wr.heap.size wr w2 := by rw [hw'']; exact below_regrown _ _ _
        clear hw''
        go_wp2
        go_ret
        exact ⟨ret_bool (by simp [validB, allTo_no hlt HNO.out]), hb.trans (hb2.mono hb.size)⟩
       ·have HYES : Hid (cpAtB B (k' + 1) = true) := by unfold Hid cpAtB; rw [hsk]; simp [hok, hpk, hle]
        clear hsk hat hne hpk
        go_wp2
        refine wp_region_quiet_below (by kernel_rfl) (by kernel_rfl) ?_
        repeat (first | go_big_quiet_step (first | exact Calls.regrown_of (l1CopyOk_any B s a1 _ a3 c1 c2 c3 _ ⟨hl1, hl2, hl3⟩ (hBr.grown _ _)) | exact Calls.regrown_of (l1Ahead_any p s _)) | quiet_step (first | exact Calls.regrown_of (l1CopyOk_any B s a1 _ a3 c1 c2 c3 _ ⟨hl1, hl2, hl3⟩ (hBr.grown _ _)) | exact Calls.regrown_of (l1Ahead_any p s _)))
        refine wpQuiet_nil ?_
        intro w2 hw'
        obtain ⟨⟨dq, osq⟩, hw''⟩ := hw'
        have hb2 : Below wr.heap.size wr w2 := by rw [hw'']; exact below_regrown _ _ _
        clear hw''
        have hbox2 : Hid _ := below_blk hb2 hbox1.out hNlt
        have hb3 := hb.trans (hb2.mono hb.size)
        clear g0 g1 g2 g3 x0 x1 x2 x3 x4 x5 x6 y0 y1 y2 y3 y4 y5 y6 e0 e1 e2 e3
        go_wp2
        go_roundw
        case rel => exact ⟨k' + 1 + 1, by omega, by go_num, hb3, hbox2, upTo_step hall.out HYES.out⟩
        case measure => simp [intOf]; omega
      ·have HALLcps : Hid (allTo (cpAtB B) B.cps.length = true) := allTo_yes fun i hi => hall.out i (by omega)
       clear hall
       go_wp2
       go_ret
       exact ⟨ret_bool (by rw [HV.out, HALLsvcs.out, HALLbts.out, HALLcps.out]; rfl), hb⟩
end Go.Proofs.YtbceafpodamnfabGreatDoor

namespace Go.Proofs.YtbceafpodamnfabGreatDoor
open Go.RowKit Go.Sort
theorem below_of_grow {w w2 : World} {d : Nat} {os : Array Obj} (h : w2 = grow (redrawn w d) os) : Below w.heap.size w w2 := by rw [h]; exact below_regrown _ _ _
theorem blk_ne {w : World} {k b : Nat} {x : Option Obj} (h : w.heap[k]? = x) (o : Nat) (v : Value) (hne : k ≠ b) : (w.setCell ⟨b, o, none⟩ v).heap[k]? = x := (Below.heap_setCell _ _ _ _ hne).trans h
theorem size_alloc' (w : World) (o : Obj) : (w.alloc o).heap.size = w.heap.size + 1 := by show (w.heap.push _).size = _; simp
set_option maxHeartbeats 4000000 in
theorem l2Count_none (B : Bk) (sv : ByteArray) (a1 a2 a3 : Option Addr) (c1 c2 c3 : Nat) (w : World) (hS : B.small) (hB : BkAt w a1 a2 a3 B) (hf : svcOf B sv = none) :
  Calls Tryz.prog 95 #[.agg #[.int .i64 B.now, .slice a1 B.svcs.length c1, .slice a2 B.cps.length c2, .slice a3 B.bts.length c3], .string sv] w fun e w' => e = .returned (.agg #[.int .i64 0, .int .i64 0, .int .i64 0, .int .i64 0, .int .i64 0]) ∧ Below w.heap.size w w' := by
 have hidx : idxS B.svcs sv = -1 := idxOf_find_none hf
 have HIDX : Hid _ := hidx
 clear hf hidx
 obtain ⟨t0, t1, t2, t3⟩ := three_new w (.cells #[.int .i64 B.now, .slice a1 B.svcs.length c1, .slice a2 B.cps.length c2, .slice a3 B.bts.length c3] 36) (.cells #[.int .i64 0, .int .i64 0, .int .i64 0, .int .i64 0, .int .i64 0] 158) (.cells #[.int .i64 0, .int .i64 0, .int .i64 0, .int .i64 0, .int .i64 0] 158)
 have T0 : Hid _ := t0
 have T1 : Hid _ := t1
 have T2 : Hid _ := t2
 have T3 : Hid _ := t3
 clear t0 t1 t2 t3
 have hb0 : Below w.heap.size w (((w.alloc (.cells #[.int .i64 B.now, .slice a1 B.svcs.length c1, .slice a2 B.cps.length c2, .slice a3 B.bts.length c3] 36)).alloc (.cells #[.int .i64 0, .int .i64 0, .int .i64 0, .int .i64 0, .int .i64 0] 158)).alloc (.cells #[.int .i64 0, .int .i64 0, .int .i64 0, .int .i64 0, .int .i64 0] 158)) := (((Below.refl _ _).alloc (Nat.le_refl _) _).alloc (by simp) _).alloc (by simp; omega) _
 have hS' := hS
 obtain ⟨hl1, hl2, hl3⟩ := hS'
 go_enter Tryz.func95, Tryz.ntmps95
 go_wp2_with fail
 refine (l1Service_any B sv a1 a2 a3 c1 c2 c3 _ hS (hB.1.below hb0)).mono ?_
 rintro e w1 ⟨rfl, hb1⟩
 rw [HIDX.out]
 have hbb1 := hb0.trans (hb1.mono hb0.size)
 rw [T3.out] at hb1
 have U0 : Hid _ := below_blk hb1 T0.out (by omega)
 have U1 : Hid _ := below_blk hb1 T1.out (by omega)
 have U2 : Hid _ := below_blk hb1 T2.out (by omega)
 have e2 := blk_cell U0.out 2 rfl
 have o0 := blk_cell U2.out 0 rfl
 have o1 := blk_cell U2.out 1 rfl
 have o2 := blk_cell U2.out 2 rfl
 have o3 := blk_cell U2.out 3 rfl
 have o4 := blk_cell U2.out 4 rfl
 have p0 := blk_cell U1.out 0 rfl
 have p1 := blk_cell U1.out 1 rfl
 have p2 := blk_cell U1.out 2 rfl
 have p3 := blk_cell U1.out 3 rfl
 have p4 := blk_cell U1.out 4 rfl
 have f0 := blk_frozen U1.out 0
 have f1 := blk_frozen U1.out 1
 have f2 := blk_frozen U1.out 2
 have f3 := blk_frozen U1.out 3
 have f4 := blk_frozen U1.out 4
 clear hb1 hB
 go_wp2
 go_loop [7] (fun i => i = .int .i64 0) (fun _ => 0)
 case atStart => rfl
 case round =>
  subst hrel
  by_cases hz : (0 : Int) < (B.cps.length : Int)
  all_goals
   go_wp2
   refine bodyPost_ret (v := .agg #[.int .i64 0, .int .i64 0, .int .i64 0, .int .i64 0, .int .i64 0]) (by simp [results, Tryz.results95, go_sem, p0, p1, p2, p3, p4]) rfl ⟨rfl, ?_⟩
   exact ((((hbb1.setCell (by simp) _).setCell (by simp) _).setCell (by simp) _).setCell (by simp) _).setCell (by simp) _
end Go.Proofs.YtbceafpodamnfabGreatDoor
