/-
  My own. The walk over a service's copies: an iterator.
-/
import Derived.Test.YtnaaebffajdogaaWe
import Derived.Test.YtnaaebffajdogaaDf
import Derived.Test.YtnaaebffajdogaaWk
import Derived.RangeFuncNested
import Derived.RangeFuncLeaves
import Derived.Shelf.Abstract
import Derived.OwnWalkIn
import Derived.TacticsInMore
import Derived.LoopNIn
import Derived.LoopIn
namespace Go.Proofs.Ytnaaebffajdogaa
open Go.RowKit Go.Shelf

attribute [local go_sem] Oper.semAt_some

set_option maxHeartbeats 1000000 in
theorem copiesIn_in (F : Fence) (n : Nat) (h : F.fn 52) (hro : F.round = none) (B : Bk) (nm : ByteArray) (a1 a2 a3 : Option Addr) (c1 c2 c3 : Nat) (w : World) :
    CallsIn F n Try.prog 52 #[.agg #[.int .i64 B.now, .slice a1 B.svcs.length c1, .slice a2 B.cps.length c2, .slice a3 B.bts.length c3], .string nm] w fun e w' => e = .returned (.func (.func 78) #[] #[.pointer (some ⟨w.heap.size, 0, none⟩), .pointer (some ⟨w.heap.size + 1, 0, none⟩)]) ∧ w' = (w.alloc (.cells #[.int .i64 B.now, .slice a1 B.svcs.length c1, .slice a2 B.cps.length c2, .slice a3 B.bts.length c3] 27)).alloc (.cells #[.string nm] 9) := by
  refine callsIn_of_wp Try.func52 rfl h ?_ hro
  simp only [Try.ntmps52, List.size_toArray, List.length_cons, List.length_nil, Nat.reduceAdd, Nat.reduceSub, Array.replicate_succ, Array.replicate_zero, List.push_toArray, List.append_toArray, List.nil_append, List.cons_append]
  gi_wp2
  go_ret
  exact ⟨rfl, rfl⟩

def ofS (nm : ByteArray) (l : List Cp) : List Cp := l.filter fun c => c.service.toList == nm.toList
theorem ofS_succ (nm : ByteArray) (l : List Cp) (k : Nat) (c : Cp) (h : l[k]? = some c) : ofS nm (l.take (k + 1)) = ofS nm (l.take k) ++ (if c.service.toList == nm.toList then [c] else []) := by
  obtain ⟨hk, e⟩ := List.getElem?_eq_some_iff.1 h
  unfold ofS
  rw [List.take_succ_eq_append_getElem hk, List.filter_append, e]
  by_cases hc : (c.service.toList == nm.toList) = true
  · simp [List.filter, hc]
  · simp [List.filter, hc]
theorem ofS_le (nm : ByteArray) (l : List Cp) (k : Nat) (c : Cp) (h : l[k]? = some c) (hc : (c.service.toList == nm.toList) = true) : (ofS nm (l.take k)).length < (ofS nm l).length := by
  have h1 := ofS_succ nm l k c h
  rw [if_pos hc] at h1
  have h2 : (ofS nm (l.take (k + 1))).length ≤ (ofS nm l).length := by
    unfold ofS
    exact ((List.take_sublist (k + 1) l).filter _).length_le
  rw [h1] at h2
  simp at h2
  omega

/-- What a round keeps: all below n₀, and the block Bt. -/
def KpB (n₀ Bt : Nat) (W W' : World) : Prop := Below n₀ W W' ∧ W'.heap[Bt]? = W.heap[Bt]?

set_option maxRecDepth 100000 in
set_option maxHeartbeats 2000000 in
theorem copies1_in (F : Fence) (n : Nat) (h : F.fn 78) (hro : F.round = none) (hn : 1 ≤ n) (l Bb Bt n₀ : Nat) (B : Bk) (nm : ByteArray) (a1 a2 a3 : Option Addr) (c1 c2 c3 : Nat) (hl2 : B.cps.length ≤ 1048576) (J Jx : List Cp → World → Prop)
    (hY : ∀ pre x W, J pre W → pre.length < (ofS nm B.cps).length → YieldAt F (n - 1) Try.prog l #[.agg #[.string x.service, .int .i64 x.number, .int .i64 x.version, .int .i64 x.image, .int .i64 x.state, .bool x.ending, .string x.berth]] W fun e W' =>
      (e = .returned (.bool true) ∧ J (pre ++ [x]) W' ∧ KpB n₀ Bt W W') ∨ (e = .returned (.bool false) ∧ Jx (pre ++ [x]) W'))
    (W : World) (hJa : AbidesFrom W.heap.size J) (hBb : W.heap[Bb]? = some (.cells #[.int .i64 B.now, .slice a1 B.svcs.length c1, .slice a2 B.cps.length c2, .slice a3 B.bts.length c3] 27 (0, 0)))
    (hBt : W.heap[Bt]? = some (.cells #[.string nm] 9 (0, 0))) (hC : B.cps ≠ [] → ∃ b off, a2 = some ⟨b, off, none⟩ ∧ b < n₀ ∧ CpsAt W b off B.cps) (hn0 : n₀ ≤ W.heap.size) (h0 : J [] W) :
    CallsIn F n Try.prog 78 #[.func (.yield l) #[] #[], .pointer (some ⟨Bb, 0, none⟩), .pointer (some ⟨Bt, 0, none⟩)] W fun e W' => (∃ v, e = .returned v) ∧
      ((∃ ys, ys = ofS nm B.cps ∧ J ys W') ∨ (∃ pre, True ∧ Jx pre W')) := by
  have hbl : Bt < W.heap.size := (Array.getElem?_eq_some_iff.1 hBt).1
  have HBt : Hid _ := hBt
  have e2 := blk_cell hBb 2 rfl
  clear hBt hBb
  refine callsIn_of_wp Try.func78 rfl h ?_ hro
  simp only [Try.ntmps78, List.size_toArray, List.length_cons, List.length_nil, Nat.reduceAdd, Nat.reduceSub, Array.replicate_succ, Array.replicate_zero, List.push_toArray, List.append_toArray, List.nil_append, List.cons_append]
  gi_wp2
  clear e2
  gi_loopw [9] (fun i wr => ∃ k : Nat, k ≤ B.cps.length ∧ i = .int .i64 k ∧ J (ofS nm (B.cps.take k)) wr ∧ Below n₀ W wr ∧ Hid (wr.heap[Bt]? = some (.cells #[.string nm] 9 (0, 0))))
    (fun i _ => B.cps.length - (intOf i).toNat)
  case atStart => exact ⟨0, Nat.zero_le _, rfl, h0, Below.refl _ _, HBt⟩
  case round =>
    obtain ⟨k, hk, rfl, hJs, hnx, hbt⟩ := hrel
    by_cases hlt : k < B.cps.length
    · have hne : B.cps ≠ [] := by intro h; rw [h] at hlt; simp at hlt
      obtain ⟨b, off, ea, hbs, hat⟩ := hC hne
      subst ea
      obtain ⟨c, hsk⟩ : ∃ c, B.cps[k]? = some c := ⟨B.cps[k], by simp [hlt]⟩
      have hcs := (hat k c hsk).below hnx hbs
      unfold CpAt at hcs
      obtain ⟨x0, x1, x2, x3, x4, x5, x6⟩ := hcs
      have hbt0 := blk_cell hbt.out 0 rfl
      have hblt : Bt < wr.heap.size := (Array.getElem?_eq_some_iff.1 hbt.out).1
      have HS : Hid _ := ofS_succ nm B.cps k c hsk
      have HLE : Hid _ := ofS_le nm B.cps k c hsk
      have hw1 := below_box wr (.cells #[.string c.service, .int .i64 c.number, .int .i64 c.version, .int .i64 c.image, .int .i64 c.state, .bool c.ending, .string c.berth] 35)
      have hnx1 := hnx.trans (hw1.mono (Nat.le_trans hn0 hnx.size))
      have hbt1 : Hid _ := below_blk hw1 hbt.out hblt
      have hJb : J (ofS nm (B.cps.take k)) (wr.alloc (.cells #[.string c.service, .int .i64 c.number, .int .i64 c.version, .int .i64 c.image, .int .i64 c.state, .bool c.ending, .string c.berth] 35)) := hJa _ _ _ none hJs (World.grownBy_alloc wr _ none) (fun r e => by cases e)
      cases hsame : (c.service.toList == nm.toList)
      · gi_wp2
        refine ⟨fun _ h => (by cases h), ?_⟩
        gi_wp2
        go_roundw
        case rel => exact ⟨k + 1, by omega, by go_num, by rw [HS.out, hsame]; simpa using hJb, hnx1, hbt1⟩
        case measure => simp [intOf]; omega
      · obtain ⟨fn, tmps, assign, body, hy, hR⟩ := hY _ c (wr.alloc (.cells #[.string c.service, .int .i64 c.number, .int .i64 c.version, .int .i64 c.image, .int .i64 c.state, .bool c.ending, .string c.berth] 35)) hJb (HLE.out hsame)
        gi_wp2
        refine hR.mono ?_
        rintro e W3 (⟨rfl, hJ3, hk3⟩ | ⟨rfl, hJx3⟩)
        · gi_wp2
          go_roundw
          case rel => exact ⟨k + 1, by omega, by go_num, by rw [HS.out, hsame]; exact hJ3, hnx1.trans hk3.1, hk3.2.trans hbt1.out⟩
          case measure => simp [intOf]; omega
        · gi_wp2
          refine bodyPost_ret (results_none rfl _ _ _) rfl ?_
          exact ⟨⟨_, rfl⟩, .inr ⟨_, trivial, hJx3⟩⟩
    · obtain rfl : k = B.cps.length := by omega
      gi_wp2
      go_end0
      exact ⟨⟨_, rfl⟩, .inl ⟨_, by rw [List.take_length], hJs⟩⟩

theorem copies_stops (F : Fence) (n : Nat) (h : F.fn 78) (hro : F.round = none) (hn : 1 ≤ n) (Bb Bt n₀ : Nat) (B : Bk) (nm : ByteArray) (a1 a2 a3 : Option Addr) (c1 c2 c3 : Nat) (hl2 : B.cps.length ≤ 1048576) (w : World)
    (hBb : w.heap[Bb]? = some (.cells #[.int .i64 B.now, .slice a1 B.svcs.length c1, .slice a2 B.cps.length c2, .slice a3 B.bts.length c3] 27 (0, 0)))
    (hBt : w.heap[Bt]? = some (.cells #[.string nm] 9 (0, 0))) (hC : B.cps ≠ [] → ∃ b off, a2 = some ⟨b, off, none⟩ ∧ b < n₀ ∧ CpsAt w b off B.cps) (hn0 : n₀ ≤ w.heap.size) :
    SeqStopsK F n Try.prog 78 #[.pointer (some ⟨Bb, 0, none⟩), .pointer (some ⟨Bt, 0, none⟩)] (fun x : Cp => #[.agg #[.string x.service, .int .i64 x.number, .int .i64 x.version, .int .i64 x.image, .int .i64 x.state, .bool x.ending, .string x.berth]]) (KpB n₀ Bt) (fun ys => ys = ofS nm B.cps) (fun _ => True) (ofS nm B.cps).length w := fun l J Jx W hW hJa _ hY h0 =>
  copies1_in F n h hro hn l Bb Bt n₀ B nm a1 a2 a3 c1 c2 c3 hl2 J Jx hY W hJa ((hW.block Bb (Array.getElem?_eq_some_iff.1 hBb).1).trans hBb) ((hW.block Bt (Array.getElem?_eq_some_iff.1 hBt).1).trans hBt)
    (fun hne => let ⟨b, off, e, hb, hat⟩ := hC hne; ⟨b, off, e, hb, fun i s hs => (hat i s hs).below hW (Nat.lt_of_lt_of_le hb hn0)⟩) (Nat.le_trans hn0 hW.size) h0

end Go.Proofs.Ytnaaebffajdogaa
