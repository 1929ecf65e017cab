/-
  My own. The walk over a service's copies: an iterator.
-/
import Derived.Test.YtbceafpodamnfaaWe
import Derived.Test.YtbceafpodamnfaaDf
import Derived.Test.YtbceafpodamnfaaWk
import Derived.Test.YtbceafpodamnfaaYk
import Derived.RangeFuncNested
import Derived.RangeFuncLeaves
import Derived.Shelf.Abstract
import Derived.OwnWalkIn
import Derived.TacticsInMore
import Derived.LoopNIn
import Derived.LoopIn
namespace Go.Proofs.Ytbceafpodamnfaa
open Go.RowKit Go.Shelf

attribute [local go_sem] Oper.semAt_some

set_option maxHeartbeats 1000000 in
theorem copiesIn_in (F : Fence) (n : Nat) (h : F.fn 52) (hro : F.round = none) (B : Bk) (nm : ByteArray) (a1 a2 a3 : Option Addr) (c1 c2 c3 : Nat) (w : World) :
    CallsIn F n Try.prog 52 #[.agg #[.int .i64 B.now, .slice a1 B.svcs.length c1, .slice a2 B.cps.length c2, .slice a3 B.bts.length c3], .string nm] w fun e w' => e = .returned (.func (.func 78) #[] #[.pointer (some ⟨w.heap.size, 0, none⟩), .pointer (some ⟨w.heap.size + 1, 0, none⟩)]) ∧ w' = (w.alloc (.cells #[.int .i64 B.now, .slice a1 B.svcs.length c1, .slice a2 B.cps.length c2, .slice a3 B.bts.length c3] 27)).alloc (.cells #[.string nm] 9) := by
  refine callsIn_of_wp Try.func52 rfl h ?_ hro
  simp only [Try.ntmps52, List.size_toArray, List.length_cons, List.length_nil, Nat.reduceAdd, Nat.reduceSub, Array.replicate_succ, Array.replicate_zero, List.push_toArray, List.append_toArray, List.nil_append, List.cons_append]
  gi_wp2
  go_ret
  exact ⟨rfl, rfl⟩

def ofS (nm : ByteArray) (l : List Cp) : List Cp := l.filter fun c => c.service.toList == nm.toList
def ofG {α : Type} (g : α → Cp) (nm : ByteArray) (l : List α) : List α := l.filter fun c => (g c).service.toList == nm.toList

/-- What is walked over: from the first that is not ahead of the name on, as long as it is the name's. -/
theorem ofG_cut {α : Type} (g : α → Cp) (nm : ByteArray) (l : List α) (f k : Nat) (hR : RiseC (l.map g))
    (h1 : ∀ (i : Nat) s, i < f → (l.map g)[i]? = some s → Op.bytesLess s.service.toList nm.toList = true)
    (h2 : ∀ (i : Nat) s, f ≤ i → (l.map g)[i]? = some s → Op.bytesLess s.service.toList nm.toList = false)
    (h3 : ∀ x ∈ (l.drop f).take k, ((g x).service.toList == nm.toList) = true)
    (h4 : ∀ x, (l.drop f)[k]? = some x → ((g x).service.toList == nm.toList) = false) : ofG g nm l = (l.drop f).take k := by
  have e : l = l.take f ++ ((l.drop f).take k ++ (l.drop f).drop k) := by rw [List.take_append_drop, List.take_append_drop]
  have at' : ∀ i x, l[i]? = some x → (l.map g)[i]? = some (g x) := fun i x h => by rw [List.getElem?_map, h]; rfl
  have f1 : (l.take f).filter (fun c => (g c).service.toList == nm.toList) = [] := List.filter_eq_nil_iff.2 fun x hx => by
    obtain ⟨i, hi⟩ := List.getElem?_of_mem hx
    have hif : i < f := by
      have := (List.getElem?_eq_some_iff.1 hi).1
      rw [List.length_take] at this
      omega
    rw [List.getElem?_take_of_lt hif] at hi
    have hb := h1 i _ hif (at' i x hi)
    intro hq
    rw [eq_of_beq hq, bytesLess_irrefl] at hb
    cases hb
  have f2 : ((l.drop f).take k).filter (fun c => (g c).service.toList == nm.toList) = (l.drop f).take k := List.filter_eq_self.2 h3
  have f3 : ((l.drop f).drop k).filter (fun c => (g c).service.toList == nm.toList) = [] := List.filter_eq_nil_iff.2 fun x hx => by
    obtain ⟨i, hi⟩ := List.getElem?_of_mem hx
    rw [List.getElem?_drop, List.getElem?_drop] at hi
    have hlt := (List.getElem?_eq_some_iff.1 hi).1
    obtain ⟨y, hy⟩ : ∃ y, l[f + k]? = some y := ⟨l[f + k]'(by omega), by rw [List.getElem?_eq_getElem]⟩
    have hyn := h4 y (by rw [List.getElem?_drop]; exact hy)
    have hyg := h2 (f + k) _ (by omega) (at' _ y hy)
    have ht := bytesLess_tri (g y).service.toList nm.toList
    rw [hyg, hyn] at ht
    have hlt2 : Op.bytesLess nm.toList (g y).service.toList = true := by simpa using ht.symm
    intro hq
    rcases Nat.eq_zero_or_pos i with h0 | h0
    · subst h0
      rw [Nat.add_zero, hy] at hi
      cases hi
      rw [hq] at hyn
      cases hyn
    · have hr := hR (f + k) (f + (k + i)) _ _ (by omega) (at' _ y hy) (at' _ x hi)
      rw [eq_of_beq hq, hlt2] at hr
      cases hr
  show l.filter _ = _
  conv => lhs; rw [e]
  rw [List.filter_append, List.filter_append, f1, f2, f3, List.append_nil, List.nil_append]

theorem ofG_long {α : Type} (g : α → Cp) (nm : ByteArray) (l : List α) (f k : Nat) (x : α) (hx : (l.drop f)[k]? = some x) (hq : ((g x).service.toList == nm.toList) = true)
    (h3 : ∀ x ∈ (l.drop f).take k, ((g x).service.toList == nm.toList) = true) : ((l.drop f).take k).length < (ofG g nm l).length := by
  have hk := (List.getElem?_eq_some_iff.1 hx).1
  have e : (l.drop f).take (k + 1) = (l.drop f).take k ++ [x] := by rw [List.take_add_one, hx]; rfl
  have hs : ((l.drop f).take (k + 1)).Sublist l := (List.take_sublist _ _).trans (List.drop_sublist _ _)
  have h := (hs.filter fun c => (g c).service.toList == nm.toList).length_le
  rw [List.filter_eq_self.2 (fun y hy => by
    rw [e, List.mem_append] at hy
    rcases hy with hy | hy
    · exact h3 y hy
    · rw [List.mem_singleton.1 hy]; exact hq), e, List.length_append] at h
  unfold ofG
  simp only [List.length_singleton] at h
  omega
theorem take_all {α : Type} (l : List α) (p : α → Bool) (k : Nat) (x : α) (hx : l[k]? = some x) (hq : p x = true) (h3 : ∀ x ∈ l.take k, p x = true) : ∀ x ∈ l.take (k + 1), p x = true := fun y hy => by
  rw [List.take_add_one, hx, List.mem_append] at hy
  rcases hy with hy | hy
  · exact h3 y hy
  · rw [List.mem_singleton.1 hy]; exact hq

/-- What a round keeps: all below n₀, and the block Bt. -/
def KpB (n₀ Bt : Nat) (W W' : World) : Prop := Below n₀ W W' ∧ W'.heap[Bt]? = W.heap[Bt]?

set_option maxRecDepth 100000 in
set_option maxHeartbeats 4000000 in
theorem copies1_in {α : Type} (g : α → Cp) (L : List α) (n : Nat) (hn : 1 ≤ n) (l Bb Bt n₀ : Nat) (B : Bk) (hLB : L.map g = B.cps) (nm : ByteArray) (a1 a2 a3 : Option Addr) (c1 c2 c3 : Nat) (hl2 : B.cps.length ≤ 1048576) (HSO : Hid (RiseC B.cps)) (HK : Hid (B.cps.length ≤ c2)) (J Jx : List α → World → Prop)
    (hY : ∀ pre x c W, g x = c → J pre W → pre.length < (ofG g nm L).length → YieldAt Fence.wide (n - 1) Try.prog l #[.agg #[.string c.service, .int .i64 c.number, .int .i64 c.version, .int .i64 c.image, .int .i64 c.state, .bool c.ending, .string c.berth]] W fun e W' =>
      (e = .returned (.bool true) ∧ J (pre ++ [x]) W' ∧ KpB n₀ Bt W W') ∨ (e = .returned (.bool false) ∧ Jx (pre ++ [x]) W'))
    (W : World) (hJa : AbidesFrom W.heap.size J) (hBb : W.heap[Bb]? = some (.cells #[.int .i64 B.now, .slice a1 B.svcs.length c1, .slice a2 B.cps.length c2, .slice a3 B.bts.length c3] 27 (0, 0)))
    (hBt : W.heap[Bt]? = some (.cells #[.string nm] 9 (0, 0))) (hC : B.cps ≠ [] → ∃ b off, a2 = some ⟨b, off, none⟩ ∧ b < n₀ ∧ CpsAt W b off B.cps) (hn0 : n₀ ≤ W.heap.size) (h0 : J [] W) :
    CallsIn Fence.wide n Try.prog 78 #[.func (.yield l) #[] #[], .pointer (some ⟨Bb, 0, none⟩), .pointer (some ⟨Bt, 0, none⟩)] W fun e W' => (∃ v, e = .returned v) ∧
      ((∃ ys, ys = ofG g nm L ∧ J ys W') ∨ (∃ pre, True ∧ Jx pre W')) := by
  have hbl : Bt < W.heap.size := (Array.getElem?_eq_some_iff.1 hBt).1
  have hbb : Bb < W.heap.size := (Array.getElem?_eq_some_iff.1 hBb).1
  have HBt : Hid _ := hBt
  have HBb : Hid _ := hBb
  have e2 := blk_cell hBb 2 rfl
  have et := blk_cell hBt 0 rfl
  have hSl : Hid (SlC W a2 B.cps) := fun hne => let ⟨b, off, e, hb, hat⟩ := hC hne; ⟨b, off, e, Nat.lt_of_lt_of_le hb hn0, hat⟩
  have hJb1 : ∀ w1, Below W.heap.size W w1 → J [] w1 := fun w1 hb => hJa _ _ _ none h0 ⟨hb.os, hb.tape, hb.output, hb.size, fun i hi _ => hb.block i hi⟩ (fun r e => by cases e)
  clear hBt hBb
  refine callsIn_of_wp Try.func78 rfl trivial ?_ rfl
  simp only [Try.ntmps78, List.size_toArray, List.length_cons, List.length_nil, Nat.reduceAdd, Nat.reduceSub, Array.replicate_succ, Array.replicate_zero, List.push_toArray, List.append_toArray, List.nil_append, List.cons_append]
  gi_wp2
  refine ⟨trivial, ?_⟩
  refine ((callsIn_wide (n := n - 1)).2 (bsC_any B.cps nm a2 B.cps.length c2 W rfl hl2 HSO hSl)).mono ?_
  rintro e w1 ⟨f, fd, rfl, hfn, hf1, hf2, hb1⟩
  have HF1 : Hid _ := hf1
  have HF2 : Hid _ := hf2
  clear hf1 hf2 e2 et
  have hJ1 : J [] w1 := hJb1 w1 hb1
  have BT1 : Hid _ := below_blk hb1 HBt.out hbl
  have hnb1 : Below n₀ W w1 := hb1.mono hn0
  have e2 := blk_cell (below_blk hb1 HBb.out hbb) 2 rfl
  have hLn : L.length = B.cps.length := by rw [← hLB, List.length_map]
  have hlt1 : n₀ ≤ w1.heap.size := Nat.le_trans hn0 hb1.size
  have hblt1 : Bt < w1.heap.size := Nat.lt_of_lt_of_le hbl hb1.size
  have hJa1 : ∀ s W1 o, J s W1 → J s (W1.alloc o) := fun s W1 o hs => hJa s _ _ none hs (World.grownBy_alloc W1 o none) (fun r e => by cases e)
  have HRG : Hid (RiseC (L.map g)) := by unfold Hid; rw [hLB]; exact HSO.out
  have HG1 : Hid (∀ (i : Nat) s, i < f → (L.map g)[i]? = some s → Op.bytesLess s.service.toList nm.toList = true) := by unfold Hid; rw [hLB]; exact HF1.out
  have HG2 : Hid (∀ (i : Nat) s, f ≤ i → (L.map g)[i]? = some s → Op.bytesLess s.service.toList nm.toList = false) := by unfold Hid; rw [hLB]; exact HF2.out
  clear HBb HBt hb1 hSl HF1 HF2 hJb1 hJa h0 HSO
  by_cases hfl : f < B.cps.length
  · have hcf : ¬ (c2 = f) := by have := HK.out; omega
    obtain ⟨b, off, ea, hbs, hat⟩ := hC (by intro h; rw [h] at hfl; simp at hfl)
    subst ea
    have HAT : Hid (CpsAt W b off B.cps) := hat
    obtain ⟨m, hm⟩ : ∃ m, B.cps.length - f = m := ⟨_, rfl⟩
    have hm1 : m ≤ 1048576 := by omega
    have HM : Hid (f + m = B.cps.length) := by unfold Hid; omega
    clear hC hat hfl
    gi_wp2
    clear e2 hm hcf
    gi_loopw [20] (fun i wr => ∃ k : Nat, k ≤ m ∧ i = .int .i64 k ∧ Hid (∀ x ∈ (L.drop f).take k, ((g x).service.toList == nm.toList) = true) ∧ J ((L.drop f).take k) wr ∧ Below n₀ W wr ∧ Hid (wr.heap[Bt]? = some (.cells #[.string nm] 9 (0, 0))))
      (fun i _ => m - (intOf i).toNat)
    case atStart => exact ⟨0, Nat.zero_le _, rfl, (by intro x hx; simp at hx), hJ1, hnb1, BT1⟩
    case round =>
      clear BT1 hnb1 hJ1
      obtain ⟨k, hk, rfl, HAL, hJs, hnx, hbt⟩ := hrel
      by_cases hlt : k < m
      · obtain ⟨x, hxk⟩ : ∃ x, (L.drop f)[k]? = some x := ⟨(L.drop f)[k]'(by rw [List.length_drop, hLn]; have := HM.out; omega), by rw [List.getElem?_eq_getElem]⟩
        have HXK : Hid ((L.drop f)[k]? = some x) := hxk
        have hsk : B.cps[f + k]? = some (g x) := by rw [← hLB, List.getElem?_map, ← List.getElem?_drop, hxk]; rfl
        obtain ⟨c, hgc⟩ : ∃ c, g x = c := ⟨_, rfl⟩
        have HGC : Hid (g x = c) := hgc
        rw [hgc] at hsk
        have hcs := (HAT.out (f + k) c hsk).below hnx hbs
        rw [Nat.add_mul, ← Nat.add_assoc] at hcs
        clear hgc hsk hxk
        unfold CpAt at hcs
        obtain ⟨x0, x1, x2, x3, x4, x5, x6⟩ := hcs
        have hbt0 := blk_cell hbt.out 0 rfl
        have hblt : Bt < wr.heap.size := (Array.getElem?_eq_some_iff.1 hbt.out).1
        have hw1 := below_box wr (.cells #[.string c.service, .int .i64 c.number, .int .i64 c.version, .int .i64 c.image, .int .i64 c.state, .bool c.ending, .string c.berth] 35)
        have hnx1 := hnx.trans (hw1.mono (Nat.le_trans hn0 hnx.size))
        have hbt1 : Hid _ := below_blk hw1 hbt.out hblt
        have hJb : J ((L.drop f).take k) (wr.alloc (.cells #[.string c.service, .int .i64 c.number, .int .i64 c.version, .int .i64 c.image, .int .i64 c.state, .bool c.ending, .string c.berth] 35)) := hJa1 _ _ _ hJs
        cases hsame : (c.service.toList == nm.toList)
        · have HCUT : Hid (ofG g nm L = (L.drop f).take k) := ofG_cut g nm L f k HRG.out HG1.out HG2.out HAL.out (fun y hy => by rw [HXK.out] at hy; cases hy; rw [HGC.out]; exact hsame)
          gi_wp2
          refine ⟨fun _ h => (by cases h), ?_⟩
          gi_wp2
          refine bodyPost_ret (results_none rfl _ _ _) rfl ?_
          exact ⟨⟨_, rfl⟩, .inl ⟨_, HCUT.out.symm, hJb⟩⟩
        · have HTK : Hid ((L.drop f).take (k + 1) = (L.drop f).take k ++ [x]) := by unfold Hid; rw [List.take_add_one, HXK.out]; rfl
          have HAL1 : Hid (∀ x ∈ (L.drop f).take (k + 1), ((g x).service.toList == nm.toList) = true) := take_all (L.drop f) (fun y => (g y).service.toList == nm.toList) k x HXK.out (by show ((g x).service.toList == nm.toList) = true; rw [HGC.out]; exact hsame) HAL.out
          obtain ⟨fn, tmps, assign, body, hy, hR⟩ := hY _ x c (wr.alloc (.cells #[.string c.service, .int .i64 c.number, .int .i64 c.version, .int .i64 c.image, .int .i64 c.state, .bool c.ending, .string c.berth] 35)) HGC.out hJb (ofG_long g nm L f k x HXK.out (by rw [HGC.out]; exact hsame) HAL.out)
          gi_wp2
          refine hR.mono ?_
          rintro e W3 (⟨rfl, hJ3, hk3⟩ | ⟨rfl, hJx3⟩)
          · gi_wp2
            go_roundw
            case rel => exact ⟨k + 1, by omega, by go_num, HAL1, by rw [HTK.out]; exact hJ3, hnx1.trans hk3.1, hk3.2.trans hbt1.out⟩
            case measure => simp [intOf]; omega
          · gi_wp2
            refine bodyPost_ret (results_none rfl _ _ _) rfl ?_
            exact ⟨⟨_, rfl⟩, .inr ⟨_, trivial, hJx3⟩⟩
      · obtain rfl : k = m := by omega
        have HCUT : Hid (ofG g nm L = (L.drop f).take k) := ofG_cut g nm L f k HRG.out HG1.out HG2.out HAL.out (fun y hy => absurd (List.getElem?_eq_some_iff.1 hy).1 (by rw [List.length_drop, hLn]; have := HM.out; omega))
        gi_wp2
        go_end0
        exact ⟨⟨_, rfl⟩, .inl ⟨_, HCUT.out.symm, hJs⟩⟩
  · obtain rfl : f = B.cps.length := by omega
    have HCUT : Hid (ofG g nm L = []) := ofG_cut g nm L B.cps.length 0 HRG.out HG1.out HG2.out (by intro x hx; simp at hx) (fun y hy => absurd (List.getElem?_eq_some_iff.1 hy).1 (by rw [List.length_drop, hLn]; omega))
    by_cases hcf : c2 = B.cps.length
    · subst hcf
      gi_wp2
      clear e2
      gi_loopw [20] (fun i wr => i = .int .i64 0 ∧ J [] wr) (fun _ _ => 0)
      case atStart => exact ⟨rfl, hJ1⟩
      case round =>
        obtain ⟨rfl, hJs⟩ := hrel
        gi_wp2
        go_end0
        exact ⟨⟨_, rfl⟩, .inl ⟨_, HCUT.out.symm, hJs⟩⟩
    · have hcf' := hcf
      clear hcf
      gi_wp2
      clear e2 hcf'
      gi_loopw [20] (fun i wr => i = .int .i64 0 ∧ J [] wr) (fun _ _ => 0)
      case atStart => exact ⟨rfl, hJ1⟩
      case round =>
        obtain ⟨rfl, hJs⟩ := hrel
        gi_wp2
        go_end0
        exact ⟨⟨_, rfl⟩, .inl ⟨_, HCUT.out.symm, hJs⟩⟩

theorem copies_stops (n : Nat) (hn : 1 ≤ n) (Bb Bt n₀ : Nat) (B : Bk) (nm : ByteArray) (a1 a2 a3 : Option Addr) (c1 c2 c3 : Nat) (hl2 : B.cps.length ≤ 1048576) (HSO : Hid (RiseC B.cps)) (HK : Hid (B.cps.length ≤ c2)) (w : World)
    (hBb : w.heap[Bb]? = some (.cells #[.int .i64 B.now, .slice a1 B.svcs.length c1, .slice a2 B.cps.length c2, .slice a3 B.bts.length c3] 27 (0, 0)))
    (hBt : w.heap[Bt]? = some (.cells #[.string nm] 9 (0, 0))) (hC : B.cps ≠ [] → ∃ b off, a2 = some ⟨b, off, none⟩ ∧ b < n₀ ∧ CpsAt w b off B.cps) (hn0 : n₀ ≤ w.heap.size) :
    SeqStopsK Fence.wide n Try.prog 78 #[.pointer (some ⟨Bb, 0, none⟩), .pointer (some ⟨Bt, 0, none⟩)] (fun x : Cp => #[.agg #[.string x.service, .int .i64 x.number, .int .i64 x.version, .int .i64 x.image, .int .i64 x.state, .bool x.ending, .string x.berth]]) (KpB n₀ Bt) (fun ys => ys = ofS nm B.cps) (fun _ => True) (ofS nm B.cps).length w := fun l J Jx W hW hJa _ hY h0 =>
  copies1_in id B.cps n hn l Bb Bt n₀ B (List.map_id _) nm a1 a2 a3 c1 c2 c3 hl2 HSO HK J Jx (fun pre x c W e => by subst e; exact hY pre x W) W hJa ((hW.block Bb (Array.getElem?_eq_some_iff.1 hBb).1).trans hBb) ((hW.block Bt (Array.getElem?_eq_some_iff.1 hBt).1).trans hBt)
    (fun hne => let ⟨b, off, e, hb, hat⟩ := hC hne; ⟨b, off, e, hb, fun i s hs => (hat i s hs).below hW (Nat.lt_of_lt_of_le hb hn0)⟩) (Nat.le_trans hn0 hW.size) h0

end Go.Proofs.Ytbceafpodamnfaa
