/-
  My own: Yd, Ye, Yi.
-/
import Derived.Test.YtbceafpodamnfabGreatA00
import Derived.Test.YtbceafpodamnfabGreatA05
import Derived.Test.YtbceafpodamnfabGreatA01
import Derived.RangeFuncNested
import Derived.RangeFuncLeaves
import Derived.Shelf.Abstract
import Derived.OwnWalkIn
import Derived.TacticsInMore
import Derived.LoopNIn
import Derived.LoopIn
/-
  My own. The walk over a service's copies: an iterator.
-/
namespace Go.Proofs.YtbceafpodamnfabGreat
open Go.RowKit Go.Shelf

attribute [local go_sem] Oper.semAt_some

set_option maxHeartbeats 1000000 in
theorem copiesIn_in (F : Fence) (n : Nat) (h : F.fn 108) (hro : F.round = none) (B : Bk) (nm : ByteArray) (a1 a2 a3 : Option Addr) (c1 c2 c3 : Nat) (w : World) :
    CallsIn F n Tryz.prog 108 #[.agg #[.int .i64 B.now, .slice a1 B.svcs.length c1, .slice a2 B.cps.length c2, .slice a3 B.bts.length c3], .string nm] w fun e w' => e = .returned (.func (.func 135) #[] #[.pointer (some ⟨w.heap.size, 0, none⟩), .pointer (some ⟨w.heap.size + 1, 0, none⟩)]) ∧ w' = (w.alloc (.cells #[.int .i64 B.now, .slice a1 B.svcs.length c1, .slice a2 B.cps.length c2, .slice a3 B.bts.length c3] 34)).alloc (.cells #[.string nm] 9) := by
  refine callsIn_of_wp Tryz.func108 rfl h ?_ hro
  simp only [Tryz.ntmps108, List.size_toArray, List.length_cons, List.length_nil, Nat.reduceAdd, Nat.reduceSub, Array.replicate_succ, Array.replicate_zero, List.push_toArray, List.append_toArray, List.nil_append, List.cons_append]
  gi_wp2
  go_ret
  exact ⟨rfl, rfl⟩

def ofS (nm : ByteArray) (l : List Cp) : List Cp := l.filter fun c => c.service.toList == nm.toList
def ofG {α : Type} (g : α → Cp) (nm : ByteArray) (l : List α) : List α := l.filter fun c => (g c).service.toList == nm.toList

/-- What is walked over: from the first that is not ahead of the name on, as long as it is the name's. -/
theorem ofG_cut {α : Type} (g : α → Cp) (nm : ByteArray) (l : List α) (f k : Nat) (hR : RiseC (l.map g))
    (h1 : ∀ (i : Nat) s, i < f → (l.map g)[i]? = some s → Op.bytesLess s.service.toList nm.toList = true)
    (h2 : ∀ (i : Nat) s, f ≤ i → (l.map g)[i]? = some s → Op.bytesLess s.service.toList nm.toList = false)
    (h3 : ∀ x ∈ (l.drop f).take k, ((g x).service.toList == nm.toList) = true)
    (h4 : ∀ x, (l.drop f)[k]? = some x → ((g x).service.toList == nm.toList) = false) : ofG g nm l = (l.drop f).take k := by
  have e : l = l.take f ++ ((l.drop f).take k ++ (l.drop f).drop k) := by rw [List.take_append_drop, List.take_append_drop]
  have at' : ∀ i x, l[i]? = some x → (l.map g)[i]? = some (g x) := fun i x h => by rw [List.getElem?_map, h]; rfl
  have f1 : (l.take f).filter (fun c => (g c).service.toList == nm.toList) = [] := List.filter_eq_nil_iff.2 fun x hx => by
    obtain ⟨i, hi⟩ := List.getElem?_of_mem hx
    have hif : i < f := by
      have := (List.getElem?_eq_some_iff.1 hi).1
      rw [List.length_take] at this
      omega
    rw [List.getElem?_take_of_lt hif] at hi
    have hb := h1 i _ hif (at' i x hi)
    intro hq
    rw [eq_of_beq hq, bytesLess_irrefl] at hb
    cases hb
  have f2 : ((l.drop f).take k).filter (fun c => (g c).service.toList == nm.toList) = (l.drop f).take k := List.filter_eq_self.2 h3
  have f3 : ((l.drop f).drop k).filter (fun c => (g c).service.toList == nm.toList) = [] := List.filter_eq_nil_iff.2 fun x hx => by
    obtain ⟨i, hi⟩ := List.getElem?_of_mem hx
    rw [List.getElem?_drop, List.getElem?_drop] at hi
    have hlt := (List.getElem?_eq_some_iff.1 hi).1
    obtain ⟨y, hy⟩ : ∃ y, l[f + k]? = some y := ⟨l[f + k]'(by omega), by rw [List.getElem?_eq_getElem]⟩
    have hyn := h4 y (by rw [List.getElem?_drop]; exact hy)
    have hyg := h2 (f + k) _ (by omega) (at' _ y hy)
    have ht := bytesLess_tri (g y).service.toList nm.toList
    rw [hyg, hyn] at ht
    have hlt2 : Op.bytesLess nm.toList (g y).service.toList = true := by simpa using ht.symm
    intro hq
    rcases Nat.eq_zero_or_pos i with h0 | h0
    · subst h0
      rw [Nat.add_zero, hy] at hi
      cases hi
      rw [hq] at hyn
      cases hyn
    · have hr := hR (f + k) (f + (k + i)) _ _ (by omega) (at' _ y hy) (at' _ x hi)
      rw [eq_of_beq hq, hlt2] at hr
      cases hr
  show l.filter _ = _
  conv => lhs; rw [e]
  rw [List.filter_append, List.filter_append, f1, f2, f3, List.append_nil, List.nil_append]

theorem ofG_long {α : Type} (g : α → Cp) (nm : ByteArray) (l : List α) (f k : Nat) (x : α) (hx : (l.drop f)[k]? = some x) (hq : ((g x).service.toList == nm.toList) = true)
    (h3 : ∀ x ∈ (l.drop f).take k, ((g x).service.toList == nm.toList) = true) : ((l.drop f).take k).length < (ofG g nm l).length := by
  have hk := (List.getElem?_eq_some_iff.1 hx).1
  have e : (l.drop f).take (k + 1) = (l.drop f).take k ++ [x] := by rw [List.take_add_one, hx]; rfl
  have hs : ((l.drop f).take (k + 1)).Sublist l := (List.take_sublist _ _).trans (List.drop_sublist _ _)
  have h := (hs.filter fun c => (g c).service.toList == nm.toList).length_le
  rw [List.filter_eq_self.2 (fun y hy => by
    rw [e, List.mem_append] at hy
    rcases hy with hy | hy
    · exact h3 y hy
    · rw [List.mem_singleton.1 hy]; exact hq), e, List.length_append] at h
  unfold ofG
  simp only [List.length_singleton] at h
  omega
theorem take_all {α : Type} (l : List α) (p : α → Bool) (k : Nat) (x : α) (hx : l[k]? = some x) (hq : p x = true) (h3 : ∀ x ∈ l.take k, p x = true) : ∀ x ∈ l.take (k + 1), p x = true := fun y hy => by
  rw [List.take_add_one, hx, List.mem_append] at hy
  rcases hy with hy | hy
  · exact h3 y hy
  · rw [List.mem_singleton.1 hy]; exact hq

/-- What a round keeps: all below n₀, and the block Bt. -/
def KpB (n₀ Bt : Nat) (W W' : World) : Prop := Below n₀ W W' ∧ W'.heap[Bt]? = W.heap[Bt]?

set_option maxRecDepth 100000 in
set_option maxHeartbeats 4000000 in
theorem copies1_in {α : Type} (g : α → Cp) (L : List α) (n : Nat) (hn : 1 ≤ n) (l Bb Bt n₀ : Nat) (B : Bk) (hLB : L.map g = B.cps) (nm : ByteArray) (a1 a2 a3 : Option Addr) (c1 c2 c3 : Nat) (hl2 : B.cps.length ≤ 1048576) (HSO : Hid (RiseC B.cps)) (HK : Hid (B.cps.length ≤ c2)) (J Jx : List α → World → Prop)
    (hY : ∀ pre x c W, g x = c → J pre W → pre.length < (ofG g nm L).length → YieldAt Fence.wide (n - 1) Tryz.prog l #[.agg #[.string c.service, .int .i64 c.number, .int .i64 c.version, .int .i64 c.image, .int .i64 c.state, .bool c.ending, .string c.berth]] W fun e W' =>
      (e = .returned (.bool true) ∧ J (pre ++ [x]) W' ∧ KpB n₀ Bt W W') ∨ (e = .returned (.bool false) ∧ Jx (pre ++ [x]) W'))
    (W : World) (hJa : AbidesFrom W.heap.size J) (hBb : W.heap[Bb]? = some (.cells #[.int .i64 B.now, .slice a1 B.svcs.length c1, .slice a2 B.cps.length c2, .slice a3 B.bts.length c3] 34 (0, 0)))
    (hBt : W.heap[Bt]? = some (.cells #[.string nm] 9 (0, 0))) (hC : B.cps ≠ [] → ∃ b off, a2 = some ⟨b, off, none⟩ ∧ b < n₀ ∧ CpsAt W b off B.cps) (hn0 : n₀ ≤ W.heap.size) (h0 : J [] W) :
    CallsIn Fence.wide n Tryz.prog 135 #[.func (.yield l) #[] #[], .pointer (some ⟨Bb, 0, none⟩), .pointer (some ⟨Bt, 0, none⟩)] W fun e W' => (∃ v, e = .returned v) ∧
      ((∃ ys, ys = ofG g nm L ∧ J ys W') ∨ (∃ pre, True ∧ Jx pre W')) := by
  have hbl : Bt < W.heap.size := (Array.getElem?_eq_some_iff.1 hBt).1
  have hbb : Bb < W.heap.size := (Array.getElem?_eq_some_iff.1 hBb).1
  have HBt : Hid _ := hBt
  have HBb : Hid _ := hBb
  have e2 := blk_cell hBb 2 rfl
  have et := blk_cell hBt 0 rfl
  have hSl : Hid (SlC W a2 B.cps) := fun hne => let ⟨b, off, e, hb, hat⟩ := hC hne; ⟨b, off, e, Nat.lt_of_lt_of_le hb hn0, hat⟩
  have hJb1 : ∀ w1, Below W.heap.size W w1 → J [] w1 := fun w1 hb => hJa _ _ _ none h0 ⟨hb.os, hb.tape, hb.output, hb.size, fun i hi _ => hb.block i hi⟩ (fun r e => by cases e)
  clear hBt hBb
  refine callsIn_of_wp Tryz.func135 rfl trivial ?_ rfl
  simp only [Tryz.ntmps135, List.size_toArray, List.length_cons, List.length_nil, Nat.reduceAdd, Nat.reduceSub, Array.replicate_succ, Array.replicate_zero, List.push_toArray, List.append_toArray, List.nil_append, List.cons_append]
  gi_wp2
  refine ⟨trivial, ?_⟩
  refine ((callsIn_wide (n := n - 1)).2 (bsC_any B.cps nm a2 B.cps.length c2 W rfl hl2 HSO hSl)).mono ?_
  rintro e w1 ⟨f, fd, rfl, hfn, hf1, hf2, hb1⟩
  have HF1 : Hid _ := hf1
  have HF2 : Hid _ := hf2
  clear hf1 hf2 e2 et
  have hJ1 : J [] w1 := hJb1 w1 hb1
  have BT1 : Hid _ := below_blk hb1 HBt.out hbl
  have hnb1 : Below n₀ W w1 := hb1.mono hn0
  have e2 := blk_cell (below_blk hb1 HBb.out hbb) 2 rfl
  have hLn : L.length = B.cps.length := by rw [← hLB, List.length_map]
  have hlt1 : n₀ ≤ w1.heap.size := Nat.le_trans hn0 hb1.size
  have hblt1 : Bt < w1.heap.size := Nat.lt_of_lt_of_le hbl hb1.size
  have hJa1 : ∀ s W1 o, J s W1 → J s (W1.alloc o) := fun s W1 o hs => hJa s _ _ none hs (World.grownBy_alloc W1 o none) (fun r e => by cases e)
  have HRG : Hid (RiseC (L.map g)) := by unfold Hid; rw [hLB]; exact HSO.out
  have HG1 : Hid (∀ (i : Nat) s, i < f → (L.map g)[i]? = some s → Op.bytesLess s.service.toList nm.toList = true) := by unfold Hid; rw [hLB]; exact HF1.out
  have HG2 : Hid (∀ (i : Nat) s, f ≤ i → (L.map g)[i]? = some s → Op.bytesLess s.service.toList nm.toList = false) := by unfold Hid; rw [hLB]; exact HF2.out
  clear HBb HBt hb1 hSl HF1 HF2 hJb1 hJa h0 HSO
  by_cases hfl : f < B.cps.length
  · have hcf : ¬ (c2 = f) := by have := HK.out; omega
    obtain ⟨b, off, ea, hbs, hat⟩ := hC (by intro h; rw [h] at hfl; simp at hfl)
    subst ea
    have HAT : Hid (CpsAt W b off B.cps) := hat
    obtain ⟨m, hm⟩ : ∃ m, B.cps.length - f = m := ⟨_, rfl⟩
    have hm1 : m ≤ 1048576 := by omega
    have HM : Hid (f + m = B.cps.length) := by unfold Hid; omega
    clear hC hat hfl
    gi_wp2
    clear e2 hm hcf
    gi_loopw [20] (fun i wr => ∃ k : Nat, k ≤ m ∧ i = .int .i64 k ∧ Hid (∀ x ∈ (L.drop f).take k, ((g x).service.toList == nm.toList) = true) ∧ J ((L.drop f).take k) wr ∧ Below n₀ W wr ∧ Hid (wr.heap[Bt]? = some (.cells #[.string nm] 9 (0, 0))))
      (fun i _ => m - (intOf i).toNat)
    case atStart => exact ⟨0, Nat.zero_le _, rfl, (by intro x hx; simp at hx), hJ1, hnb1, BT1⟩
    case round =>
      clear BT1 hnb1 hJ1
      obtain ⟨k, hk, rfl, HAL, hJs, hnx, hbt⟩ := hrel
      by_cases hlt : k < m
      · obtain ⟨x, hxk⟩ : ∃ x, (L.drop f)[k]? = some x := ⟨(L.drop f)[k]'(by rw [List.length_drop, hLn]; have := HM.out; omega), by rw [List.getElem?_eq_getElem]⟩
        have HXK : Hid ((L.drop f)[k]? = some x) := hxk
        have hsk : B.cps[f + k]? = some (g x) := by rw [← hLB, List.getElem?_map, ← List.getElem?_drop, hxk]; rfl
        obtain ⟨c, hgc⟩ : ∃ c, g x = c := ⟨_, rfl⟩
        have HGC : Hid (g x = c) := hgc
        rw [hgc] at hsk
        have hcs := (HAT.out (f + k) c hsk).below hnx hbs
        rw [Nat.add_mul, ← Nat.add_assoc] at hcs
        clear hgc hsk hxk
        unfold CpAt at hcs
        obtain ⟨x0, x1, x2, x3, x4, x5, x6⟩ := hcs
        have hbt0 := blk_cell hbt.out 0 rfl
        have hblt : Bt < wr.heap.size := (Array.getElem?_eq_some_iff.1 hbt.out).1
        have hw1 := below_box wr (.cells #[.string c.service, .int .i64 c.number, .int .i64 c.version, .int .i64 c.image, .int .i64 c.state, .bool c.ending, .string c.berth] 88)
        have hnx1 := hnx.trans (hw1.mono (Nat.le_trans hn0 hnx.size))
        have hbt1 : Hid _ := below_blk hw1 hbt.out hblt
        have hJb : J ((L.drop f).take k) (wr.alloc (.cells #[.string c.service, .int .i64 c.number, .int .i64 c.version, .int .i64 c.image, .int .i64 c.state, .bool c.ending, .string c.berth] 88)) := hJa1 _ _ _ hJs
        cases hsame : (c.service.toList == nm.toList)
        · have HCUT : Hid (ofG g nm L = (L.drop f).take k) := ofG_cut g nm L f k HRG.out HG1.out HG2.out HAL.out (fun y hy => by rw [HXK.out] at hy; cases hy; rw [HGC.out]; exact hsame)
          gi_wp2
          refine ⟨fun _ h => (by cases h), ?_⟩
          gi_wp2
          refine bodyPost_ret (results_none rfl _ _ _) rfl ?_
          exact ⟨⟨_, rfl⟩, .inl ⟨_, HCUT.out.symm, hJb⟩⟩
        · have HTK : Hid ((L.drop f).take (k + 1) = (L.drop f).take k ++ [x]) := by unfold Hid; rw [List.take_add_one, HXK.out]; rfl
          have HAL1 : Hid (∀ x ∈ (L.drop f).take (k + 1), ((g x).service.toList == nm.toList) = true) := take_all (L.drop f) (fun y => (g y).service.toList == nm.toList) k x HXK.out (by show ((g x).service.toList == nm.toList) = true; rw [HGC.out]; exact hsame) HAL.out
          obtain ⟨fn, tmps, assign, body, hy, hR⟩ := hY _ x c (wr.alloc (.cells #[.string c.service, .int .i64 c.number, .int .i64 c.version, .int .i64 c.image, .int .i64 c.state, .bool c.ending, .string c.berth] 88)) HGC.out hJb (ofG_long g nm L f k x HXK.out (by rw [HGC.out]; exact hsame) HAL.out)
          gi_wp2
          refine hR.mono ?_
          rintro e W3 (⟨rfl, hJ3, hk3⟩ | ⟨rfl, hJx3⟩)
          · gi_wp2
            go_roundw
            case rel => exact ⟨k + 1, by omega, by go_num, HAL1, by rw [HTK.out]; exact hJ3, hnx1.trans hk3.1, hk3.2.trans hbt1.out⟩
            case measure => simp [intOf]; omega
          · gi_wp2
            refine bodyPost_ret (results_none rfl _ _ _) rfl ?_
            exact ⟨⟨_, rfl⟩, .inr ⟨_, trivial, hJx3⟩⟩
      · obtain rfl : k = m := by omega
        have HCUT : Hid (ofG g nm L = (L.drop f).take k) := ofG_cut g nm L f k HRG.out HG1.out HG2.out HAL.out (fun y hy => absurd (List.getElem?_eq_some_iff.1 hy).1 (by rw [List.length_drop, hLn]; have := HM.out; omega))
        gi_wp2
        go_end0
        exact ⟨⟨_, rfl⟩, .inl ⟨_, HCUT.out.symm, hJs⟩⟩
  · obtain rfl : f = B.cps.length := by omega
    have HCUT : Hid (ofG g nm L = []) := ofG_cut g nm L B.cps.length 0 HRG.out HG1.out HG2.out (by intro x hx; simp at hx) (fun y hy => absurd (List.getElem?_eq_some_iff.1 hy).1 (by rw [List.length_drop, hLn]; omega))
    by_cases hcf : c2 = B.cps.length
    · subst hcf
      gi_wp2
      clear e2
      gi_loopw [20] (fun i wr => i = .int .i64 0 ∧ J [] wr) (fun _ _ => 0)
      case atStart => exact ⟨rfl, hJ1⟩
      case round =>
        obtain ⟨rfl, hJs⟩ := hrel
        gi_wp2
        go_end0
        exact ⟨⟨_, rfl⟩, .inl ⟨_, HCUT.out.symm, hJs⟩⟩
    · have hcf' := hcf
      clear hcf
      gi_wp2
      clear e2 hcf'
      gi_loopw [20] (fun i wr => i = .int .i64 0 ∧ J [] wr) (fun _ _ => 0)
      case atStart => exact ⟨rfl, hJ1⟩
      case round =>
        obtain ⟨rfl, hJs⟩ := hrel
        gi_wp2
        go_end0
        exact ⟨⟨_, rfl⟩, .inl ⟨_, HCUT.out.symm, hJs⟩⟩

theorem copies_stops (n : Nat) (hn : 1 ≤ n) (Bb Bt n₀ : Nat) (B : Bk) (nm : ByteArray) (a1 a2 a3 : Option Addr) (c1 c2 c3 : Nat) (hl2 : B.cps.length ≤ 1048576) (HSO : Hid (RiseC B.cps)) (HK : Hid (B.cps.length ≤ c2)) (w : World)
    (hBb : w.heap[Bb]? = some (.cells #[.int .i64 B.now, .slice a1 B.svcs.length c1, .slice a2 B.cps.length c2, .slice a3 B.bts.length c3] 34 (0, 0)))
    (hBt : w.heap[Bt]? = some (.cells #[.string nm] 9 (0, 0))) (hC : B.cps ≠ [] → ∃ b off, a2 = some ⟨b, off, none⟩ ∧ b < n₀ ∧ CpsAt w b off B.cps) (hn0 : n₀ ≤ w.heap.size) :
    SeqStopsK Fence.wide n Tryz.prog 135 #[.pointer (some ⟨Bb, 0, none⟩), .pointer (some ⟨Bt, 0, none⟩)] (fun x : Cp => #[.agg #[.string x.service, .int .i64 x.number, .int .i64 x.version, .int .i64 x.image, .int .i64 x.state, .bool x.ending, .string x.berth]]) (KpB n₀ Bt) (fun ys => ys = ofS nm B.cps) (fun _ => True) (ofS nm B.cps).length w := fun l J Jx W hW hJa _ hY h0 =>
  copies1_in id B.cps n hn l Bb Bt n₀ B (List.map_id _) nm a1 a2 a3 c1 c2 c3 hl2 HSO HK J Jx (fun pre x c W e => by subst e; exact hY pre x W) W hJa ((hW.block Bb (Array.getElem?_eq_some_iff.1 hBb).1).trans hBb) ((hW.block Bt (Array.getElem?_eq_some_iff.1 hBt).1).trans hBt)
    (fun hne => let ⟨b, off, e, hb, hat⟩ := hC hne; ⟨b, off, e, hb, fun i s hs => (hat i s hs).below hW (Nat.lt_of_lt_of_le hb hn0)⟩) (Nat.le_trans hn0 hW.size) h0

end Go.Proofs.YtbceafpodamnfabGreat

/-
  My own. The program counts.
-/
namespace Go.Proofs.YtbceafpodamnfabGreat
open Go.RowKit Go.Shelf

attribute [local go_sem] Oper.semAt_some

def cntCells (n : Cnt) : Array Value := #[.int .i64 n.live, .int .i64 n.ready, .int .i64 n.old, .int .i64 n.failed, .int .i64 n.ending]
def cntF (img : Int) (l : List Cp) : Cnt := l.foldl (fun n c => cntAdd img c n) Cnt.none
theorem cntF_snoc (img : Int) (l : List Cp) (c : Cp) : cntF img (l ++ [c]) = cntAdd img c (cntF img l) := by simp [cntF]
theorem cntF_ofS (img : Int) (nm : ByteArray) : ∀ (l : List Cp) (n : Cnt), (ofS nm l).foldl (fun n c => cntAdd img c n) n = l.foldl (fun n c => cntOne img nm c n) n
  | [], _ => rfl
  | c :: l, n => by
    have ih := cntF_ofS img nm l
    unfold ofS at *
    rw [List.filter_cons, List.foldl_cons]
    by_cases h : (c.service.toList == nm.toList) = true
    · rw [if_pos h, List.foldl_cons, ih]; simp [cntOne, h]
    · rw [if_neg h, ih]; simp [cntOne, h]
theorem cntAdd_upTo (img : Int) (c : Cp) (n : Cnt) (k : Nat) (h : n.upTo k) : (cntAdd img c n).upTo (k + 1) := by
  have := cntOne_upTo img c.service c n k h
  simpa [cntOne] using this
theorem cntF_upTo (img : Int) (l : List Cp) : (cntF img l).upTo l.length := by
  have : ∀ (l : List Cp) (n : Cnt) (k : Nat), n.upTo k → (l.foldl (fun n c => cntAdd img c n) n).upTo (k + l.length) := by
    intro l
    induction l with
    | nil => intro n k h; exact h
    | cons c l ih =>
      intro n k h
      have := ih _ _ (cntAdd_upTo img c n k h)
      rw [List.foldl_cons, List.length_cons, Nat.add_comm l.length 1, ← Nat.add_assoc]
      exact this
  have h := this l Cnt.none 0 (by unfold Cnt.upTo Cnt.none; dsimp only; omega)
  rw [Nat.zero_add] at h
  exact h
theorem ofS_length (nm : ByteArray) (l : List Cp) : (ofS nm l).length ≤ l.length := List.length_filter_le _ _

theorem cells_own {β : Type} (B : Nat) (t : TypeId) (f : β → Array Value) : Own (fun s W => W.heap[B]? = some (.cells (f s) t (0, 0))) := fun s X Y row hs hg hrow =>
  (hg.block B (Array.getElem?_eq_some_iff.1 hs).1 (fun e => by obtain ⟨o, ho, hc⟩ := hrow B e.symm; rw [hs] at ho; cases ho; cases hc)).trans hs

theorem six_new (w : World) (A B C D E F : Obj) : ∃ W0, ((((((w.alloc A).alloc B).alloc C).alloc D).alloc E).alloc F) = W0 ∧ W0.heap[w.heap.size + 1]? = some B ∧ W0.heap[w.heap.size + 1 + 1]? = some C ∧ W0.heap[w.heap.size + 1 + 1 + 1]? = some D ∧ W0.heap[w.heap.size + 1 + 1 + 1 + 1]? = some E ∧ W0.heap[w.heap.size + 1 + 1 + 1 + 1 + 1]? = some F ∧ W0.heap.size = w.heap.size + 1 + 1 + 1 + 1 + 1 + 1 ∧ Below w.heap.size w W0 := by
  refine ⟨_, rfl, ?_⟩
  have e : ((((((w.alloc A).alloc B).alloc C).alloc D).alloc E).alloc F).heap = (((((w.heap.push A).push B).push C).push D).push E).push F := rfl
  rw [e]
  refine ⟨?_, ?_, ?_, ?_, ?_, by simp, ?_⟩
  · rw [Array.getElem?_push, if_neg (by simp; try omega), Array.getElem?_push, if_neg (by simp; try omega), Array.getElem?_push, if_neg (by simp; try omega), Array.getElem?_push, if_neg (by simp), Array.getElem?_push, if_pos (by simp)]
  · rw [Array.getElem?_push, if_neg (by simp; try omega), Array.getElem?_push, if_neg (by simp; try omega), Array.getElem?_push, if_neg (by simp), Array.getElem?_push, if_pos (by simp)]
  · rw [Array.getElem?_push, if_neg (by simp; try omega), Array.getElem?_push, if_neg (by simp), Array.getElem?_push, if_pos (by simp)]
  · rw [Array.getElem?_push, if_neg (by simp), Array.getElem?_push, if_pos (by simp)]
  · rw [Array.getElem?_push, if_pos (by simp)]
  · exact ((((((Below.refl _ _).alloc (Nat.le_refl _) _).alloc (by simp) _).alloc (by simp; omega) _).alloc (by simp; omega) _).alloc (by simp; omega) _).alloc (by simp; omega) _

set_option maxRecDepth 100000 in
set_option maxHeartbeats 8000000 in
theorem countCopies_in (n : Nat) (hn : 3 ≤ n) (B : Bk) (s : Svc) (a1 a2 a3 : Option Addr) (c1 c2 c3 : Nat) (w : World) (hl2 : B.cps.length ≤ 1048576) (HSO : Hid (RiseC B.cps)) (HK : Hid (B.cps.length ≤ c2)) (hC : SlC w a2 B.cps) :
    CallsIn Fence.wide n Tryz.prog 107 #[.agg #[.int .i64 B.now, .slice a1 B.svcs.length c1, .slice a2 B.cps.length c2, .slice a3 B.bts.length c3], .agg #[.string s.name, .int .i64 s.version, .bool s.gone, .int .i64 s.image, .int .i64 s.want, .int .i64 s.down, .int .i64 s.over, .int .i64 s.next, .int .i64 s.per, .int .i64 s.least, .int .i64 s.most, .int .i64 s.load, .int .i64 s.cool]] w fun e w' => e = .returned (.agg (cntCells (cntF s.image (ofS s.name B.cps)))) ∧ Below w.heap.size w w' := by
  have hn1 : 1 ≤ n := by omega
  have hle := ofS_length s.name B.cps
  refine callsIn_of_wp_marks Tryz.func107 rfl trivial ?_ rfl
  simp only [Tryz.ntmps107, List.size_toArray, List.length_cons, List.length_nil, Nat.reduceAdd, Nat.reduceSub, Array.replicate_succ, Array.replicate_zero, List.push_toArray, List.append_toArray, List.nil_append, List.cons_append]
  gi_wp2
  refine ⟨trivial, ?_⟩
  refine (copiesIn_in Fence.wide (n - 1) trivial rfl B s.name a1 a2 a3 c1 c2 c3 _).mono ?_
  rintro e w' ⟨rfl, rfl⟩
  gi_wp2
  obtain ⟨W0, hW0, b1, b2, b3, b4, b5, hsz0, hB0⟩ := six_new w (.cells #[.int .i64 B.now, .slice a1 B.svcs.length c1, .slice a2 B.cps.length c2, .slice a3 B.bts.length c3] 34) (.cells #[.string s.name, .int .i64 s.version, .bool s.gone, .int .i64 s.image, .int .i64 s.want, .int .i64 s.down, .int .i64 s.over, .int .i64 s.next, .int .i64 s.per, .int .i64 s.least, .int .i64 s.most, .int .i64 s.load, .int .i64 s.cool] 48) (.cells #[.int .i64 0, .int .i64 0, .int .i64 0, .int .i64 0, .int .i64 0] 95) (.cells #[.int .i64 0, .int .i64 0, .int .i64 0, .int .i64 0, .int .i64 0] 95) (.cells #[.int .i64 B.now, .slice a1 B.svcs.length c1, .slice a2 B.cps.length c2, .slice a3 B.bts.length c3] 34) (.cells #[.string s.name] 9)
  rw [hW0]
  clear hW0
  have hC0 : B.cps ≠ [] → ∃ b off, a2 = some ⟨b, off, none⟩ ∧ b < w.heap.size ∧ CpsAt W0 b off B.cps := fun hne =>
    let ⟨b, off, e, hb, hat⟩ := hC hne
    ⟨b, off, e, hb, fun i c hc => (hat i c hc).below hB0 hb⟩
  refine wpIn_rangeFunc_ownH rfl hn1 (gf := 135) (lb := #[.pointer (some ⟨w.heap.size + 1 + 1 + 1 + 1, 0, none⟩), .pointer (some ⟨w.heap.size + 1 + 1 + 1 + 1 + 1, 0, none⟩)]) rfl trivial (enters_of Tryz.func135 (by kernel_rfl) rfl)
    (copies_stops (n - 1) (by omega) (w.heap.size + 1 + 1 + 1 + 1) (w.heap.size + 1 + 1 + 1 + 1 + 1) w.heap.size B s.name a1 a2 a3 c1 c2 c3 hl2 HSO HK W0 b4 b5 hC0 (by omega)) (fun h k => ⟨h.1.trans k.1, k.2.trans h.2⟩)
    (fun W l o o' hl ho hc hw => ⟨belowK_b (w := W0) (by omega) W l o o' hl ho hc hw, by
      by_cases hlt : w.heap.size + 1 + 1 + 1 + 1 + 1 < W.heap.size
      · exact (grownBy_putObj' W l o').block _ hlt (fun e => by have := Option.some.inj e; omega)
      · have e1 : W.heap[w.heap.size + 1 + 1 + 1 + 1 + 1]? = none := by rw [Array.getElem?_eq_none (by omega)]
        have e2 : (W.putObj l o').heap[w.heap.size + 1 + 1 + 1 + 1 + 1]? = none := by rw [Array.getElem?_eq_none]; have := (Array.getElem?_eq_some_iff.1 ho).1; omega
        rw [e1, e2]⟩) (Below.refl _ _) (fun _ => rfl)
    (fun pre W => (W.heap[w.heap.size + 1 + 1 + 1]? = some (.cells (cntCells (cntF s.image pre)) 95 (0, 0)) ∧ W.heap[w.heap.size + 1 + 1]? = some (.cells #[.int .i64 0, .int .i64 0, .int .i64 0, .int .i64 0, .int .i64 0] 95 (0, 0)) ∧ W.heap[w.heap.size + 1]? = some (.cells #[.string s.name, .int .i64 s.version, .bool s.gone, .int .i64 s.image, .int .i64 s.want, .int .i64 s.down, .int .i64 s.over, .int .i64 s.next, .int .i64 s.per, .int .i64 s.least, .int .i64 s.most, .int .i64 s.load, .int .i64 s.cool] 48 (0, 0))) ∧ W0.heap.size ≤ W.heap.size ∧ Below w.heap.size w W)
    (fun _ _ _ => False)
    (OwnFrom.and (OwnFrom.and (Own.from (cells_own _ _ _) _) (OwnFrom.and (Own.from (cells_own _ _ _) _) (Own.from (cells_own _ _ _) _))) (OwnFrom.and (fun _ _ _ _ hs hg _ => Nat.le_trans hs hg.size) (ownFrom_below (Nat.le_refl _) (by omega))))
    (fun _ _ _ _ _ hs _ _ => hs)
    ⟨⟨b3, b2, b1⟩, Nat.le_refl _, hB0⟩
    (fun x a' W => ∃ Bx, w.heap.size + 1 + 1 + 1 + 1 + 1 < Bx ∧ W.heap[Bx]? = some (.cells #[.string x.service, .int .i64 x.number, .int .i64 x.version, .int .i64 x.image, .int .i64 x.state, .bool x.ending, .string x.berth] 88 (0, 0)) ∧ a' = { tmps := #[.agg #[.int .i64 B.now, .slice a1 B.svcs.length c1, .slice a2 B.cps.length c2, .slice a3 B.bts.length c3], .agg #[.string s.name, .int .i64 s.version, .bool s.gone, .int .i64 s.image, .int .i64 s.want, .int .i64 s.down, .int .i64 s.over, .int .i64 s.next, .int .i64 s.per, .int .i64 s.least, .int .i64 s.most, .int .i64 s.load, .int .i64 s.cool], .pointer (some ⟨w.heap.size, 0, none⟩), .pointer (some ⟨w.heap.size + 1, 0, none⟩), .pointer (some ⟨w.heap.size + 1 + 1, 0, none⟩), .pointer (some ⟨w.heap.size + 1 + 1 + 1, 0, none⟩), .pointer (some ⟨Bx, 0, none⟩), .agg #[.int .i64 B.now, .slice a1 B.svcs.length c1, .slice a2 B.cps.length c2, .slice a3 B.bts.length c3], .pointer (some ⟨w.heap.size + 1, 0, none⟩), .string s.name, .func (.func 135) #[] #[.pointer (some ⟨w.heap.size + 1 + 1 + 1 + 1, 0, none⟩), .pointer (some ⟨w.heap.size + 1 + 1 + 1 + 1 + 1, 0, none⟩)], .agg #[.string x.service, .int .i64 x.number, .int .i64 x.version, .int .i64 x.image, .int .i64 x.state, .bool x.ending, .string x.berth], undef, undef, undef, undef, undef, undef, undef, undef, undef, undef, undef, undef, undef, undef, undef, undef, undef, undef, undef, undef, undef, undef, undef, undef, undef, undef, undef, undef, undef, undef, undef, undef, undef, undef], defers := [] })
    (fun x a' _ X Y row hs hg hr => by obtain ⟨Bx, g1, g2, g3⟩ := hs; exact ⟨Bx, g1, cells_own Bx 88 (fun (_ : Unit) => #[.string x.service, .int .i64 x.number, .int .i64 x.version, .int .i64 x.image, .int .i64 x.state, .bool x.ending, .string x.berth]) () X Y row g2 hg (fun r e => (hr r e).2), g3⟩)
    ?assign ?body ?done ?stop
  case assign =>
    rintro l pre x W K ⟨⟨hM, hR, hSb⟩, hsz, hB⟩ hK
    gi_wp2
    have hw1 := below_box W (.cells #[.string x.service, .int .i64 x.number, .int .i64 x.version, .int .i64 x.image, .int .i64 x.state, .bool x.ending, .string x.berth] 88)
    exact hK _ _ ((KeepsOthers.alloc _ _).from _) ⟨(Below.refl _ W).alloc hB.size _, hw1.block _ (by omega)⟩ ⟨⟨below_blk hw1 hM (by omega), below_blk hw1 hR (by omega), below_blk hw1 hSb (by omega)⟩, Nat.le_trans hsz hw1.size, hB.alloc hB.size _⟩ ⟨W.heap.size, by omega, heap_alloc_new W _, rfl⟩
  case body =>
    rintro l pre x a' W hl _ ⟨⟨hM0, hR0, hSb0⟩, hsz, hB⟩ ⟨Bx, hBx, hX, rfl⟩ hlt
    have hup := cntF_upTo s.image pre
    obtain ⟨n0, HN⟩ : ∃ n, Hid (cntF s.image pre = n) := ⟨_, rfl⟩
    rw [HN.out] at hup hM0
    have hM : Hid (W.heap[w.heap.size + 1 + 1 + 1]? = some (.cells #[.int .i64 n0.live, .int .i64 n0.ready, .int .i64 n0.old, .int .i64 n0.failed, .int .i64 n0.ending] 95 (0, 0))) := hM0
    have hR : Hid _ := hR0
    have hSb : Hid _ := hSb0
    clear hM0 hR0 hSb0
    unfold Cnt.upTo at hup
    obtain ⟨u0, u1, u2, u3, u4, u5, u6, u7, u8, u9⟩ := hup
    have o0 := blk_cell hM.out 0 rfl
    have o1 := blk_cell hM.out 1 rfl
    have o2 := blk_cell hM.out 2 rfl
    have o3 := blk_cell hM.out 3 rfl
    have o4 := blk_cell hM.out 4 rfl
    have f0 := blk_frozen hM.out 0
    have f1 := blk_frozen hM.out 1
    have f2 := blk_frozen hM.out 2
    have f3 := blk_frozen hM.out 3
    have f4 := blk_frozen hM.out 4
    have x3 := blk_cell hX 3 rfl
    have x4 := blk_cell hX 4 rfl
    have x5 := blk_cell hX 5 rfl
    have q3 := blk_cell hSb.out 3 rfl
    have hneB : Bx ≠ w.heap.size + 1 + 1 + 1 := by omega
    clear hX b1 b2 b3 b4 b5 hC0 hC
    cases hend : x.ending
    · cases hst3 : (x.state == 3)
      · cases hst4 : (x.state == 4)
        · cases himg : (x.image != s.image)
          · have HC : Hid (cntF s.image (pre ++ [x]) = ⟨n0.live + 1, n0.ready, n0.old, n0.failed, n0.ending⟩) := by unfold Hid; rw [cntF_snoc, HN.out]; simp [cntAdd, addB, hend, hst3, hst4, himg]
            have outF : Hid _ := blk_set (hM.out) 0 (.int .i64 (n0.live + 1))
            gi_wp2
            exact ⟨(KeepsOthers.setCell _ _ _).from _, ⟨((Below.refl w.heap.size W).setCell (p := ⟨w.heap.size + 1 + 1 + 1, 0, none⟩) (by show _ ≤ w.heap.size + 1 + 1 + 1; omega) (.int .i64 (n0.live + 1))), blk_ne (b := w.heap.size + 1 + 1 + 1) (rfl) 0 (.int .i64 (n0.live + 1)) (by omega)⟩, ⟨by rw [HC.out]; exact outF.out, blk_ne (b := w.heap.size + 1 + 1 + 1) (hR.out) 0 (.int .i64 (n0.live + 1)) (by omega), blk_ne (b := w.heap.size + 1 + 1 + 1) (hSb.out) 0 (.int .i64 (n0.live + 1)) (by omega)⟩, by simp only [size_setCell]; exact hsz, (hB.setCell (p := ⟨w.heap.size + 1 + 1 + 1, 0, none⟩) (by show _ ≤ w.heap.size + 1 + 1 + 1; omega) (.int .i64 (n0.live + 1)))⟩
          · have HC : Hid (cntF s.image (pre ++ [x]) = ⟨n0.live + 1, n0.ready, n0.old + 1, n0.failed, n0.ending⟩) := by unfold Hid; rw [cntF_snoc, HN.out]; simp [cntAdd, addB, hend, hst3, hst4, himg]
            have outF : Hid _ := blk_set (blk_set (hM.out) 0 (.int .i64 (n0.live + 1))) 2 (.int .i64 (n0.old + 1))
            gi_wp2
            exact ⟨((KeepsOthers.setCell _ _ _).trans (KeepsOthers.setCell _ _ _)).from _, ⟨(((Below.refl w.heap.size W).setCell (p := ⟨w.heap.size + 1 + 1 + 1, 0, none⟩) (by show _ ≤ w.heap.size + 1 + 1 + 1; omega) (.int .i64 (n0.live + 1))).setCell (p := ⟨w.heap.size + 1 + 1 + 1, 2, none⟩) (by show _ ≤ w.heap.size + 1 + 1 + 1; omega) (.int .i64 (n0.old + 1))), blk_ne (b := w.heap.size + 1 + 1 + 1) (blk_ne (b := w.heap.size + 1 + 1 + 1) (rfl) 0 (.int .i64 (n0.live + 1)) (by omega)) 2 (.int .i64 (n0.old + 1)) (by omega)⟩, ⟨by rw [HC.out]; exact outF.out, blk_ne (b := w.heap.size + 1 + 1 + 1) (blk_ne (b := w.heap.size + 1 + 1 + 1) (hR.out) 0 (.int .i64 (n0.live + 1)) (by omega)) 2 (.int .i64 (n0.old + 1)) (by omega), blk_ne (b := w.heap.size + 1 + 1 + 1) (blk_ne (b := w.heap.size + 1 + 1 + 1) (hSb.out) 0 (.int .i64 (n0.live + 1)) (by omega)) 2 (.int .i64 (n0.old + 1)) (by omega)⟩, by simp only [size_setCell]; exact hsz, ((hB.setCell (p := ⟨w.heap.size + 1 + 1 + 1, 0, none⟩) (by show _ ≤ w.heap.size + 1 + 1 + 1; omega) (.int .i64 (n0.live + 1))).setCell (p := ⟨w.heap.size + 1 + 1 + 1, 2, none⟩) (by show _ ≤ w.heap.size + 1 + 1 + 1; omega) (.int .i64 (n0.old + 1)))⟩
        · cases himg : (x.image != s.image)
          · have HC : Hid (cntF s.image (pre ++ [x]) = ⟨n0.live + 1, n0.ready, n0.old, n0.failed + 1, n0.ending⟩) := by unfold Hid; rw [cntF_snoc, HN.out]; simp [cntAdd, addB, hend, hst3, hst4, himg]
            have outF : Hid _ := blk_set (blk_set (hM.out) 0 (.int .i64 (n0.live + 1))) 3 (.int .i64 (n0.failed + 1))
            gi_wp2
            exact ⟨((KeepsOthers.setCell _ _ _).trans (KeepsOthers.setCell _ _ _)).from _, ⟨(((Below.refl w.heap.size W).setCell (p := ⟨w.heap.size + 1 + 1 + 1, 0, none⟩) (by show _ ≤ w.heap.size + 1 + 1 + 1; omega) (.int .i64 (n0.live + 1))).setCell (p := ⟨w.heap.size + 1 + 1 + 1, 3, none⟩) (by show _ ≤ w.heap.size + 1 + 1 + 1; omega) (.int .i64 (n0.failed + 1))), blk_ne (b := w.heap.size + 1 + 1 + 1) (blk_ne (b := w.heap.size + 1 + 1 + 1) (rfl) 0 (.int .i64 (n0.live + 1)) (by omega)) 3 (.int .i64 (n0.failed + 1)) (by omega)⟩, ⟨by rw [HC.out]; exact outF.out, blk_ne (b := w.heap.size + 1 + 1 + 1) (blk_ne (b := w.heap.size + 1 + 1 + 1) (hR.out) 0 (.int .i64 (n0.live + 1)) (by omega)) 3 (.int .i64 (n0.failed + 1)) (by omega), blk_ne (b := w.heap.size + 1 + 1 + 1) (blk_ne (b := w.heap.size + 1 + 1 + 1) (hSb.out) 0 (.int .i64 (n0.live + 1)) (by omega)) 3 (.int .i64 (n0.failed + 1)) (by omega)⟩, by simp only [size_setCell]; exact hsz, ((hB.setCell (p := ⟨w.heap.size + 1 + 1 + 1, 0, none⟩) (by show _ ≤ w.heap.size + 1 + 1 + 1; omega) (.int .i64 (n0.live + 1))).setCell (p := ⟨w.heap.size + 1 + 1 + 1, 3, none⟩) (by show _ ≤ w.heap.size + 1 + 1 + 1; omega) (.int .i64 (n0.failed + 1)))⟩
          · have HC : Hid (cntF s.image (pre ++ [x]) = ⟨n0.live + 1, n0.ready, n0.old + 1, n0.failed + 1, n0.ending⟩) := by unfold Hid; rw [cntF_snoc, HN.out]; simp [cntAdd, addB, hend, hst3, hst4, himg]
            have outF : Hid _ := blk_set (blk_set (blk_set (hM.out) 0 (.int .i64 (n0.live + 1))) 2 (.int .i64 (n0.old + 1))) 3 (.int .i64 (n0.failed + 1))
            gi_wp2
            exact ⟨(((KeepsOthers.setCell _ _ _).trans (KeepsOthers.setCell _ _ _)).trans (KeepsOthers.setCell _ _ _)).from _, ⟨((((Below.refl w.heap.size W).setCell (p := ⟨w.heap.size + 1 + 1 + 1, 0, none⟩) (by show _ ≤ w.heap.size + 1 + 1 + 1; omega) (.int .i64 (n0.live + 1))).setCell (p := ⟨w.heap.size + 1 + 1 + 1, 2, none⟩) (by show _ ≤ w.heap.size + 1 + 1 + 1; omega) (.int .i64 (n0.old + 1))).setCell (p := ⟨w.heap.size + 1 + 1 + 1, 3, none⟩) (by show _ ≤ w.heap.size + 1 + 1 + 1; omega) (.int .i64 (n0.failed + 1))), blk_ne (b := w.heap.size + 1 + 1 + 1) (blk_ne (b := w.heap.size + 1 + 1 + 1) (blk_ne (b := w.heap.size + 1 + 1 + 1) (rfl) 0 (.int .i64 (n0.live + 1)) (by omega)) 2 (.int .i64 (n0.old + 1)) (by omega)) 3 (.int .i64 (n0.failed + 1)) (by omega)⟩, ⟨by rw [HC.out]; exact outF.out, blk_ne (b := w.heap.size + 1 + 1 + 1) (blk_ne (b := w.heap.size + 1 + 1 + 1) (blk_ne (b := w.heap.size + 1 + 1 + 1) (hR.out) 0 (.int .i64 (n0.live + 1)) (by omega)) 2 (.int .i64 (n0.old + 1)) (by omega)) 3 (.int .i64 (n0.failed + 1)) (by omega), blk_ne (b := w.heap.size + 1 + 1 + 1) (blk_ne (b := w.heap.size + 1 + 1 + 1) (blk_ne (b := w.heap.size + 1 + 1 + 1) (hSb.out) 0 (.int .i64 (n0.live + 1)) (by omega)) 2 (.int .i64 (n0.old + 1)) (by omega)) 3 (.int .i64 (n0.failed + 1)) (by omega)⟩, by simp only [size_setCell]; exact hsz, (((hB.setCell (p := ⟨w.heap.size + 1 + 1 + 1, 0, none⟩) (by show _ ≤ w.heap.size + 1 + 1 + 1; omega) (.int .i64 (n0.live + 1))).setCell (p := ⟨w.heap.size + 1 + 1 + 1, 2, none⟩) (by show _ ≤ w.heap.size + 1 + 1 + 1; omega) (.int .i64 (n0.old + 1))).setCell (p := ⟨w.heap.size + 1 + 1 + 1, 3, none⟩) (by show _ ≤ w.heap.size + 1 + 1 + 1; omega) (.int .i64 (n0.failed + 1)))⟩
      · have hst4 : (x.state == 4) = false := by have h := eq_of_beq hst3; rw [h]; rfl
        cases himg : (x.image != s.image)
        · have HC : Hid (cntF s.image (pre ++ [x]) = ⟨n0.live + 1, n0.ready + 1, n0.old, n0.failed, n0.ending⟩) := by unfold Hid; rw [cntF_snoc, HN.out]; simp [cntAdd, addB, hend, hst3, hst4, himg]
          have outF : Hid _ := blk_set (blk_set (hM.out) 0 (.int .i64 (n0.live + 1))) 1 (.int .i64 (n0.ready + 1))
          gi_wp2
          exact ⟨((KeepsOthers.setCell _ _ _).trans (KeepsOthers.setCell _ _ _)).from _, ⟨(((Below.refl w.heap.size W).setCell (p := ⟨w.heap.size + 1 + 1 + 1, 0, none⟩) (by show _ ≤ w.heap.size + 1 + 1 + 1; omega) (.int .i64 (n0.live + 1))).setCell (p := ⟨w.heap.size + 1 + 1 + 1, 1, none⟩) (by show _ ≤ w.heap.size + 1 + 1 + 1; omega) (.int .i64 (n0.ready + 1))), blk_ne (b := w.heap.size + 1 + 1 + 1) (blk_ne (b := w.heap.size + 1 + 1 + 1) (rfl) 0 (.int .i64 (n0.live + 1)) (by omega)) 1 (.int .i64 (n0.ready + 1)) (by omega)⟩, ⟨by rw [HC.out]; exact outF.out, blk_ne (b := w.heap.size + 1 + 1 + 1) (blk_ne (b := w.heap.size + 1 + 1 + 1) (hR.out) 0 (.int .i64 (n0.live + 1)) (by omega)) 1 (.int .i64 (n0.ready + 1)) (by omega), blk_ne (b := w.heap.size + 1 + 1 + 1) (blk_ne (b := w.heap.size + 1 + 1 + 1) (hSb.out) 0 (.int .i64 (n0.live + 1)) (by omega)) 1 (.int .i64 (n0.ready + 1)) (by omega)⟩, by simp only [size_setCell]; exact hsz, ((hB.setCell (p := ⟨w.heap.size + 1 + 1 + 1, 0, none⟩) (by show _ ≤ w.heap.size + 1 + 1 + 1; omega) (.int .i64 (n0.live + 1))).setCell (p := ⟨w.heap.size + 1 + 1 + 1, 1, none⟩) (by show _ ≤ w.heap.size + 1 + 1 + 1; omega) (.int .i64 (n0.ready + 1)))⟩
        · have HC : Hid (cntF s.image (pre ++ [x]) = ⟨n0.live + 1, n0.ready + 1, n0.old + 1, n0.failed, n0.ending⟩) := by unfold Hid; rw [cntF_snoc, HN.out]; simp [cntAdd, addB, hend, hst3, hst4, himg]
          have outF : Hid _ := blk_set (blk_set (blk_set (hM.out) 0 (.int .i64 (n0.live + 1))) 1 (.int .i64 (n0.ready + 1))) 2 (.int .i64 (n0.old + 1))
          gi_wp2
          exact ⟨(((KeepsOthers.setCell _ _ _).trans (KeepsOthers.setCell _ _ _)).trans (KeepsOthers.setCell _ _ _)).from _, ⟨((((Below.refl w.heap.size W).setCell (p := ⟨w.heap.size + 1 + 1 + 1, 0, none⟩) (by show _ ≤ w.heap.size + 1 + 1 + 1; omega) (.int .i64 (n0.live + 1))).setCell (p := ⟨w.heap.size + 1 + 1 + 1, 1, none⟩) (by show _ ≤ w.heap.size + 1 + 1 + 1; omega) (.int .i64 (n0.ready + 1))).setCell (p := ⟨w.heap.size + 1 + 1 + 1, 2, none⟩) (by show _ ≤ w.heap.size + 1 + 1 + 1; omega) (.int .i64 (n0.old + 1))), blk_ne (b := w.heap.size + 1 + 1 + 1) (blk_ne (b := w.heap.size + 1 + 1 + 1) (blk_ne (b := w.heap.size + 1 + 1 + 1) (rfl) 0 (.int .i64 (n0.live + 1)) (by omega)) 1 (.int .i64 (n0.ready + 1)) (by omega)) 2 (.int .i64 (n0.old + 1)) (by omega)⟩, ⟨by rw [HC.out]; exact outF.out, blk_ne (b := w.heap.size + 1 + 1 + 1) (blk_ne (b := w.heap.size + 1 + 1 + 1) (blk_ne (b := w.heap.size + 1 + 1 + 1) (hR.out) 0 (.int .i64 (n0.live + 1)) (by omega)) 1 (.int .i64 (n0.ready + 1)) (by omega)) 2 (.int .i64 (n0.old + 1)) (by omega), blk_ne (b := w.heap.size + 1 + 1 + 1) (blk_ne (b := w.heap.size + 1 + 1 + 1) (blk_ne (b := w.heap.size + 1 + 1 + 1) (hSb.out) 0 (.int .i64 (n0.live + 1)) (by omega)) 1 (.int .i64 (n0.ready + 1)) (by omega)) 2 (.int .i64 (n0.old + 1)) (by omega)⟩, by simp only [size_setCell]; exact hsz, (((hB.setCell (p := ⟨w.heap.size + 1 + 1 + 1, 0, none⟩) (by show _ ≤ w.heap.size + 1 + 1 + 1; omega) (.int .i64 (n0.live + 1))).setCell (p := ⟨w.heap.size + 1 + 1 + 1, 1, none⟩) (by show _ ≤ w.heap.size + 1 + 1 + 1; omega) (.int .i64 (n0.ready + 1))).setCell (p := ⟨w.heap.size + 1 + 1 + 1, 2, none⟩) (by show _ ≤ w.heap.size + 1 + 1 + 1; omega) (.int .i64 (n0.old + 1)))⟩
    · have HC : Hid (cntF s.image (pre ++ [x]) = ⟨n0.live, n0.ready, n0.old, n0.failed, n0.ending + 1⟩) := by unfold Hid; rw [cntF_snoc, HN.out]; simp [cntAdd, hend]
      have outF : Hid _ := blk_set (hM.out) 4 (.int .i64 (n0.ending + 1))
      gi_wp2
      exact ⟨(KeepsOthers.setCell _ _ _).from _, ⟨((Below.refl w.heap.size W).setCell (p := ⟨w.heap.size + 1 + 1 + 1, 4, none⟩) (by show _ ≤ w.heap.size + 1 + 1 + 1; omega) (.int .i64 (n0.ending + 1))), blk_ne (b := w.heap.size + 1 + 1 + 1) (rfl) 4 (.int .i64 (n0.ending + 1)) (by omega)⟩, ⟨by rw [HC.out]; exact outF.out, blk_ne (b := w.heap.size + 1 + 1 + 1) (hR.out) 4 (.int .i64 (n0.ending + 1)) (by omega), blk_ne (b := w.heap.size + 1 + 1 + 1) (hSb.out) 4 (.int .i64 (n0.ending + 1)) (by omega)⟩, by simp only [size_setCell]; exact hsz, (hB.setCell (p := ⟨w.heap.size + 1 + 1 + 1, 4, none⟩) (by show _ ≤ w.heap.size + 1 + 1 + 1; omega) (.int .i64 (n0.ending + 1)))⟩
  case done =>
    rintro D ys W hD rfl ⟨⟨hM0, hR, hSb⟩, hsz, hB⟩ hK
    obtain ⟨n0, HN⟩ : ∃ n, Hid (cntF s.image (ofS s.name B.cps) = n) := ⟨_, rfl⟩
    rw [HN.out] at hM0
    have hM : W.heap[w.heap.size + 1 + 1 + 1]? = some (.cells #[.int .i64 n0.live, .int .i64 n0.ready, .int .i64 n0.old, .int .i64 n0.failed, .int .i64 n0.ending] 95 (0, 0)) := hM0
    have hRlt : w.heap.size + 1 + 1 < W.heap.size := by omega
    have hRD : w.heap.size + 1 + 1 ≠ D := by omega
    have HK : Hid _ := hK
    have HR : Hid _ := hR
    have o0 := blk_cell hM 0 rfl
    have o1 := blk_cell hM 1 rfl
    have o2 := blk_cell hM 2 rfl
    have o3 := blk_cell hM 3 rfl
    have o4 := blk_cell hM 4 rfl
    have p0 := blk_cell hR 0 rfl
    have p1 := blk_cell hR 1 rfl
    have p2 := blk_cell hR 2 rfl
    have p3 := blk_cell hR 3 rfl
    have p4 := blk_cell hR 4 rfl
    have g0 := blk_frozen hR 0
    have g1 := blk_frozen hR 1
    have g2 := blk_frozen hR 2
    have g3 := blk_frozen hR 3
    have g4 := blk_frozen hR 4
    clear hM0 hM hSb hK hR b1 b2 b3 b4 b5 hC0 hC
    gi_wp2
    have hK' := (((((KeepsOthers.setCell W ⟨w.heap.size + 1 + 1, 0, none⟩ (.int .i64 n0.live)).trans (KeepsOthers.setCell _ ⟨w.heap.size + 1 + 1, 1, none⟩ (.int .i64 n0.ready))).trans (KeepsOthers.setCell _ ⟨w.heap.size + 1 + 1, 2, none⟩ (.int .i64 n0.old))).trans (KeepsOthers.setCell _ ⟨w.heap.size + 1 + 1, 3, none⟩ (.int .i64 n0.failed))).trans (KeepsOthers.setCell _ ⟨w.heap.size + 1 + 1, 4, none⟩ (.int .i64 n0.ending))).same D _ HK.out rfl
    refine ⟨by simp, .inl ⟨_, _, rfl, run_takeDeferred hK', ?_⟩⟩
    have hX := ((grownBy_putObj' _ D (.deferred none)).block (w.heap.size + 1 + 1) (by simp only [size_setCell]; exact hRlt) (fun e => hRD (Option.some.inj e))).trans (blk_set (blk_set (blk_set (blk_set (blk_set (HR.out) 0 (.int .i64 n0.live)) 1 (.int .i64 n0.ready)) 2 (.int .i64 n0.old)) 3 (.int .i64 n0.failed)) 4 (.int .i64 n0.ending))
    have y0 := blk_cell hX 0 rfl
    have y1 := blk_cell hX 1 rfl
    have y2 := blk_cell hX 2 rfl
    have y3 := blk_cell hX 3 rfl
    have y4 := blk_cell hX 4 rfl
    refine ⟨.agg #[.int .i64 n0.live, .int .i64 n0.ready, .int .i64 n0.old, .int .i64 n0.failed, .int .i64 n0.ending], ?_, by rw [HN.out]; rfl, (((((hB.setCell (p := ⟨w.heap.size + 1 + 1, 0, none⟩) (by show _ ≤ w.heap.size + 1 + 1; omega) (.int .i64 n0.live)).setCell (p := ⟨w.heap.size + 1 + 1, 1, none⟩) (by show _ ≤ w.heap.size + 1 + 1; omega) (.int .i64 n0.ready)).setCell (p := ⟨w.heap.size + 1 + 1, 2, none⟩) (by show _ ≤ w.heap.size + 1 + 1; omega) (.int .i64 n0.old)).setCell (p := ⟨w.heap.size + 1 + 1, 3, none⟩) (by show _ ≤ w.heap.size + 1 + 1; omega) (.int .i64 n0.failed)).setCell (p := ⟨w.heap.size + 1 + 1, 4, none⟩) (by show _ ≤ w.heap.size + 1 + 1; omega) (.int .i64 n0.ending)).trans (belowK_b (w := w) (Nat.le_refl _) _ D _ _ (by omega) hK' rfl rfl)⟩
    simp [results, Tryz.f107, go_sem, y0, y1, y2, y3, y4]
  case stop =>
    rintro D c pre W _ _ h _
    exact h.elim

end Go.Proofs.YtbceafpodamnfabGreat

/-
  My own. The program's counting.
-/
namespace Go.Proofs.YtbceafpodamnfabGreat
open Go.RowKit Go.Sort Go.Maps

theorem countCopies_any (B : Bk) (s : Svc) (a1 a2 a3 : Option Addr) (c1 c2 c3 : Nat) (w : World) (hl2 : B.cps.length ≤ 1048576) (HSO : Hid (RiseC B.cps)) (HK : Hid (B.cps.length ≤ c2)) (hC : SlC w a2 B.cps) (N : Cnt) (hN : Hid (N = cntTo s.image s.name B.cps B.cps.length)) :
    Calls Tryz.prog 107 #[.agg #[.int .i64 B.now, .slice a1 B.svcs.length c1, .slice a2 B.cps.length c2, .slice a3 B.bts.length c3], .agg #[.string s.name, .int .i64 s.version, .bool s.gone, .int .i64 s.image, .int .i64 s.want, .int .i64 s.down, .int .i64 s.over, .int .i64 s.next, .int .i64 s.per, .int .i64 s.least, .int .i64 s.most, .int .i64 s.load, .int .i64 s.cool]] w fun e w' => e = .returned (.agg #[.int .i64 N.live, .int .i64 N.ready, .int .i64 N.old, .int .i64 N.failed, .int .i64 N.ending]) ∧ Below w.heap.size w w' := by
  refine ((callsIn_wide (n := 3)).1 (countCopies_in 3 (by omega) B s a1 a2 a3 c1 c2 c3 w hl2 HSO HK hC)).mono fun e w' ⟨he, hb⟩ => ⟨?_, hb⟩
  rw [he]
  have e1 : cntF s.image (ofS s.name B.cps) = N := by
    rw [hN.out]
    unfold cntF cntTo
    rw [cntF_ofS, List.take_length]
  rw [e1]
  rfl

end Go.Proofs.YtbceafpodamnfabGreat
