/-
  My own: Tb, Ma, Mb.
-/
import Derived.Test.YtbceafpodamnfabGreatDoorG10
import Derived.Test.YtbceafpodamnfabGreatDoorG01
import Derived.Test.YtbceafpodamnfabGreatDoorG09
import Derived.Laws.BytesString
import Derived.Laws.Concat
set_option linter.unusedVariables false
set_option linter.unusedSimpArgs false
namespace Go.Proofs.YtbceafpodamnfabGreatDoor
open Go.RowKit Go.Sort
set_option maxHeartbeats 1000000 in
theorem eqEnd_same (s : En) (w : World) :
  Calls Tryz.prog 112 #[.agg #[.int .i64 s.number, .int .i64 s.seen], .agg #[.int .i64 s.number, .int .i64 s.seen]] w fun e w' => e = .returned (.bool true) ∧ Below w.heap.size w w' := by
 go_enter Tryz.func112, Tryz.ntmps112
 go_wp2
 go_ret
 exact ⟨rfl, ((Below.refl _ _).alloc (Nat.le_refl _) _).alloc (by simp) _⟩
set_option maxHeartbeats 1000000 in
theorem eqEndS_same (l : List En) (ao ap : Option Addr) (cap cap' : Nat) (w : World) (hl : l.length ≤ 1048576) (h1 : SlE w ao l) (h2 : SlE w ap l) :
  Calls Tryz.prog 51 #[.slice ao l.length cap, .slice ap l.length cap'] w fun e w' => e = .returned (.bool true) ∧ Below w.heap.size w w' := by
 go_enter Tryz.func51, Tryz.ntmps51
 go_wp2
 go_loopw [5] (fun iv wr => ∃ (k : Nat), k ≤ l.length ∧ iv = .int .i64 k ∧ Below w.heap.size w wr) (fun i _ => l.length - (intOf i).toNat)
 case atStart => exact ⟨0, by omega, rfl, Below.refl _ _⟩
 case round =>
  obtain ⟨k, hk, rfl, hb⟩ := hrel
  by_cases hlt : k < l.length
  ·have hne : l ≠ [] := by intro h; rw [h] at hlt; simp at hlt
   obtain ⟨b, off, rfl, hbs, hat⟩ := h1 hne
   obtain ⟨b', off', rfl, hbs', hat'⟩ := h2 hne
   obtain ⟨s, hsk⟩ : ∃ s, l[k]? = some s := ⟨l[k], by simp [hlt]⟩
   obtain ⟨c0, c1⟩ := ((hat k s hsk).below hb hbs).grown
   obtain ⟨d0, d1⟩ := ((hat' k s hsk).below hb hbs').grown
   clear hsk hat hat' h1 h2 hne
   go_wp2
   refine wp_region_quiet_below (by kernel_rfl) (by kernel_rfl) ?_
   repeat (first | go_big_quiet_step (exact Calls.regrown_of (eqEnd_same s _)) | quiet_step (exact Calls.regrown_of (eqEnd_same s _)))
   refine wpQuiet_nil ?_
   intro w1 hw'
   obtain ⟨⟨dq, osq⟩, hw''⟩ := hw'
   have hb1 : Below wr.heap.size wr w1 := by rw [hw'']; exact below_regrown _ _ _
   clear hw'' c0 d0 c1 d1
   have hb2 := hb.trans (hb1.mono hb.size)
   go_wp2
   go_roundw
   case rel => exact ⟨k + 1, by omega, by go_num, hb2⟩
   case measure => simp [intOf]; omega
  ·go_wp2
   go_ret
   exact ⟨rfl, hb⟩
end Go.Proofs.YtbceafpodamnfabGreatDoor

namespace Go.Proofs.YtbceafpodamnfabGreatDoor
open Go.RowKit Go.Sort
def OwnS (w : World) (b : Nat) (l : List Svc) : Prop := ∃ cur : Array Value, w.heap[b]? = some (.cells cur 67 (0, 0)) ∧ Filled Svc.cells 13 l l.length cur.toList
theorem OwnS.blk {w w' : World} {b : Nat} {l : List Svc} (h : OwnS w b l) (hb : w'.heap[b]? = w.heap[b]?) : OwnS w' b l := let ⟨cur, h1, h2⟩ := h; ⟨cur, hb.trans h1, h2⟩
theorem OwnS.lt {w : World} {b : Nat} {l : List Svc} (h : OwnS w b l) : b < w.heap.size := let ⟨_, h1, _⟩ := h; (Array.getElem?_eq_some_iff.1 h1).1
theorem OwnS.sl {w : World} {b : Nat} {l : List Svc} (h : OwnS w b l) : SlS w (some ⟨b, 0, none⟩) l := fun _ => let ⟨_, h1, h2⟩ := h; ⟨b, 0, rfl, (Array.getElem?_eq_some_iff.1 h1).1, svcsAt_of_filled h1 h2⟩
def OwnC (w : World) (b : Nat) (l : List Cp) : Prop := ∃ cur : Array Value, w.heap[b]? = some (.cells cur 149 (0, 0)) ∧ Filled Cp.cells 7 l l.length cur.toList
theorem OwnC.blk {w w' : World} {b : Nat} {l : List Cp} (h : OwnC w b l) (hb : w'.heap[b]? = w.heap[b]?) : OwnC w' b l := let ⟨cur, h1, h2⟩ := h; ⟨cur, hb.trans h1, h2⟩
theorem OwnC.lt {w : World} {b : Nat} {l : List Cp} (h : OwnC w b l) : b < w.heap.size := let ⟨_, h1, _⟩ := h; (Array.getElem?_eq_some_iff.1 h1).1
theorem OwnC.sl {w : World} {b : Nat} {l : List Cp} (h : OwnC w b l) : SlC w (some ⟨b, 0, none⟩) l := fun _ => let ⟨_, h1, h2⟩ := h; ⟨b, 0, rfl, (Array.getElem?_eq_some_iff.1 h1).1, cpsAt_of_filled h1 h2⟩
def OwnB (w : World) (b : Nat) (l : List Bt) : Prop := ∃ cur : Array Value, w.heap[b]? = some (.cells cur 147 (0, 0)) ∧ Filled Bt.cells 2 l l.length cur.toList
theorem OwnB.blk {w w' : World} {b : Nat} {l : List Bt} (h : OwnB w b l) (hb : w'.heap[b]? = w.heap[b]?) : OwnB w' b l := let ⟨cur, h1, h2⟩ := h; ⟨cur, hb.trans h1, h2⟩
theorem OwnB.lt {w : World} {b : Nat} {l : List Bt} (h : OwnB w b l) : b < w.heap.size := let ⟨_, h1, _⟩ := h; (Array.getElem?_eq_some_iff.1 h1).1
theorem OwnB.sl {w : World} {b : Nat} {l : List Bt} (h : OwnB w b l) : SlB w (some ⟨b, 0, none⟩) l := fun _ => let ⟨_, h1, h2⟩ := h; ⟨b, 0, rfl, (Array.getElem?_eq_some_iff.1 h1).1, btsAt_of_filled h1 h2⟩
def OwnE (w : World) (b : Nat) (l : List En) : Prop := ∃ cur : Array Value, w.heap[b]? = some (.cells cur 155 (0, 0)) ∧ Filled En.cells 2 l l.length cur.toList
theorem OwnE.blk {w w' : World} {b : Nat} {l : List En} (h : OwnE w b l) (hb : w'.heap[b]? = w.heap[b]?) : OwnE w' b l := let ⟨cur, h1, h2⟩ := h; ⟨cur, hb.trans h1, h2⟩
theorem OwnE.lt {w : World} {b : Nat} {l : List En} (h : OwnE w b l) : b < w.heap.size := let ⟨_, h1, _⟩ := h; (Array.getElem?_eq_some_iff.1 h1).1
theorem OwnE.sl {w : World} {b : Nat} {l : List En} (h : OwnE w b l) : SlE w (some ⟨b, 0, none⟩) l := fun _ => let ⟨_, h1, h2⟩ := h; ⟨b, 0, rfl, (Array.getElem?_eq_some_iff.1 h1).1, ensAt_of_filled h1 h2⟩
set_option maxHeartbeats 1000000 in
theorem toServiceS_own (l : List Svc) (ao : Option Addr) (cap : Nat) (w : World) (hl : l.length ≤ 1048576)
  (hc : l ≠ [] → ∃ b off, ao = some ⟨b, off, none⟩ ∧ b < w.heap.size ∧ SvcsAt w b off l) :
  Calls Tryz.prog 42 #[.slice ao l.length cap] w fun e w' => e = .returned (.slice (some ⟨w.heap.size, 0, none⟩) l.length l.length) ∧ w.heap.size < w'.heap.size ∧ OwnS w' w.heap.size l ∧ Below w.heap.size w w' := by
 go_enter Tryz.func42, Tryz.ntmps42
 go_wp2_with (at_make; refine wpList_make_at rfl (.tmp 6) (.tmp 6) 32 rfl 67 _ 13 112 Tryz.underlying32 Tryz.infoService l.length rfl rfl (by omega) (by unfold maxLen; omega) ?_; intro w0 hrow0 hsz0 hb0)
 go_loopw [4] (fun iv wr => ∃ (k : Nat), k ≤ l.length ∧ iv = .int .i64 k ∧ w.heap.size < wr.heap.size ∧ Below w.heap.size w wr ∧ ∃ cur : Array Value, Hid (wr.heap[w.heap.size]? = some (.cells cur 67 (0, 0))) ∧ Hid (Filled Svc.cells 13 l k cur.toList)) (fun i _ => l.length - (intOf i).toNat)
 case atStart => exact ⟨0, by omega, rfl, by rw [hsz0.out]; omega, hb0, _, hrow0, ⟨by rw [Array.length_toList, size_madeCells], fun i s hi => absurd hi (by omega)⟩⟩
 case round =>
  obtain ⟨k, hk, rfl, hsz, hb, cur, hrow, hfill⟩ := hrel
  by_cases hlt : k < l.length
  ·obtain ⟨b, off, rfl, hbs, hat⟩ := hc (by intro h; rw [h] at hlt; simp at hlt)
   obtain ⟨s, hsk⟩ : ∃ s, l[k]? = some s := ⟨l[k], by simp [hlt]⟩
   have hcs := (hat k s hsk).below hb hbs
   have hsk' : Hid (l[k]? = some s) := hsk
   unfold SvcAt at hcs
   obtain ⟨c0, c1, c2, c3, c4, c5, c6, c7, c8, c9, c10, c11, c12⟩ := hcs
   clear hsk hat hc
   go_wp2_with fail
   refine (toService_any s _).mono ?_
   rintro e w1 ⟨rfl, hb1⟩
   clear c0 c1 c2 c3 c4 c5 c6 c7 c8 c9 c10 c11 c12
   have hb2 := hb.trans (hb1.mono hb.size)
   have hrow1 : Hid (w1.heap[w.heap.size]? = some (.cells cur 67 (0, 0))) := (hb1.block _ hsz).trans hrow.out
   have hlen := hfill.out.1
   have hfit : k * 13 + 13 ≤ cur.size := by rw [Array.length_toList] at hlen; omega
   go_wp2_with (refine wpList_store_at rfl 67 (.tmp 21) (.tmp 20) rfl w.heap.size (k * 13) #[.string s.name, .int .i64 s.version, .bool s.gone, .int .i64 s.image, .int .i64 s.want, .int .i64 s.down, .int .i64 s.over, .int .i64 s.next, .int .i64 s.per, .int .i64 s.least, .int .i64 s.most, .int .i64 s.load, .int .i64 s.cool] rfl rfl 67 cur hrow1.out Tryz.infosService hfit (one_Svc s) ?_; intro w2 hrow2 hsz2 hb3)
   have hsz3 : w.heap.size < w2.heap.size := by rw [hsz2.out]; exact Nat.lt_of_lt_of_le hsz hb1.size
   have hb4 : Below w.heap.size w w2 := hb2.trans hb3
   go_roundw
   case rel => exact ⟨k + 1, by omega, by go_num, hsz3, hb4, _, hrow2, hfill.out.step hsk'.out rfl⟩
   case measure => simp [intOf]; omega
  ·go_wp2
   go_ret
   have hkl : k = l.length := by omega
   rw [hkl] at hfill
   exact ⟨rfl, hsz, ⟨_, hrow.out, hfill.out⟩, hb⟩
set_option maxHeartbeats 1000000 in
theorem toCopyS_own (l : List Cp) (ao : Option Addr) (cap : Nat) (w : World) (hl : l.length ≤ 1048576)
  (hc : l ≠ [] → ∃ b off, ao = some ⟨b, off, none⟩ ∧ b < w.heap.size ∧ CpsAt w b off l) :
  Calls Tryz.prog 43 #[.slice ao l.length cap] w fun e w' => e = .returned (.slice (some ⟨w.heap.size, 0, none⟩) l.length l.length) ∧ w.heap.size < w'.heap.size ∧ OwnC w' w.heap.size l ∧ Below w.heap.size w w' := by
 go_enter Tryz.func43, Tryz.ntmps43
 go_wp2_with (at_make; refine wpList_make_at rfl (.tmp 6) (.tmp 6) 33 rfl 149 _ 7 72 Tryz.underlying33 Tryz.infoCopy l.length rfl rfl (by omega) (by unfold maxLen; omega) ?_; intro w0 hrow0 hsz0 hb0)
 go_loopw [4] (fun iv wr => ∃ (k : Nat), k ≤ l.length ∧ iv = .int .i64 k ∧ w.heap.size < wr.heap.size ∧ Below w.heap.size w wr ∧ ∃ cur : Array Value, Hid (wr.heap[w.heap.size]? = some (.cells cur 149 (0, 0))) ∧ Hid (Filled Cp.cells 7 l k cur.toList)) (fun i _ => l.length - (intOf i).toNat)
 case atStart => exact ⟨0, by omega, rfl, by rw [hsz0.out]; omega, hb0, _, hrow0, ⟨by rw [Array.length_toList, size_madeCells], fun i s hi => absurd hi (by omega)⟩⟩
 case round =>
  obtain ⟨k, hk, rfl, hsz, hb, cur, hrow, hfill⟩ := hrel
  by_cases hlt : k < l.length
  ·obtain ⟨b, off, rfl, hbs, hat⟩ := hc (by intro h; rw [h] at hlt; simp at hlt)
   obtain ⟨s, hsk⟩ : ∃ s, l[k]? = some s := ⟨l[k], by simp [hlt]⟩
   have hcs := (hat k s hsk).below hb hbs
   have hsk' : Hid (l[k]? = some s) := hsk
   unfold CpAt at hcs
   obtain ⟨c0, c1, c2, c3, c4, c5, c6⟩ := hcs
   clear hsk hat hc
   go_wp2_with fail
   refine (toCopy_any s _).mono ?_
   rintro e w1 ⟨rfl, hb1⟩
   clear c0 c1 c2 c3 c4 c5 c6
   have hb2 := hb.trans (hb1.mono hb.size)
   have hrow1 : Hid (w1.heap[w.heap.size]? = some (.cells cur 149 (0, 0))) := (hb1.block _ hsz).trans hrow.out
   have hlen := hfill.out.1
   have hfit : k * 7 + 7 ≤ cur.size := by rw [Array.length_toList] at hlen; omega
   go_wp2_with (refine wpList_store_at rfl 149 (.tmp 21) (.tmp 20) rfl w.heap.size (k * 7) #[.string s.service, .int .i64 s.number, .int .i64 s.version, .int .i64 s.image, .int .i64 s.state, .bool s.ending, .string s.berth] rfl rfl 149 cur hrow1.out Tryz.infosCopy hfit (one_Cp s) ?_; intro w2 hrow2 hsz2 hb3)
   have hsz3 : w.heap.size < w2.heap.size := by rw [hsz2.out]; exact Nat.lt_of_lt_of_le hsz hb1.size
   have hb4 : Below w.heap.size w w2 := hb2.trans hb3
   go_roundw
   case rel => exact ⟨k + 1, by omega, by go_num, hsz3, hb4, _, hrow2, hfill.out.step hsk'.out rfl⟩
   case measure => simp [intOf]; omega
  ·go_wp2
   go_ret
   have hkl : k = l.length := by omega
   rw [hkl] at hfill
   exact ⟨rfl, hsz, ⟨_, hrow.out, hfill.out⟩, hb⟩
set_option maxHeartbeats 1000000 in
theorem toBerthS_own (l : List Bt) (ao : Option Addr) (cap : Nat) (w : World) (hl : l.length ≤ 1048576)
  (hc : l ≠ [] → ∃ b off, ao = some ⟨b, off, none⟩ ∧ b < w.heap.size ∧ BtsAt w b off l) :
  Calls Tryz.prog 44 #[.slice ao l.length cap] w fun e w' => e = .returned (.slice (some ⟨w.heap.size, 0, none⟩) l.length l.length) ∧ w.heap.size < w'.heap.size ∧ OwnB w' w.heap.size l ∧ Below w.heap.size w w' := by
 go_enter Tryz.func44, Tryz.ntmps44
 go_wp2_with (at_make; refine wpList_make_at rfl (.tmp 6) (.tmp 6) 34 rfl 147 _ 2 24 Tryz.underlying34 Tryz.infoBerth l.length rfl rfl (by omega) (by unfold maxLen; omega) ?_; intro w0 hrow0 hsz0 hb0)
 go_loopw [4] (fun iv wr => ∃ (k : Nat), k ≤ l.length ∧ iv = .int .i64 k ∧ w.heap.size < wr.heap.size ∧ Below w.heap.size w wr ∧ ∃ cur : Array Value, Hid (wr.heap[w.heap.size]? = some (.cells cur 147 (0, 0))) ∧ Hid (Filled Bt.cells 2 l k cur.toList)) (fun i _ => l.length - (intOf i).toNat)
 case atStart => exact ⟨0, by omega, rfl, by rw [hsz0.out]; omega, hb0, _, hrow0, ⟨by rw [Array.length_toList, size_madeCells], fun i s hi => absurd hi (by omega)⟩⟩
 case round =>
  obtain ⟨k, hk, rfl, hsz, hb, cur, hrow, hfill⟩ := hrel
  by_cases hlt : k < l.length
  ·obtain ⟨b, off, rfl, hbs, hat⟩ := hc (by intro h; rw [h] at hlt; simp at hlt)
   obtain ⟨s, hsk⟩ : ∃ s, l[k]? = some s := ⟨l[k], by simp [hlt]⟩
   have hcs := (hat k s hsk).below hb hbs
   have hsk' : Hid (l[k]? = some s) := hsk
   unfold BtAt at hcs
   obtain ⟨c0, c1⟩ := hcs
   clear hsk hat hc
   go_wp2_with fail
   refine (toBerth_any s _).mono ?_
   rintro e w1 ⟨rfl, hb1⟩
   clear c0 c1
   have hb2 := hb.trans (hb1.mono hb.size)
   have hrow1 : Hid (w1.heap[w.heap.size]? = some (.cells cur 147 (0, 0))) := (hb1.block _ hsz).trans hrow.out
   have hlen := hfill.out.1
   have hfit : k * 2 + 2 ≤ cur.size := by rw [Array.length_toList] at hlen; omega
   go_wp2_with (refine wpList_store_at rfl 147 (.tmp 21) (.tmp 20) rfl w.heap.size (k * 2) #[.string s.name, .bool s.drain] rfl rfl 147 cur hrow1.out Tryz.infosBerth hfit (one_Bt s) ?_; intro w2 hrow2 hsz2 hb3)
   have hsz3 : w.heap.size < w2.heap.size := by rw [hsz2.out]; exact Nat.lt_of_lt_of_le hsz hb1.size
   have hb4 : Below w.heap.size w w2 := hb2.trans hb3
   go_roundw
   case rel => exact ⟨k + 1, by omega, by go_num, hsz3, hb4, _, hrow2, hfill.out.step hsk'.out rfl⟩
   case measure => simp [intOf]; omega
  ·go_wp2
   go_ret
   have hkl : k = l.length := by omega
   rw [hkl] at hfill
   exact ⟨rfl, hsz, ⟨_, hrow.out, hfill.out⟩, hb⟩
structure BkOwn (lo : Nat) (w : World) (b1 b2 b3 : Nat) (B : Bk) : Prop where
 lo1 : lo ≤ b1
 lt12 : b1 < b2
 lt23 : b2 < b3
 svcs : OwnS w b1 B.svcs
 cps : OwnC w b2 B.cps
 bts : OwnB w b3 B.bts
theorem BkOwn.at {lo : Nat} {w : World} {b1 b2 b3 : Nat} {B : Bk} (h : BkOwn lo w b1 b2 b3 B) : BkAt w (some ⟨b1, 0, none⟩) (some ⟨b2, 0, none⟩) (some ⟨b3, 0, none⟩) B := ⟨h.svcs.sl, h.cps.sl, h.bts.sl⟩
theorem BkOwn.below {lo N : Nat} {w w' : World} {b1 b2 b3 : Nat} {B : Bk} (h : BkOwn lo w b1 b2 b3 B) (hb : Below N w w') (hN : b3 < N) : BkOwn lo w' b1 b2 b3 B :=
 ⟨h.lo1, h.lt12, h.lt23, h.svcs.blk (hb.block _ (by have := h.lt12; have := h.lt23; omega)), h.cps.blk (hb.block _ (by have := h.lt23; omega)), h.bts.blk (hb.block _ hN)⟩
set_option maxHeartbeats 400000 in
theorem toBook_own (B : Bk) (a1 a2 a3 : Option Addr) (c1 c2 c3 : Nat) (w : World) (hB : BkAt w a1 a2 a3 B) (hS : B.small) :
  Calls Tryz.prog 10 #[.agg #[.int .i64 B.now, .slice a1 B.svcs.length c1, .slice a2 B.cps.length c2, .slice a3 B.bts.length c3]] w fun e w' => ∃ x1 x2 x3, e = .returned (.agg #[.int .i64 B.now, .slice (some ⟨x1, 0, none⟩) B.svcs.length B.svcs.length, .slice (some ⟨x2, 0, none⟩) B.cps.length B.cps.length, .slice (some ⟨x3, 0, none⟩) B.bts.length B.bts.length]) ∧ BkOwn w.heap.size w' x1 x2 x3 B ∧ Below w.heap.size w w' := by
 go_enter Tryz.func10, Tryz.ntmps10
 go_wp2_with fail
 refine (toServiceS_own B.svcs a1 c1 _ hS.1 (hB.1.below ?hb)).mono ?_
 case hb => exact (((Below.refl _ _).alloc (Nat.le_refl _) _).alloc (by simp) _).alloc (by simp; omega) _
 rintro e w1 ⟨rfl, hz1, hat1, hb1⟩
 have hbb1 : Below w.heap.size w w1 := ((((Below.refl _ _).alloc (Nat.le_refl _) _).alloc (by simp) _).alloc (by simp; omega) _).trans (hb1.mono (by simp; omega))
 obtain ⟨t0, t1, t2, t3⟩ := three_new w (.cells #[.int .i64 B.now, .slice a1 B.svcs.length c1, .slice a2 B.cps.length c2, .slice a3 B.bts.length c3] 26) (.cells #[.int .i64 0, .slice none 0 0, .slice none 0 0, .slice none 0 0] 36) (.cells #[.int .i64 B.now, .slice none 0 0, .slice none 0 0, .slice none 0 0] 36)
 rw [t3] at hz1 hat1 hb1
 rw [t3]
 have k0 : Hid (w1.heap[w.heap.size]? = _) := (hb1.block _ (by omega)).trans t0
 have k1 : Hid (w1.heap[w.heap.size + 1]? = _) := (hb1.block _ (by omega)).trans t1
 have k2 : Hid (w1.heap[w.heap.size + 1 + 1]? = _) := (hb1.block _ (by omega)).trans t2
 have HAT1 : Hid (OwnS w1 (w.heap.size + 1 + 1 + 1) B.svcs) := hat1
 have HZ1 : Hid (w.heap.size + 1 + 1 + 1 < w1.heap.size) := hz1
 clear t0 t1 t2 t3
 have q1 := blk_cell k0.out 2 rfl
 have q2 := blk_cell k2.out 1 rfl
 have q3 := blk_frozen k2.out 1
 clear hat1 hz1 hb1
 go_wp2_with fail
 have hbs1 : Below w.heap.size w (w1.setCell ⟨w.heap.size + 1 + 1, 1, none⟩ (.slice (some ⟨w.heap.size + 1 + 1 + 1, 0, none⟩) B.svcs.length B.svcs.length)) := hbb1.setCell (by show _ ≤ w.heap.size + 1 + 1; omega) _
 refine (toCopyS_own B.cps a2 c2 _ hS.2.1 (hB.2.1.below hbs1)).mono ?_
 rintro e w2 ⟨rfl, hz2, hat2, hb2⟩
 rw [size_setCell] at hz2 hat2 hb2
 rw [size_setCell]
 have hbb2 : Below w.heap.size w w2 := hbs1.trans (hb2.mono hbb1.size)
 have k0' : Hid (w2.heap[w.heap.size]? = _) := (hb2.block _ (by have := HZ1.out; omega)).trans ((Below.heap_setCell _ _ _ _ (by show _ ≠ w.heap.size + 1 + 1; omega)).trans k0.out)
 have k1' : Hid (w2.heap[w.heap.size + 1]? = _) := (hb2.block _ (by have := HZ1.out; omega)).trans ((Below.heap_setCell _ _ _ _ (by show _ ≠ w.heap.size + 1 + 1; omega)).trans k1.out)
 have k2' : Hid (w2.heap[w.heap.size + 1 + 1]? = _) := (hb2.block _ (by have := HZ1.out; omega)).trans (blk_set k2.out 1 _)
 have HAT2 : Hid (OwnC w2 w1.heap.size B.cps) := hat2
 have HAT1' : Hid (OwnS w2 (w.heap.size + 1 + 1 + 1) B.svcs) := HAT1.out.blk ((hb2.block _ HZ1.out).trans (Below.heap_setCell _ _ _ _ (by show _ ≠ w.heap.size + 1 + 1; omega)))
 have HZ2 : Hid (w1.heap.size < w2.heap.size) := hz2
 have p1 := blk_cell k0'.out 3 rfl
 have p2 := blk_cell k2'.out 2 rfl
 have p3 := blk_frozen k2'.out 2
 clear hat2 hz2 hb2 q1 q2 q3 hbs1 hbb1
 go_wp2_with fail
 have hbs2 : Below w.heap.size w (w2.setCell ⟨w.heap.size + 1 + 1, 2, none⟩ (.slice (some ⟨w1.heap.size, 0, none⟩) B.cps.length B.cps.length)) := hbb2.setCell (by show _ ≤ w.heap.size + 1 + 1; omega) _
 refine (toBerthS_own B.bts a3 c3 _ hS.2.2 (hB.2.2.below hbs2)).mono ?_
 rintro e w3 ⟨rfl, hz3, hat3, hb3⟩
 rw [size_setCell] at hz3 hat3 hb3
 rw [size_setCell]
 have hbb3 : Below w.heap.size w w3 := hbs2.trans (hb3.mono hbb2.size)
 have hzz : w.heap.size + 1 + 1 + 1 < w2.heap.size := by have := HZ1.out; have := HZ2.out; omega
 have k1'' : Hid (w3.heap[w.heap.size + 1]? = _) := (hb3.block _ (by omega)).trans ((Below.heap_setCell _ _ _ _ (by show _ ≠ w.heap.size + 1 + 1; omega)).trans k1'.out)
 have k2'' : Hid (w3.heap[w.heap.size + 1 + 1]? = _) := (hb3.block _ (by omega)).trans (blk_set k2'.out 2 _)
 have HAT3 : Hid (OwnB w3 w2.heap.size B.bts) := hat3
 have HAT2' : Hid (OwnC w3 w1.heap.size B.cps) := HAT2.out.blk ((hb3.block _ HZ2.out).trans (Below.heap_setCell _ _ _ _ (by show _ ≠ w.heap.size + 1 + 1; have := HZ1.out; omega)))
 have HAT1'' : Hid (OwnS w3 (w.heap.size + 1 + 1 + 1) B.svcs) := HAT1'.out.blk ((hb3.block _ hzz).trans (Below.heap_setCell _ _ _ _ (by show _ ≠ w.heap.size + 1 + 1; omega)))
 have HZ3 : Hid (w2.heap.size < w3.heap.size) := hz3
 have p3 := blk_cell k2''.out 3 rfl
 have p4 := blk_frozen k2''.out 3
 have HZZ : Hid (w.heap.size + 1 + 1 + 1 < w2.heap.size) := hzz
 clear hat3 hz3 hb3 p1 p2 p3 hbs2 hbb2 hzz
 have p3 := blk_cell k2''.out 3 rfl
 have r0 := blk_cell k2''.out 0 rfl
 have r1 := blk_cell k2''.out 1 rfl
 have r2 := blk_cell k2''.out 2 rfl
 have s0 := blk_cell k1''.out 0 rfl
 have s1 := blk_cell k1''.out 1 rfl
 have s2 := blk_cell k1''.out 2 rfl
 have s3 := blk_cell k1''.out 3 rfl
 have f0 := blk_frozen k1''.out 0
 have f1 := blk_frozen k1''.out 1
 have f2 := blk_frozen k1''.out 2
 have f3 := blk_frozen k1''.out 3
 go_wp2
 refine bodyPost_ret (v := .agg #[.int .i64 B.now, .slice (some ⟨w.heap.size + 1 + 1 + 1, 0, none⟩) B.svcs.length B.svcs.length, .slice (some ⟨w1.heap.size, 0, none⟩) B.cps.length B.cps.length, .slice (some ⟨w2.heap.size, 0, none⟩) B.bts.length B.bts.length]) (by simp [results, Tryz.results10, go_sem, s0, s1, s2, s3]) rfl ⟨_, _, _, rfl, ?_, ?_⟩
 ·have z1 := HZ1.out
  have z2 := HZ2.out
  have z3 := HZ3.out
  have z4 := HZZ.out
  refine ⟨by omega, by omega, by omega, HAT1''.out.blk ?_, HAT2'.out.blk ?_, HAT3.out.blk ?_⟩
  ·repeat rw [Below.heap_setCell _ _ _ _ (by simp; try omega)]
  ·repeat rw [Below.heap_setCell _ _ _ _ (by simp; try omega)]
  ·repeat rw [Below.heap_setCell _ _ _ _ (by simp; try omega)]
 ·exact ((((hbb3.setCell (by simp; omega) _).setCell (by simp) _).setCell (by simp) _).setCell (by simp) _).setCell (by simp) _
end Go.Proofs.YtbceafpodamnfabGreatDoor

namespace Go.Proofs.YtbceafpodamnfabGreatDoor
open Go.RowKit Go.Sort
def digB (d : Nat) : ByteArray := ⟨#[48 + UInt8.ofNat d]⟩
def mtGo : Nat → Nat → ByteArray → ByteArray
 | 0, _, out => out
 | f + 1, k, out => if k = 0 then out else mtGo f (k / 10) (digB (k % 10) ++ out)
def mt (k : Int) : ByteArray := ⟨#[109]⟩ ++ mtGo 12 k.toNat ⟨#[]⟩
theorem mtGo_zero (f : Nat) (out : ByteArray) : mtGo f 0 out = out := by cases f <;> simp [mtGo]
theorem run_conv_one (w : World) (d : Int) : (convert 120 9 (.slice (some ⟨w.heap.size, 0, none⟩) 1 1)).run Tryz.prog (w.alloc (.cells #[.int .u8 d] 5)) = .ok (.string ⟨#[UInt8.ofNat d.toNat]⟩) (w.alloc (.cells #[.int .u8 d] 5)) := by
 rw [run_convert_bytes_string _ _ _ _ _ _ _ Tryz.underlying120 Tryz.underlying5 Tryz.underlying9]
 rw [run_bytesToString _ _ 1 1 [d] (by simp [loadCells, loadCellsFrom, go_sem])]
 rfl
set_option maxRecDepth 100000 in
set_option maxHeartbeats 2000000 in
theorem markText_any (k : Int) (w : World) (h0 : 1 ≤ k) (h1 : k < 100000000) :
  Calls Tryz.prog 113 #[.int .i64 k] w fun e w' => e = .returned (.string (mt k)) ∧ Below w.heap.size w w' := by
 have hcv := run_conv_one
 go_enter Tryz.func113, Tryz.ntmps113
 go_wp2
 go_loopw [0, 3] (fun kv ov wr => ∃ (f j : Nat) (out : ByteArray), kv = .int .i64 (j : Int) ∧ ov = .string out ∧ f ≤ 12 ∧ out.size + f = 12 ∧ j < 10 ^ f ∧ j < 100000000 ∧ Hid (mtGo f j out = mtGo 12 k.toNat ⟨#[]⟩) ∧ Below w.heap.size w wr) (fun kv _ _ => (intOf kv).toNat)
 case atStart => exact ⟨12, k.toNat, ⟨#[]⟩, by rw [Int.toNat_of_nonneg (by omega)], rfl, Nat.le_refl _, rfl, by omega, by omega, rfl, Below.refl _ _⟩
 case round =>
  obtain ⟨f, j, out, rfl, rfl, hf, ho, hj, hj8, HM, hb⟩ := hrel
  have hos : (out.size : Int) ≤ 8388608 := by omega
  by_cases hz : j = 0
  ·subst hz
   go_wp2
   go_ret
   refine ⟨?_, hb⟩
   have e := HM.out
   rw [mtGo_zero] at e
   show Ending.returned (.string (⟨#[109]⟩ ++ out)) = _
   rw [e]
   rfl
  ·have hjp : 0 < (j : Int) := by omega
   have hd : decide (0 < j) = true := by simp; omega
   obtain ⟨f', rfl⟩ : ∃ f', f = f' + 1 := by
    cases f with
    | zero => simp at hj; omega
    | succ f' => exact ⟨f', rfl⟩
   go_wp2
   go_roundw
   case rel =>
    refine ⟨f', j / 10, digB (j % 10) ++ out, by go_num, rfl, by omega, ?_, ?_, by omega, ?_, hb.alloc hb.size _⟩
    ·have : (digB (j % 10) ++ out).size = 1 + out.size := by rw [ByteArray.size_append]; rfl
     rw [this]
     omega
    ·rw [Nat.pow_succ] at hj; omega
    ·unfold Hid
     rw [← HM.out]
     show _ = mtGo (f' + 1) j out
     rw [mtGo, if_neg hz]
   case measure => simp [intOf]; omega
end Go.Proofs.YtbceafpodamnfabGreatDoor
