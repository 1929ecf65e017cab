/-
  My own. Slices of structs copied.
-/
import Derived.Test.YtbceafpodamnfaaWd
namespace Go.Proofs.Ytbceafpodamnfaa
open Go.RowKit

theorem Try.infoCopy : (Try.prog.info? 35).map (fun i => (i.zero, i.size, i.bytes)) = some (some (.agg #[.string ⟨#[]⟩, .int .i64 0, .int .i64 0, .int .i64 0, .int .i64 0, .bool false, .string ⟨#[]⟩]), 7, 72) := by kernel_rfl
theorem Try.infosCopy : (Try.prog.info? 35).map (·.size) = some 7 := by kernel_rfl

set_option maxHeartbeats 1000000 in
theorem toCopyS_any (l : List Cp) (ao : Option Addr) (cap : Nat) (w : World) (hl : l.length ≤ 1048576)
    (hc : l ≠ [] → ∃ b off, ao = some ⟨b, off, none⟩ ∧ b < w.heap.size ∧ CpsAt w b off l) :
    Calls Try.prog 38 #[.slice ao l.length cap] w fun e w' => e = .returned (.slice (some ⟨w.heap.size, 0, none⟩) l.length l.length) ∧ w.heap.size < w'.heap.size ∧ CpsAt w' w.heap.size 0 l ∧ Below w.heap.size w w' := by
  go_enter Try.func38, Try.ntmps38
  go_wp2_with (at_make; refine wpList_make_at rfl (.tmp 6) (.tmp 6) 24 rfl 35 _ 7 72 Try.underlying24 Try.infoCopy l.length rfl rfl (by omega) (by unfold maxLen; omega) ?_; intro w0 hrow0 hsz0 hb0)
  go_loopw [4] (fun iv wr => ∃ (k : Nat), k ≤ l.length ∧ iv = .int .i64 k ∧ w.heap.size < wr.heap.size ∧ Below w.heap.size w wr ∧ ∃ cur : Array Value, Hid (wr.heap[w.heap.size]? = some (.cells cur 35 (0, 0))) ∧ Hid (Filled Cp.cells 7 l k cur.toList)) (fun i _ => l.length - (intOf i).toNat)
  case atStart => exact ⟨0, by omega, rfl, by rw [hsz0.out]; omega, hb0, _, hrow0, ⟨by rw [Array.length_toList, size_madeCells], fun i s hi => absurd hi (by omega)⟩⟩
  case round =>
    obtain ⟨k, hk, rfl, hsz, hb, cur, hrow, hfill⟩ := hrel
    by_cases hlt : k < l.length
    · obtain ⟨b, off, rfl, hbs, hat⟩ := hc (by intro h; rw [h] at hlt; simp at hlt)
      obtain ⟨s, hsk⟩ : ∃ s, l[k]? = some s := ⟨l[k], by simp [hlt]⟩
      have hcs := (hat k s hsk).below hb hbs
      have hsk' : Hid (l[k]? = some s) := hsk
      unfold CpAt at hcs
      obtain ⟨c0, c1, c2, c3, c4, c5, c6⟩ := hcs
      clear hsk hat hc
      go_wp2_with fail
      refine (toCopy_any s _).mono ?_
      rintro e w1 ⟨rfl, hb1⟩
      clear c0 c1 c2 c3 c4 c5 c6
      have hb2 := hb.trans (hb1.mono hb.size)
      have hrow1 : Hid (w1.heap[w.heap.size]? = some (.cells cur 35 (0, 0))) := (hb1.block _ hsz).trans hrow.out
      have hlen := hfill.out.1
      have hfit : k * 7 + 7 ≤ cur.size := by rw [Array.length_toList] at hlen; omega
      go_wp2_with (refine wpList_store_at rfl 35 (.tmp 21) (.tmp 20) rfl w.heap.size (k * 7) #[.string s.service, .int .i64 s.number, .int .i64 s.version, .int .i64 s.image, .int .i64 s.state, .bool s.ending, .string s.berth] rfl rfl 35 cur hrow1.out Try.infosCopy hfit (one_Cp s) ?_; intro w2 hrow2 hsz2 hb3)
      have hsz3 : w.heap.size < w2.heap.size := by rw [hsz2.out]; exact Nat.lt_of_lt_of_le hsz hb1.size
      have hb4 : Below w.heap.size w w2 := hb2.trans hb3
      go_roundw
      case rel => exact ⟨k + 1, by omega, by go_num, hsz3, hb4, _, hrow2, hfill.out.step hsk'.out rfl⟩
      case measure => simp [intOf]; omega
    · go_wp2
      go_ret
      have hkl : k = l.length := by omega
      rw [hkl] at hfill
      exact ⟨rfl, hsz, cpsAt_of_filled hrow.out hfill.out, hb⟩

theorem Try.infoBerth : (Try.prog.info? 74).map (fun i => (i.zero, i.size, i.bytes)) = some (some (.agg #[.string ⟨#[]⟩, .bool false]), 2, 24) := by kernel_rfl
theorem Try.infosBerth : (Try.prog.info? 74).map (·.size) = some 2 := by kernel_rfl

set_option maxHeartbeats 1000000 in
theorem toBerthS_any (l : List Bt) (ao : Option Addr) (cap : Nat) (w : World) (hl : l.length ≤ 1048576)
    (hc : l ≠ [] → ∃ b off, ao = some ⟨b, off, none⟩ ∧ b < w.heap.size ∧ BtsAt w b off l) :
    Calls Try.prog 39 #[.slice ao l.length cap] w fun e w' => e = .returned (.slice (some ⟨w.heap.size, 0, none⟩) l.length l.length) ∧ w.heap.size < w'.heap.size ∧ BtsAt w' w.heap.size 0 l ∧ Below w.heap.size w w' := by
  go_enter Try.func39, Try.ntmps39
  go_wp2_with (at_make; refine wpList_make_at rfl (.tmp 6) (.tmp 6) 25 rfl 74 _ 2 24 Try.underlying25 Try.infoBerth l.length rfl rfl (by omega) (by unfold maxLen; omega) ?_; intro w0 hrow0 hsz0 hb0)
  go_loopw [4] (fun iv wr => ∃ (k : Nat), k ≤ l.length ∧ iv = .int .i64 k ∧ w.heap.size < wr.heap.size ∧ Below w.heap.size w wr ∧ ∃ cur : Array Value, Hid (wr.heap[w.heap.size]? = some (.cells cur 74 (0, 0))) ∧ Hid (Filled Bt.cells 2 l k cur.toList)) (fun i _ => l.length - (intOf i).toNat)
  case atStart => exact ⟨0, by omega, rfl, by rw [hsz0.out]; omega, hb0, _, hrow0, ⟨by rw [Array.length_toList, size_madeCells], fun i s hi => absurd hi (by omega)⟩⟩
  case round =>
    obtain ⟨k, hk, rfl, hsz, hb, cur, hrow, hfill⟩ := hrel
    by_cases hlt : k < l.length
    · obtain ⟨b, off, rfl, hbs, hat⟩ := hc (by intro h; rw [h] at hlt; simp at hlt)
      obtain ⟨s, hsk⟩ : ∃ s, l[k]? = some s := ⟨l[k], by simp [hlt]⟩
      have hcs := (hat k s hsk).below hb hbs
      have hsk' : Hid (l[k]? = some s) := hsk
      unfold BtAt at hcs
      obtain ⟨c0, c1⟩ := hcs
      clear hsk hat hc
      go_wp2_with fail
      refine (toBerth_any s _).mono ?_
      rintro e w1 ⟨rfl, hb1⟩
      clear c0 c1
      have hb2 := hb.trans (hb1.mono hb.size)
      have hrow1 : Hid (w1.heap[w.heap.size]? = some (.cells cur 74 (0, 0))) := (hb1.block _ hsz).trans hrow.out
      have hlen := hfill.out.1
      have hfit : k * 2 + 2 ≤ cur.size := by rw [Array.length_toList] at hlen; omega
      go_wp2_with (refine wpList_store_at rfl 74 (.tmp 21) (.tmp 20) rfl w.heap.size (k * 2) #[.string s.name, .bool s.drain] rfl rfl 74 cur hrow1.out Try.infosBerth hfit (one_Bt s) ?_; intro w2 hrow2 hsz2 hb3)
      have hsz3 : w.heap.size < w2.heap.size := by rw [hsz2.out]; exact Nat.lt_of_lt_of_le hsz hb1.size
      have hb4 : Below w.heap.size w w2 := hb2.trans hb3
      go_roundw
      case rel => exact ⟨k + 1, by omega, by go_num, hsz3, hb4, _, hrow2, hfill.out.step hsk'.out rfl⟩
      case measure => simp [intOf]; omega
    · go_wp2
      go_ret
      have hkl : k = l.length := by omega
      rw [hkl] at hfill
      exact ⟨rfl, hsz, btsAt_of_filled hrow.out hfill.out, hb⟩

end Go.Proofs.Ytbceafpodamnfaa
