/-
  My own. Slices of structs copied.
-/
import Derived.Test.YtbceafpodamnfaaWc
import Derived.Test.YtbceafpodamnfaaLw
namespace Go.Proofs.Ytbceafpodamnfaa
open Go.RowKit

theorem Try.infoService : (Try.prog.info? 63).map (fun i => (i.zero, i.size, i.bytes)) = some (some (.agg #[.string ⟨#[]⟩, .int .i64 0, .bool false, .int .i64 0, .int .i64 0, .int .i64 0, .int .i64 0, .int .i64 0, .int .i64 0, .int .i64 0, .int .i64 0, .int .i64 0, .int .i64 0]), 13, 112) := by kernel_rfl
theorem Try.infosService : (Try.prog.info? 63).map (·.size) = some 13 := by kernel_rfl

set_option maxHeartbeats 1000000 in
theorem toServiceS_any (l : List Svc) (ao : Option Addr) (cap : Nat) (w : World) (hl : l.length ≤ 1048576)
    (hc : l ≠ [] → ∃ b off, ao = some ⟨b, off, none⟩ ∧ b < w.heap.size ∧ SvcsAt w b off l) :
    Calls Try.prog 37 #[.slice ao l.length cap] w fun e w' => e = .returned (.slice (some ⟨w.heap.size, 0, none⟩) l.length l.length) ∧ w.heap.size < w'.heap.size ∧ SvcsAt w' w.heap.size 0 l ∧ Below w.heap.size w w' := by
  go_enter Try.func37, Try.ntmps37
  go_wp2_with (at_make; refine wpList_make_at rfl (.tmp 6) (.tmp 6) 23 rfl 63 _ 13 112 Try.underlying23 Try.infoService l.length rfl rfl (by omega) (by unfold maxLen; omega) ?_; intro w0 hrow0 hsz0 hb0)
  go_loopw [4] (fun iv wr => ∃ (k : Nat), k ≤ l.length ∧ iv = .int .i64 k ∧ w.heap.size < wr.heap.size ∧ Below w.heap.size w wr ∧ ∃ cur : Array Value, Hid (wr.heap[w.heap.size]? = some (.cells cur 63 (0, 0))) ∧ Hid (Filled Svc.cells 13 l k cur.toList)) (fun i _ => l.length - (intOf i).toNat)
  case atStart => exact ⟨0, by omega, rfl, by rw [hsz0.out]; omega, hb0, _, hrow0, ⟨by rw [Array.length_toList, size_madeCells], fun i s hi => absurd hi (by omega)⟩⟩
  case round =>
    obtain ⟨k, hk, rfl, hsz, hb, cur, hrow, hfill⟩ := hrel
    by_cases hlt : k < l.length
    · obtain ⟨b, off, rfl, hbs, hat⟩ := hc (by intro h; rw [h] at hlt; simp at hlt)
      obtain ⟨s, hsk⟩ : ∃ s, l[k]? = some s := ⟨l[k], by simp [hlt]⟩
      have hcs := (hat k s hsk).below hb hbs
      have hsk' : Hid (l[k]? = some s) := hsk
      unfold SvcAt at hcs
      obtain ⟨c0, c1, c2, c3, c4, c5, c6, c7, c8, c9, c10, c11, c12⟩ := hcs
      clear hsk hat hc
      go_wp2_with fail
      refine (toService_any s _).mono ?_
      rintro e w1 ⟨rfl, hb1⟩
      clear c0 c1 c2 c3 c4 c5 c6 c7 c8 c9 c10 c11 c12
      have hb2 := hb.trans (hb1.mono hb.size)
      have hrow1 : Hid (w1.heap[w.heap.size]? = some (.cells cur 63 (0, 0))) := (hb1.block _ hsz).trans hrow.out
      have hlen := hfill.out.1
      have hfit : k * 13 + 13 ≤ cur.size := by rw [Array.length_toList] at hlen; omega
      go_wp2_with (refine wpList_store_at rfl 63 (.tmp 21) (.tmp 20) rfl w.heap.size (k * 13) #[.string s.name, .int .i64 s.version, .bool s.gone, .int .i64 s.image, .int .i64 s.want, .int .i64 s.down, .int .i64 s.over, .int .i64 s.next, .int .i64 s.per, .int .i64 s.least, .int .i64 s.most, .int .i64 s.load, .int .i64 s.cool] rfl rfl 63 cur hrow1.out Try.infosService hfit (one_Svc s) ?_; intro w2 hrow2 hsz2 hb3)
      have hsz3 : w.heap.size < w2.heap.size := by rw [hsz2.out]; exact Nat.lt_of_lt_of_le hsz hb1.size
      have hb4 : Below w.heap.size w w2 := hb2.trans hb3
      go_roundw
      case rel => exact ⟨k + 1, by omega, by go_num, hsz3, hb4, _, hrow2, hfill.out.step hsk'.out rfl⟩
      case measure => simp [intOf]; omega
    · go_wp2
      go_ret
      have hkl : k = l.length := by omega
      rw [hkl] at hfill
      exact ⟨rfl, hsz, svcsAt_of_filled hrow.out hfill.out, hb⟩

end Go.Proofs.Ytbceafpodamnfaa
