/-
  My own. The map of places: asked.
-/
import Derived.Test.YtbceafpodamnfaaWr
import Derived.Test.YtbceafpodamnfaaWm
namespace Go.Proofs.Ytbceafpodamnfaa
open Go.RowKit Go.Sort Go.Maps

theorem same_name {a b : ByteArray} : (a.toList == b.toList) = true ↔ a = b := by
  rw [beq_iff_eq, ByteArray.toList_eq, ByteArray.toList_eq]
  constructor
  · intro h
    cases a; cases b
    simp only [ByteArray.mk.injEq]
    exact Array.toList_inj.1 h
  · intro h; rw [h]

theorem has_berth {D : DataW Unit} {B : Bk} {x : ByteArray} (hx : x.size ≤ maxLen)
    (h3 : ∀ x : ByteArray, x.size ≤ maxLen → (∀ (i : Nat) s, i < B.bts.length → B.bts[i]? = some s → s.name ≠ x) → Maps.has D (key 2 x) = false)
    (h4 : ∀ (i : Nat) s, i < B.bts.length → B.bts[i]? = some s → Maps.has D (key 2 s.name) = true) : Maps.has D (key 2 x) = B.bts.any fun b => b.name.toList == x.toList := by
  cases h : B.bts.any fun b => b.name.toList == x.toList with
  | true =>
    obtain ⟨s, hs, he⟩ := List.any_eq_true.1 h
    obtain ⟨i, hi, rfl⟩ := List.mem_iff_getElem.1 hs
    have e := same_name.1 he
    rw [← e]
    exact h4 i _ hi (List.getElem?_eq_getElem hi)
  | false =>
    rw [List.any_eq_false] at h
    exact h3 x hx fun i s hi hs e => h s (List.mem_of_getElem? hs) (same_name.2 e)

theorem svcOf_none {B : Bk} {x : ByteArray} (h : svcOf B x = none) : ∀ (i : Nat) s, i < B.svcs.length → B.svcs[i]? = some s → s.name ≠ x := fun i s _ hs e => by
  unfold svcOf at h
  rw [List.find?_eq_none] at h
  exact h s (List.mem_of_getElem? hs) (same_name.2 e)
theorem svcOf_some {B : Bk} {x : ByteArray} {s : Svc} (h : svcOf B x = some s) : ∃ i : Nat, i < B.svcs.length ∧ B.svcs[i]? = some s ∧ s.name = x := by
  unfold svcOf at h
  obtain ⟨i, hi, _⟩ := idxOf_find h
  exact ⟨i, (List.getElem?_eq_some_iff.1 hi).1, hi, same_name.1 (List.find?_some (p := fun s : Svc => s.name.toList == x.toList) h)⟩

set_option maxHeartbeats 1000000 in
theorem berthFits_any (B : Bk) (c : Cp) (b : Nat) (w : World) (hc : c.berth.size ≤ maxLen) (hP : PlacesAt w b B B.svcs.length B.bts.length) :
    Calls Try.prog 72 #[.agg #[.string c.service, .int .i64 c.number, .int .i64 c.version, .int .i64 c.image, .int .i64 c.state, .bool c.ending, .string c.berth], .map (some b)] w fun e w' => e = .returned (.bool (berthOk B.bts c)) ∧ Below w.heap.size w w' := by
  by_cases h5 : c.state = 1
  · have H5 : Hid (c.state = 1) := h5
    have h5' : (c.state == 1) = true := by simp [h5]
    clear h5
    go_enter Try.func72, Try.ntmps72
    go_wp2
    go_ret
    exact ⟨ret_bool (by simp [berthOk, H5.out]), below_box _ _⟩
  · have H5 : Hid (¬ c.state = 1) := h5
    have h5' : (c.state == 1) = false := by simp [h5]
    clear h5
    obtain ⟨n, D, hn, hown, h1, h2, h3, h4⟩ := hP
    have HB : Hid (Maps.has D (key 2 c.berth) = B.bts.any fun b => b.name.toList == c.berth.toList) := has_berth hc h3 h4
    clear h1 h2 h3 h4
    go_enter Try.func72, Try.ntmps72
    go_wp2_with (at_lookup; refine wpList_lookup_own_ok_int _ rfl (.tmp 14) (.tmp 17) 64 rfl 67 3 .i64 thingLaw Try.underlying64 Try.underlying3 (zeroInt _) b n D rfl (hown.alloc _) _ _ rfl (key_ok 2 c.berth wf2 hc) ?_; intro z hat hwz)
    go_ret
    exact ⟨ret_bool (by rw [HB.out]; simp [berthOk, H5.out]), below_box _ _⟩

end Go.Proofs.Ytbceafpodamnfaa
