/-
  My own. Plain data, more: what a valid book tells.
-/
import Derived.Test.YtbceafpodamnfaaDd
import Derived.Test.YtbceafpodamnfaaDe
namespace Go.Proofs.Ytbceafpodamnfaa
open Go.RowKit

theorem same_nm {a b : ByteArray} : (a.toList == b.toList) = true ↔ a = b := by
  rw [beq_iff_eq, ByteArray.toList_eq, ByteArray.toList_eq]
  constructor
  · intro h
    cases a; cases b
    simp only [ByteArray.mk.injEq]
    exact Array.toList_inj.1 h
  · intro h; rw [h]

theorem cpAt_of {B : Bk} (h : allTo (cpAtB B) B.cps.length = true) : ∀ i, i < B.cps.length → cpAtB B i = true := fun i hi => by
  unfold allTo at h; exact List.all_eq_true.1 h i (List.mem_range.2 hi)

theorem cpB_of {B : Bk} (h : allTo (cpAtB B) B.cps.length = true) {c : Cp} (hc : c ∈ B.cps) : cpB B c = true := by
  obtain ⟨i, hi⟩ := List.getElem?_of_mem hc
  have := cpAt_of h i (List.getElem?_eq_some_iff.1 hi).1
  unfold cpAtB at this
  rw [hi] at this
  simp only [Bool.and_eq_true] at this
  exact this.1

theorem svcB_of {B : Bk} (h : allTo (svcAtB B) B.svcs.length = true) {s : Svc} (hs : s ∈ B.svcs) : svcB B.now s = true := by
  obtain ⟨i, hi⟩ := List.getElem?_of_mem hs
  have h1 : svcAtB B i = true := by unfold allTo at h; exact List.all_eq_true.1 h i (List.mem_range.2 (List.getElem?_eq_some_iff.1 hi).1)
  unfold svcAtB at h1
  rw [hi] at h1
  simp only [Bool.and_eq_true] at h1
  exact h1.1

structure Valid (B : Bk) : Prop where
  now : inB B.now 0 1000000 = true
  ls : B.svcs.length ≤ 8
  lc : B.cps.length ≤ 200
  lb : B.bts.length ≤ 6
  svcs : allTo (svcAtB B) B.svcs.length = true
  bts : allTo (btAtB B) B.bts.length = true
  cps : allTo (cpAtB B) B.cps.length = true

theorem validB_iff {B : Bk} : validB B = true ↔ Valid B := by
  unfold validB
  simp only [Bool.and_eq_true, decide_eq_true_eq]
  exact ⟨fun ⟨⟨⟨⟨⟨⟨a, b⟩, c⟩, d⟩, e⟩, f⟩, g⟩ => ⟨a, b, c, d, e, f, g⟩, fun h => ⟨⟨⟨⟨⟨⟨h.now, h.ls⟩, h.lc⟩, h.lb⟩, h.svcs⟩, h.bts⟩, h.cps⟩⟩

theorem inB_iff {n lo hi : Int} : inB n lo hi = true ↔ lo ≤ n ∧ n ≤ hi := by
  unfold inB
  simp

theorem Valid.svc {B : Bk} (h : Valid B) {c : Cp} (hc : c ∈ B.cps) : ∃ s, svcOf B c.service = some s ∧ cpOk B.now s c = true := by
  have := cpB_of h.cps hc
  unfold cpB at this
  cases hs : svcOf B c.service with
  | none => rw [hs] at this; cases this
  | some s => rw [hs] at this; simp only [Bool.and_eq_true] at this; exact ⟨s, rfl, this.1⟩

theorem svcOf_mem {B : Bk} {x : ByteArray} {s : Svc} (h : svcOf B x = some s) : s ∈ B.svcs := List.mem_of_find?_eq_some h

structure SvcIn (s : Svc) : Prop where
  want0 : 0 ≤ s.want
  want1 : s.want ≤ 10
  down0 : 0 ≤ s.down
  down1 : s.down ≤ 10
  over0 : 0 ≤ s.over
  over1 : s.over ≤ 10
  next0 : 1 ≤ s.next
  next1 : s.next ≤ 1000000

theorem Valid.svcIn {B : Bk} (h : Valid B) {s : Svc} (hs : s ∈ B.svcs) : SvcIn s := by
  have := svcB_of h.svcs hs
  unfold svcB at this
  simp only [Bool.and_eq_true, inB_iff] at this
  obtain ⟨⟨⟨⟨⟨⟨_, h1⟩, h2⟩, h3⟩, h4⟩, _⟩, _⟩ := this
  exact ⟨h2.1, h2.2, h3.1, h3.2, h4.1, h4.2, h1.1, h1.2⟩

end Go.Proofs.Ytbceafpodamnfaa
