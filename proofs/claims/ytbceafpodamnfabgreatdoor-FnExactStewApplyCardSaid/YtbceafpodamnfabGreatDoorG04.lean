/-
  My own: Df, Di, Yk.
-/
import Derived.Test.YtbceafpodamnfabGreatDoorG01
import Derived.Test.YtbceafpodamnfabGreatDoorG02
import Derived.Test.YtbceafpodamnfabGreatDoorG00
import Derived.Deep.DeepCutAuto
set_option linter.unusedVariables false
set_option linter.unusedSimpArgs false
namespace Go.Proofs.YtbceafpodamnfabGreatDoor
open Go.RowKit
structure Cnt where
 live : Int
 ready : Int
 old : Int
 failed : Int
 ending : Int
def Cnt.none : Cnt := ⟨0, 0, 0, 0, 0⟩
def addB (b : Bool) (n : Int) : Int := if b then n + 1 else n
def cntAdd (img : Int) (c : Cp) (n : Cnt) : Cnt :=
 if c.ending then { n with ending := n.ending + 1 }
 else ⟨n.live + 1, addB (c.state == 3) n.ready, addB (c.image != img) n.old, addB (c.state == 4) n.failed, n.ending⟩
def cntOne (img : Int) (sv : ByteArray) (c : Cp) (n : Cnt) : Cnt := if c.service.toList == sv.toList then cntAdd img c n else n
def cntTo (img : Int) (sv : ByteArray) (l : List Cp) (k : Nat) : Cnt := (l.take k).foldl (fun n c => cntOne img sv c n) Cnt.none
theorem cntTo_succ (img : Int) (sv : ByteArray) (l : List Cp) (k : Nat) (c : Cp) (h : l[k]? = some c) : cntTo img sv l (k + 1) = cntOne img sv c (cntTo img sv l k) := by
 obtain ⟨hk, e⟩ := List.getElem?_eq_some_iff.1 h
 unfold cntTo
 rw [List.take_succ_eq_append_getElem hk, List.foldl_append, e]
 rfl
def Cnt.upTo (n : Cnt) (k : Nat) : Prop := 0 ≤ n.live ∧ n.live ≤ k ∧ 0 ≤ n.ready ∧ n.ready ≤ k ∧ 0 ≤ n.old ∧ n.old ≤ k ∧ 0 ≤ n.failed ∧ n.failed ≤ k ∧ 0 ≤ n.ending ∧ n.ending ≤ k
theorem cntOne_upTo (img : Int) (sv : ByteArray) (c : Cp) (n : Cnt) (k : Nat) (h : n.upTo k) : (cntOne img sv c n).upTo (k + 1) := by
 unfold Cnt.upTo at *
 unfold cntOne cntAdd addB
 split
 ·split
  ·dsimp only; omega
  ·dsimp only; repeat' split
   all_goals omega
 ·omega
theorem fold_upTo (img : Int) (sv : ByteArray) : ∀ (l : List Cp) (n : Cnt) (k : Nat), n.upTo k → (l.foldl (fun n c => cntOne img sv c n) n).upTo (k + l.length)
 | [], n, k, h => h
 | c :: l, n, k, h => by
  have := fold_upTo img sv l (cntOne img sv c n) (k + 1) (cntOne_upTo img sv c n k h)
  rw [List.foldl_cons, List.length_cons, Nat.add_comm l.length 1, ← Nat.add_assoc]
  exact this
theorem cntTo_upTo (img : Int) (sv : ByteArray) (l : List Cp) (k : Nat) (hk : k ≤ l.length) : (cntTo img sv l k).upTo k := by
 have := fold_upTo img sv (l.take k) Cnt.none 0 (by unfold Cnt.upTo Cnt.none; dsimp only; omega)
 rw [List.length_take, Nat.zero_add, Nat.min_eq_left hk] at this
 exact this
def cntB (B : Bk) (sv : ByteArray) : Cnt := match svcOf B sv with | none => Cnt.none | some s => cntTo s.image sv B.cps B.cps.length
end Go.Proofs.YtbceafpodamnfabGreatDoor

namespace Go.Proofs.YtbceafpodamnfabGreatDoor
open Go.RowKit
theorem same_nm {a b : ByteArray} : (a.toList == b.toList) = true ↔ a = b := by
 rw [beq_iff_eq, ByteArray.toList_eq, ByteArray.toList_eq]
 constructor
 ·intro h
  cases a; cases b
  simp only [ByteArray.mk.injEq]
  exact Array.toList_inj.1 h
 ·intro h; rw [h]
theorem cpAt_of {B : Bk} (h : allTo (cpAtB B) B.cps.length = true) : ∀ i, i < B.cps.length → cpAtB B i = true := fun i hi => by
 unfold allTo at h; exact List.all_eq_true.1 h i (List.mem_range.2 hi)
theorem cpB_of {B : Bk} (h : allTo (cpAtB B) B.cps.length = true) {c : Cp} (hc : c ∈ B.cps) : cpB B c = true := by
 obtain ⟨i, hi⟩ := List.getElem?_of_mem hc
 have := cpAt_of h i (List.getElem?_eq_some_iff.1 hi).1
 unfold cpAtB at this
 rw [hi] at this
 simp only [Bool.and_eq_true] at this
 exact this.1
theorem svcB_of {B : Bk} (h : allTo (svcAtB B) B.svcs.length = true) {s : Svc} (hs : s ∈ B.svcs) : svcB B.now s = true := by
 obtain ⟨i, hi⟩ := List.getElem?_of_mem hs
 have h1 : svcAtB B i = true := by unfold allTo at h; exact List.all_eq_true.1 h i (List.mem_range.2 (List.getElem?_eq_some_iff.1 hi).1)
 unfold svcAtB at h1
 rw [hi] at h1
 simp only [Bool.and_eq_true] at h1
 exact h1.1
structure Valid (B : Bk) : Prop where
 now : inB B.now 0 1000000 = true
 ls : B.svcs.length ≤ 8
 lc : B.cps.length ≤ 200
 lb : B.bts.length ≤ 6
 svcs : allTo (svcAtB B) B.svcs.length = true
 bts : allTo (btAtB B) B.bts.length = true
 cps : allTo (cpAtB B) B.cps.length = true
theorem validB_iff {B : Bk} : validB B = true ↔ Valid B := by
 unfold validB
 simp only [Bool.and_eq_true, decide_eq_true_eq]
 exact ⟨fun ⟨⟨⟨⟨⟨⟨a, b⟩, c⟩, d⟩, e⟩, f⟩, g⟩ => ⟨a, b, c, d, e, f, g⟩, fun h => ⟨⟨⟨⟨⟨⟨h.now, h.ls⟩, h.lc⟩, h.lb⟩, h.svcs⟩, h.bts⟩, h.cps⟩⟩
theorem inB_iff {n lo hi : Int} : inB n lo hi = true ↔ lo ≤ n ∧ n ≤ hi := by
 unfold inB
 simp
theorem Valid.svc {B : Bk} (h : Valid B) {c : Cp} (hc : c ∈ B.cps) : ∃ s, svcOf B c.service = some s ∧ cpOk B.now s c = true := by
 have := cpB_of h.cps hc
 unfold cpB at this
 cases hs : svcOf B c.service with
 | none => rw [hs] at this; cases this
 | some s => rw [hs] at this; simp only [Bool.and_eq_true] at this; exact ⟨s, rfl, this.1⟩
theorem svcOf_mem {B : Bk} {x : ByteArray} {s : Svc} (h : svcOf B x = some s) : s ∈ B.svcs := List.mem_of_find?_eq_some h
structure SvcIn (s : Svc) : Prop where
 want0 : 0 ≤ s.want
 want1 : s.want ≤ 10
 down0 : 0 ≤ s.down
 down1 : s.down ≤ 10
 over0 : 0 ≤ s.over
 over1 : s.over ≤ 10
 next0 : 1 ≤ s.next
 next1 : s.next ≤ 1000000
theorem Valid.svcIn {B : Bk} (h : Valid B) {s : Svc} (hs : s ∈ B.svcs) : SvcIn s := by
 have := svcB_of h.svcs hs
 unfold svcB at this
 simp only [Bool.and_eq_true, inB_iff] at this
 obtain ⟨⟨⟨⟨⟨⟨_, h1⟩, h2⟩, h3⟩, h4⟩, _⟩, _⟩ := this
 exact ⟨h2.1, h2.2, h3.1, h3.2, h4.1, h4.2, h1.1, h1.2⟩
end Go.Proofs.YtbceafpodamnfabGreatDoor

namespace Go.Proofs.YtbceafpodamnfabGreatDoor
open Go.RowKit Go.Sort
def cmpS (a b : ByteArray) : Int := if Op.bytesLess a.toList b.toList = true then -1 else if (a.toList == b.toList) = true then 0 else 1
set_option maxHeartbeats 1000000 in
theorem isNaNS_any (a : ByteArray) (w : World) : Calls Tryz.prog 364 #[.string a] w fun e w' => e = .returned (.bool false) ∧ w' = w := by
 go_enter Tryz.func364, Tryz.ntmps364
 go_wp2
 go_ret
 exact ⟨rfl, rfl⟩
set_option maxHeartbeats 1000000 in
theorem cmpStr_any (a b : ByteArray) (w : World) : Calls Tryz.prog 319 #[.string a, .string b] w fun e w' => e = .returned (.int .i64 (cmpS a b)) ∧ w' = w := by
 obtain ⟨cd, HCD⟩ : ∃ cd, Hid (cmpS a b = cd) := ⟨_, rfl⟩
 rw [HCD.out]
 go_enter Tryz.func319, Tryz.ntmps319
 go_wp2_with fail
 refine (isNaNS_any a _).mono ?_
 rintro e _ ⟨rfl, rfl⟩
 go_wp2_with fail
 refine (isNaNS_any b _).mono ?_
 rintro e _ ⟨rfl, rfl⟩
 cases h1 : Op.bytesLess a.toList b.toList
 ·cases h2 : (a.toList == b.toList)
  ·have HC : Hid (cd = 1) := by unfold Hid; rw [← HCD.out]; unfold cmpS; rw [h1, h2]; rfl
   go_wp2
   go_ret
   exact ⟨by rw [HC.out]; rfl, rfl⟩
  ·have HC : Hid (cd = 0) := by unfold Hid; rw [← HCD.out]; unfold cmpS; rw [h1, h2]; rfl
   go_wp2
   go_ret
   exact ⟨by rw [HC.out]; rfl, rfl⟩
 ·have HC : Hid (cd = -1) := by unfold Hid; rw [← HCD.out]; unfold cmpS; rw [h1]; rfl
  go_wp2
  go_ret
  exact ⟨by rw [HC.out]; rfl, rfl⟩
set_option maxRecDepth 100000 in
set_option maxHeartbeats 2000000 in
theorem cmpC_any (x : Cp) (nm : ByteArray) (w : World) : Calls Tryz.prog 350 #[.agg #[.string x.service, .int .i64 x.number, .int .i64 x.version, .int .i64 x.image, .int .i64 x.state, .bool x.ending, .string x.berth], .string nm] w fun e w' => e = .returned (.int .i64 (cmpS x.service nm)) ∧ Below w.heap.size w w' := by
 obtain ⟨W0, hW0⟩ : ∃ W, w.alloc (.cells #[.string x.service, .int .i64 x.number, .int .i64 x.version, .int .i64 x.image, .int .i64 x.state, .bool x.ending, .string x.berth] 149) = W := ⟨_, rfl⟩
 have hb0 := below_box w (.cells #[.string x.service, .int .i64 x.number, .int .i64 x.version, .int .i64 x.image, .int .i64 x.state, .bool x.ending, .string x.berth] 149)
 have t0 := heap_alloc_new w (.cells #[.string x.service, .int .i64 x.number, .int .i64 x.version, .int .i64 x.image, .int .i64 x.state, .bool x.ending, .string x.berth] 149)
 rw [hW0] at hb0 t0
 have e0 := blk_cell t0 0 rfl
 clear t0
 go_enter Tryz.func350, Tryz.ntmps350
 go_upto_region 1 with fail
 clear hW0
 go_wp2_with fail
 refine (cmpStr_any x.service nm W0).mono ?_
 rintro e _ ⟨rfl, rfl⟩
 clear e0
 go_wp2
 go_ret
 exact ⟨rfl, hb0⟩
def RiseC (l : List Cp) : Prop := ∀ (i j : Nat) s t, i < j → l[i]? = some s → l[j]? = some t → Op.bytesLess t.service.toList s.service.toList = false
theorem less_of_not {a b c : List UInt8} (h : Op.bytesLess b a = false) (h2 : Op.bytesLess b c = true) : Op.bytesLess a c = true := by
 have t := bytesLess_tri a b
 rw [h] at t
 simp only [Bool.not_false, Bool.or_eq_true] at t
 rcases t with t | t
 ·exact bytesLess_trans _ _ _ t h2
 ·rw [eq_of_beq t]; exact h2
theorem not_of_not {a b c : List UInt8} (h : Op.bytesLess b a = false) (h2 : Op.bytesLess a c = false) : Op.bytesLess b c = false := by
 cases hb : Op.bytesLess b c
 ·rfl
 ·rw [less_of_not h hb] at h2; cases h2
theorem ahead_not_less {a b : Cp} (h : aheadB a b = true) : Op.bytesLess b.service.toList a.service.toList = false := by
 unfold aheadB at h
 simp only [Bool.or_eq_true, Bool.and_eq_true] at h
 rcases h with h | h
 ·have t := bytesLess_tri b.service.toList a.service.toList
  rw [h] at t
  simp only [Bool.not_true, Bool.or_eq_false_iff] at t
  exact t.1
 ·rw [eq_of_beq h.1]; exact bytesLess_irrefl _
theorem riseC_of {B : Bk} (h : Valid B) : RiseC B.cps := by
 have step : ∀ (k : Nat) s t, B.cps[k]? = some s → B.cps[k + 1]? = some t → Op.bytesLess t.service.toList s.service.toList = false := by
  intro k s t hs ht
  have h1 := cpAt_of h.cps (k + 1) (List.getElem?_eq_some_iff.1 ht).1
  unfold cpAtB at h1
  rw [ht] at h1
  simp only [Nat.add_sub_cancel, hs, Bool.and_eq_true, Bool.or_eq_true] at h1
  have h2 : aheadB s t = true := by
   rcases h1.2 with h | h
   ·exact absurd h (by simp)
   ·exact h
  exact ahead_not_less h2
 intro i j s t hij hs ht
 obtain ⟨d, rfl⟩ : ∃ d, j = i + 1 + d := ⟨j - (i + 1), by omega⟩
 clear hij
 induction d generalizing t with
 | zero => exact step i s t hs ht
 | succ d ih =>
  have hlt := (List.getElem?_eq_some_iff.1 ht).1
  obtain ⟨u, hu⟩ : ∃ u, B.cps[i + 1 + d]? = some u := ⟨B.cps[i + 1 + d]'(by omega), by rw [List.getElem?_eq_getElem]⟩
  exact not_of_not (step (i + 1 + d) u t hu (by rw [← ht]; rfl)) (ih u hu)
set_option maxRecDepth 100000 in
set_option maxHeartbeats 16000000 in
theorem bsC_any (l : List Cp) (nm : ByteArray) (ao : Option Addr) (n cap : Nat) (w : World) (HN : Hid (l.length = n)) (hl : n ≤ 1048576) (HSO : Hid (RiseC l)) (HC : Hid (SlC w ao l)) :
  Calls Tryz.prog 349 #[.slice ao n cap, .string nm, .func (.func 350) #[] #[]] w fun e w' => ∃ (k : Nat) (fd : Bool), e = .returned (.tuple #[.int .i64 k, .bool fd]) ∧ k ≤ n ∧ (∀ (i : Nat) s, i < k → l[i]? = some s → Op.bytesLess s.service.toList nm.toList = true) ∧ (∀ (i : Nat) s, k ≤ i → l[i]? = some s → Op.bytesLess s.service.toList nm.toList = false) ∧ Below w.heap.size w w' := by
 go_enter Tryz.func349, Tryz.ntmps349
 go_wp2
 go_loopw [9, 10] (fun iv jv wr => ∃ (i j : Nat), i ≤ j ∧ j ≤ n ∧ iv = .int .i64 i ∧ jv = .int .i64 j ∧ Below w.heap.size w wr ∧ Hid (∀ (q : Nat) s, q < i → l[q]? = some s → Op.bytesLess s.service.toList nm.toList = true) ∧ Hid (∀ (q : Nat) s, j ≤ q → l[q]? = some s → Op.bytesLess s.service.toList nm.toList = false)) (fun i j _ => (intOf j).toNat - (intOf i).toNat)
 case atStart => exact ⟨0, n, by omega, by omega, rfl, rfl, Below.refl _ _, fun q s hq => absurd hq (by omega), fun q s hq hs => absurd (List.getElem?_eq_some_iff.1 hs).1 (by rw [HN.out]; omega)⟩
 case round =>
  obtain ⟨i, j, hij, hjn, rfl, rfl, hb, HL, HG⟩ := hrel
  by_cases hlt : i < j
  ·have hne : l ≠ [] := by intro h; have := HN.out; rw [h] at this; simp at this; omega
   obtain ⟨g, off, rfl, hgl, hat⟩ := HC.out hne
   have HAT : Hid (CpsAt w g off l) := hat
   clear hat
   go_upto_region 5 with fail
   obtain ⟨h, hh⟩ : ∃ h : Nat, ((i : Int) + (j : Int)) / 2 = (h : Int) := ⟨(i + j) / 2, by omega⟩
   have h1 : i ≤ h := by omega
   have h2 : h < j := by omega
   rw [hh]
   clear hh
   obtain ⟨s, hs⟩ : ∃ s, l[h]? = some s := ⟨l[h]'(by rw [HN.out]; omega), by rw [List.getElem?_eq_getElem]⟩
   have HLS : Hid (l[h]? = some s) := hs
   have hcs := (HAT.out h s hs).below hb hgl
   clear hs
   unfold CpAt at hcs
   obtain ⟨x0, x1, x2, x3, x4, x5, x6⟩ := hcs
   go_wp2_with fail
   refine (cmpC_any s nm _).mono ?_
   rintro e w2 ⟨rfl, hbq⟩
   have hb2 := hb.trans (hbq.mono hb.size)
   clear hbq x0 x1 x2 x3 x4 x5 x6
   cases hle : Op.bytesLess s.service.toList nm.toList
   ·have h0 : ¬ (cmpS s.service nm < 0) := by unfold cmpS; rw [hle]; simp only [Bool.false_eq_true, if_false]; split <;> omega
    go_wp2
    go_roundw
    case rel => exact ⟨i, h, by omega, by omega, (by first | rfl | trivial), (by first | rfl | trivial), hb2, HL, fun q t hq ht => by
     rcases Nat.lt_or_ge h q with hlt' | hge
     ·exact not_of_not (HSO.out h q s t hlt' HLS.out ht) hle
     ·rw [show q = h by omega, HLS.out] at ht
      cases ht
      exact hle⟩
    case measure => simp [intOf]; omega
   ·have h0 : cmpS s.service nm < 0 := by unfold cmpS; rw [hle]; simp
    go_wp2
    go_roundw
    case rel => exact ⟨h + 1, j, by omega, by omega, by go_num, (by first | rfl | trivial), hb2, fun q t hq ht => by
     rcases Nat.lt_or_ge q h with hlt' | hge
     ·exact less_of_not (HSO.out q h t s hlt' ht HLS.out) hle
     ·rw [show q = h by omega, HLS.out] at ht
      cases ht
      exact hle, HG⟩
    case measure => simp [intOf]; omega
  ·obtain rfl : i = j := by omega
   by_cases hin : i < n
   ·have hne : l ≠ [] := by intro h; have := HN.out; rw [h] at this; simp at this; omega
    obtain ⟨g, off, rfl, hgl, hat⟩ := HC.out hne
    obtain ⟨s, hs⟩ : ∃ s, l[i]? = some s := ⟨l[i]'(by rw [HN.out]; omega), by rw [List.getElem?_eq_getElem]⟩
    have hcs := (hat i s hs).below hb hgl
    clear hs hat
    unfold CpAt at hcs
    obtain ⟨x0, x1, x2, x3, x4, x5, x6⟩ := hcs
    go_upto_region 8 with fail
    go_wp2_with fail
    refine (cmpC_any s nm _).mono ?_
    rintro e w2 ⟨rfl, hbq⟩
    have hb2 := hb.trans (hbq.mono hb.size)
    clear hbq x0 x1 x2 x3 x4 x5 x6
    go_wp2
    exact bodyPost_ret (by simp [results, Tryz.results349, go_sem]; rfl) rfl ⟨i, _, rfl, by omega, HL.out, HG.out, hb2⟩
   ·go_wp2
    exact bodyPost_ret (v := .tuple #[.int .i64 i, .bool false]) (by simp [results, Tryz.results349, go_sem]) rfl ⟨i, false, rfl, by omega, HL.out, HG.out, hb⟩
end Go.Proofs.YtbceafpodamnfabGreatDoor
