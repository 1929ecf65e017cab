/-
  My own: Wv, Di, Lg, Pa, Sk.
-/
import Derived.Test.YtbceafpodamnfabG03
import Derived.Test.YtbceafpodamnfabG02
import Derived.StillTail
import Derived.Below
import Derived.Test.YtbceafpodamnfabG01
/-
  My own. The program's StewValid.
-/
namespace Go.Proofs.Ytbceafpodamnfab
open Go.RowKit Go.Sort Go.Maps

def bkP (B : Bk) : Nat → Bool
  | 0 => inB B.now 0 1000000
  | 1 => decide (B.svcs.length ≤ 8) && decide (B.cps.length ≤ 200) && decide (B.bts.length ≤ 6)
  | 2 => allTo (svcAtB B) B.svcs.length
  | 3 => allTo (btAtB B) B.bts.length
  | _ => allTo (cpAtB B) B.cps.length
theorem bkP_all (B : Bk) : allTo (bkP B) 5 = validB B := by
  have h : allTo (bkP B) 5 = (bkP B 0 && (bkP B 1 && (bkP B 2 && (bkP B 3 && (bkP B 4 && true))))) := rfl
  rw [h]
  simp only [bkP, validB, Bool.and_true, Bool.and_assoc]

theorem svcs_less {B : Bk} (h : ∀ i, i < B.svcs.length → svcAtB B i = true) : ∀ (j i : Nat) s t, i < j → B.svcs[i]? = some s → B.svcs[j]? = some t → Op.bytesLess s.name.toList t.name.toList = true
  | 0, i, _, _, hi, _, _ => absurd hi (by omega)
  | j + 1, i, s, t, hi, hs, ht => by
    have hlt : j + 1 < B.svcs.length := (List.getElem?_eq_some_iff.1 ht).1
    obtain ⟨p, hp⟩ : ∃ p, B.svcs[j]? = some p := ⟨B.svcs[j]'(by omega), by rw [List.getElem?_eq_getElem]⟩
    have h1 : Op.bytesLess p.name.toList t.name.toList = true := by
      have := h (j + 1) hlt
      unfold svcAtB at this
      rw [ht] at this
      simp [hp] at this
      exact this.2
    rcases Nat.lt_or_ge i j with h' | h'
    · exact bytesLess_trans _ _ _ (svcs_less h j i s p h' hs hp) h1
    · have e : i = j := by omega
      subst e
      rw [hp] at hs
      cases hs
      exact h1
theorem uniq_of {B : Bk} (h : allTo (svcAtB B) B.svcs.length = true) : uniqS B := fun i j s t hij hs ht e => by
  have h' : ∀ i, i < B.svcs.length → svcAtB B i = true := fun i hi => by
    unfold allTo at h; exact List.all_eq_true.1 h i (List.mem_range.2 hi)
  have := svcs_less h' j i s t hij hs ht
  rw [e, bytesLess_irrefl] at this
  cases this

theorem copiesHold_any (B : Bk) (a1 a2 a3 : Option Addr) (c1 c2 c3 : Nat) (w : World) (hS : B.small) (hZ : B.sized) (hU : uniqS B) (hB : BkAt w a1 a2 a3 B) :
    Calls Try.prog 66 #[.agg #[.int .i64 B.now, .slice a1 B.svcs.length c1, .slice a2 B.cps.length c2, .slice a3 B.bts.length c3]] w fun e w' => e = .returned (.bool (allTo (cpAtB B) B.cps.length)) ∧ Below w.heap.size w w' := by
  by_cases h : B.svcs = []
  · exact copiesHold_nil B a1 a2 a3 c1 c2 c3 w hS hZ hU hB h
  · exact copiesHold_cons B a1 a2 a3 c1 c2 c3 w hS hZ hU hB h

/-- The five checks lie at block b. -/
def FnsB (w : World) (b : Nat) : Prop := w.heap[b]? = some (.cells #[.func (.func 62) #[] #[], .func (.func 63) #[] #[], .func (.func 64) #[] #[], .func (.func 65) #[] #[], .func (.func 66) #[] #[]] 28 (0, 0))

set_option maxHeartbeats 4000000 in
theorem allHoldB_any (B : Bk) (a1 a2 a3 : Option Addr) (c1 c2 c3 : Nat) (b : Nat) (w : World) (hS : B.small) (hZ : B.sized) (hB : BkAt w a1 a2 a3 B) (hF : FnsB w b) :
    Calls Try.prog 30 #[.agg #[.int .i64 B.now, .slice a1 B.svcs.length c1, .slice a2 B.cps.length c2, .slice a3 B.bts.length c3], .slice (some ⟨b, 0, none⟩) 5 5] w fun e w' => e = .returned (.bool (allTo (bkP B) 5)) ∧ Below w.heap.size w w' := by
  have hbx := below_box w (.cells #[.int .i64 B.now, .slice a1 B.svcs.length c1, .slice a2 B.cps.length c2, .slice a3 B.bts.length c3] 33)
  have hbox : Hid _ := heap_alloc_new w (.cells #[.int .i64 B.now, .slice a1 B.svcs.length c1, .slice a2 B.cps.length c2, .slice a3 B.bts.length c3] 33)
  have hblt : b < w.heap.size := (Array.getElem?_eq_some_iff.1 hF).1
  have HF : Hid (FnsB w b) := hF
  clear hF
  go_enter Try.func30, Try.ntmps30
  go_wp2
  go_loopw [9] (fun iv wr => ∃ k : Nat, k ≤ 5 ∧ iv = .int .i64 k ∧ Below w.heap.size w wr ∧ Hid (wr.heap[w.heap.size]? = some (.cells #[.int .i64 B.now, .slice a1 B.svcs.length c1, .slice a2 B.cps.length c2, .slice a3 B.bts.length c3] 33 (0, 0))) ∧ Hid (∀ i, i < k → bkP B i = true)) (fun i _ => 5 - (intOf i).toNat)
  case atStart => exact ⟨0, by omega, rfl, hbx, hbox, fun i hi => absurd hi (by omega)⟩
  case round =>
    obtain ⟨k, hk, rfl, hb, hbox1, hall⟩ := hrel
    have hNlt : w.heap.size < wr.heap.size := (Array.getElem?_eq_some_iff.1 hbox1.out).1
    have hfn : Hid _ := below_blk hb HF.out hblt
    have x0 := blk_cell hbox1.out 0 rfl
    have x1 := blk_cell hbox1.out 1 rfl
    have x2 := blk_cell hbox1.out 2 rfl
    have x3 := blk_cell hbox1.out 3 rfl
    by_cases h0 : k = 0
    · subst h0
      have f0 := blk_cell hfn.out 0 rfl
      cases hv : (inB B.now 0 1000000)
      · have HV : Hid (bkP B 0 = false) := hv
        go_wp2_with fail
        refine (nowHolds_any B a1 a2 a3 c1 c2 c3 _).mono ?_
        rintro e w1 ⟨he, hb1⟩
        subst he
        have hb2 := hb.trans (hb1.mono hb.size)
        rw [hv]
        clear x0 x1 x2 x3 f0
        go_wp2
        go_ret
        exact ⟨ret_bool (allTo_no (by omega) HV.out).symm, hb2⟩
      · have HV : Hid (bkP B 0 = true) := hv
        go_wp2_with fail
        refine (nowHolds_any B a1 a2 a3 c1 c2 c3 _).mono ?_
        rintro e w1 ⟨he, hb1⟩
        subst he
        have hb2 := hb.trans (hb1.mono hb.size)
        have hbox2 : Hid _ := below_blk hb1 hbox1.out hNlt
        rw [hv]
        clear x0 x1 x2 x3 f0
        go_wp2
        go_roundw
        case rel => exact ⟨0 + 1, by omega, by go_num, hb2, hbox2, upTo_step hall.out HV.out⟩
        case measure => simp [intOf]
    by_cases h1 : k = 1
    · subst h1
      have f1 := blk_cell hfn.out 1 rfl
      cases hv : (decide (B.svcs.length ≤ 8) && decide (B.cps.length ≤ 200) && decide (B.bts.length ≤ 6))
      · have HV : Hid (bkP B 1 = false) := hv
        go_wp2_with fail
        refine (sizesHold_any B a1 a2 a3 c1 c2 c3 _ hS).mono ?_
        rintro e w1 ⟨he, hb1⟩
        subst he
        have hb2 := hb.trans (hb1.mono hb.size)
        rw [hv]
        clear x0 x1 x2 x3 f1
        go_wp2
        go_ret
        exact ⟨ret_bool (allTo_no (by omega) HV.out).symm, hb2⟩
      · have HV : Hid (bkP B 1 = true) := hv
        go_wp2_with fail
        refine (sizesHold_any B a1 a2 a3 c1 c2 c3 _ hS).mono ?_
        rintro e w1 ⟨he, hb1⟩
        subst he
        have hb2 := hb.trans (hb1.mono hb.size)
        have hbox2 : Hid _ := below_blk hb1 hbox1.out hNlt
        rw [hv]
        clear x0 x1 x2 x3 f1
        go_wp2
        go_roundw
        case rel => exact ⟨1 + 1, by omega, by go_num, hb2, hbox2, upTo_step hall.out HV.out⟩
        case measure => simp [intOf]
    by_cases h2 : k = 2
    · subst h2
      have f2 := blk_cell hfn.out 2 rfl
      cases hv : (allTo (svcAtB B) B.svcs.length)
      · have HV : Hid (bkP B 2 = false) := hv
        go_wp2_with fail
        refine (servicesHold_any B a1 a2 a3 c1 c2 c3 _ hS hZ (hB.below hb)).mono ?_
        rintro e w1 ⟨he, hb1⟩
        subst he
        have hb2 := hb.trans (hb1.mono hb.size)
        rw [hv]
        clear x0 x1 x2 x3 f2
        go_wp2
        go_ret
        exact ⟨ret_bool (allTo_no (by omega) HV.out).symm, hb2⟩
      · have HV : Hid (bkP B 2 = true) := hv
        go_wp2_with fail
        refine (servicesHold_any B a1 a2 a3 c1 c2 c3 _ hS hZ (hB.below hb)).mono ?_
        rintro e w1 ⟨he, hb1⟩
        subst he
        have hb2 := hb.trans (hb1.mono hb.size)
        have hbox2 : Hid _ := below_blk hb1 hbox1.out hNlt
        rw [hv]
        clear x0 x1 x2 x3 f2
        go_wp2
        go_roundw
        case rel => exact ⟨2 + 1, by omega, by go_num, hb2, hbox2, upTo_step hall.out HV.out⟩
        case measure => simp [intOf]
    by_cases h3 : k = 3
    · subst h3
      have f3 := blk_cell hfn.out 3 rfl
      cases hv : (allTo (btAtB B) B.bts.length)
      · have HV : Hid (bkP B 3 = false) := hv
        go_wp2_with fail
        refine (berthsHold_any B a1 a2 a3 c1 c2 c3 _ hS hZ (hB.below hb)).mono ?_
        rintro e w1 ⟨he, hb1⟩
        subst he
        have hb2 := hb.trans (hb1.mono hb.size)
        rw [hv]
        clear x0 x1 x2 x3 f3
        go_wp2
        go_ret
        exact ⟨ret_bool (allTo_no (by omega) HV.out).symm, hb2⟩
      · have HV : Hid (bkP B 3 = true) := hv
        go_wp2_with fail
        refine (berthsHold_any B a1 a2 a3 c1 c2 c3 _ hS hZ (hB.below hb)).mono ?_
        rintro e w1 ⟨he, hb1⟩
        subst he
        have hb2 := hb.trans (hb1.mono hb.size)
        have hbox2 : Hid _ := below_blk hb1 hbox1.out hNlt
        rw [hv]
        clear x0 x1 x2 x3 f3
        go_wp2
        go_roundw
        case rel => exact ⟨3 + 1, by omega, by go_num, hb2, hbox2, upTo_step hall.out HV.out⟩
        case measure => simp [intOf]
    by_cases h4 : k = 4
    · subst h4
      have f4 := blk_cell hfn.out 4 rfl
      cases hv : (allTo (cpAtB B) B.cps.length)
      · have HV : Hid (bkP B 4 = false) := hv
        go_wp2_with fail
        refine (copiesHold_any B a1 a2 a3 c1 c2 c3 _ hS hZ (uniq_of (hall.out 2 (by omega))) (hB.below hb)).mono ?_
        rintro e w1 ⟨he, hb1⟩
        subst he
        have hb2 := hb.trans (hb1.mono hb.size)
        rw [hv]
        clear x0 x1 x2 x3 f4
        go_wp2
        go_ret
        exact ⟨ret_bool (allTo_no (by omega) HV.out).symm, hb2⟩
      · have HV : Hid (bkP B 4 = true) := hv
        go_wp2_with fail
        refine (copiesHold_any B a1 a2 a3 c1 c2 c3 _ hS hZ (uniq_of (hall.out 2 (by omega))) (hB.below hb)).mono ?_
        rintro e w1 ⟨he, hb1⟩
        subst he
        have hb2 := hb.trans (hb1.mono hb.size)
        have hbox2 : Hid _ := below_blk hb1 hbox1.out hNlt
        rw [hv]
        clear x0 x1 x2 x3 f4
        go_wp2
        go_roundw
        case rel => exact ⟨4 + 1, by omega, by go_num, hb2, hbox2, upTo_step hall.out HV.out⟩
        case measure => simp [intOf]
    · have h5 : k = 5 := by omega
      subst h5
      clear x0 x1 x2 x3
      go_wp2
      go_ret
      exact ⟨ret_bool (allTo_yes hall.out).symm, hb⟩

set_option maxHeartbeats 1000000 in
theorem implValid_any (B : Bk) (a1 a2 a3 : Option Addr) (c1 c2 c3 : Nat) (w : World) (hS : B.small) (hZ : B.sized) (hB : BkAt w a1 a2 a3 B) :
    Calls Try.prog 31 #[.agg #[.int .i64 B.now, .slice a1 B.svcs.length c1, .slice a2 B.cps.length c2, .slice a3 B.bts.length c3]] w fun e w' => e = .returned (.bool (validB B)) ∧ Below w.heap.size w w' := by
  obtain ⟨t0, t1, t2⟩ := two_new w (.cells #[.int .i64 B.now, .slice a1 B.svcs.length c1, .slice a2 B.cps.length c2, .slice a3 B.bts.length c3] 33) (.cells #[.func (.func 62) #[] #[], .func (.func 63) #[] #[], .func (.func 64) #[] #[], .func (.func 65) #[] #[], .func (.func 66) #[] #[]] 28)
  have hb0 : Below w.heap.size w ((w.alloc (.cells #[.int .i64 B.now, .slice a1 B.svcs.length c1, .slice a2 B.cps.length c2, .slice a3 B.bts.length c3] 33)).alloc (.cells #[.func (.func 62) #[] #[], .func (.func 63) #[] #[], .func (.func 64) #[] #[], .func (.func 65) #[] #[], .func (.func 66) #[] #[]] 28)) := ((Below.refl _ _).alloc (Nat.le_refl _) _).alloc (by simp) _
  have T1 : Hid _ := t1
  clear t0 t1 t2
  go_enter Try.func31, Try.ntmps31
  go_wp2_with fail
  refine (allHoldB_any B a1 a2 a3 c1 c2 c3 (w.heap.size + 1) _ hS hZ (hB.below hb0) T1.out).mono ?_
  rintro e w1 ⟨rfl, hb1⟩
  rw [bkP_all]
  go_wp2
  go_ret
  exact ⟨rfl, hb0.trans (hb1.mono hb0.size)⟩

end Go.Proofs.Ytbceafpodamnfab

/-
  My own. Plain data, more: what a valid book tells.
-/
namespace Go.Proofs.Ytbceafpodamnfab
open Go.RowKit

theorem same_nm {a b : ByteArray} : (a.toList == b.toList) = true ↔ a = b := by
  rw [beq_iff_eq, ByteArray.toList_eq, ByteArray.toList_eq]
  constructor
  · intro h
    cases a; cases b
    simp only [ByteArray.mk.injEq]
    exact Array.toList_inj.1 h
  · intro h; rw [h]

theorem cpAt_of {B : Bk} (h : allTo (cpAtB B) B.cps.length = true) : ∀ i, i < B.cps.length → cpAtB B i = true := fun i hi => by
  unfold allTo at h; exact List.all_eq_true.1 h i (List.mem_range.2 hi)

theorem cpB_of {B : Bk} (h : allTo (cpAtB B) B.cps.length = true) {c : Cp} (hc : c ∈ B.cps) : cpB B c = true := by
  obtain ⟨i, hi⟩ := List.getElem?_of_mem hc
  have := cpAt_of h i (List.getElem?_eq_some_iff.1 hi).1
  unfold cpAtB at this
  rw [hi] at this
  simp only [Bool.and_eq_true] at this
  exact this.1

theorem svcB_of {B : Bk} (h : allTo (svcAtB B) B.svcs.length = true) {s : Svc} (hs : s ∈ B.svcs) : svcB B.now s = true := by
  obtain ⟨i, hi⟩ := List.getElem?_of_mem hs
  have h1 : svcAtB B i = true := by unfold allTo at h; exact List.all_eq_true.1 h i (List.mem_range.2 (List.getElem?_eq_some_iff.1 hi).1)
  unfold svcAtB at h1
  rw [hi] at h1
  simp only [Bool.and_eq_true] at h1
  exact h1.1

structure Valid (B : Bk) : Prop where
  now : inB B.now 0 1000000 = true
  ls : B.svcs.length ≤ 8
  lc : B.cps.length ≤ 200
  lb : B.bts.length ≤ 6
  svcs : allTo (svcAtB B) B.svcs.length = true
  bts : allTo (btAtB B) B.bts.length = true
  cps : allTo (cpAtB B) B.cps.length = true

theorem validB_iff {B : Bk} : validB B = true ↔ Valid B := by
  unfold validB
  simp only [Bool.and_eq_true, decide_eq_true_eq]
  exact ⟨fun ⟨⟨⟨⟨⟨⟨a, b⟩, c⟩, d⟩, e⟩, f⟩, g⟩ => ⟨a, b, c, d, e, f, g⟩, fun h => ⟨⟨⟨⟨⟨⟨h.now, h.ls⟩, h.lc⟩, h.lb⟩, h.svcs⟩, h.bts⟩, h.cps⟩⟩

theorem inB_iff {n lo hi : Int} : inB n lo hi = true ↔ lo ≤ n ∧ n ≤ hi := by
  unfold inB
  simp

theorem Valid.svc {B : Bk} (h : Valid B) {c : Cp} (hc : c ∈ B.cps) : ∃ s, svcOf B c.service = some s ∧ cpOk B.now s c = true := by
  have := cpB_of h.cps hc
  unfold cpB at this
  cases hs : svcOf B c.service with
  | none => rw [hs] at this; cases this
  | some s => rw [hs] at this; simp only [Bool.and_eq_true] at this; exact ⟨s, rfl, this.1⟩

theorem svcOf_mem {B : Bk} {x : ByteArray} {s : Svc} (h : svcOf B x = some s) : s ∈ B.svcs := List.mem_of_find?_eq_some h

structure SvcIn (s : Svc) : Prop where
  want0 : 0 ≤ s.want
  want1 : s.want ≤ 10
  down0 : 0 ≤ s.down
  down1 : s.down ≤ 10
  over0 : 0 ≤ s.over
  over1 : s.over ≤ 10
  next0 : 1 ≤ s.next
  next1 : s.next ≤ 1000000

theorem Valid.svcIn {B : Bk} (h : Valid B) {s : Svc} (hs : s ∈ B.svcs) : SvcIn s := by
  have := svcB_of h.svcs hs
  unfold svcB at this
  simp only [Bool.and_eq_true, inB_iff] at this
  obtain ⟨⟨⟨⟨⟨⟨_, h1⟩, h2⟩, h3⟩, h4⟩, _⟩, _⟩ := this
  exact ⟨h2.1, h2.2, h3.1, h3.2, h4.1, h4.2, h1.1, h1.2⟩

end Go.Proofs.Ytbceafpodamnfab

/-
  My own. Regions that draw their order and whose operations only let the world grow: one walk, operation by operation.
-/
namespace Go.Proofs.Ytbceafpodamnfab
open Go Go.RowKit

section
variable {P : Program} {ops : Array Oper} {md : Region.Mode} {Q : Exit → Act → World → Prop}

/-- The frame with what each of the first n operations gave. -/
def putAll (ops : Array Oper) (V : Nat → Value) : Nat → Act → Act
  | 0, a => a
  | n + 1, a => (putAll ops V n a).put ((ops[n]?).bind (·.dst)) (V n)

def upd (V : Nat → Value) (i : Nat) (v : Value) : Nat → Value := fun j => if j = i then v else V j

theorem put_put (a : Act) (d : Option Tmp) (u v : Value) : (a.put d u).put d v = a.put d v := by
  cases d <;> simp [Act.put]

theorem putAll_off (V : Nat → Value) (i : Nat) (v : Value) (a : Act) : ∀ n, n ≤ i → putAll ops (upd V i v) n a = putAll ops V n a
  | 0, _ => rfl
  | n + 1, h => by
    have e : upd V i v n = V n := by simp [upd]; omega
    simp only [putAll, e, putAll_off V i v a n (by omega)]

/-- Each of the first n operations has a place of its own. -/
def ownDst (ops : Array Oper) (n : Nat) : Bool :=
  (List.range n).all fun j => (List.range j).all fun i => match (ops[i]?).bind (·.dst) with
    | some d => (ops[j]?).bind (·.dst) != some d
    | none => true

theorem ownDst_spec {n : Nat} (h : ownDst ops n = true) {i j : Nat} (hij : i < j) (hj : j < n) : ∀ d, (ops[i]?).bind (·.dst) = some d → (ops[j]?).bind (·.dst) ≠ some d := by
  intro d hd
  have h1 := List.all_eq_true.1 (List.all_eq_true.1 h j (List.mem_range.2 hj)) i (List.mem_range.2 hij)
  rw [hd] at h1
  simpa using h1

theorem putAll_upd {V : Nat → Value} {i : Nat} {v : Value} {a : Act} : ∀ {n : Nat}, ownDst ops n = true → i < n → (putAll ops V n a).put ((ops[i]?).bind (·.dst)) v = putAll ops (upd V i v) n a
  | 0, _, h => absurd h (by omega)
  | n + 1, ho, h => by
    have ho' : ownDst ops n = true := by
      unfold ownDst at ho ⊢
      refine List.all_eq_true.2 fun j hj => List.all_eq_true.1 ho j (List.mem_range.2 (by have := List.mem_range.1 hj; omega))
    by_cases hi : i = n
    · subst hi
      simp only [putAll, put_put, putAll_off V i v a i (Nat.le_refl _)]
      simp [upd]
    · have e : upd V i v n = V n := by simp [upd]; omega
      simp only [putAll, e]
      rw [← putAll_upd (V := V) (i := i) (v := v) (a := a) ho' (by omega)]
      exact (Act.put_comm _ _ _ (ownDst_spec ho (by omega) (by omega))).symm

theorem putAll_self (a : Act) (n : Nat) : putAll ops (fun j => match (ops[j]?).bind (·.dst) with | some d => a.tmps.getD d undef | none => undef) n a = a := by
  induction n with
  | zero => rfl
  | succ n ih =>
    simp only [putAll, ih]
    cases (ops[n]?).bind (·.dst) with
    | none => rfl
    | some d =>
      simp only [Act.put]
      congr 1
      apply Array.ext
      · simp
      · intro i h1 h2
        by_cases hid : d = i
        · subst hid; simp [h2]
        · rw [Array.getElem_setIfInBounds_ne (h := hid)]

/-- How many of the first n have not come up. -/
def leftOf (n : Nat) (listed : Array Bool) : Nat := (List.range n).countP fun i => !listed.getD i true

theorem countP_but (p : Nat → Bool) (i : Nat) (hp : p i = true) : ∀ l : List Nat, l.Nodup → i ∈ l → l.countP p = l.countP (fun j => p j && j != i) + 1
  | [], _, h => by cases h
  | x :: l, hn, h => by
    rw [List.nodup_cons] at hn
    by_cases hx : x = i
    · subst hx
      have : l.countP (fun j => p j && j != x) = l.countP p := by
        refine List.countP_congr fun j hj => ?_
        have : j ≠ x := fun e => hn.1 (e ▸ hj)
        simp [this]
      rw [List.countP_cons, List.countP_cons, this]
      simp [hp]
    · have hm : i ∈ l := by rcases List.mem_cons.1 h with h | h; exact absurd h.symm hx; exact h
      have ih := countP_but p i hp l hn.2 hm
      rw [List.countP_cons, List.countP_cons, ih]
      have : (x != i) = true := by simpa using hx
      rw [this, Bool.and_true]
      omega

theorem leftOf_set {n i : Nat} {listed : Array Bool} (hi : i < n) (hs : i < listed.size) (hu : listed.getD i true = false) : leftOf n listed = leftOf n (listed.setIfInBounds i true) + 1 := by
  unfold leftOf
  rw [countP_but _ i (by simp only [hu]; rfl) _ List.nodup_range (List.mem_range.2 hi)]
  congr 1
  refine List.countP_congr fun j hj => ?_
  by_cases hji : j = i
  · subst hji
    have : (listed.setIfInBounds j true).getD j true = true := by simp [hs]
    simp
  · rw [getD_set_ne true (Ne.symm hji)]
    simp [hji]

/-- Nothing waits for what comes later. -/
def depsB (md : Region.Mode) (ops : Array Oper) (n : Nat) : Bool :=
  (List.range n).all fun i => match ops[i]? with
    | some o => o.after.all fun e => !Region.binds md e || decide (e.on < i)
    | none => false

def firstN (ops : Array Oper) (n : Nat) : Array Bool := Array.ofFn (n := ops.size) fun i => decide (i.val < n)

theorem listed_firstN {n : Nat} {listed : Array Bool} (inv : HeadInv md ops n listed) (hall : ∀ i, i < n → listed.getD i true = true) : listed = firstN ops n := by
  apply Array.ext
  · simp [firstN, inv.size]
  · intro i h1 h2
    simp only [firstN, Array.getElem_ofFn]
    by_cases hi : i < n
    · have := hall i hi
      simp [h1] at this
      simp [this, hi]
    · have := inv.tail i (by omega) (by rw [← inv.size]; exact h1)
      simp [h1] at this
      simp [this, hi]

theorem least_ready {n : Nat} {listed : Array Bool} (hdB : depsB md ops n = true) (inv : HeadInv md ops n listed) : ∀ (i : Nat), i < n → listed.getD i true = false → Region.ready md ops listed ≠ [] := by
  intro i
  induction i using Nat.strongRecOn with
  | _ i ih =>
    intro hi hu
    have h1 := List.all_eq_true.1 hdB i (List.mem_range.2 hi)
    cases ho : ops[i]? with
    | none => rw [ho] at h1; cases h1
    | some o =>
      rw [ho] at h1
      by_cases hall : ∀ e ∈ o.after, Region.binds md e = true → listed.getD e.on false = true
      · have : i ∈ Region.ready md ops listed := mem_ready.2 ⟨hu, o, ho, hall⟩
        intro h; rw [h] at this; cases this
      · simp only [Classical.not_forall] at hall
        obtain ⟨e, he, hb, hl⟩ := hall
        have h2 := Array.all_eq_true'.1 h1 e he
        rw [hb] at h2
        have h3 : e.on < i := by simpa using h2
        refine ih e.on h3 (by omega) ?_
        have hsz : e.on < listed.size := by
          have := (Array.getElem?_eq_some_iff.1 ho).1
          rw [inv.size]; omega
        exact getD_in hsz (by simpa using hl)

/-- One operation alone, and what is asked behind it; it may not stop otherwise. -/
def KPost (K : Act → World → Prop) : Exit → Act → World → Prop
  | .normal, a, w => K a w
  | _, _, _ => False

theorem KPost_in {K : Act → World → Prop} {a : Act} {w : World} (h : K a w) : KPost K .normal a w := h

theorem Oper.wp_only {o : Oper} {a : Act} {w : World} {L K : Act → World → Prop} (hh : o.wp P a w L (KPost K)) : o.wp P a w L Q := by
  unfold Oper.wp at *
  generalize (execOp a.eval o).run P w = r at *
  cases r with
  | ok n w' =>
    cases n <;> simp only [Oper.upon] at hh ⊢ <;>
      first
        | exact hh
        | exact Calls.mono hh (fun e w'' he => by cases e <;> first | exact he | exact False.elim he | exact (let ⟨_, _, h⟩ := he; False.elim h))
  | halt x w' => cases x <;> simp only [Oper.upon] at hh ⊢ <;> first | exact hh | exact False.elim hh

theorem wpOp_of_list {i : Nat} {o : Oper} {a : Act} {W : World} {K : Act → World → Prop} (hi : ops[i]? = some o) (h : wpList P ops (KPost K) [o] a W) : wpOp P ops Q i K a W := by
  unfold wpOp
  simp only [hi]
  simp only [wpList] at h
  split at h
  · rename_i hw
    rw [if_pos hw]
    rcases h with h | ⟨_, _, _, h2⟩
    · exact .inl (Oper.wp_only (Go.Oper.wp_mono (fun _ _ h => h) h))
    · exact False.elim h2
  · rename_i hw
    rw [if_neg hw]
    exact h

/-- What operation i must do where S holds of what the others left: give a value of which T holds, in a world that has only grown. -/
def GrowOp (P : Program) (ops : Array Oper) (a0 : Act) (n : Nat) (w0 : World) (S : Nat → Value → World → Prop) (i : Nat) (o : Oper) (T : Value → World → Prop) : Prop :=
  ∀ (V : Nat → Value) (W : World) (K : Act → World → Prop), Below w0.heap.size w0 W → (∀ j, Region.waitsFor .any ops i j = true → S j (V j) W) →
    Hid (∀ v W', Below W.heap.size W W' → T v W' → K ((putAll ops V n a0).put o.dst v) W') → wpList P ops (KPost K) [o] (putAll ops V n a0) W

def Lasts (T : Value → World → Prop) : Prop := ∀ v W W', T v W → Below W.heap.size W W' → T v W'

theorem wpAny_grow {n g : Nat} {S : Nat → Value → World → Prop} {w0 : World} {a0 : Act}
    (hw : ∀ listed, HeadInv .any ops n listed → ∀ i, i < n → listed.getD i true = false → ∀ t, n ≤ t → t ∉ Region.ready .any ops listed)
    (hn : n ≤ ops.size) (hdB : depsB .any ops n = true) (hd : ownDst ops n = true)
    (hst : ∀ j, Lasts (S j))
    (hop : ∀ i o, i < n → ops[i]? = some o → GrowOp P ops a0 n w0 S i o (S i))
    (hlast : ∀ V W, Below w0.heap.size w0 W → (∀ j, j < n → S j (V j) W) → wpAny P .any ops Q g (firstN ops n) (putAll ops V n a0) W) :
    ∀ (m : Nat) (listed : Array Bool) (V : Nat → Value) (W : World), HeadInv .any ops n listed → leftOf n listed = m → Below w0.heap.size w0 W → (∀ j, j < n → listed.getD j false = true → S j (V j) W) →
      wpAny P .any ops Q (m + g) listed (putAll ops V n a0) W
  | 0, listed, V, W, inv, hm, hb, hS => by
    have hall : ∀ i, i < n → listed.getD i true = true := by
      intro i hi
      have := List.countP_eq_zero.1 hm i (List.mem_range.2 hi)
      simpa using this
    rw [listed_firstN inv hall, Nat.zero_add]
    refine hlast V W hb fun j hj => hS j hj ?_
    have := hall j hj
    have hjs : j < listed.size := by rw [inv.size]; omega
    simp [hjs] at this ⊢
    exact this
  | m + 1, listed, V, W, inv, hm, hb, hS => by
    obtain ⟨u, hu, hul⟩ : ∃ u, u < n ∧ listed.getD u true = false := by
      have : 0 < leftOf n listed := by omega
      obtain ⟨u, hu, hul⟩ := List.countP_pos_iff.1 this
      exact ⟨u, List.mem_range.1 hu, by simpa using hul⟩
    rw [show m + 1 + g = (m + g) + 1 by omega]
    refine ⟨fun h0 => absurd h0 (least_ready hdB inv u hu hul), fun i hi => ?_⟩
    have hin : i < n := by
      rcases Nat.lt_or_ge i n with h | h
      · exact h
      · exact absurd hi (hw listed inv u hu hul i h)
    obtain ⟨hun, o, ho, hall⟩ := mem_ready.1 hi
    refine wpOp_of_list ho (hop i o hin ho V W _ hb (fun j hj => ?_) fun v W' hb' hs' => ?_)
    · obtain ⟨oj, hoj, e, he, hbd, hon⟩ := Region.waitsFor_spec hj
      have : oj = o := Option.some.inj (hoj.symm.trans ho)
      subst this
      have hl := hall e he hbd
      rw [hon] at hl
      have hlt : j < n := by
        have h1 := List.all_eq_true.1 hdB i (List.mem_range.2 hin)
        rw [ho] at h1
        have h2 := Array.all_eq_true'.1 h1 e he
        rw [hbd] at h2
        have h3 : e.on < i := by simpa using h2
        omega
      exact hS j hlt hl
    · have hdst : o.dst = (ops[i]?).bind (·.dst) := by rw [ho]; rfl
      rw [hdst, putAll_upd hd hin]
      have his : i < listed.size := by rw [inv.size]; exact (Array.getElem?_eq_some_iff.1 ho).1
      refine wpAny_grow hw hn hdB hd hst hop hlast m _ _ W' (inv.set hi hin) (by have := leftOf_set hin his hun; omega) (hb.trans ⟨hb'.os, hb'.tape, hb'.output, hb'.size, fun k hk => hb'.block k (Nat.lt_of_lt_of_le hk hb.size)⟩) fun j hj hl => ?_
      by_cases hji : j = i
      · subst hji
        simpa [upd] using hs'
      · rw [getD_set_ne false (Ne.symm hji)] at hl
        have := hst j (V j) W W' (hS j hj hl) hb'
        simpa [upd, hji] using this

/-- What a region with a tail must keep to. -/
def growTailB (ops : Array Oper) (n : Nat) : Bool :=
  decide (n < ops.size) && Region.sinkB .any ops n && Region.chainB .any ops n && depsB .any ops n && ownDst ops n && Region.seqB .any ops (ops.size - n) n (firstN ops n)

theorem wp_region_grow {id : Nat} {a : Act} {w : World} {l : List Oper} (n : Nat) (S : Nat → Value → World → Prop) (hm : P.follows .mixedOrders = true) (hB : growTailB l.toArray n = true)
    (hst : ∀ j, Lasts (S j)) (hop : ∀ i o, i < n → l.toArray[i]? = some o → GrowOp P l.toArray a n w S i o (S i))
    (hlast : ∀ V W, Below w.heap.size w W → (∀ j, j < n → S j (V j) W) → wpList P l.toArray Q (l.drop n) (putAll l.toArray V n a) W) : (Code.region id l.toArray true).wp P Q a w := by
  simp only [growTailB, Bool.and_eq_true, decide_eq_true_eq] at hB
  obtain ⟨⟨⟨⟨⟨hn, hs⟩, hc⟩, hdB⟩, hd⟩, hseq⟩ := hB
  refine wp_region_any hm ?_
  have inv0 : HeadInv .any l.toArray n (Array.replicate l.toArray.size false) :=
    ⟨by simp, fun j oj _ hl => (by rw [getD_replicate_false] at hl; cases hl), fun t _ ht => getD_in (by simpa using ht) (getD_replicate_false _ _)⟩
  have hb0 : Below w.heap.size w { w with drawn := w.drawn + 1 } := ⟨rfl, rfl, rfl, Nat.le_refl _, fun _ _ => rfl⟩
  have hleft : leftOf n (Array.replicate l.toArray.size false) = n := by
    unfold leftOf
    rw [List.countP_eq_length.2]
    · simp
    · intro i hi
      have : i < l.toArray.size := by have := List.mem_range.1 hi; omega
      rw [getD_in (by simpa using this) (getD_replicate_false _ _)]
      rfl
  have H := wpAny_grow (P := P) (Q := Q) (g := l.toArray.size - n) (S := S) (w0 := w) (a0 := a) (fun listed inv i hi hu t ht => tail_waits hs hc hn inv _ i rfl hi hu t ht) (by omega) hdB hd hst hop
    (fun V W hb hS => by
      have hdl : (l.drop n).length = l.toArray.size - n := by simp
      have := wpAny_of_seq (md := .any) (Q' := Q) (l.drop n) n (firstN l.toArray n) _ W (fun j => by simp [List.getElem?_drop]) (by rw [hdl]; exact hseq) (hlast V W hb hS)
      rwa [hdl] at this)
    n _ (fun j => match (l.toArray[j]?).bind (·.dst) with | some d => a.tmps.getD d undef | none => undef) { w with drawn := w.drawn + 1 } inv0 hleft hb0 (fun j _ hl => by rw [getD_replicate_false] at hl; cases hl)
  rw [putAll_self, show n + (l.toArray.size - n) = l.toArray.size by omega] at H
  exact H

/-! ### Operation by operation -/

def updS (S : Nat → Value → World → Prop) (i : Nat) (T : Value → World → Prop) : Nat → Value → World → Prop := fun j => match Nat.beq j i with
  | true => T
  | false => S j

def growFrom (P : Program) (ops : Array Oper) (a0 : Act) (n : Nat) (w0 : World) (L : (Nat → Value → World → Prop) → Prop) : List Oper → Nat → (Nat → Value → World → Prop) → Prop
  | [], _, S => L S
  | o :: rest, i, S => ∃ T, Lasts T ∧ GrowOp P ops a0 n w0 S i o T ∧ growFrom P ops a0 n w0 L rest (i + 1) (updS S i T)

theorem grow_op {a0 : Act} {n : Nat} {w0 : World} {L : (Nat → Value → World → Prop) → Prop} {o : Oper} {rest : List Oper} {i : Nat} {S : Nat → Value → World → Prop} (T : Value → World → Prop) (hT : Lasts T)
    (h : ∀ (V : Nat → Value) (W : World) (K : Act → World → Prop) (A : Act), Below w0.heap.size w0 W → (∀ j, Region.waitsFor .any ops i j = true → S j (V j) W) → Hid (A = putAll ops V n a0) →
      Hid (∀ v W', Below W.heap.size W W' → T v W' → K (A.put o.dst v) W') → wpList P ops (KPost K) [o] A W)
    (hr : growFrom P ops a0 n w0 L rest (i + 1) (updS S i T)) : growFrom P ops a0 n w0 L (o :: rest) i S := ⟨T, hT, fun V W K hb hd hK => h V W K _ hb hd rfl hK, hr⟩

theorem grow_eq {a0 : Act} {n : Nat} {w0 : World} {L : (Nat → Value → World → Prop) → Prop} {o : Oper} {rest : List Oper} {i : Nat} {S : Nat → Value → World → Prop} {u : Value}
    (h : ∀ (V : Nat → Value) (W : World) (K : Act → World → Prop) (A : Act), Below w0.heap.size w0 W → (∀ j, Region.waitsFor .any ops i j = true → S j (V j) W) → Hid (A = putAll ops V n a0) →
      Hid (∀ W', Below W.heap.size W W' → K (A.put o.dst u) W') → wpList P ops (KPost K) [o] A W)
    (hr : growFrom P ops a0 n w0 L rest (i + 1) (updS S i fun v _ => v = u)) : growFrom P ops a0 n w0 L (o :: rest) i S :=
  ⟨fun v _ => v = u, fun _ _ _ h _ => h, fun V W K hb hd hK => h V W K _ hb hd rfl fun W' hb' => hK.out u W' hb' rfl, hr⟩

theorem updS_self (S : Nat → Value → World → Prop) (i : Nat) (T : Value → World → Prop) : updS S i T i = T := by simp [updS]
theorem updS_ne (S : Nat → Value → World → Prop) {i j : Nat} (T : Value → World → Prop) (h : j ≠ i) : updS S i T j = S j := by
  have : Nat.beq j i = false := by
    cases hb : Nat.beq j i with
    | false => rfl
    | true => exact absurd (Nat.eq_of_beq_eq_true hb) h
  simp [updS, this]

theorem growFrom_out {a0 : Act} {n : Nat} {w0 : World} {L : (Nat → Value → World → Prop) → Prop} (hdB : depsB .any ops n = true) : ∀ (l : List Oper) (k : Nat) (S : Nat → Value → World → Prop), k + l.length = n → (∀ j, j < l.length → l[j]? = ops[k + j]?) →
    (∀ j, Lasts (S j)) → (∀ i o, i < k → ops[i]? = some o → GrowOp P ops a0 n w0 S i o (S i)) → growFrom P ops a0 n w0 L l k S →
    ∃ S', (∀ j, Lasts (S' j)) ∧ (∀ i o, i < n → ops[i]? = some o → GrowOp P ops a0 n w0 S' i o (S' i)) ∧ L S'
  | [], k, S, hk, _, hl, hop, h => ⟨S, hl, by rw [show n = k by simpa using hk.symm]; rw [show n = k by simpa using hk.symm] at hop; exact hop, h⟩
  | o :: l, k, S, hk, hs, hl, hop, ⟨T, hT, ho, h⟩ => by
    have h0 : ops[k]? = some o := by simpa using (hs 0 (by simp)).symm
    have dep : ∀ i j, i < n → Region.waitsFor .any ops i j = true → j < i := fun i j hi hj => by
      obtain ⟨oj, hoj, e, he, hbd, hon⟩ := Region.waitsFor_spec hj
      have h1 := List.all_eq_true.1 hdB i (List.mem_range.2 hi)
      rw [hoj] at h1
      have h2 := Array.all_eq_true'.1 h1 e he
      rw [hbd] at h2
      have h3 : e.on < i := by simpa using h2
      omega
    have hkn : k < n := by simp only [List.length_cons] at hk; omega
    refine growFrom_out hdB l (k + 1) _ (by simp only [List.length_cons] at hk; omega) (fun j hj => by have := hs (j + 1) (by simp; omega); simpa [Nat.add_assoc, Nat.add_comm 1 j] using this) (fun j => ?_) (fun i o' hi hi' => ?_) h
    · by_cases e : j = k
      · subst e; rw [updS_self]; exact hT
      · rw [updS_ne _ _ e]; exact hl j
    · by_cases e : i = k
      · subst e
        have : o' = o := Option.some.inj (hi'.symm.trans h0)
        subst this
        rw [updS_self]
        exact fun V W K hb hd hK => ho V W K hb (fun j hj => by have := hd j hj; rwa [updS_ne _ _ (by have := dep i j hkn hj; omega)] at this) hK
      · rw [updS_ne _ _ e]
        exact fun V W K hb hd hK => hop i o' (by omega) hi' V W K hb (fun j hj => by have := hd j hj; rwa [updS_ne _ _ (by have := dep i j (by omega) hj; omega)] at this) hK

/-- A region that draws its order, its operations walked one by one in the order of the text: the first n only let the world grow, each leaving a value of which it says something that lasts; then a tail in order. -/
theorem wp_region_grows {id : Nat} {a : Act} {w : World} {l : List Oper} (n : Nat) (hm : P.follows .mixedOrders = true) (hB : growTailB l.toArray n = true)
    (h : growFrom P l.toArray a n w (fun S => ∀ V W A, Below w.heap.size w W → (∀ j, j < n → S j (V j) W) → Hid (A = putAll l.toArray V n a) → wpList P l.toArray Q (l.drop n) A W) (l.take n) 0 fun _ _ _ => True) : (Code.region id l.toArray true).wp P Q a w := by
  have hB' := hB
  simp only [growTailB, Bool.and_eq_true, decide_eq_true_eq] at hB'
  obtain ⟨⟨⟨⟨⟨hn, _⟩, _⟩, hdB⟩, _⟩, _⟩ := hB'
  have hn' : n < l.length := by simpa using hn
  obtain ⟨S, h1, h2, h3⟩ := growFrom_out hdB (l.take n) 0 _ (by simp; omega) (fun j hj => by
    have : j < n := by simp at hj; omega
    simp [this]) (fun _ _ _ _ _ _ => trivial) (fun i o hi => absurd hi (by omega)) h
  exact wp_region_grow n S hm hB h1 h2 fun V W hb hS => h3 V W _ hb hS rfl
end
end Go.Proofs.Ytbceafpodamnfab

/-
  My own. What the stewards ask for, by the specification: drained berths; which copy ends sooner.
-/
namespace Go.Proofs.Ytbceafpodamnfab
open Go.RowKit Go.Sort

def drainsB (B : Bk) (c : Cp) : Bool := match B.bts.find? fun b => b.name.toList == c.berth.toList with
  | none => false
  | some b => b.drain

set_option maxHeartbeats 2000000 in
theorem l5Drains_any (B : Bk) (c : Cp) (a1 a2 a3 : Option Addr) (c1 c2 c3 : Nat) (w : World) (hS : B.small) (hB : BkAt w a1 a2 a3 B) :
    Calls Try.prog 39 #[.agg #[.int .i64 B.now, .slice a1 B.svcs.length c1, .slice a2 B.cps.length c2, .slice a3 B.bts.length c3], .agg #[.string c.service, .int .i64 c.number, .int .i64 c.version, .int .i64 c.image, .int .i64 c.state, .bool c.ending, .string c.berth]] w fun e w' => e = .returned (.bool (drainsB B c)) ∧ Below w.heap.size w w' := by
  have hbb : Below w.heap.size w ((w.alloc (.cells #[.int .i64 B.now, .slice a1 B.svcs.length c1, .slice a2 B.cps.length c2, .slice a3 B.bts.length c3] 33)).alloc (.cells #[.string c.service, .int .i64 c.number, .int .i64 c.version, .int .i64 c.image, .int .i64 c.state, .bool c.ending, .string c.berth] 72)) := ((Below.refl _ _).alloc (Nat.le_refl _) _).alloc (by simp) _
  obtain ⟨t0, t1, t2⟩ := two_new w (.cells #[.int .i64 B.now, .slice a1 B.svcs.length c1, .slice a2 B.cps.length c2, .slice a3 B.bts.length c3] 33) (.cells #[.string c.service, .int .i64 c.number, .int .i64 c.version, .int .i64 c.image, .int .i64 c.state, .bool c.ending, .string c.berth] 72)
  have T0 : Hid _ := t0
  have HS2 : Hid _ := t2
  clear t0 t1 t2
  obtain ⟨hl1, hl2, hl3⟩ := hS
  go_enter Try.func39, Try.ntmps39
  go_wp2_with fail
  refine (l1Berth_any B c.berth a1 a2 a3 c1 c2 c3 _ ⟨hl1, hl2, hl3⟩ (hB.below hbb).2.2).mono ?_
  rintro e w1 ⟨rfl, hb1⟩
  have hb2 := hbb.trans (hb1.mono hbb.size)
  rw [HS2.out] at hb1
  have T1 : Hid _ := below_blk hb1 T0.out (by omega)
  have e3 := blk_cell T1.out 3 rfl
  cases hf : B.bts.find? fun b => b.name.toList == c.berth.toList with
  | none =>
    have HI : Hid (idxB B.bts c.berth = -1) := idxOf_find_none hf
    have HO : Hid (drainsB B c = false) := by unfold Hid drainsB; rw [hf]
    rw [HI.out]
    clear hf
    go_wp2
    go_ret
    exact ⟨ret_bool HO.out.symm, hb2⟩
  | some b =>
    obtain ⟨i, hi, hidx⟩ : ∃ i : Nat, B.bts[i]? = some b ∧ idxB B.bts c.berth = (i : Int) := idxOf_find hf
    have HI : Hid _ := hidx
    have HO : Hid (drainsB B c = b.drain) := by unfold Hid drainsB; rw [hf]
    have hilt : i < B.bts.length := (List.getElem?_eq_some_iff.1 hi).1
    obtain ⟨bb, off, ea, hbs, hat⟩ := hB.2.2 (by intro h; rw [h] at hilt; simp at hilt)
    subst ea
    have hq := (hat i b hi).below hb2 hbs
    unfold BtAt at hq
    obtain ⟨q0, q1⟩ := hq
    rw [HI.out]
    clear hf hi hidx hat
    go_wp2
    go_ret
    exact ⟨ret_bool HO.out.symm, hb2⟩

def soonerB (B : Bk) (x y : Cp) (img : Int) : Bool :=
  if ((x.state != 3) != (y.state != 3)) then (x.state != 3) else if ((x.image != img) != (y.image != img)) then (x.image != img) else if (drainsB B x != drainsB B y) then drainsB B x else decide (y.number < x.number)

end Go.Proofs.Ytbceafpodamnfab

/-
  My own. The map of places, with the places of berths; on a berth that is to be drained.
-/
namespace Go.Proofs.Ytbceafpodamnfab
open Go.RowKit Go.Sort Go.Maps

def uniqB (B : Bk) : Prop := ∀ (i j : Nat) s t, i < j → B.bts[i]? = some s → B.bts[j]? = some t → s.name ≠ t.name
theorem bts_less {B : Bk} (h : ∀ i, i < B.bts.length → btAtB B i = true) : ∀ (j i : Nat) s t, i < j → B.bts[i]? = some s → B.bts[j]? = some t → Op.bytesLess s.name.toList t.name.toList = true
  | 0, i, _, _, hi, _, _ => absurd hi (by omega)
  | j + 1, i, s, t, hi, hs, ht => by
    have hlt : j + 1 < B.bts.length := (List.getElem?_eq_some_iff.1 ht).1
    obtain ⟨p, hp⟩ : ∃ p, B.bts[j]? = some p := ⟨B.bts[j]'(by omega), by rw [List.getElem?_eq_getElem]⟩
    have h1 : Op.bytesLess p.name.toList t.name.toList = true := by
      have := h (j + 1) hlt
      unfold btAtB at this
      rw [ht] at this
      simp [hp] at this
      exact this.2
    rcases Nat.lt_or_ge i j with h' | h'
    · exact bytesLess_trans _ _ _ (bts_less h j i s p h' hs hp) h1
    · have e : i = j := by omega
      subst e
      rw [hp] at hs
      cases hs
      exact h1
theorem uniqB_of {B : Bk} (h : allTo (btAtB B) B.bts.length = true) : uniqB B := fun i j s t hij hs ht e => by
  have h' : ∀ i, i < B.bts.length → btAtB B i = true := fun i hi => by
    unfold allTo at h; exact List.all_eq_true.1 h i (List.mem_range.2 hi)
  have := bts_less h' j i s t hij hs ht
  rw [e, bytesLess_irrefl] at this
  cases this

/-- The map at block b tells of the first ks services and the first kb berths where they are. -/
def PlacesX (w : World) (b : Nat) (B : Bk) (ks kb : Nat) : Prop := ∃ (n : Nat) (D : DataW Unit), n ≤ ks + kb ∧ w.ownsMap Try.prog 107 (plainElem Try.prog 3) b n D ∧
  (∀ x : ByteArray, x.size ≤ maxLen → (∀ (i : Nat) s, i < ks → B.svcs[i]? = some s → s.name ≠ x) → Maps.has D (key 1 x) = false) ∧
  (∀ (i : Nat) s, i < ks → B.svcs[i]? = some s → Maps.has D (key 1 s.name) = true ∧ D.atKey (key 1 s.name) (.lit (.int .i64 0)) = .lit (.int .i64 i)) ∧
  (∀ x : ByteArray, x.size ≤ maxLen → (∀ (i : Nat) s, i < kb → B.bts[i]? = some s → s.name ≠ x) → Maps.has D (key 2 x) = false) ∧
  (∀ (i : Nat) s, i < kb → B.bts[i]? = some s → Maps.has D (key 2 s.name) = true ∧ D.atKey (key 2 s.name) (.lit (.int .i64 0)) = .lit (.int .i64 i))

theorem PlacesX.blk {w w' : World} {b : Nat} {B : Bk} {ks kb : Nat} (h : PlacesX w b B ks kb) (hb : w'.heap[b]? = w.heap[b]?) : PlacesX w' b B ks kb := by
  obtain ⟨n, D, hn, ⟨es, clock, he, F, hs, hD⟩, r⟩ := h
  exact ⟨n, D, hn, ⟨es, clock, by rw [hb]; exact he, F, hs, hD⟩, r⟩
theorem PlacesX.below {w w' : World} {b N : Nat} {B : Bk} {ks kb : Nat} (h : PlacesX w b B ks kb) (hb : Below N w w') (hN : b < N) : PlacesX w' b B ks kb := h.blk (hb.block b hN)
theorem PlacesX.lt {w : World} {b : Nat} {B : Bk} {ks kb : Nat} (h : PlacesX w b B ks kb) : b < w.heap.size := by
  obtain ⟨n, D, hn, hown, _⟩ := h
  exact hown.lt

theorem PlacesX.start (w : World) (B : Bk) : PlacesX (w.alloc (.map #[] 0)) w.heap.size B 0 0 :=
  ⟨0, .map [], Nat.le_refl _, World.ownsMap_made w _ _ _, fun _ _ _ => rfl, fun i s hi => absurd hi (by omega), fun _ _ _ => rfl, fun i s hi => absurd hi (by omega)⟩

theorem PlacesX.stepS {w' : World} {b : Nat} {B : Bk} {k n : Nat} {D : DataW Unit} {s : Svc} (hz : ∀ s ∈ B.svcs, s.name.size ≤ maxLen) (_hzb : ∀ s ∈ B.bts, s.name.size ≤ maxLen) (hu : uniqS B) (hsk : B.svcs[k]? = some s)
    (hn : n ≤ k + 0) (h1 : ∀ x : ByteArray, x.size ≤ maxLen → (∀ (i : Nat) s, i < k → B.svcs[i]? = some s → s.name ≠ x) → Maps.has D (key 1 x) = false)
    (h2 : ∀ (i : Nat) s, i < k → B.svcs[i]? = some s → Maps.has D (key 1 s.name) = true ∧ D.atKey (key 1 s.name) (.lit (.int .i64 0)) = .lit (.int .i64 i))
    (h3 : ∀ x : ByteArray, x.size ≤ maxLen → (∀ (i : Nat) s, i < 0 → B.bts[i]? = some s → s.name ≠ x) → Maps.has D (key 2 x) = false)
    (hD : IsMap D)
    (hown : w'.ownsMap Try.prog 107 (plainElem Try.prog 3) b (n + 1) (D.put (key 1 s.name) (.lit (.int .i64 (k : Int))))) : PlacesX w' b B (k + 1) 0 := by
  have hss := hz s (List.mem_of_getElem? hsk)
  refine ⟨n + 1, _, by omega, hown, fun x hx hno => ?_, fun i t hi ht => ?_, fun x hx hno => ?_, fun i t hi => absurd hi (by omega)⟩
  · rw [has_put_other (key_ne_name wf1 hx hss (fun e => hno k s (by omega) hsk e.symm))]
    exact h1 x hx fun i t hi ht => hno i t (by omega) ht
  · rcases Nat.lt_or_ge i k with h' | h'
    · have hts := hz t (List.mem_of_getElem? ht)
      have hne := key_ne_name wf1 hts hss (hu i k t s h' ht hsk)
      rw [has_put_other hne, atKey_put_other hne]
      exact h2 i t h' ht
    · have e : i = k := by omega
      subst e
      rw [hsk] at ht
      cases ht
      exact ⟨has_put_same hD (key_isKey _ _) _, atKey_put_same hD (key_isKey _ _) _ _⟩
  · rw [has_put_other (fun e => key_ne_kind hss hx e.symm)]
    exact h3 x hx fun i t hi => absurd hi (by omega)

theorem PlacesX.stepB {w' : World} {b : Nat} {B : Bk} {ks k n : Nat} {D : DataW Unit} {s : Bt} (hz : ∀ s ∈ B.svcs, s.name.size ≤ maxLen) (hzb : ∀ s ∈ B.bts, s.name.size ≤ maxLen) (hub : uniqB B) (hsk : B.bts[k]? = some s)
    (hn : n ≤ ks + k) (h1 : ∀ x : ByteArray, x.size ≤ maxLen → (∀ (i : Nat) s, i < ks → B.svcs[i]? = some s → s.name ≠ x) → Maps.has D (key 1 x) = false)
    (h2 : ∀ (i : Nat) s, i < ks → B.svcs[i]? = some s → Maps.has D (key 1 s.name) = true ∧ D.atKey (key 1 s.name) (.lit (.int .i64 0)) = .lit (.int .i64 i))
    (h3 : ∀ x : ByteArray, x.size ≤ maxLen → (∀ (i : Nat) s, i < k → B.bts[i]? = some s → s.name ≠ x) → Maps.has D (key 2 x) = false)
    (h4 : ∀ (i : Nat) s, i < k → B.bts[i]? = some s → Maps.has D (key 2 s.name) = true ∧ D.atKey (key 2 s.name) (.lit (.int .i64 0)) = .lit (.int .i64 i))
    (hD : IsMap D)
    (hown : w'.ownsMap Try.prog 107 (plainElem Try.prog 3) b (n + 1) (D.put (key 2 s.name) (.lit (.int .i64 (k : Int))))) : PlacesX w' b B ks (k + 1) := by
  have hss := hzb s (List.mem_of_getElem? hsk)
  refine ⟨n + 1, _, by omega, hown, fun x hx hno => ?_, fun i t hi ht => ?_, fun x hx hno => ?_, fun i t hi ht => ?_⟩
  · rw [has_put_other (key_ne_kind hx hss)]
    exact h1 x hx hno
  · have hts := hz t (List.mem_of_getElem? ht)
    rw [has_put_other (key_ne_kind hts hss), atKey_put_other (key_ne_kind hts hss)]
    exact h2 i t hi ht
  · rw [has_put_other (key_ne_name wf2 hx hss (fun e => hno k s (by omega) hsk e.symm))]
    exact h3 x hx fun i t hi ht => hno i t (by omega) ht
  · rcases Nat.lt_or_ge i k with h' | h'
    · have hts := hzb t (List.mem_of_getElem? ht)
      have hne := key_ne_name wf2 hts hss (hub i k t s h' ht hsk)
      rw [has_put_other hne, atKey_put_other hne]
      exact h4 i t h' ht
    · have e : i = k := by omega
      subst e
      rw [hsk] at ht
      cases ht
      exact ⟨has_put_same hD (key_isKey _ _) _, atKey_put_same hD (key_isKey _ _) _ _⟩

set_option maxHeartbeats 4000000 in
theorem placesIn_x (B : Bk) (a1 a2 a3 : Option Addr) (c1 c2 c3 : Nat) (w : World) (hS : B.small) (hZ : B.sized) (hU : uniqS B) (hUB : uniqB B) (hB : BkAt w a1 a2 a3 B) :
    Calls Try.prog 74 #[.agg #[.int .i64 B.now, .slice a1 B.svcs.length c1, .slice a2 B.cps.length c2, .slice a3 B.bts.length c3]] w fun e w' => e = .returned (.map (some (w.heap.size + 1))) ∧ PlacesX w' (w.heap.size + 1) B B.svcs.length B.bts.length ∧ Below w.heap.size w w' := by
  obtain ⟨hl1, hl2, hl3⟩ := hS
  have hmm := run_makeMap_n
  obtain ⟨t0, t1, t2⟩ := two_new w (.cells #[.int .i64 B.now, .slice a1 B.svcs.length c1, .slice a2 B.cps.length c2, .slice a3 B.bts.length c3] 33) (.map #[] 0)
  have T0 : Hid _ := t0
  have T1 : Hid (PlacesX ((w.alloc (.cells #[.int .i64 B.now, .slice a1 B.svcs.length c1, .slice a2 B.cps.length c2, .slice a3 B.bts.length c3] 33)).alloc (.map #[] 0)) (w.heap.size + 1) B 0 0) := by
    have := PlacesX.start (w.alloc (.cells #[.int .i64 B.now, .slice a1 B.svcs.length c1, .slice a2 B.cps.length c2, .slice a3 B.bts.length c3] 33)) B
    have e : (w.alloc (.cells #[.int .i64 B.now, .slice a1 B.svcs.length c1, .slice a2 B.cps.length c2, .slice a3 B.bts.length c3] 33)).heap.size = w.heap.size + 1 := by show (w.heap.push _).size = _; simp
    rw [e] at this
    exact this
  clear t0 t1 t2
  go_enter Try.func74, Try.ntmps74
  go_wp2
  clear hmm
  go_loopw [19] (fun iv wr => ∃ k : Nat, k ≤ B.svcs.length ∧ iv = .int .i64 k ∧ Below w.heap.size w wr ∧ Hid (wr.heap[w.heap.size]? = some (.cells #[.int .i64 B.now, .slice a1 B.svcs.length c1, .slice a2 B.cps.length c2, .slice a3 B.bts.length c3] 33 (0, 0))) ∧ Hid (PlacesX wr (w.heap.size + 1) B k 0)) (fun i _ => B.svcs.length - (intOf i).toNat)
  case atStart => exact ⟨0, by omega, rfl, ((Below.refl _ _).alloc (Nat.le_refl _) _).alloc (by simp) _, T0, T1⟩
  case round =>
    obtain ⟨k, hk, rfl, hb, hbox, hpl⟩ := hrel
    have hNlt : w.heap.size + 1 < wr.heap.size := hpl.out.lt
    by_cases hlt : k < B.svcs.length
    · have hne : B.svcs ≠ [] := by intro h; rw [h] at hlt; simp at hlt
      obtain ⟨b, off, ea, hbs, hat⟩ := hB.1 hne
      subst ea
      obtain ⟨s, hsk⟩ : ∃ s, B.svcs[k]? = some s := ⟨B.svcs[k], by simp [hlt]⟩
      have hmem := hZ.2.2.2.1 s (List.mem_of_getElem? hsk)
      have HSK : Hid _ := hsk
      have hcs := (hat k s hsk).below hb hbs
      unfold SvcAt at hcs
      obtain ⟨x0, x1, x2, x3, x4, x5, x6, x7, x8, x9, x10, x11, x12⟩ := hcs
      obtain ⟨n, D, hn, hown, h1, h2, h3, h4⟩ := hpl.out
      have H1 : Hid _ := h1
      have H2 : Hid _ := h2
      have H3 : Hid _ := h3
      have hnn : n < maxLen := by unfold maxLen; omega
      clear hsk hat hne h1 h2 h3 h4
      go_wp2_with (at_mapUpdate; refine wpList_mapUpdate_own _ rfl (.tmp 24) (.tmp 27) (.tmp 28) 104 rfl 107 3 thingLaw Try.underlying104 (plainElem Try.prog 3) (w.heap.size + 1) n D rfl (hown.alloc _) hnn _ _ _ rfl rfl (key_ok 1 s.name wf1 hmem) _ [] (plainElem_int Try.underlying3 (WalkArith.wf_i64 (by omega))) ?_; intro w1 hown1 hgrow1)
      have hsz : (wr.alloc (.cells #[.string s.name, .int .i64 s.version, .bool s.gone, .int .i64 s.image, .int .i64 s.want, .int .i64 s.down, .int .i64 s.over, .int .i64 s.next, .int .i64 s.per, .int .i64 s.least, .int .i64 s.most, .int .i64 s.load, .int .i64 s.cool] 57)).heap.size = wr.heap.size + 1 := by show (wr.heap.push _).size = _; simp
      have hb1 : Below w.heap.size w w1 := (hb.alloc hb.size _).grown hgrow1 (by rw [hsz]; omega) (fun j hj => by cases hj; omega)
      have hbox1 : Hid _ := (hgrow1.block w.heap.size (by rw [hsz]; omega) (fun e => by have := Option.some.inj e; omega)).trans (below_blk (below_box wr (.cells #[.string s.name, .int .i64 s.version, .bool s.gone, .int .i64 s.image, .int .i64 s.want, .int .i64 s.down, .int .i64 s.over, .int .i64 s.next, .int .i64 s.per, .int .i64 s.least, .int .i64 s.most, .int .i64 s.load, .int .i64 s.cool] 57)) hbox.out (by omega))
      have hpl1 : Hid _ := PlacesX.stepS hZ.2.2.2.1 hZ.2.2.2.2.2 hU HSK.out hn H1.out H2.out H3.out hown.isMap hown1
      go_roundw
      case rel => exact ⟨k + 1, by omega, by go_num, hb1, hbox1, hpl1⟩
      case measure => simp [intOf]; omega
    · have hkl : k = B.svcs.length := by omega
      subst hkl
      have e3 := blk_cell hbox.out 3 rfl
      go_wp2
      clear e3
      go_loopw [33] (fun iv wr => ∃ k : Nat, k ≤ B.bts.length ∧ iv = .int .i64 k ∧ Below w.heap.size w wr ∧ Hid (wr.heap[w.heap.size]? = some (.cells #[.int .i64 B.now, .slice a1 B.svcs.length c1, .slice a2 B.cps.length c2, .slice a3 B.bts.length c3] 33 (0, 0))) ∧ Hid (PlacesX wr (w.heap.size + 1) B B.svcs.length k)) (fun i _ => B.bts.length - (intOf i).toNat)
      case atStart => exact ⟨0, by omega, rfl, hb, hbox, hpl⟩
      case round =>
        clear hb hbox hpl hNlt hlt
        rename_i wr0 _
        obtain ⟨k, hk, rfl, hb, hbox, hpl⟩ := hrel
        have hNlt : w.heap.size + 1 < wr.heap.size := hpl.out.lt
        by_cases hlt : k < B.bts.length
        · have hne : B.bts ≠ [] := by intro h; rw [h] at hlt; simp at hlt
          obtain ⟨b, off, ea, hbs, hat⟩ := hB.2.2 hne
          subst ea
          obtain ⟨s, hsk⟩ : ∃ s, B.bts[k]? = some s := ⟨B.bts[k], by simp [hlt]⟩
          have hmem := hZ.2.2.2.2.2 s (List.mem_of_getElem? hsk)
          have HSK : Hid _ := hsk
          have hcs := (hat k s hsk).below hb hbs
          unfold BtAt at hcs
          obtain ⟨x0, x1⟩ := hcs
          obtain ⟨n, D, hn, hown, h1, h2, h3, h4⟩ := hpl.out
          have H1 : Hid _ := h1
          have H2 : Hid _ := h2
          have H3 : Hid _ := h3
          have H4 : Hid _ := h4
          have hnn : n < maxLen := by unfold maxLen; omega
          clear hsk hat hne h1 h2 h3 h4
          go_wp2_with (at_mapUpdate; refine wpList_mapUpdate_own _ rfl (.tmp 38) (.tmp 41) (.tmp 42) 104 rfl 107 3 thingLaw Try.underlying104 (plainElem Try.prog 3) (w.heap.size + 1) n D rfl (hown.alloc _) hnn _ _ _ rfl rfl (key_ok 2 s.name wf2 hmem) _ [] (plainElem_int Try.underlying3 (WalkArith.wf_i64 (by omega))) ?_; intro w1 hown1 hgrow1)
          have hsz : (wr.alloc (.cells #[.string s.name, .bool s.drain] 94)).heap.size = wr.heap.size + 1 := by show (wr.heap.push _).size = _; simp
          have hb1 : Below w.heap.size w w1 := (hb.alloc hb.size _).grown hgrow1 (by rw [hsz]; omega) (fun j hj => by cases hj; omega)
          have hbox1 : Hid _ := (hgrow1.block w.heap.size (by rw [hsz]; omega) (fun e => by have := Option.some.inj e; omega)).trans (below_blk (below_box wr (.cells #[.string s.name, .bool s.drain] 94)) hbox.out (by omega))
          have hpl1 : Hid _ := PlacesX.stepB hZ.2.2.2.1 hZ.2.2.2.2.2 hUB HSK.out hn H1.out H2.out H3.out H4.out hown.isMap hown1
          go_roundw
          case rel => exact ⟨k + 1, by omega, by go_num, hb1, hbox1, hpl1⟩
          case measure => simp [intOf]; omega
        · go_wp2
          go_ret
          have hkl : k = B.bts.length := by omega
          subst hkl
          exact ⟨rfl, hpl.out, hb⟩


set_option maxRecDepth 100000 in
set_option maxHeartbeats 4000000 in
theorem onDrain_any (B : Bk) (c : Cp) (b : Nat) (a1 a2 a3 : Option Addr) (c1 c2 c3 : Nat) (w : World) (hS : B.small) (hc : c.berth.size ≤ maxLen) (hP : PlacesX w b B B.svcs.length B.bts.length) (hB : BkAt w a1 a2 a3 B) :
    Calls Try.prog 88 #[.agg #[.int .i64 B.now, .slice a1 B.svcs.length c1, .slice a2 B.cps.length c2, .slice a3 B.bts.length c3], .map (some b), .agg #[.string c.service, .int .i64 c.number, .int .i64 c.version, .int .i64 c.image, .int .i64 c.state, .bool c.ending, .string c.berth]] w fun e w' => e = .returned (.bool (drainsB B c)) ∧ Below w.heap.size w w' := by
  obtain ⟨hl1, hl2, hl3⟩ := hS
  have hbb : Below w.heap.size w ((w.alloc (.cells #[.int .i64 B.now, .slice a1 B.svcs.length c1, .slice a2 B.cps.length c2, .slice a3 B.bts.length c3] 33)).alloc (.cells #[.string c.service, .int .i64 c.number, .int .i64 c.version, .int .i64 c.image, .int .i64 c.state, .bool c.ending, .string c.berth] 72)) := ((Below.refl _ _).alloc (Nat.le_refl _) _).alloc (by simp) _
  obtain ⟨n, D, hn, hown, h1, h2, h3, h4⟩ := hP
  have hown2 := (hown.alloc (.cells #[.int .i64 B.now, .slice a1 B.svcs.length c1, .slice a2 B.cps.length c2, .slice a3 B.bts.length c3] 33)).alloc (.cells #[.string c.service, .int .i64 c.number, .int .i64 c.version, .int .i64 c.image, .int .i64 c.state, .bool c.ending, .string c.berth] 72)
  clear h1 h2
  cases hf : B.bts.find? fun b => b.name.toList == c.berth.toList with
  | none =>
    have HD : Hid (drainsB B c = false) := by unfold Hid drainsB; rw [hf]
    have HH : Hid (Maps.has D (key 2 c.berth) = false) := h3 c.berth hc fun i s _ hs e => by
      rw [List.find?_eq_none] at hf
      exact hf s (List.mem_of_getElem? hs) (same_name.2 e)
    have HA : Hid (D.atKey (key 2 c.berth) (.lit (.int .i64 0)) = .lit (.int .i64 0)) := atKey_of_not_has HH.out _
    clear h3 h4 hf
    rw [HD.out]
    go_enter Try.func88, Try.ntmps88
    go_wp2_with (at_lookup; refine wpList_lookup_is _ rfl (.tmp 10) (.tmp 13) 104 rfl 107 3 .i64 thingLaw Try.underlying104 Try.underlying3 (zeroInt _) b n D rfl hown2 _ _ rfl (key_ok 2 c.berth wf2 hc) 0 false HA.out HH.out ?_)
    go_ret
    exact ⟨rfl, hbb⟩
  | some bt =>
    obtain ⟨i, hi, _⟩ := idxOf_find hf
    have hil := (List.getElem?_eq_some_iff.1 hi).1
    have hnm : bt.name = c.berth := same_name.1 (List.find?_some (p := fun b : Bt => b.name.toList == c.berth.toList) hf)
    have HD : Hid (drainsB B c = bt.drain) := by unfold Hid drainsB; rw [hf]
    have h4' := h4 i bt hil hi
    rw [hnm] at h4'
    have HH : Hid (Maps.has D (key 2 c.berth) = true) := h4'.1
    have HA : Hid (D.atKey (key 2 c.berth) (.lit (.int .i64 0)) = .lit (.int .i64 (i : Int))) := h4'.2
    have hne : B.bts ≠ [] := by intro h; rw [h] at hil; simp at hil
    obtain ⟨b3, o3, ea, hbs, hat⟩ := hB.2.2 hne
    subst ea
    have hbt := (hat i bt hi).below hbb hbs
    unfold BtAt at hbt
    obtain ⟨x0, x1⟩ := hbt
    clear h3 h4 hf h4' hi hnm hne hat
    rw [HD.out]
    go_enter Try.func88, Try.ntmps88
    go_wp2_with (at_lookup; refine wpList_lookup_is _ rfl (.tmp 10) (.tmp 13) 104 rfl 107 3 .i64 thingLaw Try.underlying104 Try.underlying3 (zeroInt _) b n D rfl hown2 _ _ rfl (key_ok 2 c.berth wf2 hc) (i : Int) true HA.out HH.out ?_)
    go_ret
    exact ⟨rfl, hbb⟩

end Go.Proofs.Ytbceafpodamnfab
