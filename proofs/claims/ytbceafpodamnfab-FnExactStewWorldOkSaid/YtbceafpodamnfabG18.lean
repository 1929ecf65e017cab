/-
  My own: Kd, Ke, Kf.
-/
import Derived.Test.YtbceafpodamnfabG02
import Derived.Test.YtbceafpodamnfabG17
import Derived.Test.YtbceafpodamnfabG05
import Derived.Test.YtbceafpodamnfabG09
import Derived.Test.YtbceafpodamnfabG04
import Derived.Shelf.Abstract
set_option linter.unusedVariables false
set_option linter.unusedSimpArgs false
/-
  My own. Worlds that are ok: plain data.
-/
namespace Go.Proofs.Ytbceafpodamnfab
open Go.RowKit

/-- The specification's look at a past book. -/
def pastAtB (P : List Bk) (B : Bk) (i : Nat) : Bool := match P[i]? with
  | none => false
  | some b => validB b && decide (b.now ≤ B.now) && (match i with | 0 => true | j + 1 => match P[j]? with | none => false | some p => decide (p.now ≤ b.now))
def worldB (P : List Bk) (B : Bk) : Bool := validB B && decide (P.length ≤ 8) && allTo (pastAtB P B) P.length

/-- The program's: the Now that went before. -/
def nowB (P : List Bk) : Nat → Int
  | 0 => 0
  | k + 1 => match P[k]? with | none => 0 | some b => b.now
def riseAtB (P : List Bk) (i : Nat) : Bool := match P[i]? with
  | none => false
  | some b => decide (nowB P i ≤ b.now)
def riseB (P : List Bk) (B : Bk) : Bool := allTo (riseAtB P) P.length && decide (nowB P P.length ≤ B.now)
def holdB (P : List Bk) (B : Bk) : Bool := validB B && decide ((P.filter validB).length = P.length)

theorem nowB_succ {P : List Bk} {k : Nat} {b : Bk} (h : P[k]? = some b) : nowB P (k + 1) = b.now := by
  show (match P[k]? with | none => 0 | some b => b.now) = _
  rw [h]
theorem now_of_valid {B : Bk} (h : validB B = true) : 0 ≤ B.now := by
  unfold validB at h
  simp only [Bool.and_eq_true, inB, decide_eq_true_eq] at h
  omega

theorem allTo_iff {f : Nat → Bool} {n : Nat} : allTo f n = true ↔ ∀ i, i < n → f i = true :=
  ⟨fun h i hi => by unfold allTo at h; exact List.all_eq_true.1 h i (List.mem_range.2 hi), allTo_yes⟩

theorem filter_all {P : List Bk} : ((P.filter validB).length = P.length) ↔ ∀ (i : Nat) (b : Bk), P[i]? = some b → validB b = true := by
  rw [List.length_filter_eq_length_iff]
  exact ⟨fun h i b hb => h b (List.mem_of_getElem? hb), fun h b hb => by
    obtain ⟨i, hi, rfl⟩ := List.mem_iff_getElem.1 hb
    exact h i _ (List.getElem?_eq_getElem hi)⟩

theorem rise_up {P : List Bk} (h : ∀ i, i < P.length → riseAtB P i = true) : ∀ (j i : Nat) (a b : Bk), i ≤ j → P[i]? = some a → P[j]? = some b → a.now ≤ b.now
  | 0, i, a, b, hi, ha, hb => by
    obtain rfl : i = 0 := by omega
    rw [ha] at hb; cases hb; exact Int.le_refl _
  | j + 1, i, a, b, hi, ha, hb => by
    rcases Nat.lt_or_ge j i with h' | h'
    · obtain rfl : i = j + 1 := by omega
      rw [ha] at hb; cases hb; exact Int.le_refl _
    · have hlt : j + 1 < P.length := (List.getElem?_eq_some_iff.1 hb).1
      obtain ⟨p, hp⟩ : ∃ p, P[j]? = some p := ⟨P[j]'(by omega), by rw [List.getElem?_eq_getElem]⟩
      have h1 := h (j + 1) hlt
      unfold riseAtB at h1
      rw [hb] at h1
      simp only [nowB_succ hp, decide_eq_true_eq] at h1
      exact Int.le_trans (rise_up h j i a p h' ha hp) h1

/-- Both looks are the same. -/
theorem world_same (P : List Bk) (B : Bk) : worldB P B = (decide (P.length ≤ 8) && (holdB P B && riseB P B)) := by
  rw [Bool.eq_iff_iff]
  unfold worldB holdB riseB
  simp only [Bool.and_eq_true, decide_eq_true_eq, allTo_iff, filter_all]
  constructor
  · rintro ⟨⟨hv, hl⟩, hp⟩
    have hall : ∀ (i : Nat) (b : Bk), P[i]? = some b → validB b = true := fun i b hb => by
      have := hp i (List.getElem?_eq_some_iff.1 hb).1
      unfold pastAtB at this
      rw [hb] at this
      simp only [Bool.and_eq_true] at this
      exact this.1.1
    refine ⟨hl, ⟨hv, hall⟩, fun i hi => ?_, ?_⟩
    · obtain ⟨b, hb⟩ : ∃ b, P[i]? = some b := ⟨P[i], List.getElem?_eq_getElem hi⟩
      have h1 := hp i hi
      unfold pastAtB at h1
      unfold riseAtB
      rw [hb] at h1 ⊢
      simp only [Bool.and_eq_true, decide_eq_true_eq] at h1 ⊢
      cases i with
      | zero => exact now_of_valid h1.1.1
      | succ j =>
        obtain ⟨p, hq⟩ : ∃ p, P[j]? = some p := ⟨P[j]'(by omega), by rw [List.getElem?_eq_getElem]⟩
        rw [nowB_succ hq]
        have h2 := h1.2
        simp only [hq, decide_eq_true_eq] at h2
        exact h2
    · cases hn : P.length with
      | zero => exact now_of_valid hv
      | succ n =>
        obtain ⟨b, hb⟩ : ∃ b, P[n]? = some b := ⟨P[n]'(by omega), by rw [List.getElem?_eq_getElem]⟩
        rw [nowB_succ hb]
        have h1 := hp n (by omega)
        unfold pastAtB at h1
        rw [hb] at h1
        simp only [Bool.and_eq_true, decide_eq_true_eq] at h1
        exact h1.1.2
  · rintro ⟨hl, ⟨hv, hall⟩, hr, hn⟩
    refine ⟨⟨hv, hl⟩, fun i hi => ?_⟩
    obtain ⟨b, hb⟩ : ∃ b, P[i]? = some b := ⟨P[i], List.getElem?_eq_getElem hi⟩
    unfold pastAtB
    rw [hb]
    simp only [Bool.and_eq_true, decide_eq_true_eq]
    refine ⟨⟨hall i b hb, ?_⟩, ?_⟩
    · obtain ⟨n, hn'⟩ : ∃ n, P.length = n + 1 := ⟨P.length - 1, by omega⟩
      obtain ⟨l, hlast⟩ : ∃ l, P[n]? = some l := ⟨P[n]'(by omega), by rw [List.getElem?_eq_getElem]⟩
      rw [hn', nowB_succ hlast] at hn
      exact Int.le_trans (rise_up hr n i b l (by omega) hb hlast) hn
    · cases i with
      | zero => rfl
      | succ j =>
        obtain ⟨p, hq⟩ : ∃ p, P[j]? = some p := ⟨P[j]'(by omega), by rw [List.getElem?_eq_getElem]⟩
        simp only [hq, decide_eq_true_eq]
        exact rise_up hr (j + 1) j p b (by omega) hq hb

end Go.Proofs.Ytbceafpodamnfab

/-
  My own. The specification's StewWorldOk.
-/
namespace Go.Proofs.Ytbceafpodamnfab
open Go.RowKit Go.Sort

theorem world_no {l : List Bx} {B : Bk} {k : Nat} (hk : k < l.length) (h : pastAtB (l.map (·.b)) B k = false) : worldB (l.map (·.b)) B = false := by
  unfold worldB
  rw [allTo_no (by simpa using hk) h, Bool.and_false]
theorem map_at {l : List Bx} {k : Nat} {s : Bx} (h : l[k]? = some s) : (l.map (·.b))[k]? = some s.b := by simp [h]

set_option maxRecDepth 100000 in
set_option maxHeartbeats 8000000 in
theorem specWorldOk_any (l : List Bx) (ap : Option Addr) (cp : Nat) (B : Bk) (a1 a2 a3 : Option Addr) (c1 c2 c3 : Nat) (w : World) (hl : l.length ≤ 1048576) (hZ : Sizeds l) (hS : Smalls l) (hBZ : B.sized) (hT : B.small) (hW : WAt w ap l a1 a2 a3 B) :
    Calls Try.prog 18 #[.agg #[.slice ap l.length cp, .int .i64 B.now, .slice a1 B.svcs.length c1, .slice a2 B.cps.length c2, .slice a3 B.bts.length c3]] w fun e w' => e = .returned (.bool (worldB (l.map (·.b)) B)) ∧ Below w.heap.size w w' := by
  have HW : Hid (WAt w ap l a1 a2 a3 B) := hW
  have HS : Hid _ := hS
  have HZ : Hid _ := hZ
  have HBZ : Hid _ := hBZ
  have HT : Hid _ := hT
  clear hW hS hZ hBZ hT
  have T0 : Hid _ := heap_alloc_new w (.cells #[.slice ap l.length cp, .int .i64 B.now, .slice a1 B.svcs.length c1, .slice a2 B.cps.length c2, .slice a3 B.bts.length c3] 49)
  have hb0 := below_box w (.cells #[.slice ap l.length cp, .int .i64 B.now, .slice a1 B.svcs.length c1, .slice a2 B.cps.length c2, .slice a3 B.bts.length c3] 49)
  have HS0 : Hid ((w.alloc (.cells #[.slice ap l.length cp, .int .i64 B.now, .slice a1 B.svcs.length c1, .slice a2 B.cps.length c2, .slice a3 B.bts.length c3] 49)).heap.size = w.heap.size + 1) := by show (w.heap.push _).size = _; simp
  go_enter Try.func18, Try.ntmps18
  go_wp2_with fail
  refine (specValid_any B a1 a2 a3 c1 c2 c3 _ HT.out HBZ.out (HW.out.book.below hb0)).mono ?_
  rintro e w1 ⟨he, hb1⟩
  subst he
  have hbb1 := hb0.trans (hb1.mono hb0.size)
  have T1 : Hid _ := below_blk hb1 T0.out (by rw [HS0.out]; omega)
  clear T0 hb0 HS0 hb1
  cases hv : validB B
  · have HV : Hid (worldB (l.map (·.b)) B = false) := by unfold Hid worldB; rw [hv]; rfl
    clear hv
    go_wp2
    go_ret
    exact ⟨ret_bool HV.out.symm, hbb1⟩
  have HV : Hid (validB B = true) := hv
  clear hv
  have e0 := blk_cell T1.out 0 rfl
  by_cases h8 : l.length ≤ 8
  case neg =>
    have HNO : Hid (worldB (l.map (·.b)) B = false) := by unfold Hid worldB; rw [HV.out]; simp [h8]
    go_wp2
    go_ret
    exact ⟨ret_bool HNO.out.symm, hbb1⟩
  have H8 : Hid (l.length ≤ 8) := h8
  have h8d : decide (8 < (l.length : Int)) = false := by simp; omega
  go_wp2
  clear h8 h8d e0
  go_loopw [3] (fun iv wr => ∃ k : Nat, k ≤ l.length ∧ iv = .int .i64 k ∧ Below w.heap.size w wr ∧ Hid (wr.heap[w.heap.size]? = some (.cells #[.slice ap l.length cp, .int .i64 B.now, .slice a1 B.svcs.length c1, .slice a2 B.cps.length c2, .slice a3 B.bts.length c3] 49 (0, 0))) ∧ Hid (∀ i, i < k → pastAtB (l.map (·.b)) B i = true)) (fun i _ => l.length - (intOf i).toNat)
  case atStart => exact ⟨0, by omega, rfl, hbb1, T1, fun i hi => absurd hi (by omega)⟩
  case round =>
    clear hbb1 T1
    obtain ⟨k, hk, rfl, hb, hbox1, hall⟩ := hrel
    have hNlt : w.heap.size < wr.heap.size := (Array.getElem?_eq_some_iff.1 hbox1.out).1
    have e0 := blk_cell hbox1.out 0 rfl
    have e1 := blk_cell hbox1.out 1 rfl
    have e2 := blk_cell hbox1.out 2 rfl
    have e3 := blk_cell hbox1.out 3 rfl
    have e4 := blk_cell hbox1.out 4 rfl
    by_cases hlt : k < l.length
    · have hne : l ≠ [] := by intro h; rw [h] at hlt; simp at hlt
      obtain ⟨b, off, ea, hbs, hat⟩ := HW.out.row hne
      subst ea
      obtain ⟨s, hsk⟩ : ∃ s, l[k]? = some s := ⟨l[k], by simp [hlt]⟩
      have HM : Hid (s ∈ l) := List.mem_of_getElem? hsk
      have HSM : Hid s.b.small := HS.out s HM.out
      have HSZ : Hid s.b.sized := HZ.out s HM.out
      have HIN : Hid (BkAt wr s.a1 s.a2 s.a3 s.b) := (HW.out.ins s HM.out).below hb
      have hmk := map_at hsk
      obtain ⟨x0, x1, x2, x3⟩ := ((hat k s hsk).below hb hbs).grown
      have g0 := gcell hbox1.out 0 rfl
      have g1 := gcell hbox1.out 1 rfl
      have g2 := gcell hbox1.out 2 rfl
      have g3 := gcell hbox1.out 3 rfl
      have g4 := gcell hbox1.out 4 rfl
      cases hok : validB s.b
      · have HNO : Hid (pastAtB (l.map (·.b)) B k = false) := by unfold Hid pastAtB; rw [hmk]; simp [hok]
        clear hsk hat hne hmk
        go_wp2
        refine wp_region_quiet_below (by kernel_rfl) (by kernel_rfl) ?_
        repeat (first | go_big_quiet_step (exact Calls.regrown_of (specValid_any s.b s.a1 s.a2 s.a3 s.c1 s.c2 s.c3 _ HSM.out HSZ.out (HIN.out.grown _ _))) | quiet_step (exact Calls.regrown_of (specValid_any s.b s.a1 s.a2 s.a3 s.c1 s.c2 s.c3 _ HSM.out HSZ.out (HIN.out.grown _ _))))
        refine wpQuiet_nil ?_
        intro w2 hw'
        obtain ⟨⟨dq, osq⟩, hw''⟩ := hw'
        have hb2 : Below wr.heap.size wr w2 := by rw [hw'']; exact below_regrown _ _ _
        clear hw'' 
        go_wp2
        go_ret
        exact ⟨ret_bool (world_no hlt HNO.out).symm, hb.trans (hb2.mono hb.size)⟩
      have HOK : Hid (validB s.b = true) := hok
      cases hd : decide (B.now < s.b.now)
      case true =>
        have HNO : Hid (pastAtB (l.map (·.b)) B k = false) := by
          have h' : ¬ s.b.now ≤ B.now := by have := of_decide_eq_true hd; omega
          unfold Hid pastAtB
          rw [hmk]
          simp [h']
        clear hsk hat hne hmk
        go_wp2
        refine wp_region_quiet_below (by kernel_rfl) (by kernel_rfl) ?_
        repeat (first | go_big_quiet_step (exact Calls.regrown_of (specValid_any s.b s.a1 s.a2 s.a3 s.c1 s.c2 s.c3 _ HSM.out HSZ.out (HIN.out.grown _ _))) | quiet_step (exact Calls.regrown_of (specValid_any s.b s.a1 s.a2 s.a3 s.c1 s.c2 s.c3 _ HSM.out HSZ.out (HIN.out.grown _ _))))
        refine wpQuiet_nil ?_
        intro w2 hw'
        obtain ⟨⟨dq, osq⟩, hw''⟩ := hw'
        have hb2 : Below wr.heap.size wr w2 := by rw [hw'']; exact below_regrown _ _ _
        clear hw'' 
        go_wp2
        go_ret
        exact ⟨ret_bool (world_no hlt HNO.out).symm, hb.trans (hb2.mono hb.size)⟩
      have HLE : Hid (s.b.now ≤ B.now) := by have := of_decide_eq_false hd; show s.b.now ≤ B.now; omega
      by_cases hk0 : k = 0
      · have HYES : Hid (pastAtB (l.map (·.b)) B k = true) := by unfold Hid pastAtB; rw [hmk, hk0]; simp [HOK.out, HLE.out]
        have hz : decide (0 < k) = false := by simp; omega
        clear hsk hat hne hk0 hmk
        go_wp2
        refine wp_region_quiet_below (by kernel_rfl) (by kernel_rfl) ?_
        repeat (first | go_big_quiet_step (exact Calls.regrown_of (specValid_any s.b s.a1 s.a2 s.a3 s.c1 s.c2 s.c3 _ HSM.out HSZ.out (HIN.out.grown _ _))) | quiet_step (exact Calls.regrown_of (specValid_any s.b s.a1 s.a2 s.a3 s.c1 s.c2 s.c3 _ HSM.out HSZ.out (HIN.out.grown _ _))))
        refine wpQuiet_nil ?_
        intro w2 hw'
        obtain ⟨⟨dq, osq⟩, hw''⟩ := hw'
        have hb2 : Below wr.heap.size wr w2 := by rw [hw'']; exact below_regrown _ _ _
        clear hw'' 
        have hbox2 : Hid _ := below_blk hb2 hbox1.out hNlt
        have hb3 := hb.trans (hb2.mono hb.size)
        clear g0 g1 g2 g3 g4 x0 x1 x2 x3 e0 e1 e2 e3 e4
        go_wp2
        go_roundw
        case rel => exact ⟨k + 1, by omega, by go_num, hb3, hbox2, upTo_step hall.out HYES.out⟩
        case measure => simp [intOf]; omega
      obtain ⟨k', rfl⟩ : ∃ k', k = k' + 1 := ⟨k - 1, by omega⟩
      clear hk0
      obtain ⟨p, hpk⟩ : ∃ p, l[k']? = some p := ⟨l[k']'(by omega), by rw [List.getElem?_eq_getElem]⟩
      have hmp := map_at hpk
      obtain ⟨y0, y1, y2, y3⟩ := ((hat k' p hpk).below hb hbs).grown
      cases hle : decide (s.b.now < p.b.now)
      · have HYES : Hid (pastAtB (l.map (·.b)) B (k' + 1) = true) := by
          unfold Hid pastAtB
          have h' : p.b.now ≤ s.b.now := by have := of_decide_eq_false hle; omega
          rw [hmk]
          simp only [hmp, HOK.out, HLE.out, h', decide_true, Bool.and_true]
        clear hsk hat hne hpk hmk hmp
        go_wp2
        refine wp_region_quiet_below (by kernel_rfl) (by kernel_rfl) ?_
        repeat (first | go_big_quiet_step (exact Calls.regrown_of (specValid_any s.b s.a1 s.a2 s.a3 s.c1 s.c2 s.c3 _ HSM.out HSZ.out (HIN.out.grown _ _))) | quiet_step (exact Calls.regrown_of (specValid_any s.b s.a1 s.a2 s.a3 s.c1 s.c2 s.c3 _ HSM.out HSZ.out (HIN.out.grown _ _))))
        refine wpQuiet_nil ?_
        intro w2 hw'
        obtain ⟨⟨dq, osq⟩, hw''⟩ := hw'
        have hb2 : Below wr.heap.size wr w2 := by rw [hw'']; exact below_regrown _ _ _
        clear hw'' 
        have hbox2 : Hid _ := below_blk hb2 hbox1.out hNlt
        have hb3 := hb.trans (hb2.mono hb.size)
        clear g0 g1 g2 g3 g4 x0 x1 x2 x3 y0 y1 y2 y3 e0 e1 e2 e3 e4
        go_wp2
        go_roundw
        case rel => exact ⟨k' + 1 + 1, by omega, by go_num, hb3, hbox2, upTo_step hall.out HYES.out⟩
        case measure => simp [intOf]; omega
      · have HNO : Hid (pastAtB (l.map (·.b)) B (k' + 1) = false) := by
          unfold Hid pastAtB
          have h' : ¬ p.b.now ≤ s.b.now := by have := of_decide_eq_true hle; omega
          rw [hmk]
          simp only [hmp, h', decide_false, Bool.and_false]
        clear hsk hat hne hpk hmk hmp
        go_wp2
        refine wp_region_quiet_below (by kernel_rfl) (by kernel_rfl) ?_
        repeat (first | go_big_quiet_step (exact Calls.regrown_of (specValid_any s.b s.a1 s.a2 s.a3 s.c1 s.c2 s.c3 _ HSM.out HSZ.out (HIN.out.grown _ _))) | quiet_step (exact Calls.regrown_of (specValid_any s.b s.a1 s.a2 s.a3 s.c1 s.c2 s.c3 _ HSM.out HSZ.out (HIN.out.grown _ _))))
        refine wpQuiet_nil ?_
        intro w2 hw'
        obtain ⟨⟨dq, osq⟩, hw''⟩ := hw'
        have hb2 : Below wr.heap.size wr w2 := by rw [hw'']; exact below_regrown _ _ _
        clear hw'' 
        go_wp2
        go_ret
        exact ⟨ret_bool (world_no hlt HNO.out).symm, hb.trans (hb2.mono hb.size)⟩
    · have HYES : Hid (worldB (l.map (·.b)) B = true) := by
        unfold Hid worldB
        rw [HV.out, allTo_yes fun i hi => hall.out i (by simp at hi; omega)]
        simp [H8.out]
      clear hall
      go_wp2
      go_ret
      exact ⟨ret_bool HYES.out.symm, hb⟩

end Go.Proofs.Ytbceafpodamnfab

/-
  My own. The program's StewWorldOk.
-/
namespace Go.Proofs.Ytbceafpodamnfab
open Go.RowKit Go.Sort

def bxsV (l : List Bx) : List Value := l.flatMap Bx.cells
theorem bxsV_add (l : List Bx) (x : Bx) : bxsV (l ++ [x]) = bxsV l ++ (#[.int .i64 x.b.now, .slice x.a1 x.b.svcs.length x.c1, .slice x.a2 x.b.cps.length x.c2, .slice x.a3 x.b.bts.length x.c3] : Array Value).toList := by simp [bxsV, Bx.cells]

set_option maxRecDepth 100000 in
set_option maxHeartbeats 8000000 in
theorem keptBx0 (fk : Nat) (hent : ∀ args w, (callFunc fk args).run Try.prog w = .ok (.enter fk args) w) (p : Bx → Bool) (l : List Bx) (al : Option Addr) (cl : Nat) (w : World) (hl : l.length ≤ 1048576) (hL : SlX w al l)
    (hC : ∀ x ∈ l, ∀ W : World, Below w.heap.size w W → Calls Try.prog fk #[.agg #[.int .i64 x.b.now, .slice x.a1 x.b.svcs.length x.c1, .slice x.a2 x.b.cps.length x.c2, .slice x.a3 x.b.bts.length x.c3]] W fun e w' => e = .returned (.bool (p x)) ∧ Below W.heap.size W w') :
    Calls Try.prog 107 #[.slice al l.length cl, .func (.func fk) #[] #[]] w fun e w' => ∃ ao co, e = .returned (.slice ao (l.filter p).length co) ∧ w'.ownsRow w.heap.size 33 4 (.slice ao (l.filter p).length co) (l.filter p).length (bxsV (l.filter p)) ∧ Below w.heap.size w w' := by
  have HL : Hid (SlX w al l) := hL
  have HC : Hid _ := hC
  clear hL hC
  go_enter Try.func107, Try.ntmps107
  go_wp2
  go_loopw [5, 10] (fun ov iv wr => ∃ (k m : Nat) (ao : Option Addr) (co : Nat), k ≤ l.length ∧ iv = .int .i64 k ∧ ov = .slice ao m co ∧ m ≤ k ∧ Hid (m = ((l.take k).filter p).length) ∧ Below w.heap.size w wr ∧ Hid (wr.ownsRow w.heap.size 33 4 (.slice ao m co) m (bxsV ((l.take k).filter p)))) (fun _ i _ => l.length - (intOf i).toNat)
  case atStart => exact ⟨0, 0, none, 0, by omega, rfl, rfl, Nat.le_refl _, rfl, Below.refl _ _, World.ownsRow_nil _ _ _ _⟩
  case round =>
    obtain ⟨k, m, ao, co, hk, rfl, rfl, hmk, HM, hb, hown⟩ := hrel
    have hz := hb.size
    by_cases hlt : k < l.length
    · obtain ⟨x, hx⟩ : ∃ x, l[k]? = some x := ⟨l[k], by simp [hlt]⟩
      have HX : Hid ((l.take (k + 1)).filter p = (l.take k).filter p ++ (if p x then [x] else [])) := by
        unfold Hid
        rw [List.take_add_one, hx, List.filter_append]
        cases hp : (p x) <;> simp [List.filter, hp]
      have hne : l ≠ [] := by intro h; rw [h] at hlt; simp at hlt
      obtain ⟨g, off, ea, hgw, hat⟩ := HL.out hne
      subst ea
      have hat' := (hat k x hx).below hb hgw
      unfold BxAt at hat'
      obtain ⟨c0, c1, c2, c3⟩ := hat'
      have HM0 : x ∈ l := List.mem_of_getElem? hx
      obtain ⟨px, HX1, HC1⟩ : ∃ q : Bool, Hid ((l.take (k + 1)).filter p = (l.take k).filter p ++ (if q then [x] else [])) ∧ Hid (∀ W : World, Below w.heap.size w W → Calls Try.prog fk #[.agg #[.int .i64 x.b.now, .slice x.a1 x.b.svcs.length x.c1, .slice x.a2 x.b.cps.length x.c2, .slice x.a3 x.b.bts.length x.c3]] W fun e w' => e = .returned (.bool q) ∧ Below W.heap.size W w') := ⟨_, HX, fun W h => HC.out x HM0 W h⟩
      clear HX hx hat HM0 hne
      have hba := hb.trans ((below_box wr (.cells #[.int .i64 x.b.now, .slice x.a1 x.b.svcs.length x.c1, .slice x.a2 x.b.cps.length x.c2, .slice x.a3 x.b.bts.length x.c3] 33)).mono hz)
      go_wp2_with fail
      refine (HC1.out _ hba).mono ?_
      rintro e w1 ⟨rfl, hb1⟩
      have hown1 : Hid _ := ownV_below (ownV_below hown.out (below_box wr (.cells #[.int .i64 x.b.now, .slice x.a1 x.b.svcs.length x.c1, .slice x.a2 x.b.cps.length x.c2, .slice x.a3 x.b.bts.length x.c3] 33)) (Nat.le_refl _)) hb1 (Nat.le_refl _)
      have T1 : Hid _ := below_blk hb1 (heap_alloc_new wr (.cells #[.int .i64 x.b.now, .slice x.a1 x.b.svcs.length x.c1, .slice x.a2 x.b.cps.length x.c2, .slice x.a3 x.b.bts.length x.c3] 33)) (by simp)
      have hbw1 := hb.trans (((below_box wr (.cells #[.int .i64 x.b.now, .slice x.a1 x.b.svcs.length x.c1, .slice x.a2 x.b.cps.length x.c2, .slice x.a3 x.b.bts.length x.c3] 33)).trans (hb1.mono (by simp))).mono hz)
      have hz1 := hbw1.size
      clear hown hb1 hba c0 c1 c2 c3
      cases px
      · go_wp2
        go_roundw
        case rel => exact ⟨k + 1, m, ao, co, by omega, by go_num, rfl, by omega, by unfold Hid; rw [HX1.out, HM.out]; simp, hbw1, by unfold Hid; rw [HX1.out]; simp only [Bool.false_eq_true, if_false, List.append_nil]; exact hown1.out⟩
        case measure => simp [intOf]; omega
      · go_wp2_with (first
          | (refine wpList_load_row rfl 33 (.tmp 18) rfl wr.heap.size rfl 33 #[.int .i64 x.b.now, .slice x.a1 x.b.svcs.length x.c1, .slice x.a2 x.b.cps.length x.c2, .slice x.a3 x.b.bts.length x.c3] (0, 0) _ T1.out Try.underlying33 rfl Try.infosBook ?_)
          | (refine wpList_load_row rfl 33 (.tmp 7) rfl wr.heap.size rfl 33 #[.int .i64 x.b.now, .slice x.a1 x.b.svcs.length x.c1, .slice x.a2 x.b.cps.length x.c2, .slice x.a3 x.b.bts.length x.c3] (0, 0) _ T1.out Try.underlying33 rfl Try.infosBook ?_)
          | (at_builtin; refine wpList_append_mineV rfl (.tmp 17) (.tmp 19) 47 rfl w.heap.size 33 _ 4 80 Try.underlying47 Try.infoBook rfl (by omega) (.slice ao m co) m _ rfl (ownV_below hown1.out (below_box w1 _) (Nat.le_refl _)) ⟨w1.heap.size, 0, none⟩ 1 (#[.int .i64 x.b.now, .slice x.a1 x.b.svcs.length x.c1, .slice x.a2 x.b.cps.length x.c2, .slice x.a3 x.b.bts.length x.c3] : Array Value).toList rfl rfl (news_row (heap_alloc_new w1 _)) (fun u hu => (Array.all_eq_true_iff_forall_mem.1 (one_Bx x)) u (by simpa using hu)) (by unfold maxLen; omega) (by omega) (by simp; omega) ?_; intro g' cap' w2 hg' hown2 hb2))
        have hbw2 := hbw1.trans (((below_box w1 (.cells #[.int .i64 x.b.now, .slice x.a1 x.b.svcs.length x.c1, .slice x.a2 x.b.cps.length x.c2, .slice x.a3 x.b.bts.length x.c3] 33)).mono hz1).trans hb2)
        go_wp2
        go_roundw
        case rel => exact ⟨k + 1, m + 1, _, _, by omega, by go_num, rfl, by omega, by unfold Hid; rw [HX1.out, HM.out]; simp, hbw2, by unfold Hid; rw [HX1.out]; simp only [if_true, bxsV_add]; exact hown2.out⟩
        case measure => simp [intOf]; omega
    · obtain rfl : k = l.length := by omega
      have HE : Hid ((l.take l.length).filter p = l.filter p) := by unfold Hid; rw [List.take_length]
      have HM2 : Hid (m = (l.filter p).length) := by unfold Hid; rw [HM.out, HE.out]
      go_wp2
      go_ret
      refine ⟨ao, co, congrArg (fun q => Ending.returned (.slice ao q co)) HM2.out, ?_, hb⟩
      rw [← HM2.out, ← HE.out]
      exact hown.out

set_option maxRecDepth 100000 in
set_option maxHeartbeats 8000000 in
theorem howManyBx0 (fk : Nat) (hent : ∀ args w, (callFunc fk args).run Try.prog w = .ok (.enter fk args) w) (p : Bx → Bool) (l : List Bx) (al : Option Addr) (cl : Nat) (w : World) (hl : l.length ≤ 1048576) (hL : SlX w al l)
    (hC : ∀ x ∈ l, ∀ W : World, Below w.heap.size w W → Calls Try.prog fk #[.agg #[.int .i64 x.b.now, .slice x.a1 x.b.svcs.length x.c1, .slice x.a2 x.b.cps.length x.c2, .slice x.a3 x.b.bts.length x.c3]] W fun e w' => e = .returned (.bool (p x)) ∧ Below W.heap.size W w') :
    Calls Try.prog 92 #[.slice al l.length cl, .func (.func fk) #[] #[]] w fun e w' => e = .returned (.int .i64 (l.filter p).length) ∧ Below w.heap.size w w' := by
  have HC : Hid _ := hC
  have HL : Hid (SlX w al l) := hL
  clear hL hC
  go_enter Try.func92, Try.ntmps92
  go_wp2_with fail
  refine (keptBx0 fk hent  p l al cl w hl HL.out HC.out).mono ?_
  rintro e w1 ⟨ao, co, rfl, _, hb1⟩
  go_wp2
  go_ret
  exact ⟨rfl, hb1⟩


theorem filter_map_b (l : List Bx) : ((l.map (·.b)).filter validB).length = (l.filter (fun x => validB x.b)).length := by
  induction l with
  | nil => rfl
  | cons x l ih =>
    simp only [List.map_cons, List.filter_cons]
    split <;> simp [ih]

set_option maxRecDepth 100000 in
set_option maxHeartbeats 1000000 in
theorem pastFits_any (l : List Bx) (ap : Option Addr) (cp : Nat) (B : Bk) (a1 a2 a3 : Option Addr) (c1 c2 c3 : Nat) (w : World) (hl : l.length ≤ 1048576) :
    Calls Try.prog 47 #[.agg #[.slice ap l.length cp, .int .i64 B.now, .slice a1 B.svcs.length c1, .slice a2 B.cps.length c2, .slice a3 B.bts.length c3]] w fun e w' => e = .returned (.bool (decide (l.length ≤ 8))) ∧ Below w.heap.size w w' := by
  go_enter Try.func47, Try.ntmps47
  go_wp2
  go_ret
  refine ⟨?_, below_box w _⟩
  congr 2
  simp
  omega

set_option maxRecDepth 100000 in
set_option maxHeartbeats 4000000 in
theorem booksHold_any (l : List Bx) (ap : Option Addr) (cp : Nat) (B : Bk) (a1 a2 a3 : Option Addr) (c1 c2 c3 : Nat) (w : World) (hl : l.length ≤ 1048576) (hZ : Sizeds l) (hS : Smalls l) (hBZ : B.sized) (hT : B.small) (hW : WAt w ap l a1 a2 a3 B) :
    Calls Try.prog 48 #[.agg #[.slice ap l.length cp, .int .i64 B.now, .slice a1 B.svcs.length c1, .slice a2 B.cps.length c2, .slice a3 B.bts.length c3]] w fun e w' => e = .returned (.bool (holdB (l.map (·.b)) B)) ∧ Below w.heap.size w w' := by
  have HW : Hid (WAt w ap l a1 a2 a3 B) := hW
  have HS : Hid _ := hS
  have HZ : Hid _ := hZ
  have HBZ : Hid _ := hBZ
  have HT : Hid _ := hT
  clear hW hS hZ hBZ hT
  obtain ⟨W0, hW0⟩ : ∃ W0, w.alloc (.cells #[.slice ap l.length cp, .int .i64 B.now, .slice a1 B.svcs.length c1, .slice a2 B.cps.length c2, .slice a3 B.bts.length c3] 49) = W0 := ⟨_, rfl⟩
  have T0 : Hid (W0.heap[w.heap.size]? = some (.cells #[.slice ap l.length cp, .int .i64 B.now, .slice a1 B.svcs.length c1, .slice a2 B.cps.length c2, .slice a3 B.bts.length c3] 49 (0, 0))) := hW0 ▸ heap_alloc_new w _
  have HB0 : Hid (Below w.heap.size w W0) := hW0 ▸ below_box w _
  have g0 := gcell T0.out 0 rfl
  have g1 := gcell T0.out 1 rfl
  have g2 := gcell T0.out 2 rfl
  have g3 := gcell T0.out 3 rfl
  have g4 := gcell T0.out 4 rfl
  have HIN : Hid (BkAt W0 a1 a2 a3 B) := HW.out.book.below HB0.out
  have HHM : Hid (∀ W : World, Below W0.heap.size W0 W → Calls Try.prog 92 #[.slice ap l.length cp, .func (.func 31) #[] #[]] W fun e w' => e = .returned (.int .i64 (l.filter (fun x => validB x.b)).length) ∧ Below W.heap.size W w') := fun W hWb =>
    howManyBx0 31 (enters_of Try.func31 (by kernel_rfl) rfl) (fun x => validB x.b) l ap cp W hl ((HW.out.row.below HB0.out).below hWb) (fun x hx W2 hb2 => implValid_any x.b x.a1 x.a2 x.a3 x.c1 x.c2 x.c3 W2 (HS.out x hx) (HZ.out x hx) (((HW.out.ins x hx).below HB0.out).below hWb |>.below hb2))
  have HFM : Hid (((l.map (·.b)).filter validB).length = (l.filter (fun x => validB x.b)).length) := filter_map_b l
  have HLM : Hid ((l.map (·.b)).length = l.length) := by unfold Hid; simp
  have HNL : Hid ((l.filter (fun x => validB x.b)).length ≤ l.length) := List.length_filter_le _ _
  obtain ⟨n, HN⟩ : ∃ n, Hid (n = (l.filter (fun x => validB x.b)).length) := ⟨_, rfl⟩
  have HHM2 : Hid (∀ W : World, Below W0.heap.size W0 W → Calls Try.prog 92 #[.slice ap l.length cp, .func (.func 31) #[] #[]] W fun e w' => e = .returned (.int .i64 n) ∧ Below W.heap.size W w') := by unfold Hid; rw [HN.out]; exact HHM.out
  clear HHM
  cases hv : validB B
  · have HA : Hid (holdB (l.map (·.b)) B = false) := by unfold Hid holdB; rw [hv]; rfl
    have HVC : Hid (∀ W : World, Below W0.heap.size W0 W → Calls Try.prog 31 #[.agg #[.int .i64 B.now, .slice a1 B.svcs.length c1, .slice a2 B.cps.length c2, .slice a3 B.bts.length c3]] W fun e w' => e = .returned (.bool false) ∧ Below W.heap.size W w') := fun W hb => hv ▸ implValid_any B a1 a2 a3 c1 c2 c3 W HT.out HBZ.out (HIN.out.below hb)
    clear hv
    go_enter Try.func48, Try.ntmps48
    go_wp2
    clear hW0
    refine wp_region_quiet_below (by kernel_rfl) (by kernel_rfl) ?_
    repeat (first | go_big_quiet_step (exact Calls.regrown_of (HVC.out _ (below_regrown _ _ _))) | quiet_step (exact Calls.regrown_of (HVC.out _ (below_regrown _ _ _))))
    refine wpQuiet_nil ?_
    intro w2 hw'
    obtain ⟨⟨dq, osq⟩, hw''⟩ := hw'
    have hb2 : Below W0.heap.size W0 w2 := by rw [hw'']; exact below_regrown _ _ _
    clear hw''
    go_wp2
    go_ret
    exact ⟨ret_bool HA.out.symm, HB0.out.trans (hb2.mono HB0.out.size)⟩
  have HVC : Hid (∀ W : World, Below W0.heap.size W0 W → Calls Try.prog 31 #[.agg #[.int .i64 B.now, .slice a1 B.svcs.length c1, .slice a2 B.cps.length c2, .slice a3 B.bts.length c3]] W fun e w' => e = .returned (.bool true) ∧ Below W.heap.size W w') := fun W hb => hv ▸ implValid_any B a1 a2 a3 c1 c2 c3 W HT.out HBZ.out (HIN.out.below hb)
  have HV : Hid (validB B = true) := hv
  clear hv
  cases hd : ((n : Int) == (l.length : Int))
  all_goals
    have HA : Hid (holdB (l.map (·.b)) B = ((n : Int) == (l.length : Int))) := by
      unfold Hid holdB
      rw [HV.out, HFM.out, HLM.out, ← HN.out, Bool.true_and, Bool.eq_iff_iff]
      simp only [decide_eq_true_eq, beq_iff_eq]
      constructor <;> intro h <;> omega
    rw [hd] at HA
    go_enter Try.func48, Try.ntmps48
    go_wp2
    clear hW0
    refine wp_region_quiet_below (by kernel_rfl) (by kernel_rfl) ?_
    repeat (first | go_big_quiet_step (first | exact Calls.regrown_of (HVC.out _ (below_regrown _ _ _)) | exact Calls.regrown_of (HHM2.out _ (below_regrown _ _ _))) | quiet_step (first | exact Calls.regrown_of (HVC.out _ (below_regrown _ _ _)) | exact Calls.regrown_of (HHM2.out _ (below_regrown _ _ _))))
    refine wpQuiet_nil ?_
    intro w2 hw'
    obtain ⟨⟨dq, osq⟩, hw''⟩ := hw'
    have hb2 : Below W0.heap.size W0 w2 := by rw [hw'']; exact below_regrown _ _ _
    clear hw''
    go_wp2
    go_ret
    exact ⟨ret_bool HA.out.symm, HB0.out.trans (hb2.mono HB0.out.size)⟩

end Go.Proofs.Ytbceafpodamnfab
