/-
  My own: Ve, Vf, Va.
-/
import Derived.Test.YtbceafpodamnfabG09
import Derived.Test.YtbceafpodamnfabG04
import Derived.Test.YtbceafpodamnfabG01
import Derived.Test.YtbceafpodamnfabG06
import Derived.Test.YtbceafpodamnfabG07
import Derived.Test.YtbceafpodamnfabG05
/-
  My own. The rank by the program: its small functions.
-/
namespace Go.Proofs.Ytbceafpodamnfab
open Go.RowKit Go.Sort Go.Maps

set_option maxRecDepth 100000 in
set_option maxHeartbeats 2000000 in
theorem live1_any (c : Cp) (w : World) : Calls Try.prog 77 #[.agg #[.string c.service, .int .i64 c.number, .int .i64 c.version, .int .i64 c.image, .int .i64 c.state, .bool c.ending, .string c.berth]] w fun e w' => e = .returned (.bool (!c.ending)) ∧ Below w.heap.size w w' := by
  go_enter Try.func77, Try.ntmps77
  go_wp2
  go_ret
  exact ⟨rfl, below_box _ _⟩

set_option maxRecDepth 100000 in
set_option maxHeartbeats 2000000 in
theorem gone1_any (s : Svc) (w : World) : Calls Try.prog 79 #[.agg #[.string s.name, .int .i64 s.version, .bool s.gone, .int .i64 s.image, .int .i64 s.want, .int .i64 s.down, .int .i64 s.over, .int .i64 s.next, .int .i64 s.per, .int .i64 s.least, .int .i64 s.most, .int .i64 s.load, .int .i64 s.cool]] w fun e w' => e = .returned (.bool s.gone) ∧ Below w.heap.size w w' := by
  go_enter Try.func79, Try.ntmps79
  go_wp2
  go_ret
  exact ⟨rfl, below_box _ _⟩

set_option maxRecDepth 100000 in
set_option maxHeartbeats 2000000 in
theorem unready1_any (c : Cp) (w : World) : Calls Try.prog 90 #[.agg #[.string c.service, .int .i64 c.number, .int .i64 c.version, .int .i64 c.image, .int .i64 c.state, .bool c.ending, .string c.berth]] w fun e w' => e = .returned (.bool (c.state != 3)) ∧ Below w.heap.size w w' := by
  go_enter Try.func90, Try.ntmps90
  go_wp2
  go_ret
  exact ⟨by simp, below_box _ _⟩

/-- The service of a copy, found by the map of places. -/
def SvcFn (w : World) (pb pm b : Nat) (a1 a2 a3 : Option Addr) (c1 c2 c3 : Nat) (B : Bk) : Prop :=
  w.heap[pb]? = some (.cells #[.int .i64 B.now, .slice a1 B.svcs.length c1, .slice a2 B.cps.length c2, .slice a3 B.bts.length c3] 33 (0, 0)) ∧ w.heap[pm]? = some (.cells #[.map (some b)] 104 (0, 0)) ∧ PlacesX w b B B.svcs.length B.bts.length ∧ BkAt w a1 a2 a3 B
theorem SvcFn.below {N : Nat} {w w' : World} {pb pm b : Nat} {a1 a2 a3 : Option Addr} {c1 c2 c3 : Nat} {B : Bk} (h : SvcFn w pb pm b a1 a2 a3 c1 c2 c3 B) (hb : Below N w w') (hN : w.heap.size ≤ N) : SvcFn w' pb pm b a1 a2 a3 c1 c2 c3 B := by
  obtain ⟨h1, h2, h3, h4⟩ := h
  have z1 := (Array.getElem?_eq_some_iff.1 h1).1
  have z2 := (Array.getElem?_eq_some_iff.1 h2).1
  exact ⟨below_blk hb h1 (by omega), below_blk hb h2 (by omega), h3.below hb (by have := h3.lt; omega), h4.below (hb.mono hN)⟩

theorem run_field_gone (s : Svc) (w : World) : (Instr.field 57 (.agg #[.string s.name, .int .i64 s.version, .bool s.gone, .int .i64 s.image, .int .i64 s.want, .int .i64 s.down, .int .i64 s.over, .int .i64 s.next, .int .i64 s.per, .int .i64 s.least, .int .i64 s.most, .int .i64 s.load, .int .i64 s.cool]) 2).run Try.prog w = .ok (.bool s.gone) w := by
  kernel_rfl

theorem hent_of {f : Nat} (h : (∀ args w, (callFunc f args).run Try.prog w = .ok (.enter f args) w)) : ∀ args w, (callFunc f args).run Try.prog w = .ok (.enter f args) w := h

set_option maxRecDepth 100000 in
set_option maxHeartbeats 16000000 in
theorem serviceOf_any (B : Bk) (s : Svc) (c : Cp) (pb pm b : Nat) (a1 a2 a3 : Option Addr) (c1 c2 c3 : Nat) (w : World) (hS : B.small) (hcz : c.service.size ≤ maxLen) (hsv : svcOf B c.service = some s) (hF : SvcFn w pb pm b a1 a2 a3 c1 c2 c3 B) :
    Calls Try.prog 75 #[.agg #[.string c.service, .int .i64 c.number, .int .i64 c.version, .int .i64 c.image, .int .i64 c.state, .bool c.ending, .string c.berth], .pointer (some ⟨pb, 0, none⟩), .pointer (some ⟨pm, 0, none⟩)] w fun e w' => e = .returned (.agg #[.string s.name, .int .i64 s.version, .bool s.gone, .int .i64 s.image, .int .i64 s.want, .int .i64 s.down, .int .i64 s.over, .int .i64 s.next, .int .i64 s.per, .int .i64 s.least, .int .i64 s.most, .int .i64 s.load, .int .i64 s.cool]) ∧ Below w.heap.size w w' := by
  obtain ⟨hl1, hl2, hl3⟩ := hS
  obtain ⟨ix, hix, _⟩ := idxOf_find hsv
  have hixlt := (List.getElem?_eq_some_iff.1 hix).1
  have HSX : Hid _ := hix
  have HNM : Hid (s.name = c.service) := same_name.1 (List.find?_some (p := fun b : Svc => b.name.toList == c.service.toList) hsv)
  obtain ⟨W0, hW0, t0, t1, hz0, hz1, hb0⟩ := two_newV w (.cells #[.string c.service, .int .i64 c.number, .int .i64 c.version, .int .i64 c.image, .int .i64 c.state, .bool c.ending, .string c.berth] 72) (.cells #[.string ⟨#[]⟩, .int .i64 0, .bool false, .int .i64 0, .int .i64 0, .int .i64 0, .int .i64 0, .int .i64 0, .int .i64 0, .int .i64 0, .int .i64 0, .int .i64 0, .int .i64 0] 57)
  have T0 : Hid _ := t0
  have T1 : Hid _ := t1
  have HF0 : Hid (SvcFn W0 pb pm b a1 a2 a3 c1 c2 c3 B) := hF.below hb0 (Nat.le_refl _)
  have hne : B.svcs ≠ [] := by intro h; rw [h] at hixlt; simp at hixlt
  obtain ⟨bS, oS, ea, hbsS, hat⟩ := HF0.out.2.2.2.1 hne
  subst ea
  have hsx := hat ix s hix
  clear t0 t1 hF hix hne hat hsv
  go_enter Try.func75, Try.ntmps75
  go_upto_region 1 with fail
  clear hW0
  refine wp_region_grows 9 (by kernel_rfl) (by kernel_rfl) ?_
  apply grow_eq
  · intro V W K A hW hd hA hK
    simp only [putAll, List.getElem?_toArray, List.getElem?_cons_succ, List.getElem?_cons_zero, Option.bind_some, Act.put, List.setIfInBounds_toArray, List.set_cons_succ, List.set_cons_zero] at hA
    clear hd
    generalize V 0 = x0 at hA
    generalize V 1 = x1 at hA
    generalize V 2 = x2 at hA
    generalize V 3 = x3 at hA
    generalize V 4 = x4 at hA
    generalize V 5 = x5 at hA
    generalize V 6 = x6 at hA
    generalize V 7 = x7 at hA
    generalize V 8 = x8 at hA
    obtain rfl := hA
    go_wp2
    exact hK.out _ (Below.refl _ _)
  apply grow_eq
  · intro V W K A hW hd hA hK
    have d0 : V 0 = _ := hd 0 (by kernel_rfl)
    simp only [putAll, List.getElem?_toArray, List.getElem?_cons_succ, List.getElem?_cons_zero, Option.bind_some, Act.put, List.setIfInBounds_toArray, List.set_cons_succ, List.set_cons_zero] at hA
    clear hd
    generalize V 0 = x0 at d0 hA
    generalize V 1 = x1 at hA
    generalize V 2 = x2 at hA
    generalize V 3 = x3 at hA
    generalize V 4 = x4 at hA
    generalize V 5 = x5 at hA
    generalize V 6 = x6 at hA
    generalize V 7 = x7 at hA
    generalize V 8 = x8 at hA
    subst d0
    obtain rfl := hA
    have e1 := blk_cell (HF0.out.below hW (Nat.le_refl _)).1 1 rfl
    go_wp2
    exact hK.out _ (Below.refl _ _)
  apply grow_eq
  · intro V W K A hW hd hA hK
    simp only [putAll, List.getElem?_toArray, List.getElem?_cons_succ, List.getElem?_cons_zero, Option.bind_some, Act.put, List.setIfInBounds_toArray, List.set_cons_succ, List.set_cons_zero] at hA
    clear hd
    generalize V 0 = x0 at hA
    generalize V 1 = x1 at hA
    generalize V 2 = x2 at hA
    generalize V 3 = x3 at hA
    generalize V 4 = x4 at hA
    generalize V 5 = x5 at hA
    generalize V 6 = x6 at hA
    generalize V 7 = x7 at hA
    generalize V 8 = x8 at hA
    obtain rfl := hA
    have e1 := blk_cell (HF0.out.below hW (Nat.le_refl _)).2.1 0 rfl
    go_wp2
    exact hK.out _ (Below.refl _ _)
  apply grow_eq
  · intro V W K A hW hd hA hK
    simp only [putAll, List.getElem?_toArray, List.getElem?_cons_succ, List.getElem?_cons_zero, Option.bind_some, Act.put, List.setIfInBounds_toArray, List.set_cons_succ, List.set_cons_zero] at hA
    clear hd
    generalize V 0 = x0 at hA
    generalize V 1 = x1 at hA
    generalize V 2 = x2 at hA
    generalize V 3 = x3 at hA
    generalize V 4 = x4 at hA
    generalize V 5 = x5 at hA
    generalize V 6 = x6 at hA
    generalize V 7 = x7 at hA
    generalize V 8 = x8 at hA
    obtain rfl := hA
    go_wp2
    exact hK.out _ (Below.refl _ _)
  apply grow_eq
  · intro V W K A hW hd hA hK
    have d3 : V 3 = _ := hd 3 (by kernel_rfl)
    simp only [putAll, List.getElem?_toArray, List.getElem?_cons_succ, List.getElem?_cons_zero, Option.bind_some, Act.put, List.setIfInBounds_toArray, List.set_cons_succ, List.set_cons_zero] at hA
    clear hd
    generalize V 0 = x0 at hA
    generalize V 1 = x1 at hA
    generalize V 2 = x2 at hA
    generalize V 3 = x3 at d3 hA
    generalize V 4 = x4 at hA
    generalize V 5 = x5 at hA
    generalize V 6 = x6 at hA
    generalize V 7 = x7 at hA
    generalize V 8 = x8 at hA
    subst d3
    obtain rfl := hA
    have y0 := blk_cell (below_blk hW T0.out (by omega)) 0 rfl
    go_wp2
    exact hK.out _ (Below.refl _ _)
  apply grow_eq
  · intro V W K A hW hd hA hK
    have d4 : V 4 = _ := hd 4 (by kernel_rfl)
    simp only [putAll, List.getElem?_toArray, List.getElem?_cons_succ, List.getElem?_cons_zero, Option.bind_some, Act.put, List.setIfInBounds_toArray, List.set_cons_succ, List.set_cons_zero] at hA
    clear hd
    generalize V 0 = x0 at hA
    generalize V 1 = x1 at hA
    generalize V 2 = x2 at hA
    generalize V 3 = x3 at hA
    generalize V 4 = x4 at d4 hA
    generalize V 5 = x5 at hA
    generalize V 6 = x6 at hA
    generalize V 7 = x7 at hA
    generalize V 8 = x8 at hA
    subst d4
    obtain rfl := hA
    go_wp2
    exact hK.out _ (Below.refl _ _)
  apply grow_eq
  · intro V W K A hW hd hA hK
    have d2 : V 2 = _ := hd 2 (by kernel_rfl)
    have d5 : V 5 = _ := hd 5 (by kernel_rfl)
    simp only [putAll, List.getElem?_toArray, List.getElem?_cons_succ, List.getElem?_cons_zero, Option.bind_some, Act.put, List.setIfInBounds_toArray, List.set_cons_succ, List.set_cons_zero] at hA
    clear hd
    generalize V 0 = x0 at hA
    generalize V 1 = x1 at hA
    generalize V 2 = x2 at d2 hA
    generalize V 3 = x3 at hA
    generalize V 4 = x4 at hA
    generalize V 5 = x5 at d5 hA
    generalize V 6 = x6 at hA
    generalize V 7 = x7 at hA
    generalize V 8 = x8 at hA
    subst d2
    subst d5
    obtain rfl := hA
    obtain ⟨n, D, hn, hown, q1, q2, q3, q4⟩ := (HF0.out.below hW (Nat.le_refl _)).2.2.1
    have H2 := q2 ix s hixlt HSX.out
    rw [HNM.out] at H2
    have HAT : Hid _ := H2.2
    clear q1 q2 q3 q4 H2
    refine wpList_lookup_own_int _ rfl (.tmp 7) (.tmp 10) 104 rfl 107 3 .i64 thingLaw Try.underlying104 Try.underlying3 (zeroInt _) b n D rfl hown _ _ rfl (key_ok 1 c.service wf1 hcz) fun c0 hc0 _ => ?_
    have hcc : c0 = (ix : Int) := by rw [HAT.out] at hc0; simpa using hc0.symm
    subst hcc
    exact hK.out _ (Below.refl _ _)
  apply grow_eq
  · intro V W K A hW hd hA hK
    have d1 : V 1 = _ := hd 1 (by kernel_rfl)
    have d6 : V 6 = _ := hd 6 (by kernel_rfl)
    simp only [putAll, List.getElem?_toArray, List.getElem?_cons_succ, List.getElem?_cons_zero, Option.bind_some, Act.put, List.setIfInBounds_toArray, List.set_cons_succ, List.set_cons_zero] at hA
    clear hd
    generalize V 0 = x0 at hA
    generalize V 1 = x1 at d1 hA
    generalize V 2 = x2 at hA
    generalize V 3 = x3 at hA
    generalize V 4 = x4 at hA
    generalize V 5 = x5 at hA
    generalize V 6 = x6 at d6 hA
    generalize V 7 = x7 at hA
    generalize V 8 = x8 at hA
    subst d1
    subst d6
    obtain rfl := hA
    go_wp2
    exact hK.out _ (Below.refl _ _)
  apply grow_eq
  · intro V W K A hW hd hA hK
    have d7 : V 7 = _ := hd 7 (by kernel_rfl)
    simp only [putAll, List.getElem?_toArray, List.getElem?_cons_succ, List.getElem?_cons_zero, Option.bind_some, Act.put, List.setIfInBounds_toArray, List.set_cons_succ, List.set_cons_zero] at hA
    clear hd
    generalize V 0 = x0 at hA
    generalize V 1 = x1 at hA
    generalize V 2 = x2 at hA
    generalize V 3 = x3 at hA
    generalize V 4 = x4 at hA
    generalize V 5 = x5 at hA
    generalize V 6 = x6 at hA
    generalize V 7 = x7 at d7 hA
    generalize V 8 = x8 at hA
    subst d7
    obtain rfl := hA
    have hq := hsx.below hW hbsS
    unfold SvcAt at hq
    obtain ⟨q0, q1, q2, q3, q4, q5, q6, q7, q8, q9, q10, q11, q12⟩ := hq
    go_wp2
    exact hK.out _ (Below.refl _ _)
  intro V W A hW hS hA
  have d0 : V 0 = _ := hS 0 (by omega)
  have d1 : V 1 = _ := hS 1 (by omega)
  have d2 : V 2 = _ := hS 2 (by omega)
  have d3 : V 3 = _ := hS 3 (by omega)
  have d4 : V 4 = _ := hS 4 (by omega)
  have d5 : V 5 = _ := hS 5 (by omega)
  have d6 : V 6 = _ := hS 6 (by omega)
  have d7 : V 7 = _ := hS 7 (by omega)
  have d8 : V 8 = _ := hS 8 (by omega)
  simp only [putAll, List.getElem?_toArray, List.getElem?_cons_succ, List.getElem?_cons_zero, Option.bind_some, Act.put, List.setIfInBounds_toArray, List.set_cons_succ, List.set_cons_zero] at hA
  clear hS
  generalize V 0 = x0 at d0 hA
  generalize V 1 = x1 at d1 hA
  generalize V 2 = x2 at d2 hA
  generalize V 3 = x3 at d3 hA
  generalize V 4 = x4 at d4 hA
  generalize V 5 = x5 at d5 hA
  generalize V 6 = x6 at d6 hA
  generalize V 7 = x7 at d7 hA
  generalize V 8 = x8 at d8 hA
  subst d0
  subst d1
  subst d2
  subst d3
  subst d4
  subst d5
  subst d6
  subst d7
  subst d8
  obtain rfl := hA
  simp only [List.drop_succ_cons, List.drop_zero]
  have hzW := hW.size
  have hbw := hb0.trans (hW.mono (by omega))
  have R0 : Hid _ := below_blk hW T1.out (by omega)
  clear hsx
  go_wp2_with (refine wpList_store_only rfl 57 (.tmp 4) (.tmp 13) rfl (w.heap.size + 1) 0 #[.string s.name, .int .i64 s.version, .bool s.gone, .int .i64 s.image, .int .i64 s.want, .int .i64 s.down, .int .i64 s.over, .int .i64 s.next, .int .i64 s.per, .int .i64 s.least, .int .i64 s.most, .int .i64 s.load, .int .i64 s.cool] rfl rfl 57 #[.string ⟨#[]⟩, .int .i64 0, .bool false, .int .i64 0, .int .i64 0, .int .i64 0, .int .i64 0, .int .i64 0, .int .i64 0, .int .i64 0, .int .i64 0, .int .i64 0, .int .i64 0] R0.out Try.infosSvcK (Nat.le_of_ble_eq_true rfl) (by simp [Value.oneCell']) ?_; intro w1 hz on; have R1 : Hid (w1.heap[(w.heap.size + 1)]? = some (.cells #[.string s.name, .int .i64 s.version, .bool s.gone, .int .i64 s.image, .int .i64 s.want, .int .i64 s.down, .int .i64 s.over, .int .i64 s.next, .int .i64 s.per, .int .i64 s.least, .int .i64 s.most, .int .i64 s.load, .int .i64 s.cool] 57 (0, 0))) := hz; have hb1 := hbw.trans (on.below.mono (by omega)); clear hz on)
  exact bodyPost_ret (v := .agg #[.string s.name, .int .i64 s.version, .bool s.gone, .int .i64 s.image, .int .i64 s.want, .int .i64 s.down, .int .i64 s.over, .int .i64 s.next, .int .i64 s.per, .int .i64 s.least, .int .i64 s.most, .int .i64 s.load, .int .i64 s.cool]) (results_cell_row rfl _ _ (w.heap.size + 1) _ _ _ _ rfl R1.out Try.underlying57 rfl Try.infosSvcK) rfl ⟨rfl, hb1⟩

set_option maxRecDepth 100000 in
set_option maxHeartbeats 16000000 in
/-- c.Ending || serviceOf(c).Gone -/
theorem goneC_any (B : Bk) (s : Svc) (c : Cp) (ps pb pm b : Nat) (a1 a2 a3 : Option Addr) (c1 c2 c3 : Nat) (w : World) (hS : B.small) (hcz : c.service.size ≤ maxLen) (hsv : svcOf B c.service = some s)
    (hp : w.heap[ps]? = some (.cells #[.func (.func 75) #[] #[.pointer (some ⟨pb, 0, none⟩), .pointer (some ⟨pm, 0, none⟩)]] 108 (0, 0))) (hF : SvcFn w pb pm b a1 a2 a3 c1 c2 c3 B) :
    Calls Try.prog 82 #[.agg #[.string c.service, .int .i64 c.number, .int .i64 c.version, .int .i64 c.image, .int .i64 c.state, .bool c.ending, .string c.berth], .pointer (some ⟨ps, 0, none⟩)] w fun e w' => e = .returned (.bool (c.ending || s.gone)) ∧ Below w.heap.size w w' := by
  have hb0 := below_box w (.cells #[.string c.service, .int .i64 c.number, .int .i64 c.version, .int .i64 c.image, .int .i64 c.state, .bool c.ending, .string c.berth] 72)
  have T0 : Hid _ := heap_alloc_new w (.cells #[.string c.service, .int .i64 c.number, .int .i64 c.version, .int .i64 c.image, .int .i64 c.state, .bool c.ending, .string c.berth] 72)
  have hpl := (Array.getElem?_eq_some_iff.1 hp).1
  obtain ⟨W0, hW0⟩ : ∃ W, w.alloc (.cells #[.string c.service, .int .i64 c.number, .int .i64 c.version, .int .i64 c.image, .int .i64 c.state, .bool c.ending, .string c.berth] 72) = W := ⟨_, rfl⟩
  have hz0 : w.heap.size < (w.alloc (.cells #[.string c.service, .int .i64 c.number, .int .i64 c.version, .int .i64 c.image, .int .i64 c.state, .bool c.ending, .string c.berth] 72)).heap.size := by simp
  rw [hW0] at hb0 T0 hz0
  have P0 : Hid _ := below_blk hb0 hp hpl
  have HC : Hid (∀ W, Below W0.heap.size W0 W → Calls Try.prog 75 #[.agg #[.string c.service, .int .i64 c.number, .int .i64 c.version, .int .i64 c.image, .int .i64 c.state, .bool c.ending, .string c.berth], .pointer (some ⟨pb, 0, none⟩), .pointer (some ⟨pm, 0, none⟩)] W fun e w' => e = .returned (.agg #[.string s.name, .int .i64 s.version, .bool s.gone, .int .i64 s.image, .int .i64 s.want, .int .i64 s.down, .int .i64 s.over, .int .i64 s.next, .int .i64 s.per, .int .i64 s.least, .int .i64 s.most, .int .i64 s.load, .int .i64 s.cool]) ∧ Below W.heap.size W w') := fun W h => serviceOf_any B s c pb pm b a1 a2 a3 c1 c2 c3 W hS hcz hsv ((hF.below hb0 (Nat.le_refl _)).below h (Nat.le_refl _))
  clear hF hp hcz hsv
  obtain ⟨en, hen⟩ : ∃ en, Hid (c.ending = en) := ⟨_, rfl⟩
  go_enter Try.func82, Try.ntmps82
  go_upto_region 1 with fail
  clear hW0
  have y5a := blk_cell T0.out 5 rfl
  cases en
  · have y0 := blk_cell T0.out 0 rfl
    have y1 := blk_cell T0.out 1 rfl
    have y2 := blk_cell T0.out 2 rfl
    have y3 := blk_cell T0.out 3 rfl
    have y4 := blk_cell T0.out 4 rfl
    have y5 : W0.cell? ⟨w.heap.size, 5, none⟩ = some (.bool false) := by rw [hen.out] at y5a; exact y5a
    have y6 := blk_cell T0.out 6 rfl
    have p0 := blk_cell P0.out 0 rfl
    rw [hen.out] at HC
    rw [hen.out]
    clear y5a
    go_wp2_with fail
    refine (HC.out _ (Below.refl _ _)).mono ?_
    rintro e w1 ⟨rfl, hb1⟩
    have hbw := hb0.trans (hb1.mono (by omega))
    clear y0 y1 y2 y3 y4 y5 y6 p0 HC
    have hf := run_field_gone s
    go_wp2
    go_ret
    exact ⟨by rw [hen.out]; simp, hbw⟩
  · have y5 : W0.cell? ⟨w.heap.size, 5, none⟩ = some (.bool true) := by rw [hen.out] at y5a; exact y5a
    rw [hen.out]
    clear y5a HC
    go_wp2
    go_ret
    exact ⟨by rw [hen.out]; simp, hb0⟩

end Go.Proofs.Ytbceafpodamnfab

/-
  My own. The rank by the program: old or on a berth that is to be drained; a load that is missed.
-/
namespace Go.Proofs.Ytbceafpodamnfab
open Go.RowKit Go.Sort Go.Maps

set_option maxRecDepth 100000 in
set_option maxHeartbeats 32000000 in
/-- isOld(serviceOf(c), c) || onDrain(b, places, c) -/
theorem oldC_any (B : Bk) (s : Svc) (c : Cp) (ps pb pm b : Nat) (a1 a2 a3 : Option Addr) (c1 c2 c3 : Nat) (w : World) (hS : B.small) (hcz : c.service.size ≤ maxLen) (hcb : c.berth.size ≤ maxLen) (hsv : svcOf B c.service = some s)
    (hp : w.heap[ps]? = some (.cells #[.func (.func 75) #[] #[.pointer (some ⟨pb, 0, none⟩), .pointer (some ⟨pm, 0, none⟩)]] 108 (0, 0))) (hF : SvcFn w pb pm b a1 a2 a3 c1 c2 c3 B) :
    Calls Try.prog 86 #[.agg #[.string c.service, .int .i64 c.number, .int .i64 c.version, .int .i64 c.image, .int .i64 c.state, .bool c.ending, .string c.berth], .pointer (some ⟨ps, 0, none⟩), .pointer (some ⟨pb, 0, none⟩), .pointer (some ⟨pm, 0, none⟩)] w fun e w' => e = .returned (.bool (c.image != s.image || drainsB B c)) ∧ Below w.heap.size w w' := by
  have hb0 := below_box w (.cells #[.string c.service, .int .i64 c.number, .int .i64 c.version, .int .i64 c.image, .int .i64 c.state, .bool c.ending, .string c.berth] 72)
  have T0 : Hid _ := heap_alloc_new w (.cells #[.string c.service, .int .i64 c.number, .int .i64 c.version, .int .i64 c.image, .int .i64 c.state, .bool c.ending, .string c.berth] 72)
  have hpl := (Array.getElem?_eq_some_iff.1 hp).1
  obtain ⟨W0, hW0⟩ : ∃ W, w.alloc (.cells #[.string c.service, .int .i64 c.number, .int .i64 c.version, .int .i64 c.image, .int .i64 c.state, .bool c.ending, .string c.berth] 72) = W := ⟨_, rfl⟩
  have hz0 : w.heap.size < (w.alloc (.cells #[.string c.service, .int .i64 c.number, .int .i64 c.version, .int .i64 c.image, .int .i64 c.state, .bool c.ending, .string c.berth] 72)).heap.size := by simp
  rw [hW0] at hb0 T0 hz0
  have P0 : Hid _ := below_blk hb0 hp hpl
  have F0 : Hid (SvcFn W0 pb pm b a1 a2 a3 c1 c2 c3 B) := hF.below hb0 (Nat.le_refl _)
  have hzb : pb < W0.heap.size := (Array.getElem?_eq_some_iff.1 F0.out.1).1
  have hzm : pm < W0.heap.size := (Array.getElem?_eq_some_iff.1 F0.out.2.1).1
  have HC : Hid (∀ W, Below W0.heap.size W0 W → Calls Try.prog 75 #[.agg #[.string c.service, .int .i64 c.number, .int .i64 c.version, .int .i64 c.image, .int .i64 c.state, .bool c.ending, .string c.berth], .pointer (some ⟨pb, 0, none⟩), .pointer (some ⟨pm, 0, none⟩)] W fun e w' => e = .returned (.agg #[.string s.name, .int .i64 s.version, .bool s.gone, .int .i64 s.image, .int .i64 s.want, .int .i64 s.down, .int .i64 s.over, .int .i64 s.next, .int .i64 s.per, .int .i64 s.least, .int .i64 s.most, .int .i64 s.load, .int .i64 s.cool]) ∧ Below W.heap.size W w') := fun W h => serviceOf_any B s c pb pm b a1 a2 a3 c1 c2 c3 W hS hcz hsv (F0.out.below h (Nat.le_refl _))
  obtain ⟨dr, HDR, HD⟩ : ∃ d, Hid (drainsB B c = d) ∧ Hid (∀ W, Below W0.heap.size W0 W → Calls Try.prog 88 #[.agg #[.int .i64 B.now, .slice a1 B.svcs.length c1, .slice a2 B.cps.length c2, .slice a3 B.bts.length c3], .map (some b), .agg #[.string c.service, .int .i64 c.number, .int .i64 c.version, .int .i64 c.image, .int .i64 c.state, .bool c.ending, .string c.berth]] W fun e w' => e = .returned (.bool d) ∧ Below W.heap.size W w') := ⟨_, rfl, fun W h => onDrain_any B c b a1 a2 a3 c1 c2 c3 W hS hcb (F0.out.below h (Nat.le_refl _)).2.2.1 (F0.out.below h (Nat.le_refl _)).2.2.2⟩
  obtain ⟨im, HIM, HO⟩ : ∃ d, Hid ((c.image != s.image) = d) ∧ Hid (∀ W, Calls Try.prog 87 #[.agg #[.string s.name, .int .i64 s.version, .bool s.gone, .int .i64 s.image, .int .i64 s.want, .int .i64 s.down, .int .i64 s.over, .int .i64 s.next, .int .i64 s.per, .int .i64 s.least, .int .i64 s.most, .int .i64 s.load, .int .i64 s.cool], .agg #[.string c.service, .int .i64 c.number, .int .i64 c.version, .int .i64 c.image, .int .i64 c.state, .bool c.ending, .string c.berth]] W fun e w' => e = .returned (.bool d) ∧ Below W.heap.size W w') := ⟨_, rfl, fun W => isOldV_any s c W⟩
  have X0 : Hid _ := F0.out.1
  have M0 : Hid _ := F0.out.2.1
  rw [HDR.out, HIM.out]
  clear hF hp hcz hsv F0
  go_enter Try.func86, Try.ntmps86
  go_upto_region 1 with fail
  clear hW0
  cases im
  · refine wp_region_grows 11 (by kernel_rfl) (by kernel_rfl) ?_
    apply grow_eq
    · intro V W K A hW hd hA hK
      simp only [putAll, List.getElem?_toArray, List.getElem?_cons_succ, List.getElem?_cons_zero, Option.bind_some, Act.put, List.setIfInBounds_toArray, List.set_cons_succ, List.set_cons_zero] at hA
      clear hd
      generalize V 0 = x0 at hA
      generalize V 1 = x1 at hA
      generalize V 2 = x2 at hA
      generalize V 3 = x3 at hA
      generalize V 4 = x4 at hA
      generalize V 5 = x5 at hA
      generalize V 6 = x6 at hA
      generalize V 7 = x7 at hA
      generalize V 8 = x8 at hA
      generalize V 9 = x9 at hA
      generalize V 10 = x10 at hA
      obtain rfl := hA
      have p0 := blk_cell (below_blk hW P0.out (by omega)) 0 rfl
      go_wp2
      exact hK.out _ (Below.refl _ _)
    apply grow_eq
    · intro V W K A hW hd hA hK
      simp only [putAll, List.getElem?_toArray, List.getElem?_cons_succ, List.getElem?_cons_zero, Option.bind_some, Act.put, List.setIfInBounds_toArray, List.set_cons_succ, List.set_cons_zero] at hA
      clear hd
      generalize V 0 = x0 at hA
      generalize V 1 = x1 at hA
      generalize V 2 = x2 at hA
      generalize V 3 = x3 at hA
      generalize V 4 = x4 at hA
      generalize V 5 = x5 at hA
      generalize V 6 = x6 at hA
      generalize V 7 = x7 at hA
      generalize V 8 = x8 at hA
      generalize V 9 = x9 at hA
      generalize V 10 = x10 at hA
      obtain rfl := hA
      have y0 := blk_cell (below_blk hW T0.out (by omega)) 0 rfl
      have y1 := blk_cell (below_blk hW T0.out (by omega)) 1 rfl
      have y2 := blk_cell (below_blk hW T0.out (by omega)) 2 rfl
      have y3 := blk_cell (below_blk hW T0.out (by omega)) 3 rfl
      have y4 := blk_cell (below_blk hW T0.out (by omega)) 4 rfl
      have y5 := blk_cell (below_blk hW T0.out (by omega)) 5 rfl
      have y6 := blk_cell (below_blk hW T0.out (by omega)) 6 rfl
      go_wp2
      exact hK.out _ (Below.refl _ _)
    apply grow_eq
    · intro V W K A hW hd hA hK
      have d0 : V 0 = _ := hd 0 (by kernel_rfl)
      have d1 : V 1 = _ := hd 1 (by kernel_rfl)
      simp only [putAll, List.getElem?_toArray, List.getElem?_cons_succ, List.getElem?_cons_zero, Option.bind_some, Act.put, List.setIfInBounds_toArray, List.set_cons_succ, List.set_cons_zero] at hA
      clear hd
      generalize V 0 = x0 at d0 hA
      generalize V 1 = x1 at d1 hA
      generalize V 2 = x2 at hA
      generalize V 3 = x3 at hA
      generalize V 4 = x4 at hA
      generalize V 5 = x5 at hA
      generalize V 6 = x6 at hA
      generalize V 7 = x7 at hA
      generalize V 8 = x8 at hA
      generalize V 9 = x9 at hA
      generalize V 10 = x10 at hA
      subst d0
      subst d1
      obtain rfl := hA
      go_wp2_with fail
      refine (HC.out _ hW).mono ?_
      rintro e w3 ⟨rfl, hb3⟩
      go_wp2
      exact hK.out _ hb3
    apply grow_eq
    · intro V W K A hW hd hA hK
      simp only [putAll, List.getElem?_toArray, List.getElem?_cons_succ, List.getElem?_cons_zero, Option.bind_some, Act.put, List.setIfInBounds_toArray, List.set_cons_succ, List.set_cons_zero] at hA
      clear hd
      generalize V 0 = x0 at hA
      generalize V 1 = x1 at hA
      generalize V 2 = x2 at hA
      generalize V 3 = x3 at hA
      generalize V 4 = x4 at hA
      generalize V 5 = x5 at hA
      generalize V 6 = x6 at hA
      generalize V 7 = x7 at hA
      generalize V 8 = x8 at hA
      generalize V 9 = x9 at hA
      generalize V 10 = x10 at hA
      obtain rfl := hA
      have y0 := blk_cell (below_blk hW T0.out (by omega)) 0 rfl
      have y1 := blk_cell (below_blk hW T0.out (by omega)) 1 rfl
      have y2 := blk_cell (below_blk hW T0.out (by omega)) 2 rfl
      have y3 := blk_cell (below_blk hW T0.out (by omega)) 3 rfl
      have y4 := blk_cell (below_blk hW T0.out (by omega)) 4 rfl
      have y5 := blk_cell (below_blk hW T0.out (by omega)) 5 rfl
      have y6 := blk_cell (below_blk hW T0.out (by omega)) 6 rfl
      go_wp2
      exact hK.out _ (Below.refl _ _)
    apply grow_eq
    · intro V W K A hW hd hA hK
      have d2 : V 2 = _ := hd 2 (by kernel_rfl)
      have d3 : V 3 = _ := hd 3 (by kernel_rfl)
      simp only [putAll, List.getElem?_toArray, List.getElem?_cons_succ, List.getElem?_cons_zero, Option.bind_some, Act.put, List.setIfInBounds_toArray, List.set_cons_succ, List.set_cons_zero] at hA
      clear hd
      generalize V 0 = x0 at hA
      generalize V 1 = x1 at hA
      generalize V 2 = x2 at d2 hA
      generalize V 3 = x3 at d3 hA
      generalize V 4 = x4 at hA
      generalize V 5 = x5 at hA
      generalize V 6 = x6 at hA
      generalize V 7 = x7 at hA
      generalize V 8 = x8 at hA
      generalize V 9 = x9 at hA
      generalize V 10 = x10 at hA
      subst d2
      subst d3
      obtain rfl := hA
      go_wp2_with fail
      refine (HO.out _).mono ?_
      rintro e w3 ⟨rfl, hb3⟩
      go_wp2
      exact hK.out _ hb3
    apply grow_eq
    · intro V W K A hW hd hA hK
      have d4 : V 4 = _ := hd 4 (by kernel_rfl)
      simp only [putAll, List.getElem?_toArray, List.getElem?_cons_succ, List.getElem?_cons_zero, Option.bind_some, Act.put, List.setIfInBounds_toArray, List.set_cons_succ, List.set_cons_zero] at hA
      clear hd
      generalize V 0 = x0 at hA
      generalize V 1 = x1 at hA
      generalize V 2 = x2 at hA
      generalize V 3 = x3 at hA
      generalize V 4 = x4 at d4 hA
      generalize V 5 = x5 at hA
      generalize V 6 = x6 at hA
      generalize V 7 = x7 at hA
      generalize V 8 = x8 at hA
      generalize V 9 = x9 at hA
      generalize V 10 = x10 at hA
      subst d4
      obtain rfl := hA
      go_wp2
      exact hK.out _ (Below.refl _ _)
    apply grow_eq
    · intro V W K A hW hd hA hK
      have d5 : V 5 = _ := hd 5 (by kernel_rfl)
      simp only [putAll, List.getElem?_toArray, List.getElem?_cons_succ, List.getElem?_cons_zero, Option.bind_some, Act.put, List.setIfInBounds_toArray, List.set_cons_succ, List.set_cons_zero] at hA
      clear hd
      generalize V 0 = x0 at hA
      generalize V 1 = x1 at hA
      generalize V 2 = x2 at hA
      generalize V 3 = x3 at hA
      generalize V 4 = x4 at hA
      generalize V 5 = x5 at d5 hA
      generalize V 6 = x6 at hA
      generalize V 7 = x7 at hA
      generalize V 8 = x8 at hA
      generalize V 9 = x9 at hA
      generalize V 10 = x10 at hA
      subst d5
      obtain rfl := hA
      have e0 := blk_cell (below_blk hW X0.out (by omega)) 0 rfl
      have e1 := blk_cell (below_blk hW X0.out (by omega)) 1 rfl
      have e2 := blk_cell (below_blk hW X0.out (by omega)) 2 rfl
      have e3 := blk_cell (below_blk hW X0.out (by omega)) 3 rfl
      go_wp2
      exact hK.out _ (Below.refl _ _)
    apply grow_eq
    · intro V W K A hW hd hA hK
      have d5 : V 5 = _ := hd 5 (by kernel_rfl)
      simp only [putAll, List.getElem?_toArray, List.getElem?_cons_succ, List.getElem?_cons_zero, Option.bind_some, Act.put, List.setIfInBounds_toArray, List.set_cons_succ, List.set_cons_zero] at hA
      clear hd
      generalize V 0 = x0 at hA
      generalize V 1 = x1 at hA
      generalize V 2 = x2 at hA
      generalize V 3 = x3 at hA
      generalize V 4 = x4 at hA
      generalize V 5 = x5 at d5 hA
      generalize V 6 = x6 at hA
      generalize V 7 = x7 at hA
      generalize V 8 = x8 at hA
      generalize V 9 = x9 at hA
      generalize V 10 = x10 at hA
      subst d5
      obtain rfl := hA
      have e0 := blk_cell (below_blk hW M0.out (by omega)) 0 rfl
      go_wp2
      exact hK.out _ (Below.refl _ _)
    apply grow_eq
    · intro V W K A hW hd hA hK
      have d5 : V 5 = _ := hd 5 (by kernel_rfl)
      simp only [putAll, List.getElem?_toArray, List.getElem?_cons_succ, List.getElem?_cons_zero, Option.bind_some, Act.put, List.setIfInBounds_toArray, List.set_cons_succ, List.set_cons_zero] at hA
      clear hd
      generalize V 0 = x0 at hA
      generalize V 1 = x1 at hA
      generalize V 2 = x2 at hA
      generalize V 3 = x3 at hA
      generalize V 4 = x4 at hA
      generalize V 5 = x5 at d5 hA
      generalize V 6 = x6 at hA
      generalize V 7 = x7 at hA
      generalize V 8 = x8 at hA
      generalize V 9 = x9 at hA
      generalize V 10 = x10 at hA
      subst d5
      obtain rfl := hA
      have y0 := blk_cell (below_blk hW T0.out (by omega)) 0 rfl
      have y1 := blk_cell (below_blk hW T0.out (by omega)) 1 rfl
      have y2 := blk_cell (below_blk hW T0.out (by omega)) 2 rfl
      have y3 := blk_cell (below_blk hW T0.out (by omega)) 3 rfl
      have y4 := blk_cell (below_blk hW T0.out (by omega)) 4 rfl
      have y5 := blk_cell (below_blk hW T0.out (by omega)) 5 rfl
      have y6 := blk_cell (below_blk hW T0.out (by omega)) 6 rfl
      go_wp2
      exact hK.out _ (Below.refl _ _)
    apply grow_eq
    · intro V W K A hW hd hA hK
      have d5 : V 5 = _ := hd 5 (by kernel_rfl)
      have d6 : V 6 = _ := hd 6 (by kernel_rfl)
      have d7 : V 7 = _ := hd 7 (by kernel_rfl)
      have d8 : V 8 = _ := hd 8 (by kernel_rfl)
      simp only [putAll, List.getElem?_toArray, List.getElem?_cons_succ, List.getElem?_cons_zero, Option.bind_some, Act.put, List.setIfInBounds_toArray, List.set_cons_succ, List.set_cons_zero] at hA
      clear hd
      generalize V 0 = x0 at hA
      generalize V 1 = x1 at hA
      generalize V 2 = x2 at hA
      generalize V 3 = x3 at hA
      generalize V 4 = x4 at hA
      generalize V 5 = x5 at d5 hA
      generalize V 6 = x6 at d6 hA
      generalize V 7 = x7 at d7 hA
      generalize V 8 = x8 at d8 hA
      generalize V 9 = x9 at hA
      generalize V 10 = x10 at hA
      subst d5
      subst d6
      subst d7
      subst d8
      obtain rfl := hA
      go_wp2_with fail
      refine (HD.out _ hW).mono ?_
      rintro e w3 ⟨rfl, hb3⟩
      go_wp2
      exact hK.out _ hb3
    apply grow_eq
    · intro V W K A hW hd hA hK
      have d5 : V 5 = _ := hd 5 (by kernel_rfl)
      have d9 : V 9 = _ := hd 9 (by kernel_rfl)
      simp only [putAll, List.getElem?_toArray, List.getElem?_cons_succ, List.getElem?_cons_zero, Option.bind_some, Act.put, List.setIfInBounds_toArray, List.set_cons_succ, List.set_cons_zero] at hA
      clear hd
      generalize V 0 = x0 at hA
      generalize V 1 = x1 at hA
      generalize V 2 = x2 at hA
      generalize V 3 = x3 at hA
      generalize V 4 = x4 at hA
      generalize V 5 = x5 at d5 hA
      generalize V 6 = x6 at hA
      generalize V 7 = x7 at hA
      generalize V 8 = x8 at hA
      generalize V 9 = x9 at d9 hA
      generalize V 10 = x10 at hA
      subst d5
      subst d9
      obtain rfl := hA
      go_wp2
      exact hK.out _ (Below.refl _ _)
    intro V W A hW hS hA
    have d0 : V 0 = _ := hS 0 (by omega)
    have d1 : V 1 = _ := hS 1 (by omega)
    have d2 : V 2 = _ := hS 2 (by omega)
    have d3 : V 3 = _ := hS 3 (by omega)
    have d4 : V 4 = _ := hS 4 (by omega)
    have d5 : V 5 = _ := hS 5 (by omega)
    have d6 : V 6 = _ := hS 6 (by omega)
    have d7 : V 7 = _ := hS 7 (by omega)
    have d8 : V 8 = _ := hS 8 (by omega)
    have d9 : V 9 = _ := hS 9 (by omega)
    have d10 : V 10 = _ := hS 10 (by omega)
    simp only [putAll, List.getElem?_toArray, List.getElem?_cons_succ, List.getElem?_cons_zero, Option.bind_some, Act.put, List.setIfInBounds_toArray, List.set_cons_succ, List.set_cons_zero] at hA
    clear hS
    generalize V 0 = x0 at d0 hA
    generalize V 1 = x1 at d1 hA
    generalize V 2 = x2 at d2 hA
    generalize V 3 = x3 at d3 hA
    generalize V 4 = x4 at d4 hA
    generalize V 5 = x5 at d5 hA
    generalize V 6 = x6 at d6 hA
    generalize V 7 = x7 at d7 hA
    generalize V 8 = x8 at d8 hA
    generalize V 9 = x9 at d9 hA
    generalize V 10 = x10 at d10 hA
    subst d0
    subst d1
    subst d2
    subst d3
    subst d4
    subst d5
    subst d6
    subst d7
    subst d8
    subst d9
    subst d10
    obtain rfl := hA
    simp only [List.drop_succ_cons, List.drop_zero]
    have hbw := hb0.trans (hW.mono (by omega))
    go_wp2
    go_ret
    exact ⟨by simp, hbw⟩
  · refine wp_region_grows 11 (by kernel_rfl) (by kernel_rfl) ?_
    apply grow_eq
    · intro V W K A hW hd hA hK
      simp only [putAll, List.getElem?_toArray, List.getElem?_cons_succ, List.getElem?_cons_zero, Option.bind_some, Act.put, List.setIfInBounds_toArray, List.set_cons_succ, List.set_cons_zero] at hA
      clear hd
      generalize V 0 = x0 at hA
      generalize V 1 = x1 at hA
      generalize V 2 = x2 at hA
      generalize V 3 = x3 at hA
      generalize V 4 = x4 at hA
      generalize V 5 = x5 at hA
      generalize V 6 = x6 at hA
      generalize V 7 = x7 at hA
      generalize V 8 = x8 at hA
      generalize V 9 = x9 at hA
      generalize V 10 = x10 at hA
      obtain rfl := hA
      have p0 := blk_cell (below_blk hW P0.out (by omega)) 0 rfl
      go_wp2
      exact hK.out _ (Below.refl _ _)
    apply grow_eq
    · intro V W K A hW hd hA hK
      simp only [putAll, List.getElem?_toArray, List.getElem?_cons_succ, List.getElem?_cons_zero, Option.bind_some, Act.put, List.setIfInBounds_toArray, List.set_cons_succ, List.set_cons_zero] at hA
      clear hd
      generalize V 0 = x0 at hA
      generalize V 1 = x1 at hA
      generalize V 2 = x2 at hA
      generalize V 3 = x3 at hA
      generalize V 4 = x4 at hA
      generalize V 5 = x5 at hA
      generalize V 6 = x6 at hA
      generalize V 7 = x7 at hA
      generalize V 8 = x8 at hA
      generalize V 9 = x9 at hA
      generalize V 10 = x10 at hA
      obtain rfl := hA
      have y0 := blk_cell (below_blk hW T0.out (by omega)) 0 rfl
      have y1 := blk_cell (below_blk hW T0.out (by omega)) 1 rfl
      have y2 := blk_cell (below_blk hW T0.out (by omega)) 2 rfl
      have y3 := blk_cell (below_blk hW T0.out (by omega)) 3 rfl
      have y4 := blk_cell (below_blk hW T0.out (by omega)) 4 rfl
      have y5 := blk_cell (below_blk hW T0.out (by omega)) 5 rfl
      have y6 := blk_cell (below_blk hW T0.out (by omega)) 6 rfl
      go_wp2
      exact hK.out _ (Below.refl _ _)
    apply grow_eq
    · intro V W K A hW hd hA hK
      have d0 : V 0 = _ := hd 0 (by kernel_rfl)
      have d1 : V 1 = _ := hd 1 (by kernel_rfl)
      simp only [putAll, List.getElem?_toArray, List.getElem?_cons_succ, List.getElem?_cons_zero, Option.bind_some, Act.put, List.setIfInBounds_toArray, List.set_cons_succ, List.set_cons_zero] at hA
      clear hd
      generalize V 0 = x0 at d0 hA
      generalize V 1 = x1 at d1 hA
      generalize V 2 = x2 at hA
      generalize V 3 = x3 at hA
      generalize V 4 = x4 at hA
      generalize V 5 = x5 at hA
      generalize V 6 = x6 at hA
      generalize V 7 = x7 at hA
      generalize V 8 = x8 at hA
      generalize V 9 = x9 at hA
      generalize V 10 = x10 at hA
      subst d0
      subst d1
      obtain rfl := hA
      go_wp2_with fail
      refine (HC.out _ hW).mono ?_
      rintro e w3 ⟨rfl, hb3⟩
      go_wp2
      exact hK.out _ hb3
    apply grow_eq
    · intro V W K A hW hd hA hK
      simp only [putAll, List.getElem?_toArray, List.getElem?_cons_succ, List.getElem?_cons_zero, Option.bind_some, Act.put, List.setIfInBounds_toArray, List.set_cons_succ, List.set_cons_zero] at hA
      clear hd
      generalize V 0 = x0 at hA
      generalize V 1 = x1 at hA
      generalize V 2 = x2 at hA
      generalize V 3 = x3 at hA
      generalize V 4 = x4 at hA
      generalize V 5 = x5 at hA
      generalize V 6 = x6 at hA
      generalize V 7 = x7 at hA
      generalize V 8 = x8 at hA
      generalize V 9 = x9 at hA
      generalize V 10 = x10 at hA
      obtain rfl := hA
      have y0 := blk_cell (below_blk hW T0.out (by omega)) 0 rfl
      have y1 := blk_cell (below_blk hW T0.out (by omega)) 1 rfl
      have y2 := blk_cell (below_blk hW T0.out (by omega)) 2 rfl
      have y3 := blk_cell (below_blk hW T0.out (by omega)) 3 rfl
      have y4 := blk_cell (below_blk hW T0.out (by omega)) 4 rfl
      have y5 := blk_cell (below_blk hW T0.out (by omega)) 5 rfl
      have y6 := blk_cell (below_blk hW T0.out (by omega)) 6 rfl
      go_wp2
      exact hK.out _ (Below.refl _ _)
    apply grow_eq
    · intro V W K A hW hd hA hK
      have d2 : V 2 = _ := hd 2 (by kernel_rfl)
      have d3 : V 3 = _ := hd 3 (by kernel_rfl)
      simp only [putAll, List.getElem?_toArray, List.getElem?_cons_succ, List.getElem?_cons_zero, Option.bind_some, Act.put, List.setIfInBounds_toArray, List.set_cons_succ, List.set_cons_zero] at hA
      clear hd
      generalize V 0 = x0 at hA
      generalize V 1 = x1 at hA
      generalize V 2 = x2 at d2 hA
      generalize V 3 = x3 at d3 hA
      generalize V 4 = x4 at hA
      generalize V 5 = x5 at hA
      generalize V 6 = x6 at hA
      generalize V 7 = x7 at hA
      generalize V 8 = x8 at hA
      generalize V 9 = x9 at hA
      generalize V 10 = x10 at hA
      subst d2
      subst d3
      obtain rfl := hA
      go_wp2_with fail
      refine (HO.out _).mono ?_
      rintro e w3 ⟨rfl, hb3⟩
      go_wp2
      exact hK.out _ hb3
    apply grow_eq
    · intro V W K A hW hd hA hK
      have d4 : V 4 = _ := hd 4 (by kernel_rfl)
      simp only [putAll, List.getElem?_toArray, List.getElem?_cons_succ, List.getElem?_cons_zero, Option.bind_some, Act.put, List.setIfInBounds_toArray, List.set_cons_succ, List.set_cons_zero] at hA
      clear hd
      generalize V 0 = x0 at hA
      generalize V 1 = x1 at hA
      generalize V 2 = x2 at hA
      generalize V 3 = x3 at hA
      generalize V 4 = x4 at d4 hA
      generalize V 5 = x5 at hA
      generalize V 6 = x6 at hA
      generalize V 7 = x7 at hA
      generalize V 8 = x8 at hA
      generalize V 9 = x9 at hA
      generalize V 10 = x10 at hA
      subst d4
      obtain rfl := hA
      go_wp2
      exact hK.out _ (Below.refl _ _)
    apply grow_eq
    · intro V W K A hW hd hA hK
      have d5 : V 5 = _ := hd 5 (by kernel_rfl)
      simp only [putAll, List.getElem?_toArray, List.getElem?_cons_succ, List.getElem?_cons_zero, Option.bind_some, Act.put, List.setIfInBounds_toArray, List.set_cons_succ, List.set_cons_zero] at hA
      clear hd
      generalize V 0 = x0 at hA
      generalize V 1 = x1 at hA
      generalize V 2 = x2 at hA
      generalize V 3 = x3 at hA
      generalize V 4 = x4 at hA
      generalize V 5 = x5 at d5 hA
      generalize V 6 = x6 at hA
      generalize V 7 = x7 at hA
      generalize V 8 = x8 at hA
      generalize V 9 = x9 at hA
      generalize V 10 = x10 at hA
      subst d5
      obtain rfl := hA
      go_wp2
      exact hK.out _ (Below.refl _ _)
    apply grow_eq
    · intro V W K A hW hd hA hK
      have d5 : V 5 = _ := hd 5 (by kernel_rfl)
      simp only [putAll, List.getElem?_toArray, List.getElem?_cons_succ, List.getElem?_cons_zero, Option.bind_some, Act.put, List.setIfInBounds_toArray, List.set_cons_succ, List.set_cons_zero] at hA
      clear hd
      generalize V 0 = x0 at hA
      generalize V 1 = x1 at hA
      generalize V 2 = x2 at hA
      generalize V 3 = x3 at hA
      generalize V 4 = x4 at hA
      generalize V 5 = x5 at d5 hA
      generalize V 6 = x6 at hA
      generalize V 7 = x7 at hA
      generalize V 8 = x8 at hA
      generalize V 9 = x9 at hA
      generalize V 10 = x10 at hA
      subst d5
      obtain rfl := hA
      go_wp2
      exact hK.out _ (Below.refl _ _)
    apply grow_eq
    · intro V W K A hW hd hA hK
      have d5 : V 5 = _ := hd 5 (by kernel_rfl)
      simp only [putAll, List.getElem?_toArray, List.getElem?_cons_succ, List.getElem?_cons_zero, Option.bind_some, Act.put, List.setIfInBounds_toArray, List.set_cons_succ, List.set_cons_zero] at hA
      clear hd
      generalize V 0 = x0 at hA
      generalize V 1 = x1 at hA
      generalize V 2 = x2 at hA
      generalize V 3 = x3 at hA
      generalize V 4 = x4 at hA
      generalize V 5 = x5 at d5 hA
      generalize V 6 = x6 at hA
      generalize V 7 = x7 at hA
      generalize V 8 = x8 at hA
      generalize V 9 = x9 at hA
      generalize V 10 = x10 at hA
      subst d5
      obtain rfl := hA
      go_wp2
      exact hK.out _ (Below.refl _ _)
    apply grow_eq
    · intro V W K A hW hd hA hK
      have d5 : V 5 = _ := hd 5 (by kernel_rfl)
      simp only [putAll, List.getElem?_toArray, List.getElem?_cons_succ, List.getElem?_cons_zero, Option.bind_some, Act.put, List.setIfInBounds_toArray, List.set_cons_succ, List.set_cons_zero] at hA
      clear hd
      generalize V 0 = x0 at hA
      generalize V 1 = x1 at hA
      generalize V 2 = x2 at hA
      generalize V 3 = x3 at hA
      generalize V 4 = x4 at hA
      generalize V 5 = x5 at d5 hA
      generalize V 6 = x6 at hA
      generalize V 7 = x7 at hA
      generalize V 8 = x8 at hA
      generalize V 9 = x9 at hA
      generalize V 10 = x10 at hA
      subst d5
      obtain rfl := hA
      go_wp2
      exact hK.out _ (Below.refl _ _)
    apply grow_eq
    · intro V W K A hW hd hA hK
      have d5 : V 5 = _ := hd 5 (by kernel_rfl)
      simp only [putAll, List.getElem?_toArray, List.getElem?_cons_succ, List.getElem?_cons_zero, Option.bind_some, Act.put, List.setIfInBounds_toArray, List.set_cons_succ, List.set_cons_zero] at hA
      clear hd
      generalize V 0 = x0 at hA
      generalize V 1 = x1 at hA
      generalize V 2 = x2 at hA
      generalize V 3 = x3 at hA
      generalize V 4 = x4 at hA
      generalize V 5 = x5 at d5 hA
      generalize V 6 = x6 at hA
      generalize V 7 = x7 at hA
      generalize V 8 = x8 at hA
      generalize V 9 = x9 at hA
      generalize V 10 = x10 at hA
      subst d5
      obtain rfl := hA
      go_wp2
      exact hK.out _ (Below.refl _ _)
    intro V W A hW hS hA
    have d0 : V 0 = _ := hS 0 (by omega)
    have d1 : V 1 = _ := hS 1 (by omega)
    have d2 : V 2 = _ := hS 2 (by omega)
    have d3 : V 3 = _ := hS 3 (by omega)
    have d4 : V 4 = _ := hS 4 (by omega)
    have d5 : V 5 = _ := hS 5 (by omega)
    have d6 : V 6 = _ := hS 6 (by omega)
    have d7 : V 7 = _ := hS 7 (by omega)
    have d8 : V 8 = _ := hS 8 (by omega)
    have d9 : V 9 = _ := hS 9 (by omega)
    have d10 : V 10 = _ := hS 10 (by omega)
    simp only [putAll, List.getElem?_toArray, List.getElem?_cons_succ, List.getElem?_cons_zero, Option.bind_some, Act.put, List.setIfInBounds_toArray, List.set_cons_succ, List.set_cons_zero] at hA
    clear hS
    generalize V 0 = x0 at d0 hA
    generalize V 1 = x1 at d1 hA
    generalize V 2 = x2 at d2 hA
    generalize V 3 = x3 at d3 hA
    generalize V 4 = x4 at d4 hA
    generalize V 5 = x5 at d5 hA
    generalize V 6 = x6 at d6 hA
    generalize V 7 = x7 at d7 hA
    generalize V 8 = x8 at d8 hA
    generalize V 9 = x9 at d9 hA
    generalize V 10 = x10 at d10 hA
    subst d0
    subst d1
    subst d2
    subst d3
    subst d4
    subst d5
    subst d6
    subst d7
    subst d8
    subst d9
    subst d10
    obtain rfl := hA
    simp only [List.drop_succ_cons, List.drop_zero]
    have hbw := hb0.trans (hW.mono (by omega))
    go_wp2
    go_ret
    exact ⟨by simp, hbw⟩

end Go.Proofs.Ytbceafpodamnfab

/-
  My own. The rank, by the specification: data.
-/
namespace Go.Proofs.Ytbceafpodamnfab
open Go.RowKit Go.Sort

structure Rk where
  a : Int
  b : Int
  c : Int
  d : Int
  e : Int
def absI (x : Int) : Int := if x < 0 then -x else x
/-- One live copy of s more. -/
def rkC (B : Bk) (s : Svc) (r : Rk) (c : Cp) : Rk := { r with d := addB (c.image != s.image || drainsB B c) r.d, e := addB (c.state != 3) r.e }
def rk1 (B : Bk) (s : Svc) (r : Rk) : Rk := { r with b := r.b + (cntB B s.name).ending, c := r.c + absI ((cntB B s.name).live - s.want) }
def rkL (B : Bk) (s : Svc) (r : Rk) (k : Nat) : Rk := ((liveTo B s.name B.cps.length).take k).foldl (fun r i => rkC B s r (cpD B i)) (rk1 B s r)
/-- One service more. -/
def rkS (B : Bk) (r : Rk) (s : Svc) : Rk :=
  if s.gone = true then { r with a := r.a + 1, b := r.b + (cntB B s.name).ending + (cntB B s.name).live }
  else rkL B s r (liveTo B s.name B.cps.length).length
def rkTo (B : Bk) (k : Nat) : Rk := (B.svcs.take k).foldl (rkS B) ⟨0, 0, 0, 0, 0⟩
/-- What StewRank answers. -/
def rankOf (B : Bk) : Rk := if validB B then rkTo B B.svcs.length else ⟨0, 0, 0, 0, 0⟩

theorem rkTo_succ {B : Bk} {k : Nat} {s : Svc} (h : B.svcs[k]? = some s) : rkTo B (k + 1) = rkS B (rkTo B k) s := by
  unfold rkTo
  rw [List.take_add_one, h, List.foldl_append]
  rfl
theorem rkL_zero (B : Bk) (s : Svc) (r : Rk) : rkL B s r 0 = rk1 B s r := rfl
theorem rkL_succ {B : Bk} {s : Svc} {r : Rk} {k i : Nat} (h : (liveTo B s.name B.cps.length)[k]? = some i) : rkL B s r (k + 1) = rkC B s (rkL B s r k) (cpD B i) := by
  unfold rkL
  rw [List.take_add_one, h, List.foldl_append]
  rfl

/-- Each of the five is in 0..n. -/
structure Rk.upTo (r : Rk) (n : Int) : Prop where
  a0 : 0 ≤ r.a
  b0 : 0 ≤ r.b
  c0 : 0 ≤ r.c
  d0 : 0 ≤ r.d
  e0 : 0 ≤ r.e
  a1 : r.a ≤ n
  b1 : r.b ≤ n
  c1 : r.c ≤ n
  d1 : r.d ≤ n
  e1 : r.e ≤ n
theorem addB_in (b : Bool) (x : Int) : x ≤ addB b x ∧ addB b x ≤ x + 1 := by unfold addB; cases b <;> simp <;> omega
theorem absI_in (x n : Int) (h : -n ≤ x) (h' : x ≤ n) : 0 ≤ absI x ∧ absI x ≤ n := by unfold absI; split <;> omega

theorem cntB_le (B : Bk) (sv : ByteArray) : (cntB B sv).upTo B.cps.length := by
  unfold cntB
  cases svcOf B sv with
  | none => unfold Cnt.upTo Cnt.none; simp
  | some s => exact cntTo_upTo s.image sv B.cps B.cps.length (Nat.le_refl _)

theorem rkL_upTo {B : Bk} (hV : Valid B) {s : Svc} (hs : s ∈ B.svcs) {r : Rk} {n : Int} (h : r.upTo n) (_hn : 0 ≤ n) : ∀ k, k ≤ (liveTo B s.name B.cps.length).length → (rkL B s r k).upTo (n + 400 + k) := by
  have hc := cntB_le B s.name
  have hlc := hV.lc
  have hsi := hV.svcIn hs
  have hw0 := hsi.want0
  have hw1 := hsi.want1
  unfold Cnt.upTo at hc
  obtain ⟨l0, l1, _, _, _, _, _, _, e0, e1⟩ := hc
  have ha := absI_in ((cntB B s.name).live - s.want) 400 (by omega) (by omega)
  intro k
  induction k with
  | zero =>
    intro _
    rw [rkL_zero]
    unfold rk1
    exact ⟨h.a0, by show 0 ≤ r.b + _; have := h.b0; omega, by show 0 ≤ r.c + _; have := h.c0; omega, h.d0, h.e0, by show r.a ≤ _; have := h.a1; omega, by show r.b + _ ≤ _; have := h.b1; omega, by show r.c + _ ≤ _; have := h.c1; omega, by show r.d ≤ _; have := h.d1; omega, by show r.e ≤ _; have := h.e1; omega⟩
  | succ k ih =>
    intro hk
    have hi := ih (by omega)
    obtain ⟨i, hik⟩ : ∃ i, (liveTo B s.name B.cps.length)[k]? = some i := ⟨(liveTo B s.name B.cps.length)[k], by simp [show k < (liveTo B s.name B.cps.length).length by omega]⟩
    rw [rkL_succ hik]
    have hd := addB_in ((cpD B i).image != s.image || drainsB B (cpD B i)) (rkL B s r k).d
    have he := addB_in ((cpD B i).state != 3) (rkL B s r k).e
    unfold rkC
    exact ⟨hi.a0, hi.b0, hi.c0, by show 0 ≤ addB _ _; have := hi.d0; omega, by show 0 ≤ addB _ _; have := hi.e0; omega, by show (rkL B s r k).a ≤ n + 400 + ((k + 1 : Nat) : Int); have := hi.a1; omega, by show (rkL B s r k).b ≤ n + 400 + ((k + 1 : Nat) : Int); have := hi.b1; omega, by show (rkL B s r k).c ≤ n + 400 + ((k + 1 : Nat) : Int); have := hi.c1; omega, by show addB _ _ ≤ n + 400 + ((k + 1 : Nat) : Int); have := hi.d1; omega, by show addB _ _ ≤ n + 400 + ((k + 1 : Nat) : Int); have := hi.e1; omega⟩

theorem rkS_upTo {B : Bk} (hV : Valid B) {s : Svc} (hs : s ∈ B.svcs) {r : Rk} {n : Int} (h : r.upTo n) (hn : 0 ≤ n) : (rkS B r s).upTo (n + 1000) := by
  unfold rkS
  split
  · have hc := cntB_le B s.name
    have hlc := hV.lc
    unfold Cnt.upTo at hc
    obtain ⟨l0, l1, _, _, _, _, _, _, e0, e1⟩ := hc
    exact ⟨by show 0 ≤ r.a + 1; have := h.a0; omega, by show 0 ≤ r.b + _ + _; have := h.b0; omega, h.c0, h.d0, h.e0, by show r.a + 1 ≤ _; have := h.a1; omega, by show r.b + _ + _ ≤ _; have := h.b1; omega, by show r.c ≤ _; have := h.c1; omega, by show r.d ≤ _; have := h.d1; omega, by show r.e ≤ _; have := h.e1; omega⟩
  · have hl := liveTo_len B s.name B.cps.length
    have hlc := hV.lc
    have hi := rkL_upTo hV hs h hn _ (Nat.le_refl _)
    exact ⟨hi.a0, hi.b0, hi.c0, hi.d0, hi.e0, by have := hi.a1; omega, by have := hi.b1; omega, by have := hi.c1; omega, by have := hi.d1; omega, by have := hi.e1; omega⟩

theorem rkTo_upTo {B : Bk} (hV : Valid B) : ∀ k, k ≤ B.svcs.length → (rkTo B k).upTo (1000 * k)
  | 0, _ => ⟨Int.le_refl _, Int.le_refl _, Int.le_refl _, Int.le_refl _, Int.le_refl _, Int.le_refl _, Int.le_refl _, Int.le_refl _, Int.le_refl _, Int.le_refl _⟩
  | k + 1, hk => by
    obtain ⟨s, hsk⟩ : ∃ s, B.svcs[k]? = some s := ⟨B.svcs[k], by simp [show k < B.svcs.length by omega]⟩
    rw [rkTo_succ hsk]
    have h := rkS_upTo hV (List.mem_of_getElem? hsk) (rkTo_upTo hV k (by omega)) (by omega)
    have e : (1000 * ((k + 1 : Nat) : Int)) = 1000 * (k : Int) + 1000 := by omega
    rw [e]
    exact h

end Go.Proofs.Ytbceafpodamnfab
