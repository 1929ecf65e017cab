/-
  My own: Pn, Po, Tb, Ma, Mb.
-/
import Derived.Test.YtbceafpodamnfabGreatA17
import Derived.Test.YtbceafpodamnfabGreatA02
import Derived.Test.YtbceafpodamnfabGreatA08
import Derived.Deep.DeepCutAuto
import Derived.Test.YtbceafpodamnfabGreatA01
import Derived.Laws.BytesString
import Derived.Laws.Concat
set_option linter.unusedVariables false
set_option linter.unusedSimpArgs false
/-
  My own. What a steward asks for, by the specification.
-/
namespace Go.Proofs.YtbceafpodamnfabGreat
open Go.RowKit Go.Sort

def actOf (kind : Int) (B : Bk) (s : Svc) : Ac :=
  if kind = 3 then { a0 s with ends := endsL B (someL B s fun c => c.state == 4) }
  else if s.gone = true then (if kind = 5 then { a0 s with ends := endsL B (liveTo B s.name B.cps.length), drop := ((cntB B s.name).live + (cntB B s.name).ending == 0) } else a0 s)
  else if kind = 1 then counterA B s
  else if kind = 2 then replaceA B s (someL B s fun c => c.image != s.image)
  else if kind = 6 then (if (((someL B s fun c => c.image != s.image).length : Int) == 0) = true then replaceA B s (someL B s fun c => drainsB B c) else a0 s)
  else if kind = 4 then (if 0 < s.per then scalerA s (desired s) else a0 s)
  else a0 s

structure PerIn (s : Svc) : Prop where
  per1 : s.per ≤ 1000000
  load0 : 0 ≤ s.load
  load1 : s.load ≤ 1000000
  least0 : 0 ≤ s.least
  least1 : s.least ≤ 10
  most0 : 0 ≤ s.most
  most1 : s.most ≤ 10
  cool0 : 0 ≤ s.cool
  cool1 : s.cool ≤ 3

theorem Valid.perIn {B : Bk} (h : Valid B) {s : Svc} (hs : s ∈ B.svcs) (hp : 0 < s.per) : PerIn s := by
  have := svcB_of h.svcs hs
  unfold svcB perB at this
  rw [if_neg (by omega)] at this
  simp only [Bool.and_eq_true, inB_iff] at this
  obtain ⟨_, ⟨⟨⟨h1, h2⟩, h3⟩, h4⟩, h5⟩ := this
  exact ⟨h1.2, h2.1, h2.2, h3.1, h3.2, by omega, h4.2, h5.1, h5.2⟩

theorem cntB_in (B : Bk) (sv : ByteArray) (hl : B.cps.length ≤ 1048576) : 0 ≤ (cntB B sv).live ∧ (cntB B sv).live ≤ 1048576 ∧ 0 ≤ (cntB B sv).ending ∧ (cntB B sv).ending ≤ 1048576 := by
  unfold cntB
  cases svcOf B sv with
  | none => simp [Cnt.none]
  | some s =>
    have h := cntTo_upTo s.image sv B.cps B.cps.length (Nat.le_refl _)
    unfold Cnt.upTo at h
    simp only
    omega

theorem l5Act_any (kind : Int) (B : Bk) (s : Svc) (a1 a2 a3 : Option Addr) (c1 c2 c3 : Nat) (w : World) (hS : B.small) (hV : Valid B) (hs : s ∈ B.svcs) (hB : BkAt w a1 a2 a3 B) :
    Calls Tryz.prog 23 #[.int .i64 kind, .agg #[.int .i64 B.now, .slice a1 B.svcs.length c1, .slice a2 B.cps.length c2, .slice a3 B.bts.length c3], .agg #[.string s.name, .int .i64 s.version, .bool s.gone, .int .i64 s.image, .int .i64 s.want, .int .i64 s.down, .int .i64 s.over, .int .i64 s.next, .int .i64 s.per, .int .i64 s.least, .int .i64 s.most, .int .i64 s.load, .int .i64 s.cool]] w fun e w' => ∃ v, e = .returned v ∧ IsAct w.heap.size w' v (actOf kind B s) ∧ Below w.heap.size w w' := by
  have hsi := hV.svcIn hs
  unfold actOf
  by_cases h3 : kind = 3
  · subst h3; rw [if_pos rfl]; exact l5Act_3 B s a1 a2 a3 c1 c2 c3 w hS hV hsi hB
  rw [if_neg h3]
  cases hg : s.gone
  · rw [if_neg (by simp)]
    by_cases h1 : kind = 1
    · subst h1; rw [if_pos rfl]; have := l5Act_1 B s hg a1 a2 a3 c1 c2 c3 w hS hV hsi hB; rwa [hg] at this
    rw [if_neg h1]
    by_cases h2 : kind = 2
    · subst h2; rw [if_pos rfl]; have := l5Act_2 B s hg a1 a2 a3 c1 c2 c3 w hS hV hsi hB; rwa [hg] at this
    rw [if_neg h2]
    by_cases h6 : kind = 6
    · subst h6
      rw [if_pos rfl]
      have hn : (someL B s fun c => c.image != s.image).length ≤ 1048576 := Nat.le_trans (List.length_filter_le _ _) (Nat.le_trans (liveTo_len _ _ _) hS.2.1)
      cases hc : (((someL B s fun c => c.image != s.image).length : Int) == 0)
      · rw [if_neg (by simp)]; have := l5Act_6x B s hg _ rfl hn hc a1 a2 a3 c1 c2 c3 w hS hV hsi hB; rwa [hg] at this
      · rw [if_pos rfl]; have := l5Act_6 B s hg _ rfl hn hc a1 a2 a3 c1 c2 c3 w hS hV hsi hB; rwa [hg] at this
    rw [if_neg h6]
    by_cases h4 : kind = 4
    · subst h4
      rw [if_pos rfl]
      by_cases hp : 0 < s.per
      · have hq := hV.perIn hs hp
        rw [if_pos hp]; have := l5Act_4 B s hg hp hq.load0 hq.load1 hq.per1 hq.least0 hq.least1 hq.most0 hq.most1 hq.cool0 hq.cool1 a1 a2 a3 c1 c2 c3 w hS hV hsi hB; rwa [hg] at this
      · rw [if_neg hp]; have := l5Act_4x B s hp hg a1 a2 a3 c1 c2 c3 w hS hV hsi hB; rwa [hg] at this
    rw [if_neg h4]
    have := l5Act_x B s kind h3 h1 h2 h6 h4 hg a1 a2 a3 c1 c2 c3 w hS hV hsi hB
    rwa [hg] at this
  · rw [if_pos rfl]
    by_cases h5 : kind = 5
    · subst h5
      rw [if_pos rfl]
      have hc := cntB_in B s.name hS.2.1
      have := l5Act_gone5 B s hg _ rfl hc.1 hc.2.1 hc.2.2.1 hc.2.2.2 a1 a2 a3 c1 c2 c3 w hS hV hsi hB
      rwa [hg] at this
    rw [if_neg h5]
    have := l5Act_goneX B s kind h3 h5 hg a1 a2 a3 c1 c2 c3 w hS hV hsi hB
    rwa [hg] at this

def keepA (A : Ac) : Bool := decide (0 < A.create) || A.scale || decide (0 < A.ends.length) || A.drop
/-- What StewAsk answers. -/
def askOf (kind : Int) (B : Bk) : List Ac := if validB B then (B.svcs.map (actOf kind B)).filter keepA else []

theorem Tryz.infoAct : (Tryz.prog.info? 59).map (fun i => (i.zero, i.size, i.bytes)) = some (some (.agg #[.string ⟨#[]⟩, .int .i64 0, .int .i64 0, .int .i64 0, .int .i64 0, .bool false, .slice none 0 0, .bool false]), 8, 88) := by kernel_rfl

set_option maxRecDepth 100000 in
set_option maxHeartbeats 16000000 in
theorem specAsk_any (kind : Int) (B : Bk) (a1 a2 a3 : Option Addr) (c1 c2 c3 : Nat) (w : World) (hS : B.small) (hZ : B.sized) (hB : BkAt w a1 a2 a3 B) :
    Calls Tryz.prog 6 #[.int .i64 kind, .agg #[.int .i64 B.now, .slice a1 B.svcs.length c1, .slice a2 B.cps.length c2, .slice a3 B.bts.length c3]] w fun e w' => ∃ (g cap : Nat) (R : List ActR), e = .returned (.slice (some ⟨g, 0, none⟩) R.length cap) ∧ R.map (·.1) = askOf kind B ∧ w.heap.size ≤ g ∧ RowIs w' 59 8 g R.length cap (actsV R) ∧ (∀ r ∈ R, SlEn w.heap.size w' r.2.1 r.1.ends) ∧ Below w.heap.size w w' := by
  obtain ⟨t0, t1, t2⟩ := two_new w (.cells #[.int .i64 B.now, .slice a1 B.svcs.length c1, .slice a2 B.cps.length c2, .slice a3 B.bts.length c3] 34) (.cells #[] 59)
  have T0 : Hid _ := t0
  have T1 : Hid _ := t1
  have HS2 : Hid _ := t2
  clear t0 t1 t2
  have hb0 : Below w.heap.size w ((w.alloc (.cells #[.int .i64 B.now, .slice a1 B.svcs.length c1, .slice a2 B.cps.length c2, .slice a3 B.bts.length c3] 34)).alloc (.cells #[] 59)) := ((Below.refl _ _).alloc (Nat.le_refl _) _).alloc (by simp) _
  have hl := hS
  obtain ⟨hl1, hl2, hl3⟩ := hl
  go_enter Tryz.func6, Tryz.ntmps6
  go_wp2_with fail
  refine (specValid_any B a1 a2 a3 c1 c2 c3 _ hS hZ (hB.below hb0)).mono ?_
  rintro e w1 ⟨rfl, hb1⟩
  have hbw1 := hb0.trans (hb1.mono hb0.size)
  rw [HS2.out] at hb1
  have U0 : Hid (w1.heap[w.heap.size]? = some (.cells #[.int .i64 B.now, .slice a1 B.svcs.length c1, .slice a2 B.cps.length c2, .slice a3 B.bts.length c3] 34 (0, 0))) := below_blk hb1 T0.out (by omega)
  have U1 : Hid (w1.heap[w.heap.size + 1]? = some (.cells #[] 59 (0, 0))) := below_blk hb1 T1.out (by omega)
  clear hb1 hb0 T0 T1 HS2
  cases hv : validB B
  · have HO : Hid (askOf kind B = []) := by unfold Hid askOf; rw [hv]; rfl
    go_wp2
    go_ret
    exact ⟨w.heap.size + 1, 0, [], rfl, HO.out.symm, by omega, ⟨rfl, Nat.le_refl _, #[], U1.out, rfl, rfl⟩, fun r hr => absurd hr (by simp), hbw1⟩
  · have hval := validB_iff.1 hv
    obtain ⟨L, HLL⟩ : ∃ L, Hid (B.svcs.map (actOf kind B) = L) := ⟨_, rfl⟩
    have HO : Hid (askOf kind B = L.filter keepA) := by unfold Hid askOf; rw [hv, HLL.out]; rfl
    have hLn : L.length = B.svcs.length := by rw [← HLL.out]; simp
    have HLN : Hid _ := hLn
    clear hv hLn
    go_wp2
    go_loopw [5, 6] (fun ov iv wr => ∃ (k g cap n : Nat) (R : List ActR), k ≤ B.svcs.length ∧ iv = .int .i64 k ∧ ov = .slice (some ⟨g, 0, none⟩) n cap ∧ Hid (n = R.length) ∧ n ≤ k ∧ Hid (R.map (·.1) = (L.take k).filter keepA) ∧ w.heap.size < g ∧ Below w.heap.size w wr ∧ Hid (wr.heap[w.heap.size]? = some (.cells #[.int .i64 B.now, .slice a1 B.svcs.length c1, .slice a2 B.cps.length c2, .slice a3 B.bts.length c3] 34 (0, 0))) ∧ Hid (RowIs wr 59 8 g n cap (actsV R)) ∧ Hid (∀ r ∈ R, r.1.ends ≠ [] → ∃ b, r.2.1 = some ⟨b, 0, none⟩ ∧ w.heap.size < b ∧ b ≠ g ∧ b < wr.heap.size ∧ EnsAt wr b 0 r.1.ends)) (fun _ i _ => B.svcs.length - (intOf i).toNat)
    case atStart => exact ⟨0, w.heap.size + 1, 0, 0, [], by omega, rfl, rfl, rfl, Nat.le_refl _, rfl, by omega, hbw1, U0, ⟨rfl, Nat.le_refl _, #[], U1.out, rfl, rfl⟩, fun r hr => absurd hr (by simp)⟩
    case round =>
      clear hbw1 U0 U1
      obtain ⟨k, g, cap, n, R, hk, rfl, rfl, HNR, hnk, HR, hg, hb, hbox, hrow, hends⟩ := hrel
      have hbl : w.heap.size < wr.heap.size := (Array.getElem?_eq_some_iff.1 hbox.out).1
      have hgl : g < wr.heap.size := hrow.out.lt
      by_cases hlt : k < B.svcs.length
      · obtain ⟨s, hsk⟩ : ∃ s, B.svcs[k]? = some s := ⟨B.svcs[k], by simp [hlt]⟩
        have hmem := List.mem_of_getElem? hsk
        have hne : B.svcs ≠ [] := by intro h; rw [h] at hlt; simp at hlt
        obtain ⟨b, off, ea, hbs, hat⟩ := hB.1 hne
        subst ea
        have hsx := hat k s hsk
        obtain ⟨AA, HAA⟩ : ∃ A, Hid (actOf kind B s = A) := ⟨_, rfl⟩
        have HLK : Hid (L[k]? = some AA) := by unfold Hid; rw [← HLL.out, List.getElem?_map, hsk, ← HAA.out]; rfl
        have HCA : Hid (∀ W : World, BkAt W (some ⟨b, off, none⟩) a2 a3 B → Calls Tryz.prog 23 #[.int .i64 kind, .agg #[.int .i64 B.now, .slice (some ⟨b, off, none⟩) B.svcs.length c1, .slice a2 B.cps.length c2, .slice a3 B.bts.length c3], .agg #[.string s.name, .int .i64 s.version, .bool s.gone, .int .i64 s.image, .int .i64 s.want, .int .i64 s.down, .int .i64 s.over, .int .i64 s.next, .int .i64 s.per, .int .i64 s.least, .int .i64 s.most, .int .i64 s.load, .int .i64 s.cool]] W fun e w' => ∃ v, e = .returned v ∧ IsAct W.heap.size w' v AA ∧ Below W.heap.size W w') := fun W h => by rw [← HAA.out]; exact l5Act_any kind B s _ a2 a3 c1 c2 c3 W hS hval hmem h
        have hz := hb.size
        clear hsk hne hat hmem HAA
        have e1 := blk_cell hbox.out 1 rfl
        go_wp2
        clear e1
        refine wp_region_grows 9 (by kernel_rfl) (by kernel_rfl) ?_
        apply grow_eq
        · intro V W K A hW hd hA hK
          simp only [putAll, List.getElem?_toArray, List.getElem?_cons_succ, List.getElem?_cons_zero, Option.bind_some, Act.put, List.setIfInBounds_toArray, List.set_cons_succ, List.set_cons_zero] at hA
          clear hd
          generalize V 0 = x0 at hA
          generalize V 1 = x1 at hA
          generalize V 2 = x2 at hA
          generalize V 3 = x3 at hA
          generalize V 4 = x4 at hA
          generalize V 5 = x5 at hA
          generalize V 6 = x6 at hA
          generalize V 7 = x7 at hA
          generalize V 8 = x8 at hA
          obtain rfl := hA
          go_wp2
          exact hK.out _ (Below.refl _ _)
        apply grow_eq
        · intro V W K A hW hd hA hK
          simp only [putAll, List.getElem?_toArray, List.getElem?_cons_succ, List.getElem?_cons_zero, Option.bind_some, Act.put, List.setIfInBounds_toArray, List.set_cons_succ, List.set_cons_zero] at hA
          clear hd
          generalize V 0 = x0 at hA
          generalize V 1 = x1 at hA
          generalize V 2 = x2 at hA
          generalize V 3 = x3 at hA
          generalize V 4 = x4 at hA
          generalize V 5 = x5 at hA
          generalize V 6 = x6 at hA
          generalize V 7 = x7 at hA
          generalize V 8 = x8 at hA
          obtain rfl := hA
          have e0 := blk_cell (below_blk hW hbox.out hbl) 0 rfl
          have e1 := blk_cell (below_blk hW hbox.out hbl) 1 rfl
          have e2 := blk_cell (below_blk hW hbox.out hbl) 2 rfl
          have e3 := blk_cell (below_blk hW hbox.out hbl) 3 rfl
          go_wp2
          exact hK.out _ (Below.refl _ _)
        apply grow_eq
        · intro V W K A hW hd hA hK
          simp only [putAll, List.getElem?_toArray, List.getElem?_cons_succ, List.getElem?_cons_zero, Option.bind_some, Act.put, List.setIfInBounds_toArray, List.set_cons_succ, List.set_cons_zero] at hA
          clear hd
          generalize V 0 = x0 at hA
          generalize V 1 = x1 at hA
          generalize V 2 = x2 at hA
          generalize V 3 = x3 at hA
          generalize V 4 = x4 at hA
          generalize V 5 = x5 at hA
          generalize V 6 = x6 at hA
          generalize V 7 = x7 at hA
          generalize V 8 = x8 at hA
          obtain rfl := hA
          go_wp2
          exact hK.out _ (Below.refl _ _)
        apply grow_eq
        · intro V W K A hW hd hA hK
          have d2 : V 2 = _ := hd 2 (by kernel_rfl)
          simp only [putAll, List.getElem?_toArray, List.getElem?_cons_succ, List.getElem?_cons_zero, Option.bind_some, Act.put, List.setIfInBounds_toArray, List.set_cons_succ, List.set_cons_zero] at hA
          clear hd
          generalize V 0 = x0 at hA
          generalize V 1 = x1 at hA
          generalize V 2 = x2 at d2 hA
          generalize V 3 = x3 at hA
          generalize V 4 = x4 at hA
          generalize V 5 = x5 at hA
          generalize V 6 = x6 at hA
          generalize V 7 = x7 at hA
          generalize V 8 = x8 at hA
          subst d2
          obtain rfl := hA
          have e1 := blk_cell (below_blk hW hbox.out hbl) 1 rfl
          go_wp2
          exact hK.out _ (Below.refl _ _)
        apply grow_eq
        · intro V W K A hW hd hA hK
          simp only [putAll, List.getElem?_toArray, List.getElem?_cons_succ, List.getElem?_cons_zero, Option.bind_some, Act.put, List.setIfInBounds_toArray, List.set_cons_succ, List.set_cons_zero] at hA
          clear hd
          generalize V 0 = x0 at hA
          generalize V 1 = x1 at hA
          generalize V 2 = x2 at hA
          generalize V 3 = x3 at hA
          generalize V 4 = x4 at hA
          generalize V 5 = x5 at hA
          generalize V 6 = x6 at hA
          generalize V 7 = x7 at hA
          generalize V 8 = x8 at hA
          obtain rfl := hA
          go_wp2
          exact hK.out _ (Below.refl _ _)
        apply grow_eq
        · intro V W K A hW hd hA hK
          have d3 : V 3 = _ := hd 3 (by kernel_rfl)
          have d4 : V 4 = _ := hd 4 (by kernel_rfl)
          simp only [putAll, List.getElem?_toArray, List.getElem?_cons_succ, List.getElem?_cons_zero, Option.bind_some, Act.put, List.setIfInBounds_toArray, List.set_cons_succ, List.set_cons_zero] at hA
          clear hd
          generalize V 0 = x0 at hA
          generalize V 1 = x1 at hA
          generalize V 2 = x2 at hA
          generalize V 3 = x3 at d3 hA
          generalize V 4 = x4 at d4 hA
          generalize V 5 = x5 at hA
          generalize V 6 = x6 at hA
          generalize V 7 = x7 at hA
          generalize V 8 = x8 at hA
          subst d3
          subst d4
          obtain rfl := hA
          go_wp2
          exact hK.out _ (Below.refl _ _)
        apply grow_eq
        · intro V W K A hW hd hA hK
          have d5 : V 5 = _ := hd 5 (by kernel_rfl)
          simp only [putAll, List.getElem?_toArray, List.getElem?_cons_succ, List.getElem?_cons_zero, Option.bind_some, Act.put, List.setIfInBounds_toArray, List.set_cons_succ, List.set_cons_zero] at hA
          clear hd
          generalize V 0 = x0 at hA
          generalize V 1 = x1 at hA
          generalize V 2 = x2 at hA
          generalize V 3 = x3 at hA
          generalize V 4 = x4 at hA
          generalize V 5 = x5 at d5 hA
          generalize V 6 = x6 at hA
          generalize V 7 = x7 at hA
          generalize V 8 = x8 at hA
          subst d5
          obtain rfl := hA
          have hq := hsx.below (hb.trans (hW.mono hb.size)) hbs
          unfold SvcAt at hq
          obtain ⟨q0, q1, q2, q3, q4, q5, q6, q7, q8, q9, q10, q11, q12⟩ := hq
          go_wp2
          exact hK.out _ (Below.refl _ _)
        refine grow_op (fun v W => IsAct wr.heap.size W v AA) (fun v W W2 h hb => h.below hb) ?_ ?_
        · intro V W K A hW hd hA hK
          have d0 : V 0 = _ := hd 0 (by kernel_rfl)
          have d1 : V 1 = _ := hd 1 (by kernel_rfl)
          have d6 : V 6 = _ := hd 6 (by kernel_rfl)
          simp only [putAll, List.getElem?_toArray, List.getElem?_cons_succ, List.getElem?_cons_zero, Option.bind_some, Act.put, List.setIfInBounds_toArray, List.set_cons_succ, List.set_cons_zero] at hA
          clear hd
          generalize V 0 = x0 at d0 hA
          generalize V 1 = x1 at d1 hA
          generalize V 2 = x2 at hA
          generalize V 3 = x3 at hA
          generalize V 4 = x4 at hA
          generalize V 5 = x5 at hA
          generalize V 6 = x6 at d6 hA
          generalize V 7 = x7 at hA
          generalize V 8 = x8 at hA
          subst d0
          subst d1
          subst d6
          obtain rfl := hA
          have hzW := hW.size
          go_wp2_with fail
          refine (HCA.out _ (hB.below (hb.trans (hW.mono hb.size)))).mono ?_
          rintro e w3 ⟨v, rfl, hA3, hb3⟩
          have HA3 : Hid (IsAct wr.heap.size w3 v AA) := hA3.low hzW
          clear hA3
          go_wp2
          exact hK.out _ _ hb3 HA3.out
        refine grow_op (fun v W => ∃ p, v = .pointer (some ⟨p, 0, none⟩) ∧ wr.heap.size ≤ p ∧ W.heap[p]? = some (.cells #[.string ⟨#[]⟩, .int .i64 0, .int .i64 0, .int .i64 0, .int .i64 0, .bool false, .slice none 0 0, .bool false] 59 (0, 0))) (fun v W W2 ⟨p, h1, h2, h3⟩ hb => ⟨p, h1, h2, below_blk hb h3 (Array.getElem?_eq_some_iff.1 h3).1⟩) ?_ ?_
        · intro V W K A hW hd hA hK
          simp only [putAll, List.getElem?_toArray, List.getElem?_cons_succ, List.getElem?_cons_zero, Option.bind_some, Act.put, List.setIfInBounds_toArray, List.set_cons_succ, List.set_cons_zero] at hA
          clear hd
          generalize V 0 = x0 at hA
          generalize V 1 = x1 at hA
          generalize V 2 = x2 at hA
          generalize V 3 = x3 at hA
          generalize V 4 = x4 at hA
          generalize V 5 = x5 at hA
          generalize V 6 = x6 at hA
          generalize V 7 = x7 at hA
          generalize V 8 = x8 at hA
          obtain rfl := hA
          go_wp2
          exact hK.out _ _ (below_box W _) ⟨_, rfl, hW.size, heap_alloc_new W _⟩
        intro V W A hW hS hA
        have d0 : V 0 = _ := hS 0 (by omega)
        have d1 : V 1 = _ := hS 1 (by omega)
        have d2 : V 2 = _ := hS 2 (by omega)
        have d3 : V 3 = _ := hS 3 (by omega)
        have d4 : V 4 = _ := hS 4 (by omega)
        have d5 : V 5 = _ := hS 5 (by omega)
        have d6 : V 6 = _ := hS 6 (by omega)
        have d7 : (fun v W => IsAct wr.heap.size W v AA) (V 7) W := hS 7 (by omega)
        have d8 : (fun v W => ∃ p, v = .pointer (some ⟨p, 0, none⟩) ∧ wr.heap.size ≤ p ∧ W.heap[p]? = some (.cells #[.string ⟨#[]⟩, .int .i64 0, .int .i64 0, .int .i64 0, .int .i64 0, .bool false, .slice none 0 0, .bool false] 59 (0, 0))) (V 8) W := hS 8 (by omega)
        simp only [putAll, List.getElem?_toArray, List.getElem?_cons_succ, List.getElem?_cons_zero, Option.bind_some, Act.put, List.setIfInBounds_toArray, List.set_cons_succ, List.set_cons_zero] at hA
        clear hS
        generalize V 0 = x0 at d0 hA
        generalize V 1 = x1 at d1 hA
        generalize V 2 = x2 at d2 hA
        generalize V 3 = x3 at d3 hA
        generalize V 4 = x4 at d4 hA
        generalize V 5 = x5 at d5 hA
        generalize V 6 = x6 at d6 hA
        generalize V 7 = x7 at d7 hA
        generalize V 8 = x8 at d8 hA
        subst d0
        subst d1
        subst d2
        subst d3
        subst d4
        subst d5
        subst d6
        obtain rfl := hA
        simp only [List.drop_succ_cons, List.drop_zero]
        obtain ⟨ae, ce, rfl, hE⟩ := d7
        obtain ⟨p, rfl, hp, hpz⟩ := d8
        have hzW := hW.size
        refine wpList_store_only rfl 59 (.tmp 7) (.tmp 27) rfl p 0 #[.string AA.service, .int .i64 AA.seen, .int .i64 AA.create, .int .i64 AA.want, .int .i64 AA.cool, .bool AA.scale, .slice ae AA.ends.length ce, .bool AA.drop] rfl rfl 59 #[.string ⟨#[]⟩, .int .i64 0, .int .i64 0, .int .i64 0, .int .i64 0, .bool false, .slice none 0 0, .bool false] hpz Tryz.infosAct (Nat.le_of_ble_eq_true rfl) (one_Act AA ae ce) ?_
        intro w2 hz2 on
        simp only [Act.put]
        have hact : Hid (w2.heap[p]? = some (.cells #[.string AA.service, .int .i64 AA.seen, .int .i64 AA.create, .int .i64 AA.want, .int .i64 AA.cool, .bool AA.scale, .slice ae AA.ends.length ce, .bool AA.drop] 59 (0, 0))) := hz2
        have hbWr : Below wr.heap.size wr w2 := hW.trans (on.below.mono hp)
        have hb2 := hb.trans (hbWr.mono hb.size)
        have hbox2 : Hid _ := below_blk hbWr hbox.out hbl
        have hrow2 : Hid (RowIs w2 59 8 g n cap (actsV R)) := hrow.out.below hbWr hgl
        have hzwa : W.heap.size ≤ w2.heap.size := by rw [on.size]; exact Nat.le_refl _
        have hzwb : w2.heap.size ≤ W.heap.size := by rw [on.size]; exact Nat.le_refl _
        have HE2 : Hid (AA.ends ≠ [] → ∃ ge, ae = some ⟨ge, 0, none⟩ ∧ wr.heap.size ≤ ge ∧ ge < w2.heap.size ∧ EnsAt w2 ge 0 AA.ends) := fun hn => by
          obtain ⟨ge, h1, h2, h3, h4⟩ := hE hn
          have hgp : ge ≠ p := by
            intro e
            subst e
            obtain ⟨x, l, hx⟩ := List.exists_cons_of_ne_nil hn
            have hc := h4 0 x (by rw [hx]; rfl)
            unfold EnAt at hc
            have h5 := hc.1
            rw [show 0 + 0 * 2 = 0 from rfl, blk_cell hpz 0 rfl] at h5
            cases h5
          exact ⟨ge, h1, h2, by omega, fun i x hx => (h4 i x hx).blk (on.other ge hgp)⟩
        have HRE2 : Hid (∀ r ∈ R, r.1.ends ≠ [] → ∃ b, r.2.1 = some ⟨b, 0, none⟩ ∧ w.heap.size < b ∧ b ≠ g ∧ b < wr.heap.size ∧ EnsAt w2 b 0 r.1.ends) := fun r hr hn => by
          obtain ⟨b, h1, h2, h3, h4, h5⟩ := hends.out r hr hn
          exact ⟨b, h1, h2, h3, h4, fun i x hx => (h5 i x hx).blk (hbWr.block b h4)⟩
        clear hE hpz hz2 on hends hrow hbox HCA hW hsx hb
        obtain ⟨kb, HKB⟩ : ∃ kb, Hid (keepA AA = kb) := ⟨_, rfl⟩
        have HF : Hid ((L.take (k + 1)).filter keepA = (L.take k).filter keepA ++ (if kb then [AA] else [])) := by unfold Hid; rw [filter_take _ L HLK.out, HKB.out]
        go_upto_region 8 with fail
        go_cut [44] (fun v wx => v = .bool kb ∧ w2 = wx)
        case first =>
          have z2 := blk_cell hact.out 2 rfl
          have z5 := blk_cell hact.out 5 rfl
          have z6 := blk_cell hact.out 6 rfl
          have z7 := blk_cell hact.out 7 rfl
          by_cases hc1 : 0 < AA.create
          · have HT : Hid (kb = true) := by unfold Hid; rw [← HKB.out]; unfold keepA; simp [hc1]
            go_wp2
            go_meet
            case rel => exact ⟨by rw [HT.out], rfl⟩
          cases hc2 : AA.scale
          · cases hc3 : decide (0 < AA.ends.length)
            case true =>
              have HT : Hid (kb = true) := by unfold Hid; rw [← HKB.out]; unfold keepA; rw [hc3]; simp
              go_wp2
              go_meet
              case rel => exact ⟨by rw [HT.out], rfl⟩
            case false =>
              have HT : Hid (kb = AA.drop) := by unfold Hid; rw [← HKB.out]; unfold keepA; rw [decide_eq_false hc1, hc3, hc2]; rfl
              go_wp2
              go_meet
              case rel => exact ⟨by rw [HT.out], rfl⟩
          · have HT : Hid (kb = true) := by unfold Hid; rw [← HKB.out]; unfold keepA; rw [hc2]; simp
            go_wp2
            go_meet
            case rel => exact ⟨by rw [HT.out], rfl⟩
        case rest =>
          obtain ⟨rfl, rfl⟩ := hcut
          cases kb
          · go_wp2
            go_roundw
            case rel => exact ⟨k + 1, g, cap, n, R, by omega, by go_num, rfl, HNR, by omega, by rw [HF.out]; simpa using HR, hg, hb2, hbox2, hrow2, fun r hr hn => let ⟨b, h1, h2, h3, h4, h5⟩ := HRE2.out r hr hn; ⟨b, h1, h2, h3, by omega, h5⟩⟩
            case measure => simp [intOf]; omega
          · have q0 := blk_cell hact.out 0 rfl
            have q1 := blk_cell hact.out 1 rfl
            have q2 := blk_cell hact.out 2 rfl
            have q3 := blk_cell hact.out 3 rfl
            have q4 := blk_cell hact.out 4 rfl
            have q5 := blk_cell hact.out 5 rfl
            have q6 := blk_cell hact.out 6 rfl
            have q7 := blk_cell hact.out 7 rfl
            have hgl2 : g < w2.heap.size := by omega
            go_wp2_with (at_builtin; refine wpList_append_row rfl (.tmp 45) (.tmp 47) 28 rfl 59 _ 8 88 Tryz.underlying28 Tryz.infoAct rfl g n cap _ rfl (hrow2.out.below (below_box w2 _) hgl2) ⟨w2.heap.size, 0, none⟩ 1 1 (#[.string AA.service, .int .i64 AA.seen, .int .i64 AA.create, .int .i64 AA.want, .int .i64 AA.cool, .bool AA.scale, .slice ae AA.ends.length ce, .bool AA.drop] : Array Value).toList rfl rfl (news_row (heap_alloc_new w2 _)) (fun u hu => (Array.all_eq_true_iff_forall_mem.1 (one_Act AA ae ce)) u (by simpa using hu)) (by unfold maxLen; omega) (by omega) ?_; intro g' cap' w4 hg' hrow' hgr)
            have hsz : (w2.alloc (.cells #[.string AA.service, .int .i64 AA.seen, .int .i64 AA.create, .int .i64 AA.want, .int .i64 AA.cool, .bool AA.scale, .slice ae AA.ends.length ce, .bool AA.drop] 59)).heap.size = w2.heap.size + 1 := by show (w2.heap.push _).size = _; simp
            have hal := below_box w2 (.cells #[.string AA.service, .int .i64 AA.seen, .int .i64 AA.create, .int .i64 AA.want, .int .i64 AA.cool, .bool AA.scale, .slice ae AA.ends.length ce, .bool AA.drop] 59)
            have hb4 : Below w.heap.size w w4 := (hb2.alloc hb2.size _).trans (below_of_grown hgr (by omega) (by rw [hsz]; omega))
            have hbox4 : Hid _ := (hgr.block w.heap.size (by rw [hsz]; omega) (fun e => by have := Option.some.inj e; omega)).trans (below_blk hal hbox2.out (by omega))
            rw [hsz] at hg'
            have hz4 := hgr.size
            rw [hsz] at hz4
            have hkeep : ∀ q, q < w2.heap.size → q ≠ g → w4.heap[q]? = w2.heap[q]? := fun q hq hqg => (hgr.block q (by rw [hsz]; omega) (fun e => hqg (Option.some.inj e))).trans (hal.block q hq)
            have HKP : Hid _ := hkeep
            clear hkeep hgr hal
            go_roundw
            case rel =>
              refine ⟨k + 1, g', cap', n + 1, R ++ [(AA, ae, ce)], by omega, by go_num, rfl, by unfold Hid; rw [HNR.out]; simp, by omega, by unfold Hid; rw [HF.out, List.map_append, HR.out]; rfl, by omega, hb4, hbox4, by rw [actsV_add]; exact hrow', fun r hr hn => ?_⟩
              rcases List.mem_append.1 hr with hr | hr
              · obtain ⟨b, h1, h2, h3, h4, h5⟩ := HRE2.out r hr hn
                exact ⟨b, h1, h2, by omega, by omega, fun i x hx => (h5 i x hx).blk (HKP.out b (by omega) h3)⟩
              · have e : r = (AA, ae, ce) := by simpa using hr
                subst e
                obtain ⟨ge, h1, h2, h3, h4⟩ := HE2.out hn
                exact ⟨ge, h1, by omega, by omega, by omega, fun i x hx => (h4 i x hx).blk (HKP.out ge h3 (by omega))⟩
            case measure => simp [intOf]; omega
      · have e1 := blk_cell hbox.out 1 rfl
        go_wp2
        go_ret
        have hkl : k = L.length := by rw [HLN.out]; omega
        have hR := HR.out
        rw [hkl, List.take_length] at hR
        have hn := HNR.out
        subst hn
        refine ⟨g, cap, R, rfl, by rw [HO.out, hR], by omega, hrow.out, fun r hr hn => ?_, hb⟩
        obtain ⟨b, h1, h2, h3, h4, h5⟩ := hends.out r hr hn
        exact ⟨b, h1, by omega, h4, h5⟩

end Go.Proofs.YtbceafpodamnfabGreat

/-
  My own. What a steward asks for, by the specification: read as a slice of acts; its bounds.
-/
namespace Go.Proofs.YtbceafpodamnfabGreat
open Go.RowKit Go.Sort

theorem actsV_at : ∀ (R : List ActR) (i : Nat) (r : ActR) (j : Nat), R[i]? = some r → j < 8 → (actsV R)[i * 8 + j]? = (actCells r)[j]?
  | [], _, _, _, h, _ => by simp at h
  | x :: R, 0, r, j, h, hj => by
    simp at h
    subst h
    have e : actsV (x :: R) = actCells x ++ actsV R := by simp [actsV]
    rw [e, List.getElem?_append_left (by show _ < 8; omega), Nat.zero_mul, Nat.zero_add]
  | x :: R, i + 1, r, j, h, hj => by
    have e : actsV (x :: R) = actCells x ++ actsV R := by simp [actsV]
    have hl : (actCells x).length = 8 := rfl
    rw [e, List.getElem?_append_right (by omega), hl, show (i + 1) * 8 + j - 8 = i * 8 + j by omega]
    exact actsV_at R i r j (by simpa using h) hj

theorem rowA_sl {w : World} {g cap lo : Nat} {R : List ActR} (h : RowIs w 59 8 g R.length cap (actsV R)) (he : ∀ r ∈ R, SlEn lo w r.2.1 r.1.ends) : SlA w (some ⟨g, 0, none⟩) R := fun _ =>
  ⟨g, 0, rfl, h.lt, fun i r hr => by
    have hc : ∀ j, j < 8 → ∀ u, (actCells r)[j]? = some u → w.cell? ⟨g, 0 + i * 8 + j, none⟩ = some u := fun j hj u hu => by
      rw [Nat.zero_add]
      exact h.cell ((actsV_at R i r j hr hj).trans hu)
    refine ⟨?_, fun hn => ?_⟩
    · unfold AcAt
      exact ⟨hc 0 (by omega) _ rfl, hc 1 (by omega) _ rfl, hc 2 (by omega) _ rfl, hc 3 (by omega) _ rfl, hc 4 (by omega) _ rfl, hc 5 (by omega) _ rfl, hc 6 (by omega) _ rfl, hc 7 (by omega) _ rfl⟩
    · obtain ⟨ge, e1, _, e3, e4⟩ := he r (List.mem_of_getElem? hr) hn
      exact ⟨ge, 0, e1, e3, e4⟩⟩

theorem specAsk_sl (kind : Int) (B : Bk) (a1 a2 a3 : Option Addr) (c1 c2 c3 : Nat) (w : World) (hS : B.small) (hZ : B.sized) (hB : BkAt w a1 a2 a3 B) :
    Calls Tryz.prog 6 #[.int .i64 kind, .agg #[.int .i64 B.now, .slice a1 B.svcs.length c1, .slice a2 B.cps.length c2, .slice a3 B.bts.length c3]] w fun e w' => ∃ (ao : Option Addr) (cap : Nat) (R : List ActR), e = .returned (.slice ao R.length cap) ∧ R.map (·.1) = askOf kind B ∧ SlA w' ao R ∧ Below w.heap.size w w' :=
  (specAsk_any kind B a1 a2 a3 c1 c2 c3 w hS hZ hB).mono fun _ _ ⟨g, cap, R, he, hR, _, hrow, hends, hb⟩ => ⟨some ⟨g, 0, none⟩, cap, R, he, hR, rowA_sl hrow hends, hb⟩

theorem askOf_len (kind : Int) (B : Bk) : (askOf kind B).length ≤ 1000 := by
  unfold askOf
  cases hv : validB B
  · simp
  · have hV := validB_iff.1 hv
    have h1 := hV.ls
    simp only [if_true]
    refine Nat.le_trans (List.length_filter_le _ _) ?_
    rw [List.length_map]
    omega

theorem firstL_len (B : Bk) (img : Int) (L : List Nat) : (firstL B img L).length ≤ 1 := by cases L <;> simp [firstL]

theorem actOf_ends (kind : Int) (B : Bk) (s : Svc) : (actOf kind B s).ends.length ≤ B.cps.length + 1 := by
  have hlive := liveTo_len B s.name B.cps.length
  have hsome : ∀ p, (someL B s p).length ≤ B.cps.length := fun p => Nat.le_trans (List.length_filter_le _ _) hlive
  have hc : (counterA B s).ends.length ≤ 1 := by
    unfold counterA
    split
    · simp [a0]
    · split
      · exact firstL_len _ _ _
      · simp [a0]
  have hr : ∀ L2, (replaceA B s L2).ends.length ≤ 1 := fun L2 => by
    unfold replaceA
    split
    · simp [a0]
    · split
      · simp [a0]
      · exact firstL_len _ _ _
  have h0 : (a0 s).ends.length = 0 := rfl
  unfold actOf
  by_cases h3 : kind = 3
  · rw [if_pos h3]
    show (endsL B _).length ≤ _
    rw [endsL_len]
    have := hsome fun c => c.state == 4
    omega
  rw [if_neg h3]
  by_cases hg : s.gone = true
  · rw [if_pos hg]
    by_cases h5 : kind = 5
    · rw [if_pos h5]
      show (endsL B _).length ≤ _
      rw [endsL_len]
      omega
    · rw [if_neg h5]; omega
  rw [if_neg hg]
  by_cases h1 : kind = 1
  · rw [if_pos h1]; omega
  rw [if_neg h1]
  by_cases h2 : kind = 2
  · rw [if_pos h2]; have := hr (someL B s fun c => c.image != s.image); omega
  rw [if_neg h2]
  by_cases h6 : kind = 6
  · rw [if_pos h6]
    split
    · have := hr (someL B s fun c => drainsB B c); omega
    · omega
  rw [if_neg h6]
  by_cases h4 : kind = 4
  · rw [if_pos h4]
    split
    · rw [scalerA_ends]; simp
    · omega
  rw [if_neg h4]
  omega

theorem askOf_ends (kind : Int) (B : Bk) : ∀ A ∈ askOf kind B, A.ends.length ≤ 20000 := by
  intro A hA
  unfold askOf at hA
  cases hv : validB B
  · rw [hv] at hA; simp at hA
  · rw [hv] at hA
    have hV := validB_iff.1 hv
    simp only [if_true] at hA
    obtain ⟨s, _, e⟩ := List.mem_map.1 (List.mem_filter.1 hA).1
    have := actOf_ends kind B s
    have := hV.lc
    rw [← e]
    omega

end Go.Proofs.YtbceafpodamnfabGreat

/-
  My own. Acts: copied, held against themselves.
-/
namespace Go.Proofs.YtbceafpodamnfabGreat
open Go.RowKit Go.Sort

set_option maxHeartbeats 1000000 in
theorem eqEnd_same (s : En) (w : World) :
    Calls Tryz.prog 122 #[.agg #[.int .i64 s.number, .int .i64 s.seen], .agg #[.int .i64 s.number, .int .i64 s.seen]] w fun e w' => e = .returned (.bool true) ∧ Below w.heap.size w w' := by
  go_enter Tryz.func122, Tryz.ntmps122
  go_wp2
  go_ret
  exact ⟨rfl, ((Below.refl _ _).alloc (Nat.le_refl _) _).alloc (by simp) _⟩

set_option maxHeartbeats 1000000 in
theorem eqEndS_same (l : List En) (ao ap : Option Addr) (cap cap' : Nat) (w : World) (hl : l.length ≤ 1048576) (h1 : SlE w ao l) (h2 : SlE w ap l) :
    Calls Tryz.prog 79 #[.slice ao l.length cap, .slice ap l.length cap'] w fun e w' => e = .returned (.bool true) ∧ Below w.heap.size w w' := by
  go_enter Tryz.func79, Tryz.ntmps79
  go_wp2
  go_loopw [5] (fun iv wr => ∃ (k : Nat), k ≤ l.length ∧ iv = .int .i64 k ∧ Below w.heap.size w wr) (fun i _ => l.length - (intOf i).toNat)
  case atStart => exact ⟨0, by omega, rfl, Below.refl _ _⟩
  case round =>
    obtain ⟨k, hk, rfl, hb⟩ := hrel
    by_cases hlt : k < l.length
    · have hne : l ≠ [] := by intro h; rw [h] at hlt; simp at hlt
      obtain ⟨b, off, rfl, hbs, hat⟩ := h1 hne
      obtain ⟨b', off', rfl, hbs', hat'⟩ := h2 hne
      obtain ⟨s, hsk⟩ : ∃ s, l[k]? = some s := ⟨l[k], by simp [hlt]⟩
      obtain ⟨c0, c1⟩ := ((hat k s hsk).below hb hbs).grown
      obtain ⟨d0, d1⟩ := ((hat' k s hsk).below hb hbs').grown
      clear hsk hat hat' h1 h2 hne
      go_wp2
      refine wp_region_quiet_below (by kernel_rfl) (by kernel_rfl) ?_
      repeat (first | go_big_quiet_step (exact Calls.regrown_of (eqEnd_same s _)) | quiet_step (exact Calls.regrown_of (eqEnd_same s _)))
      refine wpQuiet_nil ?_
      intro w1 hw'
      obtain ⟨⟨dq, osq⟩, hw''⟩ := hw'
      have hb1 : Below wr.heap.size wr w1 := by rw [hw'']; exact below_regrown _ _ _
      clear hw'' c0 d0 c1 d1
      have hb2 := hb.trans (hb1.mono hb.size)
      go_wp2
      go_roundw
      case rel => exact ⟨k + 1, by omega, by go_num, hb2⟩
      case measure => simp [intOf]; omega
    · go_wp2
      go_ret
      exact ⟨rfl, hb⟩

end Go.Proofs.YtbceafpodamnfabGreat

/-
  My own. Copies that own their rows.
-/
namespace Go.Proofs.YtbceafpodamnfabGreat
open Go.RowKit Go.Sort

/-- At block b lies just this list. -/
def OwnS (w : World) (b : Nat) (l : List Svc) : Prop := ∃ cur : Array Value, w.heap[b]? = some (.cells cur 48 (0, 0)) ∧ Filled Svc.cells 13 l l.length cur.toList
theorem OwnS.blk {w w' : World} {b : Nat} {l : List Svc} (h : OwnS w b l) (hb : w'.heap[b]? = w.heap[b]?) : OwnS w' b l := let ⟨cur, h1, h2⟩ := h; ⟨cur, hb.trans h1, h2⟩
theorem OwnS.lt {w : World} {b : Nat} {l : List Svc} (h : OwnS w b l) : b < w.heap.size := let ⟨_, h1, _⟩ := h; (Array.getElem?_eq_some_iff.1 h1).1
theorem OwnS.sl {w : World} {b : Nat} {l : List Svc} (h : OwnS w b l) : SlS w (some ⟨b, 0, none⟩) l := fun _ => let ⟨_, h1, h2⟩ := h; ⟨b, 0, rfl, (Array.getElem?_eq_some_iff.1 h1).1, svcsAt_of_filled h1 h2⟩

/-- At block b lies just this list. -/
def OwnC (w : World) (b : Nat) (l : List Cp) : Prop := ∃ cur : Array Value, w.heap[b]? = some (.cells cur 88 (0, 0)) ∧ Filled Cp.cells 7 l l.length cur.toList
theorem OwnC.blk {w w' : World} {b : Nat} {l : List Cp} (h : OwnC w b l) (hb : w'.heap[b]? = w.heap[b]?) : OwnC w' b l := let ⟨cur, h1, h2⟩ := h; ⟨cur, hb.trans h1, h2⟩
theorem OwnC.lt {w : World} {b : Nat} {l : List Cp} (h : OwnC w b l) : b < w.heap.size := let ⟨_, h1, _⟩ := h; (Array.getElem?_eq_some_iff.1 h1).1
theorem OwnC.sl {w : World} {b : Nat} {l : List Cp} (h : OwnC w b l) : SlC w (some ⟨b, 0, none⟩) l := fun _ => let ⟨_, h1, h2⟩ := h; ⟨b, 0, rfl, (Array.getElem?_eq_some_iff.1 h1).1, cpsAt_of_filled h1 h2⟩

/-- At block b lies just this list. -/
def OwnB (w : World) (b : Nat) (l : List Bt) : Prop := ∃ cur : Array Value, w.heap[b]? = some (.cells cur 86 (0, 0)) ∧ Filled Bt.cells 2 l l.length cur.toList
theorem OwnB.blk {w w' : World} {b : Nat} {l : List Bt} (h : OwnB w b l) (hb : w'.heap[b]? = w.heap[b]?) : OwnB w' b l := let ⟨cur, h1, h2⟩ := h; ⟨cur, hb.trans h1, h2⟩
theorem OwnB.lt {w : World} {b : Nat} {l : List Bt} (h : OwnB w b l) : b < w.heap.size := let ⟨_, h1, _⟩ := h; (Array.getElem?_eq_some_iff.1 h1).1
theorem OwnB.sl {w : World} {b : Nat} {l : List Bt} (h : OwnB w b l) : SlB w (some ⟨b, 0, none⟩) l := fun _ => let ⟨_, h1, h2⟩ := h; ⟨b, 0, rfl, (Array.getElem?_eq_some_iff.1 h1).1, btsAt_of_filled h1 h2⟩

/-- At block b lies just this list. -/
def OwnE (w : World) (b : Nat) (l : List En) : Prop := ∃ cur : Array Value, w.heap[b]? = some (.cells cur 118 (0, 0)) ∧ Filled En.cells 2 l l.length cur.toList
theorem OwnE.blk {w w' : World} {b : Nat} {l : List En} (h : OwnE w b l) (hb : w'.heap[b]? = w.heap[b]?) : OwnE w' b l := let ⟨cur, h1, h2⟩ := h; ⟨cur, hb.trans h1, h2⟩
theorem OwnE.lt {w : World} {b : Nat} {l : List En} (h : OwnE w b l) : b < w.heap.size := let ⟨_, h1, _⟩ := h; (Array.getElem?_eq_some_iff.1 h1).1
theorem OwnE.sl {w : World} {b : Nat} {l : List En} (h : OwnE w b l) : SlE w (some ⟨b, 0, none⟩) l := fun _ => let ⟨_, h1, h2⟩ := h; ⟨b, 0, rfl, (Array.getElem?_eq_some_iff.1 h1).1, ensAt_of_filled h1 h2⟩

set_option maxHeartbeats 1000000 in
theorem toServiceS_own (l : List Svc) (ao : Option Addr) (cap : Nat) (w : World) (hl : l.length ≤ 1048576)
    (hc : l ≠ [] → ∃ b off, ao = some ⟨b, off, none⟩ ∧ b < w.heap.size ∧ SvcsAt w b off l) :
    Calls Tryz.prog 24 #[.slice ao l.length cap] w fun e w' => e = .returned (.slice (some ⟨w.heap.size, 0, none⟩) l.length l.length) ∧ w.heap.size < w'.heap.size ∧ OwnS w' w.heap.size l ∧ Below w.heap.size w w' := by
  go_enter Tryz.func24, Tryz.ntmps24
  go_wp2_with (at_make; refine wpList_make_at rfl (.tmp 6) (.tmp 6) 30 rfl 48 _ 13 112 Tryz.underlying30 Tryz.infoService l.length rfl rfl (by omega) (by unfold maxLen; omega) ?_; intro w0 hrow0 hsz0 hb0)
  go_loopw [4] (fun iv wr => ∃ (k : Nat), k ≤ l.length ∧ iv = .int .i64 k ∧ w.heap.size < wr.heap.size ∧ Below w.heap.size w wr ∧ ∃ cur : Array Value, Hid (wr.heap[w.heap.size]? = some (.cells cur 48 (0, 0))) ∧ Hid (Filled Svc.cells 13 l k cur.toList)) (fun i _ => l.length - (intOf i).toNat)
  case atStart => exact ⟨0, by omega, rfl, by rw [hsz0.out]; omega, hb0, _, hrow0, ⟨by rw [Array.length_toList, size_madeCells], fun i s hi => absurd hi (by omega)⟩⟩
  case round =>
    obtain ⟨k, hk, rfl, hsz, hb, cur, hrow, hfill⟩ := hrel
    by_cases hlt : k < l.length
    · obtain ⟨b, off, rfl, hbs, hat⟩ := hc (by intro h; rw [h] at hlt; simp at hlt)
      obtain ⟨s, hsk⟩ : ∃ s, l[k]? = some s := ⟨l[k], by simp [hlt]⟩
      have hcs := (hat k s hsk).below hb hbs
      have hsk' : Hid (l[k]? = some s) := hsk
      unfold SvcAt at hcs
      obtain ⟨c0, c1, c2, c3, c4, c5, c6, c7, c8, c9, c10, c11, c12⟩ := hcs
      clear hsk hat hc
      go_wp2_with fail
      refine (toService_any s _).mono ?_
      rintro e w1 ⟨rfl, hb1⟩
      clear c0 c1 c2 c3 c4 c5 c6 c7 c8 c9 c10 c11 c12
      have hb2 := hb.trans (hb1.mono hb.size)
      have hrow1 : Hid (w1.heap[w.heap.size]? = some (.cells cur 48 (0, 0))) := (hb1.block _ hsz).trans hrow.out
      have hlen := hfill.out.1
      have hfit : k * 13 + 13 ≤ cur.size := by rw [Array.length_toList] at hlen; omega
      go_wp2_with (refine wpList_store_at rfl 48 (.tmp 21) (.tmp 20) rfl w.heap.size (k * 13) #[.string s.name, .int .i64 s.version, .bool s.gone, .int .i64 s.image, .int .i64 s.want, .int .i64 s.down, .int .i64 s.over, .int .i64 s.next, .int .i64 s.per, .int .i64 s.least, .int .i64 s.most, .int .i64 s.load, .int .i64 s.cool] rfl rfl 48 cur hrow1.out Tryz.infosService hfit (one_Svc s) ?_; intro w2 hrow2 hsz2 hb3)
      have hsz3 : w.heap.size < w2.heap.size := by rw [hsz2.out]; exact Nat.lt_of_lt_of_le hsz hb1.size
      have hb4 : Below w.heap.size w w2 := hb2.trans hb3
      go_roundw
      case rel => exact ⟨k + 1, by omega, by go_num, hsz3, hb4, _, hrow2, hfill.out.step hsk'.out rfl⟩
      case measure => simp [intOf]; omega
    · go_wp2
      go_ret
      have hkl : k = l.length := by omega
      rw [hkl] at hfill
      exact ⟨rfl, hsz, ⟨_, hrow.out, hfill.out⟩, hb⟩

set_option maxHeartbeats 1000000 in
theorem toCopyS_own (l : List Cp) (ao : Option Addr) (cap : Nat) (w : World) (hl : l.length ≤ 1048576)
    (hc : l ≠ [] → ∃ b off, ao = some ⟨b, off, none⟩ ∧ b < w.heap.size ∧ CpsAt w b off l) :
    Calls Tryz.prog 25 #[.slice ao l.length cap] w fun e w' => e = .returned (.slice (some ⟨w.heap.size, 0, none⟩) l.length l.length) ∧ w.heap.size < w'.heap.size ∧ OwnC w' w.heap.size l ∧ Below w.heap.size w w' := by
  go_enter Tryz.func25, Tryz.ntmps25
  go_wp2_with (at_make; refine wpList_make_at rfl (.tmp 6) (.tmp 6) 31 rfl 88 _ 7 72 Tryz.underlying31 Tryz.infoCopy l.length rfl rfl (by omega) (by unfold maxLen; omega) ?_; intro w0 hrow0 hsz0 hb0)
  go_loopw [4] (fun iv wr => ∃ (k : Nat), k ≤ l.length ∧ iv = .int .i64 k ∧ w.heap.size < wr.heap.size ∧ Below w.heap.size w wr ∧ ∃ cur : Array Value, Hid (wr.heap[w.heap.size]? = some (.cells cur 88 (0, 0))) ∧ Hid (Filled Cp.cells 7 l k cur.toList)) (fun i _ => l.length - (intOf i).toNat)
  case atStart => exact ⟨0, by omega, rfl, by rw [hsz0.out]; omega, hb0, _, hrow0, ⟨by rw [Array.length_toList, size_madeCells], fun i s hi => absurd hi (by omega)⟩⟩
  case round =>
    obtain ⟨k, hk, rfl, hsz, hb, cur, hrow, hfill⟩ := hrel
    by_cases hlt : k < l.length
    · obtain ⟨b, off, rfl, hbs, hat⟩ := hc (by intro h; rw [h] at hlt; simp at hlt)
      obtain ⟨s, hsk⟩ : ∃ s, l[k]? = some s := ⟨l[k], by simp [hlt]⟩
      have hcs := (hat k s hsk).below hb hbs
      have hsk' : Hid (l[k]? = some s) := hsk
      unfold CpAt at hcs
      obtain ⟨c0, c1, c2, c3, c4, c5, c6⟩ := hcs
      clear hsk hat hc
      go_wp2_with fail
      refine (toCopy_any s _).mono ?_
      rintro e w1 ⟨rfl, hb1⟩
      clear c0 c1 c2 c3 c4 c5 c6
      have hb2 := hb.trans (hb1.mono hb.size)
      have hrow1 : Hid (w1.heap[w.heap.size]? = some (.cells cur 88 (0, 0))) := (hb1.block _ hsz).trans hrow.out
      have hlen := hfill.out.1
      have hfit : k * 7 + 7 ≤ cur.size := by rw [Array.length_toList] at hlen; omega
      go_wp2_with (refine wpList_store_at rfl 88 (.tmp 21) (.tmp 20) rfl w.heap.size (k * 7) #[.string s.service, .int .i64 s.number, .int .i64 s.version, .int .i64 s.image, .int .i64 s.state, .bool s.ending, .string s.berth] rfl rfl 88 cur hrow1.out Tryz.infosCopy hfit (one_Cp s) ?_; intro w2 hrow2 hsz2 hb3)
      have hsz3 : w.heap.size < w2.heap.size := by rw [hsz2.out]; exact Nat.lt_of_lt_of_le hsz hb1.size
      have hb4 : Below w.heap.size w w2 := hb2.trans hb3
      go_roundw
      case rel => exact ⟨k + 1, by omega, by go_num, hsz3, hb4, _, hrow2, hfill.out.step hsk'.out rfl⟩
      case measure => simp [intOf]; omega
    · go_wp2
      go_ret
      have hkl : k = l.length := by omega
      rw [hkl] at hfill
      exact ⟨rfl, hsz, ⟨_, hrow.out, hfill.out⟩, hb⟩

set_option maxHeartbeats 1000000 in
theorem toBerthS_own (l : List Bt) (ao : Option Addr) (cap : Nat) (w : World) (hl : l.length ≤ 1048576)
    (hc : l ≠ [] → ∃ b off, ao = some ⟨b, off, none⟩ ∧ b < w.heap.size ∧ BtsAt w b off l) :
    Calls Tryz.prog 26 #[.slice ao l.length cap] w fun e w' => e = .returned (.slice (some ⟨w.heap.size, 0, none⟩) l.length l.length) ∧ w.heap.size < w'.heap.size ∧ OwnB w' w.heap.size l ∧ Below w.heap.size w w' := by
  go_enter Tryz.func26, Tryz.ntmps26
  go_wp2_with (at_make; refine wpList_make_at rfl (.tmp 6) (.tmp 6) 32 rfl 86 _ 2 24 Tryz.underlying32 Tryz.infoBerth l.length rfl rfl (by omega) (by unfold maxLen; omega) ?_; intro w0 hrow0 hsz0 hb0)
  go_loopw [4] (fun iv wr => ∃ (k : Nat), k ≤ l.length ∧ iv = .int .i64 k ∧ w.heap.size < wr.heap.size ∧ Below w.heap.size w wr ∧ ∃ cur : Array Value, Hid (wr.heap[w.heap.size]? = some (.cells cur 86 (0, 0))) ∧ Hid (Filled Bt.cells 2 l k cur.toList)) (fun i _ => l.length - (intOf i).toNat)
  case atStart => exact ⟨0, by omega, rfl, by rw [hsz0.out]; omega, hb0, _, hrow0, ⟨by rw [Array.length_toList, size_madeCells], fun i s hi => absurd hi (by omega)⟩⟩
  case round =>
    obtain ⟨k, hk, rfl, hsz, hb, cur, hrow, hfill⟩ := hrel
    by_cases hlt : k < l.length
    · obtain ⟨b, off, rfl, hbs, hat⟩ := hc (by intro h; rw [h] at hlt; simp at hlt)
      obtain ⟨s, hsk⟩ : ∃ s, l[k]? = some s := ⟨l[k], by simp [hlt]⟩
      have hcs := (hat k s hsk).below hb hbs
      have hsk' : Hid (l[k]? = some s) := hsk
      unfold BtAt at hcs
      obtain ⟨c0, c1⟩ := hcs
      clear hsk hat hc
      go_wp2_with fail
      refine (toBerth_any s _).mono ?_
      rintro e w1 ⟨rfl, hb1⟩
      clear c0 c1
      have hb2 := hb.trans (hb1.mono hb.size)
      have hrow1 : Hid (w1.heap[w.heap.size]? = some (.cells cur 86 (0, 0))) := (hb1.block _ hsz).trans hrow.out
      have hlen := hfill.out.1
      have hfit : k * 2 + 2 ≤ cur.size := by rw [Array.length_toList] at hlen; omega
      go_wp2_with (refine wpList_store_at rfl 86 (.tmp 21) (.tmp 20) rfl w.heap.size (k * 2) #[.string s.name, .bool s.drain] rfl rfl 86 cur hrow1.out Tryz.infosBerth hfit (one_Bt s) ?_; intro w2 hrow2 hsz2 hb3)
      have hsz3 : w.heap.size < w2.heap.size := by rw [hsz2.out]; exact Nat.lt_of_lt_of_le hsz hb1.size
      have hb4 : Below w.heap.size w w2 := hb2.trans hb3
      go_roundw
      case rel => exact ⟨k + 1, by omega, by go_num, hsz3, hb4, _, hrow2, hfill.out.step hsk'.out rfl⟩
      case measure => simp [intOf]; omega
    · go_wp2
      go_ret
      have hkl : k = l.length := by omega
      rw [hkl] at hfill
      exact ⟨rfl, hsz, ⟨_, hrow.out, hfill.out⟩, hb⟩

/-- A book whose three lists lie in rows of their own, new since block lo. -/
structure BkOwn (lo : Nat) (w : World) (b1 b2 b3 : Nat) (B : Bk) : Prop where
  lo1 : lo ≤ b1
  lt12 : b1 < b2
  lt23 : b2 < b3
  svcs : OwnS w b1 B.svcs
  cps : OwnC w b2 B.cps
  bts : OwnB w b3 B.bts
theorem BkOwn.at {lo : Nat} {w : World} {b1 b2 b3 : Nat} {B : Bk} (h : BkOwn lo w b1 b2 b3 B) : BkAt w (some ⟨b1, 0, none⟩) (some ⟨b2, 0, none⟩) (some ⟨b3, 0, none⟩) B := ⟨h.svcs.sl, h.cps.sl, h.bts.sl⟩
theorem BkOwn.below {lo N : Nat} {w w' : World} {b1 b2 b3 : Nat} {B : Bk} (h : BkOwn lo w b1 b2 b3 B) (hb : Below N w w') (hN : b3 < N) : BkOwn lo w' b1 b2 b3 B :=
  ⟨h.lo1, h.lt12, h.lt23, h.svcs.blk (hb.block _ (by have := h.lt12; have := h.lt23; omega)), h.cps.blk (hb.block _ (by have := h.lt23; omega)), h.bts.blk (hb.block _ hN)⟩

set_option maxHeartbeats 400000 in
theorem toBook_own (B : Bk) (a1 a2 a3 : Option Addr) (c1 c2 c3 : Nat) (w : World) (hB : BkAt w a1 a2 a3 B) (hS : B.small) :
    Calls Tryz.prog 7 #[.agg #[.int .i64 B.now, .slice a1 B.svcs.length c1, .slice a2 B.cps.length c2, .slice a3 B.bts.length c3]] w fun e w' => ∃ x1 x2 x3, e = .returned (.agg #[.int .i64 B.now, .slice (some ⟨x1, 0, none⟩) B.svcs.length B.svcs.length, .slice (some ⟨x2, 0, none⟩) B.cps.length B.cps.length, .slice (some ⟨x3, 0, none⟩) B.bts.length B.bts.length]) ∧ BkOwn w.heap.size w' x1 x2 x3 B ∧ Below w.heap.size w w' := by
  go_enter Tryz.func7, Tryz.ntmps7
  go_wp2_with fail
  refine (toServiceS_own B.svcs a1 c1 _ hS.1 (hB.1.below ?hb)).mono ?_
  case hb => exact (((Below.refl _ _).alloc (Nat.le_refl _) _).alloc (by simp) _).alloc (by simp; omega) _
  rintro e w1 ⟨rfl, hz1, hat1, hb1⟩
  have hbb1 : Below w.heap.size w w1 := ((((Below.refl _ _).alloc (Nat.le_refl _) _).alloc (by simp) _).alloc (by simp; omega) _).trans (hb1.mono (by simp; omega))
  obtain ⟨t0, t1, t2, t3⟩ := three_new w (.cells #[.int .i64 B.now, .slice a1 B.svcs.length c1, .slice a2 B.cps.length c2, .slice a3 B.bts.length c3] 26) (.cells #[.int .i64 0, .slice none 0 0, .slice none 0 0, .slice none 0 0] 34) (.cells #[.int .i64 B.now, .slice none 0 0, .slice none 0 0, .slice none 0 0] 34)
  rw [t3] at hz1 hat1 hb1
  rw [t3]
  have k0 : Hid (w1.heap[w.heap.size]? = _) := (hb1.block _ (by omega)).trans t0
  have k1 : Hid (w1.heap[w.heap.size + 1]? = _) := (hb1.block _ (by omega)).trans t1
  have k2 : Hid (w1.heap[w.heap.size + 1 + 1]? = _) := (hb1.block _ (by omega)).trans t2
  have HAT1 : Hid (OwnS w1 (w.heap.size + 1 + 1 + 1) B.svcs) := hat1
  have HZ1 : Hid (w.heap.size + 1 + 1 + 1 < w1.heap.size) := hz1
  clear t0 t1 t2 t3
  have q1 := blk_cell k0.out 2 rfl
  have q2 := blk_cell k2.out 1 rfl
  have q3 := blk_frozen k2.out 1
  clear hat1 hz1 hb1
  go_wp2_with fail
  have hbs1 : Below w.heap.size w (w1.setCell ⟨w.heap.size + 1 + 1, 1, none⟩ (.slice (some ⟨w.heap.size + 1 + 1 + 1, 0, none⟩) B.svcs.length B.svcs.length)) := hbb1.setCell (by show _ ≤ w.heap.size + 1 + 1; omega) _
  refine (toCopyS_own B.cps a2 c2 _ hS.2.1 (hB.2.1.below hbs1)).mono ?_
  rintro e w2 ⟨rfl, hz2, hat2, hb2⟩
  rw [size_setCell] at hz2 hat2 hb2
  rw [size_setCell]
  have hbb2 : Below w.heap.size w w2 := hbs1.trans (hb2.mono hbb1.size)
  have k0' : Hid (w2.heap[w.heap.size]? = _) := (hb2.block _ (by have := HZ1.out; omega)).trans ((Below.heap_setCell _ _ _ _ (by show _ ≠ w.heap.size + 1 + 1; omega)).trans k0.out)
  have k1' : Hid (w2.heap[w.heap.size + 1]? = _) := (hb2.block _ (by have := HZ1.out; omega)).trans ((Below.heap_setCell _ _ _ _ (by show _ ≠ w.heap.size + 1 + 1; omega)).trans k1.out)
  have k2' : Hid (w2.heap[w.heap.size + 1 + 1]? = _) := (hb2.block _ (by have := HZ1.out; omega)).trans (blk_set k2.out 1 _)
  have HAT2 : Hid (OwnC w2 w1.heap.size B.cps) := hat2
  have HAT1' : Hid (OwnS w2 (w.heap.size + 1 + 1 + 1) B.svcs) := HAT1.out.blk ((hb2.block _ HZ1.out).trans (Below.heap_setCell _ _ _ _ (by show _ ≠ w.heap.size + 1 + 1; omega)))
  have HZ2 : Hid (w1.heap.size < w2.heap.size) := hz2
  have p1 := blk_cell k0'.out 3 rfl
  have p2 := blk_cell k2'.out 2 rfl
  have p3 := blk_frozen k2'.out 2
  clear hat2 hz2 hb2 q1 q2 q3 hbs1 hbb1
  go_wp2_with fail
  have hbs2 : Below w.heap.size w (w2.setCell ⟨w.heap.size + 1 + 1, 2, none⟩ (.slice (some ⟨w1.heap.size, 0, none⟩) B.cps.length B.cps.length)) := hbb2.setCell (by show _ ≤ w.heap.size + 1 + 1; omega) _
  refine (toBerthS_own B.bts a3 c3 _ hS.2.2 (hB.2.2.below hbs2)).mono ?_
  rintro e w3 ⟨rfl, hz3, hat3, hb3⟩
  rw [size_setCell] at hz3 hat3 hb3
  rw [size_setCell]
  have hbb3 : Below w.heap.size w w3 := hbs2.trans (hb3.mono hbb2.size)
  have hzz : w.heap.size + 1 + 1 + 1 < w2.heap.size := by have := HZ1.out; have := HZ2.out; omega
  have k1'' : Hid (w3.heap[w.heap.size + 1]? = _) := (hb3.block _ (by omega)).trans ((Below.heap_setCell _ _ _ _ (by show _ ≠ w.heap.size + 1 + 1; omega)).trans k1'.out)
  have k2'' : Hid (w3.heap[w.heap.size + 1 + 1]? = _) := (hb3.block _ (by omega)).trans (blk_set k2'.out 2 _)
  have HAT3 : Hid (OwnB w3 w2.heap.size B.bts) := hat3
  have HAT2' : Hid (OwnC w3 w1.heap.size B.cps) := HAT2.out.blk ((hb3.block _ HZ2.out).trans (Below.heap_setCell _ _ _ _ (by show _ ≠ w.heap.size + 1 + 1; have := HZ1.out; omega)))
  have HAT1'' : Hid (OwnS w3 (w.heap.size + 1 + 1 + 1) B.svcs) := HAT1'.out.blk ((hb3.block _ hzz).trans (Below.heap_setCell _ _ _ _ (by show _ ≠ w.heap.size + 1 + 1; omega)))
  have HZ3 : Hid (w2.heap.size < w3.heap.size) := hz3
  have p3 := blk_cell k2''.out 3 rfl
  have p4 := blk_frozen k2''.out 3
  have HZZ : Hid (w.heap.size + 1 + 1 + 1 < w2.heap.size) := hzz
  clear hat3 hz3 hb3 p1 p2 p3 hbs2 hbb2 hzz
  have p3 := blk_cell k2''.out 3 rfl
  have r0 := blk_cell k2''.out 0 rfl
  have r1 := blk_cell k2''.out 1 rfl
  have r2 := blk_cell k2''.out 2 rfl
  have s0 := blk_cell k1''.out 0 rfl
  have s1 := blk_cell k1''.out 1 rfl
  have s2 := blk_cell k1''.out 2 rfl
  have s3 := blk_cell k1''.out 3 rfl
  have f0 := blk_frozen k1''.out 0
  have f1 := blk_frozen k1''.out 1
  have f2 := blk_frozen k1''.out 2
  have f3 := blk_frozen k1''.out 3
  go_wp2
  refine bodyPost_ret (v := .agg #[.int .i64 B.now, .slice (some ⟨w.heap.size + 1 + 1 + 1, 0, none⟩) B.svcs.length B.svcs.length, .slice (some ⟨w1.heap.size, 0, none⟩) B.cps.length B.cps.length, .slice (some ⟨w2.heap.size, 0, none⟩) B.bts.length B.bts.length]) (by simp [results, Tryz.results7, go_sem, s0, s1, s2, s3]) rfl ⟨_, _, _, rfl, ?_, ?_⟩
  · have z1 := HZ1.out
    have z2 := HZ2.out
    have z3 := HZ3.out
    have z4 := HZZ.out
    refine ⟨by omega, by omega, by omega, HAT1''.out.blk ?_, HAT2'.out.blk ?_, HAT3.out.blk ?_⟩
    · repeat rw [Below.heap_setCell _ _ _ _ (by simp; try omega)]
    · repeat rw [Below.heap_setCell _ _ _ _ (by simp; try omega)]
    · repeat rw [Below.heap_setCell _ _ _ _ (by simp; try omega)]
  · exact ((((hbb3.setCell (by simp; omega) _).setCell (by simp) _).setCell (by simp) _).setCell (by simp) _).setCell (by simp) _

end Go.Proofs.YtbceafpodamnfabGreat

/-
  My own. Marks: the text of a number.
-/
namespace Go.Proofs.YtbceafpodamnfabGreat
open Go.RowKit Go.Sort

def digB (d : Nat) : ByteArray := ⟨#[48 + UInt8.ofNat d]⟩
def mtGo : Nat → Nat → ByteArray → ByteArray
  | 0, _, out => out
  | f + 1, k, out => if k = 0 then out else mtGo f (k / 10) (digB (k % 10) ++ out)
/-- The text of a mark. -/
def mt (k : Int) : ByteArray := ⟨#[109]⟩ ++ mtGo 12 k.toNat ⟨#[]⟩

theorem mtGo_zero (f : Nat) (out : ByteArray) : mtGo f 0 out = out := by cases f <;> simp [mtGo]

theorem run_conv_one (w : World) (d : Int) : (convert 116 9 (.slice (some ⟨w.heap.size, 0, none⟩) 1 1)).run Tryz.prog (w.alloc (.cells #[.int .u8 d] 5)) = .ok (.string ⟨#[UInt8.ofNat d.toNat]⟩) (w.alloc (.cells #[.int .u8 d] 5)) := by
  rw [run_convert_bytes_string _ _ _ _ _ _ _ Tryz.underlying116 Tryz.underlying5 Tryz.underlying9]
  rw [run_bytesToString _ _ 1 1 [d] (by simp [loadCells, loadCellsFrom, go_sem])]
  rfl

set_option maxRecDepth 100000 in
set_option maxHeartbeats 2000000 in
theorem markText_any (k : Int) (w : World) (h0 : 1 ≤ k) (h1 : k < 100000000) :
    Calls Tryz.prog 37 #[.int .i64 k] w fun e w' => e = .returned (.string (mt k)) ∧ Below w.heap.size w w' := by
  have hcv := run_conv_one
  go_enter Tryz.func37, Tryz.ntmps37
  go_wp2
  go_loopw [0, 3] (fun kv ov wr => ∃ (f j : Nat) (out : ByteArray), kv = .int .i64 (j : Int) ∧ ov = .string out ∧ f ≤ 12 ∧ out.size + f = 12 ∧ j < 10 ^ f ∧ j < 100000000 ∧ Hid (mtGo f j out = mtGo 12 k.toNat ⟨#[]⟩) ∧ Below w.heap.size w wr) (fun kv _ _ => (intOf kv).toNat)
  case atStart => exact ⟨12, k.toNat, ⟨#[]⟩, by rw [Int.toNat_of_nonneg (by omega)], rfl, Nat.le_refl _, rfl, by omega, by omega, rfl, Below.refl _ _⟩
  case round =>
    obtain ⟨f, j, out, rfl, rfl, hf, ho, hj, hj8, HM, hb⟩ := hrel
    have hos : (out.size : Int) ≤ 8388608 := by omega
    by_cases hz : j = 0
    · subst hz
      go_wp2
      go_ret
      refine ⟨?_, hb⟩
      have e := HM.out
      rw [mtGo_zero] at e
      show Ending.returned (.string (⟨#[109]⟩ ++ out)) = _
      rw [e]
      rfl
    · have hjp : 0 < (j : Int) := by omega
      have hd : decide (0 < j) = true := by simp; omega
      obtain ⟨f', rfl⟩ : ∃ f', f = f' + 1 := by
        cases f with
        | zero => simp at hj; omega
        | succ f' => exact ⟨f', rfl⟩
      go_wp2
      go_roundw
      case rel =>
        refine ⟨f', j / 10, digB (j % 10) ++ out, by go_num, rfl, by omega, ?_, ?_, by omega, ?_, hb.alloc hb.size _⟩
        · have : (digB (j % 10) ++ out).size = 1 + out.size := by rw [ByteArray.size_append]; rfl
          rw [this]
          omega
        · rw [Nat.pow_succ] at hj; omega
        · unfold Hid
          rw [← HM.out]
          show _ = mtGo (f' + 1) j out
          rw [mtGo, if_neg hz]
      case measure => simp [intOf]; omega

end Go.Proofs.YtbceafpodamnfabGreat
