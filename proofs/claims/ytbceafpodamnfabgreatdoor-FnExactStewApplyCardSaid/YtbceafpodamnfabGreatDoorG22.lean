/-
  My own: Rr.
-/
import Derived.Test.YtbceafpodamnfabGreatDoorG21
import Derived.Test.YtbceafpodamnfabGreatDoorG13
set_option linter.unusedVariables false
set_option linter.unusedSimpArgs false
namespace Go.Proofs.YtbceafpodamnfabGreatDoor
open Go.RowKit Go.Sort
theorem bodyPost_mono {P : Program} {fn : Func} {R R' : Ending → World → Prop} (h : ∀ e w, R e w → R' e w) : ∀ e a w, bodyPost P fn R e a w → bodyPost P fn R' e a w := by
 intro e a w hb
 cases e
 all_goals first
  | exact (let ⟨h0, v, h1, h2⟩ := hb; ⟨h0, v, h1, h _ _ h2⟩)
  | exact ⟨hb.1, h _ _ hb.2⟩
  | exact h _ _ hb
  | exact hb
theorem then_mono {K K' : Act → World → Prop} {Q Q' : Exit → Act → World → Prop} (hk : ∀ a w, K a w → K' a w) (hq : ∀ e a w, Q e a w → Q' e a w) : ∀ e a w, Exit.then K Q e a w → Exit.then K' Q' e a w := by
 intro e a w h
 cases e
 all_goals first
  | exact hk _ _ h
  | exact hq _ _ _ h
set_option maxRecDepth 100000 in
set_option maxHeartbeats 16000000 in
theorem l4Apply_end (B : Bk) (A : Ac) (n : Nat) (HNC : Hid (A.create = (n : Int))) (HAW : Hid (A.scale = true → 0 ≤ A.want ∧ A.want ≤ 10)) (hl8 : B.svcs.length ≤ 8) (s : Svc) (MM : Option (List Cp)) (a1 a2 a3 : Option Addr) (c1 c2 c3 : Nat) (ae : Option Addr) (ce : Nat) (w : World) (hS : B.small) (hB : BkAt w a1 a2 a3 B) (hl : A.ends.length ≤ 1048576) (hE : SlE w ae A.ends)
  (hok : actOkB A = true) (hsv : svcOf B A.service = some s) (hin : A.ends.all (endIn B A) = true) (hse : s.version = A.seen) (hes : A.ends.all (endSeen B A) = true) (hsi : SvcIn s) (hcr0 : 0 ≤ A.create) (hcr1 : A.create ≤ 20) (hn0 : 0 ≤ B.now) (hn1 : B.now ≤ 1000000) (hm : marks B s A.service (B.now + 1) A.ends B.cps = MM) :
  Calls Tryz.prog 40 #[.agg #[.int .i64 B.now, .slice a1 B.svcs.length c1, .slice a2 B.cps.length c2, .slice a3 B.bts.length c3], .agg #[.string A.service, .int .i64 A.seen, .int .i64 A.create, .int .i64 A.want, .int .i64 A.cool, .bool A.scale, .slice ae A.ends.length ce, .bool A.drop]] w fun e w' => ((MM = none ∧ e = .returned (.tuple #[.agg #[.int .i64 B.now, .slice a1 B.svcs.length c1, .slice a2 B.cps.length c2, .slice a3 B.bts.length c3], .int .i64 5])) ∨ ∃ L, MM = some L ∧ LateN B A s L (.agg #[.int .i64 B.now, .slice a1 B.svcs.length c1, .slice a2 B.cps.length c2, .slice a3 B.bts.length c3]) w.heap.size e w') ∧ Below w.heap.size w w' := by
 obtain ⟨t0, t1, t2, t3⟩ := three_new w (.cells #[.int .i64 B.now, .slice a1 B.svcs.length c1, .slice a2 B.cps.length c2, .slice a3 B.bts.length c3] 36) (.cells #[.string A.service, .int .i64 A.seen, .int .i64 A.create, .int .i64 A.want, .int .i64 A.cool, .bool A.scale, .slice ae A.ends.length ce, .bool A.drop] 42) (.cells #[.int .i64 0, .slice none 0 0, .slice none 0 0, .slice none 0 0] 36)
 have T0 : Hid _ := t0
 have T1 : Hid _ := t1
 have T2 : Hid _ := t2
 have HS3 : Hid _ := t3
 have HMN : Hid _ := hm
 have HIN : Hid _ := hin
 have HES : Hid _ := hes
 have hss := hS
 obtain ⟨hl1, hl2, hl3⟩ := hss
 clear t0 t1 t2 t3 hm hin hes
 have hbb : Below w.heap.size w (((w.alloc (.cells #[.int .i64 B.now, .slice a1 B.svcs.length c1, .slice a2 B.cps.length c2, .slice a3 B.bts.length c3] 36)).alloc (.cells #[.string A.service, .int .i64 A.seen, .int .i64 A.create, .int .i64 A.want, .int .i64 A.cool, .bool A.scale, .slice ae A.ends.length ce, .bool A.drop] 42)).alloc (.cells #[.int .i64 0, .slice none 0 0, .slice none 0 0, .slice none 0 0] 36)) := (((Below.refl _ _).alloc (Nat.le_refl _) _).alloc (by simp) _).alloc (by simp; omega) _
 obtain ⟨k, hks, hkk⟩ : ∃ k : Nat, B.svcs[k]? = some s ∧ idxS B.svcs A.service = (k : Int) := idxOf_find hsv
 have hklt : k < B.svcs.length := (List.getElem?_eq_some_iff.1 hks).1
 obtain ⟨bS, offS, eS, hbsS, hatS⟩ := hB.1 (by intro h; rw [h] at hklt; simp at hklt)
 subst eS
 have hsx := hatS k s hks
 have HKS : Hid (B.svcs[k]? = some s) := hks
 have HKK : Hid (idxS B.svcs A.service = (k : Int)) := hkk
 have HSV : Hid _ := hsv
 clear hks hatS hsv
 go_enter Tryz.func40, Tryz.ntmps40
 go_wp2_with fail
 refine (l4ActOk_any A ae ce _ hl (hE.below hbb)).mono ?_
 rintro e w1 ⟨rfl, hb1⟩
 rw [HS3.out] at hb1
 have hbw1 := hbb.trans (hb1.mono (by omega))
 have U0 : Hid _ := below_blk hb1 T0.out (by omega)
 have U1 : Hid _ := below_blk hb1 T1.out (by omega)
 have U2 : Hid _ := below_blk hb1 T2.out (by omega)
 have hz1 : w.heap.size + 1 + 1 + 1 ≤ w1.heap.size := by have := hb1.size; rw [HS3.out] at this; omega
 clear T0 T1 T2 HS3 hb1 hbb
 rw [hok]
 have e0 := blk_cell U0.out 0 rfl
 have e1 := blk_cell U0.out 1 rfl
 have e2 := blk_cell U0.out 2 rfl
 have e3 := blk_cell U0.out 3 rfl
 have f0 := blk_cell U1.out 0 rfl
 clear hok
 go_wp2_with fail
 refine (l1Service_any B A.service _ a2 a3 c1 c2 c3 _ hS (hB.below hbw1).1).mono ?_
 rintro e w2 ⟨rfl, hb2⟩
 have hbw2 := hbw1.trans (hb2.mono hbw1.size)
 have V0 : Hid _ := below_blk hb2 U0.out (by omega)
 have V1 : Hid _ := below_blk hb2 U1.out (by omega)
 have V2 : Hid _ := below_blk hb2 U2.out (by omega)
 clear e0 e1 e2 e3 f0 U0 U1 U2 hb2 hbw1
 rw [hkk]
 clear hkk
 go_wp2
 go_loopw [7] (fun iv wr => ∃ j : Nat, j ≤ A.ends.length ∧ iv = .int .i64 j ∧ Below w.heap.size w wr ∧ Hid (wr.heap[w.heap.size]? = some (.cells #[.int .i64 B.now, .slice (some ⟨bS, offS, none⟩) B.svcs.length c1, .slice a2 B.cps.length c2, .slice a3 B.bts.length c3] 36 (0, 0))) ∧ Hid (wr.heap[w.heap.size + 1]? = some (.cells #[.string A.service, .int .i64 A.seen, .int .i64 A.create, .int .i64 A.want, .int .i64 A.cool, .bool A.scale, .slice ae A.ends.length ce, .bool A.drop] 42 (0, 0))) ∧ Hid (wr.heap[w.heap.size + 1 + 1]? = some (.cells #[.int .i64 0, .slice none 0 0, .slice none 0 0, .slice none 0 0] 36 (0, 0)))) (fun i _ => A.ends.length - (intOf i).toNat)
 case atStart => exact ⟨0, by omega, rfl, hbw2, V0, V1, V2⟩
 case round =>
  clear V0 V1 V2 hbw2 hz1
  obtain ⟨j, hj, rfl, hb, H0, H1, H2⟩ := hrel
  have hz0 : w.heap.size < wr.heap.size := (Array.getElem?_eq_some_iff.1 H0.out).1
  have hz1 : w.heap.size + 1 < wr.heap.size := (Array.getElem?_eq_some_iff.1 H1.out).1
  have hz2 : w.heap.size + 1 + 1 < wr.heap.size := (Array.getElem?_eq_some_iff.1 H2.out).1
  by_cases hlt : j < A.ends.length
  ·obtain ⟨x, hx⟩ : ∃ x, A.ends[j]? = some x := ⟨A.ends[j], by simp [hlt]⟩
   have hne : A.ends ≠ [] := by intro h; rw [h] at hlt; simp at hlt
   obtain ⟨b, off, ea, hbs, hat⟩ := hE hne
   subst ea
   have hxx := hat j x hx
   have hin : endIn B A x = true := (List.all_eq_true.1 HIN.out) x (List.mem_of_getElem? hx)
   unfold endIn at hin
   obtain ⟨c, hf⟩ := Option.isSome_iff_exists.1 hin
   obtain ⟨i, hic, hii⟩ := idxOf_find hf
   have HC : Hid (∀ W : World, SlC W a2 B.cps → Calls Tryz.prog 93 #[.agg #[.int .i64 B.now, .slice (some ⟨bS, offS, none⟩) B.svcs.length c1, .slice a2 B.cps.length c2, .slice a3 B.bts.length c3], .string A.service, .int .i64 x.number] W fun e w' => e = .returned (.int .i64 (i : Int)) ∧ Below W.heap.size W w') := fun W h => by rw [← hii]; exact l1Copy_any B A.service x.number _ a2 a3 c1 c2 c3 W hS h
   clear hx hat hne hin hf hic hii
   have e6 := blk_cell H1.out 6 rfl
   go_wp2
   clear e6
   refine wp_region_grows 10 (by kernel_rfl) (by kernel_rfl) ?_
   apply grow_eq
   ·intro V W K AA hW hd hA hK
    simp only [putAll, pz1, pz2, pz3, pz4, Act.put, pz5, pz6, pz7] at hA
    clear hd
    obtain rfl := hA
    have e0 := blk_cell (below_blk hW H0.out hz0) 0 rfl
    have e1 := blk_cell (below_blk hW H0.out hz0) 1 rfl
    have e2 := blk_cell (below_blk hW H0.out hz0) 2 rfl
    have e3 := blk_cell (below_blk hW H0.out hz0) 3 rfl
    go_wp2
    exact hK.out _ brf
   apply grow_eq
   ·intro V W K AA hW hd hA hK
    simp only [putAll, pz1, pz2, pz3, pz4, Act.put, pz5, pz6, pz7] at hA
    clear hd
    obtain rfl := hA
    go_wp2
    exact hK.out _ brf
   apply grow_eq
   ·intro V W K AA hW hd hA hK
    have d1 : V 1 = _ := hd 1 (by kernel_rfl)
    simp only [putAll, pz1, pz2, pz3, pz4, Act.put, pz5, pz6, pz7, d1] at hA
    clear hd d1
    obtain rfl := hA
    have e0 := blk_cell (below_blk hW H1.out hz1) 0 rfl
    go_wp2
    exact hK.out _ brf
   apply grow_eq
   ·intro V W K AA hW hd hA hK
    simp only [putAll, pz1, pz2, pz3, pz4, Act.put, pz5, pz6, pz7] at hA
    clear hd
    obtain rfl := hA
    go_wp2
    exact hK.out _ brf
   apply grow_eq
   ·intro V W K AA hW hd hA hK
    have d3 : V 3 = _ := hd 3 (by kernel_rfl)
    simp only [putAll, pz1, pz2, pz3, pz4, Act.put, pz5, pz6, pz7, d3] at hA
    clear hd d3
    obtain rfl := hA
    have e6 := blk_cell (below_blk hW H1.out hz1) 6 rfl
    go_wp2
    exact hK.out _ brf
   apply grow_eq
   ·intro V W K AA hW hd hA hK
    simp only [putAll, pz1, pz2, pz3, pz4, Act.put, pz5, pz6, pz7] at hA
    clear hd
    obtain rfl := hA
    go_wp2
    exact hK.out _ brf
   apply grow_eq
   ·intro V W K AA hW hd hA hK
    have d4 : V 4 = _ := hd 4 (by kernel_rfl)
    have d5 : V 5 = _ := hd 5 (by kernel_rfl)
    simp only [putAll, pz1, pz2, pz3, pz4, Act.put, pz5, pz6, pz7, d4, d5] at hA
    clear hd d4 d5
    obtain rfl := hA
    go_wp2
    exact hK.out _ brf
   apply grow_eq
   ·intro V W K AA hW hd hA hK
    have d6 : V 6 = _ := hd 6 (by kernel_rfl)
    simp only [putAll, pz1, pz2, pz3, pz4, Act.put, pz5, pz6, pz7, d6] at hA
    clear hd d6
    obtain rfl := hA
    go_wp2
    exact hK.out _ brf
   apply grow_eq
   ·intro V W K AA hW hd hA hK
    have d7 : V 7 = _ := hd 7 (by kernel_rfl)
    simp only [putAll, pz1, pz2, pz3, pz4, Act.put, pz5, pz6, pz7, d7] at hA
    clear hd d7
    obtain rfl := hA
    have hq := hxx.below (hb.trans (hW.mono hb.size)) hbs
    unfold EnAt at hq
    obtain ⟨q0, q1⟩ := hq
    go_wp2
    exact hK.out _ brf
   apply grow_eq
   ·intro V W K AA hW hd hA hK
    have d0 : V 0 = _ := hd 0 (by kernel_rfl)
    have d2 : V 2 = _ := hd 2 (by kernel_rfl)
    have d8 : V 8 = _ := hd 8 (by kernel_rfl)
    simp only [putAll, pz1, pz2, pz3, pz4, Act.put, pz5, pz6, pz7, d0, d2, d8] at hA
    clear hd d0 d2 d8
    obtain rfl := hA
    go_wp2_with fail
    refine (HC.out _ (hB.below (hb.trans (hW.mono hb.size))).2.1).mono ?_
    rintro e w3 ⟨rfl, hb3⟩
    go_wp2
    exact hK.out _ hb3
   intro V W AA hW hS hA
   have d0 : V 0 = _ := hS 0 (by omega)
   have d1 : V 1 = _ := hS 1 (by omega)
   have d2 : V 2 = _ := hS 2 (by omega)
   have d3 : V 3 = _ := hS 3 (by omega)
   have d4 : V 4 = _ := hS 4 (by omega)
   have d5 : V 5 = _ := hS 5 (by omega)
   have d6 : V 6 = _ := hS 6 (by omega)
   have d7 : V 7 = _ := hS 7 (by omega)
   have d8 : V 8 = _ := hS 8 (by omega)
   have d9 : V 9 = _ := hS 9 (by omega)
   simp only [putAll, pz1, pz2, pz3, pz4, Act.put, pz5, pz6, pz7, d0, d1, d2, d3, d4, d5, d6, d7, d8, d9] at hA
   clear hS d0 d1 d2 d3 d4 d5 d6 d7 d8 d9
   obtain rfl := hA
   simp only [List.drop_succ_cons, List.drop_zero]
   have hbw := hb.trans (hW.mono hb.size)
   have H0' : Hid _ := below_blk hW H0.out hz0
   have H1' : Hid _ := below_blk hW H1.out hz1
   have H2' : Hid _ := below_blk hW H2.out hz2
   clear hW HC
   go_wp2
   go_roundw
   case rel => exact ⟨j + 1, by omega, by go_num, hbw, H0', H1', H2'⟩
   case measure => simp [intOf]; omega
  ·have e6 := blk_cell H1.out 6 rfl
   go_wp2
   clear e6
   refine wp_region_grows 8 (by kernel_rfl) (by kernel_rfl) ?_
   apply grow_eq
   ·intro V W K AA hW hd hA hK
    simp only [putAll, pz1, pz2, pz3, pz4, Act.put, pz5, pz6, pz7] at hA
    clear hd
    obtain rfl := hA
    go_wp2
    exact hK.out _ brf
   apply grow_eq
   ·intro V W K AA hW hd hA hK
    have d0 : V 0 = _ := hd 0 (by kernel_rfl)
    simp only [putAll, pz1, pz2, pz3, pz4, Act.put, pz5, pz6, pz7, d0] at hA
    clear hd d0
    obtain rfl := hA
    have e1 := blk_cell (below_blk hW H0.out hz0) 1 rfl
    go_wp2
    exact hK.out _ brf
   apply grow_eq
   ·intro V W K AA hW hd hA hK
    simp only [putAll, pz1, pz2, pz3, pz4, Act.put, pz5, pz6, pz7] at hA
    clear hd
    obtain rfl := hA
    go_wp2
    exact hK.out _ brf
   apply grow_eq
   ·intro V W K AA hW hd hA hK
    have d1 : V 1 = _ := hd 1 (by kernel_rfl)
    have d2 : V 2 = _ := hd 2 (by kernel_rfl)
    simp only [putAll, pz1, pz2, pz3, pz4, Act.put, pz5, pz6, pz7, d1, d2] at hA
    clear hd d1 d2
    obtain rfl := hA
    go_wp2
    exact hK.out _ brf
   apply grow_eq
   ·intro V W K AA hW hd hA hK
    have d3 : V 3 = _ := hd 3 (by kernel_rfl)
    simp only [putAll, pz1, pz2, pz3, pz4, Act.put, pz5, pz6, pz7, d3] at hA
    clear hd d3
    obtain rfl := hA
    go_wp2
    exact hK.out _ brf
   apply grow_eq
   ·intro V W K AA hW hd hA hK
    have d4 : V 4 = _ := hd 4 (by kernel_rfl)
    simp only [putAll, pz1, pz2, pz3, pz4, Act.put, pz5, pz6, pz7, d4] at hA
    clear hd d4
    obtain rfl := hA
    have hq := hsx.below (hb.trans (hW.mono hb.size)) hbsS
    unfold SvcAt at hq
    obtain ⟨q0, q1, q2, q3, q4, q5, q6, q7, q8, q9, q10, q11, q12⟩ := hq
    go_wp2
    exact hK.out _ brf
   apply grow_eq
   ·intro V W K AA hW hd hA hK
    simp only [putAll, pz1, pz2, pz3, pz4, Act.put, pz5, pz6, pz7] at hA
    clear hd
    obtain rfl := hA
    go_wp2
    exact hK.out _ brf
   apply grow_eq
   ·intro V W K AA hW hd hA hK
    have d6 : V 6 = _ := hd 6 (by kernel_rfl)
    simp only [putAll, pz1, pz2, pz3, pz4, Act.put, pz5, pz6, pz7, d6] at hA
    clear hd d6
    obtain rfl := hA
    have e1 := blk_cell (below_blk hW H1.out hz1) 1 rfl
    go_wp2
    exact hK.out _ brf
   intro V W AA hW hS hA
   have d0 : V 0 = _ := hS 0 (by omega)
   have d1 : V 1 = _ := hS 1 (by omega)
   have d2 : V 2 = _ := hS 2 (by omega)
   have d3 : V 3 = _ := hS 3 (by omega)
   have d4 : V 4 = _ := hS 4 (by omega)
   have d5 : V 5 = _ := hS 5 (by omega)
   have d6 : V 6 = _ := hS 6 (by omega)
   have d7 : V 7 = _ := hS 7 (by omega)
   simp only [putAll, pz1, pz2, pz3, pz4, Act.put, pz5, pz6, pz7, d0, d1, d2, d3, d4, d5, d6, d7] at hA
   clear hS d0 d1 d2 d3 d4 d5 d6 d7
   obtain rfl := hA
   simp only [List.drop_succ_cons, List.drop_zero]
   have hbw := hb.trans (hW.mono hb.size)
   have H0' : Hid _ := below_blk hW H0.out hz0
   have H1' : Hid _ := below_blk hW H1.out hz1
   have H2' : Hid _ := below_blk hW H2.out hz2
   have hse2 : (s.version != A.seen) = false := by simpa using hse
   clear hW H0 H1 H2 hb hz0 hz1 hz2 hse
   go_wp2
   clear hse2
   go_loopw [8] (fun iv wr => ∃ j : Nat, j ≤ A.ends.length ∧ iv = .int .i64 j ∧ Below w.heap.size w wr ∧ Hid (wr.heap[w.heap.size]? = some (.cells #[.int .i64 B.now, .slice (some ⟨bS, offS, none⟩) B.svcs.length c1, .slice a2 B.cps.length c2, .slice a3 B.bts.length c3] 36 (0, 0))) ∧ Hid (wr.heap[w.heap.size + 1]? = some (.cells #[.string A.service, .int .i64 A.seen, .int .i64 A.create, .int .i64 A.want, .int .i64 A.cool, .bool A.scale, .slice ae A.ends.length ce, .bool A.drop] 42 (0, 0))) ∧ Hid (wr.heap[w.heap.size + 1 + 1]? = some (.cells #[.int .i64 0, .slice none 0 0, .slice none 0 0, .slice none 0 0] 36 (0, 0)))) (fun i _ => A.ends.length - (intOf i).toNat)
   case atStart => exact ⟨0, by omega, rfl, hbw, H0', H1', H2'⟩
   case round =>
    clear H0' H1' H2' hbw hlt hj
    obtain ⟨j, hj, rfl, hb, H0, H1, H2⟩ := hrel
    have hz0 : w.heap.size < wr.heap.size := (Array.getElem?_eq_some_iff.1 H0.out).1
    have hz1 : w.heap.size + 1 < wr.heap.size := (Array.getElem?_eq_some_iff.1 H1.out).1
    have hz2 : w.heap.size + 1 + 1 < wr.heap.size := (Array.getElem?_eq_some_iff.1 H2.out).1
    by_cases hlt : j < A.ends.length
    ·obtain ⟨x, hx⟩ : ∃ x, A.ends[j]? = some x := ⟨A.ends[j], by simp [hlt]⟩
     have hne : A.ends ≠ [] := by intro h; rw [h] at hlt; simp at hlt
     obtain ⟨b, off, ea, hbs, hat⟩ := hE hne
     subst ea
     have hxx := hat j x hx
     have hin : endIn B A x = true := (List.all_eq_true.1 HIN.out) x (List.mem_of_getElem? hx)
     have hsn : endSeen B A x = true := (List.all_eq_true.1 HES.out) x (List.mem_of_getElem? hx)
     unfold endIn at hin
     obtain ⟨c, hf⟩ := Option.isSome_iff_exists.1 hin
     obtain ⟨i, hic, hii⟩ := idxOf_find hf
     unfold endSeen at hsn
     rw [hf] at hsn
     have hilt : i < B.cps.length := (List.getElem?_eq_some_iff.1 hic).1
     have HC : Hid (∀ W : World, SlC W a2 B.cps → Calls Tryz.prog 93 #[.agg #[.int .i64 B.now, .slice (some ⟨bS, offS, none⟩) B.svcs.length c1, .slice a2 B.cps.length c2, .slice a3 B.bts.length c3], .string A.service, .int .i64 x.number] W fun e w' => e = .returned (.int .i64 (i : Int)) ∧ Below W.heap.size W w') := fun W h => by rw [← hii]; exact l1Copy_any B A.service x.number _ a2 a3 c1 c2 c3 W hS h
     obtain ⟨bC, offC, eC, hbsC, hatC⟩ := hB.2.1 (by intro h; rw [h] at hilt; simp at hilt)
     subst eC
     have hcx := hatC i c hic
     have HSN : Hid (c.version = x.seen) := beq_iff_eq.1 hsn
     clear hx hat hne hatC hin hf hic hii hsx hsn
     have e6 := blk_cell H1.out 6 rfl
     go_wp2
     clear e6
     refine wp_region_grows 21 (by kernel_rfl) (by kernel_rfl) ?_
     apply grow_eq
     ·intro V W K AA hW hd hA hK
      simp only [putAll, pz1, pz2, pz3, pz4, Act.put, pz5, pz6, pz7] at hA
      clear hd
      obtain rfl := hA
      go_wp2
      exact hK.out _ brf
     apply grow_eq
     ·intro V W K AA hW hd hA hK
      have d0 : V 0 = _ := hd 0 (by kernel_rfl)
      simp only [putAll, pz1, pz2, pz3, pz4, Act.put, pz5, pz6, pz7, d0] at hA
      clear hd d0
      obtain rfl := hA
      have e2 := blk_cell (below_blk hW H0.out hz0) 2 rfl
      go_wp2
      exact hK.out _ brf
     apply grow_eq
     ·intro V W K AA hW hd hA hK
      simp only [putAll, pz1, pz2, pz3, pz4, Act.put, pz5, pz6, pz7] at hA
      clear hd
      obtain rfl := hA
      have e0 := blk_cell (below_blk hW H0.out hz0) 0 rfl
      have e1 := blk_cell (below_blk hW H0.out hz0) 1 rfl
      have e2 := blk_cell (below_blk hW H0.out hz0) 2 rfl
      have e3 := blk_cell (below_blk hW H0.out hz0) 3 rfl
      go_wp2
      exact hK.out _ brf
     apply grow_eq
     ·intro V W K AA hW hd hA hK
      simp only [putAll, pz1, pz2, pz3, pz4, Act.put, pz5, pz6, pz7] at hA
      clear hd
      obtain rfl := hA
      go_wp2
      exact hK.out _ brf
     apply grow_eq
     ·intro V W K AA hW hd hA hK
      have d3 : V 3 = _ := hd 3 (by kernel_rfl)
      simp only [putAll, pz1, pz2, pz3, pz4, Act.put, pz5, pz6, pz7, d3] at hA
      clear hd d3
      obtain rfl := hA
      have e0 := blk_cell (below_blk hW H1.out hz1) 0 rfl
      go_wp2
      exact hK.out _ brf
     apply grow_eq
     ·intro V W K AA hW hd hA hK
      simp only [putAll, pz1, pz2, pz3, pz4, Act.put, pz5, pz6, pz7] at hA
      clear hd
      obtain rfl := hA
      go_wp2
      exact hK.out _ brf
     apply grow_eq
     ·intro V W K AA hW hd hA hK
      have d5 : V 5 = _ := hd 5 (by kernel_rfl)
      simp only [putAll, pz1, pz2, pz3, pz4, Act.put, pz5, pz6, pz7, d5] at hA
      clear hd d5
      obtain rfl := hA
      have e6 := blk_cell (below_blk hW H1.out hz1) 6 rfl
      go_wp2
      exact hK.out _ brf
     apply grow_eq
     ·intro V W K AA hW hd hA hK
      simp only [putAll, pz1, pz2, pz3, pz4, Act.put, pz5, pz6, pz7] at hA
      clear hd
      obtain rfl := hA
      go_wp2
      exact hK.out _ brf
     apply grow_eq
     ·intro V W K AA hW hd hA hK
      have d6 : V 6 = _ := hd 6 (by kernel_rfl)
      have d7 : V 7 = _ := hd 7 (by kernel_rfl)
      simp only [putAll, pz1, pz2, pz3, pz4, Act.put, pz5, pz6, pz7, d6, d7] at hA
      clear hd d6 d7
      obtain rfl := hA
      go_wp2
      exact hK.out _ brf
     apply grow_eq
     ·intro V W K AA hW hd hA hK
      have d8 : V 8 = _ := hd 8 (by kernel_rfl)
      simp only [putAll, pz1, pz2, pz3, pz4, Act.put, pz5, pz6, pz7, d8] at hA
      clear hd d8
      obtain rfl := hA
      go_wp2
      exact hK.out _ brf
     apply grow_eq
     ·intro V W K AA hW hd hA hK
      have d9 : V 9 = _ := hd 9 (by kernel_rfl)
      simp only [putAll, pz1, pz2, pz3, pz4, Act.put, pz5, pz6, pz7, d9] at hA
      clear hd d9
      obtain rfl := hA
      have hq := hxx.below (hb.trans (hW.mono hb.size)) hbs
      unfold EnAt at hq
      obtain ⟨q0, q1⟩ := hq
      go_wp2
      exact hK.out _ brf
     apply grow_eq
     ·intro V W K AA hW hd hA hK
      have d2 : V 2 = _ := hd 2 (by kernel_rfl)
      have d4 : V 4 = _ := hd 4 (by kernel_rfl)
      have d10 : V 10 = _ := hd 10 (by kernel_rfl)
      simp only [putAll, pz1, pz2, pz3, pz4, Act.put, pz5, pz6, pz7, d2, d4, d10] at hA
      clear hd d2 d4 d10
      obtain rfl := hA
      go_wp2_with fail
      refine (HC.out _ (hB.below (hb.trans (hW.mono hb.size))).2.1).mono ?_
      rintro e w3 ⟨rfl, hb3⟩
      go_wp2
      exact hK.out _ hb3
     apply grow_eq
     ·intro V W K AA hW hd hA hK
      have d1 : V 1 = _ := hd 1 (by kernel_rfl)
      have d11 : V 11 = _ := hd 11 (by kernel_rfl)
      simp only [putAll, pz1, pz2, pz3, pz4, Act.put, pz5, pz6, pz7, d1, d11] at hA
      clear hd d1 d11
      obtain rfl := hA
      go_wp2
      exact hK.out _ brf
     apply grow_eq
     ·intro V W K AA hW hd hA hK
      have d12 : V 12 = _ := hd 12 (by kernel_rfl)
      simp only [putAll, pz1, pz2, pz3, pz4, Act.put, pz5, pz6, pz7, d12] at hA
      clear hd d12
      obtain rfl := hA
      go_wp2
      exact hK.out _ brf
     apply grow_eq
     ·intro V W K AA hW hd hA hK
      have d13 : V 13 = _ := hd 13 (by kernel_rfl)
      simp only [putAll, pz1, pz2, pz3, pz4, Act.put, pz5, pz6, pz7, d13] at hA
      clear hd d13
      obtain rfl := hA
      have hq := hcx.below (hb.trans (hW.mono hb.size)) hbsC
      unfold CpAt at hq
      obtain ⟨q0, q1, q2, q3, q4, q5, q6⟩ := hq
      go_wp2
      exact hK.out _ brf
     apply grow_eq
     ·intro V W K AA hW hd hA hK
      simp only [putAll, pz1, pz2, pz3, pz4, Act.put, pz5, pz6, pz7] at hA
      clear hd
      obtain rfl := hA
      go_wp2
      exact hK.out _ brf
     apply grow_eq
     ·intro V W K AA hW hd hA hK
      have d15 : V 15 = _ := hd 15 (by kernel_rfl)
      simp only [putAll, pz1, pz2, pz3, pz4, Act.put, pz5, pz6, pz7, d15] at hA
      clear hd d15
      obtain rfl := hA
      have e6 := blk_cell (below_blk hW H1.out hz1) 6 rfl
      go_wp2
      exact hK.out _ brf
     apply grow_eq
     ·intro V W K AA hW hd hA hK
      simp only [putAll, pz1, pz2, pz3, pz4, Act.put, pz5, pz6, pz7] at hA
      clear hd
      obtain rfl := hA
      go_wp2
      exact hK.out _ brf
     apply grow_eq
     ·intro V W K AA hW hd hA hK
      have d16 : V 16 = _ := hd 16 (by kernel_rfl)
      have d17 : V 17 = _ := hd 17 (by kernel_rfl)
      simp only [putAll, pz1, pz2, pz3, pz4, Act.put, pz5, pz6, pz7, d16, d17] at hA
      clear hd d16 d17
      obtain rfl := hA
      go_wp2
      exact hK.out _ brf
     apply grow_eq
     ·intro V W K AA hW hd hA hK
      have d18 : V 18 = _ := hd 18 (by kernel_rfl)
      simp only [putAll, pz1, pz2, pz3, pz4, Act.put, pz5, pz6, pz7, d18] at hA
      clear hd d18
      obtain rfl := hA
      go_wp2
      exact hK.out _ brf
     apply grow_eq
     ·intro V W K AA hW hd hA hK
      have d19 : V 19 = _ := hd 19 (by kernel_rfl)
      simp only [putAll, pz1, pz2, pz3, pz4, Act.put, pz5, pz6, pz7, d19] at hA
      clear hd d19
      obtain rfl := hA
      have hq := hxx.below (hb.trans (hW.mono hb.size)) hbs
      unfold EnAt at hq
      obtain ⟨q0, q1⟩ := hq
      go_wp2
      exact hK.out _ brf
     intro V W AA hW hS hA
     have d0 : V 0 = _ := hS 0 (by omega)
     have d1 : V 1 = _ := hS 1 (by omega)
     have d2 : V 2 = _ := hS 2 (by omega)
     have d3 : V 3 = _ := hS 3 (by omega)
     have d4 : V 4 = _ := hS 4 (by omega)
     have d5 : V 5 = _ := hS 5 (by omega)
     have d6 : V 6 = _ := hS 6 (by omega)
     have d7 : V 7 = _ := hS 7 (by omega)
     have d8 : V 8 = _ := hS 8 (by omega)
     have d9 : V 9 = _ := hS 9 (by omega)
     have d10 : V 10 = _ := hS 10 (by omega)
     have d11 : V 11 = _ := hS 11 (by omega)
     have d12 : V 12 = _ := hS 12 (by omega)
     have d13 : V 13 = _ := hS 13 (by omega)
     have d14 : V 14 = _ := hS 14 (by omega)
     have d15 : V 15 = _ := hS 15 (by omega)
     have d16 : V 16 = _ := hS 16 (by omega)
     have d17 : V 17 = _ := hS 17 (by omega)
     have d18 : V 18 = _ := hS 18 (by omega)
     have d19 : V 19 = _ := hS 19 (by omega)
     have d20 : V 20 = _ := hS 20 (by omega)
     simp only [putAll, pz1, pz2, pz3, pz4, Act.put, pz5, pz6, pz7, d0, d1, d2, d3, d4, d5, d6, d7, d8, d9, d10, d11, d12, d13, d14, d15, d16, d17, d18, d19, d20] at hA
     clear hS d0 d1 d2 d3 d4 d5 d6 d7 d8 d9 d10 d11 d12 d13 d14 d15 d16 d17 d18 d19 d20
     obtain rfl := hA
     simp only [List.drop_succ_cons, List.drop_zero]
     have hbw := hb.trans (hW.mono hb.size)
     have H0' : Hid _ := below_blk hW H0.out hz0
     have H1' : Hid _ := below_blk hW H1.out hz1
     have H2' : Hid _ := below_blk hW H2.out hz2
     clear hW HC hcx hxx
     have hse2 : (c.version != x.seen) = false := by simpa using HSN.out
     go_wp2
     go_roundw
     case rel => exact ⟨j + 1, by omega, by go_num, hbw, H0', H1', H2'⟩
     case measure => simp [intOf]; omega
    ·clear hsx
     have e6 := blk_cell H1.out 6 rfl
     have e0 := blk_cell H0.out 0 rfl
     have e1 := blk_cell H0.out 1 rfl
     have e2 := blk_cell H0.out 2 rfl
     have e3 := blk_cell H0.out 3 rfl
     go_wp2_with fail
     refine (l1Book_own B _ a2 a3 c1 c2 c3 _ hS (hB.below hb)).mono ?_
     rintro e w4 ⟨g1, k1, g2, k2, g3, k3, rfl, hown, hb4⟩
     have HOWN : Hid (BkRow w4 wr.heap.size g1 g2 g3 k1 k2 k3 B) := hown
     have hbw4 := hb.trans (hb4.mono hb.size)
     have X0 : Hid _ := below_blk hb4 H0.out hz0
     have X1 : Hid _ := below_blk hb4 H1.out hz1
     have X2 : Hid _ := below_blk hb4 H2.out hz2
     have hz4 := hb4.size
     clear e0 e1 e2 e3 e6 hown hb4 H0 H1 H2 hb hlt hj
     have U9 : Hid ((w4.alloc (.cells #[.int .i64 0, .slice none 0 0, .slice none 0 0, .slice none 0 0] 36)).heap[w4.heap.size]? = some (.cells #[.int .i64 0, .slice none 0 0, .slice none 0 0, .slice none 0 0] 36 (0, 0))) := heap_alloc_new w4 _
     have hwr : wrap64 (B.now + 1) = B.now + 1 := IntWalk.wrap64_in _ (by omega)
     have hg1 := HOWN.out.svcs.lt
     have hg2 := HOWN.out.cps.lt
     have hg3 := HOWN.out.bts.lt
     have hgl1 : w.heap.size + 1 + 1 < g1 := Nat.lt_of_lt_of_le hz2 HOWN.out.n1
     have hgl2 : w.heap.size + 1 + 1 < g2 := Nat.lt_of_lt_of_le hz2 HOWN.out.n2
     have hgl3 : w.heap.size + 1 + 1 < g3 := Nat.lt_of_lt_of_le hz2 HOWN.out.n3
     have HN12 : Hid (g1 ≠ g2) := HOWN.out.ne12
     have HN23 : Hid (g3 ≠ g2) := HOWN.out.ne23.symm
     go_wp2_with (refine wpList_store_only rfl 36 (.tmp 9) (.tmp 89) rfl w4.heap.size 0 #[.int .i64 B.now, .slice (some ⟨g1, 0, none⟩) B.svcs.length k1, .slice (some ⟨g2, 0, none⟩) B.cps.length k2, .slice (some ⟨g3, 0, none⟩) B.bts.length k3] rfl rfl 36 #[.int .i64 0, .slice none 0 0, .slice none 0 0, .slice none 0 0] U9.out Tryz.infosBookR (Nat.le_of_ble_eq_true rfl) (by simp [Value.oneCell']) ?_; intro w5 hz on; have Y9 : Hid (w5.heap[w4.heap.size]? = some (.cells #[.int .i64 B.now, .slice (some ⟨g1, 0, none⟩) B.svcs.length k1, .slice (some ⟨g2, 0, none⟩) B.cps.length k2, .slice (some ⟨g3, 0, none⟩) B.bts.length k3] 36 (0, 0))) := hz; have Y0 : Hid _ := (on.other w.heap.size (by omega)).trans (below_blk (below_box w4 _) X0.out (by omega)); have Y1 : Hid _ := (on.other (w.heap.size + 1) (by omega)).trans (below_blk (below_box w4 _) X1.out (by omega)); have Y2 : Hid _ := (on.other (w.heap.size + 1 + 1) (by omega)).trans (below_blk (below_box w4 _) X2.out (by omega)); have Z1 : Hid (RowIs w5 67 13 g1 B.svcs.length k1 (svcsV B.svcs)) := (HOWN.out.svcs.below (below_box w4 _) hg1).blk (on.other _ (by omega)); have Z2 : Hid (RowIs w5 149 7 g2 B.cps.length k2 (cpsV B.cps)) := (HOWN.out.cps.below (below_box w4 _) hg2).blk (on.other _ (by omega)); have Z3 : Hid (RowIs w5 147 2 g3 B.bts.length k3 (btsV B.bts)) := (HOWN.out.bts.below (below_box w4 _) hg3).blk (on.other _ (by omega)); have hbw5 : Below w.heap.size w w5 := (hbw4.trans ((below_box w4 _).mono (by omega))).trans (on.below.mono (by omega)); clear hz on U9 HOWN X0 X1 X2 hbw4; have z0 := blk_cell Y0.out 0 rfl)
     go_loopw [11] (fun iv wr => ∃ (j : Nat) (l : List Cp), j ≤ A.ends.length ∧ iv = .int .i64 j ∧ Below w.heap.size w wr ∧ Hid (wr.heap[w.heap.size]? = some (.cells #[.int .i64 B.now, .slice (some ⟨bS, offS, none⟩) B.svcs.length c1, .slice a2 B.cps.length c2, .slice a3 B.bts.length c3] 36 (0, 0))) ∧ Hid (wr.heap[w.heap.size + 1]? = some (.cells #[.string A.service, .int .i64 A.seen, .int .i64 A.create, .int .i64 A.want, .int .i64 A.cool, .bool A.scale, .slice ae A.ends.length ce, .bool A.drop] 42 (0, 0))) ∧ Hid (wr.heap[w.heap.size + 1 + 1]? = some (.cells #[.int .i64 0, .slice none 0 0, .slice none 0 0, .slice none 0 0] 36 (0, 0))) ∧ Hid (wr.heap[w4.heap.size]? = some (.cells #[.int .i64 B.now, .slice (some ⟨g1, 0, none⟩) B.svcs.length k1, .slice (some ⟨g2, 0, none⟩) B.cps.length k2, .slice (some ⟨g3, 0, none⟩) B.bts.length k3] 36 (0, 0))) ∧ Hid (RowIs wr 67 13 g1 B.svcs.length k1 (svcsV B.svcs)) ∧ Hid (RowIs wr 149 7 g2 B.cps.length k2 (cpsV l)) ∧ Hid (RowIs wr 147 2 g3 B.bts.length k3 (btsV B.bts)) ∧ Hid (l.map ckey = B.cps.map ckey) ∧ Hid (marks B s A.service (B.now + 1) (A.ends.drop j) l = MM)) (fun i _ => A.ends.length - (intOf i).toNat)
     case atStart => exact ⟨0, B.cps, by omega, rfl, hbw5, Y0, Y1, Y2, Y9, Z1, Z2, Z3, rfl, HMN⟩
     case round =>
      clear Y0 Y1 Y2 Y9 Z1 Z2 Z3 hbw5 z0 HMN hz0 hz1 hz2 hz4
      obtain ⟨j, l, hj, rfl, hb, H0, H1, H2, HX9, R1, R2, R3, HKEY, HMK⟩ := hrel
      have hz0 : w.heap.size < wr.heap.size := (Array.getElem?_eq_some_iff.1 H0.out).1
      have hz1 : w.heap.size + 1 < wr.heap.size := (Array.getElem?_eq_some_iff.1 H1.out).1
      have hz2 : w.heap.size + 1 + 1 < wr.heap.size := (Array.getElem?_eq_some_iff.1 H2.out).1
      have hz9 : w4.heap.size < wr.heap.size := (Array.getElem?_eq_some_iff.1 HX9.out).1
      have HLEN : Hid (l.length = B.cps.length) := by unfold Hid; have := congrArg List.length HKEY.out; simpa using this
      by_cases hlt : j < A.ends.length
      ·obtain ⟨x, hx⟩ : ∃ x, A.ends[j]? = some x := ⟨A.ends[j], by simp [hlt]⟩
       have hne : A.ends ≠ [] := by intro h; rw [h] at hlt; simp at hlt
       obtain ⟨b, off, ea, hbs, hat⟩ := hE hne
       subst ea
       have hxx := hat j x hx
       have hin : endIn B A x = true := (List.all_eq_true.1 HIN.out) x (List.mem_of_getElem? hx)
       unfold endIn at hin
       rw [← find_ckey HKEY.out] at hin
       obtain ⟨c, hf⟩ := Option.isSome_iff_exists.1 hin
       obtain ⟨i, hic, hii⟩ : ∃ i : Nat, l[i]? = some c ∧ idxC l A.service x.number = (i : Int) := idxOf_find hf
       have hilt : i < B.cps.length := by have := (List.getElem?_eq_some_iff.1 hic).1; rw [HLEN.out] at this; exact this
       obtain ⟨m, HMM⟩ : ∃ m, Hid (mayL { B with cps := l } s A.service c = m) := ⟨_, rfl⟩
       have hSX : ({ B with cps := l } : Bk).small := ⟨hl1, by show l.length ≤ _; rw [HLEN.out]; exact hl2, hl3⟩
       have eL : ({ B with cps := l } : Bk).cps.length = B.cps.length := HLEN.out
       have HM : Hid (∀ W : World, BkAt W (some ⟨g1, 0, none⟩) (some ⟨g2, 0, none⟩) (some ⟨g3, 0, none⟩) { B with cps := l } → Calls Tryz.prog 94 #[.agg #[.int .i64 B.now, .slice (some ⟨g1, 0, none⟩) B.svcs.length k1, .slice (some ⟨g2, 0, none⟩) B.cps.length k2, .slice (some ⟨g3, 0, none⟩) B.bts.length k3], .string A.service, .int .i64 x.number] W fun e w' => e = .returned (.bool m) ∧ Below W.heap.size W w') := fun W h => by
        have h2 := l3MayEnd_some { B with cps := l } A.service x.number c s _ _ _ k1 k2 k3 W hSX h hf HSV.out hsi.want0 hsi.want1 hsi.down0 hsi.down1
        rw [eL, HMM.out] at h2
        exact h2
       have HI : Hid (∀ W : World, SlC W (some ⟨g2, 0, none⟩) l → Calls Tryz.prog 93 #[.agg #[.int .i64 B.now, .slice (some ⟨g1, 0, none⟩) B.svcs.length k1, .slice (some ⟨g2, 0, none⟩) B.cps.length k2, .slice (some ⟨g3, 0, none⟩) B.bts.length k3], .string A.service, .int .i64 x.number] W fun e w' => e = .returned (.int .i64 (i : Int)) ∧ Below W.heap.size W w') := fun W h => by
        have h2 := l1Copy_any { B with cps := l } A.service x.number (some ⟨g1, 0, none⟩) (some ⟨g2, 0, none⟩) (some ⟨g3, 0, none⟩) k1 k2 k3 W hSX h
        rw [eL] at h2
        rw [← hii]
        exact h2
       have hBX : BkAt wr (some ⟨g1, 0, none⟩) (some ⟨g2, 0, none⟩) (some ⟨g3, 0, none⟩) { B with cps := l } := ⟨R1.out.slS, R2.out.slC, R3.out.slB⟩
       have HNX : Hid (m = true → marks B s A.service (B.now + 1) (A.ends.drop (j + 1)) (l.set i (markC (B.now + 1) c)) = MM) := by
        intro hmt
        have := HMK.out
        rw [List.drop_eq_getElem_cons hlt, show A.ends[j] = x from (List.getElem?_eq_some_iff.1 hx).2] at this
        unfold marks at this
        rw [hf] at this
        simp only [HMM.out, hmt, if_true] at this
        rw [markAt_eq hii hic] at this
        exact this
       have HMF : Hid (m = false → MM = none) := by
        intro hmf
        have := HMK.out
        rw [List.drop_eq_getElem_cons hlt, show A.ends[j] = x from (List.getElem?_eq_some_iff.1 hx).2] at this
        unfold marks at this
        rw [hf] at this
        simp only [HMM.out, hmf] at this
        exact this.symm
       have HIC : Hid _ := hic
       clear hx hat hne hin hf hic hii HMK HMM hSX eL
       have e6 := blk_cell H1.out 6 rfl
       go_wp2
       clear e6
       refine wp_region_grows 10 (by kernel_rfl) (by kernel_rfl) ?_
       apply grow_eq
       ·intro V W K AA hW hd hA hK
        simp only [putAll, pz1, pz2, pz3, pz4, Act.put, pz5, pz6, pz7] at hA
        clear hd
        obtain rfl := hA
        have e0 := blk_cell (below_blk hW HX9.out hz9) 0 rfl
        have e1 := blk_cell (below_blk hW HX9.out hz9) 1 rfl
        have e2 := blk_cell (below_blk hW HX9.out hz9) 2 rfl
        have e3 := blk_cell (below_blk hW HX9.out hz9) 3 rfl
        go_wp2
        exact hK.out _ brf
       apply grow_eq
       ·intro V W K AA hW hd hA hK
        simp only [putAll, pz1, pz2, pz3, pz4, Act.put, pz5, pz6, pz7] at hA
        clear hd
        obtain rfl := hA
        go_wp2
        exact hK.out _ brf
       apply grow_eq
       ·intro V W K AA hW hd hA hK
        have d1 : V 1 = _ := hd 1 (by kernel_rfl)
        simp only [putAll, pz1, pz2, pz3, pz4, Act.put, pz5, pz6, pz7, d1] at hA
        clear hd d1
        obtain rfl := hA
        have e0 := blk_cell (below_blk hW H1.out hz1) 0 rfl
        go_wp2
        exact hK.out _ brf
       apply grow_eq
       ·intro V W K AA hW hd hA hK
        simp only [putAll, pz1, pz2, pz3, pz4, Act.put, pz5, pz6, pz7] at hA
        clear hd
        obtain rfl := hA
        go_wp2
        exact hK.out _ brf
       apply grow_eq
       ·intro V W K AA hW hd hA hK
        have d3 : V 3 = _ := hd 3 (by kernel_rfl)
        simp only [putAll, pz1, pz2, pz3, pz4, Act.put, pz5, pz6, pz7, d3] at hA
        clear hd d3
        obtain rfl := hA
        have e6 := blk_cell (below_blk hW H1.out hz1) 6 rfl
        go_wp2
        exact hK.out _ brf
       apply grow_eq
       ·intro V W K AA hW hd hA hK
        simp only [putAll, pz1, pz2, pz3, pz4, Act.put, pz5, pz6, pz7] at hA
        clear hd
        obtain rfl := hA
        go_wp2
        exact hK.out _ brf
       apply grow_eq
       ·intro V W K AA hW hd hA hK
        have d4 : V 4 = _ := hd 4 (by kernel_rfl)
        have d5 : V 5 = _ := hd 5 (by kernel_rfl)
        simp only [putAll, pz1, pz2, pz3, pz4, Act.put, pz5, pz6, pz7, d4, d5] at hA
        clear hd d4 d5
        obtain rfl := hA
        go_wp2
        exact hK.out _ brf
       apply grow_eq
       ·intro V W K AA hW hd hA hK
        have d6 : V 6 = _ := hd 6 (by kernel_rfl)
        simp only [putAll, pz1, pz2, pz3, pz4, Act.put, pz5, pz6, pz7, d6] at hA
        clear hd d6
        obtain rfl := hA
        go_wp2
        exact hK.out _ brf
       apply grow_eq
       ·intro V W K AA hW hd hA hK
        have d7 : V 7 = _ := hd 7 (by kernel_rfl)
        simp only [putAll, pz1, pz2, pz3, pz4, Act.put, pz5, pz6, pz7, d7] at hA
        clear hd d7
        obtain rfl := hA
        have hq := hxx.below (hb.trans (hW.mono hb.size)) hbs
        unfold EnAt at hq
        obtain ⟨q0, q1⟩ := hq
        go_wp2
        exact hK.out _ brf
       apply grow_eq
       ·intro V W K AA hW hd hA hK
        have d0 : V 0 = _ := hd 0 (by kernel_rfl)
        have d2 : V 2 = _ := hd 2 (by kernel_rfl)
        have d8 : V 8 = _ := hd 8 (by kernel_rfl)
        simp only [putAll, pz1, pz2, pz3, pz4, Act.put, pz5, pz6, pz7, d0, d2, d8] at hA
        clear hd d0 d2 d8
        obtain rfl := hA
        go_wp2_with fail
        refine (HM.out _ (hBX.below hW)).mono ?_
        rintro e w3 ⟨rfl, hb3⟩
        go_wp2
        exact hK.out _ hb3
       intro V W AA hW hS hA
       have d0 : V 0 = _ := hS 0 (by omega)
       have d1 : V 1 = _ := hS 1 (by omega)
       have d2 : V 2 = _ := hS 2 (by omega)
       have d3 : V 3 = _ := hS 3 (by omega)
       have d4 : V 4 = _ := hS 4 (by omega)
       have d5 : V 5 = _ := hS 5 (by omega)
       have d6 : V 6 = _ := hS 6 (by omega)
       have d7 : V 7 = _ := hS 7 (by omega)
       have d8 : V 8 = _ := hS 8 (by omega)
       have d9 : V 9 = _ := hS 9 (by omega)
       simp only [putAll, pz1, pz2, pz3, pz4, Act.put, pz5, pz6, pz7, d0, d1, d2, d3, d4, d5, d6, d7, d8, d9] at hA
       clear hS d0 d1 d2 d3 d4 d5 d6 d7 d8 d9
       obtain rfl := hA
       simp only [List.drop_succ_cons, List.drop_zero]
       have hbw := hb.trans (hW.mono hb.size)
       have H0' : Hid _ := below_blk hW H0.out hz0
       have H1' : Hid _ := below_blk hW H1.out hz1
       have H2' : Hid _ := below_blk hW H2.out hz2
       cases m
       ·clear hW HM HI hBX HNX
        have e0 := blk_cell H0'.out 0 rfl
        have e1 := blk_cell H0'.out 1 rfl
        have e2 := blk_cell H0'.out 2 rfl
        have e3 := blk_cell H0'.out 3 rfl
        go_wp2_with (refine wpList_store_only rfl 36 (.tmp 4) (.tmp 111) rfl (w.heap.size + 1 + 1) 0 #[.int .i64 B.now, .slice (some ⟨bS, offS, none⟩) B.svcs.length c1, .slice a2 B.cps.length c2, .slice a3 B.bts.length c3] rfl rfl 36 #[.int .i64 0, .slice none 0 0, .slice none 0 0, .slice none 0 0] H2'.out Tryz.infosBookR (Nat.le_of_ble_eq_true rfl) (by simp [Value.oneCell']) ?_; intro wf hz on; have RF : Hid (wf.heap[w.heap.size + 1 + 1]? = some (.cells #[.int .i64 B.now, .slice (some ⟨bS, offS, none⟩) B.svcs.length c1, .slice a2 B.cps.length c2, .slice a3 B.bts.length c3] 36 (0, 0))) := hz; have hbf := hbw.trans (on.below.mono (by omega)); clear hz on e0 e1 e2 e3; have p0 := blk_cell RF.out 0 rfl; have p1 := blk_cell RF.out 1 rfl; have p2 := blk_cell RF.out 2 rfl; have p3 := blk_cell RF.out 3 rfl)
        refine bodyPost_ret (v := .tuple #[.agg #[.int .i64 B.now, .slice (some ⟨bS, offS, none⟩) B.svcs.length c1, .slice a2 B.cps.length c2, .slice a3 B.bts.length c3], .int .i64 5]) (by simp [results, Tryz.results40, go_sem, p0, p1, p2, p3]) rfl ⟨.inl ⟨HMF.out (by first | rfl | trivial), rfl⟩, hbf⟩
       ·have Q1 : Hid (RowIs W 67 13 g1 B.svcs.length k1 (svcsV B.svcs)) := R1.out.below hW R1.out.lt
        have Q2 : Hid (RowIs W 149 7 g2 B.cps.length k2 (cpsV l)) := R2.out.below hW R2.out.lt
        have Q3 : Hid (RowIs W 147 2 g3 B.bts.length k3 (btsV B.bts)) := R3.out.below hW R3.out.lt
        have X9' : Hid _ := below_blk hW HX9.out hz9
        have hBX' := hBX.below hW
        have HNN : Hid _ := HNX.out rfl
        clear hW HM hBX HNX H0 H1 H2 HX9 R1 R2 R3 hb hz0 hz1 hz2 hz9
        obtain ⟨wm, HWM⟩ : ∃ x, x = W := ⟨_, rfl⟩
        subst HWM
        have hb := hbw
        have H0 := H0'
        have H1 := H1'
        have H2 := H2'
        have HX9 := X9'
        have hBX := hBX'
        clear hbw H0' H1' H2' X9' hBX'
        have hz0 : w.heap.size < wm.heap.size := (Array.getElem?_eq_some_iff.1 H0.out).1
        have hz1 : w.heap.size + 1 < wm.heap.size := (Array.getElem?_eq_some_iff.1 H1.out).1
        have hz2 : w.heap.size + 1 + 1 < wm.heap.size := (Array.getElem?_eq_some_iff.1 H2.out).1
        have hz9 : w4.heap.size < wm.heap.size := (Array.getElem?_eq_some_iff.1 HX9.out).1
        go_wp2
        refine wp_region_grows 10 (by kernel_rfl) (by kernel_rfl) ?_
        apply grow_eq
        ·intro V W K AA hW hd hA hK
         simp only [putAll, pz1, pz2, pz3, pz4, Act.put, pz5, pz6, pz7] at hA
         clear hd
         obtain rfl := hA
         have e0 := blk_cell (below_blk hW HX9.out hz9) 0 rfl
         have e1 := blk_cell (below_blk hW HX9.out hz9) 1 rfl
         have e2 := blk_cell (below_blk hW HX9.out hz9) 2 rfl
         have e3 := blk_cell (below_blk hW HX9.out hz9) 3 rfl
         go_wp2
         exact hK.out _ brf
        apply grow_eq
        ·intro V W K AA hW hd hA hK
         simp only [putAll, pz1, pz2, pz3, pz4, Act.put, pz5, pz6, pz7] at hA
         clear hd
         obtain rfl := hA
         go_wp2
         exact hK.out _ brf
        apply grow_eq
        ·intro V W K AA hW hd hA hK
         have d1 : V 1 = _ := hd 1 (by kernel_rfl)
         simp only [putAll, pz1, pz2, pz3, pz4, Act.put, pz5, pz6, pz7, d1] at hA
         clear hd d1
         obtain rfl := hA
         have e0 := blk_cell (below_blk hW H1.out hz1) 0 rfl
         go_wp2
         exact hK.out _ brf
        apply grow_eq
        ·intro V W K AA hW hd hA hK
         simp only [putAll, pz1, pz2, pz3, pz4, Act.put, pz5, pz6, pz7] at hA
         clear hd
         obtain rfl := hA
         go_wp2
         exact hK.out _ brf
        apply grow_eq
        ·intro V W K AA hW hd hA hK
         have d3 : V 3 = _ := hd 3 (by kernel_rfl)
         simp only [putAll, pz1, pz2, pz3, pz4, Act.put, pz5, pz6, pz7, d3] at hA
         clear hd d3
         obtain rfl := hA
         have e6 := blk_cell (below_blk hW H1.out hz1) 6 rfl
         go_wp2
         exact hK.out _ brf
        apply grow_eq
        ·intro V W K AA hW hd hA hK
         simp only [putAll, pz1, pz2, pz3, pz4, Act.put, pz5, pz6, pz7] at hA
         clear hd
         obtain rfl := hA
         go_wp2
         exact hK.out _ brf
        apply grow_eq
        ·intro V W K AA hW hd hA hK
         have d4 : V 4 = _ := hd 4 (by kernel_rfl)
         have d5 : V 5 = _ := hd 5 (by kernel_rfl)
         simp only [putAll, pz1, pz2, pz3, pz4, Act.put, pz5, pz6, pz7, d4, d5] at hA
         clear hd d4 d5
         obtain rfl := hA
         go_wp2
         exact hK.out _ brf
        apply grow_eq
        ·intro V W K AA hW hd hA hK
         have d6 : V 6 = _ := hd 6 (by kernel_rfl)
         simp only [putAll, pz1, pz2, pz3, pz4, Act.put, pz5, pz6, pz7, d6] at hA
         clear hd d6
         obtain rfl := hA
         go_wp2
         exact hK.out _ brf
        apply grow_eq
        ·intro V W K AA hW hd hA hK
         have d7 : V 7 = _ := hd 7 (by kernel_rfl)
         simp only [putAll, pz1, pz2, pz3, pz4, Act.put, pz5, pz6, pz7, d7] at hA
         clear hd d7
         obtain rfl := hA
         have hq := hxx.below (hb.trans (hW.mono hb.size)) hbs
         unfold EnAt at hq
         obtain ⟨q0, q1⟩ := hq
         go_wp2
         exact hK.out _ brf
        apply grow_eq
        ·intro V W K AA hW hd hA hK
         have d0 : V 0 = _ := hd 0 (by kernel_rfl)
         have d2 : V 2 = _ := hd 2 (by kernel_rfl)
         have d8 : V 8 = _ := hd 8 (by kernel_rfl)
         simp only [putAll, pz1, pz2, pz3, pz4, Act.put, pz5, pz6, pz7, d0, d2, d8] at hA
         clear hd d0 d2 d8
         obtain rfl := hA
         go_wp2_with fail
         refine (HI.out _ (hBX.below hW).2.1).mono ?_
         rintro e w3 ⟨rfl, hb3⟩
         go_wp2
         exact hK.out _ hb3
        intro V W AA hW hS hA
        have d0 : V 0 = _ := hS 0 (by omega)
        have d1 : V 1 = _ := hS 1 (by omega)
        have d2 : V 2 = _ := hS 2 (by omega)
        have d3 : V 3 = _ := hS 3 (by omega)
        have d4 : V 4 = _ := hS 4 (by omega)
        have d5 : V 5 = _ := hS 5 (by omega)
        have d6 : V 6 = _ := hS 6 (by omega)
        have d7 : V 7 = _ := hS 7 (by omega)
        have d8 : V 8 = _ := hS 8 (by omega)
        have d9 : V 9 = _ := hS 9 (by omega)
        simp only [putAll, pz1, pz2, pz3, pz4, Act.put, pz5, pz6, pz7, d0, d1, d2, d3, d4, d5, d6, d7, d8, d9] at hA
        clear hS d0 d1 d2 d3 d4 d5 d6 d7 d8 d9
        obtain rfl := hA
        simp only [List.drop_succ_cons, List.drop_zero]
        have hbw := hb.trans (hW.mono hb.size)
        have H0' : Hid _ := below_blk hW H0.out hz0
        have H1' : Hid _ := below_blk hW H1.out hz1
        have H2' : Hid _ := below_blk hW H2.out hz2
        have X9' : Hid _ := below_blk hW HX9.out hz9
        have S1 : Hid (RowIs W 67 13 g1 B.svcs.length k1 (svcsV B.svcs)) := Q1.out.below hW Q1.out.lt
        have S2 : Hid (RowIs W 149 7 g2 B.cps.length k2 (cpsV l)) := Q2.out.below hW Q2.out.lt
        have S3 : Hid (RowIs W 147 2 g3 B.bts.length k3 (btsV B.bts)) := Q3.out.below hW Q3.out.lt
        clear hW HI hBX hxx H0 H1 H2 HX9 Q1 Q2 Q3 hb
        have x2 := blk_cell X9'.out 2 rfl
        go_wp2_with (first
         | (refine wpList_row_one rfl 4 (.tmp 126) (.const (.bool true)) rfl g2 _ (.bool true) rfl rfl Tryz.infosBoolR rfl rfl 149 7 B.cps.length k2 _ S2.out (by omega) ?_; intro w6 hr6 on6; have S2b : Hid (RowIs w6 149 7 g2 B.cps.length k2 (cpsV (l.set i { c with ending := true }))) := (by have := hr6.out; (try simp only [Nat.zero_add] at this); rw [show splice (cpsV l) (i * 7 + 5) [.bool true] = cpsV (l.set i { c with ending := true }) from flat_splice_one (c := Cp.cells) (n := 7) (fun _ => rfl) l i 5 c { c with ending := true } _ HIC.out (by omega) rfl] at this; exact this); have X9b : Hid _ := (on6.other w4.heap.size (by omega)).trans X9'.out; have hb6 := hbw.trans (on6.below.mono (by omega)); have on6' : Hid (Only g2 W w6) := on6; clear hr6 on6 x2 S2; have x2b := blk_cell X9b.out 2 rfl)
         | (refine wpList_row_one rfl 3 (.tmp 132) (.tmp 130) rfl g2 _ (.int .i64 (B.now + 1)) rfl rfl Tryz.infosIntR rfl rfl 149 7 B.cps.length k2 _ S2b.out (by omega) ?_; intro w7 hr7 on7; have S2c : Hid (RowIs w7 149 7 g2 B.cps.length k2 (cpsV (l.set i (markC (B.now + 1) c)))) := (by have := hr7.out; (try simp only [Nat.zero_add] at this); rw [show splice (cpsV (l.set i { c with ending := true })) (i * 7 + 2) [.int .i64 (B.now + 1)] = cpsV ((l.set i { c with ending := true }).set i (markC (B.now + 1) c)) from flat_splice_one (c := Cp.cells) (n := 7) (fun _ => rfl) _ i 2 { c with ending := true } (markC (B.now + 1) c) _ (by rw [List.getElem?_set_self (by rw [HLEN.out]; exact hilt)]) (by omega) rfl, List.set_set] at this; exact this); have X9c : Hid _ := (on7.other w4.heap.size (by omega)).trans X9b.out; have hb7 := hb6.trans (on7.below.mono (by omega)); have on7' : Hid (Only g2 w6 w7) := on7; clear hr7 on7 x2b S2b))
        go_roundw
        case rel =>
         have o : ∀ k, k ≠ g2 → w7.heap[k]? = W.heap[k]? := fun k hk => (on7'.out.other k hk).trans (on6'.out.other k hk)
         exact ⟨j + 1, l.set i (markC (B.now + 1) c), by omega, by go_num, hb7, (o _ (by omega)).trans H0'.out, (o _ (by omega)).trans H1'.out, (o _ (by omega)).trans H2'.out, X9c, S1.out.blk (o _ HN12.out), S2c, S3.out.blk (o _ HN23.out), (ckey_set HIC.out _).trans HKEY.out, HNN⟩
        case measure => simp [intOf]; omega
      ·have hjl : j = A.ends.length := by omega
       have HLL : Hid (MM = some l) := by
        have := HMK.out
        rw [hjl, List.drop_length] at this
        exact this.symm
       have e6 := blk_cell H1.out 6 rfl
       go_upto_region 28 with fail
       clear HMK hlt hj hjl e6
       rename_i Kz hKz
       have hn13 : g3 ≠ g1 := R3.out.ne R1.out (by decide)
       obtain ⟨⟨d01, d02, d03, d04⟩, ⟨d05, d06, d07, d08⟩, ⟨d09, d10, d11, d12⟩, ⟨h2N, hNx, hNg1, hNg2, hNg3⟩⟩ := l4_dist hgl1 hgl2 hgl3 hg1 hg2 hg3 HN12.out hn13
       refine Code.wp_mono (then_mono ?_ (bodyPost_mono fun _ _ h => ⟨.inr ⟨l, HLL.out, h.1⟩, h.2⟩)) (l4_late B A s l n k w.heap.size (w.heap.size + 1) (w.heap.size + 1 + 1) w4.heap.size g1 k1 g2 k2 g3 k3 w.heap.size _ a2 a3 c1 c2 c3 ae ce w _ hb HNC hcr0 hcr1 hsi HAW hS hl8 (hB.below hb) HKS HKK HLEN H0 H1 H2 HX9 R1 R2 R3 d01 d02 d03 d04 d05 d06 d07 d08 d09 d10 d11 d12 h2N hNx hNg1 hNg2 hNg3 (fun _ _ h => h))
       exact fun a w' h => hKz a w' (Code.wp_mono (bodyPost_mono fun _ _ h => ⟨.inr ⟨l, HLL.out, h.1⟩, h.2⟩) h)
end Go.Proofs.YtbceafpodamnfabGreatDoor
