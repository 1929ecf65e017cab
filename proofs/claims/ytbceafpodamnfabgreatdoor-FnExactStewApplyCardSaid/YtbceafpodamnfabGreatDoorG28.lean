/-
  My own: Of.
-/
import Derived.Test.YtbceafpodamnfabGreatDoorG27
import Derived.Test.YtbceafpodamnfabGreatDoorG13
set_option linter.unusedVariables false
set_option linter.unusedSimpArgs false
namespace Go.Proofs.YtbceafpodamnfabGreatDoor
open Go.RowKit Go.Sort
theorem ownO_open {w : World} {N : Nat} {e : TypeId} {size : Nat} {v : Value} {n : Nat} {xs : List Value} (h : w.ownsRow N e size v n xs) : ∃ ao cap, v = .slice ao n cap ∧ (n = 0 ∨ ∃ ge, ao = some ⟨ge, 0, none⟩ ∧ N ≤ ge ∧ RowIs w e size ge n cap xs) := by
 obtain ⟨h1, h2⟩ := h
 rcases h2 with ⟨rfl, rfl⟩ | ⟨g, cap, cur, rfl, hlo, hg, hn, _, hs, ht⟩
 ·exact ⟨none, 0, rfl, .inl rfl⟩
 ·exact ⟨_, cap, rfl, .inr ⟨g, rfl, hlo, h1, hn, cur, hg, hs, ht⟩⟩
theorem endIn_at {X : Bk} {A : Ac} (h : A.ends.all (endIn X A) = true) {j : Nat} {e : En} (he : A.ends[j]? = some e) : ∃ (i : Nat) (c : Cp), X.cps[i]? = some c ∧ idxC X.cps A.service e.number = (i : Int) ∧ X.cps.find? (isC A.service e.number) = some c ∧ (idxL X A)[j]? = some (i : Int) := by
 have h1 := List.all_eq_true.1 h e (List.mem_of_getElem? he)
 unfold endIn at h1
 obtain ⟨c, hc⟩ := Option.isSome_iff_exists.1 h1
 obtain ⟨i, hi, hidx⟩ := idxOf_find hc
 exact ⟨i, c, hi, hidx, hc, by unfold idxL; rw [List.getElem?_map, he]; exact congrArg some hidx⟩
def SeenIs (N g : Nat) (A : Ac) (ae : Option Addr) (ce : Nat) (X : Bk) (s : Svc) (k : Nat) (e : Ending) (w' : World) : Prop :=
 ((s.version == A.seen && A.ends.all (endSeen X A)) = true ∧ e = .returned (.tuple #[]) ∧ WkAt w' N g A ae ce X k (idxL X A)) ∨
 ((s.version == A.seen && A.ends.all (endSeen X A)) = false ∧ e = .panicked (noWay 4))
set_option maxRecDepth 100000 in
set_option maxHeartbeats 8000000 in
theorem checkSeen_any (A : Ac) (ae : Option Addr) (ce : Nat) (X : Bk) (s : Svc) (N g k : Nat) (w : World) (hSm : X.small) (hl : A.ends.length ≤ 1048576) (hl1 : X.svcs.length ≤ 1048576) (hN : N ≤ w.heap.size) (hk : X.svcs[k]? = some s) (HIN : Hid (A.ends.all (endIn X A) = true)) (HE : Hid (∀ W, Below N w W → SlE W ae A.ends)) (hS : WkAt w N g A ae ce X k (idxL X A)) :
  Calls Tryz.prog 170 #[.pointer (some ⟨g, 0, none⟩)] w fun e w' => SeenIs N g A ae ce X s k e w' ∧ Below N w w' := by
 have HST := hidWk hS
 obtain ⟨_, hl2, _⟩ := hSm
 obtain ⟨b1, b2, b3, d1, d2, d3, ve, hNg, hg, hbk, hei⟩ := hS
 have hkl : k < X.svcs.length := (List.getElem?_eq_some_iff.1 hk).1
 obtain ⟨g1, e1, hN1, hr1⟩ := hbk.svcs.some (by omega)
 subst e1
 obtain ⟨n1, HN1⟩ : ∃ n, Hid (X.svcs.length = n) := ⟨_, rfl⟩
 obtain ⟨n2, HN2⟩ : ∃ n, Hid (X.cps.length = n) := ⟨_, rfl⟩
 obtain ⟨n3, HN3⟩ : ∃ n, Hid (X.bts.length = n) := ⟨_, rfl⟩
 obtain ⟨ne, HNE⟩ : ∃ n, Hid ((idxL X A).length = n) := ⟨_, rfl⟩
 obtain ⟨r2, r3⟩ : RowN w N 149 7 b2 X.cps.length d2 (cpsV X.cps) ∧ RowN w N 147 2 b3 X.bts.length d3 (btsV X.bts) := ⟨hbk.cps, hbk.bts⟩
 clear hbk
 rw [HN1.out] at hr1 hg hkl hl1
 rw [HN2.out] at r2 hg
 rw [HN3.out] at r3 hg
 rw [HNE.out] at hei
 have HK : Hid _ := hk
 have HG : Hid _ := hg
 have HR1 : Hid (RowIs w 67 13 g1 n1 d1 (svcsV X.svcs)) := hr1
 have HR2 := hidRowN r2
 have HR3 := hidRowN r3
 have HEI : Hid (w.ownsRow N 3 1 ve ne (intsV (idxL X A))) := hei
 have hlt : g < w.heap.size := (Array.getElem?_eq_some_iff.1 hg).1
 have hlt1 : g1 < w.heap.size := hr1.lt
 clear hk hg hr1 r2 r3 hei
 have hne : ne = A.ends.length := by rw [← HNE.out, idxL_len]
 rw [HN2.out] at hl2
 obtain ⟨vb, HVB⟩ : ∃ b, Hid ((s.version == A.seen) = b) := ⟨_, rfl⟩
 have HSV : Hid (SvcAt w g1 (k * 13) s) := HR1.out.svcAt HK.out
 go_enter Tryz.func170, Tryz.ntmps170
 go_upto_region 0 with fail
 refine wp_region_grows 11 (by kernel_rfl) (by kernel_rfl) ?_
 apply grow_eq
 ·intro V W K A hW hd hA hK
  simp only [putAll, pz1, pz2, pz3, pz4, Act.put, pz5, pz6, pz7] at hA
  clear hd
  obtain rfl := hA
  go_wp2
  exact hK.out _ brf
 refine grow_op (fun v W => v = .pointer (some ⟨g1, k * 13, none⟩)) (fun _ _ _ h _ => h) ?_ ?_
 ·intro V W K A hW hd hA hK
  have d0 : V 0 = _ := hd 0 (by kernel_rfl)
  simp only [putAll, pz1, pz2, pz3, pz4, Act.put, pz5, pz6, pz7, d0] at hA
  clear hd d0
  obtain rfl := hA
  go_wp2_with fail
  refine (service_any A ae ce X.now g g1 n1 d1 k _ _ _ W hkl hl1 (below_blk hW HG.out hlt)).mono ?_
  rintro e w2 ⟨rfl, hbq⟩
  go_wp2
  exact hK.out _ _ hbq rfl
 apply grow_eq
 ·intro V W K A hW hd hA hK
  have d1 : (fun v W => v = .pointer (some ⟨g1, k * 13, none⟩)) (V 1) W := hd 1 (by kernel_rfl)
  simp only [putAll, pz1, pz2, pz3, pz4, Act.put, pz5, pz6, pz7] at hA
  clear hd
  generalize V 1 = x1 at d1 hA
  obtain rfl := hA
  obtain rfl := d1
  go_wp2
  exact hK.out _ brf
 apply grow_eq
 ·intro V W K A hW hd hA hK
  have d2 : V 2 = _ := hd 2 (by kernel_rfl)
  simp only [putAll, pz1, pz2, pz3, pz4, Act.put, pz5, pz6, pz7, d2] at hA
  clear hd d2
  obtain rfl := hA
  go_wp2
  exact hK.out _ brf
 apply grow_eq
 ·intro V W K A hW hd hA hK
  have d3 : V 3 = _ := hd 3 (by kernel_rfl)
  simp only [putAll, pz1, pz2, pz3, pz4, Act.put, pz5, pz6, pz7, d3] at hA
  clear hd d3
  obtain rfl := hA
  have hq := HSV.out.below hW hlt1
  unfold SvcAt at hq
  obtain ⟨q0, q1, q2, q3, q4, q5, q6, q7, q8, q9, q10, q11, q12⟩ := hq
  go_wp2
  exact hK.out _ brf
 apply grow_eq
 ·intro V W K A hW hd hA hK
  simp only [putAll, pz1, pz2, pz3, pz4, Act.put, pz5, pz6, pz7] at hA
  clear hd
  obtain rfl := hA
  go_wp2
  exact hK.out _ brf
 apply grow_eq
 ·intro V W K A hW hd hA hK
  have d5 : V 5 = _ := hd 5 (by kernel_rfl)
  simp only [putAll, pz1, pz2, pz3, pz4, Act.put, pz5, pz6, pz7, d5] at hA
  clear hd d5
  obtain rfl := hA
  go_wp2
  exact hK.out _ brf
 apply grow_eq
 ·intro V W K A hW hd hA hK
  have d6 : V 6 = _ := hd 6 (by kernel_rfl)
  simp only [putAll, pz1, pz2, pz3, pz4, Act.put, pz5, pz6, pz7, d6] at hA
  clear hd d6
  obtain rfl := hA
  go_wp2
  exact hK.out _ brf
 apply grow_eq
 ·intro V W K A hW hd hA hK
  have d7 : V 7 = _ := hd 7 (by kernel_rfl)
  simp only [putAll, pz1, pz2, pz3, pz4, Act.put, pz5, pz6, pz7, d7] at hA
  clear hd d7
  obtain rfl := hA
  go_wp2
  exact hK.out _ brf
 apply grow_eq
 ·intro V W K A hW hd hA hK
  have d8 : V 8 = _ := hd 8 (by kernel_rfl)
  simp only [putAll, pz1, pz2, pz3, pz4, Act.put, pz5, pz6, pz7, d8] at hA
  clear hd d8
  obtain rfl := hA
  have e1 := blk_cell (below_blk hW HG.out hlt) 1 rfl
  go_wp2
  exact hK.out _ brf
 refine grow_op (fun v W => v = .bool vb) (fun _ _ _ h _ => h) ?_ ?_
 ·intro V W K A hW hd hA hK
  have d4 : V 4 = _ := hd 4 (by kernel_rfl)
  have d9 : V 9 = _ := hd 9 (by kernel_rfl)
  simp only [putAll, pz1, pz2, pz3, pz4, Act.put, pz5, pz6, pz7, d4, d9] at hA
  clear hd d4 d9
  obtain rfl := hA
  go_wp2
  exact hK.out _ _ brf (by rw [HVB.out])
 intro V W A hW hS hA
 have d0 : V 0 = _ := hS 0 (by omega)
 have d1 : (fun v W => v = .pointer (some ⟨g1, k * 13, none⟩)) (V 1) W := hS 1 (by omega)
 have d2 : V 2 = _ := hS 2 (by omega)
 have d3 : V 3 = _ := hS 3 (by omega)
 have d4 : V 4 = _ := hS 4 (by omega)
 have d5 : V 5 = _ := hS 5 (by omega)
 have d6 : V 6 = _ := hS 6 (by omega)
 have d7 : V 7 = _ := hS 7 (by omega)
 have d8 : V 8 = _ := hS 8 (by omega)
 have d9 : V 9 = _ := hS 9 (by omega)
 have d10 : (fun v W => v = .bool vb) (V 10) W := hS 10 (by omega)
 simp only [putAll, pz1, pz2, pz3, pz4, Act.put, pz5, pz6, pz7, d0, d2, d3, d4, d5, d6, d7, d8, d9] at hA
 clear hS d0 d2 d3 d4 d5 d6 d7 d8 d9
 generalize V 1 = x1 at d1 hA
 generalize V 10 = x10 at d10 hA
 obtain rfl := hA
 simp only [List.drop_succ_cons, List.drop_zero]
 obtain rfl := d1
 obtain rfl := d10
 have HGW : Hid _ := below_blk hW HG.out hlt
 have hb0 := hW
 cases vb
 ·go_wp2_with (go_at_call 167; refine (insist_no 4 _).mono ?_; rintro e w2 ⟨rfl, rfl⟩)
  exact ⟨rfl, .inr ⟨by rw [HVB.out]; rfl, rfl⟩, hW.mono hN⟩
 obtain ⟨ao, de, hve, hrow⟩ := ownO_open HEI.out
 subst hve
 have HRW : Hid _ := hrow
 have HHE : Hid _ := hne
 clear hrow hne
 have e13 := blk_cell HGW.out 13 rfl
 go_wp2_with (go_at_call 167; refine (insist_yes 4 _).mono ?_; rintro e w2 ⟨rfl, rfl⟩)
 clear e13
 go_loopw [21] (fun iv wr => ∃ j : Nat, j ≤ ne ∧ iv = .int .i64 j ∧ Hid (∀ i x, i < j → A.ends[i]? = some x → endSeen X A x = true) ∧ Below w.heap.size w wr) (fun iv _ => ne - (intOf iv).toNat)
 case atStart => exact ⟨0, Nat.zero_le _, rfl, fun i e h => absurd h (Nat.not_lt_zero _), hb0⟩
 case round =>
  obtain ⟨j, hj, rfl, HALL, hb⟩ := hrel
  clear HGW hb0 hW
  by_cases hlj : j < ne
  ·obtain ⟨en, hen⟩ : ∃ x, A.ends[j]? = some x := ⟨A.ends[j]'(by have := HHE.out; omega), by simp⟩
   obtain ⟨b, off, ea, hbs, hat⟩ := HE.out w (Below.refl _ _) (by intro h; rw [h] at hen; simp at hen)
   subst ea
   obtain ⟨ic, c, hic, hidc, hfc, hix⟩ := endIn_at HIN.out hen
   have hiclt : ic < n2 := by rw [← HN2.out]; exact (List.getElem?_eq_some_iff.1 hic).1
   obtain ⟨g2, e2, hN2, hr2⟩ := HR2.out.some (by omega)
   subst e2
   have HCP : Hid (CpAt w g2 (ic * 7) c) := hr2.cpAt hic
   have hg2 : g2 < w.heap.size := hr2.lt
   have HEA : Hid (EnAt w b (off + j * 2) en) := hat j en hen
   have HEN : Hid _ := hen
   obtain ⟨sb, HSB⟩ : ∃ b, Hid ((c.version == en.seen) = b) := ⟨_, rfl⟩
   have HSN : Hid (endSeen X A en = sb) := by unfold Hid endSeen; rw [hfc]; exact HSB.out
   obtain ⟨ge, ea2, hNe, hre⟩ : ∃ ge, ao = some ⟨ge, 0, none⟩ ∧ N ≤ ge ∧ RowIs w 3 1 ge ne de (intsV (idxL X A)) := by
    rcases HRW.out with h | h
    ·omega
    ·exact h
   subst ea2
   have hcx := (hre.below hb hre.lt).cell (j := j) (u := .int .i64 (ic : Int)) (by unfold intsV; rw [List.getElem?_map, hix]; rfl)
   have hend : j < A.ends.length := by have := HHE.out; omega
   clear hic hidc hfc hix hre hr2 hat hen
   go_upto_region 4 with fail
   clear hcx
   refine wp_region_grows 19 (by kernel_rfl) (by kernel_rfl) ?_
   apply grow_eq
   ·intro V W K A hW hd hA hK
    simp only [putAll, pz1, pz2, pz3, pz4, Act.put, pz5, pz6, pz7] at hA
    clear hd
    obtain rfl := hA
    go_wp2
    exact hK.out _ brf
   apply grow_eq
   ·intro V W K A hW hd hA hK
    have d0 : V 0 = _ := hd 0 (by kernel_rfl)
    simp only [putAll, pz1, pz2, pz3, pz4, Act.put, pz5, pz6, pz7, d0] at hA
    clear hd d0
    obtain rfl := hA
    go_wp2
    exact hK.out _ brf
   apply grow_eq
   ·intro V W K A hW hd hA hK
    have d1 : V 1 = _ := hd 1 (by kernel_rfl)
    simp only [putAll, pz1, pz2, pz3, pz4, Act.put, pz5, pz6, pz7, d1] at hA
    clear hd d1
    obtain rfl := hA
    go_wp2
    exact hK.out _ brf
   apply grow_eq
   ·intro V W K A hW hd hA hK
    have d2 : V 2 = _ := hd 2 (by kernel_rfl)
    simp only [putAll, pz1, pz2, pz3, pz4, Act.put, pz5, pz6, pz7, d2] at hA
    clear hd d2
    obtain rfl := hA
    go_wp2
    exact hK.out _ brf
   apply grow_eq
   ·intro V W K A hW hd hA hK
    have d3 : V 3 = _ := hd 3 (by kernel_rfl)
    simp only [putAll, pz1, pz2, pz3, pz4, Act.put, pz5, pz6, pz7, d3] at hA
    clear hd d3
    obtain rfl := hA
    have e10 := blk_cell (below_blk (hb.trans (hW.mono hb.size)) HG.out hlt) 10 rfl
    go_wp2
    exact hK.out _ brf
   apply grow_eq
   ·intro V W K A hW hd hA hK
    simp only [putAll, pz1, pz2, pz3, pz4, Act.put, pz5, pz6, pz7] at hA
    clear hd
    obtain rfl := hA
    go_wp2
    exact hK.out _ brf
   apply grow_eq
   ·intro V W K A hW hd hA hK
    have d4 : V 4 = _ := hd 4 (by kernel_rfl)
    have d5 : V 5 = _ := hd 5 (by kernel_rfl)
    simp only [putAll, pz1, pz2, pz3, pz4, Act.put, pz5, pz6, pz7, d4, d5] at hA
    clear hd d4 d5
    obtain rfl := hA
    go_wp2
    exact hK.out _ brf
   apply grow_eq
   ·intro V W K A hW hd hA hK
    have d6 : V 6 = _ := hd 6 (by kernel_rfl)
    simp only [putAll, pz1, pz2, pz3, pz4, Act.put, pz5, pz6, pz7, d6] at hA
    clear hd d6
    obtain rfl := hA
    go_wp2
    exact hK.out _ brf
   apply grow_eq
   ·intro V W K A hW hd hA hK
    have d7 : V 7 = _ := hd 7 (by kernel_rfl)
    simp only [putAll, pz1, pz2, pz3, pz4, Act.put, pz5, pz6, pz7, d7] at hA
    clear hd d7
    obtain rfl := hA
    have hq := HCP.out.below (hb.trans (hW.mono hb.size)) hg2
    unfold CpAt at hq
    obtain ⟨q0, q1, q2, q3, q4, q5, q6⟩ := hq
    go_wp2
    exact hK.out _ brf
   apply grow_eq
   ·intro V W K A hW hd hA hK
    simp only [putAll, pz1, pz2, pz3, pz4, Act.put, pz5, pz6, pz7] at hA
    clear hd
    obtain rfl := hA
    go_wp2
    exact hK.out _ brf
   apply grow_eq
   ·intro V W K A hW hd hA hK
    have d9 : V 9 = _ := hd 9 (by kernel_rfl)
    simp only [putAll, pz1, pz2, pz3, pz4, Act.put, pz5, pz6, pz7, d9] at hA
    clear hd d9
    obtain rfl := hA
    go_wp2
    exact hK.out _ brf
   apply grow_eq
   ·intro V W K A hW hd hA hK
    have d10 : V 10 = _ := hd 10 (by kernel_rfl)
    simp only [putAll, pz1, pz2, pz3, pz4, Act.put, pz5, pz6, pz7, d10] at hA
    clear hd d10
    obtain rfl := hA
    go_wp2
    exact hK.out _ brf
   apply grow_eq
   ·intro V W K A hW hd hA hK
    have d11 : V 11 = _ := hd 11 (by kernel_rfl)
    simp only [putAll, pz1, pz2, pz3, pz4, Act.put, pz5, pz6, pz7, d11] at hA
    clear hd d11
    obtain rfl := hA
    go_wp2
    exact hK.out _ brf
   apply grow_eq
   ·intro V W K A hW hd hA hK
    have d12 : V 12 = _ := hd 12 (by kernel_rfl)
    simp only [putAll, pz1, pz2, pz3, pz4, Act.put, pz5, pz6, pz7, d12] at hA
    clear hd d12
    obtain rfl := hA
    have e6 := blk_cell (below_blk (hb.trans (hW.mono hb.size)) HG.out hlt) 6 rfl
    go_wp2
    exact hK.out _ brf
   apply grow_eq
   ·intro V W K A hW hd hA hK
    simp only [putAll, pz1, pz2, pz3, pz4, Act.put, pz5, pz6, pz7] at hA
    clear hd
    obtain rfl := hA
    go_wp2
    exact hK.out _ brf
   apply grow_eq
   ·intro V W K A hW hd hA hK
    have d13 : V 13 = _ := hd 13 (by kernel_rfl)
    have d14 : V 14 = _ := hd 14 (by kernel_rfl)
    simp only [putAll, pz1, pz2, pz3, pz4, Act.put, pz5, pz6, pz7, d13, d14] at hA
    clear hd d13 d14
    obtain rfl := hA
    go_wp2
    exact hK.out _ brf
   apply grow_eq
   ·intro V W K A hW hd hA hK
    have d15 : V 15 = _ := hd 15 (by kernel_rfl)
    simp only [putAll, pz1, pz2, pz3, pz4, Act.put, pz5, pz6, pz7, d15] at hA
    clear hd d15
    obtain rfl := hA
    go_wp2
    exact hK.out _ brf
   apply grow_eq
   ·intro V W K A hW hd hA hK
    have d16 : V 16 = _ := hd 16 (by kernel_rfl)
    simp only [putAll, pz1, pz2, pz3, pz4, Act.put, pz5, pz6, pz7, d16] at hA
    clear hd d16
    obtain rfl := hA
    have hq := HEA.out.below (hb.trans (hW.mono hb.size)) hbs
    unfold EnAt at hq
    obtain ⟨q0, q1⟩ := hq
    go_wp2
    exact hK.out _ brf
   refine grow_op (fun v W => v = .bool sb) (fun _ _ _ h _ => h) ?_ ?_
   ·intro V W K A hW hd hA hK
    have d8 : V 8 = _ := hd 8 (by kernel_rfl)
    have d17 : V 17 = _ := hd 17 (by kernel_rfl)
    simp only [putAll, pz1, pz2, pz3, pz4, Act.put, pz5, pz6, pz7, d8, d17] at hA
    clear hd d8 d17
    obtain rfl := hA
    go_wp2
    exact hK.out _ _ brf (by rw [HSB.out])
   intro V W A hW hS hA
   have d0 : V 0 = _ := hS 0 (by omega)
   have d1 : V 1 = _ := hS 1 (by omega)
   have d2 : V 2 = _ := hS 2 (by omega)
   have d3 : V 3 = _ := hS 3 (by omega)
   have d4 : V 4 = _ := hS 4 (by omega)
   have d5 : V 5 = _ := hS 5 (by omega)
   have d6 : V 6 = _ := hS 6 (by omega)
   have d7 : V 7 = _ := hS 7 (by omega)
   have d8 : V 8 = _ := hS 8 (by omega)
   have d9 : V 9 = _ := hS 9 (by omega)
   have d10 : V 10 = _ := hS 10 (by omega)
   have d11 : V 11 = _ := hS 11 (by omega)
   have d12 : V 12 = _ := hS 12 (by omega)
   have d13 : V 13 = _ := hS 13 (by omega)
   have d14 : V 14 = _ := hS 14 (by omega)
   have d15 : V 15 = _ := hS 15 (by omega)
   have d16 : V 16 = _ := hS 16 (by omega)
   have d17 : V 17 = _ := hS 17 (by omega)
   have d18 : (fun v W => v = .bool sb) (V 18) W := hS 18 (by omega)
   simp only [putAll, pz1, pz2, pz3, pz4, Act.put, pz5, pz6, pz7, d0, d1, d2, d3, d4, d5, d6, d7, d8, d9, d10, d11, d12, d13, d14, d15, d16, d17] at hA
   clear hS d0 d1 d2 d3 d4 d5 d6 d7 d8 d9 d10 d11 d12 d13 d14 d15 d16 d17
   generalize V 18 = x18 at d18 hA
   obtain rfl := hA
   simp only [List.drop_succ_cons, List.drop_zero]
   obtain rfl := d18
   have hbW := hb.trans (hW.mono hb.size)
   clear hW
   cases sb
   ·go_wp2_with (go_at_call 167; refine (insist_no 4 _).mono ?_; rintro e w2 ⟨rfl, rfl⟩)
    exact ⟨rfl, .inr ⟨by rw [all_no HEN.out HSN.out, Bool.and_false], rfl⟩, hbW.mono hN⟩
   ·go_wp2_with (go_at_call 167; refine (insist_yes 4 _).mono ?_; rintro e w2 ⟨rfl, rfl⟩)
    go_roundw
    case rel => exact ⟨j + 1, hlj, by go_num, fun i x hi hx => by
     by_cases hij : i = j
     ·subst hij
      have := HEN.out
      rw [hx] at this
      obtain rfl := Option.some.inj this
      exact HSN.out
     ·exact HALL.out i x (by omega) hx, hbW⟩
    case measure => simp [intOf]; omega
  ·go_wp2
   go_end0
   have hjn : j = A.ends.length := by have := HHE.out; omega
   refine ⟨.inl ⟨?_, rfl, HST.out.below hb⟩, hb.mono hN⟩
   rw [HVB.out, Bool.true_and]
   exact all_yes fun i x hi hx => HALL.out i x (by omega) hx
end Go.Proofs.YtbceafpodamnfabGreatDoor
