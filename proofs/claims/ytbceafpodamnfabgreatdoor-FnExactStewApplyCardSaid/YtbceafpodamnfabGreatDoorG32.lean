/-
  My own: Oj.
-/
import Derived.Test.YtbceafpodamnfabGreatDoorG31
set_option linter.unusedVariables false
set_option linter.unusedSimpArgs false
namespace Go.Proofs.YtbceafpodamnfabGreatDoor
open Go.RowKit Go.Sort
def roomB (X : Bk) (A : Ac) (s : Svc) : Bool := decide ((X.cps.length : Int) + A.create ≤ 200) && (decide (s.next + A.create ≤ 1000000) && decide (X.now ≤ 1000000))
set_option maxRecDepth 100000 in
set_option maxHeartbeats 8000000 in
theorem hasRoom_any (A : Ac) (ae : Option Addr) (ce : Nat) (X : Bk) (s : Svc) (N g k : Nat) (I : List Int) (w : World) (hSm : X.small) (hk : X.svcs[k]? = some s) (hcr0 : 0 ≤ A.create) (hcr1 : A.create ≤ 20) (hn0 : 1 ≤ s.next) (hn1 : s.next ≤ 1000000) (hS : WkAt w N g A ae ce X k I) :
  Calls Tryz.prog 176 #[.pointer (some ⟨g, 0, none⟩)] w fun e w' => e = .returned (.bool (roomB X A s)) ∧ Below w.heap.size w w' := by
 obtain ⟨hl1, hl2, _⟩ := hSm
 obtain ⟨b1, b2, b3, d1, d2, d3, ve, hNg, hg, hbk, hei⟩ := hS
 have hkl : k < X.svcs.length := (List.getElem?_eq_some_iff.1 hk).1
 obtain ⟨g1, e1, hN1, hr1⟩ := hbk.svcs.some (by omega)
 subst e1
 obtain ⟨n1, HN1⟩ : ∃ n, Hid (X.svcs.length = n) := ⟨_, rfl⟩
 obtain ⟨n2, HN2⟩ : ∃ n, Hid (X.cps.length = n) := ⟨_, rfl⟩
 obtain ⟨n3, HN3⟩ : ∃ n, Hid (X.bts.length = n) := ⟨_, rfl⟩
 obtain ⟨ne, HNE⟩ : ∃ n, Hid (I.length = n) := ⟨_, rfl⟩
 obtain ⟨r2, r3⟩ : RowN w N 149 7 b2 X.cps.length d2 (cpsV X.cps) ∧ RowN w N 147 2 b3 X.bts.length d3 (btsV X.bts) := ⟨hbk.cps, hbk.bts⟩
 clear hbk
 rw [HN1.out] at hr1 hg hkl hl1
 rw [HN2.out] at r2 hg
 rw [HN3.out] at r3 hg
 rw [HNE.out] at hei
 have HK : Hid _ := hk
 have HG : Hid _ := hg
 have HR1 : Hid (RowIs w 67 13 g1 n1 d1 (svcsV X.svcs)) := hr1
 have HR2 := hidRowN r2
 have HR3 := hidRowN r3
 have HEI : Hid (w.ownsRow N 3 1 ve ne (intsV I)) := hei
 have hlt : g < w.heap.size := (Array.getElem?_eq_some_iff.1 hg).1
 have hlt1 : g1 < w.heap.size := hr1.lt
 clear hk hg hr1 r2 r3 hei
 rw [HN2.out] at hl2
 have HSV : Hid (SvcAt w g1 (k * 13) s) := HR1.out.svcAt HK.out
 obtain ⟨r1, HA1⟩ : ∃ b, Hid (decide ((n2 : Int) + A.create ≤ 200) = b) := ⟨_, rfl⟩
 obtain ⟨r2, HA2⟩ : ∃ b, Hid (decide (s.next + A.create ≤ 1000000) = b) := ⟨_, rfl⟩
 obtain ⟨r3, HA3⟩ : ∃ b, Hid (decide (X.now ≤ 1000000) = b) := ⟨_, rfl⟩
 have HO : Hid (roomB X A s = (r1 && (r2 && r3))) := by unfold Hid roomB; rw [HN2.out, HA1.out, HA2.out, HA3.out]
 go_enter Tryz.func176, Tryz.ntmps176
 go_upto_region 1 with fail
 cases r1
 ·refine wp_region_grows 35 (by kernel_rfl) (by kernel_rfl) ?_
  apply grow_eq
  ·intro V W K AA hW hd hA hK
   simp only [putAll, pz1, pz2, pz3, pz4, Act.put, pz5, pz6, pz7] at hA
   clear hd
   obtain rfl := hA
   go_wp2
   exact hK.out _ brf
  apply grow_eq
  ·intro V W K AA hW hd hA hK
   have d0 : V 0 = _ := hd 0 (by kernel_rfl)
   simp only [putAll, pz1, pz2, pz3, pz4, Act.put, pz5, pz6, pz7, d0] at hA
   clear hd d0
   obtain rfl := hA
   go_wp2
   exact hK.out _ brf
  apply grow_eq
  ·intro V W K AA hW hd hA hK
   have d1 : V 1 = _ := hd 1 (by kernel_rfl)
   simp only [putAll, pz1, pz2, pz3, pz4, Act.put, pz5, pz6, pz7, d1] at hA
   clear hd d1
   obtain rfl := hA
   go_wp2
   exact hK.out _ brf
  apply grow_eq
  ·intro V W K AA hW hd hA hK
   have d2 : V 2 = _ := hd 2 (by kernel_rfl)
   simp only [putAll, pz1, pz2, pz3, pz4, Act.put, pz5, pz6, pz7, d2] at hA
   clear hd d2
   obtain rfl := hA
   go_wp2
   exact hK.out _ brf
  apply grow_eq
  ·intro V W K AA hW hd hA hK
   have d3 : V 3 = _ := hd 3 (by kernel_rfl)
   simp only [putAll, pz1, pz2, pz3, pz4, Act.put, pz5, pz6, pz7, d3] at hA
   clear hd d3
   obtain rfl := hA
   have e10 := blk_cell (below_blk hW HG.out hlt) 10 rfl
   go_wp2
   exact hK.out _ brf
  apply grow_eq
  ·intro V W K AA hW hd hA hK
   have d4 : V 4 = _ := hd 4 (by kernel_rfl)
   simp only [putAll, pz1, pz2, pz3, pz4, Act.put, pz5, pz6, pz7, d4] at hA
   clear hd d4
   obtain rfl := hA
   go_wp2
   exact hK.out _ brf
  apply grow_eq
  ·intro V W K AA hW hd hA hK
   simp only [putAll, pz1, pz2, pz3, pz4, Act.put, pz5, pz6, pz7] at hA
   clear hd
   obtain rfl := hA
   go_wp2
   exact hK.out _ brf
  apply grow_eq
  ·intro V W K AA hW hd hA hK
   have d6 : V 6 = _ := hd 6 (by kernel_rfl)
   simp only [putAll, pz1, pz2, pz3, pz4, Act.put, pz5, pz6, pz7, d6] at hA
   clear hd d6
   obtain rfl := hA
   go_wp2
   exact hK.out _ brf
  apply grow_eq
  ·intro V W K AA hW hd hA hK
   have d7 : V 7 = _ := hd 7 (by kernel_rfl)
   simp only [putAll, pz1, pz2, pz3, pz4, Act.put, pz5, pz6, pz7, d7] at hA
   clear hd d7
   obtain rfl := hA
   go_wp2
   exact hK.out _ brf
  apply grow_eq
  ·intro V W K AA hW hd hA hK
   have d8 : V 8 = _ := hd 8 (by kernel_rfl)
   simp only [putAll, pz1, pz2, pz3, pz4, Act.put, pz5, pz6, pz7, d8] at hA
   clear hd d8
   obtain rfl := hA
   go_wp2
   exact hK.out _ brf
  apply grow_eq
  ·intro V W K AA hW hd hA hK
   have d9 : V 9 = _ := hd 9 (by kernel_rfl)
   simp only [putAll, pz1, pz2, pz3, pz4, Act.put, pz5, pz6, pz7, d9] at hA
   clear hd d9
   obtain rfl := hA
   have e2 := blk_cell (below_blk hW HG.out hlt) 2 rfl
   go_wp2
   exact hK.out _ brf
  refine grow_op (fun v _ => v = .int .i64 ((n2 : Int) + A.create)) (fun _ _ _ h _ => h) ?_ ?_
  ·intro V W K AA hW hd hA hK
   have d5 : V 5 = _ := hd 5 (by kernel_rfl)
   have d10 : V 10 = _ := hd 10 (by kernel_rfl)
   simp only [putAll, pz1, pz2, pz3, pz4, Act.put, pz5, pz6, pz7, d5, d10] at hA
   clear hd d5 d10
   obtain rfl := hA
   go_wp2
   exact hK.out _ _ brf (by go_num)
  refine grow_op (fun v _ => v = .bool false) (fun _ _ _ h _ => h) ?_ ?_
  ·intro V W K AA hW hd hA hK
   have d11 : (fun v _ => v = .int .i64 ((n2 : Int) + A.create)) (V 11) W := hd 11 (by kernel_rfl)
   simp only [putAll, pz1, pz2, pz3, pz4, Act.put, pz5, pz6, pz7] at hA
   clear hd
   generalize V 11 = x11 at d11 hA
   obtain rfl := hA
   obtain rfl := d11
   go_wp2
   exact hK.out _ _ brf (by rw [HA1.out])
  apply grow_eq
  ·intro V W K AA hW hd hA hK
   have d12 : (fun v _ => v = .bool false) (V 12) W := hd 12 (by kernel_rfl)
   simp only [putAll, pz1, pz2, pz3, pz4, Act.put, pz5, pz6, pz7] at hA
   clear hd
   generalize V 12 = x12 at d12 hA
   obtain rfl := hA
   obtain rfl := d12
   go_wp2
   exact hK.out _ brf
  refine grow_op (fun _ _ => True) (fun _ _ _ _ _ => trivial) ?_ ?_
  ·intro V W K AA hW hd hA hK
   have d13 : V 13 = _ := hd 13 (by kernel_rfl)
   simp only [putAll, pz1, pz2, pz3, pz4, Act.put, pz5, pz6, pz7, d13] at hA
   clear hd d13
   obtain rfl := hA
   go_wp2
   exact hK.out _ _ brf trivial
  refine grow_op (fun _ _ => True) (fun _ _ _ _ _ => trivial) ?_ ?_
  ·intro V W K AA hW hd hA hK
   have d13 : V 13 = _ := hd 13 (by kernel_rfl)
   have d14 : (fun _ _ => True) (V 14) W := hd 14 (by kernel_rfl)
   simp only [putAll, pz1, pz2, pz3, pz4, Act.put, pz5, pz6, pz7, d13] at hA
   clear hd d13
   generalize V 14 = x14 at d14 hA
   obtain rfl := hA
   go_wp2
   exact hK.out _ _ brf trivial
  refine grow_op (fun _ _ => True) (fun _ _ _ _ _ => trivial) ?_ ?_
  ·intro V W K AA hW hd hA hK
   have d13 : V 13 = _ := hd 13 (by kernel_rfl)
   have d15 : (fun _ _ => True) (V 15) W := hd 15 (by kernel_rfl)
   simp only [putAll, pz1, pz2, pz3, pz4, Act.put, pz5, pz6, pz7, d13] at hA
   clear hd d13
   generalize V 15 = x15 at d15 hA
   obtain rfl := hA
   go_wp2
   exact hK.out _ _ brf trivial
  refine grow_op (fun _ _ => True) (fun _ _ _ _ _ => trivial) ?_ ?_
  ·intro V W K AA hW hd hA hK
   have d13 : V 13 = _ := hd 13 (by kernel_rfl)
   have d16 : (fun _ _ => True) (V 16) W := hd 16 (by kernel_rfl)
   simp only [putAll, pz1, pz2, pz3, pz4, Act.put, pz5, pz6, pz7, d13] at hA
   clear hd d13
   generalize V 16 = x16 at d16 hA
   obtain rfl := hA
   go_wp2
   exact hK.out _ _ brf trivial
  refine grow_op (fun _ _ => True) (fun _ _ _ _ _ => trivial) ?_ ?_
  ·intro V W K AA hW hd hA hK
   have d13 : V 13 = _ := hd 13 (by kernel_rfl)
   have d17 : (fun _ _ => True) (V 17) W := hd 17 (by kernel_rfl)
   simp only [putAll, pz1, pz2, pz3, pz4, Act.put, pz5, pz6, pz7, d13] at hA
   clear hd d13
   generalize V 17 = x17 at d17 hA
   obtain rfl := hA
   go_wp2
   exact hK.out _ _ brf trivial
  refine grow_op (fun _ _ => True) (fun _ _ _ _ _ => trivial) ?_ ?_
  ·intro V W K AA hW hd hA hK
   have d13 : V 13 = _ := hd 13 (by kernel_rfl)
   simp only [putAll, pz1, pz2, pz3, pz4, Act.put, pz5, pz6, pz7, d13] at hA
   clear hd d13
   obtain rfl := hA
   go_wp2
   exact hK.out _ _ brf trivial
  refine grow_op (fun _ _ => True) (fun _ _ _ _ _ => trivial) ?_ ?_
  ·intro V W K AA hW hd hA hK
   have d13 : V 13 = _ := hd 13 (by kernel_rfl)
   have d19 : (fun _ _ => True) (V 19) W := hd 19 (by kernel_rfl)
   simp only [putAll, pz1, pz2, pz3, pz4, Act.put, pz5, pz6, pz7, d13] at hA
   clear hd d13
   generalize V 19 = x19 at d19 hA
   obtain rfl := hA
   go_wp2
   exact hK.out _ _ brf trivial
  refine grow_op (fun _ _ => True) (fun _ _ _ _ _ => trivial) ?_ ?_
  ·intro V W K AA hW hd hA hK
   have d13 : V 13 = _ := hd 13 (by kernel_rfl)
   have d20 : (fun _ _ => True) (V 20) W := hd 20 (by kernel_rfl)
   simp only [putAll, pz1, pz2, pz3, pz4, Act.put, pz5, pz6, pz7, d13] at hA
   clear hd d13
   generalize V 20 = x20 at d20 hA
   obtain rfl := hA
   go_wp2
   exact hK.out _ _ brf trivial
  refine grow_op (fun _ _ => True) (fun _ _ _ _ _ => trivial) ?_ ?_
  ·intro V W K AA hW hd hA hK
   have d13 : V 13 = _ := hd 13 (by kernel_rfl)
   have d21 : (fun _ _ => True) (V 21) W := hd 21 (by kernel_rfl)
   simp only [putAll, pz1, pz2, pz3, pz4, Act.put, pz5, pz6, pz7, d13] at hA
   clear hd d13
   generalize V 21 = x21 at d21 hA
   obtain rfl := hA
   go_wp2
   exact hK.out _ _ brf trivial
  refine grow_op (fun _ _ => True) (fun _ _ _ _ _ => trivial) ?_ ?_
  ·intro V W K AA hW hd hA hK
   have d13 : V 13 = _ := hd 13 (by kernel_rfl)
   have d22 : (fun _ _ => True) (V 22) W := hd 22 (by kernel_rfl)
   simp only [putAll, pz1, pz2, pz3, pz4, Act.put, pz5, pz6, pz7, d13] at hA
   clear hd d13
   generalize V 22 = x22 at d22 hA
   obtain rfl := hA
   go_wp2
   exact hK.out _ _ brf trivial
  refine grow_op (fun _ _ => True) (fun _ _ _ _ _ => trivial) ?_ ?_
  ·intro V W K AA hW hd hA hK
   have d13 : V 13 = _ := hd 13 (by kernel_rfl)
   have d18 : (fun _ _ => True) (V 18) W := hd 18 (by kernel_rfl)
   have d23 : (fun _ _ => True) (V 23) W := hd 23 (by kernel_rfl)
   simp only [putAll, pz1, pz2, pz3, pz4, Act.put, pz5, pz6, pz7, d13] at hA
   clear hd d13
   generalize V 18 = x18 at d18 hA
   generalize V 23 = x23 at d23 hA
   obtain rfl := hA
   go_wp2
   exact hK.out _ _ brf trivial
  refine grow_op (fun _ _ => True) (fun _ _ _ _ _ => trivial) ?_ ?_
  ·intro V W K AA hW hd hA hK
   have d13 : V 13 = _ := hd 13 (by kernel_rfl)
   have d24 : (fun _ _ => True) (V 24) W := hd 24 (by kernel_rfl)
   simp only [putAll, pz1, pz2, pz3, pz4, Act.put, pz5, pz6, pz7, d13] at hA
   clear hd d13
   generalize V 24 = x24 at d24 hA
   obtain rfl := hA
   go_wp2
   exact hK.out _ _ brf trivial
  apply grow_eq
  ·intro V W K AA hW hd hA hK
   have d13 : V 13 = _ := hd 13 (by kernel_rfl)
   have d25 : (fun _ _ => True) (V 25) W := hd 25 (by kernel_rfl)
   simp only [putAll, pz1, pz2, pz3, pz4, Act.put, pz5, pz6, pz7, d13] at hA
   clear hd d13
   generalize V 25 = x25 at d25 hA
   obtain rfl := hA
   go_wp2
   exact hK.out _ brf
  apply grow_eq
  ·intro V W K AA hW hd hA hK
   have d26 : V 26 = _ := hd 26 (by kernel_rfl)
   simp only [putAll, pz1, pz2, pz3, pz4, Act.put, pz5, pz6, pz7, d26] at hA
   clear hd d26
   obtain rfl := hA
   go_wp2
   exact hK.out _ brf
  refine grow_op (fun _ _ => True) (fun _ _ _ _ _ => trivial) ?_ ?_
  ·intro V W K AA hW hd hA hK
   have d27 : V 27 = _ := hd 27 (by kernel_rfl)
   simp only [putAll, pz1, pz2, pz3, pz4, Act.put, pz5, pz6, pz7, d27] at hA
   clear hd d27
   obtain rfl := hA
   go_wp2
   exact hK.out _ _ brf trivial
  refine grow_op (fun _ _ => True) (fun _ _ _ _ _ => trivial) ?_ ?_
  ·intro V W K AA hW hd hA hK
   have d27 : V 27 = _ := hd 27 (by kernel_rfl)
   have d28 : (fun _ _ => True) (V 28) W := hd 28 (by kernel_rfl)
   simp only [putAll, pz1, pz2, pz3, pz4, Act.put, pz5, pz6, pz7, d27] at hA
   clear hd d27
   generalize V 28 = x28 at d28 hA
   obtain rfl := hA
   go_wp2
   exact hK.out _ _ brf trivial
  refine grow_op (fun _ _ => True) (fun _ _ _ _ _ => trivial) ?_ ?_
  ·intro V W K AA hW hd hA hK
   have d27 : V 27 = _ := hd 27 (by kernel_rfl)
   have d29 : (fun _ _ => True) (V 29) W := hd 29 (by kernel_rfl)
   simp only [putAll, pz1, pz2, pz3, pz4, Act.put, pz5, pz6, pz7, d27] at hA
   clear hd d27
   generalize V 29 = x29 at d29 hA
   obtain rfl := hA
   go_wp2
   exact hK.out _ _ brf trivial
  refine grow_op (fun _ _ => True) (fun _ _ _ _ _ => trivial) ?_ ?_
  ·intro V W K AA hW hd hA hK
   have d27 : V 27 = _ := hd 27 (by kernel_rfl)
   have d30 : (fun _ _ => True) (V 30) W := hd 30 (by kernel_rfl)
   simp only [putAll, pz1, pz2, pz3, pz4, Act.put, pz5, pz6, pz7, d27] at hA
   clear hd d27
   generalize V 30 = x30 at d30 hA
   obtain rfl := hA
   go_wp2
   exact hK.out _ _ brf trivial
  refine grow_op (fun _ _ => True) (fun _ _ _ _ _ => trivial) ?_ ?_
  ·intro V W K AA hW hd hA hK
   have d27 : V 27 = _ := hd 27 (by kernel_rfl)
   have d31 : (fun _ _ => True) (V 31) W := hd 31 (by kernel_rfl)
   simp only [putAll, pz1, pz2, pz3, pz4, Act.put, pz5, pz6, pz7, d27] at hA
   clear hd d27
   generalize V 31 = x31 at d31 hA
   obtain rfl := hA
   go_wp2
   exact hK.out _ _ brf trivial
  refine grow_op (fun _ _ => True) (fun _ _ _ _ _ => trivial) ?_ ?_
  ·intro V W K AA hW hd hA hK
   have d27 : V 27 = _ := hd 27 (by kernel_rfl)
   have d32 : (fun _ _ => True) (V 32) W := hd 32 (by kernel_rfl)
   simp only [putAll, pz1, pz2, pz3, pz4, Act.put, pz5, pz6, pz7, d27] at hA
   clear hd d27
   generalize V 32 = x32 at d32 hA
   obtain rfl := hA
   go_wp2
   exact hK.out _ _ brf trivial
  apply grow_eq
  ·intro V W K AA hW hd hA hK
   have d27 : V 27 = _ := hd 27 (by kernel_rfl)
   have d33 : (fun _ _ => True) (V 33) W := hd 33 (by kernel_rfl)
   simp only [putAll, pz1, pz2, pz3, pz4, Act.put, pz5, pz6, pz7, d27] at hA
   clear hd d27
   generalize V 33 = x33 at d33 hA
   obtain rfl := hA
   go_wp2
   exact hK.out _ brf
  intro V W AA hW hS hA
  have d0 : V 0 = _ := hS 0 (by omega)
  have d1 : V 1 = _ := hS 1 (by omega)
  have d2 : V 2 = _ := hS 2 (by omega)
  have d3 : V 3 = _ := hS 3 (by omega)
  have d4 : V 4 = _ := hS 4 (by omega)
  have d5 : V 5 = _ := hS 5 (by omega)
  have d6 : V 6 = _ := hS 6 (by omega)
  have d7 : V 7 = _ := hS 7 (by omega)
  have d8 : V 8 = _ := hS 8 (by omega)
  have d9 : V 9 = _ := hS 9 (by omega)
  have d10 : V 10 = _ := hS 10 (by omega)
  have d11 : (fun v _ => v = .int .i64 ((n2 : Int) + A.create)) (V 11) W := hS 11 (by omega)
  have d12 : (fun v _ => v = .bool false) (V 12) W := hS 12 (by omega)
  have d13 : V 13 = _ := hS 13 (by omega)
  have d14 : (fun _ _ => True) (V 14) W := hS 14 (by omega)
  have d15 : (fun _ _ => True) (V 15) W := hS 15 (by omega)
  have d16 : (fun _ _ => True) (V 16) W := hS 16 (by omega)
  have d17 : (fun _ _ => True) (V 17) W := hS 17 (by omega)
  have d18 : (fun _ _ => True) (V 18) W := hS 18 (by omega)
  have d19 : (fun _ _ => True) (V 19) W := hS 19 (by omega)
  have d20 : (fun _ _ => True) (V 20) W := hS 20 (by omega)
  have d21 : (fun _ _ => True) (V 21) W := hS 21 (by omega)
  have d22 : (fun _ _ => True) (V 22) W := hS 22 (by omega)
  have d23 : (fun _ _ => True) (V 23) W := hS 23 (by omega)
  have d24 : (fun _ _ => True) (V 24) W := hS 24 (by omega)
  have d25 : (fun _ _ => True) (V 25) W := hS 25 (by omega)
  have d26 : V 26 = _ := hS 26 (by omega)
  have d27 : V 27 = _ := hS 27 (by omega)
  have d28 : (fun _ _ => True) (V 28) W := hS 28 (by omega)
  have d29 : (fun _ _ => True) (V 29) W := hS 29 (by omega)
  have d30 : (fun _ _ => True) (V 30) W := hS 30 (by omega)
  have d31 : (fun _ _ => True) (V 31) W := hS 31 (by omega)
  have d32 : (fun _ _ => True) (V 32) W := hS 32 (by omega)
  have d33 : (fun _ _ => True) (V 33) W := hS 33 (by omega)
  have d34 : V 34 = _ := hS 34 (by omega)
  simp only [putAll, pz1, pz2, pz3, pz4, Act.put, pz5, pz6, pz7, d0, d1, d2, d3, d4, d5, d6, d7, d8, d9, d10, d13, d26, d27, d34] at hA
  clear hS d0 d1 d2 d3 d4 d5 d6 d7 d8 d9 d10 d13 d26 d27 d34
  generalize V 11 = x11 at d11 hA
  generalize V 12 = x12 at d12 hA
  generalize V 14 = x14 at d14 hA
  generalize V 15 = x15 at d15 hA
  generalize V 16 = x16 at d16 hA
  generalize V 17 = x17 at d17 hA
  generalize V 18 = x18 at d18 hA
  generalize V 19 = x19 at d19 hA
  generalize V 20 = x20 at d20 hA
  generalize V 21 = x21 at d21 hA
  generalize V 22 = x22 at d22 hA
  generalize V 23 = x23 at d23 hA
  generalize V 24 = x24 at d24 hA
  generalize V 25 = x25 at d25 hA
  generalize V 28 = x28 at d28 hA
  generalize V 29 = x29 at d29 hA
  generalize V 30 = x30 at d30 hA
  generalize V 31 = x31 at d31 hA
  generalize V 32 = x32 at d32 hA
  generalize V 33 = x33 at d33 hA
  obtain rfl := hA
  simp only [List.drop_succ_cons, List.drop_zero]
  obtain rfl := d11
  obtain rfl := d12
  go_wp2
  go_ret
  exact ⟨ret_boolO (by rw [HO.out]; rfl), hW⟩
 cases r2
 ·refine wp_region_grows 35 (by kernel_rfl) (by kernel_rfl) ?_
  apply grow_eq
  ·intro V W K AA hW hd hA hK
   simp only [putAll, pz1, pz2, pz3, pz4, Act.put, pz5, pz6, pz7] at hA
   clear hd
   obtain rfl := hA
   go_wp2
   exact hK.out _ brf
  apply grow_eq
  ·intro V W K AA hW hd hA hK
   have d0 : V 0 = _ := hd 0 (by kernel_rfl)
   simp only [putAll, pz1, pz2, pz3, pz4, Act.put, pz5, pz6, pz7, d0] at hA
   clear hd d0
   obtain rfl := hA
   go_wp2
   exact hK.out _ brf
  apply grow_eq
  ·intro V W K AA hW hd hA hK
   have d1 : V 1 = _ := hd 1 (by kernel_rfl)
   simp only [putAll, pz1, pz2, pz3, pz4, Act.put, pz5, pz6, pz7, d1] at hA
   clear hd d1
   obtain rfl := hA
   go_wp2
   exact hK.out _ brf
  apply grow_eq
  ·intro V W K AA hW hd hA hK
   have d2 : V 2 = _ := hd 2 (by kernel_rfl)
   simp only [putAll, pz1, pz2, pz3, pz4, Act.put, pz5, pz6, pz7, d2] at hA
   clear hd d2
   obtain rfl := hA
   go_wp2
   exact hK.out _ brf
  apply grow_eq
  ·intro V W K AA hW hd hA hK
   have d3 : V 3 = _ := hd 3 (by kernel_rfl)
   simp only [putAll, pz1, pz2, pz3, pz4, Act.put, pz5, pz6, pz7, d3] at hA
   clear hd d3
   obtain rfl := hA
   have e10 := blk_cell (below_blk hW HG.out hlt) 10 rfl
   go_wp2
   exact hK.out _ brf
  apply grow_eq
  ·intro V W K AA hW hd hA hK
   have d4 : V 4 = _ := hd 4 (by kernel_rfl)
   simp only [putAll, pz1, pz2, pz3, pz4, Act.put, pz5, pz6, pz7, d4] at hA
   clear hd d4
   obtain rfl := hA
   go_wp2
   exact hK.out _ brf
  apply grow_eq
  ·intro V W K AA hW hd hA hK
   simp only [putAll, pz1, pz2, pz3, pz4, Act.put, pz5, pz6, pz7] at hA
   clear hd
   obtain rfl := hA
   go_wp2
   exact hK.out _ brf
  apply grow_eq
  ·intro V W K AA hW hd hA hK
   have d6 : V 6 = _ := hd 6 (by kernel_rfl)
   simp only [putAll, pz1, pz2, pz3, pz4, Act.put, pz5, pz6, pz7, d6] at hA
   clear hd d6
   obtain rfl := hA
   go_wp2
   exact hK.out _ brf
  apply grow_eq
  ·intro V W K AA hW hd hA hK
   have d7 : V 7 = _ := hd 7 (by kernel_rfl)
   simp only [putAll, pz1, pz2, pz3, pz4, Act.put, pz5, pz6, pz7, d7] at hA
   clear hd d7
   obtain rfl := hA
   go_wp2
   exact hK.out _ brf
  apply grow_eq
  ·intro V W K AA hW hd hA hK
   have d8 : V 8 = _ := hd 8 (by kernel_rfl)
   simp only [putAll, pz1, pz2, pz3, pz4, Act.put, pz5, pz6, pz7, d8] at hA
   clear hd d8
   obtain rfl := hA
   go_wp2
   exact hK.out _ brf
  apply grow_eq
  ·intro V W K AA hW hd hA hK
   have d9 : V 9 = _ := hd 9 (by kernel_rfl)
   simp only [putAll, pz1, pz2, pz3, pz4, Act.put, pz5, pz6, pz7, d9] at hA
   clear hd d9
   obtain rfl := hA
   have e2 := blk_cell (below_blk hW HG.out hlt) 2 rfl
   go_wp2
   exact hK.out _ brf
  refine grow_op (fun v _ => v = .int .i64 ((n2 : Int) + A.create)) (fun _ _ _ h _ => h) ?_ ?_
  ·intro V W K AA hW hd hA hK
   have d5 : V 5 = _ := hd 5 (by kernel_rfl)
   have d10 : V 10 = _ := hd 10 (by kernel_rfl)
   simp only [putAll, pz1, pz2, pz3, pz4, Act.put, pz5, pz6, pz7, d5, d10] at hA
   clear hd d5 d10
   obtain rfl := hA
   go_wp2
   exact hK.out _ _ brf (by go_num)
  refine grow_op (fun v _ => v = .bool true) (fun _ _ _ h _ => h) ?_ ?_
  ·intro V W K AA hW hd hA hK
   have d11 : (fun v _ => v = .int .i64 ((n2 : Int) + A.create)) (V 11) W := hd 11 (by kernel_rfl)
   simp only [putAll, pz1, pz2, pz3, pz4, Act.put, pz5, pz6, pz7] at hA
   clear hd
   generalize V 11 = x11 at d11 hA
   obtain rfl := hA
   obtain rfl := d11
   go_wp2
   exact hK.out _ _ brf (by rw [HA1.out])
  apply grow_eq
  ·intro V W K AA hW hd hA hK
   have d12 : (fun v _ => v = .bool true) (V 12) W := hd 12 (by kernel_rfl)
   simp only [putAll, pz1, pz2, pz3, pz4, Act.put, pz5, pz6, pz7] at hA
   clear hd
   generalize V 12 = x12 at d12 hA
   obtain rfl := hA
   obtain rfl := d12
   go_wp2
   exact hK.out _ brf
  apply grow_eq
  ·intro V W K AA hW hd hA hK
   have d13 : V 13 = _ := hd 13 (by kernel_rfl)
   simp only [putAll, pz1, pz2, pz3, pz4, Act.put, pz5, pz6, pz7, d13] at hA
   clear hd d13
   obtain rfl := hA
   go_wp2
   exact hK.out _ brf
  refine grow_op (fun v _ => v = .pointer (some ⟨g1, k * 13, none⟩)) (fun _ _ _ h _ => h) ?_ ?_
  ·intro V W K AA hW hd hA hK
   have d13 : V 13 = _ := hd 13 (by kernel_rfl)
   have d14 : V 14 = _ := hd 14 (by kernel_rfl)
   simp only [putAll, pz1, pz2, pz3, pz4, Act.put, pz5, pz6, pz7, d13, d14] at hA
   clear hd d13 d14
   obtain rfl := hA
   go_wp2_with fail
   refine (service_any A ae ce X.now g g1 n1 d1 k _ _ _ W hkl hl1 (below_blk hW HG.out hlt)).mono ?_
   rintro e w2 ⟨rfl, hbq⟩
   go_wp2
   exact hK.out _ _ hbq rfl
  apply grow_eq
  ·intro V W K AA hW hd hA hK
   have d13 : V 13 = _ := hd 13 (by kernel_rfl)
   have d15 : (fun v _ => v = .pointer (some ⟨g1, k * 13, none⟩)) (V 15) W := hd 15 (by kernel_rfl)
   simp only [putAll, pz1, pz2, pz3, pz4, Act.put, pz5, pz6, pz7, d13] at hA
   clear hd d13
   generalize V 15 = x15 at d15 hA
   obtain rfl := hA
   obtain rfl := d15
   go_wp2
   exact hK.out _ brf
  apply grow_eq
  ·intro V W K AA hW hd hA hK
   have d13 : V 13 = _ := hd 13 (by kernel_rfl)
   have d16 : V 16 = _ := hd 16 (by kernel_rfl)
   simp only [putAll, pz1, pz2, pz3, pz4, Act.put, pz5, pz6, pz7, d13, d16] at hA
   clear hd d13 d16
   obtain rfl := hA
   go_wp2
   exact hK.out _ brf
  apply grow_eq
  ·intro V W K AA hW hd hA hK
   have d13 : V 13 = _ := hd 13 (by kernel_rfl)
   have d17 : V 17 = _ := hd 17 (by kernel_rfl)
   simp only [putAll, pz1, pz2, pz3, pz4, Act.put, pz5, pz6, pz7, d13, d17] at hA
   clear hd d13 d17
   obtain rfl := hA
   have hq := HSV.out.below hW hlt1
   unfold SvcAt at hq
   obtain ⟨q0, q1, q2, q3, q4, q5, q6, q7, q8, q9, q10, q11, q12⟩ := hq
   go_wp2
   exact hK.out _ brf
  apply grow_eq
  ·intro V W K AA hW hd hA hK
   have d13 : V 13 = _ := hd 13 (by kernel_rfl)
   simp only [putAll, pz1, pz2, pz3, pz4, Act.put, pz5, pz6, pz7, d13] at hA
   clear hd d13
   obtain rfl := hA
   go_wp2
   exact hK.out _ brf
  apply grow_eq
  ·intro V W K AA hW hd hA hK
   have d13 : V 13 = _ := hd 13 (by kernel_rfl)
   have d19 : V 19 = _ := hd 19 (by kernel_rfl)
   simp only [putAll, pz1, pz2, pz3, pz4, Act.put, pz5, pz6, pz7, d13, d19] at hA
   clear hd d13 d19
   obtain rfl := hA
   go_wp2
   exact hK.out _ brf
  apply grow_eq
  ·intro V W K AA hW hd hA hK
   have d13 : V 13 = _ := hd 13 (by kernel_rfl)
   have d20 : V 20 = _ := hd 20 (by kernel_rfl)
   simp only [putAll, pz1, pz2, pz3, pz4, Act.put, pz5, pz6, pz7, d13, d20] at hA
   clear hd d13 d20
   obtain rfl := hA
   go_wp2
   exact hK.out _ brf
  apply grow_eq
  ·intro V W K AA hW hd hA hK
   have d13 : V 13 = _ := hd 13 (by kernel_rfl)
   have d21 : V 21 = _ := hd 21 (by kernel_rfl)
   simp only [putAll, pz1, pz2, pz3, pz4, Act.put, pz5, pz6, pz7, d13, d21] at hA
   clear hd d13 d21
   obtain rfl := hA
   go_wp2
   exact hK.out _ brf
  apply grow_eq
  ·intro V W K AA hW hd hA hK
   have d13 : V 13 = _ := hd 13 (by kernel_rfl)
   have d22 : V 22 = _ := hd 22 (by kernel_rfl)
   simp only [putAll, pz1, pz2, pz3, pz4, Act.put, pz5, pz6, pz7, d13, d22] at hA
   clear hd d13 d22
   obtain rfl := hA
   have e2 := blk_cell (below_blk hW HG.out hlt) 2 rfl
   go_wp2
   exact hK.out _ brf
  refine grow_op (fun v _ => v = .int .i64 (s.next + A.create)) (fun _ _ _ h _ => h) ?_ ?_
  ·intro V W K AA hW hd hA hK
   have d13 : V 13 = _ := hd 13 (by kernel_rfl)
   have d18 : V 18 = _ := hd 18 (by kernel_rfl)
   have d23 : V 23 = _ := hd 23 (by kernel_rfl)
   simp only [putAll, pz1, pz2, pz3, pz4, Act.put, pz5, pz6, pz7, d13, d18, d23] at hA
   clear hd d13 d18 d23
   obtain rfl := hA
   go_wp2
   exact hK.out _ _ brf (by go_num)
  refine grow_op (fun v _ => v = .bool false) (fun _ _ _ h _ => h) ?_ ?_
  ·intro V W K AA hW hd hA hK
   have d13 : V 13 = _ := hd 13 (by kernel_rfl)
   have d24 : (fun v _ => v = .int .i64 (s.next + A.create)) (V 24) W := hd 24 (by kernel_rfl)
   simp only [putAll, pz1, pz2, pz3, pz4, Act.put, pz5, pz6, pz7, d13] at hA
   clear hd d13
   generalize V 24 = x24 at d24 hA
   obtain rfl := hA
   obtain rfl := d24
   go_wp2
   exact hK.out _ _ brf (by rw [HA2.out])
  apply grow_eq
  ·intro V W K AA hW hd hA hK
   have d13 : V 13 = _ := hd 13 (by kernel_rfl)
   have d25 : (fun v _ => v = .bool false) (V 25) W := hd 25 (by kernel_rfl)
   simp only [putAll, pz1, pz2, pz3, pz4, Act.put, pz5, pz6, pz7, d13] at hA
   clear hd d13
   generalize V 25 = x25 at d25 hA
   obtain rfl := hA
   obtain rfl := d25
   go_wp2
   exact hK.out _ brf
  apply grow_eq
  ·intro V W K AA hW hd hA hK
   have d26 : V 26 = _ := hd 26 (by kernel_rfl)
   simp only [putAll, pz1, pz2, pz3, pz4, Act.put, pz5, pz6, pz7, d26] at hA
   clear hd d26
   obtain rfl := hA
   go_wp2
   exact hK.out _ brf
  refine grow_op (fun _ _ => True) (fun _ _ _ _ _ => trivial) ?_ ?_
  ·intro V W K AA hW hd hA hK
   have d27 : V 27 = _ := hd 27 (by kernel_rfl)
   simp only [putAll, pz1, pz2, pz3, pz4, Act.put, pz5, pz6, pz7, d27] at hA
   clear hd d27
   obtain rfl := hA
   go_wp2
   exact hK.out _ _ brf trivial
  refine grow_op (fun _ _ => True) (fun _ _ _ _ _ => trivial) ?_ ?_
  ·intro V W K AA hW hd hA hK
   have d27 : V 27 = _ := hd 27 (by kernel_rfl)
   have d28 : (fun _ _ => True) (V 28) W := hd 28 (by kernel_rfl)
   simp only [putAll, pz1, pz2, pz3, pz4, Act.put, pz5, pz6, pz7, d27] at hA
   clear hd d27
   generalize V 28 = x28 at d28 hA
   obtain rfl := hA
   go_wp2
   exact hK.out _ _ brf trivial
  refine grow_op (fun _ _ => True) (fun _ _ _ _ _ => trivial) ?_ ?_
  ·intro V W K AA hW hd hA hK
   have d27 : V 27 = _ := hd 27 (by kernel_rfl)
   have d29 : (fun _ _ => True) (V 29) W := hd 29 (by kernel_rfl)
   simp only [putAll, pz1, pz2, pz3, pz4, Act.put, pz5, pz6, pz7, d27] at hA
   clear hd d27
   generalize V 29 = x29 at d29 hA
   obtain rfl := hA
   go_wp2
   exact hK.out _ _ brf trivial
  refine grow_op (fun _ _ => True) (fun _ _ _ _ _ => trivial) ?_ ?_
  ·intro V W K AA hW hd hA hK
   have d27 : V 27 = _ := hd 27 (by kernel_rfl)
   have d30 : (fun _ _ => True) (V 30) W := hd 30 (by kernel_rfl)
   simp only [putAll, pz1, pz2, pz3, pz4, Act.put, pz5, pz6, pz7, d27] at hA
   clear hd d27
   generalize V 30 = x30 at d30 hA
   obtain rfl := hA
   go_wp2
   exact hK.out _ _ brf trivial
  refine grow_op (fun _ _ => True) (fun _ _ _ _ _ => trivial) ?_ ?_
  ·intro V W K AA hW hd hA hK
   have d27 : V 27 = _ := hd 27 (by kernel_rfl)
   have d31 : (fun _ _ => True) (V 31) W := hd 31 (by kernel_rfl)
   simp only [putAll, pz1, pz2, pz3, pz4, Act.put, pz5, pz6, pz7, d27] at hA
   clear hd d27
   generalize V 31 = x31 at d31 hA
   obtain rfl := hA
   go_wp2
   exact hK.out _ _ brf trivial
  refine grow_op (fun _ _ => True) (fun _ _ _ _ _ => trivial) ?_ ?_
  ·intro V W K AA hW hd hA hK
   have d27 : V 27 = _ := hd 27 (by kernel_rfl)
   have d32 : (fun _ _ => True) (V 32) W := hd 32 (by kernel_rfl)
   simp only [putAll, pz1, pz2, pz3, pz4, Act.put, pz5, pz6, pz7, d27] at hA
   clear hd d27
   generalize V 32 = x32 at d32 hA
   obtain rfl := hA
   go_wp2
   exact hK.out _ _ brf trivial
  apply grow_eq
  ·intro V W K AA hW hd hA hK
   have d27 : V 27 = _ := hd 27 (by kernel_rfl)
   have d33 : (fun _ _ => True) (V 33) W := hd 33 (by kernel_rfl)
   simp only [putAll, pz1, pz2, pz3, pz4, Act.put, pz5, pz6, pz7, d27] at hA
   clear hd d27
   generalize V 33 = x33 at d33 hA
   obtain rfl := hA
   go_wp2
   exact hK.out _ brf
  intro V W AA hW hS hA
  have d0 : V 0 = _ := hS 0 (by omega)
  have d1 : V 1 = _ := hS 1 (by omega)
  have d2 : V 2 = _ := hS 2 (by omega)
  have d3 : V 3 = _ := hS 3 (by omega)
  have d4 : V 4 = _ := hS 4 (by omega)
  have d5 : V 5 = _ := hS 5 (by omega)
  have d6 : V 6 = _ := hS 6 (by omega)
  have d7 : V 7 = _ := hS 7 (by omega)
  have d8 : V 8 = _ := hS 8 (by omega)
  have d9 : V 9 = _ := hS 9 (by omega)
  have d10 : V 10 = _ := hS 10 (by omega)
  have d11 : (fun v _ => v = .int .i64 ((n2 : Int) + A.create)) (V 11) W := hS 11 (by omega)
  have d12 : (fun v _ => v = .bool true) (V 12) W := hS 12 (by omega)
  have d13 : V 13 = _ := hS 13 (by omega)
  have d14 : V 14 = _ := hS 14 (by omega)
  have d15 : (fun v _ => v = .pointer (some ⟨g1, k * 13, none⟩)) (V 15) W := hS 15 (by omega)
  have d16 : V 16 = _ := hS 16 (by omega)
  have d17 : V 17 = _ := hS 17 (by omega)
  have d18 : V 18 = _ := hS 18 (by omega)
  have d19 : V 19 = _ := hS 19 (by omega)
  have d20 : V 20 = _ := hS 20 (by omega)
  have d21 : V 21 = _ := hS 21 (by omega)
  have d22 : V 22 = _ := hS 22 (by omega)
  have d23 : V 23 = _ := hS 23 (by omega)
  have d24 : (fun v _ => v = .int .i64 (s.next + A.create)) (V 24) W := hS 24 (by omega)
  have d25 : (fun v _ => v = .bool false) (V 25) W := hS 25 (by omega)
  have d26 : V 26 = _ := hS 26 (by omega)
  have d27 : V 27 = _ := hS 27 (by omega)
  have d28 : (fun _ _ => True) (V 28) W := hS 28 (by omega)
  have d29 : (fun _ _ => True) (V 29) W := hS 29 (by omega)
  have d30 : (fun _ _ => True) (V 30) W := hS 30 (by omega)
  have d31 : (fun _ _ => True) (V 31) W := hS 31 (by omega)
  have d32 : (fun _ _ => True) (V 32) W := hS 32 (by omega)
  have d33 : (fun _ _ => True) (V 33) W := hS 33 (by omega)
  have d34 : V 34 = _ := hS 34 (by omega)
  simp only [putAll, pz1, pz2, pz3, pz4, Act.put, pz5, pz6, pz7, d0, d1, d2, d3, d4, d5, d6, d7, d8, d9, d10, d13, d14, d16, d17, d18, d19, d20, d21, d22, d23, d26, d27, d34] at hA
  clear hS d0 d1 d2 d3 d4 d5 d6 d7 d8 d9 d10 d13 d14 d16 d17 d18 d19 d20 d21 d22 d23 d26 d27 d34
  generalize V 11 = x11 at d11 hA
  generalize V 12 = x12 at d12 hA
  generalize V 15 = x15 at d15 hA
  generalize V 24 = x24 at d24 hA
  generalize V 25 = x25 at d25 hA
  generalize V 28 = x28 at d28 hA
  generalize V 29 = x29 at d29 hA
  generalize V 30 = x30 at d30 hA
  generalize V 31 = x31 at d31 hA
  generalize V 32 = x32 at d32 hA
  generalize V 33 = x33 at d33 hA
  obtain rfl := hA
  simp only [List.drop_succ_cons, List.drop_zero]
  obtain rfl := d11
  obtain rfl := d12
  obtain rfl := d15
  obtain rfl := d24
  obtain rfl := d25
  go_wp2
  go_ret
  exact ⟨ret_boolO (by rw [HO.out]; rfl), hW⟩
 ·refine wp_region_grows 35 (by kernel_rfl) (by kernel_rfl) ?_
  apply grow_eq
  ·intro V W K AA hW hd hA hK
   simp only [putAll, pz1, pz2, pz3, pz4, Act.put, pz5, pz6, pz7] at hA
   clear hd
   obtain rfl := hA
   go_wp2
   exact hK.out _ brf
  apply grow_eq
  ·intro V W K AA hW hd hA hK
   have d0 : V 0 = _ := hd 0 (by kernel_rfl)
   simp only [putAll, pz1, pz2, pz3, pz4, Act.put, pz5, pz6, pz7, d0] at hA
   clear hd d0
   obtain rfl := hA
   go_wp2
   exact hK.out _ brf
  apply grow_eq
  ·intro V W K AA hW hd hA hK
   have d1 : V 1 = _ := hd 1 (by kernel_rfl)
   simp only [putAll, pz1, pz2, pz3, pz4, Act.put, pz5, pz6, pz7, d1] at hA
   clear hd d1
   obtain rfl := hA
   go_wp2
   exact hK.out _ brf
  apply grow_eq
  ·intro V W K AA hW hd hA hK
   have d2 : V 2 = _ := hd 2 (by kernel_rfl)
   simp only [putAll, pz1, pz2, pz3, pz4, Act.put, pz5, pz6, pz7, d2] at hA
   clear hd d2
   obtain rfl := hA
   go_wp2
   exact hK.out _ brf
  apply grow_eq
  ·intro V W K AA hW hd hA hK
   have d3 : V 3 = _ := hd 3 (by kernel_rfl)
   simp only [putAll, pz1, pz2, pz3, pz4, Act.put, pz5, pz6, pz7, d3] at hA
   clear hd d3
   obtain rfl := hA
   have e10 := blk_cell (below_blk hW HG.out hlt) 10 rfl
   go_wp2
   exact hK.out _ brf
  apply grow_eq
  ·intro V W K AA hW hd hA hK
   have d4 : V 4 = _ := hd 4 (by kernel_rfl)
   simp only [putAll, pz1, pz2, pz3, pz4, Act.put, pz5, pz6, pz7, d4] at hA
   clear hd d4
   obtain rfl := hA
   go_wp2
   exact hK.out _ brf
  apply grow_eq
  ·intro V W K AA hW hd hA hK
   simp only [putAll, pz1, pz2, pz3, pz4, Act.put, pz5, pz6, pz7] at hA
   clear hd
   obtain rfl := hA
   go_wp2
   exact hK.out _ brf
  apply grow_eq
  ·intro V W K AA hW hd hA hK
   have d6 : V 6 = _ := hd 6 (by kernel_rfl)
   simp only [putAll, pz1, pz2, pz3, pz4, Act.put, pz5, pz6, pz7, d6] at hA
   clear hd d6
   obtain rfl := hA
   go_wp2
   exact hK.out _ brf
  apply grow_eq
  ·intro V W K AA hW hd hA hK
   have d7 : V 7 = _ := hd 7 (by kernel_rfl)
   simp only [putAll, pz1, pz2, pz3, pz4, Act.put, pz5, pz6, pz7, d7] at hA
   clear hd d7
   obtain rfl := hA
   go_wp2
   exact hK.out _ brf
  apply grow_eq
  ·intro V W K AA hW hd hA hK
   have d8 : V 8 = _ := hd 8 (by kernel_rfl)
   simp only [putAll, pz1, pz2, pz3, pz4, Act.put, pz5, pz6, pz7, d8] at hA
   clear hd d8
   obtain rfl := hA
   go_wp2
   exact hK.out _ brf
  apply grow_eq
  ·intro V W K AA hW hd hA hK
   have d9 : V 9 = _ := hd 9 (by kernel_rfl)
   simp only [putAll, pz1, pz2, pz3, pz4, Act.put, pz5, pz6, pz7, d9] at hA
   clear hd d9
   obtain rfl := hA
   have e2 := blk_cell (below_blk hW HG.out hlt) 2 rfl
   go_wp2
   exact hK.out _ brf
  refine grow_op (fun v _ => v = .int .i64 ((n2 : Int) + A.create)) (fun _ _ _ h _ => h) ?_ ?_
  ·intro V W K AA hW hd hA hK
   have d5 : V 5 = _ := hd 5 (by kernel_rfl)
   have d10 : V 10 = _ := hd 10 (by kernel_rfl)
   simp only [putAll, pz1, pz2, pz3, pz4, Act.put, pz5, pz6, pz7, d5, d10] at hA
   clear hd d5 d10
   obtain rfl := hA
   go_wp2
   exact hK.out _ _ brf (by go_num)
  refine grow_op (fun v _ => v = .bool true) (fun _ _ _ h _ => h) ?_ ?_
  ·intro V W K AA hW hd hA hK
   have d11 : (fun v _ => v = .int .i64 ((n2 : Int) + A.create)) (V 11) W := hd 11 (by kernel_rfl)
   simp only [putAll, pz1, pz2, pz3, pz4, Act.put, pz5, pz6, pz7] at hA
   clear hd
   generalize V 11 = x11 at d11 hA
   obtain rfl := hA
   obtain rfl := d11
   go_wp2
   exact hK.out _ _ brf (by rw [HA1.out])
  apply grow_eq
  ·intro V W K AA hW hd hA hK
   have d12 : (fun v _ => v = .bool true) (V 12) W := hd 12 (by kernel_rfl)
   simp only [putAll, pz1, pz2, pz3, pz4, Act.put, pz5, pz6, pz7] at hA
   clear hd
   generalize V 12 = x12 at d12 hA
   obtain rfl := hA
   obtain rfl := d12
   go_wp2
   exact hK.out _ brf
  apply grow_eq
  ·intro V W K AA hW hd hA hK
   have d13 : V 13 = _ := hd 13 (by kernel_rfl)
   simp only [putAll, pz1, pz2, pz3, pz4, Act.put, pz5, pz6, pz7, d13] at hA
   clear hd d13
   obtain rfl := hA
   go_wp2
   exact hK.out _ brf
  refine grow_op (fun v _ => v = .pointer (some ⟨g1, k * 13, none⟩)) (fun _ _ _ h _ => h) ?_ ?_
  ·intro V W K AA hW hd hA hK
   have d13 : V 13 = _ := hd 13 (by kernel_rfl)
   have d14 : V 14 = _ := hd 14 (by kernel_rfl)
   simp only [putAll, pz1, pz2, pz3, pz4, Act.put, pz5, pz6, pz7, d13, d14] at hA
   clear hd d13 d14
   obtain rfl := hA
   go_wp2_with fail
   refine (service_any A ae ce X.now g g1 n1 d1 k _ _ _ W hkl hl1 (below_blk hW HG.out hlt)).mono ?_
   rintro e w2 ⟨rfl, hbq⟩
   go_wp2
   exact hK.out _ _ hbq rfl
  apply grow_eq
  ·intro V W K AA hW hd hA hK
   have d13 : V 13 = _ := hd 13 (by kernel_rfl)
   have d15 : (fun v _ => v = .pointer (some ⟨g1, k * 13, none⟩)) (V 15) W := hd 15 (by kernel_rfl)
   simp only [putAll, pz1, pz2, pz3, pz4, Act.put, pz5, pz6, pz7, d13] at hA
   clear hd d13
   generalize V 15 = x15 at d15 hA
   obtain rfl := hA
   obtain rfl := d15
   go_wp2
   exact hK.out _ brf
  apply grow_eq
  ·intro V W K AA hW hd hA hK
   have d13 : V 13 = _ := hd 13 (by kernel_rfl)
   have d16 : V 16 = _ := hd 16 (by kernel_rfl)
   simp only [putAll, pz1, pz2, pz3, pz4, Act.put, pz5, pz6, pz7, d13, d16] at hA
   clear hd d13 d16
   obtain rfl := hA
   go_wp2
   exact hK.out _ brf
  apply grow_eq
  ·intro V W K AA hW hd hA hK
   have d13 : V 13 = _ := hd 13 (by kernel_rfl)
   have d17 : V 17 = _ := hd 17 (by kernel_rfl)
   simp only [putAll, pz1, pz2, pz3, pz4, Act.put, pz5, pz6, pz7, d13, d17] at hA
   clear hd d13 d17
   obtain rfl := hA
   have hq := HSV.out.below hW hlt1
   unfold SvcAt at hq
   obtain ⟨q0, q1, q2, q3, q4, q5, q6, q7, q8, q9, q10, q11, q12⟩ := hq
   go_wp2
   exact hK.out _ brf
  apply grow_eq
  ·intro V W K AA hW hd hA hK
   have d13 : V 13 = _ := hd 13 (by kernel_rfl)
   simp only [putAll, pz1, pz2, pz3, pz4, Act.put, pz5, pz6, pz7, d13] at hA
   clear hd d13
   obtain rfl := hA
   go_wp2
   exact hK.out _ brf
  apply grow_eq
  ·intro V W K AA hW hd hA hK
   have d13 : V 13 = _ := hd 13 (by kernel_rfl)
   have d19 : V 19 = _ := hd 19 (by kernel_rfl)
   simp only [putAll, pz1, pz2, pz3, pz4, Act.put, pz5, pz6, pz7, d13, d19] at hA
   clear hd d13 d19
   obtain rfl := hA
   go_wp2
   exact hK.out _ brf
  apply grow_eq
  ·intro V W K AA hW hd hA hK
   have d13 : V 13 = _ := hd 13 (by kernel_rfl)
   have d20 : V 20 = _ := hd 20 (by kernel_rfl)
   simp only [putAll, pz1, pz2, pz3, pz4, Act.put, pz5, pz6, pz7, d13, d20] at hA
   clear hd d13 d20
   obtain rfl := hA
   go_wp2
   exact hK.out _ brf
  apply grow_eq
  ·intro V W K AA hW hd hA hK
   have d13 : V 13 = _ := hd 13 (by kernel_rfl)
   have d21 : V 21 = _ := hd 21 (by kernel_rfl)
   simp only [putAll, pz1, pz2, pz3, pz4, Act.put, pz5, pz6, pz7, d13, d21] at hA
   clear hd d13 d21
   obtain rfl := hA
   go_wp2
   exact hK.out _ brf
  apply grow_eq
  ·intro V W K AA hW hd hA hK
   have d13 : V 13 = _ := hd 13 (by kernel_rfl)
   have d22 : V 22 = _ := hd 22 (by kernel_rfl)
   simp only [putAll, pz1, pz2, pz3, pz4, Act.put, pz5, pz6, pz7, d13, d22] at hA
   clear hd d13 d22
   obtain rfl := hA
   have e2 := blk_cell (below_blk hW HG.out hlt) 2 rfl
   go_wp2
   exact hK.out _ brf
  refine grow_op (fun v _ => v = .int .i64 (s.next + A.create)) (fun _ _ _ h _ => h) ?_ ?_
  ·intro V W K AA hW hd hA hK
   have d13 : V 13 = _ := hd 13 (by kernel_rfl)
   have d18 : V 18 = _ := hd 18 (by kernel_rfl)
   have d23 : V 23 = _ := hd 23 (by kernel_rfl)
   simp only [putAll, pz1, pz2, pz3, pz4, Act.put, pz5, pz6, pz7, d13, d18, d23] at hA
   clear hd d13 d18 d23
   obtain rfl := hA
   go_wp2
   exact hK.out _ _ brf (by go_num)
  refine grow_op (fun v _ => v = .bool true) (fun _ _ _ h _ => h) ?_ ?_
  ·intro V W K AA hW hd hA hK
   have d13 : V 13 = _ := hd 13 (by kernel_rfl)
   have d24 : (fun v _ => v = .int .i64 (s.next + A.create)) (V 24) W := hd 24 (by kernel_rfl)
   simp only [putAll, pz1, pz2, pz3, pz4, Act.put, pz5, pz6, pz7, d13] at hA
   clear hd d13
   generalize V 24 = x24 at d24 hA
   obtain rfl := hA
   obtain rfl := d24
   go_wp2
   exact hK.out _ _ brf (by rw [HA2.out])
  apply grow_eq
  ·intro V W K AA hW hd hA hK
   have d13 : V 13 = _ := hd 13 (by kernel_rfl)
   have d25 : (fun v _ => v = .bool true) (V 25) W := hd 25 (by kernel_rfl)
   simp only [putAll, pz1, pz2, pz3, pz4, Act.put, pz5, pz6, pz7, d13] at hA
   clear hd d13
   generalize V 25 = x25 at d25 hA
   obtain rfl := hA
   obtain rfl := d25
   go_wp2
   exact hK.out _ brf
  apply grow_eq
  ·intro V W K AA hW hd hA hK
   have d26 : V 26 = _ := hd 26 (by kernel_rfl)
   simp only [putAll, pz1, pz2, pz3, pz4, Act.put, pz5, pz6, pz7, d26] at hA
   clear hd d26
   obtain rfl := hA
   go_wp2
   exact hK.out _ brf
  apply grow_eq
  ·intro V W K AA hW hd hA hK
   have d27 : V 27 = _ := hd 27 (by kernel_rfl)
   simp only [putAll, pz1, pz2, pz3, pz4, Act.put, pz5, pz6, pz7, d27] at hA
   clear hd d27
   obtain rfl := hA
   go_wp2
   exact hK.out _ brf
  apply grow_eq
  ·intro V W K AA hW hd hA hK
   have d27 : V 27 = _ := hd 27 (by kernel_rfl)
   have d28 : V 28 = _ := hd 28 (by kernel_rfl)
   simp only [putAll, pz1, pz2, pz3, pz4, Act.put, pz5, pz6, pz7, d27, d28] at hA
   clear hd d27 d28
   obtain rfl := hA
   go_wp2
   exact hK.out _ brf
  apply grow_eq
  ·intro V W K AA hW hd hA hK
   have d27 : V 27 = _ := hd 27 (by kernel_rfl)
   have d29 : V 29 = _ := hd 29 (by kernel_rfl)
   simp only [putAll, pz1, pz2, pz3, pz4, Act.put, pz5, pz6, pz7, d27, d29] at hA
   clear hd d27 d29
   obtain rfl := hA
   go_wp2
   exact hK.out _ brf
  apply grow_eq
  ·intro V W K AA hW hd hA hK
   have d27 : V 27 = _ := hd 27 (by kernel_rfl)
   have d30 : V 30 = _ := hd 30 (by kernel_rfl)
   simp only [putAll, pz1, pz2, pz3, pz4, Act.put, pz5, pz6, pz7, d27, d30] at hA
   clear hd d27 d30
   obtain rfl := hA
   go_wp2
   exact hK.out _ brf
  apply grow_eq
  ·intro V W K AA hW hd hA hK
   have d27 : V 27 = _ := hd 27 (by kernel_rfl)
   have d31 : V 31 = _ := hd 31 (by kernel_rfl)
   simp only [putAll, pz1, pz2, pz3, pz4, Act.put, pz5, pz6, pz7, d27, d31] at hA
   clear hd d27 d31
   obtain rfl := hA
   have e8 := blk_cell (below_blk hW HG.out hlt) 8 rfl
   go_wp2
   exact hK.out _ brf
  refine grow_op (fun v _ => v = .bool r3) (fun _ _ _ h _ => h) ?_ ?_
  ·intro V W K AA hW hd hA hK
   have d27 : V 27 = _ := hd 27 (by kernel_rfl)
   have d32 : V 32 = _ := hd 32 (by kernel_rfl)
   simp only [putAll, pz1, pz2, pz3, pz4, Act.put, pz5, pz6, pz7, d27, d32] at hA
   clear hd d27 d32
   obtain rfl := hA
   go_wp2
   exact hK.out _ _ brf (by rw [HA3.out])
  apply grow_eq
  ·intro V W K AA hW hd hA hK
   have d27 : V 27 = _ := hd 27 (by kernel_rfl)
   have d33 : (fun v _ => v = .bool r3) (V 33) W := hd 33 (by kernel_rfl)
   simp only [putAll, pz1, pz2, pz3, pz4, Act.put, pz5, pz6, pz7, d27] at hA
   clear hd d27
   generalize V 33 = x33 at d33 hA
   obtain rfl := hA
   obtain rfl := d33
   go_wp2
   exact hK.out _ brf
  intro V W AA hW hS hA
  have d0 : V 0 = _ := hS 0 (by omega)
  have d1 : V 1 = _ := hS 1 (by omega)
  have d2 : V 2 = _ := hS 2 (by omega)
  have d3 : V 3 = _ := hS 3 (by omega)
  have d4 : V 4 = _ := hS 4 (by omega)
  have d5 : V 5 = _ := hS 5 (by omega)
  have d6 : V 6 = _ := hS 6 (by omega)
  have d7 : V 7 = _ := hS 7 (by omega)
  have d8 : V 8 = _ := hS 8 (by omega)
  have d9 : V 9 = _ := hS 9 (by omega)
  have d10 : V 10 = _ := hS 10 (by omega)
  have d11 : (fun v _ => v = .int .i64 ((n2 : Int) + A.create)) (V 11) W := hS 11 (by omega)
  have d12 : (fun v _ => v = .bool true) (V 12) W := hS 12 (by omega)
  have d13 : V 13 = _ := hS 13 (by omega)
  have d14 : V 14 = _ := hS 14 (by omega)
  have d15 : (fun v _ => v = .pointer (some ⟨g1, k * 13, none⟩)) (V 15) W := hS 15 (by omega)
  have d16 : V 16 = _ := hS 16 (by omega)
  have d17 : V 17 = _ := hS 17 (by omega)
  have d18 : V 18 = _ := hS 18 (by omega)
  have d19 : V 19 = _ := hS 19 (by omega)
  have d20 : V 20 = _ := hS 20 (by omega)
  have d21 : V 21 = _ := hS 21 (by omega)
  have d22 : V 22 = _ := hS 22 (by omega)
  have d23 : V 23 = _ := hS 23 (by omega)
  have d24 : (fun v _ => v = .int .i64 (s.next + A.create)) (V 24) W := hS 24 (by omega)
  have d25 : (fun v _ => v = .bool true) (V 25) W := hS 25 (by omega)
  have d26 : V 26 = _ := hS 26 (by omega)
  have d27 : V 27 = _ := hS 27 (by omega)
  have d28 : V 28 = _ := hS 28 (by omega)
  have d29 : V 29 = _ := hS 29 (by omega)
  have d30 : V 30 = _ := hS 30 (by omega)
  have d31 : V 31 = _ := hS 31 (by omega)
  have d32 : V 32 = _ := hS 32 (by omega)
  have d33 : (fun v _ => v = .bool r3) (V 33) W := hS 33 (by omega)
  have d34 : V 34 = _ := hS 34 (by omega)
  simp only [putAll, pz1, pz2, pz3, pz4, Act.put, pz5, pz6, pz7, d0, d1, d2, d3, d4, d5, d6, d7, d8, d9, d10, d13, d14, d16, d17, d18, d19, d20, d21, d22, d23, d26, d27, d28, d29, d30, d31, d32, d34] at hA
  clear hS d0 d1 d2 d3 d4 d5 d6 d7 d8 d9 d10 d13 d14 d16 d17 d18 d19 d20 d21 d22 d23 d26 d27 d28 d29 d30 d31 d32 d34
  generalize V 11 = x11 at d11 hA
  generalize V 12 = x12 at d12 hA
  generalize V 15 = x15 at d15 hA
  generalize V 24 = x24 at d24 hA
  generalize V 25 = x25 at d25 hA
  generalize V 33 = x33 at d33 hA
  obtain rfl := hA
  simp only [List.drop_succ_cons, List.drop_zero]
  obtain rfl := d11
  obtain rfl := d12
  obtain rfl := d15
  obtain rfl := d24
  obtain rfl := d25
  obtain rfl := d33
  go_wp2
  go_ret
  exact ⟨ret_boolO (by rw [HO.out]; rfl), hW⟩
end Go.Proofs.YtbceafpodamnfabGreatDoor
