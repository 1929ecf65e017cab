/-
  My own: Ox.
-/
import Derived.Test.YtbceafpodamnfabGreatDoorG24
import Derived.Test.YtbceafpodamnfabGreatDoorG40
set_option linter.unusedVariables false
set_option linter.unusedSimpArgs false
namespace Go.Proofs.YtbceafpodamnfabGreatDoor
open Go.RowKit Go.Sort
theorem RowN.ne {w : World} {N : Nat} {e t : TypeId} {size : Nat} {ao : Option Addr} {n cap q : Nat} {xs : List Value} {cs : Array Value} {fr : Nat × Nat} (h : RowN w N e size ao n cap xs) (hq : w.heap[q]? = Option.some (.cells cs t fr)) (ht : t ≠ e) : ao ≠ Option.some ⟨q, 0, none⟩ := fun ea => by
 rcases h with h | ⟨g, h1, _, h3⟩
 ·rw [h.1] at ea; cases ea
 ·rw [h1] at ea
  cases ea
  obtain ⟨_, _, cur, hc, _⟩ := h3
  rw [hq] at hc
  injection hc with hc
  injection hc with _ hc
  exact ht hc
structure RowOnly (ao : Option Addr) (N : Nat) (w w' : World) : Prop where
 block : ∀ q, q < w.heap.size → ao ≠ some ⟨q, 0, none⟩ → w'.heap[q]? = w.heap[q]?
 size : w.heap.size ≤ w'.heap.size
 below : Below N w w'
theorem RowOnly.refl (ao : Option Addr) (N : Nat) (w : World) : RowOnly ao N w w := ⟨fun _ _ _ => rfl, Nat.le_refl _, Below.refl _ _⟩
theorem RowN.rowOnly {w w' : World} {N M : Nat} {e t : TypeId} {size sz : Nat} {ao bo : Option Addr} {n cap m c : Nat} {xs ys : List Value} (h : RowN w N e size ao n cap xs) (hk : RowOnly bo M w w') (hb : RowN w N t sz bo m c ys) (ht : e ≠ t) : RowN w' N e size ao n cap xs := by
 rcases h with h | ⟨g, h1, h2, h3⟩
 ·exact .inl h
 ·obtain ⟨_, _, cur, hc, _⟩ := id h3
  exact .inr ⟨g, h1, h2, h3.blk (hk.block g h3.lt (hb.ne hc ht))⟩
set_option maxHeartbeats 1000000 in
theorem markNilS (ao : Option Addr) (cap : Nat) (k0 : Int) (w : World) :
  Calls Tryz.prog 52 #[.slice ao 0 cap, .int .i64 k0] w fun e w' => e = .returned (.int .i64 k0) ∧ w' = w := by
 go_enter Tryz.func52, Tryz.ntmps52
 go_wp2
 go_loop [1, 5] (fun kv i => kv = .int .i64 k0 ∧ i = .int .i64 0) (fun _ _ => 0)
 case atStart => exact ⟨rfl, rfl⟩
 case round =>
  obtain ⟨rfl, rfl⟩ := hrel
  go_wp2
  go_ret
  exact ⟨rfl, rfl⟩
def FillNS (w : World) (ao : Option Addr) (l : List Svc) : Prop := (ao = none ∧ l = []) ∨ ∃ g, ao = some ⟨g, 0, none⟩ ∧ FillS w g l
theorem FillNS.rowOnly {w w' : World} {N M : Nat} {t : TypeId} {sz : Nat} {ao bo : Option Addr} {m c : Nat} {l : List Svc} {ys : List Value} (h : FillNS w ao l) (hk : RowOnly bo M w w') (hb : RowN w N t sz bo m c ys) (ht : 67 ≠ t) : FillNS w' ao l := by
 rcases h with h | ⟨g, h1, h2⟩
 ·exact .inl h
 ·obtain ⟨cur, hc, _⟩ := id h2
  exact .inr ⟨g, h1, h2.blk (hk.block g (Array.getElem?_eq_some_iff.1 hc).1 (hb.ne hc ht))⟩
theorem FillNS.sl {w : World} {ao : Option Addr} {l : List Svc} (h : FillNS w ao l) : SlS w ao l := by
 rcases h with ⟨_, h2⟩ | ⟨g, rfl, h2⟩
 ·rw [h2]; exact fun h => absurd rfl h
 ·exact h2.sl
theorem markRowS (l : List Svc) (N : Nat) (ao : Option Addr) (cap : Nat) (k0 : Int) (w : World) (hl : l.length ≤ 1048576) (h0 : 1 ≤ k0) (h1 : k0 + 13 * l.length < 100000000) (hN : N ≤ w.heap.size) (hR : RowN w N 67 13 ao l.length cap (svcsV l)) :
  Calls Tryz.prog 52 #[.slice ao l.length cap, .int .i64 k0] w fun e w' => e = .returned (.int .i64 (k0 + 13 * l.length)) ∧ FillNS w' ao (marksSvc k0 l.length) ∧ RowOnly ao N w w' := by
 rcases hR with ⟨rfl, hn, rfl, _⟩ | ⟨g, rfl, hNg, hr⟩
 ·rw [hn]
  exact (markNilS none 0 k0 w).mono fun e w' ⟨he, hw⟩ => by rw [hw]; exact ⟨by rw [he]; simp, .inl ⟨rfl, rfl⟩, RowOnly.refl _ _ _⟩
 ·have hroom : RoomS w g l.length := by obtain ⟨h1, h2, cur, hc, hs, _⟩ := hr; exact ⟨cur, hc, by rw [hs]; exact Nat.mul_le_mul_right _ h2⟩
  exact (markSvcS_any l.length g cap k0 w hl h0 h1 hroom).mono fun e w' ⟨he, hf, hg⟩ => ⟨he, .inr ⟨g, rfl, hf⟩, ⟨fun q hq hne => hg.block q hq (fun e => hne (by have := Option.some.inj e; rw [this])), hg.size, ⟨hg.os, hg.tape, hg.output, hg.size, fun q hq => hg.block q (by omega) (fun e => by have := Option.some.inj e; omega)⟩⟩⟩
set_option maxHeartbeats 1000000 in
theorem markNilC (ao : Option Addr) (cap : Nat) (k0 : Int) (w : World) :
  Calls Tryz.prog 53 #[.slice ao 0 cap, .int .i64 k0] w fun e w' => e = .returned (.int .i64 k0) ∧ w' = w := by
 go_enter Tryz.func53, Tryz.ntmps53
 go_wp2
 go_loop [1, 5] (fun kv i => kv = .int .i64 k0 ∧ i = .int .i64 0) (fun _ _ => 0)
 case atStart => exact ⟨rfl, rfl⟩
 case round =>
  obtain ⟨rfl, rfl⟩ := hrel
  go_wp2
  go_ret
  exact ⟨rfl, rfl⟩
def FillNC (w : World) (ao : Option Addr) (l : List Cp) : Prop := (ao = none ∧ l = []) ∨ ∃ g, ao = some ⟨g, 0, none⟩ ∧ FillC w g l
theorem FillNC.rowOnly {w w' : World} {N M : Nat} {t : TypeId} {sz : Nat} {ao bo : Option Addr} {m c : Nat} {l : List Cp} {ys : List Value} (h : FillNC w ao l) (hk : RowOnly bo M w w') (hb : RowN w N t sz bo m c ys) (ht : 149 ≠ t) : FillNC w' ao l := by
 rcases h with h | ⟨g, h1, h2⟩
 ·exact .inl h
 ·obtain ⟨cur, hc, _⟩ := id h2
  exact .inr ⟨g, h1, h2.blk (hk.block g (Array.getElem?_eq_some_iff.1 hc).1 (hb.ne hc ht))⟩
theorem FillNC.sl {w : World} {ao : Option Addr} {l : List Cp} (h : FillNC w ao l) : SlC w ao l := by
 rcases h with ⟨_, h2⟩ | ⟨g, rfl, h2⟩
 ·rw [h2]; exact fun h => absurd rfl h
 ·exact h2.sl
theorem markRowC (l : List Cp) (N : Nat) (ao : Option Addr) (cap : Nat) (k0 : Int) (w : World) (hl : l.length ≤ 1048576) (h0 : 1 ≤ k0) (h1 : k0 + 7 * l.length < 100000000) (hN : N ≤ w.heap.size) (hR : RowN w N 149 7 ao l.length cap (cpsV l)) :
  Calls Tryz.prog 53 #[.slice ao l.length cap, .int .i64 k0] w fun e w' => e = .returned (.int .i64 (k0 + 7 * l.length)) ∧ FillNC w' ao (marksCp k0 l.length) ∧ RowOnly ao N w w' := by
 rcases hR with ⟨rfl, hn, rfl, _⟩ | ⟨g, rfl, hNg, hr⟩
 ·rw [hn]
  exact (markNilC none 0 k0 w).mono fun e w' ⟨he, hw⟩ => by rw [hw]; exact ⟨by rw [he]; simp, .inl ⟨rfl, rfl⟩, RowOnly.refl _ _ _⟩
 ·have hroom : RoomC w g l.length := by obtain ⟨h1, h2, cur, hc, hs, _⟩ := hr; exact ⟨cur, hc, by rw [hs]; exact Nat.mul_le_mul_right _ h2⟩
  exact (markCpS_any l.length g cap k0 w hl h0 h1 hroom).mono fun e w' ⟨he, hf, hg⟩ => ⟨he, .inr ⟨g, rfl, hf⟩, ⟨fun q hq hne => hg.block q hq (fun e => hne (by have := Option.some.inj e; rw [this])), hg.size, ⟨hg.os, hg.tape, hg.output, hg.size, fun q hq => hg.block q (by omega) (fun e => by have := Option.some.inj e; omega)⟩⟩⟩
set_option maxHeartbeats 1000000 in
theorem markNilB (ao : Option Addr) (cap : Nat) (k0 : Int) (w : World) :
  Calls Tryz.prog 54 #[.slice ao 0 cap, .int .i64 k0] w fun e w' => e = .returned (.int .i64 k0) ∧ w' = w := by
 go_enter Tryz.func54, Tryz.ntmps54
 go_wp2
 go_loop [1, 5] (fun kv i => kv = .int .i64 k0 ∧ i = .int .i64 0) (fun _ _ => 0)
 case atStart => exact ⟨rfl, rfl⟩
 case round =>
  obtain ⟨rfl, rfl⟩ := hrel
  go_wp2
  go_ret
  exact ⟨rfl, rfl⟩
def FillNB (w : World) (ao : Option Addr) (l : List Bt) : Prop := (ao = none ∧ l = []) ∨ ∃ g, ao = some ⟨g, 0, none⟩ ∧ FillB w g l
theorem FillNB.sl {w : World} {ao : Option Addr} {l : List Bt} (h : FillNB w ao l) : SlB w ao l := by
 rcases h with ⟨_, h2⟩ | ⟨g, rfl, h2⟩
 ·rw [h2]; exact fun h => absurd rfl h
 ·exact h2.sl
theorem markRowB (l : List Bt) (N : Nat) (ao : Option Addr) (cap : Nat) (k0 : Int) (w : World) (hl : l.length ≤ 1048576) (h0 : 1 ≤ k0) (h1 : k0 + 2 * l.length < 100000000) (hN : N ≤ w.heap.size) (hR : RowN w N 147 2 ao l.length cap (btsV l)) :
  Calls Tryz.prog 54 #[.slice ao l.length cap, .int .i64 k0] w fun e w' => e = .returned (.int .i64 (k0 + 2 * l.length)) ∧ FillNB w' ao (marksBt k0 l.length) ∧ RowOnly ao N w w' := by
 rcases hR with ⟨rfl, hn, rfl, _⟩ | ⟨g, rfl, hNg, hr⟩
 ·rw [hn]
  exact (markNilB none 0 k0 w).mono fun e w' ⟨he, hw⟩ => by rw [hw]; exact ⟨by rw [he]; simp, .inl ⟨rfl, rfl⟩, RowOnly.refl _ _ _⟩
 ·have hroom : RoomB w g l.length := by obtain ⟨h1, h2, cur, hc, hs, _⟩ := hr; exact ⟨cur, hc, by rw [hs]; exact Nat.mul_le_mul_right _ h2⟩
  exact (markBtS_any l.length g cap k0 w hl h0 h1 hroom).mono fun e w' ⟨he, hf, hg⟩ => ⟨he, .inr ⟨g, rfl, hf⟩, ⟨fun q hq hne => hg.block q hq (fun e => hne (by have := Option.some.inj e; rw [this])), hg.size, ⟨hg.os, hg.tape, hg.output, hg.size, fun q hq => hg.block q (by omega) (fun e => by have := Option.some.inj e; omega)⟩⟩⟩
set_option maxHeartbeats 4000000 in
theorem markBookN (B : Bk) (N : Nat) (a1 a2 a3 : Option Addr) (k1 k2 k3 : Nat) (k0 : Int) (w : World) (hS : B.small) (h0 : 1 ≤ k0) (h1 : k0 ≤ 1000000) (hN : N ≤ w.heap.size) (hO : BkOf w N B a1 a2 a3 k1 k2 k3) :
  Calls Tryz.prog 15 #[.agg #[.int .i64 B.now, .slice a1 B.svcs.length k1, .slice a2 B.cps.length k2, .slice a3 B.bts.length k3], .int .i64 k0] w fun e w' => e = .returned (.int .i64 (k0 + 13 * B.svcs.length + 7 * B.cps.length + 2 * B.bts.length)) ∧ BkAt w' a1 a2 a3 (marksBk B.now k0 B.svcs.length B.cps.length B.bts.length) ∧ Below N w w' ∧ (∀ (q : Nat) cs fr, w.heap[q]? = some (.cells cs 36 fr) → w'.heap[q]? = w.heap[q]?) := by
 obtain ⟨hl1, hl2, hl3⟩ := hS
 obtain ⟨W0, hW0⟩ : ∃ W, w.alloc (.cells #[.int .i64 B.now, .slice a1 B.svcs.length k1, .slice a2 B.cps.length k2, .slice a3 B.bts.length k3] 36) = W := ⟨_, rfl⟩
 have hb0 := below_box w (.cells #[.int .i64 B.now, .slice a1 B.svcs.length k1, .slice a2 B.cps.length k2, .slice a3 B.bts.length k3] 36)
 have T0 : Hid (W0.heap[w.heap.size]? = some (.cells #[.int .i64 B.now, .slice a1 B.svcs.length k1, .slice a2 B.cps.length k2, .slice a3 B.bts.length k3] 36 (0, 0))) := by unfold Hid; rw [← hW0]; exact heap_alloc_new w (.cells #[.int .i64 B.now, .slice a1 B.svcs.length k1, .slice a2 B.cps.length k2, .slice a3 B.bts.length k3] 36)
 rw [hW0] at hb0
 have O0 := hid_of' (hO.below hb0)
 have hN0 : N ≤ W0.heap.size := Nat.le_trans hN hb0.size
 have e1 := blk_cell T0.out 1 rfl
 clear hO
 go_enter Tryz.func15, Tryz.ntmps15
 go_upto_region 1 with fail
 clear hW0
 go_wp2_with fail
 refine (markRowS B.svcs N a1 k1 k0 W0 hl1 h0 (by omega) hN0 O0.out.svcs).mono ?_
 rintro e w1 ⟨rfl, hf1, ho1⟩
 have F1 := hid_of' hf1
 have T1 : Hid (w1.heap[w.heap.size]? = some (.cells #[.int .i64 B.now, .slice a1 B.svcs.length k1, .slice a2 B.cps.length k2, .slice a3 B.bts.length k3] 36 (0, 0))) := (ho1.block _ (Array.getElem?_eq_some_iff.1 T0.out).1 (O0.out.svcs.ne T0.out (by decide))).trans T0.out
 have C1 := hid_of' (O0.out.cps.rowOnly ho1 O0.out.svcs (by decide))
 have R1 := hid_of' (O0.out.bts.rowOnly ho1 O0.out.svcs (by decide))
 have hN1 : N ≤ w1.heap.size := Nat.le_trans hN0 ho1.size
 have K1 : Hid (∀ (q : Nat) cs fr, w.heap[q]? = some (.cells cs 36 fr) → w1.heap[q]? = w.heap[q]?) := fun q cs fr hq => by
  have hl := (Array.getElem?_eq_some_iff.1 hq).1
  have h0 := hb0.block q hl
  exact (ho1.block q (Nat.lt_of_lt_of_le hl hb0.size) (O0.out.svcs.ne (h0.trans hq) (by decide))).trans h0
 have hb1 : Below N w w1 := (hb0.mono hN).trans ho1.below
 clear hf1 ho1 e1 T0 O0 hb0 hN0
 have e2 := blk_cell T1.out 2 rfl
 go_wp2_with fail
 refine (markRowC B.cps N a2 k2 (k0 + 13 * B.svcs.length) w1 hl2 (by omega) (by omega) hN1 C1.out).mono ?_
 rintro e w2 ⟨rfl, hf2, ho2⟩
 have F2 := hid_of' hf2
 have F1' := hid_of' (F1.out.rowOnly ho2 C1.out (by decide))
 have T2 : Hid (w2.heap[w.heap.size]? = some (.cells #[.int .i64 B.now, .slice a1 B.svcs.length k1, .slice a2 B.cps.length k2, .slice a3 B.bts.length k3] 36 (0, 0))) := (ho2.block _ (Array.getElem?_eq_some_iff.1 T1.out).1 (C1.out.ne T1.out (by decide))).trans T1.out
 have R2 := hid_of' (R1.out.rowOnly ho2 C1.out (by decide))
 have hN2 : N ≤ w2.heap.size := Nat.le_trans hN1 ho2.size
 have K2 : Hid (∀ (q : Nat) cs fr, w.heap[q]? = some (.cells cs 36 fr) → w2.heap[q]? = w.heap[q]?) := fun q cs fr hq => by
  have h1 := K1.out q cs fr hq
  exact (ho2.block q (Array.getElem?_eq_some_iff.1 (h1.trans hq)).1 (C1.out.ne (h1.trans hq) (by decide))).trans h1
 have hb2 : Below N w w2 := hb1.trans ho2.below
 clear hf2 ho2 e2 T1 C1 R1 F1 hb1 hN1
 have e3 := blk_cell T2.out 3 rfl
 go_wp2_with fail
 refine (markRowB B.bts N a3 k3 (k0 + 13 * B.svcs.length + 7 * B.cps.length) w2 hl3 (by omega) (by omega) hN2 R2.out).mono ?_
 rintro e w3 ⟨rfl, hf3, ho3⟩
 have F3 := hid_of' hf3
 have F1s := hid_of' (F1'.out.rowOnly ho3 R2.out (by decide))
 have F2s := hid_of' (F2.out.rowOnly ho3 R2.out (by decide))
 have hb3 : Below N w w3 := hb2.trans ho3.below
 have K3 : Hid (∀ (q : Nat) cs fr, w.heap[q]? = some (.cells cs 36 fr) → w3.heap[q]? = w.heap[q]?) := fun q cs fr hq => by
  have h1 := K2.out q cs fr hq
  exact (ho3.block q (Array.getElem?_eq_some_iff.1 (h1.trans hq)).1 (R2.out.ne (h1.trans hq) (by decide))).trans h1
 clear hf3 ho3 e3 T2 R2 F1' F2 hb2 hN2
 go_wp2
 go_ret
 exact ⟨rfl, ⟨F1s.out.sl, F2s.out.sl, F3.out.sl⟩, hb3, K3.out⟩
end Go.Proofs.YtbceafpodamnfabGreatDoor
