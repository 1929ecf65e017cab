/-
  My own: Mc.
-/
import Derived.Test.YtbceafpodamnfabGreatDoorG38
set_option linter.unusedVariables false
set_option linter.unusedSimpArgs false
namespace Go.Proofs.YtbceafpodamnfabGreatDoor
open Go.RowKit Go.Sort
theorem splice_nil (l : List Value) (o : Nat) : splice l o [] = l := by unfold splice; simp
theorem splice_add (l : List Value) (o : Nat) (xs : List Value) (v : Value) (h : o + xs.length + 1 ≤ l.length) : splice (splice l o xs) (o + xs.length) [v] = splice l o (xs ++ [v]) := by
 have hA : (l.take o).length = o := by simp; omega
 have hAX : (l.take o ++ xs).length = o + xs.length := by rw [List.length_append, hA]
 have e : splice l o xs = (l.take o ++ xs) ++ l.drop (o + xs.length) := by unfold splice; rw [List.append_assoc]
 have e1 : (splice l o xs).take (o + xs.length) = l.take o ++ xs := by rw [e, ← hAX, List.take_left]
 have e2 : (splice l o xs).drop (o + xs.length) = l.drop (o + xs.length) := by rw [e, ← hAX, List.drop_left]
 have e3 : (splice l o xs).drop (o + xs.length + 1) = l.drop (o + xs.length + 1) := by rw [← List.drop_drop, e2, List.drop_drop]
 have e4 : splice (splice l o xs) (o + xs.length) [v] = (splice l o xs).take (o + xs.length) ++ ([v] ++ (splice l o xs).drop (o + xs.length + 1)) := rfl
 rw [e4, e1, e3]
 unfold splice
 simp [List.append_assoc, Nat.add_assoc]
theorem splice_len (l : List Value) (o : Nat) (xs : List Value) (h : o + xs.length ≤ l.length) : (splice l o xs).length = l.length := by
 unfold splice
 simp
 omega
def FillP {α : Type} (c : α → List Value) (n : Nat) (l : List α) (k : Nat) (cur : List Value) : Prop :=
 l.length * n ≤ cur.length ∧ ∀ i s, i < k → l[i]? = some s → ∀ j, j < n → cur[i * n + j]? = (c s)[j]?
theorem FillP.step {α : Type} {c : α → List Value} {n : Nat} {l : List α} {k : Nat} {cur : List Value} (h : FillP c n l k cur) {s : α} (hs : l[k]? = some s) (hc : (c s).length = n) :
  FillP c n l (k + 1) (splice cur (k * n) (c s)) := by
 obtain ⟨hlen, hf⟩ := h
 have hk : k < l.length := (List.getElem?_eq_some_iff.1 hs).1
 have hle : k * n + n ≤ cur.length := Nat.le_trans (by rw [← Nat.succ_mul]; exact Nat.mul_le_mul_right n hk) hlen
 refine ⟨by rw [splice_len _ _ _ (by omega)]; exact hlen, fun i s' hi hs' j hj => ?_⟩
 unfold splice
 by_cases hik : i = k
 ·subst hik
  rw [hs] at hs'; cases hs'
  rw [List.getElem?_append_right (by simp; omega), List.getElem?_append_left (by simp; omega)]
  congr 1
  simp; omega
 ·have hlt : i < k := by omega
  have : i * n + n ≤ k * n := by rw [← Nat.succ_mul]; exact Nat.mul_le_mul_right n hlt
  rw [List.getElem?_append_left (by simp; omega), List.getElem?_take, if_pos (by omega)]
  exact hf i s' hlt hs' j hj
theorem Tryz.infosString : (Tryz.prog.info? 9).map (·.size) = some 1 := by kernel_rfl
theorem Tryz.infosInt' : (Tryz.prog.info? 3).map (·.size) = some 1 := by kernel_rfl
theorem Tryz.infosBool' : (Tryz.prog.info? 4).map (·.size) = some 1 := by kernel_rfl
theorem grown_below {w w1 w2 : World} {r : Option Nat} (h : w.grownBy w1 r) (hb : Below w1.heap.size w1 w2) : w.grownBy w2 r :=
 ⟨hb.os.trans h.os, hb.tape.trans h.tape, hb.output.trans h.output, Nat.le_trans h.size hb.size, fun k hk hr => (hb.block k (Nat.lt_of_lt_of_le hk h.size)).trans (h.block k hk hr)⟩
theorem grown_only {w w1 w2 : World} {b : Nat} (h : w.grownBy w1 (some b)) (on : Only b w1 w2) : w.grownBy w2 (some b) :=
 ⟨on.below.os.trans h.os, on.below.tape.trans h.tape, on.below.output.trans h.output, by rw [on.size]; exact h.size, fun k hk hr => (on.other k (fun e => hr (by rw [e]))).trans (h.block k hk hr)⟩
theorem wpList_store_next {P : Program} {ops : Array Oper} {rest : List Oper} {o : Oper} {a : Act} {w : World} {Q : Exit → Act → World → Prop} (hgd : o.guard = none) (ty : TypeId) (x y : Operand) (ho : o.op = .store ty x y)
  (g off : Nat) (xs base : List Value) (v : Value) (hx : a.eval x = .pointer (some ⟨g, off + xs.length, none⟩)) (hy : a.eval y = v) (hi : (P.info? ty).map (·.size) = some 1) (hv : v.cells = #[v]) (h1 : v.oneCell' = true)
  (t : TypeId) (hg : w.heap[g]? = some (.cells (splice base off xs).toArray t (0, 0))) (hfit : off + xs.length + 1 ≤ base.length)
  (h : ∀ w', Hid (w'.heap[g]? = some (.cells (splice base off (xs ++ [v])).toArray t (0, 0))) → Only g w w' → wpList P ops Q rest (a.put o.dst undef) w') : wpList P ops Q (o :: rest) a w := by
 refine wpList_store_one hgd ty x y ho g (off + xs.length) v hx hy hi hv h1 t _ hg (by simp only [List.size_toArray]; rw [splice_len _ _ _ (by omega)]; exact hfit) fun w' hr on => h w' ?_ on
 have := hr.out
 rw [splice_add _ _ _ _ hfit] at this
 exact this
def markSvc (k : Int) : Svc := ⟨mt (k), k + 1, ((k + 1 + 1) % 3 == 0), k + 1 + 1 + 1, k + 1 + 1 + 1 + 1, k + 1 + 1 + 1 + 1 + 1, k + 1 + 1 + 1 + 1 + 1 + 1, k + 1 + 1 + 1 + 1 + 1 + 1 + 1, k + 1 + 1 + 1 + 1 + 1 + 1 + 1 + 1, k + 1 + 1 + 1 + 1 + 1 + 1 + 1 + 1 + 1, k + 1 + 1 + 1 + 1 + 1 + 1 + 1 + 1 + 1 + 1, k + 1 + 1 + 1 + 1 + 1 + 1 + 1 + 1 + 1 + 1 + 1, k + 1 + 1 + 1 + 1 + 1 + 1 + 1 + 1 + 1 + 1 + 1 + 1⟩
def marksSvc (k : Int) (n : Nat) : List Svc := (List.range n).map fun (i : Nat) => markSvc (k + 13 * i)
def RoomS (w : World) (b len : Nat) : Prop := ∃ cur : Array Value, w.heap[b]? = some (.cells cur 67 (0, 0)) ∧ len * 13 ≤ cur.size
def FillS (w : World) (b : Nat) (l : List Svc) : Prop := ∃ cur : Array Value, w.heap[b]? = some (.cells cur 67 (0, 0)) ∧ FillP Svc.cells 13 l l.length cur.toList
theorem OwnS.room {w : World} {b : Nat} {l : List Svc} (h : OwnS w b l) : RoomS w b l.length := let ⟨cur, h1, h2⟩ := h; ⟨cur, h1, by have := h2.1; rw [Array.length_toList] at this; omega⟩
theorem RoomS.blk {w w' : World} {b n : Nat} (h : RoomS w b n) (hb : w'.heap[b]? = w.heap[b]?) : RoomS w' b n := let ⟨cur, h1, h2⟩ := h; ⟨cur, hb.trans h1, h2⟩
theorem FillS.blk {w w' : World} {b : Nat} {l : List Svc} (h : FillS w b l) (hb : w'.heap[b]? = w.heap[b]?) : FillS w' b l := let ⟨cur, h1, h2⟩ := h; ⟨cur, hb.trans h1, h2⟩
theorem FillS.sl {w : World} {b : Nat} {l : List Svc} (h : FillS w b l) : SlS w (some ⟨b, 0, none⟩) l := fun _ => by
 obtain ⟨cur, h1, h2⟩ := h
 refine ⟨b, 0, rfl, (Array.getElem?_eq_some_iff.1 h1).1, fun i s hs => ?_⟩
 have := h2.2 i s (List.getElem?_eq_some_iff.1 hs).1 hs
 unfold SvcAt
 simp only [cell_row h1, Nat.zero_add]
 exact ⟨this 0 (by omega), this 1 (by omega), this 2 (by omega), this 3 (by omega), this 4 (by omega), this 5 (by omega), this 6 (by omega), this 7 (by omega), this 8 (by omega), this 9 (by omega), this 10 (by omega), this 11 (by omega), this 12 (by omega)⟩
theorem marksSvc_len (k : Int) (n : Nat) : (marksSvc k n).length = n := by simp [marksSvc]
theorem marksSvc_at {k : Int} {n i : Nat} (h : i < n) : (marksSvc k n)[i]? = some (markSvc (k + 13 * i)) := by simp [marksSvc, h]
set_option maxRecDepth 100000 in
set_option maxHeartbeats 8000000 in
theorem markSvcS_any (len : Nat) (b cap : Nat) (k0 : Int) (w : World) (hl : len ≤ 1048576) (h0 : 1 ≤ k0) (h1 : k0 + 13 * len < 100000000) (hO : RoomS w b len) :
  Calls Tryz.prog 52 #[.slice (some ⟨b, 0, none⟩) len cap, .int .i64 k0] w fun e w' => e = .returned (.int .i64 (k0 + 13 * len)) ∧ FillS w' b (marksSvc k0 len) ∧ w.grownBy w' (some b) := by
 obtain ⟨cur0, hc0, hf0⟩ := hO
 have HC0 : Hid _ := hc0
 have hcs0 : len * 13 ≤ cur0.toList.length := by rw [Array.length_toList]; exact hf0
 clear hc0 hf0
 go_enter Tryz.func52, Tryz.ntmps52
 go_wp2
 go_loopw [1, 5] (fun kv iv wr => ∃ (i : Nat) (k : Int) (cur : Array Value), i ≤ len ∧ iv = .int .i64 i ∧ kv = .int .i64 k ∧ Hid (k = k0 + 13 * i) ∧ 1 ≤ k ∧ k ≤ k0 + 13 * i ∧ Hid (wr.heap[b]? = some (.cells cur 67 (0, 0))) ∧ Hid (FillP Svc.cells 13 (marksSvc k0 len) i cur.toList) ∧ w.grownBy wr (some b)) (fun _ i _ => len - (intOf i).toNat)
 case atStart => exact ⟨0, k0, cur0, by omega, rfl, rfl, by unfold Hid; simp, h0, by simp, HC0, ⟨by rw [marksSvc_len]; exact hcs0, fun i s hi => absurd hi (by omega)⟩, grown_refl _ _⟩
 case round =>
  obtain ⟨i, k, cur, hi, rfl, rfl, HK, hk1, hk2, hrow, hfill, hgr⟩ := hrel
  have hbl : b < wr.heap.size := (Array.getElem?_eq_some_iff.1 hrow.out).1
  by_cases hlt : i < len
  ·have hcl : len * 13 ≤ cur.toList.length := by have := hfill.out.1; rwa [marksSvc_len] at this
   have hfit : i * 13 + 13 ≤ cur.toList.length := Nat.le_trans (by rw [← Nat.succ_mul]; exact Nat.mul_le_mul_right 13 hlt) hcl
   clear hcl
   go_wp2_with fail
   refine (markText_any (k) _ (by omega) (by omega)).mono ?_
   rintro e wm0 ⟨rfl, hbm⟩
   have hrs : Hid (wm0.heap[b]? = some (.cells (splice cur.toList (i * 13) []).toArray 67 (0, 0))) := by unfold Hid; rw [splice_nil]; exact (hbm.block b hbl).trans hrow.out
   have hgs := grown_below hgr hbm
   clear hbm
   go_wp2_with (first
    | (refine wpList_store_next rfl 9 (.tmp 17) (.tmp 15) rfl b (i * 13) [] cur.toList _ rfl rfl Tryz.infosString rfl rfl 67 hrs.out (by simp only [List.length_nil]; omega) ?_; intro wx0 hx on; have hr0 : Hid (wx0.heap[b]? = some (.cells (splice cur.toList (i * 13) [.string (mt (k))]).toArray 67 (0, 0))) := hx; have hg0 := grown_only hgs on; clear hx on)
    | (refine wpList_store_next rfl 3 (.tmp 24) (.tmp 22) rfl b (i * 13) [.string (mt (k))] cur.toList _ rfl rfl Tryz.infosInt' rfl rfl 67 hr0.out (by simp only [List.length_cons, List.length_nil]; omega) ?_; intro wx1 hx on; have hr1 : Hid (wx1.heap[b]? = some (.cells (splice cur.toList (i * 13) [.string (mt (k)), .int .i64 (k + 1)]).toArray 67 (0, 0))) := hx; have hg1 := grown_only hg0 on; clear hx on)
    | (refine wpList_store_next rfl 4 (.tmp 33) (.tmp 31) rfl b (i * 13) [.string (mt (k)), .int .i64 (k + 1)] cur.toList _ rfl rfl Tryz.infosBool' rfl rfl 67 hr1.out (by simp only [List.length_cons, List.length_nil]; omega) ?_; intro wx2 hx on; have hr2 : Hid (wx2.heap[b]? = some (.cells (splice cur.toList (i * 13) [.string (mt (k)), .int .i64 (k + 1), .bool ((k + 1 + 1) % 3 == 0)]).toArray 67 (0, 0))) := hx; have hg2 := grown_only hg1 on; clear hx on)
    | (refine wpList_store_next rfl 3 (.tmp 40) (.tmp 38) rfl b (i * 13) [.string (mt (k)), .int .i64 (k + 1), .bool ((k + 1 + 1) % 3 == 0)] cur.toList _ rfl rfl Tryz.infosInt' rfl rfl 67 hr2.out (by simp only [List.length_cons, List.length_nil]; omega) ?_; intro wx3 hx on; have hr3 : Hid (wx3.heap[b]? = some (.cells (splice cur.toList (i * 13) [.string (mt (k)), .int .i64 (k + 1), .bool ((k + 1 + 1) % 3 == 0), .int .i64 (k + 1 + 1 + 1)]).toArray 67 (0, 0))) := hx; have hg3 := grown_only hg2 on; clear hx on)
    | (refine wpList_store_next rfl 3 (.tmp 47) (.tmp 45) rfl b (i * 13) [.string (mt (k)), .int .i64 (k + 1), .bool ((k + 1 + 1) % 3 == 0), .int .i64 (k + 1 + 1 + 1)] cur.toList _ rfl rfl Tryz.infosInt' rfl rfl 67 hr3.out (by simp only [List.length_cons, List.length_nil]; omega) ?_; intro wx4 hx on; have hr4 : Hid (wx4.heap[b]? = some (.cells (splice cur.toList (i * 13) [.string (mt (k)), .int .i64 (k + 1), .bool ((k + 1 + 1) % 3 == 0), .int .i64 (k + 1 + 1 + 1), .int .i64 (k + 1 + 1 + 1 + 1)]).toArray 67 (0, 0))) := hx; have hg4 := grown_only hg3 on; clear hx on)
    | (refine wpList_store_next rfl 3 (.tmp 54) (.tmp 52) rfl b (i * 13) [.string (mt (k)), .int .i64 (k + 1), .bool ((k + 1 + 1) % 3 == 0), .int .i64 (k + 1 + 1 + 1), .int .i64 (k + 1 + 1 + 1 + 1)] cur.toList _ rfl rfl Tryz.infosInt' rfl rfl 67 hr4.out (by simp only [List.length_cons, List.length_nil]; omega) ?_; intro wx5 hx on; have hr5 : Hid (wx5.heap[b]? = some (.cells (splice cur.toList (i * 13) [.string (mt (k)), .int .i64 (k + 1), .bool ((k + 1 + 1) % 3 == 0), .int .i64 (k + 1 + 1 + 1), .int .i64 (k + 1 + 1 + 1 + 1), .int .i64 (k + 1 + 1 + 1 + 1 + 1)]).toArray 67 (0, 0))) := hx; have hg5 := grown_only hg4 on; clear hx on)
    | (refine wpList_store_next rfl 3 (.tmp 61) (.tmp 59) rfl b (i * 13) [.string (mt (k)), .int .i64 (k + 1), .bool ((k + 1 + 1) % 3 == 0), .int .i64 (k + 1 + 1 + 1), .int .i64 (k + 1 + 1 + 1 + 1), .int .i64 (k + 1 + 1 + 1 + 1 + 1)] cur.toList _ rfl rfl Tryz.infosInt' rfl rfl 67 hr5.out (by simp only [List.length_cons, List.length_nil]; omega) ?_; intro wx6 hx on; have hr6 : Hid (wx6.heap[b]? = some (.cells (splice cur.toList (i * 13) [.string (mt (k)), .int .i64 (k + 1), .bool ((k + 1 + 1) % 3 == 0), .int .i64 (k + 1 + 1 + 1), .int .i64 (k + 1 + 1 + 1 + 1), .int .i64 (k + 1 + 1 + 1 + 1 + 1), .int .i64 (k + 1 + 1 + 1 + 1 + 1 + 1)]).toArray 67 (0, 0))) := hx; have hg6 := grown_only hg5 on; clear hx on)
    | (refine wpList_store_next rfl 3 (.tmp 68) (.tmp 66) rfl b (i * 13) [.string (mt (k)), .int .i64 (k + 1), .bool ((k + 1 + 1) % 3 == 0), .int .i64 (k + 1 + 1 + 1), .int .i64 (k + 1 + 1 + 1 + 1), .int .i64 (k + 1 + 1 + 1 + 1 + 1), .int .i64 (k + 1 + 1 + 1 + 1 + 1 + 1)] cur.toList _ rfl rfl Tryz.infosInt' rfl rfl 67 hr6.out (by simp only [List.length_cons, List.length_nil]; omega) ?_; intro wx7 hx on; have hr7 : Hid (wx7.heap[b]? = some (.cells (splice cur.toList (i * 13) [.string (mt (k)), .int .i64 (k + 1), .bool ((k + 1 + 1) % 3 == 0), .int .i64 (k + 1 + 1 + 1), .int .i64 (k + 1 + 1 + 1 + 1), .int .i64 (k + 1 + 1 + 1 + 1 + 1), .int .i64 (k + 1 + 1 + 1 + 1 + 1 + 1), .int .i64 (k + 1 + 1 + 1 + 1 + 1 + 1 + 1)]).toArray 67 (0, 0))) := hx; have hg7 := grown_only hg6 on; clear hx on)
    | (refine wpList_store_next rfl 3 (.tmp 75) (.tmp 73) rfl b (i * 13) [.string (mt (k)), .int .i64 (k + 1), .bool ((k + 1 + 1) % 3 == 0), .int .i64 (k + 1 + 1 + 1), .int .i64 (k + 1 + 1 + 1 + 1), .int .i64 (k + 1 + 1 + 1 + 1 + 1), .int .i64 (k + 1 + 1 + 1 + 1 + 1 + 1), .int .i64 (k + 1 + 1 + 1 + 1 + 1 + 1 + 1)] cur.toList _ rfl rfl Tryz.infosInt' rfl rfl 67 hr7.out (by simp only [List.length_cons, List.length_nil]; omega) ?_; intro wx8 hx on; have hr8 : Hid (wx8.heap[b]? = some (.cells (splice cur.toList (i * 13) [.string (mt (k)), .int .i64 (k + 1), .bool ((k + 1 + 1) % 3 == 0), .int .i64 (k + 1 + 1 + 1), .int .i64 (k + 1 + 1 + 1 + 1), .int .i64 (k + 1 + 1 + 1 + 1 + 1), .int .i64 (k + 1 + 1 + 1 + 1 + 1 + 1), .int .i64 (k + 1 + 1 + 1 + 1 + 1 + 1 + 1), .int .i64 (k + 1 + 1 + 1 + 1 + 1 + 1 + 1 + 1)]).toArray 67 (0, 0))) := hx; have hg8 := grown_only hg7 on; clear hx on)
    | (refine wpList_store_next rfl 3 (.tmp 82) (.tmp 80) rfl b (i * 13) [.string (mt (k)), .int .i64 (k + 1), .bool ((k + 1 + 1) % 3 == 0), .int .i64 (k + 1 + 1 + 1), .int .i64 (k + 1 + 1 + 1 + 1), .int .i64 (k + 1 + 1 + 1 + 1 + 1), .int .i64 (k + 1 + 1 + 1 + 1 + 1 + 1), .int .i64 (k + 1 + 1 + 1 + 1 + 1 + 1 + 1), .int .i64 (k + 1 + 1 + 1 + 1 + 1 + 1 + 1 + 1)] cur.toList _ rfl rfl Tryz.infosInt' rfl rfl 67 hr8.out (by simp only [List.length_cons, List.length_nil]; omega) ?_; intro wx9 hx on; have hr9 : Hid (wx9.heap[b]? = some (.cells (splice cur.toList (i * 13) [.string (mt (k)), .int .i64 (k + 1), .bool ((k + 1 + 1) % 3 == 0), .int .i64 (k + 1 + 1 + 1), .int .i64 (k + 1 + 1 + 1 + 1), .int .i64 (k + 1 + 1 + 1 + 1 + 1), .int .i64 (k + 1 + 1 + 1 + 1 + 1 + 1), .int .i64 (k + 1 + 1 + 1 + 1 + 1 + 1 + 1), .int .i64 (k + 1 + 1 + 1 + 1 + 1 + 1 + 1 + 1), .int .i64 (k + 1 + 1 + 1 + 1 + 1 + 1 + 1 + 1 + 1)]).toArray 67 (0, 0))) := hx; have hg9 := grown_only hg8 on; clear hx on)
    | (refine wpList_store_next rfl 3 (.tmp 89) (.tmp 87) rfl b (i * 13) [.string (mt (k)), .int .i64 (k + 1), .bool ((k + 1 + 1) % 3 == 0), .int .i64 (k + 1 + 1 + 1), .int .i64 (k + 1 + 1 + 1 + 1), .int .i64 (k + 1 + 1 + 1 + 1 + 1), .int .i64 (k + 1 + 1 + 1 + 1 + 1 + 1), .int .i64 (k + 1 + 1 + 1 + 1 + 1 + 1 + 1), .int .i64 (k + 1 + 1 + 1 + 1 + 1 + 1 + 1 + 1), .int .i64 (k + 1 + 1 + 1 + 1 + 1 + 1 + 1 + 1 + 1)] cur.toList _ rfl rfl Tryz.infosInt' rfl rfl 67 hr9.out (by simp only [List.length_cons, List.length_nil]; omega) ?_; intro wx10 hx on; have hr10 : Hid (wx10.heap[b]? = some (.cells (splice cur.toList (i * 13) [.string (mt (k)), .int .i64 (k + 1), .bool ((k + 1 + 1) % 3 == 0), .int .i64 (k + 1 + 1 + 1), .int .i64 (k + 1 + 1 + 1 + 1), .int .i64 (k + 1 + 1 + 1 + 1 + 1), .int .i64 (k + 1 + 1 + 1 + 1 + 1 + 1), .int .i64 (k + 1 + 1 + 1 + 1 + 1 + 1 + 1), .int .i64 (k + 1 + 1 + 1 + 1 + 1 + 1 + 1 + 1), .int .i64 (k + 1 + 1 + 1 + 1 + 1 + 1 + 1 + 1 + 1), .int .i64 (k + 1 + 1 + 1 + 1 + 1 + 1 + 1 + 1 + 1 + 1)]).toArray 67 (0, 0))) := hx; have hg10 := grown_only hg9 on; clear hx on)
    | (refine wpList_store_next rfl 3 (.tmp 96) (.tmp 94) rfl b (i * 13) [.string (mt (k)), .int .i64 (k + 1), .bool ((k + 1 + 1) % 3 == 0), .int .i64 (k + 1 + 1 + 1), .int .i64 (k + 1 + 1 + 1 + 1), .int .i64 (k + 1 + 1 + 1 + 1 + 1), .int .i64 (k + 1 + 1 + 1 + 1 + 1 + 1), .int .i64 (k + 1 + 1 + 1 + 1 + 1 + 1 + 1), .int .i64 (k + 1 + 1 + 1 + 1 + 1 + 1 + 1 + 1), .int .i64 (k + 1 + 1 + 1 + 1 + 1 + 1 + 1 + 1 + 1), .int .i64 (k + 1 + 1 + 1 + 1 + 1 + 1 + 1 + 1 + 1 + 1)] cur.toList _ rfl rfl Tryz.infosInt' rfl rfl 67 hr10.out (by simp only [List.length_cons, List.length_nil]; omega) ?_; intro wx11 hx on; have hr11 : Hid (wx11.heap[b]? = some (.cells (splice cur.toList (i * 13) [.string (mt (k)), .int .i64 (k + 1), .bool ((k + 1 + 1) % 3 == 0), .int .i64 (k + 1 + 1 + 1), .int .i64 (k + 1 + 1 + 1 + 1), .int .i64 (k + 1 + 1 + 1 + 1 + 1), .int .i64 (k + 1 + 1 + 1 + 1 + 1 + 1), .int .i64 (k + 1 + 1 + 1 + 1 + 1 + 1 + 1), .int .i64 (k + 1 + 1 + 1 + 1 + 1 + 1 + 1 + 1), .int .i64 (k + 1 + 1 + 1 + 1 + 1 + 1 + 1 + 1 + 1), .int .i64 (k + 1 + 1 + 1 + 1 + 1 + 1 + 1 + 1 + 1 + 1), .int .i64 (k + 1 + 1 + 1 + 1 + 1 + 1 + 1 + 1 + 1 + 1 + 1)]).toArray 67 (0, 0))) := hx; have hg11 := grown_only hg10 on; clear hx on)
    | (refine wpList_store_next rfl 3 (.tmp 103) (.tmp 101) rfl b (i * 13) [.string (mt (k)), .int .i64 (k + 1), .bool ((k + 1 + 1) % 3 == 0), .int .i64 (k + 1 + 1 + 1), .int .i64 (k + 1 + 1 + 1 + 1), .int .i64 (k + 1 + 1 + 1 + 1 + 1), .int .i64 (k + 1 + 1 + 1 + 1 + 1 + 1), .int .i64 (k + 1 + 1 + 1 + 1 + 1 + 1 + 1), .int .i64 (k + 1 + 1 + 1 + 1 + 1 + 1 + 1 + 1), .int .i64 (k + 1 + 1 + 1 + 1 + 1 + 1 + 1 + 1 + 1), .int .i64 (k + 1 + 1 + 1 + 1 + 1 + 1 + 1 + 1 + 1 + 1), .int .i64 (k + 1 + 1 + 1 + 1 + 1 + 1 + 1 + 1 + 1 + 1 + 1)] cur.toList _ rfl rfl Tryz.infosInt' rfl rfl 67 hr11.out (by simp only [List.length_cons, List.length_nil]; omega) ?_; intro wx12 hx on; have hr12 : Hid (wx12.heap[b]? = some (.cells (splice cur.toList (i * 13) [.string (mt (k)), .int .i64 (k + 1), .bool ((k + 1 + 1) % 3 == 0), .int .i64 (k + 1 + 1 + 1), .int .i64 (k + 1 + 1 + 1 + 1), .int .i64 (k + 1 + 1 + 1 + 1 + 1), .int .i64 (k + 1 + 1 + 1 + 1 + 1 + 1), .int .i64 (k + 1 + 1 + 1 + 1 + 1 + 1 + 1), .int .i64 (k + 1 + 1 + 1 + 1 + 1 + 1 + 1 + 1), .int .i64 (k + 1 + 1 + 1 + 1 + 1 + 1 + 1 + 1 + 1), .int .i64 (k + 1 + 1 + 1 + 1 + 1 + 1 + 1 + 1 + 1 + 1), .int .i64 (k + 1 + 1 + 1 + 1 + 1 + 1 + 1 + 1 + 1 + 1 + 1), .int .i64 (k + 1 + 1 + 1 + 1 + 1 + 1 + 1 + 1 + 1 + 1 + 1 + 1)]).toArray 67 (0, 0))) := hx; have hg12 := grown_only hg11 on; clear hx on))
   have HS : Hid _ := hfill.out.step (marksSvc_at hlt) rfl
   rw [← HK.out] at HS
   go_roundw
   case rel => exact ⟨i + 1, k + 1 + 1 + 1 + 1 + 1 + 1 + 1 + 1 + 1 + 1 + 1 + 1 + 1, _, by omega, by go_num, rfl, by unfold Hid; rw [HK.out]; push_cast; omega, by omega, by push_cast; omega, hr12, HS, hg12⟩
   case measure => simp [intOf]; omega
  ·go_wp2
   go_ret
   have hil : i = len := by omega
   subst hil
   have hkk := HK.out
   subst hkk
   refine ⟨rfl, ⟨cur, hrow.out, ?_⟩, hgr⟩
   have := hfill.out
   rw [marksSvc_len]
   exact this
def markCp (k : Int) : Cp := ⟨mt (k), k + 1, k + 1 + 1, k + 1 + 1 + 1, k + 1 + 1 + 1 + 1, ((k + 1 + 1 + 1 + 1 + 1) % 3 == 0), mt (k + 1 + 1 + 1 + 1 + 1 + 1)⟩
def marksCp (k : Int) (n : Nat) : List Cp := (List.range n).map fun (i : Nat) => markCp (k + 7 * i)
def RoomC (w : World) (b len : Nat) : Prop := ∃ cur : Array Value, w.heap[b]? = some (.cells cur 149 (0, 0)) ∧ len * 7 ≤ cur.size
def FillC (w : World) (b : Nat) (l : List Cp) : Prop := ∃ cur : Array Value, w.heap[b]? = some (.cells cur 149 (0, 0)) ∧ FillP Cp.cells 7 l l.length cur.toList
theorem OwnC.room {w : World} {b : Nat} {l : List Cp} (h : OwnC w b l) : RoomC w b l.length := let ⟨cur, h1, h2⟩ := h; ⟨cur, h1, by have := h2.1; rw [Array.length_toList] at this; omega⟩
theorem RoomC.blk {w w' : World} {b n : Nat} (h : RoomC w b n) (hb : w'.heap[b]? = w.heap[b]?) : RoomC w' b n := let ⟨cur, h1, h2⟩ := h; ⟨cur, hb.trans h1, h2⟩
theorem FillC.blk {w w' : World} {b : Nat} {l : List Cp} (h : FillC w b l) (hb : w'.heap[b]? = w.heap[b]?) : FillC w' b l := let ⟨cur, h1, h2⟩ := h; ⟨cur, hb.trans h1, h2⟩
theorem FillC.sl {w : World} {b : Nat} {l : List Cp} (h : FillC w b l) : SlC w (some ⟨b, 0, none⟩) l := fun _ => by
 obtain ⟨cur, h1, h2⟩ := h
 refine ⟨b, 0, rfl, (Array.getElem?_eq_some_iff.1 h1).1, fun i s hs => ?_⟩
 have := h2.2 i s (List.getElem?_eq_some_iff.1 hs).1 hs
 unfold CpAt
 simp only [cell_row h1, Nat.zero_add]
 exact ⟨this 0 (by omega), this 1 (by omega), this 2 (by omega), this 3 (by omega), this 4 (by omega), this 5 (by omega), this 6 (by omega)⟩
theorem marksCp_len (k : Int) (n : Nat) : (marksCp k n).length = n := by simp [marksCp]
theorem marksCp_at {k : Int} {n i : Nat} (h : i < n) : (marksCp k n)[i]? = some (markCp (k + 7 * i)) := by simp [marksCp, h]
set_option maxRecDepth 100000 in
set_option maxHeartbeats 8000000 in
theorem markCpS_any (len : Nat) (b cap : Nat) (k0 : Int) (w : World) (hl : len ≤ 1048576) (h0 : 1 ≤ k0) (h1 : k0 + 7 * len < 100000000) (hO : RoomC w b len) :
  Calls Tryz.prog 53 #[.slice (some ⟨b, 0, none⟩) len cap, .int .i64 k0] w fun e w' => e = .returned (.int .i64 (k0 + 7 * len)) ∧ FillC w' b (marksCp k0 len) ∧ w.grownBy w' (some b) := by
 obtain ⟨cur0, hc0, hf0⟩ := hO
 have HC0 : Hid _ := hc0
 have hcs0 : len * 7 ≤ cur0.toList.length := by rw [Array.length_toList]; exact hf0
 clear hc0 hf0
 go_enter Tryz.func53, Tryz.ntmps53
 go_wp2
 go_loopw [1, 5] (fun kv iv wr => ∃ (i : Nat) (k : Int) (cur : Array Value), i ≤ len ∧ iv = .int .i64 i ∧ kv = .int .i64 k ∧ Hid (k = k0 + 7 * i) ∧ 1 ≤ k ∧ k ≤ k0 + 7 * i ∧ Hid (wr.heap[b]? = some (.cells cur 149 (0, 0))) ∧ Hid (FillP Cp.cells 7 (marksCp k0 len) i cur.toList) ∧ w.grownBy wr (some b)) (fun _ i _ => len - (intOf i).toNat)
 case atStart => exact ⟨0, k0, cur0, by omega, rfl, rfl, by unfold Hid; simp, h0, by simp, HC0, ⟨by rw [marksCp_len]; exact hcs0, fun i s hi => absurd hi (by omega)⟩, grown_refl _ _⟩
 case round =>
  obtain ⟨i, k, cur, hi, rfl, rfl, HK, hk1, hk2, hrow, hfill, hgr⟩ := hrel
  have hbl : b < wr.heap.size := (Array.getElem?_eq_some_iff.1 hrow.out).1
  by_cases hlt : i < len
  ·have hcl : len * 7 ≤ cur.toList.length := by have := hfill.out.1; rwa [marksCp_len] at this
   have hfit : i * 7 + 7 ≤ cur.toList.length := Nat.le_trans (by rw [← Nat.succ_mul]; exact Nat.mul_le_mul_right 7 hlt) hcl
   clear hcl
   go_wp2_with fail
   refine (markText_any (k) _ (by omega) (by omega)).mono ?_
   rintro e wm0 ⟨rfl, hbm⟩
   have hrs : Hid (wm0.heap[b]? = some (.cells (splice cur.toList (i * 7) []).toArray 149 (0, 0))) := by unfold Hid; rw [splice_nil]; exact (hbm.block b hbl).trans hrow.out
   have hgs := grown_below hgr hbm
   clear hbm
   go_wp2_with (first
    | (refine wpList_store_next rfl 9 (.tmp 17) (.tmp 15) rfl b (i * 7) [] cur.toList _ rfl rfl Tryz.infosString rfl rfl 149 hrs.out (by simp only [List.length_nil]; omega) ?_; intro wx0 hx on; have hr0 : Hid (wx0.heap[b]? = some (.cells (splice cur.toList (i * 7) [.string (mt (k))]).toArray 149 (0, 0))) := hx; have hg0 := grown_only hgs on; clear hx on)
    | (refine wpList_store_next rfl 3 (.tmp 24) (.tmp 22) rfl b (i * 7) [.string (mt (k))] cur.toList _ rfl rfl Tryz.infosInt' rfl rfl 149 hr0.out (by simp only [List.length_cons, List.length_nil]; omega) ?_; intro wx1 hx on; have hr1 : Hid (wx1.heap[b]? = some (.cells (splice cur.toList (i * 7) [.string (mt (k)), .int .i64 (k + 1)]).toArray 149 (0, 0))) := hx; have hg1 := grown_only hg0 on; clear hx on)
    | (refine wpList_store_next rfl 3 (.tmp 31) (.tmp 29) rfl b (i * 7) [.string (mt (k)), .int .i64 (k + 1)] cur.toList _ rfl rfl Tryz.infosInt' rfl rfl 149 hr1.out (by simp only [List.length_cons, List.length_nil]; omega) ?_; intro wx2 hx on; have hr2 : Hid (wx2.heap[b]? = some (.cells (splice cur.toList (i * 7) [.string (mt (k)), .int .i64 (k + 1), .int .i64 (k + 1 + 1)]).toArray 149 (0, 0))) := hx; have hg2 := grown_only hg1 on; clear hx on)
    | (refine wpList_store_next rfl 3 (.tmp 38) (.tmp 36) rfl b (i * 7) [.string (mt (k)), .int .i64 (k + 1), .int .i64 (k + 1 + 1)] cur.toList _ rfl rfl Tryz.infosInt' rfl rfl 149 hr2.out (by simp only [List.length_cons, List.length_nil]; omega) ?_; intro wx3 hx on; have hr3 : Hid (wx3.heap[b]? = some (.cells (splice cur.toList (i * 7) [.string (mt (k)), .int .i64 (k + 1), .int .i64 (k + 1 + 1), .int .i64 (k + 1 + 1 + 1)]).toArray 149 (0, 0))) := hx; have hg3 := grown_only hg2 on; clear hx on)
    | (refine wpList_store_next rfl 3 (.tmp 45) (.tmp 43) rfl b (i * 7) [.string (mt (k)), .int .i64 (k + 1), .int .i64 (k + 1 + 1), .int .i64 (k + 1 + 1 + 1)] cur.toList _ rfl rfl Tryz.infosInt' rfl rfl 149 hr3.out (by simp only [List.length_cons, List.length_nil]; omega) ?_; intro wx4 hx on; have hr4 : Hid (wx4.heap[b]? = some (.cells (splice cur.toList (i * 7) [.string (mt (k)), .int .i64 (k + 1), .int .i64 (k + 1 + 1), .int .i64 (k + 1 + 1 + 1), .int .i64 (k + 1 + 1 + 1 + 1)]).toArray 149 (0, 0))) := hx; have hg4 := grown_only hg3 on; clear hx on)
    | (refine wpList_store_next rfl 4 (.tmp 54) (.tmp 52) rfl b (i * 7) [.string (mt (k)), .int .i64 (k + 1), .int .i64 (k + 1 + 1), .int .i64 (k + 1 + 1 + 1), .int .i64 (k + 1 + 1 + 1 + 1)] cur.toList _ rfl rfl Tryz.infosBool' rfl rfl 149 hr4.out (by simp only [List.length_cons, List.length_nil]; omega) ?_; intro wx5 hx on; have hr5 : Hid (wx5.heap[b]? = some (.cells (splice cur.toList (i * 7) [.string (mt (k)), .int .i64 (k + 1), .int .i64 (k + 1 + 1), .int .i64 (k + 1 + 1 + 1), .int .i64 (k + 1 + 1 + 1 + 1), .bool ((k + 1 + 1 + 1 + 1 + 1) % 3 == 0)]).toArray 149 (0, 0))) := hx; have hg5 := grown_only hg4 on; clear hx on))
   refine (markText_any (k + 1 + 1 + 1 + 1 + 1 + 1) _ (by omega) (by omega)).mono ?_
   rintro e wm1 ⟨rfl, hbm⟩
   have hq5 : Hid (wm1.heap[b]? = some (.cells (splice cur.toList (i * 7) [.string (mt (k)), .int .i64 (k + 1), .int .i64 (k + 1 + 1), .int .i64 (k + 1 + 1 + 1), .int .i64 (k + 1 + 1 + 1 + 1), .bool ((k + 1 + 1 + 1 + 1 + 1) % 3 == 0)]).toArray 149 (0, 0))) := (hbm.block b (Array.getElem?_eq_some_iff.1 hr5.out).1).trans hr5.out
   have hh5 := grown_below hg5 hbm
   clear hbm
   go_wp2_with (first
    | (refine wpList_store_next rfl 9 (.tmp 62) (.tmp 60) rfl b (i * 7) [.string (mt (k)), .int .i64 (k + 1), .int .i64 (k + 1 + 1), .int .i64 (k + 1 + 1 + 1), .int .i64 (k + 1 + 1 + 1 + 1), .bool ((k + 1 + 1 + 1 + 1 + 1) % 3 == 0)] cur.toList _ rfl rfl Tryz.infosString rfl rfl 149 hq5.out (by simp only [List.length_cons, List.length_nil]; omega) ?_; intro wx6 hx on; have hr6 : Hid (wx6.heap[b]? = some (.cells (splice cur.toList (i * 7) [.string (mt (k)), .int .i64 (k + 1), .int .i64 (k + 1 + 1), .int .i64 (k + 1 + 1 + 1), .int .i64 (k + 1 + 1 + 1 + 1), .bool ((k + 1 + 1 + 1 + 1 + 1) % 3 == 0), .string (mt (k + 1 + 1 + 1 + 1 + 1 + 1))]).toArray 149 (0, 0))) := hx; have hg6 := grown_only hh5 on; clear hx on))
   have HS : Hid _ := hfill.out.step (marksCp_at hlt) rfl
   rw [← HK.out] at HS
   go_roundw
   case rel => exact ⟨i + 1, k + 1 + 1 + 1 + 1 + 1 + 1 + 1, _, by omega, by go_num, rfl, by unfold Hid; rw [HK.out]; push_cast; omega, by omega, by push_cast; omega, hr6, HS, hg6⟩
   case measure => simp [intOf]; omega
  ·go_wp2
   go_ret
   have hil : i = len := by omega
   subst hil
   have hkk := HK.out
   subst hkk
   refine ⟨rfl, ⟨cur, hrow.out, ?_⟩, hgr⟩
   have := hfill.out
   rw [marksCp_len]
   exact this
def markBt (k : Int) : Bt := ⟨mt (k), ((k + 1) % 3 == 0)⟩
def marksBt (k : Int) (n : Nat) : List Bt := (List.range n).map fun (i : Nat) => markBt (k + 2 * i)
def RoomB (w : World) (b len : Nat) : Prop := ∃ cur : Array Value, w.heap[b]? = some (.cells cur 147 (0, 0)) ∧ len * 2 ≤ cur.size
def FillB (w : World) (b : Nat) (l : List Bt) : Prop := ∃ cur : Array Value, w.heap[b]? = some (.cells cur 147 (0, 0)) ∧ FillP Bt.cells 2 l l.length cur.toList
theorem OwnB.room {w : World} {b : Nat} {l : List Bt} (h : OwnB w b l) : RoomB w b l.length := let ⟨cur, h1, h2⟩ := h; ⟨cur, h1, by have := h2.1; rw [Array.length_toList] at this; omega⟩
theorem RoomB.blk {w w' : World} {b n : Nat} (h : RoomB w b n) (hb : w'.heap[b]? = w.heap[b]?) : RoomB w' b n := let ⟨cur, h1, h2⟩ := h; ⟨cur, hb.trans h1, h2⟩
theorem FillB.sl {w : World} {b : Nat} {l : List Bt} (h : FillB w b l) : SlB w (some ⟨b, 0, none⟩) l := fun _ => by
 obtain ⟨cur, h1, h2⟩ := h
 refine ⟨b, 0, rfl, (Array.getElem?_eq_some_iff.1 h1).1, fun i s hs => ?_⟩
 have := h2.2 i s (List.getElem?_eq_some_iff.1 hs).1 hs
 unfold BtAt
 simp only [cell_row h1, Nat.zero_add]
 exact ⟨this 0 (by omega), this 1 (by omega)⟩
theorem marksBt_len (k : Int) (n : Nat) : (marksBt k n).length = n := by simp [marksBt]
theorem marksBt_at {k : Int} {n i : Nat} (h : i < n) : (marksBt k n)[i]? = some (markBt (k + 2 * i)) := by simp [marksBt, h]
set_option maxRecDepth 100000 in
set_option maxHeartbeats 8000000 in
theorem markBtS_any (len : Nat) (b cap : Nat) (k0 : Int) (w : World) (hl : len ≤ 1048576) (h0 : 1 ≤ k0) (h1 : k0 + 2 * len < 100000000) (hO : RoomB w b len) :
  Calls Tryz.prog 54 #[.slice (some ⟨b, 0, none⟩) len cap, .int .i64 k0] w fun e w' => e = .returned (.int .i64 (k0 + 2 * len)) ∧ FillB w' b (marksBt k0 len) ∧ w.grownBy w' (some b) := by
 obtain ⟨cur0, hc0, hf0⟩ := hO
 have HC0 : Hid _ := hc0
 have hcs0 : len * 2 ≤ cur0.toList.length := by rw [Array.length_toList]; exact hf0
 clear hc0 hf0
 go_enter Tryz.func54, Tryz.ntmps54
 go_wp2
 go_loopw [1, 5] (fun kv iv wr => ∃ (i : Nat) (k : Int) (cur : Array Value), i ≤ len ∧ iv = .int .i64 i ∧ kv = .int .i64 k ∧ Hid (k = k0 + 2 * i) ∧ 1 ≤ k ∧ k ≤ k0 + 2 * i ∧ Hid (wr.heap[b]? = some (.cells cur 147 (0, 0))) ∧ Hid (FillP Bt.cells 2 (marksBt k0 len) i cur.toList) ∧ w.grownBy wr (some b)) (fun _ i _ => len - (intOf i).toNat)
 case atStart => exact ⟨0, k0, cur0, by omega, rfl, rfl, by unfold Hid; simp, h0, by simp, HC0, ⟨by rw [marksBt_len]; exact hcs0, fun i s hi => absurd hi (by omega)⟩, grown_refl _ _⟩
 case round =>
  obtain ⟨i, k, cur, hi, rfl, rfl, HK, hk1, hk2, hrow, hfill, hgr⟩ := hrel
  have hbl : b < wr.heap.size := (Array.getElem?_eq_some_iff.1 hrow.out).1
  by_cases hlt : i < len
  ·have hcl : len * 2 ≤ cur.toList.length := by have := hfill.out.1; rwa [marksBt_len] at this
   have hfit : i * 2 + 2 ≤ cur.toList.length := Nat.le_trans (by rw [← Nat.succ_mul]; exact Nat.mul_le_mul_right 2 hlt) hcl
   clear hcl
   go_wp2_with fail
   refine (markText_any (k) _ (by omega) (by omega)).mono ?_
   rintro e wm0 ⟨rfl, hbm⟩
   have hrs : Hid (wm0.heap[b]? = some (.cells (splice cur.toList (i * 2) []).toArray 147 (0, 0))) := by unfold Hid; rw [splice_nil]; exact (hbm.block b hbl).trans hrow.out
   have hgs := grown_below hgr hbm
   clear hbm
   go_wp2_with (first
    | (refine wpList_store_next rfl 9 (.tmp 17) (.tmp 15) rfl b (i * 2) [] cur.toList _ rfl rfl Tryz.infosString rfl rfl 147 hrs.out (by simp only [List.length_nil]; omega) ?_; intro wx0 hx on; have hr0 : Hid (wx0.heap[b]? = some (.cells (splice cur.toList (i * 2) [.string (mt (k))]).toArray 147 (0, 0))) := hx; have hg0 := grown_only hgs on; clear hx on)
    | (refine wpList_store_next rfl 4 (.tmp 26) (.tmp 24) rfl b (i * 2) [.string (mt (k))] cur.toList _ rfl rfl Tryz.infosBool' rfl rfl 147 hr0.out (by simp only [List.length_cons, List.length_nil]; omega) ?_; intro wx1 hx on; have hr1 : Hid (wx1.heap[b]? = some (.cells (splice cur.toList (i * 2) [.string (mt (k)), .bool ((k + 1) % 3 == 0)]).toArray 147 (0, 0))) := hx; have hg1 := grown_only hg0 on; clear hx on))
   have HS : Hid _ := hfill.out.step (marksBt_at hlt) rfl
   rw [← HK.out] at HS
   go_roundw
   case rel => exact ⟨i + 1, k + 1 + 1, _, by omega, by go_num, rfl, by unfold Hid; rw [HK.out]; push_cast; omega, by omega, by push_cast; omega, hr1, HS, hg1⟩
   case measure => simp [intOf]; omega
  ·go_wp2
   go_ret
   have hil : i = len := by omega
   subst hil
   have hkk := HK.out
   subst hkk
   refine ⟨rfl, ⟨cur, hrow.out, ?_⟩, hgr⟩
   have := hfill.out
   rw [marksBt_len]
   exact this
def markEn (k : Int) : En := ⟨k, k + 1⟩
def marksEn (k : Int) (n : Nat) : List En := (List.range n).map fun (i : Nat) => markEn (k + 2 * i)
def RoomE (w : World) (b len : Nat) : Prop := ∃ cur : Array Value, w.heap[b]? = some (.cells cur 155 (0, 0)) ∧ len * 2 ≤ cur.size
def FillE (w : World) (b : Nat) (l : List En) : Prop := ∃ cur : Array Value, w.heap[b]? = some (.cells cur 155 (0, 0)) ∧ FillP En.cells 2 l l.length cur.toList
theorem OwnE.room {w : World} {b : Nat} {l : List En} (h : OwnE w b l) : RoomE w b l.length := let ⟨cur, h1, h2⟩ := h; ⟨cur, h1, by have := h2.1; rw [Array.length_toList] at this; omega⟩
theorem marksEn_len (k : Int) (n : Nat) : (marksEn k n).length = n := by simp [marksEn]
theorem marksEn_at {k : Int} {n i : Nat} (h : i < n) : (marksEn k n)[i]? = some (markEn (k + 2 * i)) := by simp [marksEn, h]
set_option maxRecDepth 100000 in
set_option maxHeartbeats 8000000 in
theorem markEnS_any (len : Nat) (b cap : Nat) (k0 : Int) (w : World) (hl : len ≤ 1048576) (h0 : 1 ≤ k0) (h1 : k0 + 2 * len < 100000000) (hO : RoomE w b len) :
  Calls Tryz.prog 55 #[.slice (some ⟨b, 0, none⟩) len cap, .int .i64 k0] w fun e w' => e = .returned (.int .i64 (k0 + 2 * len)) ∧ FillE w' b (marksEn k0 len) ∧ w.grownBy w' (some b) := by
 obtain ⟨cur0, hc0, hf0⟩ := hO
 have HC0 : Hid _ := hc0
 have hcs0 : len * 2 ≤ cur0.toList.length := by rw [Array.length_toList]; exact hf0
 clear hc0 hf0
 go_enter Tryz.func55, Tryz.ntmps55
 go_wp2
 go_loopw [1, 5] (fun kv iv wr => ∃ (i : Nat) (k : Int) (cur : Array Value), i ≤ len ∧ iv = .int .i64 i ∧ kv = .int .i64 k ∧ Hid (k = k0 + 2 * i) ∧ 1 ≤ k ∧ k ≤ k0 + 2 * i ∧ Hid (wr.heap[b]? = some (.cells cur 155 (0, 0))) ∧ Hid (FillP En.cells 2 (marksEn k0 len) i cur.toList) ∧ w.grownBy wr (some b)) (fun _ i _ => len - (intOf i).toNat)
 case atStart => exact ⟨0, k0, cur0, by omega, rfl, rfl, by unfold Hid; simp, h0, by simp, HC0, ⟨by rw [marksEn_len]; exact hcs0, fun i s hi => absurd hi (by omega)⟩, grown_refl _ _⟩
 case round =>
  obtain ⟨i, k, cur, hi, rfl, rfl, HK, hk1, hk2, hrow, hfill, hgr⟩ := hrel
  have hbl : b < wr.heap.size := (Array.getElem?_eq_some_iff.1 hrow.out).1
  by_cases hlt : i < len
  ·have hcl : len * 2 ≤ cur.toList.length := by have := hfill.out.1; rwa [marksEn_len] at this
   have hfit : i * 2 + 2 ≤ cur.toList.length := Nat.le_trans (by rw [← Nat.succ_mul]; exact Nat.mul_le_mul_right 2 hlt) hcl
   clear hcl
   have hrs : Hid (wr.heap[b]? = some (.cells (splice cur.toList (i * 2) []).toArray 155 (0, 0))) := by unfold Hid; rw [splice_nil]; exact hrow.out
   have hgs := hgr
   go_wp2_with (first
    | (refine wpList_store_next rfl 3 (.tmp 16) (.tmp 14) rfl b (i * 2) [] cur.toList _ rfl rfl Tryz.infosInt' rfl rfl 155 hrs.out (by simp only [List.length_nil]; omega) ?_; intro wx0 hx on; have hr0 : Hid (wx0.heap[b]? = some (.cells (splice cur.toList (i * 2) [.int .i64 (k)]).toArray 155 (0, 0))) := hx; have hg0 := grown_only hgs on; clear hx on)
    | (refine wpList_store_next rfl 3 (.tmp 23) (.tmp 21) rfl b (i * 2) [.int .i64 (k)] cur.toList _ rfl rfl Tryz.infosInt' rfl rfl 155 hr0.out (by simp only [List.length_cons, List.length_nil]; omega) ?_; intro wx1 hx on; have hr1 : Hid (wx1.heap[b]? = some (.cells (splice cur.toList (i * 2) [.int .i64 (k), .int .i64 (k + 1)]).toArray 155 (0, 0))) := hx; have hg1 := grown_only hg0 on; clear hx on))
   have HS : Hid _ := hfill.out.step (marksEn_at hlt) rfl
   rw [← HK.out] at HS
   go_roundw
   case rel => exact ⟨i + 1, k + 1 + 1, _, by omega, by go_num, rfl, by unfold Hid; rw [HK.out]; push_cast; omega, by omega, by push_cast; omega, hr1, HS, hg1⟩
   case measure => simp [intOf]; omega
  ·go_wp2
   go_ret
   have hil : i = len := by omega
   subst hil
   have hkk := HK.out
   subst hkk
   refine ⟨rfl, ⟨cur, hrow.out, ?_⟩, hgr⟩
   have := hfill.out
   rw [marksEn_len]
   exact this
end Go.Proofs.YtbceafpodamnfabGreatDoor
