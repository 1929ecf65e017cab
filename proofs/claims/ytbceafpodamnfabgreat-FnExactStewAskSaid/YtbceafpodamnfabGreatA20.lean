/-
  My own: Nb, Nc, Nd, Ne.
-/
import Derived.Test.YtbceafpodamnfabGreatA19
import Derived.Test.YtbceafpodamnfabGreatA08
import Derived.Test.YtbceafpodamnfabGreatA07
set_option linter.unusedVariables false
set_option linter.unusedSimpArgs false
/-
  My own. Marks: rows of acts written anew.
-/
namespace Go.Proofs.YtbceafpodamnfabGreat
open Go.RowKit Go.Sort

def markA (k : Int) (r : ActR) : ActR := (⟨mt k, k + 1, k + 1 + 1, k + 1 + 1 + 1, k + 1 + 1 + 1 + 1, ((k + 1 + 1 + 1 + 1 + 1) % 3 == 0), marksEn (k + 1 + 1 + 1 + 1 + 1 + 1) r.1.ends.length, ((k + 1 + 1 + 1 + 1 + 1 + 1 + 2 * r.1.ends.length) % 3 == 0)⟩, r.2.1, r.2.2)
theorem actCells_mark (k : Int) (r : ActR) : actCells (markA k r) = [.string (mt (k)), .int .i64 (k + 1), .int .i64 (k + 1 + 1), .int .i64 (k + 1 + 1 + 1), .int .i64 (k + 1 + 1 + 1 + 1), .bool ((k + 1 + 1 + 1 + 1 + 1) % 3 == 0), .slice r.2.1 r.1.ends.length r.2.2, .bool ((k + 1 + 1 + 1 + 1 + 1 + 1 + 2 * r.1.ends.length) % 3 == 0)] := by
  unfold actCells markA
  simp only [marksEn_len]
def kTo (k0 : Int) (R : List ActR) (i : Nat) : Int := (R.take i).foldl (fun k r => k + 7 + 2 * r.1.ends.length) k0
theorem kTo_step {k0 : Int} {R : List ActR} {i : Nat} {r : ActR} (h : R[i]? = some r) : kTo k0 R (i + 1) = kTo k0 R i + 7 + 2 * r.1.ends.length := by
  unfold kTo
  rw [List.take_add_one, h]
  simp
def markL (k0 : Int) (R : List ActR) : List ActR := (List.range R.length).map fun i => match R[i]? with
  | some r => markA (kTo k0 R i) r
  | none => markA 0 (⟨⟨#[]⟩, 0, 0, 0, 0, false, [], false⟩, none, 0)
theorem markL_len (k0 : Int) (R : List ActR) : (markL k0 R).length = R.length := by simp [markL]
theorem markL_at {k0 : Int} {R : List ActR} {i : Nat} {r : ActR} (h : R[i]? = some r) : (markL k0 R)[i]? = some (markA (kTo k0 R i) r) := by
  have hi := (List.getElem?_eq_some_iff.1 h).1
  unfold markL
  rw [List.getElem?_map, List.getElem?_range hi]
  simp [h]

theorem splice_ge (l : List Value) (o : Nat) (xs : List Value) (q : Nat) (h : o + xs.length ≤ q) (ho : o ≤ l.length) : (splice l o xs)[q]? = l[q]? := by
  have e : splice l o xs = (l.take o ++ xs) ++ l.drop (o + xs.length) := by unfold splice; rw [List.append_assoc]
  have hA : (l.take o ++ xs).length = o + xs.length := by rw [List.length_append, List.length_take]; omega
  rw [e, List.getElem?_append_right (by omega), List.getElem?_drop, hA]
  congr 1
  omega
theorem splice_same (l : List Value) (o : Nat) (xs : List Value) (v : Value) (hl : l[o + xs.length]? = some v) : splice l o (xs ++ [v]) = splice l o xs := by
  have hlt := (List.getElem?_eq_some_iff.1 hl).1
  unfold splice
  rw [List.length_append, List.append_assoc]
  have : [v] ++ l.drop (o + (xs.length + [v].length)) = l.drop (o + xs.length) := by
    rw [List.drop_eq_getElem_cons hlt, (List.getElem?_eq_some_iff.1 hl).2]
    rfl
  rw [this]
theorem row_cell {w : World} {b : Nat} {l : List Value} {t : TypeId} {q : Nat} {v : Value} (h : w.heap[b]? = some (.cells l.toArray t (0, 0))) (hv : l[q]? = some v) : w.cell? ⟨b, q, none⟩ = some v := by
  rw [cell_row h]
  simpa using hv

/-- Since w just blocks from lo on have turned. -/
theorem below_then {lo g : Nat} {w w1 w2 : World} (h : Below lo w w1) (on : Only g w1 w2) (hg : lo ≤ g) : Below lo w w2 := h.trans (on.below.mono hg)
theorem below_grown {lo g : Nat} {w w1 w2 : World} (h : Below lo w w1) (hs : lo ≤ w1.heap.size) (hr : w1.grownBy w2 (some g)) (hg : lo ≤ g) : Below lo w w2 :=
  h.trans ⟨hr.os, hr.tape, hr.output, hr.size, fun k hk => hr.block k (by omega) (fun e => by have := Option.some.inj e; omega)⟩

/-- Acts in a row of their own, each with its ends in a row of its own, all from block lo on. -/
structure OwnA (lo : Nat) (w : World) (g : Nat) (R : List ActR) : Prop where
  low : lo ≤ g
  row : ∃ cur : Array Value, w.heap[g]? = some (.cells cur 59 (0, 0)) ∧ FillP actCells 8 R R.length cur.toList
  ends : ∀ (j : Nat) r, R[j]? = some r → r.1.ends ≠ [] → ∃ ge, r.2.1 = some ⟨ge, 0, none⟩ ∧ lo ≤ ge ∧ ge ≠ g ∧ RoomE w ge r.1.ends.length
  apart : ∀ (i j : Nat) r r', R[i]? = some r → R[j]? = some r' → i ≠ j → r.1.ends ≠ [] → r'.1.ends ≠ [] → r.2.1 ≠ r'.2.1

set_option maxRecDepth 100000 in
set_option maxHeartbeats 8000000 in
theorem markActS_any (lo : Nat) (R : List ActR) (g cap : Nat) (k0 : Int) (w : World) (hl : R.length ≤ 1048576) (hel : ∀ r ∈ R, r.1.ends.length ≤ 1048576) (h0 : 1 ≤ k0) (h1 : ∀ i, i ≤ R.length → kTo k0 R i < 100000000) (hlo : lo ≤ w.heap.size) (hO : OwnA lo w g R) :
    Calls Tryz.prog 12 #[.slice (some ⟨g, 0, none⟩) R.length cap, .int .i64 k0] w fun e w' => e = .returned (.int .i64 (kTo k0 R R.length)) ∧ SlA w' (some ⟨g, 0, none⟩) (markL k0 R) ∧ Below lo w w' := by
  obtain ⟨hlog, ⟨cur0, hc0, hf0⟩, hends0, hap⟩ := hO
  have HC0 : Hid _ := hc0
  have HF0 : Hid (FillP actCells 8 R R.length cur0.toList) := hf0
  have HE0 : Hid _ := hends0
  have HAP : Hid _ := hap
  have H1 : Hid _ := h1
  clear hc0 hf0 hends0 hap h1
  go_enter Tryz.func12, Tryz.ntmps12
  go_wp2
  go_loopw [1, 5] (fun kv iv wr => ∃ (i : Nat) (k : Int) (cur : Array Value), i ≤ R.length ∧ iv = .int .i64 i ∧ kv = .int .i64 k ∧ Hid (k = kTo k0 R i) ∧ 1 ≤ k ∧ Hid (wr.heap[g]? = some (.cells cur 59 (0, 0))) ∧ Hid (FillP actCells 8 (markL k0 R) i cur.toList) ∧ Hid (∀ (j : Nat) r, i ≤ j → R[j]? = some r → ∀ q, q < 8 → cur.toList[j * 8 + q]? = (actCells r)[q]?) ∧ Hid (∀ (j : Nat) r, R[j]? = some r → r.1.ends ≠ [] → ∃ ge, r.2.1 = some ⟨ge, 0, none⟩ ∧ lo ≤ ge ∧ ge ≠ g ∧ (i ≤ j → RoomE wr ge r.1.ends.length) ∧ (j < i → FillE wr ge (markA (kTo k0 R j) r).1.ends)) ∧ Below lo w wr) (fun _ i _ => R.length - (intOf i).toNat)
  case atStart =>
    exact ⟨0, k0, cur0, by omega, rfl, rfl, rfl, h0, HC0, ⟨by rw [markL_len]; exact HF0.out.1, fun i s hi => absurd hi (by omega)⟩, fun j r _ hr => HF0.out.2 j r (List.getElem?_eq_some_iff.1 hr).1 hr, fun j r hr hn => let ⟨ge, e1, e2, e3, e4⟩ := HE0.out j r hr hn; ⟨ge, e1, e2, e3, fun _ => e4, fun h => absurd h (by omega)⟩, Below.refl _ _⟩
  case round =>
    clear HC0 HF0 HE0
    obtain ⟨i, k, cur, hi, rfl, rfl, HK, hk1, hrow, hfill, horig, hends, hb⟩ := hrel
    have hgl : g < wr.heap.size := (Array.getElem?_eq_some_iff.1 hrow.out).1
    by_cases hlt : i < R.length
    · obtain ⟨r, hr⟩ : ∃ r, R[i]? = some r := ⟨R[i], by simp [hlt]⟩
      have HR : Hid _ := hr
      have hstep := kTo_step (k0 := k0) hr
      have hk8 := H1.out (i + 1) (by omega)
      rw [hstep, ← HK.out] at hk8
      have HST : Hid (kTo k0 R (i + 1) = k + 7 + 2 * r.1.ends.length) := by unfold Hid; rw [hstep, HK.out]
      have hel1 := hel r (List.mem_of_getElem? hr)
      have hfit : i * 8 + 8 ≤ cur.toList.length := by
        have h2 := hfill.out.1
        rw [markL_len] at h2
        omega
      have HSL0 : Hid (cur.toList[i * 8 + 6]? = some (.slice r.2.1 r.1.ends.length r.2.2)) := horig.out i r (Nat.le_refl _) hr 6 (by omega)
      have HSLC : Hid ((splice cur.toList (i * 8) [.string (mt (k)), .int .i64 (k + 1), .int .i64 (k + 1 + 1), .int .i64 (k + 1 + 1 + 1), .int .i64 (k + 1 + 1 + 1 + 1), .bool ((k + 1 + 1 + 1 + 1 + 1) % 3 == 0)])[i * 8 + 6]? = some (.slice r.2.1 r.1.ends.length r.2.2)) := by
        unfold Hid
        rw [splice_ge _ _ _ _ (by simp only [List.length_cons, List.length_nil]; omega) (by omega)]
        exact HSL0.out
      clear hstep hr
      have hz := hb.size
      go_wp2_with fail
      refine (markText_any (k) _ (by omega) (by omega)).mono ?_
      rintro e wm0 ⟨rfl, hbm⟩
      have hrs : Hid (wm0.heap[g]? = some (.cells (splice cur.toList (i * 8) []).toArray 59 (0, 0))) := by unfold Hid; rw [splice_nil]; exact (hbm.block g hgl).trans hrow.out
      have hgs := grown_below (grown_refl wr (some g)) hbm
      clear hbm
      go_wp2_with (first
        | (refine wpList_store_next rfl 9 (.tmp 17) (.tmp 15) rfl g (i * 8) [] cur.toList _ rfl rfl Tryz.infosString rfl rfl 59 hrs.out (by simp only [List.length_nil]; omega) ?_; intro wx0 hx on; have hr0 : Hid (wx0.heap[g]? = some (.cells (splice cur.toList (i * 8) [.string (mt (k))]).toArray 59 (0, 0))) := hx; have hg0 := grown_only hgs on; clear hx on)
        | (refine wpList_store_next rfl 3 (.tmp 24) (.tmp 22) rfl g (i * 8) [.string (mt (k))] cur.toList _ rfl rfl Tryz.infosInt' rfl rfl 59 hr0.out (by simp only [List.length_cons, List.length_nil]; omega) ?_; intro wx1 hx on; have hr1 : Hid (wx1.heap[g]? = some (.cells (splice cur.toList (i * 8) [.string (mt (k)), .int .i64 (k + 1)]).toArray 59 (0, 0))) := hx; have hg1 := grown_only hg0 on; clear hx on)
        | (refine wpList_store_next rfl 3 (.tmp 31) (.tmp 29) rfl g (i * 8) [.string (mt (k)), .int .i64 (k + 1)] cur.toList _ rfl rfl Tryz.infosInt' rfl rfl 59 hr1.out (by simp only [List.length_cons, List.length_nil]; omega) ?_; intro wx2 hx on; have hr2 : Hid (wx2.heap[g]? = some (.cells (splice cur.toList (i * 8) [.string (mt (k)), .int .i64 (k + 1), .int .i64 (k + 1 + 1)]).toArray 59 (0, 0))) := hx; have hg2 := grown_only hg1 on; clear hx on)
        | (refine wpList_store_next rfl 3 (.tmp 38) (.tmp 36) rfl g (i * 8) [.string (mt (k)), .int .i64 (k + 1), .int .i64 (k + 1 + 1)] cur.toList _ rfl rfl Tryz.infosInt' rfl rfl 59 hr2.out (by simp only [List.length_cons, List.length_nil]; omega) ?_; intro wx3 hx on; have hr3 : Hid (wx3.heap[g]? = some (.cells (splice cur.toList (i * 8) [.string (mt (k)), .int .i64 (k + 1), .int .i64 (k + 1 + 1), .int .i64 (k + 1 + 1 + 1)]).toArray 59 (0, 0))) := hx; have hg3 := grown_only hg2 on; clear hx on)
        | (refine wpList_store_next rfl 3 (.tmp 45) (.tmp 43) rfl g (i * 8) [.string (mt (k)), .int .i64 (k + 1), .int .i64 (k + 1 + 1), .int .i64 (k + 1 + 1 + 1)] cur.toList _ rfl rfl Tryz.infosInt' rfl rfl 59 hr3.out (by simp only [List.length_cons, List.length_nil]; omega) ?_; intro wx4 hx on; have hr4 : Hid (wx4.heap[g]? = some (.cells (splice cur.toList (i * 8) [.string (mt (k)), .int .i64 (k + 1), .int .i64 (k + 1 + 1), .int .i64 (k + 1 + 1 + 1), .int .i64 (k + 1 + 1 + 1 + 1)]).toArray 59 (0, 0))) := hx; have hg4 := grown_only hg3 on; clear hx on)
        | (refine wpList_store_next rfl 4 (.tmp 54) (.tmp 52) rfl g (i * 8) [.string (mt (k)), .int .i64 (k + 1), .int .i64 (k + 1 + 1), .int .i64 (k + 1 + 1 + 1), .int .i64 (k + 1 + 1 + 1 + 1)] cur.toList _ rfl rfl Tryz.infosBool' rfl rfl 59 hr4.out (by simp only [List.length_cons, List.length_nil]; omega) ?_; intro wx5 hx on; have hr5 : Hid (wx5.heap[g]? = some (.cells (splice cur.toList (i * 8) [.string (mt (k)), .int .i64 (k + 1), .int .i64 (k + 1 + 1), .int .i64 (k + 1 + 1 + 1), .int .i64 (k + 1 + 1 + 1 + 1), .bool ((k + 1 + 1 + 1 + 1 + 1) % 3 == 0)]).toArray 59 (0, 0))) := hx; have hg5 := grown_only hg4 on; clear hx on; have c6 := row_cell hr5.out HSLC.out))
      have hg5' := hg5
      have HEI : Hid (r.1.ends ≠ [] → ∃ ge, r.2.1 = some ⟨ge, 0, none⟩ ∧ lo ≤ ge ∧ ge ≠ g ∧ RoomE wx5 ge r.1.ends.length) := fun hn => by
        obtain ⟨ge, e1, e2, e3, e4, _⟩ := hends.out i r HR.out hn
        have hrm := e4 (Nat.le_refl _)
        have hgel : ge < wr.heap.size := by obtain ⟨c, hc, _⟩ := hrm; exact (Array.getElem?_eq_some_iff.1 hc).1
        exact ⟨ge, e1, e2, e3, hrm.blk (hg5'.block ge hgel (fun e => e3 (Option.some.inj e)))⟩
      refine (markEnds_any r.1.ends r.2.1 r.2.2 (k + 1 + 1 + 1 + 1 + 1 + 1) _ hel1 (by omega) (by omega) (fun hn => let ⟨ge, e1, _, _, e4⟩ := HEI.out hn; ⟨ge, e1, e4⟩)).mono ?_
      rintro e w6 ⟨rfl, hw6n, hw6c⟩
      have HW6 : Hid (∀ q, q < wx5.heap.size → (r.1.ends ≠ [] → r.2.1 ≠ some ⟨q, 0, none⟩) → w6.heap[q]? = wx5.heap[q]?) := fun q hq hne => by
        by_cases hn : r.1.ends = []
        · rw [hw6n hn]
        · obtain ⟨ge, e1, _, hgr6⟩ := hw6c hn
          exact hgr6.block q hq (fun e => hne hn (by rw [e1, Option.some.inj e]))
      have HF6 : Hid (r.1.ends ≠ [] → ∃ ge, r.2.1 = some ⟨ge, 0, none⟩ ∧ FillE w6 ge (marksEn (k + 1 + 1 + 1 + 1 + 1 + 1) r.1.ends.length)) := fun hn => let ⟨ge, e1, e2, _⟩ := hw6c hn; ⟨ge, e1, e2⟩
      have hzx := hg5.size
      have hb6 : Below lo w w6 := by
        have hbx := below_grown hb (by omega) hg5 hlog
        by_cases hn : r.1.ends = []
        · rw [hw6n hn]; exact hbx
        · obtain ⟨ge, e1, _, hgr6⟩ := hw6c hn
          obtain ⟨ge', e1', e2', _⟩ := HEI.out hn
          have : ge = ge' := by rw [e1] at e1'; simpa using e1'
          subst this
          exact below_grown hbx (by omega) hgr6 e2'
      have hz6 : wx5.heap.size ≤ w6.heap.size := by
        by_cases hn : r.1.ends = []
        · rw [hw6n hn]; exact Nat.le_refl _
        · obtain ⟨ge, e1, _, hgr6⟩ := hw6c hn; exact hgr6.size
      have hr6 : Hid (w6.heap[g]? = some (.cells (splice cur.toList (i * 8) [.string (mt (k)), .int .i64 (k + 1), .int .i64 (k + 1 + 1), .int .i64 (k + 1 + 1 + 1), .int .i64 (k + 1 + 1 + 1 + 1), .bool ((k + 1 + 1 + 1 + 1 + 1) % 3 == 0), .slice r.2.1 r.1.ends.length r.2.2]).toArray 59 (0, 0))) := by
        unfold Hid
        rw [HW6.out g (by omega) (fun hn e => by obtain ⟨ge, e1, _, e3, _⟩ := HEI.out hn; rw [e1] at e; exact e3 (congrArg Addr.block (Option.some.inj e))), hr5.out]
        congr 3
        exact (splice_same cur.toList (i * 8) [.string (mt (k)), .int .i64 (k + 1), .int .i64 (k + 1 + 1), .int .i64 (k + 1 + 1 + 1), .int .i64 (k + 1 + 1 + 1 + 1), .bool ((k + 1 + 1 + 1 + 1 + 1) % 3 == 0)] (.slice r.2.1 r.1.ends.length r.2.2) (by simpa using HSL0.out)).symm
      clear hw6n hw6c c6
      go_wp2_with (refine wpList_store_next rfl 4 (.tmp 70) (.tmp 68) rfl g (i * 8) [.string (mt (k)), .int .i64 (k + 1), .int .i64 (k + 1 + 1), .int .i64 (k + 1 + 1 + 1), .int .i64 (k + 1 + 1 + 1 + 1), .bool ((k + 1 + 1 + 1 + 1 + 1) % 3 == 0), .slice r.2.1 r.1.ends.length r.2.2] cur.toList _ rfl rfl Tryz.infosBool' rfl rfl 59 hr6.out (by simp only [List.length_cons, List.length_nil]; omega) ?_; intro w7 hx on; have hr7' : Hid (w7.heap[g]? = some (.cells (splice cur.toList (i * 8) [.string (mt (k)), .int .i64 (k + 1), .int .i64 (k + 1 + 1), .int .i64 (k + 1 + 1 + 1), .int .i64 (k + 1 + 1 + 1 + 1), .bool ((k + 1 + 1 + 1 + 1 + 1) % 3 == 0), .slice r.2.1 r.1.ends.length r.2.2, .bool ((k + 1 + 1 + 1 + 1 + 1 + 1 + 2 * r.1.ends.length) % 3 == 0)]).toArray 59 (0, 0))) := hx; have hr7 : Hid (w7.heap[g]? = some (.cells (splice cur.toList (i * 8) (actCells (markA k r))).toArray 59 (0, 0))) := (by rw [actCells_mark]; exact hr7'.out); have HON : Hid (∀ q, q ≠ g → w7.heap[q]? = w6.heap[q]?) := on.other; have hb7 := below_then hb6 on hlog; clear hx on)
      have HS : Hid _ := hfill.out.step (markL_at HR.out) rfl
      rw [← HK.out] at HS
      have HOT : Hid (∀ q, q < wr.heap.size → q ≠ g → (r.1.ends ≠ [] → r.2.1 ≠ some ⟨q, 0, none⟩) → w7.heap[q]? = wr.heap[q]?) := fun q hq hqg hne => by
        rw [HON.out q hqg, HW6.out q (by omega) hne]
        exact hg5'.block q hq (fun e => hqg (Option.some.inj e))
      clear hg0 hg1 hg2 hg3 hg4 hg5 hg5' hgs hr0 hr1 hr2 hr3 hr4 hr5 hr6 hrs hb6 hr7'
      go_roundw
      case rel =>
        refine ⟨i + 1, k + 1 + 1 + 1 + 1 + 1 + 1 + 2 * r.1.ends.length + 1, _, by omega, by go_num, rfl, by unfold Hid; rw [HST.out]; omega, by omega, hr7, HS, fun j r' hj hr' q hq => ?_, fun j r' hr' hn => ?_, hb7⟩
        · rw [List.toList_toArray, splice_ge _ _ _ _ (by show i * 8 + 8 ≤ _; omega) (by omega)]
          exact horig.out j r' (by omega) hr' q hq
        · obtain ⟨ge, e1, e2, e3, e4, e5⟩ := hends.out j r' hr' hn
          by_cases hji : j = i
          · subst hji
            have : r' = r := by rw [HR.out] at hr'; exact (Option.some.inj hr').symm
            subst this
            obtain ⟨ge2, f1, f2⟩ := HF6.out hn
            have hge : ge2 = ge := by rw [f1] at e1; simpa using e1
            subst hge
            refine ⟨ge2, e1, e2, e3, fun h => absurd h (by omega), fun _ => ?_⟩
            have h5 := f2.blk (HON.out ge2 e3)
            rw [HK.out] at h5
            exact h5
          · have hne : r.1.ends ≠ [] → r.2.1 ≠ some ⟨ge, 0, none⟩ := fun hn2 e => HAP.out j i r' r hr' HR.out hji hn hn2 (by rw [e1, e])
            refine ⟨ge, e1, e2, e3, fun h => ?_, fun h => ?_⟩
            · have h6 := e4 (by omega)
              have hgel : ge < wr.heap.size := by obtain ⟨c, hc, _⟩ := h6; exact (Array.getElem?_eq_some_iff.1 hc).1
              exact h6.blk (HOT.out ge hgel e3 hne)
            · have h6 := e5 (by omega)
              have hgel : ge < wr.heap.size := by obtain ⟨c, hc, _⟩ := h6; exact (Array.getElem?_eq_some_iff.1 hc).1
              exact h6.blk (HOT.out ge hgel e3 hne)
      case measure => simp [intOf]; omega
    · go_wp2
      go_ret
      have hil : i = R.length := by omega
      subst hil
      refine ⟨ret_int HK.out, fun _ => ⟨g, 0, rfl, hgl, fun j r' hr' => ?_⟩, hb⟩
      have hj : j < R.length := by have := (List.getElem?_eq_some_iff.1 hr').1; rwa [markL_len] at this
      obtain ⟨r, hr⟩ : ∃ r, R[j]? = some r := ⟨R[j], by simp [hj]⟩
      have e : r' = markA (kTo k0 R j) r := by rw [markL_at hr] at hr'; exact (Option.some.inj hr').symm
      have hc := hfill.out.2 j r' hj hr'
      refine ⟨?_, ?_⟩
      · unfold AcAt
        simp only [cell_row hrow.out, Nat.zero_add]
        exact ⟨hc 0 (by omega), hc 1 (by omega), hc 2 (by omega), hc 3 (by omega), hc 4 (by omega), hc 5 (by omega), hc 6 (by omega), hc 7 (by omega)⟩
      · subst e
        intro hn
        have hn2 : r.1.ends ≠ [] := by intro h; apply hn; show marksEn _ r.1.ends.length = []; rw [h]; rfl
        obtain ⟨ge, e1, _, _, _, e5⟩ := hends.out j r hr hn2
        have h3 := (e5 hj).sl
        rw [← e1] at h3
        exact h3 hn

end Go.Proofs.YtbceafpodamnfabGreat

/-
  My own. Marks: rows of acts held against what was written.
-/
namespace Go.Proofs.YtbceafpodamnfabGreat
open Go.RowKit Go.Sort

set_option maxRecDepth 100000 in
set_option maxHeartbeats 8000000 in
theorem heldActS_any (R : List ActR) (ao : Option Addr) (cap : Nat) (k0 : Int) (w : World) (hl : R.length ≤ 1048576) (hel : ∀ r ∈ R, r.1.ends.length ≤ 1048576) (h0 : 1 ≤ k0) (h1 : ∀ i, i ≤ R.length → kTo k0 R i < 100000000) (hC : SlA w ao (markL k0 R)) :
    Calls Tryz.prog 13 #[.slice ao R.length cap, .int .i64 k0] w fun e w' => e = .returned (.int .i64 (kTo k0 R R.length)) ∧ Below w.heap.size w w' := by
  have H1 : Hid _ := h1
  clear h1
  go_enter Tryz.func13, Tryz.ntmps13
  go_wp2
  go_loopw [1, 5] (fun kv iv wr => ∃ (i : Nat) (k : Int), i ≤ R.length ∧ iv = .int .i64 i ∧ kv = .int .i64 k ∧ Hid (k = kTo k0 R i) ∧ 1 ≤ k ∧ Below w.heap.size w wr) (fun _ i _ => R.length - (intOf i).toNat)
  case atStart => exact ⟨0, k0, by omega, rfl, rfl, rfl, h0, Below.refl _ _⟩
  case round =>
    obtain ⟨i, k, hi, rfl, rfl, HK, hk1, hb⟩ := hrel
    by_cases hlt : i < R.length
    · obtain ⟨r, hr⟩ : ∃ r, R[i]? = some r := ⟨R[i], by simp [hlt]⟩
      have hstep := kTo_step (k0 := k0) hr
      have hk8 := H1.out (i + 1) (by omega)
      rw [hstep, ← HK.out] at hk8
      have HST : Hid (kTo k0 R (i + 1) = k + 7 + 2 * r.1.ends.length) := by unfold Hid; rw [hstep, HK.out]
      have hel1 := hel r (List.mem_of_getElem? hr)
      obtain ⟨b, off, ea, hbs, hat⟩ := hC (by intro h; have := markL_len k0 R; rw [h] at this; simp at this; omega)
      subst ea
      have hcx := hat i _ (markL_at hr)
      rw [← HK.out] at hcx
      have HCX : Hid (AcAt w b (off + i * 8) (markA k r)) := hcx.1
      have HEX : Hid (SlE w r.2.1 (marksEn (k + 1 + 1 + 1 + 1 + 1 + 1) r.1.ends.length)) := hcx.2
      clear hat hcx hstep hr
      go_wp2
      refine wp_region_grows 7 (by kernel_rfl) (by kernel_rfl) ?_
      apply grow_eq
      · intro V W K A hW hd hA hK
        simp only [putAll, List.getElem?_toArray, List.getElem?_cons_succ, List.getElem?_cons_zero, Option.bind_some, Act.put, List.setIfInBounds_toArray, List.set_cons_succ, List.set_cons_zero] at hA
        clear hd
        generalize V 0 = x0 at hA
        generalize V 1 = x1 at hA
        generalize V 2 = x2 at hA
        generalize V 3 = x3 at hA
        generalize V 4 = x4 at hA
        generalize V 5 = x5 at hA
        generalize V 6 = x6 at hA
        obtain rfl := hA
        go_wp2
        exact hK.out _ (Below.refl _ _)
      apply grow_eq
      · intro V W K A hW hd hA hK
        simp only [putAll, List.getElem?_toArray, List.getElem?_cons_succ, List.getElem?_cons_zero, Option.bind_some, Act.put, List.setIfInBounds_toArray, List.set_cons_succ, List.set_cons_zero] at hA
        clear hd
        generalize V 0 = x0 at hA
        generalize V 1 = x1 at hA
        generalize V 2 = x2 at hA
        generalize V 3 = x3 at hA
        generalize V 4 = x4 at hA
        generalize V 5 = x5 at hA
        generalize V 6 = x6 at hA
        obtain rfl := hA
        go_wp2
        exact hK.out _ (Below.refl _ _)
      apply grow_eq
      · intro V W K A hW hd hA hK
        have d0 : V 0 = _ := hd 0 (by kernel_rfl)
        have d1 : V 1 = _ := hd 1 (by kernel_rfl)
        simp only [putAll, List.getElem?_toArray, List.getElem?_cons_succ, List.getElem?_cons_zero, Option.bind_some, Act.put, List.setIfInBounds_toArray, List.set_cons_succ, List.set_cons_zero] at hA
        clear hd
        generalize V 0 = x0 at d0 hA
        generalize V 1 = x1 at d1 hA
        generalize V 2 = x2 at hA
        generalize V 3 = x3 at hA
        generalize V 4 = x4 at hA
        generalize V 5 = x5 at hA
        generalize V 6 = x6 at hA
        subst d0
        subst d1
        obtain rfl := hA
        go_wp2
        exact hK.out _ (Below.refl _ _)
      apply grow_eq
      · intro V W K A hW hd hA hK
        have d2 : V 2 = _ := hd 2 (by kernel_rfl)
        simp only [putAll, List.getElem?_toArray, List.getElem?_cons_succ, List.getElem?_cons_zero, Option.bind_some, Act.put, List.setIfInBounds_toArray, List.set_cons_succ, List.set_cons_zero] at hA
        clear hd
        generalize V 0 = x0 at hA
        generalize V 1 = x1 at hA
        generalize V 2 = x2 at d2 hA
        generalize V 3 = x3 at hA
        generalize V 4 = x4 at hA
        generalize V 5 = x5 at hA
        generalize V 6 = x6 at hA
        subst d2
        obtain rfl := hA
        go_wp2
        exact hK.out _ (Below.refl _ _)
      apply grow_eq
      · intro V W K A hW hd hA hK
        have d3 : V 3 = _ := hd 3 (by kernel_rfl)
        simp only [putAll, List.getElem?_toArray, List.getElem?_cons_succ, List.getElem?_cons_zero, Option.bind_some, Act.put, List.setIfInBounds_toArray, List.set_cons_succ, List.set_cons_zero] at hA
        clear hd
        generalize V 0 = x0 at hA
        generalize V 1 = x1 at hA
        generalize V 2 = x2 at hA
        generalize V 3 = x3 at d3 hA
        generalize V 4 = x4 at hA
        generalize V 5 = x5 at hA
        generalize V 6 = x6 at hA
        subst d3
        obtain rfl := hA
        have hq := HCX.out.below (hb.trans (hW.mono hb.size)) hbs
        unfold AcAt markA at hq
        dsimp only at hq
        rw [marksEn_len] at hq
        obtain ⟨q0, q1, q2, q3, q4, q5, q6, q7⟩ := hq
        go_wp2
        exact hK.out _ (Below.refl _ _)
      apply grow_eq
      · intro V W K A hW hd hA hK
        simp only [putAll, List.getElem?_toArray, List.getElem?_cons_succ, List.getElem?_cons_zero, Option.bind_some, Act.put, List.setIfInBounds_toArray, List.set_cons_succ, List.set_cons_zero] at hA
        clear hd
        generalize V 0 = x0 at hA
        generalize V 1 = x1 at hA
        generalize V 2 = x2 at hA
        generalize V 3 = x3 at hA
        generalize V 4 = x4 at hA
        generalize V 5 = x5 at hA
        generalize V 6 = x6 at hA
        obtain rfl := hA
        go_wp2
        exact hK.out _ (Below.refl _ _)
      apply grow_eq
      · intro V W K A hW hd hA hK
        have d5 : V 5 = _ := hd 5 (by kernel_rfl)
        simp only [putAll, List.getElem?_toArray, List.getElem?_cons_succ, List.getElem?_cons_zero, Option.bind_some, Act.put, List.setIfInBounds_toArray, List.set_cons_succ, List.set_cons_zero] at hA
        clear hd
        generalize V 0 = x0 at hA
        generalize V 1 = x1 at hA
        generalize V 2 = x2 at hA
        generalize V 3 = x3 at hA
        generalize V 4 = x4 at hA
        generalize V 5 = x5 at d5 hA
        generalize V 6 = x6 at hA
        subst d5
        obtain rfl := hA
        go_wp2_with fail
        refine (markText_any (k) _ (by omega) (by omega)).mono ?_
        rintro e w3 ⟨rfl, hb3⟩
        go_wp2
        exact hK.out _ hb3
      intro V W A hW hS hA
      have d0 : V 0 = _ := hS 0 (by omega)
      have d1 : V 1 = _ := hS 1 (by omega)
      have d2 : V 2 = _ := hS 2 (by omega)
      have d3 : V 3 = _ := hS 3 (by omega)
      have d4 : V 4 = _ := hS 4 (by omega)
      have d5 : V 5 = _ := hS 5 (by omega)
      have d6 : V 6 = _ := hS 6 (by omega)
      simp only [putAll, List.getElem?_toArray, List.getElem?_cons_succ, List.getElem?_cons_zero, Option.bind_some, Act.put, List.setIfInBounds_toArray, List.set_cons_succ, List.set_cons_zero] at hA
      clear hS
      generalize V 0 = x0 at d0 hA
      generalize V 1 = x1 at d1 hA
      generalize V 2 = x2 at d2 hA
      generalize V 3 = x3 at d3 hA
      generalize V 4 = x4 at d4 hA
      generalize V 5 = x5 at d5 hA
      generalize V 6 = x6 at d6 hA
      subst d0
      subst d1
      subst d2
      subst d3
      subst d4
      subst d5
      subst d6
      obtain rfl := hA
      simp only [List.drop_succ_cons, List.drop_zero]
      have hb2 := hb.trans (hW.mono hb.size)
      clear hW
      have hq := HCX.out.below (hb2) hbs
      unfold AcAt markA at hq
      dsimp only at hq
      rw [marksEn_len] at hq
      obtain ⟨q0, q1, q2, q3, q4, q5, q6, q7⟩ := hq
      go_wp2_with fail
      refine (heldEnS_any r.1.ends.length r.2.1 r.2.2 (k + 1 + 1 + 1 + 1 + 1 + 1) _ hel1 (by omega) (by omega) (HEX.out.below hb2)).mono ?_
      rintro e w3 ⟨rfl, hb3⟩
      have hb4 := hb2.trans (hb3.mono hb2.size)
      clear q0 q1 q2 q3 q4 q5 q6 q7 hb3
      have hq := HCX.out.below (hb4) hbs
      unfold AcAt markA at hq
      dsimp only at hq
      rw [marksEn_len] at hq
      obtain ⟨q0, q1, q2, q3, q4, q5, q6, q7⟩ := hq
      go_wp2
      go_roundw
      case rel => exact ⟨i + 1, k + 1 + 1 + 1 + 1 + 1 + 1 + 2 * r.1.ends.length + 1, by omega, by go_num, rfl, by unfold Hid; rw [HST.out]; omega, by omega, hb4⟩
      case measure => simp [intOf]; omega
    · go_wp2
      go_ret
      have hil : i = R.length := by omega
      subst hil
      exact ⟨ret_int HK.out, hb⟩

end Go.Proofs.YtbceafpodamnfabGreat

/-
  My own. Marks: a book written anew; what is kept.
-/
namespace Go.Proofs.YtbceafpodamnfabGreat
open Go.RowKit Go.Sort

theorem hid_of' {p : Prop} (h : p) : Hid p := h

/-- Of the old blocks just some from lo to hi have turned. -/
structure Keep (lo hi : Nat) (w w' : World) : Prop where
  os : w'.os = w.os
  tape : w'.tape = w.tape
  output : w'.output = w.output
  size : w.heap.size ≤ w'.heap.size
  block : ∀ q, q < w.heap.size → (q < lo ∨ hi < q) → w'.heap[q]? = w.heap[q]?
theorem Keep.trans {lo hi : Nat} {a b c : World} (h : Keep lo hi a b) (k : Keep lo hi b c) : Keep lo hi a c :=
  ⟨k.os.trans h.os, k.tape.trans h.tape, k.output.trans h.output, Nat.le_trans h.size k.size, fun q hq hr => (k.block q (Nat.lt_of_lt_of_le hq h.size) hr).trans (h.block q hq hr)⟩
theorem keep_grown {lo hi g : Nat} {w w' : World} (h : w.grownBy w' (some g)) (h1 : lo ≤ g) (h2 : g ≤ hi) : Keep lo hi w w' :=
  ⟨h.os, h.tape, h.output, h.size, fun q hq hr => h.block q hq (fun e => by have := Option.some.inj e; omega)⟩
theorem keep_below {lo hi : Nat} {w w' : World} (h : Below w.heap.size w w') : Keep lo hi w w' := ⟨h.os, h.tape, h.output, h.size, fun q hq _ => h.block q hq⟩
theorem Keep.toBelow {lo hi n : Nat} {w w' : World} (h : Keep lo hi w w') (h1 : n ≤ lo) (h2 : n ≤ w.heap.size) : Below n w w' := ⟨h.os, h.tape, h.output, h.size, fun q hq => h.block q (by omega) (.inl (by omega))⟩

set_option maxHeartbeats 2000000 in
theorem markBook_any (B : Bk) (lo b1 b2 b3 : Nat) (k0 : Int) (w : World) (hS : B.small) (h0 : 1 ≤ k0) (h1 : k0 ≤ 1000000) (hO : BkOwn lo w b1 b2 b3 B) :
    Calls Tryz.prog 11 #[.agg #[.int .i64 B.now, .slice (some ⟨b1, 0, none⟩) B.svcs.length B.svcs.length, .slice (some ⟨b2, 0, none⟩) B.cps.length B.cps.length, .slice (some ⟨b3, 0, none⟩) B.bts.length B.bts.length], .int .i64 k0] w fun e w' => e = .returned (.int .i64 (k0 + 13 * B.svcs.length + 7 * B.cps.length + 2 * B.bts.length)) ∧ Keep b1 b3 w w' := by
  obtain ⟨hl1, hl2, hl3⟩ := hS
  obtain ⟨_, h12, h23, oS, oC, oB⟩ := hO
  have hsz : (w.alloc (.cells #[.int .i64 B.now, .slice (some ⟨b1, 0, none⟩) B.svcs.length B.svcs.length, .slice (some ⟨b2, 0, none⟩) B.cps.length B.cps.length, .slice (some ⟨b3, 0, none⟩) B.bts.length B.bts.length] 34)).heap.size = w.heap.size + 1 := by show (w.heap.push _).size = _; simp
  have HSZ : Hid _ := hsz
  clear hsz
  have hbx := below_box w (.cells #[.int .i64 B.now, .slice (some ⟨b1, 0, none⟩) B.svcs.length B.svcs.length, .slice (some ⟨b2, 0, none⟩) B.cps.length B.cps.length, .slice (some ⟨b3, 0, none⟩) B.bts.length B.bts.length] 34)
  have T0 : Hid _ := heap_alloc_new w (.cells #[.int .i64 B.now, .slice (some ⟨b1, 0, none⟩) B.svcs.length B.svcs.length, .slice (some ⟨b2, 0, none⟩) B.cps.length B.cps.length, .slice (some ⟨b3, 0, none⟩) B.bts.length B.bts.length] 34)
  have l1 := oS.lt
  have l2 := oC.lt
  have l3 := oB.lt
  have RS := hid_of' (oS.room.blk (hbx.block b1 l1))
  have RC := hid_of' (oC.room.blk (hbx.block b2 l2))
  have RB := hid_of' (oB.room.blk (hbx.block b3 l3))
  clear oS oC oB
  go_enter Tryz.func11, Tryz.ntmps11
  go_wp2_with fail
  refine (markSvcS_any B.svcs.length b1 _ k0 _ hl1 h0 (by omega) RS.out).mono ?_
  rintro e w1 ⟨rfl, _, g1⟩
  have T1 : Hid _ := (g1.block w.heap.size (by rw [HSZ.out]; omega) (fun e => by have := Option.some.inj e; omega)).trans T0.out
  have RC1 := hid_of' (RC.out.blk (g1.block b2 (by rw [HSZ.out]; omega) (fun e => by have := Option.some.inj e; omega)))
  have RB1 := hid_of' (RB.out.blk (g1.block b3 (by rw [HSZ.out]; omega) (fun e => by have := Option.some.inj e; omega)))
  have z1 := g1.size
  rw [HSZ.out] at z1
  have K1 := (keep_below (lo := b1) (hi := b3) hbx).trans (keep_grown g1 (Nat.le_refl _) (by omega))
  clear g1 RS RC RB T0
  have e2 := blk_cell T1.out 2 rfl
  go_wp2_with fail
  refine (markCpS_any B.cps.length b2 _ (k0 + 13 * B.svcs.length) _ hl2 (by omega) (by omega) RC1.out).mono ?_
  rintro e w2 ⟨rfl, _, g2⟩
  have T2 : Hid _ := (g2.block w.heap.size (by omega) (fun e => by have := Option.some.inj e; omega)).trans T1.out
  have RB2 := hid_of' (RB1.out.blk (g2.block b3 (by omega) (fun e => by have := Option.some.inj e; omega)))
  have z2 := g2.size
  have K2 := K1.trans (keep_grown g2 (by omega) (by omega))
  clear g2 RC1 RB1 T1 e2
  have e3 := blk_cell T2.out 3 rfl
  go_wp2_with fail
  refine (markBtS_any B.bts.length b3 _ (k0 + 13 * B.svcs.length + 7 * B.cps.length) _ hl3 (by omega) (by omega) RB2.out).mono ?_
  rintro e w3 ⟨rfl, _, g3⟩
  have K3 := K2.trans (keep_grown g3 (by omega) (Nat.le_refl _))
  go_wp2
  go_ret
  exact ⟨rfl, K3⟩

/-- A slice of acts, and their ends, in blocks of one kind. -/
def SlEx (P : Nat → Prop) (w : World) (ao : Option Addr) (l : List En) : Prop := l ≠ [] → ∃ b off, ao = some ⟨b, off, none⟩ ∧ b < w.heap.size ∧ P b ∧ EnsAt w b off l
def SlAx (P : Nat → Prop) (w : World) (ao : Option Addr) (R : List ActR) : Prop := R ≠ [] → ∃ b off, ao = some ⟨b, off, none⟩ ∧ b < w.heap.size ∧ P b ∧ ∀ i r, R[i]? = some r → AcAt w b (off + i * 8) r ∧ SlEx P w r.2.1 r.1.ends
theorem SlEx.sl {P : Nat → Prop} {w : World} {ao : Option Addr} {l : List En} (h : SlEx P w ao l) : SlE w ao l := fun hn => let ⟨b, off, e, h1, _, h2⟩ := h hn; ⟨b, off, e, h1, h2⟩
theorem SlAx.sl {P : Nat → Prop} {w : World} {ao : Option Addr} {R : List ActR} (h : SlAx P w ao R) : SlA w ao R := fun hn => let ⟨b, off, e, h1, _, h2⟩ := h hn; ⟨b, off, e, h1, fun i r hr => ⟨(h2 i r hr).1, (h2 i r hr).2.sl⟩⟩
theorem SlE.ex {w : World} {ao : Option Addr} {l : List En} (h : SlE w ao l) : SlEx (· < w.heap.size) w ao l := fun hn => let ⟨b, off, e, h1, h2⟩ := h hn; ⟨b, off, e, h1, h1, h2⟩
theorem SlA.ex {w : World} {ao : Option Addr} {R : List ActR} (h : SlA w ao R) : SlAx (· < w.heap.size) w ao R := fun hn => let ⟨b, off, e, h1, h2⟩ := h hn; ⟨b, off, e, h1, h1, fun i r hr => ⟨(h2 i r hr).1, (h2 i r hr).2.ex⟩⟩
theorem SlEx.keep {P : Nat → Prop} {w w' : World} {ao : Option Addr} {l : List En} (h : SlEx P w ao l) (hs : w.heap.size ≤ w'.heap.size) (hb : ∀ q, q < w.heap.size → P q → w'.heap[q]? = w.heap[q]?) : SlEx P w' ao l := fun hn =>
  let ⟨b, off, e, h1, hp, h2⟩ := h hn; ⟨b, off, e, Nat.lt_of_lt_of_le h1 hs, hp, fun i s hs' => (h2 i s hs').blk (hb b h1 hp)⟩
theorem SlAx.keep {P : Nat → Prop} {w w' : World} {ao : Option Addr} {R : List ActR} (h : SlAx P w ao R) (hs : w.heap.size ≤ w'.heap.size) (hb : ∀ q, q < w.heap.size → P q → w'.heap[q]? = w.heap[q]?) : SlAx P w' ao R := fun hn =>
  let ⟨b, off, e, h1, hp, h2⟩ := h hn; ⟨b, off, e, Nat.lt_of_lt_of_le h1 hs, hp, fun i r hr => ⟨(h2 i r hr).1.blk (hb b h1 hp), (h2 i r hr).2.keep hs hb⟩⟩

end Go.Proofs.YtbceafpodamnfabGreat

/-
  My own. The law on StewAsk: its walk, from what both functions do.
-/
namespace Go.Proofs.YtbceafpodamnfabGreat
open Go.RowKit Go.Sort

theorem blkB {w w' : World} {N k : Nat} {x : Option Obj} (hb : Below N w w') (h : w.heap[k]? = x) (hk : k < N) : w'.heap[k]? = x := (hb.block k hk).trans h

theorem kTo_le (k0 : Int) (R : List ActR) (M : Nat) (h : ∀ r ∈ R, r.1.ends.length ≤ M) : ∀ i, i ≤ R.length → kTo k0 R i ≤ k0 + i * (7 + 2 * M)
  | 0, _ => by simp [kTo]
  | i + 1, hi => by
    obtain ⟨r, hr⟩ : ∃ r, R[i]? = some r := ⟨R[i]'(by omega), by rw [List.getElem?_eq_getElem]⟩
    rw [kTo_step hr]
    have h1 := kTo_le k0 R M h i (by omega)
    have h2 := h r (List.mem_of_getElem? hr)
    have e : ((i + 1 : Nat) : Int) * (7 + 2 * M) = i * (7 + 2 * M) + (7 + 2 * M) := by rw [Int.natCast_add, Int.add_mul]; simp
    rw [e]
    omega

theorem kTo_ge (k0 : Int) (R : List ActR) (i : Nat) : k0 ≤ kTo k0 R i := by
  unfold kTo
  have : ∀ (l : List ActR) (k : Int), k ≤ l.foldl (fun k r => k + 7 + 2 * (r.1.ends.length : Int)) k := by
    intro l
    induction l with
    | nil => intro k; exact Int.le_refl _
    | cons x l ih => intro k; exact Int.le_trans (by show k ≤ k + 7 + 2 * (x.1.ends.length : Int); omega) (ih _)
  exact this _ _

set_option maxHeartbeats 1000000 in
theorem markActS_nil (ao : Option Addr) (cap : Nat) (k0 : Int) (w : World) :
    Calls Tryz.prog 12 #[.slice ao 0 cap, .int .i64 k0] w fun e w' => e = .returned (.int .i64 k0) ∧ w' = w := by
  go_enter Tryz.func12, Tryz.ntmps12
  go_wp2
  go_loop [1, 5] (fun kv i => kv = .int .i64 k0 ∧ i = .int .i64 0) (fun _ _ => 0)
  case atStart => exact ⟨rfl, rfl⟩
  case round =>
    obtain ⟨rfl, rfl⟩ := hrel
    go_wp2
    go_ret
    exact ⟨rfl, rfl⟩

/-- What an answer of acts must be: these acts, in blocks of its own from lo on. -/
structure AskR (lo : Nat) (w : World) (ao : Option Addr) (R : List ActR) (L : List Ac) : Prop where
  eq : R.map (·.1) = L
  sl : SlAx (lo ≤ ·) w ao R
  own : R ≠ [] → ∃ g, ao = some ⟨g, 0, none⟩ ∧ OwnA lo w g R

theorem OwnA.keep {lo g : Nat} {w w' : World} {R : List ActR} (h : OwnA lo w g R) (hb : ∀ q, q < w.heap.size → lo ≤ q → w'.heap[q]? = w.heap[q]?) : OwnA lo w' g R := by
  obtain ⟨h1, ⟨cur, hc, hf⟩, h3, h4⟩ := h
  refine ⟨h1, ⟨cur, (hb g (Array.getElem?_eq_some_iff.1 hc).1 h1).trans hc, hf⟩, fun j r hr hn => ?_, h4⟩
  obtain ⟨ge, e1, e2, e3, e4⟩ := h3 j r hr hn
  exact ⟨ge, e1, e2, e3, e4.blk (hb ge (by obtain ⟨c, hc', _⟩ := e4; exact (Array.getElem?_eq_some_iff.1 hc').1) e2)⟩

/-- Acts marked, whether there are some or none. -/
theorem markActs_any (lo : Nat) (R : List ActR) (L : List Ac) (ao : Option Addr) (cap : Nat) (w : World) (hl : R.length ≤ 1000) (hel : ∀ r ∈ R, r.1.ends.length ≤ 20000) (hlo : lo ≤ w.heap.size) (hO : AskR lo w ao R L) :
    Calls Tryz.prog 12 #[.slice ao R.length cap, .int .i64 1] w fun e w' => e = .returned (.int .i64 (kTo 1 R R.length)) ∧ SlA w' ao (markL 1 R) ∧ Below lo w w' := by
  cases hR : R with
  | nil => exact (markActS_nil ao cap 1 w).mono fun e w' ⟨he, hw⟩ => ⟨he, fun h => absurd rfl h, by rw [hw]; exact Below.refl _ _⟩
  | cons r0 R0 =>
    rw [← hR]
    obtain ⟨g, ea, hown⟩ := hO.own (by rw [hR]; simp)
    subst ea
    refine markActS_any lo R g cap 1 w (by omega) (fun r hr => Nat.le_trans (hel r hr) (by omega)) (by omega) (fun i hi => ?_) hlo hown
    have h1 := kTo_le 1 R 20000 hel i hi
    have h2 : (i : Int) * (7 + 2 * (20000 : Nat)) ≤ 1000 * (7 + 2 * (20000 : Nat)) := Int.mul_le_mul_of_nonneg_right (by omega) (by omega)
    omega

set_option maxRecDepth 100000 in
set_option maxHeartbeats 16000000 in
theorem lawAsk_of (kind : Int) (B : Bk) (L : List Ac) (a1 a2 a3 : Option Addr) (c1 c2 c3 : Nat) (w : World) (hZ : B.sized) (hB : BkAt w a1 a2 a3 B) (hLn : L.length ≤ 1000) (hLe : ∀ A ∈ L, A.ends.length ≤ 20000)
    (hSP : B.small → ∀ (x1 x2 x3 : Option Addr) (d1 d2 d3 : Nat) (W : World), BkAt W x1 x2 x3 B → Calls Tryz.prog 6 #[.int .i64 kind, .agg #[.int .i64 B.now, .slice x1 B.svcs.length d1, .slice x2 B.cps.length d2, .slice x3 B.bts.length d3]] W fun e w' => ∃ (ao : Option Addr) (cap : Nat) (R : List ActR), e = .returned (.slice ao R.length cap) ∧ R.map (·.1) = L ∧ SlA w' ao R ∧ Below W.heap.size W w')
    (hIM : B.small → ∀ (x1 x2 x3 : Option Addr) (d1 d2 d3 : Nat) (W : World), Hid (B.cps.length ≤ d2) → BkAt W x1 x2 x3 B → Calls Tryz.prog 8 #[.int .i64 kind, .agg #[.int .i64 B.now, .slice x1 B.svcs.length d1, .slice x2 B.cps.length d2, .slice x3 B.bts.length d3]] W fun e w' => ∃ (ao : Option Addr) (cap : Nat) (R : List ActR), e = .returned (.slice ao R.length cap) ∧ AskR W.heap.size w' ao R L ∧ Below W.heap.size W w') :
    Calls Tryz.prog 3 #[.int .i64 kind, .agg #[.int .i64 B.now, .slice a1 B.svcs.length c1, .slice a2 B.cps.length c2, .slice a3 B.bts.length c3]] w fun e w' => e = .returned (.bool true) ∧ Below w.heap.size w w' := by
  have HRL : Hid (∀ R : List ActR, R.map (·.1) = L → R.length ≤ 1000 ∧ ∀ r ∈ R, r.1.ends.length ≤ 20000) := fun R hR => ⟨by rw [← hR] at hLn; simpa using hLn, fun r hr => hLe r.1 (by rw [← hR]; exact List.mem_map_of_mem hr)⟩
  have HSP0 : Hid _ := hSP
  have HIM0 : Hid _ := hIM
  clear hSP hIM hLe
  have hb0 := below_box w (.cells #[.int .i64 B.now, .slice a1 B.svcs.length c1, .slice a2 B.cps.length c2, .slice a3 B.bts.length c3] 26)
  have T0 : Hid _ := heap_alloc_new w (.cells #[.int .i64 B.now, .slice a1 B.svcs.length c1, .slice a2 B.cps.length c2, .slice a3 B.bts.length c3] 26)
  have HS0 : Hid ((w.alloc (.cells #[.int .i64 B.now, .slice a1 B.svcs.length c1, .slice a2 B.cps.length c2, .slice a3 B.bts.length c3] 26)).heap.size = w.heap.size + 1) := by unfold Hid; show (w.heap.push _).size = _; simp
  go_enter Tryz.func3, Tryz.ntmps3
  go_wp2_with fail
  refine (szBook_any B a1 a2 a3 c1 c2 c3 1048576 _ (by omega) (by omega) (hB.below hb0) hZ).mono ?_
  rintro e w1 ⟨r, rfl, hr0, hr1, hsm, hb1⟩
  have hbw1 := hb0.trans (hb1.mono hb0.size)
  have T1 : Hid _ := blkB hb1 T0.out (by rw [HS0.out]; omega)
  have hz1 : w.heap.size < w1.heap.size := by have := hb1.size; rw [HS0.out] at this; omega
  clear hb1 hb0 T0 HS0
  by_cases hneg : r < 0
  · go_wp2
    go_ret
    exact ⟨rfl, hbw1⟩
  have hS : B.small := hsm.out (by omega)
  have HSP := hid_of' (HSP0.out hS)
  have HIM := hid_of' (HIM0.out hS)
  clear hsm HSP0 HIM0
  have e0 := blk_cell T1.out 0 rfl
  have e1 := blk_cell T1.out 1 rfl
  have e2 := blk_cell T1.out 2 rfl
  have e3 := blk_cell T1.out 3 rfl
  go_wp2_with fail
  clear e0 e1 e2 e3 hneg hr0 hr1
  refine (toBook_any B a1 a2 a3 c1 c2 c3 _ (hB.below hbw1) hS).mono ?_
  rintro e w2 ⟨x1, x2, x3, rfl, hX, hb2⟩
  go_wp2_with fail
  refine (HSP.out x1 x2 x3 _ _ _ _ hX).mono ?_
  rintro e w3 ⟨ao0, cap0, R0, rfl, hR0, hsl0, hb3⟩
  have hbb3 := hb2.trans (hb3.mono hb2.size)
  have hbw3 := hbw1.trans (hbb3.mono hbw1.size)
  have T3 : Hid _ := blkB hbb3 T1.out hz1
  have hz3 := hbb3.size
  have A0 := hid_of' hsl0.ex
  have HR0 : Hid _ := hR0
  clear hX hb2 hb3 hbb3 T1 hbw1 hsl0 hR0 HSP
  have e0 := blk_cell T3.out 0 rfl
  have e1 := blk_cell T3.out 1 rfl
  have e2 := blk_cell T3.out 2 rfl
  have e3 := blk_cell T3.out 3 rfl
  go_wp2_with fail
  clear e0 e1 e2 e3
  refine (toBook_own B a1 a2 a3 c1 c2 c3 _ (hB.below hbw3) hS).mono ?_
  rintro e w4 ⟨b1, b2, b3, rfl, hY, hb4⟩
  have hbw4 := hbw3.trans (hb4.mono hbw3.size)
  have T4 : Hid _ := blkB hb4 T3.out (by omega)
  have hz4 := hb4.size
  have O4 : Hid (BkOwn w3.heap.size w4 b1 b2 b3 B) := hY
  have hl3' := hY.bts.lt
  have hlo1 := hY.lo1
  have hl12 := hY.lt12
  have hl23 := hY.lt23
  have A4 := hid_of' (A0.out.keep hb4.size fun q hq _ => hb4.block q hq)
  clear hb4 hY T3 A0 hbw3
  have hb5 := below_box w4 (.cells #[.int .i64 B.now, .slice (some ⟨b1, 0, none⟩) B.svcs.length B.svcs.length, .slice (some ⟨b2, 0, none⟩) B.cps.length B.cps.length, .slice (some ⟨b3, 0, none⟩) B.bts.length B.bts.length] 34)
  have U5 : Hid _ := heap_alloc_new w4 (.cells #[.int .i64 B.now, .slice (some ⟨b1, 0, none⟩) B.svcs.length B.svcs.length, .slice (some ⟨b2, 0, none⟩) B.cps.length B.cps.length, .slice (some ⟨b3, 0, none⟩) B.bts.length B.bts.length] 34)
  have HS5 : Hid ((w4.alloc (.cells #[.int .i64 B.now, .slice (some ⟨b1, 0, none⟩) B.svcs.length B.svcs.length, .slice (some ⟨b2, 0, none⟩) B.cps.length B.cps.length, .slice (some ⟨b3, 0, none⟩) B.bts.length B.bts.length] 34)).heap.size = w4.heap.size + 1) := by unfold Hid; show (w4.heap.push _).size = _; simp
  have O5 := hid_of' (O4.out.below hb5 hl3')
  go_wp2_with fail
  refine (HIM.out _ _ _ _ _ _ _ (Nat.le_refl _) O5.out.at).mono ?_
  rintro e w5 ⟨aoG, capG, R, rfl, hAG, hb6⟩
  rw [HS5.out] at hAG hb6
  have hbb6 := hb5.trans (hb6.mono (by omega))
  have hbw6' := hbw4.trans (hbb6.mono hbw4.size)
  have T5 : Hid _ := blkB hbb6 T4.out (by omega)
  have U5' : Hid _ := blkB hb6 U5.out (by omega)
  have O5' := hid_of' (O4.out.below hbb6 hl3')
  have A5 := hid_of' (A4.out.keep hbb6.size fun q hq _ => hbb6.block q hq)
  have hz5 : w4.heap.size + 1 ≤ w5.heap.size := by have := hb6.size; rw [HS5.out] at this; omega
  have G5 : Hid (AskR (w4.heap.size + 1) w5 aoG R L) := hAG
  have hRb := HRL.out R hAG.eq
  have hRl := hRb.1
  have HRe : Hid _ := hRb.2
  have HEQ : Hid (R.map (·.1) = R0.map (·.1)) := by unfold Hid; rw [HR0.out, hAG.eq]
  clear hb5 hb6 hbb6 T4 U5 O5 O4 HS5 A4 hAG hRb hbw4
  go_wp2_with fail
  refine (eqActS_same R R0 aoG ao0 capG cap0 _ HEQ.out (by omega) (fun r hr => Nat.le_trans (HRe.out r hr) (by omega)) G5.out.sl.sl A5.out.sl).mono ?_
  rintro e w6 ⟨rfl, hb7⟩
  have hbw6 := hbw6'.trans (hb7.mono hbw6'.size)
  have T6 : Hid _ := blkB hb7 T5.out (by omega)
  have U6 : Hid _ := blkB hb7 U5'.out (by omega)
  have O6 := hid_of' (O5'.out.below hb7 (by omega))
  have A6 := hid_of' (A5.out.keep hb7.size fun q hq _ => hb7.block q hq)
  have G6o : Hid (R ≠ [] → ∃ g, aoG = some ⟨g, 0, none⟩ ∧ OwnA (w4.heap.size + 1) w6 g R) := fun h => by obtain ⟨g, e, ho⟩ := G5.out.own h; exact ⟨g, e, ho.keep fun q hq _ => hb7.block q hq⟩
  have G6s := hid_of' (G5.out.sl.keep hb7.size fun q hq _ => hb7.block q hq)
  have GEQ := hid_of' G5.out.eq
  have hz6 := hb7.size
  clear hb7 T5 U5' O5' A5 G5 hbw6'
  go_wp2
  refine wp_region_grows 4 (by kernel_rfl) (by kernel_rfl) ?_
  apply grow_eq
  · intro V W K A hW hd hA hK
    simp only [putAll, List.getElem?_toArray, List.getElem?_cons_succ, List.getElem?_cons_zero, Option.bind_some, Act.put, List.setIfInBounds_toArray, List.set_cons_succ, List.set_cons_zero] at hA
    clear hd
    generalize V 0 = x0 at hA
    generalize V 1 = x1 at hA
    generalize V 2 = x2 at hA
    generalize V 3 = x3 at hA
    obtain rfl := hA
    have e0 := blk_cell (blkB hW U6.out (by omega)) 0 rfl
    have e1 := blk_cell (blkB hW U6.out (by omega)) 1 rfl
    have e2 := blk_cell (blkB hW U6.out (by omega)) 2 rfl
    have e3 := blk_cell (blkB hW U6.out (by omega)) 3 rfl
    go_wp2
    exact hK.out _ (Below.refl _ _)
  apply grow_eq
  · intro V W K A hW hd hA hK
    simp only [putAll, List.getElem?_toArray, List.getElem?_cons_succ, List.getElem?_cons_zero, Option.bind_some, Act.put, List.setIfInBounds_toArray, List.set_cons_succ, List.set_cons_zero] at hA
    clear hd
    generalize V 0 = x0 at hA
    generalize V 1 = x1 at hA
    generalize V 2 = x2 at hA
    generalize V 3 = x3 at hA
    obtain rfl := hA
    have e0 := blk_cell (blkB hW T6.out (by omega)) 0 rfl
    have e1 := blk_cell (blkB hW T6.out (by omega)) 1 rfl
    have e2 := blk_cell (blkB hW T6.out (by omega)) 2 rfl
    have e3 := blk_cell (blkB hW T6.out (by omega)) 3 rfl
    go_wp2
    exact hK.out _ (Below.refl _ _)
  refine grow_op (fun v W => ∃ y1 y2 y3, v = .agg #[.int .i64 B.now, .slice y1 B.svcs.length B.svcs.length, .slice y2 B.cps.length B.cps.length, .slice y3 B.bts.length B.bts.length] ∧ BkAt W y1 y2 y3 B) (fun v W W2 ⟨y1, y2, y3, h1, h2⟩ hb => ⟨y1, y2, y3, h1, h2.below hb⟩) ?_ ?_
  · intro V W K A hW hd hA hK
    have d1 : V 1 = _ := hd 1 (by kernel_rfl)
    simp only [putAll, List.getElem?_toArray, List.getElem?_cons_succ, List.getElem?_cons_zero, Option.bind_some, Act.put, List.setIfInBounds_toArray, List.set_cons_succ, List.set_cons_zero] at hA
    clear hd
    generalize V 0 = x0 at hA
    generalize V 1 = x1 at d1 hA
    generalize V 2 = x2 at hA
    generalize V 3 = x3 at hA
    subst d1
    obtain rfl := hA
    go_wp2_with fail
    refine (toBook_any B a1 a2 a3 c1 c2 c3 _ (hB.below (hbw6.trans (hW.mono hbw6.size))) hS).mono ?_
    rintro e w7 ⟨y1, y2, y3, rfl, hX7, hb7⟩
    have HX7 : Hid (BkAt w7 y1 y2 y3 B) := hX7
    clear hX7
    go_wp2
    exact hK.out _ _ hb7 ⟨y1, y2, y3, rfl, HX7.out⟩
  apply grow_eq
  · intro V W K A hW hd hA hK
    have d0 : V 0 = _ := hd 0 (by kernel_rfl)
    have d2 : (fun v W => ∃ y1 y2 y3, v = .agg #[.int .i64 B.now, .slice y1 B.svcs.length B.svcs.length, .slice y2 B.cps.length B.cps.length, .slice y3 B.bts.length B.bts.length] ∧ BkAt W y1 y2 y3 B) (V 2) W := hd 2 (by kernel_rfl)
    simp only [putAll, List.getElem?_toArray, List.getElem?_cons_succ, List.getElem?_cons_zero, Option.bind_some, Act.put, List.setIfInBounds_toArray, List.set_cons_succ, List.set_cons_zero] at hA
    clear hd
    generalize V 0 = x0 at d0 hA
    generalize V 1 = x1 at hA
    generalize V 2 = x2 at d2 hA
    generalize V 3 = x3 at hA
    subst d0
    obtain rfl := hA
    obtain ⟨y1, y2, y3, rfl, hX7⟩ := d2
    have HX7 : Hid (BkAt W y1 y2 y3 B) := hX7
    clear hX7
    go_wp2_with fail
    refine (eqBook_same B _ _ _ y1 y2 y3 _ _ _ _ _ _ _ hS ((O6.out.below hW (by omega)).at) HX7.out).mono ?_
    rintro e w8 ⟨rfl, hb8⟩
    go_wp2
    exact hK.out _ hb8
  intro V W A hW hS hA
  have d0 : V 0 = _ := hS 0 (by omega)
  have d1 : V 1 = _ := hS 1 (by omega)
  have d2 : (fun v W => ∃ y1 y2 y3, v = .agg #[.int .i64 B.now, .slice y1 B.svcs.length B.svcs.length, .slice y2 B.cps.length B.cps.length, .slice y3 B.bts.length B.bts.length] ∧ BkAt W y1 y2 y3 B) (V 2) W := hS 2 (by omega)
  have d3 : V 3 = _ := hS 3 (by omega)
  simp only [putAll, List.getElem?_toArray, List.getElem?_cons_succ, List.getElem?_cons_zero, Option.bind_some, Act.put, List.setIfInBounds_toArray, List.set_cons_succ, List.set_cons_zero] at hA
  clear hS
  generalize V 0 = x0 at d0 hA
  generalize V 1 = x1 at d1 hA
  generalize V 2 = x2 at d2 hA
  generalize V 3 = x3 at d3 hA
  subst d0
  subst d1
  subst d3
  obtain rfl := hA
  simp only [List.drop_succ_cons, List.drop_zero]
  have hbw7 := hbw6.trans (hW.mono hbw6.size)
  have T7 : Hid _ := blkB hW T6.out (by omega)
  have U7 : Hid _ := blkB hW U6.out (by omega)
  have O7 := hid_of' (O6.out.below hW (by omega))
  have A7 := hid_of' (A6.out.keep hW.size fun q hq _ => hW.block q hq)
  have G7o : Hid (R ≠ [] → ∃ g, aoG = some ⟨g, 0, none⟩ ∧ OwnA (w4.heap.size + 1) W g R) := fun h => by obtain ⟨g, e, ho⟩ := G6o.out h; exact ⟨g, e, ho.keep fun q hq _ => hW.block q hq⟩
  have G7s := hid_of' (G6s.out.keep hW.size fun q hq _ => hW.block q hq)
  have hz7 := hW.size
  clear hW d2 T6 U6 O6 A6 G6o G6s hbw6
  obtain ⟨m, HM⟩ : ∃ m, Hid (kTo 1 R R.length = m) := ⟨_, rfl⟩
  have HKB : Hid (∀ i, i ≤ R.length → kTo 1 R i < 100000000) := fun i hi => by
    have h1 := kTo_le 1 R 20000 HRe.out i hi
    have h2 : (i : Int) * (7 + 2 * (20000 : Nat)) ≤ 1000 * (7 + 2 * (20000 : Nat)) := Int.mul_le_mul_of_nonneg_right (by omega) (by omega)
    omega
  have hm1 : 1 ≤ m := by rw [← HM.out]; exact kTo_ge 1 R _
  have hm2 : m < 100000000 := by rw [← HM.out]; exact HKB.out _ (Nat.le_refl _)
  have e0 := blk_cell U7.out 0 rfl
  have e1 := blk_cell U7.out 1 rfl
  have e2 := blk_cell U7.out 2 rfl
  have e3 := blk_cell U7.out 3 rfl
  go_wp2_with fail
  clear e0 e1 e2 e3
  refine (markBook_any B w3.heap.size b1 b2 b3 1 _ hS (by omega) (by omega) O7.out).mono ?_
  rintro e w8 ⟨rfl, hK8⟩
  have hbw8 := hbw7.trans (hK8.toBelow (by omega) (by omega))
  have T8 : Hid _ := (hK8.block w.heap.size (by omega) (.inl (by omega))).trans T7.out
  have A8 := hid_of' (A7.out.keep hK8.size fun q hq hp => hK8.block q hq (.inl (by omega)))
  have G8o : Hid (R ≠ [] → ∃ g, aoG = some ⟨g, 0, none⟩ ∧ OwnA (w4.heap.size + 1) w8 g R) := fun h => by obtain ⟨g, e, ho⟩ := G7o.out h; exact ⟨g, e, ho.keep fun q hq hp => hK8.block q hq (.inr (by omega))⟩
  have G8s := hid_of' (G7s.out.keep hK8.size fun q hq hp => hK8.block q hq (.inr (by omega)))
  have hz8 := hK8.size
  clear hK8 T7 U7 O7 A7 G7o G7s hbw7
  have hk0 : ¬ (1 + 13 * (B.svcs.length : Int) + 7 * B.cps.length + 2 * B.bts.length < 0) := by omega
  go_wp2_with fail
  refine (eqActS_same R R0 aoG ao0 capG cap0 _ HEQ.out (by omega) (fun r hr => Nat.le_trans (HRe.out r hr) (by omega)) G8s.out.sl A8.out.sl).mono ?_
  rintro e w9 ⟨rfl, hb9⟩
  have hbw9 := hbw8.trans (hb9.mono hbw8.size)
  have T9 : Hid _ := blkB hb9 T8.out (by omega)
  have A9 := hid_of' (A8.out.keep hb9.size fun q hq _ => hb9.block q hq)
  have G9 : Hid (AskR (w4.heap.size + 1) w9 aoG R L) := ⟨GEQ.out, G8s.out.keep hb9.size fun q hq _ => hb9.block q hq, fun h => by obtain ⟨g, e, ho⟩ := G8o.out h; exact ⟨g, e, ho.keep fun q hq _ => hb9.block q hq⟩⟩
  have hz9 := hb9.size
  clear hb9 T8 A8 G8o G8s hbw8
  go_wp2_with fail
  refine (markActs_any (w4.heap.size + 1) R L aoG capG _ hRl HRe.out (by omega) G9.out).mono ?_
  rw [HM.out]
  rintro e w10 ⟨rfl, hsl10, hb10⟩
  have hbw10 := hbw9.trans (hb10.mono (by omega))
  have T10 : Hid _ := blkB hb10 T9.out (by omega)
  have A10 := hid_of' (A9.out.keep hb10.size fun q hq hp => hb10.block q (by omega))
  have S10 : Hid (SlA w10 aoG (markL 1 R)) := hsl10
  have hz10 := hb10.size
  clear hb10 hsl10 T9 A9 G9 hbw9
  go_wp2_with fail
  refine (heldActS_any R aoG capG 1 _ (by omega) (fun r hr => Nat.le_trans (HRe.out r hr) (by omega)) (by omega) HKB.out S10.out).mono ?_
  rw [HM.out]
  rintro e w11 ⟨rfl, hb11⟩
  have hbw11 := hbw10.trans (hb11.mono hbw10.size)
  have T11 : Hid _ := blkB hb11 T10.out (by omega)
  have A11 := hid_of' (A10.out.keep hb11.size fun q hq _ => hb11.block q hq)
  have S11 : Hid (SlA w11 aoG (markL 1 R)) := S10.out.below hb11
  have hz11 := hb11.size
  clear hb11 T10 A10 S10 hbw10
  have e0 := blk_cell T11.out 0 rfl
  have e1 := blk_cell T11.out 1 rfl
  have e2 := blk_cell T11.out 2 rfl
  have e3 := blk_cell T11.out 3 rfl
  go_wp2_with fail
  clear e0 e1 e2 e3
  refine (toBook_any B a1 a2 a3 c1 c2 c3 _ (hB.below hbw11) hS).mono ?_
  rintro e w12 ⟨z1, z2, z3, rfl, hX, hb12⟩
  go_wp2_with fail
  refine (HIM.out z1 z2 z3 _ _ _ _ (Nat.le_refl _) hX).mono ?_
  rintro e w13 ⟨aoH, capH, R2, rfl, hAH, hb13⟩
  have hbb13 := hb12.trans (hb13.mono hb12.size)
  have hbw13 := hbw11.trans (hbb13.mono hbw11.size)
  have A13 := hid_of' (A11.out.keep hbb13.size fun q hq _ => hbb13.block q hq)
  have S13 : Hid (SlA w13 aoG (markL 1 R)) := S11.out.below hbb13
  have hRb := HRL.out R2 hAH.eq
  have hR2l := hRb.1
  have HR2e : Hid _ := hRb.2
  have HEQ2 : Hid (R2.map (·.1) = R0.map (·.1)) := by unfold Hid; rw [HR0.out, hAH.eq]
  have S2 : Hid (SlA w13 aoH R2) := hAH.sl.sl
  clear hb12 hb13 hbb13 hX hAH hRb A11 S11 hbw11 T11
  go_wp2_with fail
  refine (eqActS_same R2 R0 aoH ao0 capH cap0 _ HEQ2.out (by omega) (fun r hr => Nat.le_trans (HR2e.out r hr) (by omega)) S2.out A13.out.sl).mono ?_
  rintro e w14 ⟨rfl, hb14⟩
  have hbw14 := hbw13.trans (hb14.mono hbw13.size)
  have S14 : Hid (SlA w14 aoG (markL 1 R)) := S13.out.below hb14
  clear hb14 A13 S13 S2 hbw13
  go_wp2_with fail
  refine (heldActS_any R aoG capG 1 _ (by omega) (fun r hr => Nat.le_trans (HRe.out r hr) (by omega)) (by omega) HKB.out S14.out).mono ?_
  rw [HM.out]
  rintro e w15 ⟨rfl, hb15⟩
  have hbw15 := hbw14.trans (hb15.mono hbw14.size)
  go_wp2
  go_ret
  exact ⟨rfl, hbw15⟩

end Go.Proofs.YtbceafpodamnfabGreat
