/-
  My own: Sm, So, Sp.
-/
import Derived.Test.YtbceafpodamnfabGreatA29
import Derived.Test.YtbceafpodamnfabGreatA20
set_option linter.unusedVariables false
set_option linter.unusedSimpArgs false
/-
  My own. Acts in a row of one's own, or nil: one more.
-/
namespace Go.Proofs.YtbceafpodamnfabGreat
open Go.RowKit Go.Sort

section
variable {P : Program}
/-- One element appended onto a row of one's own, or onto nil: all other blocks lie as they lay. -/
theorem wpList_append_mineG {ops : Array Oper} {rest : List Oper} {o : Oper} {a : Act} {w : World} {Q : Exit → Act → World → Prop} (hgd : o.guard = none) (s x : Operand) (t : TypeId)
    (ho : o.op = .call { callee := .builtin .append, args := #[s, x], argTypes := #[t, t] })
    (base : Nat) (e : TypeId) (z : Value) (size bytes : Nat) (ht : P.underlying t = some (.slice e)) (hinfo : (P.info? e).map (fun i => (i.zero, i.size, i.bytes)) = some (some z, size, bytes)) (hzs : z.cells.size = size) (hsz : 0 < size)
    (v : Value) (n : Nat) (xs : List Value) (hs : a.eval s = v) (hown : w.ownsRow base e size v n xs)
    (ad : Addr) (c : Nat) (news : List Value) (hx : a.eval x = .slice (some ad) 1 c) (hl : news.length = 1 * size) (hnews : ∀ j u, news[j]? = some u → w.cell? (ad.add j) = some u) (h1 : ∀ u ∈ news, u.oneCell' = true)
    (h63 : n + 1 ≤ maxLen) (hbytes : (n + 1) * bytes ≤ 140737488355328) (hbase : base ≤ w.heap.size)
    (h : ∀ g cap w', base ≤ g → Hid (w'.ownsRow base e size (.slice (some ⟨g, 0, none⟩) (n + 1) cap) (n + 1) (xs ++ news)) → Below base w w' → Hid (∀ k, k < w.heap.size → v.ownBlock ≠ some k → w'.heap[k]? = w.heap[k]?) → wpList P ops Q rest (a.put o.dst (.slice (some ⟨g, 0, none⟩) (n + 1) cap)) w') : wpList P ops Q (o :: rest) a w := by
  obtain ⟨i, hi, hz, hs', hb⟩ := info_parts hinfo
  refine wpList_append_own w hgd s x t ho base e i z size bytes ht hi hz hs' hb hzs hsz v n xs hs hown ad 1 c news hx hl hnews h1 h63 hbytes hbase fun v' w' ho' hgr _ => ?_
  have hb' : Below base w w' := ⟨hgr.os, hgr.tape, hgr.output, hgr.size, fun k hk => hgr.block k (by omega) (fun e' => by have := (hown.lt k e'.symm).1; omega)⟩
  rcases ho'.2 with ⟨_, h0⟩ | ⟨g, cap, cur, rfl, hbg, _⟩
  · omega
  · exact h g cap w' hbg ho' hb' fun k hk hne => hgr.block k hk (fun e' => hne e'.symm)
end

theorem actsV_len (R : List ActR) : (actsV R).length = R.length * 8 := by
  induction R with
  | nil => rfl
  | cons x l ih => unfold actsV at *; rw [List.flatMap_cons, List.length_append, ih, List.length_cons]; simp [actCells]; omega
theorem actsV_cells : ∀ (l : List ActR) (j : Nat) (x : ActR), l[j]? = some x → ∀ i, i < 8 → (actsV l)[j * 8 + i]? = (actCells x)[i]?
  | [], _, _, h => by simp at h
  | y :: l, 0, x, h => fun i hi => by
    simp at h; subst h
    rw [Nat.zero_mul, Nat.zero_add]
    unfold actsV
    rw [List.flatMap_cons, List.getElem?_append_left (by simp [actCells]; omega)]
  | y :: l, j + 1, x, h => fun i hi => by
    have := actsV_cells l j x (by simpa using h) i hi
    have hl : (actCells y).length = 8 := by simp [actCells]
    have e : actsV (y :: l) = actCells y ++ actsV l := rfl
    rw [e, List.getElem?_append_right (by rw [hl]; omega), hl, show (j + 1) * 8 + i - 8 = j * 8 + i by omega]
    exact this

structure AskO (lo : Nat) (w : World) (ao : Option Addr) (co : Nat) (R : List ActR) : Prop where
  row : w.ownsRow lo 59 8 (.slice ao R.length co) R.length (actsV R)
  ends : ∀ (j : Nat) r, R[j]? = some r → w.ownsRow lo 118 2 (.slice r.2.1 r.1.ends.length r.2.2) r.1.ends.length (ensV r.1.ends)
  apart : ∀ (i j : Nat) r r', R[i]? = some r → R[j]? = some r' → i ≠ j → r.1.ends ≠ [] → r'.1.ends ≠ [] → r.2.1 ≠ r'.2.1

theorem AskO.nil (lo : Nat) (w : World) : AskO lo w none 0 [] := ⟨World.ownsRow_nil _ _ _ _, fun j r h => by simp at h, fun i j r r' h => by simp at h⟩
theorem AskO.below {lo : Nat} {w w' : World} {ao : Option Addr} {co : Nat} {R : List ActR} (h : AskO lo w ao co R) (hb : Below w.heap.size w w') : AskO lo w' ao co R :=
  ⟨own_below h.row hb (Nat.le_refl _), fun j r hr => own_below (h.ends j r hr) hb (Nat.le_refl _), h.apart⟩

/-- The block of a row of ends that holds some. -/
theorem ends_block {lo : Nat} {w : World} {a : Option Addr} {c : Nat} {l : List En} (h : w.ownsRow lo 118 2 (.slice a l.length c) l.length (ensV l)) (hl : l ≠ []) : ∃ ge cur, a = some ⟨ge, 0, none⟩ ∧ lo ≤ ge ∧ w.heap[ge]? = some (.cells cur 118 (0, 0)) ∧ l.length * 2 ≤ cur.size ∧ cur.toList.take (l.length * 2) = ensV l := by
  rcases h.2 with ⟨_, h0⟩ | ⟨g, cap, cur, e1, h1, h2, h3, h4, h5, h6⟩
  · exact absurd (List.length_eq_zero_iff.1 h0) hl
  · refine ⟨g, cur, ?_, h1, h2, ?_, h6⟩
    · injection e1
    · rw [h5]; exact Nat.mul_le_mul_right _ h3

theorem AskO.add {lo N0 : Nat} {w w' : World} {ao : Option Addr} {co : Nat} {R : List ActR} (h : AskO lo w ao co R) (hlt : ∀ (j : Nat) r, R[j]? = some r → r.1.ends ≠ [] → ∀ ge, r.2.1 = some ⟨ge, 0, none⟩ → ge < N0) (r : ActR)
    (hr : w.ownsRow lo 118 2 (.slice r.2.1 r.1.ends.length r.2.2) r.1.ends.length (ensV r.1.ends)) (hrn : r.1.ends ≠ [] → ∀ ge, r.2.1 = some ⟨ge, 0, none⟩ → N0 ≤ ge)
    {g cap : Nat} (hrow : w'.ownsRow lo 59 8 (.slice (some ⟨g, 0, none⟩) (R.length + 1) cap) (R.length + 1) (actsV R ++ actCells r))
    (hk : ∀ k, k < w.heap.size → (Value.slice ao R.length co).ownBlock ≠ some k → w'.heap[k]? = w.heap[k]?) : AskO lo w' (some ⟨g, 0, none⟩) cap (R ++ [r]) := by
  have keep : ∀ (q : ActR), w.ownsRow lo 118 2 (.slice q.2.1 q.1.ends.length q.2.2) q.1.ends.length (ensV q.1.ends) → w'.ownsRow lo 118 2 (.slice q.2.1 q.1.ends.length q.2.2) q.1.ends.length (ensV q.1.ends) := fun q hq => by
    obtain ⟨h1, h2⟩ := hq
    refine ⟨h1, ?_⟩
    rcases h2 with h2 | ⟨ge, cp, cur, r1, r2, r3, r4⟩
    · exact .inl h2
    · refine .inr ⟨ge, cp, cur, r1, r2, (hk ge (Array.getElem?_eq_some_iff.1 r3).1 fun e => ?_).trans r3, r4⟩
      rcases h.row.2 with ⟨e1, _⟩ | ⟨g0, c0, cur0, e1, _, hg0, _⟩
      · rw [e1] at e; simp [Value.ownBlock] at e
      · rw [e1] at e
        obtain rfl : g0 = ge := by simpa [Value.ownBlock] using e
        rw [r3] at hg0
        have := Option.some.inj hg0
        injection this with _ ht _
        exact absurd ht (by decide)
  have at_ : ∀ (j : Nat) q, (R ++ [r])[j]? = some q → (j < R.length ∧ R[j]? = some q) ∨ (j = R.length ∧ q = r) := fun j q hq => by
    rcases Nat.lt_or_ge j R.length with hj | hj
    · rw [List.getElem?_append_left hj] at hq; exact .inl ⟨hj, hq⟩
    · rw [List.getElem?_append_right hj] at hq
      have : j - R.length = 0 := by
        rcases Nat.eq_zero_or_pos (j - R.length) with h0 | h0
        · exact h0
        · rw [List.getElem?_eq_none (by simp; omega)] at hq; cases hq
      rw [this] at hq
      exact .inr ⟨by omega, by simpa using hq.symm⟩
  refine ⟨?_, fun j q hq => ?_, fun i j q q' hi hj hij hq hq' => ?_⟩
  · rw [List.length_append, actsV_add]; exact hrow
  · rcases at_ j q hq with ⟨_, hq⟩ | ⟨_, rfl⟩
    · exact keep q (h.ends j q hq)
    · exact keep q hr
  · have blk : ∀ (k : Nat) (x : ActR), R[k]? = some x → x.1.ends ≠ [] → ∃ ge, x.2.1 = some ⟨ge, 0, none⟩ ∧ ge < N0 := fun k x hx hne => by
      obtain ⟨ge, _, e, _⟩ := ends_block (h.ends k x hx) hne
      exact ⟨ge, e, hlt k x hx hne ge e⟩
    have blkr : r.1.ends ≠ [] → ∃ ge, r.2.1 = some ⟨ge, 0, none⟩ ∧ N0 ≤ ge := fun hne => by
      obtain ⟨ge, _, e, _⟩ := ends_block hr hne
      exact ⟨ge, e, hrn hne ge e⟩
    rcases at_ i q hi with ⟨hil, hi'⟩ | ⟨hil, rfl⟩
    · rcases at_ j q' hj with ⟨hjl, hj'⟩ | ⟨hjl, rfl⟩
      · exact h.apart i j q q' hi' hj' hij hq hq'
      · obtain ⟨g1, e1, h1⟩ := blk i q hi' hq
        obtain ⟨g2, e2, h2⟩ := blkr hq'
        rw [e1, e2]; intro e; injection e with e; injection e; omega
    · rcases at_ j q' hj with ⟨hjl, hj'⟩ | ⟨hjl, rfl⟩
      · obtain ⟨g1, e1, h1⟩ := blk j q' hj' hq'
        obtain ⟨g2, e2, h2⟩ := blkr hq
        rw [e1, e2]; intro e; injection e with e; injection e; omega
      · omega

theorem AskO.askR {lo : Nat} {w : World} {ao : Option Addr} {co : Nat} {R : List ActR} (h : AskO lo w ao co R) : AskR lo w ao R (R.map (·.1)) := by
  refine ⟨rfl, fun hne => ?_, fun hne => ?_⟩
  all_goals
    have hrow := h.row
    rcases hrow.2 with ⟨_, h0⟩ | ⟨g, cap, cur, e1, h1, h2, h3, h4, h5, h6⟩
    · exact absurd (List.length_eq_zero_iff.1 h0) hne
  · have ea : ao = some ⟨g, 0, none⟩ := by injection e1
    subst ea
    refine ⟨g, 0, rfl, (Array.getElem?_eq_some_iff.1 h2).1, h1, fun i r hr => ⟨?_, fun hn => ?_⟩⟩
    · have hc := World.ownsRow.cells h.row (g := g) rfl
      have hv : ∀ (j : Nat) (u : Value), j < 8 → (actCells r)[j]? = some u → w.cell? ⟨g, 0 + i * 8 + j, none⟩ = some u := fun j u hj hu => by
        have := hc (i * 8 + j) u ((actsV_cells R i r hr j hj).trans hu)
        rw [Addr.add_lit, Nat.zero_add] at this
        rw [Nat.zero_add]
        exact this
      unfold AcAt
      exact ⟨hv 0 _ (by omega) rfl, hv 1 _ (by omega) rfl, hv 2 _ (by omega) rfl, hv 3 _ (by omega) rfl, hv 4 _ (by omega) rfl, hv 5 _ (by omega) rfl, hv 6 _ (by omega) rfl, hv 7 _ (by omega) rfl⟩
    · obtain ⟨ge, cur', e2, hl2, hb2, hs2, ht2⟩ := ends_block (h.ends i r hr) hn
      refine ⟨ge, 0, e2, (Array.getElem?_eq_some_iff.1 hb2).1, hl2, fun k s hs => ?_⟩
      have hc := ensV_at r.1.ends k s hs
      rw [← ht2] at hc
      unfold EnAt
      rw [Nat.zero_add]
      have hg : ∀ (q : Nat) (u : Value), (cur'.toList.take (r.1.ends.length * 2))[q]? = some u → w.cell? ⟨ge, q, none⟩ = some u := fun q u hu => by
        rw [cell_row hb2]
        rw [List.getElem?_take] at hu
        split at hu
        · exact hu
        · cases hu
      exact ⟨hg _ _ hc.1, hg _ _ hc.2⟩
  · have ea : ao = some ⟨g, 0, none⟩ := by injection e1
    refine ⟨g, ea, h1, ⟨cur, h2, ?_, fun i s hi hs j hj => ?_⟩, fun j r hr hn => ?_, h.apart⟩
    · have e : cur.toList.length = cur.size := Array.length_toList
      rw [e, h5]; exact Nat.mul_le_mul_right _ h3
    · have hc := actsV_cells R i s hs j hj
      rw [← h6, List.getElem?_take] at hc
      split at hc
      · exact hc
      · rename_i hx
        exfalso
        apply hx
        have : i * 8 + 8 ≤ R.length * 8 := by omega
        omega
    · obtain ⟨ge, cur', e2, hl2, hb2, hs2, _⟩ := ends_block (h.ends j r hr) hn
      refine ⟨ge, e2, hl2, fun e => ?_, cur', hb2, hs2⟩
      subst e
      rw [hb2] at h2
      have := Option.some.inj h2
      injection this with _ ht _
      exact absurd ht (by decide)

end Go.Proofs.YtbceafpodamnfabGreat

/-
  My own. The program's stewards: what is asked for, service by service.
-/
namespace Go.Proofs.YtbceafpodamnfabGreat
open Go.RowKit Go.Sort

theorem Tryz.infosArr7 : (Tryz.prog.info? 111).map (·.size) = some 7 := by kernel_rfl

def stewO (kind : Int) (s : Svc) (N : Cnt) (dr : Int) (L : List Sn) : Option Ac :=
  if kind = 1 then counterO s N dr L else if kind = 2 then waverO s N L else if kind = 3 then menderO s L else if kind = 4 then scalerO s else if kind = 5 then sweeperO s N L else drainerO s N L
def askI (kind : Int) (B : Bk) (s : Svc) : Option Ac := stewO kind s (cntTo s.image s.name B.cps B.cps.length) (drained (liveS B s (ofS s.name B.cps)) : Int) (liveS B s (ofS s.name B.cps))
theorem AskO.mono {lo lo' : Nat} {w : World} {ao : Option Addr} {co : Nat} {R : List ActR} (h : AskO lo w ao co R) (hl : lo' ≤ lo) : AskO lo' w ao co R := ⟨own_mono h.row hl, fun j r hr => own_mono (h.ends j r hr) hl, h.apart⟩
theorem AskO.ends_lt {lo : Nat} {w : World} {ao : Option Addr} {co : Nat} {R : List ActR} (h : AskO lo w ao co R) : ∀ (j : Nat) r, R[j]? = some r → r.1.ends ≠ [] → ∀ ge, r.2.1 = some ⟨ge, 0, none⟩ → ge < w.heap.size := fun j r hr hn ge e => by
  obtain ⟨g, cur, e1, _, hb, _⟩ := ends_block (h.ends j r hr) hn
  rw [e] at e1; injection e1 with e1; injection e1 with e1
  subst e1
  exact (Array.getElem?_eq_some_iff.1 hb).1

theorem perIn_of {B : Bk} (h : Valid B) {s : Svc} (hs : s ∈ B.svcs) (hp : s.per ≠ 0) : 0 < s.per ∧ PerIn s ∧ s.least ≤ s.most := by
  have h1 := svcB_of h.svcs hs
  unfold svcB perB at h1
  by_cases h0 : 0 < s.per
  · refine ⟨h0, h.perIn hs h0, ?_⟩
    rw [if_neg hp] at h1
    simp only [Bool.and_eq_true, inB_iff] at h1
    omega
  · exfalso
    rw [if_neg hp] at h1
    simp only [Bool.and_eq_true, inB_iff] at h1
    omega

set_option maxRecDepth 100000 in
set_option maxHeartbeats 16000000 in
theorem askIn_any (kind : Int) (hk1 : 1 ≤ kind) (hk6 : kind ≤ 6) (B : Bk) (a1 a2 a3 : Option Addr) (c1 c2 c3 : Nat) (w : World) (HCP : Hid (B.cps.length ≤ c2)) (hS : B.small) (hZ : B.sized) (hV : Valid B) (hB : BkAt w a1 a2 a3 B) :
    Calls Tryz.prog 29 #[.int .i64 kind, .agg #[.int .i64 B.now, .slice a1 B.svcs.length c1, .slice a2 B.cps.length c2, .slice a3 B.bts.length c3]] w fun e w' => ∃ ao co R, e = .returned (.slice ao R.length co) ∧ Hid (AskO w.heap.size w' ao co R) ∧ Hid (R.map (·.1) = B.svcs.filterMap (askI kind B)) ∧ Below w.heap.size w w' := by
  obtain ⟨W0, hW0⟩ : ∃ W, w.alloc (.cells #[.int .i64 B.now, .slice a1 B.svcs.length c1, .slice a2 B.cps.length c2, .slice a3 B.bts.length c3] 34) = W := ⟨_, rfl⟩
  have hb0 := below_box w (.cells #[.int .i64 B.now, .slice a1 B.svcs.length c1, .slice a2 B.cps.length c2, .slice a3 B.bts.length c3] 34)
  have hzz : (w.alloc (.cells #[.int .i64 B.now, .slice a1 B.svcs.length c1, .slice a2 B.cps.length c2, .slice a3 B.bts.length c3] 34)).heap.size = w.heap.size + 1 := by show (w.heap.push _).size = _; simp
  have T0 : Hid _ := heap_alloc_new w (.cells #[.int .i64 B.now, .slice a1 B.svcs.length c1, .slice a2 B.cps.length c2, .slice a3 B.bts.length c3] 34)
  rw [hW0] at hb0 T0 hzz
  have hz0 : w.heap.size + 1 ≤ W0.heap.size := by omega
  clear hzz
  have hls := hV.ls
  go_enter Tryz.func29, Tryz.ntmps29
  go_upto_region 2 with fail
  clear hW0
  have e0 := blk_cell T0.out 0 rfl
  have e1 := blk_cell T0.out 1 rfl
  have e2 := blk_cell T0.out 2 rfl
  have e3 := blk_cell T0.out 3 rfl
  go_wp2_with fail
  refine (placesIn_x B a1 a2 a3 c1 c2 c3 _ hS hZ (uniq_of hV.svcs) (uniqB_of hV.bts) (hB.below hb0)).mono ?_
  rintro e w1 ⟨rfl, hPl, hb1⟩
  obtain ⟨b, hbe⟩ : ∃ b, W0.heap.size + 1 = b := ⟨_, rfl⟩
  rw [hbe] at hPl
  rw [hbe]
  have P1 : Hid (PlacesX w1 b B B.svcs.length B.bts.length) := hPl
  have hbl := hPl.lt
  have hbw1 := hb0.trans (hb1.mono hb0.size)
  have hz1 := hb1.size
  have T1 : Hid _ := below_blk hb1 T0.out (by omega)
  have HB1 : Hid (BkAt w1 a1 a2 a3 B) := hB.below hbw1
  clear e0 e1 e2 e3 hb1 hb0 T0 hPl hbe
  have e1 := blk_cell T1.out 1 rfl
  go_wp2
  clear e1
  go_loopw [5, 18] (fun ov iv wr => ∃ (k n : Nat) (ao : Option Addr) (co : Nat) (R : List ActR), k ≤ B.svcs.length ∧ iv = .int .i64 k ∧ ov = .slice ao n co ∧ Hid (n = R.length) ∧ n ≤ k ∧ Hid (R.map (·.1) = (B.svcs.take k).filterMap (askI kind B)) ∧ Below w1.heap.size w1 wr ∧ Hid (AskO w1.heap.size wr ao co R)) (fun _ i _ => B.svcs.length - (intOf i).toNat)
  case atStart => exact ⟨0, 0, none, 0, [], by omega, rfl, rfl, rfl, Nat.le_refl _, rfl, Below.refl _ _, AskO.nil _ _⟩
  case round =>
    obtain ⟨k, n, ao, co, R, hk, rfl, rfl, HNR, hnk, HR, hb, HA⟩ := hrel
    have hz := hb.size
    by_cases hlt : k < B.svcs.length
    · obtain ⟨s, hsk⟩ : ∃ s, B.svcs[k]? = some s := ⟨B.svcs[k], by simp [hlt]⟩
      have hmem := List.mem_of_getElem? hsk
      have hsi := hV.svcIn hmem
      have HPER : Hid (s.per ≠ 0 → 0 < s.per ∧ PerIn s ∧ s.least ≤ s.most) := fun hp => perIn_of hV hmem hp
      have HT : Hid ((B.svcs.take (k + 1)).filterMap (askI kind B) = (B.svcs.take k).filterMap (askI kind B) ++ (askI kind B s).toList) := by
        unfold Hid; rw [List.take_add_one, hsk, List.filterMap_append]
        cases h : askI kind B s <;> simp [h]
      have hne : B.svcs ≠ [] := by intro h; rw [h] at hlt; simp at hlt
      have HBr : Hid (BkAt wr a1 a2 a3 B) := HB1.out.below hb
      obtain ⟨bS, oS, ea, hbs, hat⟩ := HBr.out.1 hne
      subst ea
      have hsx := hat k s hsk
      unfold SvcAt at hsx
      obtain ⟨x0, x1, x2, x3, x4, x5, x6, x7, x8, x9, x10, x11, x12⟩ := hsx
      obtain ⟨Wa, hWa⟩ : ∃ W, wr.alloc (.cells #[.string s.name, .int .i64 s.version, .bool s.gone, .int .i64 s.image, .int .i64 s.want, .int .i64 s.down, .int .i64 s.over, .int .i64 s.next, .int .i64 s.per, .int .i64 s.least, .int .i64 s.most, .int .i64 s.load, .int .i64 s.cool] 48) = W := ⟨_, rfl⟩
      have hba := below_box wr (.cells #[.string s.name, .int .i64 s.version, .bool s.gone, .int .i64 s.image, .int .i64 s.want, .int .i64 s.down, .int .i64 s.over, .int .i64 s.next, .int .i64 s.per, .int .i64 s.least, .int .i64 s.most, .int .i64 s.load, .int .i64 s.cool] 48)
      have X1 : Hid _ := heap_alloc_new wr (.cells #[.string s.name, .int .i64 s.version, .bool s.gone, .int .i64 s.image, .int .i64 s.want, .int .i64 s.down, .int .i64 s.over, .int .i64 s.next, .int .i64 s.per, .int .i64 s.least, .int .i64 s.most, .int .i64 s.load, .int .i64 s.cool] 48)
      have hza : wr.heap.size < (wr.alloc (.cells #[.string s.name, .int .i64 s.version, .bool s.gone, .int .i64 s.image, .int .i64 s.want, .int .i64 s.down, .int .i64 s.over, .int .i64 s.next, .int .i64 s.per, .int .i64 s.least, .int .i64 s.most, .int .i64 s.load, .int .i64 s.cool] 48)).heap.size := by simp
      rw [hWa] at hba X1 hza
      obtain ⟨N, HN⟩ : ∃ N, Hid (N = cntTo s.image s.name B.cps B.cps.length) := ⟨_, rfl⟩
      obtain ⟨L, HL⟩ : ∃ L, Hid (L = liveS B s (ofS s.name B.cps)) := ⟨_, rfl⟩
      obtain ⟨dr, HDR⟩ : ∃ dr : Int, Hid (dr = (drained L : Int)) := ⟨_, rfl⟩
      have HAI : Hid (askI kind B s = stewO kind s N dr L) := by unfold Hid askI; rw [HN.out, HDR.out, HL.out]
      have hLl : L.length ≤ 1048576 := by rw [HL.out]; exact Nat.le_trans (liveS_len B s _) (Nat.le_trans (ofS_length s.name B.cps) hS.2.1)
      have hNb := cntTo_upTo s.image s.name B.cps B.cps.length (Nat.le_refl _)
      rw [← HN.out] at hNb
      unfold Cnt.upTo at hNb
      obtain ⟨n0, n1, n2, n3, n4, n5, n6, n7, n8, n9⟩ := hNb
      have hl2 := hS.2.1
      clear hsk hne hat hmem
      go_upto_region 6 with fail
      clear hWa x0 x1 x2 x3 x4 x5 x6 x7 x8 x9 x10 x11 x12
      have hbWa := hb.trans (hba.mono hz)
      have Ta : Hid _ := below_blk hbWa T1.out (by omega)
      have e0 := blk_cell Ta.out 0 rfl
      have e1 := blk_cell Ta.out 1 rfl
      have e2 := blk_cell Ta.out 2 rfl
      have e3 := blk_cell Ta.out 3 rfl
      go_wp2_with (first
        | (refine wpList_load_row rfl 48 (.tmp 8) rfl wr.heap.size rfl 48 #[.string s.name, .int .i64 s.version, .bool s.gone, .int .i64 s.image, .int .i64 s.want, .int .i64 s.down, .int .i64 s.over, .int .i64 s.next, .int .i64 s.per, .int .i64 s.least, .int .i64 s.most, .int .i64 s.load, .int .i64 s.cool] (0, 0) _ X1.out Tryz.underlying48 rfl Tryz.infosSvcS ?_))
      refine (sightOf_any B s b N _ a2 a3 c1 c2 c3 _ hV HCP hS hZ (P1.out.below hbWa hbl) (HBr.out.below hba) HN L HL dr HDR).mono ?_
      rintro e w2 ⟨al, cl, rfl, HO2, hb2⟩
      clear e0 e1 e2 e3 Ta X1
      have hz2 := hb2.size
      have hbw2 := hbWa.trans (hb2.mono (by omega))
      have HA2 : Hid (AskO w1.heap.size w2 ao co R) := (HA.out.below hba).below hb2
      have O2 : Hid (OwnSn Wa.heap.size w2 al cl L) := HO2.out
      clear HO2 hb2 HA hba
      go_upto_region 7 with (first
        | (refine wpList_store_only rfl 108 (.tmp 9) (.tmp 25) rfl w2.heap.size 0 #[.string s.name, .int .i64 s.version, .bool s.gone, .int .i64 s.image, .int .i64 s.want, .int .i64 s.down, .int .i64 s.over, .int .i64 s.next, .int .i64 s.per, .int .i64 s.least, .int .i64 s.most, .int .i64 s.load, .int .i64 s.cool, .int .i64 N.live, .int .i64 N.ready, .int .i64 N.old, .int .i64 N.failed, .int .i64 N.ending, .int .i64 dr, .slice al L.length cl] rfl rfl 108 #[.string ⟨#[]⟩, .int .i64 0, .bool false, .int .i64 0, .int .i64 0, .int .i64 0, .int .i64 0, .int .i64 0, .int .i64 0, .int .i64 0, .int .i64 0, .int .i64 0, .int .i64 0, .int .i64 0, .int .i64 0, .int .i64 0, .int .i64 0, .int .i64 0, .int .i64 0, .slice none 0 0] (heap_alloc_new w2 _) Tryz.infosSight (Nat.le_of_ble_eq_true rfl) (by simp [Value.oneCell']) ?_; intro w3 hz on; have S3 : Hid (w3.heap[w2.heap.size]? = some (.cells #[.string s.name, .int .i64 s.version, .bool s.gone, .int .i64 s.image, .int .i64 s.want, .int .i64 s.down, .int .i64 s.over, .int .i64 s.next, .int .i64 s.per, .int .i64 s.least, .int .i64 s.most, .int .i64 s.load, .int .i64 s.cool, .int .i64 N.live, .int .i64 N.ready, .int .i64 N.old, .int .i64 N.failed, .int .i64 N.ending, .int .i64 dr, .slice al L.length cl] 108 (0, 0))) := hz; have hb3 : Below w2.heap.size w2 w3 := (below_box w2 _).trans on.below; have hz3 : w3.heap.size = w2.heap.size + 1 := (by rw [on.size]; show (w2.heap.push _).size = _; simp); clear hz on))
      obtain ⟨W4, hW4⟩ : ∃ W, w3.alloc (.cells #[.nilFunc, .func (.func 73) #[.agg #[.string s.name, .int .i64 s.version, .bool s.gone, .int .i64 s.image, .int .i64 s.want, .int .i64 s.down, .int .i64 s.over, .int .i64 s.next, .int .i64 s.per, .int .i64 s.least, .int .i64 s.most, .int .i64 s.load, .int .i64 s.cool, .int .i64 N.live, .int .i64 N.ready, .int .i64 N.old, .int .i64 N.failed, .int .i64 N.ending, .int .i64 dr, .slice al L.length cl]] #[], .func (.func 74) #[.agg #[.string s.name, .int .i64 s.version, .bool s.gone, .int .i64 s.image, .int .i64 s.want, .int .i64 s.down, .int .i64 s.over, .int .i64 s.next, .int .i64 s.per, .int .i64 s.least, .int .i64 s.most, .int .i64 s.load, .int .i64 s.cool, .int .i64 N.live, .int .i64 N.ready, .int .i64 N.old, .int .i64 N.failed, .int .i64 N.ending, .int .i64 dr, .slice al L.length cl]] #[], .func (.func 75) #[.agg #[.string s.name, .int .i64 s.version, .bool s.gone, .int .i64 s.image, .int .i64 s.want, .int .i64 s.down, .int .i64 s.over, .int .i64 s.next, .int .i64 s.per, .int .i64 s.least, .int .i64 s.most, .int .i64 s.load, .int .i64 s.cool, .int .i64 N.live, .int .i64 N.ready, .int .i64 N.old, .int .i64 N.failed, .int .i64 N.ending, .int .i64 dr, .slice al L.length cl]] #[], .func (.func 76) #[.agg #[.string s.name, .int .i64 s.version, .bool s.gone, .int .i64 s.image, .int .i64 s.want, .int .i64 s.down, .int .i64 s.over, .int .i64 s.next, .int .i64 s.per, .int .i64 s.least, .int .i64 s.most, .int .i64 s.load, .int .i64 s.cool, .int .i64 N.live, .int .i64 N.ready, .int .i64 N.old, .int .i64 N.failed, .int .i64 N.ending, .int .i64 dr, .slice al L.length cl]] #[], .func (.func 77) #[.agg #[.string s.name, .int .i64 s.version, .bool s.gone, .int .i64 s.image, .int .i64 s.want, .int .i64 s.down, .int .i64 s.over, .int .i64 s.next, .int .i64 s.per, .int .i64 s.least, .int .i64 s.most, .int .i64 s.load, .int .i64 s.cool, .int .i64 N.live, .int .i64 N.ready, .int .i64 N.old, .int .i64 N.failed, .int .i64 N.ending, .int .i64 dr, .slice al L.length cl]] #[], .func (.func 78) #[.agg #[.string s.name, .int .i64 s.version, .bool s.gone, .int .i64 s.image, .int .i64 s.want, .int .i64 s.down, .int .i64 s.over, .int .i64 s.next, .int .i64 s.per, .int .i64 s.least, .int .i64 s.most, .int .i64 s.load, .int .i64 s.cool, .int .i64 N.live, .int .i64 N.ready, .int .i64 N.old, .int .i64 N.failed, .int .i64 N.ending, .int .i64 dr, .slice al L.length cl]] #[]] 111) = W := ⟨_, rfl⟩
      have hb4 := below_box w3 (.cells #[.nilFunc, .func (.func 73) #[.agg #[.string s.name, .int .i64 s.version, .bool s.gone, .int .i64 s.image, .int .i64 s.want, .int .i64 s.down, .int .i64 s.over, .int .i64 s.next, .int .i64 s.per, .int .i64 s.least, .int .i64 s.most, .int .i64 s.load, .int .i64 s.cool, .int .i64 N.live, .int .i64 N.ready, .int .i64 N.old, .int .i64 N.failed, .int .i64 N.ending, .int .i64 dr, .slice al L.length cl]] #[], .func (.func 74) #[.agg #[.string s.name, .int .i64 s.version, .bool s.gone, .int .i64 s.image, .int .i64 s.want, .int .i64 s.down, .int .i64 s.over, .int .i64 s.next, .int .i64 s.per, .int .i64 s.least, .int .i64 s.most, .int .i64 s.load, .int .i64 s.cool, .int .i64 N.live, .int .i64 N.ready, .int .i64 N.old, .int .i64 N.failed, .int .i64 N.ending, .int .i64 dr, .slice al L.length cl]] #[], .func (.func 75) #[.agg #[.string s.name, .int .i64 s.version, .bool s.gone, .int .i64 s.image, .int .i64 s.want, .int .i64 s.down, .int .i64 s.over, .int .i64 s.next, .int .i64 s.per, .int .i64 s.least, .int .i64 s.most, .int .i64 s.load, .int .i64 s.cool, .int .i64 N.live, .int .i64 N.ready, .int .i64 N.old, .int .i64 N.failed, .int .i64 N.ending, .int .i64 dr, .slice al L.length cl]] #[], .func (.func 76) #[.agg #[.string s.name, .int .i64 s.version, .bool s.gone, .int .i64 s.image, .int .i64 s.want, .int .i64 s.down, .int .i64 s.over, .int .i64 s.next, .int .i64 s.per, .int .i64 s.least, .int .i64 s.most, .int .i64 s.load, .int .i64 s.cool, .int .i64 N.live, .int .i64 N.ready, .int .i64 N.old, .int .i64 N.failed, .int .i64 N.ending, .int .i64 dr, .slice al L.length cl]] #[], .func (.func 77) #[.agg #[.string s.name, .int .i64 s.version, .bool s.gone, .int .i64 s.image, .int .i64 s.want, .int .i64 s.down, .int .i64 s.over, .int .i64 s.next, .int .i64 s.per, .int .i64 s.least, .int .i64 s.most, .int .i64 s.load, .int .i64 s.cool, .int .i64 N.live, .int .i64 N.ready, .int .i64 N.old, .int .i64 N.failed, .int .i64 N.ending, .int .i64 dr, .slice al L.length cl]] #[], .func (.func 78) #[.agg #[.string s.name, .int .i64 s.version, .bool s.gone, .int .i64 s.image, .int .i64 s.want, .int .i64 s.down, .int .i64 s.over, .int .i64 s.next, .int .i64 s.per, .int .i64 s.least, .int .i64 s.most, .int .i64 s.load, .int .i64 s.cool, .int .i64 N.live, .int .i64 N.ready, .int .i64 N.old, .int .i64 N.failed, .int .i64 N.ending, .int .i64 dr, .slice al L.length cl]] #[]] 111)
      have F4 : Hid _ := heap_alloc_new w3 (.cells #[.nilFunc, .func (.func 73) #[.agg #[.string s.name, .int .i64 s.version, .bool s.gone, .int .i64 s.image, .int .i64 s.want, .int .i64 s.down, .int .i64 s.over, .int .i64 s.next, .int .i64 s.per, .int .i64 s.least, .int .i64 s.most, .int .i64 s.load, .int .i64 s.cool, .int .i64 N.live, .int .i64 N.ready, .int .i64 N.old, .int .i64 N.failed, .int .i64 N.ending, .int .i64 dr, .slice al L.length cl]] #[], .func (.func 74) #[.agg #[.string s.name, .int .i64 s.version, .bool s.gone, .int .i64 s.image, .int .i64 s.want, .int .i64 s.down, .int .i64 s.over, .int .i64 s.next, .int .i64 s.per, .int .i64 s.least, .int .i64 s.most, .int .i64 s.load, .int .i64 s.cool, .int .i64 N.live, .int .i64 N.ready, .int .i64 N.old, .int .i64 N.failed, .int .i64 N.ending, .int .i64 dr, .slice al L.length cl]] #[], .func (.func 75) #[.agg #[.string s.name, .int .i64 s.version, .bool s.gone, .int .i64 s.image, .int .i64 s.want, .int .i64 s.down, .int .i64 s.over, .int .i64 s.next, .int .i64 s.per, .int .i64 s.least, .int .i64 s.most, .int .i64 s.load, .int .i64 s.cool, .int .i64 N.live, .int .i64 N.ready, .int .i64 N.old, .int .i64 N.failed, .int .i64 N.ending, .int .i64 dr, .slice al L.length cl]] #[], .func (.func 76) #[.agg #[.string s.name, .int .i64 s.version, .bool s.gone, .int .i64 s.image, .int .i64 s.want, .int .i64 s.down, .int .i64 s.over, .int .i64 s.next, .int .i64 s.per, .int .i64 s.least, .int .i64 s.most, .int .i64 s.load, .int .i64 s.cool, .int .i64 N.live, .int .i64 N.ready, .int .i64 N.old, .int .i64 N.failed, .int .i64 N.ending, .int .i64 dr, .slice al L.length cl]] #[], .func (.func 77) #[.agg #[.string s.name, .int .i64 s.version, .bool s.gone, .int .i64 s.image, .int .i64 s.want, .int .i64 s.down, .int .i64 s.over, .int .i64 s.next, .int .i64 s.per, .int .i64 s.least, .int .i64 s.most, .int .i64 s.load, .int .i64 s.cool, .int .i64 N.live, .int .i64 N.ready, .int .i64 N.old, .int .i64 N.failed, .int .i64 N.ending, .int .i64 dr, .slice al L.length cl]] #[], .func (.func 78) #[.agg #[.string s.name, .int .i64 s.version, .bool s.gone, .int .i64 s.image, .int .i64 s.want, .int .i64 s.down, .int .i64 s.over, .int .i64 s.next, .int .i64 s.per, .int .i64 s.least, .int .i64 s.most, .int .i64 s.load, .int .i64 s.cool, .int .i64 N.live, .int .i64 N.ready, .int .i64 N.old, .int .i64 N.failed, .int .i64 N.ending, .int .i64 dr, .slice al L.length cl]] #[]] 111)
      rw [hW4] at hb4 F4
      go_upto_region 8 with (first
        | (refine wpList_load_row rfl 108 (.tmp 9) rfl w2.heap.size rfl 108 #[.string s.name, .int .i64 s.version, .bool s.gone, .int .i64 s.image, .int .i64 s.want, .int .i64 s.down, .int .i64 s.over, .int .i64 s.next, .int .i64 s.per, .int .i64 s.least, .int .i64 s.most, .int .i64 s.load, .int .i64 s.cool, .int .i64 N.live, .int .i64 N.ready, .int .i64 N.old, .int .i64 N.failed, .int .i64 N.ending, .int .i64 dr, .slice al L.length cl] (0, 0) _ S3.out Tryz.underlying108 rfl Tryz.infosSight ?_))
      clear hW4
      obtain ⟨o, HOO⟩ : ∃ o, Hid (stewO kind s N dr L = o) := ⟨_, rfl⟩
      have hbw4 := hbw2.trans ((hb3.trans (hb4.mono (by omega))).mono (by omega))
      have hb24 : Below w2.heap.size w2 W4 := hb3.trans (hb4.mono (by omega))
      have HA4 : Hid (AskO w1.heap.size W4 ao co R) := HA2.out.below hb24
      have O4 : Hid (OwnSn Wa.heap.size W4 al cl L) := own_below O2.out hb24 (Nat.le_refl _)
      have hN0 : 0 ≤ N.live := by omega
      have hN1 : N.live ≤ 1048576 := by omega
      have hr0 : 0 ≤ N.ready := by omega
      have hr1 : N.ready ≤ 1048576 := by omega
      rw [hz3] at F4
      obtain ⟨fk, hent, HCELL, HCALL⟩ : ∃ fk : Nat, (∀ args w, (callFunc fk args).run Tryz.prog w = .ok (.enter fk args) w) ∧ Hid (∀ W : World, W.heap[w2.heap.size + 1]? = some (.cells #[.nilFunc, .func (.func 73) #[.agg #[.string s.name, .int .i64 s.version, .bool s.gone, .int .i64 s.image, .int .i64 s.want, .int .i64 s.down, .int .i64 s.over, .int .i64 s.next, .int .i64 s.per, .int .i64 s.least, .int .i64 s.most, .int .i64 s.load, .int .i64 s.cool, .int .i64 N.live, .int .i64 N.ready, .int .i64 N.old, .int .i64 N.failed, .int .i64 N.ending, .int .i64 dr, .slice al L.length cl]] #[], .func (.func 74) #[.agg #[.string s.name, .int .i64 s.version, .bool s.gone, .int .i64 s.image, .int .i64 s.want, .int .i64 s.down, .int .i64 s.over, .int .i64 s.next, .int .i64 s.per, .int .i64 s.least, .int .i64 s.most, .int .i64 s.load, .int .i64 s.cool, .int .i64 N.live, .int .i64 N.ready, .int .i64 N.old, .int .i64 N.failed, .int .i64 N.ending, .int .i64 dr, .slice al L.length cl]] #[], .func (.func 75) #[.agg #[.string s.name, .int .i64 s.version, .bool s.gone, .int .i64 s.image, .int .i64 s.want, .int .i64 s.down, .int .i64 s.over, .int .i64 s.next, .int .i64 s.per, .int .i64 s.least, .int .i64 s.most, .int .i64 s.load, .int .i64 s.cool, .int .i64 N.live, .int .i64 N.ready, .int .i64 N.old, .int .i64 N.failed, .int .i64 N.ending, .int .i64 dr, .slice al L.length cl]] #[], .func (.func 76) #[.agg #[.string s.name, .int .i64 s.version, .bool s.gone, .int .i64 s.image, .int .i64 s.want, .int .i64 s.down, .int .i64 s.over, .int .i64 s.next, .int .i64 s.per, .int .i64 s.least, .int .i64 s.most, .int .i64 s.load, .int .i64 s.cool, .int .i64 N.live, .int .i64 N.ready, .int .i64 N.old, .int .i64 N.failed, .int .i64 N.ending, .int .i64 dr, .slice al L.length cl]] #[], .func (.func 77) #[.agg #[.string s.name, .int .i64 s.version, .bool s.gone, .int .i64 s.image, .int .i64 s.want, .int .i64 s.down, .int .i64 s.over, .int .i64 s.next, .int .i64 s.per, .int .i64 s.least, .int .i64 s.most, .int .i64 s.load, .int .i64 s.cool, .int .i64 N.live, .int .i64 N.ready, .int .i64 N.old, .int .i64 N.failed, .int .i64 N.ending, .int .i64 dr, .slice al L.length cl]] #[], .func (.func 78) #[.agg #[.string s.name, .int .i64 s.version, .bool s.gone, .int .i64 s.image, .int .i64 s.want, .int .i64 s.down, .int .i64 s.over, .int .i64 s.next, .int .i64 s.per, .int .i64 s.least, .int .i64 s.most, .int .i64 s.load, .int .i64 s.cool, .int .i64 N.live, .int .i64 N.ready, .int .i64 N.old, .int .i64 N.failed, .int .i64 N.ending, .int .i64 dr, .slice al L.length cl]] #[]] 111 (0, 0)) → W.cell? ⟨w2.heap.size + 1, kind.toNat, none⟩ = some (.func (.func fk) #[.agg #[.string s.name, .int .i64 s.version, .bool s.gone, .int .i64 s.image, .int .i64 s.want, .int .i64 s.down, .int .i64 s.over, .int .i64 s.next, .int .i64 s.per, .int .i64 s.least, .int .i64 s.most, .int .i64 s.load, .int .i64 s.cool, .int .i64 N.live, .int .i64 N.ready, .int .i64 N.old, .int .i64 N.failed, .int .i64 N.ending, .int .i64 dr, .slice al L.length cl]] #[])) ∧ Hid (∀ W : World, OwnSn Wa.heap.size W al cl L → Calls Tryz.prog fk #[.agg #[.string s.name, .int .i64 s.version, .bool s.gone, .int .i64 s.image, .int .i64 s.want, .int .i64 s.down, .int .i64 s.over, .int .i64 s.next, .int .i64 s.per, .int .i64 s.least, .int .i64 s.most, .int .i64 s.load, .int .i64 s.cool, .int .i64 N.live, .int .i64 N.ready, .int .i64 N.old, .int .i64 N.failed, .int .i64 N.ending, .int .i64 dr, .slice al L.length cl]] W fun e w' => Asked W.heap.size w' e o ∧ Below W.heap.size W w') := by
        rcases (show kind = 1 ∨ kind = 2 ∨ kind = 3 ∨ kind = 4 ∨ kind = 5 ∨ kind = 6 by omega) with rfl | rfl | rfl | rfl | rfl | rfl
        · refine ⟨73, enters_of Tryz.func73 (by kernel_rfl) rfl, fun W h => blk_cell h 1 rfl, fun W h => ?_⟩
          have e : counterO s N dr L = o := by rw [← HOO.out]; unfold stewO; simp
          have := counter_any s N dr L Wa.heap.size al cl W hLl hsi hN0 hN1 hr0 hr1 h
          rw [e] at this
          exact this
        · refine ⟨74, enters_of Tryz.func74 (by kernel_rfl) rfl, fun W h => blk_cell h 2 rfl, fun W h => ?_⟩
          have e : waverO s N L = o := by rw [← HOO.out]; unfold stewO; simp
          have := waver_any s N dr L Wa.heap.size al cl W hLl hsi hN0 hN1 hr0 hr1 h
          rw [e] at this
          exact this
        · refine ⟨75, enters_of Tryz.func75 (by kernel_rfl) rfl, fun W h => blk_cell h 3 rfl, fun W h => ?_⟩
          have e : menderO s L = o := by rw [← HOO.out]; unfold stewO; simp
          have := mender_any s N dr L Wa.heap.size al cl W hLl hsi hN0 hN1 hr0 hr1 h
          rw [e] at this
          exact this
        · refine ⟨76, enters_of Tryz.func76 (by kernel_rfl) rfl, fun W h => blk_cell h 4 rfl, fun W h => ?_⟩
          have e : scalerO s = o := by rw [← HOO.out]; unfold stewO; simp
          have := scaler_any s N dr L Wa.heap.size al cl W hLl hsi HPER.out hN0 hN1 hr0 hr1 h
          rw [e] at this
          exact this
        · refine ⟨77, enters_of Tryz.func77 (by kernel_rfl) rfl, fun W h => blk_cell h 5 rfl, fun W h => ?_⟩
          have e : sweeperO s N L = o := by rw [← HOO.out]; unfold stewO; simp
          have := sweeper_any s N dr L Wa.heap.size al cl W hLl hsi hN0 hN1 hr0 hr1 h
          rw [e] at this
          exact this
        · refine ⟨78, enters_of Tryz.func78 (by kernel_rfl) rfl, fun W h => blk_cell h 6 rfl, fun W h => ?_⟩
          have e : drainerO s N L = o := by rw [← HOO.out]; unfold stewO; simp
          have := drainer_any s N dr L Wa.heap.size al cl W hLl hsi hN0 hN1 hr0 hr1 h
          rw [e] at this
          exact this
      have hcell := HCELL.out W4 F4.out
      have hk0 : 0 ≤ kind := by omega
      have hk7 : kind < 7 := by omega
      have hz4 := hb24.size
      clear HCELL F4 S3 O2 HA2 hb3 hb4 hb24 hbw2
      go_wp2_with fail
      refine (HCALL.out _ O4.out).mono ?_
      rintro e w5 ⟨⟨A, ae, ce, rfl, HE5, HA'⟩, hb5⟩
      have hz5 := hb5.size
      have HA5 : Hid (AskO w1.heap.size w5 ao co R) := HA4.out.below hb5
      have HLT : Hid _ := HA4.out.ends_lt
      have hbw5 := hbw4.trans (hb5.mono (by omega))
      clear hcell O4 hb5 HA4 hbw4 HCALL hent
      obtain ⟨W6, hW6⟩ : ∃ W, w5.alloc (.cells #[.string A.service, .int .i64 A.seen, .int .i64 A.create, .int .i64 A.want, .int .i64 A.cool, .bool A.scale, .slice ae A.ends.length ce, .bool A.drop] 59) = W := ⟨_, rfl⟩
      have hb6 := below_box w5 (.cells #[.string A.service, .int .i64 A.seen, .int .i64 A.create, .int .i64 A.want, .int .i64 A.cool, .bool A.scale, .slice ae A.ends.length ce, .bool A.drop] 59)
      have F6 : Hid _ := heap_alloc_new w5 (.cells #[.string A.service, .int .i64 A.seen, .int .i64 A.create, .int .i64 A.want, .int .i64 A.cool, .bool A.scale, .slice ae A.ends.length ce, .bool A.drop] 59)
      rw [hW6] at hb6 F6
      have hz6 := hb6.size
      have hbw6 := hbw5.trans (hb6.mono (by omega))
      have HA6 : Hid (AskO w1.heap.size W6 ao co R) := HA5.out.below hb6
      cases o with
      | none =>
        simp only [Option.isSome_none]
        go_wp2
        go_roundw
        case rel => exact ⟨k + 1, n, ao, co, R, by omega, by go_num, rfl, HNR, by omega, by unfold Hid; rw [HT.out, HAI.out, HOO.out, HR.out]; simp, hbw6, HA6⟩
        case measure => simp [intOf]; omega
      | some A' =>
        obtain rfl := HA'.out A' rfl
        have HE6 : Hid _ := own_below HE5.out hb6 (Nat.le_refl _)
        simp only [Option.isSome_some]
        go_upto_region 10 with fail
        clear hW6
        go_wp2_with (first
          | (refine wpList_load_row rfl 59 (.tmp 11) rfl w5.heap.size rfl 59 #[.string A.service, .int .i64 A.seen, .int .i64 A.create, .int .i64 A.want, .int .i64 A.cool, .bool A.scale, .slice ae A.ends.length ce, .bool A.drop] (0, 0) _ F6.out Tryz.underlying59 rfl Tryz.infosActS ?_)
          | (at_builtin; refine wpList_append_mineG rfl (.tmp 47) (.tmp 49) 28 rfl w1.heap.size 59 _ 8 88 Tryz.underlying28 Tryz.infoAct rfl (by omega) (.slice ao n co) n _ rfl (show (W6.alloc (.cells #[.string A.service, .int .i64 A.seen, .int .i64 A.create, .int .i64 A.want, .int .i64 A.cool, .bool A.scale, .slice ae A.ends.length ce, .bool A.drop] 59)).ownsRow w1.heap.size 59 8 (.slice ao n co) n (actsV R) by rw [HNR.out]; exact (HA6.out.below (below_box W6 _)).row) ⟨W6.heap.size, 0, none⟩ 1 (#[.string A.service, .int .i64 A.seen, .int .i64 A.create, .int .i64 A.want, .int .i64 A.cool, .bool A.scale, .slice ae A.ends.length ce, .bool A.drop] : Array Value).toList rfl rfl (news_row (heap_alloc_new W6 _)) (fun u hu => (Array.all_eq_true_iff_forall_mem.1 (one_Act A ae ce)) u (by simpa using hu)) (by unfold maxLen; omega) (by omega) (by simp; omega) ?_; intro g' cap' w7 hg' O7 hb7 K7))
        have hbx := below_box W6 (.cells #[.string A.service, .int .i64 A.seen, .int .i64 A.create, .int .i64 A.want, .int .i64 A.cool, .bool A.scale, .slice ae A.ends.length ce, .bool A.drop] 59)
        have HA7 : Hid (AskO w1.heap.size w7 (some ⟨g', 0, none⟩) cap' (R ++ [(A, ae, ce)])) := by
          have h1 := HA6.out.below hbx
          refine h1.add (N0 := W4.heap.size) HLT.out (A, ae, ce) (own_mono (own_below HE6.out hbx (Nat.le_refl _)) (by omega)) (fun hn ge e => ?_) (by have := O7.out; rw [HNR.out] at this; exact this) (by have := K7.out; rw [HNR.out] at this; exact this)
          obtain ⟨g2, _, e2, h2, _⟩ := ends_block HE6.out hn
          have e' : ae = some ⟨ge, 0, none⟩ := e
          rw [e'] at e2; injection e2 with e2; injection e2 with e2
          omega
        have hbw7 := hbw6.trans ((hbx.mono (show w1.heap.size ≤ W6.heap.size by omega)).trans hb7)
        clear hbx hb7 K7 O7
        go_wp2
        go_roundw
        case rel => exact ⟨k + 1, n + 1, some ⟨g', 0, none⟩, cap', R ++ [(A, ae, ce)], by omega, by go_num, rfl, by unfold Hid; rw [HNR.out]; simp, by omega, by unfold Hid; rw [HT.out, HAI.out, HOO.out, List.map_append, HR.out]; rfl, hbw7, HA7⟩
        case measure => simp [intOf]; omega
    · obtain rfl : k = B.svcs.length := by omega
      have HE : Hid (R.map (·.1) = B.svcs.filterMap (askI kind B)) := by unfold Hid; rw [HR.out, List.take_length]
      have hwe := hbw1.size
      go_wp2
      go_ret
      exact ⟨ao, co, R, congrArg (fun q => Ending.returned (.slice ao q co)) HNR.out, HA.out.mono hwe, HE, hbw1.trans (hb.mono hwe)⟩

end Go.Proofs.YtbceafpodamnfabGreat

/-
  My own. The program's StewAsk.
-/
namespace Go.Proofs.YtbceafpodamnfabGreat
open Go.RowKit Go.Sort

/-- What the program's StewAsk answers. -/
def askP (kind : Int) (B : Bk) : List Ac := if inB kind 1 6 = true ∧ validB B = true then B.svcs.filterMap (askI kind B) else []

set_option maxRecDepth 100000 in
set_option maxHeartbeats 8000000 in
theorem implAsk_any (kind : Int) (B : Bk) (a1 a2 a3 : Option Addr) (c1 c2 c3 : Nat) (w : World) (HCP : Hid (B.cps.length ≤ c2)) (hS : B.small) (hZ : B.sized) (hB : BkAt w a1 a2 a3 B) :
    Calls Tryz.prog 8 #[.int .i64 kind, .agg #[.int .i64 B.now, .slice a1 B.svcs.length c1, .slice a2 B.cps.length c2, .slice a3 B.bts.length c3]] w fun e w' => ∃ (ao : Option Addr) (cap : Nat) (R : List ActR), e = .returned (.slice ao R.length cap) ∧ AskR w.heap.size w' ao R (askP kind B) ∧ Below w.heap.size w w' := by
  obtain ⟨W0, hW0⟩ : ∃ W, w.alloc (.cells #[.int .i64 B.now, .slice a1 B.svcs.length c1, .slice a2 B.cps.length c2, .slice a3 B.bts.length c3] 34) = W := ⟨_, rfl⟩
  have hb0 := below_box w (.cells #[.int .i64 B.now, .slice a1 B.svcs.length c1, .slice a2 B.cps.length c2, .slice a3 B.bts.length c3] 34)
  have T0 : Hid _ := heap_alloc_new w (.cells #[.int .i64 B.now, .slice a1 B.svcs.length c1, .slice a2 B.cps.length c2, .slice a3 B.bts.length c3] 34)
  have hz0 : w.heap.size < (w.alloc (.cells #[.int .i64 B.now, .slice a1 B.svcs.length c1, .slice a2 B.cps.length c2, .slice a3 B.bts.length c3] 34)).heap.size := by simp
  rw [hW0] at hb0 T0 hz0
  have HIV : Hid (∀ W : World, Below W0.heap.size W0 W → Calls Tryz.prog 28 #[.agg #[.int .i64 B.now, .slice a1 B.svcs.length c1, .slice a2 B.cps.length c2, .slice a3 B.bts.length c3]] W fun e w' => e = .returned (.bool (validB B)) ∧ Below W.heap.size W w') := fun W h => implValid_any B a1 a2 a3 c1 c2 c3 W hS hZ ((hB.below hb0).below h)
  go_enter Tryz.func8, Tryz.ntmps8
  go_upto_region 1 with fail
  clear hW0
  have e0 := blk_cell T0.out 0 rfl
  have e1 := blk_cell T0.out 1 rfl
  have e2 := blk_cell T0.out 2 rfl
  have e3 := blk_cell T0.out 3 rfl
  go_wp2_with fail
  refine (isSteward_any kind _).mono ?_
  rintro e w' ⟨rfl, hw'⟩
  subst hw'
  obtain ⟨q, HQ⟩ : ∃ q, Hid (inB kind 1 6 = q) := ⟨_, rfl⟩
  rw [HQ.out]
  cases q
  · have HN : Hid (askP kind B = []) := by unfold Hid askP; rw [if_neg (by rw [HQ.out]; simp)]
    go_wp2
    go_ret
    exact ⟨none, 0, [], rfl, by rw [HN.out]; exact (AskO.nil _ _).askR, hb0⟩
  · go_wp2_with fail
    refine (HIV.out _ (Below.refl _ _)).mono ?_
    rintro e w1 ⟨rfl, hb1⟩
    have hbw1 := hb0.trans (hb1.mono hb0.size)
    have T1 : Hid _ := below_blk hb1 T0.out hz0
    clear e0 e1 e2 e3 hb1 T0 HIV
    obtain ⟨v, HV⟩ : ∃ v, Hid (validB B = v) := ⟨_, rfl⟩
    rw [HV.out]
    cases v
    · have HN : Hid (askP kind B = []) := by unfold Hid askP; rw [if_neg (by rw [HV.out]; simp)]
      go_wp2
      go_ret
      exact ⟨none, 0, [], rfl, by rw [HN.out]; exact (AskO.nil _ _).askR, hbw1⟩
    · have HN : Hid (askP kind B = B.svcs.filterMap (askI kind B)) := by unfold Hid askP; rw [if_pos ⟨HQ.out, HV.out⟩]
      have hval := validB_iff.1 HV.out
      have hin := inB_iff.1 HQ.out
      have e0 := blk_cell T1.out 0 rfl
      have e1 := blk_cell T1.out 1 rfl
      have e2 := blk_cell T1.out 2 rfl
      have e3 := blk_cell T1.out 3 rfl
      go_wp2_with fail
      refine (askIn_any kind hin.1 hin.2 B a1 a2 a3 c1 c2 c3 _ HCP hS hZ hval (hB.below hbw1)).mono ?_
      rintro e w2 ⟨ao, co, R, rfl, HO, HR, hb2⟩
      have hbw2 := hbw1.trans (hb2.mono hbw1.size)
      clear e0 e1 e2 e3
      go_wp2
      go_ret
      refine ⟨ao, co, R, rfl, ?_, hbw2⟩
      rw [HN.out, ← HR.out]
      exact (HO.out.mono hbw1.size).askR

end Go.Proofs.YtbceafpodamnfabGreat
