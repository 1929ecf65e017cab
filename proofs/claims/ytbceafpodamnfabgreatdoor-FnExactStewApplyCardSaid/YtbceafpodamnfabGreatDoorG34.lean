/-
  My own: Lm, Ol.
-/
import Derived.Test.YtbceafpodamnfabGreatDoorG33
import Derived.Test.YtbceafpodamnfabGreatDoorG24
import Derived.Test.YtbceafpodamnfabGreatDoorG13
set_option linter.unusedVariables false
set_option linter.unusedSimpArgs false
namespace Go.Proofs.YtbceafpodamnfabGreatDoor
open Go.RowKit
section
variable {P : Program}
theorem zeroCells_one {z : Array Value} (h : ∀ u ∈ z, u.oneCell' = true) (n : Nat) : ∀ u ∈ (Builtin.zeroCells z n).toList, u.oneCell' = true := fun u hu => by
 unfold Builtin.zeroCells at hu
 rw [Array.mem_toList_iff, Array.mem_map] at hu
 obtain ⟨i, hi, rfl⟩ := hu
 have hlt : i < n * z.size := by simpa using hi
 have hp : 0 < z.size := by
  rcases Nat.eq_zero_or_pos z.size with h0 | h0
  ·rw [h0] at hlt; simp at hlt
  ·exact h0
 have hm := Nat.mod_lt i hp
 rw [getElem!_pos z _ hm]
 exact h _ (Array.getElem_mem hm)
theorem wpList_clear_k {ops : Array Oper} {rest : List Oper} {o : Oper} {a : Act} {w : World} {Q : Exit → Act → World → Prop} (hgd : o.guard = none) (x : Operand) (t : TypeId)
  (ho : o.op = .call { callee := .builtin .clear, args := #[x], argTypes := #[t] }) (e : TypeId) (z : Value) (size bytes : Nat) (ht : P.underlying t = some (.slice e)) (hinfo : (P.info? e).map (fun i => (i.zero, i.size, i.bytes)) = some (some z, size, bytes)) (hzs : z.cells.size = size) (hz1 : ∀ u ∈ z.cells, u.oneCell' = true)
  (g off m c : Nat) (hx : a.eval x = .slice (some ⟨g, off, none⟩) m c) (cur : Array Value) (ty : TypeId) (hg : w.heap[g]? = some (.cells cur ty (0, 0))) (hfit : m ≠ 0 → off + m * size ≤ cur.size)
  (h : ∀ cur' w', Hid (w'.heap[g]? = some (.cells cur' ty (0, 0))) → Hid (cur'.size = cur.size ∧ ∀ q, (m ≠ 0 → q ≤ off) → cur'.toList.take q = cur.toList.take q) → Only g w w' → wpList P ops Q rest (a.put o.dst (.tuple #[])) w') : wpList P ops Q (o :: rest) a w := by
 obtain ⟨i, hi, hz, hs', hb⟩ := info_parts hinfo
 refine wpList_plain hgd fun K hK => ?_
 by_cases h0 : m = 0
 ·subst h0
  have hr : (Builtin.clear_ #[t] o.type #[.slice (some ⟨g, off, none⟩) 0 c]).run P w = .ok (.tuple #[]) w := by simp [Builtin.clear_, run_underlying ht]
  unfold Oper.wp execOp
  simp only [ho, resolve, invoke, builtin, Sem.run_bind, Sem.run_pure, Result.andThen_ok, List.map_toArray, List.map_cons, List.map_nil, hx, hr]
  exact hK _ _ (h cur w hg ⟨rfl, fun _ _ => rfl⟩ ⟨fun _ _ => rfl, Below.refl _ _, rfl⟩)
 ·have hlen : (Builtin.zeroCells z.cells m).toList.length = m * size := by rw [Array.length_toList, size_zeroCells, hzs]
  have hst := run_storeCells_at P g off ty (Builtin.zeroCells z.cells m).toList 0 cur w hg (by rw [hlen]; simpa using hfit h0) (zeroCells_one hz1 m)
  have hr : (Builtin.clear_ #[t] o.type #[.slice (some ⟨g, off, none⟩) m c]).run P w = .ok (.tuple #[]) (w.setRow g (splice cur.toList off (Builtin.zeroCells z.cells m).toList).toArray) := by
   simp only [Nat.add_zero, List.append_assoc] at hst
   cases m with
   | zero => exact absurd rfl h0
   | succ m => simp [Builtin.clear_, run_underlying ht, zeroValue, typeInfo, hi, hz, hst, splice]
  unfold Oper.wp execOp
  simp only [ho, resolve, invoke, builtin, Sem.run_bind, Sem.run_pure, Result.andThen_ok, List.map_toArray, List.map_cons, List.map_nil, hx, hr]
  have hfl : off + (Builtin.zeroCells z.cells m).toList.length ≤ cur.toList.length := by rw [hlen, Array.length_toList]; exact hfit h0
  refine hK _ _ (h _ _ (setRow_heap w g cur _ ty _ hg) ⟨?_, fun q hq => ?_⟩ (only_setRow w g _))
  ·rw [List.size_toArray, length_splice _ _ _ hfl, Array.length_toList]
  ·show (splice cur.toList off (Builtin.zeroCells z.cells m).toList).take q = _
   unfold splice
   rw [List.take_append_of_le_length (by rw [List.length_take]; have := hq h0; omega), List.take_take, Nat.min_eq_left (hq h0)]
end
theorem RowIs.take {α : Type} {w : World} {e : TypeId} {size g n cap i : Nat} {c : α → List Value} {l : List α} (h : RowIs w e size g n cap (l.flatMap c)) (hc : ∀ s, (c s).length = size) (hl : l.length = n) (hi : i ≤ n) : RowIs w e size g i cap ((l.take i).flatMap c) := by
 obtain ⟨h1, h2, cur, h3, h4, h5⟩ := h
 refine ⟨by rw [flat_len hc, List.length_take, Nat.min_eq_left (by omega)], by omega, cur, h3, h4, ?_⟩
 have ft : ∀ (l : List α) (i : Nat), (l.take i).flatMap c = (l.flatMap c).take (i * size) := fun l => by
  induction l with
  | nil => intro i; simp
  | cons x l ih =>
   intro i
   cases i with
   | zero => simp
   | succ i =>
    have e : (i + 1) * size - size = i * size := by rw [Nat.succ_mul]; omega
    have e2 : (c x).take ((i + 1) * size) = c x := List.take_of_length_le (by rw [hc, Nat.succ_mul]; omega)
    rw [List.take_succ_cons, List.flatMap_cons, List.flatMap_cons, ih i, List.take_append, e2, hc, e]
 rw [ft, ← h5, List.take_take, Nat.min_eq_left (Nat.mul_le_mul_right _ hi)]
section
variable {P : Program}
theorem wpList_append_in {ops : Array Oper} {rest : List Oper} {o : Oper} {a : Act} {w : World} {Q : Exit → Act → World → Prop} (hgd : o.guard = none) (s x : Operand) (t : TypeId)
  (ho : o.op = .call { callee := .builtin .append, args := #[s, x], argTypes := #[t, t] })
  (e : TypeId) (z : Value) (size bytes : Nat) (ht : P.underlying t = some (.slice e)) (hinfo : (P.info? e).map (fun i => (i.zero, i.size, i.bytes)) = some (some z, size, bytes))
  (g n cap : Nat) (xs : List Value) (hs : a.eval s = .slice (some ⟨g, 0, none⟩) n cap) (hrow : RowIs w e size g n cap xs)
  (ad : Addr) (m c : Nat) (news : List Value) (hx : a.eval x = .slice (some ad) m c) (hl : news.length = m * size) (hnews : ∀ j u, news[j]? = some u → w.cell? (ad.add j) = some u) (h1 : ∀ u ∈ news, u.oneCell' = true) (hroom : n + m ≤ cap)
  (h : ∀ w', Hid (RowIs w' e size g (n + m) cap (xs ++ news)) → Only g w w' → wpList P ops Q rest (a.put o.dst (.slice (some ⟨g, 0, none⟩) (n + m) cap)) w') : wpList P ops Q (o :: rest) a w := by
 obtain ⟨i, hi, hz, hs', hb⟩ := info_parts hinfo
 subst hs' hb
 obtain ⟨hxl, hnc, cur, hg, hcs, htake⟩ := hrow
 have hlen : (xs ++ news).length = (n + m) * i.size := by rw [List.length_append, hxl, hl, Nat.add_mul]
 have hfit : n * i.size + news.length ≤ cur.size := by rw [hl, hcs, ← Nat.add_mul]; exact Nat.mul_le_mul_right _ hroom
 have hr := run_append_room (P := P) w t o.type e i ht hi g n cap cur hg ad m c news hl hnews h1 hroom hfit
 refine wpList_plain hgd fun K hK => ?_
 unfold Oper.wp execOp
 simp only [ho, resolve, invoke, builtin, Sem.run_bind, Sem.run_pure, Result.andThen_ok, List.map_toArray, List.map_cons, List.map_nil, hs, hx, hr]
 refine hK _ _ (h _ ⟨hlen, hroom, _, setRow_heap w g cur _ e _ hg, ?_, ?_⟩ (only_setRow w g _))
 ·simp only [List.size_toArray, List.length_append, List.length_take, List.length_drop, Array.length_toList]
  omega
 ·rw [htake, ← hlen]
  exact List.take_left
end
end Go.Proofs.YtbceafpodamnfabGreatDoor

namespace Go.Proofs.YtbceafpodamnfabGreatDoor
open Go.RowKit Go.Sort
theorem Tryz.undSvcsO : Tryz.prog.underlying 32 = some (.slice (Tryz.prog.elem 32)) := by kernel_rfl
theorem Tryz.infoElemSvcO : (Tryz.prog.info? (Tryz.prog.elem 32)).map (·.size) = some 13 := by kernel_rfl
set_option maxRecDepth 100000 in
set_option maxHeartbeats 8000000 in
theorem deleteS_any (l : List Svc) (ao : Option Addr) (n cap i N : Nat) (w : World) (HN : Hid (l.length = n)) (hl : n ≤ 1048576) (hi : i < n) (hN : N ≤ w.heap.size) (hR : RowN w N 67 13 ao n cap (svcsV l)) :
  Calls Tryz.prog 229 #[.slice ao n cap, .int .i64 i, .int .i64 ((i : Int) + 1)] w fun e w' => ∃ (bo : Option Addr) (n' k : Nat), e = .returned (.slice bo n' k) ∧ n' = (l.take i ++ l.drop (i + 1)).length ∧ RowN w' N 67 13 bo n' k (svcsV (l.take i ++ l.drop (i + 1))) ∧ (∀ q, q < w.heap.size → ao ≠ some ⟨q, 0, none⟩ → w'.heap[q]? = w.heap[q]?) ∧ Below N w w' := by
 obtain ⟨g, ea, hNg, hr⟩ := hR.some (by omega)
 subst ea
 have hgl := hr.lt
 have hncap := hr.2.1
 have HR : Hid (RowIs w 67 13 g n cap (svcsV l)) := hr
 obtain ⟨m, hm⟩ : ∃ q, n - (i + 1) = q := ⟨_, rfl⟩
 have hm1 : n ≤ i + 1 + m := by omega
 have hm2 : i + 1 + m ≤ n := by omega
 have HTL : Hid ((l.take i).length = i) := by unfold Hid; rw [List.length_take, HN.out]; omega
 have HDL : Hid ((l.drop (i + 1)).length = m) := by unfold Hid; rw [List.length_drop, HN.out]; omega
 have HVL : Hid (svcsV (l.take i ++ l.drop (i + 1)) = svcsV (l.take i) ++ svcsV (l.drop (i + 1))) := by unfold Hid; simp [svcsV]
 have HRT : Hid (∀ W, RowIs W 67 13 g n cap (svcsV l) → RowIs W 67 13 g i cap (svcsV (l.take i))) := fun W h => h.take (c := Svc.cells) (fun _ => rfl) (by rw [HN.out]) (by omega)
 clear hm hr hR
 go_enter Tryz.func229, Tryz.ntmps229
 go_upto_region 2 with (refine wpList_slice_off rfl 32 (.tmp 8) (some (.tmp 9)) (some (.tmp 10)) (some (.tmp 12)) rfl Tryz.undSvcsO 13 Tryz.infoElemSvcO g 0 n cap i (i + 1) n rfl (some (.int .i64 (i : Int))) (some (.int .i64 ((i : Int) + 1))) (some (.int .i64 (n : Int))) rfl rfl rfl (fun w => run_slice_lhm w _ _ _ _ Tryz.undSvcsO .i64 .i64 .i64 (i : Int) ((i + 1 : Nat) : Int) (n : Int) (by omega) (by omega) (by omega) (by omega)) ?_; intro off0 _; rw [show i + 1 - i = 1 by omega])
 go_upto_region 5 with fail
 rw [show ((i : Int) == (i : Int) + 1) = false by rw [beq_eq_false_iff_ne]; omega]
 refine wp_region_grows 6 (by kernel_rfl) (by kernel_rfl) ?_
 apply grow_eq
 ·intro V W K AA hW hd hA hK
  simp only [putAll, pz1, pz2, pz3, pz4, Act.put, pz5, pz6, pz7] at hA
  clear hd
  obtain rfl := hA
  go_wp2
  exact hK.out _ brf
 apply grow_eq
 ·intro V W K AA hW hd hA hK
  simp only [putAll, pz1, pz2, pz3, pz4, Act.put, pz5, pz6, pz7] at hA
  clear hd
  obtain rfl := hA
  go_wp2
  exact hK.out _ brf
 apply grow_eq
 ·intro V W K AA hW hd hA hK
  have d0 : V 0 = _ := hd 0 (by kernel_rfl)
  have d1 : V 1 = _ := hd 1 (by kernel_rfl)
  simp only [putAll, pz1, pz2, pz3, pz4, Act.put, pz5, pz6, pz7, d0, d1] at hA
  clear hd d0 d1
  obtain rfl := hA
  go_wp2
  exact hK.out _ brf
 apply grow_eq
 ·intro V W K AA hW hd hA hK
  simp only [putAll, pz1, pz2, pz3, pz4, Act.put, pz5, pz6, pz7] at hA
  clear hd
  obtain rfl := hA
  go_wp2
  exact hK.out _ brf
 apply grow_eq
 ·intro V W K AA hW hd hA hK
  simp only [putAll, pz1, pz2, pz3, pz4, Act.put, pz5, pz6, pz7] at hA
  clear hd
  obtain rfl := hA
  go_wp2
  exact hK.out _ brf
 refine grow_op (fun vv (_ : World) => ∃ off, vv = .slice (some ⟨g, off, none⟩) m (cap - (i + 1)) ∧ (off = (i + 1) * 13 ∨ cap = i + 1)) (fun _ _ _ h _ => h) ?_ ?_
 ·intro V W K AA hW hd hA hK
  have d3 : V 3 = _ := hd 3 (by kernel_rfl)
  have d4 : V 4 = _ := hd 4 (by kernel_rfl)
  simp only [putAll, pz1, pz2, pz3, pz4, Act.put, pz5, pz6, pz7, d3, d4] at hA
  clear hd d3 d4
  obtain rfl := hA
  refine wpList_slice_off rfl 32 (.tmp 23) (some (.tmp 24)) none none rfl Tryz.undSvcsO 13 Tryz.infoElemSvcO g 0 n cap (i + 1) n cap rfl (some (.int .i64 ((i : Int) + 1))) none none rfl rfl rfl (fun w => run_slice_l w _ _ _ _ Tryz.undSvcsO .i64 ((i + 1 : Nat) : Int) (by omega) (by omega)) ?_
  intro off hoff
  rw [show n - (i + 1) = m by omega]
  go_wp2
  exact hK.out _ _ brf ⟨off, rfl, by omega⟩
 intro V W AA hW hS hA
 have d0 : V 0 = _ := hS 0 (by omega)
 have d1 : V 1 = _ := hS 1 (by omega)
 have d2 : V 2 = _ := hS 2 (by omega)
 have d3 : V 3 = _ := hS 3 (by omega)
 have d4 : V 4 = _ := hS 4 (by omega)
 have d5 : (fun vv (_ : World) => ∃ off, vv = .slice (some ⟨g, off, none⟩) m (cap - (i + 1)) ∧ (off = (i + 1) * 13 ∨ cap = i + 1)) (V 5) W := hS 5 (by omega)
 simp only [putAll, pz1, pz2, pz3, pz4, Act.put, pz5, pz6, pz7, d0, d1, d2, d3, d4] at hA
 clear hS d0 d1 d2 d3 d4
 generalize V 5 = x5 at d5 hA
 obtain rfl := hA
 simp only [List.drop_succ_cons, List.drop_zero]
 obtain ⟨off5, rfl, h5⟩ := d5
 have HRW : Hid (RowIs W 67 13 g n cap (svcsV l)) := HR.out.below hW hgl
 have HSD : Hid (∀ j u, (svcsV (l.drop (i + 1)))[j]? = some u → W.cell? ((⟨g, off5, none⟩ : Addr).add j) = some u) := by
  unfold Hid
  rcases h5 with ho | ho
  ·rw [ho]; exact HRW.out.srcDropR (c := Svc.cells) (fun _ => rfl) (i + 1)
  ·intro j u hu; rw [show l.drop (i + 1) = [] from List.length_eq_zero_iff.1 (by rw [HDL.out]; omega)] at hu; simp [svcsV] at hu
 (refine wpList_append_in rfl (.tmp 22) (.tmp 25) 32 rfl 67 _ 13 112 Tryz.underlying32 Tryz.infoSvcI g i cap (svcsV (l.take i)) rfl (HRT.out W HRW.out) ⟨g, off5, none⟩ m _ (svcsV (l.drop (i + 1))) rfl (by rw [svcsV_len, HDL.out]) HSD.out (svcsV_one _) (by omega) ?_; intro w2 hr on; have R2 : Hid (RowIs w2 67 13 g (i + m) cap (svcsV (l.take i) ++ svcsV (l.drop (i + 1)))) := hr; have HO2 : Hid (Only g W w2) := on; clear hr on)
 obtain ⟨cur, hgc, hcs, htk⟩ := R2.out.2.2
 have HGC : Hid (w2.heap[g]? = some (.cells cur 67 (0, 0))) := hgc
 have HCS : Hid (cur.size = cap * 13 ∧ cur.toList.take ((i + m) * 13) = svcsV (l.take i) ++ svcsV (l.drop (i + 1))) := ⟨hcs, htk⟩
 have hcs' : n * 13 ≤ cur.size := by rw [hcs]; exact Nat.mul_le_mul_right _ hncap
 clear hgc hcs htk
 go_upto_region 7 with (first
  | (refine wpList_slice_off rfl 32 (.tmp 27) (some (.tmp 29)) (some (.tmp 30)) none rfl Tryz.undSvcsO 13 Tryz.infoElemSvcO g 0 (i + m) cap (i + m) n cap rfl (some (.int .i64 ((i : Int) + (m : Int)))) (some (.int .i64 (n : Int))) none rfl rfl rfl (fun w => run_slice_lh w _ _ _ _ Tryz.undSvcsO .i64 .i64 ((i + m : Nat) : Int) (n : Int) (by omega) (by omega) (by omega)) ?_; intro off6 h6; rw [show n - (i + m) = 1 by omega])
  | (refine wpList_clear_k rfl (.tmp 31) 32 rfl 67 _ 13 112 Tryz.underlying32 Tryz.infoSvcI rfl (by simp [Value.cells, Value.oneCell']) g off6 1 _ rfl cur 67 HGC.out (fun _ => by omega) ?_; intro cur' w3 hg3 hc3 on3; have HO3 : Hid (Only g w2 w3) := on3; clear on3))
 go_wp2
 go_ret
 refine ⟨some ⟨g, 0, none⟩, i + m, cap, rfl, by rw [List.length_append, HTL.out, HDL.out], .inr ⟨g, rfl, hNg, ?_⟩, fun q hq hne => ?_, (hW.mono hN).trans ((HO2.out.below.mono hNg).trans (HO3.out.below.mono hNg))⟩
 ·rw [HVL.out]
  refine ⟨R2.out.1, R2.out.2.1, cur', hg3.out, by rw [hc3.out.1, HCS.out.1], ?_⟩
  rw [hc3.out.2 ((i + m) * 13) (fun _ => by omega)]
  exact HCS.out.2
 ·have hqg : q ≠ g := fun e => hne (by rw [e])
  exact (HO3.out.other q hqg).trans ((HO2.out.other q hqg).trans (hW.block q hq))
end Go.Proofs.YtbceafpodamnfabGreatDoor
