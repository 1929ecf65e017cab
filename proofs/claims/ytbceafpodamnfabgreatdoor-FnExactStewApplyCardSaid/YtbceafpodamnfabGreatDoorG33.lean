/-
  My own: Lk, Ok.
-/
import Derived.Test.YtbceafpodamnfabGreatDoorG09
import Derived.Test.YtbceafpodamnfabGreatDoorG13
import Derived.Test.YtbceafpodamnfabGreatDoorG12
import Derived.Laws.CopyOwn
import Derived.Lib.AppendZeros
import Derived.Lib.Overlaps
import Derived.Laws.Externs
import Derived.Test.YtbceafpodamnfabGreatDoorG24
set_option linter.unusedVariables false
set_option linter.unusedSimpArgs false
namespace Go.Proofs.YtbceafpodamnfabGreatDoor
open Go.RowKit
section
variable {P : Program}
theorem wpList_copy_k {ops : Array Oper} {rest : List Oper} {o : Oper} {a : Act} {w : World} {Q : Exit → Act → World → Prop} (hgd : o.guard = none) (d s : Operand) (t : TypeId)
  (ho : o.op = .call { callee := .builtin .copy, args := #[d, s], argTypes := #[t, t] }) (e : TypeId) (size : Nat) (ht : P.underlying t = some (.slice e)) (hsz : (P.info? e).map (·.size) = some size)
  (dp sp : Option Addr) (dLen dCap sLen sCap : Nat) (hd : a.eval d = .slice dp dLen dCap) (hs : a.eval s = .slice sp sLen sCap) (k : Nat) (hk : Nat.min sLen dLen = k)
  (g off : Nat) (cur : Array Value) (ty : TypeId) (hg : w.heap[g]? = some (.cells cur ty (0, 0))) (cs : List Value) (hl : cs.length = k * size)
  (hpos : k ≠ 0 → dp = some ⟨g, off, none⟩ ∧ ∃ ad, sp = some ad ∧ ∀ j v, cs[j]? = some v → w.cell? (ad.add j) = some v) (hfit : off + cs.length ≤ cur.size) (h1 : ∀ v ∈ cs, v.oneCell' = true)
  (h : ∀ w', Hid (w'.heap[g]? = some (.cells (splice cur.toList off cs).toArray ty (0, 0))) → Only g w w' → wpList P ops Q rest (a.put o.dst (goInt k)) w') : wpList P ops Q (o :: rest) a w := by
 refine wpList_plain hgd fun K hK => ?_
 obtain ⟨i, hi, his⟩ : ∃ i, P.info? e = some i ∧ i.size = size := by
  cases hq : P.info? e with
  | none => simp [hq] at hsz
  | some i => exact ⟨i, rfl, by simpa [hq] using hsz⟩
 by_cases h0 : k = 0
 ·subst h0
  have hcs : cs = [] := List.eq_nil_of_length_eq_zero (by simpa using hl)
  subst hcs
  have hr : (Builtin.copy_ #[t, t] o.type #[.slice dp dLen dCap, .slice sp sLen sCap]).run P w = .ok (goInt 0) w := by
   cases dp <;> cases sp <;> simp [Builtin.copy_, run_underlying ht, sizeOf, typeInfo, hi, Builtin.lenOf, Builtin.firstCells, storeCells, loadCells, loadCellsFrom, hk]
  unfold Oper.wp execOp
  simp only [ho, resolve, invoke, builtin, Sem.run_bind, Sem.run_pure, Result.andThen_ok, List.map_toArray, List.map_cons, List.map_nil, hd, hs, hr]
  exact hK _ _ (h w (show _ = _ by simpa [splice] using hg) ⟨fun _ _ => rfl, Below.refl _ _, rfl⟩)
 ·obtain ⟨rfl, ad, rfl, hsrc⟩ := hpos h0
  have hf := run_firstCells_some (P := P) w i.size k ad sLen sCap cs (by rw [his]; exact hl) hsrc
  have hst := run_storeCells_at P g off ty cs 0 cur w hg (by simpa using hfit) h1
  have hr : (Builtin.copy_ #[t, t] o.type #[.slice (some ⟨g, off, none⟩) dLen dCap, .slice (some ad) sLen sCap]).run P w = .ok (goInt k) (w.setRow g (splice cur.toList off cs).toArray) := by
   simp only [Nat.add_zero, List.append_assoc] at hst
   simp [Builtin.copy_, run_underlying ht, sizeOf, typeInfo, hi, Builtin.lenOf, hk, hf, hst, splice]
  unfold Oper.wp execOp
  simp only [ho, resolve, invoke, builtin, Sem.run_bind, Sem.run_pure, Result.andThen_ok, List.map_toArray, List.map_cons, List.map_nil, hd, hs, hr]
  exact hK _ _ (h _ (setRow_heap w g cur _ ty _ hg) (only_setRow w g _))
theorem wpList_append_zeros {ops : Array Oper} {rest : List Oper} {o : Oper} {a : Act} {w : World} {Q : Exit → Act → World → Prop} (hgd : o.guard = none) (s x : Operand) (t tn : TypeId)
  (ho : o.op = .call { callee := .builtin .append, args := #[s, x], argTypes := #[t, tn] })
  (e : TypeId) (z : Value) (size bytes : Nat) (kn : IntKind) (ht : P.underlying t = some (.slice e)) (htn : P.underlying tn = some (.int kn)) (hinfo : (P.info? e).map (fun i => (i.zero, i.size, i.bytes)) = some (some z, size, bytes)) (hzs : z.cells.size = size) (hs0 : 0 < size)
  (b : Addr) (n cap : Nat) (olds : List Value) (hs : a.eval s = .slice (some b) n cap) (hlo : olds.length = n * size) (holds : ∀ j v, olds[j]? = some v → w.cell? (b.add j) = some v)
  (m : Nat) (hx : a.eval x = .int .i64 m) (hm : 0 < m) (hg : cap < n + m) (h63 : n + m ≤ maxLen) (hbytes : (n + m) * bytes ≤ 140737488355328)
  (h : ∀ g cap' cur w', w.heap.size ≤ g → n + m ≤ cap' → Hid (w'.heap[g]? = some (.cells cur e (0, 0))) → Hid (cur.size = cap' * size ∧ cur.toList.take (n * size) = olds) → Below w.heap.size w w' → wpList P ops Q rest (a.put o.dst (.slice (some ⟨g, 0, none⟩) (n + m) cap')) w') : wpList P ops Q (o :: rest) a w := by
 obtain ⟨i, hi, hz, hs', hb⟩ := info_parts hinfo
 subst hs' hb
 have hmx : (n + m : Nat) ≤ 9223372036854775807 := by unfold maxLen at h63; omega
 have hfitN : Builtin.nextslicecap (n + m) cap * i.bytes ≤ 281474976710656 := growslice_fits (by omega) hbytes
 have hn : ¬ (n + m ≤ cap) := by omega
 have h63' : ¬ (9223372036854775807 < ((n : Int) + (m : Int))) := by omega
 have h48' : ¬ (281474976710656 < Builtin.nextslicecap (n + m) cap * i.bytes) := by omega
 have hw : IntKind.i64.wrap (m : Int) = m := by rw [IntKind.wrap_i64]; omega
 have hneg : ¬ ((m : Int) < 0) := by omega
 have hmb : m * i.bytes ≤ (n + m) * i.bytes := Nat.mul_le_mul_right _ (by omega)
 have h48i : ¬ (281474976710656 < (m : Int) * (i.bytes : Int)) := by
  rw [← Int.natCast_mul]
  omega
 have hns : ¬ (m * i.size = 0) := Nat.mul_ne_zero (by omega) (by omega)
 have hm0 : m ≠ 0 := by omega
 have hfo := run_firstCells_some (P := P) w.drew i.size n b n cap olds hlo (by simpa using holds)
 have hr : (Builtin.append_ #[t, tn] o.type #[.slice (some b) n cap, .int .i64 m]).run P w =
   .ok (.slice (some ⟨w.heap.size, 0, none⟩) (n + m) (grownCap w (n + m) cap e)) (w.drew.alloc (.cells (olds.toArray ++ Builtin.zeroCells z.cells m ++ Builtin.zeroCells z.cells (grownCap w (n + m) cap e - (n + m))) e)) := by
  simp [Builtin.append_, run_underlying ht, run_underlying htn, sizeOf, typeInfo, zeroValue, hi, hz, asInt, asIntOf, hw, hn, hneg, hns, hm0, h63', h48', h48i, Question.forced, hfo, newRow, grownCap]
 refine wpList_plain hgd fun K hK => ?_
 unfold Oper.wp execOp
 simp only [ho, resolve, invoke, builtin, Sem.run_bind, Sem.run_pure, Result.andThen_ok, List.map_toArray, List.map_cons, List.map_nil, hs, hx, hr]
 have hge := grownCap_ge w (n + m) cap e
 refine hK _ _ (h w.heap.size _ _ _ (Nat.le_refl _) hge (heap_alloc_new w.drew _) ⟨?_, ?_⟩ ⟨rfl, rfl, rfl, by simp, fun k hk => by show (w.heap.push _)[k]? = _; rw [Array.getElem?_push, if_neg (by omega)]⟩)
 ·simp only [Array.size_append, List.size_toArray, size_zeroCells, hzs, hlo]
  rw [← Nat.add_mul, ← Nat.add_mul]
  congr 1
  omega
 ·simp only [Array.toList_append, List.append_assoc]
  rw [← hlo]
  exact List.take_left
end
theorem ins_mid {A X D L : List Value} {a s d : Nat} (ha : A.length = a) (hX : X.length = s) (hD : D.length = d) (hL : L.take a = A) (hfit : a + s + d ≤ L.length) : (splice (splice L a X) (a + s) D).take (a + s + d) = A ++ X ++ D ∧ (splice (splice L (a + s) D) a X).take (a + s + d) = A ++ X ++ D := by
 have h1 : ∀ j, j < a → L[j]? = A[j]? := fun j hj => by rw [← hL, List.getElem?_take_of_lt hj]
 have key : ∀ M : List Value, a + s + d ≤ M.length → (∀ j, j < a → M[j]? = L[j]?) → (∀ j, a ≤ j → j < a + s → M[j]? = X[j - a]?) → (∀ j, a + s ≤ j → j < a + s + d → M[j]? = D[j - (a + s)]?) → M.take (a + s + d) = A ++ X ++ D := fun M hM q1 q2 q3 => by
  refine List.ext_getElem? fun j => ?_
  rw [List.append_assoc]
  by_cases c1 : j < a
  ·rw [List.getElem?_take_of_lt (by omega), q1 j c1, h1 j c1, List.getElem?_append_left (by omega)]
  ·rw [List.getElem?_append_right (by omega), ha]
   by_cases c2 : j < a + s
   ·rw [List.getElem?_take_of_lt (by omega), q2 j (by omega) c2, List.getElem?_append_left (by omega)]
   ·rw [List.getElem?_append_right (by omega), hX]
    by_cases c3 : j < a + s + d
    ·rw [List.getElem?_take_of_lt c3, q3 j (by omega) c3, show j - (a + s) = j - a - s by omega]
    ·rw [List.getElem?_eq_none (by rw [List.length_take]; omega), List.getElem?_eq_none (by omega)]
 have l1 : (splice L a X).length = L.length := length_splice L a X (by omega)
 have l2 : (splice L (a + s) D).length = L.length := length_splice L (a + s) D (by omega)
 constructor
 ·refine key _ (by rw [length_splice _ _ _ (by omega)]; omega) (fun j hj => ?_) (fun j h2 h3 => ?_) (fun j h2 h3 => ?_)
  ·rw [splice_get _ _ _ (by omega), if_pos (by omega), splice_get _ _ _ (by omega), if_pos hj]
  ·rw [splice_get _ _ _ (by omega), if_pos (by omega), splice_get _ _ _ (by omega), if_neg (by omega), if_pos (by omega)]
  ·rw [splice_get _ _ _ (by omega), if_neg (by omega), if_pos (by omega)]
 ·refine key _ (by rw [length_splice _ _ _ (by omega)]; omega) (fun j hj => ?_) (fun j h2 h3 => ?_) (fun j h2 h3 => ?_)
  ·rw [splice_get _ _ _ (by omega), if_pos hj, splice_get _ _ _ (by omega), if_pos (by omega)]
  ·rw [splice_get _ _ _ (by omega), if_neg (by omega), if_pos (by omega)]
  ·rw [splice_get _ _ _ (by omega), if_neg (by omega), if_neg (by omega), splice_get _ _ _ (by omega), if_neg (by omega), if_pos (by omega)]
end Go.Proofs.YtbceafpodamnfabGreatDoor

namespace Go.Proofs.YtbceafpodamnfabGreatDoor
open Go.RowKit Go.Sort
theorem Tryz.undCpsO : Tryz.prog.underlying 33 = some (.slice (Tryz.prog.elem 33)) := by kernel_rfl
theorem Tryz.infoElemCpO : (Tryz.prog.info? (Tryz.prog.elem 33)).map (·.size) = some 7 := by kernel_rfl
theorem Tryz.infosCpO : (Tryz.prog.info? 149).map (·.size) = some 7 := by kernel_rfl
set_option maxRecDepth 100000 in
set_option maxHeartbeats 16000000 in
theorem insC_any (l : List Cp) (x : Cp) (ao : Option Addr) (n cap i N vb : Nat) (w : World) (HN : Hid (l.length = n)) (hl : n ≤ 1048576) (hi : i ≤ n) (hN : N ≤ w.heap.size) (hR : RowN w N 149 7 ao n cap (cpsV l)) (hv : w.heap[vb]? = some (.cells #[.string x.service, .int .i64 x.number, .int .i64 x.version, .int .i64 x.image, .int .i64 x.state, .bool x.ending, .string x.berth] 149 (0, 0))) (hvb : ao ≠ some ⟨vb, 0, none⟩) :
  Calls Tryz.prog 228 #[.slice ao n cap, .int .i64 i, .slice (some ⟨vb, 0, none⟩) 1 1] w fun e w' => ∃ bo k, e = .returned (.slice bo (n + 1) k) ∧ RowN w' N 149 7 bo (n + 1) k (cpsV (l.take i ++ x :: l.drop i)) ∧ (∀ q, q < w.heap.size → ao ≠ some ⟨q, 0, none⟩ → w'.heap[q]? = w.heap[q]?) ∧ Below N w w' := by
 have hvl := (Array.getElem?_eq_some_iff.1 hv).1
 have HV : Hid (w.heap[vb]? = some (.cells #[.string x.service, .int .i64 x.number, .int .i64 x.version, .int .i64 x.image, .int .i64 x.state, .bool x.ending, .string x.berth] 149 (0, 0))) := hv
 obtain ⟨XS, hXS⟩ : ∃ q, q = (#[.string x.service, .int .i64 x.number, .int .i64 x.version, .int .i64 x.image, .int .i64 x.state, .bool x.ending, .string x.berth] : Array Value).toList := ⟨_, rfl⟩
 have HXL : Hid (XS.length = 7) := by unfold Hid; rw [hXS]; rfl
 have HX1 : Hid (∀ u ∈ XS, u.oneCell' = true) := by unfold Hid; rw [hXS]; simp [Value.oneCell']
 have HVL : Hid (cpsV (l.take i ++ x :: l.drop i) = cpsV (l.take i) ++ XS ++ cpsV (l.drop i)) := by unfold Hid; rw [hXS]; simp [cpsV, Cp.cells]
 have HNW : Hid (∀ W : World, W.heap[vb]? = some (.cells #[.string x.service, .int .i64 x.number, .int .i64 x.version, .int .i64 x.image, .int .i64 x.state, .bool x.ending, .string x.berth] 149 (0, 0)) → ∀ j u, XS[j]? = some u → W.cell? ((⟨vb, 0, none⟩ : Addr).add j) = some u) := fun W h => by rw [hXS]; exact news_row h
 have HX0 : Hid (cpsV [x] = XS) := by unfold Hid; rw [hXS]; simp [cpsV, Cp.cells]
 clear hv hXS
 rcases hR with ⟨rfl, rfl, rfl, hnil⟩ | ⟨g, rfl, hNg, hr⟩
 ·obtain rfl : i = 0 := by omega
  obtain rfl : l = [] := List.length_eq_zero_iff.1 HN.out
  clear hnil hvb
  go_enter Tryz.func228, Tryz.ntmps228
  go_wp2_with (at_builtin; refine wpList_append_nil rfl (.tmp 23) (.tmp 24) 33 rfl 149 _ 7 72 Tryz.underlying33 Tryz.infoCpI rfl (by omega) rfl (some ⟨vb, 0, none⟩) 1 1 XS rfl (by rw [HXL.out]) (fun _ => ⟨_, rfl, HNW.out _ HV.out⟩) HX1.out (by unfold maxLen; omega) (by omega) (fun h => absurd h (by omega)) (fun _ => ?_); intro g k w1 hg hr hb)
  have HRX : Hid (RowIs w1 149 7 g 1 k XS) := hr
  clear hr
  go_ret
  exact ⟨some ⟨g, 0, none⟩, k, rfl, .inr ⟨g, rfl, by omega, by have h := HRX.out; rw [← HX0.out] at h; simpa using h⟩, fun q hq _ => hb.block q hq, hb.mono hN⟩
 have HR : Hid (RowIs w 149 7 g n cap (cpsV l)) := hr
 have hgl := hr.lt
 have hnc := hr.2.1
 have hvg : vb ≠ g := fun e => hvb (by rw [e])
 clear hvb hr
 have HTL : Hid ((l.take i).length = i) := by unfold Hid; rw [List.length_take, HN.out]; omega
 have HDL : Hid ((l.drop i).length = n - i) := by unfold Hid; rw [List.length_drop, HN.out]
 by_cases hin : i = n
 ·subst hin
  have HTD : Hid (l.take i = l ∧ l.drop i = []) := ⟨List.take_of_length_le (by rw [HN.out]; omega), List.drop_eq_nil_of_le (by rw [HN.out]; omega)⟩
  go_enter Tryz.func228, Tryz.ntmps228
  go_upto_region 2 with (refine wpList_slice_off rfl 33 (.tmp 10) (some (.tmp 11)) none none rfl Tryz.undCpsO 7 Tryz.infoElemCpO g 0 i cap i i cap rfl (some (.int .i64 (i : Int))) none none rfl rfl rfl (fun w => run_slice_l w _ _ _ _ Tryz.undCpsO .i64 (i : Int) (by omega) (by omega)) ?_; intro off _)
  go_wp2_with (at_builtin; refine wpList_append_row rfl (.tmp 23) (.tmp 24) 33 rfl 149 _ 7 72 Tryz.underlying33 Tryz.infoCpI rfl g i cap _ rfl HR.out ⟨vb, 0, none⟩ 1 1 XS rfl (by rw [HXL.out]) (HNW.out _ HV.out) HX1.out (by unfold maxLen; omega) (by omega) ?_; intro g' k w1 hg' hr hgr; have HRX : Hid (RowIs w1 149 7 g' (i + 1) k (cpsV l ++ XS)) := hr; have HGR : Hid (∀ q, q < w.heap.size → q ≠ g → w1.heap[q]? = w.heap[q]?) := (fun q hq hne => hgr.block q hq (fun e => hne (Option.some.inj e))); have hbo := below_of_grown hgr hNg hN; clear hr hgr)
  go_ret
  exact ⟨some ⟨g', 0, none⟩, k, rfl, .inr ⟨g', rfl, by rcases hg' with h | h <;> omega, by rw [HVL.out, HTD.out.1, HTD.out.2]; simpa [cpsV] using HRX.out⟩, fun q hq hne => HGR.out q hq (fun e => hne (by rw [e])), hbo⟩
 have hlt : i < n := by omega
 clear hin
 have HSRC : Hid (∀ W : World, RowIs W 149 7 g n cap (cpsV l) → ∀ off, off = i * 7 → ∀ j u, (cpsV (l.drop i))[j]? = some u → W.cell? ((⟨g, off, none⟩ : Addr).add j) = some u) := fun W h off ho => by rw [ho]; exact h.srcDropR (c := Cp.cells) (fun _ => rfl) i
 have HFT : Hid (cpsV (l.take i) = (cpsV l).take (i * 7)) := flat_takeR (c := Cp.cells) (fun _ => rfl) l i
 by_cases hroom : n + 1 ≤ cap
 ·obtain ⟨cur, hgc, hcs, htk⟩ := HR.out.2.2
  have HGC : Hid (w.heap[g]? = some (.cells cur 149 (0, 0))) := hgc
  have HCS : Hid (cur.size = cap * 7 ∧ cur.toList.take (n * 7) = cpsV l) := ⟨hcs, htk⟩
  have HCL : Hid (cur.toList.length = cur.size) := Array.length_toList
  have hfitc : (n + 1) * 7 ≤ cur.size := by rw [hcs]; exact Nat.mul_le_mul_right _ hroom
  clear hgc hcs htk
  obtain ⟨dd, hdd⟩ : ∃ q, n - i = q := ⟨_, rfl⟩
  have hd1 : n ≤ i + dd := by omega
  have hd1' : i + dd ≤ n := by omega
  obtain ⟨ss, hss⟩ : ∃ q, n + 1 - i = q := ⟨_, rfl⟩
  have hs1 : n + 1 ≤ i + ss := by omega
  have hs1' : i + ss ≤ n + 1 := by omega
  have HDD : Hid ((l.drop i).length = dd) := by unfold Hid; rw [HDL.out]; exact hdd
  have hd2 : 0 < dd := by omega
  clear hdd hss
  have hov : ∀ off' lb cb, (callFunc 289 #[.slice (some ⟨vb, 0, none⟩) 1 1, .slice (some ⟨g, off', none⟩) lb cb]).run Tryz.prog w = .ok (.value (.bool false)) w := fun off' lb cb => by
   rw [run_callFunc_extern Tryz.func289 (by kernel_rfl) (by kernel_rfl) (by kernel_rfl) (e := Extern.SlicesOverlaps.overlaps #[33, 33] #[4]) (by kernel_rfl),
    Lib.run_overlaps_apart w 33 4 149 Tryz.underlying33 7 (fun _ => by kernel_rfl) ⟨vb, 0, none⟩ ⟨g, off', none⟩ 1 1 lb cb hvg 149 149 7 cur.size (by simp [World.shape?, HV.out]) (by simp [World.shape?, HGC.out]) (by omega) (blk_frozen HV.out 0) (blk_frozen HV.out 7)]
   rfl
  have HOV : Hid _ := hov
  clear hov
  go_enter Tryz.func228, Tryz.ntmps228
  go_upto_region 2 with (refine wpList_slice_off rfl 33 (.tmp 10) (some (.tmp 11)) none none rfl Tryz.undCpsO 7 Tryz.infoElemCpO g 0 n cap i n cap rfl (some (.int .i64 (i : Int))) none none rfl rfl rfl (fun w => run_slice_l w _ _ _ _ Tryz.undCpsO .i64 (i : Int) (by omega) (by omega)) ?_; intro off0 _)
  go_upto_region 14 with fail
  have hov := HOV.out
  go_upto_region 15 with (first
   | (refine wpList_slice_off rfl 33 (.tmp 62) (some (.tmp 65)) none none rfl Tryz.undCpsO 7 Tryz.infoElemCpO g 0 (n + 1) cap (i + 1) (n + 1) cap rfl (some (.int .i64 ((i : Int) + 1))) none none rfl rfl rfl (fun w => run_slice_l w _ _ _ _ Tryz.undCpsO .i64 ((i + 1 : Nat) : Int) (by omega) (by omega)) ?_; intro off1 _)
   | (simp only [hov]))
  clear hov
  refine wp_region_grows 8 (by kernel_rfl) (by kernel_rfl) ?_
  apply grow_eq
  ·intro V W K AA hW hd hA hK
   simp only [putAll, pz1, pz2, pz3, pz4, Act.put, pz5, pz6, pz7] at hA
   clear hd
   obtain rfl := hA
   go_wp2
   exact hK.out _ brf
  apply grow_eq
  ·intro V W K AA hW hd hA hK
   simp only [putAll, pz1, pz2, pz3, pz4, Act.put, pz5, pz6, pz7] at hA
   clear hd
   obtain rfl := hA
   go_wp2
   exact hK.out _ brf
  apply grow_eq
  ·intro V W K AA hW hd hA hK
   simp only [putAll, pz1, pz2, pz3, pz4, Act.put, pz5, pz6, pz7] at hA
   clear hd
   obtain rfl := hA
   go_wp2
   exact hK.out _ brf
  apply grow_eq
  ·intro V W K AA hW hd hA hK
   have d1 : V 1 = _ := hd 1 (by kernel_rfl)
   have d2 : V 2 = _ := hd 2 (by kernel_rfl)
   simp only [putAll, pz1, pz2, pz3, pz4, Act.put, pz5, pz6, pz7, d1, d2] at hA
   clear hd d1 d2
   obtain rfl := hA
   go_wp2
   exact hK.out _ brf
  refine grow_op (fun vv (_ : World) => ∃ off, vv = .slice (some ⟨g, off, none⟩) dd (cap - (i + 1)) ∧ (off = (i + 1) * 7 ∨ cap = i + 1)) (fun _ _ _ h _ => h) ?_ ?_
  ·intro V W K AA hW hd hA hK
   have d0 : V 0 = _ := hd 0 (by kernel_rfl)
   have d3 : V 3 = _ := hd 3 (by kernel_rfl)
   simp only [putAll, pz1, pz2, pz3, pz4, Act.put, pz5, pz6, pz7, d0, d3] at hA
   clear hd d0 d3
   obtain rfl := hA
   refine wpList_slice_off rfl 33 (.tmp 69) (some (.tmp 72)) none none rfl Tryz.undCpsO 7 Tryz.infoElemCpO g 0 (n + 1) cap (i + 1) (n + 1) cap rfl (some (.int .i64 ((i : Int) + 1))) none none rfl rfl rfl (fun w => run_slice_l w _ _ _ _ Tryz.undCpsO .i64 ((i + 1 : Nat) : Int) (by omega) (by omega)) ?_
   intro off hoff
   rw [show (n + 1) - (i + 1) = dd by omega]
   go_wp2
   exact hK.out _ _ brf ⟨off, rfl, by omega⟩
  apply grow_eq
  ·intro V W K AA hW hd hA hK
   simp only [putAll, pz1, pz2, pz3, pz4, Act.put, pz5, pz6, pz7] at hA
   clear hd
   obtain rfl := hA
   go_wp2
   exact hK.out _ brf
  apply grow_eq
  ·intro V W K AA hW hd hA hK
   simp only [putAll, pz1, pz2, pz3, pz4, Act.put, pz5, pz6, pz7] at hA
   clear hd
   obtain rfl := hA
   go_wp2
   exact hK.out _ brf
  refine grow_op (fun vv (_ : World) => ∃ off, vv = .slice (some ⟨g, off, none⟩) ss (cap - i) ∧ (off = i * 7 ∨ cap = i)) (fun _ _ _ h _ => h) ?_ ?_
  ·intro V W K AA hW hd hA hK
   have d5 : V 5 = _ := hd 5 (by kernel_rfl)
   have d6 : V 6 = _ := hd 6 (by kernel_rfl)
   simp only [putAll, pz1, pz2, pz3, pz4, Act.put, pz5, pz6, pz7, d5, d6] at hA
   clear hd d5 d6
   obtain rfl := hA
   refine wpList_slice_off rfl 33 (.tmp 74) (some (.tmp 75)) none none rfl Tryz.undCpsO 7 Tryz.infoElemCpO g 0 (n + 1) cap i (n + 1) cap rfl (some (.int .i64 (i : Int))) none none rfl rfl rfl (fun w => run_slice_l w _ _ _ _ Tryz.undCpsO .i64 (i : Int) (by omega) (by omega)) ?_
   intro off hoff
   rw [show (n + 1) - i = ss by omega]
   go_wp2
   exact hK.out _ _ brf ⟨off, rfl, by omega⟩
  intro V W AA hW hS hA
  have d0 : V 0 = _ := hS 0 (by omega)
  have d1 : V 1 = _ := hS 1 (by omega)
  have d2 : V 2 = _ := hS 2 (by omega)
  have d3 : V 3 = _ := hS 3 (by omega)
  have d4 : (fun vv (_ : World) => ∃ off, vv = .slice (some ⟨g, off, none⟩) dd (cap - (i + 1)) ∧ (off = (i + 1) * 7 ∨ cap = i + 1)) (V 4) W := hS 4 (by omega)
  have d5 : V 5 = _ := hS 5 (by omega)
  have d6 : V 6 = _ := hS 6 (by omega)
  have d7 : (fun vv (_ : World) => ∃ off, vv = .slice (some ⟨g, off, none⟩) ss (cap - i) ∧ (off = i * 7 ∨ cap = i)) (V 7) W := hS 7 (by omega)
  simp only [putAll, pz1, pz2, pz3, pz4, Act.put, pz5, pz6, pz7, d0, d1, d2, d3, d5, d6] at hA
  clear hS d0 d1 d2 d3 d5 d6
  generalize V 4 = x4 at d4 hA
  generalize V 7 = x7 at d7 hA
  obtain rfl := hA
  simp only [List.drop_succ_cons, List.drop_zero]
  obtain ⟨off4, rfl, h4⟩ := d4
  obtain ⟨off7, rfl, h7⟩ := d7
  have HGW : Hid (W.heap[g]? = some (.cells cur 149 (0, 0))) := below_blk hW HGC.out hgl
  have HRW : Hid (RowIs W 149 7 g n cap (cpsV l)) := HR.out.below hW hgl
  have HVW : Hid _ := below_blk hW HV.out hvl
  (refine wpList_copy_k rfl (.tmp 73) (.tmp 76) 33 rfl 149 7 Tryz.underlying33 Tryz.infosCpO (some ⟨g, off4, none⟩) (some ⟨g, off7, none⟩) dd _ ss _ rfl rfl dd (by show min ss dd = dd; omega) g ((i + 1) * 7) cur 149 HGW.out (cpsV (l.drop i)) (by rw [cpsV_len, HDD.out]) (fun _ => ⟨by rw [show off4 = (i + 1) * 7 by omega], _, rfl, HSRC.out W HRW.out off7 (by omega)⟩) (by rw [cpsV_len, HDD.out]; omega) (cpsV_one _) ?_; intro w2 hz on; have HZ2 : Hid (w2.heap[g]? = some (.cells (splice cur.toList ((i + 1) * 7) (cpsV (l.drop i))).toArray 149 (0, 0))) := hz; have HO2 : Hid (Only g W w2) := on; clear hz on)
  have HV2 : Hid _ := (HO2.out.other vb hvg).trans HVW.out
  have HSL : Hid ((splice cur.toList ((i + 1) * 7) (cpsV (l.drop i))).length = cur.size) := by unfold Hid; rw [length_splice _ _ _ (by rw [cpsV_len, HDD.out, HCL.out]; omega), HCL.out]
  go_upto_region 17 with (first
   | (refine wpList_slice_off rfl 33 (.tmp 78) (some (.tmp 79)) none none rfl Tryz.undCpsO 7 Tryz.infoElemCpO g 0 (n + 1) cap i (n + 1) cap rfl (some (.int .i64 (i : Int))) none none rfl rfl rfl (fun w => run_slice_l w _ _ _ _ Tryz.undCpsO .i64 (i : Int) (by omega) (by omega)) ?_; intro off8 h8; rw [show n + 1 - i = ss by omega])
   | (refine wpList_copy_k rfl (.tmp 80) (.tmp 81) 33 rfl 149 7 Tryz.underlying33 Tryz.infosCpO (some ⟨g, off8, none⟩) (some ⟨vb, 0, none⟩) ss _ 1 1 rfl rfl 1 (by show min 1 ss = 1; omega) g (i * 7) _ 149 HZ2.out XS (by rw [HXL.out]) (fun _ => ⟨by rw [show off8 = i * 7 by omega], _, rfl, HNW.out _ HV2.out⟩) (by rw [List.size_toArray, HSL.out]; rw [HXL.out]; omega) HX1.out ?_; intro w3 hz on; have HZ3 : Hid (w3.heap[g]? = some (.cells (splice (splice cur.toList ((i + 1) * 7) (cpsV (l.drop i))) (i * 7) XS).toArray 149 (0, 0))) := hz; have HO3 : Hid (Only g w2 w3) := on; clear hz on))
  go_wp2
  go_ret
  have hmid := (ins_mid (A := cpsV (l.take i)) (X := XS) (D := cpsV (l.drop i)) (L := cur.toList) (a := i * 7) (s := 7) (d := dd * 7) (by rw [cpsV_len, HTL.out]) HXL.out (by rw [cpsV_len, HDD.out]) (by rw [HFT.out, ← HCS.out.2, List.take_take, Nat.min_eq_left (Nat.mul_le_mul_right _ (by omega))]) (by rw [HCL.out]; omega)).2
  rw [show i * 7 + 7 = (i + 1) * 7 by omega, show (i + 1) * 7 + dd * 7 = (n + 1) * 7 by omega] at hmid
  refine ⟨some ⟨g, 0, none⟩, cap, rfl, .inr ⟨g, rfl, hNg, ?_⟩, fun q hq hne => ?_, ?_⟩
  ·rw [HVL.out]
   refine ⟨?_, hroom, _, HZ3.out, ?_, ?_⟩
   ·simp only [List.length_append, cpsV_len, HTL.out, HDD.out]; rw [HXL.out]; omega
   ·rw [List.size_toArray, length_splice _ _ _ (by rw [HSL.out]; rw [HXL.out]; omega), HSL.out, HCS.out.1]
   ·exact hmid
  ·have hqg : q ≠ g := fun e => hne (by rw [e])
   exact (HO3.out.other q hqg).trans ((HO2.out.other q hqg).trans (hW.block q hq))
  ·exact (hW.mono hN).trans ((HO2.out.below.mono hNg).trans (HO3.out.below.mono hNg))
 ·obtain ⟨dd, hdd⟩ : ∃ q, n - i = q := ⟨_, rfl⟩
  have hd1 : n ≤ i + dd := by omega
  have hd1' : i + dd ≤ n := by omega
  obtain ⟨mz, hmz⟩ : ∃ q, n + 1 - i = q := ⟨_, rfl⟩
  have hm1 : n + 1 ≤ i + mz := by omega
  have hm1' : i + mz ≤ n + 1 := by omega
  have HDD : Hid ((l.drop i).length = dd) := by unfold Hid; rw [HDL.out]; exact hdd
  have hd2 : 0 < dd := by omega
  clear hdd hmz
  go_enter Tryz.func228, Tryz.ntmps228
  go_upto_region 2 with (refine wpList_slice_off rfl 33 (.tmp 10) (some (.tmp 11)) none none rfl Tryz.undCpsO 7 Tryz.infoElemCpO g 0 n cap i n cap rfl (some (.int .i64 (i : Int))) none none rfl rfl rfl (fun w => run_slice_l w _ _ _ _ Tryz.undCpsO .i64 (i : Int) (by omega) (by omega)) ?_; intro off0 _; rw [show n - i = dd by omega])
  go_upto_region 9 with fail
  go_upto_region 10 with (refine wpList_append_zeros rfl (.tmp 34) (.tmp 39) 33 3 rfl 149 _ 7 72 .i64 Tryz.underlying33 Tryz.underlying3 Tryz.infoCpI rfl (by omega) ⟨g, 0, none⟩ i cap (cpsV (l.take i)) rfl (by rw [cpsV_len, HTL.out]) (HR.out.srcTakeR (c := Cp.cells) (fun _ => rfl) i) mz (congrArg (Value.int .i64) (by omega)) (by omega) (by omega) (by unfold maxLen; omega) (by omega) ?_; intro g2 cap2 cur w1 hg2 hc2 hz1 hcs1 hb1)
  have hgg2 : vb ≠ g2 := by omega
  have HCL : Hid (cur.toList.length = cur.size) := Array.length_toList
  have hg2l := (Array.getElem?_eq_some_iff.1 hz1.out).1
  have HV1 : Hid _ := below_blk hb1 HV.out hvl
  have HR1 : Hid (RowIs w1 149 7 g n cap (cpsV l)) := HR.out.below hb1 hgl
  have hcsz : (i + mz) * 7 ≤ cur.size := by rw [hcs1.out.1]; exact Nat.mul_le_mul_right _ hc2
  go_upto_region 11 with (first
   | (refine wpList_slice_off rfl 33 (.tmp 41) (some (.tmp 42)) none none rfl Tryz.undCpsO 7 Tryz.infoElemCpO g2 0 (i + mz) cap2 i (i + mz) cap2 rfl (some (.int .i64 (i : Int))) none none rfl rfl rfl (fun w => run_slice_l w _ _ _ _ Tryz.undCpsO .i64 (i : Int) (by omega) (by omega)) ?_; intro off8 h8; rw [show i + mz - i = mz by omega])
   | (refine wpList_copy_k rfl (.tmp 43) (.tmp 44) 33 rfl 149 7 Tryz.underlying33 Tryz.infosCpO (some ⟨g2, off8, none⟩) (some ⟨vb, 0, none⟩) mz _ 1 1 rfl rfl 1 (by show min 1 mz = 1; omega) g2 (i * 7) _ 149 hz1.out XS (by rw [HXL.out]) (fun _ => ⟨by rw [show off8 = i * 7 by omega], _, rfl, HNW.out _ HV1.out⟩) (by rw [HXL.out]; omega) HX1.out ?_; intro w2 hz on; have HZ2 : Hid (w2.heap[g2]? = some (.cells (splice cur.toList (i * 7) XS).toArray 149 (0, 0))) := hz; have HO2 : Hid (Only g2 w1 w2) := on; clear hz on))
  have HSL : Hid ((splice cur.toList (i * 7) XS).length = cur.size) := by unfold Hid; rw [length_splice _ _ _ (by rw [HCL.out, HXL.out]; omega), HCL.out]
  have HR2 : Hid (RowIs w2 149 7 g n cap (cpsV l)) := HR1.out.blk (HO2.out.other g (by omega))
  have hb2 : Below w.heap.size w w2 := hb1.trans (HO2.out.below.mono hg2)
  have hg2w : g2 < w2.heap.size := (Array.getElem?_eq_some_iff.1 HZ2.out).1
  have hgl2 := HR2.out.lt
  refine wp_region_grows 8 (by kernel_rfl) (by kernel_rfl) ?_
  apply grow_eq
  ·intro V W K AA hW hd hA hK
   simp only [putAll, pz1, pz2, pz3, pz4, Act.put, pz5, pz6, pz7] at hA
   clear hd
   obtain rfl := hA
   go_wp2
   exact hK.out _ brf
  apply grow_eq
  ·intro V W K AA hW hd hA hK
   simp only [putAll, pz1, pz2, pz3, pz4, Act.put, pz5, pz6, pz7] at hA
   clear hd
   obtain rfl := hA
   go_wp2
   exact hK.out _ brf
  apply grow_eq
  ·intro V W K AA hW hd hA hK
   simp only [putAll, pz1, pz2, pz3, pz4, Act.put, pz5, pz6, pz7] at hA
   clear hd
   obtain rfl := hA
   go_wp2
   exact hK.out _ brf
  apply grow_eq
  ·intro V W K AA hW hd hA hK
   have d1 : V 1 = _ := hd 1 (by kernel_rfl)
   have d2 : V 2 = _ := hd 2 (by kernel_rfl)
   simp only [putAll, pz1, pz2, pz3, pz4, Act.put, pz5, pz6, pz7, d1, d2] at hA
   clear hd d1 d2
   obtain rfl := hA
   go_wp2
   exact hK.out _ brf
  refine grow_op (fun vv (_ : World) => ∃ off, vv = .slice (some ⟨g2, off, none⟩) dd (cap2 - (i + 1)) ∧ (off = (i + 1) * 7 ∨ cap2 = i + 1)) (fun _ _ _ h _ => h) ?_ ?_
  ·intro V W K AA hW hd hA hK
   have d0 : V 0 = _ := hd 0 (by kernel_rfl)
   have d3 : V 3 = _ := hd 3 (by kernel_rfl)
   simp only [putAll, pz1, pz2, pz3, pz4, Act.put, pz5, pz6, pz7, d0, d3] at hA
   clear hd d0 d3
   obtain rfl := hA
   refine wpList_slice_off rfl 33 (.tmp 46) (some (.tmp 49)) none none rfl Tryz.undCpsO 7 Tryz.infoElemCpO g2 0 (i + mz) cap2 (i + 1) (i + mz) cap2 rfl (some (.int .i64 ((i : Int) + 1))) none none rfl rfl rfl (fun w => run_slice_l w _ _ _ _ Tryz.undCpsO .i64 ((i + 1 : Nat) : Int) (by omega) (by omega)) ?_
   intro off hoff
   rw [show (i + mz) - (i + 1) = dd by omega]
   go_wp2
   exact hK.out _ _ brf ⟨off, rfl, by omega⟩
  apply grow_eq
  ·intro V W K AA hW hd hA hK
   simp only [putAll, pz1, pz2, pz3, pz4, Act.put, pz5, pz6, pz7] at hA
   clear hd
   obtain rfl := hA
   go_wp2
   exact hK.out _ brf
  apply grow_eq
  ·intro V W K AA hW hd hA hK
   simp only [putAll, pz1, pz2, pz3, pz4, Act.put, pz5, pz6, pz7] at hA
   clear hd
   obtain rfl := hA
   go_wp2
   exact hK.out _ brf
  refine grow_op (fun vv (_ : World) => ∃ off, vv = .slice (some ⟨g, off, none⟩) dd (cap - i) ∧ (off = i * 7 ∨ cap = i)) (fun _ _ _ h _ => h) ?_ ?_
  ·intro V W K AA hW hd hA hK
   have d5 : V 5 = _ := hd 5 (by kernel_rfl)
   have d6 : V 6 = _ := hd 6 (by kernel_rfl)
   simp only [putAll, pz1, pz2, pz3, pz4, Act.put, pz5, pz6, pz7, d5, d6] at hA
   clear hd d5 d6
   obtain rfl := hA
   refine wpList_slice_off rfl 33 (.tmp 51) (some (.tmp 52)) none none rfl Tryz.undCpsO 7 Tryz.infoElemCpO g 0 n cap i n cap rfl (some (.int .i64 (i : Int))) none none rfl rfl rfl (fun w => run_slice_l w _ _ _ _ Tryz.undCpsO .i64 (i : Int) (by omega) (by omega)) ?_
   intro off hoff
   rw [show n - i = dd by omega]
   go_wp2
   exact hK.out _ _ brf ⟨off, rfl, by omega⟩
  intro V W AA hW hS hA
  have d0 : V 0 = _ := hS 0 (by omega)
  have d1 : V 1 = _ := hS 1 (by omega)
  have d2 : V 2 = _ := hS 2 (by omega)
  have d3 : V 3 = _ := hS 3 (by omega)
  have d4 : (fun vv (_ : World) => ∃ off, vv = .slice (some ⟨g2, off, none⟩) dd (cap2 - (i + 1)) ∧ (off = (i + 1) * 7 ∨ cap2 = i + 1)) (V 4) W := hS 4 (by omega)
  have d5 : V 5 = _ := hS 5 (by omega)
  have d6 : V 6 = _ := hS 6 (by omega)
  have d7 : (fun vv (_ : World) => ∃ off, vv = .slice (some ⟨g, off, none⟩) dd (cap - i) ∧ (off = i * 7 ∨ cap = i)) (V 7) W := hS 7 (by omega)
  simp only [putAll, pz1, pz2, pz3, pz4, Act.put, pz5, pz6, pz7, d0, d1, d2, d3, d5, d6] at hA
  clear hS d0 d1 d2 d3 d5 d6
  generalize V 4 = x4 at d4 hA
  generalize V 7 = x7 at d7 hA
  obtain rfl := hA
  simp only [List.drop_succ_cons, List.drop_zero]
  obtain ⟨off4, rfl, h4⟩ := d4
  obtain ⟨off7, rfl, h7⟩ := d7
  have HZW : Hid _ := below_blk hW HZ2.out hg2w
  have HRW : Hid (RowIs W 149 7 g n cap (cpsV l)) := HR2.out.below hW hgl2
  (refine wpList_copy_k rfl (.tmp 50) (.tmp 53) 33 rfl 149 7 Tryz.underlying33 Tryz.infosCpO (some ⟨g2, off4, none⟩) (some ⟨g, off7, none⟩) dd _ dd _ rfl rfl dd (by show min dd dd = dd; omega) g2 ((i + 1) * 7) _ 149 HZW.out (cpsV (l.drop i)) (by rw [cpsV_len, HDD.out]) (fun _ => ⟨by rw [show off4 = (i + 1) * 7 by omega], _, rfl, HSRC.out W HRW.out off7 (by omega)⟩) (by rw [cpsV_len, HDD.out, List.size_toArray, HSL.out]; omega) (cpsV_one _) ?_; intro w3 hz on; have HZ3 : Hid (w3.heap[g2]? = some (.cells (splice (splice cur.toList (i * 7) XS) ((i + 1) * 7) (cpsV (l.drop i))).toArray 149 (0, 0))) := hz; have HO3 : Hid (Only g2 W w3) := on; clear hz on)
  go_wp2
  go_ret
  have hmid := (ins_mid (A := cpsV (l.take i)) (X := XS) (D := cpsV (l.drop i)) (L := cur.toList) (a := i * 7) (s := 7) (d := dd * 7) (by rw [cpsV_len, HTL.out]) HXL.out (by rw [cpsV_len, HDD.out]) hcs1.out.2 (by rw [HCL.out]; omega)).1
  rw [show i * 7 + 7 = (i + 1) * 7 by omega, show (i + 1) * 7 + dd * 7 = (n + 1) * 7 by omega] at hmid
  have hb3 : Below w.heap.size w w3 := hb2.trans ((hW.mono (by omega)).trans (HO3.out.below.mono hg2))
  refine ⟨some ⟨g2, 0, none⟩, cap2, by rw [show i + mz = n + 1 by omega]; rfl, .inr ⟨g2, rfl, by omega, ?_⟩, fun q hq _ => hb3.block q hq, hb3.mono hN⟩
  rw [HVL.out]
  refine ⟨?_, by omega, _, HZ3.out, ?_, ?_⟩
  ·simp only [List.length_append, cpsV_len, HTL.out, HDD.out]; rw [HXL.out]; omega
  ·rw [List.size_toArray, length_splice _ _ _ (by rw [HSL.out, cpsV_len, HDD.out]; omega), HSL.out, hcs1.out.1]
  ·exact hmid
end Go.Proofs.YtbceafpodamnfabGreatDoor
