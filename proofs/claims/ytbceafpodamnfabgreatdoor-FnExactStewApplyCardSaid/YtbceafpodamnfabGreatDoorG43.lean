/-
  My own: Oq.
-/
import Derived.Test.YtbceafpodamnfabGreatDoorG44
import Derived.Test.YtbceafpodamnfabGreatDoorG36
import Derived.Test.YtbceafpodamnfabGreatDoorG37
set_option linter.unusedVariables false
set_option linter.unusedSimpArgs false
namespace Go.Proofs.YtbceafpodamnfabGreatDoor
open Go.RowKit Go.Sort
theorem Tryz.infosWork : (Tryz.prog.info? 222).map (·.size) = some 14 := by kernel_rfl
theorem four_new (w : World) (A B C D : Obj) : ∃ W0, (((w.alloc A).alloc B).alloc C).alloc D = W0 ∧ W0.heap[w.heap.size]? = some A ∧ W0.heap[w.heap.size + 1]? = some B ∧ W0.heap[w.heap.size + 1 + 1]? = some C ∧ W0.heap[w.heap.size + 1 + 1 + 1]? = some D ∧ W0.heap.size = w.heap.size + 4 ∧ Below w.heap.size w W0 := by
 refine ⟨_, rfl, ?_, ?_, ?_, ?_, ?_, ?_⟩
 ·show ((((w.heap.push A).push B).push C).push D)[w.heap.size]? = _
  rw [Array.getElem?_push, if_neg (by simp <;> omega), Array.getElem?_push, if_neg (by simp <;> omega), Array.getElem?_push, if_neg (by simp), Array.getElem?_push, if_pos rfl]
 ·show ((((w.heap.push A).push B).push C).push D)[w.heap.size + 1]? = _
  rw [Array.getElem?_push, if_neg (by simp <;> omega), Array.getElem?_push, if_neg (by simp), Array.getElem?_push, if_pos (by simp)]
 ·show ((((w.heap.push A).push B).push C).push D)[w.heap.size + 1 + 1]? = _
  rw [Array.getElem?_push, if_neg (by simp), Array.getElem?_push, if_pos (by simp)]
 ·show ((((w.heap.push A).push B).push C).push D)[w.heap.size + 1 + 1 + 1]? = _
  rw [Array.getElem?_push, if_pos (by simp)]
 ·show ((((w.heap.push A).push B).push C).push D).size = _
  simp
 ·exact ((((Below.refl _ _).alloc (Nat.le_refl _) _).alloc (by simp) _).alloc (by simp; omega) _).alloc (by simp; omega) _
set_option maxRecDepth 100000 in
theorem door_no {Q : Ending → World → Prop} (T : Array Value) (pa pe : Nat) (c : Int) (W : World) (h4 : T.getD 4 undef = .pointer (some ⟨pa, 0, none⟩)) (h5 : T.getD 5 undef = .pointer (some ⟨pe, 0, none⟩)) (ha : W.heap[pa]? = some (.cells #[.int .i64 0, .slice none 0 0, .slice none 0 0, .slice none 0 0] 36 (0, 0))) (he : W.heap[pe]? = some (.cells #[.nilIface] 132 (0, 0)))
  (hQ : ∀ w', (∀ N, N ≤ pa → N ≤ pe → N ≤ W.heap.size → Below N W w') → Q (.returned (.tuple #[.agg #[.int .i64 0, .slice none 0 0, .slice none 0 0, .slice none 0 0], errV c])) w') :
  bodyPostD Tryz.prog Tryz.f106 Q (Exit.panic (noWay c)) { tmps := T, defers := [{ target := Target.fn (Fn.func 166) #[.pointer (some ⟨pa, 0, none⟩), .pointer (some ⟨pe, 0, none⟩)], args := #[] }] } W := by
 refine leaves_cons (f := 166) (args := #[.pointer (some ⟨pa, 0, none⟩), .pointer (some ⟨pe, 0, none⟩)]) (by simp) (by simp [go_sem]) ?_
 refine (catch_own pa pe c W ha he).mono ?_
 rintro e u' w'' ⟨rfl, rfl, h1, h2, h3⟩
 have h4' : T[4]?.getD undef = .pointer (some ⟨pa, 0, none⟩) := by simpa using h4
 have h5' : T[5]?.getD undef = .pointer (some ⟨pe, 0, none⟩) := by simpa using h5
 have k0 := blk_cell h1 0 rfl
 have k1 := blk_cell h1 1 rfl
 have k2 := blk_cell h1 2 rfl
 have k3 := blk_cell h1 3 rfl
 have hc := blk_cell h2 0 rfl
 have hq := hQ w'' h3
 unfold errV at hq
 simp [Leaves, settle, results, Tryz.results106, go_sem, h4', h5', k0, k1, k2, k3, asAddr, hc]
 exact hq
set_option maxRecDepth 100000 in
theorem door_yes {Q : Ending → World → Prop} (T : Array Value) (pa pe : Nat) (x0 x1 x2 x3 : Value) (W : World) (h4 : T.getD 4 undef = .pointer (some ⟨pa, 0, none⟩)) (h5 : T.getD 5 undef = .pointer (some ⟨pe, 0, none⟩)) (ha : W.heap[pa]? = some (.cells #[x0, x1, x2, x3] 36 (0, 0))) (he : W.heap[pe]? = some (.cells #[.nilIface] 132 (0, 0)))
  (hQ : ∀ w', Below W.heap.size W w' → Q (.returned (.tuple #[.agg #[x0, x1, x2, x3], .nilIface])) w') :
  bodyPostD Tryz.prog Tryz.f106 Q Exit.ret { tmps := T, defers := [{ target := Target.fn (Fn.func 166) #[.pointer (some ⟨pa, 0, none⟩), .pointer (some ⟨pe, 0, none⟩)], args := #[] }] } W := by
 refine leaves_cons (f := 166) (args := #[.pointer (some ⟨pa, 0, none⟩), .pointer (some ⟨pe, 0, none⟩)]) (by simp) (by simp [go_sem]) ?_
 refine (catch_idle pa pe W).mono ?_
 rintro e u' w'' ⟨rfl, rfl, h3⟩
 have h1 := below_blk h3 ha (Array.getElem?_eq_some_iff.1 ha).1
 have h2 := below_blk h3 he (Array.getElem?_eq_some_iff.1 he).1
 have h4' : T[4]?.getD undef = .pointer (some ⟨pa, 0, none⟩) := by simpa using h4
 have h5' : T[5]?.getD undef = .pointer (some ⟨pe, 0, none⟩) := by simpa using h5
 have k0 := blk_cell h1 0 rfl
 have k1 := blk_cell h1 1 rfl
 have k2 := blk_cell h1 2 rfl
 have k3 := blk_cell h1 3 rfl
 have hc := blk_cell h2 0 rfl
 have hq := hQ w'' h3
 simp [Leaves, settle, results, Tryz.results106, go_sem, h4', h5', k0, k1, k2, k3, asAddr, hc]
 exact hq
def DoIs (N : Nat) (B : Bk) (A : Ac) (e : Ending) (w' : World) : Prop :=
 (codeL B A = 0 ∧ ∃ b1 b2 b3 d1 d2 d3, e = .returned (.tuple #[.agg #[.int .i64 (doneOf B A).now, .slice b1 (doneOf B A).svcs.length d1, .slice b2 (doneOf B A).cps.length d2, .slice b3 (doneOf B A).bts.length d3], .nilIface]) ∧ BkOf w' N (doneOf B A) b1 b2 b3 d1 d2 d3) ∨
 (∃ c, codeL B A = c ∧ c ≠ 0 ∧ e = .returned (.tuple #[.agg #[.int .i64 0, .slice none 0 0, .slice none 0 0, .slice none 0 0], errV c]))
set_option maxRecDepth 100000 in
set_option maxHeartbeats 8000000 in
theorem doWhole_any (B : Bk) (A : Ac) (a1 a2 a3 : Option Addr) (c1 c2 c3 : Nat) (ae : Option Addr) (ce : Nat) (w : World) (hV : Valid B) (hSm : B.small) (hZ : B.sized) (hB : BkAt w a1 a2 a3 B) (hl : A.ends.length ≤ 1048576) (hE : SlE w ae A.ends) (hsv : A.service.size ≤ maxLen) (hnum : Hid (∀ e ∈ A.ends, (Lit.int .i64 e.number).wf = true)) :
  Calls Tryz.prog 106 #[.agg #[.int .i64 B.now, .slice a1 B.svcs.length c1, .slice a2 B.cps.length c2, .slice a3 B.bts.length c3], .agg #[.string A.service, .int .i64 A.seen, .int .i64 A.create, .int .i64 A.want, .int .i64 A.cool, .bool A.scale, .slice ae A.ends.length ce, .bool A.drop]] w fun e w' => DoIs w.heap.size B A e w' ∧ Below w.heap.size w w' := by
 obtain ⟨W0, hW0, t0, t1, t2, t3, hz0, hb0⟩ := four_new w (.cells #[.int .i64 B.now, .slice a1 B.svcs.length c1, .slice a2 B.cps.length c2, .slice a3 B.bts.length c3] 36) (.cells #[.string A.service, .int .i64 A.seen, .int .i64 A.create, .int .i64 A.want, .int .i64 A.cool, .bool A.scale, .slice ae A.ends.length ce, .bool A.drop] 42) (.cells #[.int .i64 0, .slice none 0 0, .slice none 0 0, .slice none 0 0] 36) (.cells #[.nilIface] 132)
 have T0 : Hid _ := t0
 have T1 : Hid _ := t1
 have T2 : Hid _ := t2
 have T3 : Hid _ := t3
 obtain ⟨M, HM⟩ : ∃ M, M = W0.heap.size := ⟨_, rfl⟩
 have hM0 : w.heap.size + 4 ≤ M := by omega
 have hmf : ∀ (fn : Fn) (first cap : Array Value) (w : World), (Instr.makeFunc fn first cap).run Tryz.prog w = .ok (.func fn first cap) w := fun _ _ _ _ => rfl
 clear t0 t1 t2 t3
 go_enter_defers Tryz.func106, Tryz.ntmps106
 have g0 := blk_cell T1.out 0 rfl
 have g1 := blk_cell T1.out 1 rfl
 have g2 := blk_cell T1.out 2 rfl
 have g3 := blk_cell T1.out 3 rfl
 have g4 := blk_cell T1.out 4 rfl
 have g5 := blk_cell T1.out 5 rfl
 have g6 := blk_cell T1.out 6 rfl
 have g7 := blk_cell T1.out 7 rfl
 go_wp2_with fail
 refine (shapeHolds_any A ae ce _ hl (hE.below hb0)).mono ?_
 rintro e w1 ⟨rfl, hb1⟩
 rw [← HM] at hb1
 have hM1' : M ≤ w1.heap.size := by have := hb1.size; omega
 clear g0 g1 g2 g3 g4 g5 g6 g7 hW0 hz0
 obtain ⟨ok, HOK⟩ : ∃ b, Hid (actOkB A = b) := ⟨_, rfl⟩
 rw [HOK.out]
 cases ok
 ·go_wp2_with (go_at_call 167; refine (insist_no 2 _).mono ?_; rintro e w2 ⟨rfl, rfl⟩)
  go_wp2
  exact door_no _ _ _ 2 _ rfl rfl (below_blk hb1 T2.out (by omega)) (below_blk hb1 T3.out (by omega)) fun w' hb' => ⟨.inr ⟨2, code_2 HOK.out, by decide, rfl⟩, hb0.trans ((hb1.mono (by omega)).trans (hb' _ (by omega) (by omega) (by omega)))⟩
 have hx1 := hb1
 have hM1 : M ≤ w1.heap.size := by have := hb1.size; omega
 have HT0 : Hid _ := below_blk hb1 T0.out (by omega)
 have HT1 : Hid _ := below_blk hb1 T1.out (by omega)
 have hl10 : w.heap.size < w1.heap.size := by omega
 have hl11 : w.heap.size + 1 < w1.heap.size := by omega
 have hbw1 : Below w.heap.size w w1 := hb0.trans (hb1.mono (by omega))
 clear hb1
 go_upto_region 3 with (go_at_call 167; refine (insist_yes 2 _).mono ?_; rintro e w2 ⟨rfl, rfl⟩)
 refine wp_region_grows 5 (by kernel_rfl) (by kernel_rfl) ?_
 apply grow_eq
 ·intro V W K AA hW hd hA hK
  simp only [putAll, pz1, pz2, pz3, pz4, Act.put, pz5, pz6, pz7] at hA
  clear hd
  obtain rfl := hA
  have g0 := blk_cell (below_blk hW HT1.out hl11) 0 rfl
  have g1 := blk_cell (below_blk hW HT1.out hl11) 1 rfl
  have g2 := blk_cell (below_blk hW HT1.out hl11) 2 rfl
  have g3 := blk_cell (below_blk hW HT1.out hl11) 3 rfl
  have g4 := blk_cell (below_blk hW HT1.out hl11) 4 rfl
  have g5 := blk_cell (below_blk hW HT1.out hl11) 5 rfl
  have g6 := blk_cell (below_blk hW HT1.out hl11) 6 rfl
  have g7 := blk_cell (below_blk hW HT1.out hl11) 7 rfl
  go_wp2
  exact hK.out _ brf
 apply grow_eq
 ·intro V W K AA hW hd hA hK
  simp only [putAll, pz1, pz2, pz3, pz4, Act.put, pz5, pz6, pz7] at hA
  clear hd
  obtain rfl := hA
  have k0 := blk_cell (below_blk hW HT0.out hl10) 0 rfl
  have k1 := blk_cell (below_blk hW HT0.out hl10) 1 rfl
  have k2 := blk_cell (below_blk hW HT0.out hl10) 2 rfl
  have k3 := blk_cell (below_blk hW HT0.out hl10) 3 rfl
  go_wp2
  exact hK.out _ brf
 refine grow_op (fun v W => ∃ y1 z1 y2 z2 y3 z3, v = .agg #[.int .i64 B.now, .slice y1 B.svcs.length z1, .slice y2 B.cps.length z2, .slice y3 B.bts.length z3] ∧ BkOf W M B y1 y2 y3 z1 z2 z3) (fun v W W2 ⟨y1, z1, y2, z2, y3, z3, h, hr⟩ hb => ⟨y1, z1, y2, z2, y3, z3, h, hr.below hb⟩) ?_ ?_
 ·intro V W K AA hW hd hA hK
  have d1 : V 1 = _ := hd 1 (by kernel_rfl)
  simp only [putAll, pz1, pz2, pz3, pz4, Act.put, pz5, pz6, pz7, d1] at hA
  clear hd d1
  obtain rfl := hA
  go_wp2_with fail
  refine (freshBook_any B a1 a2 a3 c1 c2 c3 W hSm (hB.below (hbw1.trans (hW.mono hbw1.size)))).mono ?_
  rintro e w3 ⟨y1, z1, y2, z2, y3, z3, rfl, hr, hbq⟩
  have HRN := hidBkOf (hr.mono (Nat.le_trans hM1 hW.size))
  clear hr
  go_wp2
  exact hK.out _ _ hbq ⟨y1, z1, y2, z2, y3, z3, rfl, HRN.out⟩
 refine grow_op (fun v W => ∃ y1 z1 y2 z2 y3 z3, v = .agg #[.string A.service, .int .i64 A.seen, .int .i64 A.create, .int .i64 A.want, .int .i64 A.cool, .bool A.scale, .slice ae A.ends.length ce, .bool A.drop, .int .i64 B.now, .slice y1 B.svcs.length z1, .slice y2 B.cps.length z2, .slice y3 B.bts.length z3, .int .i64 0, .slice none 0 0] ∧ BkOf W M B y1 y2 y3 z1 z2 z3) (fun v W W2 ⟨y1, z1, y2, z2, y3, z3, h, hr⟩ hb => ⟨y1, z1, y2, z2, y3, z3, h, hr.below hb⟩) ?_ ?_
 ·intro V W K AA hW hd hA hK
  have d0 : V 0 = _ := hd 0 (by kernel_rfl)
  have d2 : (fun v W => ∃ y1 z1 y2 z2 y3 z3, v = .agg #[.int .i64 B.now, .slice y1 B.svcs.length z1, .slice y2 B.cps.length z2, .slice y3 B.bts.length z3] ∧ BkOf W M B y1 y2 y3 z1 z2 z3) (V 2) W := hd 2 (by kernel_rfl)
  simp only [putAll, pz1, pz2, pz3, pz4, Act.put, pz5, pz6, pz7, d0] at hA
  clear hd d0
  generalize V 2 = x2 at d2 hA
  obtain rfl := hA
  obtain ⟨y1, z1, y2, z2, y3, z3, rfl, hr⟩ := d2
  have HRN := hidBkOf hr
  clear hr
  go_wp2
  exact hK.out _ _ brf ⟨y1, z1, y2, z2, y3, z3, rfl, HRN.out⟩
 refine grow_op (fun v W => ∃ q, v = .pointer (some ⟨q, 0, none⟩) ∧ M ≤ q ∧ W.heap[q]? = some (.cells #[.string ⟨#[]⟩, .int .i64 0, .int .i64 0, .int .i64 0, .int .i64 0, .bool false, .slice none 0 0, .bool false, .int .i64 0, .slice none 0 0, .slice none 0 0, .slice none 0 0, .int .i64 0, .slice none 0 0] 222 (0, 0))) (fun v W W2 ⟨q, h1, h2, h3⟩ hb => ⟨q, h1, h2, below_blk hb h3 (Array.getElem?_eq_some_iff.1 h3).1⟩) ?_ ?_
 ·intro V W K AA hW hd hA hK
  simp only [putAll, pz1, pz2, pz3, pz4, Act.put, pz5, pz6, pz7] at hA
  clear hd
  obtain rfl := hA
  go_wp2
  exact hK.out _ _ (below_box _ _) ⟨W.heap.size, rfl, Nat.le_trans hM1 hW.size, heap_alloc_new _ _⟩
 intro V W AA hW hS hA
 have d0 : V 0 = _ := hS 0 (by omega)
 have d1 : V 1 = _ := hS 1 (by omega)
 have d2 : (fun v W => ∃ y1 z1 y2 z2 y3 z3, v = .agg #[.int .i64 B.now, .slice y1 B.svcs.length z1, .slice y2 B.cps.length z2, .slice y3 B.bts.length z3] ∧ BkOf W M B y1 y2 y3 z1 z2 z3) (V 2) W := hS 2 (by omega)
 have d3 : (fun v W => ∃ y1 z1 y2 z2 y3 z3, v = .agg #[.string A.service, .int .i64 A.seen, .int .i64 A.create, .int .i64 A.want, .int .i64 A.cool, .bool A.scale, .slice ae A.ends.length ce, .bool A.drop, .int .i64 B.now, .slice y1 B.svcs.length z1, .slice y2 B.cps.length z2, .slice y3 B.bts.length z3, .int .i64 0, .slice none 0 0] ∧ BkOf W M B y1 y2 y3 z1 z2 z3) (V 3) W := hS 3 (by omega)
 have d4 : (fun v W => ∃ q, v = .pointer (some ⟨q, 0, none⟩) ∧ M ≤ q ∧ W.heap[q]? = some (.cells #[.string ⟨#[]⟩, .int .i64 0, .int .i64 0, .int .i64 0, .int .i64 0, .bool false, .slice none 0 0, .bool false, .int .i64 0, .slice none 0 0, .slice none 0 0, .slice none 0 0, .int .i64 0, .slice none 0 0] 222 (0, 0))) (V 4) W := hS 4 (by omega)
 simp only [putAll, pz1, pz2, pz3, pz4, Act.put, pz5, pz6, pz7, d0, d1] at hA
 clear hS d0 d1
 generalize V 2 = x2 at d2 hA
 generalize V 3 = x3 at d3 hA
 generalize V 4 = x4 at d4 hA
 obtain rfl := hA
 simp only [List.drop_succ_cons, List.drop_zero]
 clear d2
 obtain ⟨y1, z1, y2, z2, y3, z3, rfl, hr⟩ := d3
 obtain ⟨q, rfl, hMq, hqz⟩ := d4
 have HRN := hidBkOf hr
 have HQZ : Hid _ := hqz
 clear hr hqz
 go_upto_region 4 with ((with_reducible show wpList _ _ _ _ _ _); refine wpList_store_only rfl 222 (.tmp 6) (.tmp 14) rfl q 0 #[.string A.service, .int .i64 A.seen, .int .i64 A.create, .int .i64 A.want, .int .i64 A.cool, .bool A.scale, .slice ae A.ends.length ce, .bool A.drop, .int .i64 B.now, .slice y1 B.svcs.length z1, .slice y2 B.cps.length z2, .slice y3 B.bts.length z3, .int .i64 0, .slice none 0 0] rfl rfl 222 #[.string ⟨#[]⟩, .int .i64 0, .int .i64 0, .int .i64 0, .int .i64 0, .bool false, .slice none 0 0, .bool false, .int .i64 0, .slice none 0 0, .slice none 0 0, .slice none 0 0, .int .i64 0, .slice none 0 0] HQZ.out Tryz.infosWork (Nat.le_of_ble_eq_true rfl) (by simp [Value.oneCell']) ?_; intro w2 hz on; have HG2 : Hid (w2.heap[q]? = some (.cells #[.string A.service, .int .i64 A.seen, .int .i64 A.create, .int .i64 A.want, .int .i64 A.cool, .bool A.scale, .slice ae A.ends.length ce, .bool A.drop, .int .i64 B.now, .slice y1 B.svcs.length z1, .slice y2 B.cps.length z2, .slice y3 B.bts.length z3, .int .i64 0, .slice none 0 0] 222 (0, 0))) := hz; have HON : Hid (Only q W w2) := on; clear hz on)
 have kq : KeepT 222 W w2 := .of_only HON.out HQZ.out
 have HST2 : Hid (WkAt w2 M q A ae ce B 0 []) := ⟨y1, y2, y3, z1, z2, z3, .slice none 0 0, hMq, HG2.out, ⟨kq.rowN HRN.out.svcs (by decide), kq.rowN HRN.out.cps (by decide), kq.rowN HRN.out.bts (by decide)⟩, ⟨rfl, .inl ⟨rfl, rfl⟩⟩⟩
 have hx2 : Below M W0 w2 := hx1.trans ((hW.mono hM1).trans (HON.out.below.mono hMq))
 have hM2 : M ≤ w2.heap.size := by have := hx2.size; omega
 have HE2 : Hid (∀ W', Below M w2 W' → SlE W' ae A.ends) := fun W' h => hE.below (hb0.trans ((hx2.trans h).mono (by omega)))
 clear kq HG2 HON HQZ HRN hW hx1 hM1 HT0 HT1 hl10 hl11 hbw1
 go_wp2_with fail
 refine (find_any A ae ce B M q _ hnum hl HE2 hV hSm hZ hsv hM2 HST2.out).mono ?_
 rintro e w3 ⟨hf, hb3⟩
 have hx := hx2.trans hb3
 have hM3 : M ≤ w3.heap.size := by have := hx.size; omega
 have HE3 : Hid (∀ W', Below M w3 W' → SlE W' ae A.ends) := fun W' h => HE2.out W' (hb3.trans h)
 clear hx2 hb3 HST2 HE2 hM2
 rcases hf with ⟨k, s, hk, hsv1, hin, rfl, hst⟩ | ⟨hno, rfl⟩
 rotate_left
 ·have HNO : Hid _ := hno
  clear hno
  go_wp2
  exact door_no _ _ _ 3 _ rfl rfl (below_blk hx T2.out (by omega)) (below_blk hx T3.out (by omega)) fun w' hb' => ⟨.inr ⟨3, code_3 HOK.out HNO.out, by decide, rfl⟩, hb0.trans ((hx.mono (by omega)).trans (hb' _ (by omega) (by omega) (by omega)))⟩
 have HST3 := hidWk hst
 have HK : Hid _ := hk
 have HSV : Hid _ := hsv1
 have HIN : Hid _ := hin
 have hnm : s.name = A.service := by obtain ⟨_, _, _, h⟩ := svcOf_some hsv1; exact h
 have HNM : Hid _ := hnm
 have hsi := hV.svcIn (svcOf_mem hsv1)
 clear hst hk hsv1 hin hnm
 have hl1 : B.svcs.length ≤ 1048576 := hSm.1
 go_wp2_with fail
 refine (checkSeen_any A ae ce B s M q k _ hSm hl hl1 hM3 HK.out HIN HE3 HST3.out).mono ?_
 rintro e w4 ⟨hf, hb4⟩
 have hx := hx.trans hb4
 have hM4 : M ≤ w4.heap.size := by have := hx.size; omega
 clear hb4 HST3 HE3 hM3
 rcases hf with ⟨hsn, rfl, hst⟩ | ⟨hno, rfl⟩
 rotate_left
 ·have HNO : Hid _ := hno
  clear hno
  go_wp2
  exact door_no _ _ _ 4 _ rfl rfl (below_blk hx T2.out (by omega)) (below_blk hx T3.out (by omega)) fun w' hb' => ⟨.inr ⟨4, code_4 HOK.out HSV.out HIN.out HNO.out, by decide, rfl⟩, hb0.trans ((hx.mono (by omega)).trans (hb' _ (by omega) (by omega) (by omega)))⟩
 have HSN : Hid _ := hsn
 have HST4 := hidWk hst
 have hnow := hV.now
 unfold inB at hnow
 simp only [Bool.and_eq_true, decide_eq_true_eq] at hnow
 clear hst hsn
 go_wp2_with fail
 refine (touch_any A ae ce B s M q k _ _ hl1 HK.out hnow.1 hnow.2 HST4.out).mono ?_
 rintro e w5 ⟨rfl, hst, hb5⟩
 have hx := hx.trans hb5
 have hM5 : M ≤ w5.heap.size := by have := hx.size; omega
 have HST5 := hidWk hst
 have HK1 : Hid ((B.svcs.set k { s with version := B.now + 1 })[k]? = some { s with version := B.now + 1 }) := by unfold Hid; rw [List.getElem?_set_self (List.getElem?_eq_some_iff.1 HK.out).1]
 have hSm1 : (({ B with now := B.now + 1, svcs := B.svcs.set k { s with version := B.now + 1 } } : Bk)).small := ⟨by simpa using hSm.1, hSm.2.1, hSm.2.2⟩
 clear hst hb5 HST4 hM4
 go_wp2_with fail
 refine (end_any A ae ce B ({ B with now := B.now + 1, svcs := B.svcs.set k { s with version := B.now + 1 } } : Bk) { s with version := B.now + 1 } M q k _ rfl hSm1 (show RiseC B.cps from riseC_of hV) hl hM5 HK1.out HNM.out hsi.want0 hsi.want1 hsi.down0 hsi.down1 HIN.out HST5.out).mono ?_
 rintro e w6 ⟨hf, hb6⟩
 have hx := hx.trans hb6
 have hM6 : M ≤ w6.heap.size := by have := hx.size; omega
 clear hb6 HST5 hM5
 rcases hf with ⟨L, hmk, rfl, hst⟩ | ⟨hno, rfl⟩
 rotate_left
 ·have HNO : Hid (marks B s A.service (B.now + 1) A.ends B.cps = none) := by unfold Hid; rw [← marks_ver (u := B.now + 1)]; exact hno
  clear hno
  go_wp2
  exact door_no _ _ _ 5 _ rfl rfl (below_blk hx T2.out (by omega)) (below_blk hx T3.out (by omega)) fun w' hb' => ⟨.inr ⟨5, code_5 HOK.out HSV.out HIN.out HSN.out HNO.out, by decide, rfl⟩, hb0.trans ((hx.mono (by omega)).trans (hb' _ (by omega) (by omega) (by omega)))⟩
 have HMK : Hid (marks B s A.service (B.now + 1) A.ends B.cps = some L) := by unfold Hid; rw [← marks_ver (u := B.now + 1)]; exact hmk
 have HST6 : Hid (WkAt w6 M q A ae ce ({ now := B.now + 1, svcs := B.svcs.set k { s with version := B.now + 1 }, cps := L, bts := B.bts } : Bk) k (idxL B A)) := hst
 have HLATE : Hid (codeL B A = lateOf B A s L) := code_late HOK.out HSV.out HIN.out HSN.out HMK.out
 have HKEY : Hid (L.map ckey = B.cps.map ckey) := marks_keys _ _ _ _ _ _ _ HMK.out
 have hLl : L.length = B.cps.length := by have := congrArg List.length HKEY.out; simpa using this
 have HRI : Hid (RiseC L) := riseC_keys HKEY.out (riseC_of hV)
 clear hmk hst
 go_wp2_with fail
 refine (scale_any A ae ce ({ now := B.now + 1, svcs := B.svcs.set k { s with version := B.now + 1 }, cps := L, bts := B.bts } : Bk) { s with version := B.now + 1 } M q k _ _ (by simpa using hl1) hM6 HK1.out HST6.out).mono ?_
 rintro e w7 ⟨hf, hb7⟩
 have hx := hx.trans hb7
 have hM7 : M ≤ w7.heap.size := by have := hx.size; omega
 clear hb7 HST6 hM6
 rcases hf with ⟨hsc, rfl, hst⟩ | ⟨hno, rfl⟩
 rotate_left
 ·have HNO : Hid (scaleNo A s = true) := hno
  clear hno
  go_wp2
  exact door_no _ _ _ 6 _ rfl rfl (below_blk hx T2.out (by omega)) (below_blk hx T3.out (by omega)) fun w' hb' => ⟨.inr ⟨6, by rw [HLATE.out]; exact late_scale HNO.out, by decide, rfl⟩, hb0.trans ((hx.mono (by omega)).trans (hb' _ (by omega) (by omega) (by omega)))⟩
 have HSC : Hid (scaleNo A s = false) := hsc
 have HST7 : Hid (WkAt w7 M q A ae ce ({ now := B.now + 1, svcs := (B.svcs.set k { s with version := B.now + 1 }).set k (scaledS A { s with version := B.now + 1 }), cps := L, bts := B.bts } : Bk) k (idxL B A)) := hst
 have HK3 : Hid ((({ now := B.now + 1, svcs := (B.svcs.set k { s with version := B.now + 1 }).set k (scaledS A { s with version := B.now + 1 }), cps := L, bts := B.bts } : Bk)).svcs[k]? = some (scaledS A { s with version := B.now + 1 })) := by
  unfold Hid
  show ((B.svcs.set k { s with version := B.now + 1 }).set k (scaledS A { s with version := B.now + 1 }))[k]? = some (scaledS A { s with version := B.now + 1 })
  rw [List.getElem?_set_self (by rw [List.length_set]; exact (List.getElem?_eq_some_iff.1 HK.out).1)]
 have hSm3 : (({ now := B.now + 1, svcs := (B.svcs.set k { s with version := B.now + 1 }).set k (scaledS A { s with version := B.now + 1 }), cps := L, bts := B.bts } : Bk)).small := ⟨by simpa using hSm.1, by show L.length ≤ 1048576; rw [hLl]; exact hSm.2.1, hSm.2.2⟩
 have hcr := act_create HOK.out
 have hw2 : 0 ≤ ((scaledS A { s with version := B.now + 1 })).want ∧ ((scaledS A { s with version := B.now + 1 })).want ≤ 10 := by
  cases hA : A.scale
  ·rw [scaled_no hA]; exact ⟨hsi.want0, hsi.want1⟩
  ·rw [scaled_yes hA]; exact (act_want HOK.out).out hA
 have HF : Hid _ := scaled_f A s (B.now + 1)
 have ho2 : 0 ≤ ((scaledS A { s with version := B.now + 1 })).over ∧ ((scaledS A { s with version := B.now + 1 })).over ≤ 10 := by rw [HF.out.2.2.2.2]; exact ⟨hsi.over0, hsi.over1⟩
 have hn2 : 1 ≤ ((scaledS A { s with version := B.now + 1 })).next ∧ ((scaledS A { s with version := B.now + 1 })).next ≤ 1000000 := by rw [HF.out.2.1]; exact ⟨hsi.next0, hsi.next1⟩
 obtain ⟨C, HC⟩ : ∃ C, Hid (C = cntTo ((scaledS A { s with version := B.now + 1 })).image ((scaledS A { s with version := B.now + 1 })).name L L.length) := ⟨_, rfl⟩
 have HCC : Hid (C = cntTo s.image s.name L L.length) := by unfold Hid; rw [HC.out, HF.out.1, HF.out.2.2.1]
 have HMKN : Hid (makeNo A (scaledS A { s with version := B.now + 1 }) C = makeNo A (scaledS A s) (cntB { B with cps := L } A.service)) := by
  unfold Hid
  rw [makeNo_scaled, cntB_cps HSV.out, HCC.out, HNM.out]
 have HDRN : Hid (dropNo A (scaledS A { s with version := B.now + 1 }) C = dropNo A s (cntB B A.service)) := dropNo_same HSV.out HNM.out HOK.out HMK.out HCC.out
 clear hst hsc
 obtain ⟨mb, HMB⟩ : ∃ b, Hid (makeNo A (scaledS A { s with version := B.now + 1 }) C = b) := ⟨_, rfl⟩
 obtain ⟨db, HDB⟩ : ∃ b, Hid (dropNo A (scaledS A { s with version := B.now + 1 }) C = b) := ⟨_, rfl⟩
 go_wp2_with fail
 refine (mayCreate_any A ae ce ({ now := B.now + 1, svcs := (B.svcs.set k { s with version := B.now + 1 }).set k (scaledS A { s with version := B.now + 1 }), cps := L, bts := B.bts } : Bk) (scaledS A { s with version := B.now + 1 }) M q k _ _ hSm3 HRI hM7 HK3.out C HC hcr.1 hcr.2 hw2.1 hw2.2 ho2.1 ho2.2 HST7.out).mono ?_
 rintro e w8 ⟨rfl, hb8⟩
 have hx := hx.trans (hb8.mono hM7)
 have hM8 : M ≤ w8.heap.size := by have := hx.size; omega
 have HST8 := hidWk (HST7.out.below hb8)
 clear hb8 HST7 hM7
 rw [HMB.out]
 cases mb
 rotate_left
 ·go_wp2_with (go_at_call 167; refine (insist_no 6 _).mono ?_; rintro e w2 ⟨rfl, rfl⟩)
  exact door_no _ _ _ 6 _ rfl rfl (below_blk hx T2.out (by omega)) (below_blk hx T3.out (by omega)) fun w' hb' => ⟨.inr ⟨6, by rw [HLATE.out]; exact late_make (by rw [← HMKN.out]; exact HMB.out), by decide, rfl⟩, hb0.trans ((hx.mono (by omega)).trans (hb' _ (by omega) (by omega) (by omega)))⟩
 go_wp2_with fail
 refine (mayDrop_any A ae ce ({ now := B.now + 1, svcs := (B.svcs.set k { s with version := B.now + 1 }).set k (scaledS A { s with version := B.now + 1 }), cps := L, bts := B.bts } : Bk) (scaledS A { s with version := B.now + 1 }) M q k _ _ hSm3 HRI hM8 HK3.out C HC HST8.out).mono ?_
 rintro e w9 ⟨rfl, hb9⟩
 have hx := hx.trans (hb9.mono hM8)
 have hM9 : M ≤ w9.heap.size := by have := hx.size; omega
 have HST9 := hidWk (HST8.out.below hb9)
 clear hb9 HST8 hM8
 rw [HDB.out]
 cases db
 rotate_left
 ·go_wp2_with (go_at_call 167; refine (insist_no 6 _).mono ?_; rintro e w2 ⟨rfl, rfl⟩)
  exact door_no _ _ _ 6 _ rfl rfl (below_blk hx T2.out (by omega)) (below_blk hx T3.out (by omega)) fun w' hb' => ⟨.inr ⟨6, by rw [HLATE.out]; exact late_drop (by rw [← HDRN.out]; exact HDB.out), by decide, rfl⟩, hb0.trans ((hx.mono (by omega)).trans (hb' _ (by omega) (by omega) (by omega)))⟩
 have HL7 : Hid (lateOf B A s L = if roomNo B A (scaledS A s) then 7 else 0) := late_room HSC.out (by rw [← HMKN.out]; exact HMB.out) (by rw [← HDRN.out]; exact HDB.out)
 obtain ⟨rb, HRB⟩ : ∃ b, Hid (roomB ({ now := B.now + 1, svcs := (B.svcs.set k { s with version := B.now + 1 }).set k (scaledS A { s with version := B.now + 1 }), cps := L, bts := B.bts } : Bk) A (scaledS A { s with version := B.now + 1 }) = b) := ⟨_, rfl⟩
 have HRN2 : Hid (roomNo B A (scaledS A s) = !rb) := by
  have h := roomB_same (B := B) (X := ({ now := B.now + 1, svcs := (B.svcs.set k { s with version := B.now + 1 }).set k (scaledS A { s with version := B.now + 1 }), cps := L, bts := B.bts } : Bk)) (A := A) (s := s) (u := B.now + 1) hLl rfl
  unfold Hid
  rw [← HRB.out, h, Bool.not_not]
 go_wp2_with (first | (go_at_call 167; refine (insist_yes 6 _).mono ?_; rintro e w2 ⟨rfl, rfl⟩))
 refine (hasRoom_any A ae ce ({ now := B.now + 1, svcs := (B.svcs.set k { s with version := B.now + 1 }).set k (scaledS A { s with version := B.now + 1 }), cps := L, bts := B.bts } : Bk) (scaledS A { s with version := B.now + 1 }) M q k _ _ hSm3 HK3.out hcr.1 hcr.2 hn2.1 hn2.2 HST9.out).mono ?_
 rintro e w10 ⟨rfl, hb10⟩
 have hx := hx.trans (hb10.mono hM9)
 have hM10 : M ≤ w10.heap.size := by have := hx.size; omega
 have HST10 := hidWk (HST9.out.below hb10)
 clear hb10 HST9 hM9
 rw [HRB.out]
 cases rb
 ·go_wp2_with (go_at_call 167; refine (insist_no 7 _).mono ?_; rintro e w2 ⟨rfl, rfl⟩)
  exact door_no _ _ _ 7 _ rfl rfl (below_blk hx T2.out (by omega)) (below_blk hx T3.out (by omega)) fun w' hb' => ⟨.inr ⟨7, by rw [HLATE.out, HL7.out, HRN2.out]; rfl, by decide, rfl⟩, hb0.trans ((hx.mono (by omega)).trans (hb' _ (by omega) (by omega) (by omega)))⟩
 have HZERO : Hid (codeL B A = 0) := by unfold Hid; rw [HLATE.out, HL7.out, HRN2.out]; rfl
 obtain ⟨crn, HCRN⟩ : ∃ n : Nat, Hid (A.create = (n : Int)) := ⟨A.create.toNat, by unfold Hid; omega⟩
 have hcrn : crn ≤ 20 := by have := HCRN.out; omega
 have hroom : L.length + crn ≤ 200 := by
  have h := HRB.out
  unfold roomB at h
  simp only [Bool.and_eq_true, decide_eq_true_eq] at h
  have h1 := h.1
  rw [HCRN.out] at h1
  have h2 : (L.length : Int) + (crn : Int) ≤ 200 := h1
  omega
 go_wp2_with (first | (go_at_call 167; refine (insist_yes 7 _).mono ?_; rintro e w2 ⟨rfl, rfl⟩))
 refine (create_any A ae ce ({ now := B.now + 1, svcs := (B.svcs.set k { s with version := B.now + 1 }).set k (scaledS A { s with version := B.now + 1 }), cps := L, bts := B.bts } : Bk) (scaledS A { s with version := B.now + 1 }) M q k crn _ _ hSm3 hM10 HK3.out HCRN.out hcrn hn2.1 hn2.2 hroom HST10.out).mono ?_
 rintro e w11 ⟨rfl, hst, hb11⟩
 have hx := hx.trans hb11
 have hM11 : M ≤ w11.heap.size := by have := hx.size; omega
 have HST11 : Hid (WkAt w11 M q A ae ce ({ now := B.now + 1, svcs := ((B.svcs.set k { s with version := B.now + 1 }).set k (scaledS A { s with version := B.now + 1 })).set k { (scaledS A { s with version := B.now + 1 }) with next := (scaledS A { s with version := B.now + 1 }).next + A.create }, cps := insN L (behindI L (scaledS A { s with version := B.now + 1 }).name) (mkO ({ now := B.now + 1, svcs := (B.svcs.set k { s with version := B.now + 1 }).set k (scaledS A { s with version := B.now + 1 }), cps := L, bts := B.bts } : Bk) (scaledS A { s with version := B.now + 1 })) crn, bts := B.bts } : Bk) k (idxL B A)) := hst
 clear hst hb11 HST10 hM10
 go_wp2_with fail
 refine (drop_any A ae ce ({ now := B.now + 1, svcs := ((B.svcs.set k { s with version := B.now + 1 }).set k (scaledS A { s with version := B.now + 1 })).set k { (scaledS A { s with version := B.now + 1 }) with next := (scaledS A { s with version := B.now + 1 }).next + A.create }, cps := insN L (behindI L (scaledS A { s with version := B.now + 1 }).name) (mkO ({ now := B.now + 1, svcs := (B.svcs.set k { s with version := B.now + 1 }).set k (scaledS A { s with version := B.now + 1 }), cps := L, bts := B.bts } : Bk) (scaledS A { s with version := B.now + 1 })) crn, bts := B.bts } : Bk) { (scaledS A { s with version := B.now + 1 }) with next := ((scaledS A { s with version := B.now + 1 })).next + A.create } M q k _ _ (by simpa using hl1) hM11 (by show (((B.svcs.set k { s with version := B.now + 1 }).set k (scaledS A { s with version := B.now + 1 })).set k { (scaledS A { s with version := B.now + 1 }) with next := ((scaledS A { s with version := B.now + 1 })).next + A.create })[k]? = _; rw [List.getElem?_set_self (by rw [List.length_set, List.length_set]; exact (List.getElem?_eq_some_iff.1 HK.out).1)]) HST11.out).mono ?_
 rintro e w12 ⟨rfl, hst, hb12⟩
 have hx := hx.trans hb12
 have hM12 : M ≤ w12.heap.size := by have := hx.size; omega
 have hdone := done_same hV HOK.out HSV.out HK.out HNM.out HMK.out HCRN.out
 have hst2 : WkAt w12 M q A ae ce (doneOf B A) k (idxL B A) := by rw [hdone]; exact hst
 obtain ⟨b1, b2, b3, d1, d2, d3, ve, hMq', hg, hbk, _⟩ := hst2
 have HG : Hid _ := hg
 have HBK := hidBkOf hbk
 have HP12 : Hid _ := below_blk hx T2.out (show w.heap.size + 1 + 1 < M by omega)
 have HQ12 : Hid _ := below_blk hx T3.out (show w.heap.size + 1 + 1 + 1 < M by omega)
 have e8 := blk_cell HG.out 8 rfl
 have e9 := blk_cell HG.out 9 rfl
 have e10 := blk_cell HG.out 10 rfl
 have e11 := blk_cell HG.out 11 rfl
 clear hst hb12 HST11 hM11 hdone hg hbk
 go_wp2_with (first
  | ((with_reducible show wpList _ _ _ _ _ _); refine wpList_store_only rfl 36 (.tmp 4) (.tmp 30) rfl (w.heap.size + 1 + 1) 0 #[.int .i64 (doneOf B A).now, .slice b1 (doneOf B A).svcs.length d1, .slice b2 (doneOf B A).cps.length d2, .slice b3 (doneOf B A).bts.length d3] rfl rfl 36 #[.int .i64 0, .slice none 0 0, .slice none 0 0, .slice none 0 0] HP12.out Tryz.infosBk4 (Nat.le_of_ble_eq_true rfl) (by simp [Value.oneCell']) ?_; intro w13 hz on; have HP13 : Hid (w13.heap[w.heap.size + 1 + 1]? = some (.cells #[.int .i64 (doneOf B A).now, .slice b1 (doneOf B A).svcs.length d1, .slice b2 (doneOf B A).cps.length d2, .slice b3 (doneOf B A).bts.length d3] 36 (0, 0))) := hz; have HO13 : Hid (Only (w.heap.size + 1 + 1) w12 w13) := on; have HQ13 : Hid _ := (on.other (w.heap.size + 1 + 1 + 1) (by omega)).trans HQ12.out; clear hz on)
  | ((with_reducible show wpList _ _ _ _ _ _); refine wpList_store_one rfl 132 (.tmp 5) (.const .nilIface) rfl (w.heap.size + 1 + 1 + 1) 0 .nilIface rfl rfl Tryz.infosErr rfl rfl 132 #[.nilIface] HQ13.out (Nat.le_of_ble_eq_true rfl) ?_; intro w14 hz on; have HQ14 : Hid (w14.heap[w.heap.size + 1 + 1 + 1]? = some (.cells #[.nilIface] 132 (0, 0))) := hz; have HO14 : Hid (Only (w.heap.size + 1 + 1 + 1) w13 w14) := on; clear hz on))
 have kA : KeepT 36 w12 w13 := .of_only HO13.out HP12.out
 have kB : KeepT 132 w13 w14 := .of_only HO14.out HQ13.out
 have hB14 : BkOf w14 M (doneOf B A) b1 b2 b3 d1 d2 d3 := ⟨kB.rowN (kA.rowN HBK.out.svcs (by decide)) (by decide), kB.rowN (kA.rowN HBK.out.cps (by decide)) (by decide), kB.rowN (kA.rowN HBK.out.bts (by decide)) (by decide)⟩
 have hP14 := (HO14.out.other (w.heap.size + 1 + 1) (by omega)).trans HP13.out
 have hbf : Below w.heap.size w w14 := hb0.trans ((hx.mono (by omega)).trans ((HO13.out.below.mono (by omega)).trans (HO14.out.below.mono (by omega))))
 exact door_yes _ _ _ _ _ _ _ _ rfl rfl hP14 HQ14.out fun w' hb' => ⟨.inl ⟨HZERO.out, b1, b2, b3, d1, d2, d3, rfl, (hB14.below hb').mono (by omega)⟩, hbf.trans (hb'.mono hbf.size)⟩
end Go.Proofs.YtbceafpodamnfabGreatDoor
