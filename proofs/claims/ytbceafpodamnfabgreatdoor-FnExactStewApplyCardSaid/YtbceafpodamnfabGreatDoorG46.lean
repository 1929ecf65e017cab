/-
  My own: Ov, Ow, Oy.
-/
import Derived.Test.YtbceafpodamnfabGreatDoorG43
import Derived.Test.YtbceafpodamnfabGreatDoorG45
import Derived.Test.YtbceafpodamnfabGreatDoorG03
import Derived.Test.YtbceafpodamnfabGreatDoorG23
import Derived.Test.YtbceafpodamnfabGreatDoorG42
import Derived.Test.YtbceafpodamnfabGreatDoorG40
set_option linter.unusedVariables false
set_option linter.unusedSimpArgs false
namespace Go.Proofs.YtbceafpodamnfabGreatDoor
open Go.RowKit Go.Sort
section
variable {P : Program}
theorem results_cell_tmpO {fn : Func} {p q : Tmp} {ty : TypeId} (h : fn.results = #[.cell p ty, .tmp q]) (tmps : Array Value) (w : World) (g : Nat) (t : TypeId) (cs : Array Value) (fr : Nat × Nat) (d : TypeDesc)
  (hp : tmps.getD p undef = .pointer (some ⟨g, 0, none⟩)) (hg : w.heap[g]? = some (.cells cs t fr))
  (hu : P.underlying ty = some d) (hd : (match d with | .struct _ | .array _ _ => true | _ => false) = true) (hi : (P.info? ty).map (·.size) = some cs.size) (v : Value) (hv : tmps.getD q undef = v) :
  (results fn tmps).run P w = .ok (.tuple #[.agg cs, v]) w := by
 have hp' : tmps[p]?.getD undef = .pointer (some ⟨g, 0, none⟩) := by simpa using hp
 have hv' : tmps[q]?.getD undef = v := by simpa using hv
 simp [results, h, hp', hv', asAddr, run_loadVar_row w g t ty cs fr d hg hu hd hi]
end
theorem BkOf.onlyLow {w w' : World} {M p : Nat} {B : Bk} {b1 b2 b3 : Option Addr} {d1 d2 d3 : Nat} (h : BkOf w M B b1 b2 b3 d1 d2 d3) (on : Only p w w') (hp : p < M) : BkOf w' M B b1 b2 b3 d1 d2 d3 :=
 ⟨h.svcs.blk fun g _ _ hg _ => on.other g (by omega), h.cps.blk fun g _ _ hg _ => on.other g (by omega), h.bts.blk fun g _ _ hg _ => on.other g (by omega)⟩
theorem relp_bk {p g i : Nat} {w w' : World} {M : Nat} {B : Bk} {b1 b2 b3 : Option Addr} {d1 d2 d3 : Nat} (h : BkOf w M B b1 b2 b3 d1 d2 d3) (hr : RelP p g i w w') (hg : g < M) : BkOf w' M B b1 b2 b3 d1 d2 d3 := by
 unfold RelP at hr
 split at hr
 ·exact h.onlyLow hr hg
 ·exact h.below hr
theorem three_newO (w : World) (A B C : Obj) : ∃ W0, ((w.alloc A).alloc B).alloc C = W0 ∧ W0.heap[w.heap.size]? = some A ∧ W0.heap[w.heap.size + 1]? = some B ∧ W0.heap[w.heap.size + 1 + 1]? = some C ∧ W0.heap.size = w.heap.size + 3 ∧ Below w.heap.size w W0 := by
 refine ⟨_, rfl, ?_, ?_, ?_, ?_, ?_⟩
 ·show (((w.heap.push A).push B).push C)[w.heap.size]? = _
  rw [Array.getElem?_push, if_neg (by simp <;> omega), Array.getElem?_push, if_neg (by simp), Array.getElem?_push, if_pos rfl]
 ·show (((w.heap.push A).push B).push C)[w.heap.size + 1]? = _
  rw [Array.getElem?_push, if_neg (by simp), Array.getElem?_push, if_pos (by simp)]
 ·show (((w.heap.push A).push B).push C)[w.heap.size + 1 + 1]? = _
  rw [Array.getElem?_push, if_pos (by simp)]
 ·show (((w.heap.push A).push B).push C).size = _
  simp
 ·exact (((Below.refl _ _).alloc (Nat.le_refl _) _).alloc (by simp) _).alloc (by simp; omega) _
theorem as_nilO (t : Value) (w : World) : Calls Tryz.prog 107 #[.nilIface, t] w fun e w' => e = .returned (.bool false) ∧ w = w' := (as_nil t w).mono fun _ _ h => ⟨h.1, h.2.symm⟩
def AppIs (N : Nat) (X : Bk) (c : Int) (e : Ending) (w' : World) : Prop := ∃ y1 y2 y3 z1 z2 z3, e = .returned (.tuple #[.agg #[.int .i64 X.now, .slice y1 X.svcs.length z1, .slice y2 X.cps.length z2, .slice y3 X.bts.length z3], .int .i64 c]) ∧ BkOf w' N X y1 y2 y3 z1 z2 z3
set_option maxRecDepth 100000 in
set_option maxHeartbeats 8000000 in
theorem applyTo_any (B : Bk) (A : Ac) (a1 a2 a3 : Option Addr) (c1 c2 c3 : Nat) (ae : Option Addr) (ce : Nat) (w : World) (hEr : ErrT w) (hV : Valid B) (hSm : B.small) (hZ : B.sized) (hB : BkAt w a1 a2 a3 B) (hl : A.ends.length ≤ 1048576) (hE : SlE w ae A.ends) (hsv : A.service.size ≤ maxLen) (hnum : Hid (∀ e ∈ A.ends, (Lit.int .i64 e.number).wf = true)) :
  Calls Tryz.prog 47 #[.agg #[.int .i64 B.now, .slice a1 B.svcs.length c1, .slice a2 B.cps.length c2, .slice a3 B.bts.length c3], .agg #[.string A.service, .int .i64 A.seen, .int .i64 A.create, .int .i64 A.want, .int .i64 A.cool, .bool A.scale, .slice ae A.ends.length ce, .bool A.drop]] w fun e w' => AppIs w.heap.size (appliedL B A) (codeL B A) e w' ∧ Below w.heap.size w w' := by
 obtain ⟨W0, hW0, t0, t1, t2, hz0, hb0⟩ := three_newO w (.cells #[.int .i64 B.now, .slice a1 B.svcs.length c1, .slice a2 B.cps.length c2, .slice a3 B.bts.length c3] 36) (.cells #[.string A.service, .int .i64 A.seen, .int .i64 A.create, .int .i64 A.want, .int .i64 A.cool, .bool A.scale, .slice ae A.ends.length ce, .bool A.drop] 42) (.cells #[.int .i64 0, .slice none 0 0, .slice none 0 0, .slice none 0 0] 36)
 have hw0 : 0 < w.heap.size := by
  rcases Nat.eq_zero_or_pos w.heap.size with h0 | h
  ·unfold ErrT at hEr; simp [World.cell?, h0] at hEr
  ·exact h
 have T0 : Hid _ := t0
 have T1 : Hid _ := t1
 have T2 : Hid _ := t2
 obtain ⟨M, HM⟩ : ∃ M, M = W0.heap.size := ⟨_, rfl⟩
 have hM0 : w.heap.size + 3 ≤ M := by omega
 clear t0 t1 t2
 have g0 := blk_cell T1.out 0 rfl
 have g1 := blk_cell T1.out 1 rfl
 have g2 := blk_cell T1.out 2 rfl
 have g3 := blk_cell T1.out 3 rfl
 have g4 := blk_cell T1.out 4 rfl
 have g5 := blk_cell T1.out 5 rfl
 have g6 := blk_cell T1.out 6 rfl
 have g7 := blk_cell T1.out 7 rfl
 have k0 := blk_cell T0.out 0 rfl
 have k1 := blk_cell T0.out 1 rfl
 have k2 := blk_cell T0.out 2 rfl
 have k3 := blk_cell T0.out 3 rfl
 go_enter Tryz.func47, Tryz.ntmps47
 go_wp2_with fail
 refine (doWhole_any B A a1 a2 a3 c1 c2 c3 ae ce _ hV hSm hZ (hB.below hb0) hl (hE.below hb0) hsv hnum).mono ?_
 rintro e w1 ⟨hd, hb1⟩
 rw [← HM] at hd hb1
 clear g0 g1 g2 g3 g4 g5 g6 g7 k0 k1 k2 k3 hW0 hz0
 have hM1 : M ≤ w1.heap.size := by have := hb1.size; omega
 rcases hd with ⟨hc0, y1, y2, y3, z1, z2, z3, rfl, hbk⟩ | ⟨c, hcc, hcn, rfl⟩
 ·have HBK := hidBkOf hbk
  have HAP : Hid (appliedL B A = doneOf B A) := by unfold Hid appliedL; rw [hc0]; rfl
  have HC0 : Hid _ := hc0
  obtain ⟨X, HX⟩ : ∃ X, Hid (doneOf B A = X) := ⟨_, rfl⟩
  rw [HX.out] at HBK ⊢
  have T3 : Hid _ := heap_alloc_new w1 (.cells #[.int .i64 X.now, .slice y1 X.svcs.length z1, .slice y2 X.cps.length z2, .slice y3 X.bts.length z3] 36)
  have hba := below_box w1 (.cells #[.int .i64 X.now, .slice y1 X.svcs.length z1, .slice y2 X.cps.length z2, .slice y3 X.bts.length z3] 36)
  obtain ⟨wa, hwa⟩ : ∃ W, w1.alloc (.cells #[.int .i64 X.now, .slice y1 X.svcs.length z1, .slice y2 X.cps.length z2, .slice y3 X.bts.length z3] 36) = W := ⟨_, rfl⟩
  rw [hwa] at T3 hba
  have hbr := below_box wa (.cells #[.int .i64 0] 170)
  obtain ⟨wr, hwr⟩ : ∃ W, wa.alloc (.cells #[.int .i64 0] 170) = W := ⟨_, rfl⟩
  rw [hwr] at hbr
  have hta : w1.heap.size < wa.heap.size := (Array.getElem?_eq_some_iff.1 T3.out).1
  have HT3r : Hid _ := below_blk hbr T3.out hta
  have hx := hb1.trans ((hba.mono hM1).trans (hbr.mono (by omega)))
  have HT2r : Hid _ := below_blk hx T2.out (by omega)
  have j0 := blk_cell HT3r.out 0 rfl
  have j1 := blk_cell HT3r.out 1 rfl
  have j2 := blk_cell HT3r.out 2 rfl
  have j3 := blk_cell HT3r.out 3 rfl
  clear hbk hc0
  go_wp2_with (first
   | (go_at_call 107; refine (as_nilO _ _).mono ?_; rintro e w2 ⟨rfl, rfl⟩)
   | ((with_reducible show wpList _ _ _ _ _ _); refine wpList_store_only rfl 36 (.tmp 4) (.tmp 22) rfl (w.heap.size + 1 + 1) 0 #[.int .i64 X.now, .slice y1 X.svcs.length z1, .slice y2 X.cps.length z2, .slice y3 X.bts.length z3] rfl rfl 36 #[.int .i64 0, .slice none 0 0, .slice none 0 0, .slice none 0 0] HT2r.out Tryz.infosBk4 (Nat.le_of_ble_eq_true rfl) (by simp [Value.oneCell']) ?_; intro w3 hz on; have HP3 : Hid (w3.heap[w.heap.size + 1 + 1]? = some (.cells #[.int .i64 X.now, .slice y1 X.svcs.length z1, .slice y2 X.cps.length z2, .slice y3 X.bts.length z3] 36 (0, 0))) := hz; have HO3 : Hid (Only (w.heap.size + 1 + 1) wr w3) := on; clear hz on))
  have kA : KeepT 36 wr w3 := .of_only HO3.out HT2r.out
  have hbx := hba.trans (hbr.mono (Nat.le_of_lt hta))
  have hB3 : BkOf w3 M X y1 y2 y3 z1 z2 z3 := ⟨kA.rowN (HBK.out.svcs.below hbx) (by decide), kA.rowN (HBK.out.cps.below hbx) (by decide), kA.rowN (HBK.out.bts.below hbx) (by decide)⟩
  refine bodyPost_ret (v := .tuple #[.agg #[.int .i64 X.now, .slice y1 X.svcs.length z1, .slice y2 X.cps.length z2, .slice y3 X.bts.length z3], .int .i64 0]) (results_cell_tmpO rfl _ _ (w.heap.size + 1 + 1) _ _ _ _ rfl HP3.out Tryz.underlying36 rfl Tryz.infosBk4 _ rfl) rfl ?_
  refine ⟨?_, hb0.trans ((hx.mono (by omega)).trans (HO3.out.below.mono (by omega)))⟩
  rw [HAP.out, HX.out, HC0.out]
  exact ⟨y1, y2, y3, z1, z2, z3, rfl, hB3.mono (by omega)⟩
 ·have HCC : Hid _ := hcc
  have HAP : Hid (appliedL B A = B) := by unfold Hid appliedL; rw [hcc, if_neg hcn]
  have hba := below_box w1 (.cells #[.int .i64 0, .slice none 0 0, .slice none 0 0, .slice none 0 0] 36)
  obtain ⟨wa, hwa⟩ : ∃ W, w1.alloc (.cells #[.int .i64 0, .slice none 0 0, .slice none 0 0, .slice none 0 0] 36) = W := ⟨_, rfl⟩
  have T3 : Hid (wa.heap[w1.heap.size]? = some (.cells #[.int .i64 0, .slice none 0 0, .slice none 0 0, .slice none 0 0] 36 (0, 0))) := by unfold Hid; rw [← hwa]; exact heap_alloc_new _ _
  rw [hwa] at hba
  go_upto_region 2 with ((with_reducible show wpList _ _ _ _ _ _); refine wpList_store_only rfl 36 (.tmp 6) (.tmp 13) rfl w1.heap.size 0 #[.int .i64 0, .slice none 0 0, .slice none 0 0, .slice none 0 0] rfl rfl 36 #[.int .i64 0, .slice none 0 0, .slice none 0 0, .slice none 0 0] T3.out Tryz.infosBk4 (Nat.le_of_ble_eq_true rfl) (by simp [Value.oneCell']) ?_; intro wc hz on; have HOC : Hid (Only w1.heap.size wa wc) := on; clear hz on)
  have hbc : Below w1.heap.size w1 wc := hba.trans HOC.out.below
  obtain ⟨rb, HRB⟩ : ∃ r, r = wc.heap.size := ⟨_, rfl⟩
  have T4 : Hid _ := heap_alloc_new wc (.cells #[.int .i64 0] 170)
  have hbr := below_box wc (.cells #[.int .i64 0] 170)
  obtain ⟨wr, hwr⟩ : ∃ W, wc.alloc (.cells #[.int .i64 0] 170) = W := ⟨_, rfl⟩
  rw [hwr] at hbr T4
  rw [← HRB] at T4
  have hx := hb1.trans ((hbc.mono hM1).trans (hbr.mono (Nat.le_trans hM1 hbc.size)))
  have hrM : M ≤ rb := by have := hbc.size; omega
  have hErr : ErrT wr := by
   have h1 : Below w.heap.size w wr := hb0.trans (hx.mono (by omega))
   exact (h1.cell (p := ⟨0, 0, none⟩) hw0).trans hEr
  clear hcc hba hwa
  go_upto_region 4 with (go_at_call 107; rw [← HRB]; refine (as_own c rb _ _ hErr T4.out).mono ?_; rintro e w2 ⟨rfl, h3, h4⟩)
  clear hwr
  have hx2 : Below M W0 w2 := hx.trans (h4 M hrM (by have := hx.size; omega))
  have HT0 : Hid _ := below_blk hx2 T0.out (by omega)
  have HT2 : Hid _ := below_blk hx2 T2.out (by omega)
  have HR : Hid (w2.heap[rb]? = some (.cells #[.int .i64 c] 170 (0, 0))) := h3
  have hrl : rb < w2.heap.size := (Array.getElem?_eq_some_iff.1 h3).1
  have hMb : M ≤ w2.heap.size := by omega
  have hl0 : w.heap.size < w2.heap.size := by omega
  have hbw : Below w.heap.size w w2 := hb0.trans (hx2.mono (by omega))
  clear h3 h4 T4 HOC hbc hbr hErr hx T3
  obtain ⟨wb, hwb⟩ : ∃ x, x = w2 := ⟨_, rfl⟩
  subst hwb
  refine wp_region_stores 5 4 (w.heap.size + 1 + 1) (fun W => KeepB (w.heap.size + 1 + 1) wb W ∧ ∀ N, N ≤ w.heap.size + 1 + 1 → N ≤ wb.heap.size → Below N wb W) (fun W => W.heap[w.heap.size + 1 + 1]? = some (.cells #[.int .i64 0, .slice none 0 0, .slice none 0 0, .slice none 0 0] 36 (0, 0))) (by kernel_rfl) (by kernel_rfl) ⟨KeepB.refl _ _, fun _ _ _ => Below.refl _ _⟩ HT2.out (fun _ _ h hb => ⟨h.1.below hb, fun N h1 h2 => (h.2 N h1 h2).trans (hb.mono (Nat.le_trans h2 h.1.1))⟩) (fun _ _ h on => ⟨h.1.only on, fun N h1 h2 => (h.2 N h1 h2).trans (on.below.mono h1)⟩) (fun _ _ h hb => below_blk hb h (Array.getElem?_eq_some_iff.1 h).1) ?_
  apply growR_eq
  ·intro V W K AA hW hZ hd hA hK
   simp only [putAll, pz1, pz2, pz3, pz4, Act.put, pz5, pz6, pz7] at hA
   clear hd
   obtain rfl := hA
   have k0 := blk_cell ((hW.1.2 w.heap.size hl0 (by omega)).trans HT0.out) 0 rfl
   have k1 := blk_cell ((hW.1.2 w.heap.size hl0 (by omega)).trans HT0.out) 1 rfl
   have k2 := blk_cell ((hW.1.2 w.heap.size hl0 (by omega)).trans HT0.out) 2 rfl
   have k3 := blk_cell ((hW.1.2 w.heap.size hl0 (by omega)).trans HT0.out) 3 rfl
   go_wp2
   exact hK.out _ brf
  refine growR_op (fun v W => ∃ y1 y2 y3 z1 z2 z3, v = .agg #[.int .i64 B.now, .slice y1 B.svcs.length z1, .slice y2 B.cps.length z2, .slice y3 B.bts.length z3] ∧ BkOf W M B y1 y2 y3 z1 z2 z3) (fun i hi v W W' ⟨y1, y2, y3, z1, z2, z3, h1, h2⟩ hr => ⟨y1, y2, y3, z1, z2, z3, h1, relp_bk h2 hr (by omega)⟩) ?_ ?_
  ·intro V W K AA hW hZ hd hA hK
   have d0 : V 0 = _ := hd 0 (by kernel_rfl)
   simp only [putAll, pz1, pz2, pz3, pz4, Act.put, pz5, pz6, pz7, d0] at hA
   clear hd d0
   obtain rfl := hA
   go_wp2_with fail
   refine (freshBook_any B a1 a2 a3 c1 c2 c3 W hSm (hB.below (hbw.trans (hW.2 _ (by omega) hbw.size)))).mono ?_
   rintro e w3 ⟨y1, z1, y2, z2, y3, z3, rfl, hr, hbq⟩
   have HRN := hidBkOf (hr.mono (Nat.le_trans hMb hW.1.1))
   clear hr
   go_wp2
   exact hK.out _ _ hbq ⟨y1, y2, y3, z1, z2, z3, rfl, HRN.out⟩
  apply growR_eq
  ·intro V W K AA hW hZ hd hA hK
   simp only [putAll, pz1, pz2, pz3, pz4, Act.put, pz5, pz6, pz7] at hA
   clear hd
   obtain rfl := hA
   go_wp2
   exact hK.out _ brf
  apply growR_eq
  ·intro V W K AA hW hZ hd hA hK
   have d2 : V 2 = _ := hd 2 (by kernel_rfl)
   simp only [putAll, pz1, pz2, pz3, pz4, Act.put, pz5, pz6, pz7, d2] at hA
   clear hd d2
   obtain rfl := hA
   have r0 := blk_cell ((hW.1.2 rb hrl (by omega)).trans HR.out) 0 rfl
   rw [HRB] at r0
   go_wp2
   exact hK.out _ brf
  refine growR_op (fun _ W => ∃ y1 y2 y3 z1 z2 z3, W.heap[w.heap.size + 1 + 1]? = some (.cells #[.int .i64 B.now, .slice y1 B.svcs.length z1, .slice y2 B.cps.length z2, .slice y3 B.bts.length z3] 36 (0, 0)) ∧ BkOf W M B y1 y2 y3 z1 z2 z3) (fun i hi v W W' ⟨y1, y2, y3, z1, z2, z3, h1, h2⟩ hr => ⟨y1, y2, y3, z1, z2, z3, below_blk (relp_other hi hr) h1 (Array.getElem?_eq_some_iff.1 h1).1, h2.below (relp_other hi hr)⟩) ?_ ?_
  ·intro V W K AA hW hZ hd hA hK
   have d1 : (fun v W => ∃ y1 y2 y3 z1 z2 z3, v = .agg #[.int .i64 B.now, .slice y1 B.svcs.length z1, .slice y2 B.cps.length z2, .slice y3 B.bts.length z3] ∧ BkOf W M B y1 y2 y3 z1 z2 z3) (V 1) W := hd 1 (by kernel_rfl)
   simp only [putAll, pz1, pz2, pz3, pz4, Act.put, pz5, pz6, pz7] at hA
   clear hd
   generalize V 1 = x1 at d1 hA
   obtain rfl := hA
   obtain ⟨y1, y2, y3, z1, z2, z3, rfl, hbk⟩ := d1
   have h0 := hZ rfl
   refine wpList_store_only rfl 36 (.tmp 4) (.tmp 19) rfl (w.heap.size + 1 + 1) 0 #[.int .i64 B.now, .slice y1 B.svcs.length z1, .slice y2 B.cps.length z2, .slice y3 B.bts.length z3] rfl rfl 36 #[.int .i64 0, .slice none 0 0, .slice none 0 0, .slice none 0 0] h0 Tryz.infosBk4 (Nat.le_of_ble_eq_true rfl) (by simp [Value.oneCell']) ?_
   intro w3 hz on
   have h3 : w3.heap[w.heap.size + 1 + 1]? = some (.cells #[.int .i64 B.now, .slice y1 B.svcs.length z1, .slice y2 B.cps.length z2, .slice y3 B.bts.length z3] 36 (0, 0)) := hz.out
   exact hK.out _ _ on ⟨y1, y2, y3, z1, z2, z3, h3, hbk.onlyLow on (by omega)⟩
  intro V W AA hW hS hA
  have d0 : V 0 = _ := hS 0 (by omega)
  have d1 : (fun v W => ∃ y1 y2 y3 z1 z2 z3, v = .agg #[.int .i64 B.now, .slice y1 B.svcs.length z1, .slice y2 B.cps.length z2, .slice y3 B.bts.length z3] ∧ BkOf W M B y1 y2 y3 z1 z2 z3) (V 1) W := hS 1 (by omega)
  have d2 : V 2 = _ := hS 2 (by omega)
  have d3 : V 3 = _ := hS 3 (by omega)
  have d4 : (fun _ W => ∃ y1 y2 y3 z1 z2 z3, W.heap[w.heap.size + 1 + 1]? = some (.cells #[.int .i64 B.now, .slice y1 B.svcs.length z1, .slice y2 B.cps.length z2, .slice y3 B.bts.length z3] 36 (0, 0)) ∧ BkOf W M B y1 y2 y3 z1 z2 z3) (V 4) W := hS 4 (by omega)
  simp only [putAll, pz1, pz2, pz3, pz4, Act.put, pz5, pz6, pz7, d0, d2, d3] at hA
  clear hS d0 d2 d3
  generalize V 1 = x1 at d1 hA
  obtain rfl := hA
  simp only [List.drop_succ_cons, List.drop_zero]
  obtain ⟨u1, u2, u3, v1, v2, v3, hp4, hbk4⟩ := d4
  clear d1
  have HP4 : Hid _ := hp4
  have HB4 := hidBkOf hbk4
  have hbW := hW.2
  clear hp4 hbk4 hW
  go_wp2
  refine bodyPost_ret (v := .tuple #[.agg #[.int .i64 B.now, .slice u1 B.svcs.length v1, .slice u2 B.cps.length v2, .slice u3 B.bts.length v3], .int .i64 c]) (results_cell_tmpO rfl _ _ (w.heap.size + 1 + 1) _ _ _ _ rfl HP4.out Tryz.underlying36 rfl Tryz.infosBk4 _ rfl) rfl ?_
  refine ⟨?_, hbw.trans (hbW _ (by omega) (by omega))⟩
  rw [HAP.out, HCC.out]
  exact ⟨u1, u2, u3, v1, v2, v3, rfl, HB4.out.mono (by omega)⟩
end Go.Proofs.YtbceafpodamnfabGreatDoor

namespace Go.Proofs.YtbceafpodamnfabGreatDoor
open Go.RowKit Go.Sort
set_option maxRecDepth 100000 in
set_option maxHeartbeats 8000000 in
theorem implApply_all (B : Bk) (A : Ac) (a1 a2 a3 : Option Addr) (c1 c2 c3 : Nat) (ae : Option Addr) (ce : Nat) (w : World) (hEr : ErrT w) (hS : B.small) (hZ : B.sized) (hB : BkAt w a1 a2 a3 B) (hl : A.ends.length ≤ 1048576) (hE : SlE w ae A.ends) (hsv : A.service.size ≤ maxLen) (hnum : Hid (∀ e ∈ A.ends, (Lit.int .i64 e.number).wf = true)) :
    Calls Tryz.prog 12 #[.agg #[.int .i64 B.now, .slice a1 B.svcs.length c1, .slice a2 B.cps.length c2, .slice a3 B.bts.length c3], .agg #[.string A.service, .int .i64 A.seen, .int .i64 A.create, .int .i64 A.want, .int .i64 A.cool, .bool A.scale, .slice ae A.ends.length ce, .bool A.drop]] w fun e w' =>
      ((validB B = false ∧ e = .returned (.tuple #[.agg #[.int .i64 0, .slice none 0 0, .slice none 0 0, .slice none 0 0], .int .i64 1])) ∨
       (validB B = true ∧ AppIs w.heap.size (appliedL B A) (codeL B A) e w')) ∧ Below w.heap.size w w' := by
  obtain ⟨W0, hW0, t0, t1, t2, hz0, hb0⟩ := three_newO w (.cells #[.int .i64 B.now, .slice a1 B.svcs.length c1, .slice a2 B.cps.length c2, .slice a3 B.bts.length c3] 36) (.cells #[.string A.service, .int .i64 A.seen, .int .i64 A.create, .int .i64 A.want, .int .i64 A.cool, .bool A.scale, .slice ae A.ends.length ce, .bool A.drop] 42) (.cells #[.int .i64 0, .slice none 0 0, .slice none 0 0, .slice none 0 0] 36)
  have hw0 : 0 < w.heap.size := by
    rcases Nat.eq_zero_or_pos w.heap.size with h0 | h
    · unfold ErrT at hEr; simp [World.cell?, h0] at hEr
    · exact h
  have T0 : Hid _ := t0
  have T1 : Hid _ := t1
  have T2 : Hid _ := t2
  obtain ⟨M, HM⟩ : ∃ M, M = W0.heap.size := ⟨_, rfl⟩
  have hM0 : w.heap.size + 3 ≤ M := by omega
  clear t0 t1 t2
  have k0 := blk_cell T0.out 0 rfl
  have k1 := blk_cell T0.out 1 rfl
  have k2 := blk_cell T0.out 2 rfl
  have k3 := blk_cell T0.out 3 rfl
  go_enter Tryz.func12, Tryz.ntmps12
  go_wp2_with fail
  refine (implValid_any B a1 a2 a3 c1 c2 c3 _ hS hZ (hB.below hb0)).mono ?_
  rintro e w1 ⟨rfl, hb1⟩
  rw [← HM] at hb1
  clear k0 k1 k2 k3 hW0 hz0
  have hM1 : M ≤ w1.heap.size := by have := hb1.size; omega
  have HT2 : Hid _ := below_blk hb1 T2.out (by omega)
  have hbw1 : Below w.heap.size w w1 := hb0.trans (hb1.mono (by omega))
  obtain ⟨vb, HVB⟩ : ∃ b, Hid (validB B = b) := ⟨_, rfl⟩
  rw [HVB.out]
  cases vb
  · go_wp2_with ((with_reducible show wpList _ _ _ _ _ _); refine wpList_store_only rfl 36 (.tmp 4) (.tmp 9) rfl (w.heap.size + 1 + 1) 0 #[.int .i64 0, .slice none 0 0, .slice none 0 0, .slice none 0 0] rfl rfl 36 #[.int .i64 0, .slice none 0 0, .slice none 0 0, .slice none 0 0] HT2.out Tryz.infosBk4 (Nat.le_of_ble_eq_true rfl) (by simp [Value.oneCell']) ?_; intro w3 hz on; have HP3 : Hid (w3.heap[w.heap.size + 1 + 1]? = some (.cells #[.int .i64 0, .slice none 0 0, .slice none 0 0, .slice none 0 0] 36 (0, 0))) := hz; have HO3 : Hid (Only (w.heap.size + 1 + 1) w1 w3) := on; clear hz on)
    refine bodyPost_ret (v := .tuple #[.agg #[.int .i64 0, .slice none 0 0, .slice none 0 0, .slice none 0 0], .int .i64 1]) (results_cell_tmpO rfl _ _ (w.heap.size + 1 + 1) _ _ _ _ rfl HP3.out Tryz.underlying36 rfl Tryz.infosBk4 _ rfl) rfl ?_
    exact ⟨.inl ⟨HVB.out, rfl⟩, hbw1.trans (HO3.out.below.mono (by omega))⟩
  · have HT0 : Hid _ := below_blk hb1 T0.out (by omega)
    have HT1 : Hid _ := below_blk hb1 T1.out (by omega)
    have k0 := blk_cell HT0.out 0 rfl
    have k1 := blk_cell HT0.out 1 rfl
    have k2 := blk_cell HT0.out 2 rfl
    have k3 := blk_cell HT0.out 3 rfl
    have g0 := blk_cell HT1.out 0 rfl
    have g1 := blk_cell HT1.out 1 rfl
    have g2 := blk_cell HT1.out 2 rfl
    have g3 := blk_cell HT1.out 3 rfl
    have g4 := blk_cell HT1.out 4 rfl
    have g5 := blk_cell HT1.out 5 rfl
    have g6 := blk_cell HT1.out 6 rfl
    have g7 := blk_cell HT1.out 7 rfl
    have hEr1 : ErrT w1 := (hbw1.cell (p := ⟨0, 0, none⟩) hw0).trans hEr
    go_wp2_with fail
    refine (applyTo_any B A a1 a2 a3 c1 c2 c3 ae ce _ hEr1 (validB_iff.1 HVB.out) hS hZ (hB.below hbw1) hl (hE.below hbw1) hsv hnum).mono ?_
    rintro e w2 ⟨⟨y1, y2, y3, z1, z2, z3, rfl, hbk⟩, hb2⟩
    have HBK := hidBkOf hbk
    have HT2b : Hid _ := below_blk hb2 HT2.out (by omega)
    clear k0 k1 k2 k3 g0 g1 g2 g3 g4 g5 g6 g7 hbk
    obtain ⟨X, HX⟩ : ∃ X, Hid (appliedL B A = X) := ⟨_, rfl⟩
    obtain ⟨cd, HCD⟩ : ∃ c, Hid (codeL B A = c) := ⟨_, rfl⟩
    rw [HX.out] at HBK ⊢
    rw [HCD.out]
    go_wp2_with ((with_reducible show wpList _ _ _ _ _ _); refine wpList_store_only rfl 36 (.tmp 4) (.tmp 13) rfl (w.heap.size + 1 + 1) 0 #[.int .i64 X.now, .slice y1 X.svcs.length z1, .slice y2 X.cps.length z2, .slice y3 X.bts.length z3] rfl rfl 36 #[.int .i64 0, .slice none 0 0, .slice none 0 0, .slice none 0 0] HT2b.out Tryz.infosBk4 (Nat.le_of_ble_eq_true rfl) (by simp [Value.oneCell']) ?_; intro w3 hz on; have HP3 : Hid (w3.heap[w.heap.size + 1 + 1]? = some (.cells #[.int .i64 X.now, .slice y1 X.svcs.length z1, .slice y2 X.cps.length z2, .slice y3 X.bts.length z3] 36 (0, 0))) := hz; have HO3 : Hid (Only (w.heap.size + 1 + 1) w2 w3) := on; clear hz on)
    refine bodyPost_ret (v := .tuple #[.agg #[.int .i64 X.now, .slice y1 X.svcs.length z1, .slice y2 X.cps.length z2, .slice y3 X.bts.length z3], .int .i64 cd]) (results_cell_tmpO rfl _ _ (w.heap.size + 1 + 1) _ _ _ _ rfl HP3.out Tryz.underlying36 rfl Tryz.infosBk4 _ rfl) rfl ?_
    refine ⟨.inr ⟨HVB.out, ?_⟩, hbw1.trans ((hb2.mono hbw1.size).trans (HO3.out.below.mono (by omega)))⟩
    rw [HX.out, HCD.out]
    exact ⟨y1, y2, y3, z1, z2, z3, rfl, (HBK.out.onlyLow HO3.out (by omega)).mono (by omega)⟩
end Go.Proofs.YtbceafpodamnfabGreatDoor

namespace Go.Proofs.YtbceafpodamnfabGreatDoor
open Go.RowKit Go.Sort
def ansBk (B : Bk) (A : Ac) : Bk := if validB B then appliedL B A else ⟨0, [], [], []⟩
def ansCd (B : Bk) (A : Ac) : Int := if validB B then codeL B A else 1
theorem bkOf_none (w : World) (N : Nat) : BkOf w N ⟨0, [], [], []⟩ none none none 0 0 0 := ⟨.inl ⟨rfl, rfl, rfl, rfl⟩, .inl ⟨rfl, rfl, rfl, rfl⟩, .inl ⟨rfl, rfl, rfl, rfl⟩⟩
theorem ans_small {B : Bk} (A : Ac) (hS : B.small) : (ansBk B A).small := by
 unfold ansBk
 cases h : validB B
 ·exact ⟨Nat.zero_le _, Nat.zero_le _, Nat.zero_le _⟩
 ·exact applied_small A (validB_iff.1 h) hS
theorem implApply_ans (B : Bk) (A : Ac) (a1 a2 a3 : Option Addr) (c1 c2 c3 : Nat) (ae : Option Addr) (ce : Nat) (w : World) (hEr : ErrT w) (hS : B.small) (hZ : B.sized) (hB : BkAt w a1 a2 a3 B) (hl : A.ends.length ≤ 1048576) (hE : SlE w ae A.ends) (hsv : A.service.size ≤ maxLen) (hnum : Hid (∀ e ∈ A.ends, (Lit.int .i64 e.number).wf = true)) :
  Calls Tryz.prog 12 #[.agg #[.int .i64 B.now, .slice a1 B.svcs.length c1, .slice a2 B.cps.length c2, .slice a3 B.bts.length c3], .agg #[.string A.service, .int .i64 A.seen, .int .i64 A.create, .int .i64 A.want, .int .i64 A.cool, .bool A.scale, .slice ae A.ends.length ce, .bool A.drop]] w fun e w' => AppIs w.heap.size (ansBk B A) (ansCd B A) e w' ∧ Below w.heap.size w w' := by
 refine (implApply_all B A a1 a2 a3 c1 c2 c3 ae ce w hEr hS hZ hB hl hE hsv hnum).mono fun e w' ⟨h, hb⟩ => ⟨?_, hb⟩
 rcases h with ⟨hv, rfl⟩ | ⟨hv, h⟩
 ·unfold ansBk ansCd
  rw [hv]
  exact ⟨none, none, none, 0, 0, 0, rfl, bkOf_none _ _⟩
 ·unfold ansBk ansCd
  rw [hv]
  exact h
theorem specApply_ans (B : Bk) (A : Ac) (a1 a2 a3 : Option Addr) (c1 c2 c3 : Nat) (ae : Option Addr) (ce : Nat) (w : World) (hS : B.small) (hZ : B.sized) (hB : BkAt w a1 a2 a3 B) (hl : A.ends.length ≤ 1048576) (hE : SlE w ae A.ends) :
  Calls Tryz.prog 9 #[.agg #[.int .i64 B.now, .slice a1 B.svcs.length c1, .slice a2 B.cps.length c2, .slice a3 B.bts.length c3], .agg #[.string A.service, .int .i64 A.seen, .int .i64 A.create, .int .i64 A.want, .int .i64 A.cool, .bool A.scale, .slice ae A.ends.length ce, .bool A.drop]] w fun e w' => AppIs w.heap.size (ansBk B A) (ansCd B A) e w' ∧ Below w.heap.size w w' := by
 refine (specApply_all B A a1 a2 a3 c1 c2 c3 ae ce w hS hZ hB hl hE).mono fun e w' ⟨h, hb⟩ => ⟨?_, hb⟩
 rcases h with ⟨hv, rfl⟩ | ⟨hv, g1, k1, g2, k2, g3, k3, rfl, h⟩
 ·unfold ansBk ansCd
  rw [hv]
  exact ⟨none, none, none, 0, 0, 0, rfl, bkOf_none _ _⟩
 ·unfold ansBk ansCd
  rw [hv]
  exact ⟨some ⟨g1, 0, none⟩, some ⟨g2, 0, none⟩, some ⟨g3, 0, none⟩, k1, k2, k3, rfl, .inr ⟨g1, rfl, h.n1, h.svcs⟩, .inr ⟨g2, rfl, h.n2, h.cps⟩, .inr ⟨g3, rfl, h.n3, h.bts⟩⟩
end Go.Proofs.YtbceafpodamnfabGreatDoor
