/-
  My own: Od.
-/
import Derived.Test.YtbceafpodamnfabGreatDoorG24
import Derived.Test.YtbceafpodamnfabGreatDoorG25
set_option linter.unusedVariables false
set_option linter.unusedSimpArgs false
namespace Go.Proofs.YtbceafpodamnfabGreatDoor
open Go.RowKit Go.Sort
def intsV (I : List Int) : List Value := I.map fun i => .int .i64 i
theorem Tryz.infosIntO : (Tryz.prog.info? 3).map (·.size) = some 1 := by kernel_rfl
theorem Tryz.infosBoolO : (Tryz.prog.info? 4).map (·.size) = some 1 := by kernel_rfl
structure KeepT (e : TypeId) (w w' : World) : Prop where
 size : w.heap.size ≤ w'.heap.size
 other : ∀ k, k < w.heap.size → (∀ cs fr, w.heap[k]? ≠ some (.cells cs e fr)) → w'.heap[k]? = w.heap[k]?
theorem KeepT.of_only {e : TypeId} {w w' : World} {b : Nat} {cs : Array Value} {fr : Nat × Nat} (on : Only b w w') (hb : w.heap[b]? = some (.cells cs e fr)) : KeepT e w w' :=
 ⟨Nat.le_of_eq on.size.symm, fun k _ hne => on.other k fun h => by subst h; exact hne _ _ hb⟩
theorem KeepT.of_row {e : TypeId} {w w' : World} {b : Nat} {size n cap : Nat} {xs : List Value} (on : Only b w w') (hb : RowIs w e size b n cap xs) : KeepT e w w' := by
 obtain ⟨_, _, cur, hc, _⟩ := hb
 exact .of_only on hc
theorem KeepT.of_below {e : TypeId} {w w' : World} (hb : Below w.heap.size w w') : KeepT e w w' := ⟨hb.size, fun k hk _ => hb.block k hk⟩
theorem KeepT.trans {e : TypeId} {w w' w'' : World} (h : KeepT e w w') (h' : KeepT e w' w'') : KeepT e w w'' :=
 ⟨Nat.le_trans h.size h'.size, fun k hk hne => by
  have h1 := h.other k hk hne
  rw [h'.other k (Nat.lt_of_lt_of_le hk h.size) (fun cs fr => by rw [h1]; exact hne cs fr), h1]⟩
theorem KeepT.blk {e t : TypeId} {w w' : World} {g : Nat} {cs : Array Value} {fr : Nat × Nat} (h : KeepT e w w') (hg : w.heap[g]? = some (.cells cs t fr)) (ht : t ≠ e) : w'.heap[g]? = some (.cells cs t fr) := by
 rw [h.other g (Array.getElem?_eq_some_iff.1 hg).1 fun cs' fr' hh => ?_]
 ·exact hg
 ·rw [hg] at hh
  injection hh with hh
  injection hh with _ hh
  exact ht hh
theorem KeepT.same {e t : TypeId} {w w' : World} {g : Nat} {cs : Array Value} {fr : Nat × Nat} (h : KeepT e w w') (hg : w.heap[g]? = some (.cells cs t fr)) (ht : t ≠ e) : w'.heap[g]? = w.heap[g]? := (h.blk hg ht).trans hg.symm
theorem KeepT.map {e : TypeId} {w w' : World} {g : Nat} {es : _} {c : _} (h : KeepT e w w') (hg : w.heap[g]? = some (.map es c)) : w'.heap[g]? = w.heap[g]? :=
 h.other g (Array.getElem?_eq_some_iff.1 hg).1 fun cs' fr' hh => by rw [hg] at hh; injection hh with hh; cases hh
theorem KeepT.rowIs {e t : TypeId} {w w' : World} {g size n cap : Nat} {xs : List Value} (h : KeepT e w w') (hr : RowIs w t size g n cap xs) (ht : t ≠ e) : RowIs w' t size g n cap xs := by
 obtain ⟨_, _, cur, hc, _⟩ := id hr
 exact hr.blk (h.same hc ht)
theorem KeepT.rowN {e t : TypeId} {w w' : World} {N size n cap : Nat} {ao : Option Addr} {xs : List Value} (h : KeepT e w w') (hr : RowN w N t size ao n cap xs) (ht : t ≠ e) : RowN w' N t size ao n cap xs :=
 hr.blk fun _ _ _ _ hg => h.same hg ht
theorem ownO_blk {w w' : World} {lo : Nat} {e : TypeId} {size : Nat} {v : Value} {n : Nat} {xs : List Value} (h : w.ownsRow lo e size v n xs) (hb : ∀ (g : Nat) (cs : Array Value) (fr : Nat × Nat), w.heap[g]? = some (Obj.cells cs e fr) → w'.heap[g]? = w.heap[g]?) : w'.ownsRow lo e size v n xs := by
 obtain ⟨h1, h2⟩ := h
 refine ⟨h1, ?_⟩
 rcases h2 with h2 | ⟨g, cap, cur, e1, hlo, hg, r⟩
 ·exact .inl h2
 ·exact .inr ⟨g, cap, cur, e1, hlo, by rw [hb g cur _ hg]; exact hg, r⟩
theorem ownO_below {w w' : World} {lo : Nat} {e : TypeId} {size : Nat} {v : Value} {n : Nat} {xs : List Value} (h : w.ownsRow lo e size v n xs) (hb : Below w.heap.size w w') : w'.ownsRow lo e size v n xs :=
 ownO_blk h fun g _ _ hg => hb.block g (Array.getElem?_eq_some_iff.1 hg).1
theorem KeepT.own {e t : TypeId} {w w' : World} {lo : Nat} {size : Nat} {v : Value} {n : Nat} {xs : List Value} (h : KeepT t w w') (hr : w.ownsRow lo e size v n xs) (ht : e ≠ t) : w'.ownsRow lo e size v n xs :=
 ownO_blk hr fun _ _ _ hg => h.same hg ht
def WkAt (w : World) (N g : Nat) (A : Ac) (ae : Option Addr) (ce : Nat) (X : Bk) (k : Int) (I : List Int) : Prop := ∃ (b1 b2 b3 : Option Addr) (d1 d2 d3 : Nat) (ve : Value), N ≤ g ∧ w.heap[g]? = some (.cells #[.string A.service, .int .i64 A.seen, .int .i64 A.create, .int .i64 A.want, .int .i64 A.cool, .bool A.scale, .slice ae A.ends.length ce, .bool A.drop, .int .i64 X.now, .slice b1 X.svcs.length d1, .slice b2 X.cps.length d2, .slice b3 X.bts.length d3, .int .i64 k, ve] 222 (0, 0)) ∧ BkOf w N X b1 b2 b3 d1 d2 d3 ∧ w.ownsRow N 3 1 ve I.length (intsV I)
theorem hidWk {w : World} {N g : Nat} {A : Ac} {ae : Option Addr} {ce : Nat} {X : Bk} {k : Int} {I : List Int} (h : WkAt w N g A ae ce X k I) : Hid (WkAt w N g A ae ce X k I) := h
theorem WkAt.below {w w' : World} {N g : Nat} {A : Ac} {ae : Option Addr} {ce : Nat} {X : Bk} {k : Int} {I : List Int} (h : WkAt w N g A ae ce X k I) (hb : Below w.heap.size w w') : WkAt w' N g A ae ce X k I := by
 obtain ⟨b1, b2, b3, d1, d2, d3, ve, hNg, hg, hbk, hei⟩ := h
 exact ⟨b1, b2, b3, d1, d2, d3, ve, hNg, below_blk hb hg (Array.getElem?_eq_some_iff.1 hg).1, hbk.below hb, ownO_below hei hb⟩
set_option maxRecDepth 100000 in
set_option maxHeartbeats 4000000 in
theorem service_any (A : Ac) (ae : Option Addr) (ce : Nat) (now : Int) (g g1 n1 d1 k : Nat) (v2 v3 ve : Value) (w : World) (hk : k < n1) (hn : n1 ≤ 1048576) (hg : w.heap[g]? = some (.cells #[.string A.service, .int .i64 A.seen, .int .i64 A.create, .int .i64 A.want, .int .i64 A.cool, .bool A.scale, .slice ae A.ends.length ce, .bool A.drop, .int .i64 now, .slice (some ⟨g1, 0, none⟩) n1 d1, v2, v3, .int .i64 (k : Int), ve] 222 (0, 0))) :
  Calls Tryz.prog 224 #[.pointer (some ⟨g, 0, none⟩)] w fun e w' => e = .returned (.pointer (some ⟨g1, k * 13, none⟩)) ∧ Below w.heap.size w w' := by
 have HG : Hid _ := hg
 have hlt : g < w.heap.size := (Array.getElem?_eq_some_iff.1 hg).1
 clear hg
 go_enter Tryz.func224, Tryz.ntmps224
 go_upto_region 1 with fail
 refine wp_region_grows 10 (by kernel_rfl) (by kernel_rfl) ?_
 apply grow_eq
 ·intro V W K A hW hd hA hK
  simp only [putAll, pz1, pz2, pz3, pz4, Act.put, pz5, pz6, pz7] at hA
  clear hd
  obtain rfl := hA
  go_wp2
  exact hK.out _ brf
 apply grow_eq
 ·intro V W K A hW hd hA hK
  have d0 : V 0 = _ := hd 0 (by kernel_rfl)
  simp only [putAll, pz1, pz2, pz3, pz4, Act.put, pz5, pz6, pz7, d0] at hA
  clear hd d0
  obtain rfl := hA
  go_wp2
  exact hK.out _ brf
 apply grow_eq
 ·intro V W K A hW hd hA hK
  have d1 : V 1 = _ := hd 1 (by kernel_rfl)
  simp only [putAll, pz1, pz2, pz3, pz4, Act.put, pz5, pz6, pz7, d1] at hA
  clear hd d1
  obtain rfl := hA
  go_wp2
  exact hK.out _ brf
 apply grow_eq
 ·intro V W K A hW hd hA hK
  have d2 : V 2 = _ := hd 2 (by kernel_rfl)
  simp only [putAll, pz1, pz2, pz3, pz4, Act.put, pz5, pz6, pz7, d2] at hA
  clear hd d2
  obtain rfl := hA
  go_wp2
  exact hK.out _ brf
 apply grow_eq
 ·intro V W K A hW hd hA hK
  have d3 : V 3 = _ := hd 3 (by kernel_rfl)
  simp only [putAll, pz1, pz2, pz3, pz4, Act.put, pz5, pz6, pz7, d3] at hA
  clear hd d3
  obtain rfl := hA
  have e9 := blk_cell (below_blk hW HG.out hlt) 9 rfl
  go_wp2
  exact hK.out _ brf
 apply grow_eq
 ·intro V W K A hW hd hA hK
  simp only [putAll, pz1, pz2, pz3, pz4, Act.put, pz5, pz6, pz7] at hA
  clear hd
  obtain rfl := hA
  go_wp2
  exact hK.out _ brf
 apply grow_eq
 ·intro V W K A hW hd hA hK
  have d5 : V 5 = _ := hd 5 (by kernel_rfl)
  simp only [putAll, pz1, pz2, pz3, pz4, Act.put, pz5, pz6, pz7, d5] at hA
  clear hd d5
  obtain rfl := hA
  go_wp2
  exact hK.out _ brf
 apply grow_eq
 ·intro V W K A hW hd hA hK
  have d6 : V 6 = _ := hd 6 (by kernel_rfl)
  simp only [putAll, pz1, pz2, pz3, pz4, Act.put, pz5, pz6, pz7, d6] at hA
  clear hd d6
  obtain rfl := hA
  go_wp2
  exact hK.out _ brf
 apply grow_eq
 ·intro V W K A hW hd hA hK
  have d7 : V 7 = _ := hd 7 (by kernel_rfl)
  simp only [putAll, pz1, pz2, pz3, pz4, Act.put, pz5, pz6, pz7, d7] at hA
  clear hd d7
  obtain rfl := hA
  have e12 := blk_cell (below_blk hW HG.out hlt) 12 rfl
  go_wp2
  exact hK.out _ brf
 apply grow_eq
 ·intro V W K A hW hd hA hK
  have d4 : V 4 = _ := hd 4 (by kernel_rfl)
  have d8 : V 8 = _ := hd 8 (by kernel_rfl)
  simp only [putAll, pz1, pz2, pz3, pz4, Act.put, pz5, pz6, pz7, d4, d8] at hA
  clear hd d4 d8
  obtain rfl := hA
  go_wp2
  exact hK.out _ brf
 intro V W A hW hS hA
 have d0 : V 0 = _ := hS 0 (by omega)
 have d1 : V 1 = _ := hS 1 (by omega)
 have d2 : V 2 = _ := hS 2 (by omega)
 have d3 : V 3 = _ := hS 3 (by omega)
 have d4 : V 4 = _ := hS 4 (by omega)
 have d5 : V 5 = _ := hS 5 (by omega)
 have d6 : V 6 = _ := hS 6 (by omega)
 have d7 : V 7 = _ := hS 7 (by omega)
 have d8 : V 8 = _ := hS 8 (by omega)
 have d9 : V 9 = _ := hS 9 (by omega)
 simp only [putAll, pz1, pz2, pz3, pz4, Act.put, pz5, pz6, pz7, d0, d1, d2, d3, d4, d5, d6, d7, d8, d9] at hA
 clear hS d0 d1 d2 d3 d4 d5 d6 d7 d8 d9
 obtain rfl := hA
 simp only [List.drop_succ_cons, List.drop_zero]
 go_wp2
 go_ret
 exact ⟨rfl, hW⟩
set_option maxRecDepth 100000 in
set_option maxHeartbeats 4000000 in
theorem touch_any (A : Ac) (ae : Option Addr) (ce : Nat) (X : Bk) (s : Svc) (N g k : Nat) (I : List Int) (w : World) (hl1 : X.svcs.length ≤ 1048576) (hk : X.svcs[k]? = some s) (h0 : 0 ≤ X.now) (h1 : X.now ≤ 1000000) (hS : WkAt w N g A ae ce X k I) :
  Calls Tryz.prog 171 #[.pointer (some ⟨g, 0, none⟩)] w fun e w' => e = .returned (.tuple #[]) ∧ WkAt w' N g A ae ce { X with now := X.now + 1, svcs := X.svcs.set k { s with version := X.now + 1 } } k I ∧ Below N w w' := by
 obtain ⟨b1, b2, b3, d1, d2, d3, ve, hNg, hg, hbk, hei⟩ := hS
 have hkl : k < X.svcs.length := (List.getElem?_eq_some_iff.1 hk).1
 obtain ⟨g1, e1, hN1, hr1⟩ := hbk.svcs.some (by omega)
 subst e1
 obtain ⟨n1, HN1⟩ : ∃ n, Hid (X.svcs.length = n) := ⟨_, rfl⟩
 obtain ⟨n2, HN2⟩ : ∃ n, Hid (X.cps.length = n) := ⟨_, rfl⟩
 obtain ⟨n3, HN3⟩ : ∃ n, Hid (X.bts.length = n) := ⟨_, rfl⟩
 obtain ⟨ne, HNE⟩ : ∃ n, Hid (I.length = n) := ⟨_, rfl⟩
 obtain ⟨r2, r3⟩ : RowN w N 149 7 b2 X.cps.length d2 (cpsV X.cps) ∧ RowN w N 147 2 b3 X.bts.length d3 (btsV X.bts) := ⟨hbk.cps, hbk.bts⟩
 clear hbk
 rw [HN1.out] at hr1 hg hkl hl1
 rw [HN2.out] at r2 hg
 rw [HN3.out] at r3 hg
 rw [HNE.out] at hei
 have HK : Hid _ := hk
 have HG : Hid _ := hg
 have HR1 : Hid (RowIs w 67 13 g1 n1 d1 (svcsV X.svcs)) := hr1
 have HR2 := hidRowN r2
 have HR3 := hidRowN r3
 have HEI : Hid (w.ownsRow N 3 1 ve ne (intsV I)) := hei
 have hlt : g < w.heap.size := (Array.getElem?_eq_some_iff.1 hg).1
 have hlt1 : g1 < w.heap.size := hr1.lt
 clear hk hg hr1 r2 r3 hei
 have e8 := blk_cell HG.out 8 rfl
 go_enter Tryz.func171, Tryz.ntmps171
 go_upto_region 1 with (refine wpList_store_one rfl 3 (.tmp 10) (.tmp 7) rfl g 8 (.int .i64 (X.now + 1)) rfl (by go_num) Tryz.infosIntO rfl rfl 222 #[.string A.service, .int .i64 A.seen, .int .i64 A.create, .int .i64 A.want, .int .i64 A.cool, .bool A.scale, .slice ae A.ends.length ce, .bool A.drop, .int .i64 X.now, .slice (some ⟨g1, 0, none⟩) n1 d1, .slice b2 n2 d2, .slice b3 n3 d3, .int .i64 (k : Int), ve] HG.out (Nat.le_of_ble_eq_true rfl) ?_; intro w1 hz on; have HG1 : Hid (w1.heap[g]? = some (.cells #[.string A.service, .int .i64 A.seen, .int .i64 A.create, .int .i64 A.want, .int .i64 A.cool, .bool A.scale, .slice ae A.ends.length ce, .bool A.drop, .int .i64 (X.now + 1), .slice (some ⟨g1, 0, none⟩) n1 d1, .slice b2 n2 d2, .slice b3 n3 d3, .int .i64 (k : Int), ve] 222 (0, 0))) := hz; have HON : Hid (Only g w w1) := on; clear hz on)
 clear e8
 have hs1 := HON.out.size
 have hlt' : g < w1.heap.size := by omega
 have HR1' : Hid (RowIs w1 67 13 g1 n1 d1 (svcsV X.svcs)) := (KeepT.of_only HON.out HG.out).rowIs HR1.out (by decide)
 refine wp_region_grows 9 (by kernel_rfl) (by kernel_rfl) ?_
 apply grow_eq
 ·intro V W K A hW hd hA hK
  simp only [putAll, pz1, pz2, pz3, pz4, Act.put, pz5, pz6, pz7] at hA
  clear hd
  obtain rfl := hA
  go_wp2
  exact hK.out _ brf
 refine grow_op (fun v W => v = .pointer (some ⟨g1, k * 13, none⟩)) (fun _ _ _ h _ => h) ?_ ?_
 ·intro V W K A hW hd hA hK
  have d0 : V 0 = _ := hd 0 (by kernel_rfl)
  simp only [putAll, pz1, pz2, pz3, pz4, Act.put, pz5, pz6, pz7, d0] at hA
  clear hd d0
  obtain rfl := hA
  go_wp2_with fail
  refine (service_any A ae ce (X.now + 1) g g1 n1 d1 k _ _ _ W hkl hl1 (below_blk hW HG1.out hlt')).mono ?_
  rintro e w2 ⟨rfl, hbq⟩
  go_wp2
  exact hK.out _ _ hbq rfl
 apply grow_eq
 ·intro V W K A hW hd hA hK
  simp only [putAll, pz1, pz2, pz3, pz4, Act.put, pz5, pz6, pz7] at hA
  clear hd
  obtain rfl := hA
  go_wp2
  exact hK.out _ brf
 apply grow_eq
 ·intro V W K A hW hd hA hK
  have d2 : V 2 = _ := hd 2 (by kernel_rfl)
  simp only [putAll, pz1, pz2, pz3, pz4, Act.put, pz5, pz6, pz7, d2] at hA
  clear hd d2
  obtain rfl := hA
  go_wp2
  exact hK.out _ brf
 apply grow_eq
 ·intro V W K A hW hd hA hK
  have d3 : V 3 = _ := hd 3 (by kernel_rfl)
  simp only [putAll, pz1, pz2, pz3, pz4, Act.put, pz5, pz6, pz7, d3] at hA
  clear hd d3
  obtain rfl := hA
  go_wp2
  exact hK.out _ brf
 apply grow_eq
 ·intro V W K A hW hd hA hK
  have d4 : V 4 = _ := hd 4 (by kernel_rfl)
  simp only [putAll, pz1, pz2, pz3, pz4, Act.put, pz5, pz6, pz7, d4] at hA
  clear hd d4
  obtain rfl := hA
  go_wp2
  exact hK.out _ brf
 apply grow_eq
 ·intro V W K A hW hd hA hK
  have d5 : V 5 = _ := hd 5 (by kernel_rfl)
  simp only [putAll, pz1, pz2, pz3, pz4, Act.put, pz5, pz6, pz7, d5] at hA
  clear hd d5
  obtain rfl := hA
  have e8 := blk_cell (below_blk hW HG1.out hlt') 8 rfl
  go_wp2
  exact hK.out _ brf
 apply grow_eq
 ·intro V W K A hW hd hA hK
  have d1 : (fun v W => v = .pointer (some ⟨g1, k * 13, none⟩)) (V 1) W := hd 1 (by kernel_rfl)
  simp only [putAll, pz1, pz2, pz3, pz4, Act.put, pz5, pz6, pz7] at hA
  clear hd
  generalize V 1 = x1 at d1 hA
  obtain rfl := hA
  obtain rfl := d1
  go_wp2
  exact hK.out _ brf
 apply grow_eq
 ·intro V W K A hW hd hA hK
  have d7 : V 7 = _ := hd 7 (by kernel_rfl)
  simp only [putAll, pz1, pz2, pz3, pz4, Act.put, pz5, pz6, pz7, d7] at hA
  clear hd d7
  obtain rfl := hA
  go_wp2
  exact hK.out _ brf
 intro V W A hW hS hA
 have d0 : V 0 = _ := hS 0 (by omega)
 have d1 : (fun v W => v = .pointer (some ⟨g1, k * 13, none⟩)) (V 1) W := hS 1 (by omega)
 have d2 : V 2 = _ := hS 2 (by omega)
 have d3 : V 3 = _ := hS 3 (by omega)
 have d4 : V 4 = _ := hS 4 (by omega)
 have d5 : V 5 = _ := hS 5 (by omega)
 have d6 : V 6 = _ := hS 6 (by omega)
 have d7 : V 7 = _ := hS 7 (by omega)
 have d8 : V 8 = _ := hS 8 (by omega)
 simp only [putAll, pz1, pz2, pz3, pz4, Act.put, pz5, pz6, pz7, d0, d2, d3, d4, d5, d6, d7, d8] at hA
 clear hS d0 d2 d3 d4 d5 d6 d7 d8
 generalize V 1 = x1 at d1 hA
 obtain rfl := hA
 simp only [List.drop_succ_cons, List.drop_zero]
 obtain rfl := d1
 have HR1w : Hid (RowIs W 67 13 g1 n1 d1 (svcsV X.svcs)) := HR1'.out.below hW (by omega)
 go_wp2_with (refine wpList_row_one rfl 3 (.tmp 19) (.tmp 17) rfl g1 _ (.int .i64 (X.now + 1)) rfl rfl Tryz.infosIntO rfl rfl 67 13 n1 d1 _ HR1w.out (by omega) ?_; intro w3 hr on; have HR3' : Hid (RowIs w3 67 13 g1 n1 d1 (svcsV (X.svcs.set k { s with version := X.now + 1 }))) := (by have h := hr.out; rw [show splice (svcsV X.svcs) (k * 13 + 1) [.int .i64 (X.now + 1)] = svcsV (X.svcs.set k { s with version := X.now + 1 }) from flat_splice_one (c := Svc.cells) (n := 13) (fun _ => rfl) X.svcs k 1 s { s with version := X.now + 1 } _ HK.out (by omega) rfl] at h; exact h); have HO3 : Hid (Only g1 W w3) := on; clear hr on)
 go_end0
 have k1 : KeepT 222 w w1 := .of_only HON.out HG.out
 have k2 : KeepT 222 w1 W := .of_below hW
 have k12 := k1.trans k2
 have k3 : KeepT 67 W w3 := .of_row HO3.out HR1w.out
 have hbl : Below N w w3 := (HON.out.below.mono hNg).trans ((hW.mono (by omega)).trans (HO3.out.below.mono hN1))
 refine ⟨rfl, ⟨some ⟨g1, 0, none⟩, b2, b3, d1, d2, d3, ve, hNg, ?_, ⟨?_, ?_, ?_⟩, ?_⟩, hbl⟩
 ·have := k3.blk (below_blk hW HG1.out hlt') (by decide)
  rw [← HN2.out, ← HN3.out, ← HN1.out] at this
  simpa only [List.length_set] using this
 ·have h := HR3'.out
  rw [← HN1.out] at h
  exact .inr ⟨g1, rfl, hN1, by simpa only [List.length_set] using h⟩
 ·have := k3.rowN (k12.rowN HR2.out (by decide)) (by decide)
  rw [← HN2.out] at this
  exact this
 ·have := k3.rowN (k12.rowN HR3.out (by decide)) (by decide)
  rw [← HN3.out] at this
  exact this
 ·have := k3.own (k12.own HEI.out (by decide)) (by decide)
  rw [← HNE.out] at this
  exact this
end Go.Proofs.YtbceafpodamnfabGreatDoor
