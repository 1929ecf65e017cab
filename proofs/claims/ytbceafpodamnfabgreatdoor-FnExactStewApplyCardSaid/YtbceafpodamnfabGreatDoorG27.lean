/-
  My own: Oe.
-/
import Derived.Test.YtbceafpodamnfabGreatDoorG24
import Derived.Test.YtbceafpodamnfabGreatDoorG26
import Derived.Test.YtbceafpodamnfabGreatDoorG11
import Derived.Test.YtbceafpodamnfabGreatDoorG12
set_option linter.unusedVariables false
set_option linter.unusedSimpArgs false
namespace Go.Proofs.YtbceafpodamnfabGreatDoor
open Go.RowKit Go.Sort Go.Maps
theorem Tryz.infoIntO : (Tryz.prog.info? 3).map (fun i => (i.zero, i.size, i.bytes)) = some (some (.int .i64 0), 1, 8) := by kernel_rfl
theorem Tryz.infosIntsO : (Tryz.prog.info? 63).map (·.size) = some 1 := by kernel_rfl
section
variable {P : Program}
theorem wpList_append_keep {ops : Array Oper} {rest : List Oper} {o : Oper} {a : Act} {w : World} {Q : Exit → Act → World → Prop} (hgd : o.guard = none) (s x : Operand) (t : TypeId)
  (ho : o.op = .call { callee := .builtin .append, args := #[s, x], argTypes := #[t, t] })
  (base : Nat) (e : TypeId) (z : Value) (size bytes : Nat) (ht : P.underlying t = some (.slice e)) (hinfo : (P.info? e).map (fun i => (i.zero, i.size, i.bytes)) = some (some z, size, bytes)) (hzs : z.cells.size = size) (hsz : 0 < size)
  (v : Value) (n : Nat) (xs : List Value) (hs : a.eval s = v) (hown : w.ownsRow base e size v n xs)
  (ad : Addr) (c : Nat) (news : List Value) (hx : a.eval x = .slice (some ad) 1 c) (hl : news.length = 1 * size) (hnews : ∀ j u, news[j]? = some u → w.cell? (ad.add j) = some u) (h1 : ∀ u ∈ news, u.oneCell' = true)
  (h63 : n + 1 ≤ maxLen) (hbytes : (n + 1) * bytes ≤ 140737488355328) (hbase : base ≤ w.heap.size)
  (h : ∀ g cap w', base ≤ g → Hid (w'.ownsRow base e size (.slice (some ⟨g, 0, none⟩) (n + 1) cap) (n + 1) (xs ++ news)) → Below base w w' → KeepT e w w' → wpList P ops Q rest (a.put o.dst (.slice (some ⟨g, 0, none⟩) (n + 1) cap)) w') : wpList P ops Q (o :: rest) a w := by
 obtain ⟨i, hi, hz, hs', hb⟩ := info_parts hinfo
 refine wpList_append_own w hgd s x t ho base e i z size bytes ht hi hz hs' hb hzs hsz v n xs hs hown ad 1 c news hx hl hnews h1 h63 hbytes hbase fun v' w' ho' hgr _ => ?_
 have hb' : Below base w w' := ⟨hgr.os, hgr.tape, hgr.output, hgr.size, fun k hk => hgr.block k (by omega) (fun e' => by have := (hown.lt k e'.symm).1; omega)⟩
 have hk' : KeepT e w w' := ⟨hgr.size, fun k hk hne => hgr.block k hk fun e' => by
  rcases hown.2 with ⟨rfl, _⟩ | ⟨g, cap, cur, rfl, _, hg, _⟩
  ·simp [Value.ownBlock] at e'
  ·simp [Value.ownBlock] at e'
   subst e'
   exact hne _ _ hg⟩
 rcases ho'.2 with ⟨_, h0⟩ | ⟨g, cap, cur, rfl, hbg, _⟩
 ·omega
 ·exact h g cap w' hbg ho' hb' hk'
end
theorem CopiesAt.keep {e : TypeId} {w w' : World} {b : Nat} {B : Bk} {k : Nat} (h : CopiesAt w b B k) (hk : KeepT e w w') : CopiesAt w' b B k := by
 obtain ⟨n, D, hn, ⟨es, clock, he, r⟩, r'⟩ := id h
 exact h.blk (hk.map he)
theorem CopiesAt.belowO {w w' : World} {b : Nat} {B : Bk} {k : Nat} (h : CopiesAt w b B k) (hk : Below w.heap.size w w') : CopiesAt w' b B k := h.blk (hk.block b h.lt)
def idxL (X : Bk) (A : Ac) : List Int := A.ends.map fun e => idxC X.cps A.service e.number
theorem idxL_take {X : Bk} {A : Ac} {j : Nat} {e : En} {i : Int} (h : A.ends[j]? = some e) (hi : idxC X.cps A.service e.number = i) : intsV ((idxL X A).take (j + 1)) = intsV ((idxL X A).take j) ++ [.int .i64 i] := by
 have : (idxL X A)[j]? = some i := by unfold idxL; rw [List.getElem?_map, h]; simp [hi]
 rw [List.take_add_one, this]
 simp [intsV]
theorem idxL_len (X : Bk) (A : Ac) : (idxL X A).length = A.ends.length := by simp [idxL]
def FindIs (N g : Nat) (A : Ac) (ae : Option Addr) (ce : Nat) (X : Bk) (e : Ending) (w' : World) : Prop :=
 (∃ (k : Nat) (s : Svc), X.svcs[k]? = some s ∧ svcOf X A.service = some s ∧ A.ends.all (endIn X A) = true ∧ e = .returned (.tuple #[]) ∧ WkAt w' N g A ae ce X k (idxL X A)) ∨
 ((svcOf X A.service = none ∨ A.ends.all (endIn X A) = false) ∧ e = .panicked (noWay 3))
set_option maxRecDepth 100000 in
set_option maxHeartbeats 8000000 in
theorem find_none (A : Ac) (ae : Option Addr) (ce : Nat) (X : Bk) (N g : Nat) (w : World) (HF : Hid (svcOf X A.service = none)) (hV : Valid X) (hS : X.small) (hZ : X.sized) (hsv : A.service.size ≤ maxLen) (hN : N ≤ w.heap.size) (hSt : WkAt w N g A ae ce X 0 []) :
  Calls Tryz.prog 169 #[.pointer (some ⟨g, 0, none⟩)] w fun e w' => FindIs N g A ae ce X e w' ∧ Below N w w' := by
 obtain ⟨b1, b2, b3, d1, d2, d3, ve, hNg, hg, hbk, hei⟩ := hSt
 have hU : uniqS X := uniq_of hV.svcs
 have hUB : uniqB X := uniqB_of hV.bts
 have HBK := hidBkOf hbk
 have HG : Hid _ := hg
 have HEI : Hid (w.ownsRow N 3 1 ve 0 (intsV [])) := hei
 have hlt : g < w.heap.size := (Array.getElem?_eq_some_iff.1 hg).1
 clear hbk hg hei
 go_enter Tryz.func169, Tryz.ntmps169
 go_upto_region 0 with fail
 refine wp_region_grows 16 (by kernel_rfl) (by kernel_rfl) ?_
 apply grow_eq
 ·intro V W K A hW hd hA hK
  simp only [putAll, pz1, pz2, pz3, pz4, Act.put, pz5, pz6, pz7] at hA
  clear hd
  obtain rfl := hA
  go_wp2
  exact hK.out _ brf
 apply grow_eq
 ·intro V W K A hW hd hA hK
  have d0 : V 0 = _ := hd 0 (by kernel_rfl)
  simp only [putAll, pz1, pz2, pz3, pz4, Act.put, pz5, pz6, pz7, d0] at hA
  clear hd d0
  obtain rfl := hA
  go_wp2
  exact hK.out _ brf
 apply grow_eq
 ·intro V W K A hW hd hA hK
  have d1 : V 1 = _ := hd 1 (by kernel_rfl)
  simp only [putAll, pz1, pz2, pz3, pz4, Act.put, pz5, pz6, pz7, d1] at hA
  clear hd d1
  obtain rfl := hA
  go_wp2
  exact hK.out _ brf
 apply grow_eq
 ·intro V W K A hW hd hA hK
  have d2 : V 2 = _ := hd 2 (by kernel_rfl)
  simp only [putAll, pz1, pz2, pz3, pz4, Act.put, pz5, pz6, pz7, d2] at hA
  clear hd d2
  obtain rfl := hA
  have e8 := blk_cell (below_blk hW HG.out hlt) 8 rfl
  have e9 := blk_cell (below_blk hW HG.out hlt) 9 rfl
  have e10 := blk_cell (below_blk hW HG.out hlt) 10 rfl
  have e11 := blk_cell (below_blk hW HG.out hlt) 11 rfl
  go_wp2
  exact hK.out _ brf
 refine grow_op (fun v W => ∃ m, v = .map (some m) ∧ PlacesX W m X X.svcs.length X.bts.length) (fun v W W2 ⟨m, h1, h2⟩ hb => ⟨m, h1, h2.below hb h2.lt⟩) ?_ ?_
 ·intro V W K A hW hd hA hK
  have d3 : V 3 = _ := hd 3 (by kernel_rfl)
  simp only [putAll, pz1, pz2, pz3, pz4, Act.put, pz5, pz6, pz7, d3] at hA
  clear hd d3
  obtain rfl := hA
  go_wp2_with fail
  refine (placesIn_x X _ _ _ d1 d2 d3 _ hS hZ hU hUB (HBK.out.at.below hW)).mono ?_
  rintro e w3 ⟨rfl, hpl, hb3⟩
  have HPL : Hid _ := hpl
  clear hpl
  go_wp2
  exact hK.out _ _ hb3 ⟨_, rfl, HPL.out⟩
 apply grow_eq
 ·intro V W K A hW hd hA hK
  simp only [putAll, pz1, pz2, pz3, pz4, Act.put, pz5, pz6, pz7] at hA
  clear hd
  obtain rfl := hA
  go_wp2
  exact hK.out _ brf
 apply grow_eq
 ·intro V W K A hW hd hA hK
  have d5 : V 5 = _ := hd 5 (by kernel_rfl)
  simp only [putAll, pz1, pz2, pz3, pz4, Act.put, pz5, pz6, pz7, d5] at hA
  clear hd d5
  obtain rfl := hA
  go_wp2
  exact hK.out _ brf
 apply grow_eq
 ·intro V W K A hW hd hA hK
  have d6 : V 6 = _ := hd 6 (by kernel_rfl)
  simp only [putAll, pz1, pz2, pz3, pz4, Act.put, pz5, pz6, pz7, d6] at hA
  clear hd d6
  obtain rfl := hA
  go_wp2
  exact hK.out _ brf
 apply grow_eq
 ·intro V W K A hW hd hA hK
  have d7 : V 7 = _ := hd 7 (by kernel_rfl)
  simp only [putAll, pz1, pz2, pz3, pz4, Act.put, pz5, pz6, pz7, d7] at hA
  clear hd d7
  obtain rfl := hA
  go_wp2
  exact hK.out _ brf
 apply grow_eq
 ·intro V W K A hW hd hA hK
  have d8 : V 8 = _ := hd 8 (by kernel_rfl)
  simp only [putAll, pz1, pz2, pz3, pz4, Act.put, pz5, pz6, pz7, d8] at hA
  clear hd d8
  obtain rfl := hA
  have e0 := blk_cell (below_blk hW HG.out hlt) 0 rfl
  go_wp2
  exact hK.out _ brf
 apply grow_eq
 ·intro V W K A hW hd hA hK
  have d9 : V 9 = _ := hd 9 (by kernel_rfl)
  simp only [putAll, pz1, pz2, pz3, pz4, Act.put, pz5, pz6, pz7, d9] at hA
  clear hd d9
  obtain rfl := hA
  go_wp2
  exact hK.out _ brf
 apply grow_eq
 ·intro V W K A hW hd hA hK
  have d4 : (fun v W => ∃ m, v = .map (some m) ∧ PlacesX W m X X.svcs.length X.bts.length) (V 4) W := hd 4 (by kernel_rfl)
  have d10 : V 10 = _ := hd 10 (by kernel_rfl)
  simp only [putAll, pz1, pz2, pz3, pz4, Act.put, pz5, pz6, pz7, d10] at hA
  clear hd d10
  generalize V 4 = x4 at d4 hA
  obtain rfl := hA
  obtain ⟨m, rfl, n, D, hn, hown2, q1, q2, _, _⟩ := d4
  have HH : Hid (Maps.has D (key 1 A.service) = false) := q1 A.service hsv (svcOf_none HF.out)
  have HA : Hid (D.atKey (key 1 A.service) (.lit (.int .i64 0)) = .lit (.int .i64 0)) := atKey_of_not_has HH.out _
  clear q1 q2
  go_wp2_with (at_lookup; refine wpList_lookup_is _ rfl (.tmp 14) (.tmp 20) 210 rfl 214 3 .i64 thingLaw Tryz.underlying210 Tryz.underlying3 (zeroInt _) m n D rfl hown2 _ _ rfl (key_ok 1 A.service wf1 hsv) 0 false HA.out HH.out ?_)
  exact hK.out _ brf
 apply grow_eq
 ·intro V W K A hW hd hA hK
  have d11 : V 11 = _ := hd 11 (by kernel_rfl)
  simp only [putAll, pz1, pz2, pz3, pz4, Act.put, pz5, pz6, pz7, d11] at hA
  clear hd d11
  obtain rfl := hA
  go_wp2
  exact hK.out _ brf
 apply grow_eq
 ·intro V W K A hW hd hA hK
  have d12 : V 12 = _ := hd 12 (by kernel_rfl)
  simp only [putAll, pz1, pz2, pz3, pz4, Act.put, pz5, pz6, pz7, d12] at hA
  clear hd d12
  obtain rfl := hA
  go_wp2
  exact hK.out _ brf
 apply grow_eq
 ·intro V W K A hW hd hA hK
  have d12 : V 12 = _ := hd 12 (by kernel_rfl)
  simp only [putAll, pz1, pz2, pz3, pz4, Act.put, pz5, pz6, pz7, d12] at hA
  clear hd d12
  obtain rfl := hA
  go_wp2
  exact hK.out _ brf
 apply grow_eq
 ·intro V W K A hW hd hA hK
  have d13 : V 13 = _ := hd 13 (by kernel_rfl)
  simp only [putAll, pz1, pz2, pz3, pz4, Act.put, pz5, pz6, pz7, d13] at hA
  clear hd d13
  obtain rfl := hA
  go_wp2
  exact hK.out _ brf
 intro V W A hW hS hA
 have d0 : V 0 = _ := hS 0 (by omega)
 have d1 : V 1 = _ := hS 1 (by omega)
 have d2 : V 2 = _ := hS 2 (by omega)
 have d3 : V 3 = _ := hS 3 (by omega)
 have d4 : (fun v W => ∃ m, v = .map (some m) ∧ PlacesX W m X X.svcs.length X.bts.length) (V 4) W := hS 4 (by omega)
 have d5 : V 5 = _ := hS 5 (by omega)
 have d6 : V 6 = _ := hS 6 (by omega)
 have d7 : V 7 = _ := hS 7 (by omega)
 have d8 : V 8 = _ := hS 8 (by omega)
 have d9 : V 9 = _ := hS 9 (by omega)
 have d10 : V 10 = _ := hS 10 (by omega)
 have d11 : V 11 = _ := hS 11 (by omega)
 have d12 : V 12 = _ := hS 12 (by omega)
 have d13 : V 13 = _ := hS 13 (by omega)
 have d14 : V 14 = _ := hS 14 (by omega)
 have d15 : V 15 = _ := hS 15 (by omega)
 simp only [putAll, pz1, pz2, pz3, pz4, Act.put, pz5, pz6, pz7, d0, d1, d2, d3, d5, d6, d7, d8, d9, d10, d11, d12, d13, d14, d15] at hA
 clear hS d0 d1 d2 d3 d5 d6 d7 d8 d9 d10 d11 d12 d13 d14 d15
 generalize V 4 = x4 at d4 hA
 obtain rfl := hA
 simp only [List.drop_succ_cons, List.drop_zero]
 clear d4
 go_wp2_with (go_at_call 167; refine (insist_no 3 _).mono ?_; rintro e w2 ⟨rfl, rfl⟩)
 exact ⟨rfl, .inr ⟨.inl HF.out, rfl⟩, hW.mono hN⟩
set_option maxRecDepth 100000 in
set_option maxHeartbeats 8000000 in
theorem find_some (A : Ac) (ae : Option Addr) (ce : Nat) (X : Bk) (N g : Nat) (w : World) (s : Svc) (k : Nat) (HK : Hid (X.svcs[k]? = some s)) (HNM : Hid (s.name = A.service)) (HF : Hid (svcOf X A.service = some s)) (hnum : Hid (∀ e ∈ A.ends, (Lit.int .i64 e.number).wf = true)) (hl : A.ends.length ≤ 1048576) (HE : Hid (∀ W, Below N w W → SlE W ae A.ends)) (hV : Valid X) (hS : X.small) (hZ : X.sized) (hsv : A.service.size ≤ maxLen) (hN : N ≤ w.heap.size) (hSt : WkAt w N g A ae ce X 0 []) :
  Calls Tryz.prog 169 #[.pointer (some ⟨g, 0, none⟩)] w fun e w' => FindIs N g A ae ce X e w' ∧ Below N w w' := by
 obtain ⟨b1, b2, b3, d1, d2, d3, ve, hNg, hg, hbk, hei⟩ := hSt
 have hU : uniqS X := uniq_of hV.svcs
 have hUB : uniqB X := uniqB_of hV.bts
 have HBK := hidBkOf hbk
 have HG : Hid _ := hg
 have HEI : Hid (w.ownsRow N 3 1 ve 0 (intsV [])) := hei
 have hlt : g < w.heap.size := (Array.getElem?_eq_some_iff.1 hg).1
 clear hbk hg hei
 have hkl : k < X.svcs.length := (List.getElem?_eq_some_iff.1 HK.out).1
 go_enter Tryz.func169, Tryz.ntmps169
 go_upto_region 0 with fail
 refine wp_region_grows 16 (by kernel_rfl) (by kernel_rfl) ?_
 apply grow_eq
 ·intro V W K A hW hd hA hK
  simp only [putAll, pz1, pz2, pz3, pz4, Act.put, pz5, pz6, pz7] at hA
  clear hd
  obtain rfl := hA
  go_wp2
  exact hK.out _ brf
 apply grow_eq
 ·intro V W K A hW hd hA hK
  have d0 : V 0 = _ := hd 0 (by kernel_rfl)
  simp only [putAll, pz1, pz2, pz3, pz4, Act.put, pz5, pz6, pz7, d0] at hA
  clear hd d0
  obtain rfl := hA
  go_wp2
  exact hK.out _ brf
 apply grow_eq
 ·intro V W K A hW hd hA hK
  have d1 : V 1 = _ := hd 1 (by kernel_rfl)
  simp only [putAll, pz1, pz2, pz3, pz4, Act.put, pz5, pz6, pz7, d1] at hA
  clear hd d1
  obtain rfl := hA
  go_wp2
  exact hK.out _ brf
 apply grow_eq
 ·intro V W K A hW hd hA hK
  have d2 : V 2 = _ := hd 2 (by kernel_rfl)
  simp only [putAll, pz1, pz2, pz3, pz4, Act.put, pz5, pz6, pz7, d2] at hA
  clear hd d2
  obtain rfl := hA
  have e8 := blk_cell (below_blk hW HG.out hlt) 8 rfl
  have e9 := blk_cell (below_blk hW HG.out hlt) 9 rfl
  have e10 := blk_cell (below_blk hW HG.out hlt) 10 rfl
  have e11 := blk_cell (below_blk hW HG.out hlt) 11 rfl
  go_wp2
  exact hK.out _ brf
 refine grow_op (fun v W => ∃ m, v = .map (some m) ∧ PlacesX W m X X.svcs.length X.bts.length) (fun v W W2 ⟨m, h1, h2⟩ hb => ⟨m, h1, h2.below hb h2.lt⟩) ?_ ?_
 ·intro V W K A hW hd hA hK
  have d3 : V 3 = _ := hd 3 (by kernel_rfl)
  simp only [putAll, pz1, pz2, pz3, pz4, Act.put, pz5, pz6, pz7, d3] at hA
  clear hd d3
  obtain rfl := hA
  go_wp2_with fail
  refine (placesIn_x X _ _ _ d1 d2 d3 _ hS hZ hU hUB (HBK.out.at.below hW)).mono ?_
  rintro e w3 ⟨rfl, hpl, hb3⟩
  have HPL : Hid _ := hpl
  clear hpl
  go_wp2
  exact hK.out _ _ hb3 ⟨_, rfl, HPL.out⟩
 apply grow_eq
 ·intro V W K A hW hd hA hK
  simp only [putAll, pz1, pz2, pz3, pz4, Act.put, pz5, pz6, pz7] at hA
  clear hd
  obtain rfl := hA
  go_wp2
  exact hK.out _ brf
 apply grow_eq
 ·intro V W K A hW hd hA hK
  have d5 : V 5 = _ := hd 5 (by kernel_rfl)
  simp only [putAll, pz1, pz2, pz3, pz4, Act.put, pz5, pz6, pz7, d5] at hA
  clear hd d5
  obtain rfl := hA
  go_wp2
  exact hK.out _ brf
 apply grow_eq
 ·intro V W K A hW hd hA hK
  have d6 : V 6 = _ := hd 6 (by kernel_rfl)
  simp only [putAll, pz1, pz2, pz3, pz4, Act.put, pz5, pz6, pz7, d6] at hA
  clear hd d6
  obtain rfl := hA
  go_wp2
  exact hK.out _ brf
 apply grow_eq
 ·intro V W K A hW hd hA hK
  have d7 : V 7 = _ := hd 7 (by kernel_rfl)
  simp only [putAll, pz1, pz2, pz3, pz4, Act.put, pz5, pz6, pz7, d7] at hA
  clear hd d7
  obtain rfl := hA
  go_wp2
  exact hK.out _ brf
 apply grow_eq
 ·intro V W K A hW hd hA hK
  have d8 : V 8 = _ := hd 8 (by kernel_rfl)
  simp only [putAll, pz1, pz2, pz3, pz4, Act.put, pz5, pz6, pz7, d8] at hA
  clear hd d8
  obtain rfl := hA
  have e0 := blk_cell (below_blk hW HG.out hlt) 0 rfl
  go_wp2
  exact hK.out _ brf
 apply grow_eq
 ·intro V W K A hW hd hA hK
  have d9 : V 9 = _ := hd 9 (by kernel_rfl)
  simp only [putAll, pz1, pz2, pz3, pz4, Act.put, pz5, pz6, pz7, d9] at hA
  clear hd d9
  obtain rfl := hA
  go_wp2
  exact hK.out _ brf
 apply grow_eq
 ·intro V W K A hW hd hA hK
  have d4 : (fun v W => ∃ m, v = .map (some m) ∧ PlacesX W m X X.svcs.length X.bts.length) (V 4) W := hd 4 (by kernel_rfl)
  have d10 : V 10 = _ := hd 10 (by kernel_rfl)
  simp only [putAll, pz1, pz2, pz3, pz4, Act.put, pz5, pz6, pz7, d10] at hA
  clear hd d10
  generalize V 4 = x4 at d4 hA
  obtain rfl := hA
  obtain ⟨m, rfl, n, D, hn, hown2, q1, q2, _, _⟩ := d4
  have q2' := q2 k s hkl HK.out
  rw [HNM.out] at q2'
  have HH : Hid (Maps.has D (key 1 A.service) = true) := q2'.1
  have HA : Hid (D.atKey (key 1 A.service) (.lit (.int .i64 0)) = .lit (.int .i64 (k : Int))) := q2'.2
  clear q1 q2 q2'
  go_wp2_with (at_lookup; refine wpList_lookup_is _ rfl (.tmp 14) (.tmp 20) 210 rfl 214 3 .i64 thingLaw Tryz.underlying210 Tryz.underlying3 (zeroInt _) m n D rfl hown2 _ _ rfl (key_ok 1 A.service wf1 hsv) (k : Int) true HA.out HH.out ?_)
  exact hK.out _ brf
 apply grow_eq
 ·intro V W K A hW hd hA hK
  have d11 : V 11 = _ := hd 11 (by kernel_rfl)
  simp only [putAll, pz1, pz2, pz3, pz4, Act.put, pz5, pz6, pz7, d11] at hA
  clear hd d11
  obtain rfl := hA
  go_wp2
  exact hK.out _ brf
 apply grow_eq
 ·intro V W K A hW hd hA hK
  have d12 : V 12 = _ := hd 12 (by kernel_rfl)
  simp only [putAll, pz1, pz2, pz3, pz4, Act.put, pz5, pz6, pz7, d12] at hA
  clear hd d12
  obtain rfl := hA
  go_wp2
  exact hK.out _ brf
 apply grow_eq
 ·intro V W K A hW hd hA hK
  have d12 : V 12 = _ := hd 12 (by kernel_rfl)
  simp only [putAll, pz1, pz2, pz3, pz4, Act.put, pz5, pz6, pz7, d12] at hA
  clear hd d12
  obtain rfl := hA
  go_wp2
  exact hK.out _ brf
 apply grow_eq
 ·intro V W K A hW hd hA hK
  have d13 : V 13 = _ := hd 13 (by kernel_rfl)
  simp only [putAll, pz1, pz2, pz3, pz4, Act.put, pz5, pz6, pz7, d13] at hA
  clear hd d13
  obtain rfl := hA
  go_wp2
  exact hK.out _ brf
 intro V W A hW hS hA
 have d0 : V 0 = _ := hS 0 (by omega)
 have d1 : V 1 = _ := hS 1 (by omega)
 have d2 : V 2 = _ := hS 2 (by omega)
 have d3 : V 3 = _ := hS 3 (by omega)
 have d4 : (fun v W => ∃ m, v = .map (some m) ∧ PlacesX W m X X.svcs.length X.bts.length) (V 4) W := hS 4 (by omega)
 have d5 : V 5 = _ := hS 5 (by omega)
 have d6 : V 6 = _ := hS 6 (by omega)
 have d7 : V 7 = _ := hS 7 (by omega)
 have d8 : V 8 = _ := hS 8 (by omega)
 have d9 : V 9 = _ := hS 9 (by omega)
 have d10 : V 10 = _ := hS 10 (by omega)
 have d11 : V 11 = _ := hS 11 (by omega)
 have d12 : V 12 = _ := hS 12 (by omega)
 have d13 : V 13 = _ := hS 13 (by omega)
 have d14 : V 14 = _ := hS 14 (by omega)
 have d15 : V 15 = _ := hS 15 (by omega)
 simp only [putAll, pz1, pz2, pz3, pz4, Act.put, pz5, pz6, pz7, d0, d1, d2, d3, d5, d6, d7, d8, d9, d10, d11, d12, d13, d14, d15] at hA
 clear hS d0 d1 d2 d3 d5 d6 d7 d8 d9 d10 d11 d12 d13 d14 d15
 generalize V 4 = x4 at d4 hA
 obtain rfl := hA
 simp only [List.drop_succ_cons, List.drop_zero]
 clear d4
 have HGW : Hid _ := below_blk hW HG.out hlt
 have HBW := hidBkOf (HBK.out.below hW)
 have HEW : Hid (W.ownsRow N 3 1 ve 0 (intsV [])) := ownO_below HEI.out hW
 have hbW : Below N w W := hW.mono hN
 have hNW : N ≤ W.heap.size := Nat.le_trans hN hW.size
 clear hW HG HBK HEI hlt
 go_upto_region 3 with (first
  | (go_at_call 167; refine (insist_yes 3 _).mono ?_; rintro e w2 ⟨rfl, rfl⟩)
  | ((with_reducible show wpList _ _ _ _ _ _); refine wpList_store_one rfl 3 (.tmp 29) (.tmp 27) rfl g 12 (.int .i64 (k : Int)) rfl rfl Tryz.infosIntO rfl rfl 222 #[.string A.service, .int .i64 A.seen, .int .i64 A.create, .int .i64 A.want, .int .i64 A.cool, .bool A.scale, .slice ae A.ends.length ce, .bool A.drop, .int .i64 X.now, .slice b1 X.svcs.length d1, .slice b2 X.cps.length d2, .slice b3 X.bts.length d3, .int .i64 0, ve] HGW.out (Nat.le_of_ble_eq_true rfl) ?_; intro w1 hz on; have HG1 : Hid (w1.heap[g]? = some (.cells #[.string A.service, .int .i64 A.seen, .int .i64 A.create, .int .i64 A.want, .int .i64 A.cool, .bool A.scale, .slice ae A.ends.length ce, .bool A.drop, .int .i64 X.now, .slice b1 X.svcs.length d1, .slice b2 X.cps.length d2, .slice b3 X.bts.length d3, .int .i64 (k : Int), ve] 222 (0, 0))) := hz; have HON : Hid (Only g W w1) := on; clear hz on))
 have k1 : KeepT 222 W w1 := .of_only HON.out HGW.out
 have HB1 := hidBkOf (HBW.out.only HON.out HGW.out (by decide) (by decide) (by decide))
 have HE1 : Hid (w1.ownsRow N 3 1 ve 0 (intsV [])) := k1.own HEW.out (by decide)
 have hb1 : Below N w w1 := hbW.trans (HON.out.below.mono hNg)
 have hN1 : N ≤ w1.heap.size := by have := HON.out.size; omega
 have hlt1 : g < w1.heap.size := (Array.getElem?_eq_some_iff.1 HG1.out).1
 clear HON HGW HBW HEW hbW hNW k1
 have e8 := blk_cell HG1.out 8 rfl
 have e9 := blk_cell HG1.out 9 rfl
 have e10 := blk_cell HG1.out 10 rfl
 have e11 := blk_cell HG1.out 11 rfl
 go_upto_region 4 with (go_at_call 223; go_loud (refine (copyPlaces_any X b1 b2 b3 d1 d2 d3 _ hS hZ hV.wfC (uniqC_of hV.cps) HB1.out.at).mono ?_; rintro e w2 ⟨rfl, hpl, hb2⟩; clear e8 e9 e10 e11))
 obtain ⟨m, HM⟩ : ∃ m, Hid (m = w1.heap.size + 1) := ⟨_, rfl⟩
 rw [← HM.out] at hpl ⊢
 have HC2 : Hid (CopiesAt w2 m X X.cps.length) := hpl
 have HG2 : Hid _ := below_blk hb2 HG1.out hlt1
 have HW2 : Hid (WkAt w2 N g A ae ce X k ((idxL X A).take 0)) := ⟨b1, b2, b3, d1, d2, d3, ve, hNg, HG2.out, HB1.out.below hb2, ownO_below HE1.out hb2⟩
 have hbb2 : Below N w w2 := hb1.trans (hb2.mono hN1)
 have e6 := blk_cell HG2.out 6 rfl
 clear hpl hb2 HB1 HE1 hb1 hN1 hlt1 HG1
 go_wp2
 clear e6 HG2
 go_loopw [41] (fun iv wr => ∃ j : Nat, j ≤ A.ends.length ∧ iv = .int .i64 j ∧ Hid (WkAt wr N g A ae ce X k ((idxL X A).take j)) ∧ Hid (CopiesAt wr m X X.cps.length) ∧ Hid (∀ i e, i < j → A.ends[i]? = some e → endIn X A e = true) ∧ Below N w wr) (fun iv _ => A.ends.length - (intOf iv).toNat)
 case atStart => exact ⟨0, Nat.zero_le _, rfl, HW2, HC2, fun i e h => absurd h (Nat.not_lt_zero _), hbb2⟩
 case round =>
  clear HW2 HC2 hbb2
  obtain ⟨j, hj, rfl, HWR, HCR, HALL, hb⟩ := hrel
  by_cases hlt : j < A.ends.length
  ·obtain ⟨en, hen⟩ : ∃ x, A.ends[j]? = some x := ⟨A.ends[j], by simp [hlt]⟩
   have hne : A.ends ≠ [] := by intro h; rw [h] at hlt; simp at hlt
   obtain ⟨b, off, ea, hbs, hat⟩ := HE.out wr hb hne
   subst ea
   have hq := hat j en hen
   have HWF : Hid _ := hnum.out en (List.mem_of_getElem? hen)
   have HEN : Hid _ := hen
   unfold EnAt at hq
   obtain ⟨q0, q1⟩ := hq
   obtain ⟨b1, b2, b3, d1, d2, d3, ve, _, hg, hbk, hei⟩ := HWR.out
   have HG : Hid _ := hg
   have HBK := hidBkOf hbk
   have HEI : Hid _ := hei
   have hgl : g < wr.heap.size := (Array.getElem?_eq_some_iff.1 hg).1
   have T0 : Hid _ := heap_alloc_new wr (.cells (#[.int .i64 en.number, .int .i64 en.seen] : Array Value) 155)
   have hba := below_box wr (.cells (#[.int .i64 en.number, .int .i64 en.seen] : Array Value) 155)
   obtain ⟨wa, hwa⟩ : ∃ W, wr.alloc (.cells (#[.int .i64 en.number, .int .i64 en.seen] : Array Value) 155) = W := ⟨_, rfl⟩
   rw [hwa] at T0 hba
   clear hat hne hen hg hbk hei HWR
   have hbl : Below N w wa := hb.trans (hba.mono (Nat.le_trans hN hb.size))
   have HGa : Hid _ := below_blk hba HG.out hgl
   have HBa := hidBkOf (HBK.out.below hba)
   have HJ : ((idxL X A).take j).length = j := by rw [List.length_take, idxL_len]; omega
   rw [HJ] at HEI
   have HEa : Hid (wa.ownsRow N 3 1 ve j (intsV ((idxL X A).take j))) := ownO_below HEI.out hba
   have HCa : Hid (CopiesAt wa m X X.cps.length) := HCR.out.belowO hba
   have hga : g < wa.heap.size := Nat.lt_of_lt_of_le hgl hba.size
   have hta : wr.heap.size < wa.heap.size := (Array.getElem?_eq_some_iff.1 T0.out).1
   have hNa : N ≤ wa.heap.size := by omega
   clear HG HBK HEI HCR hgl HJ hba
   cases hf : X.cps.find? (isC A.service en.number) with
   | none =>
    have HNO : Hid (A.ends.all (endIn X A) = false) := by
     unfold Hid
     rw [List.all_eq_false]
     exact ⟨en, List.mem_of_getElem? HEN.out, by simp [endIn, hf]⟩
    have HFN : Hid (∀ (i : Nat) c, i < X.cps.length → X.cps[i]? = some c → ¬ (c.service = A.service ∧ c.number = en.number)) := fun i c _ hc hh => by
     rw [List.find?_eq_none] at hf
     exact hf c (List.mem_of_getElem? hc) (isC_iff.2 hh)
    clear hf
    go_upto_region 7 with fail
    clear hwa q0 q1
    refine wp_region_grows 14 (by kernel_rfl) (by kernel_rfl) ?_
    apply grow_eq
    ·intro V W K A hW hd hA hK
     simp only [putAll, pz1, pz2, pz3, pz4, Act.put, pz5, pz6, pz7] at hA
     clear hd
     obtain rfl := hA
     go_wp2
     exact hK.out _ brf
    apply grow_eq
    ·intro V W K A hW hd hA hK
     simp only [putAll, pz1, pz2, pz3, pz4, Act.put, pz5, pz6, pz7] at hA
     clear hd
     obtain rfl := hA
     go_wp2
     exact hK.out _ brf
    apply grow_eq
    ·intro V W K A hW hd hA hK
     have d1 : V 1 = _ := hd 1 (by kernel_rfl)
     simp only [putAll, pz1, pz2, pz3, pz4, Act.put, pz5, pz6, pz7, d1] at hA
     clear hd d1
     obtain rfl := hA
     go_wp2
     exact hK.out _ brf
    apply grow_eq
    ·intro V W K A hW hd hA hK
     have d2 : V 2 = _ := hd 2 (by kernel_rfl)
     simp only [putAll, pz1, pz2, pz3, pz4, Act.put, pz5, pz6, pz7, d2] at hA
     clear hd d2
     obtain rfl := hA
     go_wp2
     exact hK.out _ brf
    apply grow_eq
    ·intro V W K A hW hd hA hK
     have d3 : V 3 = _ := hd 3 (by kernel_rfl)
     simp only [putAll, pz1, pz2, pz3, pz4, Act.put, pz5, pz6, pz7, d3] at hA
     clear hd d3
     obtain rfl := hA
     go_wp2
     exact hK.out _ brf
    apply grow_eq
    ·intro V W K A hW hd hA hK
     have d4 : V 4 = _ := hd 4 (by kernel_rfl)
     simp only [putAll, pz1, pz2, pz3, pz4, Act.put, pz5, pz6, pz7, d4] at hA
     clear hd d4
     obtain rfl := hA
     have e0 := blk_cell (below_blk hW HGa.out hga) 0 rfl
     go_wp2
     exact hK.out _ brf
    apply grow_eq
    ·intro V W K A hW hd hA hK
     simp only [putAll, pz1, pz2, pz3, pz4, Act.put, pz5, pz6, pz7] at hA
     clear hd
     obtain rfl := hA
     go_wp2
     exact hK.out _ brf
    apply grow_eq
    ·intro V W K A hW hd hA hK
     have d6 : V 6 = _ := hd 6 (by kernel_rfl)
     simp only [putAll, pz1, pz2, pz3, pz4, Act.put, pz5, pz6, pz7, d6] at hA
     clear hd d6
     obtain rfl := hA
     have t0 := blk_cell (below_blk hW T0.out hta) 0 rfl
     go_wp2
     exact hK.out _ brf
    apply grow_eq
    ·intro V W K A hW hd hA hK
     have d5 : V 5 = _ := hd 5 (by kernel_rfl)
     have d7 : V 7 = _ := hd 7 (by kernel_rfl)
     simp only [putAll, pz1, pz2, pz3, pz4, Act.put, pz5, pz6, pz7, d5, d7] at hA
     clear hd d5 d7
     obtain rfl := hA
     go_wp2
     exact hK.out _ brf
    apply grow_eq
    ·intro V W K A hW hd hA hK
     have d0 : V 0 = _ := hd 0 (by kernel_rfl)
     have d8 : V 8 = _ := hd 8 (by kernel_rfl)
     simp only [putAll, pz1, pz2, pz3, pz4, Act.put, pz5, pz6, pz7, d0, d8] at hA
     clear hd d0 d8
     obtain rfl := hA
     obtain ⟨n, D, hn, hown2, q1, q2⟩ := HCa.out.belowO hW
     have HH : Hid (Maps.has D (nkey A.service en.number) = false) := q1 A.service en.number hsv HWF.out HFN.out
     have HA : Hid (D.atKey (nkey A.service en.number) (.lit (.int .i64 0)) = .lit (.int .i64 0)) := atKey_of_not_has HH.out _
     clear q1 q2
     go_wp2_with (at_lookup; refine wpList_lookup_is _ rfl (.tmp 46) (.tmp 54) 273 rfl 276 3 .i64 numLaw Tryz.underlying273 Tryz.underlying3 (zeroInt _) m n D rfl hown2 _ _ rfl (nkey_ok A.service en.number HWF.out hsv) 0 false HA.out HH.out ?_)
     exact hK.out _ brf
    apply grow_eq
    ·intro V W K A hW hd hA hK
     have d9 : V 9 = _ := hd 9 (by kernel_rfl)
     simp only [putAll, pz1, pz2, pz3, pz4, Act.put, pz5, pz6, pz7, d9] at hA
     clear hd d9
     obtain rfl := hA
     go_wp2
     exact hK.out _ brf
    apply grow_eq
    ·intro V W K A hW hd hA hK
     have d10 : V 10 = _ := hd 10 (by kernel_rfl)
     simp only [putAll, pz1, pz2, pz3, pz4, Act.put, pz5, pz6, pz7, d10] at hA
     clear hd d10
     obtain rfl := hA
     go_wp2
     exact hK.out _ brf
    apply grow_eq
    ·intro V W K A hW hd hA hK
     have d10 : V 10 = _ := hd 10 (by kernel_rfl)
     simp only [putAll, pz1, pz2, pz3, pz4, Act.put, pz5, pz6, pz7, d10] at hA
     clear hd d10
     obtain rfl := hA
     go_wp2
     exact hK.out _ brf
    apply grow_eq
    ·intro V W K A hW hd hA hK
     have d11 : V 11 = _ := hd 11 (by kernel_rfl)
     simp only [putAll, pz1, pz2, pz3, pz4, Act.put, pz5, pz6, pz7, d11] at hA
     clear hd d11
     obtain rfl := hA
     go_wp2
     exact hK.out _ brf
    intro V W A hW hS hA
    have d0 : V 0 = _ := hS 0 (by omega)
    have d1 : V 1 = _ := hS 1 (by omega)
    have d2 : V 2 = _ := hS 2 (by omega)
    have d3 : V 3 = _ := hS 3 (by omega)
    have d4 : V 4 = _ := hS 4 (by omega)
    have d5 : V 5 = _ := hS 5 (by omega)
    have d6 : V 6 = _ := hS 6 (by omega)
    have d7 : V 7 = _ := hS 7 (by omega)
    have d8 : V 8 = _ := hS 8 (by omega)
    have d9 : V 9 = _ := hS 9 (by omega)
    have d10 : V 10 = _ := hS 10 (by omega)
    have d11 : V 11 = _ := hS 11 (by omega)
    have d12 : V 12 = _ := hS 12 (by omega)
    have d13 : V 13 = _ := hS 13 (by omega)
    simp only [putAll, pz1, pz2, pz3, pz4, Act.put, pz5, pz6, pz7, d0, d1, d2, d3, d4, d5, d6, d7, d8, d9, d10, d11, d12, d13] at hA
    clear hS d0 d1 d2 d3 d4 d5 d6 d7 d8 d9 d10 d11 d12 d13
    obtain rfl := hA
    simp only [List.drop_succ_cons, List.drop_zero]
    clear HWF HEN HALL
    go_wp2_with (go_at_call 167; refine (insist_no 3 _).mono ?_; rintro e w2 ⟨rfl, rfl⟩)
    exact ⟨rfl, .inr ⟨.inr HNO.out, rfl⟩, hbl.trans (hW.mono hNa)⟩
   | some c =>
    obtain ⟨ic, hic, hidc⟩ : ∃ i : Nat, X.cps[i]? = some c ∧ idxC X.cps A.service en.number = (i : Int) := idxOf_find hf
    have hiclt : ic < X.cps.length := (List.getElem?_eq_some_iff.1 hic).1
    have HIC : Hid _ := hic
    have HID : Hid _ := hidc
    have HCN : Hid _ := isC_iff.1 (List.find?_some hf)
    have HIN : Hid (endIn X A en = true) := by unfold Hid endIn; rw [hf]; rfl
    clear hf hic hidc
    go_upto_region 7 with fail
    clear hwa q0 q1
    refine wp_region_grows 14 (by kernel_rfl) (by kernel_rfl) ?_
    apply grow_eq
    ·intro V W K A hW hd hA hK
     simp only [putAll, pz1, pz2, pz3, pz4, Act.put, pz5, pz6, pz7] at hA
     clear hd
     obtain rfl := hA
     go_wp2
     exact hK.out _ brf
    apply grow_eq
    ·intro V W K A hW hd hA hK
     simp only [putAll, pz1, pz2, pz3, pz4, Act.put, pz5, pz6, pz7] at hA
     clear hd
     obtain rfl := hA
     go_wp2
     exact hK.out _ brf
    apply grow_eq
    ·intro V W K A hW hd hA hK
     have d1 : V 1 = _ := hd 1 (by kernel_rfl)
     simp only [putAll, pz1, pz2, pz3, pz4, Act.put, pz5, pz6, pz7, d1] at hA
     clear hd d1
     obtain rfl := hA
     go_wp2
     exact hK.out _ brf
    apply grow_eq
    ·intro V W K A hW hd hA hK
     have d2 : V 2 = _ := hd 2 (by kernel_rfl)
     simp only [putAll, pz1, pz2, pz3, pz4, Act.put, pz5, pz6, pz7, d2] at hA
     clear hd d2
     obtain rfl := hA
     go_wp2
     exact hK.out _ brf
    apply grow_eq
    ·intro V W K A hW hd hA hK
     have d3 : V 3 = _ := hd 3 (by kernel_rfl)
     simp only [putAll, pz1, pz2, pz3, pz4, Act.put, pz5, pz6, pz7, d3] at hA
     clear hd d3
     obtain rfl := hA
     go_wp2
     exact hK.out _ brf
    apply grow_eq
    ·intro V W K A hW hd hA hK
     have d4 : V 4 = _ := hd 4 (by kernel_rfl)
     simp only [putAll, pz1, pz2, pz3, pz4, Act.put, pz5, pz6, pz7, d4] at hA
     clear hd d4
     obtain rfl := hA
     have e0 := blk_cell (below_blk hW HGa.out hga) 0 rfl
     go_wp2
     exact hK.out _ brf
    apply grow_eq
    ·intro V W K A hW hd hA hK
     simp only [putAll, pz1, pz2, pz3, pz4, Act.put, pz5, pz6, pz7] at hA
     clear hd
     obtain rfl := hA
     go_wp2
     exact hK.out _ brf
    apply grow_eq
    ·intro V W K A hW hd hA hK
     have d6 : V 6 = _ := hd 6 (by kernel_rfl)
     simp only [putAll, pz1, pz2, pz3, pz4, Act.put, pz5, pz6, pz7, d6] at hA
     clear hd d6
     obtain rfl := hA
     have t0 := blk_cell (below_blk hW T0.out hta) 0 rfl
     go_wp2
     exact hK.out _ brf
    apply grow_eq
    ·intro V W K A hW hd hA hK
     have d5 : V 5 = _ := hd 5 (by kernel_rfl)
     have d7 : V 7 = _ := hd 7 (by kernel_rfl)
     simp only [putAll, pz1, pz2, pz3, pz4, Act.put, pz5, pz6, pz7, d5, d7] at hA
     clear hd d5 d7
     obtain rfl := hA
     go_wp2
     exact hK.out _ brf
    apply grow_eq
    ·intro V W K A hW hd hA hK
     have d0 : V 0 = _ := hd 0 (by kernel_rfl)
     have d8 : V 8 = _ := hd 8 (by kernel_rfl)
     simp only [putAll, pz1, pz2, pz3, pz4, Act.put, pz5, pz6, pz7, d0, d8] at hA
     clear hd d0 d8
     obtain rfl := hA
     obtain ⟨n, D, hn, hown2, q1, q2⟩ := HCa.out.belowO hW
     have q2' := q2 ic c hiclt HIC.out
     rw [HCN.out.1, HCN.out.2] at q2'
     have HH : Hid (Maps.has D (nkey A.service en.number) = true) := q2'.1
     have HA : Hid (D.atKey (nkey A.service en.number) (.lit (.int .i64 0)) = .lit (.int .i64 (ic : Int))) := q2'.2
     clear q1 q2 q2'
     go_wp2_with (at_lookup; refine wpList_lookup_is _ rfl (.tmp 46) (.tmp 54) 273 rfl 276 3 .i64 numLaw Tryz.underlying273 Tryz.underlying3 (zeroInt _) m n D rfl hown2 _ _ rfl (nkey_ok A.service en.number HWF.out hsv) (ic : Int) true HA.out HH.out ?_)
     exact hK.out _ brf
    apply grow_eq
    ·intro V W K A hW hd hA hK
     have d9 : V 9 = _ := hd 9 (by kernel_rfl)
     simp only [putAll, pz1, pz2, pz3, pz4, Act.put, pz5, pz6, pz7, d9] at hA
     clear hd d9
     obtain rfl := hA
     go_wp2
     exact hK.out _ brf
    apply grow_eq
    ·intro V W K A hW hd hA hK
     have d10 : V 10 = _ := hd 10 (by kernel_rfl)
     simp only [putAll, pz1, pz2, pz3, pz4, Act.put, pz5, pz6, pz7, d10] at hA
     clear hd d10
     obtain rfl := hA
     go_wp2
     exact hK.out _ brf
    apply grow_eq
    ·intro V W K A hW hd hA hK
     have d10 : V 10 = _ := hd 10 (by kernel_rfl)
     simp only [putAll, pz1, pz2, pz3, pz4, Act.put, pz5, pz6, pz7, d10] at hA
     clear hd d10
     obtain rfl := hA
     go_wp2
     exact hK.out _ brf
    apply grow_eq
    ·intro V W K A hW hd hA hK
     have d11 : V 11 = _ := hd 11 (by kernel_rfl)
     simp only [putAll, pz1, pz2, pz3, pz4, Act.put, pz5, pz6, pz7, d11] at hA
     clear hd d11
     obtain rfl := hA
     go_wp2
     exact hK.out _ brf
    intro V W A hW hS hA
    have d0 : V 0 = _ := hS 0 (by omega)
    have d1 : V 1 = _ := hS 1 (by omega)
    have d2 : V 2 = _ := hS 2 (by omega)
    have d3 : V 3 = _ := hS 3 (by omega)
    have d4 : V 4 = _ := hS 4 (by omega)
    have d5 : V 5 = _ := hS 5 (by omega)
    have d6 : V 6 = _ := hS 6 (by omega)
    have d7 : V 7 = _ := hS 7 (by omega)
    have d8 : V 8 = _ := hS 8 (by omega)
    have d9 : V 9 = _ := hS 9 (by omega)
    have d10 : V 10 = _ := hS 10 (by omega)
    have d11 : V 11 = _ := hS 11 (by omega)
    have d12 : V 12 = _ := hS 12 (by omega)
    have d13 : V 13 = _ := hS 13 (by omega)
    simp only [putAll, pz1, pz2, pz3, pz4, Act.put, pz5, pz6, pz7, d0, d1, d2, d3, d4, d5, d6, d7, d8, d9, d10, d11, d12, d13] at hA
    clear hS d0 d1 d2 d3 d4 d5 d6 d7 d8 d9 d10 d11 d12 d13
    obtain rfl := hA
    simp only [List.drop_succ_cons, List.drop_zero]
    have HGW : Hid _ := below_blk hW HGa.out hga
    have HBW := hidBkOf (HBa.out.below hW)
    have HEW : Hid (W.ownsRow N 3 1 ve j (intsV ((idxL X A).take j))) := ownO_below HEa.out hW
    have HCW : Hid (CopiesAt W m X X.cps.length) := HCa.out.belowO hW
    have hbW := hbl.trans (hW.mono hNa)
    have hNW : N ≤ W.heap.size := Nat.le_trans hNa hW.size
    clear HGa HBa HEa HCa hga hta hNa hbl hW T0
    have e13 := blk_cell HGW.out 13 rfl
    go_wp2_with (first
     | (go_at_call 167; refine (insist_yes 3 _).mono ?_; rintro e w2 ⟨rfl, rfl⟩)
     | (at_builtin; refine wpList_append_keep rfl (.tmp 64) (.tmp 66) 63 rfl N 3 _ 1 8 Tryz.underlying63 Tryz.infoIntO rfl (by omega) ve j _ rfl (ownO_below HEW.out (below_box W _)) ⟨W.heap.size, 0, none⟩ 1 [.int .i64 (ic : Int)] rfl rfl (news_row (heap_alloc_new W _)) (fun u hu => by simp at hu; subst hu; rfl) (by unfold maxLen; omega) (by omega) (Nat.le_trans hNW (below_box W _).size) ?_; intro ge cap w3 hge hown3 hb3 hk3; have HKP : Hid (KeepT 3 W w3) := (KeepT.of_below (below_box W _)).trans hk3; have HBP : Hid (Below N W w3) := ((below_box W _).mono hNW).trans hb3; have HG3 : Hid _ := HKP.out.blk HGW.out (by decide); clear e13 hk3 hb3)
     | ((with_reducible show wpList _ _ _ _ _ _); refine wpList_store_one rfl 63 (.tmp 69) (.tmp 67) rfl g 13 (.slice (some ⟨ge, 0, none⟩) (j + 1) cap) rfl rfl Tryz.infosIntsO rfl rfl 222 #[.string A.service, .int .i64 A.seen, .int .i64 A.create, .int .i64 A.want, .int .i64 A.cool, .bool A.scale, .slice (some ⟨b, off, none⟩) A.ends.length ce, .bool A.drop, .int .i64 X.now, .slice b1 X.svcs.length d1, .slice b2 X.cps.length d2, .slice b3 X.bts.length d3, .int .i64 (k : Int), ve] HG3.out (Nat.le_of_ble_eq_true rfl) ?_; intro w4 hz on; have HG4 : Hid (w4.heap[g]? = some (.cells #[.string A.service, .int .i64 A.seen, .int .i64 A.create, .int .i64 A.want, .int .i64 A.cool, .bool A.scale, .slice (some ⟨b, off, none⟩) A.ends.length ce, .bool A.drop, .int .i64 X.now, .slice b1 X.svcs.length d1, .slice b2 X.cps.length d2, .slice b3 X.bts.length d3, .int .i64 (k : Int), .slice (some ⟨ge, 0, none⟩) (j + 1) cap] 222 (0, 0))) := hz; have HO4 : Hid (Only g w3 w4) := on; clear hz on))
    go_roundw
    case rel =>
     have k4 : KeepT 222 w3 w4 := .of_only HO4.out HG3.out
     have hlen : ((idxL X A).take (j + 1)).length = j + 1 := by rw [List.length_take, idxL_len]; omega
     refine ⟨j + 1, hlt, by go_num, ⟨b1, b2, b3, d1, d2, d3, _, hNg, HG4.out, ?_, ?_⟩, (HCW.out.keep HKP.out).keep k4, ?_, hbW.trans (HBP.out.trans (HO4.out.below.mono hNg))⟩
     ·have hB := HBW.out
      exact ⟨k4.rowN (HKP.out.rowN hB.svcs (by decide)) (by decide), k4.rowN (HKP.out.rowN hB.cps (by decide)) (by decide), k4.rowN (HKP.out.rowN hB.bts (by decide)) (by decide)⟩
     ·rw [hlen, idxL_take HEN.out HID.out]
      exact k4.own hown3.out (by decide)
     ·intro i e hi he
      by_cases hij : i = j
      ·subst hij
       have := HEN.out
       rw [he] at this
       obtain rfl := Option.some.inj this
       exact HIN.out
      ·exact HALL.out i e (by omega) he
    case measure => simp [intOf]; omega
  ·have hje : j = A.ends.length := by omega
   subst hje
   go_wp2
   go_end0
   refine ⟨.inl ⟨k, s, HK.out, HF.out, List.all_eq_true.2 fun e he => ?_, rfl, ?_⟩, hb⟩
   ·obtain ⟨i, hi, hie⟩ := List.getElem_of_mem he
    exact HALL.out i e hi (by rw [List.getElem?_eq_getElem hi, hie])
   ·have := HWR.out
    rwa [List.take_of_length_le (by rw [idxL_len]; exact Nat.le_refl _)] at this
theorem find_any (A : Ac) (ae : Option Addr) (ce : Nat) (X : Bk) (N g : Nat) (w : World) (hnum : Hid (∀ e ∈ A.ends, (Lit.int .i64 e.number).wf = true)) (hl : A.ends.length ≤ 1048576) (HE : Hid (∀ W, Below N w W → SlE W ae A.ends)) (hV : Valid X) (hS : X.small) (hZ : X.sized) (hsv : A.service.size ≤ maxLen) (hN : N ≤ w.heap.size) (hSt : WkAt w N g A ae ce X 0 []) :
  Calls Tryz.prog 169 #[.pointer (some ⟨g, 0, none⟩)] w fun e w' => FindIs N g A ae ce X e w' ∧ Below N w w' := by
 cases hf : svcOf X A.service with
 | none => exact find_none A ae ce X N g w hf hV hS hZ hsv hN hSt
 | some s =>
  obtain ⟨k, _, hk, hnm⟩ := svcOf_some hf
  exact find_some A ae ce X N g w s k hk hnm hf hnum hl HE hV hS hZ hsv hN hSt
end Go.Proofs.YtbceafpodamnfabGreatDoor
