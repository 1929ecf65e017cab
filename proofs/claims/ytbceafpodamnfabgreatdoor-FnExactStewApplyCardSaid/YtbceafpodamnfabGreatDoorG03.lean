/-
  My own: Ws, Wt, Wu, Wv.
-/
import Derived.Test.YtbceafpodamnfabGreatDoorG02
set_option linter.unusedVariables false
set_option linter.unusedSimpArgs false
namespace Go.Proofs.YtbceafpodamnfabGreatDoor
open Go.RowKit Go.Sort Go.Maps
theorem same_name {a b : ByteArray} : (a.toList == b.toList) = true ↔ a = b := by
 rw [beq_iff_eq, ByteArray.toList_eq, ByteArray.toList_eq]
 constructor
 ·intro h
  cases a; cases b
  simp only [ByteArray.mk.injEq]
  exact Array.toList_inj.1 h
 ·intro h; rw [h]
theorem has_berth {D : DataW Unit} {B : Bk} {x : ByteArray} (hx : x.size ≤ maxLen)
  (h3 : ∀ x : ByteArray, x.size ≤ maxLen → (∀ (i : Nat) s, i < B.bts.length → B.bts[i]? = some s → s.name ≠ x) → Maps.has D (key 2 x) = false)
  (h4 : ∀ (i : Nat) s, i < B.bts.length → B.bts[i]? = some s → Maps.has D (key 2 s.name) = true) : Maps.has D (key 2 x) = B.bts.any fun b => b.name.toList == x.toList := by
 cases h : B.bts.any fun b => b.name.toList == x.toList with
 | true =>
  obtain ⟨s, hs, he⟩ := List.any_eq_true.1 h
  obtain ⟨i, hi, rfl⟩ := List.mem_iff_getElem.1 hs
  have e := same_name.1 he
  rw [← e]
  exact h4 i _ hi (List.getElem?_eq_getElem hi)
 | false =>
  rw [List.any_eq_false] at h
  exact h3 x hx fun i s hi hs e => h s (List.mem_of_getElem? hs) (same_name.2 e)
theorem svcOf_none {B : Bk} {x : ByteArray} (h : svcOf B x = none) : ∀ (i : Nat) s, i < B.svcs.length → B.svcs[i]? = some s → s.name ≠ x := fun i s _ hs e => by
 unfold svcOf at h
 rw [List.find?_eq_none] at h
 exact h s (List.mem_of_getElem? hs) (same_name.2 e)
theorem svcOf_some {B : Bk} {x : ByteArray} {s : Svc} (h : svcOf B x = some s) : ∃ i : Nat, i < B.svcs.length ∧ B.svcs[i]? = some s ∧ s.name = x := by
 unfold svcOf at h
 obtain ⟨i, hi, _⟩ := idxOf_find h
 exact ⟨i, (List.getElem?_eq_some_iff.1 hi).1, hi, same_name.1 (List.find?_some (p := fun s : Svc => s.name.toList == x.toList) h)⟩
set_option maxHeartbeats 1000000 in
theorem berthFits_any (B : Bk) (c : Cp) (b : Nat) (w : World) (hc : c.berth.size ≤ maxLen) (hP : PlacesAt w b B B.svcs.length B.bts.length) :
  Calls Tryz.prog 165 #[.agg #[.string c.service, .int .i64 c.number, .int .i64 c.version, .int .i64 c.image, .int .i64 c.state, .bool c.ending, .string c.berth], .map (some b)] w fun e w' => e = .returned (.bool (berthOk B.bts c)) ∧ Below w.heap.size w w' := by
 by_cases h5 : c.state = 1
 ·have H5 : Hid (c.state = 1) := h5
  have h5' : (c.state == 1) = true := by simp [h5]
  clear h5
  go_enter Tryz.func165, Tryz.ntmps165
  go_wp2
  go_ret
  exact ⟨ret_bool (by simp [berthOk, H5.out]), below_box _ _⟩
 ·have H5 : Hid (¬ c.state = 1) := h5
  have h5' : (c.state == 1) = false := by simp [h5]
  clear h5
  obtain ⟨n, D, hn, hown, h1, h2, h3, h4⟩ := hP
  have HB : Hid (Maps.has D (key 2 c.berth) = B.bts.any fun b => b.name.toList == c.berth.toList) := has_berth hc h3 h4
  clear h1 h2 h3 h4
  go_enter Tryz.func165, Tryz.ntmps165
  go_wp2_with (at_lookup; refine wpList_lookup_own_ok_int _ rfl (.tmp 14) (.tmp 17) 210 rfl 214 3 .i64 thingLaw Tryz.underlying210 Tryz.underlying3 (zeroInt _) b n D rfl (hown.alloc _) _ _ rfl (key_ok 2 c.berth wf2 hc) ?_; intro z hat hwz)
  go_ret
  exact ⟨ret_bool (by rw [HB.out]; simp [berthOk, H5.out]), below_box _ _⟩
end Go.Proofs.YtbceafpodamnfabGreatDoor

namespace Go.Proofs.YtbceafpodamnfabGreatDoor
open Go.RowKit Go.Sort Go.Maps
theorem wpList_lookup_is {H : Type} {P : Program} (w : World) {ops : Array Oper} {rest : List Oper} {o : Oper} {a : Act} {Q : Exit → Act → World → Prop} (hg : o.guard = none) (m x : Operand) (t : TypeId) (hop : o.op = Op.lookup t m x true)
  (k e : TypeId) (q : IntKind) (K : Keyed P k) (ht : P.underlying t = some (.map k e)) (he : P.underlying e = some (.int q)) (hz : (zeroValue e).run P w = .ok (.int q 0) w) (b n : Nat) (D : DataW H)
  (hm : a.eval m = .map (some b)) (hown : w.ownsMap P k (plainElem P e) b n D) (key : Value) (kl : Lit) (hx : a.eval x = key) (hkey : keyOf P k key = some kl)
  (c0 : Int) (bb : Bool) (hat : D.atKey kl (.lit (.int q 0)) = .lit (.int q c0)) (hhas : Maps.has D kl = bb)
  (hK : wpList P ops Q rest (a.put o.dst (.tuple #[.int q c0, .bool bb])) w) : wpList P ops Q (o :: rest) a w :=
 wpList_lookup_own_ok_int w hg m x t hop k e q K ht he hz b n D hm hown key kl hx hkey (fun c hc _ => by
  rw [hat] at hc
  have hcc : c0 = c := by simpa using hc
  subst hcc
  rw [hhas]
  exact hK)
set_option maxHeartbeats 16000000 in
theorem copiesHold_nil (B : Bk) (a1 a2 a3 : Option Addr) (c1 c2 c3 : Nat) (w : World) (hS : B.small) (hZ : B.sized) (hU : uniqS B) (hB : BkAt w a1 a2 a3 B) (hnil : B.svcs = []) :
  Calls Tryz.prog 105 #[.agg #[.int .i64 B.now, .slice a1 B.svcs.length c1, .slice a2 B.cps.length c2, .slice a3 B.bts.length c3]] w fun e w' => e = .returned (.bool (allTo (cpAtB B) B.cps.length)) ∧ Below w.heap.size w w' := by
 have HNIL : Hid (B.svcs = []) := hnil
 clear hnil
 have hS' := hS
 obtain ⟨hl1, hl2, hl3⟩ := hS'
 have T0 : Hid _ := heap_alloc_new w (.cells #[.int .i64 B.now, .slice a1 B.svcs.length c1, .slice a2 B.cps.length c2, .slice a3 B.bts.length c3] 36)
 have hb0 := below_box w (.cells #[.int .i64 B.now, .slice a1 B.svcs.length c1, .slice a2 B.cps.length c2, .slice a3 B.bts.length c3] 36)
 have hs0 : (w.alloc (.cells #[.int .i64 B.now, .slice a1 B.svcs.length c1, .slice a2 B.cps.length c2, .slice a3 B.bts.length c3] 36)).heap.size = w.heap.size + 1 := by show (w.heap.push _).size = _; simp
 have HS0 : Hid _ := hs0
 clear hs0
 go_enter Tryz.func105, Tryz.ntmps105
 go_wp2_with fail
 refine (placesIn_any B _ a2 a3 c1 c2 c3 _ hS hZ hU (hB.below hb0)).mono ?_
 rintro e w0 ⟨rfl, hpl0, hb1⟩
 rw [HS0.out] at hpl0 hb1
 rw [HS0.out]
 have hbb0 := hb0.trans (hb1.mono (by omega))
 have T0' : Hid _ := below_blk hb1 T0.out (by omega)
 have HP0 : Hid _ := hpl0
 have e2 := blk_cell T0'.out 2 rfl
 clear hpl0 hb1
 go_wp2
 clear e2
 go_loopw [13] (fun iv wr => ∃ k : Nat, k ≤ B.cps.length ∧ iv = .int .i64 k ∧ Below w.heap.size w wr ∧ Hid (wr.heap[w.heap.size]? = some (.cells #[.int .i64 B.now, .slice a1 B.svcs.length c1, .slice a2 B.cps.length c2, .slice a3 B.bts.length c3] 36 (0, 0))) ∧ Hid (PlacesAt wr (w.heap.size + 1 + 1) B B.svcs.length B.bts.length) ∧ Hid (∀ i, i < k → cpAtB B i = true)) (fun i _ => B.cps.length - (intOf i).toNat)
 case atStart => exact ⟨0, by omega, rfl, hbb0, T0', HP0, fun i hi => absurd hi (by omega)⟩
 case round =>
  clear hbb0 T0' HP0
  obtain ⟨k, hk, rfl, hb, hbox, hpl, hall⟩ := hrel
  have hNlt : w.heap.size + 1 + 1 < wr.heap.size := hpl.out.lt
  by_cases hlt : k < B.cps.length
  ·have hne : B.cps ≠ [] := by intro h; rw [h] at hlt; simp at hlt
   obtain ⟨b, off, ea, hbs, hat⟩ := hB.2.1 hne
   subst ea
   obtain ⟨s, hsk⟩ : ∃ s, B.cps[k]? = some s := ⟨B.cps[k], by simp [hlt]⟩
   have hmem := hZ.2.2.2.2.1 s (List.mem_of_getElem? hsk)
   have HSK : Hid _ := hsk
   have hcs := (hat k s hsk).below hb hbs
   unfold CpAt at hcs
   obtain ⟨x0, x1, x2, x3, x4, x5, x6⟩ := hcs
   have hbr : Below w.heap.size w (wr.alloc (.cells #[.string s.service, .int .i64 s.number, .int .i64 s.version, .int .i64 s.image, .int .i64 s.state, .bool s.ending, .string s.berth] 149)) := hb.alloc hb.size _
   have HSZ : Hid ((wr.alloc (.cells #[.string s.service, .int .i64 s.number, .int .i64 s.version, .int .i64 s.image, .int .i64 s.state, .bool s.ending, .string s.berth] 149)).heap.size = wr.heap.size + 1) := by show (wr.heap.push _).size = _; simp
   have HBX : Hid _ := heap_alloc_new wr (.cells #[.string s.service, .int .i64 s.number, .int .i64 s.version, .int .i64 s.image, .int .i64 s.state, .bool s.ending, .string s.berth] 149)
   have hw1 := below_box wr (.cells #[.string s.service, .int .i64 s.number, .int .i64 s.version, .int .i64 s.image, .int .i64 s.state, .bool s.ending, .string s.berth] 149)
   have hboxr : Hid _ := below_blk hw1 hbox.out (by omega)
   have hplr : Hid (PlacesAt (wr.alloc (.cells #[.string s.service, .int .i64 s.number, .int .i64 s.version, .int .i64 s.image, .int .i64 s.state, .bool s.ending, .string s.berth] 149)) (w.heap.size + 1 + 1) B B.svcs.length B.bts.length) := hpl.out.below hw1 hNlt
   clear hsk
   by_cases hk0 : k = 0
   ·have HK0 : Hid (k = 0) := hk0
    have hz : decide (0 < k) = false := by simp; omega
    clear hk0 hat hne
    go_wp2
    clear x0 x1 x2 x3 x4 x5 x6
    refine wp_region_quiet_below (by kernel_rfl) (by kernel_rfl) ?_
    repeat (first | go_big_quiet_step (fail) | quiet_step (fail))
    refine wpQuiet_nil ?_
    intro w2 hw'
    obtain ⟨⟨dq, osq⟩, hw''⟩ := hw'
    have hb2 : Below (wr.alloc (.cells #[.string s.service, .int .i64 s.number, .int .i64 s.version, .int .i64 s.image, .int .i64 s.state, .bool s.ending, .string s.berth] 149)).heap.size (wr.alloc (.cells #[.string s.service, .int .i64 s.number, .int .i64 s.version, .int .i64 s.image, .int .i64 s.state, .bool s.ending, .string s.berth] 149)) w2 := by rw [hw'']; exact below_regrown _ _ _
    clear hw''
    have hbr2 := hbr.trans (hb2.mono hbr.size)
    have bxr : Hid _ := below_blk hb2 HBX.out (by rw [HSZ.out]; omega)
    have box2 : Hid _ := below_blk hb2 hboxr.out (by rw [HSZ.out]; omega)
    have pl2 : Hid (PlacesAt w2 (w.heap.size + 1 + 1) B B.svcs.length B.bts.length) := hplr.out.below hb2 (by rw [HSZ.out]; omega)
    have hz2 : wr.heap.size < w2.heap.size := by have := hb2.size; rw [HSZ.out] at this; omega
    have r0 := blk_cell bxr.out 0 rfl
    obtain ⟨n, D, hn, hown2, h1, h2, h3, h4⟩ := pl2.out
    have H1 : Hid _ := h1
    have H2 : Hid _ := h2
    clear h1 h2 h3 h4
    have hf : svcOf B s.service = none := by unfold svcOf; rw [HNIL.out]; rfl
    have HNO : Hid (cpAtB B k = false) := by unfold Hid cpAtB; rw [HSK.out]; simp [cpB, hf]
    have HH : Hid (Maps.has D (key 1 s.service) = false) := H1.out s.service hmem.1 (svcOf_none hf)
    have HA : Hid (D.atKey (key 1 s.service) (.lit (.int .i64 0)) = .lit (.int .i64 0)) := atKey_of_not_has HH.out _
    go_wp2_with (at_lookup; refine wpList_lookup_is _ rfl (.tmp 32) (.tmp 35) 210 rfl 214 3 .i64 thingLaw Tryz.underlying210 Tryz.underlying3 (zeroInt _) (w.heap.size + 1 + 1) n D rfl hown2 _ _ rfl (key_ok 1 s.service wf1 hmem.1) 0 false HA.out HH.out ?_)
    refine wp_region_quiet_below (by kernel_rfl) (by kernel_rfl) ?_
    repeat (first | go_big_quiet_step (fail) | quiet_step (fail))
    refine wpQuiet_nil ?_
    intro w3 hw'
    obtain ⟨⟨dq, osq⟩, hw''⟩ := hw'
    have hb3 : Below w2.heap.size w2 w3 := by rw [hw'']; exact below_regrown _ _ _
    clear hw''
    go_wp2
    go_ret
    exact ⟨ret_bool (allTo_no hlt HNO.out).symm, hbr2.trans (hb3.mono hbr2.size)⟩
   obtain ⟨k', rfl⟩ : ∃ k', k = k' + 1 := ⟨k - 1, by omega⟩
   clear hk0
   obtain ⟨p, hpk⟩ : ∃ p, B.cps[k']? = some p := ⟨B.cps[k']'(by omega), by rw [List.getElem?_eq_getElem]⟩
   have HPK : Hid _ := hpk
   obtain ⟨y0, y1, y2, y3, y4, y5, y6⟩ := ((hat k' p hpk).below (hb.trans (hw1.mono hb.size)) hbs).grown
   have gx0 := gcell HBX.out 0 rfl
   have gx1 := gcell HBX.out 1 rfl
   have gx2 := gcell HBX.out 2 rfl
   have gx3 := gcell HBX.out 3 rfl
   have gx4 := gcell HBX.out 4 rfl
   have gx5 := gcell HBX.out 5 rfl
   have gx6 := gcell HBX.out 6 rfl
   have gb2 := gcell hboxr.out 2 rfl
   clear hpk hat hne
   cases hle : aheadB p s
   ·have HNO : Hid (cpAtB B (k' + 1) = false) := by unfold Hid cpAtB; rw [HSK.out]; simp [HPK.out, hle]
    go_wp2
    clear x0 x1 x2 x3 x4 x5 x6
    refine wp_region_quiet_below (by kernel_rfl) (by kernel_rfl) ?_
    repeat (first | go_big_quiet_step (exact Calls.regrown_of (copyAhead_any p s _)) | quiet_step (exact Calls.regrown_of (copyAhead_any p s _)))
    refine wpQuiet_nil ?_
    intro w2 hw'
    obtain ⟨⟨dq, osq⟩, hw''⟩ := hw'
    have hb2 : Below (wr.alloc (.cells #[.string s.service, .int .i64 s.number, .int .i64 s.version, .int .i64 s.image, .int .i64 s.state, .bool s.ending, .string s.berth] 149)).heap.size (wr.alloc (.cells #[.string s.service, .int .i64 s.number, .int .i64 s.version, .int .i64 s.image, .int .i64 s.state, .bool s.ending, .string s.berth] 149)) w2 := by rw [hw'']; exact below_regrown _ _ _
    clear hw''
    go_wp2
    go_ret
    exact ⟨ret_bool (allTo_no hlt HNO.out).symm, hbr.trans (hb2.mono hbr.size)⟩
   ·have HLE : Hid (aheadB p s = true) := hle
    go_wp2
    clear x0 x1 x2 x3 x4 x5 x6
    refine wp_region_quiet_below (by kernel_rfl) (by kernel_rfl) ?_
    repeat (first | go_big_quiet_step (exact Calls.regrown_of (copyAhead_any p s _)) | quiet_step (exact Calls.regrown_of (copyAhead_any p s _)))
    refine wpQuiet_nil ?_
    intro w2 hw'
    obtain ⟨⟨dq, osq⟩, hw''⟩ := hw'
    have hb2 : Below (wr.alloc (.cells #[.string s.service, .int .i64 s.number, .int .i64 s.version, .int .i64 s.image, .int .i64 s.state, .bool s.ending, .string s.berth] 149)).heap.size (wr.alloc (.cells #[.string s.service, .int .i64 s.number, .int .i64 s.version, .int .i64 s.image, .int .i64 s.state, .bool s.ending, .string s.berth] 149)) w2 := by rw [hw'']; exact below_regrown _ _ _
    clear hw''
    clear gx0 gx1 gx2 gx3 gx4 gx5 gx6 gb2 hle y0 y1 y2 y3 y4 y5 y6
    have hbr2 := hbr.trans (hb2.mono hbr.size)
    have bxr : Hid _ := below_blk hb2 HBX.out (by rw [HSZ.out]; omega)
    have box2 : Hid _ := below_blk hb2 hboxr.out (by rw [HSZ.out]; omega)
    have pl2 : Hid (PlacesAt w2 (w.heap.size + 1 + 1) B B.svcs.length B.bts.length) := hplr.out.below hb2 (by rw [HSZ.out]; omega)
    have hz2 : wr.heap.size < w2.heap.size := by have := hb2.size; rw [HSZ.out] at this; omega
    have r0 := blk_cell bxr.out 0 rfl
    obtain ⟨n, D, hn, hown2, h1, h2, h3, h4⟩ := pl2.out
    have H1 : Hid _ := h1
    have H2 : Hid _ := h2
    clear h1 h2 h3 h4
    have hf : svcOf B s.service = none := by unfold svcOf; rw [HNIL.out]; rfl
    have HNO : Hid (cpAtB B (k' + 1) = false) := by unfold Hid cpAtB; rw [HSK.out]; simp [cpB, hf]
    have HH : Hid (Maps.has D (key 1 s.service) = false) := H1.out s.service hmem.1 (svcOf_none hf)
    have HA : Hid (D.atKey (key 1 s.service) (.lit (.int .i64 0)) = .lit (.int .i64 0)) := atKey_of_not_has HH.out _
    go_wp2_with (at_lookup; refine wpList_lookup_is _ rfl (.tmp 32) (.tmp 35) 210 rfl 214 3 .i64 thingLaw Tryz.underlying210 Tryz.underlying3 (zeroInt _) (w.heap.size + 1 + 1) n D rfl hown2 _ _ rfl (key_ok 1 s.service wf1 hmem.1) 0 false HA.out HH.out ?_)
    refine wp_region_quiet_below (by kernel_rfl) (by kernel_rfl) ?_
    repeat (first | go_big_quiet_step (fail) | quiet_step (fail))
    refine wpQuiet_nil ?_
    intro w3 hw'
    obtain ⟨⟨dq, osq⟩, hw''⟩ := hw'
    have hb3 : Below w2.heap.size w2 w3 := by rw [hw'']; exact below_regrown _ _ _
    clear hw''
    go_wp2
    go_ret
    exact ⟨ret_bool (allTo_no hlt HNO.out).symm, hbr2.trans (hb3.mono hbr2.size)⟩
  ·go_wp2
   go_ret
   exact ⟨ret_bool (allTo_yes fun i hi => hall.out i (by omega)).symm, hb⟩
end Go.Proofs.YtbceafpodamnfabGreatDoor

namespace Go.Proofs.YtbceafpodamnfabGreatDoor
open Go.RowKit Go.Sort Go.Maps
set_option maxHeartbeats 16000000 in
theorem copiesHold_cons (B : Bk) (a1 a2 a3 : Option Addr) (c1 c2 c3 : Nat) (w : World) (hS : B.small) (hZ : B.sized) (hU : uniqS B) (hB : BkAt w a1 a2 a3 B) (hne0 : B.svcs ≠ []) :
  Calls Tryz.prog 105 #[.agg #[.int .i64 B.now, .slice a1 B.svcs.length c1, .slice a2 B.cps.length c2, .slice a3 B.bts.length c3]] w fun e w' => e = .returned (.bool (allTo (cpAtB B) B.cps.length)) ∧ Below w.heap.size w w' := by
 obtain ⟨bS, offS, eS, hbsS, hatS⟩ := hB.1 hne0
 subst eS
 have hS' := hS
 obtain ⟨hl1, hl2, hl3⟩ := hS'
 have T0 : Hid _ := heap_alloc_new w (.cells #[.int .i64 B.now, .slice (some ⟨bS, offS, none⟩) B.svcs.length c1, .slice a2 B.cps.length c2, .slice a3 B.bts.length c3] 36)
 have hb0 := below_box w (.cells #[.int .i64 B.now, .slice (some ⟨bS, offS, none⟩) B.svcs.length c1, .slice a2 B.cps.length c2, .slice a3 B.bts.length c3] 36)
 have hs0 : (w.alloc (.cells #[.int .i64 B.now, .slice (some ⟨bS, offS, none⟩) B.svcs.length c1, .slice a2 B.cps.length c2, .slice a3 B.bts.length c3] 36)).heap.size = w.heap.size + 1 := by show (w.heap.push _).size = _; simp
 have HS0 : Hid _ := hs0
 clear hs0
 go_enter Tryz.func105, Tryz.ntmps105
 go_wp2_with fail
 refine (placesIn_any B _ a2 a3 c1 c2 c3 _ hS hZ hU (hB.below hb0)).mono ?_
 rintro e w0 ⟨rfl, hpl0, hb1⟩
 rw [HS0.out] at hpl0 hb1
 rw [HS0.out]
 have hbb0 := hb0.trans (hb1.mono (by omega))
 have T0' : Hid _ := below_blk hb1 T0.out (by omega)
 have HP0 : Hid _ := hpl0
 have e2 := blk_cell T0'.out 2 rfl
 clear hpl0 hb1
 go_wp2
 clear e2
 go_loopw [13] (fun iv wr => ∃ k : Nat, k ≤ B.cps.length ∧ iv = .int .i64 k ∧ Below w.heap.size w wr ∧ Hid (wr.heap[w.heap.size]? = some (.cells #[.int .i64 B.now, .slice (some ⟨bS, offS, none⟩) B.svcs.length c1, .slice a2 B.cps.length c2, .slice a3 B.bts.length c3] 36 (0, 0))) ∧ Hid (PlacesAt wr (w.heap.size + 1 + 1) B B.svcs.length B.bts.length) ∧ Hid (∀ i, i < k → cpAtB B i = true)) (fun i _ => B.cps.length - (intOf i).toNat)
 case atStart => exact ⟨0, by omega, rfl, hbb0, T0', HP0, fun i hi => absurd hi (by omega)⟩
 case round =>
  clear hbb0 T0' HP0
  obtain ⟨k, hk, rfl, hb, hbox, hpl, hall⟩ := hrel
  have hNlt : w.heap.size + 1 + 1 < wr.heap.size := hpl.out.lt
  by_cases hlt : k < B.cps.length
  ·have hne : B.cps ≠ [] := by intro h; rw [h] at hlt; simp at hlt
   obtain ⟨b, off, ea, hbs, hat⟩ := hB.2.1 hne
   subst ea
   obtain ⟨s, hsk⟩ : ∃ s, B.cps[k]? = some s := ⟨B.cps[k], by simp [hlt]⟩
   have hmem := hZ.2.2.2.2.1 s (List.mem_of_getElem? hsk)
   have HSK : Hid _ := hsk
   have hcs := (hat k s hsk).below hb hbs
   unfold CpAt at hcs
   obtain ⟨x0, x1, x2, x3, x4, x5, x6⟩ := hcs
   have hbr : Below w.heap.size w (wr.alloc (.cells #[.string s.service, .int .i64 s.number, .int .i64 s.version, .int .i64 s.image, .int .i64 s.state, .bool s.ending, .string s.berth] 149)) := hb.alloc hb.size _
   have HSZ : Hid ((wr.alloc (.cells #[.string s.service, .int .i64 s.number, .int .i64 s.version, .int .i64 s.image, .int .i64 s.state, .bool s.ending, .string s.berth] 149)).heap.size = wr.heap.size + 1) := by show (wr.heap.push _).size = _; simp
   have HBX : Hid _ := heap_alloc_new wr (.cells #[.string s.service, .int .i64 s.number, .int .i64 s.version, .int .i64 s.image, .int .i64 s.state, .bool s.ending, .string s.berth] 149)
   have hw1 := below_box wr (.cells #[.string s.service, .int .i64 s.number, .int .i64 s.version, .int .i64 s.image, .int .i64 s.state, .bool s.ending, .string s.berth] 149)
   have hboxr : Hid _ := below_blk hw1 hbox.out (by omega)
   have hplr : Hid (PlacesAt (wr.alloc (.cells #[.string s.service, .int .i64 s.number, .int .i64 s.version, .int .i64 s.image, .int .i64 s.state, .bool s.ending, .string s.berth] 149)) (w.heap.size + 1 + 1) B B.svcs.length B.bts.length) := hpl.out.below hw1 hNlt
   clear hsk
   by_cases hk0 : k = 0
   ·have HK0 : Hid (k = 0) := hk0
    have hz : decide (0 < k) = false := by simp; omega
    clear hk0 hat hne
    go_wp2
    clear x0 x1 x2 x3 x4 x5 x6
    refine wp_region_quiet_below (by kernel_rfl) (by kernel_rfl) ?_
    repeat (first | go_big_quiet_step (fail) | quiet_step (fail))
    refine wpQuiet_nil ?_
    intro w2 hw'
    obtain ⟨⟨dq, osq⟩, hw''⟩ := hw'
    have hb2 : Below (wr.alloc (.cells #[.string s.service, .int .i64 s.number, .int .i64 s.version, .int .i64 s.image, .int .i64 s.state, .bool s.ending, .string s.berth] 149)).heap.size (wr.alloc (.cells #[.string s.service, .int .i64 s.number, .int .i64 s.version, .int .i64 s.image, .int .i64 s.state, .bool s.ending, .string s.berth] 149)) w2 := by rw [hw'']; exact below_regrown _ _ _
    clear hw''
    have hbr2 := hbr.trans (hb2.mono hbr.size)
    have bxr : Hid _ := below_blk hb2 HBX.out (by rw [HSZ.out]; omega)
    have box2 : Hid _ := below_blk hb2 hboxr.out (by rw [HSZ.out]; omega)
    have pl2 : Hid (PlacesAt w2 (w.heap.size + 1 + 1) B B.svcs.length B.bts.length) := hplr.out.below hb2 (by rw [HSZ.out]; omega)
    have hz2 : wr.heap.size < w2.heap.size := by have := hb2.size; rw [HSZ.out] at this; omega
    have r0 := blk_cell bxr.out 0 rfl
    obtain ⟨n, D, hn, hown2, h1, h2, h3, h4⟩ := pl2.out
    have H1 : Hid _ := h1
    have H2 : Hid _ := h2
    clear h1 h2 h3 h4
    cases hf : svcOf B s.service with
    | none =>
     have HNO : Hid (cpAtB B k = false) := by unfold Hid cpAtB; rw [HSK.out]; simp [cpB, hf]
     have HH : Hid (Maps.has D (key 1 s.service) = false) := H1.out s.service hmem.1 (svcOf_none hf)
     have HA : Hid (D.atKey (key 1 s.service) (.lit (.int .i64 0)) = .lit (.int .i64 0)) := atKey_of_not_has HH.out _
     go_wp2_with (at_lookup; refine wpList_lookup_is _ rfl (.tmp 32) (.tmp 35) 210 rfl 214 3 .i64 thingLaw Tryz.underlying210 Tryz.underlying3 (zeroInt _) (w.heap.size + 1 + 1) n D rfl hown2 _ _ rfl (key_ok 1 s.service wf1 hmem.1) 0 false HA.out HH.out ?_)
     refine wp_region_quiet_below (by kernel_rfl) (by kernel_rfl) ?_
     repeat (first | go_big_quiet_step (fail) | quiet_step (fail))
     refine wpQuiet_nil ?_
     intro w3 hw'
     obtain ⟨⟨dq, osq⟩, hw''⟩ := hw'
     have hb3 : Below w2.heap.size w2 w3 := by rw [hw'']; exact below_regrown _ _ _
     clear hw''
     go_wp2
     go_ret
     exact ⟨ret_bool (allTo_no hlt HNO.out).symm, hbr2.trans (hb3.mono hbr2.size)⟩
    | some sv =>
     obtain ⟨i, hil, hi, hnm⟩ := svcOf_some hf
     have H2' := H2.out i sv hil hi
     rw [hnm] at H2'
     have HH : Hid (Maps.has D (key 1 s.service) = true) := H2'.1
     have HA : Hid (D.atKey (key 1 s.service) (.lit (.int .i64 0)) = .lit (.int .i64 (i : Int))) := H2'.2
     have HCP : Hid (cpB B s = (cpOk B.now sv s && berthOk B.bts s)) := by unfold Hid cpB; rw [hf]
     obtain ⟨z0, z1, z2, z3, z4, z5, z6, z7, z8, z9, z10, z11, z12⟩ := ((hatS i sv hi).below hbr2 hbsS).grown
     have g0 := gcell box2.out 0 rfl
     have g1 := gcell box2.out 1 rfl
     have m0 := gcell bxr.out 0 rfl
     have m1 := gcell bxr.out 1 rfl
     have m2 := gcell bxr.out 2 rfl
     have m3 := gcell bxr.out 3 rfl
     have m4 := gcell bxr.out 4 rfl
     have m5 := gcell bxr.out 5 rfl
     have m6 := gcell bxr.out 6 rfl
     clear hf H2' hnm hi
     cases hok : cpOk B.now sv s
     ·have HNO : Hid (cpAtB B k = false) := by unfold Hid cpAtB; rw [HSK.out]; simp [HCP.out, hok]
      go_wp2_with (at_lookup; refine wpList_lookup_is _ rfl (.tmp 32) (.tmp 35) 210 rfl 214 3 .i64 thingLaw Tryz.underlying210 Tryz.underlying3 (zeroInt _) (w.heap.size + 1 + 1) n D rfl hown2 _ _ rfl (key_ok 1 s.service wf1 hmem.1) (i : Int) true HA.out HH.out ?_)
      refine wp_region_quiet_below (by kernel_rfl) (by kernel_rfl) ?_
      repeat (first | go_big_quiet_step (first | exact Calls.regrown_of (copyHolds_any s sv B.now _) | exact Calls.regrown_of (berthFits_any B s (w.heap.size + 1 + 1) _ hmem.2 (pl2.out.below (below_regrown _ _ _) (by omega)))) | quiet_step (first | exact Calls.regrown_of (copyHolds_any s sv B.now _) | exact Calls.regrown_of (berthFits_any B s (w.heap.size + 1 + 1) _ hmem.2 (pl2.out.below (below_regrown _ _ _) (by omega)))))
      refine wpQuiet_nil ?_
      intro w3 hw'
      obtain ⟨⟨dq, osq⟩, hw''⟩ := hw'
      have hb3 : Below w2.heap.size w2 w3 := by rw [hw'']; exact below_regrown _ _ _
      clear hw''
      go_wp2
      go_ret
      exact ⟨ret_bool (allTo_no hlt HNO.out).symm, hbr2.trans (hb3.mono hbr2.size)⟩
     cases hbo : berthOk B.bts s
     ·have HNO : Hid (cpAtB B k = false) := by unfold Hid cpAtB; rw [HSK.out]; simp [HCP.out, hok, hbo]
      go_wp2_with (at_lookup; refine wpList_lookup_is _ rfl (.tmp 32) (.tmp 35) 210 rfl 214 3 .i64 thingLaw Tryz.underlying210 Tryz.underlying3 (zeroInt _) (w.heap.size + 1 + 1) n D rfl hown2 _ _ rfl (key_ok 1 s.service wf1 hmem.1) (i : Int) true HA.out HH.out ?_)
      refine wp_region_quiet_below (by kernel_rfl) (by kernel_rfl) ?_
      repeat (first | go_big_quiet_step (first | exact Calls.regrown_of (copyHolds_any s sv B.now _) | exact Calls.regrown_of (berthFits_any B s (w.heap.size + 1 + 1) _ hmem.2 (pl2.out.below (below_regrown _ _ _) (by omega)))) | quiet_step (first | exact Calls.regrown_of (copyHolds_any s sv B.now _) | exact Calls.regrown_of (berthFits_any B s (w.heap.size + 1 + 1) _ hmem.2 (pl2.out.below (below_regrown _ _ _) (by omega)))))
      refine wpQuiet_nil ?_
      intro w3 hw'
      obtain ⟨⟨dq, osq⟩, hw''⟩ := hw'
      have hb3 : Below w2.heap.size w2 w3 := by rw [hw'']; exact below_regrown _ _ _
      clear hw''
      go_wp2
      go_ret
      exact ⟨ret_bool (allTo_no hlt HNO.out).symm, hbr2.trans (hb3.mono hbr2.size)⟩
     have HYES : Hid (cpAtB B k = true) := by unfold Hid cpAtB; rw [HSK.out]; simp [HCP.out, hok, hbo, HK0.out]
     go_wp2_with (at_lookup; refine wpList_lookup_is _ rfl (.tmp 32) (.tmp 35) 210 rfl 214 3 .i64 thingLaw Tryz.underlying210 Tryz.underlying3 (zeroInt _) (w.heap.size + 1 + 1) n D rfl hown2 _ _ rfl (key_ok 1 s.service wf1 hmem.1) (i : Int) true HA.out HH.out ?_)
     refine wp_region_quiet_below (by kernel_rfl) (by kernel_rfl) ?_
     repeat (first | go_big_quiet_step (first | exact Calls.regrown_of (copyHolds_any s sv B.now _) | exact Calls.regrown_of (berthFits_any B s (w.heap.size + 1 + 1) _ hmem.2 (pl2.out.below (below_regrown _ _ _) (by omega)))) | quiet_step (first | exact Calls.regrown_of (copyHolds_any s sv B.now _) | exact Calls.regrown_of (berthFits_any B s (w.heap.size + 1 + 1) _ hmem.2 (pl2.out.below (below_regrown _ _ _) (by omega)))))
     refine wpQuiet_nil ?_
     intro w3 hw'
     obtain ⟨⟨dq, osq⟩, hw''⟩ := hw'
     have hb3 : Below w2.heap.size w2 w3 := by rw [hw'']; exact below_regrown _ _ _
     clear hw''
     have hb4 := hbr2.trans (hb3.mono hbr2.size)
     have box3 : Hid _ := below_blk hb3 box2.out (by omega)
     have pl3 : Hid (PlacesAt w3 (w.heap.size + 1 + 1) B B.svcs.length B.bts.length) := pl2.out.below hb3 (by omega)
     clear g0 g1 m0 m1 m2 m3 m4 m5 m6 z0 z1 z2 z3 z4 z5 z6 z7 z8 z9 z10 z11 z12
     go_wp2
     go_roundw
     case rel => exact ⟨k + 1, by omega, by go_num, hb4, box3, pl3, upTo_step hall.out HYES.out⟩
     case measure => simp [intOf]; omega
   obtain ⟨k', rfl⟩ : ∃ k', k = k' + 1 := ⟨k - 1, by omega⟩
   clear hk0
   obtain ⟨p, hpk⟩ : ∃ p, B.cps[k']? = some p := ⟨B.cps[k']'(by omega), by rw [List.getElem?_eq_getElem]⟩
   have HPK : Hid _ := hpk
   obtain ⟨y0, y1, y2, y3, y4, y5, y6⟩ := ((hat k' p hpk).below (hb.trans (hw1.mono hb.size)) hbs).grown
   have gx0 := gcell HBX.out 0 rfl
   have gx1 := gcell HBX.out 1 rfl
   have gx2 := gcell HBX.out 2 rfl
   have gx3 := gcell HBX.out 3 rfl
   have gx4 := gcell HBX.out 4 rfl
   have gx5 := gcell HBX.out 5 rfl
   have gx6 := gcell HBX.out 6 rfl
   have gb2 := gcell hboxr.out 2 rfl
   clear hpk hat hne
   cases hle : aheadB p s
   ·have HNO : Hid (cpAtB B (k' + 1) = false) := by unfold Hid cpAtB; rw [HSK.out]; simp [HPK.out, hle]
    go_wp2
    clear x0 x1 x2 x3 x4 x5 x6
    refine wp_region_quiet_below (by kernel_rfl) (by kernel_rfl) ?_
    repeat (first | go_big_quiet_step (exact Calls.regrown_of (copyAhead_any p s _)) | quiet_step (exact Calls.regrown_of (copyAhead_any p s _)))
    refine wpQuiet_nil ?_
    intro w2 hw'
    obtain ⟨⟨dq, osq⟩, hw''⟩ := hw'
    have hb2 : Below (wr.alloc (.cells #[.string s.service, .int .i64 s.number, .int .i64 s.version, .int .i64 s.image, .int .i64 s.state, .bool s.ending, .string s.berth] 149)).heap.size (wr.alloc (.cells #[.string s.service, .int .i64 s.number, .int .i64 s.version, .int .i64 s.image, .int .i64 s.state, .bool s.ending, .string s.berth] 149)) w2 := by rw [hw'']; exact below_regrown _ _ _
    clear hw''
    go_wp2
    go_ret
    exact ⟨ret_bool (allTo_no hlt HNO.out).symm, hbr.trans (hb2.mono hbr.size)⟩
   ·have HLE : Hid (aheadB p s = true) := hle
    go_wp2
    clear x0 x1 x2 x3 x4 x5 x6
    refine wp_region_quiet_below (by kernel_rfl) (by kernel_rfl) ?_
    repeat (first | go_big_quiet_step (exact Calls.regrown_of (copyAhead_any p s _)) | quiet_step (exact Calls.regrown_of (copyAhead_any p s _)))
    refine wpQuiet_nil ?_
    intro w2 hw'
    obtain ⟨⟨dq, osq⟩, hw''⟩ := hw'
    have hb2 : Below (wr.alloc (.cells #[.string s.service, .int .i64 s.number, .int .i64 s.version, .int .i64 s.image, .int .i64 s.state, .bool s.ending, .string s.berth] 149)).heap.size (wr.alloc (.cells #[.string s.service, .int .i64 s.number, .int .i64 s.version, .int .i64 s.image, .int .i64 s.state, .bool s.ending, .string s.berth] 149)) w2 := by rw [hw'']; exact below_regrown _ _ _
    clear hw''
    clear gx0 gx1 gx2 gx3 gx4 gx5 gx6 gb2 hle y0 y1 y2 y3 y4 y5 y6
    have hbr2 := hbr.trans (hb2.mono hbr.size)
    have bxr : Hid _ := below_blk hb2 HBX.out (by rw [HSZ.out]; omega)
    have box2 : Hid _ := below_blk hb2 hboxr.out (by rw [HSZ.out]; omega)
    have pl2 : Hid (PlacesAt w2 (w.heap.size + 1 + 1) B B.svcs.length B.bts.length) := hplr.out.below hb2 (by rw [HSZ.out]; omega)
    have hz2 : wr.heap.size < w2.heap.size := by have := hb2.size; rw [HSZ.out] at this; omega
    have r0 := blk_cell bxr.out 0 rfl
    obtain ⟨n, D, hn, hown2, h1, h2, h3, h4⟩ := pl2.out
    have H1 : Hid _ := h1
    have H2 : Hid _ := h2
    clear h1 h2 h3 h4
    cases hf : svcOf B s.service with
    | none =>
     have HNO : Hid (cpAtB B (k' + 1) = false) := by unfold Hid cpAtB; rw [HSK.out]; simp [cpB, hf]
     have HH : Hid (Maps.has D (key 1 s.service) = false) := H1.out s.service hmem.1 (svcOf_none hf)
     have HA : Hid (D.atKey (key 1 s.service) (.lit (.int .i64 0)) = .lit (.int .i64 0)) := atKey_of_not_has HH.out _
     go_wp2_with (at_lookup; refine wpList_lookup_is _ rfl (.tmp 32) (.tmp 35) 210 rfl 214 3 .i64 thingLaw Tryz.underlying210 Tryz.underlying3 (zeroInt _) (w.heap.size + 1 + 1) n D rfl hown2 _ _ rfl (key_ok 1 s.service wf1 hmem.1) 0 false HA.out HH.out ?_)
     refine wp_region_quiet_below (by kernel_rfl) (by kernel_rfl) ?_
     repeat (first | go_big_quiet_step (fail) | quiet_step (fail))
     refine wpQuiet_nil ?_
     intro w3 hw'
     obtain ⟨⟨dq, osq⟩, hw''⟩ := hw'
     have hb3 : Below w2.heap.size w2 w3 := by rw [hw'']; exact below_regrown _ _ _
     clear hw''
     go_wp2
     go_ret
     exact ⟨ret_bool (allTo_no hlt HNO.out).symm, hbr2.trans (hb3.mono hbr2.size)⟩
    | some sv =>
     obtain ⟨i, hil, hi, hnm⟩ := svcOf_some hf
     have H2' := H2.out i sv hil hi
     rw [hnm] at H2'
     have HH : Hid (Maps.has D (key 1 s.service) = true) := H2'.1
     have HA : Hid (D.atKey (key 1 s.service) (.lit (.int .i64 0)) = .lit (.int .i64 (i : Int))) := H2'.2
     have HCP : Hid (cpB B s = (cpOk B.now sv s && berthOk B.bts s)) := by unfold Hid cpB; rw [hf]
     obtain ⟨z0, z1, z2, z3, z4, z5, z6, z7, z8, z9, z10, z11, z12⟩ := ((hatS i sv hi).below hbr2 hbsS).grown
     have g0 := gcell box2.out 0 rfl
     have g1 := gcell box2.out 1 rfl
     have m0 := gcell bxr.out 0 rfl
     have m1 := gcell bxr.out 1 rfl
     have m2 := gcell bxr.out 2 rfl
     have m3 := gcell bxr.out 3 rfl
     have m4 := gcell bxr.out 4 rfl
     have m5 := gcell bxr.out 5 rfl
     have m6 := gcell bxr.out 6 rfl
     clear hf H2' hnm hi
     cases hok : cpOk B.now sv s
     ·have HNO : Hid (cpAtB B (k' + 1) = false) := by unfold Hid cpAtB; rw [HSK.out]; simp [HCP.out, hok]
      go_wp2_with (at_lookup; refine wpList_lookup_is _ rfl (.tmp 32) (.tmp 35) 210 rfl 214 3 .i64 thingLaw Tryz.underlying210 Tryz.underlying3 (zeroInt _) (w.heap.size + 1 + 1) n D rfl hown2 _ _ rfl (key_ok 1 s.service wf1 hmem.1) (i : Int) true HA.out HH.out ?_)
      refine wp_region_quiet_below (by kernel_rfl) (by kernel_rfl) ?_
      repeat (first | go_big_quiet_step (first | exact Calls.regrown_of (copyHolds_any s sv B.now _) | exact Calls.regrown_of (berthFits_any B s (w.heap.size + 1 + 1) _ hmem.2 (pl2.out.below (below_regrown _ _ _) (by omega)))) | quiet_step (first | exact Calls.regrown_of (copyHolds_any s sv B.now _) | exact Calls.regrown_of (berthFits_any B s (w.heap.size + 1 + 1) _ hmem.2 (pl2.out.below (below_regrown _ _ _) (by omega)))))
      refine wpQuiet_nil ?_
      intro w3 hw'
      obtain ⟨⟨dq, osq⟩, hw''⟩ := hw'
      have hb3 : Below w2.heap.size w2 w3 := by rw [hw'']; exact below_regrown _ _ _
      clear hw''
      go_wp2
      go_ret
      exact ⟨ret_bool (allTo_no hlt HNO.out).symm, hbr2.trans (hb3.mono hbr2.size)⟩
     cases hbo : berthOk B.bts s
     ·have HNO : Hid (cpAtB B (k' + 1) = false) := by unfold Hid cpAtB; rw [HSK.out]; simp [HCP.out, hok, hbo]
      go_wp2_with (at_lookup; refine wpList_lookup_is _ rfl (.tmp 32) (.tmp 35) 210 rfl 214 3 .i64 thingLaw Tryz.underlying210 Tryz.underlying3 (zeroInt _) (w.heap.size + 1 + 1) n D rfl hown2 _ _ rfl (key_ok 1 s.service wf1 hmem.1) (i : Int) true HA.out HH.out ?_)
      refine wp_region_quiet_below (by kernel_rfl) (by kernel_rfl) ?_
      repeat (first | go_big_quiet_step (first | exact Calls.regrown_of (copyHolds_any s sv B.now _) | exact Calls.regrown_of (berthFits_any B s (w.heap.size + 1 + 1) _ hmem.2 (pl2.out.below (below_regrown _ _ _) (by omega)))) | quiet_step (first | exact Calls.regrown_of (copyHolds_any s sv B.now _) | exact Calls.regrown_of (berthFits_any B s (w.heap.size + 1 + 1) _ hmem.2 (pl2.out.below (below_regrown _ _ _) (by omega)))))
      refine wpQuiet_nil ?_
      intro w3 hw'
      obtain ⟨⟨dq, osq⟩, hw''⟩ := hw'
      have hb3 : Below w2.heap.size w2 w3 := by rw [hw'']; exact below_regrown _ _ _
      clear hw''
      go_wp2
      go_ret
      exact ⟨ret_bool (allTo_no hlt HNO.out).symm, hbr2.trans (hb3.mono hbr2.size)⟩
     have HYES : Hid (cpAtB B (k' + 1) = true) := by unfold Hid cpAtB; rw [HSK.out]; simp [HCP.out, hok, hbo, HPK.out, HLE.out]
     go_wp2_with (at_lookup; refine wpList_lookup_is _ rfl (.tmp 32) (.tmp 35) 210 rfl 214 3 .i64 thingLaw Tryz.underlying210 Tryz.underlying3 (zeroInt _) (w.heap.size + 1 + 1) n D rfl hown2 _ _ rfl (key_ok 1 s.service wf1 hmem.1) (i : Int) true HA.out HH.out ?_)
     refine wp_region_quiet_below (by kernel_rfl) (by kernel_rfl) ?_
     repeat (first | go_big_quiet_step (first | exact Calls.regrown_of (copyHolds_any s sv B.now _) | exact Calls.regrown_of (berthFits_any B s (w.heap.size + 1 + 1) _ hmem.2 (pl2.out.below (below_regrown _ _ _) (by omega)))) | quiet_step (first | exact Calls.regrown_of (copyHolds_any s sv B.now _) | exact Calls.regrown_of (berthFits_any B s (w.heap.size + 1 + 1) _ hmem.2 (pl2.out.below (below_regrown _ _ _) (by omega)))))
     refine wpQuiet_nil ?_
     intro w3 hw'
     obtain ⟨⟨dq, osq⟩, hw''⟩ := hw'
     have hb3 : Below w2.heap.size w2 w3 := by rw [hw'']; exact below_regrown _ _ _
     clear hw''
     have hb4 := hbr2.trans (hb3.mono hbr2.size)
     have box3 : Hid _ := below_blk hb3 box2.out (by omega)
     have pl3 : Hid (PlacesAt w3 (w.heap.size + 1 + 1) B B.svcs.length B.bts.length) := pl2.out.below hb3 (by omega)
     clear g0 g1 m0 m1 m2 m3 m4 m5 m6 z0 z1 z2 z3 z4 z5 z6 z7 z8 z9 z10 z11 z12
     go_wp2
     go_roundw
     case rel => exact ⟨(k' + 1) + 1, by omega, by go_num, hb4, box3, pl3, upTo_step hall.out HYES.out⟩
     case measure => simp [intOf]; omega
  ·go_wp2
   go_ret
   exact ⟨ret_bool (allTo_yes fun i hi => hall.out i (by omega)).symm, hb⟩
end Go.Proofs.YtbceafpodamnfabGreatDoor

namespace Go.Proofs.YtbceafpodamnfabGreatDoor
open Go.RowKit Go.Sort Go.Maps
def bkP (B : Bk) : Nat → Bool
 | 0 => inB B.now 0 1000000
 | 1 => decide (B.svcs.length ≤ 8) && decide (B.cps.length ≤ 200) && decide (B.bts.length ≤ 6)
 | 2 => allTo (svcAtB B) B.svcs.length
 | 3 => allTo (btAtB B) B.bts.length
 | _ => allTo (cpAtB B) B.cps.length
theorem bkP_all (B : Bk) : allTo (bkP B) 5 = validB B := by
 have h : allTo (bkP B) 5 = (bkP B 0 && (bkP B 1 && (bkP B 2 && (bkP B 3 && (bkP B 4 && true))))) := rfl
 rw [h]
 simp only [bkP, validB, Bool.and_true, Bool.and_assoc]
theorem svcs_less {B : Bk} (h : ∀ i, i < B.svcs.length → svcAtB B i = true) : ∀ (j i : Nat) s t, i < j → B.svcs[i]? = some s → B.svcs[j]? = some t → Op.bytesLess s.name.toList t.name.toList = true
 | 0, i, _, _, hi, _, _ => absurd hi (by omega)
 | j + 1, i, s, t, hi, hs, ht => by
  have hlt : j + 1 < B.svcs.length := (List.getElem?_eq_some_iff.1 ht).1
  obtain ⟨p, hp⟩ : ∃ p, B.svcs[j]? = some p := ⟨B.svcs[j]'(by omega), by rw [List.getElem?_eq_getElem]⟩
  have h1 : Op.bytesLess p.name.toList t.name.toList = true := by
   have := h (j + 1) hlt
   unfold svcAtB at this
   rw [ht] at this
   simp [hp] at this
   exact this.2
  rcases Nat.lt_or_ge i j with h' | h'
  ·exact bytesLess_trans _ _ _ (svcs_less h j i s p h' hs hp) h1
  ·have e : i = j := by omega
   subst e
   rw [hp] at hs
   cases hs
   exact h1
theorem uniq_of {B : Bk} (h : allTo (svcAtB B) B.svcs.length = true) : uniqS B := fun i j s t hij hs ht e => by
 have h' : ∀ i, i < B.svcs.length → svcAtB B i = true := fun i hi => by
  unfold allTo at h; exact List.all_eq_true.1 h i (List.mem_range.2 hi)
 have := svcs_less h' j i s t hij hs ht
 rw [e, bytesLess_irrefl] at this
 cases this
theorem copiesHold_any (B : Bk) (a1 a2 a3 : Option Addr) (c1 c2 c3 : Nat) (w : World) (hS : B.small) (hZ : B.sized) (hU : uniqS B) (hB : BkAt w a1 a2 a3 B) :
  Calls Tryz.prog 105 #[.agg #[.int .i64 B.now, .slice a1 B.svcs.length c1, .slice a2 B.cps.length c2, .slice a3 B.bts.length c3]] w fun e w' => e = .returned (.bool (allTo (cpAtB B) B.cps.length)) ∧ Below w.heap.size w w' := by
 by_cases h : B.svcs = []
 ·exact copiesHold_nil B a1 a2 a3 c1 c2 c3 w hS hZ hU hB h
 ·exact copiesHold_cons B a1 a2 a3 c1 c2 c3 w hS hZ hU hB h
def FnsB (w : World) (b : Nat) : Prop := w.heap[b]? = some (.cells #[.func (.func 101) #[] #[], .func (.func 102) #[] #[], .func (.func 103) #[] #[], .func (.func 104) #[] #[], .func (.func 105) #[] #[]] 87 (0, 0))
set_option maxHeartbeats 4000000 in
theorem allHoldB_any (B : Bk) (a1 a2 a3 : Option Addr) (c1 c2 c3 : Nat) (b : Nat) (w : World) (hS : B.small) (hZ : B.sized) (hB : BkAt w a1 a2 a3 B) (hF : FnsB w b) :
  Calls Tryz.prog 100 #[.agg #[.int .i64 B.now, .slice a1 B.svcs.length c1, .slice a2 B.cps.length c2, .slice a3 B.bts.length c3], .slice (some ⟨b, 0, none⟩) 5 5] w fun e w' => e = .returned (.bool (allTo (bkP B) 5)) ∧ Below w.heap.size w w' := by
 have hbx := below_box w (.cells #[.int .i64 B.now, .slice a1 B.svcs.length c1, .slice a2 B.cps.length c2, .slice a3 B.bts.length c3] 36)
 have hbox : Hid _ := heap_alloc_new w (.cells #[.int .i64 B.now, .slice a1 B.svcs.length c1, .slice a2 B.cps.length c2, .slice a3 B.bts.length c3] 36)
 have hblt : b < w.heap.size := (Array.getElem?_eq_some_iff.1 hF).1
 have HF : Hid (FnsB w b) := hF
 clear hF
 go_enter Tryz.func100, Tryz.ntmps100
 go_wp2
 go_loopw [9] (fun iv wr => ∃ k : Nat, k ≤ 5 ∧ iv = .int .i64 k ∧ Below w.heap.size w wr ∧ Hid (wr.heap[w.heap.size]? = some (.cells #[.int .i64 B.now, .slice a1 B.svcs.length c1, .slice a2 B.cps.length c2, .slice a3 B.bts.length c3] 36 (0, 0))) ∧ Hid (∀ i, i < k → bkP B i = true)) (fun i _ => 5 - (intOf i).toNat)
 case atStart => exact ⟨0, by omega, rfl, hbx, hbox, fun i hi => absurd hi (by omega)⟩
 case round =>
  obtain ⟨k, hk, rfl, hb, hbox1, hall⟩ := hrel
  have hNlt : w.heap.size < wr.heap.size := (Array.getElem?_eq_some_iff.1 hbox1.out).1
  have hfn : Hid _ := below_blk hb HF.out hblt
  have x0 := blk_cell hbox1.out 0 rfl
  have x1 := blk_cell hbox1.out 1 rfl
  have x2 := blk_cell hbox1.out 2 rfl
  have x3 := blk_cell hbox1.out 3 rfl
  by_cases h0 : k = 0
  ·subst h0
   have f0 := blk_cell hfn.out 0 rfl
   cases hv : (inB B.now 0 1000000)
   ·have HV : Hid (bkP B 0 = false) := hv
    go_wp2_with fail
    refine (nowHolds_any B a1 a2 a3 c1 c2 c3 _).mono ?_
    rintro e w1 ⟨he, hb1⟩
    subst he
    have hb2 := hb.trans (hb1.mono hb.size)
    rw [hv]
    clear x0 x1 x2 x3 f0
    go_wp2
    go_ret
    exact ⟨ret_bool (allTo_no (by omega) HV.out).symm, hb2⟩
   ·have HV : Hid (bkP B 0 = true) := hv
    go_wp2_with fail
    refine (nowHolds_any B a1 a2 a3 c1 c2 c3 _).mono ?_
    rintro e w1 ⟨he, hb1⟩
    subst he
    have hb2 := hb.trans (hb1.mono hb.size)
    have hbox2 : Hid _ := below_blk hb1 hbox1.out hNlt
    rw [hv]
    clear x0 x1 x2 x3 f0
    go_wp2
    go_roundw
    case rel => exact ⟨0 + 1, by omega, by go_num, hb2, hbox2, upTo_step hall.out HV.out⟩
    case measure => simp [intOf]
  by_cases h1 : k = 1
  ·subst h1
   have f1 := blk_cell hfn.out 1 rfl
   cases hv : (decide (B.svcs.length ≤ 8) && decide (B.cps.length ≤ 200) && decide (B.bts.length ≤ 6))
   ·have HV : Hid (bkP B 1 = false) := hv
    go_wp2_with fail
    refine (sizesHold_any B a1 a2 a3 c1 c2 c3 _ hS).mono ?_
    rintro e w1 ⟨he, hb1⟩
    subst he
    have hb2 := hb.trans (hb1.mono hb.size)
    rw [hv]
    clear x0 x1 x2 x3 f1
    go_wp2
    go_ret
    exact ⟨ret_bool (allTo_no (by omega) HV.out).symm, hb2⟩
   ·have HV : Hid (bkP B 1 = true) := hv
    go_wp2_with fail
    refine (sizesHold_any B a1 a2 a3 c1 c2 c3 _ hS).mono ?_
    rintro e w1 ⟨he, hb1⟩
    subst he
    have hb2 := hb.trans (hb1.mono hb.size)
    have hbox2 : Hid _ := below_blk hb1 hbox1.out hNlt
    rw [hv]
    clear x0 x1 x2 x3 f1
    go_wp2
    go_roundw
    case rel => exact ⟨1 + 1, by omega, by go_num, hb2, hbox2, upTo_step hall.out HV.out⟩
    case measure => simp [intOf]
  by_cases h2 : k = 2
  ·subst h2
   have f2 := blk_cell hfn.out 2 rfl
   cases hv : (allTo (svcAtB B) B.svcs.length)
   ·have HV : Hid (bkP B 2 = false) := hv
    go_wp2_with fail
    refine (servicesHold_any B a1 a2 a3 c1 c2 c3 _ hS hZ (hB.below hb)).mono ?_
    rintro e w1 ⟨he, hb1⟩
    subst he
    have hb2 := hb.trans (hb1.mono hb.size)
    rw [hv]
    clear x0 x1 x2 x3 f2
    go_wp2
    go_ret
    exact ⟨ret_bool (allTo_no (by omega) HV.out).symm, hb2⟩
   ·have HV : Hid (bkP B 2 = true) := hv
    go_wp2_with fail
    refine (servicesHold_any B a1 a2 a3 c1 c2 c3 _ hS hZ (hB.below hb)).mono ?_
    rintro e w1 ⟨he, hb1⟩
    subst he
    have hb2 := hb.trans (hb1.mono hb.size)
    have hbox2 : Hid _ := below_blk hb1 hbox1.out hNlt
    rw [hv]
    clear x0 x1 x2 x3 f2
    go_wp2
    go_roundw
    case rel => exact ⟨2 + 1, by omega, by go_num, hb2, hbox2, upTo_step hall.out HV.out⟩
    case measure => simp [intOf]
  by_cases h3 : k = 3
  ·subst h3
   have f3 := blk_cell hfn.out 3 rfl
   cases hv : (allTo (btAtB B) B.bts.length)
   ·have HV : Hid (bkP B 3 = false) := hv
    go_wp2_with fail
    refine (berthsHold_any B a1 a2 a3 c1 c2 c3 _ hS hZ (hB.below hb)).mono ?_
    rintro e w1 ⟨he, hb1⟩
    subst he
    have hb2 := hb.trans (hb1.mono hb.size)
    rw [hv]
    clear x0 x1 x2 x3 f3
    go_wp2
    go_ret
    exact ⟨ret_bool (allTo_no (by omega) HV.out).symm, hb2⟩
   ·have HV : Hid (bkP B 3 = true) := hv
    go_wp2_with fail
    refine (berthsHold_any B a1 a2 a3 c1 c2 c3 _ hS hZ (hB.below hb)).mono ?_
    rintro e w1 ⟨he, hb1⟩
    subst he
    have hb2 := hb.trans (hb1.mono hb.size)
    have hbox2 : Hid _ := below_blk hb1 hbox1.out hNlt
    rw [hv]
    clear x0 x1 x2 x3 f3
    go_wp2
    go_roundw
    case rel => exact ⟨3 + 1, by omega, by go_num, hb2, hbox2, upTo_step hall.out HV.out⟩
    case measure => simp [intOf]
  by_cases h4 : k = 4
  ·subst h4
   have f4 := blk_cell hfn.out 4 rfl
   cases hv : (allTo (cpAtB B) B.cps.length)
   ·have HV : Hid (bkP B 4 = false) := hv
    go_wp2_with fail
    refine (copiesHold_any B a1 a2 a3 c1 c2 c3 _ hS hZ (uniq_of (hall.out 2 (by omega))) (hB.below hb)).mono ?_
    rintro e w1 ⟨he, hb1⟩
    subst he
    have hb2 := hb.trans (hb1.mono hb.size)
    rw [hv]
    clear x0 x1 x2 x3 f4
    go_wp2
    go_ret
    exact ⟨ret_bool (allTo_no (by omega) HV.out).symm, hb2⟩
   ·have HV : Hid (bkP B 4 = true) := hv
    go_wp2_with fail
    refine (copiesHold_any B a1 a2 a3 c1 c2 c3 _ hS hZ (uniq_of (hall.out 2 (by omega))) (hB.below hb)).mono ?_
    rintro e w1 ⟨he, hb1⟩
    subst he
    have hb2 := hb.trans (hb1.mono hb.size)
    have hbox2 : Hid _ := below_blk hb1 hbox1.out hNlt
    rw [hv]
    clear x0 x1 x2 x3 f4
    go_wp2
    go_roundw
    case rel => exact ⟨4 + 1, by omega, by go_num, hb2, hbox2, upTo_step hall.out HV.out⟩
    case measure => simp [intOf]
  ·have h5 : k = 5 := by omega
   subst h5
   clear x0 x1 x2 x3
   go_wp2
   go_ret
   exact ⟨ret_bool (allTo_yes hall.out).symm, hb⟩
set_option maxHeartbeats 1000000 in
theorem implValid_any (B : Bk) (a1 a2 a3 : Option Addr) (c1 c2 c3 : Nat) (w : World) (hS : B.small) (hZ : B.sized) (hB : BkAt w a1 a2 a3 B) :
  Calls Tryz.prog 46 #[.agg #[.int .i64 B.now, .slice a1 B.svcs.length c1, .slice a2 B.cps.length c2, .slice a3 B.bts.length c3]] w fun e w' => e = .returned (.bool (validB B)) ∧ Below w.heap.size w w' := by
 obtain ⟨t0, t1, t2⟩ := two_new w (.cells #[.int .i64 B.now, .slice a1 B.svcs.length c1, .slice a2 B.cps.length c2, .slice a3 B.bts.length c3] 36) (.cells #[.func (.func 101) #[] #[], .func (.func 102) #[] #[], .func (.func 103) #[] #[], .func (.func 104) #[] #[], .func (.func 105) #[] #[]] 87)
 have hb0 : Below w.heap.size w ((w.alloc (.cells #[.int .i64 B.now, .slice a1 B.svcs.length c1, .slice a2 B.cps.length c2, .slice a3 B.bts.length c3] 36)).alloc (.cells #[.func (.func 101) #[] #[], .func (.func 102) #[] #[], .func (.func 103) #[] #[], .func (.func 104) #[] #[], .func (.func 105) #[] #[]] 87)) := ((Below.refl _ _).alloc (Nat.le_refl _) _).alloc (by simp) _
 have T1 : Hid _ := t1
 clear t0 t1 t2
 go_enter Tryz.func46, Tryz.ntmps46
 go_wp2_with fail
 refine (allHoldB_any B a1 a2 a3 c1 c2 c3 (w.heap.size + 1) _ hS hZ (hB.below hb0) T1.out).mono ?_
 rintro e w1 ⟨rfl, hb1⟩
 rw [bkP_all]
 go_wp2
 go_ret
 exact ⟨rfl, hb0.trans (hb1.mono hb0.size)⟩
end Go.Proofs.YtbceafpodamnfabGreatDoor
