/-
  My own: Pb, Pc, Pd.
-/
import Derived.Test.YtbceafpodamnfabGreatA08
set_option linter.unusedVariables false
set_option linter.unusedSimpArgs false
/-
  My own. Which copy ends sooner, by the specification.
-/
namespace Go.Proofs.YtbceafpodamnfabGreat
open Go.RowKit Go.Sort

set_option maxRecDepth 100000 in
set_option maxHeartbeats 8000000 in
theorem l5Sooner_any (B : Bk) (x y : Cp) (img : Int) (a1 a2 a3 : Option Addr) (c1 c2 c3 : Nat) (w : World) (hS : B.small) (hB : BkAt w a1 a2 a3 B) :
    Calls Tryz.prog 133 #[.agg #[.int .i64 B.now, .slice a1 B.svcs.length c1, .slice a2 B.cps.length c2, .slice a3 B.bts.length c3], .agg #[.string x.service, .int .i64 x.number, .int .i64 x.version, .int .i64 x.image, .int .i64 x.state, .bool x.ending, .string x.berth], .agg #[.string y.service, .int .i64 y.number, .int .i64 y.version, .int .i64 y.image, .int .i64 y.state, .bool y.ending, .string y.berth], .int .i64 img] w fun e w' => e = .returned (.bool (soonerB B x y img)) ∧ Below w.heap.size w w' := by
  have hbb : Below w.heap.size w (((w.alloc (.cells #[.int .i64 B.now, .slice a1 B.svcs.length c1, .slice a2 B.cps.length c2, .slice a3 B.bts.length c3] 34)).alloc (.cells #[.string x.service, .int .i64 x.number, .int .i64 x.version, .int .i64 x.image, .int .i64 x.state, .bool x.ending, .string x.berth] 88)).alloc (.cells #[.string y.service, .int .i64 y.number, .int .i64 y.version, .int .i64 y.image, .int .i64 y.state, .bool y.ending, .string y.berth] 88)) := (((Below.refl _ _).alloc (Nat.le_refl _) _).alloc (by simp) _).alloc (by simp; omega) _
  obtain ⟨t0, t1, t2, t3⟩ := three_new w (.cells #[.int .i64 B.now, .slice a1 B.svcs.length c1, .slice a2 B.cps.length c2, .slice a3 B.bts.length c3] 34) (.cells #[.string x.service, .int .i64 x.number, .int .i64 x.version, .int .i64 x.image, .int .i64 x.state, .bool x.ending, .string x.berth] 88) (.cells #[.string y.service, .int .i64 y.number, .int .i64 y.version, .int .i64 y.image, .int .i64 y.state, .bool y.ending, .string y.berth] 88)
  have T0 : Hid _ := t0
  have T1 : Hid _ := t1
  have T2 : Hid _ := t2
  have HS3 : Hid _ := t3
  clear t0 t1 t2 t3
  obtain ⟨dx, HX⟩ : ∃ d, Hid (drainsB B x = d) := ⟨_, rfl⟩
  obtain ⟨dy, HY⟩ : ∃ d, Hid (drainsB B y = d) := ⟨_, rfl⟩
  have HDX : Hid (∀ W : World, BkAt W a1 a2 a3 B → Calls Tryz.prog 92 #[.agg #[.int .i64 B.now, .slice a1 B.svcs.length c1, .slice a2 B.cps.length c2, .slice a3 B.bts.length c3], .agg #[.string x.service, .int .i64 x.number, .int .i64 x.version, .int .i64 x.image, .int .i64 x.state, .bool x.ending, .string x.berth]] W fun e w' => e = .returned (.bool dx) ∧ Below W.heap.size W w') := fun W h => by rw [← HX.out]; exact l5Drains_any B x a1 a2 a3 c1 c2 c3 W hS h
  have HDY : Hid (∀ W : World, BkAt W a1 a2 a3 B → Calls Tryz.prog 92 #[.agg #[.int .i64 B.now, .slice a1 B.svcs.length c1, .slice a2 B.cps.length c2, .slice a3 B.bts.length c3], .agg #[.string y.service, .int .i64 y.number, .int .i64 y.version, .int .i64 y.image, .int .i64 y.state, .bool y.ending, .string y.berth]] W fun e w' => e = .returned (.bool dy) ∧ Below W.heap.size W w') := fun W h => by rw [← HY.out]; exact l5Drains_any B y a1 a2 a3 c1 c2 c3 W hS h
  have HO : Hid (soonerB B x y img = if ((x.state != 3) != (y.state != 3)) then (x.state != 3) else if ((x.image != img) != (y.image != img)) then (x.image != img) else if (dx != dy) then dx else decide (y.number < x.number)) := by unfold Hid soonerB; rw [HX.out, HY.out]
  go_enter Tryz.func133, Tryz.ntmps133
  cases hp : (x.state != 3) <;> cases hq : (y.state != 3)
  case false.true => go_wp2; go_ret; exact ⟨ret_bool (by rw [HO.out, hp, hq]; rfl), hbb⟩
  case true.false => go_wp2; go_ret; exact ⟨ret_bool (by rw [HO.out, hp, hq]; rfl), hbb⟩
  all_goals
    cases hr : (x.image != img) <;> cases hs : (y.image != img)
    case false.true => go_wp2; go_ret; exact ⟨ret_bool (by rw [HO.out, hp, hq, hr, hs]; rfl), hbb⟩
    case true.false => go_wp2; go_ret; exact ⟨ret_bool (by rw [HO.out, hp, hq, hr, hs]; rfl), hbb⟩
    all_goals
      have HO2 : Hid (soonerB B x y img = if (dx != dy) then dx else decide (y.number < x.number)) := by unfold Hid; rw [HO.out, hp, hq, hr, hs]; rfl
      clear HO
      go_wp2
      refine wp_region_grows 6 (by kernel_rfl) (by kernel_rfl) ?_
      apply grow_eq
      · intro V W K A hW hd hA hK
        simp only [putAll, List.getElem?_toArray, List.getElem?_cons_succ, List.getElem?_cons_zero, Option.bind_some, Act.put, List.setIfInBounds_toArray, List.set_cons_succ, List.set_cons_zero] at hA
        clear hd
        generalize V 0 = x0 at hA
        generalize V 1 = x1 at hA
        generalize V 2 = x2 at hA
        generalize V 3 = x3 at hA
        generalize V 4 = x4 at hA
        generalize V 5 = x5 at hA
        obtain rfl := hA
        have e0 := blk_cell (below_blk hW T0.out (by rw [HS3.out]; omega)) 0 rfl
        have e1 := blk_cell (below_blk hW T0.out (by rw [HS3.out]; omega)) 1 rfl
        have e2 := blk_cell (below_blk hW T0.out (by rw [HS3.out]; omega)) 2 rfl
        have e3 := blk_cell (below_blk hW T0.out (by rw [HS3.out]; omega)) 3 rfl
        go_wp2
        exact hK.out _ (Below.refl _ _)
      apply grow_eq
      · intro V W K A hW hd hA hK
        simp only [putAll, List.getElem?_toArray, List.getElem?_cons_succ, List.getElem?_cons_zero, Option.bind_some, Act.put, List.setIfInBounds_toArray, List.set_cons_succ, List.set_cons_zero] at hA
        clear hd
        generalize V 0 = x0 at hA
        generalize V 1 = x1 at hA
        generalize V 2 = x2 at hA
        generalize V 3 = x3 at hA
        generalize V 4 = x4 at hA
        generalize V 5 = x5 at hA
        obtain rfl := hA
        have y0 := blk_cell (below_blk hW T1.out (by rw [HS3.out]; omega)) 0 rfl
        have y1 := blk_cell (below_blk hW T1.out (by rw [HS3.out]; omega)) 1 rfl
        have y2 := blk_cell (below_blk hW T1.out (by rw [HS3.out]; omega)) 2 rfl
        have y3 := blk_cell (below_blk hW T1.out (by rw [HS3.out]; omega)) 3 rfl
        have y4 := blk_cell (below_blk hW T1.out (by rw [HS3.out]; omega)) 4 rfl
        have y5 := blk_cell (below_blk hW T1.out (by rw [HS3.out]; omega)) 5 rfl
        have y6 := blk_cell (below_blk hW T1.out (by rw [HS3.out]; omega)) 6 rfl
        go_wp2
        exact hK.out _ (Below.refl _ _)
      apply grow_eq
      · intro V W K A hW hd hA hK
        have d0 : V 0 = _ := hd 0 (by kernel_rfl)
        have d1 : V 1 = _ := hd 1 (by kernel_rfl)
        simp only [putAll, List.getElem?_toArray, List.getElem?_cons_succ, List.getElem?_cons_zero, Option.bind_some, Act.put, List.setIfInBounds_toArray, List.set_cons_succ, List.set_cons_zero] at hA
        clear hd
        generalize V 0 = x0 at d0 hA
        generalize V 1 = x1 at d1 hA
        generalize V 2 = x2 at hA
        generalize V 3 = x3 at hA
        generalize V 4 = x4 at hA
        generalize V 5 = x5 at hA
        subst d0
        subst d1
        obtain rfl := hA
        go_wp2_with fail
        refine (HDX.out _ (hB.below (hbb.trans (hW.mono hbb.size)))).mono ?_
        rintro e w3 ⟨rfl, hb3⟩
        go_wp2
        exact hK.out _ hb3
      apply grow_eq
      · intro V W K A hW hd hA hK
        simp only [putAll, List.getElem?_toArray, List.getElem?_cons_succ, List.getElem?_cons_zero, Option.bind_some, Act.put, List.setIfInBounds_toArray, List.set_cons_succ, List.set_cons_zero] at hA
        clear hd
        generalize V 0 = x0 at hA
        generalize V 1 = x1 at hA
        generalize V 2 = x2 at hA
        generalize V 3 = x3 at hA
        generalize V 4 = x4 at hA
        generalize V 5 = x5 at hA
        obtain rfl := hA
        have e0 := blk_cell (below_blk hW T0.out (by rw [HS3.out]; omega)) 0 rfl
        have e1 := blk_cell (below_blk hW T0.out (by rw [HS3.out]; omega)) 1 rfl
        have e2 := blk_cell (below_blk hW T0.out (by rw [HS3.out]; omega)) 2 rfl
        have e3 := blk_cell (below_blk hW T0.out (by rw [HS3.out]; omega)) 3 rfl
        go_wp2
        exact hK.out _ (Below.refl _ _)
      apply grow_eq
      · intro V W K A hW hd hA hK
        simp only [putAll, List.getElem?_toArray, List.getElem?_cons_succ, List.getElem?_cons_zero, Option.bind_some, Act.put, List.setIfInBounds_toArray, List.set_cons_succ, List.set_cons_zero] at hA
        clear hd
        generalize V 0 = x0 at hA
        generalize V 1 = x1 at hA
        generalize V 2 = x2 at hA
        generalize V 3 = x3 at hA
        generalize V 4 = x4 at hA
        generalize V 5 = x5 at hA
        obtain rfl := hA
        have y0 := blk_cell (below_blk hW T2.out (by rw [HS3.out]; omega)) 0 rfl
        have y1 := blk_cell (below_blk hW T2.out (by rw [HS3.out]; omega)) 1 rfl
        have y2 := blk_cell (below_blk hW T2.out (by rw [HS3.out]; omega)) 2 rfl
        have y3 := blk_cell (below_blk hW T2.out (by rw [HS3.out]; omega)) 3 rfl
        have y4 := blk_cell (below_blk hW T2.out (by rw [HS3.out]; omega)) 4 rfl
        have y5 := blk_cell (below_blk hW T2.out (by rw [HS3.out]; omega)) 5 rfl
        have y6 := blk_cell (below_blk hW T2.out (by rw [HS3.out]; omega)) 6 rfl
        go_wp2
        exact hK.out _ (Below.refl _ _)
      apply grow_eq
      · intro V W K A hW hd hA hK
        have d3 : V 3 = _ := hd 3 (by kernel_rfl)
        have d4 : V 4 = _ := hd 4 (by kernel_rfl)
        simp only [putAll, List.getElem?_toArray, List.getElem?_cons_succ, List.getElem?_cons_zero, Option.bind_some, Act.put, List.setIfInBounds_toArray, List.set_cons_succ, List.set_cons_zero] at hA
        clear hd
        generalize V 0 = x0 at hA
        generalize V 1 = x1 at hA
        generalize V 2 = x2 at hA
        generalize V 3 = x3 at d3 hA
        generalize V 4 = x4 at d4 hA
        generalize V 5 = x5 at hA
        subst d3
        subst d4
        obtain rfl := hA
        go_wp2_with fail
        refine (HDY.out _ (hB.below (hbb.trans (hW.mono hbb.size)))).mono ?_
        rintro e w3 ⟨rfl, hb3⟩
        go_wp2
        exact hK.out _ hb3
      intro V W A hW hS hA
      have d0 : V 0 = _ := hS 0 (by omega)
      have d1 : V 1 = _ := hS 1 (by omega)
      have d2 : V 2 = _ := hS 2 (by omega)
      have d3 : V 3 = _ := hS 3 (by omega)
      have d4 : V 4 = _ := hS 4 (by omega)
      have d5 : V 5 = _ := hS 5 (by omega)
      simp only [putAll, List.getElem?_toArray, List.getElem?_cons_succ, List.getElem?_cons_zero, Option.bind_some, Act.put, List.setIfInBounds_toArray, List.set_cons_succ, List.set_cons_zero] at hA
      clear hS
      generalize V 0 = x0 at d0 hA
      generalize V 1 = x1 at d1 hA
      generalize V 2 = x2 at d2 hA
      generalize V 3 = x3 at d3 hA
      generalize V 4 = x4 at d4 hA
      generalize V 5 = x5 at d5 hA
      subst d0
      subst d1
      subst d2
      subst d3
      subst d4
      subst d5
      obtain rfl := hA
      simp only [List.drop_succ_cons, List.drop_zero]
      have T0' : Hid _ := below_blk hW T0.out (by rw [HS3.out]; omega)
      have T1' : Hid _ := below_blk hW T1.out (by rw [HS3.out]; omega)
      have T2' : Hid _ := below_blk hW T2.out (by rw [HS3.out]; omega)
      have hbw := hbb.trans (hW.mono hbb.size)
      cases dx <;> cases dy
      case false.false =>
        have y1 := blk_cell T1'.out 1 rfl
        have y2 := blk_cell T2'.out 1 rfl
        go_wp2
        go_ret
        exact ⟨ret_bool (by rw [HO2.out]; rfl), hbw⟩
      case true.true =>
        have y1 := blk_cell T1'.out 1 rfl
        have y2 := blk_cell T2'.out 1 rfl
        go_wp2
        go_ret
        exact ⟨ret_bool (by rw [HO2.out]; rfl), hbw⟩
      all_goals
        have e0 := blk_cell T0'.out 0 rfl
        have e1 := blk_cell T0'.out 1 rfl
        have e2 := blk_cell T0'.out 2 rfl
        have e3 := blk_cell T0'.out 3 rfl
        have y0 := blk_cell T1'.out 0 rfl
        have y1 := blk_cell T1'.out 1 rfl
        have y2 := blk_cell T1'.out 2 rfl
        have y3 := blk_cell T1'.out 3 rfl
        have y4 := blk_cell T1'.out 4 rfl
        have y5 := blk_cell T1'.out 5 rfl
        have y6 := blk_cell T1'.out 6 rfl
        go_wp2_with fail
        refine (HDX.out _ (hB.below hbw)).mono ?_
        rintro e w3 ⟨rfl, hb3⟩
        go_wp2
        go_ret
        exact ⟨ret_bool (by rw [HO2.out]; rfl), hbw.trans (hb3.mono hbw.size)⟩

end Go.Proofs.YtbceafpodamnfabGreat

/-
  My own. Places of copies, as lists; a service's live copies, by the specification.
-/
namespace Go.Proofs.YtbceafpodamnfabGreat
open Go.RowKit Go.Sort

def cpD (B : Bk) (i : Nat) : Cp := (B.cps[i]?).getD ⟨⟨#[]⟩, 0, 0, 0, 0, false, ⟨#[]⟩⟩
theorem cpD_of {B : Bk} {i : Nat} {c : Cp} (h : B.cps[i]? = some c) : cpD B i = c := by unfold cpD; rw [h]; rfl
theorem cpD_some {B : Bk} {i : Nat} (h : i < B.cps.length) : B.cps[i]? = some (cpD B i) := by unfold cpD; rw [List.getElem?_eq_getElem h]; rfl

def liveP (sv : ByteArray) (c : Cp) : Bool := c.service.toList == sv.toList && !c.ending
def liveTo (B : Bk) (sv : ByteArray) (k : Nat) : List Nat := (List.range k).filter fun i => liveP sv (cpD B i)
theorem liveTo_len (B : Bk) (sv : ByteArray) (k : Nat) : (liveTo B sv k).length ≤ k := by
  unfold liveTo
  exact Nat.le_trans (List.length_filter_le _ _) (by simp)
theorem liveTo_yes {B : Bk} {sv : ByteArray} {k : Nat} (h : liveP sv (cpD B k) = true) : liveTo B sv (k + 1) = liveTo B sv k ++ [k] := by
  unfold liveTo; rw [List.range_succ, List.filter_append]; simp [h]
theorem liveTo_no {B : Bk} {sv : ByteArray} {k : Nat} (h : liveP sv (cpD B k) = false) : liveTo B sv (k + 1) = liveTo B sv k := by
  unfold liveTo; rw [List.range_succ, List.filter_append]; simp [h]
theorem liveTo_lt {B : Bk} {sv : ByteArray} {k i : Nat} (h : i ∈ liveTo B sv k) : i < k := by
  unfold liveTo at h; exact List.mem_range.1 (List.mem_filter.1 h).1

def intsV (l : List Nat) : List Value := l.map fun (i : Nat) => .int .i64 (i : Int)
theorem intsV_len (l : List Nat) : (intsV l).length = l.length := by simp [intsV]
theorem intsV_add (l : List Nat) (k : Nat) : intsV (l ++ [k]) = intsV l ++ [.int .i64 (k : Int)] := by simp [intsV]
theorem intsV_at {l : List Nat} {j i : Nat} (h : l[j]? = some i) : (intsV l)[j]? = some (.int .i64 (i : Int)) := by simp [intsV, h]
theorem Tryz.infoInt : (Tryz.prog.info? 3).map (fun i => (i.zero, i.size, i.bytes)) = some (some (.int .i64 0), 1, 8) := by kernel_rfl

set_option maxHeartbeats 4000000 in
theorem l5Live_any (B : Bk) (sv : ByteArray) (a1 a2 a3 : Option Addr) (c1 c2 c3 : Nat) (w : World) (hS : B.small) (hB : SlC w a2 B.cps) :
    Calls Tryz.prog 57 #[.agg #[.int .i64 B.now, .slice a1 B.svcs.length c1, .slice a2 B.cps.length c2, .slice a3 B.bts.length c3], .string sv] w fun e w' => ∃ g cap, e = .returned (.slice (some ⟨g, 0, none⟩) (liveTo B sv B.cps.length).length cap) ∧ w.heap.size ≤ g ∧ RowIs w' 3 1 g (liveTo B sv B.cps.length).length cap (intsV (liveTo B sv B.cps.length)) ∧ Below w.heap.size w w' := by
  obtain ⟨hl1, hl2, hl3⟩ := hS
  obtain ⟨t0, t1, t2⟩ := two_new w (.cells #[.int .i64 B.now, .slice a1 B.svcs.length c1, .slice a2 B.cps.length c2, .slice a3 B.bts.length c3] 34) (.cells #[] 3)
  have T0 : Hid _ := t0
  have T1 : Hid _ := t1
  clear t0 t1 t2
  go_enter Tryz.func57, Tryz.ntmps57
  go_wp2
  go_loopw [5, 6] (fun ov iv wr => ∃ k g cap : Nat, k ≤ B.cps.length ∧ iv = .int .i64 k ∧ ov = .slice (some ⟨g, 0, none⟩) (liveTo B sv k).length cap ∧ w.heap.size < g ∧ Below w.heap.size w wr ∧ Hid (wr.heap[w.heap.size]? = some (.cells #[.int .i64 B.now, .slice a1 B.svcs.length c1, .slice a2 B.cps.length c2, .slice a3 B.bts.length c3] 34 (0, 0))) ∧ Hid (RowIs wr 3 1 g (liveTo B sv k).length cap (intsV (liveTo B sv k)))) (fun _ i _ => B.cps.length - (intOf i).toNat)
  case atStart => exact ⟨0, w.heap.size + 1, 0, by omega, rfl, rfl, by omega, ((Below.refl _ _).alloc (Nat.le_refl _) _).alloc (by simp) _, T0, ⟨rfl, Nat.le_refl _, #[], T1.out, rfl, rfl⟩⟩
  case round =>
    obtain ⟨k, g, cap, hk, rfl, rfl, hg, hb, hbox, hrow⟩ := hrel
    have e2 := blk_cell hbox.out 2 rfl
    by_cases hlt : k < B.cps.length
    · have hne : B.cps ≠ [] := by intro h; rw [h] at hlt; simp at hlt
      obtain ⟨b, off, rfl, hbs, hat⟩ := hB hne
      obtain ⟨s, hsk⟩ : ∃ s, B.cps[k]? = some s := ⟨B.cps[k], by simp [hlt]⟩
      have hc := (hat k s hsk).below hb hbs
      unfold CpAt at hc
      have hc0 := hc.1
      have hc5 := hc.2.2.2.2.2.1
      have HD : Hid (cpD B k = s) := cpD_of hsk
      clear hat hc hsk hne
      have hlen := liveTo_len B sv k
      have hgl : g < wr.heap.size := hrow.out.lt
      cases hq : (s.service.toList == sv.toList)
      · have HL : Hid (liveTo B sv (k + 1) = liveTo B sv k) := liveTo_no (by rw [HD.out]; unfold liveP; rw [hq]; rfl)
        go_wp2
        go_roundw
        case rel => exact ⟨k + 1, g, cap, by omega, by go_num, by rw [HL.out], hg, hb, hbox, by rw [HL.out]; exact hrow⟩
        case measure => simp [intOf]; omega
      cases hq2 : s.ending
      · have HL : Hid (liveTo B sv (k + 1) = liveTo B sv k ++ [k]) := liveTo_yes (by rw [HD.out]; unfold liveP; rw [hq, hq2]; rfl)
        go_wp2_with (at_builtin; refine wpList_append_row rfl (.tmp 32) (.tmp 34) 91 rfl 3 _ 1 8 Tryz.underlying91 Tryz.infoInt rfl g (liveTo B sv k).length cap _ rfl (hrow.out.below (below_box wr _) hgl) ⟨wr.heap.size, 0, none⟩ 1 1 [.int .i64 (k : Int)] rfl rfl (news_row (heap_alloc_new wr _)) (by simp [Value.oneCell']) (by unfold maxLen; omega) (by omega) ?_; intro g' cap' w2 hg' hrow' hgr)
        have hsz : (wr.alloc (.cells #[.int .i64 (k : Int)] 3)).heap.size = wr.heap.size + 1 := by show (wr.heap.push _).size = _; simp
        have hz := hb.size
        have hb2 : Below w.heap.size w w2 := (hb.alloc hb.size _).trans (below_of_grown hgr (by omega) (by rw [hsz]; omega))
        have hbox2 : Hid _ := (hgr.block w.heap.size (by rw [hsz]; omega) (fun e => by have := Option.some.inj e; omega)).trans (below_blk (below_box wr (.cells #[.int .i64 (k : Int)] 3)) hbox.out (by omega))
        rw [hsz] at hg'
        go_roundw
        case rel => exact ⟨k + 1, g', cap', by omega, by go_num, by rw [HL.out]; simp, by omega, hb2, hbox2, by rw [HL.out, intsV_add, List.length_append]; exact hrow'⟩
        case measure => simp [intOf]; omega
      · have HL : Hid (liveTo B sv (k + 1) = liveTo B sv k) := liveTo_no (by rw [HD.out]; unfold liveP; rw [hq, hq2]; rfl)
        go_wp2
        go_roundw
        case rel => exact ⟨k + 1, g, cap, by omega, by go_num, by rw [HL.out], hg, hb, hbox, by rw [HL.out]; exact hrow⟩
        case measure => simp [intOf]; omega
    · go_wp2
      go_ret
      have hkl : k = B.cps.length := by omega
      subst hkl
      exact ⟨g, cap, rfl, by omega, hrow.out, hb⟩

end Go.Proofs.YtbceafpodamnfabGreat

/-
  My own. Copies that are to end, as ends, by the specification.
-/
namespace Go.Proofs.YtbceafpodamnfabGreat
open Go.RowKit Go.Sort

def endOf (c : Cp) : En := ⟨c.number, c.version⟩
def endsL (B : Bk) (l : List Nat) : List En := l.map fun i => endOf (cpD B i)
def ensV (l : List En) : List Value := l.flatMap En.cells
theorem ensV_len (l : List En) : (ensV l).length = l.length * 2 := by
  induction l with
  | nil => rfl
  | cons x l ih => unfold ensV at *; rw [List.flatMap_cons, List.length_append, ih, List.length_cons]; simp [En.cells]; omega
theorem ensV_add (l : List En) (x : En) : ensV (l ++ [x]) = ensV l ++ x.cells := by simp [ensV]
theorem ensV_at : ∀ (l : List En) (j : Nat) (x : En), l[j]? = some x → (ensV l)[j * 2]? = some (.int .i64 x.number) ∧ (ensV l)[j * 2 + 1]? = some (.int .i64 x.seen)
  | [], _, _, h => by simp at h
  | y :: l, 0, x, h => by simp at h; subst h; exact ⟨rfl, rfl⟩
  | y :: l, j + 1, x, h => by
    have := ensV_at l j x (by simpa using h)
    have e : ensV (y :: l) = .int .i64 y.number :: .int .i64 y.seen :: ensV l := rfl
    rw [e, show (j + 1) * 2 = j * 2 + 1 + 1 by omega, show j * 2 + 1 + 1 + 1 = (j * 2 + 1) + 1 + 1 by omega]
    simpa using this

/-- A row of ends that a call has made: read. -/
theorem RowIs.slE {w : World} {g n cap : Nat} {l : List En} (h : RowIs w 118 2 g n cap (ensV l)) : SlE w (some ⟨g, 0, none⟩) l := fun _ =>
  ⟨g, 0, rfl, h.lt, fun i s hs => by
    have := ensV_at l i s hs
    unfold EnAt
    rw [Nat.zero_add]
    exact ⟨h.cell this.1, h.cell this.2⟩⟩

set_option maxRecDepth 100000 in
set_option maxHeartbeats 8000000 in
theorem l5Ends_any (B : Bk) (L : List Nat) (gL capL : Nat) (a1 a2 a3 : Option Addr) (c1 c2 c3 : Nat) (w : World) (hS : B.small) (hB : SlC w a2 B.cps) (hL : ∀ i ∈ L, i < B.cps.length) (hLn : L.length ≤ 1048576) (hLr : RowIs w 3 1 gL L.length capL (intsV L)) :
    Calls Tryz.prog 55 #[.agg #[.int .i64 B.now, .slice a1 B.svcs.length c1, .slice a2 B.cps.length c2, .slice a3 B.bts.length c3], .slice (some ⟨gL, 0, none⟩) L.length capL] w fun e w' => ∃ g cap, e = .returned (.slice (some ⟨g, 0, none⟩) L.length cap) ∧ w.heap.size ≤ g ∧ RowIs w' 118 2 g L.length cap (ensV (endsL B L)) ∧ Below w.heap.size w w' := by
  obtain ⟨hl1, hl2, hl3⟩ := hS
  obtain ⟨t0, t1, t2⟩ := two_new w (.cells #[.int .i64 B.now, .slice a1 B.svcs.length c1, .slice a2 B.cps.length c2, .slice a3 B.bts.length c3] 34) (.cells #[] 118)
  have T0 : Hid _ := t0
  have T1 : Hid _ := t1
  have hLrow : Hid (RowIs w 3 1 gL L.length capL (intsV L)) := hLr
  have hgL : gL < w.heap.size := hLr.lt
  clear t0 t1 t2 hLr
  go_enter Tryz.func55, Tryz.ntmps55
  go_wp2
  go_loopw [5, 6] (fun ov iv wr => ∃ k g cap : Nat, k ≤ L.length ∧ iv = .int .i64 k ∧ ov = .slice (some ⟨g, 0, none⟩) k cap ∧ w.heap.size < g ∧ Below w.heap.size w wr ∧ Hid (wr.heap[w.heap.size]? = some (.cells #[.int .i64 B.now, .slice a1 B.svcs.length c1, .slice a2 B.cps.length c2, .slice a3 B.bts.length c3] 34 (0, 0))) ∧ Hid (RowIs wr 118 2 g k cap (ensV (endsL B (L.take k))))) (fun _ i _ => L.length - (intOf i).toNat)
  case atStart => exact ⟨0, w.heap.size + 1, 0, by omega, rfl, rfl, by omega, ((Below.refl _ _).alloc (Nat.le_refl _) _).alloc (by simp) _, T0, ⟨rfl, Nat.le_refl _, #[], T1.out, rfl, rfl⟩⟩
  case round =>
    obtain ⟨k, g, cap, hk, rfl, rfl, hg, hb, hbox, hrow⟩ := hrel
    by_cases hlt : k < L.length
    · obtain ⟨i, hik⟩ : ∃ i, L[k]? = some i := ⟨L[k], by simp [hlt]⟩
      have hilt := hL i (List.mem_of_getElem? hik)
      have HLK : Hid _ := intsV_at hik
      have hne : B.cps ≠ [] := by intro h; rw [h] at hilt; simp at hilt
      obtain ⟨b, off, ea, hbs, hat⟩ := hB hne
      subst ea
      obtain ⟨s, hs⟩ : ∃ s, cpD B i = s := ⟨_, rfl⟩
      have hcx := hat i s (by rw [cpD_some hilt, hs])
      have HE : Hid (endsL B (L.take (k + 1)) = endsL B (L.take k) ++ [⟨s.number, s.version⟩]) := by
        unfold Hid
        rw [List.take_add_one, hik]
        simp [endsL, endOf, hs]
      have hbl : w.heap.size < wr.heap.size := (Array.getElem?_eq_some_iff.1 hbox.out).1
      have hgl : g < wr.heap.size := hrow.out.lt
      clear hik hne hat hs
      go_wp2
      refine wp_region_grows 21 (by kernel_rfl) (by kernel_rfl) ?_
      apply grow_eq
      · intro V W K A hW hd hA hK
        simp only [putAll, List.getElem?_toArray, List.getElem?_cons_succ, List.getElem?_cons_zero, Option.bind_some, Act.put, List.setIfInBounds_toArray, List.set_cons_succ, List.set_cons_zero] at hA
        clear hd
        generalize V 0 = x0 at hA
        generalize V 1 = x1 at hA
        generalize V 2 = x2 at hA
        generalize V 3 = x3 at hA
        generalize V 4 = x4 at hA
        generalize V 5 = x5 at hA
        generalize V 6 = x6 at hA
        generalize V 7 = x7 at hA
        generalize V 8 = x8 at hA
        generalize V 9 = x9 at hA
        generalize V 10 = x10 at hA
        generalize V 11 = x11 at hA
        generalize V 12 = x12 at hA
        generalize V 13 = x13 at hA
        generalize V 14 = x14 at hA
        generalize V 15 = x15 at hA
        generalize V 16 = x16 at hA
        generalize V 17 = x17 at hA
        generalize V 18 = x18 at hA
        generalize V 19 = x19 at hA
        generalize V 20 = x20 at hA
        obtain rfl := hA
        go_wp2
        exact hK.out _ (Below.refl _ _)
      apply grow_eq
      · intro V W K A hW hd hA hK
        simp only [putAll, List.getElem?_toArray, List.getElem?_cons_succ, List.getElem?_cons_zero, Option.bind_some, Act.put, List.setIfInBounds_toArray, List.set_cons_succ, List.set_cons_zero] at hA
        clear hd
        generalize V 0 = x0 at hA
        generalize V 1 = x1 at hA
        generalize V 2 = x2 at hA
        generalize V 3 = x3 at hA
        generalize V 4 = x4 at hA
        generalize V 5 = x5 at hA
        generalize V 6 = x6 at hA
        generalize V 7 = x7 at hA
        generalize V 8 = x8 at hA
        generalize V 9 = x9 at hA
        generalize V 10 = x10 at hA
        generalize V 11 = x11 at hA
        generalize V 12 = x12 at hA
        generalize V 13 = x13 at hA
        generalize V 14 = x14 at hA
        generalize V 15 = x15 at hA
        generalize V 16 = x16 at hA
        generalize V 17 = x17 at hA
        generalize V 18 = x18 at hA
        generalize V 19 = x19 at hA
        generalize V 20 = x20 at hA
        obtain rfl := hA
        go_wp2
        exact hK.out _ (Below.refl _ _)
      apply grow_eq
      · intro V W K A hW hd hA hK
        have d1 : V 1 = _ := hd 1 (by kernel_rfl)
        simp only [putAll, List.getElem?_toArray, List.getElem?_cons_succ, List.getElem?_cons_zero, Option.bind_some, Act.put, List.setIfInBounds_toArray, List.set_cons_succ, List.set_cons_zero] at hA
        clear hd
        generalize V 0 = x0 at hA
        generalize V 1 = x1 at d1 hA
        generalize V 2 = x2 at hA
        generalize V 3 = x3 at hA
        generalize V 4 = x4 at hA
        generalize V 5 = x5 at hA
        generalize V 6 = x6 at hA
        generalize V 7 = x7 at hA
        generalize V 8 = x8 at hA
        generalize V 9 = x9 at hA
        generalize V 10 = x10 at hA
        generalize V 11 = x11 at hA
        generalize V 12 = x12 at hA
        generalize V 13 = x13 at hA
        generalize V 14 = x14 at hA
        generalize V 15 = x15 at hA
        generalize V 16 = x16 at hA
        generalize V 17 = x17 at hA
        generalize V 18 = x18 at hA
        generalize V 19 = x19 at hA
        generalize V 20 = x20 at hA
        subst d1
        obtain rfl := hA
        have e2 := blk_cell (below_blk hW hbox.out hbl) 2 rfl
        go_wp2
        exact hK.out _ (Below.refl _ _)
      apply grow_eq
      · intro V W K A hW hd hA hK
        simp only [putAll, List.getElem?_toArray, List.getElem?_cons_succ, List.getElem?_cons_zero, Option.bind_some, Act.put, List.setIfInBounds_toArray, List.set_cons_succ, List.set_cons_zero] at hA
        clear hd
        generalize V 0 = x0 at hA
        generalize V 1 = x1 at hA
        generalize V 2 = x2 at hA
        generalize V 3 = x3 at hA
        generalize V 4 = x4 at hA
        generalize V 5 = x5 at hA
        generalize V 6 = x6 at hA
        generalize V 7 = x7 at hA
        generalize V 8 = x8 at hA
        generalize V 9 = x9 at hA
        generalize V 10 = x10 at hA
        generalize V 11 = x11 at hA
        generalize V 12 = x12 at hA
        generalize V 13 = x13 at hA
        generalize V 14 = x14 at hA
        generalize V 15 = x15 at hA
        generalize V 16 = x16 at hA
        generalize V 17 = x17 at hA
        generalize V 18 = x18 at hA
        generalize V 19 = x19 at hA
        generalize V 20 = x20 at hA
        obtain rfl := hA
        go_wp2
        exact hK.out _ (Below.refl _ _)
      apply grow_eq
      · intro V W K A hW hd hA hK
        simp only [putAll, List.getElem?_toArray, List.getElem?_cons_succ, List.getElem?_cons_zero, Option.bind_some, Act.put, List.setIfInBounds_toArray, List.set_cons_succ, List.set_cons_zero] at hA
        clear hd
        generalize V 0 = x0 at hA
        generalize V 1 = x1 at hA
        generalize V 2 = x2 at hA
        generalize V 3 = x3 at hA
        generalize V 4 = x4 at hA
        generalize V 5 = x5 at hA
        generalize V 6 = x6 at hA
        generalize V 7 = x7 at hA
        generalize V 8 = x8 at hA
        generalize V 9 = x9 at hA
        generalize V 10 = x10 at hA
        generalize V 11 = x11 at hA
        generalize V 12 = x12 at hA
        generalize V 13 = x13 at hA
        generalize V 14 = x14 at hA
        generalize V 15 = x15 at hA
        generalize V 16 = x16 at hA
        generalize V 17 = x17 at hA
        generalize V 18 = x18 at hA
        generalize V 19 = x19 at hA
        generalize V 20 = x20 at hA
        obtain rfl := hA
        go_wp2
        exact hK.out _ (Below.refl _ _)
      apply grow_eq
      · intro V W K A hW hd hA hK
        have d3 : V 3 = _ := hd 3 (by kernel_rfl)
        have d4 : V 4 = _ := hd 4 (by kernel_rfl)
        simp only [putAll, List.getElem?_toArray, List.getElem?_cons_succ, List.getElem?_cons_zero, Option.bind_some, Act.put, List.setIfInBounds_toArray, List.set_cons_succ, List.set_cons_zero] at hA
        clear hd
        generalize V 0 = x0 at hA
        generalize V 1 = x1 at hA
        generalize V 2 = x2 at hA
        generalize V 3 = x3 at d3 hA
        generalize V 4 = x4 at d4 hA
        generalize V 5 = x5 at hA
        generalize V 6 = x6 at hA
        generalize V 7 = x7 at hA
        generalize V 8 = x8 at hA
        generalize V 9 = x9 at hA
        generalize V 10 = x10 at hA
        generalize V 11 = x11 at hA
        generalize V 12 = x12 at hA
        generalize V 13 = x13 at hA
        generalize V 14 = x14 at hA
        generalize V 15 = x15 at hA
        generalize V 16 = x16 at hA
        generalize V 17 = x17 at hA
        generalize V 18 = x18 at hA
        generalize V 19 = x19 at hA
        generalize V 20 = x20 at hA
        subst d3
        subst d4
        obtain rfl := hA
        go_wp2
        exact hK.out _ (Below.refl _ _)
      apply grow_eq
      · intro V W K A hW hd hA hK
        have d5 : V 5 = _ := hd 5 (by kernel_rfl)
        simp only [putAll, List.getElem?_toArray, List.getElem?_cons_succ, List.getElem?_cons_zero, Option.bind_some, Act.put, List.setIfInBounds_toArray, List.set_cons_succ, List.set_cons_zero] at hA
        clear hd
        generalize V 0 = x0 at hA
        generalize V 1 = x1 at hA
        generalize V 2 = x2 at hA
        generalize V 3 = x3 at hA
        generalize V 4 = x4 at hA
        generalize V 5 = x5 at d5 hA
        generalize V 6 = x6 at hA
        generalize V 7 = x7 at hA
        generalize V 8 = x8 at hA
        generalize V 9 = x9 at hA
        generalize V 10 = x10 at hA
        generalize V 11 = x11 at hA
        generalize V 12 = x12 at hA
        generalize V 13 = x13 at hA
        generalize V 14 = x14 at hA
        generalize V 15 = x15 at hA
        generalize V 16 = x16 at hA
        generalize V 17 = x17 at hA
        generalize V 18 = x18 at hA
        generalize V 19 = x19 at hA
        generalize V 20 = x20 at hA
        subst d5
        obtain rfl := hA
        have y0 := (hLrow.out.below (hb.trans (hW.mono hb.size)) hgL).cell HLK.out
        go_wp2
        exact hK.out _ (Below.refl _ _)
      apply grow_eq
      · intro V W K A hW hd hA hK
        have d2 : V 2 = _ := hd 2 (by kernel_rfl)
        have d6 : V 6 = _ := hd 6 (by kernel_rfl)
        simp only [putAll, List.getElem?_toArray, List.getElem?_cons_succ, List.getElem?_cons_zero, Option.bind_some, Act.put, List.setIfInBounds_toArray, List.set_cons_succ, List.set_cons_zero] at hA
        clear hd
        generalize V 0 = x0 at hA
        generalize V 1 = x1 at hA
        generalize V 2 = x2 at d2 hA
        generalize V 3 = x3 at hA
        generalize V 4 = x4 at hA
        generalize V 5 = x5 at hA
        generalize V 6 = x6 at d6 hA
        generalize V 7 = x7 at hA
        generalize V 8 = x8 at hA
        generalize V 9 = x9 at hA
        generalize V 10 = x10 at hA
        generalize V 11 = x11 at hA
        generalize V 12 = x12 at hA
        generalize V 13 = x13 at hA
        generalize V 14 = x14 at hA
        generalize V 15 = x15 at hA
        generalize V 16 = x16 at hA
        generalize V 17 = x17 at hA
        generalize V 18 = x18 at hA
        generalize V 19 = x19 at hA
        generalize V 20 = x20 at hA
        subst d2
        subst d6
        obtain rfl := hA
        go_wp2
        exact hK.out _ (Below.refl _ _)
      apply grow_eq
      · intro V W K A hW hd hA hK
        have d7 : V 7 = _ := hd 7 (by kernel_rfl)
        simp only [putAll, List.getElem?_toArray, List.getElem?_cons_succ, List.getElem?_cons_zero, Option.bind_some, Act.put, List.setIfInBounds_toArray, List.set_cons_succ, List.set_cons_zero] at hA
        clear hd
        generalize V 0 = x0 at hA
        generalize V 1 = x1 at hA
        generalize V 2 = x2 at hA
        generalize V 3 = x3 at hA
        generalize V 4 = x4 at hA
        generalize V 5 = x5 at hA
        generalize V 6 = x6 at hA
        generalize V 7 = x7 at d7 hA
        generalize V 8 = x8 at hA
        generalize V 9 = x9 at hA
        generalize V 10 = x10 at hA
        generalize V 11 = x11 at hA
        generalize V 12 = x12 at hA
        generalize V 13 = x13 at hA
        generalize V 14 = x14 at hA
        generalize V 15 = x15 at hA
        generalize V 16 = x16 at hA
        generalize V 17 = x17 at hA
        generalize V 18 = x18 at hA
        generalize V 19 = x19 at hA
        generalize V 20 = x20 at hA
        subst d7
        obtain rfl := hA
        go_wp2
        exact hK.out _ (Below.refl _ _)
      apply grow_eq
      · intro V W K A hW hd hA hK
        have d8 : V 8 = _ := hd 8 (by kernel_rfl)
        simp only [putAll, List.getElem?_toArray, List.getElem?_cons_succ, List.getElem?_cons_zero, Option.bind_some, Act.put, List.setIfInBounds_toArray, List.set_cons_succ, List.set_cons_zero] at hA
        clear hd
        generalize V 0 = x0 at hA
        generalize V 1 = x1 at hA
        generalize V 2 = x2 at hA
        generalize V 3 = x3 at hA
        generalize V 4 = x4 at hA
        generalize V 5 = x5 at hA
        generalize V 6 = x6 at hA
        generalize V 7 = x7 at hA
        generalize V 8 = x8 at d8 hA
        generalize V 9 = x9 at hA
        generalize V 10 = x10 at hA
        generalize V 11 = x11 at hA
        generalize V 12 = x12 at hA
        generalize V 13 = x13 at hA
        generalize V 14 = x14 at hA
        generalize V 15 = x15 at hA
        generalize V 16 = x16 at hA
        generalize V 17 = x17 at hA
        generalize V 18 = x18 at hA
        generalize V 19 = x19 at hA
        generalize V 20 = x20 at hA
        subst d8
        obtain rfl := hA
        have hq := hcx.below (hb.trans (hW.mono hb.size)) hbs
        unfold CpAt at hq
        obtain ⟨q0, q1, q2, q3, q4, q5, q6⟩ := hq
        go_wp2
        exact hK.out _ (Below.refl _ _)
      apply grow_eq
      · intro V W K A hW hd hA hK
        simp only [putAll, List.getElem?_toArray, List.getElem?_cons_succ, List.getElem?_cons_zero, Option.bind_some, Act.put, List.setIfInBounds_toArray, List.set_cons_succ, List.set_cons_zero] at hA
        clear hd
        generalize V 0 = x0 at hA
        generalize V 1 = x1 at hA
        generalize V 2 = x2 at hA
        generalize V 3 = x3 at hA
        generalize V 4 = x4 at hA
        generalize V 5 = x5 at hA
        generalize V 6 = x6 at hA
        generalize V 7 = x7 at hA
        generalize V 8 = x8 at hA
        generalize V 9 = x9 at hA
        generalize V 10 = x10 at hA
        generalize V 11 = x11 at hA
        generalize V 12 = x12 at hA
        generalize V 13 = x13 at hA
        generalize V 14 = x14 at hA
        generalize V 15 = x15 at hA
        generalize V 16 = x16 at hA
        generalize V 17 = x17 at hA
        generalize V 18 = x18 at hA
        generalize V 19 = x19 at hA
        generalize V 20 = x20 at hA
        obtain rfl := hA
        go_wp2
        exact hK.out _ (Below.refl _ _)
      apply grow_eq
      · intro V W K A hW hd hA hK
        have d10 : V 10 = _ := hd 10 (by kernel_rfl)
        simp only [putAll, List.getElem?_toArray, List.getElem?_cons_succ, List.getElem?_cons_zero, Option.bind_some, Act.put, List.setIfInBounds_toArray, List.set_cons_succ, List.set_cons_zero] at hA
        clear hd
        generalize V 0 = x0 at hA
        generalize V 1 = x1 at hA
        generalize V 2 = x2 at hA
        generalize V 3 = x3 at hA
        generalize V 4 = x4 at hA
        generalize V 5 = x5 at hA
        generalize V 6 = x6 at hA
        generalize V 7 = x7 at hA
        generalize V 8 = x8 at hA
        generalize V 9 = x9 at hA
        generalize V 10 = x10 at d10 hA
        generalize V 11 = x11 at hA
        generalize V 12 = x12 at hA
        generalize V 13 = x13 at hA
        generalize V 14 = x14 at hA
        generalize V 15 = x15 at hA
        generalize V 16 = x16 at hA
        generalize V 17 = x17 at hA
        generalize V 18 = x18 at hA
        generalize V 19 = x19 at hA
        generalize V 20 = x20 at hA
        subst d10
        obtain rfl := hA
        have e2 := blk_cell (below_blk hW hbox.out hbl) 2 rfl
        go_wp2
        exact hK.out _ (Below.refl _ _)
      apply grow_eq
      · intro V W K A hW hd hA hK
        simp only [putAll, List.getElem?_toArray, List.getElem?_cons_succ, List.getElem?_cons_zero, Option.bind_some, Act.put, List.setIfInBounds_toArray, List.set_cons_succ, List.set_cons_zero] at hA
        clear hd
        generalize V 0 = x0 at hA
        generalize V 1 = x1 at hA
        generalize V 2 = x2 at hA
        generalize V 3 = x3 at hA
        generalize V 4 = x4 at hA
        generalize V 5 = x5 at hA
        generalize V 6 = x6 at hA
        generalize V 7 = x7 at hA
        generalize V 8 = x8 at hA
        generalize V 9 = x9 at hA
        generalize V 10 = x10 at hA
        generalize V 11 = x11 at hA
        generalize V 12 = x12 at hA
        generalize V 13 = x13 at hA
        generalize V 14 = x14 at hA
        generalize V 15 = x15 at hA
        generalize V 16 = x16 at hA
        generalize V 17 = x17 at hA
        generalize V 18 = x18 at hA
        generalize V 19 = x19 at hA
        generalize V 20 = x20 at hA
        obtain rfl := hA
        go_wp2
        exact hK.out _ (Below.refl _ _)
      apply grow_eq
      · intro V W K A hW hd hA hK
        simp only [putAll, List.getElem?_toArray, List.getElem?_cons_succ, List.getElem?_cons_zero, Option.bind_some, Act.put, List.setIfInBounds_toArray, List.set_cons_succ, List.set_cons_zero] at hA
        clear hd
        generalize V 0 = x0 at hA
        generalize V 1 = x1 at hA
        generalize V 2 = x2 at hA
        generalize V 3 = x3 at hA
        generalize V 4 = x4 at hA
        generalize V 5 = x5 at hA
        generalize V 6 = x6 at hA
        generalize V 7 = x7 at hA
        generalize V 8 = x8 at hA
        generalize V 9 = x9 at hA
        generalize V 10 = x10 at hA
        generalize V 11 = x11 at hA
        generalize V 12 = x12 at hA
        generalize V 13 = x13 at hA
        generalize V 14 = x14 at hA
        generalize V 15 = x15 at hA
        generalize V 16 = x16 at hA
        generalize V 17 = x17 at hA
        generalize V 18 = x18 at hA
        generalize V 19 = x19 at hA
        generalize V 20 = x20 at hA
        obtain rfl := hA
        go_wp2
        exact hK.out _ (Below.refl _ _)
      apply grow_eq
      · intro V W K A hW hd hA hK
        have d12 : V 12 = _ := hd 12 (by kernel_rfl)
        have d13 : V 13 = _ := hd 13 (by kernel_rfl)
        simp only [putAll, List.getElem?_toArray, List.getElem?_cons_succ, List.getElem?_cons_zero, Option.bind_some, Act.put, List.setIfInBounds_toArray, List.set_cons_succ, List.set_cons_zero] at hA
        clear hd
        generalize V 0 = x0 at hA
        generalize V 1 = x1 at hA
        generalize V 2 = x2 at hA
        generalize V 3 = x3 at hA
        generalize V 4 = x4 at hA
        generalize V 5 = x5 at hA
        generalize V 6 = x6 at hA
        generalize V 7 = x7 at hA
        generalize V 8 = x8 at hA
        generalize V 9 = x9 at hA
        generalize V 10 = x10 at hA
        generalize V 11 = x11 at hA
        generalize V 12 = x12 at d12 hA
        generalize V 13 = x13 at d13 hA
        generalize V 14 = x14 at hA
        generalize V 15 = x15 at hA
        generalize V 16 = x16 at hA
        generalize V 17 = x17 at hA
        generalize V 18 = x18 at hA
        generalize V 19 = x19 at hA
        generalize V 20 = x20 at hA
        subst d12
        subst d13
        obtain rfl := hA
        go_wp2
        exact hK.out _ (Below.refl _ _)
      apply grow_eq
      · intro V W K A hW hd hA hK
        have d14 : V 14 = _ := hd 14 (by kernel_rfl)
        simp only [putAll, List.getElem?_toArray, List.getElem?_cons_succ, List.getElem?_cons_zero, Option.bind_some, Act.put, List.setIfInBounds_toArray, List.set_cons_succ, List.set_cons_zero] at hA
        clear hd
        generalize V 0 = x0 at hA
        generalize V 1 = x1 at hA
        generalize V 2 = x2 at hA
        generalize V 3 = x3 at hA
        generalize V 4 = x4 at hA
        generalize V 5 = x5 at hA
        generalize V 6 = x6 at hA
        generalize V 7 = x7 at hA
        generalize V 8 = x8 at hA
        generalize V 9 = x9 at hA
        generalize V 10 = x10 at hA
        generalize V 11 = x11 at hA
        generalize V 12 = x12 at hA
        generalize V 13 = x13 at hA
        generalize V 14 = x14 at d14 hA
        generalize V 15 = x15 at hA
        generalize V 16 = x16 at hA
        generalize V 17 = x17 at hA
        generalize V 18 = x18 at hA
        generalize V 19 = x19 at hA
        generalize V 20 = x20 at hA
        subst d14
        obtain rfl := hA
        have y0 := (hLrow.out.below (hb.trans (hW.mono hb.size)) hgL).cell HLK.out
        go_wp2
        exact hK.out _ (Below.refl _ _)
      apply grow_eq
      · intro V W K A hW hd hA hK
        have d11 : V 11 = _ := hd 11 (by kernel_rfl)
        have d15 : V 15 = _ := hd 15 (by kernel_rfl)
        simp only [putAll, List.getElem?_toArray, List.getElem?_cons_succ, List.getElem?_cons_zero, Option.bind_some, Act.put, List.setIfInBounds_toArray, List.set_cons_succ, List.set_cons_zero] at hA
        clear hd
        generalize V 0 = x0 at hA
        generalize V 1 = x1 at hA
        generalize V 2 = x2 at hA
        generalize V 3 = x3 at hA
        generalize V 4 = x4 at hA
        generalize V 5 = x5 at hA
        generalize V 6 = x6 at hA
        generalize V 7 = x7 at hA
        generalize V 8 = x8 at hA
        generalize V 9 = x9 at hA
        generalize V 10 = x10 at hA
        generalize V 11 = x11 at d11 hA
        generalize V 12 = x12 at hA
        generalize V 13 = x13 at hA
        generalize V 14 = x14 at hA
        generalize V 15 = x15 at d15 hA
        generalize V 16 = x16 at hA
        generalize V 17 = x17 at hA
        generalize V 18 = x18 at hA
        generalize V 19 = x19 at hA
        generalize V 20 = x20 at hA
        subst d11
        subst d15
        obtain rfl := hA
        go_wp2
        exact hK.out _ (Below.refl _ _)
      apply grow_eq
      · intro V W K A hW hd hA hK
        have d16 : V 16 = _ := hd 16 (by kernel_rfl)
        simp only [putAll, List.getElem?_toArray, List.getElem?_cons_succ, List.getElem?_cons_zero, Option.bind_some, Act.put, List.setIfInBounds_toArray, List.set_cons_succ, List.set_cons_zero] at hA
        clear hd
        generalize V 0 = x0 at hA
        generalize V 1 = x1 at hA
        generalize V 2 = x2 at hA
        generalize V 3 = x3 at hA
        generalize V 4 = x4 at hA
        generalize V 5 = x5 at hA
        generalize V 6 = x6 at hA
        generalize V 7 = x7 at hA
        generalize V 8 = x8 at hA
        generalize V 9 = x9 at hA
        generalize V 10 = x10 at hA
        generalize V 11 = x11 at hA
        generalize V 12 = x12 at hA
        generalize V 13 = x13 at hA
        generalize V 14 = x14 at hA
        generalize V 15 = x15 at hA
        generalize V 16 = x16 at d16 hA
        generalize V 17 = x17 at hA
        generalize V 18 = x18 at hA
        generalize V 19 = x19 at hA
        generalize V 20 = x20 at hA
        subst d16
        obtain rfl := hA
        go_wp2
        exact hK.out _ (Below.refl _ _)
      apply grow_eq
      · intro V W K A hW hd hA hK
        have d17 : V 17 = _ := hd 17 (by kernel_rfl)
        simp only [putAll, List.getElem?_toArray, List.getElem?_cons_succ, List.getElem?_cons_zero, Option.bind_some, Act.put, List.setIfInBounds_toArray, List.set_cons_succ, List.set_cons_zero] at hA
        clear hd
        generalize V 0 = x0 at hA
        generalize V 1 = x1 at hA
        generalize V 2 = x2 at hA
        generalize V 3 = x3 at hA
        generalize V 4 = x4 at hA
        generalize V 5 = x5 at hA
        generalize V 6 = x6 at hA
        generalize V 7 = x7 at hA
        generalize V 8 = x8 at hA
        generalize V 9 = x9 at hA
        generalize V 10 = x10 at hA
        generalize V 11 = x11 at hA
        generalize V 12 = x12 at hA
        generalize V 13 = x13 at hA
        generalize V 14 = x14 at hA
        generalize V 15 = x15 at hA
        generalize V 16 = x16 at hA
        generalize V 17 = x17 at d17 hA
        generalize V 18 = x18 at hA
        generalize V 19 = x19 at hA
        generalize V 20 = x20 at hA
        subst d17
        obtain rfl := hA
        have hq := hcx.below (hb.trans (hW.mono hb.size)) hbs
        unfold CpAt at hq
        obtain ⟨q0, q1, q2, q3, q4, q5, q6⟩ := hq
        go_wp2
        exact hK.out _ (Below.refl _ _)
      apply grow_eq
      · intro V W K A hW hd hA hK
        have d9 : V 9 = _ := hd 9 (by kernel_rfl)
        have d18 : V 18 = _ := hd 18 (by kernel_rfl)
        simp only [putAll, List.getElem?_toArray, List.getElem?_cons_succ, List.getElem?_cons_zero, Option.bind_some, Act.put, List.setIfInBounds_toArray, List.set_cons_succ, List.set_cons_zero] at hA
        clear hd
        generalize V 0 = x0 at hA
        generalize V 1 = x1 at hA
        generalize V 2 = x2 at hA
        generalize V 3 = x3 at hA
        generalize V 4 = x4 at hA
        generalize V 5 = x5 at hA
        generalize V 6 = x6 at hA
        generalize V 7 = x7 at hA
        generalize V 8 = x8 at hA
        generalize V 9 = x9 at d9 hA
        generalize V 10 = x10 at hA
        generalize V 11 = x11 at hA
        generalize V 12 = x12 at hA
        generalize V 13 = x13 at hA
        generalize V 14 = x14 at hA
        generalize V 15 = x15 at hA
        generalize V 16 = x16 at hA
        generalize V 17 = x17 at hA
        generalize V 18 = x18 at d18 hA
        generalize V 19 = x19 at hA
        generalize V 20 = x20 at hA
        subst d9
        subst d18
        obtain rfl := hA
        go_wp2
        exact hK.out _ (Below.refl _ _)
      refine grow_op (fun v W => ∃ p, v = .slice (some ⟨p, 0, none⟩) 1 1 ∧ wr.heap.size ≤ p ∧ W.heap[p]? = some (.cells #[.int .i64 s.number, .int .i64 s.version] 118 (0, 0))) (fun v W W2 ⟨p, h1, h2, h3⟩ hb => ⟨p, h1, h2, below_blk hb h3 (Array.getElem?_eq_some_iff.1 h3).1⟩) ?_ ?_
      · intro V W K A hW hd hA hK
        have d19 : V 19 = _ := hd 19 (by kernel_rfl)
        simp only [putAll, List.getElem?_toArray, List.getElem?_cons_succ, List.getElem?_cons_zero, Option.bind_some, Act.put, List.setIfInBounds_toArray, List.set_cons_succ, List.set_cons_zero] at hA
        clear hd
        generalize V 0 = x0 at hA
        generalize V 1 = x1 at hA
        generalize V 2 = x2 at hA
        generalize V 3 = x3 at hA
        generalize V 4 = x4 at hA
        generalize V 5 = x5 at hA
        generalize V 6 = x6 at hA
        generalize V 7 = x7 at hA
        generalize V 8 = x8 at hA
        generalize V 9 = x9 at hA
        generalize V 10 = x10 at hA
        generalize V 11 = x11 at hA
        generalize V 12 = x12 at hA
        generalize V 13 = x13 at hA
        generalize V 14 = x14 at hA
        generalize V 15 = x15 at hA
        generalize V 16 = x16 at hA
        generalize V 17 = x17 at hA
        generalize V 18 = x18 at hA
        generalize V 19 = x19 at d19 hA
        generalize V 20 = x20 at hA
        subst d19
        obtain rfl := hA
        go_wp2
        exact hK.out _ _ (below_box W _) ⟨_, rfl, hW.size, heap_alloc_new W _⟩
      intro V W A hW hS hA
      have d0 : V 0 = _ := hS 0 (by omega)
      have d1 : V 1 = _ := hS 1 (by omega)
      have d2 : V 2 = _ := hS 2 (by omega)
      have d3 : V 3 = _ := hS 3 (by omega)
      have d4 : V 4 = _ := hS 4 (by omega)
      have d5 : V 5 = _ := hS 5 (by omega)
      have d6 : V 6 = _ := hS 6 (by omega)
      have d7 : V 7 = _ := hS 7 (by omega)
      have d8 : V 8 = _ := hS 8 (by omega)
      have d9 : V 9 = _ := hS 9 (by omega)
      have d10 : V 10 = _ := hS 10 (by omega)
      have d11 : V 11 = _ := hS 11 (by omega)
      have d12 : V 12 = _ := hS 12 (by omega)
      have d13 : V 13 = _ := hS 13 (by omega)
      have d14 : V 14 = _ := hS 14 (by omega)
      have d15 : V 15 = _ := hS 15 (by omega)
      have d16 : V 16 = _ := hS 16 (by omega)
      have d17 : V 17 = _ := hS 17 (by omega)
      have d18 : V 18 = _ := hS 18 (by omega)
      have d19 : V 19 = _ := hS 19 (by omega)
      have d20 : (fun v W => ∃ p, v = .slice (some ⟨p, 0, none⟩) 1 1 ∧ wr.heap.size ≤ p ∧ W.heap[p]? = some (.cells #[.int .i64 s.number, .int .i64 s.version] 118 (0, 0))) (V 20) W := hS 20 (by omega)
      simp only [putAll, List.getElem?_toArray, List.getElem?_cons_succ, List.getElem?_cons_zero, Option.bind_some, Act.put, List.setIfInBounds_toArray, List.set_cons_succ, List.set_cons_zero] at hA
      clear hS
      generalize V 0 = x0 at d0 hA
      generalize V 1 = x1 at d1 hA
      generalize V 2 = x2 at d2 hA
      generalize V 3 = x3 at d3 hA
      generalize V 4 = x4 at d4 hA
      generalize V 5 = x5 at d5 hA
      generalize V 6 = x6 at d6 hA
      generalize V 7 = x7 at d7 hA
      generalize V 8 = x8 at d8 hA
      generalize V 9 = x9 at d9 hA
      generalize V 10 = x10 at d10 hA
      generalize V 11 = x11 at d11 hA
      generalize V 12 = x12 at d12 hA
      generalize V 13 = x13 at d13 hA
      generalize V 14 = x14 at d14 hA
      generalize V 15 = x15 at d15 hA
      generalize V 16 = x16 at d16 hA
      generalize V 17 = x17 at d17 hA
      generalize V 18 = x18 at d18 hA
      generalize V 19 = x19 at d19 hA
      generalize V 20 = x20 at d20 hA
      subst d0
      subst d1
      subst d2
      subst d3
      subst d4
      subst d5
      subst d6
      subst d7
      subst d8
      subst d9
      subst d10
      subst d11
      subst d12
      subst d13
      subst d14
      subst d15
      subst d16
      subst d17
      subst d18
      subst d19
      obtain rfl := hA
      simp only [List.drop_succ_cons, List.drop_zero]
      obtain ⟨p, rfl, hp, hpz⟩ := d20
      have hz := hb.size
      refine wpList_append_row rfl (.tmp 14) (.tmp 34) 57 rfl 118 _ 2 16 Tryz.underlying57 Tryz.infoEnd rfl g k cap _ rfl (hrow.out.below hW hgl) ⟨p, 0, none⟩ 1 1 [.int .i64 s.number, .int .i64 s.version] rfl rfl (news_row hpz) (by simp [Value.oneCell']) (by unfold maxLen; omega) (by omega) ?_
      intro g' cap' w2 hg' hrow' hgr
      have hzW := hW.size
      have hbW := hb.trans (hW.mono hb.size)
      have hb2 : Below w.heap.size w w2 := hbW.trans (below_of_grown hgr (by omega) (by omega))
      have hbox2 : Hid _ := (hgr.block w.heap.size (by omega) (fun e => by have := Option.some.inj e; omega)).trans (below_blk hW hbox.out hbl)
      clear hpz hW hgr
      go_wp2
      go_roundw
      case rel => exact ⟨k + 1, g', cap', by omega, by go_num, rfl, by omega, hb2, hbox2, by rw [HE.out, ensV_add]; exact hrow'⟩
      case measure => simp [intOf]; omega
    · go_wp2
      go_ret
      have hkl : k = L.length := by omega
      subst hkl
      rw [List.take_length] at hrow
      exact ⟨g, cap, rfl, by omega, hrow.out, hb⟩

end Go.Proofs.YtbceafpodamnfabGreat
