/-
  My own: Sg.
-/
import Derived.Test.YtbceafpodamnfabGreatA24
set_option linter.unusedVariables false
set_option linter.unusedSimpArgs false
/-
  My own. The program's stewards: replacing.
-/
namespace Go.Proofs.YtbceafpodamnfabGreat
open Go.RowKit Go.Sort

def replaceO (s : Svc) (N : Cnt) (F : List Sn) : Option Ac :=
  if s.gone = true ∨ F.length = 0 ∨ N.live < s.want then none
  else if N.live < s.want + s.over then some { a0 s with create := 1 }
  else endFirstO s N.ready (F.filter fun x => mayR s x.c N.ready)
theorem replaceO_no1 (s : Svc) (N : Cnt) (F : List Sn) (h : F.length = 0) : replaceO s N F = none := by unfold replaceO; rw [if_pos (.inr (.inl h))]
theorem replaceO_no2 (s : Svc) (N : Cnt) (F : List Sn) (h : N.live < s.want) : replaceO s N F = none := by unfold replaceO; rw [if_pos (.inr (.inr h))]
theorem replaceO_no3 (s : Svc) (N : Cnt) (F : List Sn) (h : s.gone = true) : replaceO s N F = none := by unfold replaceO; rw [if_pos (.inl h)]
theorem replaceO_one (s : Svc) (N : Cnt) (F : List Sn) (h1 : s.gone = false) (h2 : ¬F.length = 0) (h3 : ¬N.live < s.want) (h4 : N.live < s.want + s.over) : replaceO s N F = some { a0 s with create := 1 } := by
  unfold replaceO; rw [if_neg (by simp [h1, h2, h3]), if_pos h4]
theorem replaceO_end (s : Svc) (N : Cnt) (F : List Sn) (h1 : s.gone = false) (h2 : ¬F.length = 0) (h3 : ¬N.live < s.want) (h4 : ¬N.live < s.want + s.over) : replaceO s N F = endFirstO s N.ready (F.filter fun x => mayR s x.c N.ready) := by
  unfold replaceO; rw [if_neg (by simp [h1, h2, h3]), if_neg h4]

set_option maxRecDepth 100000 in
set_option maxHeartbeats 16000000 in
theorem replace_old (s : Svc) (N : Cnt) (dr : Int) (l : List Sn) (lo : Nat) (al : Option Addr) (cl : Nat) (w : World) (hl : l.length ≤ 1048576) (hsi : SvcIn s) (hN0 : 0 ≤ N.live) (hN1 : N.live ≤ 1048576) (hr0 : 0 ≤ N.ready) (hr1 : N.ready ≤ 1048576) (hL : OwnSn lo w al cl l) :
    Calls Tryz.prog 113 #[.agg #[.string s.name, .int .i64 s.version, .bool s.gone, .int .i64 s.image, .int .i64 s.want, .int .i64 s.down, .int .i64 s.over, .int .i64 s.next, .int .i64 s.per, .int .i64 s.least, .int .i64 s.most, .int .i64 s.load, .int .i64 s.cool, .int .i64 N.live, .int .i64 N.ready, .int .i64 N.old, .int .i64 N.failed, .int .i64 N.ending, .int .i64 dr, .slice al l.length cl], .func (.func 114) #[] #[]] w fun e w' => Asked w.heap.size w' e (replaceO s N (l.filter (fun x => x.old))) ∧ Below w.heap.size w w' := by
  have HL : Hid (OwnSn lo w al cl l) := hL
  have hw0 := hsi.want0
  have hw1 := hsi.want1
  have ho0 := hsi.over0
  have ho1 := hsi.over1
  have HSI : Hid (SvcIn s) := hsi
  clear hL hsi
  obtain ⟨F, HF⟩ : ∃ F, Hid (l.filter (fun x => x.old) = F) := ⟨_, rfl⟩
  have hFl : F.length ≤ 1048576 := by rw [← HF.out]; exact Nat.le_trans (List.length_filter_le _ _) hl
  rw [HF.out]
  obtain ⟨W0, hW0, t0, t1, hz0, hz0', hb0⟩ := two_newW w (.cells #[.string s.name, .int .i64 s.version, .bool s.gone, .int .i64 s.image, .int .i64 s.want, .int .i64 s.down, .int .i64 s.over, .int .i64 s.next, .int .i64 s.per, .int .i64 s.least, .int .i64 s.most, .int .i64 s.load, .int .i64 s.cool, .int .i64 N.live, .int .i64 N.ready, .int .i64 N.old, .int .i64 N.failed, .int .i64 N.ending, .int .i64 dr, .slice al l.length cl] 108) (.cells #[.string ⟨#[]⟩, .int .i64 0, .int .i64 0, .int .i64 0, .int .i64 0, .bool false, .slice none 0 0, .bool false] 59)
  have T0 : Hid _ := t0
  have T1 : Hid _ := t1
  clear t0 t1
  go_enter Tryz.func113, Tryz.ntmps113
  go_upto_region 1 with fail
  clear hW0
  have hlt0 : w.heap.size < W0.heap.size := by omega
  have z0 := blk_cell T0.out 0 rfl
  have z1 := blk_cell T0.out 1 rfl
  have z2 := blk_cell T0.out 2 rfl
  have z3 := blk_cell T0.out 3 rfl
  have z4 := blk_cell T0.out 4 rfl
  have z5 := blk_cell T0.out 5 rfl
  have z6 := blk_cell T0.out 6 rfl
  have z7 := blk_cell T0.out 7 rfl
  have z8 := blk_cell T0.out 8 rfl
  have z9 := blk_cell T0.out 9 rfl
  have z10 := blk_cell T0.out 10 rfl
  have z11 := blk_cell T0.out 11 rfl
  have z12 := blk_cell T0.out 12 rfl
  have z13 := blk_cell T0.out 13 rfl
  go_cut [6, 7] (fun va vb wx => ∃ w1 : World, va = .pointer (some ⟨W0.heap.size, 0, none⟩) ∧ vb = .int .i64 N.live ∧ (W0.alloc (.cells #[.string s.name, .int .i64 s.version, .bool s.gone, .int .i64 s.image, .int .i64 s.want, .int .i64 s.down, .int .i64 s.over, .int .i64 s.next, .int .i64 s.per, .int .i64 s.least, .int .i64 s.most, .int .i64 s.load, .int .i64 s.cool] 48)).drew = w1 ∧ w1 = wx)
  case first =>
    go_region
    all_goals
      go_wp2_with fail
      go_meet
      exact ⟨_, rfl, rfl, rfl, rfl⟩
  obtain ⟨w1, rfl, rfl, hw1e, rfl⟩ := hcut
  clear z0 z1 z2 z3 z4 z5 z6 z7 z8 z9 z10 z11 z12 z13
  have V1 : Hid (w1.heap[W0.heap.size]? = some (.cells #[.string s.name, .int .i64 s.version, .bool s.gone, .int .i64 s.image, .int .i64 s.want, .int .i64 s.down, .int .i64 s.over, .int .i64 s.next, .int .i64 s.per, .int .i64 s.least, .int .i64 s.most, .int .i64 s.load, .int .i64 s.cool] 48 (0, 0))) := by unfold Hid; rw [← hw1e]; exact heap_alloc_new W0 _
  have hbb1 : Below W0.heap.size W0 w1 := by rw [← hw1e]; exact ⟨rfl, rfl, rfl, by show W0.heap.size ≤ (W0.heap.push _).size; simp, fun k hk => heap_alloc_old W0 _ hk⟩
  have S1 : Hid _ := below_blk hbb1 T0.out (by omega)
  have R1 : Hid _ := below_blk hbb1 T1.out (by omega)
  have hbw1 := hb0.trans (hbb1.mono hb0.size)
  have hpl : W0.heap.size < w1.heap.size := (Array.getElem?_eq_some_iff.1 V1.out).1
  obtain ⟨p, hpe, hpz⟩ : ∃ p, W0.heap.size = p ∧ w.heap.size + 1 + 1 ≤ p := ⟨_, rfl, hz0⟩
  rw [hpe] at V1 hpl
  rw [hpe]
  clear hw1e hbb1 T0 T1 hb0 hpe hz0 hz0' hlt0 W0
  have y19 := blk_cell S1.out 19 rfl
  go_wp2_with fail
  refine (kept_old l lo al cl _ hl (own_below HL.out hbw1 (Nat.le_refl _))).mono ?_
  rw [HF.out]
  rintro e w2 ⟨aF, cF, rfl, hF2, hb2⟩
  have hz2 := hb2.size
  have hzw1 := hbw1.size
  have HF2 : Hid (OwnSn w1.heap.size w2 aF cF F) := hF2
  have S2 : Hid _ := below_blk hb2 S1.out (by omega)
  have R2 : Hid _ := below_blk hb2 R1.out (by omega)
  have V2 : Hid _ := below_blk hb2 V1.out hpl
  have hbw2 := hbw1.trans (hb2.mono hbw1.size)
  clear y19 S1 R1 V1 hbw1 hb2 hF2
  have v4 := blk_cell V2.out 4 rfl; have v6 := blk_cell V2.out 6 rfl
  have v2a := blk_cell V2.out 2 rfl
  rcases Bool.eq_false_or_eq_true s.gone with hgo0 | hgo0
  · have hgo : Hid (s.gone = true) := hgo0
    have v2 : w2.cell? ⟨p, 2, none⟩ = some (.bool true) := by rw [hgo0] at v2a; exact v2a
    clear hgo0 v2a
    go_wp2_with (first
      | (refine wpList_store_only rfl 59 (.tmp 4) (.tmp 31) rfl (w.heap.size + 1) 0 #[.string ⟨#[]⟩, .int .i64 0, .int .i64 0, .int .i64 0, .int .i64 0, .bool false, .slice none 0 0, .bool false] rfl rfl 59 #[.string ⟨#[]⟩, .int .i64 0, .int .i64 0, .int .i64 0, .int .i64 0, .bool false, .slice none 0 0, .bool false] R2.out Tryz.infosActS (Nat.le_of_ble_eq_true rfl) (by simp [Value.oneCell']) ?_; intro wf hz on; have RF : Hid (wf.heap[(w.heap.size + 1)]? = some (.cells #[.string ⟨#[]⟩, .int .i64 0, .int .i64 0, .int .i64 0, .int .i64 0, .bool false, .slice none 0 0, .bool false] 59 (0, 0))) := hz; have BF := hbw2.trans (on.below.mono (by omega)); have p0 := blk_cell RF.out 0 rfl; have p1 := blk_cell RF.out 1 rfl; have p2 := blk_cell RF.out 2 rfl; have p3 := blk_cell RF.out 3 rfl; have p4 := blk_cell RF.out 4 rfl; have p5 := blk_cell RF.out 5 rfl; have p6 := blk_cell RF.out 6 rfl; have p7 := blk_cell RF.out 7 rfl; clear hz on))
    refine bodyPost_ret (v := .tuple #[.agg #[.string ⟨#[]⟩, .int .i64 0, .int .i64 0, .int .i64 0, .int .i64 0, .bool false, .slice none 0 0, .bool false], .bool false]) (by simp [results, Tryz.results113, go_sem, p0, p1, p2, p3, p4, p5, p6, p7]) rfl ⟨by rw [replaceO_no3 s N F hgo.out]; exact asked_no _ _, BF⟩
  have hgo : Hid (s.gone = false) := hgo0
  have v2 : w2.cell? ⟨p, 2, none⟩ = some (.bool false) := by rw [hgo0] at v2a; exact v2a
  clear hgo0 v2a
  · by_cases hF0 : F.length = 0
    · have hF0' : ((F.length : Int) == 0) = true := by simp [hF0]
      go_wp2_with (first
        | (refine wpList_store_only rfl 59 (.tmp 4) (.tmp 31) rfl (w.heap.size + 1) 0 #[.string ⟨#[]⟩, .int .i64 0, .int .i64 0, .int .i64 0, .int .i64 0, .bool false, .slice none 0 0, .bool false] rfl rfl 59 #[.string ⟨#[]⟩, .int .i64 0, .int .i64 0, .int .i64 0, .int .i64 0, .bool false, .slice none 0 0, .bool false] R2.out Tryz.infosActS (Nat.le_of_ble_eq_true rfl) (by simp [Value.oneCell']) ?_; intro wf hz on; have RF : Hid (wf.heap[(w.heap.size + 1)]? = some (.cells #[.string ⟨#[]⟩, .int .i64 0, .int .i64 0, .int .i64 0, .int .i64 0, .bool false, .slice none 0 0, .bool false] 59 (0, 0))) := hz; have BF := hbw2.trans (on.below.mono (by omega)); have p0 := blk_cell RF.out 0 rfl; have p1 := blk_cell RF.out 1 rfl; have p2 := blk_cell RF.out 2 rfl; have p3 := blk_cell RF.out 3 rfl; have p4 := blk_cell RF.out 4 rfl; have p5 := blk_cell RF.out 5 rfl; have p6 := blk_cell RF.out 6 rfl; have p7 := blk_cell RF.out 7 rfl; clear hz on))
      refine bodyPost_ret (v := .tuple #[.agg #[.string ⟨#[]⟩, .int .i64 0, .int .i64 0, .int .i64 0, .int .i64 0, .bool false, .slice none 0 0, .bool false], .bool false]) (by simp [results, Tryz.results113, go_sem, p0, p1, p2, p3, p4, p5, p6, p7]) rfl ⟨by rw [replaceO_no1 s N F hF0]; exact asked_no _ _, BF⟩
    · have hF0' : ((F.length : Int) == 0) = false := by simp [hF0]
      by_cases hlw : N.live < s.want
      · go_wp2_with (first
          | (refine wpList_store_only rfl 59 (.tmp 4) (.tmp 31) rfl (w.heap.size + 1) 0 #[.string ⟨#[]⟩, .int .i64 0, .int .i64 0, .int .i64 0, .int .i64 0, .bool false, .slice none 0 0, .bool false] rfl rfl 59 #[.string ⟨#[]⟩, .int .i64 0, .int .i64 0, .int .i64 0, .int .i64 0, .bool false, .slice none 0 0, .bool false] R2.out Tryz.infosActS (Nat.le_of_ble_eq_true rfl) (by simp [Value.oneCell']) ?_; intro wf hz on; have RF : Hid (wf.heap[(w.heap.size + 1)]? = some (.cells #[.string ⟨#[]⟩, .int .i64 0, .int .i64 0, .int .i64 0, .int .i64 0, .bool false, .slice none 0 0, .bool false] 59 (0, 0))) := hz; have BF := hbw2.trans (on.below.mono (by omega)); have p0 := blk_cell RF.out 0 rfl; have p1 := blk_cell RF.out 1 rfl; have p2 := blk_cell RF.out 2 rfl; have p3 := blk_cell RF.out 3 rfl; have p4 := blk_cell RF.out 4 rfl; have p5 := blk_cell RF.out 5 rfl; have p6 := blk_cell RF.out 6 rfl; have p7 := blk_cell RF.out 7 rfl; clear hz on))
        refine bodyPost_ret (v := .tuple #[.agg #[.string ⟨#[]⟩, .int .i64 0, .int .i64 0, .int .i64 0, .int .i64 0, .bool false, .slice none 0 0, .bool false], .bool false]) (by simp [results, Tryz.results113, go_sem, p0, p1, p2, p3, p4, p5, p6, p7]) rfl ⟨by rw [replaceO_no2 s N F (by omega)]; exact asked_no _ _, BF⟩
      · by_cases hlo : N.live < s.want + s.over
        · go_wp2_with (first
            | (refine wpList_load_row rfl 108 (.tmp 2) rfl w.heap.size rfl 108 #[.string s.name, .int .i64 s.version, .bool s.gone, .int .i64 s.image, .int .i64 s.want, .int .i64 s.down, .int .i64 s.over, .int .i64 s.next, .int .i64 s.per, .int .i64 s.least, .int .i64 s.most, .int .i64 s.load, .int .i64 s.cool, .int .i64 N.live, .int .i64 N.ready, .int .i64 N.old, .int .i64 N.failed, .int .i64 N.ending, .int .i64 dr, .slice al l.length cl] (0, 0) _ S2.out Tryz.underlying108 rfl Tryz.infosSight ?_))
          refine (create_any s N dr al l.length cl 1 _).mono ?_
          rintro e w3 ⟨rfl, hb3⟩
          have hz3 := hb3.size
          have R3 : Hid _ := below_blk hb3 R2.out (by omega)
          have hbw3 := hbw2.trans (hb3.mono hbw2.size)
          clear R2 S2 V2 hb3 hbw2 v2 v4 v6
          go_wp2_with (first
            | (refine wpList_store_only rfl 59 (.tmp 4) (.tmp 41) rfl (w.heap.size + 1) 0 #[.string s.name, .int .i64 s.version, .int .i64 1, .int .i64 0, .int .i64 0, .bool false, .slice none 0 0, .bool false] rfl rfl 59 #[.string ⟨#[]⟩, .int .i64 0, .int .i64 0, .int .i64 0, .int .i64 0, .bool false, .slice none 0 0, .bool false] R3.out Tryz.infosActS (Nat.le_of_ble_eq_true rfl) (by simp [Value.oneCell']) ?_; intro wf hz on; have RF : Hid (wf.heap[(w.heap.size + 1)]? = some (.cells #[.string s.name, .int .i64 s.version, .int .i64 1, .int .i64 0, .int .i64 0, .bool false, .slice none 0 0, .bool false] 59 (0, 0))) := hz; have BF := hbw3.trans (on.below.mono (by omega)); have p0 := blk_cell RF.out 0 rfl; have p1 := blk_cell RF.out 1 rfl; have p2 := blk_cell RF.out 2 rfl; have p3 := blk_cell RF.out 3 rfl; have p4 := blk_cell RF.out 4 rfl; have p5 := blk_cell RF.out 5 rfl; have p6 := blk_cell RF.out 6 rfl; have p7 := blk_cell RF.out 7 rfl; clear hz on))
          refine bodyPost_ret (v := .tuple #[.agg #[.string s.name, .int .i64 s.version, .int .i64 1, .int .i64 0, .int .i64 0, .bool false, .slice none 0 0, .bool false], .bool true]) (by simp [results, Tryz.results113, go_sem, p0, p1, p2, p3, p4, p5, p6, p7]) rfl ⟨by rw [replaceO_one s N F hgo.out hF0 (by omega) (by omega)]; exact ⟨{ a0 s with create := 1 }, none, 0, rfl, World.ownsRow_nil _ _ _ _, fun A' h => Option.some.inj h⟩, BF⟩
        · obtain ⟨G, HG⟩ : ∃ G, Hid (F.filter (fun x => mayR s x.c N.ready) = G) := ⟨_, rfl⟩
          have hGl : G.length ≤ 1048576 := by rw [← HG.out]; exact Nat.le_trans (List.length_filter_le _ _) hFl
          obtain ⟨o, HO⟩ : ∃ o, Hid (endFirstO s N.ready G = o) := ⟨_, rfl⟩
          have HK : Hid (∀ W : World, OwnSn w1.heap.size W aF cF F → Calls Tryz.prog 116 #[.slice aF F.length cF, .func (.func 141) #[.agg #[.string s.name, .int .i64 s.version, .bool s.gone, .int .i64 s.image, .int .i64 s.want, .int .i64 s.down, .int .i64 s.over, .int .i64 s.next, .int .i64 s.per, .int .i64 s.least, .int .i64 s.most, .int .i64 s.load, .int .i64 s.cool, .int .i64 N.live, .int .i64 N.ready, .int .i64 N.old, .int .i64 N.failed, .int .i64 N.ending, .int .i64 dr, .slice al l.length cl]] #[]] W fun e w' => ∃ ao co, e = .returned (.slice ao G.length co) ∧ OwnSn W.heap.size w' ao co G ∧ Below W.heap.size W w') := fun W h => by have := kept_may s N dr al l.length cl F w1.heap.size aF cF W hFl h hr0 hr1 HSI.out; rw [HG.out] at this; exact this
          have HX : Hid (∀ (W : World) (lo' : Nat) (ao : Option Addr) (co : Nat), OwnSn lo' W ao co G → Calls Tryz.prog 112 #[.agg #[.string s.name, .int .i64 s.version, .bool s.gone, .int .i64 s.image, .int .i64 s.want, .int .i64 s.down, .int .i64 s.over, .int .i64 s.next, .int .i64 s.per, .int .i64 s.least, .int .i64 s.most, .int .i64 s.load, .int .i64 s.cool, .int .i64 N.live, .int .i64 N.ready, .int .i64 N.old, .int .i64 N.failed, .int .i64 N.ending, .int .i64 dr, .slice al l.length cl], .slice ao G.length co] W fun e w' => Asked W.heap.size w' e o ∧ Below W.heap.size W w') := fun W lo' ao co h => by have := endFirst_any s N dr al l.length cl G lo' ao co W hGl hr0 hr1 HSI.out h; rw [HO.out] at this; exact this
          go_upto_region 7 with fail
          clear v2 v4 v6
          refine wp_region_grows 8 (by kernel_rfl) (by kernel_rfl) ?_
          apply grow_eq
          · intro V W K A hW hd hA hK
            simp only [putAll, List.getElem?_toArray, List.getElem?_cons_succ, List.getElem?_cons_zero, Option.bind_some, Act.put, List.setIfInBounds_toArray, List.set_cons_succ, List.set_cons_zero] at hA
            clear hd
            generalize V 0 = x0 at hA
            generalize V 1 = x1 at hA
            generalize V 2 = x2 at hA
            generalize V 3 = x3 at hA
            generalize V 4 = x4 at hA
            generalize V 5 = x5 at hA
            generalize V 6 = x6 at hA
            generalize V 7 = x7 at hA
            obtain rfl := hA
            go_wp2_with (first
              | (refine wpList_load_row rfl 108 (.tmp 2) rfl w.heap.size rfl 108 #[.string s.name, .int .i64 s.version, .bool s.gone, .int .i64 s.image, .int .i64 s.want, .int .i64 s.down, .int .i64 s.over, .int .i64 s.next, .int .i64 s.per, .int .i64 s.least, .int .i64 s.most, .int .i64 s.load, .int .i64 s.cool, .int .i64 N.live, .int .i64 N.ready, .int .i64 N.old, .int .i64 N.failed, .int .i64 N.ending, .int .i64 dr, .slice al l.length cl] (0, 0) _ (below_blk hW S2.out (by omega)) Tryz.underlying108 rfl Tryz.infosSight ?_))
            exact hK.out _ (Below.refl _ _)
          apply grow_eq
          · intro V W K A hW hd hA hK
            simp only [putAll, List.getElem?_toArray, List.getElem?_cons_succ, List.getElem?_cons_zero, Option.bind_some, Act.put, List.setIfInBounds_toArray, List.set_cons_succ, List.set_cons_zero] at hA
            clear hd
            generalize V 0 = x0 at hA
            generalize V 1 = x1 at hA
            generalize V 2 = x2 at hA
            generalize V 3 = x3 at hA
            generalize V 4 = x4 at hA
            generalize V 5 = x5 at hA
            generalize V 6 = x6 at hA
            generalize V 7 = x7 at hA
            obtain rfl := hA
            go_wp2
            exact hK.out _ (Below.refl _ _)
          apply grow_eq
          · intro V W K A hW hd hA hK
            simp only [putAll, List.getElem?_toArray, List.getElem?_cons_succ, List.getElem?_cons_zero, Option.bind_some, Act.put, List.setIfInBounds_toArray, List.set_cons_succ, List.set_cons_zero] at hA
            clear hd
            generalize V 0 = x0 at hA
            generalize V 1 = x1 at hA
            generalize V 2 = x2 at hA
            generalize V 3 = x3 at hA
            generalize V 4 = x4 at hA
            generalize V 5 = x5 at hA
            generalize V 6 = x6 at hA
            generalize V 7 = x7 at hA
            obtain rfl := hA
            go_wp2_with (first
              | (refine wpList_load_row rfl 108 (.tmp 2) rfl w.heap.size rfl 108 #[.string s.name, .int .i64 s.version, .bool s.gone, .int .i64 s.image, .int .i64 s.want, .int .i64 s.down, .int .i64 s.over, .int .i64 s.next, .int .i64 s.per, .int .i64 s.least, .int .i64 s.most, .int .i64 s.load, .int .i64 s.cool, .int .i64 N.live, .int .i64 N.ready, .int .i64 N.old, .int .i64 N.failed, .int .i64 N.ending, .int .i64 dr, .slice al l.length cl] (0, 0) _ (below_blk hW S2.out (by omega)) Tryz.underlying108 rfl Tryz.infosSight ?_))
            exact hK.out _ (Below.refl _ _)
          apply grow_eq
          · intro V W K A hW hd hA hK
            have d2 : V 2 = _ := hd 2 (by kernel_rfl)
            simp only [putAll, List.getElem?_toArray, List.getElem?_cons_succ, List.getElem?_cons_zero, Option.bind_some, Act.put, List.setIfInBounds_toArray, List.set_cons_succ, List.set_cons_zero] at hA
            clear hd
            generalize V 0 = x0 at hA
            generalize V 1 = x1 at hA
            generalize V 2 = x2 at d2 hA
            generalize V 3 = x3 at hA
            generalize V 4 = x4 at hA
            generalize V 5 = x5 at hA
            generalize V 6 = x6 at hA
            generalize V 7 = x7 at hA
            subst d2
            obtain rfl := hA
            go_wp2
            exact hK.out _ (Below.refl _ _)
          refine grow_op (fun v W => ∃ ao co, v = .slice ao G.length co ∧ OwnSn w2.heap.size W ao co G) (fun v W W2 ⟨ao, co, h1, h2⟩ hb => ⟨ao, co, h1, own_below h2 hb (Nat.le_refl _)⟩) ?_ ?_
          · intro V W K A hW hd hA hK
            have d1 : V 1 = _ := hd 1 (by kernel_rfl)
            have d3 : V 3 = _ := hd 3 (by kernel_rfl)
            simp only [putAll, List.getElem?_toArray, List.getElem?_cons_succ, List.getElem?_cons_zero, Option.bind_some, Act.put, List.setIfInBounds_toArray, List.set_cons_succ, List.set_cons_zero] at hA
            clear hd
            generalize V 0 = x0 at hA
            generalize V 1 = x1 at d1 hA
            generalize V 2 = x2 at hA
            generalize V 3 = x3 at d3 hA
            generalize V 4 = x4 at hA
            generalize V 5 = x5 at hA
            generalize V 6 = x6 at hA
            generalize V 7 = x7 at hA
            subst d1
            subst d3
            obtain rfl := hA
            go_wp2_with fail
            refine (HK.out W (own_below HF2.out hW (Nat.le_refl _))).mono ?_
            rintro e w3 ⟨ao, co, rfl, h2, hb3⟩
            go_wp2
            exact hK.out _ _ hb3 ⟨ao, co, rfl, own_mono h2 hW.size⟩
          refine grow_op (fun v W => ∃ (A : Ac) (ae : Option Addr) (ce : Nat), v = .tuple #[.agg #[.string A.service, .int .i64 A.seen, .int .i64 A.create, .int .i64 A.want, .int .i64 A.cool, .bool A.scale, .slice ae A.ends.length ce, .bool A.drop], .bool o.isSome] ∧ Hid (W.ownsRow w2.heap.size 118 2 (.slice ae A.ends.length ce) A.ends.length (ensV A.ends)) ∧ Hid (∀ A', o = some A' → A = A')) (fun v W W2 ⟨A, ae, ce, h1, h2, h3⟩ hb => ⟨A, ae, ce, h1, own_below h2.out hb (Nat.le_refl _), h3⟩) ?_ ?_
          · intro V W K A hW hd hA hK
            have d0 : V 0 = _ := hd 0 (by kernel_rfl)
            have d4 : (fun v W => ∃ ao co, v = .slice ao G.length co ∧ OwnSn w2.heap.size W ao co G) (V 4) W := hd 4 (by kernel_rfl)
            simp only [putAll, List.getElem?_toArray, List.getElem?_cons_succ, List.getElem?_cons_zero, Option.bind_some, Act.put, List.setIfInBounds_toArray, List.set_cons_succ, List.set_cons_zero] at hA
            clear hd
            generalize V 0 = x0 at d0 hA
            generalize V 1 = x1 at hA
            generalize V 2 = x2 at hA
            generalize V 3 = x3 at hA
            generalize V 4 = x4 at d4 hA
            generalize V 5 = x5 at hA
            generalize V 6 = x6 at hA
            generalize V 7 = x7 at hA
            subst d0
            obtain rfl := hA
            obtain ⟨ao, co, rfl, h2⟩ := d4
            go_wp2_with fail
            refine (HX.out W w2.heap.size ao co h2).mono ?_
            rintro e w3 ⟨⟨A, ae, ce, rfl, h3, h4⟩, hb3⟩
            go_wp2
            exact hK.out _ _ hb3 ⟨A, ae, ce, rfl, own_mono h3.out hW.size, h4⟩
          refine grow_op (fun v W => ∃ (A : Ac) (ae : Option Addr) (ce : Nat), v = .agg #[.string A.service, .int .i64 A.seen, .int .i64 A.create, .int .i64 A.want, .int .i64 A.cool, .bool A.scale, .slice ae A.ends.length ce, .bool A.drop] ∧ Hid (W.ownsRow w2.heap.size 118 2 (.slice ae A.ends.length ce) A.ends.length (ensV A.ends)) ∧ Hid (∀ A', o = some A' → A = A')) (fun v W W2 ⟨A, ae, ce, h1, h2, h3⟩ hb => ⟨A, ae, ce, h1, own_below h2.out hb (Nat.le_refl _), h3⟩) ?_ ?_
          · intro V W K A hW hd hA hK
            have d5 : (fun v W => ∃ (A : Ac) (ae : Option Addr) (ce : Nat), v = .tuple #[.agg #[.string A.service, .int .i64 A.seen, .int .i64 A.create, .int .i64 A.want, .int .i64 A.cool, .bool A.scale, .slice ae A.ends.length ce, .bool A.drop], .bool o.isSome] ∧ Hid (W.ownsRow w2.heap.size 118 2 (.slice ae A.ends.length ce) A.ends.length (ensV A.ends)) ∧ Hid (∀ A', o = some A' → A = A')) (V 5) W := hd 5 (by kernel_rfl)
            simp only [putAll, List.getElem?_toArray, List.getElem?_cons_succ, List.getElem?_cons_zero, Option.bind_some, Act.put, List.setIfInBounds_toArray, List.set_cons_succ, List.set_cons_zero] at hA
            clear hd
            generalize V 0 = x0 at hA
            generalize V 1 = x1 at hA
            generalize V 2 = x2 at hA
            generalize V 3 = x3 at hA
            generalize V 4 = x4 at hA
            generalize V 5 = x5 at d5 hA
            generalize V 6 = x6 at hA
            generalize V 7 = x7 at hA
            obtain rfl := hA
            obtain ⟨A, ae, ce, rfl, h3, h4⟩ := d5
            go_wp2
            exact hK.out _ _ (Below.refl _ _) ⟨A, ae, ce, rfl, h3, h4⟩
          apply grow_eq
          · intro V W K A hW hd hA hK
            have d5 : (fun v W => ∃ (A : Ac) (ae : Option Addr) (ce : Nat), v = .tuple #[.agg #[.string A.service, .int .i64 A.seen, .int .i64 A.create, .int .i64 A.want, .int .i64 A.cool, .bool A.scale, .slice ae A.ends.length ce, .bool A.drop], .bool o.isSome] ∧ Hid (W.ownsRow w2.heap.size 118 2 (.slice ae A.ends.length ce) A.ends.length (ensV A.ends)) ∧ Hid (∀ A', o = some A' → A = A')) (V 5) W := hd 5 (by kernel_rfl)
            simp only [putAll, List.getElem?_toArray, List.getElem?_cons_succ, List.getElem?_cons_zero, Option.bind_some, Act.put, List.setIfInBounds_toArray, List.set_cons_succ, List.set_cons_zero] at hA
            clear hd
            generalize V 0 = x0 at hA
            generalize V 1 = x1 at hA
            generalize V 2 = x2 at hA
            generalize V 3 = x3 at hA
            generalize V 4 = x4 at hA
            generalize V 5 = x5 at d5 hA
            generalize V 6 = x6 at hA
            generalize V 7 = x7 at hA
            obtain rfl := hA
            obtain ⟨A, ae, ce, rfl, h3, h4⟩ := d5
            go_wp2
            exact hK.out _ (Below.refl _ _)
          intro V W A hW hS hA
          have d0 : V 0 = _ := hS 0 (by omega)
          have d1 : V 1 = _ := hS 1 (by omega)
          have d2 : V 2 = _ := hS 2 (by omega)
          have d3 : V 3 = _ := hS 3 (by omega)
          have d4 : (fun v W => ∃ ao co, v = .slice ao G.length co ∧ OwnSn w2.heap.size W ao co G) (V 4) W := hS 4 (by omega)
          have d5 : (fun v W => ∃ (A : Ac) (ae : Option Addr) (ce : Nat), v = .tuple #[.agg #[.string A.service, .int .i64 A.seen, .int .i64 A.create, .int .i64 A.want, .int .i64 A.cool, .bool A.scale, .slice ae A.ends.length ce, .bool A.drop], .bool o.isSome] ∧ Hid (W.ownsRow w2.heap.size 118 2 (.slice ae A.ends.length ce) A.ends.length (ensV A.ends)) ∧ Hid (∀ A', o = some A' → A = A')) (V 5) W := hS 5 (by omega)
          have d6 : (fun v W => ∃ (A : Ac) (ae : Option Addr) (ce : Nat), v = .agg #[.string A.service, .int .i64 A.seen, .int .i64 A.create, .int .i64 A.want, .int .i64 A.cool, .bool A.scale, .slice ae A.ends.length ce, .bool A.drop] ∧ Hid (W.ownsRow w2.heap.size 118 2 (.slice ae A.ends.length ce) A.ends.length (ensV A.ends)) ∧ Hid (∀ A', o = some A' → A = A')) (V 6) W := hS 6 (by omega)
          have d7 : V 7 = _ := hS 7 (by omega)
          simp only [putAll, List.getElem?_toArray, List.getElem?_cons_succ, List.getElem?_cons_zero, Option.bind_some, Act.put, List.setIfInBounds_toArray, List.set_cons_succ, List.set_cons_zero] at hA
          clear hS
          generalize V 0 = x0 at d0 hA
          generalize V 1 = x1 at d1 hA
          generalize V 2 = x2 at d2 hA
          generalize V 3 = x3 at d3 hA
          generalize V 4 = x4 at d4 hA
          generalize V 5 = x5 at d5 hA
          generalize V 6 = x6 at d6 hA
          generalize V 7 = x7 at d7 hA
          subst d0
          subst d1
          subst d2
          subst d3
          subst d7
          obtain rfl := hA
          simp only [List.drop_succ_cons, List.drop_zero]
          obtain ⟨A, ae, ce, rfl, hown, HA⟩ := d6
          have hbw3 := hbw2.trans (hW.mono hbw2.size)
          have R3 : Hid _ := below_blk hW R2.out (by omega)
          have O3 : Hid _ := own_mono hown.out (show w.heap.size + 1 + 1 ≤ w2.heap.size by omega)
          have hzW := hW.size
          clear R2 S2 V2 hW hbw2 d5 d4 hown HK HX
          go_wp2_with (first
            | (refine wpList_store_only rfl 59 (.tmp 4) (.tmp 49) rfl (w.heap.size + 1) 0 #[.string A.service, .int .i64 A.seen, .int .i64 A.create, .int .i64 A.want, .int .i64 A.cool, .bool A.scale, .slice ae A.ends.length ce, .bool A.drop] rfl rfl 59 #[.string ⟨#[]⟩, .int .i64 0, .int .i64 0, .int .i64 0, .int .i64 0, .bool false, .slice none 0 0, .bool false] R3.out Tryz.infosActS (Nat.le_of_ble_eq_true rfl) (by simp [Value.oneCell']) ?_; intro wf hz on; have RF : Hid (wf.heap[(w.heap.size + 1)]? = some (.cells #[.string A.service, .int .i64 A.seen, .int .i64 A.create, .int .i64 A.want, .int .i64 A.cool, .bool A.scale, .slice ae A.ends.length ce, .bool A.drop] 59 (0, 0))) := hz; have BF := hbw3.trans (on.below.mono (by omega)); have OF : Hid _ := own_mono (own_blk O3.out (fun q hq _ => on.other q (by omega))) (show w.heap.size ≤ w.heap.size + 1 + 1 by omega); have p0 := blk_cell RF.out 0 rfl; have p1 := blk_cell RF.out 1 rfl; have p2 := blk_cell RF.out 2 rfl; have p3 := blk_cell RF.out 3 rfl; have p4 := blk_cell RF.out 4 rfl; have p5 := blk_cell RF.out 5 rfl; have p6 := blk_cell RF.out 6 rfl; have p7 := blk_cell RF.out 7 rfl; clear hz on))
          refine bodyPost_ret (v := .tuple #[.agg #[.string A.service, .int .i64 A.seen, .int .i64 A.create, .int .i64 A.want, .int .i64 A.cool, .bool A.scale, .slice ae A.ends.length ce, .bool A.drop], .bool o.isSome]) (by simp [results, Tryz.results113, go_sem, p0, p1, p2, p3, p4, p5, p6, p7]) rfl ⟨by rw [replaceO_end s N F hgo.out hF0 (by omega) (by omega), HG.out, HO.out]; exact ⟨A, ae, ce, rfl, OF, HA.out⟩, BF⟩

set_option maxRecDepth 100000 in
set_option maxHeartbeats 16000000 in
theorem replace_drain (s : Svc) (N : Cnt) (dr : Int) (l : List Sn) (lo : Nat) (al : Option Addr) (cl : Nat) (w : World) (hl : l.length ≤ 1048576) (hsi : SvcIn s) (hN0 : 0 ≤ N.live) (hN1 : N.live ≤ 1048576) (hr0 : 0 ≤ N.ready) (hr1 : N.ready ≤ 1048576) (hL : OwnSn lo w al cl l) :
    Calls Tryz.prog 113 #[.agg #[.string s.name, .int .i64 s.version, .bool s.gone, .int .i64 s.image, .int .i64 s.want, .int .i64 s.down, .int .i64 s.over, .int .i64 s.next, .int .i64 s.per, .int .i64 s.least, .int .i64 s.most, .int .i64 s.load, .int .i64 s.cool, .int .i64 N.live, .int .i64 N.ready, .int .i64 N.old, .int .i64 N.failed, .int .i64 N.ending, .int .i64 dr, .slice al l.length cl], .func (.func 121) #[] #[]] w fun e w' => Asked w.heap.size w' e (replaceO s N (l.filter (fun x => x.drain))) ∧ Below w.heap.size w w' := by
  have HL : Hid (OwnSn lo w al cl l) := hL
  have hw0 := hsi.want0
  have hw1 := hsi.want1
  have ho0 := hsi.over0
  have ho1 := hsi.over1
  have HSI : Hid (SvcIn s) := hsi
  clear hL hsi
  obtain ⟨F, HF⟩ : ∃ F, Hid (l.filter (fun x => x.drain) = F) := ⟨_, rfl⟩
  have hFl : F.length ≤ 1048576 := by rw [← HF.out]; exact Nat.le_trans (List.length_filter_le _ _) hl
  rw [HF.out]
  obtain ⟨W0, hW0, t0, t1, hz0, hz0', hb0⟩ := two_newW w (.cells #[.string s.name, .int .i64 s.version, .bool s.gone, .int .i64 s.image, .int .i64 s.want, .int .i64 s.down, .int .i64 s.over, .int .i64 s.next, .int .i64 s.per, .int .i64 s.least, .int .i64 s.most, .int .i64 s.load, .int .i64 s.cool, .int .i64 N.live, .int .i64 N.ready, .int .i64 N.old, .int .i64 N.failed, .int .i64 N.ending, .int .i64 dr, .slice al l.length cl] 108) (.cells #[.string ⟨#[]⟩, .int .i64 0, .int .i64 0, .int .i64 0, .int .i64 0, .bool false, .slice none 0 0, .bool false] 59)
  have T0 : Hid _ := t0
  have T1 : Hid _ := t1
  clear t0 t1
  go_enter Tryz.func113, Tryz.ntmps113
  go_upto_region 1 with fail
  clear hW0
  have hlt0 : w.heap.size < W0.heap.size := by omega
  have z0 := blk_cell T0.out 0 rfl
  have z1 := blk_cell T0.out 1 rfl
  have z2 := blk_cell T0.out 2 rfl
  have z3 := blk_cell T0.out 3 rfl
  have z4 := blk_cell T0.out 4 rfl
  have z5 := blk_cell T0.out 5 rfl
  have z6 := blk_cell T0.out 6 rfl
  have z7 := blk_cell T0.out 7 rfl
  have z8 := blk_cell T0.out 8 rfl
  have z9 := blk_cell T0.out 9 rfl
  have z10 := blk_cell T0.out 10 rfl
  have z11 := blk_cell T0.out 11 rfl
  have z12 := blk_cell T0.out 12 rfl
  have z13 := blk_cell T0.out 13 rfl
  go_cut [6, 7] (fun va vb wx => ∃ w1 : World, va = .pointer (some ⟨W0.heap.size, 0, none⟩) ∧ vb = .int .i64 N.live ∧ (W0.alloc (.cells #[.string s.name, .int .i64 s.version, .bool s.gone, .int .i64 s.image, .int .i64 s.want, .int .i64 s.down, .int .i64 s.over, .int .i64 s.next, .int .i64 s.per, .int .i64 s.least, .int .i64 s.most, .int .i64 s.load, .int .i64 s.cool] 48)).drew = w1 ∧ w1 = wx)
  case first =>
    go_region
    all_goals
      go_wp2_with fail
      go_meet
      exact ⟨_, rfl, rfl, rfl, rfl⟩
  obtain ⟨w1, rfl, rfl, hw1e, rfl⟩ := hcut
  clear z0 z1 z2 z3 z4 z5 z6 z7 z8 z9 z10 z11 z12 z13
  have V1 : Hid (w1.heap[W0.heap.size]? = some (.cells #[.string s.name, .int .i64 s.version, .bool s.gone, .int .i64 s.image, .int .i64 s.want, .int .i64 s.down, .int .i64 s.over, .int .i64 s.next, .int .i64 s.per, .int .i64 s.least, .int .i64 s.most, .int .i64 s.load, .int .i64 s.cool] 48 (0, 0))) := by unfold Hid; rw [← hw1e]; exact heap_alloc_new W0 _
  have hbb1 : Below W0.heap.size W0 w1 := by rw [← hw1e]; exact ⟨rfl, rfl, rfl, by show W0.heap.size ≤ (W0.heap.push _).size; simp, fun k hk => heap_alloc_old W0 _ hk⟩
  have S1 : Hid _ := below_blk hbb1 T0.out (by omega)
  have R1 : Hid _ := below_blk hbb1 T1.out (by omega)
  have hbw1 := hb0.trans (hbb1.mono hb0.size)
  have hpl : W0.heap.size < w1.heap.size := (Array.getElem?_eq_some_iff.1 V1.out).1
  obtain ⟨p, hpe, hpz⟩ : ∃ p, W0.heap.size = p ∧ w.heap.size + 1 + 1 ≤ p := ⟨_, rfl, hz0⟩
  rw [hpe] at V1 hpl
  rw [hpe]
  clear hw1e hbb1 T0 T1 hb0 hpe hz0 hz0' hlt0 W0
  have y19 := blk_cell S1.out 19 rfl
  go_wp2_with fail
  refine (kept_drain l lo al cl _ hl (own_below HL.out hbw1 (Nat.le_refl _))).mono ?_
  rw [HF.out]
  rintro e w2 ⟨aF, cF, rfl, hF2, hb2⟩
  have hz2 := hb2.size
  have hzw1 := hbw1.size
  have HF2 : Hid (OwnSn w1.heap.size w2 aF cF F) := hF2
  have S2 : Hid _ := below_blk hb2 S1.out (by omega)
  have R2 : Hid _ := below_blk hb2 R1.out (by omega)
  have V2 : Hid _ := below_blk hb2 V1.out hpl
  have hbw2 := hbw1.trans (hb2.mono hbw1.size)
  clear y19 S1 R1 V1 hbw1 hb2 hF2
  have v4 := blk_cell V2.out 4 rfl; have v6 := blk_cell V2.out 6 rfl
  have v2a := blk_cell V2.out 2 rfl
  rcases Bool.eq_false_or_eq_true s.gone with hgo0 | hgo0
  · have hgo : Hid (s.gone = true) := hgo0
    have v2 : w2.cell? ⟨p, 2, none⟩ = some (.bool true) := by rw [hgo0] at v2a; exact v2a
    clear hgo0 v2a
    go_wp2_with (first
      | (refine wpList_store_only rfl 59 (.tmp 4) (.tmp 31) rfl (w.heap.size + 1) 0 #[.string ⟨#[]⟩, .int .i64 0, .int .i64 0, .int .i64 0, .int .i64 0, .bool false, .slice none 0 0, .bool false] rfl rfl 59 #[.string ⟨#[]⟩, .int .i64 0, .int .i64 0, .int .i64 0, .int .i64 0, .bool false, .slice none 0 0, .bool false] R2.out Tryz.infosActS (Nat.le_of_ble_eq_true rfl) (by simp [Value.oneCell']) ?_; intro wf hz on; have RF : Hid (wf.heap[(w.heap.size + 1)]? = some (.cells #[.string ⟨#[]⟩, .int .i64 0, .int .i64 0, .int .i64 0, .int .i64 0, .bool false, .slice none 0 0, .bool false] 59 (0, 0))) := hz; have BF := hbw2.trans (on.below.mono (by omega)); have p0 := blk_cell RF.out 0 rfl; have p1 := blk_cell RF.out 1 rfl; have p2 := blk_cell RF.out 2 rfl; have p3 := blk_cell RF.out 3 rfl; have p4 := blk_cell RF.out 4 rfl; have p5 := blk_cell RF.out 5 rfl; have p6 := blk_cell RF.out 6 rfl; have p7 := blk_cell RF.out 7 rfl; clear hz on))
    refine bodyPost_ret (v := .tuple #[.agg #[.string ⟨#[]⟩, .int .i64 0, .int .i64 0, .int .i64 0, .int .i64 0, .bool false, .slice none 0 0, .bool false], .bool false]) (by simp [results, Tryz.results113, go_sem, p0, p1, p2, p3, p4, p5, p6, p7]) rfl ⟨by rw [replaceO_no3 s N F hgo.out]; exact asked_no _ _, BF⟩
  have hgo : Hid (s.gone = false) := hgo0
  have v2 : w2.cell? ⟨p, 2, none⟩ = some (.bool false) := by rw [hgo0] at v2a; exact v2a
  clear hgo0 v2a
  · by_cases hF0 : F.length = 0
    · have hF0' : ((F.length : Int) == 0) = true := by simp [hF0]
      go_wp2_with (first
        | (refine wpList_store_only rfl 59 (.tmp 4) (.tmp 31) rfl (w.heap.size + 1) 0 #[.string ⟨#[]⟩, .int .i64 0, .int .i64 0, .int .i64 0, .int .i64 0, .bool false, .slice none 0 0, .bool false] rfl rfl 59 #[.string ⟨#[]⟩, .int .i64 0, .int .i64 0, .int .i64 0, .int .i64 0, .bool false, .slice none 0 0, .bool false] R2.out Tryz.infosActS (Nat.le_of_ble_eq_true rfl) (by simp [Value.oneCell']) ?_; intro wf hz on; have RF : Hid (wf.heap[(w.heap.size + 1)]? = some (.cells #[.string ⟨#[]⟩, .int .i64 0, .int .i64 0, .int .i64 0, .int .i64 0, .bool false, .slice none 0 0, .bool false] 59 (0, 0))) := hz; have BF := hbw2.trans (on.below.mono (by omega)); have p0 := blk_cell RF.out 0 rfl; have p1 := blk_cell RF.out 1 rfl; have p2 := blk_cell RF.out 2 rfl; have p3 := blk_cell RF.out 3 rfl; have p4 := blk_cell RF.out 4 rfl; have p5 := blk_cell RF.out 5 rfl; have p6 := blk_cell RF.out 6 rfl; have p7 := blk_cell RF.out 7 rfl; clear hz on))
      refine bodyPost_ret (v := .tuple #[.agg #[.string ⟨#[]⟩, .int .i64 0, .int .i64 0, .int .i64 0, .int .i64 0, .bool false, .slice none 0 0, .bool false], .bool false]) (by simp [results, Tryz.results113, go_sem, p0, p1, p2, p3, p4, p5, p6, p7]) rfl ⟨by rw [replaceO_no1 s N F hF0]; exact asked_no _ _, BF⟩
    · have hF0' : ((F.length : Int) == 0) = false := by simp [hF0]
      by_cases hlw : N.live < s.want
      · go_wp2_with (first
          | (refine wpList_store_only rfl 59 (.tmp 4) (.tmp 31) rfl (w.heap.size + 1) 0 #[.string ⟨#[]⟩, .int .i64 0, .int .i64 0, .int .i64 0, .int .i64 0, .bool false, .slice none 0 0, .bool false] rfl rfl 59 #[.string ⟨#[]⟩, .int .i64 0, .int .i64 0, .int .i64 0, .int .i64 0, .bool false, .slice none 0 0, .bool false] R2.out Tryz.infosActS (Nat.le_of_ble_eq_true rfl) (by simp [Value.oneCell']) ?_; intro wf hz on; have RF : Hid (wf.heap[(w.heap.size + 1)]? = some (.cells #[.string ⟨#[]⟩, .int .i64 0, .int .i64 0, .int .i64 0, .int .i64 0, .bool false, .slice none 0 0, .bool false] 59 (0, 0))) := hz; have BF := hbw2.trans (on.below.mono (by omega)); have p0 := blk_cell RF.out 0 rfl; have p1 := blk_cell RF.out 1 rfl; have p2 := blk_cell RF.out 2 rfl; have p3 := blk_cell RF.out 3 rfl; have p4 := blk_cell RF.out 4 rfl; have p5 := blk_cell RF.out 5 rfl; have p6 := blk_cell RF.out 6 rfl; have p7 := blk_cell RF.out 7 rfl; clear hz on))
        refine bodyPost_ret (v := .tuple #[.agg #[.string ⟨#[]⟩, .int .i64 0, .int .i64 0, .int .i64 0, .int .i64 0, .bool false, .slice none 0 0, .bool false], .bool false]) (by simp [results, Tryz.results113, go_sem, p0, p1, p2, p3, p4, p5, p6, p7]) rfl ⟨by rw [replaceO_no2 s N F (by omega)]; exact asked_no _ _, BF⟩
      · by_cases hlo : N.live < s.want + s.over
        · go_wp2_with (first
            | (refine wpList_load_row rfl 108 (.tmp 2) rfl w.heap.size rfl 108 #[.string s.name, .int .i64 s.version, .bool s.gone, .int .i64 s.image, .int .i64 s.want, .int .i64 s.down, .int .i64 s.over, .int .i64 s.next, .int .i64 s.per, .int .i64 s.least, .int .i64 s.most, .int .i64 s.load, .int .i64 s.cool, .int .i64 N.live, .int .i64 N.ready, .int .i64 N.old, .int .i64 N.failed, .int .i64 N.ending, .int .i64 dr, .slice al l.length cl] (0, 0) _ S2.out Tryz.underlying108 rfl Tryz.infosSight ?_))
          refine (create_any s N dr al l.length cl 1 _).mono ?_
          rintro e w3 ⟨rfl, hb3⟩
          have hz3 := hb3.size
          have R3 : Hid _ := below_blk hb3 R2.out (by omega)
          have hbw3 := hbw2.trans (hb3.mono hbw2.size)
          clear R2 S2 V2 hb3 hbw2 v2 v4 v6
          go_wp2_with (first
            | (refine wpList_store_only rfl 59 (.tmp 4) (.tmp 41) rfl (w.heap.size + 1) 0 #[.string s.name, .int .i64 s.version, .int .i64 1, .int .i64 0, .int .i64 0, .bool false, .slice none 0 0, .bool false] rfl rfl 59 #[.string ⟨#[]⟩, .int .i64 0, .int .i64 0, .int .i64 0, .int .i64 0, .bool false, .slice none 0 0, .bool false] R3.out Tryz.infosActS (Nat.le_of_ble_eq_true rfl) (by simp [Value.oneCell']) ?_; intro wf hz on; have RF : Hid (wf.heap[(w.heap.size + 1)]? = some (.cells #[.string s.name, .int .i64 s.version, .int .i64 1, .int .i64 0, .int .i64 0, .bool false, .slice none 0 0, .bool false] 59 (0, 0))) := hz; have BF := hbw3.trans (on.below.mono (by omega)); have p0 := blk_cell RF.out 0 rfl; have p1 := blk_cell RF.out 1 rfl; have p2 := blk_cell RF.out 2 rfl; have p3 := blk_cell RF.out 3 rfl; have p4 := blk_cell RF.out 4 rfl; have p5 := blk_cell RF.out 5 rfl; have p6 := blk_cell RF.out 6 rfl; have p7 := blk_cell RF.out 7 rfl; clear hz on))
          refine bodyPost_ret (v := .tuple #[.agg #[.string s.name, .int .i64 s.version, .int .i64 1, .int .i64 0, .int .i64 0, .bool false, .slice none 0 0, .bool false], .bool true]) (by simp [results, Tryz.results113, go_sem, p0, p1, p2, p3, p4, p5, p6, p7]) rfl ⟨by rw [replaceO_one s N F hgo.out hF0 (by omega) (by omega)]; exact ⟨{ a0 s with create := 1 }, none, 0, rfl, World.ownsRow_nil _ _ _ _, fun A' h => Option.some.inj h⟩, BF⟩
        · obtain ⟨G, HG⟩ : ∃ G, Hid (F.filter (fun x => mayR s x.c N.ready) = G) := ⟨_, rfl⟩
          have hGl : G.length ≤ 1048576 := by rw [← HG.out]; exact Nat.le_trans (List.length_filter_le _ _) hFl
          obtain ⟨o, HO⟩ : ∃ o, Hid (endFirstO s N.ready G = o) := ⟨_, rfl⟩
          have HK : Hid (∀ W : World, OwnSn w1.heap.size W aF cF F → Calls Tryz.prog 116 #[.slice aF F.length cF, .func (.func 141) #[.agg #[.string s.name, .int .i64 s.version, .bool s.gone, .int .i64 s.image, .int .i64 s.want, .int .i64 s.down, .int .i64 s.over, .int .i64 s.next, .int .i64 s.per, .int .i64 s.least, .int .i64 s.most, .int .i64 s.load, .int .i64 s.cool, .int .i64 N.live, .int .i64 N.ready, .int .i64 N.old, .int .i64 N.failed, .int .i64 N.ending, .int .i64 dr, .slice al l.length cl]] #[]] W fun e w' => ∃ ao co, e = .returned (.slice ao G.length co) ∧ OwnSn W.heap.size w' ao co G ∧ Below W.heap.size W w') := fun W h => by have := kept_may s N dr al l.length cl F w1.heap.size aF cF W hFl h hr0 hr1 HSI.out; rw [HG.out] at this; exact this
          have HX : Hid (∀ (W : World) (lo' : Nat) (ao : Option Addr) (co : Nat), OwnSn lo' W ao co G → Calls Tryz.prog 112 #[.agg #[.string s.name, .int .i64 s.version, .bool s.gone, .int .i64 s.image, .int .i64 s.want, .int .i64 s.down, .int .i64 s.over, .int .i64 s.next, .int .i64 s.per, .int .i64 s.least, .int .i64 s.most, .int .i64 s.load, .int .i64 s.cool, .int .i64 N.live, .int .i64 N.ready, .int .i64 N.old, .int .i64 N.failed, .int .i64 N.ending, .int .i64 dr, .slice al l.length cl], .slice ao G.length co] W fun e w' => Asked W.heap.size w' e o ∧ Below W.heap.size W w') := fun W lo' ao co h => by have := endFirst_any s N dr al l.length cl G lo' ao co W hGl hr0 hr1 HSI.out h; rw [HO.out] at this; exact this
          go_upto_region 7 with fail
          clear v2 v4 v6
          refine wp_region_grows 8 (by kernel_rfl) (by kernel_rfl) ?_
          apply grow_eq
          · intro V W K A hW hd hA hK
            simp only [putAll, List.getElem?_toArray, List.getElem?_cons_succ, List.getElem?_cons_zero, Option.bind_some, Act.put, List.setIfInBounds_toArray, List.set_cons_succ, List.set_cons_zero] at hA
            clear hd
            generalize V 0 = x0 at hA
            generalize V 1 = x1 at hA
            generalize V 2 = x2 at hA
            generalize V 3 = x3 at hA
            generalize V 4 = x4 at hA
            generalize V 5 = x5 at hA
            generalize V 6 = x6 at hA
            generalize V 7 = x7 at hA
            obtain rfl := hA
            go_wp2_with (first
              | (refine wpList_load_row rfl 108 (.tmp 2) rfl w.heap.size rfl 108 #[.string s.name, .int .i64 s.version, .bool s.gone, .int .i64 s.image, .int .i64 s.want, .int .i64 s.down, .int .i64 s.over, .int .i64 s.next, .int .i64 s.per, .int .i64 s.least, .int .i64 s.most, .int .i64 s.load, .int .i64 s.cool, .int .i64 N.live, .int .i64 N.ready, .int .i64 N.old, .int .i64 N.failed, .int .i64 N.ending, .int .i64 dr, .slice al l.length cl] (0, 0) _ (below_blk hW S2.out (by omega)) Tryz.underlying108 rfl Tryz.infosSight ?_))
            exact hK.out _ (Below.refl _ _)
          apply grow_eq
          · intro V W K A hW hd hA hK
            simp only [putAll, List.getElem?_toArray, List.getElem?_cons_succ, List.getElem?_cons_zero, Option.bind_some, Act.put, List.setIfInBounds_toArray, List.set_cons_succ, List.set_cons_zero] at hA
            clear hd
            generalize V 0 = x0 at hA
            generalize V 1 = x1 at hA
            generalize V 2 = x2 at hA
            generalize V 3 = x3 at hA
            generalize V 4 = x4 at hA
            generalize V 5 = x5 at hA
            generalize V 6 = x6 at hA
            generalize V 7 = x7 at hA
            obtain rfl := hA
            go_wp2
            exact hK.out _ (Below.refl _ _)
          apply grow_eq
          · intro V W K A hW hd hA hK
            simp only [putAll, List.getElem?_toArray, List.getElem?_cons_succ, List.getElem?_cons_zero, Option.bind_some, Act.put, List.setIfInBounds_toArray, List.set_cons_succ, List.set_cons_zero] at hA
            clear hd
            generalize V 0 = x0 at hA
            generalize V 1 = x1 at hA
            generalize V 2 = x2 at hA
            generalize V 3 = x3 at hA
            generalize V 4 = x4 at hA
            generalize V 5 = x5 at hA
            generalize V 6 = x6 at hA
            generalize V 7 = x7 at hA
            obtain rfl := hA
            go_wp2_with (first
              | (refine wpList_load_row rfl 108 (.tmp 2) rfl w.heap.size rfl 108 #[.string s.name, .int .i64 s.version, .bool s.gone, .int .i64 s.image, .int .i64 s.want, .int .i64 s.down, .int .i64 s.over, .int .i64 s.next, .int .i64 s.per, .int .i64 s.least, .int .i64 s.most, .int .i64 s.load, .int .i64 s.cool, .int .i64 N.live, .int .i64 N.ready, .int .i64 N.old, .int .i64 N.failed, .int .i64 N.ending, .int .i64 dr, .slice al l.length cl] (0, 0) _ (below_blk hW S2.out (by omega)) Tryz.underlying108 rfl Tryz.infosSight ?_))
            exact hK.out _ (Below.refl _ _)
          apply grow_eq
          · intro V W K A hW hd hA hK
            have d2 : V 2 = _ := hd 2 (by kernel_rfl)
            simp only [putAll, List.getElem?_toArray, List.getElem?_cons_succ, List.getElem?_cons_zero, Option.bind_some, Act.put, List.setIfInBounds_toArray, List.set_cons_succ, List.set_cons_zero] at hA
            clear hd
            generalize V 0 = x0 at hA
            generalize V 1 = x1 at hA
            generalize V 2 = x2 at d2 hA
            generalize V 3 = x3 at hA
            generalize V 4 = x4 at hA
            generalize V 5 = x5 at hA
            generalize V 6 = x6 at hA
            generalize V 7 = x7 at hA
            subst d2
            obtain rfl := hA
            go_wp2
            exact hK.out _ (Below.refl _ _)
          refine grow_op (fun v W => ∃ ao co, v = .slice ao G.length co ∧ OwnSn w2.heap.size W ao co G) (fun v W W2 ⟨ao, co, h1, h2⟩ hb => ⟨ao, co, h1, own_below h2 hb (Nat.le_refl _)⟩) ?_ ?_
          · intro V W K A hW hd hA hK
            have d1 : V 1 = _ := hd 1 (by kernel_rfl)
            have d3 : V 3 = _ := hd 3 (by kernel_rfl)
            simp only [putAll, List.getElem?_toArray, List.getElem?_cons_succ, List.getElem?_cons_zero, Option.bind_some, Act.put, List.setIfInBounds_toArray, List.set_cons_succ, List.set_cons_zero] at hA
            clear hd
            generalize V 0 = x0 at hA
            generalize V 1 = x1 at d1 hA
            generalize V 2 = x2 at hA
            generalize V 3 = x3 at d3 hA
            generalize V 4 = x4 at hA
            generalize V 5 = x5 at hA
            generalize V 6 = x6 at hA
            generalize V 7 = x7 at hA
            subst d1
            subst d3
            obtain rfl := hA
            go_wp2_with fail
            refine (HK.out W (own_below HF2.out hW (Nat.le_refl _))).mono ?_
            rintro e w3 ⟨ao, co, rfl, h2, hb3⟩
            go_wp2
            exact hK.out _ _ hb3 ⟨ao, co, rfl, own_mono h2 hW.size⟩
          refine grow_op (fun v W => ∃ (A : Ac) (ae : Option Addr) (ce : Nat), v = .tuple #[.agg #[.string A.service, .int .i64 A.seen, .int .i64 A.create, .int .i64 A.want, .int .i64 A.cool, .bool A.scale, .slice ae A.ends.length ce, .bool A.drop], .bool o.isSome] ∧ Hid (W.ownsRow w2.heap.size 118 2 (.slice ae A.ends.length ce) A.ends.length (ensV A.ends)) ∧ Hid (∀ A', o = some A' → A = A')) (fun v W W2 ⟨A, ae, ce, h1, h2, h3⟩ hb => ⟨A, ae, ce, h1, own_below h2.out hb (Nat.le_refl _), h3⟩) ?_ ?_
          · intro V W K A hW hd hA hK
            have d0 : V 0 = _ := hd 0 (by kernel_rfl)
            have d4 : (fun v W => ∃ ao co, v = .slice ao G.length co ∧ OwnSn w2.heap.size W ao co G) (V 4) W := hd 4 (by kernel_rfl)
            simp only [putAll, List.getElem?_toArray, List.getElem?_cons_succ, List.getElem?_cons_zero, Option.bind_some, Act.put, List.setIfInBounds_toArray, List.set_cons_succ, List.set_cons_zero] at hA
            clear hd
            generalize V 0 = x0 at d0 hA
            generalize V 1 = x1 at hA
            generalize V 2 = x2 at hA
            generalize V 3 = x3 at hA
            generalize V 4 = x4 at d4 hA
            generalize V 5 = x5 at hA
            generalize V 6 = x6 at hA
            generalize V 7 = x7 at hA
            subst d0
            obtain rfl := hA
            obtain ⟨ao, co, rfl, h2⟩ := d4
            go_wp2_with fail
            refine (HX.out W w2.heap.size ao co h2).mono ?_
            rintro e w3 ⟨⟨A, ae, ce, rfl, h3, h4⟩, hb3⟩
            go_wp2
            exact hK.out _ _ hb3 ⟨A, ae, ce, rfl, own_mono h3.out hW.size, h4⟩
          refine grow_op (fun v W => ∃ (A : Ac) (ae : Option Addr) (ce : Nat), v = .agg #[.string A.service, .int .i64 A.seen, .int .i64 A.create, .int .i64 A.want, .int .i64 A.cool, .bool A.scale, .slice ae A.ends.length ce, .bool A.drop] ∧ Hid (W.ownsRow w2.heap.size 118 2 (.slice ae A.ends.length ce) A.ends.length (ensV A.ends)) ∧ Hid (∀ A', o = some A' → A = A')) (fun v W W2 ⟨A, ae, ce, h1, h2, h3⟩ hb => ⟨A, ae, ce, h1, own_below h2.out hb (Nat.le_refl _), h3⟩) ?_ ?_
          · intro V W K A hW hd hA hK
            have d5 : (fun v W => ∃ (A : Ac) (ae : Option Addr) (ce : Nat), v = .tuple #[.agg #[.string A.service, .int .i64 A.seen, .int .i64 A.create, .int .i64 A.want, .int .i64 A.cool, .bool A.scale, .slice ae A.ends.length ce, .bool A.drop], .bool o.isSome] ∧ Hid (W.ownsRow w2.heap.size 118 2 (.slice ae A.ends.length ce) A.ends.length (ensV A.ends)) ∧ Hid (∀ A', o = some A' → A = A')) (V 5) W := hd 5 (by kernel_rfl)
            simp only [putAll, List.getElem?_toArray, List.getElem?_cons_succ, List.getElem?_cons_zero, Option.bind_some, Act.put, List.setIfInBounds_toArray, List.set_cons_succ, List.set_cons_zero] at hA
            clear hd
            generalize V 0 = x0 at hA
            generalize V 1 = x1 at hA
            generalize V 2 = x2 at hA
            generalize V 3 = x3 at hA
            generalize V 4 = x4 at hA
            generalize V 5 = x5 at d5 hA
            generalize V 6 = x6 at hA
            generalize V 7 = x7 at hA
            obtain rfl := hA
            obtain ⟨A, ae, ce, rfl, h3, h4⟩ := d5
            go_wp2
            exact hK.out _ _ (Below.refl _ _) ⟨A, ae, ce, rfl, h3, h4⟩
          apply grow_eq
          · intro V W K A hW hd hA hK
            have d5 : (fun v W => ∃ (A : Ac) (ae : Option Addr) (ce : Nat), v = .tuple #[.agg #[.string A.service, .int .i64 A.seen, .int .i64 A.create, .int .i64 A.want, .int .i64 A.cool, .bool A.scale, .slice ae A.ends.length ce, .bool A.drop], .bool o.isSome] ∧ Hid (W.ownsRow w2.heap.size 118 2 (.slice ae A.ends.length ce) A.ends.length (ensV A.ends)) ∧ Hid (∀ A', o = some A' → A = A')) (V 5) W := hd 5 (by kernel_rfl)
            simp only [putAll, List.getElem?_toArray, List.getElem?_cons_succ, List.getElem?_cons_zero, Option.bind_some, Act.put, List.setIfInBounds_toArray, List.set_cons_succ, List.set_cons_zero] at hA
            clear hd
            generalize V 0 = x0 at hA
            generalize V 1 = x1 at hA
            generalize V 2 = x2 at hA
            generalize V 3 = x3 at hA
            generalize V 4 = x4 at hA
            generalize V 5 = x5 at d5 hA
            generalize V 6 = x6 at hA
            generalize V 7 = x7 at hA
            obtain rfl := hA
            obtain ⟨A, ae, ce, rfl, h3, h4⟩ := d5
            go_wp2
            exact hK.out _ (Below.refl _ _)
          intro V W A hW hS hA
          have d0 : V 0 = _ := hS 0 (by omega)
          have d1 : V 1 = _ := hS 1 (by omega)
          have d2 : V 2 = _ := hS 2 (by omega)
          have d3 : V 3 = _ := hS 3 (by omega)
          have d4 : (fun v W => ∃ ao co, v = .slice ao G.length co ∧ OwnSn w2.heap.size W ao co G) (V 4) W := hS 4 (by omega)
          have d5 : (fun v W => ∃ (A : Ac) (ae : Option Addr) (ce : Nat), v = .tuple #[.agg #[.string A.service, .int .i64 A.seen, .int .i64 A.create, .int .i64 A.want, .int .i64 A.cool, .bool A.scale, .slice ae A.ends.length ce, .bool A.drop], .bool o.isSome] ∧ Hid (W.ownsRow w2.heap.size 118 2 (.slice ae A.ends.length ce) A.ends.length (ensV A.ends)) ∧ Hid (∀ A', o = some A' → A = A')) (V 5) W := hS 5 (by omega)
          have d6 : (fun v W => ∃ (A : Ac) (ae : Option Addr) (ce : Nat), v = .agg #[.string A.service, .int .i64 A.seen, .int .i64 A.create, .int .i64 A.want, .int .i64 A.cool, .bool A.scale, .slice ae A.ends.length ce, .bool A.drop] ∧ Hid (W.ownsRow w2.heap.size 118 2 (.slice ae A.ends.length ce) A.ends.length (ensV A.ends)) ∧ Hid (∀ A', o = some A' → A = A')) (V 6) W := hS 6 (by omega)
          have d7 : V 7 = _ := hS 7 (by omega)
          simp only [putAll, List.getElem?_toArray, List.getElem?_cons_succ, List.getElem?_cons_zero, Option.bind_some, Act.put, List.setIfInBounds_toArray, List.set_cons_succ, List.set_cons_zero] at hA
          clear hS
          generalize V 0 = x0 at d0 hA
          generalize V 1 = x1 at d1 hA
          generalize V 2 = x2 at d2 hA
          generalize V 3 = x3 at d3 hA
          generalize V 4 = x4 at d4 hA
          generalize V 5 = x5 at d5 hA
          generalize V 6 = x6 at d6 hA
          generalize V 7 = x7 at d7 hA
          subst d0
          subst d1
          subst d2
          subst d3
          subst d7
          obtain rfl := hA
          simp only [List.drop_succ_cons, List.drop_zero]
          obtain ⟨A, ae, ce, rfl, hown, HA⟩ := d6
          have hbw3 := hbw2.trans (hW.mono hbw2.size)
          have R3 : Hid _ := below_blk hW R2.out (by omega)
          have O3 : Hid _ := own_mono hown.out (show w.heap.size + 1 + 1 ≤ w2.heap.size by omega)
          have hzW := hW.size
          clear R2 S2 V2 hW hbw2 d5 d4 hown HK HX
          go_wp2_with (first
            | (refine wpList_store_only rfl 59 (.tmp 4) (.tmp 49) rfl (w.heap.size + 1) 0 #[.string A.service, .int .i64 A.seen, .int .i64 A.create, .int .i64 A.want, .int .i64 A.cool, .bool A.scale, .slice ae A.ends.length ce, .bool A.drop] rfl rfl 59 #[.string ⟨#[]⟩, .int .i64 0, .int .i64 0, .int .i64 0, .int .i64 0, .bool false, .slice none 0 0, .bool false] R3.out Tryz.infosActS (Nat.le_of_ble_eq_true rfl) (by simp [Value.oneCell']) ?_; intro wf hz on; have RF : Hid (wf.heap[(w.heap.size + 1)]? = some (.cells #[.string A.service, .int .i64 A.seen, .int .i64 A.create, .int .i64 A.want, .int .i64 A.cool, .bool A.scale, .slice ae A.ends.length ce, .bool A.drop] 59 (0, 0))) := hz; have BF := hbw3.trans (on.below.mono (by omega)); have OF : Hid _ := own_mono (own_blk O3.out (fun q hq _ => on.other q (by omega))) (show w.heap.size ≤ w.heap.size + 1 + 1 by omega); have p0 := blk_cell RF.out 0 rfl; have p1 := blk_cell RF.out 1 rfl; have p2 := blk_cell RF.out 2 rfl; have p3 := blk_cell RF.out 3 rfl; have p4 := blk_cell RF.out 4 rfl; have p5 := blk_cell RF.out 5 rfl; have p6 := blk_cell RF.out 6 rfl; have p7 := blk_cell RF.out 7 rfl; clear hz on))
          refine bodyPost_ret (v := .tuple #[.agg #[.string A.service, .int .i64 A.seen, .int .i64 A.create, .int .i64 A.want, .int .i64 A.cool, .bool A.scale, .slice ae A.ends.length ce, .bool A.drop], .bool o.isSome]) (by simp [results, Tryz.results113, go_sem, p0, p1, p2, p3, p4, p5, p6, p7]) rfl ⟨by rw [replaceO_end s N F hgo.out hF0 (by omega) (by omega), HG.out, HO.out]; exact ⟨A, ae, ce, rfl, OF, HA.out⟩, BF⟩

end Go.Proofs.YtbceafpodamnfabGreat
