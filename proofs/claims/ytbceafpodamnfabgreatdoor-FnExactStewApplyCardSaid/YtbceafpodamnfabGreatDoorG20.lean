/-
  My own: Rp.
-/
import Derived.Test.YtbceafpodamnfabGreatDoorG14
set_option linter.unusedVariables false
set_option linter.unusedSimpArgs false
namespace Go.Proofs.YtbceafpodamnfabGreatDoor
open Go.RowKit Go.Sort
theorem Tryz.infoSvcR : (Tryz.prog.info? 67).map (fun i => (i.zero, i.size, i.bytes)) = some (some (.agg #[.string ⟨#[]⟩, .int .i64 0, .bool false, .int .i64 0, .int .i64 0, .int .i64 0, .int .i64 0, .int .i64 0, .int .i64 0, .int .i64 0, .int .i64 0, .int .i64 0, .int .i64 0]), 13, 112) := by kernel_rfl
theorem Tryz.infosSvcsR : (Tryz.prog.info? 32).map (·.size) = some 1 := by kernel_rfl
theorem Tryz.undSvcsR : Tryz.prog.underlying 32 = some (.slice (Tryz.prog.elem 32)) := by kernel_rfl
theorem Tryz.infoElemSvcR : (Tryz.prog.info? (Tryz.prog.elem 32)).map (·.size) = some 13 := by kernel_rfl
theorem slice_if13 {m mm q kC off : Nat} (h : m + mm = q) (hk : q ≤ kC) (ho : (if kC = m then 0 else 0 + m * 13) = off) : off = m * 13 ∨ mm = 0 := by
 split at ho <;> omega
theorem fit8_63 {m : Nat} (h : m ≤ 8) : m ≤ maxLen := by unfold maxLen; omega
theorem fit8_by {m : Nat} (h : m ≤ 8) : m * 112 ≤ 140737488355328 := by omega
theorem fit8_3 {k mm q : Nat} (h : k + 1 + mm = q) (hq : q ≤ 8) : k + mm ≤ 8 := by omega
theorem fit8_w {k : Nat} (h : k ≤ 8) : wrap64 ((k : Int) + 1) = (k : Int) + 1 := IntWalk.wrap64_in _ (by omega)
set_option maxRecDepth 100000 in
set_option maxHeartbeats 16000000 in
theorem l4_exit_t {u0 u1 u2 u5 u7 u8 u11 u12 u14 u15 u16 u17 u18 u19 u20 u21 u22 u23 u24 u25 u26 u27 u28 u29 u30 u31 u32 u33 u34 u35 u36 u37 u38 u39 u40 u41 u42 u43 u44 u45 u46 u47 u48 u49 u50 u51 u52 u53 u54 u55 u56 u57 u58 u59 u60 u61 u62 u63 u64 u65 u66 u67 u68 u69 u70 u71 u72 u73 u74 u75 u76 u77 u78 u79 u80 u81 u82 u83 u84 u85 u86 u87 u88 u89 u90 u91 u92 u93 u94 u95 u96 u97 u98 u99 u100 u101 u102 u103 u104 u105 u106 u107 u108 u109 u110 u111 u112 u113 u114 u115 u116 u117 u118 u119 u120 u121 u122 u123 u124 u125 u126 u127 u128 u129 u130 u131 u132 u133 u134 u135 u136 u137 u138 u139 u140 u141 u142 u143 u144 u145 u146 u147 u148 u149 u150 u151 u152 u153 u154 u155 u156 u157 u158 u159 u160 u161 u162 u163 u164 u165 u166 u167 u168 u169 u170 u171 u172 u173 u174 u175 u176 u177 u178 u179 u180 u181 u182 u183 u184 u185 u186 u187 u188 u189 u190 u191 u192 u193 u194 u195 u196 u197 u198 u199 u200 u201 u202 u203 u204 u205 u206 u207 u208 u209 u210 u211 u212 u213 u214 u215 u216 u217 u218 u219 u220 u221 u222 u223 u224 u225 u226 u227 u228 u229 u230 u231 u232 u233 u234 u235 u236 u237 u238 u239 u240 u241 u242 u243 u244 u245 u246 u247 u248 u249 u250 u251 u252 u253 u254 u255 u256 u257 u258 u259 u260 u261 u262 u263 u264 u265 u266 u267 u268 u269 u270 u271 u272 u273 u274 u275 u276 u277 u278 u279 u280 u281 u282 u283 u284 u285 u286 u287 u288 u289 u290 u291 u292 u293 u294 u295 u296 u297 u298 u299 u300 u301 u302 : Value} (b1 b2 x9 v13 k g1 k1 gC qC kC g3 lb k3 N : Nat) (nw nv : Int) (y0 y1 y2 y3 y4 y5 y6 : Value) (s0 : Svc) (SV : List Svc) (CS BS : List Value) (w : World) (hk : k < SV.length) (hl8 : SV.length ≤ 8)
  (H1 : Hid (w.heap[b1]? = some (.cells #[y0, y1, y2, y3, y4, y5, y6, .bool true] 42 (0, 0)))) (H2 : Hid (w.heap[b2]? = some (.cells #[.int .i64 0, .slice none 0 0, .slice none 0 0, .slice none 0 0] 36 (0, 0)))) (HX : Hid (w.heap[x9]? = some (.cells #[.int .i64 nw, .slice (some ⟨g1, 0, none⟩) SV.length k1, .slice (some ⟨gC, 0, none⟩) qC kC, .slice (some ⟨g3, 0, none⟩) lb k3] 36 (0, 0)))) (P : Hid (w.heap[v13]? = some (.cells #[.string s0.name, .int .i64 s0.version, .bool s0.gone, .int .i64 s0.image, .int .i64 s0.want, .int .i64 s0.down, .int .i64 s0.over, .int .i64 s0.next, .int .i64 s0.per, .int .i64 s0.least, .int .i64 s0.most, .int .i64 s0.load, .int .i64 s0.cool] 67 (0, 0)))) (R1 : Hid (RowIs w 67 13 g1 SV.length k1 (svcsV SV))) (RC : Hid (RowIs w 149 7 gC qC kC CS)) (R3 : Hid (RowIs w 147 2 g3 lb k3 BS))
  (d1 : b1 ≠ v13 ∧ b2 ≠ v13 ∧ x9 ≠ v13 ∧ g1 ≠ v13 ∧ gC ≠ v13 ∧ g3 ≠ v13) (d2 : b1 ≠ g1 ∧ b2 ≠ g1 ∧ x9 ≠ g1 ∧ gC ≠ g1 ∧ g3 ≠ g1) (d3 : b2 ≠ x9 ∧ gC ≠ x9 ∧ g3 ≠ x9 ∧ gC ≠ b2 ∧ g3 ≠ b2) (d4 : N ≤ v13 ∧ N ≤ g1 ∧ N ≤ x9 ∧ N ≤ b2) {Post : Ending → World → Prop}
  (hP : ∀ (gN capN mm : Nat) (w' : World), k + 1 + mm = SV.length → N ≤ gN → Hid (RowIs w' 67 13 gN (k + mm) capN (svcsV ((SV.set k { s0 with version := nv }).take k ++ (SV.set k { s0 with version := nv }).drop (k + 1)))) → Hid (RowIs w' 149 7 gC qC kC CS) → Hid (RowIs w' 147 2 g3 lb k3 BS) → Below N w w' → Post (.returned (.tuple #[.agg #[.int .i64 nv, .slice (some ⟨gN, 0, none⟩) (k + mm) capN, .slice (some ⟨gC, 0, none⟩) qC kC, .slice (some ⟨g3, 0, none⟩) lb k3], .int .i64 0])) w') :
  Code.wp Tryz.prog (cSnd (cSnd (cSnd (cSnd (cSnd (cSnd (cSnd (cSnd (cSnd (cSnd (cSnd (cSnd (cSnd (cSnd (cSnd (cSnd (cSnd (cSnd ((Tryz.f40.body.getD .skip)))))))))))))))))))) (bodyPost Tryz.prog Tryz.f40 Post) { tmps := #[u0, u1, u2, .pointer (some ⟨b1, 0, none⟩), .pointer (some ⟨b2, 0, none⟩), u5, .int .i64 (k : Int), u7, u8, .pointer (some ⟨x9, 0, none⟩), .int .i64 nv, u11, u12, .pointer (some ⟨v13, 0, none⟩), u14, u15, u16, u17, u18, u19, u20, u21, u22, u23, u24, u25, u26, u27, u28, u29, u30, u31, u32, u33, u34, u35, u36, u37, u38, u39, u40, u41, u42, u43, u44, u45, u46, u47, u48, u49, u50, u51, u52, u53, u54, u55, u56, u57, u58, u59, u60, u61, u62, u63, u64, u65, u66, u67, u68, u69, u70, u71, u72, u73, u74, u75, u76, u77, u78, u79, u80, u81, u82, u83, u84, u85, u86, u87, u88, u89, u90, u91, u92, u93, u94, u95, u96, u97, u98, u99, u100, u101, u102, u103, u104, u105, u106, u107, u108, u109, u110, u111, u112, u113, u114, u115, u116, u117, u118, u119, u120, u121, u122, u123, u124, u125, u126, u127, u128, u129, u130, u131, u132, u133, u134, u135, u136, u137, u138, u139, u140, u141, u142, u143, u144, u145, u146, u147, u148, u149, u150, u151, u152, u153, u154, u155, u156, u157, u158, u159, u160, u161, u162, u163, u164, u165, u166, u167, u168, u169, u170, u171, u172, u173, u174, u175, u176, u177, u178, u179, u180, u181, u182, u183, u184, u185, u186, u187, u188, u189, u190, u191, u192, u193, u194, u195, u196, u197, u198, u199, u200, u201, u202, u203, u204, u205, u206, u207, u208, u209, u210, u211, u212, u213, u214, u215, u216, u217, u218, u219, u220, u221, u222, u223, u224, u225, u226, u227, u228, u229, u230, u231, u232, u233, u234, u235, u236, u237, u238, u239, u240, u241, u242, u243, u244, u245, u246, u247, u248, u249, u250, u251, u252, u253, u254, u255, u256, u257, u258, u259, u260, u261, u262, u263, u264, u265, u266, u267, u268, u269, u270, u271, u272, u273, u274, u275, u276, u277, u278, u279, u280, u281, u282, u283, u284, u285, u286, u287, u288, u289, u290, u291, u292, u293, u294, u295, u296, u297, u298, u299, u300, u301, u302], defers := [] } w := by
 have D1 : Hid _ := d1
 have D2 : Hid _ := d2
 have D3 : Hid _ := d3
 have D4 : Hid _ := d4
 clear d1 d2 d3 d4
 have hb : Below N w w := Below.refl _ _
 show Code.wp Tryz.prog (.seq _ _) _ _ _
 dsimp only
 go_upto_region 51 with ((with_reducible show wpList _ _ _ _ _ _); refine wpList_store_one rfl 3 (.tmp 279) (.tmp 278) rfl v13 1 (.int .i64 nv) rfl rfl Tryz.infosIntR rfl rfl 67 #[.string s0.name, .int .i64 s0.version, .bool s0.gone, .int .i64 s0.image, .int .i64 s0.want, .int .i64 s0.down, .int .i64 s0.over, .int .i64 s0.next, .int .i64 s0.per, .int .i64 s0.least, .int .i64 s0.most, .int .i64 s0.load, .int .i64 s0.cool] P.out (Nat.le_of_ble_eq_true rfl) ?_; intro w20 hz on; have P20 : Hid (w20.heap[v13]? = some (.cells #[.string s0.name, .int .i64 nv, .bool s0.gone, .int .i64 s0.image, .int .i64 s0.want, .int .i64 s0.down, .int .i64 s0.over, .int .i64 s0.next, .int .i64 s0.per, .int .i64 s0.least, .int .i64 s0.most, .int .i64 s0.load, .int .i64 s0.cool] 67 (0, 0))) := hz; have H120 : Hid _ := (on.other _ (D1.out.1)).trans H1.out; have H220 : Hid _ := (on.other _ (D1.out.2.1)).trans H2.out; have HX20 : Hid _ := (on.other _ (D1.out.2.2.1)).trans HX.out; have R120 : Hid (RowIs w20 67 13 g1 SV.length k1 (svcsV SV)) := R1.out.blk (on.other _ (D1.out.2.2.2.1)); have RC20 : Hid (RowIs w20 149 7 gC qC kC CS) := RC.out.blk (on.other _ (D1.out.2.2.2.2.1)); have R320 : Hid (RowIs w20 147 2 g3 lb k3 BS) := R3.out.blk (on.other _ (D1.out.2.2.2.2.2)); have hb20 := hb.trans (on.below.mono (D4.out.1)); clear hz on H1 H2 HX R1 RC R3 hb)
 try simp only [Act.put]
 clear P
 have x1 := blk_cell HX20.out 1 rfl
 go_upto_region 52 with (first
  | ((with_reducible show wpList _ _ _ _ _ _); refine wpList_load_row rfl 67 (.tmp 13) rfl v13 rfl 67 #[.string s0.name, .int .i64 nv, .bool s0.gone, .int .i64 s0.image, .int .i64 s0.want, .int .i64 s0.down, .int .i64 s0.over, .int .i64 s0.next, .int .i64 s0.per, .int .i64 s0.least, .int .i64 s0.most, .int .i64 s0.load, .int .i64 s0.cool] (0, 0) _ P20.out Tryz.underlying67 rfl Tryz.infosSvcR ?_)
  | ((with_reducible show wpList _ _ _ _ _ _); refine wpList_row_only rfl 67 (.tmp 284) (.tmp 283) rfl g1 _ #[.string s0.name, .int .i64 nv, .bool s0.gone, .int .i64 s0.image, .int .i64 s0.want, .int .i64 s0.down, .int .i64 s0.over, .int .i64 s0.next, .int .i64 s0.per, .int .i64 s0.least, .int .i64 s0.most, .int .i64 s0.load, .int .i64 s0.cool] rfl rfl Tryz.infosSvcR (by simp [Value.oneCell']) 67 13 SV.length k1 (svcsV SV) R120.out (by first | exact row_fit13 hk | (rw [Nat.zero_add]; exact row_fit13 hk)) ?_; intro w21 hz on; have RD21 : Hid (RowIs w21 67 13 g1 SV.length k1 (svcsV (SV.set k { s0 with version := nv }))) := (by have h0 := hz.out; (try rw [Nat.zero_add] at h0); unfold Hid; rw [show svcsV (SV.set k { s0 with version := nv }) = splice (svcsV SV) (k * 13) (Svc.cells { s0 with version := nv }) from (flat_splice (c := Svc.cells) (n := 13) (fun _ => rfl) SV k _ hk).symm]; exact h0); have H121 : Hid _ := (on.other _ (D2.out.1)).trans H120.out; have H221 : Hid _ := (on.other _ (D2.out.2.1)).trans H220.out; have HX21 : Hid _ := (on.other _ (D2.out.2.2.1)).trans HX20.out; have RC21 : Hid (RowIs w21 149 7 gC qC kC CS) := RC20.out.blk (on.other _ (D2.out.2.2.2.1)); have R321 : Hid (RowIs w21 147 2 g3 lb k3 BS) := R320.out.blk (on.other _ (D2.out.2.2.2.2)); have hb21 := hb20.trans (on.below.mono (D4.out.2.1)); clear hz on H120 H220 HX20 RC20 R320 hb20))
 try simp only [Act.put]
 clear x1 P20 R120
 have f7 := blk_cell H121.out 7 rfl
 go_upto_region 53 with fail
 clear f7 H121
 obtain ⟨sd, HSD⟩ : ∃ z, Hid (z = (SV.set k { s0 with version := nv })) := ⟨_, rfl⟩
 have HSL : Hid (sd.length = SV.length) := by unfold Hid; rw [HSD.out, List.length_set]
 rw [← HSD.out] at RD21
 have HTL : Hid ((sd.take k).length = k) := by unfold Hid; rw [List.length_take, HSL.out]; exact Nat.min_eq_left (Nat.le_of_lt hk)
 obtain ⟨mm, HMM⟩ : ∃ z, Hid (SV.length - (k + 1) = z) := ⟨_, rfl⟩
 have HDL : Hid ((sd.drop (k + 1)).length = mm) := by unfold Hid; rw [List.length_drop, HSL.out]; exact HMM.out
 have hm2 : k + 1 + mm = SV.length := HMM.out ▸ Nat.add_sub_of_le hk
 have hkc := RD21.out.2.1
 obtain ⟨off, HOF⟩ : ∃ z, Hid ((if k1 = k + 1 then 0 else 0 + (k + 1) * 13) = z) := ⟨_, rfl⟩
 have HOF2 : Hid (off = (k + 1) * 13 ∨ mm = 0) := slice_if13 hm2 hkc HOF.out
 have hle : k ≤ SV.length := Nat.le_of_lt hk
 have hfa : k ≤ maxLen := fit8_63 (Nat.le_trans hle hl8)
 have hfb : k * 112 ≤ 140737488355328 := fit8_by (Nat.le_trans hle hl8)
 have hfe : k + mm ≤ maxLen := fit8_63 (fit8_3 hm2 hl8)
 have hff : (k + mm) * 112 ≤ 140737488355328 := fit8_by (fit8_3 hm2 hl8)
 have HWK : Hid (wrap64 ((k : Int) + 1) = (k : Int) + 1) := fit8_w (Nat.le_trans hle hl8)
 have hwk := HWK.out
 refine wp_region_owns 13 3 [[], [], [1], [], [2, 3], [0, 4], [], [6], [], [8], [7, 9], [5, 10], []] [11] [0, 5, 11] [11] (by kernel_rfl) (by kernel_rfl) (by kernel_rfl) ?_
 refine own_grow (fun vv W => ∃ g, vv = .slice (some ⟨g, 0, none⟩) 0 0 ∧ w21.heap.size ≤ g ∧ W.heap[g]? = some (.cells #[] 67 (0, 0))) (fun v W W2 ⟨g, h1, h2, h3⟩ hb => ⟨g, h1, h2, below_blk hb h3 (Array.getElem?_eq_some_iff.1 h3).1⟩) (by kernel_rfl) (by kernel_rfl) ?_ ?_
 ·intro V W K Zz hW hd hA hK
  simp only [putAll, pz1, pz2, pz3, pz4, Act.put, pz5, pz6, pz7] at hA
  clear hd
  obtain rfl := hA
  go_wp2
  exact hK.out _ _ (below_box W _) ⟨_, rfl, hW.size, heap_alloc_new W _⟩
 apply own_eq (by kernel_rfl)
 ·intro V W K Zz hW hd hA hK
  simp only [putAll, pz1, pz2, pz3, pz4, Act.put, pz5, pz6, pz7] at hA
  clear hd
  obtain rfl := hA
  go_wp2
  exact hK.out _ brf
 apply own_eq (by kernel_rfl)
 ·intro V W K Zz hW hd hA hK
  have d1 : V 1 = _ := hd 1 (by kernel_rfl)
  simp only [putAll, pz1, pz2, pz3, pz4, Act.put, pz5, pz6, pz7] at hA
  clear hd
  generalize V 1 = x1 at d1 hA
  subst d1
  obtain rfl := hA
  have x1 := blk_cell (blk_up hW HX21.out) 1 rfl
  go_wp2
  exact hK.out _ brf
 apply own_eq (by kernel_rfl)
 ·intro V W K Zz hW hd hA hK
  simp only [putAll, pz1, pz2, pz3, pz4, Act.put, pz5, pz6, pz7] at hA
  clear hd
  obtain rfl := hA
  go_wp2
  exact hK.out _ brf
 apply own_eq (by kernel_rfl)
 ·intro V W K Zz hW hd hA hK
  have d2 : V 2 = _ := hd 2 (by kernel_rfl)
  have d3 : V 3 = _ := hd 3 (by kernel_rfl)
  simp only [putAll, pz1, pz2, pz3, pz4, Act.put, pz5, pz6, pz7] at hA
  clear hd
  generalize V 2 = x2 at d2 hA
  generalize V 3 = x3 at d3 hA
  subst d2
  subst d3
  obtain rfl := hA
  go_wp2
  exact hK.out _ brf
 refine own_grow (fun vv W => ∃ g cap, vv = .slice (some ⟨g, 0, none⟩) (k) cap ∧ w21.heap.size ≤ g ∧ RowIs W 67 13 g (k) cap (svcsV (sd.take k))) (fun v W W2 ⟨g, cap, h1, h2, h3⟩ hb => ⟨g, cap, h1, h2, h3.below hb h3.lt⟩) (by kernel_rfl) (by kernel_rfl) ?_ ?_
 ·intro V W K Zz hW hd hA hK
  have d0 : (fun vv W => ∃ g, vv = .slice (some ⟨g, 0, none⟩) 0 0 ∧ w21.heap.size ≤ g ∧ W.heap[g]? = some (.cells #[] 67 (0, 0))) (V 0) W := hd 0 (by kernel_rfl)
  have d4 : V 4 = _ := hd 4 (by kernel_rfl)
  simp only [putAll, pz1, pz2, pz3, pz4, Act.put, pz5, pz6, pz7] at hA
  clear hd
  generalize V 0 = x0 at d0 hA
  generalize V 4 = x4 at d4 hA
  subst d4
  obtain rfl := hA
  obtain ⟨g, rfl, hg, hgz⟩ := d0
  have hsrc : k ≠ 0 → ∃ ad, some (⟨g1, 0, none⟩ : Addr) = some ad ∧ ∀ j u, (svcsV (sd.take k))[j]? = some u → W.cell? (ad.add j) = some u := fun _ => ⟨_, rfl, (RD21.out.below hW RD21.out.lt).srcTakeR (c := Svc.cells) (fun _ => rfl) k⟩
  refine wpList_append_fresh rfl (.tmp 287) (.tmp 291) 32 rfl 67 _ 13 112 Tryz.underlying32 Tryz.infoSvcR rfl g rfl hgz (some ⟨g1, 0, none⟩) k _ (svcsV (sd.take k)) rfl (by rw [svcsV_len, HTL.out]) hsrc (svcsV_one _) hfa hfb ?_
  intro g' cap' w2 hg' hrow hb2
  have hgg : w21.heap.size ≤ g' := hg'.elim (fun e => e ▸ hg) (fun e => e ▸ hW.size)
  go_wp2
  exact hK.out _ _ hb2 ⟨g', cap', rfl, hgg, hrow.out⟩
 apply own_eq (by kernel_rfl)
 ·intro V W K Zz hW hd hA hK
  simp only [putAll, pz1, pz2, pz3, pz4, Act.put, pz5, pz6, pz7] at hA
  clear hd
  obtain rfl := hA
  go_wp2
  exact hK.out _ brf
 apply own_eq (by kernel_rfl)
 ·intro V W K Zz hW hd hA hK
  have d6 : V 6 = _ := hd 6 (by kernel_rfl)
  simp only [putAll, pz1, pz2, pz3, pz4, Act.put, pz5, pz6, pz7] at hA
  clear hd
  generalize V 6 = x6 at d6 hA
  subst d6
  obtain rfl := hA
  have x1 := blk_cell (blk_up hW HX21.out) 1 rfl
  go_wp2
  exact hK.out _ brf
 apply own_eq (by kernel_rfl)
 ·intro V W K Zz hW hd hA hK
  simp only [putAll, pz1, pz2, pz3, pz4, Act.put, pz5, pz6, pz7] at hA
  clear hd
  obtain rfl := hA
  go_wp2
  exact hK.out _ brf
 apply own_eq (by kernel_rfl)
 ·intro V W K Zz hW hd hA hK
  have d8 : V 8 = _ := hd 8 (by kernel_rfl)
  simp only [putAll, pz1, pz2, pz3, pz4, Act.put, pz5, pz6, pz7] at hA
  clear hd
  generalize V 8 = x8 at d8 hA
  subst d8
  obtain rfl := hA
  go_wp2
  exact hK.out _ brf
 apply own_eq (by kernel_rfl)
 ·intro V W K Zz hW hd hA hK
  have d7 : V 7 = _ := hd 7 (by kernel_rfl)
  have d9 : V 9 = _ := hd 9 (by kernel_rfl)
  simp only [putAll, pz1, pz2, pz3, pz4, Act.put, pz5, pz6, pz7] at hA
  clear hd
  generalize V 7 = x7 at d7 hA
  generalize V 9 = x9 at d9 hA
  subst d7
  subst d9
  obtain rfl := hA
  refine wpList_slice_fix rfl 32 (.tmp 294) (some (.tmp 296)) none none rfl Tryz.undSvcsR 13 Tryz.infoElemSvcR g1 0 SV.length k1 (k + 1) SV.length k1 rfl (some (.int .i64 ((k + 1 : Nat) : Int))) none none (by first | rfl | (show some (Value.int .i64 (wrap64 ((k : Int) + 1))) = _; rw [HWK.out]; rfl)) rfl rfl (fun w => run_slice_l w _ _ _ _ Tryz.undSvcsR .i64 ((k + 1 : Nat) : Int) (Int.natCast_nonneg _) (Int.ofNat_le.2 hk)) ?_
  rw [HMM.out, HOF.out]
  go_wp2
  exact hK.out _ brf
 refine own_own (fun vv W => ∃ g cap, vv = .slice (some ⟨g, 0, none⟩) (k + mm) cap ∧ w21.heap.size ≤ g ∧ RowIs W 67 13 g (k + mm) cap (svcsV (sd.take k) ++ svcsV (sd.drop (k + 1)))) (fun v W W2 ⟨g, cap, h1, h2, h3⟩ hb => ⟨g, cap, h1, h2, h3.below hb h3.lt⟩) (by kernel_rfl) (by kernel_rfl) ?_ ?_
 ·intro V W K Zz hW hd hA hK
  have d5 : (fun vv W => ∃ g cap, vv = .slice (some ⟨g, 0, none⟩) (k) cap ∧ w21.heap.size ≤ g ∧ RowIs W 67 13 g (k) cap (svcsV (sd.take k))) (V 5) W := hd 5 (by kernel_rfl)
  have d10 : V 10 = _ := hd 10 (by kernel_rfl)
  simp only [putAll, pz1, pz2, pz3, pz4, Act.put, pz5, pz6, pz7] at hA
  clear hd
  generalize V 5 = x5 at d5 hA
  generalize V 10 = x10 at d10 hA
  subst d10
  obtain rfl := hA
  obtain ⟨gA, capA, rfl, hgA, hrA⟩ := d5
  have hof := HOF2.out
  have hsrc : ∀ j u, (svcsV (sd.drop (k + 1)))[j]? = some u → W.cell? ((⟨g1, off, none⟩ : Addr).add j) = some u := by
   rcases hof with ho | ho
   ·rw [ho]; exact (RD21.out.below hW RD21.out.lt).srcDropR (c := Svc.cells) (fun _ => rfl) (k + 1)
   ·intro j u hu; rw [List.length_eq_zero_iff.1 (HDL.out.trans ho)] at hu; simp [svcsV] at hu
  refine wpList_append_row rfl (.tmp 292) (.tmp 297) 32 rfl 67 _ 13 112 Tryz.underlying32 Tryz.infoSvcR rfl gA k capA _ rfl hrA ⟨g1, off, none⟩ mm _ (svcsV (sd.drop (k + 1))) rfl (by rw [svcsV_len, HDL.out]) hsrc (svcsV_one _) hfe hff ?_
  intro g' cap' w2 hg' hrow hgr
  have hgg : w21.heap.size ≤ g' := hg'.elim (fun e => e ▸ hgA) (fun e => e ▸ hW.size)
  have hbo := below_of_grown hgr hgA hW.size
  clear hgr
  go_wp2
  exact hK.out _ _ hbo ⟨g', cap', rfl, hgg, hrow.out⟩
 apply own_eq (by kernel_rfl)
 ·intro V W K Zz hW hd hA hK
  simp only [putAll, pz1, pz2, pz3, pz4, Act.put, pz5, pz6, pz7] at hA
  clear hd
  obtain rfl := hA
  go_wp2
  exact hK.out _ brf
 intro V W Zz hW hS hA
 have d1 : V 1 = _ := hS 1 (by omega) (.inr (by kernel_rfl))
 have d2 : V 2 = _ := hS 2 (by omega) (.inr (by kernel_rfl))
 have d3 : V 3 = _ := hS 3 (by omega) (.inr (by kernel_rfl))
 have d4 : V 4 = _ := hS 4 (by omega) (.inr (by kernel_rfl))
 have d6 : V 6 = _ := hS 6 (by omega) (.inr (by kernel_rfl))
 have d7 : V 7 = _ := hS 7 (by omega) (.inr (by kernel_rfl))
 have d8 : V 8 = _ := hS 8 (by omega) (.inr (by kernel_rfl))
 have d9 : V 9 = _ := hS 9 (by omega) (.inr (by kernel_rfl))
 have d10 : V 10 = _ := hS 10 (by omega) (.inr (by kernel_rfl))
 have d11 : (fun vv W => ∃ g cap, vv = .slice (some ⟨g, 0, none⟩) (k + mm) cap ∧ w21.heap.size ≤ g ∧ RowIs W 67 13 g (k + mm) cap (svcsV (sd.take k) ++ svcsV (sd.drop (k + 1)))) (V 11) W := hS 11 (by omega) (.inl (by kernel_rfl))
 have d12 : V 12 = _ := hS 12 (by omega) (.inr (by kernel_rfl))
 simp only [putAll, pz1, pz2, pz3, pz4, Act.put, pz5, pz6, pz7] at hA
 clear hS
 generalize V 1 = x1 at d1 hA
 generalize V 2 = x2 at d2 hA
 generalize V 3 = x3 at d3 hA
 generalize V 4 = x4 at d4 hA
 generalize V 6 = x6 at d6 hA
 generalize V 7 = x7 at d7 hA
 generalize V 8 = x8 at d8 hA
 generalize V 9 = x9 at d9 hA
 generalize V 10 = x10 at d10 hA
 generalize V 11 = x11 at d11 hA
 generalize V 12 = x12 at d12 hA
 subst d1
 subst d2
 subst d3
 subst d4
 subst d6
 subst d7
 subst d8
 subst d9
 subst d10
 subst d12
 obtain rfl := hA
 simp only [List.drop_succ_cons, List.drop_zero]
 obtain ⟨gN, capN, rfl, hgN, hrN⟩ := d11
 have RN40 : Hid (RowIs W 67 13 gN (k + mm) capN (svcsV ((SV.set k { s0 with version := nv }).take k ++ (SV.set k { s0 with version := nv }).drop (k + 1)))) := by unfold Hid; rw [← HSD.out]; unfold svcsV at hrN ⊢; rw [List.flatMap_append]; exact hrN
 have hx9 := (Array.getElem?_eq_some_iff.1 HX21.out).1
 have hb2l := (Array.getElem?_eq_some_iff.1 H221.out).1
 have HNX : Hid (gN ≠ x9) := Nat.ne_of_gt (Nat.lt_of_lt_of_le hx9 hgN)
 have HNB : Hid (gN ≠ b2) := Nat.ne_of_gt (Nat.lt_of_lt_of_le hb2l hgN)
 have HX40 : Hid _ := blk_up hW HX21.out
 have H240 : Hid _ := blk_up hW H221.out
 have RC40 : Hid (RowIs W 149 7 gC qC kC CS) := RC21.out.below hW RC21.out.lt
 have R340 : Hid (RowIs W 147 2 g3 lb k3 BS) := R321.out.below hW R321.out.lt
 have hb40 := hb21.trans (hW.mono (Nat.le_trans (D4.out.2.2.1) (Nat.le_of_lt hx9)))
 clear hrN hW RD21 HX21 H221 RC21 R321 hb21 hfa hfb hfe hff hkc
 go_upto_region 54 with ((with_reducible show wpList _ _ _ _ _ _); refine wpList_store_one rfl 32 (.tmp 299) (.tmp 298) rfl x9 1 (.slice (some ⟨gN, 0, none⟩) (k + mm) capN) rfl rfl Tryz.infosSvcsR rfl rfl 36 #[.int .i64 nw, .slice (some ⟨g1, 0, none⟩) SV.length k1, .slice (some ⟨gC, 0, none⟩) qC kC, .slice (some ⟨g3, 0, none⟩) lb k3] HX40.out (Nat.le_of_ble_eq_true rfl) ?_; intro w41 hz on; have HX41 : Hid (w41.heap[x9]? = some (.cells #[.int .i64 nw, .slice (some ⟨gN, 0, none⟩) (k + mm) capN, .slice (some ⟨gC, 0, none⟩) qC kC, .slice (some ⟨g3, 0, none⟩) lb k3] 36 (0, 0))) := hz; have H241 : Hid _ := (on.other _ (D3.out.1)).trans H240.out; have RN41 : Hid (RowIs w41 67 13 gN (k + mm) capN (svcsV ((SV.set k { s0 with version := nv }).take k ++ (SV.set k { s0 with version := nv }).drop (k + 1)))) := RN40.out.blk (on.other _ HNX.out); have RC41 : Hid (RowIs w41 149 7 gC qC kC CS) := RC40.out.blk (on.other _ (D3.out.2.1)); have R341 : Hid (RowIs w41 147 2 g3 lb k3 BS) := R340.out.blk (on.other _ (D3.out.2.2.1)); have hb41 := hb40.trans (on.below.mono (D4.out.2.2.1)); clear hz on H240 RN40 RC40 R340 hb40)
 try simp only [Act.put]
 clear HX40
 go_upto_region 55 with ((with_reducible show wpList _ _ _ _ _ _); refine wpList_store_one rfl 3 (.tmp 301) (.tmp 300) rfl x9 0 (.int .i64 nv) rfl rfl Tryz.infosIntR rfl rfl 36 #[.int .i64 nw, .slice (some ⟨gN, 0, none⟩) (k + mm) capN, .slice (some ⟨gC, 0, none⟩) qC kC, .slice (some ⟨g3, 0, none⟩) lb k3] HX41.out (Nat.le_of_ble_eq_true rfl) ?_; intro w42 hz on; have HX42 : Hid (w42.heap[x9]? = some (.cells #[.int .i64 nv, .slice (some ⟨gN, 0, none⟩) (k + mm) capN, .slice (some ⟨gC, 0, none⟩) qC kC, .slice (some ⟨g3, 0, none⟩) lb k3] 36 (0, 0))) := hz; have H242 : Hid _ := (on.other _ (D3.out.1)).trans H241.out; have RN42 : Hid (RowIs w42 67 13 gN (k + mm) capN (svcsV ((SV.set k { s0 with version := nv }).take k ++ (SV.set k { s0 with version := nv }).drop (k + 1)))) := RN41.out.blk (on.other _ HNX.out); have RC42 : Hid (RowIs w42 149 7 gC qC kC CS) := RC41.out.blk (on.other _ (D3.out.2.1)); have R342 : Hid (RowIs w42 147 2 g3 lb k3 BS) := R341.out.blk (on.other _ (D3.out.2.2.1)); have hb42 := hb41.trans (on.below.mono (D4.out.2.2.1)); clear hz on H241 RN41 RC41 R341 hb41)
 try simp only [Act.put]
 clear HX41
 have e0 := blk_cell HX42.out 0 rfl
 have e1 := blk_cell HX42.out 1 rfl
 have e2 := blk_cell HX42.out 2 rfl
 have e3 := blk_cell HX42.out 3 rfl
 go_wp2_with ((with_reducible show wpList _ _ _ _ _ _); refine wpList_store_only rfl 36 (.tmp 4) (.tmp 302) rfl b2 0 #[.int .i64 nv, .slice (some ⟨gN, 0, none⟩) (k + mm) capN, .slice (some ⟨gC, 0, none⟩) qC kC, .slice (some ⟨g3, 0, none⟩) lb k3] rfl rfl 36 #[.int .i64 0, .slice none 0 0, .slice none 0 0, .slice none 0 0] H242.out Tryz.infosBookR (Nat.le_of_ble_eq_true rfl) (by simp [Value.oneCell']) ?_; intro w43 hz on; have RF : Hid (w43.heap[b2]? = some (.cells #[.int .i64 nv, .slice (some ⟨gN, 0, none⟩) (k + mm) capN, .slice (some ⟨gC, 0, none⟩) qC kC, .slice (some ⟨g3, 0, none⟩) lb k3] 36 (0, 0))) := hz; have RN43 : Hid (RowIs w43 67 13 gN (k + mm) capN (svcsV ((SV.set k { s0 with version := nv }).take k ++ (SV.set k { s0 with version := nv }).drop (k + 1)))) := RN42.out.blk (on.other _ HNB.out); have RC43 : Hid (RowIs w43 149 7 gC qC kC CS) := RC42.out.blk (on.other _ (D3.out.2.2.2.1)); have R343 : Hid (RowIs w43 147 2 g3 lb k3 BS) := R342.out.blk (on.other _ (D3.out.2.2.2.2)); have hb43 := hb42.trans (on.below.mono (D4.out.2.2.2)); clear hz on RN42 RC42 R342 hb42; clear e0 e1 e2 e3; have p0 := blk_cell RF.out 0 rfl; have p1 := blk_cell RF.out 1 rfl; have p2 := blk_cell RF.out 2 rfl; have p3 := blk_cell RF.out 3 rfl)
 exact bodyPost_ret (v := .tuple #[.agg #[.int .i64 nv, .slice (some ⟨gN, 0, none⟩) (k + mm) capN, .slice (some ⟨gC, 0, none⟩) qC kC, .slice (some ⟨g3, 0, none⟩) lb k3], .int .i64 0]) (by simp [results, Tryz.results40, go_sem, p0, p1, p2, p3]) rfl (hP gN capN mm w43 hm2 (Nat.le_trans (D4.out.2.2.1) (Nat.le_of_lt (Nat.lt_of_lt_of_le hx9 hgN))) RN43 RC43 R343 hb43)
end Go.Proofs.YtbceafpodamnfabGreatDoor
