/-
  My own: Ri, Rj.
-/
import Derived.Test.YtbceafpodamnfabGreatDoorG13
import Derived.Great.BuildSlice
import Derived.OwnWalk
set_option linter.unusedVariables false
set_option linter.unusedSimpArgs false
namespace Go.Proofs.YtbceafpodamnfabGreatDoor
open Go.RowKit Go.Sort
section
variable {P : Program}
theorem wpList_slice_fix {ops : Array Oper} {rest : List Oper} {o : Oper} {a : Act} {w : World} {Q : Exit → Act → World → Prop} (hgd : o.guard = none) (t : TypeId) (x : Operand) (lo hi mx : Option Operand) (ho : o.op = .slice t x lo hi mx)
  (ht : P.underlying t = some (.slice (P.elem t))) (size : Nat) (hsz : (P.info? (P.elem t)).map (·.size) = some size) (g off n cap l h m : Nat) (hx : a.eval x = .slice (some ⟨g, off, none⟩) n cap) (lv hv mv : Option Value) (hlv : lo.map a.eval = lv) (hhv : hi.map a.eval = hv) (hmv : mx.map a.eval = mv)
  (hrun : ∀ w : World, (Instr.slice t (.slice (some ⟨g, off, none⟩) n cap) lv hv mv).run P w = ((sizeOf (P.elem t)).run P w).andThen fun s w => .ok (sliced (some ⟨g, off, none⟩) l h m s) w)
  (hk : wpList P ops Q rest (a.put o.dst (.slice (some ⟨g, if m = l then off else off + l * size, none⟩) (h - l) (m - l))) w) : wpList P ops Q (o :: rest) a w := by
 refine wpList_plain hgd fun K hK => ?_
 obtain ⟨i, hi', his⟩ : ∃ i, P.info? (P.elem t) = some i ∧ i.size = size := by
  cases hq : P.info? (P.elem t) with
  | none => simp [hq] at hsz
  | some i => exact ⟨i, rfl, by simpa [hq] using hsz⟩
 have hs : (sizeOf (P.elem t)).run P w = .ok size w := by simp [sizeOf, typeInfo, hi', his]
 have hrun := hrun w
 rw [hs] at hrun
 simp only [Result.andThen_ok] at hrun
 unfold Oper.wp execOp
 simp only [ho, hx, hlv, hhv, hmv, run_sliceAt_slice w t _ _ _ _ ht, Sem.run_bind, hrun, Result.andThen_ok, Sem.run_pure]
 unfold sliced
 by_cases hm : m = l
 ·rw [if_pos hm]
  rw [if_pos hm] at hk
  exact hK _ _ hk
 ·rw [if_neg hm]
  rw [Option.map_some, Addr.add_lit]
  rw [if_neg hm] at hk
  exact hK _ _ hk
end
theorem slice_if2 {m mm q kC off : Nat} (h : m + mm = q) (hk : q ≤ kC) (ho : (if kC = m then 0 else 0 + m * 7) = off) : off = m * 7 ∨ mm = 0 := by
 split at ho <;> omega
theorem fill_cp (c0 c1 c2 c3 c4 c5 c6 : Value) :
  Instr.fill (fun i => some (i * 7, 7)) ((Array.range (1 * 7)).map ((.agg #[.string ⟨#[]⟩, .int .i64 0, .int .i64 0, .int .i64 0, .int .i64 0, .bool false, .string ⟨#[]⟩] : Value).cells[· % (.agg #[.string ⟨#[]⟩, .int .i64 0, .int .i64 0, .int .i64 0, .int .i64 0, .bool false, .string ⟨#[]⟩] : Value).cells.size]!)) [(0, .agg #[c0, c1, c2, c3, c4, c5, c6])] = some #[c0, c1, c2, c3, c4, c5, c6] := by
 kernel_rfl
theorem wpList_buildCp {ops : Array Oper} {rest : List Oper} {o : Oper} {a : Act} {w : World} {Q : Exit → Act → World → Prop} (hg : o.guard = none) (x : Operand) (ho : o.op = .buildSlice 33 1 #[(0, x)]) (c0 c1 c2 c3 c4 c5 c6 : Value) (hx : a.eval x = .agg #[c0, c1, c2, c3, c4, c5, c6])
  (h : ∀ w', Hid (w'.heap[w.heap.size]? = some (.cells #[c0, c1, c2, c3, c4, c5, c6] 149 (0, 0))) → Below w.heap.size w w' → wpList Tryz.prog ops Q rest (a.put o.dst (.slice (some ⟨w.heap.size, 0, none⟩) 1 1)) w') : wpList Tryz.prog ops Q (o :: rest) a w := by
 obtain ⟨i, hi, hz, hs, hb⟩ := info_parts Tryz.infoCpR
 refine wpList_buildSlice hg _ 149 1 _ ho #[c0, c1, c2, c3, c4, c5, c6] i _ Tryz.underlying33 hi hz (by rw [hs]; decide) (by rw [hs]; decide) ?_ (h _ (heap_alloc_new w _) (below_box w _))
 rw [hs]
 simp only [List.map_toArray, List.map_cons, List.map_nil, hx]
 exact fill_cp c0 c1 c2 c3 c4 c5 c6
end Go.Proofs.YtbceafpodamnfabGreatDoor

namespace Go.Proofs.YtbceafpodamnfabGreatDoor
open Go.RowKit Go.Sort
def cFst : Code → Code | .seq a _ => a | c => c
def cSnd : Code → Code | .seq _ b => b | c => c
def cIn : Code → Code | .block _ b => b | .loop b => b | c => c
set_option maxRecDepth 100000 in
set_option maxHeartbeats 16000000 in
theorem l4_ins {u0 u1 u2 u3 u4 u5 u6 u7 u8 u10 u11 u12 u14 u15 u18 u19 u20 u21 u22 u23 u24 u25 u26 u27 u28 u29 u30 u31 u32 u33 u34 u35 u36 u37 u38 u39 u40 u41 u42 u43 u44 u45 u46 u47 u48 u49 u50 u51 u52 u53 u54 u55 u56 u57 u58 u59 u60 u61 u62 u63 u64 u65 u66 u67 u68 u69 u70 u71 u72 u73 u74 u75 u76 u77 u78 u79 u80 u81 u82 u83 u84 u85 u86 u87 u88 u89 u90 u91 u92 u93 u94 u95 u96 u97 u98 u99 u100 u101 u102 u103 u104 u105 u106 u107 u108 u109 u110 u111 u112 u113 u114 u115 u116 u117 u118 u119 u120 u121 u122 u123 u124 u125 u126 u127 u128 u129 u130 u131 u132 u133 u134 u135 u136 u137 u138 u139 u140 u141 u142 u143 u144 u145 u146 u147 u148 u149 u150 u151 u152 u153 u154 u155 u156 u157 u158 u159 u160 u161 u162 u163 u164 u165 u166 u167 u168 u169 u170 u171 u172 u173 u174 u175 u176 u177 u178 u179 u180 u181 u182 u183 u184 u185 u186 u187 u188 u189 u190 u191 u192 u193 u194 u195 u196 u197 u198 u199 u200 u201 u202 u203 u204 u205 u206 u207 u208 u209 u210 u211 u212 u213 u214 u215 u216 u217 u218 u219 u220 u221 u222 u223 u224 u225 u226 u227 u228 u229 u230 u231 u232 u233 u234 u235 u236 u237 u238 u239 u240 u241 u242 u243 u244 u245 u246 u247 u248 u249 u250 u251 u252 u253 u254 u255 u256 u257 u258 u259 u260 u261 u262 u263 u264 u265 u266 u267 u268 u269 u270 u271 u272 u273 u274 u275 u276 u277 u278 u279 u280 u281 u282 u283 u284 u285 u286 u287 u288 u289 u290 u291 u292 u293 u294 u295 u296 u297 u298 u299 u300 u301 u302 : Value} (x9 v13 c16 m q kC gC : Nat) (lst : List Cp) (c : Cp) (s0 : Svc) (nw : Int) (a1 a3 : Value) (w32 : World) (HML : Hid (lst.length = q)) (hm : m ≤ q) (hq2 : q < 200) (hwn : wrap64 (s0.next + 1) = s0.next + 1) (HWN : Hid (wrap64 (s0.next + 1) = s0.next + 1))
  (HX32 : Hid (w32.heap[x9]? = some (.cells #[.int .i64 nw, a1, .slice (some ⟨gC, 0, none⟩) q kC, a3] 36 (0, 0)))) (CB32 : Hid (w32.heap[c16]? = some (.cells #[.string c.service, .int .i64 c.number, .int .i64 c.version, .int .i64 c.image, .int .i64 c.state, .bool c.ending, .string c.berth] 149 (0, 0)))) (P32 : Hid (w32.heap[v13]? = some (.cells #[.string s0.name, .int .i64 s0.version, .bool s0.gone, .int .i64 s0.image, .int .i64 s0.want, .int .i64 s0.down, .int .i64 s0.over, .int .i64 s0.next, .int .i64 s0.per, .int .i64 s0.least, .int .i64 s0.most, .int .i64 s0.load, .int .i64 s0.cool] 67 (0, 0)))) (RC32 : Hid (RowIs w32 149 7 gC q kC (cpsV lst))) (hxv : x9 ≠ v13) {K K3 : Act → World → Prop} {Q1 : Exit → Act → World → Prop}
  (hK : ∀ a w, Code.wp Tryz.prog (cSnd (cSnd (cSnd (cSnd (cIn (cFst (cSnd (cIn (cIn (cSnd (cFst (cSnd (cSnd (cSnd (cSnd (cSnd (cSnd (cSnd (cSnd (cSnd (cSnd (cSnd (cSnd (cSnd (cSnd (cSnd (cSnd (cSnd ((Tryz.f40.body.getD .skip)))))))))))))))))))))))))))) )) (Exit.inBlock 7 (Exit.then K3 Q1)) a w → K a w)
  (hK3 : ∀ (v259 v260 v261 v262 v263 v264 v265 v266 v267 v268 v269 v270 v271 v272 v273 v274 v275 v276 v277 : Value) (gN capN : Nat) (w42 : World), w32.heap.size ≤ gN → Hid (RowIs w42 149 7 gN (q + 1) capN (cpsV (lst.take m ++ c :: lst.drop m))) → Hid (w42.heap[x9]? = some (.cells #[.int .i64 nw, a1, .slice (some ⟨gN, 0, none⟩) (q + 1) capN, a3] 36 (0, 0))) → Hid (w42.heap[v13]? = some (.cells #[.string s0.name, .int .i64 s0.version, .bool s0.gone, .int .i64 s0.image, .int .i64 s0.want, .int .i64 s0.down, .int .i64 s0.over, .int .i64 (s0.next + 1), .int .i64 s0.per, .int .i64 s0.least, .int .i64 s0.most, .int .i64 s0.load, .int .i64 s0.cool] 67 (0, 0))) → (∀ k, k < w32.heap.size → k ≠ x9 → k ≠ v13 → w42.heap[k]? = w32.heap[k]?) → Below 0 w32 w42 → K3 { tmps := #[u0, u1, u2, u3, u4, u5, u6, u7, u8, .pointer (some ⟨x9, 0, none⟩), u10, u11, u12, .pointer (some ⟨v13, 0, none⟩), u14, u15, .pointer (some ⟨c16, 0, none⟩), .int .i64 m, u18, u19, u20, u21, u22, u23, u24, u25, u26, u27, u28, u29, u30, u31, u32, u33, u34, u35, u36, u37, u38, u39, u40, u41, u42, u43, u44, u45, u46, u47, u48, u49, u50, u51, u52, u53, u54, u55, u56, u57, u58, u59, u60, u61, u62, u63, u64, u65, u66, u67, u68, u69, u70, u71, u72, u73, u74, u75, u76, u77, u78, u79, u80, u81, u82, u83, u84, u85, u86, u87, u88, u89, u90, u91, u92, u93, u94, u95, u96, u97, u98, u99, u100, u101, u102, u103, u104, u105, u106, u107, u108, u109, u110, u111, u112, u113, u114, u115, u116, u117, u118, u119, u120, u121, u122, u123, u124, u125, u126, u127, u128, u129, u130, u131, u132, u133, u134, u135, u136, u137, u138, u139, u140, u141, u142, u143, u144, u145, u146, u147, u148, u149, u150, u151, u152, u153, u154, u155, u156, u157, u158, u159, u160, u161, u162, u163, u164, u165, u166, u167, u168, u169, u170, u171, u172, u173, u174, u175, u176, u177, u178, u179, u180, u181, u182, u183, u184, u185, u186, u187, u188, u189, u190, u191, u192, u193, u194, u195, u196, u197, u198, u199, u200, u201, u202, u203, u204, u205, u206, u207, u208, u209, u210, u211, u212, u213, u214, u215, u216, u217, u218, u219, u220, u221, u222, u223, u224, u225, u226, u227, u228, u229, u230, u231, u232, u233, u234, u235, u236, u237, u238, u239, u240, u241, u242, u243, u244, u245, u246, u247, u248, u249, u250, u251, u252, u253, u254, u255, u256, u257, u258, v259, v260, v261, v262, v263, v264, v265, v266, v267, v268, v269, v270, v271, v272, v273, v274, v275, v276, v277, u278, u279, u280, u281, u282, u283, u284, u285, u286, u287, u288, u289, u290, u291, u292, u293, u294, u295, u296, u297, u298, u299, u300, u301, u302], defers := [] } w42) :
  Code.wp Tryz.prog (cFst (cSnd (cSnd (cSnd (cIn (cFst (cSnd (cIn (cIn (cSnd (cFst (cSnd (cSnd (cSnd (cSnd (cSnd (cSnd (cSnd (cSnd (cSnd (cSnd (cSnd (cSnd (cSnd (cSnd (cSnd (cSnd (cSnd ((Tryz.f40.body.getD .skip)))))))))))))))))))))))))))) )) (Exit.then K (Exit.inBlock 7 (Exit.then K3 Q1))) { tmps := #[u0, u1, u2, u3, u4, u5, u6, u7, u8, .pointer (some ⟨x9, 0, none⟩), u10, u11, u12, .pointer (some ⟨v13, 0, none⟩), u14, u15, .pointer (some ⟨c16, 0, none⟩), .int .i64 m, u18, u19, u20, u21, u22, u23, u24, u25, u26, u27, u28, u29, u30, u31, u32, u33, u34, u35, u36, u37, u38, u39, u40, u41, u42, u43, u44, u45, u46, u47, u48, u49, u50, u51, u52, u53, u54, u55, u56, u57, u58, u59, u60, u61, u62, u63, u64, u65, u66, u67, u68, u69, u70, u71, u72, u73, u74, u75, u76, u77, u78, u79, u80, u81, u82, u83, u84, u85, u86, u87, u88, u89, u90, u91, u92, u93, u94, u95, u96, u97, u98, u99, u100, u101, u102, u103, u104, u105, u106, u107, u108, u109, u110, u111, u112, u113, u114, u115, u116, u117, u118, u119, u120, u121, u122, u123, u124, u125, u126, u127, u128, u129, u130, u131, u132, u133, u134, u135, u136, u137, u138, u139, u140, u141, u142, u143, u144, u145, u146, u147, u148, u149, u150, u151, u152, u153, u154, u155, u156, u157, u158, u159, u160, u161, u162, u163, u164, u165, u166, u167, u168, u169, u170, u171, u172, u173, u174, u175, u176, u177, u178, u179, u180, u181, u182, u183, u184, u185, u186, u187, u188, u189, u190, u191, u192, u193, u194, u195, u196, u197, u198, u199, u200, u201, u202, u203, u204, u205, u206, u207, u208, u209, u210, u211, u212, u213, u214, u215, u216, u217, u218, u219, u220, u221, u222, u223, u224, u225, u226, u227, u228, u229, u230, u231, u232, u233, u234, u235, u236, u237, u238, u239, u240, u241, u242, u243, u244, u245, u246, u247, u248, u249, u250, u251, u252, u253, u254, u255, u256, u257, u258, u259, u260, u261, u262, u263, u264, u265, u266, u267, u268, u269, u270, u271, u272, u273, u274, u275, u276, u277, u278, u279, u280, u281, u282, u283, u284, u285, u286, u287, u288, u289, u290, u291, u292, u293, u294, u295, u296, u297, u298, u299, u300, u301, u302], defers := [] } w32 := by
 have HTL : Hid ((lst.take m).length = m) := by unfold Hid; rw [List.length_take, HML.out]; exact Nat.min_eq_left hm
 obtain ⟨mm, HMM⟩ : ∃ z, Hid (q - m = z) := ⟨_, rfl⟩
 have HDL : Hid ((lst.drop m).length = mm) := by unfold Hid; rw [List.length_drop, HML.out]; exact HMM.out
 have hm2 : m + mm = q := HMM.out ▸ Nat.add_sub_of_le hm
 have hfa := fit_63 (Nat.le_trans hm (Nat.le_of_lt hq2))
 have hfb := fit_by (Nat.le_trans hm (Nat.le_of_lt hq2))
 have hfc : m + 1 ≤ maxLen := fit_63 (Nat.lt_of_le_of_lt hm hq2)
 have hfd : (m + 1) * 72 ≤ 140737488355328 := fit_by (Nat.lt_of_le_of_lt hm hq2)
 have hfe : m + 1 + mm ≤ maxLen := fit_63 (fit_3 hm2 hq2)
 have hff : (m + 1 + mm) * 72 ≤ 140737488355328 := fit_by (fit_3 hm2 hq2)
 have hkc := RC32.out.2.1
 obtain ⟨off, HOF⟩ : ∃ z, Hid ((if kC = m then 0 else 0 + m * 7) = z) := ⟨_, rfl⟩
 have HOF2 : Hid (off = m * 7 ∨ mm = 0) := slice_if2 hm2 hkc HOF.out
 have hK1 : ∀ a w, Code.wp Tryz.prog (.region 49 _ _) (Exit.inBlock 7 (Exit.then K3 Q1)) a w → K a w := hK
 clear hK
 show Code.wp Tryz.prog (.region 48 _ _) _ _ _
 refine wp_region_owns 15 3 [[], [], [1], [], [2, 3], [0, 4], [], [6], [5, 7], [], [9], [], [10, 11], [8, 12], []] [8, 13] [0, 5, 7, 8, 13] [13] (by kernel_rfl) (by kernel_rfl) (by kernel_rfl) ?_
 refine own_grow (fun vv W => ∃ g, vv = .slice (some ⟨g, 0, none⟩) 0 0 ∧ w32.heap.size ≤ g ∧ W.heap[g]? = some (.cells #[] 149 (0, 0))) (fun v W W2 ⟨g, h1, h2, h3⟩ hb => ⟨g, h1, h2, below_blk hb h3 (Array.getElem?_eq_some_iff.1 h3).1⟩) (by kernel_rfl) (by kernel_rfl) ?_ ?_
 ·intro V W K Zz hW hd hA hK
  simp only [putAll, pz1, pz2, pz3, pz4, Act.put, pz5, pz6, pz7] at hA
  clear hd
  obtain rfl := hA
  go_wp2
  exact hK.out _ _ (below_box W _) ⟨_, rfl, hW.size, heap_alloc_new W _⟩
 apply own_eq (by kernel_rfl)
 ·intro V W K Zz hW hd hA hK
  simp only [putAll, pz1, pz2, pz3, pz4, Act.put, pz5, pz6, pz7] at hA
  clear hd
  obtain rfl := hA
  go_wp2
  exact hK.out _ brf
 apply own_eq (by kernel_rfl)
 ·intro V W K Zz hW hd hA hK
  have d1 : V 1 = _ := hd 1 (by kernel_rfl)
  simp only [putAll, pz1, pz2, pz3, pz4, Act.put, pz5, pz6, pz7] at hA
  clear hd
  generalize V 1 = x1 at d1 hA
  subst d1
  obtain rfl := hA
  have x2 := blk_cell (blk_up hW HX32.out) 2 rfl
  go_wp2
  exact hK.out _ brf
 apply own_eq (by kernel_rfl)
 ·intro V W K Zz hW hd hA hK
  simp only [putAll, pz1, pz2, pz3, pz4, Act.put, pz5, pz6, pz7] at hA
  clear hd
  obtain rfl := hA
  go_wp2
  exact hK.out _ brf
 apply own_eq (by kernel_rfl)
 ·intro V W K Zz hW hd hA hK
  have d2 : V 2 = _ := hd 2 (by kernel_rfl)
  have d3 : V 3 = _ := hd 3 (by kernel_rfl)
  simp only [putAll, pz1, pz2, pz3, pz4, Act.put, pz5, pz6, pz7] at hA
  clear hd
  generalize V 2 = x2 at d2 hA
  generalize V 3 = x3 at d3 hA
  subst d2
  subst d3
  obtain rfl := hA
  go_wp2
  exact hK.out _ brf
 refine own_grow (fun vv W => ∃ g cap, vv = .slice (some ⟨g, 0, none⟩) (m) cap ∧ w32.heap.size ≤ g ∧ RowIs W 149 7 g (m) cap (cpsV (lst.take m))) (fun v W W2 ⟨g, cap, h1, h2, h3⟩ hb => ⟨g, cap, h1, h2, h3.below hb h3.lt⟩) (by kernel_rfl) (by kernel_rfl) ?_ ?_
 ·intro V W K Zz hW hd hA hK
  have d0 : (fun vv W => ∃ g, vv = .slice (some ⟨g, 0, none⟩) 0 0 ∧ w32.heap.size ≤ g ∧ W.heap[g]? = some (.cells #[] 149 (0, 0))) (V 0) W := hd 0 (by kernel_rfl)
  have d4 : V 4 = _ := hd 4 (by kernel_rfl)
  simp only [putAll, pz1, pz2, pz3, pz4, Act.put, pz5, pz6, pz7] at hA
  clear hd
  generalize V 0 = x0 at d0 hA
  generalize V 4 = x4 at d4 hA
  subst d4
  obtain rfl := hA
  obtain ⟨g, rfl, hg, hgz⟩ := d0
  have hsrc : m ≠ 0 → ∃ ad, some (⟨gC, 0, none⟩ : Addr) = some ad ∧ ∀ j u, (cpsV (lst.take m))[j]? = some u → W.cell? (ad.add j) = some u := fun _ => ⟨_, rfl, (RC32.out.below hW RC32.out.lt).srcTakeR (c := Cp.cells) (fun _ => rfl) m⟩
  refine wpList_append_fresh rfl (.tmp 259) (.tmp 263) 33 rfl 149 _ 7 72 Tryz.underlying33 Tryz.infoCpR rfl g rfl hgz (some ⟨gC, 0, none⟩) m _ (cpsV (lst.take m)) rfl (by rw [cpsV_len, HTL.out]) hsrc (cpsV_one _) hfa hfb ?_
  intro g' cap' w2 hg' hrow hb2
  have hgg : w32.heap.size ≤ g' := hg'.elim (fun e => e ▸ hg) (fun e => e ▸ hW.size)
  go_wp2
  exact hK.out _ _ hb2 ⟨g', cap', rfl, hgg, hrow.out⟩
 apply own_eq (by kernel_rfl)
 ·intro V W K Zz hW hd hA hK
  simp only [putAll, pz1, pz2, pz3, pz4, Act.put, pz5, pz6, pz7] at hA
  clear hd
  obtain rfl := hA
  refine wpList_load_row rfl 149 (.tmp 16) rfl c16 rfl 149 #[.string c.service, .int .i64 c.number, .int .i64 c.version, .int .i64 c.image, .int .i64 c.state, .bool c.ending, .string c.berth] (0, 0) _ (blk_up hW CB32.out) Tryz.underlying149 rfl Tryz.infosCpR ?_
  go_wp2
  exact hK.out _ brf
 refine own_grow (fun vv W => ∃ g, vv = .slice (some ⟨g, 0, none⟩) 1 1 ∧ w32.heap.size ≤ g ∧ W.heap[g]? = some (.cells #[.string c.service, .int .i64 c.number, .int .i64 c.version, .int .i64 c.image, .int .i64 c.state, .bool c.ending, .string c.berth] 149 (0, 0))) (fun v W W2 ⟨g, h1, h2, h3⟩ hb => ⟨g, h1, h2, below_blk hb h3 (Array.getElem?_eq_some_iff.1 h3).1⟩) (by kernel_rfl) (by kernel_rfl) ?_ ?_
 ·intro V W K Zz hW hd hA hK
  have d6 : V 6 = _ := hd 6 (by kernel_rfl)
  simp only [putAll, pz1, pz2, pz3, pz4, Act.put, pz5, pz6, pz7] at hA
  clear hd
  generalize V 6 = x6 at d6 hA
  subst d6
  obtain rfl := hA
  refine wpList_buildCp rfl (.tmp 265) rfl _ _ _ _ _ _ _ rfl ?_
  intro w2 hz hb2
  go_wp2
  exact hK.out _ _ hb2 ⟨_, rfl, hW.size, hz.out⟩
 refine own_own (fun vv W => ∃ g cap, vv = .slice (some ⟨g, 0, none⟩) (m + 1) cap ∧ w32.heap.size ≤ g ∧ RowIs W 149 7 g (m + 1) cap (cpsV (lst.take m) ++ (#[.string c.service, .int .i64 c.number, .int .i64 c.version, .int .i64 c.image, .int .i64 c.state, .bool c.ending, .string c.berth] : Array Value).toList)) (fun v W W2 ⟨g, cap, h1, h2, h3⟩ hb => ⟨g, cap, h1, h2, h3.below hb h3.lt⟩) (by kernel_rfl) (by kernel_rfl) ?_ ?_
 ·intro V W K Zz hW hd hA hK
  have d5 : (fun vv W => ∃ g cap, vv = .slice (some ⟨g, 0, none⟩) (m) cap ∧ w32.heap.size ≤ g ∧ RowIs W 149 7 g (m) cap (cpsV (lst.take m))) (V 5) W := hd 5 (by kernel_rfl)
  have d7 : (fun vv W => ∃ g, vv = .slice (some ⟨g, 0, none⟩) 1 1 ∧ w32.heap.size ≤ g ∧ W.heap[g]? = some (.cells #[.string c.service, .int .i64 c.number, .int .i64 c.version, .int .i64 c.image, .int .i64 c.state, .bool c.ending, .string c.berth] 149 (0, 0))) (V 7) W := hd 7 (by kernel_rfl)
  simp only [putAll, pz1, pz2, pz3, pz4, Act.put, pz5, pz6, pz7] at hA
  clear hd
  generalize V 5 = x5 at d5 hA
  generalize V 7 = x7 at d7 hA
  obtain rfl := hA
  obtain ⟨gA, capA, rfl, hgA, hrA⟩ := d5
  obtain ⟨gb, rfl, hgb, hbz⟩ := d7
  refine wpList_append_row rfl (.tmp 264) (.tmp 266) 33 rfl 149 _ 7 72 Tryz.underlying33 Tryz.infoCpR rfl gA m capA _ rfl hrA ⟨gb, 0, none⟩ 1 1 (#[.string c.service, .int .i64 c.number, .int .i64 c.version, .int .i64 c.image, .int .i64 c.state, .bool c.ending, .string c.berth] : Array Value).toList rfl rfl (news_row hbz) (by simp [Value.oneCell']) hfc hfd ?_
  intro g' cap' w2 hg' hrow hgr
  have hgg : w32.heap.size ≤ g' := hg'.elim (fun e => e ▸ hgA) (fun e => e ▸ hW.size)
  have hbo := below_of_grown hgr hgA hW.size
  clear hgr
  go_wp2
  exact hK.out _ _ hbo ⟨g', cap', rfl, hgg, hrow.out⟩
 apply own_eq (by kernel_rfl)
 ·intro V W K Zz hW hd hA hK
  simp only [putAll, pz1, pz2, pz3, pz4, Act.put, pz5, pz6, pz7] at hA
  clear hd
  obtain rfl := hA
  go_wp2
  exact hK.out _ brf
 apply own_eq (by kernel_rfl)
 ·intro V W K Zz hW hd hA hK
  have d9 : V 9 = _ := hd 9 (by kernel_rfl)
  simp only [putAll, pz1, pz2, pz3, pz4, Act.put, pz5, pz6, pz7] at hA
  clear hd
  generalize V 9 = x9 at d9 hA
  subst d9
  obtain rfl := hA
  have x2 := blk_cell (blk_up hW HX32.out) 2 rfl
  go_wp2
  exact hK.out _ brf
 apply own_eq (by kernel_rfl)
 ·intro V W K Zz hW hd hA hK
  simp only [putAll, pz1, pz2, pz3, pz4, Act.put, pz5, pz6, pz7] at hA
  clear hd
  obtain rfl := hA
  go_wp2
  exact hK.out _ brf
 apply own_eq (by kernel_rfl)
 ·intro V W K Zz hW hd hA hK
  have d10 : V 10 = _ := hd 10 (by kernel_rfl)
  have d11 : V 11 = _ := hd 11 (by kernel_rfl)
  simp only [putAll, pz1, pz2, pz3, pz4, Act.put, pz5, pz6, pz7] at hA
  clear hd
  generalize V 10 = x10 at d10 hA
  generalize V 11 = x11 at d11 hA
  subst d10
  subst d11
  obtain rfl := hA
  refine wpList_slice_fix rfl 33 (.tmp 269) (some (.tmp 270)) none none rfl Tryz.undCpsR 7 Tryz.infoElemCpR gC 0 q kC m q kC rfl (some (.int .i64 m)) none none rfl rfl rfl (fun w => run_slice_l w _ _ _ _ Tryz.undCpsR .i64 m (Int.natCast_nonneg m) (Int.ofNat_le.2 hm)) ?_
  rw [HMM.out, HOF.out]
  go_wp2
  exact hK.out _ brf
 refine own_own (fun vv W => ∃ g cap, vv = .slice (some ⟨g, 0, none⟩) (m + 1 + mm) cap ∧ w32.heap.size ≤ g ∧ RowIs W 149 7 g (m + 1 + mm) cap (cpsV (lst.take m) ++ (#[.string c.service, .int .i64 c.number, .int .i64 c.version, .int .i64 c.image, .int .i64 c.state, .bool c.ending, .string c.berth] : Array Value).toList ++ cpsV (lst.drop m))) (fun v W W2 ⟨g, cap, h1, h2, h3⟩ hb => ⟨g, cap, h1, h2, h3.below hb h3.lt⟩) (by kernel_rfl) (by kernel_rfl) ?_ ?_
 ·intro V W K Zz hW hd hA hK
  have d8 : (fun vv W => ∃ g cap, vv = .slice (some ⟨g, 0, none⟩) (m + 1) cap ∧ w32.heap.size ≤ g ∧ RowIs W 149 7 g (m + 1) cap (cpsV (lst.take m) ++ (#[.string c.service, .int .i64 c.number, .int .i64 c.version, .int .i64 c.image, .int .i64 c.state, .bool c.ending, .string c.berth] : Array Value).toList)) (V 8) W := hd 8 (by kernel_rfl)
  have d12 : V 12 = _ := hd 12 (by kernel_rfl)
  simp only [putAll, pz1, pz2, pz3, pz4, Act.put, pz5, pz6, pz7] at hA
  clear hd
  generalize V 8 = x8 at d8 hA
  generalize V 12 = x12 at d12 hA
  subst d12
  obtain rfl := hA
  obtain ⟨gA, capA, rfl, hgA, hrA⟩ := d8
  have hof := HOF2.out
  have hsrc : ∀ j u, (cpsV (lst.drop m))[j]? = some u → W.cell? ((⟨gC, off, none⟩ : Addr).add j) = some u := by
   rcases hof with ho | ho
   ·rw [ho]; exact (RC32.out.below hW RC32.out.lt).srcDropR (c := Cp.cells) (fun _ => rfl) m
   ·intro j u hu; rw [List.length_eq_zero_iff.1 (HDL.out.trans ho)] at hu; simp [cpsV] at hu
  refine wpList_append_row rfl (.tmp 267) (.tmp 271) 33 rfl 149 _ 7 72 Tryz.underlying33 Tryz.infoCpR rfl gA (m + 1) capA _ rfl hrA ⟨gC, off, none⟩ mm _ (cpsV (lst.drop m)) rfl (by rw [cpsV_len, HDL.out]) hsrc (cpsV_one _) hfe hff ?_
  intro g' cap' w2 hg' hrow hgr
  have hgg : w32.heap.size ≤ g' := hg'.elim (fun e => e ▸ hgA) (fun e => e ▸ hW.size)
  have hbo := below_of_grown hgr hgA hW.size
  clear hgr
  go_wp2
  exact hK.out _ _ hbo ⟨g', cap', rfl, hgg, hrow.out⟩
 apply own_eq (by kernel_rfl)
 ·intro V W K Zz hW hd hA hK
  simp only [putAll, pz1, pz2, pz3, pz4, Act.put, pz5, pz6, pz7] at hA
  clear hd
  obtain rfl := hA
  go_wp2
  exact hK.out _ brf
 intro V W Zz hW hS hA
 have d1 : V 1 = _ := hS 1 (by omega) (.inr (by kernel_rfl))
 have d2 : V 2 = _ := hS 2 (by omega) (.inr (by kernel_rfl))
 have d3 : V 3 = _ := hS 3 (by omega) (.inr (by kernel_rfl))
 have d4 : V 4 = _ := hS 4 (by omega) (.inr (by kernel_rfl))
 have d6 : V 6 = _ := hS 6 (by omega) (.inr (by kernel_rfl))
 have d9 : V 9 = _ := hS 9 (by omega) (.inr (by kernel_rfl))
 have d10 : V 10 = _ := hS 10 (by omega) (.inr (by kernel_rfl))
 have d11 : V 11 = _ := hS 11 (by omega) (.inr (by kernel_rfl))
 have d12 : V 12 = _ := hS 12 (by omega) (.inr (by kernel_rfl))
 have d13 : (fun vv W => ∃ g cap, vv = .slice (some ⟨g, 0, none⟩) (m + 1 + mm) cap ∧ w32.heap.size ≤ g ∧ RowIs W 149 7 g (m + 1 + mm) cap (cpsV (lst.take m) ++ (#[.string c.service, .int .i64 c.number, .int .i64 c.version, .int .i64 c.image, .int .i64 c.state, .bool c.ending, .string c.berth] : Array Value).toList ++ cpsV (lst.drop m))) (V 13) W := hS 13 (by omega) (.inl (by kernel_rfl))
 have d14 : V 14 = _ := hS 14 (by omega) (.inr (by kernel_rfl))
 simp only [putAll, pz1, pz2, pz3, pz4, Act.put, pz5, pz6, pz7] at hA
 clear hS
 generalize V 1 = x1 at d1 hA
 generalize V 2 = x2 at d2 hA
 generalize V 3 = x3 at d3 hA
 generalize V 4 = x4 at d4 hA
 generalize V 6 = x6 at d6 hA
 generalize V 9 = x9 at d9 hA
 generalize V 10 = x10 at d10 hA
 generalize V 11 = x11 at d11 hA
 generalize V 12 = x12 at d12 hA
 generalize V 13 = x13 at d13 hA
 generalize V 14 = x14 at d14 hA
 subst d1
 subst d2
 subst d3
 subst d4
 subst d6
 subst d9
 subst d10
 subst d11
 subst d12
 subst d14
 obtain rfl := hA
 simp only [List.drop_succ_cons, List.drop_zero]
 obtain ⟨gN, capN, rfl, hgN, hrN⟩ := d13
 have hqq : m + 1 + mm = q + 1 := fit_4 hm2
 have HFIN : Hid (cpsV (lst.take m) ++ (#[.string c.service, .int .i64 c.number, .int .i64 c.version, .int .i64 c.image, .int .i64 c.state, .bool c.ending, .string c.berth] : Array Value).toList ++ cpsV (lst.drop m) = cpsV (lst.take m ++ c :: lst.drop m)) := by unfold Hid; simp [cpsV, Cp.cells]
 have RN40 : Hid (RowIs W 149 7 gN (q + 1) capN (cpsV (lst.take m ++ c :: lst.drop m))) := by unfold Hid; rw [← HFIN.out, ← hqq]; exact hrN
 have hx9 := (Array.getElem?_eq_some_iff.1 HX32.out).1
 have hv13 := (Array.getElem?_eq_some_iff.1 P32.out).1
 have HX40 : Hid _ := blk_up hW HX32.out
 have P40 : Hid _ := blk_up hW P32.out
 clear hrN HFIN
 rw [hqq]
 clear hfa hfb hfc hfd hfe hff hkc RC32 CB32
 go_upto_region 49 with (refine wpList_store_one rfl 33 (.tmp 273) (.tmp 272) rfl x9 2 (.slice (some ⟨gN, 0, none⟩) (q + 1) capN) rfl rfl Tryz.infosCpsR rfl rfl 36 #[.int .i64 nw, a1, .slice (some ⟨gC, 0, none⟩) q kC, a3] HX40.out (Nat.le_of_ble_eq_true rfl) ?_; intro w41 hz on; have HX41 : Hid (w41.heap[x9]? = some (.cells #[.int .i64 nw, a1, .slice (some ⟨gN, 0, none⟩) (q + 1) capN, a3] 36 (0, 0))) := hz; have P41 : Hid _ := (on.other _ (fun e => hxv e.symm)).trans P40.out; have RN41 : Hid (RowIs w41 149 7 gN (q + 1) capN (cpsV (lst.take m ++ c :: lst.drop m))) := RN40.out.blk (on.other _ (by omega)); have hF41 : ∀ k, k < w32.heap.size → k ≠ x9 → k ≠ v13 → w41.heap[k]? = w32.heap[k]? := (fun k h1 h2 _ => (on.other k h2).trans (hW.block k h1)); have hb41 : Below 0 w32 w41 := (hW.mono (Nat.zero_le _)).trans (on.below.mono (Nat.zero_le _)); clear hz on HX40 P40 RN40; have p7 := blk_cell P41.out 7 rfl)
 try simp only [Act.put]
 clear hW
 go_wp2_with (refine wpList_store_one rfl 3 (.tmp 277) (.tmp 276) rfl v13 7 (.int .i64 (wrap64 (s0.next + 1))) rfl rfl Tryz.infosIntR rfl rfl 67 #[.string s0.name, .int .i64 s0.version, .bool s0.gone, .int .i64 s0.image, .int .i64 s0.want, .int .i64 s0.down, .int .i64 s0.over, .int .i64 s0.next, .int .i64 s0.per, .int .i64 s0.least, .int .i64 s0.most, .int .i64 s0.load, .int .i64 s0.cool] P41.out (Nat.le_of_ble_eq_true rfl) ?_; intro w42 hz on; have P42 : Hid (w42.heap[v13]? = some (.cells #[.string s0.name, .int .i64 s0.version, .bool s0.gone, .int .i64 s0.image, .int .i64 s0.want, .int .i64 s0.down, .int .i64 s0.over, .int .i64 (s0.next + 1), .int .i64 s0.per, .int .i64 s0.least, .int .i64 s0.most, .int .i64 s0.load, .int .i64 s0.cool] 67 (0, 0))) := (by have h0 := hz.out; unfold Hid; rw [HWN.out] at h0; exact h0); have HX42 : Hid _ := (on.other _ hxv).trans HX41.out; have RN42 : Hid (RowIs w42 149 7 gN (q + 1) capN (cpsV (lst.take m ++ c :: lst.drop m))) := RN41.out.blk (on.other _ (by omega)); have hF42 : ∀ k, k < w32.heap.size → k ≠ x9 → k ≠ v13 → w42.heap[k]? = w32.heap[k]? := (fun k h1 h2 h3 => (on.other k h3).trans (hF41 k h1 h2 h3)); have hb42 : Below 0 w32 w42 := hb41.trans (on.below.mono (Nat.zero_le _)); clear hz on HX41 P41 RN41 hF41 hb41)
 exact hK3 _ _ _ _ _ _ _ _ _ _ _ _ _ _ _ _ _ _ _ gN capN w42 hgN RN42 HX42 P42 hF42 hb42
end Go.Proofs.YtbceafpodamnfabGreatDoor
