/-
  My own: Rm.
-/
import Derived.Test.YtbceafpodamnfabGreatDoorG14
set_option linter.unusedVariables false
set_option linter.unusedSimpArgs false
namespace Go.Proofs.YtbceafpodamnfabGreatDoor
open Go.RowKit Go.Sort
theorem wrap_small {m : Nat} (h : m < 200) : wrap64 ((m : Int) + 1) = (m : Int) + 1 := IntWalk.wrap64_in _ (by omega)
set_option maxRecDepth 100000 in
set_option maxHeartbeats 16000000 in
theorem l4_place {u0 u1 u2 u3 u4 u5 u6 u7 u8 u10 u11 u12 u13 u14 u15 u18 u19 u20 u21 u22 u23 u24 u25 u26 u27 u28 u29 u30 u31 u32 u33 u34 u35 u36 u37 u38 u39 u40 u41 u42 u43 u44 u45 u46 u47 u48 u49 u50 u51 u52 u53 u54 u55 u56 u57 u58 u59 u60 u61 u62 u63 u64 u65 u66 u67 u68 u69 u70 u71 u72 u73 u74 u75 u76 u77 u78 u79 u80 u81 u82 u83 u84 u85 u86 u87 u88 u89 u90 u91 u92 u93 u94 u95 u96 u97 u98 u99 u100 u101 u102 u103 u104 u105 u106 u107 u108 u109 u110 u111 u112 u113 u114 u115 u116 u117 u118 u119 u120 u121 u122 u123 u124 u125 u126 u127 u128 u129 u130 u131 u132 u133 u134 u135 u136 u137 u138 u139 u140 u141 u142 u143 u144 u145 u146 u147 u148 u149 u150 u151 u152 u153 u154 u155 u156 u157 u158 u159 u160 u161 u162 u163 u164 u165 u166 u167 u168 u169 u170 u171 u172 u173 u174 u175 u176 u177 u178 u179 u180 u181 u182 u183 u184 u185 u186 u187 u188 u189 u190 u191 u192 u193 u194 u195 u196 u197 u198 u199 u200 u201 u202 u203 u204 u205 u206 u207 u208 u209 u210 u211 u212 u213 u214 u215 u216 u217 u218 u219 u220 u221 u222 u223 u224 u225 u226 u227 u228 u229 u230 u231 u232 u233 u234 u235 u236 u237 u238 u239 u240 u241 u242 u243 u244 u245 u246 u247 u248 u249 u250 u251 u252 u253 u254 u255 u256 u257 u258 u259 u260 u261 u262 u263 u264 u265 u266 u267 u268 u269 u270 u271 u272 u273 u274 u275 u276 u277 u278 u279 u280 u281 u282 u283 u284 u285 u286 u287 u288 u289 u290 u291 u292 u293 u294 u295 u296 u297 u298 u299 u300 u301 u302 : Value} (x9 c16 q kC gC : Nat) (lst : List Cp) (c : Cp) (nw : Int) (a1 a3 : Value) (w : World) (HML : Hid (lst.length = q)) (hq2 : q < 200)
  (HX : Hid (w.heap[x9]? = some (.cells #[.int .i64 nw, a1, .slice (some ⟨gC, 0, none⟩) q kC, a3] 36 (0, 0)))) (CB : Hid (w.heap[c16]? = some (.cells #[.string c.service, .int .i64 c.number, .int .i64 c.version, .int .i64 c.image, .int .i64 c.state, .bool c.ending, .string c.berth] 149 (0, 0)))) (RC : Hid (RowIs w 149 7 gC q kC (cpsV lst))) {K : Act → World → Prop} {Q : Exit → Act → World → Prop}
  (hE : ∀ (v243 v244 v245 v246 v247 v248 v249 v250 v251 v252 v253 v254 v255 v256 v257 v258 : Value) (m : Nat) (w' : World), m ≤ q → Hid ((lst.takeWhile (fun x => aheadB x c)).length = m) → Below w.heap.size w w' → K { tmps := #[u0, u1, u2, u3, u4, u5, u6, u7, u8, .pointer (some ⟨x9, 0, none⟩), u10, u11, u12, u13, u14, u15, .pointer (some ⟨c16, 0, none⟩), .int .i64 (m : Int), u18, u19, u20, u21, u22, u23, u24, u25, u26, u27, u28, u29, u30, u31, u32, u33, u34, u35, u36, u37, u38, u39, u40, u41, u42, u43, u44, u45, u46, u47, u48, u49, u50, u51, u52, u53, u54, u55, u56, u57, u58, u59, u60, u61, u62, u63, u64, u65, u66, u67, u68, u69, u70, u71, u72, u73, u74, u75, u76, u77, u78, u79, u80, u81, u82, u83, u84, u85, u86, u87, u88, u89, u90, u91, u92, u93, u94, u95, u96, u97, u98, u99, u100, u101, u102, u103, u104, u105, u106, u107, u108, u109, u110, u111, u112, u113, u114, u115, u116, u117, u118, u119, u120, u121, u122, u123, u124, u125, u126, u127, u128, u129, u130, u131, u132, u133, u134, u135, u136, u137, u138, u139, u140, u141, u142, u143, u144, u145, u146, u147, u148, u149, u150, u151, u152, u153, u154, u155, u156, u157, u158, u159, u160, u161, u162, u163, u164, u165, u166, u167, u168, u169, u170, u171, u172, u173, u174, u175, u176, u177, u178, u179, u180, u181, u182, u183, u184, u185, u186, u187, u188, u189, u190, u191, u192, u193, u194, u195, u196, u197, u198, u199, u200, u201, u202, u203, u204, u205, u206, u207, u208, u209, u210, u211, u212, u213, u214, u215, u216, u217, u218, u219, u220, u221, u222, u223, u224, u225, u226, u227, u228, u229, u230, u231, u232, u233, u234, u235, u236, u237, u238, u239, u240, u241, u242, v243, v244, v245, v246, v247, v248, v249, v250, v251, v252, v253, v254, v255, v256, v257, v258, u259, u260, u261, u262, u263, u264, u265, u266, u267, u268, u269, u270, u271, u272, u273, u274, u275, u276, u277, u278, u279, u280, u281, u282, u283, u284, u285, u286, u287, u288, u289, u290, u291, u292, u293, u294, u295, u296, u297, u298, u299, u300, u301, u302], defers := [] } w') :
  Code.wp Tryz.prog (cIn (cFst (cSnd (cSnd (cIn (cFst (cSnd (cIn (cIn (cSnd (cFst (cSnd (cSnd (cSnd (cSnd (cSnd (cSnd (cSnd (cSnd (cSnd (cSnd (cSnd (cSnd (cSnd (cSnd (cSnd (cSnd (cSnd ((Tryz.f40.body.getD .skip)))))))))))))))))))))))))))))) (Exit.inBlock 8 (Exit.then K Q)) { tmps := #[u0, u1, u2, u3, u4, u5, u6, u7, u8, .pointer (some ⟨x9, 0, none⟩), u10, u11, u12, u13, u14, u15, .pointer (some ⟨c16, 0, none⟩), .int .i64 0, u18, u19, u20, u21, u22, u23, u24, u25, u26, u27, u28, u29, u30, u31, u32, u33, u34, u35, u36, u37, u38, u39, u40, u41, u42, u43, u44, u45, u46, u47, u48, u49, u50, u51, u52, u53, u54, u55, u56, u57, u58, u59, u60, u61, u62, u63, u64, u65, u66, u67, u68, u69, u70, u71, u72, u73, u74, u75, u76, u77, u78, u79, u80, u81, u82, u83, u84, u85, u86, u87, u88, u89, u90, u91, u92, u93, u94, u95, u96, u97, u98, u99, u100, u101, u102, u103, u104, u105, u106, u107, u108, u109, u110, u111, u112, u113, u114, u115, u116, u117, u118, u119, u120, u121, u122, u123, u124, u125, u126, u127, u128, u129, u130, u131, u132, u133, u134, u135, u136, u137, u138, u139, u140, u141, u142, u143, u144, u145, u146, u147, u148, u149, u150, u151, u152, u153, u154, u155, u156, u157, u158, u159, u160, u161, u162, u163, u164, u165, u166, u167, u168, u169, u170, u171, u172, u173, u174, u175, u176, u177, u178, u179, u180, u181, u182, u183, u184, u185, u186, u187, u188, u189, u190, u191, u192, u193, u194, u195, u196, u197, u198, u199, u200, u201, u202, u203, u204, u205, u206, u207, u208, u209, u210, u211, u212, u213, u214, u215, u216, u217, u218, u219, u220, u221, u222, u223, u224, u225, u226, u227, u228, u229, u230, u231, u232, u233, u234, u235, u236, u237, u238, u239, u240, u241, u242, u243, u244, u245, u246, u247, u248, u249, u250, u251, u252, u253, u254, u255, u256, u257, u258, u259, u260, u261, u262, u263, u264, u265, u266, u267, u268, u269, u270, u271, u272, u273, u274, u275, u276, u277, u278, u279, u280, u281, u282, u283, u284, u285, u286, u287, u288, u289, u290, u291, u292, u293, u294, u295, u296, u297, u298, u299, u300, u301, u302], defers := [] } w := by
 show Code.wp Tryz.prog (.loop _) _ _ _
 dsimp only
 go_loopw [17] (fun iv wq => ∃ m : Nat, m ≤ q ∧ iv = .int .i64 m ∧ Below w.heap.size w wq ∧ Hid (∀ (i : Nat) x, i < m → lst[i]? = some x → aheadB x c = true)) (fun i _ => q - (intOf i).toNat)
 case atStart => exact ⟨0, Nat.zero_le _, rfl, Below.refl _ _, fun i x hi => absurd hi (Nat.not_lt_zero _)⟩
 case round =>
  obtain ⟨m, hm, rfl, hbi, HAH⟩ := hrel
  have HX1 : Hid _ := blk_up hbi HX.out
  have CB1 : Hid _ := blk_up hbi CB.out
  have R1 : Hid (RowIs wr 149 7 gC q kC (cpsV lst)) := RC.out.below hbi RC.out.lt
  have x2 := gcell HX1.out 2 rfl
  have z0 := gcell CB1.out 0 rfl
  have z1 := gcell CB1.out 1 rfl
  have z2 := gcell CB1.out 2 rfl
  have z3 := gcell CB1.out 3 rfl
  have z4 := gcell CB1.out 4 rfl
  have z5 := gcell CB1.out 5 rfl
  have z6 := gcell CB1.out 6 rfl
  have hbj : ∀ w32, Below wr.heap.size wr w32 → Below w.heap.size w w32 := fun w32 h => hbi.trans (h.mono hbi.size)
  by_cases hmq : m < q
  ·obtain ⟨x, hx⟩ : ∃ x, lst[m]? = some x := ⟨lst[m]'(by rw [HML.out]; exact hmq), List.getElem?_eq_getElem _⟩
   have HX0 : Hid (lst[m]? = some x) := hx
   obtain ⟨y0, y1, y2, y3, y4, y5, y6⟩ := (R1.out.cpAt hx).grown
   clear hx
   obtain ⟨ah, HA⟩ : ∃ z, Hid (aheadB x c = z) := ⟨_, rfl⟩
   have HAC : Hid (∀ W : World, Calls Tryz.prog 90 #[.agg #[.string x.service, .int .i64 x.number, .int .i64 x.version, .int .i64 x.image, .int .i64 x.state, .bool x.ending, .string x.berth], .agg #[.string c.service, .int .i64 c.number, .int .i64 c.version, .int .i64 c.image, .int .i64 c.state, .bool c.ending, .string c.berth]] W fun e w' => e = .returned (.bool ah) ∧ Below W.heap.size W w') := fun W => by
    have h := l1Ahead_any x c W
    rw [HA.out] at h
    exact h
   clear HX1 CB1 R1
   cases ah
   ·go_wp2
    refine wp_region_quiet_below (by kernel_rfl) (by kernel_rfl) ?_
    repeat (first | go_big_quiet_step (exact Calls.regrown_of (HAC.out _)) | quiet_step (exact Calls.regrown_of (HAC.out _)))
    refine wpQuiet_nil ?_
    intro w32 hw'
    obtain ⟨⟨dq, osq⟩, hw''⟩ := hw'
    have hqe : Below wr.heap.size wr w32 := by rw [hw'']; exact below_regrown _ _ _
    clear hw'' x2 z0 z1 z2 z3 z4 z5 z6
    clear y0 y1 y2 y3 y4 y5 y6 HAC
    have HTW : Hid ((lst.takeWhile (fun x => aheadB x c)).length = m) := takeK_is (by rw [HML.out]; exact hm) HAH.out fun x' hx' => by rw [HX0.out] at hx'; cases hx'; exact HA.out
    go_wp2
    exact hE _ _ _ _ _ _ _ _ _ _ _ _ _ _ _ _ m w32 hm HTW (hbj _ hqe)
   ·go_wp2
    refine wp_region_quiet_below (by kernel_rfl) (by kernel_rfl) ?_
    repeat (first | go_big_quiet_step (exact Calls.regrown_of (HAC.out _)) | quiet_step (exact Calls.regrown_of (HAC.out _)))
    refine wpQuiet_nil ?_
    intro w32 hw'
    obtain ⟨⟨dq, osq⟩, hw''⟩ := hw'
    have hqe : Below wr.heap.size wr w32 := by rw [hw'']; exact below_regrown _ _ _
    clear hw'' x2 z0 z1 z2 z3 z4 z5 z6
    clear y0 y1 y2 y3 y4 y5 y6 HAC
    have hwm := wrap_small (Nat.lt_trans hmq hq2)
    have hbk := hbj _ hqe
    go_wp2
    go_roundw
    case rel => exact ⟨m + 1, hmq, by go_num, hbk, fun i x' hi hx' => by
     rcases Nat.lt_or_ge i m with h | h
     ·exact HAH.out i x' h hx'
     ·rw [show i = m by omega, HX0.out] at hx'
      cases hx'
      exact HA.out⟩
    case measure => simp [intOf]; omega
  ·have hme : m = q := Nat.le_antisymm hm (Nat.le_of_not_lt hmq)
   subst hme
   clear hmq
   go_wp2
   refine wp_region_quiet_below (by kernel_rfl) (by kernel_rfl) ?_
   repeat (first | go_big_quiet_step (fail) | quiet_step (fail))
   refine wpQuiet_nil ?_
   intro w32 hw'
   obtain ⟨⟨dq, osq⟩, hw''⟩ := hw'
   have hqe : Below wr.heap.size wr w32 := by rw [hw'']; exact below_regrown _ _ _
   clear hw'' x2 z0 z1 z2 z3 z4 z5 z6
   have HTW : Hid ((lst.takeWhile (fun x => aheadB x c)).length = m) := takeK_is (by rw [HML.out]; exact hm) HAH.out fun x' hx' => by rw [List.getElem?_eq_none (by rw [HML.out]; exact Nat.le_refl _)] at hx'; cases hx'
   go_wp2
   exact hE _ _ _ _ _ _ _ _ _ _ _ _ _ _ _ _ m w32 hm HTW (hbj _ hqe)
end Go.Proofs.YtbceafpodamnfabGreatDoor
