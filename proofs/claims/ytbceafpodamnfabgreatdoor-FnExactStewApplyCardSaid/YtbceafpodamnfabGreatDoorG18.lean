/-
  My own: Rn.
-/
import Derived.Test.YtbceafpodamnfabGreatDoorG14
set_option linter.unusedVariables false
set_option linter.unusedSimpArgs false
namespace Go.Proofs.YtbceafpodamnfabGreatDoor
open Go.RowKit Go.Sort
def dropL (dr : Bool) (s : Svc) (N : Cnt) : Bool := dr && (!s.gone || decide (0 < N.live + N.ending))
def scaleL (sc : Bool) (aw : Int) (s : Svc) : Bool := sc && (s.per == 0 || !inB aw s.least s.most)
def roomL (now : Int) (l2 : Nat) (cr : Int) (s : Svc) : Bool := decide (200 < (l2 : Int) + cr) || decide (1000000 < s.next + cr) || decide (1000000 ≤ now)
def makeL (cr : Int) (s : Svc) (N : Cnt) : Bool := decide (0 < cr) && (s.gone || decide (s.want + s.over < N.live + cr))
set_option maxRecDepth 100000 in
set_option maxHeartbeats 16000000 in
theorem l4_chk30 {u0 u1 u5 u6 u7 u8 u10 u11 u12 u15 u16 u17 u18 u19 u20 u21 u22 u23 u24 u25 u26 u27 u28 u29 u30 u31 u32 u33 u34 u35 u36 u37 u38 u39 u40 u41 u42 u43 u44 u45 u46 u47 u48 u49 u50 u51 u52 u53 u54 u55 u56 u57 u58 u59 u60 u61 u62 u63 u64 u65 u66 u67 u68 u69 u70 u71 u72 u73 u74 u75 u76 u77 u78 u79 u80 u81 u82 u83 u84 u85 u86 u87 u88 u89 u90 u91 u92 u93 u94 u95 u96 u97 u98 u99 u100 u101 u102 u103 u104 u105 u106 u107 u108 u109 u110 u111 u112 u113 u114 u115 u116 u117 u118 u119 u120 u121 u122 u123 u124 u125 u126 u127 u128 u129 u130 u131 u132 u133 u134 u135 u136 u137 u138 u139 u140 u141 u142 u143 u144 u145 u146 u147 u148 u149 u150 u151 u152 u153 u154 u155 u156 u157 u158 u159 u160 u161 u162 u163 u164 u165 u166 u167 u168 u169 u170 u171 u172 u173 u174 u175 u176 u177 u178 u179 u180 u181 u182 u183 u184 u185 u186 u187 u188 u189 u190 u191 u192 u193 u194 u195 u196 u197 u198 u199 u200 u201 u202 u203 u204 u205 u206 u207 u208 u209 u210 u211 u212 u213 u214 u215 u216 u217 u218 u219 u220 u221 u222 u223 u224 u225 u226 u227 u228 u229 u230 u231 u232 u233 u234 u235 u236 u237 u238 u239 u240 u241 u242 u243 u244 u245 u246 u247 u248 u249 u250 u251 u252 u253 u254 u255 u256 u257 u258 u259 u260 u261 u262 u263 u264 u265 u266 u267 u268 u269 u270 u271 u272 u273 u274 u275 u276 u277 u278 u279 u280 u281 u282 u283 u284 u285 u286 u287 u288 u289 u290 u291 u292 u293 u294 u295 u296 u297 u298 u299 u300 u301 u302 : Value} (b0 b1 b2 x9 v13 n14 M : Nat) (now : Int) (ao1 ao2 ao3 : Option Addr) (l1 k1 l2 k2 l3 k3 : Nat) (sv : ByteArray) (cr aw ac : Int) (sc dr : Bool) (y1 y6 : Value) (s0 : Svc) (N : Cnt) (w : World) (h2N : M ≤ b2)
  (H0 : Hid (w.heap[b0]? = some (.cells #[.int .i64 now, .slice ao1 l1 k1, .slice ao2 l2 k2, .slice ao3 l3 k3] 36 (0, 0)))) (H1 : Hid (w.heap[b1]? = some (.cells #[.string sv, y1, .int .i64 cr, .int .i64 aw, .int .i64 ac, .bool sc, y6, .bool dr] 42 (0, 0)))) (H2 : Hid (w.heap[b2]? = some (.cells #[.int .i64 0, .slice none 0 0, .slice none 0 0, .slice none 0 0] 36 (0, 0)))) (P : Hid (w.heap[v13]? = some (.cells #[.string s0.name, .int .i64 s0.version, .bool s0.gone, .int .i64 s0.image, .int .i64 s0.want, .int .i64 s0.down, .int .i64 s0.over, .int .i64 s0.next, .int .i64 s0.per, .int .i64 s0.least, .int .i64 s0.most, .int .i64 s0.load, .int .i64 s0.cool] 67 (0, 0)))) (HN14 : Hid (w.heap[n14]? = some (.cells #[.int .i64 N.live, .int .i64 N.ready, .int .i64 N.old, .int .i64 N.failed, .int .i64 N.ending] 158 (0, 0)))) (hwl : wrap64 (N.live + N.ending) = N.live + N.ending) {K K1 : Act → World → Prop} {Post : Ending → World → Prop}
  (hK : ∀ a w, Code.wp Tryz.prog (cSnd (cFst (cSnd (cSnd (cSnd (cSnd (cSnd (cSnd (cSnd (cSnd (cSnd (cSnd (cSnd (cSnd ((Tryz.f40.body.getD .skip)))))))))))))))) (Exit.then K1 (bodyPost Tryz.prog Tryz.f40 Post)) a w → K a w)
  (hP : ∀ w', dropL dr s0 N = true → Below M w w' → Post (.returned (.tuple #[.agg #[.int .i64 now, .slice ao1 l1 k1, .slice ao2 l2 k2, .slice ao3 l3 k3], .int .i64 6])) w')
  (hE : ∀ (v142 v143 v144 v145 v146 v147 v148 v149 v150 v151 v152 v153 v154 v155 v156 : Value) (w' : World), dropL dr s0 N = false → Below w.heap.size w w' → K1 { tmps := #[u0, u1, .pointer (some ⟨b0, 0, none⟩), .pointer (some ⟨b1, 0, none⟩), .pointer (some ⟨b2, 0, none⟩), u5, u6, u7, u8, .pointer (some ⟨x9, 0, none⟩), u10, u11, u12, .pointer (some ⟨v13, 0, none⟩), .pointer (some ⟨n14, 0, none⟩), u15, u16, u17, u18, u19, u20, u21, u22, u23, u24, u25, u26, u27, u28, u29, u30, u31, u32, u33, u34, u35, u36, u37, u38, u39, u40, u41, u42, u43, u44, u45, u46, u47, u48, u49, u50, u51, u52, u53, u54, u55, u56, u57, u58, u59, u60, u61, u62, u63, u64, u65, u66, u67, u68, u69, u70, u71, u72, u73, u74, u75, u76, u77, u78, u79, u80, u81, u82, u83, u84, u85, u86, u87, u88, u89, u90, u91, u92, u93, u94, u95, u96, u97, u98, u99, u100, u101, u102, u103, u104, u105, u106, u107, u108, u109, u110, u111, u112, u113, u114, u115, u116, u117, u118, u119, u120, u121, u122, u123, u124, u125, u126, u127, u128, u129, u130, u131, u132, u133, u134, u135, u136, u137, u138, u139, u140, u141, v142, v143, v144, v145, v146, v147, v148, v149, v150, v151, v152, v153, v154, v155, v156, u157, u158, u159, u160, u161, u162, u163, u164, u165, u166, u167, u168, u169, u170, u171, u172, u173, u174, u175, u176, u177, u178, u179, u180, u181, u182, u183, u184, u185, u186, u187, u188, u189, u190, u191, u192, u193, u194, u195, u196, u197, u198, u199, u200, u201, u202, u203, u204, u205, u206, u207, u208, u209, u210, u211, u212, u213, u214, u215, u216, u217, u218, u219, u220, u221, u222, u223, u224, u225, u226, u227, u228, u229, u230, u231, u232, u233, u234, u235, u236, u237, u238, u239, u240, u241, u242, u243, u244, u245, u246, u247, u248, u249, u250, u251, u252, u253, u254, u255, u256, u257, u258, u259, u260, u261, u262, u263, u264, u265, u266, u267, u268, u269, u270, u271, u272, u273, u274, u275, u276, u277, u278, u279, u280, u281, u282, u283, u284, u285, u286, u287, u288, u289, u290, u291, u292, u293, u294, u295, u296, u297, u298, u299, u300, u301, u302], defers := [] } w') :
  Code.wp Tryz.prog (cFst (cFst (cSnd (cSnd (cSnd (cSnd (cSnd (cSnd (cSnd (cSnd (cSnd (cSnd (cSnd (cSnd ((Tryz.f40.body.getD .skip)))))))))))))))) (Exit.then K (Exit.then K1 (bodyPost Tryz.prog Tryz.f40 Post))) { tmps := #[u0, u1, .pointer (some ⟨b0, 0, none⟩), .pointer (some ⟨b1, 0, none⟩), .pointer (some ⟨b2, 0, none⟩), u5, u6, u7, u8, .pointer (some ⟨x9, 0, none⟩), u10, u11, u12, .pointer (some ⟨v13, 0, none⟩), .pointer (some ⟨n14, 0, none⟩), u15, u16, u17, u18, u19, u20, u21, u22, u23, u24, u25, u26, u27, u28, u29, u30, u31, u32, u33, u34, u35, u36, u37, u38, u39, u40, u41, u42, u43, u44, u45, u46, u47, u48, u49, u50, u51, u52, u53, u54, u55, u56, u57, u58, u59, u60, u61, u62, u63, u64, u65, u66, u67, u68, u69, u70, u71, u72, u73, u74, u75, u76, u77, u78, u79, u80, u81, u82, u83, u84, u85, u86, u87, u88, u89, u90, u91, u92, u93, u94, u95, u96, u97, u98, u99, u100, u101, u102, u103, u104, u105, u106, u107, u108, u109, u110, u111, u112, u113, u114, u115, u116, u117, u118, u119, u120, u121, u122, u123, u124, u125, u126, u127, u128, u129, u130, u131, u132, u133, u134, u135, u136, u137, u138, u139, u140, u141, u142, u143, u144, u145, u146, u147, u148, u149, u150, u151, u152, u153, u154, u155, u156, u157, u158, u159, u160, u161, u162, u163, u164, u165, u166, u167, u168, u169, u170, u171, u172, u173, u174, u175, u176, u177, u178, u179, u180, u181, u182, u183, u184, u185, u186, u187, u188, u189, u190, u191, u192, u193, u194, u195, u196, u197, u198, u199, u200, u201, u202, u203, u204, u205, u206, u207, u208, u209, u210, u211, u212, u213, u214, u215, u216, u217, u218, u219, u220, u221, u222, u223, u224, u225, u226, u227, u228, u229, u230, u231, u232, u233, u234, u235, u236, u237, u238, u239, u240, u241, u242, u243, u244, u245, u246, u247, u248, u249, u250, u251, u252, u253, u254, u255, u256, u257, u258, u259, u260, u261, u262, u263, u264, u265, u266, u267, u268, u269, u270, u271, u272, u273, u274, u275, u276, u277, u278, u279, u280, u281, u282, u283, u284, u285, u286, u287, u288, u289, u290, u291, u292, u293, u294, u295, u296, u297, u298, u299, u300, u301, u302], defers := [] } w := by
 have hKb : ∀ a w, Code.wp Tryz.prog (.cond _ _ _) (Exit.then K1 (bodyPost Tryz.prog Tryz.f40 Post)) a w → K a w := hK
 clear hK
 show Code.wp Tryz.prog (.region 30 _ _) _ _ _
 dsimp only
 have H0r := H0
 have H2r := H2
 have hb : Below M w w := Below.refl _ _
 cases dr
 case false =>
  have f7 := blk_cell H1.out 7 rfl
  go_wp2
  exact hE _ _ _ _ _ _ _ _ _ _ _ _ _ _ _ w rfl (Below.refl _ _)
 case true =>
  have f7 := blk_cell H1.out 7 rfl
  rcases Bool.eq_false_or_eq_true s0.gone with hg | hg
  ·have p2 : w.cell? ⟨v13, 2, none⟩ = some (.bool true) := by have h := blk_cell P.out 2 rfl; rw [hg] at h; exact h
   have n0 := blk_cell HN14.out 0 rfl
   have n4 := blk_cell HN14.out 4 rfl
   cases hd : decide (0 < N.live + N.ending)
   case false =>
    have hf : dropL true s0 N = false := by unfold dropL; rw [hg, hd]; rfl
    clear hg
    go_wp2
    exact hE _ _ _ _ _ _ _ _ _ _ _ _ _ _ _ w hf (Below.refl _ _)
   case true =>
    have hf : dropL true s0 N = true := by unfold dropL; rw [hg, hd]; rfl
    clear hg
    go_upto_region 31 with fail
    clear f7 p2 n0 n4
    have e0 := blk_cell H0r.out 0 rfl
    have e1 := blk_cell H0r.out 1 rfl
    have e2 := blk_cell H0r.out 2 rfl
    have e3 := blk_cell H0r.out 3 rfl
    go_wp2_with (refine wpList_store_only rfl 36 (.tmp 4) (.tmp 157) rfl b2 0 #[.int .i64 now, .slice ao1 l1 k1, .slice ao2 l2 k2, .slice ao3 l3 k3] rfl rfl 36 #[.int .i64 0, .slice none 0 0, .slice none 0 0, .slice none 0 0] H2r.out Tryz.infosBookR (Nat.le_of_ble_eq_true rfl) (by simp [Value.oneCell']) ?_; intro wf hz on; have RF : Hid (wf.heap[b2]? = some (.cells #[.int .i64 now, .slice ao1 l1 k1, .slice ao2 l2 k2, .slice ao3 l3 k3] 36 (0, 0))) := hz; have hbf := hb.trans (on.below.mono h2N); clear hz on e0 e1 e2 e3; have p0 := blk_cell RF.out 0 rfl; have p1 := blk_cell RF.out 1 rfl; have p2 := blk_cell RF.out 2 rfl; have p3 := blk_cell RF.out 3 rfl)
    exact bodyPost_ret (v := .tuple #[.agg #[.int .i64 now, .slice ao1 l1 k1, .slice ao2 l2 k2, .slice ao3 l3 k3], .int .i64 6]) (by simp [results, Tryz.results40, go_sem, p0, p1, p2, p3]) rfl (hP wf (hf) hbf)
  ·have p2 : w.cell? ⟨v13, 2, none⟩ = some (.bool false) := by have h := blk_cell P.out 2 rfl; rw [hg] at h; exact h
   have hf : dropL true s0 N = true := by unfold dropL; rw [hg]; rfl
   clear hg
   go_upto_region 31 with fail
   clear f7 p2
   have e0 := blk_cell H0r.out 0 rfl
   have e1 := blk_cell H0r.out 1 rfl
   have e2 := blk_cell H0r.out 2 rfl
   have e3 := blk_cell H0r.out 3 rfl
   go_wp2_with (refine wpList_store_only rfl 36 (.tmp 4) (.tmp 157) rfl b2 0 #[.int .i64 now, .slice ao1 l1 k1, .slice ao2 l2 k2, .slice ao3 l3 k3] rfl rfl 36 #[.int .i64 0, .slice none 0 0, .slice none 0 0, .slice none 0 0] H2r.out Tryz.infosBookR (Nat.le_of_ble_eq_true rfl) (by simp [Value.oneCell']) ?_; intro wf hz on; have RF : Hid (wf.heap[b2]? = some (.cells #[.int .i64 now, .slice ao1 l1 k1, .slice ao2 l2 k2, .slice ao3 l3 k3] 36 (0, 0))) := hz; have hbf := hb.trans (on.below.mono h2N); clear hz on e0 e1 e2 e3; have p0 := blk_cell RF.out 0 rfl; have p1 := blk_cell RF.out 1 rfl; have p2 := blk_cell RF.out 2 rfl; have p3 := blk_cell RF.out 3 rfl)
   exact bodyPost_ret (v := .tuple #[.agg #[.int .i64 now, .slice ao1 l1 k1, .slice ao2 l2 k2, .slice ao3 l3 k3], .int .i64 6]) (by simp [results, Tryz.results40, go_sem, p0, p1, p2, p3]) rfl (hP wf (hf) hbf)
set_option maxRecDepth 100000 in
set_option maxHeartbeats 16000000 in
theorem l4_chk37 {u0 u1 u5 u6 u7 u8 u10 u11 u12 u15 u16 u17 u18 u19 u20 u21 u22 u23 u24 u25 u26 u27 u28 u29 u30 u31 u32 u33 u34 u35 u36 u37 u38 u39 u40 u41 u42 u43 u44 u45 u46 u47 u48 u49 u50 u51 u52 u53 u54 u55 u56 u57 u58 u59 u60 u61 u62 u63 u64 u65 u66 u67 u68 u69 u70 u71 u72 u73 u74 u75 u76 u77 u78 u79 u80 u81 u82 u83 u84 u85 u86 u87 u88 u89 u90 u91 u92 u93 u94 u95 u96 u97 u98 u99 u100 u101 u102 u103 u104 u105 u106 u107 u108 u109 u110 u111 u112 u113 u114 u115 u116 u117 u118 u119 u120 u121 u122 u123 u124 u125 u126 u127 u128 u129 u130 u131 u132 u133 u134 u135 u136 u137 u138 u139 u140 u141 u142 u143 u144 u145 u146 u147 u148 u149 u150 u151 u152 u153 u154 u155 u156 u157 u158 u159 u160 u161 u162 u163 u164 u165 u166 u167 u168 u169 u170 u171 u172 u173 u174 u175 u176 u177 u178 u179 u180 u181 u182 u183 u184 u185 u186 u187 u188 u189 u190 u191 u192 u193 u194 u195 u196 u197 u198 u199 u200 u201 u202 u203 u204 u205 u206 u207 u208 u209 u210 u211 u212 u213 u214 u215 u216 u217 u218 u219 u220 u221 u222 u223 u224 u225 u226 u227 u228 u229 u230 u231 u232 u233 u234 u235 u236 u237 u238 u239 u240 u241 u242 u243 u244 u245 u246 u247 u248 u249 u250 u251 u252 u253 u254 u255 u256 u257 u258 u259 u260 u261 u262 u263 u264 u265 u266 u267 u268 u269 u270 u271 u272 u273 u274 u275 u276 u277 u278 u279 u280 u281 u282 u283 u284 u285 u286 u287 u288 u289 u290 u291 u292 u293 u294 u295 u296 u297 u298 u299 u300 u301 u302 : Value} (b0 b1 b2 x9 v13 n14 M : Nat) (now : Int) (ao1 ao2 ao3 : Option Addr) (l1 k1 l2 k2 l3 k3 : Nat) (sv : ByteArray) (cr aw ac : Int) (sc dr : Bool) (y1 y6 : Value) (s0 : Svc) (N : Cnt) (w : World) (h2N : M ≤ b2)
  (H0 : Hid (w.heap[b0]? = some (.cells #[.int .i64 now, .slice ao1 l1 k1, .slice ao2 l2 k2, .slice ao3 l3 k3] 36 (0, 0)))) (H1 : Hid (w.heap[b1]? = some (.cells #[.string sv, y1, .int .i64 cr, .int .i64 aw, .int .i64 ac, .bool sc, y6, .bool dr] 42 (0, 0)))) (H2 : Hid (w.heap[b2]? = some (.cells #[.int .i64 0, .slice none 0 0, .slice none 0 0, .slice none 0 0] 36 (0, 0)))) (P : Hid (w.heap[v13]? = some (.cells #[.string s0.name, .int .i64 s0.version, .bool s0.gone, .int .i64 s0.image, .int .i64 s0.want, .int .i64 s0.down, .int .i64 s0.over, .int .i64 s0.next, .int .i64 s0.per, .int .i64 s0.least, .int .i64 s0.most, .int .i64 s0.load, .int .i64 s0.cool] 67 (0, 0)))) {K K1 : Act → World → Prop} {Post : Ending → World → Prop}
  (hK : ∀ a w, Code.wp Tryz.prog (cSnd (cFst (cSnd (cSnd (cSnd (cSnd (cSnd (cSnd (cSnd (cSnd (cSnd (cSnd (cSnd (cSnd (cSnd (cSnd (cSnd ((Tryz.f40.body.getD .skip))))))))))))))))))) (Exit.then K1 (bodyPost Tryz.prog Tryz.f40 Post)) a w → K a w)
  (hP : ∀ w', scaleL sc aw s0 = true → Below M w w' → Post (.returned (.tuple #[.agg #[.int .i64 now, .slice ao1 l1 k1, .slice ao2 l2 k2, .slice ao3 l3 k3], .int .i64 6])) w')
  (hE : ∀ (v190 v191 v192 v193 v194 v195 v196 v197 v198 v199 v200 v201 v202 v203 v204 v205 v206 : Value) (w' : World), scaleL sc aw s0 = false → Below w.heap.size w w' → K1 { tmps := #[u0, u1, .pointer (some ⟨b0, 0, none⟩), .pointer (some ⟨b1, 0, none⟩), .pointer (some ⟨b2, 0, none⟩), u5, u6, u7, u8, .pointer (some ⟨x9, 0, none⟩), u10, u11, u12, .pointer (some ⟨v13, 0, none⟩), .pointer (some ⟨n14, 0, none⟩), u15, u16, u17, u18, u19, u20, u21, u22, u23, u24, u25, u26, u27, u28, u29, u30, u31, u32, u33, u34, u35, u36, u37, u38, u39, u40, u41, u42, u43, u44, u45, u46, u47, u48, u49, u50, u51, u52, u53, u54, u55, u56, u57, u58, u59, u60, u61, u62, u63, u64, u65, u66, u67, u68, u69, u70, u71, u72, u73, u74, u75, u76, u77, u78, u79, u80, u81, u82, u83, u84, u85, u86, u87, u88, u89, u90, u91, u92, u93, u94, u95, u96, u97, u98, u99, u100, u101, u102, u103, u104, u105, u106, u107, u108, u109, u110, u111, u112, u113, u114, u115, u116, u117, u118, u119, u120, u121, u122, u123, u124, u125, u126, u127, u128, u129, u130, u131, u132, u133, u134, u135, u136, u137, u138, u139, u140, u141, u142, u143, u144, u145, u146, u147, u148, u149, u150, u151, u152, u153, u154, u155, u156, u157, u158, u159, u160, u161, u162, u163, u164, u165, u166, u167, u168, u169, u170, u171, u172, u173, u174, u175, u176, u177, u178, u179, u180, u181, u182, u183, u184, u185, u186, u187, u188, u189, v190, v191, v192, v193, v194, v195, v196, v197, v198, v199, v200, v201, v202, v203, v204, v205, v206, u207, u208, u209, u210, u211, u212, u213, u214, u215, u216, u217, u218, u219, u220, u221, u222, u223, u224, u225, u226, u227, u228, u229, u230, u231, u232, u233, u234, u235, u236, u237, u238, u239, u240, u241, u242, u243, u244, u245, u246, u247, u248, u249, u250, u251, u252, u253, u254, u255, u256, u257, u258, u259, u260, u261, u262, u263, u264, u265, u266, u267, u268, u269, u270, u271, u272, u273, u274, u275, u276, u277, u278, u279, u280, u281, u282, u283, u284, u285, u286, u287, u288, u289, u290, u291, u292, u293, u294, u295, u296, u297, u298, u299, u300, u301, u302], defers := [] } w') :
  Code.wp Tryz.prog (cFst (cFst (cSnd (cSnd (cSnd (cSnd (cSnd (cSnd (cSnd (cSnd (cSnd (cSnd (cSnd (cSnd (cSnd (cSnd (cSnd ((Tryz.f40.body.getD .skip))))))))))))))))))) (Exit.then K (Exit.then K1 (bodyPost Tryz.prog Tryz.f40 Post))) { tmps := #[u0, u1, .pointer (some ⟨b0, 0, none⟩), .pointer (some ⟨b1, 0, none⟩), .pointer (some ⟨b2, 0, none⟩), u5, u6, u7, u8, .pointer (some ⟨x9, 0, none⟩), u10, u11, u12, .pointer (some ⟨v13, 0, none⟩), .pointer (some ⟨n14, 0, none⟩), u15, u16, u17, u18, u19, u20, u21, u22, u23, u24, u25, u26, u27, u28, u29, u30, u31, u32, u33, u34, u35, u36, u37, u38, u39, u40, u41, u42, u43, u44, u45, u46, u47, u48, u49, u50, u51, u52, u53, u54, u55, u56, u57, u58, u59, u60, u61, u62, u63, u64, u65, u66, u67, u68, u69, u70, u71, u72, u73, u74, u75, u76, u77, u78, u79, u80, u81, u82, u83, u84, u85, u86, u87, u88, u89, u90, u91, u92, u93, u94, u95, u96, u97, u98, u99, u100, u101, u102, u103, u104, u105, u106, u107, u108, u109, u110, u111, u112, u113, u114, u115, u116, u117, u118, u119, u120, u121, u122, u123, u124, u125, u126, u127, u128, u129, u130, u131, u132, u133, u134, u135, u136, u137, u138, u139, u140, u141, u142, u143, u144, u145, u146, u147, u148, u149, u150, u151, u152, u153, u154, u155, u156, u157, u158, u159, u160, u161, u162, u163, u164, u165, u166, u167, u168, u169, u170, u171, u172, u173, u174, u175, u176, u177, u178, u179, u180, u181, u182, u183, u184, u185, u186, u187, u188, u189, u190, u191, u192, u193, u194, u195, u196, u197, u198, u199, u200, u201, u202, u203, u204, u205, u206, u207, u208, u209, u210, u211, u212, u213, u214, u215, u216, u217, u218, u219, u220, u221, u222, u223, u224, u225, u226, u227, u228, u229, u230, u231, u232, u233, u234, u235, u236, u237, u238, u239, u240, u241, u242, u243, u244, u245, u246, u247, u248, u249, u250, u251, u252, u253, u254, u255, u256, u257, u258, u259, u260, u261, u262, u263, u264, u265, u266, u267, u268, u269, u270, u271, u272, u273, u274, u275, u276, u277, u278, u279, u280, u281, u282, u283, u284, u285, u286, u287, u288, u289, u290, u291, u292, u293, u294, u295, u296, u297, u298, u299, u300, u301, u302], defers := [] } w := by
 have hKb : ∀ a w, Code.wp Tryz.prog (.cond _ _ _) (Exit.then K1 (bodyPost Tryz.prog Tryz.f40 Post)) a w → K a w := hK
 clear hK
 show Code.wp Tryz.prog (.region 37 _ _) _ _ _
 dsimp only
 have H0r := H0
 have H2r := H2
 have hb : Below M w w := Below.refl _ _
 cases sc
 case false =>
  have f5 := blk_cell H1.out 5 rfl
  go_wp2
  exact hE _ _ _ _ _ _ _ _ _ _ _ _ _ _ _ _ _ w rfl (Below.refl _ _)
 case true =>
  have f3 := blk_cell H1.out 3 rfl
  have f5 := blk_cell H1.out 5 rfl
  have p8 := blk_cell P.out 8 rfl
  have p9 := blk_cell P.out 9 rfl
  have p10 := blk_cell P.out 10 rfl
  cases hp : (s0.per == 0)
  case true =>
   have hf : scaleL true aw s0 = true := by unfold scaleL; rw [hp]; rfl
   go_upto_region 38 with fail
   clear f3 f5 p8 p9 p10
   have e0 := blk_cell H0r.out 0 rfl
   have e1 := blk_cell H0r.out 1 rfl
   have e2 := blk_cell H0r.out 2 rfl
   have e3 := blk_cell H0r.out 3 rfl
   go_wp2_with (refine wpList_store_only rfl 36 (.tmp 4) (.tmp 207) rfl b2 0 #[.int .i64 now, .slice ao1 l1 k1, .slice ao2 l2 k2, .slice ao3 l3 k3] rfl rfl 36 #[.int .i64 0, .slice none 0 0, .slice none 0 0, .slice none 0 0] H2r.out Tryz.infosBookR (Nat.le_of_ble_eq_true rfl) (by simp [Value.oneCell']) ?_; intro wf hz on; have RF : Hid (wf.heap[b2]? = some (.cells #[.int .i64 now, .slice ao1 l1 k1, .slice ao2 l2 k2, .slice ao3 l3 k3] 36 (0, 0))) := hz; have hbf := hb.trans (on.below.mono h2N); clear hz on e0 e1 e2 e3; have p0 := blk_cell RF.out 0 rfl; have p1 := blk_cell RF.out 1 rfl; have p2 := blk_cell RF.out 2 rfl; have p3 := blk_cell RF.out 3 rfl)
   exact bodyPost_ret (v := .tuple #[.agg #[.int .i64 now, .slice ao1 l1 k1, .slice ao2 l2 k2, .slice ao3 l3 k3], .int .i64 6]) (by simp [results, Tryz.results40, go_sem, p0, p1, p2, p3]) rfl (hP wf (hf) hbf)
  case false =>
   obtain ⟨ib, HIB⟩ : ∃ z, Hid (inB aw s0.least s0.most = z) := ⟨_, rfl⟩
   have HC : Hid (∀ W : World, Calls Tryz.prog 86 #[.int .i64 aw, .int .i64 s0.least, .int .i64 s0.most] W fun e w' => e = .returned (.bool ib) ∧ w' = W) := fun W => by have h := l1In_any aw s0.least s0.most W; rw [HIB.out] at h; exact h
   cases ib
   case false =>
    have hf : scaleL true aw s0 = true := by unfold scaleL; rw [hp, HIB.out]; rfl
    go_upto_region 38 with (go_at_call 86; refine (HC.out _).mono ?_; rintro e _ ⟨rfl, rfl⟩)
    clear f3 f5 p8 p9 p10
    have e0 := blk_cell H0r.out 0 rfl
    have e1 := blk_cell H0r.out 1 rfl
    have e2 := blk_cell H0r.out 2 rfl
    have e3 := blk_cell H0r.out 3 rfl
    go_wp2_with (refine wpList_store_only rfl 36 (.tmp 4) (.tmp 207) rfl b2 0 #[.int .i64 now, .slice ao1 l1 k1, .slice ao2 l2 k2, .slice ao3 l3 k3] rfl rfl 36 #[.int .i64 0, .slice none 0 0, .slice none 0 0, .slice none 0 0] H2r.out Tryz.infosBookR (Nat.le_of_ble_eq_true rfl) (by simp [Value.oneCell']) ?_; intro wf hz on; have RF : Hid (wf.heap[b2]? = some (.cells #[.int .i64 now, .slice ao1 l1 k1, .slice ao2 l2 k2, .slice ao3 l3 k3] 36 (0, 0))) := hz; have hbf := hb.trans (on.below.mono h2N); clear hz on e0 e1 e2 e3; have p0 := blk_cell RF.out 0 rfl; have p1 := blk_cell RF.out 1 rfl; have p2 := blk_cell RF.out 2 rfl; have p3 := blk_cell RF.out 3 rfl)
    exact bodyPost_ret (v := .tuple #[.agg #[.int .i64 now, .slice ao1 l1 k1, .slice ao2 l2 k2, .slice ao3 l3 k3], .int .i64 6]) (by simp [results, Tryz.results40, go_sem, p0, p1, p2, p3]) rfl (hP wf (hf) hbf)
   case true =>
    have hf : scaleL true aw s0 = false := by unfold scaleL; rw [hp, HIB.out]; rfl
    go_wp2_with (go_at_call 86; refine (HC.out _).mono ?_; rintro e _ ⟨rfl, rfl⟩)
    exact hE _ _ _ _ _ _ _ _ _ _ _ _ _ _ _ _ _ _ hf (Below.refl _ _)
set_option maxRecDepth 100000 in
set_option maxHeartbeats 16000000 in
theorem l4_chk39 {u0 u1 u5 u6 u7 u8 u10 u11 u12 u15 u16 u17 u18 u19 u20 u21 u22 u23 u24 u25 u26 u27 u28 u29 u30 u31 u32 u33 u34 u35 u36 u37 u38 u39 u40 u41 u42 u43 u44 u45 u46 u47 u48 u49 u50 u51 u52 u53 u54 u55 u56 u57 u58 u59 u60 u61 u62 u63 u64 u65 u66 u67 u68 u69 u70 u71 u72 u73 u74 u75 u76 u77 u78 u79 u80 u81 u82 u83 u84 u85 u86 u87 u88 u89 u90 u91 u92 u93 u94 u95 u96 u97 u98 u99 u100 u101 u102 u103 u104 u105 u106 u107 u108 u109 u110 u111 u112 u113 u114 u115 u116 u117 u118 u119 u120 u121 u122 u123 u124 u125 u126 u127 u128 u129 u130 u131 u132 u133 u134 u135 u136 u137 u138 u139 u140 u141 u142 u143 u144 u145 u146 u147 u148 u149 u150 u151 u152 u153 u154 u155 u156 u157 u158 u159 u160 u161 u162 u163 u164 u165 u166 u167 u168 u169 u170 u171 u172 u173 u174 u175 u176 u177 u178 u179 u180 u181 u182 u183 u184 u185 u186 u187 u188 u189 u190 u191 u192 u193 u194 u195 u196 u197 u198 u199 u200 u201 u202 u203 u204 u205 u206 u207 u208 u209 u210 u211 u212 u213 u214 u215 u216 u217 u218 u219 u220 u221 u222 u223 u224 u225 u226 u227 u228 u229 u230 u231 u232 u233 u234 u235 u236 u237 u238 u239 u240 u241 u242 u243 u244 u245 u246 u247 u248 u249 u250 u251 u252 u253 u254 u255 u256 u257 u258 u259 u260 u261 u262 u263 u264 u265 u266 u267 u268 u269 u270 u271 u272 u273 u274 u275 u276 u277 u278 u279 u280 u281 u282 u283 u284 u285 u286 u287 u288 u289 u290 u291 u292 u293 u294 u295 u296 u297 u298 u299 u300 u301 u302 : Value} (b0 b1 b2 x9 v13 n14 M : Nat) (now : Int) (ao1 ao2 ao3 : Option Addr) (l1 k1 l2 k2 l3 k3 : Nat) (sv : ByteArray) (cr aw ac : Int) (sc dr : Bool) (y1 y6 : Value) (s0 : Svc) (N : Cnt) (w : World) (h2N : M ≤ b2)
  (H0 : Hid (w.heap[b0]? = some (.cells #[.int .i64 now, .slice ao1 l1 k1, .slice ao2 l2 k2, .slice ao3 l3 k3] 36 (0, 0)))) (H1 : Hid (w.heap[b1]? = some (.cells #[.string sv, y1, .int .i64 cr, .int .i64 aw, .int .i64 ac, .bool sc, y6, .bool dr] 42 (0, 0)))) (H2 : Hid (w.heap[b2]? = some (.cells #[.int .i64 0, .slice none 0 0, .slice none 0 0, .slice none 0 0] 36 (0, 0)))) (P : Hid (w.heap[v13]? = some (.cells #[.string s0.name, .int .i64 s0.version, .bool s0.gone, .int .i64 s0.image, .int .i64 s0.want, .int .i64 s0.down, .int .i64 s0.over, .int .i64 s0.next, .int .i64 s0.per, .int .i64 s0.least, .int .i64 s0.most, .int .i64 s0.load, .int .i64 s0.cool] 67 (0, 0)))) (hwc : wrap64 ((l2 : Int) + cr) = (l2 : Int) + cr) (hwd : wrap64 (s0.next + cr) = s0.next + cr) {K K1 : Act → World → Prop} {Post : Ending → World → Prop}
  (hK : ∀ a w, Code.wp Tryz.prog (cSnd (cFst (cSnd (cSnd (cSnd (cSnd (cSnd (cSnd (cSnd (cSnd (cSnd (cSnd (cSnd (cSnd (cSnd (cSnd (cSnd (cSnd ((Tryz.f40.body.getD .skip)))))))))))))))))))) (Exit.then K1 (bodyPost Tryz.prog Tryz.f40 Post)) a w → K a w)
  (hP : ∀ w', roomL now l2 cr s0 = true → Below M w w' → Post (.returned (.tuple #[.agg #[.int .i64 now, .slice ao1 l1 k1, .slice ao2 l2 k2, .slice ao3 l3 k3], .int .i64 7])) w')
  (hE : ∀ (v208 v209 v210 v211 v212 v213 v214 v215 v216 v217 v218 v219 v220 v221 v222 v223 v224 v225 v226 v227 : Value) (w' : World), roomL now l2 cr s0 = false → Below w.heap.size w w' → K1 { tmps := #[u0, u1, .pointer (some ⟨b0, 0, none⟩), .pointer (some ⟨b1, 0, none⟩), .pointer (some ⟨b2, 0, none⟩), u5, u6, u7, u8, .pointer (some ⟨x9, 0, none⟩), u10, u11, u12, .pointer (some ⟨v13, 0, none⟩), .pointer (some ⟨n14, 0, none⟩), u15, u16, u17, u18, u19, u20, u21, u22, u23, u24, u25, u26, u27, u28, u29, u30, u31, u32, u33, u34, u35, u36, u37, u38, u39, u40, u41, u42, u43, u44, u45, u46, u47, u48, u49, u50, u51, u52, u53, u54, u55, u56, u57, u58, u59, u60, u61, u62, u63, u64, u65, u66, u67, u68, u69, u70, u71, u72, u73, u74, u75, u76, u77, u78, u79, u80, u81, u82, u83, u84, u85, u86, u87, u88, u89, u90, u91, u92, u93, u94, u95, u96, u97, u98, u99, u100, u101, u102, u103, u104, u105, u106, u107, u108, u109, u110, u111, u112, u113, u114, u115, u116, u117, u118, u119, u120, u121, u122, u123, u124, u125, u126, u127, u128, u129, u130, u131, u132, u133, u134, u135, u136, u137, u138, u139, u140, u141, u142, u143, u144, u145, u146, u147, u148, u149, u150, u151, u152, u153, u154, u155, u156, u157, u158, u159, u160, u161, u162, u163, u164, u165, u166, u167, u168, u169, u170, u171, u172, u173, u174, u175, u176, u177, u178, u179, u180, u181, u182, u183, u184, u185, u186, u187, u188, u189, u190, u191, u192, u193, u194, u195, u196, u197, u198, u199, u200, u201, u202, u203, u204, u205, u206, u207, v208, v209, v210, v211, v212, v213, v214, v215, v216, v217, v218, v219, v220, v221, v222, v223, v224, v225, v226, v227, u228, u229, u230, u231, u232, u233, u234, u235, u236, u237, u238, u239, u240, u241, u242, u243, u244, u245, u246, u247, u248, u249, u250, u251, u252, u253, u254, u255, u256, u257, u258, u259, u260, u261, u262, u263, u264, u265, u266, u267, u268, u269, u270, u271, u272, u273, u274, u275, u276, u277, u278, u279, u280, u281, u282, u283, u284, u285, u286, u287, u288, u289, u290, u291, u292, u293, u294, u295, u296, u297, u298, u299, u300, u301, u302], defers := [] } w') :
  Code.wp Tryz.prog (cFst (cFst (cSnd (cSnd (cSnd (cSnd (cSnd (cSnd (cSnd (cSnd (cSnd (cSnd (cSnd (cSnd (cSnd (cSnd (cSnd (cSnd ((Tryz.f40.body.getD .skip)))))))))))))))))))) (Exit.then K (Exit.then K1 (bodyPost Tryz.prog Tryz.f40 Post))) { tmps := #[u0, u1, .pointer (some ⟨b0, 0, none⟩), .pointer (some ⟨b1, 0, none⟩), .pointer (some ⟨b2, 0, none⟩), u5, u6, u7, u8, .pointer (some ⟨x9, 0, none⟩), u10, u11, u12, .pointer (some ⟨v13, 0, none⟩), .pointer (some ⟨n14, 0, none⟩), u15, u16, u17, u18, u19, u20, u21, u22, u23, u24, u25, u26, u27, u28, u29, u30, u31, u32, u33, u34, u35, u36, u37, u38, u39, u40, u41, u42, u43, u44, u45, u46, u47, u48, u49, u50, u51, u52, u53, u54, u55, u56, u57, u58, u59, u60, u61, u62, u63, u64, u65, u66, u67, u68, u69, u70, u71, u72, u73, u74, u75, u76, u77, u78, u79, u80, u81, u82, u83, u84, u85, u86, u87, u88, u89, u90, u91, u92, u93, u94, u95, u96, u97, u98, u99, u100, u101, u102, u103, u104, u105, u106, u107, u108, u109, u110, u111, u112, u113, u114, u115, u116, u117, u118, u119, u120, u121, u122, u123, u124, u125, u126, u127, u128, u129, u130, u131, u132, u133, u134, u135, u136, u137, u138, u139, u140, u141, u142, u143, u144, u145, u146, u147, u148, u149, u150, u151, u152, u153, u154, u155, u156, u157, u158, u159, u160, u161, u162, u163, u164, u165, u166, u167, u168, u169, u170, u171, u172, u173, u174, u175, u176, u177, u178, u179, u180, u181, u182, u183, u184, u185, u186, u187, u188, u189, u190, u191, u192, u193, u194, u195, u196, u197, u198, u199, u200, u201, u202, u203, u204, u205, u206, u207, u208, u209, u210, u211, u212, u213, u214, u215, u216, u217, u218, u219, u220, u221, u222, u223, u224, u225, u226, u227, u228, u229, u230, u231, u232, u233, u234, u235, u236, u237, u238, u239, u240, u241, u242, u243, u244, u245, u246, u247, u248, u249, u250, u251, u252, u253, u254, u255, u256, u257, u258, u259, u260, u261, u262, u263, u264, u265, u266, u267, u268, u269, u270, u271, u272, u273, u274, u275, u276, u277, u278, u279, u280, u281, u282, u283, u284, u285, u286, u287, u288, u289, u290, u291, u292, u293, u294, u295, u296, u297, u298, u299, u300, u301, u302], defers := [] } w := by
 have hKb : ∀ a w, Code.wp Tryz.prog (.cond _ _ _) (Exit.then K1 (bodyPost Tryz.prog Tryz.f40 Post)) a w → K a w := hK
 clear hK
 show Code.wp Tryz.prog (.region 39 _ _) _ _ _
 dsimp only
 have H0r := H0
 have H2r := H2
 have hb : Below M w w := Below.refl _ _
 have e0 := blk_cell H0.out 0 rfl
 have e2 := blk_cell H0.out 2 rfl
 have f2 := blk_cell H1.out 2 rfl
 have p7 := blk_cell P.out 7 rfl
 cases hr1 : decide (200 < (l2 : Int) + cr)
 case true =>
  have hf : roomL now l2 cr s0 = true := by unfold roomL; rw [hr1]; simp
  go_upto_region 40 with fail
  clear e0 e2 f2 p7
  have e0 := blk_cell H0r.out 0 rfl
  have e1 := blk_cell H0r.out 1 rfl
  have e2 := blk_cell H0r.out 2 rfl
  have e3 := blk_cell H0r.out 3 rfl
  go_wp2_with (refine wpList_store_only rfl 36 (.tmp 4) (.tmp 228) rfl b2 0 #[.int .i64 now, .slice ao1 l1 k1, .slice ao2 l2 k2, .slice ao3 l3 k3] rfl rfl 36 #[.int .i64 0, .slice none 0 0, .slice none 0 0, .slice none 0 0] H2r.out Tryz.infosBookR (Nat.le_of_ble_eq_true rfl) (by simp [Value.oneCell']) ?_; intro wf hz on; have RF : Hid (wf.heap[b2]? = some (.cells #[.int .i64 now, .slice ao1 l1 k1, .slice ao2 l2 k2, .slice ao3 l3 k3] 36 (0, 0))) := hz; have hbf := hb.trans (on.below.mono h2N); clear hz on e0 e1 e2 e3; have p0 := blk_cell RF.out 0 rfl; have p1 := blk_cell RF.out 1 rfl; have p2 := blk_cell RF.out 2 rfl; have p3 := blk_cell RF.out 3 rfl)
  exact bodyPost_ret (v := .tuple #[.agg #[.int .i64 now, .slice ao1 l1 k1, .slice ao2 l2 k2, .slice ao3 l3 k3], .int .i64 7]) (by simp [results, Tryz.results40, go_sem, p0, p1, p2, p3]) rfl (hP wf (hf) hbf)
 case false =>
  cases hr2 : decide (1000000 < s0.next + cr)
  case true =>
   have hf : roomL now l2 cr s0 = true := by unfold roomL; rw [hr1, hr2]; simp
   go_upto_region 40 with fail
   clear e0 e2 f2 p7
   have e0 := blk_cell H0r.out 0 rfl
   have e1 := blk_cell H0r.out 1 rfl
   have e2 := blk_cell H0r.out 2 rfl
   have e3 := blk_cell H0r.out 3 rfl
   go_wp2_with (refine wpList_store_only rfl 36 (.tmp 4) (.tmp 228) rfl b2 0 #[.int .i64 now, .slice ao1 l1 k1, .slice ao2 l2 k2, .slice ao3 l3 k3] rfl rfl 36 #[.int .i64 0, .slice none 0 0, .slice none 0 0, .slice none 0 0] H2r.out Tryz.infosBookR (Nat.le_of_ble_eq_true rfl) (by simp [Value.oneCell']) ?_; intro wf hz on; have RF : Hid (wf.heap[b2]? = some (.cells #[.int .i64 now, .slice ao1 l1 k1, .slice ao2 l2 k2, .slice ao3 l3 k3] 36 (0, 0))) := hz; have hbf := hb.trans (on.below.mono h2N); clear hz on e0 e1 e2 e3; have p0 := blk_cell RF.out 0 rfl; have p1 := blk_cell RF.out 1 rfl; have p2 := blk_cell RF.out 2 rfl; have p3 := blk_cell RF.out 3 rfl)
   exact bodyPost_ret (v := .tuple #[.agg #[.int .i64 now, .slice ao1 l1 k1, .slice ao2 l2 k2, .slice ao3 l3 k3], .int .i64 7]) (by simp [results, Tryz.results40, go_sem, p0, p1, p2, p3]) rfl (hP wf (hf) hbf)
  case false =>
   cases hr3 : decide (1000000 ≤ now)
   case true =>
    have hf : roomL now l2 cr s0 = true := by unfold roomL; rw [hr1, hr2, hr3]; simp
    go_upto_region 40 with fail
    clear e0 e2 f2 p7
    have e0 := blk_cell H0r.out 0 rfl
    have e1 := blk_cell H0r.out 1 rfl
    have e2 := blk_cell H0r.out 2 rfl
    have e3 := blk_cell H0r.out 3 rfl
    go_wp2_with (refine wpList_store_only rfl 36 (.tmp 4) (.tmp 228) rfl b2 0 #[.int .i64 now, .slice ao1 l1 k1, .slice ao2 l2 k2, .slice ao3 l3 k3] rfl rfl 36 #[.int .i64 0, .slice none 0 0, .slice none 0 0, .slice none 0 0] H2r.out Tryz.infosBookR (Nat.le_of_ble_eq_true rfl) (by simp [Value.oneCell']) ?_; intro wf hz on; have RF : Hid (wf.heap[b2]? = some (.cells #[.int .i64 now, .slice ao1 l1 k1, .slice ao2 l2 k2, .slice ao3 l3 k3] 36 (0, 0))) := hz; have hbf := hb.trans (on.below.mono h2N); clear hz on e0 e1 e2 e3; have p0 := blk_cell RF.out 0 rfl; have p1 := blk_cell RF.out 1 rfl; have p2 := blk_cell RF.out 2 rfl; have p3 := blk_cell RF.out 3 rfl)
    exact bodyPost_ret (v := .tuple #[.agg #[.int .i64 now, .slice ao1 l1 k1, .slice ao2 l2 k2, .slice ao3 l3 k3], .int .i64 7]) (by simp [results, Tryz.results40, go_sem, p0, p1, p2, p3]) rfl (hP wf (hf) hbf)
   case false =>
    have hf : roomL now l2 cr s0 = false := by unfold roomL; rw [hr1, hr2, hr3]; rfl
    go_wp2
    exact hE _ _ _ _ _ _ _ _ _ _ _ _ _ _ _ _ _ _ _ _ w hf (Below.refl _ _)
set_option maxRecDepth 100000 in
set_option maxHeartbeats 16000000 in
theorem l4_chk35 {u0 u1 u5 u6 u7 u8 u10 u11 u12 u15 u16 u17 u18 u19 u20 u21 u22 u23 u24 u25 u26 u27 u28 u29 u30 u31 u32 u33 u34 u35 u36 u37 u38 u39 u40 u41 u42 u43 u44 u45 u46 u47 u48 u49 u50 u51 u52 u53 u54 u55 u56 u57 u58 u59 u60 u61 u62 u63 u64 u65 u66 u67 u68 u69 u70 u71 u72 u73 u74 u75 u76 u77 u78 u79 u80 u81 u82 u83 u84 u85 u86 u87 u88 u89 u90 u91 u92 u93 u94 u95 u96 u97 u98 u99 u100 u101 u102 u103 u104 u105 u106 u107 u108 u109 u110 u111 u112 u113 u114 u115 u116 u117 u118 u119 u120 u121 u122 u123 u124 u125 u126 u127 u128 u129 u130 u131 u132 u133 u134 u135 u136 u137 u138 u139 u140 u141 u142 u143 u144 u145 u146 u147 u148 u149 u150 u151 u152 u153 u154 u155 u156 u157 u158 u159 u160 u161 u162 u163 u164 u165 u166 u167 u168 u169 u170 u171 u172 u173 u174 u175 u176 u177 u178 u179 u180 u181 u182 u183 u184 u185 u186 u187 u188 u189 u190 u191 u192 u193 u194 u195 u196 u197 u198 u199 u200 u201 u202 u203 u204 u205 u206 u207 u208 u209 u210 u211 u212 u213 u214 u215 u216 u217 u218 u219 u220 u221 u222 u223 u224 u225 u226 u227 u228 u229 u230 u231 u232 u233 u234 u235 u236 u237 u238 u239 u240 u241 u242 u243 u244 u245 u246 u247 u248 u249 u250 u251 u252 u253 u254 u255 u256 u257 u258 u259 u260 u261 u262 u263 u264 u265 u266 u267 u268 u269 u270 u271 u272 u273 u274 u275 u276 u277 u278 u279 u280 u281 u282 u283 u284 u285 u286 u287 u288 u289 u290 u291 u292 u293 u294 u295 u296 u297 u298 u299 u300 u301 u302 : Value} (b0 b1 b2 x9 v13 n14 M : Nat) (now : Int) (ao1 ao2 ao3 : Option Addr) (l1 k1 l2 k2 l3 k3 : Nat) (sv : ByteArray) (cr aw ac : Int) (sc dr : Bool) (y1 y6 : Value) (s0 : Svc) (N : Cnt) (w : World) (h2N : M ≤ b2)
  (H0 : Hid (w.heap[b0]? = some (.cells #[.int .i64 now, .slice ao1 l1 k1, .slice ao2 l2 k2, .slice ao3 l3 k3] 36 (0, 0)))) (H1 : Hid (w.heap[b1]? = some (.cells #[.string sv, y1, .int .i64 cr, .int .i64 aw, .int .i64 ac, .bool sc, y6, .bool dr] 42 (0, 0)))) (H2 : Hid (w.heap[b2]? = some (.cells #[.int .i64 0, .slice none 0 0, .slice none 0 0, .slice none 0 0] 36 (0, 0)))) (P : Hid (w.heap[v13]? = some (.cells #[.string s0.name, .int .i64 s0.version, .bool s0.gone, .int .i64 s0.image, .int .i64 s0.want, .int .i64 s0.down, .int .i64 s0.over, .int .i64 s0.next, .int .i64 s0.per, .int .i64 s0.least, .int .i64 s0.most, .int .i64 s0.load, .int .i64 s0.cool] 67 (0, 0)))) (xn : Int) (xo1 xo2 xo3 : Option Addr) (m1 j1 m2 j2 m3 j3 : Nat) (HX : Hid (w.heap[x9]? = some (.cells #[.int .i64 xn, .slice xo1 m1 j1, .slice xo2 m2 j2, .slice xo3 m3 j3] 36 (0, 0)))) (BX : Bk) (HBX : Hid (BkAt w xo1 xo2 xo3 BX)) (HCT : Hid (∀ W : World, BkAt W xo1 xo2 xo3 BX → Calls Tryz.prog 95 #[.agg #[.int .i64 xn, .slice xo1 m1 j1, .slice xo2 m2 j2, .slice xo3 m3 j3], .string sv] W fun e w' => e = .returned (.agg #[.int .i64 N.live, .int .i64 N.ready, .int .i64 N.old, .int .i64 N.failed, .int .i64 N.ending]) ∧ Below W.heap.size W w')) (hwa : wrap64 (N.live + cr) = N.live + cr) (hwb : wrap64 (s0.want + s0.over) = s0.want + s0.over) {K K1 : Act → World → Prop} {Post : Ending → World → Prop}
  (hK : ∀ a w, Code.wp Tryz.prog (cSnd (cFst (cSnd (cSnd (cSnd (cSnd (cSnd (cSnd (cSnd (cSnd (cSnd (cSnd (cSnd (cSnd (cSnd (cSnd ((Tryz.f40.body.getD .skip)))))))))))))))))) (Exit.then K1 (bodyPost Tryz.prog Tryz.f40 Post)) a w → K a w)
  (hP : ∀ w', makeL cr s0 N = true → Below M w w' → Post (.returned (.tuple #[.agg #[.int .i64 now, .slice ao1 l1 k1, .slice ao2 l2 k2, .slice ao3 l3 k3], .int .i64 6])) w')
  (hE : ∀ (v166 v167 v168 v169 v170 v171 v172 v173 v174 v175 v176 v177 v178 v179 v180 v181 v182 v183 v184 v185 v186 v187 v188 : Value) (w' : World), makeL cr s0 N = false → Below w.heap.size w w' → K1 { tmps := #[u0, u1, .pointer (some ⟨b0, 0, none⟩), .pointer (some ⟨b1, 0, none⟩), .pointer (some ⟨b2, 0, none⟩), u5, u6, u7, u8, .pointer (some ⟨x9, 0, none⟩), u10, u11, u12, .pointer (some ⟨v13, 0, none⟩), .pointer (some ⟨n14, 0, none⟩), u15, u16, u17, u18, u19, u20, u21, u22, u23, u24, u25, u26, u27, u28, u29, u30, u31, u32, u33, u34, u35, u36, u37, u38, u39, u40, u41, u42, u43, u44, u45, u46, u47, u48, u49, u50, u51, u52, u53, u54, u55, u56, u57, u58, u59, u60, u61, u62, u63, u64, u65, u66, u67, u68, u69, u70, u71, u72, u73, u74, u75, u76, u77, u78, u79, u80, u81, u82, u83, u84, u85, u86, u87, u88, u89, u90, u91, u92, u93, u94, u95, u96, u97, u98, u99, u100, u101, u102, u103, u104, u105, u106, u107, u108, u109, u110, u111, u112, u113, u114, u115, u116, u117, u118, u119, u120, u121, u122, u123, u124, u125, u126, u127, u128, u129, u130, u131, u132, u133, u134, u135, u136, u137, u138, u139, u140, u141, u142, u143, u144, u145, u146, u147, u148, u149, u150, u151, u152, u153, u154, u155, u156, u157, u158, u159, u160, u161, u162, u163, u164, u165, v166, v167, v168, v169, v170, v171, v172, v173, v174, v175, v176, v177, v178, v179, v180, v181, v182, v183, v184, v185, v186, v187, v188, u189, u190, u191, u192, u193, u194, u195, u196, u197, u198, u199, u200, u201, u202, u203, u204, u205, u206, u207, u208, u209, u210, u211, u212, u213, u214, u215, u216, u217, u218, u219, u220, u221, u222, u223, u224, u225, u226, u227, u228, u229, u230, u231, u232, u233, u234, u235, u236, u237, u238, u239, u240, u241, u242, u243, u244, u245, u246, u247, u248, u249, u250, u251, u252, u253, u254, u255, u256, u257, u258, u259, u260, u261, u262, u263, u264, u265, u266, u267, u268, u269, u270, u271, u272, u273, u274, u275, u276, u277, u278, u279, u280, u281, u282, u283, u284, u285, u286, u287, u288, u289, u290, u291, u292, u293, u294, u295, u296, u297, u298, u299, u300, u301, u302], defers := [] } w') :
  Code.wp Tryz.prog (cFst (cFst (cSnd (cSnd (cSnd (cSnd (cSnd (cSnd (cSnd (cSnd (cSnd (cSnd (cSnd (cSnd (cSnd (cSnd ((Tryz.f40.body.getD .skip)))))))))))))))))) (Exit.then K (Exit.then K1 (bodyPost Tryz.prog Tryz.f40 Post))) { tmps := #[u0, u1, .pointer (some ⟨b0, 0, none⟩), .pointer (some ⟨b1, 0, none⟩), .pointer (some ⟨b2, 0, none⟩), u5, u6, u7, u8, .pointer (some ⟨x9, 0, none⟩), u10, u11, u12, .pointer (some ⟨v13, 0, none⟩), .pointer (some ⟨n14, 0, none⟩), u15, u16, u17, u18, u19, u20, u21, u22, u23, u24, u25, u26, u27, u28, u29, u30, u31, u32, u33, u34, u35, u36, u37, u38, u39, u40, u41, u42, u43, u44, u45, u46, u47, u48, u49, u50, u51, u52, u53, u54, u55, u56, u57, u58, u59, u60, u61, u62, u63, u64, u65, u66, u67, u68, u69, u70, u71, u72, u73, u74, u75, u76, u77, u78, u79, u80, u81, u82, u83, u84, u85, u86, u87, u88, u89, u90, u91, u92, u93, u94, u95, u96, u97, u98, u99, u100, u101, u102, u103, u104, u105, u106, u107, u108, u109, u110, u111, u112, u113, u114, u115, u116, u117, u118, u119, u120, u121, u122, u123, u124, u125, u126, u127, u128, u129, u130, u131, u132, u133, u134, u135, u136, u137, u138, u139, u140, u141, u142, u143, u144, u145, u146, u147, u148, u149, u150, u151, u152, u153, u154, u155, u156, u157, u158, u159, u160, u161, u162, u163, u164, u165, u166, u167, u168, u169, u170, u171, u172, u173, u174, u175, u176, u177, u178, u179, u180, u181, u182, u183, u184, u185, u186, u187, u188, u189, u190, u191, u192, u193, u194, u195, u196, u197, u198, u199, u200, u201, u202, u203, u204, u205, u206, u207, u208, u209, u210, u211, u212, u213, u214, u215, u216, u217, u218, u219, u220, u221, u222, u223, u224, u225, u226, u227, u228, u229, u230, u231, u232, u233, u234, u235, u236, u237, u238, u239, u240, u241, u242, u243, u244, u245, u246, u247, u248, u249, u250, u251, u252, u253, u254, u255, u256, u257, u258, u259, u260, u261, u262, u263, u264, u265, u266, u267, u268, u269, u270, u271, u272, u273, u274, u275, u276, u277, u278, u279, u280, u281, u282, u283, u284, u285, u286, u287, u288, u289, u290, u291, u292, u293, u294, u295, u296, u297, u298, u299, u300, u301, u302], defers := [] } w := by
 have hKb : ∀ a w, Code.wp Tryz.prog (.cond _ _ _) (Exit.then K1 (bodyPost Tryz.prog Tryz.f40 Post)) a w → K a w := hK
 clear hK
 show Code.wp Tryz.prog (.region 35 _ _) _ _ _
 dsimp only
 have f0 := gcell H1.out 0 rfl
 have f2 := gcell H1.out 2 rfl
 have p4 := gcell P.out 4 rfl
 have p6 := gcell P.out 6 rfl
 have x0 := gcell HX.out 0 rfl
 have x1 := gcell HX.out 1 rfl
 have x2 := gcell HX.out 2 rfl
 have x3 := gcell HX.out 3 rfl
 cases hcp : decide (0 < cr)
 case false =>
  have hf : makeL cr s0 N = false := by unfold makeL; rw [hcp]; rfl
  refine wp_region_quiet_below (by kernel_rfl) (by kernel_rfl) ?_
  repeat (first | go_big_quiet_step (exact Calls.regrown_of (HCT.out _ (HBX.out.grown _ _))) | quiet_step (exact Calls.regrown_of (HCT.out _ (HBX.out.grown _ _))))
  refine wpQuiet_nil ?_
  intro w15 hw'
  obtain ⟨⟨dq, osq⟩, hw''⟩ := hw'
  have hqd : Below w.heap.size w w15 := by rw [hw'']; exact below_regrown _ _ _
  clear hw'' f0 f2 p4 p6 x0 x1 x2 x3 HBX HCT
  go_wp2
  exact hE _ _ _ _ _ _ _ _ _ _ _ _ _ _ _ _ _ _ _ _ _ _ _ w15 hf hqd
 case true =>
  rcases Bool.eq_false_or_eq_true s0.gone with hgo | hgo
  ·skip
   have hf : makeL cr s0 N = true := by unfold makeL; rw [hcp, hgo]; rfl
   have p2 : ∀ p : Regrown, (grow (redrawn w p.d) p.os).cell? ⟨v13, 2, none⟩ = some (.bool true) := fun p => by have h := gcell P.out 2 rfl p; rw [hgo] at h; exact h
   clear hgo
   refine wp_region_quiet_below (by kernel_rfl) (by kernel_rfl) ?_
   repeat (first | go_big_quiet_step (exact Calls.regrown_of (HCT.out _ (HBX.out.grown _ _))) | quiet_step (exact Calls.regrown_of (HCT.out _ (HBX.out.grown _ _))))
   refine wpQuiet_nil ?_
   intro w15 hw'
   obtain ⟨⟨dq, osq⟩, hw''⟩ := hw'
   have hqd : Below w.heap.size w w15 := by rw [hw'']; exact below_regrown _ _ _
   clear hw'' f0 f2 p4 p6 x0 x1 x2 x3 HBX HCT
   have H0r : Hid _ := blk_up hqd H0.out
   have H2r : Hid _ := blk_up hqd H2.out
   have hb : Below M w w15 := hqd.mono (Nat.le_trans h2N (Nat.le_of_lt (Array.getElem?_eq_some_iff.1 H2.out).1))
   go_upto_region 36 with fail
   have e0 := blk_cell H0r.out 0 rfl
   have e1 := blk_cell H0r.out 1 rfl
   have e2 := blk_cell H0r.out 2 rfl
   have e3 := blk_cell H0r.out 3 rfl
   go_wp2_with (refine wpList_store_only rfl 36 (.tmp 4) (.tmp 189) rfl b2 0 #[.int .i64 now, .slice ao1 l1 k1, .slice ao2 l2 k2, .slice ao3 l3 k3] rfl rfl 36 #[.int .i64 0, .slice none 0 0, .slice none 0 0, .slice none 0 0] H2r.out Tryz.infosBookR (Nat.le_of_ble_eq_true rfl) (by simp [Value.oneCell']) ?_; intro wf hz on; have RF : Hid (wf.heap[b2]? = some (.cells #[.int .i64 now, .slice ao1 l1 k1, .slice ao2 l2 k2, .slice ao3 l3 k3] 36 (0, 0))) := hz; have hbf := hb.trans (on.below.mono h2N); clear hz on e0 e1 e2 e3; have p0 := blk_cell RF.out 0 rfl; have p1 := blk_cell RF.out 1 rfl; have p2 := blk_cell RF.out 2 rfl; have p3 := blk_cell RF.out 3 rfl)
   exact bodyPost_ret (v := .tuple #[.agg #[.int .i64 now, .slice ao1 l1 k1, .slice ao2 l2 k2, .slice ao3 l3 k3], .int .i64 6]) (by simp [results, Tryz.results40, go_sem, p0, p1, p2, p3]) rfl (hP wf (hf) hbf)
  cases hlv : decide (s0.want + s0.over < N.live + cr)
  case false =>
   have hf : makeL cr s0 N = false := by unfold makeL; rw [hcp, hgo, hlv]; rfl
   have hfld := run_field_count0
   have p2 : ∀ p : Regrown, (grow (redrawn w p.d) p.os).cell? ⟨v13, 2, none⟩ = some (.bool false) := fun p => by have h := gcell P.out 2 rfl p; rw [hgo] at h; exact h
   clear hgo
   refine wp_region_quiet_below (by kernel_rfl) (by kernel_rfl) ?_
   repeat (first | go_big_quiet_step (exact Calls.regrown_of (HCT.out _ (HBX.out.grown _ _))) | quiet_step (exact Calls.regrown_of (HCT.out _ (HBX.out.grown _ _))))
   refine wpQuiet_nil ?_
   intro w15 hw'
   obtain ⟨⟨dq, osq⟩, hw''⟩ := hw'
   have hqd : Below w.heap.size w w15 := by rw [hw'']; exact below_regrown _ _ _
   clear hw'' f0 f2 p4 p6 x0 x1 x2 x3 HBX HCT
   go_wp2
   exact hE _ _ _ _ _ _ _ _ _ _ _ _ _ _ _ _ _ _ _ _ _ _ _ w15 hf hqd
  case true =>
   have hf : makeL cr s0 N = true := by unfold makeL; rw [hcp, hgo, hlv]; rfl
   have hfld := run_field_count0
   have p2 : ∀ p : Regrown, (grow (redrawn w p.d) p.os).cell? ⟨v13, 2, none⟩ = some (.bool false) := fun p => by have h := gcell P.out 2 rfl p; rw [hgo] at h; exact h
   clear hgo
   refine wp_region_quiet_below (by kernel_rfl) (by kernel_rfl) ?_
   repeat (first | go_big_quiet_step (exact Calls.regrown_of (HCT.out _ (HBX.out.grown _ _))) | quiet_step (exact Calls.regrown_of (HCT.out _ (HBX.out.grown _ _))))
   refine wpQuiet_nil ?_
   intro w15 hw'
   obtain ⟨⟨dq, osq⟩, hw''⟩ := hw'
   have hqd : Below w.heap.size w w15 := by rw [hw'']; exact below_regrown _ _ _
   clear hw'' f0 f2 p4 p6 x0 x1 x2 x3 HBX HCT
   have H0r : Hid _ := blk_up hqd H0.out
   have H2r : Hid _ := blk_up hqd H2.out
   have hb : Below M w w15 := hqd.mono (Nat.le_trans h2N (Nat.le_of_lt (Array.getElem?_eq_some_iff.1 H2.out).1))
   go_upto_region 36 with fail
   have e0 := blk_cell H0r.out 0 rfl
   have e1 := blk_cell H0r.out 1 rfl
   have e2 := blk_cell H0r.out 2 rfl
   have e3 := blk_cell H0r.out 3 rfl
   go_wp2_with (refine wpList_store_only rfl 36 (.tmp 4) (.tmp 189) rfl b2 0 #[.int .i64 now, .slice ao1 l1 k1, .slice ao2 l2 k2, .slice ao3 l3 k3] rfl rfl 36 #[.int .i64 0, .slice none 0 0, .slice none 0 0, .slice none 0 0] H2r.out Tryz.infosBookR (Nat.le_of_ble_eq_true rfl) (by simp [Value.oneCell']) ?_; intro wf hz on; have RF : Hid (wf.heap[b2]? = some (.cells #[.int .i64 now, .slice ao1 l1 k1, .slice ao2 l2 k2, .slice ao3 l3 k3] 36 (0, 0))) := hz; have hbf := hb.trans (on.below.mono h2N); clear hz on e0 e1 e2 e3; have p0 := blk_cell RF.out 0 rfl; have p1 := blk_cell RF.out 1 rfl; have p2 := blk_cell RF.out 2 rfl; have p3 := blk_cell RF.out 3 rfl)
   exact bodyPost_ret (v := .tuple #[.agg #[.int .i64 now, .slice ao1 l1 k1, .slice ao2 l2 k2, .slice ao3 l3 k3], .int .i64 6]) (by simp [results, Tryz.results40, go_sem, p0, p1, p2, p3]) rfl (hP wf (hf) hbf)
end Go.Proofs.YtbceafpodamnfabGreatDoor
