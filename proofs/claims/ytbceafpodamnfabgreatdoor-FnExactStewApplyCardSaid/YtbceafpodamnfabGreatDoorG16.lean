/-
  My own: Rk.
-/
import Derived.Test.YtbceafpodamnfabGreatDoorG15
set_option linter.unusedVariables false
set_option linter.unusedSimpArgs false
namespace Go.Proofs.YtbceafpodamnfabGreatDoor
open Go.RowKit Go.Sort
def Kp (w : World) (x v : Nat) (w' : World) : Prop := Below 0 w w' ∧ ∀ k, k < w.heap.size → k ≠ x → k ≠ v → w'.heap[k]? = w.heap[k]?
theorem Kp.refl (w : World) (x v : Nat) : Kp w x v w := ⟨Below.refl _ _, fun _ _ _ _ => rfl⟩
theorem Kp.below {w w1 w2 : World} {x v N : Nat} (h : Kp w x v w1) (hb : Below N w1 w2) (hN : w1.heap.size ≤ N) : Kp w x v w2 :=
 ⟨h.1.trans (hb.mono (Nat.zero_le _)), fun k hk h1 h2 => (hb.block k (Nat.lt_of_lt_of_le hk (Nat.le_trans h.1.size hN))).trans (h.2 k hk h1 h2)⟩
theorem Kp.only {w w1 w2 : World} {x v g : Nat} (h : Kp w x v w1) (on : Only g w1 w2) (hg : w.heap.size ≤ g ∨ g = x ∨ g = v) : Kp w x v w2 :=
 ⟨h.1.trans (on.below.mono (Nat.zero_le _)), fun k hk h1 h2 => (on.other k (by rintro rfl; rcases hg with hg | hg | hg <;> omega)).trans (h.2 k hk h1 h2)⟩
theorem Kp.ins {w w1 w2 : World} {x v : Nat} (h : Kp w x v w1) (hF : ∀ k, k < w1.heap.size → k ≠ x → k ≠ v → w2.heap[k]? = w1.heap[k]?) (hb : Below 0 w1 w2) : Kp w x v w2 :=
 ⟨h.1.trans hb, fun k hk h1 h2 => (hF k (Nat.lt_of_lt_of_le hk h.1.size) h1 h2).trans (h.2 k hk h1 h2)⟩
def putM (f : Nat → Cp) (l : List Cp) : Nat → List Cp
 | 0 => l
 | t + 1 => putC (putM f l t) (f t)
theorem putM_len (f : Nat → Cp) (l : List Cp) : ∀ t, (putM f l t).length = l.length + t
 | 0 => rfl
 | t + 1 => by
  have h := putM_len f l t
  show (putC (putM f l t) (f t)).length = _
  rw [putC_at rfl, List.length_append, List.length_cons, List.length_take, List.length_drop, h]
  have h2 := (List.takeWhile_sublist (p := fun x => aheadB x (f t)) (l := putM f l t)).length_le
  omega
def mkC (sv : ByteArray) (s0 : Svc) (nv : Int) (t : Nat) : Cp := ⟨sv, s0.next + (t : Int), nv, s0.image, 1, false, ⟨#[]⟩⟩
theorem le_5 {a b c d e f : Nat} (h1 : a ≤ b) (h2 : b ≤ c) (h3 : c ≤ d) (h4 : d ≤ e) (h5 : e ≤ f) : a ≤ f := by omega
theorem int_w {t : Nat} (h : wrap64 ((t : Int) + 1) = (t : Int) + 1) : Value.int .i64 (wrap64 ((t : Int) + 1)) = Value.int .i64 ((t + 1 : Nat) : Int) := congrArg (Value.int .i64) (h.trans (Int.natCast_succ t).symm)
theorem meas_w {n t : Nat} (hw : wrap64 ((t : Int) + 1) = (t : Int) + 1) (h : t < n) : n - (intOf (.int .i64 (wrap64 ((t : Int) + 1)))).toNat < n - (intOf (.int .i64 (t : Int))).toNat := by rw [hw]; simp [intOf]; omega
set_option maxRecDepth 100000 in
set_option maxHeartbeats 16000000 in
theorem l4_make {u0 u1 u2 u4 u5 u6 u7 u8 u11 u12 u14 u15 u16 u17 u18 u19 u20 u21 u22 u23 u24 u25 u26 u27 u28 u29 u30 u31 u32 u33 u34 u35 u36 u37 u38 u39 u40 u41 u42 u43 u44 u45 u46 u47 u48 u49 u50 u51 u52 u53 u54 u55 u56 u57 u58 u59 u60 u61 u62 u63 u64 u65 u66 u67 u68 u69 u70 u71 u72 u73 u74 u75 u76 u77 u78 u79 u80 u81 u82 u83 u84 u85 u86 u87 u88 u89 u90 u91 u92 u93 u94 u95 u96 u97 u98 u99 u100 u101 u102 u103 u104 u105 u106 u107 u108 u109 u110 u111 u112 u113 u114 u115 u116 u117 u118 u119 u120 u121 u122 u123 u124 u125 u126 u127 u128 u129 u130 u131 u132 u133 u134 u135 u136 u137 u138 u139 u140 u141 u142 u143 u144 u145 u146 u147 u148 u149 u150 u151 u152 u153 u154 u155 u156 u157 u158 u159 u160 u161 u162 u163 u164 u165 u166 u167 u168 u169 u170 u171 u172 u173 u174 u175 u176 u177 u178 u179 u180 u181 u182 u183 u184 u185 u186 u187 u188 u189 u190 u191 u192 u193 u194 u195 u196 u197 u198 u199 u200 u201 u202 u203 u204 u205 u206 u207 u208 u209 u210 u211 u212 u213 u214 u215 u216 u217 u218 u219 u220 u221 u222 u223 u224 u225 u226 u227 u228 u229 u230 u231 u232 u233 u234 u235 u236 u237 u238 u239 u240 u241 u242 u243 u244 u245 u246 u247 u248 u249 u250 u251 u252 u253 u254 u255 u256 u257 u258 u259 u260 u261 u262 u263 u264 u265 u266 u267 u268 u269 u270 u271 u272 u273 u274 u275 u276 u277 u278 u279 u280 u281 u282 u283 u284 u285 u286 u287 u288 u289 u290 u291 u292 u293 u294 u295 u296 u297 u298 u299 u300 u301 u302 : Value} (b1 x9 v13 n q kC gC : Nat) (sv : ByteArray) (cr nw nv : Int) (y1 y3 y4 y5 y6 y7 a1 a3 : Value) (lst : List Cp) (s0 : Svc) (w : World) (HNC : Hid (cr = (n : Int))) (hcr1 : cr ≤ 20) (HML : Hid (lst.length = q)) (hqn : q + n ≤ 200) (hn0 : 1 ≤ s0.next) (hn1 : s0.next ≤ 1000000)
  (H1 : Hid (w.heap[b1]? = some (.cells #[.string sv, y1, .int .i64 cr, y3, y4, y5, y6, y7] 42 (0, 0)))) (HX : Hid (w.heap[x9]? = some (.cells #[.int .i64 nw, a1, .slice (some ⟨gC, 0, none⟩) q kC, a3] 36 (0, 0)))) (P : Hid (w.heap[v13]? = some (.cells #[.string s0.name, .int .i64 s0.version, .bool s0.gone, .int .i64 s0.image, .int .i64 s0.want, .int .i64 s0.down, .int .i64 s0.over, .int .i64 s0.next, .int .i64 s0.per, .int .i64 s0.least, .int .i64 s0.most, .int .i64 s0.load, .int .i64 s0.cool] 67 (0, 0)))) (RC : Hid (RowIs w 149 7 gC q kC (cpsV lst))) (hx1 : b1 ≠ x9) (hx2 : b1 ≠ v13) (hxv : x9 ≠ v13) {K K1 : Act → World → Prop} {Q : Exit → Act → World → Prop}
  (hK : ∀ a w, Code.wp Tryz.prog (cSnd (cFst (cSnd (cSnd (cSnd (cSnd (cSnd (cSnd (cSnd (cSnd (cSnd (cSnd (cSnd (cSnd (cSnd (cSnd (cSnd (cSnd (cSnd ((Tryz.f40.body.getD .skip))))))))))))))))))))) (Exit.then K1 Q) a w → K a w)
  (hK1 : ∀ a w, Code.wp Tryz.prog (cSnd (cSnd (cSnd (cSnd (cSnd (cSnd (cSnd (cSnd (cSnd (cSnd (cSnd (cSnd (cSnd (cSnd (cSnd (cSnd (cSnd (cSnd ((Tryz.f40.body.getD .skip)))))))))))))))))))) Q a w → K1 a w)
  (hE : ∀ (v15 v16 v17 v229 v230 v231 v232 v233 v234 v235 v236 v237 v238 v239 v240 v241 v242 v243 v244 v245 v246 v247 v248 v249 v250 v251 v252 v253 v254 v255 v256 v257 v258 v259 v260 v261 v262 v263 v264 v265 v266 v267 v268 v269 v270 v271 v272 v273 v274 v275 v276 v277 : Value) (g' k' : Nat) (w' : World), (g' = gC ∨ w.heap.size ≤ g') → Hid (RowIs w' 149 7 g' (q + n) k' (cpsV (putM (mkC sv s0 nv) lst n))) → Hid (w'.heap[x9]? = some (.cells #[.int .i64 nw, a1, .slice (some ⟨g', 0, none⟩) (q + n) k', a3] 36 (0, 0))) → Hid (w'.heap[v13]? = some (.cells #[.string s0.name, .int .i64 s0.version, .bool s0.gone, .int .i64 s0.image, .int .i64 s0.want, .int .i64 s0.down, .int .i64 s0.over, .int .i64 (s0.next + (n : Int)), .int .i64 s0.per, .int .i64 s0.least, .int .i64 s0.most, .int .i64 s0.load, .int .i64 s0.cool] 67 (0, 0))) → Kp w x9 v13 w' → Code.wp Tryz.prog (cSnd (cSnd (cSnd (cSnd (cSnd (cSnd (cSnd (cSnd (cSnd (cSnd (cSnd (cSnd (cSnd (cSnd (cSnd (cSnd (cSnd (cSnd ((Tryz.f40.body.getD .skip)))))))))))))))))))) Q { tmps := #[u0, u1, u2, .pointer (some ⟨b1, 0, none⟩), u4, u5, u6, u7, u8, .pointer (some ⟨x9, 0, none⟩), .int .i64 nv, u11, u12, .pointer (some ⟨v13, 0, none⟩), u14, v15, v16, v17, u18, u19, u20, u21, u22, u23, u24, u25, u26, u27, u28, u29, u30, u31, u32, u33, u34, u35, u36, u37, u38, u39, u40, u41, u42, u43, u44, u45, u46, u47, u48, u49, u50, u51, u52, u53, u54, u55, u56, u57, u58, u59, u60, u61, u62, u63, u64, u65, u66, u67, u68, u69, u70, u71, u72, u73, u74, u75, u76, u77, u78, u79, u80, u81, u82, u83, u84, u85, u86, u87, u88, u89, u90, u91, u92, u93, u94, u95, u96, u97, u98, u99, u100, u101, u102, u103, u104, u105, u106, u107, u108, u109, u110, u111, u112, u113, u114, u115, u116, u117, u118, u119, u120, u121, u122, u123, u124, u125, u126, u127, u128, u129, u130, u131, u132, u133, u134, u135, u136, u137, u138, u139, u140, u141, u142, u143, u144, u145, u146, u147, u148, u149, u150, u151, u152, u153, u154, u155, u156, u157, u158, u159, u160, u161, u162, u163, u164, u165, u166, u167, u168, u169, u170, u171, u172, u173, u174, u175, u176, u177, u178, u179, u180, u181, u182, u183, u184, u185, u186, u187, u188, u189, u190, u191, u192, u193, u194, u195, u196, u197, u198, u199, u200, u201, u202, u203, u204, u205, u206, u207, u208, u209, u210, u211, u212, u213, u214, u215, u216, u217, u218, u219, u220, u221, u222, u223, u224, u225, u226, u227, u228, v229, v230, v231, v232, v233, v234, v235, v236, v237, v238, v239, v240, v241, v242, v243, v244, v245, v246, v247, v248, v249, v250, v251, v252, v253, v254, v255, v256, v257, v258, v259, v260, v261, v262, v263, v264, v265, v266, v267, v268, v269, v270, v271, v272, v273, v274, v275, v276, v277, u278, u279, u280, u281, u282, u283, u284, u285, u286, u287, u288, u289, u290, u291, u292, u293, u294, u295, u296, u297, u298, u299, u300, u301, u302], defers := [] } w') :
  Code.wp Tryz.prog (cFst (cFst (cSnd (cSnd (cSnd (cSnd (cSnd (cSnd (cSnd (cSnd (cSnd (cSnd (cSnd (cSnd (cSnd (cSnd (cSnd (cSnd (cSnd ((Tryz.f40.body.getD .skip))))))))))))))))))))) (Exit.then K (Exit.then K1 Q)) { tmps := #[u0, u1, u2, .pointer (some ⟨b1, 0, none⟩), u4, u5, u6, u7, u8, .pointer (some ⟨x9, 0, none⟩), .int .i64 nv, u11, u12, .pointer (some ⟨v13, 0, none⟩), u14, u15, u16, u17, u18, u19, u20, u21, u22, u23, u24, u25, u26, u27, u28, u29, u30, u31, u32, u33, u34, u35, u36, u37, u38, u39, u40, u41, u42, u43, u44, u45, u46, u47, u48, u49, u50, u51, u52, u53, u54, u55, u56, u57, u58, u59, u60, u61, u62, u63, u64, u65, u66, u67, u68, u69, u70, u71, u72, u73, u74, u75, u76, u77, u78, u79, u80, u81, u82, u83, u84, u85, u86, u87, u88, u89, u90, u91, u92, u93, u94, u95, u96, u97, u98, u99, u100, u101, u102, u103, u104, u105, u106, u107, u108, u109, u110, u111, u112, u113, u114, u115, u116, u117, u118, u119, u120, u121, u122, u123, u124, u125, u126, u127, u128, u129, u130, u131, u132, u133, u134, u135, u136, u137, u138, u139, u140, u141, u142, u143, u144, u145, u146, u147, u148, u149, u150, u151, u152, u153, u154, u155, u156, u157, u158, u159, u160, u161, u162, u163, u164, u165, u166, u167, u168, u169, u170, u171, u172, u173, u174, u175, u176, u177, u178, u179, u180, u181, u182, u183, u184, u185, u186, u187, u188, u189, u190, u191, u192, u193, u194, u195, u196, u197, u198, u199, u200, u201, u202, u203, u204, u205, u206, u207, u208, u209, u210, u211, u212, u213, u214, u215, u216, u217, u218, u219, u220, u221, u222, u223, u224, u225, u226, u227, u228, u229, u230, u231, u232, u233, u234, u235, u236, u237, u238, u239, u240, u241, u242, u243, u244, u245, u246, u247, u248, u249, u250, u251, u252, u253, u254, u255, u256, u257, u258, u259, u260, u261, u262, u263, u264, u265, u266, u267, u268, u269, u270, u271, u272, u273, u274, u275, u276, u277, u278, u279, u280, u281, u282, u283, u284, u285, u286, u287, u288, u289, u290, u291, u292, u293, u294, u295, u296, u297, u298, u299, u300, u301, u302], defers := [] } w := by
 have hb1 := (Array.getElem?_eq_some_iff.1 H1.out).1
 have hx9 := (Array.getElem?_eq_some_iff.1 HX.out).1
 have hv13 := (Array.getElem?_eq_some_iff.1 P.out).1
 have hgl := RC.out.lt
 have hKb : ∀ a w, Code.wp Tryz.prog (.block 6 _) (Exit.then K1 Q) a w → K a w := hK
 clear hK
 have hKa : ∀ a w, Code.wp Tryz.prog (cSnd (cSnd (cSnd (cSnd (cSnd (cSnd (cSnd (cSnd (cSnd (cSnd (cSnd (cSnd (cSnd (cSnd (cSnd (cSnd (cSnd (cSnd ((Tryz.f40.body.getD .skip)))))))))))))))))))) Q a w → K1 a w := hK1
 clear hK1
 show Code.wp Tryz.prog (.region 41 _ _) _ _ _
 go_wp2
 go_loopw [15] (fun iv wq => ∃ t gT kT qq : Nat, t ≤ n ∧ iv = .int .i64 t ∧ Kp w x9 v13 wq ∧ Hid (wq.heap[x9]? = some (.cells #[.int .i64 nw, a1, .slice (some ⟨gT, 0, none⟩) qq kT, a3] 36 (0, 0))) ∧ Hid (wq.heap[v13]? = some (.cells #[.string s0.name, .int .i64 s0.version, .bool s0.gone, .int .i64 s0.image, .int .i64 s0.want, .int .i64 s0.down, .int .i64 s0.over, .int .i64 (s0.next + (t : Int)), .int .i64 s0.per, .int .i64 s0.least, .int .i64 s0.most, .int .i64 s0.load, .int .i64 s0.cool] 67 (0, 0))) ∧ Hid (RowIs wq 149 7 gT qq kT (cpsV (putM (mkC sv s0 nv) lst t))) ∧ (gT = gC ∨ w.heap.size ≤ gT) ∧ Hid (qq = q + t)) (fun i _ => n - (intOf i).toNat)
 case atStart =>
  have P0 : Hid (w.heap[v13]? = some (.cells #[.string s0.name, .int .i64 s0.version, .bool s0.gone, .int .i64 s0.image, .int .i64 s0.want, .int .i64 s0.down, .int .i64 s0.over, .int .i64 (s0.next + ((0 : Nat) : Int)), .int .i64 s0.per, .int .i64 s0.least, .int .i64 s0.most, .int .i64 s0.load, .int .i64 s0.cool] 67 (0, 0))) := by unfold Hid; rw [Int.natCast_zero, Int.add_zero]; exact P.out
  exact ⟨0, gC, kC, q, Nat.zero_le _, rfl, Kp.refl _ _ _, HX, P0, RC, .inl rfl, rfl⟩
 case round =>
  obtain ⟨wo, HWO⟩ : ∃ x, x = wr := ⟨_, rfl⟩
  subst HWO
  obtain ⟨t, gT, kT, qq, ht, rfl, hkp, HXt, Pt, RT, hgT, HQ⟩ := hrel
  have H1t : Hid (wo.heap[b1]? = some (.cells #[.string sv, y1, .int .i64 cr, y3, y4, y5, y6, y7] 42 (0, 0))) := (hkp.2 _ hb1 hx1 hx2).trans H1.out
  have hzo := hkp.1.size
  have hgTl := RT.out.lt
  clear HX P RC
  by_cases hlt : t < n
  ·clear hE hKa
   have hd : decide ((t : Int) < cr) = true := by rw [HNC.out]; exact decide_eq_true (Int.ofNat_lt.2 hlt)
   have hq2 : qq < 200 := by rw [HQ.out]; omega
   obtain ⟨ls, HLS⟩ : ∃ z, Hid (z = putM (mkC sv s0 nv) lst t) := ⟨_, rfl⟩
   rw [← HLS.out] at RT
   have HMT : Hid (ls.length = qq) := by unfold Hid; rw [HLS.out, putM_len, HML.out, HQ.out]
   have f0 := blk_cell H1t.out 0 rfl
   have f2 := blk_cell H1t.out 2 rfl
   have p3 := blk_cell Pt.out 3 rfl
   have p7 := blk_cell Pt.out 7 rfl
   obtain ⟨w29, hw29⟩ : ∃ W, wo.alloc (.cells #[.string ⟨#[]⟩, .int .i64 0, .int .i64 0, .int .i64 0, .int .i64 0, .bool false, .string ⟨#[]⟩] 149) = W := ⟨_, rfl⟩
   have hqa : Below wo.heap.size wo w29 := hw29 ▸ below_box wo _
   have CB29 : Hid (w29.heap[wo.heap.size]? = some (.cells #[.string ⟨#[]⟩, .int .i64 0, .int .i64 0, .int .i64 0, .int .i64 0, .bool false, .string ⟨#[]⟩] 149 (0, 0))) := hw29 ▸ heap_alloc_new wo _
   have hx9o := (Array.getElem?_eq_some_iff.1 HXt.out).1
   have hv13o := (Array.getElem?_eq_some_iff.1 Pt.out).1
   have HX29 : Hid _ := blk_up hqa HXt.out
   have P29 : Hid _ := blk_up hqa Pt.out
   have R29 : Hid (RowIs w29 149 7 gT qq kT (cpsV ls)) := RT.out.below hqa RT.out.lt
   have hkp29 := hkp.below hqa (Nat.le_refl _)
   have hz29 := hqa.size
   go_upto_region 45 with ((with_reducible show wpList _ _ _ _ _ _); refine wpList_store_only rfl 149 (.tmp 16) (.tmp 242) rfl wo.heap.size 0 #[.string sv, .int .i64 (s0.next + (t : Int)), .int .i64 nv, .int .i64 s0.image, .int .i64 1, .bool false, .string ⟨#[]⟩] rfl rfl 149 #[.string ⟨#[]⟩, .int .i64 0, .int .i64 0, .int .i64 0, .int .i64 0, .bool false, .string ⟨#[]⟩] CB29.out Tryz.infosCpR (Nat.le_of_ble_eq_true rfl) (by simp [Value.oneCell']) ?_; intro w30 hz on; have CB30 : Hid (w30.heap[wo.heap.size]? = some (.cells #[.string sv, .int .i64 (s0.next + (t : Int)), .int .i64 nv, .int .i64 s0.image, .int .i64 1, .bool false, .string ⟨#[]⟩] 149 (0, 0))) := hz; have HX30 : Hid _ := (on.other _ (by omega)).trans HX29.out; have P30 : Hid _ := (on.other _ (by omega)).trans P29.out; have R30 : Hid (RowIs w30 149 7 gT qq kT (cpsV ls)) := R29.out.blk (on.other _ (by omega)); have hkp30 := hkp29.only on (.inl hzo); have hz30 := Nat.le_of_eq on.size.symm; clear hz on CB29 HX29 P29 R29 hkp29)
   try simp only [Act.put]
   clear hw29 hqa hd f0 f2 p3 p7 HXt Pt RT H1t
   go_wp2
   rename_i Kq hKq
   refine l4_place x9 wo.heap.size qq kT gT ls (mkC sv s0 nv t) nw a1 a3 w30 HMT hq2 HX30 CB30 R30 ?_
   intro p243 p244 p245 p246 p247 p248 p249 p250 p251 p252 p253 p254 p255 p256 p257 p258 m w32 hm HTW hqe
   have HX32 : Hid _ := blk_up hqe HX30.out
   have P32 : Hid _ := blk_up hqe P30.out
   have CB32 : Hid _ := blk_up hqe CB30.out
   have R32 : Hid (RowIs w32 149 7 gT qq kT (cpsV ls)) := R30.out.below hqe R30.out.lt
   have hkp32 := hkp30.below hqe (Nat.le_refl _)
   have hz32 := hqe.size
   clear HX30 P30 CB30 R30 hkp30 hqe
   go_wp2
   rename_i Kc hKc
   refine l4_ins x9 v13 wo.heap.size m qq kT gT ls (mkC sv s0 nv t) { s0 with next := s0.next + (t : Int) } nw a1 a3 w32 HMT hm hq2 (wrap_next hn0 hn1 HNC.out hcr1 hlt) (wrap_next hn0 hn1 HNC.out hcr1 hlt) HX32 CB32 P32 R32 hxv hKc ?_
   intro q259 q260 q261 q262 q263 q264 q265 q266 q267 q268 q269 q270 q271 q272 q273 q274 q275 q276 q277 gN capN w42 hgN RN42 HX42 P42 hF42 hb42
   have hkp42 := hkp32.ins hF42 hb42
   have hwt := wrap_succ HNC.out hcr1 hlt
   clear HX32 CB32 P32 R32 hkp32 hF42 hb42
   go_wp2
   go_roundw
   case rel =>
    have P43 : Hid (w42.heap[v13]? = some (.cells #[.string s0.name, .int .i64 s0.version, .bool s0.gone, .int .i64 s0.image, .int .i64 s0.want, .int .i64 s0.down, .int .i64 s0.over, .int .i64 (s0.next + (((t + 1 : Nat)) : Int)), .int .i64 s0.per, .int .i64 s0.least, .int .i64 s0.most, .int .i64 s0.load, .int .i64 s0.cool] 67 (0, 0))) := by unfold Hid; rw [Int.natCast_succ, ← Int.add_assoc]; exact P42.out
    have RN43 : Hid (RowIs w42 149 7 gN (qq + 1) capN (cpsV (putM (mkC sv s0 nv) lst (t + 1)))) := by
     unfold Hid
     rw [show putM (mkC sv s0 nv) lst (t + 1) = ls.take m ++ (mkC sv s0 nv t) :: ls.drop m by show putC (putM (mkC sv s0 nv) lst t) (mkC sv s0 nv t) = _; rw [← HLS.out]; exact putC_at HTW.out]
     exact RN42.out
    exact ⟨t + 1, gN, capN, qq + 1, hlt, int_w hwt, hkp42, HX42, P43, RN43, .inr (le_5 hzo hz29 hz30 hz32 hgN), by unfold Hid; rw [HQ.out, Nat.add_assoc]⟩
   case measure => exact meas_w hwt hlt
  ·have hte : t = n := Nat.le_antisymm ht (Nat.le_of_not_lt hlt)
   subst hte
   have hq := HQ.out
   subst hq
   clear HQ
   have hd : decide ((t : Int) < cr) = false := by rw [HNC.out]; simp
   have f2 := blk_cell H1t.out 2 rfl
   skip
   go_wp2
   first
    | exact hE _ _ _ _ _ _ _ _ _ _ _ _ _ _ _ _ _ _ _ _ _ _ _ _ _ _ _ _ _ _ _ _ _ _ _ _ _ _ _ _ _ _ _ _ _ _ _ _ _ _ _ _ gT kT wo hgT RT HXt Pt hkp
    | exact hKa _ _ (hE _ _ _ _ _ _ _ _ _ _ _ _ _ _ _ _ _ _ _ _ _ _ _ _ _ _ _ _ _ _ _ _ _ _ _ _ _ _ _ _ _ _ _ _ _ _ _ _ _ _ _ _ gT kT wo hgT RT HXt Pt hkp)
end Go.Proofs.YtbceafpodamnfabGreatDoor
