/-
  My own: Rq.
-/
import Derived.Test.YtbceafpodamnfabGreatDoorG16
import Derived.Test.YtbceafpodamnfabGreatDoorG17
import Derived.Test.YtbceafpodamnfabGreatDoorG18
import Derived.Test.YtbceafpodamnfabGreatDoorG19
import Derived.Test.YtbceafpodamnfabGreatDoorG20
set_option linter.unusedVariables false
set_option linter.unusedSimpArgs false
namespace Go.Proofs.YtbceafpodamnfabGreatDoor
open Go.RowKit Go.Sort
def LateN (B : Bk) (A : Ac) (s : Svc) (L : List Cp) (box : Value) (N : Nat) (e : Ending) (w' : World) : Prop :=
 (∃ c : Int, e = .returned (.tuple #[box, .int .i64 c]) ∧ c ≠ 0 ∧ lateOf B A s L = c) ∨
 (∃ (k g1 n1 k1 g2 n2 k2 g3 k3 : Nat), e = .returned (.tuple #[.agg #[.int .i64 (B.now + 1), .slice (some ⟨g1, 0, none⟩) n1 k1, .slice (some ⟨g2, 0, none⟩) n2 k2, .slice (some ⟨g3, 0, none⟩) B.bts.length k3], .int .i64 0]) ∧ lateOf B A s L = 0 ∧ B.svcs[k]? = some s ∧ idxS B.svcs A.service = (k : Int) ∧ n1 = (doneB B A s L k).svcs.length ∧ n2 = (doneB B A s L k).cps.length ∧ BkRow w' N g1 g2 g3 k1 k2 k3 (doneB B A s L k))
theorem scaleV_eq (A : Ac) (s : Svc) : scaleV A.scale A.want A.cool s = scaledS A s := by
 unfold scaledS
 cases A.scale <;> rfl
theorem scaleV_next (b : Bool) (x y : Int) (s : Svc) : (scaleV b x y s).next = s.next := by cases b <;> rfl
theorem scaleV_image (b : Bool) (x y : Int) (s : Svc) : (scaleV b x y s).image = s.image := by cases b <;> rfl
theorem late_cases (B : Bk) (A : Ac) (s : Svc) (L : List Cp) : lateOf B A s L = if dropL A.drop s (cntB B A.service) then 6 else if makeL A.create (scaleV A.scale A.want A.cool s) (cntB { B with cps := L } A.service) then 6 else if scaleL A.scale A.want (scaleV A.scale A.want A.cool s) then 6 else if roomL B.now B.cps.length A.create (scaleV A.scale A.want A.cool s) then 7 else 0 := by
 rw [scaleV_eq]
 rfl
theorem cnt_wrap {N : Cnt} {l : Nat} (h : N.upTo l) (hl : l ≤ 1048576) : wrap64 (N.live + N.ending) = N.live + N.ending := by
 unfold Cnt.upTo at h
 exact IntWalk.wrap64_in _ (by omega)
theorem scale_wrap {A : Ac} {s : Svc} (hsi : SvcIn s) (h : Hid (A.scale = true → 0 ≤ A.want ∧ A.want ≤ 10)) : wrap64 ((scaleV A.scale A.want A.cool s).want + (scaleV A.scale A.want A.cool s).over) = (scaleV A.scale A.want A.cool s).want + (scaleV A.scale A.want A.cool s).over := by
 have h1 := hsi.want0
 have h2 := hsi.want1
 have h3 := hsi.over0
 have h4 := hsi.over1
 have h5 := h.out
 cases hs : A.scale
 ·exact wrap_add20 h1 h2 h3 h4
 ·exact wrap_add20 (h5 hs).1 (h5 hs).2 h3 h4
theorem next_wrap {A : Ac} {s : Svc} (hsi : SvcIn s) (h3 : 0 ≤ A.create) (h4 : A.create ≤ 20) : wrap64 ((scaleV A.scale A.want A.cool s).next + A.create) = (scaleV A.scale A.want A.cool s).next + A.create := by
 rw [scaleV_next]
 exact wrap_addM hsi.next0 hsi.next1 h3 h4
theorem next_0 {A : Ac} {s : Svc} (hsi : SvcIn s) : 1 ≤ (scaleV A.scale A.want A.cool s).next := by rw [scaleV_next]; exact hsi.next0
theorem next_1 {A : Ac} {s : Svc} (hsi : SvcIn s) : (scaleV A.scale A.want A.cool s).next ≤ 1000000 := by rw [scaleV_next]; exact hsi.next1
theorem room_n {now : Int} {l2 n : Nat} {cr : Int} {s : Svc} (hc : cr = (n : Int)) (h : roomL now l2 cr s = false) : l2 + n ≤ 200 := by
 unfold roomL at h
 simp only [Bool.or_eq_false_iff, decide_eq_false_iff_not] at h
 omega
theorem below_kp {w w1 w2 : World} {N x v : Nat} (h : Below N w w1) (hkp : Kp w1 x v w2) (hx : N ≤ x) (hv : N ≤ v) (hN : N ≤ w1.heap.size) : Below N w w2 :=
 ⟨hkp.1.os.trans h.os, hkp.1.tape.trans h.tape, hkp.1.output.trans h.output, Nat.le_trans h.size hkp.1.size, fun k hk => (hkp.2 k (by omega) (by omega) (by omega)).trans (h.block k hk)⟩
theorem gc_n {gC g2 N z : Nat} (h : gC = g2 ∨ z ≤ gC) (h1 : N < g2) (h2 : N < z) : N < gC := by omega
theorem gc_ne {gC g2 x z : Nat} (h : gC = g2 ∨ z ≤ gC) (h1 : g2 ≠ x) (h2 : x < z) : gC ≠ x := by omega
theorem gc_v {gC g2 v z : Nat} (h : gC = g2 ∨ z ≤ gC) (h1 : g2 < v) (h2 : v < z) : gC ≠ v := by omega
theorem putM_eq (B : Bk) (A : Ac) (s : Svc) (L : List Cp) : ∀ t, putM (mkC A.service (scaleV A.scale A.want A.cool s) (B.now + 1)) L t = putN B A s L t
 | 0 => rfl
 | t + 1 => by
  show putC (putM _ L t) _ = putC (putN B A s L t) (newC B A s t)
  rw [putM_eq B A s L t]
  unfold mkC newC
  rw [scaleV_next, scaleV_image]
theorem l4_dist {z g1 g2 g3 x : Nat} (h1 : z + 1 + 1 < g1) (h2 : z + 1 + 1 < g2) (h3 : z + 1 + 1 < g3) (k1 : g1 < x) (k2 : g2 < x) (k3 : g3 < x) (n12 : g1 ≠ g2) (n13 : g3 ≠ g1) : (z + 1 ≠ x ∧ z + 1 + 1 ≠ x ∧ g1 ≠ x ∧ g3 ≠ x) ∧ (g2 ≠ g1 ∧ g2 ≠ x ∧ g2 ≠ z + 1 + 1 ∧ z + 1 ≠ g1) ∧ (z + 1 + 1 ≠ g1 ∧ x ≠ g1 ∧ g3 ≠ g1 ∧ g3 ≠ z + 1 + 1) ∧ (z ≤ z + 1 + 1 ∧ z ≤ x ∧ z < g1 ∧ z < g2 ∧ z < g3) := by omega
theorem done_eq {B : Bk} {A : Ac} {s : Svc} {n : Nat} (h : A.create = (n : Int)) : ({ ({ scaleV A.scale A.want A.cool s with next := (scaleV A.scale A.want A.cool s).next + (n : Int) } : Svc) with version := B.now + 1 } : Svc) = doneS B A s := by
 unfold doneS
 rw [scaleV_next, ← scaleV_eq, h]
theorem drop_row {B : Bk} {A : Ac} {s x : Svc} {L : List Cp} {k mm t N g1 k1 gC kC g3 k3 : Nat} {w : World} (hdr : A.drop = true) (hcr : A.create = (t : Int)) (hmm : k + 1 + mm = B.svcs.length) (h1 : N ≤ g1) (h2 : N < gC) (h3 : N < g3)
  (r1 : RowIs w 67 13 g1 (k + mm) k1 (svcsV ((B.svcs.set k x).take k ++ (B.svcs.set k x).drop (k + 1)))) (r2 : RowIs w 149 7 gC (B.cps.length + t) kC (cpsV (putN B A s L t))) (r3 : RowIs w 147 2 g3 B.bts.length k3 (btsV B.bts)) (hL : L.length = B.cps.length) :
  k + mm = (doneB B A s L k).svcs.length ∧ B.cps.length + t = (doneB B A s L k).cps.length ∧ BkRow w N g1 gC g3 k1 kC k3 (doneB B A s L k) := by
 have e1 : (doneB B A s L k).svcs = (B.svcs.set k x).take k ++ (B.svcs.set k x).drop (k + 1) := by
  show doneSvcs B A s k = _
  unfold doneSvcs
  rw [if_pos hdr, List.take_set_of_le (Nat.le_refl k), List.drop_set_of_lt (Nat.lt_succ_self k)]
 have e2 : (doneB B A s L k).cps = putN B A s L t := by
  show putN B A s L A.create.toNat = _
  rw [hcr, Int.toNat_natCast]
 have l1 : k + mm = (doneB B A s L k).svcs.length := by
  rw [e1, List.length_append, List.length_take, List.length_drop, List.length_set]
  omega
 have l2 : B.cps.length + t = (doneB B A s L k).cps.length := by rw [e2, putN_len, hL]
 refine ⟨l1, l2, ⟨by omega, by omega, by omega, ?_, ?_, r3⟩⟩
 ·rw [← l1, e1]; exact r1
 ·rw [← l2, e2]; exact r2
set_option maxRecDepth 100000 in
set_option maxHeartbeats 16000000 in
theorem l4_late {u0 u1 u5 u7 u8 u11 u12 u13 u14 u15 u16 u17 u18 u19 u20 u21 u22 u23 u24 u25 u26 u27 u28 u29 u30 u31 u32 u33 u34 u35 u36 u37 u38 u39 u40 u41 u42 u43 u44 u45 u46 u47 u48 u49 u50 u51 u52 u53 u54 u55 u56 u57 u58 u59 u60 u61 u62 u63 u64 u65 u66 u67 u68 u69 u70 u71 u72 u73 u74 u75 u76 u77 u78 u79 u80 u81 u82 u83 u84 u85 u86 u87 u88 u89 u90 u91 u92 u93 u94 u95 u96 u97 u98 u99 u100 u101 u102 u103 u104 u105 u106 u107 u108 u109 u110 u111 u112 u113 u114 u115 u116 u117 u118 u119 u120 u121 u122 u123 u124 u125 u126 u127 u128 u129 u130 u131 u132 u133 u134 u135 u136 u137 u138 u139 u140 u141 u142 u143 u144 u145 u146 u147 u148 u149 u150 u151 u152 u153 u154 u155 u156 u157 u158 u159 u160 u161 u162 u163 u164 u165 u166 u167 u168 u169 u170 u171 u172 u173 u174 u175 u176 u177 u178 u179 u180 u181 u182 u183 u184 u185 u186 u187 u188 u189 u190 u191 u192 u193 u194 u195 u196 u197 u198 u199 u200 u201 u202 u203 u204 u205 u206 u207 u208 u209 u210 u211 u212 u213 u214 u215 u216 u217 u218 u219 u220 u221 u222 u223 u224 u225 u226 u227 u228 u229 u230 u231 u232 u233 u234 u235 u236 u237 u238 u239 u240 u241 u242 u243 u244 u245 u246 u247 u248 u249 u250 u251 u252 u253 u254 u255 u256 u257 u258 u259 u260 u261 u262 u263 u264 u265 u266 u267 u268 u269 u270 u271 u272 u273 u274 u275 u276 u277 u278 u279 u280 u281 u282 u283 u284 u285 u286 u287 u288 u289 u290 u291 u292 u293 u294 u295 u296 u297 u298 u299 u300 u301 u302 : Value} (B : Bk) (A : Ac) (s : Svc) (L : List Cp) (n k b0 b1 b2 x9 g1 k1 g2 k2 g3 k3 N : Nat) (a1 a2 a3 : Option Addr) (c1 c2 c3 : Nat) (ae : Option Addr) (ce : Nat) (wS w : World) (hbS : Below N wS w) (HNC : Hid (A.create = (n : Int))) (hcr0 : 0 ≤ A.create) (hcr1 : A.create ≤ 20) (hsi : SvcIn s) (HAW : Hid (A.scale = true → 0 ≤ A.want ∧ A.want ≤ 10)) (hS : B.small) (hl8 : B.svcs.length ≤ 8) (hB : BkAt w a1 a2 a3 B)
  (HKS : Hid (B.svcs[k]? = some s)) (HKK : Hid (idxS B.svcs A.service = (k : Int))) (HLEN : Hid (L.length = B.cps.length)) (H0 : Hid (w.heap[b0]? = some (.cells #[.int .i64 B.now, .slice a1 B.svcs.length c1, .slice a2 B.cps.length c2, .slice a3 B.bts.length c3] 36 (0, 0)))) (H1 : Hid (w.heap[b1]? = some (.cells #[.string A.service, .int .i64 A.seen, .int .i64 A.create, .int .i64 A.want, .int .i64 A.cool, .bool A.scale, .slice ae A.ends.length ce, .bool A.drop] 42 (0, 0)))) (H2 : Hid (w.heap[b2]? = some (.cells #[.int .i64 0, .slice none 0 0, .slice none 0 0, .slice none 0 0] 36 (0, 0)))) (HX : Hid (w.heap[x9]? = some (.cells #[.int .i64 B.now, .slice (some ⟨g1, 0, none⟩) B.svcs.length k1, .slice (some ⟨g2, 0, none⟩) B.cps.length k2, .slice (some ⟨g3, 0, none⟩) B.bts.length k3] 36 (0, 0)))) (R1 : Hid (RowIs w 67 13 g1 B.svcs.length k1 (svcsV B.svcs))) (R2 : Hid (RowIs w 149 7 g2 B.cps.length k2 (cpsV L))) (R3 : Hid (RowIs w 147 2 g3 B.bts.length k3 (btsV B.bts)))
  (d01 : b1 ≠ x9) (d02 : b2 ≠ x9) (d03 : g1 ≠ x9) (d04 : g3 ≠ x9) (d05 : g2 ≠ g1) (d06 : g2 ≠ x9) (d07 : g2 ≠ b2) (d08 : b1 ≠ g1) (d09 : b2 ≠ g1) (d10 : x9 ≠ g1) (d11 : g3 ≠ g1) (d12 : g3 ≠ b2) (h2N : N ≤ b2) (hNx : N ≤ x9) (hNg1 : N < g1) (hNg2 : N < g2) (hNg3 : N < g3) {K : Act → World → Prop}
  (hK : ∀ a w', Code.wp Tryz.prog (cSnd (cSnd (cSnd (cSnd (cSnd (cSnd (cSnd (cSnd (cSnd (cSnd (cSnd ((Tryz.f40.body.getD .skip))))))))))))) (bodyPost Tryz.prog Tryz.f40 (fun e w' => LateN B A s L (.agg #[.int .i64 B.now, .slice a1 B.svcs.length c1, .slice a2 B.cps.length c2, .slice a3 B.bts.length c3]) N e w' ∧ Below N wS w')) a w' → K a w') :
  Code.wp Tryz.prog (cFst (cSnd (cSnd (cSnd (cSnd (cSnd (cSnd (cSnd (cSnd (cSnd (cSnd ((Tryz.f40.body.getD .skip))))))))))))) (Exit.then K (bodyPost Tryz.prog Tryz.f40 (fun e w' => LateN B A s L (.agg #[.int .i64 B.now, .slice a1 B.svcs.length c1, .slice a2 B.cps.length c2, .slice a3 B.bts.length c3]) N e w' ∧ Below N wS w'))) { tmps := #[u0, u1, .pointer (some ⟨b0, 0, none⟩), .pointer (some ⟨b1, 0, none⟩), .pointer (some ⟨b2, 0, none⟩), u5, .int .i64 (k : Int), u7, u8, .pointer (some ⟨x9, 0, none⟩), .int .i64 (B.now + 1), u11, u12, u13, u14, u15, u16, u17, u18, u19, u20, u21, u22, u23, u24, u25, u26, u27, u28, u29, u30, u31, u32, u33, u34, u35, u36, u37, u38, u39, u40, u41, u42, u43, u44, u45, u46, u47, u48, u49, u50, u51, u52, u53, u54, u55, u56, u57, u58, u59, u60, u61, u62, u63, u64, u65, u66, u67, u68, u69, u70, u71, u72, u73, u74, u75, u76, u77, u78, u79, u80, u81, u82, u83, u84, u85, u86, u87, u88, u89, u90, u91, u92, u93, u94, u95, u96, u97, u98, u99, u100, u101, u102, u103, u104, u105, u106, u107, u108, u109, u110, u111, u112, u113, u114, u115, u116, u117, u118, u119, u120, u121, u122, u123, u124, u125, u126, u127, u128, u129, u130, u131, u132, u133, u134, u135, u136, u137, u138, u139, u140, u141, u142, u143, u144, u145, u146, u147, u148, u149, u150, u151, u152, u153, u154, u155, u156, u157, u158, u159, u160, u161, u162, u163, u164, u165, u166, u167, u168, u169, u170, u171, u172, u173, u174, u175, u176, u177, u178, u179, u180, u181, u182, u183, u184, u185, u186, u187, u188, u189, u190, u191, u192, u193, u194, u195, u196, u197, u198, u199, u200, u201, u202, u203, u204, u205, u206, u207, u208, u209, u210, u211, u212, u213, u214, u215, u216, u217, u218, u219, u220, u221, u222, u223, u224, u225, u226, u227, u228, u229, u230, u231, u232, u233, u234, u235, u236, u237, u238, u239, u240, u241, u242, u243, u244, u245, u246, u247, u248, u249, u250, u251, u252, u253, u254, u255, u256, u257, u258, u259, u260, u261, u262, u263, u264, u265, u266, u267, u268, u269, u270, u271, u272, u273, u274, u275, u276, u277, u278, u279, u280, u281, u282, u283, u284, u285, u286, u287, u288, u289, u290, u291, u292, u293, u294, u295, u296, u297, u298, u299, u300, u301, u302], defers := [] } w := by
 have hNw' : N < w.heap.size := Nat.lt_trans hNg1 R1.out.lt
 have hNw : N ≤ w.heap.size := Nat.le_of_lt hNw'
 have hb0 := (Array.getElem?_eq_some_iff.1 H0.out).1
 have hb1 := (Array.getElem?_eq_some_iff.1 H1.out).1
 have hb2 := (Array.getElem?_eq_some_iff.1 H2.out).1
 have hx9 := (Array.getElem?_eq_some_iff.1 HX.out).1
 have hg1 := R1.out.lt
 have hg2 := R2.out.lt
 have hg3 := R3.out.lt
 have hbw : Below w.heap.size w w := Below.refl _ _
 have hks := HKS.out
 have hklt : k < B.svcs.length := (List.getElem?_eq_some_iff.1 hks).1
 have hsx := R1.out.svcAt hks
 unfold SvcAt at hsx
 obtain ⟨q0, q1, q2, q3, q4, q5, q6, q7, q8, q9, q10, q11, q12⟩ := hsx
 clear hks
 have x1 := blk_cell HX.out 1 rfl
 obtain ⟨w10, hw10⟩ : ∃ W, w.alloc (.cells #[.string s.name, .int .i64 s.version, .bool s.gone, .int .i64 s.image, .int .i64 s.want, .int .i64 s.down, .int .i64 s.over, .int .i64 s.next, .int .i64 s.per, .int .i64 s.least, .int .i64 s.most, .int .i64 s.load, .int .i64 s.cool] 67) = W := ⟨_, rfl⟩
 have hqa : Below w.heap.size w w10 := hw10 ▸ below_box w _
 have P10 : Hid (w10.heap[w.heap.size]? = some (.cells #[.string s.name, .int .i64 s.version, .bool s.gone, .int .i64 s.image, .int .i64 s.want, .int .i64 s.down, .int .i64 s.over, .int .i64 s.next, .int .i64 s.per, .int .i64 s.least, .int .i64 s.most, .int .i64 s.load, .int .i64 s.cool] 67 (0, 0))) := hw10 ▸ heap_alloc_new w _
 have H010 : Hid _ := blk_up hqa H0.out
 have H110 : Hid _ := blk_up hqa H1.out
 have H210 : Hid _ := blk_up hqa H2.out
 have HX10 : Hid _ := blk_up hqa HX.out
 have R110 : Hid (RowIs w10 67 13 g1 B.svcs.length k1 (svcsV B.svcs)) := R1.out.below hqa R1.out.lt
 have R210 : Hid (RowIs w10 149 7 g2 B.cps.length k2 (cpsV L)) := R2.out.below hqa R2.out.lt
 have R310 : Hid (RowIs w10 147 2 g3 B.bts.length k3 (btsV B.bts)) := R3.out.below hqa R3.out.lt
 have hbw10 : Below w.heap.size w w10 := hbw.trans (hqa.mono hbw.size)
 clear H0 H1 H2 HX R1 R2 R3 hbw
 clear hqa
 have e0 := blk_cell H010.out 0 rfl
 have e1 := blk_cell H010.out 1 rfl
 have e2 := blk_cell H010.out 2 rfl
 have e3 := blk_cell H010.out 3 rfl
 have f0 := blk_cell H110.out 0 rfl
 obtain ⟨N0, HN⟩ : ∃ N, Hid (N = cntB B A.service) := ⟨_, rfl⟩
 have hNu : N0.upTo B.cps.length := by rw [HN.out]; exact cntB_upTo _ _
 have hls := hS
 obtain ⟨hl1, hl2, hl3⟩ := hls
 have hKz : ∀ a w', Code.wp Tryz.prog (.seq _ _) (bodyPost Tryz.prog Tryz.f40 (fun e w' => LateN B A s L (.agg #[.int .i64 B.now, .slice a1 B.svcs.length c1, .slice a2 B.cps.length c2, .slice a3 B.bts.length c3]) N e w' ∧ Below N wS w')) a w' → K a w' := hK
 clear hK
 show Code.wp Tryz.prog (.region 28 _ _) _ _ _
 dsimp only
 go_wp2_with fail
 clear hw10 q0 q1 q2 q3 q4 q5 q6 q7 q8 q9 q10 q11 q12 x1 e0 e1 e2 e3 f0
 refine (l2Count_any B A.service a1 a2 a3 c1 c2 c3 _ hS (hB.below hbw10) N0 HN).mono ?_
 rintro e w11 ⟨rfl, hqb⟩
 have H011 : Hid _ := blk_up hqb H010.out
 have H111 : Hid _ := blk_up hqb H110.out
 have H211 : Hid _ := blk_up hqb H210.out
 have HX11 : Hid _ := blk_up hqb HX10.out
 have P11 : Hid _ := blk_up hqb P10.out
 have R111 : Hid (RowIs w11 67 13 g1 B.svcs.length k1 (svcsV B.svcs)) := R110.out.below hqb R110.out.lt
 have R211 : Hid (RowIs w11 149 7 g2 B.cps.length k2 (cpsV L)) := R210.out.below hqb R210.out.lt
 have R311 : Hid (RowIs w11 147 2 g3 B.bts.length k3 (btsV B.bts)) := R310.out.below hqb R310.out.lt
 have hbw11 : Below w.heap.size w w11 := hbw10.trans (hqb.mono hbw10.size)
 clear H010 H110 H210 HX10 P10 R110 R210 R310 hbw10
 obtain ⟨w12, hw12⟩ : ∃ W, w11.alloc (.cells #[.int .i64 N0.live, .int .i64 N0.ready, .int .i64 N0.old, .int .i64 N0.failed, .int .i64 N0.ending] 158) = W := ⟨_, rfl⟩
 have hqc : Below w11.heap.size w11 w12 := hw12 ▸ below_box w11 _
 have NB12 : Hid (w12.heap[w11.heap.size]? = some (.cells #[.int .i64 N0.live, .int .i64 N0.ready, .int .i64 N0.old, .int .i64 N0.failed, .int .i64 N0.ending] 158 (0, 0))) := hw12 ▸ heap_alloc_new w11 _
 have H012 : Hid _ := blk_up hqc H011.out
 have H112 : Hid _ := blk_up hqc H111.out
 have H212 : Hid _ := blk_up hqc H211.out
 have HX12 : Hid _ := blk_up hqc HX11.out
 have P12 : Hid _ := blk_up hqc P11.out
 have R112 : Hid (RowIs w12 67 13 g1 B.svcs.length k1 (svcsV B.svcs)) := R111.out.below hqc R111.out.lt
 have R212 : Hid (RowIs w12 149 7 g2 B.cps.length k2 (cpsV L)) := R211.out.below hqc R211.out.lt
 have R312 : Hid (RowIs w12 147 2 g3 B.bts.length k3 (btsV B.bts)) := R311.out.below hqc R311.out.lt
 have hbw12 : Below w.heap.size w w12 := hbw11.trans (hqc.mono hbw11.size)
 clear H011 H111 H211 HX11 P11 R111 R211 R311 hbw11
 go_upto_region 30 with fail
 clear hw12 hqc hqb
 rename_i Ka hKa Kb hKb
 have HLT : Hid (lateOf B A s L = _) := late_cases B A s L
 rw [← HN.out] at HLT
 refine l4_chk30 b0 b1 b2 x9 w.heap.size w11.heap.size N B.now a1 a2 a3 B.svcs.length c1 B.cps.length c2 B.bts.length c3 A.service A.create A.want A.cool A.scale A.drop _ _ s N0 w12 h2N H012 H112 H212 P12 NB12 (cnt_wrap hNu hl2) hKb ?_ ?_
 ·intro w' hc hb'
  exact ⟨.inl ⟨6, rfl, by decide, by rw [HLT.out, hc]; rfl⟩, hbS.trans ((hbw12.mono hNw).trans hb')⟩
 intro c142 c143 c144 c145 c146 c147 c148 c149 c150 c151 c152 c153 c154 c155 c156 w13 hc30 hq13
 have H013 : Hid _ := blk_up hq13 H012.out
 have H113 : Hid _ := blk_up hq13 H112.out
 have H213 : Hid _ := blk_up hq13 H212.out
 have HX13 : Hid _ := blk_up hq13 HX12.out
 have P13 : Hid _ := blk_up hq13 P12.out
 have R113 : Hid (RowIs w13 67 13 g1 B.svcs.length k1 (svcsV B.svcs)) := R112.out.below hq13 R112.out.lt
 have R213 : Hid (RowIs w13 149 7 g2 B.cps.length k2 (cpsV L)) := R212.out.below hq13 R212.out.lt
 have R313 : Hid (RowIs w13 147 2 g3 B.bts.length k3 (btsV B.bts)) := R312.out.below hq13 R312.out.lt
 have hbw13 : Below w.heap.size w w13 := hbw12.trans (hq13.mono hbw12.size)
 clear H012 H112 H212 HX12 P12 R112 R212 R312 hbw12
 rw [hc30] at HLT
 clear hc30 hq13 NB12
 refine hKa _ _ ?_
 go_upto_region 32 with fail
 rename_i Kc hKc Kd hKd
 refine l4_scale b1 w.heap.size _ _ _ _ _ A.want A.cool A.scale s w13 (Nat.ne_of_lt hb1) H113 P13 hKd ?_
 intro c158 c159 c160 c161 c162 c163 c164 c165 w14 P14 on14
 have H014 : Hid _ := (on14.other _ (Nat.ne_of_lt hb0)).trans H013.out
 have H114 : Hid _ := (on14.other _ (Nat.ne_of_lt hb1)).trans H113.out
 have H214 : Hid _ := (on14.other _ (Nat.ne_of_lt hb2)).trans H213.out
 have HX14 : Hid _ := (on14.other _ (Nat.ne_of_lt hx9)).trans HX13.out
 have R114 : Hid (RowIs w14 67 13 g1 B.svcs.length k1 (svcsV B.svcs)) := R113.out.blk (on14.other _ (Nat.ne_of_lt hg1))
 have R214 : Hid (RowIs w14 149 7 g2 B.cps.length k2 (cpsV L)) := R213.out.blk (on14.other _ (Nat.ne_of_lt hg2))
 have R314 : Hid (RowIs w14 147 2 g3 B.bts.length k3 (btsV B.bts)) := R313.out.blk (on14.other _ (Nat.ne_of_lt hg3))
 have hbw14 : Below w.heap.size w w14 := hbw13.trans on14.below
 clear on14 P13 hbw13 H013 H113 H213 HX13 R113 R213 R313
 refine hKc _ _ ?_
 go_upto_region 35 with fail
 rename_i Ke hKe Kf hKf
 obtain ⟨N2, HN2⟩ : ∃ q, Hid (q = cntB { B with cps := L } A.service) := ⟨_, rfl⟩
 have hNu2 : N2.upTo B.cps.length := by rw [HN2.out, ← HLEN.out]; exact cntB_upTo _ _
 rw [← HN2.out] at HLT
 have hSX : ({ B with cps := L } : Bk).small := ⟨hl1, by show L.length ≤ _; rw [HLEN.out]; exact hl2, hl3⟩
 have HCT : Hid (∀ W : World, BkAt W (some ⟨g1, 0, none⟩) (some ⟨g2, 0, none⟩) (some ⟨g3, 0, none⟩) { B with cps := L } → Calls Tryz.prog 95 #[.agg #[.int .i64 B.now, .slice (some ⟨g1, 0, none⟩) B.svcs.length k1, .slice (some ⟨g2, 0, none⟩) B.cps.length k2, .slice (some ⟨g3, 0, none⟩) B.bts.length k3], .string A.service] W fun e w' => e = .returned (.agg #[.int .i64 N2.live, .int .i64 N2.ready, .int .i64 N2.old, .int .i64 N2.failed, .int .i64 N2.ending]) ∧ Below W.heap.size W w') := fun W h => by
  have h2 := l2Count_any { B with cps := L } A.service (some ⟨g1, 0, none⟩) (some ⟨g2, 0, none⟩) (some ⟨g3, 0, none⟩) k1 k2 k3 W hSX h N2 HN2
  rw [show ({ B with cps := L } : Bk).cps.length = B.cps.length from HLEN.out] at h2
  exact h2
 have HBX : Hid (BkAt w14 (some ⟨g1, 0, none⟩) (some ⟨g2, 0, none⟩) (some ⟨g3, 0, none⟩) { B with cps := L }) := ⟨R114.out.slS, R214.out.slC, R314.out.slB⟩
 refine l4_chk35 b0 b1 b2 x9 w.heap.size w11.heap.size N B.now a1 a2 a3 B.svcs.length c1 B.cps.length c2 B.bts.length c3 A.service A.create A.want A.cool A.scale A.drop _ _ (scaleV A.scale A.want A.cool s) N2 w14 h2N H014 H114 H214 P14 B.now (some ⟨g1, 0, none⟩) (some ⟨g2, 0, none⟩) (some ⟨g3, 0, none⟩) B.svcs.length k1 B.cps.length k2 B.bts.length k3 HX14 { B with cps := L } HBX HCT (wrap_addN hNu2.1 hNu2.2.1 hl2 hcr0 hcr1) (scale_wrap hsi HAW) hKf ?_ ?_
 ·intro w' hc hb'
  exact ⟨.inl ⟨6, rfl, by decide, by rw [HLT.out, hc]; rfl⟩, hbS.trans ((hbw14.mono hNw).trans hb')⟩
 intro c166 c167 c168 c169 c170 c171 c172 c173 c174 c175 c176 c177 c178 c179 c180 c181 c182 c183 c184 c185 c186 c187 c188 w15 hc35 hq15
 clear HBX HCT
 have H015 : Hid _ := blk_up hq15 H014.out
 have H115 : Hid _ := blk_up hq15 H114.out
 have H215 : Hid _ := blk_up hq15 H214.out
 have HX15 : Hid _ := blk_up hq15 HX14.out
 have P15 : Hid _ := blk_up hq15 P14.out
 have R115 : Hid (RowIs w15 67 13 g1 B.svcs.length k1 (svcsV B.svcs)) := R114.out.below hq15 R114.out.lt
 have R215 : Hid (RowIs w15 149 7 g2 B.cps.length k2 (cpsV L)) := R214.out.below hq15 R214.out.lt
 have R315 : Hid (RowIs w15 147 2 g3 B.bts.length k3 (btsV B.bts)) := R314.out.below hq15 R314.out.lt
 have hbw15 : Below w.heap.size w w15 := hbw14.trans (hq15.mono hbw14.size)
 clear H014 H114 H214 HX14 P14 R114 R214 R314 hbw14
 rw [hc35] at HLT
 clear hc35 hq15
 refine hKe _ _ ?_
 go_upto_region 37 with fail
 rename_i Kg hKg Kh hKh
 refine l4_chk37 b0 b1 b2 x9 w.heap.size w11.heap.size N B.now a1 a2 a3 B.svcs.length c1 B.cps.length c2 B.bts.length c3 A.service A.create A.want A.cool A.scale A.drop _ _ (scaleV A.scale A.want A.cool s) N2 w15 h2N H015 H115 H215 P15 hKh ?_ ?_
 ·intro w' hc hb'
  exact ⟨.inl ⟨6, rfl, by decide, by rw [HLT.out, hc]; rfl⟩, hbS.trans ((hbw15.mono hNw).trans hb')⟩
 intro c190 c191 c192 c193 c194 c195 c196 c197 c198 c199 c200 c201 c202 c203 c204 c205 c206 w16 hc37 hq16
 have H016 : Hid _ := blk_up hq16 H015.out
 have H116 : Hid _ := blk_up hq16 H115.out
 have H216 : Hid _ := blk_up hq16 H215.out
 have HX16 : Hid _ := blk_up hq16 HX15.out
 have P16 : Hid _ := blk_up hq16 P15.out
 have R116 : Hid (RowIs w16 67 13 g1 B.svcs.length k1 (svcsV B.svcs)) := R115.out.below hq16 R115.out.lt
 have R216 : Hid (RowIs w16 149 7 g2 B.cps.length k2 (cpsV L)) := R215.out.below hq16 R215.out.lt
 have R316 : Hid (RowIs w16 147 2 g3 B.bts.length k3 (btsV B.bts)) := R315.out.below hq16 R315.out.lt
 have hbw16 : Below w.heap.size w w16 := hbw15.trans (hq16.mono hbw15.size)
 clear H015 H115 H215 HX15 P15 R115 R215 R315 hbw15
 rw [hc37] at HLT
 clear hc37 hq16
 refine hKg _ _ ?_
 go_upto_region 39 with fail
 rename_i Ki hKi Kj hKj
 refine l4_chk39 b0 b1 b2 x9 w.heap.size w11.heap.size N B.now a1 a2 a3 B.svcs.length c1 B.cps.length c2 B.bts.length c3 A.service A.create A.want A.cool A.scale A.drop _ _ (scaleV A.scale A.want A.cool s) N2 w16 h2N H016 H116 H216 P16 (wrap_addL hl2 hcr0 hcr1) (next_wrap hsi hcr0 hcr1) hKj ?_ ?_
 ·intro w' hc hb'
  exact ⟨.inl ⟨7, rfl, by decide, by rw [HLT.out, hc]; rfl⟩, hbS.trans ((hbw16.mono hNw).trans hb')⟩
 intro c208 c209 c210 c211 c212 c213 c214 c215 c216 c217 c218 c219 c220 c221 c222 c223 c224 c225 c226 c227 w17 hc39 hq17
 have H017 : Hid _ := blk_up hq17 H016.out
 have H117 : Hid _ := blk_up hq17 H116.out
 have H217 : Hid _ := blk_up hq17 H216.out
 have HX17 : Hid _ := blk_up hq17 HX16.out
 have P17 : Hid _ := blk_up hq17 P16.out
 have R117 : Hid (RowIs w17 67 13 g1 B.svcs.length k1 (svcsV B.svcs)) := R116.out.below hq17 R116.out.lt
 have R217 : Hid (RowIs w17 149 7 g2 B.cps.length k2 (cpsV L)) := R216.out.below hq17 R216.out.lt
 have R317 : Hid (RowIs w17 147 2 g3 B.bts.length k3 (btsV B.bts)) := R316.out.below hq17 R316.out.lt
 have hbw17 : Below w.heap.size w w17 := hbw16.trans (hq17.mono hbw16.size)
 clear H016 H116 H216 HX16 P16 R116 R216 R316 hbw16
 have HL0 : Hid (lateOf B A s L = 0) := by unfold Hid; rw [HLT.out, hc39]; rfl
 have hqn : B.cps.length + n ≤ 200 := room_n HNC.out hc39
 clear hq17 HLT hc39
 refine hKi _ _ ?_
 go_upto_region 41 with fail
 rename_i Kk hKk Kl hKl
 refine l4_make b1 x9 w.heap.size n B.cps.length k2 g2 A.service A.create B.now (B.now + 1) _ _ _ _ _ _ _ _ L (scaleV A.scale A.want A.cool s) w17 HNC hcr1 HLEN hqn (next_0 hsi) (next_1 hsi) H117 HX17 P17 R217 d01 (Nat.ne_of_lt hb1) (Nat.ne_of_lt hx9) hKl hKk ?_
 intro c15 c16 c17 c229 c230 c231 c232 c233 c234 c235 c236 c237 c238 c239 c240 c241 c242 c243 c244 c245 c246 c247 c248 c249 c250 c251 c252 c253 c254 c255 c256 c257 c258 c259 c260 c261 c262 c263 c264 c265 c266 c267 c268 c269 c270 c271 c272 c273 c274 c275 c276 c277 gC kC w18 hgC RC18 HX18 P18 hkp
 have hz17 := hbw17.size
 have H118 : Hid _ := (hkp.2 _ (Nat.lt_of_lt_of_le hb1 hz17) d01 (Nat.ne_of_lt hb1)).trans H117.out
 have H218 : Hid _ := (hkp.2 _ (Nat.lt_of_lt_of_le hb2 hz17) d02 (Nat.ne_of_lt hb2)).trans H217.out
 have R118 : Hid (RowIs w18 67 13 g1 B.svcs.length k1 (svcsV B.svcs)) := R117.out.blk (hkp.2 _ (Nat.lt_of_lt_of_le hg1 hz17) d03 (Nat.ne_of_lt hg1))
 have R318 : Hid (RowIs w18 147 2 g3 B.bts.length k3 (btsV B.bts)) := R317.out.blk (hkp.2 _ (Nat.lt_of_lt_of_le hg3 hz17) d04 (Nat.ne_of_lt hg3))
 have hbw18 : Below N w w18 := below_kp (hbw17.mono hNw) hkp hNx hNw (Nat.le_trans hNw hz17)
 have hgCN : N < gC := gc_n hgC hNg2 (Nat.lt_of_lt_of_le hNw' hz17)
 have hgC1 : gC ≠ g1 := gc_ne hgC d05 (Nat.lt_of_lt_of_le hg1 hz17)
 have hgCx : gC ≠ x9 := gc_ne hgC d06 (Nat.lt_of_lt_of_le hx9 hz17)
 have hgC2 : gC ≠ b2 := gc_ne hgC d07 (Nat.lt_of_lt_of_le hb2 hz17)
 have hgCv : gC ≠ w.heap.size := gc_v hgC hg2 (Nat.lt_of_lt_of_le (Array.getElem?_eq_some_iff.1 P17.out).1 (Nat.le_refl _))
 rw [putM_eq] at RC18
 cases hdr : A.drop
 case false =>
  have H1d : Hid (w18.heap[b1]? = some (.cells #[.string A.service, .int .i64 A.seen, .int .i64 A.create, .int .i64 A.want, .int .i64 A.cool, .bool A.scale, .slice ae A.ends.length ce, .bool false] 42 (0, 0))) := by have h := H118.out; rw [hdr] at h; exact h
  refine l4_exit_f b1 b2 x9 w.heap.size k g1 k1 gC (B.cps.length + n) kC g3 B.bts.length k3 N B.now (B.now + 1) _ _ _ _ _ _ _ { (scaleV A.scale A.want A.cool s) with next := (scaleV A.scale A.want A.cool s).next + (n : Int) } B.svcs _ _ w18 hklt H1d H218 HX18 P18 R118 RC18 R318 ⟨Nat.ne_of_lt hb1, Nat.ne_of_lt hb2, Nat.ne_of_lt hx9, Nat.ne_of_lt hg1, hgCv, Nat.ne_of_lt hg3⟩ ⟨d08, d09, d10, hgC1, d11⟩ ⟨d02, hgCx, d04, hgC2, d12⟩ ⟨hNw, Nat.le_of_lt hNg1, hNx, h2N⟩ ?_
  intro w19 RD RC R3 hb19
  rw [done_eq HNC.out] at RD
  obtain ⟨l1, l2, hrow⟩ := done_row (s := s) (L := L) hdr HNC.out hNg1 hgCN hNg3 RD.out RC.out R3.out HLEN.out
  exact ⟨.inr ⟨k, g1, _, k1, gC, _, kC, g3, k3, rfl, HL0.out, HKS.out, HKK.out, l1, l2, hrow⟩, hbS.trans (hbw18.trans hb19)⟩
 case true =>
  have H1d : Hid (w18.heap[b1]? = some (.cells #[.string A.service, .int .i64 A.seen, .int .i64 A.create, .int .i64 A.want, .int .i64 A.cool, .bool A.scale, .slice ae A.ends.length ce, .bool true] 42 (0, 0))) := by have h := H118.out; rw [hdr] at h; exact h
  refine l4_exit_t b1 b2 x9 w.heap.size k g1 k1 gC (B.cps.length + n) kC g3 B.bts.length k3 N B.now (B.now + 1) _ _ _ _ _ _ _ { (scaleV A.scale A.want A.cool s) with next := (scaleV A.scale A.want A.cool s).next + (n : Int) } B.svcs _ _ w18 hklt hl8 H1d H218 HX18 P18 R118 RC18 R318 ⟨Nat.ne_of_lt hb1, Nat.ne_of_lt hb2, Nat.ne_of_lt hx9, Nat.ne_of_lt hg1, hgCv, Nat.ne_of_lt hg3⟩ ⟨d08, d09, d10, hgC1, d11⟩ ⟨d02, hgCx, d04, hgC2, d12⟩ ⟨hNw, Nat.le_of_lt hNg1, hNx, h2N⟩ ?_
  intro gN capN mm w19 hmm hNgN RN RC R3 hb19
  obtain ⟨l1, l2, hrow⟩ := drop_row (s := s) (L := L) hdr HNC.out hmm hNgN hgCN hNg3 RN.out RC.out R3.out HLEN.out
  exact ⟨.inr ⟨k, gN, _, capN, gC, _, kC, g3, k3, rfl, HL0.out, HKS.out, HKK.out, l1, l2, hrow⟩, hbS.trans (hbw18.trans hb19)⟩
end Go.Proofs.YtbceafpodamnfabGreatDoor
