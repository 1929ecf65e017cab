/-
  My own: Om, On.
-/
import Derived.Test.YtbceafpodamnfabGreatDoorG32
import Derived.Test.YtbceafpodamnfabGreatDoorG33
set_option linter.unusedVariables false
set_option linter.unusedSimpArgs false
namespace Go.Proofs.YtbceafpodamnfabGreatDoor
open Go.RowKit Go.Sort
def notPast (sv : ByteArray) (c : Cp) : Bool := Op.bytesLess c.service.toList sv.toList || c.service.toList == sv.toList
def behindI (l : List Cp) (sv : ByteArray) : Nat := (l.takeWhile (notPast sv)).length
theorem behind_at {l : List Cp} {sv : ByteArray} {j : Nat} {c : Cp} (hc : l[j]? = some c) (h : notPast sv c = false) (hall : ∀ i d, i < j → l[i]? = some d → notPast sv d = true) : behindI l sv = j := by
 unfold behindI
 induction l generalizing j with
 | nil => simp at hc
 | cons x l ih =>
  cases j with
  | zero =>
   obtain rfl := Option.some.inj hc
   rw [List.takeWhile_cons_of_neg (by rw [h]; decide)]
   rfl
  | succ j =>
   rw [List.takeWhile_cons_of_pos (hall 0 x (by omega) rfl), List.length_cons, ih (by simpa using hc) fun i d hi hd => hall (i + 1) d (by omega) (by simpa using hd)]
theorem behind_end {l : List Cp} {sv : ByteArray} (hall : ∀ i d, i < l.length → l[i]? = some d → notPast sv d = true) : behindI l sv = l.length := by
 unfold behindI
 congr 1
 induction l with
 | nil => rfl
 | cons x l ih => rw [List.takeWhile_cons_of_pos (hall 0 x (by simp) rfl), ih fun i d hi hd => hall (i + 1) d (by simp; omega) (by simpa using hd)]
set_option maxRecDepth 100000 in
set_option maxHeartbeats 4000000 in
theorem behindCopies_any (X : Bk) (sv : ByteArray) (a1 a2 a3 : Option Addr) (c1 c2 c3 n1 n2 n3 : Nat) (w : World) (HN2 : Hid (X.cps.length = n2)) (hl2 : n2 ≤ 1048576) (hC : SlC w a2 X.cps) :
  Calls Tryz.prog 227 #[.agg #[.int .i64 X.now, .slice a1 n1 c1, .slice a2 n2 c2, .slice a3 n3 c3], .string sv] w fun e w' => e = .returned (.int .i64 (behindI X.cps sv : Nat)) ∧ Below w.heap.size w w' := by
 have T0 : Hid _ := heap_alloc_new w (.cells #[.int .i64 X.now, .slice a1 n1 c1, .slice a2 n2 c2, .slice a3 n3 c3] 36)
 have hb0 := below_box w (.cells #[.int .i64 X.now, .slice a1 n1 c1, .slice a2 n2 c2, .slice a3 n3 c3] 36)
 obtain ⟨W0, hW0⟩ : ∃ W, w.alloc (.cells #[.int .i64 X.now, .slice a1 n1 c1, .slice a2 n2 c2, .slice a3 n3 c3] 36) = W := ⟨_, rfl⟩
 rw [hW0] at T0 hb0
 have hN0 : w.heap.size < W0.heap.size := (Array.getElem?_eq_some_iff.1 T0.out).1
 have e2 := blk_cell T0.out 2 rfl
 go_enter Tryz.func227, Tryz.ntmps227
 go_wp2
 clear e2 hW0
 go_loopw [10] (fun iv wr => ∃ j : Nat, j ≤ n2 ∧ iv = .int .i64 j ∧ Below w.heap.size w wr ∧ Hid (wr.heap[w.heap.size]? = some (.cells #[.int .i64 X.now, .slice a1 n1 c1, .slice a2 n2 c2, .slice a3 n3 c3] 36 (0, 0))) ∧ Hid (∀ i d, i < j → X.cps[i]? = some d → notPast sv d = true)) (fun iv _ => n2 - (intOf iv).toNat)
 case atStart => exact ⟨0, Nat.zero_le _, rfl, hb0, T0, fun i d h => absurd h (Nat.not_lt_zero _)⟩
 case round =>
  obtain ⟨j, hj, rfl, hb, hbox, HALL⟩ := hrel
  clear T0 hb0
  by_cases hlj : j < n2
  ·obtain ⟨c, hc⟩ : ∃ x, X.cps[j]? = some x := ⟨X.cps[j]'(by rw [HN2.out]; exact hlj), by simp⟩
   obtain ⟨b, off, ea, hbs, hat⟩ := hC (by intro h; rw [h] at hc; simp at hc)
   subst ea
   have hq := (hat j c hc).below hb hbs
   unfold CpAt at hq
   obtain ⟨q0, q1, q2, q3, q4, q5, q6⟩ := hq
   obtain ⟨lb, HLB⟩ : ∃ x, Hid (Op.bytesLess c.service.toList sv.toList = x) := ⟨_, rfl⟩
   obtain ⟨eb, HEB⟩ : ∃ x, Hid ((c.service.toList == sv.toList) = x) := ⟨_, rfl⟩
   have HCJ : Hid _ := hc
   have hba := below_box wr (.cells (#[.string c.service, .int .i64 c.number, .int .i64 c.version, .int .i64 c.image, .int .i64 c.state, .bool c.ending, .string c.berth] : Array Value) 149)
   have hbb := hb.trans (hba.mono hb.size)
   have HBX : Hid _ := below_blk hba hbox.out (Array.getElem?_eq_some_iff.1 hbox.out).1
   clear hat hc
   cases lb
   rotate_left
   ·have HNP : Hid (notPast sv c = true) := by unfold Hid notPast; rw [HLB.out]; rfl
    have hlb := HLB.out
    go_wp2
    go_roundw
    case rel => exact ⟨j + 1, hlj, by go_num, hbb, HBX, fun i d hi hd => by
     by_cases hij : i = j
     ·subst hij
      have := HCJ.out
      rw [hd] at this
      obtain rfl := Option.some.inj this
      exact HNP.out
     ·exact HALL.out i d (by omega) hd⟩
    case measure => simp [intOf]; omega
   cases eb
   rotate_left
   ·have HNP : Hid (notPast sv c = true) := by unfold Hid notPast; rw [HLB.out, HEB.out]; rfl
    have hlb := HLB.out
    have heb := HEB.out
    go_wp2
    go_roundw
    case rel => exact ⟨j + 1, hlj, by go_num, hbb, HBX, fun i d hi hd => by
     by_cases hij : i = j
     ·subst hij
      have := HCJ.out
      rw [hd] at this
      obtain rfl := Option.some.inj this
      exact HNP.out
     ·exact HALL.out i d (by omega) hd⟩
    case measure => simp [intOf]; omega
   ·have HNP : Hid (notPast sv c = false) := by unfold Hid notPast; rw [HLB.out, HEB.out]; rfl
    have hlb := HLB.out
    have heb := HEB.out
    go_wp2
    go_ret
    have hO : behindI X.cps sv = j := behind_at HCJ.out HNP.out HALL.out
    exact ⟨by rw [hO]; rfl, hbb⟩
  ·have hO : behindI X.cps sv = n2 := by
    rw [← HN2.out]
    exact behind_end fun i d hi hd => HALL.out i d (by have := HN2.out; omega) hd
   have HO : Hid _ := hO
   have e2 := blk_cell hbox.out 2 rfl
   clear hO
   go_wp2
   go_ret
   exact ⟨by rw [HO.out]; rfl, hb⟩
end Go.Proofs.YtbceafpodamnfabGreatDoor

namespace Go.Proofs.YtbceafpodamnfabGreatDoor
open Go.RowKit Go.Sort
def insN (l : List Cp) (p : Nat) (f : Nat → Cp) (t : Nat) : List Cp := l.take p ++ (List.range t).map f ++ l.drop p
theorem insN_zero (l : List Cp) (p : Nat) (f : Nat → Cp) : insN l p f 0 = l := by simp [insN]
theorem insN_len {l : List Cp} {p : Nat} (f : Nat → Cp) (t : Nat) (hp : p ≤ l.length) : (insN l p f t).length = l.length + t := by
 simp [insN]
 omega
theorem insN_succ {l : List Cp} {p : Nat} (f : Nat → Cp) (t : Nat) (hp : p ≤ l.length) : (insN l p f t).take (p + t) ++ f t :: (insN l p f t).drop (p + t) = insN l p f (t + 1) := by
 have hA : (l.take p ++ (List.range t).map f).length = p + t := by simp; omega
 unfold insN
 rw [← hA, List.take_left, List.drop_left, List.range_succ]
 simp
theorem behind_le (l : List Cp) (sv : ByteArray) : behindI l sv ≤ l.length := by
 unfold behindI
 exact (List.takeWhile_sublist _).length_le
def mkO (X : Bk) (s : Svc) (t : Nat) : Cp := ⟨s.name, s.next + (t : Int), X.now, s.image, 1, false, ⟨#[]⟩⟩
def KeepO (ao : Option Addr) (w w' : World) : Prop := w.heap.size ≤ w'.heap.size ∧ ∀ q, q < w.heap.size → ao ≠ some ⟨q, 0, none⟩ → w'.heap[q]? = w.heap[q]?
theorem KeepO.refl (ao : Option Addr) (w : World) : KeepO ao w w := ⟨Nat.le_refl _, fun _ _ _ => rfl⟩
theorem KeepO.trans {ao : Option Addr} {w w' w'' : World} (h : KeepO ao w w') (h' : KeepO ao w' w'') : KeepO ao w w'' :=
 ⟨Nat.le_trans h.1 h'.1, fun q hq hne => (h'.2 q (Nat.lt_of_lt_of_le hq h.1) hne).trans (h.2 q hq hne)⟩
theorem KeepO.of_below {ao : Option Addr} {w w' : World} (h : Below w.heap.size w w') : KeepO ao w w' := ⟨h.size, fun q hq _ => h.block q hq⟩
theorem KeepO.toT {ao : Option Addr} {w w' : World} {N : Nat} {e : TypeId} {size n cap : Nat} {xs : List Value} (h : KeepO ao w w') (hr : RowN w N e size ao n cap xs) : KeepT e w w' :=
 ⟨h.1, fun q hq hne => h.2 q hq fun ea => by
  rcases hr with ⟨h0, _⟩ | ⟨g, h1, _, _, _, cur, hc, _⟩
  ·rw [h0] at ea; cases ea
  ·rw [h1] at ea
   injection ea with ea
   injection ea with ea
   subst ea
   exact hne _ _ hc⟩
theorem rowN_ne {w : World} {N : Nat} {e t : TypeId} {size n cap : Nat} {ao : Option Addr} {xs : List Value} {q : Nat} {cs : Array Value} {fr : Nat × Nat} (hr : RowN w N e size ao n cap xs) (hq : w.heap[q]? = some (.cells cs t fr)) (ht : t ≠ e) : ao ≠ some ⟨q, 0, none⟩ := fun ea => by
 rcases hr with ⟨h0, _⟩ | ⟨g, h1, _, _, _, cur, hc, _⟩
 ·rw [h0] at ea; cases ea
 ·rw [h1] at ea
  injection ea with ea
  injection ea with ea
  subst ea
  rw [hc] at hq
  injection hq with hq
  injection hq with _ hq
  exact ht hq.symm
theorem rowN_old {w : World} {N : Nat} {e : TypeId} {size n cap : Nat} {ao : Option Addr} {xs : List Value} {q : Nat} (hr : RowN w N e size ao n cap xs) (hq : w.heap.size ≤ q) : ao ≠ some ⟨q, 0, none⟩ := fun ea => by
 rcases hr with ⟨h0, _⟩ | ⟨g, h1, _, h3⟩
 ·rw [h0] at ea; cases ea
 ·rw [h1] at ea
  injection ea with ea
  injection ea with ea
  subst ea
  exact absurd h3.lt (by omega)
theorem Tryz.infosCpsO : (Tryz.prog.info? 33).map (·.size) = some 1 := by kernel_rfl
set_option maxRecDepth 100000 in
set_option maxHeartbeats 8000000 in
theorem create_any (A : Ac) (ae : Option Addr) (ce : Nat) (X : Bk) (s : Svc) (N g k crn : Nat) (I : List Int) (w : World) (hSm : X.small) (hN : N ≤ w.heap.size) (hk : X.svcs[k]? = some s) (HCR : Hid (A.create = (crn : Int))) (hcr : crn ≤ 20) (hn0 : 1 ≤ s.next) (hn1 : s.next ≤ 1000000) (hroom : X.cps.length + crn ≤ 200) (hS : WkAt w N g A ae ce X k I) :
  Calls Tryz.prog 177 #[.pointer (some ⟨g, 0, none⟩)] w fun e w' => e = .returned (.tuple #[]) ∧ WkAt w' N g A ae ce { X with svcs := X.svcs.set k { s with next := s.next + A.create }, cps := insN X.cps (behindI X.cps s.name) (mkO X s) crn } k I ∧ Below N w w' := by
 obtain ⟨hl1, hl2, _⟩ := hSm
 obtain ⟨b1, b2, b3, d1, d2, d3, ve, hNg, hg, hbk, hei⟩ := hS
 have hkl : k < X.svcs.length := (List.getElem?_eq_some_iff.1 hk).1
 obtain ⟨g1, e1, hN1, hr1⟩ := hbk.svcs.some (by omega)
 subst e1
 obtain ⟨n1, HN1⟩ : ∃ n, Hid (X.svcs.length = n) := ⟨_, rfl⟩
 obtain ⟨n2, HN2⟩ : ∃ n, Hid (X.cps.length = n) := ⟨_, rfl⟩
 obtain ⟨n3, HN3⟩ : ∃ n, Hid (X.bts.length = n) := ⟨_, rfl⟩
 obtain ⟨ne, HNE⟩ : ∃ n, Hid (I.length = n) := ⟨_, rfl⟩
 obtain ⟨r2, r3⟩ : RowN w N 149 7 b2 X.cps.length d2 (cpsV X.cps) ∧ RowN w N 147 2 b3 X.bts.length d3 (btsV X.bts) := ⟨hbk.cps, hbk.bts⟩
 clear hbk
 rw [HN1.out] at hr1 hg hkl hl1
 rw [HN2.out] at r2 hg
 rw [HN3.out] at r3 hg
 rw [HNE.out] at hei
 have HK : Hid _ := hk
 have HG : Hid _ := hg
 have HR1 : Hid (RowIs w 67 13 g1 n1 d1 (svcsV X.svcs)) := hr1
 have HR2 := hidRowN r2
 have HR3 := hidRowN r3
 have HEI : Hid (w.ownsRow N 3 1 ve ne (intsV I)) := hei
 have hlt : g < w.heap.size := (Array.getElem?_eq_some_iff.1 hg).1
 have hlt1 : g1 < w.heap.size := hr1.lt
 clear hk hg hr1 r2 r3 hei
 rw [HN2.out] at hl2 hroom
 have HSV : Hid (SvcAt w g1 (k * 13) s) := HR1.out.svcAt HK.out
 obtain ⟨p, HP⟩ : ∃ p, Hid (behindI X.cps s.name = p) := ⟨_, rfl⟩
 have hp : p ≤ n2 := by rw [← HP.out, ← HN2.out]; exact behind_le _ _
 have HSLC : Hid (SlC w b2 X.cps) := by
  have := HR2.out
  rw [← HN2.out] at this
  exact this.slC
 go_enter Tryz.func177, Tryz.ntmps177
 go_upto_region 1 with (go_at_call 224; refine (service_any A ae ce X.now g g1 n1 d1 k _ _ _ _ hkl hl1 HG.out).mono ?_; rintro e w1 ⟨rfl, hb1⟩)
 have HG1 : Hid _ := below_blk hb1 HG.out hlt
 have hg1 : g < w1.heap.size := Nat.lt_of_lt_of_le hlt hb1.size
 have hg11 : g1 < w1.heap.size := Nat.lt_of_lt_of_le hlt1 hb1.size
 have HSV1 : Hid (SvcAt w1 g1 (k * 13) s) := HSV.out.below hb1 hlt1
 have HSL1 : Hid (SlC w1 b2 X.cps) := HSLC.out.below hb1
 refine wp_region_grows 9 (by kernel_rfl) (by kernel_rfl) ?_
 apply grow_eq
 ·intro V W K AA hW hd hA hK
  simp only [putAll, pz1, pz2, pz3, pz4, Act.put, pz5, pz6, pz7] at hA
  clear hd
  obtain rfl := hA
  go_wp2
  exact hK.out _ brf
 apply grow_eq
 ·intro V W K AA hW hd hA hK
  have d0 : V 0 = _ := hd 0 (by kernel_rfl)
  simp only [putAll, pz1, pz2, pz3, pz4, Act.put, pz5, pz6, pz7, d0] at hA
  clear hd d0
  obtain rfl := hA
  go_wp2
  exact hK.out _ brf
 apply grow_eq
 ·intro V W K AA hW hd hA hK
  have d1 : V 1 = _ := hd 1 (by kernel_rfl)
  simp only [putAll, pz1, pz2, pz3, pz4, Act.put, pz5, pz6, pz7, d1] at hA
  clear hd d1
  obtain rfl := hA
  go_wp2
  exact hK.out _ brf
 apply grow_eq
 ·intro V W K AA hW hd hA hK
  have d2 : V 2 = _ := hd 2 (by kernel_rfl)
  simp only [putAll, pz1, pz2, pz3, pz4, Act.put, pz5, pz6, pz7, d2] at hA
  clear hd d2
  obtain rfl := hA
  have e8 := blk_cell (below_blk hW HG1.out hg1) 8 rfl
  have e9 := blk_cell (below_blk hW HG1.out hg1) 9 rfl
  have e10 := blk_cell (below_blk hW HG1.out hg1) 10 rfl
  have e11 := blk_cell (below_blk hW HG1.out hg1) 11 rfl
  go_wp2
  exact hK.out _ brf
 apply grow_eq
 ·intro V W K AA hW hd hA hK
  simp only [putAll, pz1, pz2, pz3, pz4, Act.put, pz5, pz6, pz7] at hA
  clear hd
  obtain rfl := hA
  go_wp2
  exact hK.out _ brf
 apply grow_eq
 ·intro V W K AA hW hd hA hK
  have d4 : V 4 = _ := hd 4 (by kernel_rfl)
  simp only [putAll, pz1, pz2, pz3, pz4, Act.put, pz5, pz6, pz7, d4] at hA
  clear hd d4
  obtain rfl := hA
  go_wp2
  exact hK.out _ brf
 apply grow_eq
 ·intro V W K AA hW hd hA hK
  have d5 : V 5 = _ := hd 5 (by kernel_rfl)
  simp only [putAll, pz1, pz2, pz3, pz4, Act.put, pz5, pz6, pz7, d5] at hA
  clear hd d5
  obtain rfl := hA
  go_wp2
  exact hK.out _ brf
 apply grow_eq
 ·intro V W K AA hW hd hA hK
  have d6 : V 6 = _ := hd 6 (by kernel_rfl)
  simp only [putAll, pz1, pz2, pz3, pz4, Act.put, pz5, pz6, pz7, d6] at hA
  clear hd d6
  obtain rfl := hA
  have hq := HSV1.out.below hW hg11
  unfold SvcAt at hq
  obtain ⟨q0, q1, q2, q3, q4, q5, q6, q7, q8, q9, q10, q11, q12⟩ := hq
  go_wp2
  exact hK.out _ brf
 refine grow_op (fun v _ => v = .int .i64 (p : Nat)) (fun _ _ _ h _ => h) ?_ ?_
 ·intro V W K AA hW hd hA hK
  have d3 : V 3 = _ := hd 3 (by kernel_rfl)
  have d7 : V 7 = _ := hd 7 (by kernel_rfl)
  simp only [putAll, pz1, pz2, pz3, pz4, Act.put, pz5, pz6, pz7, d3, d7] at hA
  clear hd d3 d7
  obtain rfl := hA
  go_wp2_with fail
  refine (behindCopies_any X s.name _ b2 b3 d1 d2 d3 n1 n2 n3 _ HN2 hl2 (HSL1.out.below hW)).mono ?_
  rintro e w3 ⟨rfl, hb3⟩
  rw [HP.out]
  go_wp2
  exact hK.out _ _ hb3 rfl
 intro V W AA hW hS hA
 have d0 : V 0 = _ := hS 0 (by omega)
 have d1 : V 1 = _ := hS 1 (by omega)
 have d2 : V 2 = _ := hS 2 (by omega)
 have d3 : V 3 = _ := hS 3 (by omega)
 have d4 : V 4 = _ := hS 4 (by omega)
 have d5 : V 5 = _ := hS 5 (by omega)
 have d6 : V 6 = _ := hS 6 (by omega)
 have d7 : V 7 = _ := hS 7 (by omega)
 have d8 : (fun v _ => v = .int .i64 (p : Nat)) (V 8) W := hS 8 (by omega)
 simp only [putAll, pz1, pz2, pz3, pz4, Act.put, pz5, pz6, pz7, d0, d1, d2, d3, d4, d5, d6, d7] at hA
 clear hS d0 d1 d2 d3 d4 d5 d6 d7
 generalize V 8 = x8 at d8 hA
 obtain rfl := hA
 simp only [List.drop_succ_cons, List.drop_zero]
 obtain rfl := d8
 have hbW := hb1.trans (hW.mono hb1.size)
 have HI0 : Hid (W.heap[g]? = some (.cells #[.string A.service, .int .i64 A.seen, .int .i64 A.create, .int .i64 A.want, .int .i64 A.cool, .bool A.scale, .slice ae A.ends.length ce, .bool A.drop, .int .i64 X.now, .slice (some ⟨g1, 0, none⟩) n1 d1, .slice b2 (insN X.cps p (mkO X s) 0).length d2, .slice b3 n3 d3, .int .i64 (k : Int), ve] 222 (0, 0)) ∧ RowIs W 67 13 g1 n1 d1 (svcsV (X.svcs.set k { s with next := s.next + ((0 : Nat) : Int) })) ∧ RowN W N 149 7 b2 (insN X.cps p (mkO X s) 0).length d2 (cpsV (insN X.cps p (mkO X s) 0)) ∧ RowN W N 147 2 b3 n3 d3 (btsV X.bts) ∧ W.ownsRow N 3 1 ve ne (intsV I)) := by
  have e0 : insN X.cps p (mkO X s) 0 = X.cps := insN_zero _ _ _
  have e1 : ({ s with next := s.next + ((0 : Nat) : Int) } : Svc) = s := by simp
  rw [e0, e1, set_self HK.out]
  have a1 := HR2.out.below hbW
  rw [← HN2.out] at a1
  have a2 := below_blk hbW HG.out hlt
  rw [← HN2.out] at a2
  exact ⟨a2, HR1.out.below hbW hlt1, a1, HR3.out.below hbW, ownO_below HEI.out hbW⟩
 have HGW : Hid _ := below_blk hbW HG.out hlt
 have e2 := blk_cell HGW.out 2 rfl
 rw [HCR.out] at e2
 have hbN := hbW.mono hN
 clear hb1 HG1 hg1 hg11 HSV1 HSL1 hW HGW HSV HSLC hbW HG HR1 HR2 HR3 HEI
 go_wp2
 clear e2
 go_loopw [3, 21] (fun pv iv wr => ∃ (t : Nat) (b2 : Option Addr) (cc : Nat), t ≤ crn ∧ iv = .int .i64 t ∧ pv = .int .i64 ((p + t : Nat) : Int) ∧ Hid (wr.heap[g]? = some (.cells #[.string A.service, .int .i64 A.seen, .int .i64 A.create, .int .i64 A.want, .int .i64 A.cool, .bool A.scale, .slice ae A.ends.length ce, .bool A.drop, .int .i64 X.now, .slice (some ⟨g1, 0, none⟩) n1 d1, .slice b2 (insN X.cps p (mkO X s) t).length cc, .slice b3 n3 d3, .int .i64 (k : Int), ve] 222 (0, 0)) ∧ RowIs wr 67 13 g1 n1 d1 (svcsV (X.svcs.set k { s with next := s.next + (t : Int) })) ∧ RowN wr N 149 7 b2 (insN X.cps p (mkO X s) t).length cc (cpsV (insN X.cps p (mkO X s) t)) ∧ RowN wr N 147 2 b3 n3 d3 (btsV X.bts) ∧ wr.ownsRow N 3 1 ve ne (intsV I)) ∧ Below N w wr) (fun _ iv _ => crn - (intOf iv).toNat)
 case atStart => exact ⟨0, b2, d2, Nat.zero_le _, rfl, rfl, HI0, hbN⟩
 case round =>
  clear HI0 hbN
  obtain ⟨t, b2, cc, ht, rfl, rfl, HI, hb⟩ := hrel
  have hli : (insN X.cps p (mkO X s) t).length = n2 + t := by rw [insN_len _ _ (by rw [HN2.out]; exact hp), HN2.out]
  rw [hli] at HI
  obtain ⟨hg, hr1, hr2, hr3, hre⟩ := HI.out
  have HG : Hid _ := hg
  have HR1 : Hid (RowIs wr 67 13 g1 n1 d1 (svcsV (X.svcs.set k { s with next := s.next + (t : Int) }))) := hr1
  have HR2 := hidRowN hr2
  have HR3 := hidRowN hr3
  have HRE : Hid (wr.ownsRow N 3 1 ve ne (intsV I)) := hre
  have HLI : Hid _ := hli
  have hgl : g < wr.heap.size := (Array.getElem?_eq_some_iff.1 hg).1
  have hg1l : g1 < wr.heap.size := hr1.lt
  have hNr : N ≤ wr.heap.size := by omega
  clear hg hr1 hr2 hr3 hre hli HI
  by_cases hlj : t < crn
  ·obtain ⟨c, HCC⟩ : ∃ x : Cp, Hid (x = mkO X s t) := ⟨_, rfl⟩
   have HSV : Hid (SvcAt wr g1 (k * 13) { s with next := s.next + (t : Int) }) := HR1.out.svcAt (by rw [List.getElem?_set_self (by rw [HN1.out]; exact hkl)])
   go_upto_region 4 with fail
   refine wp_region_grows 19 (by kernel_rfl) (by kernel_rfl) ?_
   apply grow_eq
   ·intro V W K AA hW hd hA hK
    simp only [putAll, pz1, pz2, pz3, pz4, Act.put, pz5, pz6, pz7] at hA
    clear hd
    obtain rfl := hA
    go_wp2
    exact hK.out _ brf
   apply grow_eq
   ·intro V W K AA hW hd hA hK
    have d0 : V 0 = _ := hd 0 (by kernel_rfl)
    simp only [putAll, pz1, pz2, pz3, pz4, Act.put, pz5, pz6, pz7, d0] at hA
    clear hd d0
    obtain rfl := hA
    go_wp2
    exact hK.out _ brf
   apply grow_eq
   ·intro V W K AA hW hd hA hK
    have d1 : V 1 = _ := hd 1 (by kernel_rfl)
    simp only [putAll, pz1, pz2, pz3, pz4, Act.put, pz5, pz6, pz7, d1] at hA
    clear hd d1
    obtain rfl := hA
    go_wp2
    exact hK.out _ brf
   apply grow_eq
   ·intro V W K AA hW hd hA hK
    have d2 : V 2 = _ := hd 2 (by kernel_rfl)
    simp only [putAll, pz1, pz2, pz3, pz4, Act.put, pz5, pz6, pz7, d2] at hA
    clear hd d2
    obtain rfl := hA
    have hq := HSV.out.below hW hg1l
    unfold SvcAt at hq
    obtain ⟨q0, q1, q2, q3, q4, q5, q6, q7, q8, q9, q10, q11, q12⟩ := hq
    go_wp2
    exact hK.out _ brf
   apply grow_eq
   ·intro V W K AA hW hd hA hK
    simp only [putAll, pz1, pz2, pz3, pz4, Act.put, pz5, pz6, pz7] at hA
    clear hd
    obtain rfl := hA
    go_wp2
    exact hK.out _ brf
   apply grow_eq
   ·intro V W K AA hW hd hA hK
    have d4 : V 4 = _ := hd 4 (by kernel_rfl)
    simp only [putAll, pz1, pz2, pz3, pz4, Act.put, pz5, pz6, pz7, d4] at hA
    clear hd d4
    obtain rfl := hA
    go_wp2
    exact hK.out _ brf
   apply grow_eq
   ·intro V W K AA hW hd hA hK
    have d5 : V 5 = _ := hd 5 (by kernel_rfl)
    simp only [putAll, pz1, pz2, pz3, pz4, Act.put, pz5, pz6, pz7, d5] at hA
    clear hd d5
    obtain rfl := hA
    go_wp2
    exact hK.out _ brf
   apply grow_eq
   ·intro V W K AA hW hd hA hK
    have d6 : V 6 = _ := hd 6 (by kernel_rfl)
    simp only [putAll, pz1, pz2, pz3, pz4, Act.put, pz5, pz6, pz7, d6] at hA
    clear hd d6
    obtain rfl := hA
    have hq := HSV.out.below hW hg1l
    unfold SvcAt at hq
    obtain ⟨q0, q1, q2, q3, q4, q5, q6, q7, q8, q9, q10, q11, q12⟩ := hq
    go_wp2
    exact hK.out _ brf
   apply grow_eq
   ·intro V W K AA hW hd hA hK
    simp only [putAll, pz1, pz2, pz3, pz4, Act.put, pz5, pz6, pz7] at hA
    clear hd
    obtain rfl := hA
    go_wp2
    exact hK.out _ brf
   apply grow_eq
   ·intro V W K AA hW hd hA hK
    have d8 : V 8 = _ := hd 8 (by kernel_rfl)
    simp only [putAll, pz1, pz2, pz3, pz4, Act.put, pz5, pz6, pz7, d8] at hA
    clear hd d8
    obtain rfl := hA
    go_wp2
    exact hK.out _ brf
   apply grow_eq
   ·intro V W K AA hW hd hA hK
    have d9 : V 9 = _ := hd 9 (by kernel_rfl)
    simp only [putAll, pz1, pz2, pz3, pz4, Act.put, pz5, pz6, pz7, d9] at hA
    clear hd d9
    obtain rfl := hA
    go_wp2
    exact hK.out _ brf
   apply grow_eq
   ·intro V W K AA hW hd hA hK
    have d10 : V 10 = _ := hd 10 (by kernel_rfl)
    simp only [putAll, pz1, pz2, pz3, pz4, Act.put, pz5, pz6, pz7, d10] at hA
    clear hd d10
    obtain rfl := hA
    go_wp2
    exact hK.out _ brf
   apply grow_eq
   ·intro V W K AA hW hd hA hK
    have d11 : V 11 = _ := hd 11 (by kernel_rfl)
    simp only [putAll, pz1, pz2, pz3, pz4, Act.put, pz5, pz6, pz7, d11] at hA
    clear hd d11
    obtain rfl := hA
    have e8 := blk_cell (below_blk hW HG.out hgl) 8 rfl
    go_wp2
    exact hK.out _ brf
   apply grow_eq
   ·intro V W K AA hW hd hA hK
    simp only [putAll, pz1, pz2, pz3, pz4, Act.put, pz5, pz6, pz7] at hA
    clear hd
    obtain rfl := hA
    go_wp2
    exact hK.out _ brf
   apply grow_eq
   ·intro V W K AA hW hd hA hK
    have d13 : V 13 = _ := hd 13 (by kernel_rfl)
    simp only [putAll, pz1, pz2, pz3, pz4, Act.put, pz5, pz6, pz7, d13] at hA
    clear hd d13
    obtain rfl := hA
    go_wp2
    exact hK.out _ brf
   apply grow_eq
   ·intro V W K AA hW hd hA hK
    have d14 : V 14 = _ := hd 14 (by kernel_rfl)
    simp only [putAll, pz1, pz2, pz3, pz4, Act.put, pz5, pz6, pz7, d14] at hA
    clear hd d14
    obtain rfl := hA
    go_wp2
    exact hK.out _ brf
   apply grow_eq
   ·intro V W K AA hW hd hA hK
    have d15 : V 15 = _ := hd 15 (by kernel_rfl)
    simp only [putAll, pz1, pz2, pz3, pz4, Act.put, pz5, pz6, pz7, d15] at hA
    clear hd d15
    obtain rfl := hA
    have hq := HSV.out.below hW hg1l
    unfold SvcAt at hq
    obtain ⟨q0, q1, q2, q3, q4, q5, q6, q7, q8, q9, q10, q11, q12⟩ := hq
    go_wp2
    exact hK.out _ brf
   refine grow_op (fun v _ => v = .agg #[.string c.service, .int .i64 c.number, .int .i64 c.version, .int .i64 c.image, .int .i64 c.state, .bool c.ending, .string c.berth]) (fun _ _ _ h _ => h) ?_ ?_
   ·intro V W K AA hW hd hA hK
    have d3 : V 3 = _ := hd 3 (by kernel_rfl)
    have d7 : V 7 = _ := hd 7 (by kernel_rfl)
    have d12 : V 12 = _ := hd 12 (by kernel_rfl)
    have d16 : V 16 = _ := hd 16 (by kernel_rfl)
    simp only [putAll, pz1, pz2, pz3, pz4, Act.put, pz5, pz6, pz7, d3, d7, d12, d16] at hA
    clear hd d3 d7 d12 d16
    obtain rfl := hA
    go_wp2
    exact hK.out _ _ brf (by rw [HCC.out]; rfl)
   refine grow_op (fun v W => ∃ q, v = .pointer (some ⟨q, 0, none⟩) ∧ wr.heap.size ≤ q ∧ W.heap[q]? = some (.cells #[.string ⟨#[]⟩, .int .i64 0, .int .i64 0, .int .i64 0, .int .i64 0, .bool false, .string ⟨#[]⟩] 149 (0, 0))) (fun v W W2 ⟨q, h1, h2, h3⟩ hb => ⟨q, h1, h2, below_blk hb h3 (Array.getElem?_eq_some_iff.1 h3).1⟩) ?_ ?_
   ·intro V W K AA hW hd hA hK
    simp only [putAll, pz1, pz2, pz3, pz4, Act.put, pz5, pz6, pz7] at hA
    clear hd
    obtain rfl := hA
    go_wp2
    exact hK.out _ _ (below_box _ _) ⟨W.heap.size, rfl, hW.size, heap_alloc_new _ _⟩
   intro V W AA hW hS hA
   have d0 : V 0 = _ := hS 0 (by omega)
   have d1 : V 1 = _ := hS 1 (by omega)
   have d2 : V 2 = _ := hS 2 (by omega)
   have d3 : V 3 = _ := hS 3 (by omega)
   have d4 : V 4 = _ := hS 4 (by omega)
   have d5 : V 5 = _ := hS 5 (by omega)
   have d6 : V 6 = _ := hS 6 (by omega)
   have d7 : V 7 = _ := hS 7 (by omega)
   have d8 : V 8 = _ := hS 8 (by omega)
   have d9 : V 9 = _ := hS 9 (by omega)
   have d10 : V 10 = _ := hS 10 (by omega)
   have d11 : V 11 = _ := hS 11 (by omega)
   have d12 : V 12 = _ := hS 12 (by omega)
   have d13 : V 13 = _ := hS 13 (by omega)
   have d14 : V 14 = _ := hS 14 (by omega)
   have d15 : V 15 = _ := hS 15 (by omega)
   have d16 : V 16 = _ := hS 16 (by omega)
   have d17 : (fun v _ => v = .agg #[.string c.service, .int .i64 c.number, .int .i64 c.version, .int .i64 c.image, .int .i64 c.state, .bool c.ending, .string c.berth]) (V 17) W := hS 17 (by omega)
   have d18 : (fun v W => ∃ q, v = .pointer (some ⟨q, 0, none⟩) ∧ wr.heap.size ≤ q ∧ W.heap[q]? = some (.cells #[.string ⟨#[]⟩, .int .i64 0, .int .i64 0, .int .i64 0, .int .i64 0, .bool false, .string ⟨#[]⟩] 149 (0, 0))) (V 18) W := hS 18 (by omega)
   simp only [putAll, pz1, pz2, pz3, pz4, Act.put, pz5, pz6, pz7, d0, d1, d2, d3, d4, d5, d6, d7, d8, d9, d10, d11, d12, d13, d14, d15, d16] at hA
   clear hS d0 d1 d2 d3 d4 d5 d6 d7 d8 d9 d10 d11 d12 d13 d14 d15 d16
   generalize V 17 = x17 at d17 hA
   generalize V 18 = x18 at d18 hA
   obtain rfl := hA
   simp only [List.drop_succ_cons, List.drop_zero]
   obtain rfl := d17
   obtain ⟨q, rfl, hqq, hqz⟩ := d18
   have HQZ : Hid _ := hqz
   have hbr := hW
   clear hqz hW
   go_upto_region 5 with ((with_reducible show wpList _ _ _ _ _ _); refine wpList_store_only rfl 149 (.tmp 4) (.tmp 40) rfl q 0 #[.string c.service, .int .i64 c.number, .int .i64 c.version, .int .i64 c.image, .int .i64 c.state, .bool c.ending, .string c.berth] rfl rfl 149 #[.string ⟨#[]⟩, .int .i64 0, .int .i64 0, .int .i64 0, .int .i64 0, .bool false, .string ⟨#[]⟩] HQZ.out Tryz.infosCpO (Nat.le_of_ble_eq_true rfl) (by simp [Value.oneCell']) ?_; intro w2 hz on; have HB : Hid (w2.heap[q]? = some (.cells #[.string c.service, .int .i64 c.number, .int .i64 c.version, .int .i64 c.image, .int .i64 c.state, .bool c.ending, .string c.berth] 149 (0, 0))) := hz; have HON : Hid (Only q W w2) := on; clear hz on)
   have hb2 : Below wr.heap.size wr w2 := hbr.trans (HON.out.below.mono hqq)
   have HG2 : Hid _ := below_blk hb2 HG.out hgl
   have HR1b : Hid (RowIs w2 67 13 g1 n1 d1 (svcsV (X.svcs.set k { s with next := s.next + (t : Int) }))) := HR1.out.below hb2 hg1l
   have HR2b := hidRowN (HR2.out.below hb2)
   have HR3b := hidRowN (HR3.out.below hb2)
   have HREb : Hid (w2.ownsRow N 3 1 ve ne (intsV I)) := ownO_below HRE.out hb2
   have hbw2 := hb.trans (hb2.mono hNr)
   have hnq : b2 ≠ some ⟨q, 0, none⟩ := rowN_old HR2.out hqq
   have hngg : b2 ≠ some ⟨g, 0, none⟩ := rowN_ne HR2.out HG.out (by decide)
   have hqb : q < w2.heap.size := (Array.getElem?_eq_some_iff.1 HB.out).1
   have hgb : g < w2.heap.size := (Array.getElem?_eq_some_iff.1 HG2.out).1
   have hNb : N ≤ w2.heap.size := Nat.le_trans hNr hb2.size
   obtain ⟨L2, HL2⟩ : ∃ x, Hid (x = (insN X.cps p (mkO X s) t).take (p + t) ++ c :: (insN X.cps p (mkO X s) t).drop (p + t)) := ⟨_, rfl⟩
   clear HG HR1 HR2 HR3 HRE hb hb2 hbr hgl hg1l hNr HQZ HON HSV
   obtain ⟨wb, hwb⟩ : ∃ x, x = w2 := ⟨_, rfl⟩
   subst hwb
   refine wp_region_turns 13 9 (fun W W' => KeepO b2 W W' ∧ Below N W W') (fun W => KeepO b2 wb W ∧ Below N wb W) (fun W => RowN W N 149 7 b2 (n2 + t) cc (cpsV (insN X.cps p (mkO X s) t))) (by kernel_rfl) (by kernel_rfl) ⟨KeepO.refl _ _, Below.refl _ _⟩ HR2b.out (fun _ _ h hb => ⟨h.1.trans (.of_below hb), h.2.trans (hb.mono (Nat.le_trans hNb h.2.size))⟩) (fun _ _ h hr => ⟨h.1.trans hr.1, h.2.trans hr.2⟩) (fun _ _ h hb => h.below hb) ?_
   apply growR_eq
   ·intro V W K AA hW hZ hd hA hK
    simp only [putAll, pz1, pz2, pz3, pz4, Act.put, pz5, pz6, pz7] at hA
    clear hd
    obtain rfl := hA
    go_wp2
    exact hK.out _ brf
   apply growR_eq
   ·intro V W K AA hW hZ hd hA hK
    simp only [putAll, pz1, pz2, pz3, pz4, Act.put, pz5, pz6, pz7] at hA
    clear hd
    obtain rfl := hA
    go_wp2
    exact hK.out _ brf
   apply growR_eq
   ·intro V W K AA hW hZ hd hA hK
    have d1 : V 1 = _ := hd 1 (by kernel_rfl)
    simp only [putAll, pz1, pz2, pz3, pz4, Act.put, pz5, pz6, pz7, d1] at hA
    clear hd d1
    obtain rfl := hA
    go_wp2
    exact hK.out _ brf
   apply growR_eq
   ·intro V W K AA hW hZ hd hA hK
    have d2 : V 2 = _ := hd 2 (by kernel_rfl)
    simp only [putAll, pz1, pz2, pz3, pz4, Act.put, pz5, pz6, pz7, d2] at hA
    clear hd d2
    obtain rfl := hA
    go_wp2
    exact hK.out _ brf
   apply growR_eq
   ·intro V W K AA hW hZ hd hA hK
    have d3 : V 3 = _ := hd 3 (by kernel_rfl)
    simp only [putAll, pz1, pz2, pz3, pz4, Act.put, pz5, pz6, pz7, d3] at hA
    clear hd d3
    obtain rfl := hA
    go_wp2
    exact hK.out _ brf
   apply growR_eq
   ·intro V W K AA hW hZ hd hA hK
    have d4 : V 4 = _ := hd 4 (by kernel_rfl)
    simp only [putAll, pz1, pz2, pz3, pz4, Act.put, pz5, pz6, pz7, d4] at hA
    clear hd d4
    obtain rfl := hA
    have e10 := blk_cell ((hW.1.2 g hgb hngg).trans HG2.out) 10 rfl
    go_wp2
    exact hK.out _ brf
   apply growR_eq
   ·intro V W K AA hW hZ hd hA hK
    simp only [putAll, pz1, pz2, pz3, pz4, Act.put, pz5, pz6, pz7] at hA
    clear hd
    obtain rfl := hA
    go_wp2
    exact hK.out _ brf
   apply growR_eq
   ·intro V W K AA hW hZ hd hA hK
    simp only [putAll, pz1, pz2, pz3, pz4, Act.put, pz5, pz6, pz7] at hA
    clear hd
    obtain rfl := hA
    have t0 := blk_cell ((hW.1.2 q hqb hnq).trans HB.out) 0 rfl
    have t1 := blk_cell ((hW.1.2 q hqb hnq).trans HB.out) 1 rfl
    have t2 := blk_cell ((hW.1.2 q hqb hnq).trans HB.out) 2 rfl
    have t3 := blk_cell ((hW.1.2 q hqb hnq).trans HB.out) 3 rfl
    have t4 := blk_cell ((hW.1.2 q hqb hnq).trans HB.out) 4 rfl
    have t5 := blk_cell ((hW.1.2 q hqb hnq).trans HB.out) 5 rfl
    have t6 := blk_cell ((hW.1.2 q hqb hnq).trans HB.out) 6 rfl
    go_wp2
    exact hK.out _ brf
   refine growR_op (fun v W => ∃ vb, v = .slice (some ⟨vb, 0, none⟩) 1 1 ∧ W.heap[vb]? = some (.cells #[.string c.service, .int .i64 c.number, .int .i64 c.version, .int .i64 c.image, .int .i64 c.state, .bool c.ending, .string c.berth] 149 (0, 0)) ∧ b2 ≠ some ⟨vb, 0, none⟩) (fun i hi v W W' ⟨vb, h1, h2, h3⟩ hr => ⟨vb, h1, (relq_cases hr).elim (fun h => (h.1.2 vb (Array.getElem?_eq_some_iff.1 h2).1 h3).trans h2) (fun h => below_blk h h2 (Array.getElem?_eq_some_iff.1 h2).1), h3⟩) ?_ ?_
   ·intro V W K AA hW hZ hd hA hK
    have d7 : V 7 = _ := hd 7 (by kernel_rfl)
    simp only [putAll, pz1, pz2, pz3, pz4, Act.put, pz5, pz6, pz7, d7] at hA
    clear hd d7
    obtain rfl := hA
    go_wp2
    exact hK.out _ _ (below_box _ _) ⟨W.heap.size, rfl, heap_alloc_new _ _, rowN_old HR2b.out hW.1.1⟩
   refine growR_op (fun v W => ∃ bo kk, v = .slice bo (n2 + t + 1) kk ∧ RowN W N 149 7 bo (n2 + t + 1) kk (cpsV L2)) (fun i hi v W W' ⟨bo, kk, h1, h2⟩ hr => ⟨bo, kk, h1, h2.below (relq_other hi hr)⟩) ?_ ?_
   ·intro V W K AA hW hZ hd hA hK
    have d5 : V 5 = _ := hd 5 (by kernel_rfl)
    have d6 : V 6 = _ := hd 6 (by kernel_rfl)
    have d8 : (fun v W => ∃ vb, v = .slice (some ⟨vb, 0, none⟩) 1 1 ∧ W.heap[vb]? = some (.cells #[.string c.service, .int .i64 c.number, .int .i64 c.version, .int .i64 c.image, .int .i64 c.state, .bool c.ending, .string c.berth] 149 (0, 0)) ∧ b2 ≠ some ⟨vb, 0, none⟩) (V 8) W := hd 8 (by kernel_rfl)
    simp only [putAll, pz1, pz2, pz3, pz4, Act.put, pz5, pz6, pz7, d5, d6] at hA
    clear hd d5 d6
    generalize V 8 = x8 at d8 hA
    obtain rfl := hA
    obtain ⟨vb, rfl, hvb, hnv⟩ := d8
    have h0 := hZ rfl
    go_wp2_with fail
    refine (insC_any (insN X.cps p (mkO X s) t) c b2 (n2 + t) cc (p + t) N vb _ HLI (by omega) (by omega) (Nat.le_trans hNb hW.1.1) h0 hvb hnv).mono ?_
    rintro e w3 ⟨bo, kk, rfl, hr, hq, hbN⟩
    have HRR : Hid (RowN w3 N 149 7 bo (n2 + t + 1) kk (cpsV L2)) := by
     rw [HL2.out]
     exact hr
    have HQQ : Hid _ := hq
    clear hr hq h0 hvb hnv
    go_wp2
    exact hK.out _ _ ⟨⟨hbN.size, HQQ.out⟩, hbN⟩ ⟨bo, kk, rfl, HRR.out⟩
   apply growR_eq
   ·intro V W K AA hW hZ hd hA hK
    have d0 : V 0 = _ := hd 0 (by kernel_rfl)
    simp only [putAll, pz1, pz2, pz3, pz4, Act.put, pz5, pz6, pz7, d0] at hA
    clear hd d0
    obtain rfl := hA
    go_wp2
    exact hK.out _ brf
   apply growR_eq
   ·intro V W K AA hW hZ hd hA hK
    have d10 : V 10 = _ := hd 10 (by kernel_rfl)
    simp only [putAll, pz1, pz2, pz3, pz4, Act.put, pz5, pz6, pz7, d10] at hA
    clear hd d10
    obtain rfl := hA
    go_wp2
    exact hK.out _ brf
   apply growR_eq
   ·intro V W K AA hW hZ hd hA hK
    have d11 : V 11 = _ := hd 11 (by kernel_rfl)
    simp only [putAll, pz1, pz2, pz3, pz4, Act.put, pz5, pz6, pz7, d11] at hA
    clear hd d11
    obtain rfl := hA
    go_wp2
    exact hK.out _ brf
   intro V W AA hW hS hA
   have d0 : V 0 = _ := hS 0 (by omega)
   have d1 : V 1 = _ := hS 1 (by omega)
   have d2 : V 2 = _ := hS 2 (by omega)
   have d3 : V 3 = _ := hS 3 (by omega)
   have d4 : V 4 = _ := hS 4 (by omega)
   have d5 : V 5 = _ := hS 5 (by omega)
   have d6 : V 6 = _ := hS 6 (by omega)
   have d7 : V 7 = _ := hS 7 (by omega)
   have d8 : (fun v W => ∃ vb, v = .slice (some ⟨vb, 0, none⟩) 1 1 ∧ W.heap[vb]? = some (.cells #[.string c.service, .int .i64 c.number, .int .i64 c.version, .int .i64 c.image, .int .i64 c.state, .bool c.ending, .string c.berth] 149 (0, 0)) ∧ b2 ≠ some ⟨vb, 0, none⟩) (V 8) W := hS 8 (by omega)
   have d9 : (fun v W => ∃ bo kk, v = .slice bo (n2 + t + 1) kk ∧ RowN W N 149 7 bo (n2 + t + 1) kk (cpsV L2)) (V 9) W := hS 9 (by omega)
   have d10 : V 10 = _ := hS 10 (by omega)
   have d11 : V 11 = _ := hS 11 (by omega)
   have d12 : V 12 = _ := hS 12 (by omega)
   simp only [putAll, pz1, pz2, pz3, pz4, Act.put, pz5, pz6, pz7, d0, d1, d2, d3, d4, d5, d6, d7, d10, d11, d12] at hA
   clear hS d0 d1 d2 d3 d4 d5 d6 d7 d10 d11 d12
   generalize V 8 = x8 at d8 hA
   generalize V 9 = x9 at d9 hA
   obtain rfl := hA
   simp only [List.drop_succ_cons, List.drop_zero]
   obtain ⟨bo, kk, rfl, hrr⟩ := d9
   clear d8
   have HRR := hidRowN hrr
   have HKO : Hid (KeepO b2 wb W) := hW.1
   have hbW := hW.2
   have HKT : Hid (KeepT 149 wb W) := HKO.out.toT HR2b.out
   have HGW : Hid _ := (HKO.out.2 g hgb hngg).trans HG2.out
   have HR1W : Hid (RowIs W 67 13 g1 n1 d1 (svcsV (X.svcs.set k { s with next := s.next + (t : Int) }))) := HKT.out.rowIs HR1b.out (by decide)
   have hL2l : L2 = insN X.cps p (mkO X s) (t + 1) := by rw [HL2.out, HCC.out]; exact insN_succ _ _ (by rw [HN2.out]; exact hp)
   have HLL : Hid _ := hL2l
   clear hrr hW hL2l
   go_wp2_with (first
    | ((with_reducible show wpList _ _ _ _ _ _); refine wpList_store_one rfl 33 (.tmp 53) (.tmp 50) rfl g 10 (.slice bo (n2 + t + 1) kk) rfl rfl Tryz.infosCpsO rfl rfl 222 #[.string A.service, .int .i64 A.seen, .int .i64 A.create, .int .i64 A.want, .int .i64 A.cool, .bool A.scale, .slice ae A.ends.length ce, .bool A.drop, .int .i64 X.now, .slice (some ⟨g1, 0, none⟩) n1 d1, .slice b2 (n2 + t) cc, .slice b3 n3 d3, .int .i64 (k : Int), ve] HGW.out (Nat.le_of_ble_eq_true rfl) ?_; intro w4 hz on; have HG4 : Hid (w4.heap[g]? = some (.cells #[.string A.service, .int .i64 A.seen, .int .i64 A.create, .int .i64 A.want, .int .i64 A.cool, .bool A.scale, .slice ae A.ends.length ce, .bool A.drop, .int .i64 X.now, .slice (some ⟨g1, 0, none⟩) n1 d1, .slice bo (n2 + t + 1) kk, .slice b3 n3 d3, .int .i64 (k : Int), ve] 222 (0, 0))) := hz; have HO4 : Hid (Only g W w4) := on; have HK4 : Hid (KeepT 222 W w4) := .of_only on HGW.out; have HR14 : Hid (RowIs w4 67 13 g1 n1 d1 (svcsV (X.svcs.set k { s with next := s.next + (t : Int) }))) := HK4.out.rowIs HR1W.out (by decide); have hq := HR14.out.svcAt (k := k) (s := { s with next := s.next + (t : Int) }) (by rw [List.getElem?_set_self (by rw [HN1.out]; exact hkl)]); unfold SvcAt at hq; obtain ⟨q0, q1, q2, q3, q4, q5, q6, q7, q8, q9, q10, q11, q12⟩ := hq; clear hz on)
    | ((with_reducible show wpList _ _ _ _ _ _); refine wpList_row_one rfl 3 (.tmp 62) (.tmp 60) rfl g1 _ (.int .i64 (s.next + (t : Int) + 1)) rfl rfl Tryz.infosIntO rfl rfl 67 13 n1 d1 _ HR14.out (by omega) ?_; intro w5 hr on; have HR15 : Hid (RowIs w5 67 13 g1 n1 d1 (svcsV (X.svcs.set k { s with next := s.next + ((t + 1 : Nat) : Int) }))) := (by have := hr.out; rw [show s.next + (t : Int) + 1 = s.next + ((t + 1 : Nat) : Int) by omega] at this; rw [show splice (svcsV (X.svcs.set k { s with next := s.next + (t : Int) })) (k * 13 + 7) [.int .i64 (s.next + ((t + 1 : Nat) : Int))] = svcsV ((X.svcs.set k { s with next := s.next + (t : Int) }).set k { s with next := s.next + ((t + 1 : Nat) : Int) }) from flat_splice_one (c := Svc.cells) (n := 13) (fun _ => rfl) (X.svcs.set k { s with next := s.next + (t : Int) }) k 7 { s with next := s.next + (t : Int) } { s with next := s.next + ((t + 1 : Nat) : Int) } _ (by rw [List.getElem?_set_self (by rw [HN1.out]; exact hkl)]) (by omega) rfl, List.set_set] at this; exact this); have HO5 : Hid (Only g1 w4 w5) := on; clear hr on q0 q1 q2 q3 q4 q5 q6 q7 q8 q9 q10 q11 q12))
   go_roundw
   case rel =>
    have k5 : KeepT 67 w4 w5 := .of_row HO5.out HR14.out
    have hlen : (insN X.cps p (mkO X s) (t + 1)).length = n2 + t + 1 := by rw [insN_len _ _ (by rw [HN2.out]; exact hp), HN2.out]; omega
    refine ⟨t + 1, bo, kk, hlj, by go_num, by go_num, ⟨?_, HR15.out, ?_, k5.rowN (HK4.out.rowN (HKT.out.rowN HR3b.out (by decide)) (by decide)) (by decide), k5.own (HK4.out.own (HKT.out.own HREb.out (by decide)) (by decide)) (by decide)⟩, hbw2.trans (hbW.trans ((HO4.out.below.mono hNg).trans (HO5.out.below.mono hN1)))⟩
    ·rw [hlen]
     exact k5.blk HG4.out (by decide)
    ·rw [hlen, ← HLL.out]
     exact k5.rowN (HK4.out.rowN HRR.out (by decide)) (by decide)
   case measure => simp [intOf]; omega
  ·have htc : t = crn := by omega
   subst htc
   go_wp2
   go_end0
   refine ⟨rfl, ⟨some ⟨g1, 0, none⟩, b2, b3, d1, cc, d3, ve, hNg, ?_, ⟨?_, ?_, ?_⟩, ?_⟩, hb⟩
   ·have := HG.out
    rw [HP.out]
    show wr.heap[g]? = some (.cells #[.string A.service, .int .i64 A.seen, .int .i64 A.create, .int .i64 A.want, .int .i64 A.cool, .bool A.scale, .slice ae A.ends.length ce, .bool A.drop, .int .i64 X.now, .slice (some ⟨g1, 0, none⟩) (X.svcs.set k { s with next := s.next + A.create }).length d1, .slice b2 (insN X.cps p (mkO X s) t).length cc, .slice b3 X.bts.length d3, .int .i64 (k : Int), ve] 222 (0, 0))
    rw [List.length_set, HN1.out, HLI.out, HN3.out]
    exact this
   ·have := HR1.out
    rw [HCR.out]
    show RowN wr N 67 13 (some ⟨g1, 0, none⟩) (X.svcs.set k { s with next := s.next + (t : Int) }).length d1 (svcsV (X.svcs.set k { s with next := s.next + (t : Int) }))
    rw [List.length_set, HN1.out]
    exact .inr ⟨g1, rfl, hN1, this⟩
   ·have := HR2.out
    rw [HP.out]
    show RowN wr N 149 7 b2 (insN X.cps p (mkO X s) t).length cc (cpsV (insN X.cps p (mkO X s) t))
    rw [HLI.out]
    exact this
   ·have := HR3.out
    rw [← HN3.out] at this
    exact this
   ·rw [HNE.out]
    exact HRE.out
end Go.Proofs.YtbceafpodamnfabGreatDoor
