/-
  My own: Dh, Zu, Zd, Ze, Zf, Dg.
-/
import Derived.Test.YtbceafpodamnfabGreatDoorG07
import Derived.Test.YtbceafpodamnfabGreatDoorG04
import Derived.Test.YtbceafpodamnfabGreatDoorG03
import Derived.Test.YtbceafpodamnfabGreatDoorG01
set_option linter.unusedVariables false
set_option linter.unusedSimpArgs false
namespace Go.Proofs.YtbceafpodamnfabGreatDoor
open Go.RowKit Go.Sort
theorem isC_iff {sv : ByteArray} {num : Int} {c : Cp} : isC sv num c = true ↔ c.service = sv ∧ c.number = num := by
 unfold isC
 rw [Bool.and_eq_true, beq_iff_eq (a := c.number)]
 exact and_congr_left fun _ => same_nm
end Go.Proofs.YtbceafpodamnfabGreatDoor

namespace Go.Proofs.YtbceafpodamnfabGreatDoor
open Go.RowKit Go.Sort Go.Maps
def uniqC (B : Bk) : Prop := ∀ (i j : Nat) c d, i < j → B.cps[i]? = some c → B.cps[j]? = some d → ¬ (c.service = d.service ∧ c.number = d.number)
def wfC (B : Bk) : Prop := ∀ c ∈ B.cps, (Lit.int .i64 c.number).wf = true
theorem aheadB_trans {a b c : Cp} (h1 : aheadB a b = true) (h2 : aheadB b c = true) : aheadB a c = true := by
 unfold aheadB at *
 simp only [Bool.or_eq_true, Bool.and_eq_true, decide_eq_true_eq, beq_iff_eq] at *
 rcases h1 with h1 | ⟨e1, n1⟩
 ·rcases h2 with h2 | ⟨e2, n2⟩
  ·exact .inl (bytesLess_trans _ _ _ h1 h2)
  ·exact .inl (by rw [← e2]; exact h1)
 ·rcases h2 with h2 | ⟨e2, n2⟩
  ·exact .inl (by rw [e1]; exact h2)
  ·exact .inr ⟨e1.trans e2, by omega⟩
theorem cps_ahead {B : Bk} (h : ∀ i, i < B.cps.length → cpAtB B i = true) : ∀ (j i : Nat) s t, i < j → B.cps[i]? = some s → B.cps[j]? = some t → aheadB s t = true
 | 0, i, _, _, hi, _, _ => absurd hi (by omega)
 | j + 1, i, s, t, hi, hs, ht => by
  have hlt : j + 1 < B.cps.length := (List.getElem?_eq_some_iff.1 ht).1
  obtain ⟨p, hp⟩ : ∃ p, B.cps[j]? = some p := ⟨B.cps[j]'(by omega), by rw [List.getElem?_eq_getElem]⟩
  have h1 : aheadB p t = true := by
   have := h (j + 1) hlt
   unfold cpAtB at this
   rw [ht] at this
   simp [hp] at this
   exact this.2
  rcases Nat.lt_or_ge i j with h' | h'
  ·exact aheadB_trans (cps_ahead h j i s p h' hs hp) h1
  ·have e : i = j := by omega
   subst e
   rw [hp] at hs
   cases hs
   exact h1
theorem uniqC_of {B : Bk} (h : allTo (cpAtB B) B.cps.length = true) : uniqC B := fun i j c d hij hc hd ⟨e1, e2⟩ => by
 have := cps_ahead (cpAt_of h) j i c d hij hc hd
 unfold aheadB at this
 rw [e1, e2, bytesLess_irrefl] at this
 simp at this
end Go.Proofs.YtbceafpodamnfabGreatDoor

namespace Go.Proofs.YtbceafpodamnfabGreatDoor
open Go.RowKit Go.Sort Go.Maps
theorem numRow : (276 : TypeId) < Tryz.prog.types.size := of_decide_eq_true (by kernel_rfl)
theorem numWide : (match Tryz.prog.underlying 276 with | some (.array _ _) | some (.struct _) => true | _ => false) = true := by kernel_rfl
set_option maxRecDepth 100000 in
theorem numLaw : Keyed Tryz.prog 276 := Keyed.of_law (deep_law_laid Tryz.laidOutB (m := 3) (by omega) numRow (by kernel_rfl) numWide)
theorem numCells : Tryz.prog.cellsOf 276 = 2 := by kernel_rfl
theorem numKey : Tryz.prog.keyType 276 = true := by kernel_rfl
def nkey (s : ByteArray) (n : Int) : Lit := .string (keyBytes [.string s.data.toList, .int .i64 n])
theorem nkey_ok (s : ByteArray) (n : Int) (hk : (Lit.int .i64 n).wf = true) (hs : s.size ≤ maxLen) : keyOf Tryz.prog 276 (.agg #[.string s, .int .i64 n]) = some (nkey s n) := by
 have hf : (Value.agg #[.string s, .int .i64 n]).formed Tryz.prog 276 = true := by
  simp [Value.formed, Tryz.underlying276, numCells]
 unfold keyOf
 rw [Tryz.underlying276]
 simp only [numKey, hf, Bool.and_self, if_true]
 generalize hn : Tryz.prog.types.size = m
 match m, hn with
 | 0, hn => have := numRow; rw [hn] at this; exact absurd this (Nat.not_lt_zero _)
 | m + 1, _ =>
  simp [Program.keyLits, Tryz.underlying276, numCells, intCells, stringCells, Tryz.underlying3, Tryz.underlying9, Value.cells, hk, hs, nkey]
theorem nkey_inj {n n' : Int} {s s' : ByteArray} (hk : (Lit.int .i64 n).wf = true) (hk' : (Lit.int .i64 n').wf = true) (hs : s.size ≤ maxLen) (hs' : s'.size ≤ maxLen) (h : nkey s n = nkey s' n') : s = s' ∧ n = n' := by
 have h1 := nkey_ok s n hk hs
 have h2 := nkey_ok s' n' hk' hs'
 rw [← h] at h2
 have := numLaw.inj h1 h2
 simpa using this
theorem nkey_isKey (s : ByteArray) (n : Int) : WideAt.IsKeyLit (nkey s n) := trivial
theorem run_makeMap_c (n : Int) (w : World) : (Instr.makeMap 273 (some (.int .i64 n))).run Tryz.prog w = .ok (.map (some w.heap.size)) (w.alloc (.map #[] 0)) := by
 simp [Instr.makeMap, run_underlying Tryz.underlying273, asInt, asIntOf]
def CopiesAt (w : World) (b : Nat) (B : Bk) (k : Nat) : Prop := ∃ (n : Nat) (D : DataW Unit), n ≤ k ∧ w.ownsMap Tryz.prog 276 (plainElem Tryz.prog 3) b n D ∧
 (∀ (x : ByteArray) (m : Int), x.size ≤ maxLen → (Lit.int .i64 m).wf = true → (∀ (i : Nat) c, i < k → B.cps[i]? = some c → ¬ (c.service = x ∧ c.number = m)) → Maps.has D (nkey x m) = false) ∧
 (∀ (i : Nat) c, i < k → B.cps[i]? = some c → Maps.has D (nkey c.service c.number) = true ∧ D.atKey (nkey c.service c.number) (.lit (.int .i64 0)) = .lit (.int .i64 i))
theorem CopiesAt.blk {w w' : World} {b : Nat} {B : Bk} {k : Nat} (h : CopiesAt w b B k) (hb : w'.heap[b]? = w.heap[b]?) : CopiesAt w' b B k := by
 obtain ⟨n, D, hn, ⟨es, clock, he, F, hs, hD⟩, r⟩ := h
 exact ⟨n, D, hn, ⟨es, clock, by rw [hb]; exact he, F, hs, hD⟩, r⟩
theorem CopiesAt.lt {w : World} {b : Nat} {B : Bk} {k : Nat} (h : CopiesAt w b B k) : b < w.heap.size := by
 obtain ⟨n, D, hn, hown, _⟩ := h
 exact hown.lt
theorem CopiesAt.start (w : World) (B : Bk) : CopiesAt (w.alloc (.map #[] 0)) w.heap.size B 0 :=
 ⟨0, .map [], Nat.le_refl _, World.ownsMap_made w _ _ _, fun _ _ _ _ _ => rfl, fun i s hi => absurd hi (by omega)⟩
theorem CopiesAt.step {w' : World} {b : Nat} {B : Bk} {k n : Nat} {D : DataW Unit} {s : Cp} (hz : ∀ s ∈ B.cps, s.service.size ≤ maxLen ∧ s.berth.size ≤ maxLen) (hw : wfC B) (hu : uniqC B) (hsk : B.cps[k]? = some s)
  (hn : n ≤ k) (h1 : ∀ (x : ByteArray) (m : Int), x.size ≤ maxLen → (Lit.int .i64 m).wf = true → (∀ (i : Nat) c, i < k → B.cps[i]? = some c → ¬ (c.service = x ∧ c.number = m)) → Maps.has D (nkey x m) = false)
  (h2 : ∀ (i : Nat) c, i < k → B.cps[i]? = some c → Maps.has D (nkey c.service c.number) = true ∧ D.atKey (nkey c.service c.number) (.lit (.int .i64 0)) = .lit (.int .i64 i))
  (hD : IsMap D)
  (hown : w'.ownsMap Tryz.prog 276 (plainElem Tryz.prog 3) b (n + 1) (D.put (nkey s.service s.number) (.lit (.int .i64 (k : Int))))) : CopiesAt w' b B (k + 1) := by
 have hss := (hz s (List.mem_of_getElem? hsk)).1
 have hsw := hw s (List.mem_of_getElem? hsk)
 refine ⟨n + 1, _, by omega, hown, fun x m hx hm hno => ?_, fun i t hi ht => ?_⟩
 ·rw [has_put_other (fun e => hno k s (by omega) hsk (let ⟨a, b⟩ := nkey_inj hm hsw hx hss e; ⟨a.symm, b.symm⟩))]
  exact h1 x m hx hm fun i t hi ht => hno i t (by omega) ht
 ·rcases Nat.lt_or_ge i k with h' | h'
  ·have hts := (hz t (List.mem_of_getElem? ht)).1
   have htw := hw t (List.mem_of_getElem? ht)
   have hne : nkey t.service t.number ≠ nkey s.service s.number := fun e => hu i k t s h' ht hsk (nkey_inj htw hsw hts hss e)
   rw [has_put_other hne, atKey_put_other hne]
   exact h2 i t h' ht
  ·have e : i = k := by omega
   subst e
   rw [hsk] at ht
   cases ht
   exact ⟨has_put_same hD (nkey_isKey _ _) _, atKey_put_same hD (nkey_isKey _ _) _ _⟩
set_option maxHeartbeats 4000000 in
theorem copyPlaces_any (B : Bk) (a1 a2 a3 : Option Addr) (c1 c2 c3 : Nat) (w : World) (hS : B.small) (hZ : B.sized) (hW : wfC B) (hU : uniqC B) (hB : BkAt w a1 a2 a3 B) :
  Calls Tryz.prog 223 #[.agg #[.int .i64 B.now, .slice a1 B.svcs.length c1, .slice a2 B.cps.length c2, .slice a3 B.bts.length c3]] w fun e w' => e = .returned (.map (some (w.heap.size + 1))) ∧ CopiesAt w' (w.heap.size + 1) B B.cps.length ∧ Below w.heap.size w w' := by
 obtain ⟨hl1, hl2, hl3⟩ := hS
 have hmm := run_makeMap_c
 obtain ⟨t0, t1, t2⟩ := two_new w (.cells #[.int .i64 B.now, .slice a1 B.svcs.length c1, .slice a2 B.cps.length c2, .slice a3 B.bts.length c3] 36) (.map #[] 0)
 have T0 : Hid _ := t0
 have T1 : Hid (CopiesAt ((w.alloc (.cells #[.int .i64 B.now, .slice a1 B.svcs.length c1, .slice a2 B.cps.length c2, .slice a3 B.bts.length c3] 36)).alloc (.map #[] 0)) (w.heap.size + 1) B 0) := by
  have := CopiesAt.start (w.alloc (.cells #[.int .i64 B.now, .slice a1 B.svcs.length c1, .slice a2 B.cps.length c2, .slice a3 B.bts.length c3] 36)) B
  have e : (w.alloc (.cells #[.int .i64 B.now, .slice a1 B.svcs.length c1, .slice a2 B.cps.length c2, .slice a3 B.bts.length c3] 36)).heap.size = w.heap.size + 1 := by show (w.heap.push _).size = _; simp
  rw [e] at this
  exact this
 clear t0 t1 t2
 go_enter Tryz.func223, Tryz.ntmps223
 go_wp2
 clear hmm
 go_loopw [13] (fun iv wr => ∃ k : Nat, k ≤ B.cps.length ∧ iv = .int .i64 k ∧ Below w.heap.size w wr ∧ Hid (CopiesAt wr (w.heap.size + 1) B k)) (fun i _ => B.cps.length - (intOf i).toNat)
 case atStart => exact ⟨0, by omega, rfl, ((Below.refl _ _).alloc (Nat.le_refl _) _).alloc (by simp) _, T1⟩
 case round =>
  obtain ⟨k, hk, rfl, hb, hpl⟩ := hrel
  have hNlt : w.heap.size + 1 < wr.heap.size := hpl.out.lt
  by_cases hlt : k < B.cps.length
  ·have hne : B.cps ≠ [] := by intro h; rw [h] at hlt; simp at hlt
   obtain ⟨b, off, ea, hbs, hat⟩ := hB.2.1 hne
   subst ea
   obtain ⟨s, hsk⟩ : ∃ s, B.cps[k]? = some s := ⟨B.cps[k], by simp [hlt]⟩
   have hmem := (hZ.2.2.2.2.1 s (List.mem_of_getElem? hsk)).1
   have hwf := hW s (List.mem_of_getElem? hsk)
   have HWF : Hid _ := hwf
   have HSK : Hid _ := hsk
   have hcs := (hat k s hsk).below hb hbs
   unfold CpAt at hcs
   obtain ⟨x0, x1, x2, x3, x4, x5, x6⟩ := hcs
   obtain ⟨n, D, hn, hown, h1, h2⟩ := hpl.out
   have H1 : Hid _ := h1
   have H2 : Hid _ := h2
   have hnn : n < maxLen := by unfold maxLen; omega
   clear hsk hat hne h1 h2 hwf
   go_wp2_with (at_mapUpdate; refine wpList_mapUpdate_own _ rfl (.tmp 18) (.tmp 23) (.tmp 24) 273 rfl 276 3 numLaw Tryz.underlying273 (plainElem Tryz.prog 3) (w.heap.size + 1) n D rfl (hown.alloc _) hnn _ _ _ rfl rfl (nkey_ok s.service s.number HWF.out hmem) _ [] (plainElem_int Tryz.underlying3 (WalkArith.wf_i64 (by omega))) ?_; intro w1 hown1 hgrow1)
   have hsz : (wr.alloc (.cells #[.string s.service, .int .i64 s.number, .int .i64 s.version, .int .i64 s.image, .int .i64 s.state, .bool s.ending, .string s.berth] 149)).heap.size = wr.heap.size + 1 := by show (wr.heap.push _).size = _; simp
   have hb1 : Below w.heap.size w w1 := (hb.alloc hb.size _).grown hgrow1 (by rw [hsz]; omega) (fun j hj => by cases hj; omega)
   have hpl1 : Hid _ := CopiesAt.step hZ.2.2.2.2.1 hW hU HSK.out hn H1.out H2.out hown.isMap hown1
   go_roundw
   case rel => exact ⟨k + 1, by omega, by go_num, hb1, hpl1⟩
   case measure => simp [intOf]; omega
  ·go_wp2
   go_ret
   have hkl : k = B.cps.length := by omega
   subst hkl
   exact ⟨rfl, hpl.out, hb⟩
end Go.Proofs.YtbceafpodamnfabGreatDoor

namespace Go.Proofs.YtbceafpodamnfabGreatDoor
open Go.RowKit Go.Sort
set_option maxHeartbeats 1000000 in
theorem allowsAll_any (c : Cp) (r : Int) (w : World) :
  Calls Tryz.prog 447 #[.agg #[], .agg #[.string c.service, .int .i64 c.number, .int .i64 c.version, .int .i64 c.image, .int .i64 c.state, .bool c.ending, .string c.berth], .int .i64 r] w fun e w' => e = .returned (.bool true) ∧ Below w.heap.size w w' := by
 go_enter Tryz.func447, Tryz.ntmps447
 go_wp2
 go_ret
 exact ⟨rfl, ((Below.refl _ _).alloc (Nat.le_refl _) _).alloc (by simp) _⟩
set_option maxHeartbeats 1000000 in
theorem allowsKeep_any (l : Int) (c : Cp) (r : Int) (w : World) (hr0 : 0 ≤ r) (hr1 : r ≤ 1048576) :
  Calls Tryz.prog 448 #[.agg #[.int .i64 l], .agg #[.string c.service, .int .i64 c.number, .int .i64 c.version, .int .i64 c.image, .int .i64 c.state, .bool c.ending, .string c.berth], .int .i64 r] w fun e w' => e = .returned (.bool (c.state != 3 || decide (l ≤ r - 1))) ∧ Below w.heap.size w w' := by
 cases hst : (c.state != 3)
 ·go_enter Tryz.func448, Tryz.ntmps448
  go_wp2
  go_ret
  exact ⟨ret_bool (by simp), ((Below.refl _ _).alloc (Nat.le_refl _) _).alloc (by simp) _⟩
 ·go_enter Tryz.func448, Tryz.ntmps448
  go_wp2
  go_ret
  exact ⟨rfl, ((Below.refl _ _).alloc (Nat.le_refl _) _).alloc (by simp) _⟩
set_option maxHeartbeats 1000000 in
theorem ruleOf_gone (s : Svc) (w : World) (hg : s.gone = true) :
  Calls Tryz.prog 288 #[.agg #[.string s.name, .int .i64 s.version, .bool s.gone, .int .i64 s.image, .int .i64 s.want, .int .i64 s.down, .int .i64 s.over, .int .i64 s.next, .int .i64 s.per, .int .i64 s.least, .int .i64 s.most, .int .i64 s.load, .int .i64 s.cool]] w fun e w' => e = .returned (.iface 398 (.agg #[])) ∧ Below w.heap.size w w' := by
 go_enter Tryz.func288, Tryz.ntmps288
 go_wp2
 go_ret
 exact ⟨rfl, below_box _ _⟩
set_option maxHeartbeats 1000000 in
theorem ruleOf_keep (s : Svc) (w : World) (hg : s.gone = false) (hw0 : 0 ≤ s.want) (hw1 : s.want ≤ 10) (hd0 : 0 ≤ s.down) (hd1 : s.down ≤ 10) :
  Calls Tryz.prog 288 #[.agg #[.string s.name, .int .i64 s.version, .bool s.gone, .int .i64 s.image, .int .i64 s.want, .int .i64 s.down, .int .i64 s.over, .int .i64 s.next, .int .i64 s.per, .int .i64 s.least, .int .i64 s.most, .int .i64 s.load, .int .i64 s.cool]] w fun e w' => e = .returned (.iface 400 (.agg #[.int .i64 (s.want - s.down)])) ∧ Below w.heap.size w w' := by
 go_enter Tryz.func288, Tryz.ntmps288
 go_wp2
 go_ret
 exact ⟨rfl, below_box _ _⟩
end Go.Proofs.YtbceafpodamnfabGreatDoor

namespace Go.Proofs.YtbceafpodamnfabGreatDoor
open Go.RowKit Go.Sort
def mayR (s : Svc) (c : Cp) (r : Int) : Bool := !c.ending && (s.gone || (c.state != 3 || decide (s.want - s.down ≤ r - 1)))
set_option maxRecDepth 100000 in
set_option maxHeartbeats 2000000 in
theorem mayEnd_any (s : Svc) (c : Cp) (r : Int) (w : World) (hr0 : 0 ≤ r) (hr1 : r ≤ 1048576) (hw0 : 0 ≤ s.want) (hw1 : s.want ≤ 10) (hd0 : 0 ≤ s.down) (hd1 : s.down ≤ 10) :
  Calls Tryz.prog 226 #[.agg #[.string s.name, .int .i64 s.version, .bool s.gone, .int .i64 s.image, .int .i64 s.want, .int .i64 s.down, .int .i64 s.over, .int .i64 s.next, .int .i64 s.per, .int .i64 s.least, .int .i64 s.most, .int .i64 s.load, .int .i64 s.cool], .agg #[.string c.service, .int .i64 c.number, .int .i64 c.version, .int .i64 c.image, .int .i64 c.state, .bool c.ending, .string c.berth], .int .i64 r] w fun e w' => e = .returned (.bool (mayR s c r)) ∧ Below w.heap.size w w' := by
 have hbb : Below w.heap.size w ((w.alloc (.cells #[.string s.name, .int .i64 s.version, .bool s.gone, .int .i64 s.image, .int .i64 s.want, .int .i64 s.down, .int .i64 s.over, .int .i64 s.next, .int .i64 s.per, .int .i64 s.least, .int .i64 s.most, .int .i64 s.load, .int .i64 s.cool] 67)).alloc (.cells #[.string c.service, .int .i64 c.number, .int .i64 c.version, .int .i64 c.image, .int .i64 c.state, .bool c.ending, .string c.berth] 149)) := ((Below.refl _ _).alloc (Nat.le_refl _) _).alloc (by simp) _
 obtain ⟨t0, t1, t2⟩ := two_new w (.cells #[.string s.name, .int .i64 s.version, .bool s.gone, .int .i64 s.image, .int .i64 s.want, .int .i64 s.down, .int .i64 s.over, .int .i64 s.next, .int .i64 s.per, .int .i64 s.least, .int .i64 s.most, .int .i64 s.load, .int .i64 s.cool] 67) (.cells #[.string c.service, .int .i64 c.number, .int .i64 c.version, .int .i64 c.image, .int .i64 c.state, .bool c.ending, .string c.berth] 149)
 have HF : Hid (mayR s c r = (!c.ending && (s.gone || (c.state != 3 || decide (s.want - s.down ≤ r - 1))))) := rfl
 have HR1 : Hid _ := fun W => ruleOf_gone s W
 have HR2 : Hid _ := fun W h => ruleOf_keep s W h hw0 hw1 hd0 hd1
 have HA1 : Hid _ := fun W => allowsAll_any c r W
 have HA2 : Hid _ := fun W => allowsKeep_any (s.want - s.down) c r W hr0 hr1
 have hm1 : ∀ w : World, (method 481 398 (.agg #[]) "loop.example/wharfsteward/impl.allows").run Tryz.prog w = .ok (447, .agg #[]) w := fun _ => by kernel_rfl
 have hm2 : ∀ (w : World) (x : Int), (method 481 400 (.agg #[.int .i64 x]) "loop.example/wharfsteward/impl.allows").run Tryz.prog w = .ok (448, .agg #[.int .i64 x]) w := fun _ _ => by kernel_rfl
 generalize c.ending = en at *
 generalize s.gone = go at *
 have T0 : Hid _ := t0
 have T1 : Hid _ := t1
 have HS : Hid _ := t2
 clear t0 t1 t2
 cases en
 ·cases go
  ·have HR : Hid _ := fun W => HR2.out W rfl
   clear HR1 HR2
   go_enter Tryz.func226, Tryz.ntmps226
   go_wp2
   refine wp_region_grows 10 (by kernel_rfl) (by kernel_rfl) ?_
   apply grow_eq
   ·intro V W K A hW hd hA hK
    simp only [putAll, pz1, pz2, pz3, pz4, Act.put, pz5, pz6, pz7] at hA
    clear hd
    obtain rfl := hA
    go_wp2
    exact hK.out _ brf
   apply grow_eq
   ·intro V W K A hW hd hA hK
    have d0 : V 0 = _ := hd 0 (by kernel_rfl)
    simp only [putAll, pz1, pz2, pz3, pz4, Act.put, pz5, pz6, pz7, d0] at hA
    clear hd d0
    obtain rfl := hA
    have y0 := blk_cell (below_blk hW T1.out (by rw [HS.out]; omega)) 0 rfl
    have y1 := blk_cell (below_blk hW T1.out (by rw [HS.out]; omega)) 1 rfl
    have y2 := blk_cell (below_blk hW T1.out (by rw [HS.out]; omega)) 2 rfl
    have y3 := blk_cell (below_blk hW T1.out (by rw [HS.out]; omega)) 3 rfl
    have y4 := blk_cell (below_blk hW T1.out (by rw [HS.out]; omega)) 4 rfl
    have y5 := blk_cell (below_blk hW T1.out (by rw [HS.out]; omega)) 5 rfl
    have y6 := blk_cell (below_blk hW T1.out (by rw [HS.out]; omega)) 6 rfl
    go_wp2
    exact hK.out _ brf
   apply grow_eq
   ·intro V W K A hW hd hA hK
    have d1 : V 1 = _ := hd 1 (by kernel_rfl)
    simp only [putAll, pz1, pz2, pz3, pz4, Act.put, pz5, pz6, pz7, d1] at hA
    clear hd d1
    obtain rfl := hA
    go_wp2
    exact hK.out _ brf
   apply grow_eq
   ·intro V W K A hW hd hA hK
    have d2 : V 2 = _ := hd 2 (by kernel_rfl)
    simp only [putAll, pz1, pz2, pz3, pz4, Act.put, pz5, pz6, pz7, d2] at hA
    clear hd d2
    obtain rfl := hA
    go_wp2
    exact hK.out _ brf
   apply grow_eq
   ·intro V W K A hW hd hA hK
    have d3 : V 3 = _ := hd 3 (by kernel_rfl)
    simp only [putAll, pz1, pz2, pz3, pz4, Act.put, pz5, pz6, pz7, d3] at hA
    clear hd d3
    obtain rfl := hA
    have z0 := blk_cell (below_blk hW T0.out (by rw [HS.out]; omega)) 0 rfl
    have z1 := blk_cell (below_blk hW T0.out (by rw [HS.out]; omega)) 1 rfl
    have z2 := blk_cell (below_blk hW T0.out (by rw [HS.out]; omega)) 2 rfl
    have z3 := blk_cell (below_blk hW T0.out (by rw [HS.out]; omega)) 3 rfl
    have z4 := blk_cell (below_blk hW T0.out (by rw [HS.out]; omega)) 4 rfl
    have z5 := blk_cell (below_blk hW T0.out (by rw [HS.out]; omega)) 5 rfl
    have z6 := blk_cell (below_blk hW T0.out (by rw [HS.out]; omega)) 6 rfl
    have z7 := blk_cell (below_blk hW T0.out (by rw [HS.out]; omega)) 7 rfl
    have z8 := blk_cell (below_blk hW T0.out (by rw [HS.out]; omega)) 8 rfl
    have z9 := blk_cell (below_blk hW T0.out (by rw [HS.out]; omega)) 9 rfl
    have z10 := blk_cell (below_blk hW T0.out (by rw [HS.out]; omega)) 10 rfl
    have z11 := blk_cell (below_blk hW T0.out (by rw [HS.out]; omega)) 11 rfl
    have z12 := blk_cell (below_blk hW T0.out (by rw [HS.out]; omega)) 12 rfl
    go_wp2
    exact hK.out _ brf
   apply grow_eq
   ·intro V W K A hW hd hA hK
    have d3 : V 3 = _ := hd 3 (by kernel_rfl)
    have d4 : V 4 = _ := hd 4 (by kernel_rfl)
    simp only [putAll, pz1, pz2, pz3, pz4, Act.put, pz5, pz6, pz7, d3, d4] at hA
    clear hd d3 d4
    obtain rfl := hA
    go_wp2_with fail
    refine (HR.out _).mono ?_
    rintro e w3 ⟨rfl, hb3⟩
    go_wp2
    exact hK.out _ hb3
   apply grow_eq
   ·intro V W K A hW hd hA hK
    have d3 : V 3 = _ := hd 3 (by kernel_rfl)
    simp only [putAll, pz1, pz2, pz3, pz4, Act.put, pz5, pz6, pz7, d3] at hA
    clear hd d3
    obtain rfl := hA
    have y0 := blk_cell (below_blk hW T1.out (by rw [HS.out]; omega)) 0 rfl
    have y1 := blk_cell (below_blk hW T1.out (by rw [HS.out]; omega)) 1 rfl
    have y2 := blk_cell (below_blk hW T1.out (by rw [HS.out]; omega)) 2 rfl
    have y3 := blk_cell (below_blk hW T1.out (by rw [HS.out]; omega)) 3 rfl
    have y4 := blk_cell (below_blk hW T1.out (by rw [HS.out]; omega)) 4 rfl
    have y5 := blk_cell (below_blk hW T1.out (by rw [HS.out]; omega)) 5 rfl
    have y6 := blk_cell (below_blk hW T1.out (by rw [HS.out]; omega)) 6 rfl
    go_wp2
    exact hK.out _ brf
   apply grow_eq
   ·intro V W K A hW hd hA hK
    have d3 : V 3 = _ := hd 3 (by kernel_rfl)
    simp only [putAll, pz1, pz2, pz3, pz4, Act.put, pz5, pz6, pz7, d3] at hA
    clear hd d3
    obtain rfl := hA
    go_wp2
    exact hK.out _ brf
   apply grow_eq
   ·intro V W K A hW hd hA hK
    have d3 : V 3 = _ := hd 3 (by kernel_rfl)
    have d5 : V 5 = _ := hd 5 (by kernel_rfl)
    have d6 : V 6 = _ := hd 6 (by kernel_rfl)
    have d7 : V 7 = _ := hd 7 (by kernel_rfl)
    simp only [putAll, pz1, pz2, pz3, pz4, Act.put, pz5, pz6, pz7, d3, d5, d6, d7] at hA
    clear hd d3 d5 d6 d7
    obtain rfl := hA
    go_wp2_with fail
    refine (HA2.out _).mono ?_
    rintro e w3 ⟨rfl, hb3⟩
    go_wp2
    exact hK.out _ hb3
   apply grow_eq
   ·intro V W K A hW hd hA hK
    have d3 : V 3 = _ := hd 3 (by kernel_rfl)
    have d8 : V 8 = _ := hd 8 (by kernel_rfl)
    simp only [putAll, pz1, pz2, pz3, pz4, Act.put, pz5, pz6, pz7, d3, d8] at hA
    clear hd d3 d8
    obtain rfl := hA
    go_wp2
    exact hK.out _ brf
   intro V W A hW hS hA
   have d0 : V 0 = _ := hS 0 (by omega)
   have d1 : V 1 = _ := hS 1 (by omega)
   have d2 : V 2 = _ := hS 2 (by omega)
   have d3 : V 3 = _ := hS 3 (by omega)
   have d4 : V 4 = _ := hS 4 (by omega)
   have d5 : V 5 = _ := hS 5 (by omega)
   have d6 : V 6 = _ := hS 6 (by omega)
   have d7 : V 7 = _ := hS 7 (by omega)
   have d8 : V 8 = _ := hS 8 (by omega)
   have d9 : V 9 = _ := hS 9 (by omega)
   simp only [putAll, pz1, pz2, pz3, pz4, Act.put, pz5, pz6, pz7, d0, d1, d2, d3, d4, d5, d6, d7, d8, d9] at hA
   clear hS d0 d1 d2 d3 d4 d5 d6 d7 d8 d9
   obtain rfl := hA
   simp only [List.drop_succ_cons, List.drop_zero]
   go_wp2
   go_ret
   exact ⟨ret_bool (by rw [HF.out]; simp), hbb.trans (hW.mono hbb.size)⟩
  ·have HR : Hid _ := fun W => HR1.out W rfl
   clear HR1 HR2
   go_enter Tryz.func226, Tryz.ntmps226
   go_wp2
   refine wp_region_grows 10 (by kernel_rfl) (by kernel_rfl) ?_
   apply grow_eq
   ·intro V W K A hW hd hA hK
    simp only [putAll, pz1, pz2, pz3, pz4, Act.put, pz5, pz6, pz7] at hA
    clear hd
    obtain rfl := hA
    go_wp2
    exact hK.out _ brf
   apply grow_eq
   ·intro V W K A hW hd hA hK
    have d0 : V 0 = _ := hd 0 (by kernel_rfl)
    simp only [putAll, pz1, pz2, pz3, pz4, Act.put, pz5, pz6, pz7, d0] at hA
    clear hd d0
    obtain rfl := hA
    have y0 := blk_cell (below_blk hW T1.out (by rw [HS.out]; omega)) 0 rfl
    have y1 := blk_cell (below_blk hW T1.out (by rw [HS.out]; omega)) 1 rfl
    have y2 := blk_cell (below_blk hW T1.out (by rw [HS.out]; omega)) 2 rfl
    have y3 := blk_cell (below_blk hW T1.out (by rw [HS.out]; omega)) 3 rfl
    have y4 := blk_cell (below_blk hW T1.out (by rw [HS.out]; omega)) 4 rfl
    have y5 := blk_cell (below_blk hW T1.out (by rw [HS.out]; omega)) 5 rfl
    have y6 := blk_cell (below_blk hW T1.out (by rw [HS.out]; omega)) 6 rfl
    go_wp2
    exact hK.out _ brf
   apply grow_eq
   ·intro V W K A hW hd hA hK
    have d1 : V 1 = _ := hd 1 (by kernel_rfl)
    simp only [putAll, pz1, pz2, pz3, pz4, Act.put, pz5, pz6, pz7, d1] at hA
    clear hd d1
    obtain rfl := hA
    go_wp2
    exact hK.out _ brf
   apply grow_eq
   ·intro V W K A hW hd hA hK
    have d2 : V 2 = _ := hd 2 (by kernel_rfl)
    simp only [putAll, pz1, pz2, pz3, pz4, Act.put, pz5, pz6, pz7, d2] at hA
    clear hd d2
    obtain rfl := hA
    go_wp2
    exact hK.out _ brf
   apply grow_eq
   ·intro V W K A hW hd hA hK
    have d3 : V 3 = _ := hd 3 (by kernel_rfl)
    simp only [putAll, pz1, pz2, pz3, pz4, Act.put, pz5, pz6, pz7, d3] at hA
    clear hd d3
    obtain rfl := hA
    have z0 := blk_cell (below_blk hW T0.out (by rw [HS.out]; omega)) 0 rfl
    have z1 := blk_cell (below_blk hW T0.out (by rw [HS.out]; omega)) 1 rfl
    have z2 := blk_cell (below_blk hW T0.out (by rw [HS.out]; omega)) 2 rfl
    have z3 := blk_cell (below_blk hW T0.out (by rw [HS.out]; omega)) 3 rfl
    have z4 := blk_cell (below_blk hW T0.out (by rw [HS.out]; omega)) 4 rfl
    have z5 := blk_cell (below_blk hW T0.out (by rw [HS.out]; omega)) 5 rfl
    have z6 := blk_cell (below_blk hW T0.out (by rw [HS.out]; omega)) 6 rfl
    have z7 := blk_cell (below_blk hW T0.out (by rw [HS.out]; omega)) 7 rfl
    have z8 := blk_cell (below_blk hW T0.out (by rw [HS.out]; omega)) 8 rfl
    have z9 := blk_cell (below_blk hW T0.out (by rw [HS.out]; omega)) 9 rfl
    have z10 := blk_cell (below_blk hW T0.out (by rw [HS.out]; omega)) 10 rfl
    have z11 := blk_cell (below_blk hW T0.out (by rw [HS.out]; omega)) 11 rfl
    have z12 := blk_cell (below_blk hW T0.out (by rw [HS.out]; omega)) 12 rfl
    go_wp2
    exact hK.out _ brf
   apply grow_eq
   ·intro V W K A hW hd hA hK
    have d3 : V 3 = _ := hd 3 (by kernel_rfl)
    have d4 : V 4 = _ := hd 4 (by kernel_rfl)
    simp only [putAll, pz1, pz2, pz3, pz4, Act.put, pz5, pz6, pz7, d3, d4] at hA
    clear hd d3 d4
    obtain rfl := hA
    go_wp2_with fail
    refine (HR.out _).mono ?_
    rintro e w3 ⟨rfl, hb3⟩
    go_wp2
    exact hK.out _ hb3
   apply grow_eq
   ·intro V W K A hW hd hA hK
    have d3 : V 3 = _ := hd 3 (by kernel_rfl)
    simp only [putAll, pz1, pz2, pz3, pz4, Act.put, pz5, pz6, pz7, d3] at hA
    clear hd d3
    obtain rfl := hA
    have y0 := blk_cell (below_blk hW T1.out (by rw [HS.out]; omega)) 0 rfl
    have y1 := blk_cell (below_blk hW T1.out (by rw [HS.out]; omega)) 1 rfl
    have y2 := blk_cell (below_blk hW T1.out (by rw [HS.out]; omega)) 2 rfl
    have y3 := blk_cell (below_blk hW T1.out (by rw [HS.out]; omega)) 3 rfl
    have y4 := blk_cell (below_blk hW T1.out (by rw [HS.out]; omega)) 4 rfl
    have y5 := blk_cell (below_blk hW T1.out (by rw [HS.out]; omega)) 5 rfl
    have y6 := blk_cell (below_blk hW T1.out (by rw [HS.out]; omega)) 6 rfl
    go_wp2
    exact hK.out _ brf
   apply grow_eq
   ·intro V W K A hW hd hA hK
    have d3 : V 3 = _ := hd 3 (by kernel_rfl)
    simp only [putAll, pz1, pz2, pz3, pz4, Act.put, pz5, pz6, pz7, d3] at hA
    clear hd d3
    obtain rfl := hA
    go_wp2
    exact hK.out _ brf
   apply grow_eq
   ·intro V W K A hW hd hA hK
    have d3 : V 3 = _ := hd 3 (by kernel_rfl)
    have d5 : V 5 = _ := hd 5 (by kernel_rfl)
    have d6 : V 6 = _ := hd 6 (by kernel_rfl)
    have d7 : V 7 = _ := hd 7 (by kernel_rfl)
    simp only [putAll, pz1, pz2, pz3, pz4, Act.put, pz5, pz6, pz7, d3, d5, d6, d7] at hA
    clear hd d3 d5 d6 d7
    obtain rfl := hA
    go_wp2_with fail
    refine (HA1.out _).mono ?_
    rintro e w3 ⟨rfl, hb3⟩
    go_wp2
    exact hK.out _ hb3
   apply grow_eq
   ·intro V W K A hW hd hA hK
    have d3 : V 3 = _ := hd 3 (by kernel_rfl)
    have d8 : V 8 = _ := hd 8 (by kernel_rfl)
    simp only [putAll, pz1, pz2, pz3, pz4, Act.put, pz5, pz6, pz7, d3, d8] at hA
    clear hd d3 d8
    obtain rfl := hA
    go_wp2
    exact hK.out _ brf
   intro V W A hW hS hA
   have d0 : V 0 = _ := hS 0 (by omega)
   have d1 : V 1 = _ := hS 1 (by omega)
   have d2 : V 2 = _ := hS 2 (by omega)
   have d3 : V 3 = _ := hS 3 (by omega)
   have d4 : V 4 = _ := hS 4 (by omega)
   have d5 : V 5 = _ := hS 5 (by omega)
   have d6 : V 6 = _ := hS 6 (by omega)
   have d7 : V 7 = _ := hS 7 (by omega)
   have d8 : V 8 = _ := hS 8 (by omega)
   have d9 : V 9 = _ := hS 9 (by omega)
   simp only [putAll, pz1, pz2, pz3, pz4, Act.put, pz5, pz6, pz7, d0, d1, d2, d3, d4, d5, d6, d7, d8, d9] at hA
   clear hS d0 d1 d2 d3 d4 d5 d6 d7 d8 d9
   obtain rfl := hA
   simp only [List.drop_succ_cons, List.drop_zero]
   go_wp2
   go_ret
   exact ⟨ret_bool (by rw [HF.out]; rfl), hbb.trans (hW.mono hbb.size)⟩
 ·clear HR1 HR2
  go_enter Tryz.func226, Tryz.ntmps226
  go_wp2
  refine wp_region_grows 10 (by kernel_rfl) (by kernel_rfl) ?_
  apply grow_eq
  ·intro V W K A hW hd hA hK
   simp only [putAll, pz1, pz2, pz3, pz4, Act.put, pz5, pz6, pz7] at hA
   clear hd
   obtain rfl := hA
   go_wp2
   exact hK.out _ brf
  apply grow_eq
  ·intro V W K A hW hd hA hK
   have d0 : V 0 = _ := hd 0 (by kernel_rfl)
   simp only [putAll, pz1, pz2, pz3, pz4, Act.put, pz5, pz6, pz7, d0] at hA
   clear hd d0
   obtain rfl := hA
   have y0 := blk_cell (below_blk hW T1.out (by rw [HS.out]; omega)) 0 rfl
   have y1 := blk_cell (below_blk hW T1.out (by rw [HS.out]; omega)) 1 rfl
   have y2 := blk_cell (below_blk hW T1.out (by rw [HS.out]; omega)) 2 rfl
   have y3 := blk_cell (below_blk hW T1.out (by rw [HS.out]; omega)) 3 rfl
   have y4 := blk_cell (below_blk hW T1.out (by rw [HS.out]; omega)) 4 rfl
   have y5 := blk_cell (below_blk hW T1.out (by rw [HS.out]; omega)) 5 rfl
   have y6 := blk_cell (below_blk hW T1.out (by rw [HS.out]; omega)) 6 rfl
   go_wp2
   exact hK.out _ brf
  apply grow_eq
  ·intro V W K A hW hd hA hK
   have d1 : V 1 = _ := hd 1 (by kernel_rfl)
   simp only [putAll, pz1, pz2, pz3, pz4, Act.put, pz5, pz6, pz7, d1] at hA
   clear hd d1
   obtain rfl := hA
   go_wp2
   exact hK.out _ brf
  apply grow_eq
  ·intro V W K A hW hd hA hK
   have d2 : V 2 = _ := hd 2 (by kernel_rfl)
   simp only [putAll, pz1, pz2, pz3, pz4, Act.put, pz5, pz6, pz7, d2] at hA
   clear hd d2
   obtain rfl := hA
   go_wp2
   exact hK.out _ brf
  apply grow_eq
  ·intro V W K A hW hd hA hK
   have d3 : V 3 = _ := hd 3 (by kernel_rfl)
   simp only [putAll, pz1, pz2, pz3, pz4, Act.put, pz5, pz6, pz7, d3] at hA
   clear hd d3
   obtain rfl := hA
   go_wp2
   exact hK.out _ brf
  apply grow_eq
  ·intro V W K A hW hd hA hK
   have d3 : V 3 = _ := hd 3 (by kernel_rfl)
   simp only [putAll, pz1, pz2, pz3, pz4, Act.put, pz5, pz6, pz7, d3] at hA
   clear hd d3
   obtain rfl := hA
   go_wp2
   exact hK.out _ brf
  apply grow_eq
  ·intro V W K A hW hd hA hK
   have d3 : V 3 = _ := hd 3 (by kernel_rfl)
   simp only [putAll, pz1, pz2, pz3, pz4, Act.put, pz5, pz6, pz7, d3] at hA
   clear hd d3
   obtain rfl := hA
   go_wp2
   exact hK.out _ brf
  apply grow_eq
  ·intro V W K A hW hd hA hK
   have d3 : V 3 = _ := hd 3 (by kernel_rfl)
   simp only [putAll, pz1, pz2, pz3, pz4, Act.put, pz5, pz6, pz7, d3] at hA
   clear hd d3
   obtain rfl := hA
   go_wp2
   exact hK.out _ brf
  apply grow_eq
  ·intro V W K A hW hd hA hK
   have d3 : V 3 = _ := hd 3 (by kernel_rfl)
   simp only [putAll, pz1, pz2, pz3, pz4, Act.put, pz5, pz6, pz7, d3] at hA
   clear hd d3
   obtain rfl := hA
   go_wp2
   exact hK.out _ brf
  apply grow_eq
  ·intro V W K A hW hd hA hK
   have d3 : V 3 = _ := hd 3 (by kernel_rfl)
   have d8 : V 8 = _ := hd 8 (by kernel_rfl)
   simp only [putAll, pz1, pz2, pz3, pz4, Act.put, pz5, pz6, pz7, d3, d8] at hA
   clear hd d3 d8
   obtain rfl := hA
   go_wp2
   exact hK.out _ brf
  intro V W A hW hS hA
  have d0 : V 0 = _ := hS 0 (by omega)
  have d1 : V 1 = _ := hS 1 (by omega)
  have d2 : V 2 = _ := hS 2 (by omega)
  have d3 : V 3 = _ := hS 3 (by omega)
  have d4 : V 4 = _ := hS 4 (by omega)
  have d5 : V 5 = _ := hS 5 (by omega)
  have d6 : V 6 = _ := hS 6 (by omega)
  have d7 : V 7 = _ := hS 7 (by omega)
  have d8 : V 8 = _ := hS 8 (by omega)
  have d9 : V 9 = _ := hS 9 (by omega)
  simp only [putAll, pz1, pz2, pz3, pz4, Act.put, pz5, pz6, pz7, d0, d1, d2, d3, d4, d5, d6, d7, d8, d9] at hA
  clear hS d0 d1 d2 d3 d4 d5 d6 d7 d8 d9
  obtain rfl := hA
  simp only [List.drop_succ_cons, List.drop_zero]
  go_wp2
  go_ret
  exact ⟨ret_bool (by rw [HF.out]; rfl), hbb.trans (hW.mono hbb.size)⟩
end Go.Proofs.YtbceafpodamnfabGreatDoor

namespace Go.Proofs.YtbceafpodamnfabGreatDoor
open Go.RowKit Go.Sort
theorem mayL_R (B : Bk) (s : Svc) (sv : ByteArray) (c : Cp) : mayL B s sv c = mayR s c (cntTo s.image sv B.cps B.cps.length).ready := by
 unfold mayL mayR
 cases c.ending <;> cases (c.state != 3) <;> cases s.gone <;> rfl
theorem Valid.wfC {B : Bk} (h : Valid B) : wfC B := fun c hc => by
 obtain ⟨s, hs, hok⟩ := h.svc hc
 have hi := h.svcIn (svcOf_mem hs)
 have h0 := hi.next0
 have h1 := hi.next1
 unfold cpOk at hok
 simp only [Bool.and_eq_true, inB_iff] at hok
 have e : wrap64 (s.next - 1) = s.next - 1 := by unfold wrap64; omega
 rw [e] at hok
 exact WalkArith.wf_i64 (by omega)
end Go.Proofs.YtbceafpodamnfabGreatDoor
