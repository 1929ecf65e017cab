/-
  My own: Je.
-/
import Derived.Test.YtbceafpodamnfabGreatG03
import Derived.Test.YtbceafpodamnfabGreatG08
set_option linter.unusedVariables false
set_option linter.unusedSimpArgs false
namespace Go.Proofs.YtbceafpodamnfabGreat
open Go.ChangeShapes Go.WideShapes Go.ChangeAt Go.RowKit Go.Deep
section
variable {H : Type} {enc : TypeId × Value → H} {w : World} {base : Nat} {spare : Nat → Bool} {held : Bool}
set_option maxRecDepth 100000 in
theorem cellsEvent : Tryz.prog.cellsOf 44 = 17 := by kernel_rfl
set_option maxRecDepth 100000 in
theorem open_EvC {n : Nat} {cs : List Value} {x : DataW H × List MemPlace} (h : DataW.trod enc Tryz.prog w base spare held n 44 cs = some x) : ∃ E : Ev, cs.toArray = #[.int .i64 E.kind, .string E.service.name, .int .i64 E.service.version, .bool E.service.gone, .int .i64 E.service.image, .int .i64 E.service.want, .int .i64 E.service.down, .int .i64 E.service.over, .int .i64 E.service.next, .int .i64 E.service.per, .int .i64 E.service.least, .int .i64 E.service.most, .int .i64 E.service.load, .int .i64 E.service.cool, .string E.name, .int .i64 E.number, .bool E.flag] ∧ E.sized ∧ (Lit.int .i64 E.number).wf = true := by
 obtain ⟨xs, m, rfl, _, hlen, hxs, hf⟩ := DataW.trod_struct Tryz.underlying44 h
 rw [cellsEvent] at hlen
 have hx : xs.length = 5 := hxs
 match cs, hlen with
 | [c0, c1, c2, c3, c4, c5, c6, c7, c8, c9, c10, c11, c12, c13, c14, c15, c16], _ =>
  have h0 : DataW.trod enc Tryz.prog w base spare held m 3 (List.take (Tryz.prog.cellsOf 3) (List.drop 0 [c0, c1, c2, c3, c4, c5, c6, c7, c8, c9, c10, c11, c12, c13, c14, c15, c16])) = xs[0]? := hf 0 _ rfl
  rw [List.getElem?_eq_getElem (show 0 < xs.length by omega)] at h0
  simp only [List.drop_zero, List.drop_succ_cons, List.take_succ_cons, List.take_zero, intCells] at h0
  obtain ⟨v0, e0, _, w0⟩ := DataW.trod_int Tryz.underlying3 h0
  have h1 : DataW.trod enc Tryz.prog w base spare held m 42 (List.take (Tryz.prog.cellsOf 42) (List.drop 1 [c0, c1, c2, c3, c4, c5, c6, c7, c8, c9, c10, c11, c12, c13, c14, c15, c16])) = xs[1]? := hf 1 _ rfl
  rw [List.getElem?_eq_getElem (show 1 < xs.length by omega)] at h1
  simp only [List.drop_zero, List.drop_succ_cons, List.take_succ_cons, List.take_zero, cellsService] at h1
  skip
  have h2 : DataW.trod enc Tryz.prog w base spare held m 9 (List.take (Tryz.prog.cellsOf 9) (List.drop 14 [c0, c1, c2, c3, c4, c5, c6, c7, c8, c9, c10, c11, c12, c13, c14, c15, c16])) = xs[2]? := hf 2 _ rfl
  rw [List.getElem?_eq_getElem (show 2 < xs.length by omega)] at h2
  simp only [List.drop_zero, List.drop_succ_cons, List.take_succ_cons, List.take_zero, stringCells] at h2
  obtain ⟨v2, e2, _, z2⟩ := DataW.trod_string Tryz.underlying9 h2
  have h3 : DataW.trod enc Tryz.prog w base spare held m 3 (List.take (Tryz.prog.cellsOf 3) (List.drop 15 [c0, c1, c2, c3, c4, c5, c6, c7, c8, c9, c10, c11, c12, c13, c14, c15, c16])) = xs[3]? := hf 3 _ rfl
  rw [List.getElem?_eq_getElem (show 3 < xs.length by omega)] at h3
  simp only [List.drop_zero, List.drop_succ_cons, List.take_succ_cons, List.take_zero, intCells] at h3
  obtain ⟨v3, e3, _, w3⟩ := DataW.trod_int Tryz.underlying3 h3
  have h4 : DataW.trod enc Tryz.prog w base spare held m 4 (List.take (Tryz.prog.cellsOf 4) (List.drop 16 [c0, c1, c2, c3, c4, c5, c6, c7, c8, c9, c10, c11, c12, c13, c14, c15, c16])) = xs[4]? := hf 4 _ rfl
  rw [List.getElem?_eq_getElem (show 4 < xs.length by omega)] at h4
  simp only [List.drop_zero, List.drop_succ_cons, List.take_succ_cons, List.take_zero, boolCells] at h4
  obtain ⟨v4, e4, _⟩ := DataW.trod_bool Tryz.underlying4 h4
  obtain ⟨s, e1, z1⟩ := open_Svc h1
  simp only [Svc.cells, List.cons.injEq, and_true] at e0 e1 e2 e3 e4
  obtain ⟨rfl, rfl, rfl, rfl, rfl, rfl, rfl, rfl, rfl, rfl, rfl, rfl, rfl⟩ := e1
  subst e0 e2 e3 e4
  exact ⟨⟨v0, s, v2, v3, v4⟩, rfl, ⟨z1, z2⟩, by assumption⟩
set_option maxRecDepth 100000 in
theorem open_Event {r : Reach} {b0 : Nat} {v : Value} {d : DataW H} {p : List MemPlace} (hv : Value.okWide Tryz.prog w r b0 44 v) (h : DataW.Trod enc Tryz.prog w base spare held 44 v d p) :
  ∃ E : Ev, v = .agg #[.int .i64 E.kind, .string E.service.name, .int .i64 E.service.version, .bool E.service.gone, .int .i64 E.service.image, .int .i64 E.service.want, .int .i64 E.service.down, .int .i64 E.service.over, .int .i64 E.service.next, .int .i64 E.service.per, .int .i64 E.service.least, .int .i64 E.service.most, .int .i64 E.service.load, .int .i64 E.service.cool, .string E.name, .int .i64 E.number, .bool E.flag] ∧ E.sized ∧ (Lit.int .i64 E.number).wf = true := by
 obtain ⟨cs, rfl, _⟩ := okWide_struct Tryz.underlying44 hv
 obtain ⟨fuel, hf⟩ := h
 obtain ⟨E, e, h1, h2⟩ := open_EvC hf
 refine ⟨E, ?_, h1, h2⟩
 rw [← e]
 simp [Value.cells]
end
end Go.Proofs.YtbceafpodamnfabGreat
