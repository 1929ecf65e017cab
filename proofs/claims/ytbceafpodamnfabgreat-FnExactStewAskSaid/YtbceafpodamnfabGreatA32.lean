/-
  My own. The statement on StewAsk, proved.
-/
import Derived.Test.YtbceafpodamnfabGreatRows
import Derived.Test.YtbceafpodamnfabGreatA04
import Derived.Test.YtbceafpodamnfabGreatA31
import Derived.Test.YtbceafpodamnfabGreatA18
import Derived.ProofKit
namespace Go.Proofs.YtbceafpodamnfabGreat
open Go.ChangeShapes Go.WideShapes Go.ChangeAt Go.RowKit
open Go.Sort

theorem lawAsk_any (kind : Int) (B : Bk) (a1 a2 a3 : Option Addr) (c1 c2 c3 : Nat) (w : World) (hZ : B.sized) (hB : BkAt w a1 a2 a3 B) :
    Calls Tryz.prog 3 #[.int .i64 kind, .agg #[.int .i64 B.now, .slice a1 B.svcs.length c1, .slice a2 B.cps.length c2, .slice a3 B.bts.length c3]] w fun e w' => e = .returned (.bool true) ∧ Below w.heap.size w w' :=
  lawAsk_of kind B (askOf kind B) a1 a2 a3 c1 c2 c3 w hZ hB (askOf_len kind B) (askOf_ends kind B) (fun hS x1 x2 x3 d1 d2 d3 W h => specAsk_sl kind B x1 x2 x3 d1 d2 d3 W hS hZ h)
    (fun hS x1 x2 x3 d1 d2 d3 W hk h => by have := implAsk_any kind B x1 x2 x3 d1 d2 d3 W hk hS hZ h; rw [askP_eq] at this; exact this)

theorem ownTryA : ownKnob Tryz.prog.godebug = none := by kernel_rfl

set_option maxRecDepth 100000 in
theorem liftedAsk (os : Os) (started : os.Started) (H : Type) (enc : TypeId × Value → H) :
    ReturnsInHanded {} Tryz.checked os 3 .any (Rows.fnExactStewAskSpec.pre6 enc Tryz.prog Tryz.f3 Rows.fnExactStewAskRow.domain false) (Rows.fnExactStewAskSpec.post enc Tryz.prog Tryz.f3 false true false false) := by
  refine returnsInHanded_of_change (C := Tryz.checked) ownTryA started (by kernel_rfl) Tryz.func3
    (ChangeSpec.witness6 (enc := enc) (C := Tryz.checked) false ⟨#[], #[.int .i64 0, .agg #[.int .i64 0, .slice none 0 0, .slice none 0 0, .slice none 0 0]], []⟩ 8 (by kernel_rfl) (by kernel_rfl) (by kernel_rfl) (by kernel_rfl)) ?_
  intro W base args ds gs before hval0 hW hcnd _
  have hval : ∀ (j : Nat) t v, Tryz.f3.params[j]? = some t → args[j]? = some v → Value.okWide Tryz.prog W .any base t v := hval0
  have hW' := hW
  obtain ⟨p, q, hA0, hV, rfl, hfz, hnd⟩ := hW
  have hA : DataW.TrodAll enc Tryz.prog W 0 (fun _ => true) true Tryz.f3.params.toList args.toList ds p := hA0
  rw [Tryz.params3] at hA hval
  obtain ⟨v0, vs0, d0, ds0, p0, q0, hargs, rfl, rfl, h0, r0⟩ := trodAll_cons hA
  obtain ⟨v1, vs1, d1, ds1, p1, q1, rfl, rfl, rfl, h1, r1⟩ := trodAll_cons r0
  obtain ⟨rfl, rfl, rfl⟩ := trodAll_nil r1
  obtain rfl : args = #[v0, v1] := by cases args; simp_all
  obtain ⟨rfl, rfl⟩ := trodVars_none hV
  have k1 := h1
  have lt1 : ∀ x ∈ p1, x.block < W.heap.size := by obtain ⟨m, hm⟩ := k1; exact DataW.trod_lt m _ _ _ hm
  obtain ⟨kind, rfl, rfl, rfl, hkind⟩ := open_int Tryz.underlying3 (hval 0 3 v0 rfl rfl) h0
  obtain ⟨B, a1, a2, a3, c1, c2, c3, rfl, hB, hZ⟩ := open_Book (hval 1 26 v1 rfl rfl) h1
  clear hA0 hval0
  refine (lawAsk_any kind B a1 a2 a3 c1 c2 c3 W hZ hB).mono fun e W' ⟨he, bel⟩ => ?_
  subst he
  exact ⟨_, rfl, _, _, _, [], _, [], hW', trodAll_mk1 (shut_bool Tryz.underlying4 _), (trodAll_cons_mk (shut_int Tryz.underlying3 hkind) (trodAll_cons_mk (Below.trod Tryz.laidOutB (by kernel_rfl) (of_decide_eq_true (by kernel_rfl)) k1 bel lt1) trodAll_mk0)), rfl, bel.frame _, fun h => by cases h⟩

theorem overAsk : Rows.fnExactStewAskRow.holds Tryz.pinned (OpenSpec.ofChange Rows.fnExactStewAskSpec) :=
  OpenClaim.holds_of_wide 3 Tryz.f3 rfl rfl rfl rfl rfl rfl rfl ⟨rfl, rfl, rfl, rfl, rfl⟩ rfl rfl rfl rfl rfl (by kernel_rfl) Tryz.func3 (by kernel_rfl)
    (of_decide_eq_true (by kernel_rfl)) (by unfold Func.isWrapper; first | (rw [if_pos (by decide +kernel)]; kernel_rfl) | (rw [if_neg (by decide +kernel)]; exact ⟨rfl, rfl⟩))
    (fun os started H enc _ => liftedAsk os started H enc)

theorem ask_holds : Rows.FnExactStewAskSaid := overAsk
#print axioms ask_holds
end Go.Proofs.YtbceafpodamnfabGreat
