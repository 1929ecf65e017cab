/-
  My own: Sa.
-/
import Derived.Test.YtbceafpodamnfabGreatA08
import Derived.Test.YtbceafpodamnfabGreatA05
import Derived.Test.YtbceafpodamnfabGreatA01
import Derived.Test.YtbceafpodamnfabGreatA07
import Derived.Test.YtbceafpodamnfabGreatA00
set_option linter.unusedVariables false
set_option linter.unusedSimpArgs false
/-
  My own. The program's stewards: what they see; the small functions.
-/
namespace Go.Proofs.YtbceafpodamnfabGreat
open Go.RowKit Go.Sort

/-- A live copy, as it is seen. -/
structure Sn where
  c : Cp
  old : Bool
  drain : Bool

set_option maxHeartbeats 1000000 in
theorem isOld_any (s : Svc) (c : Cp) (w : World) :
    Calls Tryz.prog 110 #[.agg #[.string s.name, .int .i64 s.version, .bool s.gone, .int .i64 s.image, .int .i64 s.want, .int .i64 s.down, .int .i64 s.over, .int .i64 s.next, .int .i64 s.per, .int .i64 s.least, .int .i64 s.most, .int .i64 s.load, .int .i64 s.cool], .agg #[.string c.service, .int .i64 c.number, .int .i64 c.version, .int .i64 c.image, .int .i64 c.state, .bool c.ending, .string c.berth]] w fun e w' => e = .returned (.bool (c.image != s.image)) ∧ Below w.heap.size w w' := by
  have hfin : Below w.heap.size w ((w.alloc (.cells #[.string s.name, .int .i64 s.version, .bool s.gone, .int .i64 s.image, .int .i64 s.want, .int .i64 s.down, .int .i64 s.over, .int .i64 s.next, .int .i64 s.per, .int .i64 s.least, .int .i64 s.most, .int .i64 s.load, .int .i64 s.cool] 48)).alloc (.cells #[.string c.service, .int .i64 c.number, .int .i64 c.version, .int .i64 c.image, .int .i64 c.state, .bool c.ending, .string c.berth] 88)) := ((Below.refl _ _).alloc (Nat.le_refl _) _).alloc (by simp) _
  go_enter Tryz.func110, Tryz.ntmps110
  go_wp2
  go_ret
  exact ⟨rfl, hfin⟩

def tfI (a b : Bool) : Int := if a = b then 0 else if a then -1 else 1

theorem trueFirst_any (a b : Bool) (w : World) :
    Calls Tryz.prog 157 #[.bool a, .bool b] w fun e w' => e = .returned (.int .i64 (tfI a b)) ∧ w' = w := by
  cases a <;> cases b
  all_goals
    go_enter Tryz.func157, Tryz.ntmps157
    go_wp2
    go_ret
    exact ⟨rfl, rfl⟩

theorem isNaN_any (x : Int) (w : World) :
    Calls Tryz.prog 169 #[.int .i64 x] w fun e w' => e = .returned (.bool false) ∧ w' = w := by
  go_enter Tryz.func169, Tryz.ntmps169
  go_wp2
  go_ret
  exact ⟨ret_bool (by simp), rfl⟩

def cmpI (x y : Int) : Int := if x < y then -1 else if y < x then 1 else 0

theorem compare_any (x y : Int) (w : World) :
    Calls Tryz.prog 158 #[.int .i64 x, .int .i64 y] w fun e w' => e = .returned (.int .i64 (cmpI x y)) ∧ w' = w := by
  go_enter Tryz.func158, Tryz.ntmps158
  by_cases h1 : x < y
  · go_wp2_with (go_at_call 169; refine (isNaN_any _ _).mono ?_; rintro e w' ⟨rfl, rfl⟩)
    go_ret
    exact ⟨ret_int (by unfold cmpI; rw [if_pos h1]), rfl⟩
  · by_cases h2 : y < x
    · go_wp2_with (go_at_call 169; refine (isNaN_any _ _).mono ?_; rintro e w' ⟨rfl, rfl⟩)
      go_ret
      exact ⟨ret_int (by unfold cmpI; rw [if_neg (by omega), if_pos h2]), rfl⟩
    · go_wp2_with (go_at_call 169; refine (isNaN_any _ _).mono ?_; rintro e w' ⟨rfl, rfl⟩)
      go_ret
      exact ⟨ret_int (by unfold cmpI; rw [if_neg (by omega), if_neg (by omega)]), rfl⟩

def orI : List Int → Int
  | [] => 0
  | x :: l => if x = 0 then orI l else x
theorem orI_no (l : List Int) : ∀ k, (∀ i x, i < k → l[i]? = some x → x = 0) → orI l = orI (l.drop k) := by
  induction l with
  | nil => intro k _; simp
  | cons y l ih =>
    intro k h
    cases k with
    | zero => rfl
    | succ k =>
      have h0 : y = 0 := h 0 y (by omega) rfl
      subst h0
      simp only [orI, if_true, List.drop_succ_cons]
      exact ih k fun i x hi hx => h (i + 1) x (by omega) (by simpa using hx)
theorem orI_at {l : List Int} {k : Nat} {x : Int} (h : ∀ i x, i < k → l[i]? = some x → x = 0) (hx : l[k]? = some x) (hn : x ≠ 0) : orI l = x := by
  rw [orI_no l k h]
  obtain ⟨hk, e⟩ := List.getElem?_eq_some_iff.1 hx
  rw [List.drop_eq_getElem_cons hk, e]
  simp [orI, hn]
theorem orI_end {l : List Int} (h : ∀ i x, i < l.length → l[i]? = some x → x = 0) : orI l = 0 := by
  rw [orI_no l _ h, List.drop_length]; rfl

set_option maxHeartbeats 2000000 in
theorem or_any (l : List Int) (g : Nat) (w : World) (hl : l.length ≤ 1000) (hg : ∀ i x, l[i]? = some x → w.cell? ⟨g, i, none⟩ = some (.int .i64 x)) :
    Calls Tryz.prog 156 #[.slice (some ⟨g, 0, none⟩) l.length l.length] w fun e w' => e = .returned (.int .i64 (orI l)) ∧ w' = w := by
  have HG : Hid (∀ i x, l[i]? = some x → w.cell? ⟨g, i, none⟩ = some (.int .i64 x)) := hg
  clear hg
  go_enter Tryz.func156, Tryz.ntmps156
  go_wp2
  go_loopw [8] (fun iv wr => ∃ k : Nat, k ≤ l.length ∧ iv = .int .i64 k ∧ w = wr ∧ Hid (∀ i x, i < k → l[i]? = some x → x = 0)) (fun i _ => l.length - (intOf i).toNat)
  case atStart => exact ⟨0, by omega, rfl, rfl, fun i x hi => absurd hi (by omega)⟩
  case round =>
    obtain ⟨k, hk, rfl, rfl, hall⟩ := hrel
    by_cases hlt : k < l.length
    · obtain ⟨x, hx⟩ : ∃ x, l[k]? = some x := ⟨l[k], by simp [hlt]⟩
      have HX : Hid _ := hx
      have hc := HG.out k x hx
      clear hx
      cases hz : (x != 0)
      · have hx0 : x = 0 := by simpa using hz
        have HZ : Hid (∀ i y, i < k + 1 → l[i]? = some y → y = 0) := fun i y hi hy => by
          rcases Nat.lt_or_ge i k with h | h
          · exact hall.out i y h hy
          · obtain rfl : i = k := by omega
            rw [HX.out] at hy; cases hy; exact hx0
        clear hx0
        go_wp2
        go_roundw
        case rel => exact ⟨k + 1, by omega, by go_num, trivial, HZ⟩
        case measure => simp [intOf]; omega
      · have HA : Hid _ := orI_at hall.out HX.out (by simpa using hz)
        go_wp2
        go_ret
        exact ⟨ret_int HA.out.symm, rfl⟩
    · obtain rfl : k = l.length := by omega
      have HA : Hid _ := orI_end hall.out
      go_wp2
      go_ret
      exact ⟨ret_int HA.out.symm, rfl⟩

set_option maxHeartbeats 1000000 in
theorem waver1_any (x : Sn) (w : World) : Calls Tryz.prog 114 #[.agg #[.string x.c.service, .int .i64 x.c.number, .int .i64 x.c.version, .int .i64 x.c.image, .int .i64 x.c.state, .bool x.c.ending, .string x.c.berth, .bool x.old, .bool x.drain]] w fun e w' => e = .returned (.bool x.old) ∧ Below w.heap.size w w' := by
  go_enter Tryz.func114, Tryz.ntmps114
  go_wp2
  go_ret
  exact ⟨rfl, below_box _ _⟩

set_option maxHeartbeats 1000000 in
theorem drainer1_any (x : Sn) (w : World) : Calls Tryz.prog 121 #[.agg #[.string x.c.service, .int .i64 x.c.number, .int .i64 x.c.version, .int .i64 x.c.image, .int .i64 x.c.state, .bool x.c.ending, .string x.c.berth, .bool x.old, .bool x.drain]] w fun e w' => e = .returned (.bool x.drain) ∧ Below w.heap.size w w' := by
  go_enter Tryz.func121, Tryz.ntmps121
  go_wp2
  go_ret
  exact ⟨rfl, below_box _ _⟩

set_option maxHeartbeats 1000000 in
theorem mender1_any (x : Sn) (w : World) : Calls Tryz.prog 117 #[.agg #[.string x.c.service, .int .i64 x.c.number, .int .i64 x.c.version, .int .i64 x.c.image, .int .i64 x.c.state, .bool x.c.ending, .string x.c.berth, .bool x.old, .bool x.drain]] w fun e w' => e = .returned (.bool (x.c.state == 4)) ∧ Below w.heap.size w w' := by
  go_enter Tryz.func117, Tryz.ntmps117
  go_wp2
  go_ret
  exact ⟨rfl, below_box _ _⟩

set_option maxHeartbeats 1000000 in
theorem isSteward_any (k : Int) (w : World) : Calls Tryz.prog 27 #[.int .i64 k] w fun e w' => e = .returned (.bool (inB k 1 6)) ∧ w' = w := by
  go_enter Tryz.func27, Tryz.ntmps27
  go_wp2_with (go_at_call 64; refine (within_any _ _ _ _).mono ?_; rintro e w' ⟨rfl, rfl⟩)
  go_ret
  exact ⟨rfl, rfl⟩

end Go.Proofs.YtbceafpodamnfabGreat
