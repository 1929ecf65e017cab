/-
  My own. Plain data, more: the program's checks of a service, against the specification's.
-/
import Derived.Test.YtbceafpodamnfaaDd
namespace Go.Proofs.Ytbceafpodamnfaa
open Go.RowKit

def numB (s : Svc) : Bool := inB s.image 1 1000000 && inB s.next 1 1000000 && inB s.want 0 10
def spareB (s : Svc) : Bool := inB s.down 0 10 && inB s.over 0 10 && (s.down != 0 || s.over != 0)
def followB (s : Svc) : Bool := inB s.per 0 1000000 && inB s.load 0 1000000 && inB s.least 0 10 && inB s.most 0 10 && decide (s.least ≤ s.most) && inB s.cool 0 3
def stillB (s : Svc) : Bool := s.per != 0 || (s.least == 0 && s.most == 0 && s.load == 0 && s.cool == 0)

theorem svcB_split (now : Int) (s : Svc) : svcB now s = (inB s.version 1 now && (nameB s.name && numB s && spareB s && followB s && stillB s)) := by
  unfold svcB
  generalize nameB s.name = n
  cases n
  · simp
  · rw [Bool.eq_iff_iff]
    by_cases hp : s.per = 0
    · simp [perB, numB, spareB, followB, stillB, inB, hp]
      omega
    · simp only [perB, numB, spareB, followB, stillB, inB, Bool.and_eq_true, Bool.or_eq_true, decide_eq_true_eq, Bool.not_eq_true', beq_eq_false_iff_ne, bne_iff_ne, beq_iff_eq, ne_eq, true_and, if_neg hp]
      omega

theorem bytesLess_irrefl : ∀ l : List UInt8, Op.bytesLess l l = false
  | [] => rfl
  | a :: x => by simp [Op.bytesLess, bytesLess_irrefl x]
theorem bytesLess_tri : ∀ a b : List UInt8, (Op.bytesLess a b || a == b) = !(Op.bytesLess b a)
  | [], [] => by simp [Op.bytesLess]
  | [], _ :: _ => by simp [Op.bytesLess]
  | _ :: _, [] => by simp [Op.bytesLess]
  | a :: x, b :: y => by
    have ih := bytesLess_tri x y
    simp only [Op.bytesLess]
    rcases Nat.lt_trichotomy a.toNat b.toNat with h | h | h
    · have h1 : a < b := UInt8.lt_iff_toNat_lt.2 h
      have h2 : ¬ b < a := fun h' => by have := UInt8.lt_iff_toNat_lt.1 h'; omega
      have h3 : (b == a) = false := by rw [beq_eq_false_iff_ne]; intro e; rw [e] at h; omega
      simp [h1, h2, h3]
    · have e : a = b := UInt8.toNat_inj.1 h
      subst e
      have h2 : ¬ a < a := fun h' => by have := UInt8.lt_iff_toNat_lt.1 h'; omega
      simp [h2] at ih ⊢
      exact ih
    · have h1 : b < a := UInt8.lt_iff_toNat_lt.2 h
      have h2 : ¬ a < b := fun h' => by have := UInt8.lt_iff_toNat_lt.1 h'; omega
      have h3 : (a == b) = false := by rw [beq_eq_false_iff_ne]; intro e; rw [e] at h; omega
      simp [h1, h2, h3]
theorem bytesLess_trans : ∀ a b c : List UInt8, Op.bytesLess a b = true → Op.bytesLess b c = true → Op.bytesLess a c = true
  | _, [], _, h, _ => by simp [Op.bytesLess] at h
  | _, _ :: _, [], _, h => by simp [Op.bytesLess] at h
  | [], _ :: _, _ :: _, _, _ => by simp [Op.bytesLess]
  | a :: x, b :: y, c :: z, h, k => by
    simp only [Op.bytesLess, Bool.or_eq_true, Bool.and_eq_true, decide_eq_true_eq, beq_iff_eq, UInt8.lt_iff_toNat_lt] at *
    rcases h with h | ⟨rfl, h⟩
    · rcases k with k | ⟨rfl, k⟩
      · exact Or.inl (by omega)
      · exact Or.inl h
    · rcases k with k | ⟨rfl, k⟩
      · exact Or.inl k
      · exact Or.inr ⟨rfl, bytesLess_trans x y z h k⟩

end Go.Proofs.Ytbceafpodamnfaa
