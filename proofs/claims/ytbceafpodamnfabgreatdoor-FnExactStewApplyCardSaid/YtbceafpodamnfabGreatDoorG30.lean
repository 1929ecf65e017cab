/-
  My own: Lp, Oh.
-/
import Derived.Test.YtbceafpodamnfabGreatDoorG07
import Derived.Test.YtbceafpodamnfabGreatDoorG09
import Derived.Test.YtbceafpodamnfabGreatDoorG28
set_option linter.unusedVariables false
set_option linter.unusedSimpArgs false
namespace Go.Proofs.YtbceafpodamnfabGreatDoor
open Go Go.RowKit
section
variable {P : Program} {ops : Array Oper} {Q : Exit → Act → World → Prop}
def RelP (p g : Nat) (i : Nat) (W W' : World) : Prop := match Nat.beq i p with
 | true => Only g W W'
 | false => Below W.heap.size W W'
def GrowOpR (P : Program) (ops : Array Oper) (a0 : Act) (n : Nat) (Inv : World → Prop) (p : Nat) (Inv0 : World → Prop) (R : Nat → World → World → Prop) (S : Nat → Value → World → Prop) (i : Nat) (o : Oper) (T : Value → World → Prop) : Prop :=
 ∀ (V : Nat → Value) (W : World) (K : Act → World → Prop), Inv W → (Nat.beq i p = true → Inv0 W) → (∀ j, Region.waitsFor .any ops i j = true → S j (V j) W) →
  Hid (∀ v W', R i W W' → T v W' → K ((putAll ops V n a0).put o.dst v) W') → wpList P ops (KPost K) [o] (putAll ops V n a0) W
def LastsR (R : Nat → World → World → Prop) (j : Nat) (T : Value → World → Prop) : Prop := ∀ i, i ≠ j → ∀ v W W', T v W → R i W W' → T v W'
theorem wpAny_growR {n g p : Nat} {S : Nat → Value → World → Prop} {Inv Inv0 : World → Prop} {R : Nat → World → World → Prop} {a0 : Act}
  (hw : ∀ listed, HeadInv .any ops n listed → ∀ i, i < n → listed.getD i true = false → ∀ t, n ≤ t → t ∉ Region.ready .any ops listed)
  (hn : n ≤ ops.size) (hdB : depsB .any ops n = true) (hd : ownDst ops n = true)
  (hI : ∀ i W W', Inv W → R i W W' → Inv W') (hI0 : ∀ i W W', i ≠ p → Inv0 W → R i W W' → Inv0 W') (hst : ∀ j, LastsR R j (S j))
  (hop : ∀ i o, i < n → ops[i]? = some o → GrowOpR P ops a0 n Inv p Inv0 R S i o (S i))
  (hlast : ∀ V W, Inv W → (∀ j, j < n → S j (V j) W) → wpAny P .any ops Q g (firstN ops n) (putAll ops V n a0) W) :
  ∀ (m : Nat) (listed : Array Bool) (V : Nat → Value) (W : World), HeadInv .any ops n listed → leftOf n listed = m → Inv W → (listed.getD p true = false → Inv0 W) → (∀ j, j < n → listed.getD j false = true → S j (V j) W) →
   wpAny P .any ops Q (m + g) listed (putAll ops V n a0) W
 | 0, listed, V, W, inv, hm, hb, _, hS => by
  have hall : ∀ i, i < n → listed.getD i true = true := by
   intro i hi
   have := List.countP_eq_zero.1 hm i (List.mem_range.2 hi)
   simpa using this
  rw [listed_firstN inv hall, Nat.zero_add]
  refine hlast V W hb fun j hj => hS j hj ?_
  have := hall j hj
  have hjs : j < listed.size := by rw [inv.size]; omega
  simp [hjs] at this ⊢
  exact this
 | m + 1, listed, V, W, inv, hm, hb, hb0, hS => by
  obtain ⟨u, hu, hul⟩ : ∃ u, u < n ∧ listed.getD u true = false := by
   have : 0 < leftOf n listed := by omega
   obtain ⟨u, hu, hul⟩ := List.countP_pos_iff.1 this
   exact ⟨u, List.mem_range.1 hu, by simpa using hul⟩
  rw [show m + 1 + g = (m + g) + 1 by omega]
  refine ⟨fun h0 => absurd h0 (least_ready hdB inv u hu hul), fun i hi => ?_⟩
  have hin : i < n := by
   rcases Nat.lt_or_ge i n with h | h
   ·exact h
   ·exact absurd hi (hw listed inv u hu hul i h)
  obtain ⟨hun, o, ho, hall⟩ := mem_ready.1 hi
  refine wpOp_of_list ho (hop i o hin ho V W _ hb (fun hip => hb0 (by rw [← Nat.eq_of_beq_eq_true hip]; exact hun)) (fun j hj => ?_) fun v W' hb' hs' => ?_)
  ·obtain ⟨oj, hoj, e, he, hbd, hon⟩ := Region.waitsFor_spec hj
   have : oj = o := Option.some.inj (hoj.symm.trans ho)
   subst this
   have hl := hall e he hbd
   rw [hon] at hl
   have hlt : j < n := by
    have h1 := List.all_eq_true.1 hdB i (List.mem_range.2 hin)
    rw [ho] at h1
    have h2 := Array.all_eq_true'.1 h1 e he
    rw [hbd] at h2
    have h3 : e.on < i := by simpa using h2
    omega
   exact hS j hlt hl
  ·have hdst : o.dst = (ops[i]?).bind (·.dst) := by rw [ho]; rfl
   rw [hdst, putAll_upd hd hin]
   have his : i < listed.size := by rw [inv.size]; exact (Array.getElem?_eq_some_iff.1 ho).1
   refine wpAny_growR hw hn hdB hd hI hI0 hst hop hlast m _ _ W' (inv.set hi hin) (by have := leftOf_set hin his hun; omega) (hI i W W' hb hb') (fun hp => ?_) fun j hj hl => ?_
   ·by_cases hip : i = p
    ·subst hip
     rw [show (listed.setIfInBounds i true).getD i true = true by simp] at hp
     cases hp
    ·rw [getD_set_ne true hip] at hp
     exact hI0 i W W' hip (hb0 hp) hb'
   by_cases hji : j = i
   ·subst hji
    simpa [upd] using hs'
   ·rw [getD_set_ne false (Ne.symm hji)] at hl
    have := hst j i (Ne.symm hji) (V j) W W' (hS j hj hl) hb'
    simpa [upd, hji] using this
theorem wp_region_growR {id : Nat} {a : Act} {w : World} {l : List Oper} (n p : Nat) (Inv Inv0 : World → Prop) (R : Nat → World → World → Prop) (S : Nat → Value → World → Prop) (hm : P.follows .mixedOrders = true) (hB : growTailB l.toArray n = true)
  (hS0 : Inv { w with drawn := w.drawn + 1 }) (hS1 : Inv0 { w with drawn := w.drawn + 1 }) (hI : ∀ i W W', Inv W → R i W W' → Inv W') (hI0 : ∀ i W W', i ≠ p → Inv0 W → R i W W' → Inv0 W')
  (hst : ∀ j, LastsR R j (S j)) (hop : ∀ i o, i < n → l.toArray[i]? = some o → GrowOpR P l.toArray a n Inv p Inv0 R S i o (S i))
  (hlast : ∀ V W, Inv W → (∀ j, j < n → S j (V j) W) → wpList P l.toArray Q (l.drop n) (putAll l.toArray V n a) W) : (Code.region id l.toArray true).wp P Q a w := by
 simp only [growTailB, Bool.and_eq_true, decide_eq_true_eq] at hB
 obtain ⟨⟨⟨⟨⟨hn, hs⟩, hc⟩, hdB⟩, hd⟩, hseq⟩ := hB
 refine wp_region_any hm ?_
 have inv0 : HeadInv .any l.toArray n (Array.replicate l.toArray.size false) :=
  ⟨by simp, fun j oj _ hl => (by rw [getD_replicate_false] at hl; cases hl), fun t _ ht => getD_in (by simpa using ht) (getD_replicate_false _ _)⟩
 have hleft : leftOf n (Array.replicate l.toArray.size false) = n := by
  unfold leftOf
  rw [List.countP_eq_length.2]
  ·simp
  ·intro i hi
   have : i < l.toArray.size := by have := List.mem_range.1 hi; omega
   rw [getD_in (by simpa using this) (getD_replicate_false _ _)]
   rfl
 have H := wpAny_growR (P := P) (Q := Q) (g := l.toArray.size - n) (S := S) (Inv := Inv) (Inv0 := Inv0) (p := p) (R := R) (a0 := a) (fun listed inv i hi hu t ht => tail_waits hs hc hn inv _ i rfl hi hu t ht) (by omega) hdB hd hI hI0 hst hop
  (fun V W hb hS => by
   have hdl : (l.drop n).length = l.toArray.size - n := by simp
   have := wpAny_of_seq (md := .any) (Q' := Q) (l.drop n) n (firstN l.toArray n) _ W (fun j => by simp [List.getElem?_drop]) (by rw [hdl]; exact hseq) (hlast V W hb hS)
   rwa [hdl] at this)
  n _ (fun j => match (l.toArray[j]?).bind (·.dst) with | some d => a.tmps.getD d undef | none => undef) { w with drawn := w.drawn + 1 } inv0 hleft hS0 (fun _ => hS1) (fun j _ hl => by rw [getD_replicate_false] at hl; cases hl)
 have e : putAll l.toArray (fun j => match (l.toArray[j]?).bind (·.dst) with | some d => a.tmps.getD d undef | none => undef) n a = a := putAll_self a n
 rw [e, show n + (l.toArray.size - n) = l.toArray.size by omega] at H
 exact H
def growFromR (P : Program) (ops : Array Oper) (a0 : Act) (n : Nat) (Inv : World → Prop) (p : Nat) (Inv0 : World → Prop) (R : Nat → World → World → Prop) (L : (Nat → Value → World → Prop) → Prop) : List Oper → Nat → (Nat → Value → World → Prop) → Prop
 | [], _, S => L S
 | o :: rest, i, S => ∃ T, LastsR R i T ∧ GrowOpR P ops a0 n Inv p Inv0 R S i o T ∧ growFromR P ops a0 n Inv p Inv0 R L rest (i + 1) (updS S i T)
theorem growR_op {a0 : Act} {n p : Nat} {Inv Inv0 : World → Prop} {R : Nat → World → World → Prop} {L : (Nat → Value → World → Prop) → Prop} {o : Oper} {rest : List Oper} {i : Nat} {S : Nat → Value → World → Prop} (T : Value → World → Prop) (hT : LastsR R i T)
  (h : ∀ (V : Nat → Value) (W : World) (K : Act → World → Prop) (A : Act), Inv W → (Nat.beq i p = true → Inv0 W) → (∀ j, Region.waitsFor .any ops i j = true → S j (V j) W) → Hid (A = putAll ops V n a0) →
   Hid (∀ v W', R i W W' → T v W' → K (A.put o.dst v) W') → wpList P ops (KPost K) [o] A W)
  (hr : growFromR P ops a0 n Inv p Inv0 R L rest (i + 1) (updS S i T)) : growFromR P ops a0 n Inv p Inv0 R L (o :: rest) i S := ⟨T, hT, fun V W K hb hz hd hK => h V W K _ hb hz hd rfl hK, hr⟩
theorem growR_eq {a0 : Act} {n p : Nat} {Inv Inv0 : World → Prop} {R : Nat → World → World → Prop} {L : (Nat → Value → World → Prop) → Prop} {o : Oper} {rest : List Oper} {i : Nat} {S : Nat → Value → World → Prop} {u : Value}
  (h : ∀ (V : Nat → Value) (W : World) (K : Act → World → Prop) (A : Act), Inv W → (Nat.beq i p = true → Inv0 W) → (∀ j, Region.waitsFor .any ops i j = true → S j (V j) W) → Hid (A = putAll ops V n a0) →
   Hid (∀ W', R i W W' → K (A.put o.dst u) W') → wpList P ops (KPost K) [o] A W)
  (hr : growFromR P ops a0 n Inv p Inv0 R L rest (i + 1) (updS S i fun v _ => v = u)) : growFromR P ops a0 n Inv p Inv0 R L (o :: rest) i S :=
 ⟨fun v _ => v = u, fun _ _ _ _ _ h _ => h, fun V W K hb hz hd hK => h V W K _ hb hz hd rfl fun W' hb' => hK.out u W' hb' rfl, hr⟩
theorem growFromR_out {a0 : Act} {n p : Nat} {Inv Inv0 : World → Prop} {R : Nat → World → World → Prop} {L : (Nat → Value → World → Prop) → Prop} (hdB : depsB .any ops n = true) : ∀ (l : List Oper) (k : Nat) (S : Nat → Value → World → Prop), k + l.length = n → (∀ j, j < l.length → l[j]? = ops[k + j]?) →
  (∀ j, LastsR R j (S j)) → (∀ i o, i < k → ops[i]? = some o → GrowOpR P ops a0 n Inv p Inv0 R S i o (S i)) → growFromR P ops a0 n Inv p Inv0 R L l k S →
  ∃ S', (∀ j, LastsR R j (S' j)) ∧ (∀ i o, i < n → ops[i]? = some o → GrowOpR P ops a0 n Inv p Inv0 R S' i o (S' i)) ∧ L S'
 | [], k, S, hk, _, hl, hop, h => ⟨S, hl, by rw [show n = k by simpa using hk.symm]; rw [show n = k by simpa using hk.symm] at hop; exact hop, h⟩
 | o :: l, k, S, hk, hs, hl, hop, ⟨T, hT, ho, h⟩ => by
  have h0 : ops[k]? = some o := by simpa using (hs 0 (by simp)).symm
  have dep : ∀ i j, i < n → Region.waitsFor .any ops i j = true → j < i := fun i j hi hj => by
   obtain ⟨oj, hoj, e, he, hbd, hon⟩ := Region.waitsFor_spec hj
   have h1 := List.all_eq_true.1 hdB i (List.mem_range.2 hi)
   rw [hoj] at h1
   have h2 := Array.all_eq_true'.1 h1 e he
   rw [hbd] at h2
   have h3 : e.on < i := by simpa using h2
   omega
  have hkn : k < n := by simp only [List.length_cons] at hk; omega
  refine growFromR_out hdB l (k + 1) _ (by simp only [List.length_cons] at hk; omega) (fun j hj => by have := hs (j + 1) (by simp; omega); simpa [Nat.add_assoc, Nat.add_comm 1 j] using this) (fun j => ?_) (fun i o' hi hi' => ?_) h
  ·by_cases e : j = k
   ·subst e; rw [updS_self]; exact hT
   ·rw [updS_ne _ _ e]; exact hl j
  ·by_cases e : i = k
   ·subst e
    have : o' = o := Option.some.inj (hi'.symm.trans h0)
    subst this
    rw [updS_self]
    exact fun V W K hb hz hd hK => ho V W K hb hz (fun j hj => by have := hd j hj; rwa [updS_ne _ _ (by have := dep i j hkn hj; omega)] at this) hK
   ·rw [updS_ne _ _ e]
    exact fun V W K hb hz hd hK => hop i o' (by omega) hi' V W K hb hz (fun j hj => by have := hd j hj; rwa [updS_ne _ _ (by have := dep i j (by omega) hj; omega)] at this) hK
theorem wp_region_stores {id : Nat} {a : Act} {w : World} {l : List Oper} (n p g : Nat) (Inv Inv0 : World → Prop) (hm : P.follows .mixedOrders = true) (hB : growTailB l.toArray n = true)
  (hS0 : Inv w) (hS1 : Inv0 w) (hIB : ∀ W W', Inv W → Below W.heap.size W W' → Inv W') (hIO : ∀ W W', Inv W → Only g W W' → Inv W') (hI0 : ∀ W W', Inv0 W → Below W.heap.size W W' → Inv0 W')
  (h : growFromR P l.toArray a n Inv p Inv0 (RelP p g) (fun S => ∀ V W A, Inv W → (∀ j, j < n → S j (V j) W) → Hid (A = putAll l.toArray V n a) → wpList P l.toArray Q (l.drop n) A W) (l.take n) 0 fun _ _ _ => True) : (Code.region id l.toArray true).wp P Q a w := by
 have hB' := hB
 simp only [growTailB, Bool.and_eq_true, decide_eq_true_eq] at hB'
 obtain ⟨⟨⟨⟨⟨hn, _⟩, _⟩, hdB⟩, _⟩, _⟩ := hB'
 have hn' : n < l.length := by simpa using hn
 obtain ⟨S, h1, h2, h3⟩ := growFromR_out hdB (l.take n) 0 _ (by simp; omega) (fun j hj => by
  have : j < n := by simp at hj; omega
  simp [this]) (fun _ _ _ _ _ _ _ _ => trivial) (fun i o hi => absurd hi (by omega)) h
 refine wp_region_growR n p Inv Inv0 (RelP p g) S hm hB (hIB _ _ hS0 ⟨rfl, rfl, rfl, Nat.le_refl _, fun _ _ => rfl⟩) (hI0 _ _ hS1 ⟨rfl, rfl, rfl, Nat.le_refl _, fun _ _ => rfl⟩) (fun i W W' hI hR => ?_) (fun i W W' hip hI hR => ?_) h1 h2 fun V W hb hS => h3 V W _ hb hS rfl
 ·unfold RelP at hR
  split at hR
  ·exact hIO _ _ hI hR
  ·exact hIB _ _ hI hR
 ·unfold RelP at hR
  split at hR
  ·rename_i hb
   exact absurd (Nat.eq_of_beq_eq_true hb) hip
  ·exact hI0 _ _ hI hR
def RelQ (p : Nat) (RP : World → World → Prop) (i : Nat) (W W' : World) : Prop := match Nat.beq i p with
 | true => RP W W'
 | false => Below W.heap.size W W'
theorem relq_other {p : Nat} {RP : World → World → Prop} {i : Nat} {W W' : World} (hi : i ≠ p) (h : RelQ p RP i W W') : Below W.heap.size W W' := by
 unfold RelQ at h
 split at h
 ·rename_i hb
  exact absurd (Nat.eq_of_beq_eq_true hb) hi
 ·exact h
theorem relq_cases {p : Nat} {RP : World → World → Prop} {i : Nat} {W W' : World} (h : RelQ p RP i W W') : RP W W' ∨ Below W.heap.size W W' := by
 unfold RelQ at h
 split at h
 ·exact .inl h
 ·exact .inr h
theorem wp_region_turns {id : Nat} {a : Act} {w : World} {l : List Oper} (n p : Nat) (RP : World → World → Prop) (Inv Inv0 : World → Prop) (hm : P.follows .mixedOrders = true) (hB : growTailB l.toArray n = true)
  (hS0 : Inv w) (hS1 : Inv0 w) (hIB : ∀ W W', Inv W → Below W.heap.size W W' → Inv W') (hIO : ∀ W W', Inv W → RP W W' → Inv W') (hI0 : ∀ W W', Inv0 W → Below W.heap.size W W' → Inv0 W')
  (h : growFromR P l.toArray a n Inv p Inv0 (RelQ p RP) (fun S => ∀ V W A, Inv W → (∀ j, j < n → S j (V j) W) → Hid (A = putAll l.toArray V n a) → wpList P l.toArray Q (l.drop n) A W) (l.take n) 0 fun _ _ _ => True) : (Code.region id l.toArray true).wp P Q a w := by
 have hB' := hB
 simp only [growTailB, Bool.and_eq_true, decide_eq_true_eq] at hB'
 obtain ⟨⟨⟨⟨⟨hn, _⟩, _⟩, hdB⟩, _⟩, _⟩ := hB'
 have hn' : n < l.length := by simpa using hn
 obtain ⟨S, h1, h2, h3⟩ := growFromR_out hdB (l.take n) 0 _ (by simp; omega) (fun j hj => by
  have : j < n := by simp at hj; omega
  simp [this]) (fun _ _ _ _ _ _ _ _ => trivial) (fun i o hi => absurd hi (by omega)) h
 refine wp_region_growR n p Inv Inv0 (RelQ p RP) S hm hB (hIB _ _ hS0 ⟨rfl, rfl, rfl, Nat.le_refl _, fun _ _ => rfl⟩) (hI0 _ _ hS1 ⟨rfl, rfl, rfl, Nat.le_refl _, fun _ _ => rfl⟩) (fun i W W' hI hR => ?_) (fun i W W' hip hI hR => hI0 _ _ hI (relq_other hip hR)) h1 h2 fun V W hb hS => h3 V W _ hb hS rfl
 rcases relq_cases hR with h | h
 ·exact hIO _ _ hI h
 ·exact hIB _ _ hI h
end
end Go.Proofs.YtbceafpodamnfabGreatDoor

namespace Go.Proofs.YtbceafpodamnfabGreatDoor
open Go.RowKit Go.Sort
def KeepB (b : Nat) (w w' : World) : Prop := w.heap.size ≤ w'.heap.size ∧ ∀ q, q < w.heap.size → q ≠ b → w'.heap[q]? = w.heap[q]?
theorem KeepB.toT {b : Nat} {w w' : World} {e : TypeId} {cs : Array Value} {fr : Nat × Nat} (h : KeepB b w w') (hb : w.heap[b]? = some (.cells cs e fr)) : KeepT e w w' :=
 ⟨h.1, fun k hk hne => h.2 k hk fun e' => by subst e'; exact hne _ _ hb⟩
theorem KeepB.refl (b : Nat) (w : World) : KeepB b w w := ⟨Nat.le_refl _, fun _ _ _ => rfl⟩
theorem KeepB.below {b : Nat} {w w' w'' : World} (h : KeepB b w w') (hb : Below w'.heap.size w' w'') : KeepB b w w'' :=
 ⟨Nat.le_trans h.1 hb.size, fun q hq hne => (hb.block q (Nat.lt_of_lt_of_le hq h.1)).trans (h.2 q hq hne)⟩
theorem KeepB.only {b : Nat} {w w' w'' : World} (h : KeepB b w w') (on : Only b w' w'') : KeepB b w w'' :=
 ⟨by rw [on.size]; exact h.1, fun q hq hne => (on.other q hne).trans (h.2 q hq hne)⟩
theorem relp_row {p g : Nat} {w w' : World} {i : Nat} {e : TypeId} {size b n cap : Nat} {xs : List Value} (hi : i ≠ p) (h : RowIs w e size b n cap xs) (hr : RelP p g i w w') : RowIs w' e size b n cap xs := by
 unfold RelP at hr
 split at hr
 ·rename_i hb
  exact absurd (Nat.eq_of_beq_eq_true hb) hi
 ·exact h.below hr h.lt
def ScaleIs (N g : Nat) (A : Ac) (ae : Option Addr) (ce : Nat) (X : Bk) (s : Svc) (k : Nat) (I : List Int) (e : Ending) (w' : World) : Prop :=
 (scaleNo A s = false ∧ e = .returned (.tuple #[]) ∧ WkAt w' N g A ae ce { X with svcs := X.svcs.set k (scaledS A s) } k I) ∨
 (scaleNo A s = true ∧ e = .panicked (noWay 6))
theorem set_self {l : List Svc} {k : Nat} {s : Svc} (h : l[k]? = some s) : l.set k s = l := by
 refine List.ext_getElem? fun j => ?_
 by_cases hj : k = j
 ·subst hj
  rw [List.getElem?_set_self (List.getElem?_eq_some_iff.1 h).1, h]
 ·rw [List.getElem?_set_ne hj]
set_option maxRecDepth 100000 in
set_option maxHeartbeats 8000000 in
theorem scale_any (A : Ac) (ae : Option Addr) (ce : Nat) (X : Bk) (s : Svc) (N g k : Nat) (I : List Int) (w : World) (hl1 : X.svcs.length ≤ 1048576) (hN : N ≤ w.heap.size) (hk : X.svcs[k]? = some s) (hS : WkAt w N g A ae ce X k I) :
  Calls Tryz.prog 173 #[.pointer (some ⟨g, 0, none⟩)] w fun e w' => ScaleIs N g A ae ce X s k I e w' ∧ Below N w w' := by
 have HST := hidWk hS
 obtain ⟨b1, b2, b3, d1, d2, d3, ve, hNg, hg, hbk, hei⟩ := hS
 have hkl : k < X.svcs.length := (List.getElem?_eq_some_iff.1 hk).1
 obtain ⟨g1, e1, hN1, hr1⟩ := hbk.svcs.some (by omega)
 subst e1
 obtain ⟨n1, HN1⟩ : ∃ n, Hid (X.svcs.length = n) := ⟨_, rfl⟩
 obtain ⟨n2, HN2⟩ : ∃ n, Hid (X.cps.length = n) := ⟨_, rfl⟩
 obtain ⟨n3, HN3⟩ : ∃ n, Hid (X.bts.length = n) := ⟨_, rfl⟩
 obtain ⟨ne, HNE⟩ : ∃ n, Hid (I.length = n) := ⟨_, rfl⟩
 obtain ⟨r2, r3⟩ : RowN w N 149 7 b2 X.cps.length d2 (cpsV X.cps) ∧ RowN w N 147 2 b3 X.bts.length d3 (btsV X.bts) := ⟨hbk.cps, hbk.bts⟩
 clear hbk
 rw [HN1.out] at hr1 hg hkl hl1
 rw [HN2.out] at r2 hg
 rw [HN3.out] at r3 hg
 rw [HNE.out] at hei
 have HK : Hid _ := hk
 have HG : Hid _ := hg
 have HR1 : Hid (RowIs w 67 13 g1 n1 d1 (svcsV X.svcs)) := hr1
 have HR2 := hidRowN r2
 have HR3 := hidRowN r3
 have HEI : Hid (w.ownsRow N 3 1 ve ne (intsV I)) := hei
 have hlt : g < w.heap.size := (Array.getElem?_eq_some_iff.1 hg).1
 have hlt1 : g1 < w.heap.size := hr1.lt
 clear hk hg hr1 r2 r3 hei
 have e5 := blk_cell HG.out 5 rfl
 rcases Bool.eq_false_or_eq_true A.scale with hsc | hsc
 rotate_left
 ·have HNO : Hid (scaleNo A s = false) := by unfold Hid scaleNo; rw [hsc]; rfl
  have HSD : Hid (scaledS A s = s) := scaled_no hsc
  rw [hsc] at e5
  clear hsc
  go_enter Tryz.func173, Tryz.ntmps173
  go_wp2
  refine bodyPost_ret (results_none rfl _ _ _) rfl ?_
  refine ⟨.inl ⟨HNO.out, rfl, ?_⟩, Below.refl _ _⟩
  rw [HSD.out, set_self HK.out]
  exact HST.out
 have HSC : Hid _ := hsc
 rw [hsc] at e5
 clear hsc
 have HSV : Hid (SvcAt w g1 (k * 13) s) := HR1.out.svcAt HK.out
 obtain ⟨pb, HPB⟩ : ∃ b, Hid ((s.per != 0) = b) := ⟨_, rfl⟩
 obtain ⟨ib, HIB⟩ : ∃ b, Hid (inB A.want s.least s.most = b) := ⟨_, rfl⟩
 go_enter Tryz.func173, Tryz.ntmps173
 go_upto_region 2 with (go_at_call 224; refine (service_any A ae ce X.now g g1 n1 d1 k _ _ _ _ hkl hl1 HG.out).mono ?_; rintro e w1 ⟨rfl, hb1⟩)
 have HG1 : Hid _ := below_blk hb1 HG.out hlt
 have HSV1 : Hid (SvcAt w1 g1 (k * 13) s) := HSV.out.below hb1 hlt1
 have hg1 : g < w1.heap.size := Nat.lt_of_lt_of_le hlt hb1.size
 have hg11 : g1 < w1.heap.size := Nat.lt_of_lt_of_le hlt1 hb1.size
 clear e5
 cases pb
 ·refine wp_region_grows 21 (by kernel_rfl) (by kernel_rfl) ?_
  apply grow_eq
  ·intro V W K A hW hd hA hK
   simp only [putAll, pz1, pz2, pz3, pz4, Act.put, pz5, pz6, pz7] at hA
   clear hd
   obtain rfl := hA
   go_wp2
   exact hK.out _ brf
  apply grow_eq
  ·intro V W K A hW hd hA hK
   have d0 : V 0 = _ := hd 0 (by kernel_rfl)
   simp only [putAll, pz1, pz2, pz3, pz4, Act.put, pz5, pz6, pz7, d0] at hA
   clear hd d0
   obtain rfl := hA
   go_wp2
   exact hK.out _ brf
  apply grow_eq
  ·intro V W K A hW hd hA hK
   have d1 : V 1 = _ := hd 1 (by kernel_rfl)
   simp only [putAll, pz1, pz2, pz3, pz4, Act.put, pz5, pz6, pz7, d1] at hA
   clear hd d1
   obtain rfl := hA
   go_wp2
   exact hK.out _ brf
  apply grow_eq
  ·intro V W K A hW hd hA hK
   have d2 : V 2 = _ := hd 2 (by kernel_rfl)
   simp only [putAll, pz1, pz2, pz3, pz4, Act.put, pz5, pz6, pz7, d2] at hA
   clear hd d2
   obtain rfl := hA
   have hq := HSV1.out.below hW hg11
   unfold SvcAt at hq
   obtain ⟨q0, q1, q2, q3, q4, q5, q6, q7, q8, q9, q10, q11, q12⟩ := hq
   go_wp2
   exact hK.out _ brf
  refine grow_op (fun v _ => v = .bool false) (fun _ _ _ h _ => h) ?_ ?_
  ·intro V W K A hW hd hA hK
   have d3 : V 3 = _ := hd 3 (by kernel_rfl)
   simp only [putAll, pz1, pz2, pz3, pz4, Act.put, pz5, pz6, pz7, d3] at hA
   clear hd d3
   obtain rfl := hA
   go_wp2
   exact hK.out _ _ brf (by rw [HPB.out])
  apply grow_eq
  ·intro V W K A hW hd hA hK
   have d4 : (fun v _ => v = .bool false) (V 4) W := hd 4 (by kernel_rfl)
   simp only [putAll, pz1, pz2, pz3, pz4, Act.put, pz5, pz6, pz7] at hA
   clear hd
   generalize V 4 = x4 at d4 hA
   obtain rfl := hA
   obtain rfl := d4
   go_wp2
   exact hK.out _ brf
  refine grow_op (fun _ _ => True) (fun _ _ _ _ _ => trivial) ?_ ?_
  ·intro V W K A hW hd hA hK
   have d5 : V 5 = _ := hd 5 (by kernel_rfl)
   simp only [putAll, pz1, pz2, pz3, pz4, Act.put, pz5, pz6, pz7, d5] at hA
   clear hd d5
   obtain rfl := hA
   go_wp2
   exact hK.out _ _ brf trivial
  refine grow_op (fun _ _ => True) (fun _ _ _ _ _ => trivial) ?_ ?_
  ·intro V W K A hW hd hA hK
   have d5 : V 5 = _ := hd 5 (by kernel_rfl)
   have d6 : (fun _ _ => True) (V 6) W := hd 6 (by kernel_rfl)
   simp only [putAll, pz1, pz2, pz3, pz4, Act.put, pz5, pz6, pz7, d5] at hA
   clear hd d5
   generalize V 6 = x6 at d6 hA
   obtain rfl := hA
   go_wp2
   exact hK.out _ _ brf trivial
  refine grow_op (fun _ _ => True) (fun _ _ _ _ _ => trivial) ?_ ?_
  ·intro V W K A hW hd hA hK
   have d5 : V 5 = _ := hd 5 (by kernel_rfl)
   have d7 : (fun _ _ => True) (V 7) W := hd 7 (by kernel_rfl)
   simp only [putAll, pz1, pz2, pz3, pz4, Act.put, pz5, pz6, pz7, d5] at hA
   clear hd d5
   generalize V 7 = x7 at d7 hA
   obtain rfl := hA
   go_wp2
   exact hK.out _ _ brf trivial
  refine grow_op (fun _ _ => True) (fun _ _ _ _ _ => trivial) ?_ ?_
  ·intro V W K A hW hd hA hK
   have d5 : V 5 = _ := hd 5 (by kernel_rfl)
   have d8 : (fun _ _ => True) (V 8) W := hd 8 (by kernel_rfl)
   simp only [putAll, pz1, pz2, pz3, pz4, Act.put, pz5, pz6, pz7, d5] at hA
   clear hd d5
   generalize V 8 = x8 at d8 hA
   obtain rfl := hA
   go_wp2
   exact hK.out _ _ brf trivial
  refine grow_op (fun _ _ => True) (fun _ _ _ _ _ => trivial) ?_ ?_
  ·intro V W K A hW hd hA hK
   have d5 : V 5 = _ := hd 5 (by kernel_rfl)
   have d9 : (fun _ _ => True) (V 9) W := hd 9 (by kernel_rfl)
   simp only [putAll, pz1, pz2, pz3, pz4, Act.put, pz5, pz6, pz7, d5] at hA
   clear hd d5
   generalize V 9 = x9 at d9 hA
   obtain rfl := hA
   go_wp2
   exact hK.out _ _ brf trivial
  refine grow_op (fun _ _ => True) (fun _ _ _ _ _ => trivial) ?_ ?_
  ·intro V W K A hW hd hA hK
   have d5 : V 5 = _ := hd 5 (by kernel_rfl)
   simp only [putAll, pz1, pz2, pz3, pz4, Act.put, pz5, pz6, pz7, d5] at hA
   clear hd d5
   obtain rfl := hA
   go_wp2
   exact hK.out _ _ brf trivial
  refine grow_op (fun _ _ => True) (fun _ _ _ _ _ => trivial) ?_ ?_
  ·intro V W K A hW hd hA hK
   have d5 : V 5 = _ := hd 5 (by kernel_rfl)
   have d11 : (fun _ _ => True) (V 11) W := hd 11 (by kernel_rfl)
   simp only [putAll, pz1, pz2, pz3, pz4, Act.put, pz5, pz6, pz7, d5] at hA
   clear hd d5
   generalize V 11 = x11 at d11 hA
   obtain rfl := hA
   go_wp2
   exact hK.out _ _ brf trivial
  refine grow_op (fun _ _ => True) (fun _ _ _ _ _ => trivial) ?_ ?_
  ·intro V W K A hW hd hA hK
   have d5 : V 5 = _ := hd 5 (by kernel_rfl)
   have d12 : (fun _ _ => True) (V 12) W := hd 12 (by kernel_rfl)
   simp only [putAll, pz1, pz2, pz3, pz4, Act.put, pz5, pz6, pz7, d5] at hA
   clear hd d5
   generalize V 12 = x12 at d12 hA
   obtain rfl := hA
   go_wp2
   exact hK.out _ _ brf trivial
  refine grow_op (fun _ _ => True) (fun _ _ _ _ _ => trivial) ?_ ?_
  ·intro V W K A hW hd hA hK
   have d5 : V 5 = _ := hd 5 (by kernel_rfl)
   have d13 : (fun _ _ => True) (V 13) W := hd 13 (by kernel_rfl)
   simp only [putAll, pz1, pz2, pz3, pz4, Act.put, pz5, pz6, pz7, d5] at hA
   clear hd d5
   generalize V 13 = x13 at d13 hA
   obtain rfl := hA
   go_wp2
   exact hK.out _ _ brf trivial
  refine grow_op (fun _ _ => True) (fun _ _ _ _ _ => trivial) ?_ ?_
  ·intro V W K A hW hd hA hK
   have d5 : V 5 = _ := hd 5 (by kernel_rfl)
   simp only [putAll, pz1, pz2, pz3, pz4, Act.put, pz5, pz6, pz7, d5] at hA
   clear hd d5
   obtain rfl := hA
   go_wp2
   exact hK.out _ _ brf trivial
  refine grow_op (fun _ _ => True) (fun _ _ _ _ _ => trivial) ?_ ?_
  ·intro V W K A hW hd hA hK
   have d5 : V 5 = _ := hd 5 (by kernel_rfl)
   have d15 : (fun _ _ => True) (V 15) W := hd 15 (by kernel_rfl)
   simp only [putAll, pz1, pz2, pz3, pz4, Act.put, pz5, pz6, pz7, d5] at hA
   clear hd d5
   generalize V 15 = x15 at d15 hA
   obtain rfl := hA
   go_wp2
   exact hK.out _ _ brf trivial
  refine grow_op (fun _ _ => True) (fun _ _ _ _ _ => trivial) ?_ ?_
  ·intro V W K A hW hd hA hK
   have d5 : V 5 = _ := hd 5 (by kernel_rfl)
   have d16 : (fun _ _ => True) (V 16) W := hd 16 (by kernel_rfl)
   simp only [putAll, pz1, pz2, pz3, pz4, Act.put, pz5, pz6, pz7, d5] at hA
   clear hd d5
   generalize V 16 = x16 at d16 hA
   obtain rfl := hA
   go_wp2
   exact hK.out _ _ brf trivial
  refine grow_op (fun _ _ => True) (fun _ _ _ _ _ => trivial) ?_ ?_
  ·intro V W K A hW hd hA hK
   have d5 : V 5 = _ := hd 5 (by kernel_rfl)
   have d17 : (fun _ _ => True) (V 17) W := hd 17 (by kernel_rfl)
   simp only [putAll, pz1, pz2, pz3, pz4, Act.put, pz5, pz6, pz7, d5] at hA
   clear hd d5
   generalize V 17 = x17 at d17 hA
   obtain rfl := hA
   go_wp2
   exact hK.out _ _ brf trivial
  refine grow_op (fun _ _ => True) (fun _ _ _ _ _ => trivial) ?_ ?_
  ·intro V W K A hW hd hA hK
   have d5 : V 5 = _ := hd 5 (by kernel_rfl)
   have d10 : (fun _ _ => True) (V 10) W := hd 10 (by kernel_rfl)
   have d14 : (fun _ _ => True) (V 14) W := hd 14 (by kernel_rfl)
   have d18 : (fun _ _ => True) (V 18) W := hd 18 (by kernel_rfl)
   simp only [putAll, pz1, pz2, pz3, pz4, Act.put, pz5, pz6, pz7, d5] at hA
   clear hd d5
   generalize V 10 = x10 at d10 hA
   generalize V 14 = x14 at d14 hA
   generalize V 18 = x18 at d18 hA
   obtain rfl := hA
   go_wp2
   exact hK.out _ _ brf trivial
  apply grow_eq
  ·intro V W K A hW hd hA hK
   have d5 : V 5 = _ := hd 5 (by kernel_rfl)
   have d19 : (fun _ _ => True) (V 19) W := hd 19 (by kernel_rfl)
   simp only [putAll, pz1, pz2, pz3, pz4, Act.put, pz5, pz6, pz7, d5] at hA
   clear hd d5
   generalize V 19 = x19 at d19 hA
   obtain rfl := hA
   go_wp2
   exact hK.out _ brf
  intro V W A hW hS hA
  have d0 : V 0 = _ := hS 0 (by omega)
  have d1 : V 1 = _ := hS 1 (by omega)
  have d2 : V 2 = _ := hS 2 (by omega)
  have d3 : V 3 = _ := hS 3 (by omega)
  have d4 : (fun v _ => v = .bool false) (V 4) W := hS 4 (by omega)
  have d5 : V 5 = _ := hS 5 (by omega)
  have d6 : (fun _ _ => True) (V 6) W := hS 6 (by omega)
  have d7 : (fun _ _ => True) (V 7) W := hS 7 (by omega)
  have d8 : (fun _ _ => True) (V 8) W := hS 8 (by omega)
  have d9 : (fun _ _ => True) (V 9) W := hS 9 (by omega)
  have d10 : (fun _ _ => True) (V 10) W := hS 10 (by omega)
  have d11 : (fun _ _ => True) (V 11) W := hS 11 (by omega)
  have d12 : (fun _ _ => True) (V 12) W := hS 12 (by omega)
  have d13 : (fun _ _ => True) (V 13) W := hS 13 (by omega)
  have d14 : (fun _ _ => True) (V 14) W := hS 14 (by omega)
  have d15 : (fun _ _ => True) (V 15) W := hS 15 (by omega)
  have d16 : (fun _ _ => True) (V 16) W := hS 16 (by omega)
  have d17 : (fun _ _ => True) (V 17) W := hS 17 (by omega)
  have d18 : (fun _ _ => True) (V 18) W := hS 18 (by omega)
  have d19 : (fun _ _ => True) (V 19) W := hS 19 (by omega)
  have d20 : V 20 = _ := hS 20 (by omega)
  simp only [putAll, pz1, pz2, pz3, pz4, Act.put, pz5, pz6, pz7, d0, d1, d2, d3, d5, d20] at hA
  clear hS d0 d1 d2 d3 d5 d20
  generalize V 4 = x4 at d4 hA
  generalize V 6 = x6 at d6 hA
  generalize V 7 = x7 at d7 hA
  generalize V 8 = x8 at d8 hA
  generalize V 9 = x9 at d9 hA
  generalize V 10 = x10 at d10 hA
  generalize V 11 = x11 at d11 hA
  generalize V 12 = x12 at d12 hA
  generalize V 13 = x13 at d13 hA
  generalize V 14 = x14 at d14 hA
  generalize V 15 = x15 at d15 hA
  generalize V 16 = x16 at d16 hA
  generalize V 17 = x17 at d17 hA
  generalize V 18 = x18 at d18 hA
  generalize V 19 = x19 at d19 hA
  obtain rfl := hA
  simp only [List.drop_succ_cons, List.drop_zero]
  obtain rfl := d4
  have HNO : Hid (scaleNo A s = true) := by
   unfold Hid scaleNo
   rw [HSC.out, show (s.per == 0) = true by have := HPB.out; simpa [bne] using this]
   rfl
  go_wp2_with (go_at_call 167; refine (insist_no 6 _).mono ?_; rintro e w2 ⟨rfl, rfl⟩)
  exact ⟨rfl, .inr ⟨HNO.out, rfl⟩, (hb1.trans (hW.mono hb1.size)).mono hN⟩
 refine wp_region_grows 21 (by kernel_rfl) (by kernel_rfl) ?_
 apply grow_eq
 ·intro V W K A hW hd hA hK
  simp only [putAll, pz1, pz2, pz3, pz4, Act.put, pz5, pz6, pz7] at hA
  clear hd
  obtain rfl := hA
  go_wp2
  exact hK.out _ brf
 apply grow_eq
 ·intro V W K A hW hd hA hK
  have d0 : V 0 = _ := hd 0 (by kernel_rfl)
  simp only [putAll, pz1, pz2, pz3, pz4, Act.put, pz5, pz6, pz7, d0] at hA
  clear hd d0
  obtain rfl := hA
  go_wp2
  exact hK.out _ brf
 apply grow_eq
 ·intro V W K A hW hd hA hK
  have d1 : V 1 = _ := hd 1 (by kernel_rfl)
  simp only [putAll, pz1, pz2, pz3, pz4, Act.put, pz5, pz6, pz7, d1] at hA
  clear hd d1
  obtain rfl := hA
  go_wp2
  exact hK.out _ brf
 apply grow_eq
 ·intro V W K A hW hd hA hK
  have d2 : V 2 = _ := hd 2 (by kernel_rfl)
  simp only [putAll, pz1, pz2, pz3, pz4, Act.put, pz5, pz6, pz7, d2] at hA
  clear hd d2
  obtain rfl := hA
  have hq := HSV1.out.below hW hg11
  unfold SvcAt at hq
  obtain ⟨q0, q1, q2, q3, q4, q5, q6, q7, q8, q9, q10, q11, q12⟩ := hq
  go_wp2
  exact hK.out _ brf
 refine grow_op (fun v _ => v = .bool true) (fun _ _ _ h _ => h) ?_ ?_
 ·intro V W K A hW hd hA hK
  have d3 : V 3 = _ := hd 3 (by kernel_rfl)
  simp only [putAll, pz1, pz2, pz3, pz4, Act.put, pz5, pz6, pz7, d3] at hA
  clear hd d3
  obtain rfl := hA
  go_wp2
  exact hK.out _ _ brf (by rw [HPB.out])
 apply grow_eq
 ·intro V W K A hW hd hA hK
  have d4 : (fun v _ => v = .bool true) (V 4) W := hd 4 (by kernel_rfl)
  simp only [putAll, pz1, pz2, pz3, pz4, Act.put, pz5, pz6, pz7] at hA
  clear hd
  generalize V 4 = x4 at d4 hA
  obtain rfl := hA
  obtain rfl := d4
  go_wp2
  exact hK.out _ brf
 apply grow_eq
 ·intro V W K A hW hd hA hK
  have d5 : V 5 = _ := hd 5 (by kernel_rfl)
  simp only [putAll, pz1, pz2, pz3, pz4, Act.put, pz5, pz6, pz7, d5] at hA
  clear hd d5
  obtain rfl := hA
  go_wp2
  exact hK.out _ brf
 apply grow_eq
 ·intro V W K A hW hd hA hK
  have d5 : V 5 = _ := hd 5 (by kernel_rfl)
  have d6 : V 6 = _ := hd 6 (by kernel_rfl)
  simp only [putAll, pz1, pz2, pz3, pz4, Act.put, pz5, pz6, pz7, d5, d6] at hA
  clear hd d5 d6
  obtain rfl := hA
  go_wp2
  exact hK.out _ brf
 apply grow_eq
 ·intro V W K A hW hd hA hK
  have d5 : V 5 = _ := hd 5 (by kernel_rfl)
  have d7 : V 7 = _ := hd 7 (by kernel_rfl)
  simp only [putAll, pz1, pz2, pz3, pz4, Act.put, pz5, pz6, pz7, d5, d7] at hA
  clear hd d5 d7
  obtain rfl := hA
  go_wp2
  exact hK.out _ brf
 apply grow_eq
 ·intro V W K A hW hd hA hK
  have d5 : V 5 = _ := hd 5 (by kernel_rfl)
  have d8 : V 8 = _ := hd 8 (by kernel_rfl)
  simp only [putAll, pz1, pz2, pz3, pz4, Act.put, pz5, pz6, pz7, d5, d8] at hA
  clear hd d5 d8
  obtain rfl := hA
  go_wp2
  exact hK.out _ brf
 apply grow_eq
 ·intro V W K A hW hd hA hK
  have d5 : V 5 = _ := hd 5 (by kernel_rfl)
  have d9 : V 9 = _ := hd 9 (by kernel_rfl)
  simp only [putAll, pz1, pz2, pz3, pz4, Act.put, pz5, pz6, pz7, d5, d9] at hA
  clear hd d5 d9
  obtain rfl := hA
  have e3 := blk_cell (below_blk hW HG1.out hg1) 3 rfl
  go_wp2
  exact hK.out _ brf
 apply grow_eq
 ·intro V W K A hW hd hA hK
  have d5 : V 5 = _ := hd 5 (by kernel_rfl)
  simp only [putAll, pz1, pz2, pz3, pz4, Act.put, pz5, pz6, pz7, d5] at hA
  clear hd d5
  obtain rfl := hA
  go_wp2
  exact hK.out _ brf
 apply grow_eq
 ·intro V W K A hW hd hA hK
  have d5 : V 5 = _ := hd 5 (by kernel_rfl)
  have d11 : V 11 = _ := hd 11 (by kernel_rfl)
  simp only [putAll, pz1, pz2, pz3, pz4, Act.put, pz5, pz6, pz7, d5, d11] at hA
  clear hd d5 d11
  obtain rfl := hA
  go_wp2
  exact hK.out _ brf
 apply grow_eq
 ·intro V W K A hW hd hA hK
  have d5 : V 5 = _ := hd 5 (by kernel_rfl)
  have d12 : V 12 = _ := hd 12 (by kernel_rfl)
  simp only [putAll, pz1, pz2, pz3, pz4, Act.put, pz5, pz6, pz7, d5, d12] at hA
  clear hd d5 d12
  obtain rfl := hA
  go_wp2
  exact hK.out _ brf
 apply grow_eq
 ·intro V W K A hW hd hA hK
  have d5 : V 5 = _ := hd 5 (by kernel_rfl)
  have d13 : V 13 = _ := hd 13 (by kernel_rfl)
  simp only [putAll, pz1, pz2, pz3, pz4, Act.put, pz5, pz6, pz7, d5, d13] at hA
  clear hd d5 d13
  obtain rfl := hA
  have hq := HSV1.out.below hW hg11
  unfold SvcAt at hq
  obtain ⟨q0, q1, q2, q3, q4, q5, q6, q7, q8, q9, q10, q11, q12⟩ := hq
  go_wp2
  exact hK.out _ brf
 apply grow_eq
 ·intro V W K A hW hd hA hK
  have d5 : V 5 = _ := hd 5 (by kernel_rfl)
  simp only [putAll, pz1, pz2, pz3, pz4, Act.put, pz5, pz6, pz7, d5] at hA
  clear hd d5
  obtain rfl := hA
  go_wp2
  exact hK.out _ brf
 apply grow_eq
 ·intro V W K A hW hd hA hK
  have d5 : V 5 = _ := hd 5 (by kernel_rfl)
  have d15 : V 15 = _ := hd 15 (by kernel_rfl)
  simp only [putAll, pz1, pz2, pz3, pz4, Act.put, pz5, pz6, pz7, d5, d15] at hA
  clear hd d5 d15
  obtain rfl := hA
  go_wp2
  exact hK.out _ brf
 apply grow_eq
 ·intro V W K A hW hd hA hK
  have d5 : V 5 = _ := hd 5 (by kernel_rfl)
  have d16 : V 16 = _ := hd 16 (by kernel_rfl)
  simp only [putAll, pz1, pz2, pz3, pz4, Act.put, pz5, pz6, pz7, d5, d16] at hA
  clear hd d5 d16
  obtain rfl := hA
  go_wp2
  exact hK.out _ brf
 apply grow_eq
 ·intro V W K A hW hd hA hK
  have d5 : V 5 = _ := hd 5 (by kernel_rfl)
  have d17 : V 17 = _ := hd 17 (by kernel_rfl)
  simp only [putAll, pz1, pz2, pz3, pz4, Act.put, pz5, pz6, pz7, d5, d17] at hA
  clear hd d5 d17
  obtain rfl := hA
  have hq := HSV1.out.below hW hg11
  unfold SvcAt at hq
  obtain ⟨q0, q1, q2, q3, q4, q5, q6, q7, q8, q9, q10, q11, q12⟩ := hq
  go_wp2
  exact hK.out _ brf
 refine grow_op (fun v _ => v = .bool ib) (fun _ _ _ h _ => h) ?_ ?_
 ·intro V W K A hW hd hA hK
  have d5 : V 5 = _ := hd 5 (by kernel_rfl)
  have d10 : V 10 = _ := hd 10 (by kernel_rfl)
  have d14 : V 14 = _ := hd 14 (by kernel_rfl)
  have d18 : V 18 = _ := hd 18 (by kernel_rfl)
  simp only [putAll, pz1, pz2, pz3, pz4, Act.put, pz5, pz6, pz7, d5, d10, d14, d18] at hA
  clear hd d5 d10 d14 d18
  obtain rfl := hA
  go_wp2_with (go_at_call 154; refine (within_any _ _ _ _).mono ?_; rintro e w' ⟨rfl, rfl⟩)
  exact hK.out _ _ brf (by rw [HIB.out])
 apply grow_eq
 ·intro V W K A hW hd hA hK
  have d5 : V 5 = _ := hd 5 (by kernel_rfl)
  have d19 : (fun v _ => v = .bool ib) (V 19) W := hd 19 (by kernel_rfl)
  simp only [putAll, pz1, pz2, pz3, pz4, Act.put, pz5, pz6, pz7, d5] at hA
  clear hd d5
  generalize V 19 = x19 at d19 hA
  obtain rfl := hA
  obtain rfl := d19
  go_wp2
  exact hK.out _ brf
 intro V W A hW hS hA
 have d0 : V 0 = _ := hS 0 (by omega)
 have d1 : V 1 = _ := hS 1 (by omega)
 have d2 : V 2 = _ := hS 2 (by omega)
 have d3 : V 3 = _ := hS 3 (by omega)
 have d4 : (fun v _ => v = .bool true) (V 4) W := hS 4 (by omega)
 have d5 : V 5 = _ := hS 5 (by omega)
 have d6 : V 6 = _ := hS 6 (by omega)
 have d7 : V 7 = _ := hS 7 (by omega)
 have d8 : V 8 = _ := hS 8 (by omega)
 have d9 : V 9 = _ := hS 9 (by omega)
 have d10 : V 10 = _ := hS 10 (by omega)
 have d11 : V 11 = _ := hS 11 (by omega)
 have d12 : V 12 = _ := hS 12 (by omega)
 have d13 : V 13 = _ := hS 13 (by omega)
 have d14 : V 14 = _ := hS 14 (by omega)
 have d15 : V 15 = _ := hS 15 (by omega)
 have d16 : V 16 = _ := hS 16 (by omega)
 have d17 : V 17 = _ := hS 17 (by omega)
 have d18 : V 18 = _ := hS 18 (by omega)
 have d19 : (fun v _ => v = .bool ib) (V 19) W := hS 19 (by omega)
 have d20 : V 20 = _ := hS 20 (by omega)
 simp only [putAll, pz1, pz2, pz3, pz4, Act.put, pz5, pz6, pz7, d0, d1, d2, d3, d5, d6, d7, d8, d9, d10, d11, d12, d13, d14, d15, d16, d17, d18, d20] at hA
 clear hS d0 d1 d2 d3 d5 d6 d7 d8 d9 d10 d11 d12 d13 d14 d15 d16 d17 d18 d20
 generalize V 4 = x4 at d4 hA
 generalize V 19 = x19 at d19 hA
 obtain rfl := hA
 simp only [List.drop_succ_cons, List.drop_zero]
 obtain rfl := d4
 obtain rfl := d19
 have HGW : Hid _ := below_blk hW HG1.out hg1
 have HRW : Hid (RowIs W 67 13 g1 n1 d1 (svcsV X.svcs)) := (HR1.out.below hb1 hlt1).below hW hg11
 have hbW := hb1.trans (hW.mono hb1.size)
 have HSN : Hid (scaleNo A s = !ib) := by
  unfold Hid scaleNo
  rw [HSC.out, show (s.per == 0) = false by have := HPB.out; simpa [bne] using this, HIB.out]
  rfl
 have hgg : g ≠ g1 := fun e => by
  subst e
  obtain ⟨_, _, cur, hc, _⟩ := HRW.out
  have := HGW.out
  rw [hc] at this
  injection this with this
  injection this with _ this
  exact absurd this (by decide)
 have hgW : g < W.heap.size := (Array.getElem?_eq_some_iff.1 HGW.out).1
 have hNW : N ≤ W.heap.size := Nat.le_trans hN hbW.size
 clear hW HG1 HSV1 HSV hb1 HG HR1
 cases ib
 ·go_wp2_with (go_at_call 167; refine (insist_no 6 _).mono ?_; rintro e w2 ⟨rfl, rfl⟩)
  exact ⟨rfl, .inr ⟨by rw [HSN.out]; rfl, rfl⟩, hbW.mono hN⟩
 go_upto_region 3 with (go_at_call 167; refine (insist_yes 6 _).mono ?_; rintro e w2 ⟨rfl, rfl⟩)
 obtain ⟨wb, hwb⟩ : ∃ x, x = W := ⟨_, rfl⟩
 subst hwb
 obtain ⟨T14, HT⟩ : ∃ T : World → Prop, Hid (∀ W, T W ↔ RowIs W 67 13 g1 n1 d1 (svcsV (X.svcs.set k { s with want := A.want }))) := ⟨_, fun W => Iff.rfl⟩
 refine wp_region_stores 17 14 g1 (fun W => KeepB g1 wb W ∧ Below N wb W) (fun W => RowIs W 67 13 g1 n1 d1 (svcsV X.svcs)) (by kernel_rfl) (by kernel_rfl) ⟨KeepB.refl _ _, Below.refl _ _⟩ HRW.out (fun _ _ h hb => ⟨h.1.below hb, h.2.trans (hb.mono (Nat.le_trans hNW h.2.size))⟩) (fun _ _ h on => ⟨h.1.only on, h.2.trans (on.below.mono hN1)⟩) (fun _ _ h hb => h.below hb h.lt) ?_
 apply growR_eq
 ·intro V W K A hW hZ hd hA hK
  simp only [putAll, pz1, pz2, pz3, pz4, Act.put, pz5, pz6, pz7] at hA
  clear hd
  obtain rfl := hA
  go_wp2
  exact hK.out _ brf
 apply growR_eq
 ·intro V W K A hW hZ hd hA hK
  simp only [putAll, pz1, pz2, pz3, pz4, Act.put, pz5, pz6, pz7] at hA
  clear hd
  obtain rfl := hA
  go_wp2
  exact hK.out _ brf
 apply growR_eq
 ·intro V W K A hW hZ hd hA hK
  simp only [putAll, pz1, pz2, pz3, pz4, Act.put, pz5, pz6, pz7] at hA
  clear hd
  obtain rfl := hA
  go_wp2
  exact hK.out _ brf
 apply growR_eq
 ·intro V W K A hW hZ hd hA hK
  have d2 : V 2 = _ := hd 2 (by kernel_rfl)
  simp only [putAll, pz1, pz2, pz3, pz4, Act.put, pz5, pz6, pz7, d2] at hA
  clear hd d2
  obtain rfl := hA
  go_wp2
  exact hK.out _ brf
 apply growR_eq
 ·intro V W K A hW hZ hd hA hK
  have d3 : V 3 = _ := hd 3 (by kernel_rfl)
  simp only [putAll, pz1, pz2, pz3, pz4, Act.put, pz5, pz6, pz7, d3] at hA
  clear hd d3
  obtain rfl := hA
  go_wp2
  exact hK.out _ brf
 apply growR_eq
 ·intro V W K A hW hZ hd hA hK
  have d4 : V 4 = _ := hd 4 (by kernel_rfl)
  simp only [putAll, pz1, pz2, pz3, pz4, Act.put, pz5, pz6, pz7, d4] at hA
  clear hd d4
  obtain rfl := hA
  go_wp2
  exact hK.out _ brf
 apply growR_eq
 ·intro V W K A hW hZ hd hA hK
  have d5 : V 5 = _ := hd 5 (by kernel_rfl)
  simp only [putAll, pz1, pz2, pz3, pz4, Act.put, pz5, pz6, pz7, d5] at hA
  clear hd d5
  obtain rfl := hA
  have e3 := blk_cell ((hW.1.2 g hgW hgg).trans HGW.out) 3 rfl
  go_wp2
  exact hK.out _ brf
 apply growR_eq
 ·intro V W K A hW hZ hd hA hK
  simp only [putAll, pz1, pz2, pz3, pz4, Act.put, pz5, pz6, pz7] at hA
  clear hd
  obtain rfl := hA
  go_wp2
  exact hK.out _ brf
 apply growR_eq
 ·intro V W K A hW hZ hd hA hK
  have d7 : V 7 = _ := hd 7 (by kernel_rfl)
  simp only [putAll, pz1, pz2, pz3, pz4, Act.put, pz5, pz6, pz7, d7] at hA
  clear hd d7
  obtain rfl := hA
  go_wp2
  exact hK.out _ brf
 apply growR_eq
 ·intro V W K A hW hZ hd hA hK
  have d8 : V 8 = _ := hd 8 (by kernel_rfl)
  simp only [putAll, pz1, pz2, pz3, pz4, Act.put, pz5, pz6, pz7, d8] at hA
  clear hd d8
  obtain rfl := hA
  go_wp2
  exact hK.out _ brf
 apply growR_eq
 ·intro V W K A hW hZ hd hA hK
  have d9 : V 9 = _ := hd 9 (by kernel_rfl)
  simp only [putAll, pz1, pz2, pz3, pz4, Act.put, pz5, pz6, pz7, d9] at hA
  clear hd d9
  obtain rfl := hA
  go_wp2
  exact hK.out _ brf
 apply growR_eq
 ·intro V W K A hW hZ hd hA hK
  have d10 : V 10 = _ := hd 10 (by kernel_rfl)
  simp only [putAll, pz1, pz2, pz3, pz4, Act.put, pz5, pz6, pz7, d10] at hA
  clear hd d10
  obtain rfl := hA
  have e4 := blk_cell ((hW.1.2 g hgW hgg).trans HGW.out) 4 rfl
  go_wp2
  exact hK.out _ brf
 apply growR_eq
 ·intro V W K A hW hZ hd hA hK
  have d0 : V 0 = _ := hd 0 (by kernel_rfl)
  simp only [putAll, pz1, pz2, pz3, pz4, Act.put, pz5, pz6, pz7, d0] at hA
  clear hd d0
  obtain rfl := hA
  go_wp2
  exact hK.out _ brf
 apply growR_eq
 ·intro V W K A hW hZ hd hA hK
  have d12 : V 12 = _ := hd 12 (by kernel_rfl)
  simp only [putAll, pz1, pz2, pz3, pz4, Act.put, pz5, pz6, pz7, d12] at hA
  clear hd d12
  obtain rfl := hA
  go_wp2
  exact hK.out _ brf
 refine growR_op (fun _ W => T14 W) (fun i hi _ W W' h hr => (HT.out W').2 (relp_row hi ((HT.out W).1 h) hr)) ?_ ?_
 ·intro V W K A hW hZ hd hA hK
  have d6 : V 6 = _ := hd 6 (by kernel_rfl)
  have d13 : V 13 = _ := hd 13 (by kernel_rfl)
  simp only [putAll, pz1, pz2, pz3, pz4, Act.put, pz5, pz6, pz7, d6, d13] at hA
  clear hd d6 d13
  obtain rfl := hA
  have h0 := hZ rfl
  refine wpList_row_one rfl 3 (.tmp 46) (.tmp 39) rfl g1 _ (.int .i64 A.want) rfl rfl Tryz.infosIntO rfl rfl 67 13 n1 d1 _ h0 (by omega) ?_
  intro w2 hr on
  have h2 := hr.out
  rw [show splice (svcsV X.svcs) (k * 13 + 4) [.int .i64 A.want] = svcsV (X.svcs.set k { s with want := A.want }) from flat_splice_one (c := Svc.cells) (n := 13) (fun _ => rfl) X.svcs k 4 s { s with want := A.want } _ HK.out (by omega) rfl] at h2
  exact hK.out _ _ on ((HT.out _).2 h2)
 apply growR_eq
 ·intro V W K A hW hZ hd hA hK
  have d1 : V 1 = _ := hd 1 (by kernel_rfl)
  simp only [putAll, pz1, pz2, pz3, pz4, Act.put, pz5, pz6, pz7, d1] at hA
  clear hd d1
  obtain rfl := hA
  go_wp2
  exact hK.out _ brf
 apply growR_eq
 ·intro V W K A hW hZ hd hA hK
  have d15 : V 15 = _ := hd 15 (by kernel_rfl)
  simp only [putAll, pz1, pz2, pz3, pz4, Act.put, pz5, pz6, pz7, d15] at hA
  clear hd d15
  obtain rfl := hA
  go_wp2
  exact hK.out _ brf
 intro V W A hW hS hA
 have d0 : V 0 = _ := hS 0 (by omega)
 have d1 : V 1 = _ := hS 1 (by omega)
 have d2 : V 2 = _ := hS 2 (by omega)
 have d3 : V 3 = _ := hS 3 (by omega)
 have d4 : V 4 = _ := hS 4 (by omega)
 have d5 : V 5 = _ := hS 5 (by omega)
 have d6 : V 6 = _ := hS 6 (by omega)
 have d7 : V 7 = _ := hS 7 (by omega)
 have d8 : V 8 = _ := hS 8 (by omega)
 have d9 : V 9 = _ := hS 9 (by omega)
 have d10 : V 10 = _ := hS 10 (by omega)
 have d11 : V 11 = _ := hS 11 (by omega)
 have d12 : V 12 = _ := hS 12 (by omega)
 have d13 : V 13 = _ := hS 13 (by omega)
 have d14 : (fun _ W => T14 W) (V 14) W := hS 14 (by omega)
 have d15 : V 15 = _ := hS 15 (by omega)
 have d16 : V 16 = _ := hS 16 (by omega)
 simp only [putAll, pz1, pz2, pz3, pz4, Act.put, pz5, pz6, pz7, d0, d1, d2, d3, d4, d5, d6, d7, d8, d9, d10, d11, d12, d13, d15, d16] at hA
 clear hS d0 d1 d2 d3 d4 d5 d6 d7 d8 d9 d10 d11 d12 d13 d15 d16
 obtain rfl := hA
 simp only [List.drop_succ_cons, List.drop_zero]
 have R2 : Hid (RowIs W 67 13 g1 n1 d1 (svcsV (X.svcs.set k { s with want := A.want }))) := (HT.out W).1 d14
 clear d14
 have HKB : Hid (KeepB g1 wb W) := hW.1
 have hbx := hW.2
 clear hW
 go_wp2_with ((with_reducible show wpList _ _ _ _ _ _); refine wpList_row_one rfl 3 (.tmp 48) (.tmp 44) rfl g1 _ (.int .i64 A.cool) rfl rfl Tryz.infosIntO rfl rfl 67 13 n1 d1 _ R2.out (by omega) ?_; intro w3 hr on; have R3 : Hid (RowIs w3 67 13 g1 n1 d1 (svcsV (X.svcs.set k { s with want := A.want, cool := A.cool }))) := (by have := hr.out; rw [show splice (svcsV (X.svcs.set k { s with want := A.want })) (k * 13 + 12) [.int .i64 A.cool] = svcsV ((X.svcs.set k { s with want := A.want }).set k { s with want := A.want, cool := A.cool }) from flat_splice_one (c := Svc.cells) (n := 13) (fun _ => rfl) (X.svcs.set k { s with want := A.want }) k 12 { s with want := A.want } { s with want := A.want, cool := A.cool } _ (by rw [List.getElem?_set_self (by rw [HN1.out]; exact hkl)]) (by omega) rfl, List.set_set] at this; exact this); have HO3 : Hid (Only g1 W w3) := on; clear hr on)
 go_end0
 have kb := HKB.out.only HO3.out
 obtain ⟨_, _, cur, hcur, _⟩ := id HRW.out
 have kt : KeepT 67 wb w3 := kb.toT hcur
 have kw : KeepT 67 w wb := .of_below hbW
 refine ⟨.inl ⟨by rw [HSN.out]; rfl, rfl, ⟨some ⟨g1, 0, none⟩, b2, b3, d1, d2, d3, ve, hNg, ?_, ⟨?_, ?_, ?_⟩, ?_⟩⟩, (hbW.mono hN).trans (hbx.trans (HO3.out.below.mono hN1))⟩
 ·have := kt.blk HGW.out (by decide)
  rw [← HN2.out, ← HN3.out, ← HN1.out] at this
  simpa only [List.length_set] using this
 ·have h := R3.out
  rw [← HN1.out, ← scaled_yes HSC.out] at h
  exact .inr ⟨g1, rfl, hN1, by simpa only [List.length_set] using h⟩
 ·have := kt.rowN (kw.rowN HR2.out (by decide)) (by decide)
  rw [← HN2.out] at this
  exact this
 ·have := kt.rowN (kw.rowN HR3.out (by decide)) (by decide)
  rw [← HN3.out] at this
  exact this
 ·have := kt.own (kw.own HEI.out (by decide)) (by decide)
  rw [← HNE.out] at this
  exact this
end Go.Proofs.YtbceafpodamnfabGreatDoor
