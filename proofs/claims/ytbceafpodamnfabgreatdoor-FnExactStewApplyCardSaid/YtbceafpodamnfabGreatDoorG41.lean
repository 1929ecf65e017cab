/-
  My own: Lj.
-/
import Derived.Test.YtbceafpodamnfabGreatDoorG13
set_option linter.unusedVariables false
set_option linter.unusedSimpArgs false
namespace Go.Proofs.YtbceafpodamnfabGreatDoor
open Go Go.RowKit
section
variable {P : Program} {ops : Array Oper} {Q : Exit → Act → World → Prop}
def SteadyV (S : (Nat → Value) → World → Prop) : Prop := ∀ V W W', S V W → S V W'
def LastsV (S : (Nat → Value) → World → Prop) : Prop := ∀ V W W', S V W → Below W.heap.size W W' → S V W'
def NamesV (l : List Nat) (S : (Nat → Value) → World → Prop) : Prop := ∀ V V' W, (∀ m, l.contains m = true → V m = V' m) → S V W → S V' W
def ownVB (ops : Array Oper) (n : Nat) (needs : List (List Nat)) (own vary tailN : List Nat) (keeps : List (Nat × Nat)) (f : Nat) : Bool :=
 ((List.range n).all fun i => (needsAt needs i).all fun j => Region.waitsFor .any ops i j) &&
 (tailN.all fun j => decide (j < n)) &&
 own.all fun i => vary.all fun j => j == i || reachB ops f j i || keeps.contains (i, j) || (!tailN.contains j && (List.range n).all fun t => !(needsAt needs t).contains j || t == i || reachB ops f i t)
def OwnOpV (P : Program) (ops : Array Oper) (a0 : Act) (n : Nat) (w0 : World) (needs : List (List Nat)) (own : List Nat) (R : Nat → World → World → Prop) (S : Nat → (Nat → Value) → World → Prop) (i : Nat) (o : Oper) (T : (Nat → Value) → Value → World → Prop) : Prop :=
 ∀ (V : Nat → Value) (W : World) (K : Act → World → Prop), Below w0.heap.size w0 W → (∀ j, (needsAt needs i).contains j = true → S j V W) →
  Hid (∀ v W', (if own.contains i then R i W W' ∧ Below w0.heap.size W W' else Below W.heap.size W W') → T V v W' → K ((putAll ops V n a0).put o.dst v) W') → wpList P ops (KPost K) [o] (putAll ops V n a0) W
theorem wpAny_ownV {n g f : Nat} {S : Nat → (Nat → Value) → World → Prop} {T : Nat → (Nat → Value) → Value → World → Prop} {R : Nat → World → World → Prop} {keeps : List (Nat × Nat)} {w0 : World} {a0 : Act} {needs : List (List Nat)} {own vary tailN : List Nat}
  (hw : ∀ listed, HeadInv .any ops n listed → ∀ i, i < n → listed.getD i true = false → ∀ t, n ≤ t → t ∉ Region.ready .any ops listed)
  (hn : n ≤ ops.size) (hdB : depsB .any ops n = true) (hd : ownDst ops n = true) (hown : ownVB ops n needs own vary tailN keeps f = true) (hST : ∀ j, S j = fun V W => T j V (V j) W)
  (hst : ∀ j, LastsV (S j)) (hsy : ∀ j, vary.contains j = false → SteadyV (S j)) (hnm : ∀ j v, NamesV (needsAt needs j) (fun V W => T j V v W)) (hkp : ∀ i j, keeps.contains (i, j) = true → ∀ V W W', R i W W' → S j V W → S j V W')
  (hop : ∀ i o, i < n → ops[i]? = some o → OwnOpV P ops a0 n w0 needs own R S i o (T i))
  (hlast : ∀ V W, Below w0.heap.size w0 W → (∀ j, j < n → (tailN.contains j = true ∨ vary.contains j = false) → S j V W) → wpAny P .any ops Q g (firstN ops n) (putAll ops V n a0) W) :
  ∀ (m : Nat) (listed : Array Bool) (V : Nat → Value) (W : World), HeadInv .any ops n listed → leftOf n listed = m → Below w0.heap.size w0 W → (∀ j, j < n → listed.getD j false = true → (vary.contains j = false ∨ needed n needs tailN listed j) → S j V W) →
   wpAny P .any ops Q (m + g) listed (putAll ops V n a0) W
 | 0, listed, V, W, inv, hm, hb, hS => by
  have hall : ∀ i, i < n → listed.getD i true = true := by
   intro i hi
   have := List.countP_eq_zero.1 hm i (List.mem_range.2 hi)
   simpa using this
  rw [listed_firstN inv hall, Nat.zero_add]
  refine hlast V W hb fun j hj hq => hS j hj ?_ ?_
  ·have := hall j hj
   have hjs : j < listed.size := by rw [inv.size]; omega
   simp [hjs] at this ⊢
   exact this
  ·rcases hq with hq | hq
   ·exact .inr (.inl hq)
   ·exact .inl hq
 | m + 1, listed, V, W, inv, hm, hb, hS => by
  obtain ⟨u, hu, hul⟩ : ∃ u, u < n ∧ listed.getD u true = false := by
   have : 0 < leftOf n listed := by omega
   obtain ⟨u, hu, hul⟩ := List.countP_pos_iff.1 this
   exact ⟨u, List.mem_range.1 hu, by simpa using hul⟩
  rw [show m + 1 + g = (m + g) + 1 by omega]
  refine ⟨fun h0 => absurd h0 (least_ready hdB inv u hu hul), fun i hi => ?_⟩
  have hin : i < n := by
   rcases Nat.lt_or_ge i n with h | h
   ·exact h
   ·exact absurd hi (hw listed inv u hu hul i h)
  obtain ⟨hun, o, ho, hall⟩ := mem_ready.1 hi
  have hr : ∀ j, Region.waitsFor .any ops i j = true → listed.getD j false = true := fun j hj => by
   obtain ⟨oj, hoj, e, he, hbd, hon⟩ := Region.waitsFor_spec hj
   have : oj = o := Option.some.inj (hoj.symm.trans ho)
   subst this
   have hl := hall e he hbd
   rwa [hon] at hl
  have hlt : ∀ j, Region.waitsFor .any ops i j = true → j < n := fun j hj => by
   obtain ⟨oj, hoj, e, he, hbd, hon⟩ := Region.waitsFor_spec hj
   have h1 := List.all_eq_true.1 hdB i (List.mem_range.2 hin)
   rw [hoj] at h1
   have h2 := Array.all_eq_true'.1 h1 e he
   rw [hbd] at h2
   have h3 : e.on < i := by simpa using h2
   omega
  have hB := hown
  unfold ownVB at hB
  rw [Bool.and_eq_true, Bool.and_eq_true] at hB
  obtain ⟨⟨hB1, _⟩, hB2⟩ := hB
  have hwait : ∀ t, t < n → ∀ j, (needsAt needs t).contains j = true → Region.waitsFor .any ops t j = true := fun t ht j hj =>
   List.all_eq_true.1 (List.all_eq_true.1 hB1 t (List.mem_range.2 ht)) j (List.contains_iff_mem.1 hj)
  have hif : listed.getD i false = false := getD_both hun
  refine wpOp_of_list ho (hop i o hin ho V W _ hb (fun j hj => ?_) fun v W' hb' hs' => ?_)
  ·exact hS j (hlt j (hwait i hin j hj)) (hr j (hwait i hin j hj)) (.inr (.inr ⟨i, hin, hj, hif⟩))
  ·have hdst : o.dst = (ops[i]?).bind (·.dst) := by rw [ho]; rfl
   rw [hdst, putAll_upd hd hin]
   have his : i < listed.size := by rw [inv.size]; exact (Array.getElem?_eq_some_iff.1 ho).1
   have hb0 : Below w0.heap.size w0 W' := by
    split at hb'
    ·exact hb.trans hb'.2
    ·exact hb.trans (hb'.mono hb.size)
   refine wpAny_ownV hw hn hdB hd hown hST hst hsy hnm hkp hop hlast m _ _ W' (inv.set hi hin) (by have := leftOf_set hin his hun; omega) hb0 fun j hj hl hq => ?_
   by_cases hji : j = i
   ·subst hji
    rw [hST]
    simp only [upd, if_true]
    refine hnm j v V _ W' (fun m hm => ?_) hs'
    have hmj : m ≠ j := fun e => by
     subst e
     have := hr m (hwait m hin m hm)
     rw [hif] at this
     cases this
    simp [upd, hmj]
   ·rw [getD_set_ne false (Ne.symm hji)] at hl
    have hlj : listed.getD j false = true := hl
    have eV : ∀ W2, S j V W2 → S j (upd V i v) W2 := fun W2 h2 => by
     rw [hST] at h2 ⊢
     simp only [upd, if_neg hji]
     refine hnm j (V j) V _ W2 (fun m hm => ?_) h2
     have hmi : m ≠ i := fun e => by
      subst e
      have := waits_listed inv hlj (hwait j hj m hm)
      rw [hif] at this
      cases this
     simp [upd, hmi]
    refine eV W' ?_
    have hq0 : vary.contains j = false ∨ needed n needs tailN listed j := by
     rcases hq with hq | hq | ⟨t, ht, hn', hf⟩
     ·exact .inl hq
     ·exact .inr (.inl hq)
     ·refine .inr (.inr ⟨t, ht, hn', ?_⟩)
      by_cases hti : t = i
      ·rw [hti]; exact hif
      ·rwa [getD_set_ne false (Ne.symm hti)] at hf
    have hSj := hS j hj hl hq0
    by_cases how : own.contains i = true
    ·cases hv : vary.contains j with
     | false => exact hsy j hv _ _ _ hSj
     | true =>
      rw [if_pos how] at hb'
      have hc := List.all_eq_true.1 (List.all_eq_true.1 hB2 i (List.contains_iff_mem.1 how)) j (List.contains_iff_mem.1 hv)
      rw [Bool.or_eq_true, Bool.or_eq_true, Bool.or_eq_true, Bool.and_eq_true] at hc
      rcases hc with ((hc | hc) | hc) | ⟨hc1, hc2⟩
      ·exact absurd (by simpa using hc) hji
      ·have := reach_listed inv f j i hl hc
       rw [hif] at this
       cases this
      ·exact hkp i j hc V W W' hb'.1 hSj
      ·exfalso
       rcases hq with hq | hq | ⟨t, ht, hn', hf⟩
       ·rw [hv] at hq; cases hq
       ·rw [hq] at hc1; cases hc1
       ·have h3 := List.all_eq_true.1 hc2 t (List.mem_range.2 ht)
        rw [Bool.or_eq_true, Bool.or_eq_true, hn'] at h3
        rcases h3 with (h3 | h3) | h3
        ·cases h3
        ·have : t = i := by simpa using h3
         rw [this] at hf
         simp [his] at hf
        ·have hlt' := reach_ready inv hr f t h3
         by_cases hti : t = i
         ·rw [hti] at hf
          simp [his] at hf
         ·rw [getD_set_ne false (Ne.symm hti), hlt'] at hf
          cases hf
    ·rw [if_neg how] at hb'
     exact hst j V W W' hSj hb'
def updV (S : Nat → (Nat → Value) → Value → World → Prop) (i : Nat) (T : (Nat → Value) → Value → World → Prop) : Nat → (Nat → Value) → Value → World → Prop := fun j => if j = i then T else S j
theorem updV_self (S : Nat → (Nat → Value) → Value → World → Prop) (i : Nat) (T : (Nat → Value) → Value → World → Prop) : updV S i T i = T := by simp [updV]
theorem updV_ne (S : Nat → (Nat → Value) → Value → World → Prop) {i j : Nat} (T : (Nat → Value) → Value → World → Prop) (h : j ≠ i) : updV S i T j = S j := by simp [updV, h]
def atV (T : Nat → (Nat → Value) → Value → World → Prop) : Nat → (Nat → Value) → World → Prop := fun j V W => T j V (V j) W
def ownVFrom (P : Program) (ops : Array Oper) (a0 : Act) (n : Nat) (w0 : World) (needs : List (List Nat)) (own vary : List Nat) (R : Nat → World → World → Prop) (L : (Nat → (Nat → Value) → Value → World → Prop) → Prop) : List Oper → Nat → (Nat → (Nat → Value) → Value → World → Prop) → Prop
 | [], _, S => L S
 | o :: rest, i, S => ∃ T : (Nat → Value) → Value → World → Prop, (∀ V v W W', T V v W → Below W.heap.size W W' → T V v W') ∧ (vary.contains i = false → ∀ V v W W', T V v W → T V v W') ∧ (∀ v, NamesV (needsAt needs i) fun V W => T V v W) ∧
   OwnOpV P ops a0 n w0 needs own R (atV S) i o T ∧ ownVFrom P ops a0 n w0 needs own vary R L rest (i + 1) (updV S i T)
section
variable {a0 : Act} {n : Nat} {w0 : World} {needs : List (List Nat)} {own vary : List Nat} {R : Nat → World → World → Prop} {L : (Nat → (Nat → Value) → Value → World → Prop) → Prop} {o : Oper} {rest : List Oper} {i : Nat} {S : Nat → (Nat → Value) → Value → World → Prop}
theorem ownV_eq {u : Value} (hw : own.contains i = false)
  (h : ∀ (V : Nat → Value) (W : World) (K : Act → World → Prop) (A : Act), Below w0.heap.size w0 W → (∀ j, (needsAt needs i).contains j = true → S j V (V j) W) → Hid (A = putAll ops V n a0) →
   Hid (∀ W', Below W.heap.size W W' → K (A.put o.dst u) W') → wpList P ops (KPost K) [o] A W)
  (hr : ownVFrom P ops a0 n w0 needs own vary R L rest (i + 1) (updV S i fun _ v _ => v = u)) : ownVFrom P ops a0 n w0 needs own vary R L (o :: rest) i S :=
 ⟨fun _ v _ => v = u, fun _ _ _ _ h _ => h, fun _ _ _ _ _ h => h, fun _ _ _ _ _ h => h, fun V W K hb hd hK => h V W K _ hb hd rfl fun W' hb' => hK.out u W' (by rw [hw]; exact hb') rfl, hr⟩
theorem ownV_grow (T : Value → World → Prop) (hT : Lasts T) (hw : own.contains i = false) (hv : vary.contains i = true)
  (h : ∀ (V : Nat → Value) (W : World) (K : Act → World → Prop) (A : Act), Below w0.heap.size w0 W → (∀ j, (needsAt needs i).contains j = true → S j V (V j) W) → Hid (A = putAll ops V n a0) →
   Hid (∀ v W', Below W.heap.size W W' → T v W' → K (A.put o.dst v) W') → wpList P ops (KPost K) [o] A W)
  (hr : ownVFrom P ops a0 n w0 needs own vary R L rest (i + 1) (updV S i fun _ => T)) : ownVFrom P ops a0 n w0 needs own vary R L (o :: rest) i S :=
 ⟨fun _ => T, fun _ v W W' => hT v W W', fun h => (by rw [hv] at h; cases h), fun _ _ _ _ _ h => h, fun V W K hb hd hK => h V W K _ hb hd rfl fun v W' hb' => hK.out v W' (by rw [hw]; exact hb'), hr⟩
theorem ownV_own (T : (Nat → Value) → Value → World → Prop) (hT : ∀ V v W W', T V v W → Below W.heap.size W W' → T V v W') (hN : ∀ v, NamesV (needsAt needs i) fun V W => T V v W) (hw : own.contains i = true) (hv : vary.contains i = true)
  (h : ∀ (V : Nat → Value) (W : World) (K : Act → World → Prop) (A : Act), Below w0.heap.size w0 W → (∀ j, (needsAt needs i).contains j = true → S j V (V j) W) → Hid (A = putAll ops V n a0) →
   Hid (∀ v W', R i W W' → Below w0.heap.size W W' → T V v W' → K (A.put o.dst v) W') → wpList P ops (KPost K) [o] A W)
  (hr : ownVFrom P ops a0 n w0 needs own vary R L rest (i + 1) (updV S i T)) : ownVFrom P ops a0 n w0 needs own vary R L (o :: rest) i S :=
 ⟨T, hT, fun h => (by rw [hv] at h; cases h), hN, fun V W K hb hd hK => h V W K _ hb hd rfl fun v W' hr hb' => hK.out v W' (by rw [hw]; exact ⟨hr, hb'⟩), hr⟩
end
theorem ownVFrom_out {a0 : Act} {n : Nat} {w0 : World} {needs : List (List Nat)} {own vary : List Nat} {R : Nat → World → World → Prop} {L : (Nat → (Nat → Value) → Value → World → Prop) → Prop} (hlt : ∀ i, i < n → ∀ j, (needsAt needs i).contains j = true → j < i) : ∀ (l : List Oper) (k : Nat) (S : Nat → (Nat → Value) → Value → World → Prop), k + l.length = n → (∀ j, j < l.length → l[j]? = ops[k + j]?) →
  (∀ j V v W W', S j V v W → Below W.heap.size W W' → S j V v W') → (∀ j, j < k → vary.contains j = false → ∀ V v W W', S j V v W → S j V v W') → (∀ j v, NamesV (needsAt needs j) fun V W => S j V v W) → (∀ i o, i < k → ops[i]? = some o → OwnOpV P ops a0 n w0 needs own R (atV S) i o (S i)) → ownVFrom P ops a0 n w0 needs own vary R L l k S →
  ∃ S', (∀ j V v W W', S' j V v W → Below W.heap.size W W' → S' j V v W') ∧ (∀ j, j < n → vary.contains j = false → ∀ V v W W', S' j V v W → S' j V v W') ∧ (∀ j v, NamesV (needsAt needs j) fun V W => S' j V v W) ∧ (∀ i o, i < n → ops[i]? = some o → OwnOpV P ops a0 n w0 needs own R (atV S') i o (S' i)) ∧ L S'
 | [], k, S, hk, _, hl, hs, hnm, hop, h => by
  have e : n = k := by simpa using hk.symm
  rw [e]
  rw [e] at hop
  exact ⟨S, hl, hs, hnm, hop, h⟩
 | o :: l, k, S, hk, hs, hl, hsy, hnm, hop, ⟨T, hT, hTs, hTn, ho, h⟩ => by
  have h0 : ops[k]? = some o := by simpa using (hs 0 (by simp)).symm
  have hkn : k < n := by simp only [List.length_cons] at hk; omega
  refine ownVFrom_out hlt l (k + 1) _ (by simp only [List.length_cons] at hk; omega) (fun j hj => by have := hs (j + 1) (by simp; omega); simpa [Nat.add_assoc, Nat.add_comm 1 j] using this) (fun j => ?_) (fun j hj hv => ?_) (fun j => ?_) (fun i o' hi hi' => ?_) h
  ·by_cases e : j = k
   ·subst e; rw [updV_self]; exact hT
   ·rw [updV_ne _ _ e]; exact hl j
  ·by_cases e : j = k
   ·subst e; rw [updV_self]; exact hTs hv
   ·rw [updV_ne _ _ e]; exact hsy j (by omega) hv
  ·by_cases e : j = k
   ·subst e; rw [updV_self]; exact hTn
   ·rw [updV_ne _ _ e]; exact hnm j
  ·by_cases e : i = k
   ·subst e
    have : o' = o := Option.some.inj (hi'.symm.trans h0)
    subst this
    rw [updV_self]
    exact fun V W K hb hd hK => ho V W K hb (fun j hj => by have := hd j hj; unfold atV at this ⊢; rwa [updV_ne _ _ (by have := hlt i hkn j hj; omega)] at this) hK
   ·rw [updV_ne _ _ e]
    exact fun V W K hb hd hK => hop i o' (by omega) hi' V W K hb (fun j hj => by have := hd j hj; unfold atV at this ⊢; rwa [updV_ne _ _ (by have := hlt i (by omega) j hj; omega)] at this) hK
theorem wp_region_ownsV {id : Nat} {a : Act} {w : World} {l : List Oper} (n f : Nat) (needs : List (List Nat)) (own vary tailN : List Nat) (keeps : List (Nat × Nat)) (R : Nat → World → World → Prop) (hm : P.follows .mixedOrders = true) (hB : growTailB l.toArray n = true) (hO : ownVB l.toArray n needs own vary tailN keeps f = true)
  (h : ownVFrom P l.toArray a n w needs own vary R (fun S => (∀ i j, keeps.contains (i, j) = true → ∀ V v W W', R i W W' → S j V v W → S j V v W') ∧ ∀ V W A, Below w.heap.size w W → (∀ j, j < n → (tailN.contains j = true ∨ vary.contains j = false) → S j V (V j) W) → Hid (A = putAll l.toArray V n a) → wpList P l.toArray Q (l.drop n) A W) (l.take n) 0 fun _ _ _ _ => True) : (Code.region id l.toArray true).wp P Q a w := by
 have hB' := hB
 simp only [growTailB, Bool.and_eq_true, decide_eq_true_eq] at hB'
 obtain ⟨⟨⟨⟨⟨hn, hs⟩, hc⟩, hdB⟩, hd⟩, hseq⟩ := hB'
 have hn' : n < l.length := by simpa using hn
 have hO' := hO
 unfold ownVB at hO'
 rw [Bool.and_eq_true, Bool.and_eq_true] at hO'
 have hlt : ∀ i, i < n → ∀ j, (needsAt needs i).contains j = true → j < i := fun i hi j hj => by
  have hw := List.all_eq_true.1 (List.all_eq_true.1 hO'.1.1 i (List.mem_range.2 hi)) j (List.contains_iff_mem.1 hj)
  obtain ⟨oj, hoj, e, he, hbd, hon⟩ := Region.waitsFor_spec hw
  have h1 := List.all_eq_true.1 hdB i (List.mem_range.2 hi)
  rw [hoj] at h1
  have h2 := Array.all_eq_true'.1 h1 e he
  rw [hbd] at h2
  have h3 : e.on < i := by simpa using h2
  omega
 obtain ⟨S0, h1, h2, hnm, h3, hkp, h4⟩ := ownVFrom_out hlt (l.take n) 0 _ (by simp; omega) (fun j hj => by
  have : j < n := by simp at hj; omega
  simp [this]) (fun _ _ _ _ _ _ _ => trivial) (fun j hj => absurd hj (by omega)) (fun _ _ _ _ _ _ h => h) (fun i o hi => absurd hi (by omega)) h
 obtain ⟨S, hS⟩ : ∃ S : Nat → (Nat → Value) → Value → World → Prop, S = fun j => if j < n then S0 j else fun _ _ _ => True := ⟨_, rfl⟩
 have hSn : ∀ j, j < n → S j = S0 j := fun j hj => by rw [hS]; simp [hj]
 have hSo : ∀ j, ¬ j < n → S j = fun _ _ _ => True := fun j hj => by rw [hS]; simp [hj]
 refine wp_region_any hm ?_
 have inv0 : HeadInv .any l.toArray n (Array.replicate l.toArray.size false) :=
  ⟨by simp, fun j oj _ hl => (by rw [getD_replicate_false] at hl; cases hl), fun t _ ht => getD_in (by simpa using ht) (getD_replicate_false _ _)⟩
 have hb0 : Below w.heap.size w { w with drawn := w.drawn + 1 } := ⟨rfl, rfl, rfl, Nat.le_refl _, fun _ _ => rfl⟩
 have hleft : leftOf n (Array.replicate l.toArray.size false) = n := by
  unfold leftOf
  rw [List.countP_eq_length.2]
  ·simp
  ·intro i hi
   have : i < l.toArray.size := by have := List.mem_range.1 hi; omega
   rw [getD_in (by simpa using this) (getD_replicate_false _ _)]
   rfl
 obtain ⟨V0, hV0⟩ : ∃ V0, putAll l.toArray V0 n a = a := ⟨_, putAll_self a n⟩
 have H := wpAny_ownV (P := P) (Q := Q) (g := l.toArray.size - n) (f := f) (S := atV S) (T := S) (R := R) (keeps := keeps) (w0 := w) (a0 := a) (needs := needs) (own := own) (vary := vary) (tailN := tailN) (fun listed inv i hi hu t ht => tail_waits hs hc hn inv _ i rfl hi hu t ht) (by omega) hdB hd hO (fun j => rfl)
  (fun j V W W' hq hb => by
   unfold atV at hq ⊢
   by_cases hj : j < n
   ·rw [hSn j hj] at hq ⊢; exact h1 j V _ W W' hq hb
   ·rw [hSo j hj]; trivial)
  (fun j hv V W W' hq => by
   unfold atV at hq ⊢
   by_cases hj : j < n
   ·rw [hSn j hj] at hq ⊢; exact h2 j hj hv V _ W W' hq
   ·rw [hSo j hj]; trivial)
  (fun j v V V' W hVV hq => by
   by_cases hj : j < n
   ·simp only [hSn j hj] at hq ⊢; exact hnm j v V V' W hVV hq
   ·simp only [hSo j hj])
  (fun i j hk V W W' hr hq => by
   unfold atV at hq ⊢
   by_cases hj : j < n
   ·rw [hSn j hj] at hq ⊢; exact hkp i j hk V _ W W' hr hq
   ·rw [hSo j hj]; trivial)
  (fun i o hi ho => by
   rw [hSn i hi]
   exact fun V W K hb hd' hK => h3 i o hi ho V W K hb (fun j hj => by have h' := hd' j hj; unfold atV at h' ⊢; rwa [hSn j (by have := hlt i hi j hj; omega)] at h') hK)
  (fun V W hb hS' => by
   have hdl : (l.drop n).length = l.toArray.size - n := by simp
   have := wpAny_of_seq (md := .any) (Q' := Q) (l.drop n) n (firstN l.toArray n) _ W (fun j => by simp [List.getElem?_drop]) (by rw [hdl]; exact hseq) (h4 V W _ hb (fun j hj hq => by have h' := hS' j hj hq; unfold atV at h'; rwa [hSn j hj] at h') rfl)
   rwa [hdl] at this)
  n _ V0 { w with drawn := w.drawn + 1 } inv0 hleft hb0 (fun j _ hl => by rw [getD_replicate_false] at hl; cases hl)
 rw [hV0, show n + (l.toArray.size - n) = l.toArray.size by omega] at H
 exact H
end
end Go.Proofs.YtbceafpodamnfabGreatDoor
