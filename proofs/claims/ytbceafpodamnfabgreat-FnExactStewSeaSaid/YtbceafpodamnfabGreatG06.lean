/-
  My own: Li, Ls.
-/
import Derived.Test.YtbceafpodamnfabGreatG04
namespace Go.Proofs.YtbceafpodamnfabGreat
open Go Go.RowKit
section
variable {P : Program} {ops : Array Oper} {Q : Exit → Act → World → Prop}
def Steady (T : Value → World → Prop) : Prop := ∀ v W W', T v W → T v W'
def reachB (ops : Array Oper) : Nat → Nat → Nat → Bool
 | 0, i, t => Region.waitsFor .any ops i t
 | f + 1, i, t => Region.waitsFor .any ops i t || (List.range ops.size).any fun m => Region.waitsFor .any ops i m && reachB ops f m t
def needsAt (needs : List (List Nat)) (i : Nat) : List Nat := needs.getD i []
def ownB (ops : Array Oper) (n : Nat) (needs : List (List Nat)) (own vary tailN : List Nat) (f : Nat) : Bool :=
 ((List.range n).all fun i => (needsAt needs i).all fun j => Region.waitsFor .any ops i j) &&
 (tailN.all fun j => decide (j < n)) &&
 own.all fun i => vary.all fun j => j == i || Region.waitsFor .any ops j i || (!tailN.contains j && (List.range n).all fun t => !(needsAt needs t).contains j || t == i || reachB ops f i t)
theorem waits_listed {n : Nat} {listed : Array Bool} (inv : HeadInv .any ops n listed) {m t : Nat} (hm : listed.getD m false = true) (h : Region.waitsFor .any ops m t = true) : listed.getD t false = true := by
 obtain ⟨o, ho, e, he, hb, hon⟩ := Region.waitsFor_spec h
 have := inv.closed m o ho hm e he hb
 rwa [hon] at this
theorem reach_listed {n : Nat} {listed : Array Bool} (inv : HeadInv .any ops n listed) : ∀ (f m t : Nat), listed.getD m false = true → reachB ops f m t = true → listed.getD t false = true
 | 0, m, t, hm, h => waits_listed inv hm h
 | f + 1, m, t, hm, h => by
  unfold reachB at h
  rcases Bool.or_eq_true_iff.1 h with h | h
  ·exact waits_listed inv hm h
  ·obtain ⟨q, _, hq⟩ := List.any_eq_true.1 h
   rw [Bool.and_eq_true] at hq
   exact reach_listed inv f q t (waits_listed inv hm hq.1) hq.2
theorem reach_ready {n : Nat} {listed : Array Bool} (inv : HeadInv .any ops n listed) {i : Nat} (hr : ∀ j, Region.waitsFor .any ops i j = true → listed.getD j false = true) : ∀ (f t : Nat), reachB ops f i t = true → listed.getD t false = true
 | 0, t, h => hr t h
 | f + 1, t, h => by
  unfold reachB at h
  rcases Bool.or_eq_true_iff.1 h with h | h
  ·exact hr t h
  ·obtain ⟨q, _, hq⟩ := List.any_eq_true.1 h
   rw [Bool.and_eq_true] at hq
   exact reach_listed inv f q t (hr q hq.1) hq.2
def OwnOp (P : Program) (ops : Array Oper) (a0 : Act) (n : Nat) (w0 : World) (needs : List (List Nat)) (own : List Nat) (S : Nat → Value → World → Prop) (i : Nat) (o : Oper) (T : Value → World → Prop) : Prop :=
 ∀ (V : Nat → Value) (W : World) (K : Act → World → Prop), Below w0.heap.size w0 W → (∀ j, (needsAt needs i).contains j = true → S j (V j) W) →
  Hid (∀ v W', Below (if own.contains i then w0.heap.size else W.heap.size) W W' → T v W' → K ((putAll ops V n a0).put o.dst v) W') → wpList P ops (KPost K) [o] (putAll ops V n a0) W
def needed (n : Nat) (needs : List (List Nat)) (tailN : List Nat) (listed : Array Bool) (j : Nat) : Prop := tailN.contains j = true ∨ ∃ t, t < n ∧ (needsAt needs t).contains j = true ∧ listed.getD t false = false
theorem wpAny_own {n g f : Nat} {S : Nat → Value → World → Prop} {w0 : World} {a0 : Act} {needs : List (List Nat)} {own vary tailN : List Nat}
  (hw : ∀ listed, HeadInv .any ops n listed → ∀ i, i < n → listed.getD i true = false → ∀ t, n ≤ t → t ∉ Region.ready .any ops listed)
  (hn : n ≤ ops.size) (hdB : depsB .any ops n = true) (hd : ownDst ops n = true) (hown : ownB ops n needs own vary tailN f = true)
  (hst : ∀ j, Lasts (S j)) (hsy : ∀ j, vary.contains j = false → Steady (S j))
  (hop : ∀ i o, i < n → ops[i]? = some o → OwnOp P ops a0 n w0 needs own S i o (S i))
  (hlast : ∀ V W, Below w0.heap.size w0 W → (∀ j, j < n → (tailN.contains j = true ∨ vary.contains j = false) → S j (V j) W) → wpAny P .any ops Q g (firstN ops n) (putAll ops V n a0) W) :
  ∀ (m : Nat) (listed : Array Bool) (V : Nat → Value) (W : World), HeadInv .any ops n listed → leftOf n listed = m → Below w0.heap.size w0 W → (∀ j, j < n → listed.getD j false = true → (vary.contains j = false ∨ needed n needs tailN listed j) → S j (V j) W) →
   wpAny P .any ops Q (m + g) listed (putAll ops V n a0) W
 | 0, listed, V, W, inv, hm, hb, hS => by
  have hall : ∀ i, i < n → listed.getD i true = true := by
   intro i hi
   have := List.countP_eq_zero.1 hm i (List.mem_range.2 hi)
   simpa using this
  rw [listed_firstN inv hall, Nat.zero_add]
  refine hlast V W hb fun j hj hq => hS j hj ?_ ?_
  ·have := hall j hj
   have hjs : j < listed.size := by rw [inv.size]; omega
   simp [hjs] at this ⊢
   exact this
  ·rcases hq with hq | hq
   ·exact .inr (.inl hq)
   ·exact .inl hq
 | m + 1, listed, V, W, inv, hm, hb, hS => by
  obtain ⟨u, hu, hul⟩ : ∃ u, u < n ∧ listed.getD u true = false := by
   have : 0 < leftOf n listed := by omega
   obtain ⟨u, hu, hul⟩ := List.countP_pos_iff.1 this
   exact ⟨u, List.mem_range.1 hu, by simpa using hul⟩
  rw [show m + 1 + g = (m + g) + 1 by omega]
  refine ⟨fun h0 => absurd h0 (least_ready hdB inv u hu hul), fun i hi => ?_⟩
  have hin : i < n := by
   rcases Nat.lt_or_ge i n with h | h
   ·exact h
   ·exact absurd hi (hw listed inv u hu hul i h)
  obtain ⟨hun, o, ho, hall⟩ := mem_ready.1 hi
  have hr : ∀ j, Region.waitsFor .any ops i j = true → listed.getD j false = true := fun j hj => by
   obtain ⟨oj, hoj, e, he, hbd, hon⟩ := Region.waitsFor_spec hj
   have : oj = o := Option.some.inj (hoj.symm.trans ho)
   subst this
   have hl := hall e he hbd
   rwa [hon] at hl
  have hlt : ∀ j, Region.waitsFor .any ops i j = true → j < n := fun j hj => by
   obtain ⟨oj, hoj, e, he, hbd, hon⟩ := Region.waitsFor_spec hj
   have h1 := List.all_eq_true.1 hdB i (List.mem_range.2 hin)
   rw [hoj] at h1
   have h2 := Array.all_eq_true'.1 h1 e he
   rw [hbd] at h2
   have h3 : e.on < i := by simpa using h2
   omega
  have hB := hown
  unfold ownB at hB
  rw [Bool.and_eq_true, Bool.and_eq_true] at hB
  obtain ⟨⟨hB1, _⟩, hB2⟩ := hB
  have hwait : ∀ t, t < n → ∀ j, (needsAt needs t).contains j = true → Region.waitsFor .any ops t j = true := fun t ht j hj =>
   List.all_eq_true.1 (List.all_eq_true.1 hB1 t (List.mem_range.2 ht)) j (List.contains_iff_mem.1 hj)
  have hif : listed.getD i false = false := getD_both hun
  refine wpOp_of_list ho (hop i o hin ho V W _ hb (fun j hj => ?_) fun v W' hb' hs' => ?_)
  ·exact hS j (hlt j (hwait i hin j hj)) (hr j (hwait i hin j hj)) (.inr (.inr ⟨i, hin, hj, hif⟩))
  ·have hdst : o.dst = (ops[i]?).bind (·.dst) := by rw [ho]; rfl
   rw [hdst, putAll_upd hd hin]
   have his : i < listed.size := by rw [inv.size]; exact (Array.getElem?_eq_some_iff.1 ho).1
   have hb0 : Below w0.heap.size w0 W' := by
    split at hb'
    ·exact hb.trans hb'
    ·exact hb.trans (hb'.mono hb.size)
   refine wpAny_own hw hn hdB hd hown hst hsy hop hlast m _ _ W' (inv.set hi hin) (by have := leftOf_set hin his hun; omega) hb0 fun j hj hl hq => ?_
   by_cases hji : j = i
   ·subst hji
    simpa [upd] using hs'
   ·rw [getD_set_ne false (Ne.symm hji)] at hl
    have eV : upd V i v j = V j := by simp [upd, hji]
    rw [eV]
    have hq0 : vary.contains j = false ∨ needed n needs tailN listed j := by
     rcases hq with hq | hq | ⟨t, ht, hn', hf⟩
     ·exact .inl hq
     ·exact .inr (.inl hq)
     ·refine .inr (.inr ⟨t, ht, hn', ?_⟩)
      by_cases hti : t = i
      ·rw [hti]; exact hif
      ·rwa [getD_set_ne false (Ne.symm hti)] at hf
    have hSj := hS j hj hl hq0
    by_cases how : own.contains i = true
    ·cases hv : vary.contains j with
     | false => exact hsy j hv _ _ _ hSj
     | true =>
      exfalso
      have hc := List.all_eq_true.1 (List.all_eq_true.1 hB2 i (List.contains_iff_mem.1 how)) j (List.contains_iff_mem.1 hv)
      rw [Bool.or_eq_true, Bool.or_eq_true, Bool.and_eq_true] at hc
      rcases hc with (hc | hc) | ⟨hc1, hc2⟩
      ·exact hji (by simpa using hc)
      ·have := waits_listed inv hl hc
       rw [hif] at this
       cases this
      ·rcases hq with hq | hq | ⟨t, ht, hn', hf⟩
       ·rw [hv] at hq; cases hq
       ·rw [hq] at hc1; cases hc1
       ·have h3 := List.all_eq_true.1 hc2 t (List.mem_range.2 ht)
        rw [Bool.or_eq_true, Bool.or_eq_true, hn'] at h3
        rcases h3 with (h3 | h3) | h3
        ·cases h3
        ·have : t = i := by simpa using h3
         rw [this] at hf
         simp [his] at hf
        ·have hlt' := reach_ready inv hr f t h3
         by_cases hti : t = i
         ·rw [hti] at hf
          simp [his] at hf
         ·rw [getD_set_ne false (Ne.symm hti), hlt'] at hf
          cases hf
    ·rw [if_neg how] at hb'
     exact hst j (V j) W W' hSj hb'
theorem wp_region_own {id : Nat} {a : Act} {w : World} {l : List Oper} (n f : Nat) (needs : List (List Nat)) (own vary tailN : List Nat) (S : Nat → Value → World → Prop) (hm : P.follows .mixedOrders = true) (hB : growTailB l.toArray n = true) (hO : ownB l.toArray n needs own vary tailN f = true)
  (hst : ∀ j, Lasts (S j)) (hsy : ∀ j, vary.contains j = false → Steady (S j)) (hop : ∀ i o, i < n → l.toArray[i]? = some o → OwnOp P l.toArray a n w needs own S i o (S i))
  (hlast : ∀ V W, Below w.heap.size w W → (∀ j, j < n → (tailN.contains j = true ∨ vary.contains j = false) → S j (V j) W) → wpList P l.toArray Q (l.drop n) (putAll l.toArray V n a) W) : (Code.region id l.toArray true).wp P Q a w := by
 simp only [growTailB, Bool.and_eq_true, decide_eq_true_eq] at hB
 obtain ⟨⟨⟨⟨⟨hn, hs⟩, hc⟩, hdB⟩, hd⟩, hseq⟩ := hB
 refine wp_region_any hm ?_
 have inv0 : HeadInv .any l.toArray n (Array.replicate l.toArray.size false) :=
  ⟨by simp, fun j oj _ hl => (by rw [getD_replicate_false] at hl; cases hl), fun t _ ht => getD_in (by simpa using ht) (getD_replicate_false _ _)⟩
 have hb0 : Below w.heap.size w { w with drawn := w.drawn + 1 } := ⟨rfl, rfl, rfl, Nat.le_refl _, fun _ _ => rfl⟩
 have hleft : leftOf n (Array.replicate l.toArray.size false) = n := by
  unfold leftOf
  rw [List.countP_eq_length.2]
  ·simp
  ·intro i hi
   have : i < l.toArray.size := by have := List.mem_range.1 hi; omega
   rw [getD_in (by simpa using this) (getD_replicate_false _ _)]
   rfl
 obtain ⟨V0, hV0⟩ : ∃ V0, putAll l.toArray V0 n a = a := ⟨_, putAll_self a n⟩
 have H := wpAny_own (P := P) (Q := Q) (g := l.toArray.size - n) (f := f) (S := S) (w0 := w) (a0 := a) (needs := needs) (own := own) (vary := vary) (tailN := tailN) (fun listed inv i hi hu t ht => tail_waits hs hc hn inv _ i rfl hi hu t ht) (by omega) hdB hd hO hst hsy hop
  (fun V W hb hS => by
   have hdl : (l.drop n).length = l.toArray.size - n := by simp
   have := wpAny_of_seq (md := .any) (Q' := Q) (l.drop n) n (firstN l.toArray n) _ W (fun j => by simp [List.getElem?_drop]) (by rw [hdl]; exact hseq) (hlast V W hb hS)
   rwa [hdl] at this)
  n _ V0 { w with drawn := w.drawn + 1 } inv0 hleft hb0 (fun j _ hl => by rw [getD_replicate_false] at hl; cases hl)
 rw [hV0, show n + (l.toArray.size - n) = l.toArray.size by omega] at H
 exact H
def ownFrom (P : Program) (ops : Array Oper) (a0 : Act) (n : Nat) (w0 : World) (needs : List (List Nat)) (own vary : List Nat) (L : (Nat → Value → World → Prop) → Prop) : List Oper → Nat → (Nat → Value → World → Prop) → Prop
 | [], _, S => L S
 | o :: rest, i, S => ∃ T, Lasts T ∧ (vary.contains i = false → Steady T) ∧ OwnOp P ops a0 n w0 needs own S i o T ∧ ownFrom P ops a0 n w0 needs own vary L rest (i + 1) (updS S i T)
section
variable {a0 : Act} {n : Nat} {w0 : World} {needs : List (List Nat)} {own vary : List Nat} {L : (Nat → Value → World → Prop) → Prop} {o : Oper} {rest : List Oper} {i : Nat} {S : Nat → Value → World → Prop}
theorem own_eq {u : Value} (hw : own.contains i = false)
  (h : ∀ (V : Nat → Value) (W : World) (K : Act → World → Prop) (A : Act), Below w0.heap.size w0 W → (∀ j, (needsAt needs i).contains j = true → S j (V j) W) → Hid (A = putAll ops V n a0) →
   Hid (∀ W', Below W.heap.size W W' → K (A.put o.dst u) W') → wpList P ops (KPost K) [o] A W)
  (hr : ownFrom P ops a0 n w0 needs own vary L rest (i + 1) (updS S i fun v _ => v = u)) : ownFrom P ops a0 n w0 needs own vary L (o :: rest) i S :=
 ⟨fun v _ => v = u, fun _ _ _ h _ => h, fun _ _ _ _ h => h, fun V W K hb hd hK => h V W K _ hb hd rfl fun W' hb' => hK.out u W' (by rw [hw]; exact hb') rfl, hr⟩
theorem own_grow (T : Value → World → Prop) (hT : Lasts T) (hw : own.contains i = false) (hv : vary.contains i = true)
  (h : ∀ (V : Nat → Value) (W : World) (K : Act → World → Prop) (A : Act), Below w0.heap.size w0 W → (∀ j, (needsAt needs i).contains j = true → S j (V j) W) → Hid (A = putAll ops V n a0) →
   Hid (∀ v W', Below W.heap.size W W' → T v W' → K (A.put o.dst v) W') → wpList P ops (KPost K) [o] A W)
  (hr : ownFrom P ops a0 n w0 needs own vary L rest (i + 1) (updS S i T)) : ownFrom P ops a0 n w0 needs own vary L (o :: rest) i S :=
 ⟨T, hT, fun h => (by rw [hv] at h; cases h), fun V W K hb hd hK => h V W K _ hb hd rfl fun v W' hb' => hK.out v W' (by rw [hw]; exact hb'), hr⟩
theorem own_own (T : Value → World → Prop) (hT : Lasts T) (hw : own.contains i = true) (hv : vary.contains i = true)
  (h : ∀ (V : Nat → Value) (W : World) (K : Act → World → Prop) (A : Act), Below w0.heap.size w0 W → (∀ j, (needsAt needs i).contains j = true → S j (V j) W) → Hid (A = putAll ops V n a0) →
   Hid (∀ v W', Below w0.heap.size W W' → T v W' → K (A.put o.dst v) W') → wpList P ops (KPost K) [o] A W)
  (hr : ownFrom P ops a0 n w0 needs own vary L rest (i + 1) (updS S i T)) : ownFrom P ops a0 n w0 needs own vary L (o :: rest) i S :=
 ⟨T, hT, fun h => (by rw [hv] at h; cases h), fun V W K hb hd hK => h V W K _ hb hd rfl fun v W' hb' => hK.out v W' (by rw [hw]; exact hb'), hr⟩
end
theorem ownFrom_out {a0 : Act} {n : Nat} {w0 : World} {needs : List (List Nat)} {own vary : List Nat} {L : (Nat → Value → World → Prop) → Prop} (hlt : ∀ i, i < n → ∀ j, (needsAt needs i).contains j = true → j < i) : ∀ (l : List Oper) (k : Nat) (S : Nat → Value → World → Prop), k + l.length = n → (∀ j, j < l.length → l[j]? = ops[k + j]?) →
  (∀ j, Lasts (S j)) → (∀ j, j < k → vary.contains j = false → Steady (S j)) → (∀ i o, i < k → ops[i]? = some o → OwnOp P ops a0 n w0 needs own S i o (S i)) → ownFrom P ops a0 n w0 needs own vary L l k S →
  ∃ S', (∀ j, Lasts (S' j)) ∧ (∀ j, j < n → vary.contains j = false → Steady (S' j)) ∧ (∀ i o, i < n → ops[i]? = some o → OwnOp P ops a0 n w0 needs own S' i o (S' i)) ∧ L S'
 | [], k, S, hk, _, hl, hs, hop, h => by
  have e : n = k := by simpa using hk.symm
  rw [e]
  rw [e] at hop
  exact ⟨S, hl, hs, hop, h⟩
 | o :: l, k, S, hk, hs, hl, hsy, hop, ⟨T, hT, hTs, ho, h⟩ => by
  have h0 : ops[k]? = some o := by simpa using (hs 0 (by simp)).symm
  have hkn : k < n := by simp only [List.length_cons] at hk; omega
  refine ownFrom_out hlt l (k + 1) _ (by simp only [List.length_cons] at hk; omega) (fun j hj => by have := hs (j + 1) (by simp; omega); simpa [Nat.add_assoc, Nat.add_comm 1 j] using this) (fun j => ?_) (fun j hj hv => ?_) (fun i o' hi hi' => ?_) h
  ·by_cases e : j = k
   ·subst e; rw [updS_self]; exact hT
   ·rw [updS_ne _ _ e]; exact hl j
  ·by_cases e : j = k
   ·subst e; rw [updS_self]; exact hTs hv
   ·rw [updS_ne _ _ e]; exact hsy j (by omega) hv
  ·by_cases e : i = k
   ·subst e
    have : o' = o := Option.some.inj (hi'.symm.trans h0)
    subst this
    rw [updS_self]
    exact fun V W K hb hd hK => ho V W K hb (fun j hj => by have := hd j hj; rwa [updS_ne _ _ (by have := hlt i hkn j hj; omega)] at this) hK
   ·rw [updS_ne _ _ e]
    exact fun V W K hb hd hK => hop i o' (by omega) hi' V W K hb (fun j hj => by have := hd j hj; rwa [updS_ne _ _ (by have := hlt i (by omega) j hj; omega)] at this) hK
theorem wp_region_owns {id : Nat} {a : Act} {w : World} {l : List Oper} (n f : Nat) (needs : List (List Nat)) (own vary tailN : List Nat) (hm : P.follows .mixedOrders = true) (hB : growTailB l.toArray n = true) (hO : ownB l.toArray n needs own vary tailN f = true)
  (h : ownFrom P l.toArray a n w needs own vary (fun S => ∀ V W A, Below w.heap.size w W → (∀ j, j < n → (tailN.contains j = true ∨ vary.contains j = false) → S j (V j) W) → Hid (A = putAll l.toArray V n a) → wpList P l.toArray Q (l.drop n) A W) (l.take n) 0 fun _ _ _ => True) : (Code.region id l.toArray true).wp P Q a w := by
 have hB' := hB
 simp only [growTailB, Bool.and_eq_true, decide_eq_true_eq] at hB'
 obtain ⟨⟨⟨⟨⟨hn, _⟩, _⟩, hdB⟩, _⟩, _⟩ := hB'
 have hn' : n < l.length := by simpa using hn
 have hO' := hO
 unfold ownB at hO'
 rw [Bool.and_eq_true, Bool.and_eq_true] at hO'
 have hlt : ∀ i, i < n → ∀ j, (needsAt needs i).contains j = true → j < i := fun i hi j hj => by
  have hw := List.all_eq_true.1 (List.all_eq_true.1 hO'.1.1 i (List.mem_range.2 hi)) j (List.contains_iff_mem.1 hj)
  obtain ⟨oj, hoj, e, he, hbd, hon⟩ := Region.waitsFor_spec hw
  have h1 := List.all_eq_true.1 hdB i (List.mem_range.2 hi)
  rw [hoj] at h1
  have h2 := Array.all_eq_true'.1 h1 e he
  rw [hbd] at h2
  have h3 : e.on < i := by simpa using h2
  omega
 obtain ⟨S, h1, h2, h3, h4⟩ := ownFrom_out hlt (l.take n) 0 _ (by simp; omega) (fun j hj => by
  have : j < n := by simp at hj; omega
  simp [this]) (fun _ _ _ _ _ _ => trivial) (fun j hj => absurd hj (by omega)) (fun i o hi => absurd hi (by omega)) h
 refine wp_region_own n f needs own vary tailN (fun j => if j < n then S j else fun _ _ => True) hm hB hO (fun j => ?_) (fun j hv => ?_) (fun i o hi ho => ?_) fun V W hb hS => h4 V W _ hb (fun j hj hq => by have h' := hS j hj hq; rwa [if_pos hj] at h') rfl
 ·split
  ·exact h1 j
  ·exact fun _ _ _ _ _ => trivial
 ·by_cases hj : j < n
  ·rw [if_pos hj]; exact h2 j hj hv
  ·rw [if_neg hj]; exact fun _ _ _ _ => trivial
 ·rw [if_pos hi]
  exact fun V W K hb hd hK => h3 i o hi ho V W K hb (fun j hj => by have h' := hd j hj; dsimp only at h'; rwa [if_pos (by have := hlt i hi j hj; omega)] at h') hK
end
end Go.Proofs.YtbceafpodamnfabGreat

namespace Go.Proofs.YtbceafpodamnfabGreat
open Go.RowKit
section
variable {P : Program}
theorem wpList_slice_off {ops : Array Oper} {rest : List Oper} {o : Oper} {a : Act} {w : World} {Q : Exit → Act → World → Prop} (hgd : o.guard = none) (t : TypeId) (x : Operand) (lo hi mx : Option Operand) (ho : o.op = .slice t x lo hi mx)
  (ht : P.underlying t = some (.slice (P.elem t))) (size : Nat) (hsz : (P.info? (P.elem t)).map (·.size) = some size) (g off n cap l h m : Nat) (hx : a.eval x = .slice (some ⟨g, off, none⟩) n cap) (lv hv mv : Option Value) (hlv : lo.map a.eval = lv) (hhv : hi.map a.eval = hv) (hmv : mx.map a.eval = mv)
  (hrun : ∀ w : World, (Instr.slice t (.slice (some ⟨g, off, none⟩) n cap) lv hv mv).run P w = ((sizeOf (P.elem t)).run P w).andThen fun s w => .ok (sliced (some ⟨g, off, none⟩) l h m s) w)
  (hk : ∀ off', (off' = off + l * size ∨ m = l) → wpList P ops Q rest (a.put o.dst (.slice (some ⟨g, off', none⟩) (h - l) (m - l))) w) : wpList P ops Q (o :: rest) a w := by
 refine wpList_plain hgd fun K hK => ?_
 obtain ⟨i, hi', his⟩ : ∃ i, P.info? (P.elem t) = some i ∧ i.size = size := by
  cases hq : P.info? (P.elem t) with
  | none => simp [hq] at hsz
  | some i => exact ⟨i, rfl, by simpa [hq] using hsz⟩
 have hs : (sizeOf (P.elem t)).run P w = .ok size w := by simp [sizeOf, typeInfo, hi', his]
 have hrun := hrun w
 rw [hs] at hrun
 simp only [Result.andThen_ok] at hrun
 unfold Oper.wp execOp
 simp only [ho, hx, hlv, hhv, hmv, run_sliceAt_slice w t _ _ _ _ ht, Sem.run_bind, hrun, Result.andThen_ok, Sem.run_pure]
 unfold sliced
 by_cases hm : m = l
 ·rw [if_pos hm]
  exact hK _ _ (hk off (.inr hm))
 ·rw [if_neg hm]
  rw [Option.map_some, Addr.add_lit]
  exact hK _ _ (hk (off + l * size) (.inl rfl))
end
end Go.Proofs.YtbceafpodamnfabGreat
