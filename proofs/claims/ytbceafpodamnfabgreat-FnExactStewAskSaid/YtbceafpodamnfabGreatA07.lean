/-
  My own: Lg, Za, Zb, Zc, Dh, Zu, Ze.
-/
import Derived.StillTail
import Derived.Below
import Derived.Test.YtbceafpodamnfabGreatA01
import Derived.Test.YtbceafpodamnfabGreatA05
import Derived.Test.YtbceafpodamnfabGreatA04
/-
  My own. Regions that draw their order and whose operations only let the world grow: one walk, operation by operation.
-/
namespace Go.Proofs.YtbceafpodamnfabGreat
open Go Go.RowKit

section
variable {P : Program} {ops : Array Oper} {md : Region.Mode} {Q : Exit → Act → World → Prop}

/-- The frame with what each of the first n operations gave. -/
def putAll (ops : Array Oper) (V : Nat → Value) : Nat → Act → Act
  | 0, a => a
  | n + 1, a => (putAll ops V n a).put ((ops[n]?).bind (·.dst)) (V n)

def upd (V : Nat → Value) (i : Nat) (v : Value) : Nat → Value := fun j => if j = i then v else V j

theorem put_put (a : Act) (d : Option Tmp) (u v : Value) : (a.put d u).put d v = a.put d v := by
  cases d <;> simp [Act.put]

theorem putAll_off (V : Nat → Value) (i : Nat) (v : Value) (a : Act) : ∀ n, n ≤ i → putAll ops (upd V i v) n a = putAll ops V n a
  | 0, _ => rfl
  | n + 1, h => by
    have e : upd V i v n = V n := by simp [upd]; omega
    simp only [putAll, e, putAll_off V i v a n (by omega)]

/-- Each of the first n operations has a place of its own. -/
def ownDst (ops : Array Oper) (n : Nat) : Bool :=
  (List.range n).all fun j => (List.range j).all fun i => match (ops[i]?).bind (·.dst) with
    | some d => (ops[j]?).bind (·.dst) != some d
    | none => true

theorem ownDst_spec {n : Nat} (h : ownDst ops n = true) {i j : Nat} (hij : i < j) (hj : j < n) : ∀ d, (ops[i]?).bind (·.dst) = some d → (ops[j]?).bind (·.dst) ≠ some d := by
  intro d hd
  have h1 := List.all_eq_true.1 (List.all_eq_true.1 h j (List.mem_range.2 hj)) i (List.mem_range.2 hij)
  rw [hd] at h1
  simpa using h1

theorem putAll_upd {V : Nat → Value} {i : Nat} {v : Value} {a : Act} : ∀ {n : Nat}, ownDst ops n = true → i < n → (putAll ops V n a).put ((ops[i]?).bind (·.dst)) v = putAll ops (upd V i v) n a
  | 0, _, h => absurd h (by omega)
  | n + 1, ho, h => by
    have ho' : ownDst ops n = true := by
      unfold ownDst at ho ⊢
      refine List.all_eq_true.2 fun j hj => List.all_eq_true.1 ho j (List.mem_range.2 (by have := List.mem_range.1 hj; omega))
    by_cases hi : i = n
    · subst hi
      simp only [putAll, put_put, putAll_off V i v a i (Nat.le_refl _)]
      simp [upd]
    · have e : upd V i v n = V n := by simp [upd]; omega
      simp only [putAll, e]
      rw [← putAll_upd (V := V) (i := i) (v := v) (a := a) ho' (by omega)]
      exact (Act.put_comm _ _ _ (ownDst_spec ho (by omega) (by omega))).symm

theorem putAll_self (a : Act) (n : Nat) : putAll ops (fun j => match (ops[j]?).bind (·.dst) with | some d => a.tmps.getD d undef | none => undef) n a = a := by
  induction n with
  | zero => rfl
  | succ n ih =>
    simp only [putAll, ih]
    cases (ops[n]?).bind (·.dst) with
    | none => rfl
    | some d =>
      simp only [Act.put]
      congr 1
      apply Array.ext
      · simp
      · intro i h1 h2
        by_cases hid : d = i
        · subst hid; simp [h2]
        · rw [Array.getElem_setIfInBounds_ne (h := hid)]

/-- How many of the first n have not come up. -/
def leftOf (n : Nat) (listed : Array Bool) : Nat := (List.range n).countP fun i => !listed.getD i true

theorem countP_but (p : Nat → Bool) (i : Nat) (hp : p i = true) : ∀ l : List Nat, l.Nodup → i ∈ l → l.countP p = l.countP (fun j => p j && j != i) + 1
  | [], _, h => by cases h
  | x :: l, hn, h => by
    rw [List.nodup_cons] at hn
    by_cases hx : x = i
    · subst hx
      have : l.countP (fun j => p j && j != x) = l.countP p := by
        refine List.countP_congr fun j hj => ?_
        have : j ≠ x := fun e => hn.1 (e ▸ hj)
        simp [this]
      rw [List.countP_cons, List.countP_cons, this]
      simp [hp]
    · have hm : i ∈ l := by rcases List.mem_cons.1 h with h | h; exact absurd h.symm hx; exact h
      have ih := countP_but p i hp l hn.2 hm
      rw [List.countP_cons, List.countP_cons, ih]
      have : (x != i) = true := by simpa using hx
      rw [this, Bool.and_true]
      omega

theorem leftOf_set {n i : Nat} {listed : Array Bool} (hi : i < n) (hs : i < listed.size) (hu : listed.getD i true = false) : leftOf n listed = leftOf n (listed.setIfInBounds i true) + 1 := by
  unfold leftOf
  rw [countP_but _ i (by simp only [hu]; rfl) _ List.nodup_range (List.mem_range.2 hi)]
  congr 1
  refine List.countP_congr fun j hj => ?_
  by_cases hji : j = i
  · subst hji
    have : (listed.setIfInBounds j true).getD j true = true := by simp [hs]
    simp
  · rw [getD_set_ne true (Ne.symm hji)]
    simp [hji]

/-- Nothing waits for what comes later. -/
def depsB (md : Region.Mode) (ops : Array Oper) (n : Nat) : Bool :=
  (List.range n).all fun i => match ops[i]? with
    | some o => o.after.all fun e => !Region.binds md e || decide (e.on < i)
    | none => false

def firstN (ops : Array Oper) (n : Nat) : Array Bool := Array.ofFn (n := ops.size) fun i => decide (i.val < n)

theorem listed_firstN {n : Nat} {listed : Array Bool} (inv : HeadInv md ops n listed) (hall : ∀ i, i < n → listed.getD i true = true) : listed = firstN ops n := by
  apply Array.ext
  · simp [firstN, inv.size]
  · intro i h1 h2
    simp only [firstN, Array.getElem_ofFn]
    by_cases hi : i < n
    · have := hall i hi
      simp [h1] at this
      simp [this, hi]
    · have := inv.tail i (by omega) (by rw [← inv.size]; exact h1)
      simp [h1] at this
      simp [this, hi]

theorem least_ready {n : Nat} {listed : Array Bool} (hdB : depsB md ops n = true) (inv : HeadInv md ops n listed) : ∀ (i : Nat), i < n → listed.getD i true = false → Region.ready md ops listed ≠ [] := by
  intro i
  induction i using Nat.strongRecOn with
  | _ i ih =>
    intro hi hu
    have h1 := List.all_eq_true.1 hdB i (List.mem_range.2 hi)
    cases ho : ops[i]? with
    | none => rw [ho] at h1; cases h1
    | some o =>
      rw [ho] at h1
      by_cases hall : ∀ e ∈ o.after, Region.binds md e = true → listed.getD e.on false = true
      · have : i ∈ Region.ready md ops listed := mem_ready.2 ⟨hu, o, ho, hall⟩
        intro h; rw [h] at this; cases this
      · simp only [Classical.not_forall] at hall
        obtain ⟨e, he, hb, hl⟩ := hall
        have h2 := Array.all_eq_true'.1 h1 e he
        rw [hb] at h2
        have h3 : e.on < i := by simpa using h2
        refine ih e.on h3 (by omega) ?_
        have hsz : e.on < listed.size := by
          have := (Array.getElem?_eq_some_iff.1 ho).1
          rw [inv.size]; omega
        exact getD_in hsz (by simpa using hl)

/-- One operation alone, and what is asked behind it; it may not stop otherwise. -/
def KPost (K : Act → World → Prop) : Exit → Act → World → Prop
  | .normal, a, w => K a w
  | _, _, _ => False

theorem KPost_in {K : Act → World → Prop} {a : Act} {w : World} (h : K a w) : KPost K .normal a w := h

theorem Oper.wp_only {o : Oper} {a : Act} {w : World} {L K : Act → World → Prop} (hh : o.wp P a w L (KPost K)) : o.wp P a w L Q := by
  unfold Oper.wp at *
  generalize (execOp a.eval o).run P w = r at *
  cases r with
  | ok n w' =>
    cases n <;> simp only [Oper.upon] at hh ⊢ <;>
      first
        | exact hh
        | exact Calls.mono hh (fun e w'' he => by cases e <;> first | exact he | exact False.elim he | exact (let ⟨_, _, h⟩ := he; False.elim h))
  | halt x w' => cases x <;> simp only [Oper.upon] at hh ⊢ <;> first | exact hh | exact False.elim hh

theorem wpOp_of_list {i : Nat} {o : Oper} {a : Act} {W : World} {K : Act → World → Prop} (hi : ops[i]? = some o) (h : wpList P ops (KPost K) [o] a W) : wpOp P ops Q i K a W := by
  unfold wpOp
  simp only [hi]
  simp only [wpList] at h
  split at h
  · rename_i hw
    rw [if_pos hw]
    rcases h with h | ⟨_, _, _, h2⟩
    · exact .inl (Oper.wp_only (Go.Oper.wp_mono (fun _ _ h => h) h))
    · exact False.elim h2
  · rename_i hw
    rw [if_neg hw]
    exact h

/-- What operation i must do where S holds of what the others left: give a value of which T holds, in a world that has only grown. -/
def GrowOp (P : Program) (ops : Array Oper) (a0 : Act) (n : Nat) (w0 : World) (S : Nat → Value → World → Prop) (i : Nat) (o : Oper) (T : Value → World → Prop) : Prop :=
  ∀ (V : Nat → Value) (W : World) (K : Act → World → Prop), Below w0.heap.size w0 W → (∀ j, Region.waitsFor .any ops i j = true → S j (V j) W) →
    Hid (∀ v W', Below W.heap.size W W' → T v W' → K ((putAll ops V n a0).put o.dst v) W') → wpList P ops (KPost K) [o] (putAll ops V n a0) W

def Lasts (T : Value → World → Prop) : Prop := ∀ v W W', T v W → Below W.heap.size W W' → T v W'

theorem wpAny_grow {n g : Nat} {S : Nat → Value → World → Prop} {w0 : World} {a0 : Act}
    (hw : ∀ listed, HeadInv .any ops n listed → ∀ i, i < n → listed.getD i true = false → ∀ t, n ≤ t → t ∉ Region.ready .any ops listed)
    (hn : n ≤ ops.size) (hdB : depsB .any ops n = true) (hd : ownDst ops n = true)
    (hst : ∀ j, Lasts (S j))
    (hop : ∀ i o, i < n → ops[i]? = some o → GrowOp P ops a0 n w0 S i o (S i))
    (hlast : ∀ V W, Below w0.heap.size w0 W → (∀ j, j < n → S j (V j) W) → wpAny P .any ops Q g (firstN ops n) (putAll ops V n a0) W) :
    ∀ (m : Nat) (listed : Array Bool) (V : Nat → Value) (W : World), HeadInv .any ops n listed → leftOf n listed = m → Below w0.heap.size w0 W → (∀ j, j < n → listed.getD j false = true → S j (V j) W) →
      wpAny P .any ops Q (m + g) listed (putAll ops V n a0) W
  | 0, listed, V, W, inv, hm, hb, hS => by
    have hall : ∀ i, i < n → listed.getD i true = true := by
      intro i hi
      have := List.countP_eq_zero.1 hm i (List.mem_range.2 hi)
      simpa using this
    rw [listed_firstN inv hall, Nat.zero_add]
    refine hlast V W hb fun j hj => hS j hj ?_
    have := hall j hj
    have hjs : j < listed.size := by rw [inv.size]; omega
    simp [hjs] at this ⊢
    exact this
  | m + 1, listed, V, W, inv, hm, hb, hS => by
    obtain ⟨u, hu, hul⟩ : ∃ u, u < n ∧ listed.getD u true = false := by
      have : 0 < leftOf n listed := by omega
      obtain ⟨u, hu, hul⟩ := List.countP_pos_iff.1 this
      exact ⟨u, List.mem_range.1 hu, by simpa using hul⟩
    rw [show m + 1 + g = (m + g) + 1 by omega]
    refine ⟨fun h0 => absurd h0 (least_ready hdB inv u hu hul), fun i hi => ?_⟩
    have hin : i < n := by
      rcases Nat.lt_or_ge i n with h | h
      · exact h
      · exact absurd hi (hw listed inv u hu hul i h)
    obtain ⟨hun, o, ho, hall⟩ := mem_ready.1 hi
    refine wpOp_of_list ho (hop i o hin ho V W _ hb (fun j hj => ?_) fun v W' hb' hs' => ?_)
    · obtain ⟨oj, hoj, e, he, hbd, hon⟩ := Region.waitsFor_spec hj
      have : oj = o := Option.some.inj (hoj.symm.trans ho)
      subst this
      have hl := hall e he hbd
      rw [hon] at hl
      have hlt : j < n := by
        have h1 := List.all_eq_true.1 hdB i (List.mem_range.2 hin)
        rw [ho] at h1
        have h2 := Array.all_eq_true'.1 h1 e he
        rw [hbd] at h2
        have h3 : e.on < i := by simpa using h2
        omega
      exact hS j hlt hl
    · have hdst : o.dst = (ops[i]?).bind (·.dst) := by rw [ho]; rfl
      rw [hdst, putAll_upd hd hin]
      have his : i < listed.size := by rw [inv.size]; exact (Array.getElem?_eq_some_iff.1 ho).1
      refine wpAny_grow hw hn hdB hd hst hop hlast m _ _ W' (inv.set hi hin) (by have := leftOf_set hin his hun; omega) (hb.trans ⟨hb'.os, hb'.tape, hb'.output, hb'.size, fun k hk => hb'.block k (Nat.lt_of_lt_of_le hk hb.size)⟩) fun j hj hl => ?_
      by_cases hji : j = i
      · subst hji
        simpa [upd] using hs'
      · rw [getD_set_ne false (Ne.symm hji)] at hl
        have := hst j (V j) W W' (hS j hj hl) hb'
        simpa [upd, hji] using this

/-- What a region with a tail must keep to. -/
def growTailB (ops : Array Oper) (n : Nat) : Bool :=
  decide (n < ops.size) && Region.sinkB .any ops n && Region.chainB .any ops n && depsB .any ops n && ownDst ops n && Region.seqB .any ops (ops.size - n) n (firstN ops n)

theorem wp_region_grow {id : Nat} {a : Act} {w : World} {l : List Oper} (n : Nat) (S : Nat → Value → World → Prop) (hm : P.follows .mixedOrders = true) (hB : growTailB l.toArray n = true)
    (hst : ∀ j, Lasts (S j)) (hop : ∀ i o, i < n → l.toArray[i]? = some o → GrowOp P l.toArray a n w S i o (S i))
    (hlast : ∀ V W, Below w.heap.size w W → (∀ j, j < n → S j (V j) W) → wpList P l.toArray Q (l.drop n) (putAll l.toArray V n a) W) : (Code.region id l.toArray true).wp P Q a w := by
  simp only [growTailB, Bool.and_eq_true, decide_eq_true_eq] at hB
  obtain ⟨⟨⟨⟨⟨hn, hs⟩, hc⟩, hdB⟩, hd⟩, hseq⟩ := hB
  refine wp_region_any hm ?_
  have inv0 : HeadInv .any l.toArray n (Array.replicate l.toArray.size false) :=
    ⟨by simp, fun j oj _ hl => (by rw [getD_replicate_false] at hl; cases hl), fun t _ ht => getD_in (by simpa using ht) (getD_replicate_false _ _)⟩
  have hb0 : Below w.heap.size w { w with drawn := w.drawn + 1 } := ⟨rfl, rfl, rfl, Nat.le_refl _, fun _ _ => rfl⟩
  have hleft : leftOf n (Array.replicate l.toArray.size false) = n := by
    unfold leftOf
    rw [List.countP_eq_length.2]
    · simp
    · intro i hi
      have : i < l.toArray.size := by have := List.mem_range.1 hi; omega
      rw [getD_in (by simpa using this) (getD_replicate_false _ _)]
      rfl
  have H := wpAny_grow (P := P) (Q := Q) (g := l.toArray.size - n) (S := S) (w0 := w) (a0 := a) (fun listed inv i hi hu t ht => tail_waits hs hc hn inv _ i rfl hi hu t ht) (by omega) hdB hd hst hop
    (fun V W hb hS => by
      have hdl : (l.drop n).length = l.toArray.size - n := by simp
      have := wpAny_of_seq (md := .any) (Q' := Q) (l.drop n) n (firstN l.toArray n) _ W (fun j => by simp [List.getElem?_drop]) (by rw [hdl]; exact hseq) (hlast V W hb hS)
      rwa [hdl] at this)
    n _ (fun j => match (l.toArray[j]?).bind (·.dst) with | some d => a.tmps.getD d undef | none => undef) { w with drawn := w.drawn + 1 } inv0 hleft hb0 (fun j _ hl => by rw [getD_replicate_false] at hl; cases hl)
  rw [putAll_self, show n + (l.toArray.size - n) = l.toArray.size by omega] at H
  exact H

/-! ### Operation by operation -/

def updS (S : Nat → Value → World → Prop) (i : Nat) (T : Value → World → Prop) : Nat → Value → World → Prop := fun j => match Nat.beq j i with
  | true => T
  | false => S j

def growFrom (P : Program) (ops : Array Oper) (a0 : Act) (n : Nat) (w0 : World) (L : (Nat → Value → World → Prop) → Prop) : List Oper → Nat → (Nat → Value → World → Prop) → Prop
  | [], _, S => L S
  | o :: rest, i, S => ∃ T, Lasts T ∧ GrowOp P ops a0 n w0 S i o T ∧ growFrom P ops a0 n w0 L rest (i + 1) (updS S i T)

theorem grow_op {a0 : Act} {n : Nat} {w0 : World} {L : (Nat → Value → World → Prop) → Prop} {o : Oper} {rest : List Oper} {i : Nat} {S : Nat → Value → World → Prop} (T : Value → World → Prop) (hT : Lasts T)
    (h : ∀ (V : Nat → Value) (W : World) (K : Act → World → Prop) (A : Act), Below w0.heap.size w0 W → (∀ j, Region.waitsFor .any ops i j = true → S j (V j) W) → Hid (A = putAll ops V n a0) →
      Hid (∀ v W', Below W.heap.size W W' → T v W' → K (A.put o.dst v) W') → wpList P ops (KPost K) [o] A W)
    (hr : growFrom P ops a0 n w0 L rest (i + 1) (updS S i T)) : growFrom P ops a0 n w0 L (o :: rest) i S := ⟨T, hT, fun V W K hb hd hK => h V W K _ hb hd rfl hK, hr⟩

theorem grow_eq {a0 : Act} {n : Nat} {w0 : World} {L : (Nat → Value → World → Prop) → Prop} {o : Oper} {rest : List Oper} {i : Nat} {S : Nat → Value → World → Prop} {u : Value}
    (h : ∀ (V : Nat → Value) (W : World) (K : Act → World → Prop) (A : Act), Below w0.heap.size w0 W → (∀ j, Region.waitsFor .any ops i j = true → S j (V j) W) → Hid (A = putAll ops V n a0) →
      Hid (∀ W', Below W.heap.size W W' → K (A.put o.dst u) W') → wpList P ops (KPost K) [o] A W)
    (hr : growFrom P ops a0 n w0 L rest (i + 1) (updS S i fun v _ => v = u)) : growFrom P ops a0 n w0 L (o :: rest) i S :=
  ⟨fun v _ => v = u, fun _ _ _ h _ => h, fun V W K hb hd hK => h V W K _ hb hd rfl fun W' hb' => hK.out u W' hb' rfl, hr⟩

theorem updS_self (S : Nat → Value → World → Prop) (i : Nat) (T : Value → World → Prop) : updS S i T i = T := by simp [updS]
theorem updS_ne (S : Nat → Value → World → Prop) {i j : Nat} (T : Value → World → Prop) (h : j ≠ i) : updS S i T j = S j := by
  have : Nat.beq j i = false := by
    cases hb : Nat.beq j i with
    | false => rfl
    | true => exact absurd (Nat.eq_of_beq_eq_true hb) h
  simp [updS, this]

theorem growFrom_out {a0 : Act} {n : Nat} {w0 : World} {L : (Nat → Value → World → Prop) → Prop} (hdB : depsB .any ops n = true) : ∀ (l : List Oper) (k : Nat) (S : Nat → Value → World → Prop), k + l.length = n → (∀ j, j < l.length → l[j]? = ops[k + j]?) →
    (∀ j, Lasts (S j)) → (∀ i o, i < k → ops[i]? = some o → GrowOp P ops a0 n w0 S i o (S i)) → growFrom P ops a0 n w0 L l k S →
    ∃ S', (∀ j, Lasts (S' j)) ∧ (∀ i o, i < n → ops[i]? = some o → GrowOp P ops a0 n w0 S' i o (S' i)) ∧ L S'
  | [], k, S, hk, _, hl, hop, h => ⟨S, hl, by rw [show n = k by simpa using hk.symm]; rw [show n = k by simpa using hk.symm] at hop; exact hop, h⟩
  | o :: l, k, S, hk, hs, hl, hop, ⟨T, hT, ho, h⟩ => by
    have h0 : ops[k]? = some o := by simpa using (hs 0 (by simp)).symm
    have dep : ∀ i j, i < n → Region.waitsFor .any ops i j = true → j < i := fun i j hi hj => by
      obtain ⟨oj, hoj, e, he, hbd, hon⟩ := Region.waitsFor_spec hj
      have h1 := List.all_eq_true.1 hdB i (List.mem_range.2 hi)
      rw [hoj] at h1
      have h2 := Array.all_eq_true'.1 h1 e he
      rw [hbd] at h2
      have h3 : e.on < i := by simpa using h2
      omega
    have hkn : k < n := by simp only [List.length_cons] at hk; omega
    refine growFrom_out hdB l (k + 1) _ (by simp only [List.length_cons] at hk; omega) (fun j hj => by have := hs (j + 1) (by simp; omega); simpa [Nat.add_assoc, Nat.add_comm 1 j] using this) (fun j => ?_) (fun i o' hi hi' => ?_) h
    · by_cases e : j = k
      · subst e; rw [updS_self]; exact hT
      · rw [updS_ne _ _ e]; exact hl j
    · by_cases e : i = k
      · subst e
        have : o' = o := Option.some.inj (hi'.symm.trans h0)
        subst this
        rw [updS_self]
        exact fun V W K hb hd hK => ho V W K hb (fun j hj => by have := hd j hj; rwa [updS_ne _ _ (by have := dep i j hkn hj; omega)] at this) hK
      · rw [updS_ne _ _ e]
        exact fun V W K hb hd hK => hop i o' (by omega) hi' V W K hb (fun j hj => by have := hd j hj; rwa [updS_ne _ _ (by have := dep i j (by omega) hj; omega)] at this) hK

/-- A region that draws its order, its operations walked one by one in the order of the text: the first n only let the world grow, each leaving a value of which it says something that lasts; then a tail in order. -/
theorem wp_region_grows {id : Nat} {a : Act} {w : World} {l : List Oper} (n : Nat) (hm : P.follows .mixedOrders = true) (hB : growTailB l.toArray n = true)
    (h : growFrom P l.toArray a n w (fun S => ∀ V W A, Below w.heap.size w W → (∀ j, j < n → S j (V j) W) → Hid (A = putAll l.toArray V n a) → wpList P l.toArray Q (l.drop n) A W) (l.take n) 0 fun _ _ _ => True) : (Code.region id l.toArray true).wp P Q a w := by
  have hB' := hB
  simp only [growTailB, Bool.and_eq_true, decide_eq_true_eq] at hB'
  obtain ⟨⟨⟨⟨⟨hn, _⟩, _⟩, hdB⟩, _⟩, _⟩ := hB'
  have hn' : n < l.length := by simpa using hn
  obtain ⟨S, h1, h2, h3⟩ := growFrom_out hdB (l.take n) 0 _ (by simp; omega) (fun j hj => by
    have : j < n := by simp at hj; omega
    simp [this]) (fun _ _ _ _ _ _ => trivial) (fun i o hi => absurd hi (by omega)) h
  exact wp_region_grow n S hm hB h1 h2 fun V W hb hS => h3 V W _ hb hS rfl
end
end Go.Proofs.YtbceafpodamnfabGreat

/-
  My own. Looking for a copy; what may end, by the specification.
-/
namespace Go.Proofs.YtbceafpodamnfabGreat
open Go.RowKit Go.Sort

def isC (sv : ByteArray) (num : Int) (c : Cp) : Bool := c.service.toList == sv.toList && c.number == num
def idxC (l : List Cp) (sv : ByteArray) (num : Int) : Int := idxOf (isC sv num) l

set_option maxHeartbeats 2000000 in
theorem l1Copy_any (B : Bk) (sv : ByteArray) (num : Int) (a1 a2 a3 : Option Addr) (c1 c2 c3 : Nat) (w : World) (hS : B.small) (hB : SlC w a2 B.cps) :
    Calls Tryz.prog 85 #[.agg #[.int .i64 B.now, .slice a1 B.svcs.length c1, .slice a2 B.cps.length c2, .slice a3 B.bts.length c3], .string sv, .int .i64 num] w fun e w' => e = .returned (.int .i64 (idxC B.cps sv num)) ∧ Below w.heap.size w w' := by
  obtain ⟨hl1, hl2, hl3⟩ := hS
  go_enter Tryz.func85, Tryz.ntmps85
  go_wp2
  go_loop [7] (fun i => ∃ k : Nat, k ≤ B.cps.length ∧ i = .int .i64 k ∧ Hid (∀ i, i < k → ∀ s, B.cps[i]? = some s → isC sv num s = false)) (fun i => B.cps.length - (intOf i).toNat)
  case atStart => exact ⟨0, by omega, rfl, fun i hi => absurd hi (by omega)⟩
  case round =>
    obtain ⟨k, hk, rfl, hno⟩ := hrel
    by_cases hlt : k < B.cps.length
    · have hne : B.cps ≠ [] := by intro h; rw [h] at hlt; simp at hlt
      obtain ⟨b, off, rfl, hbs, hat⟩ := hB hne
      obtain ⟨s, hsk⟩ : ∃ s, B.cps[k]? = some s := ⟨B.cps[k], by simp [hlt]⟩
      have HSK : Hid (B.cps[k]? = some s) := hsk
      have hc := hat k s hsk
      unfold CpAt at hc
      have hc0 := hc.1
      have hc1 := hc.2.1
      clear hat hc hsk hne
      cases hq : (s.service.toList == sv.toList)
      · have HN : Hid (isC sv num s = false) := by unfold Hid isC; rw [hq]; rfl
        go_wp2
        go_round
        case rel =>
          refine ⟨k + 1, by omega, by go_num, fun i hi t ht => ?_⟩
          rcases Nat.lt_or_ge i k with h' | h'
          · exact hno.out i h' t ht
          · have e : i = k := by omega
            subst e
            rw [HSK.out] at ht; cases ht; exact HN.out
        case measure => simp [intOf]; omega
      cases hq2 : (s.number == num)
      · have HN : Hid (isC sv num s = false) := by unfold Hid isC; rw [hq, hq2]; rfl
        go_wp2
        go_round
        case rel =>
          refine ⟨k + 1, by omega, by go_num, fun i hi t ht => ?_⟩
          rcases Nat.lt_or_ge i k with h' | h'
          · exact hno.out i h' t ht
          · have e : i = k := by omega
            subst e
            rw [HSK.out] at ht; cases ht; exact HN.out
        case measure => simp [intOf]; omega
      · have HN : Hid (isC sv num s = true) := by unfold Hid isC; rw [hq, hq2]; rfl
        go_wp2
        go_ret
        exact ⟨ret_int (idxOf_here HSK.out HN.out hno.out).symm, below_box _ _⟩
    · go_wp2
      go_ret
      exact ⟨ret_int (idxOf_none fun i s hs => hno.out i (by have := (List.getElem?_eq_some_iff.1 hs).1; omega) s hs).symm, below_box _ _⟩

end Go.Proofs.YtbceafpodamnfabGreat

/-
  My own. What may end, by the specification.
-/
namespace Go.Proofs.YtbceafpodamnfabGreat
open Go.RowKit Go.Sort

def mayL (B : Bk) (s : Svc) (sv : ByteArray) (c : Cp) : Bool := !c.ending && (c.state != 3 || (s.gone || decide (s.want - s.down ≤ (cntTo s.image sv B.cps B.cps.length).ready - 1)))

set_option maxHeartbeats 2000000 in
theorem l3MayEnd_none (B : Bk) (sv : ByteArray) (num : Int) (a1 a2 a3 : Option Addr) (c1 c2 c3 : Nat) (w : World) (hS : B.small) (hB : BkAt w a1 a2 a3 B) (hf : B.cps.find? (isC sv num) = none) :
    Calls Tryz.prog 94 #[.agg #[.int .i64 B.now, .slice a1 B.svcs.length c1, .slice a2 B.cps.length c2, .slice a3 B.bts.length c3], .string sv, .int .i64 num] w fun e w' => e = .returned (.bool false) ∧ Below w.heap.size w w' := by
  have HIDX : Hid (idxC B.cps sv num = -1) := idxOf_find_none hf
  clear hf
  have hb0 := below_box w (.cells #[.int .i64 B.now, .slice a1 B.svcs.length c1, .slice a2 B.cps.length c2, .slice a3 B.bts.length c3] 34)
  go_enter Tryz.func94, Tryz.ntmps94
  go_wp2_with fail
  refine (l1Copy_any B sv num a1 a2 a3 c1 c2 c3 _ hS (hB.2.1.below hb0)).mono ?_
  rintro e w1 ⟨rfl, hb1⟩
  rw [HIDX.out]
  go_wp2
  go_ret
  exact ⟨rfl, hb0.trans (hb1.mono hb0.size)⟩

end Go.Proofs.YtbceafpodamnfabGreat

/-
  My own. What may end, by the specification.
-/
namespace Go.Proofs.YtbceafpodamnfabGreat
open Go.RowKit Go.Sort

set_option maxRecDepth 100000 in
set_option maxHeartbeats 8000000 in
theorem l3MayEnd_some (B : Bk) (sv : ByteArray) (num : Int) (c : Cp) (s : Svc) (a1 a2 a3 : Option Addr) (c1 c2 c3 : Nat) (w : World) (hS : B.small) (hB : BkAt w a1 a2 a3 B) (hf : B.cps.find? (isC sv num) = some c) (hsv : svcOf B sv = some s)
    (hw0 : 0 ≤ s.want) (hw1 : s.want ≤ 10) (hd0 : 0 ≤ s.down) (hd1 : s.down ≤ 10) :
    Calls Tryz.prog 94 #[.agg #[.int .i64 B.now, .slice a1 B.svcs.length c1, .slice a2 B.cps.length c2, .slice a3 B.bts.length c3], .string sv, .int .i64 num] w fun e w' => e = .returned (.bool (mayL B s sv c)) ∧ Below w.heap.size w w' := by
  obtain ⟨ic, hic, hidc⟩ : ∃ i : Nat, B.cps[i]? = some c ∧ idxC B.cps sv num = (i : Int) := idxOf_find hf
  have HIDC : Hid _ := hidc
  have hiclt : ic < B.cps.length := (List.getElem?_eq_some_iff.1 hic).1
  obtain ⟨ix, hix, hidx⟩ : ∃ i : Nat, B.svcs[i]? = some s ∧ idxS B.svcs sv = (i : Int) := idxOf_find hsv
  have HIDX : Hid _ := hidx
  have hixlt : ix < B.svcs.length := (List.getElem?_eq_some_iff.1 hix).1
  obtain ⟨bS, offS, eS, hbsS, hatS⟩ := hB.1 (by intro h; rw [h] at hixlt; simp at hixlt)
  obtain ⟨bC, offC, eC, hbsC, hatC⟩ := hB.2.1 (by intro h; rw [h] at hiclt; simp at hiclt)
  subst eS eC
  have hsx := hatS ix s hix
  have hcx := hatC ic c hic
  obtain ⟨N, HN⟩ : ∃ N, Hid (N = cntTo s.image sv B.cps B.cps.length) := ⟨_, rfl⟩
  have HCB : Hid (N = cntB B sv) := by unfold Hid cntB; rw [hsv, HN.out]
  have hup := cntTo_upTo s.image sv B.cps B.cps.length (Nat.le_refl _)
  rw [← HN.out] at hup
  have hr0 := hup.2.2.1
  have hr1 := hup.2.2.2.1
  have HM : Hid (mayL B s sv c = (!c.ending && (c.state != 3 || (s.gone || decide (s.want - s.down ≤ N.ready - 1))))) := by unfold Hid mayL; rw [HN.out]
  clear hf hsv hidc hidx hix hic hatS hatC hup
  have hl := hS
  obtain ⟨hl1, hl2, hl3⟩ := hl
  have hb0 := below_box w (.cells #[.int .i64 B.now, .slice (some ⟨bS, offS, none⟩) B.svcs.length c1, .slice (some ⟨bC, offC, none⟩) B.cps.length c2, .slice a3 B.bts.length c3] 34)
  have T0 : Hid _ := heap_alloc_new w (.cells #[.int .i64 B.now, .slice (some ⟨bS, offS, none⟩) B.svcs.length c1, .slice (some ⟨bC, offC, none⟩) B.cps.length c2, .slice a3 B.bts.length c3] 34)
  have HS0 : Hid _ := size_alloc' w (.cells #[.int .i64 B.now, .slice (some ⟨bS, offS, none⟩) B.svcs.length c1, .slice (some ⟨bC, offC, none⟩) B.cps.length c2, .slice a3 B.bts.length c3] 34)
  go_enter Tryz.func94, Tryz.ntmps94
  go_wp2_with fail
  refine (l1Copy_any B sv num _ _ a3 c1 c2 c3 _ hS (hB.2.1.below hb0)).mono ?_
  rintro e w1 ⟨rfl, hb1⟩
  rw [HIDC.out]
  have hbb1 := hb0.trans (hb1.mono hb0.size)
  rw [HS0.out] at hb1
  have T1 : Hid _ := below_blk hb1 T0.out (by omega)
  have hz1 : w.heap.size < w1.heap.size := by have := hb1.size; rw [HS0.out] at this; omega
  have hB1 := hB.below hbb1
  have hcx1 := hcx.below hbb1 hbsC
  have hsx1 := hsx.below hbb1 hbsS
  unfold CpAt at hcx1
  unfold SvcAt at hsx1
  obtain ⟨y0, y1, y2, y3, y4, y5, y6⟩ := hcx1
  obtain ⟨x0, x1, x2, x3, x4, x5, x6, x7, x8, x9, x10, x11, x12⟩ := hsx1
  have e0 := blk_cell T1.out 0 rfl
  have e1 := blk_cell T1.out 1 rfl
  have e2 := blk_cell T1.out 2 rfl
  have e3 := blk_cell T1.out 3 rfl
  clear T0 HS0 HIDC hb0 hb1
  cases hend : c.ending
  · have T1' : Hid (∀ W, Below w1.heap.size w1 W → W.heap[w.heap.size]? = some (.cells #[.int .i64 B.now, .slice (some ⟨bS, offS, none⟩) B.svcs.length c1, .slice (some ⟨bC, offC, none⟩) B.cps.length c2, .slice a3 B.bts.length c3] 34 (0, 0))) := fun W hW => below_blk hW T1.out hz1
    have hsz : ∀ W, Below w1.heap.size w1 W → w.heap.size < W.heap.size := fun W hW => Nat.lt_of_lt_of_le hz1 hW.size
    have hgo : ∀ W, Below w1.heap.size w1 W → Below w.heap.size w W := fun W hW => hbb1.trans (hW.mono hbb1.size)
    have HG1 : Hid _ := T1'
    have HG2 : Hid _ := hsz
    have HG3 : Hid _ := hgo
    clear T1' hsz hgo
    go_wp2
    refine wp_region_grows 8 (by kernel_rfl) (by kernel_rfl) ?_
    apply grow_eq
    · intro V W K A hW hd hA hK
      simp only [putAll, List.getElem?_toArray, List.getElem?_cons_succ, List.getElem?_cons_zero, Option.bind_some, Act.put, List.setIfInBounds_toArray, List.set_cons_succ, List.set_cons_zero] at hA
      clear hd
      generalize V 0 = x0 at hA
      generalize V 1 = x1 at hA
      generalize V 2 = x2 at hA
      generalize V 3 = x3 at hA
      generalize V 4 = x4 at hA
      generalize V 5 = x5 at hA
      generalize V 6 = x6 at hA
      generalize V 7 = x7 at hA
      obtain rfl := hA
      go_wp2
      exact hK.out _ (Below.refl _ _)
    apply grow_eq
    · intro V W K A hW hd hA hK
      have d0 : V 0 = _ := hd 0 (by kernel_rfl)
      simp only [putAll, List.getElem?_toArray, List.getElem?_cons_succ, List.getElem?_cons_zero, Option.bind_some, Act.put, List.setIfInBounds_toArray, List.set_cons_succ, List.set_cons_zero] at hA
      clear hd
      generalize V 0 = x0 at d0 hA
      generalize V 1 = x1 at hA
      generalize V 2 = x2 at hA
      generalize V 3 = x3 at hA
      generalize V 4 = x4 at hA
      generalize V 5 = x5 at hA
      generalize V 6 = x6 at hA
      generalize V 7 = x7 at hA
      subst d0
      obtain rfl := hA
      have e0 := blk_cell (HG1.out W hW) 0 rfl
      have e1 := blk_cell (HG1.out W hW) 1 rfl
      have e2 := blk_cell (HG1.out W hW) 2 rfl
      have e3 := blk_cell (HG1.out W hW) 3 rfl
      go_wp2
      exact hK.out _ (Below.refl _ _)
    apply grow_eq
    · intro V W K A hW hd hA hK
      simp only [putAll, List.getElem?_toArray, List.getElem?_cons_succ, List.getElem?_cons_zero, Option.bind_some, Act.put, List.setIfInBounds_toArray, List.set_cons_succ, List.set_cons_zero] at hA
      clear hd
      generalize V 0 = x0 at hA
      generalize V 1 = x1 at hA
      generalize V 2 = x2 at hA
      generalize V 3 = x3 at hA
      generalize V 4 = x4 at hA
      generalize V 5 = x5 at hA
      generalize V 6 = x6 at hA
      generalize V 7 = x7 at hA
      obtain rfl := hA
      have e0 := blk_cell (HG1.out W hW) 0 rfl
      have e1 := blk_cell (HG1.out W hW) 1 rfl
      have e2 := blk_cell (HG1.out W hW) 2 rfl
      have e3 := blk_cell (HG1.out W hW) 3 rfl
      go_wp2
      exact hK.out _ (Below.refl _ _)
    apply grow_eq
    · intro V W K A hW hd hA hK
      simp only [putAll, List.getElem?_toArray, List.getElem?_cons_succ, List.getElem?_cons_zero, Option.bind_some, Act.put, List.setIfInBounds_toArray, List.set_cons_succ, List.set_cons_zero] at hA
      clear hd
      generalize V 0 = x0 at hA
      generalize V 1 = x1 at hA
      generalize V 2 = x2 at hA
      generalize V 3 = x3 at hA
      generalize V 4 = x4 at hA
      generalize V 5 = x5 at hA
      generalize V 6 = x6 at hA
      generalize V 7 = x7 at hA
      obtain rfl := hA
      go_wp2
      exact hK.out _ (Below.refl _ _)
    apply grow_eq
    · intro V W K A hW hd hA hK
      have d2 : V 2 = _ := hd 2 (by kernel_rfl)
      have d3 : V 3 = _ := hd 3 (by kernel_rfl)
      simp only [putAll, List.getElem?_toArray, List.getElem?_cons_succ, List.getElem?_cons_zero, Option.bind_some, Act.put, List.setIfInBounds_toArray, List.set_cons_succ, List.set_cons_zero] at hA
      clear hd
      generalize V 0 = x0 at hA
      generalize V 1 = x1 at hA
      generalize V 2 = x2 at d2 hA
      generalize V 3 = x3 at d3 hA
      generalize V 4 = x4 at hA
      generalize V 5 = x5 at hA
      generalize V 6 = x6 at hA
      generalize V 7 = x7 at hA
      subst d2
      subst d3
      obtain rfl := hA
      go_wp2_with fail
      refine (l1Service_any B sv _ _ a3 c1 c2 c3 _ hS (hB.below (HG3.out W hW)).1).mono ?_
      rintro e w2 ⟨rfl, hb2⟩
      rw [HIDX.out]
      go_wp2
      exact hK.out _ hb2
    apply grow_eq
    · intro V W K A hW hd hA hK
      have d1 : V 1 = _ := hd 1 (by kernel_rfl)
      have d4 : V 4 = _ := hd 4 (by kernel_rfl)
      simp only [putAll, List.getElem?_toArray, List.getElem?_cons_succ, List.getElem?_cons_zero, Option.bind_some, Act.put, List.setIfInBounds_toArray, List.set_cons_succ, List.set_cons_zero] at hA
      clear hd
      generalize V 0 = x0 at hA
      generalize V 1 = x1 at d1 hA
      generalize V 2 = x2 at hA
      generalize V 3 = x3 at hA
      generalize V 4 = x4 at d4 hA
      generalize V 5 = x5 at hA
      generalize V 6 = x6 at hA
      generalize V 7 = x7 at hA
      subst d1
      subst d4
      obtain rfl := hA
      go_wp2
      exact hK.out _ (Below.refl _ _)
    apply grow_eq
    · intro V W K A hW hd hA hK
      have d5 : V 5 = _ := hd 5 (by kernel_rfl)
      simp only [putAll, List.getElem?_toArray, List.getElem?_cons_succ, List.getElem?_cons_zero, Option.bind_some, Act.put, List.setIfInBounds_toArray, List.set_cons_succ, List.set_cons_zero] at hA
      clear hd
      generalize V 0 = x0 at hA
      generalize V 1 = x1 at hA
      generalize V 2 = x2 at hA
      generalize V 3 = x3 at hA
      generalize V 4 = x4 at hA
      generalize V 5 = x5 at d5 hA
      generalize V 6 = x6 at hA
      generalize V 7 = x7 at hA
      subst d5
      obtain rfl := hA
      have hq := hsx.below (HG3.out W hW) hbsS
      unfold SvcAt at hq
      obtain ⟨q0, q1, q2, q3, q4, q5, q6, q7, q8, q9, q10, q11, q12⟩ := hq
      go_wp2
      exact hK.out _ (Below.refl _ _)
    refine grow_op (fun v W => ∃ p, v = .pointer (some ⟨p, 0, none⟩) ∧ w.heap.size < p ∧ W.heap[p]? = some (.cells #[.string ⟨#[]⟩, .int .i64 0, .bool false, .int .i64 0, .int .i64 0, .int .i64 0, .int .i64 0, .int .i64 0, .int .i64 0, .int .i64 0, .int .i64 0, .int .i64 0, .int .i64 0] 48 (0, 0))) (fun v W W2 ⟨p, h1, h2, h3⟩ hb => ⟨p, h1, h2, below_blk hb h3 (Array.getElem?_eq_some_iff.1 h3).1⟩) ?_ ?_
    · intro V W K A hW hd hA hK
      simp only [putAll, List.getElem?_toArray, List.getElem?_cons_succ, List.getElem?_cons_zero, Option.bind_some, Act.put, List.setIfInBounds_toArray, List.set_cons_succ, List.set_cons_zero] at hA
      clear hd
      generalize V 0 = x0 at hA
      generalize V 1 = x1 at hA
      generalize V 2 = x2 at hA
      generalize V 3 = x3 at hA
      generalize V 4 = x4 at hA
      generalize V 5 = x5 at hA
      generalize V 6 = x6 at hA
      generalize V 7 = x7 at hA
      obtain rfl := hA
      go_wp2
      exact hK.out _ _ (below_box W _) ⟨_, rfl, HG2.out W hW, heap_alloc_new W _⟩
    intro V W A hW hS hA
    have d0 : V 0 = _ := hS 0 (by omega)
    have d1 : V 1 = _ := hS 1 (by omega)
    have d2 : V 2 = _ := hS 2 (by omega)
    have d3 : V 3 = _ := hS 3 (by omega)
    have d4 : V 4 = _ := hS 4 (by omega)
    have d5 : V 5 = _ := hS 5 (by omega)
    have d6 : V 6 = _ := hS 6 (by omega)
    have d7 : (fun v W => ∃ p, v = .pointer (some ⟨p, 0, none⟩) ∧ w.heap.size < p ∧ W.heap[p]? = some (.cells #[.string ⟨#[]⟩, .int .i64 0, .bool false, .int .i64 0, .int .i64 0, .int .i64 0, .int .i64 0, .int .i64 0, .int .i64 0, .int .i64 0, .int .i64 0, .int .i64 0, .int .i64 0] 48 (0, 0))) (V 7) W := hS 7 (by omega)
    simp only [putAll, List.getElem?_toArray, List.getElem?_cons_succ, List.getElem?_cons_zero, Option.bind_some, Act.put, List.setIfInBounds_toArray, List.set_cons_succ, List.set_cons_zero] at hA
    clear hS
    generalize V 0 = x0 at d0 hA
    generalize V 1 = x1 at d1 hA
    generalize V 2 = x2 at d2 hA
    generalize V 3 = x3 at d3 hA
    generalize V 4 = x4 at d4 hA
    generalize V 5 = x5 at d5 hA
    generalize V 6 = x6 at d6 hA
    generalize V 7 = x7 at d7 hA
    subst d0
    subst d1
    subst d2
    subst d3
    subst d4
    subst d5
    subst d6
    obtain rfl := hA
    simp only [List.drop_succ_cons, List.drop_zero]
    obtain ⟨p, rfl, hp, hz⟩ := d7
    have hle : w.heap.size ≤ p := by omega
    refine wpList_store_at rfl 48 (.tmp 8) (.tmp 29) rfl p 0 #[.string s.name, .int .i64 s.version, .bool s.gone, .int .i64 s.image, .int .i64 s.want, .int .i64 s.down, .int .i64 s.over, .int .i64 s.next, .int .i64 s.per, .int .i64 s.least, .int .i64 s.most, .int .i64 s.load, .int .i64 s.cool] rfl rfl 48 #[.string ⟨#[]⟩, .int .i64 0, .bool false, .int .i64 0, .int .i64 0, .int .i64 0, .int .i64 0, .int .i64 0, .int .i64 0, .int .i64 0, .int .i64 0, .int .i64 0, .int .i64 0] hz Tryz.infosService (Nat.le_refl 13) (one_Svc s) ?_
    intro w2 hrow2 hsz2 hb2
    have hxs : Hid (w2.heap[p]? = some (.cells #[.string s.name, .int .i64 s.version, .bool s.gone, .int .i64 s.image, .int .i64 s.want, .int .i64 s.down, .int .i64 s.over, .int .i64 s.next, .int .i64 s.per, .int .i64 s.least, .int .i64 s.most, .int .i64 s.load, .int .i64 s.cool] 48 (0, 0))) := hrow2
    have hbox : Hid _ := (hb2.block _ hp).trans (HG1.out W hW)
    have hbc := (HG3.out W hW).trans (hb2.mono hle)
    clear hrow2 hsz2 hb2 hz hW HG1 HG2 HG3
    clear e0 e1 e2 e3 x0 x1 x2 x3 x4 x5 x6 x7 x8 x9 x10 x11 x12 y0 y1 y2 y3 y4 y5 y6 T1 hz1 hB1 HIDX hbb1
    have hcx1 := hcx.below hbc hbsC
    unfold CpAt at hcx1
    have y4 := hcx1.2.2.2.2.1
    clear hcx1
    have e0 := blk_cell hbox.out 0 rfl
    have e1 := blk_cell hbox.out 1 rfl
    have e2 := blk_cell hbox.out 2 rfl
    have e3 := blk_cell hbox.out 3 rfl
    have x2 := blk_cell hxs.out 2 rfl
    cases hst : (c.state != 3)
    · cases hgo : s.gone
      · have HF : Hid (mayL B s sv c = decide (s.want - s.down ≤ N.ready - 1)) := by unfold Hid; rw [HM.out, hend, hst, hgo]; simp
        have g0 := gcell hbox.out 0 rfl
        have g1 := gcell hbox.out 1 rfl
        have g2 := gcell hbox.out 2 rfl
        have g3 := gcell hbox.out 3 rfl
        have k4 := gcell hxs.out 4 rfl
        have k5 := gcell hxs.out 5 rfl
        go_wp2
        have hbl : w.heap.size < w2.heap.size := (Array.getElem?_eq_some_iff.1 hbox.out).1
        have hxl : p < w2.heap.size := (Array.getElem?_eq_some_iff.1 hxs.out).1
        refine wp_region_grows 11 (by kernel_rfl) (by kernel_rfl) ?_
        apply grow_eq
        · intro V W K A hW hd hA hK
          simp only [putAll, List.getElem?_toArray, List.getElem?_cons_succ, List.getElem?_cons_zero, Option.bind_some, Act.put, List.setIfInBounds_toArray, List.set_cons_succ, List.set_cons_zero] at hA
          clear hd
          generalize V 0 = x0 at hA
          generalize V 1 = x1 at hA
          generalize V 2 = x2 at hA
          generalize V 3 = x3 at hA
          generalize V 4 = x4 at hA
          generalize V 5 = x5 at hA
          generalize V 6 = x6 at hA
          generalize V 7 = x7 at hA
          generalize V 8 = x8 at hA
          generalize V 9 = x9 at hA
          generalize V 10 = x10 at hA
          obtain rfl := hA
          have e0 := blk_cell (below_blk hW hbox.out hbl) 0 rfl
          have e1 := blk_cell (below_blk hW hbox.out hbl) 1 rfl
          have e2 := blk_cell (below_blk hW hbox.out hbl) 2 rfl
          have e3 := blk_cell (below_blk hW hbox.out hbl) 3 rfl
          go_wp2
          exact hK.out _ (Below.refl _ _)
        apply grow_eq
        · intro V W K A hW hd hA hK
          simp only [putAll, List.getElem?_toArray, List.getElem?_cons_succ, List.getElem?_cons_zero, Option.bind_some, Act.put, List.setIfInBounds_toArray, List.set_cons_succ, List.set_cons_zero] at hA
          clear hd
          generalize V 0 = x0 at hA
          generalize V 1 = x1 at hA
          generalize V 2 = x2 at hA
          generalize V 3 = x3 at hA
          generalize V 4 = x4 at hA
          generalize V 5 = x5 at hA
          generalize V 6 = x6 at hA
          generalize V 7 = x7 at hA
          generalize V 8 = x8 at hA
          generalize V 9 = x9 at hA
          generalize V 10 = x10 at hA
          obtain rfl := hA
          go_wp2
          exact hK.out _ (Below.refl _ _)
        apply grow_eq
        · intro V W K A hW hd hA hK
          have d0 : V 0 = _ := hd 0 (by kernel_rfl)
          have d1 : V 1 = _ := hd 1 (by kernel_rfl)
          simp only [putAll, List.getElem?_toArray, List.getElem?_cons_succ, List.getElem?_cons_zero, Option.bind_some, Act.put, List.setIfInBounds_toArray, List.set_cons_succ, List.set_cons_zero] at hA
          clear hd
          generalize V 0 = x0 at d0 hA
          generalize V 1 = x1 at d1 hA
          generalize V 2 = x2 at hA
          generalize V 3 = x3 at hA
          generalize V 4 = x4 at hA
          generalize V 5 = x5 at hA
          generalize V 6 = x6 at hA
          generalize V 7 = x7 at hA
          generalize V 8 = x8 at hA
          generalize V 9 = x9 at hA
          generalize V 10 = x10 at hA
          subst d0
          subst d1
          obtain rfl := hA
          go_wp2_with fail
          refine (l2Count_any B sv _ _ a3 c1 c2 c3 _ hS (hB.below (hbc.trans (hW.mono hbc.size))) N HCB).mono ?_
          rintro e w3 ⟨rfl, hb3⟩
          go_wp2
          exact hK.out _ hb3
        apply grow_eq
        · intro V W K A hW hd hA hK
          have d2 : V 2 = _ := hd 2 (by kernel_rfl)
          simp only [putAll, List.getElem?_toArray, List.getElem?_cons_succ, List.getElem?_cons_zero, Option.bind_some, Act.put, List.setIfInBounds_toArray, List.set_cons_succ, List.set_cons_zero] at hA
          clear hd
          generalize V 0 = x0 at hA
          generalize V 1 = x1 at hA
          generalize V 2 = x2 at d2 hA
          generalize V 3 = x3 at hA
          generalize V 4 = x4 at hA
          generalize V 5 = x5 at hA
          generalize V 6 = x6 at hA
          generalize V 7 = x7 at hA
          generalize V 8 = x8 at hA
          generalize V 9 = x9 at hA
          generalize V 10 = x10 at hA
          subst d2
          obtain rfl := hA
          have hfld := run_field_count
          go_wp2
          exact hK.out _ (Below.refl _ _)
        apply grow_eq
        · intro V W K A hW hd hA hK
          have d3 : V 3 = _ := hd 3 (by kernel_rfl)
          simp only [putAll, List.getElem?_toArray, List.getElem?_cons_succ, List.getElem?_cons_zero, Option.bind_some, Act.put, List.setIfInBounds_toArray, List.set_cons_succ, List.set_cons_zero] at hA
          clear hd
          generalize V 0 = x0 at hA
          generalize V 1 = x1 at hA
          generalize V 2 = x2 at hA
          generalize V 3 = x3 at d3 hA
          generalize V 4 = x4 at hA
          generalize V 5 = x5 at hA
          generalize V 6 = x6 at hA
          generalize V 7 = x7 at hA
          generalize V 8 = x8 at hA
          generalize V 9 = x9 at hA
          generalize V 10 = x10 at hA
          subst d3
          obtain rfl := hA
          go_wp2
          exact hK.out _ (Below.refl _ _)
        apply grow_eq
        · intro V W K A hW hd hA hK
          simp only [putAll, List.getElem?_toArray, List.getElem?_cons_succ, List.getElem?_cons_zero, Option.bind_some, Act.put, List.setIfInBounds_toArray, List.set_cons_succ, List.set_cons_zero] at hA
          clear hd
          generalize V 0 = x0 at hA
          generalize V 1 = x1 at hA
          generalize V 2 = x2 at hA
          generalize V 3 = x3 at hA
          generalize V 4 = x4 at hA
          generalize V 5 = x5 at hA
          generalize V 6 = x6 at hA
          generalize V 7 = x7 at hA
          generalize V 8 = x8 at hA
          generalize V 9 = x9 at hA
          generalize V 10 = x10 at hA
          obtain rfl := hA
          go_wp2
          exact hK.out _ (Below.refl _ _)
        apply grow_eq
        · intro V W K A hW hd hA hK
          have d5 : V 5 = _ := hd 5 (by kernel_rfl)
          simp only [putAll, List.getElem?_toArray, List.getElem?_cons_succ, List.getElem?_cons_zero, Option.bind_some, Act.put, List.setIfInBounds_toArray, List.set_cons_succ, List.set_cons_zero] at hA
          clear hd
          generalize V 0 = x0 at hA
          generalize V 1 = x1 at hA
          generalize V 2 = x2 at hA
          generalize V 3 = x3 at hA
          generalize V 4 = x4 at hA
          generalize V 5 = x5 at d5 hA
          generalize V 6 = x6 at hA
          generalize V 7 = x7 at hA
          generalize V 8 = x8 at hA
          generalize V 9 = x9 at hA
          generalize V 10 = x10 at hA
          subst d5
          obtain rfl := hA
          have x4 := blk_cell (below_blk hW hxs.out hxl) 4 rfl
          have x5 := blk_cell (below_blk hW hxs.out hxl) 5 rfl
          go_wp2
          exact hK.out _ (Below.refl _ _)
        apply grow_eq
        · intro V W K A hW hd hA hK
          simp only [putAll, List.getElem?_toArray, List.getElem?_cons_succ, List.getElem?_cons_zero, Option.bind_some, Act.put, List.setIfInBounds_toArray, List.set_cons_succ, List.set_cons_zero] at hA
          clear hd
          generalize V 0 = x0 at hA
          generalize V 1 = x1 at hA
          generalize V 2 = x2 at hA
          generalize V 3 = x3 at hA
          generalize V 4 = x4 at hA
          generalize V 5 = x5 at hA
          generalize V 6 = x6 at hA
          generalize V 7 = x7 at hA
          generalize V 8 = x8 at hA
          generalize V 9 = x9 at hA
          generalize V 10 = x10 at hA
          obtain rfl := hA
          go_wp2
          exact hK.out _ (Below.refl _ _)
        apply grow_eq
        · intro V W K A hW hd hA hK
          have d7 : V 7 = _ := hd 7 (by kernel_rfl)
          simp only [putAll, List.getElem?_toArray, List.getElem?_cons_succ, List.getElem?_cons_zero, Option.bind_some, Act.put, List.setIfInBounds_toArray, List.set_cons_succ, List.set_cons_zero] at hA
          clear hd
          generalize V 0 = x0 at hA
          generalize V 1 = x1 at hA
          generalize V 2 = x2 at hA
          generalize V 3 = x3 at hA
          generalize V 4 = x4 at hA
          generalize V 5 = x5 at hA
          generalize V 6 = x6 at hA
          generalize V 7 = x7 at d7 hA
          generalize V 8 = x8 at hA
          generalize V 9 = x9 at hA
          generalize V 10 = x10 at hA
          subst d7
          obtain rfl := hA
          have x4 := blk_cell (below_blk hW hxs.out hxl) 4 rfl
          have x5 := blk_cell (below_blk hW hxs.out hxl) 5 rfl
          go_wp2
          exact hK.out _ (Below.refl _ _)
        apply grow_eq
        · intro V W K A hW hd hA hK
          have d6 : V 6 = _ := hd 6 (by kernel_rfl)
          have d8 : V 8 = _ := hd 8 (by kernel_rfl)
          simp only [putAll, List.getElem?_toArray, List.getElem?_cons_succ, List.getElem?_cons_zero, Option.bind_some, Act.put, List.setIfInBounds_toArray, List.set_cons_succ, List.set_cons_zero] at hA
          clear hd
          generalize V 0 = x0 at hA
          generalize V 1 = x1 at hA
          generalize V 2 = x2 at hA
          generalize V 3 = x3 at hA
          generalize V 4 = x4 at hA
          generalize V 5 = x5 at hA
          generalize V 6 = x6 at d6 hA
          generalize V 7 = x7 at hA
          generalize V 8 = x8 at d8 hA
          generalize V 9 = x9 at hA
          generalize V 10 = x10 at hA
          subst d6
          subst d8
          obtain rfl := hA
          go_wp2
          exact hK.out _ (Below.refl _ _)
        apply grow_eq
        · intro V W K A hW hd hA hK
          have d4 : V 4 = _ := hd 4 (by kernel_rfl)
          have d9 : V 9 = _ := hd 9 (by kernel_rfl)
          simp only [putAll, List.getElem?_toArray, List.getElem?_cons_succ, List.getElem?_cons_zero, Option.bind_some, Act.put, List.setIfInBounds_toArray, List.set_cons_succ, List.set_cons_zero] at hA
          clear hd
          generalize V 0 = x0 at hA
          generalize V 1 = x1 at hA
          generalize V 2 = x2 at hA
          generalize V 3 = x3 at hA
          generalize V 4 = x4 at d4 hA
          generalize V 5 = x5 at hA
          generalize V 6 = x6 at hA
          generalize V 7 = x7 at hA
          generalize V 8 = x8 at hA
          generalize V 9 = x9 at d9 hA
          generalize V 10 = x10 at hA
          subst d4
          subst d9
          obtain rfl := hA
          go_wp2
          exact hK.out _ (Below.refl _ _)
        intro V W A hW hS hA
        have d0 : V 0 = _ := hS 0 (by omega)
        have d1 : V 1 = _ := hS 1 (by omega)
        have d2 : V 2 = _ := hS 2 (by omega)
        have d3 : V 3 = _ := hS 3 (by omega)
        have d4 : V 4 = _ := hS 4 (by omega)
        have d5 : V 5 = _ := hS 5 (by omega)
        have d6 : V 6 = _ := hS 6 (by omega)
        have d7 : V 7 = _ := hS 7 (by omega)
        have d8 : V 8 = _ := hS 8 (by omega)
        have d9 : V 9 = _ := hS 9 (by omega)
        have d10 : V 10 = _ := hS 10 (by omega)
        simp only [putAll, List.getElem?_toArray, List.getElem?_cons_succ, List.getElem?_cons_zero, Option.bind_some, Act.put, List.setIfInBounds_toArray, List.set_cons_succ, List.set_cons_zero] at hA
        clear hS
        generalize V 0 = x0 at d0 hA
        generalize V 1 = x1 at d1 hA
        generalize V 2 = x2 at d2 hA
        generalize V 3 = x3 at d3 hA
        generalize V 4 = x4 at d4 hA
        generalize V 5 = x5 at d5 hA
        generalize V 6 = x6 at d6 hA
        generalize V 7 = x7 at d7 hA
        generalize V 8 = x8 at d8 hA
        generalize V 9 = x9 at d9 hA
        generalize V 10 = x10 at d10 hA
        subst d0
        subst d1
        subst d2
        subst d3
        subst d4
        subst d5
        subst d6
        subst d7
        subst d8
        subst d9
        subst d10
        obtain rfl := hA
        simp only [List.drop_succ_cons, List.drop_zero]
        go_wp2
        go_ret
        exact ⟨ret_bool (by rw [HF.out]), hbc.trans (hW.mono hbc.size)⟩
      · have HF : Hid (mayL B s sv c = true) := by unfold Hid; rw [HM.out, hend, hst, hgo]; rfl
        go_wp2
        go_ret
        exact ⟨ret_bool HF.out.symm, hbc⟩
    · have HF : Hid (mayL B s sv c = true) := by unfold Hid; rw [HM.out, hend, hst]; rfl
      go_wp2
      go_ret
      exact ⟨ret_bool HF.out.symm, hbc⟩
  · go_wp2
    go_ret
    exact ⟨ret_bool (by rw [HM.out, hend]; rfl), hbb1⟩

end Go.Proofs.YtbceafpodamnfabGreat

/-
  My own. Plain data, more: what may end.
-/
namespace Go.Proofs.YtbceafpodamnfabGreat
open Go.RowKit Go.Sort

/-- What StewMayEnd answers. -/
def mayOf (B : Bk) (sv : ByteArray) (num : Int) : Bool := validB B && (match B.cps.find? (isC sv num) with
  | none => false
  | some c => match svcOf B sv with
    | none => false
    | some s => mayL B s sv c)

theorem isC_iff {sv : ByteArray} {num : Int} {c : Cp} : isC sv num c = true ↔ c.service = sv ∧ c.number = num := by
  unfold isC
  rw [Bool.and_eq_true, beq_iff_eq (a := c.number)]
  exact and_congr_left fun _ => same_nm

end Go.Proofs.YtbceafpodamnfabGreat

/-
  My own. Copies of a valid book: no two of one service and number.
-/
namespace Go.Proofs.YtbceafpodamnfabGreat
open Go.RowKit Go.Sort Go.Maps

/-- No two copies of one service and number. -/
def uniqC (B : Bk) : Prop := ∀ (i j : Nat) c d, i < j → B.cps[i]? = some c → B.cps[j]? = some d → ¬ (c.service = d.service ∧ c.number = d.number)
/-- Copies' numbers are of their kind. -/
def wfC (B : Bk) : Prop := ∀ c ∈ B.cps, (Lit.int .i64 c.number).wf = true

theorem aheadB_trans {a b c : Cp} (h1 : aheadB a b = true) (h2 : aheadB b c = true) : aheadB a c = true := by
  unfold aheadB at *
  simp only [Bool.or_eq_true, Bool.and_eq_true, decide_eq_true_eq, beq_iff_eq] at *
  rcases h1 with h1 | ⟨e1, n1⟩
  · rcases h2 with h2 | ⟨e2, n2⟩
    · exact .inl (bytesLess_trans _ _ _ h1 h2)
    · exact .inl (by rw [← e2]; exact h1)
  · rcases h2 with h2 | ⟨e2, n2⟩
    · exact .inl (by rw [e1]; exact h2)
    · exact .inr ⟨e1.trans e2, by omega⟩

theorem cps_ahead {B : Bk} (h : ∀ i, i < B.cps.length → cpAtB B i = true) : ∀ (j i : Nat) s t, i < j → B.cps[i]? = some s → B.cps[j]? = some t → aheadB s t = true
  | 0, i, _, _, hi, _, _ => absurd hi (by omega)
  | j + 1, i, s, t, hi, hs, ht => by
    have hlt : j + 1 < B.cps.length := (List.getElem?_eq_some_iff.1 ht).1
    obtain ⟨p, hp⟩ : ∃ p, B.cps[j]? = some p := ⟨B.cps[j]'(by omega), by rw [List.getElem?_eq_getElem]⟩
    have h1 : aheadB p t = true := by
      have := h (j + 1) hlt
      unfold cpAtB at this
      rw [ht] at this
      simp [hp] at this
      exact this.2
    rcases Nat.lt_or_ge i j with h' | h'
    · exact aheadB_trans (cps_ahead h j i s p h' hs hp) h1
    · have e : i = j := by omega
      subst e
      rw [hp] at hs
      cases hs
      exact h1

theorem uniqC_of {B : Bk} (h : allTo (cpAtB B) B.cps.length = true) : uniqC B := fun i j c d hij hc hd ⟨e1, e2⟩ => by
  have := cps_ahead (cpAt_of h) j i c d hij hc hd
  unfold aheadB at this
  rw [e1, e2, bytesLess_irrefl] at this
  simp at this

end Go.Proofs.YtbceafpodamnfabGreat

/-
  My own. The program's rule of what may end.
-/
namespace Go.Proofs.YtbceafpodamnfabGreat
open Go.RowKit Go.Sort

set_option maxHeartbeats 1000000 in
theorem allowsAll_any (c : Cp) (r : Int) (w : World) :
    Calls Tryz.prog 194 #[.agg #[], .agg #[.string c.service, .int .i64 c.number, .int .i64 c.version, .int .i64 c.image, .int .i64 c.state, .bool c.ending, .string c.berth], .int .i64 r] w fun e w' => e = .returned (.bool true) ∧ Below w.heap.size w w' := by
  go_enter Tryz.func194, Tryz.ntmps194
  go_wp2
  go_ret
  exact ⟨rfl, ((Below.refl _ _).alloc (Nat.le_refl _) _).alloc (by simp) _⟩

set_option maxHeartbeats 1000000 in
theorem allowsKeep_any (l : Int) (c : Cp) (r : Int) (w : World) (hr0 : 0 ≤ r) (hr1 : r ≤ 1048576) :
    Calls Tryz.prog 195 #[.agg #[.int .i64 l], .agg #[.string c.service, .int .i64 c.number, .int .i64 c.version, .int .i64 c.image, .int .i64 c.state, .bool c.ending, .string c.berth], .int .i64 r] w fun e w' => e = .returned (.bool (c.state != 3 || decide (l ≤ r - 1))) ∧ Below w.heap.size w w' := by
  cases hst : (c.state != 3)
  · go_enter Tryz.func195, Tryz.ntmps195
    go_wp2
    go_ret
    exact ⟨ret_bool (by simp), ((Below.refl _ _).alloc (Nat.le_refl _) _).alloc (by simp) _⟩
  · go_enter Tryz.func195, Tryz.ntmps195
    go_wp2
    go_ret
    exact ⟨rfl, ((Below.refl _ _).alloc (Nat.le_refl _) _).alloc (by simp) _⟩

set_option maxHeartbeats 1000000 in
theorem ruleOf_gone (s : Svc) (w : World) (hg : s.gone = true) :
    Calls Tryz.prog 170 #[.agg #[.string s.name, .int .i64 s.version, .bool s.gone, .int .i64 s.image, .int .i64 s.want, .int .i64 s.down, .int .i64 s.over, .int .i64 s.next, .int .i64 s.per, .int .i64 s.least, .int .i64 s.most, .int .i64 s.load, .int .i64 s.cool]] w fun e w' => e = .returned (.iface 216 (.agg #[])) ∧ Below w.heap.size w w' := by
  go_enter Tryz.func170, Tryz.ntmps170
  go_wp2
  go_ret
  exact ⟨rfl, below_box _ _⟩

set_option maxHeartbeats 1000000 in
theorem ruleOf_keep (s : Svc) (w : World) (hg : s.gone = false) (hw0 : 0 ≤ s.want) (hw1 : s.want ≤ 10) (hd0 : 0 ≤ s.down) (hd1 : s.down ≤ 10) :
    Calls Tryz.prog 170 #[.agg #[.string s.name, .int .i64 s.version, .bool s.gone, .int .i64 s.image, .int .i64 s.want, .int .i64 s.down, .int .i64 s.over, .int .i64 s.next, .int .i64 s.per, .int .i64 s.least, .int .i64 s.most, .int .i64 s.load, .int .i64 s.cool]] w fun e w' => e = .returned (.iface 218 (.agg #[.int .i64 (s.want - s.down)])) ∧ Below w.heap.size w w' := by
  go_enter Tryz.func170, Tryz.ntmps170
  go_wp2
  go_ret
  exact ⟨rfl, below_box _ _⟩

end Go.Proofs.YtbceafpodamnfabGreat
