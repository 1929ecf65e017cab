/-
  My own. Regions that draw their order and whose operations only let the world grow: one walk, operation by operation.
-/
import Derived.StillTail
import Derived.Below
namespace Go.Proofs.Ytbceafpodamnfaa
open Go Go.RowKit

section
variable {P : Program} {ops : Array Oper} {md : Region.Mode} {Q : Exit → Act → World → Prop}

/-- The frame with what each of the first n operations gave. -/
def putAll (ops : Array Oper) (V : Nat → Value) : Nat → Act → Act
  | 0, a => a
  | n + 1, a => (putAll ops V n a).put ((ops[n]?).bind (·.dst)) (V n)

def upd (V : Nat → Value) (i : Nat) (v : Value) : Nat → Value := fun j => if j = i then v else V j

theorem put_put (a : Act) (d : Option Tmp) (u v : Value) : (a.put d u).put d v = a.put d v := by
  cases d <;> simp [Act.put]

theorem putAll_off (V : Nat → Value) (i : Nat) (v : Value) (a : Act) : ∀ n, n ≤ i → putAll ops (upd V i v) n a = putAll ops V n a
  | 0, _ => rfl
  | n + 1, h => by
    have e : upd V i v n = V n := by simp [upd]; omega
    simp only [putAll, e, putAll_off V i v a n (by omega)]

/-- Each of the first n operations has a place of its own. -/
def ownDst (ops : Array Oper) (n : Nat) : Bool :=
  (List.range n).all fun j => (List.range j).all fun i => match (ops[i]?).bind (·.dst) with
    | some d => (ops[j]?).bind (·.dst) != some d
    | none => true

theorem ownDst_spec {n : Nat} (h : ownDst ops n = true) {i j : Nat} (hij : i < j) (hj : j < n) : ∀ d, (ops[i]?).bind (·.dst) = some d → (ops[j]?).bind (·.dst) ≠ some d := by
  intro d hd
  have h1 := List.all_eq_true.1 (List.all_eq_true.1 h j (List.mem_range.2 hj)) i (List.mem_range.2 hij)
  rw [hd] at h1
  simpa using h1

theorem putAll_upd {V : Nat → Value} {i : Nat} {v : Value} {a : Act} : ∀ {n : Nat}, ownDst ops n = true → i < n → (putAll ops V n a).put ((ops[i]?).bind (·.dst)) v = putAll ops (upd V i v) n a
  | 0, _, h => absurd h (by omega)
  | n + 1, ho, h => by
    have ho' : ownDst ops n = true := by
      unfold ownDst at ho ⊢
      refine List.all_eq_true.2 fun j hj => List.all_eq_true.1 ho j (List.mem_range.2 (by have := List.mem_range.1 hj; omega))
    by_cases hi : i = n
    · subst hi
      simp only [putAll, put_put, putAll_off V i v a i (Nat.le_refl _)]
      simp [upd]
    · have e : upd V i v n = V n := by simp [upd]; omega
      simp only [putAll, e]
      rw [← putAll_upd (V := V) (i := i) (v := v) (a := a) ho' (by omega)]
      exact (Act.put_comm _ _ _ (ownDst_spec ho (by omega) (by omega))).symm

theorem putAll_self (a : Act) (n : Nat) : putAll ops (fun j => match (ops[j]?).bind (·.dst) with | some d => a.tmps.getD d undef | none => undef) n a = a := by
  induction n with
  | zero => rfl
  | succ n ih =>
    simp only [putAll, ih]
    cases (ops[n]?).bind (·.dst) with
    | none => rfl
    | some d =>
      simp only [Act.put]
      congr 1
      apply Array.ext
      · simp
      · intro i h1 h2
        by_cases hid : d = i
        · subst hid; simp [h2]
        · rw [Array.getElem_setIfInBounds_ne (h := hid)]

/-- How many of the first n have not come up. -/
def leftOf (n : Nat) (listed : Array Bool) : Nat := (List.range n).countP fun i => !listed.getD i true

theorem countP_but (p : Nat → Bool) (i : Nat) (hp : p i = true) : ∀ l : List Nat, l.Nodup → i ∈ l → l.countP p = l.countP (fun j => p j && j != i) + 1
  | [], _, h => by cases h
  | x :: l, hn, h => by
    rw [List.nodup_cons] at hn
    by_cases hx : x = i
    · subst hx
      have : l.countP (fun j => p j && j != x) = l.countP p := by
        refine List.countP_congr fun j hj => ?_
        have : j ≠ x := fun e => hn.1 (e ▸ hj)
        simp [this]
      rw [List.countP_cons, List.countP_cons, this]
      simp [hp]
    · have hm : i ∈ l := by rcases List.mem_cons.1 h with h | h; exact absurd h.symm hx; exact h
      have ih := countP_but p i hp l hn.2 hm
      rw [List.countP_cons, List.countP_cons, ih]
      have : (x != i) = true := by simpa using hx
      rw [this, Bool.and_true]
      omega

theorem leftOf_set {n i : Nat} {listed : Array Bool} (hi : i < n) (hs : i < listed.size) (hu : listed.getD i true = false) : leftOf n listed = leftOf n (listed.setIfInBounds i true) + 1 := by
  unfold leftOf
  rw [countP_but _ i (by simp only [hu]; rfl) _ List.nodup_range (List.mem_range.2 hi)]
  congr 1
  refine List.countP_congr fun j hj => ?_
  by_cases hji : j = i
  · subst hji
    have : (listed.setIfInBounds j true).getD j true = true := by simp [hs]
    simp
  · rw [getD_set_ne true (Ne.symm hji)]
    simp [hji]

/-- Nothing waits for what comes later. -/
def depsB (md : Region.Mode) (ops : Array Oper) (n : Nat) : Bool :=
  (List.range n).all fun i => match ops[i]? with
    | some o => o.after.all fun e => !Region.binds md e || decide (e.on < i)
    | none => false

def firstN (ops : Array Oper) (n : Nat) : Array Bool := Array.ofFn (n := ops.size) fun i => decide (i.val < n)

theorem listed_firstN {n : Nat} {listed : Array Bool} (inv : HeadInv md ops n listed) (hall : ∀ i, i < n → listed.getD i true = true) : listed = firstN ops n := by
  apply Array.ext
  · simp [firstN, inv.size]
  · intro i h1 h2
    simp only [firstN, Array.getElem_ofFn]
    by_cases hi : i < n
    · have := hall i hi
      simp [h1] at this
      simp [this, hi]
    · have := inv.tail i (by omega) (by rw [← inv.size]; exact h1)
      simp [h1] at this
      simp [this, hi]

theorem least_ready {n : Nat} {listed : Array Bool} (hdB : depsB md ops n = true) (inv : HeadInv md ops n listed) : ∀ (i : Nat), i < n → listed.getD i true = false → Region.ready md ops listed ≠ [] := by
  intro i
  induction i using Nat.strongRecOn with
  | _ i ih =>
    intro hi hu
    have h1 := List.all_eq_true.1 hdB i (List.mem_range.2 hi)
    cases ho : ops[i]? with
    | none => rw [ho] at h1; cases h1
    | some o =>
      rw [ho] at h1
      by_cases hall : ∀ e ∈ o.after, Region.binds md e = true → listed.getD e.on false = true
      · have : i ∈ Region.ready md ops listed := mem_ready.2 ⟨hu, o, ho, hall⟩
        intro h; rw [h] at this; cases this
      · simp only [Classical.not_forall] at hall
        obtain ⟨e, he, hb, hl⟩ := hall
        have h2 := Array.all_eq_true'.1 h1 e he
        rw [hb] at h2
        have h3 : e.on < i := by simpa using h2
        refine ih e.on h3 (by omega) ?_
        have hsz : e.on < listed.size := by
          have := (Array.getElem?_eq_some_iff.1 ho).1
          rw [inv.size]; omega
        exact getD_in hsz (by simpa using hl)

/-- One operation alone, and what is asked behind it; it may not stop otherwise. -/
def KPost (K : Act → World → Prop) : Exit → Act → World → Prop
  | .normal, a, w => K a w
  | _, _, _ => False

theorem KPost_in {K : Act → World → Prop} {a : Act} {w : World} (h : K a w) : KPost K .normal a w := h

theorem Oper.wp_only {o : Oper} {a : Act} {w : World} {L K : Act → World → Prop} (hh : o.wp P a w L (KPost K)) : o.wp P a w L Q := by
  unfold Oper.wp at *
  generalize (execOp a.eval o).run P w = r at *
  cases r with
  | ok n w' =>
    cases n <;> simp only [Oper.upon] at hh ⊢ <;>
      first
        | exact hh
        | exact Calls.mono hh (fun e w'' he => by cases e <;> first | exact he | exact False.elim he | exact (let ⟨_, _, h⟩ := he; False.elim h))
  | halt x w' => cases x <;> simp only [Oper.upon] at hh ⊢ <;> first | exact hh | exact False.elim hh

theorem wpOp_of_list {i : Nat} {o : Oper} {a : Act} {W : World} {K : Act → World → Prop} (hi : ops[i]? = some o) (h : wpList P ops (KPost K) [o] a W) : wpOp P ops Q i K a W := by
  unfold wpOp
  simp only [hi]
  simp only [wpList] at h
  split at h
  · rename_i hw
    rw [if_pos hw]
    rcases h with h | ⟨_, _, _, h2⟩
    · exact .inl (Oper.wp_only (Go.Oper.wp_mono (fun _ _ h => h) h))
    · exact False.elim h2
  · rename_i hw
    rw [if_neg hw]
    exact h

/-- What operation i must do where S holds of what the others left: give a value of which T holds, in a world that has only grown. -/
def GrowOp (P : Program) (ops : Array Oper) (a0 : Act) (n : Nat) (w0 : World) (S : Nat → Value → World → Prop) (i : Nat) (o : Oper) (T : Value → World → Prop) : Prop :=
  ∀ (V : Nat → Value) (W : World) (K : Act → World → Prop), Below w0.heap.size w0 W → (∀ j, Region.waitsFor .any ops i j = true → S j (V j) W) →
    Hid (∀ v W', Below W.heap.size W W' → T v W' → K ((putAll ops V n a0).put o.dst v) W') → wpList P ops (KPost K) [o] (putAll ops V n a0) W

def Lasts (T : Value → World → Prop) : Prop := ∀ v W W', T v W → Below W.heap.size W W' → T v W'

theorem wpAny_grow {n g : Nat} {S : Nat → Value → World → Prop} {w0 : World} {a0 : Act}
    (hw : ∀ listed, HeadInv .any ops n listed → ∀ i, i < n → listed.getD i true = false → ∀ t, n ≤ t → t ∉ Region.ready .any ops listed)
    (hn : n ≤ ops.size) (hdB : depsB .any ops n = true) (hd : ownDst ops n = true)
    (hst : ∀ j, Lasts (S j))
    (hop : ∀ i o, i < n → ops[i]? = some o → GrowOp P ops a0 n w0 S i o (S i))
    (hlast : ∀ V W, Below w0.heap.size w0 W → (∀ j, j < n → S j (V j) W) → wpAny P .any ops Q g (firstN ops n) (putAll ops V n a0) W) :
    ∀ (m : Nat) (listed : Array Bool) (V : Nat → Value) (W : World), HeadInv .any ops n listed → leftOf n listed = m → Below w0.heap.size w0 W → (∀ j, j < n → listed.getD j false = true → S j (V j) W) →
      wpAny P .any ops Q (m + g) listed (putAll ops V n a0) W
  | 0, listed, V, W, inv, hm, hb, hS => by
    have hall : ∀ i, i < n → listed.getD i true = true := by
      intro i hi
      have := List.countP_eq_zero.1 hm i (List.mem_range.2 hi)
      simpa using this
    rw [listed_firstN inv hall, Nat.zero_add]
    refine hlast V W hb fun j hj => hS j hj ?_
    have := hall j hj
    have hjs : j < listed.size := by rw [inv.size]; omega
    simp [hjs] at this ⊢
    exact this
  | m + 1, listed, V, W, inv, hm, hb, hS => by
    obtain ⟨u, hu, hul⟩ : ∃ u, u < n ∧ listed.getD u true = false := by
      have : 0 < leftOf n listed := by omega
      obtain ⟨u, hu, hul⟩ := List.countP_pos_iff.1 this
      exact ⟨u, List.mem_range.1 hu, by simpa using hul⟩
    rw [show m + 1 + g = (m + g) + 1 by omega]
    refine ⟨fun h0 => absurd h0 (least_ready hdB inv u hu hul), fun i hi => ?_⟩
    have hin : i < n := by
      rcases Nat.lt_or_ge i n with h | h
      · exact h
      · exact absurd hi (hw listed inv u hu hul i h)
    obtain ⟨hun, o, ho, hall⟩ := mem_ready.1 hi
    refine wpOp_of_list ho (hop i o hin ho V W _ hb (fun j hj => ?_) fun v W' hb' hs' => ?_)
    · obtain ⟨oj, hoj, e, he, hbd, hon⟩ := Region.waitsFor_spec hj
      have : oj = o := Option.some.inj (hoj.symm.trans ho)
      subst this
      have hl := hall e he hbd
      rw [hon] at hl
      have hlt : j < n := by
        have h1 := List.all_eq_true.1 hdB i (List.mem_range.2 hin)
        rw [ho] at h1
        have h2 := Array.all_eq_true'.1 h1 e he
        rw [hbd] at h2
        have h3 : e.on < i := by simpa using h2
        omega
      exact hS j hlt hl
    · have hdst : o.dst = (ops[i]?).bind (·.dst) := by rw [ho]; rfl
      rw [hdst, putAll_upd hd hin]
      have his : i < listed.size := by rw [inv.size]; exact (Array.getElem?_eq_some_iff.1 ho).1
      refine wpAny_grow hw hn hdB hd hst hop hlast m _ _ W' (inv.set hi hin) (by have := leftOf_set hin his hun; omega) (hb.trans ⟨hb'.os, hb'.tape, hb'.output, hb'.size, fun k hk => hb'.block k (Nat.lt_of_lt_of_le hk hb.size)⟩) fun j hj hl => ?_
      by_cases hji : j = i
      · subst hji
        simpa [upd] using hs'
      · rw [getD_set_ne false (Ne.symm hji)] at hl
        have := hst j (V j) W W' (hS j hj hl) hb'
        simpa [upd, hji] using this

/-- What a region with a tail must keep to. -/
def growTailB (ops : Array Oper) (n : Nat) : Bool :=
  decide (n < ops.size) && Region.sinkB .any ops n && Region.chainB .any ops n && depsB .any ops n && ownDst ops n && Region.seqB .any ops (ops.size - n) n (firstN ops n)

theorem wp_region_grow {id : Nat} {a : Act} {w : World} {l : List Oper} (n : Nat) (S : Nat → Value → World → Prop) (hm : P.follows .mixedOrders = true) (hB : growTailB l.toArray n = true)
    (hst : ∀ j, Lasts (S j)) (hop : ∀ i o, i < n → l.toArray[i]? = some o → GrowOp P l.toArray a n w S i o (S i))
    (hlast : ∀ V W, Below w.heap.size w W → (∀ j, j < n → S j (V j) W) → wpList P l.toArray Q (l.drop n) (putAll l.toArray V n a) W) : (Code.region id l.toArray true).wp P Q a w := by
  simp only [growTailB, Bool.and_eq_true, decide_eq_true_eq] at hB
  obtain ⟨⟨⟨⟨⟨hn, hs⟩, hc⟩, hdB⟩, hd⟩, hseq⟩ := hB
  refine wp_region_any hm ?_
  have inv0 : HeadInv .any l.toArray n (Array.replicate l.toArray.size false) :=
    ⟨by simp, fun j oj _ hl => (by rw [getD_replicate_false] at hl; cases hl), fun t _ ht => getD_in (by simpa using ht) (getD_replicate_false _ _)⟩
  have hb0 : Below w.heap.size w { w with drawn := w.drawn + 1 } := ⟨rfl, rfl, rfl, Nat.le_refl _, fun _ _ => rfl⟩
  have hleft : leftOf n (Array.replicate l.toArray.size false) = n := by
    unfold leftOf
    rw [List.countP_eq_length.2]
    · simp
    · intro i hi
      have : i < l.toArray.size := by have := List.mem_range.1 hi; omega
      rw [getD_in (by simpa using this) (getD_replicate_false _ _)]
      rfl
  have H := wpAny_grow (P := P) (Q := Q) (g := l.toArray.size - n) (S := S) (w0 := w) (a0 := a) (fun listed inv i hi hu t ht => tail_waits hs hc hn inv _ i rfl hi hu t ht) (by omega) hdB hd hst hop
    (fun V W hb hS => by
      have hdl : (l.drop n).length = l.toArray.size - n := by simp
      have := wpAny_of_seq (md := .any) (Q' := Q) (l.drop n) n (firstN l.toArray n) _ W (fun j => by simp [List.getElem?_drop]) (by rw [hdl]; exact hseq) (hlast V W hb hS)
      rwa [hdl] at this)
    n _ (fun j => match (l.toArray[j]?).bind (·.dst) with | some d => a.tmps.getD d undef | none => undef) { w with drawn := w.drawn + 1 } inv0 hleft hb0 (fun j _ hl => by rw [getD_replicate_false] at hl; cases hl)
  rw [putAll_self, show n + (l.toArray.size - n) = l.toArray.size by omega] at H
  exact H

/-! ### Operation by operation -/

def updS (S : Nat → Value → World → Prop) (i : Nat) (T : Value → World → Prop) : Nat → Value → World → Prop := fun j => match Nat.beq j i with
  | true => T
  | false => S j

def growFrom (P : Program) (ops : Array Oper) (a0 : Act) (n : Nat) (w0 : World) (L : (Nat → Value → World → Prop) → Prop) : List Oper → Nat → (Nat → Value → World → Prop) → Prop
  | [], _, S => L S
  | o :: rest, i, S => ∃ T, Lasts T ∧ GrowOp P ops a0 n w0 S i o T ∧ growFrom P ops a0 n w0 L rest (i + 1) (updS S i T)

theorem grow_op {a0 : Act} {n : Nat} {w0 : World} {L : (Nat → Value → World → Prop) → Prop} {o : Oper} {rest : List Oper} {i : Nat} {S : Nat → Value → World → Prop} (T : Value → World → Prop) (hT : Lasts T)
    (h : ∀ (V : Nat → Value) (W : World) (K : Act → World → Prop) (A : Act), Below w0.heap.size w0 W → (∀ j, Region.waitsFor .any ops i j = true → S j (V j) W) → Hid (A = putAll ops V n a0) →
      Hid (∀ v W', Below W.heap.size W W' → T v W' → K (A.put o.dst v) W') → wpList P ops (KPost K) [o] A W)
    (hr : growFrom P ops a0 n w0 L rest (i + 1) (updS S i T)) : growFrom P ops a0 n w0 L (o :: rest) i S := ⟨T, hT, fun V W K hb hd hK => h V W K _ hb hd rfl hK, hr⟩

theorem grow_eq {a0 : Act} {n : Nat} {w0 : World} {L : (Nat → Value → World → Prop) → Prop} {o : Oper} {rest : List Oper} {i : Nat} {S : Nat → Value → World → Prop} {u : Value}
    (h : ∀ (V : Nat → Value) (W : World) (K : Act → World → Prop) (A : Act), Below w0.heap.size w0 W → (∀ j, Region.waitsFor .any ops i j = true → S j (V j) W) → Hid (A = putAll ops V n a0) →
      Hid (∀ W', Below W.heap.size W W' → K (A.put o.dst u) W') → wpList P ops (KPost K) [o] A W)
    (hr : growFrom P ops a0 n w0 L rest (i + 1) (updS S i fun v _ => v = u)) : growFrom P ops a0 n w0 L (o :: rest) i S :=
  ⟨fun v _ => v = u, fun _ _ _ h _ => h, fun V W K hb hd hK => h V W K _ hb hd rfl fun W' hb' => hK.out u W' hb' rfl, hr⟩

theorem updS_self (S : Nat → Value → World → Prop) (i : Nat) (T : Value → World → Prop) : updS S i T i = T := by simp [updS]
theorem updS_ne (S : Nat → Value → World → Prop) {i j : Nat} (T : Value → World → Prop) (h : j ≠ i) : updS S i T j = S j := by
  have : Nat.beq j i = false := by
    cases hb : Nat.beq j i with
    | false => rfl
    | true => exact absurd (Nat.eq_of_beq_eq_true hb) h
  simp [updS, this]

theorem growFrom_out {a0 : Act} {n : Nat} {w0 : World} {L : (Nat → Value → World → Prop) → Prop} (hdB : depsB .any ops n = true) : ∀ (l : List Oper) (k : Nat) (S : Nat → Value → World → Prop), k + l.length = n → (∀ j, j < l.length → l[j]? = ops[k + j]?) →
    (∀ j, Lasts (S j)) → (∀ i o, i < k → ops[i]? = some o → GrowOp P ops a0 n w0 S i o (S i)) → growFrom P ops a0 n w0 L l k S →
    ∃ S', (∀ j, Lasts (S' j)) ∧ (∀ i o, i < n → ops[i]? = some o → GrowOp P ops a0 n w0 S' i o (S' i)) ∧ L S'
  | [], k, S, hk, _, hl, hop, h => ⟨S, hl, by rw [show n = k by simpa using hk.symm]; rw [show n = k by simpa using hk.symm] at hop; exact hop, h⟩
  | o :: l, k, S, hk, hs, hl, hop, ⟨T, hT, ho, h⟩ => by
    have h0 : ops[k]? = some o := by simpa using (hs 0 (by simp)).symm
    have dep : ∀ i j, i < n → Region.waitsFor .any ops i j = true → j < i := fun i j hi hj => by
      obtain ⟨oj, hoj, e, he, hbd, hon⟩ := Region.waitsFor_spec hj
      have h1 := List.all_eq_true.1 hdB i (List.mem_range.2 hi)
      rw [hoj] at h1
      have h2 := Array.all_eq_true'.1 h1 e he
      rw [hbd] at h2
      have h3 : e.on < i := by simpa using h2
      omega
    have hkn : k < n := by simp only [List.length_cons] at hk; omega
    refine growFrom_out hdB l (k + 1) _ (by simp only [List.length_cons] at hk; omega) (fun j hj => by have := hs (j + 1) (by simp; omega); simpa [Nat.add_assoc, Nat.add_comm 1 j] using this) (fun j => ?_) (fun i o' hi hi' => ?_) h
    · by_cases e : j = k
      · subst e; rw [updS_self]; exact hT
      · rw [updS_ne _ _ e]; exact hl j
    · by_cases e : i = k
      · subst e
        have : o' = o := Option.some.inj (hi'.symm.trans h0)
        subst this
        rw [updS_self]
        exact fun V W K hb hd hK => ho V W K hb (fun j hj => by have := hd j hj; rwa [updS_ne _ _ (by have := dep i j hkn hj; omega)] at this) hK
      · rw [updS_ne _ _ e]
        exact fun V W K hb hd hK => hop i o' (by omega) hi' V W K hb (fun j hj => by have := hd j hj; rwa [updS_ne _ _ (by have := dep i j (by omega) hj; omega)] at this) hK

/-- A region that draws its order, its operations walked one by one in the order of the text: the first n only let the world grow, each leaving a value of which it says something that lasts; then a tail in order. -/
theorem wp_region_grows {id : Nat} {a : Act} {w : World} {l : List Oper} (n : Nat) (hm : P.follows .mixedOrders = true) (hB : growTailB l.toArray n = true)
    (h : growFrom P l.toArray a n w (fun S => ∀ V W A, Below w.heap.size w W → (∀ j, j < n → S j (V j) W) → Hid (A = putAll l.toArray V n a) → wpList P l.toArray Q (l.drop n) A W) (l.take n) 0 fun _ _ _ => True) : (Code.region id l.toArray true).wp P Q a w := by
  have hB' := hB
  simp only [growTailB, Bool.and_eq_true, decide_eq_true_eq] at hB'
  obtain ⟨⟨⟨⟨⟨hn, _⟩, _⟩, hdB⟩, _⟩, _⟩ := hB'
  have hn' : n < l.length := by simpa using hn
  obtain ⟨S, h1, h2, h3⟩ := growFrom_out hdB (l.take n) 0 _ (by simp; omega) (fun j hj => by
    have : j < n := by simp at hj; omega
    simp [this]) (fun _ _ _ _ _ _ => trivial) (fun i o hi => absurd hi (by omega)) h
  exact wp_region_grow n S hm hB h1 h2 fun V W hb hS => h3 V W _ hb hS rfl
end
end Go.Proofs.Ytbceafpodamnfaa
