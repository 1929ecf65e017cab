/-
  My own: Xa, Lg, Xb, La, Lc.
-/
import Derived.Test.YtbceafpodamnfabGreatG03
import Derived.StillTail
import Derived.Below
import Derived.Test.YtbceafpodamnfabGreatG01
import Derived.Deep.DeepCutAuto
import Derived.Test.YtbceafpodamnfabGreatG00
import Derived.Laws.AppendOwn
namespace Go.Proofs.YtbceafpodamnfabGreat
open Go.RowKit
def standTo (B : Bk) (nm : ByteArray) (m : Nat) : Int := ((B.cps.take m).filter fun c => c.berth.toList == nm.toList).length
theorem standTo_succ {B : Bk} {nm : ByteArray} {m : Nat} {c : Cp} (h : B.cps[m]? = some c) : standTo B nm (m + 1) = addB (c.berth.toList == nm.toList) (standTo B nm m) := by
 unfold standTo addB
 rw [List.take_add_one, h, List.filter_append]
 cases hc : (c.berth.toList == nm.toList) <;> simp [List.filter, hc]
theorem standTo_in (B : Bk) (nm : ByteArray) (m : Nat) : 0 ≤ standTo B nm m ∧ standTo B nm m ≤ m := by
 unfold standTo
 have h1 := List.length_filter_le (fun c : Cp => c.berth.toList == nm.toList) (B.cps.take m)
 have h2 : (B.cps.take m).length ≤ m := by rw [List.length_take]; omega
 omega
def standN (B : Bk) (nm : ByteArray) : Int := standTo B nm B.cps.length
def leastS (B : Bk) (p : ByteArray × Int) (t : Bt) : ByteArray × Int := if (!t.drain && (p.1.toList == [] || decide (standN B t.name < p.2))) = true then (t.name, standN B t.name) else p
def leastTo (B : Bk) (k : Nat) : ByteArray × Int := (B.bts.take k).foldl (leastS B) (⟨#[]⟩, 0)
theorem leastTo_succ {B : Bk} {k : Nat} {t : Bt} (h : B.bts[k]? = some t) : leastTo B (k + 1) = leastS B (leastTo B k) t := by
 unfold leastTo
 rw [List.take_add_one, h, List.foldl_append]
 rfl
def leastB (B : Bk) : ByteArray := (leastTo B B.bts.length).1
def tickC (v : Int) (c : Cp) : Cp := if c.state = 2 then { c with state := 3, version := v } else c
def leftL (v : Int) (l : List Cp) : List Cp := (l.filter fun c => !c.ending).map (tickC v)
def placeAt (v : Int) (X : Bk) (i : Nat) : Bk := match X.cps[i]? with
 | some c => if c.state = 1 ∧ leastB X ≠ ⟨#[]⟩ then { X with cps := X.cps.set i { c with state := 2, berth := leastB X, version := v } } else X
 | none => X
def tick0 (B : Bk) (v : Int) : Bk := { B with cps := leftL v B.cps }
def tickTo (B : Bk) (v : Int) (k : Nat) : Bk := (List.range k).foldl (placeAt v) (tick0 B v)
def tickB (B : Bk) (v : Int) : Bk := tickTo B v (leftL v B.cps).length
theorem tickTo_succ (B : Bk) (v : Int) (k : Nat) : tickTo B v (k + 1) = placeAt v (tickTo B v k) k := by
 unfold tickTo
 rw [List.range_succ, List.foldl_append]
 rfl
theorem placeAt_same (v : Int) (X : Bk) (i : Nat) : (placeAt v X i).now = X.now ∧ (placeAt v X i).svcs = X.svcs ∧ (placeAt v X i).bts = X.bts ∧ (placeAt v X i).cps.length = X.cps.length := by
 unfold placeAt
 split
 ·split
  ·exact ⟨rfl, rfl, rfl, List.length_set ..⟩
  ·exact ⟨rfl, rfl, rfl, rfl⟩
 ·exact ⟨rfl, rfl, rfl, rfl⟩
theorem tickTo_same (B : Bk) (v : Int) : ∀ k, (tickTo B v k).now = B.now ∧ (tickTo B v k).svcs = B.svcs ∧ (tickTo B v k).bts = B.bts ∧ (tickTo B v k).cps.length = (leftL v B.cps).length
 | 0 => ⟨rfl, rfl, rfl, rfl⟩
 | k + 1 => by
  rw [tickTo_succ]
  obtain ⟨h1, h2, h3, h4⟩ := placeAt_same v (tickTo B v k) k
  obtain ⟨q1, q2, q3, q4⟩ := tickTo_same B v k
  exact ⟨h1.trans q1, h2.trans q2, h3.trans q3, h4.trans q4⟩
end Go.Proofs.YtbceafpodamnfabGreat

namespace Go.Proofs.YtbceafpodamnfabGreat
open Go Go.RowKit
section
variable {P : Program} {ops : Array Oper} {md : Region.Mode} {Q : Exit → Act → World → Prop}
def putAll (ops : Array Oper) (V : Nat → Value) : Nat → Act → Act
 | 0, a => a
 | n + 1, a => (putAll ops V n a).put ((ops[n]?).bind (·.dst)) (V n)
def upd (V : Nat → Value) (i : Nat) (v : Value) : Nat → Value := fun j => if j = i then v else V j
theorem put_put (a : Act) (d : Option Tmp) (u v : Value) : (a.put d u).put d v = a.put d v := by
 cases d <;> simp [Act.put]
theorem putAll_off (V : Nat → Value) (i : Nat) (v : Value) (a : Act) : ∀ n, n ≤ i → putAll ops (upd V i v) n a = putAll ops V n a
 | 0, _ => rfl
 | n + 1, h => by
  have e : upd V i v n = V n := by simp [upd]; omega
  simp only [putAll, e, putAll_off V i v a n (by omega)]
def ownDst (ops : Array Oper) (n : Nat) : Bool :=
 (List.range n).all fun j => (List.range j).all fun i => match (ops[i]?).bind (·.dst) with
  | some d => (ops[j]?).bind (·.dst) != some d
  | none => true
theorem ownDst_spec {n : Nat} (h : ownDst ops n = true) {i j : Nat} (hij : i < j) (hj : j < n) : ∀ d, (ops[i]?).bind (·.dst) = some d → (ops[j]?).bind (·.dst) ≠ some d := by
 intro d hd
 have h1 := List.all_eq_true.1 (List.all_eq_true.1 h j (List.mem_range.2 hj)) i (List.mem_range.2 hij)
 rw [hd] at h1
 simpa using h1
theorem putAll_upd {V : Nat → Value} {i : Nat} {v : Value} {a : Act} : ∀ {n : Nat}, ownDst ops n = true → i < n → (putAll ops V n a).put ((ops[i]?).bind (·.dst)) v = putAll ops (upd V i v) n a
 | 0, _, h => absurd h (by omega)
 | n + 1, ho, h => by
  have ho' : ownDst ops n = true := by
   unfold ownDst at ho ⊢
   refine List.all_eq_true.2 fun j hj => List.all_eq_true.1 ho j (List.mem_range.2 (by have := List.mem_range.1 hj; omega))
  by_cases hi : i = n
  ·subst hi
   simp only [putAll, put_put, putAll_off V i v a i (Nat.le_refl _)]
   simp [upd]
  ·have e : upd V i v n = V n := by simp [upd]; omega
   simp only [putAll, e]
   rw [← putAll_upd (V := V) (i := i) (v := v) (a := a) ho' (by omega)]
   exact (Act.put_comm _ _ _ (ownDst_spec ho (by omega) (by omega))).symm
theorem putAll_self (a : Act) (n : Nat) : putAll ops (fun j => match (ops[j]?).bind (·.dst) with | some d => a.tmps.getD d undef | none => undef) n a = a := by
 induction n with
 | zero => rfl
 | succ n ih =>
  simp only [putAll, ih]
  cases (ops[n]?).bind (·.dst) with
  | none => rfl
  | some d =>
   simp only [Act.put]
   congr 1
   apply Array.ext
   ·simp
   ·intro i h1 h2
    by_cases hid : d = i
    ·subst hid; simp [h2]
    ·rw [Array.getElem_setIfInBounds_ne (h := hid)]
def leftOf (n : Nat) (listed : Array Bool) : Nat := (List.range n).countP fun i => !listed.getD i true
theorem countP_but (p : Nat → Bool) (i : Nat) (hp : p i = true) : ∀ l : List Nat, l.Nodup → i ∈ l → l.countP p = l.countP (fun j => p j && j != i) + 1
 | [], _, h => by cases h
 | x :: l, hn, h => by
  rw [List.nodup_cons] at hn
  by_cases hx : x = i
  ·subst hx
   have : l.countP (fun j => p j && j != x) = l.countP p := by
    refine List.countP_congr fun j hj => ?_
    have : j ≠ x := fun e => hn.1 (e ▸ hj)
    simp [this]
   rw [List.countP_cons, List.countP_cons, this]
   simp [hp]
  ·have hm : i ∈ l := by rcases List.mem_cons.1 h with h | h; exact absurd h.symm hx; exact h
   have ih := countP_but p i hp l hn.2 hm
   rw [List.countP_cons, List.countP_cons, ih]
   have : (x != i) = true := by simpa using hx
   rw [this, Bool.and_true]
   omega
theorem leftOf_set {n i : Nat} {listed : Array Bool} (hi : i < n) (hs : i < listed.size) (hu : listed.getD i true = false) : leftOf n listed = leftOf n (listed.setIfInBounds i true) + 1 := by
 unfold leftOf
 rw [countP_but _ i (by simp only [hu]; rfl) _ List.nodup_range (List.mem_range.2 hi)]
 congr 1
 refine List.countP_congr fun j hj => ?_
 by_cases hji : j = i
 ·subst hji
  have : (listed.setIfInBounds j true).getD j true = true := by simp [hs]
  simp
 ·rw [getD_set_ne true (Ne.symm hji)]
  simp [hji]
def depsB (md : Region.Mode) (ops : Array Oper) (n : Nat) : Bool :=
 (List.range n).all fun i => match ops[i]? with
  | some o => o.after.all fun e => !Region.binds md e || decide (e.on < i)
  | none => false
def firstN (ops : Array Oper) (n : Nat) : Array Bool := Array.ofFn (n := ops.size) fun i => decide (i.val < n)
theorem listed_firstN {n : Nat} {listed : Array Bool} (inv : HeadInv md ops n listed) (hall : ∀ i, i < n → listed.getD i true = true) : listed = firstN ops n := by
 apply Array.ext
 ·simp [firstN, inv.size]
 ·intro i h1 h2
  simp only [firstN, Array.getElem_ofFn]
  by_cases hi : i < n
  ·have := hall i hi
   simp [h1] at this
   simp [this, hi]
  ·have := inv.tail i (by omega) (by rw [← inv.size]; exact h1)
   simp [h1] at this
   simp [this, hi]
theorem least_ready {n : Nat} {listed : Array Bool} (hdB : depsB md ops n = true) (inv : HeadInv md ops n listed) : ∀ (i : Nat), i < n → listed.getD i true = false → Region.ready md ops listed ≠ [] := by
 intro i
 induction i using Nat.strongRecOn with
 | _ i ih =>
  intro hi hu
  have h1 := List.all_eq_true.1 hdB i (List.mem_range.2 hi)
  cases ho : ops[i]? with
  | none => rw [ho] at h1; cases h1
  | some o =>
   rw [ho] at h1
   by_cases hall : ∀ e ∈ o.after, Region.binds md e = true → listed.getD e.on false = true
   ·have : i ∈ Region.ready md ops listed := mem_ready.2 ⟨hu, o, ho, hall⟩
    intro h; rw [h] at this; cases this
   ·simp only [Classical.not_forall] at hall
    obtain ⟨e, he, hb, hl⟩ := hall
    have h2 := Array.all_eq_true'.1 h1 e he
    rw [hb] at h2
    have h3 : e.on < i := by simpa using h2
    refine ih e.on h3 (by omega) ?_
    have hsz : e.on < listed.size := by
     have := (Array.getElem?_eq_some_iff.1 ho).1
     rw [inv.size]; omega
    exact getD_in hsz (by simpa using hl)
def KPost (K : Act → World → Prop) : Exit → Act → World → Prop
 | .normal, a, w => K a w
 | _, _, _ => False
theorem Oper.wp_only {o : Oper} {a : Act} {w : World} {L K : Act → World → Prop} (hh : o.wp P a w L (KPost K)) : o.wp P a w L Q := by
 unfold Oper.wp at *
 generalize (execOp a.eval o).run P w = r at *
 cases r with
 | ok n w' =>
  cases n <;> simp only [Oper.upon] at hh ⊢ <;>
   first
    | exact hh
    | exact Calls.mono hh (fun e w'' he => by cases e <;> first | exact he | exact False.elim he | exact (let ⟨_, _, h⟩ := he; False.elim h))
 | halt x w' => cases x <;> simp only [Oper.upon] at hh ⊢ <;> first | exact hh | exact False.elim hh
theorem wpOp_of_list {i : Nat} {o : Oper} {a : Act} {W : World} {K : Act → World → Prop} (hi : ops[i]? = some o) (h : wpList P ops (KPost K) [o] a W) : wpOp P ops Q i K a W := by
 unfold wpOp
 simp only [hi]
 simp only [wpList] at h
 split at h
 ·rename_i hw
  rw [if_pos hw]
  rcases h with h | ⟨_, _, _, h2⟩
  ·exact .inl (Oper.wp_only (Go.Oper.wp_mono (fun _ _ h => h) h))
  ·exact False.elim h2
 ·rename_i hw
  rw [if_neg hw]
  exact h
def GrowOp (P : Program) (ops : Array Oper) (a0 : Act) (n : Nat) (w0 : World) (S : Nat → Value → World → Prop) (i : Nat) (o : Oper) (T : Value → World → Prop) : Prop :=
 ∀ (V : Nat → Value) (W : World) (K : Act → World → Prop), Below w0.heap.size w0 W → (∀ j, Region.waitsFor .any ops i j = true → S j (V j) W) →
  Hid (∀ v W', Below W.heap.size W W' → T v W' → K ((putAll ops V n a0).put o.dst v) W') → wpList P ops (KPost K) [o] (putAll ops V n a0) W
def Lasts (T : Value → World → Prop) : Prop := ∀ v W W', T v W → Below W.heap.size W W' → T v W'
theorem wpAny_grow {n g : Nat} {S : Nat → Value → World → Prop} {w0 : World} {a0 : Act}
  (hw : ∀ listed, HeadInv .any ops n listed → ∀ i, i < n → listed.getD i true = false → ∀ t, n ≤ t → t ∉ Region.ready .any ops listed)
  (hn : n ≤ ops.size) (hdB : depsB .any ops n = true) (hd : ownDst ops n = true)
  (hst : ∀ j, Lasts (S j))
  (hop : ∀ i o, i < n → ops[i]? = some o → GrowOp P ops a0 n w0 S i o (S i))
  (hlast : ∀ V W, Below w0.heap.size w0 W → (∀ j, j < n → S j (V j) W) → wpAny P .any ops Q g (firstN ops n) (putAll ops V n a0) W) :
  ∀ (m : Nat) (listed : Array Bool) (V : Nat → Value) (W : World), HeadInv .any ops n listed → leftOf n listed = m → Below w0.heap.size w0 W → (∀ j, j < n → listed.getD j false = true → S j (V j) W) →
   wpAny P .any ops Q (m + g) listed (putAll ops V n a0) W
 | 0, listed, V, W, inv, hm, hb, hS => by
  have hall : ∀ i, i < n → listed.getD i true = true := by
   intro i hi
   have := List.countP_eq_zero.1 hm i (List.mem_range.2 hi)
   simpa using this
  rw [listed_firstN inv hall, Nat.zero_add]
  refine hlast V W hb fun j hj => hS j hj ?_
  have := hall j hj
  have hjs : j < listed.size := by rw [inv.size]; omega
  simp [hjs] at this ⊢
  exact this
 | m + 1, listed, V, W, inv, hm, hb, hS => by
  obtain ⟨u, hu, hul⟩ : ∃ u, u < n ∧ listed.getD u true = false := by
   have : 0 < leftOf n listed := by omega
   obtain ⟨u, hu, hul⟩ := List.countP_pos_iff.1 this
   exact ⟨u, List.mem_range.1 hu, by simpa using hul⟩
  rw [show m + 1 + g = (m + g) + 1 by omega]
  refine ⟨fun h0 => absurd h0 (least_ready hdB inv u hu hul), fun i hi => ?_⟩
  have hin : i < n := by
   rcases Nat.lt_or_ge i n with h | h
   ·exact h
   ·exact absurd hi (hw listed inv u hu hul i h)
  obtain ⟨hun, o, ho, hall⟩ := mem_ready.1 hi
  refine wpOp_of_list ho (hop i o hin ho V W _ hb (fun j hj => ?_) fun v W' hb' hs' => ?_)
  ·obtain ⟨oj, hoj, e, he, hbd, hon⟩ := Region.waitsFor_spec hj
   have : oj = o := Option.some.inj (hoj.symm.trans ho)
   subst this
   have hl := hall e he hbd
   rw [hon] at hl
   have hlt : j < n := by
    have h1 := List.all_eq_true.1 hdB i (List.mem_range.2 hin)
    rw [ho] at h1
    have h2 := Array.all_eq_true'.1 h1 e he
    rw [hbd] at h2
    have h3 : e.on < i := by simpa using h2
    omega
   exact hS j hlt hl
  ·have hdst : o.dst = (ops[i]?).bind (·.dst) := by rw [ho]; rfl
   rw [hdst, putAll_upd hd hin]
   have his : i < listed.size := by rw [inv.size]; exact (Array.getElem?_eq_some_iff.1 ho).1
   refine wpAny_grow hw hn hdB hd hst hop hlast m _ _ W' (inv.set hi hin) (by have := leftOf_set hin his hun; omega) (hb.trans ⟨hb'.os, hb'.tape, hb'.output, hb'.size, fun k hk => hb'.block k (Nat.lt_of_lt_of_le hk hb.size)⟩) fun j hj hl => ?_
   by_cases hji : j = i
   ·subst hji
    simpa [upd] using hs'
   ·rw [getD_set_ne false (Ne.symm hji)] at hl
    have := hst j (V j) W W' (hS j hj hl) hb'
    simpa [upd, hji] using this
def growTailB (ops : Array Oper) (n : Nat) : Bool :=
 decide (n < ops.size) && Region.sinkB .any ops n && Region.chainB .any ops n && depsB .any ops n && ownDst ops n && Region.seqB .any ops (ops.size - n) n (firstN ops n)
theorem wp_region_grow {id : Nat} {a : Act} {w : World} {l : List Oper} (n : Nat) (S : Nat → Value → World → Prop) (hm : P.follows .mixedOrders = true) (hB : growTailB l.toArray n = true)
  (hst : ∀ j, Lasts (S j)) (hop : ∀ i o, i < n → l.toArray[i]? = some o → GrowOp P l.toArray a n w S i o (S i))
  (hlast : ∀ V W, Below w.heap.size w W → (∀ j, j < n → S j (V j) W) → wpList P l.toArray Q (l.drop n) (putAll l.toArray V n a) W) : (Code.region id l.toArray true).wp P Q a w := by
 simp only [growTailB, Bool.and_eq_true, decide_eq_true_eq] at hB
 obtain ⟨⟨⟨⟨⟨hn, hs⟩, hc⟩, hdB⟩, hd⟩, hseq⟩ := hB
 refine wp_region_any hm ?_
 have inv0 : HeadInv .any l.toArray n (Array.replicate l.toArray.size false) :=
  ⟨by simp, fun j oj _ hl => (by rw [getD_replicate_false] at hl; cases hl), fun t _ ht => getD_in (by simpa using ht) (getD_replicate_false _ _)⟩
 have hb0 : Below w.heap.size w { w with drawn := w.drawn + 1 } := ⟨rfl, rfl, rfl, Nat.le_refl _, fun _ _ => rfl⟩
 have hleft : leftOf n (Array.replicate l.toArray.size false) = n := by
  unfold leftOf
  rw [List.countP_eq_length.2]
  ·simp
  ·intro i hi
   have : i < l.toArray.size := by have := List.mem_range.1 hi; omega
   rw [getD_in (by simpa using this) (getD_replicate_false _ _)]
   rfl
 have H := wpAny_grow (P := P) (Q := Q) (g := l.toArray.size - n) (S := S) (w0 := w) (a0 := a) (fun listed inv i hi hu t ht => tail_waits hs hc hn inv _ i rfl hi hu t ht) (by omega) hdB hd hst hop
  (fun V W hb hS => by
   have hdl : (l.drop n).length = l.toArray.size - n := by simp
   have := wpAny_of_seq (md := .any) (Q' := Q) (l.drop n) n (firstN l.toArray n) _ W (fun j => by simp [List.getElem?_drop]) (by rw [hdl]; exact hseq) (hlast V W hb hS)
   rwa [hdl] at this)
  n _ (fun j => match (l.toArray[j]?).bind (·.dst) with | some d => a.tmps.getD d undef | none => undef) { w with drawn := w.drawn + 1 } inv0 hleft hb0 (fun j _ hl => by rw [getD_replicate_false] at hl; cases hl)
 rw [putAll_self, show n + (l.toArray.size - n) = l.toArray.size by omega] at H
 exact H
def updS (S : Nat → Value → World → Prop) (i : Nat) (T : Value → World → Prop) : Nat → Value → World → Prop := fun j => match Nat.beq j i with
 | true => T
 | false => S j
def growFrom (P : Program) (ops : Array Oper) (a0 : Act) (n : Nat) (w0 : World) (L : (Nat → Value → World → Prop) → Prop) : List Oper → Nat → (Nat → Value → World → Prop) → Prop
 | [], _, S => L S
 | o :: rest, i, S => ∃ T, Lasts T ∧ GrowOp P ops a0 n w0 S i o T ∧ growFrom P ops a0 n w0 L rest (i + 1) (updS S i T)
theorem grow_op {a0 : Act} {n : Nat} {w0 : World} {L : (Nat → Value → World → Prop) → Prop} {o : Oper} {rest : List Oper} {i : Nat} {S : Nat → Value → World → Prop} (T : Value → World → Prop) (hT : Lasts T)
  (h : ∀ (V : Nat → Value) (W : World) (K : Act → World → Prop) (A : Act), Below w0.heap.size w0 W → (∀ j, Region.waitsFor .any ops i j = true → S j (V j) W) → Hid (A = putAll ops V n a0) →
   Hid (∀ v W', Below W.heap.size W W' → T v W' → K (A.put o.dst v) W') → wpList P ops (KPost K) [o] A W)
  (hr : growFrom P ops a0 n w0 L rest (i + 1) (updS S i T)) : growFrom P ops a0 n w0 L (o :: rest) i S := ⟨T, hT, fun V W K hb hd hK => h V W K _ hb hd rfl hK, hr⟩
theorem grow_eq {a0 : Act} {n : Nat} {w0 : World} {L : (Nat → Value → World → Prop) → Prop} {o : Oper} {rest : List Oper} {i : Nat} {S : Nat → Value → World → Prop} {u : Value}
  (h : ∀ (V : Nat → Value) (W : World) (K : Act → World → Prop) (A : Act), Below w0.heap.size w0 W → (∀ j, Region.waitsFor .any ops i j = true → S j (V j) W) → Hid (A = putAll ops V n a0) →
   Hid (∀ W', Below W.heap.size W W' → K (A.put o.dst u) W') → wpList P ops (KPost K) [o] A W)
  (hr : growFrom P ops a0 n w0 L rest (i + 1) (updS S i fun v _ => v = u)) : growFrom P ops a0 n w0 L (o :: rest) i S :=
 ⟨fun v _ => v = u, fun _ _ _ h _ => h, fun V W K hb hd hK => h V W K _ hb hd rfl fun W' hb' => hK.out u W' hb' rfl, hr⟩
theorem updS_self (S : Nat → Value → World → Prop) (i : Nat) (T : Value → World → Prop) : updS S i T i = T := by simp [updS]
theorem updS_ne (S : Nat → Value → World → Prop) {i j : Nat} (T : Value → World → Prop) (h : j ≠ i) : updS S i T j = S j := by
 have : Nat.beq j i = false := by
  cases hb : Nat.beq j i with
  | false => rfl
  | true => exact absurd (Nat.eq_of_beq_eq_true hb) h
 simp [updS, this]
theorem growFrom_out {a0 : Act} {n : Nat} {w0 : World} {L : (Nat → Value → World → Prop) → Prop} (hdB : depsB .any ops n = true) : ∀ (l : List Oper) (k : Nat) (S : Nat → Value → World → Prop), k + l.length = n → (∀ j, j < l.length → l[j]? = ops[k + j]?) →
  (∀ j, Lasts (S j)) → (∀ i o, i < k → ops[i]? = some o → GrowOp P ops a0 n w0 S i o (S i)) → growFrom P ops a0 n w0 L l k S →
  ∃ S', (∀ j, Lasts (S' j)) ∧ (∀ i o, i < n → ops[i]? = some o → GrowOp P ops a0 n w0 S' i o (S' i)) ∧ L S'
 | [], k, S, hk, _, hl, hop, h => ⟨S, hl, by rw [show n = k by simpa using hk.symm]; rw [show n = k by simpa using hk.symm] at hop; exact hop, h⟩
 | o :: l, k, S, hk, hs, hl, hop, ⟨T, hT, ho, h⟩ => by
  have h0 : ops[k]? = some o := by simpa using (hs 0 (by simp)).symm
  have dep : ∀ i j, i < n → Region.waitsFor .any ops i j = true → j < i := fun i j hi hj => by
   obtain ⟨oj, hoj, e, he, hbd, hon⟩ := Region.waitsFor_spec hj
   have h1 := List.all_eq_true.1 hdB i (List.mem_range.2 hi)
   rw [hoj] at h1
   have h2 := Array.all_eq_true'.1 h1 e he
   rw [hbd] at h2
   have h3 : e.on < i := by simpa using h2
   omega
  have hkn : k < n := by simp only [List.length_cons] at hk; omega
  refine growFrom_out hdB l (k + 1) _ (by simp only [List.length_cons] at hk; omega) (fun j hj => by have := hs (j + 1) (by simp; omega); simpa [Nat.add_assoc, Nat.add_comm 1 j] using this) (fun j => ?_) (fun i o' hi hi' => ?_) h
  ·by_cases e : j = k
   ·subst e; rw [updS_self]; exact hT
   ·rw [updS_ne _ _ e]; exact hl j
  ·by_cases e : i = k
   ·subst e
    have : o' = o := Option.some.inj (hi'.symm.trans h0)
    subst this
    rw [updS_self]
    exact fun V W K hb hd hK => ho V W K hb (fun j hj => by have := hd j hj; rwa [updS_ne _ _ (by have := dep i j hkn hj; omega)] at this) hK
   ·rw [updS_ne _ _ e]
    exact fun V W K hb hd hK => hop i o' (by omega) hi' V W K hb (fun j hj => by have := hd j hj; rwa [updS_ne _ _ (by have := dep i j (by omega) hj; omega)] at this) hK
theorem wp_region_grows {id : Nat} {a : Act} {w : World} {l : List Oper} (n : Nat) (hm : P.follows .mixedOrders = true) (hB : growTailB l.toArray n = true)
  (h : growFrom P l.toArray a n w (fun S => ∀ V W A, Below w.heap.size w W → (∀ j, j < n → S j (V j) W) → Hid (A = putAll l.toArray V n a) → wpList P l.toArray Q (l.drop n) A W) (l.take n) 0 fun _ _ _ => True) : (Code.region id l.toArray true).wp P Q a w := by
 have hB' := hB
 simp only [growTailB, Bool.and_eq_true, decide_eq_true_eq] at hB'
 obtain ⟨⟨⟨⟨⟨hn, _⟩, _⟩, hdB⟩, _⟩, _⟩ := hB'
 have hn' : n < l.length := by simpa using hn
 obtain ⟨S, h1, h2, h3⟩ := growFrom_out hdB (l.take n) 0 _ (by simp; omega) (fun j hj => by
  have : j < n := by simp at hj; omega
  simp [this]) (fun _ _ _ _ _ _ => trivial) (fun i o hi => absurd hi (by omega)) h
 exact wp_region_grow n S hm hB h1 h2 fun V W hb hS => h3 V W _ hb hS rfl
end
end Go.Proofs.YtbceafpodamnfabGreat

namespace Go.Proofs.YtbceafpodamnfabGreat
open Go.RowKit Go.Sort
set_option maxRecDepth 100000 in
set_option maxHeartbeats 16000000 in
theorem l6Least_any (B : Bk) (a1 a2 a3 : Option Addr) (c1 c2 c3 : Nat) (w : World) (hS : B.small) (hB : BkAt w a1 a2 a3 B) :
  Calls Tryz.prog 123 #[.agg #[.int .i64 B.now, .slice a1 B.svcs.length c1, .slice a2 B.cps.length c2, .slice a3 B.bts.length c3]] w fun e w' => e = .returned (.string (leastB B)) ∧ Below w.heap.size w w' := by
 obtain ⟨hl1, hl2, hl3⟩ := hS
 have hb0 := below_box w (.cells #[.int .i64 B.now, .slice a1 B.svcs.length c1, .slice a2 B.cps.length c2, .slice a3 B.bts.length c3] 34)
 have T0 : Hid _ := heap_alloc_new w (.cells #[.int .i64 B.now, .slice a1 B.svcs.length c1, .slice a2 B.cps.length c2, .slice a3 B.bts.length c3] 34)
 go_enter Tryz.func123, Tryz.ntmps123
 go_wp2
 go_loopw [3, 4, 5] (fun bv lv iv wr => ∃ (k : Nat) (bn : ByteArray) (ls : Int), k ≤ B.bts.length ∧ iv = .int .i64 k ∧ bv = .string bn ∧ lv = .int .i64 ls ∧ Hid ((bn, ls) = leastTo B k) ∧ 0 ≤ ls ∧ ls ≤ 1048576 ∧ Below w.heap.size w wr ∧ Hid (wr.heap[w.heap.size]? = some (.cells #[.int .i64 B.now, .slice a1 B.svcs.length c1, .slice a2 B.cps.length c2, .slice a3 B.bts.length c3] 34 (0, 0)))) (fun _ _ i _ => B.bts.length - (intOf i).toNat)
 case atStart => exact ⟨0, ⟨#[]⟩, 0, by omega, rfl, rfl, rfl, rfl, by omega, by omega, hb0, T0⟩
 case round =>
  clear hb0 T0
  obtain ⟨k, bn, ls, hk, rfl, rfl, rfl, HP, hs0, hs1, hb, HX⟩ := hrel
  have hzx : w.heap.size < wr.heap.size := (Array.getElem?_eq_some_iff.1 HX.out).1
  have e3 := blk_cell HX.out 3 rfl
  by_cases hlt : k < B.bts.length
  ·obtain ⟨t, htk⟩ : ∃ t, B.bts[k]? = some t := ⟨B.bts[k], by simp [hlt]⟩
   have HPS : Hid (leastTo B (k + 1) = leastS B (bn, ls) t) := by unfold Hid; rw [leastTo_succ htk, ← HP.out]
   have hne : B.bts ≠ [] := by intro h; rw [h] at hlt; simp at hlt
   obtain ⟨bT, oT, ea, hbT0, hatT⟩ := (hB.below hb).2.2 hne
   subst ea
   have htx0 := hatT k t htk
   clear htk hne hatT
   go_wp2
   clear e3
   go_loopw [6, 7] (fun nv iv wq => ∃ (m : Nat) (n : Int), m ≤ B.cps.length ∧ iv = .int .i64 m ∧ nv = .int .i64 n ∧ Hid (n = standTo B t.name m) ∧ 0 ≤ n ∧ n ≤ m ∧ Below wr.heap.size wr wq ∧ Hid (wq.heap[w.heap.size]? = some (.cells #[.int .i64 B.now, .slice a1 B.svcs.length c1, .slice a2 B.cps.length c2, .slice (some ⟨bT, oT, none⟩) B.bts.length c3] 34 (0, 0)))) (fun _ i _ => B.cps.length - (intOf i).toNat)
   case atStart => exact ⟨0, 0, by omega, rfl, rfl, rfl, by omega, by omega, Below.refl _ _, HX⟩
   case round =>
    rename_i wr0 _
    obtain ⟨m, n, hm, rfl, rfl, HN, hn0, hn1, hbq, HQ⟩ := hrel
    have hzq : w.heap.size < wr.heap.size := (Array.getElem?_eq_some_iff.1 HQ.out).1
    have hbT : bT < wr.heap.size := Nat.lt_of_lt_of_le hbT0 hbq.size
    have htx := htx0.below hbq hbT0
    by_cases hlm : m < B.cps.length
    ·obtain ⟨c, hcm⟩ : ∃ c, B.cps[m]? = some c := ⟨B.cps[m], by simp [hlm]⟩
     have HNS : Hid (standTo B t.name (m + 1) = addB (c.berth.toList == t.name.toList) n) := by unfold Hid; rw [standTo_succ hcm, ← HN.out]
     have hne : B.cps ≠ [] := by intro h; rw [h] at hlm; simp at hlm
     obtain ⟨bC, oC, ea, hbC, hatC⟩ := ((hB.below hb).below hbq).2.1 hne
     subst ea
     have hcx := hatC m c hcm
     clear hcm hne hatC
     have e2 := blk_cell HQ.out 2 rfl
     go_wp2
     clear e2
     ·skip
      refine wp_region_grows 12 (by kernel_rfl) (by kernel_rfl) ?_
      apply grow_eq
      ·intro V W K A hW hd hA hK
       simp only [putAll, List.getElem?_toArray, List.getElem?_cons_succ, List.getElem?_cons_zero, Option.bind_some, Act.put, List.setIfInBounds_toArray, List.set_cons_succ, List.set_cons_zero] at hA
       clear hd
       generalize V 0 = x0 at hA
       generalize V 1 = x1 at hA
       generalize V 2 = x2 at hA
       generalize V 3 = x3 at hA
       generalize V 4 = x4 at hA
       generalize V 5 = x5 at hA
       generalize V 6 = x6 at hA
       generalize V 7 = x7 at hA
       generalize V 8 = x8 at hA
       generalize V 9 = x9 at hA
       generalize V 10 = x10 at hA
       generalize V 11 = x11 at hA
       obtain rfl := hA
       go_wp2
       exact hK.out _ (Below.refl _ _)
      apply grow_eq
      ·intro V W K A hW hd hA hK
       have d0 : V 0 = _ := hd 0 (by kernel_rfl)
       simp only [putAll, List.getElem?_toArray, List.getElem?_cons_succ, List.getElem?_cons_zero, Option.bind_some, Act.put, List.setIfInBounds_toArray, List.set_cons_succ, List.set_cons_zero] at hA
       clear hd
       generalize V 0 = x0 at d0 hA
       generalize V 1 = x1 at hA
       generalize V 2 = x2 at hA
       generalize V 3 = x3 at hA
       generalize V 4 = x4 at hA
       generalize V 5 = x5 at hA
       generalize V 6 = x6 at hA
       generalize V 7 = x7 at hA
       generalize V 8 = x8 at hA
       generalize V 9 = x9 at hA
       generalize V 10 = x10 at hA
       generalize V 11 = x11 at hA
       subst d0
       obtain rfl := hA
       have e2 := blk_cell (below_blk hW HQ.out hzq) 2 rfl
       go_wp2
       exact hK.out _ (Below.refl _ _)
      apply grow_eq
      ·intro V W K A hW hd hA hK
       simp only [putAll, List.getElem?_toArray, List.getElem?_cons_succ, List.getElem?_cons_zero, Option.bind_some, Act.put, List.setIfInBounds_toArray, List.set_cons_succ, List.set_cons_zero] at hA
       clear hd
       generalize V 0 = x0 at hA
       generalize V 1 = x1 at hA
       generalize V 2 = x2 at hA
       generalize V 3 = x3 at hA
       generalize V 4 = x4 at hA
       generalize V 5 = x5 at hA
       generalize V 6 = x6 at hA
       generalize V 7 = x7 at hA
       generalize V 8 = x8 at hA
       generalize V 9 = x9 at hA
       generalize V 10 = x10 at hA
       generalize V 11 = x11 at hA
       obtain rfl := hA
       go_wp2
       exact hK.out _ (Below.refl _ _)
      apply grow_eq
      ·intro V W K A hW hd hA hK
       have d1 : V 1 = _ := hd 1 (by kernel_rfl)
       have d2 : V 2 = _ := hd 2 (by kernel_rfl)
       simp only [putAll, List.getElem?_toArray, List.getElem?_cons_succ, List.getElem?_cons_zero, Option.bind_some, Act.put, List.setIfInBounds_toArray, List.set_cons_succ, List.set_cons_zero] at hA
       clear hd
       generalize V 0 = x0 at hA
       generalize V 1 = x1 at d1 hA
       generalize V 2 = x2 at d2 hA
       generalize V 3 = x3 at hA
       generalize V 4 = x4 at hA
       generalize V 5 = x5 at hA
       generalize V 6 = x6 at hA
       generalize V 7 = x7 at hA
       generalize V 8 = x8 at hA
       generalize V 9 = x9 at hA
       generalize V 10 = x10 at hA
       generalize V 11 = x11 at hA
       subst d1
       subst d2
       obtain rfl := hA
       go_wp2
       exact hK.out _ (Below.refl _ _)
      apply grow_eq
      ·intro V W K A hW hd hA hK
       have d3 : V 3 = _ := hd 3 (by kernel_rfl)
       simp only [putAll, List.getElem?_toArray, List.getElem?_cons_succ, List.getElem?_cons_zero, Option.bind_some, Act.put, List.setIfInBounds_toArray, List.set_cons_succ, List.set_cons_zero] at hA
       clear hd
       generalize V 0 = x0 at hA
       generalize V 1 = x1 at hA
       generalize V 2 = x2 at hA
       generalize V 3 = x3 at d3 hA
       generalize V 4 = x4 at hA
       generalize V 5 = x5 at hA
       generalize V 6 = x6 at hA
       generalize V 7 = x7 at hA
       generalize V 8 = x8 at hA
       generalize V 9 = x9 at hA
       generalize V 10 = x10 at hA
       generalize V 11 = x11 at hA
       subst d3
       obtain rfl := hA
       go_wp2
       exact hK.out _ (Below.refl _ _)
      apply grow_eq
      ·intro V W K A hW hd hA hK
       have d4 : V 4 = _ := hd 4 (by kernel_rfl)
       simp only [putAll, List.getElem?_toArray, List.getElem?_cons_succ, List.getElem?_cons_zero, Option.bind_some, Act.put, List.setIfInBounds_toArray, List.set_cons_succ, List.set_cons_zero] at hA
       clear hd
       generalize V 0 = x0 at hA
       generalize V 1 = x1 at hA
       generalize V 2 = x2 at hA
       generalize V 3 = x3 at hA
       generalize V 4 = x4 at d4 hA
       generalize V 5 = x5 at hA
       generalize V 6 = x6 at hA
       generalize V 7 = x7 at hA
       generalize V 8 = x8 at hA
       generalize V 9 = x9 at hA
       generalize V 10 = x10 at hA
       generalize V 11 = x11 at hA
       subst d4
       obtain rfl := hA
       have hq := hcx.below hW hbC
       unfold CpAt at hq
       obtain ⟨z0, z1, z2, z3, z4, z5, z6⟩ := hq
       go_wp2
       exact hK.out _ (Below.refl _ _)
      apply grow_eq
      ·intro V W K A hW hd hA hK
       simp only [putAll, List.getElem?_toArray, List.getElem?_cons_succ, List.getElem?_cons_zero, Option.bind_some, Act.put, List.setIfInBounds_toArray, List.set_cons_succ, List.set_cons_zero] at hA
       clear hd
       generalize V 0 = x0 at hA
       generalize V 1 = x1 at hA
       generalize V 2 = x2 at hA
       generalize V 3 = x3 at hA
       generalize V 4 = x4 at hA
       generalize V 5 = x5 at hA
       generalize V 6 = x6 at hA
       generalize V 7 = x7 at hA
       generalize V 8 = x8 at hA
       generalize V 9 = x9 at hA
       generalize V 10 = x10 at hA
       generalize V 11 = x11 at hA
       obtain rfl := hA
       go_wp2
       exact hK.out _ (Below.refl _ _)
      apply grow_eq
      ·intro V W K A hW hd hA hK
       have d6 : V 6 = _ := hd 6 (by kernel_rfl)
       simp only [putAll, List.getElem?_toArray, List.getElem?_cons_succ, List.getElem?_cons_zero, Option.bind_some, Act.put, List.setIfInBounds_toArray, List.set_cons_succ, List.set_cons_zero] at hA
       clear hd
       generalize V 0 = x0 at hA
       generalize V 1 = x1 at hA
       generalize V 2 = x2 at hA
       generalize V 3 = x3 at hA
       generalize V 4 = x4 at hA
       generalize V 5 = x5 at hA
       generalize V 6 = x6 at d6 hA
       generalize V 7 = x7 at hA
       generalize V 8 = x8 at hA
       generalize V 9 = x9 at hA
       generalize V 10 = x10 at hA
       generalize V 11 = x11 at hA
       subst d6
       obtain rfl := hA
       have e3 := blk_cell (below_blk hW HQ.out hzq) 3 rfl
       go_wp2
       exact hK.out _ (Below.refl _ _)
      apply grow_eq
      ·intro V W K A hW hd hA hK
       simp only [putAll, List.getElem?_toArray, List.getElem?_cons_succ, List.getElem?_cons_zero, Option.bind_some, Act.put, List.setIfInBounds_toArray, List.set_cons_succ, List.set_cons_zero] at hA
       clear hd
       generalize V 0 = x0 at hA
       generalize V 1 = x1 at hA
       generalize V 2 = x2 at hA
       generalize V 3 = x3 at hA
       generalize V 4 = x4 at hA
       generalize V 5 = x5 at hA
       generalize V 6 = x6 at hA
       generalize V 7 = x7 at hA
       generalize V 8 = x8 at hA
       generalize V 9 = x9 at hA
       generalize V 10 = x10 at hA
       generalize V 11 = x11 at hA
       obtain rfl := hA
       go_wp2
       exact hK.out _ (Below.refl _ _)
      apply grow_eq
      ·intro V W K A hW hd hA hK
       have d7 : V 7 = _ := hd 7 (by kernel_rfl)
       have d8 : V 8 = _ := hd 8 (by kernel_rfl)
       simp only [putAll, List.getElem?_toArray, List.getElem?_cons_succ, List.getElem?_cons_zero, Option.bind_some, Act.put, List.setIfInBounds_toArray, List.set_cons_succ, List.set_cons_zero] at hA
       clear hd
       generalize V 0 = x0 at hA
       generalize V 1 = x1 at hA
       generalize V 2 = x2 at hA
       generalize V 3 = x3 at hA
       generalize V 4 = x4 at hA
       generalize V 5 = x5 at hA
       generalize V 6 = x6 at hA
       generalize V 7 = x7 at d7 hA
       generalize V 8 = x8 at d8 hA
       generalize V 9 = x9 at hA
       generalize V 10 = x10 at hA
       generalize V 11 = x11 at hA
       subst d7
       subst d8
       obtain rfl := hA
       go_wp2
       exact hK.out _ (Below.refl _ _)
      apply grow_eq
      ·intro V W K A hW hd hA hK
       have d9 : V 9 = _ := hd 9 (by kernel_rfl)
       simp only [putAll, List.getElem?_toArray, List.getElem?_cons_succ, List.getElem?_cons_zero, Option.bind_some, Act.put, List.setIfInBounds_toArray, List.set_cons_succ, List.set_cons_zero] at hA
       clear hd
       generalize V 0 = x0 at hA
       generalize V 1 = x1 at hA
       generalize V 2 = x2 at hA
       generalize V 3 = x3 at hA
       generalize V 4 = x4 at hA
       generalize V 5 = x5 at hA
       generalize V 6 = x6 at hA
       generalize V 7 = x7 at hA
       generalize V 8 = x8 at hA
       generalize V 9 = x9 at d9 hA
       generalize V 10 = x10 at hA
       generalize V 11 = x11 at hA
       subst d9
       obtain rfl := hA
       go_wp2
       exact hK.out _ (Below.refl _ _)
      apply grow_eq
      ·intro V W K A hW hd hA hK
       have d10 : V 10 = _ := hd 10 (by kernel_rfl)
       simp only [putAll, List.getElem?_toArray, List.getElem?_cons_succ, List.getElem?_cons_zero, Option.bind_some, Act.put, List.setIfInBounds_toArray, List.set_cons_succ, List.set_cons_zero] at hA
       clear hd
       generalize V 0 = x0 at hA
       generalize V 1 = x1 at hA
       generalize V 2 = x2 at hA
       generalize V 3 = x3 at hA
       generalize V 4 = x4 at hA
       generalize V 5 = x5 at hA
       generalize V 6 = x6 at hA
       generalize V 7 = x7 at hA
       generalize V 8 = x8 at hA
       generalize V 9 = x9 at hA
       generalize V 10 = x10 at d10 hA
       generalize V 11 = x11 at hA
       subst d10
       obtain rfl := hA
       have hq := htx.below hW hbT
       unfold BtAt at hq
       obtain ⟨z0, z1⟩ := hq
       go_wp2
       exact hK.out _ (Below.refl _ _)
      intro V W A hW hS hA
      have d0 : V 0 = _ := hS 0 (by omega)
      have d1 : V 1 = _ := hS 1 (by omega)
      have d2 : V 2 = _ := hS 2 (by omega)
      have d3 : V 3 = _ := hS 3 (by omega)
      have d4 : V 4 = _ := hS 4 (by omega)
      have d5 : V 5 = _ := hS 5 (by omega)
      have d6 : V 6 = _ := hS 6 (by omega)
      have d7 : V 7 = _ := hS 7 (by omega)
      have d8 : V 8 = _ := hS 8 (by omega)
      have d9 : V 9 = _ := hS 9 (by omega)
      have d10 : V 10 = _ := hS 10 (by omega)
      have d11 : V 11 = _ := hS 11 (by omega)
      simp only [putAll, List.getElem?_toArray, List.getElem?_cons_succ, List.getElem?_cons_zero, Option.bind_some, Act.put, List.setIfInBounds_toArray, List.set_cons_succ, List.set_cons_zero] at hA
      clear hS
      generalize V 0 = x0 at d0 hA
      generalize V 1 = x1 at d1 hA
      generalize V 2 = x2 at d2 hA
      generalize V 3 = x3 at d3 hA
      generalize V 4 = x4 at d4 hA
      generalize V 5 = x5 at d5 hA
      generalize V 6 = x6 at d6 hA
      generalize V 7 = x7 at d7 hA
      generalize V 8 = x8 at d8 hA
      generalize V 9 = x9 at d9 hA
      generalize V 10 = x10 at d10 hA
      generalize V 11 = x11 at d11 hA
      subst d0
      subst d1
      subst d2
      subst d3
      subst d4
      subst d5
      subst d6
      subst d7
      subst d8
      subst d9
      subst d10
      subst d11
      obtain rfl := hA
      simp only [List.drop_succ_cons, List.drop_zero]
      have hzW := hW.size
      have hbW := hbq.trans (hW.mono hbq.size)
      have HW : Hid _ := below_blk hW HQ.out hzq
      cases hq : (c.berth.toList == t.name.toList)
      ·go_wp2
       go_roundw
       case rel => exact ⟨m + 1, n, by omega, by go_num, rfl, by unfold Hid; rw [HNS.out, hq]; rfl, by omega, by omega, hbW, HW⟩
       case measure => simp [intOf]; omega
      ·go_wp2
       go_roundw
       case rel => exact ⟨m + 1, n + 1, by omega, by go_num, rfl, by unfold Hid; rw [HNS.out, hq]; rfl, by omega, by omega, hbW, HW⟩
       case measure => simp [intOf]; omega
    ·have HNE : Hid (n = standN B t.name) := by unfold Hid; rw [HN.out, show m = B.cps.length by omega]; rfl
     have e2 := blk_cell HQ.out 2 rfl
     have e3 := blk_cell HQ.out 3 rfl
     unfold BtAt at htx
     obtain ⟨z0, z1⟩ := htx
     have hbW := hb.trans (hbq.mono hb.size)
     have hn2 : n ≤ 1048576 := by omega
     clear hb hbq
     cases hdr : t.drain
     ·cases hbe : (bn.toList == [])
      ·cases hnl : decide (n < ls)
       ·have hnl' := of_decide_eq_false hnl
        have HEQ : Hid (leastTo B (k + 1) = (bn, ls)) := by unfold Hid; rw [HPS.out]; unfold leastS; rw [if_neg (by rw [hdr, ← HNE.out]; simp only [hbe, hnl]; simp)]
        go_wp2
        go_roundw
        case rel => exact ⟨k + 1, bn, ls, by omega, by go_num, rfl, rfl, HEQ.out.symm, hs0, hs1, hbW, HQ⟩
        case measure => simp [intOf]; omega
       ·have hnl' := of_decide_eq_true hnl
        have HEQ : Hid (leastTo B (k + 1) = (t.name, n)) := by unfold Hid; rw [HPS.out]; unfold leastS; rw [if_pos (by rw [hdr, ← HNE.out]; simp only [hbe, hnl]; simp), ← HNE.out]
        go_wp2
        go_roundw
        case rel => exact ⟨k + 1, t.name, n, by omega, by go_num, rfl, rfl, HEQ.out.symm, hn0, hn2, hbW, HQ⟩
        case measure => simp [intOf]; omega
      ·have HEQ : Hid (leastTo B (k + 1) = (t.name, n)) := by unfold Hid; rw [HPS.out]; unfold leastS; rw [if_pos (by rw [hdr, ← HNE.out]; simp only [hbe]; simp), ← HNE.out]
       go_wp2
       go_roundw
       case rel => exact ⟨k + 1, t.name, n, by omega, by go_num, rfl, rfl, HEQ.out.symm, hn0, hn2, hbW, HQ⟩
       case measure => simp [intOf]; omega
     ·have HEQ : Hid (leastTo B (k + 1) = (bn, ls)) := by unfold Hid; rw [HPS.out]; unfold leastS; rw [if_neg (by rw [hdr]; simp)]
      go_wp2
      go_roundw
      case rel => exact ⟨k + 1, bn, ls, by omega, by go_num, rfl, rfl, HEQ.out.symm, hs0, hs1, hbW, HQ⟩
      case measure => simp [intOf]; omega
  ·have HE : Hid (bn = leastB B) := by unfold Hid leastB; rw [show B.bts.length = k by omega, ← HP.out]
   go_wp2
   go_ret
   exact ⟨congrArg (fun x => Ending.returned (.string x)) HE.out, hb⟩
end Go.Proofs.YtbceafpodamnfabGreat

namespace Go.Proofs.YtbceafpodamnfabGreat
open Go.RowKit
def RowIs (w : World) (e : TypeId) (size g n cap : Nat) (xs : List Value) : Prop :=
 xs.length = n * size ∧ n ≤ cap ∧ ∃ cur : Array Value, w.heap[g]? = some (.cells cur e (0, 0)) ∧ cur.size = cap * size ∧ cur.toList.take (n * size) = xs
theorem RowIs.lt {w : World} {e : TypeId} {size g n cap : Nat} {xs : List Value} (h : RowIs w e size g n cap xs) : g < w.heap.size := by
 obtain ⟨_, _, cur, hg, _⟩ := h
 exact (Array.getElem?_eq_some_iff.1 hg).1
theorem RowIs.blk {w w' : World} {e : TypeId} {size g n cap : Nat} {xs : List Value} (h : RowIs w e size g n cap xs) (hb : w'.heap[g]? = w.heap[g]?) : RowIs w' e size g n cap xs := by
 obtain ⟨h1, h2, cur, hg, r⟩ := h
 exact ⟨h1, h2, cur, hb.trans hg, r⟩
theorem RowIs.below {w w' : World} {e : TypeId} {size g n cap N : Nat} {xs : List Value} (h : RowIs w e size g n cap xs) (hb : Below N w w') (hN : g < N) : RowIs w' e size g n cap xs := h.blk (hb.block g hN)
theorem RowIs.grown {w w' : World} {e : TypeId} {size g n cap : Nat} {xs : List Value} {r : Option Nat} (h : RowIs w e size g n cap xs) (hb : w.grownBy w' r) (hr : some g ≠ r) : RowIs w' e size g n cap xs := h.blk (hb.block g h.lt hr)
theorem RowIs.cell {w : World} {e : TypeId} {size g n cap : Nat} {xs : List Value} (h : RowIs w e size g n cap xs) {j : Nat} {u : Value} (hu : xs[j]? = some u) : w.cell? ⟨g, j, none⟩ = some u := by
 obtain ⟨h1, h2, cur, hg, hs, ht⟩ := h
 rw [cell_row hg]
 rw [← ht, List.getElem?_take] at hu
 split at hu
 ·exact hu
 ·cases hu
theorem RowIs.new (w : World) (e : TypeId) (size : Nat) : RowIs (w.alloc (.cells #[] e)) e size w.heap.size 0 0 [] :=
 ⟨by simp, Nat.le_refl _, #[], heap_alloc_new w _, by simp, by simp⟩
theorem below_of_grown {w w' : World} {g N : Nat} (h : w.grownBy w' (some g)) (hN : N ≤ g) (hs : N ≤ w.heap.size) : Below N w w' :=
 ⟨h.os, h.tape, h.output, h.size, fun k hk => h.block k (by omega) (fun e => by have := Option.some.inj e; omega)⟩
theorem grown_refl (w : World) (r : Option Nat) : w.grownBy w r := ⟨rfl, rfl, rfl, Nat.le_refl _, fun _ _ _ => rfl⟩
theorem news_row {w : World} {b : Nat} {cs : Array Value} {t : TypeId} {fr : Nat × Nat} (h : w.heap[b]? = some (.cells cs t fr)) : ∀ j u, cs.toList[j]? = some u → w.cell? ((⟨b, 0, none⟩ : Addr).add j) = some u := fun j u hu => by
 rw [Addr.add_lit, cell_row h, Nat.zero_add]
 exact hu
section
variable {P : Program}
theorem run_append_row (w : World) (t ty e : TypeId) (z : Value) (size bytes : Nat) (ht : P.underlying t = some (.slice e)) (hinfo : (P.info? e).map (fun i => (i.zero, i.size, i.bytes)) = some (some z, size, bytes)) (hzs : z.cells.size = size)
  (g n cap : Nat) (xs : List Value) (hrow : RowIs w e size g n cap xs)
  (ad : Addr) (m c : Nat) (news : List Value) (hl : news.length = m * size) (hnews : ∀ j u, news[j]? = some u → w.cell? (ad.add j) = some u) (h1 : ∀ u ∈ news, u.oneCell' = true)
  (h63 : n + m ≤ maxLen) (hbytes : (n + m) * bytes ≤ 140737488355328) :
  ∃ g' cap' w', (Builtin.append_ #[t, t] ty #[.slice (some ⟨g, 0, none⟩) n cap, .slice (some ad) m c]).run P w = .ok (.slice (some ⟨g', 0, none⟩) (n + m) cap') w' ∧ (g' = g ∨ g' = w.heap.size) ∧
   RowIs w' e size g' (n + m) cap' (xs ++ news) ∧ w.grownBy w' (some g) := by
 obtain ⟨i, hi, hz, hs, hb⟩ := info_parts hinfo
 subst hs hb
 have hr0 := hrow
 obtain ⟨hx, hnc, cur, hg, hcs, htake⟩ := hrow
 have hlen : (xs ++ news).length = (n + m) * i.size := by rw [List.length_append, hx, hl, Nat.add_mul]
 have hsmall : n + m ≤ 9223372036854775807 := by simp only [maxLen] at h63; omega
 by_cases hroom : n + m ≤ cap
 ·have hfit : n * i.size + news.length ≤ cur.size := by rw [hl, hcs, ← Nat.add_mul]; exact Nat.mul_le_mul_right _ hroom
  have hr := run_append_room (P := P) w t ty e i ht hi g n cap cur hg ad m c news hl hnews h1 hroom hfit
  refine ⟨g, cap, _, hr, .inl rfl, ⟨hlen, hroom, _, setRow_heap w g cur _ e _ hg, ?_, ?_⟩, ⟨rfl, rfl, rfl, by simp, fun k _ hk => setRow_other w g k _ (fun e => hk (by rw [e]))⟩⟩
  ·simp only [List.size_toArray, List.length_append, List.length_take, List.length_drop, Array.length_toList]
   omega
  ·rw [htake, ← hlen]
   exact List.take_left
 ·have holds : ∀ j u, xs[j]? = some u → w.cell? ((⟨g, 0, none⟩ : Addr).add j) = some u := fun j u hu => by
   have := hr0.cell hu
   simpa [Addr.add_lit] using this
  have hr := run_append_grow (P := P) w t ty e i z ht hi hz ⟨g, 0, none⟩ n cap xs hx holds ad m c news hl hnews (by omega) (by omega) (growslice_fits (by omega) hbytes)
  have hge := grownCap_ge w (n + m) cap e
  refine ⟨w.heap.size, _, _, hr, .inr rfl, ⟨hlen, hge, _, heap_alloc_new w.drew _, ?_, ?_⟩, ⟨rfl, rfl, rfl, by simp, fun k hk _ => by show (w.heap.push _)[k]? = _; rw [Array.getElem?_push, if_neg (by omega)]⟩⟩
  ·simp only [Array.size_append, List.size_toArray, size_zeroCells, hzs, hx, hl, ← Nat.add_mul]
   congr 1
   omega
  ·simp only [Array.toList_append, List.append_assoc]
   rw [← List.append_assoc, ← hlen]
   exact List.take_left
theorem wpList_append_row {ops : Array Oper} {rest : List Oper} {o : Oper} {a : Act} {w : World} {Q : Exit → Act → World → Prop} (hgd : o.guard = none) (s x : Operand) (t : TypeId)
  (ho : o.op = .call { callee := .builtin .append, args := #[s, x], argTypes := #[t, t] })
  (e : TypeId) (z : Value) (size bytes : Nat) (ht : P.underlying t = some (.slice e)) (hinfo : (P.info? e).map (fun i => (i.zero, i.size, i.bytes)) = some (some z, size, bytes)) (hzs : z.cells.size = size)
  (g n cap : Nat) (xs : List Value) (hs : a.eval s = .slice (some ⟨g, 0, none⟩) n cap) (hrow : RowIs w e size g n cap xs)
  (ad : Addr) (m c : Nat) (news : List Value) (hx : a.eval x = .slice (some ad) m c) (hl : news.length = m * size) (hnews : ∀ j u, news[j]? = some u → w.cell? (ad.add j) = some u) (h1 : ∀ u ∈ news, u.oneCell' = true)
  (h63 : n + m ≤ maxLen) (hbytes : (n + m) * bytes ≤ 140737488355328)
  (h : ∀ g' cap' w', (g' = g ∨ g' = w.heap.size) → Hid (RowIs w' e size g' (n + m) cap' (xs ++ news)) → w.grownBy w' (some g) → wpList P ops Q rest (a.put o.dst (.slice (some ⟨g', 0, none⟩) (n + m) cap')) w') : wpList P ops Q (o :: rest) a w := by
 refine wpList_plain hgd fun K hK => ?_
 obtain ⟨g', cap', w', hr, h2, h3, h4⟩ := run_append_row (P := P) w t o.type e z size bytes ht hinfo hzs g n cap xs hrow ad m c news hl hnews h1 h63 hbytes
 unfold Oper.wp execOp
 simp only [ho, resolve, invoke, builtin, Sem.run_bind, Sem.run_pure, Result.andThen_ok, List.map_toArray, List.map_cons, List.map_nil, hs, hx, hr]
 exact hK _ _ (h g' cap' w' h2 h3 h4)
end
end Go.Proofs.YtbceafpodamnfabGreat

namespace Go.Proofs.YtbceafpodamnfabGreat
open Go.RowKit
section
variable {P : Program}
theorem below_setRow_same (w : World) (g : Nat) (cur : Array Value) (t : TypeId) (hg : w.heap[g]? = some (.cells cur t (0, 0))) : Below w.heap.size w (w.setRow g cur) :=
 ⟨rfl, rfl, rfl, by rw [setRow_size]; exact Nat.le_refl _, fun k _ => by
  by_cases h : k = g
  ·subst h; rw [setRow_heap w k cur cur t _ hg, hg]
  ·exact setRow_block w g k cur h⟩
theorem run_append_fresh (w : World) (t ty e : TypeId) (z : Value) (size bytes : Nat) (ht : P.underlying t = some (.slice e)) (hinfo : (P.info? e).map (fun i => (i.zero, i.size, i.bytes)) = some (some z, size, bytes)) (hzs : z.cells.size = size)
  (g : Nat) (hg : w.heap[g]? = some (.cells #[] e (0, 0)))
  (ao : Option Addr) (m c : Nat) (news : List Value) (hl : news.length = m * size) (hsrc : m ≠ 0 → ∃ ad, ao = some ad ∧ ∀ j u, news[j]? = some u → w.cell? (ad.add j) = some u) (h1 : ∀ u ∈ news, u.oneCell' = true)
  (h63 : m ≤ maxLen) (hbytes : m * bytes ≤ 140737488355328) :
  ∃ g' cap' w', (Builtin.append_ #[t, t] ty #[.slice (some ⟨g, 0, none⟩) 0 0, .slice ao m c]).run P w = .ok (.slice (some ⟨g', 0, none⟩) m cap') w' ∧ (g' = g ∨ g' = w.heap.size) ∧ RowIs w' e size g' m cap' news ∧ Below w.heap.size w w' := by
 by_cases hm : m = 0
 ·subst hm
  have hn : news = [] := List.eq_nil_of_length_eq_zero (by simpa using hl)
  subst hn
  obtain ⟨i, hi, hz, hs, hb⟩ := info_parts hinfo
  subst hs hb
  cases ao with
  | none =>
   refine ⟨g, 0, w, ?_, .inl rfl, ⟨by simp, Nat.le_refl _, #[], hg, by simp, by simp⟩, Below.refl _ _⟩
   simp [Builtin.append_, run_underlying ht, sizeOf, typeInfo, hi, Builtin.lenOf, Builtin.firstCells, storeCells]
  | some ad =>
   have hr := run_append_room (P := P) w t ty e i ht hi g 0 0 #[] hg ad 0 c [] (by simp) (by simp) (by simp) (Nat.le_refl _) (by simp)
   refine ⟨g, 0, _, by simpa using hr, .inl rfl, ⟨by simp, Nat.le_refl _, #[], setRow_heap w g #[] #[] e _ hg, by simp, by simp⟩, below_setRow_same w g #[] e hg⟩
 ·obtain ⟨ad, rfl, hnews⟩ := hsrc hm
  obtain ⟨i, hi, hz, hs, hb⟩ := info_parts hinfo
  subst hs hb
  have hr := run_append_grow (P := P) w t ty e i z ht hi hz ⟨g, 0, none⟩ 0 0 [] (by simp) (by simp) ad m c news hl hnews (by omega) (by unfold maxLen at h63; omega) (growslice_fits (by omega) (by simpa using hbytes))
  simp only [Nat.zero_add] at hr
  have hge := grownCap_ge w m 0 e
  refine ⟨w.heap.size, _, _, hr, .inr rfl, ⟨hl, hge, _, heap_alloc_new w.drew _, ?_, ?_⟩, ⟨rfl, rfl, rfl, by simp, fun k hk => by show (w.heap.push _)[k]? = _; rw [Array.getElem?_push, if_neg (by omega)]⟩⟩
  ·simp only [Array.size_append, List.size_toArray, size_zeroCells, hzs, hl, List.length_nil, Nat.zero_add]
   rw [← Nat.add_mul]
   congr 1
   omega
  ·simp only [Array.toList_append, List.nil_append]
   rw [← hl]
   exact List.take_left
theorem wpList_append_fresh {ops : Array Oper} {rest : List Oper} {o : Oper} {a : Act} {w : World} {Q : Exit → Act → World → Prop} (hgd : o.guard = none) (s x : Operand) (t : TypeId)
  (ho : o.op = .call { callee := .builtin .append, args := #[s, x], argTypes := #[t, t] })
  (e : TypeId) (z : Value) (size bytes : Nat) (ht : P.underlying t = some (.slice e)) (hinfo : (P.info? e).map (fun i => (i.zero, i.size, i.bytes)) = some (some z, size, bytes)) (hzs : z.cells.size = size)
  (g : Nat) (hs : a.eval s = .slice (some ⟨g, 0, none⟩) 0 0) (hg : w.heap[g]? = some (.cells #[] e (0, 0)))
  (ao : Option Addr) (m c : Nat) (news : List Value) (hx : a.eval x = .slice ao m c) (hl : news.length = m * size) (hsrc : m ≠ 0 → ∃ ad, ao = some ad ∧ ∀ j u, news[j]? = some u → w.cell? (ad.add j) = some u) (h1 : ∀ u ∈ news, u.oneCell' = true)
  (h63 : m ≤ maxLen) (hbytes : m * bytes ≤ 140737488355328)
  (h : ∀ g' cap' w', (g' = g ∨ g' = w.heap.size) → Hid (RowIs w' e size g' m cap' news) → Below w.heap.size w w' → wpList P ops Q rest (a.put o.dst (.slice (some ⟨g', 0, none⟩) m cap')) w') : wpList P ops Q (o :: rest) a w := by
 refine wpList_plain hgd fun K hK => ?_
 obtain ⟨g', cap', w', hr, h2, h3, h4⟩ := run_append_fresh (P := P) w t o.type e z size bytes ht hinfo hzs g hg ao m c news hl hsrc h1 h63 hbytes
 unfold Oper.wp execOp
 simp only [ho, resolve, invoke, builtin, Sem.run_bind, Sem.run_pure, Result.andThen_ok, List.map_toArray, List.map_cons, List.map_nil, hs, hx, hr]
 exact hK _ _ (h g' cap' w' h2 h3 h4)
end
end Go.Proofs.YtbceafpodamnfabGreat
