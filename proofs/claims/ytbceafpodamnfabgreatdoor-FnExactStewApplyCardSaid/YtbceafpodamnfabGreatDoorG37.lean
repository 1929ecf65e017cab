/-
  My own: Or, Os.
-/
import Derived.Test.YtbceafpodamnfabGreatDoorG36
import Derived.Test.YtbceafpodamnfabGreatDoorG23
set_option linter.unusedVariables false
set_option linter.unusedSimpArgs false
namespace Go.Proofs.YtbceafpodamnfabGreatDoor
open Go.RowKit Go.Sort
theorem tw_drop {α : Type} (p : α → Bool) : ∀ l : List α, (l.drop (l.takeWhile p).length).takeWhile p = []
 | [] => rfl
 | x :: l => by
  cases h : p x
  ·rw [List.takeWhile_cons_of_neg (by rw [h]; decide), List.length_nil, List.drop_zero, List.takeWhile_cons_of_neg (by rw [h]; decide)]
  ·rw [List.takeWhile_cons_of_pos h, List.length_cons, List.drop_succ_cons]
   exact tw_drop p l
theorem tw_congr {α : Type} {p q : α → Bool} : ∀ {l : List α}, (∀ x ∈ l, p x = q x) → l.takeWhile p = l.takeWhile q
 | [], _ => rfl
 | x :: l, h => by
  have hx := h x (by simp)
  have ih := tw_congr (l := l) fun y hy => h y (by simp [hy])
  cases hp : p x
  ·rw [List.takeWhile_cons_of_neg (by rw [hp]; decide), List.takeWhile_cons_of_neg (by rw [← hx, hp]; decide)]
  ·rw [List.takeWhile_cons_of_pos hp, List.takeWhile_cons_of_pos (by rw [← hx]; exact hp), ih]
theorem tw_append {α : Type} {p : α → Bool} : ∀ {l l' : List α}, (∀ x ∈ l, p x = true) → (l ++ l').takeWhile p = l ++ l'.takeWhile p
 | [], _, _ => rfl
 | x :: l, l', h => by
  rw [List.cons_append, List.takeWhile_cons_of_pos (h x (by simp)), tw_append fun y hy => h y (by simp [hy])]
  rfl
theorem tw_all {α : Type} {p : α → Bool} : ∀ {l : List α} {x : α}, x ∈ l.takeWhile p → p x = true
 | [], _, h => by simp at h
 | y :: l, x, h => by
  cases hp : p y
  ·rw [List.takeWhile_cons_of_neg (by rw [hp]; decide)] at h; simp at h
  ·rw [List.takeWhile_cons_of_pos hp] at h
   rcases List.mem_cons.1 h with rfl | h
   ·exact hp
   ·exact tw_all h
theorem tw_take {α : Type} (p : α → Bool) : ∀ l : List α, l.takeWhile p = l.take (l.takeWhile p).length
 | [] => rfl
 | x :: l => by
  cases hp : p x
  ·rw [List.takeWhile_cons_of_neg (by rw [hp]; decide)]; rfl
  ·rw [List.takeWhile_cons_of_pos hp, List.length_cons, List.take_succ_cons, ← tw_take p l]
theorem putC_atO {l : List Cp} {c : Cp} {n : Nat} (h : (l.takeWhile fun x => aheadB x c).length = n) : putC l c = l.take n ++ c :: l.drop n := by
 unfold putC
 rw [h, tw_take, h]
theorem putN_ins {B : Bk} {A : Ac} {s : Svc} {L : List Cp} (hnum : ∀ x ∈ L, x.service = A.service → x.number < s.next) : ∀ t : Nat, putN B A s L t = insN L (behindI L A.service) (newC B A s) t
 | 0 => by rw [insN_zero]; rfl
 | t + 1 => by
  show putC (putN B A s L t) (newC B A s t) = _
  have hp : behindI L A.service ≤ L.length := behind_le _ _
  rw [putN_ins hnum t, ← insN_succ _ t hp]
  refine putC_atO ?_
  have hpt : ∀ x ∈ insN L (behindI L A.service) (newC B A s) t, aheadB x (newC B A s t) = notPast A.service x := by
   intro x hx
   have hlt : x.service = A.service → x.number < s.next + (t : Int) := by
    intro hs
    unfold insN at hx
    rcases List.mem_append.1 hx with hx | hx
    ·rcases List.mem_append.1 hx with hx | hx
     ·have := hnum x (List.mem_of_mem_take hx) hs; omega
     ·obtain ⟨i, hi, rfl⟩ := List.mem_map.1 hx
      have := List.mem_range.1 hi
      show s.next + (i : Int) < _
      omega
    ·have := hnum x (List.mem_of_mem_drop hx) hs; omega
   unfold aheadB notPast
   show (Op.bytesLess x.service.toList A.service.toList || (x.service.toList == A.service.toList && decide (x.number < s.next + (t : Int)))) = _
   cases he : x.service.toList == A.service.toList
   ·rfl
   ·rw [decide_eq_true (hlt (same_nm.1 he)), Bool.and_true]
  rw [tw_congr hpt]
  unfold insN
  rw [List.append_assoc, tw_append, tw_append, show L.drop (behindI L A.service) = L.drop (L.takeWhile (notPast A.service)).length from rfl, tw_drop, List.append_nil, List.length_append, List.length_map, List.length_range, List.length_take, Nat.min_eq_left hp]
  ·intro x hx
   obtain ⟨i, _, rfl⟩ := List.mem_map.1 hx
   unfold notPast newC
   simp
  ·intro x hx
   unfold behindI at hx
   rw [← tw_take] at hx
   exact tw_all hx
theorem code_2 {B : Bk} {A : Ac} (h : actOkB A = false) : codeL B A = 2 := by unfold codeL early; rw [h]; rfl
theorem code_3 {B : Bk} {A : Ac} (h : actOkB A = true) (h2 : svcOf B A.service = none ∨ A.ends.all (endIn B A) = false) : codeL B A = 3 := by
 unfold codeL early
 rw [h]
 simp only [if_true]
 cases hs : svcOf B A.service with
 | none => rfl
 | some s =>
  rcases h2 with h2 | h2
  ·rw [hs] at h2; cases h2
  ·simp [h2]
theorem early_of {B : Bk} {A : Ac} {s : Svc} (h : actOkB A = true) (hs : svcOf B A.service = some s) (hi : A.ends.all (endIn B A) = true) : early B A = if (s.version == A.seen && A.ends.all (endSeen B A)) = true then none else some 4 := by
 unfold early
 rw [h, hs]
 simp only [if_true, hi]
 cases s.version == A.seen <;> cases A.ends.all (endSeen B A) <;> rfl
theorem code_4 {B : Bk} {A : Ac} {s : Svc} (h : actOkB A = true) (hs : svcOf B A.service = some s) (hi : A.ends.all (endIn B A) = true) (hv : (s.version == A.seen && A.ends.all (endSeen B A)) = false) : codeL B A = 4 := by
 unfold codeL
 rw [early_of h hs hi, hv]
 rfl
theorem code_5 {B : Bk} {A : Ac} {s : Svc} (h : actOkB A = true) (hs : svcOf B A.service = some s) (hi : A.ends.all (endIn B A) = true) (hv : (s.version == A.seen && A.ends.all (endSeen B A)) = true) (hm : marks B s A.service (B.now + 1) A.ends B.cps = none) : codeL B A = 5 := by
 unfold codeL
 rw [early_of h hs hi, hv, hs]
 simp only [if_true, hm]
theorem code_late {B : Bk} {A : Ac} {s : Svc} {L : List Cp} (h : actOkB A = true) (hs : svcOf B A.service = some s) (hi : A.ends.all (endIn B A) = true) (hv : (s.version == A.seen && A.ends.all (endSeen B A)) = true) (hm : marks B s A.service (B.now + 1) A.ends B.cps = some L) : codeL B A = lateOf B A s L := by
 unfold codeL
 rw [early_of h hs hi, hv, hs]
 simp only [if_true, hm]
theorem marks_ver {B : Bk} {s : Svc} {sv : ByteArray} {v u : Int} : ∀ (es : List En) (l : List Cp), marks B { s with version := u } sv v es l = marks B s sv v es l
 | [], _ => rfl
 | e :: es, l => by
  show (match l.find? (isC sv e.number) with | some c => if mayL { B with cps := l } s sv c then marks B { s with version := u } sv v es (markAt sv v l e.number) else none | none => none) = _
  rw [show marks B s sv v (e :: es) l = (match l.find? (isC sv e.number) with | some c => if mayL { B with cps := l } s sv c then marks B s sv v es (markAt sv v l e.number) else none | none => none) from rfl]
  cases l.find? (isC sv e.number) with
  | none => rfl
  | some c => simp only [marks_ver es]
theorem scaleNo_same (A : Ac) (s : Svc) (u : Int) : scaleNo A (scaledS A { s with version := u }) = scaleNo A s ∧ scaleNo A (scaledS A s) = scaleNo A s ∧ scaleNo A { s with version := u } = scaleNo A s := by
 unfold scaleNo scaledS
 cases A.scale <;> exact ⟨rfl, rfl, rfl⟩
theorem late_scale {B : Bk} {A : Ac} {s : Svc} {L : List Cp} (h : scaleNo A s = true) : lateOf B A s L = 6 := by
 unfold lateOf
 rw [(scaleNo_same A s 0).2.1, h]
 cases dropNo A s (cntB B A.service) <;> cases makeNo A (scaledS A s) (cntB { B with cps := L } A.service) <;> rfl
theorem late_make {B : Bk} {A : Ac} {s : Svc} {L : List Cp} (h : makeNo A (scaledS A s) (cntB { B with cps := L } A.service) = true) : lateOf B A s L = 6 := by
 unfold lateOf
 rw [h]
 cases dropNo A s (cntB B A.service) <;> rfl
theorem late_drop {B : Bk} {A : Ac} {s : Svc} {L : List Cp} (h : dropNo A s (cntB B A.service) = true) : lateOf B A s L = 6 := by
 unfold lateOf
 rw [h]
 rfl
theorem late_room {B : Bk} {A : Ac} {s : Svc} {L : List Cp} (h1 : scaleNo A s = false) (h2 : makeNo A (scaledS A s) (cntB { B with cps := L } A.service) = false) (h3 : dropNo A s (cntB B A.service) = false) : lateOf B A s L = if roomNo B A (scaledS A s) then 7 else 0 := by
 unfold lateOf
 rw [(scaleNo_same A s 0).2.1, h1, h2, h3]
 rfl
end Go.Proofs.YtbceafpodamnfabGreatDoor

namespace Go.Proofs.YtbceafpodamnfabGreatDoor
open Go.RowKit Go.Sort
theorem markAt_keys (sv : ByteArray) (v : Int) (l : List Cp) (num : Int) : (markAt sv v l num).map ckey = l.map ckey := by
 unfold markAt
 cases l.findIdx? (isC sv num) with
 | none => rfl
 | some i =>
  cases h : l[i]? with
  | none => simp only [h]
  | some c => simp only [h]; exact ckey_set h v
theorem marks_keys (B : Bk) (s : Svc) (sv : ByteArray) (v : Int) : ∀ (es : List En) (l L : List Cp), marks B s sv v es l = some L → L.map ckey = l.map ckey
 | [], l, L, h => by obtain rfl := Option.some.inj h; rfl
 | e :: es, l, L, h => by
  rw [show marks B s sv v (e :: es) l = (match l.find? (isC sv e.number) with | some c => if mayL { B with cps := l } s sv c then marks B s sv v es (markAt sv v l e.number) else none | none => none) from rfl] at h
  cases hf : l.find? (isC sv e.number) with
  | none => rw [hf] at h; cases h
  | some c =>
   rw [hf] at h
   simp only at h
   cases hm : mayL { B with cps := l } s sv c
   ·rw [hm] at h; cases h
   ·rw [hm] at h
    rw [marks_keys B s sv v es _ L h, markAt_keys]
theorem mem_keys {l l' : List Cp} (h : l.map ckey = l'.map ckey) {x : Cp} (hx : x ∈ l) : ∃ y ∈ l', y.service = x.service ∧ y.number = x.number := by
 have : ckey x ∈ l'.map ckey := by rw [← h]; exact List.mem_map_of_mem hx
 obtain ⟨y, hy, e⟩ := List.mem_map.1 this
 injection e with e1 e2
 exact ⟨y, hy, e1, e2⟩
theorem at_keys {l l' : List Cp} (h : l.map ckey = l'.map ckey) {i : Nat} {x : Cp} (hx : l[i]? = some x) : ∃ y, l'[i]? = some y ∧ y.service = x.service ∧ y.number = x.number := by
 have h1 : (l'.map ckey)[i]? = some (ckey x) := by rw [← h, List.getElem?_map, hx]; rfl
 rw [List.getElem?_map] at h1
 cases hy : l'[i]? with
 | none => rw [hy] at h1; cases h1
 | some y =>
  rw [hy] at h1
  injection h1 with e
  injection e with e1 e2
  exact ⟨y, rfl, e1, e2⟩
theorem riseC_keys {l l' : List Cp} (h : l.map ckey = l'.map ckey) (hr : RiseC l') : RiseC l := by
 intro i j a b hij ha hb
 obtain ⟨a', ha', ea, _⟩ := at_keys h ha
 obtain ⟨b', hb', eb, _⟩ := at_keys h hb
 rw [← ea, ← eb]
 exact hr i j a' b' hij ha' hb'
theorem num_below {B : Bk} (hV : Valid B) {sv : ByteArray} {s : Svc} (hs : svcOf B sv = some s) {L : List Cp} (hk : L.map ckey = B.cps.map ckey) : ∀ x ∈ L, x.service = sv → x.number < s.next := by
 intro x hx hxs
 obtain ⟨y, hy, e1, e2⟩ := mem_keys hk hx
 obtain ⟨s', hs', hok⟩ := hV.svc hy
 rw [e1, hxs, hs] at hs'
 obtain rfl := Option.some.inj hs'
 have hi := hV.svcIn (svcOf_mem hs)
 have h0 := hi.next0
 have h1 := hi.next1
 unfold cpOk at hok
 simp only [Bool.and_eq_true] at hok
 have hn := hok.1.1.1
 unfold inB at hn
 simp only [Bool.and_eq_true, decide_eq_true_eq] at hn
 have hw : wrap64 (s.next - 1) = s.next - 1 := by
  unfold wrap64
  omega
 rw [hw] at hn
 omega
theorem scaled_f (A : Ac) (s : Svc) (u : Int) : (scaledS A { s with version := u }).name = s.name ∧ (scaledS A { s with version := u }).next = s.next ∧ (scaledS A { s with version := u }).image = s.image ∧ (scaledS A { s with version := u }).gone = s.gone ∧ (scaledS A { s with version := u }).over = s.over := by
 unfold scaledS
 cases A.scale <;> exact ⟨rfl, rfl, rfl, rfl, rfl⟩
theorem cntB_cps {B : Bk} {sv : ByteArray} {s : Svc} (hs : svcOf B sv = some s) (L : List Cp) : cntB { B with cps := L } sv = cntTo s.image sv L L.length := by
 unfold cntB
 rw [show svcOf { B with cps := L } sv = svcOf B sv from rfl, hs]
theorem makeNo_scaled (A : Ac) (s : Svc) (u : Int) (C : Cnt) : makeNo A (scaledS A { s with version := u }) C = makeNo A (scaledS A s) C := by
 unfold makeNo scaledS
 cases A.scale <;> rfl
theorem drop_shape {A : Ac} (h : actOkB A = true) (hd : A.drop = true) : A.create = 0 ∧ A.scale = false ∧ A.ends = [] := by
 unfold actOkB at h
 rw [hd] at h
 simp only [Bool.and_eq_true, Bool.not_true, Bool.false_or, beq_iff_eq, Bool.not_eq_true'] at h
 exact ⟨h.2.1.1, h.2.1.2, List.length_eq_zero_iff.1 h.2.2⟩
theorem dropNo_same {B : Bk} {A : Ac} {s : Svc} {L : List Cp} {u : Int} {C : Cnt} (hs : svcOf B A.service = some s) (hnm : s.name = A.service) (hA : actOkB A = true) (hm : marks B s A.service (B.now + 1) A.ends B.cps = some L) (hC : C = cntTo s.image s.name L L.length) : dropNo A (scaledS A { s with version := u }) C = dropNo A s (cntB B A.service) := by
 unfold dropNo
 cases hd : A.drop
 ·rfl
 ·obtain ⟨_, _, he⟩ := drop_shape hA hd
  rw [he] at hm
  have hL : B.cps = L := Option.some.inj hm
  have : cntB B A.service = C := by
   rw [hC, ← hL, hnm]
   unfold cntB
   rw [hs]
  rw [this, (scaled_f A s u).2.2.2.1]
theorem roomB_same {B X : Bk} {A : Ac} {s : Svc} {u : Int} (hl : X.cps.length = B.cps.length) (hn : X.now = B.now + 1) : roomB X A (scaledS A { s with version := u }) = !roomNo B A (scaledS A s) := by
 have e : (scaledS A s).next = s.next := by unfold scaledS; cases A.scale <;> rfl
 unfold roomB roomNo
 rw [hl, hn, (scaled_f A s u).2.1, e]
 by_cases h1 : (B.cps.length : Int) + A.create ≤ 200
 ·by_cases h2 : s.next + A.create ≤ 1000000
  ·by_cases h3 : B.now + 1 ≤ 1000000
   ·rw [decide_eq_true h1, decide_eq_true h2, decide_eq_true h3, decide_eq_false (show ¬ 200 < (B.cps.length : Int) + A.create by omega), decide_eq_false (show ¬ 1000000 < s.next + A.create by omega), decide_eq_false (show ¬ 1000000 ≤ B.now by omega)]; rfl
   ·rw [decide_eq_true h1, decide_eq_true h2, decide_eq_false h3, decide_eq_true (show 1000000 ≤ B.now by omega)]; simp
  ·rw [decide_eq_true h1, decide_eq_false h2, decide_eq_true (show 1000000 < s.next + A.create by omega)]; simp
 ·rw [decide_eq_false h1, decide_eq_true (show 200 < (B.cps.length : Int) + A.create by omega)]; rfl
theorem take_drop_set {l : List Svc} {k : Nat} (s : Svc) : (l.set k s).take k ++ (l.set k s).drop (k + 1) = l.take k ++ l.drop (k + 1) := by
 rw [List.take_set_of_le (Nat.le_refl _), List.drop_set_of_lt (by omega)]
theorem done_same {B : Bk} {A : Ac} {s : Svc} {L : List Cp} {k crn : Nat} (hV : Valid B) (hA : actOkB A = true) (hs : svcOf B A.service = some s) (hk : B.svcs[k]? = some s) (hnm : s.name = A.service) (hm : marks B s A.service (B.now + 1) A.ends B.cps = some L) (hcr : A.create = (crn : Int)) :
  doneOf B A = ⟨B.now + 1, dropS A (((B.svcs.set k { s with version := B.now + 1 }).set k (scaledS A { s with version := B.now + 1 })).set k { scaledS A { s with version := B.now + 1 } with next := (scaledS A { s with version := B.now + 1 }).next + A.create }) k, insN L (behindI L (scaledS A { s with version := B.now + 1 }).name) (mkO ⟨B.now + 1, (B.svcs.set k { s with version := B.now + 1 }).set k (scaledS A { s with version := B.now + 1 }), L, B.bts⟩ (scaledS A { s with version := B.now + 1 })) crn, B.bts⟩ := by
 have hidx : idxS B.svcs A.service = (k : Int) := by
  unfold idxS
  refine idxOf_here hk (by rw [hnm]; exact beq_self_eq_true _) fun i hi t ht => ?_
  cases hb : t.name.toList == A.service.toList
  ·rfl
  ·have hne := uniq_of hV.svcs i k t s hi ht hk
   exact absurd ((same_nm.1 hb).trans hnm.symm) hne
 have hmk : mkO ⟨B.now + 1, (B.svcs.set k { s with version := B.now + 1 }).set k (scaledS A { s with version := B.now + 1 }), L, B.bts⟩ (scaledS A { s with version := B.now + 1 }) = newC B A s := by
  funext t
  unfold mkO newC
  rw [(scaled_f A s _).1, (scaled_f A s _).2.1, (scaled_f A s _).2.2.1, hnm]
 unfold doneOf
 rw [hs]
 simp only [hm, hidx, Int.toNat_natCast]
 unfold doneB
 rw [hmk, (scaled_f A s _).1, hnm, ← putN_ins (num_below hV hs (marks_keys _ _ _ _ _ _ _ hm)), hcr, Int.toNat_natCast, List.set_set, List.set_set]
 congr 1
 unfold doneSvcs dropS
 cases hd : A.drop
 ·simp only [Bool.false_eq_true, if_false]
  congr 1
  unfold doneS scaledS
  cases A.scale <;> (rw [hcr, ← hnm]; rfl)
 ·simp only [if_true]
  exact (take_drop_set _).symm
end Go.Proofs.YtbceafpodamnfabGreatDoor
