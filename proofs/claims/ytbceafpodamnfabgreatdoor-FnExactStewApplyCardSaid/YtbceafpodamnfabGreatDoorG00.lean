/-
  My own: Data, Wa, Wb, Wc, Lw, Wd, Wd2, We, Wf, Lq.
-/
import Derived.WalkKit
import Derived.Test.YtbceafpodamnfabGreatDoorChecked
import GoSem.Claim
import GoSem.ClaimJoined
import GoSem.ClaimMapViews
import Derived.JoinedTies
import Derived.KernelRfl
import Derived.RowKit
import Derived.WalkSpells
import Derived.WalkLawsBesides
import Derived.Laws.CopyOwn
import Derived.Lib.QuietBelow
import Derived.BigQuiet
set_option linter.unusedVariables false
set_option linter.unusedSimpArgs false
namespace Go.Proofs.YtbceafpodamnfabGreatDoor
open Go.RowKit
structure Svc where
 name : ByteArray
 version : Int
 gone : Bool
 image : Int
 want : Int
 down : Int
 over : Int
 next : Int
 per : Int
 least : Int
 most : Int
 load : Int
 cool : Int
structure Cp where
 service : ByteArray
 number : Int
 version : Int
 image : Int
 state : Int
 ending : Bool
 berth : ByteArray
structure Bt where
 name : ByteArray
 drain : Bool
def SvcAt (w : World) (b o : Nat) (s : Svc) : Prop := w.cell? ⟨b, o, none⟩ = some (.string s.name) ∧ w.cell? ⟨b, o + 1, none⟩ = some (.int .i64 s.version) ∧ w.cell? ⟨b, o + 2, none⟩ = some (.bool s.gone) ∧ w.cell? ⟨b, o + 3, none⟩ = some (.int .i64 s.image) ∧ w.cell? ⟨b, o + 4, none⟩ = some (.int .i64 s.want) ∧ w.cell? ⟨b, o + 5, none⟩ = some (.int .i64 s.down) ∧ w.cell? ⟨b, o + 6, none⟩ = some (.int .i64 s.over) ∧ w.cell? ⟨b, o + 7, none⟩ = some (.int .i64 s.next) ∧ w.cell? ⟨b, o + 8, none⟩ = some (.int .i64 s.per) ∧ w.cell? ⟨b, o + 9, none⟩ = some (.int .i64 s.least) ∧ w.cell? ⟨b, o + 10, none⟩ = some (.int .i64 s.most) ∧ w.cell? ⟨b, o + 11, none⟩ = some (.int .i64 s.load) ∧ w.cell? ⟨b, o + 12, none⟩ = some (.int .i64 s.cool)
def CpAt (w : World) (b o : Nat) (s : Cp) : Prop := w.cell? ⟨b, o, none⟩ = some (.string s.service) ∧ w.cell? ⟨b, o + 1, none⟩ = some (.int .i64 s.number) ∧ w.cell? ⟨b, o + 2, none⟩ = some (.int .i64 s.version) ∧ w.cell? ⟨b, o + 3, none⟩ = some (.int .i64 s.image) ∧ w.cell? ⟨b, o + 4, none⟩ = some (.int .i64 s.state) ∧ w.cell? ⟨b, o + 5, none⟩ = some (.bool s.ending) ∧ w.cell? ⟨b, o + 6, none⟩ = some (.string s.berth)
def BtAt (w : World) (b o : Nat) (s : Bt) : Prop := w.cell? ⟨b, o, none⟩ = some (.string s.name) ∧ w.cell? ⟨b, o + 1, none⟩ = some (.bool s.drain)
def SvcsAt (w : World) (b off : Nat) (l : List Svc) : Prop := ∀ i s, l[i]? = some s → SvcAt w b (off + i * 13) s
def CpsAt (w : World) (b off : Nat) (l : List Cp) : Prop := ∀ i s, l[i]? = some s → CpAt w b (off + i * 7) s
def BtsAt (w : World) (b off : Nat) (l : List Bt) : Prop := ∀ i s, l[i]? = some s → BtAt w b (off + i * 2) s
theorem SvcAt.below {B : Nat} {w w' : World} {b o : Nat} {s : Svc} (h : SvcAt w b o s) (hb : Below B w w') (hB : b < B) : SvcAt w' b o s := by
 unfold SvcAt at *
 simp only [fun o => hb.cell (p := ⟨b, o, none⟩) hB]
 exact h
theorem CpAt.below {B : Nat} {w w' : World} {b o : Nat} {s : Cp} (h : CpAt w b o s) (hb : Below B w w') (hB : b < B) : CpAt w' b o s := by
 unfold CpAt at *
 simp only [fun o => hb.cell (p := ⟨b, o, none⟩) hB]
 exact h
theorem BtAt.below {B : Nat} {w w' : World} {b o : Nat} {s : Bt} (h : BtAt w b o s) (hb : Below B w w') (hB : b < B) : BtAt w' b o s := by
 unfold BtAt at *
 simp only [fun o => hb.cell (p := ⟨b, o, none⟩) hB]
 exact h
theorem SvcAt.blk {w w' : World} {b o : Nat} {s : Svc} (h : SvcAt w b o s) (hb : w'.heap[b]? = w.heap[b]?) : SvcAt w' b o s := by
 unfold SvcAt at *
 simp only [fun o => World.cell?_of_block (w := w) (w' := w') (a := ⟨b, o, none⟩) hb]
 exact h
theorem CpAt.blk {w w' : World} {b o : Nat} {s : Cp} (h : CpAt w b o s) (hb : w'.heap[b]? = w.heap[b]?) : CpAt w' b o s := by
 unfold CpAt at *
 simp only [fun o => World.cell?_of_block (w := w) (w' := w') (a := ⟨b, o, none⟩) hb]
 exact h
theorem BtAt.blk {w w' : World} {b o : Nat} {s : Bt} (h : BtAt w b o s) (hb : w'.heap[b]? = w.heap[b]?) : BtAt w' b o s := by
 unfold BtAt at *
 simp only [fun o => World.cell?_of_block (w := w) (w' := w') (a := ⟨b, o, none⟩) hb]
 exact h
def inB (n lo hi : Int) : Bool := decide (lo ≤ n) && decide (n ≤ hi)
def byteB (c : Int) : Bool := (decide (97 ≤ c) && decide (c ≤ 122)) || ((decide (48 ≤ c) && decide (c ≤ 57)) || (c == 45))
def nameB (s : ByteArray) : Bool := inB s.size 1 20 && s.data.toList.all fun c => byteB c.toNat
def perB (s : Svc) : Bool := if s.per = 0 then s.least == 0 && s.most == 0 && s.load == 0 && s.cool == 0 else inB s.per 0 1000000 && inB s.load 0 1000000 && inB s.least 0 10 && inB s.most s.least 10 && inB s.cool 0 3
def svcB (now : Int) (s : Svc) : Bool := nameB s.name && inB s.version 1 now && inB s.image 1 1000000 && inB s.next 1 1000000 && inB s.want 0 10 && inB s.down 0 10 && inB s.over 0 10 && !(s.down + s.over == 0) && perB s
theorem nameB_iff (s : ByteArray) : nameB s = true ↔ inB s.size 1 20 = true ∧ ∀ i (h : i < s.size), byteB (s[i]'h).toNat = true := by
 unfold nameB
 rw [Bool.and_eq_true, List.all_eq_true]
 refine and_congr_right fun _ => ⟨fun h i hi => h _ ?_, fun h c hc => ?_⟩
 ·exact Array.getElem_mem_toList (by simpa using hi)
 ·obtain ⟨i, hi, rfl⟩ := List.mem_iff_getElem.1 hc
  exact h i (by simpa using hi)
theorem nameB_no (s : ByteArray) (i : Nat) (h : i < s.size) (hb : byteB (s[i]'h).toNat = false) : nameB s = false := by
 cases hn : nameB s with
 | false => rfl
 | true => rw [((nameB_iff s).1 hn).2 i h] at hb; cases hb
theorem nameB_size (s : ByteArray) (h : inB s.size 1 20 = false) : nameB s = false := by
 unfold nameB; rw [h]; rfl
end Go.Proofs.YtbceafpodamnfabGreatDoor

namespace Go.Proofs.YtbceafpodamnfabGreatDoor
open Go.RowKit
theorem ret_bool {a b : Bool} (h : a = b) : Ending.returned (.bool a) = .returned (.bool b) := by rw [h]
theorem ret_int {k : IntKind} {a b : Int} (h : a = b) : Ending.returned (.int k a) = .returned (.int k b) := by rw [h]
set_option maxHeartbeats 400000 in
theorem l1In_any (n lo hi : Int) (w : World) :
  Calls Tryz.prog 86 #[.int .i64 n, .int .i64 lo, .int .i64 hi] w fun e w' => e = .returned (.bool (inB n lo hi)) ∧ w' = w := by
 go_enter Tryz.func86, Tryz.ntmps86
 go_wp2
 all_goals
  go_ret
  exact ⟨ret_bool (by rw [Bool.eq_iff_iff]; simp [inB]; try omega), rfl⟩
set_option maxHeartbeats 400000 in
theorem szService_any (s : Svc) (left : Int) (w : World) (h0 : 0 ≤ left) (h1 : left ≤ 1048576) (hs : s.name.size ≤ maxLen) :
  Calls Tryz.prog 83 #[.agg #[.string s.name, .int .i64 s.version, .bool s.gone, .int .i64 s.image, .int .i64 s.want, .int .i64 s.down, .int .i64 s.over, .int .i64 s.next, .int .i64 s.per, .int .i64 s.least, .int .i64 s.most, .int .i64 s.load, .int .i64 s.cool], .int .i64 left] w fun e w' => ∃ r, e = .returned (.int .i64 r) ∧ -1 ≤ r ∧ r ≤ left ∧ Below w.heap.size w w' := by
 unfold maxLen at hs
 go_enter Tryz.func83, Tryz.ntmps83
 go_wp2
 all_goals
  go_ret
  exact ⟨_, rfl, by omega, by omega, (Below.refl _ _).alloc (Nat.le_refl _) _⟩
set_option maxHeartbeats 400000 in
theorem szCopy_any (s : Cp) (left : Int) (w : World) (h0 : 0 ≤ left) (h1 : left ≤ 1048576) (hs : s.service.size ≤ maxLen) (hs2 : s.berth.size ≤ maxLen) :
  Calls Tryz.prog 84 #[.agg #[.string s.service, .int .i64 s.number, .int .i64 s.version, .int .i64 s.image, .int .i64 s.state, .bool s.ending, .string s.berth], .int .i64 left] w fun e w' => ∃ r, e = .returned (.int .i64 r) ∧ -1 ≤ r ∧ r ≤ left ∧ Below w.heap.size w w' := by
 unfold maxLen at hs hs2
 go_enter Tryz.func84, Tryz.ntmps84
 go_wp2
 all_goals
  go_ret
  exact ⟨_, rfl, by omega, by omega, (Below.refl _ _).alloc (Nat.le_refl _) _⟩
set_option maxHeartbeats 400000 in
theorem szBerth_any (s : Bt) (left : Int) (w : World) (h0 : 0 ≤ left) (h1 : left ≤ 1048576) (hs : s.name.size ≤ maxLen) :
  Calls Tryz.prog 85 #[.agg #[.string s.name, .bool s.drain], .int .i64 left] w fun e w' => ∃ r, e = .returned (.int .i64 r) ∧ -1 ≤ r ∧ r ≤ left ∧ Below w.heap.size w w' := by
 unfold maxLen at hs
 go_enter Tryz.func85, Tryz.ntmps85
 go_wp2
 all_goals
  go_ret
  exact ⟨_, rfl, by omega, by omega, (Below.refl _ _).alloc (Nat.le_refl _) _⟩
end Go.Proofs.YtbceafpodamnfabGreatDoor

namespace Go.Proofs.YtbceafpodamnfabGreatDoor
open Go.RowKit
set_option maxHeartbeats 400000 in
theorem szServiceS_any (l : List Svc) (ao : Option Addr) (cap : Nat) (left : Int) (w : World) (h0 : 0 ≤ left) (h1 : left ≤ 1048576) (hl : l.length ≤ maxLen) (hs : ∀ s ∈ l, s.name.size ≤ maxLen)
  (hc : l ≠ [] → ∃ b off, ao = some ⟨b, off, none⟩ ∧ b < w.heap.size ∧ SvcsAt w b off l) :
  Calls Tryz.prog 35 #[.slice ao l.length cap, .int .i64 left] w fun e w' => ∃ r, e = .returned (.int .i64 r) ∧ -1 ≤ r ∧ r ≤ left ∧ (0 ≤ r → (l.length : Int) ≤ left) ∧ Below w.heap.size w w' := by
 unfold maxLen at hl
 by_cases hneg : left - l.length < 0
 ·go_enter Tryz.func35, Tryz.ntmps35
  go_wp2
  go_ret
  exact ⟨-1, rfl, by omega, by omega, by omega, Below.refl _ _⟩
 go_enter Tryz.func35, Tryz.ntmps35
 go_wp2
 go_loopw [1, 5] (fun lv iv wr => ∃ (k : Nat) (lf : Int), k ≤ l.length ∧ iv = .int .i64 k ∧ lv = .int .i64 lf ∧ 0 ≤ lf ∧ lf ≤ left ∧ Below w.heap.size w wr) (fun _ i _ => l.length - (intOf i).toNat)
 case atStart => exact ⟨0, _, by omega, rfl, rfl, by omega, by omega, Below.refl _ _⟩
 case round =>
  obtain ⟨k, lf, hk, rfl, rfl, hl0, hl1, hb⟩ := hrel
  by_cases hlt : k < l.length
  ·obtain ⟨b, off, rfl, hbs, hat⟩ := hc (by intro h; rw [h] at hlt; simp at hlt)
   obtain ⟨s, hsk⟩ : ∃ s, l[k]? = some s := ⟨l[k], by simp [hlt]⟩
   have hmem := hs s (List.mem_of_getElem? hsk)
   have hcs := (hat k s hsk).below hb hbs
   unfold SvcAt at hcs
   obtain ⟨c0, c1, c2, c3, c4, c5, c6, c7, c8, c9, c10, c11, c12⟩ := hcs
   clear hsk hat hs
   go_wp2_with fail
   refine (szService_any s lf _ hl0 (by omega) hmem).mono ?_
   rintro e w1 ⟨r, rfl, hr0, hr1, hb1⟩
   have hb2 := hb.trans (hb1.mono hb.size)
   clear c0 c1 c2 c3 c4 c5 c6 c7 c8 c9 c10 c11 c12
   go_wp2
   ·go_ret
    exact ⟨-1, rfl, by omega, by omega, by omega, hb2⟩
   ·go_roundw
    case rel => exact ⟨k + 1, r, by omega, by go_num, rfl, by omega, by omega, hb2⟩
    case measure => simp [intOf]; omega
  ·go_wp2
   go_ret
   exact ⟨lf, rfl, by omega, by omega, by omega, hb⟩
set_option maxHeartbeats 400000 in
theorem szCopyS_any (l : List Cp) (ao : Option Addr) (cap : Nat) (left : Int) (w : World) (h0 : 0 ≤ left) (h1 : left ≤ 1048576) (hl : l.length ≤ maxLen) (hs : ∀ s ∈ l, s.service.size ≤ maxLen ∧ s.berth.size ≤ maxLen)
  (hc : l ≠ [] → ∃ b off, ao = some ⟨b, off, none⟩ ∧ b < w.heap.size ∧ CpsAt w b off l) :
  Calls Tryz.prog 36 #[.slice ao l.length cap, .int .i64 left] w fun e w' => ∃ r, e = .returned (.int .i64 r) ∧ -1 ≤ r ∧ r ≤ left ∧ (0 ≤ r → (l.length : Int) ≤ left) ∧ Below w.heap.size w w' := by
 unfold maxLen at hl
 by_cases hneg : left - l.length < 0
 ·go_enter Tryz.func36, Tryz.ntmps36
  go_wp2
  go_ret
  exact ⟨-1, rfl, by omega, by omega, by omega, Below.refl _ _⟩
 go_enter Tryz.func36, Tryz.ntmps36
 go_wp2
 go_loopw [1, 5] (fun lv iv wr => ∃ (k : Nat) (lf : Int), k ≤ l.length ∧ iv = .int .i64 k ∧ lv = .int .i64 lf ∧ 0 ≤ lf ∧ lf ≤ left ∧ Below w.heap.size w wr) (fun _ i _ => l.length - (intOf i).toNat)
 case atStart => exact ⟨0, _, by omega, rfl, rfl, by omega, by omega, Below.refl _ _⟩
 case round =>
  obtain ⟨k, lf, hk, rfl, rfl, hl0, hl1, hb⟩ := hrel
  by_cases hlt : k < l.length
  ·obtain ⟨b, off, rfl, hbs, hat⟩ := hc (by intro h; rw [h] at hlt; simp at hlt)
   obtain ⟨s, hsk⟩ : ∃ s, l[k]? = some s := ⟨l[k], by simp [hlt]⟩
   have hmem := hs s (List.mem_of_getElem? hsk)
   have hcs := (hat k s hsk).below hb hbs
   unfold CpAt at hcs
   obtain ⟨c0, c1, c2, c3, c4, c5, c6⟩ := hcs
   clear hsk hat hs
   go_wp2_with fail
   refine (szCopy_any s lf _ hl0 (by omega) hmem.1 hmem.2).mono ?_
   rintro e w1 ⟨r, rfl, hr0, hr1, hb1⟩
   have hb2 := hb.trans (hb1.mono hb.size)
   clear c0 c1 c2 c3 c4 c5 c6
   go_wp2
   ·go_ret
    exact ⟨-1, rfl, by omega, by omega, by omega, hb2⟩
   ·go_roundw
    case rel => exact ⟨k + 1, r, by omega, by go_num, rfl, by omega, by omega, hb2⟩
    case measure => simp [intOf]; omega
  ·go_wp2
   go_ret
   exact ⟨lf, rfl, by omega, by omega, by omega, hb⟩
set_option maxHeartbeats 400000 in
theorem szBerthS_any (l : List Bt) (ao : Option Addr) (cap : Nat) (left : Int) (w : World) (h0 : 0 ≤ left) (h1 : left ≤ 1048576) (hl : l.length ≤ maxLen) (hs : ∀ s ∈ l, s.name.size ≤ maxLen)
  (hc : l ≠ [] → ∃ b off, ao = some ⟨b, off, none⟩ ∧ b < w.heap.size ∧ BtsAt w b off l) :
  Calls Tryz.prog 37 #[.slice ao l.length cap, .int .i64 left] w fun e w' => ∃ r, e = .returned (.int .i64 r) ∧ -1 ≤ r ∧ r ≤ left ∧ (0 ≤ r → (l.length : Int) ≤ left) ∧ Below w.heap.size w w' := by
 unfold maxLen at hl
 by_cases hneg : left - l.length < 0
 ·go_enter Tryz.func37, Tryz.ntmps37
  go_wp2
  go_ret
  exact ⟨-1, rfl, by omega, by omega, by omega, Below.refl _ _⟩
 go_enter Tryz.func37, Tryz.ntmps37
 go_wp2
 go_loopw [1, 5] (fun lv iv wr => ∃ (k : Nat) (lf : Int), k ≤ l.length ∧ iv = .int .i64 k ∧ lv = .int .i64 lf ∧ 0 ≤ lf ∧ lf ≤ left ∧ Below w.heap.size w wr) (fun _ i _ => l.length - (intOf i).toNat)
 case atStart => exact ⟨0, _, by omega, rfl, rfl, by omega, by omega, Below.refl _ _⟩
 case round =>
  obtain ⟨k, lf, hk, rfl, rfl, hl0, hl1, hb⟩ := hrel
  by_cases hlt : k < l.length
  ·obtain ⟨b, off, rfl, hbs, hat⟩ := hc (by intro h; rw [h] at hlt; simp at hlt)
   obtain ⟨s, hsk⟩ : ∃ s, l[k]? = some s := ⟨l[k], by simp [hlt]⟩
   have hmem := hs s (List.mem_of_getElem? hsk)
   have hcs := (hat k s hsk).below hb hbs
   unfold BtAt at hcs
   obtain ⟨c0, c1⟩ := hcs
   clear hsk hat hs
   go_wp2_with fail
   refine (szBerth_any s lf _ hl0 (by omega) hmem).mono ?_
   rintro e w1 ⟨r, rfl, hr0, hr1, hb1⟩
   have hb2 := hb.trans (hb1.mono hb.size)
   clear c0 c1
   go_wp2
   ·go_ret
    exact ⟨-1, rfl, by omega, by omega, by omega, hb2⟩
   ·go_roundw
    case rel => exact ⟨k + 1, r, by omega, by go_num, rfl, by omega, by omega, hb2⟩
    case measure => simp [intOf]; omega
  ·go_wp2
   go_ret
   exact ⟨lf, rfl, by omega, by omega, by omega, hb⟩
end Go.Proofs.YtbceafpodamnfabGreatDoor

namespace Go.Proofs.YtbceafpodamnfabGreatDoor
open Go.RowKit
set_option maxHeartbeats 1000000 in
theorem toService_any (s : Svc) (w : World) :
  Calls Tryz.prog 96 #[.agg #[.string s.name, .int .i64 s.version, .bool s.gone, .int .i64 s.image, .int .i64 s.want, .int .i64 s.down, .int .i64 s.over, .int .i64 s.next, .int .i64 s.per, .int .i64 s.least, .int .i64 s.most, .int .i64 s.load, .int .i64 s.cool]] w fun e w' => e = .returned (.agg #[.string s.name, .int .i64 s.version, .bool s.gone, .int .i64 s.image, .int .i64 s.want, .int .i64 s.down, .int .i64 s.over, .int .i64 s.next, .int .i64 s.per, .int .i64 s.least, .int .i64 s.most, .int .i64 s.load, .int .i64 s.cool]) ∧ Below w.heap.size w w' := by
 go_enter Tryz.func96, Tryz.ntmps96
 go_wp2
 refine bodyPost_ret (v := .agg #[.string s.name, .int .i64 s.version, .bool s.gone, .int .i64 s.image, .int .i64 s.want, .int .i64 s.down, .int .i64 s.over, .int .i64 s.next, .int .i64 s.per, .int .i64 s.least, .int .i64 s.most, .int .i64 s.load, .int .i64 s.cool]) (by simp [results, Tryz.results96, go_sem]) rfl ⟨rfl, ?_⟩
 exact (((Below.refl _ _).alloc (Nat.le_refl _) _).alloc (by simp) _).alloc (by simp; omega) _
set_option maxHeartbeats 1000000 in
theorem toCopy_any (s : Cp) (w : World) :
  Calls Tryz.prog 97 #[.agg #[.string s.service, .int .i64 s.number, .int .i64 s.version, .int .i64 s.image, .int .i64 s.state, .bool s.ending, .string s.berth]] w fun e w' => e = .returned (.agg #[.string s.service, .int .i64 s.number, .int .i64 s.version, .int .i64 s.image, .int .i64 s.state, .bool s.ending, .string s.berth]) ∧ Below w.heap.size w w' := by
 go_enter Tryz.func97, Tryz.ntmps97
 go_wp2
 refine bodyPost_ret (v := .agg #[.string s.service, .int .i64 s.number, .int .i64 s.version, .int .i64 s.image, .int .i64 s.state, .bool s.ending, .string s.berth]) (by simp [results, Tryz.results97, go_sem]) rfl ⟨rfl, ?_⟩
 exact (((Below.refl _ _).alloc (Nat.le_refl _) _).alloc (by simp) _).alloc (by simp; omega) _
set_option maxHeartbeats 1000000 in
theorem toBerth_any (s : Bt) (w : World) :
  Calls Tryz.prog 98 #[.agg #[.string s.name, .bool s.drain]] w fun e w' => e = .returned (.agg #[.string s.name, .bool s.drain]) ∧ Below w.heap.size w w' := by
 go_enter Tryz.func98, Tryz.ntmps98
 go_wp2
 refine bodyPost_ret (v := .agg #[.string s.name, .bool s.drain]) (by simp [results, Tryz.results98, go_sem]) rfl ⟨rfl, ?_⟩
 exact (((Below.refl _ _).alloc (Nat.le_refl _) _).alloc (by simp) _).alloc (by simp; omega) _
end Go.Proofs.YtbceafpodamnfabGreatDoor

namespace Go.Proofs.YtbceafpodamnfabGreatDoor
open Go.RowKit
section
variable {P : Program}
theorem setRow_block (w : World) (g k : Nat) (cs : Array Value) (h : k ≠ g) : (w.setRow g cs).heap[k]? = w.heap[k]? := by
 unfold World.setRow
 simp only [Array.getElem?_modify]
 rw [if_neg (by omega)]
theorem setRow_size (w : World) (g : Nat) (cs : Array Value) : (w.setRow g cs).heap.size = w.heap.size := by
 unfold World.setRow; simp
theorem below_setRow' (w : World) (g : Nat) (cs : Array Value) : Below g w (w.setRow g cs) :=
 ⟨rfl, rfl, rfl, by rw [setRow_size]; exact Nat.le_refl _, fun k hk => setRow_block w g k cs (by omega)⟩
theorem run_storeVar_at (w : World) (g off : Nat) (t ty : TypeId) (cur cells : Array Value) (hg : w.heap[g]? = some (.cells cur t (0, 0))) (hi : (P.info? ty).map (·.size) = some cells.size)
  (hfit : off + cells.size ≤ cur.size) (h1 : cells.all (·.oneCell') = true) :
  (storeVar ty ⟨g, off, none⟩ (.agg cells)).run P w = .ok () (w.setRow g (splice cur.toList off cells.toList).toArray) := by
 have := run_storeCells_at P g off t cells.toList 0 cur w hg (by simpa using hfit) (fun v hv => (Array.all_eq_true_iff_forall_mem.1 h1) v (by simpa using hv))
 cases hq : P.info? ty with
 | none => simp [hq] at hi
 | some i =>
  have hs : cells.size = i.size := by simp [hq] at hi; omega
  simp only [Nat.add_zero, List.append_assoc] at this
  simp [storeVar, sizeOf, typeInfo, hq, Value.cells, hs, this, splice]
theorem wpList_store_at {ops : Array Oper} {rest : List Oper} {o : Oper} {a : Act} {w : World} {Q : Exit → Act → World → Prop} (hgd : o.guard = none) (ty : TypeId) (x y : Operand) (ho : o.op = .store ty x y)
  (g off : Nat) (cells : Array Value) (hx : a.eval x = .pointer (some ⟨g, off, none⟩)) (hy : a.eval y = .agg cells) (t : TypeId) (cur : Array Value) (hg : w.heap[g]? = some (.cells cur t (0, 0)))
  (hi : (P.info? ty).map (·.size) = some cells.size) (hfit : off + cells.size ≤ cur.size) (h1 : cells.all (·.oneCell') = true)
  (h : ∀ w', Hid (w'.heap[g]? = some (.cells (splice cur.toList off cells.toList).toArray t (0, 0))) → Hid (w'.heap.size = w.heap.size) → Below g w w' → wpList P ops Q rest (a.put o.dst undef) w') : wpList P ops Q (o :: rest) a w := by
 refine wpList_plain hgd fun K hK => ?_
 unfold Oper.wp execOp
 simp only [ho, hx, hy, Instr.storeAt, Instr.sureAddr, Sem.run_bind, Sem.run_pure, Result.andThen_ok, run_storeVar_at w g off t ty cur cells hg hi hfit h1]
 exact hK _ _ (h _ (setRow_heap w g cur _ t _ hg) (setRow_size w g _) (below_setRow' w g _))
theorem wpList_make_at {ops : Array Oper} {rest : List Oper} {o : Oper} {a : Act} {w : World} {Q : Exit → Act → World → Prop} (hgd : o.guard = none) (l c : Operand) (t : TypeId) (hop : o.op = Op.makeSlice t l c)
  (e : TypeId) (z : Value) (size bytes : Nat) (ht : P.underlying t = some (.slice e)) (hinfo : (P.info? e).map (fun i => (i.zero, i.size, i.bytes)) = some (some z, size, bytes))
  (n : Nat) (hl : a.eval l = .int .i64 (n : Int)) (hc : a.eval c = .int .i64 (n : Int)) (b2 : bytes * n ≤ 281474976710656) (b3 : n ≤ maxLen)
  (h : ∀ w', Hid (w'.heap[w.heap.size]? = some (.cells (madeCells z.cells (n * size)) e (0, 0))) → Hid (w'.heap.size = w.heap.size + 1) → Below w.heap.size w w' → wpList P ops Q rest (a.put o.dst (.slice (some ⟨w.heap.size, 0, none⟩) n n)) w') :
  wpList P ops Q (o :: rest) a w := by
 obtain ⟨i, hi, hz, hs, hb⟩ := info_parts hinfo
 subst hs hb
 unfold maxLen at b3
 have hb2 : (i.bytes : Int) * (n : Int) ≤ 281474976710656 := by
  have h : ((i.bytes * n : Nat) : Int) ≤ 281474976710656 := by omega
  rwa [Int.natCast_mul] at h
 have hr := run_make (P := P) w t e i z ht hi hz .i64 .i64 n n (by omega) (Int.le_refl _) hb2 (by omega)
 simp only [Int.toNat_natCast] at hr
 refine wpList_plain hgd fun K hK => ?_
 unfold Oper.wp
 simp [execOp, hop, hl, hc, hr, Result.andThen]
 refine hK _ _ (h _ (heap_alloc_new w _) (by show (w.heap.push _).size = _; simp) ((Below.refl _ _).alloc (Nat.le_refl _) _))
end
theorem blk_cell {w : World} {b : Nat} {cs : Array Value} {t : TypeId} {fr : Nat × Nat} (h : w.heap[b]? = some (.cells cs t fr)) (o : Nat) {v : Value} (hv : cs[o]? = some v) : w.cell? ⟨b, o, none⟩ = some v := by
 rw [cell_of_row w b o cs t fr h]; exact hv
theorem blk_frozen {w : World} {b : Nat} {cs : Array Value} {t : TypeId} (h : w.heap[b]? = some (.cells cs t (0, 0))) (o : Nat) : w.frozen? ⟨b, o, none⟩ = false := by
 simp [World.frozen?, h]
theorem blk_set {w : World} {b : Nat} {cs : Array Value} {t : TypeId} (h : w.heap[b]? = some (.cells cs t (0, 0))) (o : Nat) (v : Value) : (w.setCell ⟨b, o, none⟩ v).heap[b]? = some (.cells (cs.setIfInBounds o v) t (0, 0)) := by
 rw [setCell_eq_setRow w b o cs t (0, 0) v h]; exact setRow_heap w b cs _ t _ h
theorem size_setCell (w : World) (a : Addr) (v : Value) : (w.setCell a v).heap.size = w.heap.size := by simp [World.setCell]
theorem three_new (w : World) (A B C : Obj) : (((w.alloc A).alloc B).alloc C).heap[w.heap.size]? = some A ∧ (((w.alloc A).alloc B).alloc C).heap[w.heap.size + 1]? = some B ∧ (((w.alloc A).alloc B).alloc C).heap[w.heap.size + 1 + 1]? = some C ∧ (((w.alloc A).alloc B).alloc C).heap.size = w.heap.size + 1 + 1 + 1 := by
 have e : (((w.alloc A).alloc B).alloc C).heap = ((w.heap.push A).push B).push C := rfl
 rw [e]
 refine ⟨?_, ?_, ?_, by simp⟩
 ·rw [Array.getElem?_push, if_neg (by simp; omega), Array.getElem?_push, if_neg (by simp), Array.getElem?_push, if_pos rfl]
 ·rw [Array.getElem?_push, if_neg (by simp), Array.getElem?_push, if_pos (by simp)]
 ·rw [Array.getElem?_push, if_pos (by simp)]
def Filled {α : Type} (c : α → List Value) (n : Nat) (l : List α) (k : Nat) (cur : List Value) : Prop :=
 cur.length = l.length * n ∧ ∀ i s, i < k → l[i]? = some s → ∀ j, j < n → cur[i * n + j]? = (c s)[j]?
theorem Filled.step {α : Type} {c : α → List Value} {n : Nat} {l : List α} {k : Nat} {cur : List Value} (h : Filled c n l k cur) {s : α} (hs : l[k]? = some s) (hc : (c s).length = n) :
  Filled c n l (k + 1) (splice cur (k * n) (c s)) := by
 obtain ⟨hlen, hf⟩ := h
 have hk : k < l.length := by
  rcases Nat.lt_or_ge k l.length with h | h
  ·exact h
  ·rw [List.getElem?_eq_none h] at hs; cases hs
 have hle : k * n + n ≤ cur.length := by rw [hlen, ← Nat.succ_mul]; exact Nat.mul_le_mul_right n hk
 refine ⟨by rw [length_splice _ _ _ (by omega), hlen], fun i s' hi hs' j hj => ?_⟩
 unfold splice
 by_cases hik : i = k
 ·subst hik
  rw [hs] at hs'; cases hs'
  rw [List.getElem?_append_right (by simp; omega), List.getElem?_append_left (by simp; omega)]
  congr 1
  simp; omega
 ·have hlt : i < k := by omega
  have : i * n + n ≤ k * n := by rw [← Nat.succ_mul]; exact Nat.mul_le_mul_right n hlt
  rw [List.getElem?_append_left (by simp; omega), List.getElem?_take, if_pos (by omega)]
  exact hf i s' hlt hs' j hj
def Svc.cells (s : Svc) : List Value := (#[.string s.name, .int .i64 s.version, .bool s.gone, .int .i64 s.image, .int .i64 s.want, .int .i64 s.down, .int .i64 s.over, .int .i64 s.next, .int .i64 s.per, .int .i64 s.least, .int .i64 s.most, .int .i64 s.load, .int .i64 s.cool] : Array Value).toList
def Cp.cells (s : Cp) : List Value := (#[.string s.service, .int .i64 s.number, .int .i64 s.version, .int .i64 s.image, .int .i64 s.state, .bool s.ending, .string s.berth] : Array Value).toList
def Bt.cells (s : Bt) : List Value := (#[.string s.name, .bool s.drain] : Array Value).toList
theorem one_Svc (s : Svc) : (#[.string s.name, .int .i64 s.version, .bool s.gone, .int .i64 s.image, .int .i64 s.want, .int .i64 s.down, .int .i64 s.over, .int .i64 s.next, .int .i64 s.per, .int .i64 s.least, .int .i64 s.most, .int .i64 s.load, .int .i64 s.cool] : Array Value).all (·.oneCell') = true := by simp [Value.oneCell']
theorem one_Cp (s : Cp) : (#[.string s.service, .int .i64 s.number, .int .i64 s.version, .int .i64 s.image, .int .i64 s.state, .bool s.ending, .string s.berth] : Array Value).all (·.oneCell') = true := by simp [Value.oneCell']
theorem one_Bt (s : Bt) : (#[.string s.name, .bool s.drain] : Array Value).all (·.oneCell') = true := by simp [Value.oneCell']
theorem cell_row {w : World} {b : Nat} {cur : Array Value} {t : TypeId} {fr : Nat × Nat} (h : w.heap[b]? = some (.cells cur t fr)) (o : Nat) : w.cell? ⟨b, o, none⟩ = cur.toList[o]? := by
 rw [cell_of_row w b o cur t fr h]; simp
theorem svcsAt_of_filled {w : World} {b : Nat} {cur : Array Value} {t : TypeId} {fr : Nat × Nat} {l : List Svc} (h : w.heap[b]? = some (.cells cur t fr)) (hf : Filled Svc.cells 13 l l.length cur.toList) : SvcsAt w b 0 l := by
 intro i s hs
 have hi : i < l.length := by
  rcases Nat.lt_or_ge i l.length with h | h
  ·exact h
  ·rw [List.getElem?_eq_none h] at hs; cases hs
 have := hf.2 i s hi hs
 unfold SvcAt
 simp only [cell_row h, Nat.zero_add]
 refine ⟨?_, ?_, ?_, ?_, ?_, ?_, ?_, ?_, ?_, ?_, ?_, ?_, ?_⟩
 ·exact this 0 (by omega)
 ·exact this 1 (by omega)
 ·exact this 2 (by omega)
 ·exact this 3 (by omega)
 ·exact this 4 (by omega)
 ·exact this 5 (by omega)
 ·exact this 6 (by omega)
 ·exact this 7 (by omega)
 ·exact this 8 (by omega)
 ·exact this 9 (by omega)
 ·exact this 10 (by omega)
 ·exact this 11 (by omega)
 ·exact this 12 (by omega)
theorem cpsAt_of_filled {w : World} {b : Nat} {cur : Array Value} {t : TypeId} {fr : Nat × Nat} {l : List Cp} (h : w.heap[b]? = some (.cells cur t fr)) (hf : Filled Cp.cells 7 l l.length cur.toList) : CpsAt w b 0 l := by
 intro i s hs
 have hi : i < l.length := by
  rcases Nat.lt_or_ge i l.length with h | h
  ·exact h
  ·rw [List.getElem?_eq_none h] at hs; cases hs
 have := hf.2 i s hi hs
 unfold CpAt
 simp only [cell_row h, Nat.zero_add]
 refine ⟨?_, ?_, ?_, ?_, ?_, ?_, ?_⟩
 ·exact this 0 (by omega)
 ·exact this 1 (by omega)
 ·exact this 2 (by omega)
 ·exact this 3 (by omega)
 ·exact this 4 (by omega)
 ·exact this 5 (by omega)
 ·exact this 6 (by omega)
theorem btsAt_of_filled {w : World} {b : Nat} {cur : Array Value} {t : TypeId} {fr : Nat × Nat} {l : List Bt} (h : w.heap[b]? = some (.cells cur t fr)) (hf : Filled Bt.cells 2 l l.length cur.toList) : BtsAt w b 0 l := by
 intro i s hs
 have hi : i < l.length := by
  rcases Nat.lt_or_ge i l.length with h | h
  ·exact h
  ·rw [List.getElem?_eq_none h] at hs; cases hs
 have := hf.2 i s hi hs
 unfold BtAt
 simp only [cell_row h, Nat.zero_add]
 refine ⟨?_, ?_⟩
 ·exact this 0 (by omega)
 ·exact this 1 (by omega)
end Go.Proofs.YtbceafpodamnfabGreatDoor

namespace Go.Proofs.YtbceafpodamnfabGreatDoor
open Go.RowKit
theorem Tryz.infoService : (Tryz.prog.info? 67).map (fun i => (i.zero, i.size, i.bytes)) = some (some (.agg #[.string ⟨#[]⟩, .int .i64 0, .bool false, .int .i64 0, .int .i64 0, .int .i64 0, .int .i64 0, .int .i64 0, .int .i64 0, .int .i64 0, .int .i64 0, .int .i64 0, .int .i64 0]), 13, 112) := by kernel_rfl
theorem Tryz.infosService : (Tryz.prog.info? 67).map (·.size) = some 13 := by kernel_rfl
set_option maxHeartbeats 1000000 in
theorem toServiceS_any (l : List Svc) (ao : Option Addr) (cap : Nat) (w : World) (hl : l.length ≤ 1048576)
  (hc : l ≠ [] → ∃ b off, ao = some ⟨b, off, none⟩ ∧ b < w.heap.size ∧ SvcsAt w b off l) :
  Calls Tryz.prog 42 #[.slice ao l.length cap] w fun e w' => e = .returned (.slice (some ⟨w.heap.size, 0, none⟩) l.length l.length) ∧ w.heap.size < w'.heap.size ∧ SvcsAt w' w.heap.size 0 l ∧ Below w.heap.size w w' := by
 go_enter Tryz.func42, Tryz.ntmps42
 go_wp2_with (at_make; refine wpList_make_at rfl (.tmp 6) (.tmp 6) 32 rfl 67 _ 13 112 Tryz.underlying32 Tryz.infoService l.length rfl rfl (by omega) (by unfold maxLen; omega) ?_; intro w0 hrow0 hsz0 hb0)
 go_loopw [4] (fun iv wr => ∃ (k : Nat), k ≤ l.length ∧ iv = .int .i64 k ∧ w.heap.size < wr.heap.size ∧ Below w.heap.size w wr ∧ ∃ cur : Array Value, Hid (wr.heap[w.heap.size]? = some (.cells cur 67 (0, 0))) ∧ Hid (Filled Svc.cells 13 l k cur.toList)) (fun i _ => l.length - (intOf i).toNat)
 case atStart => exact ⟨0, by omega, rfl, by rw [hsz0.out]; omega, hb0, _, hrow0, ⟨by rw [Array.length_toList, size_madeCells], fun i s hi => absurd hi (by omega)⟩⟩
 case round =>
  obtain ⟨k, hk, rfl, hsz, hb, cur, hrow, hfill⟩ := hrel
  by_cases hlt : k < l.length
  ·obtain ⟨b, off, rfl, hbs, hat⟩ := hc (by intro h; rw [h] at hlt; simp at hlt)
   obtain ⟨s, hsk⟩ : ∃ s, l[k]? = some s := ⟨l[k], by simp [hlt]⟩
   have hcs := (hat k s hsk).below hb hbs
   have hsk' : Hid (l[k]? = some s) := hsk
   unfold SvcAt at hcs
   obtain ⟨c0, c1, c2, c3, c4, c5, c6, c7, c8, c9, c10, c11, c12⟩ := hcs
   clear hsk hat hc
   go_wp2_with fail
   refine (toService_any s _).mono ?_
   rintro e w1 ⟨rfl, hb1⟩
   clear c0 c1 c2 c3 c4 c5 c6 c7 c8 c9 c10 c11 c12
   have hb2 := hb.trans (hb1.mono hb.size)
   have hrow1 : Hid (w1.heap[w.heap.size]? = some (.cells cur 67 (0, 0))) := (hb1.block _ hsz).trans hrow.out
   have hlen := hfill.out.1
   have hfit : k * 13 + 13 ≤ cur.size := by rw [Array.length_toList] at hlen; omega
   go_wp2_with (refine wpList_store_at rfl 67 (.tmp 21) (.tmp 20) rfl w.heap.size (k * 13) #[.string s.name, .int .i64 s.version, .bool s.gone, .int .i64 s.image, .int .i64 s.want, .int .i64 s.down, .int .i64 s.over, .int .i64 s.next, .int .i64 s.per, .int .i64 s.least, .int .i64 s.most, .int .i64 s.load, .int .i64 s.cool] rfl rfl 67 cur hrow1.out Tryz.infosService hfit (one_Svc s) ?_; intro w2 hrow2 hsz2 hb3)
   have hsz3 : w.heap.size < w2.heap.size := by rw [hsz2.out]; exact Nat.lt_of_lt_of_le hsz hb1.size
   have hb4 : Below w.heap.size w w2 := hb2.trans hb3
   go_roundw
   case rel => exact ⟨k + 1, by omega, by go_num, hsz3, hb4, _, hrow2, hfill.out.step hsk'.out rfl⟩
   case measure => simp [intOf]; omega
  ·go_wp2
   go_ret
   have hkl : k = l.length := by omega
   rw [hkl] at hfill
   exact ⟨rfl, hsz, svcsAt_of_filled hrow.out hfill.out, hb⟩
end Go.Proofs.YtbceafpodamnfabGreatDoor

namespace Go.Proofs.YtbceafpodamnfabGreatDoor
open Go.RowKit
theorem Tryz.infoCopy : (Tryz.prog.info? 149).map (fun i => (i.zero, i.size, i.bytes)) = some (some (.agg #[.string ⟨#[]⟩, .int .i64 0, .int .i64 0, .int .i64 0, .int .i64 0, .bool false, .string ⟨#[]⟩]), 7, 72) := by kernel_rfl
theorem Tryz.infosCopy : (Tryz.prog.info? 149).map (·.size) = some 7 := by kernel_rfl
set_option maxHeartbeats 1000000 in
theorem toCopyS_any (l : List Cp) (ao : Option Addr) (cap : Nat) (w : World) (hl : l.length ≤ 1048576)
  (hc : l ≠ [] → ∃ b off, ao = some ⟨b, off, none⟩ ∧ b < w.heap.size ∧ CpsAt w b off l) :
  Calls Tryz.prog 43 #[.slice ao l.length cap] w fun e w' => e = .returned (.slice (some ⟨w.heap.size, 0, none⟩) l.length l.length) ∧ w.heap.size < w'.heap.size ∧ CpsAt w' w.heap.size 0 l ∧ Below w.heap.size w w' := by
 go_enter Tryz.func43, Tryz.ntmps43
 go_wp2_with (at_make; refine wpList_make_at rfl (.tmp 6) (.tmp 6) 33 rfl 149 _ 7 72 Tryz.underlying33 Tryz.infoCopy l.length rfl rfl (by omega) (by unfold maxLen; omega) ?_; intro w0 hrow0 hsz0 hb0)
 go_loopw [4] (fun iv wr => ∃ (k : Nat), k ≤ l.length ∧ iv = .int .i64 k ∧ w.heap.size < wr.heap.size ∧ Below w.heap.size w wr ∧ ∃ cur : Array Value, Hid (wr.heap[w.heap.size]? = some (.cells cur 149 (0, 0))) ∧ Hid (Filled Cp.cells 7 l k cur.toList)) (fun i _ => l.length - (intOf i).toNat)
 case atStart => exact ⟨0, by omega, rfl, by rw [hsz0.out]; omega, hb0, _, hrow0, ⟨by rw [Array.length_toList, size_madeCells], fun i s hi => absurd hi (by omega)⟩⟩
 case round =>
  obtain ⟨k, hk, rfl, hsz, hb, cur, hrow, hfill⟩ := hrel
  by_cases hlt : k < l.length
  ·obtain ⟨b, off, rfl, hbs, hat⟩ := hc (by intro h; rw [h] at hlt; simp at hlt)
   obtain ⟨s, hsk⟩ : ∃ s, l[k]? = some s := ⟨l[k], by simp [hlt]⟩
   have hcs := (hat k s hsk).below hb hbs
   have hsk' : Hid (l[k]? = some s) := hsk
   unfold CpAt at hcs
   obtain ⟨c0, c1, c2, c3, c4, c5, c6⟩ := hcs
   clear hsk hat hc
   go_wp2_with fail
   refine (toCopy_any s _).mono ?_
   rintro e w1 ⟨rfl, hb1⟩
   clear c0 c1 c2 c3 c4 c5 c6
   have hb2 := hb.trans (hb1.mono hb.size)
   have hrow1 : Hid (w1.heap[w.heap.size]? = some (.cells cur 149 (0, 0))) := (hb1.block _ hsz).trans hrow.out
   have hlen := hfill.out.1
   have hfit : k * 7 + 7 ≤ cur.size := by rw [Array.length_toList] at hlen; omega
   go_wp2_with (refine wpList_store_at rfl 149 (.tmp 21) (.tmp 20) rfl w.heap.size (k * 7) #[.string s.service, .int .i64 s.number, .int .i64 s.version, .int .i64 s.image, .int .i64 s.state, .bool s.ending, .string s.berth] rfl rfl 149 cur hrow1.out Tryz.infosCopy hfit (one_Cp s) ?_; intro w2 hrow2 hsz2 hb3)
   have hsz3 : w.heap.size < w2.heap.size := by rw [hsz2.out]; exact Nat.lt_of_lt_of_le hsz hb1.size
   have hb4 : Below w.heap.size w w2 := hb2.trans hb3
   go_roundw
   case rel => exact ⟨k + 1, by omega, by go_num, hsz3, hb4, _, hrow2, hfill.out.step hsk'.out rfl⟩
   case measure => simp [intOf]; omega
  ·go_wp2
   go_ret
   have hkl : k = l.length := by omega
   rw [hkl] at hfill
   exact ⟨rfl, hsz, cpsAt_of_filled hrow.out hfill.out, hb⟩
theorem Tryz.infoBerth : (Tryz.prog.info? 147).map (fun i => (i.zero, i.size, i.bytes)) = some (some (.agg #[.string ⟨#[]⟩, .bool false]), 2, 24) := by kernel_rfl
theorem Tryz.infosBerth : (Tryz.prog.info? 147).map (·.size) = some 2 := by kernel_rfl
set_option maxHeartbeats 1000000 in
theorem toBerthS_any (l : List Bt) (ao : Option Addr) (cap : Nat) (w : World) (hl : l.length ≤ 1048576)
  (hc : l ≠ [] → ∃ b off, ao = some ⟨b, off, none⟩ ∧ b < w.heap.size ∧ BtsAt w b off l) :
  Calls Tryz.prog 44 #[.slice ao l.length cap] w fun e w' => e = .returned (.slice (some ⟨w.heap.size, 0, none⟩) l.length l.length) ∧ w.heap.size < w'.heap.size ∧ BtsAt w' w.heap.size 0 l ∧ Below w.heap.size w w' := by
 go_enter Tryz.func44, Tryz.ntmps44
 go_wp2_with (at_make; refine wpList_make_at rfl (.tmp 6) (.tmp 6) 34 rfl 147 _ 2 24 Tryz.underlying34 Tryz.infoBerth l.length rfl rfl (by omega) (by unfold maxLen; omega) ?_; intro w0 hrow0 hsz0 hb0)
 go_loopw [4] (fun iv wr => ∃ (k : Nat), k ≤ l.length ∧ iv = .int .i64 k ∧ w.heap.size < wr.heap.size ∧ Below w.heap.size w wr ∧ ∃ cur : Array Value, Hid (wr.heap[w.heap.size]? = some (.cells cur 147 (0, 0))) ∧ Hid (Filled Bt.cells 2 l k cur.toList)) (fun i _ => l.length - (intOf i).toNat)
 case atStart => exact ⟨0, by omega, rfl, by rw [hsz0.out]; omega, hb0, _, hrow0, ⟨by rw [Array.length_toList, size_madeCells], fun i s hi => absurd hi (by omega)⟩⟩
 case round =>
  obtain ⟨k, hk, rfl, hsz, hb, cur, hrow, hfill⟩ := hrel
  by_cases hlt : k < l.length
  ·obtain ⟨b, off, rfl, hbs, hat⟩ := hc (by intro h; rw [h] at hlt; simp at hlt)
   obtain ⟨s, hsk⟩ : ∃ s, l[k]? = some s := ⟨l[k], by simp [hlt]⟩
   have hcs := (hat k s hsk).below hb hbs
   have hsk' : Hid (l[k]? = some s) := hsk
   unfold BtAt at hcs
   obtain ⟨c0, c1⟩ := hcs
   clear hsk hat hc
   go_wp2_with fail
   refine (toBerth_any s _).mono ?_
   rintro e w1 ⟨rfl, hb1⟩
   clear c0 c1
   have hb2 := hb.trans (hb1.mono hb.size)
   have hrow1 : Hid (w1.heap[w.heap.size]? = some (.cells cur 147 (0, 0))) := (hb1.block _ hsz).trans hrow.out
   have hlen := hfill.out.1
   have hfit : k * 2 + 2 ≤ cur.size := by rw [Array.length_toList] at hlen; omega
   go_wp2_with (refine wpList_store_at rfl 147 (.tmp 21) (.tmp 20) rfl w.heap.size (k * 2) #[.string s.name, .bool s.drain] rfl rfl 147 cur hrow1.out Tryz.infosBerth hfit (one_Bt s) ?_; intro w2 hrow2 hsz2 hb3)
   have hsz3 : w.heap.size < w2.heap.size := by rw [hsz2.out]; exact Nat.lt_of_lt_of_le hsz hb1.size
   have hb4 : Below w.heap.size w w2 := hb2.trans hb3
   go_roundw
   case rel => exact ⟨k + 1, by omega, by go_num, hsz3, hb4, _, hrow2, hfill.out.step hsk'.out rfl⟩
   case measure => simp [intOf]; omega
  ·go_wp2
   go_ret
   have hkl : k = l.length := by omega
   rw [hkl] at hfill
   exact ⟨rfl, hsz, btsAt_of_filled hrow.out hfill.out, hb⟩
end Go.Proofs.YtbceafpodamnfabGreatDoor

namespace Go.Proofs.YtbceafpodamnfabGreatDoor
open Go.RowKit
structure Bk where
 now : Int
 svcs : List Svc
 cps : List Cp
 bts : List Bt
def SlS (w : World) (ao : Option Addr) (l : List Svc) : Prop := l ≠ [] → ∃ b off, ao = some ⟨b, off, none⟩ ∧ b < w.heap.size ∧ SvcsAt w b off l
def SlC (w : World) (ao : Option Addr) (l : List Cp) : Prop := l ≠ [] → ∃ b off, ao = some ⟨b, off, none⟩ ∧ b < w.heap.size ∧ CpsAt w b off l
def SlB (w : World) (ao : Option Addr) (l : List Bt) : Prop := l ≠ [] → ∃ b off, ao = some ⟨b, off, none⟩ ∧ b < w.heap.size ∧ BtsAt w b off l
theorem SlS.below {w w' : World} {ao : Option Addr} {l : List Svc} (h : SlS w ao l) (hb : Below w.heap.size w w') : SlS w' ao l := fun hl =>
 let ⟨b, off, e, hlt, hat⟩ := h hl
 ⟨b, off, e, Nat.lt_of_lt_of_le hlt hb.size, fun i s hs => (hat i s hs).below hb hlt⟩
theorem SlC.below {w w' : World} {ao : Option Addr} {l : List Cp} (h : SlC w ao l) (hb : Below w.heap.size w w') : SlC w' ao l := fun hl =>
 let ⟨b, off, e, hlt, hat⟩ := h hl
 ⟨b, off, e, Nat.lt_of_lt_of_le hlt hb.size, fun i s hs => (hat i s hs).below hb hlt⟩
theorem SlB.below {w w' : World} {ao : Option Addr} {l : List Bt} (h : SlB w ao l) (hb : Below w.heap.size w w') : SlB w' ao l := fun hl =>
 let ⟨b, off, e, hlt, hat⟩ := h hl
 ⟨b, off, e, Nat.lt_of_lt_of_le hlt hb.size, fun i s hs => (hat i s hs).below hb hlt⟩
def BkAt (w : World) (a1 a2 a3 : Option Addr) (B : Bk) : Prop := SlS w a1 B.svcs ∧ SlC w a2 B.cps ∧ SlB w a3 B.bts
theorem BkAt.below {w w' : World} {a1 a2 a3 : Option Addr} {B : Bk} (h : BkAt w a1 a2 a3 B) (hb : Below w.heap.size w w') : BkAt w' a1 a2 a3 B :=
 ⟨h.1.below hb, h.2.1.below hb, h.2.2.below hb⟩
def Bk.sized (B : Bk) : Prop := B.svcs.length ≤ maxLen ∧ B.cps.length ≤ maxLen ∧ B.bts.length ≤ maxLen ∧ (∀ s ∈ B.svcs, s.name.size ≤ maxLen) ∧ (∀ s ∈ B.cps, s.service.size ≤ maxLen ∧ s.berth.size ≤ maxLen) ∧ (∀ s ∈ B.bts, s.name.size ≤ maxLen)
def Bk.small (B : Bk) : Prop := B.svcs.length ≤ 1048576 ∧ B.cps.length ≤ 1048576 ∧ B.bts.length ≤ 1048576
theorem below_box (w : World) (o : Obj) : Below w.heap.size w (w.alloc o) := (Below.refl _ _).alloc (Nat.le_refl _) _
theorem bcell {W w1 : World} (hb : Below W.heap.size W w1) : (∀ b o, b < W.heap.size → w1.cell? ⟨b, o, none⟩ = W.cell? ⟨b, o, none⟩) ∧ (∀ b o, b < W.heap.size → w1.frozen? ⟨b, o, none⟩ = W.frozen? ⟨b, o, none⟩) :=
 ⟨fun b o h => hb.cell (p := ⟨b, o, none⟩) h, fun b o h => hb.frozen (p := ⟨b, o, none⟩) h⟩
set_option maxHeartbeats 400000 in
theorem szBook_any (B : Bk) (a1 a2 a3 : Option Addr) (c1 c2 c3 : Nat) (left : Int) (w : World) (h0 : 0 ≤ left) (h1 : left ≤ 1048576) (hB : BkAt w a1 a2 a3 B) (hS : B.sized) :
  Calls Tryz.prog 7 #[.agg #[.int .i64 B.now, .slice a1 B.svcs.length c1, .slice a2 B.cps.length c2, .slice a3 B.bts.length c3], .int .i64 left] w fun e w' => ∃ r, e = .returned (.int .i64 r) ∧ -1 ≤ r ∧ r ≤ left ∧ Hid (0 ≤ r → B.small) ∧ Below w.heap.size w w' := by
 go_enter Tryz.func7, Tryz.ntmps7
 go_wp2_with fail
 have hb0 := below_box w (.cells #[.int .i64 B.now, .slice a1 B.svcs.length c1, .slice a2 B.cps.length c2, .slice a3 B.bts.length c3] 26)
 refine (szServiceS_any B.svcs a1 c1 left _ h0 h1 hS.1 hS.2.2.2.1 (hB.1.below hb0)).mono ?_
 rintro e w1 ⟨r1, rfl, hr1, hr1', hq1, hb1⟩
 have hB1 := (hB.below hb0).below hb1
 have hbb1 := hb0.trans (hb1.mono hb0.size)
 obtain ⟨hc1, hf1⟩ := bcell hb1
 have HQ1 : Hid (0 ≤ r1 → (B.svcs.length : Int) ≤ left) := hq1
 clear hq1
 by_cases hn1 : r1 < 0
 ·go_wp2
  go_ret
  exact ⟨-1, rfl, by omega, by omega, fun h => absurd h (by omega), hbb1⟩
 have HL1 : Hid ((B.svcs.length : Int) ≤ left) := HQ1.out (by omega)
 go_wp2_with fail
 refine (szCopyS_any B.cps a2 c2 r1 _ (by omega) (by omega) hS.2.1 hS.2.2.2.2.1 hB1.2.1).mono ?_
 rintro e w2 ⟨r2, rfl, hr2, hr2', hq2, hb2⟩
 have hB2 := hB1.below hb2
 have hbb2 := hbb1.trans (hb2.mono hbb1.size)
 have hz1 : w.heap.size < w1.heap.size := by have := hb1.size; simp at this; omega
 obtain ⟨hc2, hf2⟩ := bcell hb2
 have HQ2 : Hid (0 ≤ r2 → (B.cps.length : Int) ≤ r1) := hq2
 clear hq2
 by_cases hn2 : r2 < 0
 ·go_wp2
  go_ret
  exact ⟨-1, rfl, by omega, by omega, fun h => absurd h (by omega), hbb2⟩
 have HL2 : Hid ((B.cps.length : Int) ≤ r1) := HQ2.out (by omega)
 go_wp2_with fail
 refine (szBerthS_any B.bts a3 c3 r2 _ (by omega) (by omega) hS.2.2.1 hS.2.2.2.2.2 hB2.2.2).mono ?_
 rintro e w3 ⟨r3, rfl, hr3, hr3', hq3, hb3⟩
 have hbb3 := hbb2.trans (hb3.mono hbb2.size)
 have HQ3 : Hid (0 ≤ r3 → (B.bts.length : Int) ≤ r2) := hq3
 clear hq3
 by_cases hn3 : r3 < 0
 ·go_wp2
  go_ret
  exact ⟨-1, rfl, by omega, by omega, fun h => absurd h (by omega), hbb3⟩
 go_wp2
 go_ret
 exact ⟨r3, rfl, by omega, by omega, fun _ => ⟨by have := HL1.out; omega, by have := HL2.out; omega, by have := HQ3.out (by omega); omega⟩, hbb3⟩
set_option maxHeartbeats 400000 in
theorem toBook_any (B : Bk) (a1 a2 a3 : Option Addr) (c1 c2 c3 : Nat) (w : World) (hB : BkAt w a1 a2 a3 B) (hS : B.small) :
  Calls Tryz.prog 10 #[.agg #[.int .i64 B.now, .slice a1 B.svcs.length c1, .slice a2 B.cps.length c2, .slice a3 B.bts.length c3]] w fun e w' => ∃ x1 x2 x3, e = .returned (.agg #[.int .i64 B.now, .slice x1 B.svcs.length B.svcs.length, .slice x2 B.cps.length B.cps.length, .slice x3 B.bts.length B.bts.length]) ∧ BkAt w' x1 x2 x3 B ∧ Below w.heap.size w w' := by
 go_enter Tryz.func10, Tryz.ntmps10
 go_wp2_with fail
 refine (toServiceS_any B.svcs a1 c1 _ hS.1 (hB.1.below ?hb)).mono ?_
 case hb => exact (((Below.refl _ _).alloc (Nat.le_refl _) _).alloc (by simp) _).alloc (by simp; omega) _
 rintro e w1 ⟨rfl, hz1, hat1, hb1⟩
 have hbb1 : Below w.heap.size w w1 := ((((Below.refl _ _).alloc (Nat.le_refl _) _).alloc (by simp) _).alloc (by simp; omega) _).trans (hb1.mono (by simp; omega))
 obtain ⟨t0, t1, t2, t3⟩ := three_new w (.cells #[.int .i64 B.now, .slice a1 B.svcs.length c1, .slice a2 B.cps.length c2, .slice a3 B.bts.length c3] 26) (.cells #[.int .i64 0, .slice none 0 0, .slice none 0 0, .slice none 0 0] 36) (.cells #[.int .i64 B.now, .slice none 0 0, .slice none 0 0, .slice none 0 0] 36)
 rw [t3] at hz1 hat1 hb1
 rw [t3]
 have k0 : Hid (w1.heap[w.heap.size]? = _) := (hb1.block _ (by omega)).trans t0
 have k1 : Hid (w1.heap[w.heap.size + 1]? = _) := (hb1.block _ (by omega)).trans t1
 have k2 : Hid (w1.heap[w.heap.size + 1 + 1]? = _) := (hb1.block _ (by omega)).trans t2
 have HAT1 : Hid (SvcsAt w1 (w.heap.size + 1 + 1 + 1) 0 B.svcs) := hat1
 have HZ1 : Hid (w.heap.size + 1 + 1 + 1 < w1.heap.size) := hz1
 clear t0 t1 t2 t3
 have q1 := blk_cell k0.out 2 rfl
 have q2 := blk_cell k2.out 1 rfl
 have q3 := blk_frozen k2.out 1
 clear hat1 hz1 hb1
 go_wp2_with fail
 have hbs1 : Below w.heap.size w (w1.setCell ⟨w.heap.size + 1 + 1, 1, none⟩ (.slice (some ⟨w.heap.size + 1 + 1 + 1, 0, none⟩) B.svcs.length B.svcs.length)) := hbb1.setCell (by show _ ≤ w.heap.size + 1 + 1; omega) _
 refine (toCopyS_any B.cps a2 c2 _ hS.2.1 (hB.2.1.below hbs1)).mono ?_
 rintro e w2 ⟨rfl, hz2, hat2, hb2⟩
 rw [size_setCell] at hz2 hat2 hb2
 rw [size_setCell]
 have hbb2 : Below w.heap.size w w2 := hbs1.trans (hb2.mono hbb1.size)
 have k0' : Hid (w2.heap[w.heap.size]? = _) := (hb2.block _ (by have := HZ1.out; omega)).trans ((Below.heap_setCell _ _ _ _ (by show _ ≠ w.heap.size + 1 + 1; omega)).trans k0.out)
 have k1' : Hid (w2.heap[w.heap.size + 1]? = _) := (hb2.block _ (by have := HZ1.out; omega)).trans ((Below.heap_setCell _ _ _ _ (by show _ ≠ w.heap.size + 1 + 1; omega)).trans k1.out)
 have k2' : Hid (w2.heap[w.heap.size + 1 + 1]? = _) := (hb2.block _ (by have := HZ1.out; omega)).trans (blk_set k2.out 1 _)
 have HAT2 : Hid (CpsAt w2 w1.heap.size 0 B.cps) := hat2
 have HAT1' : Hid (SvcsAt w2 (w.heap.size + 1 + 1 + 1) 0 B.svcs) := fun i s hs => (HAT1.out i s hs).blk ((hb2.block _ HZ1.out).trans (Below.heap_setCell _ _ _ _ (by show _ ≠ w.heap.size + 1 + 1; omega)))
 have HZ2 : Hid (w1.heap.size < w2.heap.size) := hz2
 have p1 := blk_cell k0'.out 3 rfl
 have p2 := blk_cell k2'.out 2 rfl
 have p3 := blk_frozen k2'.out 2
 clear hat2 hz2 hb2 q1 q2 q3 hbs1 hbb1
 go_wp2_with fail
 have hbs2 : Below w.heap.size w (w2.setCell ⟨w.heap.size + 1 + 1, 2, none⟩ (.slice (some ⟨w1.heap.size, 0, none⟩) B.cps.length B.cps.length)) := hbb2.setCell (by show _ ≤ w.heap.size + 1 + 1; omega) _
 refine (toBerthS_any B.bts a3 c3 _ hS.2.2 (hB.2.2.below hbs2)).mono ?_
 rintro e w3 ⟨rfl, hz3, hat3, hb3⟩
 rw [size_setCell] at hz3 hat3 hb3
 rw [size_setCell]
 have hbb3 : Below w.heap.size w w3 := hbs2.trans (hb3.mono hbb2.size)
 have hzz : w.heap.size + 1 + 1 + 1 < w2.heap.size := by have := HZ1.out; have := HZ2.out; omega
 have k1'' : Hid (w3.heap[w.heap.size + 1]? = _) := (hb3.block _ (by omega)).trans ((Below.heap_setCell _ _ _ _ (by show _ ≠ w.heap.size + 1 + 1; omega)).trans k1'.out)
 have k2'' : Hid (w3.heap[w.heap.size + 1 + 1]? = _) := (hb3.block _ (by omega)).trans (blk_set k2'.out 2 _)
 have HAT3 : Hid (BtsAt w3 w2.heap.size 0 B.bts) := hat3
 have HAT2' : Hid (CpsAt w3 w1.heap.size 0 B.cps) := fun i s hs => (HAT2.out i s hs).blk ((hb3.block _ HZ2.out).trans (Below.heap_setCell _ _ _ _ (by show _ ≠ w.heap.size + 1 + 1; have := HZ1.out; omega)))
 have HAT1'' : Hid (SvcsAt w3 (w.heap.size + 1 + 1 + 1) 0 B.svcs) := fun i s hs => (HAT1'.out i s hs).blk ((hb3.block _ hzz).trans (Below.heap_setCell _ _ _ _ (by show _ ≠ w.heap.size + 1 + 1; omega)))
 have HZ3 : Hid (w2.heap.size < w3.heap.size) := hz3
 have p3 := blk_cell k2''.out 3 rfl
 have p4 := blk_frozen k2''.out 3
 have HZZ : Hid (w.heap.size + 1 + 1 + 1 < w2.heap.size) := hzz
 clear hat3 hz3 hb3 p1 p2 p3 hbs2 hbb2 hzz
 have p3 := blk_cell k2''.out 3 rfl
 have r0 := blk_cell k2''.out 0 rfl
 have r1 := blk_cell k2''.out 1 rfl
 have r2 := blk_cell k2''.out 2 rfl
 have s0 := blk_cell k1''.out 0 rfl
 have s1 := blk_cell k1''.out 1 rfl
 have s2 := blk_cell k1''.out 2 rfl
 have s3 := blk_cell k1''.out 3 rfl
 have f0 := blk_frozen k1''.out 0
 have f1 := blk_frozen k1''.out 1
 have f2 := blk_frozen k1''.out 2
 have f3 := blk_frozen k1''.out 3
 go_wp2
 refine bodyPost_ret (v := .agg #[.int .i64 B.now, .slice (some ⟨w.heap.size + 1 + 1 + 1, 0, none⟩) B.svcs.length B.svcs.length, .slice (some ⟨w1.heap.size, 0, none⟩) B.cps.length B.cps.length, .slice (some ⟨w2.heap.size, 0, none⟩) B.bts.length B.bts.length]) (by simp [results, Tryz.results10, go_sem, s0, s1, s2, s3]) rfl ⟨_, _, _, rfl, ?_, ?_⟩
 ·have z1 := HZ1.out
  have z2 := HZ2.out
  have z3 := HZ3.out
  have z4 := HZZ.out
  refine ⟨fun _ => ⟨_, _, rfl, ?_, fun i s hs => (HAT1''.out i s hs).blk ?_⟩, fun _ => ⟨_, _, rfl, ?_, fun i s hs => (HAT2'.out i s hs).blk ?_⟩, fun _ => ⟨_, _, rfl, ?_, fun i s hs => (HAT3.out i s hs).blk ?_⟩⟩
  ·simp only [size_setCell]; omega
  ·repeat rw [Below.heap_setCell _ _ _ _ (by simp; try omega)]
  ·simp only [size_setCell]; omega
  ·repeat rw [Below.heap_setCell _ _ _ _ (by simp; try omega)]
  ·simp only [size_setCell]; omega
  ·repeat rw [Below.heap_setCell _ _ _ _ (by simp; try omega)]
 ·exact ((((hbb3.setCell (by simp; omega) _).setCell (by simp) _).setCell (by simp) _).setCell (by simp) _).setCell (by simp) _
end Go.Proofs.YtbceafpodamnfabGreatDoor

namespace Go.Proofs.YtbceafpodamnfabGreatDoor
open Go.RowKit
set_option maxHeartbeats 1000000 in
theorem eqService_same (s : Svc) (w : World) :
  Calls Tryz.prog 109 #[.agg #[.string s.name, .int .i64 s.version, .bool s.gone, .int .i64 s.image, .int .i64 s.want, .int .i64 s.down, .int .i64 s.over, .int .i64 s.next, .int .i64 s.per, .int .i64 s.least, .int .i64 s.most, .int .i64 s.load, .int .i64 s.cool], .agg #[.string s.name, .int .i64 s.version, .bool s.gone, .int .i64 s.image, .int .i64 s.want, .int .i64 s.down, .int .i64 s.over, .int .i64 s.next, .int .i64 s.per, .int .i64 s.least, .int .i64 s.most, .int .i64 s.load, .int .i64 s.cool]] w fun e w' => e = .returned (.bool true) ∧ Below w.heap.size w w' := by
 go_enter Tryz.func109, Tryz.ntmps109
 go_wp2
 go_ret
 exact ⟨rfl, ((Below.refl _ _).alloc (Nat.le_refl _) _).alloc (by simp) _⟩
set_option maxHeartbeats 1000000 in
theorem eqCopy_same (s : Cp) (w : World) :
  Calls Tryz.prog 110 #[.agg #[.string s.service, .int .i64 s.number, .int .i64 s.version, .int .i64 s.image, .int .i64 s.state, .bool s.ending, .string s.berth], .agg #[.string s.service, .int .i64 s.number, .int .i64 s.version, .int .i64 s.image, .int .i64 s.state, .bool s.ending, .string s.berth]] w fun e w' => e = .returned (.bool true) ∧ Below w.heap.size w w' := by
 go_enter Tryz.func110, Tryz.ntmps110
 go_wp2
 go_ret
 exact ⟨rfl, ((Below.refl _ _).alloc (Nat.le_refl _) _).alloc (by simp) _⟩
set_option maxHeartbeats 1000000 in
theorem eqBerth_same (s : Bt) (w : World) :
  Calls Tryz.prog 111 #[.agg #[.string s.name, .bool s.drain], .agg #[.string s.name, .bool s.drain]] w fun e w' => e = .returned (.bool true) ∧ Below w.heap.size w w' := by
 go_enter Tryz.func111, Tryz.ntmps111
 go_wp2
 go_ret
 exact ⟨rfl, ((Below.refl _ _).alloc (Nat.le_refl _) _).alloc (by simp) _⟩
end Go.Proofs.YtbceafpodamnfabGreatDoor

namespace Go.Proofs.YtbceafpodamnfabGreatDoor
open Go.RowKit Go.Sort
theorem SvcAt.grown {w : World} {b o : Nat} {s : Svc} (h : SvcAt w b o s) : (∀ p : Regrown, (grow (redrawn w p.d) p.os).cell? ⟨b, o, none⟩ = some (.string s.name)) ∧ (∀ p : Regrown, (grow (redrawn w p.d) p.os).cell? ⟨b, o + 1, none⟩ = some (.int .i64 s.version)) ∧ (∀ p : Regrown, (grow (redrawn w p.d) p.os).cell? ⟨b, o + 2, none⟩ = some (.bool s.gone)) ∧ (∀ p : Regrown, (grow (redrawn w p.d) p.os).cell? ⟨b, o + 3, none⟩ = some (.int .i64 s.image)) ∧ (∀ p : Regrown, (grow (redrawn w p.d) p.os).cell? ⟨b, o + 4, none⟩ = some (.int .i64 s.want)) ∧ (∀ p : Regrown, (grow (redrawn w p.d) p.os).cell? ⟨b, o + 5, none⟩ = some (.int .i64 s.down)) ∧ (∀ p : Regrown, (grow (redrawn w p.d) p.os).cell? ⟨b, o + 6, none⟩ = some (.int .i64 s.over)) ∧ (∀ p : Regrown, (grow (redrawn w p.d) p.os).cell? ⟨b, o + 7, none⟩ = some (.int .i64 s.next)) ∧ (∀ p : Regrown, (grow (redrawn w p.d) p.os).cell? ⟨b, o + 8, none⟩ = some (.int .i64 s.per)) ∧ (∀ p : Regrown, (grow (redrawn w p.d) p.os).cell? ⟨b, o + 9, none⟩ = some (.int .i64 s.least)) ∧ (∀ p : Regrown, (grow (redrawn w p.d) p.os).cell? ⟨b, o + 10, none⟩ = some (.int .i64 s.most)) ∧ (∀ p : Regrown, (grow (redrawn w p.d) p.os).cell? ⟨b, o + 11, none⟩ = some (.int .i64 s.load)) ∧ (∀ p : Regrown, (grow (redrawn w p.d) p.os).cell? ⟨b, o + 12, none⟩ = some (.int .i64 s.cool)) := by
 unfold SvcAt at h
 obtain ⟨c0, c1, c2, c3, c4, c5, c6, c7, c8, c9, c10, c11, c12⟩ := h
 exact ⟨fun p => cell_regrown c0 p.d p.os, fun p => cell_regrown c1 p.d p.os, fun p => cell_regrown c2 p.d p.os, fun p => cell_regrown c3 p.d p.os, fun p => cell_regrown c4 p.d p.os, fun p => cell_regrown c5 p.d p.os, fun p => cell_regrown c6 p.d p.os, fun p => cell_regrown c7 p.d p.os, fun p => cell_regrown c8 p.d p.os, fun p => cell_regrown c9 p.d p.os, fun p => cell_regrown c10 p.d p.os, fun p => cell_regrown c11 p.d p.os, fun p => cell_regrown c12 p.d p.os⟩
theorem CpAt.grown {w : World} {b o : Nat} {s : Cp} (h : CpAt w b o s) : (∀ p : Regrown, (grow (redrawn w p.d) p.os).cell? ⟨b, o, none⟩ = some (.string s.service)) ∧ (∀ p : Regrown, (grow (redrawn w p.d) p.os).cell? ⟨b, o + 1, none⟩ = some (.int .i64 s.number)) ∧ (∀ p : Regrown, (grow (redrawn w p.d) p.os).cell? ⟨b, o + 2, none⟩ = some (.int .i64 s.version)) ∧ (∀ p : Regrown, (grow (redrawn w p.d) p.os).cell? ⟨b, o + 3, none⟩ = some (.int .i64 s.image)) ∧ (∀ p : Regrown, (grow (redrawn w p.d) p.os).cell? ⟨b, o + 4, none⟩ = some (.int .i64 s.state)) ∧ (∀ p : Regrown, (grow (redrawn w p.d) p.os).cell? ⟨b, o + 5, none⟩ = some (.bool s.ending)) ∧ (∀ p : Regrown, (grow (redrawn w p.d) p.os).cell? ⟨b, o + 6, none⟩ = some (.string s.berth)) := by
 unfold CpAt at h
 obtain ⟨c0, c1, c2, c3, c4, c5, c6⟩ := h
 exact ⟨fun p => cell_regrown c0 p.d p.os, fun p => cell_regrown c1 p.d p.os, fun p => cell_regrown c2 p.d p.os, fun p => cell_regrown c3 p.d p.os, fun p => cell_regrown c4 p.d p.os, fun p => cell_regrown c5 p.d p.os, fun p => cell_regrown c6 p.d p.os⟩
theorem BtAt.grown {w : World} {b o : Nat} {s : Bt} (h : BtAt w b o s) : (∀ p : Regrown, (grow (redrawn w p.d) p.os).cell? ⟨b, o, none⟩ = some (.string s.name)) ∧ (∀ p : Regrown, (grow (redrawn w p.d) p.os).cell? ⟨b, o + 1, none⟩ = some (.bool s.drain)) := by
 unfold BtAt at h
 obtain ⟨c0, c1⟩ := h
 exact ⟨fun p => cell_regrown c0 p.d p.os, fun p => cell_regrown c1 p.d p.os⟩
theorem BkAt.grown {w : World} {a1 a2 a3 : Option Addr} {B : Bk} (h : BkAt w a1 a2 a3 B) (d : Nat) (os : Array Obj) : BkAt (grow (redrawn w d) os) a1 a2 a3 B := h.below (below_regrown w d os)
end Go.Proofs.YtbceafpodamnfabGreatDoor
