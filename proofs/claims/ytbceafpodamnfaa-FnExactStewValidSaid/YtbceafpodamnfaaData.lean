/-
  My own. Plain data: what a book is, as lists; its cells; what the functions answer, as Bool functions. No program here.
-/
import Derived.WalkKit
namespace Go.Proofs.Ytbceafpodamnfaa
open Go.RowKit

structure Svc where
  name : ByteArray
  version : Int
  gone : Bool
  image : Int
  want : Int
  down : Int
  over : Int
  next : Int
  per : Int
  least : Int
  most : Int
  load : Int
  cool : Int

structure Cp where
  service : ByteArray
  number : Int
  version : Int
  image : Int
  state : Int
  ending : Bool
  berth : ByteArray

structure Bt where
  name : ByteArray
  drain : Bool

/-- The cells of a struct lie at block b, from offset o on. -/
def SvcAt (w : World) (b o : Nat) (s : Svc) : Prop := w.cell? ⟨b, o, none⟩ = some (.string s.name) ∧ w.cell? ⟨b, o + 1, none⟩ = some (.int .i64 s.version) ∧ w.cell? ⟨b, o + 2, none⟩ = some (.bool s.gone) ∧ w.cell? ⟨b, o + 3, none⟩ = some (.int .i64 s.image) ∧ w.cell? ⟨b, o + 4, none⟩ = some (.int .i64 s.want) ∧ w.cell? ⟨b, o + 5, none⟩ = some (.int .i64 s.down) ∧ w.cell? ⟨b, o + 6, none⟩ = some (.int .i64 s.over) ∧ w.cell? ⟨b, o + 7, none⟩ = some (.int .i64 s.next) ∧ w.cell? ⟨b, o + 8, none⟩ = some (.int .i64 s.per) ∧ w.cell? ⟨b, o + 9, none⟩ = some (.int .i64 s.least) ∧ w.cell? ⟨b, o + 10, none⟩ = some (.int .i64 s.most) ∧ w.cell? ⟨b, o + 11, none⟩ = some (.int .i64 s.load) ∧ w.cell? ⟨b, o + 12, none⟩ = some (.int .i64 s.cool)
def CpAt (w : World) (b o : Nat) (s : Cp) : Prop := w.cell? ⟨b, o, none⟩ = some (.string s.service) ∧ w.cell? ⟨b, o + 1, none⟩ = some (.int .i64 s.number) ∧ w.cell? ⟨b, o + 2, none⟩ = some (.int .i64 s.version) ∧ w.cell? ⟨b, o + 3, none⟩ = some (.int .i64 s.image) ∧ w.cell? ⟨b, o + 4, none⟩ = some (.int .i64 s.state) ∧ w.cell? ⟨b, o + 5, none⟩ = some (.bool s.ending) ∧ w.cell? ⟨b, o + 6, none⟩ = some (.string s.berth)
def BtAt (w : World) (b o : Nat) (s : Bt) : Prop := w.cell? ⟨b, o, none⟩ = some (.string s.name) ∧ w.cell? ⟨b, o + 1, none⟩ = some (.bool s.drain)
/-- A row of structs: at block b, from offset off on. -/
def SvcsAt (w : World) (b off : Nat) (l : List Svc) : Prop := ∀ i s, l[i]? = some s → SvcAt w b (off + i * 13) s
def CpsAt (w : World) (b off : Nat) (l : List Cp) : Prop := ∀ i s, l[i]? = some s → CpAt w b (off + i * 7) s
def BtsAt (w : World) (b off : Nat) (l : List Bt) : Prop := ∀ i s, l[i]? = some s → BtAt w b (off + i * 2) s

theorem SvcAt.below {B : Nat} {w w' : World} {b o : Nat} {s : Svc} (h : SvcAt w b o s) (hb : Below B w w') (hB : b < B) : SvcAt w' b o s := by
  unfold SvcAt at *
  simp only [fun o => hb.cell (p := ⟨b, o, none⟩) hB]
  exact h
theorem CpAt.below {B : Nat} {w w' : World} {b o : Nat} {s : Cp} (h : CpAt w b o s) (hb : Below B w w') (hB : b < B) : CpAt w' b o s := by
  unfold CpAt at *
  simp only [fun o => hb.cell (p := ⟨b, o, none⟩) hB]
  exact h
theorem BtAt.below {B : Nat} {w w' : World} {b o : Nat} {s : Bt} (h : BtAt w b o s) (hb : Below B w w') (hB : b < B) : BtAt w' b o s := by
  unfold BtAt at *
  simp only [fun o => hb.cell (p := ⟨b, o, none⟩) hB]
  exact h

theorem SvcAt.blk {w w' : World} {b o : Nat} {s : Svc} (h : SvcAt w b o s) (hb : w'.heap[b]? = w.heap[b]?) : SvcAt w' b o s := by
  unfold SvcAt at *
  simp only [fun o => World.cell?_of_block (w := w) (w' := w') (a := ⟨b, o, none⟩) hb]
  exact h
theorem CpAt.blk {w w' : World} {b o : Nat} {s : Cp} (h : CpAt w b o s) (hb : w'.heap[b]? = w.heap[b]?) : CpAt w' b o s := by
  unfold CpAt at *
  simp only [fun o => World.cell?_of_block (w := w) (w' := w') (a := ⟨b, o, none⟩) hb]
  exact h
theorem BtAt.blk {w w' : World} {b o : Nat} {s : Bt} (h : BtAt w b o s) (hb : w'.heap[b]? = w.heap[b]?) : BtAt w' b o s := by
  unfold BtAt at *
  simp only [fun o => World.cell?_of_block (w := w) (w' := w') (a := ⟨b, o, none⟩) hb]
  exact h

def inB (n lo hi : Int) : Bool := decide (lo ≤ n) && decide (n ≤ hi)
def byteB (c : Int) : Bool := (decide (97 ≤ c) && decide (c ≤ 122)) || ((decide (48 ≤ c) && decide (c ≤ 57)) || (c == 45))
def nameB (s : ByteArray) : Bool := inB s.size 1 20 && s.data.toList.all fun c => byteB c.toNat

def perB (s : Svc) : Bool := if s.per = 0 then s.least == 0 && s.most == 0 && s.load == 0 && s.cool == 0 else inB s.per 0 1000000 && inB s.load 0 1000000 && inB s.least 0 10 && inB s.most s.least 10 && inB s.cool 0 3
def svcB (now : Int) (s : Svc) : Bool := nameB s.name && inB s.version 1 now && inB s.image 1 1000000 && inB s.next 1 1000000 && inB s.want 0 10 && inB s.down 0 10 && inB s.over 0 10 && !(s.down + s.over == 0) && perB s

theorem nameB_iff (s : ByteArray) : nameB s = true ↔ inB s.size 1 20 = true ∧ ∀ i (h : i < s.size), byteB (s[i]'h).toNat = true := by
  unfold nameB
  rw [Bool.and_eq_true, List.all_eq_true]
  refine and_congr_right fun _ => ⟨fun h i hi => h _ ?_, fun h c hc => ?_⟩
  · exact Array.getElem_mem_toList (by simpa using hi)
  · obtain ⟨i, hi, rfl⟩ := List.mem_iff_getElem.1 hc
    exact h i (by simpa using hi)
theorem nameB_no (s : ByteArray) (i : Nat) (h : i < s.size) (hb : byteB (s[i]'h).toNat = false) : nameB s = false := by
  cases hn : nameB s with
  | false => rfl
  | true => rw [((nameB_iff s).1 hn).2 i h] at hb; cases hb
theorem nameB_size (s : ByteArray) (h : inB s.size 1 20 = false) : nameB s = false := by
  unfold nameB; rw [h]; rfl

end Go.Proofs.Ytbceafpodamnfaa
