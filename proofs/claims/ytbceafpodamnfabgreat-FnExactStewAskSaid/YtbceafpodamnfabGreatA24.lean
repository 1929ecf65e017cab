/-
  My own: Se, Sf.
-/
import Derived.Test.YtbceafpodamnfabGreatA23
import Derived.Test.YtbceafpodamnfabGreatA09
import Derived.Test.YtbceafpodamnfabGreatA18
set_option linter.unusedVariables false
set_option linter.unusedSimpArgs false
/-
  My own. The program's stewards: the first to end; ends.
-/
namespace Go.Proofs.YtbceafpodamnfabGreat
open Go.RowKit Go.Sort

def zeroSn : Sn := ⟨⟨⟨#[]⟩, 0, 0, 0, 0, false, ⟨#[]⟩⟩, false, false⟩
def stepS (b y : Sn) : Sn := if soonS y b then y else b
def firstS : List Sn → Sn
  | [] => zeroSn
  | x :: r => r.foldl stepS x
theorem firstS_one (x : Sn) : firstS [x] = x := rfl
theorem firstS_snoc {l : List Sn} (h : l ≠ []) (x : Sn) : firstS (l ++ [x]) = stepS (firstS l) x := by
  cases l with
  | nil => exact absurd rfl h
  | cons y r => simp [firstS]

set_option maxRecDepth 100000 in
set_option maxHeartbeats 8000000 in
theorem firstOf_any (l : List Sn) (lo : Nat) (al : Option Addr) (cl : Nat) (w : World) (hl : l.length ≤ 1048576) (hL : OwnSn lo w al cl l) :
    Calls Tryz.prog 139 #[.slice al l.length cl, .func (.func 140) #[] #[]] w fun e w' => ∃ b, Hid (b = firstS l) ∧ e = .returned (.tuple #[.agg #[.string b.c.service, .int .i64 b.c.number, .int .i64 b.c.version, .int .i64 b.c.image, .int .i64 b.c.state, .bool b.c.ending, .string b.c.berth, .bool b.old, .bool b.drain], .bool (decide (0 < l.length))]) ∧ Below w.heap.size w w' := by
  have HL : Hid (OwnSn lo w al cl l) := hL
  clear hL
  obtain ⟨W0, hW0, t0, t1, hz0, hz0', hb0⟩ := two_newW w (.cells #[.string ⟨#[]⟩, .int .i64 0, .int .i64 0, .int .i64 0, .int .i64 0, .bool false, .string ⟨#[]⟩, .bool false, .bool false] 148) (.cells #[.string ⟨#[]⟩, .int .i64 0, .int .i64 0, .int .i64 0, .int .i64 0, .bool false, .string ⟨#[]⟩, .bool false, .bool false] 148)
  have T0 : Hid _ := t0
  have T1 : Hid _ := t1
  clear t0 t1
  go_enter Tryz.func139, Tryz.ntmps139
  go_wp2
  clear hW0
  go_loopw [11] (fun iv wr => ∃ (k : Nat) (b : Sn), k ≤ l.length ∧ iv = .int .i64 k ∧ Hid (b = firstS (l.take k)) ∧ Below w.heap.size w wr ∧ Hid (wr.heap[w.heap.size]? = some (.cells #[.string ⟨#[]⟩, .int .i64 0, .int .i64 0, .int .i64 0, .int .i64 0, .bool false, .string ⟨#[]⟩, .bool false, .bool false] 148 (0, 0))) ∧ Hid (wr.heap[w.heap.size + 1]? = some (.cells #[.string b.c.service, .int .i64 b.c.number, .int .i64 b.c.version, .int .i64 b.c.image, .int .i64 b.c.state, .bool b.c.ending, .string b.c.berth, .bool b.old, .bool b.drain] 148 (0, 0)))) (fun i _ => l.length - (intOf i).toNat)
  case atStart => exact ⟨0, zeroSn, by omega, rfl, rfl, hb0, T0, T1⟩
  case round =>
    clear T0 T1 hb0 hz0 hz0'
    obtain ⟨k, b, hk, rfl, HB, hb, A0, F0⟩ := hrel
    have hz := hb.size
    have hzF : w.heap.size + 1 < wr.heap.size := (Array.getElem?_eq_some_iff.1 F0.out).1
    by_cases hlt : k < l.length
    · obtain ⟨x, hx⟩ : ∃ x, l[k]? = some x := ⟨l[k], by simp [hlt]⟩
      have HT : Hid (l.take (k + 1) = l.take k ++ [x]) := by unfold Hid; rw [List.take_add_one, hx]; rfl
      obtain ⟨g, rfl, _, hgw, hat⟩ := HL.out.at hx
      have hat' := hat.below hb hgw
      unfold SnAt at hat'
      obtain ⟨c0, c1, c2, c3, c4, c5, c6, c7, c8⟩ := hat'
      obtain ⟨W1, hW1⟩ : ∃ W, wr.alloc (.cells #[.string x.c.service, .int .i64 x.c.number, .int .i64 x.c.version, .int .i64 x.c.image, .int .i64 x.c.state, .bool x.c.ending, .string x.c.berth, .bool x.old, .bool x.drain] 148) = W := ⟨_, rfl⟩
      have X1 : Hid _ := heap_alloc_new wr (.cells #[.string x.c.service, .int .i64 x.c.number, .int .i64 x.c.version, .int .i64 x.c.image, .int .i64 x.c.state, .bool x.c.ending, .string x.c.berth, .bool x.old, .bool x.drain] 148)
      have A1 : Hid _ := below_blk (below_box wr (.cells #[.string x.c.service, .int .i64 x.c.number, .int .i64 x.c.version, .int .i64 x.c.image, .int .i64 x.c.state, .bool x.c.ending, .string x.c.berth, .bool x.old, .bool x.drain] 148)) A0.out (by omega)
      have F1 : Hid _ := below_blk (below_box wr (.cells #[.string x.c.service, .int .i64 x.c.number, .int .i64 x.c.version, .int .i64 x.c.image, .int .i64 x.c.state, .bool x.c.ending, .string x.c.berth, .bool x.old, .bool x.drain] 148)) F0.out hzF
      have hbw1 := hb.trans ((below_box wr (.cells #[.string x.c.service, .int .i64 x.c.number, .int .i64 x.c.version, .int .i64 x.c.image, .int .i64 x.c.state, .bool x.c.ending, .string x.c.berth, .bool x.old, .bool x.drain] 148)).mono hz)
      have hzx : wr.heap.size < (wr.alloc (.cells #[.string x.c.service, .int .i64 x.c.number, .int .i64 x.c.version, .int .i64 x.c.image, .int .i64 x.c.state, .bool x.c.ending, .string x.c.berth, .bool x.old, .bool x.drain] 148)).heap.size := by simp
      rw [hW1] at X1 A1 F1 hbw1 hzx
      clear hat hx A0 F0
      go_upto_region 5 with fail
      clear c0 c1 c2 c3 c4 c5 c6 c7 c8 hW1
      by_cases hk0 : k = 0
      · have h0 : ((k : Int) == 0) = true := by simp [hk0]
        have HN : Hid (x = firstS (l.take (k + 1))) := by unfold Hid; rw [HT.out, hk0]; rfl
        clear hk0
        go_wp2_with (first
          | (refine wpList_load_row rfl 148 (.tmp 8) rfl wr.heap.size rfl 148 #[.string x.c.service, .int .i64 x.c.number, .int .i64 x.c.version, .int .i64 x.c.image, .int .i64 x.c.state, .bool x.c.ending, .string x.c.berth, .bool x.old, .bool x.drain] (0, 0) _ X1.out Tryz.underlying148 rfl Tryz.infosSn ?_)
          | (refine wpList_store_only rfl 148 (.tmp 6) (.tmp 25) rfl (w.heap.size + 1) 0 #[.string x.c.service, .int .i64 x.c.number, .int .i64 x.c.version, .int .i64 x.c.image, .int .i64 x.c.state, .bool x.c.ending, .string x.c.berth, .bool x.old, .bool x.drain] rfl rfl 148 #[.string b.c.service, .int .i64 b.c.number, .int .i64 b.c.version, .int .i64 b.c.image, .int .i64 b.c.state, .bool b.c.ending, .string b.c.berth, .bool b.old, .bool b.drain] F1.out Tryz.infosSn (Nat.le_of_ble_eq_true rfl) (by simp [Value.oneCell']) ?_; intro w2 hz on; have F2 : Hid (w2.heap[(w.heap.size + 1)]? = some (.cells #[.string x.c.service, .int .i64 x.c.number, .int .i64 x.c.version, .int .i64 x.c.image, .int .i64 x.c.state, .bool x.c.ending, .string x.c.berth, .bool x.old, .bool x.drain] 148 (0, 0))) := hz; have A2 : Hid _ := (on.other w.heap.size (by omega)).trans A1.out; have hbw2 := hbw1.trans (on.below.mono (by omega)); clear hz on))
        go_wp2
        go_roundw
        case rel => exact ⟨k + 1, x, by omega, by go_num, HN, hbw2, A2, F2⟩
        case measure => simp [intOf]; omega
      · have h0 : ((k : Int) == 0) = false := by simp [hk0]
        have HN : Hid (firstS (l.take (k + 1)) = if soonS x b then x else b) := by
          unfold Hid
          rw [HT.out, firstS_snoc (fun h => hk0 (by have h' := congrArg List.length h; rw [List.length_take, List.length_nil, Nat.min_eq_left hk] at h'; exact h')), ← HB.out]
          rfl
        obtain ⟨r, HR, HC⟩ : ∃ r, Hid (soonS x b = decide (r < 0)) ∧ Hid (∀ W : World, Calls Tryz.prog 140 #[.agg #[.string x.c.service, .int .i64 x.c.number, .int .i64 x.c.version, .int .i64 x.c.image, .int .i64 x.c.state, .bool x.c.ending, .string x.c.berth, .bool x.old, .bool x.drain], .agg #[.string b.c.service, .int .i64 b.c.number, .int .i64 b.c.version, .int .i64 b.c.image, .int .i64 b.c.state, .bool b.c.ending, .string b.c.berth, .bool b.old, .bool b.drain]] W fun e w' => e = .returned (.int .i64 r) ∧ Below W.heap.size W w') := ⟨_, (cmpE_neg x b).symm, fun W => compareEnds_any x b W⟩
        clear hk0
        have x0 := blk_cell X1.out 0 rfl
        have f0 := blk_cell F1.out 0 rfl
        have x1 := blk_cell X1.out 1 rfl
        have f1 := blk_cell F1.out 1 rfl
        have x2 := blk_cell X1.out 2 rfl
        have f2 := blk_cell F1.out 2 rfl
        have x3 := blk_cell X1.out 3 rfl
        have f3 := blk_cell F1.out 3 rfl
        have x4 := blk_cell X1.out 4 rfl
        have f4 := blk_cell F1.out 4 rfl
        have x5 := blk_cell X1.out 5 rfl
        have f5 := blk_cell F1.out 5 rfl
        have x6 := blk_cell X1.out 6 rfl
        have f6 := blk_cell F1.out 6 rfl
        have x7 := blk_cell X1.out 7 rfl
        have f7 := blk_cell F1.out 7 rfl
        have x8 := blk_cell X1.out 8 rfl
        have f8 := blk_cell F1.out 8 rfl
        go_wp2_with fail
        refine (HC.out _).mono ?_
        rintro e w1 ⟨rfl, hb1⟩
        have hbb1 := hbw1.trans (hb1.mono hbw1.size)
        have hz1 := hb1.size
        have X1' : Hid _ := below_blk hb1 X1.out hzx
        have A1' : Hid _ := below_blk hb1 A1.out (by omega)
        have F1' : Hid _ := below_blk hb1 F1.out (by omega)
        clear X1 A1 F1 hb1 x0 f0 x1 f1 x2 f2 x3 f3 x4 f4 x5 f5 x6 f6 x7 f7 x8 f8
        by_cases hr : r < 0
        · have HS : Hid (soonS x b = true) := by unfold Hid; rw [HR.out]; simp [hr]
          go_wp2_with (first
            | (refine wpList_load_row rfl 148 (.tmp 8) rfl wr.heap.size rfl 148 #[.string x.c.service, .int .i64 x.c.number, .int .i64 x.c.version, .int .i64 x.c.image, .int .i64 x.c.state, .bool x.c.ending, .string x.c.berth, .bool x.old, .bool x.drain] (0, 0) _ X1'.out Tryz.underlying148 rfl Tryz.infosSn ?_)
            | (refine wpList_store_only rfl 148 (.tmp 6) (.tmp 25) rfl (w.heap.size + 1) 0 #[.string x.c.service, .int .i64 x.c.number, .int .i64 x.c.version, .int .i64 x.c.image, .int .i64 x.c.state, .bool x.c.ending, .string x.c.berth, .bool x.old, .bool x.drain] rfl rfl 148 #[.string b.c.service, .int .i64 b.c.number, .int .i64 b.c.version, .int .i64 b.c.image, .int .i64 b.c.state, .bool b.c.ending, .string b.c.berth, .bool b.old, .bool b.drain] F1'.out Tryz.infosSn (Nat.le_of_ble_eq_true rfl) (by simp [Value.oneCell']) ?_; intro w2 hz on; have F2 : Hid (w2.heap[(w.heap.size + 1)]? = some (.cells #[.string x.c.service, .int .i64 x.c.number, .int .i64 x.c.version, .int .i64 x.c.image, .int .i64 x.c.state, .bool x.c.ending, .string x.c.berth, .bool x.old, .bool x.drain] 148 (0, 0))) := hz; have A2 : Hid _ := (on.other w.heap.size (by omega)).trans A1'.out; have hbw2 := hbb1.trans (on.below.mono (by omega)); clear hz on))
          go_wp2
          go_roundw
          case rel => exact ⟨k + 1, x, by omega, by go_num, by unfold Hid; rw [HN.out, HS.out]; rfl, hbw2, A2, F2⟩
          case measure => simp [intOf]; omega
        · have HS : Hid (soonS x b = false) := by unfold Hid; rw [HR.out]; simp [hr]
          go_wp2
          go_roundw
          case rel => exact ⟨k + 1, b, by omega, by go_num, by unfold Hid; rw [HN.out, HS.out]; rfl, hbb1, A1', F1'⟩
          case measure => simp [intOf]; omega
    · obtain rfl : k = l.length := by omega
      have HE : Hid (b = firstS l) := by unfold Hid; rw [HB.out, List.take_length]
      by_cases hl0 : 0 < l.length
      · have HD : Hid (decide (0 < l.length) = true) := by simp [Hid, hl0]
        go_wp2_with (first
          | (refine wpList_load_row rfl 148 (.tmp 6) rfl (w.heap.size + 1) rfl 148 #[.string b.c.service, .int .i64 b.c.number, .int .i64 b.c.version, .int .i64 b.c.image, .int .i64 b.c.state, .bool b.c.ending, .string b.c.berth, .bool b.old, .bool b.drain] (0, 0) _ F0.out Tryz.underlying148 rfl Tryz.infosSn ?_)
          | (refine wpList_store_only rfl 148 (.tmp 4) (.tmp 27) rfl w.heap.size 0 #[.string b.c.service, .int .i64 b.c.number, .int .i64 b.c.version, .int .i64 b.c.image, .int .i64 b.c.state, .bool b.c.ending, .string b.c.berth, .bool b.old, .bool b.drain] rfl rfl 148 #[.string ⟨#[]⟩, .int .i64 0, .int .i64 0, .int .i64 0, .int .i64 0, .bool false, .string ⟨#[]⟩, .bool false, .bool false] A0.out Tryz.infosSn (Nat.le_of_ble_eq_true rfl) (by simp [Value.oneCell']) ?_; intro wf hz on; have RF : Hid (wf.heap[w.heap.size]? = some (.cells #[.string b.c.service, .int .i64 b.c.number, .int .i64 b.c.version, .int .i64 b.c.image, .int .i64 b.c.state, .bool b.c.ending, .string b.c.berth, .bool b.old, .bool b.drain] 148 (0, 0))) := hz; have BF := hb.trans (on.below.mono (by omega)); have p0 := blk_cell RF.out 0 rfl; have p1 := blk_cell RF.out 1 rfl; have p2 := blk_cell RF.out 2 rfl; have p3 := blk_cell RF.out 3 rfl; have p4 := blk_cell RF.out 4 rfl; have p5 := blk_cell RF.out 5 rfl; have p6 := blk_cell RF.out 6 rfl; have p7 := blk_cell RF.out 7 rfl; have p8 := blk_cell RF.out 8 rfl; clear hz on))
        refine bodyPost_ret (v := .tuple #[.agg #[.string b.c.service, .int .i64 b.c.number, .int .i64 b.c.version, .int .i64 b.c.image, .int .i64 b.c.state, .bool b.c.ending, .string b.c.berth, .bool b.old, .bool b.drain], .bool true]) (by simp [results, Tryz.results139, go_sem, p0, p1, p2, p3, p4, p5, p6, p7, p8]) rfl ⟨b, HE, by rw [HD.out], BF⟩
      · have HD : Hid (decide (0 < l.length) = false) := by simp [Hid, hl0]
        go_wp2_with (first
          | (refine wpList_load_row rfl 148 (.tmp 6) rfl (w.heap.size + 1) rfl 148 #[.string b.c.service, .int .i64 b.c.number, .int .i64 b.c.version, .int .i64 b.c.image, .int .i64 b.c.state, .bool b.c.ending, .string b.c.berth, .bool b.old, .bool b.drain] (0, 0) _ F0.out Tryz.underlying148 rfl Tryz.infosSn ?_)
          | (refine wpList_store_only rfl 148 (.tmp 4) (.tmp 27) rfl w.heap.size 0 #[.string b.c.service, .int .i64 b.c.number, .int .i64 b.c.version, .int .i64 b.c.image, .int .i64 b.c.state, .bool b.c.ending, .string b.c.berth, .bool b.old, .bool b.drain] rfl rfl 148 #[.string ⟨#[]⟩, .int .i64 0, .int .i64 0, .int .i64 0, .int .i64 0, .bool false, .string ⟨#[]⟩, .bool false, .bool false] A0.out Tryz.infosSn (Nat.le_of_ble_eq_true rfl) (by simp [Value.oneCell']) ?_; intro wf hz on; have RF : Hid (wf.heap[w.heap.size]? = some (.cells #[.string b.c.service, .int .i64 b.c.number, .int .i64 b.c.version, .int .i64 b.c.image, .int .i64 b.c.state, .bool b.c.ending, .string b.c.berth, .bool b.old, .bool b.drain] 148 (0, 0))) := hz; have BF := hb.trans (on.below.mono (by omega)); have p0 := blk_cell RF.out 0 rfl; have p1 := blk_cell RF.out 1 rfl; have p2 := blk_cell RF.out 2 rfl; have p3 := blk_cell RF.out 3 rfl; have p4 := blk_cell RF.out 4 rfl; have p5 := blk_cell RF.out 5 rfl; have p6 := blk_cell RF.out 6 rfl; have p7 := blk_cell RF.out 7 rfl; have p8 := blk_cell RF.out 8 rfl; clear hz on))
        refine bodyPost_ret (v := .tuple #[.agg #[.string b.c.service, .int .i64 b.c.number, .int .i64 b.c.version, .int .i64 b.c.image, .int .i64 b.c.state, .bool b.c.ending, .string b.c.berth, .bool b.old, .bool b.drain], .bool false]) (by simp [results, Tryz.results139, go_sem, p0, p1, p2, p3, p4, p5, p6, p7, p8]) rfl ⟨b, HE, by rw [HD.out], BF⟩

def endsS (l : List Sn) : List En := l.map fun x => endOf x.c

set_option maxRecDepth 100000 in
set_option maxHeartbeats 8000000 in
theorem end_any (s : Svc) (N : Cnt) (dr : Int) (aS : Option Addr) (nS cS : Nat) (l : List Sn) (lo : Nat) (al : Option Addr) (cl : Nat) (w : World) (hl : l.length ≤ 1048576) (hL : OwnSn lo w al cl l) :
    Calls Tryz.prog 115 #[.agg #[.string s.name, .int .i64 s.version, .bool s.gone, .int .i64 s.image, .int .i64 s.want, .int .i64 s.down, .int .i64 s.over, .int .i64 s.next, .int .i64 s.per, .int .i64 s.least, .int .i64 s.most, .int .i64 s.load, .int .i64 s.cool, .int .i64 N.live, .int .i64 N.ready, .int .i64 N.old, .int .i64 N.failed, .int .i64 N.ending, .int .i64 dr, .slice aS nS cS], .slice al l.length cl] w fun e w' => ∃ ae ce, e = .returned (.tuple #[.agg #[.string s.name, .int .i64 s.version, .int .i64 0, .int .i64 0, .int .i64 0, .bool false, .slice ae l.length ce, .bool false], .bool (decide (0 < l.length))]) ∧ Hid (w'.ownsRow w.heap.size 118 2 (.slice ae l.length ce) l.length (ensV (endsS l))) ∧ Below w.heap.size w w' := by
  have HL : Hid (OwnSn lo w al cl l) := hL
  clear hL
  obtain ⟨W0, hW0, t0, t1, hz0, hz0', hb0⟩ := two_newW w (.cells #[.string s.name, .int .i64 s.version, .bool s.gone, .int .i64 s.image, .int .i64 s.want, .int .i64 s.down, .int .i64 s.over, .int .i64 s.next, .int .i64 s.per, .int .i64 s.least, .int .i64 s.most, .int .i64 s.load, .int .i64 s.cool, .int .i64 N.live, .int .i64 N.ready, .int .i64 N.old, .int .i64 N.failed, .int .i64 N.ending, .int .i64 dr, .slice aS nS cS] 108) (.cells #[.string ⟨#[]⟩, .int .i64 0, .int .i64 0, .int .i64 0, .int .i64 0, .bool false, .slice none 0 0, .bool false] 59)
  have T0 : Hid _ := t0
  have T1 : Hid _ := t1
  clear t0 t1
  go_enter Tryz.func115, Tryz.ntmps115
  go_upto_region 1 with fail
  clear hW0
  go_wp2_with (first
    | (refine wpList_load_row rfl 108 (.tmp 2) rfl w.heap.size rfl 108 #[.string s.name, .int .i64 s.version, .bool s.gone, .int .i64 s.image, .int .i64 s.want, .int .i64 s.down, .int .i64 s.over, .int .i64 s.next, .int .i64 s.per, .int .i64 s.least, .int .i64 s.most, .int .i64 s.load, .int .i64 s.cool, .int .i64 N.live, .int .i64 N.ready, .int .i64 N.old, .int .i64 N.failed, .int .i64 N.ending, .int .i64 dr, .slice aS nS cS] (0, 0) _ T0.out Tryz.underlying108 rfl Tryz.infosSight ?_))
  refine (act_any s N dr aS nS cS _).mono ?_
  rintro e w1 ⟨rfl, hb1⟩
  have Bi := hb0.trans (hb1.mono hb0.size)
  have hz1 := hb1.size
  have U1 : Hid (w1.heap[w.heap.size + 1]? = some (.cells #[.string ⟨#[]⟩, .int .i64 0, .int .i64 0, .int .i64 0, .int .i64 0, .bool false, .slice none 0 0, .bool false] 59 (0, 0))) := below_blk hb1 T1.out (by omega)
  clear hb1 hb0 T0 T1
  go_upto_region 2 with (first
    | (refine wpList_store_only rfl 59 (.tmp 6) (.tmp 10) rfl w1.heap.size 0 #[.string s.name, .int .i64 s.version, .int .i64 0, .int .i64 0, .int .i64 0, .bool false, .slice none 0 0, .bool false] rfl rfl 59 #[.string ⟨#[]⟩, .int .i64 0, .int .i64 0, .int .i64 0, .int .i64 0, .bool false, .slice none 0 0, .bool false] (heap_alloc_new w1 _) Tryz.infosActS (Nat.le_of_ble_eq_true rfl) (by simp [Value.oneCell']) ?_; intro wa hz on; have Y0 : Hid (wa.heap[w1.heap.size]? = some (.cells #[.string s.name, .int .i64 s.version, .int .i64 0, .int .i64 0, .int .i64 0, .bool false, .slice none 0 0, .bool false] 59 (0, 0))) := hz; have R0 : Hid _ := (on.other (w.heap.size + 1) (by omega)).trans (below_blk (below_box w1 _) U1.out (by omega)); have B0 := (Bi.alloc (by omega) _).trans (on.below.mono (by omega)); have q0 := blk_cell Y0.out 0 rfl; clear hz on))
  have hz2 : w1.heap.size + 1 ≤ wa.heap.size := (Array.getElem?_eq_some_iff.1 Y0.out).1
  clear q0
  go_wp2
  go_loopw [13] (fun iv wr => ∃ (k : Nat) (ao : Option Addr) (co : Nat), k ≤ l.length ∧ iv = .int .i64 k ∧ Below w.heap.size w wr ∧ Hid (wr.heap[w.heap.size + 1]? = some (.cells #[.string ⟨#[]⟩, .int .i64 0, .int .i64 0, .int .i64 0, .int .i64 0, .bool false, .slice none 0 0, .bool false] 59 (0, 0))) ∧ Hid (wr.heap[w1.heap.size]? = some (.cells #[.string s.name, .int .i64 s.version, .int .i64 0, .int .i64 0, .int .i64 0, .bool false, .slice ao k co, .bool false] 59 (0, 0))) ∧ Hid (wr.ownsRow (w1.heap.size + 1) 118 2 (.slice ao k co) k (ensV (endsS (l.take k))))) (fun i _ => l.length - (intOf i).toNat)
  case atStart => exact ⟨0, none, 0, by omega, rfl, B0, R0, Y0, World.ownsRow_nil _ _ _ _⟩
  case round =>
    clear B0 R0 Y0 U1 Bi
    obtain ⟨k, ao, co, hk, rfl, hb, R0, Y0, hown⟩ := hrel
    have hz := hb.size
    have hzY : w1.heap.size < wr.heap.size := (Array.getElem?_eq_some_iff.1 Y0.out).1
    by_cases hlt : k < l.length
    · obtain ⟨x, hx⟩ : ∃ x, l[k]? = some x := ⟨l[k], by simp [hlt]⟩
      have HT : Hid (endsS (l.take (k + 1)) = endsS (l.take k) ++ [⟨x.c.number, x.c.version⟩]) := by unfold Hid endsS; rw [List.take_add_one, hx]; simp [endOf]
      obtain ⟨g, rfl, _, hgw, hat⟩ := HL.out.at hx
      have hat' := hat.below hb hgw
      unfold SnAt at hat'
      obtain ⟨c0, c1, c2, c3, c4, c5, c6, c7, c8⟩ := hat'
      obtain ⟨W1, hW1⟩ : ∃ W, wr.alloc (.cells #[.string x.c.service, .int .i64 x.c.number, .int .i64 x.c.version, .int .i64 x.c.image, .int .i64 x.c.state, .bool x.c.ending, .string x.c.berth, .bool x.old, .bool x.drain] 148) = W := ⟨_, rfl⟩
      have X1 : Hid _ := heap_alloc_new wr (.cells #[.string x.c.service, .int .i64 x.c.number, .int .i64 x.c.version, .int .i64 x.c.image, .int .i64 x.c.state, .bool x.c.ending, .string x.c.berth, .bool x.old, .bool x.drain] 148)
      have R1 : Hid _ := below_blk (below_box wr (.cells #[.string x.c.service, .int .i64 x.c.number, .int .i64 x.c.version, .int .i64 x.c.image, .int .i64 x.c.state, .bool x.c.ending, .string x.c.berth, .bool x.old, .bool x.drain] 148)) R0.out (by omega)
      have Y1 : Hid _ := below_blk (below_box wr (.cells #[.string x.c.service, .int .i64 x.c.number, .int .i64 x.c.version, .int .i64 x.c.image, .int .i64 x.c.state, .bool x.c.ending, .string x.c.berth, .bool x.old, .bool x.drain] 148)) Y0.out hzY
      have hown1 : Hid _ := own_below hown.out (below_box wr (.cells #[.string x.c.service, .int .i64 x.c.number, .int .i64 x.c.version, .int .i64 x.c.image, .int .i64 x.c.state, .bool x.c.ending, .string x.c.berth, .bool x.old, .bool x.drain] 148)) (Nat.le_refl _)
      have hbw1 := hb.trans ((below_box wr (.cells #[.string x.c.service, .int .i64 x.c.number, .int .i64 x.c.version, .int .i64 x.c.image, .int .i64 x.c.state, .bool x.c.ending, .string x.c.berth, .bool x.old, .bool x.drain] 148)).mono hz)
      have hzx : wr.heap.size < (wr.alloc (.cells #[.string x.c.service, .int .i64 x.c.number, .int .i64 x.c.version, .int .i64 x.c.image, .int .i64 x.c.state, .bool x.c.ending, .string x.c.berth, .bool x.old, .bool x.drain] 148)).heap.size := by simp
      rw [hW1] at X1 R1 Y1 hown1 hbw1 hzx
      clear hat hx R0 Y0 hown
      go_upto_region 5 with fail
      clear c0 c1 c2 c3 c4 c5 c6 c7 c8 hW1
      have e1 := blk_cell X1.out 1 rfl
      have e2 := blk_cell X1.out 2 rfl
      have y6 := blk_cell Y1.out 6 rfl
      go_wp2_with (first
        | (at_builtin; refine wpList_append_mine rfl (.tmp 18) (.tmp 26) 57 rfl (w1.heap.size + 1) 118 _ 2 16 Tryz.underlying57 Tryz.infoEnd rfl (by omega) (.slice ao k co) k _ rfl (own_below hown1.out (below_box W1 _) (Nat.le_refl _)) ⟨W1.heap.size, 0, none⟩ 1 (#[.int .i64 x.c.number, .int .i64 x.c.version] : Array Value).toList rfl rfl (news_row (heap_alloc_new W1 _)) (fun u hu => (Array.all_eq_true_iff_forall_mem.1 (one_En ⟨x.c.number, x.c.version⟩)) u (by simpa using hu)) (by unfold maxLen; omega) (by omega) (by simp; omega) ?_; intro g' cap' w2 hg' hown2 hb2; have bb := (below_box W1 (.cells #[.int .i64 x.c.number, .int .i64 x.c.version] 118)).mono (show w1.heap.size + 1 ≤ W1.heap.size by omega); have hbb2 := bb.trans hb2; have R2 : Hid _ := (hbb2.block (w.heap.size + 1) (by omega)).trans R1.out; have Y2 : Hid _ := (hbb2.block w1.heap.size (by omega)).trans Y1.out; have hbw2 := hbw1.trans (hbb2.mono (by omega)); have hz2' := hbw2.size; clear bb e1 e2 y6)
        | (refine wpList_store_one rfl 57 (.tmp 28) (.tmp 27) rfl w1.heap.size 6 (.slice (some ⟨g', 0, none⟩) (k + 1) cap') rfl rfl Tryz.infosEndsS rfl rfl 59 #[.string s.name, .int .i64 s.version, .int .i64 0, .int .i64 0, .int .i64 0, .bool false, .slice ao k co, .bool false] Y2.out (Nat.le_of_ble_eq_true rfl) ?_; intro w3 hz on; have Y3 : Hid (w3.heap[w1.heap.size]? = some (.cells #[.string s.name, .int .i64 s.version, .int .i64 0, .int .i64 0, .int .i64 0, .bool false, (.slice (some ⟨g', 0, none⟩) (k + 1) cap'), .bool false] 59 (0, 0))) := hz; have R3 : Hid _ := (on.other (w.heap.size + 1) (by omega)).trans R2.out; have hown3 : Hid _ := own_blk hown2.out (fun q hq _ => on.other q (by omega)); have hbw3 := hbw2.trans (on.below.mono (by omega)); clear hz on))
      go_wp2
      go_roundw
      case rel => exact ⟨k + 1, _, _, by omega, by go_num, hbw3, R3, Y3, by unfold Hid; rw [HT.out, ensV_add]; exact hown3.out⟩
      case measure => simp [intOf]; omega
    · obtain rfl : k = l.length := by omega
      have HE : Hid (wr.ownsRow (w1.heap.size + 1) 118 2 (.slice ao l.length co) l.length (ensV (endsS l))) := by have := hown.out; rw [List.take_length] at this; exact this
      have y0 := blk_cell Y0.out 0 rfl
      by_cases hl0 : 0 < l.length
      · have HD : Hid (decide (0 < l.length) = true) := by simp [Hid, hl0]
        go_wp2_with (first
          | (refine wpList_load_row rfl 59 (.tmp 6) rfl w1.heap.size rfl 59 #[.string s.name, .int .i64 s.version, .int .i64 0, .int .i64 0, .int .i64 0, .bool false, .slice ao l.length co, .bool false] (0, 0) _ Y0.out Tryz.underlying59 rfl Tryz.infosActS ?_)
          | (refine wpList_store_only rfl 59 (.tmp 4) (.tmp 30) rfl (w.heap.size + 1) 0 #[.string s.name, .int .i64 s.version, .int .i64 0, .int .i64 0, .int .i64 0, .bool false, .slice ao l.length co, .bool false] rfl rfl 59 #[.string ⟨#[]⟩, .int .i64 0, .int .i64 0, .int .i64 0, .int .i64 0, .bool false, .slice none 0 0, .bool false] R0.out Tryz.infosActS (Nat.le_of_ble_eq_true rfl) (by simp [Value.oneCell']) ?_; intro wf hz on; have RF : Hid (wf.heap[(w.heap.size + 1)]? = some (.cells #[.string s.name, .int .i64 s.version, .int .i64 0, .int .i64 0, .int .i64 0, .bool false, .slice ao l.length co, .bool false] 59 (0, 0))) := hz; have BF := hb.trans (on.below.mono (by omega)); have OF : Hid _ := own_mono (own_blk HE.out (fun q hq _ => on.other q (by omega))) (show w.heap.size ≤ w1.heap.size + 1 by omega); have p0 := blk_cell RF.out 0 rfl; have p1 := blk_cell RF.out 1 rfl; have p2 := blk_cell RF.out 2 rfl; have p3 := blk_cell RF.out 3 rfl; have p4 := blk_cell RF.out 4 rfl; have p5 := blk_cell RF.out 5 rfl; have p6 := blk_cell RF.out 6 rfl; have p7 := blk_cell RF.out 7 rfl; clear hz on))
        refine bodyPost_ret (v := .tuple #[.agg #[.string s.name, .int .i64 s.version, .int .i64 0, .int .i64 0, .int .i64 0, .bool false, .slice ao l.length co, .bool false], .bool true]) (by simp [results, Tryz.results115, go_sem, p0, p1, p2, p3, p4, p5, p6, p7]) rfl ⟨ao, co, by rw [HD.out], OF, BF⟩
      · have HD : Hid (decide (0 < l.length) = false) := by simp [Hid, hl0]
        go_wp2_with (first
          | (refine wpList_load_row rfl 59 (.tmp 6) rfl w1.heap.size rfl 59 #[.string s.name, .int .i64 s.version, .int .i64 0, .int .i64 0, .int .i64 0, .bool false, .slice ao l.length co, .bool false] (0, 0) _ Y0.out Tryz.underlying59 rfl Tryz.infosActS ?_)
          | (refine wpList_store_only rfl 59 (.tmp 4) (.tmp 30) rfl (w.heap.size + 1) 0 #[.string s.name, .int .i64 s.version, .int .i64 0, .int .i64 0, .int .i64 0, .bool false, .slice ao l.length co, .bool false] rfl rfl 59 #[.string ⟨#[]⟩, .int .i64 0, .int .i64 0, .int .i64 0, .int .i64 0, .bool false, .slice none 0 0, .bool false] R0.out Tryz.infosActS (Nat.le_of_ble_eq_true rfl) (by simp [Value.oneCell']) ?_; intro wf hz on; have RF : Hid (wf.heap[(w.heap.size + 1)]? = some (.cells #[.string s.name, .int .i64 s.version, .int .i64 0, .int .i64 0, .int .i64 0, .bool false, .slice ao l.length co, .bool false] 59 (0, 0))) := hz; have BF := hb.trans (on.below.mono (by omega)); have OF : Hid _ := own_mono (own_blk HE.out (fun q hq _ => on.other q (by omega))) (show w.heap.size ≤ w1.heap.size + 1 by omega); have p0 := blk_cell RF.out 0 rfl; have p1 := blk_cell RF.out 1 rfl; have p2 := blk_cell RF.out 2 rfl; have p3 := blk_cell RF.out 3 rfl; have p4 := blk_cell RF.out 4 rfl; have p5 := blk_cell RF.out 5 rfl; have p6 := blk_cell RF.out 6 rfl; have p7 := blk_cell RF.out 7 rfl; clear hz on))
        refine bodyPost_ret (v := .tuple #[.agg #[.string s.name, .int .i64 s.version, .int .i64 0, .int .i64 0, .int .i64 0, .bool false, .slice ao l.length co, .bool false], .bool false]) (by simp [results, Tryz.results115, go_sem, p0, p1, p2, p3, p4, p5, p6, p7]) rfl ⟨ao, co, by rw [HD.out], OF, BF⟩

end Go.Proofs.YtbceafpodamnfabGreat

/-
  My own. The program's stewards: the first to end ends; what the load asks for.
-/
namespace Go.Proofs.YtbceafpodamnfabGreat
open Go.RowKit Go.Sort

section
variable {P : Program}
/-- A whole struct loaded, by an operation that is wanted. -/
theorem wpList_load_rowG {ops : Array Oper} {rest : List Oper} {o : Oper} {a : Act} {w : World} {Q : Exit → Act → World → Prop} (hw : Region.wanted o (yielded ops a.tmps) = true) (ty : TypeId) (x : Operand) (ho : o.op = .load ty x)
    (g : Nat) (hx : a.eval x = .pointer (some ⟨g, 0, none⟩)) (t : TypeId) (cs : Array Value) (fr : Nat × Nat) (d : TypeDesc) (hg : w.heap[g]? = some (.cells cs t fr))
    (hu : P.underlying ty = some d) (hd : (match d with | .struct _ | .array _ _ => true | _ => false) = true) (hi : (P.info? ty).map (·.size) = some cs.size)
    (h : wpList P ops Q rest (a.put o.dst (.agg cs)) w) : wpList P ops Q (o :: rest) a w := by
  refine wpList_step fun K hK => ?_
  rw [if_pos hw]
  exact wp_load_row ty x ho g hx t cs fr d hg hu hd hi (hK _ _ h)
end

def zeroA : Ac := ⟨⟨#[]⟩, 0, 0, 0, 0, false, [], false⟩
/-- What a steward's method hands back: an act, if it asks. -/
def Asked (lo : Nat) (w : World) (e : Ending) (o : Option Ac) : Prop := ∃ (A : Ac) (ae : Option Addr) (ce : Nat), e = .returned (.tuple #[.agg #[.string A.service, .int .i64 A.seen, .int .i64 A.create, .int .i64 A.want, .int .i64 A.cool, .bool A.scale, .slice ae A.ends.length ce, .bool A.drop], .bool o.isSome]) ∧ Hid (w.ownsRow lo 118 2 (.slice ae A.ends.length ce) A.ends.length (ensV A.ends)) ∧ Hid (∀ A', o = some A' → A = A')
theorem asked_no (lo : Nat) (w : World) : Asked lo w (.returned (.tuple #[.agg #[.string ⟨#[]⟩, .int .i64 0, .int .i64 0, .int .i64 0, .int .i64 0, .bool false, .slice none 0 0, .bool false], .bool false])) none := ⟨zeroA, none, 0, rfl, World.ownsRow_nil _ _ _ _, fun _ h => by cases h⟩

def endFirstO (s : Svc) (r : Int) (l : List Sn) : Option Ac := if l ≠ [] ∧ mayR s (firstS l).c r = true then some { a0 s with ends := [endOf (firstS l).c] } else none
theorem endFirstO_nil (s : Svc) (r : Int) (l : List Sn) (h : l.length = 0) : endFirstO s r l = none := by
  unfold endFirstO; rw [if_neg]; intro h'; exact h'.1 (List.length_eq_zero_iff.1 h)
theorem endFirstO_not (s : Svc) (r : Int) (l : List Sn) (b : Sn) (hb : b = firstS l) (h : mayR s b.c r = false) : endFirstO s r l = none := by
  unfold endFirstO; rw [if_neg]; rw [← hb, h]; simp
theorem endFirstO_yes (s : Svc) (r : Int) (l : List Sn) (b : Sn) (hl : 0 < l.length) (hb : b = firstS l) (h : mayR s b.c r = true) : endFirstO s r l = some { a0 s with ends := [endOf b.c] } := by
  unfold endFirstO; rw [if_pos ⟨by intro e; rw [e] at hl; simp at hl, by rw [← hb]; exact h⟩, ← hb]

set_option maxRecDepth 100000 in
set_option maxHeartbeats 8000000 in
theorem endFirst_any (s : Svc) (N : Cnt) (dr : Int) (aS : Option Addr) (nS cS : Nat) (l : List Sn) (lo : Nat) (al : Option Addr) (cl : Nat) (w : World) (hl : l.length ≤ 1048576) (hr0 : 0 ≤ N.ready) (hr1 : N.ready ≤ 1048576) (hsi : SvcIn s) (hL : OwnSn lo w al cl l) :
    Calls Tryz.prog 112 #[.agg #[.string s.name, .int .i64 s.version, .bool s.gone, .int .i64 s.image, .int .i64 s.want, .int .i64 s.down, .int .i64 s.over, .int .i64 s.next, .int .i64 s.per, .int .i64 s.least, .int .i64 s.most, .int .i64 s.load, .int .i64 s.cool, .int .i64 N.live, .int .i64 N.ready, .int .i64 N.old, .int .i64 N.failed, .int .i64 N.ending, .int .i64 dr, .slice aS nS cS], .slice al l.length cl] w fun e w' => Asked w.heap.size w' e (endFirstO s N.ready l) ∧ Below w.heap.size w w' := by
  have HL : Hid (OwnSn lo w al cl l) := hL
  have HE1 : Hid (∀ (b : Sn) (W : World), Calls Tryz.prog 141 #[.agg #[.string s.name, .int .i64 s.version, .bool s.gone, .int .i64 s.image, .int .i64 s.want, .int .i64 s.down, .int .i64 s.over, .int .i64 s.next, .int .i64 s.per, .int .i64 s.least, .int .i64 s.most, .int .i64 s.load, .int .i64 s.cool, .int .i64 N.live, .int .i64 N.ready, .int .i64 N.old, .int .i64 N.failed, .int .i64 N.ending, .int .i64 dr, .slice aS nS cS], .agg #[.string b.c.service, .int .i64 b.c.number, .int .i64 b.c.version, .int .i64 b.c.image, .int .i64 b.c.state, .bool b.c.ending, .string b.c.berth, .bool b.old, .bool b.drain]] W fun e w' => e = .returned (.bool (mayR s b.c N.ready)) ∧ Below W.heap.size W w') := fun b W => sMayEnd_any s N dr aS nS cS b W hr0 hr1 hsi
  clear hL hsi hr0 hr1
  obtain ⟨W0, hW0, t0, t1, hz0, hz0', hb0⟩ := two_newW w (.cells #[.string s.name, .int .i64 s.version, .bool s.gone, .int .i64 s.image, .int .i64 s.want, .int .i64 s.down, .int .i64 s.over, .int .i64 s.next, .int .i64 s.per, .int .i64 s.least, .int .i64 s.most, .int .i64 s.load, .int .i64 s.cool, .int .i64 N.live, .int .i64 N.ready, .int .i64 N.old, .int .i64 N.failed, .int .i64 N.ending, .int .i64 dr, .slice aS nS cS] 108) (.cells #[.string ⟨#[]⟩, .int .i64 0, .int .i64 0, .int .i64 0, .int .i64 0, .bool false, .slice none 0 0, .bool false] 59)
  have T0 : Hid _ := t0
  have T1 : Hid _ := t1
  clear t0 t1
  go_enter Tryz.func112, Tryz.ntmps112
  go_upto_region 1 with fail
  clear hW0
  go_wp2_with fail
  refine (firstOf_any l lo al cl _ hl (own_below HL.out hb0 (Nat.le_refl _))).mono ?_
  rintro e w1 ⟨b, HB, rfl, hb1⟩
  obtain ⟨W1, hW1⟩ : ∃ W, w1.alloc (.cells #[.string b.c.service, .int .i64 b.c.number, .int .i64 b.c.version, .int .i64 b.c.image, .int .i64 b.c.state, .bool b.c.ending, .string b.c.berth, .bool b.old, .bool b.drain] 148) = W := ⟨_, rfl⟩
  have hz1 := hb1.size
  have X1 : Hid _ := heap_alloc_new w1 (.cells #[.string b.c.service, .int .i64 b.c.number, .int .i64 b.c.version, .int .i64 b.c.image, .int .i64 b.c.state, .bool b.c.ending, .string b.c.berth, .bool b.old, .bool b.drain] 148)
  have hbb1 := hb1.trans ((below_box w1 (.cells #[.string b.c.service, .int .i64 b.c.number, .int .i64 b.c.version, .int .i64 b.c.image, .int .i64 b.c.state, .bool b.c.ending, .string b.c.berth, .bool b.old, .bool b.drain] 148)).mono hz1)
  have S1 : Hid _ := below_blk hbb1 T0.out (by omega)
  have R1 : Hid _ := below_blk hbb1 T1.out (by omega)
  have hbw1 := hb0.trans (hbb1.mono hb0.size)
  have hzx : w1.heap.size < (w1.alloc (.cells #[.string b.c.service, .int .i64 b.c.number, .int .i64 b.c.version, .int .i64 b.c.image, .int .i64 b.c.state, .bool b.c.ending, .string b.c.berth, .bool b.old, .bool b.drain] 148)).heap.size := by simp
  rw [hW1] at X1 S1 R1 hbw1 hzx
  clear hb1 hbb1 T0 T1 hb0
  by_cases hl0 : 0 < l.length
  · have HD : Hid (decide (0 < l.length) = true) := by simp [Hid, hl0]
    rw [HD.out]
    go_upto_region 2 with fail
    clear hW1
    go_wp2_with (first
      | (refine wpList_load_rowG rfl 108 (.tmp 2) rfl w.heap.size rfl 108 #[.string s.name, .int .i64 s.version, .bool s.gone, .int .i64 s.image, .int .i64 s.want, .int .i64 s.down, .int .i64 s.over, .int .i64 s.next, .int .i64 s.per, .int .i64 s.least, .int .i64 s.most, .int .i64 s.load, .int .i64 s.cool, .int .i64 N.live, .int .i64 N.ready, .int .i64 N.old, .int .i64 N.failed, .int .i64 N.ending, .int .i64 dr, .slice aS nS cS] (0, 0) _ S1.out Tryz.underlying108 rfl Tryz.infosSight ?_)
      | (refine wpList_load_rowG rfl 148 (.tmp 6) rfl w1.heap.size rfl 148 #[.string b.c.service, .int .i64 b.c.number, .int .i64 b.c.version, .int .i64 b.c.image, .int .i64 b.c.state, .bool b.c.ending, .string b.c.berth, .bool b.old, .bool b.drain] (0, 0) _ X1.out Tryz.underlying148 rfl Tryz.infosSn ?_))
    obtain ⟨m, HM, HC⟩ : ∃ m : Bool, Hid (mayR s b.c N.ready = m) ∧ Hid (∀ W : World, Calls Tryz.prog 141 #[.agg #[.string s.name, .int .i64 s.version, .bool s.gone, .int .i64 s.image, .int .i64 s.want, .int .i64 s.down, .int .i64 s.over, .int .i64 s.next, .int .i64 s.per, .int .i64 s.least, .int .i64 s.most, .int .i64 s.load, .int .i64 s.cool, .int .i64 N.live, .int .i64 N.ready, .int .i64 N.old, .int .i64 N.failed, .int .i64 N.ending, .int .i64 dr, .slice aS nS cS], .agg #[.string b.c.service, .int .i64 b.c.number, .int .i64 b.c.version, .int .i64 b.c.image, .int .i64 b.c.state, .bool b.c.ending, .string b.c.berth, .bool b.old, .bool b.drain]] W fun e w' => e = .returned (.bool m) ∧ Below W.heap.size W w') := ⟨_, rfl, fun W => HE1.out b W⟩
    refine (HC.out _).mono ?_
    rintro e w2 ⟨rfl, hb2⟩
    have hz2 := hb2.size
    have X2 : Hid _ := below_blk hb2 X1.out hzx
    have S2 : Hid _ := below_blk hb2 S1.out (by omega)
    have R2 : Hid _ := below_blk hb2 R1.out (by omega)
    have hbw2 := hbw1.trans (hb2.mono hbw1.size)
    clear X1 S1 R1 hb2 hbw1 HC HE1
    cases m
    · go_wp2_with (first
        | (refine wpList_store_only rfl 59 (.tmp 4) (.tmp 21) rfl (w.heap.size + 1) 0 #[.string ⟨#[]⟩, .int .i64 0, .int .i64 0, .int .i64 0, .int .i64 0, .bool false, .slice none 0 0, .bool false] rfl rfl 59 #[.string ⟨#[]⟩, .int .i64 0, .int .i64 0, .int .i64 0, .int .i64 0, .bool false, .slice none 0 0, .bool false] R2.out Tryz.infosActS (Nat.le_of_ble_eq_true rfl) (by simp [Value.oneCell']) ?_; intro wf hz on; have RF : Hid (wf.heap[(w.heap.size + 1)]? = some (.cells #[.string ⟨#[]⟩, .int .i64 0, .int .i64 0, .int .i64 0, .int .i64 0, .bool false, .slice none 0 0, .bool false] 59 (0, 0))) := hz; have BF := hbw2.trans (on.below.mono (by omega)); have p0 := blk_cell RF.out 0 rfl; have p1 := blk_cell RF.out 1 rfl; have p2 := blk_cell RF.out 2 rfl; have p3 := blk_cell RF.out 3 rfl; have p4 := blk_cell RF.out 4 rfl; have p5 := blk_cell RF.out 5 rfl; have p6 := blk_cell RF.out 6 rfl; have p7 := blk_cell RF.out 7 rfl; clear hz on))
      refine bodyPost_ret (v := .tuple #[.agg #[.string ⟨#[]⟩, .int .i64 0, .int .i64 0, .int .i64 0, .int .i64 0, .bool false, .slice none 0 0, .bool false], .bool false]) (by simp [results, Tryz.results112, go_sem, p0, p1, p2, p3, p4, p5, p6, p7]) rfl ⟨by rw [endFirstO_not s N.ready l b HB.out HM.out]; exact asked_no _ _, BF⟩
    · have HO : Hid (endFirstO s N.ready l = some { a0 s with ends := [endOf b.c] }) := endFirstO_yes s N.ready l b hl0 HB.out HM.out
      go_wp2_with (first
        | (refine wpList_load_row rfl 108 (.tmp 2) rfl w.heap.size rfl 108 #[.string s.name, .int .i64 s.version, .bool s.gone, .int .i64 s.image, .int .i64 s.want, .int .i64 s.down, .int .i64 s.over, .int .i64 s.next, .int .i64 s.per, .int .i64 s.least, .int .i64 s.most, .int .i64 s.load, .int .i64 s.cool, .int .i64 N.live, .int .i64 N.ready, .int .i64 N.old, .int .i64 N.failed, .int .i64 N.ending, .int .i64 dr, .slice aS nS cS] (0, 0) _ S2.out Tryz.underlying108 rfl Tryz.infosSight ?_)
        | (refine wpList_load_row rfl 148 (.tmp 6) rfl w1.heap.size rfl 148 #[.string b.c.service, .int .i64 b.c.number, .int .i64 b.c.version, .int .i64 b.c.image, .int .i64 b.c.state, .bool b.c.ending, .string b.c.berth, .bool b.old, .bool b.drain] (0, 0) _ X2.out Tryz.underlying148 rfl Tryz.infosSn ?_))
      have hbx := below_box w2 (.cells #[.string b.c.service, .int .i64 b.c.number, .int .i64 b.c.version, .int .i64 b.c.image, .int .i64 b.c.state, .bool b.c.ending, .string b.c.berth, .bool b.old, .bool b.drain] 148)
      have hown : OwnSn w2.heap.size (w2.alloc (.cells #[.string b.c.service, .int .i64 b.c.number, .int .i64 b.c.version, .int .i64 b.c.image, .int .i64 b.c.state, .bool b.c.ending, .string b.c.berth, .bool b.old, .bool b.drain] 148)) (some ⟨w2.heap.size, 0, none⟩) 1 [b] := ⟨by simp [snsV_len], .inr ⟨w2.heap.size, 1, #[.string b.c.service, .int .i64 b.c.number, .int .i64 b.c.version, .int .i64 b.c.image, .int .i64 b.c.state, .bool b.c.ending, .string b.c.berth, .bool b.old, .bool b.drain], rfl, Nat.le_refl _, heap_alloc_new w2 _, Nat.le_refl _, by unfold maxLen; omega, rfl, by simp [snsV, Sn.cells]⟩⟩
      refine (end_any s N dr aS nS cS [b] w2.heap.size (some ⟨w2.heap.size, 0, none⟩) 1 _ (by simp) hown).mono ?_
      rintro e w3 ⟨ae, ce, rfl, hown3, hb3⟩
      have hbb3 := hbx.trans (hb3.mono (by simp))
      have hz3 := hbb3.size
      have R3 : Hid _ := below_blk hbb3 R2.out (by omega)
      have hbw3 := hbw2.trans (hbb3.mono (by omega))
      have hzz : w.heap.size ≤ (w2.alloc (.cells #[.string b.c.service, .int .i64 b.c.number, .int .i64 b.c.version, .int .i64 b.c.image, .int .i64 b.c.state, .bool b.c.ending, .string b.c.berth, .bool b.old, .bool b.drain] 148)).heap.size := by simp; omega
      have O3 : Hid _ := own_mono hown3.out (show w.heap.size + 1 + 1 ≤ (w2.alloc (.cells #[.string b.c.service, .int .i64 b.c.number, .int .i64 b.c.version, .int .i64 b.c.image, .int .i64 b.c.state, .bool b.c.ending, .string b.c.berth, .bool b.old, .bool b.drain] 148)).heap.size by simp; omega)
      clear X2 S2 R2 hbx hb3 hbb3 hown hown3
      go_wp2_with (first
        | (refine wpList_store_only rfl 59 (.tmp 4) (.tmp 26) rfl (w.heap.size + 1) 0 #[.string s.name, .int .i64 s.version, .int .i64 0, .int .i64 0, .int .i64 0, .bool false, .slice ae 1 ce, .bool false] rfl rfl 59 #[.string ⟨#[]⟩, .int .i64 0, .int .i64 0, .int .i64 0, .int .i64 0, .bool false, .slice none 0 0, .bool false] R3.out Tryz.infosActS (Nat.le_of_ble_eq_true rfl) (by simp [Value.oneCell']) ?_; intro wf hz on; have RF : Hid (wf.heap[(w.heap.size + 1)]? = some (.cells #[.string s.name, .int .i64 s.version, .int .i64 0, .int .i64 0, .int .i64 0, .bool false, .slice ae 1 ce, .bool false] 59 (0, 0))) := hz; have BF := hbw3.trans (on.below.mono (by omega)); have OF : Hid _ := own_mono (own_blk O3.out (fun q hq _ => on.other q (by omega))) (show w.heap.size ≤ w.heap.size + 1 + 1 by omega); have p0 := blk_cell RF.out 0 rfl; have p1 := blk_cell RF.out 1 rfl; have p2 := blk_cell RF.out 2 rfl; have p3 := blk_cell RF.out 3 rfl; have p4 := blk_cell RF.out 4 rfl; have p5 := blk_cell RF.out 5 rfl; have p6 := blk_cell RF.out 6 rfl; have p7 := blk_cell RF.out 7 rfl; clear hz on))
      refine bodyPost_ret (v := .tuple #[.agg #[.string s.name, .int .i64 s.version, .int .i64 0, .int .i64 0, .int .i64 0, .bool false, .slice ae 1 ce, .bool false], .bool true]) (by simp [results, Tryz.results112, go_sem, p0, p1, p2, p3, p4, p5, p6, p7]) rfl ⟨by rw [HO.out]; exact ⟨{ a0 s with ends := [endOf b.c] }, ae, ce, rfl, OF, fun A' h => Option.some.inj h⟩, BF⟩
  · have HD : Hid (decide (0 < l.length) = false) := by simp [Hid, hl0]
    rw [HD.out]
    go_upto_region 2 with fail
    clear hW1
    go_wp2_with (first
      | (refine wpList_store_only rfl 59 (.tmp 4) (.tmp 21) rfl (w.heap.size + 1) 0 #[.string ⟨#[]⟩, .int .i64 0, .int .i64 0, .int .i64 0, .int .i64 0, .bool false, .slice none 0 0, .bool false] rfl rfl 59 #[.string ⟨#[]⟩, .int .i64 0, .int .i64 0, .int .i64 0, .int .i64 0, .bool false, .slice none 0 0, .bool false] R1.out Tryz.infosActS (Nat.le_of_ble_eq_true rfl) (by simp [Value.oneCell']) ?_; intro wf hz on; have RF : Hid (wf.heap[(w.heap.size + 1)]? = some (.cells #[.string ⟨#[]⟩, .int .i64 0, .int .i64 0, .int .i64 0, .int .i64 0, .bool false, .slice none 0 0, .bool false] 59 (0, 0))) := hz; have BF := hbw1.trans (on.below.mono (by omega)); have p0 := blk_cell RF.out 0 rfl; have p1 := blk_cell RF.out 1 rfl; have p2 := blk_cell RF.out 2 rfl; have p3 := blk_cell RF.out 3 rfl; have p4 := blk_cell RF.out 4 rfl; have p5 := blk_cell RF.out 5 rfl; have p6 := blk_cell RF.out 6 rfl; have p7 := blk_cell RF.out 7 rfl; clear hz on))
    refine bodyPost_ret (v := .tuple #[.agg #[.string ⟨#[]⟩, .int .i64 0, .int .i64 0, .int .i64 0, .int .i64 0, .bool false, .slice none 0 0, .bool false], .bool false]) (by simp [results, Tryz.results112, go_sem, p0, p1, p2, p3, p4, p5, p6, p7]) rfl ⟨by rw [endFirstO_nil s N.ready l (by omega)]; exact asked_no _ _, BF⟩

set_option maxHeartbeats 2000000 in
theorem dueWant_any (s : Svc) (w : World) (h0 : 0 ≤ s.load) (h1 : s.load ≤ 1000000) (h2 : 1 ≤ s.per) (h3 : s.per ≤ 1000000) (_h4 : 0 ≤ s.least) (_h5 : s.least ≤ 10) (_h6 : 0 ≤ s.most) (_h7 : s.most ≤ 10) (hlm : s.least ≤ s.most) :
    Calls Tryz.prog 118 #[.agg #[.string s.name, .int .i64 s.version, .bool s.gone, .int .i64 s.image, .int .i64 s.want, .int .i64 s.down, .int .i64 s.over, .int .i64 s.next, .int .i64 s.per, .int .i64 s.least, .int .i64 s.most, .int .i64 s.load, .int .i64 s.cool]] w fun e w' => e = .returned (.int .i64 (desired s)) ∧ Below w.heap.size w w' := by
  have hq0 : 0 ≤ Int.tdiv (s.load + s.per - 1) s.per := Int.tdiv_nonneg (by omega) (by omega)
  have hq1 : Int.tdiv (s.load + s.per - 1) s.per ≤ s.load + s.per - 1 := Int.tdiv_le_self _ (by omega)
  obtain ⟨d, HD⟩ : ∃ d, Hid (desired s = d) := ⟨_, rfl⟩
  rw [HD.out]
  go_enter Tryz.func118, Tryz.ntmps118
  go_wp2
  all_goals
    go_ret
    refine ⟨ret_int ?_, below_box _ _⟩
    rw [← HD.out]
    unfold desired clampD
    generalize Int.tdiv (s.load + s.per - 1) s.per = q at *
    (repeat' split) <;> first | rfl | omega | (exfalso; split at * <;> omega)

end Go.Proofs.YtbceafpodamnfabGreat
