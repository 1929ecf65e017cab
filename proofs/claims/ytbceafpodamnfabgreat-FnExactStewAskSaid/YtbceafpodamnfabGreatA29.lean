/-
  My own: Sl.
-/
import Derived.Test.YtbceafpodamnfabGreatA28
import Derived.Test.YtbceafpodamnfabGreatA06
import Derived.RangeFuncOwn
set_option linter.unusedVariables false
set_option linter.unusedSimpArgs false
/-
  My own. The program's stewards: what is seen of a service.
-/
namespace Go.Proofs.YtbceafpodamnfabGreat
open Go.RowKit Go.Sort Go.Shelf

attribute [local go_sem] Oper.semAt_some

def seenOf (B : Bk) (s : Svc) (c : Cp) : Sn := ⟨c, c.image != s.image, drainsB B c⟩
/-- The live ones of some copies, as they are seen. -/
def liveS (B : Bk) (s : Svc) (l : List Cp) : List Sn := (l.filter fun c => !c.ending).map (seenOf B s)
def sArr (s : Svc) (N : Cnt) (d : Int) (v : Value) : Array Value := #[.string s.name, .int .i64 s.version, .bool s.gone, .int .i64 s.image, .int .i64 s.want, .int .i64 s.down, .int .i64 s.over, .int .i64 s.next, .int .i64 s.per, .int .i64 s.least, .int .i64 s.most, .int .i64 s.load, .int .i64 s.cool, .int .i64 N.live, .int .i64 N.ready, .int .i64 N.old, .int .i64 N.failed, .int .i64 N.ending, .int .i64 d, v]
def liveA (B : Bk) (s : Svc) (l : List {c // c ∈ B.cps}) : List Sn := liveS B s (l.map (·.1))
def drained (l : List Sn) : Nat := l.countP (·.drain)
theorem liveS_add (B : Bk) (s : Svc) (l : List Cp) (x : Cp) : liveS B s (l ++ [x]) = liveS B s l ++ (if x.ending then [] else [seenOf B s x]) := by
  unfold liveS
  rw [List.filter_append, List.map_append]
  cases h : x.ending <;> simp [List.filter, h]

theorem four_newW (w : World) (A B C D : Obj) : ∃ W0, (((w.alloc A).alloc B).alloc C).alloc D = W0 ∧ W0.heap[w.heap.size]? = some A ∧ W0.heap[w.heap.size + 1]? = some B ∧ W0.heap[w.heap.size + 1 + 1]? = some C ∧ W0.heap[w.heap.size + 1 + 1 + 1]? = some D ∧ w.heap.size + 1 + 1 + 1 + 1 ≤ W0.heap.size ∧ Below w.heap.size w W0 := by
  obtain ⟨t0, t1, t2, t3, t4⟩ := four_new w A B C D
  exact ⟨_, rfl, t0, t1, t2, t3, by rw [t4]; exact Nat.le_refl _, (((((Below.refl _ _).alloc (Nat.le_refl _) _).alloc (by simp) _).alloc (by simp; omega) _).alloc (by simp; omega) _)⟩

section
variable {P : Program}
/-- One element appended onto a row of one's own, or onto nil; what is of another type lies as it lay. -/
theorem wpList_append_mineT {ops : Array Oper} {rest : List Oper} {o : Oper} {a : Act} {w : World} {Q : Exit → Act → World → Prop} (hgd : o.guard = none) (s x : Operand) (t : TypeId)
    (ho : o.op = .call { callee := .builtin .append, args := #[s, x], argTypes := #[t, t] })
    (base : Nat) (e : TypeId) (z : Value) (size bytes : Nat) (ht : P.underlying t = some (.slice e)) (hinfo : (P.info? e).map (fun i => (i.zero, i.size, i.bytes)) = some (some z, size, bytes)) (hzs : z.cells.size = size) (hsz : 0 < size)
    (v : Value) (n : Nat) (xs : List Value) (hs : a.eval s = v) (hown : w.ownsRow base e size v n xs)
    (ad : Addr) (c : Nat) (news : List Value) (hx : a.eval x = .slice (some ad) 1 c) (hl : news.length = 1 * size) (hnews : ∀ j u, news[j]? = some u → w.cell? (ad.add j) = some u) (h1 : ∀ u ∈ news, u.oneCell' = true)
    (h63 : n + 1 ≤ maxLen) (hbytes : (n + 1) * bytes ≤ 140737488355328) (hbase : base ≤ w.heap.size)
    (h : ∀ g cap w', base ≤ g → Hid (w'.ownsRow base e size (.slice (some ⟨g, 0, none⟩) (n + 1) cap) (n + 1) (xs ++ news)) → Below base w w' → (∀ (k : Nat) (o : Obj), w.heap[k]? = some o → (∀ cs fr, o ≠ .cells cs e fr) → w'.heap[k]? = some o) → wpList P ops Q rest (a.put o.dst (.slice (some ⟨g, 0, none⟩) (n + 1) cap)) w') : wpList P ops Q (o :: rest) a w := by
  obtain ⟨i, hi, hz, hs', hb⟩ := info_parts hinfo
  refine wpList_append_own w hgd s x t ho base e i z size bytes ht hi hz hs' hb hzs hsz v n xs hs hown ad 1 c news hx hl hnews h1 h63 hbytes hbase fun v' w' ho' hgr _ => ?_
  have hb' : Below base w w' := ⟨hgr.os, hgr.tape, hgr.output, hgr.size, fun k hk => hgr.block k (by omega) (fun e' => by have := (hown.lt k e'.symm).1; omega)⟩
  rcases ho'.2 with ⟨_, h0⟩ | ⟨g, cap, cur, rfl, hbg, _⟩
  · omega
  · refine h g cap w' hbg ho' hb' fun k o hk hc => ?_
    refine (hgr.block k (Array.getElem?_eq_some_iff.1 hk).1 fun e' => ?_).trans hk
    rcases hown.2 with ⟨rfl, _⟩ | ⟨g0, cap0, cur0, rfl, _, hgb, _⟩
    · simp [Value.ownBlock] at e'
    · obtain rfl : k = g0 := by simpa [Value.ownBlock] using e'
      rw [hgb] at hk; cases hk; exact hc _ _ rfl
theorem wpList_make_mine {ops : Array Oper} {rest : List Oper} {o : Oper} {a : Act} {w : World} {Q : Exit → Act → World → Prop} (hgd : o.guard = none) (l c : Operand) (t : TypeId) (hop : o.op = Op.makeSlice t l c)
    (base : Nat) (e : TypeId) (z : Value) (size bytes : Nat) (ht : P.underlying t = some (.slice e)) (hinfo : (P.info? e).map (fun i => (i.zero, i.size, i.bytes)) = some (some z, size, bytes))
    (n : Nat) (hl : a.eval l = .int .i64 0) (hc : a.eval c = .int .i64 (n : Int)) (b2 : bytes * n ≤ 281474976710656) (b3 : n ≤ maxLen) (hbase : base ≤ w.heap.size)
    (h : ∀ w', w'.ownsRow base e size (.slice (some ⟨w.heap.size, 0, none⟩) 0 n) 0 [] → Below w.heap.size w w' → wpList P ops Q rest (a.put o.dst (.slice (some ⟨w.heap.size, 0, none⟩) 0 n)) w') :
    wpList P ops Q (o :: rest) a w := by
  obtain ⟨i, hi, hz, hs, hb⟩ := info_parts hinfo
  obtain ⟨w', hr, ho, hg⟩ := run_make_own (P := P) w base t e i z size ht hi hz hs .i64 .i64 n (by rw [hb]; exact b2) b3 hbase
  refine wpList_plain hgd fun K hK => ?_
  unfold Oper.wp
  simp [execOp, hop, hl, hc, hr, Result.andThen]
  exact hK _ _ (h w' ho ⟨hg.os, hg.tape, hg.output, hg.size, fun k hk => hg.block k hk (by simp)⟩)
theorem wpListIn_load_row {n : Nat} {ops : Array Oper} {rest : List Oper} {o : Oper} {a : Act} {w : World} {Q : Exit → Act → World → Prop} (hgd : o.guard = none) (ty : TypeId) (x : Operand) (ho : o.op = .load ty x)
    (g : Nat) (hx : a.eval x = .pointer (some ⟨g, 0, none⟩)) (t : TypeId) (cs : Array Value) (fr : Nat × Nat) (d : TypeDesc) (hg : w.heap[g]? = some (.cells cs t fr))
    (hu : P.underlying ty = some d) (hd : (match d with | .struct _ | .array _ _ => true | _ => false) = true) (hi : (P.info? ty).map (·.size) = some cs.size)
    (h : wpListIn Fence.wide n P ops Q rest (a.put o.dst (.agg cs)) w) : wpListIn Fence.wide n P ops Q (o :: rest) a w := by
  refine wpListIn_plain hgd fun K hK => ?_
  unfold Oper.wpIn
  refine ⟨fun _ _ => trivial, ?_⟩
  rw [Oper.semAt_plain Fence.wide _ _ (by rw [ho]; intro c hc; cases hc)]
  unfold execOp
  simp only [ho, hx, Instr.loadAt, Instr.sureAddr, Sem.run_bind, Sem.run_pure, Result.andThen_ok, run_loadVar_row w g t ty cs fr d hg hu hd hi]
  exact hK _ _ h
theorem wpListIn_store_only {n : Nat} {ops : Array Oper} {rest : List Oper} {o : Oper} {a : Act} {w : World} {Q : Exit → Act → World → Prop} (hgd : o.guard = none) (ty : TypeId) (x y : Operand) (ho : o.op = .store ty x y)
    (g off : Nat) (cells : Array Value) (hx : a.eval x = .pointer (some ⟨g, off, none⟩)) (hy : a.eval y = .agg cells) (t : TypeId) (cur : Array Value) (hg : w.heap[g]? = some (.cells cur t (0, 0)))
    (hi : (P.info? ty).map (·.size) = some cells.size) (hfit : off + cells.size ≤ cur.size) (h1 : cells.all (·.oneCell') = true)
    (h : ∀ w', Hid (w'.heap[g]? = some (.cells (splice cur.toList off cells.toList).toArray t (0, 0))) → Only g w w' → wpListIn Fence.wide n P ops Q rest (a.put o.dst undef) w') : wpListIn Fence.wide n P ops Q (o :: rest) a w := by
  refine wpListIn_plain hgd fun K hK => ?_
  unfold Oper.wpIn
  refine ⟨fun _ _ => trivial, ?_⟩
  rw [Oper.semAt_plain Fence.wide _ _ (by rw [ho]; intro c hc; cases hc)]
  unfold execOp
  simp only [ho, hx, hy, Instr.storeAt, Instr.sureAddr, Sem.run_bind, Sem.run_pure, Result.andThen_ok, run_storeVar_at w g off t ty cur cells hg hi hfit h1]
  exact hK _ _ (h _ (setRow_heap w g cur _ t _ hg) (only_setRow w g _))
end

theorem own_put {w : World} {lo D : Nat} {e : TypeId} {size : Nat} {v : Value} {n : Nat} {xs : List Value} {q : Option (List Deferred)} {o' : Obj} (h : w.ownsRow lo e size v n xs) (hD : w.heap[D]? = some (.deferred q)) : (w.putObj D o').ownsRow lo e size v n xs := by
  obtain ⟨h1, h2⟩ := h
  refine ⟨h1, ?_⟩
  rcases h2 with h2 | ⟨g, cap, cur, r1, r2, r3, r4⟩
  · exact .inl h2
  · exact .inr ⟨g, cap, cur, r1, r2, ((grownBy_putObj' w D o').block g (Array.getElem?_eq_some_iff.1 r3).1 (fun e => by have := Option.some.inj e; subst this; rw [r3] at hD; cases hD)).trans r3, r4⟩

theorem own_only {w w' : World} {lo p : Nat} {e ty : TypeId} {size : Nat} {v : Value} {n : Nat} {xs : List Value} {cs : Array Value} {fr : Nat × Nat} (h : w.ownsRow lo e size v n xs) (on : Only p w w') (hp : w.heap[p]? = some (.cells cs ty fr)) (hne : ty ≠ e) : w'.ownsRow lo e size v n xs := by
  obtain ⟨h1, h2⟩ := h
  refine ⟨h1, ?_⟩
  rcases h2 with h2 | ⟨g, cap, cur, r1, r2, r3, r4⟩
  · exact .inl h2
  · exact .inr ⟨g, cap, cur, r1, r2, (on.other g (fun e' => by subst e'; rw [r3] at hp; cases hp; exact hne rfl)).trans r3, r4⟩
theorem keepT {w w' : World} {e : TypeId} (h : ∀ (k : Nat) (o : Obj), w.heap[k]? = some o → (∀ cs fr, o ≠ .cells cs e fr) → w'.heap[k]? = some o) {k : Nat} {cs : Array Value} {ty : TypeId} {fr : Nat × Nat} (hk : w.heap[k]? = some (.cells cs ty fr)) (hne : ty ≠ e) : w'.heap[k]? = some (.cells cs ty fr) :=
  h k _ hk (fun cs' fr' e' => hne (by cases e'; rfl))
theorem keeps_T {w w' : World} {e : TypeId} (hs : w.heap.size ≤ w'.heap.size) (h : ∀ (k : Nat) (o : Obj), w.heap[k]? = some o → (∀ cs fr, o ≠ .cells cs e fr) → w'.heap[k]? = some o) : KeepsOthers w w' :=
  ⟨hs, fun k o hk hc => h k o hk (fun cs fr e' => by subst e'; cases hc)⟩
theorem keeps_below {W W' : World} (h : Below W.heap.size W W') : KeepsOthers W W' := ⟨h.size, fun k _o hk _ => (h.block k (Array.getElem?_eq_some_iff.1 hk).1).trans hk⟩
theorem keeps_only {W W' : World} {g : Nat} {cs : Array Value} {ty : TypeId} {fr : Nat × Nat} (on : Only g W W') (hg : W.heap[g]? = some (.cells cs ty fr)) : KeepsOthers W W' :=
  ⟨by rw [on.size]; exact Nat.le_refl _, fun k o hk hc => by
    by_cases e : k = g
    · subst e; rw [hg] at hk; cases hk; cases hc
    · exact (on.other k e).trans hk⟩
theorem sight_own {β : Type} (p lo : Nat) (ty e : TypeId) (size : Nat) (f : β → Option Addr → Nat → Array Value) (k : β → Nat) (xs : β → List Value) :
    Own (fun s W => ∃ al cl, W.heap[p]? = some (.cells (f s al cl) ty (0, 0)) ∧ W.ownsRow lo e size (.slice al (k s) cl) (k s) (xs s)) := by
  rintro s X Y row ⟨al, cl, h1, h2⟩ hg hrow
  refine ⟨al, cl, (hg.block p (Array.getElem?_eq_some_iff.1 h1).1 (fun e' => ?_)).trans h1, h2.kept hg ?_⟩
  · obtain ⟨o, ho, hc⟩ := hrow p e'.symm; rw [h1] at ho; cases ho; cases hc
  · rcases h2.2 with ⟨e1, _⟩ | ⟨g, cap, cur, e1, _, hgb, _⟩
    · left; rw [e1]; rfl
    · right
      intro e'
      rw [e1] at e'
      obtain ⟨o, ho, hc⟩ := hrow g (by simpa [Value.ownBlock] using e'.symm)
      rw [hgb] at ho; cases ho; cases hc
theorem drained_le (l : List Sn) : drained l ≤ l.length := List.countP_le_length
theorem liveA_add (B : Bk) (s : Svc) (l : List {c // c ∈ B.cps}) (x : {c // c ∈ B.cps}) : liveA B s (l ++ [x]) = liveA B s l ++ (if x.1.ending then [] else [seenOf B s x.1]) := by unfold liveA; rw [List.map_append]; exact liveS_add B s _ _
theorem liveA_len (B : Bk) (s : Svc) (l : List {c // c ∈ B.cps}) : (liveA B s l).length ≤ l.length := by unfold liveA liveS; rw [List.length_map]; refine Nat.le_trans (List.length_filter_le _ _) ?_; rw [List.length_map]; exact Nat.le_refl _
theorem liveS_len (B : Bk) (s : Svc) (l : List Cp) : (liveS B s l).length ≤ l.length := by unfold liveS; rw [List.length_map]; exact List.length_filter_le _ _

set_option maxRecDepth 100000 in
set_option maxHeartbeats 16000000 in
theorem sightOf_any (B : Bk) (s : Svc) (b : Nat) (N : Cnt) (a1 a2 a3 : Option Addr) (c1 c2 c3 : Nat) (w : World) (hV : Valid B) (HCP : Hid (B.cps.length ≤ c2)) (hS : B.small) (hZ : B.sized) (hP : PlacesX w b B B.svcs.length B.bts.length) (hB : BkAt w a1 a2 a3 B) (hN : Hid (N = cntTo s.image s.name B.cps B.cps.length)) (L : List Sn) (hL : Hid (L = liveS B s (ofS s.name B.cps))) (dr : Int) (hdr : Hid (dr = (drained L : Int))) :
    Calls Tryz.prog 72 #[.agg #[.int .i64 B.now, .slice a1 B.svcs.length c1, .slice a2 B.cps.length c2, .slice a3 B.bts.length c3], .map (some b), .agg #[.string s.name, .int .i64 s.version, .bool s.gone, .int .i64 s.image, .int .i64 s.want, .int .i64 s.down, .int .i64 s.over, .int .i64 s.next, .int .i64 s.per, .int .i64 s.least, .int .i64 s.most, .int .i64 s.load, .int .i64 s.cool]] w fun e w' => ∃ al cl, e = .returned (.agg #[.string s.name, .int .i64 s.version, .bool s.gone, .int .i64 s.image, .int .i64 s.want, .int .i64 s.down, .int .i64 s.over, .int .i64 s.next, .int .i64 s.per, .int .i64 s.least, .int .i64 s.most, .int .i64 s.load, .int .i64 s.cool, .int .i64 N.live, .int .i64 N.ready, .int .i64 N.old, .int .i64 N.failed, .int .i64 N.ending, .int .i64 dr, .slice al L.length cl]) ∧ Hid (OwnSn w.heap.size w' al cl L) ∧ Below w.heap.size w w' := by
  have hl := hS
  obtain ⟨hl1, hl2, hl3⟩ := hl
  obtain ⟨W0, hW0, t0, t1, t2, t3, hz0, hb0⟩ := four_newW w (.cells #[.int .i64 B.now, .slice a1 B.svcs.length c1, .slice a2 B.cps.length c2, .slice a3 B.bts.length c3] 34) (.cells #[.map (some b)] 104) (.cells #[.string s.name, .int .i64 s.version, .bool s.gone, .int .i64 s.image, .int .i64 s.want, .int .i64 s.down, .int .i64 s.over, .int .i64 s.next, .int .i64 s.per, .int .i64 s.least, .int .i64 s.most, .int .i64 s.load, .int .i64 s.cool] 48) (.cells #[.string ⟨#[]⟩, .int .i64 0, .bool false, .int .i64 0, .int .i64 0, .int .i64 0, .int .i64 0, .int .i64 0, .int .i64 0, .int .i64 0, .int .i64 0, .int .i64 0, .int .i64 0, .int .i64 0, .int .i64 0, .int .i64 0, .int .i64 0, .int .i64 0, .int .i64 0, .slice none 0 0] 108)
  have T0 : Hid _ := t0
  have T1 : Hid _ := t1
  have T2 : Hid _ := t2
  have T3 : Hid _ := t3
  have HP : Hid (PlacesX w b B B.svcs.length B.bts.length) := hP
  have HB : Hid (BkAt w a1 a2 a3 B) := hB
  have HCC : Hid (∀ W : World, Below W0.heap.size W0 W → Calls Tryz.prog 107 #[.agg #[.int .i64 B.now, .slice a1 B.svcs.length c1, .slice a2 B.cps.length c2, .slice a3 B.bts.length c3], .agg #[.string s.name, .int .i64 s.version, .bool s.gone, .int .i64 s.image, .int .i64 s.want, .int .i64 s.down, .int .i64 s.over, .int .i64 s.next, .int .i64 s.per, .int .i64 s.least, .int .i64 s.most, .int .i64 s.load, .int .i64 s.cool]] W fun e w' => e = .returned (.agg #[.int .i64 N.live, .int .i64 N.ready, .int .i64 N.old, .int .i64 N.failed, .int .i64 N.ending]) ∧ Below W.heap.size W w') := fun W h => countCopies_any B s a1 a2 a3 c1 c2 c3 W hl2 (riseC_of hV) HCP ((hB.below hb0).below h).2.1 N hN
  have HSO : Hid (RiseC B.cps) := riseC_of hV
  have HZC : Hid (∀ c ∈ B.cps, c.service.size ≤ maxLen ∧ c.berth.size ≤ maxLen) := hZ.2.2.2.2.1
  clear t0 t1 t2 t3 hP hB
  refine (callsIn_wide (n := 5)).1 ?_
  refine callsIn_of_wp_marks Tryz.func72 rfl trivial ?_ rfl
  simp only [Tryz.ntmps72, List.size_toArray, List.length_cons, List.length_nil, Nat.reduceAdd, Nat.reduceSub, Array.replicate_succ, Array.replicate_zero, List.push_toArray, List.append_toArray, List.nil_append, List.cons_append]
  obtain ⟨nl, HNL, hnl⟩ : ∃ nl : Nat, Hid (N.live = (nl : Int)) ∧ nl ≤ 1048576 := by
    have hu := cntTo_upTo s.image s.name B.cps B.cps.length (Nat.le_refl _)
    rw [← hN.out] at hu
    unfold Cnt.upTo at hu
    exact ⟨N.live.toNat, by unfold Hid; omega, by omega⟩
  have z0 := blk_cell T2.out 0 rfl
  have z1 := blk_cell T2.out 1 rfl
  have z2 := blk_cell T2.out 2 rfl
  have z3 := blk_cell T2.out 3 rfl
  have z4 := blk_cell T2.out 4 rfl
  have z5 := blk_cell T2.out 5 rfl
  have z6 := blk_cell T2.out 6 rfl
  have z7 := blk_cell T2.out 7 rfl
  have z8 := blk_cell T2.out 8 rfl
  have z9 := blk_cell T2.out 9 rfl
  have z10 := blk_cell T2.out 10 rfl
  have z11 := blk_cell T2.out 11 rfl
  have z12 := blk_cell T2.out 12 rfl
  have y0 := blk_cell T0.out 0 rfl
  have y1 := blk_cell T0.out 1 rfl
  have y2 := blk_cell T0.out 2 rfl
  have y3 := blk_cell T0.out 3 rfl
  gi_wp2
  refine ⟨trivial, ?_⟩
  refine (callsIn_wide.2 (HCC.out W0 (Below.refl _ _))).mono ?_
  rintro e wc ⟨rfl, hbc⟩
  clear hW0 HCC z0 z1 z2 z3 z4 z5 z6 z7 z8 z9 z10 z11 z12 y0 y1 y2 y3
  obtain ⟨W1, hW1⟩ : ∃ W, wc.alloc (.cells #[.int .i64 N.live, .int .i64 N.ready, .int .i64 N.old, .int .i64 N.failed, .int .i64 N.ending] 95) = W := ⟨_, rfl⟩
  have hbn := below_box wc (.cells #[.int .i64 N.live, .int .i64 N.ready, .int .i64 N.old, .int .i64 N.failed, .int .i64 N.ending] 95)
  have TN : Hid _ := heap_alloc_new wc (.cells #[.int .i64 N.live, .int .i64 N.ready, .int .i64 N.old, .int .i64 N.failed, .int .i64 N.ending] 95)
  have hzn : W1.heap.size = wc.heap.size + 1 := by rw [← hW1]; exact size_alloc' _ _
  have hzn1 : wc.heap.size < W1.heap.size := by omega
  have hzn2 : W1.heap.size ≤ wc.heap.size + 1 := by omega
  clear hzn
  rw [hW1] at hbn TN
  have hzc := hbc.size
  have hb01 := hbc.trans (hbn.mono hzc)
  have T0b : Hid _ := below_blk hb01 T0.out (by omega)
  have T1b : Hid _ := below_blk hb01 T1.out (by omega)
  have T2b : Hid _ := below_blk hb01 T2.out (by omega)
  have T3b : Hid _ := below_blk hb01 T3.out (by omega)
  gi_wp2
  clear hW1 hbc hbn T0 T1 T2 T3
  refine wpIn_wide.2 ?_
  refine wp_region_grows 7 (by kernel_rfl) (by kernel_rfl) ?_
  apply grow_eq
  · intro V W K A hW hd hA hK
    simp only [putAll, List.getElem?_toArray, List.getElem?_cons_succ, List.getElem?_cons_zero, Option.bind_some, Act.put, List.setIfInBounds_toArray, List.set_cons_succ, List.set_cons_zero] at hA
    clear hd
    generalize V 0 = x0 at hA
    generalize V 1 = x1 at hA
    generalize V 2 = x2 at hA
    generalize V 3 = x3 at hA
    generalize V 4 = x4 at hA
    generalize V 5 = x5 at hA
    generalize V 6 = x6 at hA
    obtain rfl := hA
    have z0 := blk_cell (below_blk hW T2b.out (by omega)) 0 rfl
    have z1 := blk_cell (below_blk hW T2b.out (by omega)) 1 rfl
    have z2 := blk_cell (below_blk hW T2b.out (by omega)) 2 rfl
    have z3 := blk_cell (below_blk hW T2b.out (by omega)) 3 rfl
    have z4 := blk_cell (below_blk hW T2b.out (by omega)) 4 rfl
    have z5 := blk_cell (below_blk hW T2b.out (by omega)) 5 rfl
    have z6 := blk_cell (below_blk hW T2b.out (by omega)) 6 rfl
    have z7 := blk_cell (below_blk hW T2b.out (by omega)) 7 rfl
    have z8 := blk_cell (below_blk hW T2b.out (by omega)) 8 rfl
    have z9 := blk_cell (below_blk hW T2b.out (by omega)) 9 rfl
    have z10 := blk_cell (below_blk hW T2b.out (by omega)) 10 rfl
    have z11 := blk_cell (below_blk hW T2b.out (by omega)) 11 rfl
    have z12 := blk_cell (below_blk hW T2b.out (by omega)) 12 rfl
    go_wp2
    exact hK.out _ (Below.refl _ _)
  apply grow_eq
  · intro V W K A hW hd hA hK
    simp only [putAll, List.getElem?_toArray, List.getElem?_cons_succ, List.getElem?_cons_zero, Option.bind_some, Act.put, List.setIfInBounds_toArray, List.set_cons_succ, List.set_cons_zero] at hA
    clear hd
    generalize V 0 = x0 at hA
    generalize V 1 = x1 at hA
    generalize V 2 = x2 at hA
    generalize V 3 = x3 at hA
    generalize V 4 = x4 at hA
    generalize V 5 = x5 at hA
    generalize V 6 = x6 at hA
    obtain rfl := hA
    have z0 := blk_cell (below_blk hW TN.out (by omega)) 0 rfl
    have z1 := blk_cell (below_blk hW TN.out (by omega)) 1 rfl
    have z2 := blk_cell (below_blk hW TN.out (by omega)) 2 rfl
    have z3 := blk_cell (below_blk hW TN.out (by omega)) 3 rfl
    have z4 := blk_cell (below_blk hW TN.out (by omega)) 4 rfl
    go_wp2
    exact hK.out _ (Below.refl _ _)
  apply grow_eq
  · intro V W K A hW hd hA hK
    simp only [putAll, List.getElem?_toArray, List.getElem?_cons_succ, List.getElem?_cons_zero, Option.bind_some, Act.put, List.setIfInBounds_toArray, List.set_cons_succ, List.set_cons_zero] at hA
    clear hd
    generalize V 0 = x0 at hA
    generalize V 1 = x1 at hA
    generalize V 2 = x2 at hA
    generalize V 3 = x3 at hA
    generalize V 4 = x4 at hA
    generalize V 5 = x5 at hA
    generalize V 6 = x6 at hA
    obtain rfl := hA
    go_wp2
    exact hK.out _ (Below.refl _ _)
  apply grow_eq
  · intro V W K A hW hd hA hK
    have d2 : V 2 = _ := hd 2 (by kernel_rfl)
    simp only [putAll, List.getElem?_toArray, List.getElem?_cons_succ, List.getElem?_cons_zero, Option.bind_some, Act.put, List.setIfInBounds_toArray, List.set_cons_succ, List.set_cons_zero] at hA
    clear hd
    generalize V 0 = x0 at hA
    generalize V 1 = x1 at hA
    generalize V 2 = x2 at d2 hA
    generalize V 3 = x3 at hA
    generalize V 4 = x4 at hA
    generalize V 5 = x5 at hA
    generalize V 6 = x6 at hA
    subst d2
    obtain rfl := hA
    have z0 := blk_cell (below_blk hW TN.out (by omega)) 0 rfl
    go_wp2
    exact hK.out _ (Below.refl _ _)
  refine grow_op (fun v W => ∃ g, v = .slice (some ⟨g, 0, none⟩) 0 nl ∧ W.ownsRow W1.heap.size 148 9 (.slice (some ⟨g, 0, none⟩) 0 nl) 0 []) (fun v W W2 ⟨g, h1, h2⟩ hb => ⟨g, h1, own_below h2 hb (Nat.le_refl _)⟩) ?_ ?_
  · intro V W K A hW hd hA hK
    have d3 : V 3 = _ := hd 3 (by kernel_rfl)
    simp only [putAll, List.getElem?_toArray, List.getElem?_cons_succ, List.getElem?_cons_zero, Option.bind_some, Act.put, List.setIfInBounds_toArray, List.set_cons_succ, List.set_cons_zero] at hA
    clear hd
    generalize V 0 = x0 at hA
    generalize V 1 = x1 at hA
    generalize V 2 = x2 at hA
    generalize V 3 = x3 at d3 hA
    generalize V 4 = x4 at hA
    generalize V 5 = x5 at hA
    generalize V 6 = x6 at hA
    subst d3
    obtain rfl := hA
    go_wp2_with (refine wpList_make_mine rfl _ _ _ rfl W1.heap.size 148 _ 9 80 Tryz.underlying106 Tryz.infoSn nl rfl (by rw [← HNL.out]; rfl) (by omega) (by unfold maxLen; omega) hW.size ?_; intro w9 ho9 hb9)
    exact hK.out _ _ hb9 ⟨_, rfl, ho9⟩
  refine grow_op (fun v W => ∃ g, v = .agg #[.string s.name, .int .i64 s.version, .bool s.gone, .int .i64 s.image, .int .i64 s.want, .int .i64 s.down, .int .i64 s.over, .int .i64 s.next, .int .i64 s.per, .int .i64 s.least, .int .i64 s.most, .int .i64 s.load, .int .i64 s.cool, .int .i64 N.live, .int .i64 N.ready, .int .i64 N.old, .int .i64 N.failed, .int .i64 N.ending, .int .i64 0, .slice (some ⟨g, 0, none⟩) 0 nl] ∧ W.ownsRow W1.heap.size 148 9 (.slice (some ⟨g, 0, none⟩) 0 nl) 0 []) (fun v W W2 ⟨g, h1, h2⟩ hb => ⟨g, h1, own_below h2 hb (Nat.le_refl _)⟩) ?_ ?_
  · intro V W K A hW hd hA hK
    have d0 : V 0 = _ := hd 0 (by kernel_rfl)
    have d1 : V 1 = _ := hd 1 (by kernel_rfl)
    have d4 : (fun v W => ∃ g, v = .slice (some ⟨g, 0, none⟩) 0 nl ∧ W.ownsRow W1.heap.size 148 9 (.slice (some ⟨g, 0, none⟩) 0 nl) 0 []) (V 4) W := hd 4 (by kernel_rfl)
    simp only [putAll, List.getElem?_toArray, List.getElem?_cons_succ, List.getElem?_cons_zero, Option.bind_some, Act.put, List.setIfInBounds_toArray, List.set_cons_succ, List.set_cons_zero] at hA
    clear hd
    generalize V 0 = x0 at d0 hA
    generalize V 1 = x1 at d1 hA
    generalize V 2 = x2 at hA
    generalize V 3 = x3 at hA
    generalize V 4 = x4 at d4 hA
    generalize V 5 = x5 at hA
    generalize V 6 = x6 at hA
    subst d0
    subst d1
    obtain rfl := hA
    obtain ⟨g, rfl, ho⟩ := d4
    go_wp2
    exact hK.out _ _ (Below.refl _ _) ⟨g, rfl, ho⟩
  refine grow_op (fun v W => ∃ p, v = .pointer (some ⟨p, 0, none⟩) ∧ W1.heap.size ≤ p ∧ W.heap[p]? = some (.cells #[.string ⟨#[]⟩, .int .i64 0, .bool false, .int .i64 0, .int .i64 0, .int .i64 0, .int .i64 0, .int .i64 0, .int .i64 0, .int .i64 0, .int .i64 0, .int .i64 0, .int .i64 0, .int .i64 0, .int .i64 0, .int .i64 0, .int .i64 0, .int .i64 0, .int .i64 0, .slice none 0 0] 108 (0, 0))) (fun v W W2 ⟨p, h1, h2, h3⟩ hb => ⟨p, h1, h2, below_blk hb h3 (Array.getElem?_eq_some_iff.1 h3).1⟩) ?_ ?_
  · intro V W K A hW hd hA hK
    simp only [putAll, List.getElem?_toArray, List.getElem?_cons_succ, List.getElem?_cons_zero, Option.bind_some, Act.put, List.setIfInBounds_toArray, List.set_cons_succ, List.set_cons_zero] at hA
    clear hd
    generalize V 0 = x0 at hA
    generalize V 1 = x1 at hA
    generalize V 2 = x2 at hA
    generalize V 3 = x3 at hA
    generalize V 4 = x4 at hA
    generalize V 5 = x5 at hA
    generalize V 6 = x6 at hA
    obtain rfl := hA
    go_wp2
    exact hK.out _ _ (below_box W _) ⟨_, rfl, hW.size, heap_alloc_new W _⟩
  intro V W A hW hS hA
  have d0 : V 0 = _ := hS 0 (by omega)
  have d1 : V 1 = _ := hS 1 (by omega)
  have d2 : V 2 = _ := hS 2 (by omega)
  have d3 : V 3 = _ := hS 3 (by omega)
  have d4 : (fun v W => ∃ g, v = .slice (some ⟨g, 0, none⟩) 0 nl ∧ W.ownsRow W1.heap.size 148 9 (.slice (some ⟨g, 0, none⟩) 0 nl) 0 []) (V 4) W := hS 4 (by omega)
  have d5 : (fun v W => ∃ g, v = .agg #[.string s.name, .int .i64 s.version, .bool s.gone, .int .i64 s.image, .int .i64 s.want, .int .i64 s.down, .int .i64 s.over, .int .i64 s.next, .int .i64 s.per, .int .i64 s.least, .int .i64 s.most, .int .i64 s.load, .int .i64 s.cool, .int .i64 N.live, .int .i64 N.ready, .int .i64 N.old, .int .i64 N.failed, .int .i64 N.ending, .int .i64 0, .slice (some ⟨g, 0, none⟩) 0 nl] ∧ W.ownsRow W1.heap.size 148 9 (.slice (some ⟨g, 0, none⟩) 0 nl) 0 []) (V 5) W := hS 5 (by omega)
  have d6 : (fun v W => ∃ p, v = .pointer (some ⟨p, 0, none⟩) ∧ W1.heap.size ≤ p ∧ W.heap[p]? = some (.cells #[.string ⟨#[]⟩, .int .i64 0, .bool false, .int .i64 0, .int .i64 0, .int .i64 0, .int .i64 0, .int .i64 0, .int .i64 0, .int .i64 0, .int .i64 0, .int .i64 0, .int .i64 0, .int .i64 0, .int .i64 0, .int .i64 0, .int .i64 0, .int .i64 0, .int .i64 0, .slice none 0 0] 108 (0, 0))) (V 6) W := hS 6 (by omega)
  simp only [putAll, List.getElem?_toArray, List.getElem?_cons_succ, List.getElem?_cons_zero, Option.bind_some, Act.put, List.setIfInBounds_toArray, List.set_cons_succ, List.set_cons_zero] at hA
  clear hS
  generalize V 0 = x0 at d0 hA
  generalize V 1 = x1 at d1 hA
  generalize V 2 = x2 at d2 hA
  generalize V 3 = x3 at d3 hA
  generalize V 4 = x4 at d4 hA
  generalize V 5 = x5 at d5 hA
  generalize V 6 = x6 at d6 hA
  subst d0
  subst d1
  subst d2
  subst d3
  obtain rfl := hA
  simp only [List.drop_succ_cons, List.drop_zero]
  obtain ⟨p, rfl, hpz, hp⟩ := d6
  obtain ⟨g0, rfl, hg0⟩ := d5
  clear d4
  go_wp2_with (first
    | (refine wpList_store_only rfl 108 (.tmp 8) (.tmp 19) rfl p 0 #[.string s.name, .int .i64 s.version, .bool s.gone, .int .i64 s.image, .int .i64 s.want, .int .i64 s.down, .int .i64 s.over, .int .i64 s.next, .int .i64 s.per, .int .i64 s.least, .int .i64 s.most, .int .i64 s.load, .int .i64 s.cool, .int .i64 N.live, .int .i64 N.ready, .int .i64 N.old, .int .i64 N.failed, .int .i64 N.ending, .int .i64 0, .slice (some ⟨g0, 0, none⟩) 0 nl] rfl rfl 108 #[.string ⟨#[]⟩, .int .i64 0, .bool false, .int .i64 0, .int .i64 0, .int .i64 0, .int .i64 0, .int .i64 0, .int .i64 0, .int .i64 0, .int .i64 0, .int .i64 0, .int .i64 0, .int .i64 0, .int .i64 0, .int .i64 0, .int .i64 0, .int .i64 0, .int .i64 0, .slice none 0 0] hp Tryz.infosSight (Nat.le_of_ble_eq_true rfl) (by simp [Value.oneCell']) ?_; intro w1 hz on; have Y1 : Hid (w1.heap[p]? = some (.cells #[.string s.name, .int .i64 s.version, .bool s.gone, .int .i64 s.image, .int .i64 s.want, .int .i64 s.down, .int .i64 s.over, .int .i64 s.next, .int .i64 s.per, .int .i64 s.least, .int .i64 s.most, .int .i64 s.load, .int .i64 s.cool, .int .i64 N.live, .int .i64 N.ready, .int .i64 N.old, .int .i64 N.failed, .int .i64 N.ending, .int .i64 0, .slice (some ⟨g0, 0, none⟩) 0 nl] 108 (0, 0))) := hz; have G1 : Hid (w1.ownsRow W1.heap.size 148 9 (.slice (some ⟨g0, 0, none⟩) 0 nl) 0 []) := own_only hg0 on hp (by decide); have T0a : Hid _ := (on.other w.heap.size (by omega)).trans (below_blk hW T0b.out (by omega)); have T1a : Hid _ := (on.other (w.heap.size + 1) (by omega)).trans (below_blk hW T1b.out (by omega)); have T2a : Hid _ := (on.other (w.heap.size + 1 + 1) (by omega)).trans (below_blk hW T2b.out (by omega)); have T3a : Hid _ := (on.other (w.heap.size + 1 + 1 + 1) (by omega)).trans (below_blk hW T3b.out (by omega)); have hbw1 := ((hb0.trans (hb01.mono hb0.size)).trans (hW.mono (by omega))).trans (on.below.mono (by omega)); have hW1w : W1.heap.size ≤ w1.heap.size := Nat.le_trans hW.size (by rw [on.size]; exact Nat.le_refl _); clear hz on))
  have hpl : p < w1.heap.size := (Array.getElem?_eq_some_iff.1 Y1.out).1
  obtain ⟨W2, hW2, u0, u1, hz2, hz2', hb2⟩ := two_newW w1 (.cells #[.int .i64 B.now, .slice a1 B.svcs.length c1, .slice a2 B.cps.length c2, .slice a3 B.bts.length c3] 34) (.cells #[.string s.name] 9)
  have U0 : Hid _ := u0
  have U1 : Hid _ := u1
  have y0 := blk_cell T0a.out 0 rfl
  have y1 := blk_cell T0a.out 1 rfl
  have y2 := blk_cell T0a.out 2 rfl
  have y3 := blk_cell T0a.out 3 rfl
  have y4 := blk_cell T2a.out 0 rfl
  clear hW hp hg0 T0b T1b T2b T3b TN u0 u1
  gi_wp2_with fail
  refine ⟨trivial, ?_⟩
  refine (copiesIn_in Fence.wide _ trivial rfl B s.name a1 a2 a3 c1 c2 c3 _).mono ?_
  rintro e w' ⟨rfl, rfl⟩
  gi_wp2
  clear y0 y1 y2 y3 y4 hW2
  have hzw1 := hbw1.size
  have hbW2 := hbw1.trans (hb2.mono hbw1.size)
  have hC0 : B.cps ≠ [] → ∃ b off, a2 = some ⟨b, off, none⟩ ∧ b < w.heap.size ∧ CpsAt W2 b off B.cps := fun hne =>
    let ⟨b, off, e, hb, hat⟩ := HB.out.2.1 hne
    ⟨b, off, e, hb, fun i c hc => (hat i c hc).below hbW2 hb⟩
  have hle := ofA_len s.name B.cps
  refine wpIn_rangeFunc_ownH rfl (by omega) (gf := 135) (lb := #[.pointer (some ⟨w1.heap.size, 0, none⟩), .pointer (some ⟨w1.heap.size + 1, 0, none⟩)]) rfl trivial (enters_of Tryz.func135 (by kernel_rfl) rfl)
    (copies_stops_mem (5 - 1) (by omega) w1.heap.size (w1.heap.size + 1) w.heap.size B s.name a1 a2 a3 c1 c2 c3 hl2 HSO HCP W2 U0.out U1.out hC0 (by omega)) (fun h k => ⟨h.1.trans k.1, k.2.trans h.2⟩)
    (fun W l o o' hl ho hc hw => ⟨belowK_b (w := W2) (by omega) W l o o' hl ho hc hw, by
      by_cases hlt : (w1.heap.size + 1) < W.heap.size
      · exact (grownBy_putObj' W l o').block _ hlt (fun e => by have := Option.some.inj e; omega)
      · have e1 : W.heap[(w1.heap.size + 1)]? = none := by rw [Array.getElem?_eq_none (by omega)]
        have e2 : (W.putObj l o').heap[(w1.heap.size + 1)]? = none := by rw [Array.getElem?_eq_none]; have := (Array.getElem?_eq_some_iff.1 ho).1; omega
        rw [e1, e2]⟩) (Below.refl _ _) (fun _ => rfl)
    (fun pre W => ((∃ (al : Option Addr) (cl : Nat), W.heap[p]? = some (.cells (sArr s N (drained (liveA B s pre) : Int) (.slice al (liveA B s pre).length cl)) 108 (0, 0)) ∧ W.ownsRow W1.heap.size 148 9 (.slice al (liveA B s pre).length cl) (liveA B s pre).length (snsV (liveA B s pre))) ∧ W.heap[w.heap.size]? = some (.cells #[.int .i64 B.now, .slice a1 B.svcs.length c1, .slice a2 B.cps.length c2, .slice a3 B.bts.length c3] 34 (0, 0)) ∧ W.heap[w.heap.size + 1]? = some (.cells #[.map (some b)] 104 (0, 0)) ∧ W.heap[w.heap.size + 1 + 1]? = some (.cells #[.string s.name, .int .i64 s.version, .bool s.gone, .int .i64 s.image, .int .i64 s.want, .int .i64 s.down, .int .i64 s.over, .int .i64 s.next, .int .i64 s.per, .int .i64 s.least, .int .i64 s.most, .int .i64 s.load, .int .i64 s.cool] 48 (0, 0)) ∧ W.heap[w.heap.size + 1 + 1 + 1]? = some (.cells #[.string ⟨#[]⟩, .int .i64 0, .bool false, .int .i64 0, .int .i64 0, .int .i64 0, .int .i64 0, .int .i64 0, .int .i64 0, .int .i64 0, .int .i64 0, .int .i64 0, .int .i64 0, .int .i64 0, .int .i64 0, .int .i64 0, .int .i64 0, .int .i64 0, .int .i64 0, .slice none 0 0] 108 (0, 0)) ∧ W.heap[w1.heap.size + 1]? = some (.cells #[.string s.name] 9 (0, 0))) ∧ W2.heap.size ≤ W.heap.size ∧ Below w.heap.size w W)
    (fun _ _ _ => False)
    (OwnFrom.and (OwnFrom.and (Own.from (sight_own p W1.heap.size 108 148 9 (fun pre al cl => sArr s N (drained (liveA B s pre) : Int) (.slice al (liveA B s pre).length cl)) (fun pre => (liveA B s pre).length) (fun pre => snsV (liveA B s pre))) _) (OwnFrom.and (Own.from (cells_own _ _ _) _) (OwnFrom.and (Own.from (cells_own _ _ _) _) (OwnFrom.and (Own.from (cells_own _ _ _) _) (OwnFrom.and (Own.from (cells_own _ _ _) _) (Own.from (cells_own _ _ _) _)))))) (OwnFrom.and (fun _ _ _ _ hs hg _ => Nat.le_trans hs hg.size) (ownFrom_below (Nat.le_refl _) (by omega))))
    (fun _ _ _ _ _ hs _ _ => hs)
    ⟨⟨⟨some ⟨g0, 0, none⟩, nl, below_blk hb2 Y1.out hpl, own_below (v := .slice (some ⟨g0, 0, none⟩) 0 nl) (n := 0) (xs := []) (e := 148) (size := 9) (lo := W1.heap.size) G1.out hb2 (Nat.le_refl _)⟩, below_blk hb2 T0a.out (by omega), below_blk hb2 T1a.out (by omega), below_blk hb2 T2a.out (by omega), below_blk hb2 T3a.out (by omega), U1.out⟩, Nat.le_refl _, hbW2⟩
    (fun x a' W => ∃ Bx, W2.heap.size ≤ Bx ∧ W.heap[Bx]? = some (.cells #[.string x.1.service, .int .i64 x.1.number, .int .i64 x.1.version, .int .i64 x.1.image, .int .i64 x.1.state, .bool x.1.ending, .string x.1.berth] 88 (0, 0)) ∧ a' = { tmps := #[.agg #[.int .i64 B.now, .slice a1 B.svcs.length c1, .slice a2 B.cps.length c2, .slice a3 B.bts.length c3], .map (some b), .agg #[.string s.name, .int .i64 s.version, .bool s.gone, .int .i64 s.image, .int .i64 s.want, .int .i64 s.down, .int .i64 s.over, .int .i64 s.next, .int .i64 s.per, .int .i64 s.least, .int .i64 s.most, .int .i64 s.load, .int .i64 s.cool], .pointer (some ⟨w.heap.size, 0, none⟩), .pointer (some ⟨w.heap.size + 1, 0, none⟩), .pointer (some ⟨w.heap.size + 1 + 1, 0, none⟩), .pointer (some ⟨w.heap.size + 1 + 1 + 1, 0, none⟩), .pointer (some ⟨wc.heap.size, 0, none⟩), .pointer (some ⟨p, 0, none⟩), .pointer (some ⟨Bx, 0, none⟩), undef, .agg #[.int .i64 B.now, .slice a1 B.svcs.length c1, .slice a2 B.cps.length c2, .slice a3 B.bts.length c3], .agg #[.string s.name, .int .i64 s.version, .bool s.gone, .int .i64 s.image, .int .i64 s.want, .int .i64 s.down, .int .i64 s.over, .int .i64 s.next, .int .i64 s.per, .int .i64 s.least, .int .i64 s.most, .int .i64 s.load, .int .i64 s.cool], .agg #[.int .i64 N.live, .int .i64 N.ready, .int .i64 N.old, .int .i64 N.failed, .int .i64 N.ending], .agg #[.string s.name, .int .i64 s.version, .bool s.gone, .int .i64 s.image, .int .i64 s.want, .int .i64 s.down, .int .i64 s.over, .int .i64 s.next, .int .i64 s.per, .int .i64 s.least, .int .i64 s.most, .int .i64 s.load, .int .i64 s.cool], .agg #[.int .i64 N.live, .int .i64 N.ready, .int .i64 N.old, .int .i64 N.failed, .int .i64 N.ending], .pointer (some ⟨wc.heap.size, 0, none⟩), .int .i64 N.live, x4, .agg #[.string s.name, .int .i64 s.version, .bool s.gone, .int .i64 s.image, .int .i64 s.want, .int .i64 s.down, .int .i64 s.over, .int .i64 s.next, .int .i64 s.per, .int .i64 s.least, .int .i64 s.most, .int .i64 s.load, .int .i64 s.cool, .int .i64 N.live, .int .i64 N.ready, .int .i64 N.old, .int .i64 N.failed, .int .i64 N.ending, .int .i64 0, .slice (some ⟨g0, 0, none⟩) 0 nl], .agg #[.int .i64 B.now, .slice a1 B.svcs.length c1, .slice a2 B.cps.length c2, .slice a3 B.bts.length c3], .pointer (some ⟨w.heap.size + 1 + 1, 0, none⟩), .string s.name, .func (.func 135) #[] #[.pointer (some ⟨w1.heap.size, 0, none⟩), .pointer (some ⟨w1.heap.size + 1, 0, none⟩)], .agg #[.string x.1.service, .int .i64 x.1.number, .int .i64 x.1.version, .int .i64 x.1.image, .int .i64 x.1.state, .bool x.1.ending, .string x.1.berth], undef, undef, undef, undef, undef, undef, undef, undef, undef, undef, undef, undef, undef, undef, undef, undef, undef, undef, undef, undef, undef, undef, undef], defers := [] })
    (fun x a' _ X Y row hs hg hr => by obtain ⟨Bx, g1, g2, g3⟩ := hs; exact ⟨Bx, g1, cells_own Bx 88 (fun (_ : Unit) => #[.string x.1.service, .int .i64 x.1.number, .int .i64 x.1.version, .int .i64 x.1.image, .int .i64 x.1.state, .bool x.1.ending, .string x.1.berth]) () X Y row g2 hg (fun r e => (hr r e).2), g3⟩)
    ?assign ?body ?done ?stop
  case assign =>
    rintro l pre x W K ⟨⟨⟨al, cl, hY, hO⟩, h0, h1, h2, h3, h4⟩, hsz, hB⟩ hK
    gi_wp2
    have hw1 := below_box W (.cells #[.string x.1.service, .int .i64 x.1.number, .int .i64 x.1.version, .int .i64 x.1.image, .int .i64 x.1.state, .bool x.1.ending, .string x.1.berth] 88)
    exact hK _ _ ((KeepsOthers.alloc _ _).from _) ⟨(Below.refl _ W).alloc hB.size _, hw1.block _ (by omega)⟩ ⟨⟨⟨al, cl, below_blk hw1 hY (by omega), own_below hO hw1 (Nat.le_refl _)⟩, below_blk hw1 h0 (by omega), below_blk hw1 h1 (by omega), below_blk hw1 h2 (by omega), below_blk hw1 h3 (by omega), below_blk hw1 h4 (by omega)⟩, Nat.le_trans hsz hw1.size, hB.alloc hB.size _⟩ ⟨W.heap.size, by omega, heap_alloc_new W _, rfl⟩
  case stop =>
    rintro D c pre W _ _ h _
    exact h.elim
  case body =>
    rintro l pre x a' W hl _ ⟨⟨⟨al, cl, hY0, hO0⟩, hT0, hT1, hT2, hT3, hT4⟩, hsz, hBw⟩ ⟨Bx, hBx, hX0, rfl⟩ hlt
    have hBsz := hBw.size
    have hup := liveA_len B s pre
    have hdl := drained_le (liveA B s pre)
    have HAD : Hid _ := liveA_add B s pre x
    obtain ⟨P, HPr⟩ : ∃ P, Hid (liveA B s pre = P) := ⟨_, rfl⟩
    rw [HPr.out] at hup hdl hY0 hO0 HAD
    obtain ⟨qi, HQ, hq0, hq1⟩ : ∃ qi : Int, Hid ((drained P : Int) = qi) ∧ 0 ≤ qi ∧ qi ≤ 1048576 := ⟨_, rfl, by omega, by omega⟩
    rw [HQ.out] at hY0
    have hPl : P.length ≤ 1048576 := by omega
    have Y0 : Hid (W.heap[p]? = some (.cells #[.string s.name, .int .i64 s.version, .bool s.gone, .int .i64 s.image, .int .i64 s.want, .int .i64 s.down, .int .i64 s.over, .int .i64 s.next, .int .i64 s.per, .int .i64 s.least, .int .i64 s.most, .int .i64 s.load, .int .i64 s.cool, .int .i64 N.live, .int .i64 N.ready, .int .i64 N.old, .int .i64 N.failed, .int .i64 N.ending, .int .i64 qi, .slice al P.length cl] 108 (0, 0))) := hY0
    have O0 : Hid _ := hO0
    have H0 : Hid _ := hT0
    have H1 : Hid _ := hT1
    have H2 : Hid _ := hT2
    have H3 : Hid _ := hT3
    have H4 : Hid _ := hT4
    clear hY0 hO0 hT0 hT1 hT2 hT3 hT4 HPr hup hdl U0 U1 T0a T1a T2a T3a Y1 hC0
    rcases Bool.eq_false_or_eq_true x.1.ending with hend0 | hend0
    · have x5 : W.cell? ⟨Bx, 5, none⟩ = some (.bool true) := by have h := blk_cell hX0 5 rfl; rw [hend0] at h; exact h
      have HE : Hid (liveA B s (pre ++ [x]) = P) := by unfold Hid; rw [HAD.out, hend0]; simp
      clear hend0 hX0
      gi_wp2
      exact ⟨(KeepsOthers.refl _).from _, ⟨Below.refl _ _, rfl⟩, ⟨⟨al, cl, by rw [HE.out, HQ.out]; exact Y0.out, by rw [HE.out]; exact O0.out⟩, H0.out, H1.out, H2.out, H3.out, H4.out⟩, hsz, hBw⟩
    have hX : Hid (W.heap[Bx]? = some (.cells #[.string x.1.service, .int .i64 x.1.number, .int .i64 x.1.version, .int .i64 x.1.image, .int .i64 x.1.state, .bool false, .string x.1.berth] 88 (0, 0))) := by rw [hend0] at hX0; exact hX0
    have hBxl : Bx < W.heap.size := (Array.getElem?_eq_some_iff.1 hX.out).1
    obtain ⟨d, HD⟩ : ∃ d, Hid (drainsB B x.1 = d) := ⟨_, rfl⟩
    obtain ⟨o, HO⟩ : ∃ o, Hid ((x.1.image != s.image) = o) := ⟨_, rfl⟩
    have HE : Hid (liveA B s (pre ++ [x]) = P ++ [⟨x.1, o, d⟩]) := by unfold Hid; rw [HAD.out, hend0]; simp [seenOf, HD.out, HO.out]
    have HEC : Hid ((⟨x.1, o, d⟩ : Sn).cells = (#[.string x.1.service, .int .i64 x.1.number, .int .i64 x.1.version, .int .i64 x.1.image, .int .i64 x.1.state, .bool false, .string x.1.berth, .bool o, .bool d] : Array Value).toList) := by unfold Hid Sn.cells; simp [hend0]
    have HOD : Hid (∀ V : World, Below W.heap.size W V → Calls Tryz.prog 109 #[.agg #[.int .i64 B.now, .slice a1 B.svcs.length c1, .slice a2 B.cps.length c2, .slice a3 B.bts.length c3], .map (some b), .agg #[.string x.1.service, .int .i64 x.1.number, .int .i64 x.1.version, .int .i64 x.1.image, .int .i64 x.1.state, .bool false, .string x.1.berth]] V fun e w' => e = .returned (.bool d) ∧ Below V.heap.size V w') := fun V h => by
      have hbV := hBw.trans (h.mono hBw.size)
      have h1 := onDrain_any B x.1 b a1 a2 a3 c1 c2 c3 V hS (HZC.out x.1 x.2).2 (HP.out.below hbV HP.out.lt) (HB.out.below hbV)
      rw [hend0, HD.out] at h1
      exact h1
    have HIO : Hid (∀ V : World, Calls Tryz.prog 110 #[.agg #[.string s.name, .int .i64 s.version, .bool s.gone, .int .i64 s.image, .int .i64 s.want, .int .i64 s.down, .int .i64 s.over, .int .i64 s.next, .int .i64 s.per, .int .i64 s.least, .int .i64 s.most, .int .i64 s.load, .int .i64 s.cool], .agg #[.string x.1.service, .int .i64 x.1.number, .int .i64 x.1.version, .int .i64 x.1.image, .int .i64 x.1.state, .bool false, .string x.1.berth]] V fun e w' => e = .returned (.bool o) ∧ Below V.heap.size V w') := fun V => by
      have h1 := isOld_any s x.1 V
      rw [hend0, HO.out] at h1
      exact h1
    clear hend0 hX0 HAD HD HO
    have e0 := blk_cell H0.out 0 rfl
    have e1 := blk_cell H0.out 1 rfl
    have e2 := blk_cell H0.out 2 rfl
    have e3 := blk_cell H0.out 3 rfl
    have m0 := blk_cell H1.out 0 rfl
    have x0 := blk_cell hX.out 0 rfl
    have x1 := blk_cell hX.out 1 rfl
    have x2 := blk_cell hX.out 2 rfl
    have x3 := blk_cell hX.out 3 rfl
    have x4 := blk_cell hX.out 4 rfl
    have x5 := blk_cell hX.out 5 rfl
    have x6 := blk_cell hX.out 6 rfl
    gi_wp2_with fail
    refine ⟨trivial, ?_⟩
    refine (CallsIn.inRound l (callsIn_wide.2 (HOD.out _ (Below.refl _ _)))).mono ?_
    rintro e w3 ⟨rfl, hb3⟩
    have hz3 := hb3.size
    have Y3 : Hid _ := below_blk hb3 Y0.out (by omega)
    have O3 : Hid _ := own_below O0.out hb3 (Nat.le_refl _)
    have A0 : Hid _ := below_blk hb3 H0.out (by omega)
    have A1 : Hid _ := below_blk hb3 H1.out (by omega)
    have A2 : Hid _ := below_blk hb3 H2.out (by omega)
    have A3 : Hid _ := below_blk hb3 H3.out (by omega)
    have A4 : Hid _ := below_blk hb3 H4.out (by omega)
    have X3 : Hid _ := below_blk hb3 hX.out hBxl
    have K3 := keeps_below hb3
    have E3 : w3.heap[(w1.heap.size + 1)]? = W.heap[(w1.heap.size + 1)]? := hb3.block _ (by omega)
    have L3 : Below w.heap.size W w3 := hb3.mono hBsz
    clear hb3 Y0 O0 H0 H1 H2 H3 H4 hX e0 e1 e2 e3 m0 x0 x1 x2 x3 x4 x5 x6 HOD
    cases d
    · have HDR : Hid ((drained (P ++ [⟨x.1, o, false⟩]) : Int) = qi) := by have h := HQ.out; unfold Hid drained; unfold drained at h; rw [List.countP_append]; simp; exact h
      gi_wp2
      have Y4 := Y3
      have O4 := O3
      have B0 := A0
      have B1 := A1
      have B2 := A2
      have B3 := A3
      have B4 := A4
      have X4 := X3
      have K4 := K3
      have E4 := E3
      have L4 := L3
      clear Y3 O3 A0 A1 A2 A3 A4 X3 K3 E3 L3
      refine wpIn_region_grows 9 (by kernel_rfl) (by kernel_rfl) (by kernel_rfl) ?_
      apply grow_eq
      · intro V W K A hW hd hA hK
        simp only [putAll, List.getElem?_toArray, List.getElem?_cons_succ, List.getElem?_cons_zero, Option.bind_some, Act.put, List.setIfInBounds_toArray, List.set_cons_succ, List.set_cons_zero] at hA
        clear hd
        generalize V 0 = x0 at hA
        generalize V 1 = x1 at hA
        generalize V 2 = x2 at hA
        generalize V 3 = x3 at hA
        generalize V 4 = x4 at hA
        generalize V 5 = x5 at hA
        generalize V 6 = x6 at hA
        generalize V 7 = x7 at hA
        generalize V 8 = x8 at hA
        obtain rfl := hA
        go_wp2
        exact hK.out _ (Below.refl _ _)
      apply grow_eq
      · intro V W K A hW hd hA hK
        have d0 : V 0 = _ := hd 0 (by kernel_rfl)
        simp only [putAll, List.getElem?_toArray, List.getElem?_cons_succ, List.getElem?_cons_zero, Option.bind_some, Act.put, List.setIfInBounds_toArray, List.set_cons_succ, List.set_cons_zero] at hA
        clear hd
        generalize V 0 = x0 at d0 hA
        generalize V 1 = x1 at hA
        generalize V 2 = x2 at hA
        generalize V 3 = x3 at hA
        generalize V 4 = x4 at hA
        generalize V 5 = x5 at hA
        generalize V 6 = x6 at hA
        generalize V 7 = x7 at hA
        generalize V 8 = x8 at hA
        subst d0
        obtain rfl := hA
        have y19 := blk_cell (below_blk hW Y4.out (by omega)) 19 rfl
        go_wp2
        exact hK.out _ (Below.refl _ _)
      apply grow_eq
      · intro V W K A hW hd hA hK
        simp only [putAll, List.getElem?_toArray, List.getElem?_cons_succ, List.getElem?_cons_zero, Option.bind_some, Act.put, List.setIfInBounds_toArray, List.set_cons_succ, List.set_cons_zero] at hA
        clear hd
        generalize V 0 = x0 at hA
        generalize V 1 = x1 at hA
        generalize V 2 = x2 at hA
        generalize V 3 = x3 at hA
        generalize V 4 = x4 at hA
        generalize V 5 = x5 at hA
        generalize V 6 = x6 at hA
        generalize V 7 = x7 at hA
        generalize V 8 = x8 at hA
        obtain rfl := hA
        have x0 := blk_cell (below_blk hW X4.out (by omega)) 0 rfl
        have x1 := blk_cell (below_blk hW X4.out (by omega)) 1 rfl
        have x2 := blk_cell (below_blk hW X4.out (by omega)) 2 rfl
        have x3 := blk_cell (below_blk hW X4.out (by omega)) 3 rfl
        have x4 := blk_cell (below_blk hW X4.out (by omega)) 4 rfl
        have x5 := blk_cell (below_blk hW X4.out (by omega)) 5 rfl
        have x6 := blk_cell (below_blk hW X4.out (by omega)) 6 rfl
        go_wp2
        exact hK.out _ (Below.refl _ _)
      apply grow_eq
      · intro V W K A hW hd hA hK
        simp only [putAll, List.getElem?_toArray, List.getElem?_cons_succ, List.getElem?_cons_zero, Option.bind_some, Act.put, List.setIfInBounds_toArray, List.set_cons_succ, List.set_cons_zero] at hA
        clear hd
        generalize V 0 = x0 at hA
        generalize V 1 = x1 at hA
        generalize V 2 = x2 at hA
        generalize V 3 = x3 at hA
        generalize V 4 = x4 at hA
        generalize V 5 = x5 at hA
        generalize V 6 = x6 at hA
        generalize V 7 = x7 at hA
        generalize V 8 = x8 at hA
        obtain rfl := hA
        have z0 := blk_cell (below_blk hW B2.out (by omega)) 0 rfl
        have z1 := blk_cell (below_blk hW B2.out (by omega)) 1 rfl
        have z2 := blk_cell (below_blk hW B2.out (by omega)) 2 rfl
        have z3 := blk_cell (below_blk hW B2.out (by omega)) 3 rfl
        have z4 := blk_cell (below_blk hW B2.out (by omega)) 4 rfl
        have z5 := blk_cell (below_blk hW B2.out (by omega)) 5 rfl
        have z6 := blk_cell (below_blk hW B2.out (by omega)) 6 rfl
        have z7 := blk_cell (below_blk hW B2.out (by omega)) 7 rfl
        have z8 := blk_cell (below_blk hW B2.out (by omega)) 8 rfl
        have z9 := blk_cell (below_blk hW B2.out (by omega)) 9 rfl
        have z10 := blk_cell (below_blk hW B2.out (by omega)) 10 rfl
        have z11 := blk_cell (below_blk hW B2.out (by omega)) 11 rfl
        have z12 := blk_cell (below_blk hW B2.out (by omega)) 12 rfl
        go_wp2
        exact hK.out _ (Below.refl _ _)
      apply grow_eq
      · intro V W K A hW hd hA hK
        simp only [putAll, List.getElem?_toArray, List.getElem?_cons_succ, List.getElem?_cons_zero, Option.bind_some, Act.put, List.setIfInBounds_toArray, List.set_cons_succ, List.set_cons_zero] at hA
        clear hd
        generalize V 0 = x0 at hA
        generalize V 1 = x1 at hA
        generalize V 2 = x2 at hA
        generalize V 3 = x3 at hA
        generalize V 4 = x4 at hA
        generalize V 5 = x5 at hA
        generalize V 6 = x6 at hA
        generalize V 7 = x7 at hA
        generalize V 8 = x8 at hA
        obtain rfl := hA
        have x0 := blk_cell (below_blk hW X4.out (by omega)) 0 rfl
        have x1 := blk_cell (below_blk hW X4.out (by omega)) 1 rfl
        have x2 := blk_cell (below_blk hW X4.out (by omega)) 2 rfl
        have x3 := blk_cell (below_blk hW X4.out (by omega)) 3 rfl
        have x4 := blk_cell (below_blk hW X4.out (by omega)) 4 rfl
        have x5 := blk_cell (below_blk hW X4.out (by omega)) 5 rfl
        have x6 := blk_cell (below_blk hW X4.out (by omega)) 6 rfl
        go_wp2
        exact hK.out _ (Below.refl _ _)
      apply grow_eq
      · intro V W K A hW hd hA hK
        have d3 : V 3 = _ := hd 3 (by kernel_rfl)
        have d4 : V 4 = _ := hd 4 (by kernel_rfl)
        simp only [putAll, List.getElem?_toArray, List.getElem?_cons_succ, List.getElem?_cons_zero, Option.bind_some, Act.put, List.setIfInBounds_toArray, List.set_cons_succ, List.set_cons_zero] at hA
        clear hd
        generalize V 0 = x0 at hA
        generalize V 1 = x1 at hA
        generalize V 2 = x2 at hA
        generalize V 3 = x3 at d3 hA
        generalize V 4 = x4 at d4 hA
        generalize V 5 = x5 at hA
        generalize V 6 = x6 at hA
        generalize V 7 = x7 at hA
        generalize V 8 = x8 at hA
        subst d3
        subst d4
        obtain rfl := hA
        go_wp2_with fail
        refine (HIO.out _).mono ?_
        rintro e w5 ⟨rfl, hb5⟩
        go_wp2
        exact hK.out _ hb5
      apply grow_eq
      · intro V W K A hW hd hA hK
        simp only [putAll, List.getElem?_toArray, List.getElem?_cons_succ, List.getElem?_cons_zero, Option.bind_some, Act.put, List.setIfInBounds_toArray, List.set_cons_succ, List.set_cons_zero] at hA
        clear hd
        generalize V 0 = x0 at hA
        generalize V 1 = x1 at hA
        generalize V 2 = x2 at hA
        generalize V 3 = x3 at hA
        generalize V 4 = x4 at hA
        generalize V 5 = x5 at hA
        generalize V 6 = x6 at hA
        generalize V 7 = x7 at hA
        generalize V 8 = x8 at hA
        obtain rfl := hA
        go_wp2
        exact hK.out _ (Below.refl _ _)
      apply grow_eq
      · intro V W K A hW hd hA hK
        have d2 : V 2 = _ := hd 2 (by kernel_rfl)
        have d5 : V 5 = _ := hd 5 (by kernel_rfl)
        have d6 : V 6 = _ := hd 6 (by kernel_rfl)
        simp only [putAll, List.getElem?_toArray, List.getElem?_cons_succ, List.getElem?_cons_zero, Option.bind_some, Act.put, List.setIfInBounds_toArray, List.set_cons_succ, List.set_cons_zero] at hA
        clear hd
        generalize V 0 = x0 at hA
        generalize V 1 = x1 at hA
        generalize V 2 = x2 at d2 hA
        generalize V 3 = x3 at hA
        generalize V 4 = x4 at hA
        generalize V 5 = x5 at d5 hA
        generalize V 6 = x6 at d6 hA
        generalize V 7 = x7 at hA
        generalize V 8 = x8 at hA
        subst d2
        subst d5
        subst d6
        obtain rfl := hA
        go_wp2
        exact hK.out _ (Below.refl _ _)
      refine grow_op (fun v V => ∃ r, v = .slice (some ⟨r, 0, none⟩) 1 1 ∧ w3.heap.size ≤ r ∧ V.heap[r]? = some (.cells #[.string x.1.service, .int .i64 x.1.number, .int .i64 x.1.version, .int .i64 x.1.image, .int .i64 x.1.state, .bool false, .string x.1.berth, .bool o, .bool false] 148 (0, 0))) (fun v W W2 ⟨p, h1, h2, h3⟩ hb => ⟨p, h1, h2, below_blk hb h3 (Array.getElem?_eq_some_iff.1 h3).1⟩) ?_ ?_
      · intro V W K A hW hd hA hK
        have d7 : V 7 = _ := hd 7 (by kernel_rfl)
        simp only [putAll, List.getElem?_toArray, List.getElem?_cons_succ, List.getElem?_cons_zero, Option.bind_some, Act.put, List.setIfInBounds_toArray, List.set_cons_succ, List.set_cons_zero] at hA
        clear hd
        generalize V 0 = x0 at hA
        generalize V 1 = x1 at hA
        generalize V 2 = x2 at hA
        generalize V 3 = x3 at hA
        generalize V 4 = x4 at hA
        generalize V 5 = x5 at hA
        generalize V 6 = x6 at hA
        generalize V 7 = x7 at d7 hA
        generalize V 8 = x8 at hA
        subst d7
        obtain rfl := hA
        go_wp2
        exact hK.out _ _ (below_box W _) ⟨_, rfl, hW.size, heap_alloc_new W _⟩
      intro V W A hW hS hA
      have d0 : V 0 = _ := hS 0 (by omega)
      have d1 : V 1 = _ := hS 1 (by omega)
      have d2 : V 2 = _ := hS 2 (by omega)
      have d3 : V 3 = _ := hS 3 (by omega)
      have d4 : V 4 = _ := hS 4 (by omega)
      have d5 : V 5 = _ := hS 5 (by omega)
      have d6 : V 6 = _ := hS 6 (by omega)
      have d7 : V 7 = _ := hS 7 (by omega)
      have d8 : (fun v V => ∃ r, v = .slice (some ⟨r, 0, none⟩) 1 1 ∧ w3.heap.size ≤ r ∧ V.heap[r]? = some (.cells #[.string x.1.service, .int .i64 x.1.number, .int .i64 x.1.version, .int .i64 x.1.image, .int .i64 x.1.state, .bool false, .string x.1.berth, .bool o, .bool false] 148 (0, 0))) (V 8) W := hS 8 (by omega)
      simp only [putAll, List.getElem?_toArray, List.getElem?_cons_succ, List.getElem?_cons_zero, Option.bind_some, Act.put, List.setIfInBounds_toArray, List.set_cons_succ, List.set_cons_zero] at hA
      clear hS
      generalize V 0 = x0 at d0 hA
      generalize V 1 = x1 at d1 hA
      generalize V 2 = x2 at d2 hA
      generalize V 3 = x3 at d3 hA
      generalize V 4 = x4 at d4 hA
      generalize V 5 = x5 at d5 hA
      generalize V 6 = x6 at d6 hA
      generalize V 7 = x7 at d7 hA
      generalize V 8 = x8 at d8 hA
      subst d0
      subst d1
      subst d2
      subst d3
      subst d4
      subst d5
      subst d6
      subst d7
      obtain rfl := hA
      simp only [List.drop_succ_cons, List.drop_zero]
      obtain ⟨r, rfl, hrz, hr⟩ := d8
      have hzW := hW.size
      have Y5 : Hid _ := below_blk hW Y4.out (by omega)
      have O5 : Hid _ := own_below O4.out hW (Nat.le_refl _)
      have C0 : Hid _ := below_blk hW B0.out (by omega)
      have C1 : Hid _ := below_blk hW B1.out (by omega)
      have C2 : Hid _ := below_blk hW B2.out (by omega)
      have C3 : Hid _ := below_blk hW B3.out (by omega)
      have C4 : Hid _ := below_blk hW B4.out (by omega)
      have K5 := K4.trans (keeps_below hW)
      have E5 := (hW.block (w1.heap.size + 1) (by omega)).trans E4
      have L5 := L4.trans (hW.mono (by omega))
      clear hW Y4 O4 B0 B1 B2 B3 B4 X4 K4 E4 L4 HIO
      go_wp2_with (first
        | (at_builtin; refine wpList_append_mineT rfl (.tmp 37) (.tmp 44) 106 rfl W1.heap.size 148 _ 9 80 Tryz.underlying106 Tryz.infoSn rfl (by omega) (.slice al P.length cl) P.length _ rfl O5.out ⟨r, 0, none⟩ 1 (#[.string x.1.service, .int .i64 x.1.number, .int .i64 x.1.version, .int .i64 x.1.image, .int .i64 x.1.state, .bool false, .string x.1.berth, .bool o, .bool false] : Array Value).toList rfl rfl (news_row hr) (fun u hu => (Array.all_eq_true_iff_forall_mem.1 (show (#[.string x.1.service, .int .i64 x.1.number, .int .i64 x.1.version, .int .i64 x.1.image, .int .i64 x.1.state, .bool false, .string x.1.berth, .bool o, .bool false] : Array Value).all (·.oneCell') = true by simp [Value.oneCell'])) u (by simpa using hu)) (by unfold maxLen; omega) (by omega) (by omega) ?_; intro g' cap' w6 hg' O6 hb6 K6; have Y6 : Hid _ := keepT K6 Y5.out (by decide); have D0 : Hid _ := keepT K6 C0.out (by decide); have D1 : Hid _ := keepT K6 C1.out (by decide); have D2 : Hid _ := keepT K6 C2.out (by decide); have D3 : Hid _ := keepT K6 C3.out (by decide); have D4 : Hid _ := keepT K6 C4.out (by decide); have E6 := D4.out.trans (C4.out.symm.trans E5); have L6 := L5.trans (hb6.mono (by omega)); have Q6 := K5.trans (keeps_T hb6.size K6); have hz6 := hb6.size; clear hb6 K6)
        | (refine wpList_store_one rfl 106 (.tmp 46) (.tmp 45) rfl p 19 (.slice (some ⟨g', 0, none⟩) (P.length + 1) cap') rfl rfl Tryz.infosSnsS rfl rfl 108 #[.string s.name, .int .i64 s.version, .bool s.gone, .int .i64 s.image, .int .i64 s.want, .int .i64 s.down, .int .i64 s.over, .int .i64 s.next, .int .i64 s.per, .int .i64 s.least, .int .i64 s.most, .int .i64 s.load, .int .i64 s.cool, .int .i64 N.live, .int .i64 N.ready, .int .i64 N.old, .int .i64 N.failed, .int .i64 N.ending, .int .i64 qi, .slice al P.length cl] Y6.out (Nat.le_of_ble_eq_true rfl) ?_; intro w7 hz on; have Y7 : Hid (w7.heap[p]? = some (.cells #[.string s.name, .int .i64 s.version, .bool s.gone, .int .i64 s.image, .int .i64 s.want, .int .i64 s.down, .int .i64 s.over, .int .i64 s.next, .int .i64 s.per, .int .i64 s.least, .int .i64 s.most, .int .i64 s.load, .int .i64 s.cool, .int .i64 N.live, .int .i64 N.ready, .int .i64 N.old, .int .i64 N.failed, .int .i64 N.ending, .int .i64 qi, .slice (some ⟨g', 0, none⟩) (P.length + 1) cap'] 108 (0, 0))) := hz; have F0 : Hid _ := (on.other w.heap.size (by omega)).trans D0.out; have F1 : Hid _ := (on.other (w.heap.size + 1) (by omega)).trans D1.out; have F2 : Hid _ := (on.other (w.heap.size + 1 + 1) (by omega)).trans D2.out; have F3 : Hid _ := (on.other (w.heap.size + 1 + 1 + 1) (by omega)).trans D3.out; have F4 : Hid _ := (on.other (w1.heap.size + 1) (by omega)).trans D4.out; have E7 := (on.other (w1.heap.size + 1) (by omega)).trans E6; have L7 := L6.trans (on.below.mono (by omega)); have Q7 := Q6.trans (keeps_only on Y6.out); have O7 : Hid _ := own_only O6.out on Y6.out (by decide); have hz7 := on.size; clear hz on))
      exact ⟨Q7.from _, ⟨L7, E7⟩, ⟨⟨some ⟨g', 0, none⟩, cap', by rw [HE.out, HDR.out]; simp only [List.length_append, List.length_cons, List.length_nil, Nat.zero_add]; exact Y7.out, by rw [HE.out, snsV_add, HEC.out]; simp only [List.length_append, List.length_cons, List.length_nil, Nat.zero_add]; exact O7.out⟩, F0.out, F1.out, F2.out, F3.out, F4.out⟩, by omega, hBw.trans (L7.mono (Nat.le_refl _))⟩
    · have HDR : Hid ((drained (P ++ [⟨x.1, o, true⟩]) : Int) = qi + 1) := by have h := HQ.out; unfold Hid drained; unfold drained at h; rw [List.countP_append]; simp; exact h
      have y18 := blk_cell Y3.out 18 rfl
      have f18 := blk_frozen Y3.out 18
      obtain ⟨w4, hw4⟩ : ∃ w4, w3.setCell ⟨p, 18, none⟩ (.int .i64 (qi + 1)) = w4 := ⟨_, rfl⟩
      have on4 : Only p w3 w4 := by rw [← hw4]; exact ⟨fun k hk => Below.heap_setCell _ _ _ k hk, (Below.refl p w3).setCell (p := ⟨p, 18, none⟩) (Nat.le_refl _) _, size_setCell _ _ _⟩
      have Y4 : Hid (w4.heap[p]? = some (.cells #[.string s.name, .int .i64 s.version, .bool s.gone, .int .i64 s.image, .int .i64 s.want, .int .i64 s.down, .int .i64 s.over, .int .i64 s.next, .int .i64 s.per, .int .i64 s.least, .int .i64 s.most, .int .i64 s.load, .int .i64 s.cool, .int .i64 N.live, .int .i64 N.ready, .int .i64 N.old, .int .i64 N.failed, .int .i64 N.ending, .int .i64 (qi + 1), .slice al P.length cl] 108 (0, 0))) := by unfold Hid; rw [← hw4]; exact blk_set Y3.out 18 (.int .i64 (qi + 1))
      have hz4 : w4.heap.size = w3.heap.size := on4.size
      have hz4a : w3.heap.size ≤ w4.heap.size := by omega
      have hz4b : w4.heap.size ≤ w3.heap.size := by omega
      have O4 : Hid _ := own_only O3.out on4 Y3.out (by decide)
      have B0 : Hid _ := (on4.other w.heap.size (by omega)).trans A0.out
      have B1 : Hid _ := (on4.other (w.heap.size + 1) (by omega)).trans A1.out
      have B2 : Hid _ := (on4.other (w.heap.size + 1 + 1) (by omega)).trans A2.out
      have B3 : Hid _ := (on4.other (w.heap.size + 1 + 1 + 1) (by omega)).trans A3.out
      have B4 : Hid _ := (on4.other (w1.heap.size + 1) (by omega)).trans A4.out
      have X4 : Hid _ := (on4.other Bx (by omega)).trans X3.out
      have K4 := K3.trans (keeps_only on4 Y3.out)
      have E4 := (on4.other (w1.heap.size + 1) (by omega)).trans E3
      have L4 := L3.trans (on4.below.mono (by omega))
      clear on4 hz4 O3 A0 A1 A2 A3 A4 X3 K3 E3 L3
      gi_wp2
      clear y18 f18 hw4 Y3
      refine wpIn_region_grows 9 (by kernel_rfl) (by kernel_rfl) (by kernel_rfl) ?_
      apply grow_eq
      · intro V W K A hW hd hA hK
        simp only [putAll, List.getElem?_toArray, List.getElem?_cons_succ, List.getElem?_cons_zero, Option.bind_some, Act.put, List.setIfInBounds_toArray, List.set_cons_succ, List.set_cons_zero] at hA
        clear hd
        generalize V 0 = x0 at hA
        generalize V 1 = x1 at hA
        generalize V 2 = x2 at hA
        generalize V 3 = x3 at hA
        generalize V 4 = x4 at hA
        generalize V 5 = x5 at hA
        generalize V 6 = x6 at hA
        generalize V 7 = x7 at hA
        generalize V 8 = x8 at hA
        obtain rfl := hA
        go_wp2
        exact hK.out _ (Below.refl _ _)
      apply grow_eq
      · intro V W K A hW hd hA hK
        have d0 : V 0 = _ := hd 0 (by kernel_rfl)
        simp only [putAll, List.getElem?_toArray, List.getElem?_cons_succ, List.getElem?_cons_zero, Option.bind_some, Act.put, List.setIfInBounds_toArray, List.set_cons_succ, List.set_cons_zero] at hA
        clear hd
        generalize V 0 = x0 at d0 hA
        generalize V 1 = x1 at hA
        generalize V 2 = x2 at hA
        generalize V 3 = x3 at hA
        generalize V 4 = x4 at hA
        generalize V 5 = x5 at hA
        generalize V 6 = x6 at hA
        generalize V 7 = x7 at hA
        generalize V 8 = x8 at hA
        subst d0
        obtain rfl := hA
        have y19 := blk_cell (below_blk hW Y4.out (by omega)) 19 rfl
        go_wp2
        exact hK.out _ (Below.refl _ _)
      apply grow_eq
      · intro V W K A hW hd hA hK
        simp only [putAll, List.getElem?_toArray, List.getElem?_cons_succ, List.getElem?_cons_zero, Option.bind_some, Act.put, List.setIfInBounds_toArray, List.set_cons_succ, List.set_cons_zero] at hA
        clear hd
        generalize V 0 = x0 at hA
        generalize V 1 = x1 at hA
        generalize V 2 = x2 at hA
        generalize V 3 = x3 at hA
        generalize V 4 = x4 at hA
        generalize V 5 = x5 at hA
        generalize V 6 = x6 at hA
        generalize V 7 = x7 at hA
        generalize V 8 = x8 at hA
        obtain rfl := hA
        have x0 := blk_cell (below_blk hW X4.out (by omega)) 0 rfl
        have x1 := blk_cell (below_blk hW X4.out (by omega)) 1 rfl
        have x2 := blk_cell (below_blk hW X4.out (by omega)) 2 rfl
        have x3 := blk_cell (below_blk hW X4.out (by omega)) 3 rfl
        have x4 := blk_cell (below_blk hW X4.out (by omega)) 4 rfl
        have x5 := blk_cell (below_blk hW X4.out (by omega)) 5 rfl
        have x6 := blk_cell (below_blk hW X4.out (by omega)) 6 rfl
        go_wp2
        exact hK.out _ (Below.refl _ _)
      apply grow_eq
      · intro V W K A hW hd hA hK
        simp only [putAll, List.getElem?_toArray, List.getElem?_cons_succ, List.getElem?_cons_zero, Option.bind_some, Act.put, List.setIfInBounds_toArray, List.set_cons_succ, List.set_cons_zero] at hA
        clear hd
        generalize V 0 = x0 at hA
        generalize V 1 = x1 at hA
        generalize V 2 = x2 at hA
        generalize V 3 = x3 at hA
        generalize V 4 = x4 at hA
        generalize V 5 = x5 at hA
        generalize V 6 = x6 at hA
        generalize V 7 = x7 at hA
        generalize V 8 = x8 at hA
        obtain rfl := hA
        have z0 := blk_cell (below_blk hW B2.out (by omega)) 0 rfl
        have z1 := blk_cell (below_blk hW B2.out (by omega)) 1 rfl
        have z2 := blk_cell (below_blk hW B2.out (by omega)) 2 rfl
        have z3 := blk_cell (below_blk hW B2.out (by omega)) 3 rfl
        have z4 := blk_cell (below_blk hW B2.out (by omega)) 4 rfl
        have z5 := blk_cell (below_blk hW B2.out (by omega)) 5 rfl
        have z6 := blk_cell (below_blk hW B2.out (by omega)) 6 rfl
        have z7 := blk_cell (below_blk hW B2.out (by omega)) 7 rfl
        have z8 := blk_cell (below_blk hW B2.out (by omega)) 8 rfl
        have z9 := blk_cell (below_blk hW B2.out (by omega)) 9 rfl
        have z10 := blk_cell (below_blk hW B2.out (by omega)) 10 rfl
        have z11 := blk_cell (below_blk hW B2.out (by omega)) 11 rfl
        have z12 := blk_cell (below_blk hW B2.out (by omega)) 12 rfl
        go_wp2
        exact hK.out _ (Below.refl _ _)
      apply grow_eq
      · intro V W K A hW hd hA hK
        simp only [putAll, List.getElem?_toArray, List.getElem?_cons_succ, List.getElem?_cons_zero, Option.bind_some, Act.put, List.setIfInBounds_toArray, List.set_cons_succ, List.set_cons_zero] at hA
        clear hd
        generalize V 0 = x0 at hA
        generalize V 1 = x1 at hA
        generalize V 2 = x2 at hA
        generalize V 3 = x3 at hA
        generalize V 4 = x4 at hA
        generalize V 5 = x5 at hA
        generalize V 6 = x6 at hA
        generalize V 7 = x7 at hA
        generalize V 8 = x8 at hA
        obtain rfl := hA
        have x0 := blk_cell (below_blk hW X4.out (by omega)) 0 rfl
        have x1 := blk_cell (below_blk hW X4.out (by omega)) 1 rfl
        have x2 := blk_cell (below_blk hW X4.out (by omega)) 2 rfl
        have x3 := blk_cell (below_blk hW X4.out (by omega)) 3 rfl
        have x4 := blk_cell (below_blk hW X4.out (by omega)) 4 rfl
        have x5 := blk_cell (below_blk hW X4.out (by omega)) 5 rfl
        have x6 := blk_cell (below_blk hW X4.out (by omega)) 6 rfl
        go_wp2
        exact hK.out _ (Below.refl _ _)
      apply grow_eq
      · intro V W K A hW hd hA hK
        have d3 : V 3 = _ := hd 3 (by kernel_rfl)
        have d4 : V 4 = _ := hd 4 (by kernel_rfl)
        simp only [putAll, List.getElem?_toArray, List.getElem?_cons_succ, List.getElem?_cons_zero, Option.bind_some, Act.put, List.setIfInBounds_toArray, List.set_cons_succ, List.set_cons_zero] at hA
        clear hd
        generalize V 0 = x0 at hA
        generalize V 1 = x1 at hA
        generalize V 2 = x2 at hA
        generalize V 3 = x3 at d3 hA
        generalize V 4 = x4 at d4 hA
        generalize V 5 = x5 at hA
        generalize V 6 = x6 at hA
        generalize V 7 = x7 at hA
        generalize V 8 = x8 at hA
        subst d3
        subst d4
        obtain rfl := hA
        go_wp2_with fail
        refine (HIO.out _).mono ?_
        rintro e w5 ⟨rfl, hb5⟩
        go_wp2
        exact hK.out _ hb5
      apply grow_eq
      · intro V W K A hW hd hA hK
        simp only [putAll, List.getElem?_toArray, List.getElem?_cons_succ, List.getElem?_cons_zero, Option.bind_some, Act.put, List.setIfInBounds_toArray, List.set_cons_succ, List.set_cons_zero] at hA
        clear hd
        generalize V 0 = x0 at hA
        generalize V 1 = x1 at hA
        generalize V 2 = x2 at hA
        generalize V 3 = x3 at hA
        generalize V 4 = x4 at hA
        generalize V 5 = x5 at hA
        generalize V 6 = x6 at hA
        generalize V 7 = x7 at hA
        generalize V 8 = x8 at hA
        obtain rfl := hA
        go_wp2
        exact hK.out _ (Below.refl _ _)
      apply grow_eq
      · intro V W K A hW hd hA hK
        have d2 : V 2 = _ := hd 2 (by kernel_rfl)
        have d5 : V 5 = _ := hd 5 (by kernel_rfl)
        have d6 : V 6 = _ := hd 6 (by kernel_rfl)
        simp only [putAll, List.getElem?_toArray, List.getElem?_cons_succ, List.getElem?_cons_zero, Option.bind_some, Act.put, List.setIfInBounds_toArray, List.set_cons_succ, List.set_cons_zero] at hA
        clear hd
        generalize V 0 = x0 at hA
        generalize V 1 = x1 at hA
        generalize V 2 = x2 at d2 hA
        generalize V 3 = x3 at hA
        generalize V 4 = x4 at hA
        generalize V 5 = x5 at d5 hA
        generalize V 6 = x6 at d6 hA
        generalize V 7 = x7 at hA
        generalize V 8 = x8 at hA
        subst d2
        subst d5
        subst d6
        obtain rfl := hA
        go_wp2
        exact hK.out _ (Below.refl _ _)
      refine grow_op (fun v V => ∃ r, v = .slice (some ⟨r, 0, none⟩) 1 1 ∧ w4.heap.size ≤ r ∧ V.heap[r]? = some (.cells #[.string x.1.service, .int .i64 x.1.number, .int .i64 x.1.version, .int .i64 x.1.image, .int .i64 x.1.state, .bool false, .string x.1.berth, .bool o, .bool true] 148 (0, 0))) (fun v W W2 ⟨p, h1, h2, h3⟩ hb => ⟨p, h1, h2, below_blk hb h3 (Array.getElem?_eq_some_iff.1 h3).1⟩) ?_ ?_
      · intro V W K A hW hd hA hK
        have d7 : V 7 = _ := hd 7 (by kernel_rfl)
        simp only [putAll, List.getElem?_toArray, List.getElem?_cons_succ, List.getElem?_cons_zero, Option.bind_some, Act.put, List.setIfInBounds_toArray, List.set_cons_succ, List.set_cons_zero] at hA
        clear hd
        generalize V 0 = x0 at hA
        generalize V 1 = x1 at hA
        generalize V 2 = x2 at hA
        generalize V 3 = x3 at hA
        generalize V 4 = x4 at hA
        generalize V 5 = x5 at hA
        generalize V 6 = x6 at hA
        generalize V 7 = x7 at d7 hA
        generalize V 8 = x8 at hA
        subst d7
        obtain rfl := hA
        go_wp2
        exact hK.out _ _ (below_box W _) ⟨_, rfl, hW.size, heap_alloc_new W _⟩
      intro V W A hW hS hA
      have d0 : V 0 = _ := hS 0 (by omega)
      have d1 : V 1 = _ := hS 1 (by omega)
      have d2 : V 2 = _ := hS 2 (by omega)
      have d3 : V 3 = _ := hS 3 (by omega)
      have d4 : V 4 = _ := hS 4 (by omega)
      have d5 : V 5 = _ := hS 5 (by omega)
      have d6 : V 6 = _ := hS 6 (by omega)
      have d7 : V 7 = _ := hS 7 (by omega)
      have d8 : (fun v V => ∃ r, v = .slice (some ⟨r, 0, none⟩) 1 1 ∧ w4.heap.size ≤ r ∧ V.heap[r]? = some (.cells #[.string x.1.service, .int .i64 x.1.number, .int .i64 x.1.version, .int .i64 x.1.image, .int .i64 x.1.state, .bool false, .string x.1.berth, .bool o, .bool true] 148 (0, 0))) (V 8) W := hS 8 (by omega)
      simp only [putAll, List.getElem?_toArray, List.getElem?_cons_succ, List.getElem?_cons_zero, Option.bind_some, Act.put, List.setIfInBounds_toArray, List.set_cons_succ, List.set_cons_zero] at hA
      clear hS
      generalize V 0 = x0 at d0 hA
      generalize V 1 = x1 at d1 hA
      generalize V 2 = x2 at d2 hA
      generalize V 3 = x3 at d3 hA
      generalize V 4 = x4 at d4 hA
      generalize V 5 = x5 at d5 hA
      generalize V 6 = x6 at d6 hA
      generalize V 7 = x7 at d7 hA
      generalize V 8 = x8 at d8 hA
      subst d0
      subst d1
      subst d2
      subst d3
      subst d4
      subst d5
      subst d6
      subst d7
      obtain rfl := hA
      simp only [List.drop_succ_cons, List.drop_zero]
      obtain ⟨r, rfl, hrz, hr⟩ := d8
      have hzW := hW.size
      have Y5 : Hid _ := below_blk hW Y4.out (by omega)
      have O5 : Hid _ := own_below O4.out hW (Nat.le_refl _)
      have C0 : Hid _ := below_blk hW B0.out (by omega)
      have C1 : Hid _ := below_blk hW B1.out (by omega)
      have C2 : Hid _ := below_blk hW B2.out (by omega)
      have C3 : Hid _ := below_blk hW B3.out (by omega)
      have C4 : Hid _ := below_blk hW B4.out (by omega)
      have K5 := K4.trans (keeps_below hW)
      have E5 := (hW.block (w1.heap.size + 1) (by omega)).trans E4
      have L5 := L4.trans (hW.mono (by omega))
      clear hW Y4 O4 B0 B1 B2 B3 B4 X4 K4 E4 L4 HIO
      go_wp2_with (first
        | (at_builtin; refine wpList_append_mineT rfl (.tmp 37) (.tmp 44) 106 rfl W1.heap.size 148 _ 9 80 Tryz.underlying106 Tryz.infoSn rfl (by omega) (.slice al P.length cl) P.length _ rfl O5.out ⟨r, 0, none⟩ 1 (#[.string x.1.service, .int .i64 x.1.number, .int .i64 x.1.version, .int .i64 x.1.image, .int .i64 x.1.state, .bool false, .string x.1.berth, .bool o, .bool true] : Array Value).toList rfl rfl (news_row hr) (fun u hu => (Array.all_eq_true_iff_forall_mem.1 (show (#[.string x.1.service, .int .i64 x.1.number, .int .i64 x.1.version, .int .i64 x.1.image, .int .i64 x.1.state, .bool false, .string x.1.berth, .bool o, .bool true] : Array Value).all (·.oneCell') = true by simp [Value.oneCell'])) u (by simpa using hu)) (by unfold maxLen; omega) (by omega) (by omega) ?_; intro g' cap' w6 hg' O6 hb6 K6; have Y6 : Hid _ := keepT K6 Y5.out (by decide); have D0 : Hid _ := keepT K6 C0.out (by decide); have D1 : Hid _ := keepT K6 C1.out (by decide); have D2 : Hid _ := keepT K6 C2.out (by decide); have D3 : Hid _ := keepT K6 C3.out (by decide); have D4 : Hid _ := keepT K6 C4.out (by decide); have E6 := D4.out.trans (C4.out.symm.trans E5); have L6 := L5.trans (hb6.mono (by omega)); have Q6 := K5.trans (keeps_T hb6.size K6); have hz6 := hb6.size; clear hb6 K6)
        | (refine wpList_store_one rfl 106 (.tmp 46) (.tmp 45) rfl p 19 (.slice (some ⟨g', 0, none⟩) (P.length + 1) cap') rfl rfl Tryz.infosSnsS rfl rfl 108 #[.string s.name, .int .i64 s.version, .bool s.gone, .int .i64 s.image, .int .i64 s.want, .int .i64 s.down, .int .i64 s.over, .int .i64 s.next, .int .i64 s.per, .int .i64 s.least, .int .i64 s.most, .int .i64 s.load, .int .i64 s.cool, .int .i64 N.live, .int .i64 N.ready, .int .i64 N.old, .int .i64 N.failed, .int .i64 N.ending, .int .i64 (qi + 1), .slice al P.length cl] Y6.out (Nat.le_of_ble_eq_true rfl) ?_; intro w7 hz on; have Y7 : Hid (w7.heap[p]? = some (.cells #[.string s.name, .int .i64 s.version, .bool s.gone, .int .i64 s.image, .int .i64 s.want, .int .i64 s.down, .int .i64 s.over, .int .i64 s.next, .int .i64 s.per, .int .i64 s.least, .int .i64 s.most, .int .i64 s.load, .int .i64 s.cool, .int .i64 N.live, .int .i64 N.ready, .int .i64 N.old, .int .i64 N.failed, .int .i64 N.ending, .int .i64 (qi + 1), .slice (some ⟨g', 0, none⟩) (P.length + 1) cap'] 108 (0, 0))) := hz; have F0 : Hid _ := (on.other w.heap.size (by omega)).trans D0.out; have F1 : Hid _ := (on.other (w.heap.size + 1) (by omega)).trans D1.out; have F2 : Hid _ := (on.other (w.heap.size + 1 + 1) (by omega)).trans D2.out; have F3 : Hid _ := (on.other (w.heap.size + 1 + 1 + 1) (by omega)).trans D3.out; have F4 : Hid _ := (on.other (w1.heap.size + 1) (by omega)).trans D4.out; have E7 := (on.other (w1.heap.size + 1) (by omega)).trans E6; have L7 := L6.trans (on.below.mono (by omega)); have Q7 := Q6.trans (keeps_only on Y6.out); have O7 : Hid _ := own_only O6.out on Y6.out (by decide); have hz7 := on.size; clear hz on))
      exact ⟨Q7.from _, ⟨L7, E7⟩, ⟨⟨some ⟨g', 0, none⟩, cap', by rw [HE.out, HDR.out]; simp only [List.length_append, List.length_cons, List.length_nil, Nat.zero_add]; exact Y7.out, by rw [HE.out, snsV_add, HEC.out]; simp only [List.length_append, List.length_cons, List.length_nil, Nat.zero_add]; exact O7.out⟩, F0.out, F1.out, F2.out, F3.out, F4.out⟩, by omega, hBw.trans (L7.mono (Nat.le_refl _))⟩
  case done =>
    rintro D ys W hD rfl ⟨⟨⟨al, cl, hY, hO⟩, h0, h1, h2, h3, h4⟩, hsz, hB⟩ hK
    have HLA : liveA B s (ofA s.name B.cps.attach) = L := by unfold liveA; rw [ofA_map]; exact hL.out.symm
    rw [HLA] at hY hO
    have Y : Hid (W.heap[p]? = some (.cells #[.string s.name, .int .i64 s.version, .bool s.gone, .int .i64 s.image, .int .i64 s.want, .int .i64 s.down, .int .i64 s.over, .int .i64 s.next, .int .i64 s.per, .int .i64 s.least, .int .i64 s.most, .int .i64 s.load, .int .i64 s.cool, .int .i64 N.live, .int .i64 N.ready, .int .i64 N.old, .int .i64 N.failed, .int .i64 N.ending, .int .i64 dr, .slice al L.length cl] 108 (0, 0))) := by unfold Hid; rw [hdr.out]; exact hY
    have O : Hid _ := hO
    have R : Hid _ := h3
    have HK : Hid _ := hK
    have HDP : D ≠ w.heap.size + 1 + 1 + 1 := by omega
    have HDp : D ≠ p := by omega
    clear hY hO h0 h1 h2 h3 h4 hK HLA U0 U1 T0a T1a T2a T3a Y1 hC0
    gi_wp2_with (first
      | (refine wpListIn_load_row rfl 108 (.tmp 8) rfl p rfl 108 #[.string s.name, .int .i64 s.version, .bool s.gone, .int .i64 s.image, .int .i64 s.want, .int .i64 s.down, .int .i64 s.over, .int .i64 s.next, .int .i64 s.per, .int .i64 s.least, .int .i64 s.most, .int .i64 s.load, .int .i64 s.cool, .int .i64 N.live, .int .i64 N.ready, .int .i64 N.old, .int .i64 N.failed, .int .i64 N.ending, .int .i64 dr, .slice al L.length cl] (0, 0) _ Y.out Tryz.underlying108 rfl Tryz.infosSight ?_)
      | (refine wpListIn_store_only rfl 108 (.tmp 6) (.tmp 47) rfl (w.heap.size + 1 + 1 + 1) 0 #[.string s.name, .int .i64 s.version, .bool s.gone, .int .i64 s.image, .int .i64 s.want, .int .i64 s.down, .int .i64 s.over, .int .i64 s.next, .int .i64 s.per, .int .i64 s.least, .int .i64 s.most, .int .i64 s.load, .int .i64 s.cool, .int .i64 N.live, .int .i64 N.ready, .int .i64 N.old, .int .i64 N.failed, .int .i64 N.ending, .int .i64 dr, .slice al L.length cl] rfl rfl 108 #[.string ⟨#[]⟩, .int .i64 0, .bool false, .int .i64 0, .int .i64 0, .int .i64 0, .int .i64 0, .int .i64 0, .int .i64 0, .int .i64 0, .int .i64 0, .int .i64 0, .int .i64 0, .int .i64 0, .int .i64 0, .int .i64 0, .int .i64 0, .int .i64 0, .int .i64 0, .slice none 0 0] R.out Tryz.infosSight (Nat.le_of_ble_eq_true rfl) (by simp [Value.oneCell']) ?_; intro wf hz on; have RF : Hid (wf.heap[w.heap.size + 1 + 1 + 1]? = some (.cells #[.string s.name, .int .i64 s.version, .bool s.gone, .int .i64 s.image, .int .i64 s.want, .int .i64 s.down, .int .i64 s.over, .int .i64 s.next, .int .i64 s.per, .int .i64 s.least, .int .i64 s.most, .int .i64 s.load, .int .i64 s.cool, .int .i64 N.live, .int .i64 N.ready, .int .i64 N.old, .int .i64 N.failed, .int .i64 N.ending, .int .i64 dr, .slice al L.length cl] 108 (0, 0))) := hz; have BF := hB.trans (on.below.mono (by omega)); have OF := own_only O.out on R.out (by decide); have KF : Hid _ := (on.other D HDP).trans HK.out; have hzf := on.size; clear hz on))
    refine ⟨by simp, .inl ⟨_, _, rfl, run_takeDeferred KF.out, ?_⟩⟩
    have hX := ((grownBy_putObj' wf D (.deferred none)).block (w.heap.size + 1 + 1 + 1) (by omega) (fun e => HDP (Option.some.inj e).symm)).trans RF.out
    exact ⟨.agg #[.string s.name, .int .i64 s.version, .bool s.gone, .int .i64 s.image, .int .i64 s.want, .int .i64 s.down, .int .i64 s.over, .int .i64 s.next, .int .i64 s.per, .int .i64 s.least, .int .i64 s.most, .int .i64 s.load, .int .i64 s.cool, .int .i64 N.live, .int .i64 N.ready, .int .i64 N.old, .int .i64 N.failed, .int .i64 N.ending, .int .i64 dr, .slice al L.length cl], results_cell_row rfl _ _ (w.heap.size + 1 + 1 + 1) _ _ _ _ rfl hX Tryz.underlying108 rfl Tryz.infosSight, al, cl, rfl, own_mono (own_put OF KF.out) (show w.heap.size ≤ W1.heap.size by omega), BF.trans (belowK_b (w := w) (Nat.le_refl _) _ D _ _ (by omega) KF.out rfl rfl)⟩

end Go.Proofs.YtbceafpodamnfabGreat
