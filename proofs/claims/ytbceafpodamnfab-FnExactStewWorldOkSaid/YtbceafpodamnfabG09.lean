/-
  My own: Vs, Vd, Vw.
-/
import Derived.Test.YtbceafpodamnfabG00
import Derived.Test.YtbceafpodamnfabG01
import Derived.Deep.DeepCutAuto
import Derived.Test.YtbceafpodamnfabG02
import Derived.Test.YtbceafpodamnfabG04
/-
  My own. Rows of one's own over a growing world; an old copy.
-/
namespace Go.Proofs.Ytbceafpodamnfab
open Go.RowKit Go.Sort

set_option maxHeartbeats 1000000 in
theorem isOldV_any (s : Svc) (c : Cp) (w : World) :
    Calls Try.prog 87 #[.agg #[.string s.name, .int .i64 s.version, .bool s.gone, .int .i64 s.image, .int .i64 s.want, .int .i64 s.down, .int .i64 s.over, .int .i64 s.next, .int .i64 s.per, .int .i64 s.least, .int .i64 s.most, .int .i64 s.load, .int .i64 s.cool], .agg #[.string c.service, .int .i64 c.number, .int .i64 c.version, .int .i64 c.image, .int .i64 c.state, .bool c.ending, .string c.berth]] w fun e w' => e = .returned (.bool (c.image != s.image)) ∧ Below w.heap.size w w' := by
  have hfin : Below w.heap.size w ((w.alloc (.cells #[.string s.name, .int .i64 s.version, .bool s.gone, .int .i64 s.image, .int .i64 s.want, .int .i64 s.down, .int .i64 s.over, .int .i64 s.next, .int .i64 s.per, .int .i64 s.least, .int .i64 s.most, .int .i64 s.load, .int .i64 s.cool] 57)).alloc (.cells #[.string c.service, .int .i64 c.number, .int .i64 c.version, .int .i64 c.image, .int .i64 c.state, .bool c.ending, .string c.berth] 72)) := ((Below.refl _ _).alloc (Nat.le_refl _) _).alloc (by simp) _
  go_enter Try.func87, Try.ntmps87
  go_wp2
  go_ret
  exact ⟨rfl, hfin⟩

theorem two_newV (w : World) (A B : Obj) : ∃ W0, (w.alloc A).alloc B = W0 ∧ W0.heap[w.heap.size]? = some A ∧ W0.heap[w.heap.size + 1]? = some B ∧ w.heap.size + 1 + 1 ≤ W0.heap.size ∧ W0.heap.size ≤ w.heap.size + 1 + 1 ∧ Below w.heap.size w W0 := by
  obtain ⟨t0, t1, t2⟩ := two_new w A B
  exact ⟨_, rfl, t0, t1, by rw [t2]; exact Nat.le_refl _, by rw [t2]; exact Nat.le_refl _, ((Below.refl _ _).alloc (Nat.le_refl _) _).alloc (by simp) _⟩

theorem ownV_below {w w' : World} {lo N : Nat} {e : TypeId} {size : Nat} {v : Value} {n : Nat} {xs : List Value} (h : w.ownsRow lo e size v n xs) (hb : Below N w w') (hN : w.heap.size ≤ N) : w'.ownsRow lo e size v n xs := by
  obtain ⟨h1, h2⟩ := h
  refine ⟨h1, ?_⟩
  rcases h2 with h2 | ⟨g, cap, cur, r1, r2, r3, r4⟩
  · exact .inl h2
  · have hlt : g < w.heap.size := (Array.getElem?_eq_some_iff.1 r3).1
    exact .inr ⟨g, cap, cur, r1, r2, (hb.block g (by omega)).trans r3, r4⟩
theorem ownV_blk {w w' : World} {lo : Nat} {e : TypeId} {size : Nat} {v : Value} {n : Nat} {xs : List Value} (h : w.ownsRow lo e size v n xs) (hb : ∀ g, lo ≤ g → g < w.heap.size → w'.heap[g]? = w.heap[g]?) : w'.ownsRow lo e size v n xs := by
  obtain ⟨h1, h2⟩ := h
  refine ⟨h1, ?_⟩
  rcases h2 with h2 | ⟨g, cap, cur, r1, r2, r3, r4⟩
  · exact .inl h2
  · exact .inr ⟨g, cap, cur, r1, r2, (hb g r2 (Array.getElem?_eq_some_iff.1 r3).1).trans r3, r4⟩
theorem ownV_mono {w : World} {lo lo' : Nat} {e : TypeId} {size : Nat} {v : Value} {n : Nat} {xs : List Value} (h : w.ownsRow lo e size v n xs) (hl : lo' ≤ lo) : w.ownsRow lo' e size v n xs := by
  obtain ⟨h1, h2⟩ := h
  refine ⟨h1, ?_⟩
  rcases h2 with h2 | ⟨g, cap, cur, r1, r2, r⟩
  · exact .inl h2
  · exact .inr ⟨g, cap, cur, r1, Nat.le_trans hl r2, r⟩

end Go.Proofs.Ytbceafpodamnfab

/-
  My own. Lists of copies and of services, kept in part: by a function value of any number.
-/
namespace Go.Proofs.Ytbceafpodamnfab
open Go.RowKit Go.Sort

section
variable {P : Program}
/-- One element appended onto a row of one's own, or onto nil. -/
theorem wpList_append_mineV {ops : Array Oper} {rest : List Oper} {o : Oper} {a : Act} {w : World} {Q : Exit → Act → World → Prop} (hgd : o.guard = none) (s x : Operand) (t : TypeId)
    (ho : o.op = .call { callee := .builtin .append, args := #[s, x], argTypes := #[t, t] })
    (base : Nat) (e : TypeId) (z : Value) (size bytes : Nat) (ht : P.underlying t = some (.slice e)) (hinfo : (P.info? e).map (fun i => (i.zero, i.size, i.bytes)) = some (some z, size, bytes)) (hzs : z.cells.size = size) (hsz : 0 < size)
    (v : Value) (n : Nat) (xs : List Value) (hs : a.eval s = v) (hown : w.ownsRow base e size v n xs)
    (ad : Addr) (c : Nat) (news : List Value) (hx : a.eval x = .slice (some ad) 1 c) (hl : news.length = 1 * size) (hnews : ∀ j u, news[j]? = some u → w.cell? (ad.add j) = some u) (h1 : ∀ u ∈ news, u.oneCell' = true)
    (h63 : n + 1 ≤ maxLen) (hbytes : (n + 1) * bytes ≤ 140737488355328) (hbase : base ≤ w.heap.size)
    (h : ∀ g cap w', base ≤ g → Hid (w'.ownsRow base e size (.slice (some ⟨g, 0, none⟩) (n + 1) cap) (n + 1) (xs ++ news)) → Below base w w' → wpList P ops Q rest (a.put o.dst (.slice (some ⟨g, 0, none⟩) (n + 1) cap)) w') : wpList P ops Q (o :: rest) a w := by
  obtain ⟨i, hi, hz, hs', hb⟩ := info_parts hinfo
  refine wpList_append_own w hgd s x t ho base e i z size bytes ht hi hz hs' hb hzs hsz v n xs hs hown ad 1 c news hx hl hnews h1 h63 hbytes hbase fun v' w' ho' hgr _ => ?_
  have hb' : Below base w w' := ⟨hgr.os, hgr.tape, hgr.output, hgr.size, fun k hk => hgr.block k (by omega) (fun e' => by have := (hown.lt k e'.symm).1; omega)⟩
  rcases ho'.2 with ⟨_, h0⟩ | ⟨g, cap, cur, rfl, hbg, _⟩
  · omega
  · exact h g cap w' hbg ho' hb'
end

theorem Try.infoCpK : (Try.prog.info? 72).map (fun i => (i.zero, i.size, i.bytes)) = some (some (.agg #[.string ⟨#[]⟩, .int .i64 0, .int .i64 0, .int .i64 0, .int .i64 0, .bool false, .string ⟨#[]⟩]), 7, 72) := by kernel_rfl
theorem Try.infoSvcK : (Try.prog.info? 57).map (fun i => (i.zero, i.size, i.bytes)) = some (some (.agg #[.string ⟨#[]⟩, .int .i64 0, .bool false, .int .i64 0, .int .i64 0, .int .i64 0, .int .i64 0, .int .i64 0, .int .i64 0, .int .i64 0, .int .i64 0, .int .i64 0, .int .i64 0]), 13, 112) := by kernel_rfl
theorem Try.infosCpK : (Try.prog.info? 72).map (·.size) = some 7 := by kernel_rfl
theorem Try.infosSvcK : (Try.prog.info? 57).map (·.size) = some 13 := by kernel_rfl
theorem one_CpK (x : Cp) : (#[.string x.service, .int .i64 x.number, .int .i64 x.version, .int .i64 x.image, .int .i64 x.state, .bool x.ending, .string x.berth] : Array Value).all (·.oneCell') = true := by simp [Value.oneCell']
theorem one_SvcK (x : Svc) : (#[.string x.name, .int .i64 x.version, .bool x.gone, .int .i64 x.image, .int .i64 x.want, .int .i64 x.down, .int .i64 x.over, .int .i64 x.next, .int .i64 x.per, .int .i64 x.least, .int .i64 x.most, .int .i64 x.load, .int .i64 x.cool] : Array Value).all (·.oneCell') = true := by simp [Value.oneCell']
theorem cpsV_add (l : List Cp) (x : Cp) : cpsV (l ++ [x]) = cpsV l ++ (#[.string x.service, .int .i64 x.number, .int .i64 x.version, .int .i64 x.image, .int .i64 x.state, .bool x.ending, .string x.berth] : Array Value).toList := by simp [cpsV, Cp.cells]
theorem svcsV_add (l : List Svc) (x : Svc) : svcsV (l ++ [x]) = svcsV l ++ (#[.string x.name, .int .i64 x.version, .bool x.gone, .int .i64 x.image, .int .i64 x.want, .int .i64 x.down, .int .i64 x.over, .int .i64 x.next, .int .i64 x.per, .int .i64 x.least, .int .i64 x.most, .int .i64 x.load, .int .i64 x.cool] : Array Value).toList := by simp [svcsV, Svc.cells]

/-- A slice of copies in a row of its own from block lo on, or nil. -/
def OwnCp (lo : Nat) (w : World) (al : Option Addr) (cl : Nat) (l : List Cp) : Prop := w.ownsRow lo 72 7 (.slice al l.length cl) l.length (cpsV l)
theorem OwnCp.sl {lo : Nat} {w : World} {al : Option Addr} {cl : Nat} {l : List Cp} (h : OwnCp lo w al cl l) : SlC w al l := fun hn => by
  have hl : 0 < l.length := List.length_pos_iff.2 hn
  have h0 := h
  rcases h.2 with ⟨_, h2⟩ | ⟨g, cap, cur, r1, r2, r3, r4⟩
  · omega
  · have e : al = some ⟨g, 0, none⟩ := by cases r1; rfl
    subst e
    have hc := World.ownsRow.cells h0 (g := g) rfl
    refine ⟨g, 0, rfl, (Array.getElem?_eq_some_iff.1 r3).1, fun i s hs => ?_⟩
    have hv : ∀ (k : Nat) (u : Value), s.cells[k]? = some u → w.cell? ⟨g, i * 7 + k, none⟩ = some u := fun k u hu => by
      have := hc (i * 7 + k) u (flat_at (c := Cp.cells) (n := 7) (fun _ => rfl) l i s k u hs hu)
      rw [Addr.add_lit, Nat.zero_add] at this
      exact this
    unfold CpAt
    rw [Nat.zero_add]
    exact ⟨hv 0 _ rfl, hv 1 _ rfl, hv 2 _ rfl, hv 3 _ rfl, hv 4 _ rfl, hv 5 _ rfl, hv 6 _ rfl⟩

set_option maxRecDepth 100000 in
set_option maxHeartbeats 8000000 in
theorem keptCp0 (fk : Nat) (hent : ∀ args w, (callFunc fk args).run Try.prog w = .ok (.enter fk args) w) (p : Cp → Bool) (l : List Cp) (al : Option Addr) (cl : Nat) (w : World) (hl : l.length ≤ 1048576) (hL : SlC w al l)
    (hC : ∀ x ∈ l, ∀ W : World, Below w.heap.size w W → Calls Try.prog fk #[.agg #[.string x.service, .int .i64 x.number, .int .i64 x.version, .int .i64 x.image, .int .i64 x.state, .bool x.ending, .string x.berth]] W fun e w' => e = .returned (.bool (p x)) ∧ Below W.heap.size W w') :
    Calls Try.prog 76 #[.slice al l.length cl, .func (.func fk) #[] #[]] w fun e w' => ∃ ao co, e = .returned (.slice ao (l.filter p).length co) ∧ w'.ownsRow w.heap.size 72 7 (.slice ao (l.filter p).length co) (l.filter p).length (cpsV (l.filter p)) ∧ Below w.heap.size w w' := by
  have HL : Hid (SlC w al l) := hL
  have HC : Hid _ := hC
  clear hL hC
  go_enter Try.func76, Try.ntmps76
  go_wp2
  go_loopw [5, 10] (fun ov iv wr => ∃ (k m : Nat) (ao : Option Addr) (co : Nat), k ≤ l.length ∧ iv = .int .i64 k ∧ ov = .slice ao m co ∧ m ≤ k ∧ Hid (m = ((l.take k).filter p).length) ∧ Below w.heap.size w wr ∧ Hid (wr.ownsRow w.heap.size 72 7 (.slice ao m co) m (cpsV ((l.take k).filter p)))) (fun _ i _ => l.length - (intOf i).toNat)
  case atStart => exact ⟨0, 0, none, 0, by omega, rfl, rfl, Nat.le_refl _, rfl, Below.refl _ _, World.ownsRow_nil _ _ _ _⟩
  case round =>
    obtain ⟨k, m, ao, co, hk, rfl, rfl, hmk, HM, hb, hown⟩ := hrel
    have hz := hb.size
    by_cases hlt : k < l.length
    · obtain ⟨x, hx⟩ : ∃ x, l[k]? = some x := ⟨l[k], by simp [hlt]⟩
      have HX : Hid ((l.take (k + 1)).filter p = (l.take k).filter p ++ (if p x then [x] else [])) := by
        unfold Hid
        rw [List.take_add_one, hx, List.filter_append]
        cases hp : (p x) <;> simp [List.filter, hp]
      have hne : l ≠ [] := by intro h; rw [h] at hlt; simp at hlt
      obtain ⟨g, off, ea, hgw, hat⟩ := HL.out hne
      subst ea
      have hat' := (hat k x hx).below hb hgw
      unfold CpAt at hat'
      obtain ⟨c0, c1, c2, c3, c4, c5, c6⟩ := hat'
      have HM0 : x ∈ l := List.mem_of_getElem? hx
      obtain ⟨px, HX1, HC1⟩ : ∃ q : Bool, Hid ((l.take (k + 1)).filter p = (l.take k).filter p ++ (if q then [x] else [])) ∧ Hid (∀ W : World, Below w.heap.size w W → Calls Try.prog fk #[.agg #[.string x.service, .int .i64 x.number, .int .i64 x.version, .int .i64 x.image, .int .i64 x.state, .bool x.ending, .string x.berth]] W fun e w' => e = .returned (.bool q) ∧ Below W.heap.size W w') := ⟨_, HX, fun W h => HC.out x HM0 W h⟩
      clear HX hx hat HM0 hne
      have hba := hb.trans ((below_box wr (.cells #[.string x.service, .int .i64 x.number, .int .i64 x.version, .int .i64 x.image, .int .i64 x.state, .bool x.ending, .string x.berth] 72)).mono hz)
      go_wp2_with fail
      refine (HC1.out _ hba).mono ?_
      rintro e w1 ⟨rfl, hb1⟩
      have hown1 : Hid _ := ownV_below (ownV_below hown.out (below_box wr (.cells #[.string x.service, .int .i64 x.number, .int .i64 x.version, .int .i64 x.image, .int .i64 x.state, .bool x.ending, .string x.berth] 72)) (Nat.le_refl _)) hb1 (Nat.le_refl _)
      have T1 : Hid _ := below_blk hb1 (heap_alloc_new wr (.cells #[.string x.service, .int .i64 x.number, .int .i64 x.version, .int .i64 x.image, .int .i64 x.state, .bool x.ending, .string x.berth] 72)) (by simp)
      have hbw1 := hb.trans (((below_box wr (.cells #[.string x.service, .int .i64 x.number, .int .i64 x.version, .int .i64 x.image, .int .i64 x.state, .bool x.ending, .string x.berth] 72)).trans (hb1.mono (by simp))).mono hz)
      have hz1 := hbw1.size
      clear hown hb1 hba c0 c1 c2 c3 c4 c5 c6
      cases px
      · go_wp2
        go_roundw
        case rel => exact ⟨k + 1, m, ao, co, by omega, by go_num, rfl, by omega, by unfold Hid; rw [HX1.out, HM.out]; simp, hbw1, by unfold Hid; rw [HX1.out]; simp only [Bool.false_eq_true, if_false, List.append_nil]; exact hown1.out⟩
        case measure => simp [intOf]; omega
      · go_wp2_with (first
          | (refine wpList_load_row rfl 72 (.tmp 18) rfl wr.heap.size rfl 72 #[.string x.service, .int .i64 x.number, .int .i64 x.version, .int .i64 x.image, .int .i64 x.state, .bool x.ending, .string x.berth] (0, 0) _ T1.out Try.underlying72 rfl Try.infosCpK ?_)
          | (refine wpList_load_row rfl 72 (.tmp 7) rfl wr.heap.size rfl 72 #[.string x.service, .int .i64 x.number, .int .i64 x.version, .int .i64 x.image, .int .i64 x.state, .bool x.ending, .string x.berth] (0, 0) _ T1.out Try.underlying72 rfl Try.infosCpK ?_)
          | (at_builtin; refine wpList_append_mineV rfl (.tmp 17) (.tmp 19) 30 rfl w.heap.size 72 _ 7 72 Try.underlying30 Try.infoCpK rfl (by omega) (.slice ao m co) m _ rfl (ownV_below hown1.out (below_box w1 _) (Nat.le_refl _)) ⟨w1.heap.size, 0, none⟩ 1 (#[.string x.service, .int .i64 x.number, .int .i64 x.version, .int .i64 x.image, .int .i64 x.state, .bool x.ending, .string x.berth] : Array Value).toList rfl rfl (news_row (heap_alloc_new w1 _)) (fun u hu => (Array.all_eq_true_iff_forall_mem.1 (one_CpK x)) u (by simpa using hu)) (by unfold maxLen; omega) (by omega) (by simp; omega) ?_; intro g' cap' w2 hg' hown2 hb2))
        have hbw2 := hbw1.trans (((below_box w1 (.cells #[.string x.service, .int .i64 x.number, .int .i64 x.version, .int .i64 x.image, .int .i64 x.state, .bool x.ending, .string x.berth] 72)).mono hz1).trans hb2)
        go_wp2
        go_roundw
        case rel => exact ⟨k + 1, m + 1, _, _, by omega, by go_num, rfl, by omega, by unfold Hid; rw [HX1.out, HM.out]; simp, hbw2, by unfold Hid; rw [HX1.out]; simp only [if_true, cpsV_add]; exact hown2.out⟩
        case measure => simp [intOf]; omega
    · obtain rfl : k = l.length := by omega
      have HE : Hid ((l.take l.length).filter p = l.filter p) := by unfold Hid; rw [List.take_length]
      have HM2 : Hid (m = (l.filter p).length) := by unfold Hid; rw [HM.out, HE.out]
      go_wp2
      go_ret
      refine ⟨ao, co, congrArg (fun q => Ending.returned (.slice ao q co)) HM2.out, ?_, hb⟩
      rw [← HM2.out, ← HE.out]
      exact hown.out

set_option maxRecDepth 100000 in
set_option maxHeartbeats 8000000 in
theorem howManyCp0 (fk : Nat) (hent : ∀ args w, (callFunc fk args).run Try.prog w = .ok (.enter fk args) w) (p : Cp → Bool) (l : List Cp) (al : Option Addr) (cl : Nat) (w : World) (hl : l.length ≤ 1048576) (hL : SlC w al l)
    (hC : ∀ x ∈ l, ∀ W : World, Below w.heap.size w W → Calls Try.prog fk #[.agg #[.string x.service, .int .i64 x.number, .int .i64 x.version, .int .i64 x.image, .int .i64 x.state, .bool x.ending, .string x.berth]] W fun e w' => e = .returned (.bool (p x)) ∧ Below W.heap.size W w') :
    Calls Try.prog 81 #[.slice al l.length cl, .func (.func fk) #[] #[]] w fun e w' => e = .returned (.int .i64 (l.filter p).length) ∧ Below w.heap.size w w' := by
  have HC : Hid _ := hC
  have HL : Hid (SlC w al l) := hL
  clear hL hC
  go_enter Try.func81, Try.ntmps81
  go_wp2_with fail
  refine (keptCp0 fk hent  p l al cl w hl HL.out HC.out).mono ?_
  rintro e w1 ⟨ao, co, rfl, _, hb1⟩
  go_wp2
  go_ret
  exact ⟨rfl, hb1⟩

set_option maxRecDepth 100000 in
set_option maxHeartbeats 8000000 in
theorem keptCp1 (fk : Nat) (hent : ∀ args w, (callFunc fk args).run Try.prog w = .ok (.enter fk args) w) (v0 : Value) (p : Cp → Bool) (l : List Cp) (al : Option Addr) (cl : Nat) (w : World) (hl : l.length ≤ 1048576) (hL : SlC w al l)
    (hC : ∀ x ∈ l, ∀ W : World, Below w.heap.size w W → Calls Try.prog fk #[.agg #[.string x.service, .int .i64 x.number, .int .i64 x.version, .int .i64 x.image, .int .i64 x.state, .bool x.ending, .string x.berth], v0] W fun e w' => e = .returned (.bool (p x)) ∧ Below W.heap.size W w') :
    Calls Try.prog 76 #[.slice al l.length cl, .func (.func fk) #[] #[v0]] w fun e w' => ∃ ao co, e = .returned (.slice ao (l.filter p).length co) ∧ w'.ownsRow w.heap.size 72 7 (.slice ao (l.filter p).length co) (l.filter p).length (cpsV (l.filter p)) ∧ Below w.heap.size w w' := by
  have HL : Hid (SlC w al l) := hL
  have HC : Hid _ := hC
  clear hL hC
  go_enter Try.func76, Try.ntmps76
  go_wp2
  go_loopw [5, 10] (fun ov iv wr => ∃ (k m : Nat) (ao : Option Addr) (co : Nat), k ≤ l.length ∧ iv = .int .i64 k ∧ ov = .slice ao m co ∧ m ≤ k ∧ Hid (m = ((l.take k).filter p).length) ∧ Below w.heap.size w wr ∧ Hid (wr.ownsRow w.heap.size 72 7 (.slice ao m co) m (cpsV ((l.take k).filter p)))) (fun _ i _ => l.length - (intOf i).toNat)
  case atStart => exact ⟨0, 0, none, 0, by omega, rfl, rfl, Nat.le_refl _, rfl, Below.refl _ _, World.ownsRow_nil _ _ _ _⟩
  case round =>
    obtain ⟨k, m, ao, co, hk, rfl, rfl, hmk, HM, hb, hown⟩ := hrel
    have hz := hb.size
    by_cases hlt : k < l.length
    · obtain ⟨x, hx⟩ : ∃ x, l[k]? = some x := ⟨l[k], by simp [hlt]⟩
      have HX : Hid ((l.take (k + 1)).filter p = (l.take k).filter p ++ (if p x then [x] else [])) := by
        unfold Hid
        rw [List.take_add_one, hx, List.filter_append]
        cases hp : (p x) <;> simp [List.filter, hp]
      have hne : l ≠ [] := by intro h; rw [h] at hlt; simp at hlt
      obtain ⟨g, off, ea, hgw, hat⟩ := HL.out hne
      subst ea
      have hat' := (hat k x hx).below hb hgw
      unfold CpAt at hat'
      obtain ⟨c0, c1, c2, c3, c4, c5, c6⟩ := hat'
      have HM0 : x ∈ l := List.mem_of_getElem? hx
      obtain ⟨px, HX1, HC1⟩ : ∃ q : Bool, Hid ((l.take (k + 1)).filter p = (l.take k).filter p ++ (if q then [x] else [])) ∧ Hid (∀ W : World, Below w.heap.size w W → Calls Try.prog fk #[.agg #[.string x.service, .int .i64 x.number, .int .i64 x.version, .int .i64 x.image, .int .i64 x.state, .bool x.ending, .string x.berth], v0] W fun e w' => e = .returned (.bool q) ∧ Below W.heap.size W w') := ⟨_, HX, fun W h => HC.out x HM0 W h⟩
      clear HX hx hat HM0 hne
      have hba := hb.trans ((below_box wr (.cells #[.string x.service, .int .i64 x.number, .int .i64 x.version, .int .i64 x.image, .int .i64 x.state, .bool x.ending, .string x.berth] 72)).mono hz)
      go_wp2_with fail
      refine (HC1.out _ hba).mono ?_
      rintro e w1 ⟨rfl, hb1⟩
      have hown1 : Hid _ := ownV_below (ownV_below hown.out (below_box wr (.cells #[.string x.service, .int .i64 x.number, .int .i64 x.version, .int .i64 x.image, .int .i64 x.state, .bool x.ending, .string x.berth] 72)) (Nat.le_refl _)) hb1 (Nat.le_refl _)
      have T1 : Hid _ := below_blk hb1 (heap_alloc_new wr (.cells #[.string x.service, .int .i64 x.number, .int .i64 x.version, .int .i64 x.image, .int .i64 x.state, .bool x.ending, .string x.berth] 72)) (by simp)
      have hbw1 := hb.trans (((below_box wr (.cells #[.string x.service, .int .i64 x.number, .int .i64 x.version, .int .i64 x.image, .int .i64 x.state, .bool x.ending, .string x.berth] 72)).trans (hb1.mono (by simp))).mono hz)
      have hz1 := hbw1.size
      clear hown hb1 hba c0 c1 c2 c3 c4 c5 c6
      cases px
      · go_wp2
        go_roundw
        case rel => exact ⟨k + 1, m, ao, co, by omega, by go_num, rfl, by omega, by unfold Hid; rw [HX1.out, HM.out]; simp, hbw1, by unfold Hid; rw [HX1.out]; simp only [Bool.false_eq_true, if_false, List.append_nil]; exact hown1.out⟩
        case measure => simp [intOf]; omega
      · go_wp2_with (first
          | (refine wpList_load_row rfl 72 (.tmp 18) rfl wr.heap.size rfl 72 #[.string x.service, .int .i64 x.number, .int .i64 x.version, .int .i64 x.image, .int .i64 x.state, .bool x.ending, .string x.berth] (0, 0) _ T1.out Try.underlying72 rfl Try.infosCpK ?_)
          | (refine wpList_load_row rfl 72 (.tmp 7) rfl wr.heap.size rfl 72 #[.string x.service, .int .i64 x.number, .int .i64 x.version, .int .i64 x.image, .int .i64 x.state, .bool x.ending, .string x.berth] (0, 0) _ T1.out Try.underlying72 rfl Try.infosCpK ?_)
          | (at_builtin; refine wpList_append_mineV rfl (.tmp 17) (.tmp 19) 30 rfl w.heap.size 72 _ 7 72 Try.underlying30 Try.infoCpK rfl (by omega) (.slice ao m co) m _ rfl (ownV_below hown1.out (below_box w1 _) (Nat.le_refl _)) ⟨w1.heap.size, 0, none⟩ 1 (#[.string x.service, .int .i64 x.number, .int .i64 x.version, .int .i64 x.image, .int .i64 x.state, .bool x.ending, .string x.berth] : Array Value).toList rfl rfl (news_row (heap_alloc_new w1 _)) (fun u hu => (Array.all_eq_true_iff_forall_mem.1 (one_CpK x)) u (by simpa using hu)) (by unfold maxLen; omega) (by omega) (by simp; omega) ?_; intro g' cap' w2 hg' hown2 hb2))
        have hbw2 := hbw1.trans (((below_box w1 (.cells #[.string x.service, .int .i64 x.number, .int .i64 x.version, .int .i64 x.image, .int .i64 x.state, .bool x.ending, .string x.berth] 72)).mono hz1).trans hb2)
        go_wp2
        go_roundw
        case rel => exact ⟨k + 1, m + 1, _, _, by omega, by go_num, rfl, by omega, by unfold Hid; rw [HX1.out, HM.out]; simp, hbw2, by unfold Hid; rw [HX1.out]; simp only [if_true, cpsV_add]; exact hown2.out⟩
        case measure => simp [intOf]; omega
    · obtain rfl : k = l.length := by omega
      have HE : Hid ((l.take l.length).filter p = l.filter p) := by unfold Hid; rw [List.take_length]
      have HM2 : Hid (m = (l.filter p).length) := by unfold Hid; rw [HM.out, HE.out]
      go_wp2
      go_ret
      refine ⟨ao, co, congrArg (fun q => Ending.returned (.slice ao q co)) HM2.out, ?_, hb⟩
      rw [← HM2.out, ← HE.out]
      exact hown.out

set_option maxRecDepth 100000 in
set_option maxHeartbeats 8000000 in
theorem howManyCp1 (fk : Nat) (hent : ∀ args w, (callFunc fk args).run Try.prog w = .ok (.enter fk args) w) (v0 : Value) (p : Cp → Bool) (l : List Cp) (al : Option Addr) (cl : Nat) (w : World) (hl : l.length ≤ 1048576) (hL : SlC w al l)
    (hC : ∀ x ∈ l, ∀ W : World, Below w.heap.size w W → Calls Try.prog fk #[.agg #[.string x.service, .int .i64 x.number, .int .i64 x.version, .int .i64 x.image, .int .i64 x.state, .bool x.ending, .string x.berth], v0] W fun e w' => e = .returned (.bool (p x)) ∧ Below W.heap.size W w') :
    Calls Try.prog 81 #[.slice al l.length cl, .func (.func fk) #[] #[v0]] w fun e w' => e = .returned (.int .i64 (l.filter p).length) ∧ Below w.heap.size w w' := by
  have HC : Hid _ := hC
  have HL : Hid (SlC w al l) := hL
  clear hL hC
  go_enter Try.func81, Try.ntmps81
  go_wp2_with fail
  refine (keptCp1 fk hent v0 p l al cl w hl HL.out HC.out).mono ?_
  rintro e w1 ⟨ao, co, rfl, _, hb1⟩
  go_wp2
  go_ret
  exact ⟨rfl, hb1⟩

set_option maxRecDepth 100000 in
set_option maxHeartbeats 8000000 in
theorem keptCp3 (fk : Nat) (hent : ∀ args w, (callFunc fk args).run Try.prog w = .ok (.enter fk args) w) (v0 v1 v2 : Value) (p : Cp → Bool) (l : List Cp) (al : Option Addr) (cl : Nat) (w : World) (hl : l.length ≤ 1048576) (hL : SlC w al l)
    (hC : ∀ x ∈ l, ∀ W : World, Below w.heap.size w W → Calls Try.prog fk #[.agg #[.string x.service, .int .i64 x.number, .int .i64 x.version, .int .i64 x.image, .int .i64 x.state, .bool x.ending, .string x.berth], v0, v1, v2] W fun e w' => e = .returned (.bool (p x)) ∧ Below W.heap.size W w') :
    Calls Try.prog 76 #[.slice al l.length cl, .func (.func fk) #[] #[v0, v1, v2]] w fun e w' => ∃ ao co, e = .returned (.slice ao (l.filter p).length co) ∧ w'.ownsRow w.heap.size 72 7 (.slice ao (l.filter p).length co) (l.filter p).length (cpsV (l.filter p)) ∧ Below w.heap.size w w' := by
  have HL : Hid (SlC w al l) := hL
  have HC : Hid _ := hC
  clear hL hC
  go_enter Try.func76, Try.ntmps76
  go_wp2
  go_loopw [5, 10] (fun ov iv wr => ∃ (k m : Nat) (ao : Option Addr) (co : Nat), k ≤ l.length ∧ iv = .int .i64 k ∧ ov = .slice ao m co ∧ m ≤ k ∧ Hid (m = ((l.take k).filter p).length) ∧ Below w.heap.size w wr ∧ Hid (wr.ownsRow w.heap.size 72 7 (.slice ao m co) m (cpsV ((l.take k).filter p)))) (fun _ i _ => l.length - (intOf i).toNat)
  case atStart => exact ⟨0, 0, none, 0, by omega, rfl, rfl, Nat.le_refl _, rfl, Below.refl _ _, World.ownsRow_nil _ _ _ _⟩
  case round =>
    obtain ⟨k, m, ao, co, hk, rfl, rfl, hmk, HM, hb, hown⟩ := hrel
    have hz := hb.size
    by_cases hlt : k < l.length
    · obtain ⟨x, hx⟩ : ∃ x, l[k]? = some x := ⟨l[k], by simp [hlt]⟩
      have HX : Hid ((l.take (k + 1)).filter p = (l.take k).filter p ++ (if p x then [x] else [])) := by
        unfold Hid
        rw [List.take_add_one, hx, List.filter_append]
        cases hp : (p x) <;> simp [List.filter, hp]
      have hne : l ≠ [] := by intro h; rw [h] at hlt; simp at hlt
      obtain ⟨g, off, ea, hgw, hat⟩ := HL.out hne
      subst ea
      have hat' := (hat k x hx).below hb hgw
      unfold CpAt at hat'
      obtain ⟨c0, c1, c2, c3, c4, c5, c6⟩ := hat'
      have HM0 : x ∈ l := List.mem_of_getElem? hx
      obtain ⟨px, HX1, HC1⟩ : ∃ q : Bool, Hid ((l.take (k + 1)).filter p = (l.take k).filter p ++ (if q then [x] else [])) ∧ Hid (∀ W : World, Below w.heap.size w W → Calls Try.prog fk #[.agg #[.string x.service, .int .i64 x.number, .int .i64 x.version, .int .i64 x.image, .int .i64 x.state, .bool x.ending, .string x.berth], v0, v1, v2] W fun e w' => e = .returned (.bool q) ∧ Below W.heap.size W w') := ⟨_, HX, fun W h => HC.out x HM0 W h⟩
      clear HX hx hat HM0 hne
      have hba := hb.trans ((below_box wr (.cells #[.string x.service, .int .i64 x.number, .int .i64 x.version, .int .i64 x.image, .int .i64 x.state, .bool x.ending, .string x.berth] 72)).mono hz)
      go_wp2_with fail
      refine (HC1.out _ hba).mono ?_
      rintro e w1 ⟨rfl, hb1⟩
      have hown1 : Hid _ := ownV_below (ownV_below hown.out (below_box wr (.cells #[.string x.service, .int .i64 x.number, .int .i64 x.version, .int .i64 x.image, .int .i64 x.state, .bool x.ending, .string x.berth] 72)) (Nat.le_refl _)) hb1 (Nat.le_refl _)
      have T1 : Hid _ := below_blk hb1 (heap_alloc_new wr (.cells #[.string x.service, .int .i64 x.number, .int .i64 x.version, .int .i64 x.image, .int .i64 x.state, .bool x.ending, .string x.berth] 72)) (by simp)
      have hbw1 := hb.trans (((below_box wr (.cells #[.string x.service, .int .i64 x.number, .int .i64 x.version, .int .i64 x.image, .int .i64 x.state, .bool x.ending, .string x.berth] 72)).trans (hb1.mono (by simp))).mono hz)
      have hz1 := hbw1.size
      clear hown hb1 hba c0 c1 c2 c3 c4 c5 c6
      cases px
      · go_wp2
        go_roundw
        case rel => exact ⟨k + 1, m, ao, co, by omega, by go_num, rfl, by omega, by unfold Hid; rw [HX1.out, HM.out]; simp, hbw1, by unfold Hid; rw [HX1.out]; simp only [Bool.false_eq_true, if_false, List.append_nil]; exact hown1.out⟩
        case measure => simp [intOf]; omega
      · go_wp2_with (first
          | (refine wpList_load_row rfl 72 (.tmp 18) rfl wr.heap.size rfl 72 #[.string x.service, .int .i64 x.number, .int .i64 x.version, .int .i64 x.image, .int .i64 x.state, .bool x.ending, .string x.berth] (0, 0) _ T1.out Try.underlying72 rfl Try.infosCpK ?_)
          | (refine wpList_load_row rfl 72 (.tmp 7) rfl wr.heap.size rfl 72 #[.string x.service, .int .i64 x.number, .int .i64 x.version, .int .i64 x.image, .int .i64 x.state, .bool x.ending, .string x.berth] (0, 0) _ T1.out Try.underlying72 rfl Try.infosCpK ?_)
          | (at_builtin; refine wpList_append_mineV rfl (.tmp 17) (.tmp 19) 30 rfl w.heap.size 72 _ 7 72 Try.underlying30 Try.infoCpK rfl (by omega) (.slice ao m co) m _ rfl (ownV_below hown1.out (below_box w1 _) (Nat.le_refl _)) ⟨w1.heap.size, 0, none⟩ 1 (#[.string x.service, .int .i64 x.number, .int .i64 x.version, .int .i64 x.image, .int .i64 x.state, .bool x.ending, .string x.berth] : Array Value).toList rfl rfl (news_row (heap_alloc_new w1 _)) (fun u hu => (Array.all_eq_true_iff_forall_mem.1 (one_CpK x)) u (by simpa using hu)) (by unfold maxLen; omega) (by omega) (by simp; omega) ?_; intro g' cap' w2 hg' hown2 hb2))
        have hbw2 := hbw1.trans (((below_box w1 (.cells #[.string x.service, .int .i64 x.number, .int .i64 x.version, .int .i64 x.image, .int .i64 x.state, .bool x.ending, .string x.berth] 72)).mono hz1).trans hb2)
        go_wp2
        go_roundw
        case rel => exact ⟨k + 1, m + 1, _, _, by omega, by go_num, rfl, by omega, by unfold Hid; rw [HX1.out, HM.out]; simp, hbw2, by unfold Hid; rw [HX1.out]; simp only [if_true, cpsV_add]; exact hown2.out⟩
        case measure => simp [intOf]; omega
    · obtain rfl : k = l.length := by omega
      have HE : Hid ((l.take l.length).filter p = l.filter p) := by unfold Hid; rw [List.take_length]
      have HM2 : Hid (m = (l.filter p).length) := by unfold Hid; rw [HM.out, HE.out]
      go_wp2
      go_ret
      refine ⟨ao, co, congrArg (fun q => Ending.returned (.slice ao q co)) HM2.out, ?_, hb⟩
      rw [← HM2.out, ← HE.out]
      exact hown.out

set_option maxRecDepth 100000 in
set_option maxHeartbeats 8000000 in
theorem howManyCp3 (fk : Nat) (hent : ∀ args w, (callFunc fk args).run Try.prog w = .ok (.enter fk args) w) (v0 v1 v2 : Value) (p : Cp → Bool) (l : List Cp) (al : Option Addr) (cl : Nat) (w : World) (hl : l.length ≤ 1048576) (hL : SlC w al l)
    (hC : ∀ x ∈ l, ∀ W : World, Below w.heap.size w W → Calls Try.prog fk #[.agg #[.string x.service, .int .i64 x.number, .int .i64 x.version, .int .i64 x.image, .int .i64 x.state, .bool x.ending, .string x.berth], v0, v1, v2] W fun e w' => e = .returned (.bool (p x)) ∧ Below W.heap.size W w') :
    Calls Try.prog 81 #[.slice al l.length cl, .func (.func fk) #[] #[v0, v1, v2]] w fun e w' => e = .returned (.int .i64 (l.filter p).length) ∧ Below w.heap.size w w' := by
  have HC : Hid _ := hC
  have HL : Hid (SlC w al l) := hL
  clear hL hC
  go_enter Try.func81, Try.ntmps81
  go_wp2_with fail
  refine (keptCp3 fk hent v0 v1 v2 p l al cl w hl HL.out HC.out).mono ?_
  rintro e w1 ⟨ao, co, rfl, _, hb1⟩
  go_wp2
  go_ret
  exact ⟨rfl, hb1⟩

set_option maxRecDepth 100000 in
set_option maxHeartbeats 8000000 in
theorem keptSvc0 (fk : Nat) (hent : ∀ args w, (callFunc fk args).run Try.prog w = .ok (.enter fk args) w) (p : Svc → Bool) (l : List Svc) (al : Option Addr) (cl : Nat) (w : World) (hl : l.length ≤ 1048576) (hL : SlS w al l)
    (hC : ∀ x ∈ l, ∀ W : World, Below w.heap.size w W → Calls Try.prog fk #[.agg #[.string x.name, .int .i64 x.version, .bool x.gone, .int .i64 x.image, .int .i64 x.want, .int .i64 x.down, .int .i64 x.over, .int .i64 x.next, .int .i64 x.per, .int .i64 x.least, .int .i64 x.most, .int .i64 x.load, .int .i64 x.cool]] W fun e w' => e = .returned (.bool (p x)) ∧ Below W.heap.size W w') :
    Calls Try.prog 104 #[.slice al l.length cl, .func (.func fk) #[] #[]] w fun e w' => ∃ ao co, e = .returned (.slice ao (l.filter p).length co) ∧ w'.ownsRow w.heap.size 57 13 (.slice ao (l.filter p).length co) (l.filter p).length (svcsV (l.filter p)) ∧ Below w.heap.size w w' := by
  have HL : Hid (SlS w al l) := hL
  have HC : Hid _ := hC
  clear hL hC
  go_enter Try.func104, Try.ntmps104
  go_wp2
  go_loopw [5, 10] (fun ov iv wr => ∃ (k m : Nat) (ao : Option Addr) (co : Nat), k ≤ l.length ∧ iv = .int .i64 k ∧ ov = .slice ao m co ∧ m ≤ k ∧ Hid (m = ((l.take k).filter p).length) ∧ Below w.heap.size w wr ∧ Hid (wr.ownsRow w.heap.size 57 13 (.slice ao m co) m (svcsV ((l.take k).filter p)))) (fun _ i _ => l.length - (intOf i).toNat)
  case atStart => exact ⟨0, 0, none, 0, by omega, rfl, rfl, Nat.le_refl _, rfl, Below.refl _ _, World.ownsRow_nil _ _ _ _⟩
  case round =>
    obtain ⟨k, m, ao, co, hk, rfl, rfl, hmk, HM, hb, hown⟩ := hrel
    have hz := hb.size
    by_cases hlt : k < l.length
    · obtain ⟨x, hx⟩ : ∃ x, l[k]? = some x := ⟨l[k], by simp [hlt]⟩
      have HX : Hid ((l.take (k + 1)).filter p = (l.take k).filter p ++ (if p x then [x] else [])) := by
        unfold Hid
        rw [List.take_add_one, hx, List.filter_append]
        cases hp : (p x) <;> simp [List.filter, hp]
      have hne : l ≠ [] := by intro h; rw [h] at hlt; simp at hlt
      obtain ⟨g, off, ea, hgw, hat⟩ := HL.out hne
      subst ea
      have hat' := (hat k x hx).below hb hgw
      unfold SvcAt at hat'
      obtain ⟨c0, c1, c2, c3, c4, c5, c6, c7, c8, c9, c10, c11, c12⟩ := hat'
      have HM0 : x ∈ l := List.mem_of_getElem? hx
      obtain ⟨px, HX1, HC1⟩ : ∃ q : Bool, Hid ((l.take (k + 1)).filter p = (l.take k).filter p ++ (if q then [x] else [])) ∧ Hid (∀ W : World, Below w.heap.size w W → Calls Try.prog fk #[.agg #[.string x.name, .int .i64 x.version, .bool x.gone, .int .i64 x.image, .int .i64 x.want, .int .i64 x.down, .int .i64 x.over, .int .i64 x.next, .int .i64 x.per, .int .i64 x.least, .int .i64 x.most, .int .i64 x.load, .int .i64 x.cool]] W fun e w' => e = .returned (.bool q) ∧ Below W.heap.size W w') := ⟨_, HX, fun W h => HC.out x HM0 W h⟩
      clear HX hx hat HM0 hne
      have hba := hb.trans ((below_box wr (.cells #[.string x.name, .int .i64 x.version, .bool x.gone, .int .i64 x.image, .int .i64 x.want, .int .i64 x.down, .int .i64 x.over, .int .i64 x.next, .int .i64 x.per, .int .i64 x.least, .int .i64 x.most, .int .i64 x.load, .int .i64 x.cool] 57)).mono hz)
      go_wp2_with fail
      refine (HC1.out _ hba).mono ?_
      rintro e w1 ⟨rfl, hb1⟩
      have hown1 : Hid _ := ownV_below (ownV_below hown.out (below_box wr (.cells #[.string x.name, .int .i64 x.version, .bool x.gone, .int .i64 x.image, .int .i64 x.want, .int .i64 x.down, .int .i64 x.over, .int .i64 x.next, .int .i64 x.per, .int .i64 x.least, .int .i64 x.most, .int .i64 x.load, .int .i64 x.cool] 57)) (Nat.le_refl _)) hb1 (Nat.le_refl _)
      have T1 : Hid _ := below_blk hb1 (heap_alloc_new wr (.cells #[.string x.name, .int .i64 x.version, .bool x.gone, .int .i64 x.image, .int .i64 x.want, .int .i64 x.down, .int .i64 x.over, .int .i64 x.next, .int .i64 x.per, .int .i64 x.least, .int .i64 x.most, .int .i64 x.load, .int .i64 x.cool] 57)) (by simp)
      have hbw1 := hb.trans (((below_box wr (.cells #[.string x.name, .int .i64 x.version, .bool x.gone, .int .i64 x.image, .int .i64 x.want, .int .i64 x.down, .int .i64 x.over, .int .i64 x.next, .int .i64 x.per, .int .i64 x.least, .int .i64 x.most, .int .i64 x.load, .int .i64 x.cool] 57)).trans (hb1.mono (by simp))).mono hz)
      have hz1 := hbw1.size
      clear hown hb1 hba c0 c1 c2 c3 c4 c5 c6 c7 c8 c9 c10 c11 c12
      cases px
      · go_wp2
        go_roundw
        case rel => exact ⟨k + 1, m, ao, co, by omega, by go_num, rfl, by omega, by unfold Hid; rw [HX1.out, HM.out]; simp, hbw1, by unfold Hid; rw [HX1.out]; simp only [Bool.false_eq_true, if_false, List.append_nil]; exact hown1.out⟩
        case measure => simp [intOf]; omega
      · go_wp2_with (first
          | (refine wpList_load_row rfl 57 (.tmp 18) rfl wr.heap.size rfl 57 #[.string x.name, .int .i64 x.version, .bool x.gone, .int .i64 x.image, .int .i64 x.want, .int .i64 x.down, .int .i64 x.over, .int .i64 x.next, .int .i64 x.per, .int .i64 x.least, .int .i64 x.most, .int .i64 x.load, .int .i64 x.cool] (0, 0) _ T1.out Try.underlying57 rfl Try.infosSvcK ?_)
          | (refine wpList_load_row rfl 57 (.tmp 7) rfl wr.heap.size rfl 57 #[.string x.name, .int .i64 x.version, .bool x.gone, .int .i64 x.image, .int .i64 x.want, .int .i64 x.down, .int .i64 x.over, .int .i64 x.next, .int .i64 x.per, .int .i64 x.least, .int .i64 x.most, .int .i64 x.load, .int .i64 x.cool] (0, 0) _ T1.out Try.underlying57 rfl Try.infosSvcK ?_)
          | (at_builtin; refine wpList_append_mineV rfl (.tmp 17) (.tmp 19) 29 rfl w.heap.size 57 _ 13 112 Try.underlying29 Try.infoSvcK rfl (by omega) (.slice ao m co) m _ rfl (ownV_below hown1.out (below_box w1 _) (Nat.le_refl _)) ⟨w1.heap.size, 0, none⟩ 1 (#[.string x.name, .int .i64 x.version, .bool x.gone, .int .i64 x.image, .int .i64 x.want, .int .i64 x.down, .int .i64 x.over, .int .i64 x.next, .int .i64 x.per, .int .i64 x.least, .int .i64 x.most, .int .i64 x.load, .int .i64 x.cool] : Array Value).toList rfl rfl (news_row (heap_alloc_new w1 _)) (fun u hu => (Array.all_eq_true_iff_forall_mem.1 (one_SvcK x)) u (by simpa using hu)) (by unfold maxLen; omega) (by omega) (by simp; omega) ?_; intro g' cap' w2 hg' hown2 hb2))
        have hbw2 := hbw1.trans (((below_box w1 (.cells #[.string x.name, .int .i64 x.version, .bool x.gone, .int .i64 x.image, .int .i64 x.want, .int .i64 x.down, .int .i64 x.over, .int .i64 x.next, .int .i64 x.per, .int .i64 x.least, .int .i64 x.most, .int .i64 x.load, .int .i64 x.cool] 57)).mono hz1).trans hb2)
        go_wp2
        go_roundw
        case rel => exact ⟨k + 1, m + 1, _, _, by omega, by go_num, rfl, by omega, by unfold Hid; rw [HX1.out, HM.out]; simp, hbw2, by unfold Hid; rw [HX1.out]; simp only [if_true, svcsV_add]; exact hown2.out⟩
        case measure => simp [intOf]; omega
    · obtain rfl : k = l.length := by omega
      have HE : Hid ((l.take l.length).filter p = l.filter p) := by unfold Hid; rw [List.take_length]
      have HM2 : Hid (m = (l.filter p).length) := by unfold Hid; rw [HM.out, HE.out]
      go_wp2
      go_ret
      refine ⟨ao, co, congrArg (fun q => Ending.returned (.slice ao q co)) HM2.out, ?_, hb⟩
      rw [← HM2.out, ← HE.out]
      exact hown.out

set_option maxRecDepth 100000 in
set_option maxHeartbeats 8000000 in
theorem howManySvc0 (fk : Nat) (hent : ∀ args w, (callFunc fk args).run Try.prog w = .ok (.enter fk args) w) (p : Svc → Bool) (l : List Svc) (al : Option Addr) (cl : Nat) (w : World) (hl : l.length ≤ 1048576) (hL : SlS w al l)
    (hC : ∀ x ∈ l, ∀ W : World, Below w.heap.size w W → Calls Try.prog fk #[.agg #[.string x.name, .int .i64 x.version, .bool x.gone, .int .i64 x.image, .int .i64 x.want, .int .i64 x.down, .int .i64 x.over, .int .i64 x.next, .int .i64 x.per, .int .i64 x.least, .int .i64 x.most, .int .i64 x.load, .int .i64 x.cool]] W fun e w' => e = .returned (.bool (p x)) ∧ Below W.heap.size W w') :
    Calls Try.prog 67 #[.slice al l.length cl, .func (.func fk) #[] #[]] w fun e w' => e = .returned (.int .i64 (l.filter p).length) ∧ Below w.heap.size w w' := by
  have HC : Hid _ := hC
  have HL : Hid (SlS w al l) := hL
  clear hL hC
  go_enter Try.func67, Try.ntmps67
  go_wp2_with fail
  refine (keptSvc0 fk hent  p l al cl w hl HL.out HC.out).mono ?_
  rintro e w1 ⟨ao, co, rfl, _, hb1⟩
  go_wp2
  go_ret
  exact ⟨rfl, hb1⟩

end Go.Proofs.Ytbceafpodamnfab

/-
  My own. What a load asks for; a load that is missed.
-/
namespace Go.Proofs.Ytbceafpodamnfab
open Go.RowKit Go.Sort

def clampV (s : Svc) (d : Int) : Int := if s.most < (if d < s.least then s.least else d) then s.most else if d < s.least then s.least else d
def desV (s : Svc) : Int := clampV s (Int.tdiv (s.load + s.per - 1) s.per)

set_option maxHeartbeats 2000000 in
theorem l5DesiredV_any (s : Svc) (w : World) (h0 : 0 ≤ s.load) (h1 : s.load ≤ 1000000) (h2 : 1 ≤ s.per) (h3 : s.per ≤ 1000000) (_h4 : 0 ≤ s.least) (_h5 : s.least ≤ 10) (_h6 : 0 ≤ s.most) (_h7 : s.most ≤ 10) :
    Calls Try.prog 26 #[.agg #[.string s.name, .int .i64 s.version, .bool s.gone, .int .i64 s.image, .int .i64 s.want, .int .i64 s.down, .int .i64 s.over, .int .i64 s.next, .int .i64 s.per, .int .i64 s.least, .int .i64 s.most, .int .i64 s.load, .int .i64 s.cool]] w fun e w' => e = .returned (.int .i64 (desV s)) ∧ Below w.heap.size w w' := by
  have hd0 : 0 ≤ Int.tdiv (s.load + s.per - 1) s.per := Int.tdiv_nonneg (by omega) (by omega)
  have hd1 : Int.tdiv (s.load + s.per - 1) s.per ≤ s.load + s.per - 1 := Int.tdiv_le_self s.per (by omega)
  have hp0 : ¬ s.per = 0 := by omega
  obtain ⟨d, hd⟩ : ∃ d, Int.tdiv (s.load + s.per - 1) s.per = d := ⟨_, rfl⟩
  have HO : Hid (desV s = clampV s d) := by unfold Hid desV; rw [hd]
  rw [hd] at hd0 hd1
  by_cases hl : d < s.least
  · by_cases hm : s.most < s.least
    · have HE : Hid (clampV s d = s.most) := by unfold Hid clampV; rw [if_pos hl, if_pos hm]
      go_enter Try.func26, Try.ntmps26
      go_wp2
      go_ret
      exact ⟨ret_int (by rw [HO.out, HE.out]), below_box _ _⟩
    · have HE : Hid (clampV s d = s.least) := by unfold Hid clampV; rw [if_pos hl, if_neg hm]
      go_enter Try.func26, Try.ntmps26
      go_wp2
      go_ret
      exact ⟨ret_int (by rw [HO.out, HE.out]), below_box _ _⟩
  · by_cases hm : s.most < d
    · have HE : Hid (clampV s d = s.most) := by unfold Hid clampV; rw [if_neg hl, if_pos hm]
      go_enter Try.func26, Try.ntmps26
      go_wp2
      go_ret
      exact ⟨ret_int (by rw [HO.out, HE.out]), below_box _ _⟩
    · have HE : Hid (clampV s d = d) := by unfold Hid clampV; rw [if_neg hl, if_neg hm]
      go_enter Try.func26, Try.ntmps26
      go_wp2
      go_ret
      exact ⟨ret_int (by rw [HO.out, HE.out]), below_box _ _⟩

set_option maxHeartbeats 2000000 in
theorem dueWantV_any (s : Svc) (w : World) (h0 : 0 ≤ s.load) (h1 : s.load ≤ 1000000) (h2 : 1 ≤ s.per) (h3 : s.per ≤ 1000000) (_h4 : 0 ≤ s.least) (_h5 : s.least ≤ 10) (_h6 : 0 ≤ s.most) (_h7 : s.most ≤ 10) (hlm : s.least ≤ s.most) :
    Calls Try.prog 105 #[.agg #[.string s.name, .int .i64 s.version, .bool s.gone, .int .i64 s.image, .int .i64 s.want, .int .i64 s.down, .int .i64 s.over, .int .i64 s.next, .int .i64 s.per, .int .i64 s.least, .int .i64 s.most, .int .i64 s.load, .int .i64 s.cool]] w fun e w' => e = .returned (.int .i64 (desV s)) ∧ Below w.heap.size w w' := by
  have hq0 : 0 ≤ Int.tdiv (s.load + s.per - 1) s.per := Int.tdiv_nonneg (by omega) (by omega)
  have hq1 : Int.tdiv (s.load + s.per - 1) s.per ≤ s.load + s.per - 1 := Int.tdiv_le_self _ (by omega)
  obtain ⟨d, HD⟩ : ∃ d, Hid (desV s = d) := ⟨_, rfl⟩
  rw [HD.out]
  go_enter Try.func105, Try.ntmps105
  go_wp2
  all_goals
    go_ret
    refine ⟨ret_int ?_, below_box _ _⟩
    rw [← HD.out]
    unfold desV clampV
    generalize Int.tdiv (s.load + s.per - 1) s.per = q at *
    (repeat' split) <;> first | rfl | omega | (exfalso; split at * <;> omega)

structure PerV (s : Svc) : Prop where
  per1 : s.per ≤ 1000000
  load0 : 0 ≤ s.load
  load1 : s.load ≤ 1000000
  least0 : 0 ≤ s.least
  least1 : s.least ≤ 10
  most0 : 0 ≤ s.most
  most1 : s.most ≤ 10

/-- A load that is missed. -/
def missB (s : Svc) : Bool := decide (0 < s.per) && (s.want != desV s || s.cool != 0)
theorem perInV {B : Bk} (h : Valid B) {s : Svc} (hs : s ∈ B.svcs) (hp : s.per ≠ 0) : 0 < s.per ∧ PerV s ∧ s.least ≤ s.most := by
  have h1 := svcB_of h.svcs hs
  unfold svcB perB at h1
  rw [if_neg hp] at h1
  simp only [Bool.and_eq_true, inB_iff] at h1
  obtain ⟨_, ⟨⟨⟨h1, h2⟩, h3⟩, h4⟩, h5⟩ := h1
  exact ⟨by omega, ⟨h1.2, h2.1, h2.2, h3.1, h3.2, by omega, h4.2⟩, by omega⟩

end Go.Proofs.Ytbceafpodamnfab
