import Derived.Test.YtbceafpodamnfaaH00
import Derived.Laws.EntriesVeiled
set_option linter.all false
set_option maxHeartbeats 4000000
namespace Go.Proofs.Ytbceafpodamnfaa
attribute [local simp] svV cpV zbV czV aaV ctZ ad bkV
attribute [local go_sem] svV cpV zbV czV aaV ctZ ad bkV
section
open Go.RowKit
def Bg(a b:Cp):Bool:=Op.bytesLess a.service.toList b.service.toList||(a.service.toList==b.service.toList&&decide (a.number<b.number))
def BT(B:Bk)(k:Nat):Bool:=match B.svcs[k]? with
 |none=>true
 |some s=>KM B.now s&&(k==0||match B.svcs[k - 1]? with|none=>true|some p=>Op.bytesLess p.name.toList s.name.toList)
def Ct(B:Bk)(k:Nat):Bool:=match B.bts[k]? with
 |none=>true
 |some s=>Dh s.name&&(k==0||match B.bts[k - 1]? with|none=>true|some p=>Op.bytesLess p.name.toList s.name.toList)
def BP(B:Bk)(k:Nat):Bool:=match B.cps[k]? with
 |none=>true
 |some s=>cpB B s&&(k==0||match B.cps[k - 1]? with|none=>true|some p=>Bg p s)
def BY(f:Nat->Bool)(n:Nat):Bool:=(List.range n).all f
def Au(B:Bk):Bool:=inB B.now 0 1000000&&decide (B.svcs.length<=8)&&decide (B.cps.length<=200)&&decide (B.bts.length<=6)&&BY (BT B) B.svcs.length&&BY (Ct B) B.bts.length&&BY (BP B) B.cps.length
theorem Cu{f:Nat->Bool}{n:Nat}(h:∀i,i<n->f i=true):BY f n=true:=by
 unfold BY;rw[List.all_eq_true];intro i hi;exact h i (List.mem_range.1 hi)
theorem A0{f:Nat->Bool}{n k:Nat}(hk:k<n)(h:f k=false):BY f n=false:=by
 unfold BY;rw[List.all_eq_false];exact⟨k,List.mem_range.2 hk,by rw[h];simp⟩
theorem BK{f:Nat->Bool}{k:Nat}(h:∀i,i<k->f i=true)(hk:f k=true):∀i,i<k+1->f i=true:=λi hi=>by
 rcases Nat.lt_or_ge i k with h'|h'
 ·exact h i h'
 ·rw[show i=k by omega];exact hk
end
section
open Go.RowKit Go.Sort
theorem EH(a b:Cp)(w:World):
  Calls Try.prog 33 #[.agg (cpV a),.agg (cpV b)] w λe w'=>e=.returned (.bool (Bg a b))/\Below w.heap.size w w':=by
 have hfin:Below w.heap.size w ((w.alloc (.cells (cpV a) 35)).alloc (.cells (cpV b) 35)):=((Below.refl _ _).alloc (AG _) _).alloc (by simp) _;cases h1:Op.bytesLess a.service.toList b.service.toList
 ·cases h2:(a.service.toList==b.service.toList)
  ·go_enter Try.func33,Try.ntmps33
   go_wp2;go_ret;exact⟨AS (by simp[Bg,h1,h2]),hfin⟩
  ·go_enter Try.func33,Try.ntmps33
   go_wp2;go_ret;exact⟨AS (by simp[Bg,h1,h2]),hfin⟩
 ·go_enter Try.func33,Try.ntmps33
  go_wp2;go_ret;exact⟨AS (by simp[Bg,h1]),hfin⟩
theorem DG(s:ByteArray)(w:World)(hs:s.size<=maxLen):
  Calls Try.prog 31 #[.string s] w λe w'=>e=.returned (.bool (Dh s))/\Below w.heap.size w w':=
 (Hj s w hs).mono λe w' ⟨he,hw⟩=>⟨he,by rw[hw];exact Below.refl _ _⟩
theorem Az(B:Bk)(a1 a2 a3:Option Addr)(c1 c2 c3:Nat)(w:World)(hS:B.small)(hZ:B.sized)(hB:BkAt w a1 a2 a3 B):
  Calls Try.prog 13 #[.agg (bkV B a1 c1 a2 c2 a3 c3)] w λe w'=>e=.returned (.bool (Au B))/\Below w.heap.size w w':=by
 obtain⟨hl1,hl2,hl3⟩:=hS;have hbx:=AO w (.cells (bkV B a1 c1 a2 c2 a3 c3) 27);have hbox:Hid _:=heap_alloc_new w (.cells (bkV B a1 c1 a2 c2 a3 c3) 27);cases h0:inB B.now 0 1000000
 ·go_enter Try.func13,Try.ntmps13
  go_wp2_with (go_at_call 29;refine(B5 _ _ _ _).mono ?_;rintro e w' ⟨rfl,rfl⟩)
  go_ret;exact⟨AS (by simp[Au,h0]),hbx⟩
 by_cases hs1:8<(B.svcs.length:Int)
 ·go_enter Try.func13,Try.ntmps13
  go_wp2_with (go_at_call 29;refine(B5 _ _ _ _).mono ?_;rintro e w' ⟨rfl,rfl⟩)
  go_ret;exact⟨AS (by have:¬B.svcs.length<=8:=(by omega);simp[Au,this]),hbx⟩
 by_cases hs2:200<(B.cps.length:Int)
 ·go_enter Try.func13,Try.ntmps13
  go_wp2_with (go_at_call 29;refine(B5 _ _ _ _).mono ?_;rintro e w' ⟨rfl,rfl⟩)
  go_ret;exact⟨AS (by have:¬B.cps.length<=200:=(by omega);simp[Au,this]),hbx⟩
 by_cases hs3:6<(B.bts.length:Int)
 ·go_enter Try.func13,Try.ntmps13
  go_wp2_with (go_at_call 29;refine(B5 _ _ _ _).mono ?_;rintro e w' ⟨rfl,rfl⟩)
  go_ret;exact⟨AS (by have:¬B.bts.length<=6:=(by omega);simp[Au,this]),hbx⟩
 have HV:Hid (Au B=(BY (BT B) B.svcs.length&&BY (Ct B) B.bts.length&&BY (BP B) B.cps.length)):=by
  have q1:B.svcs.length<=8:=by omega
  have q2:B.cps.length<=200:=by omega
  have q3:B.bts.length<=6:=by omega
  unfold Hid;simp[Au,h0,q1,q2,q3]
 go_enter Try.func13,Try.ntmps13
 go_wp2_with (go_at_call 29;refine(B5 _ _ _ _).mono ?_;rintro e w' ⟨rfl,rfl⟩)
 clear h0
 go_loopw [3] (λiv wr=>∃k:Nat,k<=B.svcs.length/\iv=.int .i64 k/\Below w.heap.size w wr/\Hid (Bl wr (w.heap.size) (bkV B a1 c1 a2 c2 a3 c3) 27)/\Hid (∀i,i<k->BT B i=true)) (λi _=>B.svcs.length - (intOf i).toNat)
 case atStart=>exact⟨0,by omega,rfl,hbx,hbox,λi hi=>absurd hi (by omega)⟩
 case round=>
  obtain⟨k,hk,rfl,hb,hbox1,hall⟩:=hrel;have hNlt:w.heap.size<wr.heap.size:=(AB hbox1.out).1;obtain⟨e0,e1,e2,e3⟩:=c4 hbox1.out
  by_cases hlt:k<B.svcs.length
  ·have hne:B.svcs≠[]:=by intro h;rw[h]at hlt;simp at hlt
   obtain⟨b,off,ea,hbs,hat⟩:=hB.1 hne;subst ea;obtain⟨s,hsk⟩:∃s,B.svcs[k]?=some s:=⟨B.svcs[k],by simp[hlt]⟩;have hmem:=hZ.2.2.2.1 s (AE hsk);obtain⟨x0,x1,x2,x3,x4,x5,x6,x7,x8,x9,x10,x11,x12⟩:=((hat k s hsk).below hb hbs).grown;have g0:=Al hbox1.out 0 rfl;have g1:=Al hbox1.out 1 rfl;have g2:=Al hbox1.out 2 rfl;have g3:=Al hbox1.out 3 rfl;have hBr:=hB.below hb;cases hok:KM B.now s
   ·have HNO:Hid (BT B k=false):=by unfold Hid BT;rw[hsk];simp[hok]
    clear hsk hat hne;go_wp2;refine wp_region_quiet_below (by kernel_rfl) (by kernel_rfl) ?_
    repeat (first|go_big_quiet_step (exact Calls.regrown_of (Bw s B.now _ hmem))|quiet_step (exact Calls.regrown_of (Bw s B.now _ hmem)))
    refine wpQuiet_nil ?_;intro w2 hw';obtain⟨⟨dq,osq⟩,hw''⟩:=hw';have hb2:Below wr.heap.size wr w2:=by rw[hw''];exact below_regrown _ _ _
    clear hw'';go_wp2;go_ret;exact⟨AS (by simp[Au,A0 hlt HNO.out]),hb.trans (hb2.mono hb.size)⟩
   by_cases hk0:k=0
   ·have HYES:Hid (BT B k=true):=by unfold Hid BT;rw[hsk];simp[hok,hk0]
    have hz:decide (0<k)=false:=by simp;omega
    clear hsk hat hne hk0;go_wp2;refine wp_region_quiet_below (by kernel_rfl) (by kernel_rfl) ?_
    repeat (first|go_big_quiet_step (exact Calls.regrown_of (Bw s B.now _ hmem))|quiet_step (exact Calls.regrown_of (Bw s B.now _ hmem)))
    refine wpQuiet_nil ?_;intro w2 hw';obtain⟨⟨dq,osq⟩,hw''⟩:=hw';have hb2:Below wr.heap.size wr w2:=by rw[hw''];exact below_regrown _ _ _
    clear hw'';have hbox2:Hid _:=AL hb2 hbox1.out hNlt;have hb3:=hb.trans (hb2.mono hb.size);clear g0 g1 g2 g3 x0 x1 x2 x3 x4 x5 x6 x7 x8 x9 x10 x11 x12 e0 e1 e2 e3;go_wp2
    go_roundw
    case rel=>exact⟨k+1,by omega,by go_num,hb3,hbox2,BK hall.out HYES.out⟩
    case measure=>simp[intOf];omega
   obtain⟨k',rfl⟩:∃k',k=k'+1:=⟨k - 1,by omega⟩;clear hk0;obtain⟨p,hpk⟩:∃p,B.svcs[k']?=some p:=⟨B.svcs[k']'(by omega),by rw[List.getElem?_eq_getElem]⟩;obtain⟨y0,y1,y2,y3,y4,y5,y6,y7,y8,y9,y10,y11,y12⟩:=((hat k' p hpk).below hb hbs).grown;cases hle:Op.bytesLess p.name.toList s.name.toList
   ·have HNO:Hid (BT B (k'+1)=false):=by unfold Hid BT;rw[hsk];simp[hok,hpk,hle]
    clear hsk hat hne hpk;go_wp2;refine wp_region_quiet_below (by kernel_rfl) (by kernel_rfl) ?_
    repeat (first|go_big_quiet_step (exact Calls.regrown_of (Bw s B.now _ hmem))|quiet_step (exact Calls.regrown_of (Bw s B.now _ hmem)))
    refine wpQuiet_nil ?_;intro w2 hw';obtain⟨⟨dq,osq⟩,hw''⟩:=hw';have hb2:Below wr.heap.size wr w2:=by rw[hw''];exact below_regrown _ _ _
    clear hw'';go_wp2;go_ret;exact⟨AS (by simp[Au,A0 hlt HNO.out]),hb.trans (hb2.mono hb.size)⟩
   ·have HYES:Hid (BT B (k'+1)=true):=by unfold Hid BT;rw[hsk];simp[hok,hpk,hle]
    clear hsk hat hne hpk;go_wp2;refine wp_region_quiet_below (by kernel_rfl) (by kernel_rfl) ?_
    repeat (first|go_big_quiet_step (exact Calls.regrown_of (Bw s B.now _ hmem))|quiet_step (exact Calls.regrown_of (Bw s B.now _ hmem)))
    refine wpQuiet_nil ?_;intro w2 hw';obtain⟨⟨dq,osq⟩,hw''⟩:=hw';have hb2:Below wr.heap.size wr w2:=by rw[hw''];exact below_regrown _ _ _
    clear hw'';have hbox2:Hid _:=AL hb2 hbox1.out hNlt;have hb3:=hb.trans (hb2.mono hb.size);clear g0 g1 g2 g3 x0 x1 x2 x3 x4 x5 x6 x7 x8 x9 x10 x11 x12 y0 y1 y2 y3 y4 y5 y6 y7 y8 y9 y10 y11 y12 e0 e1 e2 e3;go_wp2
    go_roundw
    case rel=>exact⟨k'+1+1,by omega,by go_num,hb3,hbox2,BK hall.out HYES.out⟩
    case measure=>simp[intOf];omega
  ·have HALLsvcs:Hid (BY (BT B) B.svcs.length=true):=Cu λi hi=>hall.out i (by omega)
   clear hall;go_wp2
   go_loopw [4] (λiv wr=>∃k:Nat,k<=B.bts.length/\iv=.int .i64 k/\Below w.heap.size w wr/\Hid (Bl wr (w.heap.size) (bkV B a1 c1 a2 c2 a3 c3) 27)/\Hid (∀i,i<k->Ct B i=true)) (λi _=>B.bts.length - (intOf i).toNat)
   case atStart=>exact⟨0,by omega,rfl,hb,hbox1,λi hi=>absurd hi (by omega)⟩
   case round=>
    obtain⟨k,hk,rfl,hb,hbox1,hall⟩:=hrel;have hNlt:w.heap.size<wr.heap.size:=(AB hbox1.out).1;obtain⟨e0,e1,e2,e3⟩:=c4 hbox1.out
    by_cases hlt:k<B.bts.length
    ·have hne:B.bts≠[]:=by intro h;rw[h]at hlt;simp at hlt
     obtain⟨b,off,ea,hbs,hat⟩:=hB.2.2 hne;subst ea;obtain⟨s,hsk⟩:∃s,B.bts[k]?=some s:=⟨B.bts[k],by simp[hlt]⟩;have hmem:=hZ.2.2.2.2.2 s (AE hsk);obtain⟨x0,x1⟩:=((hat k s hsk).below hb hbs).grown;have g0:=Al hbox1.out 0 rfl;have g1:=Al hbox1.out 1 rfl;have g2:=Al hbox1.out 2 rfl;have g3:=Al hbox1.out 3 rfl;have hBr:=hB.below hb;cases hok:Dh s.name
     ·have HNO:Hid (Ct B k=false):=by unfold Hid Ct;rw[hsk];simp[hok]
      clear hsk hat hne;go_wp2;refine wp_region_quiet_below (by kernel_rfl) (by kernel_rfl) ?_
      repeat (first|go_big_quiet_step (exact Calls.regrown_of (DG s.name _ hmem))|quiet_step (exact Calls.regrown_of (DG s.name _ hmem)))
      refine wpQuiet_nil ?_;intro w2 hw';obtain⟨⟨dq,osq⟩,hw''⟩:=hw';have hb2:Below wr.heap.size wr w2:=by rw[hw''];exact below_regrown _ _ _
      clear hw'';go_wp2;go_ret;exact⟨AS (by simp[Au,A0 hlt HNO.out]),hb.trans (hb2.mono hb.size)⟩
     by_cases hk0:k=0
     ·have HYES:Hid (Ct B k=true):=by unfold Hid Ct;rw[hsk];simp[hok,hk0]
      have hz:decide (0<k)=false:=by simp;omega
      clear hsk hat hne hk0;go_wp2;refine wp_region_quiet_below (by kernel_rfl) (by kernel_rfl) ?_
      repeat (first|go_big_quiet_step (exact Calls.regrown_of (DG s.name _ hmem))|quiet_step (exact Calls.regrown_of (DG s.name _ hmem)))
      refine wpQuiet_nil ?_;intro w2 hw';obtain⟨⟨dq,osq⟩,hw''⟩:=hw';have hb2:Below wr.heap.size wr w2:=by rw[hw''];exact below_regrown _ _ _
      clear hw'';have hbox2:Hid _:=AL hb2 hbox1.out hNlt;have hb3:=hb.trans (hb2.mono hb.size);clear g0 g1 g2 g3 x0 x1 e0 e1 e2 e3;go_wp2
      go_roundw
      case rel=>exact⟨k+1,by omega,by go_num,hb3,hbox2,BK hall.out HYES.out⟩
      case measure=>simp[intOf];omega
     obtain⟨k',rfl⟩:∃k',k=k'+1:=⟨k - 1,by omega⟩;clear hk0;obtain⟨p,hpk⟩:∃p,B.bts[k']?=some p:=⟨B.bts[k']'(by omega),by rw[List.getElem?_eq_getElem]⟩;obtain⟨y0,y1⟩:=((hat k' p hpk).below hb hbs).grown;cases hle:Op.bytesLess p.name.toList s.name.toList
     ·have HNO:Hid (Ct B (k'+1)=false):=by unfold Hid Ct;rw[hsk];simp[hok,hpk,hle]
      clear hsk hat hne hpk;go_wp2;refine wp_region_quiet_below (by kernel_rfl) (by kernel_rfl) ?_
      repeat (first|go_big_quiet_step (exact Calls.regrown_of (DG s.name _ hmem))|quiet_step (exact Calls.regrown_of (DG s.name _ hmem)))
      refine wpQuiet_nil ?_;intro w2 hw';obtain⟨⟨dq,osq⟩,hw''⟩:=hw';have hb2:Below wr.heap.size wr w2:=by rw[hw''];exact below_regrown _ _ _
      clear hw'';go_wp2;go_ret;exact⟨AS (by simp[Au,A0 hlt HNO.out]),hb.trans (hb2.mono hb.size)⟩
     ·have HYES:Hid (Ct B (k'+1)=true):=by unfold Hid Ct;rw[hsk];simp[hok,hpk,hle]
      clear hsk hat hne hpk;go_wp2;refine wp_region_quiet_below (by kernel_rfl) (by kernel_rfl) ?_
      repeat (first|go_big_quiet_step (exact Calls.regrown_of (DG s.name _ hmem))|quiet_step (exact Calls.regrown_of (DG s.name _ hmem)))
      refine wpQuiet_nil ?_;intro w2 hw';obtain⟨⟨dq,osq⟩,hw''⟩:=hw';have hb2:Below wr.heap.size wr w2:=by rw[hw''];exact below_regrown _ _ _
      clear hw'';have hbox2:Hid _:=AL hb2 hbox1.out hNlt;have hb3:=hb.trans (hb2.mono hb.size);clear g0 g1 g2 g3 x0 x1 y0 y1 e0 e1 e2 e3;go_wp2
      go_roundw
      case rel=>exact⟨k'+1+1,by omega,by go_num,hb3,hbox2,BK hall.out HYES.out⟩
      case measure=>simp[intOf];omega
    ·have HALLbts:Hid (BY (Ct B) B.bts.length=true):=Cu λi hi=>hall.out i (by omega)
     clear hall;go_wp2
     go_loopw [5] (λiv wr=>∃k:Nat,k<=B.cps.length/\iv=.int .i64 k/\Below w.heap.size w wr/\Hid (Bl wr (w.heap.size) (bkV B a1 c1 a2 c2 a3 c3) 27)/\Hid (∀i,i<k->BP B i=true)) (λi _=>B.cps.length - (intOf i).toNat)
     case atStart=>exact⟨0,by omega,rfl,hb,hbox1,λi hi=>absurd hi (by omega)⟩
     case round=>
      obtain⟨k,hk,rfl,hb,hbox1,hall⟩:=hrel;have hNlt:w.heap.size<wr.heap.size:=(AB hbox1.out).1;obtain⟨e0,e1,e2,e3⟩:=c4 hbox1.out
      by_cases hlt:k<B.cps.length
      ·have hne:B.cps≠[]:=by intro h;rw[h]at hlt;simp at hlt
       obtain⟨b,off,ea,hbs,hat⟩:=hB.2.1 hne;subst ea;obtain⟨s,hsk⟩:∃s,B.cps[k]?=some s:=⟨B.cps[k],by simp[hlt]⟩
       skip
       obtain⟨x0,x1,x2,x3,x4,x5,x6⟩:=((hat k s hsk).below hb hbs).grown;have g0:=Al hbox1.out 0 rfl;have g1:=Al hbox1.out 1 rfl;have g2:=Al hbox1.out 2 rfl;have g3:=Al hbox1.out 3 rfl;have hBr:=hB.below hb;cases hok:cpB B s
       ·have HNO:Hid (BP B k=false):=by unfold Hid BP;rw[hsk];simp[hok]
        clear hsk hat hne;go_wp2;refine wp_region_quiet_below (by kernel_rfl) (by kernel_rfl) ?_
        repeat (first|go_big_quiet_step (exact Calls.regrown_of (CU B s a1 _ a3 c1 c2 c3 _ ⟨hl1,hl2,hl3⟩ (hBr.grown _ _)))|quiet_step (exact Calls.regrown_of (CU B s a1 _ a3 c1 c2 c3 _ ⟨hl1,hl2,hl3⟩ (hBr.grown _ _))))
        refine wpQuiet_nil ?_;intro w2 hw';obtain⟨⟨dq,osq⟩,hw''⟩:=hw';have hb2:Below wr.heap.size wr w2:=by rw[hw''];exact below_regrown _ _ _
        clear hw'';go_wp2;go_ret;exact⟨AS (by simp[Au,A0 hlt HNO.out]),hb.trans (hb2.mono hb.size)⟩
       by_cases hk0:k=0
       ·have HYES:Hid (BP B k=true):=by unfold Hid BP;rw[hsk];simp[hok,hk0]
        have hz:decide (0<k)=false:=by simp;omega
        clear hsk hat hne hk0;go_wp2;refine wp_region_quiet_below (by kernel_rfl) (by kernel_rfl) ?_
        repeat (first|go_big_quiet_step (exact Calls.regrown_of (CU B s a1 _ a3 c1 c2 c3 _ ⟨hl1,hl2,hl3⟩ (hBr.grown _ _)))|quiet_step (exact Calls.regrown_of (CU B s a1 _ a3 c1 c2 c3 _ ⟨hl1,hl2,hl3⟩ (hBr.grown _ _))))
        refine wpQuiet_nil ?_;intro w2 hw';obtain⟨⟨dq,osq⟩,hw''⟩:=hw';have hb2:Below wr.heap.size wr w2:=by rw[hw''];exact below_regrown _ _ _
        clear hw'';have hbox2:Hid _:=AL hb2 hbox1.out hNlt;have hb3:=hb.trans (hb2.mono hb.size);clear g0 g1 g2 g3 x0 x1 x2 x3 x4 x5 x6 e0 e1 e2 e3;go_wp2
        go_roundw
        case rel=>exact⟨k+1,by omega,by go_num,hb3,hbox2,BK hall.out HYES.out⟩
        case measure=>simp[intOf];omega
       obtain⟨k',rfl⟩:∃k',k=k'+1:=⟨k - 1,by omega⟩;clear hk0;obtain⟨p,hpk⟩:∃p,B.cps[k']?=some p:=⟨B.cps[k']'(by omega),by rw[List.getElem?_eq_getElem]⟩;obtain⟨y0,y1,y2,y3,y4,y5,y6⟩:=((hat k' p hpk).below hb hbs).grown;cases hle:Bg p s
       ·have HNO:Hid (BP B (k'+1)=false):=by unfold Hid BP;rw[hsk];simp[hok,hpk,hle]
        clear hsk hat hne hpk;go_wp2;refine wp_region_quiet_below (by kernel_rfl) (by kernel_rfl) ?_
        repeat (first|go_big_quiet_step (first|exact Calls.regrown_of (CU B s a1 _ a3 c1 c2 c3 _ ⟨hl1,hl2,hl3⟩ (hBr.grown _ _))|exact Calls.regrown_of (EH p s _))|quiet_step (first|exact Calls.regrown_of (CU B s a1 _ a3 c1 c2 c3 _ ⟨hl1,hl2,hl3⟩ (hBr.grown _ _))|exact Calls.regrown_of (EH p s _)))
        refine wpQuiet_nil ?_;intro w2 hw';obtain⟨⟨dq,osq⟩,hw''⟩:=hw';have hb2:Below wr.heap.size wr w2:=by rw[hw''];exact below_regrown _ _ _
        clear hw'';go_wp2;go_ret;exact⟨AS (by simp[Au,A0 hlt HNO.out]),hb.trans (hb2.mono hb.size)⟩
       ·have HYES:Hid (BP B (k'+1)=true):=by unfold Hid BP;rw[hsk];simp[hok,hpk,hle]
        clear hsk hat hne hpk;go_wp2;refine wp_region_quiet_below (by kernel_rfl) (by kernel_rfl) ?_
        repeat (first|go_big_quiet_step (first|exact Calls.regrown_of (CU B s a1 _ a3 c1 c2 c3 _ ⟨hl1,hl2,hl3⟩ (hBr.grown _ _))|exact Calls.regrown_of (EH p s _))|quiet_step (first|exact Calls.regrown_of (CU B s a1 _ a3 c1 c2 c3 _ ⟨hl1,hl2,hl3⟩ (hBr.grown _ _))|exact Calls.regrown_of (EH p s _)))
        refine wpQuiet_nil ?_;intro w2 hw';obtain⟨⟨dq,osq⟩,hw''⟩:=hw';have hb2:Below wr.heap.size wr w2:=by rw[hw''];exact below_regrown _ _ _
        clear hw'';have hbox2:Hid _:=AL hb2 hbox1.out hNlt;have hb3:=hb.trans (hb2.mono hb.size);clear g0 g1 g2 g3 x0 x1 x2 x3 x4 x5 x6 y0 y1 y2 y3 y4 y5 y6 e0 e1 e2 e3;go_wp2
        go_roundw
        case rel=>exact⟨k'+1+1,by omega,by go_num,hb3,hbox2,BK hall.out HYES.out⟩
        case measure=>simp[intOf];omega
      ·have HALLcps:Hid (BY (BP B) B.cps.length=true):=Cu λi hi=>hall.out i (by omega)
       clear hall;go_wp2;go_ret;exact⟨AS (by rw[HV.out,HALLsvcs.out,HALLbts.out,HALLcps.out];rfl),hb⟩
end
section
open Go.RowKit
def MB(s:Svc):Bool:=inB s.image 1 1000000&&inB s.next 1 1000000&&inB s.want 0 10
def GC(s:Svc):Bool:=inB s.down 0 10&&inB s.over 0 10&&(s.down !=0||s.over !=0)
def FE(s:Svc):Bool:=inB s.per 0 1000000&&inB s.load 0 1000000&&inB s.least 0 10&&inB s.most 0 10&&decide (s.least<=s.most)&&inB s.cool 0 3
def GA(s:Svc):Bool:=s.per !=0||(s.least==0&&s.most==0&&s.load==0&&s.cool==0)
theorem Dv(now:Int)(s:Svc):KM now s=(inB s.version 1 now&&(Dh s.name&&MB s&&GC s&&FE s&&GA s)):=by
 unfold KM;generalize Dh s.name=n;cases n
 ·simp
 ·rw[Bool.eq_iff_iff]
  by_cases hp:s.per=0
  ·simp[Od,MB,GC,FE,GA,inB,hp]
   omega
  ·simp only[Od,MB,GC,FE,GA,inB,Bool.and_eq_true,Bool.or_eq_true,decide_eq_true_eq,Bool.not_eq_true',beq_eq_false_iff_ne,bne_iff_ne,beq_iff_eq,ne_eq,true_and,if_neg hp]
   omega
theorem CO:∀l:List UInt8,Op.bytesLess l l=false
 |[]=>rfl
 |a::x=>by simp[Op.bytesLess,CO x]
theorem C4:∀a b:List UInt8,(Op.bytesLess a b||a==b)=!(Op.bytesLess b a)
 |[],[]=>by simp[Op.bytesLess]
 |[],_::_=>by simp[Op.bytesLess]
 |_::_,[]=>by simp[Op.bytesLess]
 |a::x,b::y=>by
  have ih:=C4 x y;simp only[Op.bytesLess];rcases Nat.lt_trichotomy a.toNat b.toNat with h|h|h
  ·have h1:a<b:=UInt8.lt_iff_toNat_lt.2 h
   have h2:¬b<a:=λh'=>by have:=UInt8.lt_iff_toNat_lt.1 h';omega
   have h3:(b==a)=false:=by rw[beq_eq_false_iff_ne];intro e;rw[e]at h;omega
   simp[h1,h2,h3]
  ·have e:a=b:=UInt8.toNat_inj.1 h
   subst e;have h2:¬a<a:=λh'=>by have:=UInt8.lt_iff_toNat_lt.1 h';omega
   simp[h2]at ih ⊢;exact ih
  ·have h1:b<a:=UInt8.lt_iff_toNat_lt.2 h
   have h2:¬a<b:=λh'=>by have:=UInt8.lt_iff_toNat_lt.1 h';omega
   have h3:(a==b)=false:=by rw[beq_eq_false_iff_ne];intro e;rw[e]at h;omega
   simp[h1,h2,h3]
theorem DZ:∀a b c:List UInt8,Op.bytesLess a b=true->Op.bytesLess b c=true->Op.bytesLess a c=true
 |_,[],_,h,_=>by simp[Op.bytesLess]at h
 |_,_::_,[],_,h=>by simp[Op.bytesLess]at h
 |[],_::_,_::_,_,_=>by simp[Op.bytesLess]
 |a::x,b::y,c::z,h,k=>by
  simp only[Op.bytesLess,Bool.or_eq_true,Bool.and_eq_true,decide_eq_true_eq,beq_iff_eq,UInt8.lt_iff_toNat_lt]at *;rcases h with h|⟨rfl,h⟩
  ·rcases k with k|⟨rfl,k⟩
   ·exact Or.inl (by omega)
   ·exact Or.inl h
  ·rcases k with k|⟨rfl,k⟩
   ·exact Or.inl k
   ·exact Or.inr ⟨rfl,DZ x y z h k⟩
end
section
open Go.RowKit Go.Sort
theorem FS(s:Svc)(w:World)(hs:s.name.size<=maxLen):
  Calls Try.prog 63 #[.agg (svV s)] w λe w'=>e=.returned (.bool (Dh s.name))/\Below w.heap.size w w':=by
 go_enter Try.func63,Try.ntmps63
 go_wp2_with (first|(go_at_call 69;refine(Ei _ _ hs).mono ?_;rintro e w' ⟨rfl,rfl⟩))
 all_goals
  go_ret;exact⟨AS rfl,AO _ _⟩
theorem Fz(s:Svc)(w:World):
  Calls Try.prog 64 #[.agg (svV s)] w λe w'=>e=.returned (.bool (MB s))/\Below w.heap.size w w':=by
 go_enter Try.func64,Try.ntmps64
 go_wp2_with (first|(go_at_call 62;refine(B6 _ _ _ _).mono ?_;rintro e w' ⟨rfl,rfl⟩))
 all_goals
  go_ret;exact⟨AS (by simp[MB, *]),AO _ _⟩
theorem GB(s:Svc)(w:World):
  Calls Try.prog 65 #[.agg (svV s)] w λe w'=>e=.returned (.bool (GC s))/\Below w.heap.size w w':=by
 go_enter Try.func65,Try.ntmps65
 go_wp2_with (first|(go_at_call 62;refine(B6 _ _ _ _).mono ?_;rintro e w' ⟨rfl,rfl⟩))
 all_goals
  go_ret;exact⟨AS (by simp[GC, *]<;>(intro _;rfl)),AO _ _⟩
theorem F0(s:Svc)(w:World):
  Calls Try.prog 66 #[.agg (svV s)] w λe w'=>e=.returned (.bool (FE s))/\Below w.heap.size w w':=by
 go_enter Try.func66,Try.ntmps66
 go_wp2_with (first|(go_at_call 62;refine(B6 _ _ _ _).mono ?_;rintro e w' ⟨rfl,rfl⟩))
 all_goals
  go_ret;exact⟨AS (by simp[FE, *]<;>(intro h;exfalso;omega)),AO _ _⟩
theorem EP(s:Svc)(w:World):
  Calls Try.prog 67 #[.agg (svV s)] w λe w'=>e=.returned (.bool (GA s))/\Below w.heap.size w w':=by
 go_enter Try.func67,Try.ntmps67;go_wp2
 all_goals
  go_ret;exact⟨AS (by simp[GA, *]),AO _ _⟩
theorem Hd(B:Bk)(a1 a2 a3:Option Addr)(c1 c2 c3:Nat)(w:World):
  Calls Try.prog 41 #[.agg (bkV B a1 c1 a2 c2 a3 c3)] w λe w'=>e=.returned (.bool (inB B.now 0 1000000))/\Below w.heap.size w w':=by
 go_enter Try.func41,Try.ntmps41
 go_wp2_with (go_at_call 62;refine(B6 _ _ _ _).mono ?_;rintro e w' ⟨rfl,rfl⟩)
 go_ret;exact⟨rfl,AO _ _⟩
theorem Gf(B:Bk)(a1 a2 a3:Option Addr)(c1 c2 c3:Nat)(w:World)(hS:B.small):
  Calls Try.prog 42 #[.agg (bkV B a1 c1 a2 c2 a3 c3)] w λe w'=>e=.returned (.bool (decide (B.svcs.length<=8)&&decide (B.cps.length<=200)&&decide (B.bts.length<=6)))/\Below w.heap.size w w':=by
 obtain⟨hl1,hl2,hl3⟩:=hS;go_enter Try.func42,Try.ntmps42;go_wp2
 all_goals
  go_ret;exact⟨AS (by rw[Bool.eq_iff_iff];simp;try omega),AO _ _⟩
theorem CM(a b:Cp)(w:World):
  Calls Try.prog 70 #[.agg (cpV a),.agg (cpV b)] w λe w'=>e=.returned (.bool (Bg a b))/\Below w.heap.size w w':=by
 have hfin:Below w.heap.size w ((w.alloc (.cells (cpV a) 35)).alloc (.cells (cpV b) 35)):=((Below.refl _ _).alloc (AG _) _).alloc (by simp) _;cases h2:(a.service.toList==b.service.toList)
 ·go_enter Try.func70,Try.ntmps70
  go_wp2;go_ret;exact⟨AS (by simp[Bg,h2]),hfin⟩
 ·have hirr:Hid (Op.bytesLess a.service.toList b.service.toList=false):=by
   unfold Hid;rw[eq_of_beq h2];exact CO _
  go_enter Try.func70,Try.ntmps70;go_wp2;go_ret;exact⟨AS (by simp[Bg,h2,hirr.out]),hfin⟩
theorem Ba(c:Cp)(s:Svc)(now:Int)(w:World):
  Calls Try.prog 71 #[.agg (cpV c),.agg (svV s),.int .i64 now] w λe w'=>e=.returned (.bool (GM now s c))/\Below w.heap.size w w':=by
 have hfin:Below w.heap.size w ((w.alloc (.cells (cpV c) 35)).alloc (.cells (svV s) 63)):=((Below.refl _ _).alloc (AG _) _).alloc (by simp) _;go_enter Try.func71,Try.ntmps71
 go_wp2_with (go_at_call 62;refine(B6 _ _ _ _).mono ?_;rintro e w' ⟨rfl,rfl⟩)
 all_goals
  go_ret;exact⟨AS (by simp[GM, *]),hfin⟩
def Gb(s:Svc):Nat->Bool
 |0=>Dh s.name
 |1=>MB s
 |2=>GC s
 |3=>FE s
 |_=>GA s
theorem G9(s:Svc):BY (Gb s) 5=(Dh s.name&&MB s&&GC s&&FE s&&GA s):=by
 simp[BY,List.range,List.range.loop,Gb,Bool.and_assoc]
def Mq(w:World)(b:Nat):Prop:=w.heap[b]?=some (.cells #[.func (.func 63) #[] #[],.func (.func 64) #[] #[],.func (.func 65) #[] #[],.func (.func 66) #[] #[],.func (.func 67) #[] #[]] 110 (0,0))
theorem EX(s:Svc)(b:Nat)(w:World)(hs:s.name.size<=maxLen)(hF:Mq w b):
  Calls Try.prog 68 #[.agg #[.string s.name,.int .i64 s.version,.bool s.gone,.int .i64 s.image,.int .i64 s.want,.int .i64 s.down,.int .i64 s.over,.int .i64 s.next,.int .i64 s.per,.int .i64 s.least,.int .i64 s.most,.int .i64 s.load,.int .i64 s.cool],.slice (some ⟨b,0,none⟩) 5 5] w λe w'=>e=.returned (.bool (BY (Gb s) 5))/\Below w.heap.size w w':=by
 have hbx:=AO w (.cells (svV s) 63);have hbox:Hid _:=heap_alloc_new w (.cells (svV s) 63);have hblt:b<w.heap.size:=(AB hF).1;have HF:Hid (Mq w b):=hF;clear hF;go_enter Try.func68,Try.ntmps68;go_wp2
 go_loopw [9] (λiv wr=>∃k:Nat,k<=5/\iv=.int .i64 k/\Below w.heap.size w wr/\Hid (Bl wr (w.heap.size) (svV s) 63)/\Hid (∀i,i<k->Gb s i=true)) (λi _=>5 - (intOf i).toNat)
 case atStart=>exact⟨0,by omega,rfl,hbx,hbox,λi hi=>absurd hi (by omega)⟩
 case round=>
  obtain⟨k,hk,rfl,hb,hbox1,hall⟩:=hrel;have hNlt:w.heap.size<wr.heap.size:=(AB hbox1.out).1;have hfn:Hid _:=AL hb HF.out hblt;have x0:=AK hbox1.out 0 rfl;have x1:=AK hbox1.out 1 rfl;have x2:=AK hbox1.out 2 rfl;have x3:=AK hbox1.out 3 rfl;have x4:=AK hbox1.out 4 rfl;have x5:=AK hbox1.out 5 rfl;have x6:=AK hbox1.out 6 rfl;have x7:=AK hbox1.out 7 rfl;have x8:=AK hbox1.out 8 rfl;have x9:=AK hbox1.out 9 rfl;have x10:=AK hbox1.out 10 rfl;have x11:=AK hbox1.out 11 rfl;have x12:=AK hbox1.out 12 rfl
  by_cases h0:k=0
  ·subst h0
   have f0:=AK hfn.out 0 rfl;cases hv:Dh s.name
   ·have HV:Hid ((Gb s) 0=false):=hv
    go_wp2_with fail
    refine(FS s _ hs).mono ?_;rintro e w1 ⟨rfl,hb1⟩;have hb2:=hb.trans (hb1.mono hb.size);rw[hv];clear x0 x1 x2 x3 x4 x5 x6 x7 x8 x9 x10 x11 x12 f0;go_wp2;go_ret;exact⟨AS (A0 (by omega) HV.out).symm,hb2⟩
   ·have HV:Hid ((Gb s) 0=true):=hv
    go_wp2_with fail
    refine(FS s _ hs).mono ?_;rintro e w1 ⟨rfl,hb1⟩;have hb2:=hb.trans (hb1.mono hb.size);have hbox2:Hid _:=AL hb1 hbox1.out hNlt;rw[hv];clear x0 x1 x2 x3 x4 x5 x6 x7 x8 x9 x10 x11 x12 f0;go_wp2
    go_roundw
    case rel=>exact⟨0+1,by omega,by go_num,hb2,hbox2,BK hall.out HV.out⟩
    case measure=>simp[intOf]
  by_cases h1:k=1
  ·subst h1
   have f1:=AK hfn.out 1 rfl;cases hv:MB s
   ·have HV:Hid ((Gb s) 1=false):=hv
    go_wp2_with fail
    refine(Fz s _).mono ?_;rintro e w1 ⟨rfl,hb1⟩;have hb2:=hb.trans (hb1.mono hb.size);rw[hv];clear x0 x1 x2 x3 x4 x5 x6 x7 x8 x9 x10 x11 x12 f1;go_wp2;go_ret;exact⟨AS (A0 (by omega) HV.out).symm,hb2⟩
   ·have HV:Hid ((Gb s) 1=true):=hv
    go_wp2_with fail
    refine(Fz s _).mono ?_;rintro e w1 ⟨rfl,hb1⟩;have hb2:=hb.trans (hb1.mono hb.size);have hbox2:Hid _:=AL hb1 hbox1.out hNlt;rw[hv];clear x0 x1 x2 x3 x4 x5 x6 x7 x8 x9 x10 x11 x12 f1;go_wp2
    go_roundw
    case rel=>exact⟨1+1,by omega,by go_num,hb2,hbox2,BK hall.out HV.out⟩
    case measure=>simp[intOf]
  by_cases h2:k=2
  ·subst h2
   have f2:=AK hfn.out 2 rfl;cases hv:GC s
   ·have HV:Hid ((Gb s) 2=false):=hv
    go_wp2_with fail
    refine(GB s _).mono ?_;rintro e w1 ⟨rfl,hb1⟩;have hb2:=hb.trans (hb1.mono hb.size);rw[hv];clear x0 x1 x2 x3 x4 x5 x6 x7 x8 x9 x10 x11 x12 f2;go_wp2;go_ret;exact⟨AS (A0 (by omega) HV.out).symm,hb2⟩
   ·have HV:Hid ((Gb s) 2=true):=hv
    go_wp2_with fail
    refine(GB s _).mono ?_;rintro e w1 ⟨rfl,hb1⟩;have hb2:=hb.trans (hb1.mono hb.size);have hbox2:Hid _:=AL hb1 hbox1.out hNlt;rw[hv];clear x0 x1 x2 x3 x4 x5 x6 x7 x8 x9 x10 x11 x12 f2;go_wp2
    go_roundw
    case rel=>exact⟨2+1,by omega,by go_num,hb2,hbox2,BK hall.out HV.out⟩
    case measure=>simp[intOf]
  by_cases h3:k=3
  ·subst h3
   have f3:=AK hfn.out 3 rfl;cases hv:FE s
   ·have HV:Hid ((Gb s) 3=false):=hv
    go_wp2_with fail
    refine(F0 s _).mono ?_;rintro e w1 ⟨rfl,hb1⟩;have hb2:=hb.trans (hb1.mono hb.size);rw[hv];clear x0 x1 x2 x3 x4 x5 x6 x7 x8 x9 x10 x11 x12 f3;go_wp2;go_ret;exact⟨AS (A0 (by omega) HV.out).symm,hb2⟩
   ·have HV:Hid ((Gb s) 3=true):=hv
    go_wp2_with fail
    refine(F0 s _).mono ?_;rintro e w1 ⟨rfl,hb1⟩;have hb2:=hb.trans (hb1.mono hb.size);have hbox2:Hid _:=AL hb1 hbox1.out hNlt;rw[hv];clear x0 x1 x2 x3 x4 x5 x6 x7 x8 x9 x10 x11 x12 f3;go_wp2
    go_roundw
    case rel=>exact⟨3+1,by omega,by go_num,hb2,hbox2,BK hall.out HV.out⟩
    case measure=>simp[intOf]
  by_cases h4:k=4
  ·subst h4
   have f4:=AK hfn.out 4 rfl;cases hv:GA s
   ·have HV:Hid ((Gb s) 4=false):=hv
    go_wp2_with fail
    refine(EP s _).mono ?_;rintro e w1 ⟨rfl,hb1⟩;have hb2:=hb.trans (hb1.mono hb.size);rw[hv];clear x0 x1 x2 x3 x4 x5 x6 x7 x8 x9 x10 x11 x12 f4;go_wp2;go_ret;exact⟨AS (A0 (by omega) HV.out).symm,hb2⟩
   ·have HV:Hid ((Gb s) 4=true):=hv
    go_wp2_with fail
    refine(EP s _).mono ?_;rintro e w1 ⟨rfl,hb1⟩;have hb2:=hb.trans (hb1.mono hb.size);have hbox2:Hid _:=AL hb1 hbox1.out hNlt;rw[hv];clear x0 x1 x2 x3 x4 x5 x6 x7 x8 x9 x10 x11 x12 f4;go_wp2
    go_roundw
    case rel=>exact⟨4+1,by omega,by go_num,hb2,hbox2,BK hall.out HV.out⟩
    case measure=>simp[intOf]
  ·have h5:k=5:=by omega
   subst h5;clear x0 x1 x2 x3 x4 x5 x6 x7 x8 x9 x10 x11 x12;go_wp2;go_ret;exact⟨AS (Cu hall.out).symm,hb⟩
end
end Go.Proofs.Ytbceafpodamnfaa
