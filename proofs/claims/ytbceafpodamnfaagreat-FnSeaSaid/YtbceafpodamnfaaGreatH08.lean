import Derived.Test.YtbceafpodamnfaaGreatH05
set_option linter.all false
set_option maxHeartbeats 4000000
namespace Go.Proofs.YtbceafpodamnfaaGreat
open Go.RowKit Go.Sort
theorem ED(a b:Cp)(w:World):
  Calls Tryz.prog 21 #[.agg #[.string a.service,.int .i64 a.number,.int .i64 a.version,.int .i64 a.image,.int .i64 a.state,.bool a.ending,.string a.berth],.agg #[.string b.service,.int .i64 b.number,.int .i64 b.version,.int .i64 b.image,.int .i64 b.state,.bool b.ending,.string b.berth]] w λe w'=>e=.returned (.bool (Bu a b))/\Below w.heap.size w w':=by
 have hfin:Below w.heap.size w ((w.alloc (.cells #[.string a.service,.int .i64 a.number,.int .i64 a.version,.int .i64 a.image,.int .i64 a.state,.bool a.ending,.string a.berth] 49)).alloc (.cells #[.string b.service,.int .i64 b.number,.int .i64 b.version,.int .i64 b.image,.int .i64 b.state,.bool b.ending,.string b.berth] 49)):=((Below.refl _ _).alloc (AG _) _).alloc (by simp) _;cases h1:Op.bytesLess a.service.toList b.service.toList
 ·cases h2:(a.service.toList==b.service.toList)
  ·go_enter Tryz.func21,Tryz.ntmps21
   go_wp2;go_ret;exact⟨AR (by simp[Bu,h1,h2]),hfin⟩
  ·go_enter Tryz.func21,Tryz.ntmps21
   go_wp2;go_ret;exact⟨AR (by simp[Bu,h1,h2]),hfin⟩
 ·go_enter Tryz.func21,Tryz.ntmps21
  go_wp2;go_ret;exact⟨AR (by simp[Bu,h1]),hfin⟩
theorem Ci(s:ByteArray)(w:World)(hs:s.size<=maxLen):
  Calls Tryz.prog 19 #[.string s] w λe w'=>e=.returned (.bool (Cq s))/\Below w.heap.size w w':=
 (Gm s w hs).mono λe w' ⟨he,hw⟩=>⟨he,by rw[hw];exact Below.refl _ _⟩
theorem Aj(B:Bk)(a1 a2 a3:Option Addr)(c1 c2 c3:Nat)(w:World)(hS:B.small)(hZ:B.sized)(hB:BkAt w a1 a2 a3 B):
  Calls Tryz.prog 8 #[.agg #[.int .i64 B.now,.slice a1 B.svcs.length c1,.slice a2 B.cps.length c2,.slice a3 B.bts.length c3]] w λe w'=>e=.returned (.bool (AX B))/\Below w.heap.size w w':=by
 obtain⟨hl1,hl2,hl3⟩:=hS;have hbx:=AM w (.cells #[.int .i64 B.now,.slice a1 B.svcs.length c1,.slice a2 B.cps.length c2,.slice a3 B.bts.length c3] 27);have hbox:Hid _:=heap_alloc_new w (.cells #[.int .i64 B.now,.slice a1 B.svcs.length c1,.slice a2 B.cps.length c2,.slice a3 B.bts.length c3] 27);cases h0:inB B.now 0 1000000
 ·go_enter Tryz.func8,Tryz.ntmps8
  go_wp2_with (go_at_call 15;refine(CQ _ _ _ _).mono ?_;rintro e w' ⟨rfl,rfl⟩)
  go_ret;exact⟨AR (by simp[AX,h0]),hbx⟩
 by_cases hs1:8<(B.svcs.length:Int)
 ·go_enter Tryz.func8,Tryz.ntmps8
  go_wp2_with (go_at_call 15;refine(CQ _ _ _ _).mono ?_;rintro e w' ⟨rfl,rfl⟩)
  go_ret;exact⟨AR (by have:¬B.svcs.length<=8:=(by omega);simp[AX,this]),hbx⟩
 by_cases hs2:200<(B.cps.length:Int)
 ·go_enter Tryz.func8,Tryz.ntmps8
  go_wp2_with (go_at_call 15;refine(CQ _ _ _ _).mono ?_;rintro e w' ⟨rfl,rfl⟩)
  go_ret;exact⟨AR (by have:¬B.cps.length<=200:=(by omega);simp[AX,this]),hbx⟩
 by_cases hs3:6<(B.bts.length:Int)
 ·go_enter Tryz.func8,Tryz.ntmps8
  go_wp2_with (go_at_call 15;refine(CQ _ _ _ _).mono ?_;rintro e w' ⟨rfl,rfl⟩)
  go_ret;exact⟨AR (by have:¬B.bts.length<=6:=(by omega);simp[AX,this]),hbx⟩
 have HV:Hid (AX B=(BH (BB B) B.svcs.length&&BH (By B) B.bts.length&&BH (BD B) B.cps.length)):=by
  have q1:B.svcs.length<=8:=by omega
  have q2:B.cps.length<=200:=by omega
  have q3:B.bts.length<=6:=by omega
  unfold Hid;simp[AX,h0,q1,q2,q3]
 go_enter Tryz.func8,Tryz.ntmps8
 go_wp2_with (go_at_call 15;refine(CQ _ _ _ _).mono ?_;rintro e w' ⟨rfl,rfl⟩)
 clear h0
 go_loopw [3] (λiv wr=>∃k:Nat,k<=B.svcs.length/\iv=.int .i64 k/\Below w.heap.size w wr/\Hid (wr.heap[w.heap.size]?=some (.cells #[.int .i64 B.now,.slice a1 B.svcs.length c1,.slice a2 B.cps.length c2,.slice a3 B.bts.length c3] 27 (0,0)))/\Hid (∀i,i<k->BB B i=true)) (λi _=>B.svcs.length - (intOf i).toNat)
 case atStart=>exact⟨0,by omega,rfl,hbx,hbox,λi hi=>absurd hi (by omega)⟩
 case round=>
  obtain⟨k,hk,rfl,hb,hbox1,hall⟩:=hrel;have hNlt:w.heap.size<wr.heap.size:=(AB hbox1.out).1;have e0:=AJ hbox1.out 0 rfl;have e1:=AJ hbox1.out 1 rfl;have e2:=AJ hbox1.out 2 rfl;have e3:=AJ hbox1.out 3 rfl
  by_cases hlt:k<B.svcs.length
  ·have hne:B.svcs≠[]:=by intro h;rw[h]at hlt;simp at hlt
   obtain⟨b,off,ea,hbs,hat⟩:=hB.1 hne;subst ea;obtain⟨s,hsk⟩:∃s,B.svcs[k]?=some s:=⟨B.svcs[k],by simp[hlt]⟩;have hmem:=hZ.2.2.2.1 s (AE hsk);obtain⟨x0,x1,x2,x3,x4,x5,x6,x7,x8,x9,x10,x11,x12⟩:=((hat k s hsk).below hb hbs).grown;have g0:=Aa hbox1.out 0 rfl;have g1:=Aa hbox1.out 1 rfl;have g2:=Aa hbox1.out 2 rfl;have g3:=Aa hbox1.out 3 rfl;have hBr:=hB.below hb;cases hok:G6 B.now s
   ·have HNO:Hid (BB B k=false):=by unfold Hid BB;rw[hsk];simp[hok]
    clear hsk hat hne;go_wp2;refine wp_region_quiet_below (by kernel_rfl) (by kernel_rfl) ?_
    repeat (first|go_big_quiet_step (exact Calls.regrown_of (Bd s B.now _ hmem))|quiet_step (exact Calls.regrown_of (Bd s B.now _ hmem)))
    refine wpQuiet_nil ?_;intro w2 hw';obtain⟨⟨dq,osq⟩,hw''⟩:=hw';have hb2:Below wr.heap.size wr w2:=by rw[hw''];exact below_regrown _ _ _
    clear hw'';go_wp2;go_ret;exact⟨AR (by simp[AX,Al hlt HNO.out]),hb.trans (hb2.mono hb.size)⟩
   by_cases hk0:k=0
   ·have HYES:Hid (BB B k=true):=by unfold Hid BB;rw[hsk];simp[hok,hk0]
    have hz:decide (0<k)=false:=by simp;omega
    clear hsk hat hne hk0;go_wp2;refine wp_region_quiet_below (by kernel_rfl) (by kernel_rfl) ?_
    repeat (first|go_big_quiet_step (exact Calls.regrown_of (Bd s B.now _ hmem))|quiet_step (exact Calls.regrown_of (Bd s B.now _ hmem)))
    refine wpQuiet_nil ?_;intro w2 hw';obtain⟨⟨dq,osq⟩,hw''⟩:=hw';have hb2:Below wr.heap.size wr w2:=by rw[hw''];exact below_regrown _ _ _
    clear hw'';have hbox2:Hid _:=AK hb2 hbox1.out hNlt;have hb3:=hb.trans (hb2.mono hb.size);clear g0 g1 g2 g3 x0 x1 x2 x3 x4 x5 x6 x7 x8 x9 x10 x11 x12 e0 e1 e2 e3;go_wp2
    go_roundw
    case rel=>exact⟨k+1,by omega,by go_num,hb3,hbox2,Ax hall.out HYES.out⟩
    case measure=>simp[intOf];omega
   obtain⟨k',rfl⟩:∃k',k=k'+1:=⟨k - 1,by omega⟩;clear hk0;obtain⟨p,hpk⟩:∃p,B.svcs[k']?=some p:=⟨B.svcs[k']'(by omega),by rw[List.getElem?_eq_getElem]⟩;obtain⟨y0,y1,y2,y3,y4,y5,y6,y7,y8,y9,y10,y11,y12⟩:=((hat k' p hpk).below hb hbs).grown;cases hle:Op.bytesLess p.name.toList s.name.toList
   ·have HNO:Hid (BB B (k'+1)=false):=by unfold Hid BB;rw[hsk];simp[hok,hpk,hle]
    clear hsk hat hne hpk;go_wp2;refine wp_region_quiet_below (by kernel_rfl) (by kernel_rfl) ?_
    repeat (first|go_big_quiet_step (exact Calls.regrown_of (Bd s B.now _ hmem))|quiet_step (exact Calls.regrown_of (Bd s B.now _ hmem)))
    refine wpQuiet_nil ?_;intro w2 hw';obtain⟨⟨dq,osq⟩,hw''⟩:=hw';have hb2:Below wr.heap.size wr w2:=by rw[hw''];exact below_regrown _ _ _
    clear hw'';go_wp2;go_ret;exact⟨AR (by simp[AX,Al hlt HNO.out]),hb.trans (hb2.mono hb.size)⟩
   ·have HYES:Hid (BB B (k'+1)=true):=by unfold Hid BB;rw[hsk];simp[hok,hpk,hle]
    clear hsk hat hne hpk;go_wp2;refine wp_region_quiet_below (by kernel_rfl) (by kernel_rfl) ?_
    repeat (first|go_big_quiet_step (exact Calls.regrown_of (Bd s B.now _ hmem))|quiet_step (exact Calls.regrown_of (Bd s B.now _ hmem)))
    refine wpQuiet_nil ?_;intro w2 hw';obtain⟨⟨dq,osq⟩,hw''⟩:=hw';have hb2:Below wr.heap.size wr w2:=by rw[hw''];exact below_regrown _ _ _
    clear hw'';have hbox2:Hid _:=AK hb2 hbox1.out hNlt;have hb3:=hb.trans (hb2.mono hb.size);clear g0 g1 g2 g3 x0 x1 x2 x3 x4 x5 x6 x7 x8 x9 x10 x11 x12 y0 y1 y2 y3 y4 y5 y6 y7 y8 y9 y10 y11 y12 e0 e1 e2 e3;go_wp2
    go_roundw
    case rel=>exact⟨k'+1+1,by omega,by go_num,hb3,hbox2,Ax hall.out HYES.out⟩
    case measure=>simp[intOf];omega
  ·have HALLsvcs:Hid (BH (BB B) B.svcs.length=true):=B6 λi hi=>hall.out i (by omega)
   clear hall;go_wp2
   go_loopw [4] (λiv wr=>∃k:Nat,k<=B.bts.length/\iv=.int .i64 k/\Below w.heap.size w wr/\Hid (wr.heap[w.heap.size]?=some (.cells #[.int .i64 B.now,.slice a1 B.svcs.length c1,.slice a2 B.cps.length c2,.slice a3 B.bts.length c3] 27 (0,0)))/\Hid (∀i,i<k->By B i=true)) (λi _=>B.bts.length - (intOf i).toNat)
   case atStart=>exact⟨0,by omega,rfl,hb,hbox1,λi hi=>absurd hi (by omega)⟩
   case round=>
    obtain⟨k,hk,rfl,hb,hbox1,hall⟩:=hrel;have hNlt:w.heap.size<wr.heap.size:=(AB hbox1.out).1;have e0:=AJ hbox1.out 0 rfl;have e1:=AJ hbox1.out 1 rfl;have e2:=AJ hbox1.out 2 rfl;have e3:=AJ hbox1.out 3 rfl
    by_cases hlt:k<B.bts.length
    ·have hne:B.bts≠[]:=by intro h;rw[h]at hlt;simp at hlt
     obtain⟨b,off,ea,hbs,hat⟩:=hB.2.2 hne;subst ea;obtain⟨s,hsk⟩:∃s,B.bts[k]?=some s:=⟨B.bts[k],by simp[hlt]⟩;have hmem:=hZ.2.2.2.2.2 s (AE hsk);obtain⟨x0,x1⟩:=((hat k s hsk).below hb hbs).grown;have g0:=Aa hbox1.out 0 rfl;have g1:=Aa hbox1.out 1 rfl;have g2:=Aa hbox1.out 2 rfl;have g3:=Aa hbox1.out 3 rfl;have hBr:=hB.below hb;cases hok:Cq s.name
     ·have HNO:Hid (By B k=false):=by unfold Hid By;rw[hsk];simp[hok]
      clear hsk hat hne;go_wp2;refine wp_region_quiet_below (by kernel_rfl) (by kernel_rfl) ?_
      repeat (first|go_big_quiet_step (exact Calls.regrown_of (Ci s.name _ hmem))|quiet_step (exact Calls.regrown_of (Ci s.name _ hmem)))
      refine wpQuiet_nil ?_;intro w2 hw';obtain⟨⟨dq,osq⟩,hw''⟩:=hw';have hb2:Below wr.heap.size wr w2:=by rw[hw''];exact below_regrown _ _ _
      clear hw'';go_wp2;go_ret;exact⟨AR (by simp[AX,Al hlt HNO.out]),hb.trans (hb2.mono hb.size)⟩
     by_cases hk0:k=0
     ·have HYES:Hid (By B k=true):=by unfold Hid By;rw[hsk];simp[hok,hk0]
      have hz:decide (0<k)=false:=by simp;omega
      clear hsk hat hne hk0;go_wp2;refine wp_region_quiet_below (by kernel_rfl) (by kernel_rfl) ?_
      repeat (first|go_big_quiet_step (exact Calls.regrown_of (Ci s.name _ hmem))|quiet_step (exact Calls.regrown_of (Ci s.name _ hmem)))
      refine wpQuiet_nil ?_;intro w2 hw';obtain⟨⟨dq,osq⟩,hw''⟩:=hw';have hb2:Below wr.heap.size wr w2:=by rw[hw''];exact below_regrown _ _ _
      clear hw'';have hbox2:Hid _:=AK hb2 hbox1.out hNlt;have hb3:=hb.trans (hb2.mono hb.size);clear g0 g1 g2 g3 x0 x1 e0 e1 e2 e3;go_wp2
      go_roundw
      case rel=>exact⟨k+1,by omega,by go_num,hb3,hbox2,Ax hall.out HYES.out⟩
      case measure=>simp[intOf];omega
     obtain⟨k',rfl⟩:∃k',k=k'+1:=⟨k - 1,by omega⟩;clear hk0;obtain⟨p,hpk⟩:∃p,B.bts[k']?=some p:=⟨B.bts[k']'(by omega),by rw[List.getElem?_eq_getElem]⟩;obtain⟨y0,y1⟩:=((hat k' p hpk).below hb hbs).grown;cases hle:Op.bytesLess p.name.toList s.name.toList
     ·have HNO:Hid (By B (k'+1)=false):=by unfold Hid By;rw[hsk];simp[hok,hpk,hle]
      clear hsk hat hne hpk;go_wp2;refine wp_region_quiet_below (by kernel_rfl) (by kernel_rfl) ?_
      repeat (first|go_big_quiet_step (exact Calls.regrown_of (Ci s.name _ hmem))|quiet_step (exact Calls.regrown_of (Ci s.name _ hmem)))
      refine wpQuiet_nil ?_;intro w2 hw';obtain⟨⟨dq,osq⟩,hw''⟩:=hw';have hb2:Below wr.heap.size wr w2:=by rw[hw''];exact below_regrown _ _ _
      clear hw'';go_wp2;go_ret;exact⟨AR (by simp[AX,Al hlt HNO.out]),hb.trans (hb2.mono hb.size)⟩
     ·have HYES:Hid (By B (k'+1)=true):=by unfold Hid By;rw[hsk];simp[hok,hpk,hle]
      clear hsk hat hne hpk;go_wp2;refine wp_region_quiet_below (by kernel_rfl) (by kernel_rfl) ?_
      repeat (first|go_big_quiet_step (exact Calls.regrown_of (Ci s.name _ hmem))|quiet_step (exact Calls.regrown_of (Ci s.name _ hmem)))
      refine wpQuiet_nil ?_;intro w2 hw';obtain⟨⟨dq,osq⟩,hw''⟩:=hw';have hb2:Below wr.heap.size wr w2:=by rw[hw''];exact below_regrown _ _ _
      clear hw'';have hbox2:Hid _:=AK hb2 hbox1.out hNlt;have hb3:=hb.trans (hb2.mono hb.size);clear g0 g1 g2 g3 x0 x1 y0 y1 e0 e1 e2 e3;go_wp2
      go_roundw
      case rel=>exact⟨k'+1+1,by omega,by go_num,hb3,hbox2,Ax hall.out HYES.out⟩
      case measure=>simp[intOf];omega
    ·have HALLbts:Hid (BH (By B) B.bts.length=true):=B6 λi hi=>hall.out i (by omega)
     clear hall;go_wp2
     go_loopw [5] (λiv wr=>∃k:Nat,k<=B.cps.length/\iv=.int .i64 k/\Below w.heap.size w wr/\Hid (wr.heap[w.heap.size]?=some (.cells #[.int .i64 B.now,.slice a1 B.svcs.length c1,.slice a2 B.cps.length c2,.slice a3 B.bts.length c3] 27 (0,0)))/\Hid (∀i,i<k->BD B i=true)) (λi _=>B.cps.length - (intOf i).toNat)
     case atStart=>exact⟨0,by omega,rfl,hb,hbox1,λi hi=>absurd hi (by omega)⟩
     case round=>
      obtain⟨k,hk,rfl,hb,hbox1,hall⟩:=hrel;have hNlt:w.heap.size<wr.heap.size:=(AB hbox1.out).1;have e0:=AJ hbox1.out 0 rfl;have e1:=AJ hbox1.out 1 rfl;have e2:=AJ hbox1.out 2 rfl;have e3:=AJ hbox1.out 3 rfl
      by_cases hlt:k<B.cps.length
      ·have hne:B.cps≠[]:=by intro h;rw[h]at hlt;simp at hlt
       obtain⟨b,off,ea,hbs,hat⟩:=hB.2.1 hne;subst ea;obtain⟨s,hsk⟩:∃s,B.cps[k]?=some s:=⟨B.cps[k],by simp[hlt]⟩
       skip
       obtain⟨x0,x1,x2,x3,x4,x5,x6⟩:=((hat k s hsk).below hb hbs).grown;have g0:=Aa hbox1.out 0 rfl;have g1:=Aa hbox1.out 1 rfl;have g2:=Aa hbox1.out 2 rfl;have g3:=Aa hbox1.out 3 rfl;have hBr:=hB.below hb;cases hok:cpB B s
       ·have HNO:Hid (BD B k=false):=by unfold Hid BD;rw[hsk];simp[hok]
        clear hsk hat hne;go_wp2;refine wp_region_quiet_below (by kernel_rfl) (by kernel_rfl) ?_
        repeat (first|go_big_quiet_step (exact Calls.regrown_of (CJ B s a1 _ a3 c1 c2 c3 _ ⟨hl1,hl2,hl3⟩ (hBr.grown _ _)))|quiet_step (exact Calls.regrown_of (CJ B s a1 _ a3 c1 c2 c3 _ ⟨hl1,hl2,hl3⟩ (hBr.grown _ _))))
        refine wpQuiet_nil ?_;intro w2 hw';obtain⟨⟨dq,osq⟩,hw''⟩:=hw';have hb2:Below wr.heap.size wr w2:=by rw[hw''];exact below_regrown _ _ _
        clear hw'';go_wp2;go_ret;exact⟨AR (by simp[AX,Al hlt HNO.out]),hb.trans (hb2.mono hb.size)⟩
       by_cases hk0:k=0
       ·have HYES:Hid (BD B k=true):=by unfold Hid BD;rw[hsk];simp[hok,hk0]
        have hz:decide (0<k)=false:=by simp;omega
        clear hsk hat hne hk0;go_wp2;refine wp_region_quiet_below (by kernel_rfl) (by kernel_rfl) ?_
        repeat (first|go_big_quiet_step (exact Calls.regrown_of (CJ B s a1 _ a3 c1 c2 c3 _ ⟨hl1,hl2,hl3⟩ (hBr.grown _ _)))|quiet_step (exact Calls.regrown_of (CJ B s a1 _ a3 c1 c2 c3 _ ⟨hl1,hl2,hl3⟩ (hBr.grown _ _))))
        refine wpQuiet_nil ?_;intro w2 hw';obtain⟨⟨dq,osq⟩,hw''⟩:=hw';have hb2:Below wr.heap.size wr w2:=by rw[hw''];exact below_regrown _ _ _
        clear hw'';have hbox2:Hid _:=AK hb2 hbox1.out hNlt;have hb3:=hb.trans (hb2.mono hb.size);clear g0 g1 g2 g3 x0 x1 x2 x3 x4 x5 x6 e0 e1 e2 e3;go_wp2
        go_roundw
        case rel=>exact⟨k+1,by omega,by go_num,hb3,hbox2,Ax hall.out HYES.out⟩
        case measure=>simp[intOf];omega
       obtain⟨k',rfl⟩:∃k',k=k'+1:=⟨k - 1,by omega⟩;clear hk0;obtain⟨p,hpk⟩:∃p,B.cps[k']?=some p:=⟨B.cps[k']'(by omega),by rw[List.getElem?_eq_getElem]⟩;obtain⟨y0,y1,y2,y3,y4,y5,y6⟩:=((hat k' p hpk).below hb hbs).grown;cases hle:Bu p s
       ·have HNO:Hid (BD B (k'+1)=false):=by unfold Hid BD;rw[hsk];simp[hok,hpk,hle]
        clear hsk hat hne hpk;go_wp2;refine wp_region_quiet_below (by kernel_rfl) (by kernel_rfl) ?_
        repeat (first|go_big_quiet_step (first|exact Calls.regrown_of (CJ B s a1 _ a3 c1 c2 c3 _ ⟨hl1,hl2,hl3⟩ (hBr.grown _ _))|exact Calls.regrown_of (ED p s _))|quiet_step (first|exact Calls.regrown_of (CJ B s a1 _ a3 c1 c2 c3 _ ⟨hl1,hl2,hl3⟩ (hBr.grown _ _))|exact Calls.regrown_of (ED p s _)))
        refine wpQuiet_nil ?_;intro w2 hw';obtain⟨⟨dq,osq⟩,hw''⟩:=hw';have hb2:Below wr.heap.size wr w2:=by rw[hw''];exact below_regrown _ _ _
        clear hw'';go_wp2;go_ret;exact⟨AR (by simp[AX,Al hlt HNO.out]),hb.trans (hb2.mono hb.size)⟩
       ·have HYES:Hid (BD B (k'+1)=true):=by unfold Hid BD;rw[hsk];simp[hok,hpk,hle]
        clear hsk hat hne hpk;go_wp2;refine wp_region_quiet_below (by kernel_rfl) (by kernel_rfl) ?_
        repeat (first|go_big_quiet_step (first|exact Calls.regrown_of (CJ B s a1 _ a3 c1 c2 c3 _ ⟨hl1,hl2,hl3⟩ (hBr.grown _ _))|exact Calls.regrown_of (ED p s _))|quiet_step (first|exact Calls.regrown_of (CJ B s a1 _ a3 c1 c2 c3 _ ⟨hl1,hl2,hl3⟩ (hBr.grown _ _))|exact Calls.regrown_of (ED p s _)))
        refine wpQuiet_nil ?_;intro w2 hw';obtain⟨⟨dq,osq⟩,hw''⟩:=hw';have hb2:Below wr.heap.size wr w2:=by rw[hw''];exact below_regrown _ _ _
        clear hw'';have hbox2:Hid _:=AK hb2 hbox1.out hNlt;have hb3:=hb.trans (hb2.mono hb.size);clear g0 g1 g2 g3 x0 x1 x2 x3 x4 x5 x6 y0 y1 y2 y3 y4 y5 y6 e0 e1 e2 e3;go_wp2
        go_roundw
        case rel=>exact⟨k'+1+1,by omega,by go_num,hb3,hbox2,Ax hall.out HYES.out⟩
        case measure=>simp[intOf];omega
      ·have HALLcps:Hid (BH (BD B) B.cps.length=true):=B6 λi hi=>hall.out i (by omega)
       clear hall;go_wp2;go_ret;exact⟨AR (by rw[HV.out,HALLsvcs.out,HALLbts.out,HALLcps.out];rfl),hb⟩
end Go.Proofs.YtbceafpodamnfaaGreat
