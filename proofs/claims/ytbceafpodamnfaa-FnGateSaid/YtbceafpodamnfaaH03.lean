import Derived.Test.YtbceafpodamnfaaH02
set_option linter.all false
set_option maxHeartbeats 16000000
namespace Go.Proofs.Ytbceafpodamnfaa
attribute [local simp] svV cpV zbV czV aaV ctZ ad bkV
attribute [local go_sem] svV cpV zbV czV aaV ctZ ad bkV
section
open Go.RowKit Go.Sort Go.Maps
theorem BA{H:Type}{P:Program}(w:World){ops:Array Oper}{rest:List Oper}{o:Oper}{a:Act}{Q:Exit->Act->World->Prop}(hg:o.guard=none)(m x:Operand)(t:TypeId)(hop:o.op=Op.lookup t m x true)
  (k e:TypeId) (q:IntKind) (K:Keyed P k) (ht:P.underlying t=some (.map k e)) (he:P.underlying e=some (.int q)) (hz:(zeroValue e).run P w=.ok (.int q 0) w) (b n:Nat) (D:DataW H)
  (hm:a.eval m=.map (some b)) (hown:w.ownsMap P k (plainElem P e) b n D) (key:Value) (kl:Lit) (hx:a.eval x=key) (hkey:keyOf P k key=some kl)
  (c0:Int) (bb:Bool) (hat:D.atKey kl (.lit (.int q 0))=.lit (.int q c0)) (hhas:Maps.has D kl=bb)
  (hK:wpList P ops Q rest (a.put o.dst (.tuple #[.int q c0,.bool bb])) w):wpList P ops Q (o::rest) a w:=
 wpList_lookup_own_ok_int w hg m x t hop k e q K ht he hz b n D hm hown key kl hx hkey (λc hc _=>by
  rw[hat]at hc;have hcc:c0=c:=by simpa using hc
  subst hcc;rw[hhas]
  exact hK)
theorem Jt(B:Bk)(a1 a2 a3:Option Addr)(c1 c2 c3:Nat)(w:World)(hS:B.small)(hZ:B.sized)(hU:IQ B)(hB:BkAt w a1 a2 a3 B)(hnil:B.svcs=[]):
  Calls Try.prog 45 #[.agg (bkV B a1 c1 a2 c2 a3 c3)] w λe w'=>e=.returned (.bool (BY (BP B) B.cps.length))/\Below w.heap.size w w':=by
 have HNIL:Hid (B.svcs=[]):=hnil;clear hnil;have hS':=hS;obtain⟨hl1,hl2,hl3⟩:=hS';have T0:Hid _:=heap_alloc_new w (.cells (bkV B a1 c1 a2 c2 a3 c3) 27);have hb0:=AO w (.cells (bkV B a1 c1 a2 c2 a3 c3) 27);have hs0:(w.alloc (.cells (bkV B a1 c1 a2 c2 a3 c3) 27)).heap.size=w.heap.size+1:=by show(w.heap.push _).size=_;simp
 have HS0:Hid _:=hs0;clear hs0;go_enter Try.func45,Try.ntmps45
 go_wp2_with fail
 refine(ER B _ a2 a3 c1 c2 c3 _ hS hZ hU (hB.below hb0)).mono ?_;rintro e w0 ⟨rfl,hpl0,hb1⟩;rw[HS0.out]at hpl0 hb1;rw[HS0.out];have hbb0:=hb0.trans (hb1.mono (by omega));have T0':Hid _:=AL hb1 T0.out (by omega);have HP0:Hid _:=hpl0;have e2:=AK T0'.out 2 rfl;clear hpl0 hb1;go_wp2;clear e2
 go_loopw [13] (λiv wr=>∃k:Nat,k<=B.cps.length/\iv=.int .i64 k/\Below w.heap.size w wr/\Hid (Bl wr (w.heap.size) (bkV B a1 c1 a2 c2 a3 c3) 27)/\Hid (PlacesAt wr (w.heap.size+1+1) B B.svcs.length B.bts.length)/\Hid (∀i,i<k->BP B i=true)) (λi _=>B.cps.length - (intOf i).toNat)
 case atStart=>exact⟨0,by omega,rfl,hbb0,T0',HP0,λi hi=>absurd hi (by omega)⟩
 case round=>
  clear hbb0 T0' HP0;obtain⟨k,hk,rfl,hb,hbox,hpl,hall⟩:=hrel;have hNlt:w.heap.size+1+1<wr.heap.size:=hpl.out.lt
  by_cases hlt:k<B.cps.length
  ·have hne:B.cps≠[]:=by intro h;rw[h]at hlt;simp at hlt
   obtain⟨b,off,ea,hbs,hat⟩:=hB.2.1 hne;subst ea;obtain⟨s,hsk⟩:∃s,B.cps[k]?=some s:=⟨B.cps[k],by simp[hlt]⟩;have hmem:=hZ.2.2.2.2.1 s (AE hsk);have HSK:Hid _:=hsk;have hcs:=(hat k s hsk).below hb hbs;unfold CpAt at hcs;obtain⟨x0,x1,x2,x3,x4,x5,x6⟩:=hcs;have hbr:Below w.heap.size w (wr.alloc (.cells (cpV s) 35)):=hb.alloc hb.size _;have HSZ:Hid ((wr.alloc (.cells (cpV s) 35)).heap.size=wr.heap.size+1):=by show(wr.heap.push _).size=_;simp
   have HBX:Hid _:=heap_alloc_new wr (.cells (cpV s) 35);have hw1:=AO wr (.cells (cpV s) 35);have hboxr:Hid _:=AL hw1 hbox.out (by omega);have hplr:Hid (PlacesAt (wr.alloc (.cells (cpV s) 35)) (w.heap.size+1+1) B B.svcs.length B.bts.length):=hpl.out.below hw1 hNlt;clear hsk
   by_cases hk0:k=0
   ·have HK0:Hid (k=0):=hk0
    have hz:decide (0<k)=false:=by simp;omega
    clear hk0 hat hne;go_wp2;clear x0 x1 x2 x3 x4 x5 x6;refine wp_region_quiet_below (by kernel_rfl) (by kernel_rfl) ?_
    repeat (first|go_big_quiet_step (fail)|quiet_step (fail))
    refine wpQuiet_nil ?_;intro w2 hw';obtain⟨⟨dq,osq⟩,hw''⟩:=hw';have hb2:Below (wr.alloc (.cells (cpV s) 35)).heap.size (wr.alloc (.cells (cpV s) 35)) w2:=by rw[hw''];exact below_regrown _ _ _
    clear hw'';have hbr2:=hbr.trans (hb2.mono hbr.size);have bxr:Hid _:=AL hb2 HBX.out (by rw[HSZ.out];omega);have box2:Hid _:=AL hb2 hboxr.out (by rw[HSZ.out];omega);have pl2:Hid (PlacesAt w2 (w.heap.size+1+1) B B.svcs.length B.bts.length):=hplr.out.below hb2 (by rw[HSZ.out];omega);have hz2:wr.heap.size<w2.heap.size:=by have:=hb2.size;rw[HSZ.out]at this;omega
    have r0:=AK bxr.out 0 rfl;obtain⟨n,D,hn,hown2,h1,h2,h3,h4⟩:=pl2.out;have H1:Hid _:=h1;have H2:Hid _:=h2;clear h1 h2 h3 h4;have hf:Bz B s.service=none:=by unfold Bz;rw[HNIL.out];rfl
    have HNO:Hid (BP B k=false):=by unfold Hid BP;rw[HSK.out];simp[cpB,hf]
    have HH:Hid (Maps.has D (key 1 s.service)=false):=H1.out s.service hmem.1 (Ed hf);have HA:Hid (D.atKey (key 1 s.service) (.lit (.int .i64 0))=.lit (.int .i64 0)):=atKey_of_not_has HH.out _
    go_wp2_with (at_lookup;refine BA _ rfl (.tmp 32) (.tmp 35) 64 rfl 67 3 .i64 thingLaw Try.underlying64 Try.underlying3 (Cd _) (w.heap.size+1+1) n D rfl hown2 _ _ rfl (C8 1 s.service wf1 hmem.1) 0 false HA.out HH.out ?_)
    refine wp_region_quiet_below (by kernel_rfl) (by kernel_rfl) ?_
    repeat (first|go_big_quiet_step (fail)|quiet_step (fail))
    refine wpQuiet_nil ?_;intro w3 hw';obtain⟨⟨dq,osq⟩,hw''⟩:=hw';have hb3:Below w2.heap.size w2 w3:=by rw[hw''];exact below_regrown _ _ _
    clear hw'';go_wp2;go_ret;exact⟨AS (A0 hlt HNO.out).symm,hbr2.trans (hb3.mono hbr2.size)⟩
   obtain⟨k',rfl⟩:∃k',k=k'+1:=⟨k - 1,by omega⟩;clear hk0;obtain⟨p,hpk⟩:∃p,B.cps[k']?=some p:=⟨B.cps[k']'(by omega),by rw[List.getElem?_eq_getElem]⟩;have HPK:Hid _:=hpk;obtain⟨y0,y1,y2,y3,y4,y5,y6⟩:=((hat k' p hpk).below (hb.trans (hw1.mono hb.size)) hbs).grown;have gx0:=Al HBX.out 0 rfl;have gx1:=Al HBX.out 1 rfl;have gx2:=Al HBX.out 2 rfl;have gx3:=Al HBX.out 3 rfl;have gx4:=Al HBX.out 4 rfl;have gx5:=Al HBX.out 5 rfl;have gx6:=Al HBX.out 6 rfl;have gb2:=Al hboxr.out 2 rfl;clear hpk hat hne;cases hle:Bg p s
   ·have HNO:Hid (BP B (k'+1)=false):=by unfold Hid BP;rw[HSK.out];simp[HPK.out,hle]
    go_wp2;clear x0 x1 x2 x3 x4 x5 x6;refine wp_region_quiet_below (by kernel_rfl) (by kernel_rfl) ?_
    repeat (first|go_big_quiet_step (exact Calls.regrown_of (CM p s _))|quiet_step (exact Calls.regrown_of (CM p s _)))
    refine wpQuiet_nil ?_;intro w2 hw';obtain⟨⟨dq,osq⟩,hw''⟩:=hw';have hb2:Below (wr.alloc (.cells (cpV s) 35)).heap.size (wr.alloc (.cells (cpV s) 35)) w2:=by rw[hw''];exact below_regrown _ _ _
    clear hw'';go_wp2;go_ret;exact⟨AS (A0 hlt HNO.out).symm,hbr.trans (hb2.mono hbr.size)⟩
   ·have HLE:Hid (Bg p s=true):=hle
    go_wp2;clear x0 x1 x2 x3 x4 x5 x6;refine wp_region_quiet_below (by kernel_rfl) (by kernel_rfl) ?_
    repeat (first|go_big_quiet_step (exact Calls.regrown_of (CM p s _))|quiet_step (exact Calls.regrown_of (CM p s _)))
    refine wpQuiet_nil ?_;intro w2 hw';obtain⟨⟨dq,osq⟩,hw''⟩:=hw';have hb2:Below (wr.alloc (.cells (cpV s) 35)).heap.size (wr.alloc (.cells (cpV s) 35)) w2:=by rw[hw''];exact below_regrown _ _ _
    clear hw'';clear gx0 gx1 gx2 gx3 gx4 gx5 gx6 gb2 hle y0 y1 y2 y3 y4 y5 y6;have hbr2:=hbr.trans (hb2.mono hbr.size);have bxr:Hid _:=AL hb2 HBX.out (by rw[HSZ.out];omega);have box2:Hid _:=AL hb2 hboxr.out (by rw[HSZ.out];omega);have pl2:Hid (PlacesAt w2 (w.heap.size+1+1) B B.svcs.length B.bts.length):=hplr.out.below hb2 (by rw[HSZ.out];omega);have hz2:wr.heap.size<w2.heap.size:=by have:=hb2.size;rw[HSZ.out]at this;omega
    have r0:=AK bxr.out 0 rfl;obtain⟨n,D,hn,hown2,h1,h2,h3,h4⟩:=pl2.out;have H1:Hid _:=h1;have H2:Hid _:=h2;clear h1 h2 h3 h4;have hf:Bz B s.service=none:=by unfold Bz;rw[HNIL.out];rfl
    have HNO:Hid (BP B (k'+1)=false):=by unfold Hid BP;rw[HSK.out];simp[cpB,hf]
    have HH:Hid (Maps.has D (key 1 s.service)=false):=H1.out s.service hmem.1 (Ed hf);have HA:Hid (D.atKey (key 1 s.service) (.lit (.int .i64 0))=.lit (.int .i64 0)):=atKey_of_not_has HH.out _
    go_wp2_with (at_lookup;refine BA _ rfl (.tmp 32) (.tmp 35) 64 rfl 67 3 .i64 thingLaw Try.underlying64 Try.underlying3 (Cd _) (w.heap.size+1+1) n D rfl hown2 _ _ rfl (C8 1 s.service wf1 hmem.1) 0 false HA.out HH.out ?_)
    refine wp_region_quiet_below (by kernel_rfl) (by kernel_rfl) ?_
    repeat (first|go_big_quiet_step (fail)|quiet_step (fail))
    refine wpQuiet_nil ?_;intro w3 hw';obtain⟨⟨dq,osq⟩,hw''⟩:=hw';have hb3:Below w2.heap.size w2 w3:=by rw[hw''];exact below_regrown _ _ _
    clear hw'';go_wp2;go_ret;exact⟨AS (A0 hlt HNO.out).symm,hbr2.trans (hb3.mono hbr2.size)⟩
  ·go_wp2
   go_ret;exact⟨AS (Cu λi hi=>hall.out i (by omega)).symm,hb⟩
theorem Il(B:Bk)(a1 a2 a3:Option Addr)(c1 c2 c3:Nat)(w:World)(hS:B.small)(hZ:B.sized)(hU:IQ B)(hB:BkAt w a1 a2 a3 B)(hne0:B.svcs≠[]):
  Calls Try.prog 45 #[.agg (bkV B a1 c1 a2 c2 a3 c3)] w λe w'=>e=.returned (.bool (BY (BP B) B.cps.length))/\Below w.heap.size w w':=by
 obtain⟨bS,offS,eS,hbsS,hatS⟩:=hB.1 hne0;subst eS;have hS':=hS;obtain⟨hl1,hl2,hl3⟩:=hS';have T0:Hid _:=heap_alloc_new w (.cells (bkV B (some ⟨bS,offS,none⟩) c1 a2 c2 a3 c3) 27);have hb0:=AO w (.cells (bkV B (some ⟨bS,offS,none⟩) c1 a2 c2 a3 c3) 27);have hs0:(w.alloc (.cells (bkV B (some ⟨bS,offS,none⟩) c1 a2 c2 a3 c3) 27)).heap.size=w.heap.size+1:=by show(w.heap.push _).size=_;simp
 have HS0:Hid _:=hs0;clear hs0;go_enter Try.func45,Try.ntmps45
 go_wp2_with fail
 refine(ER B _ a2 a3 c1 c2 c3 _ hS hZ hU (hB.below hb0)).mono ?_;rintro e w0 ⟨rfl,hpl0,hb1⟩;rw[HS0.out]at hpl0 hb1;rw[HS0.out];have hbb0:=hb0.trans (hb1.mono (by omega));have T0':Hid _:=AL hb1 T0.out (by omega);have HP0:Hid _:=hpl0;have e2:=AK T0'.out 2 rfl;clear hpl0 hb1;go_wp2;clear e2
 go_loopw [13] (λiv wr=>∃k:Nat,k<=B.cps.length/\iv=.int .i64 k/\Below w.heap.size w wr/\Hid (Bl wr (w.heap.size) (bkV B (some ⟨bS,offS,none⟩) c1 a2 c2 a3 c3) 27)/\Hid (PlacesAt wr (w.heap.size+1+1) B B.svcs.length B.bts.length)/\Hid (∀i,i<k->BP B i=true)) (λi _=>B.cps.length - (intOf i).toNat)
 case atStart=>exact⟨0,by omega,rfl,hbb0,T0',HP0,λi hi=>absurd hi (by omega)⟩
 case round=>
  clear hbb0 T0' HP0;obtain⟨k,hk,rfl,hb,hbox,hpl,hall⟩:=hrel;have hNlt:w.heap.size+1+1<wr.heap.size:=hpl.out.lt
  by_cases hlt:k<B.cps.length
  ·have hne:B.cps≠[]:=by intro h;rw[h]at hlt;simp at hlt
   obtain⟨b,off,ea,hbs,hat⟩:=hB.2.1 hne;subst ea;obtain⟨s,hsk⟩:∃s,B.cps[k]?=some s:=⟨B.cps[k],by simp[hlt]⟩;have hmem:=hZ.2.2.2.2.1 s (AE hsk);have HSK:Hid _:=hsk;have hcs:=(hat k s hsk).below hb hbs;unfold CpAt at hcs;obtain⟨x0,x1,x2,x3,x4,x5,x6⟩:=hcs;have hbr:Below w.heap.size w (wr.alloc (.cells (cpV s) 35)):=hb.alloc hb.size _;have HSZ:Hid ((wr.alloc (.cells (cpV s) 35)).heap.size=wr.heap.size+1):=by show(wr.heap.push _).size=_;simp
   have HBX:Hid _:=heap_alloc_new wr (.cells (cpV s) 35);have hw1:=AO wr (.cells (cpV s) 35);have hboxr:Hid _:=AL hw1 hbox.out (by omega);have hplr:Hid (PlacesAt (wr.alloc (.cells (cpV s) 35)) (w.heap.size+1+1) B B.svcs.length B.bts.length):=hpl.out.below hw1 hNlt;clear hsk
   by_cases hk0:k=0
   ·have HK0:Hid (k=0):=hk0
    have hz:decide (0<k)=false:=by simp;omega
    clear hk0 hat hne;go_wp2;clear x0 x1 x2 x3 x4 x5 x6;refine wp_region_quiet_below (by kernel_rfl) (by kernel_rfl) ?_
    repeat (first|go_big_quiet_step (fail)|quiet_step (fail))
    refine wpQuiet_nil ?_;intro w2 hw';obtain⟨⟨dq,osq⟩,hw''⟩:=hw';have hb2:Below (wr.alloc (.cells (cpV s) 35)).heap.size (wr.alloc (.cells (cpV s) 35)) w2:=by rw[hw''];exact below_regrown _ _ _
    clear hw'';have hbr2:=hbr.trans (hb2.mono hbr.size);have bxr:Hid _:=AL hb2 HBX.out (by rw[HSZ.out];omega);have box2:Hid _:=AL hb2 hboxr.out (by rw[HSZ.out];omega);have pl2:Hid (PlacesAt w2 (w.heap.size+1+1) B B.svcs.length B.bts.length):=hplr.out.below hb2 (by rw[HSZ.out];omega);have hz2:wr.heap.size<w2.heap.size:=by have:=hb2.size;rw[HSZ.out]at this;omega
    have r0:=AK bxr.out 0 rfl;obtain⟨n,D,hn,hown2,h1,h2,h3,h4⟩:=pl2.out;have H1:Hid _:=h1;have H2:Hid _:=h2;clear h1 h2 h3 h4
    cases hf:Bz B s.service with
    |none=>
     have HNO:Hid (BP B k=false):=by unfold Hid BP;rw[HSK.out];simp[cpB,hf]
     have HH:Hid (Maps.has D (key 1 s.service)=false):=H1.out s.service hmem.1 (Ed hf);have HA:Hid (D.atKey (key 1 s.service) (.lit (.int .i64 0))=.lit (.int .i64 0)):=atKey_of_not_has HH.out _
     go_wp2_with (at_lookup;refine BA _ rfl (.tmp 32) (.tmp 35) 64 rfl 67 3 .i64 thingLaw Try.underlying64 Try.underlying3 (Cd _) (w.heap.size+1+1) n D rfl hown2 _ _ rfl (C8 1 s.service wf1 hmem.1) 0 false HA.out HH.out ?_)
     refine wp_region_quiet_below (by kernel_rfl) (by kernel_rfl) ?_
     repeat (first|go_big_quiet_step (fail)|quiet_step (fail))
     refine wpQuiet_nil ?_;intro w3 hw';obtain⟨⟨dq,osq⟩,hw''⟩:=hw';have hb3:Below w2.heap.size w2 w3:=by rw[hw''];exact below_regrown _ _ _
     clear hw'';go_wp2;go_ret;exact⟨AS (A0 hlt HNO.out).symm,hbr2.trans (hb3.mono hbr2.size)⟩
    |some sv=>
     obtain⟨i,hil,hi,hnm⟩:=Ec hf;have H2':=H2.out i sv hil hi;rw[hnm]at H2';have HH:Hid (Maps.has D (key 1 s.service)=true):=H2'.1;have HA:Hid (D.atKey (key 1 s.service) (.lit (.int .i64 0))=.lit (.int .i64 (i:Int))):=H2'.2;have HCP:Hid (cpB B s=(GM B.now sv s&&DQ B.bts s)):=by unfold Hid cpB;rw[hf]
     obtain⟨z0,z1,z2,z3,z4,z5,z6,z7,z8,z9,z10,z11,z12⟩:=((hatS i sv hi).below hbr2 hbsS).grown;have g0:=Al box2.out 0 rfl;have g1:=Al box2.out 1 rfl;have m0:=Al bxr.out 0 rfl;have m1:=Al bxr.out 1 rfl;have m2:=Al bxr.out 2 rfl;have m3:=Al bxr.out 3 rfl;have m4:=Al bxr.out 4 rfl;have m5:=Al bxr.out 5 rfl;have m6:=Al bxr.out 6 rfl;clear hf H2' hnm hi;cases hok:GM B.now sv s
     ·have HNO:Hid (BP B k=false):=by unfold Hid BP;rw[HSK.out];simp[HCP.out,hok]
      go_wp2_with (at_lookup;refine BA _ rfl (.tmp 32) (.tmp 35) 64 rfl 67 3 .i64 thingLaw Try.underlying64 Try.underlying3 (Cd _) (w.heap.size+1+1) n D rfl hown2 _ _ rfl (C8 1 s.service wf1 hmem.1) (i:Int) true HA.out HH.out ?_)
      refine wp_region_quiet_below (by kernel_rfl) (by kernel_rfl) ?_
      repeat (first|go_big_quiet_step (first|exact Calls.regrown_of (Ba s sv B.now _)|exact Calls.regrown_of (Bc B s (w.heap.size+1+1) _ hmem.2 (pl2.out.below (below_regrown _ _ _) (by omega))))|quiet_step (first|exact Calls.regrown_of (Ba s sv B.now _)|exact Calls.regrown_of (Bc B s (w.heap.size+1+1) _ hmem.2 (pl2.out.below (below_regrown _ _ _) (by omega)))))
      refine wpQuiet_nil ?_;intro w3 hw';obtain⟨⟨dq,osq⟩,hw''⟩:=hw';have hb3:Below w2.heap.size w2 w3:=by rw[hw''];exact below_regrown _ _ _
      clear hw'';go_wp2;go_ret;exact⟨AS (A0 hlt HNO.out).symm,hbr2.trans (hb3.mono hbr2.size)⟩
     cases hbo:DQ B.bts s
     ·have HNO:Hid (BP B k=false):=by unfold Hid BP;rw[HSK.out];simp[HCP.out,hok,hbo]
      go_wp2_with (at_lookup;refine BA _ rfl (.tmp 32) (.tmp 35) 64 rfl 67 3 .i64 thingLaw Try.underlying64 Try.underlying3 (Cd _) (w.heap.size+1+1) n D rfl hown2 _ _ rfl (C8 1 s.service wf1 hmem.1) (i:Int) true HA.out HH.out ?_)
      refine wp_region_quiet_below (by kernel_rfl) (by kernel_rfl) ?_
      repeat (first|go_big_quiet_step (first|exact Calls.regrown_of (Ba s sv B.now _)|exact Calls.regrown_of (Bc B s (w.heap.size+1+1) _ hmem.2 (pl2.out.below (below_regrown _ _ _) (by omega))))|quiet_step (first|exact Calls.regrown_of (Ba s sv B.now _)|exact Calls.regrown_of (Bc B s (w.heap.size+1+1) _ hmem.2 (pl2.out.below (below_regrown _ _ _) (by omega)))))
      refine wpQuiet_nil ?_;intro w3 hw';obtain⟨⟨dq,osq⟩,hw''⟩:=hw';have hb3:Below w2.heap.size w2 w3:=by rw[hw''];exact below_regrown _ _ _
      clear hw'';go_wp2;go_ret;exact⟨AS (A0 hlt HNO.out).symm,hbr2.trans (hb3.mono hbr2.size)⟩
     have HYES:Hid (BP B k=true):=by unfold Hid BP;rw[HSK.out];simp[HCP.out,hok,hbo,HK0.out]
     go_wp2_with (at_lookup;refine BA _ rfl (.tmp 32) (.tmp 35) 64 rfl 67 3 .i64 thingLaw Try.underlying64 Try.underlying3 (Cd _) (w.heap.size+1+1) n D rfl hown2 _ _ rfl (C8 1 s.service wf1 hmem.1) (i:Int) true HA.out HH.out ?_)
     refine wp_region_quiet_below (by kernel_rfl) (by kernel_rfl) ?_
     repeat (first|go_big_quiet_step (first|exact Calls.regrown_of (Ba s sv B.now _)|exact Calls.regrown_of (Bc B s (w.heap.size+1+1) _ hmem.2 (pl2.out.below (below_regrown _ _ _) (by omega))))|quiet_step (first|exact Calls.regrown_of (Ba s sv B.now _)|exact Calls.regrown_of (Bc B s (w.heap.size+1+1) _ hmem.2 (pl2.out.below (below_regrown _ _ _) (by omega)))))
     refine wpQuiet_nil ?_;intro w3 hw';obtain⟨⟨dq,osq⟩,hw''⟩:=hw';have hb3:Below w2.heap.size w2 w3:=by rw[hw''];exact below_regrown _ _ _
     clear hw'';have hb4:=hbr2.trans (hb3.mono hbr2.size);have box3:Hid _:=AL hb3 box2.out (by omega);have pl3:Hid (PlacesAt w3 (w.heap.size+1+1) B B.svcs.length B.bts.length):=pl2.out.below hb3 (by omega);clear g0 g1 m0 m1 m2 m3 m4 m5 m6 z0 z1 z2 z3 z4 z5 z6 z7 z8 z9 z10 z11 z12;go_wp2
     go_roundw
     case rel=>exact⟨k+1,by omega,by go_num,hb4,box3,pl3,BK hall.out HYES.out⟩
     case measure=>simp[intOf];omega
   obtain⟨k',rfl⟩:∃k',k=k'+1:=⟨k - 1,by omega⟩;clear hk0;obtain⟨p,hpk⟩:∃p,B.cps[k']?=some p:=⟨B.cps[k']'(by omega),by rw[List.getElem?_eq_getElem]⟩;have HPK:Hid _:=hpk;obtain⟨y0,y1,y2,y3,y4,y5,y6⟩:=((hat k' p hpk).below (hb.trans (hw1.mono hb.size)) hbs).grown;have gx0:=Al HBX.out 0 rfl;have gx1:=Al HBX.out 1 rfl;have gx2:=Al HBX.out 2 rfl;have gx3:=Al HBX.out 3 rfl;have gx4:=Al HBX.out 4 rfl;have gx5:=Al HBX.out 5 rfl;have gx6:=Al HBX.out 6 rfl;have gb2:=Al hboxr.out 2 rfl;clear hpk hat hne;cases hle:Bg p s
   ·have HNO:Hid (BP B (k'+1)=false):=by unfold Hid BP;rw[HSK.out];simp[HPK.out,hle]
    go_wp2;clear x0 x1 x2 x3 x4 x5 x6;refine wp_region_quiet_below (by kernel_rfl) (by kernel_rfl) ?_
    repeat (first|go_big_quiet_step (exact Calls.regrown_of (CM p s _))|quiet_step (exact Calls.regrown_of (CM p s _)))
    refine wpQuiet_nil ?_;intro w2 hw';obtain⟨⟨dq,osq⟩,hw''⟩:=hw';have hb2:Below (wr.alloc (.cells (cpV s) 35)).heap.size (wr.alloc (.cells (cpV s) 35)) w2:=by rw[hw''];exact below_regrown _ _ _
    clear hw'';go_wp2;go_ret;exact⟨AS (A0 hlt HNO.out).symm,hbr.trans (hb2.mono hbr.size)⟩
   ·have HLE:Hid (Bg p s=true):=hle
    go_wp2;clear x0 x1 x2 x3 x4 x5 x6;refine wp_region_quiet_below (by kernel_rfl) (by kernel_rfl) ?_
    repeat (first|go_big_quiet_step (exact Calls.regrown_of (CM p s _))|quiet_step (exact Calls.regrown_of (CM p s _)))
    refine wpQuiet_nil ?_;intro w2 hw';obtain⟨⟨dq,osq⟩,hw''⟩:=hw';have hb2:Below (wr.alloc (.cells (cpV s) 35)).heap.size (wr.alloc (.cells (cpV s) 35)) w2:=by rw[hw''];exact below_regrown _ _ _
    clear hw'';clear gx0 gx1 gx2 gx3 gx4 gx5 gx6 gb2 hle y0 y1 y2 y3 y4 y5 y6;have hbr2:=hbr.trans (hb2.mono hbr.size);have bxr:Hid _:=AL hb2 HBX.out (by rw[HSZ.out];omega);have box2:Hid _:=AL hb2 hboxr.out (by rw[HSZ.out];omega);have pl2:Hid (PlacesAt w2 (w.heap.size+1+1) B B.svcs.length B.bts.length):=hplr.out.below hb2 (by rw[HSZ.out];omega);have hz2:wr.heap.size<w2.heap.size:=by have:=hb2.size;rw[HSZ.out]at this;omega
    have r0:=AK bxr.out 0 rfl;obtain⟨n,D,hn,hown2,h1,h2,h3,h4⟩:=pl2.out;have H1:Hid _:=h1;have H2:Hid _:=h2;clear h1 h2 h3 h4
    cases hf:Bz B s.service with
    |none=>
     have HNO:Hid (BP B (k'+1)=false):=by unfold Hid BP;rw[HSK.out];simp[cpB,hf]
     have HH:Hid (Maps.has D (key 1 s.service)=false):=H1.out s.service hmem.1 (Ed hf);have HA:Hid (D.atKey (key 1 s.service) (.lit (.int .i64 0))=.lit (.int .i64 0)):=atKey_of_not_has HH.out _
     go_wp2_with (at_lookup;refine BA _ rfl (.tmp 32) (.tmp 35) 64 rfl 67 3 .i64 thingLaw Try.underlying64 Try.underlying3 (Cd _) (w.heap.size+1+1) n D rfl hown2 _ _ rfl (C8 1 s.service wf1 hmem.1) 0 false HA.out HH.out ?_)
     refine wp_region_quiet_below (by kernel_rfl) (by kernel_rfl) ?_
     repeat (first|go_big_quiet_step (fail)|quiet_step (fail))
     refine wpQuiet_nil ?_;intro w3 hw';obtain⟨⟨dq,osq⟩,hw''⟩:=hw';have hb3:Below w2.heap.size w2 w3:=by rw[hw''];exact below_regrown _ _ _
     clear hw'';go_wp2;go_ret;exact⟨AS (A0 hlt HNO.out).symm,hbr2.trans (hb3.mono hbr2.size)⟩
    |some sv=>
     obtain⟨i,hil,hi,hnm⟩:=Ec hf;have H2':=H2.out i sv hil hi;rw[hnm]at H2';have HH:Hid (Maps.has D (key 1 s.service)=true):=H2'.1;have HA:Hid (D.atKey (key 1 s.service) (.lit (.int .i64 0))=.lit (.int .i64 (i:Int))):=H2'.2;have HCP:Hid (cpB B s=(GM B.now sv s&&DQ B.bts s)):=by unfold Hid cpB;rw[hf]
     obtain⟨z0,z1,z2,z3,z4,z5,z6,z7,z8,z9,z10,z11,z12⟩:=((hatS i sv hi).below hbr2 hbsS).grown;have g0:=Al box2.out 0 rfl;have g1:=Al box2.out 1 rfl;have m0:=Al bxr.out 0 rfl;have m1:=Al bxr.out 1 rfl;have m2:=Al bxr.out 2 rfl;have m3:=Al bxr.out 3 rfl;have m4:=Al bxr.out 4 rfl;have m5:=Al bxr.out 5 rfl;have m6:=Al bxr.out 6 rfl;clear hf H2' hnm hi;cases hok:GM B.now sv s
     ·have HNO:Hid (BP B (k'+1)=false):=by unfold Hid BP;rw[HSK.out];simp[HCP.out,hok]
      go_wp2_with (at_lookup;refine BA _ rfl (.tmp 32) (.tmp 35) 64 rfl 67 3 .i64 thingLaw Try.underlying64 Try.underlying3 (Cd _) (w.heap.size+1+1) n D rfl hown2 _ _ rfl (C8 1 s.service wf1 hmem.1) (i:Int) true HA.out HH.out ?_)
      refine wp_region_quiet_below (by kernel_rfl) (by kernel_rfl) ?_
      repeat (first|go_big_quiet_step (first|exact Calls.regrown_of (Ba s sv B.now _)|exact Calls.regrown_of (Bc B s (w.heap.size+1+1) _ hmem.2 (pl2.out.below (below_regrown _ _ _) (by omega))))|quiet_step (first|exact Calls.regrown_of (Ba s sv B.now _)|exact Calls.regrown_of (Bc B s (w.heap.size+1+1) _ hmem.2 (pl2.out.below (below_regrown _ _ _) (by omega)))))
      refine wpQuiet_nil ?_;intro w3 hw';obtain⟨⟨dq,osq⟩,hw''⟩:=hw';have hb3:Below w2.heap.size w2 w3:=by rw[hw''];exact below_regrown _ _ _
      clear hw'';go_wp2;go_ret;exact⟨AS (A0 hlt HNO.out).symm,hbr2.trans (hb3.mono hbr2.size)⟩
     cases hbo:DQ B.bts s
     ·have HNO:Hid (BP B (k'+1)=false):=by unfold Hid BP;rw[HSK.out];simp[HCP.out,hok,hbo]
      go_wp2_with (at_lookup;refine BA _ rfl (.tmp 32) (.tmp 35) 64 rfl 67 3 .i64 thingLaw Try.underlying64 Try.underlying3 (Cd _) (w.heap.size+1+1) n D rfl hown2 _ _ rfl (C8 1 s.service wf1 hmem.1) (i:Int) true HA.out HH.out ?_)
      refine wp_region_quiet_below (by kernel_rfl) (by kernel_rfl) ?_
      repeat (first|go_big_quiet_step (first|exact Calls.regrown_of (Ba s sv B.now _)|exact Calls.regrown_of (Bc B s (w.heap.size+1+1) _ hmem.2 (pl2.out.below (below_regrown _ _ _) (by omega))))|quiet_step (first|exact Calls.regrown_of (Ba s sv B.now _)|exact Calls.regrown_of (Bc B s (w.heap.size+1+1) _ hmem.2 (pl2.out.below (below_regrown _ _ _) (by omega)))))
      refine wpQuiet_nil ?_;intro w3 hw';obtain⟨⟨dq,osq⟩,hw''⟩:=hw';have hb3:Below w2.heap.size w2 w3:=by rw[hw''];exact below_regrown _ _ _
      clear hw'';go_wp2;go_ret;exact⟨AS (A0 hlt HNO.out).symm,hbr2.trans (hb3.mono hbr2.size)⟩
     have HYES:Hid (BP B (k'+1)=true):=by unfold Hid BP;rw[HSK.out];simp[HCP.out,hok,hbo,HPK.out,HLE.out]
     go_wp2_with (at_lookup;refine BA _ rfl (.tmp 32) (.tmp 35) 64 rfl 67 3 .i64 thingLaw Try.underlying64 Try.underlying3 (Cd _) (w.heap.size+1+1) n D rfl hown2 _ _ rfl (C8 1 s.service wf1 hmem.1) (i:Int) true HA.out HH.out ?_)
     refine wp_region_quiet_below (by kernel_rfl) (by kernel_rfl) ?_
     repeat (first|go_big_quiet_step (first|exact Calls.regrown_of (Ba s sv B.now _)|exact Calls.regrown_of (Bc B s (w.heap.size+1+1) _ hmem.2 (pl2.out.below (below_regrown _ _ _) (by omega))))|quiet_step (first|exact Calls.regrown_of (Ba s sv B.now _)|exact Calls.regrown_of (Bc B s (w.heap.size+1+1) _ hmem.2 (pl2.out.below (below_regrown _ _ _) (by omega)))))
     refine wpQuiet_nil ?_;intro w3 hw';obtain⟨⟨dq,osq⟩,hw''⟩:=hw';have hb3:Below w2.heap.size w2 w3:=by rw[hw''];exact below_regrown _ _ _
     clear hw'';have hb4:=hbr2.trans (hb3.mono hbr2.size);have box3:Hid _:=AL hb3 box2.out (by omega);have pl3:Hid (PlacesAt w3 (w.heap.size+1+1) B B.svcs.length B.bts.length):=pl2.out.below hb3 (by omega);clear g0 g1 m0 m1 m2 m3 m4 m5 m6 z0 z1 z2 z3 z4 z5 z6 z7 z8 z9 z10 z11 z12;go_wp2
     go_roundw
     case rel=>exact⟨(k'+1)+1,by omega,by go_num,hb4,box3,pl3,BK hall.out HYES.out⟩
     case measure=>simp[intOf];omega
  ·go_wp2
   go_ret;exact⟨AS (Cu λi hi=>hall.out i (by omega)).symm,hb⟩
def bkP(B:Bk):Nat->Bool
 |0=>inB B.now 0 1000000
 |1=>decide (B.svcs.length<=8)&&decide (B.cps.length<=200)&&decide (B.bts.length<=6)
 |2=>BY (BT B) B.svcs.length
 |3=>BY (Ct B) B.bts.length
 |_=>BY (BP B) B.cps.length
theorem bkP_all(B:Bk):BY (bkP B) 5=Au B:=by
 have h:BY (bkP B) 5=(bkP B 0&&(bkP B 1&&(bkP B 2&&(bkP B 3&&(bkP B 4&&true))))):=rfl;rw[h];simp only[bkP,Au,Bool.and_true,Bool.and_assoc]
theorem Ku{B:Bk}(h:∀i,i<B.svcs.length->BT B i=true):∀(j i:Nat) s t,i<j->B.svcs[i]?=some s->B.svcs[j]?=some t->Op.bytesLess s.name.toList t.name.toList=true
 |0,i,_,_,hi,_,_=>absurd hi (by omega)
 |j+1,i,s,t,hi,hs,ht=>by
  have hlt:j+1<B.svcs.length:=(AC ht).1;obtain⟨p,hp⟩:∃p,B.svcs[j]?=some p:=⟨B.svcs[j]'(by omega),by rw[List.getElem?_eq_getElem]⟩
  have h1:Op.bytesLess p.name.toList t.name.toList=true:=by
   have:=h (j+1) hlt;unfold BT at this;rw[ht]at this;simp[hp]at this;exact this.2
  rcases Nat.lt_or_ge i j with h'|h'
  ·exact DZ _ _ _ (Ku h j i s p h' hs hp) h1
  ·have e:i=j:=by omega
   subst e;rw[hp]at hs;cases hs;exact h1
theorem Iq{B:Bk}(h:BY (BT B) B.svcs.length=true):IQ B:=λi j s t hij hs ht e=>by
 have h':∀i,i<B.svcs.length->BT B i=true:=λi hi=>by
  unfold BY at h;exact List.all_eq_true.1 h i (List.mem_range.2 hi)
 have:=Ku h' j i s t hij hs ht;rw[e,CO]at this;cases this
theorem GN(B:Bk)(a1 a2 a3:Option Addr)(c1 c2 c3:Nat)(w:World)(hS:B.small)(hZ:B.sized)(hU:IQ B)(hB:BkAt w a1 a2 a3 B):
  Calls Try.prog 45 #[.agg #[.int .i64 B.now,.slice a1 B.svcs.length c1,.slice a2 B.cps.length c2,.slice a3 B.bts.length c3]] w λe w'=>e=.returned (.bool (BY (BP B) B.cps.length))/\Below w.heap.size w w':=by
 by_cases h:B.svcs=[]
 ·exact Jt B a1 a2 a3 c1 c2 c3 w hS hZ hU hB h
 ·exact Il B a1 a2 a3 c1 c2 c3 w hS hZ hU hB h
def FnsB(w:World)(b:Nat):Prop:=w.heap[b]?=some (.cells #[.func (.func 41) #[] #[],.func (.func 42) #[] #[],.func (.func 43) #[] #[],.func (.func 44) #[] #[],.func (.func 45) #[] #[]] 38 (0,0))
theorem Le(B:Bk)(a1 a2 a3:Option Addr)(c1 c2 c3:Nat)(b:Nat)(w:World)(hS:B.small)(hZ:B.sized)(hB:BkAt w a1 a2 a3 B)(hF:FnsB w b):
  Calls Try.prog 40 #[.agg #[.int .i64 B.now,.slice a1 B.svcs.length c1,.slice a2 B.cps.length c2,.slice a3 B.bts.length c3],.slice (some ⟨b,0,none⟩) 5 5] w λe w'=>e=.returned (.bool (BY (bkP B) 5))/\Below w.heap.size w w':=by
 have hbx:=AO w (.cells (bkV B a1 c1 a2 c2 a3 c3) 27);have hbox:Hid _:=heap_alloc_new w (.cells (bkV B a1 c1 a2 c2 a3 c3) 27);have hblt:b<w.heap.size:=(AB hF).1;have HF:Hid (FnsB w b):=hF;clear hF;go_enter Try.func40,Try.ntmps40;go_wp2
 go_loopw [9] (λiv wr=>∃k:Nat,k<=5/\iv=.int .i64 k/\Below w.heap.size w wr/\Hid (Bl wr (w.heap.size) (bkV B a1 c1 a2 c2 a3 c3) 27)/\Hid (∀i,i<k->bkP B i=true)) (λi _=>5 - (intOf i).toNat)
 case atStart=>exact⟨0,by omega,rfl,hbx,hbox,λi hi=>absurd hi (by omega)⟩
 case round=>
  obtain⟨k,hk,rfl,hb,hbox1,hall⟩:=hrel;have hNlt:w.heap.size<wr.heap.size:=(AB hbox1.out).1;have hfn:Hid _:=AL hb HF.out hblt;obtain⟨x0,x1,x2,x3⟩:=c4 hbox1.out
  by_cases h0:k=0
  ·subst h0
   have f0:=AK hfn.out 0 rfl;cases hv:(inB B.now 0 1000000)
   ·have HV:Hid (bkP B 0=false):=hv
    go_wp2_with fail
    refine(Hd B a1 a2 a3 c1 c2 c3 _).mono ?_;rintro e w1 ⟨he,hb1⟩;subst he;have hb2:=hb.trans (hb1.mono hb.size);rw[hv];clear x0 x1 x2 x3 f0;go_wp2;go_ret;exact⟨AS (A0 (by omega) HV.out).symm,hb2⟩
   ·have HV:Hid (bkP B 0=true):=hv
    go_wp2_with fail
    refine(Hd B a1 a2 a3 c1 c2 c3 _).mono ?_;rintro e w1 ⟨he,hb1⟩;subst he;have hb2:=hb.trans (hb1.mono hb.size);have hbox2:Hid _:=AL hb1 hbox1.out hNlt;rw[hv];clear x0 x1 x2 x3 f0;go_wp2
    go_roundw
    case rel=>exact⟨0+1,by omega,by go_num,hb2,hbox2,BK hall.out HV.out⟩
    case measure=>simp[intOf]
  by_cases h1:k=1
  ·subst h1
   have f1:=AK hfn.out 1 rfl;cases hv:(decide (B.svcs.length<=8)&&decide (B.cps.length<=200)&&decide (B.bts.length<=6))
   ·have HV:Hid (bkP B 1=false):=hv
    go_wp2_with fail
    refine(Gf B a1 a2 a3 c1 c2 c3 _ hS).mono ?_;rintro e w1 ⟨he,hb1⟩;subst he;have hb2:=hb.trans (hb1.mono hb.size);rw[hv];clear x0 x1 x2 x3 f1;go_wp2;go_ret;exact⟨AS (A0 (by omega) HV.out).symm,hb2⟩
   ·have HV:Hid (bkP B 1=true):=hv
    go_wp2_with fail
    refine(Gf B a1 a2 a3 c1 c2 c3 _ hS).mono ?_;rintro e w1 ⟨he,hb1⟩;subst he;have hb2:=hb.trans (hb1.mono hb.size);have hbox2:Hid _:=AL hb1 hbox1.out hNlt;rw[hv];clear x0 x1 x2 x3 f1;go_wp2
    go_roundw
    case rel=>exact⟨1+1,by omega,by go_num,hb2,hbox2,BK hall.out HV.out⟩
    case measure=>simp[intOf]
  by_cases h2:k=2
  ·subst h2
   have f2:=AK hfn.out 2 rfl;cases hv:(BY (BT B) B.svcs.length)
   ·have HV:Hid (bkP B 2=false):=hv
    go_wp2_with fail
    refine(FR B a1 a2 a3 c1 c2 c3 _ hS hZ (hB.below hb)).mono ?_;rintro e w1 ⟨he,hb1⟩;subst he;have hb2:=hb.trans (hb1.mono hb.size);rw[hv];clear x0 x1 x2 x3 f2;go_wp2;go_ret;exact⟨AS (A0 (by omega) HV.out).symm,hb2⟩
   ·have HV:Hid (bkP B 2=true):=hv
    go_wp2_with fail
    refine(FR B a1 a2 a3 c1 c2 c3 _ hS hZ (hB.below hb)).mono ?_;rintro e w1 ⟨he,hb1⟩;subst he;have hb2:=hb.trans (hb1.mono hb.size);have hbox2:Hid _:=AL hb1 hbox1.out hNlt;rw[hv];clear x0 x1 x2 x3 f2;go_wp2
    go_roundw
    case rel=>exact⟨2+1,by omega,by go_num,hb2,hbox2,BK hall.out HV.out⟩
    case measure=>simp[intOf]
  by_cases h3:k=3
  ·subst h3
   have f3:=AK hfn.out 3 rfl;cases hv:(BY (Ct B) B.bts.length)
   ·have HV:Hid (bkP B 3=false):=hv
    go_wp2_with fail
    refine(GP B a1 a2 a3 c1 c2 c3 _ hS hZ (hB.below hb)).mono ?_;rintro e w1 ⟨he,hb1⟩;subst he;have hb2:=hb.trans (hb1.mono hb.size);rw[hv];clear x0 x1 x2 x3 f3;go_wp2;go_ret;exact⟨AS (A0 (by omega) HV.out).symm,hb2⟩
   ·have HV:Hid (bkP B 3=true):=hv
    go_wp2_with fail
    refine(GP B a1 a2 a3 c1 c2 c3 _ hS hZ (hB.below hb)).mono ?_;rintro e w1 ⟨he,hb1⟩;subst he;have hb2:=hb.trans (hb1.mono hb.size);have hbox2:Hid _:=AL hb1 hbox1.out hNlt;rw[hv];clear x0 x1 x2 x3 f3;go_wp2
    go_roundw
    case rel=>exact⟨3+1,by omega,by go_num,hb2,hbox2,BK hall.out HV.out⟩
    case measure=>simp[intOf]
  by_cases h4:k=4
  ·subst h4
   have f4:=AK hfn.out 4 rfl;cases hv:(BY (BP B) B.cps.length)
   ·have HV:Hid (bkP B 4=false):=hv
    go_wp2_with fail
    refine(GN B a1 a2 a3 c1 c2 c3 _ hS hZ (Iq (hall.out 2 (by omega))) (hB.below hb)).mono ?_;rintro e w1 ⟨he,hb1⟩;subst he;have hb2:=hb.trans (hb1.mono hb.size);rw[hv];clear x0 x1 x2 x3 f4;go_wp2;go_ret;exact⟨AS (A0 (by omega) HV.out).symm,hb2⟩
   ·have HV:Hid (bkP B 4=true):=hv
    go_wp2_with fail
    refine(GN B a1 a2 a3 c1 c2 c3 _ hS hZ (Iq (hall.out 2 (by omega))) (hB.below hb)).mono ?_;rintro e w1 ⟨he,hb1⟩;subst he;have hb2:=hb.trans (hb1.mono hb.size);have hbox2:Hid _:=AL hb1 hbox1.out hNlt;rw[hv];clear x0 x1 x2 x3 f4;go_wp2
    go_roundw
    case rel=>exact⟨4+1,by omega,by go_num,hb2,hbox2,BK hall.out HV.out⟩
    case measure=>simp[intOf]
  ·have h5:k=5:=by omega
   subst h5;clear x0 x1 x2 x3;go_wp2;go_ret;exact⟨AS (Cu hall.out).symm,hb⟩
theorem Gk(B:Bk)(a1 a2 a3:Option Addr)(c1 c2 c3:Nat)(w:World)(hS:B.small)(hZ:B.sized)(hB:BkAt w a1 a2 a3 B):
  Calls Try.prog 16 #[.agg #[.int .i64 B.now,.slice a1 B.svcs.length c1,.slice a2 B.cps.length c2,.slice a3 B.bts.length c3]] w λe w'=>e=.returned (.bool (Au B))/\Below w.heap.size w w':=by
 obtain⟨t0,t1,t2⟩:=Bh w (.cells (bkV B a1 c1 a2 c2 a3 c3) 27) (.cells #[.func (.func 41) #[] #[],.func (.func 42) #[] #[],.func (.func 43) #[] #[],.func (.func 44) #[] #[],.func (.func 45) #[] #[]] 38);have hb0:Below w.heap.size w ((w.alloc (.cells (bkV B a1 c1 a2 c2 a3 c3) 27)).alloc (.cells #[.func (.func 41) #[] #[],.func (.func 42) #[] #[],.func (.func 43) #[] #[],.func (.func 44) #[] #[],.func (.func 45) #[] #[]] 38)):=((Below.refl _ _).alloc (AG _) _).alloc (by simp) _;have T1:Hid _:=t1;clear t0 t1 t2;go_enter Try.func16,Try.ntmps16
 go_wp2_with fail
 refine(Le B a1 a2 a3 c1 c2 c3 (w.heap.size+1) _ hS hZ (hB.below hb0) T1.out).mono ?_;rintro e w1 ⟨rfl,hb1⟩;rw[bkP_all];go_wp2;go_ret;exact⟨rfl,hb0.trans (hb1.mono hb0.size)⟩
end
end Go.Proofs.Ytbceafpodamnfaa
