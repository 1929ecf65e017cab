import Derived.Test.YtbceafpodamnfaaGreatH21
set_option linter.all false
set_option maxHeartbeats 16000000
namespace Go.Proofs.YtbceafpodamnfaaGreat
section
open Go.RowKit Go.Sort Go.Maps
theorem same_name{a b:ByteArray}:(a.toList==b.toList)=true↔a=b:=by
 rw[beq_iff_eq,ByteArray.toList_eq,ByteArray.toList_eq];constructor
 ·intro h
  cases a;cases b;simp only[ByteArray.mk.injEq];exact Array.toList_inj.1 h
 ·intro h;rw[h]
theorem OY{D:DataW Unit}{B:Bk}{x:ByteArray}(hx:x.size<=maxLen)
  (h3:∀x:ByteArray,x.size<=maxLen->(∀(i:Nat) s,i<B.bts.length->B.bts[i]?=some s->s.name≠x)->Maps.has D (key 2 x)=false)
  (h4:∀(i:Nat) s,i<B.bts.length->B.bts[i]?=some s->Maps.has D (key 2 s.name)=true):Maps.has D (key 2 x)=B.bts.any λb=>b.name.toList==x.toList:=by
 cases h:B.bts.any λb=>b.name.toList==x.toList with
 |true=>
  obtain⟨s,hs,he⟩:=List.any_eq_true.1 h;obtain⟨i,hi,rfl⟩:=List.mem_iff_getElem.1 hs;have e:=same_name.1 he;rw[<-e];exact h4 i _ hi (List.getElem?_eq_getElem hi)
 |false=>
  rw[List.any_eq_false]at h;exact h3 x hx λi s hi hs e=>h s (AE hs) (same_name.2 e)
theorem Ee{B:Bk}{x:ByteArray}(h:Db B x=none):∀(i:Nat) s,i<B.svcs.length->B.svcs[i]?=some s->s.name≠x:=λi s _ hs e=>by
 unfold Db at h;rw[List.find?_eq_none]at h;exact h s (AE hs) (same_name.2 e)
theorem Io{B:Bk}{x:ByteArray}{s:Svc}(h:Db B x=some s):∃i:Nat,i<B.svcs.length/\B.svcs[i]?=some s/\s.name=x:=by
 unfold Db at h;obtain⟨i,hi,_⟩:=GH h;exact⟨i,(AC hi).1,hi,same_name.1 (List.find?_some (p:=λs:Svc=>s.name.toList==x.toList) h)⟩
theorem BK(B:Bk)(c:Cp)(b:Nat)(w:World)(hc:c.berth.size<=maxLen)(hP:PlacesAt w b B B.svcs.length B.bts.length):
  Calls Tryz.prog 51 #[.agg #[.string c.service,.int .i64 c.number,.int .i64 c.version,.int .i64 c.image,.int .i64 c.state,.bool c.ending,.string c.berth],.map (some b)] w λe w'=>e=.returned (.bool (Bq B.bts c))/\Below w.heap.size w w':=by
 by_cases h5:c.state=1
 ·have H5:Hid (c.state=1):=h5
  have h5':(c.state==1)=true:=by simp[h5]
  clear h5;go_enter Tryz.func51,Tryz.ntmps51;go_wp2;go_ret;exact⟨AR (by simp[Bq,H5.out]),AM _ _⟩
 ·have H5:Hid (¬c.state=1):=h5
  have h5':(c.state==1)=false:=by simp[h5]
  clear h5;obtain⟨n,D,hn,hown,h1,h2,h3,h4⟩:=hP;have HB:Hid (Maps.has D (key 2 c.berth)=B.bts.any λb=>b.name.toList==c.berth.toList):=OY hc h3 h4;clear h1 h2 h3 h4;go_enter Tryz.func51,Tryz.ntmps51
  go_wp2_with (at_lookup;refine wpList_lookup_own_ok_int _ rfl (.tmp 14) (.tmp 17) 75 rfl 79 3 .i64 thingLaw Tryz.underlying75 Tryz.underlying3 (Bz _) b n D rfl (hown.alloc _) _ _ rfl (B9 2 c.berth wf2 hc) ?_;intro z hat hwz)
  go_ret;exact⟨AR (by rw[HB.out];simp[Bq,H5.out]),AM _ _⟩
theorem Ae{H:Type}{P:Program}(w:World){ops:Array Oper}{rest:List Oper}{o:Oper}{a:Act}{Q:Exit->Act->World->Prop}(hg:o.guard=none)(m x:Operand)(t:TypeId)(hop:o.op=Op.lookup t m x true)
  (k e:TypeId) (q:IntKind) (K:Keyed P k) (ht:P.underlying t=some (.map k e)) (he:P.underlying e=some (.int q)) (hz:(zeroValue e).run P w=.ok (.int q 0) w) (b n:Nat) (D:DataW H)
  (hm:a.eval m=.map (some b)) (hown:w.ownsMap P k (plainElem P e) b n D) (key:Value) (kl:Lit) (hx:a.eval x=key) (hkey:keyOf P k key=some kl)
  (c0:Int) (bb:Bool) (hat:D.atKey kl (.lit (.int q 0))=.lit (.int q c0)) (hhas:Maps.has D kl=bb)
  (hK:wpList P ops Q rest (a.put o.dst (.tuple #[.int q c0,.bool bb])) w):wpList P ops Q (o::rest) a w:=
 wpList_lookup_own_ok_int w hg m x t hop k e q K ht he hz b n D hm hown key kl hx hkey (λc hc _=>by
  rw[hat]at hc;have hcc:c0=c:=by simpa using hc
  subst hcc;rw[hhas]
  exact hK)
theorem Jb(B:Bk)(a1 a2 a3:Option Addr)(c1 c2 c3:Nat)(w:World)(hS:B.small)(hZ:B.sized)(hU:FK B)(hB:BkAt w a1 a2 a3 B)(hnil:B.svcs=[]):
  Calls Tryz.prog 27 #[.agg #[.int .i64 B.now,.slice a1 B.svcs.length c1,.slice a2 B.cps.length c2,.slice a3 B.bts.length c3]] w λe w'=>e=.returned (.bool (BH (BD B) B.cps.length))/\Below w.heap.size w w':=by
 have HNIL:Hid (B.svcs=[]):=hnil;clear hnil;have hS':=hS;obtain⟨hl1,hl2,hl3⟩:=hS';have T0:Hid _:=heap_alloc_new w (.cells #[.int .i64 B.now,.slice a1 B.svcs.length c1,.slice a2 B.cps.length c2,.slice a3 B.bts.length c3] 27);have hb0:=AM w (.cells #[.int .i64 B.now,.slice a1 B.svcs.length c1,.slice a2 B.cps.length c2,.slice a3 B.bts.length c3] 27);have hs0:(w.alloc (.cells #[.int .i64 B.now,.slice a1 B.svcs.length c1,.slice a2 B.cps.length c2,.slice a3 B.bts.length c3] 27)).heap.size=w.heap.size+1:=by show(w.heap.push _).size=_;simp
 have HS0:Hid _:=hs0;clear hs0;go_enter Tryz.func27,Tryz.ntmps27
 go_wp2_with fail
 refine(Gb B _ a2 a3 c1 c2 c3 _ hS hZ hU (hB.below hb0)).mono ?_;rintro e w0 ⟨rfl,hpl0,hb1⟩;rw[HS0.out]at hpl0 hb1;rw[HS0.out];have hbb0:=hb0.trans (hb1.mono (by omega));have T0':Hid _:=AK hb1 T0.out (by omega);have HP0:Hid _:=hpl0;have e2:=AJ T0'.out 2 rfl;clear hpl0 hb1;go_wp2;clear e2
 go_loopw [13] (λiv wr=>∃k:Nat,k<=B.cps.length/\iv=.int .i64 k/\Below w.heap.size w wr/\Hid (wr.heap[w.heap.size]?=some (.cells #[.int .i64 B.now,.slice a1 B.svcs.length c1,.slice a2 B.cps.length c2,.slice a3 B.bts.length c3] 27 (0,0)))/\Hid (PlacesAt wr (w.heap.size+1+1) B B.svcs.length B.bts.length)/\Hid (∀i,i<k->BD B i=true)) (λi _=>B.cps.length - (intOf i).toNat)
 case atStart=>exact⟨0,by omega,rfl,hbb0,T0',HP0,λi hi=>absurd hi (by omega)⟩
 case round=>
  clear hbb0 T0' HP0;obtain⟨k,hk,rfl,hb,hbox,hpl,hall⟩:=hrel;have hNlt:w.heap.size+1+1<wr.heap.size:=hpl.out.lt
  by_cases hlt:k<B.cps.length
  ·have hne:B.cps≠[]:=by intro h;rw[h]at hlt;simp at hlt
   obtain⟨b,off,ea,hbs,hat⟩:=hB.2.1 hne;subst ea;obtain⟨s,hsk⟩:∃s,B.cps[k]?=some s:=⟨B.cps[k],by simp[hlt]⟩;have hmem:=hZ.2.2.2.2.1 s (AE hsk);have HSK:Hid _:=hsk;have hcs:=(hat k s hsk).below hb hbs;unfold CpAt at hcs;obtain⟨x0,x1,x2,x3,x4,x5,x6⟩:=hcs;have hbr:Below w.heap.size w (wr.alloc (.cells #[.string s.service,.int .i64 s.number,.int .i64 s.version,.int .i64 s.image,.int .i64 s.state,.bool s.ending,.string s.berth] 49)):=hb.alloc hb.size _;have HSZ:Hid ((wr.alloc (.cells #[.string s.service,.int .i64 s.number,.int .i64 s.version,.int .i64 s.image,.int .i64 s.state,.bool s.ending,.string s.berth] 49)).heap.size=wr.heap.size+1):=by show(wr.heap.push _).size=_;simp
   have HBX:Hid _:=heap_alloc_new wr (.cells #[.string s.service,.int .i64 s.number,.int .i64 s.version,.int .i64 s.image,.int .i64 s.state,.bool s.ending,.string s.berth] 49);have hw1:=AM wr (.cells #[.string s.service,.int .i64 s.number,.int .i64 s.version,.int .i64 s.image,.int .i64 s.state,.bool s.ending,.string s.berth] 49);have hboxr:Hid _:=AK hw1 hbox.out (by omega);have hplr:Hid (PlacesAt (wr.alloc (.cells #[.string s.service,.int .i64 s.number,.int .i64 s.version,.int .i64 s.image,.int .i64 s.state,.bool s.ending,.string s.berth] 49)) (w.heap.size+1+1) B B.svcs.length B.bts.length):=hpl.out.below hw1 hNlt;clear hsk
   by_cases hk0:k=0
   ·have HK0:Hid (k=0):=hk0
    have hz:decide (0<k)=false:=by simp;omega
    clear hk0 hat hne;go_wp2;clear x0 x1 x2 x3 x4 x5 x6;refine wp_region_quiet_below (by kernel_rfl) (by kernel_rfl) ?_
    repeat (first|go_big_quiet_step (fail)|quiet_step (fail))
    refine wpQuiet_nil ?_;intro w2 hw';obtain⟨⟨dq,osq⟩,hw''⟩:=hw';have hb2:Below (wr.alloc (.cells #[.string s.service,.int .i64 s.number,.int .i64 s.version,.int .i64 s.image,.int .i64 s.state,.bool s.ending,.string s.berth] 49)).heap.size (wr.alloc (.cells #[.string s.service,.int .i64 s.number,.int .i64 s.version,.int .i64 s.image,.int .i64 s.state,.bool s.ending,.string s.berth] 49)) w2:=by rw[hw''];exact below_regrown _ _ _
    clear hw'';have hbr2:=hbr.trans (hb2.mono hbr.size);have bxr:Hid _:=AK hb2 HBX.out (by rw[HSZ.out];omega);have box2:Hid _:=AK hb2 hboxr.out (by rw[HSZ.out];omega);have pl2:Hid (PlacesAt w2 (w.heap.size+1+1) B B.svcs.length B.bts.length):=hplr.out.below hb2 (by rw[HSZ.out];omega);have hz2:wr.heap.size<w2.heap.size:=by have:=hb2.size;rw[HSZ.out]at this;omega
    have r0:=AJ bxr.out 0 rfl;obtain⟨n,D,hn,hown2,h1,h2,h3,h4⟩:=pl2.out;have H1:Hid _:=h1;have H2:Hid _:=h2;clear h1 h2 h3 h4;have hf:Db B s.service=none:=by unfold Db;rw[HNIL.out];rfl
    have HNO:Hid (BD B k=false):=by unfold Hid BD;rw[HSK.out];simp[cpB,hf]
    have HH:Hid (Maps.has D (key 1 s.service)=false):=H1.out s.service hmem.1 (Ee hf);have HA:Hid (D.atKey (key 1 s.service) (.lit (.int .i64 0))=.lit (.int .i64 0)):=atKey_of_not_has HH.out _
    go_wp2_with (at_lookup;refine Ae _ rfl (.tmp 32) (.tmp 35) 75 rfl 79 3 .i64 thingLaw Tryz.underlying75 Tryz.underlying3 (Bz _) (w.heap.size+1+1) n D rfl hown2 _ _ rfl (B9 1 s.service wf1 hmem.1) 0 false HA.out HH.out ?_)
    refine wp_region_quiet_below (by kernel_rfl) (by kernel_rfl) ?_
    repeat (first|go_big_quiet_step (fail)|quiet_step (fail))
    refine wpQuiet_nil ?_;intro w3 hw';obtain⟨⟨dq,osq⟩,hw''⟩:=hw';have hb3:Below w2.heap.size w2 w3:=by rw[hw''];exact below_regrown _ _ _
    clear hw'';go_wp2;go_ret;exact⟨AR (Al hlt HNO.out).symm,hbr2.trans (hb3.mono hbr2.size)⟩
   obtain⟨k',rfl⟩:∃k',k=k'+1:=⟨k - 1,by omega⟩;clear hk0;obtain⟨p,hpk⟩:∃p,B.cps[k']?=some p:=⟨B.cps[k']'(by omega),by rw[List.getElem?_eq_getElem]⟩;have HPK:Hid _:=hpk;obtain⟨y0,y1,y2,y3,y4,y5,y6⟩:=((hat k' p hpk).below (hb.trans (hw1.mono hb.size)) hbs).grown;have gx0:=Aa HBX.out 0 rfl;have gx1:=Aa HBX.out 1 rfl;have gx2:=Aa HBX.out 2 rfl;have gx3:=Aa HBX.out 3 rfl;have gx4:=Aa HBX.out 4 rfl;have gx5:=Aa HBX.out 5 rfl;have gx6:=Aa HBX.out 6 rfl;have gb2:=Aa hboxr.out 2 rfl;clear hpk hat hne;cases hle:Bu p s
   ·have HNO:Hid (BD B (k'+1)=false):=by unfold Hid BD;rw[HSK.out];simp[HPK.out,hle]
    go_wp2;clear x0 x1 x2 x3 x4 x5 x6;refine wp_region_quiet_below (by kernel_rfl) (by kernel_rfl) ?_
    repeat (first|go_big_quiet_step (exact Calls.regrown_of (B4 p s _))|quiet_step (exact Calls.regrown_of (B4 p s _)))
    refine wpQuiet_nil ?_;intro w2 hw';obtain⟨⟨dq,osq⟩,hw''⟩:=hw';have hb2:Below (wr.alloc (.cells #[.string s.service,.int .i64 s.number,.int .i64 s.version,.int .i64 s.image,.int .i64 s.state,.bool s.ending,.string s.berth] 49)).heap.size (wr.alloc (.cells #[.string s.service,.int .i64 s.number,.int .i64 s.version,.int .i64 s.image,.int .i64 s.state,.bool s.ending,.string s.berth] 49)) w2:=by rw[hw''];exact below_regrown _ _ _
    clear hw'';go_wp2;go_ret;exact⟨AR (Al hlt HNO.out).symm,hbr.trans (hb2.mono hbr.size)⟩
   ·have HLE:Hid (Bu p s=true):=hle
    go_wp2;clear x0 x1 x2 x3 x4 x5 x6;refine wp_region_quiet_below (by kernel_rfl) (by kernel_rfl) ?_
    repeat (first|go_big_quiet_step (exact Calls.regrown_of (B4 p s _))|quiet_step (exact Calls.regrown_of (B4 p s _)))
    refine wpQuiet_nil ?_;intro w2 hw';obtain⟨⟨dq,osq⟩,hw''⟩:=hw';have hb2:Below (wr.alloc (.cells #[.string s.service,.int .i64 s.number,.int .i64 s.version,.int .i64 s.image,.int .i64 s.state,.bool s.ending,.string s.berth] 49)).heap.size (wr.alloc (.cells #[.string s.service,.int .i64 s.number,.int .i64 s.version,.int .i64 s.image,.int .i64 s.state,.bool s.ending,.string s.berth] 49)) w2:=by rw[hw''];exact below_regrown _ _ _
    clear hw'';clear gx0 gx1 gx2 gx3 gx4 gx5 gx6 gb2 hle y0 y1 y2 y3 y4 y5 y6;have hbr2:=hbr.trans (hb2.mono hbr.size);have bxr:Hid _:=AK hb2 HBX.out (by rw[HSZ.out];omega);have box2:Hid _:=AK hb2 hboxr.out (by rw[HSZ.out];omega);have pl2:Hid (PlacesAt w2 (w.heap.size+1+1) B B.svcs.length B.bts.length):=hplr.out.below hb2 (by rw[HSZ.out];omega);have hz2:wr.heap.size<w2.heap.size:=by have:=hb2.size;rw[HSZ.out]at this;omega
    have r0:=AJ bxr.out 0 rfl;obtain⟨n,D,hn,hown2,h1,h2,h3,h4⟩:=pl2.out;have H1:Hid _:=h1;have H2:Hid _:=h2;clear h1 h2 h3 h4;have hf:Db B s.service=none:=by unfold Db;rw[HNIL.out];rfl
    have HNO:Hid (BD B (k'+1)=false):=by unfold Hid BD;rw[HSK.out];simp[cpB,hf]
    have HH:Hid (Maps.has D (key 1 s.service)=false):=H1.out s.service hmem.1 (Ee hf);have HA:Hid (D.atKey (key 1 s.service) (.lit (.int .i64 0))=.lit (.int .i64 0)):=atKey_of_not_has HH.out _
    go_wp2_with (at_lookup;refine Ae _ rfl (.tmp 32) (.tmp 35) 75 rfl 79 3 .i64 thingLaw Tryz.underlying75 Tryz.underlying3 (Bz _) (w.heap.size+1+1) n D rfl hown2 _ _ rfl (B9 1 s.service wf1 hmem.1) 0 false HA.out HH.out ?_)
    refine wp_region_quiet_below (by kernel_rfl) (by kernel_rfl) ?_
    repeat (first|go_big_quiet_step (fail)|quiet_step (fail))
    refine wpQuiet_nil ?_;intro w3 hw';obtain⟨⟨dq,osq⟩,hw''⟩:=hw';have hb3:Below w2.heap.size w2 w3:=by rw[hw''];exact below_regrown _ _ _
    clear hw'';go_wp2;go_ret;exact⟨AR (Al hlt HNO.out).symm,hbr2.trans (hb3.mono hbr2.size)⟩
  ·go_wp2
   go_ret;exact⟨AR (B6 λi hi=>hall.out i (by omega)).symm,hb⟩
theorem IF(B:Bk)(a1 a2 a3:Option Addr)(c1 c2 c3:Nat)(w:World)(hS:B.small)(hZ:B.sized)(hU:FK B)(hB:BkAt w a1 a2 a3 B)(hne0:B.svcs≠[]):
  Calls Tryz.prog 27 #[.agg #[.int .i64 B.now,.slice a1 B.svcs.length c1,.slice a2 B.cps.length c2,.slice a3 B.bts.length c3]] w λe w'=>e=.returned (.bool (BH (BD B) B.cps.length))/\Below w.heap.size w w':=by
 obtain⟨bS,offS,eS,hbsS,hatS⟩:=hB.1 hne0;subst eS;have hS':=hS;obtain⟨hl1,hl2,hl3⟩:=hS';have T0:Hid _:=heap_alloc_new w (.cells #[.int .i64 B.now,.slice (some ⟨bS,offS,none⟩) B.svcs.length c1,.slice a2 B.cps.length c2,.slice a3 B.bts.length c3] 27);have hb0:=AM w (.cells #[.int .i64 B.now,.slice (some ⟨bS,offS,none⟩) B.svcs.length c1,.slice a2 B.cps.length c2,.slice a3 B.bts.length c3] 27);have hs0:(w.alloc (.cells #[.int .i64 B.now,.slice (some ⟨bS,offS,none⟩) B.svcs.length c1,.slice a2 B.cps.length c2,.slice a3 B.bts.length c3] 27)).heap.size=w.heap.size+1:=by show(w.heap.push _).size=_;simp
 have HS0:Hid _:=hs0;clear hs0;go_enter Tryz.func27,Tryz.ntmps27
 go_wp2_with fail
 refine(Gb B _ a2 a3 c1 c2 c3 _ hS hZ hU (hB.below hb0)).mono ?_;rintro e w0 ⟨rfl,hpl0,hb1⟩;rw[HS0.out]at hpl0 hb1;rw[HS0.out];have hbb0:=hb0.trans (hb1.mono (by omega));have T0':Hid _:=AK hb1 T0.out (by omega);have HP0:Hid _:=hpl0;have e2:=AJ T0'.out 2 rfl;clear hpl0 hb1;go_wp2;clear e2
 go_loopw [13] (λiv wr=>∃k:Nat,k<=B.cps.length/\iv=.int .i64 k/\Below w.heap.size w wr/\Hid (wr.heap[w.heap.size]?=some (.cells #[.int .i64 B.now,.slice (some ⟨bS,offS,none⟩) B.svcs.length c1,.slice a2 B.cps.length c2,.slice a3 B.bts.length c3] 27 (0,0)))/\Hid (PlacesAt wr (w.heap.size+1+1) B B.svcs.length B.bts.length)/\Hid (∀i,i<k->BD B i=true)) (λi _=>B.cps.length - (intOf i).toNat)
 case atStart=>exact⟨0,by omega,rfl,hbb0,T0',HP0,λi hi=>absurd hi (by omega)⟩
 case round=>
  clear hbb0 T0' HP0;obtain⟨k,hk,rfl,hb,hbox,hpl,hall⟩:=hrel;have hNlt:w.heap.size+1+1<wr.heap.size:=hpl.out.lt
  by_cases hlt:k<B.cps.length
  ·have hne:B.cps≠[]:=by intro h;rw[h]at hlt;simp at hlt
   obtain⟨b,off,ea,hbs,hat⟩:=hB.2.1 hne;subst ea;obtain⟨s,hsk⟩:∃s,B.cps[k]?=some s:=⟨B.cps[k],by simp[hlt]⟩;have hmem:=hZ.2.2.2.2.1 s (AE hsk);have HSK:Hid _:=hsk;have hcs:=(hat k s hsk).below hb hbs;unfold CpAt at hcs;obtain⟨x0,x1,x2,x3,x4,x5,x6⟩:=hcs;have hbr:Below w.heap.size w (wr.alloc (.cells #[.string s.service,.int .i64 s.number,.int .i64 s.version,.int .i64 s.image,.int .i64 s.state,.bool s.ending,.string s.berth] 49)):=hb.alloc hb.size _;have HSZ:Hid ((wr.alloc (.cells #[.string s.service,.int .i64 s.number,.int .i64 s.version,.int .i64 s.image,.int .i64 s.state,.bool s.ending,.string s.berth] 49)).heap.size=wr.heap.size+1):=by show(wr.heap.push _).size=_;simp
   have HBX:Hid _:=heap_alloc_new wr (.cells #[.string s.service,.int .i64 s.number,.int .i64 s.version,.int .i64 s.image,.int .i64 s.state,.bool s.ending,.string s.berth] 49);have hw1:=AM wr (.cells #[.string s.service,.int .i64 s.number,.int .i64 s.version,.int .i64 s.image,.int .i64 s.state,.bool s.ending,.string s.berth] 49);have hboxr:Hid _:=AK hw1 hbox.out (by omega);have hplr:Hid (PlacesAt (wr.alloc (.cells #[.string s.service,.int .i64 s.number,.int .i64 s.version,.int .i64 s.image,.int .i64 s.state,.bool s.ending,.string s.berth] 49)) (w.heap.size+1+1) B B.svcs.length B.bts.length):=hpl.out.below hw1 hNlt;clear hsk
   by_cases hk0:k=0
   ·have HK0:Hid (k=0):=hk0
    have hz:decide (0<k)=false:=by simp;omega
    clear hk0 hat hne;go_wp2;clear x0 x1 x2 x3 x4 x5 x6;refine wp_region_quiet_below (by kernel_rfl) (by kernel_rfl) ?_
    repeat (first|go_big_quiet_step (fail)|quiet_step (fail))
    refine wpQuiet_nil ?_;intro w2 hw';obtain⟨⟨dq,osq⟩,hw''⟩:=hw';have hb2:Below (wr.alloc (.cells #[.string s.service,.int .i64 s.number,.int .i64 s.version,.int .i64 s.image,.int .i64 s.state,.bool s.ending,.string s.berth] 49)).heap.size (wr.alloc (.cells #[.string s.service,.int .i64 s.number,.int .i64 s.version,.int .i64 s.image,.int .i64 s.state,.bool s.ending,.string s.berth] 49)) w2:=by rw[hw''];exact below_regrown _ _ _
    clear hw'';have hbr2:=hbr.trans (hb2.mono hbr.size);have bxr:Hid _:=AK hb2 HBX.out (by rw[HSZ.out];omega);have box2:Hid _:=AK hb2 hboxr.out (by rw[HSZ.out];omega);have pl2:Hid (PlacesAt w2 (w.heap.size+1+1) B B.svcs.length B.bts.length):=hplr.out.below hb2 (by rw[HSZ.out];omega);have hz2:wr.heap.size<w2.heap.size:=by have:=hb2.size;rw[HSZ.out]at this;omega
    have r0:=AJ bxr.out 0 rfl;obtain⟨n,D,hn,hown2,h1,h2,h3,h4⟩:=pl2.out;have H1:Hid _:=h1;have H2:Hid _:=h2;clear h1 h2 h3 h4
    cases hf:Db B s.service with
    |none=>
     have HNO:Hid (BD B k=false):=by unfold Hid BD;rw[HSK.out];simp[cpB,hf]
     have HH:Hid (Maps.has D (key 1 s.service)=false):=H1.out s.service hmem.1 (Ee hf);have HA:Hid (D.atKey (key 1 s.service) (.lit (.int .i64 0))=.lit (.int .i64 0)):=atKey_of_not_has HH.out _
     go_wp2_with (at_lookup;refine Ae _ rfl (.tmp 32) (.tmp 35) 75 rfl 79 3 .i64 thingLaw Tryz.underlying75 Tryz.underlying3 (Bz _) (w.heap.size+1+1) n D rfl hown2 _ _ rfl (B9 1 s.service wf1 hmem.1) 0 false HA.out HH.out ?_)
     refine wp_region_quiet_below (by kernel_rfl) (by kernel_rfl) ?_
     repeat (first|go_big_quiet_step (fail)|quiet_step (fail))
     refine wpQuiet_nil ?_;intro w3 hw';obtain⟨⟨dq,osq⟩,hw''⟩:=hw';have hb3:Below w2.heap.size w2 w3:=by rw[hw''];exact below_regrown _ _ _
     clear hw'';go_wp2;go_ret;exact⟨AR (Al hlt HNO.out).symm,hbr2.trans (hb3.mono hbr2.size)⟩
    |some sv=>
     obtain⟨i,hil,hi,hnm⟩:=Io hf;have H2':=H2.out i sv hil hi;rw[hnm]at H2';have HH:Hid (Maps.has D (key 1 s.service)=true):=H2'.1;have HA:Hid (D.atKey (key 1 s.service) (.lit (.int .i64 0))=.lit (.int .i64 (i:Int))):=H2'.2;have HCP:Hid (cpB B s=(FF B.now sv s&&Bq B.bts s)):=by unfold Hid cpB;rw[hf]
     obtain⟨z0,z1,z2,z3,z4,z5,z6,z7,z8,z9,z10,z11,z12⟩:=((hatS i sv hi).below hbr2 hbsS).grown;have g0:=Aa box2.out 0 rfl;have g1:=Aa box2.out 1 rfl;have m0:=Aa bxr.out 0 rfl;have m1:=Aa bxr.out 1 rfl;have m2:=Aa bxr.out 2 rfl;have m3:=Aa bxr.out 3 rfl;have m4:=Aa bxr.out 4 rfl;have m5:=Aa bxr.out 5 rfl;have m6:=Aa bxr.out 6 rfl;clear hf H2' hnm hi;cases hok:FF B.now sv s
     ·have HNO:Hid (BD B k=false):=by unfold Hid BD;rw[HSK.out];simp[HCP.out,hok]
      go_wp2_with (at_lookup;refine Ae _ rfl (.tmp 32) (.tmp 35) 75 rfl 79 3 .i64 thingLaw Tryz.underlying75 Tryz.underlying3 (Bz _) (w.heap.size+1+1) n D rfl hown2 _ _ rfl (B9 1 s.service wf1 hmem.1) (i:Int) true HA.out HH.out ?_)
      refine wp_region_quiet_below (by kernel_rfl) (by kernel_rfl) ?_
      repeat (first|go_big_quiet_step (first|exact Calls.regrown_of (BJ s sv B.now _)|exact Calls.regrown_of (BK B s (w.heap.size+1+1) _ hmem.2 (pl2.out.below (below_regrown _ _ _) (by omega))))|quiet_step (first|exact Calls.regrown_of (BJ s sv B.now _)|exact Calls.regrown_of (BK B s (w.heap.size+1+1) _ hmem.2 (pl2.out.below (below_regrown _ _ _) (by omega)))))
      refine wpQuiet_nil ?_;intro w3 hw';obtain⟨⟨dq,osq⟩,hw''⟩:=hw';have hb3:Below w2.heap.size w2 w3:=by rw[hw''];exact below_regrown _ _ _
      clear hw'';go_wp2;go_ret;exact⟨AR (Al hlt HNO.out).symm,hbr2.trans (hb3.mono hbr2.size)⟩
     cases hbo:Bq B.bts s
     ·have HNO:Hid (BD B k=false):=by unfold Hid BD;rw[HSK.out];simp[HCP.out,hok,hbo]
      go_wp2_with (at_lookup;refine Ae _ rfl (.tmp 32) (.tmp 35) 75 rfl 79 3 .i64 thingLaw Tryz.underlying75 Tryz.underlying3 (Bz _) (w.heap.size+1+1) n D rfl hown2 _ _ rfl (B9 1 s.service wf1 hmem.1) (i:Int) true HA.out HH.out ?_)
      refine wp_region_quiet_below (by kernel_rfl) (by kernel_rfl) ?_
      repeat (first|go_big_quiet_step (first|exact Calls.regrown_of (BJ s sv B.now _)|exact Calls.regrown_of (BK B s (w.heap.size+1+1) _ hmem.2 (pl2.out.below (below_regrown _ _ _) (by omega))))|quiet_step (first|exact Calls.regrown_of (BJ s sv B.now _)|exact Calls.regrown_of (BK B s (w.heap.size+1+1) _ hmem.2 (pl2.out.below (below_regrown _ _ _) (by omega)))))
      refine wpQuiet_nil ?_;intro w3 hw';obtain⟨⟨dq,osq⟩,hw''⟩:=hw';have hb3:Below w2.heap.size w2 w3:=by rw[hw''];exact below_regrown _ _ _
      clear hw'';go_wp2;go_ret;exact⟨AR (Al hlt HNO.out).symm,hbr2.trans (hb3.mono hbr2.size)⟩
     have HYES:Hid (BD B k=true):=by unfold Hid BD;rw[HSK.out];simp[HCP.out,hok,hbo,HK0.out]
     go_wp2_with (at_lookup;refine Ae _ rfl (.tmp 32) (.tmp 35) 75 rfl 79 3 .i64 thingLaw Tryz.underlying75 Tryz.underlying3 (Bz _) (w.heap.size+1+1) n D rfl hown2 _ _ rfl (B9 1 s.service wf1 hmem.1) (i:Int) true HA.out HH.out ?_)
     refine wp_region_quiet_below (by kernel_rfl) (by kernel_rfl) ?_
     repeat (first|go_big_quiet_step (first|exact Calls.regrown_of (BJ s sv B.now _)|exact Calls.regrown_of (BK B s (w.heap.size+1+1) _ hmem.2 (pl2.out.below (below_regrown _ _ _) (by omega))))|quiet_step (first|exact Calls.regrown_of (BJ s sv B.now _)|exact Calls.regrown_of (BK B s (w.heap.size+1+1) _ hmem.2 (pl2.out.below (below_regrown _ _ _) (by omega)))))
     refine wpQuiet_nil ?_;intro w3 hw';obtain⟨⟨dq,osq⟩,hw''⟩:=hw';have hb3:Below w2.heap.size w2 w3:=by rw[hw''];exact below_regrown _ _ _
     clear hw'';have hb4:=hbr2.trans (hb3.mono hbr2.size);have box3:Hid _:=AK hb3 box2.out (by omega);have pl3:Hid (PlacesAt w3 (w.heap.size+1+1) B B.svcs.length B.bts.length):=pl2.out.below hb3 (by omega);clear g0 g1 m0 m1 m2 m3 m4 m5 m6 z0 z1 z2 z3 z4 z5 z6 z7 z8 z9 z10 z11 z12;go_wp2
     go_roundw
     case rel=>exact⟨k+1,by omega,by go_num,hb4,box3,pl3,Ax hall.out HYES.out⟩
     case measure=>simp[intOf];omega
   obtain⟨k',rfl⟩:∃k',k=k'+1:=⟨k - 1,by omega⟩;clear hk0;obtain⟨p,hpk⟩:∃p,B.cps[k']?=some p:=⟨B.cps[k']'(by omega),by rw[List.getElem?_eq_getElem]⟩;have HPK:Hid _:=hpk;obtain⟨y0,y1,y2,y3,y4,y5,y6⟩:=((hat k' p hpk).below (hb.trans (hw1.mono hb.size)) hbs).grown;have gx0:=Aa HBX.out 0 rfl;have gx1:=Aa HBX.out 1 rfl;have gx2:=Aa HBX.out 2 rfl;have gx3:=Aa HBX.out 3 rfl;have gx4:=Aa HBX.out 4 rfl;have gx5:=Aa HBX.out 5 rfl;have gx6:=Aa HBX.out 6 rfl;have gb2:=Aa hboxr.out 2 rfl;clear hpk hat hne;cases hle:Bu p s
   ·have HNO:Hid (BD B (k'+1)=false):=by unfold Hid BD;rw[HSK.out];simp[HPK.out,hle]
    go_wp2;clear x0 x1 x2 x3 x4 x5 x6;refine wp_region_quiet_below (by kernel_rfl) (by kernel_rfl) ?_
    repeat (first|go_big_quiet_step (exact Calls.regrown_of (B4 p s _))|quiet_step (exact Calls.regrown_of (B4 p s _)))
    refine wpQuiet_nil ?_;intro w2 hw';obtain⟨⟨dq,osq⟩,hw''⟩:=hw';have hb2:Below (wr.alloc (.cells #[.string s.service,.int .i64 s.number,.int .i64 s.version,.int .i64 s.image,.int .i64 s.state,.bool s.ending,.string s.berth] 49)).heap.size (wr.alloc (.cells #[.string s.service,.int .i64 s.number,.int .i64 s.version,.int .i64 s.image,.int .i64 s.state,.bool s.ending,.string s.berth] 49)) w2:=by rw[hw''];exact below_regrown _ _ _
    clear hw'';go_wp2;go_ret;exact⟨AR (Al hlt HNO.out).symm,hbr.trans (hb2.mono hbr.size)⟩
   ·have HLE:Hid (Bu p s=true):=hle
    go_wp2;clear x0 x1 x2 x3 x4 x5 x6;refine wp_region_quiet_below (by kernel_rfl) (by kernel_rfl) ?_
    repeat (first|go_big_quiet_step (exact Calls.regrown_of (B4 p s _))|quiet_step (exact Calls.regrown_of (B4 p s _)))
    refine wpQuiet_nil ?_;intro w2 hw';obtain⟨⟨dq,osq⟩,hw''⟩:=hw';have hb2:Below (wr.alloc (.cells #[.string s.service,.int .i64 s.number,.int .i64 s.version,.int .i64 s.image,.int .i64 s.state,.bool s.ending,.string s.berth] 49)).heap.size (wr.alloc (.cells #[.string s.service,.int .i64 s.number,.int .i64 s.version,.int .i64 s.image,.int .i64 s.state,.bool s.ending,.string s.berth] 49)) w2:=by rw[hw''];exact below_regrown _ _ _
    clear hw'';clear gx0 gx1 gx2 gx3 gx4 gx5 gx6 gb2 hle y0 y1 y2 y3 y4 y5 y6;have hbr2:=hbr.trans (hb2.mono hbr.size);have bxr:Hid _:=AK hb2 HBX.out (by rw[HSZ.out];omega);have box2:Hid _:=AK hb2 hboxr.out (by rw[HSZ.out];omega);have pl2:Hid (PlacesAt w2 (w.heap.size+1+1) B B.svcs.length B.bts.length):=hplr.out.below hb2 (by rw[HSZ.out];omega);have hz2:wr.heap.size<w2.heap.size:=by have:=hb2.size;rw[HSZ.out]at this;omega
    have r0:=AJ bxr.out 0 rfl;obtain⟨n,D,hn,hown2,h1,h2,h3,h4⟩:=pl2.out;have H1:Hid _:=h1;have H2:Hid _:=h2;clear h1 h2 h3 h4
    cases hf:Db B s.service with
    |none=>
     have HNO:Hid (BD B (k'+1)=false):=by unfold Hid BD;rw[HSK.out];simp[cpB,hf]
     have HH:Hid (Maps.has D (key 1 s.service)=false):=H1.out s.service hmem.1 (Ee hf);have HA:Hid (D.atKey (key 1 s.service) (.lit (.int .i64 0))=.lit (.int .i64 0)):=atKey_of_not_has HH.out _
     go_wp2_with (at_lookup;refine Ae _ rfl (.tmp 32) (.tmp 35) 75 rfl 79 3 .i64 thingLaw Tryz.underlying75 Tryz.underlying3 (Bz _) (w.heap.size+1+1) n D rfl hown2 _ _ rfl (B9 1 s.service wf1 hmem.1) 0 false HA.out HH.out ?_)
     refine wp_region_quiet_below (by kernel_rfl) (by kernel_rfl) ?_
     repeat (first|go_big_quiet_step (fail)|quiet_step (fail))
     refine wpQuiet_nil ?_;intro w3 hw';obtain⟨⟨dq,osq⟩,hw''⟩:=hw';have hb3:Below w2.heap.size w2 w3:=by rw[hw''];exact below_regrown _ _ _
     clear hw'';go_wp2;go_ret;exact⟨AR (Al hlt HNO.out).symm,hbr2.trans (hb3.mono hbr2.size)⟩
    |some sv=>
     obtain⟨i,hil,hi,hnm⟩:=Io hf;have H2':=H2.out i sv hil hi;rw[hnm]at H2';have HH:Hid (Maps.has D (key 1 s.service)=true):=H2'.1;have HA:Hid (D.atKey (key 1 s.service) (.lit (.int .i64 0))=.lit (.int .i64 (i:Int))):=H2'.2;have HCP:Hid (cpB B s=(FF B.now sv s&&Bq B.bts s)):=by unfold Hid cpB;rw[hf]
     obtain⟨z0,z1,z2,z3,z4,z5,z6,z7,z8,z9,z10,z11,z12⟩:=((hatS i sv hi).below hbr2 hbsS).grown;have g0:=Aa box2.out 0 rfl;have g1:=Aa box2.out 1 rfl;have m0:=Aa bxr.out 0 rfl;have m1:=Aa bxr.out 1 rfl;have m2:=Aa bxr.out 2 rfl;have m3:=Aa bxr.out 3 rfl;have m4:=Aa bxr.out 4 rfl;have m5:=Aa bxr.out 5 rfl;have m6:=Aa bxr.out 6 rfl;clear hf H2' hnm hi;cases hok:FF B.now sv s
     ·have HNO:Hid (BD B (k'+1)=false):=by unfold Hid BD;rw[HSK.out];simp[HCP.out,hok]
      go_wp2_with (at_lookup;refine Ae _ rfl (.tmp 32) (.tmp 35) 75 rfl 79 3 .i64 thingLaw Tryz.underlying75 Tryz.underlying3 (Bz _) (w.heap.size+1+1) n D rfl hown2 _ _ rfl (B9 1 s.service wf1 hmem.1) (i:Int) true HA.out HH.out ?_)
      refine wp_region_quiet_below (by kernel_rfl) (by kernel_rfl) ?_
      repeat (first|go_big_quiet_step (first|exact Calls.regrown_of (BJ s sv B.now _)|exact Calls.regrown_of (BK B s (w.heap.size+1+1) _ hmem.2 (pl2.out.below (below_regrown _ _ _) (by omega))))|quiet_step (first|exact Calls.regrown_of (BJ s sv B.now _)|exact Calls.regrown_of (BK B s (w.heap.size+1+1) _ hmem.2 (pl2.out.below (below_regrown _ _ _) (by omega)))))
      refine wpQuiet_nil ?_;intro w3 hw';obtain⟨⟨dq,osq⟩,hw''⟩:=hw';have hb3:Below w2.heap.size w2 w3:=by rw[hw''];exact below_regrown _ _ _
      clear hw'';go_wp2;go_ret;exact⟨AR (Al hlt HNO.out).symm,hbr2.trans (hb3.mono hbr2.size)⟩
     cases hbo:Bq B.bts s
     ·have HNO:Hid (BD B (k'+1)=false):=by unfold Hid BD;rw[HSK.out];simp[HCP.out,hok,hbo]
      go_wp2_with (at_lookup;refine Ae _ rfl (.tmp 32) (.tmp 35) 75 rfl 79 3 .i64 thingLaw Tryz.underlying75 Tryz.underlying3 (Bz _) (w.heap.size+1+1) n D rfl hown2 _ _ rfl (B9 1 s.service wf1 hmem.1) (i:Int) true HA.out HH.out ?_)
      refine wp_region_quiet_below (by kernel_rfl) (by kernel_rfl) ?_
      repeat (first|go_big_quiet_step (first|exact Calls.regrown_of (BJ s sv B.now _)|exact Calls.regrown_of (BK B s (w.heap.size+1+1) _ hmem.2 (pl2.out.below (below_regrown _ _ _) (by omega))))|quiet_step (first|exact Calls.regrown_of (BJ s sv B.now _)|exact Calls.regrown_of (BK B s (w.heap.size+1+1) _ hmem.2 (pl2.out.below (below_regrown _ _ _) (by omega)))))
      refine wpQuiet_nil ?_;intro w3 hw';obtain⟨⟨dq,osq⟩,hw''⟩:=hw';have hb3:Below w2.heap.size w2 w3:=by rw[hw''];exact below_regrown _ _ _
      clear hw'';go_wp2;go_ret;exact⟨AR (Al hlt HNO.out).symm,hbr2.trans (hb3.mono hbr2.size)⟩
     have HYES:Hid (BD B (k'+1)=true):=by unfold Hid BD;rw[HSK.out];simp[HCP.out,hok,hbo,HPK.out,HLE.out]
     go_wp2_with (at_lookup;refine Ae _ rfl (.tmp 32) (.tmp 35) 75 rfl 79 3 .i64 thingLaw Tryz.underlying75 Tryz.underlying3 (Bz _) (w.heap.size+1+1) n D rfl hown2 _ _ rfl (B9 1 s.service wf1 hmem.1) (i:Int) true HA.out HH.out ?_)
     refine wp_region_quiet_below (by kernel_rfl) (by kernel_rfl) ?_
     repeat (first|go_big_quiet_step (first|exact Calls.regrown_of (BJ s sv B.now _)|exact Calls.regrown_of (BK B s (w.heap.size+1+1) _ hmem.2 (pl2.out.below (below_regrown _ _ _) (by omega))))|quiet_step (first|exact Calls.regrown_of (BJ s sv B.now _)|exact Calls.regrown_of (BK B s (w.heap.size+1+1) _ hmem.2 (pl2.out.below (below_regrown _ _ _) (by omega)))))
     refine wpQuiet_nil ?_;intro w3 hw';obtain⟨⟨dq,osq⟩,hw''⟩:=hw';have hb3:Below w2.heap.size w2 w3:=by rw[hw''];exact below_regrown _ _ _
     clear hw'';have hb4:=hbr2.trans (hb3.mono hbr2.size);have box3:Hid _:=AK hb3 box2.out (by omega);have pl3:Hid (PlacesAt w3 (w.heap.size+1+1) B B.svcs.length B.bts.length):=pl2.out.below hb3 (by omega);clear g0 g1 m0 m1 m2 m3 m4 m5 m6 z0 z1 z2 z3 z4 z5 z6 z7 z8 z9 z10 z11 z12;go_wp2
     go_roundw
     case rel=>exact⟨(k'+1)+1,by omega,by go_num,hb4,box3,pl3,Ax hall.out HYES.out⟩
     case measure=>simp[intOf];omega
  ·go_wp2
   go_ret;exact⟨AR (B6 λi hi=>hall.out i (by omega)).symm,hb⟩
end
end Go.Proofs.YtbceafpodamnfaaGreat
