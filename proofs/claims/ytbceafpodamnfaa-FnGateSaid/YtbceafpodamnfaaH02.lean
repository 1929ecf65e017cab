import Derived.Test.YtbceafpodamnfaaH01
import Derived.Maps.OwnSet
import Derived.DeepKeys5
set_option linter.all false
set_option maxHeartbeats 8000000
set_option maxRecDepth 100000
namespace Go.Proofs.Ytbceafpodamnfaa
attribute [local simp] svV cpV zbV czV aaV ctZ ad bkV
attribute [local go_sem] svV cpV zbV czV aaV ctZ ad bkV
section
open Go.RowKit Go.Sort
theorem FR(B:Bk)(a1 a2 a3:Option Addr)(c1 c2 c3:Nat)(w:World)(hS:B.small)(hZ:B.sized)(hB:BkAt w a1 a2 a3 B):
  Calls Try.prog 43 #[.agg #[.int .i64 B.now,.slice a1 B.svcs.length c1,.slice a2 B.cps.length c2,.slice a3 B.bts.length c3]] w λe w'=>e=.returned (.bool (BY (BT B) B.svcs.length))/\Below w.heap.size w w':=by
 obtain⟨hl1,hl2,hl3⟩:=hS;obtain⟨t0,t1,t2⟩:=Bh w (.cells (bkV B a1 c1 a2 c2 a3 c3) 27) (.cells #[.func (.func 63) #[] #[],.func (.func 64) #[] #[],.func (.func 65) #[] #[],.func (.func 66) #[] #[],.func (.func 67) #[] #[]] 110);have T0:Hid _:=t0;have T1:Hid _:=t1;clear t0 t1 t2;go_enter Try.func43,Try.ntmps43;go_wp2
 go_loopw [10] (λiv wr=>∃k:Nat,k<=B.svcs.length/\iv=.int .i64 k/\Below w.heap.size w wr/\Hid (Bl wr (w.heap.size) (bkV B a1 c1 a2 c2 a3 c3) 27)/\Hid (Mq wr (w.heap.size+1))/\Hid (∀i,i<k->BT B i=true)) (λi _=>B.svcs.length - (intOf i).toNat)
 case atStart=>exact⟨0,by omega,rfl,((Below.refl _ _).alloc (AG _) _).alloc (by simp) _,T0,T1,λi hi=>absurd hi (by omega)⟩
 case round=>
  obtain⟨k,hk,rfl,hb,hbox,hfn,hall⟩:=hrel;have hNlt:w.heap.size+1<wr.heap.size:=(AB hfn.out).1;have hNlt0:w.heap.size<wr.heap.size:=by omega
  by_cases hlt:k<B.svcs.length
  ·have hne:B.svcs≠[]:=by intro h;rw[h]at hlt;simp at hlt
   obtain⟨b,off,ea,hbs,hat⟩:=hB.1 hne;subst ea;obtain⟨s,hsk⟩:∃s,B.svcs[k]?=some s:=⟨B.svcs[k],by simp[hlt]⟩;have hmem:=hZ.2.2.2.1 s (AE hsk);have HSK:Hid _:=hsk;have hcs:=(hat k s hsk).below hb hbs;unfold SvcAt at hcs;obtain⟨x0,x1,x2,x3,x4,x5,x6,x7,x8,x9,x10,x11,x12⟩:=hcs;have hbr:Below w.heap.size w (wr.alloc (.cells (svV s) 63)):=hb.alloc hb.size _;have HSZ:Hid ((wr.alloc (.cells (svV s) 63)).heap.size=wr.heap.size+1):=by show(wr.heap.push _).size=_;simp
   have HBX:Hid _:=heap_alloc_new wr (.cells (svV s) 63);have hw1:=AO wr (.cells (svV s) 63);have hboxr:Hid _:=AL hw1 hbox.out (by omega);have hfnr:Hid (Mq (wr.alloc (.cells (svV s) 63)) (w.heap.size+1)):=AL hw1 hfn.out hNlt;clear hsk
   by_cases hk0:k=0
   ·have HK0:Hid (k=0):=hk0
    have hz:decide (0<k)=false:=by simp;omega
    clear hk0 hat hne;go_wp2;clear x0 x1 x2 x3 x4 x5 x6 x7 x8 x9 x10 x11 x12;refine wp_region_quiet_below (by kernel_rfl) (by kernel_rfl) ?_
    repeat (first|go_big_quiet_step (fail)|quiet_step (fail))
    refine wpQuiet_nil ?_;intro w2 hw';obtain⟨⟨dq,osq⟩,hw''⟩:=hw';have hb2:Below (wr.alloc (.cells (svV s) 63)).heap.size (wr.alloc (.cells (svV s) 63)) w2:=by rw[hw''];exact below_regrown _ _ _
    clear hw'';have hbr2:=hbr.trans (hb2.mono hbr.size);have bxr:Hid _:=AL hb2 HBX.out (by rw[HSZ.out];omega);have box2:Hid _:=AL hb2 hboxr.out (by rw[HSZ.out];omega);have fns2:Hid (Mq w2 (w.heap.size+1)):=AL hb2 hfnr.out (by rw[HSZ.out];omega);have hz2:wr.heap.size<w2.heap.size:=by have:=hb2.size;rw[HSZ.out]at this;omega
    have r0:=AK bxr.out 0 rfl;have r1:=AK bxr.out 1 rfl;have r2:=AK bxr.out 2 rfl;have r3:=AK bxr.out 3 rfl;have r4:=AK bxr.out 4 rfl;have r5:=AK bxr.out 5 rfl;have r6:=AK bxr.out 6 rfl;have r7:=AK bxr.out 7 rfl;have r8:=AK bxr.out 8 rfl;have r9:=AK bxr.out 9 rfl;have r10:=AK bxr.out 10 rfl;have r11:=AK bxr.out 11 rfl;have r12:=AK bxr.out 12 rfl;have q0:=AK box2.out 0 rfl;cases hver:inB s.version 1 B.now
    ·have HNO:Hid (BT B k=false):=by unfold Hid BT;rw[HSK.out];simp[Dv,hver]
     go_wp2_with (go_at_call 62;refine(B6 _ _ _ _).mono ?_;rintro e w' ⟨rfl,rfl⟩)
     go_ret;exact⟨AS (A0 hlt HNO.out).symm,hbr2⟩
    cases hal:BY (Gb s) 5
    ·have HNO:Hid (BT B k=false):=by unfold Hid BT;rw[HSK.out];simp[Dv,hver,<-G9,hal]
     go_wp2_with (first|(go_at_call 62;refine(B6 _ _ _ _).mono ?_;rintro e w' ⟨rfl,rfl⟩)|(go_at_call 68;refine(EX s (w.heap.size+1) _ hmem fns2.out).mono ?_;rintro e w3 ⟨rfl,hb3⟩))
     go_ret;exact⟨AS (A0 hlt HNO.out).symm,hbr2.trans (hb3.mono hbr2.size)⟩
    have HYES:Hid (BT B k=true):=by unfold Hid BT;rw[HSK.out];simp[Dv,hver,<-G9,hal,HK0.out]
    go_wp2_with (first|(go_at_call 62;refine(B6 _ _ _ _).mono ?_;rintro e w' ⟨rfl,rfl⟩)|(go_at_call 68;refine(EX s (w.heap.size+1) _ hmem fns2.out).mono ?_;rintro e w3 ⟨rfl,hb3⟩))
    have hb4:=hbr2.trans (hb3.mono hbr2.size);have box3:Hid _:=AL hb3 box2.out (by omega);have fns3:Hid (Mq w3 (w.heap.size+1)):=AL hb3 fns2.out (by omega)
    go_roundw
    case rel=>exact⟨k+1,by omega,by go_num,hb4,box3,fns3,BK hall.out HYES.out⟩
    case measure=>simp[intOf];omega
   obtain⟨k',rfl⟩:∃k',k=k'+1:=⟨k - 1,by omega⟩;clear hk0;obtain⟨p,hpk⟩:∃p,B.svcs[k']?=some p:=⟨B.svcs[k']'(by omega),by rw[List.getElem?_eq_getElem]⟩;have HPK:Hid _:=hpk;obtain⟨y0,y1,y2,y3,y4,y5,y6,y7,y8,y9,y10,y11,y12⟩:=((hat k' p hpk).below (hb.trans (hw1.mono hb.size)) hbs).grown;have gx0:=Al HBX.out 0 rfl;have gb1:=Al hboxr.out 1 rfl;have HTRI:=C4 s.name.toList p.name.toList;have HT:Hid _:=HTRI;clear HTRI hpk hat hne;cases hle:Op.bytesLess p.name.toList s.name.toList
   ·have HNO:Hid (BT B (k'+1)=false):=by unfold Hid BT;rw[HSK.out];simp[HPK.out,hle]
    have hle2:(Op.bytesLess s.name.toList p.name.toList||s.name.toList==p.name.toList)=true:=by rw[HT.out,hle];rfl
    clear hle;go_wp2;clear x0 x1 x2 x3 x4 x5 x6 x7 x8 x9 x10 x11 x12;refine wp_region_quiet_below (by kernel_rfl) (by kernel_rfl) ?_
    repeat (first|go_big_quiet_step (fail)|quiet_step (fail))
    refine wpQuiet_nil ?_;intro w2 hw';obtain⟨⟨dq,osq⟩,hw''⟩:=hw';have hb2:Below (wr.alloc (.cells (svV s) 63)).heap.size (wr.alloc (.cells (svV s) 63)) w2:=by rw[hw''];exact below_regrown _ _ _
    clear hw'';go_wp2;go_ret;exact⟨AS (A0 hlt HNO.out).symm,hbr.trans (hb2.mono hbr.size)⟩
   ·have hle2:(Op.bytesLess s.name.toList p.name.toList||s.name.toList==p.name.toList)=false:=by rw[HT.out,hle];rfl
    have HLE:Hid _:=hle;clear hle;go_wp2;clear x0 x1 x2 x3 x4 x5 x6 x7 x8 x9 x10 x11 x12;refine wp_region_quiet_below (by kernel_rfl) (by kernel_rfl) ?_
    repeat (first|go_big_quiet_step (fail)|quiet_step (fail))
    refine wpQuiet_nil ?_;intro w2 hw';obtain⟨⟨dq,osq⟩,hw''⟩:=hw';have hb2:Below (wr.alloc (.cells (svV s) 63)).heap.size (wr.alloc (.cells (svV s) 63)) w2:=by rw[hw''];exact below_regrown _ _ _
    clear hw'';clear gx0 gb1 hle2 y0 y1 y2 y3 y4 y5 y6 y7 y8 y9 y10 y11 y12;have hbr2:=hbr.trans (hb2.mono hbr.size);have bxr:Hid _:=AL hb2 HBX.out (by rw[HSZ.out];omega);have box2:Hid _:=AL hb2 hboxr.out (by rw[HSZ.out];omega);have fns2:Hid (Mq w2 (w.heap.size+1)):=AL hb2 hfnr.out (by rw[HSZ.out];omega);have hz2:wr.heap.size<w2.heap.size:=by have:=hb2.size;rw[HSZ.out]at this;omega
    have r0:=AK bxr.out 0 rfl;have r1:=AK bxr.out 1 rfl;have r2:=AK bxr.out 2 rfl;have r3:=AK bxr.out 3 rfl;have r4:=AK bxr.out 4 rfl;have r5:=AK bxr.out 5 rfl;have r6:=AK bxr.out 6 rfl;have r7:=AK bxr.out 7 rfl;have r8:=AK bxr.out 8 rfl;have r9:=AK bxr.out 9 rfl;have r10:=AK bxr.out 10 rfl;have r11:=AK bxr.out 11 rfl;have r12:=AK bxr.out 12 rfl;have q0:=AK box2.out 0 rfl;cases hver:inB s.version 1 B.now
    ·have HNO:Hid (BT B (k'+1)=false):=by unfold Hid BT;rw[HSK.out];simp[Dv,hver]
     go_wp2_with (go_at_call 62;refine(B6 _ _ _ _).mono ?_;rintro e w' ⟨rfl,rfl⟩)
     go_ret;exact⟨AS (A0 hlt HNO.out).symm,hbr2⟩
    cases hal:BY (Gb s) 5
    ·have HNO:Hid (BT B (k'+1)=false):=by unfold Hid BT;rw[HSK.out];simp[Dv,hver,<-G9,hal]
     go_wp2_with (first|(go_at_call 62;refine(B6 _ _ _ _).mono ?_;rintro e w' ⟨rfl,rfl⟩)|(go_at_call 68;refine(EX s (w.heap.size+1) _ hmem fns2.out).mono ?_;rintro e w3 ⟨rfl,hb3⟩))
     go_ret;exact⟨AS (A0 hlt HNO.out).symm,hbr2.trans (hb3.mono hbr2.size)⟩
    have HYES:Hid (BT B (k'+1)=true):=by unfold Hid BT;rw[HSK.out];simp[Dv,hver,<-G9,hal,HPK.out,HLE.out]
    go_wp2_with (first|(go_at_call 62;refine(B6 _ _ _ _).mono ?_;rintro e w' ⟨rfl,rfl⟩)|(go_at_call 68;refine(EX s (w.heap.size+1) _ hmem fns2.out).mono ?_;rintro e w3 ⟨rfl,hb3⟩))
    have hb4:=hbr2.trans (hb3.mono hbr2.size);have box3:Hid _:=AL hb3 box2.out (by omega);have fns3:Hid (Mq w3 (w.heap.size+1)):=AL hb3 fns2.out (by omega)
    go_roundw
    case rel=>exact⟨(k'+1)+1,by omega,by go_num,hb4,box3,fns3,BK hall.out HYES.out⟩
    case measure=>simp[intOf];omega
  ·go_wp2
   go_ret;exact⟨AS (Cu λi hi=>hall.out i (by omega)).symm,hb⟩
theorem GP(B:Bk)(a1 a2 a3:Option Addr)(c1 c2 c3:Nat)(w:World)(hS:B.small)(hZ:B.sized)(hB:BkAt w a1 a2 a3 B):
  Calls Try.prog 44 #[.agg #[.int .i64 B.now,.slice a1 B.svcs.length c1,.slice a2 B.cps.length c2,.slice a3 B.bts.length c3]] w λe w'=>e=.returned (.bool (BY (Ct B) B.bts.length))/\Below w.heap.size w w':=by
 obtain⟨hl1,hl2,hl3⟩:=hS;have T0:Hid _:=heap_alloc_new w (.cells (bkV B a1 c1 a2 c2 a3 c3) 27);go_enter Try.func44,Try.ntmps44;go_wp2
 go_loopw [8] (λiv wr=>∃k:Nat,k<=B.bts.length/\iv=.int .i64 k/\Below w.heap.size w wr/\Hid (Bl wr (w.heap.size) (bkV B a1 c1 a2 c2 a3 c3) 27)/\Hid (∀i,i<k->Ct B i=true)) (λi _=>B.bts.length - (intOf i).toNat)
 case atStart=>exact⟨0,by omega,rfl,AO _ _,T0,λi hi=>absurd hi (by omega)⟩
 case round=>
  obtain⟨k,hk,rfl,hb,hbox,hall⟩:=hrel;have hNlt:w.heap.size<wr.heap.size:=(AB hbox.out).1
  by_cases hlt:k<B.bts.length
  ·have hne:B.bts≠[]:=by intro h;rw[h]at hlt;simp at hlt
   obtain⟨b,off,ea,hbs,hat⟩:=hB.2.2 hne;subst ea;obtain⟨s,hsk⟩:∃s,B.bts[k]?=some s:=⟨B.bts[k],by simp[hlt]⟩;have hmem:=hZ.2.2.2.2.2 s (AE hsk);have HSK:Hid _:=hsk;have hcs:=(hat k s hsk).below hb hbs;unfold BtAt at hcs;obtain⟨x0,x1⟩:=hcs;have hbr:Below w.heap.size w (wr.alloc (.cells #[.string s.name,.bool s.drain] 74)):=hb.alloc hb.size _;have HSZ:Hid ((wr.alloc (.cells #[.string s.name,.bool s.drain] 74)).heap.size=wr.heap.size+1):=by show(wr.heap.push _).size=_;simp
   have HBX:Hid _:=heap_alloc_new wr (.cells #[.string s.name,.bool s.drain] 74);have hw1:=AO wr (.cells #[.string s.name,.bool s.drain] 74);have hboxr:Hid _:=AL hw1 hbox.out (by omega);clear hsk
   by_cases hk0:k=0
   ·have HK0:Hid (k=0):=hk0
    have hz:decide (0<k)=false:=by simp;omega
    clear hk0 hat hne;go_wp2;clear x0 x1;refine wp_region_quiet_below (by kernel_rfl) (by kernel_rfl) ?_
    repeat (first|go_big_quiet_step (fail)|quiet_step (fail))
    refine wpQuiet_nil ?_;intro w2 hw';obtain⟨⟨dq,osq⟩,hw''⟩:=hw';have hb2:Below (wr.alloc (.cells #[.string s.name,.bool s.drain] 74)).heap.size (wr.alloc (.cells #[.string s.name,.bool s.drain] 74)) w2:=by rw[hw''];exact below_regrown _ _ _
    clear hw'';have hbr2:=hbr.trans (hb2.mono hbr.size);have bxr:Hid _:=AL hb2 HBX.out (by rw[HSZ.out];omega);have box2:Hid _:=AL hb2 hboxr.out (by rw[HSZ.out];omega);have hz2:wr.heap.size<w2.heap.size:=by have:=hb2.size;rw[HSZ.out]at this;omega
    have r0:=AK bxr.out 0 rfl;cases hver:Dh s.name
    ·have HNO:Hid (Ct B k=false):=by unfold Hid Ct;rw[HSK.out];simp[hver]
     go_wp2_with (go_at_call 69;refine(Ei _ _ hmem).mono ?_;rintro e w' ⟨rfl,rfl⟩)
     go_ret;exact⟨AS (A0 hlt HNO.out).symm,hbr2⟩
    have HYES:Hid (Ct B k=true):=by unfold Hid Ct;rw[HSK.out];simp[hver,HK0.out]
    go_wp2_with (go_at_call 69;refine(Ei _ _ hmem).mono ?_;rintro e w' ⟨rfl,rfl⟩)
    go_roundw
    case rel=>exact⟨k+1,by omega,by go_num,hbr2,box2,BK hall.out HYES.out⟩
    case measure=>simp[intOf];omega
   obtain⟨k',rfl⟩:∃k',k=k'+1:=⟨k - 1,by omega⟩;clear hk0;obtain⟨p,hpk⟩:∃p,B.bts[k']?=some p:=⟨B.bts[k']'(by omega),by rw[List.getElem?_eq_getElem]⟩;have HPK:Hid _:=hpk;obtain⟨y0,y1⟩:=((hat k' p hpk).below (hb.trans (hw1.mono hb.size)) hbs).grown;have gx0:=Al HBX.out 0 rfl;have gb3:=Al hboxr.out 3 rfl;have HTRI:=C4 s.name.toList p.name.toList;have HT:Hid _:=HTRI;clear HTRI hpk hat hne;cases hle:Op.bytesLess p.name.toList s.name.toList
   ·have HNO:Hid (Ct B (k'+1)=false):=by unfold Hid Ct;rw[HSK.out];simp[HPK.out,hle]
    have hle2:(Op.bytesLess s.name.toList p.name.toList||s.name.toList==p.name.toList)=true:=by rw[HT.out,hle];rfl
    clear hle;go_wp2;clear x0 x1;refine wp_region_quiet_below (by kernel_rfl) (by kernel_rfl) ?_
    repeat (first|go_big_quiet_step (fail)|quiet_step (fail))
    refine wpQuiet_nil ?_;intro w2 hw';obtain⟨⟨dq,osq⟩,hw''⟩:=hw';have hb2:Below (wr.alloc (.cells #[.string s.name,.bool s.drain] 74)).heap.size (wr.alloc (.cells #[.string s.name,.bool s.drain] 74)) w2:=by rw[hw''];exact below_regrown _ _ _
    clear hw'';go_wp2;go_ret;exact⟨AS (A0 hlt HNO.out).symm,hbr.trans (hb2.mono hbr.size)⟩
   ·have hle2:(Op.bytesLess s.name.toList p.name.toList||s.name.toList==p.name.toList)=false:=by rw[HT.out,hle];rfl
    have HLE:Hid _:=hle;clear hle;go_wp2;clear x0 x1;refine wp_region_quiet_below (by kernel_rfl) (by kernel_rfl) ?_
    repeat (first|go_big_quiet_step (fail)|quiet_step (fail))
    refine wpQuiet_nil ?_;intro w2 hw';obtain⟨⟨dq,osq⟩,hw''⟩:=hw';have hb2:Below (wr.alloc (.cells #[.string s.name,.bool s.drain] 74)).heap.size (wr.alloc (.cells #[.string s.name,.bool s.drain] 74)) w2:=by rw[hw''];exact below_regrown _ _ _
    clear hw'';clear gx0 gb3 hle2 y0 y1;have hbr2:=hbr.trans (hb2.mono hbr.size);have bxr:Hid _:=AL hb2 HBX.out (by rw[HSZ.out];omega);have box2:Hid _:=AL hb2 hboxr.out (by rw[HSZ.out];omega);have hz2:wr.heap.size<w2.heap.size:=by have:=hb2.size;rw[HSZ.out]at this;omega
    have r0:=AK bxr.out 0 rfl;cases hver:Dh s.name
    ·have HNO:Hid (Ct B (k'+1)=false):=by unfold Hid Ct;rw[HSK.out];simp[hver]
     go_wp2_with (go_at_call 69;refine(Ei _ _ hmem).mono ?_;rintro e w' ⟨rfl,rfl⟩)
     go_ret;exact⟨AS (A0 hlt HNO.out).symm,hbr2⟩
    have HYES:Hid (Ct B (k'+1)=true):=by unfold Hid Ct;rw[HSK.out];simp[hver,HPK.out,HLE.out]
    go_wp2_with (go_at_call 69;refine(Ei _ _ hmem).mono ?_;rintro e w' ⟨rfl,rfl⟩)
    go_roundw
    case rel=>exact⟨(k'+1)+1,by omega,by go_num,hbr2,box2,BK hall.out HYES.out⟩
    case measure=>simp[intOf];omega
  ·go_wp2
   go_ret;exact⟨AS (Cu λi hi=>hall.out i (by omega)).symm,hb⟩
end
section
open Go.RowKit Go.Sort Go.Maps
theorem Fs:laidOutB Try.prog=true:=by kernel_rfl
theorem Lr:(67:TypeId)<Try.prog.types.size:=of_decide_eq_true (by kernel_rfl)
theorem OJ:(match Try.prog.underlying 67 with|some (.array _ _)|some (.struct _)=>true|_=>false)=true:=by kernel_rfl
theorem thingLaw:Keyed Try.prog 67:=Keyed.of_law (deep_law_laid Fs (m:=3) (by omega) Lr (by kernel_rfl) OJ)
theorem JD:Try.prog.cellsOf 67=2:=by kernel_rfl
theorem thingKey:Try.prog.keyType 67=true:=by kernel_rfl
theorem MY:Try.prog.cellsOf 3=1:=by kernel_rfl
theorem IR:Try.prog.cellsOf 9=1:=by kernel_rfl
theorem Cd(w:World):(zeroValue 3).run Try.prog w=.ok (.int .i64 0) w:=by kernel_rfl
def key(kd:Int)(s:ByteArray):Lit:=.string (keyBytes [.int .i64 kd,.string s.data.toList])
theorem C8(kd:Int)(s:ByteArray)(hk:(Lit.int .i64 kd).wf=true)(hs:s.size<=maxLen):keyOf Try.prog 67 (.agg #[.int .i64 kd,.string s])=some (key kd s):=by
 have hf:(Value.agg #[.int .i64 kd,.string s]).formed Try.prog 67=true:=by
  simp[Value.formed,Try.underlying67,JD]
 unfold keyOf;rw[Try.underlying67];simp only[thingKey,hf,Bool.and_self,if_true];generalize hn:Try.prog.types.size=n
 match n,hn with
 |0,hn=>have:=Lr;rw[hn]at this;exact absurd this (Nat.not_lt_zero _)
 |n+1,_=>
  simp[Program.keyLits,Try.underlying67,JD,MY,IR,Try.underlying3,Try.underlying9,Value.cells,hk,hs,key]
theorem Ny{kd kd':Int}{s s':ByteArray}(hk:(Lit.int .i64 kd).wf=true)(hk':(Lit.int .i64 kd').wf=true)(hs:s.size<=maxLen)(hs':s'.size<=maxLen)(h:key kd s=key kd' s'):kd=kd'/\s=s':=by
 have h1:=C8 kd s hk hs;have h2:=C8 kd' s' hk' hs';rw[<-h]at h2;have:=thingLaw.inj h1 h2
 simpa using this
theorem KP(n:Int)(w:World):(Instr.makeMap 64 (some (.int .i64 n))).run Try.prog w=.ok (.map (some w.heap.size)) (w.alloc (.map #[] 0)):=by
 simp[Instr.makeMap,run_underlying Try.underlying64,asInt,asIntOf]
theorem wf1:(Lit.int .i64 1).wf=true:=by decide
theorem wf2:(Lit.int .i64 2).wf=true:=by decide
theorem IF(kd:Int)(s:ByteArray):WideAt.IsKeyLit (key kd s):=trivial
theorem FB{kd:Int}{s s':ByteArray}(hk:(Lit.int .i64 kd).wf=true)(hs:s.size<=maxLen)(hs':s'.size<=maxLen)(h:s≠s'):key kd s≠key kd s':=λe=>h (Ny hk hk hs hs' e).2
theorem FC{s s':ByteArray}(hs:s.size<=maxLen)(hs':s'.size<=maxLen):key 1 s≠key 2 s':=λe=>absurd (Ny wf1 wf2 hs hs' e).1 (by decide)
def IQ(B:Bk):Prop:=∀(i j:Nat) s t,i<j->B.svcs[i]?=some s->B.svcs[j]?=some t->s.name≠t.name
def PlacesAt(w:World)(b:Nat)(B:Bk)(ks kb:Nat):Prop:=∃(n:Nat) (D:DataW Unit),n<=ks+kb/\w.ownsMap Try.prog 67 (plainElem Try.prog 3) b n D/\
 (∀x:ByteArray,x.size<=maxLen->(∀(i:Nat) s,i<ks->B.svcs[i]?=some s->s.name≠x)->Maps.has D (key 1 x)=false)/\
 (∀(i:Nat) s,i<ks->B.svcs[i]?=some s->Maps.has D (key 1 s.name)=true/\D.atKey (key 1 s.name) (.lit (.int .i64 0))=.lit (.int .i64 i))/\
 (∀x:ByteArray,x.size<=maxLen->(∀(i:Nat) s,i<kb->B.bts[i]?=some s->s.name≠x)->Maps.has D (key 2 x)=false)/\
 (∀(i:Nat) s,i<kb->B.bts[i]?=some s->Maps.has D (key 2 s.name)=true)
theorem PlacesAt.blk{w w':World}{b:Nat}{B:Bk}{ks kb:Nat}(h:PlacesAt w b B ks kb)(hb:w'.heap[b]?=w.heap[b]?):PlacesAt w' b B ks kb:=by
 obtain⟨n,D,hn,⟨es,clock,he,F,hs,hD⟩,r⟩:=h;exact⟨n,D,hn,⟨es,clock,by rw[hb];exact he,F,hs,hD⟩,r⟩
theorem PlacesAt.below{w w':World}{b N:Nat}{B:Bk}{ks kb:Nat}(h:PlacesAt w b B ks kb)(hb:Below N w w')(hN:b<N):PlacesAt w' b B ks kb:=h.blk (hb.block b hN)
theorem PlacesAt.lt{w:World}{b:Nat}{B:Bk}{ks kb:Nat}(h:PlacesAt w b B ks kb):b<w.heap.size:=by
 obtain⟨n,D,hn,hown,_⟩:=h;exact hown.lt
theorem PlacesAt.start(w:World)(B:Bk):PlacesAt (w.alloc (.map #[] 0)) w.heap.size B 0 0:=
 ⟨0,.map [],AG _,World.ownsMap_made w _ _ _,λ_ _ _=>rfl,λi s hi=>absurd hi (by omega),λ_ _ _=>rfl,λi s hi=>absurd hi (by omega)⟩
theorem PlacesAt.stepS{w':World}{b:Nat}{B:Bk}{k n:Nat}{D:DataW Unit}{s:Svc}(hz:∀s∈B.svcs,s.name.size<=maxLen)(_hzb:∀s∈B.bts,s.name.size<=maxLen)(hu:IQ B)(hsk:B.svcs[k]?=some s)
  (hn:n<=k+0) (h1:∀x:ByteArray,x.size<=maxLen->(∀(i:Nat) s,i<k->B.svcs[i]?=some s->s.name≠x)->Maps.has D (key 1 x)=false)
  (h2:∀(i:Nat) s,i<k->B.svcs[i]?=some s->Maps.has D (key 1 s.name)=true/\D.atKey (key 1 s.name) (.lit (.int .i64 0))=.lit (.int .i64 i))
  (h3:∀x:ByteArray,x.size<=maxLen->(∀(i:Nat) s,i<0->B.bts[i]?=some s->s.name≠x)->Maps.has D (key 2 x)=false)
  (hD:IsMap D)
  (hown:w'.ownsMap Try.prog 67 (plainElem Try.prog 3) b (n+1) (D.put (key 1 s.name) (.lit (.int .i64 (k:Int))))):PlacesAt w' b B (k+1) 0:=by
 have hss:=hz s (AE hsk);refine⟨n+1,_,by omega,hown,λx hx hno=>?_,λi t hi ht=>?_,λx hx hno=>?_,λi t hi=>absurd hi (by omega)⟩
 ·rw[has_put_other (FB wf1 hx hss (λe=>hno k s (by omega) hsk e.symm))]
  exact h1 x hx λi t hi ht=>hno i t (by omega) ht
 ·rcases Nat.lt_or_ge i k with h'|h'
  ·have hts:=hz t (AE ht)
   have hne:=FB wf1 hts hss (hu i k t s h' ht hsk);rw[has_put_other hne,atKey_put_other hne];exact h2 i t h' ht
  ·have e:i=k:=by omega
   subst e;rw[hsk]at ht;cases ht;exact⟨has_put_same hD (IF _ _) _,atKey_put_same hD (IF _ _) _ _⟩
 ·rw[has_put_other (λe=>FC hss hx e.symm)]
  exact h3 x hx λi t hi=>absurd hi (by omega)
theorem PlacesAt.stepB{w':World}{b:Nat}{B:Bk}{ks k n:Nat}{D:DataW Unit}{s:Bt}(hz:∀s∈B.svcs,s.name.size<=maxLen)(hzb:∀s∈B.bts,s.name.size<=maxLen)(hsk:B.bts[k]?=some s)
  (hn:n<=ks+k) (h1:∀x:ByteArray,x.size<=maxLen->(∀(i:Nat) s,i<ks->B.svcs[i]?=some s->s.name≠x)->Maps.has D (key 1 x)=false)
  (h2:∀(i:Nat) s,i<ks->B.svcs[i]?=some s->Maps.has D (key 1 s.name)=true/\D.atKey (key 1 s.name) (.lit (.int .i64 0))=.lit (.int .i64 i))
  (h3:∀x:ByteArray,x.size<=maxLen->(∀(i:Nat) s,i<k->B.bts[i]?=some s->s.name≠x)->Maps.has D (key 2 x)=false)
  (h4:∀(i:Nat) s,i<k->B.bts[i]?=some s->Maps.has D (key 2 s.name)=true)
  (hD:IsMap D) (d:DataW Unit)
  (hown:w'.ownsMap Try.prog 67 (plainElem Try.prog 3) b (n+1) (D.put (key 2 s.name) d)):PlacesAt w' b B ks (k+1):=by
 have hss:=hzb s (AE hsk);refine⟨n+1,_,by omega,hown,λx hx hno=>?_,λi t hi ht=>?_,λx hx hno=>?_,λi t hi ht=>?_⟩
 ·rw[has_put_other (FC hx hss)]
  exact h1 x hx hno
 ·have hts:=hz t (AE ht)
  rw[has_put_other (FC hts hss),atKey_put_other (FC hts hss)];exact h2 i t hi ht
 ·rw[has_put_other (FB wf2 hx hss (λe=>hno k s (by omega) hsk e.symm))]
  exact h3 x hx λi t hi ht=>hno i t (by omega) ht
 ·by_cases he:t.name=s.name
  ·rw[he];exact has_put_same hD (IF _ _) _
  ·have hts:=hzb t (AE ht)
   rw[has_put_other (FB wf2 hts hss he)];rcases Nat.lt_or_ge i k with h'|h'
   ·exact h4 i t h' ht
   ·have e:i=k:=by omega
    subst e;rw[hsk]at ht;cases ht;exact absurd rfl he
theorem ER(B:Bk)(a1 a2 a3:Option Addr)(c1 c2 c3:Nat)(w:World)(hS:B.small)(hZ:B.sized)(hU:IQ B)(hB:BkAt w a1 a2 a3 B):
  Calls Try.prog 24 #[.agg #[.int .i64 B.now,.slice a1 B.svcs.length c1,.slice a2 B.cps.length c2,.slice a3 B.bts.length c3]] w λe w'=>e=.returned (.map (some (w.heap.size+1)))/\PlacesAt w' (w.heap.size+1) B B.svcs.length B.bts.length/\Below w.heap.size w w':=by
 obtain⟨hl1,hl2,hl3⟩:=hS;have hmm:=KP;obtain⟨t0,t1,t2⟩:=Bh w (.cells (bkV B a1 c1 a2 c2 a3 c3) 27) (.map #[] 0);have T0:Hid _:=t0
 have T1:Hid (PlacesAt ((w.alloc (.cells (bkV B a1 c1 a2 c2 a3 c3) 27)).alloc (.map #[] 0)) (w.heap.size+1) B 0 0):=by
  have:=PlacesAt.start (w.alloc (.cells (bkV B a1 c1 a2 c2 a3 c3) 27)) B;have e:(w.alloc (.cells (bkV B a1 c1 a2 c2 a3 c3) 27)).heap.size=w.heap.size+1:=by show(w.heap.push _).size=_;simp
  rw[e]at this;exact this
 clear t0 t1 t2;go_enter Try.func24,Try.ntmps24;go_wp2;clear hmm
 go_loopw [19] (λiv wr=>∃k:Nat,k<=B.svcs.length/\iv=.int .i64 k/\Below w.heap.size w wr/\Hid (Bl wr (w.heap.size) (bkV B a1 c1 a2 c2 a3 c3) 27)/\Hid (PlacesAt wr (w.heap.size+1) B k 0)) (λi _=>B.svcs.length - (intOf i).toNat)
 case atStart=>exact⟨0,by omega,rfl,((Below.refl _ _).alloc (AG _) _).alloc (by simp) _,T0,T1⟩
 case round=>
  obtain⟨k,hk,rfl,hb,hbox,hpl⟩:=hrel;have hNlt:w.heap.size+1<wr.heap.size:=hpl.out.lt
  by_cases hlt:k<B.svcs.length
  ·have hne:B.svcs≠[]:=by intro h;rw[h]at hlt;simp at hlt
   obtain⟨b,off,ea,hbs,hat⟩:=hB.1 hne;subst ea;obtain⟨s,hsk⟩:∃s,B.svcs[k]?=some s:=⟨B.svcs[k],by simp[hlt]⟩;have hmem:=hZ.2.2.2.1 s (AE hsk);have HSK:Hid _:=hsk;have hcs:=(hat k s hsk).below hb hbs;unfold SvcAt at hcs;obtain⟨x0,x1,x2,x3,x4,x5,x6,x7,x8,x9,x10,x11,x12⟩:=hcs;obtain⟨n,D,hn,hown,h1,h2,h3,h4⟩:=hpl.out;have H1:Hid _:=h1;have H2:Hid _:=h2;have H3:Hid _:=h3;have hnn:n<maxLen:=by unfold maxLen;omega
   clear hsk hat hne h1 h2 h3 h4
   go_wp2_with (at_mapUpdate;refine wpList_mapUpdate_own _ rfl (.tmp 24) (.tmp 27) (.tmp 28) 64 rfl 67 3 thingLaw Try.underlying64 (plainElem Try.prog 3) (w.heap.size+1) n D rfl (hown.alloc _) hnn _ _ _ rfl rfl (C8 1 s.name wf1 hmem) _ [] (plainElem_int Try.underlying3 (WalkArith.wf_i64 (by omega))) ?_;intro w1 hown1 hgrow1)
   have hsz:(wr.alloc (.cells (svV s) 63)).heap.size=wr.heap.size+1:=by show(wr.heap.push _).size=_;simp
   have hb1:Below w.heap.size w w1:=(hb.alloc hb.size _).grown hgrow1 (by rw[hsz];omega) (λj hj=>by cases hj;omega);have hbox1:Hid _:=(hgrow1.block w.heap.size (by rw[hsz];omega) (λe=>by have:=Option.some.inj e;omega)).trans (AL (AO wr (.cells (svV s) 63)) hbox.out (by omega));have hpl1:Hid _:=PlacesAt.stepS hZ.2.2.2.1 hZ.2.2.2.2.2 hU HSK.out hn H1.out H2.out H3.out hown.isMap hown1
   go_roundw
   case rel=>exact⟨k+1,by omega,by go_num,hb1,hbox1,hpl1⟩
   case measure=>simp[intOf];omega
  ·have hkl:k=B.svcs.length:=by omega
   subst hkl;have e3:=AK hbox.out 3 rfl;go_wp2;clear e3
   go_loopw [33] (λiv wr=>∃k:Nat,k<=B.bts.length/\iv=.int .i64 k/\Below w.heap.size w wr/\Hid (Bl wr (w.heap.size) (bkV B a1 c1 a2 c2 a3 c3) 27)/\Hid (PlacesAt wr (w.heap.size+1) B B.svcs.length k)) (λi _=>B.bts.length - (intOf i).toNat)
   case atStart=>exact⟨0,by omega,rfl,hb,hbox,hpl⟩
   case round=>
    clear hb hbox hpl hNlt hlt;rename_i wr0 _;obtain⟨k,hk,rfl,hb,hbox,hpl⟩:=hrel;have hNlt:w.heap.size+1<wr.heap.size:=hpl.out.lt
    by_cases hlt:k<B.bts.length
    ·have hne:B.bts≠[]:=by intro h;rw[h]at hlt;simp at hlt
     obtain⟨b,off,ea,hbs,hat⟩:=hB.2.2 hne;subst ea;obtain⟨s,hsk⟩:∃s,B.bts[k]?=some s:=⟨B.bts[k],by simp[hlt]⟩;have hmem:=hZ.2.2.2.2.2 s (AE hsk);have HSK:Hid _:=hsk;have hcs:=(hat k s hsk).below hb hbs;unfold BtAt at hcs;obtain⟨x0,x1⟩:=hcs;obtain⟨n,D,hn,hown,h1,h2,h3,h4⟩:=hpl.out;have H1:Hid _:=h1;have H2:Hid _:=h2;have H3:Hid _:=h3;have H4:Hid _:=h4;have hnn:n<maxLen:=by unfold maxLen;omega
     clear hsk hat hne h1 h2 h3 h4
     go_wp2_with (at_mapUpdate;refine wpList_mapUpdate_own _ rfl (.tmp 38) (.tmp 41) (.tmp 42) 64 rfl 67 3 thingLaw Try.underlying64 (plainElem Try.prog 3) (w.heap.size+1) n D rfl (hown.alloc _) hnn _ _ _ rfl rfl (C8 2 s.name wf2 hmem) _ [] (plainElem_int Try.underlying3 (WalkArith.wf_i64 (by omega))) ?_;intro w1 hown1 hgrow1)
     have hsz:(wr.alloc (.cells #[.string s.name,.bool s.drain] 74)).heap.size=wr.heap.size+1:=by show(wr.heap.push _).size=_;simp
     have hb1:Below w.heap.size w w1:=(hb.alloc hb.size _).grown hgrow1 (by rw[hsz];omega) (λj hj=>by cases hj;omega);have hbox1:Hid _:=(hgrow1.block w.heap.size (by rw[hsz];omega) (λe=>by have:=Option.some.inj e;omega)).trans (AL (AO wr (.cells #[.string s.name,.bool s.drain] 74)) hbox.out (by omega));have hpl1:Hid _:=PlacesAt.stepB hZ.2.2.2.1 hZ.2.2.2.2.2 HSK.out hn H1.out H2.out H3.out H4.out hown.isMap _ hown1
     go_roundw
     case rel=>exact⟨k+1,by omega,by go_num,hb1,hbox1,hpl1⟩
     case measure=>simp[intOf];omega
    ·go_wp2
     go_ret;have hkl:k=B.bts.length:=by omega
     subst hkl;exact⟨rfl,hpl.out,hb⟩
theorem same_name{a b:ByteArray}:(a.toList==b.toList)=true↔a=b:=by
 rw[beq_iff_eq,ByteArray.toList_eq,ByteArray.toList_eq];constructor
 ·intro h
  cases a;cases b;simp only[ByteArray.mk.injEq];exact Array.toList_inj.1 h
 ·intro h;rw[h]
theorem Oq{D:DataW Unit}{B:Bk}{x:ByteArray}(hx:x.size<=maxLen)
  (h3:∀x:ByteArray,x.size<=maxLen->(∀(i:Nat) s,i<B.bts.length->B.bts[i]?=some s->s.name≠x)->Maps.has D (key 2 x)=false)
  (h4:∀(i:Nat) s,i<B.bts.length->B.bts[i]?=some s->Maps.has D (key 2 s.name)=true):Maps.has D (key 2 x)=B.bts.any λb=>b.name.toList==x.toList:=by
 cases h:B.bts.any λb=>b.name.toList==x.toList with
 |true=>
  obtain⟨s,hs,he⟩:=List.any_eq_true.1 h;obtain⟨i,hi,rfl⟩:=List.mem_iff_getElem.1 hs;have e:=same_name.1 he;rw[<-e];exact h4 i _ hi (List.getElem?_eq_getElem hi)
 |false=>
  rw[List.any_eq_false]at h;exact h3 x hx λi s hi hs e=>h s (AE hs) (same_name.2 e)
theorem Ed{B:Bk}{x:ByteArray}(h:Bz B x=none):∀(i:Nat) s,i<B.svcs.length->B.svcs[i]?=some s->s.name≠x:=λi s _ hs e=>by
 unfold Bz at h;rw[List.find?_eq_none]at h;exact h s (AE hs) (same_name.2 e)
theorem Ec{B:Bk}{x:ByteArray}{s:Svc}(h:Bz B x=some s):∃i:Nat,i<B.svcs.length/\B.svcs[i]?=some s/\s.name=x:=by
 unfold Bz at h;obtain⟨i,hi,_⟩:=Bo h;exact⟨i,(AC hi).1,hi,same_name.1 (List.find?_some (p:=λs:Svc=>s.name.toList==x.toList) h)⟩
theorem Bc(B:Bk)(c:Cp)(b:Nat)(w:World)(hc:c.berth.size<=maxLen)(hP:PlacesAt w b B B.svcs.length B.bts.length):
  Calls Try.prog 72 #[.agg (cpV c),.map (some b)] w λe w'=>e=.returned (.bool (DQ B.bts c))/\Below w.heap.size w w':=by
 by_cases h5:c.state=1
 ·have H5:Hid (c.state=1):=h5
  have h5':(c.state==1)=true:=by simp[h5]
  clear h5;go_enter Try.func72,Try.ntmps72;go_wp2;go_ret;exact⟨AS (by simp[DQ,H5.out]),AO _ _⟩
 ·have H5:Hid (¬c.state=1):=h5
  have h5':(c.state==1)=false:=by simp[h5]
  clear h5;obtain⟨n,D,hn,hown,h1,h2,h3,h4⟩:=hP;have HB:Hid (Maps.has D (key 2 c.berth)=B.bts.any λb=>b.name.toList==c.berth.toList):=Oq hc h3 h4;clear h1 h2 h3 h4;go_enter Try.func72,Try.ntmps72
  go_wp2_with (at_lookup;refine wpList_lookup_own_ok_int _ rfl (.tmp 14) (.tmp 17) 64 rfl 67 3 .i64 thingLaw Try.underlying64 Try.underlying3 (Cd _) b n D rfl (hown.alloc _) _ _ rfl (C8 2 c.berth wf2 hc) ?_;intro z hat hwz)
  go_ret;exact⟨AS (by rw[HB.out];simp[DQ,H5.out]),AO _ _⟩
end
end Go.Proofs.Ytbceafpodamnfaa
