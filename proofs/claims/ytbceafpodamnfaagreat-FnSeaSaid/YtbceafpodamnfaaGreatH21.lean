import Derived.Test.YtbceafpodamnfaaGreatH05
import Derived.Laws.EntriesVeiled
import Derived.Maps.OwnSet
import Derived.DeepKeys5
set_option linter.all false
set_option maxHeartbeats 8000000
set_option maxRecDepth 100000
namespace Go.Proofs.YtbceafpodamnfaaGreat
section
open Go.RowKit Go.Sort
def Fs(s:Svc):Nat->Bool
 |0=>Cq s.name
 |1=>Lh s
 |2=>FO s
 |3=>EF s
 |_=>FM s
theorem GU(s:Svc):BH (Fs s) 5=(Cq s.name&&Lh s&&FO s&&EF s&&FM s):=by
 simp[BH,List.range,List.range.loop,Fs,Bool.and_assoc]
def MJ(w:World)(b:Nat):Prop:=w.heap[b]?=some (.cells #[.func (.func 41) #[] #[],.func (.func 42) #[] #[],.func (.func 43) #[] #[],.func (.func 44) #[] #[],.func (.func 45) #[] #[]] 72 (0,0))
theorem Di(s:Svc)(b:Nat)(w:World)(hs:s.name.size<=maxLen)(hF:MJ w b):
  Calls Tryz.prog 46 #[.agg #[.string s.name,.int .i64 s.version,.bool s.gone,.int .i64 s.image,.int .i64 s.want,.int .i64 s.down,.int .i64 s.over,.int .i64 s.next,.int .i64 s.per,.int .i64 s.least,.int .i64 s.most,.int .i64 s.load,.int .i64 s.cool],.slice (some ⟨b,0,none⟩) 5 5] w λe w'=>e=.returned (.bool (BH (Fs s) 5))/\Below w.heap.size w w':=by
 have hbx:=AM w (.cells #[.string s.name,.int .i64 s.version,.bool s.gone,.int .i64 s.image,.int .i64 s.want,.int .i64 s.down,.int .i64 s.over,.int .i64 s.next,.int .i64 s.per,.int .i64 s.least,.int .i64 s.most,.int .i64 s.load,.int .i64 s.cool] 29);have hbox:Hid _:=heap_alloc_new w (.cells #[.string s.name,.int .i64 s.version,.bool s.gone,.int .i64 s.image,.int .i64 s.want,.int .i64 s.down,.int .i64 s.over,.int .i64 s.next,.int .i64 s.per,.int .i64 s.least,.int .i64 s.most,.int .i64 s.load,.int .i64 s.cool] 29);have hblt:b<w.heap.size:=(AB hF).1;have HF:Hid (MJ w b):=hF;clear hF;go_enter Tryz.func46,Tryz.ntmps46;go_wp2
 go_loopw [9] (λiv wr=>∃k:Nat,k<=5/\iv=.int .i64 k/\Below w.heap.size w wr/\Hid (wr.heap[w.heap.size]?=some (.cells #[.string s.name,.int .i64 s.version,.bool s.gone,.int .i64 s.image,.int .i64 s.want,.int .i64 s.down,.int .i64 s.over,.int .i64 s.next,.int .i64 s.per,.int .i64 s.least,.int .i64 s.most,.int .i64 s.load,.int .i64 s.cool] 29 (0,0)))/\Hid (∀i,i<k->Fs s i=true)) (λi _=>5 - (intOf i).toNat)
 case atStart=>exact⟨0,by omega,rfl,hbx,hbox,λi hi=>absurd hi (by omega)⟩
 case round=>
  obtain⟨k,hk,rfl,hb,hbox1,hall⟩:=hrel;have hNlt:w.heap.size<wr.heap.size:=(AB hbox1.out).1;have hfn:Hid _:=AK hb HF.out hblt;have x0:=AJ hbox1.out 0 rfl;have x1:=AJ hbox1.out 1 rfl;have x2:=AJ hbox1.out 2 rfl;have x3:=AJ hbox1.out 3 rfl;have x4:=AJ hbox1.out 4 rfl;have x5:=AJ hbox1.out 5 rfl;have x6:=AJ hbox1.out 6 rfl;have x7:=AJ hbox1.out 7 rfl;have x8:=AJ hbox1.out 8 rfl;have x9:=AJ hbox1.out 9 rfl;have x10:=AJ hbox1.out 10 rfl;have x11:=AJ hbox1.out 11 rfl;have x12:=AJ hbox1.out 12 rfl
  by_cases h0:k=0
  ·subst h0
   have f0:=AJ hfn.out 0 rfl;cases hv:Cq s.name
   ·have HV:Hid ((Fs s) 0=false):=hv
    go_wp2_with fail
    refine(EU s _ hs).mono ?_;rintro e w1 ⟨rfl,hb1⟩;have hb2:=hb.trans (hb1.mono hb.size);rw[hv];clear x0 x1 x2 x3 x4 x5 x6 x7 x8 x9 x10 x11 x12 f0;go_wp2;go_ret;exact⟨AR (Al (by omega) HV.out).symm,hb2⟩
   ·have HV:Hid ((Fs s) 0=true):=hv
    go_wp2_with fail
    refine(EU s _ hs).mono ?_;rintro e w1 ⟨rfl,hb1⟩;have hb2:=hb.trans (hb1.mono hb.size);have hbox2:Hid _:=AK hb1 hbox1.out hNlt;rw[hv];clear x0 x1 x2 x3 x4 x5 x6 x7 x8 x9 x10 x11 x12 f0;go_wp2
    go_roundw
    case rel=>exact⟨0+1,by omega,by go_num,hb2,hbox2,Ax hall.out HV.out⟩
    case measure=>simp[intOf]
  by_cases h1:k=1
  ·subst h1
   have f1:=AJ hfn.out 1 rfl;cases hv:Lh s
   ·have HV:Hid ((Fs s) 1=false):=hv
    go_wp2_with fail
    refine(Ez s _).mono ?_;rintro e w1 ⟨rfl,hb1⟩;have hb2:=hb.trans (hb1.mono hb.size);rw[hv];clear x0 x1 x2 x3 x4 x5 x6 x7 x8 x9 x10 x11 x12 f1;go_wp2;go_ret;exact⟨AR (Al (by omega) HV.out).symm,hb2⟩
   ·have HV:Hid ((Fs s) 1=true):=hv
    go_wp2_with fail
    refine(Ez s _).mono ?_;rintro e w1 ⟨rfl,hb1⟩;have hb2:=hb.trans (hb1.mono hb.size);have hbox2:Hid _:=AK hb1 hbox1.out hNlt;rw[hv];clear x0 x1 x2 x3 x4 x5 x6 x7 x8 x9 x10 x11 x12 f1;go_wp2
    go_roundw
    case rel=>exact⟨1+1,by omega,by go_num,hb2,hbox2,Ax hall.out HV.out⟩
    case measure=>simp[intOf]
  by_cases h2:k=2
  ·subst h2
   have f2:=AJ hfn.out 2 rfl;cases hv:FO s
   ·have HV:Hid ((Fs s) 2=false):=hv
    go_wp2_with fail
    refine(FN s _).mono ?_;rintro e w1 ⟨rfl,hb1⟩;have hb2:=hb.trans (hb1.mono hb.size);rw[hv];clear x0 x1 x2 x3 x4 x5 x6 x7 x8 x9 x10 x11 x12 f2;go_wp2;go_ret;exact⟨AR (Al (by omega) HV.out).symm,hb2⟩
   ·have HV:Hid ((Fs s) 2=true):=hv
    go_wp2_with fail
    refine(FN s _).mono ?_;rintro e w1 ⟨rfl,hb1⟩;have hb2:=hb.trans (hb1.mono hb.size);have hbox2:Hid _:=AK hb1 hbox1.out hNlt;rw[hv];clear x0 x1 x2 x3 x4 x5 x6 x7 x8 x9 x10 x11 x12 f2;go_wp2
    go_roundw
    case rel=>exact⟨2+1,by omega,by go_num,hb2,hbox2,Ax hall.out HV.out⟩
    case measure=>simp[intOf]
  by_cases h3:k=3
  ·subst h3
   have f3:=AJ hfn.out 3 rfl;cases hv:EF s
   ·have HV:Hid ((Fs s) 3=false):=hv
    go_wp2_with fail
    refine(FC s _).mono ?_;rintro e w1 ⟨rfl,hb1⟩;have hb2:=hb.trans (hb1.mono hb.size);rw[hv];clear x0 x1 x2 x3 x4 x5 x6 x7 x8 x9 x10 x11 x12 f3;go_wp2;go_ret;exact⟨AR (Al (by omega) HV.out).symm,hb2⟩
   ·have HV:Hid ((Fs s) 3=true):=hv
    go_wp2_with fail
    refine(FC s _).mono ?_;rintro e w1 ⟨rfl,hb1⟩;have hb2:=hb.trans (hb1.mono hb.size);have hbox2:Hid _:=AK hb1 hbox1.out hNlt;rw[hv];clear x0 x1 x2 x3 x4 x5 x6 x7 x8 x9 x10 x11 x12 f3;go_wp2
    go_roundw
    case rel=>exact⟨3+1,by omega,by go_num,hb2,hbox2,Ax hall.out HV.out⟩
    case measure=>simp[intOf]
  by_cases h4:k=4
  ·subst h4
   have f4:=AJ hfn.out 4 rfl;cases hv:FM s
   ·have HV:Hid ((Fs s) 4=false):=hv
    go_wp2_with fail
    refine(Dc s _).mono ?_;rintro e w1 ⟨rfl,hb1⟩;have hb2:=hb.trans (hb1.mono hb.size);rw[hv];clear x0 x1 x2 x3 x4 x5 x6 x7 x8 x9 x10 x11 x12 f4;go_wp2;go_ret;exact⟨AR (Al (by omega) HV.out).symm,hb2⟩
   ·have HV:Hid ((Fs s) 4=true):=hv
    go_wp2_with fail
    refine(Dc s _).mono ?_;rintro e w1 ⟨rfl,hb1⟩;have hb2:=hb.trans (hb1.mono hb.size);have hbox2:Hid _:=AK hb1 hbox1.out hNlt;rw[hv];clear x0 x1 x2 x3 x4 x5 x6 x7 x8 x9 x10 x11 x12 f4;go_wp2
    go_roundw
    case rel=>exact⟨4+1,by omega,by go_num,hb2,hbox2,Ax hall.out HV.out⟩
    case measure=>simp[intOf]
  ·have h5:k=5:=by omega
   subst h5;clear x0 x1 x2 x3 x4 x5 x6 x7 x8 x9 x10 x11 x12;go_wp2;go_ret;exact⟨AR (B6 hall.out).symm,hb⟩
theorem ET(B:Bk)(a1 a2 a3:Option Addr)(c1 c2 c3:Nat)(w:World)(hS:B.small)(hZ:B.sized)(hB:BkAt w a1 a2 a3 B):
  Calls Tryz.prog 25 #[.agg #[.int .i64 B.now,.slice a1 B.svcs.length c1,.slice a2 B.cps.length c2,.slice a3 B.bts.length c3]] w λe w'=>e=.returned (.bool (BH (BB B) B.svcs.length))/\Below w.heap.size w w':=by
 obtain⟨hl1,hl2,hl3⟩:=hS;obtain⟨t0,t1,t2⟩:=B0 w (.cells #[.int .i64 B.now,.slice a1 B.svcs.length c1,.slice a2 B.cps.length c2,.slice a3 B.bts.length c3] 27) (.cells #[.func (.func 41) #[] #[],.func (.func 42) #[] #[],.func (.func 43) #[] #[],.func (.func 44) #[] #[],.func (.func 45) #[] #[]] 72);have T0:Hid _:=t0;have T1:Hid _:=t1;clear t0 t1 t2;go_enter Tryz.func25,Tryz.ntmps25;go_wp2
 go_loopw [10] (λiv wr=>∃k:Nat,k<=B.svcs.length/\iv=.int .i64 k/\Below w.heap.size w wr/\Hid (wr.heap[w.heap.size]?=some (.cells #[.int .i64 B.now,.slice a1 B.svcs.length c1,.slice a2 B.cps.length c2,.slice a3 B.bts.length c3] 27 (0,0)))/\Hid (MJ wr (w.heap.size+1))/\Hid (∀i,i<k->BB B i=true)) (λi _=>B.svcs.length - (intOf i).toNat)
 case atStart=>exact⟨0,by omega,rfl,((Below.refl _ _).alloc (AG _) _).alloc (by simp) _,T0,T1,λi hi=>absurd hi (by omega)⟩
 case round=>
  obtain⟨k,hk,rfl,hb,hbox,hfn,hall⟩:=hrel;have hNlt:w.heap.size+1<wr.heap.size:=(AB hfn.out).1;have hNlt0:w.heap.size<wr.heap.size:=by omega
  by_cases hlt:k<B.svcs.length
  ·have hne:B.svcs≠[]:=by intro h;rw[h]at hlt;simp at hlt
   obtain⟨b,off,ea,hbs,hat⟩:=hB.1 hne;subst ea;obtain⟨s,hsk⟩:∃s,B.svcs[k]?=some s:=⟨B.svcs[k],by simp[hlt]⟩;have hmem:=hZ.2.2.2.1 s (AE hsk);have HSK:Hid _:=hsk;have hcs:=(hat k s hsk).below hb hbs;unfold SvcAt at hcs;obtain⟨x0,x1,x2,x3,x4,x5,x6,x7,x8,x9,x10,x11,x12⟩:=hcs;have hbr:Below w.heap.size w (wr.alloc (.cells #[.string s.name,.int .i64 s.version,.bool s.gone,.int .i64 s.image,.int .i64 s.want,.int .i64 s.down,.int .i64 s.over,.int .i64 s.next,.int .i64 s.per,.int .i64 s.least,.int .i64 s.most,.int .i64 s.load,.int .i64 s.cool] 29)):=hb.alloc hb.size _;have HSZ:Hid ((wr.alloc (.cells #[.string s.name,.int .i64 s.version,.bool s.gone,.int .i64 s.image,.int .i64 s.want,.int .i64 s.down,.int .i64 s.over,.int .i64 s.next,.int .i64 s.per,.int .i64 s.least,.int .i64 s.most,.int .i64 s.load,.int .i64 s.cool] 29)).heap.size=wr.heap.size+1):=by show(wr.heap.push _).size=_;simp
   have HBX:Hid _:=heap_alloc_new wr (.cells #[.string s.name,.int .i64 s.version,.bool s.gone,.int .i64 s.image,.int .i64 s.want,.int .i64 s.down,.int .i64 s.over,.int .i64 s.next,.int .i64 s.per,.int .i64 s.least,.int .i64 s.most,.int .i64 s.load,.int .i64 s.cool] 29);have hw1:=AM wr (.cells #[.string s.name,.int .i64 s.version,.bool s.gone,.int .i64 s.image,.int .i64 s.want,.int .i64 s.down,.int .i64 s.over,.int .i64 s.next,.int .i64 s.per,.int .i64 s.least,.int .i64 s.most,.int .i64 s.load,.int .i64 s.cool] 29);have hboxr:Hid _:=AK hw1 hbox.out (by omega);have hfnr:Hid (MJ (wr.alloc (.cells #[.string s.name,.int .i64 s.version,.bool s.gone,.int .i64 s.image,.int .i64 s.want,.int .i64 s.down,.int .i64 s.over,.int .i64 s.next,.int .i64 s.per,.int .i64 s.least,.int .i64 s.most,.int .i64 s.load,.int .i64 s.cool] 29)) (w.heap.size+1)):=AK hw1 hfn.out hNlt;clear hsk
   by_cases hk0:k=0
   ·have HK0:Hid (k=0):=hk0
    have hz:decide (0<k)=false:=by simp;omega
    clear hk0 hat hne;go_wp2;clear x0 x1 x2 x3 x4 x5 x6 x7 x8 x9 x10 x11 x12;refine wp_region_quiet_below (by kernel_rfl) (by kernel_rfl) ?_
    repeat (first|go_big_quiet_step (fail)|quiet_step (fail))
    refine wpQuiet_nil ?_;intro w2 hw';obtain⟨⟨dq,osq⟩,hw''⟩:=hw';have hb2:Below (wr.alloc (.cells #[.string s.name,.int .i64 s.version,.bool s.gone,.int .i64 s.image,.int .i64 s.want,.int .i64 s.down,.int .i64 s.over,.int .i64 s.next,.int .i64 s.per,.int .i64 s.least,.int .i64 s.most,.int .i64 s.load,.int .i64 s.cool] 29)).heap.size (wr.alloc (.cells #[.string s.name,.int .i64 s.version,.bool s.gone,.int .i64 s.image,.int .i64 s.want,.int .i64 s.down,.int .i64 s.over,.int .i64 s.next,.int .i64 s.per,.int .i64 s.least,.int .i64 s.most,.int .i64 s.load,.int .i64 s.cool] 29)) w2:=by rw[hw''];exact below_regrown _ _ _
    clear hw'';have hbr2:=hbr.trans (hb2.mono hbr.size);have bxr:Hid _:=AK hb2 HBX.out (by rw[HSZ.out];omega);have box2:Hid _:=AK hb2 hboxr.out (by rw[HSZ.out];omega);have fns2:Hid (MJ w2 (w.heap.size+1)):=AK hb2 hfnr.out (by rw[HSZ.out];omega);have hz2:wr.heap.size<w2.heap.size:=by have:=hb2.size;rw[HSZ.out]at this;omega
    have r0:=AJ bxr.out 0 rfl;have r1:=AJ bxr.out 1 rfl;have r2:=AJ bxr.out 2 rfl;have r3:=AJ bxr.out 3 rfl;have r4:=AJ bxr.out 4 rfl;have r5:=AJ bxr.out 5 rfl;have r6:=AJ bxr.out 6 rfl;have r7:=AJ bxr.out 7 rfl;have r8:=AJ bxr.out 8 rfl;have r9:=AJ bxr.out 9 rfl;have r10:=AJ bxr.out 10 rfl;have r11:=AJ bxr.out 11 rfl;have r12:=AJ bxr.out 12 rfl;have q0:=AJ box2.out 0 rfl;cases hver:inB s.version 1 B.now
    ·have HNO:Hid (BB B k=false):=by unfold Hid BB;rw[HSK.out];simp[DG,hver]
     go_wp2_with (go_at_call 40;refine(Bg _ _ _ _).mono ?_;rintro e w' ⟨rfl,rfl⟩)
     go_ret;exact⟨AR (Al hlt HNO.out).symm,hbr2⟩
    cases hal:BH (Fs s) 5
    ·have HNO:Hid (BB B k=false):=by unfold Hid BB;rw[HSK.out];simp[DG,hver,<-GU,hal]
     go_wp2_with (first|(go_at_call 40;refine(Bg _ _ _ _).mono ?_;rintro e w' ⟨rfl,rfl⟩)|(go_at_call 46;refine(Di s (w.heap.size+1) _ hmem fns2.out).mono ?_;rintro e w3 ⟨rfl,hb3⟩))
     go_ret;exact⟨AR (Al hlt HNO.out).symm,hbr2.trans (hb3.mono hbr2.size)⟩
    have HYES:Hid (BB B k=true):=by unfold Hid BB;rw[HSK.out];simp[DG,hver,<-GU,hal,HK0.out]
    go_wp2_with (first|(go_at_call 40;refine(Bg _ _ _ _).mono ?_;rintro e w' ⟨rfl,rfl⟩)|(go_at_call 46;refine(Di s (w.heap.size+1) _ hmem fns2.out).mono ?_;rintro e w3 ⟨rfl,hb3⟩))
    have hb4:=hbr2.trans (hb3.mono hbr2.size);have box3:Hid _:=AK hb3 box2.out (by omega);have fns3:Hid (MJ w3 (w.heap.size+1)):=AK hb3 fns2.out (by omega)
    go_roundw
    case rel=>exact⟨k+1,by omega,by go_num,hb4,box3,fns3,Ax hall.out HYES.out⟩
    case measure=>simp[intOf];omega
   obtain⟨k',rfl⟩:∃k',k=k'+1:=⟨k - 1,by omega⟩;clear hk0;obtain⟨p,hpk⟩:∃p,B.svcs[k']?=some p:=⟨B.svcs[k']'(by omega),by rw[List.getElem?_eq_getElem]⟩;have HPK:Hid _:=hpk;obtain⟨y0,y1,y2,y3,y4,y5,y6,y7,y8,y9,y10,y11,y12⟩:=((hat k' p hpk).below (hb.trans (hw1.mono hb.size)) hbs).grown;have gx0:=Aa HBX.out 0 rfl;have gb1:=Aa hboxr.out 1 rfl;have HTRI:=EO s.name.toList p.name.toList;have HT:Hid _:=HTRI;clear HTRI hpk hat hne;cases hle:Op.bytesLess p.name.toList s.name.toList
   ·have HNO:Hid (BB B (k'+1)=false):=by unfold Hid BB;rw[HSK.out];simp[HPK.out,hle]
    have hle2:(Op.bytesLess s.name.toList p.name.toList||s.name.toList==p.name.toList)=true:=by rw[HT.out,hle];rfl
    clear hle;go_wp2;clear x0 x1 x2 x3 x4 x5 x6 x7 x8 x9 x10 x11 x12;refine wp_region_quiet_below (by kernel_rfl) (by kernel_rfl) ?_
    repeat (first|go_big_quiet_step (fail)|quiet_step (fail))
    refine wpQuiet_nil ?_;intro w2 hw';obtain⟨⟨dq,osq⟩,hw''⟩:=hw';have hb2:Below (wr.alloc (.cells #[.string s.name,.int .i64 s.version,.bool s.gone,.int .i64 s.image,.int .i64 s.want,.int .i64 s.down,.int .i64 s.over,.int .i64 s.next,.int .i64 s.per,.int .i64 s.least,.int .i64 s.most,.int .i64 s.load,.int .i64 s.cool] 29)).heap.size (wr.alloc (.cells #[.string s.name,.int .i64 s.version,.bool s.gone,.int .i64 s.image,.int .i64 s.want,.int .i64 s.down,.int .i64 s.over,.int .i64 s.next,.int .i64 s.per,.int .i64 s.least,.int .i64 s.most,.int .i64 s.load,.int .i64 s.cool] 29)) w2:=by rw[hw''];exact below_regrown _ _ _
    clear hw'';go_wp2;go_ret;exact⟨AR (Al hlt HNO.out).symm,hbr.trans (hb2.mono hbr.size)⟩
   ·have hle2:(Op.bytesLess s.name.toList p.name.toList||s.name.toList==p.name.toList)=false:=by rw[HT.out,hle];rfl
    have HLE:Hid _:=hle;clear hle;go_wp2;clear x0 x1 x2 x3 x4 x5 x6 x7 x8 x9 x10 x11 x12;refine wp_region_quiet_below (by kernel_rfl) (by kernel_rfl) ?_
    repeat (first|go_big_quiet_step (fail)|quiet_step (fail))
    refine wpQuiet_nil ?_;intro w2 hw';obtain⟨⟨dq,osq⟩,hw''⟩:=hw';have hb2:Below (wr.alloc (.cells #[.string s.name,.int .i64 s.version,.bool s.gone,.int .i64 s.image,.int .i64 s.want,.int .i64 s.down,.int .i64 s.over,.int .i64 s.next,.int .i64 s.per,.int .i64 s.least,.int .i64 s.most,.int .i64 s.load,.int .i64 s.cool] 29)).heap.size (wr.alloc (.cells #[.string s.name,.int .i64 s.version,.bool s.gone,.int .i64 s.image,.int .i64 s.want,.int .i64 s.down,.int .i64 s.over,.int .i64 s.next,.int .i64 s.per,.int .i64 s.least,.int .i64 s.most,.int .i64 s.load,.int .i64 s.cool] 29)) w2:=by rw[hw''];exact below_regrown _ _ _
    clear hw'';clear gx0 gb1 hle2 y0 y1 y2 y3 y4 y5 y6 y7 y8 y9 y10 y11 y12;have hbr2:=hbr.trans (hb2.mono hbr.size);have bxr:Hid _:=AK hb2 HBX.out (by rw[HSZ.out];omega);have box2:Hid _:=AK hb2 hboxr.out (by rw[HSZ.out];omega);have fns2:Hid (MJ w2 (w.heap.size+1)):=AK hb2 hfnr.out (by rw[HSZ.out];omega);have hz2:wr.heap.size<w2.heap.size:=by have:=hb2.size;rw[HSZ.out]at this;omega
    have r0:=AJ bxr.out 0 rfl;have r1:=AJ bxr.out 1 rfl;have r2:=AJ bxr.out 2 rfl;have r3:=AJ bxr.out 3 rfl;have r4:=AJ bxr.out 4 rfl;have r5:=AJ bxr.out 5 rfl;have r6:=AJ bxr.out 6 rfl;have r7:=AJ bxr.out 7 rfl;have r8:=AJ bxr.out 8 rfl;have r9:=AJ bxr.out 9 rfl;have r10:=AJ bxr.out 10 rfl;have r11:=AJ bxr.out 11 rfl;have r12:=AJ bxr.out 12 rfl;have q0:=AJ box2.out 0 rfl;cases hver:inB s.version 1 B.now
    ·have HNO:Hid (BB B (k'+1)=false):=by unfold Hid BB;rw[HSK.out];simp[DG,hver]
     go_wp2_with (go_at_call 40;refine(Bg _ _ _ _).mono ?_;rintro e w' ⟨rfl,rfl⟩)
     go_ret;exact⟨AR (Al hlt HNO.out).symm,hbr2⟩
    cases hal:BH (Fs s) 5
    ·have HNO:Hid (BB B (k'+1)=false):=by unfold Hid BB;rw[HSK.out];simp[DG,hver,<-GU,hal]
     go_wp2_with (first|(go_at_call 40;refine(Bg _ _ _ _).mono ?_;rintro e w' ⟨rfl,rfl⟩)|(go_at_call 46;refine(Di s (w.heap.size+1) _ hmem fns2.out).mono ?_;rintro e w3 ⟨rfl,hb3⟩))
     go_ret;exact⟨AR (Al hlt HNO.out).symm,hbr2.trans (hb3.mono hbr2.size)⟩
    have HYES:Hid (BB B (k'+1)=true):=by unfold Hid BB;rw[HSK.out];simp[DG,hver,<-GU,hal,HPK.out,HLE.out]
    go_wp2_with (first|(go_at_call 40;refine(Bg _ _ _ _).mono ?_;rintro e w' ⟨rfl,rfl⟩)|(go_at_call 46;refine(Di s (w.heap.size+1) _ hmem fns2.out).mono ?_;rintro e w3 ⟨rfl,hb3⟩))
    have hb4:=hbr2.trans (hb3.mono hbr2.size);have box3:Hid _:=AK hb3 box2.out (by omega);have fns3:Hid (MJ w3 (w.heap.size+1)):=AK hb3 fns2.out (by omega)
    go_roundw
    case rel=>exact⟨(k'+1)+1,by omega,by go_num,hb4,box3,fns3,Ax hall.out HYES.out⟩
    case measure=>simp[intOf];omega
  ·go_wp2
   go_ret;exact⟨AR (B6 λi hi=>hall.out i (by omega)).symm,hb⟩
theorem Fd(B:Bk)(a1 a2 a3:Option Addr)(c1 c2 c3:Nat)(w:World)(hS:B.small)(hZ:B.sized)(hB:BkAt w a1 a2 a3 B):
  Calls Tryz.prog 26 #[.agg #[.int .i64 B.now,.slice a1 B.svcs.length c1,.slice a2 B.cps.length c2,.slice a3 B.bts.length c3]] w λe w'=>e=.returned (.bool (BH (By B) B.bts.length))/\Below w.heap.size w w':=by
 obtain⟨hl1,hl2,hl3⟩:=hS;have T0:Hid _:=heap_alloc_new w (.cells #[.int .i64 B.now,.slice a1 B.svcs.length c1,.slice a2 B.cps.length c2,.slice a3 B.bts.length c3] 27);go_enter Tryz.func26,Tryz.ntmps26;go_wp2
 go_loopw [8] (λiv wr=>∃k:Nat,k<=B.bts.length/\iv=.int .i64 k/\Below w.heap.size w wr/\Hid (wr.heap[w.heap.size]?=some (.cells #[.int .i64 B.now,.slice a1 B.svcs.length c1,.slice a2 B.cps.length c2,.slice a3 B.bts.length c3] 27 (0,0)))/\Hid (∀i,i<k->By B i=true)) (λi _=>B.bts.length - (intOf i).toNat)
 case atStart=>exact⟨0,by omega,rfl,AM _ _,T0,λi hi=>absurd hi (by omega)⟩
 case round=>
  obtain⟨k,hk,rfl,hb,hbox,hall⟩:=hrel;have hNlt:w.heap.size<wr.heap.size:=(AB hbox.out).1
  by_cases hlt:k<B.bts.length
  ·have hne:B.bts≠[]:=by intro h;rw[h]at hlt;simp at hlt
   obtain⟨b,off,ea,hbs,hat⟩:=hB.2.2 hne;subst ea;obtain⟨s,hsk⟩:∃s,B.bts[k]?=some s:=⟨B.bts[k],by simp[hlt]⟩;have hmem:=hZ.2.2.2.2.2 s (AE hsk);have HSK:Hid _:=hsk;have hcs:=(hat k s hsk).below hb hbs;unfold BtAt at hcs;obtain⟨x0,x1⟩:=hcs;have hbr:Below w.heap.size w (wr.alloc (.cells #[.string s.name,.bool s.drain] 51)):=hb.alloc hb.size _;have HSZ:Hid ((wr.alloc (.cells #[.string s.name,.bool s.drain] 51)).heap.size=wr.heap.size+1):=by show(wr.heap.push _).size=_;simp
   have HBX:Hid _:=heap_alloc_new wr (.cells #[.string s.name,.bool s.drain] 51);have hw1:=AM wr (.cells #[.string s.name,.bool s.drain] 51);have hboxr:Hid _:=AK hw1 hbox.out (by omega);clear hsk
   by_cases hk0:k=0
   ·have HK0:Hid (k=0):=hk0
    have hz:decide (0<k)=false:=by simp;omega
    clear hk0 hat hne;go_wp2;clear x0 x1;refine wp_region_quiet_below (by kernel_rfl) (by kernel_rfl) ?_
    repeat (first|go_big_quiet_step (fail)|quiet_step (fail))
    refine wpQuiet_nil ?_;intro w2 hw';obtain⟨⟨dq,osq⟩,hw''⟩:=hw';have hb2:Below (wr.alloc (.cells #[.string s.name,.bool s.drain] 51)).heap.size (wr.alloc (.cells #[.string s.name,.bool s.drain] 51)) w2:=by rw[hw''];exact below_regrown _ _ _
    clear hw'';have hbr2:=hbr.trans (hb2.mono hbr.size);have bxr:Hid _:=AK hb2 HBX.out (by rw[HSZ.out];omega);have box2:Hid _:=AK hb2 hboxr.out (by rw[HSZ.out];omega);have hz2:wr.heap.size<w2.heap.size:=by have:=hb2.size;rw[HSZ.out]at this;omega
    have r0:=AJ bxr.out 0 rfl;cases hver:Cq s.name
    ·have HNO:Hid (By B k=false):=by unfold Hid By;rw[HSK.out];simp[hver]
     go_wp2_with (go_at_call 47;refine(Du _ _ hmem).mono ?_;rintro e w' ⟨rfl,rfl⟩)
     go_ret;exact⟨AR (Al hlt HNO.out).symm,hbr2⟩
    have HYES:Hid (By B k=true):=by unfold Hid By;rw[HSK.out];simp[hver,HK0.out]
    go_wp2_with (go_at_call 47;refine(Du _ _ hmem).mono ?_;rintro e w' ⟨rfl,rfl⟩)
    go_roundw
    case rel=>exact⟨k+1,by omega,by go_num,hbr2,box2,Ax hall.out HYES.out⟩
    case measure=>simp[intOf];omega
   obtain⟨k',rfl⟩:∃k',k=k'+1:=⟨k - 1,by omega⟩;clear hk0;obtain⟨p,hpk⟩:∃p,B.bts[k']?=some p:=⟨B.bts[k']'(by omega),by rw[List.getElem?_eq_getElem]⟩;have HPK:Hid _:=hpk;obtain⟨y0,y1⟩:=((hat k' p hpk).below (hb.trans (hw1.mono hb.size)) hbs).grown;have gx0:=Aa HBX.out 0 rfl;have gb3:=Aa hboxr.out 3 rfl;have HTRI:=EO s.name.toList p.name.toList;have HT:Hid _:=HTRI;clear HTRI hpk hat hne;cases hle:Op.bytesLess p.name.toList s.name.toList
   ·have HNO:Hid (By B (k'+1)=false):=by unfold Hid By;rw[HSK.out];simp[HPK.out,hle]
    have hle2:(Op.bytesLess s.name.toList p.name.toList||s.name.toList==p.name.toList)=true:=by rw[HT.out,hle];rfl
    clear hle;go_wp2;clear x0 x1;refine wp_region_quiet_below (by kernel_rfl) (by kernel_rfl) ?_
    repeat (first|go_big_quiet_step (fail)|quiet_step (fail))
    refine wpQuiet_nil ?_;intro w2 hw';obtain⟨⟨dq,osq⟩,hw''⟩:=hw';have hb2:Below (wr.alloc (.cells #[.string s.name,.bool s.drain] 51)).heap.size (wr.alloc (.cells #[.string s.name,.bool s.drain] 51)) w2:=by rw[hw''];exact below_regrown _ _ _
    clear hw'';go_wp2;go_ret;exact⟨AR (Al hlt HNO.out).symm,hbr.trans (hb2.mono hbr.size)⟩
   ·have hle2:(Op.bytesLess s.name.toList p.name.toList||s.name.toList==p.name.toList)=false:=by rw[HT.out,hle];rfl
    have HLE:Hid _:=hle;clear hle;go_wp2;clear x0 x1;refine wp_region_quiet_below (by kernel_rfl) (by kernel_rfl) ?_
    repeat (first|go_big_quiet_step (fail)|quiet_step (fail))
    refine wpQuiet_nil ?_;intro w2 hw';obtain⟨⟨dq,osq⟩,hw''⟩:=hw';have hb2:Below (wr.alloc (.cells #[.string s.name,.bool s.drain] 51)).heap.size (wr.alloc (.cells #[.string s.name,.bool s.drain] 51)) w2:=by rw[hw''];exact below_regrown _ _ _
    clear hw'';clear gx0 gb3 hle2 y0 y1;have hbr2:=hbr.trans (hb2.mono hbr.size);have bxr:Hid _:=AK hb2 HBX.out (by rw[HSZ.out];omega);have box2:Hid _:=AK hb2 hboxr.out (by rw[HSZ.out];omega);have hz2:wr.heap.size<w2.heap.size:=by have:=hb2.size;rw[HSZ.out]at this;omega
    have r0:=AJ bxr.out 0 rfl;cases hver:Cq s.name
    ·have HNO:Hid (By B (k'+1)=false):=by unfold Hid By;rw[HSK.out];simp[hver]
     go_wp2_with (go_at_call 47;refine(Du _ _ hmem).mono ?_;rintro e w' ⟨rfl,rfl⟩)
     go_ret;exact⟨AR (Al hlt HNO.out).symm,hbr2⟩
    have HYES:Hid (By B (k'+1)=true):=by unfold Hid By;rw[HSK.out];simp[hver,HPK.out,HLE.out]
    go_wp2_with (go_at_call 47;refine(Du _ _ hmem).mono ?_;rintro e w' ⟨rfl,rfl⟩)
    go_roundw
    case rel=>exact⟨(k'+1)+1,by omega,by go_num,hbr2,box2,Ax hall.out HYES.out⟩
    case measure=>simp[intOf];omega
  ·go_wp2
   go_ret;exact⟨AR (B6 λi hi=>hall.out i (by omega)).symm,hb⟩
end
section
open Go.RowKit Go.Sort Go.Maps
theorem Tryz.laidOutB:laidOutB Tryz.prog=true:=by kernel_rfl
theorem LI:(79:TypeId)<Tryz.prog.types.size:=of_decide_eq_true (by kernel_rfl)
theorem OF:(match Tryz.prog.underlying 79 with|some (.array _ _)|some (.struct _)=>true|_=>false)=true:=by kernel_rfl
theorem thingLaw:Keyed Tryz.prog 79:=Keyed.of_law (deep_law_laid Tryz.laidOutB (m:=3) (by omega) LI (by kernel_rfl) OF)
theorem In:Tryz.prog.cellsOf 79=2:=by kernel_rfl
theorem thingKey:Tryz.prog.keyType 79=true:=by kernel_rfl
theorem Ls:Tryz.prog.cellsOf 3=1:=by kernel_rfl
theorem Hu:Tryz.prog.cellsOf 9=1:=by kernel_rfl
theorem Bz(w:World):(zeroValue 3).run Tryz.prog w=.ok (.int .i64 0) w:=by kernel_rfl
def key(kd:Int)(s:ByteArray):Lit:=.string (keyBytes [.int .i64 kd,.string s.data.toList])
theorem B9(kd:Int)(s:ByteArray)(hk:(Lit.int .i64 kd).wf=true)(hs:s.size<=maxLen):keyOf Tryz.prog 79 (.agg #[.int .i64 kd,.string s])=some (key kd s):=by
 have hf:(Value.agg #[.int .i64 kd,.string s]).formed Tryz.prog 79=true:=by
  simp[Value.formed,Tryz.underlying79,In]
 unfold keyOf;rw[Tryz.underlying79];simp only[thingKey,hf,Bool.and_self,if_true];generalize hn:Tryz.prog.types.size=n
 match n,hn with
 |0,hn=>have:=LI;rw[hn]at this;exact absurd this (Nat.not_lt_zero _)
 |n+1,_=>
  simp[Program.keyLits,Tryz.underlying79,In,Ls,Hu,Tryz.underlying3,Tryz.underlying9,Value.cells,hk,hs,key]
theorem Nm{kd kd':Int}{s s':ByteArray}(hk:(Lit.int .i64 kd).wf=true)(hk':(Lit.int .i64 kd').wf=true)(hs:s.size<=maxLen)(hs':s'.size<=maxLen)(h:key kd s=key kd' s'):kd=kd'/\s=s':=by
 have h1:=B9 kd s hk hs;have h2:=B9 kd' s' hk' hs';rw[<-h]at h2;have:=thingLaw.inj h1 h2
 simpa using this
theorem Fx(n:Int)(w:World):(Instr.makeMap 75 (some (.int .i64 n))).run Tryz.prog w=.ok (.map (some w.heap.size)) (w.alloc (.map #[] 0)):=by
 simp[Instr.makeMap,run_underlying Tryz.underlying75,asInt,asIntOf]
theorem wf1:(Lit.int .i64 1).wf=true:=by decide
theorem wf2:(Lit.int .i64 2).wf=true:=by decide
theorem DN(kd:Int)(s:ByteArray):WideAt.IsKeyLit (key kd s):=trivial
theorem CV{kd:Int}{s s':ByteArray}(hk:(Lit.int .i64 kd).wf=true)(hs:s.size<=maxLen)(hs':s'.size<=maxLen)(h:s≠s'):key kd s≠key kd s':=λe=>h (Nm hk hk hs hs' e).2
theorem CW{s s':ByteArray}(hs:s.size<=maxLen)(hs':s'.size<=maxLen):key 1 s≠key 2 s':=λe=>absurd (Nm wf1 wf2 hs hs' e).1 (by decide)
def FK(B:Bk):Prop:=∀(i j:Nat) s t,i<j->B.svcs[i]?=some s->B.svcs[j]?=some t->s.name≠t.name
def PlacesAt(w:World)(b:Nat)(B:Bk)(ks kb:Nat):Prop:=∃(n:Nat) (D:DataW Unit),n<=ks+kb/\w.ownsMap Tryz.prog 79 (plainElem Tryz.prog 3) b n D/\
 (∀x:ByteArray,x.size<=maxLen->(∀(i:Nat) s,i<ks->B.svcs[i]?=some s->s.name≠x)->Maps.has D (key 1 x)=false)/\
 (∀(i:Nat) s,i<ks->B.svcs[i]?=some s->Maps.has D (key 1 s.name)=true/\D.atKey (key 1 s.name) (.lit (.int .i64 0))=.lit (.int .i64 i))/\
 (∀x:ByteArray,x.size<=maxLen->(∀(i:Nat) s,i<kb->B.bts[i]?=some s->s.name≠x)->Maps.has D (key 2 x)=false)/\
 (∀(i:Nat) s,i<kb->B.bts[i]?=some s->Maps.has D (key 2 s.name)=true)
theorem PlacesAt.blk{w w':World}{b:Nat}{B:Bk}{ks kb:Nat}(h:PlacesAt w b B ks kb)(hb:w'.heap[b]?=w.heap[b]?):PlacesAt w' b B ks kb:=by
 obtain⟨n,D,hn,⟨es,clock,he,F,hs,hD⟩,r⟩:=h;exact⟨n,D,hn,⟨es,clock,by rw[hb];exact he,F,hs,hD⟩,r⟩
theorem PlacesAt.below{w w':World}{b N:Nat}{B:Bk}{ks kb:Nat}(h:PlacesAt w b B ks kb)(hb:Below N w w')(hN:b<N):PlacesAt w' b B ks kb:=h.blk (hb.block b hN)
theorem PlacesAt.lt{w:World}{b:Nat}{B:Bk}{ks kb:Nat}(h:PlacesAt w b B ks kb):b<w.heap.size:=by
 obtain⟨n,D,hn,hown,_⟩:=h;exact hown.lt
theorem PlacesAt.start(w:World)(B:Bk):PlacesAt (w.alloc (.map #[] 0)) w.heap.size B 0 0:=
 ⟨0,.map [],AG _,World.ownsMap_made w _ _ _,λ_ _ _=>rfl,λi s hi=>absurd hi (by omega),λ_ _ _=>rfl,λi s hi=>absurd hi (by omega)⟩
theorem PlacesAt.stepS{w':World}{b:Nat}{B:Bk}{k n:Nat}{D:DataW Unit}{s:Svc}(hz:∀s∈B.svcs,s.name.size<=maxLen)(_hzb:∀s∈B.bts,s.name.size<=maxLen)(hu:FK B)(hsk:B.svcs[k]?=some s)
  (hn:n<=k+0) (h1:∀x:ByteArray,x.size<=maxLen->(∀(i:Nat) s,i<k->B.svcs[i]?=some s->s.name≠x)->Maps.has D (key 1 x)=false)
  (h2:∀(i:Nat) s,i<k->B.svcs[i]?=some s->Maps.has D (key 1 s.name)=true/\D.atKey (key 1 s.name) (.lit (.int .i64 0))=.lit (.int .i64 i))
  (h3:∀x:ByteArray,x.size<=maxLen->(∀(i:Nat) s,i<0->B.bts[i]?=some s->s.name≠x)->Maps.has D (key 2 x)=false)
  (hD:IsMap D)
  (hown:w'.ownsMap Tryz.prog 79 (plainElem Tryz.prog 3) b (n+1) (D.put (key 1 s.name) (.lit (.int .i64 (k:Int))))):PlacesAt w' b B (k+1) 0:=by
 have hss:=hz s (AE hsk);refine⟨n+1,_,by omega,hown,λx hx hno=>?_,λi t hi ht=>?_,λx hx hno=>?_,λi t hi=>absurd hi (by omega)⟩
 ·rw[has_put_other (CV wf1 hx hss (λe=>hno k s (by omega) hsk e.symm))]
  exact h1 x hx λi t hi ht=>hno i t (by omega) ht
 ·rcases Nat.lt_or_ge i k with h'|h'
  ·have hts:=hz t (AE ht)
   have hne:=CV wf1 hts hss (hu i k t s h' ht hsk);rw[has_put_other hne,atKey_put_other hne];exact h2 i t h' ht
  ·have e:i=k:=by omega
   subst e;rw[hsk]at ht;cases ht;exact⟨has_put_same hD (DN _ _) _,atKey_put_same hD (DN _ _) _ _⟩
 ·rw[has_put_other (λe=>CW hss hx e.symm)]
  exact h3 x hx λi t hi=>absurd hi (by omega)
theorem PlacesAt.stepB{w':World}{b:Nat}{B:Bk}{ks k n:Nat}{D:DataW Unit}{s:Bt}(hz:∀s∈B.svcs,s.name.size<=maxLen)(hzb:∀s∈B.bts,s.name.size<=maxLen)(hsk:B.bts[k]?=some s)
  (hn:n<=ks+k) (h1:∀x:ByteArray,x.size<=maxLen->(∀(i:Nat) s,i<ks->B.svcs[i]?=some s->s.name≠x)->Maps.has D (key 1 x)=false)
  (h2:∀(i:Nat) s,i<ks->B.svcs[i]?=some s->Maps.has D (key 1 s.name)=true/\D.atKey (key 1 s.name) (.lit (.int .i64 0))=.lit (.int .i64 i))
  (h3:∀x:ByteArray,x.size<=maxLen->(∀(i:Nat) s,i<k->B.bts[i]?=some s->s.name≠x)->Maps.has D (key 2 x)=false)
  (h4:∀(i:Nat) s,i<k->B.bts[i]?=some s->Maps.has D (key 2 s.name)=true)
  (hD:IsMap D) (d:DataW Unit)
  (hown:w'.ownsMap Tryz.prog 79 (plainElem Tryz.prog 3) b (n+1) (D.put (key 2 s.name) d)):PlacesAt w' b B ks (k+1):=by
 have hss:=hzb s (AE hsk);refine⟨n+1,_,by omega,hown,λx hx hno=>?_,λi t hi ht=>?_,λx hx hno=>?_,λi t hi ht=>?_⟩
 ·rw[has_put_other (CW hx hss)]
  exact h1 x hx hno
 ·have hts:=hz t (AE ht)
  rw[has_put_other (CW hts hss),atKey_put_other (CW hts hss)];exact h2 i t hi ht
 ·rw[has_put_other (CV wf2 hx hss (λe=>hno k s (by omega) hsk e.symm))]
  exact h3 x hx λi t hi ht=>hno i t (by omega) ht
 ·by_cases he:t.name=s.name
  ·rw[he];exact has_put_same hD (DN _ _) _
  ·have hts:=hzb t (AE ht)
   rw[has_put_other (CV wf2 hts hss he)];rcases Nat.lt_or_ge i k with h'|h'
   ·exact h4 i t h' ht
   ·have e:i=k:=by omega
    subst e;rw[hsk]at ht;cases ht;exact absurd rfl he
theorem Gb(B:Bk)(a1 a2 a3:Option Addr)(c1 c2 c3:Nat)(w:World)(hS:B.small)(hZ:B.sized)(hU:FK B)(hB:BkAt w a1 a2 a3 B):
  Calls Tryz.prog 48 #[.agg #[.int .i64 B.now,.slice a1 B.svcs.length c1,.slice a2 B.cps.length c2,.slice a3 B.bts.length c3]] w λe w'=>e=.returned (.map (some (w.heap.size+1)))/\PlacesAt w' (w.heap.size+1) B B.svcs.length B.bts.length/\Below w.heap.size w w':=by
 obtain⟨hl1,hl2,hl3⟩:=hS;have hmm:=Fx;obtain⟨t0,t1,t2⟩:=B0 w (.cells #[.int .i64 B.now,.slice a1 B.svcs.length c1,.slice a2 B.cps.length c2,.slice a3 B.bts.length c3] 27) (.map #[] 0);have T0:Hid _:=t0
 have T1:Hid (PlacesAt ((w.alloc (.cells #[.int .i64 B.now,.slice a1 B.svcs.length c1,.slice a2 B.cps.length c2,.slice a3 B.bts.length c3] 27)).alloc (.map #[] 0)) (w.heap.size+1) B 0 0):=by
  have:=PlacesAt.start (w.alloc (.cells #[.int .i64 B.now,.slice a1 B.svcs.length c1,.slice a2 B.cps.length c2,.slice a3 B.bts.length c3] 27)) B;have e:(w.alloc (.cells #[.int .i64 B.now,.slice a1 B.svcs.length c1,.slice a2 B.cps.length c2,.slice a3 B.bts.length c3] 27)).heap.size=w.heap.size+1:=by show(w.heap.push _).size=_;simp
  rw[e]at this;exact this
 clear t0 t1 t2;go_enter Tryz.func48,Tryz.ntmps48;go_wp2;clear hmm
 go_loopw [19] (λiv wr=>∃k:Nat,k<=B.svcs.length/\iv=.int .i64 k/\Below w.heap.size w wr/\Hid (wr.heap[w.heap.size]?=some (.cells #[.int .i64 B.now,.slice a1 B.svcs.length c1,.slice a2 B.cps.length c2,.slice a3 B.bts.length c3] 27 (0,0)))/\Hid (PlacesAt wr (w.heap.size+1) B k 0)) (λi _=>B.svcs.length - (intOf i).toNat)
 case atStart=>exact⟨0,by omega,rfl,((Below.refl _ _).alloc (AG _) _).alloc (by simp) _,T0,T1⟩
 case round=>
  obtain⟨k,hk,rfl,hb,hbox,hpl⟩:=hrel;have hNlt:w.heap.size+1<wr.heap.size:=hpl.out.lt
  by_cases hlt:k<B.svcs.length
  ·have hne:B.svcs≠[]:=by intro h;rw[h]at hlt;simp at hlt
   obtain⟨b,off,ea,hbs,hat⟩:=hB.1 hne;subst ea;obtain⟨s,hsk⟩:∃s,B.svcs[k]?=some s:=⟨B.svcs[k],by simp[hlt]⟩;have hmem:=hZ.2.2.2.1 s (AE hsk);have HSK:Hid _:=hsk;have hcs:=(hat k s hsk).below hb hbs;unfold SvcAt at hcs;obtain⟨x0,x1,x2,x3,x4,x5,x6,x7,x8,x9,x10,x11,x12⟩:=hcs;obtain⟨n,D,hn,hown,h1,h2,h3,h4⟩:=hpl.out;have H1:Hid _:=h1;have H2:Hid _:=h2;have H3:Hid _:=h3;have hnn:n<maxLen:=by unfold maxLen;omega
   clear hsk hat hne h1 h2 h3 h4
   go_wp2_with (at_mapUpdate;refine wpList_mapUpdate_own _ rfl (.tmp 24) (.tmp 27) (.tmp 28) 75 rfl 79 3 thingLaw Tryz.underlying75 (plainElem Tryz.prog 3) (w.heap.size+1) n D rfl (hown.alloc _) hnn _ _ _ rfl rfl (B9 1 s.name wf1 hmem) _ [] (plainElem_int Tryz.underlying3 (WalkArith.wf_i64 (by omega))) ?_;intro w1 hown1 hgrow1)
   have hsz:(wr.alloc (.cells #[.string s.name,.int .i64 s.version,.bool s.gone,.int .i64 s.image,.int .i64 s.want,.int .i64 s.down,.int .i64 s.over,.int .i64 s.next,.int .i64 s.per,.int .i64 s.least,.int .i64 s.most,.int .i64 s.load,.int .i64 s.cool] 29)).heap.size=wr.heap.size+1:=by show(wr.heap.push _).size=_;simp
   have hb1:Below w.heap.size w w1:=(hb.alloc hb.size _).grown hgrow1 (by rw[hsz];omega) (λj hj=>by cases hj;omega);have hbox1:Hid _:=(hgrow1.block w.heap.size (by rw[hsz];omega) (λe=>by have:=Option.some.inj e;omega)).trans (AK (AM wr (.cells #[.string s.name,.int .i64 s.version,.bool s.gone,.int .i64 s.image,.int .i64 s.want,.int .i64 s.down,.int .i64 s.over,.int .i64 s.next,.int .i64 s.per,.int .i64 s.least,.int .i64 s.most,.int .i64 s.load,.int .i64 s.cool] 29)) hbox.out (by omega));have hpl1:Hid _:=PlacesAt.stepS hZ.2.2.2.1 hZ.2.2.2.2.2 hU HSK.out hn H1.out H2.out H3.out hown.isMap hown1
   go_roundw
   case rel=>exact⟨k+1,by omega,by go_num,hb1,hbox1,hpl1⟩
   case measure=>simp[intOf];omega
  ·have hkl:k=B.svcs.length:=by omega
   subst hkl;have e3:=AJ hbox.out 3 rfl;go_wp2;clear e3
   go_loopw [33] (λiv wr=>∃k:Nat,k<=B.bts.length/\iv=.int .i64 k/\Below w.heap.size w wr/\Hid (wr.heap[w.heap.size]?=some (.cells #[.int .i64 B.now,.slice a1 B.svcs.length c1,.slice a2 B.cps.length c2,.slice a3 B.bts.length c3] 27 (0,0)))/\Hid (PlacesAt wr (w.heap.size+1) B B.svcs.length k)) (λi _=>B.bts.length - (intOf i).toNat)
   case atStart=>exact⟨0,by omega,rfl,hb,hbox,hpl⟩
   case round=>
    clear hb hbox hpl hNlt hlt;rename_i wr0 _;obtain⟨k,hk,rfl,hb,hbox,hpl⟩:=hrel;have hNlt:w.heap.size+1<wr.heap.size:=hpl.out.lt
    by_cases hlt:k<B.bts.length
    ·have hne:B.bts≠[]:=by intro h;rw[h]at hlt;simp at hlt
     obtain⟨b,off,ea,hbs,hat⟩:=hB.2.2 hne;subst ea;obtain⟨s,hsk⟩:∃s,B.bts[k]?=some s:=⟨B.bts[k],by simp[hlt]⟩;have hmem:=hZ.2.2.2.2.2 s (AE hsk);have HSK:Hid _:=hsk;have hcs:=(hat k s hsk).below hb hbs;unfold BtAt at hcs;obtain⟨x0,x1⟩:=hcs;obtain⟨n,D,hn,hown,h1,h2,h3,h4⟩:=hpl.out;have H1:Hid _:=h1;have H2:Hid _:=h2;have H3:Hid _:=h3;have H4:Hid _:=h4;have hnn:n<maxLen:=by unfold maxLen;omega
     clear hsk hat hne h1 h2 h3 h4
     go_wp2_with (at_mapUpdate;refine wpList_mapUpdate_own _ rfl (.tmp 38) (.tmp 41) (.tmp 42) 75 rfl 79 3 thingLaw Tryz.underlying75 (plainElem Tryz.prog 3) (w.heap.size+1) n D rfl (hown.alloc _) hnn _ _ _ rfl rfl (B9 2 s.name wf2 hmem) _ [] (plainElem_int Tryz.underlying3 (WalkArith.wf_i64 (by omega))) ?_;intro w1 hown1 hgrow1)
     have hsz:(wr.alloc (.cells #[.string s.name,.bool s.drain] 51)).heap.size=wr.heap.size+1:=by show(wr.heap.push _).size=_;simp
     have hb1:Below w.heap.size w w1:=(hb.alloc hb.size _).grown hgrow1 (by rw[hsz];omega) (λj hj=>by cases hj;omega);have hbox1:Hid _:=(hgrow1.block w.heap.size (by rw[hsz];omega) (λe=>by have:=Option.some.inj e;omega)).trans (AK (AM wr (.cells #[.string s.name,.bool s.drain] 51)) hbox.out (by omega));have hpl1:Hid _:=PlacesAt.stepB hZ.2.2.2.1 hZ.2.2.2.2.2 HSK.out hn H1.out H2.out H3.out H4.out hown.isMap _ hown1
     go_roundw
     case rel=>exact⟨k+1,by omega,by go_num,hb1,hbox1,hpl1⟩
     case measure=>simp[intOf];omega
    ·go_wp2
     go_ret;have hkl:k=B.bts.length:=by omega
     subst hkl;exact⟨rfl,hpl.out,hb⟩
end
end Go.Proofs.YtbceafpodamnfaaGreat
