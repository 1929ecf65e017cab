import Derived.Test.YtbceafpodamnfaaGreatDoorG07
import Derived.Laws.EntriesVeiled
import Derived.Maps.OwnSet
import Derived.DeepKeys5
set_option linter.all false
set_option maxHeartbeats 8000000
set_option maxRecDepth 100000
namespace Go.Proofs.YtbceafpodamnfaaGreatDoor
section
open Go.RowKit Go.Sort
open Go.Value renaming int->In,slice->Sl,string->Sg,bool->Bo,pointer->Po
open Go.IntKind renaming i64->i6
theorem Is(B:Bk)(n:qB)(a1 a2 a3:qO)(c1 c2 c3:Nat)(w:World)(hS:B.aR)(hB:SlS w a1 B.ah):
  Calls Tryz.prog 118 #[.agg (qbV B a1 c1 a2 c2 a3 c3),Sg n] w λe w'=>e=.returned (In i6 (Nr B.ah n))/\Below w.heap.size w w':=by
 obtain⟨al,am,an⟩:=hS;go_enter Tryz.func118,Tryz.ntmps118;go_wp2
 go_loop [5] (λi=>∃k:Nat,k<=B.ah.length/\i=In i6 k/\Hid (∀i,i<k->∀s,B.ah[i]?=some s->(s.name.toList==n.toList)=false)) (λi=>B.ah.length - (intOf i).toNat)
 case atStart=>exact⟨0,qo,rfl,λi hi=>absurd hi qo⟩
 case round=>
  obtain⟨k,hk,rfl,F⟩:=hrel
  by_cases z:k<B.ah.length
  ·have O:B.ah≠[]:=by intro h;rw[h]at z;simp at z
   obtain⟨b,aq,rfl,aj,M⟩:=hB O;obtain⟨s,H⟩:∃s,B.ah[k]?=some s:=⟨B.ah[k],by simp[z]⟩;have J:Hid (B.ah[k]?=some s):=H;have W:=M k s H;unfold SvcAt at W;have ak:=W.1;clear M W H O;cases hq:(s.name.toList==n.toList)
   ·go_wp2
    go_round
    case rel=>
     refine⟨k+1,qo,qn,λi hi t Y=>?_⟩;rcases eW i k with Z|Z
     ·exact F.ab i Z t Y
     ·have e:i=k:=qo
      subst e;rw[J.ab]at Y;cases Y;exact hq
    case measure=>simp[intOf];omega
   ·go_wp2
    go_ret;exact⟨FM (Eb J.ab hq F.ab).symm,AN _ _⟩
  ·go_wp2
   go_ret;exact⟨FM (JL λi s hs=>F.ab i (by have:=(AC hs).1;omega) s hs).symm,AN _ _⟩
theorem RH(B:Bk)(n:qB)(a1 a2 a3:qO)(c1 c2 c3:Nat)(w:World)(hS:B.aR)(hB:SlB w a3 B.aw):
  Calls Tryz.prog 124 #[.agg (qbV B a1 c1 a2 c2 a3 c3),Sg n] w λe w'=>e=.returned (In i6 (idxB B.aw n))/\Below w.heap.size w w':=by
 obtain⟨al,am,an⟩:=hS;go_enter Tryz.func124,Tryz.ntmps124;go_wp2
 go_loop [5] (λi=>∃k:Nat,k<=B.aw.length/\i=In i6 k/\Hid (∀i,i<k->∀s,B.aw[i]?=some s->(s.name.toList==n.toList)=false)) (λi=>B.aw.length - (intOf i).toNat)
 case atStart=>exact⟨0,qo,rfl,λi hi=>absurd hi qo⟩
 case round=>
  obtain⟨k,hk,rfl,F⟩:=hrel
  by_cases z:k<B.aw.length
  ·have O:B.aw≠[]:=by intro h;rw[h]at z;simp at z
   obtain⟨b,aq,rfl,aj,M⟩:=hB O;obtain⟨s,H⟩:∃s,B.aw[k]?=some s:=⟨B.aw[k],by simp[z]⟩;have J:Hid (B.aw[k]?=some s):=H;have W:=M k s H;unfold BtAt at W;have ak:=W.1;clear M W H O;cases hq:(s.name.toList==n.toList)
   ·go_wp2
    go_round
    case rel=>
     refine⟨k+1,qo,qn,λi hi t Y=>?_⟩;rcases eW i k with Z|Z
     ·exact F.ab i Z t Y
     ·have e:i=k:=qo
      subst e;rw[J.ab]at Y;cases Y;exact hq
    case measure=>simp[intOf];omega
   ·go_wp2
    go_ret;exact⟨FM (Eb J.ab hq F.ab).symm,AN _ _⟩
  ·go_wp2
   go_ret;exact⟨FM (JL λi s hs=>F.ab i (by have:=(AC hs).1;omega) s hs).symm,AN _ _⟩
theorem AK{N:Nat}{w w':World}{k:Nat}{x:Option Obj}(hb:Below N w w')(h:w.heap[k]?=x)(hk:k<N:=by omega):w'.heap[k]?=x:=(hb.block k hk).trans h
theorem Az{w:World}{b:Nat}{cs:Array Value}{t:TypeId}{fr:Nat × Nat}(h:w.heap[b]?=some (.cells cs t fr))(o:Nat){v:Value}(hv:cs[o]?=some v):∀p:Regrown,(grow (redrawn w p.d) p.os).cell? ⟨b,o,none⟩=some v:=
 λp=>jo (AJ h o hv) p.d p.os
theorem CL(w:World)(A B:Obj):((w.alloc A).alloc B).heap[w.heap.size]?=some A/\((w.alloc A).alloc B).heap[w.heap.size+1]?=some B/\((w.alloc A).alloc B).heap.size=w.heap.size+1+1:=by
 have e:((w.alloc A).alloc B).heap=(w.heap.push A).push B:=rfl;rw[e];refine⟨?_,?_,qs⟩
 ·rw[dw,dk qs,dw,dv rfl]
 ·rw[dw,dv qs]
theorem EY(n lo z:Int)(w:World):
  Calls Tryz.prog 63 #[In i6 n,In i6 lo,In i6 z] w λe w'=>e=.returned (.bool (inB n lo z))/\Below w.heap.size w w':=
 (Cx n lo z w).mono λe w' ⟨F,H⟩=>⟨F,by rw[H];exact dG _ _⟩
theorem Cf(B:Bk)(c:Cp)(a1 a2 a3:qO)(c1 c2 c3:Nat)(w:World)(hS:B.aR)(hB:BkAt w a1 a2 a3 B):
  Calls Tryz.prog 66 #[.agg (qbV B a1 c1 a2 c2 a3 c3),.agg (qcV c)] w λe w'=>e=.returned (.bool (cpB B c))/\Below w.heap.size w w':=by
 obtain⟨t0,t1,t2⟩:=CL w (.cells (qbV B a1 c1 a2 c2 a3 c3) 28) (.cells (qcV c) 76);have ae:Below w.heap.size w ((w.alloc (.cells (qbV B a1 c1 a2 c2 a3 c3) 28)).alloc (.cells (qcV c) 76)):=((dG _ _).alloc AG _).alloc qs _;have T0:Hid _:=t0;have T1:Hid _:=t1;have T2:Hid _:=t2;clear t0 t1 t2
 cases hf:A5 B c.aa with
 |none=>
  have Y:Hid (cpB B c=false):=by unfold Hid cpB;rw[hf]
  have W:Nr B.ah c.aa= -1:=G6 hf;clear hf;go_enter Tryz.func66,Tryz.ntmps66
  go_wp2_with fail
  refine(Is B c.aa a1 a2 a3 c1 c2 c3 _ hS (hB.1.below ae)).mono ?_;rintro e w1 ⟨rfl,O⟩;have H:=ae.trans (O.mono ae.size);rw[W];clear W;go_wp2;refine jl qk qk ?_
  repeat (first|go_big_quiet_step (exact jk (EY _ _ _ _))|quiet_step (exact jk (EY _ _ _ _)))
  refine jn ?_;intro w2 M;obtain⟨⟨dq,ag⟩,F⟩:=M;have J:Below w1.heap.size w1 w2:=by rw[F];exact jm _ _ _
  clear F;go_wp2;go_ret;exact⟨AQ Y.ab.symm,H.trans (J.mono H.size)⟩
 |some s=>
  have Y:Hid (cpB B c=(GI B.av s c&&Cu B.aw c)):=by unfold Hid cpB;rw[hf]
  obtain⟨i,hi,W⟩:∃i:Nat,B.ah[i]?=some s/\Nr B.ah c.aa=(i:Int):=DY hf;have ak:i<B.ah.length:=(AC hi).1;clear hf;have ax:B.ah≠[]:=by intro h;rw[h]at ak;simp at ak
  obtain⟨b,a7,aC,aI,am⟩:=hB.1 ax;subst aC;go_enter Tryz.func66,Tryz.ntmps66
  go_wp2_with fail
  refine(Is B c.aa _ a2 a3 c1 c2 c3 _ hS (hB.1.below ae)).mono ?_;rintro e w1 ⟨rfl,O⟩;have H:=ae.trans (O.mono ae.size);rw[W];clear W;rw[T2.ab]at O;have al:Hid _:=AK O T0.ab;have af:Hid _:=AK O T1.ab;have a6:w.heap.size+1<w1.heap.size:=by have:=O.size;rw[T2.ab]at this;omega
  obtain⟨q0,q1,q2,q3,q4,q5,q6,q7,q8,q9,aJ,aK,aM⟩:=((am i s hi).below H aI).grown;clear q0 q1 q2 q3 q4 q5 q6 q8 q9 aJ aK aM;have g0:=Az al.ab 0 rfl;have g1:=Az al.ab 1 rfl;have k1:=Az af.ab 1 rfl;have k2:=Az af.ab 2 rfl;have k3:=Az af.ab 3 rfl;have k4:=Az af.ab 4 rfl;have aQ:Hid _:=am;have HI:Hid _:=hi;clear am hi ax O;go_wp2;cases h1:inB c.ak 1 (wrap64 (s.next - 1))
  ·refine jl qk qk ?_
   repeat (first|go_big_quiet_step (exact jk (EY _ _ _ _))|quiet_step (exact jk (EY _ _ _ _)))
   refine jn ?_;intro w2 M;obtain⟨⟨dq,ag⟩,F⟩:=M;have J:Below w1.heap.size w1 w2:=by rw[F];exact jm _ _ _
   clear F;go_wp2;go_ret;exact⟨AQ (by rw[Y.ab];simp[GI,h1]),H.trans (J.mono H.size)⟩
  cases h2:inB c.ag 1 B.av
  ·refine jl qk qk ?_
   repeat (first|go_big_quiet_step (exact jk (EY _ _ _ _))|quiet_step (exact jk (EY _ _ _ _)))
   refine jn ?_;intro w2 M;obtain⟨⟨dq,ag⟩,F⟩:=M;have J:Below w1.heap.size w1 w2:=by rw[F];exact jm _ _ _
   clear F;go_wp2;go_ret;exact⟨AQ (by rw[Y.ab];simp[GI,h1,h2]),H.trans (J.mono H.size)⟩
  cases h3:inB c.aj 1 1000000
  ·refine jl qk qk ?_
   repeat (first|go_big_quiet_step (exact jk (EY _ _ _ _))|quiet_step (exact jk (EY _ _ _ _)))
   refine jn ?_;intro w2 M;obtain⟨⟨dq,ag⟩,F⟩:=M;have J:Below w1.heap.size w1 w2:=by rw[F];exact jm _ _ _
   clear F;go_wp2;go_ret;exact⟨AQ (by rw[Y.ab];simp[GI,h1,h2,h3]),H.trans (J.mono H.size)⟩
  cases h4:inB c.ay 1 4
  ·refine jl qk qk ?_
   repeat (first|go_big_quiet_step (exact jk (EY _ _ _ _))|quiet_step (exact jk (EY _ _ _ _)))
   refine jn ?_;intro w2 M;obtain⟨⟨dq,ag⟩,F⟩:=M;have J:Below w1.heap.size w1 w2:=by rw[F];exact jm _ _ _
   clear F;go_wp2;go_ret;exact⟨AQ (by rw[Y.ab];simp[GI,h1,h2,h3,h4]),H.trans (J.mono H.size)⟩
  refine jl qk qk ?_
  repeat (first|go_big_quiet_step (exact jk (EY _ _ _ _))|quiet_step (exact jk (EY _ _ _ _)))
  refine jn ?_;intro w2 M;obtain⟨⟨dq,ag⟩,F⟩:=M;have J:Below w1.heap.size w1 w2:=by rw[F];exact jm _ _ _
  clear F;have aj:Hid (cpB B c=Cu B.aw c):=by unfold Hid;rw[Y.ab];simp[GI,h1,h2,h3,h4]
  have aa:=H.trans (J.mono H.size);have Z:Hid _:=AK J al.ab;have ah:Hid _:=AK J af.ab;clear g0 g1 k1 k2 k3 k4 h1 h2 h3 h4 q7;have m0:=AJ Z.ab 0;have m1:=AJ Z.ab 1;have m2:=AJ Z.ab 2;have m3:=AJ Z.ab 3;have n4:=AJ ah.ab 4;have n6:=AJ ah.ab 6
  by_cases h5:c.ay=1
  ·have H5:Hid (c.ay=1):=h5
   have aF:(c.ay==1)=true:=by simp[h5]
   clear h5;go_wp2;go_ret;exact⟨AQ (by rw[aj.ab];simp[Cu,H5.ab]),aa⟩
  ·have H5:Hid (¬c.ay=1):=h5
   have aF:(c.ay==1)=false:=by simp[h5]
   clear h5
   go_wp2_with fail
   refine(RH B c.aC _ a2 a3 c1 c2 c3 _ hS (hB.2.2.below aa)).mono ?_;rintro e w3 ⟨rfl,aH⟩;have HG:Hid (decide (0<=idxB B.aw c.aC)=B.aw.any λb=>b.name.toList==c.aC.toList):=idxOf_ge _ _;generalize idxB B.aw c.aC=z at *;go_wp2;go_ret;exact⟨AQ (by rw[aj.ab];simp[Cu,H5.ab,<-HG.ab]),aa.trans (aH.mono aa.size)⟩
theorem GP(s:Svc)(w:World)(z:s.name.size<=maxLen):
  Calls Tryz.prog 125 #[.agg (qsV s)] w λe w'=>e=.returned (.bool (Dh s.name))/\Below w.heap.size w w':=by
 go_enter Tryz.func125,Tryz.ntmps125
 go_wp2_with (first|(go_at_call 131;refine(Ff _ _ z).mono ?_;rintro e w' ⟨rfl,rfl⟩))
 all_goals
  go_ret;exact⟨AQ rfl,AN _ _⟩
theorem Gz(s:Svc)(w:World):
  Calls Tryz.prog 126 #[.agg (qsV s)] w λe w'=>e=.returned (.bool (Qy s))/\Below w.heap.size w w':=by
 go_enter Tryz.func126,Tryz.ntmps126
 go_wp2_with (first|(go_at_call 91;refine(A8 _ _ _ _).mono ?_;rintro e w' ⟨rfl,rfl⟩))
 all_goals
  go_ret;exact⟨AQ (by simp[Qy, *]),AN _ _⟩
theorem Hi(s:Svc)(w:World):
  Calls Tryz.prog 127 #[.agg (qsV s)] w λe w'=>e=.returned (.bool (Hj s))/\Below w.heap.size w w':=by
 go_enter Tryz.func127,Tryz.ntmps127
 go_wp2_with (first|(go_at_call 91;refine(A8 _ _ _ _).mono ?_;rintro e w' ⟨rfl,rfl⟩))
 all_goals
  go_ret;exact⟨AQ (by simp[Hj, *]<;>(intro _;rfl)),AN _ _⟩
theorem G7(s:Svc)(w:World):
  Calls Tryz.prog 128 #[.agg (qsV s)] w λe w'=>e=.returned (.bool (F7 s))/\Below w.heap.size w w':=by
 go_enter Tryz.func128,Tryz.ntmps128
 go_wp2_with (first|(go_at_call 91;refine(A8 _ _ _ _).mono ?_;rintro e w' ⟨rfl,rfl⟩))
 all_goals
  go_ret;exact⟨AQ (by simp[F7, *]<;>(intro h;exfalso;omega)),AN _ _⟩
theorem FD(s:Svc)(w:World):
  Calls Tryz.prog 129 #[.agg (qsV s)] w λe w'=>e=.returned (.bool (Hh s))/\Below w.heap.size w w':=by
 go_enter Tryz.func129,Tryz.ntmps129;go_wp2
 all_goals
  go_ret;exact⟨AQ (by simp[Hh, *]),AN _ _⟩
theorem Jq(B:Bk)(a1 a2 a3:qO)(c1 c2 c3:Nat)(w:World):
  Calls Tryz.prog 69 #[.agg (qbV B a1 c1 a2 c2 a3 c3)] w λe w'=>e=.returned (.bool (inB B.av 0 1000000))/\Below w.heap.size w w':=by
 go_enter Tryz.func69,Tryz.ntmps69
 go_wp2_with (go_at_call 91;refine(A8 _ _ _ _).mono ?_;rintro e w' ⟨rfl,rfl⟩)
 go_ret;exact⟨rfl,AN _ _⟩
theorem Ik(B:Bk)(a1 a2 a3:qO)(c1 c2 c3:Nat)(w:World)(z:B.aR):
  Calls Tryz.prog 70 #[.agg (qbV B a1 c1 a2 c2 a3 c3)] w λe w'=>e=.returned (.bool (decide (B.ah.length<=8)&&decide (B.ar.length<=200)&&decide (B.aw.length<=6)))/\Below w.heap.size w w':=by
 obtain⟨F,H,J⟩:=z;go_enter Tryz.func70,Tryz.ntmps70;go_wp2
 all_goals
  go_ret;exact⟨AQ (by rw[gA];simp;try omega),AN _ _⟩
theorem CW(a b:Cp)(w:World):
  Calls Tryz.prog 132 #[.agg (qcV a),.agg (qcV b)] w λe w'=>e=.returned (.bool (An a b))/\Below w.heap.size w w':=by
 have z:Below w.heap.size w ((w.alloc (.cells (qcV a) 76)).alloc (.cells (qcV b) 76)):=((dG _ _).alloc AG _).alloc qs _;cases H:(a.aa.toList==b.aa.toList)
 ·go_enter Tryz.func132,Tryz.ntmps132
  go_wp2;go_ret;exact⟨AQ (by simp[An,H]),z⟩
 ·have F:Hid (Op.bytesLess a.aa.toList b.aa.toList=false):=by
   unfold Hid;rw[eq_of_beq H];exact BE _
  go_enter Tryz.func132,Tryz.ntmps132;go_wp2;go_ret;exact⟨AQ (by simp[An,H,F.ab]),z⟩
theorem BU(c:Cp)(s:Svc)(av:Int)(w:World):
  Calls Tryz.prog 133 #[.agg (qcV c),.agg (qsV s),In i6 av] w λe w'=>e=.returned (.bool (GI av s c))/\Below w.heap.size w w':=by
 have z:Below w.heap.size w ((w.alloc (.cells (qcV c) 76)).alloc (.cells (qsV s) 34)):=((dG _ _).alloc AG _).alloc qs _;go_enter Tryz.func133,Tryz.ntmps133
 go_wp2_with (go_at_call 91;refine(A8 _ _ _ _).mono ?_;rintro e w' ⟨rfl,rfl⟩)
 all_goals
  go_ret;exact⟨AQ (by simp[GI, *]),z⟩
def Ie(s:Svc):Nat->Bool
 |0=>Dh s.name
 |1=>Qy s
 |2=>Hj s
 |3=>F7 s
 |_=>Hh s
theorem Jc(s:Svc):BT (Ie s) 5=(Dh s.name&&Qy s&&Hj s&&F7 s&&Hh s):=by
 simp[BT,List.range,List.range.loop,Ie,Bool.and_assoc]
def SC(w:World)(b:Nat):Prop:=w.heap[b]?=some (.cells #[.func (.func 125) #[] #[],.func (.func 126) #[] #[],.func (.func 127) #[] #[],.func (.func 128) #[] #[],.func (.func 129) #[] #[]] 176 (0,0))
theorem FP(s:Svc)(b:Nat)(w:World)(hs:s.name.size<=maxLen)(hF:SC w b):
  Calls Tryz.prog 130 #[.agg (qsV s),.slice (qad b) 5 5] w λe w'=>e=.returned (.bool (BT (Ie s) 5))/\Below w.heap.size w w':=by
 have az:=AN w (.cells (qsV s) 34);have ax:Hid _:=dm w (.cells (qsV s) 34);have aw:b<w.heap.size:=(AB hF).1;have HF:Hid (SC w b):=hF;clear hF;go_enter Tryz.func130,Tryz.ntmps130;go_wp2
 go_loopw [9] (λiv wr=>∃k:Nat,k<=5/\iv=In i6 k/\Below w.heap.size w wr/\Hid (qBl wr (w.heap.size) (qsV s) 34)/\Hid (∀i,i<k->Ie s i=true)) (λi _=>5 - (intOf i).toNat)
 case atStart=>exact⟨0,qo,rfl,az,ax,λi hi=>absurd hi qo⟩
 case round=>
  obtain⟨k,hk,rfl,hb,z,Y⟩:=hrel;have aa:w.heap.size<wr.heap.size:=(AB z.ab).1;have ae:Hid _:=AK hb HF.ab aw;obtain⟨x0,x1,x2,x3,x4,x5,x6,x7⟩:=qc8 z.ab;have x8:=AJ z.ab 8;have x9:=AJ z.ab 9;have M:=AJ z.ab 10;have O:=AJ z.ab 11;have W:=AJ z.ab 12
  by_cases h0:k=0
  ·subst h0
   have f0:=AJ ae.ab 0;cases hv:Dh s.name
   ·have Z:Hid ((Ie s) 0=false):=hv
    go_wp2_with fail
    refine(GP s _ hs).mono ?_;rintro e w1 ⟨rfl,F⟩;have H:=hb.trans (F.mono hb.size);rw[hv];clear x0 x1 x2 x3 x4 x5 x6 x7 x8 x9 M O W f0;go_wp2;go_ret;exact⟨AQ (Ao qo Z.ab).symm,H⟩
   ·have Z:Hid ((Ie s) 0=true):=hv
    go_wp2_with fail
    refine(GP s _ hs).mono ?_;rintro e w1 ⟨rfl,F⟩;have H:=hb.trans (F.mono hb.size);have J:Hid _:=AK F z.ab aa;rw[hv];clear x0 x1 x2 x3 x4 x5 x6 x7 x8 x9 M O W f0;go_wp2
    go_roundw
    case rel=>exact⟨0+1,qo,qn,H,J,A9 Y.ab Z.ab⟩
    case measure=>simp[intOf]
  by_cases h1:k=1
  ·subst h1
   have f1:=AJ ae.ab 1;cases hv:Qy s
   ·have Z:Hid ((Ie s) 1=false):=hv
    go_wp2_with fail
    refine(Gz s _).mono ?_;rintro e w1 ⟨rfl,F⟩;have H:=hb.trans (F.mono hb.size);rw[hv];clear x0 x1 x2 x3 x4 x5 x6 x7 x8 x9 M O W f1;go_wp2;go_ret;exact⟨AQ (Ao qo Z.ab).symm,H⟩
   ·have Z:Hid ((Ie s) 1=true):=hv
    go_wp2_with fail
    refine(Gz s _).mono ?_;rintro e w1 ⟨rfl,F⟩;have H:=hb.trans (F.mono hb.size);have J:Hid _:=AK F z.ab aa;rw[hv];clear x0 x1 x2 x3 x4 x5 x6 x7 x8 x9 M O W f1;go_wp2
    go_roundw
    case rel=>exact⟨1+1,qo,qn,H,J,A9 Y.ab Z.ab⟩
    case measure=>simp[intOf]
  by_cases h2:k=2
  ·subst h2
   have f2:=AJ ae.ab 2;cases hv:Hj s
   ·have Z:Hid ((Ie s) 2=false):=hv
    go_wp2_with fail
    refine(Hi s _).mono ?_;rintro e w1 ⟨rfl,F⟩;have H:=hb.trans (F.mono hb.size);rw[hv];clear x0 x1 x2 x3 x4 x5 x6 x7 x8 x9 M O W f2;go_wp2;go_ret;exact⟨AQ (Ao qo Z.ab).symm,H⟩
   ·have Z:Hid ((Ie s) 2=true):=hv
    go_wp2_with fail
    refine(Hi s _).mono ?_;rintro e w1 ⟨rfl,F⟩;have H:=hb.trans (F.mono hb.size);have J:Hid _:=AK F z.ab aa;rw[hv];clear x0 x1 x2 x3 x4 x5 x6 x7 x8 x9 M O W f2;go_wp2
    go_roundw
    case rel=>exact⟨2+1,qo,qn,H,J,A9 Y.ab Z.ab⟩
    case measure=>simp[intOf]
  by_cases h3:k=3
  ·subst h3
   have f3:=AJ ae.ab 3;cases hv:F7 s
   ·have Z:Hid ((Ie s) 3=false):=hv
    go_wp2_with fail
    refine(G7 s _).mono ?_;rintro e w1 ⟨rfl,F⟩;have H:=hb.trans (F.mono hb.size);rw[hv];clear x0 x1 x2 x3 x4 x5 x6 x7 x8 x9 M O W f3;go_wp2;go_ret;exact⟨AQ (Ao qo Z.ab).symm,H⟩
   ·have Z:Hid ((Ie s) 3=true):=hv
    go_wp2_with fail
    refine(G7 s _).mono ?_;rintro e w1 ⟨rfl,F⟩;have H:=hb.trans (F.mono hb.size);have J:Hid _:=AK F z.ab aa;rw[hv];clear x0 x1 x2 x3 x4 x5 x6 x7 x8 x9 M O W f3;go_wp2
    go_roundw
    case rel=>exact⟨3+1,qo,qn,H,J,A9 Y.ab Z.ab⟩
    case measure=>simp[intOf]
  by_cases h4:k=4
  ·subst h4
   have f4:=AJ ae.ab 4;cases hv:Hh s
   ·have Z:Hid ((Ie s) 4=false):=hv
    go_wp2_with fail
    refine(FD s _).mono ?_;rintro e w1 ⟨rfl,F⟩;have H:=hb.trans (F.mono hb.size);rw[hv];clear x0 x1 x2 x3 x4 x5 x6 x7 x8 x9 M O W f4;go_wp2;go_ret;exact⟨AQ (Ao qo Z.ab).symm,H⟩
   ·have Z:Hid ((Ie s) 4=true):=hv
    go_wp2_with fail
    refine(FD s _).mono ?_;rintro e w1 ⟨rfl,F⟩;have H:=hb.trans (F.mono hb.size);have J:Hid _:=AK F z.ab aa;rw[hv];clear x0 x1 x2 x3 x4 x5 x6 x7 x8 x9 M O W f4;go_wp2
    go_roundw
    case rel=>exact⟨4+1,qo,qn,H,J,A9 Y.ab Z.ab⟩
    case measure=>simp[intOf]
  ·have h5:k=5:=qo
   subst h5;clear x0 x1 x2 x3 x4 x5 x6 x7 x8 x9 M O W;go_wp2;go_ret;exact⟨AQ (CY Y.ab).symm,hb⟩
theorem GO(B:Bk)(a1 a2 a3:qO)(c1 c2 c3:Nat)(w:World)(hS:B.aR)(hZ:B.aP)(hB:BkAt w a1 a2 a3 B):
  Calls Tryz.prog 71 #[.agg (qbV B a1 c1 a2 c2 a3 c3)] w λe w'=>e=.returned (.bool (BT (BJ B) B.ah.length))/\Below w.heap.size w w':=by
 obtain⟨b9,ca,cb⟩:=hS;obtain⟨t0,t1,t2⟩:=CL w (.cells (qbV B a1 c1 a2 c2 a3 c3) 28) (.cells #[.func (.func 125) #[] #[],.func (.func 126) #[] #[],.func (.func 127) #[] #[],.func (.func 128) #[] #[],.func (.func 129) #[] #[]] 176);have T0:Hid _:=t0;have T1:Hid _:=t1;clear t0 t1 t2;go_enter Tryz.func71,Tryz.ntmps71;go_wp2
 go_loopw [10] (λiv wr=>∃k:Nat,k<=B.ah.length/\iv=In i6 k/\Below w.heap.size w wr/\Hid (qBl wr (w.heap.size) (qbV B a1 c1 a2 c2 a3 c3) 28)/\Hid (SC wr (w.heap.size+1))/\Hid (∀i,i<k->BJ B i=true)) (λi _=>B.ah.length - (intOf i).toNat)
 case atStart=>exact⟨0,qo,rfl,((dG _ _).alloc AG _).alloc qs _,T0,T1,λi hi=>absurd hi qo⟩
 case round=>
  obtain⟨k,hk,rfl,hb,aS,a6,au⟩:=hrel;have aQ:w.heap.size+1<wr.heap.size:=(AB a6.ab).1;have bd:w.heap.size<wr.heap.size:=qo
  by_cases ae:k<B.ah.length
  ·have aH:B.ah≠[]:=by intro h;rw[h]at ae;simp at ae
   obtain⟨b,cd,ea,a4,ay⟩:=hB.1 aH;subst ea;obtain⟨s,az⟩:∃s,B.ah[k]?=some s:=⟨B.ah[k],by simp[ae]⟩;have ah:=hZ.2.2.2.1 s (AE az);have af:Hid _:=az;have a5:=(ay k s az).below hb a4;unfold SvcAt at a5;obtain⟨x0,x1,x2,x3,x4,x5,x6,x7,x8,x9,aK,aM,aN⟩:=a5;have aj:Below w.heap.size w (wr.alloc (.cells (qsV s) 34)):=hb.alloc hb.size _;have Z:Hid ((wr.alloc (.cells (qsV s) 34)).heap.size=wr.heap.size+1):=by show(wr.heap.push _).size=_;simp
   have aD:Hid _:=dm wr (.cells (qsV s) 34);have aJ:=AN wr (.cells (qsV s) 34);have ag:Hid _:=AK aJ aS.ab;have aB:Hid (SC (wr.alloc (.cells (qsV s) 34)) (w.heap.size+1)):=AK aJ a6.ab aQ;clear az
   by_cases aG:k=0
   ·have a8:Hid (k=0):=aG
    have hz:decide (0<k)=false:=qp
    clear aG ay aH;go_wp2;clear x0 x1 x2 x3 x4 x5 x6 x7 x8 x9 aK aM aN;refine jl qk qk ?_
    repeat (first|go_big_quiet_step (fail)|quiet_step (fail))
    refine jn ?_;intro w2 aw;obtain⟨⟨dq,a7⟩,J⟩:=aw;have H:Below (wr.alloc (.cells (qsV s) 34)).heap.size (wr.alloc (.cells (qsV s) 34)) w2:=by rw[J];exact jm _ _ _
    clear J;have z:=aj.trans (H.mono aj.size);have F:Hid _:=AK H aD.ab (by rw[Z.ab];omega);have aa:Hid _:=AK H ag.ab (by rw[Z.ab];omega);have M:Hid (SC w2 (w.heap.size+1)):=AK H aB.ab (by rw[Z.ab];omega);have be:wr.heap.size<w2.heap.size:=by have:=H.size;rw[Z.ab]at this;omega
    obtain⟨r0,r1,r2,r3,r4,r5,r6,r7⟩:=qc8 F.ab;have r8:=AJ F.ab 8;have r9:=AJ F.ab 9;have bk:=AJ F.ab 10;have bm:=AJ F.ab 11;have bn:=AJ F.ab 12;have q0:=AJ aa.ab 0;cases W:inB s.ag 1 B.av
    ·have Y:Hid (BJ B k=false):=by unfold Hid BJ;rw[af.ab];simp[EQ,W]
     go_wp2_with (go_at_call 91;refine(A8 _ _ _ _).mono ?_;rintro e w' ⟨rfl,rfl⟩)
     go_ret;exact⟨AQ (Ao ae Y.ab).symm,z⟩
    cases aq:BT (Ie s) 5
    ·have Y:Hid (BJ B k=false):=by unfold Hid BJ;rw[af.ab];simp[EQ,W,<-Jc,aq]
     go_wp2_with (first|(go_at_call 91;refine(A8 _ _ _ _).mono ?_;rintro e w' ⟨rfl,rfl⟩)|(go_at_call 130;refine(FP s (w.heap.size+1) _ ah M.ab).mono ?_;rintro e w3 ⟨rfl,O⟩))
     go_ret;exact⟨AQ (Ao ae Y.ab).symm,z.trans (O.mono z.size)⟩
    have al:Hid (BJ B k=true):=by unfold Hid BJ;rw[af.ab];simp[EQ,W,<-Jc,aq,a8.ab]
    go_wp2_with (first|(go_at_call 91;refine(A8 _ _ _ _).mono ?_;rintro e w' ⟨rfl,rfl⟩)|(go_at_call 130;refine(FP s (w.heap.size+1) _ ah M.ab).mono ?_;rintro e w3 ⟨rfl,O⟩))
    have aF:=z.trans (O.mono z.size);have am:Hid _:=AK O aa.ab;have an:Hid (SC w3 (w.heap.size+1)):=AK O M.ab
    go_roundw
    case rel=>exact⟨k+1,qo,qn,aF,am,an,A9 au.ab al.ab⟩
    case measure=>simp[intOf];omega
   obtain⟨k',rfl⟩:∃k',k=k'+1:=⟨k - 1,qo⟩;clear aG;obtain⟨p,aI⟩:∃p,B.ah[k']?=some p:=⟨B.ah[k']' qo,by rw[dz]⟩;have aO:Hid _:=aI;obtain⟨y0,y1,y2,y3,y4,y5,y6,y7,y8,y9,bK,bO,bS⟩:=((ay k' p aI).below (hb.trans (aJ.mono hb.size)) a4).grown;have bb:=Az aD.ab 0 rfl;have ba:=Az ag.ab 1 rfl;have aA:=Cm s.name.toList p.name.toList;have HT:Hid _:=aA;clear aA aI ay aH;cases ak:Op.bytesLess p.name.toList s.name.toList
   ·have Y:Hid (BJ B (k'+1)=false):=by unfold Hid BJ;rw[af.ab];simp[aO.ab,ak]
    have aC:(Op.bytesLess s.name.toList p.name.toList||s.name.toList==p.name.toList)=true:=by rw[HT.ab,ak];rfl
    clear ak;go_wp2;clear x0 x1 x2 x3 x4 x5 x6 x7 x8 x9 aK aM aN;refine jl qk qk ?_
    repeat (first|go_big_quiet_step (fail)|quiet_step (fail))
    refine jn ?_;intro w2 aw;obtain⟨⟨dq,a7⟩,J⟩:=aw;have H:Below (wr.alloc (.cells (qsV s) 34)).heap.size (wr.alloc (.cells (qsV s) 34)) w2:=by rw[J];exact jm _ _ _
    clear J;go_wp2;go_ret;exact⟨AQ (Ao ae Y.ab).symm,aj.trans (H.mono aj.size)⟩
   ·have aC:(Op.bytesLess s.name.toList p.name.toList||s.name.toList==p.name.toList)=false:=by rw[HT.ab,ak];rfl
    have a9:Hid _:=ak;clear ak;go_wp2;clear x0 x1 x2 x3 x4 x5 x6 x7 x8 x9 aK aM aN;refine jl qk qk ?_
    repeat (first|go_big_quiet_step (fail)|quiet_step (fail))
    refine jn ?_;intro w2 aw;obtain⟨⟨dq,a7⟩,J⟩:=aw;have H:Below (wr.alloc (.cells (qsV s) 34)).heap.size (wr.alloc (.cells (qsV s) 34)) w2:=by rw[J];exact jm _ _ _
    clear J;clear bb ba aC y0 y1 y2 y3 y4 y5 y6 y7 y8 y9 bK bO bS;have z:=aj.trans (H.mono aj.size);have F:Hid _:=AK H aD.ab (by rw[Z.ab];omega);have aa:Hid _:=AK H ag.ab (by rw[Z.ab];omega);have M:Hid (SC w2 (w.heap.size+1)):=AK H aB.ab (by rw[Z.ab];omega);have be:wr.heap.size<w2.heap.size:=by have:=H.size;rw[Z.ab]at this;omega
    obtain⟨r0,r1,r2,r3,r4,r5,r6,r7⟩:=qc8 F.ab;have r8:=AJ F.ab 8;have r9:=AJ F.ab 9;have bk:=AJ F.ab 10;have bm:=AJ F.ab 11;have bn:=AJ F.ab 12;have q0:=AJ aa.ab 0;cases W:inB s.ag 1 B.av
    ·have Y:Hid (BJ B (k'+1)=false):=by unfold Hid BJ;rw[af.ab];simp[EQ,W]
     go_wp2_with (go_at_call 91;refine(A8 _ _ _ _).mono ?_;rintro e w' ⟨rfl,rfl⟩)
     go_ret;exact⟨AQ (Ao ae Y.ab).symm,z⟩
    cases aq:BT (Ie s) 5
    ·have Y:Hid (BJ B (k'+1)=false):=by unfold Hid BJ;rw[af.ab];simp[EQ,W,<-Jc,aq]
     go_wp2_with (first|(go_at_call 91;refine(A8 _ _ _ _).mono ?_;rintro e w' ⟨rfl,rfl⟩)|(go_at_call 130;refine(FP s (w.heap.size+1) _ ah M.ab).mono ?_;rintro e w3 ⟨rfl,O⟩))
     go_ret;exact⟨AQ (Ao ae Y.ab).symm,z.trans (O.mono z.size)⟩
    have al:Hid (BJ B (k'+1)=true):=by unfold Hid BJ;rw[af.ab];simp[EQ,W,<-Jc,aq,aO.ab,a9.ab]
    go_wp2_with (first|(go_at_call 91;refine(A8 _ _ _ _).mono ?_;rintro e w' ⟨rfl,rfl⟩)|(go_at_call 130;refine(FP s (w.heap.size+1) _ ah M.ab).mono ?_;rintro e w3 ⟨rfl,O⟩))
    have aF:=z.trans (O.mono z.size);have am:Hid _:=AK O aa.ab;have an:Hid (SC w3 (w.heap.size+1)):=AK O M.ab
    go_roundw
    case rel=>exact⟨(k'+1)+1,qo,qn,aF,am,an,A9 au.ab al.ab⟩
    case measure=>simp[intOf];omega
  ·go_wp2
   go_ret;exact⟨AQ (CY λi hi=>au.ab i qo).symm,hb⟩
theorem H7(B:Bk)(a1 a2 a3:qO)(c1 c2 c3:Nat)(w:World)(hS:B.aR)(hZ:B.aP)(hB:BkAt w a1 a2 a3 B):
  Calls Tryz.prog 72 #[.agg (qbV B a1 c1 a2 c2 a3 c3)] w λe w'=>e=.returned (.bool (BT (CQ B) B.aw.length))/\Below w.heap.size w w':=by
 obtain⟨bd,be,bk⟩:=hS;have T0:Hid _:=dm w (.cells (qbV B a1 c1 a2 c2 a3 c3) 28);go_enter Tryz.func72,Tryz.ntmps72;go_wp2
 go_loopw [8] (λiv wr=>∃k:Nat,k<=B.aw.length/\iv=In i6 k/\Below w.heap.size w wr/\Hid (qBl wr (w.heap.size) (qbV B a1 c1 a2 c2 a3 c3) 28)/\Hid (∀i,i<k->CQ B i=true)) (λi _=>B.aw.length - (intOf i).toNat)
 case atStart=>exact⟨0,qo,rfl,AN _ _,T0,λi hi=>absurd hi qo⟩
 case round=>
  obtain⟨k,hk,rfl,hb,au,aj⟩:=hrel;have a5:w.heap.size<wr.heap.size:=(AB au.ab).1
  by_cases aa:k<B.aw.length
  ·have aA:B.aw≠[]:=by intro h;rw[h]at aa;simp at aa
   obtain⟨b,bn,ea,aD,al⟩:=hB.2.2 aA;subst ea;obtain⟨s,am⟩:∃s,B.aw[k]?=some s:=⟨B.aw[k],by simp[aa]⟩;have O:=hZ.2.2.2.2.2 s (AE am);have af:Hid _:=am;have aF:=(al k s am).below hb aD;unfold BtAt at aF;obtain⟨x0,x1⟩:=aF;have Y:Below w.heap.size w (wr.alloc (.cells #[Sg s.name,Bo s.aM] 90)):=hb.alloc hb.size _;have W:Hid ((wr.alloc (.cells #[Sg s.name,Bo s.aM] 90)).heap.size=wr.heap.size+1):=by show(wr.heap.push _).size=_;simp
   have ax:Hid _:=dm wr (.cells #[Sg s.name,Bo s.aM] 90);have aG:=AN wr (.cells #[Sg s.name,Bo s.aM] 90);have M:Hid _:=AK aG au.ab;clear am
   by_cases az:k=0
   ·have aI:Hid (k=0):=az
    have hz:decide (0<k)=false:=qp
    clear az al aA;go_wp2;clear x0 x1;refine jl qk qk ?_
    repeat (first|go_big_quiet_step (fail)|quiet_step (fail))
    refine jn ?_;intro w2 ak;obtain⟨⟨dq,aH⟩,z⟩:=ak;have F:Below (wr.alloc (.cells #[Sg s.name,Bo s.aM] 90)).heap.size (wr.alloc (.cells #[Sg s.name,Bo s.aM] 90)) w2:=by rw[z];exact jm _ _ _
    clear z;have H:=Y.trans (F.mono Y.size);have ay:Hid _:=AK F ax.ab (by rw[W.ab];omega);have ah:Hid _:=AK F M.ab (by rw[W.ab];omega);have aN:wr.heap.size<w2.heap.size:=by have:=F.size;rw[W.ab]at this;omega
    have r0:=AJ ay.ab 0;cases J:Dh s.name
    ·have ae:Hid (CQ B k=false):=by unfold Hid CQ;rw[af.ab];simp[J]
     go_wp2_with (go_at_call 131;refine(Ff _ _ O).mono ?_;rintro e w' ⟨rfl,rfl⟩)
     go_ret;exact⟨AQ (Ao aa ae.ab).symm,H⟩
    have ag:Hid (CQ B k=true):=by unfold Hid CQ;rw[af.ab];simp[J,aI.ab]
    go_wp2_with (go_at_call 131;refine(Ff _ _ O).mono ?_;rintro e w' ⟨rfl,rfl⟩)
    go_roundw
    case rel=>exact⟨k+1,qo,qn,H,ah,A9 aj.ab ag.ab⟩
    case measure=>simp[intOf];omega
   obtain⟨k',rfl⟩:∃k',k=k'+1:=⟨k - 1,qo⟩;clear az;obtain⟨p,aB⟩:∃p,B.aw[k']?=some p:=⟨B.aw[k']' qo,by rw[dz]⟩;have aC:Hid _:=aB;obtain⟨y0,y1⟩:=((al k' p aB).below (hb.trans (aG.mono hb.size)) aD).grown;have aM:=Az ax.ab 0 rfl;have aK:=Az M.ab 3 rfl;have aq:=Cm s.name.toList p.name.toList;have HT:Hid _:=aq;clear aq aB al aA;cases Z:Op.bytesLess p.name.toList s.name.toList
   ·have ae:Hid (CQ B (k'+1)=false):=by unfold Hid CQ;rw[af.ab];simp[aC.ab,Z]
    have aw:(Op.bytesLess s.name.toList p.name.toList||s.name.toList==p.name.toList)=true:=by rw[HT.ab,Z];rfl
    clear Z;go_wp2;clear x0 x1;refine jl qk qk ?_
    repeat (first|go_big_quiet_step (fail)|quiet_step (fail))
    refine jn ?_;intro w2 ak;obtain⟨⟨dq,aH⟩,z⟩:=ak;have F:Below (wr.alloc (.cells #[Sg s.name,Bo s.aM] 90)).heap.size (wr.alloc (.cells #[Sg s.name,Bo s.aM] 90)) w2:=by rw[z];exact jm _ _ _
    clear z;go_wp2;go_ret;exact⟨AQ (Ao aa ae.ab).symm,Y.trans (F.mono Y.size)⟩
   ·have aw:(Op.bytesLess s.name.toList p.name.toList||s.name.toList==p.name.toList)=false:=by rw[HT.ab,Z];rfl
    have aJ:Hid _:=Z;clear Z;go_wp2;clear x0 x1;refine jl qk qk ?_
    repeat (first|go_big_quiet_step (fail)|quiet_step (fail))
    refine jn ?_;intro w2 ak;obtain⟨⟨dq,aH⟩,z⟩:=ak;have F:Below (wr.alloc (.cells #[Sg s.name,Bo s.aM] 90)).heap.size (wr.alloc (.cells #[Sg s.name,Bo s.aM] 90)) w2:=by rw[z];exact jm _ _ _
    clear z;clear aM aK aw y0 y1;have H:=Y.trans (F.mono Y.size);have ay:Hid _:=AK F ax.ab (by rw[W.ab];omega);have ah:Hid _:=AK F M.ab (by rw[W.ab];omega);have aN:wr.heap.size<w2.heap.size:=by have:=F.size;rw[W.ab]at this;omega
    have r0:=AJ ay.ab 0;cases J:Dh s.name
    ·have ae:Hid (CQ B (k'+1)=false):=by unfold Hid CQ;rw[af.ab];simp[J]
     go_wp2_with (go_at_call 131;refine(Ff _ _ O).mono ?_;rintro e w' ⟨rfl,rfl⟩)
     go_ret;exact⟨AQ (Ao aa ae.ab).symm,H⟩
    have ag:Hid (CQ B (k'+1)=true):=by unfold Hid CQ;rw[af.ab];simp[J,aC.ab,aJ.ab]
    go_wp2_with (go_at_call 131;refine(Ff _ _ O).mono ?_;rintro e w' ⟨rfl,rfl⟩)
    go_roundw
    case rel=>exact⟨(k'+1)+1,qo,qn,H,ah,A9 aj.ab ag.ab⟩
    case measure=>simp[intOf];omega
  ·go_wp2
   go_ret;exact⟨AQ (CY λi hi=>aj.ab i qo).symm,hb⟩
end
section
open Go.RowKit Go.Sort Go.Maps
open Go.Value renaming int->In,slice->Sl,string->Sg,bool->Bo,pointer->Po
open Go.IntKind renaming i64->i6
theorem KR:laidOutB Tryz.prog=true:=qk
theorem QQ:(181:TypeId)<Tryz.prog.types.size:=iK qk
theorem U5:(match Tryz.prog.underlying 181 with|some (.array _ _)|some (.struct _)=>true|_=>false)=true:=qk
theorem thingLaw:Keyed Tryz.prog 181:=Keyed.of_law (deep_law_laid KR (m:=3) qo QQ qk U5)
theorem MG:Tryz.prog.cellsOf 181=2:=qk
theorem thingKey:Tryz.prog.keyType 181=true:=qk
theorem RI:Tryz.prog.cellsOf 3=1:=qk
theorem K9:Tryz.prog.cellsOf 9=1:=qk
theorem DB(w:World):(zeroValue 3).run Tryz.prog w=.ok (In i6 0) w:=qk
def key(kd:Int)(s:qB):Lit:=.string (keyBytes [.int .i64 kd,.string s.data.toList])
theorem Cy(kd:Int)(s:qB)(hk:(Lit.int .i64 kd).wf=true)(F:s.size<=maxLen):keyOf Tryz.prog 181 (.agg #[In i6 kd,Sg s])=some (key kd s):=by
 have hf:(Value.agg #[In i6 kd,Sg s]).formed Tryz.prog 181=true:=by
  simp[Value.formed,Tryz.underlying181,MG]
 unfold keyOf;rw[Tryz.underlying181];simp only[thingKey,hf,Bool.and_self,gu];generalize z:Tryz.prog.types.size=n
 match n,z with
 |0,z=>have:=QQ;rw[z]at this;exact absurd this (gN _)
 |n+1,_=>
  simp[Program.keyLits,Tryz.underlying181,MG,RI,K9,Tryz.underlying3,Tryz.underlying9,Value.cells,hk,F,key]
theorem UK{kd z:Int}{s F:qB}(hk:(Lit.int .i64 kd).wf=true)(H:(Lit.int .i64 z).wf=true)(W:s.size<=maxLen)(J:F.size<=maxLen)(h:key kd s=key z F):kd=z/\s=F:=by
 have O:=Cy kd s hk W;have M:=Cy z F H J;rw[<-h]at M;have:=thingLaw.inj O M
 simpa using this
theorem Il(n:Int)(w:World):(Instr.makeMap 141 (some (In i6 n))).run Tryz.prog w=.ok (.map (some w.heap.size)) (w.alloc (.map #[] 0)):=by
 simp[Instr.makeMap,fQ Tryz.underlying141,asInt,asIntOf]
theorem wf1:(Lit.int .i64 1).wf=true:=qd
theorem wf2:(Lit.int .i64 2).wf=true:=qd
theorem EZ(kd:Int)(s:qB):WideAt.IsKeyLit (key kd s):=trivial
theorem C9{kd:Int}{s F:qB}(hk:(Lit.int .i64 kd).wf=true)(H:s.size<=maxLen)(z:F.size<=maxLen)(h:s≠F):key kd s≠key kd F:=λe=>h (UK hk hk H z e).2
theorem DA{s F:qB}(H:s.size<=maxLen)(z:F.size<=maxLen):key 1 s≠key 2 F:=λe=>absurd (UK wf1 wf2 H z e).1 qd
def Ja(B:Bk):Prop:=∀(i j:Nat) s t,i<j->B.ah[i]?=some s->B.ah[j]?=some t->s.name≠t.name
def PlacesAt(w:World)(b:Nat)(B:Bk)(ks kb:Nat):Prop:=∃(n:Nat) (D:DataW Unit),n<=ks+kb/\w.ownsMap Tryz.prog 181 (plainElem Tryz.prog 3) b n D/\
 (∀x:ByteArray,x.size<=maxLen->(∀(i:Nat) s,i<ks->B.ah[i]?=some s->s.name≠x)->Maps.has D (key 1 x)=false)/\
 (∀(i:Nat) s,i<ks->B.ah[i]?=some s->Maps.has D (key 1 s.name)=true/\D.atKey (key 1 s.name) (.lit (.int .i64 0))=.lit (.int .i64 i))/\
 (∀x:ByteArray,x.size<=maxLen->(∀(i:Nat) s,i<kb->B.aw[i]?=some s->s.name≠x)->Maps.has D (key 2 x)=false)/\
 (∀(i:Nat) s,i<kb->B.aw[i]?=some s->Maps.has D (key 2 s.name)=true)
theorem PlacesAt.aV{w w':World}{b:Nat}{B:Bk}{H z:Nat}(h:PlacesAt w b B H z)(hb:w'.heap[b]?=w.heap[b]?):PlacesAt w' b B H z:=by
 obtain⟨n,D,O,⟨es,clock,M,F,W,J⟩,r⟩:=h;exact⟨n,D,O,⟨es,clock,by rw[hb];exact M,F,W,J⟩,r⟩
theorem PlacesAt.below{w w':World}{b N:Nat}{B:Bk}{F z:Nat}(h:PlacesAt w b B F z)(hb:Below N w w')(H:b<N):PlacesAt w' b B F z:=h.aV (hb.block b H)
theorem PlacesAt.lt{w:World}{b:Nat}{B:Bk}{H F:Nat}(h:PlacesAt w b B H F):b<w.heap.size:=by
 obtain⟨n,D,J,z,_⟩:=h;exact z.lt
theorem PlacesAt.start(w:World)(B:Bk):PlacesAt (w.alloc (.map #[] 0)) w.heap.size B 0 0:=
 ⟨0,.map [],AG,World.ownsMap_made w _ _ _,λ_ _ _=>rfl,λi s z=>absurd z qo,λ_ _ _=>rfl,λi s z=>absurd z qo⟩
theorem PlacesAt.bu{w':World}{b:Nat}{B:Bk}{k n:Nat}{D:DataW Unit}{s:Svc}(hz:∀s∈B.ah,s.name.size<=maxLen)(_hzb:∀s∈B.aw,s.name.size<=maxLen)(hu:Ja B)(z:B.ah[k]?=some s)
  (hn:n<=k+0) (h1:∀x:ByteArray,x.size<=maxLen->(∀(i:Nat) s,i<k->B.ah[i]?=some s->s.name≠x)->Maps.has D (key 1 x)=false)
  (h2:∀(i:Nat) s,i<k->B.ah[i]?=some s->Maps.has D (key 1 s.name)=true/\D.atKey (key 1 s.name) (.lit (.int .i64 0))=.lit (.int .i64 i))
  (h3:∀x:ByteArray,x.size<=maxLen->(∀(i:Nat) s,i<0->B.aw[i]?=some s->s.name≠x)->Maps.has D (key 2 x)=false)
  (hD:IsMap D)
  (W:w'.ownsMap Tryz.prog 181 (plainElem Tryz.prog 3) b (n+1) (D.put (key 1 s.name) (.lit (.int .i64 (k:Int))))):PlacesAt w' b B (k+1) 0:=by
 have H:=hz s (AE z);refine⟨n+1,_,qo,W,λx hx F=>?_,λi t M J=>?_,λx hx F=>?_,λi t M=>absurd M qo⟩
 ·rw[has_put_other (C9 wf1 hx H (λe=>F k s qo z e.symm))]
  exact h1 x hx λi t M J=>F i t qo J
 ·rcases eW i k with Y|Y
  ·have Z:=hz t (AE J)
   have O:=C9 wf1 Z H (hu i k t s Y J z);rw[has_put_other O,atKey_put_other O];exact h2 i t Y J
  ·have e:i=k:=qo
   subst e;rw[z]at J;cases J;exact⟨has_put_same hD (EZ _ _) _,atKey_put_same hD (EZ _ _) _ _⟩
 ·rw[has_put_other (λe=>DA H hx e.symm)]
  exact h3 x hx λi t M=>absurd M qo
theorem PlacesAt.cD{w':World}{b:Nat}{B:Bk}{Y k n:Nat}{D:DataW Unit}{s:Bt}(hz:∀s∈B.ah,s.name.size<=maxLen)(W:∀s∈B.aw,s.name.size<=maxLen)(M:B.aw[k]?=some s)
  (hn:n<=Y+k) (h1:∀x:ByteArray,x.size<=maxLen->(∀(i:Nat) s,i<Y->B.ah[i]?=some s->s.name≠x)->Maps.has D (key 1 x)=false)
  (h2:∀(i:Nat) s,i<Y->B.ah[i]?=some s->Maps.has D (key 1 s.name)=true/\D.atKey (key 1 s.name) (.lit (.int .i64 0))=.lit (.int .i64 i))
  (h3:∀x:ByteArray,x.size<=maxLen->(∀(i:Nat) s,i<k->B.aw[i]?=some s->s.name≠x)->Maps.has D (key 2 x)=false)
  (h4:∀(i:Nat) s,i<k->B.aw[i]?=some s->Maps.has D (key 2 s.name)=true)
  (hD:IsMap D) (d:DataW Unit)
  (O:w'.ownsMap Tryz.prog 181 (plainElem Tryz.prog 3) b (n+1) (D.put (key 2 s.name) d)):PlacesAt w' b B Y (k+1):=by
 have z:=W s (AE M);refine⟨n+1,_,qo,O,λx hx F=>?_,λi t hi H=>?_,λx hx F=>?_,λi t hi H=>?_⟩
 ·rw[has_put_other (DA hx z)]
  exact h1 x hx F
 ·have J:=hz t (AE H)
  rw[has_put_other (DA J z),atKey_put_other (DA J z)];exact h2 i t hi H
 ·rw[has_put_other (C9 wf2 hx z (λe=>F k s qo M e.symm))]
  exact h3 x hx λi t hi H=>F i t qo H
 ·by_cases Z:t.name=s.name
  ·rw[Z];exact has_put_same hD (EZ _ _) _
  ·have J:=W t (AE H)
   rw[has_put_other (C9 wf2 J z Z)];rcases eW i k with h'|h'
   ·exact h4 i t h' H
   ·have e:i=k:=qo
    subst e;rw[M]at H;cases H;exact absurd rfl Z
theorem Jn(B:Bk)(a1 a2 a3:qO)(c1 c2 c3:Nat)(w:World)(hS:B.aR)(hZ:B.aP)(hU:Ja B)(hB:BkAt w a1 a2 a3 B):
  Calls Tryz.prog 92 #[.agg (qbV B a1 c1 a2 c2 a3 c3)] w λe w'=>e=.returned (.map (some (w.heap.size+1)))/\PlacesAt w' (w.heap.size+1) B B.ah.length B.aw.length/\Below w.heap.size w w':=by
 obtain⟨a5,a6,a7⟩:=hS;have aG:=Il;obtain⟨t0,t1,t2⟩:=CL w (.cells (qbV B a1 c1 a2 c2 a3 c3) 28) (.map #[] 0);have T0:Hid _:=t0
 have T1:Hid (PlacesAt ((w.alloc (.cells (qbV B a1 c1 a2 c2 a3 c3) 28)).alloc (.map #[] 0)) (w.heap.size+1) B 0 0):=by
  have:=PlacesAt.start (w.alloc (.cells (qbV B a1 c1 a2 c2 a3 c3) 28)) B;have e:(w.alloc (.cells (qbV B a1 c1 a2 c2 a3 c3) 28)).heap.size=w.heap.size+1:=by show(w.heap.push _).size=_;simp
  rw[e]at this;exact this
 clear t0 t1 t2;go_enter Tryz.func92,Tryz.ntmps92;go_wp2;clear aG
 go_loopw [19] (λiv wr=>∃k:Nat,k<=B.ah.length/\iv=In i6 k/\Below w.heap.size w wr/\Hid (qBl wr (w.heap.size) (qbV B a1 c1 a2 c2 a3 c3) 28)/\Hid (PlacesAt wr (w.heap.size+1) B k 0)) (λi _=>B.ah.length - (intOf i).toNat)
 case atStart=>exact⟨0,qo,rfl,((dG _ _).alloc AG _).alloc qs _,T0,T1⟩
 case round=>
  obtain⟨k,hk,rfl,hb,F,O⟩:=hrel;have aj:w.heap.size+1<wr.heap.size:=O.ab.lt
  by_cases J:k<B.ah.length
  ·have af:B.ah≠[]:=by intro h;rw[h]at J;simp at J
   obtain⟨b,aJ,ea,am,Z⟩:=hB.1 af;subst ea;obtain⟨s,H⟩:∃s,B.ah[k]?=some s:=⟨B.ah[k],by simp[J]⟩;have ae:=hZ.2.2.2.1 s (AE H);have ak:Hid _:=H;have aa:=(Z k s H).below hb am;unfold SvcAt at aa;obtain⟨x0,x1,x2,x3,x4,x5,x6,x7,x8,x9,bb,bd,be⟩:=aa;obtain⟨n,D,hn,M,h1,h2,h3,h4⟩:=O.ab;have H1:Hid _:=h1;have H2:Hid _:=h2;have H3:Hid _:=h3;have aq:n<maxLen:=qm
   clear H Z af h1 h2 h3 h4
   go_wp2_with (at_mapUpdate;refine wpList_mapUpdate_own _ rfl (.tmp 24) (.tmp 27) (.tmp 28) 141 rfl 181 3 thingLaw Tryz.underlying141 (plainElem Tryz.prog 3) (w.heap.size+1) n D rfl (M.alloc _) aq _ _ _ rfl rfl (Cy 1 s.name wf1 ae) _ [] (plainElem_int Tryz.underlying3 (ig qo)) ?_;intro w1 Y z)
   have ah:(wr.alloc (.cells (qsV s) 34)).heap.size=wr.heap.size+1:=by show(wr.heap.push _).size=_;simp
   have al:Below w.heap.size w w1:=(hb.alloc hb.size _).grown z (by rw[ah];omega) (λj hj=>by cases hj;omega);have W:Hid _:=(z.block w.heap.size (by rw[ah];omega) (λe=>by have:=dj e;omega)).trans (AK (AN wr (.cells (qsV s) 34)) F.ab);have ag:Hid _:=PlacesAt.bu hZ.2.2.2.1 hZ.2.2.2.2.2 hU ak.ab hn H1.ab H2.ab H3.ab M.isMap Y
   go_roundw
   case rel=>exact⟨k+1,qo,qn,al,W,ag⟩
   case measure=>simp[intOf];omega
  ·have an:k=B.ah.length:=qo
   subst an;have e3:=AJ F.ab 3;go_wp2;clear e3
   go_loopw [33] (λiv wr=>∃k:Nat,k<=B.aw.length/\iv=In i6 k/\Below w.heap.size w wr/\Hid (qBl wr (w.heap.size) (qbV B a1 c1 a2 c2 a3 c3) 28)/\Hid (PlacesAt wr (w.heap.size+1) B B.ah.length k)) (λi _=>B.aw.length - (intOf i).toNat)
   case atStart=>exact⟨0,qo,rfl,hb,F,O⟩
   case round=>
    clear hb F O aj J;rename_i a8 _;obtain⟨k,hk,rfl,hb,F,O⟩:=hrel;have aj:w.heap.size+1<wr.heap.size:=O.ab.lt
    by_cases J:k<B.aw.length
    ·have af:B.aw≠[]:=by intro h;rw[h]at J;simp at J
     obtain⟨b,aJ,ea,am,Z⟩:=hB.2.2 af;subst ea;obtain⟨s,H⟩:∃s,B.aw[k]?=some s:=⟨B.aw[k],by simp[J]⟩;have ae:=hZ.2.2.2.2.2 s (AE H);have ak:Hid _:=H;have aa:=(Z k s H).below hb am;unfold BtAt at aa;obtain⟨x0,x1⟩:=aa;obtain⟨n,D,hn,M,h1,h2,h3,h4⟩:=O.ab;have H1:Hid _:=h1;have H2:Hid _:=h2;have H3:Hid _:=h3;have H4:Hid _:=h4;have aq:n<maxLen:=qm
     clear H Z af h1 h2 h3 h4
     go_wp2_with (at_mapUpdate;refine wpList_mapUpdate_own _ rfl (.tmp 38) (.tmp 41) (.tmp 42) 141 rfl 181 3 thingLaw Tryz.underlying141 (plainElem Tryz.prog 3) (w.heap.size+1) n D rfl (M.alloc _) aq _ _ _ rfl rfl (Cy 2 s.name wf2 ae) _ [] (plainElem_int Tryz.underlying3 (ig qo)) ?_;intro w1 Y z)
     have ah:(wr.alloc (.cells #[Sg s.name,Bo s.aM] 90)).heap.size=wr.heap.size+1:=by show(wr.heap.push _).size=_;simp
     have al:Below w.heap.size w w1:=(hb.alloc hb.size _).grown z (by rw[ah];omega) (λj hj=>by cases hj;omega);have W:Hid _:=(z.block w.heap.size (by rw[ah];omega) (λe=>by have:=dj e;omega)).trans (AK (AN wr (.cells #[Sg s.name,Bo s.aM] 90)) F.ab);have ag:Hid _:=PlacesAt.cD hZ.2.2.2.1 hZ.2.2.2.2.2 ak.ab hn H1.ab H2.ab H3.ab H4.ab M.isMap _ Y
     go_roundw
     case rel=>exact⟨k+1,qo,qn,al,W,ag⟩
     case measure=>simp[intOf];omega
    ·go_wp2
     go_ret;have an:k=B.aw.length:=qo
     subst an;exact⟨rfl,O.ab,hb⟩
end
section
open Go.RowKit Go.Sort Go.Maps
theorem same_name{a b:qB}:(a.toList==b.toList)=true↔a=b:=by
 rw[fN,fY,fY];constructor
 ·intro h
  cases a;cases b;simp only[ByteArray.mk.injEq];exact iV.1 h
 ·intro h;rw[h]
theorem Vb{D:DataW Unit}{B:Bk}{x:qB}(hx:x.size<=maxLen)
  (H:∀x:ByteArray,x.size<=maxLen->(∀(i:Nat) s,i<B.aw.length->B.aw[i]?=some s->s.name≠x)->Maps.has D (key 2 x)=false)
  (J:∀(i:Nat) s,i<B.aw.length->B.aw[i]?=some s->Maps.has D (key 2 s.name)=true):Maps.has D (key 2 x)=B.aw.any λb=>b.name.toList==x.toList:=by
 cases h:B.aw.any λb=>b.name.toList==x.toList with
 |true=>
  obtain⟨s,F,M⟩:=fJ.1 h;obtain⟨i,z,rfl⟩:=iY.1 F;have e:=same_name.1 M;rw[<-e];exact J i _ z (dz z)
 |false=>
  rw[List.any_eq_false]at h;exact H x hx λi s z F e=>h s (AE F) (same_name.2 e)
theorem FZ{B:Bk}{x:qB}(h:A5 B x=none):∀(i:Nat) s,i<B.ah.length->B.ah[i]?=some s->s.name≠x:=λi s _ z e=>by
 unfold A5 at h;rw[fS]at h;exact h s (AE z) (same_name.2 e)
theorem FX{B:Bk}{x:qB}{s:Svc}(h:A5 B x=some s):∃i:Nat,i<B.ah.length/\B.ah[i]?=some s/\s.name=x:=by
 unfold A5 at h;obtain⟨i,z,_⟩:=DY h;exact⟨i,(AC z).1,z,same_name.1 (gM (p:=λs:Svc=>s.name.toList==x.toList) h)⟩
theorem BW(B:Bk)(c:Cp)(b:Nat)(w:World)(Y:c.aC.size<=maxLen)(hP:PlacesAt w b B B.ah.length B.aw.length):
  Calls Tryz.prog 134 #[.agg (qcV c),.map (some b)] w λe w'=>e=.returned (.bool (Cu B.aw c))/\Below w.heap.size w w':=by
 by_cases F:c.ay=1
 ·have J:Hid (c.ay=1):=F
  have M:(c.ay==1)=true:=by simp[F]
  clear F;go_enter Tryz.func134,Tryz.ntmps134;go_wp2;go_ret;exact⟨AQ (by simp[Cu,J.ab]),AN _ _⟩
 ·have J:Hid (¬c.ay=1):=F
  have M:(c.ay==1)=false:=by simp[F]
  clear F;obtain⟨n,D,hn,H,h1,h2,O,W⟩:=hP;have Z:Hid (Maps.has D (key 2 c.aC)=B.aw.any λb=>b.name.toList==c.aC.toList):=Vb Y O W;clear h1 h2 O W;go_enter Tryz.func134,Tryz.ntmps134
  go_wp2_with (at_lookup;refine wpList_lookup_own_ok_int _ rfl (.tmp 14) (.tmp 17) 141 rfl 181 3 .i64 thingLaw Tryz.underlying141 Tryz.underlying3 (DB _) b n D rfl (H.alloc _) _ _ rfl (Cy 2 c.aC wf2 Y) ?_;intro z ag ah)
  go_ret;exact⟨AQ (by rw[Z.ab];simp[Cu,J.ab]),AN _ _⟩
end
end Go.Proofs.YtbceafpodamnfaaGreatDoor
