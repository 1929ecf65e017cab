import Derived.Test.YtbceafpodamnfaaGreatDoorG06
import Derived.Laws.EntriesVeiled
set_option linter.all false
set_option maxHeartbeats 8000000
namespace Go.Proofs.YtbceafpodamnfaaGreatDoor
section
open Go.RowKit Go.Sort
theorem He(B:Bk)(n:qB)(a1 a2 a3:qO)(c1 c2 c3:Nat)(w:World)(hS:B.aJ)(hB:SlS w a1 B.af):
  Calls Tryz.prog 118 #[.agg (qbV B a1 c1 a2 c2 a3 c3),.string n] w λe w'=>e=.returned (.int .i64 (L6 B.af n))/\Below w.heap.size w w':=by
 obtain⟨am,au,al⟩:=hS;go_enter Tryz.func118,Tryz.ntmps118;go_wp2
 go_loop [5] (λi=>∃k:Nat,k<=B.af.length/\i=.int .i64 k/\Hid (∀i,i<k->∀s,B.af[i]?=some s->(s.name.toList==n.toList)=false)) (λi=>B.af.length - (intOf i).toNat)
 case atStart=>exact⟨0,by omega,rfl,λi hi=>absurd hi (by omega)⟩
 case round=>
  obtain⟨k,hk,rfl,J⟩:=hrel
  by_cases H:k<B.af.length
  ·have W:B.af≠[]:=by intro h;rw[h]at H;simp at H
   obtain⟨b,off,rfl,ar,M⟩:=hB W;obtain⟨s,F⟩:∃s,B.af[k]?=some s:=⟨B.af[k],by simp[H]⟩;have Y:Hid (B.af[k]?=some s):=F;have hc:=M k s F;unfold SvcAt at hc;have an:=hc.1;clear M hc F W;cases hq:(s.name.toList==n.toList)
   ·go_wp2
    go_round
    case rel=>
     refine⟨k+1,by omega,by go_num,λi hi t Z=>?_⟩;rcases eG i k with h'|h'
     ·exact J.O i h' t Z
     ·have e:i=k:=by omega
      subst e;rw[Y.O]at Z;cases Z;exact hq
    case measure=>simp[intOf];omega
   ·go_wp2
    go_ret;exact⟨KI (Ds Y.O hq J.O).symm,AN _ _⟩
  ·go_wp2
   go_ret;exact⟨KI (Hy λi s hs=>J.O i (by have:=(AC hs).1;omega) s hs).symm,AN _ _⟩
theorem Ot(B:Bk)(n:qB)(a1 a2 a3:qO)(c1 c2 c3:Nat)(w:World)(hS:B.aJ)(hB:SlB w a3 B.ak):
  Calls Tryz.prog 124 #[.agg (qbV B a1 c1 a2 c2 a3 c3),.string n] w λe w'=>e=.returned (.int .i64 (idxB B.ak n))/\Below w.heap.size w w':=by
 obtain⟨am,au,al⟩:=hS;go_enter Tryz.func124,Tryz.ntmps124;go_wp2
 go_loop [5] (λi=>∃k:Nat,k<=B.ak.length/\i=.int .i64 k/\Hid (∀i,i<k->∀s,B.ak[i]?=some s->(s.name.toList==n.toList)=false)) (λi=>B.ak.length - (intOf i).toNat)
 case atStart=>exact⟨0,by omega,rfl,λi hi=>absurd hi (by omega)⟩
 case round=>
  obtain⟨k,hk,rfl,J⟩:=hrel
  by_cases H:k<B.ak.length
  ·have W:B.ak≠[]:=by intro h;rw[h]at H;simp at H
   obtain⟨b,off,rfl,ar,M⟩:=hB W;obtain⟨s,F⟩:∃s,B.ak[k]?=some s:=⟨B.ak[k],by simp[H]⟩;have Y:Hid (B.ak[k]?=some s):=F;have hc:=M k s F;unfold BtAt at hc;have an:=hc.1;clear M hc F W;cases hq:(s.name.toList==n.toList)
   ·go_wp2
    go_round
    case rel=>
     refine⟨k+1,by omega,by go_num,λi hi t Z=>?_⟩;rcases eG i k with h'|h'
     ·exact J.O i h' t Z
     ·have e:i=k:=by omega
      subst e;rw[Y.O]at Z;cases Z;exact hq
    case measure=>simp[intOf];omega
   ·go_wp2
    go_ret;exact⟨KI (Ds Y.O hq J.O).symm,AN _ _⟩
  ·go_wp2
   go_ret;exact⟨KI (Hy λi s hs=>J.O i (by have:=(AC hs).1;omega) s hs).symm,AN _ _⟩
theorem AK{N:Nat}{w w':World}{k:Nat}{x:Option Obj}(hb:Below N w w')(h:w.heap[k]?=x)(hk:k<N):w'.heap[k]?=x:=(hb.block k hk).trans h
theorem Aq{w:World}{b:Nat}{cs:Array Value}{t:TypeId}{fr:Nat × Nat}(h:w.heap[b]?=some (.cells cs t fr))(o:Nat){v:Value}(hv:cs[o]?=some v):∀p:Regrown,(grow (redrawn w p.d) p.os).cell? ⟨b,o,none⟩=some v:=
 λp=>jl (AJ h o hv) p.d p.os
theorem B1(w:World)(A B:Obj):((w.alloc A).alloc B).heap[w.heap.size]?=some A/\((w.alloc A).alloc B).heap[w.heap.size+1]?=some B/\((w.alloc A).alloc B).heap.size=w.heap.size+1+1:=by
 have e:((w.alloc A).alloc B).heap=(w.heap.push A).push B:=rfl;rw[e];refine⟨?_,?_,by simp⟩
 ·rw[dk,dC (by simp),dk,dB rfl]
 ·rw[dk,dB (by simp)]
theorem Dq(n lo F:Int)(w:World):
  Calls Tryz.prog 63 #[.int .i64 n,.int .i64 lo,.int .i64 F] w λe w'=>e=.returned (.bool (inB n lo F))/\Below w.heap.size w w':=
 (Cd n lo F w).mono λe w' ⟨H,J⟩=>⟨H,by rw[J];exact dI _ _⟩
theorem CT(B:Bk)(c:Cp)(a1 a2 a3:qO)(c1 c2 c3:Nat)(w:World)(hS:B.aJ)(hB:BkAt w a1 a2 a3 B):
  Calls Tryz.prog 66 #[.agg (qbV B a1 c1 a2 c2 a3 c3),.agg (qcV c)] w λe w'=>e=.returned (.bool (cpB B c))/\Below w.heap.size w w':=by
 obtain⟨t0,t1,t2⟩:=B1 w (.cells (qbV B a1 c1 a2 c2 a3 c3) 28) (.cells (qcV c) 76);have ah:Below w.heap.size w ((w.alloc (.cells (qbV B a1 c1 a2 c2 a3 c3) 28)).alloc (.cells (qcV c) 76)):=((dI _ _).alloc (AG _) _).alloc (by simp) _;have T0:Hid _:=t0;have T1:Hid _:=t1;have T2:Hid _:=t2;clear t0 t1 t2
 cases hf:Ah B c.aa with
 |none=>
  have Z:Hid (cpB B c=false):=by unfold Hid cpB;rw[hf]
  have Y:L6 B.af c.aa= -1:=F1 hf;clear hf;go_enter Tryz.func66,Tryz.ntmps66
  go_wp2_with fail
  refine(He B c.aa a1 a2 a3 c1 c2 c3 _ hS (hB.1.below ah)).mono ?_;rintro e w1 ⟨rfl,W⟩;have H:=ah.trans (W.mono ah.size);rw[Y];clear Y;go_wp2;refine ji (by kernel_rfl) (by kernel_rfl) ?_
  repeat (first|go_big_quiet_step (exact jh (Dq _ _ _ _))|quiet_step (exact jh (Dq _ _ _ _)))
  refine jk ?_;intro w2 M;obtain⟨⟨dq,al⟩,F⟩:=M;have J:Below w1.heap.size w1 w2:=by rw[F];exact jj _ _ _
  clear F;go_wp2;go_ret;exact⟨AR Z.O.symm,H.trans (J.mono H.size)⟩
 |some s=>
  have Z:Hid (cpB B c=(FP B.aj s c&&Ca B.ak c)):=by unfold Hid cpB;rw[hf]
  obtain⟨i,hi,Y⟩:∃i:Nat,B.af[i]?=some s/\L6 B.af c.aa=(i:Int):=Co hf;have am:i<B.af.length:=(AC hi).1;clear hf;have az:B.af≠[]:=by intro h;rw[h]at am;simp at am
  obtain⟨b,off,aG,aS,ar⟩:=hB.1 az;subst aG;go_enter Tryz.func66,Tryz.ntmps66
  go_wp2_with fail
  refine(He B c.aa _ a2 a3 c1 c2 c3 _ hS (hB.1.below ah)).mono ?_;rintro e w1 ⟨rfl,W⟩;have H:=ah.trans (W.mono ah.size);rw[Y];clear Y;rw[T2.O]at W;have au:Hid _:=AK W T0.O (by omega);have ak:Hid _:=AK W T1.O (by omega);have bo:w.heap.size+1<w1.heap.size:=by have:=W.size;rw[T2.O]at this;omega
  obtain⟨q0,q1,q2,q3,q4,q5,q6,q7,q8,q9,aK,aF,aT⟩:=((ar i s hi).below H aS).grown;clear q0 q1 q2 q3 q4 q5 q6 q8 q9 aK aF aT;have g0:=Aq au.O 0 rfl;have g1:=Aq au.O 1 rfl;have k1:=Aq ak.O 1 rfl;have k2:=Aq ak.O 2 rfl;have k3:=Aq ak.O 3 rfl;have k4:=Aq ak.O 4 rfl;have bl:Hid _:=ar;have HI:Hid _:=hi;clear ar hi az W;go_wp2;cases h1:inB c.ai 1 (wrap64 (s.next - 1))
  ·refine ji (by kernel_rfl) (by kernel_rfl) ?_
   repeat (first|go_big_quiet_step (exact jh (Dq _ _ _ _))|quiet_step (exact jh (Dq _ _ _ _)))
   refine jk ?_;intro w2 M;obtain⟨⟨dq,al⟩,F⟩:=M;have J:Below w1.heap.size w1 w2:=by rw[F];exact jj _ _ _
   clear F;go_wp2;go_ret;exact⟨AR (by rw[Z.O];simp[FP,h1]),H.trans (J.mono H.size)⟩
  cases h2:inB c.ag 1 B.aj
  ·refine ji (by kernel_rfl) (by kernel_rfl) ?_
   repeat (first|go_big_quiet_step (exact jh (Dq _ _ _ _))|quiet_step (exact jh (Dq _ _ _ _)))
   refine jk ?_;intro w2 M;obtain⟨⟨dq,al⟩,F⟩:=M;have J:Below w1.heap.size w1 w2:=by rw[F];exact jj _ _ _
   clear F;go_wp2;go_ret;exact⟨AR (by rw[Z.O];simp[FP,h1,h2]),H.trans (J.mono H.size)⟩
  cases h3:inB c.ar 1 1000000
  ·refine ji (by kernel_rfl) (by kernel_rfl) ?_
   repeat (first|go_big_quiet_step (exact jh (Dq _ _ _ _))|quiet_step (exact jh (Dq _ _ _ _)))
   refine jk ?_;intro w2 M;obtain⟨⟨dq,al⟩,F⟩:=M;have J:Below w1.heap.size w1 w2:=by rw[F];exact jj _ _ _
   clear F;go_wp2;go_ret;exact⟨AR (by rw[Z.O];simp[FP,h1,h2,h3]),H.trans (J.mono H.size)⟩
  cases h4:inB c.ax 1 4
  ·refine ji (by kernel_rfl) (by kernel_rfl) ?_
   repeat (first|go_big_quiet_step (exact jh (Dq _ _ _ _))|quiet_step (exact jh (Dq _ _ _ _)))
   refine jk ?_;intro w2 M;obtain⟨⟨dq,al⟩,F⟩:=M;have J:Below w1.heap.size w1 w2:=by rw[F];exact jj _ _ _
   clear F;go_wp2;go_ret;exact⟨AR (by rw[Z.O];simp[FP,h1,h2,h3,h4]),H.trans (J.mono H.size)⟩
  refine ji (by kernel_rfl) (by kernel_rfl) ?_
  repeat (first|go_big_quiet_step (exact jh (Dq _ _ _ _))|quiet_step (exact jh (Dq _ _ _ _)))
  refine jk ?_;intro w2 M;obtain⟨⟨dq,al⟩,F⟩:=M;have J:Below w1.heap.size w1 w2:=by rw[F];exact jj _ _ _
  clear F;have aq:Hid (cpB B c=Ca B.ak c):=by unfold Hid;rw[Z.O];simp[FP,h1,h2,h3,h4]
  have af:=H.trans (J.mono H.size);have ag:Hid _:=AK J au.O (by omega);have an:Hid _:=AK J ak.O (by omega);clear g0 g1 k1 k2 k3 k4 h1 h2 h3 h4 q7;have m0:=AJ ag.O 0 rfl;have m1:=AJ ag.O 1 rfl;have m2:=AJ ag.O 2 rfl;have m3:=AJ ag.O 3 rfl;have n4:=AJ an.O 4 rfl;have n6:=AJ an.O 6 rfl
  by_cases h5:c.ax=1
  ·have H5:Hid (c.ax=1):=h5
   have aI:(c.ax==1)=true:=by simp[h5]
   clear h5;go_wp2;go_ret;exact⟨AR (by rw[aq.O];simp[Ca,H5.O]),af⟩
  ·have H5:Hid (¬c.ax=1):=h5
   have aI:(c.ax==1)=false:=by simp[h5]
   clear h5
   go_wp2_with fail
   refine(Ot B c.aA _ a2 a3 c1 c2 c3 _ hS (hB.2.2.below af)).mono ?_;rintro e w3 ⟨rfl,aH⟩;have HG:Hid (decide (0<=idxB B.ak c.aA)=B.ak.any λb=>b.name.toList==c.aA.toList):=idxOf_ge _ _;generalize idxB B.ak c.aA=z at *;go_wp2;go_ret;exact⟨AR (by rw[aq.O];simp[Ca,H5.O,<-HG.O]),af.trans (aH.mono af.size)⟩
theorem FG(a b:Cp)(w:World):
  Calls Tryz.prog 67 #[.agg (qcV a),.agg (qcV b)] w λe w'=>e=.returned (.bool (Ak a b))/\Below w.heap.size w w':=by
 have F:Below w.heap.size w ((w.alloc (.cells (qcV a) 76)).alloc (.cells (qcV b) 76)):=((dI _ _).alloc (AG _) _).alloc (by simp) _;cases H:Op.bytesLess a.aa.toList b.aa.toList
 ·cases J:(a.aa.toList==b.aa.toList)
  ·go_enter Tryz.func67,Tryz.ntmps67
   go_wp2;go_ret;exact⟨AR (by simp[Ak,H,J]),F⟩
  ·go_enter Tryz.func67,Tryz.ntmps67
   go_wp2;go_ret;exact⟨AR (by simp[Ak,H,J]),F⟩
 ·go_enter Tryz.func67,Tryz.ntmps67
  go_wp2;go_ret;exact⟨AR (by simp[Ak,H]),F⟩
theorem C4(s:qB)(w:World)(F:s.size<=maxLen):
  Calls Tryz.prog 65 #[.string s] w λe w'=>e=.returned (.bool (DB s))/\Below w.heap.size w w':=
 (IW s w F).mono λe w' ⟨H,J⟩=>⟨H,by rw[J];exact dI _ _⟩
theorem Ai(B:Bk)(a1 a2 a3:qO)(c1 c2 c3:Nat)(w:World)(hS:B.aJ)(hZ:B.aD)(hB:BkAt w a1 a2 a3 B):
  Calls Tryz.prog 23 #[.agg (qbV B a1 c1 a2 c2 a3 c3)] w λe w'=>e=.returned (.bool (Ag B))/\Below w.heap.size w w':=by
 obtain⟨aE,aC,az⟩:=hS;have aH:=AN w (.cells (qbV B a1 c1 a2 c2 a3 c3) 28);have bf:Hid _:=dm w (.cells (qbV B a1 c1 a2 c2 a3 c3) 28);cases h0:inB B.aj 0 1000000
 ·go_enter Tryz.func23,Tryz.ntmps23
  go_wp2_with (go_at_call 63;refine(Cd _ _ _ _).mono ?_;rintro e w' ⟨rfl,rfl⟩)
  go_ret;exact⟨AR (by simp[Ag,h0]),aH⟩
 by_cases bZ:8<(B.af.length:Int)
 ·go_enter Tryz.func23,Tryz.ntmps23
  go_wp2_with (go_at_call 63;refine(Cd _ _ _ _).mono ?_;rintro e w' ⟨rfl,rfl⟩)
  go_ret;exact⟨AR (by have:¬B.af.length<=8:=(by omega);simp[Ag,this]),aH⟩
 by_cases b3:200<(B.ah.length:Int)
 ·go_enter Tryz.func23,Tryz.ntmps23
  go_wp2_with (go_at_call 63;refine(Cd _ _ _ _).mono ?_;rintro e w' ⟨rfl,rfl⟩)
  go_ret;exact⟨AR (by have:¬B.ah.length<=200:=(by omega);simp[Ag,this]),aH⟩
 by_cases b4:6<(B.ak.length:Int)
 ·go_enter Tryz.func23,Tryz.ntmps23
  go_wp2_with (go_at_call 63;refine(Cd _ _ _ _).mono ?_;rintro e w' ⟨rfl,rfl⟩)
  go_ret;exact⟨AR (by have:¬B.ak.length<=6:=(by omega);simp[Ag,this]),aH⟩
 have HV:Hid (Ag B=(BI (A7 B) B.af.length&&BI (B8 B) B.ak.length&&BI (A5 B) B.ah.length)):=by
  have q1:B.af.length<=8:=by omega
  have q2:B.ah.length<=200:=by omega
  have q3:B.ak.length<=6:=by omega
  unfold Hid;simp[Ag,h0,q1,q2,q3]
 go_enter Tryz.func23,Tryz.ntmps23
 go_wp2_with (go_at_call 63;refine(Cd _ _ _ _).mono ?_;rintro e w' ⟨rfl,rfl⟩)
 clear h0
 go_loopw [3] (λiv wr=>∃k:Nat,k<=B.af.length/\iv=.int .i64 k/\Below w.heap.size w wr/\Hid (qBl wr (w.heap.size) (qbV B a1 c1 a2 c2 a3 c3) 28)/\Hid (∀i,i<k->A7 B i=true)) (λi _=>B.af.length - (intOf i).toNat)
 case atStart=>exact⟨0,by omega,rfl,aH,bf,λi hi=>absurd hi (by omega)⟩
 case round=>
  obtain⟨k,hk,rfl,hb,F,aa⟩:=hrel;have am:w.heap.size<wr.heap.size:=(AB F.O).1;have e0:=AJ F.O 0 rfl;have e1:=AJ F.O 1 rfl;have e2:=AJ F.O 2 rfl;have e3:=AJ F.O 3 rfl
  by_cases ah:k<B.af.length
  ·have ak:B.af≠[]:=by intro h;rw[h]at ah;simp at ah
   obtain⟨b,off,ea,aA,af⟩:=hB.1 ak;subst ea;obtain⟨s,J⟩:∃s,B.af[k]?=some s:=⟨B.af[k],by simp[ah]⟩;have W:=hZ.2.2.2.1 s (AE J);obtain⟨x0,x1,x2,x3,x4,x5,x6,x7,x8,x9,bk,a6,a4⟩:=((af k s J).below hb aA).grown;have g0:=Aq F.O 0 rfl;have g1:=Aq F.O 1 rfl;have g2:=Aq F.O 2 rfl;have g3:=Aq F.O 3 rfl;have ax:=hB.below hb;cases al:svcB B.aj s
   ·have au:Hid (A7 B k=false):=by unfold Hid A7;rw[J];simp[al]
    clear J af ak;go_wp2;refine ji (by kernel_rfl) (by kernel_rfl) ?_
    repeat (first|go_big_quiet_step (exact jh (Bl s B.aj _ W))|quiet_step (exact jh (Bl s B.aj _ W)))
    refine jk ?_;intro w2 Z;obtain⟨⟨dq,av⟩,H⟩:=Z;have M:Below wr.heap.size wr w2:=by rw[H];exact jj _ _ _
    clear H;go_wp2;go_ret;exact⟨AR (by simp[Ag,Am ah au.O]),hb.trans (M.mono hb.size)⟩
   by_cases aw:k=0
   ·have ag:Hid (A7 B k=true):=by unfold Hid A7;rw[J];simp[al,aw]
    have hz:decide (0<k)=false:=by simp;omega
    clear J af ak aw;go_wp2;refine ji (by kernel_rfl) (by kernel_rfl) ?_
    repeat (first|go_big_quiet_step (exact jh (Bl s B.aj _ W))|quiet_step (exact jh (Bl s B.aj _ W)))
    refine jk ?_;intro w2 Z;obtain⟨⟨dq,av⟩,H⟩:=Z;have M:Below wr.heap.size wr w2:=by rw[H];exact jj _ _ _
    clear H;have Y:Hid _:=AK M F.O am;have ar:=hb.trans (M.mono hb.size);clear g0 g1 g2 g3 x0 x1 x2 x3 x4 x5 x6 x7 x8 x9 bk a6 a4 e0 e1 e2 e3;go_wp2
    go_roundw
    case rel=>exact⟨k+1,by omega,by go_num,ar,Y,A2 aa.O ag.O⟩
    case measure=>simp[intOf];omega
   obtain⟨k',rfl⟩:∃k',k=k'+1:=⟨k - 1,by omega⟩;clear aw;obtain⟨p,ai⟩:∃p,B.af[k']?=some p:=⟨B.af[k']'(by omega),by rw[dj]⟩;obtain⟨y0,y1,y2,y3,y4,y5,y6,y7,y8,y9,bx,bE,bt⟩:=((af k' p ai).below hb aA).grown;cases ay:Op.bytesLess p.name.toList s.name.toList
   ·have au:Hid (A7 B (k'+1)=false):=by unfold Hid A7;rw[J];simp[al,ai,ay]
    clear J af ak ai;go_wp2;refine ji (by kernel_rfl) (by kernel_rfl) ?_
    repeat (first|go_big_quiet_step (exact jh (Bl s B.aj _ W))|quiet_step (exact jh (Bl s B.aj _ W)))
    refine jk ?_;intro w2 Z;obtain⟨⟨dq,av⟩,H⟩:=Z;have M:Below wr.heap.size wr w2:=by rw[H];exact jj _ _ _
    clear H;go_wp2;go_ret;exact⟨AR (by simp[Ag,Am ah au.O]),hb.trans (M.mono hb.size)⟩
   ·have ag:Hid (A7 B (k'+1)=true):=by unfold Hid A7;rw[J];simp[al,ai,ay]
    clear J af ak ai;go_wp2;refine ji (by kernel_rfl) (by kernel_rfl) ?_
    repeat (first|go_big_quiet_step (exact jh (Bl s B.aj _ W))|quiet_step (exact jh (Bl s B.aj _ W)))
    refine jk ?_;intro w2 Z;obtain⟨⟨dq,av⟩,H⟩:=Z;have M:Below wr.heap.size wr w2:=by rw[H];exact jj _ _ _
    clear H;have Y:Hid _:=AK M F.O am;have ar:=hb.trans (M.mono hb.size);clear g0 g1 g2 g3 x0 x1 x2 x3 x4 x5 x6 x7 x8 x9 bk a6 a4 y0 y1 y2 y3 y4 y5 y6 y7 y8 y9 bx bE bt e0 e1 e2 e3;go_wp2
    go_roundw
    case rel=>exact⟨k'+1+1,by omega,by go_num,ar,Y,A2 aa.O ag.O⟩
    case measure=>simp[intOf];omega
  ·have aF:Hid (BI (A7 B) B.af.length=true):=CH λi hi=>aa.O i (by omega)
   clear aa;go_wp2
   go_loopw [4] (λiv wr=>∃k:Nat,k<=B.ak.length/\iv=.int .i64 k/\Below w.heap.size w wr/\Hid (qBl wr (w.heap.size) (qbV B a1 c1 a2 c2 a3 c3) 28)/\Hid (∀i,i<k->B8 B i=true)) (λi _=>B.ak.length - (intOf i).toNat)
   case atStart=>exact⟨0,by omega,rfl,hb,F,λi hi=>absurd hi (by omega)⟩
   case round=>
    obtain⟨k,hk,rfl,hb,F,aa⟩:=hrel;have am:w.heap.size<wr.heap.size:=(AB F.O).1;have e0:=AJ F.O 0 rfl;have e1:=AJ F.O 1 rfl;have e2:=AJ F.O 2 rfl;have e3:=AJ F.O 3 rfl
    by_cases ah:k<B.ak.length
    ·have ak:B.ak≠[]:=by intro h;rw[h]at ah;simp at ah
     obtain⟨b,off,ea,aA,af⟩:=hB.2.2 ak;subst ea;obtain⟨s,J⟩:∃s,B.ak[k]?=some s:=⟨B.ak[k],by simp[ah]⟩;have W:=hZ.2.2.2.2.2 s (AE J);obtain⟨x0,x1⟩:=((af k s J).below hb aA).grown;have g0:=Aq F.O 0 rfl;have g1:=Aq F.O 1 rfl;have g2:=Aq F.O 2 rfl;have g3:=Aq F.O 3 rfl;have ax:=hB.below hb;cases al:DB s.name
     ·have au:Hid (B8 B k=false):=by unfold Hid B8;rw[J];simp[al]
      clear J af ak;go_wp2;refine ji (by kernel_rfl) (by kernel_rfl) ?_
      repeat (first|go_big_quiet_step (exact jh (C4 s.name _ W))|quiet_step (exact jh (C4 s.name _ W)))
      refine jk ?_;intro w2 Z;obtain⟨⟨dq,av⟩,H⟩:=Z;have M:Below wr.heap.size wr w2:=by rw[H];exact jj _ _ _
      clear H;go_wp2;go_ret;exact⟨AR (by simp[Ag,Am ah au.O]),hb.trans (M.mono hb.size)⟩
     by_cases aw:k=0
     ·have ag:Hid (B8 B k=true):=by unfold Hid B8;rw[J];simp[al,aw]
      have hz:decide (0<k)=false:=by simp;omega
      clear J af ak aw;go_wp2;refine ji (by kernel_rfl) (by kernel_rfl) ?_
      repeat (first|go_big_quiet_step (exact jh (C4 s.name _ W))|quiet_step (exact jh (C4 s.name _ W)))
      refine jk ?_;intro w2 Z;obtain⟨⟨dq,av⟩,H⟩:=Z;have M:Below wr.heap.size wr w2:=by rw[H];exact jj _ _ _
      clear H;have Y:Hid _:=AK M F.O am;have ar:=hb.trans (M.mono hb.size);clear g0 g1 g2 g3 x0 x1 e0 e1 e2 e3;go_wp2
      go_roundw
      case rel=>exact⟨k+1,by omega,by go_num,ar,Y,A2 aa.O ag.O⟩
      case measure=>simp[intOf];omega
     obtain⟨k',rfl⟩:∃k',k=k'+1:=⟨k - 1,by omega⟩;clear aw;obtain⟨p,ai⟩:∃p,B.ak[k']?=some p:=⟨B.ak[k']'(by omega),by rw[dj]⟩;obtain⟨y0,y1⟩:=((af k' p ai).below hb aA).grown;cases ay:Op.bytesLess p.name.toList s.name.toList
     ·have au:Hid (B8 B (k'+1)=false):=by unfold Hid B8;rw[J];simp[al,ai,ay]
      clear J af ak ai;go_wp2;refine ji (by kernel_rfl) (by kernel_rfl) ?_
      repeat (first|go_big_quiet_step (exact jh (C4 s.name _ W))|quiet_step (exact jh (C4 s.name _ W)))
      refine jk ?_;intro w2 Z;obtain⟨⟨dq,av⟩,H⟩:=Z;have M:Below wr.heap.size wr w2:=by rw[H];exact jj _ _ _
      clear H;go_wp2;go_ret;exact⟨AR (by simp[Ag,Am ah au.O]),hb.trans (M.mono hb.size)⟩
     ·have ag:Hid (B8 B (k'+1)=true):=by unfold Hid B8;rw[J];simp[al,ai,ay]
      clear J af ak ai;go_wp2;refine ji (by kernel_rfl) (by kernel_rfl) ?_
      repeat (first|go_big_quiet_step (exact jh (C4 s.name _ W))|quiet_step (exact jh (C4 s.name _ W)))
      refine jk ?_;intro w2 Z;obtain⟨⟨dq,av⟩,H⟩:=Z;have M:Below wr.heap.size wr w2:=by rw[H];exact jj _ _ _
      clear H;have Y:Hid _:=AK M F.O am;have ar:=hb.trans (M.mono hb.size);clear g0 g1 g2 g3 x0 x1 y0 y1 e0 e1 e2 e3;go_wp2
      go_roundw
      case rel=>exact⟨k'+1+1,by omega,by go_num,ar,Y,A2 aa.O ag.O⟩
      case measure=>simp[intOf];omega
    ·have aG:Hid (BI (B8 B) B.ak.length=true):=CH λi hi=>aa.O i (by omega)
     clear aa;go_wp2
     go_loopw [5] (λiv wr=>∃k:Nat,k<=B.ah.length/\iv=.int .i64 k/\Below w.heap.size w wr/\Hid (qBl wr (w.heap.size) (qbV B a1 c1 a2 c2 a3 c3) 28)/\Hid (∀i,i<k->A5 B i=true)) (λi _=>B.ah.length - (intOf i).toNat)
     case atStart=>exact⟨0,by omega,rfl,hb,F,λi hi=>absurd hi (by omega)⟩
     case round=>
      obtain⟨k,hk,rfl,hb,F,aa⟩:=hrel;have am:w.heap.size<wr.heap.size:=(AB F.O).1;have e0:=AJ F.O 0 rfl;have e1:=AJ F.O 1 rfl;have e2:=AJ F.O 2 rfl;have e3:=AJ F.O 3 rfl
      by_cases ah:k<B.ah.length
      ·have ak:B.ah≠[]:=by intro h;rw[h]at ah;simp at ah
       obtain⟨b,off,ea,aA,af⟩:=hB.2.1 ak;subst ea;obtain⟨s,J⟩:∃s,B.ah[k]?=some s:=⟨B.ah[k],by simp[ah]⟩
       skip
       obtain⟨x0,x1,x2,x3,x4,x5,x6⟩:=((af k s J).below hb aA).grown;have g0:=Aq F.O 0 rfl;have g1:=Aq F.O 1 rfl;have g2:=Aq F.O 2 rfl;have g3:=Aq F.O 3 rfl;have ax:=hB.below hb;cases al:cpB B s
       ·have au:Hid (A5 B k=false):=by unfold Hid A5;rw[J];simp[al]
        clear J af ak;go_wp2;refine ji (by kernel_rfl) (by kernel_rfl) ?_
        repeat (first|go_big_quiet_step (exact jh (CT B s a1 _ a3 c1 c2 c3 _ ⟨aE,aC,az⟩ (ax.grown _ _)))|quiet_step (exact jh (CT B s a1 _ a3 c1 c2 c3 _ ⟨aE,aC,az⟩ (ax.grown _ _))))
        refine jk ?_;intro w2 Z;obtain⟨⟨dq,av⟩,H⟩:=Z;have M:Below wr.heap.size wr w2:=by rw[H];exact jj _ _ _
        clear H;go_wp2;go_ret;exact⟨AR (by simp[Ag,Am ah au.O]),hb.trans (M.mono hb.size)⟩
       by_cases aw:k=0
       ·have ag:Hid (A5 B k=true):=by unfold Hid A5;rw[J];simp[al,aw]
        have hz:decide (0<k)=false:=by simp;omega
        clear J af ak aw;go_wp2;refine ji (by kernel_rfl) (by kernel_rfl) ?_
        repeat (first|go_big_quiet_step (exact jh (CT B s a1 _ a3 c1 c2 c3 _ ⟨aE,aC,az⟩ (ax.grown _ _)))|quiet_step (exact jh (CT B s a1 _ a3 c1 c2 c3 _ ⟨aE,aC,az⟩ (ax.grown _ _))))
        refine jk ?_;intro w2 Z;obtain⟨⟨dq,av⟩,H⟩:=Z;have M:Below wr.heap.size wr w2:=by rw[H];exact jj _ _ _
        clear H;have Y:Hid _:=AK M F.O am;have ar:=hb.trans (M.mono hb.size);clear g0 g1 g2 g3 x0 x1 x2 x3 x4 x5 x6 e0 e1 e2 e3;go_wp2
        go_roundw
        case rel=>exact⟨k+1,by omega,by go_num,ar,Y,A2 aa.O ag.O⟩
        case measure=>simp[intOf];omega
       obtain⟨k',rfl⟩:∃k',k=k'+1:=⟨k - 1,by omega⟩;clear aw;obtain⟨p,ai⟩:∃p,B.ah[k']?=some p:=⟨B.ah[k']'(by omega),by rw[dj]⟩;obtain⟨y0,y1,y2,y3,y4,y5,y6⟩:=((af k' p ai).below hb aA).grown;cases ay:Ak p s
       ·have au:Hid (A5 B (k'+1)=false):=by unfold Hid A5;rw[J];simp[al,ai,ay]
        clear J af ak ai;go_wp2;refine ji (by kernel_rfl) (by kernel_rfl) ?_
        repeat (first|go_big_quiet_step (first|exact jh (CT B s a1 _ a3 c1 c2 c3 _ ⟨aE,aC,az⟩ (ax.grown _ _))|exact jh (FG p s _))|quiet_step (first|exact jh (CT B s a1 _ a3 c1 c2 c3 _ ⟨aE,aC,az⟩ (ax.grown _ _))|exact jh (FG p s _)))
        refine jk ?_;intro w2 Z;obtain⟨⟨dq,av⟩,H⟩:=Z;have M:Below wr.heap.size wr w2:=by rw[H];exact jj _ _ _
        clear H;go_wp2;go_ret;exact⟨AR (by simp[Ag,Am ah au.O]),hb.trans (M.mono hb.size)⟩
       ·have ag:Hid (A5 B (k'+1)=true):=by unfold Hid A5;rw[J];simp[al,ai,ay]
        clear J af ak ai;go_wp2;refine ji (by kernel_rfl) (by kernel_rfl) ?_
        repeat (first|go_big_quiet_step (first|exact jh (CT B s a1 _ a3 c1 c2 c3 _ ⟨aE,aC,az⟩ (ax.grown _ _))|exact jh (FG p s _))|quiet_step (first|exact jh (CT B s a1 _ a3 c1 c2 c3 _ ⟨aE,aC,az⟩ (ax.grown _ _))|exact jh (FG p s _)))
        refine jk ?_;intro w2 Z;obtain⟨⟨dq,av⟩,H⟩:=Z;have M:Below wr.heap.size wr w2:=by rw[H];exact jj _ _ _
        clear H;have Y:Hid _:=AK M F.O am;have ar:=hb.trans (M.mono hb.size);clear g0 g1 g2 g3 x0 x1 x2 x3 x4 x5 x6 y0 y1 y2 y3 y4 y5 y6 e0 e1 e2 e3;go_wp2
        go_roundw
        case rel=>exact⟨k'+1+1,by omega,by go_num,ar,Y,A2 aa.O ag.O⟩
        case measure=>simp[intOf];omega
      ·have aI:Hid (BI (A5 B) B.ah.length=true):=CH λi hi=>aa.O i (by omega)
       clear aa;go_wp2;go_ret;exact⟨AR (by rw[HV.O,aF.O,aG.O,aI.O];rfl),hb⟩
theorem FU(s:Svc)(w:World)(F:s.name.size<=maxLen):
  Calls Tryz.prog 125 #[.agg (qsV s)] w λe w'=>e=.returned (.bool (DB s.name))/\Below w.heap.size w w':=by
 go_enter Tryz.func125,Tryz.ntmps125
 go_wp2_with (first|(go_at_call 131;refine(Et _ _ F).mono ?_;rintro e w' ⟨rfl,rfl⟩))
 all_goals
  go_ret;exact⟨AR rfl,AN _ _⟩
theorem Fz(s:Svc)(w:World):
  Calls Tryz.prog 126 #[.agg (qsV s)] w λe w'=>e=.returned (.bool (Og s))/\Below w.heap.size w w':=by
 go_enter Tryz.func126,Tryz.ntmps126
 go_wp2_with (first|(go_at_call 91;refine(Ay _ _ _ _).mono ?_;rintro e w' ⟨rfl,rfl⟩))
 all_goals
  go_ret;exact⟨AR (by simp[Og, *]),AN _ _⟩
theorem GF(s:Svc)(w:World):
  Calls Tryz.prog 127 #[.agg (qsV s)] w λe w'=>e=.returned (.bool (GG s))/\Below w.heap.size w w':=by
 go_enter Tryz.func127,Tryz.ntmps127
 go_wp2_with (first|(go_at_call 91;refine(Ay _ _ _ _).mono ?_;rintro e w' ⟨rfl,rfl⟩))
 all_goals
  go_ret;exact⟨AR (by simp[GG, *]<;>(intro _;rfl)),AN _ _⟩
theorem F3(s:Svc)(w:World):
  Calls Tryz.prog 128 #[.agg (qsV s)] w λe w'=>e=.returned (.bool (FJ s))/\Below w.heap.size w w':=by
 go_enter Tryz.func128,Tryz.ntmps128
 go_wp2_with (first|(go_at_call 91;refine(Ay _ _ _ _).mono ?_;rintro e w' ⟨rfl,rfl⟩))
 all_goals
  go_ret;exact⟨AR (by simp[FJ, *]<;>(intro h;exfalso;omega)),AN _ _⟩
theorem EI(s:Svc)(w:World):
  Calls Tryz.prog 129 #[.agg (qsV s)] w λe w'=>e=.returned (.bool (GE s))/\Below w.heap.size w w':=by
 go_enter Tryz.func129,Tryz.ntmps129;go_wp2
 all_goals
  go_ret;exact⟨AR (by simp[GE, *]),AN _ _⟩
theorem IR(B:Bk)(a1 a2 a3:qO)(c1 c2 c3:Nat)(w:World):
  Calls Tryz.prog 69 #[.agg (qbV B a1 c1 a2 c2 a3 c3)] w λe w'=>e=.returned (.bool (inB B.aj 0 1000000))/\Below w.heap.size w w':=by
 go_enter Tryz.func69,Tryz.ntmps69
 go_wp2_with (go_at_call 91;refine(Ay _ _ _ _).mono ?_;rintro e w' ⟨rfl,rfl⟩)
 go_ret;exact⟨rfl,AN _ _⟩
theorem HQ(B:Bk)(a1 a2 a3:qO)(c1 c2 c3:Nat)(w:World)(J:B.aJ):
  Calls Tryz.prog 70 #[.agg (qbV B a1 c1 a2 c2 a3 c3)] w λe w'=>e=.returned (.bool (decide (B.af.length<=8)&&decide (B.ah.length<=200)&&decide (B.ak.length<=6)))/\Below w.heap.size w w':=by
 obtain⟨H,M,F⟩:=J;go_enter Tryz.func70,Tryz.ntmps70;go_wp2
 all_goals
  go_ret;exact⟨AR (by rw[gF];simp;try omega),AN _ _⟩
theorem CF(a b:Cp)(w:World):
  Calls Tryz.prog 132 #[.agg (qcV a),.agg (qcV b)] w λe w'=>e=.returned (.bool (Ak a b))/\Below w.heap.size w w':=by
 have F:Below w.heap.size w ((w.alloc (.cells (qcV a) 76)).alloc (.cells (qcV b) 76)):=((dI _ _).alloc (AG _) _).alloc (by simp) _;cases J:(a.aa.toList==b.aa.toList)
 ·go_enter Tryz.func132,Tryz.ntmps132
  go_wp2;go_ret;exact⟨AR (by simp[Ak,J]),F⟩
 ·have H:Hid (Op.bytesLess a.aa.toList b.aa.toList=false):=by
   unfold Hid;rw[eq_of_beq J];exact A4 _
  go_enter Tryz.func132,Tryz.ntmps132;go_wp2;go_ret;exact⟨AR (by simp[Ak,J,H.O]),F⟩
theorem BN(c:Cp)(s:Svc)(aj:Int)(w:World):
  Calls Tryz.prog 133 #[.agg (qcV c),.agg (qsV s),.int .i64 aj] w λe w'=>e=.returned (.bool (FP aj s c))/\Below w.heap.size w w':=by
 have F:Below w.heap.size w ((w.alloc (.cells (qcV c) 76)).alloc (.cells (qsV s) 34)):=((dI _ _).alloc (AG _) _).alloc (by simp) _;go_enter Tryz.func133,Tryz.ntmps133
 go_wp2_with (go_at_call 91;refine(Ay _ _ _ _).mono ?_;rintro e w' ⟨rfl,rfl⟩)
 all_goals
  go_ret;exact⟨AR (by simp[FP, *]),F⟩
def G4(s:Svc):Nat->Bool
 |0=>DB s.name
 |1=>Og s
 |2=>GG s
 |3=>FJ s
 |_=>GE s
theorem IG(s:Svc):BI (G4 s) 5=(DB s.name&&Og s&&GG s&&FJ s&&GE s):=by
 simp[BI,List.range,List.range.loop,G4,Bool.and_assoc]
def Pc(w:World)(b:Nat):Prop:=w.heap[b]?=some (.cells #[.func (.func 125) #[] #[],.func (.func 126) #[] #[],.func (.func 127) #[] #[],.func (.func 128) #[] #[],.func (.func 129) #[] #[]] 176 (0,0))
theorem EX(s:Svc)(b:Nat)(w:World)(hs:s.name.size<=maxLen)(hF:Pc w b):
  Calls Tryz.prog 130 #[.agg #[.string s.name,.int .i64 s.ag,.bool s.aH,.int .i64 s.ar,.int .i64 s.av,.int .i64 s.aG,.int .i64 s.aE,.int .i64 s.next,.int .i64 s.aM,.int .i64 s.aC,.int .i64 s.aK,.int .i64 s.load,.int .i64 s.ay],.slice (some ⟨b,0,none⟩) 5 5] w λe w'=>e=.returned (.bool (BI (G4 s) 5))/\Below w.heap.size w w':=by
 have aA:=AN w (.cells (qsV s) 34);have az:Hid _:=dm w (.cells (qsV s) 34);have ay:b<w.heap.size:=(AB hF).1;have HF:Hid (Pc w b):=hF;clear hF;go_enter Tryz.func130,Tryz.ntmps130;go_wp2
 go_loopw [9] (λiv wr=>∃k:Nat,k<=5/\iv=.int .i64 k/\Below w.heap.size w wr/\Hid (qBl wr (w.heap.size) (qsV s) 34)/\Hid (∀i,i<k->G4 s i=true)) (λi _=>5 - (intOf i).toNat)
 case atStart=>exact⟨0,by omega,rfl,aA,az,λi hi=>absurd hi (by omega)⟩
 case round=>
  obtain⟨k,hk,rfl,hb,F,aa⟩:=hrel;have ag:w.heap.size<wr.heap.size:=(AB F.O).1;have an:Hid _:=AK hb HF.O ay;have x0:=AJ F.O 0 rfl;have x1:=AJ F.O 1 rfl;have x2:=AJ F.O 2 rfl;have x3:=AJ F.O 3 rfl;have x4:=AJ F.O 4 rfl;have x5:=AJ F.O 5 rfl;have x6:=AJ F.O 6 rfl;have x7:=AJ F.O 7 rfl;have x8:=AJ F.O 8 rfl;have x9:=AJ F.O 9 rfl;have W:=AJ F.O 10 rfl;have Y:=AJ F.O 11 rfl;have Z:=AJ F.O 12 rfl
  by_cases h0:k=0
  ·subst h0
   have f0:=AJ an.O 0 rfl;cases hv:DB s.name
   ·have HV:Hid ((G4 s) 0=false):=hv
    go_wp2_with fail
    refine(FU s _ hs).mono ?_;rintro e w1 ⟨rfl,H⟩;have M:=hb.trans (H.mono hb.size);rw[hv];clear x0 x1 x2 x3 x4 x5 x6 x7 x8 x9 W Y Z f0;go_wp2;go_ret;exact⟨AR (Am (by omega) HV.O).symm,M⟩
   ·have HV:Hid ((G4 s) 0=true):=hv
    go_wp2_with fail
    refine(FU s _ hs).mono ?_;rintro e w1 ⟨rfl,H⟩;have M:=hb.trans (H.mono hb.size);have J:Hid _:=AK H F.O ag;rw[hv];clear x0 x1 x2 x3 x4 x5 x6 x7 x8 x9 W Y Z f0;go_wp2
    go_roundw
    case rel=>exact⟨0+1,by omega,by go_num,M,J,A2 aa.O HV.O⟩
    case measure=>simp[intOf]
  by_cases h1:k=1
  ·subst h1
   have f1:=AJ an.O 1 rfl;cases hv:Og s
   ·have HV:Hid ((G4 s) 1=false):=hv
    go_wp2_with fail
    refine(Fz s _).mono ?_;rintro e w1 ⟨rfl,H⟩;have M:=hb.trans (H.mono hb.size);rw[hv];clear x0 x1 x2 x3 x4 x5 x6 x7 x8 x9 W Y Z f1;go_wp2;go_ret;exact⟨AR (Am (by omega) HV.O).symm,M⟩
   ·have HV:Hid ((G4 s) 1=true):=hv
    go_wp2_with fail
    refine(Fz s _).mono ?_;rintro e w1 ⟨rfl,H⟩;have M:=hb.trans (H.mono hb.size);have J:Hid _:=AK H F.O ag;rw[hv];clear x0 x1 x2 x3 x4 x5 x6 x7 x8 x9 W Y Z f1;go_wp2
    go_roundw
    case rel=>exact⟨1+1,by omega,by go_num,M,J,A2 aa.O HV.O⟩
    case measure=>simp[intOf]
  by_cases h2:k=2
  ·subst h2
   have f2:=AJ an.O 2 rfl;cases hv:GG s
   ·have HV:Hid ((G4 s) 2=false):=hv
    go_wp2_with fail
    refine(GF s _).mono ?_;rintro e w1 ⟨rfl,H⟩;have M:=hb.trans (H.mono hb.size);rw[hv];clear x0 x1 x2 x3 x4 x5 x6 x7 x8 x9 W Y Z f2;go_wp2;go_ret;exact⟨AR (Am (by omega) HV.O).symm,M⟩
   ·have HV:Hid ((G4 s) 2=true):=hv
    go_wp2_with fail
    refine(GF s _).mono ?_;rintro e w1 ⟨rfl,H⟩;have M:=hb.trans (H.mono hb.size);have J:Hid _:=AK H F.O ag;rw[hv];clear x0 x1 x2 x3 x4 x5 x6 x7 x8 x9 W Y Z f2;go_wp2
    go_roundw
    case rel=>exact⟨2+1,by omega,by go_num,M,J,A2 aa.O HV.O⟩
    case measure=>simp[intOf]
  by_cases h3:k=3
  ·subst h3
   have f3:=AJ an.O 3 rfl;cases hv:FJ s
   ·have HV:Hid ((G4 s) 3=false):=hv
    go_wp2_with fail
    refine(F3 s _).mono ?_;rintro e w1 ⟨rfl,H⟩;have M:=hb.trans (H.mono hb.size);rw[hv];clear x0 x1 x2 x3 x4 x5 x6 x7 x8 x9 W Y Z f3;go_wp2;go_ret;exact⟨AR (Am (by omega) HV.O).symm,M⟩
   ·have HV:Hid ((G4 s) 3=true):=hv
    go_wp2_with fail
    refine(F3 s _).mono ?_;rintro e w1 ⟨rfl,H⟩;have M:=hb.trans (H.mono hb.size);have J:Hid _:=AK H F.O ag;rw[hv];clear x0 x1 x2 x3 x4 x5 x6 x7 x8 x9 W Y Z f3;go_wp2
    go_roundw
    case rel=>exact⟨3+1,by omega,by go_num,M,J,A2 aa.O HV.O⟩
    case measure=>simp[intOf]
  by_cases h4:k=4
  ·subst h4
   have f4:=AJ an.O 4 rfl;cases hv:GE s
   ·have HV:Hid ((G4 s) 4=false):=hv
    go_wp2_with fail
    refine(EI s _).mono ?_;rintro e w1 ⟨rfl,H⟩;have M:=hb.trans (H.mono hb.size);rw[hv];clear x0 x1 x2 x3 x4 x5 x6 x7 x8 x9 W Y Z f4;go_wp2;go_ret;exact⟨AR (Am (by omega) HV.O).symm,M⟩
   ·have HV:Hid ((G4 s) 4=true):=hv
    go_wp2_with fail
    refine(EI s _).mono ?_;rintro e w1 ⟨rfl,H⟩;have M:=hb.trans (H.mono hb.size);have J:Hid _:=AK H F.O ag;rw[hv];clear x0 x1 x2 x3 x4 x5 x6 x7 x8 x9 W Y Z f4;go_wp2
    go_roundw
    case rel=>exact⟨4+1,by omega,by go_num,M,J,A2 aa.O HV.O⟩
    case measure=>simp[intOf]
  ·have h5:k=5:=by omega
   subst h5;clear x0 x1 x2 x3 x4 x5 x6 x7 x8 x9 W Y Z;go_wp2;go_ret;exact⟨AR (CH aa.O).symm,hb⟩
theorem FT(B:Bk)(a1 a2 a3:qO)(c1 c2 c3:Nat)(w:World)(hS:B.aJ)(hZ:B.aD)(hB:BkAt w a1 a2 a3 B):
  Calls Tryz.prog 71 #[.agg #[.int .i64 B.aj,.slice a1 B.af.length c1,.slice a2 B.ah.length c2,.slice a3 B.ak.length c3]] w λe w'=>e=.returned (.bool (BI (A7 B) B.af.length))/\Below w.heap.size w w':=by
 obtain⟨cm,co,b4⟩:=hS;obtain⟨t0,t1,t2⟩:=B1 w (.cells (qbV B a1 c1 a2 c2 a3 c3) 28) (.cells #[.func (.func 125) #[] #[],.func (.func 126) #[] #[],.func (.func 127) #[] #[],.func (.func 128) #[] #[],.func (.func 129) #[] #[]] 176);have T0:Hid _:=t0;have T1:Hid _:=t1;clear t0 t1 t2;go_enter Tryz.func71,Tryz.ntmps71;go_wp2
 go_loopw [10] (λiv wr=>∃k:Nat,k<=B.af.length/\iv=.int .i64 k/\Below w.heap.size w wr/\Hid (qBl wr (w.heap.size) (qbV B a1 c1 a2 c2 a3 c3) 28)/\Hid (Pc wr (w.heap.size+1))/\Hid (∀i,i<k->A7 B i=true)) (λi _=>B.af.length - (intOf i).toNat)
 case atStart=>exact⟨0,by omega,rfl,((dI _ _).alloc (AG _) _).alloc (by simp) _,T0,T1,λi hi=>absurd hi (by omega)⟩
 case round=>
  obtain⟨k,hk,rfl,hb,a9,bb,ax⟩:=hrel;have bf:w.heap.size+1<wr.heap.size:=(AB bb.O).1;have bM:w.heap.size<wr.heap.size:=by omega
  by_cases ah:k<B.af.length
  ·have aT:B.af≠[]:=by intro h;rw[h]at ah;simp at ah
   obtain⟨b,off,ea,a8,aA⟩:=hB.1 aT;subst ea;obtain⟨s,az⟩:∃s,B.af[k]?=some s:=⟨B.af[k],by simp[ah]⟩;have al:=hZ.2.2.2.1 s (AE az);have ak:Hid _:=az;have a6:=(aA k s az).below hb a8;unfold SvcAt at a6;obtain⟨x0,x1,x2,x3,x4,x5,x6,x7,x8,x9,aW,aS,aL⟩:=a6;have an:Below w.heap.size w (wr.alloc (.cells (qsV s) 34)):=hb.alloc hb.size _;have ag:Hid ((wr.alloc (.cells (qsV s) 34)).heap.size=wr.heap.size+1):=by show(wr.heap.push _).size=_;simp
   have aK:Hid _:=dm wr (.cells (qsV s) 34);have a4:=AN wr (.cells (qsV s) 34);have ai:Hid _:=AK a4 a9.O (by omega);have aE:Hid (Pc (wr.alloc (.cells (qsV s) 34)) (w.heap.size+1)):=AK a4 bb.O bf;clear az
   by_cases aI:k=0
   ·have bB:Hid (k=0):=aI
    have hz:decide (0<k)=false:=by simp;omega
    clear aI aA aT;go_wp2;clear x0 x1 x2 x3 x4 x5 x6 x7 x8 x9 aW aS aL;refine ji (by kernel_rfl) (by kernel_rfl) ?_
    repeat (first|go_big_quiet_step (fail)|quiet_step (fail))
    refine jk ?_;intro w2 aq;obtain⟨⟨dq,a7⟩,M⟩:=aq;have J:Below (wr.alloc (.cells (qsV s) 34)).heap.size (wr.alloc (.cells (qsV s) 34)) w2:=by rw[M];exact jj _ _ _
    clear M;have H:=an.trans (J.mono an.size);have F:Hid _:=AK J aK.O (by rw[ag.O];omega);have af:Hid _:=AK J ai.O (by rw[ag.O];omega);have Z:Hid (Pc w2 (w.heap.size+1)):=AK J aE.O (by rw[ag.O];omega);have bl:wr.heap.size<w2.heap.size:=by have:=J.size;rw[ag.O]at this;omega
    have r0:=AJ F.O 0 rfl;have r1:=AJ F.O 1 rfl;have r2:=AJ F.O 2 rfl;have r3:=AJ F.O 3 rfl;have r4:=AJ F.O 4 rfl;have r5:=AJ F.O 5 rfl;have r6:=AJ F.O 6 rfl;have r7:=AJ F.O 7 rfl;have r8:=AJ F.O 8 rfl;have r9:=AJ F.O 9 rfl;have r10:=AJ F.O 10 rfl;have bR:=AJ F.O 11 rfl;have bI:=AJ F.O 12 rfl;have q0:=AJ af.O 0 rfl;cases W:inB s.ag 1 B.aj
    ·have aa:Hid (A7 B k=false):=by unfold Hid A7;rw[ak.O];simp[Dl,W]
     go_wp2_with (go_at_call 91;refine(Ay _ _ _ _).mono ?_;rintro e w' ⟨rfl,rfl⟩)
     go_ret;exact⟨AR (Am ah aa.O).symm,H⟩
    cases aw:BI (G4 s) 5
    ·have aa:Hid (A7 B k=false):=by unfold Hid A7;rw[ak.O];simp[Dl,W,<-IG,aw]
     go_wp2_with (first|(go_at_call 91;refine(Ay _ _ _ _).mono ?_;rintro e w' ⟨rfl,rfl⟩)|(go_at_call 130;refine(EX s (w.heap.size+1) _ al Z.O).mono ?_;rintro e w3 ⟨rfl,Y⟩))
     go_ret;exact⟨AR (Am ah aa.O).symm,H.trans (Y.mono H.size)⟩
    have au:Hid (A7 B k=true):=by unfold Hid A7;rw[ak.O];simp[Dl,W,<-IG,aw,bB.O]
    go_wp2_with (first|(go_at_call 91;refine(Ay _ _ _ _).mono ?_;rintro e w' ⟨rfl,rfl⟩)|(go_at_call 130;refine(EX s (w.heap.size+1) _ al Z.O).mono ?_;rintro e w3 ⟨rfl,Y⟩))
    have aM:=H.trans (Y.mono H.size);have av:Hid _:=AK Y af.O (by omega);have ar:Hid (Pc w3 (w.heap.size+1)):=AK Y Z.O (by omega)
    go_roundw
    case rel=>exact⟨k+1,by omega,by go_num,aM,av,ar,A2 ax.O au.O⟩
    case measure=>simp[intOf];omega
   obtain⟨k',rfl⟩:∃k',k=k'+1:=⟨k - 1,by omega⟩;clear aI;obtain⟨p,aH⟩:∃p,B.af[k']?=some p:=⟨B.af[k']'(by omega),by rw[dj]⟩;have a5:Hid _:=aH;obtain⟨y0,y1,y2,y3,y4,y5,y6,y7,y8,y9,br,bU,bX⟩:=((aA k' p aH).below (hb.trans (a4.mono hb.size)) a8).grown;have bo:=Aq aK.O 0 rfl;have bt:=Aq ai.O 1 rfl;have aG:=CW s.name.toList p.name.toList;have HT:Hid _:=aG;clear aG aH aA aT;cases am:Op.bytesLess p.name.toList s.name.toList
   ·have aa:Hid (A7 B (k'+1)=false):=by unfold Hid A7;rw[ak.O];simp[a5.O,am]
    have aF:(Op.bytesLess s.name.toList p.name.toList||s.name.toList==p.name.toList)=true:=by rw[HT.O,am];rfl
    clear am;go_wp2;clear x0 x1 x2 x3 x4 x5 x6 x7 x8 x9 aW aS aL;refine ji (by kernel_rfl) (by kernel_rfl) ?_
    repeat (first|go_big_quiet_step (fail)|quiet_step (fail))
    refine jk ?_;intro w2 aq;obtain⟨⟨dq,a7⟩,M⟩:=aq;have J:Below (wr.alloc (.cells (qsV s) 34)).heap.size (wr.alloc (.cells (qsV s) 34)) w2:=by rw[M];exact jj _ _ _
    clear M;go_wp2;go_ret;exact⟨AR (Am ah aa.O).symm,an.trans (J.mono an.size)⟩
   ·have aF:(Op.bytesLess s.name.toList p.name.toList||s.name.toList==p.name.toList)=false:=by rw[HT.O,am];rfl
    have bm:Hid _:=am;clear am;go_wp2;clear x0 x1 x2 x3 x4 x5 x6 x7 x8 x9 aW aS aL;refine ji (by kernel_rfl) (by kernel_rfl) ?_
    repeat (first|go_big_quiet_step (fail)|quiet_step (fail))
    refine jk ?_;intro w2 aq;obtain⟨⟨dq,a7⟩,M⟩:=aq;have J:Below (wr.alloc (.cells (qsV s) 34)).heap.size (wr.alloc (.cells (qsV s) 34)) w2:=by rw[M];exact jj _ _ _
    clear M;clear bo bt aF y0 y1 y2 y3 y4 y5 y6 y7 y8 y9 br bU bX;have H:=an.trans (J.mono an.size);have F:Hid _:=AK J aK.O (by rw[ag.O];omega);have af:Hid _:=AK J ai.O (by rw[ag.O];omega);have Z:Hid (Pc w2 (w.heap.size+1)):=AK J aE.O (by rw[ag.O];omega);have bl:wr.heap.size<w2.heap.size:=by have:=J.size;rw[ag.O]at this;omega
    have r0:=AJ F.O 0 rfl;have r1:=AJ F.O 1 rfl;have r2:=AJ F.O 2 rfl;have r3:=AJ F.O 3 rfl;have r4:=AJ F.O 4 rfl;have r5:=AJ F.O 5 rfl;have r6:=AJ F.O 6 rfl;have r7:=AJ F.O 7 rfl;have r8:=AJ F.O 8 rfl;have r9:=AJ F.O 9 rfl;have r10:=AJ F.O 10 rfl;have bR:=AJ F.O 11 rfl;have bI:=AJ F.O 12 rfl;have q0:=AJ af.O 0 rfl;cases W:inB s.ag 1 B.aj
    ·have aa:Hid (A7 B (k'+1)=false):=by unfold Hid A7;rw[ak.O];simp[Dl,W]
     go_wp2_with (go_at_call 91;refine(Ay _ _ _ _).mono ?_;rintro e w' ⟨rfl,rfl⟩)
     go_ret;exact⟨AR (Am ah aa.O).symm,H⟩
    cases aw:BI (G4 s) 5
    ·have aa:Hid (A7 B (k'+1)=false):=by unfold Hid A7;rw[ak.O];simp[Dl,W,<-IG,aw]
     go_wp2_with (first|(go_at_call 91;refine(Ay _ _ _ _).mono ?_;rintro e w' ⟨rfl,rfl⟩)|(go_at_call 130;refine(EX s (w.heap.size+1) _ al Z.O).mono ?_;rintro e w3 ⟨rfl,Y⟩))
     go_ret;exact⟨AR (Am ah aa.O).symm,H.trans (Y.mono H.size)⟩
    have au:Hid (A7 B (k'+1)=true):=by unfold Hid A7;rw[ak.O];simp[Dl,W,<-IG,aw,a5.O,bm.O]
    go_wp2_with (first|(go_at_call 91;refine(Ay _ _ _ _).mono ?_;rintro e w' ⟨rfl,rfl⟩)|(go_at_call 130;refine(EX s (w.heap.size+1) _ al Z.O).mono ?_;rintro e w3 ⟨rfl,Y⟩))
    have aM:=H.trans (Y.mono H.size);have av:Hid _:=AK Y af.O (by omega);have ar:Hid (Pc w3 (w.heap.size+1)):=AK Y Z.O (by omega)
    go_roundw
    case rel=>exact⟨(k'+1)+1,by omega,by go_num,aM,av,ar,A2 ax.O au.O⟩
    case measure=>simp[intOf];omega
  ·go_wp2
   go_ret;exact⟨AR (CH λi hi=>ax.O i (by omega)).symm,hb⟩
theorem GX(B:Bk)(a1 a2 a3:qO)(c1 c2 c3:Nat)(w:World)(hS:B.aJ)(hZ:B.aD)(hB:BkAt w a1 a2 a3 B):
  Calls Tryz.prog 72 #[.agg #[.int .i64 B.aj,.slice a1 B.af.length c1,.slice a2 B.ah.length c2,.slice a3 B.ak.length c3]] w λe w'=>e=.returned (.bool (BI (B8 B) B.ak.length))/\Below w.heap.size w w':=by
 obtain⟨bm,bo,bf⟩:=hS;have T0:Hid _:=dm w (.cells (qbV B a1 c1 a2 c2 a3 c3) 28);go_enter Tryz.func72,Tryz.ntmps72;go_wp2
 go_loopw [8] (λiv wr=>∃k:Nat,k<=B.ak.length/\iv=.int .i64 k/\Below w.heap.size w wr/\Hid (qBl wr (w.heap.size) (qbV B a1 c1 a2 c2 a3 c3) 28)/\Hid (∀i,i<k->B8 B i=true)) (λi _=>B.ak.length - (intOf i).toNat)
 case atStart=>exact⟨0,by omega,rfl,AN _ _,T0,λi hi=>absurd hi (by omega)⟩
 case round=>
  obtain⟨k,hk,rfl,hb,ax,am⟩:=hrel;have bb:w.heap.size<wr.heap.size:=(AB ax.O).1
  by_cases af:k<B.ak.length
  ·have aF:B.ak≠[]:=by intro h;rw[h]at af;simp at af
   obtain⟨b,off,ea,aK,ar⟩:=hB.2.2 aF;subst ea;obtain⟨s,aq⟩:∃s,B.ak[k]?=some s:=⟨B.ak[k],by simp[af]⟩;have Y:=hZ.2.2.2.2.2 s (AE aq);have an:Hid _:=aq;have aH:=(ar k s aq).below hb aK;unfold BtAt at aH;obtain⟨x0,x1⟩:=aH;have ag:Below w.heap.size w (wr.alloc (.cells #[.string s.name,.bool s.aS] 90)):=hb.alloc hb.size _;have Z:Hid ((wr.alloc (.cells #[.string s.name,.bool s.aS] 90)).heap.size=wr.heap.size+1):=by show(wr.heap.push _).size=_;simp
   have aA:Hid _:=dm wr (.cells #[.string s.name,.bool s.aS] 90);have aL:=AN wr (.cells #[.string s.name,.bool s.aS] 90);have W:Hid _:=AK aL ax.O (by omega);clear aq
   by_cases az:k=0
   ·have aW:Hid (k=0):=az
    have hz:decide (0<k)=false:=by simp;omega
    clear az ar aF;go_wp2;clear x0 x1;refine ji (by kernel_rfl) (by kernel_rfl) ?_
    repeat (first|go_big_quiet_step (fail)|quiet_step (fail))
    refine jk ?_;intro w2 ah;obtain⟨⟨dq,aI⟩,F⟩:=ah;have H:Below (wr.alloc (.cells #[.string s.name,.bool s.aS] 90)).heap.size (wr.alloc (.cells #[.string s.name,.bool s.aS] 90)) w2:=by rw[F];exact jj _ _ _
    clear F;have M:=ag.trans (H.mono ag.size);have aC:Hid _:=AK H aA.O (by rw[Z.O];omega);have al:Hid _:=AK H W.O (by rw[Z.O];omega);have aM:wr.heap.size<w2.heap.size:=by have:=H.size;rw[Z.O]at this;omega
    have r0:=AJ aC.O 0 rfl;cases J:DB s.name
    ·have ak:Hid (B8 B k=false):=by unfold Hid B8;rw[an.O];simp[J]
     go_wp2_with (go_at_call 131;refine(Et _ _ Y).mono ?_;rintro e w' ⟨rfl,rfl⟩)
     go_ret;exact⟨AR (Am af ak.O).symm,M⟩
    have ai:Hid (B8 B k=true):=by unfold Hid B8;rw[an.O];simp[J,aW.O]
    go_wp2_with (go_at_call 131;refine(Et _ _ Y).mono ?_;rintro e w' ⟨rfl,rfl⟩)
    go_roundw
    case rel=>exact⟨k+1,by omega,by go_num,M,al,A2 am.O ai.O⟩
    case measure=>simp[intOf];omega
   obtain⟨k',rfl⟩:∃k',k=k'+1:=⟨k - 1,by omega⟩;clear az;obtain⟨p,ay⟩:∃p,B.ak[k']?=some p:=⟨B.ak[k']'(by omega),by rw[dj]⟩;have aG:Hid _:=ay;obtain⟨y0,y1⟩:=((ar k' p ay).below (hb.trans (aL.mono hb.size)) aK).grown;have aT:=Aq aA.O 0 rfl;have a6:=Aq W.O 3 rfl;have aw:=CW s.name.toList p.name.toList;have HT:Hid _:=aw;clear aw ay ar aF;cases aa:Op.bytesLess p.name.toList s.name.toList
   ·have ak:Hid (B8 B (k'+1)=false):=by unfold Hid B8;rw[an.O];simp[aG.O,aa]
    have av:(Op.bytesLess s.name.toList p.name.toList||s.name.toList==p.name.toList)=true:=by rw[HT.O,aa];rfl
    clear aa;go_wp2;clear x0 x1;refine ji (by kernel_rfl) (by kernel_rfl) ?_
    repeat (first|go_big_quiet_step (fail)|quiet_step (fail))
    refine jk ?_;intro w2 ah;obtain⟨⟨dq,aI⟩,F⟩:=ah;have H:Below (wr.alloc (.cells #[.string s.name,.bool s.aS] 90)).heap.size (wr.alloc (.cells #[.string s.name,.bool s.aS] 90)) w2:=by rw[F];exact jj _ _ _
    clear F;go_wp2;go_ret;exact⟨AR (Am af ak.O).symm,ag.trans (H.mono ag.size)⟩
   ·have av:(Op.bytesLess s.name.toList p.name.toList||s.name.toList==p.name.toList)=false:=by rw[HT.O,aa];rfl
    have aS:Hid _:=aa;clear aa;go_wp2;clear x0 x1;refine ji (by kernel_rfl) (by kernel_rfl) ?_
    repeat (first|go_big_quiet_step (fail)|quiet_step (fail))
    refine jk ?_;intro w2 ah;obtain⟨⟨dq,aI⟩,F⟩:=ah;have H:Below (wr.alloc (.cells #[.string s.name,.bool s.aS] 90)).heap.size (wr.alloc (.cells #[.string s.name,.bool s.aS] 90)) w2:=by rw[F];exact jj _ _ _
    clear F;clear aT a6 av y0 y1;have M:=ag.trans (H.mono ag.size);have aC:Hid _:=AK H aA.O (by rw[Z.O];omega);have al:Hid _:=AK H W.O (by rw[Z.O];omega);have aM:wr.heap.size<w2.heap.size:=by have:=H.size;rw[Z.O]at this;omega
    have r0:=AJ aC.O 0 rfl;cases J:DB s.name
    ·have ak:Hid (B8 B (k'+1)=false):=by unfold Hid B8;rw[an.O];simp[J]
     go_wp2_with (go_at_call 131;refine(Et _ _ Y).mono ?_;rintro e w' ⟨rfl,rfl⟩)
     go_ret;exact⟨AR (Am af ak.O).symm,M⟩
    have ai:Hid (B8 B (k'+1)=true):=by unfold Hid B8;rw[an.O];simp[J,aG.O,aS.O]
    go_wp2_with (go_at_call 131;refine(Et _ _ Y).mono ?_;rintro e w' ⟨rfl,rfl⟩)
    go_roundw
    case rel=>exact⟨(k'+1)+1,by omega,by go_num,M,al,A2 am.O ai.O⟩
    case measure=>simp[intOf];omega
  ·go_wp2
   go_ret;exact⟨AR (CH λi hi=>am.O i (by omega)).symm,hb⟩
end
end Go.Proofs.YtbceafpodamnfaaGreatDoor
