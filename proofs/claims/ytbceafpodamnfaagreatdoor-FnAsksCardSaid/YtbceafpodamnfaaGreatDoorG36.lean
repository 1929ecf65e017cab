import Derived.Test.YtbceafpodamnfaaGreatDoorG23
import Derived.Test.YtbceafpodamnfaaGreatDoorG32
import Derived.Test.YtbceafpodamnfaaGreatDoorG35
set_option linter.all false
set_option maxHeartbeats 16000000
set_option maxRecDepth 100000
namespace Go.Proofs.YtbceafpodamnfaaGreatDoor
section
open Go.RowKit Go.Sort
open Go.Value renaming int->In,slice->Sl,string->Sg,bool->Bo,pointer->Po
open Go.IntKind renaming i64->i6
def M4(s:Svc)(l:List Sn):Option Ac:=if 0<l.length then some {a0 s with aB:=FF l} else none
theorem Om(s:Svc)(N:Cnt)(dr:Int)(H:qO)(O J:Nat)(l:List Sn)(lo:Nat)(al:qO)(cl:Nat)(w:World)(W:l.length<=1048576)(hL:OwnSn lo w al cl l):
  Calls Tryz.prog 175 #[.agg (qhV s N dr H O J),Sl al l.length cl] w λe w'=>FH w.heap.size w' e (M4 s l)/\Below w.heap.size w w':=by
 refine(RY s N dr H O J l lo al cl w W hL).mono ?_;rintro e w' ⟨F,ce,rfl,z,hb⟩;have M:(FF l).length=l.length:=by simp[FF]
 refine⟨⟨{a0 s with aB:=FF l},F,ce,?_,?_,?_⟩,hb⟩
 ·show _=Ending.returned (.tuple #[.agg #[Sg s.name,In i6 s.ag,In i6 0,In i6 0,In i6 0,Bo false,.slice F (FF l).length ce,Bo false],.bool (M4 s l).isSome])
  rw[M]
  by_cases h:0<l.length
  ·simp[M4,h]
  ·simp[M4,h]
 ·show Hid (w'.ownsRow w.heap.size _ 2 (.slice F (FF l).length ce) (FF l).length (D7 (FF l)))
  rw[M];exact z
 ·intro Y h
  unfold M4 at h;split at h
  ·exact dj h
  ·cases h
def C6(s:Svc)(N:Cnt)(dr:Int)(l:List Sn):Option Ac:=
 if s.aH=true then none
 else if N.aE<s.au then some {a0 s with ax:=s.au - N.aE}
 else if N.aE=s.au\/((0<N.aO\/0<dr)/\N.aE<=s.au+s.aG) then none
 else Bn s N.ready l
theorem Iw(s:Svc)(N:Cnt)(dr:Int)(l:List Sn)(h:s.aH=true):C6 s N dr l=none:=by unfold C6;rw[dv h]
theorem Pq(s:Svc)(N:Cnt)(dr:Int)(l:List Sn)(h:s.aH=false)(z:N.aE<s.au):C6 s N dr l=some {a0 s with ax:=s.au - N.aE}:=by unfold C6;rw[dk (by simp[h]),dv z]
theorem Eu(s:Svc)(N:Cnt)(dr:Int)(l:List Sn)(h:s.aH=false)(F:s.au<=N.aE)(z:N.aE=s.au\/((0<N.aO\/0<dr)/\N.aE<=s.au+s.aG)):C6 s N dr l=none:=by unfold C6;rw[dk (by simp[h]),dk qo,dv z]
theorem Gt(s:Svc)(N:Cnt)(dr:Int)(l:List Sn)(h:s.aH=false)(F:s.au<=N.aE)(z:¬(N.aE=s.au\/((0<N.aO\/0<dr)/\N.aE<=s.au+s.aG))):C6 s N dr l=Bn s N.ready l:=by unfold C6;rw[dk (by simp[h]),dk qo,dk z]
theorem Rl(s:Svc)(N:Cnt)(dr:Int)(l:List Sn)(lo:Nat)(al:qO)(cl:Nat)(w:World)(hl:l.length<=1048576)(aB:DR s)(b0:0<=N.aE)(b2:N.aE<=1048576)(bx:0<=N.ready)(bz:N.ready<=1048576)(hL:OwnSn lo w al cl l):
  Calls Tryz.prog 94 #[.agg (qhV s N dr al l.length cl)] w λe w'=>FH w.heap.size w' e (C6 s N dr l)/\Below w.heap.size w w':=by
 have HL:Hid (OwnSn lo w al cl l):=hL;have b8:=aB.ba;have b9:=aB.bd;have b5:=aB.bm;have b6:=aB.bn;have bo:Hid (DR s):=aB;clear hL aB;obtain⟨W0,bq,t0,t1,bb,bd,aN⟩:=DH w (.cells (qhV s N dr al l.length cl) 145) (.cells qzA 45);have T0:Hid _:=t0;have T1:Hid _:=t1;clear t0 t1;go_enter Tryz.func94,Tryz.ntmps94
 go_upto_region 1 with fail
 clear bq;have ba:w.heap.size<W0.heap.size:=qo
 obtain⟨z0,z1,z2,z3,z4,z5,z6,z7⟩:=qc8 T0.ab;have z8:=AJ T0.ab 8;have z9:=AJ T0.ab 9;have bB:=AJ T0.ab 10;have bC:=AJ T0.ab 11;have bD:=AJ T0.ab 12;have bE:=AJ T0.ab 13
 go_cut [4,5] (λva vb wx=>∃w1:World,va=Po (some ⟨W0.heap.size,0,none⟩)/\vb=In i6 N.aE/\(W0.alloc (.cells (qsV s) 34)).drew=w1/\w1=wx)
 case first=>
  go_region
  all_goals
   go_wp2_with fail
   go_meet;exact⟨_,rfl,rfl,rfl,rfl⟩
 obtain⟨w1,rfl,rfl,aF,rfl⟩:=hcut;clear z0 z1 z2 z3 z4 z5 z6 z7 z8 z9 bB bC bD bE;have V1:Hid (qBl w1 (W0.heap.size) (qsV s) 34):=by unfold Hid;rw[<-aF];exact dm W0 _
 have az:Below W0.heap.size W0 w1:=by rw[<-aF];exact⟨rfl,rfl,rfl,by show W0.heap.size<=(W0.heap.push _).size;simp,λk hk=>gt W0 _ hk⟩
 have S1:Hid _:=AK az T0.ab;have R1:Hid _:=AK az T1.ab;have z:=aN.trans (az.mono aN.size);have bw:W0.heap.size<w1.heap.size:=(AB V1.ab).1;obtain⟨p,aQ,b7⟩:∃p,W0.heap.size=p/\w.heap.size+1+1<=p:=⟨_,rfl,bb⟩;rw[aQ]at V1 bw;rw[aQ];clear aF az T0 T1 aN aQ bb bd ba W0;have v4:=AJ V1.ab 4;have v6:=AJ V1.ab 6;have aJ:=AJ V1.ab 2;rcases gc s.aH with aa|aa
 ·have Z:Hid (s.aH=true):=aa
  have v2:w1.cell? ⟨p,2,none⟩=some (.bool true):=by rw[<-aa];exact aJ
  clear aa aJ
  go_wp2_with (first
   |(refine qAM R1.ab AV ?_;intro wf M H;have RF:Hid (qBl wf ((w.heap.size+1)) qzA 45):=M;have BF:=z.trans (H.below.mono qo);obtain⟨p0,p1,p2,p3,p4,p5,p6,p7⟩:=qc8 RF.ab;clear M H))
  refine dF (v:=.tuple #[.agg qzA,Bo false]) (by simp[results,Tryz.results94,go_sem,p0,p1,p2,p3,p4,p5,p6,p7]) rfl ⟨by rw[Iw s N dr l Z.ab];exact C7 _ _,BF⟩
 have Z:Hid (s.aH=false):=aa;have v2:w1.cell? ⟨p,2,none⟩=some (.bool false):=by rw[<-aa];exact aJ
 clear aa aJ
 by_cases bv:N.aE<s.au
 ·go_wp2_with (first
   |(refine dB rfl 145 (.tmp 1) rfl w.heap.size rfl 145 (qhV s N dr al l.length cl) (0,0) _ S1.ab Tryz.underlying145 rfl Ag ?_))
  refine(LO s N dr al l.length cl (s.au - N.aE) _).mono ?_;rintro e w3 ⟨rfl,F⟩;have aG:=z.size;have aS:=F.size;have R3:Hid _:=AK F R1.ab;have Y:=z.trans (F.mono z.size);clear R1 S1 V1 F z v2 v4 v6
  go_wp2_with (first
   |(refine qAM R3.ab AV ?_;intro wf M H;have RF:Hid (qBl wf ((w.heap.size+1)) #[Sg s.name,In i6 s.ag,In i6 (s.au - N.aE),In i6 0,In i6 0,Bo false,Sl none 0 0,Bo false] 45):=M;have BF:=Y.trans (H.below.mono qo);obtain⟨p0,p1,p2,p3,p4,p5,p6,p7⟩:=qc8 RF.ab;clear M H))
  refine dF (v:=.tuple #[.agg #[Sg s.name,In i6 s.ag,In i6 (s.au - N.aE),In i6 0,In i6 0,Bo false,Sl none 0 0,Bo false],Bo true]) (by simp[results,Tryz.results94,go_sem,p0,p1,p2,p3,p4,p5,p6,p7]) rfl ⟨by rw[Pq s N dr l Z.ab bv];exact⟨{a0 s with ax:=s.au - N.aE},none,0,rfl,World.ownsRow_nil _ _ _ _,λA' h=>dj h⟩,BF⟩
 have HX:Hid (∀W:World,Below w1.heap.size w1 W->Calls Tryz.prog 172 #[.agg (qhV s N dr al l.length cl),Sl al l.length cl] W λe w'=>FH W.heap.size w' e (Bn s N.ready l)/\Below W.heap.size W w'):=λW h=>KE s N dr al l.length cl l lo al cl W hl bx bz bo.ab (Ai (Ai HL.ab z AG) h AG)
 obtain⟨o,HO⟩:∃o,Hid (Bn s N.ready l=o):=⟨_,rfl⟩;rw[HO.ab]at HX;have a4:=AJ S1.ab 15;have a5:=AJ S1.ab 18;have a6:=AJ S1.ab 19
 by_cases hO:0<N.aO
 ·by_cases J:N.aE=s.au
  ·have au:(N.aE==s.au)=true:=by simp[J]
   have aw:Hid (N.aE=s.au):=J;clear J
   go_wp2_with (first
    |(refine qAM R1.ab AV ?_;intro wf M H;have RF:Hid (qBl wf ((w.heap.size+1)) qzA 45):=M;have BF:=z.trans (H.below.mono qo);obtain⟨p0,p1,p2,p3,p4,p5,p6,p7⟩:=qc8 RF.ab;clear M H))
   refine dF (v:=.tuple #[.agg qzA,Bo false]) (by simp[results,Tryz.results94,go_sem,p0,p1,p2,p3,p4,p5,p6,p7]) rfl ⟨by rw[Eu s N dr l Z.ab qo (.inl aw.ab)];exact C7 _ _,BF⟩
  have au:(N.aE==s.au)=false:=by simp[J]
  by_cases aO:N.aE<=s.au+s.aG
  ·go_wp2_with (first
    |(refine qAM R1.ab AV ?_;intro wf M H;have RF:Hid (qBl wf ((w.heap.size+1)) qzA 45):=M;have BF:=z.trans (H.below.mono qo);obtain⟨p0,p1,p2,p3,p4,p5,p6,p7⟩:=qc8 RF.ab;clear M H))
   refine dF (v:=.tuple #[.agg qzA,Bo false]) (by simp[results,Tryz.results94,go_sem,p0,p1,p2,p3,p4,p5,p6,p7]) rfl ⟨by rw[Eu s N dr l Z.ab qo (.inr ⟨.inl hO,aO⟩)];exact C7 _ _,BF⟩
  go_wp2_with (first
   |(refine dB rfl 145 (.tmp 1) rfl w.heap.size rfl 145 (qhV s N dr al l.length cl) (0,0) _ S1.ab Tryz.underlying145 rfl Ag ?_))
  refine(HX.ab _ (dG _ _)).mono ?_;rintro e w3 ⟨⟨A,ae,ce,rfl,O,HA⟩,F⟩;have aG:=z.size;have aS:=F.size;have R3:Hid _:=AK F R1.ab;have Y:=z.trans (F.mono z.size);have O3:Hid _:=BC O.ab (show w.heap.size+1+1<=w1.heap.size by omega);clear R1 S1 V1 F z v2 v4 v6 a4 a5 a6 O HX
  go_wp2_with (first
   |(refine qAM R3.ab AV ?_;intro wf M H;have RF:Hid (qBl wf ((w.heap.size+1)) (qaV A ae ce) 45):=M;have BF:=Y.trans (H.below.mono qo);have OF:Hid _:=BC (Dv O3.ab (λq hq _=>H.aL q qo)) (show w.heap.size<=w.heap.size+1+1 by omega);obtain⟨p0,p1,p2,p3,p4,p5,p6,p7⟩:=qc8 RF.ab;clear M H))
  refine dF (v:=.tuple #[.agg (qaV A ae ce),Bo o.isSome]) (by simp[results,Tryz.results94,go_sem,p0,p1,p2,p3,p4,p5,p6,p7]) rfl ⟨by rw[Gt s N dr l Z.ab qo qo,HO.ab];exact⟨A,ae,ce,rfl,OF,HA.ab⟩,BF⟩
 by_cases hD:0<dr
 ·by_cases J:N.aE=s.au
  ·have au:(N.aE==s.au)=true:=by simp[J]
   have aw:Hid (N.aE=s.au):=J;clear J
   go_wp2_with (first
    |(refine qAM R1.ab AV ?_;intro wf M H;have RF:Hid (qBl wf ((w.heap.size+1)) qzA 45):=M;have BF:=z.trans (H.below.mono qo);obtain⟨p0,p1,p2,p3,p4,p5,p6,p7⟩:=qc8 RF.ab;clear M H))
   refine dF (v:=.tuple #[.agg qzA,Bo false]) (by simp[results,Tryz.results94,go_sem,p0,p1,p2,p3,p4,p5,p6,p7]) rfl ⟨by rw[Eu s N dr l Z.ab qo (.inl aw.ab)];exact C7 _ _,BF⟩
  have au:(N.aE==s.au)=false:=by simp[J]
  by_cases aO:N.aE<=s.au+s.aG
  ·go_wp2_with (first
    |(refine qAM R1.ab AV ?_;intro wf M H;have RF:Hid (qBl wf ((w.heap.size+1)) qzA 45):=M;have BF:=z.trans (H.below.mono qo);obtain⟨p0,p1,p2,p3,p4,p5,p6,p7⟩:=qc8 RF.ab;clear M H))
   refine dF (v:=.tuple #[.agg qzA,Bo false]) (by simp[results,Tryz.results94,go_sem,p0,p1,p2,p3,p4,p5,p6,p7]) rfl ⟨by rw[Eu s N dr l Z.ab qo (.inr ⟨.inr hD,aO⟩)];exact C7 _ _,BF⟩
  go_wp2_with (first
   |(refine dB rfl 145 (.tmp 1) rfl w.heap.size rfl 145 (qhV s N dr al l.length cl) (0,0) _ S1.ab Tryz.underlying145 rfl Ag ?_))
  refine(HX.ab _ (dG _ _)).mono ?_;rintro e w3 ⟨⟨A,ae,ce,rfl,O,HA⟩,F⟩;have aG:=z.size;have aS:=F.size;have R3:Hid _:=AK F R1.ab;have Y:=z.trans (F.mono z.size);have O3:Hid _:=BC O.ab (show w.heap.size+1+1<=w1.heap.size by omega);clear R1 S1 V1 F z v2 v4 v6 a4 a5 a6 O HX
  go_wp2_with (first
   |(refine qAM R3.ab AV ?_;intro wf M H;have RF:Hid (qBl wf ((w.heap.size+1)) (qaV A ae ce) 45):=M;have BF:=Y.trans (H.below.mono qo);have OF:Hid _:=BC (Dv O3.ab (λq hq _=>H.aL q qo)) (show w.heap.size<=w.heap.size+1+1 by omega);obtain⟨p0,p1,p2,p3,p4,p5,p6,p7⟩:=qc8 RF.ab;clear M H))
  refine dF (v:=.tuple #[.agg (qaV A ae ce),Bo o.isSome]) (by simp[results,Tryz.results94,go_sem,p0,p1,p2,p3,p4,p5,p6,p7]) rfl ⟨by rw[Gt s N dr l Z.ab qo qo,HO.ab];exact⟨A,ae,ce,rfl,OF,HA.ab⟩,BF⟩
 by_cases J:N.aE=s.au
 ·have au:(N.aE==s.au)=true:=by simp[J]
  have aw:Hid (N.aE=s.au):=J;clear J
  go_wp2_with (first
   |(refine qAM R1.ab AV ?_;intro wf M H;have RF:Hid (qBl wf ((w.heap.size+1)) qzA 45):=M;have BF:=z.trans (H.below.mono qo);obtain⟨p0,p1,p2,p3,p4,p5,p6,p7⟩:=qc8 RF.ab;clear M H))
  refine dF (v:=.tuple #[.agg qzA,Bo false]) (by simp[results,Tryz.results94,go_sem,p0,p1,p2,p3,p4,p5,p6,p7]) rfl ⟨by rw[Eu s N dr l Z.ab qo (.inl aw.ab)];exact C7 _ _,BF⟩
 have au:(N.aE==s.au)=false:=by simp[J]
 go_wp2_with (first
  |(refine dB rfl 145 (.tmp 1) rfl w.heap.size rfl 145 (qhV s N dr al l.length cl) (0,0) _ S1.ab Tryz.underlying145 rfl Ag ?_))
 refine(HX.ab _ (dG _ _)).mono ?_;rintro e w3 ⟨⟨A,ae,ce,rfl,O,HA⟩,F⟩;have aG:=z.size;have aS:=F.size;have R3:Hid _:=AK F R1.ab;have Y:=z.trans (F.mono z.size);have O3:Hid _:=BC O.ab (show w.heap.size+1+1<=w1.heap.size by omega);clear R1 S1 V1 F z v2 v4 v6 a4 a5 a6 O HX
 go_wp2_with (first
  |(refine qAM R3.ab AV ?_;intro wf M H;have RF:Hid (qBl wf ((w.heap.size+1)) (qaV A ae ce) 45):=M;have BF:=Y.trans (H.below.mono qo);have OF:Hid _:=BC (Dv O3.ab (λq hq _=>H.aL q qo)) (show w.heap.size<=w.heap.size+1+1 by omega);obtain⟨p0,p1,p2,p3,p4,p5,p6,p7⟩:=qc8 RF.ab;clear M H))
 refine dF (v:=.tuple #[.agg (qaV A ae ce),Bo o.isSome]) (by simp[results,Tryz.results94,go_sem,p0,p1,p2,p3,p4,p5,p6,p7]) rfl ⟨by rw[Gt s N dr l Z.ab qo qo,HO.ab];exact⟨A,ae,ce,rfl,OF,HA.ab⟩,BF⟩
def L9(s:Svc)(N:Cnt)(l:List Sn):Option Ac:=By s N (l.filter (λx=>x.aO))
def EI(s:Svc)(N:Cnt)(l:List Sn):Option Ac:=if 0<N.aO then none else By s N (l.filter (λx=>x.aM))
theorem Ux(s:Svc)(N:Cnt)(dr:Int)(l:List Sn)(lo:Nat)(al:qO)(cl:Nat)(w:World)(hl:l.length<=1048576)(z:DR s)(Z:0<=N.aE)(aa:N.aE<=1048576)(ag:0<=N.ready)(ah:N.ready<=1048576)(hL:OwnSn lo w al cl l):
  Calls Tryz.prog 95 #[.agg (qhV s N dr al l.length cl)] w λe w'=>FH w.heap.size w' e (L9 s N l)/\Below w.heap.size w w':=by
 have HL:Hid (OwnSn lo w al cl l):=hL;have aJ:=z.ba;have aK:=z.bd;have aH:=z.bm;have aI:=z.bn;have O:Hid (DR s):=z;clear hL z;obtain⟨W0,af,t0,t1,aj,aw,F⟩:=DH w (.cells (qhV s N dr al l.length cl) 145) (.cells qzA 45);have T0:Hid _:=t0;have T1:Hid _:=t1;clear t0 t1;go_enter Tryz.func95,Tryz.ntmps95
 go_upto_region 1 with fail
 clear af;obtain⟨o,HO⟩:∃o,Hid (By s N (l.filter (λx=>x.aO))=o):=⟨_,rfl⟩
 go_wp2_with (first
  |(refine dB rfl 145 (.tmp 1) rfl w.heap.size rfl 145 (qhV s N dr al l.length cl) (0,0) _ T0.ab Tryz.underlying145 rfl Ag ?_))
 refine(LG 174 (λx=>x.aO) (Gu qk) (λx W=>SE x W) s N dr l lo al cl _ hl O.ab Z aa ag ah (Ai HL.ab F AG)).mono ?_;rw[HO.ab];rintro e w3 ⟨⟨A,Y,ce,rfl,J,HA⟩,H⟩;have aM:=H.size;have R3:Hid _:=AK H T1.ab;have M:=F.trans (H.mono F.size);have O3:Hid _:=BC J.ab aj;clear T0 T1 F H J
 go_wp2_with (first
  |(refine qAM R3.ab AV ?_;intro wf hz on;have RF:Hid (qBl wf ((w.heap.size+1)) (qaV A Y ce) 45):=hz;have BF:=M.trans (on.below.mono qo);have OF:Hid _:=BC (Dv O3.ab (λq hq _=>on.aL q qo)) (show w.heap.size<=w.heap.size+1+1 by omega);obtain⟨p0,p1,p2,p3,p4,p5,p6,p7⟩:=qc8 RF.ab;clear hz on))
 refine dF (v:=.tuple #[.agg (qaV A Y ce),Bo o.isSome]) (by simp[results,Tryz.results95,go_sem,p0,p1,p2,p3,p4,p5,p6,p7]) rfl ⟨by rw[show L9 s N l=o from HO.ab];exact⟨A,Y,ce,rfl,OF,HA.ab⟩,BF⟩
theorem Rc(s:Svc)(N:Cnt)(dr:Int)(l:List Sn)(lo:Nat)(al:qO)(cl:Nat)(w:World)(hl:l.length<=1048576)(z:DR s)(am:0<=N.aE)(an:N.aE<=1048576)(au:0<=N.ready)(aw:N.ready<=1048576)(hL:OwnSn lo w al cl l):
  Calls Tryz.prog 99 #[.agg (qhV s N dr al l.length cl)] w λe w'=>FH w.heap.size w' e (EI s N l)/\Below w.heap.size w w':=by
 have HL:Hid (OwnSn lo w al cl l):=hL;have a6:=z.ba;have a7:=z.bd;have a4:=z.bm;have a5:=z.bn;have af:Hid (DR s):=z;clear hL z;obtain⟨W0,aq,t0,t1,ax,aI,F⟩:=DH w (.cells (qhV s N dr al l.length cl) 145) (.cells qzA 45);have T0:Hid _:=t0;have T1:Hid _:=t1;clear t0 t1;go_enter Tryz.func99,Tryz.ntmps99
 go_upto_region 1 with fail
 clear aq;have aF:=AJ T0.ab 15
 by_cases hO:0<N.aO
 ·have HN:Hid (EI s N l=none):=by unfold Hid EI;rw[dv hO]
  go_wp2_with (first
   |(refine qAM T1.ab AV ?_;intro wf Y M;have RF:Hid (qBl wf ((w.heap.size+1)) qzA 45):=Y;have Z:=F.trans (M.below.mono qo);obtain⟨p0,p1,p2,p3,p4,p5,p6,p7⟩:=qc8 RF.ab;clear Y M))
  refine dF (v:=.tuple #[.agg qzA,Bo false]) (by simp[results,Tryz.results99,go_sem,p0,p1,p2,p3,p4,p5,p6,p7]) rfl ⟨by rw[HN.ab];exact C7 _ _,Z⟩
 have HN:Hid (EI s N l=By s N (l.filter (λx=>x.aM))):=by unfold Hid EI;rw[dk hO]
 obtain⟨o,HO⟩:∃o,Hid (By s N (l.filter (λx=>x.aM))=o):=⟨_,rfl⟩
 go_wp2_with (first
  |(refine dB rfl 145 (.tmp 1) rfl w.heap.size rfl 145 (qhV s N dr al l.length cl) (0,0) _ T0.ab Tryz.underlying145 rfl Ag ?_))
 refine(LG 181 (λx=>x.aM) (Gu qk) (λx W=>Pi x W) s N dr l lo al cl _ hl af.ab am an au aw (Ai HL.ab F AG)).mono ?_;rw[HO.ab];rintro e w3 ⟨⟨A,ae,ce,rfl,J,HA⟩,H⟩;have a8:=H.size;have R3:Hid _:=AK H T1.ab;have O:=F.trans (H.mono F.size);have O3:Hid _:=BC J.ab ax;clear T0 T1 F H J
 try clear aF
 go_wp2_with (first
  |(refine qAM R3.ab AV ?_;intro wf Y M;have RF:Hid (qBl wf ((w.heap.size+1)) (qaV A ae ce) 45):=Y;have Z:=O.trans (M.below.mono qo);have OF:Hid _:=BC (Dv O3.ab (λq hq _=>M.aL q qo)) (show w.heap.size<=w.heap.size+1+1 by omega);obtain⟨p0,p1,p2,p3,p4,p5,p6,p7⟩:=qc8 RF.ab;clear Y M))
 refine dF (v:=.tuple #[.agg (qaV A ae ce),Bo o.isSome]) (by simp[results,Tryz.results99,go_sem,p0,p1,p2,p3,p4,p5,p6,p7]) rfl ⟨by rw[HN.ab,HO.ab];exact⟨A,ae,ce,rfl,OF,HA.ab⟩,Z⟩
def IS(s:Svc)(l:List Sn):Option Ac:=M4 s (l.filter (λx=>x.c.ay==4))
theorem Sm(s:Svc)(N:Cnt)(dr:Int)(l:List Sn)(lo:Nat)(al:qO)(cl:Nat)(w:World)(hl:l.length<=1048576)(J:DR s)(_hN0:0<=N.aE)(_hN1:N.aE<=1048576)(_hr0:0<=N.ready)(_hr1:N.ready<=1048576)(hL:OwnSn lo w al cl l):
  Calls Tryz.prog 96 #[.agg (qhV s N dr al l.length cl)] w λe w'=>FH w.heap.size w' e (IS s l)/\Below w.heap.size w w':=by
 have HL:Hid (OwnSn lo w al cl l):=hL;have bd:=J.ba;have be:=J.bd;have ba:=J.bm;have bb:=J.bn;have a5:Hid (DR s):=J;clear hL J;obtain⟨W0,az,t0,t1,aA,aM,Z⟩:=DH w (.cells (qhV s N dr al l.length cl) 145) (.cells qzA 45);have T0:Hid _:=t0;have T1:Hid _:=t1;clear t0 t1;go_enter Tryz.func96,Tryz.ntmps96
 go_upto_region 1 with fail
 clear az;obtain⟨G,HG⟩:∃G,Hid (l.filter (λx=>x.c.ay==4)=G):=⟨_,rfl⟩;have ay:G.length<=1048576:=by rw[<-HG.ab];exact AH (dV _ _) hl
 obtain⟨o,HO⟩:∃o,Hid (M4 s G=o):=⟨_,rfl⟩;have HK:Hid (∀W:World,OwnSn lo W al cl l->Calls Tryz.prog 176 #[Sl al l.length cl,.func (.func 177) #[] #[]] W λe w'=>∃ao co,e=.returned (Sl ao G.length co)/\OwnSn W.heap.size w' ao co G/\Below W.heap.size W w'):=λW h=>by have:=Oa 177 (λx=>x.c.ay==4) (Gu qk) (λx W=>Q8 x W) l lo al cl W hl h;rw[HG.ab]at this;exact this
 have HX:Hid (∀(W:World) (aj:Nat) (ao:qO) (co:Nat),OwnSn aj W ao co G->Calls Tryz.prog 175 #[.agg (qhV s N dr al l.length cl),Sl ao G.length co] W λe w'=>FH W.heap.size w' e o/\Below W.heap.size W w'):=λW aj ao co h=>by have:=Om s N dr al l.length cl G aj ao co W ay h;rw[HO.ab]at this;exact this
 refine AU 7 ?_;apply AL
 ·intro V W K A H O z M
  simp only[pA]at z;subst z
  go_wp2_with (first
   |(refine dB rfl 145 (.tmp 1) rfl w.heap.size rfl 145 (qhV s N dr al l.length cl) (0,0) _ (AK H T0.ab) Tryz.underlying145 rfl Ag ?_))
  exact M.ab _ brf
 refine qA0 qP ?_
 apply qA0
 ·intro V W K A H O z M
  simp only[pA,qv (O 1)]at z;subst z;have bz:=AJ (AK H T0.ab) 19;go_wp2;exact M
 refine AZ (λv W=>∃(ao:qO) (co:Nat),v=.slice ao G.length co/\OwnSn W0.heap.size W ao co G) (λv W W2 ⟨ao,co,h1,Y⟩ hb=>⟨ao,co,h1,Ai Y hb AG⟩) ?_ ?_
 ·intro V W K A H O z M
  simp only[pA,qv (O 2)]at z;subst z
  go_wp2_with fail
  refine(HK.ab W (Ai (Ai HL.ab Z AG) H AG)).mono ?_;rintro e w3 ⟨ao,co,rfl,Y,ah⟩;go_wp2;exact M.ab _ _ ah ⟨ao,co,rfl,BC Y H.size⟩
 refine AZ (λv W=>∃(A:Ac) (F:qO) (ce:Nat),v=.tuple #[.agg (qaV A F ce),Bo o.isSome]/\Hid (W.ownsRow W0.heap.size 88 2 (Sl F A.aB.length ce) A.aB.length (D7 A.aB))/\Hid (∀A',o=some A'->A=A')) (λv W W2 ⟨A,F,ce,h1,Y,h3⟩ hb=>⟨A,F,ce,h1,Ai Y.ab hb AG,h3⟩) ?_ ?_
 ·intro V W K A H O z M
  have d3:=O 3;simp only[pA,qv (O 0)]at z;generalize V 3=x3 at d3 z;subst z;obtain⟨ao,co,rfl,Y⟩:=d3
  go_wp2_with fail
  refine(HX.ab W W0.heap.size ao co Y).mono ?_;rintro e w3 ⟨⟨A,F,ce,rfl,h3,h4⟩,ah⟩;go_wp2;exact M.ab _ _ ah ⟨A,F,ce,rfl,BC h3.ab H.size,h4⟩
 refine AZ (λv W=>∃(A:Ac) (F:qO) (ce:Nat),v=.agg (qaV A F ce)/\Hid (W.ownsRow W0.heap.size 88 2 (Sl F A.aB.length ce) A.aB.length (D7 A.aB))/\Hid (∀A',o=some A'->A=A')) (λv W W2 ⟨A,F,ce,h1,Y,h3⟩ hb=>⟨A,F,ce,h1,Ai Y.ab hb AG,h3⟩) ?_ ?_
 ·intro V W K A H O z M
  have d4:=O 4;simp only[pA]at z;generalize V 4=x4 at d4 z;subst z;obtain⟨A,F,ce,rfl,h3,h4⟩:=d4;go_wp2;exact M.ab _ _ brf ⟨A,F,ce,rfl,h3,h4⟩
 apply qA0
 ·intro V W K A H O z M
  have d4:=O 4;simp only[pA]at z;generalize V 4=x4 at d4 z;subst z;obtain⟨A,F,ce,rfl,h3,h4⟩:=d4;go_wp2;exact M
 intro V W A H hS z;have d3:=hS 3;have d4:=hS 4;have d5:=hS 5;simp only[pA,qv (hS 0),qv (hS 1),qv (hS 2),qv (hS 6)]at z;clear hS;generalize V 3=x3 at d3 z;generalize V 4=x4 at d4 z;generalize V 5=x5 at d5 z;subst z;simp only[dA,dN];obtain⟨A,F,ce,rfl,ag,HA⟩:=d5;have an:=Z.trans (H.mono Z.size);have R3:Hid _:=AK H T1.ab;have O3:Hid _:=BC ag.ab aA;have bk:=H.size;clear T0 T1 H Z d4 d3 ag HK HX
 go_wp2_with (first
  |(refine qAM R3.ab AV ?_;intro wf hz on;have RF:Hid (qBl wf ((w.heap.size+1)) (qaV A F ce) 45):=hz;have BF:=an.trans (on.below.mono qo);have OF:Hid _:=BC (Dv O3.ab (λq hq _=>on.aL q qo)) (show w.heap.size<=w.heap.size+1+1 by omega);obtain⟨p0,p1,p2,p3,p4,p5,p6,p7⟩:=qc8 RF.ab;clear hz on))
 refine dF (v:=.tuple #[.agg (qaV A F ce),Bo o.isSome]) (by simp[results,Tryz.results96,go_sem,p0,p1,p2,p3,p4,p5,p6,p7]) rfl ⟨by rw[show IS s l=o from(by unfold IS;rw[HG.ab,HO.ab])];exact⟨A,F,ce,rfl,OF,HA.ab⟩,BF⟩
def OP(N:Cnt):Bool:=N.aE==0&&(N.ready==0&&(N.aO==0&&(N.aD==0&&N.am==0)))
def DS(s:Svc)(N:Cnt)(l:List Sn):Option Ac:=
 if s.aH=true then(if OP N=true then some {a0 s with drop:=true} else M4 s l) else none
theorem QS(s:Svc)(N:Cnt)(dr:Int)(l:List Sn)(lo:Nat)(al:qO)(cl:Nat)(w:World)(hl:l.length<=1048576)(M:DR s)(_hN0:0<=N.aE)(_hN1:N.aE<=1048576)(_hr0:0<=N.ready)(_hr1:N.ready<=1048576)(hL:OwnSn lo w al cl l):
  Calls Tryz.prog 98 #[.agg (qhV s N dr al l.length cl)] w λe w'=>FH w.heap.size w' e (DS s N l)/\Below w.heap.size w w':=by
 have HL:Hid (OwnSn lo w al cl l):=hL;have bv:=M.ba;have bw:=M.bd;have bo:=M.bm;have bq:=M.bn;have a9:Hid (DR s):=M;clear hL M;obtain⟨W0,aC,t0,t1,aD,aQ,F⟩:=DH w (.cells (qhV s N dr al l.length cl) 145) (.cells qzA 45);have O:Hid _:=t0;have T1:Hid _:=t1;clear t0 t1;go_enter Tryz.func98,Tryz.ntmps98
 go_upto_region 1 with fail
 clear aC;have af:=AJ O.ab 2;rcases gc s.aH with z|z
 ·have aa:Hid (s.aH=true):=z
  have z2:W0.cell? ⟨w.heap.size,2,none⟩=some (.bool true):=by rw[<-z];exact af
  clear z af;have aG:=AJ O.ab 13;have aH:=AJ O.ab 14;have aI:=AJ O.ab 15;have aJ:=AJ O.ab 16;have aK:=AJ O.ab 17
  go_upto_region 3 with fail
  generalize (Value.agg (qhV s N dr al l.length cl))=vs
  go_cut [13] (λv wx=>v=.bool (OP N)/\W0=wx)
  case first=>
   go_wp2_with fail
   all_goals
    go_meet;exact⟨ei Value.bool (by simp[OP, *]),rfl⟩
  obtain⟨rfl,rfl⟩:=hcut;clear aG aH aI aJ aK;obtain⟨n,HN⟩:∃n,Hid (OP N=n):=⟨_,rfl⟩;rw[HN.ab];cases n
  ·have aF:=AJ O.ab 19
   obtain⟨o,HO⟩:∃o,Hid (M4 s l=o):=⟨_,rfl⟩;have HX:Hid (∀W:World,OwnSn lo W al cl l->Calls Tryz.prog 175 #[.agg (qhV s N dr al l.length cl),Sl al l.length cl] W λe w'=>FH W.heap.size w' e o/\Below W.heap.size W w'):=λW h=>by have:=Om s N dr al l.length cl l lo al cl W hl h;rw[HO.ab]at this;exact this
   go_wp2_with (first
    |(refine dB rfl 145 (.tmp 1) rfl w.heap.size rfl 145 (qhV s N dr al l.length cl) (0,0) _ O.ab Tryz.underlying145 rfl Ag ?_))
   refine(HX.ab _ (Ai HL.ab F AG)).mono ?_;rintro e w3 ⟨⟨A,ae,ce,rfl,ag,HA⟩,Z⟩;have bz:=Z.size;have R3:Hid _:=AK Z T1.ab;have an:=F.trans (Z.mono F.size);have O3:Hid _:=BC ag.ab aD;clear O T1 F Z ag aF HX
   go_wp2_with (first
    |(refine qAM R3.ab AV ?_;intro wf J H;have RF:Hid (qBl wf ((w.heap.size+1)) (qaV A ae ce) 45):=J;have BF:=an.trans (H.below.mono qo);have OF:Hid _:=BC (Dv O3.ab (λq hq _=>H.aL q qo)) (show w.heap.size<=w.heap.size+1+1 by omega);obtain⟨p0,p1,p2,p3,p4,p5,p6,p7⟩:=qc8 RF.ab;clear J H))
   refine dF (v:=.tuple #[.agg (qaV A ae ce),Bo o.isSome]) (by simp[results,Tryz.results98,go_sem,p0,p1,p2,p3,p4,p5,p6,p7]) rfl ⟨by rw[show DS s N l=o from(by unfold DS;rw[dv aa.ab,dk (by rw[HN.ab];simp),HO.ab])];exact⟨A,ae,ce,rfl,OF,HA.ab⟩,BF⟩
  ·go_wp2_with (first
    |(refine dB rfl 145 (.tmp 1) rfl w.heap.size rfl 145 (qhV s N dr al l.length cl) (0,0) _ O.ab Tryz.underlying145 rfl Ag ?_))
   refine(P2 s N dr al l.length cl _).mono ?_;rintro e w1 ⟨rfl,Y⟩;have Bi:=F.trans (Y.mono F.size);have bx:=Y.size;have U1:Hid (qBl w1 (w.heap.size+1) qzA 45):=AK Y T1.ab;clear Y F O T1
   go_wp2_with (first
    |(refine qAM (dm w1 _) AV ?_;intro wa J H;have Y0:Hid (qBl wa (w1.heap.size) (qgV s.name s.ag 0 0 0 false (Sl none 0 0) false) 45):=J;have R0:Hid _:=(H.aL (w.heap.size+1) qo).trans (AK (AN w1 _) U1.ab);have B0:=(Bi.alloc qo _).trans (H.below.mono qo);have q0:=AJ Y0.ab 0;clear J H)
    |(refine Am rfl 4 (.tmp 16) (.const (.bool true)) rfl w1.heap.size 7 (.bool true) rfl rfl Ng rfl rfl 45 (qgV s.name s.ag 0 0 0 false (Sl none 0 0) false) Y0.ab (AD rfl) ?_;intro wb J H;have Y1:Hid (qBl wb (w1.heap.size) (qgV s.name s.ag 0 0 0 false (Sl none 0 0) true) 45):=J;have R1:Hid _:=(H.aL (w.heap.size+1) qo).trans R0.ab;have B1:=B0.trans (H.below.mono qo);obtain⟨q0,q1,q2,q3,q4,q5,q6,q7⟩:=qc8 Y1.ab;clear J H)
    |(refine qAM R1.ab AV ?_;intro wf J H;have RF:Hid (qBl wf ((w.heap.size+1)) (qgV s.name s.ag 0 0 0 false (Sl none 0 0) true) 45):=J;have BF:=B1.trans (H.below.mono qo);obtain⟨p0,p1,p2,p3,p4,p5,p6,p7⟩:=qc8 RF.ab;clear J H))
   refine dF (v:=.tuple #[.agg (qgV s.name s.ag 0 0 0 false (Sl none 0 0) true),Bo true]) (by simp[results,Tryz.results98,go_sem,p0,p1,p2,p3,p4,p5,p6,p7]) rfl ⟨by rw[show DS s N l=some {a0 s with drop:=true} from(by unfold DS;rw[dv aa.ab,dv HN.ab])];exact⟨{a0 s with drop:=true},none,0,rfl,World.ownsRow_nil _ _ _ _,λA' h=>dj h⟩,BF⟩
 have aa:Hid (s.aH=false):=z;have z2:W0.cell? ⟨w.heap.size,2,none⟩=some (.bool false):=by rw[<-z];exact af
 clear z af;have HN:Hid (DS s N l=none):=by unfold Hid DS;rw[dk (by simp[aa.ab])]
 go_wp2_with (first
  |(refine qAM T1.ab AV ?_;intro wf J H;have RF:Hid (qBl wf ((w.heap.size+1)) qzA 45):=J;have BF:=F.trans (H.below.mono qo);obtain⟨p0,p1,p2,p3,p4,p5,p6,p7⟩:=qc8 RF.ab;clear J H))
 refine dF (v:=.tuple #[.agg qzA,Bo false]) (by simp[results,Tryz.results98,go_sem,p0,p1,p2,p3,p4,p5,p6,p7]) rfl ⟨by rw[HN.ab];exact C7 _ _,BF⟩
def sgL(s:Svc)(N:Cnt)(d:Int)(v:Value):List Value:=[Sg s.name,In i6 s.ag,Bo s.aH,In i6 s.aj,In i6 s.au,In i6 s.aK,In i6 s.aG,In i6 s.next,In i6 s.aQ,In i6 s.az,In i6 s.aI,In i6 s.load,In i6 s.aA,In i6 N.aE,In i6 N.ready,In i6 N.aO,In i6 N.aD,In i6 N.am,In i6 d,v]
def sgV(s:Svc)(N:Cnt)(d:Int)(v:Value):Value:=.agg (sgL s N d v).toArray
def TTs:List TE:=⟨145,4,0,20,[(0,13),(13,5),(18,1),(19,1)],[.string ⟨#[]⟩,In i6 0,Bo false,In i6 0,In i6 0,In i6 0,In i6 0,In i6 0,In i6 0,In i6 0,In i6 0,In i6 0,In i6 0,In i6 0,In i6 0,In i6 0,In i6 0,In i6 0,In i6 0,Sl none 0 0]⟩::⟨214,4,0,9,[(0,7),(7,1),(8,1)],[.string ⟨#[]⟩,In i6 0,In i6 0,In i6 0,In i6 0,Bo false,.string ⟨#[]⟩,Bo false,Bo false]⟩::⟨143,3,214,1,[],[Sl none 0 0]⟩::TT
theorem TTs_ok:∀e∈TTs,TEok Tryz.prog e:=λe z=>by
 rcases dJ.1 z with rfl|z
 ·exact⟨qk,qk,Ol qd⟩
 rcases dJ.1 z with rfl|z
 ·exact⟨qk,qk,Ol qd⟩
 rcases dJ.1 z with rfl|z
 ·exact⟨qk,qk,Ol qd⟩
 ·exact Ur e z
theorem TG{RD:(Nat->Prop)->World->Nat->Nat->Prop}{tt:List TE}{Γ:List (Nat × Nat × Ct)}(E:Env Tryz.prog RD tt Γ){f:Nat}{fn:Func}(hf:Tryz.prog.funcs[f]?=some fn)(hb:fn.body.isSome=true)(W:FG [] fn.ntmps (fn.body.getD .skip)=true){α:Type}{A:α->List Value}{M:α->AW}{F:α->Prop}{z:α->Value->AW->Prop}
  (J:∀p,okA (A p) (M p) fn.ntmps=true) (O:∀p H,A p=A H->M p=M H->p=H) (hv:∀p,F p->vwr tt Γ [] (fn.body.getD .skip) (endV tt fn.results.toList (z p)) ⟨Ew 0 (A p),M p,64,0⟩):CH Tryz.prog RD f 0 (ctV A M F z):=
 ct_vc E hf (show fn.body=some (fn.body.getD .skip) from by cases h:fn.body with|none=>rw[h]at hb;cases hb|some _=>rfl) (Cb E qk _ (.nil _) W) J O λp Y=>by
  rw[<-Hd];exact hv p Y
def Te(o:Option Ac)(v:Value)(es:AW):Prop:=∃A:Ac,(∀A',o=some A'->A=A')/\A.aB=[]/\v=.tuple #[acE A (Sl none 0 0),Bo o.isSome]/\es=[]
theorem askY{o:Option Ac}{n:qB}{a b c d:Int}{x y:Bool}{m:AW}(h:o=some ⟨n,a,b,c,d,x,[],y⟩):Dm (Te o) (.tuple #[acV n a b c d x (Sl none 0 0) y,Bo true]) m 0:=by
 subst h;exact⟨_,[],[],⟨⟨n,a,b,c,d,x,[],y⟩,(λ_ h=>by cases h;rfl),rfl,rfl,rfl⟩,rfl,trivial,rfl,rfl,trivial⟩
theorem askN{o:Option Ac}{n:qB}{a b c d:Int}{x y:Bool}{m:AW}(h:o=none):Dm (Te o) (.tuple #[acV n a b c d x (Sl none 0 0) y,Bo false]) m 0:=by
 subst h;exact⟨_,[],[],⟨⟨n,a,b,c,d,x,[],y⟩,(λ_ h=>by cases h),rfl,rfl,rfl⟩,rfl,trivial,rfl,rfl,trivial⟩
def DO(s:Svc):Option Ac:=
 if s.aH=true\/s.aQ=0 then none else if(Bf s (B6 s)).aJ=true then some (Bf s (B6 s)) else none
abbrev SgP:=Svc × Cnt × Int × Option Addr × Nat × Nat
abbrev SgP.v (p:SgP):Value:=sgV p.1 p.2.1 p.2.2.1 (.slice p.2.2.2.1 p.2.2.2.2.1 p.2.2.2.2.2)
theorem SR{p q:SgP}(h:SgP.v p=SgP.v q):p=q:=by
 obtain⟨⟨_,_,_,_,_,_,_,_,_,_,_,_,_⟩,⟨_,_,_,_,_⟩,d,a,n,c⟩:=p;obtain⟨⟨_,_,_,_,_,_,_,_,_,_,_,_,_⟩,⟨_,_,_,_,_⟩,H,z,J,F⟩:=q;have:=ei Array.toList (iD h);simp[sgL]at this;simp[this]
section
variable {RD:(Nat->Prop)->World->Nat->Nat->Prop}
theorem envS0(z:CR RD):Env Tryz.prog RD TTs []:=⟨z,TTs_ok,λ_ _ _ h=>(nomatch h)⟩
theorem IW{Γ:List (Nat × Nat × Ct)}{f c:Nat}{C:Ct}(E:Env Tryz.prog RD TTs Γ)(F:NN Tryz.prog f=true)(h:CH Tryz.prog RD f c C):Env Tryz.prog RD TTs ((f,c,C)::Γ):=
 ⟨E.rd,E.tt,λg d D z=>by
  by_cases e:f=g
  ·subst e;rw[Ae]at z;cases z;exact⟨F,h⟩
  ·rw[Au e]at z;exact E.ct g d D z⟩
abbrev ctSAct:Ct:=ctV (λp:SgP=>[p.v]) (λ_=>[]) (λ_=>True) λp v es=>es=[]/\v=ac0 p.1.name p.1.ag
theorem sAct_ct(z:CR RD):CH Tryz.prog RD 180 0 ctSAct:=by
 refine TG (envS0 z) Tryz.func180 qk qk (λ_=>rfl) (λp q h _=>SR (gm h).1) ?_;rintro⟨s,N,d,a,n,c⟩ _;exact⟨.inl rfl,_,rfl,⟨_,_,[],⟨rfl,rfl⟩,rfl,trivial,rfl,rfl,trivial⟩,rfl⟩
abbrev ctSScale:Ct:=ctV (λp:SgP × Int × Int=>[p.1.v,In i6 p.2.1,In i6 p.2.2]) (λ_=>[]) (λ_=>True) λp v es=>es=[]/\v=.tuple #[acE {a0 p.1.1 with aJ:=true,au:=p.2.1,aA:=p.2.2} (Sl none 0 0),Bo true]
theorem U9(z:CR RD):CH Tryz.prog RD 179 0 ctSScale:=by
 refine TG (IW (envS0 z) (f:=180) qk (sAct_ct z)) Tryz.func179 qk qk (λ_=>rfl) (λp q h _=>?_) ?_
 ·obtain⟨p,n,m⟩:=p
  obtain⟨q,H,F⟩:=q;simp only[dD,fB,fH,eo]at h;rw[SR h.1,h.2.1,h.2.2]
 rintro⟨⟨s,N,d,a,n,c⟩,k,m⟩ _;refine⟨(s,N,d,a,n,c),rfl,trivial,?_⟩;rintro _ _ ⟨rfl,rfl⟩;exact⟨.inl rfl,_,rfl,⟨_,_,[],⟨rfl,rfl⟩,rfl,trivial,rfl,rfl,trivial⟩,rfl⟩
abbrev ctWithin:Ct:=ctV (λp:Int × Int × Int=>[In i6 p.1,In i6 p.2.1,In i6 p.2.2]) (λ_=>[]) (λ_=>True) λp v es=>es=[]/\v=.bool (inB p.1 p.2.1 p.2.2)
theorem Uv(F:CR RD):CH Tryz.prog RD 91 0 ctWithin:=by
 refine Da (BB F) Tryz.func91 qk qk (λ_=>rfl) (λp H h _=>?_) ?_
 ·obtain⟨a,b,c⟩:=p
  obtain⟨J,M,O⟩:=H;simp at h;obtain⟨rfl,rfl,rfl⟩:=h;rfl
 rintro⟨a,b,c⟩ _;have key:∀(r:Bool) m,inB a b c=r->Dm (λv es=>es=[]/\v=.bool (inB a b c)) (.bool r) m 0:=λr m h=>⟨_,_,[],⟨rfl,by rw[h]⟩,rfl,trivial,rfl,rfl,trivial⟩
 unfold inB at key;refine dg (λh=>?_) (λh=>?_)
 ·refine dg (λz=>?_) (λz=>?_)
  ·exact⟨.inl rfl,_,rfl,key _ _ (by simp_all),rfl⟩
  ·exact⟨.inl rfl,_,rfl,key _ _ (by simp_all),rfl⟩
 ·exact⟨.inl rfl,_,rfl,key _ _ (by rw[ek h];rfl),rfl⟩
abbrev ctDue:Ct:=ctV (λs:Svc=>[GE s]) (λ_=>[]) (λs=>0<s.aQ/\KU s/\s.az<=s.aI) λs v es=>es=[]/\v=In i6 (B6 s)
theorem due_ct(O:CR RD):CH Tryz.prog RD 178 0 ctDue:=by
 refine Da (BB O) Tryz.func178 qk qk (λ_=>rfl) (λp W h _=>Dl (gm h).1) ?_;rintro s ⟨M,J,_⟩;have Y:=J.per1;have p2:=J.cM;have p3:=J.cN;refine λn1 z n2 F=>dg (Int.ne_of_gt M) (λn3 H=>?_)
 have z:n1=s.load+s.aQ:=z ⟨qo,qo⟩;subst z;have F:n2=s.load+s.aQ - 1:=F ⟨qo,qo⟩;subst F;have H:n3=(s.load+s.aQ - 1).tdiv s.aQ:=by rw[fT qo];exact H (show 0<=s.load+s.aQ - 1 by omega) M (show s.load+s.aQ - 1<=9223372036854775807 by omega)
 exact⟨.inl rfl,_,rfl,⟨_,_,[],⟨rfl,by unfold B6 NL;rw[<-H]⟩,rfl,trivial,rfl,rfl,trivial⟩,rfl⟩
abbrev Vl:Ct:=ctV (λp:SgP=>[p.v]) (λ_=>[]) (λp=>DR p.1/\(p.1.aQ≠0->0<p.1.aQ/\KU p.1/\p.1.az<=p.1.aI)) λp=>Te (DO p.1)
theorem SV(hR:CR RD):CH Tryz.prog RD 97 0 Vl:=by
 refine TG (IW (IW (IW (envS0 hR) (f:=178) qk (due_ct hR)) (f:=91) qk (Uv hR)) (f:=179) qk (U9 hR)) Tryz.func97 qk qk (λ_=>rfl) (λp q h _=>SR (gm h).1) ?_;rintro⟨s,N,d,a,n,c⟩ ⟨hS,J⟩;have hS:DR s:=hS;have J:s.aQ≠0->0<s.aQ/\KU s/\s.az<=s.aI:=J;have p1:=hS.ba;have p2:=hS.bd;refine dg (λZ=>?_) (λZ=>?_)
 ·exact⟨.inl rfl,_,rfl,askN (o:=DO s) (by unfold DO;rw[dv (.inl Z)]),rfl⟩
 have Z:s.aH=false:=Z;refine dg (λW=>?_) (λW=>?_)
 ·exact⟨.inl rfl,_,rfl,askN (o:=DO s) (by unfold DO;rw[dv (.inr W)]),rfl⟩
 have W:¬s.aQ=0:=W;obtain⟨ah,J,ag⟩:=J W;have p3:=J.cw;have p4:=J.cx;have hO:DO s=if(Bf s (B6 s)).aJ=true then some (Bf s (B6 s)) else none:=by unfold DO;rw[dk (by simp[Z,W])]
 refine⟨s,rfl,⟨ah,J,ag⟩,?_⟩;rintro v _ ⟨rfl,hv⟩;have hv:v=In i6 (B6 s):=hv;generalize B6 s=e at hO hv;subst hv;have yes:∀{x y:Int} m,Bf s e={a0 s with aJ:=true,au:=x,aA:=y}->Dm (Te (DO s)) (.tuple #[acV s.name s.ag 0 x y true (Sl none 0 0) false,Bo true]) m 0:=λm h=>askY (by rw[hO,h];rfl)
 unfold Bf at yes;refine⟨(s.au,s.az,s.aI),rfl,trivial,?_⟩;rintro v _ ⟨rfl,hv⟩;have hv:v=.bool (inB s.au s.az s.aI):=hv
 cases O:inB s.au s.az s.aI with
 |false=>
  rw[O]at hv;subst hv;have O:¬(s.az<=s.au/\s.au<=s.aI):=λh=>by rw[inB_iff.2 h]at O;cases O
  refine⟨((s,N,d,a,n,c),(if s.aI<(if s.au<s.az then s.az else s.au) then s.aI else(if s.au<s.az then s.az else s.au)),0),rfl,trivial,?_⟩;rintro _ _ ⟨rfl,rfl⟩;refine⟨.inl rfl,_,rfl,yes (x:=(if s.aI<(if s.au<s.az then s.az else s.au) then s.aI else(if s.au<s.az then s.az else s.au))) (y:=0) _ ?_,rfl⟩
  by_cases z:s.au<s.az
  ·simp only[dv z,dk (show ¬s.aI<s.az by omega)]
   rfl
  ·simp only[dk z,dv (show s.aI<s.au by omega)]
   rfl
 |true=>
  rw[O]at hv;subst hv;have O:=inB_iff.1 O;rw[dk qo,dk qo]at yes;refine dg (λz=>?_) (λz=>?_)
  ·have z:s.au<e:=z
   refine⟨((s,N,d,a,n,c),e,0),rfl,trivial,?_⟩;rintro _ _ ⟨rfl,rfl⟩;exact⟨.inl rfl,_,rfl,yes _ (by rw[dv z];rfl),rfl⟩
  have z:¬s.au<e:=z;rw[dk z]at yes;refine dg (λF=>?_) (λF=>?_)
  ·have F:e<s.au:=F
   rw[dv F]at yes;refine dg (λY=>?_) (λY=>?_)
   ·have Y:s.aA<3:=Y
    refine λn' M=>?_
    have M:n'=s.aA+1:=M (show inR (s.aA+1) from⟨qo,qo⟩);subst M;refine⟨((s,N,d,a,n,c),s.au,s.aA+1),rfl,trivial,?_⟩;rintro _ _ ⟨rfl,rfl⟩;exact⟨.inl rfl,_,rfl,yes _ (by rw[dk qo]),rfl⟩
   ·have Y:¬s.aA<3:=Y
    refine dg (λ_=>?_) (λh=>absurd F h);refine λn' M=>?_
    have M:n'=s.au - 1:=M (show inR (s.au - 1) from⟨qo,qo⟩);subst M;refine⟨((s,N,d,a,n,c),s.au - 1,0),rfl,trivial,?_⟩;rintro _ _ ⟨rfl,rfl⟩;exact⟨.inl rfl,_,rfl,yes _ (by rw[dv qo];rfl),rfl⟩
  ·have F:¬e<s.au:=F
   rw[dk F]at yes;refine dg (λh=>absurd h F) (λ_=>?_);refine dg (λH=>?_) (λH=>?_)
   ·have H:¬s.aA=0:=H
    refine⟨((s,N,d,a,n,c),s.au,0),rfl,trivial,?_⟩;rintro _ _ ⟨rfl,rfl⟩;exact⟨.inl rfl,_,rfl,yes _ (by rw[dk H];rfl),rfl⟩
   ·have H:s.aA=0:=by have H:¬s.aA≠0:=H;omega
    exact⟨.inl rfl,_,rfl,askN (o:=DO s) (by rw[hO,show Bf s e=a0 s by unfold Bf;rw[dk (show ¬s.au<s.az by omega),dk (show ¬s.aI<s.au by omega),dk z,dk F,dv H]];rfl),rfl⟩
end
theorem sg_real{f:Nat}{X:Type}{args:X->List Value}{J:X->Prop}{o:X->Option Ac}(h:CH Tryz.prog Jr f 0 (ctV args (λ_=>[]) J λp=>Te (o p)))(p:X)(Z:J p)(H:can (args p) []=(args p,[]))(w:World)(ha:∀β,(args p).map (r2 β)=args p):
  Calls Tryz.prog f (args p).toArray w λe w'=>FH w.heap.size w' e (o p)/\Below w.heap.size w w':=by
 have F:=h w (gh3 w none none none) w 0 64 (args p) [] (λv es=>∃v1 z,Te (o p) v1 z/\v=up2 (64+ ·) v1/\es=upE 64 z) (λk hk=>⟨hk,λh=>h⟩) (λ_ h=>h.elim) AG (λi b Y=>(nomatch Y)) (λi b Y=>(nomatch Y)) (.inl rfl) ⟨p,H,Z,λv es O=>⟨v,es,O,rfl,rfl⟩⟩;rw[ha]at F;refine F.mono ?_;rintro e w' ⟨v,aa,G',hk,rfl,M,hN,_,_⟩;have hb:Below w.heap.size w w':=⟨M.bw.os,M.bw.tape,M.bw.output,M.bw.size,λk hk=>M.bw.block k hk λh=>h⟩;obtain⟨v1,z,O,rfl,rfl⟩:=hk (λv es=>∃v1 z,Te (o p) v1 z/\v=up2 (64+ ·) v1/\es=upE 64 z) ⟨p,H,Z,λv es O=>⟨v,es,O,rfl,rfl⟩⟩;obtain⟨⟨n,a,b,c,d,x,l,y⟩,hA,W,rfl,rfl⟩:=O;have W:l=[]:=W;subst W;exact⟨⟨⟨n,a,b,c,d,x,[],y⟩,none,0,by simp[acE,acV,up2,up1,up0,r2,r1,r0],World.ownsRow_nil _ _ _ _,hA⟩,hb⟩
theorem ST(s:Svc)(N:Cnt)(dr:Int)(l:List Sn)(lo:Nat)(al:qO)(cl:Nat)(w:World)(_hl:l.length<=1048576)(F:DR s)(z:s.aQ≠0->0<s.aQ/\KU s/\s.az<=s.aI)(_hN0:0<=N.aE)(_hN1:N.aE<=1048576)(_hr0:0<=N.ready)(_hr1:N.ready<=1048576)(_hL:OwnSn lo w al cl l):
  Calls Tryz.prog 97 #[.agg (qhV s N dr al l.length cl)] w λe w'=>FH w.heap.size w' e (DO s)/\Below w.heap.size w w':=
 sg_real (SV EH) (s,N,dr,al,l.length,cl) ⟨F,z⟩ rfl w (λ_=>by simp[sgV,sgL,r2,r1,r0])
end
section
open Go.RowKit Go.Sort Go.Maps
theorem Qw(B:Bk)(c:Cp)(b:Nat)(a1 a2 a3:qO)(c1 c2 c3:Nat)(w:World)(hS:B.aR)(hc:c.aC.size<=maxLen)(hP:PlacesX w b B B.ah.length B.aw.length)(hB:BkAt w a1 a2 a3 B):
  Calls Tryz.prog 169 #[.agg (qbV B a1 c1 a2 c2 a3 c3),.map (some b),.agg (qcV c)] w λe w'=>e=.returned (.bool (B5 B c))/\Below w.heap.size w w':=by
 obtain⟨ay,az,aA⟩:=hS;have H:Below w.heap.size w ((w.alloc (.cells (qbV B a1 c1 a2 c2 a3 c3) 28)).alloc (.cells (qcV c) 76)):=((dG _ _).alloc AG _).alloc qs _;obtain⟨n,D,hn,Z,h1,h2,h3,h4⟩:=hP;have z:=(Z.alloc (.cells (qbV B a1 c1 a2 c2 a3 c3) 28)).alloc (.cells (qcV c) 76);clear h1 h2
 cases hf:B.aw.find? λb=>b.name.toList==c.aC.toList with
 |none=>
  have HD:Hid (B5 B c=false):=by unfold Hid B5;rw[hf]
  have HH:Hid (Maps.has D (key 2 c.aC)=false):=h3 c.aC hc λi s _ hs e=>by
   rw[fS]at hf;exact hf s (AE hs) (same_name.2 e)
  have HA:Hid (D.atKey (key 2 c.aC) (.lit (.int .i64 0))=.lit (.int .i64 0)):=atKey_of_not_has HH.ab _;clear h3 h4 hf;rw[HD.ab];go_enter Tryz.func169,Tryz.ntmps169
  go_wp2_with (at_lookup;refine Ap _ rfl (.tmp 10) (.tmp 13) 141 rfl 181 3 .i64 thingLaw Tryz.underlying141 Tryz.underlying3 (DB _) b n D rfl z _ _ rfl (Cy 2 c.aC wf2 hc) 0 false HA.ab HH.ab ?_)
  go_ret;exact⟨rfl,H⟩
 |some bt=>
  obtain⟨i,hi,_⟩:=DY hf;have J:=(AC hi).1;have Y:bt.name=c.aC:=same_name.1 (gM (p:=λb:Bt=>b.name.toList==c.aC.toList) hf);have HD:Hid (B5 B c=bt.aM):=by unfold Hid B5;rw[hf]
  have F:=h4 i bt J hi;rw[Y]at F;have HH:Hid (Maps.has D (key 2 c.aC)=true):=F.1;have HA:Hid (D.atKey (key 2 c.aC) (.lit (.int .i64 0))=.lit (.int .i64 (i:Int))):=F.2;have W:B.aw≠[]:=by intro h;rw[h]at J;simp at J
  obtain⟨b3,o3,ea,ak,M⟩:=hB.2.2 W;subst ea;have O:=(M i bt hi).below H ak;unfold BtAt at O;obtain⟨x0,x1⟩:=O;clear h3 h4 hf F hi Y W M;rw[HD.ab];go_enter Tryz.func169,Tryz.ntmps169
  go_wp2_with (at_lookup;refine Ap _ rfl (.tmp 10) (.tmp 13) 141 rfl 181 3 .i64 thingLaw Tryz.underlying141 Tryz.underlying3 (DB _) b n D rfl z _ _ rfl (Cy 2 c.aC wf2 hc) (i:Int) true HA.ab HH.ab ?_)
  go_ret;exact⟨rfl,H⟩
end
end Go.Proofs.YtbceafpodamnfaaGreatDoor
