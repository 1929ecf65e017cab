import Derived.Test.YtbceafpodamnfaaH05
import Derived.Deep.DeepCutAuto
set_option linter.all false
set_option maxHeartbeats 16000000
set_option maxRecDepth 100000
namespace Go.Proofs.Ytbceafpodamnfaa
attribute [local simp] svV cpV zbV czV aaV ctZ ad bkV ctV
attribute [local go_sem] svV cpV zbV czV aaV ctZ ad bkV ctV
section
open Go.RowKit Go.Sort
def mayR(s:Svc)(c:Cp)(r:Int):Bool:=!c.ending&&(s.gone||(c.state !=3||decide (s.want - s.down<=r - 1)))
theorem NA(s:Svc)(c:Cp)(r:Int)(w:World)(hr0:0<=r)(hr1:r<=1048576)(hw0:0<=s.want)(hw1:s.want<=10)(hd0:0<=s.down)(hd1:s.down<=10):
  Calls Try.prog 25 #[.agg (svV s),.agg (cpV c),.int .i64 r] w λe w'=>e=.returned (.bool (mayR s c r))/\Below w.heap.size w w':=by
 have hbb:Below w.heap.size w ((w.alloc (.cells (svV s) 63)).alloc (.cells (cpV c) 35)):=((Below.refl _ _).alloc (AG _) _).alloc (by simp) _;obtain⟨t0,t1,t2⟩:=Bh w (.cells (svV s) 63) (.cells (cpV c) 35);have HF:Hid (mayR s c r=(!c.ending&&(s.gone||(c.state !=3||decide (s.want - s.down<=r - 1))))):=rfl;have HR1:Hid _:=λW=>Ly s W
 have HR2:Hid _:=λW h=>Lx s W h hw0 hw1 hd0 hd1
 have HA1:Hid _:=λW=>KY c r W
 have HA2:Hid _:=λW=>Jy (s.want - s.down) c r W hr0 hr1
 have hm1:∀w:World,(method 191 124 (.agg #[]) "loop.example/wharfsteward/impl.allows").run Try.prog w=.ok (131,.agg #[]) w:=λ_=>by kernel_rfl
 have hm2:∀(w:World) (x:Int),(method 191 126 (.agg #[.int .i64 x]) "loop.example/wharfsteward/impl.allows").run Try.prog w=.ok (132,.agg #[.int .i64 x]) w:=λ_ _=>by kernel_rfl
 dsimp only[svV,cpV]at hbb t0 t1 t2 HR1 HR2 HA1 HA2⊢;generalize c.ending=en at *;generalize s.gone=go at *;have T0:Hid _:=t0;have T1:Hid _:=t1;have HS:Hid _:=t2;clear t0 t1 t2;cases en
 ·cases go
  ·have HR:Hid _:=λW=>HR2.out W rfl
   clear HR1 HR2;go_enter Try.func25,Try.ntmps25;go_wp2;refine AX 10 (by kernel_rfl) (by kernel_rfl) ?_;apply AN
   ·intro V W K A hW hd hA hK
    simp only[pA]at hA;clear hd;obtain rfl:=hA;go_wp2;exact hK.out _ brf
   apply AN
   ·intro V W K A hW hd hA hK
    have d0:V 0=_:=hd 0 (by kernel_rfl);simp only[pA,d0]at hA;clear hd d0;obtain rfl:=hA;have y0:=AK (AL hW T1.out (by rw[HS.out];omega)) 0 rfl;have y1:=AK (AL hW T1.out (by rw[HS.out];omega)) 1 rfl;have y2:=AK (AL hW T1.out (by rw[HS.out];omega)) 2 rfl;have y3:=AK (AL hW T1.out (by rw[HS.out];omega)) 3 rfl;have y4:=AK (AL hW T1.out (by rw[HS.out];omega)) 4 rfl;have y5:=AK (AL hW T1.out (by rw[HS.out];omega)) 5 rfl;have y6:=AK (AL hW T1.out (by rw[HS.out];omega)) 6 rfl;go_wp2;exact hK.out _ brf
   apply AN
   ·intro V W K A hW hd hA hK
    have d1:V 1=_:=hd 1 (by kernel_rfl);simp only[pA,d1]at hA;clear hd d1;obtain rfl:=hA;go_wp2;exact hK.out _ brf
   apply AN
   ·intro V W K A hW hd hA hK
    have d2:V 2=_:=hd 2 (by kernel_rfl);simp only[pA,d2]at hA;clear hd d2;obtain rfl:=hA;go_wp2;exact hK.out _ brf
   apply AN
   ·intro V W K A hW hd hA hK
    have d3:V 3=_:=hd 3 (by kernel_rfl);simp only[pA,d3]at hA;clear hd d3;obtain rfl:=hA;have z0:=AK (AL hW T0.out (by rw[HS.out];omega)) 0 rfl;have z1:=AK (AL hW T0.out (by rw[HS.out];omega)) 1 rfl;have z2:=AK (AL hW T0.out (by rw[HS.out];omega)) 2 rfl;have z3:=AK (AL hW T0.out (by rw[HS.out];omega)) 3 rfl;have z4:=AK (AL hW T0.out (by rw[HS.out];omega)) 4 rfl;have z5:=AK (AL hW T0.out (by rw[HS.out];omega)) 5 rfl;have z6:=AK (AL hW T0.out (by rw[HS.out];omega)) 6 rfl;have z7:=AK (AL hW T0.out (by rw[HS.out];omega)) 7 rfl;have z8:=AK (AL hW T0.out (by rw[HS.out];omega)) 8 rfl;have z9:=AK (AL hW T0.out (by rw[HS.out];omega)) 9 rfl;have z10:=AK (AL hW T0.out (by rw[HS.out];omega)) 10 rfl;have z11:=AK (AL hW T0.out (by rw[HS.out];omega)) 11 rfl;have z12:=AK (AL hW T0.out (by rw[HS.out];omega)) 12 rfl;go_wp2;exact hK.out _ brf
   apply AN
   ·intro V W K A hW hd hA hK
    have d3:V 3=_:=hd 3 (by kernel_rfl);have d4:V 4=_:=hd 4 (by kernel_rfl);simp only[pA,d3,d4]at hA;clear hd d3 d4;obtain rfl:=hA
    go_wp2_with fail
    refine(HR.out _).mono ?_;rintro e w3 ⟨rfl,hb3⟩;go_wp2;exact hK.out _ hb3
   apply AN
   ·intro V W K A hW hd hA hK
    have d3:V 3=_:=hd 3 (by kernel_rfl);simp only[pA,d3]at hA;clear hd d3;obtain rfl:=hA;have y0:=AK (AL hW T1.out (by rw[HS.out];omega)) 0 rfl;have y1:=AK (AL hW T1.out (by rw[HS.out];omega)) 1 rfl;have y2:=AK (AL hW T1.out (by rw[HS.out];omega)) 2 rfl;have y3:=AK (AL hW T1.out (by rw[HS.out];omega)) 3 rfl;have y4:=AK (AL hW T1.out (by rw[HS.out];omega)) 4 rfl;have y5:=AK (AL hW T1.out (by rw[HS.out];omega)) 5 rfl;have y6:=AK (AL hW T1.out (by rw[HS.out];omega)) 6 rfl;go_wp2;exact hK.out _ brf
   apply AN
   ·intro V W K A hW hd hA hK
    have d3:V 3=_:=hd 3 (by kernel_rfl);simp only[pA,d3]at hA;clear hd d3;obtain rfl:=hA;go_wp2;exact hK.out _ brf
   apply AN
   ·intro V W K A hW hd hA hK
    have d3:V 3=_:=hd 3 (by kernel_rfl);have d5:V 5=_:=hd 5 (by kernel_rfl);have d6:V 6=_:=hd 6 (by kernel_rfl);have d7:V 7=_:=hd 7 (by kernel_rfl);simp only[pA,d3,d5,d6,d7]at hA;clear hd d3 d5 d6 d7;obtain rfl:=hA
    go_wp2_with fail
    refine(HA2.out _).mono ?_;rintro e w3 ⟨rfl,hb3⟩;go_wp2;exact hK.out _ hb3
   apply AN
   ·intro V W K A hW hd hA hK
    have d3:V 3=_:=hd 3 (by kernel_rfl);have d8:V 8=_:=hd 8 (by kernel_rfl);simp only[pA,d3,d8]at hA;clear hd d3 d8;obtain rfl:=hA;go_wp2;exact hK.out _ brf
   intro V W A hW hS hA;have d0:V 0=_:=hS 0 (by omega);have d1:V 1=_:=hS 1 (by omega);have d2:V 2=_:=hS 2 (by omega);have d3:V 3=_:=hS 3 (by omega);have d4:V 4=_:=hS 4 (by omega);have d5:V 5=_:=hS 5 (by omega);have d6:V 6=_:=hS 6 (by omega);have d7:V 7=_:=hS 7 (by omega);have d8:V 8=_:=hS 8 (by omega);have d9:V 9=_:=hS 9 (by omega);simp only[pA,d0,d1,d2,d3,d4,d5,d6,d7,d8,d9]at hA;clear hS d0 d1 d2 d3 d4 d5 d6 d7 d8 d9;obtain rfl:=hA;simp only[List.drop_succ_cons,List.drop_zero];go_wp2;go_ret;exact⟨AS (by rw[HF.out];simp),hbb.trans (hW.mono hbb.size)⟩
  ·have HR:Hid _:=λW=>HR1.out W rfl
   clear HR1 HR2;go_enter Try.func25,Try.ntmps25;go_wp2;refine AX 10 (by kernel_rfl) (by kernel_rfl) ?_;apply AN
   ·intro V W K A hW hd hA hK
    simp only[pA]at hA;clear hd;obtain rfl:=hA;go_wp2;exact hK.out _ brf
   apply AN
   ·intro V W K A hW hd hA hK
    have d0:V 0=_:=hd 0 (by kernel_rfl);simp only[pA,d0]at hA;clear hd d0;obtain rfl:=hA;have y0:=AK (AL hW T1.out (by rw[HS.out];omega)) 0 rfl;have y1:=AK (AL hW T1.out (by rw[HS.out];omega)) 1 rfl;have y2:=AK (AL hW T1.out (by rw[HS.out];omega)) 2 rfl;have y3:=AK (AL hW T1.out (by rw[HS.out];omega)) 3 rfl;have y4:=AK (AL hW T1.out (by rw[HS.out];omega)) 4 rfl;have y5:=AK (AL hW T1.out (by rw[HS.out];omega)) 5 rfl;have y6:=AK (AL hW T1.out (by rw[HS.out];omega)) 6 rfl;go_wp2;exact hK.out _ brf
   apply AN
   ·intro V W K A hW hd hA hK
    have d1:V 1=_:=hd 1 (by kernel_rfl);simp only[pA,d1]at hA;clear hd d1;obtain rfl:=hA;go_wp2;exact hK.out _ brf
   apply AN
   ·intro V W K A hW hd hA hK
    have d2:V 2=_:=hd 2 (by kernel_rfl);simp only[pA,d2]at hA;clear hd d2;obtain rfl:=hA;go_wp2;exact hK.out _ brf
   apply AN
   ·intro V W K A hW hd hA hK
    have d3:V 3=_:=hd 3 (by kernel_rfl);simp only[pA,d3]at hA;clear hd d3;obtain rfl:=hA;have z0:=AK (AL hW T0.out (by rw[HS.out];omega)) 0 rfl;have z1:=AK (AL hW T0.out (by rw[HS.out];omega)) 1 rfl;have z2:=AK (AL hW T0.out (by rw[HS.out];omega)) 2 rfl;have z3:=AK (AL hW T0.out (by rw[HS.out];omega)) 3 rfl;have z4:=AK (AL hW T0.out (by rw[HS.out];omega)) 4 rfl;have z5:=AK (AL hW T0.out (by rw[HS.out];omega)) 5 rfl;have z6:=AK (AL hW T0.out (by rw[HS.out];omega)) 6 rfl;have z7:=AK (AL hW T0.out (by rw[HS.out];omega)) 7 rfl;have z8:=AK (AL hW T0.out (by rw[HS.out];omega)) 8 rfl;have z9:=AK (AL hW T0.out (by rw[HS.out];omega)) 9 rfl;have z10:=AK (AL hW T0.out (by rw[HS.out];omega)) 10 rfl;have z11:=AK (AL hW T0.out (by rw[HS.out];omega)) 11 rfl;have z12:=AK (AL hW T0.out (by rw[HS.out];omega)) 12 rfl;go_wp2;exact hK.out _ brf
   apply AN
   ·intro V W K A hW hd hA hK
    have d3:V 3=_:=hd 3 (by kernel_rfl);have d4:V 4=_:=hd 4 (by kernel_rfl);simp only[pA,d3,d4]at hA;clear hd d3 d4;obtain rfl:=hA
    go_wp2_with fail
    refine(HR.out _).mono ?_;rintro e w3 ⟨rfl,hb3⟩;go_wp2;exact hK.out _ hb3
   apply AN
   ·intro V W K A hW hd hA hK
    have d3:V 3=_:=hd 3 (by kernel_rfl);simp only[pA,d3]at hA;clear hd d3;obtain rfl:=hA;have y0:=AK (AL hW T1.out (by rw[HS.out];omega)) 0 rfl;have y1:=AK (AL hW T1.out (by rw[HS.out];omega)) 1 rfl;have y2:=AK (AL hW T1.out (by rw[HS.out];omega)) 2 rfl;have y3:=AK (AL hW T1.out (by rw[HS.out];omega)) 3 rfl;have y4:=AK (AL hW T1.out (by rw[HS.out];omega)) 4 rfl;have y5:=AK (AL hW T1.out (by rw[HS.out];omega)) 5 rfl;have y6:=AK (AL hW T1.out (by rw[HS.out];omega)) 6 rfl;go_wp2;exact hK.out _ brf
   apply AN
   ·intro V W K A hW hd hA hK
    have d3:V 3=_:=hd 3 (by kernel_rfl);simp only[pA,d3]at hA;clear hd d3;obtain rfl:=hA;go_wp2;exact hK.out _ brf
   apply AN
   ·intro V W K A hW hd hA hK
    have d3:V 3=_:=hd 3 (by kernel_rfl);have d5:V 5=_:=hd 5 (by kernel_rfl);have d6:V 6=_:=hd 6 (by kernel_rfl);have d7:V 7=_:=hd 7 (by kernel_rfl);simp only[pA,d3,d5,d6,d7]at hA;clear hd d3 d5 d6 d7;obtain rfl:=hA
    go_wp2_with fail
    refine(HA1.out _).mono ?_;rintro e w3 ⟨rfl,hb3⟩;go_wp2;exact hK.out _ hb3
   apply AN
   ·intro V W K A hW hd hA hK
    have d3:V 3=_:=hd 3 (by kernel_rfl);have d8:V 8=_:=hd 8 (by kernel_rfl);simp only[pA,d3,d8]at hA;clear hd d3 d8;obtain rfl:=hA;go_wp2;exact hK.out _ brf
   intro V W A hW hS hA;have d0:V 0=_:=hS 0 (by omega);have d1:V 1=_:=hS 1 (by omega);have d2:V 2=_:=hS 2 (by omega);have d3:V 3=_:=hS 3 (by omega);have d4:V 4=_:=hS 4 (by omega);have d5:V 5=_:=hS 5 (by omega);have d6:V 6=_:=hS 6 (by omega);have d7:V 7=_:=hS 7 (by omega);have d8:V 8=_:=hS 8 (by omega);have d9:V 9=_:=hS 9 (by omega);simp only[pA,d0,d1,d2,d3,d4,d5,d6,d7,d8,d9]at hA;clear hS d0 d1 d2 d3 d4 d5 d6 d7 d8 d9;obtain rfl:=hA;simp only[List.drop_succ_cons,List.drop_zero];go_wp2;go_ret;exact⟨AS (by rw[HF.out];rfl),hbb.trans (hW.mono hbb.size)⟩
 ·clear HR1 HR2
  go_enter Try.func25,Try.ntmps25;go_wp2;refine AX 10 (by kernel_rfl) (by kernel_rfl) ?_;apply AN
  ·intro V W K A hW hd hA hK
   simp only[pA]at hA;clear hd;obtain rfl:=hA;go_wp2;exact hK.out _ brf
  apply AN
  ·intro V W K A hW hd hA hK
   have d0:V 0=_:=hd 0 (by kernel_rfl);simp only[pA,d0]at hA;clear hd d0;obtain rfl:=hA;have y0:=AK (AL hW T1.out (by rw[HS.out];omega)) 0 rfl;have y1:=AK (AL hW T1.out (by rw[HS.out];omega)) 1 rfl;have y2:=AK (AL hW T1.out (by rw[HS.out];omega)) 2 rfl;have y3:=AK (AL hW T1.out (by rw[HS.out];omega)) 3 rfl;have y4:=AK (AL hW T1.out (by rw[HS.out];omega)) 4 rfl;have y5:=AK (AL hW T1.out (by rw[HS.out];omega)) 5 rfl;have y6:=AK (AL hW T1.out (by rw[HS.out];omega)) 6 rfl;go_wp2;exact hK.out _ brf
  apply AN
  ·intro V W K A hW hd hA hK
   have d1:V 1=_:=hd 1 (by kernel_rfl);simp only[pA,d1]at hA;clear hd d1;obtain rfl:=hA;go_wp2;exact hK.out _ brf
  apply AN
  ·intro V W K A hW hd hA hK
   have d2:V 2=_:=hd 2 (by kernel_rfl);simp only[pA,d2]at hA;clear hd d2;obtain rfl:=hA;go_wp2;exact hK.out _ brf
  apply AN
  ·intro V W K A hW hd hA hK
   have d3:V 3=_:=hd 3 (by kernel_rfl);simp only[pA,d3]at hA;clear hd d3;obtain rfl:=hA;go_wp2;exact hK.out _ brf
  apply AN
  ·intro V W K A hW hd hA hK
   have d3:V 3=_:=hd 3 (by kernel_rfl);simp only[pA,d3]at hA;clear hd d3;obtain rfl:=hA;go_wp2;exact hK.out _ brf
  apply AN
  ·intro V W K A hW hd hA hK
   have d3:V 3=_:=hd 3 (by kernel_rfl);simp only[pA,d3]at hA;clear hd d3;obtain rfl:=hA;go_wp2;exact hK.out _ brf
  apply AN
  ·intro V W K A hW hd hA hK
   have d3:V 3=_:=hd 3 (by kernel_rfl);simp only[pA,d3]at hA;clear hd d3;obtain rfl:=hA;go_wp2;exact hK.out _ brf
  apply AN
  ·intro V W K A hW hd hA hK
   have d3:V 3=_:=hd 3 (by kernel_rfl);simp only[pA,d3]at hA;clear hd d3;obtain rfl:=hA;go_wp2;exact hK.out _ brf
  apply AN
  ·intro V W K A hW hd hA hK
   have d3:V 3=_:=hd 3 (by kernel_rfl);have d8:V 8=_:=hd 8 (by kernel_rfl);simp only[pA,d3,d8]at hA;clear hd d3 d8;obtain rfl:=hA;go_wp2;exact hK.out _ brf
  intro V W A hW hS hA;have d0:V 0=_:=hS 0 (by omega);have d1:V 1=_:=hS 1 (by omega);have d2:V 2=_:=hS 2 (by omega);have d3:V 3=_:=hS 3 (by omega);have d4:V 4=_:=hS 4 (by omega);have d5:V 5=_:=hS 5 (by omega);have d6:V 6=_:=hS 6 (by omega);have d7:V 7=_:=hS 7 (by omega);have d8:V 8=_:=hS 8 (by omega);have d9:V 9=_:=hS 9 (by omega);simp only[pA,d0,d1,d2,d3,d4,d5,d6,d7,d8,d9]at hA;clear hS d0 d1 d2 d3 d4 d5 d6 d7 d8 d9;obtain rfl:=hA;simp only[List.drop_succ_cons,List.drop_zero];go_wp2;go_ret;exact⟨AS (by rw[HF.out];rfl),hbb.trans (hW.mono hbb.size)⟩
theorem mayL_R(B:Bk)(s:Svc)(sv:ByteArray)(c:Cp):Gc B s sv c=mayR s c (Cq s.image sv B.cps B.cps.length).ready:=by
 unfold Gc mayR;cases c.ending<;>cases (c.state !=3)<;>cases s.gone<;>rfl
theorem Valid.wfC{B:Bk}(h:Valid B):wfC B:=λc hc=>by
 obtain⟨s,hs,hok⟩:=h.svc hc;have hi:=h.svcIn (Du hs);have h0:=hi.next0;have h1:=hi.next1;unfold GM at hok;simp only[Bool.and_eq_true,inB_iff]at hok;have e:wrap64 (s.next - 1)=s.next - 1:=by unfold wrap64;omega
 rw[e]at hok;exact WalkArith.wf_i64 (by omega)
end
section
open Go.RowKit Go.Sort Go.Maps
theorem numRow:(61:TypeId)<Try.prog.types.size:=of_decide_eq_true (by kernel_rfl)
theorem numWide:(match Try.prog.underlying 61 with|some (.array _ _)|some (.struct _)=>true|_=>false)=true:=by kernel_rfl
theorem numLaw:Keyed Try.prog 61:=Keyed.of_law (deep_law_laid Fs (m:=3) (by omega) numRow (by kernel_rfl) numWide)
theorem MA:Try.prog.cellsOf 61=2:=by kernel_rfl
theorem numKey:Try.prog.keyType 61=true:=by kernel_rfl
def F5(s:ByteArray)(n:Int):Lit:=.string (keyBytes [.string s.data.toList,.int .i64 n])
theorem He(s:ByteArray)(n:Int)(hk:(Lit.int .i64 n).wf=true)(hs:s.size<=maxLen):keyOf Try.prog 61 (.agg #[.string s,.int .i64 n])=some (F5 s n):=by
 have hf:(Value.agg #[.string s,.int .i64 n]).formed Try.prog 61=true:=by
  simp[Value.formed,Try.underlying61,MA]
 unfold keyOf;rw[Try.underlying61];simp only[numKey,hf,Bool.and_self,if_true];generalize hn:Try.prog.types.size=m
 match m,hn with
 |0,hn=>have:=numRow;rw[hn]at this;exact absurd this (Nat.not_lt_zero _)
 |m+1,_=>
  simp[Program.keyLits,Try.underlying61,MA,MY,IR,Try.underlying3,Try.underlying9,Value.cells,hk,hs,F5]
theorem ME{n n':Int}{s s':ByteArray}(hk:(Lit.int .i64 n).wf=true)(hk':(Lit.int .i64 n').wf=true)(hs:s.size<=maxLen)(hs':s'.size<=maxLen)(h:F5 s n=F5 s' n'):s=s'/\n=n':=by
 have h1:=He s n hk hs;have h2:=He s' n' hk' hs';rw[<-h]at h2;have:=numLaw.inj h1 h2
 simpa using this
theorem Je(s:ByteArray)(n:Int):WideAt.IsKeyLit (F5 s n):=trivial
theorem KQ(n:Int)(w:World):(Instr.makeMap 58 (some (.int .i64 n))).run Try.prog w=.ok (.map (some w.heap.size)) (w.alloc (.map #[] 0)):=by
 simp[Instr.makeMap,run_underlying Try.underlying58,asInt,asIntOf]
def CopiesAt(w:World)(b:Nat)(B:Bk)(k:Nat):Prop:=∃(n:Nat) (D:DataW Unit),n<=k/\w.ownsMap Try.prog 61 (plainElem Try.prog 3) b n D/\
 (∀(x:ByteArray) (m:Int),x.size<=maxLen->(Lit.int .i64 m).wf=true->(∀(i:Nat) c,i<k->B.cps[i]?=some c->¬(c.service=x/\c.number=m))->Maps.has D (F5 x m)=false)/\
 (∀(i:Nat) c,i<k->B.cps[i]?=some c->Maps.has D (F5 c.service c.number)=true/\D.atKey (F5 c.service c.number) (.lit (.int .i64 0))=.lit (.int .i64 i))
theorem CopiesAt.lt{w:World}{b:Nat}{B:Bk}{k:Nat}(h:CopiesAt w b B k):b<w.heap.size:=by
 obtain⟨n,D,hn,hown,_⟩:=h;exact hown.lt
theorem CopiesAt.start(w:World)(B:Bk):CopiesAt (w.alloc (.map #[] 0)) w.heap.size B 0:=
 ⟨0,.map [],AG _,World.ownsMap_made w _ _ _,λ_ _ _ _ _=>rfl,λi s hi=>absurd hi (by omega)⟩
theorem CopiesAt.step{w':World}{b:Nat}{B:Bk}{k n:Nat}{D:DataW Unit}{s:Cp}(hz:∀s∈B.cps,s.service.size<=maxLen/\s.berth.size<=maxLen)(hw:wfC B)(hu:uniqC B)(hsk:B.cps[k]?=some s)
  (hn:n<=k) (h1:∀(x:ByteArray) (m:Int),x.size<=maxLen->(Lit.int .i64 m).wf=true->(∀(i:Nat) c,i<k->B.cps[i]?=some c->¬(c.service=x/\c.number=m))->Maps.has D (F5 x m)=false)
  (h2:∀(i:Nat) c,i<k->B.cps[i]?=some c->Maps.has D (F5 c.service c.number)=true/\D.atKey (F5 c.service c.number) (.lit (.int .i64 0))=.lit (.int .i64 i))
  (hD:IsMap D)
  (hown:w'.ownsMap Try.prog 61 (plainElem Try.prog 3) b (n+1) (D.put (F5 s.service s.number) (.lit (.int .i64 (k:Int))))):CopiesAt w' b B (k+1):=by
 have hss:=(hz s (AE hsk)).1;have hsw:=hw s (AE hsk);refine⟨n+1,_,by omega,hown,λx m hx hm hno=>?_,λi t hi ht=>?_⟩
 ·rw[has_put_other (λe=>hno k s (by omega) hsk (let ⟨a,b⟩:=ME hm hsw hx hss e;⟨a.symm,b.symm⟩))]
  exact h1 x m hx hm λi t hi ht=>hno i t (by omega) ht
 ·rcases Nat.lt_or_ge i k with h'|h'
  ·have hts:=(hz t (AE ht)).1
   have htw:=hw t (AE ht);have hne:F5 t.service t.number≠F5 s.service s.number:=λe=>hu i k t s h' ht hsk (ME htw hsw hts hss e)
   rw[has_put_other hne,atKey_put_other hne];exact h2 i t h' ht
  ·have e:i=k:=by omega
   subst e;rw[hsk]at ht;cases ht;exact⟨has_put_same hD (Je _ _) _,atKey_put_same hD (Je _ _) _ _⟩
theorem Js(B:Bk)(a1 a2 a3:Option Addr)(c1 c2 c3:Nat)(w:World)(hS:B.small)(hZ:B.sized)(hW:wfC B)(hU:uniqC B)(hB:BkAt w a1 a2 a3 B):
  Calls Try.prog 23 #[.agg #[.int .i64 B.now,.slice a1 B.svcs.length c1,.slice a2 B.cps.length c2,.slice a3 B.bts.length c3]] w λe w'=>e=.returned (.map (some (w.heap.size+1)))/\CopiesAt w' (w.heap.size+1) B B.cps.length/\Below w.heap.size w w':=by
 obtain⟨hl1,hl2,hl3⟩:=hS;have hmm:=KQ;obtain⟨t0,t1,t2⟩:=Bh w (.cells (bkV B a1 c1 a2 c2 a3 c3) 27) (.map #[] 0);have T0:Hid _:=t0
 have T1:Hid (CopiesAt ((w.alloc (.cells (bkV B a1 c1 a2 c2 a3 c3) 27)).alloc (.map #[] 0)) (w.heap.size+1) B 0):=by
  have:=CopiesAt.start (w.alloc (.cells (bkV B a1 c1 a2 c2 a3 c3) 27)) B;have e:(w.alloc (.cells (bkV B a1 c1 a2 c2 a3 c3) 27)).heap.size=w.heap.size+1:=by show(w.heap.push _).size=_;simp
  rw[e]at this;exact this
 clear t0 t1 t2;go_enter Try.func23,Try.ntmps23;go_wp2;clear hmm
 go_loopw [13] (λiv wr=>∃k:Nat,k<=B.cps.length/\iv=.int .i64 k/\Below w.heap.size w wr/\Hid (CopiesAt wr (w.heap.size+1) B k)) (λi _=>B.cps.length - (intOf i).toNat)
 case atStart=>exact⟨0,by omega,rfl,((Below.refl _ _).alloc (AG _) _).alloc (by simp) _,T1⟩
 case round=>
  obtain⟨k,hk,rfl,hb,hpl⟩:=hrel;have hNlt:w.heap.size+1<wr.heap.size:=hpl.out.lt
  by_cases hlt:k<B.cps.length
  ·have hne:B.cps≠[]:=by intro h;rw[h]at hlt;simp at hlt
   obtain⟨b,off,ea,hbs,hat⟩:=hB.2.1 hne;subst ea;obtain⟨s,hsk⟩:∃s,B.cps[k]?=some s:=⟨B.cps[k],by simp[hlt]⟩;have hmem:=(hZ.2.2.2.2.1 s (AE hsk)).1;have hwf:=hW s (AE hsk);have HWF:Hid _:=hwf;have HSK:Hid _:=hsk;have hcs:=(hat k s hsk).below hb hbs;unfold CpAt at hcs;obtain⟨x0,x1,x2,x3,x4,x5,x6⟩:=hcs;obtain⟨n,D,hn,hown,h1,h2⟩:=hpl.out;have H1:Hid _:=h1;have H2:Hid _:=h2;have hnn:n<maxLen:=by unfold maxLen;omega
   clear hsk hat hne h1 h2 hwf
   go_wp2_with (at_mapUpdate;refine wpList_mapUpdate_own _ rfl (.tmp 18) (.tmp 23) (.tmp 24) 58 rfl 61 3 numLaw Try.underlying58 (plainElem Try.prog 3) (w.heap.size+1) n D rfl (hown.alloc _) hnn _ _ _ rfl rfl (He s.service s.number HWF.out hmem) _ [] (plainElem_int Try.underlying3 (WalkArith.wf_i64 (by omega))) ?_;intro w1 hown1 hgrow1)
   have hsz:(wr.alloc (.cells (cpV s) 35)).heap.size=wr.heap.size+1:=by show(wr.heap.push _).size=_;simp
   have hb1:Below w.heap.size w w1:=(hb.alloc hb.size _).grown hgrow1 (by rw[hsz];omega) (λj hj=>by cases hj;omega);have hpl1:Hid _:=CopiesAt.step hZ.2.2.2.2.1 hW hU HSK.out hn H1.out H2.out hown.isMap hown1
   go_roundw
   case rel=>exact⟨k+1,by omega,by go_num,hb1,hpl1⟩
   case measure=>simp[intOf];omega
  ·go_wp2
   go_ret;have hkl:k=B.cps.length:=by omega
   subst hkl;exact⟨rfl,hpl.out,hb⟩
end
section
open Go.RowKit Go.Sort
def KU(a b:ByteArray):Int:=if Op.bytesLess a.toList b.toList=true then -1 else if(a.toList==b.toList)=true then 0 else 1
theorem Jj(a:ByteArray)(w:World):Calls Try.prog 88 #[.string a] w λe w'=>e=.returned (.bool false)/\w'=w:=by
 go_enter Try.func88,Try.ntmps88;go_wp2;go_ret;exact⟨rfl,rfl⟩
theorem NV(a b:ByteArray)(w:World):Calls Try.prog 81 #[.string a,.string b] w λe w'=>e=.returned (.int .i64 (KU a b))/\w'=w:=by
 obtain⟨cd,HCD⟩:∃cd,Hid (KU a b=cd):=⟨_,rfl⟩;rw[HCD.out];go_enter Try.func81,Try.ntmps81
 go_wp2_with fail
 refine(Jj a _).mono ?_;rintro e _ ⟨rfl,rfl⟩
 go_wp2_with fail
 refine(Jj b _).mono ?_;rintro e _ ⟨rfl,rfl⟩;cases h1:Op.bytesLess a.toList b.toList
 ·cases h2:(a.toList==b.toList)
  ·have HC:Hid (cd=1):=by unfold Hid;rw[<-HCD.out];unfold KU;rw[h1,h2];rfl
   go_wp2;go_ret;exact⟨by rw[HC.out];rfl,rfl⟩
  ·have HC:Hid (cd=0):=by unfold Hid;rw[<-HCD.out];unfold KU;rw[h1,h2];rfl
   go_wp2;go_ret;exact⟨by rw[HC.out];rfl,rfl⟩
 ·have HC:Hid (cd= -1):=by unfold Hid;rw[<-HCD.out];unfold KU;rw[h1];rfl
  go_wp2;go_ret;exact⟨by rw[HC.out];rfl,rfl⟩
theorem Me(x:Cp)(nm:ByteArray)(w:World):Calls Try.prog 80 #[.agg (cpV x),.string nm] w λe w'=>e=.returned (.int .i64 (KU x.service nm))/\Below w.heap.size w w':=by
 obtain⟨W0,hW0⟩:∃W,w.alloc (.cells (cpV x) 35)=W:=⟨_,rfl⟩;have hb0:=AO w (.cells (cpV x) 35);have t0:=heap_alloc_new w (.cells (cpV x) 35);rw[hW0]at hb0 t0;have e0:=AK t0 0 rfl;clear t0;go_enter Try.func80,Try.ntmps80
 go_upto_region 1 with fail
 clear hW0
 go_wp2_with fail
 refine(NV x.service nm W0).mono ?_;rintro e _ ⟨rfl,rfl⟩;clear e0;go_wp2;go_ret;exact⟨rfl,hb0⟩
def Hy(l:List Cp):Prop:=∀(i j:Nat) s t,i<j->l[i]?=some s->l[j]?=some t->Op.bytesLess t.service.toList s.service.toList=false
theorem IY{a b c:List UInt8}(h:Op.bytesLess b a=false)(h2:Op.bytesLess b c=true):Op.bytesLess a c=true:=by
 have t:=C4 a b;rw[h]at t;simp only[Bool.not_false,Bool.or_eq_true]at t;rcases t with t|t
 ·exact DZ _ _ _ t h2
 ·rw[eq_of_beq t];exact h2
theorem Jc{a b c:List UInt8}(h:Op.bytesLess b a=false)(h2:Op.bytesLess a c=false):Op.bytesLess b c=false:=by
 cases hb:Op.bytesLess b c
 ·rfl
 ·rw[IY h hb]at h2;cases h2
theorem Jz{a b:Cp}(h:Bg a b=true):Op.bytesLess b.service.toList a.service.toList=false:=by
 unfold Bg at h;simp only[Bool.or_eq_true,Bool.and_eq_true]at h;rcases h with h|h
 ·have t:=C4 b.service.toList a.service.toList
  rw[h]at t;simp only[Bool.not_true,Bool.or_eq_false_iff]at t;exact t.1
 ·rw[eq_of_beq h.1];exact CO _
theorem Lz{B:Bk}(h:Valid B):Hy B.cps:=by
 have step:∀(k:Nat) s t,B.cps[k]?=some s->B.cps[k+1]?=some t->Op.bytesLess t.service.toList s.service.toList=false:=by
  intro k s t hs ht;have h1:=Lc h.cps (k+1) (AC ht).1;unfold BP at h1;rw[ht]at h1;simp only[Nat.add_sub_cancel,hs,Bool.and_eq_true,Bool.or_eq_true]at h1
  have h2:Bg s t=true:=by
   rcases h1.2 with h|h
   ·exact absurd h (by simp)
   ·exact h
  exact Jz h2
 intro i j s t hij hs ht;obtain⟨d,rfl⟩:∃d,j=i+1+d:=⟨j - (i+1),by omega⟩;clear hij
 induction d generalizing t with
 |zero=>exact step i s t hs ht
 |succ d ih=>
  have hlt:=(AC ht).1;obtain⟨u,hu⟩:∃u,B.cps[i+1+d]?=some u:=⟨B.cps[i+1+d]'(by omega),by rw[List.getElem?_eq_getElem]⟩;exact Jc (step (i+1+d) u t hu (by rw[<-ht];rfl)) (ih u hu)
theorem bsC_any(l:List Cp)(nm:ByteArray)(ao:Option Addr)(n cap:Nat)(w:World)(HN:Hid (l.length=n))(hl:n<=1048576)(HSO:Hid (Hy l))(HC:Hid (SlC w ao l)):
  Calls Try.prog 79 #[.slice ao n cap,.string nm,.func (.func 80) #[] #[]] w λe w'=>∃(k:Nat) (fd:Bool),e=.returned (.tuple #[.int .i64 k,.bool fd])/\k<=n/\(∀(i:Nat) s,i<k->l[i]?=some s->Op.bytesLess s.service.toList nm.toList=true)/\(∀(i:Nat) s,k<=i->l[i]?=some s->Op.bytesLess s.service.toList nm.toList=false)/\Below w.heap.size w w':=by
 go_enter Try.func79,Try.ntmps79;go_wp2
 go_loopw [9,10] (λiv jv wr=>∃(i j:Nat),i<=j/\j<=n/\iv=.int .i64 i/\jv=.int .i64 j/\Below w.heap.size w wr/\Hid (∀(q:Nat) s,q<i->l[q]?=some s->Op.bytesLess s.service.toList nm.toList=true)/\Hid (∀(q:Nat) s,j<=q->l[q]?=some s->Op.bytesLess s.service.toList nm.toList=false)) (λi j _=>(intOf j).toNat - (intOf i).toNat)
 case atStart=>exact⟨0,n,by omega,by omega,rfl,rfl,Below.refl _ _,λq s hq=>absurd hq (by omega),λq s hq hs=>absurd (AC hs).1 (by rw[HN.out];omega)⟩
 case round=>
  obtain⟨i,j,hij,hjn,rfl,rfl,hb,HL,HG⟩:=hrel
  by_cases hlt:i<j
  ·have hne:l≠[]:=by intro h;have:=HN.out;rw[h]at this;simp at this;omega
   obtain⟨g,off,rfl,hgl,hat⟩:=HC.out hne;have HAT:Hid (KJ w g off l):=hat;clear hat
   go_upto_region 5 with fail
   obtain⟨h,hh⟩:∃h:Nat,((i:Int)+(j:Int)) / 2=(h:Int):=⟨(i+j) / 2,by omega⟩;have h1:i<=h:=by omega
   have h2:h<j:=by omega
   rw[hh];clear hh;obtain⟨s,hs⟩:∃s,l[h]?=some s:=⟨l[h]'(by rw[HN.out];omega),by rw[List.getElem?_eq_getElem]⟩;have HLS:Hid (l[h]?=some s):=hs;have hcs:=(HAT.out h s hs).below hb hgl;clear hs;unfold CpAt at hcs;obtain⟨x0,x1,x2,x3,x4,x5,x6⟩:=hcs
   go_wp2_with fail
   refine(Me s nm _).mono ?_;rintro e w2 ⟨rfl,hbq⟩;have hb2:=hb.trans (hbq.mono hb.size);clear hbq x0 x1 x2 x3 x4 x5 x6;cases hle:Op.bytesLess s.service.toList nm.toList
   ·have h0:¬(KU s.service nm<0):=by unfold KU;rw[hle];simp only[Bool.false_eq_true,if_false];split<;>omega
    go_wp2
    go_roundw
    case rel=>exact⟨i,h,by omega,by omega,(by first|rfl|trivial),(by first|rfl|trivial),hb2,HL,λq t hq ht=>by
     rcases Nat.lt_or_ge h q with hlt'|hge
     ·exact Jc (HSO.out h q s t hlt' HLS.out ht) hle
     ·rw[show q=h by omega,HLS.out]at ht
      cases ht
      exact hle⟩
    case measure=>simp[intOf];omega
   ·have h0:KU s.service nm<0:=by unfold KU;rw[hle];simp
    go_wp2
    go_roundw
    case rel=>exact⟨h+1,j,by omega,by omega,by go_num,(by first|rfl|trivial),hb2,λq t hq ht=>by
     rcases Nat.lt_or_ge q h with hlt'|hge
     ·exact IY (HSO.out q h t s hlt' ht HLS.out) hle
     ·rw[show q=h by omega,HLS.out]at ht
      cases ht
      exact hle,HG⟩
    case measure=>simp[intOf];omega
  ·obtain rfl:i=j:=by omega
   by_cases hin:i<n
   ·have hne:l≠[]:=by intro h;have:=HN.out;rw[h]at this;simp at this;omega
    obtain⟨g,off,rfl,hgl,hat⟩:=HC.out hne;obtain⟨s,hs⟩:∃s,l[i]?=some s:=⟨l[i]'(by rw[HN.out];omega),by rw[List.getElem?_eq_getElem]⟩;have hcs:=(hat i s hs).below hb hgl;clear hs hat;unfold CpAt at hcs;obtain⟨x0,x1,x2,x3,x4,x5,x6⟩:=hcs
    go_upto_region 8 with fail
    go_wp2_with fail
    refine(Me s nm _).mono ?_;rintro e w2 ⟨rfl,hbq⟩;have hb2:=hb.trans (hbq.mono hb.size);clear hbq x0 x1 x2 x3 x4 x5 x6;go_wp2;exact bodyPost_ret (by simp[results,Try.results79,go_sem];rfl) rfl ⟨i,_,rfl,by omega,HL.out,HG.out,hb2⟩
   ·go_wp2
    exact bodyPost_ret (v:=.tuple #[.int .i64 i,.bool false]) (by simp[results,Try.results79,go_sem]) rfl ⟨i,false,rfl,by omega,HL.out,HG.out,hb⟩
end
end Go.Proofs.Ytbceafpodamnfaa
