import Derived.Test.YtbceafpodamnfaaGreatDoorG13
import Derived.Deep.DeepCutAuto
import Derived.RangeFuncNested
import Derived.RangeFuncLeaves
import Derived.Shelf.Abstract
import Derived.OwnWalkIn
import Derived.TacticsInMore
import Derived.LoopNIn
import Derived.LoopIn
set_option linter.all false
set_option maxHeartbeats 16000000
set_option maxRecDepth 100000
namespace Go.Proofs.YtbceafpodamnfaaGreatDoor
section
open Go.RowKit Go.Sort
theorem MA(c:Cp)(r:Int)(w:World):
  Calls Tryz.prog 424 #[.agg #[],.agg (qcV c),.int .i64 r] w λe w'=>e=.returned (.bool true)/\Below w.heap.size w w':=by
 go_enter Tryz.func424,Tryz.ntmps424;go_wp2;go_ret;exact⟨rfl,((dI _ _).alloc (AG _) _).alloc (by simp) _⟩
theorem Lj(l:Int)(c:Cp)(r:Int)(w:World)(H:0<=r)(F:r<=1048576):
  Calls Tryz.prog 425 #[.agg #[.int .i64 l],.agg (qcV c),.int .i64 r] w λe w'=>e=.returned (.bool (c.ax !=3||decide (l<=r - 1)))/\Below w.heap.size w w':=by
 cases J:(c.ax !=3)
 ·go_enter Tryz.func425,Tryz.ntmps425
  go_wp2;go_ret;exact⟨AR (by simp),((dI _ _).alloc (AG _) _).alloc (by simp) _⟩
 ·go_enter Tryz.func425,Tryz.ntmps425
  go_wp2;go_ret;exact⟨rfl,((dI _ _).alloc (AG _) _).alloc (by simp) _⟩
theorem OV(s:Svc)(w:World)(F:s.aH=true):
  Calls Tryz.prog 309 #[.agg (qsV s)] w λe w'=>e=.returned (.iface 379 (.agg #[]))/\Below w.heap.size w w':=by
 go_enter Tryz.func309,Tryz.ntmps309;go_wp2;go_ret;exact⟨rfl,AN _ _⟩
theorem OU(s:Svc)(w:World)(W:s.aH=false)(M:0<=s.av)(F:s.av<=10)(H:0<=s.aG)(J:s.aG<=10):
  Calls Tryz.prog 309 #[.agg (qsV s)] w λe w'=>e=.returned (.iface 381 (.agg #[.int .i64 (s.av - s.aG)]))/\Below w.heap.size w w':=by
 go_enter Tryz.func309,Tryz.ntmps309;go_wp2;go_ret;exact⟨rfl,AN _ _⟩
end
section
open Go.RowKit Go.Sort Go.Maps
def uniqC(B:Bk):Prop:=∀(i j:Nat) c d,i<j->B.ah[i]?=some c->B.ah[j]?=some d->¬(c.aa=d.aa/\c.ai=d.ai)
def wfC(B:Bk):Prop:=∀c∈B.ah,(Lit.int .i64 c.ai).wf=true
theorem Nv{a b c:Cp}(H:Ak a b=true)(F:Ak b c=true):Ak a c=true:=by
 unfold Ak at *;simp only[dY,cY,dM,fq]at *;rcases H with H|⟨J,n1⟩
 ·rcases F with F|⟨e2,n2⟩
  ·exact .inl (B6 _ _ _ H F)
  ·exact .inl (by rw[<-e2];exact H)
 ·rcases F with F|⟨e2,n2⟩
  ·exact .inl (by rw[J];exact F)
  ·exact .inr ⟨J.trans e2,by omega⟩
theorem JO{B:Bk}(h:∀i,i<B.ah.length->A5 B i=true):∀(j i:Nat) s t,i<j->B.ah[i]?=some s->B.ah[j]?=some t->Ak s t=true
 |0,i,_,_,Y,_,_=>absurd Y (by omega)
 |j+1,i,s,t,Y,F,W=>by
  have J:j+1<B.ah.length:=(AC W).1;obtain⟨p,H⟩:∃p,B.ah[j]?=some p:=⟨B.ah[j]'(by omega),by rw[dj]⟩
  have M:Ak p t=true:=by
   have:=h (j+1) J;unfold A5 at this;rw[W]at this;simp[H]at this;exact this.2
  rcases eG i j with Z|Z
  ·exact Nv (JO h j i s p Z F H) M
  ·have e:i=j:=by omega
   subst e;rw[H]at F;cases F;exact M
theorem uniqC_of{B:Bk}(h:BI (A5 B) B.ah.length=true):uniqC B:=λi j c d F H J ⟨M,e2⟩=>by
 have:=JO (KS h) j i c d F H J;unfold Ak at this;rw[M,e2,A4]at this;simp at this
end
section
open Go.RowKit Go.Sort
def LE(s:Svc)(c:Cp)(r:Int):Bool:=!c.au&&(s.aH||(c.ax !=3||decide (s.av - s.aG<=r - 1)))
theorem P7(s:Svc)(c:Cp)(r:Int)(w:World)(bb:0<=r)(a6:r<=1048576)(aS:0<=s.av)(a7:s.av<=10)(bf:0<=s.aG)(aM:s.aG<=10):
  Calls Tryz.prog 248 #[.agg (qsV s),.agg (qcV c),.int .i64 r] w λe w'=>e=.returned (.bool (LE s c r))/\Below w.heap.size w w':=by
 have ak:Below w.heap.size w ((w.alloc (.cells (qsV s) 34)).alloc (.cells (qcV c) 76)):=((dI _ _).alloc (AG _) _).alloc (by simp) _;obtain⟨t0,t1,t2⟩:=B1 w (.cells (qsV s) 34) (.cells (qcV c) 76);have HF:Hid (LE s c r=(!c.au&&(s.aH||(c.ax !=3||decide (s.av - s.aG<=r - 1))))):=rfl;have av:Hid _:=λW=>OV s W
 have au:Hid _:=λW h=>OU s W h aS a7 bf aM
 have ay:Hid _:=λW=>MA c r W
 have ax:Hid _:=λW=>Lj (s.av - s.aG) c r W bb a6
 have bo:∀w:World,(method 455 379 (.agg #[]) "loop.example/wharfsteward/impl.allows").run Tryz.prog w=.ok (424,.agg #[]) w:=λ_=>by kernel_rfl
 have bt:∀(w:World) (x:Int),(method 455 381 (.agg #[.int .i64 x]) "loop.example/wharfsteward/impl.allows").run Tryz.prog w=.ok (425,.agg #[.int .i64 x]) w:=λ_ _=>by kernel_rfl
 dsimp only[qsV,qcV]at ak t0 t1 t2 av au ay ax⊢;generalize c.au=en at *;generalize s.aH=go at *;have T0:Hid _:=t0;have T1:Hid _:=t1;have Y:Hid _:=t2;clear t0 t1 t2;cases en
 ·cases go
  ·have HR:Hid _:=λW=>au.O W rfl
   clear av au;go_enter Tryz.func248,Tryz.ntmps248;go_wp2;refine AV 10 (by kernel_rfl) (by kernel_rfl) ?_;apply AL
   ·intro V W K A J H F Z
    simp only[pA]at F;clear H;obtain rfl:=F;go_wp2;exact Z.O _ brf
   apply AL
   ·intro V W K A J H F Z
    have d0:V 0=_:=H 0 (by kernel_rfl);simp only[pA,d0]at F;clear H d0;obtain rfl:=F;have y0:=AJ (AK J T1.O (by rw[Y.O];omega)) 0 rfl;have y1:=AJ (AK J T1.O (by rw[Y.O];omega)) 1 rfl;have y2:=AJ (AK J T1.O (by rw[Y.O];omega)) 2 rfl;have y3:=AJ (AK J T1.O (by rw[Y.O];omega)) 3 rfl;have y4:=AJ (AK J T1.O (by rw[Y.O];omega)) 4 rfl;have y5:=AJ (AK J T1.O (by rw[Y.O];omega)) 5 rfl;have y6:=AJ (AK J T1.O (by rw[Y.O];omega)) 6 rfl;go_wp2;exact Z.O _ brf
   apply AL
   ·intro V W K A J H F Z
    have d1:V 1=_:=H 1 (by kernel_rfl);simp only[pA,d1]at F;clear H d1;obtain rfl:=F;go_wp2;exact Z.O _ brf
   apply AL
   ·intro V W K A J H F Z
    have d2:V 2=_:=H 2 (by kernel_rfl);simp only[pA,d2]at F;clear H d2;obtain rfl:=F;go_wp2;exact Z.O _ brf
   apply AL
   ·intro V W K A J H F Z
    have M:V 3=_:=H 3 (by kernel_rfl);simp only[pA,M]at F;clear H M;obtain rfl:=F;have z0:=AJ (AK J T0.O (by rw[Y.O];omega)) 0 rfl;have z1:=AJ (AK J T0.O (by rw[Y.O];omega)) 1 rfl;have z2:=AJ (AK J T0.O (by rw[Y.O];omega)) 2 rfl;have z3:=AJ (AK J T0.O (by rw[Y.O];omega)) 3 rfl;have z4:=AJ (AK J T0.O (by rw[Y.O];omega)) 4 rfl;have z5:=AJ (AK J T0.O (by rw[Y.O];omega)) 5 rfl;have z6:=AJ (AK J T0.O (by rw[Y.O];omega)) 6 rfl;have z7:=AJ (AK J T0.O (by rw[Y.O];omega)) 7 rfl;have z8:=AJ (AK J T0.O (by rw[Y.O];omega)) 8 rfl;have z9:=AJ (AK J T0.O (by rw[Y.O];omega)) 9 rfl;have a4:=AJ (AK J T0.O (by rw[Y.O];omega)) 10 rfl;have aW:=AJ (AK J T0.O (by rw[Y.O];omega)) 11 rfl;have aL:=AJ (AK J T0.O (by rw[Y.O];omega)) 12 rfl;go_wp2;exact Z.O _ brf
   apply AL
   ·intro V W K A J H F Z
    have M:V 3=_:=H 3 (by kernel_rfl);have d4:V 4=_:=H 4 (by kernel_rfl);simp only[pA,M,d4]at F;clear H M d4;obtain rfl:=F
    go_wp2_with fail
    refine(HR.O _).mono ?_;rintro e w3 ⟨rfl,al⟩;go_wp2;exact Z.O _ al
   apply AL
   ·intro V W K A J H F Z
    have M:V 3=_:=H 3 (by kernel_rfl);simp only[pA,M]at F;clear H M;obtain rfl:=F;have y0:=AJ (AK J T1.O (by rw[Y.O];omega)) 0 rfl;have y1:=AJ (AK J T1.O (by rw[Y.O];omega)) 1 rfl;have y2:=AJ (AK J T1.O (by rw[Y.O];omega)) 2 rfl;have y3:=AJ (AK J T1.O (by rw[Y.O];omega)) 3 rfl;have y4:=AJ (AK J T1.O (by rw[Y.O];omega)) 4 rfl;have y5:=AJ (AK J T1.O (by rw[Y.O];omega)) 5 rfl;have y6:=AJ (AK J T1.O (by rw[Y.O];omega)) 6 rfl;go_wp2;exact Z.O _ brf
   apply AL
   ·intro V W K A J H F Z
    have M:V 3=_:=H 3 (by kernel_rfl);simp only[pA,M]at F;clear H M;obtain rfl:=F;go_wp2;exact Z.O _ brf
   apply AL
   ·intro V W K A J H F Z
    have M:V 3=_:=H 3 (by kernel_rfl);have d5:V 5=_:=H 5 (by kernel_rfl);have d6:V 6=_:=H 6 (by kernel_rfl);have d7:V 7=_:=H 7 (by kernel_rfl);simp only[pA,M,d5,d6,d7]at F;clear H M d5 d6 d7;obtain rfl:=F
    go_wp2_with fail
    refine(ax.O _).mono ?_;rintro e w3 ⟨rfl,al⟩;go_wp2;exact Z.O _ al
   apply AL
   ·intro V W K A J H F Z
    have M:V 3=_:=H 3 (by kernel_rfl);have d8:V 8=_:=H 8 (by kernel_rfl);simp only[pA,M,d8]at F;clear H M d8;obtain rfl:=F;go_wp2;exact Z.O _ brf
   intro V W A J hS F;have d0:V 0=_:=hS 0 (by omega);have d1:V 1=_:=hS 1 (by omega);have d2:V 2=_:=hS 2 (by omega);have M:V 3=_:=hS 3 (by omega);have d4:V 4=_:=hS 4 (by omega);have d5:V 5=_:=hS 5 (by omega);have d6:V 6=_:=hS 6 (by omega);have d7:V 7=_:=hS 7 (by omega);have d8:V 8=_:=hS 8 (by omega);have d9:V 9=_:=hS 9 (by omega);simp only[pA,d0,d1,d2,M,d4,d5,d6,d7,d8,d9]at F;clear hS d0 d1 d2 M d4 d5 d6 d7 d8 d9;obtain rfl:=F;simp only[dl,dF];go_wp2;go_ret;exact⟨AR (by rw[HF.O];simp),ak.trans (J.mono ak.size)⟩
  ·have HR:Hid _:=λW=>av.O W rfl
   clear av au;go_enter Tryz.func248,Tryz.ntmps248;go_wp2;refine AV 10 (by kernel_rfl) (by kernel_rfl) ?_;apply AL
   ·intro V W K A J H F Z
    simp only[pA]at F;clear H;obtain rfl:=F;go_wp2;exact Z.O _ brf
   apply AL
   ·intro V W K A J H F Z
    have d0:V 0=_:=H 0 (by kernel_rfl);simp only[pA,d0]at F;clear H d0;obtain rfl:=F;have y0:=AJ (AK J T1.O (by rw[Y.O];omega)) 0 rfl;have y1:=AJ (AK J T1.O (by rw[Y.O];omega)) 1 rfl;have y2:=AJ (AK J T1.O (by rw[Y.O];omega)) 2 rfl;have y3:=AJ (AK J T1.O (by rw[Y.O];omega)) 3 rfl;have y4:=AJ (AK J T1.O (by rw[Y.O];omega)) 4 rfl;have y5:=AJ (AK J T1.O (by rw[Y.O];omega)) 5 rfl;have y6:=AJ (AK J T1.O (by rw[Y.O];omega)) 6 rfl;go_wp2;exact Z.O _ brf
   apply AL
   ·intro V W K A J H F Z
    have d1:V 1=_:=H 1 (by kernel_rfl);simp only[pA,d1]at F;clear H d1;obtain rfl:=F;go_wp2;exact Z.O _ brf
   apply AL
   ·intro V W K A J H F Z
    have d2:V 2=_:=H 2 (by kernel_rfl);simp only[pA,d2]at F;clear H d2;obtain rfl:=F;go_wp2;exact Z.O _ brf
   apply AL
   ·intro V W K A J H F Z
    have M:V 3=_:=H 3 (by kernel_rfl);simp only[pA,M]at F;clear H M;obtain rfl:=F;have z0:=AJ (AK J T0.O (by rw[Y.O];omega)) 0 rfl;have z1:=AJ (AK J T0.O (by rw[Y.O];omega)) 1 rfl;have z2:=AJ (AK J T0.O (by rw[Y.O];omega)) 2 rfl;have z3:=AJ (AK J T0.O (by rw[Y.O];omega)) 3 rfl;have z4:=AJ (AK J T0.O (by rw[Y.O];omega)) 4 rfl;have z5:=AJ (AK J T0.O (by rw[Y.O];omega)) 5 rfl;have z6:=AJ (AK J T0.O (by rw[Y.O];omega)) 6 rfl;have z7:=AJ (AK J T0.O (by rw[Y.O];omega)) 7 rfl;have z8:=AJ (AK J T0.O (by rw[Y.O];omega)) 8 rfl;have z9:=AJ (AK J T0.O (by rw[Y.O];omega)) 9 rfl;have a4:=AJ (AK J T0.O (by rw[Y.O];omega)) 10 rfl;have aW:=AJ (AK J T0.O (by rw[Y.O];omega)) 11 rfl;have aL:=AJ (AK J T0.O (by rw[Y.O];omega)) 12 rfl;go_wp2;exact Z.O _ brf
   apply AL
   ·intro V W K A J H F Z
    have M:V 3=_:=H 3 (by kernel_rfl);have d4:V 4=_:=H 4 (by kernel_rfl);simp only[pA,M,d4]at F;clear H M d4;obtain rfl:=F
    go_wp2_with fail
    refine(HR.O _).mono ?_;rintro e w3 ⟨rfl,al⟩;go_wp2;exact Z.O _ al
   apply AL
   ·intro V W K A J H F Z
    have M:V 3=_:=H 3 (by kernel_rfl);simp only[pA,M]at F;clear H M;obtain rfl:=F;have y0:=AJ (AK J T1.O (by rw[Y.O];omega)) 0 rfl;have y1:=AJ (AK J T1.O (by rw[Y.O];omega)) 1 rfl;have y2:=AJ (AK J T1.O (by rw[Y.O];omega)) 2 rfl;have y3:=AJ (AK J T1.O (by rw[Y.O];omega)) 3 rfl;have y4:=AJ (AK J T1.O (by rw[Y.O];omega)) 4 rfl;have y5:=AJ (AK J T1.O (by rw[Y.O];omega)) 5 rfl;have y6:=AJ (AK J T1.O (by rw[Y.O];omega)) 6 rfl;go_wp2;exact Z.O _ brf
   apply AL
   ·intro V W K A J H F Z
    have M:V 3=_:=H 3 (by kernel_rfl);simp only[pA,M]at F;clear H M;obtain rfl:=F;go_wp2;exact Z.O _ brf
   apply AL
   ·intro V W K A J H F Z
    have M:V 3=_:=H 3 (by kernel_rfl);have d5:V 5=_:=H 5 (by kernel_rfl);have d6:V 6=_:=H 6 (by kernel_rfl);have d7:V 7=_:=H 7 (by kernel_rfl);simp only[pA,M,d5,d6,d7]at F;clear H M d5 d6 d7;obtain rfl:=F
    go_wp2_with fail
    refine(ay.O _).mono ?_;rintro e w3 ⟨rfl,al⟩;go_wp2;exact Z.O _ al
   apply AL
   ·intro V W K A J H F Z
    have M:V 3=_:=H 3 (by kernel_rfl);have d8:V 8=_:=H 8 (by kernel_rfl);simp only[pA,M,d8]at F;clear H M d8;obtain rfl:=F;go_wp2;exact Z.O _ brf
   intro V W A J hS F;have d0:V 0=_:=hS 0 (by omega);have d1:V 1=_:=hS 1 (by omega);have d2:V 2=_:=hS 2 (by omega);have M:V 3=_:=hS 3 (by omega);have d4:V 4=_:=hS 4 (by omega);have d5:V 5=_:=hS 5 (by omega);have d6:V 6=_:=hS 6 (by omega);have d7:V 7=_:=hS 7 (by omega);have d8:V 8=_:=hS 8 (by omega);have d9:V 9=_:=hS 9 (by omega);simp only[pA,d0,d1,d2,M,d4,d5,d6,d7,d8,d9]at F;clear hS d0 d1 d2 M d4 d5 d6 d7 d8 d9;obtain rfl:=F;simp only[dl,dF];go_wp2;go_ret;exact⟨AR (by rw[HF.O];rfl),ak.trans (J.mono ak.size)⟩
 ·clear av au
  go_enter Tryz.func248,Tryz.ntmps248;go_wp2;refine AV 10 (by kernel_rfl) (by kernel_rfl) ?_;apply AL
  ·intro V W K A J H F Z
   simp only[pA]at F;clear H;obtain rfl:=F;go_wp2;exact Z.O _ brf
  apply AL
  ·intro V W K A J H F Z
   have d0:V 0=_:=H 0 (by kernel_rfl);simp only[pA,d0]at F;clear H d0;obtain rfl:=F;have y0:=AJ (AK J T1.O (by rw[Y.O];omega)) 0 rfl;have y1:=AJ (AK J T1.O (by rw[Y.O];omega)) 1 rfl;have y2:=AJ (AK J T1.O (by rw[Y.O];omega)) 2 rfl;have y3:=AJ (AK J T1.O (by rw[Y.O];omega)) 3 rfl;have y4:=AJ (AK J T1.O (by rw[Y.O];omega)) 4 rfl;have y5:=AJ (AK J T1.O (by rw[Y.O];omega)) 5 rfl;have y6:=AJ (AK J T1.O (by rw[Y.O];omega)) 6 rfl;go_wp2;exact Z.O _ brf
  apply AL
  ·intro V W K A J H F Z
   have d1:V 1=_:=H 1 (by kernel_rfl);simp only[pA,d1]at F;clear H d1;obtain rfl:=F;go_wp2;exact Z.O _ brf
  apply AL
  ·intro V W K A J H F Z
   have d2:V 2=_:=H 2 (by kernel_rfl);simp only[pA,d2]at F;clear H d2;obtain rfl:=F;go_wp2;exact Z.O _ brf
  apply AL
  ·intro V W K A J H F Z
   have M:V 3=_:=H 3 (by kernel_rfl);simp only[pA,M]at F;clear H M;obtain rfl:=F;go_wp2;exact Z.O _ brf
  apply AL
  ·intro V W K A J H F Z
   have M:V 3=_:=H 3 (by kernel_rfl);simp only[pA,M]at F;clear H M;obtain rfl:=F;go_wp2;exact Z.O _ brf
  apply AL
  ·intro V W K A J H F Z
   have M:V 3=_:=H 3 (by kernel_rfl);simp only[pA,M]at F;clear H M;obtain rfl:=F;go_wp2;exact Z.O _ brf
  apply AL
  ·intro V W K A J H F Z
   have M:V 3=_:=H 3 (by kernel_rfl);simp only[pA,M]at F;clear H M;obtain rfl:=F;go_wp2;exact Z.O _ brf
  apply AL
  ·intro V W K A J H F Z
   have M:V 3=_:=H 3 (by kernel_rfl);simp only[pA,M]at F;clear H M;obtain rfl:=F;go_wp2;exact Z.O _ brf
  apply AL
  ·intro V W K A J H F Z
   have M:V 3=_:=H 3 (by kernel_rfl);have d8:V 8=_:=H 8 (by kernel_rfl);simp only[pA,M,d8]at F;clear H M d8;obtain rfl:=F;go_wp2;exact Z.O _ brf
  intro V W A J hS F;have d0:V 0=_:=hS 0 (by omega);have d1:V 1=_:=hS 1 (by omega);have d2:V 2=_:=hS 2 (by omega);have M:V 3=_:=hS 3 (by omega);have d4:V 4=_:=hS 4 (by omega);have d5:V 5=_:=hS 5 (by omega);have d6:V 6=_:=hS 6 (by omega);have d7:V 7=_:=hS 7 (by omega);have d8:V 8=_:=hS 8 (by omega);have d9:V 9=_:=hS 9 (by omega);simp only[pA,d0,d1,d2,M,d4,d5,d6,d7,d8,d9]at F;clear hS d0 d1 d2 M d4 d5 d6 d7 d8 d9;obtain rfl:=F;simp only[dl,dF];go_wp2;go_ret;exact⟨AR (by rw[HF.O];rfl),ak.trans (J.mono ak.size)⟩
end
section
open Go.RowKit Go.Sort Go.Maps
theorem numRow:(290:TypeId)<Tryz.prog.types.size:=gK (by kernel_rfl)
theorem numWide:(match Tryz.prog.underlying 290 with|some (.array _ _)|some (.struct _)=>true|_=>false)=true:=by kernel_rfl
theorem numLaw:Keyed Tryz.prog 290:=Keyed.of_law (deep_law_laid Im (m:=3) (by omega) numRow (by kernel_rfl) numWide)
theorem Of:Tryz.prog.cellsOf 290=2:=by kernel_rfl
theorem numKey:Tryz.prog.keyType 290=true:=by kernel_rfl
def F8(s:qB)(n:Int):Lit:=.string (keyBytes [.string s.data.toList,.int .i64 n])
theorem IS(s:qB)(n:Int)(hk:(Lit.int .i64 n).wf=true)(hs:s.size<=maxLen):keyOf Tryz.prog 290 (.agg #[.string s,.int .i64 n])=some (F8 s n):=by
 have hf:(Value.agg #[.string s,.int .i64 n]).formed Tryz.prog 290=true:=by
  simp[Value.formed,Tryz.underlying290,Of]
 unfold keyOf;rw[Tryz.underlying290];simp only[numKey,hf,Bool.and_self,gM];generalize hn:Tryz.prog.types.size=m
 match m,hn with
 |0,hn=>have:=numRow;rw[hn]at this;exact absurd this (gr _)
 |m+1,_=>
  simp[Program.keyLits,Tryz.underlying290,Of,Ov,Jc,Tryz.underlying3,Tryz.underlying9,Value.cells,hk,hs,F8]
theorem Oj{n n':Int}{s s':qB}(hk:(Lit.int .i64 n).wf=true)(hk':(Lit.int .i64 n').wf=true)(hs:s.size<=maxLen)(hs':s'.size<=maxLen)(h:F8 s n=F8 s' n'):s=s'/\n=n':=by
 have h1:=IS s n hk hs;have h2:=IS s' n' hk' hs';rw[<-h]at h2;have:=numLaw.inj h1 h2
 simpa using this
theorem LA(s:qB)(n:Int):WideAt.IsKeyLit (F8 s n):=trivial
theorem Ly(n:Int)(w:World):(Instr.makeMap 287 (some (.int .i64 n))).run Tryz.prog w=.ok (.map (some w.heap.size)) (w.alloc (.map #[] 0)):=by
 simp[Instr.makeMap,fC Tryz.underlying287,asInt,asIntOf]
def CopiesAt(w:World)(b:Nat)(B:Bk)(k:Nat):Prop:=∃(n:Nat) (D:DataW Unit),n<=k/\w.ownsMap Tryz.prog 290 (plainElem Tryz.prog 3) b n D/\
 (∀(x:qB) (m:Int),x.size<=maxLen->(Lit.int .i64 m).wf=true->(∀(i:Nat) c,i<k->B.ah[i]?=some c->¬(c.aa=x/\c.ai=m))->Maps.has D (F8 x m)=false)/\
 (∀(i:Nat) c,i<k->B.ah[i]?=some c->Maps.has D (F8 c.aa c.ai)=true/\D.atKey (F8 c.aa c.ai) (.lit (.int .i64 0))=.lit (.int .i64 i))
theorem CopiesAt.aR{w w':World}{b:Nat}{B:Bk}{k:Nat}(h:CopiesAt w b B k)(hb:w'.heap[b]?=w.heap[b]?):CopiesAt w' b B k:=by
 obtain⟨n,D,hn,⟨es,clock,he,F,hs,hD⟩,r⟩:=h;exact⟨n,D,hn,⟨es,clock,by rw[hb];exact he,F,hs,hD⟩,r⟩
theorem CopiesAt.lt{w:World}{b:Nat}{B:Bk}{k:Nat}(h:CopiesAt w b B k):b<w.heap.size:=by
 obtain⟨n,D,hn,hown,_⟩:=h;exact hown.lt
theorem CopiesAt.start(w:World)(B:Bk):CopiesAt (w.alloc (.map #[] 0)) w.heap.size B 0:=
 ⟨0,.map [],AG _,World.ownsMap_made w _ _ _,λ_ _ _ _ _=>rfl,λi s hi=>absurd hi (by omega)⟩
theorem CopiesAt.step{w':World}{b:Nat}{B:Bk}{k n:Nat}{D:DataW Unit}{s:Cp}(hz:∀s∈B.ah,s.aa.size<=maxLen/\s.aA.size<=maxLen)(hw:wfC B)(hu:uniqC B)(hsk:B.ah[k]?=some s)
  (hn:n<=k) (h1:∀(x:qB) (m:Int),x.size<=maxLen->(Lit.int .i64 m).wf=true->(∀(i:Nat) c,i<k->B.ah[i]?=some c->¬(c.aa=x/\c.ai=m))->Maps.has D (F8 x m)=false)
  (h2:∀(i:Nat) c,i<k->B.ah[i]?=some c->Maps.has D (F8 c.aa c.ai)=true/\D.atKey (F8 c.aa c.ai) (.lit (.int .i64 0))=.lit (.int .i64 i))
  (hD:IsMap D)
  (hown:w'.ownsMap Tryz.prog 290 (plainElem Tryz.prog 3) b (n+1) (D.put (F8 s.aa s.ai) (.lit (.int .i64 (k:Int))))):CopiesAt w' b B (k+1):=by
 have hss:=(hz s (AE hsk)).1;have hsw:=hw s (AE hsk);refine⟨n+1,_,by omega,hown,λx m hx hm hno=>?_,λi t hi ht=>?_⟩
 ·rw[has_put_other (λe=>hno k s (by omega) hsk (let ⟨a,b⟩:=Oj hm hsw hx hss e;⟨a.symm,b.symm⟩))]
  exact h1 x m hx hm λi t hi ht=>hno i t (by omega) ht
 ·rcases eG i k with h'|h'
  ·have hts:=(hz t (AE ht)).1
   have htw:=hw t (AE ht);have hne:F8 t.aa t.ai≠F8 s.aa s.ai:=λe=>hu i k t s h' ht hsk (Oj htw hsw hts hss e)
   rw[has_put_other hne,atKey_put_other hne];exact h2 i t h' ht
  ·have e:i=k:=by omega
   subst e;rw[hsk]at ht;cases ht;exact⟨has_put_same hD (LA _ _) _,atKey_put_same hD (LA _ _) _ _⟩
theorem LY(B:Bk)(a1 a2 a3:qO)(c1 c2 c3:Nat)(w:World)(hS:B.aJ)(hZ:B.aD)(hW:wfC B)(hU:uniqC B)(hB:BkAt w a1 a2 a3 B):
  Calls Tryz.prog 246 #[.agg #[.int .i64 B.aj,.slice a1 B.af.length c1,.slice a2 B.ah.length c2,.slice a3 B.ak.length c3]] w λe w'=>e=.returned (.map (some (w.heap.size+1)))/\CopiesAt w' (w.heap.size+1) B B.ah.length/\Below w.heap.size w w':=by
 obtain⟨hl1,hl2,hl3⟩:=hS;have hmm:=Ly;obtain⟨t0,t1,t2⟩:=B1 w (.cells #[.int .i64 B.aj,.slice a1 B.af.length c1,.slice a2 B.ah.length c2,.slice a3 B.ak.length c3] 28) (.map #[] 0);have T0:Hid _:=t0
 have T1:Hid (CopiesAt ((w.alloc (.cells #[.int .i64 B.aj,.slice a1 B.af.length c1,.slice a2 B.ah.length c2,.slice a3 B.ak.length c3] 28)).alloc (.map #[] 0)) (w.heap.size+1) B 0):=by
  have:=CopiesAt.start (w.alloc (.cells #[.int .i64 B.aj,.slice a1 B.af.length c1,.slice a2 B.ah.length c2,.slice a3 B.ak.length c3] 28)) B;have e:(w.alloc (.cells #[.int .i64 B.aj,.slice a1 B.af.length c1,.slice a2 B.ah.length c2,.slice a3 B.ak.length c3] 28)).heap.size=w.heap.size+1:=by show(w.heap.push _).size=_;simp
  rw[e]at this;exact this
 clear t0 t1 t2;go_enter Tryz.func246,Tryz.ntmps246;go_wp2;clear hmm
 go_loopw [13] (λiv wr=>∃k:Nat,k<=B.ah.length/\iv=.int .i64 k/\Below w.heap.size w wr/\Hid (CopiesAt wr (w.heap.size+1) B k)) (λi _=>B.ah.length - (intOf i).toNat)
 case atStart=>exact⟨0,by omega,rfl,((dI _ _).alloc (AG _) _).alloc (by simp) _,T1⟩
 case round=>
  obtain⟨k,hk,rfl,hb,hpl⟩:=hrel;have hNlt:w.heap.size+1<wr.heap.size:=hpl.O.lt
  by_cases hlt:k<B.ah.length
  ·have hne:B.ah≠[]:=by intro h;rw[h]at hlt;simp at hlt
   obtain⟨b,off,ea,hbs,hat⟩:=hB.2.1 hne;subst ea;obtain⟨s,hsk⟩:∃s,B.ah[k]?=some s:=⟨B.ah[k],by simp[hlt]⟩;have hmem:=(hZ.2.2.2.2.1 s (AE hsk)).1;have hwf:=hW s (AE hsk);have HWF:Hid _:=hwf;have HSK:Hid _:=hsk;have hcs:=(hat k s hsk).below hb hbs;unfold CpAt at hcs;obtain⟨x0,x1,x2,x3,x4,x5,x6⟩:=hcs;obtain⟨n,D,hn,hown,h1,h2⟩:=hpl.O;have H1:Hid _:=h1;have H2:Hid _:=h2;have hnn:n<maxLen:=by unfold maxLen;omega
   clear hsk hat hne h1 h2 hwf
   go_wp2_with (at_mapUpdate;refine wpList_mapUpdate_own _ rfl (.tmp 18) (.tmp 23) (.tmp 24) 287 rfl 290 3 numLaw Tryz.underlying287 (plainElem Tryz.prog 3) (w.heap.size+1) n D rfl (hown.alloc _) hnn _ _ _ rfl rfl (IS s.aa s.ai HWF.O hmem) _ [] (plainElem_int Tryz.underlying3 (gS (by omega))) ?_;intro w1 hown1 hgrow1)
   have hsz:(wr.alloc (.cells #[.string s.aa,.int .i64 s.ai,.int .i64 s.ag,.int .i64 s.ar,.int .i64 s.ax,.bool s.au,.string s.aA] 76)).heap.size=wr.heap.size+1:=by show(wr.heap.push _).size=_;simp
   have hb1:Below w.heap.size w w1:=(hb.alloc hb.size _).grown hgrow1 (by rw[hsz];omega) (λj hj=>by cases hj;omega);have hpl1:Hid _:=CopiesAt.step hZ.2.2.2.2.1 hW hU HSK.O hn H1.O H2.O hown.isMap hown1
   go_roundw
   case rel=>exact⟨k+1,by omega,by go_num,hb1,hpl1⟩
   case measure=>simp[intOf];omega
  ·go_wp2
   go_ret;have hkl:k=B.ah.length:=by omega
   subst hkl;exact⟨rfl,hpl.O,hb⟩
end
section
open Go.RowKit Go.Sort
def L8(a b:qB):Int:=if Op.bytesLess a.toList b.toList=true then -1 else if(a.toList==b.toList)=true then 0 else 1
theorem LM(a:qB)(w:World):Calls Tryz.prog 305 #[.string a] w λe w'=>e=.returned (.bool false)/\w'=w:=by
 go_enter Tryz.func305,Tryz.ntmps305;go_wp2;go_ret;exact⟨rfl,rfl⟩
theorem Qd(a b:qB)(w:World):Calls Tryz.prog 240 #[.string a,.string b] w λe w'=>e=.returned (.int .i64 (L8 a b))/\w'=w:=by
 obtain⟨H,F⟩:∃H,Hid (L8 a b=H):=⟨_,rfl⟩;rw[F.O];go_enter Tryz.func240,Tryz.ntmps240
 go_wp2_with fail
 refine(LM a _).mono ?_;rintro e _ ⟨rfl,rfl⟩
 go_wp2_with fail
 refine(LM b _).mono ?_;rintro e _ ⟨rfl,rfl⟩;cases M:Op.bytesLess a.toList b.toList
 ·cases W:(a.toList==b.toList)
  ·have J:Hid (H=1):=by unfold Hid;rw[<-F.O];unfold L8;rw[M,W];rfl
   go_wp2;go_ret;exact⟨by rw[J.O];rfl,rfl⟩
  ·have J:Hid (H=0):=by unfold Hid;rw[<-F.O];unfold L8;rw[M,W];rfl
   go_wp2;go_ret;exact⟨by rw[J.O];rfl,rfl⟩
 ·have J:Hid (H= -1):=by unfold Hid;rw[<-F.O];unfold L8;rw[M];rfl
  go_wp2;go_ret;exact⟨by rw[J.O];rfl,rfl⟩
theorem PN(x:Cp)(nm:qB)(w:World):Calls Tryz.prog 239 #[.agg (qcV x),.string nm] w λe w'=>e=.returned (.int .i64 (L8 x.aa nm))/\Below w.heap.size w w':=by
 obtain⟨M,F⟩:∃W,w.alloc (.cells (qcV x) 76)=W:=⟨_,rfl⟩;have H:=AN w (.cells (qcV x) 76);have J:=dm w (.cells (qcV x) 76);rw[F]at H J;have e0:=AJ J 0 rfl;clear J;go_enter Tryz.func239,Tryz.ntmps239
 go_upto_region 1 with fail
 clear F
 go_wp2_with fail
 refine(Qd x.aa nm M).mono ?_;rintro e _ ⟨rfl,rfl⟩;clear e0;go_wp2;go_ret;exact⟨rfl,H⟩
def Di(l:List Cp):Prop:=∀(i j:Nat) s t,i<j->l[i]?=some s->l[j]?=some t->Op.bytesLess t.aa.toList s.aa.toList=false
theorem Jk{a b c:List UInt8}(h:Op.bytesLess b a=false)(F:Op.bytesLess b c=true):Op.bytesLess a c=true:=by
 have t:=CW a b;rw[h]at t;simp only[Bool.not_false,dY]at t;rcases t with t|t
 ·exact B6 _ _ _ t F
 ·rw[eq_of_beq t];exact F
theorem K9{a b c:List UInt8}(h:Op.bytesLess b a=false)(F:Op.bytesLess a c=false):Op.bytesLess b c=false:=by
 cases hb:Op.bytesLess b c
 ·rfl
 ·rw[Jk h hb]at F;cases F
theorem Ll{a b:Cp}(h:Ak a b=true):Op.bytesLess b.aa.toList a.aa.toList=false:=by
 unfold Ak at h;simp only[dY,cY]at h;rcases h with h|h
 ·have t:=CW b.aa.toList a.aa.toList
  rw[h]at t;simp only[Bool.not_true,fS]at t;exact t.1
 ·rw[eq_of_beq h.1];exact A4 _
theorem OY{B:Bk}(h:Valid B):Di B.ah:=by
 have step:∀(k:Nat) s t,B.ah[k]?=some s->B.ah[k+1]?=some t->Op.bytesLess t.aa.toList s.aa.toList=false:=by
  intro k s t M F;have H:=KS h.ah (k+1) (AC F).1;unfold A5 at H;rw[F]at H;simp only[Nat.add_sub_cancel,M,cY,dY]at H
  have h2:Ak s t=true:=by
   rcases H.2 with h|h
   ·exact absurd h (by simp)
   ·exact h
  exact Ll h2
 intro i j s t J M F;obtain⟨d,rfl⟩:∃d,j=i+1+d:=⟨j - (i+1),by omega⟩;clear J
 induction d generalizing t with
 |zero=>exact step i s t M F
 |succ d Z=>
  have Y:=(AC F).1;obtain⟨u,W⟩:∃u,B.ah[i+1+d]?=some u:=⟨B.ah[i+1+d]'(by omega),by rw[dj]⟩;exact K9 (step (i+1+d) u t W (by rw[<-F];rfl)) (Z u W)
theorem bsC_any(l:List Cp)(nm:qB)(ao:qO)(n cap:Nat)(w:World)(HN:Hid (l.length=n))(hl:n<=1048576)(ai:Hid (Di l))(HC:Hid (SlC w ao l)):
  Calls Tryz.prog 238 #[.slice ao n cap,.string nm,.func (.func 239) #[] #[]] w λe w'=>∃(k:Nat) (fd:Bool),e=.returned (.tuple #[.int .i64 k,.bool fd])/\k<=n/\(∀(i:Nat) s,i<k->l[i]?=some s->Op.bytesLess s.aa.toList nm.toList=true)/\(∀(i:Nat) s,k<=i->l[i]?=some s->Op.bytesLess s.aa.toList nm.toList=false)/\Below w.heap.size w w':=by
 go_enter Tryz.func238,Tryz.ntmps238;go_wp2
 go_loopw [9,10] (λiv jv wr=>∃(i j:Nat),i<=j/\j<=n/\iv=.int .i64 i/\jv=.int .i64 j/\Below w.heap.size w wr/\Hid (∀(q:Nat) s,q<i->l[q]?=some s->Op.bytesLess s.aa.toList nm.toList=true)/\Hid (∀(q:Nat) s,j<=q->l[q]?=some s->Op.bytesLess s.aa.toList nm.toList=false)) (λi j _=>(intOf j).toNat - (intOf i).toNat)
 case atStart=>exact⟨0,n,by omega,by omega,rfl,rfl,dI _ _,λq s hq=>absurd hq (by omega),λq s hq hs=>absurd (AC hs).1 (by rw[HN.O];omega)⟩
 case round=>
  obtain⟨i,j,aI,aH,rfl,rfl,hb,HL,HG⟩:=hrel
  by_cases aM:i<j
  ·have ah:l≠[]:=by intro h;have:=HN.O;rw[h]at this;simp at this;omega
   obtain⟨g,off,rfl,af,J⟩:=HC.O ah;have an:Hid (M5 w g off l):=J;clear J
   go_upto_region 5 with fail
   obtain⟨h,hh⟩:∃h:Nat,((i:Int)+(j:Int)) / 2=(h:Int):=⟨(i+j) / 2,by omega⟩;have h1:i<=h:=by omega
   have h2:h<j:=by omega
   rw[hh];clear hh;obtain⟨s,hs⟩:∃s,l[h]?=some s:=⟨l[h]'(by rw[HN.O];omega),by rw[dj]⟩;have Y:Hid (l[h]?=some s):=hs;have W:=(an.O h s hs).below hb af;clear hs;unfold CpAt at W;obtain⟨x0,x1,x2,x3,x4,x5,x6⟩:=W
   go_wp2_with fail
   refine(PN s nm _).mono ?_;rintro e w2 ⟨rfl,M⟩;have Z:=hb.trans (M.mono hb.size);clear M x0 x1 x2 x3 x4 x5 x6;cases F:Op.bytesLess s.aa.toList nm.toList
   ·have h0:¬(L8 s.aa nm<0):=by unfold L8;rw[F];simp only[fg,iq];split<;>omega
    go_wp2
    go_roundw
    case rel=>exact⟨i,h,by omega,by omega,(by first|rfl|trivial),(by first|rfl|trivial),Z,HL,λq t hq ht=>by
     rcases eG h q with H|ax
     ·exact K9 (ai.O h q s t H Y.O ht) F
     ·rw[show q=h by omega,Y.O]at ht
      cases ht
      exact F⟩
    case measure=>simp[intOf];omega
   ·have h0:L8 s.aa nm<0:=by unfold L8;rw[F];simp
    go_wp2
    go_roundw
    case rel=>exact⟨h+1,j,by omega,by omega,by go_num,(by first|rfl|trivial),Z,λq t hq ht=>by
     rcases eG q h with H|ax
     ·exact Jk (ai.O q h t s H ht Y.O) F
     ·rw[show q=h by omega,Y.O]at ht
      cases ht
      exact F,HG⟩
    case measure=>simp[intOf];omega
  ·obtain rfl:i=j:=by omega
   by_cases aL:i<n
   ·have ah:l≠[]:=by intro h;have:=HN.O;rw[h]at this;simp at this;omega
    obtain⟨g,off,rfl,af,J⟩:=HC.O ah;obtain⟨s,hs⟩:∃s,l[i]?=some s:=⟨l[i]'(by rw[HN.O];omega),by rw[dj]⟩;have W:=(J i s hs).below hb af;clear hs J;unfold CpAt at W;obtain⟨x0,x1,x2,x3,x4,x5,x6⟩:=W
    go_upto_region 8 with fail
    go_wp2_with fail
    refine(PN s nm _).mono ?_;rintro e w2 ⟨rfl,M⟩;have Z:=hb.trans (M.mono hb.size);clear M x0 x1 x2 x3 x4 x5 x6;go_wp2;exact dS (by simp[results,Tryz.results238,go_sem];rfl) rfl ⟨i,_,rfl,by omega,HL.O,HG.O,Z⟩
   ·go_wp2
    exact dS (v:=.tuple #[.int .i64 i,.bool false]) (by simp[results,Tryz.results238,go_sem]) rfl ⟨i,false,rfl,by omega,HL.O,HG.O,hb⟩
end
section
open Go.RowKit Go.Shelf
attribute [local go_sem] Oper.semAt_some
theorem PJ(F:Fence)(n:Nat)(h:F.fn 168)(H:F.round=none)(B:Bk)(nm:qB)(a1 a2 a3:qO)(c1 c2 c3:Nat)(w:World):
  CallsIn F n Tryz.prog 168 #[.agg (qbV B a1 c1 a2 c2 a3 c3),.string nm] w λe w'=>e=.returned (.func (.func 237) #[] #[.pointer (some ⟨w.heap.size,0,none⟩),.pointer (some ⟨w.heap.size+1,0,none⟩)])/\w'=(w.alloc (.cells (qbV B a1 c1 a2 c2 a3 c3) 28)).alloc (.cells #[.string nm] 9):=by
 refine callsIn_of_wp Tryz.func168 rfl h ?_ H;simp only[Tryz.ntmps168,ek,dL,iy,Nat.reduceAdd,Nat.reduceSub,iS,Array.replicate_zero,jb,iX,eZ,fb]
 gi_wp2
 go_ret;exact⟨rfl,rfl⟩
def ofS(nm:qB)(l:List Cp):List Cp:=l.filter λc=>c.aa.toList==nm.toList
def ofG{α:Type}(g:α->Cp)(nm:qB)(l:List α):List α:=l.filter λc=>(g c).aa.toList==nm.toList
theorem NT{α:Type}(g:α->Cp)(nm:qB)(l:List α)(f k:Nat)(hR:Di (l.map g))
  (h1:∀(i:Nat) s,i<f->(l.map g)[i]?=some s->Op.bytesLess s.aa.toList nm.toList=true)
  (h2:∀(i:Nat) s,f<=i->(l.map g)[i]?=some s->Op.bytesLess s.aa.toList nm.toList=false)
  (h3:∀x∈(l.drop f).take k,((g x).aa.toList==nm.toList)=true)
  (h4:∀x,(l.drop f)[k]?=some x->((g x).aa.toList==nm.toList)=false):ofG g nm l=(l.drop f).take k:=by
 have e:l=l.take f++((l.drop f).take k++(l.drop f).drop k):=by rw[eY,eY]
 have H:∀i x,l[i]?=some x->(l.map g)[i]?=some (g x):=λi x h=>by rw[eh,h];rfl
 have f1:(l.take f).filter (λc=>(g c).aa.toList==nm.toList)=[]:=List.filter_eq_nil_iff.2 λx hx=>by
  obtain⟨i,F⟩:=ef hx
  have M:i<f:=by
   have:=(AC F).1;rw[dG]at this;omega
  rw[eO M]at F;have hb:=h1 i _ M (H i x F);intro Z;rw[eq_of_beq Z,A4]at hb;cases hb
 have f2:((l.drop f).take k).filter (λc=>(g c).aa.toList==nm.toList)=(l.drop f).take k:=List.filter_eq_self.2 h3
 have f3:((l.drop f).drop k).filter (λc=>(g c).aa.toList==nm.toList)=[]:=List.filter_eq_nil_iff.2 λx hx=>by
  obtain⟨i,F⟩:=ef hx;rw[ej,ej]at F;have an:=(AC F).1;obtain⟨y,Y⟩:∃y,l[f+k]?=some y:=⟨l[f+k]'(by omega),by rw[dj]⟩;have J:=h4 y (by rw[ej];exact Y);have af:=h2 (f+k) _ (by omega) (H _ y Y);have ht:=CW (g y).aa.toList nm.toList;rw[af,J]at ht;have W:Op.bytesLess nm.toList (g y).aa.toList=true:=by simpa using ht.symm
  intro Z;rcases gk i with h0|h0
  ·subst h0
   rw[fW,Y]at F;cases F;rw[Z]at J;cases J
  ·have hr:=hR (f+k) (f+(k+i)) _ _ (by omega) (H _ y Y) (H _ x F)
   rw[eq_of_beq Z,W]at hr;cases hr
 show l.filter _=_
 conv=>lhs;rw[e]
 rw[gU,gU,f1,f2,f3,gu,eZ]
theorem ofG_long{α:Type}(g:α->Cp)(nm:qB)(l:List α)(f k:Nat)(x:α)(hx:(l.drop f)[k]?=some x)(J:((g x).aa.toList==nm.toList)=true)
  (M:∀x∈(l.drop f).take k,((g x).aa.toList==nm.toList)=true):((l.drop f).take k).length<(ofG g nm l).length:=by
 have hk:=(AC hx).1;have e:(l.drop f).take (k+1)=(l.drop f).take k++[x]:=by rw[eW,hx];rfl
 have H:((l.drop f).take (k+1)).Sublist l:=(List.take_sublist _ _).trans (List.drop_sublist _ _);have h:=(H.filter λc=>(g c).aa.toList==nm.toList).length_le
 rw[List.filter_eq_self.2 (λy F=>by
  rw[e,dt]at F;rcases F with F|F
  ·exact M y F
  ·rw[cZ.1 F];exact J),e,dE]at h
 unfold ofG;simp only[iM]at h;omega
theorem take_all{α:Type}(l:List α)(p:α->Bool)(k:Nat)(x:α)(hx:l[k]?=some x)(H:p x=true)(J:∀x∈l.take k,p x=true):∀x∈l.take (k+1),p x=true:=λy F=>by
 rw[eW,hx,dt]at F;rcases F with F|F
 ·exact J y F
 ·rw[cZ.1 F];exact H
def KpB(n₀ Bt:Nat)(W W':World):Prop:=Below n₀ W W'/\W'.heap[Bt]?=W.heap[Bt]?
theorem QY{α:Type}(g:α->Cp)(L:List α)(n:Nat)(hn:1<=n)(l Bb Bt n₀:Nat)(B:Bk)(ag:L.map g=B.ah)(nm:qB)(a1 a2 a3:qO)(c1 c2 c3:Nat)(bI:B.ah.length<=1048576)(aG:Hid (Di B.ah))(HK:Hid (B.ah.length<=c2))(J Jx:List α->World->Prop)
  (hY:∀Z x c W,g x=c->J Z W->Z.length<(ofG g nm L).length->YieldAt Fence.wide (n - 1) Tryz.prog l #[.agg (qcV c)] W λe W'=>
   (e=.returned (.bool true)/\J (Z++[x]) W'/\KpB n₀ Bt W W')\/(e=.returned (.bool false)/\Jx (Z++[x]) W'))
  (W:World) (aE:AbidesFrom W.heap.size J) (au:qBl W Bb (qbV B a1 c1 a2 c2 a3 c3) 28)
  (ai:qBl W Bt #[.string nm] 9) (hC:B.ah≠[]->∃b off,a2=some ⟨b,off,none⟩/\b<n₀/\M5 W b off B.ah) (aq:n₀<=W.heap.size) (h0:J [] W):
  CallsIn Fence.wide n Tryz.prog 237 #[.func (.yield l) #[] #[],.pointer (qad Bb),.pointer (qad Bt)] W λe W'=>(∃v,e=.returned v)/\
   ((∃ys,ys=ofG g nm L/\J ys W')\/(∃Z,True/\Jx Z W')):=by
 have bt:Bt<W.heap.size:=(AB ai).1;have bB:Bb<W.heap.size:=(AB au).1;have bl:Hid _:=ai;have bk:Hid _:=au;have e2:=AJ au 2 rfl;have et:=AJ ai 0 rfl;have a6:Hid (SlC W a2 B.ah):=λbM=>let ⟨b,off,e,hb,ah⟩:=hC bM;⟨b,off,e,AF hb aq,ah⟩
 have av:∀w1,Below W.heap.size W w1->J [] w1:=λw1 hb=>aE _ _ _ none h0 ⟨hb.os,hb.tape,hb.output,hb.size,λi hi _=>hb.block i hi⟩ (λr e=>by cases e)
 clear ai au;refine callsIn_of_wp Tryz.func237 rfl trivial ?_ rfl;simp only[Tryz.ntmps237,ek,dL,iy,Nat.reduceAdd,Nat.reduceSub,iS,Array.replicate_zero,jb,iX,eZ,fb]
 gi_wp2
 refine⟨trivial,?_⟩;refine((callsIn_wide (n:=n - 1)).2 (bsC_any B.ah nm a2 B.ah.length c2 W rfl bI aG a6)).mono ?_;rintro e w1 ⟨f,fd,rfl,b9,aT,bb,H⟩;have bo:Hid _:=aT;have a4:Hid _:=bb;clear aT bb e2 et;have an:J [] w1:=av w1 H;have bj:Hid _:=AK H bl.O bt;have aw:Below n₀ W w1:=H.mono aq;have e2:=AJ (AK H bk.O bB) 2 rfl;have aK:L.length=B.ah.length:=by rw[<-ag,fw]
 have bZ:n₀<=w1.heap.size:=AH aq H.size;have bN:Bt<w1.heap.size:=AF bt H.size;have aW:∀s W1 o,J s W1->J s (W1.alloc o):=λs W1 o hs=>aE s _ _ none hs (World.grownBy_alloc W1 o none) (λr e=>by cases e)
 have aF:Hid (Di (L.map g)):=by unfold Hid;rw[ag];exact aG.O
 have aH:Hid (∀(i:Nat) s,i<f->(L.map g)[i]?=some s->Op.bytesLess s.aa.toList nm.toList=true):=by unfold Hid;rw[ag];exact bo.O
 have ax:Hid (∀(i:Nat) s,f<=i->(L.map g)[i]?=some s->Op.bytesLess s.aa.toList nm.toList=false):=by unfold Hid;rw[ag];exact a4.O
 clear bk bl H a6 bo a4 av aE h0 aG
 by_cases aI:f<B.ah.length
 ·have af:¬(c2=f):=by have:=HK.O;omega
  obtain⟨b,off,ea,bH,ah⟩:=hC (by intro h;rw[h]at aI;simp at aI);subst ea;have bE:Hid (M5 W b off B.ah):=ah;obtain⟨m,hm⟩:∃m,B.ah.length - f=m:=⟨_,rfl⟩;have b8:m<=1048576:=by omega
  have HM:Hid (f+m=B.ah.length):=by unfold Hid;omega
  clear hC ah aI
  gi_wp2
  clear e2 hm af
  gi_loopw [20] (λi wr=>∃k:Nat,k<=m/\i=.int .i64 k/\Hid (∀x∈(L.drop f).take k,((g x).aa.toList==nm.toList)=true)/\J ((L.drop f).take k) wr/\Below n₀ W wr/\Hid (qBl wr Bt #[.string nm] 9))
   (λi _=>m - (intOf i).toNat)
  case atStart=>exact⟨0,AI _,rfl,(by intro x hx;simp at hx),an,aw,bj⟩
  case round=>
   clear bj aw an;obtain⟨k,hk,rfl,ar,Y,aM,aA⟩:=hrel
   by_cases b7:k<m
   ·obtain⟨x,ay⟩:∃x,(L.drop f)[k]?=some x:=⟨(L.drop f)[k]'(by rw[dW,aK];have:=HM.O;omega),by rw[dj]⟩
    have al:Hid ((L.drop f)[k]?=some x):=ay;have aC:B.ah[f+k]?=some (g x):=by rw[<-ag,eh,<-ej,ay];rfl
    obtain⟨c,aL⟩:∃c,g x=c:=⟨_,rfl⟩;have am:Hid (g x=c):=aL;rw[aL]at aC;have aS:=(bE.O (f+k) c aC).below aM bH;rw[fi,<-eq]at aS;clear aL aC ay;unfold CpAt at aS;obtain⟨x0,x1,x2,x3,x4,x5,x6⟩:=aS;have bX:=AJ aA.O 0 rfl;have br:Bt<wr.heap.size:=(AB aA.O).1;have a9:=AN wr (.cells (qcV c) 76);have bf:=aM.trans (a9.mono (AH aq aM.size));have a7:Hid _:=AK a9 aA.O br;have bm:J ((L.drop f).take k) (wr.alloc (.cells (qcV c) 76)):=aW _ _ _ Y;cases M:(c.aa.toList==nm.toList)
    ·have F:Hid (ofG g nm L=(L.drop f).take k):=NT g nm L f k aF.O aH.O ax.O ar.O (λy hy=>by rw[al.O]at hy;cases hy;rw[am.O];exact M)
     gi_wp2
     refine⟨λ_ h=>(by cases h),?_⟩
     gi_wp2
     refine dS (results_none rfl _ _ _) rfl ?_;exact⟨⟨_,rfl⟩,.inl ⟨_,F.O.symm,bm⟩⟩
    ·have bO:Hid ((L.drop f).take (k+1)=(L.drop f).take k++[x]):=by unfold Hid;rw[eW,al.O];rfl
     have bi:Hid (∀x∈(L.drop f).take (k+1),((g x).aa.toList==nm.toList)=true):=take_all (L.drop f) (λy=>(g y).aa.toList==nm.toList) k x al.O (by show((g x).aa.toList==nm.toList)=true;rw[am.O];exact M) ar.O;obtain⟨fn,tmps,assign,body,hy,hR⟩:=hY _ x c (wr.alloc (.cells (qcV c) 76)) am.O bm (ofG_long g nm L f k x al.O (by rw[am.O];exact M) ar.O)
     gi_wp2
     refine hR.mono ?_;rintro e W3 (⟨rfl,bz,a8⟩|⟨rfl,bq⟩)
     ·gi_wp2
      go_roundw
      case rel=>exact⟨k+1,by omega,by go_num,bi,by rw[bO.O];exact bz,bf.trans a8.1,a8.2.trans a7.O⟩
      case measure=>simp[intOf];omega
     ·gi_wp2
      refine dS (results_none rfl _ _ _) rfl ?_;exact⟨⟨_,rfl⟩,.inr ⟨_,trivial,bq⟩⟩
   ·obtain rfl:k=m:=by omega
    have F:Hid (ofG g nm L=(L.drop f).take k):=NT g nm L f k aF.O aH.O ax.O ar.O (λy hy=>absurd (AC hy).1 (by rw[dW,aK];have:=HM.O;omega))
    gi_wp2
    go_end0
    exact⟨⟨_,rfl⟩,.inl ⟨_,F.O.symm,Y⟩⟩
 ·obtain rfl:f=B.ah.length:=by omega
  have F:Hid (ofG g nm L=[]):=NT g nm L B.ah.length 0 aF.O aH.O ax.O (by intro x hx;simp at hx) (λy hy=>absurd (AC hy).1 (by rw[dW,aK];omega))
  by_cases af:c2=B.ah.length
  ·subst af
   gi_wp2
   clear e2
   gi_loopw [20] (λi wr=>i=.int .i64 0/\J [] wr) (λ_ _=>0)
   case atStart=>exact⟨rfl,an⟩
   case round=>
    obtain⟨rfl,Y⟩:=hrel
    gi_wp2
    go_end0
    exact⟨⟨_,rfl⟩,.inl ⟨_,F.O.symm,Y⟩⟩
  ·have a5:=af
   clear af
   gi_wp2
   clear e2 a5
   gi_loopw [20] (λi wr=>i=.int .i64 0/\J [] wr) (λ_ _=>0)
   case atStart=>exact⟨rfl,an⟩
   case round=>
    obtain⟨rfl,Y⟩:=hrel
    gi_wp2
    go_end0
    exact⟨⟨_,rfl⟩,.inl ⟨_,F.O.symm,Y⟩⟩
theorem Nn(n:Nat)(hn:1<=n)(Z Bt n₀:Nat)(B:Bk)(nm:qB)(a1 a2 a3:qO)(c1 c2 c3:Nat)(ah:B.ah.length<=1048576)(ag:Hid (Di B.ah))(HK:Hid (B.ah.length<=c2))(w:World)
  (H:qBl w Z (qbV B a1 c1 a2 c2 a3 c3) 28)
  (M:qBl w Bt #[.string nm] 9) (hC:B.ah≠[]->∃b off,a2=some ⟨b,off,none⟩/\b<n₀/\M5 w b off B.ah) (F:n₀<=w.heap.size):
  SeqStopsK Fence.wide n Tryz.prog 237 #[.pointer (qad Z),.pointer (qad Bt)] (λx:Cp=>#[.agg (qcV x)]) (KpB n₀ Bt) (λys=>ys=ofS nm B.ah) (λ_=>True) (ofS nm B.ah).length w:=λl J Jx W Y af _ hY h0=>
 QY id B.ah n hn l Z Bt n₀ B (List.map_id _) nm a1 a2 a3 c1 c2 c3 ah ag HK J Jx (λaa x c W e=>by subst e;exact hY aa x W) W af ((Y.block Z (AB H).1).trans H) ((Y.block Bt (AB M).1).trans M)
  (λai=>let ⟨b,off,e,hb,hat⟩:=hC ai;⟨b,off,e,hb,λi s hs=>(hat i s hs).below Y (AF hb F)⟩) (AH F Y.size) h0
end
section
open Go.RowKit Go.Sort
theorem A3{w:World}{k b:Nat}{x:Option Obj}(h:w.heap[k]?=x)(o:Nat)(v:Value)(F:k≠b):(w.setCell ⟨b,o,none⟩ v).heap[k]?=x:=(Below.heap_setCell _ _ _ _ F).trans h
end
end Go.Proofs.YtbceafpodamnfaaGreatDoor
