import Derived.Test.YtbceafpodamnfaaGreatDoorG30
set_option linter.all false
set_option maxHeartbeats 16000000
set_option maxRecDepth 100000
namespace Go.Proofs.YtbceafpodamnfaaGreatDoor
section
open Go.RowKit Go.Sort
theorem JL(l:List Bx)(ap:qO)(cp:Nat)(B:Bk)(a1 a2 a3:qO)(c1 c2 c3:Nat)(m:Mv)(w:World)(F:0<=m.bl)(H:m.bl<=1000)(M:m.ev.aD)(J:WA w ap l a1 a2 a3 B):
  Calls Tryz.prog 49 #[.agg (qwV ap l.length cp B a1 c1 a2 c2 a3 c3),.agg #[.int .i64 m.st,.int .i64 m.bl,.int .i64 m.ev.kind,.string m.ev.aa.name,.int .i64 m.ev.aa.ag,.bool m.ev.aa.aH,.int .i64 m.ev.aa.ar,.int .i64 m.ev.aa.av,.int .i64 m.ev.aa.aG,.int .i64 m.ev.aa.aE,.int .i64 m.ev.aa.next,.int .i64 m.ev.aa.aM,.int .i64 m.ev.aa.aC,.int .i64 m.ev.aa.aK,.int .i64 m.ev.aa.load,.int .i64 m.ev.aa.ay,.string m.ev.name,.int .i64 m.ev.ai,.bool m.ev.bf]] w λe w'=>DoIs w e w':=by
 cases h:inB m.st 1 6
 ·exact do_sea l ap cp B a1 a2 a3 c1 c2 c3 m w h M J
 ·exact do_ask l ap cp B a1 a2 a3 c1 c2 c3 m w h F H J
theorem IntRow.bw{w:World}{g n cap:Nat}(h:IntRow w g n cap):∃F:List Value,F.length=n/\(∀j u,F[j]?=some u->w.cell? ((⟨g,0,none⟩:Addr).add j)=some u)/\∀u∈F,∃k,u=.int .i64 k:=by
 obtain⟨Y,J,M,Z,W⟩:=h;refine⟨J.toList.take n,by rw[dG,dT];omega,λj u H=>?_,λu H=>W u (eE H)⟩;rw[fJ,dJ];refine AJ M j ?_;rw[eK]at H;split at H
 ·simpa using H
 ·cases H
theorem int_row{w:World}{b:Nat}{cs:Array Value}(h:qBl w b cs 3)(F:∀u∈cs.toList,∃k,u=.int .i64 k):IntRow w b cs.size cs.size:=⟨AG _,cs,h,rfl,F⟩
theorem IntRow.aB{w w':World}{g H h n cap:Nat}(J:IntRow w h n cap)(F:h≠g)(M:(H=g/\A6 g w w')\/(H=w.heap.size/\Below w.heap.size w w')):IntRow w' h n cap/\h≠H:=by
 rcases M with⟨rfl,on⟩|⟨rfl,hb⟩
 ·exact⟨J.aR (on.aB h F),F⟩
 ·exact⟨J.below hb,by have:=J.lt;omega⟩
theorem Hn{w w':World}{g F N:Nat}(H:N<=g)(J:N<=w.heap.size)(M:(F=g/\A6 g w w')\/(F=w.heap.size/\Below w.heap.size w w')):Below N w w'/\N<=F:=by
 rcases M with⟨rfl,on⟩|⟨rfl,hb⟩
 ·exact⟨on.below.mono H,H⟩
 ·exact⟨hb.mono J,J⟩
structure OrU(T ga ca g0:Nat)(w:World)(no g cap:Nat)(wr:World):Prop where
 row:IntRow wr g no cap
 all:IntRow wr ga T ca
 ne:ga≠g
 gg:g0<=g
 g0:w.heap.size<=g0
 below:Below w.heap.size w wr
theorem OrU.aX{T ga ca g0 no g cap:Nat}{w wr w':World}(h:OrU T ga ca g0 w no g cap wr)(hb:Below wr.heap.size wr w'):OrU T ga ca g0 w no g cap w':=⟨h.row.below hb,h.all.below hb,h.ne,h.gg,h.g0,h.below.trans (hb.mono h.below.size)⟩
theorem OrU.bD{T ga ca g0 no g cap H F:Nat}{w wr w':World}(h:OrU T ga ca g0 w no g cap wr)(J:(H=g/\A6 g wr w')\/(H=wr.heap.size/\Below wr.heap.size wr w'))(Y:IntRow w' H (no+1) F):OrU T ga ca g0 w (no+1) H F w':=
 have h1:=h.row.lt;have Z:=h.gg;have W:=h.g0;have M:=h.all.aB h.ne J;have hb:=Hn (N:=g0) Z (by omega) J
 ⟨Y,M.1,M.2,hb.2,W,h.below.trans (hb.1.mono W)⟩
theorem R6(b n c:Nat)(w:World)(hn:n<=100)(hI:IntRow w b n c):
  Calls Tryz.prog 78 #[.slice (qad b) n c] w λe w'=>∃g n' cap,e=.returned (.slice (qad g) n' cap)/\IntRow w' g n' cap/\n'<=106/\Below w.heap.size w w':=by
 have HI:Hid (IntRow w b n c):=hI;clear hI;go_enter Tryz.func78,Tryz.ntmps78
 go_upto_region 2 with fail
 obtain⟨W1,an⟩:∃W1,w.alloc (.cells #[] 3)=W1:=⟨_,rfl⟩;rw[an];have ak:Below w.heap.size w W1:=by rw[<-an];exact AN _ _
 have I0:Hid (IntRow W1 w.heap.size 0 0):=by unfold Hid;rw[<-an];exact IntRow.new w
 obtain⟨g0,aI⟩:∃g0,w.heap.size=g0:=⟨_,rfl⟩;rw[aI]at I0;rw[aI];clear an;obtain⟨ah,aK,a4,aH⟩:=(HI.O.below ak).bw;have aW:=I0.O.lt;have NW:Hid (∀u∈ah,∃k,u=Value.int .i64 k):=aH
 have NC:Hid (∀j u,ah[j]?=some u->(W1.alloc (.cells #[] 3)).cell? ((⟨b,0,none⟩:Addr).add j)=some u):=λj u hu=>by
  have h1:=a4 j u hu;rw[fJ]at h1 ⊢;rw[(AN W1 _).cell (p:=⟨b,0+j,none⟩) (by have:=HI.O.lt;have:=ak.size;show b<W1.heap.size;omega)];exact h1
 have IN:Hid (IntRow (W1.alloc (.cells #[] 3)) W1.heap.size 0 0):=IntRow.new W1;have a6:Hid (ah.length=n):=aK;clear aK a4 aH
 go_upto_region 3 with(first
  |((with_reducible show wpList _ _ _ _ _ _);refine Cw rfl (.tmp 9) (.tmp 10) 48 rfl Tryz.underlying48 W1.heap.size 0 0 rfl IN.O ⟨b,0,none⟩ n c ah rfl a6.O NC.O NW.O (by omega) ?_;intro g1 au w2 hr hi;rw[dJ]at hi;have I2:Hid (IntRow w2 g1 n au):=hi;have O2:Hid _:=(I0.O.below (AN W1 _)).aB (by omega) hr;have B2:Hid _:=(Hn (N:=W1.heap.size) (AG _) (AN W1 _).size hr);clear hr hi;simp only[Act.put])
  |((with_reducible show wpList _ _ _ _ _ _);refine Cw rfl (.tmp 11) (.tmp 12) 48 rfl Tryz.underlying48 g1 n au rfl (I2.O.below (AN w2 _)) ⟨w2.heap.size,0,none⟩ 6 6 [.int .i64 1,.int .i64 2,.int .i64 3,.int .i64 4,.int .i64 5,.int .i64 6] rfl rfl (FX (dm w2 _)) (λu hu=>by simp at hu;rcases hu with rfl|rfl|rfl|rfl|rfl|rfl<;>exact⟨_,rfl⟩) (by omega) ?_;intro ga ca w3 hr hi;have I3:Hid (IntRow w3 ga (n+6) ca):=hi;have O3:Hid _:=(O2.O.1.below (AN w2 _)).aB O2.O.2 hr;have B3:Hid _:=(Hn (N:=W1.heap.size) B2.O.2 (AH (AN W1 _).size (AH B2.O.1.size (AN w2 _).size)) hr);clear hr hi;simp only[Act.put]))
 obtain⟨T,hT⟩:∃T,n+6=T:=⟨_,rfl⟩;rw[hT]at I3;rw[hT];have br:T<=106:=by omega
 clear hT;have ar:=ak.size;have J0:Hid (OrU T ga ca g0 w 0 g0 0 w3):=⟨O3.O.1,I3.O,Ne.symm O3.O.2,AG _,by omega,(((ak.trans ((AN W1 _).mono ar)).trans (B2.O.1.mono ar)).trans ((AN w2 _).mono (by have:=B2.O.1.size;have:=(AN W1 (.cells #[] 3)).size;omega))).trans (B3.O.1.mono ar)⟩;clear I0 I2 I3 O2 O3 B2 B3 HI NW NC IN a6 ak ar aW
 go_upto_region 4 with fail
 go_loopw [3,5] (λv3 iv wr=>∃k no g cap:Nat,k<=T/\iv=.int .i64 k/\v3=.slice (qad g) no cap/\no<=k/\OrU T ga ca g0 w no g cap wr) (λ_ i _=>T - (intOf i).toNat)
 case atStart=>exact⟨0,0,g0,0,by omega,rfl,rfl,AG _,J0.O⟩
 case round=>
  clear J0;obtain⟨k,no,g,cap,hk,rfl,rfl,b7,hJ⟩:=hrel;have J:Hid _:=hJ;clear hJ
  by_cases bm:k<T
  rotate_left
  ·go_wp2
   go_ret;exact⟨g,no,cap,rfl,J.O.row,by omega,J.O.below⟩
  obtain⟨kb,a5⟩:=J.O.all.cell bm;have aq:Hid _:=a5;have bt:=J.O.all.lt;have aW:=J.O.row.lt;clear a5
  go_upto_region 8 with fail
  go_loopw [6,7] (λv6 jv wq=>∃(bb:Bool) (j:Nat),j<=no/\v6=.bool bb/\jv=.int .i64 j/\Below wr.heap.size wr wq) (λ_ i _=>no - (intOf i).toNat)
  case atStart=>exact⟨false,0,by omega,rfl,rfl,dI _ _⟩
  case round=>
   obtain⟨bb,j,hj,rfl,rfl,ai⟩:=hrel;have aM:=ai.size;have aq:Hid _:=(ai.cell (p:=⟨ga,k,none⟩) bt).trans aq.O
   by_cases bj:j<no
   ·obtain⟨ka,aT⟩:=(J.O.row.below ai).cell bj
    have bq:Hid _:=aT;clear aT;cases bb
    ·go_upto_region 10 with fail
     refine AV 12 (by kernel_rfl) (by kernel_rfl) ?_;apply AL
     ·intro V W K A Y F H M
      simp only[pA]at H;clear F;obtain rfl:=H;go_wp2;exact M.O _ brf
     apply AL
     ·intro V W K A Y F H M
      have d0:V 0=_:=F 0 (by kernel_rfl);simp only[pA,d0,d0]at H;clear F d0;obtain rfl:=H;go_wp2;exact M.O _ brf
     apply AL
     ·intro V W K A Y F H M
      have d1:V 1=_:=F 1 (by kernel_rfl);simp only[pA,d1,d1]at H;clear F d1;obtain rfl:=H;go_wp2;exact M.O _ brf
     apply AL
     ·intro V W K A Y F H M
      have d1:V 1=_:=F 1 (by kernel_rfl);simp only[pA,d1,d1]at H;clear F d1;obtain rfl:=H;go_wp2;exact M.O _ brf
     apply AL
     ·intro V W K A Y F H M
      have d1:V 1=_:=F 1 (by kernel_rfl);have d2:V 2=_:=F 2 (by kernel_rfl);have d3:V 3=_:=F 3 (by kernel_rfl);simp only[pA,d1,d2,d3,d1,d2,d3]at H;clear F d1 d2 d3;obtain rfl:=H;go_wp2;exact M.O _ brf
     apply AL
     ·intro V W K A Y F H M
      have d1:V 1=_:=F 1 (by kernel_rfl);have d4:V 4=_:=F 4 (by kernel_rfl);simp only[pA,d1,d4,d1,d4]at H;clear F d1 d4;obtain rfl:=H;have b6:W.cell? ⟨g,j,none⟩=some (.int .i64 ka):=by rw[Y.cell (p:=⟨g,j,none⟩) (by show g<_;omega)];exact bq.O
      go_wp2;exact M.O _ brf
     apply AL
     ·intro V W K A Y F H M
      have d1:V 1=_:=F 1 (by kernel_rfl);simp only[pA,d1,d1]at H;clear F d1;obtain rfl:=H;go_wp2;exact M.O _ brf
     apply AL
     ·intro V W K A Y F H M
      have d1:V 1=_:=F 1 (by kernel_rfl);simp only[pA,d1,d1]at H;clear F d1;obtain rfl:=H;go_wp2;exact M.O _ brf
     apply AL
     ·intro V W K A Y F H M
      have d1:V 1=_:=F 1 (by kernel_rfl);have d6:V 6=_:=F 6 (by kernel_rfl);have d7:V 7=_:=F 7 (by kernel_rfl);simp only[pA,d1,d6,d7,d1,d6,d7]at H;clear F d1 d6 d7;obtain rfl:=H;go_wp2;exact M.O _ brf
     apply AL
     ·intro V W K A Y F H M
      have d1:V 1=_:=F 1 (by kernel_rfl);have d8:V 8=_:=F 8 (by kernel_rfl);simp only[pA,d1,d8,d1,d8]at H;clear F d1 d8;obtain rfl:=H;have bz:W.cell? ⟨ga,k,none⟩=some (.int .i64 kb):=by rw[Y.cell (p:=⟨ga,k,none⟩) (by show ga<_;omega)];exact aq.O
      go_wp2;exact M.O _ brf
     apply AL
     ·intro V W K A Y F H M
      have d1:V 1=_:=F 1 (by kernel_rfl);have d5:V 5=_:=F 5 (by kernel_rfl);have d9:V 9=_:=F 9 (by kernel_rfl);simp only[pA,d1,d5,d9,d1,d5,d9]at H;clear F d1 d5 d9;obtain rfl:=H;go_wp2;exact M.O _ brf
     apply AL
     ·intro V W K A Y F H M
      have d1:V 1=_:=F 1 (by kernel_rfl);have ag:V 10=_:=F 10 (by kernel_rfl);simp only[pA,d1,ag,d1,ag]at H;clear F d1 ag;obtain rfl:=H;go_wp2;exact M.O _ brf
     intro V W A Y Z H;have d0:V 0=_:=Z 0 (by omega);have d1:V 1=_:=Z 1 (by omega);have d2:V 2=_:=Z 2 (by omega);have d3:V 3=_:=Z 3 (by omega);have d4:V 4=_:=Z 4 (by omega);have d5:V 5=_:=Z 5 (by omega);have d6:V 6=_:=Z 6 (by omega);have d7:V 7=_:=Z 7 (by omega);have d8:V 8=_:=Z 8 (by omega);have d9:V 9=_:=Z 9 (by omega);have ag:V 10=_:=Z 10 (by omega);have af:V 11=_:=Z 11 (by omega);simp only[pA,d0,d1,d2,d3,d4,d5,d6,d7,d8,d9,ag,af,d0,d1,d2,d3,d4,d5,d6,d7,d8,d9,ag,af]at H;clear Z d0 d1 d2 d3 d4 d5 d6 d7 d8 d9 ag af;obtain rfl:=H;simp only[dl,dF];go_wp2
     go_roundw
     case rel=>exact⟨_,j+1,by omega,rfl,by go_num,ai.trans (Y.mono aM)⟩
     case measure=>simp[intOf];omega
    ·go_upto_region 10 with fail
     refine AV 12 (by kernel_rfl) (by kernel_rfl) ?_;apply AL
     ·intro V W K A Y F H M
      simp only[pA]at H;clear F;obtain rfl:=H;go_wp2;exact M.O _ brf
     apply AL
     ·intro V W K A Y F H M
      have d0:V 0=_:=F 0 (by kernel_rfl);simp only[pA,d0,d0]at H;clear F d0;obtain rfl:=H;go_wp2;exact M.O _ brf
     refine AW (λ_ _=>True) (λ_ _ _ _ _=>trivial) ?_ ?_
     ·intro V W K A Y F H M
      have d1:V 1=_:=F 1 (by kernel_rfl);simp only[pA,d1,d1]at H;clear F d1;obtain rfl:=H;go_wp2;exact M.O _ _ brf trivial
     refine AW (λ_ _=>True) (λ_ _ _ _ _=>trivial) ?_ ?_
     ·intro V W K A Y F H M
      have d1:V 1=_:=F 1 (by kernel_rfl);simp only[pA,d1,d1]at H;clear F d1;obtain rfl:=H;go_wp2;exact M.O _ _ brf trivial
     refine AW (λ_ _=>True) (λ_ _ _ _ _=>trivial) ?_ ?_
     ·intro V W K A Y F H M
      have d1:V 1=_:=F 1 (by kernel_rfl);simp only[pA,d1,d1]at H;clear F d1;obtain rfl:=H;go_wp2;exact M.O _ _ brf trivial
     refine AW (λ_ _=>True) (λ_ _ _ _ _=>trivial) ?_ ?_
     ·intro V W K A Y F H M
      have d1:V 1=_:=F 1 (by kernel_rfl);simp only[pA,d1,d1]at H;clear F d1;obtain rfl:=H;go_wp2;exact M.O _ _ brf trivial
     refine AW (λ_ _=>True) (λ_ _ _ _ _=>trivial) ?_ ?_
     ·intro V W K A Y F H M
      have d1:V 1=_:=F 1 (by kernel_rfl);simp only[pA,d1,d1]at H;clear F d1;obtain rfl:=H;go_wp2;exact M.O _ _ brf trivial
     refine AW (λ_ _=>True) (λ_ _ _ _ _=>trivial) ?_ ?_
     ·intro V W K A Y F H M
      have d1:V 1=_:=F 1 (by kernel_rfl);simp only[pA,d1,d1]at H;clear F d1;obtain rfl:=H;go_wp2;exact M.O _ _ brf trivial
     refine AW (λ_ _=>True) (λ_ _ _ _ _=>trivial) ?_ ?_
     ·intro V W K A Y F H M
      have d1:V 1=_:=F 1 (by kernel_rfl);simp only[pA,d1,d1]at H;clear F d1;obtain rfl:=H;go_wp2;exact M.O _ _ brf trivial
     refine AW (λ_ _=>True) (λ_ _ _ _ _=>trivial) ?_ ?_
     ·intro V W K A Y F H M
      have d1:V 1=_:=F 1 (by kernel_rfl);simp only[pA,d1,d1]at H;clear F d1;obtain rfl:=H;go_wp2;exact M.O _ _ brf trivial
     refine AW (λ_ _=>True) (λ_ _ _ _ _=>trivial) ?_ ?_
     ·intro V W K A Y F H M
      have d1:V 1=_:=F 1 (by kernel_rfl);simp only[pA,d1,d1]at H;clear F d1;obtain rfl:=H;go_wp2;exact M.O _ _ brf trivial
     apply AL
     ·intro V W K A Y F H M
      have d1:V 1=_:=F 1 (by kernel_rfl);simp only[pA,d1,d1]at H;clear F d1;obtain rfl:=H;go_wp2;exact M.O _ brf
     intro V W A Y Z H;have d0:V 0=_:=Z 0 (by omega);have d1:V 1=_:=Z 1 (by omega);have af:V 11=_:=Z 11 (by omega);simp only[pA,d0,d1,af,d0,d1,af]at H;clear Z d0 d1 af;obtain rfl:=H;simp only[dl,dF];go_wp2
     go_roundw
     case rel=>exact⟨_,j+1,by omega,rfl,by go_num,ai.trans (Y.mono aM)⟩
     case measure=>simp[intOf];omega
   have J2:Hid _:=J.O.aX ai;cases bb
   rotate_left
   ·go_wp2
    go_roundw
    case rel=>exact⟨k+1,no,g,cap,by omega,by go_num,rfl,by omega,J2.O⟩
    case measure=>simp[intOf];omega
   have bz:=aq.O;cases bY:inB kb 1 6
   ·go_wp2_with (go_at_call 63;refine(Cd _ _ _ _).mono ?_;rintro e w5 ⟨rfl,rfl⟩)
    go_roundw
    case rel=>exact⟨k+1,no,g,cap,by omega,by go_num,rfl,by omega,J2.O⟩
    case measure=>simp[intOf];omega
   ·go_wp2_with (first|(go_at_call 63;refine(Cd _ _ _ _).mono ?_;rintro e w5 ⟨rfl,rfl⟩)|((with_reducible show wpList _ _ _ _ _ _);refine Cw rfl (.tmp 47) (.tmp 52) 48 rfl Tryz.underlying48 g no cap rfl (OrU.row (J2.O.aX (AN _ _))) ⟨_,0,none⟩ 1 1 [.int .i64 kb] rfl rfl (RN (dm _ _)) (λu hu=>⟨kb,by simpa using hu⟩) (by omega) ?_;intro g2 aL w7 hr hi;have J7:Hid _:=(J2.O.aX (AN _ _)).bD hr hi;clear hr hi;simp only[Act.put]))
    go_roundw
    case rel=>exact⟨k+1,no+1,g2,aL,by omega,by go_num,rfl,by omega,J7.O⟩
    case measure=>simp[intOf];omega
structure But(r:Option Nat)(W W':World):Prop where
 os:W'.os=W.os
 tape:W'.tape=W.tape
 output:W'.output=W.output
 size:W.heap.size<=W'.heap.size
 block:∀k,k<W.heap.size->r≠some k->W'.heap[k]?=W.heap[k]?
theorem But.refl(r:Option Nat)(W:World):But r W W:=⟨rfl,rfl,rfl,AG _,λ_ _ _=>rfl⟩
theorem But.trans{r:Option Nat}{A B C:World}(h:But r A B)(k:But r B C):But r A C:=⟨k.os.trans h.os,k.tape.trans h.tape,k.output.trans h.output,AH h.size k.size,λi F H=>(k.block i (AF F h.size) H).trans (h.block i F H)⟩
theorem But.of{r:Option Nat}{W W':World}(h:Below W.heap.size W W'):But r W W':=⟨h.os,h.tape,h.output,h.size,λk hk _=>h.block k hk⟩
theorem But.below{r:Option Nat}{W W':World}{N:Nat}(h:But r W W')(H:N<=W.heap.size)(F:∀k,r=some k->N<=k):Below N W W':=⟨h.os,h.tape,h.output,h.size,λk hk=>h.block k (by omega) λe=>by have:=F _ e;omega⟩
section
variable {P:Program}
theorem F9{ops:Array Oper}{rest:List Oper}{o:Oper}{a:Act}{w:World}{Q:Exit->Act->World->Prop}(ai:o.guard=none)(s x:Operand)(t:TypeId)
  (ho:o.op=.call {callee:=.builtin .append,args:=#[s,x],argTypes:=#[t,t]})
  (F:Nat) (e:TypeId) (z:Value) (size bytes:Nat) (ht:P.underlying t=some (.slice e)) (aa:(P.info? e).map (λi=>(i.zero,i.size,i.bytes))=some (some z,size,bytes)) (aq:z.cells.size=size) (an:0<size)
  (v:Value) (n:Nat) (xs:qL) (hs:a.eval s=v) (W:w.ownsRow F e size v n xs)
  (da:Addr) (c:Nat) (J:qL) (hx:a.eval x=.slice (some da) 1 c) (hl:J.length=1*size) (Z:∀j u,J[j]?=some u->w.cell? (da.add j)=some u) (h1:∀u∈J,u.oneCell'=true)
  (ag:n+1<=maxLen) (M:(n+1)*bytes<=140737488355328) (Y:F<=w.heap.size)
  (h:∀g cap w',F<=g->Hid (w'.ownsRow F e size (.slice (qad g) (n+1) cap) (n+1) (xs++J))->Below F w w'->But v.ownBlock w w'->wpList P ops Q rest (a.put o.dst (.slice (qad g) (n+1) cap)) w'):wpList P ops Q (o::rest) a w:=by
 obtain⟨i,hi,hz,am,hb⟩:=gA aa;refine je w ai s x t ho F e i z size bytes ht hi hz am hb aq an v n xs hs W da 1 c J hx hl Z h1 ag M Y λv' w' af H _=>?_
 have ak:Below F w w':=⟨H.os,H.tape,H.output,H.size,λk hk=>H.block k (by omega) (λe'=>by have:=(W.lt k e'.symm).1;omega)⟩;rcases af.2 with⟨_,h0⟩|⟨g,cap,aA,rfl,ah,_⟩
 ·omega
 ·exact h g cap w' ah af ak ⟨H.os,H.tape,H.output,H.size,λk hk au=>H.block k hk (λe'=>au e'.symm)⟩
end
theorem K6{w w':World}{F n size:Nat}{e:TypeId}{v:Value}{xs:qL}(h:w.ownsRow F e size v n xs)(hb:Below w.heap.size w w'):w'.ownsRow F e size v n xs:=by
 refine⟨h.1,?_⟩;rcases h.2 with h|⟨g,cap,H,M,W,J,Y⟩
 ·exact .inl h
 ·exact .inr ⟨g,cap,H,M,W,AK hb J (AB J).1,Y⟩
theorem BkRow.but{N n g1 g2 g3 k1 k2 k3:Nat}{r:Option Nat}{W W':World}{B:Bk}(h:BkRow W N g1 g2 g3 k1 k2 k3 B)(hb:But r W W')(F:∀k,r=some k->k<n)(Y:n<=N):BkRow W' N g1 g2 g3 k1 k2 k3 B:=by
 have M:=h.n1;have J:=h.n2;have H:=h.n3;exact⟨h.n1,h.n2,h.n3,h.af.aR (hb.block g1 h.af.lt λe=>by have:=F _ e;omega),h.ah.aR (hb.block g2 h.ah.lt λe=>by have:=F _ e;omega),h.ak.aR (hb.block g3 h.ak.lt λe=>by have:=F _ e;omega)⟩
theorem BkRow.n{W:World}{N H g1 g2 g3 k1 k2 k3:Nat}{B:Bk}(h:BkRow W N g1 g2 g3 k1 k2 k3 B)(F:H<=N):BkRow W H g1 g2 g3 k1 k2 k3 B:=⟨AH F h.n1,AH F h.n2,AH F h.n3,h.af,h.ah,h.ak⟩
def Qo(W W':World):Prop:=∀(c:Nat) (cs:Array Value) (t:TypeId) (fr:Nat × Nat),t≠28->t≠30->W.heap[c]?=some (Obj.cells cs t fr)->W'.heap[c]?=W.heap[c]?
theorem RowIs.bn{W W':World}{e:TypeId}{size g n cap:Nat}{xs:qL}(h:RowIs W e size g n cap xs)(M:Qo W W')(H:e≠28)(J:e≠30):RowIs W' e size g n cap xs:=by
 obtain⟨_,_,Y,F,_⟩:=id h;exact h.aR (M _ _ _ _ H J F)
theorem BkRow.bn{W W':World}{N g1 g2 g3 k1 k2 k3:Nat}{B:Bk}(h:BkRow W N g1 g2 g3 k1 k2 k3 B)(F:Qo W W'):BkRow W' N g1 g2 g3 k1 k2 k3 B:=
 ⟨h.n1,h.n2,h.n3,h.af.bn F (by decide) (by decide),h.ah.bn F (by decide) (by decide),h.ak.bn F (by decide) (by decide)⟩
def BxOwn(W:World)(y:Bx):Prop:=(∃h1 h2 h3,y.a1=some ⟨h1,0,none⟩/\y.a2=some ⟨h2,0,none⟩/\y.a3=some ⟨h3,0,none⟩/\BkRow W 0 h1 h2 h3 y.c1 y.c2 y.c3 y.b)/\y.b.aD/\y.b.aO
theorem BxOwn.bn{W W':World}{y:Bx}(h:BxOwn W y)(F:Qo W W'):BxOwn W' y:=let ⟨⟨h1,h2,h3,e1,e2,e3,hk⟩,hz⟩:=h;⟨⟨h1,h2,h3,e1,e2,e3,hk.bn F⟩,hz⟩
theorem BxOwn.at{W:World}{y:Bx}(h:BxOwn W y):BkAt W y.a1 y.a2 y.a3 y.b:=by
 obtain⟨⟨H,J,M,F,e2,e3,hk⟩,_⟩:=h;rw[F,e2,e3];exact hk.at
theorem Gf{W W':World}{x:Nat}{cs:Array Value}{fr:Nat × Nat}(hx:W.heap[x]?=some (.cells cs 30 fr))(on:A6 x W W'):Qo W W':=λc M t J _ H F=>on.aB c λe=>by
 subst e;rw[hx]at F;injection F with F
 injection F with _ F
 exact H F.symm
theorem tame_but{W W':World}{N n:Nat}{v:Value}{xs:qL}(H:W.ownsRow N 28 4 v n xs)(hb:But v.ownBlock W W'):Qo W W':=λc cs t fr Y _ F=>hb.block c (AB F).1 λe=>by
 rcases H.2 with⟨h,_⟩|⟨g,cap,J,h,_,M,_⟩
 ·rw[h]at e;cases e
 ·rw[h]at e
  obtain rfl:=dg (show some g=some c from e);rw[M]at F;injection F with F
  injection F with _ F
  exact Y F.symm
theorem KC:(Tryz.prog.info? 23).map (·.size)=some 1:=by kernel_rfl
structure CyU(N x f v:Nat)(src:Array Value)(B:Bk)(g1 g2 g3 k1 k2 k3:Nat)(w:World)(k:Nat)(vs:Value)(M:List Bx)(wr:World):Prop where
 hx:qBl wr x src 30
 hf:qBl wr f #[.slice none 0 0,.int .i64 0,.slice none 0 0,.slice none 0 0,.slice none 0 0] 30
 hv:qBl wr v #[vs,.int .i64 B.aj,.slice (qad g1) B.af.length k1,.slice (qad g2) B.ah.length k2,.slice (qad g3) B.ak.length k3] 30
 aQ:wr.ownsRow N 28 4 vs k (E6 M)
 len:M.length=k
 bP:∀y∈M,BxOwn wr y
 bk:BkRow wr w.heap.size g1 g2 g3 k1 k2 k3 B
 below:Below w.heap.size w wr
 ns:N<=wr.heap.size
theorem past_of{N x f v k:Nat}{src:Array Value}{B:Bk}{g1 g2 g3 k1 k2 k3:Nat}{w wr:World}{vs:Value}{M:List Bx}(h:CyU N x f v src B g1 g2 g3 k1 k2 k3 w k vs M wr):∃F Y,vs=.slice F M.length Y/\SlX wr F M/\RowT wr F M:=by
 rcases h.aQ.2 with⟨e,e0⟩|⟨g,cap,H,e,_,J,h4,_,h5,h6⟩
 ·have W:M=[]:=gp (h.len.trans e0)
  subst W;exact⟨none,0,e,λh=>absurd rfl h,λh=>absurd rfl h⟩
 ·have Z:RowIs wr 28 4 g k cap (E6 M):=⟨h.aQ.1,h4,H,J,h5,h6⟩
  exact⟨_,cap,by rw[e,h.len],Z.slX 0,λ_ b off eb=>by
   injection eb with eb
   injection eb with eb _
   subst eb
   exact⟨_,_,J⟩⟩
def CpIs(w:World)(B:Bk)(e:Ending)(w':World):Prop:=∃(aq:qO) (M:List Bx) (cq g1 k1 g2 k2 g3 k3:Nat),e=.returned (.agg (qwV aq M.length cq B (qad g1) k1 (qad g2) k2 (qad g3) k3))/\WA w' aq M (qad g1) (qad g2) (qad g3) B/\BkRow w' w.heap.size g1 g2 g3 k1 k2 k3 B/\Below w.heap.size w w'
theorem PI(l:List Bx)(ap:qO)(cp:Nat)(B:Bk)(a1 a2 a3:qO)(c1 c2 c3:Nat)(w:World)(hW:WA w ap l a1 a2 a3 B):
  Calls Tryz.prog 50 #[.agg (qwV ap l.length cp B a1 c1 a2 c2 a3 c3)] w λe w'=>CpIs w B e w':=by
 have HW:Hid (WA w ap l a1 a2 a3 B):=hW;have c9:=hW.ok.len;clear hW
 obtain⟨W0,b9,t0,t1,aM,ar⟩:∃W0,(w.alloc (.cells (qwV ap l.length cp B a1 c1 a2 c2 a3 c3) 30)).alloc (.cells #[.slice none 0 0,.int .i64 0,.slice none 0 0,.slice none 0 0,.slice none 0 0] 30)=W0/\qBl W0 (w.heap.size) (qwV ap l.length cp B a1 c1 a2 c2 a3 c3) 30/\qBl W0 (w.heap.size+1) #[.slice none 0 0,.int .i64 0,.slice none 0 0,.slice none 0 0,.slice none 0 0] 30/\W0.heap.size=w.heap.size+1+1/\Below w.heap.size w W0:=by
  obtain⟨Y,H,F⟩:=B1 w (.cells (qwV ap l.length cp B a1 c1 a2 c2 a3 c3) 30) (.cells #[.slice none 0 0,.int .i64 0,.slice none 0 0,.slice none 0 0,.slice none 0 0] 30);exact⟨_,rfl,Y,H,F,(AN w _).alloc (by show w.heap.size<=(w.heap.push _).size;simp) _⟩
 obtain⟨x,hx⟩:∃x,w.heap.size=x:=⟨_,rfl⟩;obtain⟨f,hf⟩:∃f,x+1=f:=⟨_,rfl⟩;have T0:Hid _:=t0;have T1:Hid _:=t1;have bt:Hid _:=aM;clear t0 t1 aM;go_enter Tryz.func50,Tryz.ntmps50
 go_upto_region 1 with fail
 rw[hx]at T0;rw[hx,hf]at T1;clear b9;have e1:W0.cell? ⟨x,1,none⟩=some (.int .i64 B.aj):=AJ T0.O 1 rfl;have e2:W0.cell? ⟨x,2,none⟩=some (.slice a1 B.af.length c1):=AJ T0.O 2 rfl;have e3:W0.cell? ⟨x,3,none⟩=some (.slice a2 B.ah.length c2):=AJ T0.O 3 rfl;have e4:W0.cell? ⟨x,4,none⟩=some (.slice a3 B.ak.length c3):=AJ T0.O 4 rfl
 go_upto_region 2 with(go_at_call 62;refine(CU B a1 a2 a3 c1 c2 c3 _ HW.O.ok.bs.aJ (HW.O.bN.bj.below ar)).mono ?_;rintro e w1 ⟨g1,k1,g2,k2,g3,k3,rfl,hk,au⟩)
 clear e1 e2 e3 e4;have aM:=bt.O;obtain⟨W2,aw⟩:∃W2,w1.alloc (.cells #[.slice none 0 0,.int .i64 B.aj,.slice (qad g1) B.af.length k1,.slice (qad g2) B.ah.length k2,.slice (qad g3) B.ak.length k3] 30)=W2:=⟨_,rfl⟩;rw[aw];have ax:Below w1.heap.size w1 W2:=by rw[<-aw];exact AN _ _
 have dq:=au.size;have dr:W2.heap.size=w1.heap.size+1:=by rw[<-aw];show(w1.heap.push _).size=_;simp
 obtain⟨v,hv⟩:∃v,w1.heap.size=v:=⟨_,rfl⟩;have J0:Hid (CyU (v+1) x f v (qwV ap l.length cp B a1 c1 a2 c2 a3 c3) B g1 g2 g3 k1 k2 k3 w 0 (.slice none 0 0) [] W2):=⟨AK ax (AK au T0.O (by omega)) (by omega),AK ax (AK au T1.O (by omega)) (by omega),by rw[<-aw,<-hv];exact dm w1 _,⟨rfl,.inl ⟨rfl,rfl⟩⟩,rfl,(λ_ h=>by cases h),(hk.n ar.size).but (.of ax) (r:=none) (n:=0) (λ_ h=>by cases h) (by omega),(ar.trans (au.mono ar.size)).trans (ax.mono (by omega)),by omega⟩;rw[hv];clear aw ax hk au T0 T1 ar bt
 go_upto_region 3 with fail
 go_loopw [4] (λiv wr=>∃(k:Nat) (vs:Value) (M:List Bx),k<=l.length/\iv=.int .i64 k/\CyU (v+1) x f v (qwV ap l.length cp B a1 c1 a2 c2 a3 c3) B g1 g2 g3 k1 k2 k3 w k vs M wr) (λi _=>l.length - (intOf i).toNat)
 case atStart=>exact⟨0,_,[],by omega,rfl,J0.O⟩
 case round=>
  clear J0;obtain⟨k,vs,M,hk,rfl,hJ⟩:=hrel;obtain⟨aq,cq,rfl,aG,bX⟩:=past_of hJ;have cm:Hid (SlX wr aq M):=aG;have b7:Hid (RowT wr aq M):=bX;clear aG bX;have J:Hid _:=hJ;have HX:Hid _:=hJ.hx;have HV:Hid _:=hJ.hv;have HF:Hid _:=hJ.hf;clear hJ;have ex:_=some (Value.slice ap l.length cp):=AJ HX.O 0 rfl
  by_cases aS:k<l.length
  rotate_left
  ·go_wp2_with (first
    |((with_reducible show wpList _ _ _ _ _ _);refine dD rfl 30 (.tmp 3) rfl v rfl 30 (qwV aq M.length cq B (qad g1) k1 (qad g2) k2 (qad g3) k3) (0,0) _ HV.O Tryz.underlying30 rfl AO ?_)
    |((with_reducible show wpList _ _ _ _ _ _);refine AM rfl 30 (.tmp 2) (.tmp 27) rfl f 0 (qwV aq M.length cq B (qad g1) k1 (qad g2) k2 (qad g3) k3) rfl rfl 30 #[.slice none 0 0,.int .i64 0,.slice none 0 0,.slice none 0 0,.slice none 0 0] HF.O AO (AD rfl) (by simp[Value.oneCell']) ?_;intro wz hz on;simp only[Act.put]))
   refine dS (eU rfl _ wz f 30 (qwV aq M.length cq B (qad g1) k1 (qad g2) k2 (qad g3) k3) (0,0) _ rfl hz.O Tryz.underlying30 rfl AO) rfl ?_;have Z:WA _ aq M (qad g1) (qad g2) (qad g3) B:=⟨⟨cm.O,λy hy=>(J.O.bP y hy).at,J.O.bk.at⟩,⟨by have:=J.O.len;omega,λy hy=>(J.O.bP y hy).2.1,λy hy=>(J.O.bP y hy).2.2,HW.O.ok.bz,HW.O.ok.bs⟩,b7.O⟩;exact⟨aq,M,cq,g1,k1,g2,k2,g3,k3,rfl,Z.ab (E7 HF.O) on,J.O.bk.bn (Gf HF.O on),J.O.below.trans (on.below.mono (by omega))⟩
  obtain⟨b,off,ea,cf,bj⟩:=HW.O.bN.row (by intro h;rw[h]at aS;simp at aS);subst ea;obtain⟨s,av⟩:∃s,l[k]?=some s:=⟨l[k],by simp[aS]⟩;have bl:Hid (BxAt wr b (off+k*4) s):=(bj k s av).below J.O.below cf;have bS:Hid (BkAt w s.a1 s.a2 s.a3 s.b):=HW.O.bN.bP s (AE av);have bU:s.b.aO:=HW.O.ok.ss s (AE av);have cr:s.b.aD:=HW.O.ok.zs s (AE av);clear bj av;obtain⟨n0,aF⟩:∃n0,n0=wr.heap.size:=⟨_,rfl⟩;obtain⟨N,hN⟩:∃N,v+1=N:=⟨_,rfl⟩;rw[hN]at J;have a5:Hid (wr.ownsRow N 28 4 (Value.slice aq M.length cq) k (E6 M)):=J.O.aQ;have am:∀k',(Value.slice aq M.length cq).ownBlock=some k'->k'<n0:=λk' e=>by rw[aF];exact(J.O.aQ.lt k' e).2
  have ay:∀k',(Value.slice aq M.length cq).ownBlock=some k'->N<=k':=λk' e=>(J.O.aQ.lt k' e).1
  have cc:N<=wr.heap.size:=J.O.ns;have bo:v<wr.heap.size:=by omega
  have b0:x<wr.heap.size:=by omega
  have ct:b<wr.heap.size:=by omega
  have bO:(Value.slice aq M.length cq).ownBlock≠some v:=λe=>by have:=ay _ e;omega
  have bk:(Value.slice aq M.length cq).ownBlock≠some x:=λe=>by have:=ay _ e;omega
  have ca:(Value.slice aq M.length cq).ownBlock≠some b:=λe=>by have:=ay _ e;omega
  have b6:(Value.slice aq M.length cq).ownBlock≠some f:=λe=>by have:=ay _ e;omega
  have a7:∀W,But (Value.slice aq M.length cq).ownBlock wr W->Below w.heap.size w W:=λW h=>J.O.below.trans (h.below (by omega) (λk' e=>by have:=ay _ e;omega))
  go_upto_region 5 with fail
  clear ex;refine EA 11 9 (But (Value.slice aq M.length cq).ownBlock) (λW=>But (Value.slice aq M.length cq).ownBlock wr W) (λW=>W.ownsRow N 28 4 (Value.slice aq M.length cq) k (E6 M)) (by kernel_rfl) (by kernel_rfl) (But.refl _ _) a5.O (λ_ _ h hb=>h.trans (.of hb)) (λ_ _ h hb=>h.trans hb) (λ_ _ h hb=>K6 h hb) ?_;apply AX
  ·intro V W K AA hW hZ hd Z hK
   simp only[pA]at Z;clear hd;obtain rfl:=Z;go_wp2;exact hK.O _ brf
  apply AX
  ·intro V W K AA hW hZ hd Z hK
   have d0:V 0=_:=hd 0 (by kernel_rfl);simp only[pA,d0]at Z;clear hd d0;obtain rfl:=Z;have ev0:W.cell? ⟨v,0,none⟩=some (Value.slice aq M.length cq):=AJ ((hW.block v bo bO).trans HV.O) 0 rfl;go_wp2;exact hK.O _ brf
  apply AX
  ·intro V W K AA hW hZ hd Z hK
   simp only[pA]at Z;clear hd;obtain rfl:=Z;go_wp2;exact hK.O _ brf
  apply AX
  ·intro V W K AA hW hZ hd Z hK
   have d2:V 2=_:=hd 2 (by kernel_rfl);simp only[pA,d2]at Z;clear hd d2;obtain rfl:=Z;have dp:W.cell? ⟨x,0,none⟩=some (.slice (some ⟨b,off,none⟩) l.length cp):=AJ ((hW.block x b0 bk).trans HX.O) 0 rfl;go_wp2;exact hK.O _ brf
  apply AX
  ·intro V W K AA hW hZ hd Z hK
   simp only[pA]at Z;clear hd;obtain rfl:=Z;go_wp2;exact hK.O _ brf
  apply AX
  ·intro V W K AA hW hZ hd Z hK
   have d3:V 3=_:=hd 3 (by kernel_rfl);have d4:V 4=_:=hd 4 (by kernel_rfl);simp only[pA,d3,d4]at Z;clear hd d3 d4;obtain rfl:=Z;go_wp2;exact hK.O _ brf
  apply AX
  ·intro V W K AA hW hZ hd Z hK
   have d5:V 5=_:=hd 5 (by kernel_rfl);simp only[pA,d5]at Z;clear hd d5;obtain rfl:=Z;have hc:=bl.O;unfold BxAt at hc;have bq:∀o,W.cell? ⟨b,o,none⟩=wr.cell? ⟨b,o,none⟩:=λo=>eF (w:=wr) (hW.block b ct ca)
   simp only[<-bq]at hc;clear bq;obtain⟨q0,q1,q2,q3⟩:=hc;go_wp2;exact hK.O _ brf
  refine Al (λv W=>∃Y m1 H m2 F m3,v=.agg (qbV s.b (qad Y) m1 (qad H) m2 (qad F) m3)/\BkRow W n0 Y H F m1 m2 m3 s.b) (λi hi _ W W' ⟨Y,m1,H,m2,F,m3,e,hk⟩ hr=>⟨Y,m1,H,m2,F,m3,e,hk.but ((DP hr).elim id But.of) am (AG _)⟩) ?_ ?_
  ·intro V W K AA hW hZ hd Z hK
   have d6:V 6=_:=hd 6 (by kernel_rfl);simp only[pA,d6]at Z;clear hd d6;obtain rfl:=Z
   go_wp2_with fail
   refine(CU s.b s.a1 s.a2 s.a3 s.c1 s.c2 s.c3 W bU.aJ (bS.O.below (a7 W hW))).mono ?_;rintro e w2 ⟨Y,m1,H,m2,F,m3,rfl,hk,hb⟩;go_wp2;exact hK.O _ _ hb ⟨Y,m1,H,m2,F,m3,rfl,hk.n (by rw[aF];exact hW.size)⟩
  refine Al (λv W=>∃b Y m1 H m2 F m3,v=.slice (qad b) 1 1/\n0<=b/\qBl W b (qbV s.b (qad Y) m1 (qad H) m2 (qad F) m3) 28/\BkRow W n0 Y H F m1 m2 m3 s.b) (λi hi _ W W' ⟨b,Y,m1,H,m2,F,m3,e,hb,hz,hk⟩ hr=>⟨b,Y,m1,H,m2,F,m3,e,hb,(((DP hr).elim id But.of).block b (AB hz).1 (λe'=>by have:=am _ e';omega)).trans hz,hk.but ((DP hr).elim id But.of) am (AG _)⟩) ?_ ?_
  ·intro V W K AA hW hZ hd Z hK
   have d7:(λv W=>∃Y m1 H m2 F m3,v=.agg (qbV s.b (qad Y) m1 (qad H) m2 (qad F) m3)/\BkRow W n0 Y H F m1 m2 m3 s.b) (V 7) W:=hd 7 (by kernel_rfl);simp only[pA]at Z;clear hd;generalize V 7=x7 at d7 Z;obtain rfl:=Z;obtain⟨Y,m1,H,m2,F,m3,rfl,hk⟩:=d7;go_wp2;exact hK.O _ _ (AN _ _) ⟨W.heap.size,Y,m1,H,m2,F,m3,rfl,by rw[aF];exact hW.size,dm W _,hk.but (.of (AN _ _)) am (AG _)⟩
  refine Al (λv W=>∃g cap Y m1 H m2 F m3,v=.slice (qad g) (k+1) cap/\N<=g/\W.ownsRow N 28 4 v (k+1) (E6 M++Bx.cells ⟨s.b,some ⟨Y,0,none⟩,some ⟨H,0,none⟩,some ⟨F,0,none⟩,m1,m2,m3⟩)/\BkRow W n0 Y H F m1 m2 m3 s.b) (λi hi _ W W' ⟨g,cap,Y,m1,H,m2,F,m3,e,hg,ho,hk⟩ hr=>⟨g,cap,Y,m1,H,m2,F,m3,e,hg,K6 ho (El hi hr),hk.but (.of (El hi hr)) am (AG _)⟩) ?_ ?_
  ·intro V W K AA hW hZ hd Z hK
   have d1:V 1=_:=hd 1 (by kernel_rfl);have d8:(λv W=>∃b Y m1 H m2 F m3,v=.slice (qad b) 1 1/\n0<=b/\qBl W b (qbV s.b (qad Y) m1 (qad H) m2 (qad F) m3) 28/\BkRow W n0 Y H F m1 m2 m3 s.b) (V 8) W:=hd 8 (by kernel_rfl);simp only[pA,d1]at Z;clear hd d1;generalize V 8=x8 at d8 Z;obtain rfl:=Z;obtain⟨b8,Y,m1,H,m2,F,m3,rfl,ds,co,hk⟩:=d8;have h0:=hZ rfl;refine F9 rfl (.tmp 17) (.tmp 24) 23 rfl N 28 _ 4 80 Tryz.underlying23 FQ rfl (by decide) (Value.slice aq M.length cq) k (E6 M) rfl h0 ⟨b8,0,none⟩ 1 (Bx.cells ⟨s.b,some ⟨Y,0,none⟩,some ⟨H,0,none⟩,some ⟨F,0,none⟩,m1,m2,m3⟩) rfl rfl (FX co) (Qg _) (by unfold maxLen;omega) (by omega) (AH cc hW.size) ?_;intro g cap w2 hg ho hb aI;go_wp2;exact hK.O _ _ aI ⟨g,cap,Y,m1,H,m2,F,m3,rfl,hg,ho.O,hk.but aI am (AG _)⟩
  apply AX
  ·intro V W K AA hW hZ hd Z hK
   simp only[pA]at Z;clear hd;obtain rfl:=Z;go_wp2;exact hK.O _ brf
  intro V W AA hW hS Z;have d0:V 0=_:=hS 0 (by omega);have d1:V 1=_:=hS 1 (by omega);have d2:V 2=_:=hS 2 (by omega);have d3:V 3=_:=hS 3 (by omega);have d4:V 4=_:=hS 4 (by omega);have d5:V 5=_:=hS 5 (by omega);have d6:V 6=_:=hS 6 (by omega);have d7:(λv W=>∃Y m1 H m2 F m3,v=.agg (qbV s.b (qad Y) m1 (qad H) m2 (qad F) m3)/\BkRow W n0 Y H F m1 m2 m3 s.b) (V 7) W:=hS 7 (by omega);have d8:(λv W=>∃b Y m1 H m2 F m3,v=.slice (qad b) 1 1/\n0<=b/\qBl W b (qbV s.b (qad Y) m1 (qad H) m2 (qad F) m3) 28/\BkRow W n0 Y H F m1 m2 m3 s.b) (V 8) W:=hS 8 (by omega);have d9:(λv W=>∃g cap Y m1 H m2 F m3,v=.slice (qad g) (k+1) cap/\N<=g/\W.ownsRow N 28 4 v (k+1) (E6 M++Bx.cells ⟨s.b,some ⟨Y,0,none⟩,some ⟨H,0,none⟩,some ⟨F,0,none⟩,m1,m2,m3⟩)/\BkRow W n0 Y H F m1 m2 m3 s.b) (V 9) W:=hS 9 (by omega);have bI:V 10=_:=hS 10 (by omega);simp only[pA,d0,d1,d2,d3,d4,d5,d6,bI]at Z;clear hS d0 d1 d2 d3 d4 d5 d6 bI;generalize V 7=x7 at d7 Z;generalize V 8=x8 at d8 Z;generalize V 9=x9 at d9 Z;obtain rfl:=Z;simp only[dl,dF];obtain⟨g,cap,Y,m1,H,m2,F,m3,rfl,hg,ho,bx⟩:=d9;clear d7 d8;have a6:Hid _:=ho;have bZ:Hid _:=bx;have HB:Hid (But (Value.slice aq M.length cq).ownBlock wr W):=hW;have VW:Hid _:=(hW.block v bo bO).trans HV.O;clear ho bx hW
  go_upto_region 4 with((with_reducible show wpList _ _ _ _ _ _);refine BC rfl 23 (.tmp 26) (.tmp 25) rfl v 0 (.slice (qad g) (k+1) cap) rfl rfl KC rfl rfl 30 #[(.slice aq M.length cq),.int .i64 B.aj,.slice (qad g1) B.af.length k1,.slice (qad g2) B.ah.length k2,.slice (qad g3) B.ak.length k3] VW.O (AD rfl) ?_;intro w3 hz on;simp only[Act.put])
  have hT:Qo wr w3:=λc cs t fr q1 q2 hc=>by
   have h4:=tame_but a5.O HB.O c cs t fr q1 q2 hc;exact(Gf VW.O on c cs t fr q1 q2 (h4.trans hc)).trans h4
  have c7:=HB.O.size
  have JN:Hid (CyU N x f v (qwV (some ⟨b,off,none⟩) l.length cp B a1 c1 a2 c2 a3 c3) B g1 g2 g3 k1 k2 k3 w (k+1) (.slice (qad g) (k+1) cap) (M++[⟨s.b,some ⟨Y,0,none⟩,some ⟨H,0,none⟩,some ⟨F,0,none⟩,m1,m2,m3⟩]) w3):=by
   refine⟨(on.aB x (by omega)).trans ((HB.O.block x b0 bk).trans HX.O),(on.aB f (by omega)).trans ((HB.O.block f (by omega) b6).trans HF.O),hz.O,?_,by rw[dE,J.O.len];rfl,λy hy=>?_,J.O.bk.bn hT,(a7 W HB.O).trans (on.below.mono (by omega)),by rw[on.size];omega⟩
   ·rw[show E6 (M++[(⟨s.b,some ⟨Y,0,none⟩,some ⟨H,0,none⟩,some ⟨F,0,none⟩,m1,m2,m3⟩:Bx)])=E6 M++Bx.cells ⟨s.b,some ⟨Y,0,none⟩,some ⟨H,0,none⟩,some ⟨F,0,none⟩,m1,m2,m3⟩ by simp[E6]]
    refine⟨a6.O.1,?_⟩;rcases a6.O.2 with⟨_,h0⟩|⟨g',bB,cd,e,q1,q2,q3⟩
    ·omega
    ·exact .inr ⟨g',bB,cd,e,q1,(on.aB g' (by omega)).trans q2,q3⟩
   ·rcases dt.1 hy with h|h
    ·exact(J.O.bP y h).bn hT
    ·obtain rfl:=cZ.1 h
     exact⟨⟨Y,H,F,rfl,rfl,rfl,(bZ.O.n (AI _)).bn (Gf VW.O on)⟩,cr,bU⟩
  rw[<-hN]at JN;clear a6 bZ HB VW hz on hT J a5 bl bS hN aF a7;go_wp2
  go_roundw
  case rel=>exact⟨k+1,_,_,by omega,by go_num,JN.O⟩
  case measure=>simp[intOf];omega
def WV(v:Value)(W:World):Prop:=∃(ap:qO) (l:List Bx) (cp:Nat) (a1 a2 a3:qO) (c1 c2 c3:Nat) (B:Bk),v=.agg (qwV ap l.length cp B a1 c1 a2 c2 a3 c3)/\WA W ap l a1 a2 a3 B
theorem WV.below{v:Value}{W W':World}(h:WV v W)(hb:Below W.heap.size W W'):WV v W':=let ⟨ap,l,cp,a1,a2,a3,c1,c2,c3,B,e,h⟩:=h;⟨ap,l,cp,a1,a2,a3,c1,c2,c3,B,e,h.below hb⟩
structure WvU(v f:Nat)(w wr:World):Prop where
 wx:∃(ap:qO) (l:List Bx) (cp:Nat) (a1 a2 a3:qO) (c1 c2 c3:Nat) (B:Bk),qBl wr v (qwV ap l.length cp B a1 c1 a2 c2 a3 c3) 30/\WA wr ap l a1 a2 a3 B
 vf:qBl wr f #[.slice none 0 0,.int .i64 0,.slice none 0 0,.slice none 0 0,.slice none 0 0] 30
 below:Below w.heap.size w wr
section
variable {v f:Nat} {w wr w':World}
theorem WvU.aX(h:WvU v f w wr)(hb:Below wr.heap.size wr w'):WvU v f w w':=by
 obtain⟨ap,l,cp,a1,a2,a3,c1,c2,c3,B,F,H⟩:=h.wx;exact⟨⟨ap,l,cp,a1,a2,a3,c1,c2,c3,B,AK hb F (AB F).1,H.below hb⟩,AK hb h.vf (AB h.vf).1,h.below.trans (hb.mono h.below.size)⟩
theorem WvU.put(h:WvU v f w wr)(on:A6 v wr w'){ap:qO}{l:List Bx}{cp:Nat}{a1 a2 a3:qO}{c1 c2 c3:Nat}{B:Bk}(H:qBl w' v (qwV ap l.length cp B a1 c1 a2 c2 a3 c3) 30)(M:WA wr ap l a1 a2 a3 B)(hf:v≠f)(F:w.heap.size<=v):WvU v f w w':=by
 obtain⟨Z,l',J,ai,W,af,Y,aa,ah,B',h1,_⟩:=h.wx;exact⟨⟨ap,l,cp,a1,a2,a3,c1,c2,c3,B,H,M.ab (E7 h1) on⟩,(on.aB f hf.symm).trans h.vf,h.below.trans (on.below.mono F)⟩
end
theorem P5(W:World):WA W none [] none none none noBk:=⟨⟨λh=>absurd rfl h,(λ_ h=>by cases h),λh=>absurd rfl h,λh=>absurd rfl h,λh=>absurd rfl h⟩,⟨AI _,(λ_ h=>by cases h),(λ_ h=>by cases h),noBk_ok.1,noBk_ok.2⟩,λh=>absurd rfl h⟩
theorem JK(w:World):Below w.heap.size w {w with drawn:=w.drawn+1}:=⟨rfl,rfl,rfl,AG _,λ_ _=>rfl⟩
theorem WV.rel{u:Value}{i p v f:Nat}{w W W':World}(h:WV u W)(F:PZ p (λW W'=>Qq W v/\A6 v W W'/\WvU v f w W') i W W'):WV u W':=by
 rcases DP F with F|F
 ·obtain⟨ap,l,cp,a1,a2,a3,c1,c2,c3,B,e,h⟩:=h
  exact⟨ap,l,cp,a1,a2,a3,c1,c2,c3,B,e,h.ab F.1 F.2.1⟩
 ·exact h.below F
def CalmIs(w:World)(e:Ending)(w':World):Prop:=∃v,e=.returned v/\WIs w.heap.size w w' v
theorem ev_tick:Ev.aD ⟨1,sv0,⟨#[]⟩,0,false⟩:=⟨AI _,AI _⟩
theorem ev0_ok:ev0.aD:=⟨AI _,AI _⟩
theorem calm_any(l:List Bx)(ap:qO)(cp:Nat)(B:Bk)(a1 a2 a3:qO)(c1 c2 c3:Nat)(rounds:Int)(b n c:Nat)(w:World)(c7:0<=rounds)(co:rounds<=1000)(hn:n<=100)(Z:IntRow w b n c)(hW:WA w ap l a1 a2 a3 B):
  Calls Tryz.prog 30 #[.agg (qwV ap l.length cp B a1 c1 a2 c2 a3 c3),.int .i64 rounds,.slice (qad b) n c] w λe w'=>CalmIs w e w':=by
 have HW:Hid (WA w ap l a1 a2 a3 B):=hW;have HI:Hid (IntRow w b n c):=Z;clear hW Z
 obtain⟨W0,br,t0,t1,aL,aC⟩:∃W0,(w.alloc (.cells (qwV ap l.length cp B a1 c1 a2 c2 a3 c3) 30)).alloc (.cells #[.slice none 0 0,.int .i64 0,.slice none 0 0,.slice none 0 0,.slice none 0 0] 30)=W0/\qBl W0 (w.heap.size) (qwV ap l.length cp B a1 c1 a2 c2 a3 c3) 30/\qBl W0 (w.heap.size+1) #[.slice none 0 0,.int .i64 0,.slice none 0 0,.slice none 0 0,.slice none 0 0] 30/\W0.heap.size=w.heap.size+1+1/\Below w.heap.size w W0:=by
  obtain⟨h1,h2,h3⟩:=B1 w (.cells (qwV ap l.length cp B a1 c1 a2 c2 a3 c3) 30) (.cells #[.slice none 0 0,.int .i64 0,.slice none 0 0,.slice none 0 0,.slice none 0 0] 30);exact⟨_,rfl,h1,h2,h3,(AN w _).alloc (by show w.heap.size<=(w.heap.push _).size;simp) _⟩
 obtain⟨x,hx⟩:∃x,w.heap.size=x:=⟨_,rfl⟩;obtain⟨f,hf⟩:∃f,x+1=f:=⟨_,rfl⟩;have T0:Hid _:=t0;have T1:Hid _:=t1;have bB:Hid _:=aL;clear t0 t1 aL;go_enter Tryz.func30,Tryz.ntmps30
 go_upto_region 1 with fail
 rw[hx]at T0;rw[hx,hf]at T1;clear br
 go_upto_if 13 with(first
  |((with_reducible show wpList _ _ _ _ _ _);refine dD rfl 30 (.tmp 3) rfl x rfl 30 (qwV ap l.length cp B a1 c1 a2 c2 a3 c3) (0,0) _ T0.O Tryz.underlying30 rfl AO ?_)
  |(go_at_call 31;refine(Jv l ap cp B a1 a2 a3 c1 c2 c3 _ (by have:=HW.O.ok.len;omega) HW.O.ok.zs (λx hx=>(HW.O.ok.ss x hx).aJ) HW.O.ok.bz HW.O.ok.bs.aJ (HW.O.bN.below aC)).mono ?_;rintro e w1 ⟨rfl,av⟩))
 have aL:=bB.O;have ah:Below w.heap.size w w1:=aC.trans (av.mono aC.size);have U0:Hid _:=AK av T0.O (by omega);have U1:Hid _:=AK av T1.O (by omega);have ct:=av.size;clear T0 T1 aC av;cases bx:FM (l.map (·.b)) B
 ·go_wp2_with ((with_reducible show wpList _ _ _ _ _ _);refine AM rfl 30 (.tmp 6) (.tmp 14) rfl f 0 #[.slice none 0 0,.int .i64 0,.slice none 0 0,.slice none 0 0,.slice none 0 0] rfl rfl 30 #[.slice none 0 0,.int .i64 0,.slice none 0 0,.slice none 0 0,.slice none 0 0] U1.O AO (AD rfl) (by simp[Value.oneCell']) ?_;intro wz hz on;simp only[Act.put])
  refine dS (eU rfl _ wz f 30 #[.slice none 0 0,.int .i64 0,.slice none 0 0,.slice none 0 0,.slice none 0 0] (0,0) _ rfl hz.O Tryz.underlying30 rfl AO) rfl ?_;exact⟨_,rfl,wis_iff.2 ⟨none,[],0,none,none,none,0,0,0,noBk,rfl,P5 _,ah.trans (on.below.mono (by omega))⟩⟩
 clear bx
 go_upto_region 4 with(go_at_call 78;refine(R6 b n c _ hn (HI.O.below ah)).mono ?_;rintro e w2 ⟨g,n',H,rfl,aM,cr,ax⟩)
 have I2:Hid (IntRow w2 g n' H):=aM;have au:Below w.heap.size w w2:=ah.trans (ax.mono ah.size);have X2:Hid _:=AK ax U0.O (by omega);have F2:Hid _:=AK ax U1.O (by omega);have cB:=ax.size;have cg:=aM.lt;clear aM ah ax U0 U1 HI
 go_upto_region 5 with((with_reducible show wpList _ _ _ _ _ _);refine dD rfl 30 (.tmp 3) rfl x rfl 30 (qwV ap l.length cp B a1 c1 a2 c2 a3 c3) (0,0) _ X2.O Tryz.underlying30 rfl AO ?_)
 obtain⟨W3,ay⟩:∃W3,w2.alloc (.cells (qwV ap l.length cp B a1 c1 a2 c2 a3 c3) 30)=W3:=⟨_,rfl⟩;rw[ay];have aa:Below w2.heap.size w2 W3:=by rw[<-ay];exact AN _ _
 have cM:W3.heap.size=w2.heap.size+1:=by rw[<-ay];show(w2.heap.push _).size=_;simp
 have ar:Below w.heap.size w W3:=au.trans (aa.mono au.size);have V3:Hid (qBl W3 (w2.heap.size) (qwV ap l.length cp B a1 c1 a2 c2 a3 c3) 30):=by unfold Hid;rw[<-ay];exact dm w2 _
 obtain⟨v,hv⟩:∃v,w2.heap.size=v:=⟨_,rfl⟩;rw[hv]at V3;rw[hv];have J0:Hid (WvU v f w W3):=⟨⟨ap,l,cp,a1,a2,a3,c1,c2,c3,B,V3.O,HW.O.below ar⟩,AK aa F2.O (by omega),ar⟩;have I0:Hid (IntRow W3 g n' H):=I2.O.below aa;clear ay aa ar au V3 X2 F2 I2 HW
 go_upto_region 6 with fail
 go_loopw [9] (λiv wr=>∃k:Nat,iv=.int .i64 k/\k<=1000/\WvU v f w wr/\IntRow wr g n' H) (λi _=>1000 - (intOf i).toNat)
 case atStart=>exact⟨0,rfl,by omega,J0.O,I0.O⟩
 case round=>
  clear J0 I0;obtain⟨k,rfl,hk,hJ,Z⟩:=hrel;have J:Hid (WvU v f w wr):=hJ;have I:Hid (IntRow wr g n' H):=Z;clear hJ Z;obtain⟨ap,l,cp,a1,a2,a3,c1,c2,c3,B,ak,ai⟩:=J.O.wx;have VX:Hid _:=ak;have HA:Hid (WA _ ap l a1 a2 a3 B):=ai;clear ak ai
  by_cases a5:(k:Int)<rounds
  rotate_left
  ·have a8:decide ((k:Int)<rounds)=false:=by simp[a5]
   go_wp2_with (first
    |((with_reducible show wpList _ _ _ _ _ _);refine dD rfl 30 (.tmp 8) rfl v rfl 30 (qwV ap l.length cp B a1 c1 a2 c2 a3 c3) (0,0) _ VX.O Tryz.underlying30 rfl AO ?_)
    |(go_at_call 50;refine(PI l ap cp B a1 a2 a3 c1 c2 c3 _ HA.O).mono ?_;rintro e w4 ⟨aq,M,cq,g1,k1,g2,k2,g3,k3,rfl,F,_,aS⟩;have aG:Hid (WA w4 aq M _ _ _ B):=F;have F4:Hid _:=AK aS J.O.vf (AB J.O.vf).1;have bt:Below w.heap.size w w4:=J.O.below.trans (aS.mono J.O.below.size);clear F aS)
    |((with_reducible show wpList _ _ _ _ _ _);refine AM rfl 30 (.tmp 6) (.tmp 51) rfl f 0 (qwV aq M.length cq B (qad g1) k1 (qad g2) k2 (qad g3) k3) rfl rfl 30 #[.slice none 0 0,.int .i64 0,.slice none 0 0,.slice none 0 0,.slice none 0 0] F4.O AO (AD rfl) (by simp[Value.oneCell']) ?_;intro wz hz on;simp only[Act.put]))
   refine dS (eU rfl _ wz f 30 (qwV aq M.length cq B (qad g1) k1 (qad g2) k2 (qad g3) k3) (0,0) _ rfl hz.O Tryz.underlying30 rfl AO) rfl ?_;exact⟨_,rfl,wis_iff.2 ⟨aq,M,cq,_,_,_,k1,k2,k3,B,rfl,aG.O.ab (E7 F4.O) on,bt.trans (on.below.mono (by omega))⟩⟩
  have cK:k<1000:=by omega
  have a8:decide ((k:Int)<rounds)=true:=by simp[a5]
  have bI:decide ((k:Int)<1000)=true:=by simp;omega
  go_upto_region 9 with(first|((with_reducible show wpList _ _ _ _ _ _);refine dD rfl 30 (.tmp 8) rfl v rfl 30 (qwV ap l.length cp B a1 c1 a2 c2 a3 c3) (0,0) _ VX.O Tryz.underlying30 rfl AO ?_)|(go_at_call 49;refine(JL l ap cp B a1 a2 a3 c1 c2 c3 ⟨0,0,⟨1,sv0,⟨#[]⟩,0,false⟩⟩ _ (by decide) (by decide) ev_tick HA.O).mono ?_;rintro e w4 ⟨vw,vq,rfl,hv⟩;obtain⟨aq,M,cq,z1,z2,z3,d1,d2,d3,D,rfl,F,aa⟩:=wis_iff.1 hv;have aG:Hid (WA w4 aq M z1 z2 z3 D):=F;have J4:Hid _:=J.O.aX aa;have I4:Hid (IntRow w4 g n' H):=I.O.below aa;have a4:Hid _:=AK aa VX.O (AB VX.O).1;clear hv F aa)|((with_reducible show wpList _ _ _ _ _ _);refine AM rfl 30 (.tmp 8) (.tmp 32) rfl v 0 (qwV aq M.length cq D z1 d1 z2 d2 z3 d3) rfl rfl 30 (qwV ap l.length cp B a1 c1 a2 c2 a3 c3) a4.O AO (AD rfl) (by simp[Value.oneCell']) ?_;intro w5 hz on;have J5:Hid (WvU v f w w5):=J4.O.put on hz.O aG.O (by omega) (by omega);have I5:Hid (IntRow w5 g n' H):=I4.O.aR (on.aB g (by omega));clear hz on;simp only[Act.put]))
  clear J I VX HA J4 I4 a4 aG a8 bI
  go_upto_region 10 with fail
  go_loopw [10] (λjv wq=>∃j:Nat,j<=n'/\jv=.int .i64 j/\WvU v f w wq/\IntRow wq g n' H) (λi _=>n' - (intOf i).toNat)
  case atStart=>exact⟨0,by omega,rfl,J5.O,I5.O⟩
  case round=>
   clear J5 I5;obtain⟨j,hj,rfl,hJ,Z⟩:=hrel;have J:Hid (WvU v f w wr):=hJ;have I:Hid (IntRow wr g n' H):=Z;clear hJ Z
   by_cases bk:j<n'
   rotate_left
   ·go_wp2
    go_roundw
    case rel=>exact⟨k+1,by go_num,by omega,J.O,I.O⟩
    case measure=>simp[intOf];omega
   go_upto_region 12 with fail
   refine EF 11 rfl 10 (λW=>WvU v f w W/\IntRow W g n' H) (λ_=>True) (PZ 10 (λW W'=>Qq W v/\A6 v W W'/\WvU v f w W')) (by kernel_rfl) (by kernel_rfl) ⟨J.O.aX (JK wr),I.O.below (JK wr)⟩ trivial (λi W W' h hr=>(DP hr).elim (λh'=>⟨h'.2.2,h.2.aR (h'.2.1.aB g (by omega))⟩) λhb=>⟨h.1.aX hb,h.2.below hb⟩) (λ_ _ _ _ _ _=>trivial) ?_;refine Al (WV) (λi hi _ W W' h hr=>h.rel hr) ?_ ?_
   ·intro V W K A Z hZ Y F hK
    simp only[pA]at F;clear Y;obtain rfl:=F;obtain⟨ap,l,cp,a1,a2,a3,c1,c2,c3,B,ak,ai⟩:=Z.1.wx;refine dD rfl 30 (.tmp 8) rfl v rfl 30 (qwV ap l.length cp B a1 c1 a2 c2 a3 c3) (0,0) _ ak Tryz.underlying30 rfl AO ?_;go_wp2;exact hK.O _ _ brf ⟨ap,l,cp,a1,a2,a3,c1,c2,c3,B,rfl,ai⟩
   apply AX
   ·intro V W K A Z hZ Y F hK
    simp only[pA]at F;clear Y;obtain rfl:=F;go_wp2;exact hK.O _ brf
   apply AX
   ·intro V W K A Z hZ Y F hK
    simp only[pA]at F;clear Y;obtain rfl:=F;go_wp2;exact hK.O _ brf
   apply AX
   ·intro V W K A Z hZ Y F hK
    have d1:V 1=_:=Y 1 (by kernel_rfl);have d2:V 2=_:=Y 2 (by kernel_rfl);simp only[pA,d1,d2]at F;clear Y d1 d2;obtain rfl:=F;go_wp2;exact hK.O _ brf
   refine Al (λu _=>∃st:Int,u=.int .i64 st) (λ_ _ _ _ _ h _=>h) ?_ ?_
   ·intro V W K A Z hZ Y F hK
    have d3:V 3=_:=Y 3 (by kernel_rfl);simp only[pA,d3]at F;clear Y d3;obtain rfl:=F;obtain⟨st,cL⟩:=Z.2.cell bk;go_wp2;exact hK.O _ _ brf ⟨st,rfl⟩
   refine Al (λu _=>∃st:Int,u=.agg (Mv.cells ⟨st,0,ev0⟩)) (λ_ _ _ _ _ h _=>h) ?_ ?_
   ·intro V W K A Z hZ Y F hK
    have d4:(λu _=>∃st:Int,u=.int .i64 st) (V 4) W:=Y 4 (by kernel_rfl);simp only[pA]at F;clear Y;generalize V 4=x4 at d4 F;obtain rfl:=F;obtain⟨st,rfl⟩:=d4;go_wp2;exact hK.O _ _ brf ⟨st,rfl⟩
   refine Al (λu W=>∃vw vq,u=.tuple #[vw,vq]/\WV vw W) (λi hi _ W W' ⟨vw,vq,e,h⟩ hr=>⟨vw,vq,e,h.rel hr⟩) ?_ ?_
   ·intro V W K A Z hZ Y F hK
    have d0:(WV) (V 0) W:=Y 0 (by kernel_rfl);have d5:(λu _=>∃st:Int,u=.agg (Mv.cells ⟨st,0,ev0⟩)) (V 5) W:=Y 5 (by kernel_rfl);simp only[pA]at F;clear Y;generalize V 0=x0 at d0 F;generalize V 5=x5 at d5 F;obtain rfl:=F;obtain⟨ap,l,cp,a1,a2,a3,c1,c2,c3,B,rfl,ai⟩:=d0;obtain⟨st,rfl⟩:=d5
    go_wp2_with fail
    refine(JL l ap cp B a1 a2 a3 c1 c2 c3 ⟨st,0,ev0⟩ W (fB 0) (by show(0:Int)<=1000;decide) ev0_ok ai).mono ?_;rintro e w4 ⟨vw,vq,rfl,hv⟩;obtain⟨aq,M,cq,z1,z2,z3,d1,d2,d3,D,rfl,F,aa⟩:=wis_iff.1 hv;go_wp2;exact hK.O _ _ aa ⟨_,_,rfl,aq,M,cq,z1,z2,z3,d1,d2,d3,D,rfl,F⟩
   refine Al (λu W=>∃vw vq,u=.tuple #[vw,vq]/\WV vw W) (λi hi _ W W' ⟨vw,vq,e,h⟩ hr=>⟨vw,vq,e,h.rel hr⟩) ?_ ?_
   ·intro V W K A Z hZ Y F hK
    have d6:(λu W=>∃vw vq,u=.tuple #[vw,vq]/\WV vw W) (V 6) W:=Y 6 (by kernel_rfl);simp only[pA]at F;clear Y;generalize V 6=x6 at d6 F;obtain rfl:=F;obtain⟨vw,vq,rfl,h⟩:=d6;go_wp2;exact hK.O _ _ brf ⟨vw,vq,rfl,h⟩
   refine Al (WV) (λi hi _ W W' h hr=>h.rel hr) ?_ ?_
   ·intro V W K A Z hZ Y F hK
    have d7:(λu W=>∃vw vq,u=.tuple #[vw,vq]/\WV vw W) (V 7) W:=Y 7 (by kernel_rfl);simp only[pA]at F;clear Y;generalize V 7=x7 at d7 F;obtain rfl:=F;obtain⟨vw,vq,rfl,h⟩:=d7;go_wp2;exact hK.O _ _ brf h
   refine Al (λ_ _=>True) (λ_ _ _ _ _ _ _=>trivial) ?_ ?_
   ·intro V W K A Z hZ Y F hK
    have d7:(λu W=>∃vw vq,u=.tuple #[vw,vq]/\WV vw W) (V 7) W:=Y 7 (by kernel_rfl);simp only[pA]at F;clear Y;generalize V 7=x7 at d7 F;obtain rfl:=F;obtain⟨vw,vq,rfl,h⟩:=d7;go_wp2;exact hK.O _ _ brf trivial
   refine Al (λ_ _=>True) (λ_ _ _ _ _ _ _=>trivial) ?_ ?_
   ·intro V W K A Z hZ Y F hK
    have d8:(WV) (V 8) W:=Y 8 (by kernel_rfl);simp only[pA]at F;clear Y;generalize V 8=x8 at d8 F;obtain rfl:=F;obtain⟨aq,M,cq,z1,z2,z3,d1,d2,d3,D,rfl,F⟩:=d8;obtain⟨ap,l,cp,a1,a2,a3,c1,c2,c3,B,ak,ai⟩:=Z.1.wx;have bm:Hid (WvU v f w W):=Z.1;have bb:Hid _:=ak;have bE:Hid (WA W aq M z1 z2 z3 D):=F;clear ak ai F Z;refine AM rfl 30 (.tmp 8) (.tmp 48) rfl v 0 (qwV aq M.length cq D z1 d1 z2 d2 z3 d3) rfl rfl 30 (qwV ap l.length cp B a1 c1 a2 c2 a3 c3) bb.O AO (AD rfl) (by simp[Value.oneCell']) ?_;intro w7 hz on;have HR:Hid (Qq W v/\A6 v W w7/\WvU v f w w7):=⟨E7 bb.O,on,bm.O.put on hz.O bE.O (by omega) (by omega)⟩;clear hz on;go_wp2;exact hK.O undef _ HR.O trivial
   intro V W A Z hS F;have d1:V 1=_:=hS 1 (by decide);have d2:V 2=_:=hS 2 (by decide);have d3:V 3=_:=hS 3 (by decide);simp only[pA,d1,d2,d3]at F;clear hS d1 d2 d3;obtain rfl:=F;have J7:Hid (WvU v f w W):=Z.1;have I7:Hid (IntRow W g n' H):=Z.2;clear Z;go_wp2
   go_roundw
   case rel=>exact⟨j+1,by omega,by go_num,J7.O,I7.O⟩
   case measure=>simp[intOf];omega
end
end Go.Proofs.YtbceafpodamnfaaGreatDoor
