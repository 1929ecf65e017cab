import Derived.Test.YtbceafpodamnfaaH51
set_option linter.all false
set_option maxHeartbeats 16000000
set_option maxRecDepth 100000
namespace Go.Proofs.Ytbceafpodamnfaa
attribute [local simp] svV cpV zbV czV aaV ctZ ad bkV ctV acV evV
attribute [local go_sem] svV cpV zbV czV aaV ctZ ad bkV ctV acV evV
section
open Go.RowKit Go.Sort
def noDst(ops:Array Oper)(n e:Nat):Bool:=(List.range n).all λi=>(ops[i]?).bind (·.dst)!=some e
def atDst(ops:Array Oper)(n i d:Nat):Bool:=CI ops n&&decide (i<n)&&((ops[i]?).bind (·.dst)==some d)
theorem Be{ops:Array Oper}{V:Nat->Value}{a:Act}{n e:Nat}(h:noDst ops n e=true):(Ad ops V n a).eval (.tmp e)=a.eval (.tmp e):=
 CX n λi hi=>by simpa using List.all_eq_true.1 h i (List.mem_range.2 hi)
theorem BI{ops:Array Oper}{V:Nat->Value}{a:Act}{n i d:Nat}(h:atDst ops n i d=true)(hs:d<a.tmps.size):(Ad ops V n a).eval (.tmp d)=V i:=by
 unfold atDst at h;simp only[Bool.and_eq_true,decide_eq_true_eq,beq_iff_eq]at h;exact CY h.2 hs n h.1.1 h.1.2
section
variable {r f:Nat} {w W:World} {q:Int} {a1 a2 a3:Option Addr} {B:Bk}
theorem BkAt.past2(h:BkAt w a1 a2 a3 B)(hr:Rd r w q)(hf:NoStr w f)(hp:Past2 r f w W):BkAt W a1 a2 a3 B:=by
 refine⟨λhl=>?_,λhl=>?_,λhl=>?_⟩
 ·obtain⟨b,off,e,hlt,hat⟩:=h.1 hl
  refine⟨b,off,e,AF hlt hp.size,λi s hs=>?_⟩;have h1:=hat i s hs;have hne:=hr.str h1.1;have hnf:=hf.str h1.1;unfold SvcAt at *;simp only[hp.cell hlt hne hnf];exact h1
 ·obtain⟨b,off,e,hlt,hat⟩:=h.2.1 hl
  refine⟨b,off,e,AF hlt hp.size,λi s hs=>?_⟩;have h1:=hat i s hs;have hne:=hr.str h1.1;have hnf:=hf.str h1.1;unfold CpAt at *;simp only[hp.cell hlt hne hnf];exact h1
 ·obtain⟨b,off,e,hlt,hat⟩:=h.2.2 hl
  refine⟨b,off,e,AF hlt hp.size,λi s hs=>?_⟩;have h1:=hat i s hs;have hne:=hr.str h1.1;have hnf:=hf.str h1.1;unfold BtAt at *;simp only[hp.cell hlt hne hnf];exact h1
theorem rd_least(hR:Rd r w q):∃p,p<=q/\Rd r w p/\∀q',Rd r w q'->p<=q':=by
 obtain⟨ao,n,cap,p,h1,h2,h3,h4,h5⟩:=hR;refine⟨p,h3,⟨ao,n,cap,p,h1,h2,Int.le_refl _,h4,h5⟩,?_⟩;rintro q' ⟨ao',n',cap',p',g1,g2,g3,_⟩;rw[h1]at g1;injection g1 with g1
 injection g1 with g1
 injection g1 with g1
 injection g1 with _ g1
 injection g1 with g1
 injection g1 with _ e4
 omega
end
def IOa(p f r i:Nat)(W W':World):Prop:=match Nat.beq i p with
 |true=>Bj f W W'/\∀q,Rd r W q->Rd r W' q
 |false=>RStep r 100 W W'
def O0(r f n:Nat)(q:Int)(w:World)(m:Nat)(W:World):Prop:=Past2 r f w W/\Rd r W (q+((n - m)*100:Nat))
section
variable {r f p i n m:Nat} {w W W':World} {q:Int}
theorem OZ(h:IOa p f r i W W'):Past2 r f W W':=by
 unfold IOa at h;split at h
 ·exact⟨h.1.below.os,h.1.below.tape,h.1.below.output,h.1.below.size,λk _ _ hf=>h.1.other k hf⟩
 ·exact .ofPast h.1
theorem OY(hi:i≠p)(h:IOa p f r i W W'):RStep r 100 W W':=by
 unfold IOa at h;split at h
 ·rename_i hb
  exact absurd (Nat.eq_of_beq_eq_true hb) hi
 ·exact h
theorem DM(hi:Nat.beq i p=false)(h:RStep r 100 W W'):IOa p f r i W W':=by
 unfold IOa;rw[hi];exact h
theorem L0(hi:Nat.beq i p=true)(h:Bj f W W')(h':∀q,Rd r W q->Rd r W' q):IOa p f r i W W':=by
 unfold IOa;rw[hi];exact⟨h,h'⟩
theorem Jk(hR:Rd r w q)(hb:Below w.heap.size w W):O0 r f n q w n W:=⟨.ofPast (.of hb),(hR.below hb).mono (by omega)⟩
theorem LD(hm:m<n)(h:O0 r f n q w (m+1) W)(hR:IOa p f r i W W'):O0 r f n q w m W':=by
 refine⟨h.1.trans (OZ hR),?_⟩;have e:(n - m)*100=(n - (m+1))*100+100:=by omega
 unfold IOa at hR;split at hR
 ·exact(hR.2 _ h.2).mono (by omega)
 ·exact(hR.2 _ h.2).mono (by omega)
theorem FD(h:∃m,m<n/\O0 r f n q w (m+1) W):Past2 r f w W/\Rd r W (q+(n*100:Nat)):=let ⟨_,hm,h1,h2⟩:=h;⟨h1,h2.mono (by omega)⟩
theorem Fq{cs:Array Value}{t:TypeId}{fr:Nat × Nat}(hfr:f≠r)(h:W.heap[f]?=some (.cells cs t fr))(hi:i≠p)(hR:IOa p f r i W W'):W'.heap[f]?=some (.cells cs t fr):=BD (OY hi hR).1 h (AB h).1 hfr
theorem RStep.wide{c d:Nat}(h:RStep r c W W')(hc:c<=d):RStep r d W W':=⟨h.1,λq hq=>(h.2 q hq).mono (by omega)⟩
end
section
variable {ρ:Operand->Value} {o:Oper} {W:World} {x y:Operand}
theorem OQ{n:Int}{v:Value}(hf:ρ (.func 21)=.func (.func 21) #[] #[])(h:o.op=.call {callee:=.value (.func 21),args:=#[x,y],argTypes:=#[52,3]})(hx:ρ x=v)(hy:ρ y=.int .i64 n):(execOp ρ o).run Try.prog W=.ok (.enter 21 #[v,.int .i64 n]) W:=by
 simp[execOp,h,hx,hy,hf,go_sem]
theorem run_name{u v:Value}(hf:ρ (.func 22)=.func (.func 22) #[] #[])(h:o.op=.call {callee:=.value (.func 22),args:=#[x,y],argTypes:=#[52,27]})(hx:ρ x=u)(hy:ρ y=v):(execOp ρ o).run Try.prog W=.ok (.enter 22 #[u,v]) W:=by
 simp[execOp,h,hx,hy,hf,go_sem]
theorem Nz{g off j m c:Nat}(h:o.op=.indexAddr 24 x y)(hx:ρ x=.slice (some ⟨g,off,none⟩) m c)(hy:ρ y=.int .i64 j)(hj:j<m):(execOp ρ o).run Try.prog W=.ok (.value (.pointer (some ⟨g,off+j*7,none⟩))) W:=by
 simp[execOp,h,hx,hy,go_sem,hj]
theorem K4(h:o.op=.alloc 35):(execOp ρ o).run Try.prog W=.ok (.value (.pointer (some ⟨W.heap.size,0,none⟩))) (W.alloc (.cells czV 35)):=by
 simp[execOp,h,go_sem]
end
theorem Ez{P:Program}{fn:Func}{p q q2:Tmp}{ty:TypeId}(h:fn.results=#[.cell p ty,.tmp q,.tmp q2])(tmps:Array Value)(w:World)(g:Nat)(t:TypeId)(cs:Array Value)(fr:Nat × Nat)(d:TypeDesc)
  (hp:tmps.getD p undef=.pointer (ad g)) (hg:w.heap[g]?=some (.cells cs t fr))
  (hu:P.underlying ty=some d) (hd:(match d with| .struct _| .array _ _=>true|_=>false)=true) (hi:(P.info? ty).map (·.size)=some cs.size) (v v2:Value) (hv:tmps.getD q undef=v) (hv2:tmps.getD q2 undef=v2):
  (results fn tmps).run P w=.ok (.tuple #[.agg cs,v,v2]) w:=by
 have hp':tmps[p]?.getD undef=.pointer (ad g):=by simpa using hp
 have hv':tmps[q]?.getD undef=v:=by simpa using hv
 have hv2':tmps[q2]?.getD undef=v2:=by simpa using hv2
 simp[results,h,hp',hv',hv2',asAddr,run_loadVar_row w g t ty cs fr d hg hu hd hi]
structure MeU(r f x:Nat)(B:Bk)(a1 a2 a3:Option Addr)(c1 c2 c3:Nat)(w0:World)(q:Int)(w:World):Prop where
 vf:Bl w f zbV 27
 vx:Bl w x (bkV B a1 c1 a2 c2 a3 c3) 27
 bk:BkAt w a1 a2 a3 B
 rd:Rd r w q
 bl:Below w0.heap.size w0 w
 nf:w0.heap.size<=f
 nr:w0.heap.size<=r
 nx:w0.heap.size<=x
 fr:f≠r
 fx:f≠x
 xr:x≠r
theorem MeU.go{r f x:Nat}{B:Bk}{a1 a2 a3:Option Addr}{c1 c2 c3:Nat}{w0 w W:World}{q q':Int}(h:MeU r f x B a1 a2 a3 c1 c2 c3 w0 q w)(hp:Past r w.heap.size w W)(hr:Rd r W q'):MeU r f x B a1 a2 a3 c1 c2 c3 w0 q' W:=
 have h0:=h.bl.size
 ⟨BD hp h.vf (AB h.vf).1 h.fr,BD hp h.vx (AB h.vx).1 h.xr,h.bk.past h.rd hp,hr,h.bl.trans ⟨hp.os,hp.tape,hp.output,hp.size,λk hk=>hp.block k (by omega) (by have:=h.nr;omega)⟩,h.nf,h.nr,h.nx,h.fr,h.fx,h.xr⟩
def MeIs(w0:World)(e:Ending)(w':World):Prop:=∃(a1 a2 a3:Option Addr) (c1 c2 c3:Nat) (B:Bk) (sv:ByteArray) (num:Int),e=.returned (.tuple #[.agg (bkV B a1 c1 a2 c2 a3 c3),.string sv,.int .i64 num])/\BkAt w' a1 a2 a3 B/\B.cps.length<=c2/\B.sized/\B.small/\sv.size<=maxLen/\((0<=num/\num<9)\/∃c∈B.cps,c.number=num)/\Below w0.heap.size w0 w'
theorem MeU.fin{r f x:Nat}{B:Bk}{a1 a2 a3:Option Addr}{c1 c2 c3:Nat}{w0 w W:World}{q:Int}{sv:ByteArray}{num:Int}(h:MeU r f x B a1 a2 a3 c1 c2 c3 w0 q w)(hp:Past2 r f w W)(hc:B.cps.length<=c2)(hz:B.sized)(hs:B.small)(hsv:sv.size<=maxLen)(hn:(0<=num/\num<9)\/∃c∈B.cps,c.number=num):MeIs w0 (.returned (.tuple #[.agg (bkV B a1 c1 a2 c2 a3 c3),.string sv,.int .i64 num])) W:=
 have h0:=h.bl.size
 ⟨a1,a2,a3,c1,c2,c3,B,sv,num,rfl,h.bk.past2 h.rd (Iu h.vf) hp,hc,hz,hs,hsv,hn,h.bl.trans ⟨hp.os,hp.tape,hp.output,hp.size,λk hk=>hp.block k (by omega) (by have:=h.nr;omega) (by have:=h.nf;omega)⟩⟩
structure MeF(r f x:Nat)(a:Act):Prop where
 e2:a.eval (.tmp 2)=.pointer (ad f)
 e5:a.eval (.tmp 5)=.pointer (ad r)
 e6:a.eval (.tmp 6)=.pointer (ad x)
 sz:a.tmps.size=41
 df:a.defers=[]
theorem MI(ao:Option Addr)(n cap:Nat)(w:World)(hn:n<=1048576)(hcap:n<=cap)(hC:GS w ao n):
  Calls Try.prog 7 #[.slice ao n cap] w λe w'=>MeIs w e w':=by
 obtain⟨W0,hW0⟩:∃W0,w.alloc (.cells zbV 27)=W0:=⟨_,rfl⟩;have HB0:Hid (Below w.heap.size w W0):=by unfold Hid;rw[<-hW0];exact AO _ _
 have VF:Hid (Bl W0 (w.heap.size) zbV 27):=by unfold Hid;rw[<-hW0];exact heap_alloc_new w _
 have HC0:Hid (GS W0 ao n):=λh0=>by
  obtain⟨b,off,e,hlt,hc⟩:=hC h0;exact⟨b,off,e,AF hlt HB0.out.size,λi hi=>by rw[HB0.out.cell (p:=⟨b,off+i,none⟩) hlt];exact hc i hi⟩
 obtain⟨f,hf0⟩:∃f,w.heap.size=f:=⟨_,rfl⟩;have hff:w.heap.size<=f:=by omega
 have hff':f<=w.heap.size:=by omega
 clear hC;go_enter Try.func7,Try.ntmps7
 go_upto_region 1 with fail
 rw[hf0]at VF;clear hW0;have hlf:=(AB VF.out).1
 go_upto_region 2 with(go_at_call 19;refine(open_any ao n cap _ hn hcap HC0.out).mono ?_;rintro e w1 ⟨rfl,hr,hb⟩;have HR1:Hid (Rd W0.heap.size w1 0):=hr;have HB1:Hid (Below W0.heap.size W0 w1):=hb;clear hr hb)
 obtain⟨r,hr0⟩:∃r,W0.heap.size=r:=⟨_,rfl⟩;have hrr:W0.heap.size<=r:=by omega
 rw[hr0]at HR1 ⊢
 go_upto_region 3 with(first
  |(go_at_call 20;refine(any_any r _ _ HR1.out (by omega)).mono ?_;rintro e w2 ⟨a1,a2,a3,c1,c2,c3,B,rfl,hB,hcc,hz,hs,hP,hr⟩;have HB2:Hid (BkAt w2 a1 a2 a3 B):=hB;have HZ:Hid (B.sized):=hz;have HS:Hid (B.small):=hs;have HCC:Hid (B.cps.length<=c2):=hcc;have HP2:Hid (Past r w1.heap.size w1 w2):=hP;have HR2:Hid (Rd r w2 (0+201000000)):=hr;have VX:Hid ((w2.alloc (.cells zbV 27)).heap[w2.heap.size]?=some (.cells zbV 27 (0,0))):=heap_alloc_new w2 _;clear hB hcc hz hs hP hr)
  |((with_reducible show wpList _ _ _ _ _ _);refine AM rfl 27 (.tmp 6) (.tmp 11) rfl w2.heap.size 0 (bkV B a1 c1 a2 c2 a3 c3) rfl rfl 27 zbV VX.out AT (AD rfl) (by simp[Value.oneCell']) ?_;intro w3 hz3 on3;simp only[Act.put]))
 have J0:Hid (MeU r f w2.heap.size B a1 a2 a3 c1 c2 c3 w 201000000 w3):=by
  have hbb:Below w2.heap.size w2 (w2.alloc (.cells zbV 27)):=AO _ _;have hs1:=HB1.out.size;have hs2:=HP2.out.size;have hs0:=HB0.out.size;have hrl:=HR1.out.lt;have hn:∀k,k<w2.heap.size->w3.heap[k]?=w2.heap[k]?:=λk hk=>(on3.other k (by omega)).trans (hbb.block k hk)
  refine⟨(hn f (by omega)).trans (BD HP2.out (AL HB1.out VF.out hlf) (by omega) (by omega)),hz3.out,(HB2.out.below hbb).only (Iu VX.out) on3,((HR2.out.below hbb).turn (by omega) on3.size on3.other).mono (by omega),⟨?_,?_,?_,?_,?_⟩,hff,by omega,by omega,by omega,by omega,by omega⟩
  ·exact on3.below.os.trans (hbb.os.trans (HP2.out.os.trans (HB1.out.os.trans HB0.out.os)))
  ·exact on3.below.tape.trans (hbb.tape.trans (HP2.out.tape.trans (HB1.out.tape.trans HB0.out.tape)))
  ·exact on3.below.output.trans (hbb.output.trans (HP2.out.output.trans (HB1.out.output.trans HB0.out.output)))
  ·have:=Nat.le_trans hbb.size (Nat.le_of_eq on3.size.symm);omega
  ·exact λk hk=>(hn k (by omega)).trans ((HP2.out.block k (by omega) (by omega)).trans ((HB1.out.block k (by omega)).trans (HB0.out.block k hk)))
 obtain⟨x,hx⟩:∃x,w2.heap.size=x:=⟨_,rfl⟩;rw[hx]at J0 ⊢;clear HB1 HR1 HB2 HP2 HR2 VX VF HC0 hz3 on3 hx HB0;have e2:=AK J0.out.vx 2 rfl;have hS:=HS.out.2.1
 go_cut [20] from 12 (λv wx=>∃b:Bool,v=.bool b/\(b=true->0<B.cps.length)/\MeU r f x B a1 a2 a3 c1 c2 c3 w 201000001 wx)
 case first=>
  by_cases hl:B.cps.length=0
  ·have hlb:decide (0<(B.cps.length:Int))=false:=by simp[hl]
   go_wp2;go_meet;exact⟨false,rfl,(λh=>by cases h),J0.out.go (Past.refl _ _ _) (J0.out.rd.mono (by omega))⟩
  ·have hlb:decide (0<(B.cps.length:Int))=true:=by simp;omega
   go_wp2_with (go_at_call 21;refine(Ao r 8 _ _ (by omega) (by omega) J0.out.rd (by omega)).mono ?_;rintro e w4 ⟨k1,rfl,hk,hs⟩;have P1:Hid _:=hs;clear hk hs)
   go_meet;exact⟨_,rfl,λ_=>by omega,J0.out.go P1.out.1 (P1.out.2 _ J0.out.rd)⟩
 obtain⟨b,rfl,hbl,hu⟩:=hcut;clear J0 e2;have hz:=HZ.out;have hs:=HS.out;have hc:=HCC.out;cases b
 ·go_upto_region 6 with fail
  refine Ea (MeF r f x) ⟨rfl,rfl,rfl,rfl,rfl⟩ λa hf=>?_
  rename_i wq K hK0;have hX:∀W,Past2 r f wc W->Bl W x (bkV B a1 c1 a2 c2 a3 c3) 27:=λW h=>(h.block x (AB hu.vx).1 hu.xr hu.fx.symm).trans hu.vx
  refine DS 8 6 (O0 r f 8 201000001 wc) (λW=>Bl W f zbV 27) (IOa 6 f r) (by kernel_rfl) (AD rfl) (by kernel_rfl) (λW hb=>⟨Jk hu.rd hb,AL hb hu.vf (AB hu.vf).1⟩) (λi m W W' hm h hR=>LD hm h hR) (λi W W' hi h hR=>Fq hu.fr h hi hR) ?_;refine Ae (λv _=>v=.agg (bkV B a1 c1 a2 c2 a3 c3)) (λ_ _ _ _ _ h _=>h) ?_ ?_
  ·intro V W K A hI hZ hd hA hK
   obtain rfl:=hA;exact wpList_load_row rfl 27 (.tmp 6) rfl x ((Be (by kernel_rfl)).trans hf.e6) 27 _ (0,0) _ (hX W (FD hI).1) Try.underlying27 rfl AT (hK.out _ _ (DM rfl (RStep.re _)) rfl)
  refine Ae (λv _=>v=.pointer (ad r)) (λ_ _ _ _ _ h _=>h) ?_ ?_
  ·intro V W K A hI hZ hd hA hK
   obtain rfl:=hA;exact Aa rfl (BG rfl ((Be (by kernel_rfl)).trans hf.e5)) (hK.out _ _ (DM rfl (RStep.re _)) rfl)
  refine Ae (λv _=>v=.agg (bkV B a1 c1 a2 c2 a3 c3)) (λ_ _ _ _ _ h _=>h) ?_ ?_
  ·intro V W K A hI hZ hd hA hK
   obtain rfl:=hA;exact wpList_load_row rfl 27 (.tmp 6) rfl x ((Be (by kernel_rfl)).trans hf.e6) 27 _ (0,0) _ (hX W (FD hI).1) Try.underlying27 rfl AT (hK.out _ _ (DM rfl (RStep.re _)) rfl)
  refine Ae (λv _=>∃s:ByteArray,v=.string s/\s.size<=maxLen) (λ_ _ _ _ _ h _=>h) ?_ ?_
  ·intro V W K A hI hZ hd hA hK
   obtain rfl:=hA;have h1:(λv _=>v=.pointer (ad r)) (V 1) W:=hd 1 (by kernel_rfl);have h2:(λv _=>v=.agg (bkV B a1 c1 a2 c2 a3 c3)) (V 2) W:=hd 2 (by kernel_rfl);obtain⟨p,hp1,hp2,hp3⟩:=rd_least (FD hI).2;refine DT rfl (run_name rfl rfl ((BI (i:=1) (by kernel_rfl) (show 36<_ by rw[hf.sz];decide)).trans h1) ((BI (i:=2) (by kernel_rfl) (show 37<_ by rw[hf.sz];decide)).trans h2)) ((name_any r p B a1 a2 a3 c1 c2 c3 W hs hz (hu.bk.past2 hu.rd (Iu hu.vf) (FD hI).1) hp2 (by omega)).mono ?_);rintro e w2 ⟨s,rfl,hsz,hP,hr⟩;exact⟨_,rfl,hK.out _ _ (DM rfl ⟨hP,λq' hq'=>hr.mono (by have:=hp3 q' hq';omega)⟩) ⟨s,rfl,hsz⟩⟩
  refine Ae (λv _=>v=.pointer (ad r)) (λ_ _ _ _ _ h _=>h) ?_ ?_
  ·intro V W K A hI hZ hd hA hK
   obtain rfl:=hA;exact Aa rfl (BG rfl ((Be (by kernel_rfl)).trans hf.e5)) (hK.out _ _ (DM rfl (RStep.re _)) rfl)
  refine Ae (Pk 9) (λ_ _ _ _ _ h _=>h) ?_ ?_
  ·intro V W K A hI hZ hd hA hK
   obtain rfl:=hA;have h4:(λv _=>v=.pointer (ad r)) (V 4) W:=hd 4 (by kernel_rfl);refine DT rfl (EF rfl rfl rfl ((BI (i:=4) (by kernel_rfl) (show 39<_ by rw[hf.sz];decide)).trans h4)) ((Ao r 9 _ W (by omega) (by omega) (FD hI).2 (by omega)).mono ?_);rintro e w2 ⟨k,rfl,hk,hs⟩;exact⟨_,rfl,hK.out _ _ (DM rfl (hs.wide (by decide))) ⟨k,rfl,hk⟩⟩
  refine Ae (λ_ W=>Bl W f (bkV B a1 c1 a2 c2 a3 c3) 27) (λi hi _ _ _ h hr=>Fq hu.fr h hi hr) ?_ ?_
  ·intro V W K A hI hZ hd hA hK
   obtain rfl:=hA;have h0:(λv _=>v=.agg (bkV B a1 c1 a2 c2 a3 c3)) (V 0) W:=hd 0 (by kernel_rfl);have hz0:=hZ (by kernel_rfl);refine AM rfl 27 _ _ rfl f 0 (bkV B a1 c1 a2 c2 a3 c3) ((Be (by kernel_rfl)).trans hf.e2) ((BI (i:=0) (by kernel_rfl) (show 35<_ by rw[hf.sz];decide)).trans h0) 27 _ hz0 AT (AD rfl) (by simp[Value.oneCell']) ?_;intro w' hz on;exact hK.out _ _ (L0 rfl on λq hq=>hq.only hz0 on hu.fr.symm zb_no) hz.out
  refine Ae (λv _=>∃s:ByteArray,v=.string s/\s.size<=maxLen) (λ_ _ _ _ _ h _=>h) ?_ ?_
  ·intro V W K A hI hZ hd hA hK
   obtain rfl:=hA;have h3:(λv _=>∃s:ByteArray,v=.string s/\s.size<=maxLen) (V 3) W:=hd 3 (by kernel_rfl);obtain⟨s,h3,hsz⟩:=h3;exact Aa rfl (Da rfl ((BI (i:=3) (by kernel_rfl) (show 38<_ by rw[hf.sz];decide)).trans h3)) (hK.out _ _ (DM rfl (RStep.re _)) ⟨s,rfl,hsz⟩)
  intro V W A hI hS hA;obtain rfl:=hA;obtain⟨k,h5,hk⟩:Pk 9 (V 5) W:=hS 5 (by omega);have h6:Bl W f (bkV B a1 c1 a2 c2 a3 c3) 27:=hS 6 (by omega);obtain⟨s,h7,hsz⟩:∃s:ByteArray,V 7=.string s/\s.size<=maxLen:=hS 7 (by omega);have hasz:=hf.sz;refine Aj rfl rfl (by rw[Bq];show 4<a.tmps.size;omega) (Da rfl ((BI (i:=5) (by kernel_rfl) (show 40<_ by rw[hf.sz];decide)).trans h5)) λA' q' s'=>?_
  exact hK0 _ _ (wp_ret (bodyPost_ret (Ez rfl _ W f 27 (bkV B a1 c1 a2 c2 a3 c3) (0,0) _ ((q'.1 2 (by decide)).trans ((Be (by kernel_rfl)).trans hf.e2)) h6 Try.underlying27 rfl AT (.string s) (.int .i64 k) ((q'.1 3 (by decide)).trans ((BI (i:=7) (by kernel_rfl) (show 3<_ by rw[hf.sz];decide)).trans h7)) s') (q'.2.2.trans ((BZ 8).trans hf.df)) (hu.fin hI.1 hc hz hs hsz (.inl ⟨hk.1,hk.2.1 (by omega)⟩))))
 go_upto_region 4 with fail
 refine Ea (MeF r f x) ⟨rfl,rfl,rfl,rfl,rfl⟩ λa hf=>?_
 rename_i wq K hK0;have hlp:=hbl rfl;obtain⟨b2,off,ea,hb2,hat⟩:=hu.bk.2.1 (by intro h;rw[h]at hlp;simp at hlp);subst ea
 have hb2r:b2≠r:=by
  obtain⟨c,hck⟩:∃c,B.cps[0]?=some c:=⟨B.cps[0],by simp⟩;exact hu.rd.str (hat 0 c hck).1
 have hrl:=hu.rd.lt;refine BN 10 r 1 _ (by kernel_rfl) (by kernel_rfl) hu.rd ?_;refine Am (λv _=>v=.pointer (some ⟨x,2,none⟩)) (λ_ _ _ h _ _=>h) ?_ ?_
 ·intro V W K A hW hR hd hA hK
  obtain rfl:=hA;exact Aa rfl (Ar (by decide) rfl ((Be (by kernel_rfl)).trans hf.e6)) (hK.out _ _ (RStep.re _) rfl)
 refine Am (λv _=>v=.slice (some ⟨b2,off,none⟩) B.cps.length c2) (λ_ _ _ h _ _=>h) ?_ ?_
 ·intro V W K A hW hR hd hA hK
  obtain rfl:=hA;have h0:(λv _=>v=.pointer (some ⟨x,2,none⟩)) (V 0) W:=hd 0 (by kernel_rfl);exact Aa rfl (Dd rfl ((BI (i:=0) (by kernel_rfl) (show 21<_ by rw[hf.sz];decide)).trans h0) (AK (hu.go hW hR).vx 2 rfl)) (hK.out _ _ (RStep.re _) rfl)
 refine Am (λv _=>v=.pointer (ad r)) (λ_ _ _ h _ _=>h) ?_ ?_
 ·intro V W K A hW hR hd hA hK
  obtain rfl:=hA;exact Aa rfl (BG rfl ((Be (by kernel_rfl)).trans hf.e5)) (hK.out _ _ (RStep.re _) rfl)
 refine Am (λv _=>v=.pointer (some ⟨x,2,none⟩)) (λ_ _ _ h _ _=>h) ?_ ?_
 ·intro V W K A hW hR hd hA hK
  obtain rfl:=hA;exact Aa rfl (Ar (by decide) rfl ((Be (by kernel_rfl)).trans hf.e6)) (hK.out _ _ (RStep.re _) rfl)
 refine Am (λv _=>v=.slice (some ⟨b2,off,none⟩) B.cps.length c2) (λ_ _ _ h _ _=>h) ?_ ?_
 ·intro V W K A hW hR hd hA hK
  obtain rfl:=hA;have h3:(λv _=>v=.pointer (some ⟨x,2,none⟩)) (V 3) W:=hd 3 (by kernel_rfl);exact Aa rfl (Dd rfl ((BI (i:=3) (by kernel_rfl) (show 24<_ by rw[hf.sz];decide)).trans h3) (AK (hu.go hW hR).vx 2 rfl)) (hK.out _ _ (RStep.re _) rfl)
 refine Am (λv _=>v=.int .i64 B.cps.length) (λ_ _ _ h _ _=>h) ?_ ?_
 ·intro V W K A hW hR hd hA hK
  obtain rfl:=hA;have h4:(λv _=>v=.slice (some ⟨b2,off,none⟩) B.cps.length c2) (V 4) W:=hd 4 (by kernel_rfl);exact Aa rfl (H9 rfl ((BI (i:=4) (by kernel_rfl) (show 25<_ by rw[hf.sz];decide)).trans h4)) (hK.out _ _ (RStep.re _) rfl)
 refine Am (Pk (B.cps.length:Int)) Fi ?_ ?_
 ·intro V W K A hW hR hd hA hK
  obtain rfl:=hA;have h2:(λv _=>v=.pointer (ad r)) (V 2) W:=hd 2 (by kernel_rfl);have h5:(λv _=>v=.int .i64 B.cps.length) (V 5) W:=hd 5 (by kernel_rfl);refine DT rfl (OQ rfl rfl ((BI (i:=2) (by kernel_rfl) (show 23<_ by rw[hf.sz];decide)).trans h2) ((BI (i:=5) (by kernel_rfl) (show 26<_ by rw[hf.sz];decide)).trans h5)) ((Ao r _ _ W (by omega) (by omega) hR (by omega)).mono ?_);rintro e w2 ⟨k,rfl,hk,hs⟩;exact⟨_,rfl,hK.out _ _ hs ⟨k,rfl,hk⟩⟩
 refine Am (λv _=>∃j:Nat,v=.pointer (some ⟨b2,off+j*7,none⟩)/\j<B.cps.length) (λ_ _ _ h _ _=>h) ?_ ?_
 ·intro V W K A hW hR hd hA hK
  obtain rfl:=hA;have h1:(λv _=>v=.slice (some ⟨b2,off,none⟩) B.cps.length c2) (V 1) W:=hd 1 (by kernel_rfl);have h6:(Pk (B.cps.length:Int)) (V 6) W:=hd 6 (by kernel_rfl);obtain⟨k,h6,hk⟩:=h6;obtain⟨j,rfl⟩:=AI hk.1;have hj:j<B.cps.length:=by have:=hk.2.1 (by omega);omega
  exact Aa rfl (Nz rfl ((BI (i:=1) (by kernel_rfl) (show 22<_ by rw[hf.sz];decide)).trans h1) ((BI (i:=6) (by kernel_rfl) (show 27<_ by rw[hf.sz];decide)).trans h6) hj) (hK.out _ _ (RStep.re _) ⟨j,rfl,hj⟩)
 refine Am (λv _=>∃c∈B.cps,v=.agg (cpV c)) (λ_ _ _ h _ _=>h) ?_ ?_
 ·intro V W K A hW hR hd hA hK
  obtain rfl:=hA;have h7:(λv _=>∃j:Nat,v=.pointer (some ⟨b2,off+j*7,none⟩)/\j<B.cps.length) (V 7) W:=hd 7 (by kernel_rfl);obtain⟨j,h7,hj⟩:=h7;obtain⟨c,hck⟩:∃c,B.cps[j]?=some c:=⟨B.cps[j],by simp[hj]⟩
  have hcs:CpAt W b2 (off+j*7) c:=by
   have h1:=hat j c hck;unfold CpAt at *;simp only[hW.cell hb2 hb2r];exact h1
  exact Aa rfl (JH rfl ((BI (i:=7) (by kernel_rfl) (show 28<_ by rw[hf.sz];decide)).trans h7) hcs) (hK.out _ _ (RStep.re _) ⟨c,AE hck,rfl⟩)
 refine Am (λv W=>∃g,v=.pointer (ad g)/\wc.heap.size<=g/\Bl W g czV 35) (λ_ _ _ ⟨g,e,h1,h2⟩ hs _=>⟨g,e,h1,BD hs.1 h2 (AB h2).1 (by omega)⟩) ?_ ?_
 ·intro V W K A hW hR hd hA hK
  obtain rfl:=hA;exact Aa rfl (K4 rfl) (hK.out _ _ (.of (AO _ _)) ⟨_,rfl,hW.size,heap_alloc_new W _⟩)
 intro V W A hW hR hS hA;obtain⟨c,hcm,h8⟩:∃c∈B.cps,V 8=.agg (cpV c):=hS 8 (by omega);obtain⟨g,h9,hg,hgz⟩:∃g,V 9=.pointer (ad g)/\wc.heap.size<=g/\Bl W g czV 35:=hS 9 (by omega);have hu4:=hu.go hW hR;have hrl:=hu.rd.lt;have hfl:=(AB hu.vf).1;have hxl:=(AB hu.vx).1;have f2:A.eval (.tmp 2)=.pointer (ad f):=by rw[hA.out];exact(Be (by kernel_rfl)).trans hf.e2
 have f6:A.eval (.tmp 6)=.pointer (ad x):=by rw[hA.out];exact(Be (by kernel_rfl)).trans hf.e6
 have f7:A.eval (.tmp 7)=.pointer (ad g):=by rw[hA.out];exact(BI (i:=9) (by kernel_rfl) (show 7<_ by rw[hf.sz];decide)).trans h9
 have f29:A.eval (.tmp 29)=.agg (cpV c):=by rw[hA.out];exact(BI (i:=8) (by kernel_rfl) (show 29<_ by rw[hf.sz];decide)).trans h8
 have fz:A.tmps.size=41:=by rw[hA.out];exact(Bq 10).trans hf.sz
 have fd:A.defers=[]:=by rw[hA.out];exact(BZ 10).trans hf.df
 clear hA;refine AM rfl 35 _ _ rfl g 0 (cpV c) f7 f29 35 _ hgz Dq (AD rfl) (by simp[Value.oneCell']) ?_;intro w5 hz5 on5;have hu5:MeU r f x B a1 (some ⟨b2,off,none⟩) a3 c1 c2 c3 w (201000001+((10*1:Nat):Int)) w5:=hu.go ⟨on5.below.os.trans hW.os,on5.below.tape.trans hW.tape,on5.below.output.trans hW.output,AH hW.size on5.below.size,λk hk hr=>(on5.other k (by omega)).trans (hW.block k hk hr)⟩ (hR.turn (by omega) on5.size on5.other);have hgl:g<w5.heap.size:=(AB hz5.out).1;refine hK0 _ _ (wp_seq (Ea (λa=>a.eval (.tmp 2)=.pointer (ad f)/\a.eval (.tmp 6)=.pointer (ad x)/\a.eval (.tmp 7)=.pointer (ad g)/\a.tmps.size=41/\a.defers=[]) ⟨f2,f6,f7,fz,fd⟩ λa ⟨e2,e6,e7,hsz,hdf⟩=>?_));clear hK0 hf hat hW hR hS h8 h9 hgz hu hu4;have hu:=hu5;have hX:∀W,Past2 r f w5 W->Bl W x (bkV B a1 c1 (some ⟨b2,off,none⟩) c2 a3 c3) 27:=λW h=>(h.block x (AB hu.vx).1 hu.xr hu.fx.symm).trans hu.vx
 have hG:∀W,Past2 r f w5 W->Bl W g (cpV c) 35:=λW h=>(h.block g hgl (by omega) (by omega)).trans hz5.out
 refine DS 7 5 (O0 r f 7 (201000001+((10*1:Nat):Int)) w5) (λW=>Bl W f zbV 27) (IOa 5 f r) (by kernel_rfl) (AD rfl) (by kernel_rfl) (λW hb=>⟨Jk hu.rd hb,AL hb hu.vf (AB hu.vf).1⟩) (λi m W W' hm h hR=>LD hm h hR) (λi W W' hi h hR=>Fq hu.fr h hi hR) ?_;refine Ae (λv _=>v=.agg (bkV B a1 c1 (some ⟨b2,off,none⟩) c2 a3 c3)) (λ_ _ _ _ _ h _=>h) ?_ ?_
 ·intro V W K A hI hZ hd hA hK
  obtain rfl:=hA;exact wpList_load_row rfl 27 (.tmp 6) rfl x ((Be (by kernel_rfl)).trans e6) 27 _ (0,0) _ (hX W (FD hI).1) Try.underlying27 rfl AT (hK.out _ _ (DM rfl (RStep.re _)) rfl)
 refine Ae (λv _=>v=.pointer (some ⟨g,0+0,none⟩)) (λ_ _ _ _ _ h _=>h) ?_ ?_
 ·intro V W K A hI hZ hd hA hK
  obtain rfl:=hA;exact Aa rfl (GL (by decide) rfl ((Be (by kernel_rfl)).trans e7)) (hK.out _ _ (DM rfl (RStep.re _)) rfl)
 refine Ae (λv _=>v=.string c.service) (λ_ _ _ _ _ h _=>h) ?_ ?_
 ·intro V W K A hI hZ hd hA hK
  obtain rfl:=hA;have h1:(λv _=>v=.pointer (some ⟨g,0+0,none⟩)) (V 1) W:=hd 1 (by kernel_rfl);exact Aa rfl (Gy rfl ((BI (i:=1) (by kernel_rfl) (show 31<_ by rw[hsz];decide)).trans h1) (AK (hG W (FD hI).1) 0 rfl)) (hK.out _ _ (DM rfl (RStep.re _)) rfl)
 refine Ae (λv _=>v=.pointer (some ⟨g,0+1,none⟩)) (λ_ _ _ _ _ h _=>h) ?_ ?_
 ·intro V W K A hI hZ hd hA hK
  obtain rfl:=hA;exact Aa rfl (GL (by decide) rfl ((Be (by kernel_rfl)).trans e7)) (hK.out _ _ (DM rfl (RStep.re _)) rfl)
 refine Ae (λv _=>v=.int .i64 c.number) (λ_ _ _ _ _ h _=>h) ?_ ?_
 ·intro V W K A hI hZ hd hA hK
  obtain rfl:=hA;have h3:(λv _=>v=.pointer (some ⟨g,0+1,none⟩)) (V 3) W:=hd 3 (by kernel_rfl);exact Aa rfl (Dn rfl ((BI (i:=3) (by kernel_rfl) (show 33<_ by rw[hsz];decide)).trans h3) (AK (hG W (FD hI).1) 1 rfl)) (hK.out _ _ (DM rfl (RStep.re _)) rfl)
 refine Ae (λ_ W=>Bl W f (bkV B a1 c1 (some ⟨b2,off,none⟩) c2 a3 c3) 27) (λi hi _ _ _ h hr=>Fq hu.fr h hi hr) ?_ ?_
 ·intro V W K A hI hZ hd hA hK
  obtain rfl:=hA;have h0:(λv _=>v=.agg (bkV B a1 c1 (some ⟨b2,off,none⟩) c2 a3 c3)) (V 0) W:=hd 0 (by kernel_rfl);have hz0:=hZ (by kernel_rfl);refine AM rfl 27 _ _ rfl f 0 (bkV B a1 c1 (some ⟨b2,off,none⟩) c2 a3 c3) ((Be (by kernel_rfl)).trans e2) ((BI (i:=0) (by kernel_rfl) (show 30<_ by rw[hsz];decide)).trans h0) 27 _ hz0 AT (AD rfl) (by simp[Value.oneCell']) ?_;intro w' hz on;exact hK.out _ _ (L0 rfl on λq hq=>hq.only hz0 on hu.fr.symm zb_no) hz.out
 refine Ae (λv _=>v=.string c.service) (λ_ _ _ _ _ h _=>h) ?_ ?_
 ·intro V W K A hI hZ hd hA hK
  obtain rfl:=hA;have h2:(λv _=>v=.string c.service) (V 2) W:=hd 2 (by kernel_rfl);exact Aa rfl (Da rfl ((BI (i:=2) (by kernel_rfl) (show 32<_ by rw[hsz];decide)).trans h2)) (hK.out _ _ (DM rfl (RStep.re _)) rfl)
 intro V W A hI hS hA;obtain rfl:=hA;have h4:V 4=_:=hS 4 (by omega);have h5:Bl W f (bkV B a1 c1 (some ⟨b2,off,none⟩) c2 a3 c3) 27:=hS 5 (by omega);have h6:V 6=_:=hS 6 (by omega);refine Aj rfl rfl (by rw[Bq];show 4<a.tmps.size;omega) (Da rfl ((BI (i:=4) (by kernel_rfl) (show 34<_ by rw[hsz];decide)).trans h4)) λA' q' s'=>?_
 exact wp_ret (bodyPost_ret (Ez rfl _ W f 27 (bkV B a1 c1 (some ⟨b2,off,none⟩) c2 a3 c3) (0,0) _ ((q'.1 2 (by decide)).trans ((Be (by kernel_rfl)).trans e2)) h5 Try.underlying27 rfl AT (.string c.service) (.int .i64 c.number) ((q'.1 3 (by decide)).trans ((BI (i:=6) (by kernel_rfl) (show 3<_ by rw[hsz];decide)).trans h6)) s') (q'.2.2.trans ((BZ 7).trans hdf)) (hu.fin hI.1 hc hz hs (hz.2.2.2.2.1 c hcm).1 (.inr ⟨c,hcm,rfl⟩)))
end
section
def C7(B:Bk)(i:Nat)(o:Cp):Bk:={B with cps:=B.cps.set i {o with state:=3}}
section
variable {B:Bk} {i:Nat} {o:Cp}
theorem IC(hi:B.cps[i]?=some o)(j:Nat):(C7 B i o).cps[j]?=if j=i then some {o with state:=3} else B.cps[j]?:=by
 show(B.cps.set i _)[j]?=_;have hl:=(AC hi).1;rw[List.getElem?_set]
 by_cases h:i=j
 ·subst h;simp[hl]
 ·rw[if_neg h,if_neg (λe=>h e.symm)]
theorem L1(hi:B.cps[i]?=some o)(hs:o.state=2)(hV:Valid B):Valid (C7 B i o):=by
 have hc:=hV.cps;rw[IK]at hc;refine⟨hV.now,hV.ls,by show(B.cps.set i _).length<=200;rw[List.length_set];exact hV.lc,hV.lb,hV.svcs,hV.bts,?_⟩;rw[IK];intro j hj;have hj':j<B.cps.length:=by have:(C7 B i o).cps.length=B.cps.length:=List.length_set;omega
 have h1:=hc j hj'
 have key:∀c:Cp,∀c':Cp,c'.service=c.service->c'.number=c.number->c'.version=c.version->c'.image=c.image->c'.berth=c.berth->(c'.state=c.state\/(c.state=2/\c'.state=3))->cpB (C7 B i o) c'=true\/cpB B c=false:=by
  intro c c' e1 e2 e3 e4 e5 e6;cases hb:cpB B c
  ·exact .inr rfl
  ·left
   unfold cpB at hb ⊢;have es:Bz (C7 B i o) c'.service=Bz B c.service:=by rw[e1];rfl
   rw[es]
   cases hsv:Bz B c.service with
   |none=>rw[hsv]at hb;exact hb
   |some s=>
    rw[hsv]at hb;simp only[Bool.and_eq_true,GM,inB_iff]at hb ⊢;obtain⟨⟨⟨⟨b1,b2⟩,b3⟩,b4⟩,b5⟩:=hb;refine⟨⟨⟨⟨by rw[e2];exact b1,by rw[e3];exact b2⟩,by rw[e4];exact b3⟩,by rcases e6 with e6|e6<;>omega⟩,?_⟩;unfold DQ at b5 ⊢;rcases e6 with e6|⟨e6,e7⟩
    ·rw[e6,e5];exact b5
    ·rw[if_neg (by omega)]at b5
     rw[if_neg (by omega),e5];exact b5
 obtain⟨c,hc'⟩:∃c,B.cps[j]?=some c:=⟨B.cps[j],by simp[hj']⟩
 have new:∀(k:Nat) (d:Cp),B.cps[k]?=some d->∃d':Cp,(C7 B i o).cps[k]?=some d'/\d'.service=d.service/\d'.number=d.number/\d'.version=d.version/\d'.image=d.image/\d'.berth=d.berth/\(d'.state=d.state\/(d.state=2/\d'.state=3)):=by
  intro k d hd;rw[IC hi k]
  by_cases hk:k=i
  ·subst hk
   rw[hi]at hd;cases hd;exact⟨_,if_pos rfl,rfl,rfl,rfl,rfl,rfl,.inr ⟨hs,rfl⟩⟩
  ·exact⟨d,by rw[if_neg hk];exact hd,rfl,rfl,rfl,rfl,rfl,.inl rfl⟩
 obtain⟨c',hcc,e1,e2,e3,e4,e5,e6⟩:=new j c hc';unfold BP at h1 ⊢;rw[hc']at h1;rw[hcc];simp only[Bool.and_eq_true]at h1 ⊢;refine⟨?_,?_⟩
 ·rcases key c c' e1 e2 e3 e4 e5 e6 with h|h
  ·exact h
  ·rw[h1.1]at h;cases h
 ·have h2:=h1.2
  cases hp:B.cps[j - 1]? with
  |none=>
   have:(C7 B i o).cps[j - 1]?=none:=by
    rw[List.getElem?_eq_none_iff]at hp ⊢;show(B.cps.set i _).length<=_;rw[List.length_set];exact hp
   rw[this];simp
  |some d=>
   obtain⟨d',hdd,f1,f2,_⟩:=new (j - 1) d hp;rw[hp]at h2;rw[hdd];unfold Bg at h2 ⊢;simp only[f1,f2,e1,e2];exact h2
theorem M5{sv:ByteArray}{num:Int}{c:Cp}(hi:B.cps[i]?=some o)(hn:o.number≠num)(hf:B.cps.find? (isC sv num)=some c):(C7 B i o).cps.find? (isC sv num)=some c:=by
 rw[List.find?_eq_some_iff_getElem]at hf ⊢;obtain⟨hp,k,hk,hc,hno⟩:=hf
 have no:∀(x:Cp),x.number≠num->isC sv num x=false:=λx hx=>by
  cases h:isC sv num x
  ·rfl
  ·exact absurd (isC_iff.1 h).2 hx
 have hki:k≠i:=by
  rintro rfl;have:c=o:=by rw[List.getElem?_eq_getElem hk,hc]at hi;exact Option.some.inj hi
  exact hn (this▸(isC_iff.1 hp).2)
 have hl:(C7 B i o).cps.length=B.cps.length:=List.length_set;refine⟨hp,k,by omega,?_,λj hj=>?_⟩
 ·have:=IC hi k
  rw[if_neg hki,List.getElem?_eq_getElem (by omega),List.getElem?_eq_getElem hk]at this;exact(Option.some.inj this).trans hc
 ·have:=IC hi j
  by_cases hji:j=i
  ·rw[if_pos hji,List.getElem?_eq_getElem (by omega)]at this
   rw[Option.some.inj this,no {o with state:=3} hn];rfl
  ·rw[if_neg hji,List.getElem?_eq_getElem (by omega),List.getElem?_eq_getElem (by omega)]at this
   rw[Option.some.inj this];exact hno j hj
theorem Hr{img:Int}{sv:ByteArray}{c:Cp}{n m:Cnt}(h:n.ready<=m.ready):(Bf img sv c n).ready<=(Bf img sv c m).ready:=by
 unfold Bf;split
 ·unfold CF
  split
  ·exact h
  ·show Et _ n.ready<=Et _ m.ready
   unfold Et
   split<;>omega
 ·exact h
theorem Jm{img:Int}{sv:ByteArray}:∀(l:List Cp) (n m:Cnt),n.ready<=m.ready->(l.foldl (λn c=>Bf img sv c n) n).ready<=(l.foldl (λn c=>Bf img sv c n) m).ready
 |[],_,_,h=>h
 |_::l,_,_,h=>Jm l _ _ (Hr h)
theorem Kw{img:Int}{sv:ByteArray}:∀(l:List Cp) (i:Nat) (n m:Cnt),n.ready<=m.ready->l[i]?=some o->(l.foldl (λn c=>Bf img sv c n) n).ready<=((l.set i {o with state:=3}).foldl (λn c=>Bf img sv c n) m).ready
 |[],_,_,_,_,hi=>by simp at hi
 |c::l,0,n,m,h,hi=>by
  simp only[List.getElem?_cons_zero,Option.some.injEq]at hi;subst hi;refine Jm l _ _ ?_;unfold Bf CF Et;simp only;split
  ·split
   ·exact h
   ·simp only
    split<;>simp<;>omega
  ·exact h
 |c::l,i+1,n,m,h,hi=>Kw l i _ _ (Hr h) (by simpa using hi)
theorem Ob{img:Int}{sv:ByteArray}(hi:B.cps[i]?=some o):(Cq img sv B.cps B.cps.length).ready<=(Cq img sv (C7 B i o).cps (C7 B i o).cps.length).ready:=by
 unfold Cq;rw[List.take_length,List.take_length];exact Kw B.cps i _ _ (Int.le_refl _) hi
theorem Oa{sv:ByteArray}{num:Int}(hi:B.cps[i]?=some o)(hs:o.state=2)(hn:o.number≠num)(h:B4 B sv num=true):B4 (C7 B i o) sv num=true:=by
 unfold B4 at h ⊢;rw[Bool.and_eq_true]at h ⊢;obtain⟨hv,hm⟩:=h;refine⟨validB_iff.2 (L1 hi hs (validB_iff.1 hv)),?_⟩
 cases hf:B.cps.find? (isC sv num) with
 |none=>rw[hf]at hm;cases hm
 |some c=>
  rw[hf]at hm;rw[M5 hi hn hf];have es:Bz (C7 B i o) sv=Bz B sv:=rfl;simp only[es]at hm ⊢
  cases hsv:Bz B sv with
  |none=>rw[hsv]at hm;cases hm
  |some s=>
   rw[hsv]at hm;simp only[Gc,Bool.and_eq_true,Bool.or_eq_true,decide_eq_true_eq]at hm ⊢;refine⟨hm.1,?_⟩;rcases hm.2 with h|h|h
   ·exact .inl h
   ·exact .inr (.inl h)
   ·have:=Ob (B:=B) (i:=i) (o:=o) (img:=s.image) (sv:=sv) hi
    exact .inr (.inr (by omega))
theorem LW{sv:ByteArray}{num:Int}{c:Cp}(hv:Au B=true)(hf:B.cps.find? (isC sv num)=some c)(hs:c.state≠3)(he:c.ending=false):B4 B sv num=true:=by
 unfold B4;rw[hv,hf];have hm:=List.mem_of_find?_eq_some hf;obtain⟨s,h1,_⟩:=(validB_iff.1 hv).svc hm;have hsv:c.service=sv:=(isC_iff.1 (List.find?_some hf)).1;rw[hsv]at h1;simp only[h1,Gc,he,Bool.not_false,Bool.true_and,Bool.or_eq_true];exact .inl (by simpa using hs)
theorem IH{img:Int}{sv:ByteArray}:∀(l:List Cp) (n:Cnt),n.live<=(l.foldl (λn c=>Bf img sv c n) n).live
 |[],_=>Int.le_refl _
 |c::l,n=>by
  refine Int.le_trans ?_ (IH l _);show n.live<=(Bf img sv c n).live;unfold Bf CF;split
  ·split
   ·exact Int.le_refl _
   ·show n.live<=n.live+1;omega
  ·exact Int.le_refl _
theorem MH{img:Int}{sv:ByteArray}{c:Cp}(hs:c.service=sv)(he:c.ending=false):∀(l:List Cp) (n:Cnt),c∈l->n.live+1<=(l.foldl (λn c=>Bf img sv c n) n).live
 |[],_,h=>by cases h
 |d::l,n,h=>by
  rcases List.mem_cons.1 h with h|h
  ·subst h
   refine Int.le_trans ?_ (IH l _);show n.live+1<=(Bf img sv c n).live;unfold Bf CF;rw[hs,he];simp
  ·refine Int.le_trans ?_ (MH hs he l (Bf img sv d n) h)
   have:=IH (img:=img) (sv:=sv) [d] n;simp only[List.foldl_cons,List.foldl_nil]at this;omega
theorem may_live{sv:ByteArray}{num:Int}(h:B4 B sv num=true):1<=(D6 B sv).live:=by
 unfold B4 at h;rw[Bool.and_eq_true]at h;obtain⟨hv,hm⟩:=h
 cases hf:B.cps.find? (isC sv num) with
 |none=>rw[hf]at hm;cases hm
 |some c=>
  rw[hf]at hm;have hmem:=List.mem_of_find?_eq_some hf;have hsv:c.service=sv:=(isC_iff.1 (List.find?_some hf)).1;unfold D6
  cases hs:Bz B sv with
  |none=>simp only[hs]at hm;cases hm
  |some s=>
   simp only[hs,Gc,Bool.and_eq_true]at hm;have:=MH (img:=s.image) hsv (by simpa using hm.1) B.cps Cnt.none hmem;unfold Cq;rw[List.take_length];exact this
end
end
end Go.Proofs.Ytbceafpodamnfaa
