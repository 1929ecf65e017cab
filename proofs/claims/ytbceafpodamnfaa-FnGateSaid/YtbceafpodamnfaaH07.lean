import Derived.Test.YtbceafpodamnfaaH06
import Derived.RangeFuncNested
import Derived.RangeFuncLeaves
import Derived.Shelf.Abstract
import Derived.OwnWalkIn
import Derived.TacticsInMore
import Derived.LoopNIn
import Derived.LoopIn
set_option linter.all false
set_option maxHeartbeats 8000000
set_option maxRecDepth 100000
namespace Go.Proofs.Ytbceafpodamnfaa
attribute [local simp] svV cpV zbV czV aaV ctZ ad bkV ctV
attribute [local go_sem] svV cpV zbV czV aaV ctZ ad bkV ctV
section
open Go.RowKit Go.Shelf
attribute [local go_sem] Oper.semAt_some
theorem Mb(F:Fence)(n:Nat)(h:F.fn 52)(hro:F.round=none)(B:Bk)(nm:ByteArray)(a1 a2 a3:Option Addr)(c1 c2 c3:Nat)(w:World):
  CallsIn F n Try.prog 52 #[.agg (bkV B a1 c1 a2 c2 a3 c3),.string nm] w λe w'=>e=.returned (.func (.func 78) #[] #[.pointer (some ⟨w.heap.size,0,none⟩),.pointer (some ⟨w.heap.size+1,0,none⟩)])/\w'=(w.alloc (.cells (bkV B a1 c1 a2 c2 a3 c3) 27)).alloc (.cells #[.string nm] 9):=by
 refine callsIn_of_wp Try.func52 rfl h ?_ hro;simp only[Try.ntmps52,List.size_toArray,List.length_cons,List.length_nil,Nat.reduceAdd,Nat.reduceSub,Array.replicate_succ,Array.replicate_zero,List.push_toArray,List.append_toArray,List.nil_append,List.cons_append]
 gi_wp2
 go_ret;exact⟨rfl,rfl⟩
def ofS(nm:ByteArray)(l:List Cp):List Cp:=l.filter λc=>c.service.toList==nm.toList
def ofG{α:Type}(g:α->Cp)(nm:ByteArray)(l:List α):List α:=l.filter λc=>(g c).service.toList==nm.toList
theorem LU{α:Type}(g:α->Cp)(nm:ByteArray)(l:List α)(f k:Nat)(hR:Hy (l.map g))
  (h1:∀(i:Nat) s,i<f->(l.map g)[i]?=some s->Op.bytesLess s.service.toList nm.toList=true)
  (h2:∀(i:Nat) s,f<=i->(l.map g)[i]?=some s->Op.bytesLess s.service.toList nm.toList=false)
  (h3:∀x∈(l.drop f).take k,((g x).service.toList==nm.toList)=true)
  (h4:∀x,(l.drop f)[k]?=some x->((g x).service.toList==nm.toList)=false):ofG g nm l=(l.drop f).take k:=by
 have e:l=l.take f++((l.drop f).take k++(l.drop f).drop k):=by rw[List.take_append_drop,List.take_append_drop]
 have at':∀i x,l[i]?=some x->(l.map g)[i]?=some (g x):=λi x h=>by rw[List.getElem?_map,h];rfl
 have f1:(l.take f).filter (λc=>(g c).service.toList==nm.toList)=[]:=List.filter_eq_nil_iff.2 λx hx=>by
  obtain⟨i,hi⟩:=List.getElem?_of_mem hx
  have hif:i<f:=by
   have:=(AC hi).1;rw[List.length_take]at this;omega
  rw[List.getElem?_take_of_lt hif]at hi;have hb:=h1 i _ hif (at' i x hi);intro hq;rw[eq_of_beq hq,CO]at hb;cases hb
 have f2:((l.drop f).take k).filter (λc=>(g c).service.toList==nm.toList)=(l.drop f).take k:=List.filter_eq_self.2 h3
 have f3:((l.drop f).drop k).filter (λc=>(g c).service.toList==nm.toList)=[]:=List.filter_eq_nil_iff.2 λx hx=>by
  obtain⟨i,hi⟩:=List.getElem?_of_mem hx;rw[List.getElem?_drop,List.getElem?_drop]at hi;have hlt:=(AC hi).1;obtain⟨y,hy⟩:∃y,l[f+k]?=some y:=⟨l[f+k]'(by omega),by rw[List.getElem?_eq_getElem]⟩;have hyn:=h4 y (by rw[List.getElem?_drop];exact hy);have hyg:=h2 (f+k) _ (by omega) (at' _ y hy);have ht:=C4 (g y).service.toList nm.toList;rw[hyg,hyn]at ht;have hlt2:Op.bytesLess nm.toList (g y).service.toList=true:=by simpa using ht.symm
  intro hq;rcases Nat.eq_zero_or_pos i with h0|h0
  ·subst h0
   rw[Nat.add_zero,hy]at hi;cases hi;rw[hq]at hyn;cases hyn
  ·have hr:=hR (f+k) (f+(k+i)) _ _ (by omega) (at' _ y hy) (at' _ x hi)
   rw[eq_of_beq hq,hlt2]at hr;cases hr
 show l.filter _=_
 conv=>lhs;rw[e]
 rw[List.filter_append,List.filter_append,f1,f2,f3,List.append_nil,List.nil_append]
theorem ofG_long{α:Type}(g:α->Cp)(nm:ByteArray)(l:List α)(f k:Nat)(x:α)(hx:(l.drop f)[k]?=some x)(hq:((g x).service.toList==nm.toList)=true)
  (h3:∀x∈(l.drop f).take k,((g x).service.toList==nm.toList)=true):((l.drop f).take k).length<(ofG g nm l).length:=by
 have hk:=(AC hx).1;have e:(l.drop f).take (k+1)=(l.drop f).take k++[x]:=by rw[List.take_add_one,hx];rfl
 have hs:((l.drop f).take (k+1)).Sublist l:=(List.take_sublist _ _).trans (List.drop_sublist _ _);have h:=(hs.filter λc=>(g c).service.toList==nm.toList).length_le
 rw[List.filter_eq_self.2 (λy hy=>by
  rw[e,List.mem_append]at hy;rcases hy with hy|hy
  ·exact h3 y hy
  ·rw[List.mem_singleton.1 hy];exact hq),e,List.length_append]at h
 unfold ofG;simp only[List.length_singleton]at h;omega
theorem take_all{α:Type}(l:List α)(p:α->Bool)(k:Nat)(x:α)(hx:l[k]?=some x)(hq:p x=true)(h3:∀x∈l.take k,p x=true):∀x∈l.take (k+1),p x=true:=λy hy=>by
 rw[List.take_add_one,hx,List.mem_append]at hy;rcases hy with hy|hy
 ·exact h3 y hy
 ·rw[List.mem_singleton.1 hy];exact hq
def KpB(n₀ Bt:Nat)(W W':World):Prop:=Below n₀ W W'/\W'.heap[Bt]?=W.heap[Bt]?
theorem NT{α:Type}(g:α->Cp)(L:List α)(n:Nat)(hn:1<=n)(l Bb Bt n₀:Nat)(B:Bk)(hLB:L.map g=B.cps)(nm:ByteArray)(a1 a2 a3:Option Addr)(c1 c2 c3:Nat)(hl2:B.cps.length<=1048576)(HSO:Hid (Hy B.cps))(HK:Hid (B.cps.length<=c2))(J Jx:List α->World->Prop)
  (hY:∀pre x c W,g x=c->J pre W->pre.length<(ofG g nm L).length->YieldAt Fence.wide (n - 1) Try.prog l #[.agg (cpV c)] W λe W'=>
   (e=.returned (.bool true)/\J (pre++[x]) W'/\KpB n₀ Bt W W')\/(e=.returned (.bool false)/\Jx (pre++[x]) W'))
  (W:World) (hJa:AbidesFrom W.heap.size J) (hBb:Bl W Bb (bkV B a1 c1 a2 c2 a3 c3) 27)
  (hBt:Bl W Bt #[.string nm] 9) (hC:B.cps≠[]->∃b off,a2=some ⟨b,off,none⟩/\b<n₀/\KJ W b off B.cps) (hn0:n₀<=W.heap.size) (h0:J [] W):
  CallsIn Fence.wide n Try.prog 78 #[.func (.yield l) #[] #[],.pointer (ad Bb),.pointer (ad Bt)] W λe W'=>(∃v,e=.returned v)/\
   ((∃ys,ys=ofG g nm L/\J ys W')\/(∃pre,True/\Jx pre W')):=by
 have hbl:Bt<W.heap.size:=(AB hBt).1;have hbb:Bb<W.heap.size:=(AB hBb).1;have HBt:Hid _:=hBt;have HBb:Hid _:=hBb;have e2:=AK hBb 2 rfl;have et:=AK hBt 0 rfl;have hSl:Hid (SlC W a2 B.cps):=λhne=>let ⟨b,off,e,hb,hat⟩:=hC hne;⟨b,off,e,AF hb hn0,hat⟩
 have hJb1:∀w1,Below W.heap.size W w1->J [] w1:=λw1 hb=>hJa _ _ _ none h0 ⟨hb.os,hb.tape,hb.output,hb.size,λi hi _=>hb.block i hi⟩ (λr e=>by cases e)
 clear hBt hBb;refine callsIn_of_wp Try.func78 rfl trivial ?_ rfl;simp only[Try.ntmps78,List.size_toArray,List.length_cons,List.length_nil,Nat.reduceAdd,Nat.reduceSub,Array.replicate_succ,Array.replicate_zero,List.push_toArray,List.append_toArray,List.nil_append,List.cons_append]
 gi_wp2
 refine⟨trivial,?_⟩;refine((callsIn_wide (n:=n - 1)).2 (bsC_any B.cps nm a2 B.cps.length c2 W rfl hl2 HSO hSl)).mono ?_;rintro e w1 ⟨f,fd,rfl,hfn,hf1,hf2,hb1⟩;have HF1:Hid _:=hf1;have HF2:Hid _:=hf2;clear hf1 hf2 e2 et;have hJ1:J [] w1:=hJb1 w1 hb1;have BT1:Hid _:=AL hb1 HBt.out hbl;have hnb1:Below n₀ W w1:=hb1.mono hn0;have e2:=AK (AL hb1 HBb.out hbb) 2 rfl;have hLn:L.length=B.cps.length:=by rw[<-hLB,List.length_map]
 have hlt1:n₀<=w1.heap.size:=AH hn0 hb1.size;have hblt1:Bt<w1.heap.size:=AF hbl hb1.size;have hJa1:∀s W1 o,J s W1->J s (W1.alloc o):=λs W1 o hs=>hJa s _ _ none hs (World.grownBy_alloc W1 o none) (λr e=>by cases e)
 have HRG:Hid (Hy (L.map g)):=by unfold Hid;rw[hLB];exact HSO.out
 have HG1:Hid (∀(i:Nat) s,i<f->(L.map g)[i]?=some s->Op.bytesLess s.service.toList nm.toList=true):=by unfold Hid;rw[hLB];exact HF1.out
 have HG2:Hid (∀(i:Nat) s,f<=i->(L.map g)[i]?=some s->Op.bytesLess s.service.toList nm.toList=false):=by unfold Hid;rw[hLB];exact HF2.out
 clear HBb HBt hb1 hSl HF1 HF2 hJb1 hJa h0 HSO
 by_cases hfl:f<B.cps.length
 ·have hcf:¬(c2=f):=by have:=HK.out;omega
  obtain⟨b,off,ea,hbs,hat⟩:=hC (by intro h;rw[h]at hfl;simp at hfl);subst ea;have HAT:Hid (KJ W b off B.cps):=hat;obtain⟨m,hm⟩:∃m,B.cps.length - f=m:=⟨_,rfl⟩;have hm1:m<=1048576:=by omega
  have HM:Hid (f+m=B.cps.length):=by unfold Hid;omega
  clear hC hat hfl
  gi_wp2
  clear e2 hm hcf
  gi_loopw [20] (λi wr=>∃k:Nat,k<=m/\i=.int .i64 k/\Hid (∀x∈(L.drop f).take k,((g x).service.toList==nm.toList)=true)/\J ((L.drop f).take k) wr/\Below n₀ W wr/\Hid (Bl wr Bt #[.string nm] 9))
   (λi _=>m - (intOf i).toNat)
  case atStart=>exact⟨0,AJ _,rfl,(by intro x hx;simp at hx),hJ1,hnb1,BT1⟩
  case round=>
   clear BT1 hnb1 hJ1;obtain⟨k,hk,rfl,HAL,hJs,hnx,hbt⟩:=hrel
   by_cases hlt:k<m
   ·obtain⟨x,hxk⟩:∃x,(L.drop f)[k]?=some x:=⟨(L.drop f)[k]'(by rw[List.length_drop,hLn];have:=HM.out;omega),by rw[List.getElem?_eq_getElem]⟩
    have HXK:Hid ((L.drop f)[k]?=some x):=hxk;have hsk:B.cps[f+k]?=some (g x):=by rw[<-hLB,List.getElem?_map,<-List.getElem?_drop,hxk];rfl
    obtain⟨c,hgc⟩:∃c,g x=c:=⟨_,rfl⟩;have HGC:Hid (g x=c):=hgc;rw[hgc]at hsk;have hcs:=(HAT.out (f+k) c hsk).below hnx hbs;rw[Nat.add_mul,<-Nat.add_assoc]at hcs;clear hgc hsk hxk;unfold CpAt at hcs;obtain⟨x0,x1,x2,x3,x4,x5,x6⟩:=hcs;have hbt0:=AK hbt.out 0 rfl;have hblt:Bt<wr.heap.size:=(AB hbt.out).1;have hw1:=AO wr (.cells (cpV c) 35);have hnx1:=hnx.trans (hw1.mono (AH hn0 hnx.size));have hbt1:Hid _:=AL hw1 hbt.out hblt;have hJb:J ((L.drop f).take k) (wr.alloc (.cells (cpV c) 35)):=hJa1 _ _ _ hJs;cases hsame:(c.service.toList==nm.toList)
    ·have HCUT:Hid (ofG g nm L=(L.drop f).take k):=LU g nm L f k HRG.out HG1.out HG2.out HAL.out (λy hy=>by rw[HXK.out]at hy;cases hy;rw[HGC.out];exact hsame)
     gi_wp2
     refine⟨λ_ h=>(by cases h),?_⟩
     gi_wp2
     refine bodyPost_ret (results_none rfl _ _ _) rfl ?_;exact⟨⟨_,rfl⟩,.inl ⟨_,HCUT.out.symm,hJb⟩⟩
    ·have HTK:Hid ((L.drop f).take (k+1)=(L.drop f).take k++[x]):=by unfold Hid;rw[List.take_add_one,HXK.out];rfl
     have HAL1:Hid (∀x∈(L.drop f).take (k+1),((g x).service.toList==nm.toList)=true):=take_all (L.drop f) (λy=>(g y).service.toList==nm.toList) k x HXK.out (by show((g x).service.toList==nm.toList)=true;rw[HGC.out];exact hsame) HAL.out;obtain⟨fn,tmps,assign,body,hy,hR⟩:=hY _ x c (wr.alloc (.cells (cpV c) 35)) HGC.out hJb (ofG_long g nm L f k x HXK.out (by rw[HGC.out];exact hsame) HAL.out)
     gi_wp2
     refine hR.mono ?_;rintro e W3 (⟨rfl,hJ3,hk3⟩|⟨rfl,hJx3⟩)
     ·gi_wp2
      go_roundw
      case rel=>exact⟨k+1,by omega,by go_num,HAL1,by rw[HTK.out];exact hJ3,hnx1.trans hk3.1,hk3.2.trans hbt1.out⟩
      case measure=>simp[intOf];omega
     ·gi_wp2
      refine bodyPost_ret (results_none rfl _ _ _) rfl ?_;exact⟨⟨_,rfl⟩,.inr ⟨_,trivial,hJx3⟩⟩
   ·obtain rfl:k=m:=by omega
    have HCUT:Hid (ofG g nm L=(L.drop f).take k):=LU g nm L f k HRG.out HG1.out HG2.out HAL.out (λy hy=>absurd (AC hy).1 (by rw[List.length_drop,hLn];have:=HM.out;omega))
    gi_wp2
    go_end0
    exact⟨⟨_,rfl⟩,.inl ⟨_,HCUT.out.symm,hJs⟩⟩
 ·obtain rfl:f=B.cps.length:=by omega
  have HCUT:Hid (ofG g nm L=[]):=LU g nm L B.cps.length 0 HRG.out HG1.out HG2.out (by intro x hx;simp at hx) (λy hy=>absurd (AC hy).1 (by rw[List.length_drop,hLn];omega))
  by_cases hcf:c2=B.cps.length
  ·subst hcf
   gi_wp2
   clear e2
   gi_loopw [20] (λi wr=>i=.int .i64 0/\J [] wr) (λ_ _=>0)
   case atStart=>exact⟨rfl,hJ1⟩
   case round=>
    obtain⟨rfl,hJs⟩:=hrel
    gi_wp2
    go_end0
    exact⟨⟨_,rfl⟩,.inl ⟨_,HCUT.out.symm,hJs⟩⟩
  ·have hcf':=hcf
   clear hcf
   gi_wp2
   clear e2 hcf'
   gi_loopw [20] (λi wr=>i=.int .i64 0/\J [] wr) (λ_ _=>0)
   case atStart=>exact⟨rfl,hJ1⟩
   case round=>
    obtain⟨rfl,hJs⟩:=hrel
    gi_wp2
    go_end0
    exact⟨⟨_,rfl⟩,.inl ⟨_,HCUT.out.symm,hJs⟩⟩
theorem Ld(n:Nat)(hn:1<=n)(Bb Bt n₀:Nat)(B:Bk)(nm:ByteArray)(a1 a2 a3:Option Addr)(c1 c2 c3:Nat)(hl2:B.cps.length<=1048576)(HSO:Hid (Hy B.cps))(HK:Hid (B.cps.length<=c2))(w:World)
  (hBb:Bl w Bb (bkV B a1 c1 a2 c2 a3 c3) 27)
  (hBt:Bl w Bt #[.string nm] 9) (hC:B.cps≠[]->∃b off,a2=some ⟨b,off,none⟩/\b<n₀/\KJ w b off B.cps) (hn0:n₀<=w.heap.size):
  SeqStopsK Fence.wide n Try.prog 78 #[.pointer (ad Bb),.pointer (ad Bt)] (λx:Cp=>#[.agg (cpV x)]) (KpB n₀ Bt) (λys=>ys=ofS nm B.cps) (λ_=>True) (ofS nm B.cps).length w:=λl J Jx W hW hJa _ hY h0=>
 NT id B.cps n hn l Bb Bt n₀ B (List.map_id _) nm a1 a2 a3 c1 c2 c3 hl2 HSO HK J Jx (λpre x c W e=>by subst e;exact hY pre x W) W hJa ((hW.block Bb (AB hBb).1).trans hBb) ((hW.block Bt (AB hBt).1).trans hBt)
  (λhne=>let ⟨b,off,e,hb,hat⟩:=hC hne;⟨b,off,e,hb,λi s hs=>(hat i s hs).below hW (AF hb hn0)⟩) (AH hn0 hW.size) h0
attribute [local go_sem] Oper.semAt_some
def Hs(n:Cnt):Array Value:=(ctV n)
def GO(img:Int)(l:List Cp):Cnt:=l.foldl (λn c=>CF img c n) Cnt.none
theorem D5(img:Int)(l:List Cp)(c:Cp):GO img (l++[c])=CF img c (GO img l):=by simp[GO]
theorem Mc(img:Int)(nm:ByteArray):∀(l:List Cp) (n:Cnt),(ofS nm l).foldl (λn c=>CF img c n) n=l.foldl (λn c=>Bf img nm c n) n
 |[],_=>rfl
 |c::l,n=>by
  have ih:=Mc img nm l;unfold ofS at *;rw[List.filter_cons,List.foldl_cons]
  by_cases h:(c.service.toList==nm.toList)=true
  ·rw[if_pos h,List.foldl_cons,ih];simp[Bf,h]
  ·rw[if_neg h,ih];simp[Bf,h]
theorem Md(img:Int)(c:Cp)(n:Cnt)(k:Nat)(h:n.upTo k):(CF img c n).upTo (k+1):=by
 have:=Ia img c.service c n k h
 simpa [Bf] using this
theorem Ov(img:Int)(l:List Cp):(GO img l).upTo l.length:=by
 have:∀(l:List Cp) (n:Cnt) (k:Nat),n.upTo k->(l.foldl (λn c=>CF img c n) n).upTo (k+l.length):=by
  intro l
  induction l with
  |nil=>intro n k h;exact h
  |cons c l ih=>
   intro n k h;have:=ih _ _ (Md img c n k h);rw[List.foldl_cons,List.length_cons,Nat.add_comm l.length 1,<-Nat.add_assoc];exact this
 have h:=this l Cnt.none 0 (by unfold Cnt.upTo Cnt.none;dsimp only;omega);rw[Nat.zero_add]at h;exact h
theorem M7(nm:ByteArray)(l:List Cp):(ofS nm l).length<=l.length:=List.length_filter_le _ _
theorem Ga{β:Type}(B:Nat)(t:TypeId)(f:β->Array Value):Own (λs W=>W.heap[B]?=some (.cells (f s) t (0,0))):=λs X Y row hs hg hrow=>
 (hg.block B (AB hs).1 (λe=>by obtain⟨o,ho,hc⟩:=hrow B e.symm;rw[hs]at ho;cases ho;cases hc)).trans hs
theorem six_new(w:World)(A B C D E F:Obj):∃W0,((((((w.alloc A).alloc B).alloc C).alloc D).alloc E).alloc F)=W0/\W0.heap[w.heap.size+1]?=some B/\W0.heap[w.heap.size+1+1]?=some C/\W0.heap[w.heap.size+1+1+1]?=some D/\W0.heap[w.heap.size+1+1+1+1]?=some E/\W0.heap[w.heap.size+1+1+1+1+1]?=some F/\W0.heap.size=w.heap.size+1+1+1+1+1+1/\Below w.heap.size w W0:=by
 refine⟨_,rfl,?_⟩;have e:((((((w.alloc A).alloc B).alloc C).alloc D).alloc E).alloc F).heap=(((((w.heap.push A).push B).push C).push D).push E).push F:=rfl;rw[e];refine⟨?_,?_,?_,?_,?_,by simp,?_⟩
 ·rw[Array.getElem?_push,if_neg (by simp;try omega),Array.getElem?_push,if_neg (by simp;try omega),Array.getElem?_push,if_neg (by simp;try omega),Array.getElem?_push,if_neg (by simp),Array.getElem?_push,if_pos (by simp)]
 ·rw[Array.getElem?_push,if_neg (by simp;try omega),Array.getElem?_push,if_neg (by simp;try omega),Array.getElem?_push,if_neg (by simp),Array.getElem?_push,if_pos (by simp)]
 ·rw[Array.getElem?_push,if_neg (by simp;try omega),Array.getElem?_push,if_neg (by simp),Array.getElem?_push,if_pos (by simp)]
 ·rw[Array.getElem?_push,if_neg (by simp),Array.getElem?_push,if_pos (by simp)]
 ·rw[Array.getElem?_push,if_pos (by simp)]
 ·exact((((((Below.refl _ _).alloc (AG _) _).alloc (by simp) _).alloc (by simp;omega) _).alloc (by simp;omega) _).alloc (by simp;omega) _).alloc (by simp;omega) _
theorem Jr(n:Nat)(hn:3<=n)(B:Bk)(s:Svc)(a1 a2 a3:Option Addr)(c1 c2 c3:Nat)(w:World)(hl2:B.cps.length<=1048576)(HSO:Hid (Hy B.cps))(HK:Hid (B.cps.length<=c2))(hC:SlC w a2 B.cps):
  CallsIn Fence.wide n Try.prog 26 #[.agg (bkV B a1 c1 a2 c2 a3 c3),.agg (svV s)] w λe w'=>e=.returned (.agg (Hs (GO s.image (ofS s.name B.cps))))/\Below w.heap.size w w':=by
 have hn1:1<=n:=by omega
 have hle:=M7 s.name B.cps;refine callsIn_of_wp_marks Try.func26 rfl trivial ?_ rfl;simp only[Try.ntmps26,List.size_toArray,List.length_cons,List.length_nil,Nat.reduceAdd,Nat.reduceSub,Array.replicate_succ,Array.replicate_zero,List.push_toArray,List.append_toArray,List.nil_append,List.cons_append]
 gi_wp2
 refine⟨trivial,?_⟩;refine(Mb Fence.wide (n - 1) trivial rfl B s.name a1 a2 a3 c1 c2 c3 _).mono ?_;rintro e w' ⟨rfl,rfl⟩
 gi_wp2
 obtain⟨W0,hW0,b1,b2,b3,b4,b5,hsz0,hB0⟩:=six_new w (.cells (bkV B a1 c1 a2 c2 a3 c3) 27) (.cells (svV s) 63) (.cells ctZ 32) (.cells ctZ 32) (.cells (bkV B a1 c1 a2 c2 a3 c3) 27) (.cells #[.string s.name] 9);rw[hW0];clear hW0
 have hC0:B.cps≠[]->∃b off,a2=some ⟨b,off,none⟩/\b<w.heap.size/\KJ W0 b off B.cps:=λhne=>
  let ⟨b,off,e,hb,hat⟩:=hC hne
  ⟨b,off,e,hb,λi c hc=>(hat i c hc).below hB0 hb⟩
 refine wpIn_rangeFunc_ownH rfl hn1 (gf:=78) (lb:=#[.pointer (some ⟨w.heap.size+1+1+1+1,0,none⟩),.pointer (some ⟨w.heap.size+1+1+1+1+1,0,none⟩)]) rfl trivial (enters_of Try.func78 (by kernel_rfl) rfl)
  (Ld (n - 1) (by omega) (w.heap.size+1+1+1+1) (w.heap.size+1+1+1+1+1) w.heap.size B s.name a1 a2 a3 c1 c2 c3 hl2 HSO HK W0 b4 b5 hC0 (by omega)) (λh k=>⟨h.1.trans k.1,k.2.trans h.2⟩)
  (λW l o o' hl ho hc hw=>⟨belowK_b (w:=W0) (by omega) W l o o' hl ho hc hw,by
   by_cases hlt:w.heap.size+1+1+1+1+1<W.heap.size
   ·exact(grownBy_putObj' W l o').block _ hlt (λe=>by have:=Option.some.inj e;omega)
   ·have e1:W.heap[w.heap.size+1+1+1+1+1]?=none:=by rw[Array.getElem?_eq_none (by omega)]
    have e2:(W.putObj l o').heap[w.heap.size+1+1+1+1+1]?=none:=by rw[Array.getElem?_eq_none];have:=(AB ho).1;omega
    rw[e1,e2]⟩) (Below.refl _ _) (λ_=>rfl)
  (λpre W=>(Bl W (w.heap.size+1+1+1) (Hs (GO s.image pre)) 32/\Bl W (w.heap.size+1+1) ctZ 32/\Bl W (w.heap.size+1) (svV s) 63)/\W0.heap.size<=W.heap.size/\Below w.heap.size w W)
  (λ_ _ _=>False)
  (OwnFrom.and (OwnFrom.and (Own.from (Ga _ _ _) _) (OwnFrom.and (Own.from (Ga _ _ _) _) (Own.from (Ga _ _ _) _))) (OwnFrom.and (λ_ _ _ _ hs hg _=>AH hs hg.size) (ownFrom_below (AG _) (by omega))))
  (λ_ _ _ _ _ hs _ _=>hs)
  ⟨⟨b3,b2,b1⟩,AG _,hB0⟩
  (λx a' W=>∃Bx,w.heap.size+1+1+1+1+1<Bx/\Bl W Bx (cpV x) 35/\a'={tmps:=#[.agg (bkV B a1 c1 a2 c2 a3 c3),.agg (svV s),.pointer (some ⟨w.heap.size,0,none⟩),.pointer (some ⟨w.heap.size+1,0,none⟩),.pointer (some ⟨w.heap.size+1+1,0,none⟩),.pointer (some ⟨w.heap.size+1+1+1,0,none⟩),.pointer (ad Bx),.agg (bkV B a1 c1 a2 c2 a3 c3),.pointer (some ⟨w.heap.size+1,0,none⟩),.string s.name,.func (.func 78) #[] #[.pointer (some ⟨w.heap.size+1+1+1+1,0,none⟩),.pointer (some ⟨w.heap.size+1+1+1+1+1,0,none⟩)],.agg (cpV x),undef,undef,undef,undef,undef,undef,undef,undef,undef,undef,undef,undef,undef,undef,undef,undef,undef,undef,undef,undef,undef,undef,undef,undef,undef,undef,undef,undef,undef,undef,undef,undef,undef,undef],defers:=[]})
  (λx a' _ X Y row hs hg hr=>by obtain⟨Bx,g1,g2,g3⟩:=hs;exact⟨Bx,g1,Ga Bx 35 (λ(_:Unit)=>(cpV x)) () X Y row g2 hg (λr e=>(hr r e).2),g3⟩)
  ?assign ?body ?done ?stop
 case assign=>
  rintro l pre x W K ⟨⟨hM,hR,hSb⟩,hsz,hB⟩ hK
  gi_wp2
  have hw1:=AO W (.cells (cpV x) 35);exact hK _ _ ((KeepsOthers.alloc _ _).from _) ⟨(Below.refl _ W).alloc hB.size _,hw1.block _ (by omega)⟩ ⟨⟨AL hw1 hM (by omega),AL hw1 hR (by omega),AL hw1 hSb (by omega)⟩,AH hsz hw1.size,hB.alloc hB.size _⟩ ⟨W.heap.size,by omega,heap_alloc_new W _,rfl⟩
 case body=>
  rintro l pre x a' W hl _ ⟨⟨hM0,hR0,hSb0⟩,hsz,hB⟩ ⟨Bx,hBx,hX,rfl⟩ hlt;have hup:=Ov s.image pre;obtain⟨n0,HN⟩:∃n,Hid (GO s.image pre=n):=⟨_,rfl⟩;rw[HN.out]at hup hM0;have hM:Hid (Bl W (w.heap.size+1+1+1) (ctV n0) 32):=hM0;have hR:Hid _:=hR0;have hSb:Hid _:=hSb0;clear hM0 hR0 hSb0;unfold Cnt.upTo at hup;obtain⟨u0,u1,u2,u3,u4,u5,u6,u7,u8,u9⟩:=hup;have o0:=AK hM.out 0 rfl;have o1:=AK hM.out 1 rfl;have o2:=AK hM.out 2 rfl;have o3:=AK hM.out 3 rfl;have o4:=AK hM.out 4 rfl;have f0:=AZ hM.out 0;have f1:=AZ hM.out 1;have f2:=AZ hM.out 2;have f3:=AZ hM.out 3;have f4:=AZ hM.out 4;have x3:=AK hX 3 rfl;have x4:=AK hX 4 rfl;have x5:=AK hX 5 rfl;have q3:=AK hSb.out 3 rfl;have hneB:Bx≠w.heap.size+1+1+1:=by omega
  clear hX b1 b2 b3 b4 b5 hC0 hC;cases hend:x.ending
  ·cases hst3:(x.state==3)
   ·cases hst4:(x.state==4)
    ·cases himg:(x.image !=s.image)
     ·have HC:Hid (GO s.image (pre++[x])=⟨n0.live+1,n0.ready,n0.old,n0.failed,n0.ending⟩):=by unfold Hid;rw[D5,HN.out];simp[CF,Et,hend,hst3,hst4,himg]
      have outF:Hid _:=BM (hM.out) 0 (.int .i64 (n0.live+1))
      gi_wp2
      exact⟨(KeepsOthers.setCell _ _ _).from _,⟨((Below.refl w.heap.size W).setCell (p:=⟨w.heap.size+1+1+1,0,none⟩) (by show _<=w.heap.size+1+1+1;omega) (.int .i64 (n0.live+1))),Ak (b:=w.heap.size+1+1+1) (rfl) 0 (.int .i64 (n0.live+1)) (by omega)⟩,⟨by rw[HC.out];exact outF.out,Ak (b:=w.heap.size+1+1+1) (hR.out) 0 (.int .i64 (n0.live+1)) (by omega),Ak (b:=w.heap.size+1+1+1) (hSb.out) 0 (.int .i64 (n0.live+1)) (by omega)⟩,by simp only[BQ];exact hsz,(hB.setCell (p:=⟨w.heap.size+1+1+1,0,none⟩) (by show _<=w.heap.size+1+1+1;omega) (.int .i64 (n0.live+1)))⟩
     ·have HC:Hid (GO s.image (pre++[x])=⟨n0.live+1,n0.ready,n0.old+1,n0.failed,n0.ending⟩):=by unfold Hid;rw[D5,HN.out];simp[CF,Et,hend,hst3,hst4,himg]
      have outF:Hid _:=BM (BM (hM.out) 0 (.int .i64 (n0.live+1))) 2 (.int .i64 (n0.old+1))
      gi_wp2
      exact⟨((KeepsOthers.setCell _ _ _).trans (KeepsOthers.setCell _ _ _)).from _,⟨(((Below.refl w.heap.size W).setCell (p:=⟨w.heap.size+1+1+1,0,none⟩) (by show _<=w.heap.size+1+1+1;omega) (.int .i64 (n0.live+1))).setCell (p:=⟨w.heap.size+1+1+1,2,none⟩) (by show _<=w.heap.size+1+1+1;omega) (.int .i64 (n0.old+1))),Ak (b:=w.heap.size+1+1+1) (Ak (b:=w.heap.size+1+1+1) (rfl) 0 (.int .i64 (n0.live+1)) (by omega)) 2 (.int .i64 (n0.old+1)) (by omega)⟩,⟨by rw[HC.out];exact outF.out,Ak (b:=w.heap.size+1+1+1) (Ak (b:=w.heap.size+1+1+1) (hR.out) 0 (.int .i64 (n0.live+1)) (by omega)) 2 (.int .i64 (n0.old+1)) (by omega),Ak (b:=w.heap.size+1+1+1) (Ak (b:=w.heap.size+1+1+1) (hSb.out) 0 (.int .i64 (n0.live+1)) (by omega)) 2 (.int .i64 (n0.old+1)) (by omega)⟩,by simp only[BQ];exact hsz,((hB.setCell (p:=⟨w.heap.size+1+1+1,0,none⟩) (by show _<=w.heap.size+1+1+1;omega) (.int .i64 (n0.live+1))).setCell (p:=⟨w.heap.size+1+1+1,2,none⟩) (by show _<=w.heap.size+1+1+1;omega) (.int .i64 (n0.old+1)))⟩
    ·cases himg:(x.image !=s.image)
     ·have HC:Hid (GO s.image (pre++[x])=⟨n0.live+1,n0.ready,n0.old,n0.failed+1,n0.ending⟩):=by unfold Hid;rw[D5,HN.out];simp[CF,Et,hend,hst3,hst4,himg]
      have outF:Hid _:=BM (BM (hM.out) 0 (.int .i64 (n0.live+1))) 3 (.int .i64 (n0.failed+1))
      gi_wp2
      exact⟨((KeepsOthers.setCell _ _ _).trans (KeepsOthers.setCell _ _ _)).from _,⟨(((Below.refl w.heap.size W).setCell (p:=⟨w.heap.size+1+1+1,0,none⟩) (by show _<=w.heap.size+1+1+1;omega) (.int .i64 (n0.live+1))).setCell (p:=⟨w.heap.size+1+1+1,3,none⟩) (by show _<=w.heap.size+1+1+1;omega) (.int .i64 (n0.failed+1))),Ak (b:=w.heap.size+1+1+1) (Ak (b:=w.heap.size+1+1+1) (rfl) 0 (.int .i64 (n0.live+1)) (by omega)) 3 (.int .i64 (n0.failed+1)) (by omega)⟩,⟨by rw[HC.out];exact outF.out,Ak (b:=w.heap.size+1+1+1) (Ak (b:=w.heap.size+1+1+1) (hR.out) 0 (.int .i64 (n0.live+1)) (by omega)) 3 (.int .i64 (n0.failed+1)) (by omega),Ak (b:=w.heap.size+1+1+1) (Ak (b:=w.heap.size+1+1+1) (hSb.out) 0 (.int .i64 (n0.live+1)) (by omega)) 3 (.int .i64 (n0.failed+1)) (by omega)⟩,by simp only[BQ];exact hsz,((hB.setCell (p:=⟨w.heap.size+1+1+1,0,none⟩) (by show _<=w.heap.size+1+1+1;omega) (.int .i64 (n0.live+1))).setCell (p:=⟨w.heap.size+1+1+1,3,none⟩) (by show _<=w.heap.size+1+1+1;omega) (.int .i64 (n0.failed+1)))⟩
     ·have HC:Hid (GO s.image (pre++[x])=⟨n0.live+1,n0.ready,n0.old+1,n0.failed+1,n0.ending⟩):=by unfold Hid;rw[D5,HN.out];simp[CF,Et,hend,hst3,hst4,himg]
      have outF:Hid _:=BM (BM (BM (hM.out) 0 (.int .i64 (n0.live+1))) 2 (.int .i64 (n0.old+1))) 3 (.int .i64 (n0.failed+1))
      gi_wp2
      exact⟨(((KeepsOthers.setCell _ _ _).trans (KeepsOthers.setCell _ _ _)).trans (KeepsOthers.setCell _ _ _)).from _,⟨((((Below.refl w.heap.size W).setCell (p:=⟨w.heap.size+1+1+1,0,none⟩) (by show _<=w.heap.size+1+1+1;omega) (.int .i64 (n0.live+1))).setCell (p:=⟨w.heap.size+1+1+1,2,none⟩) (by show _<=w.heap.size+1+1+1;omega) (.int .i64 (n0.old+1))).setCell (p:=⟨w.heap.size+1+1+1,3,none⟩) (by show _<=w.heap.size+1+1+1;omega) (.int .i64 (n0.failed+1))),Ak (b:=w.heap.size+1+1+1) (Ak (b:=w.heap.size+1+1+1) (Ak (b:=w.heap.size+1+1+1) (rfl) 0 (.int .i64 (n0.live+1)) (by omega)) 2 (.int .i64 (n0.old+1)) (by omega)) 3 (.int .i64 (n0.failed+1)) (by omega)⟩,⟨by rw[HC.out];exact outF.out,Ak (b:=w.heap.size+1+1+1) (Ak (b:=w.heap.size+1+1+1) (Ak (b:=w.heap.size+1+1+1) (hR.out) 0 (.int .i64 (n0.live+1)) (by omega)) 2 (.int .i64 (n0.old+1)) (by omega)) 3 (.int .i64 (n0.failed+1)) (by omega),Ak (b:=w.heap.size+1+1+1) (Ak (b:=w.heap.size+1+1+1) (Ak (b:=w.heap.size+1+1+1) (hSb.out) 0 (.int .i64 (n0.live+1)) (by omega)) 2 (.int .i64 (n0.old+1)) (by omega)) 3 (.int .i64 (n0.failed+1)) (by omega)⟩,by simp only[BQ];exact hsz,(((hB.setCell (p:=⟨w.heap.size+1+1+1,0,none⟩) (by show _<=w.heap.size+1+1+1;omega) (.int .i64 (n0.live+1))).setCell (p:=⟨w.heap.size+1+1+1,2,none⟩) (by show _<=w.heap.size+1+1+1;omega) (.int .i64 (n0.old+1))).setCell (p:=⟨w.heap.size+1+1+1,3,none⟩) (by show _<=w.heap.size+1+1+1;omega) (.int .i64 (n0.failed+1)))⟩
   ·have hst4:(x.state==4)=false:=by have h:=eq_of_beq hst3;rw[h];rfl
    cases himg:(x.image !=s.image)
    ·have HC:Hid (GO s.image (pre++[x])=⟨n0.live+1,n0.ready+1,n0.old,n0.failed,n0.ending⟩):=by unfold Hid;rw[D5,HN.out];simp[CF,Et,hend,hst3,hst4,himg]
     have outF:Hid _:=BM (BM (hM.out) 0 (.int .i64 (n0.live+1))) 1 (.int .i64 (n0.ready+1))
     gi_wp2
     exact⟨((KeepsOthers.setCell _ _ _).trans (KeepsOthers.setCell _ _ _)).from _,⟨(((Below.refl w.heap.size W).setCell (p:=⟨w.heap.size+1+1+1,0,none⟩) (by show _<=w.heap.size+1+1+1;omega) (.int .i64 (n0.live+1))).setCell (p:=⟨w.heap.size+1+1+1,1,none⟩) (by show _<=w.heap.size+1+1+1;omega) (.int .i64 (n0.ready+1))),Ak (b:=w.heap.size+1+1+1) (Ak (b:=w.heap.size+1+1+1) (rfl) 0 (.int .i64 (n0.live+1)) (by omega)) 1 (.int .i64 (n0.ready+1)) (by omega)⟩,⟨by rw[HC.out];exact outF.out,Ak (b:=w.heap.size+1+1+1) (Ak (b:=w.heap.size+1+1+1) (hR.out) 0 (.int .i64 (n0.live+1)) (by omega)) 1 (.int .i64 (n0.ready+1)) (by omega),Ak (b:=w.heap.size+1+1+1) (Ak (b:=w.heap.size+1+1+1) (hSb.out) 0 (.int .i64 (n0.live+1)) (by omega)) 1 (.int .i64 (n0.ready+1)) (by omega)⟩,by simp only[BQ];exact hsz,((hB.setCell (p:=⟨w.heap.size+1+1+1,0,none⟩) (by show _<=w.heap.size+1+1+1;omega) (.int .i64 (n0.live+1))).setCell (p:=⟨w.heap.size+1+1+1,1,none⟩) (by show _<=w.heap.size+1+1+1;omega) (.int .i64 (n0.ready+1)))⟩
    ·have HC:Hid (GO s.image (pre++[x])=⟨n0.live+1,n0.ready+1,n0.old+1,n0.failed,n0.ending⟩):=by unfold Hid;rw[D5,HN.out];simp[CF,Et,hend,hst3,hst4,himg]
     have outF:Hid _:=BM (BM (BM (hM.out) 0 (.int .i64 (n0.live+1))) 1 (.int .i64 (n0.ready+1))) 2 (.int .i64 (n0.old+1))
     gi_wp2
     exact⟨(((KeepsOthers.setCell _ _ _).trans (KeepsOthers.setCell _ _ _)).trans (KeepsOthers.setCell _ _ _)).from _,⟨((((Below.refl w.heap.size W).setCell (p:=⟨w.heap.size+1+1+1,0,none⟩) (by show _<=w.heap.size+1+1+1;omega) (.int .i64 (n0.live+1))).setCell (p:=⟨w.heap.size+1+1+1,1,none⟩) (by show _<=w.heap.size+1+1+1;omega) (.int .i64 (n0.ready+1))).setCell (p:=⟨w.heap.size+1+1+1,2,none⟩) (by show _<=w.heap.size+1+1+1;omega) (.int .i64 (n0.old+1))),Ak (b:=w.heap.size+1+1+1) (Ak (b:=w.heap.size+1+1+1) (Ak (b:=w.heap.size+1+1+1) (rfl) 0 (.int .i64 (n0.live+1)) (by omega)) 1 (.int .i64 (n0.ready+1)) (by omega)) 2 (.int .i64 (n0.old+1)) (by omega)⟩,⟨by rw[HC.out];exact outF.out,Ak (b:=w.heap.size+1+1+1) (Ak (b:=w.heap.size+1+1+1) (Ak (b:=w.heap.size+1+1+1) (hR.out) 0 (.int .i64 (n0.live+1)) (by omega)) 1 (.int .i64 (n0.ready+1)) (by omega)) 2 (.int .i64 (n0.old+1)) (by omega),Ak (b:=w.heap.size+1+1+1) (Ak (b:=w.heap.size+1+1+1) (Ak (b:=w.heap.size+1+1+1) (hSb.out) 0 (.int .i64 (n0.live+1)) (by omega)) 1 (.int .i64 (n0.ready+1)) (by omega)) 2 (.int .i64 (n0.old+1)) (by omega)⟩,by simp only[BQ];exact hsz,(((hB.setCell (p:=⟨w.heap.size+1+1+1,0,none⟩) (by show _<=w.heap.size+1+1+1;omega) (.int .i64 (n0.live+1))).setCell (p:=⟨w.heap.size+1+1+1,1,none⟩) (by show _<=w.heap.size+1+1+1;omega) (.int .i64 (n0.ready+1))).setCell (p:=⟨w.heap.size+1+1+1,2,none⟩) (by show _<=w.heap.size+1+1+1;omega) (.int .i64 (n0.old+1)))⟩
  ·have HC:Hid (GO s.image (pre++[x])=⟨n0.live,n0.ready,n0.old,n0.failed,n0.ending+1⟩):=by unfold Hid;rw[D5,HN.out];simp[CF,hend]
   have outF:Hid _:=BM (hM.out) 4 (.int .i64 (n0.ending+1))
   gi_wp2
   exact⟨(KeepsOthers.setCell _ _ _).from _,⟨((Below.refl w.heap.size W).setCell (p:=⟨w.heap.size+1+1+1,4,none⟩) (by show _<=w.heap.size+1+1+1;omega) (.int .i64 (n0.ending+1))),Ak (b:=w.heap.size+1+1+1) (rfl) 4 (.int .i64 (n0.ending+1)) (by omega)⟩,⟨by rw[HC.out];exact outF.out,Ak (b:=w.heap.size+1+1+1) (hR.out) 4 (.int .i64 (n0.ending+1)) (by omega),Ak (b:=w.heap.size+1+1+1) (hSb.out) 4 (.int .i64 (n0.ending+1)) (by omega)⟩,by simp only[BQ];exact hsz,(hB.setCell (p:=⟨w.heap.size+1+1+1,4,none⟩) (by show _<=w.heap.size+1+1+1;omega) (.int .i64 (n0.ending+1)))⟩
 case done=>
  rintro D ys W hD rfl ⟨⟨hM0,hR,hSb⟩,hsz,hB⟩ hK;obtain⟨n0,HN⟩:∃n,Hid (GO s.image (ofS s.name B.cps)=n):=⟨_,rfl⟩;rw[HN.out]at hM0;have hM:Bl W (w.heap.size+1+1+1) (ctV n0) 32:=hM0;have hRlt:w.heap.size+1+1<W.heap.size:=by omega
  have hRD:w.heap.size+1+1≠D:=by omega
  have HK:Hid _:=hK;have HR:Hid _:=hR;have o0:=AK hM 0 rfl;have o1:=AK hM 1 rfl;have o2:=AK hM 2 rfl;have o3:=AK hM 3 rfl;have o4:=AK hM 4 rfl;have p0:=AK hR 0 rfl;have p1:=AK hR 1 rfl;have p2:=AK hR 2 rfl;have p3:=AK hR 3 rfl;have p4:=AK hR 4 rfl;have g0:=AZ hR 0;have g1:=AZ hR 1;have g2:=AZ hR 2;have g3:=AZ hR 3;have g4:=AZ hR 4;clear hM0 hM hSb hK hR b1 b2 b3 b4 b5 hC0 hC
  gi_wp2
  have hK':=(((((KeepsOthers.setCell W ⟨w.heap.size+1+1,0,none⟩ (.int .i64 n0.live)).trans (KeepsOthers.setCell _ ⟨w.heap.size+1+1,1,none⟩ (.int .i64 n0.ready))).trans (KeepsOthers.setCell _ ⟨w.heap.size+1+1,2,none⟩ (.int .i64 n0.old))).trans (KeepsOthers.setCell _ ⟨w.heap.size+1+1,3,none⟩ (.int .i64 n0.failed))).trans (KeepsOthers.setCell _ ⟨w.heap.size+1+1,4,none⟩ (.int .i64 n0.ending))).same D _ HK.out rfl;refine⟨by simp,.inl ⟨_,_,rfl,run_takeDeferred hK',?_⟩⟩;have hX:=((grownBy_putObj' _ D (.deferred none)).block (w.heap.size+1+1) (by simp only[BQ];exact hRlt) (λe=>hRD (Option.some.inj e))).trans (BM (BM (BM (BM (BM (HR.out) 0 (.int .i64 n0.live)) 1 (.int .i64 n0.ready)) 2 (.int .i64 n0.old)) 3 (.int .i64 n0.failed)) 4 (.int .i64 n0.ending));have y0:=AK hX 0 rfl;have y1:=AK hX 1 rfl;have y2:=AK hX 2 rfl;have y3:=AK hX 3 rfl;have y4:=AK hX 4 rfl;refine⟨.agg (ctV n0),?_,by rw[HN.out];rfl,(((((hB.setCell (p:=⟨w.heap.size+1+1,0,none⟩) (by show _<=w.heap.size+1+1;omega) (.int .i64 n0.live)).setCell (p:=⟨w.heap.size+1+1,1,none⟩) (by show _<=w.heap.size+1+1;omega) (.int .i64 n0.ready)).setCell (p:=⟨w.heap.size+1+1,2,none⟩) (by show _<=w.heap.size+1+1;omega) (.int .i64 n0.old)).setCell (p:=⟨w.heap.size+1+1,3,none⟩) (by show _<=w.heap.size+1+1;omega) (.int .i64 n0.failed)).setCell (p:=⟨w.heap.size+1+1,4,none⟩) (by show _<=w.heap.size+1+1;omega) (.int .i64 n0.ending)).trans (belowK_b (w:=w) (AG _) _ D _ _ (by omega) hK' rfl rfl)⟩;simp[results,Try.f26,go_sem,y0,y1,y2,y3,y4]
 case stop=>
  rintro D c pre W _ _ h _;exact h.elim
end
section
open Go.RowKit Go.Sort Go.Maps
theorem F3(B:Bk)(s:Svc)(a1 a2 a3:Option Addr)(c1 c2 c3:Nat)(w:World)(hl2:B.cps.length<=1048576)(HSO:Hid (Hy B.cps))(HK:Hid (B.cps.length<=c2))(hC:SlC w a2 B.cps)(N:Cnt)(hN:Hid (N=Cq s.image s.name B.cps B.cps.length)):
  Calls Try.prog 26 #[.agg (bkV B a1 c1 a2 c2 a3 c3),.agg (svV s)] w λe w'=>e=.returned (.agg (ctV N))/\Below w.heap.size w w':=by
 refine((callsIn_wide (n:=3)).1 (Jr 3 (by omega) B s a1 a2 a3 c1 c2 c3 w hl2 HSO HK hC)).mono λe w' ⟨he,hb⟩=>⟨?_,hb⟩
 rw[he]
 have e1:GO s.image (ofS s.name B.cps)=N:=by
  rw[hN.out];unfold GO Cq;rw[Mc,List.take_length]
 rw[e1];rfl
end
end Go.Proofs.Ytbceafpodamnfaa
