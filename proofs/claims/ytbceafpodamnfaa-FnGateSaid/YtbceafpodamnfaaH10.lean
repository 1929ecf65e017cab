import Derived.Test.YtbceafpodamnfaaH08
import Derived.Test.YtbceafpodamnfaaH09
set_option linter.all false
set_option maxHeartbeats 16000000
set_option maxRecDepth 100000
namespace Go.Proofs.Ytbceafpodamnfaa
attribute [local simp] svV cpV zbV czV aaV ctZ ad bkV ctV acV
attribute [local go_sem] svV cpV zbV czV aaV ctZ ad bkV ctV acV
section
open Go.RowKit
theorem Ee{α:Type}(l:List α)(o:Nat)(xs:List α)(h:o+xs.length<=l.length)(j:Nat):(splice l o xs)[j]?=if j<o then l[j]? else if j<o+xs.length then xs[j - o]? else l[j]?:=by
 have ht:(l.take o).length=o:=by rw[List.length_take];omega
 unfold splice
 by_cases h1:j<o
 ·rw[if_pos h1,List.getElem?_append_left (by omega),List.getElem?_take_of_lt h1]
 ·rw[if_neg h1,List.getElem?_append_right (by omega),ht]
  by_cases h2:j<o+xs.length
  ·rw[if_pos h2,List.getElem?_append_left (by omega)]
  ·rw[if_neg h2,List.getElem?_append_right (by omega),List.getElem?_drop]
   congr 1
   omega
theorem Ls{α:Type}(l:List α)(o n:Nat)(xs:List α)(h:o+xs.length<=n)(hn:n<=l.length):(splice l o xs).take n=splice (l.take n) o xs:=by
 have hl:(l.take n).length=n:=by rw[List.length_take];omega
 refine List.ext_getElem? λj=>?_
 rw[Ee _ _ _ (by omega)]
 by_cases hj:j<n
 ·rw[List.getElem?_take_of_lt hj,Ee _ _ _ (by omega),List.getElem?_take_of_lt hj]
 ·rw[List.getElem?_eq_none (by rw[List.length_take];omega),if_neg (by omega),if_neg (by omega),List.getElem?_eq_none (by omega)]
theorem GK{α:Type}{c:α->List Value}{n:Nat}(hc:∀s,(c s).length=n)(l:List α)(i:Nat)(s:α)(hi:i<l.length):splice (l.flatMap c) (i*n) (c s)=(l.set i s).flatMap c:=by
 have hlen:=Em hc l;have hfit:i*n+n<=l.length*n:=by rw[<-Nat.succ_mul];exact Nat.mul_le_mul_right n hi
 refine List.ext_getElem? λj=>?_
 rw[Ee _ _ _ (by rw[hc,hlen];exact hfit),hc]
 by_cases hj:j<l.length*n
 ·have hn:0<n:=Nat.pos_of_ne_zero λh=>(by rw[h]at hj;simp at hj)
  obtain⟨u,hu⟩:∃u,(l.flatMap c)[j]?=some u:=⟨(l.flatMap c)[j]'(by rw[hlen];exact hj),by rw[List.getElem?_eq_getElem]⟩;obtain⟨p,k,x,h1,h2,rfl⟩:=Eb hc l j u hu;have hk:k<n:=by have:=(AC h2).1;rw[hc]at this;exact this
  by_cases hp:p=i
  ·subst hp
   obtain⟨v,hv⟩:∃v,(c s)[k]?=some v:=⟨(c s)[k]'(by rw[hc];exact hk),by rw[List.getElem?_eq_getElem]⟩;rw[if_neg (by omega),if_pos (by omega),show p*n+k - p*n=k by omega,hv];exact(BW hc (l.set p s) p s k v (by simp[hi]) hv).symm
  ·have hg:(l.set i s)[p]?=some x:=by rw[List.getElem?_set_ne (by omega)];exact h1
   rw[BW hc (l.set i s) p x k u hg h2,hu]
   by_cases hlt:p<i
   ·have:p*n+n<=i*n:=by rw[<-Nat.succ_mul];exact Nat.mul_le_mul_right n hlt
    rw[if_pos (by omega)]
   ·have:i*n+n<=p*n:=by rw[<-Nat.succ_mul];exact Nat.mul_le_mul_right n (by omega)
    rw[if_neg (by omega),if_neg (by omega)]
 ·rw[if_neg (by omega),if_neg (by omega),List.getElem?_eq_none (by omega),List.getElem?_eq_none (by rw[Em hc];simpa using Nat.le_of_not_lt hj)]
theorem Ay{α:Type}{c:α->List Value}{n:Nat}(hc:∀s,(c s).length=n)(l:List α)(i k:Nat)(s s':α)(u:Value)(hi:l[i]?=some s)(hk:k<n)(hs:c s'=(c s).set k u):splice (l.flatMap c) (i*n+k) [u]=(l.set i s').flatMap c:=by
 have hil:i<l.length:=(AC hi).1;have hlen:=Em hc l;have hfit:i*n+n<=l.length*n:=by rw[<-Nat.succ_mul];exact Nat.mul_le_mul_right n hil
 rw[<-GK hc l i s' hil];refine List.ext_getElem? λj=>?_
 rw[Ee _ _ _ (by rw[hlen,List.length_singleton];omega),Ee _ _ _ (by rw[hc,hlen];exact hfit),hc,List.length_singleton]
 by_cases h1:j<i*n
 ·rw[if_pos (by omega),if_pos h1]
 ·rw[if_neg h1]
  by_cases h2:j<i*n+n
  ·obtain⟨q,rfl⟩:∃q,j=i*n+q:=⟨j - i*n,by omega⟩
   rw[if_pos h2,show i*n+q - i*n=q by omega,hs]
   by_cases h3:q=k
   ·subst h3
    rw[if_neg (by omega),if_pos (by omega),List.getElem?_set_self (by rw[hc];exact hk),show i*n+q - (i*n+q)=0 by omega];rfl
   ·rw[List.getElem?_set_ne (by omega)]
    obtain⟨v,hv⟩:∃v,(c s)[q]?=some v:=⟨(c s)[q]'(by rw[hc];omega),by rw[List.getElem?_eq_getElem]⟩;rw[hv,BW hc l i s q v hi hv]
    by_cases h4:q<k
    ·rw[if_pos (by omega)]
    ·rw[if_neg (by omega),if_neg (by omega)]
  ·rw[if_neg h2,if_neg (by omega),if_neg (by omega)]
theorem RowIs.stored{w w':World}{e:TypeId}{size g n cap:Nat}{xs:List Value}(h:RowIs w e size g n cap xs)(cur:Array Value)(hg:w.heap[g]?=some (.cells cur e (0,0)))(o:Nat)(ys:List Value)(hfit:o+ys.length<=n*size)
  (h':w'.heap[g]?=some (.cells (splice cur.toList o ys).toArray e (0,0))):RowIs w' e size g n cap (splice xs o ys):=by
 obtain⟨hx,hc,cur',h1,h2,h3⟩:=h;rw[hg]at h1;injection h1 with h1
 injection h1 with h1
 subst h1;have hnc:n*size<=cur.toList.length:=by rw[Array.length_toList,h2];exact Nat.mul_le_mul_right size hc
 refine⟨by rw[length_splice _ _ _ (by rw[hx];exact hfit),hx],hc,_,h',?_,?_⟩
 ·rw[List.size_toArray,length_splice _ _ _ (by omega),Array.length_toList,h2]
 ·show(splice cur.toList o ys).take (n*size)=_
  rw[Ls _ _ _ _ hfit hnc,h3]
section
variable {P:Program}
theorem At{ops:Array Oper}{rest:List Oper}{o:Oper}{a:Act}{w:World}{Q:Exit->Act->World->Prop}(hgd:o.guard=none)(ty:TypeId)(x y:Operand)(ho:o.op=.store ty x y)
  (g off:Nat) (v:Value) (hx:a.eval x=.pointer (some ⟨g,off,none⟩)) (hy:a.eval y=v) (hi:(P.info? ty).map (·.size)=some 1) (hv:v.cells=#[v]) (h1:v.oneCell'=true)
  (e:TypeId) (size n cap:Nat) (xs:List Value) (hrow:RowIs w e size g n cap xs) (hfit:off+1<=n*size)
  (h:∀w',Hid (RowIs w' e size g n cap (splice xs off [v]))->Bj g w w'->wpList P ops Q rest (a.put o.dst undef) w'):wpList P ops Q (o::rest) a w:=by
 have hr:=hrow;obtain⟨hxl,hc,cur,hg,hs,ht⟩:=hr;have hnc:n*size<=cap*size:=Nat.mul_le_mul_right size hc;exact AP hgd ty x y ho g off v hx hy hi hv h1 e cur hg (by omega) λw' h' on=>h w' (hrow.stored cur hg off [v] hfit h'.out) on
theorem Fv{ops:Array Oper}{rest:List Oper}{o:Oper}{a:Act}{w:World}{Q:Exit->Act->World->Prop}(hgd:o.guard=none)(ty:TypeId)(x y:Operand)(ho:o.op=.store ty x y)
  (g off:Nat) (cells:Array Value) (hx:a.eval x=.pointer (some ⟨g,off,none⟩)) (hy:a.eval y=.agg cells) (hi:(P.info? ty).map (·.size)=some cells.size) (h1:cells.all (·.oneCell')=true)
  (e:TypeId) (size n cap:Nat) (xs:List Value) (hrow:RowIs w e size g n cap xs) (hfit:off+cells.size<=n*size)
  (h:∀w',Hid (RowIs w' e size g n cap (splice xs off cells.toList))->Bj g w w'->wpList P ops Q rest (a.put o.dst undef) w'):wpList P ops Q (o::rest) a w:=by
 have hr:=hrow;obtain⟨hxl,hc,cur,hg,hs,ht⟩:=hr;have hnc:n*size<=cap*size:=Nat.mul_le_mul_right size hc;exact AM hgd ty x y ho g off cells hx hy e cur hg hi (by omega) h1 λw' h' on=>h w' (hrow.stored cur hg off cells.toList (by rw[Array.length_toList];exact hfit) h'.out) on
end
end
section
open Go.RowKit Go.Sort
def Dt(B:Bk)(A:Ac)(e:En):Bool:=(B.cps.find? (isC A.service e.number)).isSome
def DD(B:Bk)(A:Ac)(e:En):Bool:=match B.cps.find? (isC A.service e.number) with
 |some c=>c.version==e.seen
 |none=>false
def F1(B:Bk)(A:Ac):Option Int:=if Dp A then(match Bz B A.service with
 |none=>some 3
 |some s=>if A.ends.all (Dt B A) then(if s.version==A.seen then(if A.ends.all (DD B A) then none else some 4) else some 4) else some 3) else some 2
theorem all_no{l:List En}{p:En->Bool}{j:Nat}{x:En}(hx:l[j]?=some x)(h:p x=false):l.all p=false:=by
 rw[List.all_eq_false];exact⟨x,AE hx,by rw[h];decide⟩
theorem N8{l:List En}{p:En->Bool}(h:∀i x,i<l.length->l[i]?=some x->p x=true):l.all p=true:=by
 rw[List.all_eq_true];intro x hx;obtain⟨i,hi⟩:=List.mem_iff_getElem?.1 hx;exact h i x (AC hi).1 hi
theorem KT(B:Bk)(A:Ac)(code:Int)(a1 a2 a3:Option Addr)(c1 c2 c3:Nat)(ae:Option Addr)(ce:Nat)(w:World)(hS:B.small)(hB:BkAt w a1 a2 a3 B)(hl:A.ends.length<=1048576)(hE:SlE w ae A.ends)(hr:F1 B A=some code):
  Calls Try.prog 99 #[.agg (bkV B a1 c1 a2 c2 a3 c3),.agg (acV A ae ce)] w λe w'=>e=.returned (.tuple #[.agg (bkV B a1 c1 a2 c2 a3 c3),.int .i64 code])/\Below w.heap.size w w':=by
 obtain⟨t0,t1,t2,t3⟩:=CR w (.cells (bkV B a1 c1 a2 c2 a3 c3) 27) (.cells (acV A ae ce) 152) (.cells zbV 27);have T0:Hid _:=t0;have T1:Hid _:=t1;have T2:Hid _:=t2;have HS3:Hid _:=t3;have HR:Hid _:=hr;have hss:=hS;obtain⟨hl1,hl2,hl3⟩:=hss;clear t0 t1 t2 t3 hr;have hbb:Below w.heap.size w (((w.alloc (.cells (bkV B a1 c1 a2 c2 a3 c3) 27)).alloc (.cells (acV A ae ce) 152)).alloc (.cells zbV 27)):=(((Below.refl _ _).alloc (AG _) _).alloc (by simp) _).alloc (by simp;omega) _;go_enter Try.func99,Try.ntmps99
 go_wp2_with fail
 refine(IZ A ae ce _ hl (hE.below hbb)).mono ?_;rintro e w1 ⟨rfl,hb1⟩;rw[HS3.out]at hb1;have hbw1:=hbb.trans (hb1.mono (by omega));have U0:Hid _:=AL hb1 T0.out (by omega);have U1:Hid _:=AL hb1 T1.out (by omega);have U2:Hid _:=AL hb1 T2.out (by omega);have hz1:w.heap.size+1+1+1<=w1.heap.size:=by have:=hb1.size;rw[HS3.out]at this;omega
 clear T0 T1 T2 HS3 hb1 hbb;cases hok:Dp A
 ·have HCODE:Hid (code=2):=by have:=HR.out;unfold F1 at this;rw[hok]at this;exact(Option.some.inj this).symm
  clear HR;obtain⟨e0,e1,e2,e3⟩:=c4 U0.out
  go_wp2_with (refine AM rfl 27 (.tmp 4) (.tmp 21) rfl (w.heap.size+1+1) 0 (bkV B a1 c1 a2 c2 a3 c3) rfl rfl 27 zbV U2.out As (AD rfl) (by simp[Value.oneCell']) ?_;intro wf hz on;have RF:Hid (Bl wf (w.heap.size+1+1) (bkV B a1 c1 a2 c2 a3 c3) 27):=hz;have hbf:=hbw1.trans (on.below.mono (by omega));clear hz on e0 e1 e2 e3;have p0:=AK RF.out 0 rfl;have p1:=AK RF.out 1 rfl;have p2:=AK RF.out 2 rfl;have p3:=AK RF.out 3 rfl)
  refine bodyPost_ret (v:=.tuple #[.agg (bkV B a1 c1 a2 c2 a3 c3),.int .i64 2]) (by simp[results,Try.results99,go_sem,p0,p1,p2,p3]) rfl ⟨by rw[HCODE.out],hbf⟩
 ·have HR2:Hid ((match Bz B A.service with
   |none=>some 3
   |some s=>if A.ends.all (Dt B A) then(if s.version==A.seen then(if A.ends.all (DD B A) then none else some 4) else some 4) else some 3)=some code):=by have:=HR.out;unfold F1 at this;rw[hok]at this;exact this
  clear HR;obtain⟨e0,e1,e2,e3⟩:=c4 U0.out;have f0:=AK U1.out 0 rfl
  go_wp2_with fail
  refine(B9 B A.service a1 a2 a3 c1 c2 c3 _ hS (hB.below hbw1).1).mono ?_;rintro e w2 ⟨rfl,hb2⟩;have hbw2:=hbw1.trans (hb2.mono hbw1.size);have V0:Hid _:=AL hb2 U0.out (by omega);have V1:Hid _:=AL hb2 U1.out (by omega);have V2:Hid _:=AL hb2 U2.out (by omega);clear e0 e1 e2 e3 f0 U0 U1 U2 hb2 hbw1
  cases hsv:Bz B A.service with
  |none=>
   have hk:Gd B.svcs A.service= -1:=CE hsv;have HCODE:Hid (code=3):=by have:=HR2.out;rw[hsv]at this;exact(Option.some.inj this).symm
   rw[hk];clear HR2 hsv hk;obtain⟨e0,e1,e2,e3⟩:=c4 V0.out
   go_wp2_with (refine AM rfl 27 (.tmp 4) (.tmp 28) rfl (w.heap.size+1+1) 0 (bkV B a1 c1 a2 c2 a3 c3) rfl rfl 27 zbV V2.out As (AD rfl) (by simp[Value.oneCell']) ?_;intro wf hz on;have RF:Hid (Bl wf (w.heap.size+1+1) (bkV B a1 c1 a2 c2 a3 c3) 27):=hz;have hbf:=hbw2.trans (on.below.mono (by omega));clear hz on e0 e1 e2 e3;have p0:=AK RF.out 0 rfl;have p1:=AK RF.out 1 rfl;have p2:=AK RF.out 2 rfl;have p3:=AK RF.out 3 rfl)
   refine bodyPost_ret (v:=.tuple #[.agg (bkV B a1 c1 a2 c2 a3 c3),.int .i64 3]) (by simp[results,Try.results99,go_sem,p0,p1,p2,p3]) rfl ⟨by rw[HCODE.out],hbf⟩
  |some s=>
   have HR3:Hid ((if A.ends.all (Dt B A) then(if s.version==A.seen then(if A.ends.all (DD B A) then none else some 4) else some 4) else some 3)=some code):=by have:=HR2.out;rw[hsv]at this;exact this
   obtain⟨k,hks,hkk⟩:∃k:Nat,B.svcs[k]?=some s/\Gd B.svcs A.service=(k:Int):=Bo hsv;have hklt:k<B.svcs.length:=(AC hks).1;rw[hkk];obtain⟨bS,offS,eS,hbsS,hatS⟩:=hB.1 (by intro h;rw[h]at hklt;simp at hklt);subst eS;have hsx:=hatS k s hks;clear HR2 hsv hkk hks hatS hok;go_wp2
   go_loopw [7] (λiv wr=>∃j:Nat,j<=A.ends.length/\iv=.int .i64 j/\Below w.heap.size w wr/\Hid (Bl wr (w.heap.size) (bkV B (some ⟨bS,offS,none⟩) c1 a2 c2 a3 c3) 27)/\Hid (Bl wr (w.heap.size+1) (acV A ae ce) 152)/\Hid (Bl wr (w.heap.size+1+1) zbV 27)/\Hid (∀i x,i<j->A.ends[i]?=some x->Dt B A x=true)) (λi _=>A.ends.length - (intOf i).toNat)
   case atStart=>exact⟨0,by omega,rfl,hbw2,V0,V1,V2,λi x h=>absurd h (by omega)⟩
   case round=>
    clear V0 V1 V2 hbw2;obtain⟨j,hj,rfl,hb,H0,H1,H2,HALL⟩:=hrel;have hz0:w.heap.size<wr.heap.size:=(AB H0.out).1;have hz1:w.heap.size+1<wr.heap.size:=(AB H1.out).1;have hz2:w.heap.size+1+1<wr.heap.size:=(AB H2.out).1
    by_cases hlt:j<A.ends.length
    ·obtain⟨x,hx⟩:∃x,A.ends[j]?=some x:=⟨A.ends[j],by simp[hlt]⟩
     have hne:A.ends≠[]:=by intro h;rw[h]at hlt;simp at hlt
     obtain⟨b,off,ea,hbs,hat⟩:=hE hne;subst ea;have hxx:=hat j x hx;have HX:Hid _:=hx;obtain⟨q,HQ⟩:∃q,Hid (Jl B.cps A.service x.number=q):=⟨_,rfl⟩;have HC:Hid (∀W:World,SlC W a2 B.cps->Calls Try.prog 53 #[.agg (bkV B (some ⟨bS,offS,none⟩) c1 a2 c2 a3 c3),.string A.service,.int .i64 x.number] W λe w'=>e=.returned (.int .i64 q)/\Below W.heap.size W w'):=λW h=>by rw[<-HQ.out];exact C0 B A.service x.number _ a2 a3 c1 c2 c3 W hS h
     have HQ2:Hid ((q= -1/\Dt B A x=false)\/(0<=q/\Dt B A x=true)):=by
      unfold Hid Dt;rw[<-HQ.out]
      cases hf:B.cps.find? (isC A.service x.number) with
      |none=>exact .inl ⟨CE hf,rfl⟩
      |some c=>
       obtain⟨i,_,hi⟩:=Bo hf;exact .inr ⟨by unfold Jl;rw[hi];omega,rfl⟩
     clear hx hat hne HQ;have e6:=AK H1.out 6 rfl;go_wp2;clear e6;refine AX 10 (by kernel_rfl) (by kernel_rfl) ?_;apply AN
     ·intro V W K AA hW hd hA hK
      simp only[pA]at hA;clear hd;obtain rfl:=hA;obtain⟨e0,e1,e2,e3⟩:=c4 (AL hW H0.out hz0);go_wp2;exact hK.out _ brf
     apply AN
     ·intro V W K AA hW hd hA hK
      simp only[pA]at hA;clear hd;obtain rfl:=hA;go_wp2;exact hK.out _ brf
     apply AN
     ·intro V W K AA hW hd hA hK
      have d1:V 1=_:=hd 1 (by kernel_rfl);simp only[pA,d1]at hA;clear hd d1;obtain rfl:=hA;have e0:=AK (AL hW H1.out hz1) 0 rfl;go_wp2;exact hK.out _ brf
     apply AN
     ·intro V W K AA hW hd hA hK
      simp only[pA]at hA;clear hd;obtain rfl:=hA;go_wp2;exact hK.out _ brf
     apply AN
     ·intro V W K AA hW hd hA hK
      have d3:V 3=_:=hd 3 (by kernel_rfl);simp only[pA,d3]at hA;clear hd d3;obtain rfl:=hA;have e6:=AK (AL hW H1.out hz1) 6 rfl;go_wp2;exact hK.out _ brf
     apply AN
     ·intro V W K AA hW hd hA hK
      simp only[pA]at hA;clear hd;obtain rfl:=hA;go_wp2;exact hK.out _ brf
     apply AN
     ·intro V W K AA hW hd hA hK
      have d4:V 4=_:=hd 4 (by kernel_rfl);have d5:V 5=_:=hd 5 (by kernel_rfl);simp only[pA,d4,d5]at hA;clear hd d4 d5;obtain rfl:=hA;go_wp2;exact hK.out _ brf
     apply AN
     ·intro V W K AA hW hd hA hK
      have d6:V 6=_:=hd 6 (by kernel_rfl);simp only[pA,d6]at hA;clear hd d6;obtain rfl:=hA;go_wp2;exact hK.out _ brf
     apply AN
     ·intro V W K AA hW hd hA hK
      have d7:V 7=_:=hd 7 (by kernel_rfl);simp only[pA,d7]at hA;clear hd d7;obtain rfl:=hA;have hq:=hxx.below (hb.trans (hW.mono hb.size)) hbs;unfold EnAt at hq;obtain⟨q0,q1⟩:=hq;go_wp2;exact hK.out _ brf
     apply AN
     ·intro V W K AA hW hd hA hK
      have d0:V 0=_:=hd 0 (by kernel_rfl);have d2:V 2=_:=hd 2 (by kernel_rfl);have d8:V 8=_:=hd 8 (by kernel_rfl);simp only[pA,d0,d2,d8]at hA;clear hd d0 d2 d8;obtain rfl:=hA
      go_wp2_with fail
      refine(HC.out _ (hB.below (hb.trans (hW.mono hb.size))).2.1).mono ?_;rintro e w3 ⟨rfl,hb3⟩;go_wp2;exact hK.out _ hb3
     intro V W AA hW hS hA;have d0:V 0=_:=hS 0 (by omega);have d1:V 1=_:=hS 1 (by omega);have d2:V 2=_:=hS 2 (by omega);have d3:V 3=_:=hS 3 (by omega);have d4:V 4=_:=hS 4 (by omega);have d5:V 5=_:=hS 5 (by omega);have d6:V 6=_:=hS 6 (by omega);have d7:V 7=_:=hS 7 (by omega);have d8:V 8=_:=hS 8 (by omega);have d9:V 9=_:=hS 9 (by omega);simp only[pA,d0,d1,d2,d3,d4,d5,d6,d7,d8,d9]at hA;clear hS d0 d1 d2 d3 d4 d5 d6 d7 d8 d9;obtain rfl:=hA;simp only[List.drop_succ_cons,List.drop_zero];have hbw:=hb.trans (hW.mono hb.size);have H0':Hid _:=AL hW H0.out hz0;have H1':Hid _:=AL hW H1.out hz1;have H2':Hid _:=AL hW H2.out hz2;clear hW HC;rcases HQ2.out with⟨rfl,hno⟩|⟨hq,hyes⟩
     ·have HCODE:Hid (code=3):=by have:=HR3.out;rw[all_no HX.out hno]at this;exact(Option.some.inj this).symm
      clear HR3 hno HQ2;obtain⟨e0,e1,e2,e3⟩:=c4 H0'.out
      go_wp2_with (refine AM rfl 27 (.tmp 4) (.tmp 47) rfl (w.heap.size+1+1) 0 (bkV B (some ⟨bS,offS,none⟩) c1 a2 c2 a3 c3) rfl rfl 27 zbV H2'.out As (AD rfl) (by simp[Value.oneCell']) ?_;intro wf hz on;have RF:Hid (Bl wf (w.heap.size+1+1) (bkV B (some ⟨bS,offS,none⟩) c1 a2 c2 a3 c3) 27):=hz;have hbf:=hbw.trans (on.below.mono (by omega));clear hz on e0 e1 e2 e3;have p0:=AK RF.out 0 rfl;have p1:=AK RF.out 1 rfl;have p2:=AK RF.out 2 rfl;have p3:=AK RF.out 3 rfl)
      refine bodyPost_ret (v:=.tuple #[.agg (bkV B (some ⟨bS,offS,none⟩) c1 a2 c2 a3 c3),.int .i64 3]) (by simp[results,Try.results99,go_sem,p0,p1,p2,p3]) rfl ⟨by rw[HCODE.out],hbf⟩
     ·have HY:Hid _:=hyes
      clear hyes HQ2;go_wp2
      go_roundw
      case rel=>exact⟨j+1,by omega,by go_num,hbw,H0',H1',H2',λi x' hi hx'=>by
       by_cases him:i=j
       ·subst him
        rw[HX.out]at hx';obtain rfl:=Option.some.inj hx';exact HY.out
       ·exact HALL.out i x' (by omega) hx'⟩
      case measure=>simp[intOf];omega
    ·have HIN:Hid (A.ends.all (Dt B A)=true):=N8 λi x hi hx=>HALL.out i x (by omega) hx
     have HR4:Hid ((if s.version==A.seen then(if A.ends.all (DD B A) then none else some 4) else some 4)=some code):=by have:=HR3.out;rw[HIN.out]at this;exact this
     clear HR3 HALL;have e6:=AK H1.out 6 rfl;go_wp2;clear e6;refine AX 8 (by kernel_rfl) (by kernel_rfl) ?_;apply AN
     ·intro V W K AA hW hd hA hK
      simp only[pA]at hA;clear hd;obtain rfl:=hA;go_wp2;exact hK.out _ brf
     apply AN
     ·intro V W K AA hW hd hA hK
      have d0:V 0=_:=hd 0 (by kernel_rfl);simp only[pA,d0]at hA;clear hd d0;obtain rfl:=hA;have e1:=AK (AL hW H0.out hz0) 1 rfl;go_wp2;exact hK.out _ brf
     apply AN
     ·intro V W K AA hW hd hA hK
      simp only[pA]at hA;clear hd;obtain rfl:=hA;go_wp2;exact hK.out _ brf
     apply AN
     ·intro V W K AA hW hd hA hK
      have d1:V 1=_:=hd 1 (by kernel_rfl);have d2:V 2=_:=hd 2 (by kernel_rfl);simp only[pA,d1,d2]at hA;clear hd d1 d2;obtain rfl:=hA;go_wp2;exact hK.out _ brf
     apply AN
     ·intro V W K AA hW hd hA hK
      have d3:V 3=_:=hd 3 (by kernel_rfl);simp only[pA,d3]at hA;clear hd d3;obtain rfl:=hA;go_wp2;exact hK.out _ brf
     apply AN
     ·intro V W K AA hW hd hA hK
      have d4:V 4=_:=hd 4 (by kernel_rfl);simp only[pA,d4]at hA;clear hd d4;obtain rfl:=hA;have hq:=hsx.below (hb.trans (hW.mono hb.size)) hbsS;unfold SvcAt at hq;obtain⟨q0,q1,q2,q3,q4,q5,q6,q7,q8,q9,q10,q11,q12⟩:=hq;go_wp2;exact hK.out _ brf
     apply AN
     ·intro V W K AA hW hd hA hK
      simp only[pA]at hA;clear hd;obtain rfl:=hA;go_wp2;exact hK.out _ brf
     apply AN
     ·intro V W K AA hW hd hA hK
      have d6:V 6=_:=hd 6 (by kernel_rfl);simp only[pA,d6]at hA;clear hd d6;obtain rfl:=hA;have e1:=AK (AL hW H1.out hz1) 1 rfl;go_wp2;exact hK.out _ brf
     intro V W AA hW hS hA;have d0:V 0=_:=hS 0 (by omega);have d1:V 1=_:=hS 1 (by omega);have d2:V 2=_:=hS 2 (by omega);have d3:V 3=_:=hS 3 (by omega);have d4:V 4=_:=hS 4 (by omega);have d5:V 5=_:=hS 5 (by omega);have d6:V 6=_:=hS 6 (by omega);have d7:V 7=_:=hS 7 (by omega);simp only[pA,d0,d1,d2,d3,d4,d5,d6,d7]at hA;clear hS d0 d1 d2 d3 d4 d5 d6 d7;obtain rfl:=hA;simp only[List.drop_succ_cons,List.drop_zero];have hbw:=hb.trans (hW.mono hb.size);have H0':Hid _:=AL hW H0.out hz0;have H1':Hid _:=AL hW H1.out hz1;have H2':Hid _:=AL hW H2.out hz2;have hzW:=hW.size;clear hW
     by_cases hse:s.version=A.seen
     rotate_left
     ·have HCODE:Hid (code=4):=by have:=HR4.out;rw[if_neg (by simpa using hse)]at this;exact(Option.some.inj this).symm
      have hse2:(s.version !=A.seen)=true:=by simpa using hse
      clear HR4 hse;obtain⟨e0,e1,e2,e3⟩:=c4 H0'.out
      go_wp2_with (refine AM rfl 27 (.tmp 4) (.tmp 57) rfl (w.heap.size+1+1) 0 (bkV B (some ⟨bS,offS,none⟩) c1 a2 c2 a3 c3) rfl rfl 27 zbV H2'.out As (AD rfl) (by simp[Value.oneCell']) ?_;intro wf hz on;have RF:Hid (Bl wf (w.heap.size+1+1) (bkV B (some ⟨bS,offS,none⟩) c1 a2 c2 a3 c3) 27):=hz;have hbf:=hbw.trans (on.below.mono (by omega));clear hz on e0 e1 e2 e3;have p0:=AK RF.out 0 rfl;have p1:=AK RF.out 1 rfl;have p2:=AK RF.out 2 rfl;have p3:=AK RF.out 3 rfl)
      refine bodyPost_ret (v:=.tuple #[.agg (bkV B (some ⟨bS,offS,none⟩) c1 a2 c2 a3 c3),.int .i64 4]) (by simp[results,Try.results99,go_sem,p0,p1,p2,p3]) rfl ⟨by rw[HCODE.out],hbf⟩
     ·have HR5:Hid ((if A.ends.all (DD B A) then none else some 4)=some code):=by have:=HR4.out;rw[if_pos (by simpa using hse)]at this;exact this
      have hse2:(s.version !=A.seen)=false:=by simpa using hse
      clear HR4 hse H0 H1 H2 hb hz0 hz1 hz2;go_wp2;clear hse2
      go_loopw [8] (λiv wr=>∃j:Nat,j<=A.ends.length/\iv=.int .i64 j/\Below w.heap.size w wr/\Hid (Bl wr (w.heap.size) (bkV B (some ⟨bS,offS,none⟩) c1 a2 c2 a3 c3) 27)/\Hid (Bl wr (w.heap.size+1) (acV A ae ce) 152)/\Hid (Bl wr (w.heap.size+1+1) zbV 27)/\Hid (∀i x,i<j->A.ends[i]?=some x->DD B A x=true)) (λi _=>A.ends.length - (intOf i).toNat)
      case atStart=>exact⟨0,by omega,rfl,hbw,H0',H1',H2',λi x h=>absurd h (by omega)⟩
      case round=>
       clear H0' H1' H2' hbw hlt hj hzW;obtain⟨j2,hj2,rfl,hb,H0,H1,H2,HALL⟩:=hrel;have hz0:w.heap.size<wr.heap.size:=(AB H0.out).1;have hz1:w.heap.size+1<wr.heap.size:=(AB H1.out).1;have hz2:w.heap.size+1+1<wr.heap.size:=(AB H2.out).1
       by_cases hlt:j2<A.ends.length
       ·obtain⟨x,hx⟩:∃x,A.ends[j2]?=some x:=⟨A.ends[j2],by simp[hlt]⟩
        have hne:A.ends≠[]:=by intro h;rw[h]at hlt;simp at hlt
        obtain⟨b,off,ea,hbs,hat⟩:=hE hne;subst ea;have hxx:=hat j2 x hx;have HX:Hid _:=hx;have hin:Dt B A x=true:=(List.all_eq_true.1 HIN.out) x (AE hx);unfold Dt at hin;obtain⟨c,hf⟩:=Option.isSome_iff_exists.1 hin;obtain⟨i,hic,hii⟩:=Bo hf;have HES:Hid (DD B A x=(c.version==x.seen)):=by unfold Hid DD;rw[hf]
        have hilt:i<B.cps.length:=(AC hic).1;have HC:Hid (∀W:World,SlC W a2 B.cps->Calls Try.prog 53 #[.agg (bkV B (some ⟨bS,offS,none⟩) c1 a2 c2 a3 c3),.string A.service,.int .i64 x.number] W λe w'=>e=.returned (.int .i64 (i:Int))/\Below W.heap.size W w'):=λW h=>by rw[<-hii];exact C0 B A.service x.number _ a2 a3 c1 c2 c3 W hS h
        obtain⟨bC,offC,eC,hbsC,hatC⟩:=hB.2.1 (by intro h;rw[h]at hilt;simp at hilt);subst eC;have hcx:=hatC i c hic;clear hx hat hne hatC hin hf hic hii HIN hsx;have e6:=AK H1.out 6 rfl;go_wp2;clear e6;refine AX 21 (by kernel_rfl) (by kernel_rfl) ?_;apply AN
        ·intro V W K AA hW hd hA hK
         simp only[pA]at hA;clear hd;obtain rfl:=hA;go_wp2;exact hK.out _ brf
        apply AN
        ·intro V W K AA hW hd hA hK
         have d0:V 0=_:=hd 0 (by kernel_rfl);simp only[pA,d0]at hA;clear hd d0;obtain rfl:=hA;have e2:=AK (AL hW H0.out hz0) 2 rfl;go_wp2;exact hK.out _ brf
        apply AN
        ·intro V W K AA hW hd hA hK
         simp only[pA]at hA;clear hd;obtain rfl:=hA;obtain⟨e0,e1,e2,e3⟩:=c4 (AL hW H0.out hz0);go_wp2;exact hK.out _ brf
        apply AN
        ·intro V W K AA hW hd hA hK
         simp only[pA]at hA;clear hd;obtain rfl:=hA;go_wp2;exact hK.out _ brf
        apply AN
        ·intro V W K AA hW hd hA hK
         have d3:V 3=_:=hd 3 (by kernel_rfl);simp only[pA,d3]at hA;clear hd d3;obtain rfl:=hA;have e0:=AK (AL hW H1.out hz1) 0 rfl;go_wp2;exact hK.out _ brf
        apply AN
        ·intro V W K AA hW hd hA hK
         simp only[pA]at hA;clear hd;obtain rfl:=hA;go_wp2;exact hK.out _ brf
        apply AN
        ·intro V W K AA hW hd hA hK
         have d5:V 5=_:=hd 5 (by kernel_rfl);simp only[pA,d5]at hA;clear hd d5;obtain rfl:=hA;have e6:=AK (AL hW H1.out hz1) 6 rfl;go_wp2;exact hK.out _ brf
        apply AN
        ·intro V W K AA hW hd hA hK
         simp only[pA]at hA;clear hd;obtain rfl:=hA;go_wp2;exact hK.out _ brf
        apply AN
        ·intro V W K AA hW hd hA hK
         have d6:V 6=_:=hd 6 (by kernel_rfl);have d7:V 7=_:=hd 7 (by kernel_rfl);simp only[pA,d6,d7]at hA;clear hd d6 d7;obtain rfl:=hA;go_wp2;exact hK.out _ brf
        apply AN
        ·intro V W K AA hW hd hA hK
         have d8:V 8=_:=hd 8 (by kernel_rfl);simp only[pA,d8]at hA;clear hd d8;obtain rfl:=hA;go_wp2;exact hK.out _ brf
        apply AN
        ·intro V W K AA hW hd hA hK
         have d9:V 9=_:=hd 9 (by kernel_rfl);simp only[pA,d9]at hA;clear hd d9;obtain rfl:=hA;have hq:=hxx.below (hb.trans (hW.mono hb.size)) hbs;unfold EnAt at hq;obtain⟨q0,q1⟩:=hq;go_wp2;exact hK.out _ brf
        apply AN
        ·intro V W K AA hW hd hA hK
         have d2:V 2=_:=hd 2 (by kernel_rfl);have d4:V 4=_:=hd 4 (by kernel_rfl);have d10:V 10=_:=hd 10 (by kernel_rfl);simp only[pA,d2,d4,d10]at hA;clear hd d2 d4 d10;obtain rfl:=hA
         go_wp2_with fail
         refine(HC.out _ (hB.below (hb.trans (hW.mono hb.size))).2.1).mono ?_;rintro e w3 ⟨rfl,hb3⟩;go_wp2;exact hK.out _ hb3
        apply AN
        ·intro V W K AA hW hd hA hK
         have d1:V 1=_:=hd 1 (by kernel_rfl);have d11:V 11=_:=hd 11 (by kernel_rfl);simp only[pA,d1,d11]at hA;clear hd d1 d11;obtain rfl:=hA;go_wp2;exact hK.out _ brf
        apply AN
        ·intro V W K AA hW hd hA hK
         have d12:V 12=_:=hd 12 (by kernel_rfl);simp only[pA,d12]at hA;clear hd d12;obtain rfl:=hA;go_wp2;exact hK.out _ brf
        apply AN
        ·intro V W K AA hW hd hA hK
         have d13:V 13=_:=hd 13 (by kernel_rfl);simp only[pA,d13]at hA;clear hd d13;obtain rfl:=hA;have hq:=hcx.below (hb.trans (hW.mono hb.size)) hbsC;unfold CpAt at hq;obtain⟨q0,q1,q2,q3,q4,q5,q6⟩:=hq;go_wp2;exact hK.out _ brf
        apply AN
        ·intro V W K AA hW hd hA hK
         simp only[pA]at hA;clear hd;obtain rfl:=hA;go_wp2;exact hK.out _ brf
        apply AN
        ·intro V W K AA hW hd hA hK
         have d15:V 15=_:=hd 15 (by kernel_rfl);simp only[pA,d15]at hA;clear hd d15;obtain rfl:=hA;have e6:=AK (AL hW H1.out hz1) 6 rfl;go_wp2;exact hK.out _ brf
        apply AN
        ·intro V W K AA hW hd hA hK
         simp only[pA]at hA;clear hd;obtain rfl:=hA;go_wp2;exact hK.out _ brf
        apply AN
        ·intro V W K AA hW hd hA hK
         have d16:V 16=_:=hd 16 (by kernel_rfl);have d17:V 17=_:=hd 17 (by kernel_rfl);simp only[pA,d16,d17]at hA;clear hd d16 d17;obtain rfl:=hA;go_wp2;exact hK.out _ brf
        apply AN
        ·intro V W K AA hW hd hA hK
         have d18:V 18=_:=hd 18 (by kernel_rfl);simp only[pA,d18]at hA;clear hd d18;obtain rfl:=hA;go_wp2;exact hK.out _ brf
        apply AN
        ·intro V W K AA hW hd hA hK
         have d19:V 19=_:=hd 19 (by kernel_rfl);simp only[pA,d19]at hA;clear hd d19;obtain rfl:=hA;have hq:=hxx.below (hb.trans (hW.mono hb.size)) hbs;unfold EnAt at hq;obtain⟨q0,q1⟩:=hq;go_wp2;exact hK.out _ brf
        intro V W AA hW hS hA;have d0:V 0=_:=hS 0 (by omega);have d1:V 1=_:=hS 1 (by omega);have d2:V 2=_:=hS 2 (by omega);have d3:V 3=_:=hS 3 (by omega);have d4:V 4=_:=hS 4 (by omega);have d5:V 5=_:=hS 5 (by omega);have d6:V 6=_:=hS 6 (by omega);have d7:V 7=_:=hS 7 (by omega);have d8:V 8=_:=hS 8 (by omega);have d9:V 9=_:=hS 9 (by omega);have d10:V 10=_:=hS 10 (by omega);have d11:V 11=_:=hS 11 (by omega);have d12:V 12=_:=hS 12 (by omega);have d13:V 13=_:=hS 13 (by omega);have d14:V 14=_:=hS 14 (by omega);have d15:V 15=_:=hS 15 (by omega);have d16:V 16=_:=hS 16 (by omega);have d17:V 17=_:=hS 17 (by omega);have d18:V 18=_:=hS 18 (by omega);have d19:V 19=_:=hS 19 (by omega);have d20:V 20=_:=hS 20 (by omega);simp only[pA,d0,d1,d2,d3,d4,d5,d6,d7,d8,d9,d10,d11,d12,d13,d14,d15,d16,d17,d18,d19,d20]at hA;clear hS d0 d1 d2 d3 d4 d5 d6 d7 d8 d9 d10 d11 d12 d13 d14 d15 d16 d17 d18 d19 d20;obtain rfl:=hA;simp only[List.drop_succ_cons,List.drop_zero];have hbw:=hb.trans (hW.mono hb.size);have H0':Hid _:=AL hW H0.out hz0;have H1':Hid _:=AL hW H1.out hz1;have H2':Hid _:=AL hW H2.out hz2;clear hW HC hcx hxx
        by_cases hcv:c.version=x.seen
        rotate_left
        ·have HCODE:Hid (code=4):=by have:=HR5.out;rw[all_no HX.out (by rw[HES.out];simpa using hcv)]at this;exact(Option.some.inj this).symm
         have hse2:(c.version !=x.seen)=true:=by simpa using hcv
         clear HR5 hcv HES;obtain⟨e0,e1,e2,e3⟩:=c4 H0'.out
         go_wp2_with (refine AM rfl 27 (.tmp 4) (.tmp 87) rfl (w.heap.size+1+1) 0 (bkV B (some ⟨bS,offS,none⟩) c1 (some ⟨bC,offC,none⟩) c2 a3 c3) rfl rfl 27 zbV H2'.out As (AD rfl) (by simp[Value.oneCell']) ?_;intro wf hz on;have RF:Hid (Bl wf (w.heap.size+1+1) (bkV B (some ⟨bS,offS,none⟩) c1 (some ⟨bC,offC,none⟩) c2 a3 c3) 27):=hz;have hbf:=hbw.trans (on.below.mono (by omega));clear hz on e0 e1 e2 e3;have p0:=AK RF.out 0 rfl;have p1:=AK RF.out 1 rfl;have p2:=AK RF.out 2 rfl;have p3:=AK RF.out 3 rfl)
         refine bodyPost_ret (v:=.tuple #[.agg (bkV B (some ⟨bS,offS,none⟩) c1 (some ⟨bC,offC,none⟩) c2 a3 c3),.int .i64 4]) (by simp[results,Try.results99,go_sem,p0,p1,p2,p3]) rfl ⟨by rw[HCODE.out],hbf⟩
        ·have HY:Hid (DD B A x=true):=by unfold Hid;rw[HES.out];simpa using hcv
         have hse2:(c.version !=x.seen)=false:=by simpa using hcv
         clear hcv HES;go_wp2
         go_roundw
         case rel=>exact⟨j2+1,by omega,by go_num,hbw,H0',H1',H2',λi x' hi hx'=>by
          by_cases him:i=j2
          ·subst him
           rw[HX.out]at hx';obtain rfl:=Option.some.inj hx';exact HY.out
          ·exact HALL.out i x' (by omega) hx'⟩
         case measure=>simp[intOf];omega
       ·exfalso
        have hall:A.ends.all (DD B A)=true:=N8 λi x hi hx=>HALL.out i x (by omega) hx
        have:=HR5.out;rw[hall]at this;cases this
def IX(v:Int)(c:Cp):Cp:={c with ending:=true,version:=v}
def KV(c:Cp):ByteArray × Int:=(c.service,c.number)
def Gx(sv:ByteArray)(v:Int)(l:List Cp)(num:Int):List Cp:=match l.findIdx? (isC sv num) with
 |some i=>(match l[i]? with
  |some c=>l.set i (IX v c)
  |none=>l)
 |none=>l
def E8(B:Bk)(s:Svc)(sv:ByteArray)(v:Int):List En->List Cp->Option (List Cp)
 |[],l=>some l
 |e::es,l=>match l.find? (isC sv e.number) with
  |some c=>if Gc {B with cps:=l} s sv c then E8 B s sv v es (Gx sv v l e.number) else none
  |none=>none
theorem ckey_set{l:List Cp}{i:Nat}{c:Cp}(h:l[i]?=some c)(v:Int):(l.set i (IX v c)).map KV=l.map KV:=by
 rw[List.map_set];refine List.ext_getElem? λj=>?_
 by_cases hj:i=j
 ·subst hj
  have hlt:i<l.length:=(AC h).1;rw[List.getElem?_set_self (by rw[List.length_map];exact hlt),List.getElem?_map,h];rfl
 ·rw[List.getElem?_set_ne hj]
theorem Ot{l l':List Cp}(h:l.map KV=l'.map KV)(sv:ByteArray)(num:Int):(l.find? (isC sv num)).isSome=(l'.find? (isC sv num)).isSome:=by
 have e:isC sv num=(λk:ByteArray × Int=>k.1.toList==sv.toList&&k.2==num) ∘ KV:=rfl;have a:=List.find?_map (f:=KV) (p:=λk:ByteArray × Int=>k.1.toList==sv.toList&&k.2==num) (l:=l);have b:=List.find?_map (f:=KV) (p:=λk:ByteArray × Int=>k.1.toList==sv.toList&&k.2==num) (l:=l');rw[<-e]at a b;rw[<-Option.isSome_map (f:=KV),<-a,h,b,Option.isSome_map]
theorem Oi{sv:ByteArray}{v:Int}{l:List Cp}{num:Int}{i:Nat}{c:Cp}(hi:Jl l sv num=(i:Int))(hc:l[i]?=some c):Gx sv v l num=l.set i (IX v c):=by
 unfold Jl Ek at hi;unfold Gx
 cases hf:l.findIdx? (isC sv num) with
 |none=>rw[hf]at hi;simp at hi
 |some i'=>
  rw[hf]at hi;obtain rfl:i'=i:=Int.ofNat.inj hi;simp only[hc]
theorem KD:(Try.prog.info? 4).map (·.size)=some 1:=by kernel_rfl
theorem Bm:(Try.prog.info? 3).map (·.size)=some 1:=by kernel_rfl
end
end Go.Proofs.Ytbceafpodamnfaa
