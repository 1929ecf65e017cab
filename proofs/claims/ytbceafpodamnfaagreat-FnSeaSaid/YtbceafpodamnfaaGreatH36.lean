import Derived.Test.YtbceafpodamnfaaGreatH35
set_option linter.all false
set_option maxHeartbeats 16000000
set_option maxRecDepth 100000
namespace Go.Proofs.YtbceafpodamnfaaGreat
section
open Go.RowKit Go.Sort
structure Cf(Y:Bk):Prop where
 names:∀t∈Y.bts,t.name≠⟨#[]⟩
 waits:∀c∈Y.cps,c.state=1->c.berth=⟨#[]⟩
 uB:Hr Y
def G7(Y:Bk)(i:Nat):Int:=(Ar Y Y.cps.length).getD i 0
theorem Jo{Y:Bk}{i:Nat}{t:Bt}(h:Y.bts[i]?=some t):G7 Y i=Bs Y t.name:=by
 unfold G7 Ar Bs;rw[List.getD_eq_getElem?_getD,List.getElem?_map,h];rfl
theorem GE{Y:Bk}(hne:∀t∈Y.bts,t.name≠⟨#[]⟩):∀k,k<=Y.bts.length->(At Y k=[]->Ao Y k=(⟨#[]⟩,0))/\(At Y k≠[]->∃t,Y.bts[D2 (G7 Y) (At Y k)]?=some t/\Ao Y k=(t.name,Bs Y t.name))
 |0,_=>⟨λ_=>rfl,λh=>absurd rfl h⟩
 |k+1,hk=>by
  obtain⟨t,ht⟩:∃t,Y.bts[k]?=some t:=⟨Y.bts[k]'(by omega),by rw[List.getElem?_eq_getElem]⟩;obtain⟨ih1,ih2⟩:=GE hne k (by omega);rw[H6 ht,Dh ht];cases hd:t.drain
  ·simp only[Bool.false_eq_true,if_false]
   refine⟨λh=>absurd h (by simp),λ_=>?_⟩
   by_cases ho:At Y k=[]
   ·refine⟨t,?_,?_⟩
    ·rw[ho];exact ht
    ·rw[ih1 ho]
     unfold Es;rw[hd,if_pos (by simp[show(⟨#[]⟩:ByteArray).toList=[] by rw[ByteArray.toList_eq]])]
   ·obtain⟨s,hs,hl⟩:=ih2 ho
    rw[hl,KQ ho]
    have hsn:(s.name.toList==[])=false:=by
     cases hq:(s.name.toList==[])
     ·rfl
     ·exact absurd (nil_bytes.1 hq) (hne s (AE hs))
    rw[Jo ht,Jo hs];unfold Es;rw[hd]
    by_cases hlt:Bs Y t.name<Bs Y s.name
    ·refine⟨t,?_,?_⟩
     ·rw[if_pos hlt];exact ht
     ·rw[if_pos (by simp[hsn,hlt])]
    ·refine⟨s,?_,?_⟩
     ·rw[if_neg hlt];exact hs
     ·rw[if_neg (by simp[hsn,hlt])]
  ·have e:Es Y (Ao Y k) t=Ao Y k:=by unfold Es;rw[hd];simp
   simp only[if_true,List.append_nil];rw[e];exact⟨ih1,ih2⟩
theorem FW{Y Z:Bk}(h:Y.bts=Z.bts):∀k,At Y k=At Z k
 |0=>rfl
 |k+1=>by
  show At Y k++_=At Z k++_;rw[FW h k,h]
theorem Kf{v:Int}{Y:Bk}{i:Nat}(hne:∀t∈Y.bts,t.name≠⟨#[]⟩)(ho:At Y Y.bts.length=[]):BO v Y i=Y:=by
 have hl:Bo Y=⟨#[]⟩:=by unfold Bo;rw[(GE hne _ (AG _)).1 ho]
 unfold BO;split
 ·rw[if_neg (by rw[hl];simp)]
 ·rfl
theorem Jk{v:Int}{Y:Bk}{i:Nat}{c:Cp}(hc:Y.cps[i]?=some c)(hs:c.state≠1):BO v Y i=Y:=by
 unfold BO;rw[hc];simp only;rw[if_neg (λh=>hs h.1)]
theorem Kg{v:Int}{Y:Bk}{i:Nat}{c:Cp}(hP:Cf Y)(hc:Y.cps[i]?=some c)(hs:c.state=1)(ho:At Y Y.bts.length≠[]):∃t,Y.bts[D2 (G7 Y) (At Y Y.bts.length)]?=some t/\BO v Y i={Y with cps:=Y.cps.set i {c with state:=2,berth:=t.name,version:=v}}:=by
 obtain⟨t,ht,hl⟩:=(GE hP.names _ (AG _)).2 ho;have hb:Bo Y=t.name:=by unfold Bo;rw[hl]
 refine⟨t,ht,?_⟩;unfold BO;rw[hc];simp only;rw[hb,if_pos ⟨hs,hP.names t (AE ht)⟩]
theorem Iq{Y:Bk}{i:Nat}{c d:Cp}(nm:ByteArray)(hc:Y.cps[i]?=some c)(h0:(c.berth.toList==nm.toList)=false):Bs {Y with cps:=Y.cps.set i d} nm=addB (d.berth.toList==nm.toList) (Bs Y nm):=by
 have hi:=(AC hc).1;have hci:Y.cps[i]=c:=by rw[List.getElem?_eq_getElem hi]at hc;exact Option.some.inj hc
 unfold Bs CH;simp only[List.take_length];rw[<-List.countP_eq_length_filter,<-List.countP_eq_length_filter,List.countP_set hi,hci,h0];unfold addB;cases (d.berth.toList==nm.toList)<;>simp
theorem MP{Y:Bk}{i j:Nat}{c d:Cp}{t:Bt}(hP:Cf Y)(hc:Y.cps[i]?=some c)(hs:c.state=1)(ht:Y.bts[j]?=some t)(hd:d.berth=t.name):Ar {Y with cps:=Y.cps.set i d} (Y.cps.set i d).length=(Ar Y Y.cps.length).set j (Bs Y t.name+1):=by
 have hjl:=(AC ht).1;have hcb:=hP.waits c (AE hc) hs
 have h0:∀s∈Y.bts,(c.berth.toList==s.name.toList)=false:=λs hs'=>by
  cases hq:(c.berth.toList==s.name.toList)
  ·rfl
  ·exact absurd ((same_nm.1 hq).symm.trans hcb) (hP.names s hs')
 refine List.ext_getElem? λq=>?_
 by_cases hq:q=j
 ·subst hq
  rw[List.getElem?_set_self (by unfold Ar;rw[List.length_map];exact hjl)];unfold Ar;rw[List.getElem?_map,show({Y with cps:=Y.cps.set i d}:Bk).bts=Y.bts from rfl,ht,Option.map_some];have:=Iq (d:=d) t.name hc (h0 t (AE ht));unfold Bs at this;rw[this,hd];simp[addB];rfl
 ·rw[List.getElem?_set_ne (by omega)]
  unfold Ar;rw[List.getElem?_map,List.getElem?_map,show({Y with cps:=Y.cps.set i d}:Bk).bts=Y.bts from rfl]
  cases hs':Y.bts[q]? with
  |none=>rfl
  |some s=>
   rw[Option.map_some,Option.map_some]
   have hne:s.name≠t.name:=by
    rcases Nat.lt_or_gt_of_ne hq with h|h
    ·exact hP.uB q j s t h hs' ht
    ·exact λe=>hP.uB j q t s h ht hs' e.symm
   have:=Iq (d:=d) s.name hc (h0 s (AE hs'));unfold Bs at this;rw[this,hd]
   have hb:(t.name.toList==s.name.toList)=false:=by
    cases hq':(t.name.toList==s.name.toList)
    ·rfl
    ·exact absurd (same_nm.1 hq').symm hne
   rw[hb];rfl
def CI(Y:Bk)(v:Int)(k:Nat):Bk:=(List.range k).foldl (BO v) Y
theorem DA(Y:Bk)(v:Int)(k:Nat):CI Y v (k+1)=BO v (CI Y v k) k:=by
 unfold CI;rw[List.range_succ,List.foldl_append];rfl
theorem Gc(Y:Bk)(v:Int):∀k,(CI Y v k).now=Y.now/\(CI Y v k).svcs=Y.svcs/\(CI Y v k).bts=Y.bts/\(CI Y v k).cps.length=Y.cps.length
 |0=>⟨rfl,rfl,rfl,rfl⟩
 |k+1=>by
  rw[DA];obtain⟨h1,h2,h3,h4⟩:=Gd v (CI Y v k) k;obtain⟨q1,q2,q3,q4⟩:=Gc Y v k;exact⟨h1.trans q1,h2.trans q2,h3.trans q3,h4.trans q4⟩
theorem I8{v:Int}{Y:Bk}{i:Nat}(hP:Cf Y):Cf (BO v Y i):=by
 unfold BO;split
 ·split
  ·exact⟨hP.names,λc hc hs=>by
    rcases List.mem_or_eq_of_mem_set hc with h|h
    ·exact hP.waits c h hs
    ·rw[h]at hs;exact absurd hs (by simp),hP.uB⟩
  ·exact hP
 ·exact hP
theorem FU{Y:Bk}(hP:Cf Y)(v:Int):∀k,Cf (CI Y v k)
 |0=>hP
 |k+1=>by rw[DA];exact I8 (FU hP v k)
theorem Em{Y:Bk}(hP:Cf Y)(v:Int)(ho:At Y Y.bts.length=[]):∀k,CI Y v k=Y
 |0=>rfl
 |k+1=>by rw[DA,Em hP v ho k];exact Kf hP.names ho
theorem BkVar.only{w w':World}{N A b:Nat}{B:Bk}{a1 a2 a3:Option Addr}{k1 k2 k3:Nat}{t:TypeId}{cs:Array Value}{fr:Nat × Nat}(h:BkVar w N A B a1 a2 a3 k1 k2 k3)(on:BA b w w')(hb:w.heap[b]?=some (.cells cs t fr))(h0:t≠27)(h1:t≠29)(h2:t≠49)(h3:t≠51):BkVar w' N A B a1 a2 a3 k1 k2 k3:=
 ⟨h.lo,(on.other A (λe=>by
  have hx:=h.box;rw[e,hb]at hx;injection hx with hx
  injection hx with _ hx
  exact h0 hx)).trans h.box,h.rows.only on hb h1 h2 h3⟩
theorem Tryz.infosIntsP:(Tryz.prog.info? 44).map (·.size)=some 1:=by kernel_rfl
theorem OR(X:Bk)(N A:Nat)(a1 a2 a3:Option Addr)(k1 k2 k3:Nat)(w:World)(hF:Fit X)(hP:Cf X)(hN:N<=w.heap.size)(hV:BkVar w N A X a1 a2 a3 k1 k2 k3):
  Calls Tryz.prog 71 #[.agg #[.pointer (some ⟨A,0,none⟩)]] w λe w'=>e=.returned (.tuple #[])/\BkVar w' N A (CI X X.now X.cps.length) a1 a2 a3 k1 k2 k3/\Below N w w':=by
 have hl2:=hF.l2;have hl3:=hF.l3;have hAl:=(AB hV.box).1;obtain⟨W0,hW0⟩:∃W,w.alloc (.cells #[.pointer (some ⟨A,0,none⟩)] 90)=W:=⟨_,rfl⟩;have hb0:=AM w (.cells #[.pointer (some ⟨A,0,none⟩)] 90);have E0:Hid (W0.heap[w.heap.size]?=some (.cells #[.pointer (some ⟨A,0,none⟩)] 90 (0,0))):=by unfold Hid;rw[<-hW0];exact heap_alloc_new w (.cells #[.pointer (some ⟨A,0,none⟩)] 90)
 rw[hW0]at hb0;have hz0:=(AB E0.out).1;have V0:=Ah (hV.below hb0)
 skip
 have A0:Hid (W0.heap[A]?=some (.cells #[.int .i64 X.now,.slice a1 X.svcs.length k1,.slice a2 X.cps.length k2,.slice a3 X.bts.length k3] 27 (0,0))):=V0.out.box;have q0:=AJ E0.out 0 rfl;have e0:=AJ A0.out 0 rfl;have e1:=AJ A0.out 1 rfl;have e2:=AJ A0.out 2 rfl;have e3:=AJ A0.out 3 rfl;clear hV;go_enter Tryz.func71,Tryz.ntmps71
 go_upto_region 1 with fail
 clear hW0
 go_wp2_with fail
 refine(KY X a1 a2 a3 k1 k2 k3 W0 hF V0.out.rows.at).mono ?_;rintro e w1 ⟨gs,rfl,hgs,hr1,hb1⟩;have R1:Hid (RowIs w1 3 1 gs X.bts.length X.bts.length (CS (Ar X X.cps.length))):=hr1;have hgl1:=hr1.lt;obtain⟨W2,hW2⟩:∃W,w1.alloc (.cells #[.slice none 0 0] 44)=W:=⟨_,rfl⟩;have hb2:=AM w1 (.cells #[.slice none 0 0] 44);obtain⟨sv,hsv⟩:∃q,w1.heap.size=q:=⟨_,rfl⟩;have S2:Hid (W2.heap[sv]?=some (.cells #[.slice none 0 0] 44 (0,0))):=by unfold Hid;rw[<-hW2,<-hsv];exact heap_alloc_new w1 (.cells #[.slice none 0 0] 44)
 rw[hW2]at hb2;have hsv1:w1.heap.size<=sv:=by omega
 have hsv2:sv<=w1.heap.size:=by omega
 clear hr1 q0 e0 e1 e2 e3
 go_upto_region 2 with(refine Ai rfl 44 (.tmp 2) (.tmp 13) rfl sv 0 (.slice (some ⟨gs,0,none⟩) X.bts.length X.bts.length) rfl rfl Tryz.infosIntsP rfl rfl 44 #[.slice none 0 0] S2.out (AD rfl) ?_;intro w3 hz on;have S3:Hid (w3.heap[sv]?=some (.cells #[.slice (some ⟨gs,0,none⟩) X.bts.length X.bts.length] 44 (0,0))):=hz;have hb3:=hb2.trans (on.below.mono' hsv1);clear hz on)
 clear hW2 hsv S2 hb2;have hbB:Below W0.heap.size W0 w3:=hb1.trans (hb3.mono' hb1.size);have V3:=Ah (V0.out.below hbB);have E3:Hid (w3.heap[w.heap.size]?=some (.cells #[.pointer (some ⟨A,0,none⟩)] 90 (0,0))):=AK hbB E0.out hz0;have A3:Hid (w3.heap[A]?=some (.cells #[.int .i64 X.now,.slice a1 X.svcs.length k1,.slice a2 X.cps.length k2,.slice a3 X.bts.length k3] 27 (0,0))):=V3.out.box;have R3:Hid (RowIs w3 3 1 gs X.bts.length X.bts.length (CS (Ar X X.cps.length))):=R1.out.below hb3 hgl1;have hbw3:=hb0.trans (hbB.mono hb0.size);have hz3:=(AB S3.out).1;have q0:=AJ E3.out 0 rfl;have e0:=AJ A3.out 0 rfl;have e1:=AJ A3.out 1 rfl;have e2:=AJ A3.out 2 rfl;have e3:=AJ A3.out 3 rfl;have hszE:w.heap.size<W0.heap.size:=hz0;have hb1s:=hb1.size;clear hb1 hb3 R1 V0 E0 A0 hbB
 go_wp2_with fail
 refine(JL X a1 a2 a3 k1 k2 k3 w3 hF V3.out.rows.at).mono ?_;rintro e w4 ⟨ao,n,cap,rfl,hn4,hr4,hb4⟩;obtain⟨M,hM⟩:∃q,w3.heap.size=q:=⟨_,rfl⟩;rw[hM]at hr4;have hM1:w3.heap.size<=M:=by omega
 have hgM:gs<M:=by omega
 have HN4:Hid (n=(At X X.bts.length).length):=hn4;have hn1:n<=1000:=by rw[hn4];have:=JK X X.bts.length;omega
 have O4:=Ay hr4;have V4:=Ah (V3.out.below hb4);have E4:Hid (w4.heap[w.heap.size]?=some (.cells #[.pointer (some ⟨A,0,none⟩)] 90 (0,0))):=AK hb4 E3.out (by omega);have A4:Hid (w4.heap[A]?=some (.cells #[.int .i64 X.now,.slice a1 X.svcs.length k1,.slice a2 X.cps.length k2,.slice a3 X.bts.length k3] 27 (0,0))):=V4.out.box;have S4:Hid (w4.heap[sv]?=some (.cells #[.slice (some ⟨gs,0,none⟩) X.bts.length X.bts.length] 44 (0,0))):=AK hb4 S3.out hz3;have R4:Hid (RowIs w4 3 1 gs X.bts.length X.bts.length (CS (Ar X X.cps.length))):=R3.out.below hb4 R3.out.lt;have hbw4:Below N w w4:=(hbw3.trans (hb4.mono hbw3.size)).mono' hN;have hsvw:w.heap.size<sv:=by omega
 clear hn4 hr4 hM q0 e0 e1 e2 e3 V3 E3 A3 S3 R3 hbw3 hz3 hb4;have q0:=AJ E4.out 0 rfl;have e2:=AJ A4.out 2 rfl
 go_upto_region 4 with fail
 clear q0 e2 A4;go_wp2
 go_loopw [27] (λiv wr=>∃k:Nat,k<=X.cps.length/\iv=.int .i64 k/\Hid (wr.heap[w.heap.size]?=some (.cells #[.pointer (some ⟨A,0,none⟩)] 90 (0,0)))/\Hid (BkVar wr N A (CI X X.now k) a1 a2 a3 k1 k2 k3)/\Hid (wr.heap[sv]?=some (.cells #[.slice (some ⟨gs,0,none⟩) X.bts.length X.bts.length] 44 (0,0)))/\Hid (RowIs wr 3 1 gs X.bts.length X.bts.length (CS (Ar (CI X X.now k) X.cps.length)))/\Hid (RowN wr M 3 1 ao n cap (CS (Fu (At X X.bts.length))))/\Below N w wr) (λi _=>X.cps.length - (intOf i).toNat)
 case atStart=>exact⟨0,by omega,rfl,E4,V4,S4,R4,O4,hbw4⟩
 case round=>
  clear E4 V4 S4 R4 O4 hbw4;obtain⟨k,hk,rfl,E5,V5,S5,R5,O5,hb5⟩:=hrel;obtain⟨Y,HY⟩:∃Y,Hid (CI X X.now k=Y):=⟨_,rfl⟩;rw[HY.out]at V5 R5;have HYP:Hid (Cf Y):=by unfold Hid;rw[<-HY.out];exact FU hP X.now k
  have HYS:Hid (Y.now=X.now/\Y.svcs=X.svcs/\Y.bts=X.bts/\Y.cps.length=X.cps.length):=by unfold Hid;rw[<-HY.out];exact Gc X X.now k
  have A5:Hid (wr.heap[A]?=some (.cells #[.int .i64 X.now,.slice a1 X.svcs.length k1,.slice a2 X.cps.length k2,.slice a3 X.bts.length k3] 27 (0,0))):=by have h:=V5.out.box;rw[HYS.out.1,HYS.out.2.1,HYS.out.2.2.1,HYS.out.2.2.2]at h;exact h
  by_cases hlt:k<X.cps.length
  ·obtain⟨c,hc⟩:∃c,Y.cps[k]?=some c:=⟨Y.cps[k]'(by rw[HYS.out.2.2.2];exact hlt),by rw[List.getElem?_eq_getElem]⟩
   have HC:Hid (Y.cps[k]?=some c):=hc;obtain⟨g,ea,hNg,hr⟩:=V5.out.rows.cps.some (by rw[HYS.out.2.2.2];omega);have HEA:Hid (a2=some ⟨g,0,none⟩):=ea;have HR:Hid (RowIs wr 49 7 g X.cps.length k2 (As Y.cps)):=by have h:=hr;rw[HYS.out.2.2.2]at h;exact h
   have hcap:=HR.out.2.1;have hgl:=hr.lt;have q0:=AJ E5.out 0 rfl;have e2:wr.cell? ⟨A,2,none⟩=some (.slice (some ⟨g,0,none⟩) X.cps.length k2):=by have h:=AJ A5.out 2 rfl;rw[ea]at h;exact h
   have y4:=HR.out.cell (AT (c:=Cp.cells) (n:=7) (λ_=>rfl) Y.cps k c 4 (.int .i64 c.state) hc rfl);have hfit:k*7+7<=X.cps.length*7:=by omega
   clear hc hr ea
   by_cases hst:c.state=1
   ·have hs1:(c.state !=1)=false:=by simp[hst]
    have HST:Hid (c.state=1):=hst;clear hst
    go_upto_region 8 with fail
    clear y4;have HOL:Hid ((At X X.bts.length).length=n):=HN4.out.symm;have HLL:Hid ((Ar Y X.cps.length).length=X.bts.length):=by unfold Hid Ar;rw[List.length_map,HYS.out.2.2.1]
    obtain⟨at',HAT⟩:∃q:Nat,Hid (D2 (λi=>(Ar Y X.cps.length).getD i 0) (At X X.bts.length)=q):=⟨_,rfl⟩;have hcall:=Kt (Ar Y X.cps.length) (At X X.bts.length) ao n cap M sv gs X.bts.length wr HOL hn1 O5.out S5.out R5.out (λi hi=>by rw[HLL.out];exact(JJ hi).1)
    try simp only[bkV]at hcall
    rw[HAT.out]at hcall
    by_cases hn0:0<n
    ·rw[show decide (0<n)=true by simp[hn0]]at hcall
     have HON:Hid (At Y Y.bts.length≠[]):=by unfold Hid;rw[HYS.out.2.2.1,FW HYS.out.2.2.1];intro h;have:=congrArg List.length h;rw[HOL.out]at this;simp at this;omega
     obtain⟨t,ht,hpl⟩:=Kg (v:=X.now) HYP.out HC.out HST.out HON.out
     have HF:Hid (D2 (G7 Y) (At Y Y.bts.length)=at'):=by
      unfold Hid;rw[<-HAT.out,HYS.out.2.2.1,FW HYS.out.2.2.1];unfold G7;rw[HYS.out.2.2.2]
     rw[HF.out]at ht;have HT:Hid (X.bts[at']?=some t):=by unfold Hid;rw[<-HYS.out.2.2.1];exact ht
     have hatl:at'<X.bts.length:=(AC HT.out).1;have HY1:Hid (CI X X.now (k+1)={Y with cps:=Y.cps.set k {c with state:=2,berth:=t.name,version:=X.now}}):=by unfold Hid;rw[DA,HY.out];exact hpl
     obtain⟨x,hx⟩:∃x,Bs Y t.name=x:=⟨_,rfl⟩;have hxi:=F9 Y t.name Y.cps.length;rw[show CH Y t.name Y.cps.length=x from hx,HYS.out.2.2.2]at hxi;have hx0:=hxi.1;have hx1:=hxi.2
     have HLI:Hid ((Ar Y X.cps.length)[at']?=some x):=by
      unfold Hid Ar;rw[List.getElem?_map,ht,Option.map_some,<-HYS.out.2.2.2];exact congrArg some hx
     have HSL:Hid (Ar {Y with cps:=Y.cps.set k {c with state:=2,berth:=t.name,version:=X.now}} X.cps.length=(Ar Y X.cps.length).set at' (x+1)):=by
      unfold Hid;have h:=MP (d:={c with state:=2,berth:=t.name,version:=X.now}) HYP.out HC.out HST.out ht rfl;rw[List.length_set,HYS.out.2.2.2,hx]at h;exact h
     clear ht hpl hxi hx
     go_wp2_with fail
     refine hcall.mono ?_;clear hcall;rintro e w6 ⟨rfl,hbq⟩;have V6:=Ah (V5.out.below hbq);have E6:Hid (w6.heap[w.heap.size]?=some (.cells #[.pointer (some ⟨A,0,none⟩)] 90 (0,0))):=AK hbq E5.out (AB E5.out).1;have A6:Hid (w6.heap[A]?=some (.cells #[.int .i64 X.now,.slice a1 X.svcs.length k1,.slice a2 X.cps.length k2,.slice a3 X.bts.length k3] 27 (0,0))):=AK hbq A5.out (AB A5.out).1;have S6:Hid (w6.heap[sv]?=some (.cells #[.slice (some ⟨gs,0,none⟩) X.bts.length X.bts.length] 44 (0,0))):=AK hbq S5.out (AB S5.out).1;have R6:Hid (RowIs w6 3 1 gs X.bts.length X.bts.length (CS (Ar Y X.cps.length))):=R5.out.below hbq R5.out.lt;have O6:Hid (RowN w6 M 3 1 ao n cap (CS (Fu (At X X.bts.length)))):=O5.out.below hbq;have HR6:Hid (RowIs w6 49 7 g X.cps.length k2 (As Y.cps)):=HR.out.below hbq hgl;have hb6:Below N w w6:=hb5.trans (hbq.mono' (by have:=hb5.size;omega));have hb5s:=hb5.size;have hb6s:=hbq.size;clear q0 e2 hbq V5 E5 A5 S5 R5 O5 HR hb5;have s0:=AJ S6.out 0 rfl;have z0:w6.cell? ⟨gs,at',none⟩=some (.int .i64 x):=R6.out.cell (FR HLI.out)
     go_upto_region 11 with(refine B7 rfl 3 (.tmp 56) (.tmp 55) rfl gs at' (.int .i64 (x+1)) rfl rfl Tryz.infosIntP rfl rfl 3 1 X.bts.length X.bts.length _ R6.out (by omega) ?_;intro w7 hr on;have R7:Hid (RowIs w7 3 1 gs X.bts.length X.bts.length (CS ((Ar Y X.cps.length).set at' (x+1)))):=(by have h:=hr.out;rw[LU _ at' (x+1) (by rw[HLL.out];exact hatl)]at h;exact h);have HO7:Hid (BA gs w6 w7):=on;clear hr on)
     obtain⟨curS,hcS⟩:∃cur,w6.heap[gs]?=some (.cells cur 3 (0,0)):=by obtain⟨_,_,cur,h,_⟩:=R6.out;exact⟨cur,h⟩
     have V7:=Ah (V6.out.only HO7.out hcS (by decide) (by decide) (by decide) (by decide));have hneE:w.heap.size≠gs:=by omega
     have hneA:A≠gs:=λe=>by rw[<-e,A6.out]at hcS;cases hcS
     have hneS:sv≠gs:=λe=>by rw[<-e,S6.out]at hcS;cases hcS
     have E7:Hid (w7.heap[w.heap.size]?=some (.cells #[.pointer (some ⟨A,0,none⟩)] 90 (0,0))):=(HO7.out.other _ hneE).trans E6.out;have A7:Hid (w7.heap[A]?=some (.cells #[.int .i64 X.now,.slice a1 X.svcs.length k1,.slice a2 X.cps.length k2,.slice a3 X.bts.length k3] 27 (0,0))):=(HO7.out.other _ hneA).trans A6.out;have S7:Hid (w7.heap[sv]?=some (.cells #[.slice (some ⟨gs,0,none⟩) X.bts.length X.bts.length] 44 (0,0))):=(HO7.out.other _ hneS).trans S6.out;have O7:Hid (RowN w7 M 3 1 ao n cap (CS (Fu (At X X.bts.length)))):=O6.out.blk λq cs fr hq _=>HO7.out.other q (by omega)
     have HR7:Hid (RowIs w7 49 7 g X.cps.length k2 (As Y.cps)):=HR6.out.blk (HO7.out.other g (λe=>by obtain⟨_,_,cur,h,_⟩:=HR6.out;rw[e,hcS]at h;cases h));have hb7:Below N w w7:=hb6.trans (HO7.out.below.mono' (by omega));have hs7:=HO7.out.size;have hs7':w7.heap.size<=w6.heap.size:=by omega
     have hs7'':w6.heap.size<=w7.heap.size:=by omega
     obtain⟨g3,ea3,_,hr3⟩:=V7.out.rows.bts.some (by rw[HYS.out.2.2.1];omega);have z3:w7.cell? ⟨g3,at'*2,none⟩=some (.string t.name):=hr3.cell (AT (c:=Bt.cells) (n:=2) (λ_=>rfl) Y.bts at' t 0 (.string t.name) (by rw[HYS.out.2.2.1];exact HT.out) rfl);have hcap3:=hr3.2.1;rw[HYS.out.2.2.1]at hcap3;have q0:=AJ E7.out 0 rfl;have e3:w7.cell? ⟨A,3,none⟩=some (.slice (some ⟨g3,0,none⟩) X.bts.length k3):=by have h:=AJ A7.out 3 rfl;rw[ea3]at h;exact h
     have HCN:Hid (k<Y.cps.length):=by unfold Hid;rw[HYS.out.2.2.2];exact hlt
     clear hs7 s0 z0 hcS hr3 ea3 V6 E6 A6 S6 R6 O6 HR6 hb6 HO7 hneE hneA hneS
     go_upto_region 12 with(refine B7 rfl 9 (.tmp 69) (.tmp 67) rfl g _ (.string t.name) rfl rfl Tryz.infosStrX rfl rfl 49 7 X.cps.length k2 _ HR7.out (by omega) ?_;intro w8 hr on;have HR8:Hid (RowIs w8 49 7 g X.cps.length k2 (As (Y.cps.set k {c with berth:=t.name}))):=(by have h:=hr.out;rw[show splice (As Y.cps) (k*7+6) [.string t.name]=As (Y.cps.set k {c with berth:=t.name}) from Cb (c:=Cp.cells) (n:=7) (λ_=>rfl) Y.cps k 6 c {c with berth:=t.name} _ HC.out (by omega) rfl]at h;exact h);have HO8:Hid (BA g w7 w8):=on;clear hr on)
     obtain⟨curC,hcC⟩:∃cur,w7.heap[g]?=some (.cells cur 49 (0,0)):=by obtain⟨_,_,cur,h,_⟩:=HR7.out;exact⟨cur,h⟩
     have hneE:w.heap.size≠g:=λe=>by rw[<-e,E7.out]at hcC;cases hcC
     have hneA:A≠g:=λe=>by rw[<-e,A7.out]at hcC;cases hcC
     have hneS:sv≠g:=λe=>by rw[<-e,S7.out]at hcC;cases hcC
     have hneG:gs≠g:=λe=>by obtain⟨_,_,cur,h,_⟩:=R7.out;rw[e,hcC]at h;cases h
     have E8:Hid (w8.heap[w.heap.size]?=some (.cells #[.pointer (some ⟨A,0,none⟩)] 90 (0,0))):=(HO8.out.other _ hneE).trans E7.out;have A8:Hid (w8.heap[A]?=some (.cells #[.int .i64 X.now,.slice a1 X.svcs.length k1,.slice a2 X.cps.length k2,.slice a3 X.bts.length k3] 27 (0,0))):=(HO8.out.other _ hneA).trans A7.out;have S8:Hid (w8.heap[sv]?=some (.cells #[.slice (some ⟨gs,0,none⟩) X.bts.length X.bts.length] 44 (0,0))):=(HO8.out.other _ hneS).trans S7.out;have R8:Hid (RowIs w8 3 1 gs X.bts.length X.bts.length (CS ((Ar Y X.cps.length).set at' (x+1)))):=R7.out.blk (HO8.out.other _ hneG);have O8:Hid (RowN w8 M 3 1 ao n cap (CS (Fu (At X X.bts.length)))):=O7.out.only HO8.out hcC (by decide);have HRO8:Hid (RowOnly a2 N w7 w8):=⟨λq _ hne=>HO8.out.other q (λe=>hne (by rw[HEA.out,e])),by have:=HO8.out.size;omega,HO8.out.below.mono' hNg⟩;have q0':=AJ E8.out 0 rfl;clear q0 e3 z3 S7 R7 O7 E7 A7 HR7
     go_wp2_with fail
     refine(GR X.now 2 A g k X.cps.length k2 (.slice a1 X.svcs.length k1) (.slice a2 X.cps.length k2) (.slice a3 X.bts.length k3) (Y.cps.set k {c with berth:=t.name}) {c with berth:=t.name} w8 A8.out HR8.out (by rw[List.length_set];exact HYS.out.2.2.2) (List.getElem?_set_self HCN.out)).mono ?_;rintro e w9 ⟨rfl,hr9,hkp9,hb9⟩;have HKP:Hid _:=hkp9;have R9:Hid (RowIs w9 49 7 g X.cps.length k2 (As (Y.cps.set k {c with state:=2,berth:=t.name,version:=X.now}))):=by have h:=hr9;rw[List.set_set]at h;exact h
     have hs9:=hb9.size;have HRO9:Hid (RowOnly a2 N w7 w9):=⟨λq hq hne=>(HKP.out q (by have:=HRO8.out.size;omega) (λe=>hne (by rw[HEA.out,e]))).trans (HRO8.out.block q hq hne),AH HRO8.out.size hs9,HRO8.out.below.trans (hb9.mono' hNg)⟩;have hs8:w7.heap.size<=w8.heap.size:=HRO8.out.size;have E9:Hid (w9.heap[w.heap.size]?=some (.cells #[.pointer (some ⟨A,0,none⟩)] 90 (0,0))):=(HKP.out _ (AB E8.out).1 hneE).trans E8.out;have S9:Hid (w9.heap[sv]?=some (.cells #[.slice (some ⟨gs,0,none⟩) X.bts.length X.bts.length] 44 (0,0))):=(HKP.out _ (AB S8.out).1 hneS).trans S8.out;have R9s:Hid (RowIs w9 3 1 gs X.bts.length X.bts.length (CS (Ar {Y with cps:=Y.cps.set k {c with state:=2,berth:=t.name,version:=X.now}} X.cps.length))):=by unfold Hid;rw[HSL.out];exact R8.out.blk (HKP.out _ R8.out.lt hneG)
     have O9:Hid (RowN w9 M 3 1 ao n cap (CS (Fu (At X X.bts.length)))):=O8.out.blk λq cs fr _ hq=>HKP.out q (AB hq).1 (λe=>by obtain⟨_,_,cur,h,_⟩:=HR8.out;rw[e,h]at hq;cases hq)
     have V9:Hid (BkVar w9 N A {Y with cps:=Y.cps.set k {c with state:=2,berth:=t.name,version:=X.now}} a1 a2 a3 k1 k2 k3):=by
      have hB:=V7.out.rows;refine⟨V7.out.lo,?_,hB.svcs.rowOnly HRO9.out hB.cps (by decide),?_,hB.bts.rowOnly HRO9.out hB.cps (by decide)⟩
      ·have h:=(HRO9.out.block A (AB V7.out.box).1 (λe=>hneA (by rw[HEA.out]at e;cases e;rfl))).trans V7.out.box
       simpa using h
      ·exact .inr ⟨g,HEA.out,hNg,by have h:=R9.out;rw[<-HYS.out.2.2.2]at h;simpa using h⟩
     have hb9N:Below N w w9:=hb7.trans HRO9.out.below;clear hkp9 hr9 q0' hb9 HKP HRO8 HRO9 V7 E8 A8 S8 R8 O8 HR8 HO8 hcC R9;go_wp2
     go_roundw
     case rel=>exact⟨k+1,by omega,by go_num,E9,by unfold Hid;rw[HY1.out];exact V9.out,S9,by unfold Hid;rw[HY1.out];exact R9s.out,O9,hb9N⟩
     case measure=>simp[intOf];omega
    ·rw[show decide (0<n)=false by simp[hn0]]at hcall
     have HO0:Hid (At X X.bts.length=[]):=List.length_eq_zero_iff.1 (by rw[HOL.out];omega);have HYE:Hid (CI X X.now X.cps.length=Y):=by unfold Hid;rw[<-HY.out,Em hP X.now HO0.out,Em hP X.now HO0.out]
     go_wp2_with fail
     refine hcall.mono ?_;clear hcall;rintro e w6 ⟨rfl,hbq⟩;have V6:=Ah (V5.out.below hbq);have hb6:Below N w w6:=hb5.trans (hbq.mono' (by have:=hb5.size;omega));clear q0 e2 hbq;go_wp2;exact bodyPost_ret (v:=.tuple #[]) (by simp[results,Tryz.results71,go_sem]) rfl ⟨rfl,by rw[HYE.out];exact V6.out,hb6⟩
   ·have hs1:(c.state !=1)=true:=by simpa using hst
    have HY1:Hid (CI X X.now (k+1)=Y):=by unfold Hid;rw[DA,HY.out];exact Jk HC.out hst
    clear hst;go_wp2
    go_roundw
    case rel=>exact⟨k+1,by omega,by go_num,E5,by unfold Hid;rw[HY1.out];exact V5.out,S5,by unfold Hid;rw[HY1.out];exact R5.out,O5,hb5⟩
    case measure=>simp[intOf];omega
  ·have HKE:Hid (k=X.cps.length):=by unfold Hid;omega
   go_wp2;exact Go.Great.bodyPost_end0 rfl rfl ⟨rfl,by rw[<-HKE.out,HY.out];exact V5.out,hb5⟩
end
section
open Go.RowKit
section
variable {P:Program}
theorem Ji{z:Array Value}(h:∀u∈z,u.oneCell'=true)(n:Nat):∀u∈(Builtin.zeroCells z n).toList,u.oneCell'=true:=λu hu=>by
 unfold Builtin.zeroCells at hu;rw[Array.mem_toList_iff,Array.mem_map]at hu;obtain⟨i,hi,rfl⟩:=hu;have hlt:i<n*z.size:=by simpa using hi
 have hp:0<z.size:=by
  rcases Nat.eq_zero_or_pos z.size with h0|h0
  ·rw[h0]at hlt;simp at hlt
  ·exact h0
 have hm:=Nat.mod_lt i hp;rw[getElem!_pos z _ hm];exact h _ (Array.getElem_mem hm)
theorem Dq{ops:Array Oper}{rest:List Oper}{o:Oper}{a:Act}{w:World}{Q:Exit->Act->World->Prop}(hgd:o.guard=none)(x:Operand)(t:TypeId)
  (ho:o.op=.call {callee:=.builtin .clear,args:=#[x],argTypes:=#[t]}) (e:TypeId) (z:Value) (size bytes:Nat) (ht:P.underlying t=some (.slice e)) (hinfo:(P.info? e).map (λi=>(i.zero,i.size,i.bytes))=some (some z,size,bytes)) (hzs:z.cells.size=size) (hz1:∀u∈z.cells,u.oneCell'=true)
  (g off m c:Nat) (hx:a.eval x=.slice (some ⟨g,off,none⟩) m c) (cur:Array Value) (ty:TypeId) (hg:w.heap[g]?=some (.cells cur ty (0,0))) (hfit:m≠0->off+m*size<=cur.size)
  (h:∀cur' w',Hid (w'.heap[g]?=some (.cells cur' ty (0,0)))->Hid (cur'.size=cur.size/\∀q,(m≠0->q<=off)->cur'.toList.take q=cur.toList.take q)->BA g w w'->wpList P ops Q rest (a.put o.dst (.tuple #[])) w'):wpList P ops Q (o::rest) a w:=by
 obtain⟨i,hi,hz,hs',hb⟩:=info_parts hinfo;refine wpList_plain hgd λK hK=>?_
 by_cases h0:m=0
 ·subst h0
  have hr:(Builtin.clear_ #[t] o.type #[.slice (some ⟨g,off,none⟩) 0 c]).run P w=.ok (.tuple #[]) w:=by simp[Builtin.clear_,run_underlying ht]
  unfold Oper.wp execOp;simp only[ho,resolve,invoke,builtin,Sem.run_bind,Sem.run_pure,Result.andThen_ok,List.map_toArray,List.map_cons,List.map_nil,hx,hr];exact hK _ _ (h cur w hg ⟨rfl,λ_ _=>rfl⟩ ⟨λ_ _=>rfl,Below.refl _ _,rfl⟩)
 ·have hlen:(Builtin.zeroCells z.cells m).toList.length=m*size:=by rw[Array.length_toList,size_zeroCells,hzs]
  have hst:=run_storeCells_at P g off ty (Builtin.zeroCells z.cells m).toList 0 cur w hg (by rw[hlen];simpa using hfit h0) (Ji hz1 m)
  have hr:(Builtin.clear_ #[t] o.type #[.slice (some ⟨g,off,none⟩) m c]).run P w=.ok (.tuple #[]) (w.setRow g (splice cur.toList off (Builtin.zeroCells z.cells m).toList).toArray):=by
   simp only[Nat.add_zero,List.append_assoc]at hst
   cases m with
   |zero=>exact absurd rfl h0
   |succ m=>simp[Builtin.clear_,run_underlying ht,zeroValue,typeInfo,hi,hz,hst,splice]
  unfold Oper.wp execOp;simp only[ho,resolve,invoke,builtin,Sem.run_bind,Sem.run_pure,Result.andThen_ok,List.map_toArray,List.map_cons,List.map_nil,hx,hr];have hfl:off+(Builtin.zeroCells z.cells m).toList.length<=cur.toList.length:=by rw[hlen,Array.length_toList];exact hfit h0
  refine hK _ _ (h _ _ (setRow_heap w g cur _ ty _ hg) ⟨?_,λq hq=>?_⟩ (C2 w g _))
  ·rw[List.size_toArray,length_splice _ _ _ hfl,Array.length_toList]
  ·show(splice cur.toList off (Builtin.zeroCells z.cells m).toList).take q=_
   unfold splice;rw[List.take_append_of_le_length (by rw[List.length_take];have:=hq h0;omega),List.take_take,Nat.min_eq_left (hq h0)]
end
theorem RowIs.take{α:Type}{w:World}{e:TypeId}{size g n cap i:Nat}{c:α->List Value}{l:List α}(h:RowIs w e size g n cap (l.flatMap c))(hc:∀s,(c s).length=size)(hl:l.length=n)(hi:i<=n):RowIs w e size g i cap ((l.take i).flatMap c):=by
 obtain⟨h1,h2,cur,h3,h4,h5⟩:=h;refine⟨by rw[DV hc,List.length_take,Nat.min_eq_left (by omega)],by omega,cur,h3,h4,?_⟩
 have ft:∀(l:List α) (i:Nat),(l.take i).flatMap c=(l.flatMap c).take (i*size):=λl=>by
  induction l with
  |nil=>intro i;simp
  |cons x l ih=>
   intro i
   cases i with
   |zero=>simp
   |succ i=>
    have e:(i+1)*size - size=i*size:=by rw[Nat.succ_mul];omega
    have e2:(c x).take ((i+1)*size)=c x:=List.take_of_length_le (by rw[hc,Nat.succ_mul];omega);rw[List.take_succ_cons,List.flatMap_cons,List.flatMap_cons,ih i,List.take_append,e2,hc,e]
 rw[ft,<-h5,List.take_take,Nat.min_eq_left (Nat.mul_le_mul_right _ hi)]
section
variable {P:Program}
theorem Gy{ops:Array Oper}{rest:List Oper}{o:Oper}{a:Act}{w:World}{Q:Exit->Act->World->Prop}(hgd:o.guard=none)(s x:Operand)(t:TypeId)
  (ho:o.op=.call {callee:=.builtin .append,args:=#[s,x],argTypes:=#[t,t]})
  (e:TypeId) (z:Value) (size bytes:Nat) (ht:P.underlying t=some (.slice e)) (hinfo:(P.info? e).map (λi=>(i.zero,i.size,i.bytes))=some (some z,size,bytes))
  (g n cap:Nat) (xs:List Value) (hs:a.eval s=.slice (some ⟨g,0,none⟩) n cap) (hrow:RowIs w e size g n cap xs)
  (ad:Addr) (m c:Nat) (news:List Value) (hx:a.eval x=.slice (some ad) m c) (hl:news.length=m*size) (hnews:∀j u,news[j]?=some u->w.cell? (ad.add j)=some u) (h1:∀u∈news,u.oneCell'=true) (hroom:n+m<=cap)
  (h:∀w',Hid (RowIs w' e size g (n+m) cap (xs++news))->BA g w w'->wpList P ops Q rest (a.put o.dst (.slice (some ⟨g,0,none⟩) (n+m) cap)) w'):wpList P ops Q (o::rest) a w:=by
 obtain⟨i,hi,hz,hs',hb⟩:=info_parts hinfo;subst hs' hb;obtain⟨hxl,hnc,cur,hg,hcs,htake⟩:=hrow;have hlen:(xs++news).length=(n+m)*i.size:=by rw[List.length_append,hxl,hl,Nat.add_mul]
 have hfit:n*i.size+news.length<=cur.size:=by rw[hl,hcs,<-Nat.add_mul];exact Nat.mul_le_mul_right _ hroom
 have hr:=run_append_room (P:=P) w t o.type e i ht hi g n cap cur hg ad m c news hl hnews h1 hroom hfit;refine wpList_plain hgd λK hK=>?_
 unfold Oper.wp execOp;simp only[ho,resolve,invoke,builtin,Sem.run_bind,Sem.run_pure,Result.andThen_ok,List.map_toArray,List.map_cons,List.map_nil,hs,hx,hr];refine hK _ _ (h _ ⟨hlen,hroom,_,setRow_heap w g cur _ e _ hg,?_,?_⟩ (C2 w g _))
 ·simp only[List.size_toArray,List.length_append,List.length_take,List.length_drop,Array.length_toList]
  omega
 ·rw[htake,<-hlen]
  exact List.take_left
end
end
end Go.Proofs.YtbceafpodamnfaaGreat
