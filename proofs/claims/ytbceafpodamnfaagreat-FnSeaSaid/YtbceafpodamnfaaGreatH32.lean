import Derived.Test.YtbceafpodamnfaaGreatH07
import Derived.Test.YtbceafpodamnfaaGreatH31
import Derived.Great.Walk
import Derived.Lib.AppendZeros
import Derived.Lib.Overlaps
import Derived.Laws.Externs
set_option linter.all false
set_option maxHeartbeats 16000000
set_option maxRecDepth 100000
namespace Go.Proofs.YtbceafpodamnfaaGreat
section
open Go.RowKit Go.Sort Go.Maps
def fstI{α:Type}(o:Option (Nat × α)):Int:=match o with|some p=>(p.1:Int)|none=>0
theorem Ec{α:Type}{p:α->Bool}{l:List α}(h:Bn p l=none):∀x∈l,p x≠true:=λx hx hp=>by
 have:=NG h;have h2:=Lu p l;rw[this]at h2;have h3:l.any p=true:=List.any_eq_true.2 ⟨x,hx,hp⟩;rw[h3]at h2;simp at h2
theorem KL(B:Bk)(nm:ByteArray)(A:Nat)(a1 a2 a3:Option Addr)(c1 c2 c3:Nat)(w:World)(hS:B.small)(hZ:B.sized)(hU:FK B)(hUB:Hr B)(hnm:nm.size<=maxLen)(hA:w.heap[A]?=some (.cells #[.int .i64 B.now,.slice a1 B.svcs.length c1,.slice a2 B.cps.length c2,.slice a3 B.bts.length c3] 27 (0,0)))(hB:BkAt w a1 a2 a3 B):
  Calls Tryz.prog 72 #[.agg #[.pointer (some ⟨A,0,none⟩)],.int .i64 1,.string nm] w λe w'=>e=.returned (.tuple #[.int .i64 (fstI (Bn (λt:Svc=>t.name.toList==nm.toList) B.svcs)),.bool (Bn (λt:Svc=>t.name.toList==nm.toList) B.svcs).isSome])/\Below w.heap.size w w':=by
 have hAl:=(AB hA).1;obtain⟨W0,hW0⟩:∃W,w.alloc (.cells #[.pointer (some ⟨A,0,none⟩)] 66)=W:=⟨_,rfl⟩;have hb0:=AM w (.cells #[.pointer (some ⟨A,0,none⟩)] 66);have T0:Hid _:=heap_alloc_new w (.cells #[.pointer (some ⟨A,0,none⟩)] 66);rw[hW0]at hb0 T0;have A0:Hid _:=AK hb0 hA hAl;have hz0:=(AB T0.out).1;have q0:=AJ T0.out 0 rfl;have e0:=AJ A0.out 0 rfl;have e1:=AJ A0.out 1 rfl;have e2:=AJ A0.out 2 rfl;have e3:=AJ A0.out 3 rfl;clear hA;go_enter Tryz.func72,Tryz.ntmps72
 go_upto_region 1 with fail
 clear hW0
 go_wp2_with fail
 refine(GC B a1 a2 a3 c1 c2 c3 W0 hS hZ hU hUB (hB.below hb0)).mono ?_;rintro e w1 ⟨rfl,hpl,hbq⟩;have hb1:=hb0.trans (hbq.mono hb0.size);obtain⟨n,D,hn,hown,q1,q2,q3,q4⟩:=hpl;have H1:Hid _:=q1;have H2:Hid _:=q2;have H3:Hid _:=q3;have H4:Hid _:=q4;clear q1 q2 q3 q4 e0 e1 e2 e3 q0 hbq
 cases hat:Bn (λt:Svc=>t.name.toList==nm.toList) B.svcs with
 |none=>
  have HH:Hid (Maps.has D (key 1 nm)=false):=H1.out nm hnm λi s _ hs e=>Ec hat s (AE hs) (same_name.2 e)
  have HAK:Hid (D.atKey (key 1 nm) (.lit (.int .i64 0))=.lit (.int .i64 0)):=atKey_of_not_has HH.out _;have HAT:Hid _:=hat;clear hat
  go_wp2_with (at_lookup;refine Ae _ rfl (.tmp 15) (.tmp 18) 75 rfl 79 3 .i64 thingLaw Tryz.underlying75 Tryz.underlying3 (Bz _) (W0.heap.size+1) n D rfl hown _ _ rfl (B9 1 nm wf1 hnm) 0 false HAK.out HH.out ?_)
  exact bodyPost_ret (v:=.tuple #[.int .i64 0,.bool false]) (by simp[results,Tryz.results72,go_sem]) rfl ⟨by rw[HAT.out];rfl,hb1⟩
 |some p=>
  obtain⟨i,t⟩:=p;obtain⟨_,hi,hp⟩:=CA hat;have hil:=(AC hi).1;have hnm':t.name=nm:=same_name.1 hp;have h4':=H2.out i t hil hi;rw[hnm']at h4';have HH:Hid (Maps.has D (key 1 nm)=true):=h4'.1;have HAK:Hid (D.atKey (key 1 nm) (.lit (.int .i64 0))=.lit (.int .i64 (i:Int))):=h4'.2;have HAT:Hid _:=hat;clear hat hi hp hil hnm' h4'
  go_wp2_with (at_lookup;refine Ae _ rfl (.tmp 15) (.tmp 18) 75 rfl 79 3 .i64 thingLaw Tryz.underlying75 Tryz.underlying3 (Bz _) (W0.heap.size+1) n D rfl hown _ _ rfl (B9 1 nm wf1 hnm) (i:Int) true HAK.out HH.out ?_)
  exact bodyPost_ret (v:=.tuple #[.int .i64 i,.bool true]) (by simp[results,Tryz.results72,go_sem]) rfl ⟨by rw[HAT.out];rfl,hb1⟩
theorem KK(B:Bk)(nm:ByteArray)(A:Nat)(a1 a2 a3:Option Addr)(c1 c2 c3:Nat)(w:World)(hS:B.small)(hZ:B.sized)(hU:FK B)(hUB:Hr B)(hnm:nm.size<=maxLen)(hA:w.heap[A]?=some (.cells #[.int .i64 B.now,.slice a1 B.svcs.length c1,.slice a2 B.cps.length c2,.slice a3 B.bts.length c3] 27 (0,0)))(hB:BkAt w a1 a2 a3 B):
  Calls Tryz.prog 72 #[.agg #[.pointer (some ⟨A,0,none⟩)],.int .i64 2,.string nm] w λe w'=>e=.returned (.tuple #[.int .i64 (fstI (Bn (λt:Bt=>t.name.toList==nm.toList) B.bts)),.bool (Bn (λt:Bt=>t.name.toList==nm.toList) B.bts).isSome])/\Below w.heap.size w w':=by
 have hAl:=(AB hA).1;obtain⟨W0,hW0⟩:∃W,w.alloc (.cells #[.pointer (some ⟨A,0,none⟩)] 66)=W:=⟨_,rfl⟩;have hb0:=AM w (.cells #[.pointer (some ⟨A,0,none⟩)] 66);have T0:Hid _:=heap_alloc_new w (.cells #[.pointer (some ⟨A,0,none⟩)] 66);rw[hW0]at hb0 T0;have A0:Hid _:=AK hb0 hA hAl;have hz0:=(AB T0.out).1;have q0:=AJ T0.out 0 rfl;have e0:=AJ A0.out 0 rfl;have e1:=AJ A0.out 1 rfl;have e2:=AJ A0.out 2 rfl;have e3:=AJ A0.out 3 rfl;clear hA;go_enter Tryz.func72,Tryz.ntmps72
 go_upto_region 1 with fail
 clear hW0
 go_wp2_with fail
 refine(GC B a1 a2 a3 c1 c2 c3 W0 hS hZ hU hUB (hB.below hb0)).mono ?_;rintro e w1 ⟨rfl,hpl,hbq⟩;have hb1:=hb0.trans (hbq.mono hb0.size);obtain⟨n,D,hn,hown,q1,q2,q3,q4⟩:=hpl;have H1:Hid _:=q1;have H2:Hid _:=q2;have H3:Hid _:=q3;have H4:Hid _:=q4;clear q1 q2 q3 q4 e0 e1 e2 e3 q0 hbq
 cases hat:Bn (λt:Bt=>t.name.toList==nm.toList) B.bts with
 |none=>
  have HH:Hid (Maps.has D (key 2 nm)=false):=H3.out nm hnm λi s _ hs e=>Ec hat s (AE hs) (same_name.2 e)
  have HAK:Hid (D.atKey (key 2 nm) (.lit (.int .i64 0))=.lit (.int .i64 0)):=atKey_of_not_has HH.out _;have HAT:Hid _:=hat;clear hat
  go_wp2_with (at_lookup;refine Ae _ rfl (.tmp 15) (.tmp 18) 75 rfl 79 3 .i64 thingLaw Tryz.underlying75 Tryz.underlying3 (Bz _) (W0.heap.size+1) n D rfl hown _ _ rfl (B9 2 nm wf2 hnm) 0 false HAK.out HH.out ?_)
  exact bodyPost_ret (v:=.tuple #[.int .i64 0,.bool false]) (by simp[results,Tryz.results72,go_sem]) rfl ⟨by rw[HAT.out];rfl,hb1⟩
 |some p=>
  obtain⟨i,t⟩:=p;obtain⟨_,hi,hp⟩:=CA hat;have hil:=(AC hi).1;have hnm':t.name=nm:=same_name.1 hp;have h4':=H4.out i t hil hi;rw[hnm']at h4';have HH:Hid (Maps.has D (key 2 nm)=true):=h4'.1;have HAK:Hid (D.atKey (key 2 nm) (.lit (.int .i64 0))=.lit (.int .i64 (i:Int))):=h4'.2;have HAT:Hid _:=hat;clear hat hi hp hil hnm' h4'
  go_wp2_with (at_lookup;refine Ae _ rfl (.tmp 15) (.tmp 18) 75 rfl 79 3 .i64 thingLaw Tryz.underlying75 Tryz.underlying3 (Bz _) (W0.heap.size+1) n D rfl hown _ _ rfl (B9 2 nm wf2 hnm) (i:Int) true HAK.out HH.out ?_)
  exact bodyPost_ret (v:=.tuple #[.int .i64 i,.bool true]) (by simp[results,Tryz.results72,go_sem]) rfl ⟨by rw[HAT.out];rfl,hb1⟩
theorem Dd(B:Bk)(A:Nat)(a1 a2 a3:Option Addr)(c1 c2 c3:Nat)(w:World)(hS:B.small)(hZ:B.sized)(hA:w.heap[A]?=some (.cells #[.int .i64 B.now,.slice a1 B.svcs.length c1,.slice a2 B.cps.length c2,.slice a3 B.bts.length c3] 27 (0,0)))(hB:BkAt w a1 a2 a3 B):
  Calls Tryz.prog 76 #[.agg #[.pointer (some ⟨A,0,none⟩)]] w λe w'=>e=.returned (.int .i64 (if AX B=true then 0 else 2))/\Below w.heap.size w w':=by
 obtain⟨cd,hcd⟩:∃cd:Int,(if AX B=true then 0 else 2)=cd:=⟨_,rfl⟩;rw[hcd];have HCD:Hid _:=hcd;clear hcd;have hAl:=(AB hA).1;obtain⟨W0,hW0⟩:∃W,w.alloc (.cells #[.pointer (some ⟨A,0,none⟩)] 66)=W:=⟨_,rfl⟩;have hb0:=AM w (.cells #[.pointer (some ⟨A,0,none⟩)] 66);have T0:Hid _:=heap_alloc_new w (.cells #[.pointer (some ⟨A,0,none⟩)] 66);rw[hW0]at hb0 T0;have A0:Hid _:=AK hb0 hA hAl;have q0:=AJ T0.out 0 rfl;have e0:=AJ A0.out 0 rfl;have e1:=AJ A0.out 1 rfl;have e2:=AJ A0.out 2 rfl;have e3:=AJ A0.out 3 rfl;clear hA;go_enter Tryz.func76,Tryz.ntmps76
 go_upto_region 1 with fail
 clear hW0
 go_wp2_with fail
 refine(EM B a1 a2 a3 c1 c2 c3 W0 hS hZ (hB.below hb0)).mono ?_;rintro e w1 ⟨rfl,hbq⟩;have hb1:=hb0.trans (hbq.mono hb0.size);clear e0 e1 e2 e3 q0 hbq;cases hv:AX B
 ·have HC2:Hid (cd=2):=by unfold Hid;rw[<-HCD.out,hv];rfl
  go_wp2;go_ret;exact⟨by rw[HC2.out];rfl,hb1⟩
 ·have HC2:Hid (cd=0):=by unfold Hid;rw[<-HCD.out,hv];rfl
  go_wp2;go_ret;exact⟨by rw[HC2.out];rfl,hb1⟩
def LF(s v:Int)(c:Cp):Cp:={c with state:=s,version:=v}
theorem GR(now st:Int)(A g i n cap:Nat)(s1 s2 s3:Value)(l:List Cp)(c:Cp)(w:World)(hA:w.heap[A]?=some (.cells #[.int .i64 now,s1,s2,s3] 27 (0,0)))(hR:RowIs w 49 7 g n cap (As l))(hn:l.length=n)(hi:l[i]?=some c):
  Calls Tryz.prog 70 #[.agg #[.pointer (some ⟨A,0,none⟩)],.pointer (some ⟨g,i*7,none⟩),.int .i64 st] w λe w'=>e=.returned (.tuple #[])/\RowIs w' 49 7 g n cap (As (l.set i (LF st now c)))/\(∀q,q<w.heap.size->q≠g->w'.heap[q]?=w.heap[q]?)/\Below g w w':=by
 have hAl:=(AB hA).1;have hgl:=hR.lt;have hil:i<n:=by rw[<-hn];exact(AC hi).1
 have hfit:i*7+7<=n*7:=by omega
 have hAg:A≠g:=λe=>by
  obtain⟨_,_,cur,h1,_⟩:=hR;rw[e,h1]at hA;cases hA
 obtain⟨W0,hW0⟩:∃W,w.alloc (.cells #[.pointer (some ⟨A,0,none⟩)] 66)=W:=⟨_,rfl⟩;have hb0:=AM w (.cells #[.pointer (some ⟨A,0,none⟩)] 66);have T0:Hid _:=heap_alloc_new w (.cells #[.pointer (some ⟨A,0,none⟩)] 66);rw[hW0]at hb0 T0;have A0:Hid _:=AK hb0 hA hAl;have R0:Hid (RowIs W0 49 7 g n cap (As l)):=hR.below hb0 hgl;have HI:Hid (l[i]?=some c):=hi;have HNL:Hid (l.length=n):=hn;have q0:=AJ T0.out 0 rfl;have e0:=AJ A0.out 0 rfl;clear hA hR hn hi;go_enter Tryz.func70,Tryz.ntmps70
 go_upto_region 1 with fail
 clear hW0
 go_wp2_with (first
  |(refine B7 rfl 3 (.tmp 15) (.tmp 8) rfl g _ (.int .i64 st) rfl rfl Tryz.infosIntX rfl rfl 49 7 n cap _ R0.out (by omega) ?_;intro w1 hr on;have R1:Hid (RowIs w1 49 7 g n cap (As (l.set i {c with state:=st}))):=(by have:=hr.out;rw[show splice (As l) (i*7+4) [.int .i64 st]=As (l.set i {c with state:=st}) from Cb (c:=Cp.cells) (n:=7) (λ_=>rfl) l i 4 c {c with state:=st} _ HI.out (by omega) rfl]at this;exact this);have HO1:Hid (BA g W0 w1):=on;clear hr on)
  |(refine B7 rfl 3 (.tmp 17) (.tmp 13) rfl g _ (.int .i64 now) rfl rfl Tryz.infosIntX rfl rfl 49 7 n cap _ R1.out (by omega) ?_;intro w2 hr on;have R2:Hid (RowIs w2 49 7 g n cap (As (l.set i (LF st now c)))):=(by have:=hr.out;rw[show splice (As (l.set i {c with state:=st})) (i*7+2) [.int .i64 now]=As ((l.set i {c with state:=st}).set i (LF st now c)) from Cb (c:=Cp.cells) (n:=7) (λ_=>rfl) (l.set i {c with state:=st}) i 2 {c with state:=st} (LF st now c) _ (by rw[List.getElem?_set_self (by rw[HNL.out];exact hil)]) (by omega) rfl,List.set_set]at this;exact this);have HO2:Hid (BA g w1 w2):=on;clear hr on))
 exact Go.Great.bodyPost_end0 rfl rfl ⟨rfl,R2.out,λq hq hne=>(HO2.out.other q hne).trans ((HO1.out.other q hne).trans (hb0.block q hq)),(hb0.mono' (by omega)).trans (HO1.out.below.trans HO2.out.below)⟩
end
section
open Go.RowKit
section
variable {P:Program}
theorem B1{ops:Array Oper}{rest:List Oper}{o:Oper}{a:Act}{w:World}{Q:Exit->Act->World->Prop}(hgd:o.guard=none)(d s:Operand)(t:TypeId)
  (ho:o.op=.call {callee:=.builtin .copy,args:=#[d,s],argTypes:=#[t,t]}) (e:TypeId) (size:Nat) (ht:P.underlying t=some (.slice e)) (hsz:(P.info? e).map (·.size)=some size)
  (dp sp:Option Addr) (dLen dCap sLen sCap:Nat) (hd:a.eval d=.slice dp dLen dCap) (hs:a.eval s=.slice sp sLen sCap) (k:Nat) (hk:Nat.min sLen dLen=k)
  (g off:Nat) (cur:Array Value) (ty:TypeId) (hg:w.heap[g]?=some (.cells cur ty (0,0))) (cs:List Value) (hl:cs.length=k*size)
  (hpos:k≠0->dp=some ⟨g,off,none⟩/\∃ad,sp=some ad/\∀j v,cs[j]?=some v->w.cell? (ad.add j)=some v) (hfit:off+cs.length<=cur.size) (h1:∀v∈cs,v.oneCell'=true)
  (h:∀w',Hid (w'.heap[g]?=some (.cells (splice cur.toList off cs).toArray ty (0,0)))->BA g w w'->wpList P ops Q rest (a.put o.dst (goInt k)) w'):wpList P ops Q (o::rest) a w:=by
 refine wpList_plain hgd λK hK=>?_
 obtain⟨i,hi,his⟩:∃i,P.info? e=some i/\i.size=size:=by
  cases hq:P.info? e with
  |none=>simp[hq]at hsz
  |some i=>exact⟨i,rfl,by simpa [hq] using hsz⟩
 by_cases h0:k=0
 ·subst h0
  have hcs:cs=[]:=List.eq_nil_of_length_eq_zero (by simpa using hl);subst hcs
  have hr:(Builtin.copy_ #[t,t] o.type #[.slice dp dLen dCap,.slice sp sLen sCap]).run P w=.ok (goInt 0) w:=by
   cases dp<;>cases sp<;>simp[Builtin.copy_,run_underlying ht,sizeOf,typeInfo,hi,Builtin.lenOf,Builtin.firstCells,storeCells,loadCells,loadCellsFrom,hk]
  unfold Oper.wp execOp;simp only[ho,resolve,invoke,builtin,Sem.run_bind,Sem.run_pure,Result.andThen_ok,List.map_toArray,List.map_cons,List.map_nil,hd,hs,hr];exact hK _ _ (h w (show _=_ by simpa [splice] using hg) ⟨λ_ _=>rfl,Below.refl _ _,rfl⟩)
 ·obtain⟨rfl,ad,rfl,hsrc⟩:=hpos h0
  have hf:=run_firstCells_some (P:=P) w i.size k ad sLen sCap cs (by rw[his];exact hl) hsrc;have hst:=run_storeCells_at P g off ty cs 0 cur w hg (by simpa using hfit) h1
  have hr:(Builtin.copy_ #[t,t] o.type #[.slice (some ⟨g,off,none⟩) dLen dCap,.slice (some ad) sLen sCap]).run P w=.ok (goInt k) (w.setRow g (splice cur.toList off cs).toArray):=by
   simp only[Nat.add_zero,List.append_assoc]at hst;simp[Builtin.copy_,run_underlying ht,sizeOf,typeInfo,hi,Builtin.lenOf,hk,hf,hst,splice]
  unfold Oper.wp execOp;simp only[ho,resolve,invoke,builtin,Sem.run_bind,Sem.run_pure,Result.andThen_ok,List.map_toArray,List.map_cons,List.map_nil,hd,hs,hr];exact hK _ _ (h _ (setRow_heap w g cur _ ty _ hg) (C2 w g _))
theorem Da{ops:Array Oper}{rest:List Oper}{o:Oper}{a:Act}{w:World}{Q:Exit->Act->World->Prop}(hgd:o.guard=none)(s x:Operand)(t tn:TypeId)
  (ho:o.op=.call {callee:=.builtin .append,args:=#[s,x],argTypes:=#[t,tn]})
  (e:TypeId) (z:Value) (size bytes:Nat) (kn:IntKind) (ht:P.underlying t=some (.slice e)) (htn:P.underlying tn=some (.int kn)) (hinfo:(P.info? e).map (λi=>(i.zero,i.size,i.bytes))=some (some z,size,bytes)) (hzs:z.cells.size=size) (hs0:0<size)
  (b:Addr) (n cap:Nat) (olds:List Value) (hs:a.eval s=.slice (some b) n cap) (hlo:olds.length=n*size) (holds:∀j v,olds[j]?=some v->w.cell? (b.add j)=some v)
  (m:Nat) (hx:a.eval x=.int .i64 m) (hm:0<m) (hg:cap<n+m) (h63:n+m<=maxLen) (hbytes:(n+m)*bytes<=140737488355328)
  (h:∀g cap' cur w',w.heap.size<=g->n+m<=cap'->Hid (w'.heap[g]?=some (.cells cur e (0,0)))->Hid (cur.size=cap'*size/\cur.toList.take (n*size)=olds)->Below w.heap.size w w'->wpList P ops Q rest (a.put o.dst (.slice (some ⟨g,0,none⟩) (n+m) cap')) w'):wpList P ops Q (o::rest) a w:=by
 obtain⟨i,hi,hz,hs',hb⟩:=info_parts hinfo;subst hs' hb;have hmx:(n+m:Nat)<=9223372036854775807:=by unfold maxLen at h63;omega
 have hfitN:Builtin.nextslicecap (n+m) cap*i.bytes<=281474976710656:=growslice_fits (by omega) hbytes;have hn:¬(n+m<=cap):=by omega
 have h63':¬(9223372036854775807<((n:Int)+(m:Int))):=by omega
 have h48':¬(281474976710656<Builtin.nextslicecap (n+m) cap*i.bytes):=by omega
 have hw:IntKind.i64.wrap (m:Int)=m:=by rw[IntKind.wrap_i64];omega
 have hneg:¬((m:Int)<0):=by omega
 have hmb:m*i.bytes<=(n+m)*i.bytes:=Nat.mul_le_mul_right _ (by omega)
 have h48i:¬(281474976710656<(m:Int)*(i.bytes:Int)):=by
  rw[<-Int.natCast_mul];omega
 have hns:¬(m*i.size=0):=Nat.mul_ne_zero (by omega) (by omega);have hm0:m≠0:=by omega
 have hfo:=run_firstCells_some (P:=P) w.drew i.size n b n cap olds hlo (by simpa using holds)
 have hr:(Builtin.append_ #[t,tn] o.type #[.slice (some b) n cap,.int .i64 m]).run P w=
   .ok (.slice (some ⟨w.heap.size,0,none⟩) (n+m) (grownCap w (n+m) cap e)) (w.drew.alloc (.cells (olds.toArray++Builtin.zeroCells z.cells m++Builtin.zeroCells z.cells (grownCap w (n+m) cap e - (n+m))) e)):=by
  simp[Builtin.append_,run_underlying ht,run_underlying htn,sizeOf,typeInfo,zeroValue,hi,hz,asInt,asIntOf,hw,hn,hneg,hns,hm0,h63',h48',h48i,Question.forced,hfo,newRow,grownCap]
 refine wpList_plain hgd λK hK=>?_
 unfold Oper.wp execOp;simp only[ho,resolve,invoke,builtin,Sem.run_bind,Sem.run_pure,Result.andThen_ok,List.map_toArray,List.map_cons,List.map_nil,hs,hx,hr];have hge:=grownCap_ge w (n+m) cap e;refine hK _ _ (h w.heap.size _ _ _ (AG _) hge (heap_alloc_new w.drew _) ⟨?_,?_⟩ ⟨rfl,rfl,rfl,by simp,λk hk=>by show(w.heap.push _)[k]?=_;rw[Array.getElem?_push,if_neg (by omega)]⟩)
 ·simp only[Array.size_append,List.size_toArray,size_zeroCells,hzs,hlo]
  rw[<-Nat.add_mul,<-Nat.add_mul]
  congr 1
  omega
 ·simp only[Array.toList_append,List.append_assoc]
  rw[<-hlo];exact List.take_left
end
theorem IS{A X D L:List Value}{a s d:Nat}(ha:A.length=a)(hX:X.length=s)(hD:D.length=d)(hL:L.take a=A)(hfit:a+s+d<=L.length):(splice (splice L a X) (a+s) D).take (a+s+d)=A++X++D/\(splice (splice L (a+s) D) a X).take (a+s+d)=A++X++D:=by
 have h1:∀j,j<a->L[j]?=A[j]?:=λj hj=>by rw[<-hL,List.getElem?_take_of_lt hj]
 have key:∀M:List Value,a+s+d<=M.length->(∀j,j<a->M[j]?=L[j]?)->(∀j,a<=j->j<a+s->M[j]?=X[j - a]?)->(∀j,a+s<=j->j<a+s+d->M[j]?=D[j - (a+s)]?)->M.take (a+s+d)=A++X++D:=λM hM q1 q2 q3=>by
  refine List.ext_getElem? λj=>?_
  rw[List.append_assoc]
  by_cases c1:j<a
  ·rw[List.getElem?_take_of_lt (by omega),q1 j c1,h1 j c1,List.getElem?_append_left (by omega)]
  ·rw[List.getElem?_append_right (by omega),ha]
   by_cases c2:j<a+s
   ·rw[List.getElem?_take_of_lt (by omega),q2 j (by omega) c2,List.getElem?_append_left (by omega)]
   ·rw[List.getElem?_append_right (by omega),hX]
    by_cases c3:j<a+s+d
    ·rw[List.getElem?_take_of_lt c3,q3 j (by omega) c3,show j - (a+s)=j - a - s by omega]
    ·rw[List.getElem?_eq_none (by rw[List.length_take];omega),List.getElem?_eq_none (by omega)]
 have l1:(splice L a X).length=L.length:=length_splice L a X (by omega);have l2:(splice L (a+s) D).length=L.length:=length_splice L (a+s) D (by omega);constructor
 ·refine key _ (by rw[length_splice _ _ _ (by omega)];omega) (λj hj=>?_) (λj h2 h3=>?_) (λj h2 h3=>?_)
  ·rw[BR _ _ _ (by omega),if_pos (by omega),BR _ _ _ (by omega),if_pos hj]
  ·rw[BR _ _ _ (by omega),if_pos (by omega),BR _ _ _ (by omega),if_neg (by omega),if_pos (by omega)]
  ·rw[BR _ _ _ (by omega),if_neg (by omega),if_pos (by omega)]
 ·refine key _ (by rw[length_splice _ _ _ (by omega)];omega) (λj hj=>?_) (λj h2 h3=>?_) (λj h2 h3=>?_)
  ·rw[BR _ _ _ (by omega),if_pos hj,BR _ _ _ (by omega),if_pos (by omega)]
  ·rw[BR _ _ _ (by omega),if_neg (by omega),if_pos (by omega)]
  ·rw[BR _ _ _ (by omega),if_neg (by omega),if_neg (by omega),BR _ _ _ (by omega),if_neg (by omega),if_pos (by omega)]
end
section
open Go.RowKit Go.Sort
theorem Tryz.undBtsI:Tryz.prog.underlying 25=some (.slice (Tryz.prog.elem 25)):=by kernel_rfl
theorem Tryz.infoElemBtI:(Tryz.prog.info? (Tryz.prog.elem 25)).map (·.size)=some 2:=by kernel_rfl
theorem Tryz.infosBtI:(Tryz.prog.info? 51).map (·.size)=some 2:=by kernel_rfl
theorem insB_any(l:List Bt)(x:Bt)(ao:Option Addr)(n cap i N vb:Nat)(w:World)(HN:Hid (l.length=n))(hl:n<=1048576)(hi:i<=n)(hN:N<=w.heap.size)(hR:RowN w N 51 2 ao n cap (Ak l))(hv:w.heap[vb]?=some (.cells #[.string x.name,.bool x.drain] 51 (0,0)))(hvb:ao≠some ⟨vb,0,none⟩):
  Calls Tryz.prog 98 #[.slice ao n cap,.int .i64 i,.slice (some ⟨vb,0,none⟩) 1 1] w λe w'=>∃bo k,e=.returned (.slice bo (n+1) k)/\RowN w' N 51 2 bo (n+1) k (Ak (l.take i++x::l.drop i))/\(∀q,q<w.heap.size->ao≠some ⟨q,0,none⟩->w'.heap[q]?=w.heap[q]?)/\Below N w w':=by
 have hvl:=(AB hv).1;have HV:Hid (w.heap[vb]?=some (.cells #[.string x.name,.bool x.drain] 51 (0,0))):=hv;obtain⟨XS,hXS⟩:∃q,q=(#[.string x.name,.bool x.drain]:Array Value).toList:=⟨_,rfl⟩;have HXL:Hid (XS.length=2):=by unfold Hid;rw[hXS];rfl
 have HX1:Hid (∀u∈XS,u.oneCell'=true):=by unfold Hid;rw[hXS];simp[Value.oneCell']
 have HVL:Hid (Ak (l.take i++x::l.drop i)=Ak (l.take i)++XS++Ak (l.drop i)):=by unfold Hid;rw[hXS];simp[Ak,Bt.cells]
 have HNW:Hid (∀W:World,W.heap[vb]?=some (.cells #[.string x.name,.bool x.drain] 51 (0,0))->∀j u,XS[j]?=some u->W.cell? ((⟨vb,0,none⟩:Addr).add j)=some u):=λW h=>by rw[hXS];exact DU h
 have HX0:Hid (Ak [x]=XS):=by unfold Hid;rw[hXS];simp[Ak,Bt.cells]
 clear hv hXS;rcases hR with⟨rfl,rfl,rfl,hnil⟩|⟨g,rfl,hNg,hr⟩
 ·obtain rfl:i=0:=by omega
  obtain rfl:l=[]:=List.length_eq_zero_iff.1 HN.out;clear hnil hvb;go_enter Tryz.func98,Tryz.ntmps98
  go_wp2_with (at_builtin;refine BE rfl (.tmp 23) (.tmp 24) 25 rfl 51 _ 2 24 Tryz.underlying25 Tryz.infoBtI rfl (by omega) rfl (some ⟨vb,0,none⟩) 1 1 XS rfl (by rw[HXL.out]) (λ_=>⟨_,rfl,HNW.out _ HV.out⟩) HX1.out (by unfold maxLen;omega) (by omega) (λh=>absurd h (by omega)) (λ_=>?_);intro g k w1 hg hr hb)
  have HRX:Hid (RowIs w1 51 2 g 1 k XS):=hr;clear hr;go_ret;exact⟨some ⟨g,0,none⟩,k,rfl,.inr ⟨g,rfl,by omega,by have h:=HRX.out;rw[<-HX0.out]at h;simpa using h⟩,λq hq _=>hb.block q hq,hb.mono' hN⟩
 have HR:Hid (RowIs w 51 2 g n cap (Ak l)):=hr;have hgl:=hr.lt;have hnc:=hr.2.1;have hvg:vb≠g:=λe=>hvb (by rw[e])
 clear hvb hr;have HTL:Hid ((l.take i).length=i):=by unfold Hid;rw[List.length_take,HN.out];omega
 have HDL:Hid ((l.drop i).length=n - i):=by unfold Hid;rw[List.length_drop,HN.out]
 by_cases hin:i=n
 ·subst hin
  have HTD:Hid (l.take i=l/\l.drop i=[]):=⟨List.take_of_length_le (by rw[HN.out];omega),List.drop_eq_nil_of_le (by rw[HN.out];omega)⟩;go_enter Tryz.func98,Tryz.ntmps98
  go_upto_region 2 with(refine AU rfl 25 (.tmp 10) (some (.tmp 11)) none none rfl Tryz.undBtsI 2 Tryz.infoElemBtI g 0 i cap i i cap rfl (some (.int .i64 (i:Int))) none none rfl rfl rfl (λw=>run_slice_l w _ _ _ _ Tryz.undBtsI .i64 (i:Int) (by omega) (by omega)) ?_;intro off _)
  go_wp2_with (at_builtin;refine CG rfl (.tmp 23) (.tmp 24) 25 rfl 51 _ 2 24 Tryz.underlying25 Tryz.infoBtI rfl g i cap _ rfl HR.out ⟨vb,0,none⟩ 1 1 XS rfl (by rw[HXL.out]) (HNW.out _ HV.out) HX1.out (by unfold maxLen;omega) (by omega) ?_;intro g' k w1 hg' hr hgr;have HRX:Hid (RowIs w1 51 2 g' (i+1) k (Ak l++XS)):=hr;have HGR:Hid (∀q,q<w.heap.size->q≠g->w1.heap[q]?=w.heap[q]?):=(λq hq hne=>hgr.block q hq (λe=>hne (Option.some.inj e)));have hbo:=DD hgr hNg hN;clear hr hgr)
  go_ret;exact⟨some ⟨g',0,none⟩,k,rfl,.inr ⟨g',rfl,by rcases hg' with h|h<;>omega,by rw[HVL.out,HTD.out.1,HTD.out.2];simpa [Ak] using HRX.out⟩,λq hq hne=>HGR.out q hq (λe=>hne (by rw[e])),hbo⟩
 have hlt:i<n:=by omega
 clear hin;have HSRC:Hid (∀W:World,RowIs W 51 2 g n cap (Ak l)->∀off,off=i*2->∀j u,(Ak (l.drop i))[j]?=some u->W.cell? ((⟨g,off,none⟩:Addr).add j)=some u):=λW h off ho=>by rw[ho];exact h.srcDrop (c:=Bt.cells) (λ_=>rfl) i
 have HFT:Hid (Ak (l.take i)=(Ak l).take (i*2)):=Dn (c:=Bt.cells) (λ_=>rfl) l i
 by_cases hroom:n+1<=cap
 ·obtain⟨cur,hgc,hcs,htk⟩:=HR.out.2.2
  have HGC:Hid (w.heap[g]?=some (.cells cur 51 (0,0))):=hgc;have HCS:Hid (cur.size=cap*2/\cur.toList.take (n*2)=Ak l):=⟨hcs,htk⟩;have HCL:Hid (cur.toList.length=cur.size):=Array.length_toList;have hfitc:(n+1)*2<=cur.size:=by rw[hcs];exact Nat.mul_le_mul_right _ hroom
  clear hgc hcs htk;obtain⟨dd,hdd⟩:∃q,n - i=q:=⟨_,rfl⟩;have hd1:n<=i+dd:=by omega
  have hd1':i+dd<=n:=by omega
  obtain⟨ss,hss⟩:∃q,n+1 - i=q:=⟨_,rfl⟩;have hs1:n+1<=i+ss:=by omega
  have hs1':i+ss<=n+1:=by omega
  have HDD:Hid ((l.drop i).length=dd):=by unfold Hid;rw[HDL.out];exact hdd
  have hd2:0<dd:=by omega
  clear hdd hss
  have hov:∀off' lb cb,(callFunc 104 #[.slice (some ⟨vb,0,none⟩) 1 1,.slice (some ⟨g,off',none⟩) lb cb]).run Tryz.prog w=.ok (.value (.bool false)) w:=λoff' lb cb=>by
   rw[run_callFunc_extern Tryz.func104 (by kernel_rfl) (by kernel_rfl) (by kernel_rfl) (e:=Extern.SlicesOverlaps.overlaps #[25,25] #[4]) (by kernel_rfl),
    Lib.run_overlaps_apart w 25 4 51 Tryz.underlying25 2 (λ_=>by kernel_rfl) ⟨vb,0,none⟩ ⟨g,off',none⟩ 1 1 lb cb hvg 51 51 2 cur.size (by simp[World.shape?,HV.out]) (by simp[World.shape?,HGC.out]) (by omega) (D1 HV.out 0) (D1 HV.out 2)]
   rfl
  have HOV:Hid _:=hov;clear hov;go_enter Tryz.func98,Tryz.ntmps98
  go_upto_region 2 with(refine AU rfl 25 (.tmp 10) (some (.tmp 11)) none none rfl Tryz.undBtsI 2 Tryz.infoElemBtI g 0 n cap i n cap rfl (some (.int .i64 (i:Int))) none none rfl rfl rfl (λw=>run_slice_l w _ _ _ _ Tryz.undBtsI .i64 (i:Int) (by omega) (by omega)) ?_;intro off0 _)
  go_upto_region 14 with fail
  have hov:=HOV.out
  go_upto_region 15 with(first
   |(refine AU rfl 25 (.tmp 62) (some (.tmp 65)) none none rfl Tryz.undBtsI 2 Tryz.infoElemBtI g 0 (n+1) cap (i+1) (n+1) cap rfl (some (.int .i64 ((i:Int)+1))) none none rfl rfl rfl (λw=>run_slice_l w _ _ _ _ Tryz.undBtsI .i64 ((i+1:Nat):Int) (by omega) (by omega)) ?_;intro off1 _)
   |(simp only[hov]))
  clear hov;refine An 8 (by kernel_rfl) (by kernel_rfl) ?_;apply AQ
  ·intro V W K A hW hd hA hK
   simp only[pA]at hA;clear hd;obtain rfl:=hA;go_wp2;exact hK.out _ brf
  apply AQ
  ·intro V W K A hW hd hA hK
   simp only[pA]at hA;clear hd;obtain rfl:=hA;go_wp2;exact hK.out _ brf
  apply AQ
  ·intro V W K A hW hd hA hK
   simp only[pA]at hA;clear hd;obtain rfl:=hA;go_wp2;exact hK.out _ brf
  apply AQ
  ·intro V W K A hW hd hA hK
   have d1:V 1=_:=hd 1 (by kernel_rfl);have d2:V 2=_:=hd 2 (by kernel_rfl);simp only[pA,d1,d2]at hA;clear hd d1 d2;obtain rfl:=hA;go_wp2;exact hK.out _ brf
  refine Aq (λvv (_:World)=>∃off,vv=.slice (some ⟨g,off,none⟩) dd (cap - (i+1))/\(off=(i+1)*2\/cap=i+1)) (λ_ _ _ h _=>h) ?_ ?_
  ·intro V W K A hW hd hA hK
   have d0:V 0=_:=hd 0 (by kernel_rfl);have d3:V 3=_:=hd 3 (by kernel_rfl);simp only[pA,d0,d3]at hA;clear hd d0 d3;obtain rfl:=hA;refine AU rfl 25 (.tmp 69) (some (.tmp 72)) none none rfl Tryz.undBtsI 2 Tryz.infoElemBtI g 0 (n+1) cap (i+1) (n+1) cap rfl (some (.int .i64 ((i:Int)+1))) none none rfl rfl rfl (λw=>run_slice_l w _ _ _ _ Tryz.undBtsI .i64 ((i+1:Nat):Int) (by omega) (by omega)) ?_;intro off hoff;rw[show(n+1) - (i+1)=dd by omega];go_wp2;exact hK.out _ _ brf ⟨off,rfl,by omega⟩
  apply AQ
  ·intro V W K A hW hd hA hK
   simp only[pA]at hA;clear hd;obtain rfl:=hA;go_wp2;exact hK.out _ brf
  apply AQ
  ·intro V W K A hW hd hA hK
   simp only[pA]at hA;clear hd;obtain rfl:=hA;go_wp2;exact hK.out _ brf
  refine Aq (λvv (_:World)=>∃off,vv=.slice (some ⟨g,off,none⟩) ss (cap - i)/\(off=i*2\/cap=i)) (λ_ _ _ h _=>h) ?_ ?_
  ·intro V W K A hW hd hA hK
   have d5:V 5=_:=hd 5 (by kernel_rfl);have d6:V 6=_:=hd 6 (by kernel_rfl);simp only[pA,d5,d6]at hA;clear hd d5 d6;obtain rfl:=hA;refine AU rfl 25 (.tmp 74) (some (.tmp 75)) none none rfl Tryz.undBtsI 2 Tryz.infoElemBtI g 0 (n+1) cap i (n+1) cap rfl (some (.int .i64 (i:Int))) none none rfl rfl rfl (λw=>run_slice_l w _ _ _ _ Tryz.undBtsI .i64 (i:Int) (by omega) (by omega)) ?_;intro off hoff;rw[show(n+1) - i=ss by omega];go_wp2;exact hK.out _ _ brf ⟨off,rfl,by omega⟩
  intro V W A hW hS hA;have d0:V 0=_:=hS 0 (by omega);have d1:V 1=_:=hS 1 (by omega);have d2:V 2=_:=hS 2 (by omega);have d3:V 3=_:=hS 3 (by omega);have d4:(λvv (_:World)=>∃off,vv=.slice (some ⟨g,off,none⟩) dd (cap - (i+1))/\(off=(i+1)*2\/cap=i+1)) (V 4) W:=hS 4 (by omega);have d5:V 5=_:=hS 5 (by omega);have d6:V 6=_:=hS 6 (by omega);have d7:(λvv (_:World)=>∃off,vv=.slice (some ⟨g,off,none⟩) ss (cap - i)/\(off=i*2\/cap=i)) (V 7) W:=hS 7 (by omega);simp only[pA,d0,d1,d2,d3,d5,d6]at hA;clear hS d0 d1 d2 d3 d5 d6;generalize V 4=x4 at d4 hA;generalize V 7=x7 at d7 hA;obtain rfl:=hA;simp only[List.drop_succ_cons,List.drop_zero];obtain⟨off4,rfl,h4⟩:=d4;obtain⟨off7,rfl,h7⟩:=d7;have HGW:Hid (W.heap[g]?=some (.cells cur 51 (0,0))):=AK hW HGC.out hgl;have HRW:Hid (RowIs W 51 2 g n cap (Ak l)):=HR.out.below hW hgl;have HVW:Hid _:=AK hW HV.out hvl
  (refine B1 rfl (.tmp 73) (.tmp 76) 25 rfl 51 2 Tryz.underlying25 Tryz.infosBtI (some ⟨g,off4,none⟩) (some ⟨g,off7,none⟩) dd _ ss _ rfl rfl dd (by show min ss dd=dd;omega) g ((i+1)*2) cur 51 HGW.out (Ak (l.drop i)) (by rw[Bf,HDD.out]) (λ_=>⟨by rw[show off4=(i+1)*2 by omega],_,rfl,HSRC.out W HRW.out off7 (by omega)⟩) (by rw[Bf,HDD.out];omega) (Eb _) ?_;intro w2 hz on;have HZ2:Hid (w2.heap[g]?=some (.cells (splice cur.toList ((i+1)*2) (Ak (l.drop i))).toArray 51 (0,0))):=hz;have HO2:Hid (BA g W w2):=on;clear hz on)
  have HV2:Hid _:=(HO2.out.other vb hvg).trans HVW.out;have HSL:Hid ((splice cur.toList ((i+1)*2) (Ak (l.drop i))).length=cur.size):=by unfold Hid;rw[length_splice _ _ _ (by rw[Bf,HDD.out,HCL.out];omega),HCL.out]
  go_upto_region 17 with(first
   |(refine AU rfl 25 (.tmp 78) (some (.tmp 79)) none none rfl Tryz.undBtsI 2 Tryz.infoElemBtI g 0 (n+1) cap i (n+1) cap rfl (some (.int .i64 (i:Int))) none none rfl rfl rfl (λw=>run_slice_l w _ _ _ _ Tryz.undBtsI .i64 (i:Int) (by omega) (by omega)) ?_;intro off8 h8;rw[show n+1 - i=ss by omega])
   |(refine B1 rfl (.tmp 80) (.tmp 81) 25 rfl 51 2 Tryz.underlying25 Tryz.infosBtI (some ⟨g,off8,none⟩) (some ⟨vb,0,none⟩) ss _ 1 1 rfl rfl 1 (by show min 1 ss=1;omega) g (i*2) _ 51 HZ2.out XS (by rw[HXL.out]) (λ_=>⟨by rw[show off8=i*2 by omega],_,rfl,HNW.out _ HV2.out⟩) (by rw[List.size_toArray,HSL.out];rw[HXL.out];omega) HX1.out ?_;intro w3 hz on;have HZ3:Hid (w3.heap[g]?=some (.cells (splice (splice cur.toList ((i+1)*2) (Ak (l.drop i))) (i*2) XS).toArray 51 (0,0))):=hz;have HO3:Hid (BA g w2 w3):=on;clear hz on))
  go_wp2;go_ret;have hmid:=(IS (A:=Ak (l.take i)) (X:=XS) (D:=Ak (l.drop i)) (L:=cur.toList) (a:=i*2) (s:=2) (d:=dd*2) (by rw[Bf,HTL.out]) HXL.out (by rw[Bf,HDD.out]) (by rw[HFT.out,<-HCS.out.2,List.take_take,Nat.min_eq_left (Nat.mul_le_mul_right _ (by omega))]) (by rw[HCL.out];omega)).2;rw[show i*2+2=(i+1)*2 by omega,show(i+1)*2+dd*2=(n+1)*2 by omega]at hmid;refine⟨some ⟨g,0,none⟩,cap,rfl,.inr ⟨g,rfl,hNg,?_⟩,λq hq hne=>?_,?_⟩
  ·rw[HVL.out]
   refine⟨?_,hroom,_,HZ3.out,?_,?_⟩
   ·simp only[List.length_append,Bf,HTL.out,HDD.out];rw[HXL.out];omega
   ·rw[List.size_toArray,length_splice _ _ _ (by rw[HSL.out];rw[HXL.out];omega),HSL.out,HCS.out.1]
   ·exact hmid
  ·have hqg:q≠g:=λe=>hne (by rw[e])
   exact(HO3.out.other q hqg).trans ((HO2.out.other q hqg).trans (hW.block q hq))
  ·exact(hW.mono' hN).trans ((HO2.out.below.mono' hNg).trans (HO3.out.below.mono' hNg))
 ·obtain⟨dd,hdd⟩:∃q,n - i=q:=⟨_,rfl⟩
  have hd1:n<=i+dd:=by omega
  have hd1':i+dd<=n:=by omega
  obtain⟨mz,hmz⟩:∃q,n+1 - i=q:=⟨_,rfl⟩;have hm1:n+1<=i+mz:=by omega
  have hm1':i+mz<=n+1:=by omega
  have HDD:Hid ((l.drop i).length=dd):=by unfold Hid;rw[HDL.out];exact hdd
  have hd2:0<dd:=by omega
  clear hdd hmz;go_enter Tryz.func98,Tryz.ntmps98
  go_upto_region 2 with(refine AU rfl 25 (.tmp 10) (some (.tmp 11)) none none rfl Tryz.undBtsI 2 Tryz.infoElemBtI g 0 n cap i n cap rfl (some (.int .i64 (i:Int))) none none rfl rfl rfl (λw=>run_slice_l w _ _ _ _ Tryz.undBtsI .i64 (i:Int) (by omega) (by omega)) ?_;intro off0 _;rw[show n - i=dd by omega])
  go_upto_region 9 with fail
  go_upto_region 10 with(refine Da rfl (.tmp 34) (.tmp 39) 25 3 rfl 51 _ 2 24 .i64 Tryz.underlying25 Tryz.underlying3 Tryz.infoBtI rfl (by omega) ⟨g,0,none⟩ i cap (Ak (l.take i)) rfl (by rw[Bf,HTL.out]) (HR.out.srcTake (c:=Bt.cells) (λ_=>rfl) i) mz (congrArg (Value.int .i64) (by omega)) (by omega) (by omega) (by unfold maxLen;omega) (by omega) ?_;intro g2 cap2 cur w1 hg2 hc2 hz1 hcs1 hb1)
  have hgg2:vb≠g2:=by omega
  have HCL:Hid (cur.toList.length=cur.size):=Array.length_toList;have hg2l:=(AB hz1.out).1;have HV1:Hid _:=AK hb1 HV.out hvl;have HR1:Hid (RowIs w1 51 2 g n cap (Ak l)):=HR.out.below hb1 hgl;have hcsz:(i+mz)*2<=cur.size:=by rw[hcs1.out.1];exact Nat.mul_le_mul_right _ hc2
  go_upto_region 11 with(first
   |(refine AU rfl 25 (.tmp 41) (some (.tmp 42)) none none rfl Tryz.undBtsI 2 Tryz.infoElemBtI g2 0 (i+mz) cap2 i (i+mz) cap2 rfl (some (.int .i64 (i:Int))) none none rfl rfl rfl (λw=>run_slice_l w _ _ _ _ Tryz.undBtsI .i64 (i:Int) (by omega) (by omega)) ?_;intro off8 h8;rw[show i+mz - i=mz by omega])
   |(refine B1 rfl (.tmp 43) (.tmp 44) 25 rfl 51 2 Tryz.underlying25 Tryz.infosBtI (some ⟨g2,off8,none⟩) (some ⟨vb,0,none⟩) mz _ 1 1 rfl rfl 1 (by show min 1 mz=1;omega) g2 (i*2) _ 51 hz1.out XS (by rw[HXL.out]) (λ_=>⟨by rw[show off8=i*2 by omega],_,rfl,HNW.out _ HV1.out⟩) (by rw[HXL.out];omega) HX1.out ?_;intro w2 hz on;have HZ2:Hid (w2.heap[g2]?=some (.cells (splice cur.toList (i*2) XS).toArray 51 (0,0))):=hz;have HO2:Hid (BA g2 w1 w2):=on;clear hz on))
  have HSL:Hid ((splice cur.toList (i*2) XS).length=cur.size):=by unfold Hid;rw[length_splice _ _ _ (by rw[HCL.out,HXL.out];omega),HCL.out]
  have HR2:Hid (RowIs w2 51 2 g n cap (Ak l)):=HR1.out.blk (HO2.out.other g (by omega));have hb2:Below w.heap.size w w2:=hb1.trans (HO2.out.below.mono' hg2);have hg2w:g2<w2.heap.size:=(AB HZ2.out).1;have hgl2:=HR2.out.lt;refine An 8 (by kernel_rfl) (by kernel_rfl) ?_;apply AQ
  ·intro V W K A hW hd hA hK
   simp only[pA]at hA;clear hd;obtain rfl:=hA;go_wp2;exact hK.out _ brf
  apply AQ
  ·intro V W K A hW hd hA hK
   simp only[pA]at hA;clear hd;obtain rfl:=hA;go_wp2;exact hK.out _ brf
  apply AQ
  ·intro V W K A hW hd hA hK
   simp only[pA]at hA;clear hd;obtain rfl:=hA;go_wp2;exact hK.out _ brf
  apply AQ
  ·intro V W K A hW hd hA hK
   have d1:V 1=_:=hd 1 (by kernel_rfl);have d2:V 2=_:=hd 2 (by kernel_rfl);simp only[pA,d1,d2]at hA;clear hd d1 d2;obtain rfl:=hA;go_wp2;exact hK.out _ brf
  refine Aq (λvv (_:World)=>∃off,vv=.slice (some ⟨g2,off,none⟩) dd (cap2 - (i+1))/\(off=(i+1)*2\/cap2=i+1)) (λ_ _ _ h _=>h) ?_ ?_
  ·intro V W K A hW hd hA hK
   have d0:V 0=_:=hd 0 (by kernel_rfl);have d3:V 3=_:=hd 3 (by kernel_rfl);simp only[pA,d0,d3]at hA;clear hd d0 d3;obtain rfl:=hA;refine AU rfl 25 (.tmp 46) (some (.tmp 49)) none none rfl Tryz.undBtsI 2 Tryz.infoElemBtI g2 0 (i+mz) cap2 (i+1) (i+mz) cap2 rfl (some (.int .i64 ((i:Int)+1))) none none rfl rfl rfl (λw=>run_slice_l w _ _ _ _ Tryz.undBtsI .i64 ((i+1:Nat):Int) (by omega) (by omega)) ?_;intro off hoff;rw[show(i+mz) - (i+1)=dd by omega];go_wp2;exact hK.out _ _ brf ⟨off,rfl,by omega⟩
  apply AQ
  ·intro V W K A hW hd hA hK
   simp only[pA]at hA;clear hd;obtain rfl:=hA;go_wp2;exact hK.out _ brf
  apply AQ
  ·intro V W K A hW hd hA hK
   simp only[pA]at hA;clear hd;obtain rfl:=hA;go_wp2;exact hK.out _ brf
  refine Aq (λvv (_:World)=>∃off,vv=.slice (some ⟨g,off,none⟩) dd (cap - i)/\(off=i*2\/cap=i)) (λ_ _ _ h _=>h) ?_ ?_
  ·intro V W K A hW hd hA hK
   have d5:V 5=_:=hd 5 (by kernel_rfl);have d6:V 6=_:=hd 6 (by kernel_rfl);simp only[pA,d5,d6]at hA;clear hd d5 d6;obtain rfl:=hA;refine AU rfl 25 (.tmp 51) (some (.tmp 52)) none none rfl Tryz.undBtsI 2 Tryz.infoElemBtI g 0 n cap i n cap rfl (some (.int .i64 (i:Int))) none none rfl rfl rfl (λw=>run_slice_l w _ _ _ _ Tryz.undBtsI .i64 (i:Int) (by omega) (by omega)) ?_;intro off hoff;rw[show n - i=dd by omega];go_wp2;exact hK.out _ _ brf ⟨off,rfl,by omega⟩
  intro V W A hW hS hA;have d0:V 0=_:=hS 0 (by omega);have d1:V 1=_:=hS 1 (by omega);have d2:V 2=_:=hS 2 (by omega);have d3:V 3=_:=hS 3 (by omega);have d4:(λvv (_:World)=>∃off,vv=.slice (some ⟨g2,off,none⟩) dd (cap2 - (i+1))/\(off=(i+1)*2\/cap2=i+1)) (V 4) W:=hS 4 (by omega);have d5:V 5=_:=hS 5 (by omega);have d6:V 6=_:=hS 6 (by omega);have d7:(λvv (_:World)=>∃off,vv=.slice (some ⟨g,off,none⟩) dd (cap - i)/\(off=i*2\/cap=i)) (V 7) W:=hS 7 (by omega);simp only[pA,d0,d1,d2,d3,d5,d6]at hA;clear hS d0 d1 d2 d3 d5 d6;generalize V 4=x4 at d4 hA;generalize V 7=x7 at d7 hA;obtain rfl:=hA;simp only[List.drop_succ_cons,List.drop_zero];obtain⟨off4,rfl,h4⟩:=d4;obtain⟨off7,rfl,h7⟩:=d7;have HZW:Hid _:=AK hW HZ2.out hg2w;have HRW:Hid (RowIs W 51 2 g n cap (Ak l)):=HR2.out.below hW hgl2
  (refine B1 rfl (.tmp 50) (.tmp 53) 25 rfl 51 2 Tryz.underlying25 Tryz.infosBtI (some ⟨g2,off4,none⟩) (some ⟨g,off7,none⟩) dd _ dd _ rfl rfl dd (by show min dd dd=dd;omega) g2 ((i+1)*2) _ 51 HZW.out (Ak (l.drop i)) (by rw[Bf,HDD.out]) (λ_=>⟨by rw[show off4=(i+1)*2 by omega],_,rfl,HSRC.out W HRW.out off7 (by omega)⟩) (by rw[Bf,HDD.out,List.size_toArray,HSL.out];omega) (Eb _) ?_;intro w3 hz on;have HZ3:Hid (w3.heap[g2]?=some (.cells (splice (splice cur.toList (i*2) XS) ((i+1)*2) (Ak (l.drop i))).toArray 51 (0,0))):=hz;have HO3:Hid (BA g2 W w3):=on;clear hz on)
  go_wp2;go_ret;have hmid:=(IS (A:=Ak (l.take i)) (X:=XS) (D:=Ak (l.drop i)) (L:=cur.toList) (a:=i*2) (s:=2) (d:=dd*2) (by rw[Bf,HTL.out]) HXL.out (by rw[Bf,HDD.out]) hcs1.out.2 (by rw[HCL.out];omega)).1;rw[show i*2+2=(i+1)*2 by omega,show(i+1)*2+dd*2=(n+1)*2 by omega]at hmid;have hb3:Below w.heap.size w w3:=hb2.trans ((hW.mono' (by omega)).trans (HO3.out.below.mono' hg2));refine⟨some ⟨g2,0,none⟩,cap2,by rw[show i+mz=n+1 by omega];rfl,.inr ⟨g2,rfl,by omega,?_⟩,λq hq _=>hb3.block q hq,hb3.mono' hN⟩;rw[HVL.out];refine⟨?_,by omega,_,HZ3.out,?_,?_⟩
  ·simp only[List.length_append,Bf,HTL.out,HDD.out];rw[HXL.out];omega
  ·rw[List.size_toArray,length_splice _ _ _ (by rw[HSL.out,Bf,HDD.out];omega),HSL.out,hcs1.out.1]
  ·exact hmid
def Dz(a b:ByteArray):Int:=if Op.bytesLess a.toList b.toList=true then -1 else if(a.toList==b.toList)=true then 0 else 1
theorem JT(a:ByteArray)(w:World):Calls Tryz.prog 96 #[.string a] w λe w'=>e=.returned (.bool false)/\w'=w:=by
 go_enter Tryz.func96,Tryz.ntmps96;go_wp2;go_ret;exact⟨rfl,rfl⟩
theorem Jc(a b:ByteArray)(w:World):Calls Tryz.prog 75 #[.string a,.string b] w λe w'=>e=.returned (.int .i64 (Dz a b))/\w'=w:=by
 obtain⟨cd,HCD⟩:∃cd,Hid (Dz a b=cd):=⟨_,rfl⟩;rw[HCD.out];go_enter Tryz.func75,Tryz.ntmps75
 go_wp2_with fail
 refine(JT a _).mono ?_;rintro e _ ⟨rfl,rfl⟩
 go_wp2_with fail
 refine(JT b _).mono ?_;rintro e _ ⟨rfl,rfl⟩;cases h1:Op.bytesLess a.toList b.toList
 ·cases h2:(a.toList==b.toList)
  ·have HC:Hid (cd=1):=by unfold Hid;rw[<-HCD.out];unfold Dz;rw[h1,h2];rfl
   go_wp2;go_ret;exact⟨by rw[HC.out];rfl,rfl⟩
  ·have HC:Hid (cd=0):=by unfold Hid;rw[<-HCD.out];unfold Dz;rw[h1,h2];rfl
   go_wp2;go_ret;exact⟨by rw[HC.out];rfl,rfl⟩
 ·have HC:Hid (cd= -1):=by unfold Hid;rw[<-HCD.out];unfold Dz;rw[h1];rfl
  go_wp2;go_ret;exact⟨by rw[HC.out];rfl,rfl⟩
end
end Go.Proofs.YtbceafpodamnfaaGreat
