import Derived.Test.YtbceafpodamnfaaGreatH37
set_option linter.all false
set_option maxHeartbeats 16000000
set_option maxRecDepth 100000
namespace Go.Proofs.YtbceafpodamnfaaGreat
section
open Go.RowKit Go.Sort Go.Maps
theorem numRow:(95:TypeId)<Tryz.prog.types.size:=of_decide_eq_true (by kernel_rfl)
theorem numWide:(match Tryz.prog.underlying 95 with|some (.array _ _)|some (.struct _)=>true|_=>false)=true:=by kernel_rfl
theorem numLaw:Keyed Tryz.prog 95:=Keyed.of_law (deep_law_laid Tryz.laidOutB (m:=3) (by omega) numRow (by kernel_rfl) numWide)
theorem Lg:Tryz.prog.cellsOf 95=2:=by kernel_rfl
theorem numKey:Tryz.prog.keyType 95=true:=by kernel_rfl
def CY(s:ByteArray)(n:Int):Lit:=.string (keyBytes [.string s.data.toList,.int .i64 n])
theorem Gk(s:ByteArray)(n:Int)(hk:(Lit.int .i64 n).wf=true)(hs:s.size<=maxLen):keyOf Tryz.prog 95 (.agg #[.string s,.int .i64 n])=some (CY s n):=by
 have hf:(Value.agg #[.string s,.int .i64 n]).formed Tryz.prog 95=true:=by
  simp[Value.formed,Tryz.underlying95,Lg]
 unfold keyOf;rw[Tryz.underlying95];simp only[numKey,hf,Bool.and_self,if_true];generalize hn:Tryz.prog.types.size=m
 match m,hn with
 |0,hn=>have:=numRow;rw[hn]at this;exact absurd this (Nat.not_lt_zero _)
 |m+1,_=>
  simp[Program.keyLits,Tryz.underlying95,Lg,Ls,Hu,Tryz.underlying3,Tryz.underlying9,Value.cells,hk,hs,CY]
theorem Lk{n n':Int}{s s':ByteArray}(hk:(Lit.int .i64 n).wf=true)(hk':(Lit.int .i64 n').wf=true)(hs:s.size<=maxLen)(hs':s'.size<=maxLen)(h:CY s n=CY s' n'):s=s'/\n=n':=by
 have h1:=Gk s n hk hs;have h2:=Gk s' n' hk' hs';rw[<-h]at h2;have:=numLaw.inj h1 h2
 simpa using this
theorem JM(s:ByteArray)(n:Int):WideAt.IsKeyLit (CY s n):=trivial
theorem Jj(n:Int)(w:World):(Instr.makeMap 121 (some (.int .i64 n))).run Tryz.prog w=.ok (.map (some w.heap.size)) (w.alloc (.map #[] 0)):=by
 simp[Instr.makeMap,run_underlying Tryz.underlying121,asInt,asIntOf]
def CopiesAt(w:World)(b:Nat)(B:Bk)(k:Nat):Prop:=∃(n:Nat) (D:DataW Unit),n<=k/\w.ownsMap Tryz.prog 95 (plainElem Tryz.prog 3) b n D/\
 (∀(x:ByteArray) (m:Int),x.size<=maxLen->(Lit.int .i64 m).wf=true->(∀(i:Nat) c,i<k->B.cps[i]?=some c->¬(c.service=x/\c.number=m))->Maps.has D (CY x m)=false)/\
 (∀(i:Nat) c,i<k->B.cps[i]?=some c->Maps.has D (CY c.service c.number)=true/\D.atKey (CY c.service c.number) (.lit (.int .i64 0))=.lit (.int .i64 i))
theorem CopiesAt.blk{w w':World}{b:Nat}{B:Bk}{k:Nat}(h:CopiesAt w b B k)(hb:w'.heap[b]?=w.heap[b]?):CopiesAt w' b B k:=by
 obtain⟨n,D,hn,⟨es,clock,he,F,hs,hD⟩,r⟩:=h;exact⟨n,D,hn,⟨es,clock,by rw[hb];exact he,F,hs,hD⟩,r⟩
theorem CopiesAt.lt{w:World}{b:Nat}{B:Bk}{k:Nat}(h:CopiesAt w b B k):b<w.heap.size:=by
 obtain⟨n,D,hn,hown,_⟩:=h;exact hown.lt
theorem CopiesAt.start(w:World)(B:Bk):CopiesAt (w.alloc (.map #[] 0)) w.heap.size B 0:=
 ⟨0,.map [],AG _,World.ownsMap_made w _ _ _,λ_ _ _ _ _=>rfl,λi s hi=>absurd hi (by omega)⟩
theorem CopiesAt.step{w':World}{b:Nat}{B:Bk}{k n:Nat}{D:DataW Unit}{s:Cp}(hz:∀s∈B.cps,s.service.size<=maxLen/\s.berth.size<=maxLen)(hw:wfC B)(hu:GQ B)(hsk:B.cps[k]?=some s)
  (hn:n<=k) (h1:∀(x:ByteArray) (m:Int),x.size<=maxLen->(Lit.int .i64 m).wf=true->(∀(i:Nat) c,i<k->B.cps[i]?=some c->¬(c.service=x/\c.number=m))->Maps.has D (CY x m)=false)
  (h2:∀(i:Nat) c,i<k->B.cps[i]?=some c->Maps.has D (CY c.service c.number)=true/\D.atKey (CY c.service c.number) (.lit (.int .i64 0))=.lit (.int .i64 i))
  (hD:IsMap D)
  (hown:w'.ownsMap Tryz.prog 95 (plainElem Tryz.prog 3) b (n+1) (D.put (CY s.service s.number) (.lit (.int .i64 (k:Int))))):CopiesAt w' b B (k+1):=by
 have hss:=(hz s (AE hsk)).1;have hsw:=hw s (AE hsk);refine⟨n+1,_,by omega,hown,λx m hx hm hno=>?_,λi t hi ht=>?_⟩
 ·rw[has_put_other (λe=>hno k s (by omega) hsk (let ⟨a,b⟩:=Lk hm hsw hx hss e;⟨a.symm,b.symm⟩))]
  exact h1 x m hx hm λi t hi ht=>hno i t (by omega) ht
 ·rcases Nat.lt_or_ge i k with h'|h'
  ·have hts:=(hz t (AE ht)).1
   have htw:=hw t (AE ht);have hne:CY t.service t.number≠CY s.service s.number:=λe=>hu i k t s h' ht hsk (Lk htw hsw hts hss e)
   rw[has_put_other hne,atKey_put_other hne];exact h2 i t h' ht
  ·have e:i=k:=by omega
   subst e;rw[hsk]at ht;cases ht;exact⟨has_put_same hD (JM _ _) _,atKey_put_same hD (JM _ _) _ _⟩
theorem Fb(B:Bk)(a1 a2 a3:Option Addr)(c1 c2 c3:Nat)(w:World)(hS:B.small)(hZ:B.sized)(hW:wfC B)(hU:GQ B)(hB:BkAt w a1 a2 a3 B):
  Calls Tryz.prog 77 #[.agg #[.int .i64 B.now,.slice a1 B.svcs.length c1,.slice a2 B.cps.length c2,.slice a3 B.bts.length c3]] w λe w'=>e=.returned (.map (some (w.heap.size+1)))/\CopiesAt w' (w.heap.size+1) B B.cps.length/\Below w.heap.size w w':=by
 obtain⟨hl1,hl2,hl3⟩:=hS;have hmm:=Jj;obtain⟨t0,t1,t2⟩:=B0 w (.cells #[.int .i64 B.now,.slice a1 B.svcs.length c1,.slice a2 B.cps.length c2,.slice a3 B.bts.length c3] 27) (.map #[] 0);have T0:Hid _:=t0
 have T1:Hid (CopiesAt ((w.alloc (.cells #[.int .i64 B.now,.slice a1 B.svcs.length c1,.slice a2 B.cps.length c2,.slice a3 B.bts.length c3] 27)).alloc (.map #[] 0)) (w.heap.size+1) B 0):=by
  have:=CopiesAt.start (w.alloc (.cells #[.int .i64 B.now,.slice a1 B.svcs.length c1,.slice a2 B.cps.length c2,.slice a3 B.bts.length c3] 27)) B;have e:(w.alloc (.cells #[.int .i64 B.now,.slice a1 B.svcs.length c1,.slice a2 B.cps.length c2,.slice a3 B.bts.length c3] 27)).heap.size=w.heap.size+1:=by show(w.heap.push _).size=_;simp
  rw[e]at this;exact this
 clear t0 t1 t2;go_enter Tryz.func77,Tryz.ntmps77;go_wp2;clear hmm
 go_loopw [13] (λiv wr=>∃k:Nat,k<=B.cps.length/\iv=.int .i64 k/\Below w.heap.size w wr/\Hid (CopiesAt wr (w.heap.size+1) B k)) (λi _=>B.cps.length - (intOf i).toNat)
 case atStart=>exact⟨0,by omega,rfl,((Below.refl _ _).alloc (AG _) _).alloc (by simp) _,T1⟩
 case round=>
  obtain⟨k,hk,rfl,hb,hpl⟩:=hrel;have hNlt:w.heap.size+1<wr.heap.size:=hpl.out.lt
  by_cases hlt:k<B.cps.length
  ·have hne:B.cps≠[]:=by intro h;rw[h]at hlt;simp at hlt
   obtain⟨b,off,ea,hbs,hat⟩:=hB.2.1 hne;subst ea;obtain⟨s,hsk⟩:∃s,B.cps[k]?=some s:=⟨B.cps[k],by simp[hlt]⟩;have hmem:=(hZ.2.2.2.2.1 s (AE hsk)).1;have hwf:=hW s (AE hsk);have HWF:Hid _:=hwf;have HSK:Hid _:=hsk;have hcs:=(hat k s hsk).below hb hbs;unfold CpAt at hcs;obtain⟨x0,x1,x2,x3,x4,x5,x6⟩:=hcs;obtain⟨n,D,hn,hown,h1,h2⟩:=hpl.out;have H1:Hid _:=h1;have H2:Hid _:=h2;have hnn:n<maxLen:=by unfold maxLen;omega
   clear hsk hat hne h1 h2 hwf
   go_wp2_with (at_mapUpdate;refine wpList_mapUpdate_own _ rfl (.tmp 18) (.tmp 23) (.tmp 24) 121 rfl 95 3 numLaw Tryz.underlying121 (plainElem Tryz.prog 3) (w.heap.size+1) n D rfl (hown.alloc _) hnn _ _ _ rfl rfl (Gk s.service s.number HWF.out hmem) _ [] (plainElem_int Tryz.underlying3 (WalkArith.wf_i64 (by omega))) ?_;intro w1 hown1 hgrow1)
   have hsz:(wr.alloc (.cells #[.string s.service,.int .i64 s.number,.int .i64 s.version,.int .i64 s.image,.int .i64 s.state,.bool s.ending,.string s.berth] 49)).heap.size=wr.heap.size+1:=by show(wr.heap.push _).size=_;simp
   have hb1:Below w.heap.size w w1:=(hb.alloc hb.size _).grown hgrow1 (by rw[hsz];omega) (λj hj=>by cases hj;omega);have hpl1:Hid _:=CopiesAt.step hZ.2.2.2.2.1 hW hU HSK.out hn H1.out H2.out hown.isMap hown1
   go_roundw
   case rel=>exact⟨k+1,by omega,by go_num,hb1,hpl1⟩
   case measure=>simp[intOf];omega
  ·go_wp2
   go_ret;have hkl:k=B.cps.length:=by omega
   subst hkl;exact⟨rfl,hpl.out,hb⟩
theorem MO(B:Bk)(nm:ByteArray)(num:Int)(N A:Nat)(a1 a2 a3:Option Addr)(k1 k2 k3:Nat)(w:World)(hF:Fit B)(hwc:wfC B)(huc:GQ B)(hwf:(Lit.int .i64 num).wf=true)(hnm:nm.size<=maxLen)(hN:N<=w.heap.size)(hV:BkVar w N A B a1 a2 a3 k1 k2 k3):
  Calls Tryz.prog 58 #[.agg #[.pointer (some ⟨A,0,none⟩),.string nm,.int .i64 num]] w λe w'=>e=.returned (.int .i64 (Bm B nm num B.now).2)/\((Bm B nm num B.now).2=0->∃b1 b2 b3 d1 d2 d3,BkVar w' N A (Bm B nm num B.now).1 b1 b2 b3 d1 d2 d3)/\Below N w w':=by
 obtain⟨fr,HFR⟩:∃fr,Hid (Bm B nm num B.now=fr):=⟨_,rfl⟩;rw[HFR.out];have hAl:=(AB hV.box).1;obtain⟨W0,hW0⟩:∃W,w.alloc (.cells #[.pointer (some ⟨A,0,none⟩),.string nm,.int .i64 num] 97)=W:=⟨_,rfl⟩;have hb0:=AM w (.cells #[.pointer (some ⟨A,0,none⟩),.string nm,.int .i64 num] 97);have E0:Hid (W0.heap[w.heap.size]?=some (.cells #[.pointer (some ⟨A,0,none⟩),.string nm,.int .i64 num] 97 (0,0))):=by unfold Hid;rw[<-hW0];exact heap_alloc_new w (.cells #[.pointer (some ⟨A,0,none⟩),.string nm,.int .i64 num] 97)
 rw[hW0]at hb0;have hz0:=(AB E0.out).1;have V0:=Ah (hV.below hb0)
 skip
 have A0:Hid (W0.heap[A]?=some (.cells #[.int .i64 B.now,.slice a1 B.svcs.length k1,.slice a2 B.cps.length k2,.slice a3 B.bts.length k3] 27 (0,0))):=V0.out.box;have hA0:A<W0.heap.size:=(AB A0.out).1;clear hV
 cases hat:Bn (isC nm num) B.cps with
 |none=>
  have HL:Hid (fr=(B,3)):=by unfold Hid;rw[<-HFR.out];unfold Bm;rw[hat]
  have HPH:Hid (∀D:DataW Unit,(∀(x:ByteArray) (m:Int),x.size<=maxLen->(Lit.int .i64 m).wf=true->(∀(i:Nat) c,i<B.cps.length->B.cps[i]?=some c->¬(c.service=x/\c.number=m))->Maps.has D (CY x m)=false)->(∀(i:Nat) c,i<B.cps.length->B.cps[i]?=some c->Maps.has D (CY c.service c.number)=true/\D.atKey (CY c.service c.number) (.lit (.int .i64 0))=.lit (.int .i64 i))->Maps.has D (CY nm num)=false):=λD p1 p2=>p1 nm num hnm hwf λi c _ hc e=>Ec hat c (AE hc) (isC_iff.2 e)
  have HPA:Hid (∀D:DataW Unit,(∀(x:ByteArray) (m:Int),x.size<=maxLen->(Lit.int .i64 m).wf=true->(∀(i:Nat) c,i<B.cps.length->B.cps[i]?=some c->¬(c.service=x/\c.number=m))->Maps.has D (CY x m)=false)->(∀(i:Nat) c,i<B.cps.length->B.cps[i]?=some c->Maps.has D (CY c.service c.number)=true/\D.atKey (CY c.service c.number) (.lit (.int .i64 0))=.lit (.int .i64 i))->D.atKey (CY nm num) (.lit (.int .i64 0))=.lit (.int .i64 0)):=λD p1 p2=>atKey_of_not_has (HPH.out D p1 p2) _
  clear hat;go_enter Tryz.func58,Tryz.ntmps58
  go_upto_region 1 with fail
  clear hW0;refine An 13 (by kernel_rfl) (by kernel_rfl) ?_;apply AQ
  ·intro V W K A hW hd hA hK
   simp only[pA]at hA;clear hd;obtain rfl:=hA;go_wp2;exact hK.out _ brf
  apply AQ
  ·intro V W K A hW hd hA hK
   have d0:V 0=_:=hd 0 (by kernel_rfl);simp only[pA,d0]at hA;clear hd d0;obtain rfl:=hA;go_wp2;exact hK.out _ brf
  apply AQ
  ·intro V W K A hW hd hA hK
   have d1:V 1=_:=hd 1 (by kernel_rfl);simp only[pA,d1]at hA;clear hd d1;obtain rfl:=hA;have q0:=AJ (AK hW E0.out hz0) 0 rfl;go_wp2;exact hK.out _ brf
  apply AQ
  ·intro V W K A hW hd hA hK
   have d2:V 2=_:=hd 2 (by kernel_rfl);simp only[pA,d2]at hA;clear hd d2;obtain rfl:=hA;go_wp2;exact hK.out _ brf
  apply AQ
  ·intro V W K A hW hd hA hK
   have d3:V 3=_:=hd 3 (by kernel_rfl);simp only[pA,d3]at hA;clear hd d3;obtain rfl:=hA;refine wpList_load_row rfl 27 (.tmp 10) rfl A rfl 27 #[.int .i64 B.now,.slice a1 B.svcs.length k1,.slice a2 B.cps.length k2,.slice a3 B.bts.length k3] (0,0) _ (AK hW A0.out hA0) Tryz.underlying27 rfl Tryz.infosBkX ?_;go_wp2;exact hK.out _ brf
  refine Aq (λvv W=>∃b,vv=.map (some b)/\CopiesAt W b B B.cps.length) (λv W W2 ⟨b,h1,h2⟩ hb=>⟨b,h1,h2.blk (hb.block b h2.lt)⟩) ?_ ?_
  ·intro V W K A hW hd hA hK
   have d4:V 4=_:=hd 4 (by kernel_rfl);simp only[pA,d4]at hA;clear hd d4;obtain rfl:=hA
   go_wp2_with fail
   refine(Fb B a1 a2 a3 k1 k2 k3 W hF.small hF.sized hwc huc (V0.out.rows.at.below hW)).mono ?_;rintro e w2 ⟨rfl,hpl,hbq⟩;have HPL:Hid (CopiesAt w2 (W.heap.size+1) B B.cps.length):=hpl;clear hpl;go_wp2;exact hK.out _ _ hbq ⟨_,rfl,HPL.out⟩
  apply AQ
  ·intro V W K A hW hd hA hK
   simp only[pA]at hA;clear hd;obtain rfl:=hA;go_wp2;exact hK.out _ brf
  apply AQ
  ·intro V W K A hW hd hA hK
   have d6:V 6=_:=hd 6 (by kernel_rfl);simp only[pA,d6]at hA;clear hd d6;obtain rfl:=hA;have q1:=AJ (AK hW E0.out hz0) 1 rfl;have q2:=AJ (AK hW E0.out hz0) 2 rfl;go_wp2;exact hK.out _ brf
  apply AQ
  ·intro V W K A hW hd hA hK
   have d5:(λvv W=>∃b,vv=.map (some b)/\CopiesAt W b B B.cps.length) (V 5) W:=hd 5 (by kernel_rfl);have d7:V 7=_:=hd 7 (by kernel_rfl);simp only[pA,d7]at hA;clear hd d7;generalize V 5=x5 at d5 hA;obtain rfl:=hA;obtain⟨b,rfl,n,D,hn,hown,p1,p2⟩:=d5;have HH:Hid (Maps.has D (CY nm num)=false):=HPH.out D p1 p2;have HAK:Hid (D.atKey (CY nm num) (.lit (.int .i64 0))=.lit (.int .i64 0)):=HPA.out D p1 p2;clear p1 p2
   go_wp2_with (at_lookup;refine Ae _ rfl (.tmp 12) (.tmp 14) 121 rfl 95 3 .i64 numLaw Tryz.underlying121 Tryz.underlying3 (Bz _) b n D rfl hown _ _ rfl (Gk nm num hwf hnm) 0 false HAK.out HH.out ?_)
   exact hK.out _ brf
  apply AQ
  ·intro V W K A hW hd hA hK
   have d8:V 8=_:=hd 8 (by kernel_rfl);simp only[pA,d8]at hA;clear hd d8;obtain rfl:=hA;go_wp2;exact hK.out _ brf
  apply AQ
  ·intro V W K A hW hd hA hK
   have d9:V 9=_:=hd 9 (by kernel_rfl);simp only[pA,d9]at hA;clear hd d9;obtain rfl:=hA;go_wp2;exact hK.out _ brf
  apply AQ
  ·intro V W K A hW hd hA hK
   have d9:V 9=_:=hd 9 (by kernel_rfl);simp only[pA,d9]at hA;clear hd d9;obtain rfl:=hA;go_wp2;exact hK.out _ brf
  apply AQ
  ·intro V W K A hW hd hA hK
   have d10:V 10=_:=hd 10 (by kernel_rfl);simp only[pA,d10]at hA;clear hd d10;obtain rfl:=hA;go_wp2;exact hK.out _ brf
  intro V W A hW hS hA;have d0:V 0=_:=hS 0 (by omega);have d1:V 1=_:=hS 1 (by omega);have d2:V 2=_:=hS 2 (by omega);have d3:V 3=_:=hS 3 (by omega);have d4:V 4=_:=hS 4 (by omega);have d5:(λvv W=>∃b,vv=.map (some b)/\CopiesAt W b B B.cps.length) (V 5) W:=hS 5 (by omega);have d6:V 6=_:=hS 6 (by omega);have d7:V 7=_:=hS 7 (by omega);have d8:V 8=_:=hS 8 (by omega);have d9:V 9=_:=hS 9 (by omega);have d10:V 10=_:=hS 10 (by omega);have d11:V 11=_:=hS 11 (by omega);have d12:V 12=_:=hS 12 (by omega);simp only[pA,d0,d1,d2,d3,d4,d6,d7,d8,d9,d10,d11,d12]at hA;clear hS d0 d1 d2 d3 d4 d6 d7 d8 d9 d10 d11 d12;generalize V 5=x5 at d5 hA;obtain rfl:=hA;simp only[List.drop_succ_cons,List.drop_zero];have hbW:=hb0.trans (hW.mono hb0.size);go_wp2;go_ret;exact⟨by rw[HL.out];rfl,λh=>absurd h (by rw[HL.out];simp),hbW.mono' hN⟩
 |some p=>
  obtain⟨i,c⟩:=p;obtain⟨_,hic,hpc⟩:=CA hat;have hin:i<B.cps.length:=(AC hic).1;have hll:=hF.l2;have HIC:Hid (B.cps[i]?=some c):=hic
  have HPH2:Hid (∀D:DataW Unit,(∀(x:ByteArray) (m:Int),x.size<=maxLen->(Lit.int .i64 m).wf=true->(∀(i:Nat) c,i<B.cps.length->B.cps[i]?=some c->¬(c.service=x/\c.number=m))->Maps.has D (CY x m)=false)->(∀(i:Nat) c,i<B.cps.length->B.cps[i]?=some c->Maps.has D (CY c.service c.number)=true/\D.atKey (CY c.service c.number) (.lit (.int .i64 0))=.lit (.int .i64 i))->(Maps.has D (CY nm num)=true/\D.atKey (CY nm num) (.lit (.int .i64 0))=.lit (.int .i64 (i:Int)))):=λD p1 p2=>by
   obtain⟨e1,e2⟩:=isC_iff.1 hpc;have:=p2 i c hin hic;rw[e1,e2]at this;exact this
  have HPH:Hid (∀D:DataW Unit,(∀(x:ByteArray) (m:Int),x.size<=maxLen->(Lit.int .i64 m).wf=true->(∀(i:Nat) c,i<B.cps.length->B.cps[i]?=some c->¬(c.service=x/\c.number=m))->Maps.has D (CY x m)=false)->(∀(i:Nat) c,i<B.cps.length->B.cps[i]?=some c->Maps.has D (CY c.service c.number)=true/\D.atKey (CY c.service c.number) (.lit (.int .i64 0))=.lit (.int .i64 i))->Maps.has D (CY nm num)=true):=λD p1 p2=>(HPH2.out D p1 p2).1
  have HPA:Hid (∀D:DataW Unit,(∀(x:ByteArray) (m:Int),x.size<=maxLen->(Lit.int .i64 m).wf=true->(∀(i:Nat) c,i<B.cps.length->B.cps[i]?=some c->¬(c.service=x/\c.number=m))->Maps.has D (CY x m)=false)->(∀(i:Nat) c,i<B.cps.length->B.cps[i]?=some c->Maps.has D (CY c.service c.number)=true/\D.atKey (CY c.service c.number) (.lit (.int .i64 0))=.lit (.int .i64 i))->D.atKey (CY nm num) (.lit (.int .i64 0))=.lit (.int .i64 (i:Int))):=λD p1 p2=>(HPH2.out D p1 p2).2
  have HAT:Hid _:=hat;clear hic hpc hat HPH2;go_enter Tryz.func58,Tryz.ntmps58
  go_upto_region 1 with fail
  clear hW0;refine An 13 (by kernel_rfl) (by kernel_rfl) ?_;apply AQ
  ·intro V W K A hW hd hA hK
   simp only[pA]at hA;clear hd;obtain rfl:=hA;go_wp2;exact hK.out _ brf
  apply AQ
  ·intro V W K A hW hd hA hK
   have d0:V 0=_:=hd 0 (by kernel_rfl);simp only[pA,d0]at hA;clear hd d0;obtain rfl:=hA;go_wp2;exact hK.out _ brf
  apply AQ
  ·intro V W K A hW hd hA hK
   have d1:V 1=_:=hd 1 (by kernel_rfl);simp only[pA,d1]at hA;clear hd d1;obtain rfl:=hA;have q0:=AJ (AK hW E0.out hz0) 0 rfl;go_wp2;exact hK.out _ brf
  apply AQ
  ·intro V W K A hW hd hA hK
   have d2:V 2=_:=hd 2 (by kernel_rfl);simp only[pA,d2]at hA;clear hd d2;obtain rfl:=hA;go_wp2;exact hK.out _ brf
  apply AQ
  ·intro V W K A hW hd hA hK
   have d3:V 3=_:=hd 3 (by kernel_rfl);simp only[pA,d3]at hA;clear hd d3;obtain rfl:=hA;refine wpList_load_row rfl 27 (.tmp 10) rfl A rfl 27 #[.int .i64 B.now,.slice a1 B.svcs.length k1,.slice a2 B.cps.length k2,.slice a3 B.bts.length k3] (0,0) _ (AK hW A0.out hA0) Tryz.underlying27 rfl Tryz.infosBkX ?_;go_wp2;exact hK.out _ brf
  refine Aq (λvv W=>∃b,vv=.map (some b)/\CopiesAt W b B B.cps.length) (λv W W2 ⟨b,h1,h2⟩ hb=>⟨b,h1,h2.blk (hb.block b h2.lt)⟩) ?_ ?_
  ·intro V W K A hW hd hA hK
   have d4:V 4=_:=hd 4 (by kernel_rfl);simp only[pA,d4]at hA;clear hd d4;obtain rfl:=hA
   go_wp2_with fail
   refine(Fb B a1 a2 a3 k1 k2 k3 W hF.small hF.sized hwc huc (V0.out.rows.at.below hW)).mono ?_;rintro e w2 ⟨rfl,hpl,hbq⟩;have HPL:Hid (CopiesAt w2 (W.heap.size+1) B B.cps.length):=hpl;clear hpl;go_wp2;exact hK.out _ _ hbq ⟨_,rfl,HPL.out⟩
  apply AQ
  ·intro V W K A hW hd hA hK
   simp only[pA]at hA;clear hd;obtain rfl:=hA;go_wp2;exact hK.out _ brf
  apply AQ
  ·intro V W K A hW hd hA hK
   have d6:V 6=_:=hd 6 (by kernel_rfl);simp only[pA,d6]at hA;clear hd d6;obtain rfl:=hA;have q1:=AJ (AK hW E0.out hz0) 1 rfl;have q2:=AJ (AK hW E0.out hz0) 2 rfl;go_wp2;exact hK.out _ brf
  apply AQ
  ·intro V W K A hW hd hA hK
   have d5:(λvv W=>∃b,vv=.map (some b)/\CopiesAt W b B B.cps.length) (V 5) W:=hd 5 (by kernel_rfl);have d7:V 7=_:=hd 7 (by kernel_rfl);simp only[pA,d7]at hA;clear hd d7;generalize V 5=x5 at d5 hA;obtain rfl:=hA;obtain⟨b,rfl,n,D,hn,hown,p1,p2⟩:=d5;have HH:Hid (Maps.has D (CY nm num)=true):=HPH.out D p1 p2;have HAK:Hid (D.atKey (CY nm num) (.lit (.int .i64 0))=.lit (.int .i64 (i:Int))):=HPA.out D p1 p2;clear p1 p2
   go_wp2_with (at_lookup;refine Ae _ rfl (.tmp 12) (.tmp 14) 121 rfl 95 3 .i64 numLaw Tryz.underlying121 Tryz.underlying3 (Bz _) b n D rfl hown _ _ rfl (Gk nm num hwf hnm) (i:Int) true HAK.out HH.out ?_)
   exact hK.out _ brf
  apply AQ
  ·intro V W K A hW hd hA hK
   have d8:V 8=_:=hd 8 (by kernel_rfl);simp only[pA,d8]at hA;clear hd d8;obtain rfl:=hA;go_wp2;exact hK.out _ brf
  apply AQ
  ·intro V W K A hW hd hA hK
   have d9:V 9=_:=hd 9 (by kernel_rfl);simp only[pA,d9]at hA;clear hd d9;obtain rfl:=hA;go_wp2;exact hK.out _ brf
  apply AQ
  ·intro V W K A hW hd hA hK
   have d9:V 9=_:=hd 9 (by kernel_rfl);simp only[pA,d9]at hA;clear hd d9;obtain rfl:=hA;go_wp2;exact hK.out _ brf
  apply AQ
  ·intro V W K A hW hd hA hK
   have d10:V 10=_:=hd 10 (by kernel_rfl);simp only[pA,d10]at hA;clear hd d10;obtain rfl:=hA;go_wp2;exact hK.out _ brf
  intro V W A hW hS hA;have d0:V 0=_:=hS 0 (by omega);have d1:V 1=_:=hS 1 (by omega);have d2:V 2=_:=hS 2 (by omega);have d3:V 3=_:=hS 3 (by omega);have d4:V 4=_:=hS 4 (by omega);have d5:(λvv W=>∃b,vv=.map (some b)/\CopiesAt W b B B.cps.length) (V 5) W:=hS 5 (by omega);have d6:V 6=_:=hS 6 (by omega);have d7:V 7=_:=hS 7 (by omega);have d8:V 8=_:=hS 8 (by omega);have d9:V 9=_:=hS 9 (by omega);have d10:V 10=_:=hS 10 (by omega);have d11:V 11=_:=hS 11 (by omega);have d12:V 12=_:=hS 12 (by omega);simp only[pA,d0,d1,d2,d3,d4,d6,d7,d8,d9,d10,d11,d12]at hA;clear hS d0 d1 d2 d3 d4 d6 d7 d8 d9 d10 d11 d12;generalize V 5=x5 at d5 hA;obtain rfl:=hA;simp only[List.drop_succ_cons,List.drop_zero];have hbW:=hb0.trans (hW.mono hb0.size);have VW:=Ah (V0.out.below hW);have EW:Hid (W.heap[w.heap.size]?=some (.cells #[.pointer (some ⟨A,0,none⟩),.string nm,.int .i64 num] 97 (0,0))):=AK hW E0.out hz0;have AW:Hid (W.heap[A]?=some (.cells #[.int .i64 B.now,.slice a1 B.svcs.length k1,.slice a2 B.cps.length k2,.slice a3 B.bts.length k3] 27 (0,0))):=AK hW A0.out hA0;obtain⟨g,ea,hNg,hr⟩:=VW.out.rows.cps.some (by omega);have HR:Hid (RowIs W 49 7 g B.cps.length k2 (As B.cps)):=hr;have hcap:=hr.2.1;have e2:W.cell? ⟨A,2,none⟩=some (.slice (some ⟨g,0,none⟩) B.cps.length k2):=by have h:=AJ AW.out 2 rfl;rw[ea]at h;exact h
  have HEA:Hid (a2=some ⟨g,0,none⟩):=ea;have q0:=AJ EW.out 0 rfl;have y4:=HR.out.cell (AT (c:=Cp.cells) (n:=7) (λ_=>rfl) B.cps i c 4 (.int .i64 c.state) HIC.out rfl);clear hr ea HPH HPA hb0 V0 E0 A0 hz0 hA0 hW
  by_cases hst:c.state=3\/c.state=2
  ·have HL:Hid (fr=({B with now:=B.now,cps:=B.cps.set i {c with state:=4,version:=B.now}},0)):=by unfold Hid;rw[<-HFR.out];unfold Bm;rw[HAT.out];simp only;rw[if_pos hst]
   have h32:(c.state !=3)=false\/((c.state !=3)=true/\(c.state !=2)=false):=by rcases hst with h|h<;>simp[h]
   clear hst;rcases h32 with h3|⟨h3,h2⟩
   ·go_upto_region 7 with fail
    go_wp2_with fail
    refine(GR B.now 4 A g i B.cps.length k2 (.slice a1 B.svcs.length k1) (.slice a2 B.cps.length k2) (.slice a3 B.bts.length k3) B.cps c W AW.out HR.out rfl HIC.out).mono ?_;rintro e w2 ⟨rfl,hr2,hkp,hb2⟩;have HKP:Hid _:=hkp;have R2:Hid (RowIs w2 49 7 g B.cps.length k2 (As (B.cps.set i {c with state:=4,version:=B.now}))):=hr2;have hsz:=hb2.size;clear hkp hr2 q0 e2 y4;have HRO:Hid (RowOnly a2 N W w2):=⟨λq hq hne=>HKP.out q hq (λe=>hne (by rw[HEA.out,e])),hsz,hb2.mono' hNg⟩;have HA2:Hid (a2≠some ⟨A,0,none⟩):=VW.out.rows.cps.ne AW.out (by decide)
    have HV:Hid (BkVar w2 N A {B with now:=B.now,cps:=B.cps.set i {c with state:=4,version:=B.now}} a1 a2 a3 k1 k2 k3):=by
     have hB:=VW.out.rows;refine⟨VW.out.lo,?_,hB.svcs.rowOnly HRO.out hB.cps (by decide),?_,hB.bts.rowOnly HRO.out hB.cps (by decide)⟩
     ·have h:=(HRO.out.block A (AB AW.out).1 HA2.out).trans AW.out;simpa using h
     ·exact .inr ⟨g,HEA.out,hNg,by have h:=R2.out;simpa using h⟩
    have hbf:Below N w w2:=(hbW.mono' hN).trans HRO.out.below;clear HRO HA2 VW AW EW HR R2 HKP;go_wp2;go_ret;exact⟨by rw[HL.out];rfl,λ_=>by rw[HL.out];exact⟨_,_,_,_,_,_,HV.out⟩,hbf⟩
   ·go_upto_region 7 with fail
    go_wp2_with fail
    refine(GR B.now 4 A g i B.cps.length k2 (.slice a1 B.svcs.length k1) (.slice a2 B.cps.length k2) (.slice a3 B.bts.length k3) B.cps c W AW.out HR.out rfl HIC.out).mono ?_;rintro e w2 ⟨rfl,hr2,hkp,hb2⟩;have HKP:Hid _:=hkp;have R2:Hid (RowIs w2 49 7 g B.cps.length k2 (As (B.cps.set i {c with state:=4,version:=B.now}))):=hr2;have hsz:=hb2.size;clear hkp hr2 q0 e2 y4;have HRO:Hid (RowOnly a2 N W w2):=⟨λq hq hne=>HKP.out q hq (λe=>hne (by rw[HEA.out,e])),hsz,hb2.mono' hNg⟩;have HA2:Hid (a2≠some ⟨A,0,none⟩):=VW.out.rows.cps.ne AW.out (by decide)
    have HV:Hid (BkVar w2 N A {B with now:=B.now,cps:=B.cps.set i {c with state:=4,version:=B.now}} a1 a2 a3 k1 k2 k3):=by
     have hB:=VW.out.rows;refine⟨VW.out.lo,?_,hB.svcs.rowOnly HRO.out hB.cps (by decide),?_,hB.bts.rowOnly HRO.out hB.cps (by decide)⟩
     ·have h:=(HRO.out.block A (AB AW.out).1 HA2.out).trans AW.out;simpa using h
     ·exact .inr ⟨g,HEA.out,hNg,by have h:=R2.out;simpa using h⟩
    have hbf:Below N w w2:=(hbW.mono' hN).trans HRO.out.below;clear HRO HA2 VW AW EW HR R2 HKP;go_wp2;go_ret;exact⟨by rw[HL.out];rfl,λ_=>by rw[HL.out];exact⟨_,_,_,_,_,_,HV.out⟩,hbf⟩
  ·have HL:Hid (fr=(B,3)):=by unfold Hid;rw[<-HFR.out];unfold Bm;rw[HAT.out];simp only;rw[if_neg hst]
   have h3:(c.state !=3)=true:=by simp only[bne_iff_ne];exact λh=>hst (.inl h)
   have h2:(c.state !=2)=true:=by simp only[bne_iff_ne];exact λh=>hst (.inr h)
   clear hst;go_wp2;go_ret;exact⟨by rw[HL.out];rfl,λh=>absurd h (by rw[HL.out];simp),hbW.mono' hN⟩
end
end Go.Proofs.YtbceafpodamnfaaGreat
