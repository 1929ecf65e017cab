import Derived.Test.YtbceafpodamnfaaGreatDoorG12
import Derived.Maps.OwnSet
import Derived.DeepKeys5
set_option linter.all false
set_option maxHeartbeats 16000000
set_option maxRecDepth 100000
namespace Go.Proofs.YtbceafpodamnfaaGreatDoor
section
open Go.RowKit Go.Sort Go.Maps
theorem Im:laidOutB Tryz.prog=true:=by kernel_rfl
theorem OH:(181:TypeId)<Tryz.prog.types.size:=gK (by kernel_rfl)
theorem Rr:(match Tryz.prog.underlying 181 with|some (.array _ _)|some (.struct _)=>true|_=>false)=true:=by kernel_rfl
theorem thingLaw:Keyed Tryz.prog 181:=Keyed.of_law (deep_law_laid Im (m:=3) (by omega) OH (by kernel_rfl) Rr)
theorem Kj:Tryz.prog.cellsOf 181=2:=by kernel_rfl
theorem thingKey:Tryz.prog.keyType 181=true:=by kernel_rfl
theorem Ov:Tryz.prog.cellsOf 3=1:=by kernel_rfl
theorem Jc:Tryz.prog.cellsOf 9=1:=by kernel_rfl
theorem Ck(w:World):(zeroValue 3).run Tryz.prog w=.ok (.int .i64 0) w:=by kernel_rfl
def key(kd:Int)(s:qB):Lit:=.string (keyBytes [.int .i64 kd,.string s.data.toList])
theorem Cn(kd:Int)(s:qB)(hk:(Lit.int .i64 kd).wf=true)(hs:s.size<=maxLen):keyOf Tryz.prog 181 (.agg #[.int .i64 kd,.string s])=some (key kd s):=by
 have hf:(Value.agg #[.int .i64 kd,.string s]).formed Tryz.prog 181=true:=by
  simp[Value.formed,Tryz.underlying181,Kj]
 unfold keyOf;rw[Tryz.underlying181];simp only[thingKey,hf,Bool.and_self,gM];generalize hn:Tryz.prog.types.size=n
 match n,hn with
 |0,hn=>have:=OH;rw[hn]at this;exact absurd this (gr _)
 |n+1,_=>
  simp[Program.keyLits,Tryz.underlying181,Kj,Ov,Jc,Tryz.underlying3,Tryz.underlying9,Value.cells,hk,hs,key]
theorem RM{kd kd':Int}{s s':qB}(hk:(Lit.int .i64 kd).wf=true)(hk':(Lit.int .i64 kd').wf=true)(hs:s.size<=maxLen)(hs':s'.size<=maxLen)(h:key kd s=key kd' s'):kd=kd'/\s=s':=by
 have h1:=Cn kd s hk hs;have h2:=Cn kd' s' hk' hs';rw[<-h]at h2;have:=thingLaw.inj h1 h2
 simpa using this
theorem HU(n:Int)(w:World):(Instr.makeMap 141 (some (.int .i64 n))).run Tryz.prog w=.ok (.map (some w.heap.size)) (w.alloc (.map #[] 0)):=by
 simp[Instr.makeMap,fC Tryz.underlying141,asInt,asIntOf]
theorem wf1:(Lit.int .i64 1).wf=true:=by decide
theorem wf2:(Lit.int .i64 2).wf=true:=by decide
theorem Dr(kd:Int)(s:qB):WideAt.IsKeyLit (key kd s):=trivial
theorem Cg{kd:Int}{s s':qB}(hk:(Lit.int .i64 kd).wf=true)(hs:s.size<=maxLen)(hs':s'.size<=maxLen)(h:s≠s'):key kd s≠key kd s':=λe=>h (RM hk hk hs hs' e).2
theorem Ch{s s':qB}(hs:s.size<=maxLen)(hs':s'.size<=maxLen):key 1 s≠key 2 s':=λe=>absurd (RM wf1 wf2 hs hs' e).1 (by decide)
def HD(B:Bk):Prop:=∀(i j:Nat) s t,i<j->B.af[i]?=some s->B.af[j]?=some t->s.name≠t.name
def PlacesAt(w:World)(b:Nat)(B:Bk)(ks kb:Nat):Prop:=∃(n:Nat) (D:DataW Unit),n<=ks+kb/\w.ownsMap Tryz.prog 181 (plainElem Tryz.prog 3) b n D/\
 (∀x:ByteArray,x.size<=maxLen->(∀(i:Nat) s,i<ks->B.af[i]?=some s->s.name≠x)->Maps.has D (key 1 x)=false)/\
 (∀(i:Nat) s,i<ks->B.af[i]?=some s->Maps.has D (key 1 s.name)=true/\D.atKey (key 1 s.name) (.lit (.int .i64 0))=.lit (.int .i64 i))/\
 (∀x:ByteArray,x.size<=maxLen->(∀(i:Nat) s,i<kb->B.ak[i]?=some s->s.name≠x)->Maps.has D (key 2 x)=false)/\
 (∀(i:Nat) s,i<kb->B.ak[i]?=some s->Maps.has D (key 2 s.name)=true)
theorem PlacesAt.aR{w w':World}{b:Nat}{B:Bk}{ks kb:Nat}(h:PlacesAt w b B ks kb)(hb:w'.heap[b]?=w.heap[b]?):PlacesAt w' b B ks kb:=by
 obtain⟨n,D,hn,⟨es,clock,he,F,hs,hD⟩,r⟩:=h;exact⟨n,D,hn,⟨es,clock,by rw[hb];exact he,F,hs,hD⟩,r⟩
theorem PlacesAt.below{w w':World}{b N:Nat}{B:Bk}{ks kb:Nat}(h:PlacesAt w b B ks kb)(hb:Below N w w')(hN:b<N):PlacesAt w' b B ks kb:=h.aR (hb.block b hN)
theorem PlacesAt.lt{w:World}{b:Nat}{B:Bk}{ks kb:Nat}(h:PlacesAt w b B ks kb):b<w.heap.size:=by
 obtain⟨n,D,hn,hown,_⟩:=h;exact hown.lt
theorem PlacesAt.start(w:World)(B:Bk):PlacesAt (w.alloc (.map #[] 0)) w.heap.size B 0 0:=
 ⟨0,.map [],AG _,World.ownsMap_made w _ _ _,λ_ _ _=>rfl,λi s hi=>absurd hi (by omega),λ_ _ _=>rfl,λi s hi=>absurd hi (by omega)⟩
theorem PlacesAt.cw{w':World}{b:Nat}{B:Bk}{k n:Nat}{D:DataW Unit}{s:Svc}(hz:∀s∈B.af,s.name.size<=maxLen)(_hzb:∀s∈B.ak,s.name.size<=maxLen)(hu:HD B)(hsk:B.af[k]?=some s)
  (hn:n<=k+0) (h1:∀x:ByteArray,x.size<=maxLen->(∀(i:Nat) s,i<k->B.af[i]?=some s->s.name≠x)->Maps.has D (key 1 x)=false)
  (h2:∀(i:Nat) s,i<k->B.af[i]?=some s->Maps.has D (key 1 s.name)=true/\D.atKey (key 1 s.name) (.lit (.int .i64 0))=.lit (.int .i64 i))
  (h3:∀x:ByteArray,x.size<=maxLen->(∀(i:Nat) s,i<0->B.ak[i]?=some s->s.name≠x)->Maps.has D (key 2 x)=false)
  (hD:IsMap D)
  (hown:w'.ownsMap Tryz.prog 181 (plainElem Tryz.prog 3) b (n+1) (D.put (key 1 s.name) (.lit (.int .i64 (k:Int))))):PlacesAt w' b B (k+1) 0:=by
 have hss:=hz s (AE hsk);refine⟨n+1,_,by omega,hown,λx hx hno=>?_,λi t hi ht=>?_,λx hx hno=>?_,λi t hi=>absurd hi (by omega)⟩
 ·rw[has_put_other (Cg wf1 hx hss (λe=>hno k s (by omega) hsk e.symm))]
  exact h1 x hx λi t hi ht=>hno i t (by omega) ht
 ·rcases eG i k with h'|h'
  ·have hts:=hz t (AE ht)
   have hne:=Cg wf1 hts hss (hu i k t s h' ht hsk);rw[has_put_other hne,atKey_put_other hne];exact h2 i t h' ht
  ·have e:i=k:=by omega
   subst e;rw[hsk]at ht;cases ht;exact⟨has_put_same hD (Dr _ _) _,atKey_put_same hD (Dr _ _) _ _⟩
 ·rw[has_put_other (λe=>Ch hss hx e.symm)]
  exact h3 x hx λi t hi=>absurd hi (by omega)
theorem PlacesAt.cA{w':World}{b:Nat}{B:Bk}{ks k n:Nat}{D:DataW Unit}{s:Bt}(hz:∀s∈B.af,s.name.size<=maxLen)(hzb:∀s∈B.ak,s.name.size<=maxLen)(hsk:B.ak[k]?=some s)
  (hn:n<=ks+k) (h1:∀x:ByteArray,x.size<=maxLen->(∀(i:Nat) s,i<ks->B.af[i]?=some s->s.name≠x)->Maps.has D (key 1 x)=false)
  (h2:∀(i:Nat) s,i<ks->B.af[i]?=some s->Maps.has D (key 1 s.name)=true/\D.atKey (key 1 s.name) (.lit (.int .i64 0))=.lit (.int .i64 i))
  (h3:∀x:ByteArray,x.size<=maxLen->(∀(i:Nat) s,i<k->B.ak[i]?=some s->s.name≠x)->Maps.has D (key 2 x)=false)
  (h4:∀(i:Nat) s,i<k->B.ak[i]?=some s->Maps.has D (key 2 s.name)=true)
  (hD:IsMap D) (d:DataW Unit)
  (hown:w'.ownsMap Tryz.prog 181 (plainElem Tryz.prog 3) b (n+1) (D.put (key 2 s.name) d)):PlacesAt w' b B ks (k+1):=by
 have hss:=hzb s (AE hsk);refine⟨n+1,_,by omega,hown,λx hx hno=>?_,λi t hi ht=>?_,λx hx hno=>?_,λi t hi ht=>?_⟩
 ·rw[has_put_other (Ch hx hss)]
  exact h1 x hx hno
 ·have hts:=hz t (AE ht)
  rw[has_put_other (Ch hts hss),atKey_put_other (Ch hts hss)];exact h2 i t hi ht
 ·rw[has_put_other (Cg wf2 hx hss (λe=>hno k s (by omega) hsk e.symm))]
  exact h3 x hx λi t hi ht=>hno i t (by omega) ht
 ·by_cases he:t.name=s.name
  ·rw[he];exact has_put_same hD (Dr _ _) _
  ·have hts:=hzb t (AE ht)
   rw[has_put_other (Cg wf2 hts hss he)];rcases eG i k with h'|h'
   ·exact h4 i t h' ht
   ·have e:i=k:=by omega
    subst e;rw[hsk]at ht;cases ht;exact absurd rfl he
theorem IP(B:Bk)(a1 a2 a3:qO)(c1 c2 c3:Nat)(w:World)(hS:B.aJ)(hZ:B.aD)(hU:HD B)(hB:BkAt w a1 a2 a3 B):
  Calls Tryz.prog 92 #[.agg #[.int .i64 B.aj,.slice a1 B.af.length c1,.slice a2 B.ah.length c2,.slice a3 B.ak.length c3]] w λe w'=>e=.returned (.map (some (w.heap.size+1)))/\PlacesAt w' (w.heap.size+1) B B.af.length B.ak.length/\Below w.heap.size w w':=by
 obtain⟨a9,bf,aT⟩:=hS;have aF:=HU;obtain⟨t0,t1,t2⟩:=B1 w (.cells (qbV B a1 c1 a2 c2 a3 c3) 28) (.map #[] 0);have T0:Hid _:=t0
 have T1:Hid (PlacesAt ((w.alloc (.cells (qbV B a1 c1 a2 c2 a3 c3) 28)).alloc (.map #[] 0)) (w.heap.size+1) B 0 0):=by
  have:=PlacesAt.start (w.alloc (.cells (qbV B a1 c1 a2 c2 a3 c3) 28)) B;have e:(w.alloc (.cells (qbV B a1 c1 a2 c2 a3 c3) 28)).heap.size=w.heap.size+1:=by show(w.heap.push _).size=_;simp
  rw[e]at this;exact this
 clear t0 t1 t2;go_enter Tryz.func92,Tryz.ntmps92;go_wp2;clear aF
 go_loopw [19] (λiv wr=>∃k:Nat,k<=B.af.length/\iv=.int .i64 k/\Below w.heap.size w wr/\Hid (qBl wr (w.heap.size) (qbV B a1 c1 a2 c2 a3 c3) 28)/\Hid (PlacesAt wr (w.heap.size+1) B k 0)) (λi _=>B.af.length - (intOf i).toNat)
 case atStart=>exact⟨0,by omega,rfl,((dI _ _).alloc (AG _) _).alloc (by simp) _,T0,T1⟩
 case round=>
  obtain⟨k,hk,rfl,hb,H,W⟩:=hrel;have am:w.heap.size+1<wr.heap.size:=W.O.lt
  by_cases Y:k<B.af.length
  ·have ak:B.af≠[]:=by intro h;rw[h]at Y;simp at Y
   obtain⟨b,off,ea,ar,ai⟩:=hB.1 ak;subst ea;obtain⟨s,J⟩:∃s,B.af[k]?=some s:=⟨B.af[k],by simp[Y]⟩;have ah:=hZ.2.2.2.1 s (AE J);have au:Hid _:=J;have af:=(ai k s J).below hb ar;unfold SvcAt at af;obtain⟨x0,x1,x2,x3,x4,x5,x6,x7,x8,x9,bi,bb,a5⟩:=af;obtain⟨n,D,hn,M,h1,h2,h3,h4⟩:=W.O;have H1:Hid _:=h1;have H2:Hid _:=h2;have H3:Hid _:=h3;have an:n<maxLen:=by unfold maxLen;omega
   clear J ai ak h1 h2 h3 h4
   go_wp2_with (at_mapUpdate;refine wpList_mapUpdate_own _ rfl (.tmp 24) (.tmp 27) (.tmp 28) 141 rfl 181 3 thingLaw Tryz.underlying141 (plainElem Tryz.prog 3) (w.heap.size+1) n D rfl (M.alloc _) an _ _ _ rfl rfl (Cn 1 s.name wf1 ah) _ [] (plainElem_int Tryz.underlying3 (gS (by omega))) ?_;intro w1 Z F)
   have al:(wr.alloc (.cells (qsV s) 34)).heap.size=wr.heap.size+1:=by show(wr.heap.push _).size=_;simp
   have aq:Below w.heap.size w w1:=(hb.alloc hb.size _).grown F (by rw[al];omega) (λj hj=>by cases hj;omega);have aa:Hid _:=(F.block w.heap.size (by rw[al];omega) (λe=>by have:=dg e;omega)).trans (AK (AN wr (.cells (qsV s) 34)) H.O (by omega));have ag:Hid _:=PlacesAt.cw hZ.2.2.2.1 hZ.2.2.2.2.2 hU au.O hn H1.O H2.O H3.O M.isMap Z
   go_roundw
   case rel=>exact⟨k+1,by omega,by go_num,aq,aa,ag⟩
   case measure=>simp[intOf];omega
  ·have av:k=B.af.length:=by omega
   subst av;have e3:=AJ H.O 3 rfl;go_wp2;clear e3
   go_loopw [33] (λiv wr=>∃k:Nat,k<=B.ak.length/\iv=.int .i64 k/\Below w.heap.size w wr/\Hid (qBl wr (w.heap.size) (qbV B a1 c1 a2 c2 a3 c3) 28)/\Hid (PlacesAt wr (w.heap.size+1) B B.af.length k)) (λi _=>B.ak.length - (intOf i).toNat)
   case atStart=>exact⟨0,by omega,rfl,hb,H,W⟩
   case round=>
    clear hb H W am Y;rename_i a7 _;obtain⟨k,hk,rfl,hb,H,W⟩:=hrel;have am:w.heap.size+1<wr.heap.size:=W.O.lt
    by_cases Y:k<B.ak.length
    ·have ak:B.ak≠[]:=by intro h;rw[h]at Y;simp at Y
     obtain⟨b,off,ea,ar,ai⟩:=hB.2.2 ak;subst ea;obtain⟨s,J⟩:∃s,B.ak[k]?=some s:=⟨B.ak[k],by simp[Y]⟩;have ah:=hZ.2.2.2.2.2 s (AE J);have au:Hid _:=J;have af:=(ai k s J).below hb ar;unfold BtAt at af;obtain⟨x0,x1⟩:=af;obtain⟨n,D,hn,M,h1,h2,h3,h4⟩:=W.O;have H1:Hid _:=h1;have H2:Hid _:=h2;have H3:Hid _:=h3;have H4:Hid _:=h4;have an:n<maxLen:=by unfold maxLen;omega
     clear J ai ak h1 h2 h3 h4
     go_wp2_with (at_mapUpdate;refine wpList_mapUpdate_own _ rfl (.tmp 38) (.tmp 41) (.tmp 42) 141 rfl 181 3 thingLaw Tryz.underlying141 (plainElem Tryz.prog 3) (w.heap.size+1) n D rfl (M.alloc _) an _ _ _ rfl rfl (Cn 2 s.name wf2 ah) _ [] (plainElem_int Tryz.underlying3 (gS (by omega))) ?_;intro w1 Z F)
     have al:(wr.alloc (.cells #[.string s.name,.bool s.aS] 90)).heap.size=wr.heap.size+1:=by show(wr.heap.push _).size=_;simp
     have aq:Below w.heap.size w w1:=(hb.alloc hb.size _).grown F (by rw[al];omega) (λj hj=>by cases hj;omega);have aa:Hid _:=(F.block w.heap.size (by rw[al];omega) (λe=>by have:=dg e;omega)).trans (AK (AN wr (.cells #[.string s.name,.bool s.aS] 90)) H.O (by omega));have ag:Hid _:=PlacesAt.cA hZ.2.2.2.1 hZ.2.2.2.2.2 au.O hn H1.O H2.O H3.O H4.O M.isMap _ Z
     go_roundw
     case rel=>exact⟨k+1,by omega,by go_num,aq,aa,ag⟩
     case measure=>simp[intOf];omega
    ·go_wp2
     go_ret;have av:k=B.ak.length:=by omega
     subst av;exact⟨rfl,W.O,hb⟩
theorem same_name{a b:qB}:(a.toList==b.toList)=true↔a=b:=by
 rw[fq,fM,fM];constructor
 ·intro h
  cases a;cases b;simp only[ByteArray.mk.injEq];exact Array.toList_inj.1 h
 ·intro h;rw[h]
theorem SF{D:DataW Unit}{B:Bk}{x:qB}(hx:x.size<=maxLen)
  (W:∀x:ByteArray,x.size<=maxLen->(∀(i:Nat) s,i<B.ak.length->B.ak[i]?=some s->s.name≠x)->Maps.has D (key 2 x)=false)
  (M:∀(i:Nat) s,i<B.ak.length->B.ak[i]?=some s->Maps.has D (key 2 s.name)=true):Maps.has D (key 2 x)=B.ak.any λb=>b.name.toList==x.toList:=by
 cases h:B.ak.any λb=>b.name.toList==x.toList with
 |true=>
  obtain⟨s,F,J⟩:=fm.1 h;obtain⟨i,H,rfl⟩:=iR.1 F;have e:=same_name.1 J;rw[<-e];exact M i _ H (dj H)
 |false=>
  rw[List.any_eq_false]at h;exact W x hx λi s H F e=>h s (AE F) (same_name.2 e)
theorem Eh{B:Bk}{x:qB}(h:Ah B x=none):∀(i:Nat) s,i<B.af.length->B.af[i]?=some s->s.name≠x:=λi s _ F e=>by
 unfold Ah at h;rw[fP]at h;exact h s (AE F) (same_name.2 e)
theorem Fg{B:Bk}{x:qB}{s:Svc}(h:Ah B x=some s):∃i:Nat,i<B.af.length/\B.af[i]?=some s/\s.name=x:=by
 unfold Ah at h;obtain⟨i,F,_⟩:=Co h;exact⟨i,(AC F).1,F,same_name.1 (fN (p:=λs:Svc=>s.name.toList==x.toList) h)⟩
theorem BO(B:Bk)(c:Cp)(b:Nat)(w:World)(W:c.aA.size<=maxLen)(hP:PlacesAt w b B B.af.length B.ak.length):
  Calls Tryz.prog 134 #[.agg (qcV c),.map (some b)] w λe w'=>e=.returned (.bool (Ca B.ak c))/\Below w.heap.size w w':=by
 by_cases F:c.ax=1
 ·have J:Hid (c.ax=1):=F
  have M:(c.ax==1)=true:=by simp[F]
  clear F;go_enter Tryz.func134,Tryz.ntmps134;go_wp2;go_ret;exact⟨AR (by simp[Ca,J.O]),AN _ _⟩
 ·have J:Hid (¬c.ax=1):=F
  have M:(c.ax==1)=false:=by simp[F]
  clear F;obtain⟨n,D,hn,H,h1,h2,Y,Z⟩:=hP;have HB:Hid (Maps.has D (key 2 c.aA)=B.ak.any λb=>b.name.toList==c.aA.toList):=SF W Y Z;clear h1 h2 Y Z;go_enter Tryz.func134,Tryz.ntmps134
  go_wp2_with (at_lookup;refine wpList_lookup_own_ok_int _ rfl (.tmp 14) (.tmp 17) 141 rfl 181 3 .i64 thingLaw Tryz.underlying141 Tryz.underlying3 (Ck _) b n D rfl (H.alloc _) _ _ rfl (Cn 2 c.aA wf2 W) ?_;intro z ag af)
  go_ret;exact⟨AR (by rw[HB.O];simp[Ca,J.O]),AN _ _⟩
theorem Ao{H:Type}{P:Program}(w:World){ops:Array Oper}{rest:List Oper}{o:Oper}{a:Act}{Q:Exit->Act->World->Prop}(hg:o.guard=none)(m x:Operand)(t:TypeId)(aa:o.op=Op.lookup t m x true)
  (k e:TypeId) (q:IntKind) (K:Keyed P k) (ht:P.underlying t=some (.map k e)) (he:P.underlying e=some (.int q)) (hz:(zeroValue e).run P w=.ok (.int q 0) w) (b n:Nat) (D:DataW H)
  (hm:a.eval m=.map (some b)) (M:w.ownsMap P k (plainElem P e) b n D) (key:Value) (W:Lit) (hx:a.eval x=key) (J:keyOf P k key=some W)
  (c0:Int) (bb:Bool) (Z:D.atKey W (.lit (.int q 0))=.lit (.int q c0)) (F:Maps.has D W=bb)
  (hK:wpList P ops Q rest (a.put o.dst (.tuple #[.int q c0,.bool bb])) w):wpList P ops Q (o::rest) a w:=
 wpList_lookup_own_ok_int w hg m x t aa k e q K ht he hz b n D hm M key W hx J (λc hc _=>by
  rw[Z]at hc;have Y:c0=c:=by simpa using hc
  subst Y;rw[F]
  exact hK)
theorem LZ(B:Bk)(a1 a2 a3:qO)(c1 c2 c3:Nat)(w:World)(hS:B.aJ)(hZ:B.aD)(hU:HD B)(hB:BkAt w a1 a2 a3 B)(au:B.af=[]):
  Calls Tryz.prog 73 #[.agg (qbV B a1 c1 a2 c2 a3 c3)] w λe w'=>e=.returned (.bool (BI (A5 B) B.ah.length))/\Below w.heap.size w w':=by
 have ax:Hid (B.af=[]):=au;clear au;have bm:=hS;obtain⟨co,cm,cc⟩:=bm;have T0:Hid _:=dm w (.cells (qbV B a1 c1 a2 c2 a3 c3) 28);have aM:=AN w (.cells (qbV B a1 c1 a2 c2 a3 c3) 28);have aW:(w.alloc (.cells (qbV B a1 c1 a2 c2 a3 c3) 28)).heap.size=w.heap.size+1:=by show(w.heap.push _).size=_;simp
 have a4:Hid _:=aW;clear aW;go_enter Tryz.func73,Tryz.ntmps73
 go_wp2_with fail
 refine(IP B _ a2 a3 c1 c2 c3 _ hS hZ hU (hB.below aM)).mono ?_;rintro e w0 ⟨rfl,ak,an⟩;rw[a4.O]at ak an;rw[a4.O];have av:=aM.trans (an.mono (by omega));have aE:Hid _:=AK an T0.O (by omega);have a6:Hid _:=ak;have e2:=AJ aE.O 2 rfl;clear ak an;go_wp2;clear e2
 go_loopw [13] (λiv wr=>∃k:Nat,k<=B.ah.length/\iv=.int .i64 k/\Below w.heap.size w wr/\Hid (qBl wr (w.heap.size) (qbV B a1 c1 a2 c2 a3 c3) 28)/\Hid (PlacesAt wr (w.heap.size+1+1) B B.af.length B.ak.length)/\Hid (∀i,i<k->A5 B i=true)) (λi _=>B.ah.length - (intOf i).toNat)
 case atStart=>exact⟨0,by omega,rfl,av,aE,a6,λi hi=>absurd hi (by omega)⟩
 case round=>
  clear av aE a6;obtain⟨k,hk,rfl,hb,a7,bf,a5⟩:=hrel;have aS:w.heap.size+1+1<wr.heap.size:=bf.O.lt
  by_cases ah:k<B.ah.length
  ·have aG:B.ah≠[]:=by intro h;rw[h]at ah;simp at ah
   obtain⟨b,off,ea,a8,am⟩:=hB.2.1 aG;subst ea;obtain⟨s,aq⟩:∃s,B.ah[k]?=some s:=⟨B.ah[k],by simp[ah]⟩;have af:=hZ.2.2.2.2.1 s (AE aq);have aL:Hid _:=aq;have bi:=(am k s aq).below hb a8;unfold CpAt at bi;obtain⟨x0,x1,x2,x3,x4,x5,x6⟩:=bi;have ai:Below w.heap.size w (wr.alloc (.cells (qcV s) 76)):=hb.alloc hb.size _;have W:Hid ((wr.alloc (.cells (qcV s) 76)).heap.size=wr.heap.size+1):=by show(wr.heap.push _).size=_;simp
   have M:Hid _:=dm wr (.cells (qcV s) 76);have az:=AN wr (.cells (qcV s) 76);have Z:Hid _:=AK az a7.O (by omega);have aw:Hid (PlacesAt (wr.alloc (.cells (qcV s) 76)) (w.heap.size+1+1) B B.af.length B.ak.length):=bf.O.below az aS;clear aq
   by_cases aI:k=0
   ·have cg:Hid (k=0):=aI
    have hz:decide (0<k)=false:=by simp;omega
    clear aI am aG;go_wp2;clear x0 x1 x2 x3 x4 x5 x6;refine ji (by kernel_rfl) (by kernel_rfl) ?_
    repeat (first|go_big_quiet_step (fail)|quiet_step (fail))
    refine jk ?_;intro w2 J;obtain⟨⟨dq,ar⟩,F⟩:=J;have H:Below (wr.alloc (.cells (qcV s) 76)).heap.size (wr.alloc (.cells (qcV s) 76)) w2:=by rw[F];exact jj _ _ _
    clear F;have Y:=ai.trans (H.mono ai.size);have aH:Hid _:=AK H M.O (by rw[W.O];omega);have aT:Hid _:=AK H Z.O (by rw[W.O];omega);have aK:Hid (PlacesAt w2 (w.heap.size+1+1) B B.af.length B.ak.length):=aw.O.below H (by rw[W.O];omega);have bY:wr.heap.size<w2.heap.size:=by have:=H.size;rw[W.O]at this;omega
    have r0:=AJ aH.O 0 rfl;obtain⟨n,D,hn,aa,h1,h2,h3,h4⟩:=aK.O;have H1:Hid _:=h1;have H2:Hid _:=h2;clear h1 h2 h3 h4;have hf:Ah B s.aa=none:=by unfold Ah;rw[ax.O];rfl
    have al:Hid (A5 B k=false):=by unfold Hid A5;rw[aL.O];simp[cpB,hf]
    have HH:Hid (Maps.has D (key 1 s.aa)=false):=H1.O s.aa af.1 (Eh hf);have HA:Hid (D.atKey (key 1 s.aa) (.lit (.int .i64 0))=.lit (.int .i64 0)):=atKey_of_not_has HH.O _
    go_wp2_with (at_lookup;refine Ao _ rfl (.tmp 32) (.tmp 35) 141 rfl 181 3 .i64 thingLaw Tryz.underlying141 Tryz.underlying3 (Ck _) (w.heap.size+1+1) n D rfl aa _ _ rfl (Cn 1 s.aa wf1 af.1) 0 false HA.O HH.O ?_)
    refine ji (by kernel_rfl) (by kernel_rfl) ?_
    repeat (first|go_big_quiet_step (fail)|quiet_step (fail))
    refine jk ?_;intro w3 J;obtain⟨⟨dq,ar⟩,F⟩:=J;have ay:Below w2.heap.size w2 w3:=by rw[F];exact jj _ _ _
    clear F;go_wp2;go_ret;exact⟨AR (Am ah al.O).symm,Y.trans (ay.mono Y.size)⟩
   obtain⟨k',rfl⟩:∃k',k=k'+1:=⟨k - 1,by omega⟩;clear aI;obtain⟨p,aF⟩:∃p,B.ah[k']?=some p:=⟨B.ah[k']'(by omega),by rw[dj]⟩;have bl:Hid _:=aF;obtain⟨y0,y1,y2,y3,y4,y5,y6⟩:=((am k' p aF).below (hb.trans (az.mono hb.size)) a8).grown;have bO:=Aq M.O 0 rfl;have b0:=Aq M.O 1 rfl;have bq:=Aq M.O 2 rfl;have bt:=Aq M.O 3 rfl;have bx:=Aq M.O 4 rfl;have bZ:=Aq M.O 5 rfl;have bS:=Aq M.O 6 rfl;have bB:=Aq Z.O 2 rfl;clear aF am aG;cases aA:Ak p s
   ·have al:Hid (A5 B (k'+1)=false):=by unfold Hid A5;rw[aL.O];simp[bl.O,aA]
    go_wp2;clear x0 x1 x2 x3 x4 x5 x6;refine ji (by kernel_rfl) (by kernel_rfl) ?_
    repeat (first|go_big_quiet_step (exact jh (CF p s _))|quiet_step (exact jh (CF p s _)))
    refine jk ?_;intro w2 J;obtain⟨⟨dq,ar⟩,F⟩:=J;have H:Below (wr.alloc (.cells (qcV s) 76)).heap.size (wr.alloc (.cells (qcV s) 76)) w2:=by rw[F];exact jj _ _ _
    clear F;go_wp2;go_ret;exact⟨AR (Am ah al.O).symm,ai.trans (H.mono ai.size)⟩
   ·have b7:Hid (Ak p s=true):=aA
    go_wp2;clear x0 x1 x2 x3 x4 x5 x6;refine ji (by kernel_rfl) (by kernel_rfl) ?_
    repeat (first|go_big_quiet_step (exact jh (CF p s _))|quiet_step (exact jh (CF p s _)))
    refine jk ?_;intro w2 J;obtain⟨⟨dq,ar⟩,F⟩:=J;have H:Below (wr.alloc (.cells (qcV s) 76)).heap.size (wr.alloc (.cells (qcV s) 76)) w2:=by rw[F];exact jj _ _ _
    clear F;clear bO b0 bq bt bx bZ bS bB aA y0 y1 y2 y3 y4 y5 y6;have Y:=ai.trans (H.mono ai.size);have aH:Hid _:=AK H M.O (by rw[W.O];omega);have aT:Hid _:=AK H Z.O (by rw[W.O];omega);have aK:Hid (PlacesAt w2 (w.heap.size+1+1) B B.af.length B.ak.length):=aw.O.below H (by rw[W.O];omega);have bY:wr.heap.size<w2.heap.size:=by have:=H.size;rw[W.O]at this;omega
    have r0:=AJ aH.O 0 rfl;obtain⟨n,D,hn,aa,h1,h2,h3,h4⟩:=aK.O;have H1:Hid _:=h1;have H2:Hid _:=h2;clear h1 h2 h3 h4;have hf:Ah B s.aa=none:=by unfold Ah;rw[ax.O];rfl
    have al:Hid (A5 B (k'+1)=false):=by unfold Hid A5;rw[aL.O];simp[cpB,hf]
    have HH:Hid (Maps.has D (key 1 s.aa)=false):=H1.O s.aa af.1 (Eh hf);have HA:Hid (D.atKey (key 1 s.aa) (.lit (.int .i64 0))=.lit (.int .i64 0)):=atKey_of_not_has HH.O _
    go_wp2_with (at_lookup;refine Ao _ rfl (.tmp 32) (.tmp 35) 141 rfl 181 3 .i64 thingLaw Tryz.underlying141 Tryz.underlying3 (Ck _) (w.heap.size+1+1) n D rfl aa _ _ rfl (Cn 1 s.aa wf1 af.1) 0 false HA.O HH.O ?_)
    refine ji (by kernel_rfl) (by kernel_rfl) ?_
    repeat (first|go_big_quiet_step (fail)|quiet_step (fail))
    refine jk ?_;intro w3 J;obtain⟨⟨dq,ar⟩,F⟩:=J;have ay:Below w2.heap.size w2 w3:=by rw[F];exact jj _ _ _
    clear F;go_wp2;go_ret;exact⟨AR (Am ah al.O).symm,Y.trans (ay.mono Y.size)⟩
  ·go_wp2
   go_ret;exact⟨AR (CH λi hi=>a5.O i (by omega)).symm,hb⟩
theorem KB(B:Bk)(a1 a2 a3:qO)(c1 c2 c3:Nat)(w:World)(hS:B.aJ)(hZ:B.aD)(hU:HD B)(hB:BkAt w a1 a2 a3 B)(bE:B.af≠[]):
  Calls Tryz.prog 73 #[.agg (qbV B a1 c1 a2 c2 a3 c3)] w λe w'=>e=.returned (.bool (BI (A5 B) B.ah.length))/\Below w.heap.size w w':=by
 obtain⟨bS,ay,eS,a8,a7⟩:=hB.1 bE;subst eS;have b3:=hS;obtain⟨d3,d1,dp⟩:=b3;have T0:Hid _:=dm w (.cells (qbV B (some ⟨bS,ay,none⟩) c1 a2 c2 a3 c3) 28);have bx:=AN w (.cells (qbV B (some ⟨bS,ay,none⟩) c1 a2 c2 a3 c3) 28);have bH:(w.alloc (.cells (qbV B (some ⟨bS,ay,none⟩) c1 a2 c2 a3 c3) 28)).heap.size=w.heap.size+1:=by show(w.heap.push _).size=_;simp
 have bI:Hid _:=bH;clear bH;go_enter Tryz.func73,Tryz.ntmps73
 go_wp2_with fail
 refine(IP B _ a2 a3 c1 c2 c3 _ hS hZ hU (hB.below bx)).mono ?_;rintro e w0 ⟨rfl,aE,aW⟩;rw[bI.O]at aE aW;rw[bI.O];have a5:=bx.trans (aW.mono (by omega));have bm:Hid _:=AK aW T0.O (by omega);have bM:Hid _:=aE;have e2:=AJ bm.O 2 rfl;clear aE aW;go_wp2;clear e2
 go_loopw [13] (λiv wr=>∃k:Nat,k<=B.ah.length/\iv=.int .i64 k/\Below w.heap.size w wr/\Hid (qBl wr (w.heap.size) (qbV B (some ⟨bS,ay,none⟩) c1 a2 c2 a3 c3) 28)/\Hid (PlacesAt wr (w.heap.size+1+1) B B.af.length B.ak.length)/\Hid (∀i,i<k->A5 B i=true)) (λi _=>B.ah.length - (intOf i).toNat)
 case atStart=>exact⟨0,by omega,rfl,a5,bm,bM,λi hi=>absurd hi (by omega)⟩
 case round=>
  clear a5 bm bM;obtain⟨k,hk,rfl,hb,bN,bU,aI⟩:=hrel;have bB:w.heap.size+1+1<wr.heap.size:=bU.O.lt
  by_cases ak:k<B.ah.length
  ·have bq:B.ah≠[]:=by intro h;rw[h]at ak;simp at ak
   obtain⟨b,off,ea,bO,aT⟩:=hB.2.1 bq;subst ea;obtain⟨s,a4⟩:∃s,B.ah[k]?=some s:=⟨B.ah[k],by simp[ak]⟩;have H:=hZ.2.2.2.2.1 s (AE a4);have aq:Hid _:=a4;have bX:=(aT k s a4).below hb bO;unfold CpAt at bX;obtain⟨x0,x1,x2,x3,x4,x5,x6⟩:=bX;have az:Below w.heap.size w (wr.alloc (.cells (qcV s) 76)):=hb.alloc hb.size _;have ar:Hid ((wr.alloc (.cells (qcV s) 76)).heap.size=wr.heap.size+1):=by show(wr.heap.push _).size=_;simp
   have an:Hid _:=dm wr (.cells (qcV s) 76);have a9:=AN wr (.cells (qcV s) 76);have aw:Hid _:=AK a9 bN.O (by omega);have a6:Hid (PlacesAt (wr.alloc (.cells (qcV s) 76)) (w.heap.size+1+1) B B.af.length B.ak.length):=bU.O.below a9 bB;clear a4
   by_cases br:k=0
   ·have cr:Hid (k=0):=br
    have hz:decide (0<k)=false:=by simp;omega
    clear br aT bq;go_wp2;clear x0 x1 x2 x3 x4 x5 x6;refine ji (by kernel_rfl) (by kernel_rfl) ?_
    repeat (first|go_big_quiet_step (fail)|quiet_step (fail))
    refine jk ?_;intro w2 M;obtain⟨⟨dq,al⟩,F⟩:=M;have ag:Below (wr.alloc (.cells (qcV s) 76)).heap.size (wr.alloc (.cells (qcV s) 76)) w2:=by rw[F];exact jj _ _ _
    clear F;have J:=az.trans (ag.mono az.size);have Z:Hid _:=AK ag an.O (by rw[ar.O];omega);have ai:Hid _:=AK ag aw.O (by rw[ar.O];omega);have aa:Hid (PlacesAt w2 (w.heap.size+1+1) B B.af.length B.ak.length):=a6.O.below ag (by rw[ar.O];omega);have c5:wr.heap.size<w2.heap.size:=by have:=ag.size;rw[ar.O]at this;omega
    have r0:=AJ Z.O 0 rfl;obtain⟨n,D,hn,Y,h1,h2,h3,h4⟩:=aa.O;have H1:Hid _:=h1;have H2:Hid _:=h2;clear h1 h2 h3 h4
    cases hf:Ah B s.aa with
    |none=>
     have af:Hid (A5 B k=false):=by unfold Hid A5;rw[aq.O];simp[cpB,hf]
     have HH:Hid (Maps.has D (key 1 s.aa)=false):=H1.O s.aa H.1 (Eh hf);have HA:Hid (D.atKey (key 1 s.aa) (.lit (.int .i64 0))=.lit (.int .i64 0)):=atKey_of_not_has HH.O _
     go_wp2_with (at_lookup;refine Ao _ rfl (.tmp 32) (.tmp 35) 141 rfl 181 3 .i64 thingLaw Tryz.underlying141 Tryz.underlying3 (Ck _) (w.heap.size+1+1) n D rfl Y _ _ rfl (Cn 1 s.aa wf1 H.1) 0 false HA.O HH.O ?_)
     refine ji (by kernel_rfl) (by kernel_rfl) ?_
     repeat (first|go_big_quiet_step (fail)|quiet_step (fail))
     refine jk ?_;intro w3 M;obtain⟨⟨dq,al⟩,F⟩:=M;have W:Below w2.heap.size w2 w3:=by rw[F];exact jj _ _ _
     clear F;go_wp2;go_ret;exact⟨AR (Am ak af.O).symm,J.trans (W.mono J.size)⟩
    |some sv=>
     obtain⟨i,bi,hi,aH⟩:=Fg hf;have am:=H2.O i sv bi hi;rw[aH]at am;have HH:Hid (Maps.has D (key 1 s.aa)=true):=am.1;have HA:Hid (D.atKey (key 1 s.aa) (.lit (.int .i64 0))=.lit (.int .i64 (i:Int))):=am.2;have ax:Hid (cpB B s=(FP B.aj sv s&&Ca B.ak s)):=by unfold Hid cpB;rw[hf]
     obtain⟨z0,z1,z2,z3,z4,z5,z6,z7,z8,z9,bt,bj,bb⟩:=((a7 i sv hi).below J a8).grown;have g0:=Aq ai.O 0 rfl;have g1:=Aq ai.O 1 rfl;have m0:=Aq Z.O 0 rfl;have m1:=Aq Z.O 1 rfl;have m2:=Aq Z.O 2 rfl;have m3:=Aq Z.O 3 rfl;have m4:=Aq Z.O 4 rfl;have m5:=Aq Z.O 5 rfl;have m6:=Aq Z.O 6 rfl;clear hf am aH hi;cases av:FP B.aj sv s
     ·have af:Hid (A5 B k=false):=by unfold Hid A5;rw[aq.O];simp[ax.O,av]
      go_wp2_with (at_lookup;refine Ao _ rfl (.tmp 32) (.tmp 35) 141 rfl 181 3 .i64 thingLaw Tryz.underlying141 Tryz.underlying3 (Ck _) (w.heap.size+1+1) n D rfl Y _ _ rfl (Cn 1 s.aa wf1 H.1) (i:Int) true HA.O HH.O ?_)
      refine ji (by kernel_rfl) (by kernel_rfl) ?_
      repeat (first|go_big_quiet_step (first|exact jh (BN s sv B.aj _)|exact jh (BO B s (w.heap.size+1+1) _ H.2 (aa.O.below (jj _ _ _) (by omega))))|quiet_step (first|exact jh (BN s sv B.aj _)|exact jh (BO B s (w.heap.size+1+1) _ H.2 (aa.O.below (jj _ _ _) (by omega)))))
      refine jk ?_;intro w3 M;obtain⟨⟨dq,al⟩,F⟩:=M;have W:Below w2.heap.size w2 w3:=by rw[F];exact jj _ _ _
      clear F;go_wp2;go_ret;exact⟨AR (Am ak af.O).symm,J.trans (W.mono J.size)⟩
     cases aL:Ca B.ak s
     ·have af:Hid (A5 B k=false):=by unfold Hid A5;rw[aq.O];simp[ax.O,av,aL]
      go_wp2_with (at_lookup;refine Ao _ rfl (.tmp 32) (.tmp 35) 141 rfl 181 3 .i64 thingLaw Tryz.underlying141 Tryz.underlying3 (Ck _) (w.heap.size+1+1) n D rfl Y _ _ rfl (Cn 1 s.aa wf1 H.1) (i:Int) true HA.O HH.O ?_)
      refine ji (by kernel_rfl) (by kernel_rfl) ?_
      repeat (first|go_big_quiet_step (first|exact jh (BN s sv B.aj _)|exact jh (BO B s (w.heap.size+1+1) _ H.2 (aa.O.below (jj _ _ _) (by omega))))|quiet_step (first|exact jh (BN s sv B.aj _)|exact jh (BO B s (w.heap.size+1+1) _ H.2 (aa.O.below (jj _ _ _) (by omega)))))
      refine jk ?_;intro w3 M;obtain⟨⟨dq,al⟩,F⟩:=M;have W:Below w2.heap.size w2 w3:=by rw[F];exact jj _ _ _
      clear F;go_wp2;go_ret;exact⟨AR (Am ak af.O).symm,J.trans (W.mono J.size)⟩
     have aC:Hid (A5 B k=true):=by unfold Hid A5;rw[aq.O];simp[ax.O,av,aL,cr.O]
     go_wp2_with (at_lookup;refine Ao _ rfl (.tmp 32) (.tmp 35) 141 rfl 181 3 .i64 thingLaw Tryz.underlying141 Tryz.underlying3 (Ck _) (w.heap.size+1+1) n D rfl Y _ _ rfl (Cn 1 s.aa wf1 H.1) (i:Int) true HA.O HH.O ?_)
     refine ji (by kernel_rfl) (by kernel_rfl) ?_
     repeat (first|go_big_quiet_step (first|exact jh (BN s sv B.aj _)|exact jh (BO B s (w.heap.size+1+1) _ H.2 (aa.O.below (jj _ _ _) (by omega))))|quiet_step (first|exact jh (BN s sv B.aj _)|exact jh (BO B s (w.heap.size+1+1) _ H.2 (aa.O.below (jj _ _ _) (by omega)))))
     refine jk ?_;intro w3 M;obtain⟨⟨dq,al⟩,F⟩:=M;have W:Below w2.heap.size w2 w3:=by rw[F];exact jj _ _ _
     clear F;have bk:=J.trans (W.mono J.size);have aF:Hid _:=AK W ai.O (by omega);have bl:Hid (PlacesAt w3 (w.heap.size+1+1) B B.af.length B.ak.length):=aa.O.below W (by omega);clear g0 g1 m0 m1 m2 m3 m4 m5 m6 z0 z1 z2 z3 z4 z5 z6 z7 z8 z9 bt bj bb;go_wp2
     go_roundw
     case rel=>exact⟨k+1,by omega,by go_num,bk,aF,bl,A2 aI.O aC.O⟩
     case measure=>simp[intOf];omega
   obtain⟨k',rfl⟩:∃k',k=k'+1:=⟨k - 1,by omega⟩;clear br;obtain⟨p,bo⟩:∃p,B.ah[k']?=some p:=⟨B.ah[k']'(by omega),by rw[dj]⟩;have bz:Hid _:=bo;obtain⟨y0,y1,y2,y3,y4,y5,y6⟩:=((aT k' p bo).below (hb.trans (a9.mono hb.size)) bO).grown;have cB:=Aq an.O 0 rfl;have c8:=Aq an.O 1 rfl;have b7:=Aq an.O 2 rfl;have b9:=Aq an.O 3 rfl;have cc:=Aq an.O 4 rfl;have c7:=Aq an.O 5 rfl;have cM:=Aq an.O 6 rfl;have cg:=Aq aw.O 2 rfl;clear bo aT bq;cases bf:Ak p s
   ·have af:Hid (A5 B (k'+1)=false):=by unfold Hid A5;rw[aq.O];simp[bz.O,bf]
    go_wp2;clear x0 x1 x2 x3 x4 x5 x6;refine ji (by kernel_rfl) (by kernel_rfl) ?_
    repeat (first|go_big_quiet_step (exact jh (CF p s _))|quiet_step (exact jh (CF p s _)))
    refine jk ?_;intro w2 M;obtain⟨⟨dq,al⟩,F⟩:=M;have ag:Below (wr.alloc (.cells (qcV s) 76)).heap.size (wr.alloc (.cells (qcV s) 76)) w2:=by rw[F];exact jj _ _ _
    clear F;go_wp2;go_ret;exact⟨AR (Am ak af.O).symm,az.trans (ag.mono az.size)⟩
   ·have b6:Hid (Ak p s=true):=bf
    go_wp2;clear x0 x1 x2 x3 x4 x5 x6;refine ji (by kernel_rfl) (by kernel_rfl) ?_
    repeat (first|go_big_quiet_step (exact jh (CF p s _))|quiet_step (exact jh (CF p s _)))
    refine jk ?_;intro w2 M;obtain⟨⟨dq,al⟩,F⟩:=M;have ag:Below (wr.alloc (.cells (qcV s) 76)).heap.size (wr.alloc (.cells (qcV s) 76)) w2:=by rw[F];exact jj _ _ _
    clear F;clear cB c8 b7 b9 cc c7 cM cg bf y0 y1 y2 y3 y4 y5 y6;have J:=az.trans (ag.mono az.size);have Z:Hid _:=AK ag an.O (by rw[ar.O];omega);have ai:Hid _:=AK ag aw.O (by rw[ar.O];omega);have aa:Hid (PlacesAt w2 (w.heap.size+1+1) B B.af.length B.ak.length):=a6.O.below ag (by rw[ar.O];omega);have c5:wr.heap.size<w2.heap.size:=by have:=ag.size;rw[ar.O]at this;omega
    have r0:=AJ Z.O 0 rfl;obtain⟨n,D,hn,Y,h1,h2,h3,h4⟩:=aa.O;have H1:Hid _:=h1;have H2:Hid _:=h2;clear h1 h2 h3 h4
    cases hf:Ah B s.aa with
    |none=>
     have af:Hid (A5 B (k'+1)=false):=by unfold Hid A5;rw[aq.O];simp[cpB,hf]
     have HH:Hid (Maps.has D (key 1 s.aa)=false):=H1.O s.aa H.1 (Eh hf);have HA:Hid (D.atKey (key 1 s.aa) (.lit (.int .i64 0))=.lit (.int .i64 0)):=atKey_of_not_has HH.O _
     go_wp2_with (at_lookup;refine Ao _ rfl (.tmp 32) (.tmp 35) 141 rfl 181 3 .i64 thingLaw Tryz.underlying141 Tryz.underlying3 (Ck _) (w.heap.size+1+1) n D rfl Y _ _ rfl (Cn 1 s.aa wf1 H.1) 0 false HA.O HH.O ?_)
     refine ji (by kernel_rfl) (by kernel_rfl) ?_
     repeat (first|go_big_quiet_step (fail)|quiet_step (fail))
     refine jk ?_;intro w3 M;obtain⟨⟨dq,al⟩,F⟩:=M;have W:Below w2.heap.size w2 w3:=by rw[F];exact jj _ _ _
     clear F;go_wp2;go_ret;exact⟨AR (Am ak af.O).symm,J.trans (W.mono J.size)⟩
    |some sv=>
     obtain⟨i,bi,hi,aH⟩:=Fg hf;have am:=H2.O i sv bi hi;rw[aH]at am;have HH:Hid (Maps.has D (key 1 s.aa)=true):=am.1;have HA:Hid (D.atKey (key 1 s.aa) (.lit (.int .i64 0))=.lit (.int .i64 (i:Int))):=am.2;have ax:Hid (cpB B s=(FP B.aj sv s&&Ca B.ak s)):=by unfold Hid cpB;rw[hf]
     obtain⟨z0,z1,z2,z3,z4,z5,z6,z7,z8,z9,bt,bj,bb⟩:=((a7 i sv hi).below J a8).grown;have g0:=Aq ai.O 0 rfl;have g1:=Aq ai.O 1 rfl;have m0:=Aq Z.O 0 rfl;have m1:=Aq Z.O 1 rfl;have m2:=Aq Z.O 2 rfl;have m3:=Aq Z.O 3 rfl;have m4:=Aq Z.O 4 rfl;have m5:=Aq Z.O 5 rfl;have m6:=Aq Z.O 6 rfl;clear hf am aH hi;cases av:FP B.aj sv s
     ·have af:Hid (A5 B (k'+1)=false):=by unfold Hid A5;rw[aq.O];simp[ax.O,av]
      go_wp2_with (at_lookup;refine Ao _ rfl (.tmp 32) (.tmp 35) 141 rfl 181 3 .i64 thingLaw Tryz.underlying141 Tryz.underlying3 (Ck _) (w.heap.size+1+1) n D rfl Y _ _ rfl (Cn 1 s.aa wf1 H.1) (i:Int) true HA.O HH.O ?_)
      refine ji (by kernel_rfl) (by kernel_rfl) ?_
      repeat (first|go_big_quiet_step (first|exact jh (BN s sv B.aj _)|exact jh (BO B s (w.heap.size+1+1) _ H.2 (aa.O.below (jj _ _ _) (by omega))))|quiet_step (first|exact jh (BN s sv B.aj _)|exact jh (BO B s (w.heap.size+1+1) _ H.2 (aa.O.below (jj _ _ _) (by omega)))))
      refine jk ?_;intro w3 M;obtain⟨⟨dq,al⟩,F⟩:=M;have W:Below w2.heap.size w2 w3:=by rw[F];exact jj _ _ _
      clear F;go_wp2;go_ret;exact⟨AR (Am ak af.O).symm,J.trans (W.mono J.size)⟩
     cases aL:Ca B.ak s
     ·have af:Hid (A5 B (k'+1)=false):=by unfold Hid A5;rw[aq.O];simp[ax.O,av,aL]
      go_wp2_with (at_lookup;refine Ao _ rfl (.tmp 32) (.tmp 35) 141 rfl 181 3 .i64 thingLaw Tryz.underlying141 Tryz.underlying3 (Ck _) (w.heap.size+1+1) n D rfl Y _ _ rfl (Cn 1 s.aa wf1 H.1) (i:Int) true HA.O HH.O ?_)
      refine ji (by kernel_rfl) (by kernel_rfl) ?_
      repeat (first|go_big_quiet_step (first|exact jh (BN s sv B.aj _)|exact jh (BO B s (w.heap.size+1+1) _ H.2 (aa.O.below (jj _ _ _) (by omega))))|quiet_step (first|exact jh (BN s sv B.aj _)|exact jh (BO B s (w.heap.size+1+1) _ H.2 (aa.O.below (jj _ _ _) (by omega)))))
      refine jk ?_;intro w3 M;obtain⟨⟨dq,al⟩,F⟩:=M;have W:Below w2.heap.size w2 w3:=by rw[F];exact jj _ _ _
      clear F;go_wp2;go_ret;exact⟨AR (Am ak af.O).symm,J.trans (W.mono J.size)⟩
     have aC:Hid (A5 B (k'+1)=true):=by unfold Hid A5;rw[aq.O];simp[ax.O,av,aL,bz.O,b6.O]
     go_wp2_with (at_lookup;refine Ao _ rfl (.tmp 32) (.tmp 35) 141 rfl 181 3 .i64 thingLaw Tryz.underlying141 Tryz.underlying3 (Ck _) (w.heap.size+1+1) n D rfl Y _ _ rfl (Cn 1 s.aa wf1 H.1) (i:Int) true HA.O HH.O ?_)
     refine ji (by kernel_rfl) (by kernel_rfl) ?_
     repeat (first|go_big_quiet_step (first|exact jh (BN s sv B.aj _)|exact jh (BO B s (w.heap.size+1+1) _ H.2 (aa.O.below (jj _ _ _) (by omega))))|quiet_step (first|exact jh (BN s sv B.aj _)|exact jh (BO B s (w.heap.size+1+1) _ H.2 (aa.O.below (jj _ _ _) (by omega)))))
     refine jk ?_;intro w3 M;obtain⟨⟨dq,al⟩,F⟩:=M;have W:Below w2.heap.size w2 w3:=by rw[F];exact jj _ _ _
     clear F;have bk:=J.trans (W.mono J.size);have aF:Hid _:=AK W ai.O (by omega);have bl:Hid (PlacesAt w3 (w.heap.size+1+1) B B.af.length B.ak.length):=aa.O.below W (by omega);clear g0 g1 m0 m1 m2 m3 m4 m5 m6 z0 z1 z2 z3 z4 z5 z6 z7 z8 z9 bt bj bb;go_wp2
     go_roundw
     case rel=>exact⟨(k'+1)+1,by omega,by go_num,bk,aF,bl,A2 aI.O aC.O⟩
     case measure=>simp[intOf];omega
  ·go_wp2
   go_ret;exact⟨AR (CH λi hi=>aI.O i (by omega)).symm,hb⟩
def bkP(B:Bk):Nat->Bool
 |0=>inB B.aj 0 1000000
 |1=>decide (B.af.length<=8)&&decide (B.ah.length<=200)&&decide (B.ak.length<=6)
 |2=>BI (A7 B) B.af.length
 |3=>BI (B8 B) B.ak.length
 |_=>BI (A5 B) B.ah.length
theorem bkP_all(B:Bk):BI (bkP B) 5=Ag B:=by
 have h:BI (bkP B) 5=(bkP B 0&&(bkP B 1&&(bkP B 2&&(bkP B 3&&(bkP B 4&&true))))):=rfl;rw[h];simp only[bkP,Ag,iu,Bool.and_assoc]
theorem Iv{B:Bk}(h:∀i,i<B.af.length->A7 B i=true):∀(j i:Nat) s t,i<j->B.af[i]?=some s->B.af[j]?=some t->Op.bytesLess s.name.toList t.name.toList=true
 |0,i,_,_,Y,_,_=>absurd Y (by omega)
 |j+1,i,s,t,Y,F,Z=>by
  have H:j+1<B.af.length:=(AC Z).1;obtain⟨p,J⟩:∃p,B.af[j]?=some p:=⟨B.af[j]'(by omega),by rw[dj]⟩
  have W:Op.bytesLess p.name.toList t.name.toList=true:=by
   have:=h (j+1) H;unfold A7 at this;rw[Z]at this;simp[J]at this;exact this.2
  rcases eG i j with M|M
  ·exact B6 _ _ _ (Iv h j i s p M F J) W
  ·have e:i=j:=by omega
   subst e;rw[J]at F;cases F;exact W
theorem IE{B:Bk}(h:BI (A7 B) B.af.length=true):HD B:=λi j s t F M W e=>by
 have H:∀i,i<B.af.length->A7 B i=true:=λi J=>by
  unfold BI at h;exact dh.1 h i (dA.2 J)
 have:=Iv H j i s t F M W;rw[e,A4]at this;cases this
theorem GV(B:Bk)(a1 a2 a3:qO)(c1 c2 c3:Nat)(w:World)(M:B.aJ)(J:B.aD)(H:HD B)(F:BkAt w a1 a2 a3 B):
  Calls Tryz.prog 73 #[.agg #[.int .i64 B.aj,.slice a1 B.af.length c1,.slice a2 B.ah.length c2,.slice a3 B.ak.length c3]] w λe w'=>e=.returned (.bool (BI (A5 B) B.ah.length))/\Below w.heap.size w w':=by
 by_cases h:B.af=[]
 ·exact LZ B a1 a2 a3 c1 c2 c3 w M J H F h
 ·exact KB B a1 a2 a3 c1 c2 c3 w M J H F h
def FnsB(w:World)(b:Nat):Prop:=w.heap[b]?=some (.cells #[.func (.func 69) #[] #[],.func (.func 70) #[] #[],.func (.func 71) #[] #[],.func (.func 72) #[] #[],.func (.func 73) #[] #[]] 59 (0,0))
theorem Nu(B:Bk)(a1 a2 a3:qO)(c1 c2 c3:Nat)(b:Nat)(w:World)(hS:B.aJ)(hZ:B.aD)(hB:BkAt w a1 a2 a3 B)(hF:FnsB w b):
  Calls Tryz.prog 68 #[.agg #[.int .i64 B.aj,.slice a1 B.af.length c1,.slice a2 B.ah.length c2,.slice a3 B.ak.length c3],.slice (some ⟨b,0,none⟩) 5 5] w λe w'=>e=.returned (.bool (BI (bkP B) 5))/\Below w.heap.size w w':=by
 have av:=AN w (.cells (qbV B a1 c1 a2 c2 a3 c3) 28);have au:Hid _:=dm w (.cells (qbV B a1 c1 a2 c2 a3 c3) 28);have ar:b<w.heap.size:=(AB hF).1;have HF:Hid (FnsB w b):=hF;clear hF;go_enter Tryz.func68,Tryz.ntmps68;go_wp2
 go_loopw [9] (λiv wr=>∃k:Nat,k<=5/\iv=.int .i64 k/\Below w.heap.size w wr/\Hid (qBl wr (w.heap.size) (qbV B a1 c1 a2 c2 a3 c3) 28)/\Hid (∀i,i<k->bkP B i=true)) (λi _=>5 - (intOf i).toNat)
 case atStart=>exact⟨0,by omega,rfl,av,au,λi hi=>absurd hi (by omega)⟩
 case round=>
  obtain⟨k,hk,rfl,hb,H,W⟩:=hrel;have aa:w.heap.size<wr.heap.size:=(AB H.O).1;have af:Hid _:=AK hb HF.O ar;have x0:=AJ H.O 0 rfl;have x1:=AJ H.O 1 rfl;have x2:=AJ H.O 2 rfl;have x3:=AJ H.O 3 rfl
  by_cases h0:k=0
  ·subst h0
   have f0:=AJ af.O 0 rfl;cases hv:(inB B.aj 0 1000000)
   ·have Z:Hid (bkP B 0=false):=hv
    go_wp2_with fail
    refine(IR B a1 a2 a3 c1 c2 c3 _).mono ?_;rintro e w1 ⟨Y,F⟩;subst Y;have M:=hb.trans (F.mono hb.size);rw[hv];clear x0 x1 x2 x3 f0;go_wp2;go_ret;exact⟨AR (Am (by omega) Z.O).symm,M⟩
   ·have Z:Hid (bkP B 0=true):=hv
    go_wp2_with fail
    refine(IR B a1 a2 a3 c1 c2 c3 _).mono ?_;rintro e w1 ⟨Y,F⟩;subst Y;have M:=hb.trans (F.mono hb.size);have J:Hid _:=AK F H.O aa;rw[hv];clear x0 x1 x2 x3 f0;go_wp2
    go_roundw
    case rel=>exact⟨0+1,by omega,by go_num,M,J,A2 W.O Z.O⟩
    case measure=>simp[intOf]
  by_cases h1:k=1
  ·subst h1
   have f1:=AJ af.O 1 rfl;cases hv:(decide (B.af.length<=8)&&decide (B.ah.length<=200)&&decide (B.ak.length<=6))
   ·have Z:Hid (bkP B 1=false):=hv
    go_wp2_with fail
    refine(HQ B a1 a2 a3 c1 c2 c3 _ hS).mono ?_;rintro e w1 ⟨Y,F⟩;subst Y;have M:=hb.trans (F.mono hb.size);rw[hv];clear x0 x1 x2 x3 f1;go_wp2;go_ret;exact⟨AR (Am (by omega) Z.O).symm,M⟩
   ·have Z:Hid (bkP B 1=true):=hv
    go_wp2_with fail
    refine(HQ B a1 a2 a3 c1 c2 c3 _ hS).mono ?_;rintro e w1 ⟨Y,F⟩;subst Y;have M:=hb.trans (F.mono hb.size);have J:Hid _:=AK F H.O aa;rw[hv];clear x0 x1 x2 x3 f1;go_wp2
    go_roundw
    case rel=>exact⟨1+1,by omega,by go_num,M,J,A2 W.O Z.O⟩
    case measure=>simp[intOf]
  by_cases h2:k=2
  ·subst h2
   have f2:=AJ af.O 2 rfl;cases hv:(BI (A7 B) B.af.length)
   ·have Z:Hid (bkP B 2=false):=hv
    go_wp2_with fail
    refine(FT B a1 a2 a3 c1 c2 c3 _ hS hZ (hB.below hb)).mono ?_;rintro e w1 ⟨Y,F⟩;subst Y;have M:=hb.trans (F.mono hb.size);rw[hv];clear x0 x1 x2 x3 f2;go_wp2;go_ret;exact⟨AR (Am (by omega) Z.O).symm,M⟩
   ·have Z:Hid (bkP B 2=true):=hv
    go_wp2_with fail
    refine(FT B a1 a2 a3 c1 c2 c3 _ hS hZ (hB.below hb)).mono ?_;rintro e w1 ⟨Y,F⟩;subst Y;have M:=hb.trans (F.mono hb.size);have J:Hid _:=AK F H.O aa;rw[hv];clear x0 x1 x2 x3 f2;go_wp2
    go_roundw
    case rel=>exact⟨2+1,by omega,by go_num,M,J,A2 W.O Z.O⟩
    case measure=>simp[intOf]
  by_cases h3:k=3
  ·subst h3
   have f3:=AJ af.O 3 rfl;cases hv:(BI (B8 B) B.ak.length)
   ·have Z:Hid (bkP B 3=false):=hv
    go_wp2_with fail
    refine(GX B a1 a2 a3 c1 c2 c3 _ hS hZ (hB.below hb)).mono ?_;rintro e w1 ⟨Y,F⟩;subst Y;have M:=hb.trans (F.mono hb.size);rw[hv];clear x0 x1 x2 x3 f3;go_wp2;go_ret;exact⟨AR (Am (by omega) Z.O).symm,M⟩
   ·have Z:Hid (bkP B 3=true):=hv
    go_wp2_with fail
    refine(GX B a1 a2 a3 c1 c2 c3 _ hS hZ (hB.below hb)).mono ?_;rintro e w1 ⟨Y,F⟩;subst Y;have M:=hb.trans (F.mono hb.size);have J:Hid _:=AK F H.O aa;rw[hv];clear x0 x1 x2 x3 f3;go_wp2
    go_roundw
    case rel=>exact⟨3+1,by omega,by go_num,M,J,A2 W.O Z.O⟩
    case measure=>simp[intOf]
  by_cases h4:k=4
  ·subst h4
   have f4:=AJ af.O 4 rfl;cases hv:(BI (A5 B) B.ah.length)
   ·have Z:Hid (bkP B 4=false):=hv
    go_wp2_with fail
    refine(GV B a1 a2 a3 c1 c2 c3 _ hS hZ (IE (W.O 2 (by omega))) (hB.below hb)).mono ?_;rintro e w1 ⟨Y,F⟩;subst Y;have M:=hb.trans (F.mono hb.size);rw[hv];clear x0 x1 x2 x3 f4;go_wp2;go_ret;exact⟨AR (Am (by omega) Z.O).symm,M⟩
   ·have Z:Hid (bkP B 4=true):=hv
    go_wp2_with fail
    refine(GV B a1 a2 a3 c1 c2 c3 _ hS hZ (IE (W.O 2 (by omega))) (hB.below hb)).mono ?_;rintro e w1 ⟨Y,F⟩;subst Y;have M:=hb.trans (F.mono hb.size);have J:Hid _:=AK F H.O aa;rw[hv];clear x0 x1 x2 x3 f4;go_wp2
    go_roundw
    case rel=>exact⟨4+1,by omega,by go_num,M,J,A2 W.O Z.O⟩
    case measure=>simp[intOf]
  ·have h5:k=5:=by omega
   subst h5;clear x0 x1 x2 x3;go_wp2;go_ret;exact⟨AR (CH W.O).symm,hb⟩
theorem FO(B:Bk)(a1 a2 a3:qO)(c1 c2 c3:Nat)(w:World)(hS:B.aJ)(W:B.aD)(hB:BkAt w a1 a2 a3 B):
  Calls Tryz.prog 24 #[.agg #[.int .i64 B.aj,.slice a1 B.af.length c1,.slice a2 B.ah.length c2,.slice a3 B.ak.length c3]] w λe w'=>e=.returned (.bool (Ag B))/\Below w.heap.size w w':=by
 obtain⟨Z,J,M⟩:=B1 w (.cells (qbV B a1 c1 a2 c2 a3 c3) 28) (.cells #[.func (.func 69) #[] #[],.func (.func 70) #[] #[],.func (.func 71) #[] #[],.func (.func 72) #[] #[],.func (.func 73) #[] #[]] 59);have F:Below w.heap.size w ((w.alloc (.cells (qbV B a1 c1 a2 c2 a3 c3) 28)).alloc (.cells #[.func (.func 69) #[] #[],.func (.func 70) #[] #[],.func (.func 71) #[] #[],.func (.func 72) #[] #[],.func (.func 73) #[] #[]] 59)):=((dI _ _).alloc (AG _) _).alloc (by simp) _;have Y:Hid _:=J;clear Z J M;go_enter Tryz.func24,Tryz.ntmps24
 go_wp2_with fail
 refine(Nu B a1 a2 a3 c1 c2 c3 (w.heap.size+1) _ hS W (hB.below F) Y.O).mono ?_;rintro e w1 ⟨rfl,H⟩;rw[bkP_all];go_wp2;go_ret;exact⟨rfl,F.trans (H.mono F.size)⟩
end
end Go.Proofs.YtbceafpodamnfaaGreatDoor
