import Derived.Test.YtbceafpodamnfaaH20
set_option linter.all false
set_option maxHeartbeats 16000000
set_option maxRecDepth 100000
namespace Go.Proofs.Ytbceafpodamnfaa
attribute [local simp] svV cpV zbV czV aaV ctZ ad bkV ctV acV
attribute [local go_sem] svV cpV zbV czV aaV ctZ ad bkV ctV acV
section
open Go.RowKit Go.Sort
structure Ev where
 kind:Int
 service:Svc
 name:ByteArray
 number:Int
 flag:Bool
abbrev evV (E:Ev):Array Value:=#[.int .i64 E.kind,.string E.service.name,.int .i64 E.service.version,.bool E.service.gone,.int .i64 E.service.image,.int .i64 E.service.want,.int .i64 E.service.down,.int .i64 E.service.over,.int .i64 E.service.next,.int .i64 E.service.per,.int .i64 E.service.least,.int .i64 E.service.most,.int .i64 E.service.load,.int .i64 E.service.cool,.string E.name,.int .i64 E.number,.bool E.flag]
attribute [local simp] evV
attribute [local go_sem] evV
def GQ{α:Type}(p:α->Bool)(l:List α):Option (Nat × α):=match l.findIdx? p with
 |some i=>(l[i]?).map λx=>(i,x)
 |none=>none
theorem Fr{α:Type}{p:α->Bool}{l:List α}{i:Nat}{x:α}(h:GQ p l=some (i,x)):Ek p l=(i:Int)/\l[i]?=some x/\p x=true:=by
 unfold GQ at h
 cases hf:l.findIdx? p with
 |none=>rw[hf]at h;cases h
 |some j=>
  rw[hf]at h;simp only at h
  cases hg:l[j]? with
  |none=>rw[hg]at h;cases h
  |some y=>
   rw[hg]at h;simp only[Option.map_some]at h;have h':=Option.some.inj h;injection h' with h1 h2
   subst h1 h2;refine⟨by unfold Ek;rw[hf],hg,?_⟩;obtain⟨hlt,hp,_⟩:=List.findIdx?_eq_some_iff_getElem.1 hf;have:y=l[j]:=by rw[List.getElem?_eq_getElem hlt]at hg;exact(Option.some.inj hg).symm
   rw[this];exact hp
theorem G5{α:Type}{p:α->Bool}{l:List α}(h:GQ p l=none):Ek p l= -1:=by
 unfold GQ at h
 cases hf:l.findIdx? p with
 |none=>unfold Ek;rw[hf]
 |some j=>
  rw[hf]at h;simp only at h;have hlt:=(List.findIdx?_eq_some_iff_getElem.1 hf).1;rw[List.getElem?_eq_getElem hlt]at h;cases h
def Hl(B:Bk)(nm:ByteArray)(num v:Int):Bk × Int:=match GQ (isC nm num) B.cps with
 |some (i,c)=>if c.state=3\/c.state=2 then({B with now:=v,cps:=B.cps.set i {c with state:=4,version:=v}},0) else(B,3)
 |none=>(B,3)
def sinkB(B:Bk)(nm:ByteArray)(v:Int):Bk × Int:=match GQ (λt:Bt=>t.name.toList==nm.toList) B.bts with
 |some (i,_)=>({B with now:=v,bts:=B.bts.take i++B.bts.drop (i+1),cps:=B.cps.filter λc=>!(c.berth.toList==nm.toList)},0)
 |none=>(B,3)
def Hg(B:Bk)(nm:ByteArray)(num v:Int):Bk × Int:=match GQ (λs:Svc=>s.name.toList==nm.toList) B.svcs with
 |some (i,s)=>if s.per=0 then(B,3) else({B with now:=v,svcs:=B.svcs.set i {s with load:=num,version:=v}},0)
 |none=>(B,3)
def AY(B:Bk)(E:Ev):Bk × Int:=
 if E.kind=1 then({Dl B (B.now+1) with now:=B.now+1},0)
 else if E.kind=2 then({EO B E.service (B.now+1) with now:=B.now+1},0)
 else if E.kind=3 then Hl B E.name E.number (B.now+1)
 else if E.kind=4 then sinkB B E.name (B.now+1)
 else if E.kind=5 then({Db B E.name E.flag with now:=B.now+1},0)
 else if E.kind=6 then Hg B E.name E.number (B.now+1)
 else(B,4)
structure KeepBut(g1 g2:Nat)(w w':World):Prop where
 os:w'.os=w.os
 tape:w'.tape=w.tape
 output:w'.output=w.output
 size:w.heap.size<=w'.heap.size
 block:∀q,q<w.heap.size->q≠g1->q≠g2->w'.heap[q]?=w.heap[q]?
theorem CQ{g1 g2:Nat}{w w':World}(h:Below w.heap.size w w'):KeepBut g1 g2 w w':=⟨h.os,h.tape,h.output,h.size,λq hq _ _=>h.block q hq⟩
theorem KeepBut.only{g1 g2 g:Nat}{w w1 w2:World}(h:KeepBut g1 g2 w w1)(on:Bj g w1 w2)(hg:g=g1\/g=g2\/w.heap.size<=g):KeepBut g1 g2 w w2:=
 ⟨on.below.os.trans h.os,on.below.tape.trans h.tape,on.below.output.trans h.output,AH h.size on.below.size,λq hq h1 h2=>(on.other q (by omega)).trans (h.block q hq h1 h2)⟩
theorem KeepBut.below{g1 g2 N:Nat}{w w':World}(h:KeepBut g1 g2 w w')(h1:N<=g1)(h2:N<=g2)(hN:N<=w.heap.size):Below N w w':=⟨h.os,h.tape,h.output,h.size,λq hq=>h.block q (by omega) (by omega) (by omega)⟩
def Ml(g1 g2:Nat)(w:World)(B:Bk)(E:Ev)(e:Ending)(w':World):Prop:=∃(q:Int) (b1 b2 b3:Nat) (m1 d1 m2 d2 m3 d3:Nat),
 e=.returned (.tuple #[.agg #[.int .i64 q,.slice (ad b1) m1 d1,.slice (ad b2) m2 d2,.slice (ad b3) m3 d3],.int .i64 (AY B E).2])/\
 ((AY B E).2=0->q=(AY B E).1.now/\m1=(AY B E).1.svcs.length/\m2=(AY B E).1.cps.length/\m3=(AY B E).1.bts.length/\RowIs w' 63 13 b1 m1 d1 (AU (AY B E).1.svcs)/\RowIs w' 35 7 b2 m2 d2 (Ag (AY B E).1.cps)/\RowIs w' 74 2 b3 m3 d3 (Af (AY B E).1.bts))/\KeepBut g1 g2 w w'
section
variable {P:Program}
theorem Ah{fn:Func}{p q:Tmp}{ty:TypeId}(h:fn.results=#[.cell p ty,.tmp q])(tmps:Array Value)(w:World)(g:Nat)(t:TypeId)(cs:Array Value)(fr:Nat × Nat)(d:TypeDesc)
  (hp:tmps.getD p undef=.pointer (ad g)) (hg:w.heap[g]?=some (.cells cs t fr))
  (hu:P.underlying ty=some d) (hd:(match d with| .struct _| .array _ _=>true|_=>false)=true) (hi:(P.info? ty).map (·.size)=some cs.size) (v:Value) (hv:tmps.getD q undef=v):
  (results fn tmps).run P w=.ok (.tuple #[.agg cs,v]) w:=by
 have hp':tmps[p]?.getD undef=.pointer (ad g):=by simpa using hp
 have hv':tmps[q]?.getD undef=v:=by simpa using hv
 simp[results,h,hp',hv',asAddr,run_loadVar_row w g t ty cs fr d hg hu hd hi]
end
theorem _root_.Go.RowKit.Below.mono'{N M:Nat}{w w':World}(h:Below M w w')(hN:N<=M):Below N w w':=h.mono hN
theorem NK(B:Bk)(sv:Svc)(nm:ByteArray)(num:Int)(fl:Bool)(N g1 g2 g3 k1 k2 k3 n1 n2 n3:Nat)(w:World)(hS:B.small)(hn0:0<=B.now)(hn9:B.now<1000000)(hN:N<=w.heap.size)(hB:BkRow w N g1 g2 g3 k1 k2 k3 B)(HN1:Hid (B.svcs.length=n1))(HN2:Hid (B.cps.length=n2))(HN3:Hid (B.bts.length=n3)):
  Calls Try.prog 97 #[.agg #[.int .i64 B.now,.slice (ad g1) n1 k1,.slice (ad g2) n2 k2,.slice (ad g3) n3 k3],.agg #[.int .i64 1,.string sv.name,.int .i64 sv.version,.bool sv.gone,.int .i64 sv.image,.int .i64 sv.want,.int .i64 sv.down,.int .i64 sv.over,.int .i64 sv.next,.int .i64 sv.per,.int .i64 sv.least,.int .i64 sv.most,.int .i64 sv.load,.int .i64 sv.cool,.string nm,.int .i64 num,.bool fl]] w (Ml g1 g2 w B ⟨1,sv,nm,num,fl⟩):=by
 have hSm:=hS;obtain⟨hl1,hl2,hl3⟩:=hS;rw[HN1.out]at hl1;rw[HN2.out]at hl2;rw[HN3.out]at hl3;have hq1:=hB.n1;have hq2:=hB.n2;have hq3:=hB.n3;have hg1:=hB.svcs.lt;have hg2:=hB.cps.lt;have hg3:=hB.bts.lt;have hc1:=hB.svcs.2.1;have hc2:=hB.cps.2.1;have hc3:=hB.bts.2.1;rw[HN1.out]at hc1;rw[HN2.out]at hc2;rw[HN3.out]at hc3;have h12:=hB.ne12;have h13:=hB.ne13;have h23:=hB.ne23;obtain⟨W0,hW0,t0,t1,t2,hz0,hz0',hb0⟩:=Cx w (.cells #[.int .i64 B.now,.slice (ad g1) n1 k1,.slice (ad g2) n2 k2,.slice (ad g3) n3 k3] 27) (.cells #[.int .i64 1,.string sv.name,.int .i64 sv.version,.bool sv.gone,.int .i64 sv.image,.int .i64 sv.want,.int .i64 sv.down,.int .i64 sv.over,.int .i64 sv.next,.int .i64 sv.per,.int .i64 sv.least,.int .i64 sv.most,.int .i64 sv.load,.int .i64 sv.cool,.string nm,.int .i64 num,.bool fl] 135) (.cells zbV 27);have X0:Hid _:=t0;have E0:Hid _:=t1;have Z0:Hid _:=t2;have RS0:Hid (RowIs W0 63 13 g1 n1 k1 (AU B.svcs)):=by have:=hB.svcs.below hb0 hg1;(rw[HN1.out]at this);exact this
 have RC0:Hid (RowIs W0 35 7 g2 n2 k2 (Ag B.cps)):=by have:=hB.cps.below hb0 hg2;(rw[HN2.out]at this);exact this
 have RB0:Hid (RowIs W0 74 2 g3 n3 k3 (Af B.bts)):=by have:=hB.bts.below hb0 hg3;(rw[HN3.out]at this);exact this
 clear t0 t1 t2 hB;go_enter Try.func97,Try.ntmps97
 go_upto_region 1 with fail
 clear hW0;obtain⟨e0,e1,e2,e3⟩:=c4 X0.out;have f0:=AK E0.out 0 rfl
 go_wp2_with fail
 have hcall:=NI B (B.now+1) (ad g1) (ad g2) (ad g3) k1 k2 k3 W0 hSm ⟨RS0.out.slS,RC0.out.slC,RB0.out.slB⟩
 try simp only[bkV]at hcall
 rw[HN1.out,HN2.out,HN3.out]at hcall;refine hcall.mono ?_;clear hcall;rintro e w1 ⟨g,n,cap,rfl,HNN,hgn,HRN,hbc⟩;have hbw1:=hb0.trans (hbc.mono hb0.size);have X1:Hid _:=AL hbc X0.out (by omega);have Z1:Hid _:=AL hbc Z0.out (by omega);have hz1:w.heap.size+1+1<w1.heap.size:=(AB Z1.out).1;have hb1:=hbw1;have RS1:Hid (RowIs w1 63 13 g1 n1 k1 (AU B.svcs)):=RS0.out.below hbc (by omega);have RB1:Hid (RowIs w1 74 2 g3 n3 k3 (Af B.bts)):=RB0.out.below hbc (by omega);have RN1:Hid (RowIs w1 35 7 g n cap (Ag (Dl B (B.now+1)).cps)):=HRN.out;have hgl:=HRN.out.lt;clear HRN e0 e1 e2 e3 f0 hb0 X0 Z0 E0 RS0 RC0 RB0 hbc hbw1
 go_wp2_with (first
  |(refine AM rfl 27 (.tmp 2) (.tmp 22) rfl w.heap.size 0 #[.int .i64 B.now,.slice (ad g1) n1 k1,.slice (ad g) n cap,.slice (ad g3) n3 k3] rfl rfl 27 #[.int .i64 B.now,.slice (ad g1) n1 k1,.slice (ad g2) n2 k2,.slice (ad g3) n3 k3] X1.out AQ (AD rfl) (by simp[Value.oneCell']) ?_;intro w2 hz on;have X2:Hid (Bl w2 (w.heap.size) #[.int .i64 B.now,.slice (ad g1) n1 k1,.slice (ad g) n cap,.slice (ad g3) n3 k3] 27):=hz;have Z2:Hid _:=(on.other (w.heap.size+1+1) (by omega)).trans Z1.out;have hb2:=hb1.trans (on.below.mono (by omega));have RS2:Hid (RowIs w2 63 13 g1 n1 k1 (AU B.svcs)):=RS1.out.blk (on.other g1 (by omega));have RB2:Hid (RowIs w2 74 2 g3 n3 k3 (Af B.bts)):=RB1.out.blk (on.other g3 (by omega));have RN2:Hid (RowIs w2 35 7 g n cap (Ag (Dl B (B.now+1)).cps)):=RN1.out.blk (on.other g (by omega));clear hz on)
  |(refine AP rfl 3 (.tmp 159) (.tmp 158) rfl w.heap.size 0 (.int .i64 (B.now+1)) rfl rfl An rfl rfl 27 #[.int .i64 B.now,.slice (ad g1) n1 k1,.slice (ad g) n cap,.slice (ad g3) n3 k3] X2.out (AD rfl) ?_;intro w3 hz on;have X3:Hid (Bl w3 (w.heap.size) #[.int .i64 (B.now+1),.slice (ad g1) n1 k1,.slice (ad g) n cap,.slice (ad g3) n3 k3] 27):=hz;have Z3:Hid _:=(on.other (w.heap.size+1+1) (by omega)).trans Z2.out;have hb3:=hb2.trans (on.below.mono (by omega));have RS3:Hid (RowIs w3 63 13 g1 n1 k1 (AU B.svcs)):=RS2.out.blk (on.other g1 (by omega));have RB3:Hid (RowIs w3 74 2 g3 n3 k3 (Af B.bts)):=RB2.out.blk (on.other g3 (by omega));have RN3:Hid (RowIs w3 35 7 g n cap (Ag (Dl B (B.now+1)).cps)):=RN2.out.blk (on.other g (by omega));clear hz on)
  |(refine wpList_load_row rfl 27 (.tmp 2) rfl w.heap.size rfl 27 #[.int .i64 (B.now+1),.slice (ad g1) n1 k1,.slice (ad g) n cap,.slice (ad g3) n3 k3] (0,0) _ X3.out Try.underlying27 rfl AQ ?_)
  |(refine AM rfl 27 (.tmp 4) (.tmp 160) rfl (w.heap.size+1+1) 0 #[.int .i64 (B.now+1),.slice (ad g1) n1 k1,.slice (ad g) n cap,.slice (ad g3) n3 k3] rfl rfl 27 zbV Z3.out AQ (AD rfl) (by simp[Value.oneCell']) ?_;intro w4 hz on;have Z4:Hid (Bl w4 (w.heap.size+1+1) #[.int .i64 (B.now+1),.slice (ad g1) n1 k1,.slice (ad g) n cap,.slice (ad g3) n3 k3] 27):=hz;have hb4:=hb3.trans (on.below.mono (by omega));have RS4:Hid (RowIs w4 63 13 g1 n1 k1 (AU B.svcs)):=RS3.out.blk (on.other g1 (by omega));have RB4:Hid (RowIs w4 74 2 g3 n3 k3 (Af B.bts)):=RB3.out.blk (on.other g3 (by omega));have RN4:Hid (RowIs w4 35 7 g n cap (Ag (Dl B (B.now+1)).cps)):=RN3.out.blk (on.other g (by omega));clear hz on))
 exact bodyPost_ret (v:=.tuple #[.agg #[.int .i64 (B.now+1),.slice (ad g1) n1 k1,.slice (ad g) n cap,.slice (ad g3) n3 k3],.int .i64 0]) (Ah rfl _ _ (w.heap.size+1+1) _ _ _ _ rfl Z4.out Try.underlying27 rfl AQ _ rfl) rfl ⟨_,_,_,_,_,_,_,_,_,_,rfl,λ_=>⟨rfl,(by rw[show(AY B ⟨1,sv,nm,num,fl⟩).1.svcs=B.svcs from(Bp B _ _).2.1];exact HN1.out.symm),HNN.out,(by rw[show(AY B ⟨1,sv,nm,num,fl⟩).1.bts=B.bts from(Bp B _ _).2.2.1];exact HN3.out.symm),(by rw[show(AY B ⟨1,sv,nm,num,fl⟩).1.svcs=B.svcs from(Bp B _ _).2.1];exact RS4.out),RN4.out,(by rw[show(AY B ⟨1,sv,nm,num,fl⟩).1.bts=B.bts from(Bp B _ _).2.2.1];exact RB4.out)⟩,CQ hb4⟩
theorem NJ(B:Bk)(sv:Svc)(nm:ByteArray)(num:Int)(fl:Bool)(N g1 g2 g3 k1 k2 k3 n1 n2 n3:Nat)(w:World)(hS:B.small)(hn0:0<=B.now)(hn9:B.now<1000000)(hN:N<=w.heap.size)(hB:BkRow w N g1 g2 g3 k1 k2 k3 B)(HN1:Hid (B.svcs.length=n1))(HN2:Hid (B.cps.length=n2))(HN3:Hid (B.bts.length=n3)):
  Calls Try.prog 97 #[.agg #[.int .i64 B.now,.slice (ad g1) n1 k1,.slice (ad g2) n2 k2,.slice (ad g3) n3 k3],.agg #[.int .i64 2,.string sv.name,.int .i64 sv.version,.bool sv.gone,.int .i64 sv.image,.int .i64 sv.want,.int .i64 sv.down,.int .i64 sv.over,.int .i64 sv.next,.int .i64 sv.per,.int .i64 sv.least,.int .i64 sv.most,.int .i64 sv.load,.int .i64 sv.cool,.string nm,.int .i64 num,.bool fl]] w (Ml g1 g2 w B ⟨2,sv,nm,num,fl⟩):=by
 have hSm:=hS;obtain⟨hl1,hl2,hl3⟩:=hS;rw[HN1.out]at hl1;rw[HN2.out]at hl2;rw[HN3.out]at hl3;have hq1:=hB.n1;have hq2:=hB.n2;have hq3:=hB.n3;have hg1:=hB.svcs.lt;have hg2:=hB.cps.lt;have hg3:=hB.bts.lt;have hc1:=hB.svcs.2.1;have hc2:=hB.cps.2.1;have hc3:=hB.bts.2.1;rw[HN1.out]at hc1;rw[HN2.out]at hc2;rw[HN3.out]at hc3;have h12:=hB.ne12;have h13:=hB.ne13;have h23:=hB.ne23;obtain⟨W0,hW0,t0,t1,t2,hz0,hz0',hb0⟩:=Cx w (.cells #[.int .i64 B.now,.slice (ad g1) n1 k1,.slice (ad g2) n2 k2,.slice (ad g3) n3 k3] 27) (.cells #[.int .i64 2,.string sv.name,.int .i64 sv.version,.bool sv.gone,.int .i64 sv.image,.int .i64 sv.want,.int .i64 sv.down,.int .i64 sv.over,.int .i64 sv.next,.int .i64 sv.per,.int .i64 sv.least,.int .i64 sv.most,.int .i64 sv.load,.int .i64 sv.cool,.string nm,.int .i64 num,.bool fl] 135) (.cells zbV 27);have X0:Hid _:=t0;have E0:Hid _:=t1;have Z0:Hid _:=t2;have RS0:Hid (RowIs W0 63 13 g1 n1 k1 (AU B.svcs)):=by have:=hB.svcs.below hb0 hg1;(rw[HN1.out]at this);exact this
 have RC0:Hid (RowIs W0 35 7 g2 n2 k2 (Ag B.cps)):=by have:=hB.cps.below hb0 hg2;(rw[HN2.out]at this);exact this
 have RB0:Hid (RowIs W0 74 2 g3 n3 k3 (Af B.bts)):=by have:=hB.bts.below hb0 hg3;(rw[HN3.out]at this);exact this
 clear t0 t1 t2 hB;go_enter Try.func97,Try.ntmps97
 go_upto_region 1 with fail
 clear hW0;obtain⟨e0,e1,e2,e3⟩:=c4 X0.out;have f0:=AK E0.out 0 rfl;have f1:=AK E0.out 1 rfl;have f2:=AK E0.out 2 rfl;have f3:=AK E0.out 3 rfl;have f4:=AK E0.out 4 rfl;have f5:=AK E0.out 5 rfl;have f6:=AK E0.out 6 rfl;have f7:=AK E0.out 7 rfl;have f8:=AK E0.out 8 rfl;have f9:=AK E0.out 9 rfl;have f10:=AK E0.out 10 rfl;have f11:=AK E0.out 11 rfl;have f12:=AK E0.out 12 rfl;have f13:=AK E0.out 13 rfl
 go_wp2_with fail
 have hcall:=NH B sv (B.now+1) (ad g2) (ad g3) k2 k3 g1 k1 n1 W0 hSm HN1 RS0.out
 try simp only[bkV]at hcall
 rw[HN2.out,HN3.out]at hcall;refine hcall.mono ?_;clear hcall;rintro e w1 ⟨g,n,cap,rfl,HNN,hgn,HRN,hbc⟩;have hbw1:=hb0.trans (hbc.mono hb0.size);have X1:Hid _:=AL hbc X0.out (by omega);have Z1:Hid _:=AL hbc Z0.out (by omega);have hz1:w.heap.size+1+1<w1.heap.size:=(AB Z1.out).1;have hb1:=hbw1;have RC1:Hid (RowIs w1 35 7 g2 n2 k2 (Ag B.cps)):=RC0.out.below hbc (by omega);have RB1:Hid (RowIs w1 74 2 g3 n3 k3 (Af B.bts)):=RB0.out.below hbc (by omega);have RN1:Hid (RowIs w1 63 13 g n cap (AU (EO B sv (B.now+1)).svcs)):=HRN.out;have hgl:=HRN.out.lt;clear HRN e0 e1 e2 e3 f0 f1 f2 f3 f4 f5 f6 f7 f8 f9 f10 f11 f12 f13 hb0 X0 Z0 E0 RS0 RC0 RB0 hbc hbw1
 go_wp2_with (first
  |(refine AM rfl 27 (.tmp 2) (.tmp 29) rfl w.heap.size 0 #[.int .i64 B.now,.slice (ad g) n cap,.slice (ad g2) n2 k2,.slice (ad g3) n3 k3] rfl rfl 27 #[.int .i64 B.now,.slice (ad g1) n1 k1,.slice (ad g2) n2 k2,.slice (ad g3) n3 k3] X1.out AQ (AD rfl) (by simp[Value.oneCell']) ?_;intro w2 hz on;have X2:Hid (Bl w2 (w.heap.size) #[.int .i64 B.now,.slice (ad g) n cap,.slice (ad g2) n2 k2,.slice (ad g3) n3 k3] 27):=hz;have Z2:Hid _:=(on.other (w.heap.size+1+1) (by omega)).trans Z1.out;have hb2:=hb1.trans (on.below.mono (by omega));have RC2:Hid (RowIs w2 35 7 g2 n2 k2 (Ag B.cps)):=RC1.out.blk (on.other g2 (by omega));have RB2:Hid (RowIs w2 74 2 g3 n3 k3 (Af B.bts)):=RB1.out.blk (on.other g3 (by omega));have RN2:Hid (RowIs w2 63 13 g n cap (AU (EO B sv (B.now+1)).svcs)):=RN1.out.blk (on.other g (by omega));clear hz on)
  |(refine AP rfl 3 (.tmp 159) (.tmp 158) rfl w.heap.size 0 (.int .i64 (B.now+1)) rfl rfl An rfl rfl 27 #[.int .i64 B.now,.slice (ad g) n cap,.slice (ad g2) n2 k2,.slice (ad g3) n3 k3] X2.out (AD rfl) ?_;intro w3 hz on;have X3:Hid (Bl w3 (w.heap.size) #[.int .i64 (B.now+1),.slice (ad g) n cap,.slice (ad g2) n2 k2,.slice (ad g3) n3 k3] 27):=hz;have Z3:Hid _:=(on.other (w.heap.size+1+1) (by omega)).trans Z2.out;have hb3:=hb2.trans (on.below.mono (by omega));have RC3:Hid (RowIs w3 35 7 g2 n2 k2 (Ag B.cps)):=RC2.out.blk (on.other g2 (by omega));have RB3:Hid (RowIs w3 74 2 g3 n3 k3 (Af B.bts)):=RB2.out.blk (on.other g3 (by omega));have RN3:Hid (RowIs w3 63 13 g n cap (AU (EO B sv (B.now+1)).svcs)):=RN2.out.blk (on.other g (by omega));clear hz on)
  |(refine wpList_load_row rfl 27 (.tmp 2) rfl w.heap.size rfl 27 #[.int .i64 (B.now+1),.slice (ad g) n cap,.slice (ad g2) n2 k2,.slice (ad g3) n3 k3] (0,0) _ X3.out Try.underlying27 rfl AQ ?_)
  |(refine AM rfl 27 (.tmp 4) (.tmp 160) rfl (w.heap.size+1+1) 0 #[.int .i64 (B.now+1),.slice (ad g) n cap,.slice (ad g2) n2 k2,.slice (ad g3) n3 k3] rfl rfl 27 zbV Z3.out AQ (AD rfl) (by simp[Value.oneCell']) ?_;intro w4 hz on;have Z4:Hid (Bl w4 (w.heap.size+1+1) #[.int .i64 (B.now+1),.slice (ad g) n cap,.slice (ad g2) n2 k2,.slice (ad g3) n3 k3] 27):=hz;have hb4:=hb3.trans (on.below.mono (by omega));have RC4:Hid (RowIs w4 35 7 g2 n2 k2 (Ag B.cps)):=RC3.out.blk (on.other g2 (by omega));have RB4:Hid (RowIs w4 74 2 g3 n3 k3 (Af B.bts)):=RB3.out.blk (on.other g3 (by omega));have RN4:Hid (RowIs w4 63 13 g n cap (AU (EO B sv (B.now+1)).svcs)):=RN3.out.blk (on.other g (by omega));clear hz on))
 exact bodyPost_ret (v:=.tuple #[.agg #[.int .i64 (B.now+1),.slice (ad g) n cap,.slice (ad g2) n2 k2,.slice (ad g3) n3 k3],.int .i64 0]) (Ah rfl _ _ (w.heap.size+1+1) _ _ _ _ rfl Z4.out Try.underlying27 rfl AQ _ rfl) rfl ⟨_,_,_,_,_,_,_,_,_,_,rfl,λ_=>⟨rfl,HNN.out,HN2.out.symm,HN3.out.symm,RN4.out,RC4.out,RB4.out⟩,CQ hb4⟩
theorem MN(B:Bk)(kind:Int)(sv:Svc)(nm:ByteArray)(num:Int)(fl:Bool)(N g1 g2 g3 k1 k2 k3 n1 n2 n3:Nat)(w:World)(hS:B.small)(hn0:0<=B.now)(hn9:B.now<1000000)(hN:N<=w.heap.size)(hB:BkRow w N g1 g2 g3 k1 k2 k3 B)(HN1:Hid (B.svcs.length=n1))(HN2:Hid (B.cps.length=n2))(HN3:Hid (B.bts.length=n3))(hk1:kind≠1)(hk2:kind≠2)(hk3:kind≠3)(hk4:kind≠4)(hk5:kind≠5)(hk6:kind≠6):
  Calls Try.prog 97 #[.agg #[.int .i64 B.now,.slice (ad g1) n1 k1,.slice (ad g2) n2 k2,.slice (ad g3) n3 k3],.agg #[.int .i64 kind,.string sv.name,.int .i64 sv.version,.bool sv.gone,.int .i64 sv.image,.int .i64 sv.want,.int .i64 sv.down,.int .i64 sv.over,.int .i64 sv.next,.int .i64 sv.per,.int .i64 sv.least,.int .i64 sv.most,.int .i64 sv.load,.int .i64 sv.cool,.string nm,.int .i64 num,.bool fl]] w (Ml g1 g2 w B ⟨kind,sv,nm,num,fl⟩):=by
 have hSm:=hS;obtain⟨hl1,hl2,hl3⟩:=hS;rw[HN1.out]at hl1;rw[HN2.out]at hl2;rw[HN3.out]at hl3;have hq1:=hB.n1;have hq2:=hB.n2;have hq3:=hB.n3;have hg1:=hB.svcs.lt;have hg2:=hB.cps.lt;have hg3:=hB.bts.lt;have hc1:=hB.svcs.2.1;have hc2:=hB.cps.2.1;have hc3:=hB.bts.2.1;rw[HN1.out]at hc1;rw[HN2.out]at hc2;rw[HN3.out]at hc3;have h12:=hB.ne12;have h13:=hB.ne13;have h23:=hB.ne23;obtain⟨W0,hW0,t0,t1,t2,hz0,hz0',hb0⟩:=Cx w (.cells #[.int .i64 B.now,.slice (ad g1) n1 k1,.slice (ad g2) n2 k2,.slice (ad g3) n3 k3] 27) (.cells #[.int .i64 kind,.string sv.name,.int .i64 sv.version,.bool sv.gone,.int .i64 sv.image,.int .i64 sv.want,.int .i64 sv.down,.int .i64 sv.over,.int .i64 sv.next,.int .i64 sv.per,.int .i64 sv.least,.int .i64 sv.most,.int .i64 sv.load,.int .i64 sv.cool,.string nm,.int .i64 num,.bool fl] 135) (.cells zbV 27);have X0:Hid _:=t0;have E0:Hid _:=t1;have Z0:Hid _:=t2;have RS0:Hid (RowIs W0 63 13 g1 n1 k1 (AU B.svcs)):=by have:=hB.svcs.below hb0 hg1;(rw[HN1.out]at this);exact this
 have RC0:Hid (RowIs W0 35 7 g2 n2 k2 (Ag B.cps)):=by have:=hB.cps.below hb0 hg2;(rw[HN2.out]at this);exact this
 have RB0:Hid (RowIs W0 74 2 g3 n3 k3 (Af B.bts)):=by have:=hB.bts.below hb0 hg3;(rw[HN3.out]at this);exact this
 clear t0 t1 t2 hB;go_enter Try.func97,Try.ntmps97
 go_upto_region 1 with fail
 clear hW0;obtain⟨e0,e1,e2,e3⟩:=c4 X0.out;have f0:=AK E0.out 0 rfl;have HC:Hid ((AY B ⟨kind,sv,nm,num,fl⟩).2=4):=by unfold Hid AY;simp[hk1,hk2,hk3,hk4,hk5,hk6]
 go_wp2_with (first
  |(refine wpList_load_row rfl 27 (.tmp 2) rfl w.heap.size rfl 27 #[.int .i64 B.now,.slice (ad g1) n1 k1,.slice (ad g2) n2 k2,.slice (ad g3) n3 k3] (0,0) _ X0.out Try.underlying27 rfl AQ ?_)
  |(refine AM rfl 27 (.tmp 4) (.tmp 17) rfl (w.heap.size+1+1) 0 #[.int .i64 B.now,.slice (ad g1) n1 k1,.slice (ad g2) n2 k2,.slice (ad g3) n3 k3] rfl rfl 27 zbV Z0.out AQ (AD rfl) (by simp[Value.oneCell']) ?_;intro w9 hz on;have Z9:Hid (Bl w9 (w.heap.size+1+1) #[.int .i64 B.now,.slice (ad g1) n1 k1,.slice (ad g2) n2 k2,.slice (ad g3) n3 k3] 27):=hz;have hb9:=hb0.trans (on.below.mono (by omega));clear hz on))
 exact bodyPost_ret (v:=.tuple #[.agg #[.int .i64 B.now,.slice (ad g1) n1 k1,.slice (ad g2) n2 k2,.slice (ad g3) n3 k3],.int .i64 4]) (Ah rfl _ _ (w.heap.size+1+1) _ _ _ _ rfl Z9.out Try.underlying27 rfl AQ _ rfl) rfl ⟨_,_,_,_,_,_,_,_,_,_,by rw[HC.out],λh=>absurd h (by rw[HC.out];simp),CQ hb9⟩
end
end Go.Proofs.Ytbceafpodamnfaa
