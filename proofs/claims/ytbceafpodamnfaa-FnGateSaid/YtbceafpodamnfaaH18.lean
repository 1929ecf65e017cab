import Derived.Test.YtbceafpodamnfaaH17
set_option linter.all false
set_option maxHeartbeats 16000000
set_option maxRecDepth 100000
namespace Go.Proofs.Ytbceafpodamnfaa
attribute [local simp] svV cpV zbV czV aaV ctZ ad bkV ctV acV
attribute [local go_sem] svV cpV zbV czV aaV ctZ ad bkV ctV acV
section
open Go.RowKit Go.Sort
def EK(B:Bk)(A:Ac):Int:=match F1 B A with
  |some c=>c
  |none=>match Bz B A.service with
    |none=>3
    |some s=>match E8 B s A.service (B.now+1) A.ends B.cps with
      |none=>5
      |some L=>Gz B A s L
def D0(B:Bk)(A:Ac):Bk:=match Bz B A.service with
  |none=>B
  |some s=>match E8 B s A.service (B.now+1) A.ends B.cps with
    |none=>B
    |some L=>Do B A s L (Gd B.svcs A.service).toNat
theorem Fp{B:Bk}{A:Ac}(h:F1 B A=none):Dp A=true/\∃s,Bz B A.service=some s/\A.ends.all (Dt B A)=true/\s.version=A.seen/\A.ends.all (DD B A)=true:=by
  unfold F1 at h;split at h
  · rename_i hok
    refine⟨hok,?_⟩;split at h
    · cases h
    · rename_i s hs
      split at h
      · rename_i hin
        split at h
        · rename_i hv
          split at h
          · rename_i hes
            exact⟨s,hs,hin,eq_of_beq hv,hes⟩
          · cases h
        · cases h
      · cases h
  · cases h
theorem G6{A:Ac}(h:Dp A=true):0<=A.create/\A.create<=20:=by
  unfold Dp at h;simp only[Bool.and_eq_true]at h;exact inB_iff.1 h.1.1.1.1
theorem act_want{A:Ac}(h:Dp A=true):Hid (A.scale=true->0<=A.want/\A.want<=10):=λhs=>by
  unfold Dp at h;simp only[Bool.and_eq_true]at h;have h2:=h.1.2;rw[if_pos hs,Bool.and_eq_true]at h2;exact inB_iff.1 h2.1
theorem Hm{B:Bk}{A:Ac}{c:Int}(h:F1 B A=some c):c≠0:=by
  unfold F1 at h;split at h
  · split at h
    · cases h;decide
    · split at h
      · split at h
        · split at h
          · cases h
          · cases h;decide
        · cases h;decide
      · cases h;decide
  · cases h;decide
def BH(B:Bk)(A:Ac):Bk:=if EK B A=0 then D0 B A else B
theorem MX (B : Bk) (A : Ac) (a1 a2 a3 : Option Addr) (c1 c2 c3 : Nat) (ae : Option Addr) (ce : Nat) (w : World) (hV : Valid B) (hS : B.small) (hB : BkAt w a1 a2 a3 B) (hl : A.ends.length <= 1048576) (hE : SlE w ae A.ends) :
    Calls Try.prog 99 #[.agg (bkV B a1 c1 a2 c2 a3 c3),.agg (acV A ae ce)] w λe w'=>
      ((∃c:Int,e=.returned (.tuple #[.agg (bkV B a1 c1 a2 c2 a3 c3),.int .i64 c])/\c≠0/\EK B A=c)\/
       (∃g1 n1 k1 g2 n2 k2 g3 k3:Nat,e=.returned (.tuple #[.agg #[.int .i64 (B.now+1),.slice (ad g1) n1 k1,.slice (ad g2) n2 k2,.slice (ad g3) B.bts.length k3],.int .i64 0])/\EK B A=0/\n1=(D0 B A).svcs.length/\n2=(D0 B A).cps.length/\BkRow w' w.heap.size g1 g2 g3 k1 k2 k3 (D0 B A)))/\Below w.heap.size w w':=by
  cases he:F1 B A with
  |some c=>
    refine(KT B A c a1 a2 a3 c1 c2 c3 ae ce w hS hB hl hE he).mono λe w' ⟨h,hb⟩=>⟨.inl ⟨c,h,Hm he,?_⟩,hb⟩
    unfold EK;rw[he]
  |none=>
    obtain⟨hok,s,hs,hin,hv,hes⟩:=Fp he;have hsi:=hV.svcIn (Du hs);obtain⟨hn0,hn1⟩:=inB_iff.1 hV.now;obtain⟨MM,hm⟩:∃M,E8 B s A.service (B.now+1) A.ends B.cps=M:=⟨_,rfl⟩;have hc0:=G6 hok;refine(MW B A A.create.toNat (Int.toNat_of_nonneg hc0.1).symm (act_want hok) hV.ls s MM a1 a2 a3 c1 c2 c3 ae ce w hS hB hl hE hok hs hin hv hes hsi hc0.1 hc0.2 hn0 hn1 hm).mono λe w' ⟨h,hb⟩=>⟨?_,hb⟩
    rcases h with⟨rfl,h⟩|⟨L,rfl,h⟩
    · refine .inl ⟨5,h,by decide,?_⟩
      unfold EK;rw[he];simp only[hs,hm]
    · have hcL:EK B A=Gz B A s L:=by
        unfold EK;rw[he];simp only[hs,hm]
      rcases h with⟨c,h1,h0,h2⟩|⟨k,g1,n1,k1,g2,n2,k2,g3,k3,h1,h2,h3,h4,h5,h6,h7⟩
      · exact .inl ⟨c,h1,h0,by rw[hcL];exact h2⟩
      · have hd:D0 B A=Do B A s L k:=by
          unfold D0;simp only[hs,hm,h4,Int.toNat_natCast]
        exact .inr ⟨g1,n1,k1,g2,n2,k2,g3,k3,h1,by rw[hcL];exact h2,by rw[hd];exact h5,by rw[hd];exact h6,by rw[hd];exact h7⟩
theorem NS{B:Bk}{A:Ac}(h:EK B A=0):(D0 B A).now=B.now+1/\(D0 B A).bts=B.bts:=by
  unfold EK at h;unfold D0
  cases he:F1 B A with
  |some c=>rw[he]at h;exact absurd h (Hm he)
  |none=>
    rw[he]at h;obtain⟨_,s,hs,_⟩:=Fp he;simp only[hs]at h ⊢
    cases hm:E8 B s A.service (B.now+1) A.ends B.cps with
    |none=>simp only[hm]at h;exact absurd h (by decide)
    |some L=>exact⟨rfl,rfl⟩
theorem MV (B : Bk) (A : Ac) (a1 a2 a3 : Option Addr) (c1 c2 c3 : Nat) (ae : Option Addr) (ce : Nat) (w : World) (hV : Valid B) (hS : B.small) (hB : BkAt w a1 a2 a3 B) (hl : A.ends.length <= 1048576) (hE : SlE w ae A.ends) :
    Calls Try.prog 99 #[.agg (bkV B a1 c1 a2 c2 a3 c3),.agg (acV A ae ce)] w λe w'=>
      (∃(x1 x2 x3:Option Addr) (d1 d2 d3:Nat),e=.returned (.tuple #[.agg #[.int .i64 (BH B A).now,.slice x1 (BH B A).svcs.length d1,.slice x2 (BH B A).cps.length d2,.slice x3 (BH B A).bts.length d3],.int .i64 (EK B A)])/\BkAt w' x1 x2 x3 (BH B A))/\Below w.heap.size w w':=by
  refine(MX B A a1 a2 a3 c1 c2 c3 ae ce w hV hS hB hl hE).mono λe w' ⟨h,hb⟩=>⟨?_,hb⟩
  rcases h with⟨c,h1,h0,h2⟩|⟨g1,n1,k1,g2,n2,k2,g3,k3,h1,h2,h3,h4,h5⟩
  · have e1:BH B A=B:=by unfold BH;rw[if_neg (by rw[h2];exact h0)]
    rw[e1];exact⟨a1,a2,a3,c1,c2,c3,by rw[h1,h2],hB.below hb⟩
  · have e1:BH B A=D0 B A:=by unfold BH;rw[if_pos h2]
    obtain⟨en,eb⟩:=NS h2;rw[e1];exact⟨some ⟨g1,0,none⟩,some ⟨g2,0,none⟩,some ⟨g3,0,none⟩,k1,k2,k3,by rw[h1,h2,h3,h4,en,eb],⟨h5.svcs.slS,h5.cps.slC,h5.bts.slB⟩⟩
theorem KN (B : Bk) (A : Ac) (a1 a2 a3 : Option Addr) (c1 c2 c3 : Nat) (ae : Option Addr) (ce : Nat) (w : World) (hS : B.small) (hZ : B.sized) (hSx : Valid B -> (BH B A).small) (hB : BkAt w a1 a2 a3 B) (hl : A.ends.length <= 1048576) (hE : SlE w ae A.ends) :
    Calls Try.prog 93 #[.agg (bkV B a1 c1 a2 c2 a3 c3),.agg (acV A ae ce)] w λe w'=>
      ((Au B=false/\e=.returned (.tuple #[.agg zbV,.int .i64 1]))\/
       (Au B=true/\∃g1 k1 g2 k2 g3 k3,e=.returned (.tuple #[.agg #[.int .i64 (BH B A).now,.slice (ad g1) (BH B A).svcs.length k1,.slice (ad g2) (BH B A).cps.length k2,.slice (ad g3) (BH B A).bts.length k3],.int .i64 (EK B A)])/\BkRow w' w.heap.size g1 g2 g3 k1 k2 k3 (BH B A)))/\Below w.heap.size w w':=by
  obtain⟨t0,t1,t2,t3⟩:=CR w (.cells (bkV B a1 c1 a2 c2 a3 c3) 27) (.cells (acV A ae ce) 152) (.cells zbV 27);obtain⟨W0,hW0⟩:∃W,((w.alloc (.cells (bkV B a1 c1 a2 c2 a3 c3) 27)).alloc (.cells (acV A ae ce) 152)).alloc (.cells zbV 27)=W:=⟨_,rfl⟩;have hb0:Below w.heap.size w W0:=by rw[<-hW0];exact(((Below.refl _ _).alloc (AG _) _).alloc (by simp) _).alloc (by simp;omega) _
  rw[hW0]at t0 t1 t2 t3;have T0:Hid _:=t0;have T1:Hid _:=t1;have T2:Hid _:=t2;obtain⟨e0,e1,e2,e3⟩:=c4 t0;clear t0 t1 t2 t3;go_enter Try.func93,Try.ntmps93
  go_wp2_with fail
  clear hW0;refine(Az B a1 a2 a3 c1 c2 c3 _ hS hZ (hB.below hb0)).mono ?_;rintro e w1 ⟨rfl,hq1⟩;have hb1:=hb0.trans (hq1.mono hb0.size);have U0:Hid _:=Ai hq1 T0.out;have U1:Hid _:=Ai hq1 T1.out;have U2:Hid _:=Ai hq1 T2.out;clear T0 T1 T2 e0 e1 e2 e3 hq1 hb0;cases hv:Au B
  · have HV:Hid _:=hv
    go_wp2_with (first|((with_reducible show wpList _ _ _ _ _ _);refine AM rfl 27 (.tmp 4) (.tmp 11) rfl (w.heap.size+1+1) 0 zbV rfl rfl 27 zbV U2.out As (AD rfl) (by simp[Value.oneCell']) ?_;intro wf hz on;have RF:Hid (Bl wf (w.heap.size+1+1) zbV 27):=hz;have hbf:=hb1.trans (on.below.mono (by omega));clear hz on;have p0:=AK RF.out 0 rfl;have p1:=AK RF.out 1 rfl;have p2:=AK RF.out 2 rfl;have p3:=AK RF.out 3 rfl))
    exact bodyPost_ret (v:=.tuple #[.agg zbV,.int .i64 1]) (by simp[results,Try.results93,go_sem,p0,p1,p2,p3]) rfl ⟨.inl ⟨HV.out,rfl⟩,hbf⟩
  · have HV:Hid _:=hv
    have hV:=validB_iff.1 hv;have hSX:=hSx hV;obtain⟨e0,e1,e2,e3⟩:=c4 U0.out;have f0:=AK U1.out 0 rfl;have f1:=AK U1.out 1 rfl;have f2:=AK U1.out 2 rfl;have f3:=AK U1.out 3 rfl;have f4:=AK U1.out 4 rfl;have f5:=AK U1.out 5 rfl;have f6:=AK U1.out 6 rfl;have f7:=AK U1.out 7 rfl
    go_wp2_with fail
    refine(MV B A a1 a2 a3 c1 c2 c3 ae ce _ hV hS (hB.below hb1) hl (hE.below hb1)).mono ?_;rintro e w2 ⟨⟨x1,x2,x3,d1,d2,d3,rfl,hX⟩,hq2⟩;clear e0 e1 e2 e3 f0 f1 f2 f3 f4 f5 f6 f7;obtain⟨X,HX⟩:∃X,Hid (BH B A=X):=⟨_,rfl⟩;obtain⟨c,HC⟩:∃c,Hid (EK B A=c):=⟨_,rfl⟩;rw[HX.out]at hX hSX;rw[HX.out,HC.out];have hb2:=hb1.trans (hq2.mono hb1.size);have hl2:w.heap.size+1+1<w1.heap.size:=(AB U2.out).1;have hz12:=hq2.size;have V2:Hid _:=Ai hq2 U2.out;obtain⟨w3,hw3⟩:∃W,w2.alloc (.cells (bkV X x1 d1 x2 d2 x3 d3) 27)=W:=⟨_,rfl⟩;have hq3:Below w2.heap.size w2 w3:=hw3▸AO w2 _;have Y3:Hid _:=heap_alloc_new w2 (.cells (bkV X x1 d1 x2 d2 x3 d3) 27);rw[hw3]at Y3;have hb3:=hb2.trans (hq3.mono hb2.size);have V3:Hid _:=Ai hq3 V2.out;have hX3:=hX.below hq3;obtain⟨g0,g1,g2,g3⟩:=c4 Y3.out;clear V2 U0 U1 U2 hq2 hX
    go_wp2_with fail
    refine(CP X x1 x2 x3 d1 d2 d3 _ hSX hX3).mono ?_;rintro e w4 ⟨y1,k1,y2,k2,y3,k3,rfl,hr,hq4⟩;have hb4:=hb3.trans (hq4.mono hb3.size);have V4:Hid _:=Ai hq4 V3.out;clear g0 g1 g2 g3 V3 hw3 Y3;have hz3:w.heap.size+1+1<w3.heap.size:=AF hl2 (AH hz12 hq3.size);have hy1:=hr.n1;have hy2:=hr.n2;have hy3:=hr.n3
    go_wp2_with (first|((with_reducible show wpList _ _ _ _ _ _);refine AM rfl 27 (.tmp 4) (.tmp 19) rfl (w.heap.size+1+1) 0 (bkV X (ad y1) k1 (ad y2) k2 (ad y3) k3) rfl rfl 27 zbV V4.out As (AD rfl) (by simp[Value.oneCell']) ?_;intro wf hz on;have RF:Hid (Bl wf (w.heap.size+1+1) (bkV X (ad y1) k1 (ad y2) k2 (ad y3) k3) 27):=hz;have hbf:=hb4.trans (on.below.mono (by omega));have hrf:BkRow wf w.heap.size y1 y2 y3 k1 k2 k3 X:=⟨by omega,by omega,by omega,hr.svcs.blk (on.other _ (by omega)),hr.cps.blk (on.other _ (by omega)),hr.bts.blk (on.other _ (by omega))⟩;clear hz on;have p0:=AK RF.out 0 rfl;have p1:=AK RF.out 1 rfl;have p2:=AK RF.out 2 rfl;have p3:=AK RF.out 3 rfl))
    exact bodyPost_ret (v:=.tuple #[.agg (bkV X (ad y1) k1 (ad y2) k2 (ad y3) k3),.int .i64 c]) (by simp[results,Try.results93,go_sem,p0,p1,p2,p3]) rfl ⟨.inr ⟨HV.out,y1,k1,y2,k2,y3,k3,by rw[HX.out,HC.out],by rw[HX.out];exact hrf⟩,hbf⟩
theorem NB(sv:ByteArray)(v:Int)(l:List Cp)(num:Int):(Gx sv v l num).length=l.length:=by
  unfold Gx;split
  · split
    · rw[List.length_set]
    · rfl
  · rfl
theorem IE(B:Bk)(s:Svc)(sv:ByteArray)(v:Int):∀(es:List En) (l L:List Cp),E8 B s sv v es l=some L->L.length=l.length
  |[],l,L,h=>by cases h;rfl
  |e::es,l,L,h=>by
    unfold E8 at h;split at h
    · split at h
      · rw[IE B s sv v es _ L h,NB]
      · cases h
    · cases h
theorem KW{B:Bk}(A:Ac)(hV:Valid B)(hS:B.small):(BH B A).small:=by
  unfold BH
  by_cases hcode:EK B A=0
  · rw[if_pos hcode]
    unfold D0;split
    · exact hS
    · rename_i s hs
      split
      · exact hS
      · rename_i L hm
        have hL:=IE _ _ _ _ _ _ _ hm;have h1:=hV.ls;have h2:=hV.lc;have h3:=hV.lb
        have hcr:A.create.toNat<=20:=by
          cases he:F1 B A with
          |some c=>
            unfold EK at hcode;rw[he]at hcode;exact absurd hcode (Hm he)
          |none=>
            have:=G6 (Fp he).1;omega
        refine⟨?_,?_,?_⟩
        · show(DH B A s _).length<=_
          unfold DH;split
          · rw[List.length_append,List.length_take,List.length_drop];omega
          · rw[List.length_set];omega
        · show(Gw B A s L A.create.toNat).length<=_
          rw[GF,hL];omega
        · show B.bts.length<=_
          omega
  · rw[if_neg hcode]
    exact hS
theorem KO (B : Bk) (A : Ac) (a1 a2 a3 : Option Addr) (c1 c2 c3 : Nat) (ae : Option Addr) (ce : Nat) (w : World) (hS : B.small) (hZ : B.sized) (hB : BkAt w a1 a2 a3 B) (hl : A.ends.length <= 1048576) (hE : SlE w ae A.ends) :
    Calls Try.prog 93 #[.agg (bkV B a1 c1 a2 c2 a3 c3),.agg (acV A ae ce)] w λe w'=>
      ((Au B=false/\e=.returned (.tuple #[.agg zbV,.int .i64 1]))\/
       (Au B=true/\∃g1 k1 g2 k2 g3 k3,e=.returned (.tuple #[.agg #[.int .i64 (BH B A).now,.slice (ad g1) (BH B A).svcs.length k1,.slice (ad g2) (BH B A).cps.length k2,.slice (ad g3) (BH B A).bts.length k3],.int .i64 (EK B A)])/\BkRow w' w.heap.size g1 g2 g3 k1 k2 k3 (BH B A)))/\Below w.heap.size w w':=
  KN B A a1 a2 a3 c1 c2 c3 ae ce w hS hZ (λhV=>KW A hV hS) hB hl hE
end
section
open Go.RowKit
def GW(B:Bk)(nm:ByteArray)(m:Nat):Int:=((B.cps.take m).filter λc=>c.berth.toList==nm.toList).length
theorem LO{B:Bk}{nm:ByteArray}{m:Nat}{c:Cp}(h:B.cps[m]?=some c):GW B nm (m+1)=Et (c.berth.toList==nm.toList) (GW B nm m):=by
 unfold GW Et;rw[List.take_add_one,h,List.filter_append];cases hc:(c.berth.toList==nm.toList)<;>simp[List.filter,hc]
def Mw(B:Bk)(nm:ByteArray):Int:=GW B nm B.cps.length
def GI(B:Bk)(p:ByteArray × Int)(t:Bt):ByteArray × Int:=if(!t.drain&&(p.1.toList==[]||decide (Mw B t.name<p.2)))=true then(t.name,Mw B t.name) else p
def DC(B:Bk)(k:Nat):ByteArray × Int:=(B.bts.take k).foldl (GI B) (⟨#[]⟩,0)
theorem Hh{B:Bk}{k:Nat}{t:Bt}(h:B.bts[k]?=some t):DC B (k+1)=GI B (DC B k) t:=by
 unfold DC;rw[List.take_add_one,h,List.foldl_append];rfl
def Eh(B:Bk):ByteArray:=(DC B B.bts.length).1
def Ge(v:Int)(c:Cp):Cp:=if c.state=2 then {c with state:=3,version:=v} else c
def DB(v:Int)(l:List Cp):List Cp:=(l.filter λc=>!c.ending).map (Ge v)
def DX(v:Int)(X:Bk)(i:Nat):Bk:=match X.cps[i]? with
 |some c=>if c.state=1/\Eh X≠⟨#[]⟩ then {X with cps:=X.cps.set i {c with state:=2,berth:=Eh X,version:=v}} else X
 |none=>X
def tick0(B:Bk)(v:Int):Bk:={B with cps:=DB v B.cps}
def Cw(B:Bk)(v:Int)(k:Nat):Bk:=(List.range k).foldl (DX v) (tick0 B v)
def Dl(B:Bk)(v:Int):Bk:=Cw B v (DB v B.cps).length
theorem Ex(B:Bk)(v:Int)(k:Nat):Cw B v (k+1)=DX v (Cw B v k) k:=by
 unfold Cw;rw[List.range_succ,List.foldl_append];rfl
theorem LS(v:Int)(X:Bk)(i:Nat):(DX v X i).now=X.now/\(DX v X i).svcs=X.svcs/\(DX v X i).bts=X.bts/\(DX v X i).cps.length=X.cps.length:=by
 unfold DX;split
 ·split
  ·exact⟨rfl,rfl,rfl,List.length_set ..⟩
  ·exact⟨rfl,rfl,rfl,rfl⟩
 ·exact⟨rfl,rfl,rfl,rfl⟩
theorem Bp(B:Bk)(v:Int):∀k,(Cw B v k).now=B.now/\(Cw B v k).svcs=B.svcs/\(Cw B v k).bts=B.bts/\(Cw B v k).cps.length=(DB v B.cps).length
 |0=>⟨rfl,rfl,rfl,rfl⟩
 |k+1=>by
  rw[Ex];obtain⟨h1,h2,h3,h4⟩:=LS v (Cw B v k) k;obtain⟨q1,q2,q3,q4⟩:=Bp B v k;exact⟨h1.trans q1,h2.trans q2,h3.trans q3,h4.trans q4⟩
end
section
open Go.RowKit Go.Sort
theorem MP(B:Bk)(a1 a2 a3:Option Addr)(c1 c2 c3:Nat)(w:World)(hS:B.small)(hB:BkAt w a1 a2 a3 B):
  Calls Try.prog 110 #[.agg (bkV B a1 c1 a2 c2 a3 c3)] w λe w'=>e=.returned (.string (Eh B))/\Below w.heap.size w w':=by
 obtain⟨hl1,hl2,hl3⟩:=hS;have hb0:=AO w (.cells (bkV B a1 c1 a2 c2 a3 c3) 27);have T0:Hid _:=heap_alloc_new w (.cells (bkV B a1 c1 a2 c2 a3 c3) 27);go_enter Try.func110,Try.ntmps110;go_wp2
 go_loopw [3,4,5] (λbv lv iv wr=>∃(k:Nat) (bn:ByteArray) (ls:Int),k<=B.bts.length/\iv=.int .i64 k/\bv=.string bn/\lv=.int .i64 ls/\Hid ((bn,ls)=DC B k)/\0<=ls/\ls<=1048576/\Below w.heap.size w wr/\Hid (Bl wr (w.heap.size) (bkV B a1 c1 a2 c2 a3 c3) 27)) (λ_ _ i _=>B.bts.length - (intOf i).toNat)
 case atStart=>exact⟨0,⟨#[]⟩,0,by omega,rfl,rfl,rfl,rfl,by omega,by omega,hb0,T0⟩
 case round=>
  clear hb0 T0;obtain⟨k,bn,ls,hk,rfl,rfl,rfl,HP,hs0,hs1,hb,HX⟩:=hrel;have hzx:w.heap.size<wr.heap.size:=(AB HX.out).1;have e3:=AK HX.out 3 rfl
  by_cases hlt:k<B.bts.length
  ·obtain⟨t,htk⟩:∃t,B.bts[k]?=some t:=⟨B.bts[k],by simp[hlt]⟩
   have HPS:Hid (DC B (k+1)=GI B (bn,ls) t):=by unfold Hid;rw[Hh htk,<-HP.out]
   have hne:B.bts≠[]:=by intro h;rw[h]at hlt;simp at hlt
   obtain⟨bT,oT,ea,hbT0,hatT⟩:=(hB.below hb).2.2 hne;subst ea;have htx0:=hatT k t htk;clear htk hne hatT;go_wp2;clear e3
   go_loopw [6,7] (λnv iv wq=>∃(m:Nat) (n:Int),m<=B.cps.length/\iv=.int .i64 m/\nv=.int .i64 n/\Hid (n=GW B t.name m)/\0<=n/\n<=m/\Below wr.heap.size wr wq/\Hid (Bl wq (w.heap.size) (bkV B a1 c1 a2 c2 (some ⟨bT,oT,none⟩) c3) 27)) (λ_ i _=>B.cps.length - (intOf i).toNat)
   case atStart=>exact⟨0,0,by omega,rfl,rfl,rfl,by omega,by omega,Below.refl _ _,HX⟩
   case round=>
    rename_i wr0 _;obtain⟨m,n,hm,rfl,rfl,HN,hn0,hn1,hbq,HQ⟩:=hrel;have hzq:w.heap.size<wr.heap.size:=(AB HQ.out).1;have hbT:bT<wr.heap.size:=AF hbT0 hbq.size;have htx:=htx0.below hbq hbT0
    by_cases hlm:m<B.cps.length
    ·obtain⟨c,hcm⟩:∃c,B.cps[m]?=some c:=⟨B.cps[m],by simp[hlm]⟩
     have HNS:Hid (GW B t.name (m+1)=Et (c.berth.toList==t.name.toList) n):=by unfold Hid;rw[LO hcm,<-HN.out]
     have hne:B.cps≠[]:=by intro h;rw[h]at hlm;simp at hlm
     obtain⟨bC,oC,ea,hbC,hatC⟩:=((hB.below hb).below hbq).2.1 hne;subst ea;have hcx:=hatC m c hcm;clear hcm hne hatC;have e2:=AK HQ.out 2 rfl;go_wp2;clear e2
     ·skip
      refine AX 12 (by kernel_rfl) (by kernel_rfl) ?_;apply AN
      ·intro V W K A hW hd hA hK
       simp only[pA]at hA;clear hd;obtain rfl:=hA;go_wp2;exact hK.out _ brf
      apply AN
      ·intro V W K A hW hd hA hK
       have d0:V 0=_:=hd 0 (by kernel_rfl);simp only[pA,d0]at hA;clear hd d0;obtain rfl:=hA;have e2:=AK (AL hW HQ.out hzq) 2 rfl;go_wp2;exact hK.out _ brf
      apply AN
      ·intro V W K A hW hd hA hK
       simp only[pA]at hA;clear hd;obtain rfl:=hA;go_wp2;exact hK.out _ brf
      apply AN
      ·intro V W K A hW hd hA hK
       have d1:V 1=_:=hd 1 (by kernel_rfl);have d2:V 2=_:=hd 2 (by kernel_rfl);simp only[pA,d1,d2]at hA;clear hd d1 d2;obtain rfl:=hA;go_wp2;exact hK.out _ brf
      apply AN
      ·intro V W K A hW hd hA hK
       have d3:V 3=_:=hd 3 (by kernel_rfl);simp only[pA,d3]at hA;clear hd d3;obtain rfl:=hA;go_wp2;exact hK.out _ brf
      apply AN
      ·intro V W K A hW hd hA hK
       have d4:V 4=_:=hd 4 (by kernel_rfl);simp only[pA,d4]at hA;clear hd d4;obtain rfl:=hA;have hq:=hcx.below hW hbC;unfold CpAt at hq;obtain⟨z0,z1,z2,z3,z4,z5,z6⟩:=hq;go_wp2;exact hK.out _ brf
      apply AN
      ·intro V W K A hW hd hA hK
       simp only[pA]at hA;clear hd;obtain rfl:=hA;go_wp2;exact hK.out _ brf
      apply AN
      ·intro V W K A hW hd hA hK
       have d6:V 6=_:=hd 6 (by kernel_rfl);simp only[pA,d6]at hA;clear hd d6;obtain rfl:=hA;have e3:=AK (AL hW HQ.out hzq) 3 rfl;go_wp2;exact hK.out _ brf
      apply AN
      ·intro V W K A hW hd hA hK
       simp only[pA]at hA;clear hd;obtain rfl:=hA;go_wp2;exact hK.out _ brf
      apply AN
      ·intro V W K A hW hd hA hK
       have d7:V 7=_:=hd 7 (by kernel_rfl);have d8:V 8=_:=hd 8 (by kernel_rfl);simp only[pA,d7,d8]at hA;clear hd d7 d8;obtain rfl:=hA;go_wp2;exact hK.out _ brf
      apply AN
      ·intro V W K A hW hd hA hK
       have d9:V 9=_:=hd 9 (by kernel_rfl);simp only[pA,d9]at hA;clear hd d9;obtain rfl:=hA;go_wp2;exact hK.out _ brf
      apply AN
      ·intro V W K A hW hd hA hK
       have d10:V 10=_:=hd 10 (by kernel_rfl);simp only[pA,d10]at hA;clear hd d10;obtain rfl:=hA;have hq:=htx.below hW hbT;unfold BtAt at hq;obtain⟨z0,z1⟩:=hq;go_wp2;exact hK.out _ brf
      intro V W A hW hS hA;have d0:V 0=_:=hS 0 (by omega);have d1:V 1=_:=hS 1 (by omega);have d2:V 2=_:=hS 2 (by omega);have d3:V 3=_:=hS 3 (by omega);have d4:V 4=_:=hS 4 (by omega);have d5:V 5=_:=hS 5 (by omega);have d6:V 6=_:=hS 6 (by omega);have d7:V 7=_:=hS 7 (by omega);have d8:V 8=_:=hS 8 (by omega);have d9:V 9=_:=hS 9 (by omega);have d10:V 10=_:=hS 10 (by omega);have d11:V 11=_:=hS 11 (by omega);simp only[pA,d0,d1,d2,d3,d4,d5,d6,d7,d8,d9,d10,d11]at hA;clear hS d0 d1 d2 d3 d4 d5 d6 d7 d8 d9 d10 d11;obtain rfl:=hA;simp only[List.drop_succ_cons,List.drop_zero];have hzW:=hW.size;have hbW:=hbq.trans (hW.mono hbq.size);have HW:Hid _:=AL hW HQ.out hzq;cases hq:(c.berth.toList==t.name.toList)
      ·go_wp2
       go_roundw
       case rel=>exact⟨m+1,n,by omega,by go_num,rfl,by unfold Hid;rw[HNS.out,hq];rfl,by omega,by omega,hbW,HW⟩
       case measure=>simp[intOf];omega
      ·go_wp2
       go_roundw
       case rel=>exact⟨m+1,n+1,by omega,by go_num,rfl,by unfold Hid;rw[HNS.out,hq];rfl,by omega,by omega,hbW,HW⟩
       case measure=>simp[intOf];omega
    ·have HNE:Hid (n=Mw B t.name):=by unfold Hid;rw[HN.out,show m=B.cps.length by omega];rfl
     have e2:=AK HQ.out 2 rfl;have e3:=AK HQ.out 3 rfl;unfold BtAt at htx;obtain⟨z0,z1⟩:=htx;have hbW:=hb.trans (hbq.mono hb.size);have hn2:n<=1048576:=by omega
     clear hb hbq;cases hdr:t.drain
     ·cases hbe:(bn.toList==[])
      ·cases hnl:decide (n<ls)
       ·have hnl':=of_decide_eq_false hnl
        have HEQ:Hid (DC B (k+1)=(bn,ls)):=by unfold Hid;rw[HPS.out];unfold GI;rw[if_neg (by rw[hdr,<-HNE.out];simp only[hbe,hnl];simp)]
        go_wp2
        go_roundw
        case rel=>exact⟨k+1,bn,ls,by omega,by go_num,rfl,rfl,HEQ.out.symm,hs0,hs1,hbW,HQ⟩
        case measure=>simp[intOf];omega
       ·have hnl':=of_decide_eq_true hnl
        have HEQ:Hid (DC B (k+1)=(t.name,n)):=by unfold Hid;rw[HPS.out];unfold GI;rw[if_pos (by rw[hdr,<-HNE.out];simp only[hbe,hnl];simp),<-HNE.out]
        go_wp2
        go_roundw
        case rel=>exact⟨k+1,t.name,n,by omega,by go_num,rfl,rfl,HEQ.out.symm,hn0,hn2,hbW,HQ⟩
        case measure=>simp[intOf];omega
      ·have HEQ:Hid (DC B (k+1)=(t.name,n)):=by unfold Hid;rw[HPS.out];unfold GI;rw[if_pos (by rw[hdr,<-HNE.out];simp only[hbe];simp),<-HNE.out]
       go_wp2
       go_roundw
       case rel=>exact⟨k+1,t.name,n,by omega,by go_num,rfl,rfl,HEQ.out.symm,hn0,hn2,hbW,HQ⟩
       case measure=>simp[intOf];omega
     ·have HEQ:Hid (DC B (k+1)=(bn,ls)):=by unfold Hid;rw[HPS.out];unfold GI;rw[if_neg (by rw[hdr];simp)]
      go_wp2
      go_roundw
      case rel=>exact⟨k+1,bn,ls,by omega,by go_num,rfl,rfl,HEQ.out.symm,hs0,hs1,hbW,HQ⟩
      case measure=>simp[intOf];omega
  ·have HE:Hid (bn=Eh B):=by unfold Hid Eh;rw[show B.bts.length=k by omega,<-HP.out]
   go_wp2;go_ret;exact⟨congrArg (λx=>Ending.returned (.string x)) HE.out,hb⟩
theorem Lq(w:World)(A B:Obj):∃W0,(w.alloc A).alloc B=W0/\W0.heap[w.heap.size]?=some A/\W0.heap[w.heap.size+1]?=some B/\w.heap.size+1+1<=W0.heap.size/\W0.heap.size<=w.heap.size+1+1/\Below w.heap.size w W0:=by
 obtain⟨t0,t1,t2⟩:=Bh w A B;exact⟨_,rfl,t0,t1,by rw[t2];exact AG _,by rw[t2];exact AG _,((Below.refl _ _).alloc (AG _) _).alloc (by simp) _⟩
end
end Go.Proofs.Ytbceafpodamnfaa
