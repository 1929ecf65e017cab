import Derived.Test.YtbceafpodamnfaaH33
set_option linter.all false
set_option maxHeartbeats 16000000
set_option maxRecDepth 100000
namespace Go.Proofs.Ytbceafpodamnfaa
attribute [local simp] svV cpV zbV czV aaV ctZ ad bkV ctV acV evV
attribute [local go_sem] svV cpV zbV czV aaV ctZ ad bkV ctV acV evV
section
open Go.RowKit Go.Sort
abbrev Fa:=Ac × Option Addr × Nat
def Eu(r:Fa):List Value:=((acV r.1 r.2.1 r.2.2):Array Value).toList
def FG(R:List Fa):List Value:=R.flatMap Eu
theorem Oy(R:List Fa)(r:Fa):FG (R++[r])=FG R++Eu r:=by simp[FG]
def AcAt(w:World)(b o:Nat)(r:Fa):Prop:=w.cell? ⟨b,o,none⟩=some (.string r.1.service)/\w.cell? ⟨b,o+1,none⟩=some (.int .i64 r.1.seen)/\w.cell? ⟨b,o+2,none⟩=some (.int .i64 r.1.create)/\w.cell? ⟨b,o+3,none⟩=some (.int .i64 r.1.want)/\w.cell? ⟨b,o+4,none⟩=some (.int .i64 r.1.cool)/\w.cell? ⟨b,o+5,none⟩=some (.bool r.1.scale)/\w.cell? ⟨b,o+6,none⟩=some (.slice r.2.1 r.1.ends.length r.2.2)/\w.cell? ⟨b,o+7,none⟩=some (.bool r.1.drop)
theorem AcAt.below{N:Nat}{w w':World}{b o:Nat}{r:Fa}(h:AcAt w b o r)(hb:Below N w w')(hB:b<N):AcAt w' b o r:=by
 unfold AcAt at *;simp only[λo=>hb.cell (p:=⟨b,o,none⟩) hB];exact h
def SlA(w:World)(ao:Option Addr)(R:List Fa):Prop:=R≠[]->∃b off,ao=some ⟨b,off,none⟩/\b<w.heap.size/\∀i r,R[i]?=some r->AcAt w b (off+i*8) r/\SlE w r.2.1 r.1.ends
theorem SlA.below{w w':World}{ao:Option Addr}{R:List Fa}(h:SlA w ao R)(hb:Below w.heap.size w w'):SlA w' ao R:=λhn=>
 let ⟨b,off,e,hlt,hat⟩:=h hn
 ⟨b,off,e,AF hlt hb.size,λi r hr=>⟨(hat i r hr).1.below hb hlt,(hat i r hr).2.below hb⟩⟩
def KA(kind:Int)(B:Bk)(s:Svc):Ac:=
 if kind=3 then {a0 s with ends:=Co B (B7 B s λc=>c.state==4)}
 else if s.gone=true then(if kind=5 then {a0 s with ends:=Co B (BO B s.name B.cps.length),drop:=((D6 B s.name).live+(D6 B s.name).ending==0)} else a0 s)
 else if kind=1 then EJ B s
 else if kind=2 then DE B s (B7 B s λc=>c.image !=s.image)
 else if kind=6 then(if(((B7 B s λc=>c.image !=s.image).length:Int)==0)=true then DE B s (B7 B s λc=>Bv B c) else a0 s)
 else if kind=4 then(if 0<s.per then Bd s (Ce s) else a0 s)
 else a0 s
structure PerIn(s:Svc):Prop where
 per1:s.per<=1000000
 load0:0<=s.load
 load1:s.load<=1000000
 least0:0<=s.least
 least1:s.least<=10
 most0:0<=s.most
 most1:s.most<=10
 cool0:0<=s.cool
 cool1:s.cool<=3
theorem Valid.perIn{B:Bk}(h:Valid B){s:Svc}(hs:s∈B.svcs)(hp:0<s.per):PerIn s:=by
 have:=Ni h.svcs hs;unfold KM Od at this;rw[if_neg (by omega)]at this;simp only[Bool.and_eq_true,inB_iff]at this;obtain⟨_,⟨⟨⟨h1,h2⟩,h3⟩,h4⟩,h5⟩:=this;exact⟨h1.2,h2.1,h2.2,h3.1,h3.2,by omega,h4.2,h5.1,h5.2⟩
theorem cntB_in(B:Bk)(sv:ByteArray)(hl:B.cps.length<=1048576):0<=(D6 B sv).live/\(D6 B sv).live<=1048576/\0<=(D6 B sv).ending/\(D6 B sv).ending<=1048576:=by
 unfold D6
 cases Bz B sv with
 |none=>simp[Cnt.none]
 |some s=>
  have h:=Ep s.image sv B.cps B.cps.length (AG _);unfold Cnt.upTo at h;simp only;omega
theorem Om(kind:Int)(B:Bk)(s:Svc)(a1 a2 a3:Option Addr)(c1 c2 c3:Nat)(w:World)(hS:B.small)(hV:Valid B)(hs:s∈B.svcs)(hB:BkAt w a1 a2 a3 B):
  Calls Try.prog 98 #[.int .i64 kind,.agg (bkV B a1 c1 a2 c2 a3 c3),.agg (svV s)] w λe w'=>∃v,e=.returned v/\IsAct w.heap.size w' v (KA kind B s)/\Below w.heap.size w w':=by
 have hsi:=hV.svcIn hs;unfold KA
 by_cases h3:kind=3
 ·subst h3;rw[if_pos rfl];exact l5Act_3 B s a1 a2 a3 c1 c2 c3 w hS hV hsi hB
 rw[if_neg h3];cases hg:s.gone
 ·rw[if_neg (by simp)]
  by_cases h1:kind=1
  ·subst h1;rw[if_pos rfl];have:=l5Act_1 B s hg a1 a2 a3 c1 c2 c3 w hS hV hsi hB;first|exact this|(rw[svV,hg]at this;exact this)
  rw[if_neg h1]
  by_cases h2:kind=2
  ·subst h2;rw[if_pos rfl];have:=l5Act_2 B s hg a1 a2 a3 c1 c2 c3 w hS hV hsi hB;first|exact this|(rw[svV,hg]at this;exact this)
  rw[if_neg h2]
  by_cases h6:kind=6
  ·subst h6
   rw[if_pos rfl];have hn:(B7 B s λc=>c.image !=s.image).length<=1048576:=AH (List.length_filter_le _ _) (AH (Bu _ _ _) hS.2.1);cases hc:(((B7 B s λc=>c.image !=s.image).length:Int)==0)
   ·rw[if_neg (by simp)];have:=l5Act_6x B s hg _ rfl hn hc a1 a2 a3 c1 c2 c3 w hS hV hsi hB;first|exact this|(rw[svV,hg]at this;exact this)
   ·rw[if_pos rfl];have:=l5Act_6 B s hg _ rfl hn hc a1 a2 a3 c1 c2 c3 w hS hV hsi hB;first|exact this|(rw[svV,hg]at this;exact this)
  rw[if_neg h6]
  by_cases h4:kind=4
  ·subst h4
   rw[if_pos rfl]
   by_cases hp:0<s.per
   ·have hq:=hV.perIn hs hp
    rw[if_pos hp];have:=l5Act_4 B s hg hp hq.load0 hq.load1 hq.per1 hq.least0 hq.least1 hq.most0 hq.most1 hq.cool0 hq.cool1 a1 a2 a3 c1 c2 c3 w hS hV hsi hB;first|exact this|(rw[svV,hg]at this;exact this)
   ·rw[if_neg hp];have:=l5Act_4x B s hp hg a1 a2 a3 c1 c2 c3 w hS hV hsi hB;first|exact this|(rw[svV,hg]at this;exact this)
  rw[if_neg h4];have:=l5Act_x B s kind h3 h1 h2 h6 h4 hg a1 a2 a3 c1 c2 c3 w hS hV hsi hB
  first|exact this|(rw[svV,hg]at this;exact this)
 ·rw[if_pos rfl]
  by_cases h5:kind=5
  ·subst h5
   rw[if_pos rfl];have hc:=cntB_in B s.name hS.2.1;have:=MU B s hg _ rfl hc.1 hc.2.1 hc.2.2.1 hc.2.2.2 a1 a2 a3 c1 c2 c3 w hS hV hsi hB
   first|exact this|(rw[svV,hg]at this;exact this)
  rw[if_neg h5];have:=MT B s kind h3 h5 hg a1 a2 a3 c1 c2 c3 w hS hV hsi hB
  first|exact this|(rw[svV,hg]at this;exact this)
def Gj(A:Ac):Bool:=decide (0<A.create)||A.scale||decide (0<A.ends.length)||A.drop
def Gp(kind:Int)(B:Bk):List Ac:=if Au B then(B.svcs.map (KA kind B)).filter Gj else []
theorem Mk:(Try.prog.info? 152).map (λi=>(i.zero,i.size,i.bytes))=some (some (.agg #[.string ⟨#[]⟩,.int .i64 0,.int .i64 0,.int .i64 0,.int .i64 0,.bool false,.slice none 0 0,.bool false]),8,88):=by kernel_rfl
theorem Lu(kind:Int)(B:Bk)(a1 a2 a3:Option Addr)(c1 c2 c3:Nat)(w:World)(hS:B.small)(hZ:B.sized)(hB:BkAt w a1 a2 a3 B):
  Calls Try.prog 91 #[.int .i64 kind,.agg (bkV B a1 c1 a2 c2 a3 c3)] w λe w'=>∃(g cap:Nat) (R:List Fa),e=.returned (.slice (ad g) R.length cap)/\R.map (·.1)=Gp kind B/\w.heap.size<=g/\RowIs w' 152 8 g R.length cap (FG R)/\(∀r∈R,SlEn w.heap.size w' r.2.1 r.1.ends)/\Below w.heap.size w w':=by
 obtain⟨t0,t1,t2⟩:=Bh w (.cells (bkV B a1 c1 a2 c2 a3 c3) 27) (.cells #[] 152);have T0:Hid _:=t0;have T1:Hid _:=t1;have HS2:Hid _:=t2;clear t0 t1 t2;have hb0:Below w.heap.size w ((w.alloc (.cells (bkV B a1 c1 a2 c2 a3 c3) 27)).alloc (.cells #[] 152)):=((Below.refl _ _).alloc (AG _) _).alloc (by simp) _;have hl:=hS;obtain⟨hl1,hl2,hl3⟩:=hl;go_enter Try.func91,Try.ntmps91
 go_wp2_with fail
 refine(Az B a1 a2 a3 c1 c2 c3 _ hS hZ (hB.below hb0)).mono ?_;rintro e w1 ⟨rfl,hb1⟩;have hbw1:=hb0.trans (hb1.mono hb0.size);rw[HS2.out]at hb1;have U0:Hid (Bl w1 (w.heap.size) (bkV B a1 c1 a2 c2 a3 c3) 27):=AL hb1 T0.out (by omega);have U1:Hid (Bl w1 (w.heap.size+1) #[] 152):=AL hb1 T1.out (by omega);clear hb1 hb0 T0 T1 HS2;cases hv:Au B
 ·have HO:Hid (Gp kind B=[]):=by unfold Hid Gp;rw[hv];rfl
  go_wp2;go_ret;exact⟨w.heap.size+1,0,[],rfl,HO.out.symm,by omega,⟨rfl,AG _,#[],U1.out,rfl,rfl⟩,λr hr=>absurd hr (by simp),hbw1⟩
 ·have hval:=validB_iff.1 hv
  obtain⟨L,HLL⟩:∃L,Hid (B.svcs.map (KA kind B)=L):=⟨_,rfl⟩;have HO:Hid (Gp kind B=L.filter Gj):=by unfold Hid Gp;rw[hv,HLL.out];rfl
  have hLn:L.length=B.svcs.length:=by rw[<-HLL.out];simp
  have HLN:Hid _:=hLn;clear hv hLn;go_wp2
  go_loopw [5,6] (λov iv wr=>∃(k g cap n:Nat) (R:List Fa),k<=B.svcs.length/\iv=.int .i64 k/\ov=.slice (ad g) n cap/\Hid (n=R.length)/\n<=k/\Hid (R.map (·.1)=(L.take k).filter Gj)/\w.heap.size<g/\Below w.heap.size w wr/\Hid (Bl wr (w.heap.size) (bkV B a1 c1 a2 c2 a3 c3) 27)/\Hid (RowIs wr 152 8 g n cap (FG R))/\Hid (∀r∈R,r.1.ends≠[]->∃b,r.2.1=some ⟨b,0,none⟩/\w.heap.size<b/\b≠g/\b<wr.heap.size/\LM wr b 0 r.1.ends)) (λ_ i _=>B.svcs.length - (intOf i).toNat)
  case atStart=>exact⟨0,w.heap.size+1,0,0,[],by omega,rfl,rfl,rfl,AG _,rfl,by omega,hbw1,U0,⟨rfl,AG _,#[],U1.out,rfl,rfl⟩,λr hr=>absurd hr (by simp)⟩
  case round=>
   clear hbw1 U0 U1;obtain⟨k,g,cap,n,R,hk,rfl,rfl,HNR,hnk,HR,hg,hb,hbox,hrow,hends⟩:=hrel;have hbl:w.heap.size<wr.heap.size:=(AB hbox.out).1;have hgl:g<wr.heap.size:=hrow.out.lt
   by_cases hlt:k<B.svcs.length
   ·obtain⟨s,hsk⟩:∃s,B.svcs[k]?=some s:=⟨B.svcs[k],by simp[hlt]⟩
    have hmem:=AE hsk;have hne:B.svcs≠[]:=by intro h;rw[h]at hlt;simp at hlt
    obtain⟨b,off,ea,hbs,hat⟩:=hB.1 hne;subst ea;have hsx:=hat k s hsk;obtain⟨AA,HAA⟩:∃A,Hid (KA kind B s=A):=⟨_,rfl⟩;have HLK:Hid (L[k]?=some AA):=by unfold Hid;rw[<-HLL.out,List.getElem?_map,hsk,<-HAA.out];rfl
    have HCA:Hid (∀W:World,BkAt W (some ⟨b,off,none⟩) a2 a3 B->Calls Try.prog 98 #[.int .i64 kind,.agg (bkV B (some ⟨b,off,none⟩) c1 a2 c2 a3 c3),.agg (svV s)] W λe w'=>∃v,e=.returned v/\IsAct W.heap.size w' v AA/\Below W.heap.size W w'):=λW h=>by rw[<-HAA.out];exact Om kind B s _ a2 a3 c1 c2 c3 W hS hval hmem h
    have hz:=hb.size;clear hsk hne hat hmem HAA;have e1:=AK hbox.out 1 rfl;go_wp2;clear e1;refine AX 9 (by kernel_rfl) (by kernel_rfl) ?_;apply AN
    ·intro V W K A hW hd hA hK
     simp only[pA]at hA;clear hd;obtain rfl:=hA;go_wp2;exact hK.out _ brf
    apply AN
    ·intro V W K A hW hd hA hK
     simp only[pA]at hA;clear hd;obtain rfl:=hA;obtain⟨e0,e1,e2,e3⟩:=c4 (AL hW hbox.out hbl);go_wp2;exact hK.out _ brf
    apply AN
    ·intro V W K A hW hd hA hK
     simp only[pA]at hA;clear hd;obtain rfl:=hA;go_wp2;exact hK.out _ brf
    apply AN
    ·intro V W K A hW hd hA hK
     have d2:V 2=_:=hd 2 (by kernel_rfl);simp only[pA,d2]at hA;clear hd d2;obtain rfl:=hA;have e1:=AK (AL hW hbox.out hbl) 1 rfl;go_wp2;exact hK.out _ brf
    apply AN
    ·intro V W K A hW hd hA hK
     simp only[pA]at hA;clear hd;obtain rfl:=hA;go_wp2;exact hK.out _ brf
    apply AN
    ·intro V W K A hW hd hA hK
     have d3:V 3=_:=hd 3 (by kernel_rfl);have d4:V 4=_:=hd 4 (by kernel_rfl);simp only[pA,d3,d4]at hA;clear hd d3 d4;obtain rfl:=hA;go_wp2;exact hK.out _ brf
    apply AN
    ·intro V W K A hW hd hA hK
     have d5:V 5=_:=hd 5 (by kernel_rfl);simp only[pA,d5]at hA;clear hd d5;obtain rfl:=hA;have hq:=hsx.below (hb.trans (hW.mono hb.size)) hbs;unfold SvcAt at hq;obtain⟨q0,q1,q2,q3,q4,q5,q6,q7,q8,q9,q10,q11,q12⟩:=hq;go_wp2;exact hK.out _ brf
    refine Av (λv W=>IsAct wr.heap.size W v AA) (λv W W2 h hb=>h.below hb) ?_ ?_
    ·intro V W K A hW hd hA hK
     have d0:V 0=_:=hd 0 (by kernel_rfl);have d1:V 1=_:=hd 1 (by kernel_rfl);have d6:V 6=_:=hd 6 (by kernel_rfl);simp only[pA,d0,d1,d6]at hA;clear hd d0 d1 d6;obtain rfl:=hA;have hzW:=hW.size
     go_wp2_with fail
     refine(HCA.out _ (hB.below (hb.trans (hW.mono hb.size)))).mono ?_;rintro e w3 ⟨v,rfl,hA3,hb3⟩;have HA3:Hid (IsAct wr.heap.size w3 v AA):=hA3.low hzW;clear hA3;go_wp2;exact hK.out _ _ hb3 HA3.out
    refine Av (λv W=>∃p,v=.pointer (ad p)/\wr.heap.size<=p/\W.heap[p]?=some (.cells #[.string ⟨#[]⟩,.int .i64 0,.int .i64 0,.int .i64 0,.int .i64 0,.bool false,.slice none 0 0,.bool false] 152 (0,0))) (λv W W2 ⟨p,h1,h2,h3⟩ hb=>⟨p,h1,h2,AL hb h3 (AB h3).1⟩) ?_ ?_
    ·intro V W K A hW hd hA hK
     simp only[pA]at hA;clear hd;obtain rfl:=hA;go_wp2;exact hK.out _ _ (AO W _) ⟨_,rfl,hW.size,heap_alloc_new W _⟩
    intro V W A hW hS hA;have d0:V 0=_:=hS 0 (by omega);have d1:V 1=_:=hS 1 (by omega);have d2:V 2=_:=hS 2 (by omega);have d3:V 3=_:=hS 3 (by omega);have d4:V 4=_:=hS 4 (by omega);have d5:V 5=_:=hS 5 (by omega);have d6:V 6=_:=hS 6 (by omega);have d7:(λv W=>IsAct wr.heap.size W v AA) (V 7) W:=hS 7 (by omega);have d8:(λv W=>∃p,v=.pointer (ad p)/\wr.heap.size<=p/\W.heap[p]?=some (.cells #[.string ⟨#[]⟩,.int .i64 0,.int .i64 0,.int .i64 0,.int .i64 0,.bool false,.slice none 0 0,.bool false] 152 (0,0))) (V 8) W:=hS 8 (by omega);simp only[pA,d0,d1,d2,d3,d4,d5,d6]at hA;clear hS d0 d1 d2 d3 d4 d5 d6;generalize V 7=x7 at d7 hA;generalize V 8=x8 at d8 hA;obtain rfl:=hA;simp only[List.drop_succ_cons,List.drop_zero];obtain⟨ae,ce,rfl,hE⟩:=d7;obtain⟨p,rfl,hp,hpz⟩:=d8;have hzW:=hW.size;refine AM rfl 152 (.tmp 7) (.tmp 27) rfl p 0 (acV AA ae ce) rfl rfl 152 #[.string ⟨#[]⟩,.int .i64 0,.int .i64 0,.int .i64 0,.int .i64 0,.bool false,.slice none 0 0,.bool false] hpz Aq (AD rfl) (Hc AA ae ce) ?_;intro w2 hz2 on;simp only[Act.put];have hact:Hid (Bl w2 p (acV AA ae ce) 152):=hz2;have hbWr:Below wr.heap.size wr w2:=hW.trans (on.below.mono hp);have hb2:=hb.trans (hbWr.mono hb.size);have hbox2:Hid _:=AL hbWr hbox.out hbl;have hrow2:Hid (RowIs w2 152 8 g n cap (FG R)):=hrow.out.below hbWr hgl;have hzwa:W.heap.size<=w2.heap.size:=by rw[on.size];exact AG _
    have hzwb:w2.heap.size<=W.heap.size:=by rw[on.size];exact AG _
    have HE2:Hid (AA.ends≠[]->∃ge,ae=some ⟨ge,0,none⟩/\wr.heap.size<=ge/\ge<w2.heap.size/\LM w2 ge 0 AA.ends):=λhn=>by
     obtain⟨ge,h1,h2,h3,h4⟩:=hE hn
     have hgp:ge≠p:=by
      intro e;subst e;obtain⟨x,l,hx⟩:=List.exists_cons_of_ne_nil hn;have hc:=h4 0 x (by rw[hx];rfl);unfold EnAt at hc;have h5:=hc.1;rw[show 0+0*2=0 from rfl,AK hpz 0 rfl]at h5;cases h5
     exact⟨ge,h1,h2,by omega,λi x hx=>(h4 i x hx).blk (on.other ge hgp)⟩
    have HRE2:Hid (∀r∈R,r.1.ends≠[]->∃b,r.2.1=some ⟨b,0,none⟩/\w.heap.size<b/\b≠g/\b<wr.heap.size/\LM w2 b 0 r.1.ends):=λr hr hn=>by
     obtain⟨b,h1,h2,h3,h4,h5⟩:=hends.out r hr hn;exact⟨b,h1,h2,h3,h4,λi x hx=>(h5 i x hx).blk (hbWr.block b h4)⟩
    clear hE hpz hz2 on hends hrow hbox HCA hW hsx hb;obtain⟨kb,HKB⟩:∃kb,Hid (Gj AA=kb):=⟨_,rfl⟩;have HF:Hid ((L.take (k+1)).filter Gj=(L.take k).filter Gj++(if kb then [AA] else [])):=by unfold Hid;rw[EI _ L HLK.out,HKB.out]
    go_upto_region 8 with fail
    go_cut [44] (λv wx=>v=.bool kb/\w2=wx)
    case first=>
     have z2:=AK hact.out 2 rfl;have z5:=AK hact.out 5 rfl;have z6:=AK hact.out 6 rfl;have z7:=AK hact.out 7 rfl
     by_cases hc1:0<AA.create
     ·have HT:Hid (kb=true):=by unfold Hid;rw[<-HKB.out];unfold Gj;simp[hc1]
      go_wp2;go_meet
      case rel=>exact⟨by rw[HT.out],rfl⟩
     cases hc2:AA.scale
     ·cases hc3:decide (0<AA.ends.length)
      case true=>
       have HT:Hid (kb=true):=by unfold Hid;rw[<-HKB.out];unfold Gj;rw[hc3];simp
       go_wp2;go_meet
       case rel=>exact⟨by rw[HT.out],rfl⟩
      case false=>
       have HT:Hid (kb=AA.drop):=by unfold Hid;rw[<-HKB.out];unfold Gj;rw[decide_eq_false hc1,hc3,hc2];rfl
       go_wp2;go_meet
       case rel=>exact⟨by rw[HT.out],rfl⟩
     ·have HT:Hid (kb=true):=by unfold Hid;rw[<-HKB.out];unfold Gj;rw[hc2];simp
      go_wp2;go_meet
      case rel=>exact⟨by rw[HT.out],rfl⟩
    case rest=>
     obtain⟨rfl,rfl⟩:=hcut;cases kb
     ·go_wp2
      go_roundw
      case rel=>exact⟨k+1,g,cap,n,R,by omega,by go_num,rfl,HNR,by omega,by rw[HF.out];simpa using HR,hg,hb2,hbox2,hrow2,λr hr hn=>let ⟨b,h1,h2,h3,h4,h5⟩:=HRE2.out r hr hn;⟨b,h1,h2,h3,by omega,h5⟩⟩
      case measure=>simp[intOf];omega
     ·have q0:=AK hact.out 0 rfl
      have q1:=AK hact.out 1 rfl;have q2:=AK hact.out 2 rfl;have q3:=AK hact.out 3 rfl;have q4:=AK hact.out 4 rfl;have q5:=AK hact.out 5 rfl;have q6:=AK hact.out 6 rfl;have q7:=AK hact.out 7 rfl;have hgl2:g<w2.heap.size:=by omega
      go_wp2_with (at_builtin;refine AV rfl (.tmp 45) (.tmp 47) 146 rfl 152 _ 8 88 Try.underlying146 Mk rfl g n cap _ rfl (hrow2.out.below (AO w2 _) hgl2) ⟨w2.heap.size,0,none⟩ 1 1 ((acV AA ae ce):Array Value).toList rfl rfl (BU (heap_alloc_new w2 _)) (λu hu=>(Array.all_eq_true_iff_forall_mem.1 (Hc AA ae ce)) u (by simpa using hu)) (by unfold maxLen;omega) (by omega) ?_;intro g' cap' w4 hg' hrow' hgr)
      have hsz:(w2.alloc (.cells (acV AA ae ce) 152)).heap.size=w2.heap.size+1:=by show(w2.heap.push _).size=_;simp
      have hal:=AO w2 (.cells (acV AA ae ce) 152);have hb4:Below w.heap.size w w4:=(hb2.alloc hb2.size _).trans (Ab hgr (by omega) (by rw[hsz];omega));have hbox4:Hid _:=(hgr.block w.heap.size (by rw[hsz];omega) (λe=>by have:=Option.some.inj e;omega)).trans (AL hal hbox2.out (by omega));rw[hsz]at hg';have hz4:=hgr.size;rw[hsz]at hz4;have hkeep:∀q,q<w2.heap.size->q≠g->w4.heap[q]?=w2.heap[q]?:=λq hq hqg=>(hgr.block q (by rw[hsz];omega) (λe=>hqg (Option.some.inj e))).trans (hal.block q hq)
      have HKP:Hid _:=hkeep;clear hkeep hgr hal
      go_roundw
      case rel=>
       refine⟨k+1,g',cap',n+1,R++[(AA,ae,ce)],by omega,by go_num,rfl,by unfold Hid;rw[HNR.out];simp,by omega,by unfold Hid;rw[HF.out,List.map_append,HR.out];rfl,by omega,hb4,hbox4,by rw[Oy];exact hrow',λr hr hn=>?_⟩;rcases List.mem_append.1 hr with hr|hr
       ·obtain⟨b,h1,h2,h3,h4,h5⟩:=HRE2.out r hr hn
        exact⟨b,h1,h2,by omega,by omega,λi x hx=>(h5 i x hx).blk (HKP.out b (by omega) h3)⟩
       ·have e:r=(AA,ae,ce):=by simpa using hr
        subst e;obtain⟨ge,h1,h2,h3,h4⟩:=HE2.out hn;exact⟨ge,h1,by omega,by omega,by omega,λi x hx=>(h4 i x hx).blk (HKP.out ge h3 (by omega))⟩
      case measure=>simp[intOf];omega
   ·have e1:=AK hbox.out 1 rfl
    go_wp2;go_ret;have hkl:k=L.length:=by rw[HLN.out];omega
    have hR:=HR.out;rw[hkl,List.take_length]at hR;have hn:=HNR.out;subst hn;refine⟨g,cap,R,rfl,by rw[HO.out,hR],by omega,hrow.out,λr hr hn=>?_,hb⟩;obtain⟨b,h1,h2,h3,h4,h5⟩:=hends.out r hr hn;exact⟨b,h1,by omega,h4,h5⟩
theorem Mi:∀(R:List Fa) (i:Nat) (r:Fa) (j:Nat),R[i]?=some r->j<8->(FG R)[i*8+j]?=(Eu r)[j]?
 |[],_,_,_,h,_=>by simp at h
 |x::R,0,r,j,h,hj=>by
  simp at h;subst h;have e:FG (x::R)=Eu x++FG R:=by simp[FG]
  rw[e,List.getElem?_append_left (by show _<8;omega),Nat.zero_mul,Nat.zero_add]
 |x::R,i+1,r,j,h,hj=>by
  have e:FG (x::R)=Eu x++FG R:=by simp[FG]
  have hl:(Eu x).length=8:=rfl;rw[e,List.getElem?_append_right (by omega),hl,show(i+1)*8+j - 8=i*8+j by omega];exact Mi R i r j (by simpa using h) hj
theorem rowA_sl{w:World}{g cap lo:Nat}{R:List Fa}(h:RowIs w 152 8 g R.length cap (FG R))(he:∀r∈R,SlEn lo w r.2.1 r.1.ends):SlA w (ad g) R:=λ_=>
 ⟨g,0,rfl,h.lt,λi r hr=>by
  have hc:∀j,j<8->∀u,(Eu r)[j]?=some u->w.cell? ⟨g,0+i*8+j,none⟩=some u:=λj hj u hu=>by
   rw[Nat.zero_add];exact h.cell ((Mi R i r j hr hj).trans hu)
  refine⟨?_,λhn=>?_⟩
  ·unfold AcAt
   exact⟨hc 0 (by omega) _ rfl,hc 1 (by omega) _ rfl,hc 2 (by omega) _ rfl,hc 3 (by omega) _ rfl,hc 4 (by omega) _ rfl,hc 5 (by omega) _ rfl,hc 6 (by omega) _ rfl,hc 7 (by omega) _ rfl⟩
  ·obtain⟨ge,e1,_,e3,e4⟩:=he r (AE hr) hn
   exact⟨ge,0,e1,e3,e4⟩⟩
theorem Mx(kind:Int)(B:Bk)(a1 a2 a3:Option Addr)(c1 c2 c3:Nat)(w:World)(hS:B.small)(hZ:B.sized)(hB:BkAt w a1 a2 a3 B):
  Calls Try.prog 91 #[.int .i64 kind,.agg (bkV B a1 c1 a2 c2 a3 c3)] w λe w'=>∃(ao:Option Addr) (cap:Nat) (R:List Fa),e=.returned (.slice ao R.length cap)/\R.map (·.1)=Gp kind B/\SlA w' ao R/\Below w.heap.size w w':=
 (Lu kind B a1 a2 a3 c1 c2 c3 w hS hZ hB).mono λ_ _ ⟨g,cap,R,he,hR,_,hrow,hends,hb⟩=>⟨some ⟨g,0,none⟩,cap,R,he,hR,rowA_sl hrow hends,hb⟩
theorem Ox(kind:Int)(B:Bk):(Gp kind B).length<=1000:=by
 unfold Gp;cases hv:Au B
 ·simp
 ·have hV:=validB_iff.1 hv
  have h1:=hV.ls;simp only[if_true];refine AH (List.length_filter_le _ _) ?_;rw[List.length_map];omega
theorem Jp(B:Bk)(img:Int)(L:List Nat):(De B img L).length<=1:=by cases L<;>simp[De]
theorem Nb(kind:Int)(B:Bk)(s:Svc):(KA kind B s).ends.length<=B.cps.length+1:=by
 have hlive:=Bu B s.name B.cps.length;have hsome:∀p,(B7 B s p).length<=B.cps.length:=λp=>AH (List.length_filter_le _ _) hlive
 have hc:(EJ B s).ends.length<=1:=by
  unfold EJ;split
  ·simp[a0]
  ·split
   ·exact Jp _ _ _
   ·simp[a0]
 have hr:∀L2,(DE B s L2).ends.length<=1:=λL2=>by
  unfold DE;split
  ·simp[a0]
  ·split
   ·simp[a0]
   ·exact Jp _ _ _
 have h0:(a0 s).ends.length=0:=rfl;unfold KA
 by_cases h3:kind=3
 ·rw[if_pos h3]
  show(Co B _).length<=_;rw[GZ];have:=hsome λc=>c.state==4
  omega
 rw[if_neg h3]
 by_cases hg:s.gone=true
 ·rw[if_pos hg]
  by_cases h5:kind=5
  ·rw[if_pos h5]
   show(Co B _).length<=_;rw[GZ];omega
  ·rw[if_neg h5];omega
 rw[if_neg hg]
 by_cases h1:kind=1
 ·rw[if_pos h1];omega
 rw[if_neg h1]
 by_cases h2:kind=2
 ·rw[if_pos h2];have:=hr (B7 B s λc=>c.image !=s.image);omega
 rw[if_neg h2]
 by_cases h6:kind=6
 ·rw[if_pos h6]
  split
  ·have:=hr (B7 B s λc=>Bv B c);omega
  ·omega
 rw[if_neg h6]
 by_cases h4:kind=4
 ·rw[if_pos h4]
  split
  ·rw[HU];simp
  ·omega
 rw[if_neg h4];omega
theorem NZ(kind:Int)(B:Bk):∀A∈Gp kind B,A.ends.length<=20000:=by
 intro A hA;unfold Gp at hA;cases hv:Au B
 ·rw[hv]at hA;simp at hA
 ·rw[hv]at hA
  have hV:=validB_iff.1 hv;simp only[if_true]at hA;obtain⟨s,_,e⟩:=List.mem_map.1 (List.mem_filter.1 hA).1;have:=Nb kind B s;have:=hV.lc;rw[<-e];omega
end
section
open Go Go.RowKit
section
variable {P:Program} {ops:Array Oper} {Q:Exit->Act->World->Prop}
def RelP(p g:Nat)(i:Nat)(W W':World):Prop:=match Nat.beq i p with
 |true=>Bj g W W'
 |false=>Below W.heap.size W W'
def H6(P:Program)(ops:Array Oper)(a0:Act)(n:Nat)(Inv:World->Prop)(p:Nat)(Inv0:World->Prop)(R:Nat->World->World->Prop)(S:Nat->Value->World->Prop)(i:Nat)(o:Oper)(T:Value->World->Prop):Prop:=
 ∀(V:Nat->Value) (W:World) (K:Act->World->Prop),Inv W->(Nat.beq i p=true->Inv0 W)->(∀j,Region.waitsFor .any ops i j=true->S j (V j) W)->
  Hid (∀v W',R i W W'->T v W'->K ((Ad ops V n a0).put o.dst v) W')->wpList P ops (Cv K) [o] (Ad ops V n a0) W
def DR(R:Nat->World->World->Prop)(j:Nat)(T:Value->World->Prop):Prop:=∀i,i≠j->∀v W W',T v W->R i W W'->T v W'
theorem F8{n g p:Nat}{S:Nat->Value->World->Prop}{Inv Inv0:World->Prop}{R:Nat->World->World->Prop}{a0:Act}
  (hw:∀listed,HeadInv .any ops n listed->∀i,i<n->listed.getD i true=false->∀t,n<=t->t∉Region.ready .any ops listed)
  (hn:n<=ops.size) (hdB:FX .any ops n=true) (hd:CI ops n=true)
  (hI:∀i W W',Inv W->R i W W'->Inv W') (hI0:∀i W W',i≠p->Inv0 W->R i W W'->Inv0 W') (hst:∀j,DR R j (S j))
  (hop:∀i o,i<n->ops[i]?=some o->H6 P ops a0 n Inv p Inv0 R S i o (S i))
  (hlast:∀V W,Inv W->(∀j,j<n->S j (V j) W)->wpAny P .any ops Q g (C9 ops n) (Ad ops V n a0) W):
  ∀(m:Nat) (listed:Array Bool) (V:Nat->Value) (W:World),HeadInv .any ops n listed->Bn n listed=m->Inv W->(listed.getD p true=false->Inv0 W)->(∀j,j<n->listed.getD j false=true->S j (V j) W)->
   wpAny P .any ops Q (m+g) listed (Ad ops V n a0) W
 |0,listed,V,W,inv,hm,hb,_,hS=>by
  have hall:∀i,i<n->listed.getD i true=true:=by
   intro i hi;have:=List.countP_eq_zero.1 hm i (List.mem_range.2 hi)
   simpa using this
  rw[C3 inv hall,Nat.zero_add];refine hlast V W hb λj hj=>hS j hj ?_
  have:=hall j hj;have hjs:j<listed.size:=by rw[inv.size];omega
  simp[hjs]at this ⊢;exact this
 |m+1,listed,V,W,inv,hm,hb,hb0,hS=>by
  obtain⟨u,hu,hul⟩:∃u,u<n/\listed.getD u true=false:=by
   have:0<Bn n listed:=by omega
   obtain⟨u,hu,hul⟩:=List.countP_pos_iff.1 this;exact⟨u,List.mem_range.1 hu,by simpa using hul⟩
  rw[show m+1+g=(m+g)+1 by omega];refine⟨λh0=>absurd h0 (Dj hdB inv u hu hul),λi hi=>?_⟩
  have hin:i<n:=by
   rcases Nat.lt_or_ge i n with h|h
   ·exact h
   ·exact absurd hi (hw listed inv u hu hul i h)
  obtain⟨hun,o,ho,hall⟩:=mem_ready.1 hi;refine DJ ho (hop i o hin ho V W _ hb (λhip=>hb0 (by rw[<-Nat.eq_of_beq_eq_true hip];exact hun)) (λj hj=>?_) λv W' hb' hs'=>?_)
  ·obtain⟨oj,hoj,e,he,hbd,hon⟩:=Region.waitsFor_spec hj
   have:oj=o:=Option.some.inj (hoj.symm.trans ho);subst this;have hl:=hall e he hbd;rw[hon]at hl
   have hlt:j<n:=by
    have h1:=List.all_eq_true.1 hdB i (List.mem_range.2 hin);rw[ho]at h1;have h2:=Array.all_eq_true'.1 h1 e he;rw[hbd]at h2;have h3:e.on<i:=by simpa using h2
    omega
   exact hS j hlt hl
  ·have hdst:o.dst=(ops[i]?).bind (·.dst):=by rw[ho];rfl
   rw[hdst,Dc hd hin];have his:i<listed.size:=by rw[inv.size];exact(AB ho).1
   refine F8 hw hn hdB hd hI hI0 hst hop hlast m _ _ W' (inv.set hi hin) (by have:=Dx hin his hun;omega) (hI i W W' hb hb') (λhp=>?_) λj hj hl=>?_
   ·by_cases hip:i=p
    ·subst hip
     rw[show(listed.setIfInBounds i true).getD i true=true by simp]at hp;cases hp
    ·rw[getD_set_ne true hip]at hp
     exact hI0 i W W' hip (hb0 hp) hb'
   by_cases hji:j=i
   ·subst hji
    simpa [upd] using hs'
   ·rw[getD_set_ne false (Ne.symm hji)]at hl
    have:=hst j i (Ne.symm hji) (V j) W W' (hS j hj hl) hb'
    simpa [upd,hji] using this
theorem Fu{id:Nat}{a:Act}{w:World}{l:List Oper}(n p:Nat)(Inv Inv0:World->Prop)(R:Nat->World->World->Prop)(S:Nat->Value->World->Prop)(hm:P.follows .mixedOrders=true)(hB:Ap l.toArray n=true)
  (hS0:Inv {w with drawn:=w.drawn+1}) (hS1:Inv0 {w with drawn:=w.drawn+1}) (hI:∀i W W',Inv W->R i W W'->Inv W') (hI0:∀i W W',i≠p->Inv0 W->R i W W'->Inv0 W')
  (hst:∀j,DR R j (S j)) (hop:∀i o,i<n->l.toArray[i]?=some o->H6 P l.toArray a n Inv p Inv0 R S i o (S i))
  (hlast:∀V W,Inv W->(∀j,j<n->S j (V j) W)->wpList P l.toArray Q (l.drop n) (Ad l.toArray V n a) W):(Code.region id l.toArray true).wp P Q a w:=by
 simp only[Ap,Bool.and_eq_true,decide_eq_true_eq]at hB;obtain⟨⟨⟨⟨⟨hn,hs⟩,hc⟩,hdB⟩,hd⟩,hseq⟩:=hB;refine wp_region_any hm ?_
 have inv0:HeadInv .any l.toArray n (Array.replicate l.toArray.size false):=
  ⟨by simp,λj oj _ hl=>(by rw[getD_replicate_false]at hl;cases hl),λt _ ht=>getD_in (by simpa using ht) (getD_replicate_false _ _)⟩
 have hleft:Bn n (Array.replicate l.toArray.size false)=n:=by
  unfold Bn;rw[List.countP_eq_length.2]
  ·simp
  ·intro i hi
   have:i<l.toArray.size:=by have:=List.mem_range.1 hi;omega
   rw[getD_in (by simpa using this) (getD_replicate_false _ _)];rfl
 have H:=F8 (P:=P) (Q:=Q) (g:=l.toArray.size - n) (S:=S) (Inv:=Inv) (Inv0:=Inv0) (p:=p) (R:=R) (a0:=a) (λlisted inv i hi hu t ht=>tail_waits hs hc hn inv _ i rfl hi hu t ht) (by omega) hdB hd hI hI0 hst hop
  (λV W hb hS=>by
   have hdl:(l.drop n).length=l.toArray.size - n:=by simp
   have:=wpAny_of_seq (md:=.any) (Q':=Q) (l.drop n) n (C9 l.toArray n) _ W (λj=>by simp[List.getElem?_drop]) (by rw[hdl];exact hseq) (hlast V W hb hS)
   rwa [hdl]at this)
  n _ (λj=>match (l.toArray[j]?).bind (·.dst) with|some d=>a.tmps.getD d undef|none=>undef) {w with drawn:=w.drawn+1} inv0 hleft hS0 (λ_=>hS1) (λj _ hl=>by rw[getD_replicate_false]at hl;cases hl)
 have e:Ad l.toArray (λj=>match (l.toArray[j]?).bind (·.dst) with|some d=>a.tmps.getD d undef|none=>undef) n a=a:=DF a n;rw[e,show n+(l.toArray.size - n)=l.toArray.size by omega]at H;exact H
def DP(P:Program)(ops:Array Oper)(a0:Act)(n:Nat)(Inv:World->Prop)(p:Nat)(Inv0:World->Prop)(R:Nat->World->World->Prop)(L:(Nat->Value->World->Prop)->Prop):List Oper->Nat->(Nat->Value->World->Prop)->Prop
 |[],_,S=>L S
 |o::rest,i,S=>∃T,DR R i T/\H6 P ops a0 n Inv p Inv0 R S i o T/\DP P ops a0 n Inv p Inv0 R L rest (i+1) (Fb S i T)
theorem BL{a0:Act}{n p:Nat}{Inv Inv0:World->Prop}{R:Nat->World->World->Prop}{L:(Nat->Value->World->Prop)->Prop}{o:Oper}{rest:List Oper}{i:Nat}{S:Nat->Value->World->Prop}(T:Value->World->Prop)(hT:DR R i T)
  (h:∀(V:Nat->Value) (W:World) (K:Act->World->Prop) (A:Act),Inv W->(Nat.beq i p=true->Inv0 W)->(∀j,Region.waitsFor .any ops i j=true->S j (V j) W)->Hid (A=Ad ops V n a0)->
   Hid (∀v W',R i W W'->T v W'->K (A.put o.dst v) W')->wpList P ops (Cv K) [o] A W)
  (hr:DP P ops a0 n Inv p Inv0 R L rest (i+1) (Fb S i T)):DP P ops a0 n Inv p Inv0 R L (o::rest) i S:=⟨T,hT,λV W K hb hz hd hK=>h V W K _ hb hz hd rfl hK,hr⟩
theorem CV{a0:Act}{n p:Nat}{Inv Inv0:World->Prop}{R:Nat->World->World->Prop}{L:(Nat->Value->World->Prop)->Prop}{o:Oper}{rest:List Oper}{i:Nat}{S:Nat->Value->World->Prop}{u:Value}
  (h:∀(V:Nat->Value) (W:World) (K:Act->World->Prop) (A:Act),Inv W->(Nat.beq i p=true->Inv0 W)->(∀j,Region.waitsFor .any ops i j=true->S j (V j) W)->Hid (A=Ad ops V n a0)->
   Hid (∀W',R i W W'->K (A.put o.dst u) W')->wpList P ops (Cv K) [o] A W)
  (hr:DP P ops a0 n Inv p Inv0 R L rest (i+1) (Fb S i λv _=>v=u)):DP P ops a0 n Inv p Inv0 R L (o::rest) i S:=
 ⟨λv _=>v=u,λ_ _ _ _ _ h _=>h,λV W K hb hz hd hK=>h V W K _ hb hz hd rfl λW' hb'=>hK.out u W' hb' rfl,hr⟩
theorem EA{a0:Act}{n p:Nat}{Inv Inv0:World->Prop}{R:Nat->World->World->Prop}{L:(Nat->Value->World->Prop)->Prop}(hdB:FX .any ops n=true):∀(l:List Oper) (k:Nat) (S:Nat->Value->World->Prop),k+l.length=n->(∀j,j<l.length->l[j]?=ops[k+j]?)->
  (∀j,DR R j (S j))->(∀i o,i<k->ops[i]?=some o->H6 P ops a0 n Inv p Inv0 R S i o (S i))->DP P ops a0 n Inv p Inv0 R L l k S->
  ∃S',(∀j,DR R j (S' j))/\(∀i o,i<n->ops[i]?=some o->H6 P ops a0 n Inv p Inv0 R S' i o (S' i))/\L S'
 |[],k,S,hk,_,hl,hop,h=>⟨S,hl,by rw[show n=k by simpa using hk.symm];rw[show n=k by simpa using hk.symm]at hop;exact hop,h⟩
 |o::l,k,S,hk,hs,hl,hop,⟨T,hT,ho,h⟩=>by
  have h0:ops[k]?=some o:=by simpa using (hs 0 (by simp)).symm
  have dep:∀i j,i<n->Region.waitsFor .any ops i j=true->j<i:=λi j hi hj=>by
   obtain⟨oj,hoj,e,he,hbd,hon⟩:=Region.waitsFor_spec hj;have h1:=List.all_eq_true.1 hdB i (List.mem_range.2 hi);rw[hoj]at h1;have h2:=Array.all_eq_true'.1 h1 e he;rw[hbd]at h2;have h3:e.on<i:=by simpa using h2
   omega
  have hkn:k<n:=by simp only[List.length_cons]at hk;omega
  refine EA hdB l (k+1) _ (by simp only[List.length_cons]at hk;omega) (λj hj=>by have:=hs (j+1) (by simp;omega);simpa [Nat.add_assoc,Nat.add_comm 1 j] using this) (λj=>?_) (λi o' hi hi'=>?_) h
  ·by_cases e:j=k
   ·subst e;rw[Ch];exact hT
   ·rw[B8 _ _ e];exact hl j
  ·by_cases e:i=k
   ·subst e
    have:o'=o:=Option.some.inj (hi'.symm.trans h0);subst this;rw[Ch];exact λV W K hb hz hd hK=>ho V W K hb hz (λj hj=>by have:=hd j hj;rwa [B8 _ _ (by have:=dep i j hkn hj;omega)]at this) hK
   ·rw[B8 _ _ e]
    exact λV W K hb hz hd hK=>hop i o' (by omega) hi' V W K hb hz (λj hj=>by have:=hd j hj;rwa [B8 _ _ (by have:=dep i j (by omega) hj;omega)]at this) hK
theorem OG{id:Nat}{a:Act}{w:World}{l:List Oper}(n p g:Nat)(Inv Inv0:World->Prop)(hm:P.follows .mixedOrders=true)(hB:Ap l.toArray n=true)
  (hS0:Inv w) (hS1:Inv0 w) (hIB:∀W W',Inv W->Below W.heap.size W W'->Inv W') (hIO:∀W W',Inv W->Bj g W W'->Inv W') (hI0:∀W W',Inv0 W->Below W.heap.size W W'->Inv0 W')
  (h:DP P l.toArray a n Inv p Inv0 (RelP p g) (λS=>∀V W A,Inv W->(∀j,j<n->S j (V j) W)->Hid (A=Ad l.toArray V n a)->wpList P l.toArray Q (l.drop n) A W) (l.take n) 0 λ_ _ _=>True):(Code.region id l.toArray true).wp P Q a w:=by
 have hB':=hB;simp only[Ap,Bool.and_eq_true,decide_eq_true_eq]at hB';obtain⟨⟨⟨⟨⟨hn,_⟩,_⟩,hdB⟩,_⟩,_⟩:=hB';have hn':n<l.length:=by simpa using hn
 obtain⟨S,h1,h2,h3⟩:=EA hdB (l.take n) 0 _ (by simp;omega) (λj hj=>by
  have:j<n:=by simp at hj;omega
  simp[this]) (λ_ _ _ _ _ _ _ _=>trivial) (λi o hi=>absurd hi (by omega)) h
 refine Fu n p Inv Inv0 (RelP p g) S hm hB (hIB _ _ hS0 ⟨rfl,rfl,rfl,AG _,λ_ _=>rfl⟩) (hI0 _ _ hS1 ⟨rfl,rfl,rfl,AG _,λ_ _=>rfl⟩) (λi W W' hI hR=>?_) (λi W W' hip hI hR=>?_) h1 h2 λV W hb hS=>h3 V W _ hb hS rfl
 ·unfold RelP at hR
  split at hR
  ·exact hIO _ _ hI hR
  ·exact hIB _ _ hI hR
 ·unfold RelP at hR
  split at hR
  ·rename_i hb
   exact absurd (Nat.eq_of_beq_eq_true hb) hip
  ·exact hI0 _ _ hI hR
def Mm(p:Nat)(RP:World->World->Prop)(i:Nat)(W W':World):Prop:=match Nat.beq i p with
 |true=>RP W W'
 |false=>Below W.heap.size W W'
theorem Gu{p:Nat}{RP:World->World->Prop}{i:Nat}{W W':World}(hi:i≠p)(h:Mm p RP i W W'):Below W.heap.size W W':=by
 unfold Mm at h;split at h
 ·rename_i hb
  exact absurd (Nat.eq_of_beq_eq_true hb) hi
 ·exact h
theorem Dw{p:Nat}{RP:World->World->Prop}{i:Nat}{W W':World}(h:Mm p RP i W W'):RP W W'\/Below W.heap.size W W':=by
 unfold Mm at h;split at h
 ·exact .inl h
 ·exact .inr h
theorem Ie{id:Nat}{a:Act}{w:World}{l:List Oper}(n p:Nat)(RP:World->World->Prop)(Inv Inv0:World->Prop)(hm:P.follows .mixedOrders=true)(hB:Ap l.toArray n=true)
  (hS0:Inv w) (hS1:Inv0 w) (hIB:∀W W',Inv W->Below W.heap.size W W'->Inv W') (hIO:∀W W',Inv W->RP W W'->Inv W') (hI0:∀W W',Inv0 W->Below W.heap.size W W'->Inv0 W')
  (h:DP P l.toArray a n Inv p Inv0 (Mm p RP) (λS=>∀V W A,Inv W->(∀j,j<n->S j (V j) W)->Hid (A=Ad l.toArray V n a)->wpList P l.toArray Q (l.drop n) A W) (l.take n) 0 λ_ _ _=>True):(Code.region id l.toArray true).wp P Q a w:=by
 have hB':=hB;simp only[Ap,Bool.and_eq_true,decide_eq_true_eq]at hB';obtain⟨⟨⟨⟨⟨hn,_⟩,_⟩,hdB⟩,_⟩,_⟩:=hB';have hn':n<l.length:=by simpa using hn
 obtain⟨S,h1,h2,h3⟩:=EA hdB (l.take n) 0 _ (by simp;omega) (λj hj=>by
  have:j<n:=by simp at hj;omega
  simp[this]) (λ_ _ _ _ _ _ _ _=>trivial) (λi o hi=>absurd hi (by omega)) h
 refine Fu n p Inv Inv0 (Mm p RP) S hm hB (hIB _ _ hS0 ⟨rfl,rfl,rfl,AG _,λ_ _=>rfl⟩) (hI0 _ _ hS1 ⟨rfl,rfl,rfl,AG _,λ_ _=>rfl⟩) (λi W W' hI hR=>?_) (λi W W' hip hI hR=>hI0 _ _ hI (Gu hip hR)) h1 h2 λV W hb hS=>h3 V W _ hb hS rfl
 rcases Dw hR with h|h
 ·exact hIO _ _ hI h
 ·exact hIB _ _ hI h
end
end
section
open Go.RowKit
def DN(P:List Bk)(B:Bk)(i:Nat):Bool:=match P[i]? with
 |none=>false
 |some b=>Au b&&decide (b.now<=B.now)&&(match i with|0=>true|j+1=>match P[j]? with|none=>false|some p=>decide (p.now<=b.now))
def FI(P:List Bk)(B:Bk):Bool:=Au B&&decide (P.length<=8)&&BY (DN P B) P.length
theorem IK{f:Nat->Bool}{n:Nat}:BY f n=true↔∀i,i<n->f i=true:=
 ⟨λh i hi=>by unfold BY at h;exact List.all_eq_true.1 h i (List.mem_range.2 hi),Cu⟩
end
end Go.Proofs.Ytbceafpodamnfaa
