import Derived.Test.YtbceafpodamnfaaH28
set_option linter.all false
set_option maxHeartbeats 16000000
set_option maxRecDepth 100000
namespace Go.Proofs.Ytbceafpodamnfaa
attribute [local simp] svV cpV zbV czV aaV ctZ ad bkV ctV acV evV
attribute [local go_sem] svV cpV zbV czV aaV ctZ ad bkV ctV acV evV
section
open Go.RowKit Go.Sort
def B7(B:Bk)(s:Svc)(p:Cp->Bool):List Nat:=(BO B s.name B.cps.length).filter λi=>p (cpD B i)
theorem Hi(B:Bk)(s:Svc)(a1 a2 a3:Option Addr)(c1 c2 c3:Nat)(w:World)(hS:B.small)(hB:BkAt w a1 a2 a3 B):
  Calls Try.prog 104 #[.agg (bkV B a1 c1 a2 c2 a3 c3),.agg (svV s),.int .i64 2] w λe w'=>∃g cap,e=.returned (.slice (ad g) (B7 B s (λc=>c.image !=s.image)).length cap)/\w.heap.size<=g/\RowIs w' 3 1 g (B7 B s (λc=>c.image !=s.image)).length cap (Aw (B7 B s (λc=>c.image !=s.image)))/\Below w.heap.size w w':=by
 obtain⟨t0,t1,t2,t3⟩:=CR w (.cells (bkV B a1 c1 a2 c2 a3 c3) 27) (.cells (svV s) 63) (.cells #[] 3);have T0:Hid _:=t0;have T1:Hid _:=t1;have T2:Hid _:=t2;have HS3:Hid _:=t3;clear t0 t1 t2 t3;have hbb:Below w.heap.size w (((w.alloc (.cells (bkV B a1 c1 a2 c2 a3 c3) 27)).alloc (.cells (svV s) 63)).alloc (.cells #[] 3)):=(((Below.refl _ _).alloc (AG _) _).alloc (by simp) _).alloc (by simp;omega) _;obtain⟨L,HLL⟩:∃L,Hid (BO B s.name B.cps.length=L):=⟨_,rfl⟩;have hLl:L.length<=B.cps.length:=by rw[<-HLL.out];exact Bu _ _ _
 have hL:∀i∈L,i<B.cps.length:=λi hi=>by rw[<-HLL.out]at hi;exact Di hi
 have hl:=hS;obtain⟨hl1,hl2,hl3⟩:=hl;have HP:Hid (B7 B s (λc=>c.image !=s.image)=L.filter λi=>(λc=>c.image !=s.image) (cpD B i)):=by unfold Hid B7;rw[HLL.out]
 rw[HP.out];obtain⟨P,HPP⟩:∃P:Nat->Bool,Hid (P=λi=>(λc=>c.image !=s.image) (cpD B i)):=⟨_,rfl⟩;rw[<-HPP.out];clear HP;go_enter Try.func104,Try.ntmps104
 go_wp2_with fail
 refine(Dy B s.name a1 a2 a3 c1 c2 c3 _ hS (hB.below hbb).2.1).mono ?_;rw[HLL.out];rintro e w1 ⟨gL,capL,rfl,hgL0,hLr,hb1⟩;rw[HS3.out]at hgL0 hb1;have hbw1:=hbb.trans (hb1.mono (by omega));have U0:Hid _:=AL hb1 T0.out (by omega);have U1:Hid _:=AL hb1 T1.out (by omega);have U2:Hid _:=AL hb1 T2.out (by omega);have hz1:w.heap.size+1+1+1<=w1.heap.size:=by have:=hb1.size;rw[HS3.out]at this;omega
 have ULR:Hid (RowIs w1 3 1 gL L.length capL (Aw L)):=hLr;clear T0 T1 T2 HS3 hb1 hbb hLr HLL;go_wp2
 go_loopw [7,9] (λov iv wr=>∃k n g cap:Nat,k<=L.length/\iv=.int .i64 k/\ov=.slice (ad g) n cap/\Hid (n=((L.take k).filter P).length)/\w.heap.size+1<g/\g≠gL/\Below w.heap.size w wr/\Hid (Bl wr (w.heap.size) (bkV B a1 c1 a2 c2 a3 c3) 27)/\Hid (Bl wr (w.heap.size+1) (svV s) 63)/\Hid (RowIs wr 3 1 gL L.length capL (Aw L))/\Hid (RowIs wr 3 1 g n cap (Aw ((L.take k).filter P)))) (λ_ i _=>L.length - (intOf i).toNat)
 case atStart=>exact⟨0,0,w.heap.size+1+1,0,by omega,rfl,rfl,rfl,by omega,by omega,hbw1,U0,U1,ULR,⟨rfl,AG _,#[],U2.out,rfl,rfl⟩⟩
 case round=>
  clear hbw1 U0 U1 U2 ULR hz1;obtain⟨k,n,g,cap,hk,rfl,rfl,HNN,hg,hgne,hb,hbox,hsv,hLrow,hrow⟩:=hrel
  by_cases hlt:k<L.length
  ·obtain⟨i,hik⟩:∃i,L[k]?=some i:=⟨L[k],by simp[hlt]⟩
   have hilt:=hL i (AE hik);have HLK:Hid _:=Ej hik;have hne:B.cps≠[]:=by intro h;rw[h]at hilt;simp at hilt
   have hB0:=hB;obtain⟨b,off,ea,hbs,hat⟩:=hB.2.1 hne;subst ea;obtain⟨s0,hs⟩:∃s0,cpD B i=s0:=⟨_,rfl⟩;have hcx:=hat i s0 (by rw[Eo hilt,hs]);have hnk:n<=k:=by rw[HNN.out];exact DY _ _ _
   obtain⟨m,HM⟩:∃m,Hid ((s0.image !=s.image)=m):=⟨_,rfl⟩
   have HF:Hid ((L.take (k+1)).filter P=(L.take k).filter P++(if m then [i] else [])):=by
    unfold Hid;rw[EI _ L hik,HPP.out];simp only[hs];rw[HM.out]
   have hbl:w.heap.size<wr.heap.size:=(AB hbox.out).1;have hsl:w.heap.size+1<wr.heap.size:=(AB hsv.out).1;have hgl:g<wr.heap.size:=hrow.out.lt;have hgL:gL<wr.heap.size:=hLrow.out.lt;have hz:=hb.size;clear hik hne hat hs;go_wp2;refine AX 9 (by kernel_rfl) (by kernel_rfl) ?_;apply AN
   ·intro V W K A hW hd hA hK
    simp only[pA]at hA;clear hd;obtain rfl:=hA;go_wp2;exact hK.out _ brf
   apply AN
   ·intro V W K A hW hd hA hK
    have d0:V 0=_:=hd 0 (by kernel_rfl);simp only[pA,d0]at hA;clear hd d0;obtain rfl:=hA;have e2:=AK (AL hW hbox.out hbl) 2 rfl;go_wp2;exact hK.out _ brf
   apply AN
   ·intro V W K A hW hd hA hK
    simp only[pA]at hA;clear hd;obtain rfl:=hA;go_wp2;exact hK.out _ brf
   apply AN
   ·intro V W K A hW hd hA hK
    simp only[pA]at hA;clear hd;obtain rfl:=hA;go_wp2;exact hK.out _ brf
   apply AN
   ·intro V W K A hW hd hA hK
    have d2:V 2=_:=hd 2 (by kernel_rfl);have d3:V 3=_:=hd 3 (by kernel_rfl);simp only[pA,d2,d3]at hA;clear hd d2 d3;obtain rfl:=hA;go_wp2;exact hK.out _ brf
   apply AN
   ·intro V W K A hW hd hA hK
    have d4:V 4=_:=hd 4 (by kernel_rfl);simp only[pA,d4]at hA;clear hd d4;obtain rfl:=hA;have y0:=(hLrow.out.below hW hgL).cell HLK.out;go_wp2;exact hK.out _ brf
   apply AN
   ·intro V W K A hW hd hA hK
    have d1:V 1=_:=hd 1 (by kernel_rfl);have d5:V 5=_:=hd 5 (by kernel_rfl);simp only[pA,d1,d5]at hA;clear hd d1 d5;obtain rfl:=hA;go_wp2;exact hK.out _ brf
   apply AN
   ·intro V W K A hW hd hA hK
    have d6:V 6=_:=hd 6 (by kernel_rfl);simp only[pA,d6]at hA;clear hd d6;obtain rfl:=hA;have hq:=hcx.below (hb.trans (hW.mono hb.size)) hbs;unfold CpAt at hq;obtain⟨q0,q1,q2,q3,q4,q5,q6⟩:=hq;go_wp2;exact hK.out _ brf
   refine Av (λv W=>∃p,v=.pointer (ad p)/\wr.heap.size<=p/\Bl W p czV 35) (λv W W2 ⟨p,h1,h2,h3⟩ hb=>⟨p,h1,h2,AL hb h3 (AB h3).1⟩) ?_ ?_
   ·intro V W K A hW hd hA hK
    simp only[pA]at hA;clear hd;obtain rfl:=hA;go_wp2;exact hK.out _ _ (AO W _) ⟨_,rfl,hW.size,heap_alloc_new W _⟩
   intro V W A hW hS hA;have d0:V 0=_:=hS 0 (by omega);have d1:V 1=_:=hS 1 (by omega);have d2:V 2=_:=hS 2 (by omega);have d3:V 3=_:=hS 3 (by omega);have d4:V 4=_:=hS 4 (by omega);have d5:V 5=_:=hS 5 (by omega);have d6:V 6=_:=hS 6 (by omega);have d7:V 7=_:=hS 7 (by omega);have d8:(λv W=>∃p,v=.pointer (ad p)/\wr.heap.size<=p/\Bl W p czV 35) (V 8) W:=hS 8 (by omega);simp only[pA,d0,d1,d2,d3,d4,d5,d6,d7]at hA;clear hS d0 d1 d2 d3 d4 d5 d6 d7;generalize V 8=x8 at d8 hA;obtain rfl:=hA;simp only[List.drop_succ_cons,List.drop_zero];obtain⟨p,rfl,hp,hpz⟩:=d8;refine CD rfl 35 (.tmp 10) (.tmp 29) rfl p 0 (cpV s0) rfl rfl 35 czV hpz DW (AG 7) (JZ s0) ?_;intro w2 hrow2 hsz2 hb2;have hzW:=hW.size;have hzW2:w2.heap.size=W.heap.size:=hsz2.out;have HZ2:Hid _:=hzW2;have hxs:Hid (Bl w2 p (cpV s0) 35):=hrow2;have hbWr:Below wr.heap.size wr w2:=hW.trans (hb2.mono hp);have hbw2:=hb.trans (hbWr.mono hb.size);have hbox2:Hid _:=AL hbWr hbox.out hbl;have hsv2:Hid _:=AL hbWr hsv.out hsl;have hrow3:Hid (RowIs w2 3 1 g n cap (Aw ((L.take k).filter P))):=hrow.out.below hbWr hgl;have hLr3:Hid (RowIs w2 3 1 gL L.length capL (Aw L)):=hLrow.out.below hbWr hgL;have hz2:=hbWr.size;clear hW hb2 hsz2 hrow2 hpz hrow hbox hsv hLrow hzW2 HZ2 hzW;have z3:=AK hxs.out 3 rfl;have v3:=AK hsv2.out 3 rfl;have hm:(s0.image !=s.image)=m:=HM.out;cases m
   ·go_wp2
    go_roundw
    case rel=>exact⟨k+1,n,g,cap,by omega,by go_num,rfl,by rw[HF.out];simpa using HNN,hg,hgne,hbw2,hbox2,hsv2,hLr3,by rw[HF.out];simpa using hrow3⟩
    case measure=>simp[intOf];omega
   ·have y0:=hLr3.out.cell HLK.out
    have hgl3:g<w2.heap.size:=by omega
    have hgL3:gL<w2.heap.size:=by omega
    go_wp2_with (at_builtin;refine AV rfl (.tmp 57) (.tmp 62) 122 rfl 3 _ 1 8 Try.underlying122 EL rfl g n cap _ rfl (hrow3.out.below (AO w2 _) hgl3) ⟨w2.heap.size,0,none⟩ 1 1 [.int .i64 (i:Int)] rfl rfl (BU (heap_alloc_new w2 _)) (by simp[Value.oneCell']) (by unfold maxLen;omega) (by omega) ?_;intro g' cap' w4 hg' hrow' hgr)
    have hsz:(w2.alloc (.cells #[.int .i64 (i:Int)] 3)).heap.size=w2.heap.size+1:=by show(w2.heap.push _).size=_;simp
    have hb4:Below w.heap.size w w4:=(hbw2.alloc hbw2.size _).trans (Ab hgr (by omega) (by rw[hsz];omega));have hal:=AO w2 (.cells #[.int .i64 (i:Int)] 3);have hbox4:Hid _:=(hgr.block w.heap.size (by rw[hsz];omega) (λe=>by have:=Option.some.inj e;omega)).trans (AL hal hbox2.out (by omega));have hsv4:Hid _:=(hgr.block (w.heap.size+1) (by rw[hsz];omega) (λe=>by have:=Option.some.inj e;omega)).trans (AL hal hsv2.out (by omega));have hLr4:Hid (RowIs w4 3 1 gL L.length capL (Aw L)):=(hLr3.out.below hal hgL3).grown hgr (λe=>hgne (Option.some.inj e).symm);rw[hsz]at hg'
    go_roundw
    case rel=>exact⟨k+1,n+1,g',cap',by omega,by go_num,rfl,by unfold Hid;rw[HF.out,List.length_append,<-HNN.out];rfl,by omega,by omega,hb4,hbox4,hsv4,hLr4,by rw[HF.out];simp only[if_true];rw[FV];exact hrow'⟩
    case measure=>simp[intOf];omega
  ·go_wp2
   go_ret;have hkl:k=L.length:=by omega
   subst hkl;have hn:=HNN.out;rw[List.take_length]at hrow hn;subst hn;exact⟨g,cap,rfl,by omega,hrow.out,hb⟩
theorem l5Some_3(B:Bk)(s:Svc)(a1 a2 a3:Option Addr)(c1 c2 c3:Nat)(w:World)(hS:B.small)(hB:BkAt w a1 a2 a3 B):
  Calls Try.prog 104 #[.agg (bkV B a1 c1 a2 c2 a3 c3),.agg (svV s),.int .i64 3] w λe w'=>∃g cap,e=.returned (.slice (ad g) (B7 B s (λc=>c.state==4)).length cap)/\w.heap.size<=g/\RowIs w' 3 1 g (B7 B s (λc=>c.state==4)).length cap (Aw (B7 B s (λc=>c.state==4)))/\Below w.heap.size w w':=by
 obtain⟨t0,t1,t2,t3⟩:=CR w (.cells (bkV B a1 c1 a2 c2 a3 c3) 27) (.cells (svV s) 63) (.cells #[] 3);have T0:Hid _:=t0;have T1:Hid _:=t1;have T2:Hid _:=t2;have HS3:Hid _:=t3;clear t0 t1 t2 t3;have hbb:Below w.heap.size w (((w.alloc (.cells (bkV B a1 c1 a2 c2 a3 c3) 27)).alloc (.cells (svV s) 63)).alloc (.cells #[] 3)):=(((Below.refl _ _).alloc (AG _) _).alloc (by simp) _).alloc (by simp;omega) _;obtain⟨L,HLL⟩:∃L,Hid (BO B s.name B.cps.length=L):=⟨_,rfl⟩;have hLl:L.length<=B.cps.length:=by rw[<-HLL.out];exact Bu _ _ _
 have hL:∀i∈L,i<B.cps.length:=λi hi=>by rw[<-HLL.out]at hi;exact Di hi
 have hl:=hS;obtain⟨hl1,hl2,hl3⟩:=hl;have HP:Hid (B7 B s (λc=>c.state==4)=L.filter λi=>(λc=>c.state==4) (cpD B i)):=by unfold Hid B7;rw[HLL.out]
 rw[HP.out];obtain⟨P,HPP⟩:∃P:Nat->Bool,Hid (P=λi=>(λc=>c.state==4) (cpD B i)):=⟨_,rfl⟩;rw[<-HPP.out];clear HP;go_enter Try.func104,Try.ntmps104
 go_wp2_with fail
 refine(Dy B s.name a1 a2 a3 c1 c2 c3 _ hS (hB.below hbb).2.1).mono ?_;rw[HLL.out];rintro e w1 ⟨gL,capL,rfl,hgL0,hLr,hb1⟩;rw[HS3.out]at hgL0 hb1;have hbw1:=hbb.trans (hb1.mono (by omega));have U0:Hid _:=AL hb1 T0.out (by omega);have U1:Hid _:=AL hb1 T1.out (by omega);have U2:Hid _:=AL hb1 T2.out (by omega);have hz1:w.heap.size+1+1+1<=w1.heap.size:=by have:=hb1.size;rw[HS3.out]at this;omega
 have ULR:Hid (RowIs w1 3 1 gL L.length capL (Aw L)):=hLr;clear T0 T1 T2 HS3 hb1 hbb hLr HLL;go_wp2
 go_loopw [7,9] (λov iv wr=>∃k n g cap:Nat,k<=L.length/\iv=.int .i64 k/\ov=.slice (ad g) n cap/\Hid (n=((L.take k).filter P).length)/\w.heap.size+1<g/\g≠gL/\Below w.heap.size w wr/\Hid (Bl wr (w.heap.size) (bkV B a1 c1 a2 c2 a3 c3) 27)/\Hid (Bl wr (w.heap.size+1) (svV s) 63)/\Hid (RowIs wr 3 1 gL L.length capL (Aw L))/\Hid (RowIs wr 3 1 g n cap (Aw ((L.take k).filter P)))) (λ_ i _=>L.length - (intOf i).toNat)
 case atStart=>exact⟨0,0,w.heap.size+1+1,0,by omega,rfl,rfl,rfl,by omega,by omega,hbw1,U0,U1,ULR,⟨rfl,AG _,#[],U2.out,rfl,rfl⟩⟩
 case round=>
  clear hbw1 U0 U1 U2 ULR hz1;obtain⟨k,n,g,cap,hk,rfl,rfl,HNN,hg,hgne,hb,hbox,hsv,hLrow,hrow⟩:=hrel
  by_cases hlt:k<L.length
  ·obtain⟨i,hik⟩:∃i,L[k]?=some i:=⟨L[k],by simp[hlt]⟩
   have hilt:=hL i (AE hik);have HLK:Hid _:=Ej hik;have hne:B.cps≠[]:=by intro h;rw[h]at hilt;simp at hilt
   have hB0:=hB;obtain⟨b,off,ea,hbs,hat⟩:=hB.2.1 hne;subst ea;obtain⟨s0,hs⟩:∃s0,cpD B i=s0:=⟨_,rfl⟩;have hcx:=hat i s0 (by rw[Eo hilt,hs]);have hnk:n<=k:=by rw[HNN.out];exact DY _ _ _
   obtain⟨m,HM⟩:∃m,Hid ((s0.state==4)=m):=⟨_,rfl⟩
   have HF:Hid ((L.take (k+1)).filter P=(L.take k).filter P++(if m then [i] else [])):=by
    unfold Hid;rw[EI _ L hik,HPP.out];simp only[hs];rw[HM.out]
   have hbl:w.heap.size<wr.heap.size:=(AB hbox.out).1;have hsl:w.heap.size+1<wr.heap.size:=(AB hsv.out).1;have hgl:g<wr.heap.size:=hrow.out.lt;have hgL:gL<wr.heap.size:=hLrow.out.lt;have hz:=hb.size;clear hik hne hat hs;go_wp2;refine AX 9 (by kernel_rfl) (by kernel_rfl) ?_;apply AN
   ·intro V W K A hW hd hA hK
    simp only[pA]at hA;clear hd;obtain rfl:=hA;go_wp2;exact hK.out _ brf
   apply AN
   ·intro V W K A hW hd hA hK
    have d0:V 0=_:=hd 0 (by kernel_rfl);simp only[pA,d0]at hA;clear hd d0;obtain rfl:=hA;have e2:=AK (AL hW hbox.out hbl) 2 rfl;go_wp2;exact hK.out _ brf
   apply AN
   ·intro V W K A hW hd hA hK
    simp only[pA]at hA;clear hd;obtain rfl:=hA;go_wp2;exact hK.out _ brf
   apply AN
   ·intro V W K A hW hd hA hK
    simp only[pA]at hA;clear hd;obtain rfl:=hA;go_wp2;exact hK.out _ brf
   apply AN
   ·intro V W K A hW hd hA hK
    have d2:V 2=_:=hd 2 (by kernel_rfl);have d3:V 3=_:=hd 3 (by kernel_rfl);simp only[pA,d2,d3]at hA;clear hd d2 d3;obtain rfl:=hA;go_wp2;exact hK.out _ brf
   apply AN
   ·intro V W K A hW hd hA hK
    have d4:V 4=_:=hd 4 (by kernel_rfl);simp only[pA,d4]at hA;clear hd d4;obtain rfl:=hA;have y0:=(hLrow.out.below hW hgL).cell HLK.out;go_wp2;exact hK.out _ brf
   apply AN
   ·intro V W K A hW hd hA hK
    have d1:V 1=_:=hd 1 (by kernel_rfl);have d5:V 5=_:=hd 5 (by kernel_rfl);simp only[pA,d1,d5]at hA;clear hd d1 d5;obtain rfl:=hA;go_wp2;exact hK.out _ brf
   apply AN
   ·intro V W K A hW hd hA hK
    have d6:V 6=_:=hd 6 (by kernel_rfl);simp only[pA,d6]at hA;clear hd d6;obtain rfl:=hA;have hq:=hcx.below (hb.trans (hW.mono hb.size)) hbs;unfold CpAt at hq;obtain⟨q0,q1,q2,q3,q4,q5,q6⟩:=hq;go_wp2;exact hK.out _ brf
   refine Av (λv W=>∃p,v=.pointer (ad p)/\wr.heap.size<=p/\Bl W p czV 35) (λv W W2 ⟨p,h1,h2,h3⟩ hb=>⟨p,h1,h2,AL hb h3 (AB h3).1⟩) ?_ ?_
   ·intro V W K A hW hd hA hK
    simp only[pA]at hA;clear hd;obtain rfl:=hA;go_wp2;exact hK.out _ _ (AO W _) ⟨_,rfl,hW.size,heap_alloc_new W _⟩
   intro V W A hW hS hA;have d0:V 0=_:=hS 0 (by omega);have d1:V 1=_:=hS 1 (by omega);have d2:V 2=_:=hS 2 (by omega);have d3:V 3=_:=hS 3 (by omega);have d4:V 4=_:=hS 4 (by omega);have d5:V 5=_:=hS 5 (by omega);have d6:V 6=_:=hS 6 (by omega);have d7:V 7=_:=hS 7 (by omega);have d8:(λv W=>∃p,v=.pointer (ad p)/\wr.heap.size<=p/\Bl W p czV 35) (V 8) W:=hS 8 (by omega);simp only[pA,d0,d1,d2,d3,d4,d5,d6,d7]at hA;clear hS d0 d1 d2 d3 d4 d5 d6 d7;generalize V 8=x8 at d8 hA;obtain rfl:=hA;simp only[List.drop_succ_cons,List.drop_zero];obtain⟨p,rfl,hp,hpz⟩:=d8;refine CD rfl 35 (.tmp 10) (.tmp 29) rfl p 0 (cpV s0) rfl rfl 35 czV hpz DW (AG 7) (JZ s0) ?_;intro w2 hrow2 hsz2 hb2;have hzW:=hW.size;have hzW2:w2.heap.size=W.heap.size:=hsz2.out;have HZ2:Hid _:=hzW2;have hxs:Hid (Bl w2 p (cpV s0) 35):=hrow2;have hbWr:Below wr.heap.size wr w2:=hW.trans (hb2.mono hp);have hbw2:=hb.trans (hbWr.mono hb.size);have hbox2:Hid _:=AL hbWr hbox.out hbl;have hsv2:Hid _:=AL hbWr hsv.out hsl;have hrow3:Hid (RowIs w2 3 1 g n cap (Aw ((L.take k).filter P))):=hrow.out.below hbWr hgl;have hLr3:Hid (RowIs w2 3 1 gL L.length capL (Aw L)):=hLrow.out.below hbWr hgL;have hz2:=hbWr.size;clear hW hb2 hsz2 hrow2 hpz hrow hbox hsv hLrow hzW2 HZ2 hzW;have z4:=AK hxs.out 4 rfl;have hm:(s0.state==4)=m:=HM.out;cases m
   ·go_wp2
    go_roundw
    case rel=>exact⟨k+1,n,g,cap,by omega,by go_num,rfl,by rw[HF.out];simpa using HNN,hg,hgne,hbw2,hbox2,hsv2,hLr3,by rw[HF.out];simpa using hrow3⟩
    case measure=>simp[intOf];omega
   ·have y0:=hLr3.out.cell HLK.out
    have hgl3:g<w2.heap.size:=by omega
    have hgL3:gL<w2.heap.size:=by omega
    go_wp2_with (at_builtin;refine AV rfl (.tmp 57) (.tmp 62) 122 rfl 3 _ 1 8 Try.underlying122 EL rfl g n cap _ rfl (hrow3.out.below (AO w2 _) hgl3) ⟨w2.heap.size,0,none⟩ 1 1 [.int .i64 (i:Int)] rfl rfl (BU (heap_alloc_new w2 _)) (by simp[Value.oneCell']) (by unfold maxLen;omega) (by omega) ?_;intro g' cap' w4 hg' hrow' hgr)
    have hsz:(w2.alloc (.cells #[.int .i64 (i:Int)] 3)).heap.size=w2.heap.size+1:=by show(w2.heap.push _).size=_;simp
    have hb4:Below w.heap.size w w4:=(hbw2.alloc hbw2.size _).trans (Ab hgr (by omega) (by rw[hsz];omega));have hal:=AO w2 (.cells #[.int .i64 (i:Int)] 3);have hbox4:Hid _:=(hgr.block w.heap.size (by rw[hsz];omega) (λe=>by have:=Option.some.inj e;omega)).trans (AL hal hbox2.out (by omega));have hsv4:Hid _:=(hgr.block (w.heap.size+1) (by rw[hsz];omega) (λe=>by have:=Option.some.inj e;omega)).trans (AL hal hsv2.out (by omega));have hLr4:Hid (RowIs w4 3 1 gL L.length capL (Aw L)):=(hLr3.out.below hal hgL3).grown hgr (λe=>hgne (Option.some.inj e).symm);rw[hsz]at hg'
    go_roundw
    case rel=>exact⟨k+1,n+1,g',cap',by omega,by go_num,rfl,by unfold Hid;rw[HF.out,List.length_append,<-HNN.out];rfl,by omega,by omega,hb4,hbox4,hsv4,hLr4,by rw[HF.out];simp only[if_true];rw[FV];exact hrow'⟩
    case measure=>simp[intOf];omega
  ·go_wp2
   go_ret;have hkl:k=L.length:=by omega
   subst hkl;have hn:=HNN.out;rw[List.take_length]at hrow hn;subst hn;exact⟨g,cap,rfl,by omega,hrow.out,hb⟩
theorem MQ(B:Bk)(s:Svc)(a1 a2 a3:Option Addr)(c1 c2 c3:Nat)(w:World)(hS:B.small)(hB:BkAt w a1 a2 a3 B):
  Calls Try.prog 104 #[.agg (bkV B a1 c1 a2 c2 a3 c3),.agg (svV s),.int .i64 6] w λe w'=>∃g cap,e=.returned (.slice (ad g) (B7 B s (λc=>Bv B c)).length cap)/\w.heap.size<=g/\RowIs w' 3 1 g (B7 B s (λc=>Bv B c)).length cap (Aw (B7 B s (λc=>Bv B c)))/\Below w.heap.size w w':=by
 obtain⟨t0,t1,t2,t3⟩:=CR w (.cells (bkV B a1 c1 a2 c2 a3 c3) 27) (.cells (svV s) 63) (.cells #[] 3);have T0:Hid _:=t0;have T1:Hid _:=t1;have T2:Hid _:=t2;have HS3:Hid _:=t3;clear t0 t1 t2 t3;have hbb:Below w.heap.size w (((w.alloc (.cells (bkV B a1 c1 a2 c2 a3 c3) 27)).alloc (.cells (svV s) 63)).alloc (.cells #[] 3)):=(((Below.refl _ _).alloc (AG _) _).alloc (by simp) _).alloc (by simp;omega) _;obtain⟨L,HLL⟩:∃L,Hid (BO B s.name B.cps.length=L):=⟨_,rfl⟩;have hLl:L.length<=B.cps.length:=by rw[<-HLL.out];exact Bu _ _ _
 have hL:∀i∈L,i<B.cps.length:=λi hi=>by rw[<-HLL.out]at hi;exact Di hi
 have hl:=hS;obtain⟨hl1,hl2,hl3⟩:=hl;have HP:Hid (B7 B s (λc=>Bv B c)=L.filter λi=>(λc=>Bv B c) (cpD B i)):=by unfold Hid B7;rw[HLL.out]
 rw[HP.out];obtain⟨P,HPP⟩:∃P:Nat->Bool,Hid (P=λi=>(λc=>Bv B c) (cpD B i)):=⟨_,rfl⟩;rw[<-HPP.out];clear HP;go_enter Try.func104,Try.ntmps104
 go_wp2_with fail
 refine(Dy B s.name a1 a2 a3 c1 c2 c3 _ hS (hB.below hbb).2.1).mono ?_;rw[HLL.out];rintro e w1 ⟨gL,capL,rfl,hgL0,hLr,hb1⟩;rw[HS3.out]at hgL0 hb1;have hbw1:=hbb.trans (hb1.mono (by omega));have U0:Hid _:=AL hb1 T0.out (by omega);have U1:Hid _:=AL hb1 T1.out (by omega);have U2:Hid _:=AL hb1 T2.out (by omega);have hz1:w.heap.size+1+1+1<=w1.heap.size:=by have:=hb1.size;rw[HS3.out]at this;omega
 have ULR:Hid (RowIs w1 3 1 gL L.length capL (Aw L)):=hLr;clear T0 T1 T2 HS3 hb1 hbb hLr HLL;go_wp2
 go_loopw [7,9] (λov iv wr=>∃k n g cap:Nat,k<=L.length/\iv=.int .i64 k/\ov=.slice (ad g) n cap/\Hid (n=((L.take k).filter P).length)/\w.heap.size+1<g/\g≠gL/\Below w.heap.size w wr/\Hid (Bl wr (w.heap.size) (bkV B a1 c1 a2 c2 a3 c3) 27)/\Hid (Bl wr (w.heap.size+1) (svV s) 63)/\Hid (RowIs wr 3 1 gL L.length capL (Aw L))/\Hid (RowIs wr 3 1 g n cap (Aw ((L.take k).filter P)))) (λ_ i _=>L.length - (intOf i).toNat)
 case atStart=>exact⟨0,0,w.heap.size+1+1,0,by omega,rfl,rfl,rfl,by omega,by omega,hbw1,U0,U1,ULR,⟨rfl,AG _,#[],U2.out,rfl,rfl⟩⟩
 case round=>
  clear hbw1 U0 U1 U2 ULR hz1;obtain⟨k,n,g,cap,hk,rfl,rfl,HNN,hg,hgne,hb,hbox,hsv,hLrow,hrow⟩:=hrel
  by_cases hlt:k<L.length
  ·obtain⟨i,hik⟩:∃i,L[k]?=some i:=⟨L[k],by simp[hlt]⟩
   have hilt:=hL i (AE hik);have HLK:Hid _:=Ej hik;have hne:B.cps≠[]:=by intro h;rw[h]at hilt;simp at hilt
   have hB0:=hB;obtain⟨b,off,ea,hbs,hat⟩:=hB.2.1 hne;subst ea;obtain⟨s0,hs⟩:∃s0,cpD B i=s0:=⟨_,rfl⟩;have hcx:=hat i s0 (by rw[Eo hilt,hs]);have hnk:n<=k:=by rw[HNN.out];exact DY _ _ _
   obtain⟨m,HM⟩:∃m,Hid ((Bv B s0)=m):=⟨_,rfl⟩
   have HF:Hid ((L.take (k+1)).filter P=(L.take k).filter P++(if m then [i] else [])):=by
    unfold Hid;rw[EI _ L hik,HPP.out];simp only[hs];rw[HM.out]
   have hbl:w.heap.size<wr.heap.size:=(AB hbox.out).1;have hsl:w.heap.size+1<wr.heap.size:=(AB hsv.out).1;have hgl:g<wr.heap.size:=hrow.out.lt;have hgL:gL<wr.heap.size:=hLrow.out.lt;have hz:=hb.size;clear hik hne hat hs;go_wp2;refine AX 9 (by kernel_rfl) (by kernel_rfl) ?_;apply AN
   ·intro V W K A hW hd hA hK
    simp only[pA]at hA;clear hd;obtain rfl:=hA;go_wp2;exact hK.out _ brf
   apply AN
   ·intro V W K A hW hd hA hK
    have d0:V 0=_:=hd 0 (by kernel_rfl);simp only[pA,d0]at hA;clear hd d0;obtain rfl:=hA;have e2:=AK (AL hW hbox.out hbl) 2 rfl;go_wp2;exact hK.out _ brf
   apply AN
   ·intro V W K A hW hd hA hK
    simp only[pA]at hA;clear hd;obtain rfl:=hA;go_wp2;exact hK.out _ brf
   apply AN
   ·intro V W K A hW hd hA hK
    simp only[pA]at hA;clear hd;obtain rfl:=hA;go_wp2;exact hK.out _ brf
   apply AN
   ·intro V W K A hW hd hA hK
    have d2:V 2=_:=hd 2 (by kernel_rfl);have d3:V 3=_:=hd 3 (by kernel_rfl);simp only[pA,d2,d3]at hA;clear hd d2 d3;obtain rfl:=hA;go_wp2;exact hK.out _ brf
   apply AN
   ·intro V W K A hW hd hA hK
    have d4:V 4=_:=hd 4 (by kernel_rfl);simp only[pA,d4]at hA;clear hd d4;obtain rfl:=hA;have y0:=(hLrow.out.below hW hgL).cell HLK.out;go_wp2;exact hK.out _ brf
   apply AN
   ·intro V W K A hW hd hA hK
    have d1:V 1=_:=hd 1 (by kernel_rfl);have d5:V 5=_:=hd 5 (by kernel_rfl);simp only[pA,d1,d5]at hA;clear hd d1 d5;obtain rfl:=hA;go_wp2;exact hK.out _ brf
   apply AN
   ·intro V W K A hW hd hA hK
    have d6:V 6=_:=hd 6 (by kernel_rfl);simp only[pA,d6]at hA;clear hd d6;obtain rfl:=hA;have hq:=hcx.below (hb.trans (hW.mono hb.size)) hbs;unfold CpAt at hq;obtain⟨q0,q1,q2,q3,q4,q5,q6⟩:=hq;go_wp2;exact hK.out _ brf
   refine Av (λv W=>∃p,v=.pointer (ad p)/\wr.heap.size<=p/\Bl W p czV 35) (λv W W2 ⟨p,h1,h2,h3⟩ hb=>⟨p,h1,h2,AL hb h3 (AB h3).1⟩) ?_ ?_
   ·intro V W K A hW hd hA hK
    simp only[pA]at hA;clear hd;obtain rfl:=hA;go_wp2;exact hK.out _ _ (AO W _) ⟨_,rfl,hW.size,heap_alloc_new W _⟩
   intro V W A hW hS hA;have d0:V 0=_:=hS 0 (by omega);have d1:V 1=_:=hS 1 (by omega);have d2:V 2=_:=hS 2 (by omega);have d3:V 3=_:=hS 3 (by omega);have d4:V 4=_:=hS 4 (by omega);have d5:V 5=_:=hS 5 (by omega);have d6:V 6=_:=hS 6 (by omega);have d7:V 7=_:=hS 7 (by omega);have d8:(λv W=>∃p,v=.pointer (ad p)/\wr.heap.size<=p/\Bl W p czV 35) (V 8) W:=hS 8 (by omega);simp only[pA,d0,d1,d2,d3,d4,d5,d6,d7]at hA;clear hS d0 d1 d2 d3 d4 d5 d6 d7;generalize V 8=x8 at d8 hA;obtain rfl:=hA;simp only[List.drop_succ_cons,List.drop_zero];obtain⟨p,rfl,hp,hpz⟩:=d8;refine CD rfl 35 (.tmp 10) (.tmp 29) rfl p 0 (cpV s0) rfl rfl 35 czV hpz DW (AG 7) (JZ s0) ?_;intro w2 hrow2 hsz2 hb2;have hzW:=hW.size;have hzW2:w2.heap.size=W.heap.size:=hsz2.out;have HZ2:Hid _:=hzW2;have hxs:Hid (Bl w2 p (cpV s0) 35):=hrow2;have hbWr:Below wr.heap.size wr w2:=hW.trans (hb2.mono hp);have hbw2:=hb.trans (hbWr.mono hb.size);have hbox2:Hid _:=AL hbWr hbox.out hbl;have hsv2:Hid _:=AL hbWr hsv.out hsl;have hrow3:Hid (RowIs w2 3 1 g n cap (Aw ((L.take k).filter P))):=hrow.out.below hbWr hgl;have hLr3:Hid (RowIs w2 3 1 gL L.length capL (Aw L)):=hLrow.out.below hbWr hgL;have hz2:=hbWr.size;clear hW hb2 hsz2 hrow2 hpz hrow hbox hsv hLrow hzW2 HZ2 hzW
   have HC:Hid (∀W:World,BkAt W a1 (some ⟨b,off,none⟩) a3 B->Calls Try.prog 111 #[.agg (bkV B a1 c1 (some ⟨b,off,none⟩) c2 a3 c3),.agg (cpV s0)] W λe w'=>e=.returned (.bool m)/\Below W.heap.size W w'):=λW h=>by
    rw[<-HM.out];exact Fl B s0 a1 _ a3 c1 c2 c3 W hS h
   obtain⟨e0,e1,e2,e3⟩:=c4 hbox2.out;have z0:=AK hxs.out 0 rfl;have z1:=AK hxs.out 1 rfl;have z2:=AK hxs.out 2 rfl;have z3:=AK hxs.out 3 rfl;have z4:=AK hxs.out 4 rfl;have z5:=AK hxs.out 5 rfl;have z6:=AK hxs.out 6 rfl
   go_wp2_with fail
   refine(HC.out _ (hB0.below hbw2)).mono ?_;rintro e w3 ⟨rfl,hb3⟩;clear e0 e1 e2 e3 z0 z1 z2 z3 z4 z5 z6 HC;have hx0:Hid _:=AL hb3 hbox2.out (by omega);have hx1:Hid _:=AL hb3 hsv2.out (by omega);have hx2:Hid (RowIs w3 3 1 g n cap (Aw ((L.take k).filter P))):=hrow3.out.below hb3 (by omega);have hx3:Hid (RowIs w3 3 1 gL L.length capL (Aw L)):=hLr3.out.below hb3 (by omega);have hx4:=hbw2.trans (hb3.mono hbw2.size);have hx5:=hb3.size;clear hbox2 hsv2 hrow3 hLr3 hbw2 hb3 hxs hbWr;cases m
   ·go_wp2
    go_roundw
    case rel=>exact⟨k+1,n,g,cap,by omega,by go_num,rfl,by rw[HF.out];simpa using HNN,hg,hgne,hx4,hx0,hx1,hx3,by rw[HF.out];simpa using hx2⟩
    case measure=>simp[intOf];omega
   ·have y0:=hx3.out.cell HLK.out
    have hgl3:g<w3.heap.size:=by omega
    have hgL3:gL<w3.heap.size:=by omega
    go_wp2_with (at_builtin;refine AV rfl (.tmp 57) (.tmp 62) 122 rfl 3 _ 1 8 Try.underlying122 EL rfl g n cap _ rfl (hx2.out.below (AO w3 _) hgl3) ⟨w3.heap.size,0,none⟩ 1 1 [.int .i64 (i:Int)] rfl rfl (BU (heap_alloc_new w3 _)) (by simp[Value.oneCell']) (by unfold maxLen;omega) (by omega) ?_;intro g' cap' w4 hg' hrow' hgr)
    have hsz:(w3.alloc (.cells #[.int .i64 (i:Int)] 3)).heap.size=w3.heap.size+1:=by show(w3.heap.push _).size=_;simp
    have hb4:Below w.heap.size w w4:=(hx4.alloc hx4.size _).trans (Ab hgr (by omega) (by rw[hsz];omega));have hal:=AO w3 (.cells #[.int .i64 (i:Int)] 3);have hbox4:Hid _:=(hgr.block w.heap.size (by rw[hsz];omega) (λe=>by have:=Option.some.inj e;omega)).trans (AL hal hx0.out (by omega));have hsv4:Hid _:=(hgr.block (w.heap.size+1) (by rw[hsz];omega) (λe=>by have:=Option.some.inj e;omega)).trans (AL hal hx1.out (by omega));have hLr4:Hid (RowIs w4 3 1 gL L.length capL (Aw L)):=(hx3.out.below hal hgL3).grown hgr (λe=>hgne (Option.some.inj e).symm);rw[hsz]at hg'
    go_roundw
    case rel=>exact⟨k+1,n+1,g',cap',by omega,by go_num,rfl,by unfold Hid;rw[HF.out,List.length_append,<-HNN.out];rfl,by omega,by omega,hb4,hbox4,hsv4,hLr4,by rw[HF.out];simp only[if_true];rw[FV];exact hrow'⟩
    case measure=>simp[intOf];omega
  ·go_wp2
   go_ret;have hkl:k=L.length:=by omega
   subst hkl;have hn:=HNN.out;rw[List.take_length]at hrow hn;subst hn;exact⟨g,cap,rfl,by omega,hrow.out,hb⟩
def FL(s:Svc)(d:Int):Int:=if s.most<(if d<s.least then s.least else d) then s.most else if d<s.least then s.least else d
def Ce(s:Svc):Int:=FL s (Int.tdiv (s.load+s.per - 1) s.per)
theorem KR(s:Svc)(w:World)(h0:0<=s.load)(h1:s.load<=1000000)(h2:1<=s.per)(h3:s.per<=1000000)(_h4:0<=s.least)(_h5:s.least<=10)(_h6:0<=s.most)(_h7:s.most<=10):
  Calls Try.prog 114 #[.agg (svV s)] w λe w'=>e=.returned (.int .i64 (Ce s))/\Below w.heap.size w w':=by
 have hd0:0<=Int.tdiv (s.load+s.per - 1) s.per:=Int.tdiv_nonneg (by omega) (by omega);have hd1:Int.tdiv (s.load+s.per - 1) s.per<=s.load+s.per - 1:=Int.tdiv_le_self s.per (by omega);have hp0:¬s.per=0:=by omega
 obtain⟨d,hd⟩:∃d,Int.tdiv (s.load+s.per - 1) s.per=d:=⟨_,rfl⟩;have HO:Hid (Ce s=FL s d):=by unfold Hid Ce;rw[hd]
 rw[hd]at hd0 hd1
 by_cases hl:d<s.least
 ·by_cases hm:s.most<s.least
  ·have HE:Hid (FL s d=s.most):=by unfold Hid FL;rw[if_pos hl,if_pos hm]
   go_enter Try.func114,Try.ntmps114;go_wp2;go_ret;exact⟨D8 (by rw[HO.out,HE.out]),AO _ _⟩
  ·have HE:Hid (FL s d=s.least):=by unfold Hid FL;rw[if_pos hl,if_neg hm]
   go_enter Try.func114,Try.ntmps114;go_wp2;go_ret;exact⟨D8 (by rw[HO.out,HE.out]),AO _ _⟩
 ·by_cases hm:s.most<d
  ·have HE:Hid (FL s d=s.most):=by unfold Hid FL;rw[if_neg hl,if_pos hm]
   go_enter Try.func114,Try.ntmps114;go_wp2;go_ret;exact⟨D8 (by rw[HO.out,HE.out]),AO _ _⟩
  ·have HE:Hid (FL s d=d):=by unfold Hid FL;rw[if_neg hl,if_neg hm]
   go_enter Try.func114,Try.ntmps114;go_wp2;go_ret;exact⟨D8 (by rw[HO.out,HE.out]),AO _ _⟩
end
end Go.Proofs.Ytbceafpodamnfaa
