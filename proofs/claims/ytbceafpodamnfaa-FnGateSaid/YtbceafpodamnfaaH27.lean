import Derived.Test.YtbceafpodamnfaaH26
set_option linter.all false
set_option maxHeartbeats 16000000
set_option maxRecDepth 100000
namespace Go.Proofs.Ytbceafpodamnfaa
attribute [local simp] svV cpV zbV czV aaV ctZ ad bkV ctV acV evV
attribute [local go_sem] svV cpV zbV czV aaV ctZ ad bkV ctV acV evV
section
open Go.RowKit Go.Sort
theorem LX(B:Bk)(x y:Cp)(img:Int)(a1 a2 a3:Option Addr)(c1 c2 c3:Nat)(w:World)(hS:B.small)(hB:BkAt w a1 a2 a3 B):
  Calls Try.prog 115 #[.agg (bkV B a1 c1 a2 c2 a3 c3),.agg (cpV x),.agg (cpV y),.int .i64 img] w λe w'=>e=.returned (.bool (GX B x y img))/\Below w.heap.size w w':=by
 have hbb:Below w.heap.size w (((w.alloc (.cells (bkV B a1 c1 a2 c2 a3 c3) 27)).alloc (.cells (cpV x) 35)).alloc (.cells (cpV y) 35)):=(((Below.refl _ _).alloc (AG _) _).alloc (by simp) _).alloc (by simp;omega) _;obtain⟨t0,t1,t2,t3⟩:=CR w (.cells (bkV B a1 c1 a2 c2 a3 c3) 27) (.cells (cpV x) 35) (.cells (cpV y) 35);have T0:Hid _:=t0;have T1:Hid _:=t1;have T2:Hid _:=t2;have HS3:Hid _:=t3;clear t0 t1 t2 t3;obtain⟨dx,HX⟩:∃d,Hid (Bv B x=d):=⟨_,rfl⟩;obtain⟨dy,HY⟩:∃d,Hid (Bv B y=d):=⟨_,rfl⟩;have HDX:Hid (∀W:World,BkAt W a1 a2 a3 B->Calls Try.prog 111 #[.agg (bkV B a1 c1 a2 c2 a3 c3),.agg (cpV x)] W λe w'=>e=.returned (.bool dx)/\Below W.heap.size W w'):=λW h=>by rw[<-HX.out];exact Fl B x a1 a2 a3 c1 c2 c3 W hS h
 have HDY:Hid (∀W:World,BkAt W a1 a2 a3 B->Calls Try.prog 111 #[.agg (bkV B a1 c1 a2 c2 a3 c3),.agg (cpV y)] W λe w'=>e=.returned (.bool dy)/\Below W.heap.size W w'):=λW h=>by rw[<-HY.out];exact Fl B y a1 a2 a3 c1 c2 c3 W hS h
 have HO:Hid (GX B x y img=if((x.state !=3)!=(y.state !=3)) then(x.state !=3) else if((x.image !=img)!=(y.image !=img)) then(x.image !=img) else if(dx !=dy) then dx else decide (y.number<x.number)):=by unfold Hid GX;rw[HX.out,HY.out]
 go_enter Try.func115,Try.ntmps115;cases hp:(x.state !=3)<;>cases hq:(y.state !=3)
 case false.true=>go_wp2;go_ret;exact⟨AS (by rw[HO.out,hp,hq];rfl),hbb⟩
 case true.false=>go_wp2;go_ret;exact⟨AS (by rw[HO.out,hp,hq];rfl),hbb⟩
 all_goals
  cases hr:(x.image !=img)<;>cases hs:(y.image !=img)
  case false.true=>go_wp2;go_ret;exact⟨AS (by rw[HO.out,hp,hq,hr,hs];rfl),hbb⟩
  case true.false=>go_wp2;go_ret;exact⟨AS (by rw[HO.out,hp,hq,hr,hs];rfl),hbb⟩
  all_goals
   have HO2:Hid (GX B x y img=if(dx !=dy) then dx else decide (y.number<x.number)):=by unfold Hid;rw[HO.out,hp,hq,hr,hs];rfl
   clear HO;go_wp2;refine AX 6 (by kernel_rfl) (by kernel_rfl) ?_;apply AN
   ·intro V W K A hW hd hA hK
    simp only[pA]at hA;clear hd;obtain rfl:=hA;obtain⟨e0,e1,e2,e3⟩:=c4 (AL hW T0.out (by rw[HS3.out];omega));go_wp2;exact hK.out _ brf
   apply AN
   ·intro V W K A hW hd hA hK
    simp only[pA]at hA;clear hd;obtain rfl:=hA;have y0:=AK (AL hW T1.out (by rw[HS3.out];omega)) 0 rfl;have y1:=AK (AL hW T1.out (by rw[HS3.out];omega)) 1 rfl;have y2:=AK (AL hW T1.out (by rw[HS3.out];omega)) 2 rfl;have y3:=AK (AL hW T1.out (by rw[HS3.out];omega)) 3 rfl;have y4:=AK (AL hW T1.out (by rw[HS3.out];omega)) 4 rfl;have y5:=AK (AL hW T1.out (by rw[HS3.out];omega)) 5 rfl;have y6:=AK (AL hW T1.out (by rw[HS3.out];omega)) 6 rfl;go_wp2;exact hK.out _ brf
   apply AN
   ·intro V W K A hW hd hA hK
    have d0:V 0=_:=hd 0 (by kernel_rfl);have d1:V 1=_:=hd 1 (by kernel_rfl);simp only[pA,d0,d1]at hA;clear hd d0 d1;obtain rfl:=hA
    go_wp2_with fail
    refine(HDX.out _ (hB.below (hbb.trans (hW.mono hbb.size)))).mono ?_;rintro e w3 ⟨rfl,hb3⟩;go_wp2;exact hK.out _ hb3
   apply AN
   ·intro V W K A hW hd hA hK
    simp only[pA]at hA;clear hd;obtain rfl:=hA;obtain⟨e0,e1,e2,e3⟩:=c4 (AL hW T0.out (by rw[HS3.out];omega));go_wp2;exact hK.out _ brf
   apply AN
   ·intro V W K A hW hd hA hK
    simp only[pA]at hA;clear hd;obtain rfl:=hA;have y0:=AK (AL hW T2.out (by rw[HS3.out];omega)) 0 rfl;have y1:=AK (AL hW T2.out (by rw[HS3.out];omega)) 1 rfl;have y2:=AK (AL hW T2.out (by rw[HS3.out];omega)) 2 rfl;have y3:=AK (AL hW T2.out (by rw[HS3.out];omega)) 3 rfl;have y4:=AK (AL hW T2.out (by rw[HS3.out];omega)) 4 rfl;have y5:=AK (AL hW T2.out (by rw[HS3.out];omega)) 5 rfl;have y6:=AK (AL hW T2.out (by rw[HS3.out];omega)) 6 rfl;go_wp2;exact hK.out _ brf
   apply AN
   ·intro V W K A hW hd hA hK
    have d3:V 3=_:=hd 3 (by kernel_rfl);have d4:V 4=_:=hd 4 (by kernel_rfl);simp only[pA,d3,d4]at hA;clear hd d3 d4;obtain rfl:=hA
    go_wp2_with fail
    refine(HDY.out _ (hB.below (hbb.trans (hW.mono hbb.size)))).mono ?_;rintro e w3 ⟨rfl,hb3⟩;go_wp2;exact hK.out _ hb3
   intro V W A hW hS hA;have d0:V 0=_:=hS 0 (by omega);have d1:V 1=_:=hS 1 (by omega);have d2:V 2=_:=hS 2 (by omega);have d3:V 3=_:=hS 3 (by omega);have d4:V 4=_:=hS 4 (by omega);have d5:V 5=_:=hS 5 (by omega);simp only[pA,d0,d1,d2,d3,d4,d5]at hA;clear hS d0 d1 d2 d3 d4 d5;obtain rfl:=hA;simp only[List.drop_succ_cons,List.drop_zero];have T0':Hid _:=AL hW T0.out (by rw[HS3.out];omega);have T1':Hid _:=AL hW T1.out (by rw[HS3.out];omega);have T2':Hid _:=AL hW T2.out (by rw[HS3.out];omega);have hbw:=hbb.trans (hW.mono hbb.size);cases dx<;>cases dy
   case false.false=>
    have y1:=AK T1'.out 1 rfl;have y2:=AK T2'.out 1 rfl;go_wp2;go_ret;exact⟨AS (by rw[HO2.out];rfl),hbw⟩
   case true.true=>
    have y1:=AK T1'.out 1 rfl;have y2:=AK T2'.out 1 rfl;go_wp2;go_ret;exact⟨AS (by rw[HO2.out];rfl),hbw⟩
   all_goals
    obtain⟨e0,e1,e2,e3⟩:=c4 T0'.out;have y0:=AK T1'.out 0 rfl;have y1:=AK T1'.out 1 rfl;have y2:=AK T1'.out 2 rfl;have y3:=AK T1'.out 3 rfl;have y4:=AK T1'.out 4 rfl;have y5:=AK T1'.out 5 rfl;have y6:=AK T1'.out 6 rfl
    go_wp2_with fail
    refine(HDX.out _ (hB.below hbw)).mono ?_;rintro e w3 ⟨rfl,hb3⟩;go_wp2;go_ret;exact⟨AS (by rw[HO2.out];rfl),hbw.trans (hb3.mono hbw.size)⟩
def cpD(B:Bk)(i:Nat):Cp:=(B.cps[i]?).getD ⟨⟨#[]⟩,0,0,0,0,false,⟨#[]⟩⟩
theorem cpD_of{B:Bk}{i:Nat}{c:Cp}(h:B.cps[i]?=some c):cpD B i=c:=by unfold cpD;rw[h];rfl
theorem Eo{B:Bk}{i:Nat}(h:i<B.cps.length):B.cps[i]?=some (cpD B i):=by unfold cpD;rw[List.getElem?_eq_getElem h];rfl
def LB(sv:ByteArray)(c:Cp):Bool:=c.service.toList==sv.toList&& !c.ending
def BO(B:Bk)(sv:ByteArray)(k:Nat):List Nat:=(List.range k).filter λi=>LB sv (cpD B i)
theorem Bu(B:Bk)(sv:ByteArray)(k:Nat):(BO B sv k).length<=k:=by
 unfold BO;exact AH (List.length_filter_le _ _) (by simp)
theorem ND{B:Bk}{sv:ByteArray}{k:Nat}(h:LB sv (cpD B k)=true):BO B sv (k+1)=BO B sv k++[k]:=by
 unfold BO;rw[List.range_succ,List.filter_append];simp[h]
theorem LA{B:Bk}{sv:ByteArray}{k:Nat}(h:LB sv (cpD B k)=false):BO B sv (k+1)=BO B sv k:=by
 unfold BO;rw[List.range_succ,List.filter_append];simp[h]
theorem Di{B:Bk}{sv:ByteArray}{k i:Nat}(h:i∈BO B sv k):i<k:=by
 unfold BO at h;exact List.mem_range.1 (List.mem_filter.1 h).1
def Aw(l:List Nat):List Value:=l.map λ(i:Nat)=>.int .i64 (i:Int)
theorem FV(l:List Nat)(k:Nat):Aw (l++[k])=Aw l++[.int .i64 (k:Int)]:=by simp[Aw]
theorem Ej{l:List Nat}{j i:Nat}(h:l[j]?=some i):(Aw l)[j]?=some (.int .i64 (i:Int)):=by simp[Aw,h]
theorem EL:(Try.prog.info? 3).map (λi=>(i.zero,i.size,i.bytes))=some (some (.int .i64 0),1,8):=by kernel_rfl
theorem Dy(B:Bk)(sv:ByteArray)(a1 a2 a3:Option Addr)(c1 c2 c3:Nat)(w:World)(hS:B.small)(hB:SlC w a2 B.cps):
  Calls Try.prog 105 #[.agg #[.int .i64 B.now,.slice a1 B.svcs.length c1,.slice a2 B.cps.length c2,.slice a3 B.bts.length c3],.string sv] w λe w'=>∃g cap,e=.returned (.slice (some ⟨g,0,none⟩) (BO B sv B.cps.length).length cap)/\w.heap.size<=g/\RowIs w' 3 1 g (BO B sv B.cps.length).length cap (Aw (BO B sv B.cps.length))/\Below w.heap.size w w':=by
 obtain⟨hl1,hl2,hl3⟩:=hS;obtain⟨t0,t1,t2⟩:=Bh w (.cells (bkV B a1 c1 a2 c2 a3 c3) 27) (.cells #[] 3);have T0:Hid _:=t0;have T1:Hid _:=t1;clear t0 t1 t2;go_enter Try.func105,Try.ntmps105;go_wp2
 go_loopw [5,6] (λov iv wr=>∃k g cap:Nat,k<=B.cps.length/\iv=.int .i64 k/\ov=.slice (some ⟨g,0,none⟩) (BO B sv k).length cap/\w.heap.size<g/\Below w.heap.size w wr/\Hid (Bl wr (w.heap.size) (bkV B a1 c1 a2 c2 a3 c3) 27)/\Hid (RowIs wr 3 1 g (BO B sv k).length cap (Aw (BO B sv k)))) (λ_ i _=>B.cps.length - (intOf i).toNat)
 case atStart=>exact⟨0,w.heap.size+1,0,by omega,rfl,rfl,by omega,((Below.refl _ _).alloc (AG _) _).alloc (by simp) _,T0,⟨rfl,AG _,#[],T1.out,rfl,rfl⟩⟩
 case round=>
  obtain⟨k,g,cap,hk,rfl,rfl,hg,hb,hbox,hrow⟩:=hrel;have e2:=AK hbox.out 2 rfl
  by_cases hlt:k<B.cps.length
  ·have hne:B.cps≠[]:=by intro h;rw[h]at hlt;simp at hlt
   obtain⟨b,off,rfl,hbs,hat⟩:=hB hne;obtain⟨s,hsk⟩:∃s,B.cps[k]?=some s:=⟨B.cps[k],by simp[hlt]⟩;have hc:=(hat k s hsk).below hb hbs;unfold CpAt at hc;have hc0:=hc.1;have hc5:=hc.2.2.2.2.2.1;have HD:Hid (cpD B k=s):=cpD_of hsk;clear hat hc hsk hne;have hlen:=Bu B sv k;have hgl:g<wr.heap.size:=hrow.out.lt;cases hq:(s.service.toList==sv.toList)
   ·have HL:Hid (BO B sv (k+1)=BO B sv k):=LA (by rw[HD.out];unfold LB;rw[hq];rfl)
    go_wp2
    go_roundw
    case rel=>exact⟨k+1,g,cap,by omega,by go_num,by rw[HL.out],hg,hb,hbox,by rw[HL.out];exact hrow⟩
    case measure=>simp[intOf];omega
   cases hq2:s.ending
   ·have HL:Hid (BO B sv (k+1)=BO B sv k++[k]):=ND (by rw[HD.out];unfold LB;rw[hq,hq2];rfl)
    go_wp2_with (at_builtin;refine AV rfl (.tmp 32) (.tmp 34) 122 rfl 3 _ 1 8 Try.underlying122 EL rfl g (BO B sv k).length cap _ rfl (hrow.out.below (AO wr _) hgl) ⟨wr.heap.size,0,none⟩ 1 1 [.int .i64 (k:Int)] rfl rfl (BU (heap_alloc_new wr _)) (by simp[Value.oneCell']) (by unfold maxLen;omega) (by omega) ?_;intro g' cap' w2 hg' hrow' hgr)
    have hsz:(wr.alloc (.cells #[.int .i64 (k:Int)] 3)).heap.size=wr.heap.size+1:=by show(wr.heap.push _).size=_;simp
    have hz:=hb.size;have hb2:Below w.heap.size w w2:=(hb.alloc hb.size _).trans (Ab hgr (by omega) (by rw[hsz];omega));have hbox2:Hid _:=(hgr.block w.heap.size (by rw[hsz];omega) (λe=>by have:=Option.some.inj e;omega)).trans (AL (AO wr (.cells #[.int .i64 (k:Int)] 3)) hbox.out (by omega));rw[hsz]at hg'
    go_roundw
    case rel=>exact⟨k+1,g',cap',by omega,by go_num,by rw[HL.out];simp,by omega,hb2,hbox2,by rw[HL.out,FV,List.length_append];exact hrow'⟩
    case measure=>simp[intOf];omega
   ·have HL:Hid (BO B sv (k+1)=BO B sv k):=LA (by rw[HD.out];unfold LB;rw[hq,hq2];rfl)
    go_wp2
    go_roundw
    case rel=>exact⟨k+1,g,cap,by omega,by go_num,by rw[HL.out],hg,hb,hbox,by rw[HL.out];exact hrow⟩
    case measure=>simp[intOf];omega
  ·go_wp2
   go_ret;have hkl:k=B.cps.length:=by omega
   subst hkl;exact⟨g,cap,rfl,by omega,hrow.out,hb⟩
def Ds(c:Cp):En:=⟨c.number,c.version⟩
def Co(B:Bk)(l:List Nat):List En:=l.map λi=>Ds (cpD B i)
def CZ(l:List En):List Value:=l.flatMap En.cells
theorem ensV_add(l:List En)(x:En):CZ (l++[x])=CZ l++x.cells:=by simp[CZ]
theorem N5:∀(l:List En) (j:Nat) (x:En),l[j]?=some x->(CZ l)[j*2]?=some (.int .i64 x.number)/\(CZ l)[j*2+1]?=some (.int .i64 x.seen)
 |[],_,_,h=>by simp at h
 |y::l,0,x,h=>by simp at h;subst h;exact⟨rfl,rfl⟩
 |y::l,j+1,x,h=>by
  have:=N5 l j x (by simpa using h);have e:CZ (y::l)=.int .i64 y.number:: .int .i64 y.seen::CZ l:=rfl;rw[e,show(j+1)*2=j*2+1+1 by omega,show j*2+1+1+1=(j*2+1)+1+1 by omega]
  simpa using this
theorem Jh(B:Bk)(L:List Nat)(gL capL:Nat)(a1 a2 a3:Option Addr)(c1 c2 c3:Nat)(w:World)(hS:B.small)(hB:SlC w a2 B.cps)(hL:∀i∈L,i<B.cps.length)(hLn:L.length<=1048576)(hLr:RowIs w 3 1 gL L.length capL (Aw L)):
  Calls Try.prog 103 #[.agg #[.int .i64 B.now,.slice a1 B.svcs.length c1,.slice a2 B.cps.length c2,.slice a3 B.bts.length c3],.slice (some ⟨gL,0,none⟩) L.length capL] w λe w'=>∃g cap,e=.returned (.slice (some ⟨g,0,none⟩) L.length cap)/\w.heap.size<=g/\RowIs w' 168 2 g L.length cap (CZ (Co B L))/\Below w.heap.size w w':=by
 obtain⟨hl1,hl2,hl3⟩:=hS;obtain⟨t0,t1,t2⟩:=Bh w (.cells (bkV B a1 c1 a2 c2 a3 c3) 27) (.cells #[] 168);have T0:Hid _:=t0;have T1:Hid _:=t1;have hLrow:Hid (RowIs w 3 1 gL L.length capL (Aw L)):=hLr;have hgL:gL<w.heap.size:=hLr.lt;clear t0 t1 t2 hLr;go_enter Try.func103,Try.ntmps103;go_wp2
 go_loopw [5,6] (λov iv wr=>∃k g cap:Nat,k<=L.length/\iv=.int .i64 k/\ov=.slice (some ⟨g,0,none⟩) k cap/\w.heap.size<g/\Below w.heap.size w wr/\Hid (Bl wr (w.heap.size) (bkV B a1 c1 a2 c2 a3 c3) 27)/\Hid (RowIs wr 168 2 g k cap (CZ (Co B (L.take k))))) (λ_ i _=>L.length - (intOf i).toNat)
 case atStart=>exact⟨0,w.heap.size+1,0,by omega,rfl,rfl,by omega,((Below.refl _ _).alloc (AG _) _).alloc (by simp) _,T0,⟨rfl,AG _,#[],T1.out,rfl,rfl⟩⟩
 case round=>
  obtain⟨k,g,cap,hk,rfl,rfl,hg,hb,hbox,hrow⟩:=hrel
  by_cases hlt:k<L.length
  ·obtain⟨i,hik⟩:∃i,L[k]?=some i:=⟨L[k],by simp[hlt]⟩
   have hilt:=hL i (AE hik);have HLK:Hid _:=Ej hik;have hne:B.cps≠[]:=by intro h;rw[h]at hilt;simp at hilt
   obtain⟨b,off,ea,hbs,hat⟩:=hB hne;subst ea;obtain⟨s,hs⟩:∃s,cpD B i=s:=⟨_,rfl⟩;have hcx:=hat i s (by rw[Eo hilt,hs])
   have HE:Hid (Co B (L.take (k+1))=Co B (L.take k)++[⟨s.number,s.version⟩]):=by
    unfold Hid;rw[List.take_add_one,hik];simp[Co,Ds,hs]
   have hbl:w.heap.size<wr.heap.size:=(AB hbox.out).1;have hgl:g<wr.heap.size:=hrow.out.lt;clear hik hne hat hs;go_wp2;refine AX 21 (by kernel_rfl) (by kernel_rfl) ?_;apply AN
   ·intro V W K A hW hd hA hK
    simp only[pA]at hA;clear hd;obtain rfl:=hA;go_wp2;exact hK.out _ brf
   apply AN
   ·intro V W K A hW hd hA hK
    simp only[pA]at hA;clear hd;obtain rfl:=hA;go_wp2;exact hK.out _ brf
   apply AN
   ·intro V W K A hW hd hA hK
    have d1:V 1=_:=hd 1 (by kernel_rfl);simp only[pA,d1]at hA;clear hd d1;obtain rfl:=hA;have e2:=AK (AL hW hbox.out hbl) 2 rfl;go_wp2;exact hK.out _ brf
   apply AN
   ·intro V W K A hW hd hA hK
    simp only[pA]at hA;clear hd;obtain rfl:=hA;go_wp2;exact hK.out _ brf
   apply AN
   ·intro V W K A hW hd hA hK
    simp only[pA]at hA;clear hd;obtain rfl:=hA;go_wp2;exact hK.out _ brf
   apply AN
   ·intro V W K A hW hd hA hK
    have d3:V 3=_:=hd 3 (by kernel_rfl);have d4:V 4=_:=hd 4 (by kernel_rfl);simp only[pA,d3,d4]at hA;clear hd d3 d4;obtain rfl:=hA;go_wp2;exact hK.out _ brf
   apply AN
   ·intro V W K A hW hd hA hK
    have d5:V 5=_:=hd 5 (by kernel_rfl);simp only[pA,d5]at hA;clear hd d5;obtain rfl:=hA;have y0:=(hLrow.out.below (hb.trans (hW.mono hb.size)) hgL).cell HLK.out;go_wp2;exact hK.out _ brf
   apply AN
   ·intro V W K A hW hd hA hK
    have d2:V 2=_:=hd 2 (by kernel_rfl);have d6:V 6=_:=hd 6 (by kernel_rfl);simp only[pA,d2,d6]at hA;clear hd d2 d6;obtain rfl:=hA;go_wp2;exact hK.out _ brf
   apply AN
   ·intro V W K A hW hd hA hK
    have d7:V 7=_:=hd 7 (by kernel_rfl);simp only[pA,d7]at hA;clear hd d7;obtain rfl:=hA;go_wp2;exact hK.out _ brf
   apply AN
   ·intro V W K A hW hd hA hK
    have d8:V 8=_:=hd 8 (by kernel_rfl);simp only[pA,d8]at hA;clear hd d8;obtain rfl:=hA;have hq:=hcx.below (hb.trans (hW.mono hb.size)) hbs;unfold CpAt at hq;obtain⟨q0,q1,q2,q3,q4,q5,q6⟩:=hq;go_wp2;exact hK.out _ brf
   apply AN
   ·intro V W K A hW hd hA hK
    simp only[pA]at hA;clear hd;obtain rfl:=hA;go_wp2;exact hK.out _ brf
   apply AN
   ·intro V W K A hW hd hA hK
    have d10:V 10=_:=hd 10 (by kernel_rfl);simp only[pA,d10]at hA;clear hd d10;obtain rfl:=hA;have e2:=AK (AL hW hbox.out hbl) 2 rfl;go_wp2;exact hK.out _ brf
   apply AN
   ·intro V W K A hW hd hA hK
    simp only[pA]at hA;clear hd;obtain rfl:=hA;go_wp2;exact hK.out _ brf
   apply AN
   ·intro V W K A hW hd hA hK
    simp only[pA]at hA;clear hd;obtain rfl:=hA;go_wp2;exact hK.out _ brf
   apply AN
   ·intro V W K A hW hd hA hK
    have d12:V 12=_:=hd 12 (by kernel_rfl);have d13:V 13=_:=hd 13 (by kernel_rfl);simp only[pA,d12,d13]at hA;clear hd d12 d13;obtain rfl:=hA;go_wp2;exact hK.out _ brf
   apply AN
   ·intro V W K A hW hd hA hK
    have d14:V 14=_:=hd 14 (by kernel_rfl);simp only[pA,d14]at hA;clear hd d14;obtain rfl:=hA;have y0:=(hLrow.out.below (hb.trans (hW.mono hb.size)) hgL).cell HLK.out;go_wp2;exact hK.out _ brf
   apply AN
   ·intro V W K A hW hd hA hK
    have d11:V 11=_:=hd 11 (by kernel_rfl);have d15:V 15=_:=hd 15 (by kernel_rfl);simp only[pA,d11,d15]at hA;clear hd d11 d15;obtain rfl:=hA;go_wp2;exact hK.out _ brf
   apply AN
   ·intro V W K A hW hd hA hK
    have d16:V 16=_:=hd 16 (by kernel_rfl);simp only[pA,d16]at hA;clear hd d16;obtain rfl:=hA;go_wp2;exact hK.out _ brf
   apply AN
   ·intro V W K A hW hd hA hK
    have d17:V 17=_:=hd 17 (by kernel_rfl);simp only[pA,d17]at hA;clear hd d17;obtain rfl:=hA;have hq:=hcx.below (hb.trans (hW.mono hb.size)) hbs;unfold CpAt at hq;obtain⟨q0,q1,q2,q3,q4,q5,q6⟩:=hq;go_wp2;exact hK.out _ brf
   apply AN
   ·intro V W K A hW hd hA hK
    have d9:V 9=_:=hd 9 (by kernel_rfl);have d18:V 18=_:=hd 18 (by kernel_rfl);simp only[pA,d9,d18]at hA;clear hd d9 d18;obtain rfl:=hA;go_wp2;exact hK.out _ brf
   refine Av (λv W=>∃p,v=.slice (some ⟨p,0,none⟩) 1 1/\wr.heap.size<=p/\Bl W p #[.int .i64 s.number,.int .i64 s.version] 168) (λv W W2 ⟨p,h1,h2,h3⟩ hb=>⟨p,h1,h2,AL hb h3 (AB h3).1⟩) ?_ ?_
   ·intro V W K A hW hd hA hK
    have d19:V 19=_:=hd 19 (by kernel_rfl);simp only[pA,d19]at hA;clear hd d19;obtain rfl:=hA;go_wp2;exact hK.out _ _ (AO W _) ⟨_,rfl,hW.size,heap_alloc_new W _⟩
   intro V W A hW hS hA;have d0:V 0=_:=hS 0 (by omega);have d1:V 1=_:=hS 1 (by omega);have d2:V 2=_:=hS 2 (by omega);have d3:V 3=_:=hS 3 (by omega);have d4:V 4=_:=hS 4 (by omega);have d5:V 5=_:=hS 5 (by omega);have d6:V 6=_:=hS 6 (by omega);have d7:V 7=_:=hS 7 (by omega);have d8:V 8=_:=hS 8 (by omega);have d9:V 9=_:=hS 9 (by omega);have d10:V 10=_:=hS 10 (by omega);have d11:V 11=_:=hS 11 (by omega);have d12:V 12=_:=hS 12 (by omega);have d13:V 13=_:=hS 13 (by omega);have d14:V 14=_:=hS 14 (by omega);have d15:V 15=_:=hS 15 (by omega);have d16:V 16=_:=hS 16 (by omega);have d17:V 17=_:=hS 17 (by omega);have d18:V 18=_:=hS 18 (by omega);have d19:V 19=_:=hS 19 (by omega);have d20:(λv W=>∃p,v=.slice (some ⟨p,0,none⟩) 1 1/\wr.heap.size<=p/\Bl W p #[.int .i64 s.number,.int .i64 s.version] 168) (V 20) W:=hS 20 (by omega);simp only[pA,d0,d1,d2,d3,d4,d5,d6,d7,d8,d9,d10,d11,d12,d13,d14,d15,d16,d17,d18,d19]at hA;clear hS d0 d1 d2 d3 d4 d5 d6 d7 d8 d9 d10 d11 d12 d13 d14 d15 d16 d17 d18 d19;generalize V 20=x20 at d20 hA;obtain rfl:=hA;simp only[List.drop_succ_cons,List.drop_zero];obtain⟨p,rfl,hp,hpz⟩:=d20;have hz:=hb.size;refine AV rfl (.tmp 14) (.tmp 34) 150 rfl 168 _ 2 16 Try.underlying150 Mj rfl g k cap _ rfl (hrow.out.below hW hgl) ⟨p,0,none⟩ 1 1 [.int .i64 s.number,.int .i64 s.version] rfl rfl (BU hpz) (by simp[Value.oneCell']) (by unfold maxLen;omega) (by omega) ?_;intro g' cap' w2 hg' hrow' hgr;have hzW:=hW.size;have hbW:=hb.trans (hW.mono hb.size);have hb2:Below w.heap.size w w2:=hbW.trans (Ab hgr (by omega) (by omega))
   have hbox2:Hid _:=(hgr.block w.heap.size (by omega) (λe=>by have:=Option.some.inj e;omega)).trans (AL hW hbox.out hbl);clear hpz hW hgr;go_wp2
   go_roundw
   case rel=>exact⟨k+1,g',cap',by omega,by go_num,rfl,by omega,hb2,hbox2,by rw[HE.out,ensV_add];exact hrow'⟩
   case measure=>simp[intOf];omega
  ·go_wp2
   go_ret;have hkl:k=L.length:=by omega
   subst hkl;rw[List.take_length]at hrow;exact⟨g,cap,rfl,by omega,hrow.out,hb⟩
def Ju(B:Bk)(img:Int)(best:Cp)(i:Nat):Cp:=if GX B (cpD B i) best img then cpD B i else best
def FM(B:Bk)(img:Int)(i0:Nat)(L:List Nat)(k:Nat):Cp:=((L.take k).drop 1).foldl (Ju B img) (cpD B i0)
def De(B:Bk)(img:Int)(L:List Nat):List En:=match L with
 |[]=>[]
 |i0::r=>[Ds (FM B img i0 (i0::r) (i0::r).length)]
theorem Mg{B:Bk}{img:Int}{i0:Nat}{L:List Nat}{k i:Nat}(hk:1<=k)(h:L[k]?=some i):FM B img i0 L (k+1)=Ju B img (FM B img i0 L k) i:=by
 unfold FM;have hlt:k<L.length:=(AC h).1;rw[List.take_add_one,h];simp only[Option.toList];rw[List.drop_append_of_le_length (by simp;omega),List.foldl_append];rfl
theorem LH{B:Bk}{img:Int}{L:List Nat}{i0:Nat}(h:L[0]?=some i0):De B img L=[Ds (FM B img i0 L L.length)]:=by
 cases L with
 |nil=>simp at h
 |cons a r=>simp at h;subst h;rfl
theorem MR(B:Bk)(s:Svc)(gL capL:Nat)(a1 a2 a3:Option Addr)(c1 c2 c3:Nat)(w:World):
  Calls Try.prog 112 #[.agg (bkV B a1 c1 a2 c2 a3 c3),.agg (svV s),.slice (ad gL) 0 capL] w λe w'=>∃g cap,e=.returned (.slice (ad g) 0 cap)/\w.heap.size<=g/\RowIs w' 168 2 g 0 cap []/\Below w.heap.size w w':=by
 obtain⟨t0,t1,t2,t3⟩:=CR w (.cells (bkV B a1 c1 a2 c2 a3 c3) 27) (.cells (svV s) 63) (.cells #[] 168);have T2:Hid _:=t2;clear t0 t1 t2 t3;have hbb:Below w.heap.size w (((w.alloc (.cells (bkV B a1 c1 a2 c2 a3 c3) 27)).alloc (.cells (svV s) 63)).alloc (.cells #[] 168)):=(((Below.refl _ _).alloc (AG _) _).alloc (by simp) _).alloc (by simp;omega) _;go_enter Try.func112,Try.ntmps112;go_wp2;go_ret;exact⟨w.heap.size+1+1,0,rfl,by omega,⟨rfl,AG _,#[],T2.out,rfl,rfl⟩,hbb⟩
theorem Fk(B:Bk)(s:Svc)(L:List Nat)(i0:Nat)(gL capL:Nat)(a1 a2 a3:Option Addr)(c1 c2 c3:Nat)(w:World)(hS:B.small)(hB:BkAt w a1 a2 a3 B)(h0:L[0]?=some i0)(hL:∀i∈L,i<B.cps.length)(hLn:L.length<=1048576)(hLr:RowIs w 3 1 gL L.length capL (Aw L)):
  Calls Try.prog 112 #[.agg (bkV B a1 c1 a2 c2 a3 c3),.agg (svV s),.slice (ad gL) L.length capL] w λe w'=>∃g cap,e=.returned (.slice (ad g) 1 cap)/\w.heap.size<=g/\RowIs w' 168 2 g 1 cap (CZ [Ds (FM B s.image i0 L L.length)])/\Below w.heap.size w w':=by
 obtain⟨t0,t1,t2⟩:=Bh w (.cells (bkV B a1 c1 a2 c2 a3 c3) 27) (.cells (svV s) 63);have T0:Hid _:=t0;have T1:Hid _:=t1;have HS2:Hid _:=t2;have hLrow:Hid (RowIs w 3 1 gL L.length capL (Aw L)):=hLr;have hgL:gL<w.heap.size:=hLr.lt;clear t0 t1 t2 hLr;have hbb:Below w.heap.size w ((w.alloc (.cells (bkV B a1 c1 a2 c2 a3 c3) 27)).alloc (.cells (svV s) 63)):=((Below.refl _ _).alloc (AG _) _).alloc (by simp) _;have hl0:0<L.length:=(AC h0).1;have hi0:=hL i0 (AE h0);have HL0:Hid _:=Ej h0;have hl:=hS;obtain⟨hl1,hl2,hl3⟩:=hl;have hne:B.cps≠[]:=by intro h;rw[h]at hi0;simp at hi0
 have hB0:=hB;obtain⟨b,off,ea,hbs,hat⟩:=hB.2.1 hne;subst ea;obtain⟨s0,hs0⟩:∃s0,cpD B i0=s0:=⟨_,rfl⟩;have hcx:=hat i0 s0 (by rw[Eo hi0,hs0]);have HS00:Hid _:=hs0;clear h0 hne hs0;have hle0:((L.length:Int)==0)=false:=by rw[beq_eq_false_iff_ne];omega
 go_enter Try.func112,Try.ntmps112;go_wp2;refine AX 8 (by kernel_rfl) (by kernel_rfl) ?_;apply AN
 ·intro V W K A hW hd hA hK
  simp only[pA]at hA;clear hd;obtain rfl:=hA;go_wp2;exact hK.out _ brf
 apply AN
 ·intro V W K A hW hd hA hK
  have d0:V 0=_:=hd 0 (by kernel_rfl);simp only[pA,d0]at hA;clear hd d0;obtain rfl:=hA;have e2:=AK (AL hW T0.out (by rw[HS2.out];omega)) 2 rfl;go_wp2;exact hK.out _ brf
 apply AN
 ·intro V W K A hW hd hA hK
  simp only[pA]at hA;clear hd;obtain rfl:=hA;go_wp2;exact hK.out _ brf
 apply AN
 ·intro V W K A hW hd hA hK
  have d2:V 2=_:=hd 2 (by kernel_rfl);simp only[pA,d2]at hA;clear hd d2;obtain rfl:=hA;go_wp2;exact hK.out _ brf
 apply AN
 ·intro V W K A hW hd hA hK
  have d3:V 3=_:=hd 3 (by kernel_rfl);simp only[pA,d3]at hA;clear hd d3;obtain rfl:=hA;have y0:=(hLrow.out.below (hbb.trans (hW.mono hbb.size)) hgL).cell HL0.out;go_wp2;exact hK.out _ brf
 apply AN
 ·intro V W K A hW hd hA hK
  have d1:V 1=_:=hd 1 (by kernel_rfl);have d4:V 4=_:=hd 4 (by kernel_rfl);simp only[pA,d1,d4]at hA;clear hd d1 d4;obtain rfl:=hA;go_wp2;exact hK.out _ brf
 apply AN
 ·intro V W K A hW hd hA hK
  have d5:V 5=_:=hd 5 (by kernel_rfl);simp only[pA,d5]at hA;clear hd d5;obtain rfl:=hA;have hq:=hcx.below (hbb.trans (hW.mono hbb.size)) hbs;unfold CpAt at hq;obtain⟨q0,q1,q2,q3,q4,q5,q6⟩:=hq;go_wp2;exact hK.out _ brf
 refine Av (λv W=>∃p,v=.pointer (ad p)/\w.heap.size+1+1<=p/\Bl W p czV 35) (λv W W2 ⟨p,h1,h2,h3⟩ hb=>⟨p,h1,h2,AL hb h3 (AB h3).1⟩) ?_ ?_
 ·intro V W K A hW hd hA hK
  simp only[pA]at hA;clear hd;obtain rfl:=hA;go_wp2;exact hK.out _ _ (AO W _) ⟨_,rfl,(by have:=hW.size;rw[HS2.out]at this;exact this),heap_alloc_new W _⟩
 intro V W A hW hS hA;have d0:V 0=_:=hS 0 (by omega);have d1:V 1=_:=hS 1 (by omega);have d2:V 2=_:=hS 2 (by omega);have d3:V 3=_:=hS 3 (by omega);have d4:V 4=_:=hS 4 (by omega);have d5:V 5=_:=hS 5 (by omega);have d6:V 6=_:=hS 6 (by omega);have d7:(λv W=>∃p,v=.pointer (ad p)/\w.heap.size+1+1<=p/\Bl W p czV 35) (V 7) W:=hS 7 (by omega);simp only[pA,d0,d1,d2,d3,d4,d5,d6]at hA;clear hS d0 d1 d2 d3 d4 d5 d6;generalize V 7=x7 at d7 hA;obtain rfl:=hA;simp only[List.drop_succ_cons,List.drop_zero];obtain⟨p,rfl,hp,hpz⟩:=d7;refine CD rfl 35 (.tmp 7) (.tmp 19) rfl p 0 (cpV s0) rfl rfl 35 czV hpz DW (AG 7) (JZ s0) ?_;intro w2 hrow2 hsz2 hb2;have hbest0:Hid (Bl w2 p (cpV s0) 35):=hrow2;have hbW:Below (w.heap.size+1+1) ((w.alloc (.cells (bkV B a1 c1 (some ⟨b,off,none⟩) c2 a3 c3) 27)).alloc (.cells (svV s) 63)) w2:=by rw[HS2.out]at hW;exact hW.trans (hb2.mono (by omega))
 have hbox0:Hid _:=AL hbW T0.out (by omega);have hsv0:Hid _:=AL hbW T1.out (by omega);have hbw2:Below w.heap.size w w2:=hbb.trans (hbW.mono (by omega));clear hW hb2 hsz2 hrow2 hpz T0 T1 HS2 hbb hbW HL0 hcx;go_wp2
 go_loopw [8] (λiv wr=>∃(k:Nat) (best:Cp),1<=k/\k<=L.length/\iv=.int .i64 k/\Hid (best=FM B s.image i0 L k)/\Below w.heap.size w wr/\Hid (Bl wr (w.heap.size) (bkV B a1 c1 (some ⟨b,off,none⟩) c2 a3 c3) 27)/\Hid (Bl wr (w.heap.size+1) (svV s) 63)/\Hid (Bl wr p (cpV best) 35)) (λi _=>L.length - (intOf i).toNat)
 case atStart=>exact⟨1,s0,by omega,by omega,rfl,by unfold Hid FM;rw[<-HS00.out];cases L with|nil=>simp at hl0|cons a r=>simp,hbw2,hbox0,hsv0,hbest0⟩
 case round=>
  clear hbw2 hbox0 hsv0 hbest0 HS00;obtain⟨k,best,hk1,hk,rfl,HBT,hb,hbox,hsv,hbest⟩:=hrel;have hbl:w.heap.size<wr.heap.size:=(AB hbox.out).1;have hsl:w.heap.size+1<wr.heap.size:=(AB hsv.out).1;have hpl:p<wr.heap.size:=(AB hbest.out).1
  by_cases hlt:k<L.length
  ·obtain⟨i,hik⟩:∃i,L[k]?=some i:=⟨L[k],by simp[hlt]⟩
   have hilt:=hL i (AE hik);have HLK:Hid _:=Ej hik;obtain⟨x,hx⟩:∃x,cpD B i=x:=⟨_,rfl⟩;have hcx:=hat i x (by rw[Eo hilt,hx]);obtain⟨m,HM⟩:∃m,Hid (GX B x best s.image=m):=⟨_,rfl⟩
   have HST:Hid (FM B s.image i0 L (k+1)=if m then x else best):=by
    unfold Hid;rw[Mg hk1 hik,<-HBT.out];unfold Ju;rw[hx,HM.out]
   have HC:Hid (∀W:World,BkAt W a1 (some ⟨b,off,none⟩) a3 B->Calls Try.prog 115 #[.agg (bkV B a1 c1 (some ⟨b,off,none⟩) c2 a3 c3),.agg (cpV x),.agg (cpV best),.int .i64 s.image] W λe w'=>e=.returned (.bool m)/\Below W.heap.size W w'):=λW h=>by
    rw[<-HM.out];exact LX B x best s.image a1 _ a3 c1 c2 c3 W hS h
   have hz:=hb.size;clear hik hx;go_wp2;refine AX 12 (by kernel_rfl) (by kernel_rfl) ?_;apply AN
   ·intro V W K A hW hd hA hK
    simp only[pA]at hA;clear hd;obtain rfl:=hA;obtain⟨e0,e1,e2,e3⟩:=c4 (AL hW hbox.out hbl);go_wp2;exact hK.out _ brf
   apply AN
   ·intro V W K A hW hd hA hK
    simp only[pA]at hA;clear hd;obtain rfl:=hA;go_wp2;exact hK.out _ brf
   apply AN
   ·intro V W K A hW hd hA hK
    have d1:V 1=_:=hd 1 (by kernel_rfl);simp only[pA,d1]at hA;clear hd d1;obtain rfl:=hA;have e2:=AK (AL hW hbox.out hbl) 2 rfl;go_wp2;exact hK.out _ brf
   apply AN
   ·intro V W K A hW hd hA hK
    simp only[pA]at hA;clear hd;obtain rfl:=hA;go_wp2;exact hK.out _ brf
   apply AN
   ·intro V W K A hW hd hA hK
    simp only[pA]at hA;clear hd;obtain rfl:=hA;go_wp2;exact hK.out _ brf
   apply AN
   ·intro V W K A hW hd hA hK
    have d3:V 3=_:=hd 3 (by kernel_rfl);have d4:V 4=_:=hd 4 (by kernel_rfl);simp only[pA,d3,d4]at hA;clear hd d3 d4;obtain rfl:=hA;go_wp2;exact hK.out _ brf
   apply AN
   ·intro V W K A hW hd hA hK
    have d5:V 5=_:=hd 5 (by kernel_rfl);simp only[pA,d5]at hA;clear hd d5;obtain rfl:=hA;have y0:=(hLrow.out.below (hb.trans (hW.mono hb.size)) hgL).cell HLK.out;go_wp2;exact hK.out _ brf
   apply AN
   ·intro V W K A hW hd hA hK
    have d2:V 2=_:=hd 2 (by kernel_rfl);have d6:V 6=_:=hd 6 (by kernel_rfl);simp only[pA,d2,d6]at hA;clear hd d2 d6;obtain rfl:=hA;go_wp2;exact hK.out _ brf
   apply AN
   ·intro V W K A hW hd hA hK
    have d7:V 7=_:=hd 7 (by kernel_rfl);simp only[pA,d7]at hA;clear hd d7;obtain rfl:=hA;have hq:=hcx.below (hb.trans (hW.mono hb.size)) hbs;unfold CpAt at hq;obtain⟨q0,q1,q2,q3,q4,q5,q6⟩:=hq;go_wp2;exact hK.out _ brf
   apply AN
   ·intro V W K A hW hd hA hK
    simp only[pA]at hA;clear hd;obtain rfl:=hA;have z0:=AK (AL hW hbest.out hpl) 0 rfl;have z1:=AK (AL hW hbest.out hpl) 1 rfl;have z2:=AK (AL hW hbest.out hpl) 2 rfl;have z3:=AK (AL hW hbest.out hpl) 3 rfl;have z4:=AK (AL hW hbest.out hpl) 4 rfl;have z5:=AK (AL hW hbest.out hpl) 5 rfl;have z6:=AK (AL hW hbest.out hpl) 6 rfl;go_wp2;exact hK.out _ brf
   apply AN
   ·intro V W K A hW hd hA hK
    simp only[pA]at hA;clear hd;obtain rfl:=hA;go_wp2;exact hK.out _ brf
   apply AN
   ·intro V W K A hW hd hA hK
    have d10:V 10=_:=hd 10 (by kernel_rfl);simp only[pA,d10]at hA;clear hd d10;obtain rfl:=hA;have v3:=AK (AL hW hsv.out hsl) 3 rfl;go_wp2;exact hK.out _ brf
   intro V W A hW hS hA;have d0:V 0=_:=hS 0 (by omega);have d1:V 1=_:=hS 1 (by omega);have d2:V 2=_:=hS 2 (by omega);have d3:V 3=_:=hS 3 (by omega);have d4:V 4=_:=hS 4 (by omega);have d5:V 5=_:=hS 5 (by omega);have d6:V 6=_:=hS 6 (by omega);have d7:V 7=_:=hS 7 (by omega);have d8:V 8=_:=hS 8 (by omega);have d9:V 9=_:=hS 9 (by omega);have d10:V 10=_:=hS 10 (by omega);have d11:V 11=_:=hS 11 (by omega);simp only[pA,d0,d1,d2,d3,d4,d5,d6,d7,d8,d9,d10,d11]at hA;clear hS d0 d1 d2 d3 d4 d5 d6 d7 d8 d9 d10 d11;obtain rfl:=hA;simp only[List.drop_succ_cons,List.drop_zero];have hbW:=hb.trans (hW.mono hb.size)
   go_wp2_with fail
   refine(HC.out _ (hB0.below hbW)).mono ?_;rintro e w3 ⟨rfl,hb3⟩;have hbWr:Below wr.heap.size wr w3:=hW.trans (hb3.mono hW.size);have hbw3:=hb.trans (hbWr.mono hb.size);have hbox3:Hid _:=AL hbWr hbox.out hbl;have hsv3:Hid _:=AL hbWr hsv.out hsl;have hbest3:Hid _:=AL hbWr hbest.out hpl;have hbl3:=AF hbl hbWr.size;have hpl3:=AF hpl hbWr.size;clear hW hb3 HC hbW hbox hsv hbest HM;cases m
   ·go_wp2
    go_roundw
    case rel=>exact⟨k+1,best,by omega,by omega,by go_num,by unfold Hid;rw[HST.out];rfl,hbw3,hbox3,hsv3,hbest3⟩
    case measure=>simp[intOf];omega
   ·go_wp2
    refine AX 8 (by kernel_rfl) (by kernel_rfl) ?_;apply AN
    ·intro V W K A hW hd hA hK
     simp only[pA]at hA;clear hd;obtain rfl:=hA;go_wp2;exact hK.out _ brf
    apply AN
    ·intro V W K A hW hd hA hK
     have d0:V 0=_:=hd 0 (by kernel_rfl);simp only[pA,d0]at hA;clear hd d0;obtain rfl:=hA;have e2:=AK (AL hW hbox3.out hbl3) 2 rfl;go_wp2;exact hK.out _ brf
    apply AN
    ·intro V W K A hW hd hA hK
     simp only[pA]at hA;clear hd;obtain rfl:=hA;go_wp2;exact hK.out _ brf
    apply AN
    ·intro V W K A hW hd hA hK
     simp only[pA]at hA;clear hd;obtain rfl:=hA;go_wp2;exact hK.out _ brf
    apply AN
    ·intro V W K A hW hd hA hK
     have d2:V 2=_:=hd 2 (by kernel_rfl);have d3:V 3=_:=hd 3 (by kernel_rfl);simp only[pA,d2,d3]at hA;clear hd d2 d3;obtain rfl:=hA;go_wp2;exact hK.out _ brf
    apply AN
    ·intro V W K A hW hd hA hK
     have d4:V 4=_:=hd 4 (by kernel_rfl);simp only[pA,d4]at hA;clear hd d4;obtain rfl:=hA;have y0:=(hLrow.out.below (hbw3.trans (hW.mono hbw3.size)) hgL).cell HLK.out;go_wp2;exact hK.out _ brf
    apply AN
    ·intro V W K A hW hd hA hK
     have d1:V 1=_:=hd 1 (by kernel_rfl);have d5:V 5=_:=hd 5 (by kernel_rfl);simp only[pA,d1,d5]at hA;clear hd d1 d5;obtain rfl:=hA;go_wp2;exact hK.out _ brf
    apply AN
    ·intro V W K A hW hd hA hK
     have d6:V 6=_:=hd 6 (by kernel_rfl);simp only[pA,d6]at hA;clear hd d6;obtain rfl:=hA;have hq:=hcx.below (hbw3.trans (hW.mono hbw3.size)) hbs;unfold CpAt at hq;obtain⟨q0,q1,q2,q3,q4,q5,q6⟩:=hq;go_wp2;exact hK.out _ brf
    intro V W A hW hS hA;have d0:V 0=_:=hS 0 (by omega);have d1:V 1=_:=hS 1 (by omega);have d2:V 2=_:=hS 2 (by omega);have d3:V 3=_:=hS 3 (by omega);have d4:V 4=_:=hS 4 (by omega);have d5:V 5=_:=hS 5 (by omega);have d6:V 6=_:=hS 6 (by omega);have d7:V 7=_:=hS 7 (by omega);simp only[pA,d0,d1,d2,d3,d4,d5,d6,d7]at hA;clear hS d0 d1 d2 d3 d4 d5 d6 d7;obtain rfl:=hA;simp only[List.drop_succ_cons,List.drop_zero];have hbest4:Hid _:=AL hW hbest3.out hpl3;refine CD rfl 35 (.tmp 7) (.tmp 46) rfl p 0 (cpV x) rfl rfl 35 (cpV best) hbest4.out DW (AG 7) (JZ x) ?_;intro w5 hrow5 hsz5 hb5;have hbest5:Hid (Bl w5 p (cpV x) 35):=hrow5;have hbW5:Below (w.heap.size+1+1) w3 w5:=(hW.mono (by omega)).trans (hb5.mono (by omega));have hbox5:Hid _:=AL hbW5 hbox3.out (by omega);have hsv5:Hid _:=AL hbW5 hsv3.out (by omega);have hbw5:Below w.heap.size w w5:=hbw3.trans (hbW5.mono (by omega));clear hW hb5 hsz5 hrow5 hbest4 hbW5 hbox3 hsv3 hbest3 hbw3;go_wp2
    go_roundw
    case rel=>exact⟨k+1,x,by omega,by omega,by go_num,by unfold Hid;rw[HST.out];rfl,hbw5,hbox5,hsv5,hbest5⟩
    case measure=>simp[intOf];omega
  ·have z1:=AK hbest.out 1 rfl
   have z2:=AK hbest.out 2 rfl;go_wp2;go_ret;have hkl:k=L.length:=by omega
   subst hkl;refine⟨wr.heap.size,1,rfl,hb.size,⟨rfl,AG _,#[.int .i64 best.number,.int .i64 best.version],heap_alloc_new wr _,rfl,?_⟩,hb.alloc hb.size _⟩;rw[<-HBT.out];rfl
end
end Go.Proofs.Ytbceafpodamnfaa
