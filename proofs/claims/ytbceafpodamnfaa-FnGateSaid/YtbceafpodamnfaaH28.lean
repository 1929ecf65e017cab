import Derived.Test.YtbceafpodamnfaaH27
set_option linter.all false
set_option maxHeartbeats 8000000
set_option maxRecDepth 100000
namespace Go.Proofs.Ytbceafpodamnfaa
attribute [local simp] svV cpV zbV czV aaV ctZ ad bkV ctV acV evV
attribute [local go_sem] svV cpV zbV czV aaV ctZ ad bkV ctV acV evV
open Go.RowKit Go.Sort
theorem EI{α:Type}(p:α->Bool)(L:List α){k:Nat}{x:α}(h:L[k]?=some x):(L.take (k+1)).filter p=(L.take k).filter p++(if p x then [x] else []):=by
 rw[List.take_add_one,h,List.filter_append]
 by_cases hp:p x<;>simp[hp]
theorem DY{α:Type}(p:α->Bool)(L:List α)(k:Nat):((L.take k).filter p).length<=k:=AH (List.length_filter_le _ _) (by simp;omega)
def Jg(B:Bk)(i:Nat):Bool:=B4 B (cpD B i).service (cpD B i).number
theorem LC(B:Bk)(sv:ByteArray)(num:Int)(a1 a2 a3:Option Addr)(c1 c2 c3:Nat)(w:World)(hS:B.small)(hB:BkAt w a1 a2 a3 B)(hV:Valid B):
  Calls Try.prog 27 #[.agg #[.int .i64 B.now,.slice a1 B.svcs.length c1,.slice a2 B.cps.length c2,.slice a3 B.bts.length c3],.string sv,.int .i64 num] w λe w'=>e=.returned (.bool (B4 B sv num))/\Below w.heap.size w w':=by
 cases hf:B.cps.find? (isC sv num) with
 |none=>
  have e:B4 B sv num=false:=by unfold B4;rw[hf,Bool.and_false]
  rw[e];exact Gi B sv num a1 a2 a3 c1 c2 c3 w hS hB hf
 |some c=>
  have hcm:=List.mem_of_find?_eq_some hf;obtain⟨s,hs,_⟩:=hV.svc hcm;obtain⟨hcs,_⟩:=isC_iff.1 (List.find?_some hf);rw[hcs]at hs;have hi:=hV.svcIn (Du hs);have e:B4 B sv num=Gc B s sv c:=by unfold B4;rw[validB_iff.2 hV,hf,hs];rfl
  rw[e];exact FK B sv num c s a1 a2 a3 c1 c2 c3 w hS hB hf hs hi.want0 hi.want1 hi.down0 hi.down1
theorem Ol(B:Bk)(L:List Nat)(gL capL:Nat)(a1 a2 a3:Option Addr)(c1 c2 c3:Nat)(w:World)(hS:B.small)(hV:Valid B)(hB:BkAt w a1 a2 a3 B)(hL:∀i∈L,i<B.cps.length)(hLn:L.length<=1048576)(hLr:RowIs w 3 1 gL L.length capL (Aw L)):
  Calls Try.prog 113 #[.agg #[.int .i64 B.now,.slice a1 B.svcs.length c1,.slice a2 B.cps.length c2,.slice a3 B.bts.length c3],.slice (some ⟨gL,0,none⟩) L.length capL] w λe w'=>∃g cap,e=.returned (.slice (some ⟨g,0,none⟩) (L.filter (Jg B)).length cap)/\w.heap.size<=g/\RowIs w' 3 1 g (L.filter (Jg B)).length cap (Aw (L.filter (Jg B)))/\Below w.heap.size w w':=by
 obtain⟨t0,t1,t2⟩:=Bh w (.cells (bkV B a1 c1 a2 c2 a3 c3) 27) (.cells #[] 3);have T0:Hid _:=t0;have T1:Hid _:=t1;have hLrow:Hid (RowIs w 3 1 gL L.length capL (Aw L)):=hLr;have hgL:gL<w.heap.size:=hLr.lt;clear t0 t1 t2 hLr;have hl:=hS;obtain⟨hl1,hl2,hl3⟩:=hl;go_enter Try.func113,Try.ntmps113;go_wp2
 go_loopw [5,6] (λov iv wr=>∃k n g cap:Nat,k<=L.length/\iv=.int .i64 k/\ov=.slice (some ⟨g,0,none⟩) n cap/\Hid (n=((L.take k).filter (Jg B)).length)/\w.heap.size<g/\Below w.heap.size w wr/\Hid (Bl wr (w.heap.size) (bkV B a1 c1 a2 c2 a3 c3) 27)/\Hid (RowIs wr 3 1 g n cap (Aw ((L.take k).filter (Jg B))))) (λ_ i _=>L.length - (intOf i).toNat)
 case atStart=>exact⟨0,0,w.heap.size+1,0,by omega,rfl,rfl,rfl,by omega,((Below.refl _ _).alloc (AG _) _).alloc (by simp) _,T0,⟨rfl,AG _,#[],T1.out,rfl,rfl⟩⟩
 case round=>
  obtain⟨k,n,g,cap,hk,rfl,rfl,HNN,hg,hb,hbox,hrow⟩:=hrel
  by_cases hlt:k<L.length
  ·obtain⟨i,hik⟩:∃i,L[k]?=some i:=⟨L[k],by simp[hlt]⟩
   have hilt:=hL i (AE hik);have HLK:Hid _:=Ej hik;have hne:B.cps≠[]:=by intro h;rw[h]at hilt;simp at hilt
   have hB0:=hB;obtain⟨b,off,ea,hbs,hat⟩:=hB.2.1 hne;subst ea;obtain⟨s,hs⟩:∃s,cpD B i=s:=⟨_,rfl⟩;have hcx:=hat i s (by rw[Eo hilt,hs]);have hnk:n<=k:=by rw[HNN.out];exact DY _ _ _
   obtain⟨m,HM⟩:∃m,Hid (B4 B s.service s.number=m):=⟨_,rfl⟩
   have HF:Hid ((L.take (k+1)).filter (Jg B)=(L.take k).filter (Jg B)++(if m then [i] else [])):=by
    unfold Hid;rw[EI _ L hik];unfold Jg;rw[hs,HM.out]
   have HC:Hid (∀W:World,BkAt W a1 (some ⟨b,off,none⟩) a3 B->Calls Try.prog 27 #[.agg #[.int .i64 B.now,.slice a1 B.svcs.length c1,.slice (some ⟨b,off,none⟩) B.cps.length c2,.slice a3 B.bts.length c3],.string s.service,.int .i64 s.number] W λe w'=>e=.returned (.bool m)/\Below W.heap.size W w'):=λW h=>by
    rw[<-HM.out];exact LC B s.service s.number a1 _ a3 c1 c2 c3 W hS h hV
   have hbl:w.heap.size<wr.heap.size:=(AB hbox.out).1;have hgl:g<wr.heap.size:=hrow.out.lt;have hz:=hb.size;clear hik hne hat hs HM;go_wp2;refine AX 19 (by kernel_rfl) (by kernel_rfl) ?_;apply AN
   ·intro V W K A hW hd hA hK
    simp only[pA]at hA;clear hd;obtain rfl:=hA;obtain⟨e0,e1,e2,e3⟩:=c4 (AL hW hbox.out hbl);go_wp2;exact hK.out _ brf
   apply AN
   ·intro V W K A hW hd hA hK
    simp only[pA]at hA;clear hd;obtain rfl:=hA;go_wp2;exact hK.out _ brf
   apply AN
   ·intro V W K A hW hd hA hK
    have d1:V 1=_:=hd 1 (by kernel_rfl);simp only[pA,d1]at hA;clear hd d1;obtain rfl:=hA;have e2:=AK (AL hW hbox.out hbl) 2 rfl;go_wp2;exact hK.out _ brf
   apply AN
   ·intro V W K A hW hd hA hK
    simp only[pA]at hA;clear hd;obtain rfl:=hA;go_wp2;exact hK.out _ brf
   apply AN
   ·intro V W K A hW hd hA hK
    simp only[pA]at hA;clear hd;obtain rfl:=hA;go_wp2;exact hK.out _ brf
   apply AN
   ·intro V W K A hW hd hA hK
    have d3:V 3=_:=hd 3 (by kernel_rfl);have d4:V 4=_:=hd 4 (by kernel_rfl);simp only[pA,d3,d4]at hA;clear hd d3 d4;obtain rfl:=hA;go_wp2;exact hK.out _ brf
   apply AN
   ·intro V W K A hW hd hA hK
    have d5:V 5=_:=hd 5 (by kernel_rfl);simp only[pA,d5]at hA;clear hd d5;obtain rfl:=hA;have y0:=(hLrow.out.below (hb.trans (hW.mono hb.size)) hgL).cell HLK.out;go_wp2;exact hK.out _ brf
   apply AN
   ·intro V W K A hW hd hA hK
    have d2:V 2=_:=hd 2 (by kernel_rfl);have d6:V 6=_:=hd 6 (by kernel_rfl);simp only[pA,d2,d6]at hA;clear hd d2 d6;obtain rfl:=hA;go_wp2;exact hK.out _ brf
   apply AN
   ·intro V W K A hW hd hA hK
    have d7:V 7=_:=hd 7 (by kernel_rfl);simp only[pA,d7]at hA;clear hd d7;obtain rfl:=hA;go_wp2;exact hK.out _ brf
   apply AN
   ·intro V W K A hW hd hA hK
    have d8:V 8=_:=hd 8 (by kernel_rfl);simp only[pA,d8]at hA;clear hd d8;obtain rfl:=hA;have hq:=hcx.below (hb.trans (hW.mono hb.size)) hbs;unfold CpAt at hq;obtain⟨q0,q1,q2,q3,q4,q5,q6⟩:=hq;go_wp2;exact hK.out _ brf
   apply AN
   ·intro V W K A hW hd hA hK
    simp only[pA]at hA;clear hd;obtain rfl:=hA;go_wp2;exact hK.out _ brf
   apply AN
   ·intro V W K A hW hd hA hK
    have d10:V 10=_:=hd 10 (by kernel_rfl);simp only[pA,d10]at hA;clear hd d10;obtain rfl:=hA;have e2:=AK (AL hW hbox.out hbl) 2 rfl;go_wp2;exact hK.out _ brf
   apply AN
   ·intro V W K A hW hd hA hK
    simp only[pA]at hA;clear hd;obtain rfl:=hA;go_wp2;exact hK.out _ brf
   apply AN
   ·intro V W K A hW hd hA hK
    simp only[pA]at hA;clear hd;obtain rfl:=hA;go_wp2;exact hK.out _ brf
   apply AN
   ·intro V W K A hW hd hA hK
    have d12:V 12=_:=hd 12 (by kernel_rfl);have d13:V 13=_:=hd 13 (by kernel_rfl);simp only[pA,d12,d13]at hA;clear hd d12 d13;obtain rfl:=hA;go_wp2;exact hK.out _ brf
   apply AN
   ·intro V W K A hW hd hA hK
    have d14:V 14=_:=hd 14 (by kernel_rfl);simp only[pA,d14]at hA;clear hd d14;obtain rfl:=hA;have y0:=(hLrow.out.below (hb.trans (hW.mono hb.size)) hgL).cell HLK.out;go_wp2;exact hK.out _ brf
   apply AN
   ·intro V W K A hW hd hA hK
    have d11:V 11=_:=hd 11 (by kernel_rfl);have d15:V 15=_:=hd 15 (by kernel_rfl);simp only[pA,d11,d15]at hA;clear hd d11 d15;obtain rfl:=hA;go_wp2;exact hK.out _ brf
   apply AN
   ·intro V W K A hW hd hA hK
    have d16:V 16=_:=hd 16 (by kernel_rfl);simp only[pA,d16]at hA;clear hd d16;obtain rfl:=hA;go_wp2;exact hK.out _ brf
   apply AN
   ·intro V W K A hW hd hA hK
    have d17:V 17=_:=hd 17 (by kernel_rfl);simp only[pA,d17]at hA;clear hd d17;obtain rfl:=hA;have hq:=hcx.below (hb.trans (hW.mono hb.size)) hbs;unfold CpAt at hq;obtain⟨q0,q1,q2,q3,q4,q5,q6⟩:=hq;go_wp2;exact hK.out _ brf
   intro V W A hW hS hA;have d0:V 0=_:=hS 0 (by omega);have d1:V 1=_:=hS 1 (by omega);have d2:V 2=_:=hS 2 (by omega);have d3:V 3=_:=hS 3 (by omega);have d4:V 4=_:=hS 4 (by omega);have d5:V 5=_:=hS 5 (by omega);have d6:V 6=_:=hS 6 (by omega);have d7:V 7=_:=hS 7 (by omega);have d8:V 8=_:=hS 8 (by omega);have d9:V 9=_:=hS 9 (by omega);have d10:V 10=_:=hS 10 (by omega);have d11:V 11=_:=hS 11 (by omega);have d12:V 12=_:=hS 12 (by omega);have d13:V 13=_:=hS 13 (by omega);have d14:V 14=_:=hS 14 (by omega);have d15:V 15=_:=hS 15 (by omega);have d16:V 16=_:=hS 16 (by omega);have d17:V 17=_:=hS 17 (by omega);have d18:V 18=_:=hS 18 (by omega);simp only[pA,d0,d1,d2,d3,d4,d5,d6,d7,d8,d9,d10,d11,d12,d13,d14,d15,d16,d17,d18]at hA;clear hS d0 d1 d2 d3 d4 d5 d6 d7 d8 d9 d10 d11 d12 d13 d14 d15 d16 d17 d18;obtain rfl:=hA;simp only[List.drop_succ_cons,List.drop_zero];have hbW:=hb.trans (hW.mono hb.size)
   go_wp2_with fail
   refine(HC.out _ (hB0.below hbW)).mono ?_;rintro e w3 ⟨rfl,hb3⟩;have hbWr:Below wr.heap.size wr w3:=hW.trans (hb3.mono hW.size);have hbw3:=hb.trans (hbWr.mono hb.size);have hbox3:Hid _:=AL hbWr hbox.out hbl;have hrow3:Hid (RowIs w3 3 1 g n cap (Aw ((L.take k).filter (Jg B)))):=hrow.out.below hbWr hgl;have hz3:=hbWr.size;have hLr3:Hid (RowIs w3 3 1 gL L.length capL (Aw L)):=hLrow.out.below hbw3 hgL;clear hW hb3 HC hbW hrow hbox;cases m
   ·go_wp2
    go_roundw
    case rel=>exact⟨k+1,n,g,cap,by omega,by go_num,rfl,by rw[HF.out];simpa using HNN,hg,hbw3,hbox3,by rw[HF.out];simpa using hrow3⟩
    case measure=>simp[intOf];omega
   ·have y0:=hLr3.out.cell HLK.out
    have hgl3:g<w3.heap.size:=by omega
    go_wp2_with (at_builtin;refine AV rfl (.tmp 34) (.tmp 39) 122 rfl 3 _ 1 8 Try.underlying122 EL rfl g n cap _ rfl (hrow3.out.below (AO w3 _) hgl3) ⟨w3.heap.size,0,none⟩ 1 1 [.int .i64 (i:Int)] rfl rfl (BU (heap_alloc_new w3 _)) (by simp[Value.oneCell']) (by unfold maxLen;omega) (by omega) ?_;intro g' cap' w4 hg' hrow' hgr)
    have hsz:(w3.alloc (.cells #[.int .i64 (i:Int)] 3)).heap.size=w3.heap.size+1:=by show(w3.heap.push _).size=_;simp
    have hb4:Below w.heap.size w w4:=(hbw3.alloc hbw3.size _).trans (Ab hgr (by omega) (by rw[hsz];omega));have hbox4:Hid _:=(hgr.block w.heap.size (by rw[hsz];omega) (λe=>by have:=Option.some.inj e;omega)).trans (AL (AO w3 (.cells #[.int .i64 (i:Int)] 3)) hbox3.out (by omega));rw[hsz]at hg'
    go_roundw
    case rel=>exact⟨k+1,n+1,g',cap',by omega,by go_num,rfl,by unfold Hid;rw[HF.out,List.length_append,<-HNN.out];rfl,by omega,hb4,hbox4,by rw[HF.out];simp only[if_true];rw[FV];exact hrow'⟩
    case measure=>simp[intOf];omega
  ·go_wp2
   go_ret;have hkl:k=L.length:=by omega
   subst hkl;have hn:=HNN.out;rw[List.take_length]at hrow hn;subst hn;exact⟨g,cap,rfl,by omega,hrow.out,hb⟩
end Go.Proofs.Ytbceafpodamnfaa
