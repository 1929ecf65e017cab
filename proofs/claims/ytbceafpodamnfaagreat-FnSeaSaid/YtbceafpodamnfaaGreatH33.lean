import Derived.Test.YtbceafpodamnfaaGreatH32
set_option linter.all false
set_option maxHeartbeats 16000000
set_option maxRecDepth 100000
namespace Go.Proofs.YtbceafpodamnfaaGreat
section
open Go.RowKit Go.Sort
theorem Ej(x y:Bt)(w:World):Calls Tryz.prog 81 #[.agg #[.string x.name,.bool x.drain],.agg #[.string y.name,.bool y.drain]] w λe w'=>e=.returned (.int .i64 (Dz x.name y.name))/\Below w.heap.size w w':=by
 obtain⟨W0,hW0,t0,t1,hz0,hz0',hb0⟩:=C8 w (.cells #[.string x.name,.bool x.drain] 51) (.cells #[.string y.name,.bool y.drain] 51);have e0:=AJ t0 0 rfl;have e1:=AJ t1 0 rfl;clear t0 t1;go_enter Tryz.func81,Tryz.ntmps81
 go_upto_region 1 with fail
 clear hW0
 go_wp2_with fail
 refine(Jc x.name y.name W0).mono ?_;rintro e _ ⟨rfl,rfl⟩;clear e0 e1;go_wp2;go_ret;exact⟨rfl,hb0⟩
theorem Ga(x y:Svc)(w:World):Calls Tryz.prog 74 #[.agg #[.string x.name,.int .i64 x.version,.bool x.gone,.int .i64 x.image,.int .i64 x.want,.int .i64 x.down,.int .i64 x.over,.int .i64 x.next,.int .i64 x.per,.int .i64 x.least,.int .i64 x.most,.int .i64 x.load,.int .i64 x.cool],.agg #[.string y.name,.int .i64 y.version,.bool y.gone,.int .i64 y.image,.int .i64 y.want,.int .i64 y.down,.int .i64 y.over,.int .i64 y.next,.int .i64 y.per,.int .i64 y.least,.int .i64 y.most,.int .i64 y.load,.int .i64 y.cool]] w λe w'=>e=.returned (.int .i64 (Dz x.name y.name))/\Below w.heap.size w w':=by
 obtain⟨W0,hW0,t0,t1,hz0,hz0',hb0⟩:=C8 w (.cells #[.string x.name,.int .i64 x.version,.bool x.gone,.int .i64 x.image,.int .i64 x.want,.int .i64 x.down,.int .i64 x.over,.int .i64 x.next,.int .i64 x.per,.int .i64 x.least,.int .i64 x.most,.int .i64 x.load,.int .i64 x.cool] 29) (.cells #[.string y.name,.int .i64 y.version,.bool y.gone,.int .i64 y.image,.int .i64 y.want,.int .i64 y.down,.int .i64 y.over,.int .i64 y.next,.int .i64 y.per,.int .i64 y.least,.int .i64 y.most,.int .i64 y.load,.int .i64 y.cool] 29);have e0:=AJ t0 0 rfl;have e1:=AJ t1 0 rfl;clear t0 t1;go_enter Tryz.func74,Tryz.ntmps74
 go_upto_region 1 with fail
 clear hW0
 go_wp2_with fail
 refine(Jc x.name y.name W0).mono ?_;rintro e _ ⟨rfl,rfl⟩;clear e0 e1;go_wp2;go_ret;exact⟨rfl,hb0⟩
theorem Tryz.undSvcsI:Tryz.prog.underlying 23=some (.slice (Tryz.prog.elem 23)):=by kernel_rfl
theorem Tryz.infoElemSvcI:(Tryz.prog.info? (Tryz.prog.elem 23)).map (·.size)=some 13:=by kernel_rfl
theorem Tryz.infosSvcI:(Tryz.prog.info? 29).map (·.size)=some 13:=by kernel_rfl
theorem insS_any(l:List Svc)(x:Svc)(ao:Option Addr)(n cap i N vb:Nat)(w:World)(HN:Hid (l.length=n))(hl:n<=1048576)(hi:i<=n)(hN:N<=w.heap.size)(hR:RowN w N 29 13 ao n cap (AY l))(hv:w.heap[vb]?=some (.cells #[.string x.name,.int .i64 x.version,.bool x.gone,.int .i64 x.image,.int .i64 x.want,.int .i64 x.down,.int .i64 x.over,.int .i64 x.next,.int .i64 x.per,.int .i64 x.least,.int .i64 x.most,.int .i64 x.load,.int .i64 x.cool] 29 (0,0)))(hvb:ao≠some ⟨vb,0,none⟩):
  Calls Tryz.prog 95 #[.slice ao n cap,.int .i64 i,.slice (some ⟨vb,0,none⟩) 1 1] w λe w'=>∃bo k,e=.returned (.slice bo (n+1) k)/\RowN w' N 29 13 bo (n+1) k (AY (l.take i++x::l.drop i))/\(∀q,q<w.heap.size->ao≠some ⟨q,0,none⟩->w'.heap[q]?=w.heap[q]?)/\Below N w w':=by
 have hvl:=(AB hv).1;have HV:Hid (w.heap[vb]?=some (.cells #[.string x.name,.int .i64 x.version,.bool x.gone,.int .i64 x.image,.int .i64 x.want,.int .i64 x.down,.int .i64 x.over,.int .i64 x.next,.int .i64 x.per,.int .i64 x.least,.int .i64 x.most,.int .i64 x.load,.int .i64 x.cool] 29 (0,0))):=hv;obtain⟨XS,hXS⟩:∃q,q=(#[.string x.name,.int .i64 x.version,.bool x.gone,.int .i64 x.image,.int .i64 x.want,.int .i64 x.down,.int .i64 x.over,.int .i64 x.next,.int .i64 x.per,.int .i64 x.least,.int .i64 x.most,.int .i64 x.load,.int .i64 x.cool]:Array Value).toList:=⟨_,rfl⟩;have HXL:Hid (XS.length=13):=by unfold Hid;rw[hXS];rfl
 have HX1:Hid (∀u∈XS,u.oneCell'=true):=by unfold Hid;rw[hXS];simp[Value.oneCell']
 have HVL:Hid (AY (l.take i++x::l.drop i)=AY (l.take i)++XS++AY (l.drop i)):=by unfold Hid;rw[hXS];simp[AY,Svc.cells]
 have HNW:Hid (∀W:World,W.heap[vb]?=some (.cells #[.string x.name,.int .i64 x.version,.bool x.gone,.int .i64 x.image,.int .i64 x.want,.int .i64 x.down,.int .i64 x.over,.int .i64 x.next,.int .i64 x.per,.int .i64 x.least,.int .i64 x.most,.int .i64 x.load,.int .i64 x.cool] 29 (0,0))->∀j u,XS[j]?=some u->W.cell? ((⟨vb,0,none⟩:Addr).add j)=some u):=λW h=>by rw[hXS];exact DU h
 have HX0:Hid (AY [x]=XS):=by unfold Hid;rw[hXS];simp[AY,Svc.cells]
 clear hv hXS;rcases hR with⟨rfl,rfl,rfl,hnil⟩|⟨g,rfl,hNg,hr⟩
 ·obtain rfl:i=0:=by omega
  obtain rfl:l=[]:=List.length_eq_zero_iff.1 HN.out;clear hnil hvb;go_enter Tryz.func95,Tryz.ntmps95
  go_wp2_with (at_builtin;refine BE rfl (.tmp 23) (.tmp 24) 23 rfl 29 _ 13 112 Tryz.underlying23 Tryz.infoSvcI rfl (by omega) rfl (some ⟨vb,0,none⟩) 1 1 XS rfl (by rw[HXL.out]) (λ_=>⟨_,rfl,HNW.out _ HV.out⟩) HX1.out (by unfold maxLen;omega) (by omega) (λh=>absurd h (by omega)) (λ_=>?_);intro g k w1 hg hr hb)
  have HRX:Hid (RowIs w1 29 13 g 1 k XS):=hr;clear hr;go_ret;exact⟨some ⟨g,0,none⟩,k,rfl,.inr ⟨g,rfl,by omega,by have h:=HRX.out;rw[<-HX0.out]at h;simpa using h⟩,λq hq _=>hb.block q hq,hb.mono' hN⟩
 have HR:Hid (RowIs w 29 13 g n cap (AY l)):=hr;have hgl:=hr.lt;have hnc:=hr.2.1;have hvg:vb≠g:=λe=>hvb (by rw[e])
 clear hvb hr;have HTL:Hid ((l.take i).length=i):=by unfold Hid;rw[List.length_take,HN.out];omega
 have HDL:Hid ((l.drop i).length=n - i):=by unfold Hid;rw[List.length_drop,HN.out]
 by_cases hin:i=n
 ·subst hin
  have HTD:Hid (l.take i=l/\l.drop i=[]):=⟨List.take_of_length_le (by rw[HN.out];omega),List.drop_eq_nil_of_le (by rw[HN.out];omega)⟩;go_enter Tryz.func95,Tryz.ntmps95
  go_upto_region 2 with(refine AU rfl 23 (.tmp 10) (some (.tmp 11)) none none rfl Tryz.undSvcsI 13 Tryz.infoElemSvcI g 0 i cap i i cap rfl (some (.int .i64 (i:Int))) none none rfl rfl rfl (λw=>run_slice_l w _ _ _ _ Tryz.undSvcsI .i64 (i:Int) (by omega) (by omega)) ?_;intro off _)
  go_wp2_with (at_builtin;refine CG rfl (.tmp 23) (.tmp 24) 23 rfl 29 _ 13 112 Tryz.underlying23 Tryz.infoSvcI rfl g i cap _ rfl HR.out ⟨vb,0,none⟩ 1 1 XS rfl (by rw[HXL.out]) (HNW.out _ HV.out) HX1.out (by unfold maxLen;omega) (by omega) ?_;intro g' k w1 hg' hr hgr;have HRX:Hid (RowIs w1 29 13 g' (i+1) k (AY l++XS)):=hr;have HGR:Hid (∀q,q<w.heap.size->q≠g->w1.heap[q]?=w.heap[q]?):=(λq hq hne=>hgr.block q hq (λe=>hne (Option.some.inj e)));have hbo:=DD hgr hNg hN;clear hr hgr)
  go_ret;exact⟨some ⟨g',0,none⟩,k,rfl,.inr ⟨g',rfl,by rcases hg' with h|h<;>omega,by rw[HVL.out,HTD.out.1,HTD.out.2];simpa [AY] using HRX.out⟩,λq hq hne=>HGR.out q hq (λe=>hne (by rw[e])),hbo⟩
 have hlt:i<n:=by omega
 clear hin;have HSRC:Hid (∀W:World,RowIs W 29 13 g n cap (AY l)->∀off,off=i*13->∀j u,(AY (l.drop i))[j]?=some u->W.cell? ((⟨g,off,none⟩:Addr).add j)=some u):=λW h off ho=>by rw[ho];exact h.srcDrop (c:=Svc.cells) (λ_=>rfl) i
 have HFT:Hid (AY (l.take i)=(AY l).take (i*13)):=Dn (c:=Svc.cells) (λ_=>rfl) l i
 by_cases hroom:n+1<=cap
 ·obtain⟨cur,hgc,hcs,htk⟩:=HR.out.2.2
  have HGC:Hid (w.heap[g]?=some (.cells cur 29 (0,0))):=hgc;have HCS:Hid (cur.size=cap*13/\cur.toList.take (n*13)=AY l):=⟨hcs,htk⟩;have HCL:Hid (cur.toList.length=cur.size):=Array.length_toList;have hfitc:(n+1)*13<=cur.size:=by rw[hcs];exact Nat.mul_le_mul_right _ hroom
  clear hgc hcs htk;obtain⟨dd,hdd⟩:∃q,n - i=q:=⟨_,rfl⟩;have hd1:n<=i+dd:=by omega
  have hd1':i+dd<=n:=by omega
  obtain⟨ss,hss⟩:∃q,n+1 - i=q:=⟨_,rfl⟩;have hs1:n+1<=i+ss:=by omega
  have hs1':i+ss<=n+1:=by omega
  have HDD:Hid ((l.drop i).length=dd):=by unfold Hid;rw[HDL.out];exact hdd
  have hd2:0<dd:=by omega
  clear hdd hss
  have hov:∀off' lb cb,(callFunc 102 #[.slice (some ⟨vb,0,none⟩) 1 1,.slice (some ⟨g,off',none⟩) lb cb]).run Tryz.prog w=.ok (.value (.bool false)) w:=λoff' lb cb=>by
   rw[run_callFunc_extern Tryz.func102 (by kernel_rfl) (by kernel_rfl) (by kernel_rfl) (e:=Extern.SlicesOverlaps.overlaps #[23,23] #[4]) (by kernel_rfl),
    Lib.run_overlaps_apart w 23 4 29 Tryz.underlying23 13 (λ_=>by kernel_rfl) ⟨vb,0,none⟩ ⟨g,off',none⟩ 1 1 lb cb hvg 29 29 13 cur.size (by simp[World.shape?,HV.out]) (by simp[World.shape?,HGC.out]) (by omega) (D1 HV.out 0) (D1 HV.out 13)]
   rfl
  have HOV:Hid _:=hov;clear hov;go_enter Tryz.func95,Tryz.ntmps95
  go_upto_region 2 with(refine AU rfl 23 (.tmp 10) (some (.tmp 11)) none none rfl Tryz.undSvcsI 13 Tryz.infoElemSvcI g 0 n cap i n cap rfl (some (.int .i64 (i:Int))) none none rfl rfl rfl (λw=>run_slice_l w _ _ _ _ Tryz.undSvcsI .i64 (i:Int) (by omega) (by omega)) ?_;intro off0 _)
  go_upto_region 14 with fail
  have hov:=HOV.out
  go_upto_region 15 with(first
   |(refine AU rfl 23 (.tmp 62) (some (.tmp 65)) none none rfl Tryz.undSvcsI 13 Tryz.infoElemSvcI g 0 (n+1) cap (i+1) (n+1) cap rfl (some (.int .i64 ((i:Int)+1))) none none rfl rfl rfl (λw=>run_slice_l w _ _ _ _ Tryz.undSvcsI .i64 ((i+1:Nat):Int) (by omega) (by omega)) ?_;intro off1 _)
   |(simp only[hov]))
  clear hov;refine An 8 (by kernel_rfl) (by kernel_rfl) ?_;apply AQ
  ·intro V W K A hW hd hA hK
   simp only[pA]at hA;clear hd;obtain rfl:=hA;go_wp2;exact hK.out _ brf
  apply AQ
  ·intro V W K A hW hd hA hK
   simp only[pA]at hA;clear hd;obtain rfl:=hA;go_wp2;exact hK.out _ brf
  apply AQ
  ·intro V W K A hW hd hA hK
   simp only[pA]at hA;clear hd;obtain rfl:=hA;go_wp2;exact hK.out _ brf
  apply AQ
  ·intro V W K A hW hd hA hK
   have d1:V 1=_:=hd 1 (by kernel_rfl);have d2:V 2=_:=hd 2 (by kernel_rfl);simp only[pA,d1,d2]at hA;clear hd d1 d2;obtain rfl:=hA;go_wp2;exact hK.out _ brf
  refine Aq (λvv (_:World)=>∃off,vv=.slice (some ⟨g,off,none⟩) dd (cap - (i+1))/\(off=(i+1)*13\/cap=i+1)) (λ_ _ _ h _=>h) ?_ ?_
  ·intro V W K A hW hd hA hK
   have d0:V 0=_:=hd 0 (by kernel_rfl);have d3:V 3=_:=hd 3 (by kernel_rfl);simp only[pA,d0,d3]at hA;clear hd d0 d3;obtain rfl:=hA;refine AU rfl 23 (.tmp 69) (some (.tmp 72)) none none rfl Tryz.undSvcsI 13 Tryz.infoElemSvcI g 0 (n+1) cap (i+1) (n+1) cap rfl (some (.int .i64 ((i:Int)+1))) none none rfl rfl rfl (λw=>run_slice_l w _ _ _ _ Tryz.undSvcsI .i64 ((i+1:Nat):Int) (by omega) (by omega)) ?_;intro off hoff;rw[show(n+1) - (i+1)=dd by omega];go_wp2;exact hK.out _ _ brf ⟨off,rfl,by omega⟩
  apply AQ
  ·intro V W K A hW hd hA hK
   simp only[pA]at hA;clear hd;obtain rfl:=hA;go_wp2;exact hK.out _ brf
  apply AQ
  ·intro V W K A hW hd hA hK
   simp only[pA]at hA;clear hd;obtain rfl:=hA;go_wp2;exact hK.out _ brf
  refine Aq (λvv (_:World)=>∃off,vv=.slice (some ⟨g,off,none⟩) ss (cap - i)/\(off=i*13\/cap=i)) (λ_ _ _ h _=>h) ?_ ?_
  ·intro V W K A hW hd hA hK
   have d5:V 5=_:=hd 5 (by kernel_rfl);have d6:V 6=_:=hd 6 (by kernel_rfl);simp only[pA,d5,d6]at hA;clear hd d5 d6;obtain rfl:=hA;refine AU rfl 23 (.tmp 74) (some (.tmp 75)) none none rfl Tryz.undSvcsI 13 Tryz.infoElemSvcI g 0 (n+1) cap i (n+1) cap rfl (some (.int .i64 (i:Int))) none none rfl rfl rfl (λw=>run_slice_l w _ _ _ _ Tryz.undSvcsI .i64 (i:Int) (by omega) (by omega)) ?_;intro off hoff;rw[show(n+1) - i=ss by omega];go_wp2;exact hK.out _ _ brf ⟨off,rfl,by omega⟩
  intro V W A hW hS hA;have d0:V 0=_:=hS 0 (by omega);have d1:V 1=_:=hS 1 (by omega);have d2:V 2=_:=hS 2 (by omega);have d3:V 3=_:=hS 3 (by omega);have d4:(λvv (_:World)=>∃off,vv=.slice (some ⟨g,off,none⟩) dd (cap - (i+1))/\(off=(i+1)*13\/cap=i+1)) (V 4) W:=hS 4 (by omega);have d5:V 5=_:=hS 5 (by omega);have d6:V 6=_:=hS 6 (by omega);have d7:(λvv (_:World)=>∃off,vv=.slice (some ⟨g,off,none⟩) ss (cap - i)/\(off=i*13\/cap=i)) (V 7) W:=hS 7 (by omega);simp only[pA,d0,d1,d2,d3,d5,d6]at hA;clear hS d0 d1 d2 d3 d5 d6;generalize V 4=x4 at d4 hA;generalize V 7=x7 at d7 hA;obtain rfl:=hA;simp only[List.drop_succ_cons,List.drop_zero];obtain⟨off4,rfl,h4⟩:=d4;obtain⟨off7,rfl,h7⟩:=d7;have HGW:Hid (W.heap[g]?=some (.cells cur 29 (0,0))):=AK hW HGC.out hgl;have HRW:Hid (RowIs W 29 13 g n cap (AY l)):=HR.out.below hW hgl;have HVW:Hid _:=AK hW HV.out hvl
  (refine B1 rfl (.tmp 73) (.tmp 76) 23 rfl 29 13 Tryz.underlying23 Tryz.infosSvcI (some ⟨g,off4,none⟩) (some ⟨g,off7,none⟩) dd _ ss _ rfl rfl dd (by show min ss dd=dd;omega) g ((i+1)*13) cur 29 HGW.out (AY (l.drop i)) (by rw[BS,HDD.out]) (λ_=>⟨by rw[show off4=(i+1)*13 by omega],_,rfl,HSRC.out W HRW.out off7 (by omega)⟩) (by rw[BS,HDD.out];omega) (ES _) ?_;intro w2 hz on;have HZ2:Hid (w2.heap[g]?=some (.cells (splice cur.toList ((i+1)*13) (AY (l.drop i))).toArray 29 (0,0))):=hz;have HO2:Hid (BA g W w2):=on;clear hz on)
  have HV2:Hid _:=(HO2.out.other vb hvg).trans HVW.out;have HSL:Hid ((splice cur.toList ((i+1)*13) (AY (l.drop i))).length=cur.size):=by unfold Hid;rw[length_splice _ _ _ (by rw[BS,HDD.out,HCL.out];omega),HCL.out]
  go_upto_region 17 with(first
   |(refine AU rfl 23 (.tmp 78) (some (.tmp 79)) none none rfl Tryz.undSvcsI 13 Tryz.infoElemSvcI g 0 (n+1) cap i (n+1) cap rfl (some (.int .i64 (i:Int))) none none rfl rfl rfl (λw=>run_slice_l w _ _ _ _ Tryz.undSvcsI .i64 (i:Int) (by omega) (by omega)) ?_;intro off8 h8;rw[show n+1 - i=ss by omega])
   |(refine B1 rfl (.tmp 80) (.tmp 81) 23 rfl 29 13 Tryz.underlying23 Tryz.infosSvcI (some ⟨g,off8,none⟩) (some ⟨vb,0,none⟩) ss _ 1 1 rfl rfl 1 (by show min 1 ss=1;omega) g (i*13) _ 29 HZ2.out XS (by rw[HXL.out]) (λ_=>⟨by rw[show off8=i*13 by omega],_,rfl,HNW.out _ HV2.out⟩) (by rw[List.size_toArray,HSL.out];rw[HXL.out];omega) HX1.out ?_;intro w3 hz on;have HZ3:Hid (w3.heap[g]?=some (.cells (splice (splice cur.toList ((i+1)*13) (AY (l.drop i))) (i*13) XS).toArray 29 (0,0))):=hz;have HO3:Hid (BA g w2 w3):=on;clear hz on))
  go_wp2;go_ret;have hmid:=(IS (A:=AY (l.take i)) (X:=XS) (D:=AY (l.drop i)) (L:=cur.toList) (a:=i*13) (s:=13) (d:=dd*13) (by rw[BS,HTL.out]) HXL.out (by rw[BS,HDD.out]) (by rw[HFT.out,<-HCS.out.2,List.take_take,Nat.min_eq_left (Nat.mul_le_mul_right _ (by omega))]) (by rw[HCL.out];omega)).2;rw[show i*13+13=(i+1)*13 by omega,show(i+1)*13+dd*13=(n+1)*13 by omega]at hmid;refine⟨some ⟨g,0,none⟩,cap,rfl,.inr ⟨g,rfl,hNg,?_⟩,λq hq hne=>?_,?_⟩
  ·rw[HVL.out]
   refine⟨?_,hroom,_,HZ3.out,?_,?_⟩
   ·simp only[List.length_append,BS,HTL.out,HDD.out];rw[HXL.out];omega
   ·rw[List.size_toArray,length_splice _ _ _ (by rw[HSL.out];rw[HXL.out];omega),HSL.out,HCS.out.1]
   ·exact hmid
  ·have hqg:q≠g:=λe=>hne (by rw[e])
   exact(HO3.out.other q hqg).trans ((HO2.out.other q hqg).trans (hW.block q hq))
  ·exact(hW.mono' hN).trans ((HO2.out.below.mono' hNg).trans (HO3.out.below.mono' hNg))
 ·obtain⟨dd,hdd⟩:∃q,n - i=q:=⟨_,rfl⟩
  have hd1:n<=i+dd:=by omega
  have hd1':i+dd<=n:=by omega
  obtain⟨mz,hmz⟩:∃q,n+1 - i=q:=⟨_,rfl⟩;have hm1:n+1<=i+mz:=by omega
  have hm1':i+mz<=n+1:=by omega
  have HDD:Hid ((l.drop i).length=dd):=by unfold Hid;rw[HDL.out];exact hdd
  have hd2:0<dd:=by omega
  clear hdd hmz;go_enter Tryz.func95,Tryz.ntmps95
  go_upto_region 2 with(refine AU rfl 23 (.tmp 10) (some (.tmp 11)) none none rfl Tryz.undSvcsI 13 Tryz.infoElemSvcI g 0 n cap i n cap rfl (some (.int .i64 (i:Int))) none none rfl rfl rfl (λw=>run_slice_l w _ _ _ _ Tryz.undSvcsI .i64 (i:Int) (by omega) (by omega)) ?_;intro off0 _;rw[show n - i=dd by omega])
  go_upto_region 9 with fail
  go_upto_region 10 with(refine Da rfl (.tmp 34) (.tmp 39) 23 3 rfl 29 _ 13 112 .i64 Tryz.underlying23 Tryz.underlying3 Tryz.infoSvcI rfl (by omega) ⟨g,0,none⟩ i cap (AY (l.take i)) rfl (by rw[BS,HTL.out]) (HR.out.srcTake (c:=Svc.cells) (λ_=>rfl) i) mz (congrArg (Value.int .i64) (by omega)) (by omega) (by omega) (by unfold maxLen;omega) (by omega) ?_;intro g2 cap2 cur w1 hg2 hc2 hz1 hcs1 hb1)
  have hgg2:vb≠g2:=by omega
  have HCL:Hid (cur.toList.length=cur.size):=Array.length_toList;have hg2l:=(AB hz1.out).1;have HV1:Hid _:=AK hb1 HV.out hvl;have HR1:Hid (RowIs w1 29 13 g n cap (AY l)):=HR.out.below hb1 hgl;have hcsz:(i+mz)*13<=cur.size:=by rw[hcs1.out.1];exact Nat.mul_le_mul_right _ hc2
  go_upto_region 11 with(first
   |(refine AU rfl 23 (.tmp 41) (some (.tmp 42)) none none rfl Tryz.undSvcsI 13 Tryz.infoElemSvcI g2 0 (i+mz) cap2 i (i+mz) cap2 rfl (some (.int .i64 (i:Int))) none none rfl rfl rfl (λw=>run_slice_l w _ _ _ _ Tryz.undSvcsI .i64 (i:Int) (by omega) (by omega)) ?_;intro off8 h8;rw[show i+mz - i=mz by omega])
   |(refine B1 rfl (.tmp 43) (.tmp 44) 23 rfl 29 13 Tryz.underlying23 Tryz.infosSvcI (some ⟨g2,off8,none⟩) (some ⟨vb,0,none⟩) mz _ 1 1 rfl rfl 1 (by show min 1 mz=1;omega) g2 (i*13) _ 29 hz1.out XS (by rw[HXL.out]) (λ_=>⟨by rw[show off8=i*13 by omega],_,rfl,HNW.out _ HV1.out⟩) (by rw[HXL.out];omega) HX1.out ?_;intro w2 hz on;have HZ2:Hid (w2.heap[g2]?=some (.cells (splice cur.toList (i*13) XS).toArray 29 (0,0))):=hz;have HO2:Hid (BA g2 w1 w2):=on;clear hz on))
  have HSL:Hid ((splice cur.toList (i*13) XS).length=cur.size):=by unfold Hid;rw[length_splice _ _ _ (by rw[HCL.out,HXL.out];omega),HCL.out]
  have HR2:Hid (RowIs w2 29 13 g n cap (AY l)):=HR1.out.blk (HO2.out.other g (by omega));have hb2:Below w.heap.size w w2:=hb1.trans (HO2.out.below.mono' hg2);have hg2w:g2<w2.heap.size:=(AB HZ2.out).1;have hgl2:=HR2.out.lt;refine An 8 (by kernel_rfl) (by kernel_rfl) ?_;apply AQ
  ·intro V W K A hW hd hA hK
   simp only[pA]at hA;clear hd;obtain rfl:=hA;go_wp2;exact hK.out _ brf
  apply AQ
  ·intro V W K A hW hd hA hK
   simp only[pA]at hA;clear hd;obtain rfl:=hA;go_wp2;exact hK.out _ brf
  apply AQ
  ·intro V W K A hW hd hA hK
   simp only[pA]at hA;clear hd;obtain rfl:=hA;go_wp2;exact hK.out _ brf
  apply AQ
  ·intro V W K A hW hd hA hK
   have d1:V 1=_:=hd 1 (by kernel_rfl);have d2:V 2=_:=hd 2 (by kernel_rfl);simp only[pA,d1,d2]at hA;clear hd d1 d2;obtain rfl:=hA;go_wp2;exact hK.out _ brf
  refine Aq (λvv (_:World)=>∃off,vv=.slice (some ⟨g2,off,none⟩) dd (cap2 - (i+1))/\(off=(i+1)*13\/cap2=i+1)) (λ_ _ _ h _=>h) ?_ ?_
  ·intro V W K A hW hd hA hK
   have d0:V 0=_:=hd 0 (by kernel_rfl);have d3:V 3=_:=hd 3 (by kernel_rfl);simp only[pA,d0,d3]at hA;clear hd d0 d3;obtain rfl:=hA;refine AU rfl 23 (.tmp 46) (some (.tmp 49)) none none rfl Tryz.undSvcsI 13 Tryz.infoElemSvcI g2 0 (i+mz) cap2 (i+1) (i+mz) cap2 rfl (some (.int .i64 ((i:Int)+1))) none none rfl rfl rfl (λw=>run_slice_l w _ _ _ _ Tryz.undSvcsI .i64 ((i+1:Nat):Int) (by omega) (by omega)) ?_;intro off hoff;rw[show(i+mz) - (i+1)=dd by omega];go_wp2;exact hK.out _ _ brf ⟨off,rfl,by omega⟩
  apply AQ
  ·intro V W K A hW hd hA hK
   simp only[pA]at hA;clear hd;obtain rfl:=hA;go_wp2;exact hK.out _ brf
  apply AQ
  ·intro V W K A hW hd hA hK
   simp only[pA]at hA;clear hd;obtain rfl:=hA;go_wp2;exact hK.out _ brf
  refine Aq (λvv (_:World)=>∃off,vv=.slice (some ⟨g,off,none⟩) dd (cap - i)/\(off=i*13\/cap=i)) (λ_ _ _ h _=>h) ?_ ?_
  ·intro V W K A hW hd hA hK
   have d5:V 5=_:=hd 5 (by kernel_rfl);have d6:V 6=_:=hd 6 (by kernel_rfl);simp only[pA,d5,d6]at hA;clear hd d5 d6;obtain rfl:=hA;refine AU rfl 23 (.tmp 51) (some (.tmp 52)) none none rfl Tryz.undSvcsI 13 Tryz.infoElemSvcI g 0 n cap i n cap rfl (some (.int .i64 (i:Int))) none none rfl rfl rfl (λw=>run_slice_l w _ _ _ _ Tryz.undSvcsI .i64 (i:Int) (by omega) (by omega)) ?_;intro off hoff;rw[show n - i=dd by omega];go_wp2;exact hK.out _ _ brf ⟨off,rfl,by omega⟩
  intro V W A hW hS hA;have d0:V 0=_:=hS 0 (by omega);have d1:V 1=_:=hS 1 (by omega);have d2:V 2=_:=hS 2 (by omega);have d3:V 3=_:=hS 3 (by omega);have d4:(λvv (_:World)=>∃off,vv=.slice (some ⟨g2,off,none⟩) dd (cap2 - (i+1))/\(off=(i+1)*13\/cap2=i+1)) (V 4) W:=hS 4 (by omega);have d5:V 5=_:=hS 5 (by omega);have d6:V 6=_:=hS 6 (by omega);have d7:(λvv (_:World)=>∃off,vv=.slice (some ⟨g,off,none⟩) dd (cap - i)/\(off=i*13\/cap=i)) (V 7) W:=hS 7 (by omega);simp only[pA,d0,d1,d2,d3,d5,d6]at hA;clear hS d0 d1 d2 d3 d5 d6;generalize V 4=x4 at d4 hA;generalize V 7=x7 at d7 hA;obtain rfl:=hA;simp only[List.drop_succ_cons,List.drop_zero];obtain⟨off4,rfl,h4⟩:=d4;obtain⟨off7,rfl,h7⟩:=d7;have HZW:Hid _:=AK hW HZ2.out hg2w;have HRW:Hid (RowIs W 29 13 g n cap (AY l)):=HR2.out.below hW hgl2
  (refine B1 rfl (.tmp 50) (.tmp 53) 23 rfl 29 13 Tryz.underlying23 Tryz.infosSvcI (some ⟨g2,off4,none⟩) (some ⟨g,off7,none⟩) dd _ dd _ rfl rfl dd (by show min dd dd=dd;omega) g2 ((i+1)*13) _ 29 HZW.out (AY (l.drop i)) (by rw[BS,HDD.out]) (λ_=>⟨by rw[show off4=(i+1)*13 by omega],_,rfl,HSRC.out W HRW.out off7 (by omega)⟩) (by rw[BS,HDD.out,List.size_toArray,HSL.out];omega) (ES _) ?_;intro w3 hz on;have HZ3:Hid (w3.heap[g2]?=some (.cells (splice (splice cur.toList (i*13) XS) ((i+1)*13) (AY (l.drop i))).toArray 29 (0,0))):=hz;have HO3:Hid (BA g2 W w3):=on;clear hz on)
  go_wp2;go_ret;have hmid:=(IS (A:=AY (l.take i)) (X:=XS) (D:=AY (l.drop i)) (L:=cur.toList) (a:=i*13) (s:=13) (d:=dd*13) (by rw[BS,HTL.out]) HXL.out (by rw[BS,HDD.out]) hcs1.out.2 (by rw[HCL.out];omega)).1;rw[show i*13+13=(i+1)*13 by omega,show(i+1)*13+dd*13=(n+1)*13 by omega]at hmid;have hb3:Below w.heap.size w w3:=hb2.trans ((hW.mono' (by omega)).trans (HO3.out.below.mono' hg2));refine⟨some ⟨g2,0,none⟩,cap2,by rw[show i+mz=n+1 by omega];rfl,.inr ⟨g2,rfl,by omega,?_⟩,λq hq _=>hb3.block q hq,hb3.mono' hN⟩;rw[HVL.out];refine⟨?_,by omega,_,HZ3.out,?_,?_⟩
  ·simp only[List.length_append,BS,HTL.out,HDD.out];rw[HXL.out];omega
  ·rw[List.size_toArray,length_splice _ _ _ (by rw[HSL.out,BS,HDD.out];omega),HSL.out,hcs1.out.1]
  ·exact hmid
end
end Go.Proofs.YtbceafpodamnfaaGreat
