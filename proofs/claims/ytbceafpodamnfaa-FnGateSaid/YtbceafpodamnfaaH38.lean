import Derived.Test.YtbceafpodamnfaaH35
set_option linter.all false
set_option maxHeartbeats 8000000
set_option maxRecDepth 100000
namespace Go.Proofs.Ytbceafpodamnfaa
attribute [local simp] svV cpV zbV czV aaV ctZ ad bkV ctV acV evV
attribute [local go_sem] svV cpV zbV czV aaV ctZ ad bkV ctV acV evV
section
open Go.RowKit Go.Sort
def Er(l:List Bx):List Value:=l.flatMap Bx.cells
theorem bxsV_len(l:List Bx):(Er l).length=l.length*4:=Em (c:=Bx.cells) (n:=4) (λ_=>rfl) l
theorem NX(x:Bx):∀u∈x.cells,u.oneCell'=true:=λu h=>by
 simp[Bx.cells]at h;rcases h with rfl|rfl|rfl|rfl<;>rfl
theorem bxsV_one(l:List Bx):∀u∈Er l,u.oneCell'=true:=λu hu=>by
 obtain⟨s,_,h⟩:=List.mem_flatMap.1 hu;exact NX s u h
theorem BxAt.get{w:World}{b o:Nat}{s:Bx}(h:BxAt w b o s)(k:Nat)(u:Value)(hu:s.cells[k]?=some u):w.cell? ⟨b,o+k,none⟩=some u:=by
 obtain⟨h0,h1,h2,h3⟩:=h
 match k,hu with
 |0,hu=>obtain rfl:=Option.some.inj hu;exact h0
 |1,hu=>obtain rfl:=Option.some.inj hu;exact h1
 |2,hu=>obtain rfl:=Option.some.inj hu;exact h2
 |3,hu=>obtain rfl:=Option.some.inj hu;exact h3
 |k+4,hu=>simp[Bx.cells]at hu
theorem SlX.src{w:World}{ao:Option Addr}{l:List Bx}(h:SlX w ao l):l.length≠0->∃ad,ao=some ad/\∀j u,(Er l)[j]?=some u->w.cell? (ad.add j)=some u:=λhn=>by
 obtain⟨b,off,e,_,hat⟩:=h (by intro h;rw[h]at hn;simp at hn);refine⟨_,e,λj u hu=>?_⟩;obtain⟨i,k,s,h1,h2,rfl⟩:=Eb (c:=Bx.cells) (n:=4) (λ_=>rfl) l j u hu;have:=(hat i s h1).get k u h2;rw[Nat.add_assoc,<-Addr.add_lit]at this;exact this
theorem RowIs.slX{w:World}{e:TypeId}{g n cap:Nat}{l:List Bx}(h:RowIs w e 4 g n cap (Er l))(d:Nat):SlX w (some ⟨g,d*4,none⟩) (l.drop d):=λ_=>
 ⟨g,d*4,rfl,h.lt,λi s hs=>by
  rw[List.getElem?_drop]at hs;have:=λk u hu=>h.cell (BW (c:=Bx.cells) (n:=4) (λ_=>rfl) l (d+i) s k u hs hu)
  rw[Nat.add_mul]at this
  exact⟨this 0 _ rfl,this 1 _ rfl,this 2 _ rfl,this 3 _ rfl⟩⟩
theorem FO:(Try.prog.info? 27).map (λi=>(i.zero,i.size,i.bytes))=some (some (.agg zbV),4,80):=by kernel_rfl
theorem AT:(Try.prog.info? 27).map (·.size)=some 4:=by kernel_rfl
theorem AW:(Try.prog.info? 119).map (·.size)=some 5:=by kernel_rfl
def Bk.tiny(B:Bk):Prop:=B.svcs.length<=1000/\B.cps.length<=1000/\B.bts.length<=1000
theorem Bk.tiny.small{B:Bk}(h:B.tiny):B.small:=⟨by have:=h.1;omega,by have:=h.2.1;omega,by have:=h.2.2;omega⟩
def Tinys(l:List Bx):Prop:=∀x∈l,x.b.tiny
structure WOk(l:List Bx)(B:Bk):Prop where
 len:l.length<=8
 zs:Sizeds l
 ss:Tinys l
 bz:B.sized
 bs:B.tiny
def RowT(w:World)(ap:Option Addr)(l:List Bx):Prop:=l≠[]->∀b off,ap=some ⟨b,off,none⟩->∃cs fr,w.heap[b]?=some (.cells cs 27 fr)
theorem RowT.below{w w':World}{ap:Option Addr}{l:List Bx}(h:RowT w ap l)(hb:Below w.heap.size w w'):RowT w' ap l:=λhl b off e=>
 let ⟨cs,fr,h1⟩:=h hl b off e
 ⟨cs,fr,AL hb h1 (AB h1).1⟩
def WIs(n:Nat)(w w':World)(v:Value):Prop:=∃(ap:Option Addr) (l:List Bx) (cp:Nat) (a1 a2 a3:Option Addr) (c1 c2 c3:Nat) (B:Bk),v=.agg #[.slice ap l.length cp,.int .i64 B.now,.slice a1 B.svcs.length c1,.slice a2 B.cps.length c2,.slice a3 B.bts.length c3]/\WAt w' ap l a1 a2 a3 B/\WOk l B/\RowT w' ap l/\Below n w w'
def BkIs(n:Nat)(w w':World)(v:Value):Prop:=∃(a1 a2 a3:Option Addr) (c1 c2 c3:Nat) (B:Bk),v=.agg (bkV B a1 c1 a2 c2 a3 c3)/\BkAt w' a1 a2 a3 B/\B.sized/\B.tiny/\Below n w w'
theorem K9{w w2 wz:World}{g2 m cap2 f n cap:Nat}{L:List Bx}{C:Bk}{x1 x2 x3:Option Addr}{y1 y2 y3:Nat}(hR:RowIs w2 27 4 g2 m cap2 (Er L))(hX:∀x∈L,BkAt w x.a1 x.a2 x.a3 x.b/\x.b.sized/\x.b.tiny)(hC:BkAt w x1 x2 x3 C)(hz:C.sized)(hs:C.tiny)
  (hb:Below w.heap.size w w2) (on:Bj f w2 wz) (hf:w.heap.size<=f) (hg:f<g2) (d:Nat) (hn:(L.drop d).length=n) (h8:n<=8):
  ∃v,Ending.returned (.agg #[.slice (some ⟨g2,d*4,none⟩) n cap,.int .i64 C.now,.slice x1 C.svcs.length y1,.slice x2 C.cps.length y2,.slice x3 C.bts.length y3])=.returned v/\WIs w.heap.size w wz v:=by
 have hbz:Below w.heap.size w wz:=hb.trans (on.below.mono hf);have hm:∀x∈L.drop d,x∈L:=λx h=>List.mem_of_mem_drop h
 subst hn;refine⟨_,rfl,_,L.drop d,cap,x1,x2,x3,y1,y2,y3,C,rfl,⟨(hR.blk (on.other g2 (by omega))).slX d,λx h=>(hX x (hm x h)).1.below hbz,hC.below hbz⟩,⟨h8,λx h=>(hX x (hm x h)).2.1,λx h=>(hX x (hm x h)).2.2,hz,hs⟩,λ_ b off e=>?_,hbz⟩;injection e with e
 injection e with e _
 subst e;obtain⟨_,_,cur,hc,_⟩:=hR.blk (on.other g2 (by omega));exact⟨_,_,hc⟩
theorem MF(l:List Bx)(ap:Option Addr)(cp:Nat)(B C:Bk)(a1 a2 a3 x1 x2 x3:Option Addr)(c1 c2 c3 y1 y2 y3:Nat)(w:World)(hO:WOk l B)(hCz:C.sized)(hCs:C.tiny)(hW:WAt w ap l a1 a2 a3 B)(hT:RowT w ap l)(hC:BkAt w x1 x2 x3 C):
  Calls Try.prog 90 #[.agg #[.slice ap l.length cp,.int .i64 B.now,.slice a1 B.svcs.length c1,.slice a2 B.cps.length c2,.slice a3 B.bts.length c3],.agg (bkV C x1 y1 x2 y2 x3 y3)] w λe w'=>∃v,e=.returned v/\WIs w.heap.size w w' v:=by
 have HW:Hid (WAt w ap l a1 a2 a3 B):=hW;have HC:Hid (BkAt w x1 x2 x3 C):=hC;have HT:Hid (RowT w ap l):=hT;have HO:Hid (WOk l B):=hO;have HCz:Hid (C.sized):=hCz;have HCs:Hid (C.tiny):=hCs;have hl8:=hO.len;clear hW hC hO hCz hCs hT
 obtain⟨W0,hW0,t0,t1,t2,hz0,hs0,hb0⟩:∃W0,((w.alloc (.cells #[.slice ap l.length cp,.int .i64 B.now,.slice a1 B.svcs.length c1,.slice a2 B.cps.length c2,.slice a3 B.bts.length c3] 119)).alloc (.cells (bkV C x1 y1 x2 y2 x3 y3) 27)).alloc (.cells #[.slice none 0 0,.int .i64 0,.slice none 0 0,.slice none 0 0,.slice none 0 0] 119)=W0/\Bl W0 (w.heap.size) #[.slice ap l.length cp,.int .i64 B.now,.slice a1 B.svcs.length c1,.slice a2 B.cps.length c2,.slice a3 B.bts.length c3] 119/\Bl W0 (w.heap.size+1) (bkV C x1 y1 x2 y2 x3 y3) 27/\Bl W0 (w.heap.size+2) #[.slice none 0 0,.int .i64 0,.slice none 0 0,.slice none 0 0,.slice none 0 0] 119/\w.heap.size<W0.heap.size/\W0.heap.size=w.heap.size+3/\Below w.heap.size w W0:=by
  obtain⟨h1,h2,h3⟩:=Bh w (.cells #[.slice ap l.length cp,.int .i64 B.now,.slice a1 B.svcs.length c1,.slice a2 B.cps.length c2,.slice a3 B.bts.length c3] 119) (.cells (bkV C x1 y1 x2 y2 x3 y3) 27);obtain⟨X,hX⟩:∃X,(w.alloc (.cells #[.slice ap l.length cp,.int .i64 B.now,.slice a1 B.svcs.length c1,.slice a2 B.cps.length c2,.slice a3 B.bts.length c3] 119)).alloc (.cells (bkV C x1 y1 x2 y2 x3 y3) 27)=X:=⟨_,rfl⟩;rw[hX]at h1 h2 h3;rw[hX];have hbX:Below w.heap.size w X:=by rw[<-hX];exact(AO w _).alloc (by show w.heap.size<=(w.heap.push _).size;simp) _
  have hz:(X.alloc (.cells #[.slice none 0 0,.int .i64 0,.slice none 0 0,.slice none 0 0,.slice none 0 0] 119)).heap.size=X.heap.size+1:=by show(X.heap.push _).size=_;simp
  refine⟨_,rfl,(heap_alloc_old X _ (by omega)).trans h1,(heap_alloc_old X _ (by omega)).trans h2,?_,by omega,by omega,hbX.alloc (by omega) _⟩;have:=heap_alloc_new X (.cells #[.slice none 0 0,.int .i64 0,.slice none 0 0,.slice none 0 0,.slice none 0 0] 119)
  rwa [h3]at this
 have T0:Hid _:=t0;have T1:Hid _:=t1;have T2:Hid _:=t2;have e0:W0.cell? ⟨w.heap.size,1,none⟩=some (.int .i64 B.now):=AK t0 1 rfl;have e1:W0.cell? ⟨w.heap.size+1,0,none⟩=some (.int .i64 C.now):=AK t1 0 rfl;clear t0 t1 t2;go_enter Try.func90,Try.ntmps90
 go_upto_region 1 with fail
 clear hW0
 by_cases hn:C.now=B.now
 ·have hnb:(C.now==B.now)=true:=by simp[hn]
  go_wp2_with (first|((with_reducible show wpList _ _ _ _ _ _);refine wpList_load_row rfl 119 (.tmp 2) rfl w.heap.size rfl 119 #[.slice ap l.length cp,.int .i64 B.now,.slice a1 B.svcs.length c1,.slice a2 B.cps.length c2,.slice a3 B.bts.length c3] (0,0) _ T0.out Try.underlying119 rfl AW ?_)|((with_reducible show wpList _ _ _ _ _ _);refine AM rfl 119 (.tmp 4) (.tmp 12) rfl (w.heap.size+2) 0 #[.slice ap l.length cp,.int .i64 B.now,.slice a1 B.svcs.length c1,.slice a2 B.cps.length c2,.slice a3 B.bts.length c3] rfl rfl 119 #[.slice none 0 0,.int .i64 0,.slice none 0 0,.slice none 0 0,.slice none 0 0] T2.out AW (AD rfl) (by simp[Value.oneCell']) ?_;intro wz hz on;simp only[Act.put]))
  refine bodyPost_ret (results_cell_row rfl _ wz (w.heap.size+2) 119 #[.slice ap l.length cp,.int .i64 B.now,.slice a1 B.svcs.length c1,.slice a2 B.cps.length c2,.slice a3 B.bts.length c3] (0,0) _ rfl hz.out Try.underlying119 rfl AW) rfl ?_;have hb:Below w.heap.size w wz:=hb0.trans (on.below.mono (by omega));exact⟨_,rfl,ap,l,cp,a1,a2,a3,c1,c2,c3,B,rfl,HW.out.below hb,HO.out,HT.out.below hb,hb⟩
 have hnb:(C.now==B.now)=false:=by simp[hn]
 go_upto_region 3 with fail
 clear e0 e1;refine AX 7 (by kernel_rfl) (by kernel_rfl) ?_;refine Av (λv W=>∃g,v=.slice (ad g) 0 0/\w.heap.size+3<=g/\Bl W g #[] 27) (λ_ _ _ ⟨g,h1,h2,h3⟩ hb=>⟨g,h1,h2,AL hb h3 (AB h3).1⟩) ?_ ?_
 ·intro V W K A hW hd hA hK
  simp only[pA]at hA;clear hd;obtain rfl:=hA;go_wp2;exact hK.out _ _ (AO _ _) ⟨W.heap.size,rfl,AH (by omega) hW.size,heap_alloc_new W _⟩
 apply AN
 ·intro V W K A hW hd hA hK
  simp only[pA]at hA;clear hd;obtain rfl:=hA;go_wp2;exact hK.out _ brf
 apply AN
 ·intro V W K A hW hd hA hK
  have d1:V 1=_:=hd 1 (by kernel_rfl);simp only[pA,d1,d1]at hA;clear hd d1;obtain rfl:=hA;have e0:W.cell? ⟨w.heap.size,0,none⟩=some (.slice ap l.length cp):=AK (AL hW T0.out hz0) 0 rfl;go_wp2;exact hK.out _ brf
 refine Av (λv W=>∃g cap,v=.slice (ad g) l.length cap/\w.heap.size+3<=g/\RowIs W 27 4 g l.length cap (Er l)) (λ_ _ _ ⟨g,cap,h1,h2,h3⟩ hb=>⟨g,cap,h1,h2,h3.below hb h3.lt⟩) ?_ ?_
 ·intro V W K A hW hd hA hK
  have d0:(λv W=>∃g,v=.slice (ad g) 0 0/\w.heap.size+3<=g/\Bl W g #[] 27) (V 0) W:=hd 0 (by kernel_rfl);have d2:V 2=_:=hd 2 (by kernel_rfl);simp only[pA,d2,d2]at hA;clear hd d2;generalize V 0=x0 at d0 hA;obtain rfl:=hA;obtain⟨g,rfl,hg,hgz⟩:=d0;refine BC rfl (.tmp 13) (.tmp 15) 117 rfl 27 _ 4 80 Try.underlying117 FO rfl g rfl hgz ap l.length cp (Er l) rfl (bxsV_len _) ((HW.out.row.below hb0).below hW).src (bxsV_one _) (by unfold maxLen;omega) (by omega) ?_;intro g' cap' w2 hg' hrow hb2
  have hgg:w.heap.size+3<=g':=by
   have:=hW.size;rcases hg' with rfl|rfl<;>omega
  go_wp2;exact hK.out _ _ hb2 ⟨g',cap',rfl,hgg,hrow.out⟩
 apply AN
 ·intro V W K A hW hd hA hK
  simp only[pA]at hA;clear hd;obtain rfl:=hA;go_wp2;exact hK.out _ brf
 apply AN
 ·intro V W K A hW hd hA hK
  have d4:V 4=_:=hd 4 (by kernel_rfl);simp only[pA,d4,d4]at hA;clear hd d4;obtain rfl:=hA;have e1:W.cell? ⟨w.heap.size,1,none⟩=some (.int .i64 B.now):=AK (AL hW T0.out hz0) 1 rfl;have e2:W.cell? ⟨w.heap.size,2,none⟩=some (.slice a1 B.svcs.length c1):=AK (AL hW T0.out hz0) 2 rfl;have e3:W.cell? ⟨w.heap.size,3,none⟩=some (.slice a2 B.cps.length c2):=AK (AL hW T0.out hz0) 3 rfl;have e4:W.cell? ⟨w.heap.size,4,none⟩=some (.slice a3 B.bts.length c3):=AK (AL hW T0.out hz0) 4 rfl;go_wp2;exact hK.out _ brf
 refine Av (λv W=>∃g,v=.slice (ad g) 1 1/\w.heap.size+3<=g/\Bl W g (bkV B a1 c1 a2 c2 a3 c3) 27) (λ_ _ _ ⟨g,h1,h2,h3⟩ hb=>⟨g,h1,h2,AL hb h3 (AB h3).1⟩) ?_ ?_
 ·intro V W K A hW hd hA hK
  have d5:V 5=_:=hd 5 (by kernel_rfl);simp only[pA,d5,d5]at hA;clear hd d5;obtain rfl:=hA;go_wp2;exact hK.out _ _ (AO _ _) ⟨W.heap.size,rfl,AH (by omega) hW.size,heap_alloc_new W _⟩
 intro V W A hW hS hA;have d0:(λv W=>∃g,v=.slice (ad g) 0 0/\w.heap.size+3<=g/\Bl W g #[] 27) (V 0) W:=hS 0 (by omega);have d1:V 1=_:=hS 1 (by omega);have d2:V 2=_:=hS 2 (by omega);have d3:(λv W=>∃g cap,v=.slice (ad g) l.length cap/\w.heap.size+3<=g/\RowIs W 27 4 g l.length cap (Er l)) (V 3) W:=hS 3 (by omega);have d4:V 4=_:=hS 4 (by omega);have d5:V 5=_:=hS 5 (by omega);have d6:(λv W=>∃g,v=.slice (ad g) 1 1/\w.heap.size+3<=g/\Bl W g (bkV B a1 c1 a2 c2 a3 c3) 27) (V 6) W:=hS 6 (by omega);simp only[pA,d1,d2,d4,d5,d1,d2,d4,d5]at hA;clear hS d1 d2 d4 d5;generalize V 0=x0 at d0 hA;generalize V 3=x3 at d3 hA;generalize V 6=x6 at d6 hA;obtain rfl:=hA;simp only[List.drop_succ_cons,List.drop_zero];obtain⟨g,cap,rfl,hg,hrow⟩:=d3;obtain⟨k,rfl,hk,hkb⟩:=d6;clear d0;refine AV rfl (.tmp 16) (.tmp 19) 117 rfl 27 _ 4 80 Try.underlying117 FO rfl g l.length cap (Er l) rfl hrow ⟨k,0,none⟩ 1 1 (Bx.cells ⟨B,a1,a2,a3,c1,c2,c3⟩) rfl rfl (λj u hu=>by have h1:=AK hkb j (v:=u) (by simpa [Bx.cells] using hu);rw[show(⟨k,0,none⟩:Addr).add j=⟨k,j,none⟩ by rw[Addr.add_lit,Nat.zero_add]];exact h1) (NX _) (by unfold maxLen;omega) (by omega) ?_;intro g2 cap2 w2 hg2 hrow2 hgr;have hb2:Below (w.heap.size+3) W w2:=(Below.refl _ _).grown hgr (by have:=hW.size;omega) (λk h=>by cases h;exact hg);have hbw:Below w.heap.size w w2:=(hb0.trans (hW.mono (by omega))).trans (hb2.mono (by omega));have T1':Hid _:=AL hb2 (AL hW T1.out (by omega)) (by omega);have T2':Hid _:=AL hb2 (AL hW T2.out (by omega)) (by omega)
 have HR:Hid (RowIs w2 27 4 g2 (l.length+1) cap2 (Er (l++[(⟨B,a1,a2,a3,c1,c2,c3⟩:Bx)]))):=by
  have:=hrow2.out;unfold Hid
  rwa [show Er l++Bx.cells ⟨B,a1,a2,a3,c1,c2,c3⟩=Er (l++[(⟨B,a1,a2,a3,c1,c2,c3⟩:Bx)]) by simp[Er]]at this
 obtain⟨L,hL⟩:∃L,l++[(⟨B,a1,a2,a3,c1,c2,c3⟩:Bx)]=L:=⟨_,rfl⟩;rw[hL]at HR
 have HX:Hid (∀x∈L,BkAt w x.a1 x.a2 x.a3 x.b/\x.b.sized/\x.b.tiny):=λx hx=>by
  rw[<-hL]at hx;rcases List.mem_append.1 hx with h|h
  ·exact⟨HW.out.ins x h,HO.out.zs x h,HO.out.ss x h⟩
  ·obtain rfl:=List.mem_singleton.1 h
   exact⟨HW.out.book,HO.out.bz,HO.out.bs⟩
 have hLl:L.length=l.length+1:=by rw[<-hL];simp
 have hWs:=hW.size;clear hrow hkb hgr hb2 hW T0 T1 T2 hrow2 hL HW HO;simp only[Act.put]
 have hg2':w.heap.size+3<=g2:=by
  rcases hg2 with rfl|rfl
  ·exact hg
  ·omega
 have hcap:=HR.out.2.1
 by_cases h8:l.length=8
 ·have hc1:¬cap2=1:=by omega
  go_wp2_with (first|((with_reducible show wpList _ _ _ _ _ _);refine wpList_load_row rfl 27 (.tmp 3) rfl (w.heap.size+1) rfl 27 (bkV C x1 y1 x2 y2 x3 y3) (0,0) _ T1'.out Try.underlying27 rfl AT ?_)|((with_reducible show wpList _ _ _ _ _ _);refine AM rfl 119 (.tmp 4) (.tmp 28) rfl (w.heap.size+2) 0 #[.slice (some ⟨g2,4,none⟩) 8 (cap2 - 1),.int .i64 C.now,.slice x1 C.svcs.length y1,.slice x2 C.cps.length y2,.slice x3 C.bts.length y3] rfl rfl 119 #[.slice none 0 0,.int .i64 0,.slice none 0 0,.slice none 0 0,.slice none 0 0] T2'.out AW (AD rfl) (by simp[Value.oneCell']) ?_;intro wz hz on;simp only[Act.put]))
  refine bodyPost_ret (results_cell_row rfl _ wz (w.heap.size+2) 119 #[.slice (some ⟨g2,4,none⟩) 8 (cap2 - 1),.int .i64 C.now,.slice x1 C.svcs.length y1,.slice x2 C.cps.length y2,.slice x3 C.bts.length y3] (0,0) _ rfl hz.out Try.underlying119 rfl AW) rfl ?_;exact K9 HR.out HX.out HC.out HCz.out HCs.out hbw on (by omega) (by omega) 1 (by rw[List.length_drop,hLl];omega) (by omega)
 have h8':¬(8:Int)<(l.length:Int)+1:=by omega
 go_wp2_with (first|((with_reducible show wpList _ _ _ _ _ _);refine wpList_load_row rfl 27 (.tmp 3) rfl (w.heap.size+1) rfl 27 (bkV C x1 y1 x2 y2 x3 y3) (0,0) _ T1'.out Try.underlying27 rfl AT ?_)|((with_reducible show wpList _ _ _ _ _ _);refine AM rfl 119 (.tmp 4) (.tmp 28) rfl (w.heap.size+2) 0 #[.slice (ad g2) (l.length+1) cap2,.int .i64 C.now,.slice x1 C.svcs.length y1,.slice x2 C.cps.length y2,.slice x3 C.bts.length y3] rfl rfl 119 #[.slice none 0 0,.int .i64 0,.slice none 0 0,.slice none 0 0,.slice none 0 0] T2'.out AW (AD rfl) (by simp[Value.oneCell']) ?_;intro wz hz on;simp only[Act.put]))
 refine bodyPost_ret (results_cell_row rfl _ wz (w.heap.size+2) 119 #[.slice (ad g2) (l.length+1) cap2,.int .i64 C.now,.slice x1 C.svcs.length y1,.slice x2 C.cps.length y2,.slice x3 C.bts.length y3] (0,0) _ rfl hz.out Try.underlying119 rfl AW) rfl ?_;exact K9 HR.out HX.out HC.out HCz.out HCs.out hbw on (by omega) (by omega) 0 (by rw[List.drop_zero,hLl]) (by omega)
theorem view_any(l:List Bx)(ap:Option Addr)(cp:Nat)(B:Bk)(a1 a2 a3:Option Addr)(c1 c2 c3:Nat)(age:Int)(w:World)(ha0:0<=age)(ha1:age<=1000)(hO:WOk l B)(hW:WAt w ap l a1 a2 a3 B):
  Calls Try.prog 92 #[.agg #[.slice ap l.length cp,.int .i64 B.now,.slice a1 B.svcs.length c1,.slice a2 B.cps.length c2,.slice a3 B.bts.length c3],.int .i64 age] w λe w'=>∃v,e=.returned v/\BkIs w.heap.size w w' v:=by
 have HW:Hid (WAt w ap l a1 a2 a3 B):=hW;have HO:Hid (WOk l B):=hO;have hl8:=hO.len;clear hW hO
 obtain⟨W0,hW0,t0,t1,hs0,hb0⟩:∃W0,(w.alloc (.cells #[.slice ap l.length cp,.int .i64 B.now,.slice a1 B.svcs.length c1,.slice a2 B.cps.length c2,.slice a3 B.bts.length c3] 119)).alloc (.cells zbV 27)=W0/\Bl W0 (w.heap.size) #[.slice ap l.length cp,.int .i64 B.now,.slice a1 B.svcs.length c1,.slice a2 B.cps.length c2,.slice a3 B.bts.length c3] 119/\Bl W0 (w.heap.size+1) zbV 27/\W0.heap.size=w.heap.size+1+1/\Below w.heap.size w W0:=by
  obtain⟨h1,h2,h3⟩:=Bh w (.cells #[.slice ap l.length cp,.int .i64 B.now,.slice a1 B.svcs.length c1,.slice a2 B.cps.length c2,.slice a3 B.bts.length c3] 119) (.cells zbV 27);exact⟨_,rfl,h1,h2,h3,(AO w _).alloc (by show w.heap.size<=(w.heap.push _).size;simp) _⟩
 have T1:Hid _:=t1;have e0:W0.cell? ⟨w.heap.size,0,none⟩=some (.slice ap l.length cp):=AK t0 0 rfl;have e1:W0.cell? ⟨w.heap.size,1,none⟩=some (.int .i64 B.now):=AK t0 1 rfl;have e2:W0.cell? ⟨w.heap.size,2,none⟩=some (.slice a1 B.svcs.length c1):=AK t0 2 rfl;have e3:W0.cell? ⟨w.heap.size,3,none⟩=some (.slice a2 B.cps.length c2):=AK t0 3 rfl;have e4:W0.cell? ⟨w.heap.size,4,none⟩=some (.slice a3 B.bts.length c3):=AK t0 4 rfl;clear t0 t1;go_enter Try.func92,Try.ntmps92
 go_upto_region 1 with fail
 clear hW0
 by_cases hn:age=0
 ·subst hn
  go_wp2_with ((with_reducible show wpList _ _ _ _ _ _);refine AM rfl 27 (.tmp 4) (.tmp 14) rfl (w.heap.size+1) 0 (bkV B a1 c1 a2 c2 a3 c3) rfl rfl 27 zbV T1.out AT (AD rfl) (by simp[Value.oneCell']) ?_;intro wz hz on;simp only[Act.put])
  refine bodyPost_ret (results_cell_row rfl _ wz (w.heap.size+1) 27 (bkV B a1 c1 a2 c2 a3 c3) (0,0) _ rfl hz.out Try.underlying27 rfl AT) rfl ?_;have hb:Below w.heap.size w wz:=hb0.trans (on.below.mono (by omega));exact⟨_,rfl,a1,a2,a3,c1,c2,c3,B,rfl,HW.out.book.below hb,HO.out.bz,HO.out.bs,hb⟩
 have hn0:decide (age<=0)=false:=by simp;omega
 by_cases hz0:l.length=0
 ·have hzb:((l.length:Int)==0)=true:=by simp[hz0]
  go_wp2_with ((with_reducible show wpList _ _ _ _ _ _);refine AM rfl 27 (.tmp 4) (.tmp 14) rfl (w.heap.size+1) 0 (bkV B a1 c1 a2 c2 a3 c3) rfl rfl 27 zbV T1.out AT (AD rfl) (by simp[Value.oneCell']) ?_;intro wz hz on;simp only[Act.put])
  refine bodyPost_ret (results_cell_row rfl _ wz (w.heap.size+1) 27 (bkV B a1 c1 a2 c2 a3 c3) (0,0) _ rfl hz.out Try.underlying27 rfl AT) rfl ?_;have hb:Below w.heap.size w wz:=hb0.trans (on.below.mono (by omega));exact⟨_,rfl,a1,a2,a3,c1,c2,c3,B,rfl,HW.out.book.below hb,HO.out.bz,HO.out.bs,hb⟩
 have hzb:((l.length:Int)==0)=false:=beq_eq_false_iff_ne.2 (by omega);obtain⟨b,off,ea,hbs,hat⟩:=HW.out.row (by intro h;rw[h]at hz0;simp at hz0);subst ea
 by_cases hgt:(l.length:Int)<age
 ·have hgb:decide ((l.length:Int)<age)=true:=by simp[hgt]
  have h0:0<l.length:=by omega
  obtain⟨s,hsk⟩:∃s,l[0]?=some s:=⟨l[0],by simp⟩;have HM:Hid (s∈l):=AE hsk;have hcs:=(hat _ s hsk).below hb0 hbs;unfold BxAt at hcs;simp only[Nat.zero_mul,Nat.add_zero]at hcs;have hll:(l.length:Int) - (l.length:Int)=0:=by omega
  obtain⟨q0,q1,q2,q3⟩:=hcs;clear hsk hat
  go_wp2_with ((with_reducible show wpList _ _ _ _ _ _);refine AM rfl 27 (.tmp 4) (.tmp 31) rfl (w.heap.size+1) 0 (bkV s.b s.a1 s.c1 s.a2 s.c2 s.a3 s.c3) rfl rfl 27 zbV T1.out AT (AD rfl) (by simp[Value.oneCell']) ?_;intro wz hz on;simp only[Act.put])
  refine bodyPost_ret (results_cell_row rfl _ wz (w.heap.size+1) 27 (bkV s.b s.a1 s.c1 s.a2 s.c2 s.a3 s.c3) (0,0) _ rfl hz.out Try.underlying27 rfl AT) rfl ?_;have hb:Below w.heap.size w wz:=hb0.trans (on.below.mono (by omega));exact⟨_,rfl,s.a1,s.a2,s.a3,s.c1,s.c2,s.c3,s.b,rfl,(HW.out.ins s HM.out).below hb,HO.out.zs s HM.out,HO.out.ss s HM.out,hb⟩
 have hgb:decide ((l.length:Int)<age)=false:=by simp[hgt]
 obtain⟨k,hk⟩:∃k:Nat,(l.length:Int) - age=k:=⟨((l.length:Int) - age).toNat,by omega⟩;have hkl:k<l.length:=by omega
 obtain⟨s,hsk⟩:∃s,l[k]?=some s:=⟨l[k],by simp⟩;have HM:Hid (s∈l):=AE hsk;have hcs:=(hat _ s hsk).below hb0 hbs;unfold BxAt at hcs;obtain⟨q0,q1,q2,q3⟩:=hcs;clear hsk hat
 go_wp2_with ((with_reducible show wpList _ _ _ _ _ _);refine AM rfl 27 (.tmp 4) (.tmp 31) rfl (w.heap.size+1) 0 (bkV s.b s.a1 s.c1 s.a2 s.c2 s.a3 s.c3) rfl rfl 27 zbV T1.out AT (AD rfl) (by simp[Value.oneCell']) ?_;intro wz hz on;simp only[Act.put])
 refine bodyPost_ret (results_cell_row rfl _ wz (w.heap.size+1) 27 (bkV s.b s.a1 s.c1 s.a2 s.c2 s.a3 s.c3) (0,0) _ rfl hz.out Try.underlying27 rfl AT) rfl ?_;have hb:Below w.heap.size w wz:=hb0.trans (on.below.mono (by omega));exact⟨_,rfl,s.a1,s.a2,s.a3,s.c1,s.c2,s.c3,s.b,rfl,(HW.out.ins s HM.out).below hb,HO.out.zs s HM.out,HO.out.ss s HM.out,hb⟩
def O1(c:Cp):Prop:=c.service.size<=maxLen/\c.berth.size<=maxLen
theorem Oh{sv:ByteArray}{v:Int}{l:List Cp}{num:Int}(h:∀c∈l,O1 c):∀c∈Gx sv v l num,O1 c:=by
 unfold Gx;split
 ·split
  ·rename_i i _ c hc
   intro d hd;rcases List.mem_or_eq_of_mem_set hd with h1|h1
   ·exact h d h1
   ·rw[h1]
    exact h c (AE hc)
  ·exact h
 ·exact h
theorem MJ(B:Bk)(s:Svc)(sv:ByteArray)(v:Int):∀(es:List En) (l L:List Cp),E8 B s sv v es l=some L->(∀c∈l,O1 c)->∀c∈L,O1 c
 |[],l,L,h,hl=>by cases h;exact hl
 |e::es,l,L,h,hl=>by
  unfold E8 at h;split at h
  ·split at h
   ·exact MJ B s sv v es _ L h (Oh hl)
   ·cases h
  ·cases h
theorem Nr{B:Bk}{A:Ac}{s:Svc}{L:List Cp}(hA:A.service.size<=maxLen)(hL:∀c∈L,O1 c):∀(n:Nat),∀c∈Gw B A s L n,O1 c
 |0=>hL
 |n+1=>λc hc=>by
  have ih:=Nr (B:=B) (s:=s) hA hL n;unfold Gw Ij at hc;rcases List.mem_append.1 hc with h|h
  ·exact ih c (List.takeWhile_subset _ h)
  ·rcases List.mem_cons.1 h with h|h
   ·rw[h]
    exact⟨hA,AJ _⟩
   ·exact ih c (List.mem_of_mem_drop h)
theorem Lw(A:Ac)(s:Svc):(EQ A s).name=s.name:=by
 unfold EQ
 split<;>rfl
theorem Hu{B:Bk}(A:Ac)(hV:Valid B)(hS:B.tiny):(BH B A).tiny:=by
 unfold BH
 by_cases hcode:EK B A=0
 ·rw[if_pos hcode]
  unfold D0;split
  ·exact hS
  ·rename_i s hs
   split
   ·exact hS
   ·rename_i L hm
    have hL:=IE _ _ _ _ _ _ _ hm;have h1:=hV.ls;have h2:=hV.lc;have h3:=hV.lb
    have hcr:A.create.toNat<=20:=by
     cases he:F1 B A with
     |some c=>
      unfold EK at hcode;rw[he]at hcode;exact absurd hcode (Hm he)
     |none=>
      have:=G6 (Fp he).1;omega
    refine⟨?_,?_,?_⟩
    ·show(DH B A s _).length<=_
     unfold DH;split
     ·rw[List.length_append,List.length_take,List.length_drop];omega
     ·rw[List.length_set];omega
    ·show(Gw B A s L A.create.toNat).length<=_
     rw[GF,hL];omega
    ·show B.bts.length<=_
     omega
 ·rw[if_neg hcode]
  exact hS
theorem M0{B:Bk}{E:Ev}(hV:Au B=true):(AY B E).1.tiny:=by
 unfold Au at hV;simp only[Bool.and_eq_true,decide_eq_true_eq]at hV;obtain⟨h1,h2,h3⟩:=Kx B E;exact⟨by omega,by omega,by omega⟩
theorem KX{B:Bk}(A:Ac)(hV:Valid B)(hS:B.tiny)(hZ:B.sized):(BH B A).sized:=by
 obtain⟨h1,h2,h3⟩:=Hu A hV hS
 have key:(∀s∈(BH B A).svcs,s.name.size<=maxLen)/\(∀c∈(BH B A).cps,c.service.size<=maxLen/\c.berth.size<=maxLen)/\(∀t∈(BH B A).bts,t.name.size<=maxLen):=by
  obtain⟨_,_,_,z1,z2,z3⟩:=hZ;unfold BH;split
  ·unfold D0
   split
   ·exact⟨z1,z2,z3⟩
   ·rename_i s hs
    split
    ·exact⟨z1,z2,z3⟩
    ·rename_i L hm
     obtain⟨_,_,_,hn⟩:=Ec hs;have hsz:=z1 s (Du hs);refine⟨λd hd=>?_,Nr (by rw[<-hn];exact hsz) (MJ _ _ _ _ _ _ _ hm z2) _,z3⟩;have hd:d∈DH B A s (Gd B.svcs A.service).toNat:=hd;unfold DH at hd;split at hd
     ·rcases List.mem_append.1 hd with h|h
      ·exact z1 d (List.mem_of_mem_take h)
      ·exact z1 d (List.mem_of_mem_drop h)
     ·rcases List.mem_or_eq_of_mem_set hd with h|h
      ·exact z1 d h
      ·rw[h]
       show(EQ A s).name.size<=maxLen;rw[Lw];exact hsz
  ·exact⟨z1,z2,z3⟩
 exact⟨by unfold maxLen;omega,by unfold maxLen;omega,by unfold maxLen;omega,key⟩
theorem noBk_ok:noBk.sized/\noBk.tiny:=⟨⟨AJ _,AJ _,AJ _,(λ_ h=>by cases h),(λ_ h=>by cases h),(λ_ h=>by cases h)⟩,AJ _,AJ _,AJ _⟩
theorem Ky{B:Bk}{E:Ev}(hZ:B.sized)(hS:B.tiny)(hE:E.sized):(Cm B E).1.sized/\(Cm B E).1.tiny:=by
 unfold Cm;split
 ·rename_i hv
  split
  ·exact⟨hZ,hS⟩
  ·split
   ·split
    ·exact⟨IS hv hZ hE,M0 hv⟩
    ·exact⟨hZ,hS⟩
   ·exact⟨hZ,hS⟩
 ·exact noBk_ok
def BkC(n:Nat)(w w':World)(v:Value):Prop:=∃(a1 a2 a3:Option Addr) (c1 c2 c3:Nat) (B:Bk) (k:Int),v=.tuple #[.agg (bkV B a1 c1 a2 c2 a3 c3),.int .i64 k]/\BkAt w' a1 a2 a3 B/\B.sized/\B.tiny/\Below n w w'
theorem sea_bk(B:Bk)(E:Ev)(a1 a2 a3:Option Addr)(c1 c2 c3:Nat)(w:World)(hS:B.tiny)(hZ:B.sized)(hE:E.sized)(hB:BkAt w a1 a2 a3 B):
  Calls Try.prog 89 #[.agg (bkV B a1 c1 a2 c2 a3 c3),.agg (evV E)] w λe w'=>∃v,e=.returned v/\BkC w.heap.size w w' v:=
 (Lt B E a1 a2 a3 c1 c2 c3 w hS.small hZ hE hB).mono λ_ _ ⟨x1,x2,x3,p1,p2,p3,he,hb,hl⟩=>⟨_,he,x1,x2,x3,p1,p2,p3,_,_,rfl,hb,(Ky hZ hS hE).1,(Ky hZ hS hE).2,hl⟩
theorem apply_bk(B:Bk)(A:Ac)(a1 a2 a3:Option Addr)(c1 c2 c3:Nat)(ae:Option Addr)(ce:Nat)(w:World)(hS:B.tiny)(hZ:B.sized)(hB:BkAt w a1 a2 a3 B)(hl:A.ends.length<=1048576)(hE:SlE w ae A.ends):
  Calls Try.prog 93 #[.agg (bkV B a1 c1 a2 c2 a3 c3),.agg (acV A ae ce)] w λe w'=>∃v,e=.returned v/\BkC w.heap.size w w' v:=
 (KO B A a1 a2 a3 c1 c2 c3 ae ce w hS.small hZ hB hl hE).mono λ_ _ ⟨h,hb⟩=>by
  rcases h with⟨_,he⟩|⟨hv,g1,k1,g2,k2,g3,k3,he,hr⟩
  ·exact⟨_,he,none,none,none,0,0,0,noBk,1,rfl,⟨λh=>absurd rfl h,λh=>absurd rfl h,λh=>absurd rfl h⟩,noBk_ok.1,noBk_ok.2,hb⟩
  ·exact⟨_,he,_,_,_,k1,k2,k3,_,_,rfl,hr.at,KX A (validB_iff.1 hv) hS hZ,Hu A (validB_iff.1 hv) hS,hb⟩
end
end Go.Proofs.Ytbceafpodamnfaa
