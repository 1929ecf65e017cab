import Derived.Test.YtbceafpodamnfaaGreatH07
import Derived.Test.YtbceafpodamnfaaGreatH19
set_option linter.all false
set_option maxHeartbeats 8000000
set_option maxRecDepth 100000
namespace Go.Proofs.YtbceafpodamnfaaGreat
open Go.RowKit Go.Sort
def D0(l:List Bx):List Value:=l.flatMap Bx.cells
theorem bxsV_len(l:List Bx):(D0 l).length=l.length*4:=DV (c:=Bx.cells) (n:=4) (λ_=>rfl) l
theorem ND(x:Bx):∀u∈x.cells,u.oneCell'=true:=λu h=>by
 simp[Bx.cells]at h;rcases h with rfl|rfl|rfl|rfl<;>rfl
theorem bxsV_one(l:List Bx):∀u∈D0 l,u.oneCell'=true:=λu hu=>by
 obtain⟨s,_,h⟩:=List.mem_flatMap.1 hu;exact ND s u h
theorem BxAt.get{w:World}{b o:Nat}{s:Bx}(h:BxAt w b o s)(k:Nat)(u:Value)(hu:s.cells[k]?=some u):w.cell? ⟨b,o+k,none⟩=some u:=by
 obtain⟨h0,h1,h2,h3⟩:=h
 match k,hu with
 |0,hu=>obtain rfl:=Option.some.inj hu;exact h0
 |1,hu=>obtain rfl:=Option.some.inj hu;exact h1
 |2,hu=>obtain rfl:=Option.some.inj hu;exact h2
 |3,hu=>obtain rfl:=Option.some.inj hu;exact h3
 |k+4,hu=>simp[Bx.cells]at hu
theorem SlX.src{w:World}{ao:Option Addr}{l:List Bx}(h:SlX w ao l):l.length≠0->∃ad,ao=some ad/\∀j u,(D0 l)[j]?=some u->w.cell? (ad.add j)=some u:=λhn=>by
 obtain⟨b,off,e,_,hat⟩:=h (by intro h;rw[h]at hn;simp at hn);refine⟨_,e,λj u hu=>?_⟩;obtain⟨i,k,s,h1,h2,rfl⟩:=Do (c:=Bx.cells) (n:=4) (λ_=>rfl) l j u hu;have:=(hat i s h1).get k u h2;rw[Nat.add_assoc,<-Addr.add_lit]at this;exact this
theorem RowIs.slX{w:World}{e:TypeId}{g n cap:Nat}{l:List Bx}(h:RowIs w e 4 g n cap (D0 l))(d:Nat):SlX w (some ⟨g,d*4,none⟩) (l.drop d):=λ_=>
 ⟨g,d*4,rfl,h.lt,λi s hs=>by
  rw[List.getElem?_drop]at hs;have:=λk u hu=>h.cell (AT (c:=Bx.cells) (n:=4) (λ_=>rfl) l (d+i) s k u hs hu)
  rw[Nat.add_mul]at this
  exact⟨this 0 _ rfl,this 1 _ rfl,this 2 _ rfl,this 3 _ rfl⟩⟩
theorem Tryz.infoBookE:(Tryz.prog.info? 27).map (λi=>(i.zero,i.size,i.bytes))=some (some (.agg #[.int .i64 0,.slice none 0 0,.slice none 0 0,.slice none 0 0]),4,80):=by kernel_rfl
theorem Tryz.infosBookE:(Tryz.prog.info? 27).map (·.size)=some 4:=by kernel_rfl
theorem Tryz.infosWorldE:(Tryz.prog.info? 84).map (·.size)=some 5:=by kernel_rfl
def Bk.tiny(B:Bk):Prop:=B.svcs.length<=1000/\B.cps.length<=1000/\B.bts.length<=1000
theorem Bk.tiny.small{B:Bk}(h:B.tiny):B.small:=⟨by have:=h.1;omega,by have:=h.2.1;omega,by have:=h.2.2;omega⟩
def Tinys(l:List Bx):Prop:=∀x∈l,x.b.tiny
structure WOk(l:List Bx)(B:Bk):Prop where
 len:l.length<=8
 zs:Sizeds l
 ss:Tinys l
 bz:B.sized
 bs:B.tiny
def RowT(w:World)(ap:Option Addr)(l:List Bx):Prop:=l≠[]->∀b off,ap=some ⟨b,off,none⟩->∃cs fr,w.heap[b]?=some (.cells cs 27 fr)
theorem RowT.below{w w':World}{ap:Option Addr}{l:List Bx}(h:RowT w ap l)(hb:Below w.heap.size w w'):RowT w' ap l:=λhl b off e=>
 let ⟨cs,fr,h1⟩:=h hl b off e
 ⟨cs,fr,AK hb h1 (AB h1).1⟩
def WIs(n:Nat)(w w':World)(v:Value):Prop:=∃(ap:Option Addr) (l:List Bx) (cp:Nat) (a1 a2 a3:Option Addr) (c1 c2 c3:Nat) (B:Bk),v=.agg #[.slice ap l.length cp,.int .i64 B.now,.slice a1 B.svcs.length c1,.slice a2 B.cps.length c2,.slice a3 B.bts.length c3]/\WAt w' ap l a1 a2 a3 B/\WOk l B/\RowT w' ap l/\Below n w w'
def BkIs(n:Nat)(w w':World)(v:Value):Prop:=∃(a1 a2 a3:Option Addr) (c1 c2 c3:Nat) (B:Bk),v=.agg #[.int .i64 B.now,.slice a1 B.svcs.length c1,.slice a2 B.cps.length c2,.slice a3 B.bts.length c3]/\BkAt w' a1 a2 a3 B/\B.sized/\B.tiny/\Below n w w'
theorem KA{w w2 wz:World}{g2 m cap2 f n cap:Nat}{L:List Bx}{C:Bk}{x1 x2 x3:Option Addr}{y1 y2 y3:Nat}(hR:RowIs w2 27 4 g2 m cap2 (D0 L))(hX:∀x∈L,BkAt w x.a1 x.a2 x.a3 x.b/\x.b.sized/\x.b.tiny)(hC:BkAt w x1 x2 x3 C)(hz:C.sized)(hs:C.tiny)
  (hb:Below w.heap.size w w2) (on:BA f w2 wz) (hf:w.heap.size<=f) (hg:f<g2) (d:Nat) (hn:(L.drop d).length=n) (h8:n<=8):
  ∃v,Ending.returned (.agg #[.slice (some ⟨g2,d*4,none⟩) n cap,.int .i64 C.now,.slice x1 C.svcs.length y1,.slice x2 C.cps.length y2,.slice x3 C.bts.length y3])=.returned v/\WIs w.heap.size w wz v:=by
 have hbz:Below w.heap.size w wz:=hb.trans (on.below.mono hf);have hm:∀x∈L.drop d,x∈L:=λx h=>List.mem_of_mem_drop h
 subst hn;refine⟨_,rfl,_,L.drop d,cap,x1,x2,x3,y1,y2,y3,C,rfl,⟨(hR.blk (on.other g2 (by omega))).slX d,λx h=>(hX x (hm x h)).1.below hbz,hC.below hbz⟩,⟨h8,λx h=>(hX x (hm x h)).2.1,λx h=>(hX x (hm x h)).2.2,hz,hs⟩,λ_ b off e=>?_,hbz⟩;injection e with e
 injection e with e _
 subst e;obtain⟨_,_,cur,hc,_⟩:=hR.blk (on.other g2 (by omega));exact⟨_,_,hc⟩
theorem Ll(l:List Bx)(ap:Option Addr)(cp:Nat)(B C:Bk)(a1 a2 a3 x1 x2 x3:Option Addr)(c1 c2 c3 y1 y2 y3:Nat)(w:World)(hO:WOk l B)(hCz:C.sized)(hCs:C.tiny)(hW:WAt w ap l a1 a2 a3 B)(hT:RowT w ap l)(hC:BkAt w x1 x2 x3 C):
  Calls Tryz.prog 82 #[.agg #[.slice ap l.length cp,.int .i64 B.now,.slice a1 B.svcs.length c1,.slice a2 B.cps.length c2,.slice a3 B.bts.length c3],.agg #[.int .i64 C.now,.slice x1 C.svcs.length y1,.slice x2 C.cps.length y2,.slice x3 C.bts.length y3]] w λe w'=>∃v,e=.returned v/\WIs w.heap.size w w' v:=by
 have HW:Hid (WAt w ap l a1 a2 a3 B):=hW;have HC:Hid (BkAt w x1 x2 x3 C):=hC;have HT:Hid (RowT w ap l):=hT;have HO:Hid (WOk l B):=hO;have HCz:Hid (C.sized):=hCz;have HCs:Hid (C.tiny):=hCs;have hl8:=hO.len;clear hW hC hO hCz hCs hT
 obtain⟨W0,hW0,t0,t1,t2,hz0,hs0,hb0⟩:∃W0,((w.alloc (.cells #[.slice ap l.length cp,.int .i64 B.now,.slice a1 B.svcs.length c1,.slice a2 B.cps.length c2,.slice a3 B.bts.length c3] 84)).alloc (.cells #[.int .i64 C.now,.slice x1 C.svcs.length y1,.slice x2 C.cps.length y2,.slice x3 C.bts.length y3] 27)).alloc (.cells #[.slice none 0 0,.int .i64 0,.slice none 0 0,.slice none 0 0,.slice none 0 0] 84)=W0/\W0.heap[w.heap.size]?=some (.cells #[.slice ap l.length cp,.int .i64 B.now,.slice a1 B.svcs.length c1,.slice a2 B.cps.length c2,.slice a3 B.bts.length c3] 84 (0,0))/\W0.heap[w.heap.size+1]?=some (.cells #[.int .i64 C.now,.slice x1 C.svcs.length y1,.slice x2 C.cps.length y2,.slice x3 C.bts.length y3] 27 (0,0))/\W0.heap[w.heap.size+2]?=some (.cells #[.slice none 0 0,.int .i64 0,.slice none 0 0,.slice none 0 0,.slice none 0 0] 84 (0,0))/\w.heap.size<W0.heap.size/\W0.heap.size=w.heap.size+3/\Below w.heap.size w W0:=by
  obtain⟨h1,h2,h3⟩:=B0 w (.cells #[.slice ap l.length cp,.int .i64 B.now,.slice a1 B.svcs.length c1,.slice a2 B.cps.length c2,.slice a3 B.bts.length c3] 84) (.cells #[.int .i64 C.now,.slice x1 C.svcs.length y1,.slice x2 C.cps.length y2,.slice x3 C.bts.length y3] 27);obtain⟨X,hX⟩:∃X,(w.alloc (.cells #[.slice ap l.length cp,.int .i64 B.now,.slice a1 B.svcs.length c1,.slice a2 B.cps.length c2,.slice a3 B.bts.length c3] 84)).alloc (.cells #[.int .i64 C.now,.slice x1 C.svcs.length y1,.slice x2 C.cps.length y2,.slice x3 C.bts.length y3] 27)=X:=⟨_,rfl⟩;rw[hX]at h1 h2 h3;rw[hX];have hbX:Below w.heap.size w X:=by rw[<-hX];exact(AM w _).alloc (by show w.heap.size<=(w.heap.push _).size;simp) _
  have hz:(X.alloc (.cells #[.slice none 0 0,.int .i64 0,.slice none 0 0,.slice none 0 0,.slice none 0 0] 84)).heap.size=X.heap.size+1:=by show(X.heap.push _).size=_;simp
  refine⟨_,rfl,(heap_alloc_old X _ (by omega)).trans h1,(heap_alloc_old X _ (by omega)).trans h2,?_,by omega,by omega,hbX.alloc (by omega) _⟩;have:=heap_alloc_new X (.cells #[.slice none 0 0,.int .i64 0,.slice none 0 0,.slice none 0 0,.slice none 0 0] 84)
  rwa [h3]at this
 have T0:Hid _:=t0;have T1:Hid _:=t1;have T2:Hid _:=t2;have e0:W0.cell? ⟨w.heap.size,1,none⟩=some (.int .i64 B.now):=AJ t0 1 rfl;have e1:W0.cell? ⟨w.heap.size+1,0,none⟩=some (.int .i64 C.now):=AJ t1 0 rfl;clear t0 t1 t2;go_enter Tryz.func82,Tryz.ntmps82
 go_upto_region 1 with fail
 clear hW0
 by_cases hn:C.now=B.now
 ·have hnb:(C.now==B.now)=true:=by simp[hn]
  go_wp2_with (first|((with_reducible show wpList _ _ _ _ _ _);refine wpList_load_row rfl 84 (.tmp 2) rfl w.heap.size rfl 84 #[.slice ap l.length cp,.int .i64 B.now,.slice a1 B.svcs.length c1,.slice a2 B.cps.length c2,.slice a3 B.bts.length c3] (0,0) _ T0.out Tryz.underlying84 rfl Tryz.infosWorldE ?_)|((with_reducible show wpList _ _ _ _ _ _);refine AL rfl 84 (.tmp 4) (.tmp 12) rfl (w.heap.size+2) 0 #[.slice ap l.length cp,.int .i64 B.now,.slice a1 B.svcs.length c1,.slice a2 B.cps.length c2,.slice a3 B.bts.length c3] rfl rfl 84 #[.slice none 0 0,.int .i64 0,.slice none 0 0,.slice none 0 0,.slice none 0 0] T2.out Tryz.infosWorldE (AD rfl) (by simp[Value.oneCell']) ?_;intro wz hz on;simp only[Act.put]))
  refine bodyPost_ret (results_cell_row rfl _ wz (w.heap.size+2) 84 #[.slice ap l.length cp,.int .i64 B.now,.slice a1 B.svcs.length c1,.slice a2 B.cps.length c2,.slice a3 B.bts.length c3] (0,0) _ rfl hz.out Tryz.underlying84 rfl Tryz.infosWorldE) rfl ?_;have hb:Below w.heap.size w wz:=hb0.trans (on.below.mono (by omega));exact⟨_,rfl,ap,l,cp,a1,a2,a3,c1,c2,c3,B,rfl,HW.out.below hb,HO.out,HT.out.below hb,hb⟩
 have hnb:(C.now==B.now)=false:=by simp[hn]
 go_upto_region 3 with fail
 clear e0 e1;refine An 7 (by kernel_rfl) (by kernel_rfl) ?_;refine Aq (λv W=>∃g,v=.slice (some ⟨g,0,none⟩) 0 0/\w.heap.size+3<=g/\W.heap[g]?=some (.cells #[] 27 (0,0))) (λ_ _ _ ⟨g,h1,h2,h3⟩ hb=>⟨g,h1,h2,AK hb h3 (AB h3).1⟩) ?_ ?_
 ·intro V W K A hW hd hA hK
  simp only[pA]at hA;clear hd;obtain rfl:=hA;go_wp2;exact hK.out _ _ (AM _ _) ⟨W.heap.size,rfl,AH (by omega) hW.size,heap_alloc_new W _⟩
 apply AQ
 ·intro V W K A hW hd hA hK
  simp only[pA]at hA;clear hd;obtain rfl:=hA;go_wp2;exact hK.out _ brf
 apply AQ
 ·intro V W K A hW hd hA hK
  have d1:V 1=_:=hd 1 (by kernel_rfl);simp only[pA,d1,d1]at hA;clear hd d1;obtain rfl:=hA;have e0:W.cell? ⟨w.heap.size,0,none⟩=some (.slice ap l.length cp):=AJ (AK hW T0.out hz0) 0 rfl;go_wp2;exact hK.out _ brf
 refine Aq (λv W=>∃g cap,v=.slice (some ⟨g,0,none⟩) l.length cap/\w.heap.size+3<=g/\RowIs W 27 4 g l.length cap (D0 l)) (λ_ _ _ ⟨g,cap,h1,h2,h3⟩ hb=>⟨g,cap,h1,h2,h3.below hb h3.lt⟩) ?_ ?_
 ·intro V W K A hW hd hA hK
  have d0:(λv W=>∃g,v=.slice (some ⟨g,0,none⟩) 0 0/\w.heap.size+3<=g/\W.heap[g]?=some (.cells #[] 27 (0,0))) (V 0) W:=hd 0 (by kernel_rfl);have d2:V 2=_:=hd 2 (by kernel_rfl);simp only[pA,d2,d2]at hA;clear hd d2;generalize V 0=x0 at d0 hA;obtain rfl:=hA;obtain⟨g,rfl,hg,hgz⟩:=d0;refine CO rfl (.tmp 13) (.tmp 15) 82 rfl 27 _ 4 80 Tryz.underlying82 Tryz.infoBookE rfl g rfl hgz ap l.length cp (D0 l) rfl (bxsV_len _) ((HW.out.row.below hb0).below hW).src (bxsV_one _) (by unfold maxLen;omega) (by omega) ?_;intro g' cap' w2 hg' hrow hb2
  have hgg:w.heap.size+3<=g':=by
   have:=hW.size;rcases hg' with rfl|rfl<;>omega
  go_wp2;exact hK.out _ _ hb2 ⟨g',cap',rfl,hgg,hrow.out⟩
 apply AQ
 ·intro V W K A hW hd hA hK
  simp only[pA]at hA;clear hd;obtain rfl:=hA;go_wp2;exact hK.out _ brf
 apply AQ
 ·intro V W K A hW hd hA hK
  have d4:V 4=_:=hd 4 (by kernel_rfl);simp only[pA,d4,d4]at hA;clear hd d4;obtain rfl:=hA;have e1:W.cell? ⟨w.heap.size,1,none⟩=some (.int .i64 B.now):=AJ (AK hW T0.out hz0) 1 rfl;have e2:W.cell? ⟨w.heap.size,2,none⟩=some (.slice a1 B.svcs.length c1):=AJ (AK hW T0.out hz0) 2 rfl;have e3:W.cell? ⟨w.heap.size,3,none⟩=some (.slice a2 B.cps.length c2):=AJ (AK hW T0.out hz0) 3 rfl;have e4:W.cell? ⟨w.heap.size,4,none⟩=some (.slice a3 B.bts.length c3):=AJ (AK hW T0.out hz0) 4 rfl;go_wp2;exact hK.out _ brf
 refine Aq (λv W=>∃g,v=.slice (some ⟨g,0,none⟩) 1 1/\w.heap.size+3<=g/\W.heap[g]?=some (.cells #[.int .i64 B.now,.slice a1 B.svcs.length c1,.slice a2 B.cps.length c2,.slice a3 B.bts.length c3] 27 (0,0))) (λ_ _ _ ⟨g,h1,h2,h3⟩ hb=>⟨g,h1,h2,AK hb h3 (AB h3).1⟩) ?_ ?_
 ·intro V W K A hW hd hA hK
  have d5:V 5=_:=hd 5 (by kernel_rfl);simp only[pA,d5,d5]at hA;clear hd d5;obtain rfl:=hA;go_wp2;exact hK.out _ _ (AM _ _) ⟨W.heap.size,rfl,AH (by omega) hW.size,heap_alloc_new W _⟩
 intro V W A hW hS hA;have d0:(λv W=>∃g,v=.slice (some ⟨g,0,none⟩) 0 0/\w.heap.size+3<=g/\W.heap[g]?=some (.cells #[] 27 (0,0))) (V 0) W:=hS 0 (by omega);have d1:V 1=_:=hS 1 (by omega);have d2:V 2=_:=hS 2 (by omega);have d3:(λv W=>∃g cap,v=.slice (some ⟨g,0,none⟩) l.length cap/\w.heap.size+3<=g/\RowIs W 27 4 g l.length cap (D0 l)) (V 3) W:=hS 3 (by omega);have d4:V 4=_:=hS 4 (by omega);have d5:V 5=_:=hS 5 (by omega);have d6:(λv W=>∃g,v=.slice (some ⟨g,0,none⟩) 1 1/\w.heap.size+3<=g/\W.heap[g]?=some (.cells #[.int .i64 B.now,.slice a1 B.svcs.length c1,.slice a2 B.cps.length c2,.slice a3 B.bts.length c3] 27 (0,0))) (V 6) W:=hS 6 (by omega);simp only[pA,d1,d2,d4,d5,d1,d2,d4,d5]at hA;clear hS d1 d2 d4 d5;generalize V 0=x0 at d0 hA;generalize V 3=x3 at d3 hA;generalize V 6=x6 at d6 hA;obtain rfl:=hA;simp only[List.drop_succ_cons,List.drop_zero];obtain⟨g,cap,rfl,hg,hrow⟩:=d3;obtain⟨k,rfl,hk,hkb⟩:=d6;clear d0;refine CG rfl (.tmp 16) (.tmp 19) 82 rfl 27 _ 4 80 Tryz.underlying82 Tryz.infoBookE rfl g l.length cap (D0 l) rfl hrow ⟨k,0,none⟩ 1 1 (Bx.cells ⟨B,a1,a2,a3,c1,c2,c3⟩) rfl rfl (λj u hu=>by have h1:=AJ hkb j (v:=u) (by simpa [Bx.cells] using hu);rw[show(⟨k,0,none⟩:Addr).add j=⟨k,j,none⟩ by rw[Addr.add_lit,Nat.zero_add]];exact h1) (ND _) (by unfold maxLen;omega) (by omega) ?_;intro g2 cap2 w2 hg2 hrow2 hgr;have hb2:Below (w.heap.size+3) W w2:=(Below.refl _ _).grown hgr (by have:=hW.size;omega) (λk h=>by cases h;exact hg);have hbw:Below w.heap.size w w2:=(hb0.trans (hW.mono (by omega))).trans (hb2.mono (by omega))
 have T1':Hid _:=AK hb2 (AK hW T1.out (by omega)) (by omega);have T2':Hid _:=AK hb2 (AK hW T2.out (by omega)) (by omega)
 have HR:Hid (RowIs w2 27 4 g2 (l.length+1) cap2 (D0 (l++[(⟨B,a1,a2,a3,c1,c2,c3⟩:Bx)]))):=by
  have:=hrow2.out;unfold Hid
  rwa [show D0 l++Bx.cells ⟨B,a1,a2,a3,c1,c2,c3⟩=D0 (l++[(⟨B,a1,a2,a3,c1,c2,c3⟩:Bx)]) by simp[D0]]at this
 obtain⟨L,hL⟩:∃L,l++[(⟨B,a1,a2,a3,c1,c2,c3⟩:Bx)]=L:=⟨_,rfl⟩;rw[hL]at HR
 have HX:Hid (∀x∈L,BkAt w x.a1 x.a2 x.a3 x.b/\x.b.sized/\x.b.tiny):=λx hx=>by
  rw[<-hL]at hx;rcases List.mem_append.1 hx with h|h
  ·exact⟨HW.out.ins x h,HO.out.zs x h,HO.out.ss x h⟩
  ·obtain rfl:=List.mem_singleton.1 h
   exact⟨HW.out.book,HO.out.bz,HO.out.bs⟩
 have hLl:L.length=l.length+1:=by rw[<-hL];simp
 have hWs:=hW.size;clear hrow hkb hgr hb2 hW T0 T1 T2 hrow2 hL HW HO;simp only[Act.put]
 have hg2':w.heap.size+3<=g2:=by
  rcases hg2 with rfl|rfl
  ·exact hg
  ·omega
 have hcap:=HR.out.2.1
 by_cases h8:l.length=8
 ·have hc1:¬cap2=1:=by omega
  go_wp2_with (first|((with_reducible show wpList _ _ _ _ _ _);refine wpList_load_row rfl 27 (.tmp 3) rfl (w.heap.size+1) rfl 27 #[.int .i64 C.now,.slice x1 C.svcs.length y1,.slice x2 C.cps.length y2,.slice x3 C.bts.length y3] (0,0) _ T1'.out Tryz.underlying27 rfl Tryz.infosBookE ?_)|((with_reducible show wpList _ _ _ _ _ _);refine AL rfl 84 (.tmp 4) (.tmp 28) rfl (w.heap.size+2) 0 #[.slice (some ⟨g2,4,none⟩) 8 (cap2 - 1),.int .i64 C.now,.slice x1 C.svcs.length y1,.slice x2 C.cps.length y2,.slice x3 C.bts.length y3] rfl rfl 84 #[.slice none 0 0,.int .i64 0,.slice none 0 0,.slice none 0 0,.slice none 0 0] T2'.out Tryz.infosWorldE (AD rfl) (by simp[Value.oneCell']) ?_;intro wz hz on;simp only[Act.put]))
  refine bodyPost_ret (results_cell_row rfl _ wz (w.heap.size+2) 84 #[.slice (some ⟨g2,4,none⟩) 8 (cap2 - 1),.int .i64 C.now,.slice x1 C.svcs.length y1,.slice x2 C.cps.length y2,.slice x3 C.bts.length y3] (0,0) _ rfl hz.out Tryz.underlying84 rfl Tryz.infosWorldE) rfl ?_;exact KA HR.out HX.out HC.out HCz.out HCs.out hbw on (by omega) (by omega) 1 (by rw[List.length_drop,hLl];omega) (by omega)
 have h8':¬(8:Int)<(l.length:Int)+1:=by omega
 go_wp2_with (first|((with_reducible show wpList _ _ _ _ _ _);refine wpList_load_row rfl 27 (.tmp 3) rfl (w.heap.size+1) rfl 27 #[.int .i64 C.now,.slice x1 C.svcs.length y1,.slice x2 C.cps.length y2,.slice x3 C.bts.length y3] (0,0) _ T1'.out Tryz.underlying27 rfl Tryz.infosBookE ?_)|((with_reducible show wpList _ _ _ _ _ _);refine AL rfl 84 (.tmp 4) (.tmp 28) rfl (w.heap.size+2) 0 #[.slice (some ⟨g2,0,none⟩) (l.length+1) cap2,.int .i64 C.now,.slice x1 C.svcs.length y1,.slice x2 C.cps.length y2,.slice x3 C.bts.length y3] rfl rfl 84 #[.slice none 0 0,.int .i64 0,.slice none 0 0,.slice none 0 0,.slice none 0 0] T2'.out Tryz.infosWorldE (AD rfl) (by simp[Value.oneCell']) ?_;intro wz hz on;simp only[Act.put]))
 refine bodyPost_ret (results_cell_row rfl _ wz (w.heap.size+2) 84 #[.slice (some ⟨g2,0,none⟩) (l.length+1) cap2,.int .i64 C.now,.slice x1 C.svcs.length y1,.slice x2 C.cps.length y2,.slice x3 C.bts.length y3] (0,0) _ rfl hz.out Tryz.underlying84 rfl Tryz.infosWorldE) rfl ?_;exact KA HR.out HX.out HC.out HCz.out HCs.out hbw on (by omega) (by omega) 0 (by rw[List.drop_zero,hLl]) (by omega)
theorem view_any(l:List Bx)(ap:Option Addr)(cp:Nat)(B:Bk)(a1 a2 a3:Option Addr)(c1 c2 c3:Nat)(age:Int)(w:World)(ha0:0<=age)(ha1:age<=1000)(hO:WOk l B)(hW:WAt w ap l a1 a2 a3 B):
  Calls Tryz.prog 84 #[.agg #[.slice ap l.length cp,.int .i64 B.now,.slice a1 B.svcs.length c1,.slice a2 B.cps.length c2,.slice a3 B.bts.length c3],.int .i64 age] w λe w'=>∃v,e=.returned v/\BkIs w.heap.size w w' v:=by
 have HW:Hid (WAt w ap l a1 a2 a3 B):=hW;have HO:Hid (WOk l B):=hO;have hl8:=hO.len;clear hW hO
 obtain⟨W0,hW0,t0,t1,hs0,hb0⟩:∃W0,(w.alloc (.cells #[.slice ap l.length cp,.int .i64 B.now,.slice a1 B.svcs.length c1,.slice a2 B.cps.length c2,.slice a3 B.bts.length c3] 84)).alloc (.cells #[.int .i64 0,.slice none 0 0,.slice none 0 0,.slice none 0 0] 27)=W0/\W0.heap[w.heap.size]?=some (.cells #[.slice ap l.length cp,.int .i64 B.now,.slice a1 B.svcs.length c1,.slice a2 B.cps.length c2,.slice a3 B.bts.length c3] 84 (0,0))/\W0.heap[w.heap.size+1]?=some (.cells #[.int .i64 0,.slice none 0 0,.slice none 0 0,.slice none 0 0] 27 (0,0))/\W0.heap.size=w.heap.size+1+1/\Below w.heap.size w W0:=by
  obtain⟨h1,h2,h3⟩:=B0 w (.cells #[.slice ap l.length cp,.int .i64 B.now,.slice a1 B.svcs.length c1,.slice a2 B.cps.length c2,.slice a3 B.bts.length c3] 84) (.cells #[.int .i64 0,.slice none 0 0,.slice none 0 0,.slice none 0 0] 27);exact⟨_,rfl,h1,h2,h3,(AM w _).alloc (by show w.heap.size<=(w.heap.push _).size;simp) _⟩
 have T1:Hid _:=t1;have e0:W0.cell? ⟨w.heap.size,0,none⟩=some (.slice ap l.length cp):=AJ t0 0 rfl;have e1:W0.cell? ⟨w.heap.size,1,none⟩=some (.int .i64 B.now):=AJ t0 1 rfl;have e2:W0.cell? ⟨w.heap.size,2,none⟩=some (.slice a1 B.svcs.length c1):=AJ t0 2 rfl;have e3:W0.cell? ⟨w.heap.size,3,none⟩=some (.slice a2 B.cps.length c2):=AJ t0 3 rfl;have e4:W0.cell? ⟨w.heap.size,4,none⟩=some (.slice a3 B.bts.length c3):=AJ t0 4 rfl;clear t0 t1;go_enter Tryz.func84,Tryz.ntmps84
 go_upto_region 1 with fail
 clear hW0
 by_cases hn:age=0
 ·subst hn
  go_wp2_with ((with_reducible show wpList _ _ _ _ _ _);refine AL rfl 27 (.tmp 4) (.tmp 14) rfl (w.heap.size+1) 0 #[.int .i64 B.now,.slice a1 B.svcs.length c1,.slice a2 B.cps.length c2,.slice a3 B.bts.length c3] rfl rfl 27 #[.int .i64 0,.slice none 0 0,.slice none 0 0,.slice none 0 0] T1.out Tryz.infosBookE (AD rfl) (by simp[Value.oneCell']) ?_;intro wz hz on;simp only[Act.put])
  refine bodyPost_ret (results_cell_row rfl _ wz (w.heap.size+1) 27 #[.int .i64 B.now,.slice a1 B.svcs.length c1,.slice a2 B.cps.length c2,.slice a3 B.bts.length c3] (0,0) _ rfl hz.out Tryz.underlying27 rfl Tryz.infosBookE) rfl ?_;have hb:Below w.heap.size w wz:=hb0.trans (on.below.mono (by omega));exact⟨_,rfl,a1,a2,a3,c1,c2,c3,B,rfl,HW.out.book.below hb,HO.out.bz,HO.out.bs,hb⟩
 have hn0:decide (age<=0)=false:=by simp;omega
 by_cases hz0:l.length=0
 ·have hzb:((l.length:Int)==0)=true:=by simp[hz0]
  go_wp2_with ((with_reducible show wpList _ _ _ _ _ _);refine AL rfl 27 (.tmp 4) (.tmp 14) rfl (w.heap.size+1) 0 #[.int .i64 B.now,.slice a1 B.svcs.length c1,.slice a2 B.cps.length c2,.slice a3 B.bts.length c3] rfl rfl 27 #[.int .i64 0,.slice none 0 0,.slice none 0 0,.slice none 0 0] T1.out Tryz.infosBookE (AD rfl) (by simp[Value.oneCell']) ?_;intro wz hz on;simp only[Act.put])
  refine bodyPost_ret (results_cell_row rfl _ wz (w.heap.size+1) 27 #[.int .i64 B.now,.slice a1 B.svcs.length c1,.slice a2 B.cps.length c2,.slice a3 B.bts.length c3] (0,0) _ rfl hz.out Tryz.underlying27 rfl Tryz.infosBookE) rfl ?_;have hb:Below w.heap.size w wz:=hb0.trans (on.below.mono (by omega));exact⟨_,rfl,a1,a2,a3,c1,c2,c3,B,rfl,HW.out.book.below hb,HO.out.bz,HO.out.bs,hb⟩
 have hzb:((l.length:Int)==0)=false:=beq_eq_false_iff_ne.2 (by omega);obtain⟨b,off,ea,hbs,hat⟩:=HW.out.row (by intro h;rw[h]at hz0;simp at hz0);subst ea
 by_cases hgt:(l.length:Int)<age
 ·have hgb:decide ((l.length:Int)<age)=true:=by simp[hgt]
  have h0:0<l.length:=by omega
  obtain⟨s,hsk⟩:∃s,l[0]?=some s:=⟨l[0],by simp⟩;have HM:Hid (s∈l):=AE hsk;have hcs:=(hat _ s hsk).below hb0 hbs;unfold BxAt at hcs;simp only[Nat.zero_mul,Nat.add_zero]at hcs;have hll:(l.length:Int) - (l.length:Int)=0:=by omega
  obtain⟨q0,q1,q2,q3⟩:=hcs;clear hsk hat
  go_wp2_with ((with_reducible show wpList _ _ _ _ _ _);refine AL rfl 27 (.tmp 4) (.tmp 31) rfl (w.heap.size+1) 0 #[.int .i64 s.b.now,.slice s.a1 s.b.svcs.length s.c1,.slice s.a2 s.b.cps.length s.c2,.slice s.a3 s.b.bts.length s.c3] rfl rfl 27 #[.int .i64 0,.slice none 0 0,.slice none 0 0,.slice none 0 0] T1.out Tryz.infosBookE (AD rfl) (by simp[Value.oneCell']) ?_;intro wz hz on;simp only[Act.put])
  refine bodyPost_ret (results_cell_row rfl _ wz (w.heap.size+1) 27 #[.int .i64 s.b.now,.slice s.a1 s.b.svcs.length s.c1,.slice s.a2 s.b.cps.length s.c2,.slice s.a3 s.b.bts.length s.c3] (0,0) _ rfl hz.out Tryz.underlying27 rfl Tryz.infosBookE) rfl ?_;have hb:Below w.heap.size w wz:=hb0.trans (on.below.mono (by omega));exact⟨_,rfl,s.a1,s.a2,s.a3,s.c1,s.c2,s.c3,s.b,rfl,(HW.out.ins s HM.out).below hb,HO.out.zs s HM.out,HO.out.ss s HM.out,hb⟩
 have hgb:decide ((l.length:Int)<age)=false:=by simp[hgt]
 obtain⟨k,hk⟩:∃k:Nat,(l.length:Int) - age=k:=⟨((l.length:Int) - age).toNat,by omega⟩;have hkl:k<l.length:=by omega
 obtain⟨s,hsk⟩:∃s,l[k]?=some s:=⟨l[k],by simp⟩;have HM:Hid (s∈l):=AE hsk;have hcs:=(hat _ s hsk).below hb0 hbs;unfold BxAt at hcs;obtain⟨q0,q1,q2,q3⟩:=hcs;clear hsk hat
 go_wp2_with ((with_reducible show wpList _ _ _ _ _ _);refine AL rfl 27 (.tmp 4) (.tmp 31) rfl (w.heap.size+1) 0 #[.int .i64 s.b.now,.slice s.a1 s.b.svcs.length s.c1,.slice s.a2 s.b.cps.length s.c2,.slice s.a3 s.b.bts.length s.c3] rfl rfl 27 #[.int .i64 0,.slice none 0 0,.slice none 0 0,.slice none 0 0] T1.out Tryz.infosBookE (AD rfl) (by simp[Value.oneCell']) ?_;intro wz hz on;simp only[Act.put])
 refine bodyPost_ret (results_cell_row rfl _ wz (w.heap.size+1) 27 #[.int .i64 s.b.now,.slice s.a1 s.b.svcs.length s.c1,.slice s.a2 s.b.cps.length s.c2,.slice s.a3 s.b.bts.length s.c3] (0,0) _ rfl hz.out Tryz.underlying27 rfl Tryz.infosBookE) rfl ?_;have hb:Below w.heap.size w wz:=hb0.trans (on.below.mono (by omega));exact⟨_,rfl,s.a1,s.a2,s.a3,s.c1,s.c2,s.c3,s.b,rfl,(HW.out.ins s HM.out).below hb,HO.out.zs s HM.out,HO.out.ss s HM.out,hb⟩
end Go.Proofs.YtbceafpodamnfaaGreat
