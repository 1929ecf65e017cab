import Derived.Test.YtbceafpodamnfaaGreatDoorG16
import Derived.Test.YtbceafpodamnfaaGreatDoorG18
set_option linter.all false
set_option maxHeartbeats 8000000
set_option maxRecDepth 100000
namespace Go.Proofs.YtbceafpodamnfaaGreatDoor
section
open Go.RowKit Go.Sort
theorem bits_xor{x y:Int}(hx:0<=x)(J:x<1125899906842624)(W:0<=y)(F:y<1125899906842624):0<=bits .xor .i64 x y/\bits .xor .i64 x y<1125899906842624:=by
 obtain⟨a,rfl⟩:=fU hx;obtain⟨b,rfl⟩:=fU W;have M:a<2 ^ 50:=by omega
 have hb:b<2 ^ 50:=by omega
 have H:=Nat.xor_lt_two_pow M hb
 have e:(BitVec.ofInt 64 (a:Int) ^^^ BitVec.ofInt 64 (b:Int)).toNat=a ^^^ b:=by
  rw[BitVec.toNat_xor,BitVec.ofInt_natCast,BitVec.ofInt_natCast,BitVec.toNat_ofNat,BitVec.toNat_ofNat,Nat.mod_eq_of_lt (by omega),Nat.mod_eq_of_lt (by omega)]
 have e2:bits .xor .i64 a b=IntKind.wrap .i64 ((a ^^^ b:Nat):Int):=by
  show IntKind.wrap .i64 ((BitVec.ofInt 64 (a:Int) ^^^ BitVec.ofInt 64 (b:Int)).toNat:Int)=_;rw[e]
 rw[e2];generalize a ^^^ b=c at H;have:IntKind.wrap .i64 (c:Int)=c:=by simp only[IntKind.wrap,IntKind.signed,IntKind.bits,gL];split<;>(rename_i h;simp at h;omega)
 rw[this];omega
theorem R4{r:Nat}{w w':World}{ao:qO}{n cap:Nat}{p:Int}(h:qBl w r #[.slice ao n cap,.int .i64 p] 139)(h':qBl w' r #[.slice ao n cap,.int .i64 (p+1)] 139)(on:A6 r w w'):RStep r 1 w w':=by
 have J:Past r w.heap.size w w':=⟨on.below.os,on.below.tape,on.below.output,on.below.size,λk _ W=>on.aB k W⟩;refine⟨J,?_⟩;rintro q ⟨M,n',H,p',F,h2,h3,Z,Y⟩;rw[h]at F;injection F with F
 injection F with F
 injection F with F
 injection F with hs F
 injection F with F
 injection hs with e1 e2 e3
 injection F with _ e4
 subst e1 e2 e3 e4;exact⟨_,_,_,_,h',by omega,by omega,Z,Y.aP J⟩
def FR(m k:Int):Prop:=0<=k/\(1<=m->k<m)/\(m<1->k=0)
theorem K4{m x:Int}(F:1<=m):FR m (x%m):=⟨Int.emod_nonneg _ (by omega),λ_=>i9 _ (by omega),λh=>absurd h (by omega)⟩
theorem CS(r:Nat)(m q:Int)(w:World)(bi: -1125899906842624<m)(bl:m<1125899906842624)(hR:Rd r w q)(hq:q<=1000000000000):
  Calls Tryz.prog 38 #[.pointer (qad r),.int .i64 m] w λe w'=>∃k:Int,e=.returned (.int .i64 k)/\FR m k/\RStep r 1 w w':=by
 obtain⟨ao,n,cap,p,hB,h2,h3,h4,h5⟩:=hR;have HB:Hid _:=hB;have HA:Hid (ByAt r w ao n):=h5;have bk:r<w.heap.size:=(AB hB).1;have hp:p<=1000000000000:=by omega
 have e0:=AJ hB 0 rfl;have e1:=AJ hB 1 rfl;have f1:=Bs hB 1;clear hB h5 h3 hq q;go_enter Tryz.func38,Tryz.ntmps38
 go_upto_region 2 with(with_reducible (show wpList _ _ _ _ _ _);refine BC rfl 3 (.tmp 14) (.tmp 12) rfl r 1 (.int .i64 (p+1)) rfl rfl Hj rfl rfl 139 #[.slice ao n cap,.int .i64 p] HB.O (AG _) ?_;intro H aa an;simp only[Act.put])
 have HS:Hid (RStep r 1 w H):=R4 HB.O aa.O an;have aI:Hid (ByAt r H ao n):=HA.O.aP HS.O.1;have hb:qBl H r #[.slice ao n cap,.int .i64 (p+1)] 139:=aa.O;clear e0 e1 f1 HB HA an aa;have HB:Hid _:=hb;have e0:=AJ hb 0 rfl;have e1:=AJ hb 1 rfl;clear hb
 by_cases hm:m<1
 ·go_wp2
  go_ret;exact⟨0,rfl,⟨by omega,λh=>absurd h (by omega),λ_=>rfl⟩,HS.O⟩
 by_cases hn:n=0
 ·subst hn
  go_wp2;go_ret;exact⟨0,rfl,⟨by omega,λh=>by omega,λ_=>rfl⟩,HS.O⟩
 have al:¬((n:Int)=0):=by omega
 obtain⟨b,off,ea,bH,bo,HC⟩:∃b off,ao=some ⟨b,off,none⟩/\b<H.heap.size/\b<r/\Hid (∀i,i<n->∃x:Int,H.cell? ⟨b,off+i,none⟩=some (.int .u8 x)/\0<=x/\x<256):=aI.O (by omega);subst ea
 by_cases hk:p<n
 ·obtain⟨i,rfl⟩:=fU h2
  obtain⟨x,hx,F,af⟩:=HC.O i (by omega);have ay:Hid (FR m (x%m)):=K4 (by omega);go_wp2;go_ret;exact⟨_,rfl,ay.O,HS.O⟩
 have J:=Int.emod_nonneg p al;have W:=i9 p (show 0<(n:Int) by omega);have M:=Int.emod_nonneg (p*7+3) al;have Z:=i9 (p*7+3) (show 0<(n:Int) by omega);have az:0<=Int.tdiv p n:=Int.tdiv_nonneg h2 (by omega);have aw:Int.tdiv p n<=p:=Int.tdiv_le_self _ h2;obtain⟨d,hd⟩:∃d,Int.tdiv p n=d:=⟨_,rfl⟩;have ax:p / n=d:=by rw[<-hd,ik h2]
 obtain⟨j1,ar⟩:=fU J;obtain⟨j2,aq⟩:=fU M;rw[ar]at W;rw[aq]at Z;rw[hd]at az aw;obtain⟨x1,af,a8,a7⟩:=HC.O j1 (by omega);obtain⟨x2,ak,aW,a5⟩:=HC.O j2 (by omega);have r0:∀p:Regrown,(grow (redrawn H p.d) p.os).cell? ⟨r,0,none⟩=some (.slice (some ⟨b,off,none⟩) n cap):=Aq HB.O 0 rfl;have r1:=λp:Regrown=>jl af p.d p.os
 have r2:=λp:Regrown=>jl ak p.d p.os
 clear J M
 go_upto_region 7 with fail
 refine ji (by kernel_rfl) (by kernel_rfl) ?_
 repeat (first|go_big_quiet_step (fail)|quiet_step (fail))
 refine jk ?_;intro w2 aC;obtain⟨⟨dq,bt⟩,Y⟩:=aC;have hW:Below H.heap.size H w2:=by rw[Y];exact jj _ _ _
 clear Y;obtain⟨x,hx⟩:∃x,x1*131+x2*1117+p*29+d*53=x:=⟨_,rfl⟩;have F:0<=x:=by omega
 have aE:x<1125899906842624:=by omega
 have au:0<=Int.tdiv x 64:=Int.tdiv_nonneg F (by omega);have aH:Int.tdiv x 64<=x:=Int.tdiv_le_self _ F;have hy:=bits_xor F aE au (by omega);have aM:Int.tdiv x 64=x / 64:=ik F;rw[aM]at hy;obtain⟨y,aK⟩:∃y,bits .xor .i64 x (x / 64)=y:=⟨_,rfl⟩;rw[aK]at hy;have a9:=hy.1;have bq:=hy.2;have aF:Hid (FR m (y%m)):=K4 (by omega);clear hy au aH hd ax ar aq af ak r0 r1 r2 e0 e1 W Z;simp only[hx];clear hx;go_wp2;go_ret;exact⟨_,rfl,aF.O,HS.O.1.next (AG _) (.of hW),λq hq=>((HS.O.2 q hq).below hW)⟩
def E6(l:List Bx):List Value:=l.flatMap Bx.cells
theorem bxsV_len(l:List Bx):(E6 l).length=l.length*4:=D4 (c:=Bx.cells) (n:=4) (λ_=>rfl) l
theorem Qg(x:Bx):∀u∈x.cells,u.oneCell'=true:=λu h=>by
 simp[Bx.cells]at h;rcases h with rfl|rfl|rfl|rfl<;>rfl
theorem bxsV_one(l:List Bx):∀u∈E6 l,u.oneCell'=true:=λu F=>by
 obtain⟨s,_,h⟩:=dR.1 F;exact Qg s u h
theorem BxAt.get{w:World}{b o:Nat}{s:Bx}(h:BxAt w b o s)(k:Nat)(u:Value)(F:s.cells[k]?=some u):w.cell? ⟨b,o+k,none⟩=some u:=by
 obtain⟨M,H,J,W⟩:=h
 match k,F with
 |0,F=>obtain rfl:=dg F;exact M
 |1,F=>obtain rfl:=dg F;exact H
 |2,F=>obtain rfl:=dg F;exact J
 |3,F=>obtain rfl:=dg F;exact W
 |k+4,F=>simp[Bx.cells]at F
theorem SlX.bw{w:World}{ao:qO}{l:List Bx}(h:SlX w ao l):l.length≠0->∃ad,ao=some ad/\∀j u,(E6 l)[j]?=some u->w.cell? (ad.add j)=some u:=λH=>by
 obtain⟨b,off,e,_,F⟩:=h (by intro h;rw[h]at H;simp at H);refine⟨_,e,λj u J=>?_⟩;obtain⟨i,k,s,M,W,rfl⟩:=Ef (c:=Bx.cells) (n:=4) (λ_=>rfl) l j u J;have:=(F i s M).get k u W;rw[eq,<-fJ]at this;exact this
theorem RowIs.slX{w:World}{e:TypeId}{g n cap:Nat}{l:List Bx}(h:RowIs w e 4 g n cap (E6 l))(d:Nat):SlX w (some ⟨g,d*4,none⟩) (l.drop d):=λ_=>
 ⟨g,d*4,rfl,h.lt,λi s F=>by
  rw[ej]at F;have:=λk u H=>h.cell (FK (c:=Bx.cells) (n:=4) (λ_=>rfl) l (d+i) s k u F H)
  rw[fi]at this
  exact⟨this 0 _ rfl,this 1 _ rfl,this 2 _ rfl,this 3 _ rfl⟩⟩
theorem FQ:(Tryz.prog.info? 28).map (λi=>(i.zero,i.size,i.bytes))=some (some (.agg qzV),4,80):=by kernel_rfl
theorem AU:(Tryz.prog.info? 28).map (·.size)=some 4:=by kernel_rfl
theorem AO:(Tryz.prog.info? 30).map (·.size)=some 5:=by kernel_rfl
def Bk.aO(B:Bk):Prop:=B.af.length<=999/\B.ah.length<=999/\B.ak.length<=999/\B.bJ
theorem Bk.aO.tn{B:Bk}(h:B.aO):B.af.length<=1000/\B.ah.length<=1000/\B.ak.length<=1000:=⟨by have:=h.1;omega,by have:=h.2.1;omega,by have:=h.2.2.1;omega⟩
theorem Bk.aO.aJ{B:Bk}(h:B.aO):B.aJ:=⟨by have:=h.1;omega,by have:=h.2.1;omega,by have:=h.2.2.1;omega⟩
def Tinys(l:List Bx):Prop:=∀x∈l,x.b.aO
structure WOk(l:List Bx)(B:Bk):Prop where
 len:l.length<=8
 zs:Sizeds l
 ss:Tinys l
 bz:B.aD
 bs:B.aO
def RowT(w:World)(ap:qO)(l:List Bx):Prop:=l≠[]->∀b off,ap=some ⟨b,off,none⟩->∃cs fr,w.heap[b]?=some (.cells cs 28 fr)
theorem RowT.below{w w':World}{ap:qO}{l:List Bx}(h:RowT w ap l)(hb:Below w.heap.size w w'):RowT w' ap l:=λF b off e=>
 let ⟨cs,fr,h1⟩:=h F b off e
 ⟨cs,fr,AK hb h1 (AB h1).1⟩
def WIs(n:Nat)(w w':World)(v:Value):Prop:=∃(ap:qO) (l:List Bx) (cp:Nat) (a1 a2 a3:qO) (c1 c2 c3:Nat) (B:Bk),v=.agg (qwV ap l.length cp B a1 c1 a2 c2 a3 c3)/\WAt w' ap l a1 a2 a3 B/\WOk l B/\RowT w' ap l/\Below n w w'
def BkIs(n:Nat)(w w':World)(v:Value):Prop:=∃(a1 a2 a3:qO) (c1 c2 c3:Nat) (B:Bk),v=.agg (qbV B a1 c1 a2 c2 a3 c3)/\BkAt w' a1 a2 a3 B/\B.aD/\B.aO/\Below n w w'
theorem Md{w M Y:World}{g2 m H f n cap:Nat}{L:List Bx}{C:Bk}{x1 Z J:qO}{y1 y2 y3:Nat}(hR:RowIs M 28 4 g2 m H (E6 L))(hX:∀x∈L,BkAt w x.a1 x.a2 x.a3 x.b/\x.b.aD/\x.b.aO)(hC:BkAt w x1 Z J C)(hz:C.aD)(hs:C.aO)
  (hb:Below w.heap.size w M) (on:A6 f M Y) (hf:w.heap.size<=f) (hg:f<g2) (d:Nat) (hn:(L.drop d).length=n) (h8:n<=8):
  ∃v,Ending.returned (.agg #[.slice (some ⟨g2,d*4,none⟩) n cap,.int .i64 C.aj,.slice x1 C.af.length y1,.slice Z C.ah.length y2,.slice J C.ak.length y3])=.returned v/\WIs w.heap.size w Y v:=by
 have F:Below w.heap.size w Y:=hb.trans (on.below.mono hf);have W:∀x∈L.drop d,x∈L:=λx h=>ep h
 subst hn;refine⟨_,rfl,_,L.drop d,cap,x1,Z,J,y1,y2,y3,C,rfl,⟨(hR.aR (on.aB g2 (by omega))).slX d,λx h=>(hX x (W x h)).1.below F,hC.below F⟩,⟨h8,λx h=>(hX x (W x h)).2.1,λx h=>(hX x (W x h)).2.2,hz,hs⟩,λ_ b off e=>?_,F⟩;injection e with e
 injection e with e _
 subst e;obtain⟨_,_,an,hc,_⟩:=hR.aR (on.aB g2 (by omega));exact⟨_,_,hc⟩
theorem Ok(l:List Bx)(ap:qO)(cp:Nat)(B C:Bk)(a1 a2 a3 x1 x2 Z:qO)(c1 c2 c3 y1 y2 y3:Nat)(w:World)(hO:WOk l B)(a7:C.aD)(aM:C.aO)(H:WAt w ap l a1 a2 a3 B)(hT:RowT w ap l)(hC:BkAt w x1 x2 Z C):
  Calls Tryz.prog 111 #[.agg (qwV ap l.length cp B a1 c1 a2 c2 a3 c3),.agg (qbV C x1 y1 x2 y2 Z y3)] w λe w'=>∃v,e=.returned v/\WIs w.heap.size w w' v:=by
 have HW:Hid (WAt w ap l a1 a2 a3 B):=H;have HC:Hid (BkAt w x1 x2 Z C):=hC;have HT:Hid (RowT w ap l):=hT;have HO:Hid (WOk l B):=hO;have a4:Hid (C.aD):=a7;have a5:Hid (C.aO):=aM;have bZ:=hO.len;clear H hC hO a7 aM hT
 obtain⟨W0,bj,t0,t1,t2,al,b0,ax⟩:∃W0,((w.alloc (.cells (qwV ap l.length cp B a1 c1 a2 c2 a3 c3) 30)).alloc (.cells (qbV C x1 y1 x2 y2 Z y3) 28)).alloc (.cells #[.slice none 0 0,.int .i64 0,.slice none 0 0,.slice none 0 0,.slice none 0 0] 30)=W0/\qBl W0 (w.heap.size) (qwV ap l.length cp B a1 c1 a2 c2 a3 c3) 30/\qBl W0 (w.heap.size+1) (qbV C x1 y1 x2 y2 Z y3) 28/\qBl W0 (w.heap.size+2) #[.slice none 0 0,.int .i64 0,.slice none 0 0,.slice none 0 0,.slice none 0 0] 30/\w.heap.size<W0.heap.size/\W0.heap.size=w.heap.size+3/\Below w.heap.size w W0:=by
  obtain⟨h1,h2,h3⟩:=B1 w (.cells (qwV ap l.length cp B a1 c1 a2 c2 a3 c3) 30) (.cells (qbV C x1 y1 x2 y2 Z y3) 28);obtain⟨X,hX⟩:∃X,(w.alloc (.cells (qwV ap l.length cp B a1 c1 a2 c2 a3 c3) 30)).alloc (.cells (qbV C x1 y1 x2 y2 Z y3) 28)=X:=⟨_,rfl⟩;rw[hX]at h1 h2 h3;rw[hX];have bz:Below w.heap.size w X:=by rw[<-hX];exact(AN w _).alloc (by show w.heap.size<=(w.heap.push _).size;simp) _
  have hz:(X.alloc (.cells #[.slice none 0 0,.int .i64 0,.slice none 0 0,.slice none 0 0,.slice none 0 0] 30)).heap.size=X.heap.size+1:=by show(X.heap.push _).size=_;simp
  refine⟨_,rfl,(gB X _ (by omega)).trans h1,(gB X _ (by omega)).trans h2,?_,by omega,by omega,bz.alloc (by omega) _⟩;have:=dm X (.cells #[.slice none 0 0,.int .i64 0,.slice none 0 0,.slice none 0 0,.slice none 0 0] 30)
  rwa [h3]at this
 have T0:Hid _:=t0;have T1:Hid _:=t1;have T2:Hid _:=t2;have e0:W0.cell? ⟨w.heap.size,1,none⟩=some (.int .i64 B.aj):=AJ t0 1 rfl;have e1:W0.cell? ⟨w.heap.size+1,0,none⟩=some (.int .i64 C.aj):=AJ t1 0 rfl;clear t0 t1 t2;go_enter Tryz.func111,Tryz.ntmps111
 go_upto_region 1 with fail
 clear bj
 by_cases hn:C.aj=B.aj
 ·have bq:(C.aj==B.aj)=true:=by simp[hn]
  go_wp2_with (first|((with_reducible show wpList _ _ _ _ _ _);refine dD rfl 30 (.tmp 2) rfl w.heap.size rfl 30 (qwV ap l.length cp B a1 c1 a2 c2 a3 c3) (0,0) _ T0.O Tryz.underlying30 rfl AO ?_)|((with_reducible show wpList _ _ _ _ _ _);refine AM rfl 30 (.tmp 4) (.tmp 12) rfl (w.heap.size+2) 0 (qwV ap l.length cp B a1 c1 a2 c2 a3 c3) rfl rfl 30 #[.slice none 0 0,.int .i64 0,.slice none 0 0,.slice none 0 0,.slice none 0 0] T2.O AO (AD rfl) (by simp[Value.oneCell']) ?_;intro wz hz on;simp only[Act.put]))
  refine dS (eU rfl _ wz (w.heap.size+2) 30 (qwV ap l.length cp B a1 c1 a2 c2 a3 c3) (0,0) _ rfl hz.O Tryz.underlying30 rfl AO) rfl ?_;have hb:Below w.heap.size w wz:=ax.trans (on.below.mono (by omega));exact⟨_,rfl,ap,l,cp,a1,a2,a3,c1,c2,c3,B,rfl,HW.O.below hb,HO.O,HT.O.below hb,hb⟩
 have bq:(C.aj==B.aj)=false:=by simp[hn]
 go_upto_region 3 with fail
 clear e0 e1;refine AV 7 (by kernel_rfl) (by kernel_rfl) ?_;refine AW (λv W=>∃g,v=.slice (qad g) 0 0/\w.heap.size+3<=g/\qBl W g #[] 28) (λ_ _ _ ⟨g,h1,h2,h3⟩ hb=>⟨g,h1,h2,AK hb h3 (AB h3).1⟩) ?_ ?_
 ·intro V W K A H M F hK
  simp only[pA]at F;clear M;obtain rfl:=F;go_wp2;exact hK.O _ _ (AN _ _) ⟨W.heap.size,rfl,AH (by omega) H.size,dm W _⟩
 apply AL
 ·intro V W K A H M F hK
  simp only[pA]at F;clear M;obtain rfl:=F;go_wp2;exact hK.O _ brf
 apply AL
 ·intro V W K A H M F hK
  have d1:V 1=_:=M 1 (by kernel_rfl);simp only[pA,d1,d1]at F;clear M d1;obtain rfl:=F;have e0:W.cell? ⟨w.heap.size,0,none⟩=some (.slice ap l.length cp):=AJ (AK H T0.O al) 0 rfl;go_wp2;exact hK.O _ brf
 refine AW (λv W=>∃g cap,v=.slice (qad g) l.length cap/\w.heap.size+3<=g/\RowIs W 28 4 g l.length cap (E6 l)) (λ_ _ _ ⟨g,cap,h1,h2,h3⟩ hb=>⟨g,cap,h1,h2,h3.below hb h3.lt⟩) ?_ ?_
 ·intro V W K A H M F hK
  have d0:(λv W=>∃g,v=.slice (qad g) 0 0/\w.heap.size+3<=g/\qBl W g #[] 28) (V 0) W:=M 0 (by kernel_rfl);have d2:V 2=_:=M 2 (by kernel_rfl);simp only[pA,d2,d2]at F;clear M d2;generalize V 0=x0 at d0 F;obtain rfl:=F;obtain⟨g,rfl,hg,br⟩:=d0;refine CX rfl (.tmp 13) (.tmp 15) 23 rfl 28 _ 4 80 Tryz.underlying23 FQ rfl g rfl br ap l.length cp (E6 l) rfl (bxsV_len _) ((HW.O.row.below ax).below H).bw (bxsV_one _) (by unfold maxLen;omega) (by omega) ?_;intro g' aS w2 bi Y ah
  have bm:w.heap.size+3<=g':=by
   have:=H.size;rcases bi with rfl|rfl<;>omega
  go_wp2;exact hK.O _ _ ah ⟨g',aS,rfl,bm,Y.O⟩
 apply AL
 ·intro V W K A H M F hK
  simp only[pA]at F;clear M;obtain rfl:=F;go_wp2;exact hK.O _ brf
 apply AL
 ·intro V W K A H M F hK
  have d4:V 4=_:=M 4 (by kernel_rfl);simp only[pA,d4,d4]at F;clear M d4;obtain rfl:=F;have e1:W.cell? ⟨w.heap.size,1,none⟩=some (.int .i64 B.aj):=AJ (AK H T0.O al) 1 rfl;have e2:W.cell? ⟨w.heap.size,2,none⟩=some (.slice a1 B.af.length c1):=AJ (AK H T0.O al) 2 rfl;have e3:W.cell? ⟨w.heap.size,3,none⟩=some (.slice a2 B.ah.length c2):=AJ (AK H T0.O al) 3 rfl;have e4:W.cell? ⟨w.heap.size,4,none⟩=some (.slice a3 B.ak.length c3):=AJ (AK H T0.O al) 4 rfl;go_wp2;exact hK.O _ brf
 refine AW (λv W=>∃g,v=.slice (qad g) 1 1/\w.heap.size+3<=g/\qBl W g (qbV B a1 c1 a2 c2 a3 c3) 28) (λ_ _ _ ⟨g,h1,h2,h3⟩ hb=>⟨g,h1,h2,AK hb h3 (AB h3).1⟩) ?_ ?_
 ·intro V W K A H M F hK
  have d5:V 5=_:=M 5 (by kernel_rfl);simp only[pA,d5,d5]at F;clear M d5;obtain rfl:=F;go_wp2;exact hK.O _ _ (AN _ _) ⟨W.heap.size,rfl,AH (by omega) H.size,dm W _⟩
 intro V W A H hS F;have d0:(λv W=>∃g,v=.slice (qad g) 0 0/\w.heap.size+3<=g/\qBl W g #[] 28) (V 0) W:=hS 0 (by omega);have d1:V 1=_:=hS 1 (by omega);have d2:V 2=_:=hS 2 (by omega);have d3:(λv W=>∃g cap,v=.slice (qad g) l.length cap/\w.heap.size+3<=g/\RowIs W 28 4 g l.length cap (E6 l)) (V 3) W:=hS 3 (by omega);have d4:V 4=_:=hS 4 (by omega);have d5:V 5=_:=hS 5 (by omega);have d6:(λv W=>∃g,v=.slice (qad g) 1 1/\w.heap.size+3<=g/\qBl W g (qbV B a1 c1 a2 c2 a3 c3) 28) (V 6) W:=hS 6 (by omega);simp only[pA,d1,d2,d4,d5,d1,d2,d4,d5]at F;clear hS d1 d2 d4 d5;generalize V 0=x0 at d0 F;generalize V 3=Z at d3 F;generalize V 6=x6 at d6 F;obtain rfl:=F;simp only[dl,dF];obtain⟨g,cap,rfl,hg,Y⟩:=d3;obtain⟨k,rfl,hk,a6⟩:=d6;clear d0;refine DW rfl (.tmp 16) (.tmp 19) 23 rfl 28 _ 4 80 Tryz.underlying23 FQ rfl g l.length cap (E6 l) rfl Y ⟨k,0,none⟩ 1 1 (Bx.cells ⟨B,a1,a2,a3,c1,c2,c3⟩) rfl rfl (λj u hu=>by have h1:=AJ a6 j (v:=u) (by simpa [Bx.cells] using hu);rw[show(⟨k,0,none⟩:Addr).add j=⟨k,j,none⟩ by rw[fJ,dJ]];exact h1) (Qg _) (by unfold maxLen;omega) (by omega) ?_;intro g2 J w2 bb am aT;have ah:Below (w.heap.size+3) W w2:=(dI _ _).grown aT (by have:=H.size;omega) (λk h=>by cases h;exact hg);have aI:Below w.heap.size w w2:=(ax.trans (H.mono (by omega))).trans (ah.mono (by omega));have aW:Hid _:=AK ah (AK H T1.O (by omega)) (by omega);have aH:Hid _:=AK ah (AK H T2.O (by omega)) (by omega)
 have HR:Hid (RowIs w2 28 4 g2 (l.length+1) J (E6 (l++[(⟨B,a1,a2,a3,c1,c2,c3⟩:Bx)]))):=by
  have:=am.O;unfold Hid
  rwa [show E6 l++Bx.cells ⟨B,a1,a2,a3,c1,c2,c3⟩=E6 (l++[(⟨B,a1,a2,a3,c1,c2,c3⟩:Bx)]) by simp[E6]]at this
 obtain⟨L,hL⟩:∃L,l++[(⟨B,a1,a2,a3,c1,c2,c3⟩:Bx)]=L:=⟨_,rfl⟩;rw[hL]at HR
 have HX:Hid (∀x∈L,BkAt w x.a1 x.a2 x.a3 x.b/\x.b.aD/\x.b.aO):=λx hx=>by
  rw[<-hL]at hx;rcases dt.1 hx with h|h
  ·exact⟨HW.O.bP x h,HO.O.zs x h,HO.O.ss x h⟩
  ·obtain rfl:=cZ.1 h
   exact⟨HW.O.bj,HO.O.bz,HO.O.bs⟩
 have aK:L.length=l.length+1:=by rw[<-hL];simp
 have b7:=H.size;clear Y a6 aT ah H T0 T1 T2 am hL HW HO;simp only[Act.put]
 have bH:w.heap.size+3<=g2:=by
  rcases bb with rfl|rfl
  ·exact hg
  ·omega
 have bS:=HR.O.2.1
 by_cases h8:l.length=8
 ·have b5:¬J=1:=by omega
  go_wp2_with (first|((with_reducible show wpList _ _ _ _ _ _);refine dD rfl 28 (.tmp 3) rfl (w.heap.size+1) rfl 28 (qbV C x1 y1 x2 y2 Z y3) (0,0) _ aW.O Tryz.underlying28 rfl AU ?_)|((with_reducible show wpList _ _ _ _ _ _);refine AM rfl 30 (.tmp 4) (.tmp 28) rfl (w.heap.size+2) 0 #[.slice (some ⟨g2,4,none⟩) 8 (J - 1),.int .i64 C.aj,.slice x1 C.af.length y1,.slice x2 C.ah.length y2,.slice Z C.ak.length y3] rfl rfl 30 #[.slice none 0 0,.int .i64 0,.slice none 0 0,.slice none 0 0,.slice none 0 0] aH.O AO (AD rfl) (by simp[Value.oneCell']) ?_;intro wz hz on;simp only[Act.put]))
  refine dS (eU rfl _ wz (w.heap.size+2) 30 #[.slice (some ⟨g2,4,none⟩) 8 (J - 1),.int .i64 C.aj,.slice x1 C.af.length y1,.slice x2 C.ah.length y2,.slice Z C.ak.length y3] (0,0) _ rfl hz.O Tryz.underlying30 rfl AO) rfl ?_;exact Md HR.O HX.O HC.O a4.O a5.O aI on (by omega) (by omega) 1 (by rw[dW,aK];omega) (by omega)
 have b2:¬(8:Int)<(l.length:Int)+1:=by omega
 go_wp2_with (first|((with_reducible show wpList _ _ _ _ _ _);refine dD rfl 28 (.tmp 3) rfl (w.heap.size+1) rfl 28 (qbV C x1 y1 x2 y2 Z y3) (0,0) _ aW.O Tryz.underlying28 rfl AU ?_)|((with_reducible show wpList _ _ _ _ _ _);refine AM rfl 30 (.tmp 4) (.tmp 28) rfl (w.heap.size+2) 0 #[.slice (qad g2) (l.length+1) J,.int .i64 C.aj,.slice x1 C.af.length y1,.slice x2 C.ah.length y2,.slice Z C.ak.length y3] rfl rfl 30 #[.slice none 0 0,.int .i64 0,.slice none 0 0,.slice none 0 0,.slice none 0 0] aH.O AO (AD rfl) (by simp[Value.oneCell']) ?_;intro wz hz on;simp only[Act.put]))
 refine dS (eU rfl _ wz (w.heap.size+2) 30 #[.slice (qad g2) (l.length+1) J,.int .i64 C.aj,.slice x1 C.af.length y1,.slice x2 C.ah.length y2,.slice Z C.ak.length y3] (0,0) _ rfl hz.O Tryz.underlying30 rfl AO) rfl ?_;exact Md HR.O HX.O HC.O a4.O a5.O aI on (by omega) (by omega) 0 (by rw[dF,aK]) (by omega)
theorem OA(l:List Bx)(ap:qO)(cp:Nat)(B:Bk)(a1 a2 a3:qO)(c1 c2 c3:Nat)(bl:Int)(w:World)(az:0<=bl)(aM:bl<=1000)(hO:WOk l B)(hW:WAt w ap l a1 a2 a3 B):
  Calls Tryz.prog 59 #[.agg (qwV ap l.length cp B a1 c1 a2 c2 a3 c3),.int .i64 bl] w λe w'=>∃v,e=.returned v/\BkIs w.heap.size w w' v:=by
 have HW:Hid (WAt w ap l a1 a2 a3 B):=hW;have Z:Hid (WOk l B):=hO;have aA:=hO.len;clear hW hO
 obtain⟨W,aq,t0,t1,ay,H⟩:∃W,(w.alloc (.cells (qwV ap l.length cp B a1 c1 a2 c2 a3 c3) 30)).alloc (.cells qzV 28)=W/\qBl W (w.heap.size) (qwV ap l.length cp B a1 c1 a2 c2 a3 c3) 30/\qBl W (w.heap.size+1) qzV 28/\W.heap.size=w.heap.size+1+1/\Below w.heap.size w W:=by
  obtain⟨h1,h2,h3⟩:=B1 w (.cells (qwV ap l.length cp B a1 c1 a2 c2 a3 c3) 30) (.cells qzV 28);exact⟨_,rfl,h1,h2,h3,(AN w _).alloc (by show w.heap.size<=(w.heap.push _).size;simp) _⟩
 have T1:Hid _:=t1;have e0:W.cell? ⟨w.heap.size,0,none⟩=some (.slice ap l.length cp):=AJ t0 0 rfl;have e1:W.cell? ⟨w.heap.size,1,none⟩=some (.int .i64 B.aj):=AJ t0 1 rfl;have e2:W.cell? ⟨w.heap.size,2,none⟩=some (.slice a1 B.af.length c1):=AJ t0 2 rfl;have e3:W.cell? ⟨w.heap.size,3,none⟩=some (.slice a2 B.ah.length c2):=AJ t0 3 rfl;have e4:W.cell? ⟨w.heap.size,4,none⟩=some (.slice a3 B.ak.length c3):=AJ t0 4 rfl;clear t0 t1;go_enter Tryz.func59,Tryz.ntmps59
 go_upto_region 1 with fail
 clear aq
 by_cases hn:bl=0
 ·subst hn
  go_wp2_with ((with_reducible show wpList _ _ _ _ _ _);refine AM rfl 28 (.tmp 4) (.tmp 14) rfl (w.heap.size+1) 0 (qbV B a1 c1 a2 c2 a3 c3) rfl rfl 28 qzV T1.O AU (AD rfl) (by simp[Value.oneCell']) ?_;intro M hz on;simp only[Act.put])
  refine dS (eU rfl _ M (w.heap.size+1) 28 (qbV B a1 c1 a2 c2 a3 c3) (0,0) _ rfl hz.O Tryz.underlying28 rfl AU) rfl ?_;have hb:Below w.heap.size w M:=H.trans (on.below.mono (by omega));exact⟨_,rfl,a1,a2,a3,c1,c2,c3,B,rfl,HW.O.bj.below hb,Z.O.bz,Z.O.bs,hb⟩
 have ax:decide (bl<=0)=false:=by simp;omega
 by_cases af:l.length=0
 ·have ar:((l.length:Int)==0)=true:=by simp[af]
  go_wp2_with ((with_reducible show wpList _ _ _ _ _ _);refine AM rfl 28 (.tmp 4) (.tmp 14) rfl (w.heap.size+1) 0 (qbV B a1 c1 a2 c2 a3 c3) rfl rfl 28 qzV T1.O AU (AD rfl) (by simp[Value.oneCell']) ?_;intro M hz on;simp only[Act.put])
  refine dS (eU rfl _ M (w.heap.size+1) 28 (qbV B a1 c1 a2 c2 a3 c3) (0,0) _ rfl hz.O Tryz.underlying28 rfl AU) rfl ?_;have hb:Below w.heap.size w M:=H.trans (on.below.mono (by omega));exact⟨_,rfl,a1,a2,a3,c1,c2,c3,B,rfl,HW.O.bj.below hb,Z.O.bz,Z.O.bs,hb⟩
 have ar:((l.length:Int)==0)=false:=eL.2 (by omega);obtain⟨b,off,ea,ak,Y⟩:=HW.O.row (by intro h;rw[h]at af;simp at af);subst ea
 by_cases al:(l.length:Int)<bl
 ·have an:decide ((l.length:Int)<bl)=true:=by simp[al]
  have h0:0<l.length:=by omega
  obtain⟨s,F⟩:∃s,l[0]?=some s:=⟨l[0],by simp⟩;have HM:Hid (s∈l):=AE F;have J:=(Y _ s F).below H ak;unfold BxAt at J;simp only[iD,fW]at J;have bU:(l.length:Int) - (l.length:Int)=0:=by omega
  obtain⟨q0,q1,q2,q3⟩:=J;clear F Y
  go_wp2_with ((with_reducible show wpList _ _ _ _ _ _);refine AM rfl 28 (.tmp 4) (.tmp 31) rfl (w.heap.size+1) 0 (qbV s.b s.a1 s.c1 s.a2 s.c2 s.a3 s.c3) rfl rfl 28 qzV T1.O AU (AD rfl) (by simp[Value.oneCell']) ?_;intro M hz on;simp only[Act.put])
  refine dS (eU rfl _ M (w.heap.size+1) 28 (qbV s.b s.a1 s.c1 s.a2 s.c2 s.a3 s.c3) (0,0) _ rfl hz.O Tryz.underlying28 rfl AU) rfl ?_;have hb:Below w.heap.size w M:=H.trans (on.below.mono (by omega));exact⟨_,rfl,s.a1,s.a2,s.a3,s.c1,s.c2,s.c3,s.b,rfl,(HW.O.bP s HM.O).below hb,Z.O.zs s HM.O,Z.O.ss s HM.O,hb⟩
 have an:decide ((l.length:Int)<bl)=false:=by simp[al]
 obtain⟨k,hk⟩:∃k:Nat,(l.length:Int) - bl=k:=⟨((l.length:Int) - bl).toNat,by omega⟩;have aS:k<l.length:=by omega
 obtain⟨s,F⟩:∃s,l[k]?=some s:=⟨l[k],by simp⟩;have HM:Hid (s∈l):=AE F;have J:=(Y _ s F).below H ak;unfold BxAt at J;obtain⟨q0,q1,q2,q3⟩:=J;clear F Y
 go_wp2_with ((with_reducible show wpList _ _ _ _ _ _);refine AM rfl 28 (.tmp 4) (.tmp 31) rfl (w.heap.size+1) 0 (qbV s.b s.a1 s.c1 s.a2 s.c2 s.a3 s.c3) rfl rfl 28 qzV T1.O AU (AD rfl) (by simp[Value.oneCell']) ?_;intro M hz on;simp only[Act.put])
 refine dS (eU rfl _ M (w.heap.size+1) 28 (qbV s.b s.a1 s.c1 s.a2 s.c2 s.a3 s.c3) (0,0) _ rfl hz.O Tryz.underlying28 rfl AU) rfl ?_;have hb:Below w.heap.size w M:=H.trans (on.below.mono (by omega));exact⟨_,rfl,s.a1,s.a2,s.a3,s.c1,s.c2,s.c3,s.b,rfl,(HW.O.bP s HM.O).below hb,Z.O.zs s HM.O,Z.O.ss s HM.O,hb⟩
end
end Go.Proofs.YtbceafpodamnfaaGreatDoor
