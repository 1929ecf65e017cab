import Derived.Test.YtbceafpodamnfaaGreatH49
set_option linter.all false
set_option maxHeartbeats 8000000
set_option maxRecDepth 100000
namespace Go.Proofs.YtbceafpodamnfaaGreat
open Go.RowKit Go.Sort
structure But(r:Option Nat)(W W':World):Prop where
 os:W'.os=W.os
 tape:W'.tape=W.tape
 output:W'.output=W.output
 size:W.heap.size<=W'.heap.size
 block:∀k,k<W.heap.size->r≠some k->W'.heap[k]?=W.heap[k]?
theorem But.refl(r:Option Nat)(W:World):But r W W:=⟨rfl,rfl,rfl,AG _,λ_ _ _=>rfl⟩
theorem But.trans{r:Option Nat}{A B C:World}(h:But r A B)(k:But r B C):But r A C:=⟨k.os.trans h.os,k.tape.trans h.tape,k.output.trans h.output,AH h.size k.size,λi hi hr=>(k.block i (AF hi h.size) hr).trans (h.block i hi hr)⟩
theorem But.of{r:Option Nat}{W W':World}(h:Below W.heap.size W W'):But r W W':=⟨h.os,h.tape,h.output,h.size,λk hk _=>h.block k hk⟩
theorem But.below{r:Option Nat}{W W':World}{N:Nat}(h:But r W W')(hN:N<=W.heap.size)(hr:∀k,r=some k->N<=k):Below N W W':=⟨h.os,h.tape,h.output,h.size,λk hk=>h.block k (by omega) λe=>by have:=hr _ e;omega⟩
section
variable {P:Program}
theorem FH{ops:Array Oper}{rest:List Oper}{o:Oper}{a:Act}{w:World}{Q:Exit->Act->World->Prop}(hgd:o.guard=none)(s x:Operand)(t:TypeId)
  (ho:o.op=.call {callee:=.builtin .append,args:=#[s,x],argTypes:=#[t,t]})
  (base:Nat) (e:TypeId) (z:Value) (size bytes:Nat) (ht:P.underlying t=some (.slice e)) (hinfo:(P.info? e).map (λi=>(i.zero,i.size,i.bytes))=some (some z,size,bytes)) (hzs:z.cells.size=size) (hsz:0<size)
  (v:Value) (n:Nat) (xs:List Value) (hs:a.eval s=v) (hown:w.ownsRow base e size v n xs)
  (da:Addr) (c:Nat) (news:List Value) (hx:a.eval x=.slice (some da) 1 c) (hl:news.length=1*size) (hnews:∀j u,news[j]?=some u->w.cell? (da.add j)=some u) (h1:∀u∈news,u.oneCell'=true)
  (h63:n+1<=maxLen) (hbytes:(n+1)*bytes<=140737488355328) (hbase:base<=w.heap.size)
  (h:∀g cap w',base<=g->Hid (w'.ownsRow base e size (.slice (some ⟨g,0,none⟩) (n+1) cap) (n+1) (xs++news))->Below base w w'->But v.ownBlock w w'->wpList P ops Q rest (a.put o.dst (.slice (some ⟨g,0,none⟩) (n+1) cap)) w'):wpList P ops Q (o::rest) a w:=by
 obtain⟨i,hi,hz,hs',hb⟩:=info_parts hinfo;refine wpList_append_own w hgd s x t ho base e i z size bytes ht hi hz hs' hb hzs hsz v n xs hs hown da 1 c news hx hl hnews h1 h63 hbytes hbase λv' w' ho' hgr _=>?_
 have hb':Below base w w':=⟨hgr.os,hgr.tape,hgr.output,hgr.size,λk hk=>hgr.block k (by omega) (λe'=>by have:=(hown.lt k e'.symm).1;omega)⟩;rcases ho'.2 with⟨_,h0⟩|⟨g,cap,cur,rfl,hbg,_⟩
 ·omega
 ·exact h g cap w' hbg ho' hb' ⟨hgr.os,hgr.tape,hgr.output,hgr.size,λk hk hne=>hgr.block k hk (λe'=>hne e'.symm)⟩
end
theorem JE{w w':World}{base n size:Nat}{e:TypeId}{v:Value}{xs:List Value}(h:w.ownsRow base e size v n xs)(hb:Below w.heap.size w w'):w'.ownsRow base e size v n xs:=by
 refine⟨h.1,?_⟩;rcases h.2 with h|⟨g,cap,cur,h1,h2,h3,h4⟩
 ·exact .inl h
 ·exact .inr ⟨g,cap,cur,h1,h2,AK hb h3 (AB h3).1,h4⟩
theorem BkRow.but{N n g1 g2 g3 k1 k2 k3:Nat}{r:Option Nat}{W W':World}{B:Bk}(h:BkRow W N g1 g2 g3 k1 k2 k3 B)(hb:But r W W')(hr:∀k,r=some k->k<n)(hn:n<=N):BkRow W' N g1 g2 g3 k1 k2 k3 B:=by
 have hs:=h.n1;have hs2:=h.n2;have hs3:=h.n3;exact⟨h.n1,h.n2,h.n3,h.svcs.blk (hb.block g1 h.svcs.lt λe=>by have:=hr _ e;omega),h.cps.blk (hb.block g2 h.cps.lt λe=>by have:=hr _ e;omega),h.bts.blk (hb.block g3 h.bts.lt λe=>by have:=hr _ e;omega)⟩
theorem BkRow.n{W:World}{N N' g1 g2 g3 k1 k2 k3:Nat}{B:Bk}(h:BkRow W N g1 g2 g3 k1 k2 k3 B)(hn:N'<=N):BkRow W N' g1 g2 g3 k1 k2 k3 B:=⟨AH hn h.n1,AH hn h.n2,AH hn h.n3,h.svcs,h.cps,h.bts⟩
def NH(W W':World):Prop:=∀(c:Nat) (cs:Array Value) (t:TypeId) (fr:Nat × Nat),t≠27->t≠84->W.heap[c]?=some (Obj.cells cs t fr)->W'.heap[c]?=W.heap[c]?
theorem RowIs.tame{W W':World}{e:TypeId}{size g n cap:Nat}{xs:List Value}(h:RowIs W e size g n cap xs)(ht:NH W W')(h1:e≠27)(h2:e≠84):RowIs W' e size g n cap xs:=by
 obtain⟨_,_,cur,hc,_⟩:=id h;exact h.blk (ht _ _ _ _ h1 h2 hc)
theorem BkRow.tame{W W':World}{N g1 g2 g3 k1 k2 k3:Nat}{B:Bk}(h:BkRow W N g1 g2 g3 k1 k2 k3 B)(ht:NH W W'):BkRow W' N g1 g2 g3 k1 k2 k3 B:=
 ⟨h.n1,h.n2,h.n3,h.svcs.tame ht (by decide) (by decide),h.cps.tame ht (by decide) (by decide),h.bts.tame ht (by decide) (by decide)⟩
def BxOwn(W:World)(y:Bx):Prop:=(∃h1 h2 h3,y.a1=some ⟨h1,0,none⟩/\y.a2=some ⟨h2,0,none⟩/\y.a3=some ⟨h3,0,none⟩/\BkRow W 0 h1 h2 h3 y.c1 y.c2 y.c3 y.b)/\y.b.sized/\y.b.tiny
theorem BxOwn.tame{W W':World}{y:Bx}(h:BxOwn W y)(ht:NH W W'):BxOwn W' y:=let ⟨⟨h1,h2,h3,e1,e2,e3,hk⟩,hz⟩:=h;⟨⟨h1,h2,h3,e1,e2,e3,hk.tame ht⟩,hz⟩
theorem BxOwn.at{W:World}{y:Bx}(h:BxOwn W y):BkAt W y.a1 y.a2 y.a3 y.b:=by
 obtain⟨⟨h1,h2,h3,e1,e2,e3,hk⟩,_⟩:=h;rw[e1,e2,e3];exact hk.at
theorem Fi{W W':World}{x:Nat}{cs:Array Value}{fr:Nat × Nat}(hx:W.heap[x]?=some (.cells cs 84 fr))(on:BA x W W'):NH W W':=λc cs' t fr' _ h2 hc=>on.other c λe=>by
 subst e;rw[hx]at hc;injection hc with hc
 injection hc with _ hc
 exact h2 hc.symm
theorem tame_but{W W':World}{N n:Nat}{v:Value}{xs:List Value}(ho:W.ownsRow N 27 4 v n xs)(hb:But v.ownBlock W W'):NH W W':=λc cs t fr h1 _ hc=>hb.block c (AB hc).1 λe=>by
 rcases ho.2 with⟨h,_⟩|⟨g,cap,cur,h,_,h3,_⟩
 ·rw[h]at e;cases e
 ·rw[h]at e
  obtain rfl:=Option.some.inj (show some g=some c from e);rw[h3]at hc;injection hc with hc
  injection hc with _ hc
  exact h1 hc.symm
theorem Tryz.infosBooksE:(Tryz.prog.info? 82).map (·.size)=some 1:=by kernel_rfl
structure CyU(N x f v:Nat)(src:Array Value)(B:Bk)(g1 g2 g3 k1 k2 k3:Nat)(w:World)(k:Nat)(vs:Value)(M:List Bx)(wr:World):Prop where
 hx:wr.heap[x]?=some (.cells src 84 (0,0))
 hf:wr.heap[f]?=some (.cells #[.slice none 0 0,.int .i64 0,.slice none 0 0,.slice none 0 0,.slice none 0 0] 84 (0,0))
 hv:wr.heap[v]?=some (.cells #[vs,.int .i64 B.now,.slice (some ⟨g1,0,none⟩) B.svcs.length k1,.slice (some ⟨g2,0,none⟩) B.cps.length k2,.slice (some ⟨g3,0,none⟩) B.bts.length k3] 84 (0,0))
 own:wr.ownsRow N 27 4 vs k (D0 M)
 len:M.length=k
 ins:∀y∈M,BxOwn wr y
 bk:BkRow wr w.heap.size g1 g2 g3 k1 k2 k3 B
 below:Below w.heap.size w wr
 ns:N<=wr.heap.size
theorem past_of{N x f v k:Nat}{src:Array Value}{B:Bk}{g1 g2 g3 k1 k2 k3:Nat}{w wr:World}{vs:Value}{M:List Bx}(h:CyU N x f v src B g1 g2 g3 k1 k2 k3 w k vs M wr):∃aq cq,vs=.slice aq M.length cq/\SlX wr aq M/\RowT wr aq M:=by
 rcases h.own.2 with⟨e,e0⟩|⟨g,cap,cur,e,_,h3,h4,_,h5,h6⟩
 ·have hM:M=[]:=List.eq_nil_of_length_eq_zero (h.len.trans e0)
  subst hM;exact⟨none,0,e,λh=>absurd rfl h,λh=>absurd rfl h⟩
 ·have hr:RowIs wr 27 4 g k cap (D0 M):=⟨h.own.1,h4,cur,h3,h5,h6⟩
  exact⟨_,cap,by rw[e,h.len],hr.slX 0,λ_ b off eb=>by
   injection eb with eb
   injection eb with eb _
   subst eb
   exact⟨_,_,h3⟩⟩
def CpIs(w:World)(B:Bk)(e:Ending)(w':World):Prop:=∃(aq:Option Addr) (M:List Bx) (cq g1 k1 g2 k2 g3 k3:Nat),e=.returned (.agg #[.slice aq M.length cq,.int .i64 B.now,.slice (some ⟨g1,0,none⟩) B.svcs.length k1,.slice (some ⟨g2,0,none⟩) B.cps.length k2,.slice (some ⟨g3,0,none⟩) B.bts.length k3])/\WA w' aq M (some ⟨g1,0,none⟩) (some ⟨g2,0,none⟩) (some ⟨g3,0,none⟩) B/\BkRow w' w.heap.size g1 g2 g3 k1 k2 k3 B/\Below w.heap.size w w'
theorem L8(l:List Bx)(ap:Option Addr)(cp:Nat)(B:Bk)(a1 a2 a3:Option Addr)(c1 c2 c3:Nat)(w:World)(hW:WA w ap l a1 a2 a3 B):
  Calls Tryz.prog 67 #[.agg #[.slice ap l.length cp,.int .i64 B.now,.slice a1 B.svcs.length c1,.slice a2 B.cps.length c2,.slice a3 B.bts.length c3]] w λe w'=>CpIs w B e w':=by
 have HW:Hid (WA w ap l a1 a2 a3 B):=hW;have hl8:=hW.ok.len;clear hW
 obtain⟨W0,hW0,t0,t1,hs0,hb0⟩:∃W0,(w.alloc (.cells #[.slice ap l.length cp,.int .i64 B.now,.slice a1 B.svcs.length c1,.slice a2 B.cps.length c2,.slice a3 B.bts.length c3] 84)).alloc (.cells #[.slice none 0 0,.int .i64 0,.slice none 0 0,.slice none 0 0,.slice none 0 0] 84)=W0/\W0.heap[w.heap.size]?=some (.cells #[.slice ap l.length cp,.int .i64 B.now,.slice a1 B.svcs.length c1,.slice a2 B.cps.length c2,.slice a3 B.bts.length c3] 84 (0,0))/\W0.heap[w.heap.size+1]?=some (.cells #[.slice none 0 0,.int .i64 0,.slice none 0 0,.slice none 0 0,.slice none 0 0] 84 (0,0))/\W0.heap.size=w.heap.size+1+1/\Below w.heap.size w W0:=by
  obtain⟨h1,h2,h3⟩:=B0 w (.cells #[.slice ap l.length cp,.int .i64 B.now,.slice a1 B.svcs.length c1,.slice a2 B.cps.length c2,.slice a3 B.bts.length c3] 84) (.cells #[.slice none 0 0,.int .i64 0,.slice none 0 0,.slice none 0 0,.slice none 0 0] 84);exact⟨_,rfl,h1,h2,h3,(AM w _).alloc (by show w.heap.size<=(w.heap.push _).size;simp) _⟩
 obtain⟨x,hx⟩:∃x,w.heap.size=x:=⟨_,rfl⟩;obtain⟨f,hf⟩:∃f,x+1=f:=⟨_,rfl⟩;have T0:Hid _:=t0;have T1:Hid _:=t1;have HS0:Hid _:=hs0;clear t0 t1 hs0;go_enter Tryz.func67,Tryz.ntmps67
 go_upto_region 1 with fail
 rw[hx]at T0;rw[hx,hf]at T1;clear hW0;have e1:W0.cell? ⟨x,1,none⟩=some (.int .i64 B.now):=AJ T0.out 1 rfl;have e2:W0.cell? ⟨x,2,none⟩=some (.slice a1 B.svcs.length c1):=AJ T0.out 2 rfl;have e3:W0.cell? ⟨x,3,none⟩=some (.slice a2 B.cps.length c2):=AJ T0.out 3 rfl;have e4:W0.cell? ⟨x,4,none⟩=some (.slice a3 B.bts.length c3):=AJ T0.out 4 rfl
 go_upto_region 2 with(go_at_call 16;refine(CM B a1 a2 a3 c1 c2 c3 _ HW.out.ok.bs.small (HW.out.wat.book.below hb0)).mono ?_;rintro e w1 ⟨g1,k1,g2,k2,g3,k3,rfl,hk,hb1⟩)
 clear e1 e2 e3 e4;have hs0:=HS0.out;obtain⟨W2,hW2⟩:∃W2,w1.alloc (.cells #[.slice none 0 0,.int .i64 B.now,.slice (some ⟨g1,0,none⟩) B.svcs.length k1,.slice (some ⟨g2,0,none⟩) B.cps.length k2,.slice (some ⟨g3,0,none⟩) B.bts.length k3] 84)=W2:=⟨_,rfl⟩;rw[hW2];have hb2:Below w1.heap.size w1 W2:=by rw[<-hW2];exact AM _ _
 have hs1:=hb1.size;have hs2:W2.heap.size=w1.heap.size+1:=by rw[<-hW2];show(w1.heap.push _).size=_;simp
 obtain⟨v,hv⟩:∃v,w1.heap.size=v:=⟨_,rfl⟩;have J0:Hid (CyU (v+1) x f v #[.slice ap l.length cp,.int .i64 B.now,.slice a1 B.svcs.length c1,.slice a2 B.cps.length c2,.slice a3 B.bts.length c3] B g1 g2 g3 k1 k2 k3 w 0 (.slice none 0 0) [] W2):=⟨AK hb2 (AK hb1 T0.out (by omega)) (by omega),AK hb2 (AK hb1 T1.out (by omega)) (by omega),by rw[<-hW2,<-hv];exact heap_alloc_new w1 _,⟨rfl,.inl ⟨rfl,rfl⟩⟩,rfl,(λ_ h=>by cases h),(hk.n hb0.size).but (.of hb2) (r:=none) (n:=0) (λ_ h=>by cases h) (by omega),(hb0.trans (hb1.mono hb0.size)).trans (hb2.mono (by omega)),by omega⟩;rw[hv];clear hW2 hb2 hk hb1 T0 T1 hb0 HS0
 go_upto_region 3 with fail
 go_loopw [4] (λiv wr=>∃(k:Nat) (vs:Value) (M:List Bx),k<=l.length/\iv=.int .i64 k/\CyU (v+1) x f v #[.slice ap l.length cp,.int .i64 B.now,.slice a1 B.svcs.length c1,.slice a2 B.cps.length c2,.slice a3 B.bts.length c3] B g1 g2 g3 k1 k2 k3 w k vs M wr) (λi _=>l.length - (intOf i).toNat)
 case atStart=>exact⟨0,_,[],by omega,rfl,J0.out⟩
 case round=>
  clear J0;obtain⟨k,vs,M,hk,rfl,hJ⟩:=hrel;obtain⟨aq,cq,rfl,hrow,hrt⟩:=past_of hJ;have HRW:Hid (SlX wr aq M):=hrow;have HRT:Hid (RowT wr aq M):=hrt;clear hrow hrt;have J:Hid _:=hJ;have HX:Hid _:=hJ.hx;have HV:Hid _:=hJ.hv;have HF:Hid _:=hJ.hf;clear hJ;have ex:_=some (Value.slice ap l.length cp):=AJ HX.out 0 rfl
  by_cases hlt:k<l.length
  rotate_left
  ·go_wp2_with (first
    |((with_reducible show wpList _ _ _ _ _ _);refine wpList_load_row rfl 84 (.tmp 3) rfl v rfl 84 #[.slice aq M.length cq,.int .i64 B.now,.slice (some ⟨g1,0,none⟩) B.svcs.length k1,.slice (some ⟨g2,0,none⟩) B.cps.length k2,.slice (some ⟨g3,0,none⟩) B.bts.length k3] (0,0) _ HV.out Tryz.underlying84 rfl Tryz.infosWorldE ?_)
    |((with_reducible show wpList _ _ _ _ _ _);refine AL rfl 84 (.tmp 2) (.tmp 27) rfl f 0 #[.slice aq M.length cq,.int .i64 B.now,.slice (some ⟨g1,0,none⟩) B.svcs.length k1,.slice (some ⟨g2,0,none⟩) B.cps.length k2,.slice (some ⟨g3,0,none⟩) B.bts.length k3] rfl rfl 84 #[.slice none 0 0,.int .i64 0,.slice none 0 0,.slice none 0 0,.slice none 0 0] HF.out Tryz.infosWorldE (AD rfl) (by simp[Value.oneCell']) ?_;intro wz hz on;simp only[Act.put]))
   refine bodyPost_ret (results_cell_row rfl _ wz f 84 #[.slice aq M.length cq,.int .i64 B.now,.slice (some ⟨g1,0,none⟩) B.svcs.length k1,.slice (some ⟨g2,0,none⟩) B.cps.length k2,.slice (some ⟨g3,0,none⟩) B.bts.length k3] (0,0) _ rfl hz.out Tryz.underlying84 rfl Tryz.infosWorldE) rfl ?_;have hA:WA _ aq M (some ⟨g1,0,none⟩) (some ⟨g2,0,none⟩) (some ⟨g3,0,none⟩) B:=⟨⟨HRW.out,λy hy=>(J.out.ins y hy).at,J.out.bk.at⟩,⟨by have:=J.out.len;omega,λy hy=>(J.out.ins y hy).2.1,λy hy=>(J.out.ins y hy).2.2,HW.out.ok.bz,HW.out.ok.bs⟩,HRT.out⟩;exact⟨aq,M,cq,g1,k1,g2,k2,g3,k3,rfl,hA.only (D3 HF.out) on,J.out.bk.tame (Fi HF.out on),J.out.below.trans (on.below.mono (by omega))⟩
  obtain⟨b,off,ea,hbs,hat⟩:=HW.out.wat.row (by intro h;rw[h]at hlt;simp at hlt);subst ea;obtain⟨s,hsk⟩:∃s,l[k]?=some s:=⟨l[k],by simp[hlt]⟩;have HSB:Hid (BxAt wr b (off+k*4) s):=(hat k s hsk).below J.out.below hbs;have HBK:Hid (BkAt w s.a1 s.a2 s.a3 s.b):=HW.out.wat.ins s (AE hsk);have hss:s.b.tiny:=HW.out.ok.ss s (AE hsk);have hsz:s.b.sized:=HW.out.ok.zs s (AE hsk);clear hat hsk;obtain⟨n0,hn0⟩:∃n0,n0=wr.heap.size:=⟨_,rfl⟩;obtain⟨N,hN⟩:∃N,v+1=N:=⟨_,rfl⟩;rw[hN]at J;have HOW:Hid (wr.ownsRow N 27 4 (Value.slice aq M.length cq) k (D0 M)):=J.out.own;have hrb:∀k',(Value.slice aq M.length cq).ownBlock=some k'->k'<n0:=λk' e=>by rw[hn0];exact(J.out.own.lt k' e).2
  have hrN:∀k',(Value.slice aq M.length cq).ownBlock=some k'->N<=k':=λk' e=>(J.out.own.lt k' e).1
  have hNw:N<=wr.heap.size:=J.out.ns;have hvl:v<wr.heap.size:=by omega
  have hxl:x<wr.heap.size:=by omega
  have hbl:b<wr.heap.size:=by omega
  have hvr:(Value.slice aq M.length cq).ownBlock≠some v:=λe=>by have:=hrN _ e;omega
  have hxr:(Value.slice aq M.length cq).ownBlock≠some x:=λe=>by have:=hrN _ e;omega
  have hbr:(Value.slice aq M.length cq).ownBlock≠some b:=λe=>by have:=hrN _ e;omega
  have hfr:(Value.slice aq M.length cq).ownBlock≠some f:=λe=>by have:=hrN _ e;omega
  have hbW:∀W,But (Value.slice aq M.length cq).ownBlock wr W->Below w.heap.size w W:=λW h=>J.out.below.trans (h.below (by omega) (λk' e=>by have:=hrN _ e;omega))
  go_upto_region 5 with fail
  clear ex;refine IA 11 9 (But (Value.slice aq M.length cq).ownBlock) (λW=>But (Value.slice aq M.length cq).ownBlock wr W) (λW=>W.ownsRow N 27 4 (Value.slice aq M.length cq) k (D0 M)) (by kernel_rfl) (by kernel_rfl) (But.refl _ _) HOW.out (λ_ _ h hb=>h.trans (.of hb)) (λ_ _ h hb=>h.trans hb) (λ_ _ h hb=>JE h hb) ?_;apply CK
  ·intro V W K AA hW hZ hd hA hK
   simp only[pA]at hA;clear hd;obtain rfl:=hA;go_wp2;exact hK.out _ brf
  apply CK
  ·intro V W K AA hW hZ hd hA hK
   have d0:V 0=_:=hd 0 (by kernel_rfl);simp only[pA,d0]at hA;clear hd d0;obtain rfl:=hA;have ev0:W.cell? ⟨v,0,none⟩=some (Value.slice aq M.length cq):=AJ ((hW.block v hvl hvr).trans HV.out) 0 rfl;go_wp2;exact hK.out _ brf
  apply CK
  ·intro V W K AA hW hZ hd hA hK
   simp only[pA]at hA;clear hd;obtain rfl:=hA;go_wp2;exact hK.out _ brf
  apply CK
  ·intro V W K AA hW hZ hd hA hK
   have d2:V 2=_:=hd 2 (by kernel_rfl);simp only[pA,d2]at hA;clear hd d2;obtain rfl:=hA;have ex0:W.cell? ⟨x,0,none⟩=some (.slice (some ⟨b,off,none⟩) l.length cp):=AJ ((hW.block x hxl hxr).trans HX.out) 0 rfl;go_wp2;exact hK.out _ brf
  apply CK
  ·intro V W K AA hW hZ hd hA hK
   simp only[pA]at hA;clear hd;obtain rfl:=hA;go_wp2;exact hK.out _ brf
  apply CK
  ·intro V W K AA hW hZ hd hA hK
   have d3:V 3=_:=hd 3 (by kernel_rfl);have d4:V 4=_:=hd 4 (by kernel_rfl);simp only[pA,d3,d4]at hA;clear hd d3 d4;obtain rfl:=hA;go_wp2;exact hK.out _ brf
  apply CK
  ·intro V W K AA hW hZ hd hA hK
   have d5:V 5=_:=hd 5 (by kernel_rfl);simp only[pA,d5]at hA;clear hd d5;obtain rfl:=hA;have hc:=HSB.out;unfold BxAt at hc;have hc0:∀o,W.cell? ⟨b,o,none⟩=wr.cell? ⟨b,o,none⟩:=λo=>World.cell?_of_block (w:=wr) (hW.block b hbl hbr)
   simp only[<-hc0]at hc;clear hc0;obtain⟨q0,q1,q2,q3⟩:=hc;go_wp2;exact hK.out _ brf
  refine Az (λv W=>∃h1 m1 h2 m2 h3 m3,v=.agg #[.int .i64 s.b.now,.slice (some ⟨h1,0,none⟩) s.b.svcs.length m1,.slice (some ⟨h2,0,none⟩) s.b.cps.length m2,.slice (some ⟨h3,0,none⟩) s.b.bts.length m3]/\BkRow W n0 h1 h2 h3 m1 m2 m3 s.b) (λi hi _ W W' ⟨h1,m1,h2,m2,h3,m3,e,hk⟩ hr=>⟨h1,m1,h2,m2,h3,m3,e,hk.but ((DH hr).elim id But.of) hrb (AG _)⟩) ?_ ?_
  ·intro V W K AA hW hZ hd hA hK
   have d6:V 6=_:=hd 6 (by kernel_rfl);simp only[pA,d6]at hA;clear hd d6;obtain rfl:=hA
   go_wp2_with fail
   refine(CM s.b s.a1 s.a2 s.a3 s.c1 s.c2 s.c3 W hss.small (HBK.out.below (hbW W hW))).mono ?_;rintro e w2 ⟨h1,m1,h2,m2,h3,m3,rfl,hk,hb⟩;go_wp2;exact hK.out _ _ hb ⟨h1,m1,h2,m2,h3,m3,rfl,hk.n (by rw[hn0];exact hW.size)⟩
  refine Az (λv W=>∃b h1 m1 h2 m2 h3 m3,v=.slice (some ⟨b,0,none⟩) 1 1/\n0<=b/\W.heap[b]?=some (.cells #[.int .i64 s.b.now,.slice (some ⟨h1,0,none⟩) s.b.svcs.length m1,.slice (some ⟨h2,0,none⟩) s.b.cps.length m2,.slice (some ⟨h3,0,none⟩) s.b.bts.length m3] 27 (0,0))/\BkRow W n0 h1 h2 h3 m1 m2 m3 s.b) (λi hi _ W W' ⟨b,h1,m1,h2,m2,h3,m3,e,hb,hz,hk⟩ hr=>⟨b,h1,m1,h2,m2,h3,m3,e,hb,(((DH hr).elim id But.of).block b (AB hz).1 (λe'=>by have:=hrb _ e';omega)).trans hz,hk.but ((DH hr).elim id But.of) hrb (AG _)⟩) ?_ ?_
  ·intro V W K AA hW hZ hd hA hK
   have d7:(λv W=>∃h1 m1 h2 m2 h3 m3,v=.agg #[.int .i64 s.b.now,.slice (some ⟨h1,0,none⟩) s.b.svcs.length m1,.slice (some ⟨h2,0,none⟩) s.b.cps.length m2,.slice (some ⟨h3,0,none⟩) s.b.bts.length m3]/\BkRow W n0 h1 h2 h3 m1 m2 m3 s.b) (V 7) W:=hd 7 (by kernel_rfl);simp only[pA]at hA;clear hd;generalize V 7=x7 at d7 hA;obtain rfl:=hA;obtain⟨h1,m1,h2,m2,h3,m3,rfl,hk⟩:=d7;go_wp2;exact hK.out _ _ (AM _ _) ⟨W.heap.size,h1,m1,h2,m2,h3,m3,rfl,by rw[hn0];exact hW.size,heap_alloc_new W _,hk.but (.of (AM _ _)) hrb (AG _)⟩
  refine Az (λv W=>∃g cap h1 m1 h2 m2 h3 m3,v=.slice (some ⟨g,0,none⟩) (k+1) cap/\N<=g/\W.ownsRow N 27 4 v (k+1) (D0 M++Bx.cells ⟨s.b,some ⟨h1,0,none⟩,some ⟨h2,0,none⟩,some ⟨h3,0,none⟩,m1,m2,m3⟩)/\BkRow W n0 h1 h2 h3 m1 m2 m3 s.b) (λi hi _ W W' ⟨g,cap,h1,m1,h2,m2,h3,m3,e,hg,ho,hk⟩ hr=>⟨g,cap,h1,m1,h2,m2,h3,m3,e,hg,JE ho (GA hi hr),hk.but (.of (GA hi hr)) hrb (AG _)⟩) ?_ ?_
  ·intro V W K AA hW hZ hd hA hK
   have d1:V 1=_:=hd 1 (by kernel_rfl);have d8:(λv W=>∃b h1 m1 h2 m2 h3 m3,v=.slice (some ⟨b,0,none⟩) 1 1/\n0<=b/\W.heap[b]?=some (.cells #[.int .i64 s.b.now,.slice (some ⟨h1,0,none⟩) s.b.svcs.length m1,.slice (some ⟨h2,0,none⟩) s.b.cps.length m2,.slice (some ⟨h3,0,none⟩) s.b.bts.length m3] 27 (0,0))/\BkRow W n0 h1 h2 h3 m1 m2 m3 s.b) (V 8) W:=hd 8 (by kernel_rfl);simp only[pA,d1]at hA;clear hd d1;generalize V 8=x8 at d8 hA;obtain rfl:=hA;obtain⟨b8,h1,m1,h2,m2,h3,m3,rfl,hb8,hz8,hk⟩:=d8;have h0:=hZ rfl;refine FH rfl (.tmp 17) (.tmp 24) 82 rfl N 27 _ 4 80 Tryz.underlying82 Tryz.infoBookE rfl (by decide) (Value.slice aq M.length cq) k (D0 M) rfl h0 ⟨b8,0,none⟩ 1 (Bx.cells ⟨s.b,some ⟨h1,0,none⟩,some ⟨h2,0,none⟩,some ⟨h3,0,none⟩,m1,m2,m3⟩) rfl rfl (DU hz8) (ND _) (by unfold maxLen;omega) (by omega) (AH hNw hW.size) ?_;intro g cap w2 hg ho hb hbut;go_wp2;exact hK.out _ _ hbut ⟨g,cap,h1,m1,h2,m2,h3,m3,rfl,hg,ho.out,hk.but hbut hrb (AG _)⟩
  apply CK
  ·intro V W K AA hW hZ hd hA hK
   simp only[pA]at hA;clear hd;obtain rfl:=hA;go_wp2;exact hK.out _ brf
  intro V W AA hW hS hA;have d0:V 0=_:=hS 0 (by omega);have d1:V 1=_:=hS 1 (by omega);have d2:V 2=_:=hS 2 (by omega);have d3:V 3=_:=hS 3 (by omega);have d4:V 4=_:=hS 4 (by omega);have d5:V 5=_:=hS 5 (by omega);have d6:V 6=_:=hS 6 (by omega);have d7:(λv W=>∃h1 m1 h2 m2 h3 m3,v=.agg #[.int .i64 s.b.now,.slice (some ⟨h1,0,none⟩) s.b.svcs.length m1,.slice (some ⟨h2,0,none⟩) s.b.cps.length m2,.slice (some ⟨h3,0,none⟩) s.b.bts.length m3]/\BkRow W n0 h1 h2 h3 m1 m2 m3 s.b) (V 7) W:=hS 7 (by omega);have d8:(λv W=>∃b h1 m1 h2 m2 h3 m3,v=.slice (some ⟨b,0,none⟩) 1 1/\n0<=b/\W.heap[b]?=some (.cells #[.int .i64 s.b.now,.slice (some ⟨h1,0,none⟩) s.b.svcs.length m1,.slice (some ⟨h2,0,none⟩) s.b.cps.length m2,.slice (some ⟨h3,0,none⟩) s.b.bts.length m3] 27 (0,0))/\BkRow W n0 h1 h2 h3 m1 m2 m3 s.b) (V 8) W:=hS 8 (by omega);have d9:(λv W=>∃g cap h1 m1 h2 m2 h3 m3,v=.slice (some ⟨g,0,none⟩) (k+1) cap/\N<=g/\W.ownsRow N 27 4 v (k+1) (D0 M++Bx.cells ⟨s.b,some ⟨h1,0,none⟩,some ⟨h2,0,none⟩,some ⟨h3,0,none⟩,m1,m2,m3⟩)/\BkRow W n0 h1 h2 h3 m1 m2 m3 s.b) (V 9) W:=hS 9 (by omega);have d10:V 10=_:=hS 10 (by omega);simp only[pA,d0,d1,d2,d3,d4,d5,d6,d10]at hA;clear hS d0 d1 d2 d3 d4 d5 d6 d10;generalize V 7=x7 at d7 hA;generalize V 8=x8 at d8 hA;generalize V 9=x9 at d9 hA;obtain rfl:=hA;simp only[List.drop_succ_cons,List.drop_zero];obtain⟨g,cap,h1,m1,h2,m2,h3,m3,rfl,hg,ho,hkk⟩:=d9;clear d7 d8;have HOO:Hid _:=ho;have HKK:Hid _:=hkk;have HB:Hid (But (Value.slice aq M.length cq).ownBlock wr W):=hW;have VW:Hid _:=(hW.block v hvl hvr).trans HV.out
  clear ho hkk hW
  go_upto_region 4 with((with_reducible show wpList _ _ _ _ _ _);refine Ai rfl 82 (.tmp 26) (.tmp 25) rfl v 0 (.slice (some ⟨g,0,none⟩) (k+1) cap) rfl rfl Tryz.infosBooksE rfl rfl 84 #[(.slice aq M.length cq),.int .i64 B.now,.slice (some ⟨g1,0,none⟩) B.svcs.length k1,.slice (some ⟨g2,0,none⟩) B.cps.length k2,.slice (some ⟨g3,0,none⟩) B.bts.length k3] VW.out (AD rfl) ?_;intro w3 hz on;simp only[Act.put])
  have hT:NH wr w3:=λc cs t fr q1 q2 hc=>by
   have h4:=tame_but HOW.out HB.out c cs t fr q1 q2 hc;exact(Fi VW.out on c cs t fr q1 q2 (h4.trans hc)).trans h4
  have hbb:=HB.out.size
  have JN:Hid (CyU N x f v #[.slice (some ⟨b,off,none⟩) l.length cp,.int .i64 B.now,.slice a1 B.svcs.length c1,.slice a2 B.cps.length c2,.slice a3 B.bts.length c3] B g1 g2 g3 k1 k2 k3 w (k+1) (.slice (some ⟨g,0,none⟩) (k+1) cap) (M++[⟨s.b,some ⟨h1,0,none⟩,some ⟨h2,0,none⟩,some ⟨h3,0,none⟩,m1,m2,m3⟩]) w3):=by
   refine⟨(on.other x (by omega)).trans ((HB.out.block x hxl hxr).trans HX.out),(on.other f (by omega)).trans ((HB.out.block f (by omega) hfr).trans HF.out),hz.out,?_,by rw[List.length_append,J.out.len];rfl,λy hy=>?_,J.out.bk.tame hT,(hbW W HB.out).trans (on.below.mono (by omega)),by rw[on.size];omega⟩
   ·rw[show D0 (M++[(⟨s.b,some ⟨h1,0,none⟩,some ⟨h2,0,none⟩,some ⟨h3,0,none⟩,m1,m2,m3⟩:Bx)])=D0 M++Bx.cells ⟨s.b,some ⟨h1,0,none⟩,some ⟨h2,0,none⟩,some ⟨h3,0,none⟩,m1,m2,m3⟩ by simp[D0]]
    refine⟨HOO.out.1,?_⟩;rcases HOO.out.2 with⟨_,h0⟩|⟨g',cap',cur,e,q1,q2,q3⟩
    ·omega
    ·exact .inr ⟨g',cap',cur,e,q1,(on.other g' (by omega)).trans q2,q3⟩
   ·rcases List.mem_append.1 hy with h|h
    ·exact(J.out.ins y h).tame hT
    ·obtain rfl:=List.mem_singleton.1 h
     exact⟨⟨h1,h2,h3,rfl,rfl,rfl,(HKK.out.n (AI _)).tame (Fi VW.out on)⟩,hsz,hss⟩
  rw[<-hN]at JN;clear HOO HKK HB VW hz on hT J HOW HSB HBK hN hn0 hbW;go_wp2
  go_roundw
  case rel=>exact⟨k+1,_,_,by omega,by go_num,JN.out⟩
  case measure=>simp[intOf];omega
end Go.Proofs.YtbceafpodamnfaaGreat
