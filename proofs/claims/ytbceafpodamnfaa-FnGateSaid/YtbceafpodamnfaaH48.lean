import Derived.Test.YtbceafpodamnfaaH47
set_option linter.all false
set_option maxHeartbeats 1000000
namespace Go.Proofs.Ytbceafpodamnfaa
attribute [local simp] svV cpV zbV czV aaV ctZ ad bkV ctV acV evV
attribute [local go_sem] svV cpV zbV czV aaV ctZ ad bkV ctV acV evV
open Go.RowKit Go.Sort
structure Past2(r g:Nat)(w w':World):Prop where
 os:w'.os=w.os
 tape:w'.tape=w.tape
 output:w'.output=w.output
 size:w.heap.size<=w'.heap.size
 block:∀k,k<w.heap.size->k≠r->k≠g->w'.heap[k]?=w.heap[k]?
section
variable {r g p i:Nat} {w w' W W' a b c:World} {q:Int}
theorem Past2.trans(h:Past2 r g a b)(k:Past2 r g b c):Past2 r g a c:=
 ⟨k.os.trans h.os,k.tape.trans h.tape,k.output.trans h.output,AH h.size k.size,λi hi hr hg=>(k.block i (AF hi h.size) hr hg).trans (h.block i hi hr hg)⟩
theorem Past2.ofPast(h:Past r w.heap.size w w'):Past2 r g w w':=⟨h.os,h.tape,h.output,h.size,λk hk hr _=>h.block k hk hr⟩
theorem Past2.ofGrown(h:w.grownBy w' (some g)):Past2 r g w w':=⟨h.os,h.tape,h.output,h.size,λk hk _ hg=>h.block k hk (λe=>hg (Option.some.inj e))⟩
theorem Past2.cell(h:Past2 r g w w'){b:Nat}(hb:b<w.heap.size)(hr:b≠r)(hg:b≠g)(o:Nat):w'.cell? ⟨b,o,none⟩=w.cell? ⟨b,o,none⟩:=World.cell?_of_block (w:=w) (h.block b hb hr hg)
theorem Rd.grown(hR:Rd r w q)(hg:r<g)(h:w.grownBy w' (some g)):Rd r w' q:=by
 have hl:=hR.lt;obtain⟨ao,n,cap,p,c1,c2,c3,c4,c5⟩:=hR;refine⟨ao,n,cap,p,(h.block r hl (λe=>by injection e with e;omega)).trans c1,c2,c3,c4,λhn=>?_⟩;obtain⟨b,off,e1,e2,e3,e4⟩:=c5 hn;exact⟨b,off,e1,AF e2 h.size,e3,λi hi=>by rw[World.cell?_of_block (w:=w) (h.block b e2 (λe=>by injection e with e;omega))];exact e4 i hi⟩
def F6(p r g i:Nat)(W W':World):Prop:=match Nat.beq i p with
 |true=>W.grownBy W' (some g)
 |false=>RStep r 1 W W'
theorem EZ(h:F6 p r g i W W'):Past2 r g W W':=by
 unfold F6 at h;split at h
 ·exact .ofGrown h
 ·exact .ofPast h.1
theorem K5(hi:i≠p)(h:F6 p r g i W W'):RStep r 1 W W':=by
 unfold F6 at h;split at h
 ·rename_i hb
  exact absurd (Nat.eq_of_beq_eq_true hb) hi
 ·exact h
def Nf(r g n:Nat)(q:Int)(w:World)(m:Nat)(W:World):Prop:=Past2 r g w W/\Rd r W (q+((n - m:Nat):Int))
theorem G4{n:Nat}(hR:Rd r w q)(hb:Below w.heap.size w W):Nf r g n q w n W:=⟨.ofPast (.of hb),(hR.below hb).mono (by omega)⟩
theorem IG{n m:Nat}(hg:r<g)(hm:m<n)(h:Nf r g n q w (m+1) W)(hR:F6 p r g i W W'):Nf r g n q w m W':=by
 refine⟨h.1.trans (EZ hR),?_⟩;unfold F6 at hR;split at hR
 ·exact(h.2.grown hg hR).mono (by omega)
 ·exact(hR.2 _ h.2).mono (by omega)
theorem CJ{n:Nat}(h:∃m,m<n/\Nf r g n q w (m+1) W):Past2 r g w W/\Rd r W (q+n):=let ⟨_,hm,h1,h2⟩:=h;⟨h1,h2.mono (by omega)⟩
theorem IB{e:TypeId}{size n cap:Nat}{xs:List Value}(hgr:g≠r)(h:RowIs W e size g n cap xs)(hi:i≠p)(hR:F6 p r g i W W'):RowIs W' e size g n cap xs:=h.blk ((K5 hi hR).1.block g h.lt hgr)
def SlV2(r g n:Nat)(P:Value->Prop)(v:Value)(W:World):Prop:=∃gl,v=.slice (ad gl) n n/\gl≠r/\gl≠g/\gl<W.heap.size/\∀i,i<n->∃u,W.cell? ⟨gl,i,none⟩=some u/\P u
def PtV2(r g:Nat)(P:Value->Prop)(v:Value)(W:World):Prop:=∃gl i u,v=.pointer (some ⟨gl,i,none⟩)/\gl≠r/\gl≠g/\gl<W.heap.size/\W.cell? ⟨gl,i,none⟩=some u/\P u
def Nd(r g:Nat)(ty:TypeId)(P:Array Value->Prop)(v:Value)(W:World):Prop:=∃gl cs,v=.slice (ad gl) 1 1/\gl≠r/\gl≠g/\W.heap[gl]?=some (.cells cs ty (0,0))/\P cs
theorem slv2_l{n j:Nat}{P:Value->Prop}:DR (F6 p r g) j (SlV2 r g n P):=λ_ _ _ _ _ ⟨gl,e,h1,h2,h3,h4⟩ hR=>
 ⟨gl,e,h1,h2,AF h3 (EZ hR).size,λi hi=>by rw[(EZ hR).cell h3 h1 h2];exact h4 i hi⟩
theorem ptv2_l{j:Nat}{P:Value->Prop}:DR (F6 p r g) j (PtV2 r g P):=λ_ _ _ _ _ ⟨gl,i,u,e,h1,h2,h3,h4,h5⟩ hR=>
 ⟨gl,i,u,e,h1,h2,AF h3 (EZ hR).size,by rw[(EZ hR).cell h3 h1 h2];exact h4,h5⟩
theorem M9{j:Nat}{ty:TypeId}{P:Array Value->Prop}:DR (F6 p r g) j (Nd r g ty P):=λ_ _ _ _ _ ⟨gl,cs,e,h1,h2,h3,h4⟩ hR=>
 ⟨gl,cs,e,h1,h2,((EZ hR).block gl (AB h3).1 h1 h2).trans h3,h4⟩
theorem slv2_new{n:Nat}{P:Value->Prop}(cs:Array Value){t:TypeId}(hr:r<W.heap.size)(hg:g<W.heap.size)(hp:∀i,i<n->∃u,cs[i]?=some u/\P u):SlV2 r g n P (.slice (some ⟨W.heap.size,0,none⟩) n n) (W.alloc (.cells cs t)):=
 ⟨_,rfl,by omega,by omega,by show W.heap.size<(W.heap.push _).size;simp,λi hi=>
  let ⟨u,h1,h2⟩:=hp i hi
  ⟨u,AK (heap_alloc_new W _) i h1,h2⟩⟩
def Nh(g N m size:Nat)(e:TypeId)(P:List Value->Prop)(v:Value)(W:World):Prop:=∃g' cap' xs,v=.slice (ad g') m cap'/\(g'=g\/N<=g')/\RowIs W e size g' m cap' xs/\P xs
theorem Na{N m size:Nat}{e:TypeId}{P:List Value->Prop}(hgr:g≠r)(hN:r<N):DR (F6 p r g) p (Nh g N m size e P):=λ_ hi _ _ _ ⟨g',cap',xs,e1,h1,h2,h3⟩ hR=>
 ⟨g',cap',xs,e1,h1,h2.blk ((K5 hi hR).1.block g' h2.lt (by rcases h1 with rfl|h1<;>omega)),h3⟩
theorem Ax(hi:Nat.beq i p=false)(h:RStep r 1 W W'):F6 p r g i W W':=by
 unfold F6;rw[hi];exact h
theorem JO(hi:Nat.beq i p=true)(h:W.grownBy W' (some g)):F6 p r g i W W':=by
 unfold F6;rw[hi];exact h
end
section
variable {r f x g1 k1 g2 k2 g3 k3:Nat} {B:Bk} {w0 w W w':World} {q q':Int}
theorem SpU.past2{g:Nat}(h:SpU r f x g1 k1 g2 k2 g3 k3 B w0 q w)(hp:Past2 r g w W)(hg:w0.heap.size<=g)(on:Bj x W w'):Past r w0.heap.size w0 w':=
 have h0:=h.past.size
 ⟨on.below.os.trans (hp.os.trans h.past.os),on.below.tape.trans (hp.tape.trans h.past.tape),on.below.output.trans (hp.output.trans h.past.output),AH h0 (AH hp.size on.below.size),λk hk hr=>(on.other k (by have:=h.nx;omega)).trans ((hp.block k (by omega) hr (by omega)).trans (h.past.block k hk hr))⟩
theorem SpU.cps(h:SpU r f x g1 k1 g2 k2 g3 k3 B w0 q w)(ht:B.cps.length<=1000)(hp:Past2 r g2 w W)(hR:Rd r W q'){g' cap':Nat}{cc:Cp}(hg':g'=g2\/w.heap.size<=g')(hrow:RowIs W 35 7 g' (B.cps.length+1) cap' (Ag B.cps++cc.cells))(hcc:cc.service.size<=maxLen/\cc.berth.size<=maxLen)
  (hx:Bl w' x #[.int .i64 B.now,.slice (ad g1) B.svcs.length k1,.slice (ad g') (B.cps.length+1) cap',.slice (ad g3) B.bts.length k3] 27) (on:Bj x W w'):SpU r f x g1 k1 g' cap' g3 k3 {B with cps:=B.cps++[cc]} w0 q' w':=by
 obtain⟨z1,z2,z3,z4,z5,z6⟩:=h.bz;have h1:=h.rn;have h2:=h.nf;have h3:=h.nx;have h4:=h.row.n1;have h5:=h.row.n2;have h6:=h.row.n3;have h7:=h.past.size;have hlen:(B.cps++[cc]).length=B.cps.length+1:=by simp
 have hcv:Ag (B.cps++[cc])=Ag B.cps++cc.cells:=by simp[Ag]
 have hxW:∀e,e≠27->∀{size g n c:Nat} {xs:List Value},RowIs W e size g n c xs->g≠x:=λe he _ _ _ _ _ hr=>(hr.notBk ((hp.block x (AB h.vx).1 (by omega) (h.row.cps.notBk h.vx (by decide))).trans h.vx) he).symm
 have r1:=h.row.svcs.blk (hp.block g1 h.row.svcs.lt (by omega) h.row.ne12);have r3:=h.row.bts.blk (hp.block g3 h.row.bts.lt (by omega) h.row.ne23.symm);refine⟨(on.other f h.fx).trans ((hp.block f (AB h.vf).1 (by omega) (h.row.cps.notBk h.vf (by decide))).trans h.vf),by rw[hlen];exact hx,⟨h4,by rcases hg' with rfl|h8<;>omega,h6,r1.blk (on.other g1 (hxW _ (by decide) r1)),?_,r3.blk (on.other g3 (hxW _ (by decide) r3))⟩,⟨z1,by rw[hlen];unfold maxLen;omega,z3,z4,?_,z6⟩,⟨h.bs.1,by show(B.cps++[cc]).length<=_;omega,h.bs.2.2⟩,hR.turn (by omega) on.size on.other,h.past2 hp h5 on,h1,h2,h3,h.fx⟩
 ·show RowIs w' _ 7 g' (B.cps++[cc]).length cap' (Ag (B.cps++[cc]))
  rw[hlen,hcv];exact hrow.blk (on.other g' (hxW _ (by decide) hrow))
 ·intro t ht
  rcases List.mem_append.1 ht with ht|ht
  ·exact z5 t ht
  ·rw[List.mem_singleton.1 ht];exact hcc
theorem SpU.bts(h:SpU r f x g1 k1 g2 k2 g3 k3 B w0 q w)(ht:B.bts.length<=1000)(hp:Past2 r g3 w W)(hR:Rd r W q'){g' cap':Nat}{cc:Bt}(hg':g'=g3\/w.heap.size<=g')(hrow:RowIs W 74 2 g' (B.bts.length+1) cap' (Af B.bts++cc.cells))(hcc:cc.name.size<=maxLen)
  (hx:Bl w' x #[.int .i64 B.now,.slice (ad g1) B.svcs.length k1,.slice (ad g2) B.cps.length k2,.slice (ad g') (B.bts.length+1) cap'] 27) (on:Bj x W w'):SpU r f x g1 k1 g2 k2 g' cap' {B with bts:=B.bts++[cc]} w0 q' w':=by
 obtain⟨z1,z2,z3,z4,z5,z6⟩:=h.bz;have h1:=h.rn;have h2:=h.nf;have h3:=h.nx;have h4:=h.row.n1;have h5:=h.row.n2;have h6:=h.row.n3;have h7:=h.past.size;have hlen:(B.bts++[cc]).length=B.bts.length+1:=by simp
 have hcv:Af (B.bts++[cc])=Af B.bts++cc.cells:=by simp[Af]
 have hxW:∀e,e≠27->∀{size g n c:Nat} {xs:List Value},RowIs W e size g n c xs->g≠x:=λe he _ _ _ _ _ hr=>(hr.notBk ((hp.block x (AB h.vx).1 (by omega) (h.row.bts.notBk h.vx (by decide))).trans h.vx) he).symm
 have r1:=h.row.svcs.blk (hp.block g1 h.row.svcs.lt (by omega) h.row.ne13);have r2:=h.row.cps.blk (hp.block g2 h.row.cps.lt (by omega) h.row.ne23);refine⟨(on.other f h.fx).trans ((hp.block f (AB h.vf).1 (by omega) (h.row.bts.notBk h.vf (by decide))).trans h.vf),by rw[hlen];exact hx,⟨h4,h5,by rcases hg' with rfl|h8<;>omega,r1.blk (on.other g1 (hxW _ (by decide) r1)),r2.blk (on.other g2 (hxW _ (by decide) r2)),?_⟩,⟨z1,z2,by rw[hlen];unfold maxLen;omega,z4,z5,?_⟩,⟨h.bs.1,h.bs.2.1,by show(B.bts++[cc]).length<=_;omega⟩,hR.turn (by omega) on.size on.other,h.past2 hp h6 on,h1,h2,h3,h.fx⟩
 ·show RowIs w' _ 2 g' (B.bts++[cc]).length cap' (Af (B.bts++[cc]))
  rw[hlen,hcv];exact hrow.blk (on.other g' (hxW _ (by decide) hrow))
 ·intro t ht
  rcases List.mem_append.1 ht with ht|ht
  ·exact z6 t ht
  ·rw[List.mem_singleton.1 ht];exact hcc
end
section
variable {ρ:Operand->Value} {o:Oper} {W:World} {x y:Operand}
theorem OP{a b c:ByteArray}(hc:∀v,ρ (.const v)=v)(h:o.op=.buildSlice 91 3 #[(0,.const (.string a)),(1,.const (.string b)),(2,.const (.string c))]):(execOp ρ o).run Try.prog W=.ok (.value (.slice (some ⟨W.heap.size,0,none⟩) 3 3)) (W.alloc (.cells #[.string a,.string b,.string c] 9)):=by
 simp[execOp,h,hc,go_sem]
theorem OX{s:ByteArray}(h:o.op=.build 74 #[(0,x)])(hx:ρ x=.string s):(execOp ρ o).run Try.prog W=.ok (.value (.agg #[.string s,.bool false])) W:=by
 simp[execOp,h,hx,go_sem]
theorem M4{s:ByteArray}(h:o.op=.buildSlice 25 1 #[(0,x)])(hx:ρ x=.agg #[.string s,.bool false]):(execOp ρ o).run Try.prog W=.ok (.value (.slice (some ⟨W.heap.size,0,none⟩) 1 1)) (W.alloc (.cells #[.string s,.bool false] 74)):=by
 simp[execOp,h,hx,go_sem]
theorem JH{g k:Nat}{c:Cp}(h:o.op=.load 35 x)(hx:ρ x=.pointer (some ⟨g,k,none⟩))(hc:CpAt W g k c):(execOp ρ o).run Try.prog W=.ok (.value (.agg (cpV c))) W:=by
 obtain⟨z0,z1,z2,z3,z4,z5,z6⟩:=hc;simp[execOp,h,hx,go_sem,z0,z1,z2,z3,z4,z5,z6]
theorem JK{c:Cp}(h:o.op=.buildSlice 24 1 #[(0,x)])(hx:ρ x=.agg (cpV c)):(execOp ρ o).run Try.prog W=.ok (.value (.slice (some ⟨W.heap.size,0,none⟩) 1 1)) (W.alloc (.cells (cpV c) 35)):=by
 simp[execOp,h,hx,go_sem]
end
theorem sp_R42{o0 o1 o2 o3 o4 o5 o6 o7 o8 o9 o10:Oper}(t:Nat)
  (hsh:[o0,o1,o2,o3,o4,o5,o6,o7,o8,o9,o10].map (λo=>(o.dst,o.op,o.guard))=[(some t,.fieldAddr 27 (.tmp 5) 2,none),(some (t+1),.load 24 (.tmp t),none),(some (t+2),.fieldAddr 27 (.tmp 5) 2,none),(some (t+3),.load 24 (.tmp (t+2)),none),(some (t+4),.move (.tmp 7),none),(some (t+5),.indexAddr 24 (.tmp (t+3)) (.tmp (t+4)),none),(some (t+6),.load 35 (.tmp (t+5)),none),(some (t+7),.buildSlice 24 1 #[(0,.tmp (t+6))],none),(some (t+8),.call {callee:=.builtin .append,args:=#[.tmp (t+1),.tmp (t+7)],argTypes:=#[24,24]},none),(some (t+9),.fieldAddr 27 (.tmp 5) 2,none),(none,.store 24 (.tmp (t+9)) (.tmp (t+8)),none)])
  (hB:Ap [o0,o1,o2,o3,o4,o5,o6,o7,o8,o9,o10].toArray 10=true)
  (hwt:[(1,0),(3,2),(5,3),(5,4),(6,5),(7,6),(8,1),(8,7)].all (λx=>Region.waitsFor .any [o0,o1,o2,o3,o4,o5,o6,o7,o8,o9,o10].toArray x.1 x.2)=true) (ht0:33<=t) (hts:t+9<284)
  (hr6:EN [o0,o1,o2,o3,o4,o5,o6,o7,o8,o9,o10].toArray 10 8 6=true) (hr7:EN [o0,o1,o2,o3,o4,o5,o6,o7,o8,o9,o10].toArray 10 8 7=true) (hr8:EN [o0,o1,o2,o3,o4,o5,o6,o7,o8,o9,o10].toArray 10 8 8=true)
  {r f x s c g1 k1 g2 k2 g3 k3 id:Nat} {B:Bk} {k q:Int} {a:Act} {w0 w:World} {Q:Exit->Act->World->Prop} (hf:SpF r f x s c k a) (hu:SpU r f x g1 k1 g2 k2 g3 k3 B w0 q w) (hq:q<=900000000000) (hs:c<B.cps.length) (ht:B.cps.length<=1000) (hQ:∀a' w',SpF r f x s c k a'->SpW r f x w0 (q+20) w'->Q .normal a' w'):
  (Code.region id [o0,o1,o2,o3,o4,o5,o6,o7,o8,o9,o10].toArray true).wp Try.prog Q a w:=by
 simp only[List.map_cons,List.map_nil,List.cons.injEq,Prod.mk.injEq,and_true]at hsh;obtain⟨⟨d0,p0,u0⟩,⟨d1,p1,u1⟩,⟨d2,p2,u2⟩,⟨d3,p3,u3⟩,⟨d4,p4,u4⟩,⟨d5,p5,u5⟩,⟨d6,p6,u6⟩,⟨d7,p7,u7⟩,⟨d8,p8,u8⟩,⟨d9,p9,u9⟩,d10,p10,u10⟩:=hsh;simp only[List.all_cons,List.all_nil,Bool.and_eq_true,Bool.and_true]at hwt;obtain⟨w1_0,w3_2,w5_3,w5_4,w6_5,w7_6,w8_1,w8_7⟩:=hwt;have hsz:=hf.sz
 have hown:CI [o0,o1,o2,o3,o4,o5,o6,o7,o8,o9,o10].toArray 10=true:=by
  simp only[Ap,Bool.and_eq_true]at hB;exact hB.1.2
 have hold:∀(V:Nat->Value) (s:Nat),s<33->(Ad [o0,o1,o2,o3,o4,o5,o6,o7,o8,o9,o10].toArray V 10 a).eval (.tmp s)=a.eval (.tmp s):=λV s hs=>CX 10 λj hj=>by
  rcases j with _|_|_|_|_|_|_|_|_|_|j
  all_goals first|(simp[d0,d1,d2,d3,d4,d5,d6,d7,d8,d9];omega)|omega
 have G:∀(V:Nat->Value) (i d:Nat),i<10->(([o0,o1,o2,o3,o4,o5,o6,o7,o8,o9,o10].toArray)[i]?).bind (·.dst)=some d->d<a.tmps.size->(Ad [o0,o1,o2,o3,o4,o5,o6,o7,o8,o9,o10].toArray V 10 a).eval (.tmp d)=V i:=λV i d hi hd hs=>CY hd hs 10 hown hi
 have h1:=hu.rn;have h2:=hu.nx;have h3:=hu.row.n2;have hxg:=hu.row.cps.notBk hu.vx (by decide);have hX:∀W,Past2 r g2 w W->W.heap[x]?=_:=λW h=>(h.block x (AB hu.vx).1 (by omega) hxg).trans hu.vx
 refine DS 10 8 (Nf r g2 10 q w) (λW=>RowIs W 35 7 g2 B.cps.length k2 (Ag B.cps)) (F6 8 r g2) (by kernel_rfl) (AD rfl) hB (λW hb=>⟨G4 hu.rd hb,hu.row.cps.below hb hu.row.cps.lt⟩) (λi m W W' hm h hR=>IG (by omega) hm h hR) (λi W W' hi h hR=>IB (by omega) h hi hR) ?_;refine Ae (λv _=>v=.pointer (some ⟨x,2,none⟩)) (λ_ _ _ _ _ h _=>h) ?_ ?_
 ·intro V W K A hI hZ hd hA hK
  obtain rfl:=hA;exact Aa u0 (Ar (by omega) p0 ((hold V 5 (by omega)).trans hf.e5)) (hK.out _ _ (Ax rfl (RStep.re _)) rfl)
 refine Ae (λv _=>v=.slice (ad g2) B.cps.length k2) (λ_ _ _ _ _ h _=>h) ?_ ?_
 ·intro V W K A hI hZ hd hA hK
  obtain rfl:=hA;have h0:(λv _=>v=.pointer (some ⟨x,2,none⟩)) (V 0) W:=hd 0 w1_0;exact Aa u1 (Dd p1 ((G V 0 _ (by omega) d0 (by omega)).trans h0) (AK (hX W (CJ hI).1) 2 rfl)) (hK.out _ _ (Ax rfl (RStep.re _)) rfl)
 refine Ae (λv _=>v=.pointer (some ⟨x,2,none⟩)) (λ_ _ _ _ _ h _=>h) ?_ ?_
 ·intro V W K A hI hZ hd hA hK
  obtain rfl:=hA;exact Aa u2 (Ar (by omega) p2 ((hold V 5 (by omega)).trans hf.e5)) (hK.out _ _ (Ax rfl (RStep.re _)) rfl)
 refine Ae (λv _=>v=.slice (ad g2) B.cps.length k2) (λ_ _ _ _ _ h _=>h) ?_ ?_
 ·intro V W K A hI hZ hd hA hK
  obtain rfl:=hA;have h2:(λv _=>v=.pointer (some ⟨x,2,none⟩)) (V 2) W:=hd 2 w3_2;exact Aa u3 (Dd p3 ((G V 2 _ (by omega) d2 (by omega)).trans h2) (AK (hX W (CJ hI).1) 2 rfl)) (hK.out _ _ (Ax rfl (RStep.re _)) rfl)
 refine Ae (λv _=>v=.int .i64 c) (λ_ _ _ _ _ h _=>h) ?_ ?_
 ·intro V W K A hI hZ hd hA hK
  obtain rfl:=hA;exact Aa u4 (BG p4 ((hold V 7 (by omega)).trans hf.e7)) (hK.out _ _ (Ax rfl (RStep.re _)) rfl)
 refine Ae (λv _=>v=.pointer (some ⟨g2,c*7,none⟩)) (λ_ _ _ _ _ h _=>h) ?_ ?_
 ·intro V W K A hI hZ hd hA hK
  obtain rfl:=hA;have h3:(λv _=>v=.slice (ad g2) B.cps.length k2) (V 3) W:=hd 3 w5_3;have h4:(λv _=>v=.int .i64 c) (V 4) W:=hd 4 w5_4;exact Aa u5 (G1 p5 ((G V 3 _ (by omega) d3 (by omega)).trans h3) ((G V 4 _ (by omega) d4 (by omega)).trans h4) hs) (hK.out _ _ (Ax rfl (RStep.re _)) rfl)
 refine Ae (λv _=>∃cc∈B.cps,v=.agg (cpV cc)) (λ_ _ _ _ _ h _=>h) ?_ ?_
 ·intro V W K A hI hZ hd hA hK
  obtain rfl:=hA;have h5:(λv _=>v=.pointer (some ⟨g2,c*7,none⟩)) (V 5) W:=hd 5 w6_5;obtain⟨y,hy⟩:∃y,B.cps[c]?=some y:=⟨B.cps[c],by simp[hs]⟩;exact Aa u6 (JH p6 ((G V 5 _ (by omega) d5 (by omega)).trans h5) ((hZ hr6).cpAt hy)) (hK.out _ _ (Ax rfl (RStep.re _)) ⟨y,AE hy,rfl⟩)
 refine Ae (Nd r g2 35 (λcs=>∃cc∈B.cps,cs=(cpV cc))) M9 ?_ ?_
 ·intro V W K A hI hZ hd hA hK
  obtain rfl:=hA;have h6:(λv _=>∃cc∈B.cps,v=.agg (cpV cc)) (V 6) W:=hd 6 w7_6;obtain⟨cc,hm,h6⟩:=h6;have hl:=(CJ hI).2.lt;have hg:=(hZ hr7).lt;exact Aa u7 (JK p7 ((G V 6 _ (by omega) d6 (by omega)).trans h6)) (hK.out _ _ (Ax rfl (.of (AO _ _))) ⟨_,_,rfl,by omega,by omega,heap_alloc_new W _,cc,hm,rfl⟩)
 refine Ae (Nh g2 w.heap.size (B.cps.length+1) 7 35 (λxs=>∃cc∈B.cps,xs=Ag B.cps++cc.cells)) (Na (by omega) hu.rd.lt) ?_ ?_
 ·intro V W K A hI hZ hd hA hK
  obtain rfl:=hA;have h1:(λv _=>v=.slice (ad g2) B.cps.length k2) (V 1) W:=hd 1 w8_1;have h7:(Nd r g2 35 (λcs=>∃cc∈B.cps,cs=(cpV cc))) (V 7) W:=hd 7 w8_7;obtain⟨gl,cs,h7,l1,l2,l3,cc,hm,rfl⟩:=h7;refine AV u8 _ _ 24 p8 35 _ 7 72 Try.underlying24 DI rfl g2 B.cps.length k2 _ ((G V 1 _ (by omega) d1 (by omega)).trans h1) (hZ hr8) ⟨gl,0,none⟩ 1 1 ((cpV cc):Array Value).toList ((G V 7 _ (by omega) d7 (by omega)).trans h7) rfl (BU l3) (by simp[Value.oneCell']) (by unfold maxLen;omega) (by omega) ?_;intro g' cap' w2 hg' hrow hgr;exact hK.out _ _ (JO rfl hgr) ⟨g',cap',_,rfl,hg'.elim .inl (λe=>.inr (by rw[e];exact(CJ hI).1.size)),hrow.out,cc,hm,rfl⟩
 refine Ae (λv _=>v=.pointer (some ⟨x,2,none⟩)) (λ_ _ _ _ _ h _=>h) ?_ ?_
 ·intro V W K A hI hZ hd hA hK
  obtain rfl:=hA;exact Aa u9 (Ar (by omega) p9 ((hold V 5 (by omega)).trans hf.e5)) (hK.out _ _ (Ax rfl (RStep.re _)) rfl)
 intro V W A hI hS hA;obtain rfl:=hA;obtain⟨g',cap',xs,hv,hg',hrow,cc,hm,rfl⟩:(Nh g2 w.heap.size (B.cps.length+1) 7 35 (λxs=>∃cc∈B.cps,xs=Ag B.cps++cc.cells)) (V 8) W:=hS 8 (by omega);have hP:V 9=_:=hS 9 (by omega);refine AP u10 24 _ _ p10 x 2 (V 8) ((G V 9 _ (by omega) d9 (by omega)).trans hP) (G V 8 _ (by omega) d8 (by omega)) C6 (by rw[hv];rfl) (by rw[hv];rfl) 27 _ (hX W hI.1) (AD rfl) ?_;intro w' hz on;have hz':=hz.out;rw[hv]at hz';rw[d10];exact hQ _ _ (hf.kept ⟨λs hs=>hold V s hs,Bq 10,BZ 10⟩) ⟨_,_,_,_,_,_,_,hu.cps ht hI.1 (hI.2.mono (show q+((10 - 0:Nat):Int)<=q+20 by omega)) hg' hrow (hu.bz.2.2.2.2.1 cc hm) hz' on⟩
theorem sp_R44{o0 o1 o2 o3 o4 o5 o6 o7 o8 o9 o10 o11:Oper}(t:Nat)(sa sb sc:ByteArray)
  (hsh:[o0,o1,o2,o3,o4,o5,o6,o7,o8,o9,o10,o11].map (λo=>(o.dst,o.op,o.guard))=[(some t,.fieldAddr 27 (.tmp 5) 3,none),(some (t+1),.load 25 (.tmp t),none),(some (t+2),.buildSlice 91 3 #[(0,.const (.string sa)),(1,.const (.string sb)),(2,.const (.string sc))],none),(some (t+3),.move (.tmp 0),none),(some (t+4),.call {callee:=.value (.func 21),args:=#[.tmp (t+3),.const (.int .i64 3)],argTypes:=#[52,3]},none),(some (t+5),.indexAddr 91 (.tmp (t+2)) (.tmp (t+4)),none),(some (t+6),.load 9 (.tmp (t+5)),none),(some (t+7),.build 74 #[(0,.tmp (t+6))],none),(some (t+8),.buildSlice 25 1 #[(0,.tmp (t+7))],none),(some (t+9),.call {callee:=.builtin .append,args:=#[.tmp (t+1),.tmp (t+8)],argTypes:=#[25,25]},none),(some (t+10),.fieldAddr 27 (.tmp 5) 3,none),(none,.store 25 (.tmp (t+10)) (.tmp (t+9)),none)])
  (hB:Ap [o0,o1,o2,o3,o4,o5,o6,o7,o8,o9,o10,o11].toArray 11=true)
  (hwt:[(1,0),(4,3),(5,2),(5,4),(6,5),(7,6),(8,7),(9,1),(9,8)].all (λx=>Region.waitsFor .any [o0,o1,o2,o3,o4,o5,o6,o7,o8,o9,o10,o11].toArray x.1 x.2)=true) (ht0:33<=t) (hts:t+10<284)
  (hr2:EN [o0,o1,o2,o3,o4,o5,o6,o7,o8,o9,o10,o11].toArray 11 9 2=true) (hr8:EN [o0,o1,o2,o3,o4,o5,o6,o7,o8,o9,o10,o11].toArray 11 9 8=true) (hr9:EN [o0,o1,o2,o3,o4,o5,o6,o7,o8,o9,o10,o11].toArray 11 9 9=true) (hsa:sa.size<=10) (hsb:sb.size<=10) (hsc:sc.size<=10)
  {r f x s c g1 k1 g2 k2 g3 k3 id:Nat} {B:Bk} {k q:Int} {a:Act} {w0 w:World} {Q:Exit->Act->World->Prop} (hf:SpF r f x s c k a) (hu:SpU r f x g1 k1 g2 k2 g3 k3 B w0 q w) (hq:q<=900000000000) (hs:c<B.cps.length) (ht:B.bts.length<=1000) (hQ:∀a' w',SpF r f x s c k a'->SpW r f x w0 (q+20) w'->Q .normal a' w'):
  (Code.region id [o0,o1,o2,o3,o4,o5,o6,o7,o8,o9,o10,o11].toArray true).wp Try.prog Q a w:=by
 simp only[List.map_cons,List.map_nil,List.cons.injEq,Prod.mk.injEq,and_true]at hsh;obtain⟨⟨d0,p0,u0⟩,⟨d1,p1,u1⟩,⟨d2,p2,u2⟩,⟨d3,p3,u3⟩,⟨d4,p4,u4⟩,⟨d5,p5,u5⟩,⟨d6,p6,u6⟩,⟨d7,p7,u7⟩,⟨d8,p8,u8⟩,⟨d9,p9,u9⟩,⟨d10,p10,u10⟩,d11,p11,u11⟩:=hsh;simp only[List.all_cons,List.all_nil,Bool.and_eq_true,Bool.and_true]at hwt;obtain⟨w1_0,w4_3,w5_2,w5_4,w6_5,w7_6,w8_7,w9_1,w9_8⟩:=hwt;have hsz:=hf.sz
 have hown:CI [o0,o1,o2,o3,o4,o5,o6,o7,o8,o9,o10,o11].toArray 11=true:=by
  simp only[Ap,Bool.and_eq_true]at hB;exact hB.1.2
 have hold:∀(V:Nat->Value) (s:Nat),s<33->(Ad [o0,o1,o2,o3,o4,o5,o6,o7,o8,o9,o10,o11].toArray V 11 a).eval (.tmp s)=a.eval (.tmp s):=λV s hs=>CX 11 λj hj=>by
  rcases j with _|_|_|_|_|_|_|_|_|_|_|j
  all_goals first|(simp[d0,d1,d2,d3,d4,d5,d6,d7,d8,d9,d10];omega)|omega
 have G:∀(V:Nat->Value) (i d:Nat),i<11->(([o0,o1,o2,o3,o4,o5,o6,o7,o8,o9,o10,o11].toArray)[i]?).bind (·.dst)=some d->d<a.tmps.size->(Ad [o0,o1,o2,o3,o4,o5,o6,o7,o8,o9,o10,o11].toArray V 11 a).eval (.tmp d)=V i:=λV i d hi hd hs=>CY hd hs 11 hown hi
 have h1:=hu.rn;have h2:=hu.nx;have h3:=hu.row.n3;have hxg:=hu.row.bts.notBk hu.vx (by decide);have hX:∀W,Past2 r g3 w W->W.heap[x]?=_:=λW h=>(h.block x (AB hu.vx).1 (by omega) hxg).trans hu.vx
 refine DS 11 9 (Nf r g3 11 q w) (λW=>RowIs W 74 2 g3 B.bts.length k3 (Af B.bts)) (F6 9 r g3) (by kernel_rfl) (AD rfl) hB (λW hb=>⟨G4 hu.rd hb,hu.row.bts.below hb hu.row.bts.lt⟩) (λi m W W' hm h hR=>IG (by omega) hm h hR) (λi W W' hi h hR=>IB (by omega) h hi hR) ?_;refine Ae (λv _=>v=.pointer (some ⟨x,3,none⟩)) (λ_ _ _ _ _ h _=>h) ?_ ?_
 ·intro V W K A hI hZ hd hA hK
  obtain rfl:=hA;exact Aa u0 (Ar (by omega) p0 ((hold V 5 (by omega)).trans hf.e5)) (hK.out _ _ (Ax rfl (RStep.re _)) rfl)
 refine Ae (λv _=>v=.slice (ad g3) B.bts.length k3) (λ_ _ _ _ _ h _=>h) ?_ ?_
 ·intro V W K A hI hZ hd hA hK
  obtain rfl:=hA;have h0:(λv _=>v=.pointer (some ⟨x,3,none⟩)) (V 0) W:=hd 0 w1_0;exact Aa u1 (ld_bts p1 ((G V 0 _ (by omega) d0 (by omega)).trans h0) (AK (hX W (CJ hI).1) 3 rfl)) (hK.out _ _ (Ax rfl (RStep.re _)) rfl)
 refine Ae (SlV2 r g3 3 CG) slv2_l ?_ ?_
 ·intro V W K A hI hZ hd hA hK
  obtain rfl:=hA;have hl:=(CJ hI).2.lt;have hg:=(hZ hr2).lt;exact Aa u2 (OP (λ_=>rfl) p2) (hK.out _ _ (Ax rfl (.of (AO _ _))) (slv2_new _ hl hg (CT ⟨_,rfl,hsa⟩ ⟨_,rfl,hsb⟩ ⟨_,rfl,hsc⟩)))
 refine Ae (λv _=>v=.pointer (ad r)) (λ_ _ _ _ _ h _=>h) ?_ ?_
 ·intro V W K A hI hZ hd hA hK
  obtain rfl:=hA;exact Aa u3 (BG p3 ((hold V 0 (by omega)).trans hf.e0)) (hK.out _ _ (Ax rfl (RStep.re _)) rfl)
 refine Ae (Pk 3) (λ_ _ _ _ _ h _=>h) ?_ ?_
 ·intro V W K A hI hZ hd hA hK
  obtain rfl:=hA;have h3:(λv _=>v=.pointer (ad r)) (V 3) W:=hd 3 w4_3;refine DT u4 (EF rfl rfl p4 ((G V 3 _ (by omega) d3 (by omega)).trans h3)) ((Ao r 3 _ W (by omega) (by omega) (CJ hI).2 (by omega)).mono ?_);rintro e w2 ⟨k,rfl,hk,hs⟩;exact⟨_,rfl,hK.out _ _ (Ax rfl hs) ⟨k,rfl,hk⟩⟩
 refine Ae (PtV2 r g3 CG) ptv2_l ?_ ?_
 ·intro V W K A hI hZ hd hA hK
  obtain rfl:=hA;have h2:(SlV2 r g3 3 CG) (V 2) W:=hd 2 w5_2;have h4:(Pk 3) (V 4) W:=hd 4 w5_4;obtain⟨gl,h2,l1,l2,l3,l4⟩:=h2;obtain⟨k,h4,hk⟩:=h4;obtain⟨j,rfl⟩:=AI hk.1;have hj:j<3:=by have:=hk.2.1 (by omega);omega
  obtain⟨u,c1,c2⟩:=l4 j hj;exact Aa u5 (NO p5 ((G V 2 _ (by omega) d2 (by omega)).trans h2) ((G V 4 _ (by omega) d4 (by omega)).trans h4) hj) (hK.out _ _ (Ax rfl (RStep.re _)) ⟨gl,j,u,rfl,l1,l2,l3,c1,c2⟩)
 refine Ae (Va CG) (λ_ _ _ _ _ h _=>h) ?_ ?_
 ·intro V W K A hI hZ hd hA hK
  obtain rfl:=hA;have h5:(PtV2 r g3 CG) (V 5) W:=hd 5 w6_5;obtain⟨gl,j,u,h5,l1,l2,l3,c1,c2⟩:=h5;exact Aa u6 (Gy p6 ((G V 5 _ (by omega) d5 (by omega)).trans h5) c1) (hK.out _ _ (Ax rfl (RStep.re _)) c2)
 refine Ae (λv _=>∃sn:ByteArray,sn.size<=10/\v=.agg #[.string sn,.bool false]) (λ_ _ _ _ _ h _=>h) ?_ ?_
 ·intro V W K A hI hZ hd hA hK
  obtain rfl:=hA;have h6:(Va CG) (V 6) W:=hd 6 w7_6;obtain⟨sn,h6,hsn⟩:=h6;exact Aa u7 (OX p7 ((G V 6 _ (by omega) d6 (by omega)).trans h6)) (hK.out _ _ (Ax rfl (RStep.re _)) ⟨sn,hsn,rfl⟩)
 refine Ae (Nd r g3 74 (λcs=>∃sn:ByteArray,sn.size<=10/\cs=#[.string sn,.bool false])) M9 ?_ ?_
 ·intro V W K A hI hZ hd hA hK
  obtain rfl:=hA;have h7:(λv _=>∃sn:ByteArray,sn.size<=10/\v=.agg #[.string sn,.bool false]) (V 7) W:=hd 7 w8_7;obtain⟨sn,hsn,h7⟩:=h7;have hl:=(CJ hI).2.lt;have hg:=(hZ hr8).lt;exact Aa u8 (M4 p8 ((G V 7 _ (by omega) d7 (by omega)).trans h7)) (hK.out _ _ (Ax rfl (.of (AO _ _))) ⟨_,_,rfl,by omega,by omega,heap_alloc_new W _,sn,hsn,rfl⟩)
 refine Ae (Nh g3 w.heap.size (B.bts.length+1) 2 74 (λxs=>∃sn:ByteArray,sn.size<=10/\xs=Af B.bts++(⟨sn,false⟩:Bt).cells)) (Na (by omega) hu.rd.lt) ?_ ?_
 ·intro V W K A hI hZ hd hA hK
  obtain rfl:=hA;have h1:(λv _=>v=.slice (ad g3) B.bts.length k3) (V 1) W:=hd 1 w9_1;have h8:(Nd r g3 74 (λcs=>∃sn:ByteArray,sn.size<=10/\cs=#[.string sn,.bool false])) (V 8) W:=hd 8 w9_8;obtain⟨gl,cs,h8,l1,l2,l3,sn,hsn,rfl⟩:=h8;refine AV u9 _ _ 25 p9 74 _ 2 24 Try.underlying25 BJ rfl g3 B.bts.length k3 _ ((G V 1 _ (by omega) d1 (by omega)).trans h1) (hZ hr9) ⟨gl,0,none⟩ 1 1 (#[.string sn,.bool false]:Array Value).toList ((G V 8 _ (by omega) d8 (by omega)).trans h8) rfl (BU l3) (by simp[Value.oneCell']) (by unfold maxLen;omega) (by omega) ?_;intro g' cap' w2 hg' hrow hgr;exact hK.out _ _ (JO rfl hgr) ⟨g',cap',_,rfl,hg'.elim .inl (λe=>.inr (by rw[e];exact(CJ hI).1.size)),hrow.out,sn,hsn,rfl⟩
 refine Ae (λv _=>v=.pointer (some ⟨x,3,none⟩)) (λ_ _ _ _ _ h _=>h) ?_ ?_
 ·intro V W K A hI hZ hd hA hK
  obtain rfl:=hA;exact Aa u10 (Ar (by omega) p10 ((hold V 5 (by omega)).trans hf.e5)) (hK.out _ _ (Ax rfl (RStep.re _)) rfl)
 intro V W A hI hS hA;obtain rfl:=hA;obtain⟨g',cap',xs,hv,hg',hrow,sn,hsn,rfl⟩:(Nh g3 w.heap.size (B.bts.length+1) 2 74 (λxs=>∃sn:ByteArray,sn.size<=10/\xs=Af B.bts++(⟨sn,false⟩:Bt).cells)) (V 9) W:=hS 9 (by omega);have hP:V 10=_:=hS 10 (by omega);refine AP u11 25 _ _ p11 x 3 (V 9) ((G V 10 _ (by omega) d10 (by omega)).trans hP) (G V 9 _ (by omega) d9 (by omega)) CN (by rw[hv];rfl) (by rw[hv];rfl) 27 _ (hX W hI.1) (AD rfl) ?_;intro w' hz on;have hz':=hz.out;rw[hv]at hz';rw[d11];exact hQ _ _ (hf.kept ⟨λs hs=>hold V s hs,Bq 11,BZ 11⟩) ⟨_,_,_,_,_,_,_,hu.bts ht hI.1 (hI.2.mono (show q+((11 - 0:Nat):Int)<=q+20 by omega)) hg' hrow (Nx hsn) hz' on⟩
end Go.Proofs.Ytbceafpodamnfaa
