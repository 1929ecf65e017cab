import Derived.Test.YtbceafpodamnfaaGreatDoorG17
import Derived.Test.YtbceafpodamnfaaGreatDoorG18
set_option linter.all false
set_option maxHeartbeats 16000000
set_option maxRecDepth 100000
namespace Go.Proofs.YtbceafpodamnfaaGreatDoor
section
open Go.RowKit
theorem BG:(Tryz.prog.info? 28).map (·.size)=some 4:=by kernel_rfl
theorem Pj(w:World)(A B C:Obj):∃F,((w.alloc A).alloc B).alloc C=F/\F.heap[w.heap.size]?=some A/\F.heap[w.heap.size+1]?=some B/\F.heap[w.heap.size+1+1]?=some C/\w.heap.size+1+1+1<=F.heap.size/\F.heap.size<=w.heap.size+1+1+1/\Below w.heap.size w F:=by
 obtain⟨H,J,M,W⟩:=MM w A B C;exact⟨_,rfl,H,J,M,by omega,by omega,(((dI _ _).alloc (AG _) _).alloc (by simp) _).alloc (by simp;omega) _⟩
section
variable {P:Program}
theorem BZ{fn:Func}{p q:Tmp}{ty:TypeId}(h:fn.results=#[.cell p ty,.tmp q])(tmps:Array Value)(w:World)(g:Nat)(t:TypeId)(cs:Array Value)(fr:Nat × Nat)(d:TypeDesc)
  (M:tmps.getD p undef=.pointer (qad g)) (W:w.heap[g]?=some (.cells cs t fr))
  (Z:P.underlying ty=some d) (Y:(match d with| .struct _| .array _ _=>true|_=>false)=true) (J:(P.info? ty).map (·.size)=some cs.size) (v:Value) (hv:tmps.getD q undef=v):
  (results fn tmps).run P w=.ok (.tuple #[.agg cs,v]) w:=by
 have H:tmps[p]?.getD undef=.pointer (qad g):=by simpa using M
 have F:tmps[q]?.getD undef=v:=by simpa using hv
 simp[results,h,H,F,asAddr,iU w g t ty cs fr d W Z Y J]
end
structure KeepBut(g1 g2 g3:Nat)(w w':World):Prop where
 os:w'.os=w.os
 tape:w'.tape=w.tape
 output:w'.output=w.output
 size:w.heap.size<=w'.heap.size
 block:∀q,q<w.heap.size->q≠g1->q≠g2->q≠g3->w'.heap[q]?=w.heap[q]?
theorem KeepBut.below{g1 g2 g3 N:Nat}{w w':World}(h:KeepBut g1 g2 g3 w w')(F:N<=g1)(H:N<=g2)(W:N<=g3)(J:N<=w.heap.size):Below N w w':=⟨h.os,h.tape,h.output,h.size,λq M=>h.block q (by omega) (by omega) (by omega) (by omega)⟩
def SeaR(g1 g2 g3:Nat)(w:World)(B:Bk)(E:Ev)(e:Ending)(w':World):Prop:=∃(q:Int) (b1 b2 b3:Nat) (m1 d1 m2 d2 m3 d3:Nat),
 e=.returned (.tuple #[.agg #[.int .i64 q,.slice (qad b1) m1 d1,.slice (qad b2) m2 d2,.slice (qad b3) m3 d3],.int .i64 (AS B E).2])/\
 ((AS B E).2=0->q=(AS B E).1.aj/\m1=(AS B E).1.af.length/\m2=(AS B E).1.ah.length/\m3=(AS B E).1.ak.length/\RowIs w' 34 13 b1 m1 d1 (Ab (AS B E).1.af)/\RowIs w' 76 7 b2 m2 d2 (Ar (AS B E).1.ah)/\RowIs w' 90 2 b3 m3 d3 (CN (AS B E).1.ak))/\KeepBut g1 g2 g3 w w'
theorem valid_tn{B:Bk}(h:Ag B=true):B.af.length<=1000/\B.ah.length<=1000/\B.ak.length<=1000:=by
 unfold Ag at h;simp only[cY,dM]at h;omega
theorem Ps{RD:(Nat->Prop)->World->Nat->Nat->Prop}{w0 w:World}{G:Gh}{q i ty sz cp n:Nat}{b:VB}{X:Type}{f:X->List Value}{l:List X}(h:Hold RD w0 G w q i b)(hb:LeB [] b (An ty sz cp f l))(W:n=l.length):∃g,G.α i=some ⟨g,0,none⟩/\RowIs w ty sz g n cp (l.map f).flatten:=by
 obtain⟨g,els,J,_,_,_,r1,r2',r3,M⟩:=h.k3 hb.kd;obtain⟨n1,n2⟩:=hb.n3 rfl;refine⟨g,J,?_⟩;have hk:RowK G.Z w g (An ty sz cp f l) els:=⟨r1.trans n1,λel F=>(by rw[<-hb.sz];exact r2' el F),(by rw[<-hb.ty,<-hb.sz,<-n1,<-n2];exact r3),λj el H=>⟨λk hk=>(M j el H).1 k (hb.Q j (by have:=(AC H).1;rw[r1,n1]at this;exact this) k hk),λ_ _=>trivial⟩⟩;rw[W,<-hk.cJ];exact hk.2.2.1
theorem ND{RD:(Nat->Prop)->World->Nat->Nat->Prop}{w0 w:World}{G:Gh}{q i ty sz cp g:Nat}{X:Type}{f:X->List Value}{l:List X}(hf:∀x,(f x).length=sz/\∀v∈f x,v.oneCell'=true/\∀β,r0 β v=v)(J:w0.heap.size=0)(hα:G.α i=some ⟨g,0,none⟩)(H:¬G.Z g)(F:¬G.RB g)(h:RowIs w ty sz g l.length cp (l.map f).flatten):Hold RD w0 G w q i (An ty sz cp f l):=
 ⟨λh=>(nomatch h),λh=>(nomatch h),λh=>(nomatch h),λ_=>⟨g,_,hα,by omega,H,F,RowK.of hf h⟩,λh=>(nomatch h),.inr (.inr (.inr (.inl rfl)))⟩
theorem SA(B:Bk)(E:Ev)(N g1 g2 g3 k1 k2 k3:Nat)(w:World)(ht:B.af.length<=1000/\B.ah.length<=1000/\B.ak.length<=1000)(am:0<=B.aj)(ak:B.aj<1000000)(aI:0<N)(hN:N<=w.heap.size)(J:BkRow w N g1 g2 g3 k1 k2 k3 B):
  Calls Tryz.prog 208 #[.agg (qbV B (qad g1) k1 (qad g2) k2 (qad g3) k3),.agg (qeV E)] w (SeaR g1 g2 g3 w B E):=by
 have af:∀l:List Svc,Ab l=(l.map svL).flatten:=λl=>fI
 have aa:∀l:List Cp,Ar l=(l.map cpL).flatten:=λl=>fI
 have Z:∀l:List Bt,CN l=(l.map btL).flatten:=λl=>fI
 have bj:=J.cS;have aF:=J.cU;have aW:=J.cP;have l1:=J.n1;have l2:=J.n2;have l3:=J.n3;obtain⟨G,F⟩:∃G:Gh,G=⟨λi=>match i with|0=>some ⟨g1,0,none⟩|1=>some ⟨g2,0,none⟩|2=>some ⟨g3,0,none⟩|3=>some ⟨0,0,none⟩|_=>none,λk=>k<w.heap.size/\k≠g1/\k≠g2/\k≠g3,λ_=>False⟩:=⟨_,rfl⟩
 have hm:∀i b,lk (bkG B k1 k2 k3 λW=>∀k,k<w.heap.size/\k≠g1/\k≠g2/\k≠g3->W.heap[k]?=w.heap[k]?) i=some b->i<64/\Hold G6 {w with heap:=#[]} G w 0 i b/\Clo (bkG B k1 k2 k3 λW=>∀k,k<w.heap.size/\k≠g1/\k≠g2/\k≠g3->W.heap[k]?=w.heap[k]?) (b.cs.flatMap Cf):=λi b hb=>by
  have Y:=Aj _ _ _ hb;simp only[bkG,dy,dH,eP,dw]at Y;rcases Y with⟨rfl,rfl⟩|⟨rfl,rfl⟩|⟨rfl,rfl⟩|⟨rfl,rfl⟩<;>refine⟨by decide,?_,λ_ h=>(nomatch h)⟩
  ·exact ND NA rfl (gW (em Gh.α F) _) (by rw[F];exact λh=>h.2.1 rfl) (by rw[F];exact λh=>h) (af _▸J.af)
  ·exact ND Nm rfl (gW (em Gh.α F) _) (by rw[F];exact λh=>h.2.2.1 rfl) (by rw[F];exact λh=>h) (aa _▸J.ah)
  ·exact ND Np rfl (gW (em Gh.α F) _) (by rw[F];exact λh=>h.2.2.2 rfl) (by rw[F];exact λh=>h) (Z _▸J.ak)
  ·refine⟨λh=>(nomatch h),λ_ j _=>⟨0,0,[],gW (em Gh.α F) _,by rw[F];exact⟨by omega,by omega,by omega,by omega⟩,λk hk=>hk.elim,λx v hx=>(nomatch hx),λW hW k hk=>hW k (by rw[F];exact hk)⟩,λh=>(nomatch h),λh=>(nomatch h),λh=>(nomatch h),.inr (.inl rfl)⟩
 have ag:∀i b j c,lk (bkG B k1 k2 k3 λW=>∀k,k<w.heap.size/\k≠g1/\k≠g2/\k≠g3->W.heap[k]?=w.heap[k]?) i=some b->lk (bkG B k1 k2 k3 λW=>∀k,k<w.heap.size/\k≠g1/\k≠g2/\k≠g3->W.heap[k]?=w.heap[k]?) j=some c->DQ b->DQ c->i≠j->G.α i≠G.α j:=λi b j c hb hc ob oc al=>by
  have Y:=Aj _ _ _ hb;have hj:=Aj _ _ _ hc;simp only[bkG,dy,dH,eP,dw]at Y hj;rw[F];rcases Y with⟨rfl,rfl⟩|⟨rfl,rfl⟩|⟨rfl,rfl⟩|⟨rfl,rfl⟩<;>rcases hj with⟨rfl,rfl⟩|⟨rfl,rfl⟩|⟨rfl,rfl⟩|⟨rfl,rfl⟩<;>first|exact absurd rfl al|(rcases ob with h|h<;>cases h;done)|(rcases oc with h|h<;>cases h;done)|(intro e;cases e;contradiction)
 have H:=M7 (R0:=⟨λ_=>False,λ_=>none,0⟩) (G:=G) (w:=w) (w0:={w with heap:=#[]}) (c0:=64) (q0:=0) (vs:=[(⟨B,k1,k2,k3⟩:BP).v,.agg (evL E).toArray]) (envS DL) Tryz.func208 (c:=Tryz.f208.body.getD .skip) (by kernel_rfl) (CL (envS DL) (by kernel_rfl) _ (specS DL) (by kernel_rfl)) (show 2<=_ from AD rfl) (Post:=λv m _=>Q1 (AS B E) (λW=>∀k,k<w.heap.size/\k≠g1/\k≠g2/\k≠g3->W.heap[k]?=w.heap[k]?) v m) (by rw[<-Ff];exact sea_vc ht am ak J.af.2.1 J.ak.2.1) hm ag (Cz rfl) (AG _) (λk hk=>by rw[F]at hk ⊢;exact⟨hk.1,λh=>h⟩) (λk hk=>by rw[F]at hk;exact hk.elim) (λk hk=>by rw[F]at hk;exact hk.elim) ⟨rfl,rfl,rfl,AI _,λk hk=>absurd hk (gr _)⟩;have ha:(List.map (r2 G.α) [(⟨B,k1,k2,k3⟩:BP).v,.agg (evL E).toArray]).toArray=#[.agg (qbV B (qad g1) k1 (qad g2) k2 (qad g3) k3),.agg (evL E).toArray]:=by rw[F];simp[BP.v,evL,r2,r1,r0]
 rw[ha]at H;refine H.mono ?_;rintro e w' ⟨_,m,q,G',⟨X,i1,i2,i3,n1,n2,n3,d1,d2,d3,b1,b2,b3,rfl,⟨m1,m2,m3⟩,⟨q1,aq⟩,⟨q2,r2'⟩,⟨q3,r3'⟩,hX,ai⟩,rfl,hH,_,M,hz,_,_,an⟩;obtain⟨y1,e1,s1⟩:=Ps (hH _ _ q1) aq m1;obtain⟨y2,e2,s2⟩:=Ps (hH _ _ q2) r2' m2;obtain⟨y3,e3,s3⟩:=Ps (hH _ _ q3) r3' m3;obtain⟨_,_,_,_,_,_,hE⟩:=(hH _ _ ai).k1 rfl 0 Nat.one_pos;refine⟨X.aj,y1,y2,y3,n1,d1,n2,d2,n3,d3,by simp[r2,r1,r0,e1,e2,e3],λh=>?_,⟨M.os,M.tape,M.output,an,λk h1 h2 h3 h4=>hE.2 w' (λ_ _=>rfl) k ⟨h1,h2,h3,h4⟩⟩⟩;rw[<-hX h,af,aa,Z];exact⟨rfl,m1,m2,m3,s1,s2,s3⟩
end
section
open Go.RowKit Go.Sort
theorem N1:(Tryz.prog.info? 36).map (·.size)=some 17:=by kernel_rfl
theorem OM(B:Bk)(E:Ev)(a1 a2 a3:qO)(c1 c2 c3:Nat)(w:World)(hS:B.aJ)(hZ:B.aD)(hE:E.aD)(hB:BkAt w a1 a2 a3 B):
  Calls Tryz.prog 110 #[.agg (qbV B a1 c1 a2 c2 a3 c3),.agg (qeV E)] w λe w'=>∃(x1 x2 x3:qO) (p1 p2 p3:Nat),e=.returned (.tuple #[.agg #[.int .i64 (Cb B E).1.aj,.slice x1 (Cb B E).1.af.length p1,.slice x2 (Cb B E).1.ah.length p2,.slice x3 (Cb B E).1.ak.length p3],.int .i64 (Cb B E).2])/\BkAt w' x1 x2 x3 (Cb B E).1/\Below w.heap.size w w':=by
 obtain⟨W0,c9,t0,t1,t2,db,cb,bk⟩:=Pj w (.cells (qbV B a1 c1 a2 c2 a3 c3) 28) (.cells (qeV E) 36) (.cells qzV 28);have X0:Hid _:=t0;have E0:Hid _:=t1;have Z0:Hid _:=t2;clear t0 t1 t2;go_enter Tryz.func110,Tryz.ntmps110
 go_upto_region 1 with fail
 clear c9;have e0:=AJ X0.O 0 rfl;have e1:=AJ X0.O 1 rfl;have e2:=AJ X0.O 2 rfl;have e3:=AJ X0.O 3 rfl
 go_wp2_with fail
 refine(Ai B a1 a2 a3 c1 c2 c3 W0 hS hZ (hB.below bk)).mono ?_;rintro e w1 ⟨rfl,F⟩;have aS:=bk.trans (F.mono' (by have:=bk.size;omega));have X1:Hid _:=AK F X0.O (by omega);have E1:Hid _:=AK F E0.O (by omega);have Z1:Hid _:=AK F Z0.O (by omega);have ds:w.heap.size+1+1<w1.heap.size:=(AB Z1.O).1;clear F e0 e1 e2 e3 X0 E0 Z0 bk db cb;cases hv:Ag B
 ·have HA:Hid (Cb B E=(noBk,1)):=by unfold Hid Cb;rw[hv];rfl
  go_wp2_with (refine AM rfl 28 (.tmp 4) (.tmp 11) rfl (w.heap.size+1+1) 0 qzV rfl rfl 28 qzV Z1.O BG (AD rfl) (by simp[Value.oneCell']) ?_;intro w2 hz on;have Z2:Hid (qBl w2 (w.heap.size+1+1) qzV 28):=hz;have aw:=aS.trans (on.below.mono' (by omega));have an:Hid (A6 (w.heap.size+1+1) w1 w2):=on;clear hz on)
  exact dS (v:=.tuple #[.agg qzV,.int .i64 1]) (BZ rfl _ _ (w.heap.size+1+1) _ _ _ _ rfl Z2.O Tryz.underlying28 rfl BG _ rfl) rfl ⟨none,none,none,0,0,0,by rw[HA.O];rfl,by rw[HA.O];exact⟨λh=>absurd rfl h,λh=>absurd rfl h,λh=>absurd rfl h⟩,aw⟩
 ·have hV:=hv
  have e0:=AJ X1.O 0 rfl;have bI:0<=B.aj/\B.aj<=1000000:=by unfold Ag at hV;simp only[cY,inB,dM]at hV;omega
  obtain⟨bI,eX⟩:=bI
  by_cases a8:1000000<=B.aj
  ·have k0:=AJ E1.O 0 rfl
   go_upto_region 4 with fail
   go_wp2_with fail
   refine(Dq E.kind 1 6 w1).mono ?_;rintro e w2 ⟨rfl,F⟩;have aw:=aS.trans (F.mono' (by have:=aS.size;omega));have X2:Hid _:=AK F X1.O (by omega);have E2:Hid _:=AK F E1.O (by omega);have Z2:Hid _:=AK F Z1.O (by omega);have dq:w.heap.size+1+1<w2.heap.size:=(AB Z2.O).1;clear F k0 e0 X1 E1 Z1 aS ds;have e0:=AJ X2.O 0 rfl;have e1:=AJ X2.O 1 rfl;have e2:=AJ X2.O 2 rfl;have e3:=AJ X2.O 3 rfl;cases hk:inB E.kind 1 6
   ·have HA:Hid (Cb B E=(B,4)):=by unfold Hid Cb;rw[dB hv,dB a8,hk];rfl
    go_wp2_with fail
    refine(CU B a1 a2 a3 c1 c2 c3 w2 hS (hB.below aw)).mono ?_;rintro e w3 ⟨r1,p1,r2,p2,r3,p3,rfl,ar,F⟩;have aH:=aw.trans (F.mono' (by have:=aw.size;omega));have X3:Hid _:=AK F X2.O (by omega);have E3:Hid _:=AK F E2.O (by omega);have Z3:Hid _:=AK F Z2.O (by omega);have br:w.heap.size+1+1<w3.heap.size:=(AB Z3.O).1;have H:Hid _:=ar;clear ar F e0 e1 e2 e3
    go_wp2_with (refine AM rfl 28 (.tmp 4) (.tmp 20) rfl (w.heap.size+1+1) 0 (qbV B (qad r1) p1 (qad r2) p2 (qad r3) p3) rfl rfl 28 qzV Z3.O BG (AD rfl) (by simp[Value.oneCell']) ?_;intro w4 hz on;have Z4:Hid (qBl w4 (w.heap.size+1+1) (qbV B (qad r1) p1 (qad r2) p2 (qad r3) p3) 28):=hz;have aI:=aH.trans (on.below.mono' (by omega));have an:Hid (A6 (w.heap.size+1+1) w3 w4):=on;clear hz on)
    exact dS (v:=.tuple #[.agg (qbV B (qad r1) p1 (qad r2) p2 (qad r3) p3),.int .i64 4]) (BZ rfl _ _ (w.heap.size+1+1) _ _ _ _ rfl Z4.O Tryz.underlying28 rfl BG _ rfl) rfl ⟨some ⟨r1,0,none⟩,some ⟨r2,0,none⟩,some ⟨r3,0,none⟩,p1,p2,p3,by rw[HA.O],by rw[HA.O];exact⟨(H.O.af.aR (an.O.aB r1 (by have:=H.O.n1;omega))).bW,(H.O.ah.aR (an.O.aB r2 (by have:=H.O.n2;omega))).bT,(H.O.ak.aR (an.O.aB r3 (by have:=H.O.n3;omega))).cx⟩,aI⟩
   ·have HA:Hid (Cb B E=(B,7)):=by unfold Hid Cb;rw[dB hv,dB a8,hk];rfl
    go_wp2_with fail
    refine(CU B a1 a2 a3 c1 c2 c3 w2 hS (hB.below aw)).mono ?_;rintro e w3 ⟨r1,p1,r2,p2,r3,p3,rfl,ar,F⟩;have aH:=aw.trans (F.mono' (by have:=aw.size;omega));have X3:Hid _:=AK F X2.O (by omega);have E3:Hid _:=AK F E2.O (by omega);have Z3:Hid _:=AK F Z2.O (by omega);have br:w.heap.size+1+1<w3.heap.size:=(AB Z3.O).1;have H:Hid _:=ar;clear ar F e0 e1 e2 e3
    go_wp2_with (refine AM rfl 28 (.tmp 4) (.tmp 22) rfl (w.heap.size+1+1) 0 (qbV B (qad r1) p1 (qad r2) p2 (qad r3) p3) rfl rfl 28 qzV Z3.O BG (AD rfl) (by simp[Value.oneCell']) ?_;intro w4 hz on;have Z4:Hid (qBl w4 (w.heap.size+1+1) (qbV B (qad r1) p1 (qad r2) p2 (qad r3) p3) 28):=hz;have aI:=aH.trans (on.below.mono' (by omega));have an:Hid (A6 (w.heap.size+1+1) w3 w4):=on;clear hz on)
    exact dS (v:=.tuple #[.agg (qbV B (qad r1) p1 (qad r2) p2 (qad r3) p3),.int .i64 7]) (BZ rfl _ _ (w.heap.size+1+1) _ _ _ _ rfl Z4.O Tryz.underlying28 rfl BG _ rfl) rfl ⟨some ⟨r1,0,none⟩,some ⟨r2,0,none⟩,some ⟨r3,0,none⟩,p1,p2,p3,by rw[HA.O],by rw[HA.O];exact⟨(H.O.af.aR (an.O.aB r1 (by have:=H.O.n1;omega))).bW,(H.O.ah.aR (an.O.aB r2 (by have:=H.O.n2;omega))).bT,(H.O.ak.aR (an.O.aB r3 (by have:=H.O.n3;omega))).cx⟩,aI⟩
  ·have bz:B.aj<1000000:=by omega
   have HV:Hid (Ag B=true):=hv;have bm:Hid (Cb B E=(if(AS B E).2=0 then(if Ag (AS B E).1=true then((AS B E).1,0) else(B,2)) else(B,(AS B E).2))):=by unfold Hid Cb;rw[dB hv,dC a8]
   clear hV hv a8;have a8:=bz;clear bz
   go_upto_region 7 with fail
   clear e0;refine Fx 9 3 [[],[0],[],[1,2],[3],[4],[4],[],[5,7]] [3,8] [1,3,4,5,7,8] [8] [(3,7),(8,4)] (λi W W2=>if i=3 then ∀(b:Nat) cs fr,W.heap[b]?=some (.cells cs 28 fr)->W2.heap[b]?=W.heap[b]? else ∀(b:Nat) cs t fr,t≠28->W.heap[b]?=some (.cells cs t fr)->W2.heap[b]?=W.heap[b]?) (by kernel_rfl) (by kernel_rfl) (by kernel_rfl) ?_;apply ET (by kernel_rfl)
   ·intro V W K A hW hd hA hK
    simp only[pA]at hA;clear hd;obtain rfl:=hA;refine dD rfl 28 (.tmp 2) rfl w.heap.size rfl 28 (qbV B a1 c1 a2 c2 a3 c3) (0,0) _ (AK hW X1.O (by omega)) Tryz.underlying28 rfl BG ?_;go_wp2;exact hK.O _ brf
   refine C7 (λvv W=>∃g1 k1 g2 k2 g3 k3,vv=.agg (qbV B (qad g1) k1 (qad g2) k2 (qad g3) k3)/\BkRow W w1.heap.size g1 g2 g3 k1 k2 k3 B) (λv W W2 ⟨g1,k1,g2,k2,g3,k3,h,hr⟩ hb=>⟨g1,k1,g2,k2,g3,k3,h,hr.n1,hr.n2,hr.n3,hr.af.below hb hr.af.lt,hr.ah.below hb hr.ah.lt,hr.ak.below hb hr.ak.lt⟩) (by kernel_rfl) (by kernel_rfl) ?_ ?_
   ·intro V W K A hW hd hA hK
    have d0:V 0=_:=hd 0 (by kernel_rfl);simp only[pA,d0]at hA;clear hd d0;obtain rfl:=hA
    go_wp2_with fail
    refine(CU B a1 a2 a3 c1 c2 c3 W hS ((hB.below aS).below hW)).mono ?_;rintro e w2 ⟨g1,k1,g2,k2,g3,k3,rfl,ar,F⟩;have H:Hid _:=ar;have aW:=hW.size;clear ar;go_wp2;exact hK.O _ _ F ⟨g1,k1,g2,k2,g3,k3,rfl,AH aW H.O.n1,AH aW H.O.n2,AH aW H.O.n3,H.O.af,H.O.ah,H.O.ak⟩
   apply ET (by kernel_rfl)
   ·intro V W K A hW hd hA hK
    simp only[pA]at hA;clear hd;obtain rfl:=hA;refine dD rfl 36 (.tmp 3) rfl (w.heap.size+1) rfl 36 (qeV E) (0,0) _ (AK hW E1.O (by omega)) Tryz.underlying36 rfl N1 ?_;go_wp2;exact hK.O _ brf
   refine K7 (λ(_:Nat->Value) vv W=>∃(q:Int) (b1 b2 b3:Nat) (m1 d1 Z d2 Y d3:Nat),vv=.tuple #[.agg #[.int .i64 q,.slice (qad b1) m1 d1,.slice (qad b2) Z d2,.slice (qad b3) Y d3],.int .i64 (AS B E).2]/\((AS B E).2=0->q=(AS B E).1.aj/\m1=(AS B E).1.af.length/\Z=(AS B E).1.ah.length/\Y=(AS B E).1.ak.length/\RowIs W 34 13 b1 m1 d1 (Ab (AS B E).1.af)/\RowIs W 76 7 b2 Z d2 (Ar (AS B E).1.ah)/\RowIs W 90 2 b3 Y d3 (CN (AS B E).1.ak))) (λ_ v W W2 ⟨q,b1,b2,b3,m1,d1,Z,d2,Y,d3,h,M⟩ hb=>⟨q,b1,b2,b3,m1,d1,Z,d2,Y,d3,h,λJ=>⟨(M J).1,(M J).2.1,(M J).2.2.1,(M J).2.2.2.1,(M J).2.2.2.2.1.below hb (M J).2.2.2.2.1.lt,(M J).2.2.2.2.2.1.below hb (M J).2.2.2.2.2.1.lt,(M J).2.2.2.2.2.2.below hb (M J).2.2.2.2.2.2.lt⟩⟩) (λ_ _ _ _ _ h=>h) (by kernel_rfl) (by kernel_rfl) ?_ ?_
   ·intro V W K A hW hd hA hK
    have d1:(λvv W=>∃g1 k1 g2 k2 g3 k3,vv=.agg (qbV B (qad g1) k1 (qad g2) k2 (qad g3) k3)/\BkRow W w1.heap.size g1 g2 g3 k1 k2 k3 B) (V 1) W:=hd 1 (by kernel_rfl);have d2:V 2=_:=hd 2 (by kernel_rfl);simp only[pA]at hA;clear hd;generalize cf:V 0=x0 at hA hK;generalize cq:V 1=x1 at d1 hA hK;generalize cr:V 2=x2 at d2 hA hK;generalize co:V 3=x3 at hA hK;generalize b8:V 4=x4 at hA hK;generalize b7:V 5=x5 at hA hK;generalize cc:V 6=x6 at hA hK;generalize b0:V 7=x7 at hA hK;generalize cl:V 8=x8 at hA hK;subst d2;obtain rfl:=hA;obtain⟨g1,k1,g2,k2,g3,k3,rfl,ar⟩:=d1;have H:Hid _:=ar;have aW:=hW.size;clear ar
    go_wp2_with fail
    refine(SA B E w1.heap.size g1 g2 g3 k1 k2 k3 W (valid_tn HV.O) bI a8 (by omega) aW H.O).mono ?_;rintro e w2 ⟨q,b1,b2,b3,m1,d1,Z,d2,Y,d3,rfl,M,bY⟩;have HM:Hid _:=M;have b9:Hid _:=bY;clear M bY;go_wp2;refine hK.O _ _ ?_ (b9.O.below H.O.n1 H.O.n2 H.O.n3 aW) ⟨q,b1,b2,b3,m1,d1,Z,d2,Y,d3,rfl,HM.O⟩;show ∀(b:Nat) cs fr,W.heap[b]?=some (.cells cs 28 fr)->w2.heap[b]?=W.heap[b]?;intro b cs fr hb;refine b9.O.block b (AB hb).1 (λe=>?_) (λe=>?_) (λe=>?_)
    ·obtain⟨_,_,bq,h1,_⟩:=H.O.af
     rw[e,h1]at hb;cases hb
    ·obtain⟨_,_,bq,h1,_⟩:=H.O.ah
     rw[e,h1]at hb;cases hb
    ·obtain⟨_,_,bq,h1,_⟩:=H.O.ak
     rw[e,h1]at hb;cases hb
   refine C7 (λvv W=>∃(q:Int) (b1 b2 b3:Nat) (m1 d1 Z d2 Y d3:Nat),vv=.tuple #[.agg #[.int .i64 q,.slice (qad b1) m1 d1,.slice (qad b2) Z d2,.slice (qad b3) Y d3],.int .i64 (AS B E).2]/\((AS B E).2=0->q=(AS B E).1.aj/\m1=(AS B E).1.af.length/\Z=(AS B E).1.ah.length/\Y=(AS B E).1.ak.length/\RowIs W 34 13 b1 m1 d1 (Ab (AS B E).1.af)/\RowIs W 76 7 b2 Z d2 (Ar (AS B E).1.ah)/\RowIs W 90 2 b3 Y d3 (CN (AS B E).1.ak))) (λv W W2 ⟨q,b1,b2,b3,m1,d1,Z,d2,Y,d3,h,M⟩ hb=>⟨q,b1,b2,b3,m1,d1,Z,d2,Y,d3,h,λJ=>⟨(M J).1,(M J).2.1,(M J).2.2.1,(M J).2.2.2.1,(M J).2.2.2.2.1.below hb (M J).2.2.2.2.1.lt,(M J).2.2.2.2.2.1.below hb (M J).2.2.2.2.2.1.lt,(M J).2.2.2.2.2.2.below hb (M J).2.2.2.2.2.2.lt⟩⟩) (by kernel_rfl) (by kernel_rfl) ?_ ?_
   ·intro V W K A hW hd hA hK
    have d3:(λ(_:Nat->Value) vv W=>∃(q:Int) (b1 b2 b3:Nat) (m1 d1 Z d2 Y d3:Nat),vv=.tuple #[.agg #[.int .i64 q,.slice (qad b1) m1 d1,.slice (qad b2) Z d2,.slice (qad b3) Y d3],.int .i64 (AS B E).2]/\((AS B E).2=0->q=(AS B E).1.aj/\m1=(AS B E).1.af.length/\Z=(AS B E).1.ah.length/\Y=(AS B E).1.ak.length/\RowIs W 34 13 b1 m1 d1 (Ab (AS B E).1.af)/\RowIs W 76 7 b2 Z d2 (Ar (AS B E).1.ah)/\RowIs W 90 2 b3 Y d3 (CN (AS B E).1.ak))) V (V 3) W:=hd 3 (by kernel_rfl);simp only[pA]at hA;clear hd;generalize V 3=x3 at d3 hA;obtain rfl:=hA;obtain⟨q,b1,b2,b3,m1,d1,Z,d2,Y,d3,rfl,M⟩:=d3;have HM:Hid _:=M;clear M;go_wp2;exact hK.O _ _ brf ⟨q,b1,b2,b3,m1,d1,Z,d2,Y,d3,rfl,HM.O⟩
   refine C7 (λvv W=>∃(q:Int) (b1 b2 b3:Nat) (m1 d1 Z d2 Y d3:Nat),vv=.agg #[.int .i64 q,.slice (qad b1) m1 d1,.slice (qad b2) Z d2,.slice (qad b3) Y d3]/\((AS B E).2=0->q=(AS B E).1.aj/\m1=(AS B E).1.af.length/\Z=(AS B E).1.ah.length/\Y=(AS B E).1.ak.length/\RowIs W 34 13 b1 m1 d1 (Ab (AS B E).1.af)/\RowIs W 76 7 b2 Z d2 (Ar (AS B E).1.ah)/\RowIs W 90 2 b3 Y d3 (CN (AS B E).1.ak))) (λv W W2 ⟨q,b1,b2,b3,m1,d1,Z,d2,Y,d3,h,M⟩ hb=>⟨q,b1,b2,b3,m1,d1,Z,d2,Y,d3,h,λJ=>⟨(M J).1,(M J).2.1,(M J).2.2.1,(M J).2.2.2.1,(M J).2.2.2.2.1.below hb (M J).2.2.2.2.1.lt,(M J).2.2.2.2.2.1.below hb (M J).2.2.2.2.2.1.lt,(M J).2.2.2.2.2.2.below hb (M J).2.2.2.2.2.2.lt⟩⟩) (by kernel_rfl) (by kernel_rfl) ?_ ?_
   ·intro V W K A hW hd hA hK
    have d4:(λvv W=>∃(q:Int) (b1 b2 b3:Nat) (m1 d1 Z d2 Y d3:Nat),vv=.tuple #[.agg #[.int .i64 q,.slice (qad b1) m1 d1,.slice (qad b2) Z d2,.slice (qad b3) Y d3],.int .i64 (AS B E).2]/\((AS B E).2=0->q=(AS B E).1.aj/\m1=(AS B E).1.af.length/\Z=(AS B E).1.ah.length/\Y=(AS B E).1.ak.length/\RowIs W 34 13 b1 m1 d1 (Ab (AS B E).1.af)/\RowIs W 76 7 b2 Z d2 (Ar (AS B E).1.ah)/\RowIs W 90 2 b3 Y d3 (CN (AS B E).1.ak))) (V 4) W:=hd 4 (by kernel_rfl);simp only[pA]at hA;clear hd;generalize V 4=x4 at d4 hA;obtain rfl:=hA;obtain⟨q,b1,b2,b3,m1,d1,Z,d2,Y,d3,rfl,M⟩:=d4;have HM:Hid _:=M;clear M;go_wp2;exact hK.O _ _ brf ⟨q,b1,b2,b3,m1,d1,Z,d2,Y,d3,rfl,HM.O⟩
   apply ET (by kernel_rfl)
   ·intro V W K A hW hd hA hK
    have d4:(λvv W=>∃(q:Int) (b1 b2 b3:Nat) (m1 d1 Z d2 Y d3:Nat),vv=.tuple #[.agg #[.int .i64 q,.slice (qad b1) m1 d1,.slice (qad b2) Z d2,.slice (qad b3) Y d3],.int .i64 (AS B E).2]/\((AS B E).2=0->q=(AS B E).1.aj/\m1=(AS B E).1.af.length/\Z=(AS B E).1.ah.length/\Y=(AS B E).1.ak.length/\RowIs W 34 13 b1 m1 d1 (Ab (AS B E).1.af)/\RowIs W 76 7 b2 Z d2 (Ar (AS B E).1.ah)/\RowIs W 90 2 b3 Y d3 (CN (AS B E).1.ak))) (V 4) W:=hd 4 (by kernel_rfl);simp only[pA]at hA;clear hd;generalize V 4=x4 at d4 hA;obtain rfl:=hA;obtain⟨q,b1,b2,b3,m1,d1,Z,d2,Y,d3,rfl,M⟩:=d4;clear M;go_wp2;exact hK.O _ brf
   refine C7 (λvv W=>∃b,vv=.pointer (qad b)/\w1.heap.size<=b/\qBl W b qzV 28) (λv W W2 ⟨b,h1,h2,h3⟩ hb=>⟨b,h1,h2,AK hb h3 (AB h3).1⟩) (by kernel_rfl) (by kernel_rfl) ?_ ?_
   ·intro V W K A hW hd hA hK
    simp only[pA]at hA;clear hd;obtain rfl:=hA;go_wp2;exact hK.O _ _ (AN W _) ⟨_,rfl,hW.size,dm W _⟩
   refine K7 (λV (_:Value) W=>∃(b:Nat) (q:Int) (b1 b2 b3:Nat) (m1 d1 Z d2 Y d3:Nat),V 7=.pointer (qad b)/\w1.heap.size<=b/\qBl W b #[.int .i64 q,.slice (qad b1) m1 d1,.slice (qad b2) Z d2,.slice (qad b3) Y d3] 28/\((AS B E).2=0->q=(AS B E).1.aj/\m1=(AS B E).1.af.length/\Z=(AS B E).1.ah.length/\Y=(AS B E).1.ak.length/\RowIs W 34 13 b1 m1 d1 (Ab (AS B E).1.af)/\RowIs W 76 7 b2 Z d2 (Ar (AS B E).1.ah)/\RowIs W 90 2 b3 Y d3 (CN (AS B E).1.ak))) (λV v W W2 ⟨b,q,b1,b2,b3,m1,d1,Z,d2,Y,d3,hv,hn,h,M⟩ hb=>⟨b,q,b1,b2,b3,m1,d1,Z,d2,Y,d3,hv,hn,AK hb h (AB h).1,λJ=>⟨(M J).1,(M J).2.1,(M J).2.2.1,(M J).2.2.2.1,(M J).2.2.2.2.1.below hb (M J).2.2.2.2.1.lt,(M J).2.2.2.2.2.1.below hb (M J).2.2.2.2.2.1.lt,(M J).2.2.2.2.2.2.below hb (M J).2.2.2.2.2.2.lt⟩⟩) (λv V V2 W cO ⟨b,q,b1,b2,b3,m1,d1,Z,d2,Y,d3,hv,hr⟩=>⟨b,q,b1,b2,b3,m1,d1,Z,d2,Y,d3,(cO 7 rfl).symm.trans hv,hr⟩) (by kernel_rfl) (by kernel_rfl) ?_ ?_
   ·intro V W K A hW hd hA hK
    have d5:(λvv W=>∃(q:Int) (b1 b2 b3:Nat) (m1 d1 Z d2 Y d3:Nat),vv=.agg #[.int .i64 q,.slice (qad b1) m1 d1,.slice (qad b2) Z d2,.slice (qad b3) Y d3]/\((AS B E).2=0->q=(AS B E).1.aj/\m1=(AS B E).1.af.length/\Z=(AS B E).1.ah.length/\Y=(AS B E).1.ak.length/\RowIs W 34 13 b1 m1 d1 (Ab (AS B E).1.af)/\RowIs W 76 7 b2 Z d2 (Ar (AS B E).1.ah)/\RowIs W 90 2 b3 Y d3 (CN (AS B E).1.ak))) (V 5) W:=hd 5 (by kernel_rfl);have d7:(λvv W=>∃b,vv=.pointer (qad b)/\w1.heap.size<=b/\qBl W b qzV 28) (V 7) W:=hd 7 (by kernel_rfl);simp only[pA]at hA;clear hd;generalize cf:V 0=x0 at hA hK;generalize cq:V 1=x1 at hA hK;generalize cr:V 2=x2 at hA hK;generalize co:V 3=x3 at hA hK;generalize b8:V 4=x4 at hA hK;generalize b7:V 5=x5 at d5 hA hK;generalize cc:V 6=x6 at hA hK;generalize b0:V 7=x7 at d7 hA hK;generalize cl:V 8=x8 at hA hK;obtain rfl:=hA;obtain⟨q,b1,b2,b3,m1,d1,Z,d2,Y,d3,rfl,M⟩:=d5;obtain⟨b,rfl,cg,a9⟩:=d7;have HM:Hid _:=M;have aW:=hW.size;clear M cf cq cr co b8 b7 cc b0 cl;refine AM rfl 28 (.tmp 6) (.tmp 28) rfl b 0 #[.int .i64 q,.slice (qad b1) m1 d1,.slice (qad b2) Z d2,.slice (qad b3) Y d3] rfl rfl 28 qzV a9 BG (AD rfl) (by simp[Value.oneCell']) ?_;intro w2 hz on;have dc:Hid (qBl w2 b #[.int .i64 q,.slice (qad b1) m1 d1,.slice (qad b2) Z d2,.slice (qad b3) Y d3] 28):=hz;have an:Hid (A6 b W w2):=on;have aC:Hid _:=a9;clear hz on a9;go_wp2
    have bE:∀(t:TypeId) (c n cap sz:Nat) (xs:qL),RowIs W t sz c n cap xs->t≠28->c≠b:=λt c n cap sz xs hr ht e=>by
     obtain⟨_,_,bq,h1,_⟩:=hr;rw[e,aC.O]at h1;injection h1 with h1
     injection h1 with _ h1
     exact ht h1.symm
    refine hK.O undef _ ?_ (an.O.below.mono' (by omega)) ⟨b,q,b1,b2,b3,m1,d1,Z,d2,Y,d3,rfl,cg,dc.O,λJ=>⟨(HM.O J).1,(HM.O J).2.1,(HM.O J).2.2.1,(HM.O J).2.2.2.1,(HM.O J).2.2.2.2.1.aR (an.O.aB _ (bE _ _ _ _ _ _ (HM.O J).2.2.2.2.1 (by decide))),(HM.O J).2.2.2.2.2.1.aR (an.O.aB _ (bE _ _ _ _ _ _ (HM.O J).2.2.2.2.2.1 (by decide))),(HM.O J).2.2.2.2.2.2.aR (an.O.aB _ (bE _ _ _ _ _ _ (HM.O J).2.2.2.2.2.2 (by decide)))⟩⟩;show ∀(c:Nat) cs t fr,t≠28->W.heap[c]?=some (.cells cs t fr)->w2.heap[c]?=W.heap[c]?;intro c cs t fr ht hc;refine an.O.aB c (λe=>?_);rw[e,aC.O]at hc;injection hc with hc
    injection hc with _ hc
    exact ht hc.symm
   refine⟨λi j hk V v W W' hr hq=>?_,?_⟩
   ·simp only[List.contains_cons,List.contains_nil,Bool.or_false,dY,fq,dw]at hk
    rcases hk with⟨rfl,rfl⟩|⟨rfl,rfl⟩
    ·have bH:(λvv W=>∃b,vv=.pointer (qad b)/\w1.heap.size<=b/\qBl W b qzV 28) (v) W:=hq
     show(λvv W=>∃b,vv=.pointer (qad b)/\w1.heap.size<=b/\qBl W b qzV 28) (v) W';clear hq;obtain⟨b,h1,h2,h3⟩:=bH;exact⟨b,h1,h2,((show ∀(b:Nat) cs fr,W.heap[b]?=some (.cells cs 28 fr)->W'.heap[b]?=W.heap[b]? from hr) b _ _ h3).trans h3⟩
    ·have bH:(λvv W=>∃(q:Int) (b1 b2 b3:Nat) (m1 d1 Z d2 Y d3:Nat),vv=.tuple #[.agg #[.int .i64 q,.slice (qad b1) m1 d1,.slice (qad b2) Z d2,.slice (qad b3) Y d3],.int .i64 (AS B E).2]/\((AS B E).2=0->q=(AS B E).1.aj/\m1=(AS B E).1.af.length/\Z=(AS B E).1.ah.length/\Y=(AS B E).1.ak.length/\RowIs W 34 13 b1 m1 d1 (Ab (AS B E).1.af)/\RowIs W 76 7 b2 Z d2 (Ar (AS B E).1.ah)/\RowIs W 90 2 b3 Y d3 (CN (AS B E).1.ak))) (v) W:=hq
     show(λvv W=>∃(q:Int) (b1 b2 b3:Nat) (m1 d1 Z d2 Y d3:Nat),vv=.tuple #[.agg #[.int .i64 q,.slice (qad b1) m1 d1,.slice (qad b2) Z d2,.slice (qad b3) Y d3],.int .i64 (AS B E).2]/\((AS B E).2=0->q=(AS B E).1.aj/\m1=(AS B E).1.af.length/\Z=(AS B E).1.ah.length/\Y=(AS B E).1.ak.length/\RowIs W 34 13 b1 m1 d1 (Ab (AS B E).1.af)/\RowIs W 76 7 b2 Z d2 (Ar (AS B E).1.ah)/\RowIs W 90 2 b3 Y d3 (CN (AS B E).1.ak))) (v) W';clear hq;obtain⟨q,b1,b2,b3,m1,d1,Z,d2,Y,d3,h,M⟩:=bH;have da:∀(b:Nat) cs t fr,t≠28->W.heap[b]?=some (.cells cs t fr)->W'.heap[b]?=W.heap[b]?:=hr
     have kr:∀t g sz n cap xs,t≠28->RowIs W t sz g n cap xs->RowIs W' t sz g n cap xs:=λt g sz n cap xs ht h=>by
      obtain⟨_,_,bq,h1,_⟩:=id h;exact h.aR (da g _ t _ ht h1)
     exact⟨q,b1,b2,b3,m1,d1,Z,d2,Y,d3,h,λJ=>⟨(M J).1,(M J).2.1,(M J).2.2.1,(M J).2.2.2.1,kr _ _ _ _ _ _ (by decide) (M J).2.2.2.2.1,kr _ _ _ _ _ _ (by decide) (M J).2.2.2.2.2.1,kr _ _ _ _ _ _ (by decide) (M J).2.2.2.2.2.2⟩⟩
   intro V W A hW hS hA;have d0:V 0=_:=hS 0 (by omega) (.inr (by kernel_rfl));have d2:V 2=_:=hS 2 (by omega) (.inr (by kernel_rfl));have d6:V 6=_:=hS 6 (by omega) (.inr (by kernel_rfl));have d8:(λV (_:Value) W=>∃(b:Nat) (q:Int) (b1 b2 b3:Nat) (m1 d1 Z d2 Y d3:Nat),V 7=.pointer (qad b)/\w1.heap.size<=b/\qBl W b #[.int .i64 q,.slice (qad b1) m1 d1,.slice (qad b2) Z d2,.slice (qad b3) Y d3] 28/\((AS B E).2=0->q=(AS B E).1.aj/\m1=(AS B E).1.af.length/\Z=(AS B E).1.ah.length/\Y=(AS B E).1.ak.length/\RowIs W 34 13 b1 m1 d1 (Ab (AS B E).1.af)/\RowIs W 76 7 b2 Z d2 (Ar (AS B E).1.ah)/\RowIs W 90 2 b3 Y d3 (CN (AS B E).1.ak))) V (V 8) W:=hS 8 (by omega) (.inl (by kernel_rfl));simp only[pA,d0,d2,d6]at hA;dsimp only at d8;clear hS d0 d2 d6;generalize V 7=x7 at d8 hA;generalize V 8=x8 at d8 hA;obtain rfl:=hA;simp only[dl,dF];obtain⟨b,q,b1,b2,b3,m1,d1,Z,d2,Y,d3,c5,cg,a9,M⟩:=d8;subst c5;have aC:Hid _:=a9;have HM:Hid _:=M;clear a9 M;have bb:=aS.trans (hW.mono' (by have:=aS.size;omega));have XW:Hid _:=AK hW X1.O (by omega);have EW:Hid _:=AK hW E1.O (by omega);have ZW:Hid _:=AK hW Z1.O (by omega);have fl:w.heap.size+1+1<W.heap.size:=(AB ZW.O).1;have d9:=(AB aC.O).1;clear hW X1 E1 Z1 aS
   by_cases J:(AS B E).2=0
   ·obtain⟨rfl,rfl,rfl,rfl,r1,r2,r3⟩:=HM.O J
    have R1:=hidOf r1;have R2:=hidOf r2;have R3:=hidOf r3;have H0:Hid _:=J;clear r1 r2 r3 HM;rw[J];clear J;have y0:=AJ aC.O 0 rfl;have y1:=AJ aC.O 1 rfl;have y2:=AJ aC.O 2 rfl;have y3:=AJ aC.O 3 rfl
    go_wp2_with fail
    refine(Ai (AS B E).1 (qad b1) (qad b2) (qad b3) d1 d2 d3 W (GH HV.O) (Jf HV.O hZ hE) ⟨R1.O.bW,R2.O.bT,R3.O.cx⟩).mono ?_;rintro e w2 ⟨rfl,F⟩;have aw:=bb.trans (F.mono' (by have:=bb.size;omega));have X2:Hid _:=AK F XW.O (by omega);have E2:Hid _:=AK F EW.O (by omega);have Z2:Hid _:=AK F ZW.O (by omega);have dq:w.heap.size+1+1<w2.heap.size:=(AB Z2.O).1;have bo:Hid _:=AK F aC.O d9;have c8:Hid (BkAt w2 (qad b1) (qad b2) (qad b3) (AS B E).1):=BkAt.below ⟨R1.O.bW,R2.O.bT,R3.O.cx⟩ F;clear F y0 y1 y2 y3 XW EW ZW bb aC R1 R2 R3;cases cm:Ag (AS B E).1
    ·have HA:Hid (Cb B E=(B,2)):=by unfold Hid;rw[bm.O,dB H0.O,dC (by rw[cm];simp)]
     have e0:=AJ X2.O 0 rfl;have e1:=AJ X2.O 1 rfl;have e2:=AJ X2.O 2 rfl;have e3:=AJ X2.O 3 rfl
     go_wp2_with fail
     refine(CU B a1 a2 a3 c1 c2 c3 w2 hS (hB.below aw)).mono ?_;rintro e w3 ⟨r1,p1,r2,p2,r3,p3,rfl,ar,F⟩;have aH:=aw.trans (F.mono' (by have:=aw.size;omega));have X3:Hid _:=AK F X2.O (by omega);have E3:Hid _:=AK F E2.O (by omega);have Z3:Hid _:=AK F Z2.O (by omega);have br:w.heap.size+1+1<w3.heap.size:=(AB Z3.O).1;have H:Hid _:=ar;clear ar F e0 e1 e2 e3
     go_wp2_with (refine AM rfl 28 (.tmp 4) (.tmp 40) rfl (w.heap.size+1+1) 0 (qbV B (qad r1) p1 (qad r2) p2 (qad r3) p3) rfl rfl 28 qzV Z3.O BG (AD rfl) (by simp[Value.oneCell']) ?_;intro w4 hz on;have Z4:Hid (qBl w4 (w.heap.size+1+1) (qbV B (qad r1) p1 (qad r2) p2 (qad r3) p3) 28):=hz;have aI:=aH.trans (on.below.mono' (by omega));have an:Hid (A6 (w.heap.size+1+1) w3 w4):=on;clear hz on)
     exact dS (v:=.tuple #[.agg (qbV B (qad r1) p1 (qad r2) p2 (qad r3) p3),.int .i64 2]) (BZ rfl _ _ (w.heap.size+1+1) _ _ _ _ rfl Z4.O Tryz.underlying28 rfl BG _ rfl) rfl ⟨some ⟨r1,0,none⟩,some ⟨r2,0,none⟩,some ⟨r3,0,none⟩,p1,p2,p3,by rw[HA.O],by rw[HA.O];exact⟨(H.O.af.aR (an.O.aB r1 (by have:=H.O.n1;omega))).bW,(H.O.ah.aR (an.O.aB r2 (by have:=H.O.n2;omega))).bT,(H.O.ak.aR (an.O.aB r3 (by have:=H.O.n3;omega))).cx⟩,aI⟩
    ·have HA:Hid (Cb B E=((AS B E).1,0)):=by unfold Hid;rw[bm.O,dB H0.O,dB cm]
     have e0:=AJ bo.O 0 rfl;have e1:=AJ bo.O 1 rfl;have e2:=AJ bo.O 2 rfl;have e3:=AJ bo.O 3 rfl
     go_wp2_with fail
     refine(CU (AS B E).1 (qad b1) (qad b2) (qad b3) d1 d2 d3 w2 (GH HV.O) c8.O).mono ?_;rintro e w3 ⟨r1,p1,r2,p2,r3,p3,rfl,ar,F⟩;have aH:=aw.trans (F.mono' (by have:=aw.size;omega));have X3:Hid _:=AK F X2.O (by omega);have E3:Hid _:=AK F E2.O (by omega);have Z3:Hid _:=AK F Z2.O (by omega);have br:w.heap.size+1+1<w3.heap.size:=(AB Z3.O).1;have H:Hid _:=ar;clear ar F e0 e1 e2 e3
     go_wp2_with (refine AM rfl 28 (.tmp 4) (.tmp 43) rfl (w.heap.size+1+1) 0 #[.int .i64 (AS B E).1.aj,.slice (qad r1) (AS B E).1.af.length p1,.slice (qad r2) (AS B E).1.ah.length p2,.slice (qad r3) (AS B E).1.ak.length p3] rfl rfl 28 qzV Z3.O BG (AD rfl) (by simp[Value.oneCell']) ?_;intro w4 hz on;have Z4:Hid (qBl w4 (w.heap.size+1+1) #[.int .i64 (AS B E).1.aj,.slice (qad r1) (AS B E).1.af.length p1,.slice (qad r2) (AS B E).1.ah.length p2,.slice (qad r3) (AS B E).1.ak.length p3] 28):=hz;have aI:=aH.trans (on.below.mono' (by omega));have an:Hid (A6 (w.heap.size+1+1) w3 w4):=on;clear hz on)
     exact dS (v:=.tuple #[.agg #[.int .i64 (AS B E).1.aj,.slice (qad r1) (AS B E).1.af.length p1,.slice (qad r2) (AS B E).1.ah.length p2,.slice (qad r3) (AS B E).1.ak.length p3],.int .i64 0]) (BZ rfl _ _ (w.heap.size+1+1) _ _ _ _ rfl Z4.O Tryz.underlying28 rfl BG _ rfl) rfl ⟨some ⟨r1,0,none⟩,some ⟨r2,0,none⟩,some ⟨r3,0,none⟩,p1,p2,p3,by rw[HA.O],by rw[HA.O];exact⟨(H.O.af.aR (an.O.aB r1 (by have:=H.O.n1;omega))).bW,(H.O.ah.aR (an.O.aB r2 (by have:=H.O.n2;omega))).bT,(H.O.ak.aR (an.O.aB r3 (by have:=H.O.n3;omega))).cx⟩,aI⟩
   ·have HA:Hid (Cb B E=(B,(AS B E).2)):=by unfold Hid;rw[bm.O,dC J]
    obtain⟨cd,b5⟩:∃cd,(AS B E).2=cd:=⟨_,rfl⟩;rw[b5]at J HA ⊢;clear b5 HM bm;have fd:(cd==0)=false:=by simpa using J
    have eV:(cd !=0)=true:=by simpa using J
    clear J;have e0:=AJ XW.O 0 rfl;have e1:=AJ XW.O 1 rfl;have e2:=AJ XW.O 2 rfl;have e3:=AJ XW.O 3 rfl
    go_wp2_with fail
    refine(CU B a1 a2 a3 c1 c2 c3 W hS (hB.below bb)).mono ?_;rintro e w3 ⟨r1,p1,r2,p2,r3,p3,rfl,ar,F⟩;have aH:=bb.trans (F.mono' (by have:=bb.size;omega));have X3:Hid _:=AK F XW.O (by omega);have E3:Hid _:=AK F EW.O (by omega);have Z3:Hid _:=AK F ZW.O (by omega);have br:w.heap.size+1+1<w3.heap.size:=(AB Z3.O).1;have H:Hid _:=ar;clear ar F e0 e1 e2 e3
    go_wp2_with (refine AM rfl 28 (.tmp 4) (.tmp 40) rfl (w.heap.size+1+1) 0 (qbV B (qad r1) p1 (qad r2) p2 (qad r3) p3) rfl rfl 28 qzV Z3.O BG (AD rfl) (by simp[Value.oneCell']) ?_;intro w4 hz on;have Z4:Hid (qBl w4 (w.heap.size+1+1) (qbV B (qad r1) p1 (qad r2) p2 (qad r3) p3) 28):=hz;have aI:=aH.trans (on.below.mono' (by omega));have an:Hid (A6 (w.heap.size+1+1) w3 w4):=on;clear hz on)
    exact dS (v:=.tuple #[.agg (qbV B (qad r1) p1 (qad r2) p2 (qad r3) p3),.int .i64 cd]) (BZ rfl _ _ (w.heap.size+1+1) _ _ _ _ rfl Z4.O Tryz.underlying28 rfl BG _ rfl) rfl ⟨some ⟨r1,0,none⟩,some ⟨r2,0,none⟩,some ⟨r3,0,none⟩,p1,p2,p3,by rw[HA.O],by rw[HA.O];exact⟨(H.O.af.aR (an.O.aB r1 (by have:=H.O.n1;omega))).bW,(H.O.ah.aR (an.O.aB r2 (by have:=H.O.n2;omega))).bT,(H.O.ak.aR (an.O.aB r3 (by have:=H.O.n3;omega))).cx⟩,aI⟩
end
end Go.Proofs.YtbceafpodamnfaaGreatDoor
