import Derived.Test.YtbceafpodamnfaaGreatH25
set_option linter.all false
set_option maxHeartbeats 4000000
set_option maxRecDepth 100000
namespace Go.Proofs.YtbceafpodamnfaaGreat
section
open Go Go.RowKit
def ghR(r:Nat)(w:World)(a1 a2 a3:Option Addr):Gh:=⟨λi=>match i with|0=>some ⟨r,0,none⟩|1=>a1|2=>a2|3=>a3|_=>none,λk=>k<w.heap.size/\k≠r,λk=>k=r⟩
theorem Kw{r f cost:Nat}{α:Type}{A:α->List Value}{M:α->AV}{Pre:α->Prop}{Out:α->Value->AV->Prop}(hC:CN Tryz.prog (RDr r) f cost (ctV A M Pre Out))(p:α)(hp:Pre p)(hcan:can (A p) (M p)=(A p,M p)){w:World}{q:Nat}{a1 a2 a3:Option Addr}(hR:Rd r w (q:Int))(hq:q+cost<=QM)(hM:∀i b,(i,b)∈M p->i<64/\Hold (RDr r) w (ghR r w a1 a2 a3) w q i b):
  Calls Tryz.prog f ((A p).map (r2 (ghR r w a1 a2 a3).α)).toArray w λe w'=>∃v es G',Out p v es/\e=.returned (r2 G'.α (up2 (64+ ·) v))/\NewOk (RDr r) w G' w w' (q+cost) (upE 64 es)/\Past r w.heap.size w w'/\Rd r w' ((q+cost:Nat):Int)/\∀k,G'.Z k->k<w'.heap.size:=by
 have hlt:=hR.lt;refine(hC w (ghR r w a1 a2 a3) w q 64 (A p) (M p) (λv es=>∃v1 es1,Out p v1 es1/\v=up2 (64+ ·) v1/\es=upE 64 es1) (λk hk=>⟨hk.1,hk.2⟩) (λk hk=>by have hk:k=r:=hk;omega) (AG _) (λi b h=>(hM i b h).2) (λi b h=>.inl (hM i b h).1) (.inr hq) ⟨p,hcan,hp,λv es ho=>⟨v,es,ho,rfl,rfl⟩⟩).mono ?_;rintro e w' ⟨v,es',G',hk,rfl,hG,hN,_,_⟩;obtain⟨v1,es1,ho,rfl,rfl⟩:=hk (λv es=>∃v1 es1,Out p v1 es1/\v=up2 (64+ ·) v1/\es=upE 64 es1) ⟨p,hcan,hp,λv es ho=>⟨v,es,ho,rfl,rfl⟩⟩;exact⟨v1,es1,G',ho,rfl,hN,⟨hG.stp.os,hG.stp.tape,hG.stp.output,hG.stp.size,λk hk hn=>hG.stp.block k hk hn⟩,(hG.rd r rfl ⟨rfl,hR,λk hk=>⟨by omega,by omega⟩⟩).2.1,λk hk=>(hG.z3 k hk).1⟩
theorem rd_ne{r b o:Nat}{w:World}{q:Int}{s:ByteArray}(hR:Rd r w q)(h:w.cell? ⟨b,o,none⟩=some (.string s)):b≠r:=λe=>by
 subst e;obtain⟨ao,n,cap,p,h1,_⟩:=hR;rw[Jd h1]at h
 match o,h with
 |0,h=>cases h
 |1,h=>cases h
 |k+2,h=>simp at h
theorem HQ{RD:(Nat->Prop)->World->Nat->Nat->Prop}{w0 w:World}{G:Gh}{q i ty sz:Nat}{X:Type}{f:X->List Value}{l:List X}{ao:Option Addr}(hα:G.α i=ao)(hf:∀x,(f x).all noV=true)
  (h:l≠[]->∃b off,ao=some ⟨b,off,none⟩/\G.Z b/\∀i x,l[i]?=some x->∀j v,(f x)[j]?=some v->w.cell? ⟨b,off+i*sz+j,none⟩=some v):Hold RD w0 G w q i (BZ ty sz f l):=by
 refine⟨λh=>(nomatch h),λ_ j hj=>?_,λh=>(nomatch h),λh=>(nomatch h),λh=>(nomatch h),.inr (.inl rfl)⟩;have hj':j<l.length:=hj;obtain⟨b,off,e,hb,hc⟩:=h (λe=>by rw[e]at hj';cases hj');obtain⟨x,hx⟩:∃x,l[j]?=some x:=⟨l[j],by simp⟩;exact⟨b,off,f x,hα.trans e,hb,λk hk=>hk x hx,λy v hv=>⟨hc j x hx y v hv,fun β=>FA (List.all_eq_true.1 (hf x) v (AE hv)) β⟩,λ_ _=>trivial⟩
theorem Nk{r:Nat}{w:World}{q:Nat}{B:Bk}{a1 a2 a3:Option Addr}{c1 c2 c3:Nat}(hR:Rd r w (q:Int))(hB:BkAt w a1 a2 a3 B):∀i b,(i,b)∈BP.m1 ⟨B,c1,c2,c3⟩->i<64/\Hold (RDr r) w (ghR r w a1 a2 a3) w q i b:=λi b hi=>by
 have hlt:=hR.lt;have h3:=K6 (RD:=Mh) (q:=0) hB;simp only[BP.m1,List.mem_cons,List.not_mem_nil,or_false,Prod.mk.injEq]at hi;rcases hi with⟨rfl,rfl⟩|⟨rfl,rfl⟩|⟨rfl,rfl⟩|⟨rfl,rfl⟩
 ·exact⟨by decide,⟨λh=>(nomatch h),λh=>(nomatch h),λh=>(nomatch h),λh=>(nomatch h),λ_=>⟨r,rfl,rfl,rfl,hR,λk hk=>⟨by omega,by omega⟩⟩,.inr (.inr (.inr (.inr (.inl rfl))))⟩⟩
 ·refine⟨by decide,HQ (ao:=a1) rfl (λ_=>rfl) λhne=>?_⟩
  obtain⟨b,off,e,hl,hc⟩:=((h3 0 _ rfl).2.1).read (f:=svL) (l:=B.svcs) (λk hk=>hk) .row hne;obtain⟨x,_,hx⟩:=List.exists_cons_of_ne_nil hne;exact⟨b,off,e,⟨hl,rd_ne hR (hc 0 x (by rw[hx];rfl) 0 _ rfl)⟩,hc⟩
 ·refine⟨by decide,HQ (ao:=a2) rfl (λ_=>rfl) λhne=>?_⟩
  obtain⟨b,off,e,hl,hc⟩:=((h3 1 _ rfl).2.1).read (f:=cpL) (l:=B.cps) (λk hk=>hk) .row hne;obtain⟨x,_,hx⟩:=List.exists_cons_of_ne_nil hne;exact⟨b,off,e,⟨hl,rd_ne hR (hc 0 x (by rw[hx];rfl) 0 _ rfl)⟩,hc⟩
 ·refine⟨by decide,HQ (ao:=a3) rfl (λ_=>rfl) λhne=>?_⟩
  obtain⟨b,off,e,hl,hc⟩:=((h3 2 _ rfl).2.1).read (f:=btL) (l:=B.bts) (λk hk=>hk) .row hne;obtain⟨x,_,hx⟩:=List.exists_cons_of_ne_nil hne;exact⟨b,off,e,⟨hl,rd_ne hR (hc 0 x (by rw[hx];rfl) 0 _ rfl)⟩,hc⟩
theorem event_bk(r q:Nat)(B:Bk)(a1 a2 a3:Option Addr)(c1 c2 c3:Nat)(w:World)(hok:okSp B)(hB:BkAt w a1 a2 a3 B)(hR:Rd r w (q:Int))(hq:q+2000<=QM):
  Calls Tryz.prog 12 #[.pointer (some ⟨r,0,none⟩),.agg #[.int .i64 B.now,.slice a1 B.svcs.length c1,.slice a2 B.cps.length c2,.slice a3 B.bts.length c3]] w λe w'=>∃k s nm n f,e=.returned (evV0 k s nm n f)/\s.name.size<=maxLen/\nm.size<=maxLen/\NumOk B n/\Past r w.heap.size w w'/\Rd r w' ((q+2000:Nat):Int):=by
 have h:=Kw (Lz r) ⟨B,c1,c2,c3⟩ hok rfl hR hq (Nk hR hB);rw[show(List.map (r2 (ghR r w a1 a2 a3).α) [.complex .f64 0 0,BP.v1 ⟨B,c1,c2,c3⟩]).toArray=#[.pointer (some ⟨r,0,none⟩),.agg #[.int .i64 B.now,.slice a1 B.svcs.length c1,.slice a2 B.cps.length c2,.slice a3 B.bts.length c3]] from by simp[BP.v1,ghR,r2,r1,r0,Addr.add]]at h;refine h.mono ?_;rintro e w' ⟨_,_,G',⟨rfl,k,s,nm,n,f,rfl,h1,h2,h3⟩,rfl,_,hp,hr,_⟩;exact⟨k,s,nm,n,f,by simp[evV0,up2,up1,up0,r2,r1,r0],h1,h2,h3,hp,hr⟩
theorem wish_bk(r q:Nat)(w:World)(hR:Rd r w (q:Int))(hq:q+100<=QM):
  Calls Tryz.prog 30 #[.pointer (some ⟨r,0,none⟩)] w λe w'=>∃s:Svc,e=.returned (FE s)/\s.name.size<=10/\Past r w.heap.size w w'/\Rd r w' ((q+100:Nat):Int):=by
 have hlt:=hR.lt
 have h:=Kw (a1:=none) (a2:=none) (a3:=none) (NK r) () trivial rfl hR hq (λi b hi=>by
  cases List.mem_singleton.1 hi
  exact⟨by decide,⟨λh=>(nomatch h),λh=>(nomatch h),λh=>(nomatch h),λh=>(nomatch h),λ_=>⟨r,rfl,rfl,rfl,hR,λk hk=>⟨by omega,by omega⟩⟩,.inr (.inr (.inr (.inr (.inl rfl))))⟩⟩)
 rw[show(List.map (r2 (ghR r w none none none).α) [.complex .f64 0 0]).toArray=#[.pointer (some ⟨r,0,none⟩)] from by simp[ghR,r2,r1,r0,Addr.add]]at h;refine h.mono ?_;rintro e w' ⟨_,_,G',⟨rfl,s,rfl,h1⟩,rfl,_,hp,hr,_⟩;exact⟨s,by simp[FE,svL,up2,up1,up0,r2,r1,r0],h1,hp,hr⟩
def SpBk(N:Nat)(w':World)(e:Ending):Prop:=∃(a1 a2 a3:Option Addr) (c1 c2 c3:Nat) (B:Bk),e=.returned (.agg #[.int .i64 B.now,.slice a1 B.svcs.length c1,.slice a2 B.cps.length c2,.slice a3 B.bts.length c3])/\BkAt w' a1 a2 a3 B/\okSp B/\∀b o,(a1=some ⟨b,o,none⟩\/a2=some ⟨b,o,none⟩\/a3=some ⟨b,o,none⟩)->N<=b
theorem sp_bk{r q:Nat}{w w':World}{G':Gh}{v:Value}{es:AV}(h:NP v es)(hN:NewOk (RDr r) w G' w w' q (upE 64 es))(hz:∀k,G'.Z k->k<w'.heap.size):SpBk w.heap.size w' (.returned (r2 G'.α (up2 (64+ ·) v))):=by
 rcases h with⟨rfl,rfl⟩|⟨B,n1,n2,n3,k1,k2,k3,hok,⟨rfl,rfl,rfl⟩,rfl,rfl⟩
 ·exact⟨none,none,none,0,0,0,⟨-1,[],[],[]⟩,by simp[up2,up1,up0,r2,r1,r0],⟨λh=>absurd rfl h,λh=>absurd rfl h,λh=>absurd rfl h⟩,⟨⟨AI _,AI _,AI _⟩,⟨λ_ h=>(nomatch h),λ_ h=>(nomatch h),λ_ h=>(nomatch h)⟩⟩,λb o h=>by rcases h with h|h|h<;>cases h⟩
 ·have h1:=hN.hold 64 _ (List.mem_cons_self)
  have h2:=hN.hold 65 _ (List.mem_cons_of_mem _ List.mem_cons_self);have h3:=hN.hold 66 _ (List.mem_cons_of_mem _ (List.mem_cons_of_mem _ List.mem_cons_self));refine⟨G'.α 64,G'.α 65,G'.α 66,k1,k2,k3,B,by simp[up2,up1,up0,r2,r1,r0],K5 hz h1 h2 h3 (.le (ρ:=[]) (.same _ _ rfl)) (.le (ρ:=[]) (.same _ _ rfl)) (.le (ρ:=[]) (.same _ _ rfl)),hok,λb o h=>?_⟩;obtain⟨y1,_,e1,l1,_⟩:=h1.k3 rfl;obtain⟨y2,_,e2,l2,_⟩:=h2.k3 rfl;obtain⟨y3,_,e3,l3,_⟩:=h3.k3 rfl;rcases h with h|h|h
  ·rw[e1]at h;cases h;exact l1
  ·rw[e2]at h;cases h;exact l2
  ·rw[e3]at h;cases h;exact l3
theorem rd_hold{r q:Nat}{w:World}{a1 a2 a3:Option Addr}(hR:Rd r w (q:Int)):∀i b,(i,b)∈[(0,rdB)]->i<64/\Hold (RDr r) w (ghR r w a1 a2 a3) w q i b:=λi b hi=>by
 have hlt:=hR.lt;cases List.mem_singleton.1 hi;exact⟨by decide,⟨λh=>(nomatch h),λh=>(nomatch h),λh=>(nomatch h),λh=>(nomatch h),λ_=>⟨r,rfl,rfl,rfl,hR,λk hk=>⟨by omega,by omega⟩⟩,.inr (.inr (.inr (.inr (.inl rfl))))⟩⟩
theorem any_bk(r q:Nat)(w:World)(hD:CN Tryz.prog (RDr r) 28 910000000000 Kx)(hR:Rd r w (q:Int))(hq:q+910000001000<=QM):
  Calls Tryz.prog 11 #[.pointer (some ⟨r,0,none⟩)] w λe w'=>SpBk w.heap.size w' e/\Past r w.heap.size w w'/\Rd r w' ((q+910000001000:Nat):Int):=by
 have h:=Kw (a1:=none) (a2:=none) (a3:=none) (any_ct r hD) () trivial rfl hR hq (rd_hold hR);rw[show(List.map (r2 (ghR r w none none none).α) [.complex .f64 0 0]).toArray=#[.pointer (some ⟨r,0,none⟩)] from by simp[ghR,r2,r1,r0,Addr.add]]at h;refine h.mono ?_;rintro e w' ⟨v,es,G',ho,rfl,hN,hp,hr,hz⟩;exact⟨sp_bk ho hN hz,hp,hr⟩
end
end Go.Proofs.YtbceafpodamnfaaGreat
