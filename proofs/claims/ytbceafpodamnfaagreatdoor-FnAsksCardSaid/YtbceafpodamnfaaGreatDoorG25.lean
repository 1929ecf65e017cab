import Derived.Test.YtbceafpodamnfaaGreatDoorG24
set_option linter.all false
set_option maxHeartbeats 8000000
set_option maxRecDepth 100000
namespace Go.Proofs.YtbceafpodamnfaaGreatDoor
section
open Go.RowKit
open Go.Value renaming int->In,slice->Sl,string->Sg,bool->Bo,pointer->Po
open Go.IntKind renaming i64->i6
abbrev Pm:Ct:=ctV (λ_:Unit=>[.complex .f64 0 0]) (λ_=>[(0,rdB)]) (λ_=>True) λ_ v es=>∃B,okDr B/\bkO B v es
abbrev ctAny:Ct:=ctV (λ_:Unit=>[.complex .f64 0 0]) (λ_=>[(0,rdB)]) (λ_=>True) λ_=>Tw
def tN:Tm:=[(0,.complex .f64 0 0),(2,.complex .f64 64 0),(3,.complex .f64 88 0)]
def mN(B:Bk)(L:List Svc)(l:List Cp)(k1 n2 k2 k3:Nat):AW:=[(88,AX [In i6 B.av,.iface 80 (Sl none B.ah.length k1),.iface 81 (Sl none n2 k2),.iface 82 (Sl none B.aw.length k3)] 28),(80,At 34 13 k1 svL L),(81,At 76 7 k2 cpL l),(82,At 90 2 k3 btL B.aw),(64,AX [In i6 0,Sl none 0 0,Sl none 0 0,Sl none 0 0] 28),(0,rdB)]
theorem any_ct(r:Nat)(hD:CH Tryz.prog (RDr r) 119 910000000000 Pm):CH Tryz.prog (RDr r) 60 910000001000 ctAny:=by
 refine NE (Ρ:=[]) (Aa (Aa (M3 r) (f:=119) qk hD) (f:=120) qk (spoil_ct r)) (Ji r) 910000001000 qd Tryz.func60 qk (.nil _) qk (λ_=>rfl) (λ_ _ _ _=>rfl) λ_ q _ hq=>?_
 refine dg (show q+910000000000<=QM by omega) ?_;refine⟨(),rfl,trivial,?_⟩;rintro _ _ ⟨B,W,k1,k2,k3,rfl,rfl⟩;have aC:B.ah.length<=999:=W.1.1;have aD:B.ar.length<=999:=W.1.2.1;have aF:B.aw.length<=999:=W.1.2.2;have H:=W.2.1;have O:=W.2.2.1;have F:=W.2.2.2;refine dg (show q+910000000000+1<=QM by omega) ⟨0,24,rfl,rfl,⟨qd,qd⟩,λu _=>?_⟩;refine dg (λ_=>?_) (λh=>?_)
 ·refine dg (show q+910000000000+1+10<=QM by omega) ?_
  refine⟨⟨B,k1,k2,k3⟩,rfl,W,?_⟩;rintro _ _ (⟨rfl,rfl⟩|⟨B',n1,n2,n3,r1,r2,r3,am,⟨rfl,rfl,rfl⟩,rfl,rfl⟩)
  ·exact⟨.inl rfl,_,rfl,⟨⟨_,_,[],.inl ⟨rfl,rfl⟩,rfl,trivial,rfl,rfl,trivial⟩,(show q+910000000000+1+10<=q+910000001000 by omega),0,rfl⟩,rfl⟩
  ·exact⟨.inl rfl,_,rfl,⟨BQ B' am rfl (.same _ _ rfl) rfl (.same _ _ rfl) rfl (.same _ _ rfl) rfl rfl rfl rfl,(show q+910000000000+1+10<=q+910000001000 by omega),0,rfl⟩,rfl⟩
 clear h;refine dg (λ_=>?_) (λh=>?_)
 ·refine dg (show q+910000000000+1+1<=QM by omega) ⟨0,2,rfl,rfl,⟨qd,qd⟩,λy _=>?_⟩
  refine λnv _=>?_
  exact⟨.inl rfl,_,rfl,⟨BQ (i1:=80) (i2:=81) (i3:=82) ⟨nv,B.ah,B.ar,B.aw⟩ (⟨⟨by show B.ah.length<=1000;omega,by show B.ar.length<=1000;omega,by show B.aw.length<=1000;omega⟩,H,O,F⟩) rfl (.same _ _ rfl) rfl (.same _ _ rfl) rfl (.same _ _ rfl) rfl rfl rfl rfl,(show q+910000000000+1+1<=q+910000001000 by omega),0,rfl⟩,rfl⟩
 clear h;refine dg (λ_=>?_) (λh=>?_)
 ·refine dg (λY=>?_) (λ_=>?_)
  ·refine dg (λag=>?_) (λ_=>?_)
   ·have Y:(0:Int)<B.ah.length:=Y
    have ag:(0:Int)<B.aw.length:=ag;refine λs hs=>?_
    have s0:0<=s:=by have:=hs ⟨qo,qo⟩;omega
    have hs:s=B.ah.length - 1:=hs ⟨qo,qo⟩;refine dg (show q+910000000000+1+1<=QM by omega) ⟨0,4,rfl,rfl,⟨qd,qd⟩,λy hy=>?_⟩;have aG:=hy.1;have aH:=hy.2.1 qd;refine λn hn=>?_
    have hn:n=200 - y:=hn ⟨qo,qo⟩;clear hy;refine⟨λi z=>∃(L:List Svc) (l:List Cp) (n2 k2 q':Nat),i=(n - n2).toNat/\n2=l.length/\L.length=B.ah.length/\n2<=1000/\q'+(n - n2).toNat<=q+910000000000+300/\(∀d∈L,d.name.size<=maxLen)/\(∀c∈l,c.aa.size<=maxLen/\c.aC.size<=maxLen)/\z=⟨(4,In i6 s)::(5,In i6 n)::tN,mN B L l k1 n2 k2 k3,700,q'⟩,_,⟨_,(by refine⟨[],?_,?_,rfl,rfl,AG⟩<;>repeat' (first|exact rfl|exact trivial|exact⟨_,rfl,.same _ _ rfl⟩|exact⟨_,rfl,EF rfl⟩|apply dg)),B.ah,B.ar,B.ar.length,k2,q+910000000000+1+1,rfl,rfl,rfl,qo,qo,H,O,rfl⟩,?_⟩;rintro _ _ ⟨L,l,n2,k2,q',rfl,aa,hL,aA,aB,M,ak,rfl⟩;refine dg (λal=>?_) (λal=>?_)
    ·have al:(n2:Int)<n:=al
     refine dg (show q'+1<=QM by omega) ?_;refine dg s0 (dg (show s<(B.ah.length:Int) by omega) (dg (fW hL.symm) (dg (show s.toNat<L.length by omega) (λsv ae=>?_))));refine dg s0 (dg (show s<(B.ah.length:Int) by omega) (dg (fW hL.symm) (dg (show s.toNat<L.length by omega) (λaj _=>?_))));refine⟨0,2,rfl,rfl,⟨qd,qd⟩,λy2 _=>?_⟩;refine dg (λ_=>?_) (λ_=>?_)
     ·refine dg (ff 0) (dg ag (dg AG (dg (show 0<B.aw.length by omega) (λb0 Z=>?_))))
      refine dg aa (dg rfl (dg AG (dg (show n2+1<=1000000000 by omega) (λc'=>?_))));refine dg s0 (dg (show s<(B.ah.length:Int) by omega) (dg (fW hL.symm) (dg (show s.toNat<L.length by omega) (λaf J=>?_))));refine λz _=>?_
      refine dg s0 (dg (show s<(B.ah.length:Int) by omega) (dg (fW hL.symm) (dg (show s.toNat<L.length by omega) (dg (λ_ _ _=>trivial) ?_))));refine⟨(n - (n2+1:Nat)).toNat,qo,_,?_,L.set s.toNat {af with next:=z},l++[⟨sv.name,aj.next,1,1,3,true,b0.name⟩],n2+1,c',q'+1,rfl,(by rw[aa];simp),(by rw[dC];exact hL),qo,qo,(λd hd=>(eU hd).elim (M d) (λh=>by rw[h];exact M af (AE J))),(λd hd=>(dO.1 hd).elim (ak d) (λh=>by rw[dl.1 h];exact⟨M sv (AE ae),F b0 (AE Z)⟩)),rfl⟩;refine⟨[(81,932)],?_,?_,rfl,rfl,AG⟩<;>repeat' (first|exact rfl|exact trivial|exact⟨_,rfl,.same _ _ rfl⟩|exact⟨_,rfl,EF rfl⟩|exact⟨_,rfl,BZ (.same _ _ rfl) J rfl⟩|exact⟨_,rfl,Ee (f:=cpL) l ⟨sv.name,aj.next,1,1,3,true,b0.name⟩⟩|apply dg)
     ·refine dg (ff 0) (dg ag (dg AG (dg (show 0<B.aw.length by omega) (λb0 Z=>?_))))
      refine dg aa (dg rfl (dg AG (dg (show n2+1<=1000000000 by omega) (λc'=>?_))));refine dg s0 (dg (show s<(B.ah.length:Int) by omega) (dg (fW hL.symm) (dg (show s.toNat<L.length by omega) (λaf J=>?_))));refine λz _=>?_
      refine dg s0 (dg (show s<(B.ah.length:Int) by omega) (dg (fW hL.symm) (dg (show s.toNat<L.length by omega) (dg (λ_ _ _=>trivial) ?_))));refine⟨(n - (n2+1:Nat)).toNat,qo,_,?_,L.set s.toNat {af with next:=z},l++[⟨sv.name,aj.next,1,1,3,false,b0.name⟩],n2+1,c',q'+1,rfl,(by rw[aa];simp),(by rw[dC];exact hL),qo,qo,(λd hd=>(eU hd).elim (M d) (λh=>by rw[h];exact M af (AE J))),(λd hd=>(dO.1 hd).elim (ak d) (λh=>by rw[dl.1 h];exact⟨M sv (AE ae),F b0 (AE Z)⟩)),rfl⟩;refine⟨[(81,932)],?_,?_,rfl,rfl,AG⟩<;>repeat' (first|exact rfl|exact trivial|exact⟨_,rfl,.same _ _ rfl⟩|exact⟨_,rfl,EF rfl⟩|exact⟨_,rfl,BZ (.same _ _ rfl) J rfl⟩|exact⟨_,rfl,Ee (f:=cpL) l ⟨sv.name,aj.next,1,1,3,false,b0.name⟩⟩|apply dg)
    ·subst aa
     exact⟨.inl rfl,_,rfl,⟨BQ (i1:=80) (i2:=81) (i3:=82) ⟨B.av,L,l,B.aw⟩ (⟨⟨by show L.length<=1000;omega,by show l.length<=1000;omega,by show B.aw.length<=1000;omega⟩,M,ak,F⟩) rfl (.same _ _ rfl) rfl (.same _ _ rfl) rfl (.same _ _ rfl) hL.symm rfl rfl rfl,(show q'<=q+910000001000 by omega),0,rfl⟩,rfl⟩
   ·exact⟨.inl rfl,_,rfl,⟨BQ (i1:=80) (i2:=81) (i3:=82) ⟨B.av,B.ah,B.ar,B.aw⟩ (⟨⟨by show B.ah.length<=1000;omega,by show B.ar.length<=1000;omega,by show B.aw.length<=1000;omega⟩,H,O,F⟩) rfl (.same _ _ rfl) rfl (.same _ _ rfl) rfl (.same _ _ rfl) rfl rfl rfl rfl,(show q+910000000000+1<=q+910000001000 by omega),0,rfl⟩,rfl⟩
  ·exact⟨.inl rfl,_,rfl,⟨BQ (i1:=80) (i2:=81) (i3:=82) ⟨B.av,B.ah,B.ar,B.aw⟩ (⟨⟨by show B.ah.length<=1000;omega,by show B.ar.length<=1000;omega,by show B.aw.length<=1000;omega⟩,H,O,F⟩) rfl (.same _ _ rfl) rfl (.same _ _ rfl) rfl (.same _ _ rfl) rfl rfl rfl rfl,(show q+910000000000+1<=q+910000001000 by omega),0,rfl⟩,rfl⟩
 clear h;refine dg (λ_=>?_) (λh=>?_)
 ·refine dg (λY=>?_) (λ_=>?_)
  ·have Y:(0:Int)<B.ah.length:=Y
   refine dg (show q+910000000000+1+1<=QM by omega) ⟨0,2,rfl,rfl,⟨qd,qd⟩,λy _=>?_⟩;refine λnv _=>?_
   obtain⟨sv,ae⟩:∃sv,B.ah[(0:Int).toNat]?=some sv:=⟨B.ah[0]' qo,qs⟩;refine dg (ff 0) (dg Y (dg AG (dg (show 0<B.ah.length by omega) (dg (λ_ _ _=>trivial) ?_))));exact⟨.inl rfl,_,rfl,⟨BQ (i1:=80) (i2:=81) (i3:=82) ⟨B.av,B.ah.set (0:Int).toNat {sv with next:=nv},B.ar,B.aw⟩ (⟨⟨by show(B.ah.set _ _).length<=1000;rw[dC];omega,by show B.ar.length<=1000;omega,by show B.aw.length<=1000;omega⟩,(λd hd=>(eU hd).elim (H d) (λh=>by rw[h];exact H sv (AE ae))),O,F⟩) rfl (BZ (.same _ _ rfl) ae rfl) rfl (.same _ _ rfl) rfl (.same _ _ rfl) (by rw[dC]) rfl rfl rfl,(show q+910000000000+1+1<=q+910000001000 by omega),0,rfl⟩,rfl⟩
  ·exact⟨.inl rfl,_,rfl,⟨BQ (i1:=80) (i2:=81) (i3:=82) ⟨B.av,B.ah,B.ar,B.aw⟩ (⟨⟨by show B.ah.length<=1000;omega,by show B.ar.length<=1000;omega,by show B.aw.length<=1000;omega⟩,H,O,F⟩) rfl (.same _ _ rfl) rfl (.same _ _ rfl) rfl (.same _ _ rfl) rfl rfl rfl rfl,(show q+910000000000+1<=q+910000001000 by omega),0,rfl⟩,rfl⟩
 clear h;exact⟨.inl rfl,_,rfl,⟨BQ (i1:=80) (i2:=81) (i3:=82) ⟨B.av,B.ah,B.ar,B.aw⟩ (⟨⟨by show B.ah.length<=1000;omega,by show B.ar.length<=1000;omega,by show B.aw.length<=1000;omega⟩,H,O,F⟩) rfl (.same _ _ rfl) rfl (.same _ _ rfl) rfl (.same _ _ rfl) rfl rfl rfl rfl,(show q+910000000000+1<=q+910000001000 by omega),0,rfl⟩,rfl⟩
end
section
open Go.RowKit
def ghR(r:Nat)(w:World)(a1 a2 a3:qO):Gh:=⟨λi=>match i with|0=>some ⟨r,0,none⟩|1=>a1|2=>a2|3=>a3|_=>none,λk=>k<w.heap.size/\k≠r,λk=>k=r⟩
theorem TD{r f cost:Nat}{α:Type}{A:α->List Value}{M:α->AW}{O:α->Prop}{F:α->Value->AW->Prop}(hC:CH Tryz.prog (RDr r) f cost (ctV A M O F))(p:α)(hp:O p)(H:can (A p) (M p)=(A p,M p)){w:World}{q:Nat}{a1 a2 a3:qO}(Z:Rd r w (q:Int))(hq:q+cost<=QM)(Y:∀i b,(i,b)∈M p->i<64/\Hold (RDr r) w (ghR r w a1 a2 a3) w q i b):
  Calls Tryz.prog f ((A p).map (r2 (ghR r w a1 a2 a3).α)).toArray w λe w'=>∃v es G',F p v es/\e=.returned (r2 G'.α (up2 (64+ ·) v))/\NewOk (RDr r) w G' w w' (q+cost) (upE 64 es)/\Past r w.heap.size w w'/\Rd r w' ((q+cost:Nat):Int)/\∀k,G'.Z k->k<w'.heap.size:=by
 have ag:=Z.lt;refine(hC w (ghR r w a1 a2 a3) w q 64 (A p) (M p) (λv es=>∃v1 z,F p v1 z/\v=up2 (64+ ·) v1/\es=upE 64 z) (λk hk=>⟨hk.1,hk.2⟩) (λk hk=>by have hk:k=r:=hk;omega) AG (λi b h=>(Y i b h).2) (λi b h=>.inl (Y i b h).1) (.inr hq) ⟨p,H,hp,λv es W=>⟨v,es,W,rfl,rfl⟩⟩).mono ?_;rintro e w' ⟨v,ae,G',hk,rfl,J,hN,_,_⟩;obtain⟨v1,z,W,rfl,rfl⟩:=hk (λv es=>∃v1 z,F p v1 z/\v=up2 (64+ ·) v1/\es=upE 64 z) ⟨p,H,hp,λv es W=>⟨v,es,W,rfl,rfl⟩⟩;exact⟨v1,z,G',W,rfl,hN,⟨J.bw.os,J.bw.tape,J.bw.output,J.bw.size,λk hk hn=>J.bw.block k hk hn⟩,(J.rd r rfl ⟨rfl,Z,λk hk=>⟨qo,qo⟩⟩).2.1,λk hk=>(J.z3 k hk).1⟩
theorem rd_ne{r b o:Nat}{w:World}{q:Int}{s:qB}(F:Rd r w q)(h:w.cell? ⟨b,o,none⟩=some (.string s)):b≠r:=λe=>by
 subst e;obtain⟨ao,n,cap,p,z,_⟩:=F;rw[H6 z]at h
 match o,h with
 |0,h=>cases h
 |1,h=>cases h
 |k+2,h=>simp at h
theorem FU{RD:(Nat->Prop)->World->Nat->Nat->Prop}{w0 w:World}{G:Gh}{q i ty sz:Nat}{X:Type}{f:X->List Value}{l:List X}{ao:qO}(hα:G.α i=ao)(hf:∀x,(f x).all noV=true)
  (h:l≠[]->∃b z,ao=some ⟨b,z,none⟩/\G.Z b/\∀i x,l[i]?=some x->∀j v,(f x)[j]?=some v->w.cell? ⟨b,z+i*sz+j,none⟩=some v):Hold RD w0 G w q i (BY ty sz f l):=by
 refine⟨λh=>(nomatch h),λ_ j J=>?_,λh=>(nomatch h),λh=>(nomatch h),λh=>(nomatch h),.inr (.inl rfl)⟩;have F:j<l.length:=J;obtain⟨b,z,e,hb,H⟩:=h (λe=>by rw[e]at F;cases F);obtain⟨x,hx⟩:∃x,l[j]?=some x:=⟨l[j],qs⟩;exact⟨b,z,f x,hα.trans e,hb,λk hk=>hk x hx,λy v hv=>⟨H j x hx y v hv,fun β=>G4 (dt.1 (hf x) v (AE hv)) β⟩,λ_ _=>trivial⟩
theorem m1_hold{r:Nat}{w:World}{q:Nat}{B:Bk}{a1 a2 a3:qO}{c1 c2 c3:Nat}(J:Rd r w (q:Int))(Y:BkAt w a1 a2 a3 B):∀i b,(i,b)∈BP.m1 ⟨B,c1,c2,c3⟩->i<64/\Hold (RDr r) w (ghR r w a1 a2 a3) w q i b:=λi b W=>by
 have Z:=J.lt;have O:=Gv (RD:=Jr) (q:=0) Y;simp only[BP.m1,dJ,dW,fF,dR]at W;rcases W with⟨rfl,rfl⟩|⟨rfl,rfl⟩|⟨rfl,rfl⟩|⟨rfl,rfl⟩
 ·exact⟨qd,⟨λh=>(nomatch h),λh=>(nomatch h),λh=>(nomatch h),λh=>(nomatch h),λ_=>⟨r,rfl,rfl,rfl,J,λk hk=>⟨qo,qo⟩⟩,.inr (.inr (.inr (.inr (.inl rfl))))⟩⟩
 ·refine⟨qd,FU (ao:=a1) rfl (λ_=>rfl) λz=>?_⟩
  obtain⟨b,F,e,M,H⟩:=((O 0 _ rfl).2.1).bM (f:=svL) (l:=B.ah) (λk hk=>hk) .row z;obtain⟨x,_,hx⟩:=fR z;exact⟨b,F,e,⟨M,rd_ne J (H 0 x (by rw[hx];rfl) 0 _ rfl)⟩,H⟩
 ·refine⟨qd,FU (ao:=a2) rfl (λ_=>rfl) λz=>?_⟩
  obtain⟨b,F,e,M,H⟩:=((O 1 _ rfl).2.1).bM (f:=cpL) (l:=B.ar) (λk hk=>hk) .row z;obtain⟨x,_,hx⟩:=fR z;exact⟨b,F,e,⟨M,rd_ne J (H 0 x (by rw[hx];rfl) 0 _ rfl)⟩,H⟩
 ·refine⟨qd,FU (ao:=a3) rfl (λ_=>rfl) λz=>?_⟩
  obtain⟨b,F,e,M,H⟩:=((O 2 _ rfl).2.1).bM (f:=btL) (l:=B.aw) (λk hk=>hk) .row z;obtain⟨x,_,hx⟩:=fR z;exact⟨b,F,e,⟨M,rd_ne J (H 0 x (by rw[hx];rfl) 0 _ rfl)⟩,H⟩
theorem wish_bk(r q:Nat)(w:World)(z:Rd r w (q:Int))(O:q+100<=QM):
  Calls Tryz.prog 37 #[.pointer (qad r)] w λe w'=>∃s:Svc,e=.returned (GE s)/\s.name.size<=10/\Past r w.heap.size w w'/\Rd r w' ((q+100:Nat):Int):=by
 have J:=z.lt
 have h:=TD (a1:=none) (a2:=none) (a3:=none) (Tn r) () trivial rfl z O (λi b H=>by
  cases dl.1 H
  exact⟨qd,⟨λh=>(nomatch h),λh=>(nomatch h),λh=>(nomatch h),λh=>(nomatch h),λ_=>⟨r,rfl,rfl,rfl,z,λk hk=>⟨qo,qo⟩⟩,.inr (.inr (.inr (.inr (.inl rfl))))⟩⟩)
 rw[show(List.map (r2 (ghR r w none none none).α) [.complex .f64 0 0]).toArray=#[.pointer (qad r)] from by simp[ghR,r2,r1,r0,Addr.add]]at h;refine h.mono ?_;rintro e w' ⟨_,_,G',⟨rfl,s,rfl,F⟩,rfl,_,M,W,_⟩;exact⟨s,by simp[GE,svL,up2,up1,up0,r2,r1,r0],F,M,W⟩
def SpBk(N:Nat)(w':World)(e:Ending):Prop:=∃(a1 a2 a3:qO) (c1 c2 c3:Nat) (B:Bk),e=.returned (.agg (qbV B a1 c1 a2 c2 a3 c3))/\BkAt w' a1 a2 a3 B/\okSp B/\(∀b o,(a1=some ⟨b,o,none⟩\/a2=some ⟨b,o,none⟩\/a3=some ⟨b,o,none⟩)->N<=b)/\B.ar.length<=c2
theorem sp_bk{r q:Nat}{w w':World}{G':Gh}{v:Value}{es:AW}(h:Tw v es)(F:NewOk (RDr r) w G' w w' q (upE 64 es))(Z:∀k,G'.Z k->k<w'.heap.size):SpBk w.heap.size w' (.returned (r2 G'.α (up2 (64+ ·) v))):=by
 rcases h with⟨rfl,rfl⟩|⟨B,n1,n2,n3,k1,k2,k3,H,⟨rfl,rfl,rfl⟩,rfl,rfl⟩
 ·exact⟨none,none,none,0,0,0,⟨-1,[],[],[]⟩,by simp[up2,up1,up0,r2,r1,r0],⟨λh=>absurd rfl h,λh=>absurd rfl h,λh=>absurd rfl h⟩,⟨⟨AI _,AI _,AI _⟩,⟨λ_ h=>(nomatch h),λ_ h=>(nomatch h),λ_ h=>(nomatch h)⟩⟩,(λb o h=>by rcases h with h|h|h<;>cases h),AG⟩
 ·have J:=F.be 64 _ (dP)
  have z:=F.be 65 _ (dQ _ dP);have M:=F.be 66 _ (dQ _ (dQ _ dP));refine⟨G'.α 64,G'.α 65,G'.α 66,k1,k2,k3,B,by simp[up2,up1,up0,r2,r1,r0],IY Z J z M (.le (ρ:=[]) (.same _ _ rfl)) (.le (ρ:=[]) (.same _ _ rfl)) (.le (ρ:=[]) (.same _ _ rfl)),H,λb o h=>?_,by obtain⟨_,_,_,_,_,_,_,_,Y,_⟩:=z.k3 rfl;exact Y.2.1⟩;obtain⟨y1,_,O,l1,_⟩:=J.k3 rfl;obtain⟨y2,_,W,l2,_⟩:=z.k3 rfl;obtain⟨y3,_,e3,l3,_⟩:=M.k3 rfl;rcases h with h|h|h
  ·rw[O]at h;cases h;exact l1
  ·rw[W]at h;cases h;exact l2
  ·rw[e3]at h;cases h;exact l3
theorem rd_hold{r q:Nat}{w:World}{a1 a2 a3:qO}(z:Rd r w (q:Int)):∀i b,(i,b)∈[(0,rdB)]->i<64/\Hold (RDr r) w (ghR r w a1 a2 a3) w q i b:=λi b F=>by
 have H:=z.lt;cases dl.1 F;exact⟨qd,⟨λh=>(nomatch h),λh=>(nomatch h),λh=>(nomatch h),λh=>(nomatch h),λ_=>⟨r,rfl,rfl,rfl,z,λk hk=>⟨qo,qo⟩⟩,.inr (.inr (.inr (.inr (.inl rfl))))⟩⟩
theorem any_bk(r q:Nat)(w:World)(F:CH Tryz.prog (RDr r) 119 910000000000 Pm)(z:Rd r w (q:Int))(O:q+910000001000<=QM):
  Calls Tryz.prog 60 #[.pointer (qad r)] w λe w'=>SpBk w.heap.size w' e/\Past r w.heap.size w w'/\Rd r w' ((q+910000001000:Nat):Int):=by
 have h:=TD (a1:=none) (a2:=none) (a3:=none) (any_ct r F) () trivial rfl z O (rd_hold z);rw[show(List.map (r2 (ghR r w none none none).α) [.complex .f64 0 0]).toArray=#[.pointer (qad r)] from by simp[ghR,r2,r1,r0,Addr.add]]at h;refine h.mono ?_;rintro e w' ⟨v,es,G',J,rfl,H,M,W,Y⟩;exact⟨sp_bk J H Y,M,W⟩
end
end Go.Proofs.YtbceafpodamnfaaGreatDoor
