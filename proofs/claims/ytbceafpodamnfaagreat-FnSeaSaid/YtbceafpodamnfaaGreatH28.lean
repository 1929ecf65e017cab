import Derived.Test.YtbceafpodamnfaaGreatH08
import Derived.Test.YtbceafpodamnfaaGreatH27
set_option linter.all false
set_option maxHeartbeats 64000000
set_option maxRecDepth 100000
namespace Go.Proofs.YtbceafpodamnfaaGreat
section
open Go Go.RowKit
theorem Mq{X:Type}{p:X->Bool}{l:List X}{k:Int}(h:Idx p l k):(k= -1/\Bn p l=none)\/∃(j:Nat) (x:X),k=j/\l[j]?=some x/\Bn p l=some (j,x):=by
 rcases h with⟨rfl,hn⟩|⟨j,x,rfl,hj,hp,hno⟩
 ·refine .inl ⟨rfl,?_⟩
  unfold Bn;rw[List.findIdx?_eq_none_iff.2 λx hx=>hn x hx]
 ·refine .inr ⟨j,x,rfl,hj,?_⟩
  obtain⟨h1,h2⟩:=AC hj;unfold Bn
  rw[List.findIdx?_eq_some_iff_getElem.2 ⟨h1,by rw[h2];exact hp,λi hi=>by
   have hi':i<l.length:=by omega
   rw[hno l[i] (List.mem_iff_getElem?.2 ⟨i,by rw[List.getElem?_take,if_pos hi];simp⟩)];decide⟩]
  simp only[hj,Option.map_some]
theorem cpQ_isC(nm:ByteArray)(n:Int):cpQ nm n=isC nm n:=by
 funext c
 unfold cpQ isC nmB
 congr 1
def evL(E:Ev):List Value:=[.int .i64 E.kind,.string E.service.name,.int .i64 E.service.version,.bool E.service.gone,.int .i64 E.service.image,.int .i64 E.service.want,.int .i64 E.service.down,.int .i64 E.service.over,.int .i64 E.service.next,.int .i64 E.service.per,.int .i64 E.service.least,.int .i64 E.service.most,.int .i64 E.service.load,.int .i64 E.service.cool,.string E.name,.int .i64 E.number,.bool E.flag]
def frB(P:World->Prop):VB:=⟨1,0,0,1,0,[],λ_ _=>False,λW _=>P W⟩
def bkG(B:Bk)(k1 k2 k3:Nat)(P:World->Prop):AV:=[(0,Ap 29 13 k1 svL B.svcs),(1,Ap 49 7 k2 cpL B.cps),(2,Ap 51 2 k3 btL B.bts),(3,frB P)]
abbrev ΓS:List (Nat × Nat × Ct):=[(34,0,ctTick),(35,0,Nw),(38,0,Nx),(36,0,M7),(37,0,Nz),(39,0,Hi)]
abbrev ΡS:Sp:=[(9,Oa TT ΓS (Gg 9 (Tryz.f17.body.getD .skip))),(15,Oa TT ΓS (Gg 15 (Tryz.f17.body.getD .skip))),(29,Oa TT ΓS (Gg 29 (Tryz.f17.body.getD .skip))),(18,vC TT (Gg 18 (Tryz.f17.body.getD .skip)) 13 25 0 79 [(5,84,83),(11,90,89)])]
def NS(R:Bk × Int)(P:World->Prop)(v:Value)(m:AV):Prop:=∃(X:Bk) (i1 i2 i3 n1 n2 n3 k1 k2 k3:Nat) (b1 b2 b3:VB),v=.tuple #[.agg #[.int .i64 X.now,.iface i1 (.slice none n1 k1),.iface i2 (.slice none n2 k2),.iface i3 (.slice none n3 k3)],.int .i64 R.2]/\(n1=X.svcs.length/\n2=X.cps.length/\n3=X.bts.length)/\(lk m i1=some b1/\LeB [] b1 (Ap 29 13 k1 svL X.svcs))/\(lk m i2=some b2/\LeB [] b2 (Ap 49 7 k2 cpL X.cps))/\(lk m i3=some b3/\LeB [] b3 (Ap 51 2 k3 btL X.bts))/\(R.2=0->X=R.1)/\lk m 3=some (frB P)
def endS(R:Bk × Int)(P:World->Prop):Exit->St->Prop:=λe s=>(e=.ret\/e=.normal)/\∃v,LW TT Tryz.f17.results.toList s.t s.m=some v/\NS R P v s.m/\clo s.m (BN v)=true
section
variable {RD:(Nat->Prop)->World->Nat->Nat->Prop}
theorem envS(hR:Cc RD):Env Tryz.prog RD TT ΓS:=
 Ab (Ab (Ab (Ab (Ab (Ab (BC hR) (by kernel_rfl) (Ef hR)) (by kernel_rfl) (MC hR)) (by kernel_rfl) (K0 hR)) (by kernel_rfl) (raise_ct hR)) (by kernel_rfl) (wishB_ct hR)) (by kernel_rfl) (tick_ct hR)
theorem specS(hR:Cc RD):SpAll Tryz.prog RD ΡS Tryz.f17.ntmps (Tryz.f17.body.getD .skip):=by
 intro i C hC p hp;have hi:=A9 _ _ _ hC;simp only[List.mem_cons,List.not_mem_nil,or_false,Prod.mk.injEq]at hi;rcases hi with⟨rfl,rfl⟩|⟨rfl,rfl⟩|⟨rfl,rfl⟩|⟨rfl,rfl⟩<;>cases List.mem_singleton.1 (show p∈[(_,_)] from hp)
 ·exact Gr (envS hR) (by kernel_rfl) (by kernel_rfl)
 ·exact Gr (envS hR) (by kernel_rfl) (by kernel_rfl)
 ·exact Gr (envS hR) (by kernel_rfl) (by kernel_rfl)
 ·exact Gt (BC hR) (by kernel_rfl) (by kernel_rfl) (by kernel_rfl) (by kernel_rfl) ⟨_,rfl,rfl,rfl⟩ ⟨⟨_,rfl,rfl,rfl⟩,⟨_,rfl,rfl,rfl⟩,trivial⟩
end
def seaSt(B:Bk)(E:Ev)(k1 k2 k3:Nat)(P:World->Prop):St:=⟨[(6,.int .i64 (B.now+1)),(4,.complex .f64 80 0),(3,.complex .f64 72 0),(2,.complex .f64 64 0)],(80,AZ Of 27)::(72,AZ (evL E) 31)::(64,AZ (EQ B k1 k2 k3) 27)::bkG B k1 k2 k3 P,88,0⟩
theorem sea_vc{B:Bk}{E:Ev}{k1 k2 k3:Nat}{P:World->Prop}(ht:B.svcs.length<=1000/\B.cps.length<=1000/\B.bts.length<=1000)(h0:0<=B.now)(h9:B.now<1000000)(hk1:B.svcs.length<=k1)(hk3:B.bts.length<=k3):vwr TT ΓS ΡS (Tryz.f17.body.getD .skip) (endS (AO B E) P) ⟨FD 0 [(⟨B,k1,k2,k3⟩:BP).v,.agg (evL E).toArray],bkG B k1 k2 k3 P,64,0⟩:=by
 obtain⟨kind,sv,nm,num,fl⟩:=E;intro v hv;have hv:v=B.now+1:=hv ⟨by show _<=B.now+1;omega,by show B.now+1<=_;omega⟩;subst hv;refine And.intro (λe1=>?_) (λe1=>?_)
 ·have hS:AO B ⟨kind,sv,nm,num,fl⟩=({Ca B (B.now+1) with now:=B.now+1},0):=if_pos e1
  rw[hS];refine⟨(⟨B,k1,k2,k3⟩,B.now+1),rfl,ht,?_⟩;rintro _ _ ⟨n,cp,hn,rfl,rfl⟩;have ht:=CT B (B.now+1) (Bw (B.now+1) B.cps).length;exact⟨.inl rfl,_,rfl,⟨{Ca B (B.now+1) with now:=B.now+1},0,176,2,_,_,_,_,_,_,_,_,_,rfl,⟨congrArg List.length ht.2.1.symm,hn,congrArg List.length ht.2.2.1.symm⟩,⟨rfl,(by show LeB [] _ (Ap _ _ _ _ (BQ B (B.now+1) (Bw (B.now+1) B.cps).length).svcs);rw[ht.2.1];exact .same _ _ rfl)⟩,⟨rfl,.same _ _ rfl⟩,⟨rfl,(by show LeB [] _ (Ap _ _ _ _ (BQ B (B.now+1) (Bw (B.now+1) B.cps).length).bts);rw[ht.2.2.1];exact .same _ _ rfl)⟩,λ_=>rfl,rfl⟩,rfl⟩
 refine And.intro (λe2=>?_) (λe2=>?_)
 ·have hS:AO B ⟨kind,sv,nm,num,fl⟩=({CB B sv (B.now+1) with now:=B.now+1},0):=(if_neg e1).trans (if_pos e2)
  rw[hS];refine⟨(⟨B,k1,k2,k3⟩,sv,B.now+1),rfl,⟨ht,hk1⟩,?_⟩;rintro _ _ ⟨n,cp,hn,rfl,rfl⟩;exact⟨.inl rfl,_,rfl,⟨{CB B sv (B.now+1) with now:=B.now+1},208,1,2,_,_,_,_,_,_,_,_,_,rfl,⟨hn,rfl,rfl⟩,⟨rfl,.same _ _ rfl⟩,⟨rfl,.same _ _ rfl⟩,⟨rfl,.same _ _ rfl⟩,λ_=>rfl,rfl⟩,rfl⟩
 refine And.intro (λe3=>?_) (λe3=>?_)
 ·have hS:AO B ⟨kind,sv,nm,num,fl⟩=Bm B nm num (B.now+1):=(if_neg e1).trans ((if_neg e2).trans (if_pos e3))
  refine⟨seaSt B ⟨kind,sv,nm,num,fl⟩ k1 k2 k3 P,(by refine⟨[],?_,?_,rfl,rfl,AG _⟩<;>repeat' (first|exact rfl|exact trivial|exact⟨_,rfl,.same _ _ rfl⟩|apply And.intro)),?_⟩;refine⟨(⟨B,k1,k2,k3⟩,nm,num),rfl,ht,?_⟩;rintro _ _ ⟨rfl,k,rfl,hk⟩;have hk:Idx (cpQ nm num) B.cps k:=hk;rw[cpQ_isC]at hk;rcases Mq hk with⟨rfl,ha⟩|⟨j,c,rfl,hj,ha⟩
  ·have hG:AO B ⟨kind,sv,nm,num,fl⟩=(B,3):=by rw[hS];unfold Bm;rw[ha]
   rw[hG];refine And.intro (λ_=>?_) (λh=>absurd (show(-1:Int)<0 by decide) h);exact⟨.inl rfl,_,rfl,⟨B,0,1,2,_,_,_,_,_,_,_,_,_,rfl,⟨rfl,rfl,rfl⟩,⟨rfl,.same _ _ rfl⟩,⟨rfl,.same _ _ rfl⟩,⟨rfl,.same _ _ rfl⟩,λh=>(nomatch h),rfl⟩,rfl⟩
  ·have hlj:=(AC hj).1
   refine And.intro (λh=>absurd h (by show ¬(j:Int)<0;omega)) (λ_=>?_);refine And.intro (by omega) (And.intro (by show(j:Int)<(B.cps.length:Int);omega) (And.intro (AG _) (And.intro (by show(j:Int).toNat<B.cps.length;omega) (λc' hc=>?_))));have hc:B.cps[(j:Int).toNat]?=some c':=hc;rw[Int.toNat_natCast,hj]at hc;cases hc;have hbad:c.state≠3->c.state≠2->AO B ⟨kind,sv,nm,num,fl⟩=(B,3):=λs3 s2=>by rw[hS];unfold Bm;rw[ha];exact if_neg λh=>h.elim s3 s2
   refine And.intro (λs3=>?_) (λs3=>?_)
   ·refine And.intro (by omega) (And.intro (by show(j:Int)<(B.cps.length:Int);omega) (And.intro (AG _) (And.intro (by show(j:Int).toNat<B.cps.length;omega) (λc' hc=>?_))))
    have hc:B.cps[(j:Int).toNat]?=some c':=hc;rw[Int.toNat_natCast,hj]at hc;cases hc;refine And.intro (λs2=>?_) (λs2=>?_)
    ·rw[hbad s3 s2]
     exact⟨.inl rfl,_,rfl,⟨B,0,1,2,_,_,_,_,_,_,_,_,_,rfl,⟨rfl,rfl,rfl⟩,⟨rfl,.same _ _ rfl⟩,⟨rfl,.same _ _ rfl⟩,⟨rfl,.same _ _ rfl⟩,λh=>(nomatch h),rfl⟩,rfl⟩
    ·have hset:LeB [] (G8 (G8 (Ap 49 7 k2 cpL B.cps) (j:Int).toNat 4 [.int .i64 4]) (j:Int).toNat 2 [.int .i64 (B.now+1)]) (Ap 49 7 k2 cpL (B.cps.set j {c with state:=4,version:=B.now+1})):=by
      rw[Int.toNat_natCast];have f1:=BL (ρ:=[]) (o:=4) (vs:=[.int .i64 4]) (x':={c with state:=4}) (.same _ _ rfl:LeB [] (Ap 49 7 k2 cpL B.cps) _) hj rfl;have f2:=BL (o:=2) (vs:=[.int .i64 (B.now+1)]) (a:=j) (x:={c with state:=4}) (x':={c with state:=4,version:=B.now+1}) f1 (by rw[List.getElem?_set,if_pos rfl,if_pos hlj]) rfl;rw[List.set_set]at f2;exact f2
     have hG:AO B ⟨kind,sv,nm,num,fl⟩=({B with now:=B.now+1,cps:=B.cps.set j {c with state:=4,version:=B.now+1}},0):=by rw[hS];unfold Bm;rw[ha];exact if_pos (.inr (Classical.not_not.1 s2))
     rw[hG];refine And.intro (by omega) (And.intro (by show(j:Int)<(B.cps.length:Int);omega) (And.intro (AG _) (And.intro (by show(j:Int).toNat<B.cps.length;omega) (And.intro (λ_ _ _=>trivial) ?_))));refine And.intro (by omega) (And.intro (by show(j:Int)<(B.cps.length:Int);omega) (And.intro (AG _) (And.intro (by show(j:Int).toNat<B.cps.length;omega) (And.intro (λ_ _ _=>trivial) ?_))));exact⟨.inl rfl,_,rfl,⟨{B with now:=B.now+1,cps:=B.cps.set j {c with state:=4,version:=B.now+1}},0,1,2,_,_,_,_,_,_,_,_,_,rfl,⟨rfl,(List.length_set ..).symm,rfl⟩,⟨rfl,.same _ _ rfl⟩,⟨rfl,hset⟩,⟨rfl,.same _ _ rfl⟩,λ_=>rfl,rfl⟩,rfl⟩
   ·have hset:LeB [] (G8 (G8 (Ap 49 7 k2 cpL B.cps) (j:Int).toNat 4 [.int .i64 4]) (j:Int).toNat 2 [.int .i64 (B.now+1)]) (Ap 49 7 k2 cpL (B.cps.set j {c with state:=4,version:=B.now+1})):=by
     rw[Int.toNat_natCast];have f1:=BL (ρ:=[]) (o:=4) (vs:=[.int .i64 4]) (x':={c with state:=4}) (.same _ _ rfl:LeB [] (Ap 49 7 k2 cpL B.cps) _) hj rfl;have f2:=BL (o:=2) (vs:=[.int .i64 (B.now+1)]) (a:=j) (x:={c with state:=4}) (x':={c with state:=4,version:=B.now+1}) f1 (by rw[List.getElem?_set,if_pos rfl,if_pos hlj]) rfl;rw[List.set_set]at f2;exact f2
    have hG:AO B ⟨kind,sv,nm,num,fl⟩=({B with now:=B.now+1,cps:=B.cps.set j {c with state:=4,version:=B.now+1}},0):=by rw[hS];unfold Bm;rw[ha];exact if_pos (.inl (Classical.not_not.1 s3))
    rw[hG];refine And.intro (by omega) (And.intro (by show(j:Int)<(B.cps.length:Int);omega) (And.intro (AG _) (And.intro (by show(j:Int).toNat<B.cps.length;omega) (And.intro (λ_ _ _=>trivial) ?_))));refine And.intro (by omega) (And.intro (by show(j:Int)<(B.cps.length:Int);omega) (And.intro (AG _) (And.intro (by show(j:Int).toNat<B.cps.length;omega) (And.intro (λ_ _ _=>trivial) ?_))));exact⟨.inl rfl,_,rfl,⟨{B with now:=B.now+1,cps:=B.cps.set j {c with state:=4,version:=B.now+1}},0,1,2,_,_,_,_,_,_,_,_,_,rfl,⟨rfl,(List.length_set ..).symm,rfl⟩,⟨rfl,.same _ _ rfl⟩,⟨rfl,hset⟩,⟨rfl,.same _ _ rfl⟩,λ_=>rfl,rfl⟩,rfl⟩
 refine And.intro (λe4=>?_) (λe4=>?_)
 ·have hS:AO B ⟨kind,sv,nm,num,fl⟩=sinkB B nm (B.now+1):=(if_neg e1).trans ((if_neg e2).trans ((if_neg e3).trans (if_pos e4)))
  refine⟨seaSt B ⟨kind,sv,nm,num,fl⟩ k1 k2 k3 P,(by refine⟨[],?_,?_,rfl,rfl,AG _⟩<;>repeat' (first|exact rfl|exact trivial|exact⟨_,rfl,.same _ _ rfl⟩|apply And.intro)),?_⟩;refine⟨(⟨B,k1,k2,k3⟩,nm),rfl,ht,?_⟩;rintro _ _ ⟨rfl,k,rfl,hk⟩;have hk:Idx (λs:Bt=>nmB s.name nm) B.bts k:=hk;rcases Mq hk with⟨rfl,ha⟩|⟨j,c,rfl,hj,ha⟩
  ·have hG:AO B ⟨kind,sv,nm,num,fl⟩=(B,3):=by rw[hS];unfold sinkB;rw[show Bn (λt:Bt=>t.name.toList==nm.toList) B.bts=none from ha]
   rw[hG];refine And.intro (λ_=>?_) (λh=>absurd (show(-1:Int)<0 by decide) h);exact⟨.inl rfl,_,rfl,⟨B,0,1,2,_,_,_,_,_,_,_,_,_,rfl,⟨rfl,rfl,rfl⟩,⟨rfl,.same _ _ rfl⟩,⟨rfl,.same _ _ rfl⟩,⟨rfl,.same _ _ rfl⟩,λh=>(nomatch h),rfl⟩,rfl⟩
  ·have hlj:=(AC hj).1
   have hG:AO B ⟨kind,sv,nm,num,fl⟩=({B with now:=B.now+1,bts:=B.bts.take j++B.bts.drop (j+1),cps:=B.cps.filter λc=>!(c.berth.toList==nm.toList)},0):=by rw[hS];unfold sinkB;rw[show Bn (λt:Bt=>t.name.toList==nm.toList) B.bts=some (j,c) from ha]
   rw[hG];obtain⟨_,hl2,hl3⟩:=ht;refine And.intro (λh=>absurd h (by show ¬(j:Int)<0;omega)) (λ_=>?_);refine⟨[2],λ_=>And.intro (by omega) (And.intro (by show(j:Int)<=(k3:Int);omega) (And.intro (by show(j:Int).toNat<=B.bts.length;omega) ?_))⟩;intro y hy;have hy:y=((j+1:Nat):Int):=by have:=hy ⟨by show _<=(j:Int)+1;omega,by show(j:Int)+1<=_;omega⟩;omega
   subst hy;refine And.intro (by omega) (And.intro (by show((j+1:Nat):Int)<=(B.bts.length:Int);omega) (And.intro (AG _) (And.intro hk3 ?_)));refine And.intro (AG _) (And.intro (by show 0+(j:Int).toNat<=1000000000;omega) (And.intro (λ_ _ _ _=>⟨rfl,rfl⟩) (λd1=>?_)));refine And.intro (AG _) (And.intro (by show 0+(j:Int).toNat+(B.bts.length - ((j+1:Nat):Int).toNat)<=1000000000;omega) (And.intro (λ_ _ _ _=>⟨rfl,rfl⟩) (λd2=>?_)))
   have hdel:∀ρ,LeB ρ (Eu (Eu (Dw 51 2 []) (DX (BZ 51 2 btL B.bts) 0 (j:Int).toNat) (j:Int).toNat d1) (DX (BZ 51 2 btL B.bts) ((j+1:Nat):Int).toNat (B.bts.length - ((j+1:Nat):Int).toNat)) (B.bts.length - ((j+1:Nat):Int).toNat) d2) (Ap 51 2 d2 btL (B.bts.take j++B.bts.drop (j+1))):=fun ρ=>by
    rw[Int.toNat_natCast,Int.toNat_natCast];exact Nv (by omega)
   have hnb:0+(j:Int).toNat+(B.bts.length - ((j+1:Nat):Int).toNat)=(B.bts.take j++B.bts.drop (j+1)).length:=by rw[List.length_append,List.length_take,List.length_drop];omega
   refine⟨λn s=>∃(i k cp:Nat) (L:List Cp),i<=B.cps.length/\n=B.cps.length - i/\L=((B.cps.take i).filter λc=>!(c.berth.toList==nm.toList))/\k=L.length/\s=⟨[(10,.int .i64 i),(9,.iface 96 (.slice none k cp)),(6,.int .i64 (B.now+1)),(4,.complex .f64 80 0),(3,.complex .f64 72 0),(2,.complex .f64 64 0)],(96,Ap 49 7 cp cpL L)::(104,Ap 51 2 d2 btL (B.bts.take j++B.bts.drop (j+1)))::(80,AZ Of 27)::(72,AZ (evL ⟨kind,sv,nm,num,fl⟩) 31)::(64,AZ [.int .i64 B.now,.iface 0 (.slice none B.svcs.length k1),.iface 1 (.slice none B.cps.length k2),.iface 104 (.slice none (0+(j:Int).toNat+(B.bts.length - ((j+1:Nat):Int).toNat)) d2)] 27)::(0,Ap 29 13 k1 svL B.svcs)::(1,Ap 49 7 k2 cpL B.cps)::(3,frB P)::[],200,0⟩,B.cps.length,⟨_,(by refine⟨[(104,256),(96,376)],?_,?_,rfl,rfl,AG _⟩<;>repeat' (first|exact rfl|exact trivial|exact⟨Dw 49 7 [],rfl,FX (f:=cpL) []⟩|exact⟨_,rfl,hdel _⟩|exact⟨_,rfl,.same _ _ rfl⟩|exact⟨_,rfl,Cs rfl⟩|apply And.intro)),0,0,0,[],by omega,by omega,rfl,rfl,rfl⟩,?_⟩;rintro n _ ⟨i,k,cp,L,hi,rfl,hL,hk',rfl⟩
   have hkl:k<=1000:=by
    rw[hk',hL];exact AH (List.length_filter_le _ _) (by rw[List.length_take];omega)
   refine And.intro (λhlt=>?_) (λhlt=>?_)
   ·have hlt:(i:Int)<(B.cps.length:Int):=hlt
    refine And.intro (by omega) (And.intro hlt (And.intro (AG _) (And.intro (by show(i:Int).toNat<B.cps.length;omega) (λcc hc=>?_))));have hc:B.cps[(i:Int).toNat]?=some cc:=hc;rw[Int.toNat_natCast]at hc;have hsu:((B.cps.take (i+1)).filter λc=>!(c.berth.toList==nm.toList))=L++[cc].filter λc=>!(c.berth.toList==nm.toList):=by rw[List.take_add_one,hc,List.filter_append,hL];rfl
    have nxt:∀y:Int,(inR ((i:Int)+1)->y=i+1)->y=((i+1:Nat):Int):=λy hy=>by have:=hy ⟨by omega,by omega⟩;omega
    refine And.intro (λhe=>?_) (λhe=>?_)
    ·refine And.intro (by omega) (And.intro hlt (And.intro (AG _) (And.intro (by show(i:Int).toNat<B.cps.length;omega) (λc2 hc2=>?_))))
     have hc2:B.cps[(i:Int).toNat]?=some c2:=hc2;rw[Int.toNat_natCast,hc]at hc2;cases hc2;refine And.intro hk' (And.intro rfl (And.intro (AG _) (And.intro (by show k+1<=1000000000;omega) (λc'=>?_))));intro y hy;obtain rfl:=nxt y hy;refine⟨B.cps.length - (i+1),by omega,_,?_,i+1,k+1,c',L++[cc],by omega,rfl,by rw[hsu];simp only[List.filter,show(!(cc.berth.toList==nm.toList))=true from he],by rw[hk'];simp,rfl⟩;refine⟨[(96,368)],?_,?_,rfl,rfl,AG _⟩<;>repeat' (first|exact rfl|exact trivial|exact⟨_,rfl,DO (f:=cpL) L cc⟩|exact⟨_,rfl,.same _ _ rfl⟩|apply And.intro)
    ·intro y hy
     obtain rfl:=nxt y hy;exact⟨B.cps.length - (i+1),by omega,_,(by refine⟨[],?_,?_,rfl,rfl,AG _⟩<;>repeat' (first|exact rfl|exact trivial|exact⟨_,rfl,.same _ _ rfl⟩|apply And.intro)),i+1,k,cp,L,by omega,rfl,by rw[hsu];simp only[List.filter,show(!(cc.berth.toList==nm.toList))=false from he,List.append_nil],hk',rfl⟩
   ·have hlt:¬(i:Int)<(B.cps.length:Int):=hlt
    obtain rfl:i=B.cps.length:=by omega
    rw[List.take_length]at hL;subst hL;exact⟨.inl rfl,_,rfl,⟨{B with now:=B.now+1,bts:=B.bts.take j++B.bts.drop (j+1),cps:=B.cps.filter λc=>!(c.berth.toList==nm.toList)},0,96,104,_,_,_,_,_,_,_,_,_,rfl,⟨rfl,hk',hnb⟩,⟨rfl,.same _ _ rfl⟩,⟨rfl,.same _ _ rfl⟩,⟨rfl,.same _ _ rfl⟩,λ_=>rfl,rfl⟩,rfl⟩
 refine And.intro (λe5=>?_) (λe5=>?_)
 ·have hS:AO B ⟨kind,sv,nm,num,fl⟩=({CC B nm fl with now:=B.now+1},0):=(if_neg e1).trans ((if_neg e2).trans ((if_neg e3).trans ((if_neg e4).trans (if_pos e5))))
  rw[hS];refine And.intro (λhf=>?_) (λhf=>?_)
  ·obtain rfl:fl=true:=hf
   refine⟨(⟨B,k1,k2,k3⟩,nm,true),rfl,⟨ht,hk3⟩,?_⟩;rintro _ _ ⟨n,cp,hn,rfl,rfl⟩;exact⟨.inl rfl,_,rfl,⟨{CC B nm true with now:=B.now+1},0,1,264,_,_,_,_,_,_,_,_,_,rfl,⟨rfl,rfl,hn⟩,⟨rfl,.same _ _ rfl⟩,⟨rfl,.same _ _ rfl⟩,⟨rfl,.same _ _ rfl⟩,λ_=>rfl,rfl⟩,rfl⟩
  ·obtain rfl:fl=false:=hf
   refine⟨(⟨B,k1,k2,k3⟩,nm,false),rfl,⟨ht,hk3⟩,?_⟩;rintro _ _ ⟨n,cp,hn,rfl,rfl⟩;exact⟨.inl rfl,_,rfl,⟨{CC B nm false with now:=B.now+1},0,1,264,_,_,_,_,_,_,_,_,_,rfl,⟨rfl,rfl,hn⟩,⟨rfl,.same _ _ rfl⟩,⟨rfl,.same _ _ rfl⟩,⟨rfl,.same _ _ rfl⟩,λ_=>rfl,rfl⟩,rfl⟩
 refine And.intro (λe6=>?_) (λe6=>?_)
 ·have hS:AO B ⟨kind,sv,nm,num,fl⟩=Bb B nm num (B.now+1):=(if_neg e1).trans ((if_neg e2).trans ((if_neg e3).trans ((if_neg e4).trans ((if_neg e5).trans (if_pos e6)))))
  refine⟨seaSt B ⟨kind,sv,nm,num,fl⟩ k1 k2 k3 P,(by refine⟨[],?_,?_,rfl,rfl,AG _⟩<;>repeat' (first|exact rfl|exact trivial|exact⟨_,rfl,.same _ _ rfl⟩|apply And.intro)),?_⟩;refine⟨(⟨B,k1,k2,k3⟩,nm),rfl,ht,?_⟩;rintro _ _ ⟨rfl,k,rfl,hk⟩;have hk:Idx (λs:Svc=>nmB s.name nm) B.svcs k:=hk;rcases Mq hk with⟨rfl,ha⟩|⟨j,c,rfl,hj,ha⟩
  ·have hG:AO B ⟨kind,sv,nm,num,fl⟩=(B,3):=by rw[hS];unfold Bb;rw[show Bn (λt:Svc=>t.name.toList==nm.toList) B.svcs=none from ha]
   rw[hG];refine And.intro (λ_=>?_) (λh=>absurd (show(-1:Int)<0 by decide) h);exact⟨.inl rfl,_,rfl,⟨B,0,1,2,_,_,_,_,_,_,_,_,_,rfl,⟨rfl,rfl,rfl⟩,⟨rfl,.same _ _ rfl⟩,⟨rfl,.same _ _ rfl⟩,⟨rfl,.same _ _ rfl⟩,λh=>(nomatch h),rfl⟩,rfl⟩
  ·have hlj:=(AC hj).1
   refine And.intro (λh=>absurd h (by show ¬(j:Int)<0;omega)) (λ_=>?_);refine And.intro (by omega) (And.intro (by show(j:Int)<(B.svcs.length:Int);omega) (And.intro (AG _) (And.intro (by show(j:Int).toNat<B.svcs.length;omega) (λc' hc=>?_))));have hc:B.svcs[(j:Int).toNat]?=some c':=hc;rw[Int.toNat_natCast,hj]at hc;cases hc;refine And.intro (λs0=>?_) (λs0=>?_)
   ·have hG:AO B ⟨kind,sv,nm,num,fl⟩=(B,3):=by rw[hS];unfold Bb;rw[show Bn (λt:Svc=>t.name.toList==nm.toList) B.svcs=some (j,c) from ha];exact if_pos s0
    rw[hG];exact⟨.inl rfl,_,rfl,⟨B,0,1,2,_,_,_,_,_,_,_,_,_,rfl,⟨rfl,rfl,rfl⟩,⟨rfl,.same _ _ rfl⟩,⟨rfl,.same _ _ rfl⟩,⟨rfl,.same _ _ rfl⟩,λh=>(nomatch h),rfl⟩,rfl⟩
   ·have hset:LeB [] (G8 (G8 (Ap 29 13 k1 svL B.svcs) (j:Int).toNat 11 [.int .i64 num]) (j:Int).toNat 1 [.int .i64 (B.now+1)]) (Ap 29 13 k1 svL (B.svcs.set j {c with load:=num,version:=B.now+1})):=by
     rw[Int.toNat_natCast];have f1:=BL (ρ:=[]) (o:=11) (vs:=[.int .i64 num]) (x':={c with load:=num}) (.same _ _ rfl:LeB [] (Ap 29 13 k1 svL B.svcs) _) hj rfl;have f2:=BL (o:=1) (vs:=[.int .i64 (B.now+1)]) (a:=j) (x:={c with load:=num}) (x':={c with load:=num,version:=B.now+1}) f1 (by rw[List.getElem?_set,if_pos rfl,if_pos hlj]) rfl;rw[List.set_set]at f2;exact f2
    have hG:AO B ⟨kind,sv,nm,num,fl⟩=({B with now:=B.now+1,svcs:=B.svcs.set j {c with load:=num,version:=B.now+1}},0):=by rw[hS];unfold Bb;rw[show Bn (λt:Svc=>t.name.toList==nm.toList) B.svcs=some (j,c) from ha];exact if_neg s0
    rw[hG];refine And.intro (by omega) (And.intro (by show(j:Int)<(B.svcs.length:Int);omega) (And.intro (AG _) (And.intro (by show(j:Int).toNat<B.svcs.length;omega) (And.intro (λ_ _ _=>trivial) ?_))));refine And.intro (by omega) (And.intro (by show(j:Int)<(B.svcs.length:Int);omega) (And.intro (AG _) (And.intro (by show(j:Int).toNat<B.svcs.length;omega) (And.intro (λ_ _ _=>trivial) ?_))));exact⟨.inl rfl,_,rfl,⟨{B with now:=B.now+1,svcs:=B.svcs.set j {c with load:=num,version:=B.now+1}},0,1,2,_,_,_,_,_,_,_,_,_,rfl,⟨(List.length_set ..).symm,rfl,rfl⟩,⟨rfl,hset⟩,⟨rfl,.same _ _ rfl⟩,⟨rfl,.same _ _ rfl⟩,λ_=>rfl,rfl⟩,rfl⟩
 ·have hG:AO B ⟨kind,sv,nm,num,fl⟩=(B,4):=(if_neg e1).trans ((if_neg e2).trans ((if_neg e3).trans ((if_neg e4).trans ((if_neg e5).trans (if_neg e6)))))
  rw[hG];exact⟨.inl rfl,_,rfl,⟨B,0,1,2,_,_,_,_,_,_,_,_,_,rfl,⟨rfl,rfl,rfl⟩,⟨rfl,.same _ _ rfl⟩,⟨rfl,.same _ _ rfl⟩,⟨rfl,.same _ _ rfl⟩,λh=>(nomatch h),rfl⟩,rfl⟩
structure KeepBut(g1 g2 g3:Nat)(w w':World):Prop where
 os:w'.os=w.os
 tape:w'.tape=w.tape
 output:w'.output=w.output
 size:w.heap.size<=w'.heap.size
 block:∀q,q<w.heap.size->q≠g1->q≠g2->q≠g3->w'.heap[q]?=w.heap[q]?
theorem KeepBut.below{g1 g2 g3 N:Nat}{w w':World}(h:KeepBut g1 g2 g3 w w')(h1:N<=g1)(h2:N<=g2)(h3:N<=g3)(hN:N<=w.heap.size):Below N w w':=⟨h.os,h.tape,h.output,h.size,λq hq=>h.block q (by omega) (by omega) (by omega) (by omega)⟩
def SeaR(g1 g2 g3:Nat)(w:World)(B:Bk)(E:Ev)(e:Ending)(w':World):Prop:=∃(q:Int) (b1 b2 b3:Nat) (m1 d1 m2 d2 m3 d3:Nat),
 e=.returned (.tuple #[.agg #[.int .i64 q,.slice (some ⟨b1,0,none⟩) m1 d1,.slice (some ⟨b2,0,none⟩) m2 d2,.slice (some ⟨b3,0,none⟩) m3 d3],.int .i64 (AO B E).2])/\
 ((AO B E).2=0->q=(AO B E).1.now/\m1=(AO B E).1.svcs.length/\m2=(AO B E).1.cps.length/\m3=(AO B E).1.bts.length/\RowIs w' 29 13 b1 m1 d1 (AY (AO B E).1.svcs)/\RowIs w' 49 7 b2 m2 d2 (As (AO B E).1.cps)/\RowIs w' 51 2 b3 m3 d3 (Ak (AO B E).1.bts))/\KeepBut g1 g2 g3 w w'
theorem valid_tn{B:Bk}(h:AX B=true):B.svcs.length<=1000/\B.cps.length<=1000/\B.bts.length<=1000:=by
 unfold AX at h;simp only[Bool.and_eq_true,decide_eq_true_eq]at h;omega
theorem MW{RD:(Nat->Prop)->World->Nat->Nat->Prop}{w0 w:World}{G:Gh}{q i ty sz cp n:Nat}{b:VB}{X:Type}{f:X->List Value}{l:List X}(h:Hold RD w0 G w q i b)(hb:LeB [] b (Ap ty sz cp f l))(hn:n=l.length):∃g,G.α i=some ⟨g,0,none⟩/\RowIs w ty sz g n cp (l.map f).flatten:=by
 obtain⟨g,els,e1,_,_,_,r1,r2',r3,r4⟩:=h.k3 hb.kd;obtain⟨n1,n2⟩:=hb.n3 rfl;refine⟨g,e1,?_⟩;have hk:RowK G.Z w g (Ap ty sz cp f l) els:=⟨r1.trans n1,λel hel=>(by rw[<-hb.sz];exact r2' el hel),(by rw[<-hb.ty,<-hb.sz,<-n1,<-n2];exact r3),λj el hj=>⟨λk hk=>(r4 j el hj).1 k (hb.Q j (by have:=(AC hj).1;rw[r1,n1]at this;exact this) k hk),λ_ _=>trivial⟩⟩;rw[hn,<-hk.known];exact hk.2.2.1
theorem Kb{RD:(Nat->Prop)->World->Nat->Nat->Prop}{w0 w:World}{G:Gh}{q i ty sz cp g:Nat}{X:Type}{f:X->List Value}{l:List X}(hf:∀x,(f x).length=sz/\∀v∈f x,v.oneCell'=true/\∀β,r0 β v=v)(h0:w0.heap.size=0)(hα:G.α i=some ⟨g,0,none⟩)(hZ:¬G.Z g)(hR:¬G.RB g)(h:RowIs w ty sz g l.length cp (l.map f).flatten):Hold RD w0 G w q i (Ap ty sz cp f l):=
 ⟨λh=>(nomatch h),λh=>(nomatch h),λh=>(nomatch h),λ_=>⟨g,_,hα,by omega,hZ,hR,RowK.of hf h⟩,λh=>(nomatch h),.inr (.inr (.inr (.inl rfl)))⟩
theorem OV(B:Bk)(E:Ev)(N g1 g2 g3 k1 k2 k3:Nat)(w:World)(ht:B.svcs.length<=1000/\B.cps.length<=1000/\B.bts.length<=1000)(hn0:0<=B.now)(hn9:B.now<1000000)(hN0:0<N)(hN:N<=w.heap.size)(hB:BkRow w N g1 g2 g3 k1 k2 k3 B):
  Calls Tryz.prog 17 #[.agg #[.int .i64 B.now,.slice (some ⟨g1,0,none⟩) B.svcs.length k1,.slice (some ⟨g2,0,none⟩) B.cps.length k2,.slice (some ⟨g3,0,none⟩) B.bts.length k3],.agg #[.int .i64 E.kind,.string E.service.name,.int .i64 E.service.version,.bool E.service.gone,.int .i64 E.service.image,.int .i64 E.service.want,.int .i64 E.service.down,.int .i64 E.service.over,.int .i64 E.service.next,.int .i64 E.service.per,.int .i64 E.service.least,.int .i64 E.service.most,.int .i64 E.service.load,.int .i64 E.service.cool,.string E.name,.int .i64 E.number,.bool E.flag]] w (SeaR g1 g2 g3 w B E):=by
 have hc1:∀l:List Svc,AY l=(l.map svL).flatten:=λl=>List.flatMap_def
 have hc2:∀l:List Cp,As l=(l.map cpL).flatten:=λl=>List.flatMap_def
 have hc3:∀l:List Bt,Ak l=(l.map btL).flatten:=λl=>List.flatMap_def
 have h12:=hB.ne12;have h13:=hB.ne13;have h23:=hB.ne23;have l1:=hB.n1;have l2:=hB.n2;have l3:=hB.n3;obtain⟨G,hG⟩:∃G:Gh,G=⟨λi=>match i with|0=>some ⟨g1,0,none⟩|1=>some ⟨g2,0,none⟩|2=>some ⟨g3,0,none⟩|3=>some ⟨0,0,none⟩|_=>none,λk=>k<w.heap.size/\k≠g1/\k≠g2/\k≠g3,λ_=>False⟩:=⟨_,rfl⟩
 have hm:∀i b,lk (bkG B k1 k2 k3 λW=>∀k,k<w.heap.size/\k≠g1/\k≠g2/\k≠g3->W.heap[k]?=w.heap[k]?) i=some b->i<64/\Hold Mh {w with heap:=#[]} G w 0 i b/\Clo (bkG B k1 k2 k3 λW=>∀k,k<w.heap.size/\k≠g1/\k≠g2/\k≠g3->W.heap[k]?=w.heap[k]?) (b.cs.flatMap Cj):=λi b hb=>by
  have hi:=A9 _ _ _ hb;simp only[bkG,List.mem_cons,List.not_mem_nil,or_false,Prod.mk.injEq]at hi;rcases hi with⟨rfl,rfl⟩|⟨rfl,rfl⟩|⟨rfl,rfl⟩|⟨rfl,rfl⟩<;>refine⟨by decide,?_,λ_ h=>(nomatch h)⟩
  ·exact Kb KX rfl (congrFun (congrArg Gh.α hG) _) (by rw[hG];exact λh=>h.2.1 rfl) (by rw[hG];exact λh=>h) (hc1 _▸hB.svcs)
  ·exact Kb Ky rfl (congrFun (congrArg Gh.α hG) _) (by rw[hG];exact λh=>h.2.2.1 rfl) (by rw[hG];exact λh=>h) (hc2 _▸hB.cps)
  ·exact Kb K2 rfl (congrFun (congrArg Gh.α hG) _) (by rw[hG];exact λh=>h.2.2.2 rfl) (by rw[hG];exact λh=>h) (hc3 _▸hB.bts)
  ·refine⟨λh=>(nomatch h),λ_ j _=>⟨0,0,[],congrFun (congrArg Gh.α hG) _,by rw[hG];exact⟨by omega,by omega,by omega,by omega⟩,λk hk=>hk.elim,λx v hx=>(nomatch hx),λW hW k hk=>hW k (by rw[hG];exact hk)⟩,λh=>(nomatch h),λh=>(nomatch h),λh=>(nomatch h),.inr (.inl rfl)⟩
 have hdis:∀i b j c,lk (bkG B k1 k2 k3 λW=>∀k,k<w.heap.size/\k≠g1/\k≠g2/\k≠g3->W.heap[k]?=w.heap[k]?) i=some b->lk (bkG B k1 k2 k3 λW=>∀k,k<w.heap.size/\k≠g1/\k≠g2/\k≠g3->W.heap[k]?=w.heap[k]?) j=some c->DE b->DE c->i≠j->G.α i≠G.α j:=λi b j c hb hc ob oc hne=>by
  have hi:=A9 _ _ _ hb;have hj:=A9 _ _ _ hc;simp only[bkG,List.mem_cons,List.not_mem_nil,or_false,Prod.mk.injEq]at hi hj;rw[hG];rcases hi with⟨rfl,rfl⟩|⟨rfl,rfl⟩|⟨rfl,rfl⟩|⟨rfl,rfl⟩<;>rcases hj with⟨rfl,rfl⟩|⟨rfl,rfl⟩|⟨rfl,rfl⟩|⟨rfl,rfl⟩<;>first|exact absurd rfl hne|(rcases ob with h|h<;>cases h;done)|(rcases oc with h|h<;>cases h;done)|(intro e;cases e;contradiction)
 have hcall:=NL (R0:=⟨λ_=>False,λ_=>none,0⟩) (G:=G) (w:=w) (w0:={w with heap:=#[]}) (c0:=64) (q0:=0) (vs:=[(⟨B,k1,k2,k3⟩:BP).v,.agg (evL E).toArray]) (envS Ep) Tryz.func17 (c:=Tryz.f17.body.getD .skip) (by kernel_rfl) (CR (envS Ep) (by kernel_rfl) _ (specS Ep) (by kernel_rfl)) (show 2<=_ from AD rfl) (Post:=λv m _=>NS (AO B E) (λW=>∀k,k<w.heap.size/\k≠g1/\k≠g2/\k≠g3->W.heap[k]?=w.heap[k]?) v m) (by rw[<-Gz];exact sea_vc ht hn0 hn9 hB.svcs.2.1 hB.bts.2.1) hm hdis (DQ rfl) (AG _) (λk hk=>by rw[hG]at hk ⊢;exact⟨hk.1,λh=>h⟩) (λk hk=>by rw[hG]at hk;exact hk.elim) (λk hk=>by rw[hG]at hk;exact hk.elim) ⟨rfl,rfl,rfl,AI _,λk hk=>absurd hk (Nat.not_lt_zero _)⟩;have ha:(List.map (r2 G.α) [(⟨B,k1,k2,k3⟩:BP).v,.agg (evL E).toArray]).toArray=#[.agg #[.int .i64 B.now,.slice (some ⟨g1,0,none⟩) B.svcs.length k1,.slice (some ⟨g2,0,none⟩) B.cps.length k2,.slice (some ⟨g3,0,none⟩) B.bts.length k3],.agg (evL E).toArray]:=by rw[hG];simp[BP.v,evL,r2,r1,r0]
 rw[ha]at hcall;refine hcall.mono ?_;rintro e w' ⟨_,m,q,G',⟨X,i1,i2,i3,n1,n2,n3,d1,d2,d3,b1,b2,b3,rfl,⟨m1,m2,m3⟩,⟨q1,r1'⟩,⟨q2,r2'⟩,⟨q3,r3'⟩,hX,hfr⟩,rfl,hH,_,hst,hz,_,_,hsz⟩;obtain⟨y1,e1,s1⟩:=MW (hH _ _ q1) r1' m1;obtain⟨y2,e2,s2⟩:=MW (hH _ _ q2) r2' m2;obtain⟨y3,e3,s3⟩:=MW (hH _ _ q3) r3' m3;obtain⟨_,_,_,_,_,_,hE⟩:=(hH _ _ hfr).k1 rfl 0 Nat.one_pos;refine⟨X.now,y1,y2,y3,n1,d1,n2,d2,n3,d3,by simp[r2,r1,r0,e1,e2,e3],λh=>?_,⟨hst.os,hst.tape,hst.output,hsz,λk h1 h2 h3 h4=>hE.2 w' (λ_ _=>rfl) k ⟨h1,h2,h3,h4⟩⟩⟩;rw[<-hX h,hc1,hc2,hc3];exact⟨rfl,m1,m2,m3,s1,s2,s3⟩
end
end Go.Proofs.YtbceafpodamnfaaGreat
