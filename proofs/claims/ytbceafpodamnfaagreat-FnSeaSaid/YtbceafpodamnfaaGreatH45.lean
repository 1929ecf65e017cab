import Derived.Test.YtbceafpodamnfaaGreatH44
set_option linter.all false
namespace Go.Proofs.YtbceafpodamnfaaGreat
open Go.RowKit Go.Sort
theorem Le(v n:Int)(X:Bk)(i:Nat):BO v {X with now:=n} i={BO v X i with now:=n}:=by
 unfold BO
 cases h:X.cps[i]? with
 |none=>simp only[h]
 |some c=>
  simp only[h];rw[show Bo {X with now:=n}=Bo X from rfl]
  split<;>rfl
theorem Il(B:Bk)(v:Int):∀k,BQ (aft B) v k={BQ B v k with now:=B.now+1}
 |0=>rfl
 |k+1=>by rw[Cz,Cz,Il B v k,Le]
theorem GN{B:Bk}{E:Ev}(hv:AX B=true)(hn:B.now<1000000)(hcode:(IE (aft B) E).2=if(AO B E).2=0 then(if AX (AO B E).1=true then 0 else 2) else(AO B E).2)(hbk:(AO B E).2=0->(IE (aft B) E).1=(AO B E).1):CX B E=BM B E:=by
 have hh:DZ (aft B) E=IE (aft B) E:=by unfold DZ;rw[if_neg (by show ¬(1000000<B.now+1);omega)]
 unfold CX BM GM;rw[if_pos hv,if_pos hv,if_neg (by omega:¬1000000<=B.now),hh,hcode]
 by_cases hs:(AO B E).2=0
 ·rw[if_pos hs,if_pos hs]
  by_cases hw:AX (AO B E).1=true
  ·rw[if_pos hw,if_pos hw,if_pos rfl,hbk hs]
  ·rw[if_neg hw,if_neg hw,if_neg (by decide)]
 ·rw[if_neg hs,if_neg hs,if_neg hs]
theorem prog_sea(B:Bk)(E:Ev):CX B E=BM B E:=by
 cases hv:AX B
 ·unfold CX BM;rw[hv];rfl
 have hV:=validB_iff.1 hv;obtain⟨hn0,hn1⟩:=inB_iff.1 hV.now
 by_cases hn:B.now<1000000
 ·obtain⟨kd,sv,nm,num,fl⟩:=E
  by_cases h1:kd=1
  ·subst h1
   refine GN hv hn ?_ ?_
   ·show(0:Int)=if(0:Int)=0 then(if AX {Ca B (B.now+1) with now:=B.now+1}=true then 0 else 2) else 0
    rw[if_pos rfl,if_pos (MM hV hn)]
   ·intro _
    show Ca (aft B) (B.now+1)={Ca B (B.now+1) with now:=B.now+1};exact Il B (B.now+1) _
  by_cases h2:kd=2
  ·subst h2;exact GN hv hn rfl λ_=>rfl
  by_cases h3:kd=3
  ·subst h3
   have e:IE (aft B) ⟨3,sv,nm,num,fl⟩=Bm (aft B) nm num (B.now+1):=rfl;have e2:AO B ⟨3,sv,nm,num,fl⟩=Bm B nm num (B.now+1):=rfl
   have ec:(Bm (aft B) nm num (B.now+1)).2=(Bm B nm num (B.now+1)).2/\((Bm B nm num (B.now+1)).2=0->(Bm (aft B) nm num (B.now+1)).1=(Bm B nm num (B.now+1)).1):=by
    unfold Bm;rw[show(aft B).cps=B.cps from rfl]
    cases Bn (isC nm num) B.cps with
    |none=>exact⟨rfl,λh=>by cases h⟩
    |some p=>
     obtain⟨i,c⟩:=p;simp only;split
     ·exact⟨rfl,λ_=>rfl⟩
     ·exact⟨rfl,λh=>by cases h⟩
   refine GN hv hn ?_ ?_
   ·rw[e,e2,ec.1]
    by_cases hz:(Bm B nm num (B.now+1)).2=0
    ·rw[if_pos hz,if_pos (Mz hV hn nm num hz),hz]
    ·rw[if_neg hz]
   ·rw[e,e2];exact ec.2
  by_cases h4:kd=4
  ·subst h4
   have e:IE (aft B) ⟨4,sv,nm,num,fl⟩=sinkB (aft B) nm (B.now+1):=rfl;have e2:AO B ⟨4,sv,nm,num,fl⟩=sinkB B nm (B.now+1):=rfl
   have ec:(sinkB (aft B) nm (B.now+1)).2=(sinkB B nm (B.now+1)).2/\((sinkB B nm (B.now+1)).2=0->(sinkB (aft B) nm (B.now+1)).1=(sinkB B nm (B.now+1)).1):=by
    unfold sinkB;rw[show(aft B).bts=B.bts from rfl]
    cases Bn (λt:Bt=>t.name.toList==nm.toList) B.bts with
    |none=>exact⟨rfl,λh=>by cases h⟩
    |some p=>exact⟨rfl,λ_=>rfl⟩
   refine GN hv hn ?_ ?_
   ·rw[e,e2,ec.1]
    by_cases hz:(sinkB B nm (B.now+1)).2=0
    ·rw[if_pos hz,if_pos (MT hV hn nm hz),hz]
    ·rw[if_neg hz]
   ·rw[e,e2];exact ec.2
  by_cases h5:kd=5
  ·subst h5;exact GN hv hn rfl λ_=>rfl
  by_cases h6:kd=6
  ·subst h6
   have e:IE (aft B) ⟨6,sv,nm,num,fl⟩=((Bb (aft B) nm num (B.now+1)).1,CZ (Bb (aft B) nm num (B.now+1))):=rfl;have e2:AO B ⟨6,sv,nm,num,fl⟩=Bb B nm num (B.now+1):=rfl
   have ec:(Bb (aft B) nm num (B.now+1)).2=(Bb B nm num (B.now+1)).2/\((Bb B nm num (B.now+1)).2=0->(Bb (aft B) nm num (B.now+1)).1=(Bb B nm num (B.now+1)).1):=by
    unfold Bb;rw[show(aft B).svcs=B.svcs from rfl]
    cases Bn (λs:Svc=>s.name.toList==nm.toList) B.svcs with
    |none=>exact⟨rfl,λh=>by cases h⟩
    |some p=>
     obtain⟨i,c⟩:=p;simp only;split
     ·exact⟨rfl,λh=>by cases h⟩
     ·exact⟨rfl,λ_=>rfl⟩
   refine GN hv hn ?_ ?_
   ·rw[e,e2]
    show CZ (Bb (aft B) nm num (B.now+1))=_;unfold CZ;rw[ec.1]
    by_cases hz:(Bb B nm num (B.now+1)).2=0
    ·rw[if_pos hz,if_pos hz,ec.2 hz]
    ·rw[if_neg hz,if_neg hz]
   ·rw[e,e2];exact ec.2
  have e:IE (aft B) ⟨kd,sv,nm,num,fl⟩=(aft B,4):=by unfold IE;simp only[if_neg h1,if_neg h2,if_neg h3,if_neg h4,if_neg h5,if_neg h6]
  have e2:AO B ⟨kd,sv,nm,num,fl⟩=(B,4):=by unfold AO;simp only[if_neg h1,if_neg h2,if_neg h3,if_neg h4,if_neg h5,if_neg h6]
  refine GN hv hn ?_ ?_
  ·rw[e,e2];rfl
  ·rw[e2];intro h;cases h
 ·have hh:DZ (aft B) E=(aft B,if inB E.kind 1 6=true then 7 else 4):=by unfold DZ;rw[if_pos (by show 1000000<B.now+1;omega)]
  unfold CX BM GM;rw[if_pos hv,if_pos hv,if_pos (by omega:1000000<=B.now),hh];simp only;rw[if_neg (by split<;>decide)]
theorem Valid.fits{B:Bk}(hV:Valid B)(hZ:B.sized):0<=B.now/\B.now<=1000000/\Fit (aft B)/\Cf (aft B)/\wfC (aft B)/\GQ (aft B):=by
 obtain⟨hn0,hn1⟩:=inB_iff.1 hV.now;refine⟨hn0,hn1,⟨AH hV.ls (by omega),AH hV.lc (by omega),AH hV.lb (by omega),hZ,KV (B:=B) hV.svcs,LE (B:=B) hV.bts,λi j s t hij hs ht=>Fj (Fe hV.svcs) j i s t hij hs ht,λi j s t hij hs ht=>Gu (Fe hV.bts) j i s t hij hs ht⟩,⟨λt ht e=>?_,λc hc hs=>?_,LE (B:=B) hV.bts⟩,λc hc=>?_,uniqC_of (B:=B) hV.cps⟩
 ·have h:=hV.btName ht
  rw[e]at h;exact absurd h (by decide)
 ·have h:=(Fa (Hk hV.cps hc)).2
  unfold Bq at h;rw[if_pos hs]at h;refine same_nm.1 ?_;rw[List.isEmpty_iff.1 h,ByteArray.toList_eq];rfl
 ·obtain⟨s,hs,hok⟩:=hV.svc hc
  have hi:=hV.svcIn (Jn hs);have h0:=hi.next0;have h1:=hi.next1;unfold FF at hok;simp only[Bool.and_eq_true,inB_iff]at hok;have e:wrap64 (s.next - 1)=s.next - 1:=by unfold wrap64;omega
  rw[e]at hok;exact WalkArith.wf_i64 (by omega)
theorem Lt(B:Bk)(E:Ev)(a1 a2 a3:Option Addr)(c1 c2 c3:Nat)(w:World)(hS:B.small)(hZ:B.sized)(hwf:AX B=true->(Lit.int .i64 E.number).wf=true)(hE:E.sized)(hB:BkAt w a1 a2 a3 B):
  Calls Tryz.prog 5 #[.agg #[.int .i64 B.now,.slice a1 B.svcs.length c1,.slice a2 B.cps.length c2,.slice a3 B.bts.length c3],.agg #[.int .i64 E.kind,.string E.service.name,.int .i64 E.service.version,.bool E.service.gone,.int .i64 E.service.image,.int .i64 E.service.want,.int .i64 E.service.down,.int .i64 E.service.over,.int .i64 E.service.next,.int .i64 E.service.per,.int .i64 E.service.least,.int .i64 E.service.most,.int .i64 E.service.load,.int .i64 E.service.cool,.string E.name,.int .i64 E.number,.bool E.flag]] w λe w'=>∃(x1 x2 x3:Option Addr) (p1 p2 p3:Nat),e=.returned (.tuple #[.agg #[.int .i64 (BM B E).1.now,.slice x1 (BM B E).1.svcs.length p1,.slice x2 (BM B E).1.cps.length p2,.slice x3 (BM B E).1.bts.length p3],.int .i64 (BM B E).2])/\BkOf w' w.heap.size (BM B E).1 x1 x2 x3 p1 p2 p3/\Below w.heap.size w w':=by
 have h:=Mp B E a1 a2 a3 c1 c2 c3 w hS hZ (λhv=>(validB_iff.1 hv).fits hZ) hwf hE hB;rw[prog_sea]at h;exact h
end Go.Proofs.YtbceafpodamnfaaGreat
