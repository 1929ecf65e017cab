import Derived.Test.YtbceafpodamnfaaGreatDoorG10
set_option linter.all false
set_option maxHeartbeats 4000000
set_option maxRecDepth 100000
namespace Go.Proofs.YtbceafpodamnfaaGreatDoor
open Go.RowKit
theorem Idx.lt{X:Type}{p:X->Bool}{l:List X}{k:Int}(h:Idx p l k): -1<=k/\k<l.length:=by
 rcases h with⟨rfl,_⟩|⟨j,x,rfl,F,_⟩
 ·omega
 ·have:=(AC F).1;omega
theorem Idx.yes{X:Type}{p:X->Bool}{l:List X}{k:Int}(h:Idx p l k)(H:∃x∈l,p x=true):0<=k/\k<l.length:=by
 rcases h with⟨rfl,J⟩|⟨j,x,rfl,M,_⟩
 ·obtain⟨x,hx,F⟩:=H;rw[J x hx]at F;cases F
 ·have:=(AC M).1;omega
theorem Idx.pos{X:Type}{p:X->Bool}{l:List X}{k:Int}(h:Idx p l k)(M:¬k<0):∃x∈l,p x=true:=by
 rcases h with⟨rfl,J⟩|⟨j,x,rfl,H,F⟩
 ·omega
 ·exact⟨x,AE H,F.1⟩
section
variable {RD:(Nat->Prop)->World->Nat->Nat->Prop}
abbrev ctCount:Ct:=ctV (λp:BP × ByteArray=>[p.1.v,.string p.2]) (λp=>p.1.m) (λp=>p.1.tn) λ_ v es=>es=[]/\∃a b c d e,v=.agg #[.int .i64 a,.int .i64 b,.int .i64 c,.int .i64 d,.int .i64 e]
theorem PG(W:B9 RD):B7 Tryz.prog RD 103 0 ctCount:=by
 refine Ci (AZ (Aw W) (f:=118) (by kernel_rfl) (DN W)) Tryz.func103 (by kernel_rfl) (by kernel_rfl) (λ_=>rfl) Fw ?_;rintro⟨⟨B,c1,c2,c3⟩,nm⟩ ⟨Z,H,Y⟩;have H:B.ah.length<=1000:=H;refine⟨(⟨B,c1,c2,c3⟩,nm),rfl,⟨Z,H,Y⟩,?_⟩;rintro _ _ ⟨rfl,k,rfl,hk⟩;have hk:=hk.lt;have aa:k<B.af.length:=hk.2;refine⟨λn s=>∃(x a b c d e:Int),0<=x/\x<=B.ah.length/\n=B.ah.length - x.toNat/\s=⟨[(7,.int .i64 x),(6,.int .i64 k),(5,.complex .f64 88 0),(4,.complex .f64 72 0),(2,.complex .f64 64 0),(1,.string nm)],(88,AT [.int .i64 a,.int .i64 b,.int .i64 c,.int .i64 d,.int .i64 e] 83)::(72,AT [.int .i64 0,.int .i64 0,.int .i64 0,.int .i64 0,.int .i64 0] 83)::(64,AT (D5 B c1 c2 c3) 28)::bkM B,100,0⟩,B.ah.length,⟨_,(by refine⟨[],?_,?_,rfl,rfl,AG _⟩<;>repeat' (first|exact rfl|exact trivial|exact⟨_,rfl,.same _ _ rfl⟩|apply cW)),0,0,0,0,0,0,by omega,by omega,by omega,rfl⟩,?_⟩;rintro n _ ⟨x,a,b,c,d,e,h0,h1,rfl,rfl⟩;refine cW (λF=>?_) (λF=>?_)
 ·refine cW (λM=>?_) (λM=>?_)
  ·refine cW h0 (cW F (cW (AG _) ?_))
   intro y J
   repeat' (first|refine cW (λ_=>?_) (λ_=>?_)|refine cW (by omega) (cW (by omega) (cW (AG _) (λ_ _=>?_)))|(intro y J;replace J:=J ⟨by omega,by omega⟩;exact⟨B.ah.length - y.toNat,by omega,_,(by refine⟨[],?_,?_,rfl,rfl,AG _⟩<;>repeat' (first|exact rfl|exact trivial|exact⟨_,rfl,.same _ _ rfl⟩|apply cW)),y,_,_,_,_,_,by omega,by omega,rfl,rfl⟩)|refine λ_ _=>?_)
  ·exact⟨.inl rfl,_,rfl,⟨_,_,[],⟨rfl,_,_,_,_,_,rfl⟩,rfl,trivial,rfl,rfl,trivial⟩,rfl⟩
 ·exact⟨.inl rfl,_,rfl,⟨_,_,[],⟨rfl,_,_,_,_,_,rfl⟩,rfl,trivial,rfl,rfl,trivial⟩,rfl⟩
abbrev ctMay:Ct:=ctV (λp:BP × ByteArray × Int=>[p.1.v,.string p.2.1,.int .i64 p.2.2]) (λp=>p.1.m) (λp=>p.1.tn/\∃s∈p.1.B.af,nmB s.name p.2.1=true) λp v es=>es=[]/\∃b,v=.bool b/\(b=true->∃c∈p.1.B.ah,cpQ p.2.1 p.2.2 c=true)
theorem may_ct(Y:B9 RD):B7 Tryz.prog RD 123 0 ctMay:=by
 refine Ci (AZ (AZ (AZ (Aw Y) (f:=118) (by kernel_rfl) (DN Y)) (f:=122) (by kernel_rfl) (KT Y)) (f:=103) (by kernel_rfl) (PG Y)) Tryz.func123 (by kernel_rfl) (by kernel_rfl) (λ_=>rfl) Ig ?_;rintro⟨⟨B,c1,c2,c3⟩,nm,H⟩ ⟨Z,J⟩;have J:∃s∈B.af,nmB s.name nm=true:=J;refine⟨(⟨B,c1,c2,c3⟩,nm,H),rfl,Z,?_⟩;rintro _ _ ⟨rfl,k,rfl,hk⟩;have W:=hk.lt;have key:∀(r:Bool) m,(r=true->∃c∈B.ah,cpQ nm H c=true)->Ep (λv es=>es=[]/\∃b,v=.bool b/\(b=true->∃c∈B.ah,cpQ nm H c=true)) (.bool r) m 0:=λr m h=>⟨_,_,[],⟨rfl,r,rfl,h⟩,rfl,trivial,rfl,rfl,trivial⟩
 refine cW (λh=>?_) (λh=>?_)
 ·exact⟨.inl rfl,_,rfl,key false _ (λh=>nomatch h),rfl⟩
 have hp:=hk.pos h;refine cW (by omega) (cW W.2 (cW (AG _) (λx hx=>?_)));refine cW (λM=>?_) (λM=>?_)
 ·exact⟨.inl rfl,_,rfl,key false _ (λh=>nomatch h),rfl⟩
 refine⟨(⟨B,c1,c2,c3⟩,nm),rfl,Z,?_⟩;rintro _ _ ⟨rfl,k2,rfl,F⟩;have F:=F.yes J;refine cW F.1 (cW F.2 (cW (AG _) (λs hs=>?_)));refine cW (by omega) (cW W.2 (cW (AG _) (λx' af=>?_)));refine cW (λM=>?_) (λM=>?_)
 ·exact⟨.inl rfl,_,rfl,key true _ λ_=>hp,rfl⟩
 refine cW (λM=>?_) (λM=>?_)
 ·exact⟨.inl rfl,_,rfl,key true _ λ_=>hp,rfl⟩
 refine⟨(⟨B,c1,c2,c3⟩,nm),rfl,Z,?_⟩;rintro _ _ ⟨rfl,a,b,c,d,e,rfl⟩;intro n1 _ n2 _;refine cW (λM=>?_) (λM=>?_)
 ·exact⟨.inl rfl,_,rfl,key true _ λ_=>hp,rfl⟩
 ·exact⟨.inl rfl,_,rfl,key false _ (λh=>nomatch h),rfl⟩
end
end Go.Proofs.YtbceafpodamnfaaGreatDoor
