import Derived.Test.YtbceafpodamnfaaGreatH08
import Derived.Test.YtbceafpodamnfaaGreatH16
set_option linter.all false
set_option maxHeartbeats 8000000
set_option maxRecDepth 100000
namespace Go.Proofs.YtbceafpodamnfaaGreat
section
open Go Go.RowKit
theorem Fr{B:Bk}{c1 c2 c3:Nat}{A:AP}{k v now:Int}{L:List Svc}{l:List Cp}{b3:List Bt}{s:Svc}{k1 k2 k3:Nat}(hok:okBk B)(hk0:0<=k)(hk1:k<L.length)(hL:L.length<=1000)(hll:l.length=B.cps.length)(hc0:0<=A.cr)(hc:A.cr<=20)(hb:b3.length<=1000)(hA:A.nm.size<=maxLen)(hs:s.name.size<=maxLen)(hLs:∀s∈L,s.name.size<=maxLen)(hls:∀c∈l,okC c)(hbs:∀b∈b3,b.name.size<=maxLen)
  {z:St} (hE:Ent z ⟨(2,.complex .f64 64 0)::tA k v,(64,AZ (EQ B c1 c2 c3) 27)::(mA A now L l b3 s k1 l.length k2 k3++bkM B),600,0⟩):vwr TT Γ4 Ρ4 (sndN 14 (Tryz.f100.body.getD .skip)) endA z:=by
 have hB:B.cps.length<=1000:=hok.1.2.1;refine⟨_,hE,?_⟩;refine And.intro (λ_=>?_) (λ_=>?_)
 ·refine And.intro (λ_=>?_) (λ_=>?_)
  ·exact⟨.inl rfl,_,rfl,⟨B,0,1,2,_,_,_,c1,c2,c3,_,_,_,_,rfl,⟨rfl,rfl,rfl⟩,⟨rfl,.row⟩,⟨rfl,.row⟩,⟨rfl,.row⟩,hok⟩,rfl⟩
  ·refine⟨(⟨⟨now,L,l,b3⟩,k1,k2,k3⟩,A.nm),rfl,⟨hL,by show l.length<=1000;omega,hb⟩,?_⟩
   rintro _ _ ⟨rfl,a1,a2,a3,a4,a5,rfl⟩;refine λ_ _ _ _=>And.intro (λ_=>?_) (λ_=>?_)
   ·exact⟨.inl rfl,_,rfl,⟨B,0,1,2,_,_,_,c1,c2,c3,_,_,_,_,rfl,⟨rfl,rfl,rfl⟩,⟨rfl,.row⟩,⟨rfl,.row⟩,⟨rfl,.row⟩,hok⟩,rfl⟩
   ·refine And.intro (λ_=>?_) (λ_=>?_)
    ·refine And.intro (λ_=>?_) (λ_=>?_)
     ·exact⟨.inl rfl,_,rfl,⟨B,0,1,2,_,_,_,c1,c2,c3,_,_,_,_,rfl,⟨rfl,rfl,rfl⟩,⟨rfl,.row⟩,⟨rfl,.row⟩,⟨rfl,.row⟩,hok⟩,rfl⟩
     ·refine⟨(A.wa,s.least,s.most),rfl,trivial,?_⟩
      rintro _ _ ⟨rfl,r,rfl,_⟩;cases r
      ·exact⟨.inl rfl,_,rfl,⟨B,0,1,2,_,_,_,c1,c2,c3,_,_,_,_,rfl,⟨rfl,rfl,rfl⟩,⟨rfl,.row⟩,⟨rfl,.row⟩,⟨rfl,.row⟩,hok⟩,rfl⟩
      ·refine λn hn=>?_
       have hn:=hn ⟨by omega,by omega⟩;refine And.intro (λ_=>?_) (λh200=>?_)
       ·exact⟨.inl rfl,_,rfl,⟨B,0,1,2,_,_,_,c1,c2,c3,_,_,_,_,rfl,⟨rfl,rfl,rfl⟩,⟨rfl,.row⟩,⟨rfl,.row⟩,⟨rfl,.row⟩,hok⟩,rfl⟩
       ·refine λ_ _=>And.intro (λ_=>?_) (λ_=>?_)
        ·exact⟨.inl rfl,_,rfl,⟨B,0,1,2,_,_,_,c1,c2,c3,_,_,_,_,rfl,⟨rfl,rfl,rfl⟩,⟨rfl,.row⟩,⟨rfl,.row⟩,⟨rfl,.row⟩,hok⟩,rfl⟩
        ·refine And.intro (λ_=>?_) (λ_=>?_)
         ·exact⟨.inl rfl,_,rfl,⟨B,0,1,2,_,_,_,c1,c2,c3,_,_,_,_,rfl,⟨rfl,rfl,rfl⟩,⟨rfl,.row⟩,⟨rfl,.row⟩,⟨rfl,.row⟩,hok⟩,rfl⟩
         ·exact Et hk0 hk1 hL (by omega) hc hb hA hs hLs hls hbs (by refine⟨[],?_,?_,rfl,rfl,AG _⟩<;>repeat' (first|exact rfl|exact trivial|exact⟨_,rfl,.same _ _ rfl⟩|apply And.intro))
    ·refine λn hn=>?_
     have hn:=hn ⟨by omega,by omega⟩;refine And.intro (λ_=>?_) (λh200=>?_)
     ·exact⟨.inl rfl,_,rfl,⟨B,0,1,2,_,_,_,c1,c2,c3,_,_,_,_,rfl,⟨rfl,rfl,rfl⟩,⟨rfl,.row⟩,⟨rfl,.row⟩,⟨rfl,.row⟩,hok⟩,rfl⟩
     ·refine λ_ _=>And.intro (λ_=>?_) (λ_=>?_)
      ·exact⟨.inl rfl,_,rfl,⟨B,0,1,2,_,_,_,c1,c2,c3,_,_,_,_,rfl,⟨rfl,rfl,rfl⟩,⟨rfl,.row⟩,⟨rfl,.row⟩,⟨rfl,.row⟩,hok⟩,rfl⟩
      ·refine And.intro (λ_=>?_) (λ_=>?_)
       ·exact⟨.inl rfl,_,rfl,⟨B,0,1,2,_,_,_,c1,c2,c3,_,_,_,_,rfl,⟨rfl,rfl,rfl⟩,⟨rfl,.row⟩,⟨rfl,.row⟩,⟨rfl,.row⟩,hok⟩,rfl⟩
       ·exact Et hk0 hk1 hL (by omega) hc hb hA hs hLs hls hbs (by refine⟨[],?_,?_,rfl,rfl,AG _⟩<;>repeat' (first|exact rfl|exact trivial|exact⟨_,rfl,.same _ _ rfl⟩|apply And.intro))
 ·refine And.intro (λ_=>?_) (λ_=>?_)
  ·refine And.intro (λ_=>?_) (λ_=>?_)
   ·exact⟨.inl rfl,_,rfl,⟨B,0,1,2,_,_,_,c1,c2,c3,_,_,_,_,rfl,⟨rfl,rfl,rfl⟩,⟨rfl,.row⟩,⟨rfl,.row⟩,⟨rfl,.row⟩,hok⟩,rfl⟩
   ·refine⟨(A.wa,s.least,s.most),rfl,trivial,?_⟩
    rintro _ _ ⟨rfl,r,rfl,_⟩;cases r
    ·exact⟨.inl rfl,_,rfl,⟨B,0,1,2,_,_,_,c1,c2,c3,_,_,_,_,rfl,⟨rfl,rfl,rfl⟩,⟨rfl,.row⟩,⟨rfl,.row⟩,⟨rfl,.row⟩,hok⟩,rfl⟩
    ·refine λn hn=>?_
     have hn:=hn ⟨by omega,by omega⟩;refine And.intro (λ_=>?_) (λh200=>?_)
     ·exact⟨.inl rfl,_,rfl,⟨B,0,1,2,_,_,_,c1,c2,c3,_,_,_,_,rfl,⟨rfl,rfl,rfl⟩,⟨rfl,.row⟩,⟨rfl,.row⟩,⟨rfl,.row⟩,hok⟩,rfl⟩
     ·refine λ_ _=>And.intro (λ_=>?_) (λ_=>?_)
      ·exact⟨.inl rfl,_,rfl,⟨B,0,1,2,_,_,_,c1,c2,c3,_,_,_,_,rfl,⟨rfl,rfl,rfl⟩,⟨rfl,.row⟩,⟨rfl,.row⟩,⟨rfl,.row⟩,hok⟩,rfl⟩
      ·refine And.intro (λ_=>?_) (λ_=>?_)
       ·exact⟨.inl rfl,_,rfl,⟨B,0,1,2,_,_,_,c1,c2,c3,_,_,_,_,rfl,⟨rfl,rfl,rfl⟩,⟨rfl,.row⟩,⟨rfl,.row⟩,⟨rfl,.row⟩,hok⟩,rfl⟩
       ·exact Et hk0 hk1 hL (by omega) hc hb hA hs hLs hls hbs (by refine⟨[],?_,?_,rfl,rfl,AG _⟩<;>repeat' (first|exact rfl|exact trivial|exact⟨_,rfl,.same _ _ rfl⟩|apply And.intro))
  ·refine λn hn=>?_
   have hn:=hn ⟨by omega,by omega⟩;refine And.intro (λ_=>?_) (λh200=>?_)
   ·exact⟨.inl rfl,_,rfl,⟨B,0,1,2,_,_,_,c1,c2,c3,_,_,_,_,rfl,⟨rfl,rfl,rfl⟩,⟨rfl,.row⟩,⟨rfl,.row⟩,⟨rfl,.row⟩,hok⟩,rfl⟩
   ·refine λ_ _=>And.intro (λ_=>?_) (λ_=>?_)
    ·exact⟨.inl rfl,_,rfl,⟨B,0,1,2,_,_,_,c1,c2,c3,_,_,_,_,rfl,⟨rfl,rfl,rfl⟩,⟨rfl,.row⟩,⟨rfl,.row⟩,⟨rfl,.row⟩,hok⟩,rfl⟩
    ·refine And.intro (λ_=>?_) (λ_=>?_)
     ·exact⟨.inl rfl,_,rfl,⟨B,0,1,2,_,_,_,c1,c2,c3,_,_,_,_,rfl,⟨rfl,rfl,rfl⟩,⟨rfl,.row⟩,⟨rfl,.row⟩,⟨rfl,.row⟩,hok⟩,rfl⟩
     ·exact Et hk0 hk1 hL (by omega) hc hb hA hs hLs hls hbs (by refine⟨[],?_,?_,rfl,rfl,AG _⟩<;>repeat' (first|exact rfl|exact trivial|exact⟨_,rfl,.same _ _ rfl⟩|apply And.intro))
theorem nm_size{a b:ByteArray}(h:nmB a b=true):a.size=b.size:=by
 have:=congrArg List.length (eq_of_beq h);rw[ByteArray.toList_eq,ByteArray.toList_eq]at this;exact this
theorem apply_vc{B:Bk}{c1 c2 c3:Nat}{A:AP}(hok:okBk B):vwr TT Γ4 Ρ4 (Tryz.f100.body.getD .skip) endA ⟨FD 0 [(⟨B,c1,c2,c3⟩:BP).v,A.v 3],bkM B++[(3,BZ 163 2 enL A.en)],64,0⟩:=by
 have htn:B.svcs.length<=1000/\B.cps.length<=1000/\B.bts.length<=1000:=hok.1;refine⟨A,rfl,trivial,?_⟩;rintro _ _ ⟨rfl,r,rfl,hr⟩
 cases r with
 |false=>exact⟨.inl rfl,_,rfl,⟨B,0,1,2,_,_,_,c1,c2,c3,_,_,_,_,rfl,⟨rfl,rfl,rfl⟩,⟨rfl,.row⟩,⟨rfl,.row⟩,⟨rfl,.row⟩,hok⟩,rfl⟩
 |true=>
 have hr:0<=A.cr/\A.cr<=20/\A.en.length<=200:=hr rfl;refine⟨(⟨B,c1,c2,c3⟩,A.nm),rfl,htn,?_⟩;rintro _ _ ⟨rfl,k,rfl,hk⟩;refine And.intro (λh=>?_) (λh=>?_)
 ·exact⟨.inl rfl,_,rfl,⟨B,0,1,2,_,_,_,c1,c2,c3,_,_,_,_,rfl,⟨rfl,rfl,rfl⟩,⟨rfl,.row⟩,⟨rfl,.row⟩,⟨rfl,.row⟩,hok⟩,rfl⟩
 have hsv:∃s∈B.svcs,nmB s.name A.nm=true:=hk.pos h;have hkk:=hk.yes hsv;have hk0:0<=k:=hkk.1;have hk1:k<B.svcs.length:=hkk.2
 have hAn:A.nm.size<=maxLen:=by
  obtain⟨s,hs,hn⟩:=hsv;rw[<-nm_size hn];exact hok.2.1 s hs
 clear h hk hkk;refine⟨λn z=>∃x:Int,0<=x/\x<=A.en.length/\n=A.en.length - x.toNat/\(∀(j:Nat) e,(j:Int)<x->A.en[j]?=some e->∃c∈B.cps,cpQ A.nm e.number c=true)/\z=⟨[(7,.int .i64 x),(6,.int .i64 k),(3,.complex .f64 72 0),(2,.complex .f64 64 0),(4,.complex .f64 80 0)],(80,AZ [.int .i64 0,.slice none 0 0,.slice none 0 0,.slice none 0 0] 27)::(72,AZ (A.cs 3) 134)::(64,AZ (EQ B c1 c2 c3) 27)::(bkM B++[(3,BZ 163 2 enL A.en)]),150,0⟩,A.en.length,⟨_,(by refine⟨[],?_,?_,rfl,rfl,AG _⟩<;>repeat' (first|exact rfl|exact trivial|exact⟨_,rfl,.same _ _ rfl⟩|apply And.intro)),0,by omega,by omega,by omega,(λ_ _ h=>by omega),rfl⟩,?_⟩;rintro n _ ⟨x,h0,h1,rfl,hno,rfl⟩;refine And.intro (λhlt=>?_) (λhlt=>?_)
 ·have hlt:x<A.en.length:=hlt
  refine And.intro h0 (And.intro hlt (And.intro (AG _) (λe he=>?_)));refine⟨(⟨B,c1,c2,c3⟩,A.nm,e.number),rfl,htn,?_⟩;rintro _ _ ⟨rfl,j,rfl,hj⟩;refine And.intro (λh=>?_) (λh=>?_)
  ·exact⟨.inl rfl,_,rfl,⟨B,0,1,2,_,_,_,c1,c2,c3,_,_,_,_,rfl,⟨rfl,rfl,rfl⟩,⟨rfl,.row⟩,⟨rfl,.row⟩,⟨rfl,.row⟩,hok⟩,rfl⟩
  ·refine λy hy=>?_
   have hy:=hy ⟨by omega,by omega⟩
   exact⟨A.en.length - y.toNat,by omega,_,(by refine⟨[],?_,?_,rfl,rfl,AG _⟩<;>repeat' (first|exact rfl|exact trivial|exact⟨_,rfl,.same _ _ rfl⟩|apply And.intro)),y,by omega,by omega,rfl,(λi e' hi he'=>by
    by_cases hix:(i:Int)<x
    ·exact hno i e' hix he'
    ·have:i=x.toNat:=by omega
     rw[this,he]at he';cases he'
     exact hj.pos h),rfl⟩
 have hall:∀e∈A.en,∃c∈B.cps,cpQ A.nm e.number c=true:=λe he=>by
  obtain⟨j,hj⟩:=List.getElem?_of_mem he;have hlt:¬x<A.en.length:=hlt;have:=(AC hj).1;exact hno j e (by omega) hj
 clear hno hlt h0 h1;refine And.intro hk0 (And.intro hk1 (And.intro (AG _) (λs0 _=>?_)));refine And.intro (λ_=>?_) (λ_=>?_)
 ·exact⟨.inl rfl,_,rfl,⟨B,0,1,2,_,_,_,c1,c2,c3,_,_,_,_,rfl,⟨rfl,rfl,rfl⟩,⟨rfl,.row⟩,⟨rfl,.row⟩,⟨rfl,.row⟩,hok⟩,rfl⟩
 refine⟨λn z=>∃x:Int,0<=x/\x<=A.en.length/\n=A.en.length - x.toNat/\z=⟨[(8,.int .i64 x),(6,.int .i64 k),(3,.complex .f64 72 0),(2,.complex .f64 64 0),(4,.complex .f64 80 0)],(80,AZ [.int .i64 0,.slice none 0 0,.slice none 0 0,.slice none 0 0] 27)::(72,AZ (A.cs 3) 134)::(64,AZ (EQ B c1 c2 c3) 27)::(bkM B++[(3,BZ 163 2 enL A.en)]),400,0⟩,A.en.length,⟨_,(by refine⟨[],?_,?_,rfl,rfl,AG _⟩<;>repeat' (first|exact rfl|exact trivial|exact⟨_,rfl,.same _ _ rfl⟩|apply And.intro)),0,by omega,by omega,by omega,rfl⟩,?_⟩;rintro n _ ⟨x,h0,h1,rfl,rfl⟩;refine And.intro (λhlt=>?_) (λhlt=>?_)
 ·have hlt:x<A.en.length:=hlt
  refine And.intro h0 (And.intro hlt (And.intro (AG _) (λe he=>?_)));refine⟨(⟨B,c1,c2,c3⟩,A.nm,e.number),rfl,htn,?_⟩;rintro _ _ ⟨rfl,j,rfl,hj⟩;have hj:=hj.yes (hall e (AE he));refine And.intro hj.1 (And.intro hj.2 (And.intro (AG _) (λ_ _=>?_)));refine And.intro h0 (And.intro hlt (And.intro (AG _) (λ_ _=>?_)));refine And.intro (λh=>?_) (λh=>?_)
  ·exact⟨.inl rfl,_,rfl,⟨B,0,1,2,_,_,_,c1,c2,c3,_,_,_,_,rfl,⟨rfl,rfl,rfl⟩,⟨rfl,.row⟩,⟨rfl,.row⟩,⟨rfl,.row⟩,hok⟩,rfl⟩
  ·refine λy hy=>?_
   have hy:=hy ⟨by omega,by omega⟩;exact⟨A.en.length - y.toNat,by omega,_,(by refine⟨[],?_,?_,rfl,rfl,AG _⟩<;>repeat' (first|exact rfl|exact trivial|exact⟨_,rfl,.same _ _ rfl⟩|apply And.intro)),y,by omega,by omega,rfl,rfl⟩
 clear hlt h0 h1 hall;refine⟨⟨B,c1,c2,c3⟩,rfl,htn,?_⟩;rintro _ _ ⟨k1,k2,k3,rfl,rfl⟩;refine λv _=>?_
 refine⟨λn z=>∃(x:Int) (l:List Cp) (n2:Nat),0<=x/\x<=A.en.length/\n=A.en.length - x.toNat/\n2=l.length/\l.length=B.cps.length/\(∀c∈l,okC c)/\z=⟨[(11,.int .i64 x),(10,.int .i64 v),(9,.complex .f64 456 0),(6,.int .i64 k),(3,.complex .f64 72 0),(2,.complex .f64 64 0),(4,.complex .f64 80 0)],(456,AZ [.int .i64 B.now,.iface 448 (.slice none B.svcs.length k1),.iface 449 (.slice none n2 k2),.iface 450 (.slice none B.bts.length k3)] 27)::(448,Ap 29 13 k1 svL B.svcs)::(449,Ap 49 7 k2 cpL l)::(450,Ap 51 2 k3 btL B.bts)::(80,AZ [.int .i64 0,.slice none 0 0,.slice none 0 0,.slice none 0 0] 27)::(72,AZ (A.cs 3) 134)::(64,AZ (EQ B c1 c2 c3) 27)::(bkM B++[(3,BZ 163 2 enL A.en)]),480,0⟩,A.en.length,⟨_,(by refine⟨[],?_,?_,rfl,rfl,AG _⟩<;>repeat' (first|exact rfl|exact trivial|exact⟨_,rfl,.same _ _ rfl⟩|apply And.intro)),0,B.cps,_,by omega,by omega,by omega,rfl,rfl,hok.2.2.1,rfl⟩,?_⟩;rintro n _ ⟨x,l,_,h0,h1,rfl,rfl,hll,hlo,rfl⟩;refine And.intro (λhlt=>?_) (λhlt=>?_)
 ·have hlt:x<A.en.length:=hlt
  refine And.intro h0 (And.intro hlt (And.intro (AG _) (λe he=>?_)));refine⟨(⟨⟨B.now,B.svcs,l,B.bts⟩,k1,k2,k3⟩,A.nm,e.number),rfl,⟨⟨htn.1,by show l.length<=1000;omega,htn.2.2⟩,hsv⟩,?_⟩;rintro _ _ ⟨rfl,r,rfl,hm⟩
  cases r with
  |false=>exact⟨.inl rfl,_,rfl,⟨B,0,1,2,_,_,_,c1,c2,c3,_,_,_,_,rfl,⟨rfl,rfl,rfl⟩,⟨rfl,.row⟩,⟨rfl,.row⟩,⟨rfl,.row⟩,hok⟩,rfl⟩
  |true=>
  have hm:∃c∈l,cpQ A.nm e.number c=true:=hm rfl;refine And.intro h0 (And.intro hlt (And.intro (AG _) (λe' he'=>?_)));rw[he]at he';cases he';refine⟨(⟨⟨B.now,B.svcs,l,B.bts⟩,k1,k2,k3⟩,A.nm,e.number),rfl,⟨htn.1,by show l.length<=1000;omega,htn.2.2⟩,?_⟩;rintro _ _ ⟨rfl,j,rfl,hj⟩;have hj:=hj.yes hm;have j0:0<=j:=hj.1;have j1:j<l.length:=hj.2;obtain⟨c,hc⟩:∃c,l[j.toNat]?=some c:=⟨l[j.toNat]'(by omega),by simp⟩;refine And.intro j0 (And.intro j1 (And.intro (AG _) (And.intro (show j.toNat<l.length by omega) (And.intro (λ_ _ _=>trivial) ?_))));refine And.intro j0 (And.intro j1 (And.intro (AG _) (And.intro (show j.toNat<l.length by omega) (And.intro (λ_ _ _=>trivial) ?_))));refine λy hy=>?_
  have hy:=hy ⟨by omega,by omega⟩
  refine⟨A.en.length - y.toNat,by omega,_,?_,y,(l.set j.toNat {c with ending:=true}).set j.toNat {c with ending:=true,version:=v},l.length,by omega,by omega,rfl,by rw[List.length_set,List.length_set],by rw[List.length_set,List.length_set];exact hll,(λd hd=>by
   have hcc:=hlo c (AE hc);rcases List.mem_or_eq_of_mem_set hd with hd|hd
   ·rcases List.mem_or_eq_of_mem_set hd with hd|hd
    ·exact hlo d hd
    ·rw[hd];exact hcc
   ·rw[hd];exact hcc),rfl⟩
  have hc2:(l.set j.toNat {c with ending:=true})[j.toNat]?=some {c with ending:=true}:=by rw[List.getElem?_set,if_pos rfl,if_pos (by omega)]
  refine⟨[],?_,?_,rfl,rfl,AG _⟩<;>repeat' (first|exact rfl|exact trivial|exact⟨_,rfl,.same _ _ rfl⟩|exact⟨_,rfl,BL (BL (.same _ _ rfl) hc rfl) hc2 rfl⟩|apply And.intro)
 refine And.intro hk0 (And.intro hk1 (And.intro (AG _) (And.intro (show k.toNat<B.svcs.length by omega) (λs hs=>?_))));refine⟨(⟨B,c1,c2,c3⟩,A.nm),rfl,htn,?_⟩;rintro _ _ ⟨rfl,a1,a2,a3,a4,a5,rfl⟩;refine And.intro (λ_=>?_) (λ_=>?_)
 ·refine And.intro (λ_=>?_) (λ_=>?_)
  ·refine λ_ _=>And.intro (λ_=>?_) (λ_=>?_)
   ·exact⟨.inl rfl,_,rfl,⟨B,0,1,2,_,_,_,c1,c2,c3,_,_,_,_,rfl,⟨rfl,rfl,rfl⟩,⟨rfl,.row⟩,⟨rfl,.row⟩,⟨rfl,.row⟩,hok⟩,rfl⟩
   ·refine And.intro (λ_=>?_) (λ_=>?_)
    ·exact Fr (s:={s with want:=A.wa,cool:=A.co}) hok hk0 hk1 htn.1 hll hr.1 hr.2.1 htn.2.2 hAn (hok.2.1 s (AE hs)) hok.2.1 hlo hok.2.2.2 (by refine⟨[(500,560)],?_,?_,rfl,rfl,AG _⟩<;>repeat' (first|exact rfl|exact trivial|exact⟨_,rfl,.same _ _ rfl⟩|exact⟨_,rfl,Cs rfl⟩|apply And.intro))
    ·exact Fr (s:=s) hok hk0 hk1 htn.1 hll hr.1 hr.2.1 htn.2.2 hAn (hok.2.1 s (AE hs)) hok.2.1 hlo hok.2.2.2 (by refine⟨[(500,560)],?_,?_,rfl,rfl,AG _⟩<;>repeat' (first|exact rfl|exact trivial|exact⟨_,rfl,.same _ _ rfl⟩|exact⟨_,rfl,Cs rfl⟩|apply And.intro))
  ·exact⟨.inl rfl,_,rfl,⟨B,0,1,2,_,_,_,c1,c2,c3,_,_,_,_,rfl,⟨rfl,rfl,rfl⟩,⟨rfl,.row⟩,⟨rfl,.row⟩,⟨rfl,.row⟩,hok⟩,rfl⟩
 ·refine And.intro (λ_=>?_) (λ_=>?_)
  ·exact Fr (s:={s with want:=A.wa,cool:=A.co}) hok hk0 hk1 htn.1 hll hr.1 hr.2.1 htn.2.2 hAn (hok.2.1 s (AE hs)) hok.2.1 hlo hok.2.2.2 (by refine⟨[(500,560)],?_,?_,rfl,rfl,AG _⟩<;>repeat' (first|exact rfl|exact trivial|exact⟨_,rfl,.same _ _ rfl⟩|exact⟨_,rfl,Cs rfl⟩|apply And.intro))
  ·exact Fr (s:=s) hok hk0 hk1 htn.1 hll hr.1 hr.2.1 htn.2.2 hAn (hok.2.1 s (AE hs)) hok.2.1 hlo hok.2.2.2 (by refine⟨[(500,560)],?_,?_,rfl,rfl,AG _⟩<;>repeat' (first|exact rfl|exact trivial|exact⟨_,rfl,.same _ _ rfl⟩|exact⟨_,rfl,Cs rfl⟩|apply And.intro))
end
section
open Go Go.RowKit Go.Sort
theorem CD{w w':World}{k:Nat}{o:Obj}(hb:Below w.heap.size w w')(h:w.heap[k]?=some o):w'.heap[k]?=some o:=AK hb h (AB h).1
def apOf(A:Ac)(ce:Nat):AP:=⟨A.service,A.seen,A.create,A.want,A.cool,A.scale,A.ends,ce,A.drop⟩
def gh4(w:World)(a1 a2 a3 a4:Option Addr):Gh:=⟨λi=>match i with|0=>a1|1=>a2|2=>a3|3=>a4|_=>none,λk=>k<w.heap.size,λ_=>False⟩
theorem bk_in{w:World}{a1 a2 a3 a4:Option Addr}{B:Bk}{l:List En}(h:BkAt w a1 a2 a3 B)(hE:SlE w a4 l):∀i b,lk (bkM B++[(3,BZ 163 2 enL l)]) i=some b->i<64/\Hold Mh w (gh4 w a1 a2 a3 a4) w 0 i b/\¬DE b/\Clo (bkM B++[(3,BZ 163 2 enL l)]) (b.cs.flatMap Cj):=by
 intro i b hb;rw[Bc]at hb
 cases hl:lk (bkM B) i with
 |some b'=>
  rw[hl]at hb;cases hb;obtain⟨h1,h2,h3,h4⟩:=K6 (RD:=Mh) (q:=0) h i b hl
  have hk:b.kd=1/\b.cs=[]/\i<3:=by
   have hm:=A9 _ _ _ hl;simp only[bkM,List.mem_cons,List.not_mem_nil,or_false,Prod.mk.injEq]at hm;rcases hm with⟨rfl,rfl⟩|⟨rfl,rfl⟩|⟨rfl,rfl⟩<;>exact⟨rfl,rfl,by decide⟩
  refine⟨h1,⟨λh=>absurd (h.symm.trans hk.1) (by decide),λ_ j hj=>?_,λh=>absurd (h.symm.trans hk.1) (by decide),λh=>absurd (h.symm.trans hk.1) (by decide),λh=>absurd (h.symm.trans hk.1) (by decide),h2.kk⟩,h3,by rw[hk.2.1];exact λ_ h=>(nomatch h)⟩;obtain⟨g,o,el,e1,e2⟩:=h2.k1 hk.1 j hj;refine⟨g,o,el,?_,e2⟩;rw[<-e1]
  match i,hk.2.2 with
  |0,_=>rfl
  |1,_=>rfl
  |2,_=>rfl
 |none=>
  rw[hl]at hb;have hm:=A9 _ _ _ (show lk [(3,BZ 163 2 enL l)] i=some b from hb);cases List.mem_singleton.1 hm;refine⟨by decide,Fk (ao:=a4) rfl (λk hk=>hk) (λx=>rfl) λhne=>?_,(λh=>by rcases h with h|h<;>cases h),λ_ h=>(nomatch h)⟩;obtain⟨b,off,e,hlt,hat⟩:=hE hne;refine⟨b,off,e,hlt,λi x hx j v hv=>?_⟩;obtain⟨h0,h1⟩:=hat i x hx
  match j,hv with
  |0,hv=>rw[<-Option.some.inj hv];exact h0
  |1,hv=>rw[<-Option.some.inj hv];exact h1
  |k+2,hv=>cases hv
theorem Mm(B:Bk)(A:Ac)(a1 a2 a3:Option Addr)(c1 c2 c3:Nat)(ae:Option Addr)(ce:Nat)(w:World)(hok:okBk B)(hB:BkAt w a1 a2 a3 B)(hE:SlE w ae A.ends):
  Calls Tryz.prog 100 #[.agg #[.int .i64 B.now,.slice a1 B.svcs.length c1,.slice a2 B.cps.length c2,.slice a3 B.bts.length c3],.agg #[.string A.service,.int .i64 A.seen,.int .i64 A.create,.int .i64 A.want,.int .i64 A.cool,.bool A.scale,.slice ae A.ends.length ce,.bool A.drop]] w λe w'=>∃x1 x2 x3 d1 d2 d3 X c,e=.returned (.tuple #[.agg #[.int .i64 X.now,.slice x1 X.svcs.length d1,.slice x2 X.cps.length d2,.slice x3 X.bts.length d3],.int .i64 c])/\BkAt w' x1 x2 x3 X/\okBk X/\Below w.heap.size w w':=by
 have hcall:=vcalls (R0:=⟨λ_=>False,λ_=>none,0⟩) (G:=gh4 w a1 a2 a3 ae) (w:=w) (c0:=64) (q0:=0) (m0:=bkM B++[(3,BZ 163 2 enL A.ends)]) (vs:=[(⟨B,c1,c2,c3⟩:BP).v,(apOf A ce).v 3]) (env4 Ep) Tryz.func100 (c:=Tryz.f100.body.getD .skip) (by kernel_rfl) (CR (env4 Ep) (by kernel_rfl) _ (spec4 Ep) (by kernel_rfl)) (show 2<=_ from AD rfl) (Post:=λv m _=>bkPost v m) (by rw[<-Gz];exact apply_vc (A:=apOf A ce) hok) (bk_in hB hE) (DQ rfl) (AG _) (λk hk=>⟨hk,λh=>h⟩) (λ_ h=>h.elim) (λ_ h=>h.elim);have ha:(List.map (r2 (gh4 w a1 a2 a3 ae).α) [(⟨B,c1,c2,c3⟩:BP).v,(apOf A ce).v 3]).toArray=#[.agg #[.int .i64 B.now,.slice a1 B.svcs.length c1,.slice a2 B.cps.length c2,.slice a3 B.bts.length c3],.agg #[.string A.service,.int .i64 A.seen,.int .i64 A.create,.int .i64 A.want,.int .i64 A.cool,.bool A.scale,.slice ae A.ends.length ce,.bool A.drop]]:=by simp[BP.v,AP.v,apOf,acV,gh4,r2,r1,r0]
 rw[ha]at hcall;refine hcall.mono ?_;rintro e w' ⟨_,m,q,G',⟨X,i1,i2,i3,n1,n2,n3,k1,k2,k3,c,b1,b2,b3,rfl,⟨rfl,rfl,rfl⟩,⟨l1,r1'⟩,⟨l2,r2'⟩,⟨l3,r3'⟩,hX⟩,rfl,hH,_,hst,hz,_⟩;exact⟨_,_,_,k1,k2,k3,X,c,by simp[r2,r1,r0],K5 (λk hk=>(hz k hk).1) (hH _ _ l1) (hH _ _ l2) (hH _ _ l3) r1' r2' r3',hX,⟨hst.os,hst.tape,hst.output,hst.size,λk hk=>hst.block k hk λh=>h⟩⟩
theorem KZ(B:Bk)(A:Ac)(a1 a2 a3:Option Addr)(c1 c2 c3:Nat)(ae:Option Addr)(ce:Nat)(w:World)(hok:okBk B)(hB:BkAt w a1 a2 a3 B)(hE:SlE w ae A.ends):
  Calls Tryz.prog 85 #[.agg #[.int .i64 B.now,.slice a1 B.svcs.length c1,.slice a2 B.cps.length c2,.slice a3 B.bts.length c3],.agg #[.string A.service,.int .i64 A.seen,.int .i64 A.create,.int .i64 A.want,.int .i64 A.cool,.bool A.scale,.slice ae A.ends.length ce,.bool A.drop]] w λe w'=>∃x1 x2 x3 d1 d2 d3 X c,e=.returned (.tuple #[.agg #[.int .i64 X.now,.slice x1 X.svcs.length d1,.slice x2 X.cps.length d2,.slice x3 X.bts.length d3],.int .i64 c])/\BkAt w' x1 x2 x3 X/\okBk X/\Below w.heap.size w w':=by
 have hS:B.small:=⟨AH hok.1.1 (by decide),AH hok.1.2.1 (by decide),AH hok.1.2.2 (by decide)⟩;have hZ:B.sized:=⟨AH hok.1.1 (by decide),AH hok.1.2.1 (by decide),AH hok.1.2.2 (by decide),hok.2⟩;obtain⟨t0,t1,t2,t3⟩:=Jm w (.cells #[.int .i64 B.now,.slice a1 B.svcs.length c1,.slice a2 B.cps.length c2,.slice a3 B.bts.length c3] 27) (.cells #[.string A.service,.int .i64 A.seen,.int .i64 A.create,.int .i64 A.want,.int .i64 A.cool,.bool A.scale,.slice ae A.ends.length ce,.bool A.drop] 134) (.cells #[.int .i64 0,.slice none 0 0,.slice none 0 0,.slice none 0 0] 27);obtain⟨W0,hW0⟩:∃W,((w.alloc (.cells #[.int .i64 B.now,.slice a1 B.svcs.length c1,.slice a2 B.cps.length c2,.slice a3 B.bts.length c3] 27)).alloc (.cells #[.string A.service,.int .i64 A.seen,.int .i64 A.create,.int .i64 A.want,.int .i64 A.cool,.bool A.scale,.slice ae A.ends.length ce,.bool A.drop] 134)).alloc (.cells #[.int .i64 0,.slice none 0 0,.slice none 0 0,.slice none 0 0] 27)=W:=⟨_,rfl⟩;have hb0:Below w.heap.size w W0:=by rw[<-hW0];exact(((Below.refl _ _).alloc (AG _) _).alloc (by simp) _).alloc (by simp;omega) _
 rw[hW0]at t0 t1 t2 t3;have T0:Hid _:=t0;have T1:Hid _:=t1;have T2:Hid _:=t2;have e0:=AJ t0 0 rfl;have e1:=AJ t0 1 rfl;have e2:=AJ t0 2 rfl;have e3:=AJ t0 3 rfl;clear t0 t1 t2 t3;go_enter Tryz.func85,Tryz.ntmps85
 go_wp2_with fail
 clear hW0;refine(Aj B a1 a2 a3 c1 c2 c3 _ hS hZ (hB.below hb0)).mono ?_;rintro e w1 ⟨rfl,hq1⟩;have hb1:=hb0.trans (hq1.mono hb0.size);have U0:Hid _:=CD hq1 T0.out;have U1:Hid _:=CD hq1 T1.out;have U2:Hid _:=CD hq1 T2.out;clear T0 T1 T2 e0 e1 e2 e3 hq1 hb0;cases hv:AX B
 ·have HV:Hid _:=hv
  go_wp2_with (first|((with_reducible show wpList _ _ _ _ _ _);refine AL rfl 27 (.tmp 4) (.tmp 11) rfl (w.heap.size+1+1) 0 #[.int .i64 0,.slice none 0 0,.slice none 0 0,.slice none 0 0] rfl rfl 27 #[.int .i64 0,.slice none 0 0,.slice none 0 0,.slice none 0 0] U2.out Tryz.infosBookR (AD rfl) (by simp[Value.oneCell']) ?_;intro wf hz on;have RF:Hid (wf.heap[w.heap.size+1+1]?=some (.cells #[.int .i64 0,.slice none 0 0,.slice none 0 0,.slice none 0 0] 27 (0,0))):=hz;have hbf:=hb1.trans (on.below.mono (by omega));clear hz on;have p0:=AJ RF.out 0 rfl;have p1:=AJ RF.out 1 rfl;have p2:=AJ RF.out 2 rfl;have p3:=AJ RF.out 3 rfl))
  exact bodyPost_ret (v:=.tuple #[.agg #[.int .i64 0,.slice none 0 0,.slice none 0 0,.slice none 0 0],.int .i64 1]) (by simp[results,Tryz.results85,go_sem,p0,p1,p2,p3]) rfl ⟨none,none,none,0,0,0,⟨0,[],[],[]⟩,1,rfl,⟨λh=>absurd rfl h,λh=>absurd rfl h,λh=>absurd rfl h⟩,⟨⟨AI _,AI _,AI _⟩,λ_ h=>(nomatch h),λ_ h=>(nomatch h),λ_ h=>(nomatch h)⟩,hbf⟩
 ·have HV:Hid _:=hv
  have e0:=AJ U0.out 0 rfl;have e1:=AJ U0.out 1 rfl;have e2:=AJ U0.out 2 rfl;have e3:=AJ U0.out 3 rfl;have f0:=AJ U1.out 0 rfl;have f1:=AJ U1.out 1 rfl;have f2:=AJ U1.out 2 rfl;have f3:=AJ U1.out 3 rfl;have f4:=AJ U1.out 4 rfl;have f5:=AJ U1.out 5 rfl;have f6:=AJ U1.out 6 rfl;have f7:=AJ U1.out 7 rfl
  go_wp2_with fail
  refine(Mm B A a1 a2 a3 c1 c2 c3 ae ce _ hok (hB.below hb1) (hE.below hb1)).mono ?_;rintro e w2 ⟨x1,x2,x3,d1,d2,d3,X,c,rfl,hX,hokX,hq2⟩;clear e0 e1 e2 e3 f0 f1 f2 f3 f4 f5 f6 f7;have hSX:X.small:=⟨AH hokX.1.1 (by decide),AH hokX.1.2.1 (by decide),AH hokX.1.2.2 (by decide)⟩;have hb2:=hb1.trans (hq2.mono hb1.size);have hl2:w.heap.size+1+1<w1.heap.size:=(AB U2.out).1;have hz12:=hq2.size;have V2:Hid _:=CD hq2 U2.out;obtain⟨w3,hw3⟩:∃W,w2.alloc (.cells #[.int .i64 X.now,.slice x1 X.svcs.length d1,.slice x2 X.cps.length d2,.slice x3 X.bts.length d3] 27)=W:=⟨_,rfl⟩;have hq3:Below w2.heap.size w2 w3:=hw3▸AM w2 _;have Y3:Hid _:=heap_alloc_new w2 (.cells #[.int .i64 X.now,.slice x1 X.svcs.length d1,.slice x2 X.cps.length d2,.slice x3 X.bts.length d3] 27);rw[hw3]at Y3;have hb3:=hb2.trans (hq3.mono hb2.size);have V3:Hid _:=CD hq3 V2.out;have hX3:=hX.below hq3;have g0:=AJ Y3.out 0 rfl;have g1:=AJ Y3.out 1 rfl;have g2:=AJ Y3.out 2 rfl;have g3:=AJ Y3.out 3 rfl;clear V2 U0 U1 U2 hq2 hX
  go_wp2_with fail
  refine(CM X x1 x2 x3 d1 d2 d3 _ hSX hX3).mono ?_;rintro e w4 ⟨y1,k1,y2,k2,y3,k3,rfl,hr,hq4⟩;have hb4:=hb3.trans (hq4.mono hb3.size);have V4:Hid _:=CD hq4 V3.out;clear g0 g1 g2 g3 V3 hw3 Y3;have hz3:w.heap.size+1+1<w3.heap.size:=AF hl2 (AH hz12 hq3.size);have hy1:=hr.n1;have hy2:=hr.n2;have hy3:=hr.n3
  go_wp2_with (first|((with_reducible show wpList _ _ _ _ _ _);refine AL rfl 27 (.tmp 4) (.tmp 19) rfl (w.heap.size+1+1) 0 #[.int .i64 X.now,.slice (some ⟨y1,0,none⟩) X.svcs.length k1,.slice (some ⟨y2,0,none⟩) X.cps.length k2,.slice (some ⟨y3,0,none⟩) X.bts.length k3] rfl rfl 27 #[.int .i64 0,.slice none 0 0,.slice none 0 0,.slice none 0 0] V4.out Tryz.infosBookR (AD rfl) (by simp[Value.oneCell']) ?_;intro wf hz on;have RF:Hid (wf.heap[w.heap.size+1+1]?=some (.cells #[.int .i64 X.now,.slice (some ⟨y1,0,none⟩) X.svcs.length k1,.slice (some ⟨y2,0,none⟩) X.cps.length k2,.slice (some ⟨y3,0,none⟩) X.bts.length k3] 27 (0,0))):=hz;have hbf:=hb4.trans (on.below.mono (by omega));have hrf:BkRow wf w.heap.size y1 y2 y3 k1 k2 k3 X:=⟨by omega,by omega,by omega,hr.svcs.blk (on.other _ (by omega)),hr.cps.blk (on.other _ (by omega)),hr.bts.blk (on.other _ (by omega))⟩;clear hz on;have p0:=AJ RF.out 0 rfl;have p1:=AJ RF.out 1 rfl;have p2:=AJ RF.out 2 rfl;have p3:=AJ RF.out 3 rfl))
  exact bodyPost_ret (v:=.tuple #[.agg #[.int .i64 X.now,.slice (some ⟨y1,0,none⟩) X.svcs.length k1,.slice (some ⟨y2,0,none⟩) X.cps.length k2,.slice (some ⟨y3,0,none⟩) X.bts.length k3],.int .i64 c]) (by simp[results,Tryz.results85,go_sem,p0,p1,p2,p3]) rfl ⟨_,_,_,k1,k2,k3,X,c,rfl,hrf.at,hokX,hbf⟩
end
end Go.Proofs.YtbceafpodamnfaaGreat
