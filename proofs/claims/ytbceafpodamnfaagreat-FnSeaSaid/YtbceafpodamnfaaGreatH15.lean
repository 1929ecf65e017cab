import Derived.Test.YtbceafpodamnfaaGreatH12
set_option linter.all false
set_option maxHeartbeats 4000000
set_option maxRecDepth 100000
namespace Go.Proofs.YtbceafpodamnfaaGreat
section
open Go Go.RowKit
structure BP where
 B:Bk
 c1:Nat
 c2:Nat
 c3:Nat
def BP.v(p:BP):Value:=.agg #[.int .i64 p.B.now,.iface 0 (.slice none p.B.svcs.length p.c1),.iface 1 (.slice none p.B.cps.length p.c2),.iface 2 (.slice none p.B.bts.length p.c3)]
def BP.m(p:BP):AV:=bkM p.B
def BP.tn(p:BP):Prop:=p.B.svcs.length<=1000/\p.B.cps.length<=1000/\p.B.bts.length<=1000
theorem Eg{ty sz:Nat}{X:Type}{f:X->List Value}{l l':List X}(hf:∀x y,f x=f y->x=y)(h:BZ ty sz f l=BZ ty sz f l'):l=l':=by
 have hn:l.length=l'.length:=congrArg VB.n h;have hQ:(BZ ty sz f l).Q=(BZ ty sz f l').Q:=congrArg VB.Q h;refine List.ext_getElem? λi=>?_
 cases h1:l[i]? with
 |none=>rw[List.getElem?_eq_none_iff]at h1;rw[List.getElem?_eq_none (by omega)]
 |some x=>
  have hi:=(AC h1).1;obtain⟨y,hy⟩:∃y,l'[i]?=some y:=⟨l'[i]'(by omega),by simp⟩
  have h2:(BZ ty sz f l').Q i (λel=>el=f x):=by
   rw[<-hQ];intro z hz;rw[h1]at hz;cases hz;rfl
  rw[hy,hf y x (h2 y hy)]
theorem NN(x y:Svc)(h:svL x=svL y):x=y:=by
 cases x;cases y;simp only[svL,List.cons.injEq,Value.string.injEq,Value.int.injEq,Value.bool.injEq,true_and,and_true]at h;simp only[Svc.mk.injEq];exact h
theorem N2(x y:Cp)(h:cpL x=cpL y):x=y:=by
 cases x;cases y;simp only[cpL,List.cons.injEq,Value.string.injEq,Value.int.injEq,Value.bool.injEq,true_and,and_true]at h;simp only[Cp.mk.injEq];exact h
theorem btL_inj(x y:Bt)(h:btL x=btL y):x=y:=by
 cases x;cases y;simp only[btL,List.cons.injEq,Value.string.injEq,Value.bool.injEq,and_true]at h;simp only[Bt.mk.injEq];exact h
theorem BP.inj{p p':BP}(hv:p.v=p'.v)(h0:BZ 29 13 svL p.B.svcs=BZ 29 13 svL p'.B.svcs)(h1:BZ 49 7 cpL p.B.cps=BZ 49 7 cpL p'.B.cps)(h2:BZ 51 2 btL p.B.bts=BZ 51 2 btL p'.B.bts):p=p':=by
 have e1:=Eg NN h0;have e2:=Eg N2 h1;have e3:=Eg btL_inj h2;obtain⟨⟨n,a,b,c⟩,c1,c2,c3⟩:=p;obtain⟨⟨n',a',b',c'⟩,c1',c2',c3'⟩:=p';simp only at e1 e2 e3;subst e1 e2 e3;have:=congrArg Array.toList (Value.agg.inj hv);simp at this;obtain⟨i1,i2,i3,i4⟩:=this;subst i1 i2 i3 i4;rfl
section
variable {RD:(Nat->Prop)->World->Nat->Nat->Prop}
theorem BC(h:Cc RD):Env Tryz.prog RD TT []:=⟨h,TT_ok,λ_ _ _ h=>(nomatch h)⟩
theorem Ab{Γ:List (Nat × Nat × Ct)}{f c:Nat}{C:Ct}(E:Env Tryz.prog RD TT Γ)(hc:N4 Tryz.prog f=true)(h:CN Tryz.prog RD f c C):Env Tryz.prog RD TT ((f,c,C)::Γ):=
 ⟨E.rd,E.tt,λg d D hg=>by
  by_cases e:f=g
  ·subst e;rw[Ag]at hg;cases hg;exact⟨hc,h⟩
  ·rw[Aw e]at hg;exact E.ct g d D hg⟩
end
def Idx{X:Type}(p:X->Bool)(l:List X)(k:Int):Prop:=(k= -1/\∀x∈l,p x=false)\/∃(j:Nat) (x:X),k=j/\l[j]?=some x/\p x=true/\∀y∈l.take j,p y=false
theorem IOa{X:Type}{p:X->Bool}{l:List X}{i:Nat}{x:X}(h:∀y∈l.take i,p y=false)(hx:l[i]?=some x)(hp:p x=false):∀y∈l.take (i+1),p y=false:=λy hy=>by
 rw[List.take_add_one,hx]at hy;rcases List.mem_append.1 hy with h1|h1
 ·exact h y h1
 ·have:y=x:=by simpa using h1
  rw[this];exact hp
def nmB(a b:ByteArray):Bool:=a.toList==b.toList
def cpQ(sv:ByteArray)(n:Int)(c:Cp):Bool:=nmB c.service sv&&decide (c.number=n)
abbrev Hi:Ct:=ctV (λp:BP × ByteArray=>[p.1.v,.string p.2]) (λp=>p.1.m) (λp=>p.1.tn) λp v es=>es=[]/\∃k,v=.int .i64 k/\Idx (λs=>nmB s.name p.2) p.1.B.svcs k
abbrev Nz:Ct:=ctV (λp:BP × ByteArray=>[p.1.v,.string p.2]) (λp=>p.1.m) (λp=>p.1.tn) λp v es=>es=[]/\∃k,v=.int .i64 k/\Idx (λs=>nmB s.name p.2) p.1.B.bts k
abbrev M7:Ct:=ctV (λp:BP × ByteArray × Int=>[p.1.v,.string p.2.1,.int .i64 p.2.2]) (λp=>p.1.m) (λp=>p.1.tn) λp v es=>es=[]/\∃k,v=.int .i64 k/\Idx (cpQ p.2.1 p.2.2) p.1.B.cps k
theorem IY(p p':BP × ByteArray)(h:[p.1.v,.string p.2]=[p'.1.v,.string p'.2])(hm:p.1.m=p'.1.m):p=p':=by
 obtain⟨p,s⟩:=p;obtain⟨p',s'⟩:=p';simp only[BP.m,bkM,List.cons.injEq,Prod.mk.injEq,true_and,and_true,Value.string.injEq]at h hm;rw[BP.inj h.1 hm.1 hm.2.1 hm.2.2,h.2]
theorem MB(p p':BP × ByteArray × Int)(h:[p.1.v,.string p.2.1,.int .i64 p.2.2]=[p'.1.v,.string p'.2.1,.int .i64 p'.2.2])(hm:p.1.m=p'.1.m):p=p':=by
 obtain⟨p,s,n⟩:=p;obtain⟨p',s',n'⟩:=p';simp only[BP.m,bkM,List.cons.injEq,Prod.mk.injEq,true_and,and_true,Value.string.injEq,Value.int.injEq]at h hm;rw[BP.inj h.1 hm.1 hm.2.1 hm.2.2,h.2.1,h.2.2]
section
variable {RD:(Nat->Prop)->World->Nat->Nat->Prop}
theorem Ef(hR:Cc RD):CN Tryz.prog RD 39 0 Hi:=by
 refine Cu (BC hR) Tryz.func39 (by kernel_rfl) (by kernel_rfl) (λ_=>rfl) IY ?_;rintro⟨⟨B,c1,c2,c3⟩,nm⟩ ⟨hl,_,_⟩;have hl:B.svcs.length<=1000:=hl;refine⟨λn s=>∃i:Nat,i<=B.svcs.length/\n=B.svcs.length - i/\(∀y∈B.svcs.take i,nmB y.name nm=false)/\s=⟨[(5,.int .i64 i),(2,.complex .f64 64 0),(1,.string nm)],(64,AZ (EQ B c1 c2 c3) 27)::bkM B,88,0⟩,B.svcs.length,⟨_,(by refine⟨[],?_,?_,rfl,rfl,AG _⟩<;>repeat' (first|exact rfl|exact trivial|exact⟨_,rfl,.same _ _ rfl⟩|apply And.intro)),0,by omega,by omega,(λ_ h=>(nomatch h)),rfl⟩,?_⟩;rintro n _ ⟨i,hi,rfl,hno,rfl⟩;refine And.intro (λhlt=>?_) (λhlt=>?_)
 ·refine And.intro (by omega) (And.intro hlt (And.intro (AG _) ?_))
  intro b hb;rw[Int.toNat_natCast]at hb;refine And.intro (λhe=>?_) (λhe=>?_)
  ·exact⟨.inl rfl,_,rfl,⟨_,_,[],⟨rfl,_,rfl,.inr ⟨i,b,rfl,hb,he,hno⟩⟩,rfl,trivial,rfl,rfl,trivial⟩,rfl⟩
  ·intro n' hn'
   have hn':n'=((i+1:Nat):Int):=by have:=hn' ⟨by omega,by omega⟩;omega
   subst hn';exact⟨B.svcs.length - (i+1),by omega,_,(by refine⟨[],?_,?_,rfl,rfl,AG _⟩<;>repeat' (first|exact rfl|exact trivial|exact⟨_,rfl,.same _ _ rfl⟩|apply And.intro)),i+1,by omega,rfl,IOa hno hb he,rfl⟩
 ·exact⟨.inl rfl,_,rfl,⟨_,_,[],⟨rfl,_,rfl,.inl ⟨rfl,λx hx=>hno x (by rw[List.take_of_length_le (by omega)];exact hx)⟩⟩,rfl,trivial,rfl,rfl,trivial⟩,rfl⟩
theorem MC(hR:Cc RD):CN Tryz.prog RD 37 0 Nz:=by
 refine Cu (BC hR) Tryz.func37 (by kernel_rfl) (by kernel_rfl) (λ_=>rfl) IY ?_;rintro⟨⟨B,c1,c2,c3⟩,nm⟩ ⟨_,_,hl⟩;have hl:B.bts.length<=1000:=hl;refine⟨λn s=>∃i:Nat,i<=B.bts.length/\n=B.bts.length - i/\(∀y∈B.bts.take i,nmB y.name nm=false)/\s=⟨[(5,.int .i64 i),(2,.complex .f64 64 0),(1,.string nm)],(64,AZ (EQ B c1 c2 c3) 27)::bkM B,88,0⟩,B.bts.length,⟨_,(by refine⟨[],?_,?_,rfl,rfl,AG _⟩<;>repeat' (first|exact rfl|exact trivial|exact⟨_,rfl,.same _ _ rfl⟩|apply And.intro)),0,by omega,by omega,(λ_ h=>(nomatch h)),rfl⟩,?_⟩;rintro n _ ⟨i,hi,rfl,hno,rfl⟩;refine And.intro (λhlt=>?_) (λhlt=>?_)
 ·refine And.intro (by omega) (And.intro hlt (And.intro (AG _) ?_))
  intro b hb;rw[Int.toNat_natCast]at hb;refine And.intro (λhe=>?_) (λhe=>?_)
  ·exact⟨.inl rfl,_,rfl,⟨_,_,[],⟨rfl,_,rfl,.inr ⟨i,b,rfl,hb,he,hno⟩⟩,rfl,trivial,rfl,rfl,trivial⟩,rfl⟩
  ·intro n' hn'
   have hn':n'=((i+1:Nat):Int):=by have:=hn' ⟨by omega,by omega⟩;omega
   subst hn';exact⟨B.bts.length - (i+1),by omega,_,(by refine⟨[],?_,?_,rfl,rfl,AG _⟩<;>repeat' (first|exact rfl|exact trivial|exact⟨_,rfl,.same _ _ rfl⟩|apply And.intro)),i+1,by omega,rfl,IOa hno hb he,rfl⟩
 ·exact⟨.inl rfl,_,rfl,⟨_,_,[],⟨rfl,_,rfl,.inl ⟨rfl,λx hx=>hno x (by rw[List.take_of_length_le (by omega)];exact hx)⟩⟩,rfl,trivial,rfl,rfl,trivial⟩,rfl⟩
theorem K0(hR:Cc RD):CN Tryz.prog RD 36 0 M7:=by
 refine Cu (BC hR) Tryz.func36 (by kernel_rfl) (by kernel_rfl) (λ_=>rfl) MB ?_;rintro⟨⟨B,c1,c2,c3⟩,nm,k⟩ ⟨_,hl,_⟩;have hl:B.cps.length<=1000:=hl;refine⟨λn s=>∃i:Nat,i<=B.cps.length/\n=B.cps.length - i/\(∀y∈B.cps.take i,cpQ nm k y=false)/\s=⟨[(7,.int .i64 i),(3,.complex .f64 64 0),(1,.string nm),(2,.int .i64 k)],(64,AZ (EQ B c1 c2 c3) 27)::bkM B,88,0⟩,B.cps.length,⟨_,(by refine⟨[],?_,?_,rfl,rfl,AG _⟩<;>repeat' (first|exact rfl|exact trivial|exact⟨_,rfl,.same _ _ rfl⟩|apply And.intro)),0,by omega,by omega,(λ_ h=>(nomatch h)),rfl⟩,?_⟩;rintro n _ ⟨i,hi,rfl,hno,rfl⟩;refine And.intro (λhlt=>?_) (λhlt=>?_)
 ·refine And.intro (by omega) (And.intro hlt (And.intro (AG _) ?_))
  intro b hb;rw[Int.toNat_natCast]at hb;refine And.intro (λhe=>?_) (λhe=>?_)
  ·refine And.intro (by omega) (And.intro hlt (And.intro (AG _) ?_))
   intro b' hb';rw[Int.toNat_natCast,hb]at hb';cases hb';refine And.intro (λhe'=>?_) (λhe'=>?_)
   ·exact⟨.inl rfl,_,rfl,⟨_,_,[],⟨rfl,_,rfl,.inr ⟨i,b,rfl,hb,by show(nmB _ _&&_)=true;rw[show nmB b.service nm=true from he,decide_eq_true he'];rfl,hno⟩⟩,rfl,trivial,rfl,rfl,trivial⟩,rfl⟩
   ·intro n' hn'
    have hn':n'=((i+1:Nat):Int):=by have:=hn' ⟨by omega,by omega⟩;omega
    subst hn';exact⟨B.cps.length - (i+1),by omega,_,(by refine⟨[],?_,?_,rfl,rfl,AG _⟩<;>repeat' (first|exact rfl|exact trivial|exact⟨_,rfl,.same _ _ rfl⟩|apply And.intro)),i+1,by omega,rfl,IOa hno hb (by show(nmB _ _&&_)=false;rw[show nmB b.service nm=true from he,decide_eq_false he'];rfl),rfl⟩
  ·intro n' hn'
   have hn':n'=((i+1:Nat):Int):=by have:=hn' ⟨by omega,by omega⟩;omega
   subst hn';exact⟨B.cps.length - (i+1),by omega,_,(by refine⟨[],?_,?_,rfl,rfl,AG _⟩<;>repeat' (first|exact rfl|exact trivial|exact⟨_,rfl,.same _ _ rfl⟩|apply And.intro)),i+1,by omega,rfl,IOa hno hb (by show(nmB _ _&&_)=false;rw[show nmB b.service nm=false from he];rfl),rfl⟩
 ·exact⟨.inl rfl,_,rfl,⟨_,_,[],⟨rfl,_,rfl,.inl ⟨rfl,λx hx=>hno x (by rw[List.take_of_length_le (by omega)];exact hx)⟩⟩,rfl,trivial,rfl,rfl,trivial⟩,rfl⟩
end
theorem Idx.lt{X:Type}{p:X->Bool}{l:List X}{k:Int}(h:Idx p l k): -1<=k/\k<l.length:=by
 rcases h with⟨rfl,_⟩|⟨j,x,rfl,hj,_⟩
 ·omega
 ·have:=(AC hj).1;omega
theorem Idx.yes{X:Type}{p:X->Bool}{l:List X}{k:Int}(h:Idx p l k)(he:∃x∈l,p x=true):0<=k/\k<l.length:=by
 rcases h with⟨rfl,hn⟩|⟨j,x,rfl,hj,_⟩
 ·obtain⟨x,hx,hp⟩:=he;rw[hn x hx]at hp;cases hp
 ·have:=(AC hj).1;omega
theorem Idx.pos{X:Type}{p:X->Bool}{l:List X}{k:Int}(h:Idx p l k)(h0:¬k<0):∃x∈l,p x=true:=by
 rcases h with⟨rfl,hn⟩|⟨j,x,rfl,hj,hp⟩
 ·omega
 ·exact⟨x,AE hj,hp.1⟩
section
variable {RD:(Nat->Prop)->World->Nat->Nat->Prop}
abbrev ctIn:Ct:=ctV (λp:Int × Int × Int=>[.int .i64 p.1,.int .i64 p.2.1,.int .i64 p.2.2]) (λ_=>[]) (λ_=>True) λp v es=>es=[]/\∃b,v=.bool b/\(b=true->p.2.1<=p.1/\p.1<=p.2.2)
theorem in_ct(hR:Cc RD):CN Tryz.prog RD 15 0 ctIn:=by
 refine Cu (BC hR) Tryz.func15 (by kernel_rfl) (by kernel_rfl) (λ_=>rfl) (λp p' h _=>?_) ?_
 ·obtain⟨a,b,c⟩:=p
  obtain⟨a',b',c'⟩:=p';simp at h;obtain⟨rfl,rfl,rfl⟩:=h;rfl
 rintro⟨a,b,c⟩ _;have key:∀r:Bool,(r=true->b<=a/\a<=c)->Hz (λv es=>es=[]/\∃b',v=.bool b'/\(b'=true->b<=a/\a<=c)) (.bool r) [] 0:=λr h=>⟨_,_,[],⟨rfl,r,rfl,h⟩,rfl,trivial,rfl,rfl,trivial⟩
 refine And.intro (λh=>?_) (λh=>?_)
 ·refine And.intro (λh'=>?_) (λh'=>?_)
  ·exact⟨.inl rfl,_,rfl,key true λ_=>⟨h,h'⟩,rfl⟩
  ·exact⟨.inl rfl,_,rfl,key false (λh=>nomatch h),rfl⟩
 ·exact⟨.inl rfl,_,rfl,key false (λh=>nomatch h),rfl⟩
abbrev Ny:Ct:=ctV (λp:BP × ByteArray=>[p.1.v,.string p.2]) (λp=>p.1.m) (λp=>p.1.tn) λ_ v es=>es=[]/\∃a b c d e,v=.agg #[.int .i64 a,.int .i64 b,.int .i64 c,.int .i64 d,.int .i64 e]
theorem JZ(hR:Cc RD):CN Tryz.prog RD 109 0 Ny:=by
 refine Cu (Ab (BC hR) (f:=39) (by kernel_rfl) (Ef hR)) Tryz.func109 (by kernel_rfl) (by kernel_rfl) (λ_=>rfl) IY ?_;rintro⟨⟨B,c1,c2,c3⟩,nm⟩ ⟨hs,hl,ht⟩;have hl:B.cps.length<=1000:=hl;refine⟨(⟨B,c1,c2,c3⟩,nm),rfl,⟨hs,hl,ht⟩,?_⟩;rintro _ _ ⟨rfl,k,rfl,hk⟩;have hk:=hk.lt;have hk2:k<B.svcs.length:=hk.2;refine⟨λn s=>∃(x a b c d e:Int),0<=x/\x<=B.cps.length/\n=B.cps.length - x.toNat/\s=⟨[(7,.int .i64 x),(6,.int .i64 k),(5,.complex .f64 88 0),(4,.complex .f64 72 0),(2,.complex .f64 64 0),(1,.string nm)],(88,AZ [.int .i64 a,.int .i64 b,.int .i64 c,.int .i64 d,.int .i64 e] 156)::(72,AZ [.int .i64 0,.int .i64 0,.int .i64 0,.int .i64 0,.int .i64 0] 156)::(64,AZ (EQ B c1 c2 c3) 27)::bkM B,100,0⟩,B.cps.length,⟨_,(by refine⟨[],?_,?_,rfl,rfl,AG _⟩<;>repeat' (first|exact rfl|exact trivial|exact⟨_,rfl,.same _ _ rfl⟩|apply And.intro)),0,0,0,0,0,0,by omega,by omega,by omega,rfl⟩,?_⟩;rintro n _ ⟨x,a,b,c,d,e,h0,h1,rfl,rfl⟩;refine And.intro (λhlt=>?_) (λhlt=>?_)
 ·refine And.intro (λhk0=>?_) (λhk0=>?_)
  ·refine And.intro h0 (And.intro hlt (And.intro (AG _) ?_))
   intro y hy
   repeat' (first|refine And.intro (λ_=>?_) (λ_=>?_)|refine And.intro (by omega) (And.intro (by omega) (And.intro (AG _) (λ_ _=>?_)))|(intro y hy;replace hy:=hy ⟨by omega,by omega⟩;exact⟨B.cps.length - y.toNat,by omega,_,(by refine⟨[],?_,?_,rfl,rfl,AG _⟩<;>repeat' (first|exact rfl|exact trivial|exact⟨_,rfl,.same _ _ rfl⟩|apply And.intro)),y,_,_,_,_,_,by omega,by omega,rfl,rfl⟩)|refine λ_ _=>?_)
  ·exact⟨.inl rfl,_,rfl,⟨_,_,[],⟨rfl,_,_,_,_,_,rfl⟩,rfl,trivial,rfl,rfl,trivial⟩,rfl⟩
 ·exact⟨.inl rfl,_,rfl,⟨_,_,[],⟨rfl,_,_,_,_,_,rfl⟩,rfl,trivial,rfl,rfl,trivial⟩,rfl⟩
abbrev ctMay:Ct:=ctV (λp:BP × ByteArray × Int=>[p.1.v,.string p.2.1,.int .i64 p.2.2]) (λp=>p.1.m) (λp=>p.1.tn/\∃s∈p.1.B.svcs,nmB s.name p.2.1=true) λp v es=>es=[]/\∃b,v=.bool b/\(b=true->∃c∈p.1.B.cps,cpQ p.2.1 p.2.2 c=true)
theorem Mi(hR:Cc RD):CN Tryz.prog RD 114 0 ctMay:=by
 refine Cu (Ab (Ab (Ab (BC hR) (f:=39) (by kernel_rfl) (Ef hR)) (f:=36) (by kernel_rfl) (K0 hR)) (f:=109) (by kernel_rfl) (JZ hR)) Tryz.func114 (by kernel_rfl) (by kernel_rfl) (λ_=>rfl) MB ?_;rintro⟨⟨B,c1,c2,c3⟩,nm,num⟩ ⟨ht,hsv⟩;have hsv:∃s∈B.svcs,nmB s.name nm=true:=hsv;refine⟨(⟨B,c1,c2,c3⟩,nm,num),rfl,ht,?_⟩;rintro _ _ ⟨rfl,k,rfl,hk⟩;have hk0:=hk.lt;have key:∀(r:Bool) m,(r=true->∃c∈B.cps,cpQ nm num c=true)->Hz (λv es=>es=[]/\∃b,v=.bool b/\(b=true->∃c∈B.cps,cpQ nm num c=true)) (.bool r) m 0:=λr m h=>⟨_,_,[],⟨rfl,r,rfl,h⟩,rfl,trivial,rfl,rfl,trivial⟩
 refine And.intro (λh=>?_) (λh=>?_)
 ·exact⟨.inl rfl,_,rfl,key false _ (λh=>nomatch h),rfl⟩
 have hp:=hk.pos h;refine And.intro (by omega) (And.intro hk0.2 (And.intro (AG _) (λx hx=>?_)));refine And.intro (λhe=>?_) (λhe=>?_)
 ·exact⟨.inl rfl,_,rfl,key false _ (λh=>nomatch h),rfl⟩
 refine⟨(⟨B,c1,c2,c3⟩,nm),rfl,ht,?_⟩;rintro _ _ ⟨rfl,k2,rfl,hk2⟩;have hk2:=hk2.yes hsv;refine And.intro hk2.1 (And.intro hk2.2 (And.intro (AG _) (λs hs=>?_)));refine And.intro (by omega) (And.intro hk0.2 (And.intro (AG _) (λx' hx'=>?_)));refine And.intro (λhe=>?_) (λhe=>?_)
 ·exact⟨.inl rfl,_,rfl,key true _ λ_=>hp,rfl⟩
 refine And.intro (λhe=>?_) (λhe=>?_)
 ·exact⟨.inl rfl,_,rfl,key true _ λ_=>hp,rfl⟩
 refine⟨(⟨B,c1,c2,c3⟩,nm),rfl,ht,?_⟩;rintro _ _ ⟨rfl,a,b,c,d,e,rfl⟩;intro n1 _ n2 _;refine And.intro (λhe=>?_) (λhe=>?_)
 ·exact⟨.inl rfl,_,rfl,key true _ λ_=>hp,rfl⟩
 ·exact⟨.inl rfl,_,rfl,key false _ (λh=>nomatch h),rfl⟩
end
def inL(x:Int):List Value:=[.int .i64 x]
def enL(e:En):List Value:=[.int .i64 e.number,.int .i64 e.seen]
def cpV(c:Cp):Value:=.agg (cpL c).toArray
def FE(s:Svc):Value:=.agg (svL s).toArray
theorem Kq(x y:Int)(h:inL x=inL y):x=y:=by simpa [inL] using h
theorem Gs{c d:Cp}(h:cpV c=cpV d):c=d:=N2 c d (by have:=congrArg Array.toList (Value.agg.inj h);simpa using this)
theorem DR{c d:Svc}(h:FE c=FE d):c=d:=NN c d (by have:=congrArg Array.toList (Value.agg.inj h);simpa using this)
def okBk(B:Bk):Prop:=(B.svcs.length<=1000/\B.cps.length<=1000/\B.bts.length<=1000)/\(∀s∈B.svcs,s.name.size<=maxLen)/\(∀c∈B.cps,c.service.size<=maxLen/\c.berth.size<=maxLen)/\∀b∈B.bts,b.name.size<=maxLen
theorem DO{ρ:List (Nat × Nat)}{ty sz cp c:Nat}{X:Type}{f:X->List Value}(l:List X)(x:X):LeB ρ (Eu (Ap ty sz cp f l) (Dw ty sz [f x]) 1 c) (Ap ty sz c f (l++[x])):=by
 have hn:(Eu (Ap ty sz cp f l) (Dw ty sz [f x]) 1 c).n=(l++[x]).length:=by simp[Eu,Ap]
 refine⟨rfl,rfl,rfl,Nat.le_of_eq hn.symm,λ_=>⟨hn,rfl⟩,rfl,λj hj k hk=>⟨λh y hy=>?_,λh el he=>?_⟩,λ_ _ _=>trivial,λh=>(nomatch h)⟩
 ·exact hk y (by rw[List.getElem?_append_left (show j<l.length from h)];exact hy)
 ·have hl:l.length<=j:=h
  have he:[f x][j - l.length]?=some el:=he;have hj':j<l.length+1:=by have:j<(l++[x]).length:=hj;simpa using this
  have e0:j - l.length=0:=by omega
  rw[e0]at he;cases he;exact hk x (by rw[List.getElem?_append_right hl,e0];rfl)
theorem FX{ρ:List (Nat × Nat)}{ty sz:Nat}{X:Type}{f:X->List Value}(l:List X):LeB ρ (Dw ty sz (l.map f)) (Ap ty sz l.length f l):=by
 have hn:(Dw ty sz (l.map f)).n=l.length:=by simp[Dw]
 refine⟨rfl,rfl,rfl,Nat.le_of_eq hn.symm,λ_=>⟨hn,hn⟩,rfl,λj _ k hk el he=>?_,λ_ _ _=>trivial,λh=>(nomatch h)⟩;rw[List.getElem?_map]at he
 cases hj:l[j]? with
 |none=>rw[hj]at he;cases he
 |some x=>rw[hj]at he;cases he;exact hk x hj
section
variable {RD:(Nat->Prop)->World->Nat->Nat->Prop}
abbrev ctDrains:Ct:=ctV (λp:BP × Cp=>[p.1.v,cpV p.2]) (λp=>p.1.m) (λp=>p.1.tn) λ_ v es=>es=[]/\∃b,v=.bool b
theorem KO(hR:Cc RD):CN Tryz.prog RD 117 0 ctDrains:=by
 refine Cu (Ab (BC hR) (f:=37) (by kernel_rfl) (MC hR)) Tryz.func117 (by kernel_rfl) (by kernel_rfl) (λ_=>rfl) (λp p' h hm=>?_) ?_
 ·obtain⟨p,s⟩:=p
  obtain⟨p',s'⟩:=p';simp only[BP.m,bkM,List.cons.injEq,Prod.mk.injEq,true_and,and_true]at h hm;rw[BP.inj h.1 hm.1 hm.2.1 hm.2.2,Gs h.2]
 rintro⟨⟨B,c1,c2,c3⟩,x⟩ ht;refine⟨(⟨B,c1,c2,c3⟩,x.berth),rfl,ht,?_⟩;rintro _ _ ⟨rfl,k,rfl,hk⟩;have hk:=hk.lt;refine And.intro (λh=>?_) (λh=>?_)
 ·refine And.intro h (And.intro hk.2 (And.intro (AG _) (λ_ _=>?_)))
  refine And.intro (λh=>?_) (λh=>?_)<;>exact⟨.inl rfl,_,rfl,⟨_,_,[],⟨rfl,_,rfl⟩,rfl,trivial,rfl,rfl,trivial⟩,rfl⟩
 ·exact⟨.inl rfl,_,rfl,⟨_,_,[],⟨rfl,_,rfl⟩,rfl,trivial,rfl,rfl,trivial⟩,rfl⟩
abbrev ctSooner:Ct:=ctV (λp:BP × Cp × Cp × Int=>[p.1.v,cpV p.2.1,cpV p.2.2.1,.int .i64 p.2.2.2]) (λp=>p.1.m) (λp=>p.1.tn) λ_ v es=>es=[]/\∃b,v=.bool b
theorem OG(hR:Cc RD):CN Tryz.prog RD 123 0 ctSooner:=by
 refine Cu (Ab (BC hR) (f:=117) (by kernel_rfl) (KO hR)) Tryz.func123 (by kernel_rfl) (by kernel_rfl) (λ_=>rfl) (λp p' h hm=>?_) ?_
 ·obtain⟨p,s,t,n⟩:=p
  obtain⟨p',s',t',n'⟩:=p';simp only[BP.m,bkM,List.cons.injEq,Prod.mk.injEq,true_and,and_true,Value.int.injEq]at h hm;rw[BP.inj h.1 hm.1 hm.2.1 hm.2.2,Gs h.2.1,Gs h.2.2.1,h.2.2.2]
 rintro⟨⟨B,c1,c2,c3⟩,x,y,im⟩ ht
 repeat' (first|refine And.intro (λ_=>?_) (λ_=>?_)|exact⟨.inl rfl,_,rfl,⟨_,_,[],⟨rfl,_,rfl⟩,rfl,trivial,rfl,rfl,trivial⟩,rfl⟩|(refine⟨(⟨B,c1,c2,c3⟩,x),rfl,ht,?_⟩;rintro _ _ ⟨rfl,b,rfl⟩;cases b)|(refine⟨(⟨B,c1,c2,c3⟩,y),rfl,ht,?_⟩;rintro _ _ ⟨rfl,b,rfl⟩;cases b))
end
def Pls(n:Nat)(xs:List Int):Prop:=xs.length<=n/\∀x∈xs,0<=x/\x<n
def IR(n:Nat)(v:Value)(es:AV):Prop:=∃xs cp,v=.iface 0 (.slice none xs.length cp)/\es=[(0,Ap 3 1 cp inL xs)]/\Pls n xs
theorem Hd{n i cp:Nat}{xs:List Int}{m:AV}{b:VB}(h:Pls n xs)(hl:lk m i=some b)(hb:LeB [(0,i)] b (Ap 3 1 cp inL xs)):Hz (IR n) (.iface i (.slice none xs.length cp)) m 0:=
 ⟨.iface 0 (.slice none xs.length cp),[(0,Ap 3 1 cp inL xs)],[(0,i)],⟨xs,cp,rfl,rfl,h⟩,rfl,⟨⟨b,hl,hb⟩,trivial⟩,rfl,rfl,⟨λ_ _=>trivial,trivial⟩⟩
section
variable {RD:(Nat->Prop)->World->Nat->Nat->Prop}
abbrev ctLive:Ct:=ctV (λp:BP × ByteArray=>[p.1.v,.string p.2]) (λp=>p.1.m) (λp=>p.1.tn) λp v es=>IR p.1.B.cps.length v es
theorem IQ(hR:Cc RD):CN Tryz.prog RD 108 0 ctLive:=by
 refine Cu (BC hR) Tryz.func108 (by kernel_rfl) (by kernel_rfl) (λ_=>rfl) IY ?_;rintro⟨⟨B,c1,c2,c3⟩,nm⟩ ⟨_,hl,_⟩;have hl:B.cps.length<=1000:=hl;refine⟨λn s=>∃(x:Int) (xs:List Int) (k cp:Nat),0<=x/\x<=B.cps.length/\n=B.cps.length - x.toNat/\k=xs.length/\(k:Int)<=x/\(∀y∈xs,0<=y/\y<B.cps.length)/\s=⟨[(6,.int .i64 x),(5,.iface 80 (.slice none k cp)),(2,.complex .f64 64 0),(1,.string nm)],(80,Ap 3 1 cp inL xs)::(64,AZ (EQ B c1 c2 c3) 27)::bkM B,100,0⟩,B.cps.length,⟨_,(by refine⟨[],?_,?_,rfl,rfl,AG _⟩<;>repeat' (first|exact rfl|exact trivial|exact⟨Dw 3 1 [],rfl,FX (f:=inL) []⟩|exact⟨_,rfl,.same _ _ rfl⟩|apply And.intro)),0,[],0,0,by omega,by omega,by omega,rfl,by omega,(λ_ h=>(nomatch h)),rfl⟩,?_⟩;rintro n _ ⟨x,xs,k,cp,h0,h1,rfl,hk,hkx,hxs,rfl⟩
 have step:∀(xs':List Int) (k' cp':Nat) (s:Int->St),k'=xs'.length->(k':Int)<=x+1->(∀y∈xs',0<=y/\y<B.cps.length)->x<B.cps.length->(∀y:Int,Ent (s y) ⟨[(6,.int .i64 y),(5,.iface 80 (.slice none k' cp')),(2,.complex .f64 64 0),(1,.string nm)],(80,Ap 3 1 cp' inL xs')::(64,AZ (EQ B c1 c2 c3) 27)::bkM B,100,0⟩)->∀y:Int,(inR (x+1)->y=x+1)->∃n',n'<B.cps.length - x.toNat/\∃s',Ent (s y) s'/\∃(x:Int) (xs:List Int) (k cp:Nat),0<=x/\x<=B.cps.length/\n'=B.cps.length - x.toNat/\k=xs.length/\(k:Int)<=x/\(∀y∈xs,0<=y/\y<B.cps.length)/\s'=⟨[(6,.int .i64 x),(5,.iface 80 (.slice none k cp)),(2,.complex .f64 64 0),(1,.string nm)],(80,Ap 3 1 cp inL xs)::(64,AZ (EQ B c1 c2 c3) 27)::bkM B,100,0⟩:=λxs' k' cp' s e1 e2 e3 hlt hE y hy=>by
  have hy:=hy ⟨by omega,by omega⟩;exact⟨B.cps.length - y.toNat,by omega,_,hE y,y,xs',k',cp',by omega,by omega,rfl,e1,by omega,e3,rfl⟩
 refine And.intro (λhlt=>?_) (λhlt=>?_)
 ·refine And.intro h0 (And.intro hlt (And.intro (AG _) (λb hb=>?_)))
  refine And.intro (λhe=>?_) (λhe=>?_)
  ·refine And.intro h0 (And.intro hlt (And.intro (AG _) (λb' hb'=>?_)))
   refine And.intro (λhe=>?_) (λhe=>?_)
   ·refine step xs k cp _ hk (by omega) hxs hlt λy=>?_
    refine⟨[],?_,?_,rfl,rfl,AG _⟩<;>repeat' (first|exact rfl|exact trivial|exact⟨_,rfl,.same _ _ rfl⟩|apply And.intro)
   ·refine And.intro hk (And.intro rfl (And.intro (AG _) (And.intro (by omega) (λc'=>?_))))
    refine step (xs++[x]) (k+1) c' _ (by rw[hk];simp) (by omega) (λy hy=>(List.mem_append.1 hy).elim (hxs y) (λh=>by rw[List.mem_singleton.1 h];exact⟨h0,hlt⟩)) hlt λy=>?_
    refine⟨[(80,300)],?_,?_,rfl,rfl,AG _⟩<;>repeat' (first|exact rfl|exact trivial|exact⟨_,rfl,DO _ _⟩|exact⟨_,rfl,.same _ _ rfl⟩|apply And.intro)
  ·refine step xs k cp _ hk (by omega) hxs hlt λy=>?_
   refine⟨[],?_,?_,rfl,rfl,AG _⟩<;>repeat' (first|exact rfl|exact trivial|exact⟨_,rfl,.same _ _ rfl⟩|apply And.intro)
 ·subst hk
  exact⟨.inl rfl,_,rfl,Hd (n:=B.cps.length) ⟨by omega,hxs⟩ rfl (.same _ _ rfl),rfl⟩
end
def endsP(P:List En->Prop)(v:Value)(es:AV):Prop:=∃(l:List En) (cp:Nat),v=.iface 0 (.slice none l.length cp)/\es=[(0,Ap 163 2 cp enL l)]/\P l
abbrev endsOut (n:Nat):Value->AV->Prop:=endsP λl=>l.length<=n
theorem Hf{P:List En->Prop}{i cp:Nat}{l:List En}{m:AV}{b:VB}(h:P l)(hl:lk m i=some b)(hb:LeB [(0,i)] b (Ap 163 2 cp enL l)):Hz (endsP P) (.iface i (.slice none l.length cp)) m 0:=
 ⟨.iface 0 (.slice none l.length cp),[(0,Ap 163 2 cp enL l)],[(0,i)],⟨l,cp,rfl,rfl,h⟩,rfl,⟨⟨b,hl,hb⟩,trivial⟩,rfl,rfl,⟨λ_ _=>trivial,trivial⟩⟩
def BP.ok(p:BP):Prop:=p.tn/\∀c∈p.B.cps,∃s∈p.B.svcs,nmB s.name c.service=true
theorem N6(p p':BP × List Int × Nat)(h:[p.1.v,.iface 3 (.slice none p.2.1.length p.2.2)]=[p'.1.v,.iface 3 (.slice none p'.2.1.length p'.2.2)])(hm:p.1.m++[(3,BZ 3 1 inL p.2.1)]=p'.1.m++[(3,BZ 3 1 inL p'.2.1)]):p=p':=by
 obtain⟨p,s,c⟩:=p;obtain⟨p',s',c'⟩:=p';simp only[BP.m,bkM,List.cons_append,List.nil_append,List.cons.injEq,Prod.mk.injEq,true_and,and_true,Value.iface.injEq,Value.slice.injEq]at h hm;rw[BP.inj h.1 hm.1 hm.2.1 hm.2.2.1,Eg Kq hm.2.2.2,h.2.2]
section
variable {RD:(Nat->Prop)->World->Nat->Nat->Prop}
abbrev ctEnds:Ct:=ctV (λp:BP × List Int × Nat=>[p.1.v,.iface 3 (.slice none p.2.1.length p.2.2)]) (λp=>p.1.m++[(3,BZ 3 1 inL p.2.1)]) (λp=>p.1.tn/\Pls p.1.B.cps.length p.2.1) λp v es=>endsOut p.2.1.length v es
theorem ends_ct(hR:Cc RD):CN Tryz.prog RD 106 0 ctEnds:=by
 refine Cu (BC hR) Tryz.func106 (by kernel_rfl) (by kernel_rfl) (λ_=>rfl) N6 ?_;rintro⟨⟨B,c1,c2,c3⟩,L,cL⟩ ⟨⟨_,hl,_⟩,hL,hLx⟩;have hl:B.cps.length<=1000:=hl;have hL:L.length<=B.cps.length:=hL;have hLx:∀x∈L,0<=x/\x<B.cps.length:=hLx;refine⟨λn s=>∃(x:Int) (xs:List En) (k cp:Nat),0<=x/\x<=L.length/\n=L.length - x.toNat/\k=xs.length/\(k:Int)<=x/\s=⟨[(6,.int .i64 x),(5,.iface 80 (.slice none k cp)),(2,.complex .f64 64 0),(1,.iface 3 (.slice none L.length cL))],(80,Ap 163 2 cp enL xs)::(64,AZ (EQ B c1 c2 c3) 27)::(bkM B++[(3,BZ 3 1 inL L)]),100,0⟩,L.length,⟨_,(by refine⟨[],?_,?_,rfl,rfl,AG _⟩<;>repeat' (first|exact rfl|exact trivial|exact⟨Dw 163 2 [],rfl,FX (f:=enL) []⟩|exact⟨_,rfl,.same _ _ rfl⟩|apply And.intro)),0,[],0,0,by omega,by omega,by omega,rfl,by omega,rfl⟩,?_⟩;rintro n _ ⟨x,xs,k,cp,h0,h1,rfl,hk,hkx,rfl⟩;refine And.intro (λhlt=>?_) (λhlt=>?_)
 ·refine And.intro h0 (And.intro hlt (And.intro (AG _) (λa ha=>?_)))
  have ha':=hLx a (AE ha);refine And.intro ha'.1 (And.intro ha'.2 (And.intro (AG _) (λb hb=>?_)));refine And.intro h0 (And.intro hlt (And.intro (AG _) (λa2 ha2=>?_)));have ha2':=hLx a2 (AE ha2);refine And.intro ha2'.1 (And.intro ha2'.2 (And.intro (AG _) (λb2 hb2=>?_)));refine And.intro hk (And.intro rfl (And.intro (AG _) (And.intro (by omega) (λc'=>?_))));intro y hy;have hy:=hy ⟨by omega,by omega⟩;refine⟨L.length - y.toNat,by omega,_,?_,y,xs++[⟨b.number,b2.version⟩],k+1,c',by omega,by omega,rfl,by rw[hk];simp,by omega,rfl⟩;refine⟨[(80,300)],?_,?_,rfl,rfl,AG _⟩<;>repeat' (first|exact rfl|exact trivial|exact⟨_,rfl,DO (f:=enL) xs ⟨b.number,b2.version⟩⟩|exact⟨_,rfl,.same _ _ rfl⟩|apply And.intro)
 ·subst hk
  exact⟨.inl rfl,_,rfl,Hf (P:=λl=>l.length<=L.length) (by omega) rfl (.same _ _ rfl),rfl⟩
abbrev ctMayL:Ct:=ctV (λp:BP × List Int × Nat=>[p.1.v,.iface 3 (.slice none p.2.1.length p.2.2)]) (λp=>p.1.m++[(3,BZ 3 1 inL p.2.1)]) (λp=>p.1.ok/\Pls p.1.B.cps.length p.2.1) λp v es=>IR p.1.B.cps.length v es
theorem mayL_ct(hR:Cc RD):CN Tryz.prog RD 119 0 ctMayL:=by
 refine Cu (Ab (BC hR) (f:=114) (by kernel_rfl) (Mi hR)) Tryz.func119 (by kernel_rfl) (by kernel_rfl) (λ_=>rfl) N6 ?_;rintro⟨⟨B,c1,c2,c3⟩,L,cL⟩ ⟨⟨ht,hok⟩,hL,hLx⟩;have hl:B.cps.length<=1000:=ht.2.1;have hL:L.length<=B.cps.length:=hL;have hLx:∀x∈L,0<=x/\x<B.cps.length:=hLx;have hok:∀c∈B.cps,∃s∈B.svcs,nmB s.name c.service=true:=hok;refine⟨λn s=>∃(x:Int) (xs:List Int) (k cp:Nat),0<=x/\x<=L.length/\n=L.length - x.toNat/\k=xs.length/\(k:Int)<=x/\(∀y∈xs,0<=y/\y<B.cps.length)/\s=⟨[(6,.int .i64 x),(5,.iface 80 (.slice none k cp)),(2,.complex .f64 64 0),(1,.iface 3 (.slice none L.length cL))],(80,Ap 3 1 cp inL xs)::(64,AZ (EQ B c1 c2 c3) 27)::(bkM B++[(3,BZ 3 1 inL L)]),100,0⟩,L.length,⟨_,(by refine⟨[],?_,?_,rfl,rfl,AG _⟩<;>repeat' (first|exact rfl|exact trivial|exact⟨Dw 3 1 [],rfl,FX (f:=inL) []⟩|exact⟨_,rfl,.same _ _ rfl⟩|apply And.intro)),0,[],0,0,by omega,by omega,by omega,rfl,by omega,(λ_ h=>(nomatch h)),rfl⟩,?_⟩;rintro n _ ⟨x,xs,k,cp,h0,h1,rfl,hk,hkx,hxs,rfl⟩;refine And.intro (λhlt=>?_) (λhlt=>?_)
 ·refine And.intro h0 (And.intro hlt (And.intro (AG _) (λa ha=>?_)))
  have ha':=hLx a (AE ha);refine And.intro ha'.1 (And.intro ha'.2 (And.intro (AG _) (λb hb=>?_)));refine And.intro h0 (And.intro hlt (And.intro (AG _) (λa2 ha2=>?_)));have ha2':=hLx a2 (AE ha2);refine And.intro ha2'.1 (And.intro ha2'.2 (And.intro (AG _) (λb2 hb2=>?_)));refine⟨(⟨B,c1,c2,c3⟩,b.service,b2.number),rfl,⟨ht,hok b (AE hb)⟩,?_⟩;rintro _ _ ⟨rfl,r,rfl,_⟩
  cases r with
  |false=>
   intro y hy;have hy:=hy ⟨by omega,by omega⟩;refine⟨L.length - y.toNat,by omega,_,?_,y,xs,k,cp,by omega,by omega,rfl,hk,by omega,hxs,rfl⟩;refine⟨[],?_,?_,rfl,rfl,AG _⟩<;>repeat' (first|exact rfl|exact trivial|exact⟨_,rfl,.same _ _ rfl⟩|apply And.intro)
  |true=>
   refine And.intro h0 (And.intro hlt (And.intro (AG _) (λa3 ha3=>?_)));refine And.intro hk (And.intro rfl (And.intro (AG _) (And.intro (by omega) (λc'=>?_))));intro y hy;have hy:=hy ⟨by omega,by omega⟩;refine⟨L.length - y.toNat,by omega,_,?_,y,xs++[a3],k+1,c',by omega,by omega,rfl,by rw[hk];simp,by omega,(λy hy=>(List.mem_append.1 hy).elim (hxs y) (λh=>by rw[List.mem_singleton.1 h];exact hLx a3 (AE ha3))),rfl⟩;refine⟨[(80,340)],?_,?_,rfl,rfl,AG _⟩<;>repeat' (first|exact rfl|exact trivial|exact⟨_,rfl,DO (f:=inL) xs a3⟩|exact⟨_,rfl,.same _ _ rfl⟩|apply And.intro)
 ·subst hk
  exact⟨.inl rfl,_,rfl,Hd (n:=B.cps.length) ⟨by omega,hxs⟩ rfl (.same _ _ rfl),rfl⟩
end
section
variable {RD:(Nat->Prop)->World->Nat->Nat->Prop}
abbrev ctSome:Ct:=ctV (λp:BP × Svc × Int=>[p.1.v,FE p.2.1,.int .i64 p.2.2]) (λp=>p.1.m) (λp=>p.1.tn) λp v es=>IR p.1.B.cps.length v es
theorem NQ(hR:Cc RD):CN Tryz.prog RD 107 0 ctSome:=by
 refine Cu (Ab (Ab (BC hR) (f:=108) (by kernel_rfl) (IQ hR)) (f:=117) (by kernel_rfl) (KO hR)) Tryz.func107 (by kernel_rfl) (by kernel_rfl) (λ_=>rfl) (λp p' h hm=>?_) ?_
 ·obtain⟨p,s,n⟩:=p
  obtain⟨p',s',n'⟩:=p';simp only[BP.m,bkM,List.cons.injEq,Prod.mk.injEq,true_and,and_true,Value.int.injEq]at h hm;rw[BP.inj h.1 hm.1 hm.2.1 hm.2.2,DR h.2.1,h.2.2]
 rintro⟨⟨B,c1,c2,c3⟩,s,wh⟩ ht;have hl:B.cps.length<=1000:=ht.2.1;refine⟨(⟨B,c1,c2,c3⟩,s.name),rfl,ht,?_⟩;rintro _ _ ⟨L,cL,rfl,rfl,hL,hLx⟩;have hL:L.length<=B.cps.length:=hL;have hLx:∀x∈L,0<=x/\x<B.cps.length:=hLx;refine⟨λn z=>∃(x:Int) (xs:List Int) (k cp:Nat),0<=x/\x<=L.length/\n=L.length - x.toNat/\k=xs.length/\(k:Int)<=x/\(∀y∈xs,0<=y/\y<B.cps.length)/\z=⟨[(9,.int .i64 x),(8,.iface 128 (.slice none L.length cL)),(7,.iface 88 (.slice none k cp)),(3,.complex .f64 64 0),(4,.complex .f64 72 0),(2,.int .i64 wh)],(128,Ap 3 1 cL inL L)::(88,Ap 3 1 cp inL xs)::(72,AZ (svL s) 29)::(64,AZ (EQ B c1 c2 c3) 27)::bkM B,200,0⟩,L.length,⟨_,(by refine⟨[],?_,?_,rfl,rfl,AG _⟩<;>repeat' (first|exact rfl|exact trivial|exact⟨Dw 3 1 [],rfl,FX (f:=inL) []⟩|exact⟨_,rfl,.same _ _ rfl⟩|apply And.intro)),0,[],0,0,by omega,by omega,by omega,rfl,by omega,(λ_ h=>(nomatch h)),rfl⟩,?_⟩;rintro n _ ⟨x,xs,k,cp,h0,h1,rfl,hk,hkx,hxs,rfl⟩;refine And.intro (λhlt=>?_) (λhlt=>?_)
 ·refine And.intro h0 (And.intro hlt (And.intro (AG _) (And.intro (show x.toNat<L.length by omega) (λa ha=>?_))))
  have ha':=hLx a (AE ha);refine And.intro ha'.1 (And.intro ha'.2 (And.intro (AG _) (λb hb=>?_)));refine And.intro (λh2=>?_) (λh2=>?_)
  ·refine And.intro (λhi=>?_) (λhi=>?_)
   ·(refine And.intro h0 (And.intro hlt (And.intro (AG _) (And.intro (show x.toNat<L.length by omega) (λa3 ha3=>?_))));refine And.intro hk (And.intro rfl (And.intro (AG _) (And.intro (by omega) (λc'=>?_))));intro y hy;replace hy:=hy ⟨by omega,by omega⟩;refine⟨L.length - y.toNat,by omega,_,?_,y,xs++[a3],k+1,c',by omega,by omega,rfl,by rw[hk];simp,by omega,(λy hy=>(List.mem_append.1 hy).elim (hxs y) (λh=>by rw[List.mem_singleton.1 h];exact hLx a3 (AE ha3))),rfl⟩;refine⟨[(88,576)],?_,?_,rfl,rfl,AG _⟩<;>repeat' (first|exact rfl|exact trivial|exact⟨_,rfl,DO (f:=inL) xs a3⟩|exact⟨_,rfl,.same _ _ rfl⟩|apply And.intro))
   ·refine And.intro (λh6=>absurd (h2.symm.trans h6) (by decide)) (λh6=>?_)
    refine And.intro (λh3=>absurd (h2.symm.trans h3) (by decide)) (λh3=>?_)
    (intro y hy;replace hy:=hy ⟨by omega,by omega⟩;refine⟨L.length - y.toNat,by omega,_,?_,y,xs,k,cp,by omega,by omega,rfl,hk,by omega,hxs,rfl⟩;refine⟨[],?_,?_,rfl,rfl,AG _⟩<;>repeat' (first|exact rfl|exact trivial|exact⟨_,rfl,.same _ _ rfl⟩|apply And.intro))
  ·refine And.intro (λh6=>?_) (λh6=>?_)
   ·refine⟨(⟨B,c1,c2,c3⟩,b),rfl,ht,?_⟩
    rintro _ _ ⟨rfl,r,rfl⟩
    cases r with
    |true=>(refine And.intro h0 (And.intro hlt (And.intro (AG _) (And.intro (show x.toNat<L.length by omega) (λa3 ha3=>?_))));refine And.intro hk (And.intro rfl (And.intro (AG _) (And.intro (by omega) (λc'=>?_))));intro y hy;replace hy:=hy ⟨by omega,by omega⟩;refine⟨L.length - y.toNat,by omega,_,?_,y,xs++[a3],k+1,c',by omega,by omega,rfl,by rw[hk];simp,by omega,(λy hy=>(List.mem_append.1 hy).elim (hxs y) (λh=>by rw[List.mem_singleton.1 h];exact hLx a3 (AE ha3))),rfl⟩;refine⟨[(88,576)],?_,?_,rfl,rfl,AG _⟩<;>repeat' (first|exact rfl|exact trivial|exact⟨_,rfl,DO (f:=inL) xs a3⟩|exact⟨_,rfl,.same _ _ rfl⟩|apply And.intro))
    |false=>
     refine And.intro (λh3=>absurd (h6.symm.trans h3) (by decide)) (λh3=>?_)
     (intro y hy;replace hy:=hy ⟨by omega,by omega⟩;refine⟨L.length - y.toNat,by omega,_,?_,y,xs,k,cp,by omega,by omega,rfl,hk,by omega,hxs,rfl⟩;refine⟨[],?_,?_,rfl,rfl,AG _⟩<;>repeat' (first|exact rfl|exact trivial|exact⟨_,rfl,.same _ _ rfl⟩|apply And.intro))
   ·refine And.intro (λh3=>?_) (λh3=>?_)
    ·refine And.intro (λh4=>?_) (λh4=>?_)
     ·(refine And.intro h0 (And.intro hlt (And.intro (AG _) (And.intro (show x.toNat<L.length by omega) (λa3 ha3=>?_))));refine And.intro hk (And.intro rfl (And.intro (AG _) (And.intro (by omega) (λc'=>?_))));intro y hy;replace hy:=hy ⟨by omega,by omega⟩;refine⟨L.length - y.toNat,by omega,_,?_,y,xs++[a3],k+1,c',by omega,by omega,rfl,by rw[hk];simp,by omega,(λy hy=>(List.mem_append.1 hy).elim (hxs y) (λh=>by rw[List.mem_singleton.1 h];exact hLx a3 (AE ha3))),rfl⟩;refine⟨[(88,576)],?_,?_,rfl,rfl,AG _⟩<;>repeat' (first|exact rfl|exact trivial|exact⟨_,rfl,DO (f:=inL) xs a3⟩|exact⟨_,rfl,.same _ _ rfl⟩|apply And.intro))
     ·(intro y hy;replace hy:=hy ⟨by omega,by omega⟩;refine⟨L.length - y.toNat,by omega,_,?_,y,xs,k,cp,by omega,by omega,rfl,hk,by omega,hxs,rfl⟩;refine⟨[],?_,?_,rfl,rfl,AG _⟩<;>repeat' (first|exact rfl|exact trivial|exact⟨_,rfl,.same _ _ rfl⟩|apply And.intro))
    ·(intro y hy;replace hy:=hy ⟨by omega,by omega⟩;refine⟨L.length - y.toNat,by omega,_,?_,y,xs,k,cp,by omega,by omega,rfl,hk,by omega,hxs,rfl⟩;refine⟨[],?_,?_,rfl,rfl,AG _⟩<;>repeat' (first|exact rfl|exact trivial|exact⟨_,rfl,.same _ _ rfl⟩|apply And.intro))
 ·subst hk
  exact⟨.inl rfl,_,rfl,Hd (n:=B.cps.length) ⟨by omega,hxs⟩ rfl (.same _ _ rfl),rfl⟩
end
end
end Go.Proofs.YtbceafpodamnfaaGreat
