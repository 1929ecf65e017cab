import Derived.Test.YtbceafpodamnfaaGreatH14
import Derived.Test.YtbceafpodamnfaaGreatH15
set_option linter.all false
set_option maxHeartbeats 4000000
set_option maxRecDepth 100000
namespace Go.Proofs.YtbceafpodamnfaaGreat
section
open Go Go.RowKit
section
variable {RD:(Nat->Prop)->World->Nat->Nat->Prop}
abbrev ctFirst:Ct:=ctV (λp:BP × Svc × List Int × Nat=>[p.1.v,FE p.2.1,.iface 3 (.slice none p.2.2.1.length p.2.2.2)]) (λp=>p.1.m++[(3,BZ 3 1 inL p.2.2.1)]) (λp=>p.1.tn/\Pls p.1.B.cps.length p.2.2.1) λp=>endsP λl=>l.length<=1/\(0<p.2.2.1.length->l.length=1)
theorem Ly(hR:Cc RD):CN Tryz.prog RD 118 0 ctFirst:=by
 refine Cu (Ab (BC hR) (f:=123) (by kernel_rfl) (OG hR)) Tryz.func118 (by kernel_rfl) (by kernel_rfl) (λ_=>rfl) (λp p' h hm=>?_) ?_
 ·obtain⟨p,sv,s,c⟩:=p
  obtain⟨p',sv',s',c'⟩:=p';simp only[BP.m,bkM,List.cons_append,List.nil_append,List.cons.injEq,Prod.mk.injEq,true_and,and_true,Value.iface.injEq,Value.slice.injEq]at h hm;rw[BP.inj h.1 hm.1 hm.2.1 hm.2.2.1,DR h.2.1,Eg Kq hm.2.2.2,h.2.2.2]
 rintro⟨⟨B,c1,c2,c3⟩,s,L,cL⟩ ⟨ht,hL,hLx⟩;have hl:B.cps.length<=1000:=ht.2.1;have hL:L.length<=B.cps.length:=hL;have hLx:∀x∈L,0<=x/\x<B.cps.length:=hLx;refine And.intro (λh0=>?_) (λh0=>?_)
 ·have h0:(L.length:Int)=0:=h0
  exact⟨.inl rfl,_,rfl,Hf (P:=λl=>l.length<=1/\(0<L.length->l.length=1)) (l:=[]) ⟨by simp,λh=>by omega⟩ rfl (FX (f:=enL) []),rfl⟩
 have h0:¬(L.length:Int)=0:=h0;refine And.intro (Int.le_refl 0) (And.intro (show(0:Int)<L.length by omega) (And.intro (AG _) (λa ha=>?_)));have ha':=hLx a (AE ha);refine And.intro ha'.1 (And.intro ha'.2 (And.intro (AG _) (λb hb=>?_)));refine⟨λn z=>∃(x:Int) (c:Cp),1<=x/\x<=L.length/\n=L.length - x.toNat/\z=⟨[(8,.int .i64 x),(7,.complex .f64 168 0),(2,.iface 3 (.slice none L.length cL)),(3,.complex .f64 64 0),(4,.complex .f64 72 0)],(168,AZ (cpL c) 49)::(72,AZ (svL s) 29)::(64,AZ (EQ B c1 c2 c3) 27)::(bkM B++[(3,BZ 3 1 inL L)]),200,0⟩,L.length - 1,⟨_,(by refine⟨[],?_,?_,rfl,rfl,AG _⟩<;>repeat' (first|exact rfl|exact trivial|exact⟨_,rfl,.same _ _ rfl⟩|apply And.intro)),1,b,by omega,by omega,by omega,rfl⟩,?_⟩;rintro n _ ⟨x,c,h1,h2,rfl,rfl⟩;refine And.intro (λhlt=>?_) (λhlt=>?_)
 ·refine And.intro (by omega) (And.intro hlt (And.intro (AG _) (λa ha=>?_)))
  have ha':=hLx a (AE ha);refine And.intro ha'.1 (And.intro ha'.2 (And.intro (AG _) (λb hb=>?_)));refine⟨(⟨B,c1,c2,c3⟩,b,c,s.image),rfl,ht,?_⟩;rintro _ _ ⟨rfl,r,rfl⟩
  cases r with
  |true=>
   refine And.intro (by omega) (And.intro hlt (And.intro (AG _) (λa2 ha2=>?_)));have ha2':=hLx a2 (AE ha2);refine And.intro ha2'.1 (And.intro ha2'.2 (And.intro (AG _) (λb2 hb2=>?_)));intro y hy
   replace hy:=hy ⟨by omega,by omega⟩
   refine⟨L.length - y.toNat,by omega,_,?_,y,b2,by omega,by omega,rfl,rfl⟩;refine⟨[],?_,?_,rfl,rfl,AG _⟩<;>repeat' (first|exact rfl|exact trivial|exact⟨_,rfl,.same _ _ rfl⟩|apply And.intro)
  |false=>
   intro y hy
   replace hy:=hy ⟨by omega,by omega⟩
   refine⟨L.length - y.toNat,by omega,_,?_,y,c,by omega,by omega,rfl,rfl⟩;refine⟨[],?_,?_,rfl,rfl,AG _⟩<;>repeat' (first|exact rfl|exact trivial|exact⟨_,rfl,.same _ _ rfl⟩|apply And.intro)
 ·exact⟨.inl rfl,_,rfl,Hf (P:=λl=>l.length<=1/\(0<L.length->l.length=1)) (l:=[⟨c.number,c.version⟩]) ⟨by simp,λ_=>rfl⟩ rfl (FX (f:=enL) [⟨c.number,c.version⟩]),rfl⟩
end
def acV(n:ByteArray)(a b c d:Int)(x:Bool)(E:Value)(y:Bool):Value:=.agg #[.string n,.int .i64 a,.int .i64 b,.int .i64 c,.int .i64 d,.bool x,E,.bool y]
abbrev ac0 (n:ByteArray) (a:Int):Value:=acV n a 0 0 0 false (.slice none 0 0) false
def Ff(v:Value)(es:AV):Prop:=∃n a b c d x E y,v=acV n a b c d x E y/\((E=.slice none 0 0/\es=[])\/∃(l:List En) (cp:Nat),E=.iface 0 (.slice none l.length cp)/\es=[(0,Ap 163 2 cp enL l)]/\l.length<=1000)
theorem BU{n:ByteArray}{a b c d:Int}{x y:Bool}{m:AV}:Hz Ff (acV n a b c d x (.slice none 0 0) y) m 0:=
 ⟨_,[],[],⟨n,a,b,c,d,x,_,y,rfl,.inl ⟨rfl,rfl⟩⟩,rfl,trivial,rfl,rfl,trivial⟩
theorem Co{n:ByteArray}{a b c d:Int}{x y:Bool}{m:AV}{i cp:Nat}{l:List En}{v:VB}(h:l.length<=1000)(hl:lk m i=some v)(hb:LeB [(0,i)] v (Ap 163 2 cp enL l)):Hz Ff (acV n a b c d x (.iface i (.slice none l.length cp)) y) m 0:=
 ⟨acV n a b c d x (.iface 0 (.slice none l.length cp)) y,[(0,Ap 163 2 cp enL l)],[(0,i)],⟨n,a,b,c,d,x,_,y,rfl,.inr ⟨l,cp,rfl,rfl,h⟩⟩,rfl,⟨⟨v,hl,hb⟩,trivial⟩,rfl,rfl,⟨λ_ _=>trivial,trivial⟩⟩
theorem K9{n n':ByteArray}{a a':Int}(h:ac0 n a=ac0 n' a'):n=n'/\a=a':=by
 have:=congrArg Array.toList (Value.agg.inj h);simp at this;exact this
section
variable {RD:(Nat->Prop)->World->Nat->Nat->Prop}
abbrev Oc:Ct:=ctV (λs:Svc=>[FE s]) (λ_=>[]) (λs=>s.per≠0) λ_ v es=>es=[]/\∃d,v=.int .i64 d
theorem M2(hR:Cc RD):CN Tryz.prog RD 120 0 Oc:=by
 refine Cu (BC hR) Tryz.func120 (by kernel_rfl) (by kernel_rfl) (λ_=>rfl) (λp p' h _=>DR (List.cons.inj h).1) ?_;intro s hp;refine λn1 _ n2 _=>And.intro hp (λn3 _=>?_)
 refine And.intro (λh=>?_) (λh=>?_)<;>refine And.intro (λh=>?_) (λh=>?_)<;>exact⟨.inl rfl,_,rfl,⟨_,_,[],⟨rfl,_,rfl⟩,rfl,trivial,rfl,rfl,trivial⟩,rfl⟩
abbrev ctScaler:Ct:=ctV (λp:Svc × ByteArray × Int=>[FE p.1,ac0 p.2.1 p.2.2]) (λ_=>[]) (λp=>p.1.per≠0) λ_=>Ff
theorem OK(hR:Cc RD):CN Tryz.prog RD 112 0 ctScaler:=by
 refine Cu (Ab (BC hR) (f:=120) (by kernel_rfl) (M2 hR)) Tryz.func112 (by kernel_rfl) (by kernel_rfl) (λ_=>rfl) (λp p' h _=>?_) ?_
 ·obtain⟨s,n,a⟩:=p
  obtain⟨s',n',a'⟩:=p';simp only[List.cons.injEq,and_true]at h;obtain⟨rfl,rfl⟩:=K9 h.2;rw[DR h.1]
 rintro⟨s,n,a⟩ hp;refine⟨s,rfl,hp,?_⟩;rintro _ _ ⟨rfl,d,rfl⟩
 repeat' (first|refine And.intro (λ_=>?_) (λ_=>?_)|refine λ_ _=>?_|exact⟨.inl rfl,_,rfl,BU,rfl⟩)
end
section
variable {RD:(Nat->Prop)->World->Nat->Nat->Prop}
abbrev Od:Ct:=ctV (λp:BP × Svc × ByteArray × Int=>[p.1.v,FE p.2.1,ac0 p.2.2.1 p.2.2.2]) (λp=>p.1.m) (λp=>p.1.tn/\0<=p.2.1.want/\∃s∈p.1.B.svcs,nmB s.name p.2.1.name=true) λ_=>Ff
theorem M9(hR:Cc RD):CN Tryz.prog RD 110 0 Od:=by
  refine Cu (Ab (Ab (Ab (Ab (BC hR) (f:=108) (by kernel_rfl) (IQ hR)) (f:=107) (by kernel_rfl) (NQ hR)) (f:=118) (by kernel_rfl) (Ly hR)) (f:=114) (by kernel_rfl) (Mi hR)) Tryz.func110 (by kernel_rfl) (by kernel_rfl) (λ_=>rfl) (λp p' h hm=>?_) ?_
  · obtain⟨p,s,n,a⟩:=p
    obtain⟨p',s',n',a'⟩:=p';simp only[BP.m,bkM,List.cons.injEq,Prod.mk.injEq,true_and,and_true]at h hm;obtain⟨rfl,rfl⟩:=K9 h.2.2;rw[BP.inj h.1 hm.1 hm.2.1 hm.2.2,DR h.2.1]
  rintro⟨⟨B,c1,c2,c3⟩,s,n,a⟩ ⟨ht,hw,hs⟩;have hw:0<=s.want:=hw;refine⟨(⟨B,c1,c2,c3⟩,s.name),rfl,ht,?_⟩;rintro _ _ ⟨L,cL,rfl,rfl,hL,hLx⟩;refine And.intro (λh=>?_) (λh=>?_)
  · refine λ_ _=>?_
    exact⟨.inl rfl,_,rfl,BU,rfl⟩
  refine⟨(⟨B,c1,c2,c3⟩,s,2),rfl,ht,?_⟩;rintro _ _ ⟨L2,cL2,rfl,rfl,_,_⟩;refine And.intro (λh2=>?_) (λh2=>?_)
  · refine⟨(⟨B,c1,c2,c3⟩,s,6),rfl,ht,?_⟩
    rintro _ _ ⟨L3,cL3,rfl,rfl,_,_⟩;refine And.intro (λh3=>?_) (λh3=>?_)<;>refine And.intro (λhg=>?_) (λhg=>?_)
    all_goals try (refine λ_ _=>And.intro (λ_=>?_) (λ_=>?_))
    all_goals first
      |exact⟨.inl rfl,_,rfl,BU,rfl⟩
      | (have hg : s.want < L.length := hg
         refine⟨(⟨B,c1,c2,c3⟩,s,L,cL),rfl,⟨ht,hL,hLx⟩,?_⟩;rintro _ _ ⟨l,cp,rfl,rfl,hl1,hl2⟩;have hl2:l.length=1:=hl2 (show 0<L.length by omega);refine And.intro (Int.le_refl 0) (And.intro (show(0:Int)<l.length by omega) (And.intro (AG _) (And.intro (show 0<l.length by omega) (λe he=>?_))));refine⟨(⟨B,c1,c2,c3⟩,s.name,e.number),rfl,⟨ht,hs⟩,?_⟩;rintro _ _ ⟨rfl,r,rfl,_⟩
         cases r with
         |true=>exact⟨.inl rfl,_,rfl,Co (l:=l) (by omega) rfl (.same _ _ rfl),rfl⟩
         |false=>exact⟨.inl rfl,_,rfl,BU,rfl⟩)
  · refine And.intro (λhg=>?_) (λhg=>?_)
    all_goals try (refine λ_ _=>And.intro (λ_=>?_) (λ_=>?_))
    all_goals first
      |exact⟨.inl rfl,_,rfl,BU,rfl⟩
      | (have hg : s.want < L.length := hg
         refine⟨(⟨B,c1,c2,c3⟩,s,L,cL),rfl,⟨ht,hL,hLx⟩,?_⟩;rintro _ _ ⟨l,cp,rfl,rfl,hl1,hl2⟩;have hl2:l.length=1:=hl2 (show 0<L.length by omega);refine And.intro (Int.le_refl 0) (And.intro (show(0:Int)<l.length by omega) (And.intro (AG _) (And.intro (show 0<l.length by omega) (λe he=>?_))));refine⟨(⟨B,c1,c2,c3⟩,s.name,e.number),rfl,⟨ht,hs⟩,?_⟩;rintro _ _ ⟨rfl,r,rfl,_⟩
         cases r with
         |true=>exact⟨.inl rfl,_,rfl,Co (l:=l) (by omega) rfl (.same _ _ rfl),rfl⟩
         |false=>exact⟨.inl rfl,_,rfl,BU,rfl⟩)
abbrev Ob:Ct:=ctV (λp:BP × Svc × (ByteArray × Int) × List Int × Nat=>[p.1.v,FE p.2.1,ac0 p.2.2.1.1 p.2.2.1.2,.iface 3 (.slice none p.2.2.2.1.length p.2.2.2.2)]) (λp=>p.1.m++[(3,BZ 3 1 inL p.2.2.2.1)]) (λp=>p.1.ok/\Pls p.1.B.cps.length p.2.2.2.1) λ_=>Ff
theorem MX(hR:Cc RD):CN Tryz.prog RD 111 0 Ob:=by
  refine Cu (Ab (Ab (Ab (BC hR) (f:=108) (by kernel_rfl) (IQ hR)) (f:=119) (by kernel_rfl) (mayL_ct hR)) (f:=118) (by kernel_rfl) (Ly hR)) Tryz.func111 (by kernel_rfl) (by kernel_rfl) (λ_=>rfl) (λp p' h hm=>?_) ?_
  · obtain⟨p,sv,⟨n,a⟩,s,c⟩:=p
    obtain⟨p',sv',⟨n',a'⟩,s',c'⟩:=p';simp only[BP.m,bkM,List.cons_append,List.nil_append,List.cons.injEq,Prod.mk.injEq,true_and,and_true,Value.iface.injEq,Value.slice.injEq]at h hm;obtain⟨rfl,rfl⟩:=K9 h.2.2.1;rw[BP.inj h.1 hm.1 hm.2.1 hm.2.2.1,DR h.2.1,Eg Kq hm.2.2.2,h.2.2.2.2]
  rintro⟨⟨B,c1,c2,c3⟩,s,⟨n,a⟩,L,cL⟩ ⟨ht,hL,hLx⟩;refine⟨(⟨B,c1,c2,c3⟩,s.name),rfl,ht.1,?_⟩;rintro _ _ ⟨L1,cL1,rfl,rfl,_,_⟩;refine And.intro (λh=>?_) (λh=>?_)
  · exact⟨.inl rfl,_,rfl,BU,rfl⟩
  refine And.intro (λh=>?_) (λh=>?_)
  · exact⟨.inl rfl,_,rfl,BU,rfl⟩
  refine λ_ _=>And.intro (λ_=>?_) (λ_=>?_)
  · exact⟨.inl rfl,_,rfl,BU,rfl⟩
  refine⟨(⟨B,c1,c2,c3⟩,L,cL),rfl,⟨ht,hL,hLx⟩,?_⟩;rintro _ _ ⟨L2,cL2,rfl,rfl,hL2⟩;refine⟨(⟨B,c1,c2,c3⟩,s,L2,cL2),rfl,⟨ht.1,hL2⟩,?_⟩;rintro _ _ ⟨l,cp,rfl,rfl,hl1,hl2⟩;exact⟨.inl rfl,_,rfl,Co (l:=l) (by omega) rfl (.same _ _ rfl),rfl⟩
end
section
variable {RD:(Nat->Prop)->World->Nat->Nat->Prop}
abbrev ctAct:Ct:=ctV (λp:Int × BP × Svc=>[.int .i64 p.1,p.2.1.v,FE p.2.2]) (λp=>p.2.1.m) (λp=>p.2.1.ok/\0<=p.2.2.want/\∃s∈p.2.1.B.svcs,nmB s.name p.2.2.name=true) λ_=>Ff
theorem act_ct(hR:Cc RD):CN Tryz.prog RD 99 0 ctAct:=by
 refine Cu (Ab (Ab (Ab (Ab (Ab (Ab (Ab (BC hR) (f:=108) (by kernel_rfl) (IQ hR)) (f:=107) (by kernel_rfl) (NQ hR)) (f:=106) (by kernel_rfl) (ends_ct hR)) (f:=109) (by kernel_rfl) (JZ hR)) (f:=110) (by kernel_rfl) (M9 hR)) (f:=111) (by kernel_rfl) (MX hR)) (f:=112) (by kernel_rfl) (OK hR)) Tryz.func99 (by kernel_rfl) (by kernel_rfl) (λ_=>rfl) (λp p' h hm=>?_) ?_
 ·obtain⟨k,p,s⟩:=p
  obtain⟨k',p',s'⟩:=p';simp only[BP.m,bkM,List.cons.injEq,Prod.mk.injEq,true_and,and_true,Value.int.injEq]at h hm;rw[h.1,BP.inj h.2.1 hm.1 hm.2.1 hm.2.2,DR h.2.2]
 rintro⟨k,⟨B,c1,c2,c3⟩,s⟩ ⟨ht,hw,hs⟩;have hw:0<=s.want:=hw;have hl:B.cps.length<=1000:=ht.1.2.1;refine And.intro (λh3=>?_) (λh3=>?_)
 ·refine⟨(⟨B,c1,c2,c3⟩,s,k),rfl,ht.1,?_⟩
  rintro _ _ ⟨L,cL,rfl,rfl,hL⟩;have hL1:L.length<=B.cps.length:=hL.1;refine⟨(⟨B,c1,c2,c3⟩,L,cL),rfl,⟨ht.1,hL⟩,?_⟩;rintro _ _ ⟨l,cp,rfl,rfl,hl'⟩;have hl':l.length<=L.length:=hl';exact⟨.inl rfl,_,rfl,Co (l:=l) (by omega) rfl (.same _ _ rfl),rfl⟩
 refine And.intro (λhg=>?_) (λhg=>?_)
 ·refine And.intro (λh5=>?_) (λh5=>?_)
  ·refine⟨(⟨B,c1,c2,c3⟩,s.name),rfl,ht.1,?_⟩
   rintro _ _ ⟨L,cL,rfl,rfl,hL⟩;have hL1:L.length<=B.cps.length:=hL.1;refine⟨(⟨B,c1,c2,c3⟩,L,cL),rfl,⟨ht.1,hL⟩,?_⟩;rintro _ _ ⟨l,cp,rfl,rfl,hl'⟩;have hl':l.length<=L.length:=hl';refine⟨(⟨B,c1,c2,c3⟩,s.name),rfl,ht.1,?_⟩;rintro _ _ ⟨rfl,a,b,c,d,e,rfl⟩;refine λ_ _=>And.intro (λ_=>?_) (λ_=>?_)<;>exact⟨.inl rfl,_,rfl,Co (l:=l) (by omega) rfl (.same _ _ rfl),rfl⟩
  ·exact⟨.inl rfl,_,rfl,BU,rfl⟩
 refine And.intro (λh1=>?_) (λh1=>?_)
 ·refine⟨(⟨B,c1,c2,c3⟩,s,s.name,s.version),rfl,⟨ht.1,hw,hs⟩,?_⟩
  rintro _ _ ⟨n,a,b,c,d,x,E,y,rfl,(⟨rfl,rfl⟩|⟨l,cp,rfl,rfl,hl'⟩)⟩
  ·exact⟨.inl rfl,_,rfl,BU,rfl⟩
  ·exact⟨.inl rfl,_,rfl,Co (l:=l) hl' rfl (.same _ _ rfl),rfl⟩
 refine And.intro (λh2=>?_) (λh2=>?_)
 ·refine⟨(⟨B,c1,c2,c3⟩,s,k),rfl,ht.1,?_⟩
  rintro _ _ ⟨L,cL,rfl,rfl,hL⟩;refine⟨(⟨B,c1,c2,c3⟩,s,(s.name,s.version),L,cL),rfl,⟨ht,hL⟩,?_⟩;rintro _ _ ⟨n,a,b,c,d,x,E,y,rfl,(⟨rfl,rfl⟩|⟨l,cp,rfl,rfl,hl'⟩)⟩
  ·exact⟨.inl rfl,_,rfl,BU,rfl⟩
  ·exact⟨.inl rfl,_,rfl,Co (l:=l) hl' rfl (.same _ _ rfl),rfl⟩
 refine And.intro (λh6=>?_) (λh6=>?_)
 ·refine⟨(⟨B,c1,c2,c3⟩,s,2),rfl,ht.1,?_⟩
  rintro _ _ ⟨L2,cL2,rfl,rfl,_⟩;refine And.intro (λh=>?_) (λh=>?_)
  ·refine⟨(⟨B,c1,c2,c3⟩,s,k),rfl,ht.1,?_⟩
   rintro _ _ ⟨L,cL,rfl,rfl,hL⟩;refine⟨(⟨B,c1,c2,c3⟩,s,(s.name,s.version),L,cL),rfl,⟨ht,hL⟩,?_⟩;rintro _ _ ⟨n,a,b,c,d,x,E,y,rfl,(⟨rfl,rfl⟩|⟨l,cp,rfl,rfl,hl'⟩)⟩
   ·exact⟨.inl rfl,_,rfl,BU,rfl⟩
   ·exact⟨.inl rfl,_,rfl,Co (l:=l) hl' rfl (.same _ _ rfl),rfl⟩
  ·exact⟨.inl rfl,_,rfl,BU,rfl⟩
 refine And.intro (λh4=>?_) (λh4=>?_)
 ·refine And.intro (λh=>?_) (λh=>?_)
  ·refine⟨(s,s.name,s.version),rfl,Int.ne_of_gt h,?_⟩
   rintro _ _ ⟨n,a,b,c,d,x,E,y,rfl,(⟨rfl,rfl⟩|⟨l,cp,rfl,rfl,hl'⟩)⟩
   ·exact⟨.inl rfl,_,rfl,BU,rfl⟩
   ·exact⟨.inl rfl,_,rfl,Co (l:=l) hl' rfl (.same _ _ rfl),rfl⟩
  ·exact⟨.inl rfl,_,rfl,BU,rfl⟩
 ·exact⟨.inl rfl,_,rfl,BU,rfl⟩
end
structure AP where
 nm:ByteArray
 se:Int
 cr:Int
 wa:Int
 co:Int
 sc:Bool
 en:List En
 ce:Nat
 dr:Bool
def AP.v(i:Nat)(p:AP):Value:=acV p.nm p.se p.cr p.wa p.co p.sc (.iface i (.slice none p.en.length p.ce)) p.dr
def AP.cs(i:Nat)(p:AP):List Value:=[.string p.nm,.int .i64 p.se,.int .i64 p.cr,.int .i64 p.wa,.int .i64 p.co,.bool p.sc,.iface i (.slice none p.en.length p.ce),.bool p.dr]
theorem enL_inj(x y:En)(h:enL x=enL y):x=y:=by
 cases x;cases y;simp only[enL,List.cons.injEq,Value.int.injEq,true_and,and_true]at h;simp only[En.mk.injEq];exact h
theorem AP.inj{p p':AP}{i:Nat}(hv:p.v i=p'.v i)(h:BZ 163 2 enL p.en=BZ 163 2 enL p'.en):p=p':=by
 have e:=Eg enL_inj h;obtain⟨a1,a2,a3,a4,a5,a6,a7,a8,a9⟩:=p;obtain⟨b1,b2,b3,b4,b5,b6,b7,b8,b9⟩:=p';have:=congrArg Array.toList (Value.agg.inj hv);simp at this;simp only at e;obtain⟨rfl,rfl,rfl,rfl,rfl,rfl,⟨_,rfl⟩,rfl⟩:=this;rw[e]
section
variable {RD:(Nat->Prop)->World->Nat->Nat->Prop}
abbrev N0:Ct:=ctV (λp:Cp × Cp=>[cpV p.1,cpV p.2]) (λ_=>[]) (λ_=>True) λ_ v es=>es=[]/\∃b,v=.bool b
theorem ahead_ct(hR:Cc RD):CN Tryz.prog RD 21 0 N0:=by
 refine Cu (BC hR) Tryz.func21 (by kernel_rfl) (by kernel_rfl) (λ_=>rfl) (λp p' h _=>?_) ?_
 ·obtain⟨a,b⟩:=p
  obtain⟨a',b'⟩:=p';simp only[List.cons.injEq,and_true]at h;rw[Gs h.1,Gs h.2]
 rintro⟨a,b⟩ _
 repeat' (first|refine And.intro (λ_=>?_) (λ_=>?_)|exact⟨.inl rfl,_,rfl,⟨_,_,[],⟨rfl,_,rfl⟩,rfl,trivial,rfl,rfl,trivial⟩,rfl⟩)
abbrev N1:Ct:=ctV (λp:AP=>[p.v 0]) (λp=>[(0,BZ 163 2 enL p.en)]) (λ_=>True) λp v es=>es=[]/\∃b,v=.bool b/\(b=true->0<=p.cr/\p.cr<=20/\p.en.length<=200)
theorem actOk_ct(hR:Cc RD):CN Tryz.prog RD 113 0 N1:=by
 refine Cu (Ab (BC hR) (f:=15) (by kernel_rfl) (in_ct hR)) Tryz.func113 (by kernel_rfl) (by kernel_rfl) (λ_=>rfl) (λp p' h hm=>?_) ?_
 ·simp only[List.cons.injEq,Prod.mk.injEq,true_and,and_true]at h hm
  exact AP.inj h hm
 rintro⟨nm,se,cr,wa,co,sc,en,ce,dr⟩ _;refine⟨(cr,0,20),rfl,trivial,?_⟩;rintro _ _ ⟨rfl,r,rfl,hr⟩
 cases r with
 |false=>exact⟨.inl rfl,_,rfl,⟨_,_,[],⟨rfl,false,rfl,λh=>nomatch h⟩,rfl,trivial,rfl,rfl,trivial⟩,rfl⟩
 |true=>
  have hr:0<=cr/\cr<=20:=hr rfl;refine And.intro (λhl=>?_) (λhl=>?_)
  ·exact⟨.inl rfl,_,rfl,⟨_,_,[],⟨rfl,false,rfl,λh=>nomatch h⟩,rfl,trivial,rfl,rfl,trivial⟩,rfl⟩
  have hl:¬(200:Int)<en.length:=hl;have key:∀(b:Bool) m,Hz (λv es=>es=[]/\∃b,v=.bool b/\(b=true->0<=cr/\cr<=20/\en.length<=200)) (.bool b) m 0:=λb m=>⟨_,_,[],⟨rfl,b,rfl,λ_=>⟨hr.1,hr.2,by omega⟩⟩,rfl,trivial,rfl,rfl,trivial⟩
  refine⟨λn s=>∃x:Int,1<=x/\x<=201/\n=201 - x.toNat/\s=⟨[(3,.int .i64 x),(1,.complex .f64 64 0)],[(64,AZ (AP.cs 0 ⟨nm,se,cr,wa,co,sc,en,ce,dr⟩) 134),(0,BZ 163 2 enL en)],100,0⟩,200,⟨_,(by refine⟨[],?_,?_,rfl,rfl,AG _⟩<;>repeat' (first|exact rfl|exact trivial|exact⟨_,rfl,.same _ _ rfl⟩|apply And.intro)),1,by omega,by omega,by omega,rfl⟩,?_⟩;rintro n _ ⟨x,h1,h2,rfl,rfl⟩;refine And.intro (λhlt=>?_) (λhlt=>?_)
  ·have hlt:x<en.length:=hlt
   refine λy hy=>?_
   have hy:=hy ⟨by omega,by omega⟩;refine And.intro (by omega) (And.intro (by omega) (And.intro (AG _) (λe _=>?_)));refine And.intro (by omega) (And.intro hlt (And.intro (AG _) (λe' _=>?_)));refine And.intro (λ_=>?_) (λ_=>?_)
   ·exact⟨.inl rfl,_,rfl,key _ _,rfl⟩
   ·refine λz hz=>?_
    have hz:=hz ⟨by omega,by omega⟩;exact⟨201 - z.toNat,by omega,_,(by refine⟨[],?_,?_,rfl,rfl,AG _⟩<;>repeat' (first|exact rfl|exact trivial|exact⟨_,rfl,.same _ _ rfl⟩|apply And.intro)),z,by omega,by omega,rfl,rfl⟩
  ·repeat' (first|refine And.intro (λ_=>?_) (λ_=>?_)|exact⟨.inl rfl,_,rfl,key _ _,rfl⟩|(refine⟨(wa,0,10),rfl,trivial,?_⟩;rintro _ _ ⟨rfl,r,rfl,_⟩;cases r)|(refine⟨(co,0,3),rfl,trivial,?_⟩;rintro _ _ ⟨rfl,r,rfl,_⟩;cases r))
end
def Rds{X:Type}(b:VB)(sz:Nat)(f:X->List Value)(l:List X):Prop:=(b.kd=1\/b.kd=3)/\b.sz=sz/\l.length<=b.n/\∀j,j<l.length->∀k,(∀x,l[j]?=some x->k (f x))->b.Q j k
theorem Rds.row{X:Type}{ty sz:Nat}{f:X->List Value}{l:List X}:Rds (BZ ty sz f l) sz f l:=⟨.inl rfl,rfl,AG _,λ_ _ _ h=>h⟩
theorem Rds.le{X:Type}{ρ:List (Nat × Nat)}{b:VB}{ty sz cp:Nat}{f:X->List Value}{l:List X}(h:LeB ρ b (Ap ty sz cp f l)):Rds b sz f l:=⟨.inr h.kd,h.sz,h.n,λj hj k hk=>h.Q j hj k hk⟩
theorem Hold.read{RD:(Nat->Prop)->World->Nat->Nat->Prop}{w0 w:World}{G:Gh}{q i sz:Nat}{b:VB}{X:Type}{f:X->List Value}{l:List X}(h:Hold RD w0 G w q i b)(hz:∀k,G.Z k->k<w.heap.size)(hr:Rds b sz f l)(hl:l≠[]):
  ∃g off,G.α i=some ⟨g,off,none⟩/\g<w.heap.size/\∀j x,l[j]?=some x->∀k u,(f x)[k]?=some u->w.cell? ⟨g,off+j*sz+k,none⟩=some u:=by
 obtain⟨hk,rfl,hn,hQ⟩:=hr;have h0:0<l.length:=List.length_pos_iff.2 hl;have isx:∀j x el,l[j]?=some x->(∀k,b.Q j k->k el)->el=f x:=λj x el hx hk=>hk _ (hQ j (AC hx).1 (λe=>e=f x) λy hy=>by rw[hx]at hy;cases hy;rfl)
 rcases hk with hk|hk
 ·obtain⟨g,o,_,e1,e2,_,_⟩:=h.k1 hk 0 (by omega)
  refine⟨g,o,e1,hz g e2,λj x hx k u hu=>?_⟩;obtain⟨g',o',el,e1',_,e3,e4⟩:=h.k1 hk j (AF (AC hx).1 hn);rw[e1]at e1';cases e1';rw[<-isx j x el hx e3]at hu;exact(e4.1 k u hu).1
 ·obtain⟨g,els,e1,_,_,_,r1,r2,r3,r4⟩:=h.k3 hk
  refine⟨g,0,e1,r3.lt,λj x hx k u hu=>?_⟩;have hj:j<els.length:=by rw[r1];exact AF (AC hx).1 hn
  have hel:els[j]?=some els[j]:=by simp
  rw[<-isx j x _ hx (r4 j _ hel).1]at hu;rw[Nat.zero_add];refine r3.cell ?_;have hd:=Np (λe he=>(r2 e he).1) j
  have:(els.flatten.drop (j*b.sz))[k]?=some u:=by
   rw[<-hd,List.drop_eq_getElem_cons hj,List.flatten_cons,List.getElem?_append_left (AC hu).1];exact hu
  rw[List.getElem?_drop]at this;exact this
theorem K5{RD:(Nat->Prop)->World->Nat->Nat->Prop}{w0 w:World}{G:Gh}{q i1 i2 i3:Nat}{b1 b2 b3:VB}{B:Bk}(hz:∀k,G.Z k->k<w.heap.size)(h1:Hold RD w0 G w q i1 b1)(h2:Hold RD w0 G w q i2 b2)(h3:Hold RD w0 G w q i3 b3)(r1:Rds b1 13 svL B.svcs)(r2:Rds b2 7 cpL B.cps)(r3:Rds b3 2 btL B.bts):BkAt w (G.α i1) (G.α i2) (G.α i3) B:=by
 refine⟨λhl=>?_,λhl=>?_,λhl=>?_⟩
 ·obtain⟨g,o,e,hg,hc⟩:=h1.read hz r1 hl
  exact⟨g,o,e,hg,λi s hs=>by
   have c:=hc i s hs;unfold SvcAt
   exact⟨c 0 _ rfl,c 1 _ rfl,c 2 _ rfl,c 3 _ rfl,c 4 _ rfl,c 5 _ rfl,c 6 _ rfl,c 7 _ rfl,c 8 _ rfl,c 9 _ rfl,c 10 _ rfl,c 11 _ rfl,c 12 _ rfl⟩⟩
 ·obtain⟨g,o,e,hg,hc⟩:=h2.read hz r2 hl
  exact⟨g,o,e,hg,λi s hs=>by
   have c:=hc i s hs;unfold CpAt
   exact⟨c 0 _ rfl,c 1 _ rfl,c 2 _ rfl,c 3 _ rfl,c 4 _ rfl,c 5 _ rfl,c 6 _ rfl⟩⟩
 ·obtain⟨g,o,e,hg,hc⟩:=h3.read hz r3 hl
  exact⟨g,o,e,hg,λi s hs=>by
   have c:=hc i s hs;unfold BtAt
   exact⟨c 0 _ rfl,c 1 _ rfl⟩⟩
def bkO(B:Bk)(v:Value)(es:AV):Prop:=∃k1 k2 k3,v=.agg #[.int .i64 B.now,.iface 0 (.slice none B.svcs.length k1),.iface 1 (.slice none B.cps.length k2),.iface 2 (.slice none B.bts.length k3)]/\es=[(0,Ap 29 13 k1 svL B.svcs),(1,Ap 49 7 k2 cpL B.cps),(2,Ap 51 2 k3 btL B.bts)]
abbrev M8:Ct:=ctV (λp:BP=>[p.v]) (λp=>p.m) (λp=>p.tn) λp=>bkO p.B
theorem N5{RD:(Nat->Prop)->World->Nat->Nat->Prop}(hR:Cc RD):CN Tryz.prog RD 16 0 M8:=by
 intro w0 G w q id vs es k0 hz hrl hw0 hes _ _ hC;obtain⟨⟨B,c1,c2,c3⟩,hcan,⟨t1,t2,t3⟩,_⟩:=hC;obtain⟨G0,hargs,hZ0,_,_,hM⟩:=NB (q':=0) (r:=false) (X:=λ_=>False) hR (λ_ h=>h.elim) (λh=>nomatch h) hz hes hcan (nt:=100) rfl;have t1:B.svcs.length<=1000:=t1;have t2:B.cps.length<=1000:=t2;have t3:B.bts.length<=1000:=t3;have hB:BkAt w (G0.α 0) (G0.α 1) (G0.α 2) B:=K5 (λk hk=>(hZ0 k hk).1) (hM 0 _ rfl).2.1 (hM 1 _ rfl).2.1 (hM 2 _ rfl).2.1 .row .row .row;have ha:(vs.map (r2 G.α)).toArray=#[.agg #[.int .i64 B.now,.slice (G0.α 0) B.svcs.length c1,.slice (G0.α 1) B.cps.length c2,.slice (G0.α 2) B.bts.length c3]]:=by rw[<-hargs];simp[BP.v,r2,r1,r0]
 rw[ha];refine(CM B _ _ _ c1 c2 c3 w ⟨by omega,by omega,by omega⟩ hB).mono ?_;rintro e w' ⟨g1,k1,g2,k2,g3,k3,rfl,hrow,hb⟩;have hc1:∀l:List Svc,AY l=(l.map svL).flatten:=λl=>List.flatMap_def
 have hc2:∀l:List Cp,As l=(l.map cpL).flatten:=λl=>List.flatMap_def
 have hc3:∀l:List Bt,Ak l=(l.map btL).flatten:=λl=>List.flatMap_def
 rw[show(Value.agg #[.int .i64 B.now,.slice (some ⟨g1,0,none⟩) B.svcs.length k1,.slice (some ⟨g2,0,none⟩) B.cps.length k2,.slice (some ⟨g3,0,none⟩) B.bts.length k3])=r2 (λx=>match x with|0=>some ⟨g1,0,none⟩|1=>some ⟨g2,0,none⟩|_=>some ⟨g3,0,none⟩) (.agg #[.int .i64 B.now,.iface 0 (.slice none B.svcs.length k1),.iface 1 (.slice none B.cps.length k2),.iface 2 (.slice none B.bts.length k3)]) from by simp[r2,r1,r0]];refine M3 (C:=M8 vs es id) (v:=.agg #[.int .i64 B.now,.iface 0 (.slice none B.svcs.length k1),.iface 1 (.slice none B.cps.length k2),.iface 2 (.slice none B.bts.length k3)]) (es':=[(0,Ap 29 13 k1 svL B.svcs),(1,Ap 49 7 k2 cpL B.cps),(2,Ap 51 2 k3 btL B.bts)]) (β:=λx=>match x with|0=>some ⟨g1,0,none⟩|1=>some ⟨g2,0,none⟩|_=>some ⟨g3,0,none⟩) (cost:=0) (X:=λ_=>False) (λ_ h=>h.elim) (λg hg hd=>hR _ _ _ _ _ _ _ hd (λ_ h=>h) (hb.block g (hrl g hg)) (λk hk=>hb.block k (hz k hk).1) (AG _)) hz hrl hw0 ⟨hb.os,hb.tape,hb.output,hb.size,λk hk _=>hb.block k hk⟩ rfl (λx b hx=>?_) (λx b y c hx hy hne=>?_) (f:=(id+ ·)) (λx hx=>?_) λk hk=>?_
 ·simp only[List.mem_cons,List.not_mem_nil,or_false,Prod.mk.injEq]at hx
  rcases hx with⟨rfl,rfl⟩|⟨rfl,rfl⟩|⟨rfl,rfl⟩
  ·exact⟨g1,_,rfl,hrow.n1,RowK.of KX (hc1 _▸hrow.svcs)⟩
  ·exact⟨g2,_,rfl,hrow.n2,RowK.of Ky (hc2 _▸hrow.cps)⟩
  ·exact⟨g3,_,rfl,hrow.n3,RowK.of K2 (hc3 _▸hrow.bts)⟩
 ·have h12:=hrow.ne12
  have h13:=hrow.ne13;have h23:=hrow.ne23;simp only[List.mem_cons,List.not_mem_nil,or_false,Prod.mk.injEq]at hx hy;rcases hx with⟨rfl,_⟩|⟨rfl,_⟩|⟨rfl,_⟩<;>rcases hy with⟨rfl,_⟩|⟨rfl,_⟩|⟨rfl,_⟩<;>first|exact absurd rfl hne|(intro e;cases e;contradiction)
 ·have hx:x∈[0,1,2]:=hx
  simp only[List.mem_cons,List.not_mem_nil,or_false]at hx;rcases hx with rfl|rfl|rfl<;>exact .inl ⟨_,rfl,rfl⟩
 ·obtain⟨p',hcan2,_,hk⟩:=hk
  rw[hcan]at hcan2;simp only[Prod.mk.injEq,List.cons.injEq,and_true,BP.m,bkM,true_and]at hcan2;have:=BP.inj hcan2.1 hcan2.2.1 hcan2.2.2.1 hcan2.2.2.2;subst this;exact hk _ _ ⟨k1,k2,k3,rfl,rfl⟩
def sndN:Nat->Code->Code
 |n+1,.seq _ b=>sndN n b
 |_,c=>c
abbrev Γ4:List (Nat × Nat × Ct):=[(21,0,N0),(15,0,ctIn),(109,0,Ny),(114,0,ctMay),(16,0,M8),(36,0,M7),(39,0,Hi),(113,0,N1)]
abbrev Ρ4:Sp:=[(35,Oa TT Γ4 (Gg 35 (Tryz.f100.body.getD .skip))),(41,Oa TT Γ4 (Gg 41 (Tryz.f100.body.getD .skip))),(48,vC TT (Gg 48 (Tryz.f100.body.getD .skip)) 15 24 0 259 [(5,264,263),(8,267,266),(13,272,271)]),(53,cutS (vC TT (Gg 53 (Tryz.f100.body.getD .skip)) 13 23 0 287 [(5,292,291),(11,298,297)]))]
def bkPost(v:Value)(m:AV):Prop:=∃(B:Bk) (i1 i2 i3 n1 n2 n3 k1 k2 k3:Nat) (code:Int) (b1 b2 b3:VB),v=.tuple #[.agg #[.int .i64 B.now,.iface i1 (.slice none n1 k1),.iface i2 (.slice none n2 k2),.iface i3 (.slice none n3 k3)],.int .i64 code]/\(n1=B.svcs.length/\n2=B.cps.length/\n3=B.bts.length)/\(lk m i1=some b1/\Rds b1 13 svL B.svcs)/\(lk m i2=some b2/\Rds b2 7 cpL B.cps)/\(lk m i3=some b3/\Rds b3 2 btL B.bts)/\okBk B
def endA:Exit->St->Prop:=λe s=>(e=.ret\/e=.normal)/\∃v,LW TT Tryz.f100.results.toList s.t s.m=some v/\bkPost v s.m/\clo s.m (BN v)=true
section
variable {RD:(Nat->Prop)->World->Nat->Nat->Prop}
theorem env4(hR:Cc RD):Env Tryz.prog RD TT Γ4:=
 Ab (Ab (Ab (Ab (Ab (Ab (Ab (Ab (BC hR) (by kernel_rfl) (actOk_ct hR)) (by kernel_rfl) (Ef hR)) (by kernel_rfl) (K0 hR)) (by kernel_rfl) (N5 hR)) (by kernel_rfl) (Mi hR)) (by kernel_rfl) (JZ hR)) (by kernel_rfl) (in_ct hR)) (by kernel_rfl) (ahead_ct hR)
theorem spec4(hR:Cc RD):SpAll Tryz.prog RD Ρ4 303 (Tryz.f100.body.getD .skip):=by
 intro i C hC p hp;have hi:=A9 _ _ _ hC;simp only[List.mem_cons,List.not_mem_nil,or_false,Prod.mk.injEq]at hi;rcases hi with⟨rfl,rfl⟩|⟨rfl,rfl⟩|⟨rfl,rfl⟩|⟨rfl,rfl⟩
 ·cases List.mem_singleton.1 (show p∈[(_,_)] from hp)
  exact Gr (env4 hR) (by kernel_rfl) (by kernel_rfl)
 ·cases List.mem_singleton.1 (show p∈[(_,_)] from hp)
  exact Gr (env4 hR) (by kernel_rfl) (by kernel_rfl)
 ·cases List.mem_singleton.1 (show p∈[(_,_)] from hp)
  exact Gt (BC hR) (by kernel_rfl) (by kernel_rfl) (by kernel_rfl) (by kernel_rfl) ⟨_,rfl,rfl,rfl⟩ ⟨⟨_,rfl,rfl,rfl⟩,⟨_,rfl,rfl,rfl⟩,⟨_,rfl,rfl,rfl⟩,trivial⟩
 ·cases List.mem_singleton.1 (show p∈[(_,_)] from hp)
  exact cutS_ok (env4 hR) (Gt (BC hR) (by kernel_rfl) (by kernel_rfl) (by kernel_rfl) (by kernel_rfl) ⟨_,rfl,rfl,rfl⟩ ⟨⟨_,rfl,rfl,rfl⟩,⟨_,rfl,rfl,rfl⟩,trivial⟩)
end
def okC(c:Cp):Prop:=c.service.size<=maxLen/\c.berth.size<=maxLen
def mA(A:AP)(now:Int)(L:List Svc)(l:List Cp)(b3:List Bt)(s:Svc)(k1 n2 k2 k3:Nat):AV:=[(500,AZ (svL s) 29),(456,AZ [.int .i64 now,.iface 448 (.slice none L.length k1),.iface 449 (.slice none n2 k2),.iface 450 (.slice none b3.length k3)] 27),(448,Ap 29 13 k1 svL L),(449,Ap 49 7 k2 cpL l),(450,Ap 51 2 k3 btL b3),(72,AZ (A.cs 3) 134),(80,AZ [.int .i64 0,.slice none 0 0,.slice none 0 0,.slice none 0 0] 27),(3,BZ 163 2 enL A.en)]
def tA(k v:Int):Tm:=[(6,.int .i64 k),(10,.int .i64 v),(9,.complex .f64 456 0),(13,.complex .f64 500 0),(3,.complex .f64 72 0),(4,.complex .f64 80 0)]
def JO(A:AP)(s:Svc)(v:Int):Cp:=⟨A.nm,s.next,v,s.image,1,false,⟨#[]⟩⟩
theorem ins_ok{A:AP}{l:List Cp}{s:Svc}{v:Int}(h:∀c∈l,okC c)(hA:A.nm.size<=maxLen)(n:Nat):∀c∈l.take n++JO A s v::l.drop n,okC c:=λc hc=>by
 rcases List.mem_append.1 hc with hc|hc
 ·exact h c (List.mem_of_mem_take hc)
 ·rcases List.mem_cons.1 hc with hc|hc
  ·rw[hc]
   exact⟨hA,AI _⟩
  ·exact h c (List.mem_of_mem_drop hc)
theorem Et{A:AP}{k v now:Int}{L:List Svc}{l0:List Cp}{b3:List Bt}{s0:Svc}{k1 k20 k3:Nat}(hk0:0<=k)(hk1:k<L.length)(hL:L.length<=1000)(hl:l0.length<=200)(hc:A.cr<=20)(hb:b3.length<=1000)(hA:A.nm.size<=maxLen)(hs:s0.name.size<=maxLen)(hLs:∀s∈L,s.name.size<=maxLen)(hls:∀c∈l0,okC c)(hbs:∀b∈b3,b.name.size<=maxLen)
  {z:St} (hE:Ent z ⟨tA k v,mA A now L l0 b3 s0 k1 l0.length k20 k3,600,0⟩):vwr TT Γ4 Ρ4 (sndN 17 (Tryz.f100.body.getD .skip)) endA z:=by
 refine⟨_,hE,?_⟩;refine⟨λn z=>∃(x:Int) (l:List Cp) (s:Svc) (n2 k2:Nat),0<=x/\x<=20/\n=20 - x.toNat/\n2=l.length/\n2=l0.length+x.toNat/\(∀c∈l,okC c)/\s.name.size<=maxLen/\z=⟨(15,.int .i64 x)::tA k v,mA A now L l b3 s k1 n2 k2 k3,600,0⟩,20,⟨_,(by refine⟨[],?_,?_,rfl,rfl,AG _⟩<;>repeat' (first|exact rfl|exact trivial|exact⟨_,rfl,.same _ _ rfl⟩|apply And.intro)),0,l0,s0,l0.length,k20,by omega,by omega,by omega,rfl,by omega,hls,hs,rfl⟩,?_⟩;rintro n _ ⟨x,l,s,n2,k2,h0,h1,rfl,hn2,hll,hlo,hsn,rfl⟩;refine And.intro (λhlt=>?_) (λhlt=>?_)
 ·have hlt:x<A.cr:=hlt
  refine⟨λn z=>∃y:Int,0<=y/\y<=n2/\n=n2 - y.toNat/\z=⟨(17,.int .i64 y)::(16,.complex .f64 696 0)::(15,.int .i64 x)::tA k v,(696,AZ (cpL (JO A s v)) 49)::mA A now L l b3 s k1 n2 k2 k3,720,0⟩,n2,⟨_,(by refine⟨[],?_,?_,rfl,rfl,AG _⟩<;>repeat' (first|exact rfl|exact trivial|exact⟨_,rfl,.same _ _ rfl⟩|apply And.intro)),0,by omega,by omega,by omega,rfl⟩,?_⟩;rintro n _ ⟨y,y0,y1,rfl,rfl⟩;refine And.intro (λhy=>?_) (λhy=>?_)
  ·have hy:y<n2:=hy
   refine And.intro y0 (And.intro hy (And.intro (Nat.le_of_eq hn2) (And.intro (show y.toNat<l.length by omega) (λc' hc'=>?_))));refine⟨(c',JO A s v),rfl,trivial,?_⟩;rintro _ _ ⟨rfl,r,rfl⟩
   cases r with
   |true=>
    refine λu hu=>?_
    have hu:=hu ⟨by omega,by omega⟩;exact⟨n2 - u.toNat,by omega,_,(by refine⟨[],?_,?_,rfl,rfl,AG _⟩<;>repeat' (first|exact rfl|exact trivial|exact⟨_,rfl,.same _ _ rfl⟩|apply And.intro)),u,by omega,by omega,rfl,rfl⟩
   |false=>(refine⟨[449],λhcap=>And.intro y0 (And.intro (by have h:l.length<=k2:=hcap.1;omega) (And.intro (by show y.toNat<=l.length;omega) (And.intro y0 (And.intro y1 (And.intro (Nat.le_of_eq hn2) (And.intro (by have h:l.length<=k2:=hcap.1;omega) ?_))))))⟩;refine And.intro (AG _) (And.intro (by show 0+y.toNat<=1000000000;omega) (And.intro (λ_ _ _ _=>⟨rfl,rfl⟩) (λd1=>?_)));refine And.intro (AG _) (And.intro (by show 0+y.toNat+1<=1000000000;omega) (λd2=>?_));refine And.intro (AG _) (And.intro (by show 0+y.toNat+1+(n2 - y.toNat)<=1000000000;omega) (And.intro (λ_ _ _ _=>⟨rfl,rfl⟩) (λcap'=>?_)));refine λu _ u2 hu2=>?_;have hu2:=hu2 ⟨by omega,by omega⟩;refine⟨20 - u2.toNat,by omega,_,?_,u2,l.take y.toNat++JO A s v::l.drop y.toNat,{s with next:=u},0+y.toNat+1+(n2 - y.toNat),cap',by omega,by omega,rfl,(by simp;omega),by omega,ins_ok hlo hA y.toNat,hsn,rfl⟩;have hp:=D9 (ρ:=[(449,960)]) (ty:=49) (sz:=7) (c1:=d1) (c2:=d2) (c3:=cap') (m:=n2 - y.toNat) (f:=cpL) (l:=l) (x:=JO A s v) (k:=y.toNat) (d:=y.toNat) (b:=DX (BZ 49 7 cpL l) y.toNat (n2 - y.toNat)) (by omega) (by omega) (λj kk h x hx=>h x hx);refine⟨[(449,960)],?_,?_,rfl,rfl,AG _⟩<;>repeat' (first|exact rfl|exact trivial|exact⟨_,rfl,.same _ _ rfl⟩|exact⟨_,rfl,hp⟩|exact⟨_,rfl,Cs rfl⟩|apply And.intro))
  ·(refine⟨[449],λhcap=>And.intro y0 (And.intro (by have h:l.length<=k2:=hcap.1;omega) (And.intro (by show y.toNat<=l.length;omega) (And.intro y0 (And.intro y1 (And.intro (Nat.le_of_eq hn2) (And.intro (by have h:l.length<=k2:=hcap.1;omega) ?_))))))⟩;refine And.intro (AG _) (And.intro (by show 0+y.toNat<=1000000000;omega) (And.intro (λ_ _ _ _=>⟨rfl,rfl⟩) (λd1=>?_)));refine And.intro (AG _) (And.intro (by show 0+y.toNat+1<=1000000000;omega) (λd2=>?_));refine And.intro (AG _) (And.intro (by show 0+y.toNat+1+(n2 - y.toNat)<=1000000000;omega) (And.intro (λ_ _ _ _=>⟨rfl,rfl⟩) (λcap'=>?_)));refine λu _ u2 hu2=>?_;have hu2:=hu2 ⟨by omega,by omega⟩;refine⟨20 - u2.toNat,by omega,_,?_,u2,l.take y.toNat++JO A s v::l.drop y.toNat,{s with next:=u},0+y.toNat+1+(n2 - y.toNat),cap',by omega,by omega,rfl,(by simp;omega),by omega,ins_ok hlo hA y.toNat,hsn,rfl⟩;have hp:=D9 (ρ:=[(449,960)]) (ty:=49) (sz:=7) (c1:=d1) (c2:=d2) (c3:=cap') (m:=n2 - y.toNat) (f:=cpL) (l:=l) (x:=JO A s v) (k:=y.toNat) (d:=y.toNat) (b:=DX (BZ 49 7 cpL l) y.toNat (n2 - y.toNat)) (by omega) (by omega) (λj kk h x hx=>h x hx);refine⟨[(449,960)],?_,?_,rfl,rfl,AG _⟩<;>repeat' (first|exact rfl|exact trivial|exact⟨_,rfl,.same _ _ rfl⟩|exact⟨_,rfl,hp⟩|exact⟨_,rfl,Cs rfl⟩|apply And.intro))
 ·obtain⟨x0,hx0⟩:∃x0,L[k.toNat]?=some x0:=⟨L[k.toNat]'(by omega),by simp⟩
  refine And.intro hk0 (And.intro hk1 (And.intro (AG _) (And.intro (show k.toNat<L.length by omega) (And.intro (λ_ _ _=>trivial) ?_))));have hset:∀{ρ:List (Nat × Nat)} {cs:List Value},cs=svL {s with version:=v}->LeB ρ (G8 (Ap 29 13 k1 svL L) k.toNat 0 cs) (Ap 29 13 k1 svL (L.set k.toNat {s with version:=v})):=λh=>BL (.same _ _ rfl) hx0 (by rw[h];rfl)
  have hset2:∀d∈L.set k.toNat {s with version:=v},d.name.size<=maxLen:=λd hd=>by
   rcases List.mem_or_eq_of_mem_set hd with h|h
   ·exact hLs d h
   ·rw[h];exact hsn
  refine And.intro (λhd=>?_) (λhd=>?_)
  ·refine⟨⟨[(6,.int .i64 k),(10,.int .i64 v),(9,.complex .f64 456 0),(4,.complex .f64 80 0)],[(456,AZ [.int .i64 now,.iface 448 (.slice none L.length k1),.iface 449 (.slice none n2 k2),.iface 450 (.slice none b3.length k3)] 27),(448,Ap 29 13 k1 svL (L.set k.toNat {s with version:=v})),(449,Ap 49 7 k2 cpL l),(450,Ap 51 2 k3 btL b3),(80,AZ [.int .i64 0,.slice none 0 0,.slice none 0 0,.slice none 0 0] 27)],1000,0⟩,(by refine⟨[],?_,?_,rfl,rfl,AG _⟩<;>repeat' (first|exact rfl|exact trivial|exact⟨_,rfl,.same _ _ rfl⟩|exact⟨_,rfl,hset rfl⟩|apply And.intro)),[448],λhcap=>And.intro hk0 (And.intro (by have h:(L.set k.toNat {s with version:=v}).length<=k1:=hcap.1;rw[List.length_set]at h;omega) (And.intro (by show k.toNat<=(L.set k.toNat {s with version:=v}).length;rw[List.length_set];omega) ?_))⟩
   have hlen:(L.set k.toNat {s with version:=v}).length=L.length:=List.length_set ..;have hck:L.length<=k1:=hlen▸hcap.1;generalize (L.set k.toNat {s with version:=v})=L' at hset2 hlen ⊢;intro y hy;have hy:y=k+1:=hy ⟨by omega,by omega⟩;subst hy;refine And.intro (by omega) (And.intro (by show k+1<=(L.length:Int);omega) (And.intro (by show L.length<=L'.length;omega) (And.intro hck ?_)));refine And.intro (AG _) (And.intro (by show 0+k.toNat<=1000000000;omega) (And.intro (λ_ _ _ _=>⟨rfl,rfl⟩) (λd1=>?_)));refine And.intro (AG _) (And.intro (by show 0+k.toNat+(L.length - (k+1).toNat)<=1000000000;omega) (And.intro (λ_ _ _ _=>⟨rfl,rfl⟩) (λcap'=>?_)))
   have hdel:LeB [] (Eu (Eu (Dw 29 13 []) (DX (BZ 29 13 svL L') 0 k.toNat) k.toNat d1) (DX (BZ 29 13 svL L') (k+1).toNat (L.length - (k+1).toNat)) (L.length - (k+1).toNat) cap') (Ap 29 13 cap' svL (L'.take k.toNat++L'.drop (k.toNat+1))):=by
    rw[show(k+1).toNat=k.toNat+1 by omega,<-hlen];exact Nv (by omega)
   exact⟨.inl rfl,_,rfl,⟨⟨v,L'.take k.toNat++L'.drop (k.toNat+1),l,b3⟩,1112,449,450,_,n2,b3.length,cap',k2,k3,0,_,_,_,rfl,⟨by show 0+k.toNat+(L.length - (k+1).toNat)=_;simp;omega,hn2,rfl⟩,⟨rfl,.le hdel⟩,⟨rfl,.le (ρ:=[]) (.same _ _ rfl)⟩,⟨rfl,.le (ρ:=[]) (.same _ _ rfl)⟩,⟨by simp;omega,by show l.length<=1000;omega,hb⟩,λd hd=>(List.mem_append.1 hd).elim (λh=>hset2 d (List.mem_of_mem_take h)) (λh=>hset2 d (List.mem_of_mem_drop h)),hlo,hbs⟩,rfl⟩
  ·exact⟨.inl rfl,_,rfl,⟨⟨v,L.set k.toNat {s with version:=v},l,b3⟩,448,449,450,L.length,n2,b3.length,k1,k2,k3,0,_,_,_,rfl,⟨by rw[List.length_set],hn2,rfl⟩,⟨rfl,.le (ρ:=[]) (hset rfl)⟩,⟨rfl,.le (ρ:=[]) (.same _ _ rfl)⟩,⟨rfl,.le (ρ:=[]) (.same _ _ rfl)⟩,⟨by show(L.set _ _).length<=1000;rw[List.length_set];exact hL,by show l.length<=1000;omega,hb⟩,hset2,hlo,hbs⟩,rfl⟩
end
end Go.Proofs.YtbceafpodamnfaaGreat
