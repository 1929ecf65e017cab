import Derived.Test.YtbceafpodamnfaaGreatH07
import Derived.Test.YtbceafpodamnfaaGreatH14
import Derived.Test.YtbceafpodamnfaaGreatH15
set_option linter.all false
set_option maxHeartbeats 4000000
set_option maxRecDepth 100000
namespace Go.Proofs.YtbceafpodamnfaaGreat
section
open Go Go.RowKit
section
variable {RD:(Nat->Prop)->World->Nat->Nat->Prop}
abbrev ctLeast:Ct:=ctV (λp:BP=>[p.v]) (λp=>p.m) (λp=>p.tn) λp v es=>es=[]/\v=.string (Bo p.B)
theorem bk_inj(p p':BP)(h:[p.v]=[p'.v])(hm:p.m=p'.m):p=p':=by
 simp only[BP.m,bkM,List.cons.injEq,Prod.mk.injEq,true_and,and_true]at h hm;exact BP.inj h hm.1 hm.2.1 hm.2.2
def leSt(B:Bk)(c1 c2 c3 i:Nat)(p:ByteArray × Int):St:=⟨[(5,.int .i64 i),(4,.int .i64 p.2),(3,.string p.1),(1,.complex .f64 64 0)],(64,AZ (EQ B c1 c2 c3) 27)::bkM B,88,0⟩
theorem least_ct(hR:Cc RD):CN Tryz.prog RD 62 0 ctLeast:=by
 refine Cu (BC hR) Tryz.func62 (by kernel_rfl) (by kernel_rfl) (λ_=>rfl) bk_inj ?_;rintro⟨B,c1,c2,c3⟩ ⟨_,hl,hb⟩;have hl:B.cps.length<=1000:=hl;have hb:B.bts.length<=1000:=hb;refine⟨λn s=>∃i:Nat,i<=B.bts.length/\n=B.bts.length - i/\s=leSt B c1 c2 c3 i (Ao B i),B.bts.length,⟨_,(by refine⟨[],?_,?_,rfl,rfl,AG _⟩<;>repeat' (first|exact rfl|exact trivial|exact⟨_,rfl,.same _ _ rfl⟩|apply And.intro)),0,by omega,by omega,rfl⟩,?_⟩;rintro n _ ⟨i,hi,rfl,rfl⟩;refine And.intro (λhlt=>?_) (λhlt=>?_)
 ·obtain⟨tb,htb⟩:∃tb,B.bts[i]?=some tb:=⟨B.bts[i]'(by omega),by simp⟩
  refine⟨λn s=>∃k:Nat,k<=B.cps.length/\n=B.cps.length - k/\s=⟨[(7,.int .i64 k),(6,.int .i64 (CH B tb.name k)),(5,.int .i64 i),(4,.int .i64 (Ao B i).2),(3,.string (Ao B i).1),(1,.complex .f64 64 0)],(64,AZ (EQ B c1 c2 c3) 27)::bkM B,88,0⟩,B.cps.length,⟨_,(by refine⟨[],?_,?_,rfl,rfl,AG _⟩<;>repeat' (first|exact rfl|exact trivial|exact⟨_,rfl,.same _ _ rfl⟩|apply And.intro)),0,by omega,by omega,rfl⟩,?_⟩;rintro n _ ⟨k,hk,rfl,rfl⟩;have hsk:=F9 B tb.name k;refine And.intro (λhlt'=>?_) (λhlt'=>?_)
  ·refine And.intro (by omega) (And.intro hlt' (And.intro (AG _) (λcp hcp=>?_)))
   refine And.intro (by omega) (And.intro hlt (And.intro (AG _) (λtb' htb'=>?_)));rw[Int.toNat_natCast]at hcp htb';cases htb.symm.trans htb';have hs1:=De (nm:=tb.name) hcp;refine And.intro (λhe=>?_) (λhe=>?_)
   ·intro n1 h1 n2 h2
    have h1:n1=CH B tb.name (k+1):=by rw[hs1,he];have:=h1 ⟨by omega,by omega⟩;show _=_+1;omega
    have h2:n2=((k+1:Nat):Int):=by have:=h2 ⟨by omega,by omega⟩;omega
    subst h1 h2;exact⟨B.cps.length - (k+1),by omega,_,(by refine⟨[],?_,?_,rfl,rfl,AG _⟩<;>repeat' (first|exact rfl|exact trivial|exact⟨_,rfl,.same _ _ rfl⟩|apply And.intro)),k+1,by omega,rfl,rfl⟩
   ·intro n2 h2
    have h1:CH B tb.name k=CH B tb.name (k+1):=by rw[hs1,he];rfl
    have h2:n2=((k+1:Nat):Int):=by have:=h2 ⟨by omega,by omega⟩;omega
    subst h2;rw[h1];exact⟨B.cps.length - (k+1),by omega,_,(by refine⟨[],?_,?_,rfl,rfl,AG _⟩<;>repeat' (first|exact rfl|exact trivial|exact⟨_,rfl,.same _ _ rfl⟩|apply And.intro)),k+1,by omega,rfl,rfl⟩
  ·obtain rfl:k=B.cps.length:=by omega
   have hls:=Dh htb;refine And.intro (by omega) (And.intro hlt (And.intro (AG _) (λtb' htb'=>?_)));rw[Int.toNat_natCast]at htb';cases htb.symm.trans htb'
   have hstay:∀b:Bool,(!tb.drain&&((Ao B i).1.toList==[]||decide (Bs B tb.name<(Ao B i).2)))=b->Ao B (i+1)=bif b then(tb.name,Bs B tb.name) else Ao B i:=λb hb=>by
    rw[hls];unfold Es;rw[hb];cases b<;>rfl
   have key:∀b:Bool,(!tb.drain&&((Ao B i).1.toList==[]||decide (Bs B tb.name<(Ao B i).2)))=b->∀n2:Int,(inR ((i:Int)+1)->n2=i+1)->n2=((i+1:Nat):Int)/\Ao B (i+1)=bif b then(tb.name,Bs B tb.name) else Ao B i:=λb hb n2 h2=>⟨by have:=h2 ⟨by omega,by omega⟩;omega,hstay b hb⟩
   have stay:∀(hb:(!tb.drain&&((Ao B i).1.toList==[]||decide (Bs B tb.name<(Ao B i).2)))=false),Ao B i=Ao B (i+1):=λhb=>(hstay _ hb).symm
   refine And.intro (λhd=>?_) (λhd=>?_)
   ·intro n2 h2
    obtain⟨rfl,_⟩:=key _ rfl n2 h2;rw[stay (by rw[hd];rfl)];exact⟨B.bts.length - (i+1),by omega,_,(by refine⟨[],?_,?_,rfl,rfl,AG _⟩<;>repeat' (first|exact rfl|exact trivial|exact⟨_,rfl,.same _ _ rfl⟩|apply And.intro)),i+1,by omega,rfl,rfl⟩
   ·have go:∀(hb:(!tb.drain&&((Ao B i).1.toList==[]||decide (Bs B tb.name<(Ao B i).2)))=true),Ao B (i+1)=(tb.name,Bs B tb.name):=λhb=>hstay _ hb
    refine And.intro (λhe=>?_) (λhe=>?_)<;>rw[ByteArray.toList_eq ⟨#[]⟩]at he
    ·refine And.intro (by omega) (And.intro hlt (And.intro (AG _) (λtb' htb'=>?_)))
     rw[Int.toNat_natCast]at htb';cases htb.symm.trans htb';intro n2 h2;obtain⟨rfl,_⟩:=key _ rfl n2 h2;exact⟨B.bts.length - (i+1),by omega,leSt B c1 c2 c3 (i+1) (tb.name,Bs B tb.name),(by refine⟨[],?_,?_,rfl,rfl,AG _⟩<;>repeat' (first|exact rfl|exact trivial|exact⟨_,rfl,.same _ _ rfl⟩|apply And.intro)),i+1,by omega,rfl,by rw[go (by rw[hd,show((Ao B i).1.toList==[])=true from he];rfl)]⟩
    ·refine And.intro (λhn=>?_) (λhn=>?_)
     ·refine And.intro (by omega) (And.intro hlt (And.intro (AG _) (λtb' htb'=>?_)))
      rw[Int.toNat_natCast]at htb';cases htb.symm.trans htb';intro n2 h2;obtain⟨rfl,_⟩:=key _ rfl n2 h2;exact⟨B.bts.length - (i+1),by omega,leSt B c1 c2 c3 (i+1) (tb.name,Bs B tb.name),(by refine⟨[],?_,?_,rfl,rfl,AG _⟩<;>repeat' (first|exact rfl|exact trivial|exact⟨_,rfl,.same _ _ rfl⟩|apply And.intro)),i+1,by omega,rfl,by rw[go (by rw[hd,decide_eq_true (show Bs B tb.name<(Ao B i).2 from hn),Bool.or_true];rfl)]⟩
     ·intro n2 h2
      obtain⟨rfl,_⟩:=key _ rfl n2 h2;rw[stay (by rw[hd,show((Ao B i).1.toList==[])=false from he,decide_eq_false (show ¬Bs B tb.name<(Ao B i).2 from hn)];rfl)];exact⟨B.bts.length - (i+1),by omega,_,(by refine⟨[],?_,?_,rfl,rfl,AG _⟩<;>repeat' (first|exact rfl|exact trivial|exact⟨_,rfl,.same _ _ rfl⟩|apply And.intro)),i+1,by omega,rfl,rfl⟩
 ·obtain rfl:i=B.bts.length:=by omega
  exact⟨.inl rfl,_,rfl,⟨_,_,[],⟨rfl,rfl⟩,rfl,trivial,rfl,rfl,trivial⟩,rfl⟩
def bkVx(B:Bk)(c1 c3 i n cp:Nat):List Value:=[.int .i64 B.now,.iface 0 (.slice none B.svcs.length c1),.iface i (.slice none n cp),.iface 2 (.slice none B.bts.length c3)]
def Of:List Value:=[.int .i64 0,.slice none 0 0,.slice none 0 0,.slice none 0 0]
abbrev ctTick:Ct:=ctW 3 (λp:BP × Int=>[p.1.v,.int .i64 p.2]) (λp=>p.1.m) (λp=>p.1.tn) λp v es=>∃n cp,n=(Ca p.1.B p.2).cps.length/\v=.agg #[.int .i64 p.1.B.now,.iface 8 (.slice none p.1.B.svcs.length p.1.c1),.iface 0 (.slice none n cp),.iface 10 (.slice none p.1.B.bts.length p.1.c3)]/\es=[(0,Ap 49 7 cp cpL (Ca p.1.B p.2).cps)]
theorem bki_inj(p p':BP × Int)(h:[p.1.v,.int .i64 p.2]=[p'.1.v,.int .i64 p'.2])(hm:p.1.m=p'.1.m):p=p':=by
 obtain⟨p,s⟩:=p;obtain⟨p',s'⟩:=p';simp only[BP.m,bkM,List.cons.injEq,Prod.mk.injEq,true_and,and_true,Value.int.injEq]at h hm;rw[BP.inj h.1 hm.1 hm.2.1 hm.2.2,h.2]
theorem tick_ct(hR:Cc RD):CN Tryz.prog RD 34 0 ctTick:=by
 refine M4 3 (by decide) (Ab (BC hR) (f:=62) (by kernel_rfl) (least_ct hR)) Tryz.func34 (by kernel_rfl) (.nil _) (by kernel_rfl) (λ_=>rfl) (λ_=>rfl) bki_inj ?_;rintro⟨⟨B,c1,c2,c3⟩,v⟩ ⟨hs,hl,hb⟩;have hl:B.cps.length<=1000:=hl;refine⟨λn s=>∃(i k cp:Nat) (L:List Cp),i<=B.cps.length/\n=B.cps.length - i/\L=Bw v (B.cps.take i)/\k=L.length/\s=⟨[(6,.int .i64 i),(5,.iface 80 (.slice none k cp)),(4,.complex .f64 72 0),(2,.complex .f64 64 0),(1,.int .i64 v)],(80,Ap 49 7 cp cpL L)::(72,AZ Of 27)::(64,AZ (EQ B c1 c2 c3) 27)::bkM B,100,0⟩,B.cps.length,⟨_,(by refine⟨[],?_,?_,rfl,rfl,AG _⟩<;>repeat' (first|exact rfl|exact trivial|exact⟨Dw 49 7 [],rfl,FX (f:=cpL) []⟩|exact⟨_,rfl,.same _ _ rfl⟩|apply And.intro)),0,0,0,[],by omega,by omega,rfl,rfl,rfl⟩,?_⟩;rintro n _ ⟨i,k,cp,L,hi,rfl,hL,hk,rfl⟩
 have hkl:k<=1000:=by
  rw[hk,hL];exact AH (Hb v _) (by rw[List.length_take];omega)
 refine And.intro (λhlt=>?_) (λhlt=>?_)
 ·refine And.intro (by omega) (And.intro hlt (And.intro (AG _) (λc hc=>?_)))
  rw[Int.toNat_natCast]at hc;have hsu:=Mk (v:=v) hc;have nxt:∀y:Int,(inR ((i:Int)+1)->y=i+1)->y=((i+1:Nat):Int):=λy hy=>by have:=hy ⟨by omega,by omega⟩;omega
  refine And.intro (λhe=>?_) (λhe=>?_)
  ·intro y hy
   obtain rfl:=nxt y hy;exact⟨B.cps.length - (i+1),by omega,_,(by refine⟨[],?_,?_,rfl,rfl,AG _⟩<;>repeat' (first|exact rfl|exact trivial|exact⟨_,rfl,.same _ _ rfl⟩|apply And.intro)),i+1,k,cp,L,by omega,rfl,by rw[hsu,he,hL];simp,hk,rfl⟩
  ·refine And.intro (λh2=>?_) (λh2=>?_)
   ·refine And.intro hk (And.intro rfl (And.intro (AG _) (And.intro (by omega) (λc'=>?_))))
    intro y hy;obtain rfl:=nxt y hy;refine⟨B.cps.length - (i+1),by omega,_,?_,i+1,k+1,c',L++[{c with state:=3,version:=v}],by omega,rfl,by rw[hsu,hL,if_neg (by rw[he];decide)];unfold Cr;rw[if_pos h2],by rw[hk];simp,rfl⟩;refine⟨[(80,300)],?_,?_,rfl,rfl,AG _⟩<;>repeat' (first|exact rfl|exact trivial|exact⟨_,rfl,DO (f:=cpL) L {c with state:=3,version:=v}⟩|exact⟨_,rfl,.same _ _ rfl⟩|apply And.intro)
   ·refine And.intro hk (And.intro rfl (And.intro (AG _) (And.intro (by omega) (λc'=>?_))))
    intro y hy;obtain rfl:=nxt y hy;refine⟨B.cps.length - (i+1),by omega,_,?_,i+1,k+1,c',L++[c],by omega,rfl,by rw[hsu,hL,if_neg (by rw[he];decide)];unfold Cr;rw[if_neg h2],by rw[hk];simp,rfl⟩;refine⟨[(80,260)],?_,?_,rfl,rfl,AG _⟩<;>repeat' (first|exact rfl|exact trivial|exact⟨_,rfl,DO (f:=cpL) L c⟩|exact⟨_,rfl,.same _ _ rfl⟩|apply And.intro)
 ·obtain rfl:i=B.cps.length:=by omega
  rw[List.take_length]at hL;have hkT:k=(Bw v B.cps).length:=by rw[hk,hL]
  refine⟨λn s=>∃(i:Nat) (L:List Cp),i<=k/\n=k - i/\BQ B v i={B with cps:=L}/\k=L.length/\s=⟨[(8,.int .i64 i),(4,.complex .f64 72 0),(2,.complex .f64 64 0),(1,.int .i64 v)],(80,Ap 49 7 cp cpL L)::(72,AZ Of 27)::(64,AZ (bkVx B c1 c3 80 k cp) 27)::bkM B,100,0⟩,k,⟨_,(by refine⟨[],?_,?_,rfl,rfl,AG _⟩<;>repeat' (first|exact rfl|exact trivial|exact⟨_,rfl,.same _ _ rfl⟩|apply And.intro)),0,L,by omega,by omega,by rw[hL];rfl,hk,rfl⟩,?_⟩;clear hk hL L;rintro n _ ⟨i,L,hi,rfl,hL,hk,rfl⟩;have hL1:=Cz B v i;rw[hL]at hL1;refine And.intro (λhlt=>?_) (λhlt=>?_)
  ·refine⟨⟨{B with cps:=L},c1,cp,c3⟩,by subst hk;rfl,⟨hs,by show L.length<=1000;omega,hb⟩,?_⟩
   rintro _ _ ⟨rfl,rfl⟩;have nxt:∀y:Int,(inR ((i:Int)+1)->y=i+1)->y=((i+1:Nat):Int):=λy hy=>by have:=hy ⟨by omega,by omega⟩;omega
   refine And.intro (by omega) (And.intro hlt (And.intro (by show k<=L.length;omega) (And.intro (by show(i:Int).toNat<L.length;omega) (λc hc=>?_))));rw[Int.toNat_natCast]at hc;have hno:¬(c.state=1/\Bo {B with cps:=L}≠⟨#[]⟩)->BO v {B with cps:=L} i={B with cps:=L}:=λh=>by unfold BO;rw[show({B with cps:=L}:Bk).cps[i]?=some c from hc];exact if_neg h
   have hye:c.state=1/\Bo {B with cps:=L}≠⟨#[]⟩->BO v {B with cps:=L} i={B with cps:=L.set i {c with state:=2,berth:=Bo {B with cps:=L},version:=v}}:=λh=>by unfold BO;rw[show({B with cps:=L}:Bk).cps[i]?=some c from hc];exact if_pos h
   refine And.intro (λh1=>?_) (λh1=>?_)
   ·refine And.intro (λhe=>?_) (λhe=>?_)
    ·have hne:Bo {B with cps:=L}≠⟨#[]⟩:=λe=>by rw[e]at he;simp at he
     refine And.intro (by omega) (And.intro hlt (And.intro (by show k<=L.length;omega) (And.intro (by show(i:Int).toNat<L.length;omega) (And.intro (λ_ _ _=>trivial) ?_))));refine And.intro (by omega) (And.intro hlt (And.intro (by show k<=L.length;omega) (And.intro (by show(i:Int).toNat<L.length;omega) (And.intro (λ_ _ _=>trivial) ?_))));refine And.intro (by omega) (And.intro hlt (And.intro (by show k<=L.length;omega) (And.intro (by show(i:Int).toNat<L.length;omega) (And.intro (λ_ _ _=>trivial) ?_))));intro y hy;obtain rfl:=nxt y hy;refine⟨k - (i+1),by omega,_,?_,i+1,L.set i {c with state:=2,berth:=Bo {B with cps:=L},version:=v},by omega,rfl,by rw[hL1];exact hye ⟨h1,hne⟩,by rw[List.length_set];exact hk,rfl⟩
     have hset:LeB [] (G8 (G8 (G8 (Ap 49 7 cp cpL L) (i:Int).toNat 4 [.int .i64 2]) (i:Int).toNat 6 [.string (Bo {B with cps:=L})]) (i:Int).toNat 2 [.int .i64 v]) (Ap 49 7 cp cpL (L.set i {c with state:=2,berth:=Bo {B with cps:=L},version:=v})):=by
      rw[Int.toNat_natCast];have hi':=(AC hc).1;have e1:=BL (ρ:=[]) (o:=4) (vs:=[.int .i64 2]) (x':={c with state:=2}) (.same _ _ rfl:LeB [] (Ap 49 7 cp cpL L) _) hc rfl;have e2:=BL (o:=6) (vs:=[.string (Bo {B with cps:=L})]) (a:=i) (x:={c with state:=2}) (x':={c with state:=2,berth:=Bo {B with cps:=L}}) e1 (by rw[List.getElem?_set,if_pos rfl,if_pos hi']) rfl;have e3:=BL (o:=2) (vs:=[.int .i64 v]) (a:=i) (x:={c with state:=2,berth:=Bo {B with cps:=L}}) (x':={c with state:=2,berth:=Bo {B with cps:=L},version:=v}) e2 (by rw[List.getElem?_set,if_pos rfl,if_pos (by rw[List.length_set];exact hi')]) rfl;rw[List.set_set,List.set_set]at e3;exact e3
     refine⟨[],?_,?_,rfl,rfl,AG _⟩<;>repeat' (first|exact rfl|exact trivial|exact⟨_,rfl,hset⟩|exact⟨_,rfl,.same _ _ rfl⟩|apply And.intro)
    ·have hne:Bo {B with cps:=L}=⟨#[]⟩:=nil_bytes.1 (by rw[ByteArray.toList_eq ⟨#[]⟩]at he;simpa using he)
     intro y hy;obtain rfl:=nxt y hy;exact⟨k - (i+1),by omega,_,(by refine⟨[],?_,?_,rfl,rfl,AG _⟩<;>repeat' (first|exact rfl|exact trivial|exact⟨_,rfl,.same _ _ rfl⟩|apply And.intro)),i+1,L,by omega,rfl,by rw[hL1];exact hno λh=>h.2 hne,hk,rfl⟩
   ·intro y hy
    obtain rfl:=nxt y hy;exact⟨k - (i+1),by omega,_,(by refine⟨[],?_,?_,rfl,rfl,AG _⟩<;>repeat' (first|exact rfl|exact trivial|exact⟨_,rfl,.same _ _ rfl⟩|apply And.intro)),i+1,L,by omega,rfl,by rw[hL1];exact hno λh=>h1 h.1,hk,rfl⟩
  ·obtain rfl:i=k:=by omega
   have hT:(Ca B v).cps=L:=by unfold Ca;rw[<-hkT,hL]
   refine⟨.inl rfl,_,rfl,⟨_,_,[(8,0),(9,1),(10,2),(0,80)],⟨i,cp,by rw[hT];exact hk,rfl,rfl⟩,rfl,⟨⟨_,rfl,?_⟩,trivial⟩,rfl,rfl,⟨λ_ _=>trivial,trivial⟩⟩,rfl⟩;rw[hT];exact .same _ _ rfl
end
section
variable {RD:(Nat->Prop)->World->Nat->Nat->Prop}
theorem bksb_inj(p p':BP × ByteArray × Bool)(h:[p.1.v,.string p.2.1,.bool p.2.2]=[p'.1.v,.string p'.2.1,.bool p'.2.2])(hm:p.1.m=p'.1.m):p=p':=by
 obtain⟨p,s,n⟩:=p;obtain⟨p',s',n'⟩:=p';simp only[BP.m,bkM,List.cons.injEq,Prod.mk.injEq,true_and,and_true,Value.string.injEq,Value.bool.injEq]at h hm;rw[BP.inj h.1 hm.1 hm.2.1 hm.2.2,h.2.1,h.2.2]
abbrev Nx:Ct:=ctW 3 (λp:BP × ByteArray × Bool=>[p.1.v,.string p.2.1,.bool p.2.2]) (λp=>p.1.m) (λp=>p.1.tn/\p.1.B.bts.length<=p.1.c3) λp v es=>∃n cp,n=(CC p.1.B p.2.1 p.2.2).bts.length/\v=.agg #[.int .i64 p.1.B.now,.iface 8 (.slice none p.1.B.svcs.length p.1.c1),.iface 9 (.slice none p.1.B.cps.length p.1.c2),.iface 0 (.slice none n cp)]/\es=[(0,Ap 51 2 cp btL (CC p.1.B p.2.1 p.2.2).bts)]
theorem raise_ct(hR:Cc RD):CN Tryz.prog RD 38 0 Nx:=by
 refine M4 3 (by decide) (BC hR) Tryz.func38 (by kernel_rfl) (.nil _) (by kernel_rfl) (λ_=>rfl) (λ_=>rfl) bksb_inj ?_;rintro⟨⟨B,c1,c2,c3⟩,nm,dr⟩ ⟨⟨_,_,hl⟩,hc3⟩;have hl:B.bts.length<=1000:=hl;have hc3:B.bts.length<=c3:=hc3;refine⟨λn s=>∃k:Nat,k<=B.bts.length/\n=B.bts.length - k/\(∀(i:Nat) t,i<k->B.bts[i]?=some t->Op.bytesLess (EP t) nm.toList=true)/\s=⟨[(7,.int .i64 k),(6,.complex .f64 72 0),(3,.complex .f64 64 0),(2,.bool dr),(1,.string nm)],(72,AZ Of 27)::(64,AZ (EQ B c1 c2 c3) 27)::bkM B,100,0⟩,B.bts.length,⟨_,(by refine⟨[],?_,?_,rfl,rfl,AG _⟩<;>repeat' (first|exact rfl|exact trivial|exact⟨_,rfl,.same _ _ rfl⟩|apply And.intro)),0,by omega,by omega,(λ_ _ h=>by omega),rfl⟩,?_⟩;rintro n _ ⟨k,hk,rfl,hno,rfl⟩;have fin:(∀t,B.bts[k]?=some t->Op.bytesLess (EP t) nm.toList=false)->CE (λt=>Op.bytesLess (EP t) (EP ⟨nm,dr⟩)) B.bts=k:=λh=>Dp hk hno h
 refine And.intro (λhlt=>?_) (λhlt=>?_)
 ·refine And.intro (by omega) (And.intro hlt (And.intro (AG _) (λtb htb=>?_)))
  rw[Int.toNat_natCast]at htb;refine And.intro (λhe=>?_) (λhe=>?_)
  ·intro y hy
   have hy:y=((k+1:Nat):Int):=by have:=hy ⟨by omega,by omega⟩;omega
   subst hy
   exact⟨B.bts.length - (k+1),by omega,_,(by refine⟨[],?_,?_,rfl,rfl,AG _⟩<;>repeat' (first|exact rfl|exact trivial|exact⟨_,rfl,.same _ _ rfl⟩|apply And.intro)),k+1,by omega,rfl,λi t hi ht=>by
    by_cases e:i=k
    ·subst e;rw[htb]at ht;cases ht;exact he
    ·exact hno i t (by omega) ht,rfl⟩
  ·have hf:=fin λt ht=>by rw[htb]at ht;cases ht;exact he
   refine And.intro (by omega) (And.intro (by omega) (And.intro (AG _) (And.intro hc3 ?_)));refine And.intro (λh0=>?_) (λh0=>?_)
   ·refine And.intro (by omega) (And.intro h0 (And.intro (AG _) (λtb' htb'=>?_)))
    have htb':B.bts[(k:Int).toNat+0]?=some tb':=htb';rw[Int.toNat_natCast,Nat.add_zero,htb]at htb';cases htb';refine And.intro (λhq=>?_) (λhq=>?_)
    ·refine And.intro (by omega) (And.intro (by show(1:Int)<=((B.bts.length - (k:Int).toNat:Nat):Int);omega) (And.intro (AG _) (And.intro (by omega) ?_)))
     refine And.intro (by omega) (And.intro (by omega) (And.intro (by show(k:Int).toNat<=B.bts.length;omega) ?_));refine And.intro rfl (And.intro rfl (And.intro (AG _) (And.intro (by show 0+(k:Int).toNat<=1000000000;omega) (And.intro (λ_ _ _ _=>⟨rfl,rfl⟩) (λd1=>?_)))));refine And.intro rfl (And.intro rfl (And.intro (AG _) (And.intro (by show 0+(k:Int).toNat+1<=1000000000;omega) (λd2=>?_))));refine And.intro rfl (And.intro rfl (And.intro (AG _) (And.intro (by show 0+(k:Int).toNat+1+(B.bts.length - (k:Int).toNat - (1:Int).toNat)<=1000000000;omega) (And.intro (λ_ _ _ _=>⟨rfl,rfl⟩) (λd3=>?_)))));have hp:=D9 (ρ:=[(8,0),(9,1),(10,2),(0,468)]) (ty:=51) (sz:=2) (c1:=d1) (c2:=d2) (c3:=d3) (m:=(B.bts.length - (k:Int).toNat - (1:Int).toNat)) (f:=btL) (l:=B.bts) (x:=⟨nm,dr⟩) (k:=(k:Int).toNat) (d:=(k:Int).toNat+1) (b:=DX (DX (BZ 51 2 btL B.bts) (k:Int).toNat (B.bts.length - (k:Int).toNat)) 1 (B.bts.length - (k:Int).toNat - 1)) (by omega) (by omega) (λj kk h x hx=>h x (by rw[Nat.add_assoc];exact hx));have hr:B.bts.take (k:Int).toNat++⟨nm,dr⟩::B.bts.drop ((k:Int).toNat+1)=(CC B nm dr).bts:=by rw[Int.toNat_natCast];exact(El hf htb hq).symm
     rw[hr]at hp;exact⟨.inl rfl,_,rfl,⟨_,_,[(8,0),(9,1),(10,2),(0,468)],⟨_,d3,by have h:=congrArg List.length hr;rw[List.length_append,List.length_cons,List.length_take,List.length_drop]at h;rw[<-h];show 0+(k:Int).toNat+1+(B.bts.length - (k:Int).toNat - (1:Int).toNat)=_;omega,rfl,rfl⟩,rfl,⟨⟨_,rfl,hp⟩,trivial⟩,rfl,rfl,⟨λ_ _=>trivial,trivial⟩⟩,rfl⟩
    ·refine And.intro (by omega) (And.intro (by omega) (And.intro (by show(k:Int).toNat<=B.bts.length;omega) ?_))
     refine And.intro rfl (And.intro rfl (And.intro (AG _) (And.intro (by show 0+(k:Int).toNat<=1000000000;omega) (And.intro (λ_ _ _ _=>⟨rfl,rfl⟩) (λd1=>?_)))));refine And.intro rfl (And.intro rfl (And.intro (AG _) (And.intro (by show 0+(k:Int).toNat+1<=1000000000;omega) (λd2=>?_))));refine And.intro rfl (And.intro rfl (And.intro (AG _) (And.intro (by show 0+(k:Int).toNat+1+(B.bts.length - (k:Int).toNat)<=1000000000;omega) (And.intro (λ_ _ _ _=>⟨rfl,rfl⟩) (λd3=>?_)))));have hp:=D9 (ρ:=[(8,0),(9,1),(10,2),(0,444)]) (ty:=51) (sz:=2) (c1:=d1) (c2:=d2) (c3:=d3) (m:=(B.bts.length - (k:Int).toNat)) (f:=btL) (l:=B.bts) (x:=⟨nm,dr⟩) (k:=(k:Int).toNat) (d:=(k:Int).toNat) (b:=DX (BZ 51 2 btL B.bts) (k:Int).toNat (B.bts.length - (k:Int).toNat)) (by omega) (by omega) (λj kk h x hx=>h x hx);have hr:B.bts.take (k:Int).toNat++⟨nm,dr⟩::B.bts.drop ((k:Int).toNat)=(CC B nm dr).bts:=by rw[Int.toNat_natCast];exact(EB hf htb hq).symm
     rw[hr]at hp;exact⟨.inl rfl,_,rfl,⟨_,_,[(8,0),(9,1),(10,2),(0,444)],⟨_,d3,by have h:=congrArg List.length hr;rw[List.length_append,List.length_cons,List.length_take,List.length_drop]at h;rw[<-h];show 0+(k:Int).toNat+1+(B.bts.length - (k:Int).toNat)=_;omega,rfl,rfl⟩,rfl,⟨⟨_,rfl,hp⟩,trivial⟩,rfl,rfl,⟨λ_ _=>trivial,trivial⟩⟩,rfl⟩
   ·exact absurd h0 (by show ¬¬(0:Int)<((B.bts.length - (k:Int).toNat:Nat):Int);omega)
 ·have hf:=fin λt ht=>by rw[List.getElem?_eq_none (by omega)]at ht;cases ht
  refine And.intro (by omega) (And.intro (by omega) (And.intro (AG _) (And.intro hc3 ?_)));refine And.intro (λh0=>?_) (λh0=>?_)
  ·exact absurd h0 (by show ¬(0:Int)<((B.bts.length - (k:Int).toNat:Nat):Int);omega)
  ·refine And.intro (by omega) (And.intro (by omega) (And.intro (by show(k:Int).toNat<=B.bts.length;omega) ?_))
   refine And.intro rfl (And.intro rfl (And.intro (AG _) (And.intro (by show 0+(k:Int).toNat<=1000000000;omega) (And.intro (λ_ _ _ _=>⟨rfl,rfl⟩) (λd1=>?_)))));refine And.intro rfl (And.intro rfl (And.intro (AG _) (And.intro (by show 0+(k:Int).toNat+1<=1000000000;omega) (λd2=>?_))));refine And.intro rfl (And.intro rfl (And.intro (AG _) (And.intro (by show 0+(k:Int).toNat+1+(B.bts.length - (k:Int).toNat)<=1000000000;omega) (And.intro (λ_ _ _ _=>⟨rfl,rfl⟩) (λd3=>?_)))));have hp:=D9 (ρ:=[(8,0),(9,1),(10,2),(0,444)]) (ty:=51) (sz:=2) (c1:=d1) (c2:=d2) (c3:=d3) (m:=(B.bts.length - (k:Int).toNat)) (f:=btL) (l:=B.bts) (x:=⟨nm,dr⟩) (k:=(k:Int).toNat) (d:=(k:Int).toNat) (b:=DX (BZ 51 2 btL B.bts) (k:Int).toNat (B.bts.length - (k:Int).toNat)) (by omega) (by omega) (λj kk h x hx=>h x hx);have hr:B.bts.take (k:Int).toNat++⟨nm,dr⟩::B.bts.drop ((k:Int).toNat)=(CC B nm dr).bts:=by rw[Int.toNat_natCast];exact(Fn hf (List.getElem?_eq_none (by omega))).symm
   rw[hr]at hp;exact⟨.inl rfl,_,rfl,⟨_,_,[(8,0),(9,1),(10,2),(0,444)],⟨_,d3,by have h:=congrArg List.length hr;rw[List.length_append,List.length_cons,List.length_take,List.length_drop]at h;rw[<-h];show 0+(k:Int).toNat+1+(B.bts.length - (k:Int).toNat)=_;omega,rfl,rfl⟩,rfl,⟨⟨_,rfl,hp⟩,trivial⟩,rfl,rfl,⟨λ_ _=>trivial,trivial⟩⟩,rfl⟩
theorem bkw_inj(p p':BP × Svc × Int)(h:[p.1.v,FE p.2.1,.int .i64 p.2.2]=[p'.1.v,FE p'.2.1,.int .i64 p'.2.2])(hm:p.1.m=p'.1.m):p=p':=by
 obtain⟨p,s,n⟩:=p;obtain⟨p',s',n'⟩:=p';simp only[BP.m,bkM,List.cons.injEq,Prod.mk.injEq,true_and,and_true,Value.int.injEq]at h hm;rw[BP.inj h.1 hm.1 hm.2.1 hm.2.2,DR h.2.1,h.2.2]
abbrev Nw:Ct:=ctW 3 (λp:BP × Svc × Int=>[p.1.v,FE p.2.1,.int .i64 p.2.2]) (λp=>p.1.m) (λp=>p.1.tn/\p.1.B.svcs.length<=p.1.c1) λp v es=>∃n cp,n=(CB p.1.B p.2.1 p.2.2).svcs.length/\v=.agg #[.int .i64 p.1.B.now,.iface 0 (.slice none n cp),.iface 9 (.slice none p.1.B.cps.length p.1.c2),.iface 10 (.slice none p.1.B.bts.length p.1.c3)]/\es=[(0,Ap 29 13 cp svL (CB p.1.B p.2.1 p.2.2).svcs)]
abbrev ΡW:Sp:=[(11,vC TT (Gg 11 (Tryz.f35.body.getD .skip)) 12 23 0 54 [(5,59,58),(8,62,61),(10,64,63)])]
theorem specW(hR:Cc RD):SpAll Tryz.prog RD ΡW Tryz.f35.ntmps (Tryz.f35.body.getD .skip):=by
 intro i C hC p hp;obtain⟨rfl,rfl⟩:i=11/\C=_:=by simpa using List.mem_singleton.1 (A9 _ _ _ hC)
 cases List.mem_singleton.1 (show p∈[(_,_)] from hp);exact Gt (BC hR) (by kernel_rfl) (by kernel_rfl) (by kernel_rfl) (by kernel_rfl) ⟨_,rfl,rfl,rfl⟩ ⟨⟨_,rfl,rfl,rfl⟩,⟨_,rfl,rfl,rfl⟩,⟨_,rfl,rfl,rfl⟩,trivial⟩
theorem wishB_ct(hR:Cc RD):CN Tryz.prog RD 35 0 Nw:=by
 refine M4 3 (by decide) (BC hR) Tryz.func35 (by kernel_rfl) (specW hR) (by kernel_rfl) (λ_=>rfl) (λ_=>rfl) bkw_inj ?_;rintro⟨⟨B,c1,c2,c3⟩,s,v⟩ ⟨⟨hl,_,_⟩,hc1⟩;have hl:B.svcs.length<=1000:=hl;have hc1:B.svcs.length<=c1:=hc1;refine⟨λn z=>∃k:Nat,k<=B.svcs.length/\n=B.svcs.length - k/\(∀(i:Nat) t,i<k->B.svcs[i]?=some t->Op.bytesLess (Bv t) (Bv s)=true)/\z=⟨[(7,.int .i64 k),(6,.complex .f64 80 0),(4,.complex .f64 72 0),(3,.complex .f64 64 0),(2,.int .i64 v)],(80,AZ Of 27)::(72,AZ (svL s) 29)::(64,AZ (EQ B c1 c2 c3) 27)::bkM B,100,0⟩,B.svcs.length,⟨_,(by refine⟨[],?_,?_,rfl,rfl,AG _⟩<;>repeat' (first|exact rfl|exact trivial|exact⟨_,rfl,.same _ _ rfl⟩|apply And.intro)),0,by omega,by omega,(λ_ _ h=>by omega),rfl⟩,?_⟩;rintro n _ ⟨k,hk,rfl,hno,rfl⟩;have fin:(∀t,B.svcs[k]?=some t->Op.bytesLess (Bv t) (Bv s)=false)->CE (λt=>Op.bytesLess (Bv t) (Bv s)) B.svcs=k:=λh=>Dp hk hno h
 refine And.intro (λhlt=>?_) (λhlt=>?_)
 ·refine And.intro (by omega) (And.intro hlt (And.intro (AG _) (λtb htb=>?_)))
  rw[Int.toNat_natCast]at htb;refine And.intro (λhe=>?_) (λhe=>?_)
  ·intro y hy
   have hy:y=((k+1:Nat):Int):=by have:=hy ⟨by omega,by omega⟩;omega
   subst hy
   exact⟨B.svcs.length - (k+1),by omega,_,(by refine⟨[],?_,?_,rfl,rfl,AG _⟩<;>repeat' (first|exact rfl|exact trivial|exact⟨_,rfl,.same _ _ rfl⟩|apply And.intro)),k+1,by omega,rfl,λi t hi ht=>by
    by_cases e:i=k
    ·subst e;rw[htb]at ht;cases ht;exact he
    ·exact hno i t (by omega) ht,rfl⟩
  ·have hf:=fin λt ht=>by rw[htb]at ht;cases ht;exact he
   refine And.intro (by omega) (And.intro (by omega) (And.intro (AG _) (And.intro hc1 ?_)));refine And.intro (λh0=>?_) (λh0=>?_)
   ·refine And.intro (by omega) (And.intro h0 (And.intro (AG _) (λtb' htb'=>?_)))
    have htb':B.svcs[(k:Int).toNat+0]?=some tb':=htb';rw[Int.toNat_natCast,Nat.add_zero,htb]at htb';cases htb';refine And.intro (λhq=>?_) (λhq=>?_)
    ·refine And.intro (by omega) (And.intro h0 (And.intro (AG _) (λtb' htb'=>?_)))
     have htb':B.svcs[(k:Int).toNat+0]?=some tb':=htb';rw[Int.toNat_natCast,Nat.add_zero,htb]at htb';cases htb';refine And.intro (by omega) (And.intro (by show(1:Int)<=((B.svcs.length - (k:Int).toNat:Nat):Int);omega) (And.intro (AG _) (And.intro (by omega) ?_)));refine⟨[],λ_=>And.intro (by omega) (And.intro (by omega) (And.intro (by show(k:Int).toNat<=B.svcs.length;omega) ?_))⟩;refine And.intro (AG _) (And.intro (by show 0+(k:Int).toNat<=1000000000;omega) (And.intro (λ_ _ _ _=>⟨rfl,rfl⟩) (λd1=>?_)));refine And.intro (AG _) (And.intro (by show 0+(k:Int).toNat+1<=1000000000;omega) (λd2=>?_));refine And.intro (AG _) (And.intro (by show 0+(k:Int).toNat+1+(B.svcs.length - (k:Int).toNat - (1:Int).toNat)<=1000000000;omega) (And.intro (λ_ _ _ _=>⟨rfl,rfl⟩) (λd3=>?_)));have hp:=D9 (ρ:=[(8,0),(9,1),(10,2),(0,596)]) (ty:=29) (sz:=13) (c1:=d1) (c2:=d2) (c3:=d3) (m:=(B.svcs.length - (k:Int).toNat - (1:Int).toNat)) (f:=svL) (l:=B.svcs) (x:={s with version:=v,cool:=0,next:=tb.next}) (k:=(k:Int).toNat) (d:=(k:Int).toNat+1) (b:=DX (DX (BZ 29 13 svL B.svcs) (k:Int).toNat (B.svcs.length - (k:Int).toNat)) 1 (B.svcs.length - (k:Int).toNat - 1)) (by omega) (by omega) (λj kk h x hx=>h x (by rw[Nat.add_assoc];exact hx));have hr:B.svcs.take (k:Int).toNat++{s with version:=v,cool:=0,next:=tb.next}::B.svcs.drop ((k:Int).toNat+1)=(CB B s v).svcs:=by rw[Int.toNat_natCast];exact Eq.symm (by show BT Bv B.svcs {s with version:=v,cool:=0,next:=D6 B.svcs s}=_;rw[If hf htb hq];exact El hf htb hq)
     rw[hr]at hp;exact⟨.inl rfl,_,rfl,⟨_,_,[(8,0),(9,1),(10,2),(0,596)],⟨_,d3,by have h:=congrArg List.length hr;rw[List.length_append,List.length_cons,List.length_take,List.length_drop]at h;rw[<-h];show 0+(k:Int).toNat+1+(B.svcs.length - (k:Int).toNat - (1:Int).toNat)=_;omega,rfl,rfl⟩,rfl,⟨⟨_,rfl,hp⟩,trivial⟩,rfl,rfl,⟨λ_ _=>trivial,trivial⟩⟩,rfl⟩
    ·refine⟨[],λ_=>And.intro (by omega) (And.intro (by omega) (And.intro (by show(k:Int).toNat<=B.svcs.length;omega) ?_))⟩
     refine And.intro (AG _) (And.intro (by show 0+(k:Int).toNat<=1000000000;omega) (And.intro (λ_ _ _ _=>⟨rfl,rfl⟩) (λd1=>?_)));refine And.intro (AG _) (And.intro (by show 0+(k:Int).toNat+1<=1000000000;omega) (λd2=>?_));refine And.intro (AG _) (And.intro (by show 0+(k:Int).toNat+1+(B.svcs.length - (k:Int).toNat)<=1000000000;omega) (And.intro (λ_ _ _ _=>⟨rfl,rfl⟩) (λd3=>?_)));have hp:=D9 (ρ:=[(8,0),(9,1),(10,2),(0,524)]) (ty:=29) (sz:=13) (c1:=d1) (c2:=d2) (c3:=d3) (m:=(B.svcs.length - (k:Int).toNat)) (f:=svL) (l:=B.svcs) (x:={s with version:=v,cool:=0,next:=1}) (k:=(k:Int).toNat) (d:=(k:Int).toNat) (b:=DX (BZ 29 13 svL B.svcs) (k:Int).toNat (B.svcs.length - (k:Int).toNat)) (by omega) (by omega) (λj kk h x hx=>h x hx);have hr:B.svcs.take (k:Int).toNat++{s with version:=v,cool:=0,next:=1}::B.svcs.drop ((k:Int).toNat)=(CB B s v).svcs:=by rw[Int.toNat_natCast];exact Eq.symm (by show BT Bv B.svcs {s with version:=v,cool:=0,next:=D6 B.svcs s}=_;rw[Hq hf htb hq];exact EB hf htb hq)
     rw[hr]at hp;exact⟨.inl rfl,_,rfl,⟨_,_,[(8,0),(9,1),(10,2),(0,524)],⟨_,d3,by have h:=congrArg List.length hr;rw[List.length_append,List.length_cons,List.length_take,List.length_drop]at h;rw[<-h];show 0+(k:Int).toNat+1+(B.svcs.length - (k:Int).toNat)=_;omega,rfl,rfl⟩,rfl,⟨⟨_,rfl,hp⟩,trivial⟩,rfl,rfl,⟨λ_ _=>trivial,trivial⟩⟩,rfl⟩
   ·exact absurd h0 (by show ¬¬(0:Int)<((B.svcs.length - (k:Int).toNat:Nat):Int);omega)
 ·have hf:=fin λt ht=>by rw[List.getElem?_eq_none (by omega)]at ht;cases ht
  refine And.intro (by omega) (And.intro (by omega) (And.intro (AG _) (And.intro hc1 ?_)));refine And.intro (λh0=>?_) (λh0=>?_)
  ·exact absurd h0 (by show ¬(0:Int)<((B.svcs.length - (k:Int).toNat:Nat):Int);omega)
  ·refine⟨[],λ_=>And.intro (by omega) (And.intro (by omega) (And.intro (by show(k:Int).toNat<=B.svcs.length;omega) ?_))⟩
   refine And.intro (AG _) (And.intro (by show 0+(k:Int).toNat<=1000000000;omega) (And.intro (λ_ _ _ _=>⟨rfl,rfl⟩) (λd1=>?_)));refine And.intro (AG _) (And.intro (by show 0+(k:Int).toNat+1<=1000000000;omega) (λd2=>?_));refine And.intro (AG _) (And.intro (by show 0+(k:Int).toNat+1+(B.svcs.length - (k:Int).toNat)<=1000000000;omega) (And.intro (λ_ _ _ _=>⟨rfl,rfl⟩) (λd3=>?_)));have hp:=D9 (ρ:=[(8,0),(9,1),(10,2),(0,524)]) (ty:=29) (sz:=13) (c1:=d1) (c2:=d2) (c3:=d3) (m:=(B.svcs.length - (k:Int).toNat)) (f:=svL) (l:=B.svcs) (x:={s with version:=v,cool:=0,next:=1}) (k:=(k:Int).toNat) (d:=(k:Int).toNat) (b:=DX (BZ 29 13 svL B.svcs) (k:Int).toNat (B.svcs.length - (k:Int).toNat)) (by omega) (by omega) (λj kk h x hx=>h x hx);have hr:B.svcs.take (k:Int).toNat++{s with version:=v,cool:=0,next:=1}::B.svcs.drop ((k:Int).toNat)=(CB B s v).svcs:=by rw[Int.toNat_natCast];exact Eq.symm (by show BT Bv B.svcs {s with version:=v,cool:=0,next:=D6 B.svcs s}=_;rw[Jl hf (List.getElem?_eq_none (by omega))];exact Fn hf (List.getElem?_eq_none (by omega)))
   rw[hr]at hp;exact⟨.inl rfl,_,rfl,⟨_,_,[(8,0),(9,1),(10,2),(0,524)],⟨_,d3,by have h:=congrArg List.length hr;rw[List.length_append,List.length_cons,List.length_take,List.length_drop]at h;rw[<-h];show 0+(k:Int).toNat+1+(B.svcs.length - (k:Int).toNat)=_;omega,rfl,rfl⟩,rfl,⟨⟨_,rfl,hp⟩,trivial⟩,rfl,rfl,⟨λ_ _=>trivial,trivial⟩⟩,rfl⟩
end
end
end Go.Proofs.YtbceafpodamnfaaGreat
