import Derived.Test.YtbceafpodamnfaaGreatDoorG30
set_option linter.all false
set_option maxHeartbeats 8000000
set_option maxRecDepth 100000
namespace Go.Proofs.YtbceafpodamnfaaGreatDoor
section
open Go.RowKit
abbrev ctName:Ct:=ctV (λp:BP=>[.complex .f64 0 0,p.v1]) (λp=>p.m1) (λp=>okSp p.B) λ_ v es=>es=[]/\∃nm:ByteArray,v=.string nm/\nm.size<=maxLen
theorem name_ct(r:Nat):B7 Tryz.prog (RDr r) 117 10 ctName:=by
 refine JM (Ρ:=[]) (EH r) (Gl r) 10 (by decide) Tryz.func117 (by kernel_rfl) (.nil _) (by kernel_rfl) (λ_=>rfl) (λp p' h hm=>BP.cF (gz (gz h).2).1 hm) ?_;rintro⟨B,c1,c2,c3⟩ q ⟨W,H,_⟩ hq;have Z:B.af.length<=1000:=W.1;have H:∀s∈B.af,s.name.size<=maxLen:=H;refine cW (show q+1<=QM by omega) ?_;refine cW (λY=>?_) (λY=>?_)
 ·have Y:(0:Int)<B.af.length:=Y
  refine⟨0,6,rfl,rfl,⟨by decide,by decide⟩,λu _=>?_⟩;refine cW (λ_=>?_) (λ_=>?_)
  ·refine cW (show q+2<=QM by omega) ?_
   refine⟨0,(B.af.length:Int),rfl,rfl,⟨by omega,by omega⟩,λy F=>?_⟩;refine cW F.1 (cW (F.2.1 (by omega)) (cW (AG _) (λs hs=>?_)));exact⟨.inl rfl,_,rfl,⟨⟨_,_,[],⟨rfl,s.name,rfl,H s (AE hs)⟩,rfl,trivial,rfl,rfl,trivial⟩,(show q+2<=q+10 by omega),0,rfl⟩,rfl⟩
  ·refine cW (show q+2<=QM by omega) ?_
   refine⟨0,3,rfl,rfl,⟨by decide,by decide⟩,λy F=>?_⟩;refine cW F.1 (cW (F.2.1 (by decide)) (cW (AG _) (cW (CO F 3 rfl (by decide)) (λel M=>?_))));obtain⟨nm,J,rfl⟩:∃s∈[(⟨#[119,101,98]⟩:qB),(⟨#[110,111,110,101]⟩:qB),(⟨#[]⟩:qB)],el=[.string s]:=MN (L:=[⟨#[119,101,98]⟩,⟨#[110,111,110,101]⟩,⟨#[]⟩]) M;exact⟨.inl rfl,_,rfl,⟨⟨_,_,[],⟨rfl,nm,rfl,Iw J (by decide)⟩,rfl,trivial,rfl,rfl,trivial⟩,(show q+2<=q+10 by omega),0,rfl⟩,rfl⟩
 ·refine cW (show q+2<=QM by omega) ?_
  refine⟨0,3,rfl,rfl,⟨by decide,by decide⟩,λy F=>?_⟩;refine cW F.1 (cW (F.2.1 (by decide)) (cW (AG _) (cW (CO F 3 rfl (by decide)) (λel M=>?_))));obtain⟨nm,J,rfl⟩:∃s∈[(⟨#[119,101,98]⟩:qB),(⟨#[110,111,110,101]⟩:qB),(⟨#[]⟩:qB)],el=[.string s]:=MN (L:=[⟨#[119,101,98]⟩,⟨#[110,111,110,101]⟩,⟨#[]⟩]) M;exact⟨.inl rfl,_,rfl,⟨⟨_,_,[],⟨rfl,nm,rfl,Iw J (by decide)⟩,rfl,trivial,rfl,rfl,trivial⟩,(show q+2<=q+10 by omega),0,rfl⟩,rfl⟩
abbrev Γd:List (Nat × Nat × Ct):=[(117,10,ctName),(118,0,Gu),(38,1,Nj)]
theorem RU(r:Nat):Env Tryz.prog (RDr r) TT Γd:=AZ (AZ (EH r) (by kernel_rfl) (DN (NG r))) (by kernel_rfl) (name_ct r)
abbrev Ρd:Sp:=[(8,H9 TT Γd (A8 8 (Tryz.f58.body.getD .skip))),(18,H9 TT Γd (A8 18 (Tryz.f58.body.getD .skip)))]
theorem spec_d(r:Nat):SpAll Tryz.prog (RDr r) Ρd 101 (Ej 3 (Tryz.f58.body.getD .skip)):=by
 intro i C hC p F;have H:=Aj _ _ _ hC;simp only[dy,dH,eP,dw]at H;rcases H with⟨rfl,rfl⟩|⟨rfl,rfl⟩
 ·cases cZ.1 (show p∈[(_,_)] from F)
  exact Cy (RU r) (by kernel_rfl) (by kernel_rfl)
 ·cases cZ.1 (show p∈[(_,_)] from F)
  exact Cy (RU r) (by kernel_rfl) (by kernel_rfl)
def acL(n:qB)(a b c d:Int)(x:Bool)(E:Value)(y:Bool):List Value:=[.string n,.int .i64 a,.int .i64 b,.int .i64 c,.int .i64 d,.bool x,E,.bool y]
abbrev acZ:List Value:=acL ⟨#[]⟩ 0 0 0 0 false (.slice none 0 0) false
def bkV1(B:Bk)(c1 c2 c3:Nat):List Value:=[.int .i64 B.aj,.iface 1 (.slice none B.af.length c1),.iface 2 (.slice none B.ah.length c2),.iface 3 (.slice none B.ak.length c3)]
def mD(B:Bk)(c1 c2 c3:Nat):AY:=(64,AT (bkV1 B c1 c2 c3) 28)::(65,AT acZ 45)::BP.m1 ⟨B,c1,c2,c3⟩
def drQ(B:Bk)(q1:Nat)(e:Exit)(s:St):Prop:=e=.ret/\lk s.t 4=some (.complex .f64 65 0)/\lk s.m 0=some rdB/\s.q<=q1/\∃n a b c d x E y,lk s.m 65=some (AT (acL n a b c d x E y) 45)/\n.size<=maxLen/\(E=.slice none 0 0\/∃i cp l vb,E=.iface i (.slice none l.length cp)/\lk s.m i=some vb/\LeB [] vb (An 88 2 cp enL l)/\l.length<=1000/\NumsIn B l)
theorem one_le{ρ:List (Nat × Nat)}{ty sz c:Nat}{X:Type}{f:X->List Value}(x:X):LeB ρ (E9 (Dd ty sz []) (Dd ty sz [f x]) 1 c) (An ty sz c f [x]):=by
 have:=Gy (c:=c) (n':=1) (b':=Dd ty sz [f x]) (l':=[x]) (NU (ρ:=ρ) (ty:=ty) (sz:=sz) (f:=f)) rfl λj H kk h el F=>by
  obtain rfl:j=0:=by omega
  cases F;exact h x rfl
 exact this
section
variable {B:Bk} {c1 c2 c3:Nat}
theorem Ni(Z:okSp B){q q1:Nat}{n:qB}{a b c d:Int}{x y:Bool}(hn:n.size<=maxLen)(hq:q+1100<=q1)(ak:q1<=QM){z:St}(hE:Ent z ⟨[(6,.complex .f64 112 0),(0,.complex .f64 0 0),(3,.complex .f64 64 0),(4,.complex .f64 65 0)],(112,AT (acL n a b c d x (.slice none 0 0) y) 45)::mD B c1 c2 c3,300,q⟩):vwr TT Γd Ρd (Ej 7 (Tryz.f58.body.getD .skip)) (drQ B q1) z:=by
 have hl:B.ah.length<=1000:=Z.1.2.1;refine⟨_,hE,?_⟩;refine⟨λm z=>∃(i q':Nat),(i<=B.ah.length/\q'<=q+i)/\m=B.ah.length - i/\(z=⟨[(8,.int .i64 i),(6,.complex .f64 112 0),(0,.complex .f64 0 0),(3,.complex .f64 64 0),(4,.complex .f64 65 0)],(112,AT (acL n a b c d x (.slice none 0 0) y) 45)::mD B c1 c2 c3,400,q'⟩\/∃(l:List En) (k cp:Nat),(k=l.length/\k<=i/\NumsIn B l)/\z=⟨[(8,.int .i64 i),(6,.complex .f64 112 0),(0,.complex .f64 0 0),(3,.complex .f64 64 0),(4,.complex .f64 65 0)],(200,An 88 2 cp enL l)::(112,AT (acL n a b c d x (.iface 200 (.slice none k cp)) y) 45)::mD B c1 c2 c3,400,q'⟩),B.ah.length,⟨_,(by refine⟨[],?_,?_,rfl,rfl,AG _⟩<;>repeat' (first|exact rfl|exact trivial|exact⟨_,rfl,.same _ _ rfl⟩|apply cW)),0,q,⟨by omega,by omega⟩,by omega,.inl rfl⟩,?_⟩;rintro m _ ⟨i,q',⟨hi,ag⟩,rfl,(rfl|⟨l,k,cp,⟨J,ai,M⟩,rfl⟩)⟩
 ·refine cW (λH=>?_) (λH=>?_)
  ·have H:(i:Int)<B.ah.length:=H
   refine cW (by omega) (cW H (cW (AG _) (λW Y=>?_)));refine cW (show q'+1<=QM by omega) ?_;refine cW (λ_=>?_) (λ_=>?_)
   ·refine⟨0,3,rfl,rfl,⟨by decide,by decide⟩,λu _=>?_⟩
    refine cW (λ_=>?_) (λ_=>?_)
    ·refine cW (AG _) (cW (AG _) (cW (by decide) (λc'=>?_)))
     refine λz F=>?_
     have F:z=((i+1:Nat):Int):=by have:=F ⟨by omega,by omega⟩;omega
     subst F;exact⟨B.ah.length - (i+1),by omega,_,(by refine⟨[(200,640)],?_,?_,rfl,rfl,AG _⟩<;>repeat' (first|exact rfl|exact trivial|exact⟨_,rfl,.same _ _ rfl⟩|exact⟨_,rfl,one_le (f:=enL) (⟨W.ai,W.ag⟩:En)⟩|exact⟨_,rfl,C2 rfl⟩|apply cW)),i+1,q'+1,⟨by omega,by omega⟩,rfl,.inr ⟨[⟨W.ai,W.ag⟩],1,c',⟨rfl,by omega,NumsIn.app (l:=[]) (λ_ h=>(nomatch h)) (AE Y)⟩,rfl⟩⟩
    ·refine λz F=>?_
     have F:z=((i+1:Nat):Int):=by have:=F ⟨by omega,by omega⟩;omega
     subst F;exact⟨B.ah.length - (i+1),by omega,_,(by refine⟨[],?_,?_,rfl,rfl,AG _⟩<;>repeat' (first|exact rfl|exact trivial|exact⟨_,rfl,.same _ _ rfl⟩|apply cW)),i+1,q'+1,⟨by omega,by omega⟩,rfl,.inl rfl⟩
   ·refine λz F=>?_
    have F:z=((i+1:Nat):Int):=by have:=F ⟨by omega,by omega⟩;omega
    subst F;exact⟨B.ah.length - (i+1),by omega,_,(by refine⟨[],?_,?_,rfl,rfl,AG _⟩<;>repeat' (first|exact rfl|exact trivial|exact⟨_,rfl,.same _ _ rfl⟩|apply cW)),i+1,q'+1,⟨by omega,by omega⟩,rfl,.inl rfl⟩
  ·exact⟨rfl,rfl,rfl,(show q'<=q1 by omega),n,a,b,c,d,x,_,y,rfl,hn,.inl rfl⟩
 ·refine cW (λH=>?_) (λH=>?_)
  ·have H:(i:Int)<B.ah.length:=H
   refine cW (by omega) (cW H (cW (AG _) (λW Y=>?_)));refine cW (show q'+1<=QM by omega) ?_;refine cW (λ_=>?_) (λ_=>?_)
   ·refine⟨0,3,rfl,rfl,⟨by decide,by decide⟩,λu _=>?_⟩
    refine cW (λ_=>?_) (λ_=>?_)
    ·refine cW J (cW rfl (cW (AG _) (cW (by omega) (λc'=>?_))))
     refine λz F=>?_
     have F:z=((i+1:Nat):Int):=by have:=F ⟨by omega,by omega⟩;omega
     subst F;exact⟨B.ah.length - (i+1),by omega,_,(by refine⟨[(200,640)],?_,?_,rfl,rfl,AG _⟩<;>repeat' (first|exact rfl|exact trivial|exact⟨_,rfl,.same _ _ rfl⟩|exact⟨_,rfl,DE (f:=enL) l (⟨W.ai,W.ag⟩:En)⟩|exact⟨_,rfl,C2 rfl⟩|apply cW)),i+1,q'+1,⟨by omega,by omega⟩,rfl,.inr ⟨l++[⟨W.ai,W.ag⟩],k+1,c',⟨by rw[J];simp,by omega,M.app (AE Y)⟩,rfl⟩⟩
    ·refine λz F=>?_
     have F:z=((i+1:Nat):Int):=by have:=F ⟨by omega,by omega⟩;omega
     subst F;exact⟨B.ah.length - (i+1),by omega,_,(by refine⟨[],?_,?_,rfl,rfl,AG _⟩<;>repeat' (first|exact rfl|exact trivial|exact⟨_,rfl,.same _ _ rfl⟩|apply cW)),i+1,q'+1,⟨by omega,by omega⟩,rfl,.inr ⟨l,k,cp,⟨J,by omega,M⟩,rfl⟩⟩
   ·refine λz F=>?_
    have F:z=((i+1:Nat):Int):=by have:=F ⟨by omega,by omega⟩;omega
    subst F;exact⟨B.ah.length - (i+1),by omega,_,(by refine⟨[],?_,?_,rfl,rfl,AG _⟩<;>repeat' (first|exact rfl|exact trivial|exact⟨_,rfl,.same _ _ rfl⟩|apply cW)),i+1,q'+1,⟨by omega,by omega⟩,rfl,.inr ⟨l,k,cp,⟨J,by omega,M⟩,rfl⟩⟩
  ·subst J
   exact⟨rfl,rfl,rfl,(show q'<=q1 by omega),n,a,b,c,d,x,_,y,rfl,hn,.inr ⟨200,cp,l,_,rfl,rfl,.same _ _ rfl,by omega,M⟩⟩
theorem dr_sw(F:okSp B){q q1:Nat}{n:qB}{a:Int}(J:n.size<=maxLen)(Y:q+1200<=q1)(H:q1<=QM){z:St}(W:Ent z ⟨[(6,.complex .f64 112 0),(0,.complex .f64 0 0),(3,.complex .f64 64 0),(4,.complex .f64 65 0)],(112,AT (acL n a 0 0 0 false (.slice none 0 0) false) 45)::mD B c1 c2 c3,200,q⟩):vwr TT Γd Ρd (Ej 6 (Tryz.f58.body.getD .skip)) (drQ B q1) z:=by
 refine⟨_,W,?_⟩;refine cW (show q+1<=QM by omega) ?_;refine⟨0,5,rfl,rfl,⟨by decide,by decide⟩,λu _=>?_⟩;refine cW (λ_=>?_) (λ_=>?_)
 ·refine cW (show q+2<=QM by omega) ?_
  refine⟨0,3,rfl,rfl,⟨by decide,by decide⟩,λv _=>?_⟩;refine λz _=>?_
  exact Ni (q:=q+2) (b:=z) F J (by omega) H (by refine⟨[],?_,?_,rfl,rfl,AG _⟩<;>repeat' (first|exact rfl|exact trivial|exact⟨_,rfl,.same _ _ rfl⟩|apply cW))
 refine cW (λ_=>?_) (λ_=>?_)
 ·refine cW (show q+2<=QM by omega) ?_
  refine⟨0,6,rfl,rfl,⟨by decide,by decide⟩,λv _=>?_⟩;refine cW (show q+3<=QM by omega) ?_;refine⟨0,4,rfl,rfl,⟨by decide,by decide⟩,λM _=>?_⟩;exact Ni (q:=q+3) (c:=v) (d:=M) (x:=true) F J (by omega) H (by refine⟨[],?_,?_,rfl,rfl,AG _⟩<;>repeat' (first|exact rfl|exact trivial|exact⟨_,rfl,.same _ _ rfl⟩|apply cW))
 refine cW (λ_=>?_) (λ_=>?_)
 ·exact⟨rfl,rfl,rfl,(show q+1<=q1 by omega),n,a,0,0,0,false,_,true,rfl,J,.inl rfl⟩
 ·exact Ni (q:=q+1) F J (by omega) H (by refine⟨[],?_,?_,rfl,rfl,AG _⟩<;>repeat' (first|exact rfl|exact trivial|exact⟨_,rfl,.same _ _ rfl⟩|apply cW))
theorem dr_rest(F:okSp B){q q1:Nat}(M:q+1300<=q1)(J:q1<=QM):vwr TT Γd Ρd (Ej 3 (Tryz.f58.body.getD .skip)) (drQ B q1) ⟨[(0,.complex .f64 0 0),(3,.complex .f64 64 0),(4,.complex .f64 65 0)],mD B c1 c2 c3,80,q⟩:=by
 refine cW (show q+10<=QM by omega) ?_;refine⟨⟨B,c1,c2,c3⟩,rfl,F,?_⟩;rintro _ _ ⟨rfl,nm,rfl,H⟩;refine⟨(⟨B,c1,c2,c3⟩,nm),rfl,F.1,?_⟩;rintro _ _ ⟨rfl,k,rfl,hk⟩;refine cW (λh=>?_) (λh=>?_)
 ·refine cW h (cW hk.lt.2 (cW (AG _) (λs _=>?_)))
  exact dr_sw (q:=q+10) (a:=s.ag) F H (by omega) J (by refine⟨[],?_,?_,rfl,rfl,AG _⟩<;>repeat' (first|exact rfl|exact trivial|exact⟨_,rfl,.same _ _ rfl⟩|apply cW))
 ·exact dr_sw (q:=q+10) (a:=1) F H (by omega) J (by refine⟨[],?_,?_,rfl,rfl,AG _⟩<;>repeat' (first|exact rfl|exact trivial|exact⟨_,rfl,.same _ _ rfl⟩|apply cW))
end
end
section
open Go.RowKit Go.Sort
def MK(B:Bk)(A:Ac):Prop:=A.aw.length<=1000/\A.aa.size<=maxLen/\∀e∈A.aw,(-9223372036854775808<=e.ai/\e.ai<=9223372036854775807)\/∃c∈B.ah,c.ai=e.ai
theorem Ia{a:Act}{i:Nat}{v:Value}(h:a.tmps[i]?=some v):a.eval (.tmp i)=v:=by
 show a.tmps.getD i undef=v;simp[h]
theorem RE{a:Act}{i n:Nat}{v:Value}(h:a.eval (.tmp i)=v)(H:a.tmps.size=n)(F:i<n):a.tmps[i]?=some v:=by
 have h:a.tmps.getD i undef=v:=h;have F:i<a.tmps.size:=by omega
 rw[eA,io F]at h;rw[io F];exact em some h
structure EA4(r f:Nat)(a:Act):Prop where
 e0:a.eval (.tmp 0)=.pointer (qad r)
 e3:a.eval (.tmp 3)=.pointer (qad f)
 e4:a.eval (.tmp 4)=.pointer (some ⟨f+1,0,none⟩)
 sz:a.tmps.size=101
 df:a.defers=[]
def ghD(r f:Nat)(w:World)(a1 a2 a3:qO):Gh:=⟨λi=>if i=64 then some ⟨f,0,none⟩ else if i=65 then some ⟨f+1,0,none⟩ else(ghR r w a1 a2 a3).α i,λk=>k<w.heap.size/\k≠r,λk=>k=r⟩
theorem m1_still{r q q0 f:Nat}{w J:World}{B:Bk}{a1 a2 a3:qO}{c1 c2 c3:Nat}(W:Rd r w (q0:Int))(Z:BkAt w a1 a2 a3 B)(hR:Rd r J (q:Int))(F:Past r w.heap.size w J):∀i b,(i,b)∈BP.m1 ⟨B,c1,c2,c3⟩->i<64/\Hold (RDr r) w (ghD r f w a1 a2 a3) J q i b:=λi b H=>by
 obtain⟨Y,h2⟩:=RK (c1:=c1) (c2:=c2) (c3:=c3) W Z i b H;have ag:=W.lt
 have M:b.cs=[]:=by
  simp only[BP.m1,dy,dH,eP,dw]at H;rcases H with⟨rfl,rfl⟩|⟨rfl,rfl⟩|⟨rfl,rfl⟩|⟨rfl,rfl⟩<;>rfl
 refine⟨Y,h2.step (id:=64) (q':=q) ⟨⟨F.os,F.tape,F.output,F.size,λk hk hn=>F.block k hk hn⟩,λi H=>?_,λ_ h=>h,λ_ h=>.inl h,λk hk=>⟨AF hk.1 F.size,hk.2⟩,λ_ h=>h,λ_ h=>.inl h,λk hk=>by have hk:k=r:=hk;have:=F.size;omega,λg hg hd=>⟨hg,hR,hd.2.2⟩⟩ (λk hk=>⟨hk.1,hk.2⟩) (.inl Y) (by rw[M];exact λ_ h=>(nomatch h))⟩;show(if i=64 then _ else if i=65 then _ else _)=_;rw[dC (by omega),dC (by omega)]
theorem rest_run{r q q0:Nat}{B:Bk}{a1 a2 a3:qO}{c1 c2 c3:Nat}{a:Act}{w w2:World}(ay:okSp B)(h0:Rd r w (q0:Int))(hB:BkAt w a1 a2 a3 B)(hq:q+1300<=QM)(ea:EA4 r w.heap.size a)(hR:Rd r w2 (q:Int))(Y:Past r w.heap.size w w2)(vf:qBl w2 (w.heap.size) (qbV B a1 c1 a2 c2 a3 c3) 28)(vg:w2.heap[w.heap.size+1]?=some (.cells #[.string ⟨#[]⟩,.int .i64 0,.int .i64 0,.int .i64 0,.int .i64 0,.bool false,.slice none 0 0,.bool false] 45 (0,0))):
  (Ej 3 (Tryz.f58.body.getD .skip)).wp Tryz.prog (λe a' w'=>e=.ret/\∃(A:Ac) (ae:qO) (ce g:Nat),a'.eval (.tmp 4)=.pointer (qad g)/\a'.defers=[]/\qBl w' g (qaV A ae ce) 45/\SlEn w.heap.size w' ae ce A.aw/\MK B A/\Past r w.heap.size w w'/\Rd r w' ((q+1300:Nat):Int)) a w2:=by
 have bl:=h0.lt;have aG:=m1_still (f:=w.heap.size) (c1:=c1) (c2:=c2) (c3:=c3) h0 hB hR Y;have hz:=Y.size;have ht:∀i v,a.eval (.tmp i)=v->i<101->a.tmps[i]?=some v:=λi v h W=>RE h ea.sz W
 refine iQ (DF (R0:=⟨λk=>k=r,(ghD r w.heap.size w a1 a2 a3).α,0⟩) (w0:=w) (nt:=101) (RU r) (Ej 3 (Tryz.f58.body.getD .skip)) _ _ (ghD r w.heap.size w a1 a2 a3) a w2 (CL (RU r) (by kernel_rfl) _ (spec_d r) (by kernel_rfl)) (by rw[<-Ff];exact dr_rest (c1:=c1) (c2:=c2) (c3:=c3) (q:=q) (q1:=q+1300) ay (AG _) hq) ?_) ?_
 ·refine⟨ea.df,ea.sz,λi v W=>?_,λi b W=>?_,λi b j c W hj oi oj aE=>?_,λk hk=>⟨by have:=hk.1;omega,hk.2⟩,⟨Y.os,Y.tape,Y.output,Y.size,λk hk hn=>Y.block k hk hn⟩,λk hk=>.inl hk,λk hk=>by have hk:k=r:=hk;omega,(show 64<=80 by decide),λ_ _=>rfl,AI _⟩
  ·have F:=Aj _ _ _ W
   simp only[dy,dH,eP,dw]at F;rcases F with⟨rfl,rfl⟩|⟨rfl,rfl⟩|⟨rfl,rfl⟩
   ·exact⟨ht _ _ ea.e0 (by decide),Cz rfl⟩
   ·exact⟨ht _ _ ea.e3 (by decide),Cz rfl⟩
   ·exact⟨ht _ _ ea.e4 (by decide),Cz rfl⟩
  ·have F:=Aj _ _ _ W
   simp only[mD,dy,dw]at F;rcases F with⟨rfl,rfl⟩|⟨rfl,rfl⟩|F
   ·exact⟨show 64<80 by decide,⟨λ_=>⟨w.heap.size,rfl,AG _,λh=>gY _ h.1,λh=>by have h:w.heap.size=r:=h;omega,vf⟩,λh=>(nomatch h),λh=>(nomatch h),λh=>(nomatch h),λh=>(nomatch h),.inl rfl⟩,Cz rfl⟩
   ·exact⟨show 65<80 by decide,⟨λ_=>⟨w.heap.size+1,rfl,fh _,λh=>by have:=h.1;omega,λh=>by have h:w.heap.size+1=r:=h;omega,vg⟩,λh=>(nomatch h),λh=>(nomatch h),λh=>(nomatch h),λh=>(nomatch h),.inl rfl⟩,Cz rfl⟩
   ·obtain⟨h1,h2⟩:=aG i b F
    refine⟨show i<80 by omega,h2,?_⟩
    have aH:b.cs=[]:=by
     simp only[BP.m1,dy,dH,eP,dw]at F;rcases F with⟨rfl,rfl⟩|⟨rfl,rfl⟩|⟨rfl,rfl⟩|⟨rfl,rfl⟩<;>rfl
    rw[aH];exact λ_ h=>(nomatch h)
  ·have F:=Aj _ _ _ W
   have hn:=Aj _ _ _ hj;simp only[mD,BP.m1,dy,dH,eP,dw]at F hn;rcases F with⟨rfl,rfl⟩|⟨rfl,rfl⟩|⟨rfl,rfl⟩|⟨rfl,rfl⟩|⟨rfl,rfl⟩|⟨rfl,rfl⟩<;>rcases hn with⟨rfl,rfl⟩|⟨rfl,rfl⟩|⟨rfl,rfl⟩|⟨rfl,rfl⟩|⟨rfl,rfl⟩|⟨rfl,rfl⟩<;>first|exact absurd rfl aE|(rcases oi with h|h<;>cases h;done)|(rcases oj with h|h<;>cases h;done)|(intro e;simp[ghD]at e)
 ·rintro e a' w' ⟨s,G,⟨rfl,h4,au,bx,n,x1,x2,x3,x4,x5,E,x6,F,ak,hE⟩,J⟩
  obtain⟨g,eg,lg,_,_,am⟩:=(J.mem _ _ F).2.1.k0 rfl;obtain⟨g0,_,_,aC⟩:=(J.mem _ _ au).2.1.k4 rfl;have ah:Rd r w' ((q+1300:Nat):Int):=aC.2.1.mono (by omega);have hP:Past r w.heap.size w w':=⟨J.fr.os,J.fr.tape,J.fr.output,J.fr.size,λk hk hn=>J.fr.block k hk hn⟩
  have al:a'.eval (.tmp 4)=.pointer (qad g):=by
   rw[Ia (J.tmp _ _ h4).1];show Value.pointer ((G.α 65).map _)=_;rw[eg];rfl
  rcases hE with rfl|⟨i,cp,l,Z,rfl,hv,H,hl,ax⟩
  ·exact⟨rfl,⟨n,x1,x2,x3,x4,x5,[],x6⟩,none,0,g,al,J.bO,am,.inl ⟨rfl,rfl,rfl⟩,⟨AI _,ak,λ_ h=>(nomatch h)⟩,hP,ah⟩
  ·have hH:=(J.mem _ _ hv).2.1
   have aI:Z.kd=3:=H.kd;obtain⟨ge,els,e1,e2,_,_,f1,f2,f3,f4⟩:=hH.k3 aI;have aa:=(H.n3 rfl).1;have aF:=(H.n3 rfl).2
   have ai:els=l.map enL:=fp λj=>by
    rw[eh]
    cases hj:els[j]? with
    |none=>rw[fL]at hj;rw[dZ (by have h1:Z.n=l.length:=aa;omega)];rfl
    |some el=>
     have M:j<l.length:=by have h1:Z.n=l.length:=aa;have:=(AC hj).1;omega
     rw[dj M];exact em some ((f4 j el hj).1 (λe=>e=enL l[j]) (H.Q j M _ λy hy=>by rw[dj M]at hy;cases hy;rfl))
   subst ai
   have aw:RowIs w' 88 2 ge l.length cp (l.map enL).flatten:=by
    have h1:Z.ty=88:=H.ty;have h2:Z.sz=2:=H.sz;have h3:Z.n=l.length:=aa;have h4:Z.cp=cp:=aF;rw[h1,h2,h3,h4]at f3;exact f3
   refine⟨rfl,⟨n,x1,x2,x3,x4,x5,l,x6⟩,G.α i,cp,g,al,J.bO,am,.inr ⟨ge,e1,e2,aw⟩,⟨hl,ak,λe he=>.inr (ax e he)⟩,hP,ah⟩
def noDst(ops:Array Oper)(n e:Nat):Bool:=(List.range n).all λi=>(ops[i]?).bind (·.dst)!=some e
def atDst(ops:Array Oper)(n i d:Nat):Bool:=Cs ops n&&decide (i<n)&&((ops[i]?).bind (·.dst)==some d)
theorem MY{ops:Array Oper}{V:Nat->Value}{a:Act}{n e:Nat}(h:noDst ops n e=true):(Ae ops V n a).eval (.tmp e)=a.eval (.tmp e):=
 Hr n λi F=>by simpa using dh.1 h i (dA.2 F)
theorem MZ{ops:Array Oper}{V:Nat->Value}{a:Act}{n i d:Nat}(h:atDst ops n i d=true)(F:d<a.tmps.size):(Ae ops V n a).eval (.tmp d)=V i:=by
 unfold atDst at h;simp only[cY,dM,fq]at h;exact Hs h.2 F n h.1.1 h.1.2
section
variable {o:Oper} {ρ:Operand->Value} {W:World} {x y:Operand}
theorem Gj{n:Int}{v:Value}(hf:ρ (.func 38)=.func (.func 38) #[] #[])(h:o.op=.call {callee:=.value (.func 38),args:=#[x,y],argTypes:=#[71,3]})(hx:ρ x=v)(F:ρ y=.int .i64 n):(execOp ρ o).run Tryz.prog W=.ok (.enter 38 #[v,.int .i64 n]) W:=by
 simp[execOp,h,hx,F,hf,go_sem]
theorem OT{n m:Int}{t F:Nat}(h:o.op=.binOp .add t x y F)(hx:ρ x=.int .i64 n)(H:ρ y=.int .i64 m):(execOp ρ o).run Tryz.prog W=.ok (.value (.int .i64 (IntKind.wrap .i64 (n+m)))) W:=by
 simp[execOp,h,hx,H,go_sem]
end
theorem act_load{w:World}{g n cap:Nat}{R:List D9}(h:RowIs w 45 8 g n cap (D6 R)){j:Nat}{r:D9}(H:R[j]?=some r):∀i v,(D7 r)[i]?=some v->w.cell? ⟨g,j*8+i,none⟩=some v:=λi v hv=>by
 have F:i<8:=(AC hv).1;exact h.cell ((Ln R j r i H F).trans hv)
theorem act_at{w:World}{g n cap:Nat}{R:List D9}(h:RowIs w 45 8 g n cap (D6 R)){j:Nat}{r:D9}(H:R[j]?=some r):AcAt w g (j*8) r:=by
 have F:=act_load h H;unfold AcAt;exact⟨F 0 _ rfl,F 1 _ rfl,F 2 _ rfl,F 3 _ rfl,F 4 _ rfl,F 5 _ rfl,F 6 _ rfl,F 7 _ rfl⟩
theorem P9(r q:Nat)(B:Bk)(a1 a2 a3:qO)(c1 c2 c3:Nat)(w:World)(aL:okSp B)(hB:BkAt w a1 a2 a3 B)(hR:Rd r w (q:Int))(hq:q+1400<=QM):
  Calls Tryz.prog 58 #[.pointer (qad r),.agg (qbV B a1 c1 a2 c2 a3 c3)] w λe w'=>∃(A:Ac) (ae:qO) (ce:Nat),e=.returned (.agg (qaV A ae ce))/\SlEn w.heap.size w' ae ce A.aw/\MK B A/\Past r w.heap.size w w'/\Rd r w' ((q+1400:Nat):Int):=by
 have cN:q+1400<=1000000000000:=by unfold QM at hq;omega
 obtain⟨t0,t1,t2⟩:=B1 w (.cells (qbV B a1 c1 a2 c2 a3 c3) 28) (.cells #[.string ⟨#[]⟩,.int .i64 0,.int .i64 0,.int .i64 0,.int .i64 0,.bool false,.slice none 0 0,.bool false] 45);obtain⟨W0,ar⟩:∃W,(w.alloc (.cells (qbV B a1 c1 a2 c2 a3 c3) 28)).alloc (.cells #[.string ⟨#[]⟩,.int .i64 0,.int .i64 0,.int .i64 0,.int .i64 0,.bool false,.slice none 0 0,.bool false] 45)=W:=⟨_,rfl⟩;have Z:Below w.heap.size w W0:=by rw[<-ar];exact((dI _ _).alloc (AG _) _).alloc (by simp) _
 rw[ar]at t0 t1 t2;have T0:Hid _:=t0;have T1:Hid _:=t1;have aq:Hid _:=t2;have R0:Hid (Rd r W0 (q:Int)):=hR.below Z;have B0:Hid (BkAt W0 a1 a2 a3 B):=hB.below Z;have b6:=hR.lt;clear t0 t1 t2;go_enter Tryz.func58,Tryz.ntmps58
 go_upto_region 1 with fail
 rename_i K Y;have HK:Hid _:=Y;clear Y ar;refine EE 4 r 1 (q:Int) (by kernel_rfl) (by kernel_rfl) R0.O ?_;refine Dh (λv _=>v=.pointer (qad r)) (λ_ _ _ h _ _=>h) ?_ ?_
 ·intro V W K A hW F hd J Y
  obtain rfl:=J;exact Hk rfl (DG rfl) (Y.O _ _ (RStep.re _) ((MY (by kernel_rfl)).trans rfl))
 refine Dh (λv _=>∃k:Int,v=.int .i64 k) (λ_ _ _ h _ _=>h) ?_ ?_
 ·intro V W K A hW F hd J Y
  have h0:V 0=.pointer (qad r):=hd 0 (by kernel_rfl);have hx:A.eval (.tmp 10)=.pointer (qad r):=by rw[J.O];exact(MZ (i:=0) (by kernel_rfl) (AD rfl)).trans h0
  refine ID rfl (Gj rfl rfl hx rfl) ((CS r 6 _ W (by omega) (by omega) F (by omega)).mono ?_);rintro e w2 ⟨k,rfl,hk,hs⟩;exact⟨_,rfl,Y.O _ _ hs ⟨k,rfl⟩⟩
 refine Dh (λv _=>∃k:Int,v=.int .i64 k) (λ_ _ _ h _ _=>h) ?_ ?_
 ·intro V W K A hW F hd J Y
  obtain⟨k,h1⟩:∃k:Int,V 1=.int .i64 k:=hd 1 (by kernel_rfl);have hx:A.eval (.tmp 11)=.int .i64 k:=by rw[J.O];exact(MZ (i:=1) (by kernel_rfl) (AD rfl)).trans h1
  exact Hk rfl (OT rfl rfl hx) (Y.O _ _ (RStep.re _) ⟨_,rfl⟩)
 refine Dh (λv _=>v=.agg (qbV B a1 c1 a2 c2 a3 c3)) (λ_ _ _ h _ _=>h) ?_ ?_
 ·intro V W K A hW F hd J Y
  obtain rfl:=J;refine dD rfl 28 (.tmp 3) rfl w.heap.size ((MY (by kernel_rfl)).trans rfl) 28 _ (0,0) _ (Bn hW T0.O (by rw[aq.O];omega) (by omega)) Tryz.underlying28 rfl AU (gi (Y.O _ _ (RStep.re _) rfl))
 intro V W A hW F hS J;obtain⟨k2,h2⟩:∃k:Int,V 2=.int .i64 k:=hS 2 (by omega);have h3:V 3=.agg (qbV B a1 c1 a2 c2 a3 c3):=hS 3 (by omega);simp only[pA]at J;rw[h2,h3]at J;clear h2 h3 hS;obtain rfl:=J;simp only[dl,dF];have HW:Hid _:=hW;have aF:Hid (Rd r W ((q:Int)+(4*1:Nat))):=F;clear hW F
 go_wp2_with (go_at_call 27;refine(Km k2 B a1 a2 a3 c1 c2 c3 _ aL (B0.O.aP R0.O HW.O)).mono ?_;rintro e w2 ⟨g,cap,R,rfl,aH,hg,al,M,aT⟩;have a5:Hid _:=aH;have an:Hid (RowIs w2 45 8 g R.length cap (D6 R)):=al;have a9:Hid (∀r∈R,SlEn W.heap.size w2 r.2.1 r.2.2 r.1.aw):=M;have aw:Hid _:=aT;clear aH al M aT)
 refine HK.O _ _ ?_;refine wp_seq_k λK2 a4=>?_
 have aG:Hid _:=a4;clear a4 HK;have c7:=HW.O.size;have ct:=aw.O.size;have cB:=aq.O;have P2:Past r W0.heap.size W0 w2:=HW.O.aX (AG _) aw.O;have HP:Hid (Past r w.heap.size w w2):=(Past.of Z).next (AG _) P2;have az:Hid (Rd r w2 ((q+4:Nat):Int)):=(aF.O.below aw.O).mono (by omega);have VF:Hid (qBl w2 (w.heap.size) (qbV B a1 c1 a2 c2 a3 c3) 28):=Bn P2 T0.O (by omega) (by omega);have VG:Hid (w2.heap[w.heap.size+1]?=some (.cells #[.string ⟨#[]⟩,.int .i64 0,.int .i64 0,.int .i64 0,.int .i64 0,.bool false,.slice none 0 0,.bool false] 45 (0,0))):=Bn P2 T1.O (by omega) (by omega);have HB:Hid _:=hB;have H0:Hid (Rd r w (q:Int)):=hR;clear P2 T0 T1 aq R0 B0 hB hR aF Z
 have aE:Hid (∀(q':Nat) (a:Act) (w3:World),q'<=q+100->EA4 r w.heap.size a->Rd r w3 (q':Int)->Past r w.heap.size w w3->qBl w3 (w.heap.size) (qbV B a1 c1 a2 c2 a3 c3) 28->w3.heap[w.heap.size+1]?=some (.cells #[.string ⟨#[]⟩,.int .i64 0,.int .i64 0,.int .i64 0,.int .i64 0,.bool false,.slice none 0 0,.bool false] 45 (0,0))->K2 a w3):=λq' a w3 cr ea ag ai vf vg=>by
  refine aG.O _ _ (iQ (rest_run (q:=q') (c1:=c1) (c2:=c2) (c3:=c3) aL H0.O HB.O (by omega) ea ag ai vf vg) ?_);rintro _ a' w' ⟨rfl,A,ae,ce,g',h4,br,bB,bm,bM,bz,bj⟩;exact dS (eU rfl _ _ g' _ _ (0,0) _ h4 bB Tryz.underlying45 rfl EY) br ⟨A,ae,ce,rfl,bm,bM,bz,bj.mono (by omega)⟩
 clear aG
 by_cases h0:0<R.length
 ·have bI:decide ((0:Int)<(R.length:Int))=true:=dO (by omega)
  go_upto_if 22 with(go_at_call 38;refine(CS r 3 _ _ (by omega) (by omega) az.O (by omega)).mono ?_;rintro e w3 ⟨k3,rfl,bf,ai,ag⟩;have H:Hid _:=ai;have aA:Hid (Rd r w3 ((q+5:Nat):Int)):=(ag _ az.O).mono (by omega);clear ai ag bf)
  have c5:=H.O.size;have aM:Hid (Past r w.heap.size w w3):=HP.O.next (AG _) H.O;have ch:=an.O.lt;have co:=(AB VG.O).1;have bo:Hid _:=Bn H.O VF.O (by omega) (by omega);have aK:Hid _:=Bn H.O VG.O (by omega) (by omega)
  by_cases hk:0<k3
  ·have bS:decide (0<k3)=true:=by simp[hk]
   have cM:=a5.O.1
   go_wp2_with (first
    |(go_at_call 38;refine(CS r R.length _ _ (by omega) (by omega) aA.O (by omega)).mono ?_;rintro e w4 ⟨k4,rfl,ay,af,aI⟩;obtain⟨j,rfl⟩:=fU ay.1;have hj:j<R.length:=(by have:=ay.2.1 (by omega);omega);have ax:Hid _:=af;have bt:Hid (Rd r w4 ((q+6:Nat):Int)):=(aI _ aA.O).mono (by omega);obtain⟨⟨AA,ae,ce⟩,au⟩:∃ra,R[j]?=some ra:=⟨R[j],by simp⟩;have bx:Hid _:=au;have bR:=(act_at (an.O.aR ((af.block g (by omega) (by omega)).trans (H.O.block g (by omega) (by omega)))) au);obtain⟨m0,m1,m2,m3,m4,m5,m6,m7⟩:=bR;have bb:Hid _:=Bn af aK.O (by omega) (by omega);clear af aI ay au)
    |((with_reducible show wpList _ _ _ _ _ _);refine AM rfl 45 (.tmp 4) (.tmp 29) rfl (w.heap.size+1) 0 (qaV AA ae ce) rfl rfl 45 _ bb.O EY (AD rfl) (NS AA ae ce) ?_;intro w5 aC aa;simp only[Act.put]))
   have aC:qBl w5 (w.heap.size+1) (qaV AA ae ce) 45:=aC.O;have cv:=ax.O.size;have am:=AE bx.O;obtain⟨p1,p2,p3⟩:=a5.O.2 _ am;refine dS (eU rfl _ _ (w.heap.size+1) _ _ (0,0) _ rfl aC Tryz.underlying45 rfl EY) rfl ⟨AA,ae,ce,rfl,(a9.O _ am).aZ (by omega) (λge cl cd hc=>?_),⟨p1,p3,λe he=>.inl (p2 e he)⟩,(aM.O.next (AG _) ax.O).trans (.of (aa.below.mono (by omega))),(bt.O.bD (by omega) aa.size aa.aB).mono (by omega)⟩;have bY:=(AB hc).1;exact(aa.aB ge (by omega)).trans ((ax.O.block ge (by omega) (by omega)).trans (H.O.block ge (by omega) (by omega)))
  ·have bS:decide (0<k3)=false:=by simp[hk]
   go_wp2;exact aE.O (q+5) _ _ (by omega) ⟨rfl,rfl,rfl,rfl,rfl⟩ aA.O aM.O bo.O aK.O
 ·have bI:decide ((0:Int)<(R.length:Int))=false:=dQ (by omega)
  go_wp2;exact aE.O (q+4) _ _ (by omega) ⟨rfl,rfl,rfl,rfl,rfl⟩ az.O HP.O VF.O VG.O
def qac(f:Func):Code:=match Ej 8 (f.body.getD .skip) with| .seq c _=>c|_=>.skip
def qae(f:Func):Code:=match Ej 8 (f.body.getD .skip) with| .seq _ c=>c|_=>.skip
theorem Mo{x y z:Int}:∀e∈[[Value.int .i64 x],[.int .i64 y],[.int .i64 z]],∃k:Int,e=[.int .i64 k]:=λe F=>by
 simp only[dy,dH,eP]at F;rcases F with rfl|rfl|rfl
 ·exact⟨_,rfl⟩
 ·exact⟨_,rfl⟩
 ·exact⟨_,rfl⟩
def asT(f f' x:Nat)(j:Int):Tm:=[(2,.pointer (qad f)),(3,.pointer (qad f')),(6,.pointer (qad x)),(7,.complex .f64 64 0),(4,.complex .f64 0 0),(8,.int .i64 j)]
def asQ(f f' x:Nat)(B:Bk)(l:List En)(nm:qB)(e:Exit)(s:St):Prop:=e=.normal/\(lk s.t 2=some (.pointer (qad f))/\lk s.t 3=some (.pointer (qad f'))/\lk s.t 6=some (.pointer (qad x))/\lk s.t 7=some (.complex .f64 64 0))/\(lk s.m 1=some (A9 34 13 svL B.af)/\lk s.m 2=some (A9 76 7 cpL B.ah)/\lk s.m 3=some (A9 90 2 btL B.ak))/\∃a b c d x E y,lk s.m 64=some (AT (acL nm a b c d x E y) 45)/\
 (E=.slice none 0 0\/∃i cp l' vb,E=.iface i (.slice none l'.length cp)/\lk s.m i=some vb/\LeB [] vb (An 88 2 cp enL l')/\l'.length<=l.length+1/\∀e∈l',e.ai=900\/∃e'∈l,e'.ai=e.ai)
abbrev Γp:List (Nat × Nat × Ct):=[(38,1,Nj)]
section
variable {B:Bk} {b1 b2 b3:Nat} {f f' x0 q:Nat} {nm:qB} {a b c d:Int} {x y:Bool} {j:Int}
theorem asw_nil(Y:q+10<=QM):vwr TT Γp [] (qac Tryz.f21) (asQ f f' x0 B [] nm) ⟨asT f f' x0 j,(64,AT (acL nm a b c d x (.slice none 0 0) y) 45)::BP.m1 ⟨B,b1,b2,b3⟩,72,q⟩:=by
 refine cW (show q+1<=QM by omega) ?_;refine⟨0,16,rfl,rfl,⟨by decide,by decide⟩,λu _=>?_⟩;refine cW (λ_=>?_) (λ_=>?_)
 ·refine λz _=>?_
  exact⟨rfl,⟨rfl,rfl,rfl,rfl⟩,⟨rfl,rfl,rfl⟩,z,b,c,d,x,_,y,rfl,.inl rfl⟩
 refine cW (λ_=>?_) (λ_=>?_)
 ·refine cW (show q+2<=QM by omega) ?_
  refine⟨0,3,rfl,rfl,⟨by decide,by decide⟩,λJ H=>?_⟩;refine cW H.1 (cW (H.2.1 (by decide)) (cW (AG _) (cW (CO H 3 rfl (by decide)) (λel F=>?_))));obtain⟨k,rfl⟩:=Mo el (AE F);exact⟨rfl,⟨rfl,rfl,rfl,rfl⟩,⟨rfl,rfl,rfl⟩,a,k,c,d,x,_,y,rfl,.inl rfl⟩
 refine cW (λ_=>?_) (λ_=>?_)
 ·refine cW (show q+2<=QM by omega) ?_
  refine⟨0,3,rfl,rfl,⟨by decide,by decide⟩,λJ H=>?_⟩;refine cW H.1 (cW (H.2.1 (by decide)) (cW (AG _) (cW (CO H 3 rfl (by decide)) (λel F=>?_))));obtain⟨k,rfl⟩:=Mo el (AE F);exact⟨rfl,⟨rfl,rfl,rfl,rfl⟩,⟨rfl,rfl,rfl⟩,a,b,k,d,x,_,y,rfl,.inl rfl⟩
 refine cW (λ_=>?_) (λ_=>?_)
 ·refine cW (show q+2<=QM by omega) ?_
  refine⟨0,3,rfl,rfl,⟨by decide,by decide⟩,λJ H=>?_⟩;refine cW H.1 (cW (H.2.1 (by decide)) (cW (AG _) (cW (CO H 3 rfl (by decide)) (λel F=>?_))));obtain⟨k,rfl⟩:=Mo el (AE F);exact⟨rfl,⟨rfl,rfl,rfl,rfl⟩,⟨rfl,rfl,rfl⟩,a,b,c,k,x,_,y,rfl,.inl rfl⟩
 refine cW (λ_=>?_) (λ_=>?_)
 ·refine cW (λ_=>?_) (λ_=>?_)
  ·exact⟨rfl,⟨rfl,rfl,rfl,rfl⟩,⟨rfl,rfl,rfl⟩,a,b,c,d,x,_,false,rfl,.inl rfl⟩
  ·exact⟨rfl,⟨rfl,rfl,rfl,rfl⟩,⟨rfl,rfl,rfl⟩,a,b,c,d,x,_,true,rfl,.inl rfl⟩
 refine cW (λ_=>?_) (λ_=>?_)
 ·refine cW (λh=>absurd h (by decide)) (λ_=>?_)
  exact⟨rfl,⟨rfl,rfl,rfl,rfl⟩,⟨rfl,rfl,rfl⟩,a,b,c,d,x,_,y,rfl,.inl rfl⟩
 refine cW (λ_=>?_) (λ_=>?_)
 ·refine cW (λh=>absurd h (by decide)) (λ_=>?_)
  exact⟨rfl,⟨rfl,rfl,rfl,rfl⟩,⟨rfl,rfl,rfl⟩,a,b,c,d,x,_,y,rfl,.inl rfl⟩
 refine cW (λ_=>?_) (λ_=>?_)
 ·refine cW (AG _) (cW (AG _) (cW (by decide) (λW=>?_)))
  exact⟨rfl,⟨rfl,rfl,rfl,rfl⟩,⟨rfl,rfl,rfl⟩,a,b,c,d,x,_,y,rfl,.inr ⟨_,W,[⟨900,1⟩],_,rfl,rfl,one_le (f:=enL) (⟨900,1⟩:En),by decide,λe M=>by cases cZ.1 M;exact .inl rfl⟩⟩
 refine cW (λ_=>?_) (λ_=>?_)
 ·refine cW (λ_=>?_) (λ_=>?_)
  ·exact⟨rfl,⟨rfl,rfl,rfl,rfl⟩,⟨rfl,rfl,rfl⟩,a,b,c,d,false,_,y,rfl,.inl rfl⟩
  ·exact⟨rfl,⟨rfl,rfl,rfl,rfl⟩,⟨rfl,rfl,rfl⟩,a,b,c,d,true,_,y,rfl,.inl rfl⟩
 ·exact⟨rfl,⟨rfl,rfl,rfl,rfl⟩,⟨rfl,rfl,rfl⟩,a,b,c,d,x,_,y,rfl,.inl rfl⟩
theorem as_row{l:List En}{cp:Nat}(hl:l.length<=1000)(W:0<=j/\(0<l.length->j<l.length))(hq:q+10<=QM):vwr TT Γp [] (qac Tryz.f21) (asQ f f' x0 B l nm) ⟨asT f f' x0 j,(64,AT (acL nm a b c d x (.iface 65 (.slice none l.length cp)) y) 45)::(65,An 88 2 cp enL l)::BP.m1 ⟨B,b1,b2,b3⟩,72,q⟩:=by
 refine cW (show q+1<=QM by omega) ?_;refine⟨0,16,rfl,rfl,⟨by decide,by decide⟩,λu _=>?_⟩;refine cW (λ_=>?_) (λ_=>?_)
 ·refine λz _=>?_
  exact⟨rfl,⟨rfl,rfl,rfl,rfl⟩,⟨rfl,rfl,rfl⟩,z,b,c,d,x,_,y,rfl,.inr ⟨65,cp,l,_,rfl,rfl,.same _ _ rfl,by omega,λe F=>.inr ⟨e,F,rfl⟩⟩⟩
 refine cW (λ_=>?_) (λ_=>?_)
 ·refine cW (show q+2<=QM by omega) ?_
  refine⟨0,3,rfl,rfl,⟨by decide,by decide⟩,λy' H=>?_⟩;refine cW H.1 (cW (H.2.1 (by decide)) (cW (AG _) (cW (CO H 3 rfl (by decide)) (λel J=>?_))));obtain⟨k,rfl⟩:=Mo el (AE J);exact⟨rfl,⟨rfl,rfl,rfl,rfl⟩,⟨rfl,rfl,rfl⟩,a,k,c,d,x,_,y,rfl,.inr ⟨65,cp,l,_,rfl,rfl,.same _ _ rfl,by omega,λe F=>.inr ⟨e,F,rfl⟩⟩⟩
 refine cW (λ_=>?_) (λ_=>?_)
 ·refine cW (show q+2<=QM by omega) ?_
  refine⟨0,3,rfl,rfl,⟨by decide,by decide⟩,λy' H=>?_⟩;refine cW H.1 (cW (H.2.1 (by decide)) (cW (AG _) (cW (CO H 3 rfl (by decide)) (λel J=>?_))));obtain⟨k,rfl⟩:=Mo el (AE J);exact⟨rfl,⟨rfl,rfl,rfl,rfl⟩,⟨rfl,rfl,rfl⟩,a,b,k,d,x,_,y,rfl,.inr ⟨65,cp,l,_,rfl,rfl,.same _ _ rfl,by omega,λe F=>.inr ⟨e,F,rfl⟩⟩⟩
 refine cW (λ_=>?_) (λ_=>?_)
 ·refine cW (show q+2<=QM by omega) ?_
  refine⟨0,3,rfl,rfl,⟨by decide,by decide⟩,λy' H=>?_⟩;refine cW H.1 (cW (H.2.1 (by decide)) (cW (AG _) (cW (CO H 3 rfl (by decide)) (λel J=>?_))));obtain⟨k,rfl⟩:=Mo el (AE J);exact⟨rfl,⟨rfl,rfl,rfl,rfl⟩,⟨rfl,rfl,rfl⟩,a,b,c,k,x,_,y,rfl,.inr ⟨65,cp,l,_,rfl,rfl,.same _ _ rfl,by omega,λe F=>.inr ⟨e,F,rfl⟩⟩⟩
 refine cW (λ_=>?_) (λ_=>?_)
 ·refine cW (λ_=>?_) (λ_=>?_)
  ·exact⟨rfl,⟨rfl,rfl,rfl,rfl⟩,⟨rfl,rfl,rfl⟩,a,b,c,d,x,_,false,rfl,.inr ⟨65,cp,l,_,rfl,rfl,.same _ _ rfl,by omega,λe F=>.inr ⟨e,F,rfl⟩⟩⟩
  ·exact⟨rfl,⟨rfl,rfl,rfl,rfl⟩,⟨rfl,rfl,rfl⟩,a,b,c,d,x,_,true,rfl,.inr ⟨65,cp,l,_,rfl,rfl,.same _ _ rfl,by omega,λe F=>.inr ⟨e,F,rfl⟩⟩⟩
 refine cW (λ_=>?_) (λ_=>?_)
 ·refine cW (λh=>?_) (λ_=>?_)
  ·have h:(0:Int)<l.length:=h
   obtain⟨k,rfl⟩:∃k:Nat,j=k:=⟨j.toNat,by have:=W.1;omega⟩;have hk:k<l.length:=by have:=W.2 (by omega);omega
   refine cW (iA k) (cW (show(k:Int)<l.length by omega) ?_);refine cW (AG _) (cW hk (λe F=>?_));refine λz _=>?_
   refine cW (iA k) (cW (show(k:Int)<l.length by omega) ?_);refine cW (AG _) (cW hk (cW (λ_ _ _=>trivial) ?_))
   exact⟨rfl,⟨rfl,rfl,rfl,rfl⟩,⟨rfl,rfl,rfl⟩,a,b,c,d,x,_,y,rfl,.inr ⟨65,cp,l.set k ⟨e.ai,z⟩,_,by rw[du],rfl,BK (f:=enL) (x:=e) (x':=⟨e.ai,z⟩) (.same _ _ rfl) F rfl,by rw[du];omega,λY M=>by
    rcases eu M with h2|rfl
    ·exact .inr ⟨Y,h2,rfl⟩
    ·exact .inr ⟨e,AE F,rfl⟩⟩⟩
  ·exact⟨rfl,⟨rfl,rfl,rfl,rfl⟩,⟨rfl,rfl,rfl⟩,a,b,c,d,x,_,y,rfl,.inr ⟨65,cp,l,_,rfl,rfl,.same _ _ rfl,by omega,λe F=>.inr ⟨e,F,rfl⟩⟩⟩
 refine cW (λ_=>?_) (λ_=>?_)
 ·refine cW (λh=>?_) (λ_=>?_)
  ·have h:(0:Int)<l.length:=h
   obtain⟨k,rfl⟩:∃k:Nat,j=k:=⟨j.toNat,by have:=W.1;omega⟩;have hk:k<l.length:=by have:=W.2 (by omega);omega
   refine cW (iA k) (cW (show(k:Int)<l.length by omega) ?_);refine cW (AG _) (cW hk (λe F=>?_));refine cW rfl (cW rfl (cW (AG _) (cW (by omega) (λZ=>?_))))
   exact⟨rfl,⟨rfl,rfl,rfl,rfl⟩,⟨rfl,rfl,rfl⟩,a,b,c,d,x,_,y,rfl,.inr ⟨_,Z,l++[e],_,by rw[dE];rfl,rfl,DE (f:=enL) l e,by simp,λY M=>by
    rcases dt.1 M with M|M
    ·exact .inr ⟨Y,M,rfl⟩
    ·cases cZ.1 M;exact .inr ⟨e,AE F,rfl⟩⟩⟩
  ·exact⟨rfl,⟨rfl,rfl,rfl,rfl⟩,⟨rfl,rfl,rfl⟩,a,b,c,d,x,_,y,rfl,.inr ⟨65,cp,l,_,rfl,rfl,.same _ _ rfl,by omega,λe F=>.inr ⟨e,F,rfl⟩⟩⟩
 refine cW (λ_=>?_) (λ_=>?_)
 ·refine cW rfl (cW rfl (cW (AG _) (cW (by omega) (λZ=>?_))))
  exact⟨rfl,⟨rfl,rfl,rfl,rfl⟩,⟨rfl,rfl,rfl⟩,a,b,c,d,x,_,y,rfl,.inr ⟨_,Z,l++[⟨900,1⟩],_,by rw[dE];rfl,rfl,DE (f:=enL) l (⟨900,1⟩:En),by simp,λe F=>by
   rcases dt.1 F with F|F
   ·exact .inr ⟨e,F,rfl⟩
   ·cases cZ.1 F;exact .inl rfl⟩⟩
 refine cW (λ_=>?_) (λ_=>?_)
 ·refine cW (λ_=>?_) (λ_=>?_)
  ·exact⟨rfl,⟨rfl,rfl,rfl,rfl⟩,⟨rfl,rfl,rfl⟩,a,b,c,d,false,_,y,rfl,.inr ⟨65,cp,l,_,rfl,rfl,.same _ _ rfl,by omega,λe F=>.inr ⟨e,F,rfl⟩⟩⟩
  ·exact⟨rfl,⟨rfl,rfl,rfl,rfl⟩,⟨rfl,rfl,rfl⟩,a,b,c,d,true,_,y,rfl,.inr ⟨65,cp,l,_,rfl,rfl,.same _ _ rfl,by omega,λe F=>.inr ⟨e,F,rfl⟩⟩⟩
 ·exact⟨rfl,⟨rfl,rfl,rfl,rfl⟩,⟨rfl,rfl,rfl⟩,a,b,c,d,x,_,y,rfl,.inr ⟨65,cp,l,_,rfl,rfl,.same _ _ rfl,by omega,λe F=>.inr ⟨e,F,rfl⟩⟩⟩
end
end
