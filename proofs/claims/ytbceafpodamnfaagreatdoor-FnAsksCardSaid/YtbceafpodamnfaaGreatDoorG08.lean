import Derived.Test.YtbceafpodamnfaaGreatDoorG04
import Derived.Test.YtbceafpodamnfaaGreatDoorG07
import Derived.Maps.AppendAt
set_option linter.all false
namespace Go.Proofs.YtbceafpodamnfaaGreatDoor
section
open Go.RowKit
open Go.Value renaming int->In,slice->Sl,string->Sg,bool->Bo,pointer->Po
open Go.IntKind renaming i64->i6
section
variable {P:Program} {RD:(Nat->Prop)->World->Nat->Nat->Prop} {w0:World} {tt:List TE} {Γ:List (Nat × Nat × Ct)} {R0:Ro} {nt:Nat} {G:Gh} {w:World} {a:Act} {q c:Nat} {t:Tm} {m:AW}
theorem Li{ops:List Oper}{o:Oper}{b:Bool}(h:EO ops t o=some b)(O:∀i v,lk t i=some v->a.tmps[i]?=some (r2 G.α v)):Region.wanted o (yielded ops.toArray a.tmps)=b:=by
 unfold EO at h;unfold Region.wanted;split at h
 ·rename_i F;rw[F];cases h;rfl
 ·rename_i j au F
  rw[F];split at h
  ·rename_i Y M
   split at h
   ·rename_i d J
    have H:∀u,lk t d=some u->yielded ops.toArray a.tmps j=match r2 G.α u with| .bool b=>some b|_=>none:=λu W=>by
     unfold yielded;rw[show ops.toArray[j]?=some Y from by simpa using M,Option.bind_some,J,Option.bind_some,O d u W];cases r2 G.α u<;>rfl
    split at h
    ·rename_i z;cases h;show(yielded ops.toArray a.tmps j==some _)=_;rw[show yielded ops.toArray a.tmps j=some true from H _ z];cases b<;>rfl
    ·rename_i z;cases h;show(yielded ops.toArray a.tmps j==some _)=_;rw[show yielded ops.toArray a.tmps j=some false from H _ z];cases au<;>rfl
    ·rename_i us z;cases h;show(yielded ops.toArray a.tmps j==some _)=_;rw[show yielded ops.toArray a.tmps j=none from H _ z];rfl
    ·cases h
   ·cases h
  ·cases h
theorem cst_ok{v u:Value}(h:cst v=some u)(α:Nat->Option Addr):v=r2 α u/\Bc u=[]:=by
 unfold cst at h;split at h<;>first|(cases h;exact⟨rfl,rfl⟩)|cases h
theorem S8{x:Operand}{v:Value}(h:evo t x=some v)(J:∀i v,lk t i=some v->a.tmps[i]?=some (r2 G.α v)/\Clo m (Bc v)):a.eval x=r2 G.α v/\Clo m (Bc v):=by
 unfold evo at h;split at h
 ·rename_i i
  obtain⟨z,F⟩:=J i v h;refine⟨?_,F⟩;show a.tmps.getD i undef=_;rw[fO,z];rfl
 ·obtain⟨z,F⟩:=cst_ok h G.α
  exact⟨z,by rw[F];intro i H;cases H⟩
 ·cases h
theorem S7(F:∀i v,lk t i=some v->a.tmps[i]?=some (r2 G.α v)/\Clo m (Bc v)):∀(xs:List Operand) (vs:qL),evs t xs=some vs->xs.map a.eval=vs.map (r2 G.α)/\Clo m (vs.flatMap Bc)
 |[],vs,h=>by cases h;exact⟨rfl,λi z=>(nomatch z)⟩
 |x::xs,vs,h=>by
  unfold evs at h;split at h
  ·rename_i v hv
   split at h
   ·rename_i l W
    cases h;obtain⟨H,J⟩:=S8 hv F;obtain⟨M,O⟩:=S7 F xs l W;refine⟨by rw[dK,dK,H,M],λi z=>?_⟩;rw[eB]at z;rcases dO.1 z with z|z
    ·exact J i z
    ·exact O i z
   ·cases h
  ·cases h
theorem IV:∀(m:AW) (i j:Nat) (b b0:VB),lk m i=some b0->lk (I9 m i b) j=if j=i then some b else lk m j
 |[],_,_,_,_,h=>by cases h
 |(k,bk)::r,i,j,b,b0,h=>by
  unfold I9
  cases hb:Nat.beq k i with
  |true=>
   have:=dh hb;subst this;show lk ((k,b)::r) j=_
   by_cases z:j=k
   ·subst z;rw[Ae,dv rfl]
   ·rw[Au (Ne.symm z),dk z,Au (Ne.symm z)]
  |false=>
   have F:k≠i:=λh=>by subst h;rw[show Nat.beq k k=true from by simp]at hb;cases hb
   rw[Au F]at h;show lk ((k,bk)::I9 r i b) j=_
   by_cases z:j=k
   ·subst z;rw[Ae,Ae,dk F]
   ·rw[Au (Ne.symm z),Au (Ne.symm z),IV r i j b b0 h]
theorem Sat.bW(E:Env P RD tt Γ){w':World}{i g:Nat}{b b1:VB}(h:Sat RD R0 w0 nt G ⟨t,m,c,q⟩ a w)(hb:lk m i=some b)(hk:EN b)(hg:G.α i=some ⟨g,0,none⟩)
  (hH:Hold RD w0 G w' q i b1) (aq:Clo m (b1.cs.flatMap DJ)) (Z:w.grownBy w' (some g)):Sat RD R0 w0 nt G ⟨t,I9 m i b1,c,q⟩ a w':=by
 obtain⟨g',aj,aG,aw,au,aF⟩:=((h.mem i b hb).2.1).aW hk;have ax:g'=g:=by rw[hg]at aj;cases aj;rfl
 subst ax;have Y:∀k,k<w.heap.size->k≠g'->w'.heap[k]?=w.heap[k]?:=λk hk H=>Z.block k hk (λe=>H (dj e))
 have hu:∀j J,lk (I9 m i b1) j=some J->(j=i/\J=b1)\/(j≠i/\lk m j=some J):=λj J W=>by
  rw[IV m i j _ b hb]at W;split at W
  ·rename_i e;exact .inl ⟨e,(dj W).symm⟩
  ·rename_i e;exact .inr ⟨e,W⟩
 have ae:∀l,Clo m l->Clo (I9 m i b1) l:=λl hl=>hl.mono λj J W=>by
  rw[IV m i j _ b hb];split
  ·exact⟨_,rfl⟩
  ·exact⟨J,W⟩
 have hZ:∀k,G.Z k->w'.heap[k]?=w.heap[k]?:=λk hk=>Y k (h.z3 k hk).1 λe=>aw (e▸hk)
 refine⟨h.ci,h.bX,λj v hv=>⟨(h.tmp j v hv).1,ae _ (h.tmp j v hv).2⟩,λj J W=>?_,λj J j' aa W ay O ah H=>?_,λk hk=>⟨AF (h.z3 k hk).1 Z.size,(h.z3 k hk).2⟩,?_,h.rb,λk hk=>AF (h.rl k hk) Z.size,h.bD,h.al,AH h.sz Z.size⟩
 ·rcases hu j J W with⟨rfl,rfl⟩|⟨H,W⟩
  ·exact⟨(h.mem j b hb).1,hH,ae _ aq⟩
  ·obtain⟨h1,h2,h3⟩:=h.mem j J W
   have ak:EN J->∀F,G.α j=some ⟨F,0,none⟩->F≠g':=λho F z e=>h.bO j J i b W hb ho hk H (by rw[z,hg,e])
   refine⟨h1,⟨λO=>?_,λO x hx=>?_,λO=>?_,λO=>?_,λO=>?_,h2.kk⟩,ae _ h3⟩
   ·obtain⟨F,z,M,e3,e4,e5⟩:=h2.k0 O
    exact⟨F,z,M,e3,e4,(Y F (AB e5).1 (ak (.inl O) F z)).trans e5⟩
   ·obtain⟨F,o,el,z,M,e3,e4⟩:=h2.k1 O x hx
    exact⟨F,o,el,z,M,e3,e4.step M (λ_ h=>h) hZ⟩
   ·obtain⟨F,o,z,M,e4⟩:=h2.k2 O
    exact⟨F,o,z,M,e4.step M (λ_ h=>h) hZ⟩
   ·obtain⟨F,els,z,M,e3,e4,e5⟩:=h2.k3 O
    exact⟨F,els,z,M,e3,e4,e5.step (Y F e5.2.2.1.lt (ak (.inr O) F z)) (λ_ h=>h) hZ⟩
   ·obtain⟨F,z,M,e3⟩:=h2.k4 O
    exact⟨F,z,M,E.rd _ _ _ _ _ _ _ e3 (λ_ h=>h) (Y F (h.rl F M) λe=>au (e▸M)) hZ AG⟩
 ·rcases hu j J W with⟨z,M⟩|⟨_,z⟩<;>rcases hu j' aa ay with⟨f1,f2⟩|⟨_,f1⟩
  ·exact absurd (z.trans f1.symm) H
  ·subst z;exact h.bO j b j' aa hb f1 hk ah H
  ·subst f1;exact h.bO j J j' b z hb O hk H
  ·exact h.bO j J j' aa z f1 O ah H
 ·exact⟨Z.os.trans h.fr.os,Z.tape.trans h.fr.tape,Z.output.trans h.fr.output,AH h.fr.size Z.size,λk hk hn=>(Y k (AF hk h.fr.size) qo).trans (h.fr.block k hk hn)⟩
theorem KC(w:World)(g:Nat)(cs:Array Value):w.grownBy (w.setRow g cs) (some g):=⟨rfl,rfl,rfl,by rw[Fw];exact AG,λk _ hk=>EE w g k cs λe=>hk (by rw[e])⟩
theorem Sat.add{id c':Nat}{ad:Addr}{b1:VB}(h:Sat RD R0 w0 nt G ⟨t,m,c,q⟩ a w)(ay:c<=id)(hc:id<c')(ak:b1.cs=[])
  (hH:Hold RD w0 ⟨λi=>if i=id then some ad else G.α i,G.Z,G.RB⟩ w q id b1) (O:∀j b,lk m j=some b->EN b->G.α j≠some ad):
  Sat RD R0 w0 nt ⟨λi=>if i=id then some ad else G.α i,G.Z,G.RB⟩ ⟨t,(id,b1)::m,c',q⟩ a w:=by
 have an:∀i b,lk m i=some b->i≠id:=λi b hb e=>by have:i<c:=(h.mem i b hb).1;omega
 have F:∀i b,lk m i=some b->(if i=id then some ad else G.α i)=G.α i:=λi b hb=>dk (an i b hb)
 have ae:∀l,Clo m l->Clo ((id,b1)::m) l:=λl hl=>hl.cons _
 have J:∀i b,lk ((id,b1)::m) i=some b->(i=id/\b=b1)\/(i≠id/\lk m i=some b):=λi b hb=>by
  by_cases e:i=id
  ·subst e;rw[Ae]at hb;exact .inl ⟨rfl,(dj hb).symm⟩
  ·rw[Au (Ne.symm e)]at hb;exact .inr ⟨e,hb⟩
 have aa:∀l,Clo m l->∀i∈l,(if i=id then some ad else G.α i)=G.α i:=λl hl i hi=>let ⟨b,hb⟩:=hl i hi;F i b hb
 refine⟨h.ci,h.bX,λi v hv=>⟨?_,ae _ (h.tmp i v hv).2⟩,λi b hb=>?_,λi b j b' hb aj H Z af=>?_,h.z3,h.fr,h.rb,h.rl,(by have h1:64<=c:=h.bD;show 64<=c';omega),λi hi=>(dk (by have h1:64<=c:=h.bD;omega)).trans (h.al i hi),h.sz⟩
 ·rw[(h.tmp i v hv).1,Jj (β:=λi=>if i=id then some ad else G.α i) (α:=G.α) v (aa _ (h.tmp i v hv).2)]
 ·rcases J i b hb with⟨rfl,rfl⟩|⟨_,hb⟩
  ·exact⟨hc,hH,by rw[ak];exact λ_ h=>(nomatch h)⟩
  ·obtain⟨h1,W,h3⟩:=h.mem i b hb
   have au:i<c:=h1;refine⟨show i<c' by omega,⟨λH=>?_,λH x hx=>?_,λH=>?_,λH=>?_,λH=>?_,W.kk⟩,ae _ h3⟩
   ·obtain⟨g,z,M,e3,e4,e5⟩:=W.k0 H
    exact⟨g,(F i b hb).trans z,M,e3,e4,by rw[e5,GT (β:=λi=>if i=id then some ad else G.α i) (α:=G.α) GQ b.cs (aa _ h3)]⟩
   ·obtain⟨g,o,el,z,M⟩:=W.k1 H x hx
    exact⟨g,o,el,(F i b hb).trans z,M⟩
   ·obtain⟨g,o,z,M⟩:=W.k2 H
    exact⟨g,o,(F i b hb).trans z,M⟩
   ·obtain⟨g,els,z,M⟩:=W.k3 H
    exact⟨g,els,(F i b hb).trans z,M⟩
   ·obtain⟨g,z,M⟩:=W.k4 H
    exact⟨g,(F i b hb).trans z,M⟩
 ·rcases J i b hb with⟨z,M⟩|⟨n1,z⟩<;>rcases J j b' aj with⟨Y,f2⟩|⟨n2,Y⟩
  ·exact absurd (z.trans Y.symm) af
  ·subst z;show(if i=i then some ad else G.α i)≠(if j=i then some ad else G.α j);rw[dv rfl,dk n2];exact λe=>O j b' Y Z e.symm
  ·subst Y;show(if i=j then some ad else G.α i)≠(if j=j then some ad else G.α j);rw[dv rfl,dk n1];exact O i b z H
  ·show(if i=id then some ad else G.α i)≠(if j=id then some ad else G.α j);rw[dk n1,dk n2];exact h.bO i b j b' z Y H Z af
theorem noRW{α:Nat->Option Addr}:r2 α (.tuple #[])=undef:=by show Value.tuple (Array.map _ #[])=_;simp[undef]
theorem stv_ok{op:Op}{vs:qL}{m:AW}{J:List Value × AW}(h:stv tt op vs m=some J):∃T x y H i z v b e,op=.store T x y/\vs=[.complex H i z,v]/\lk m i=some b/\tyo tt T=some e/\b.kd=0/\(Ad v).length=e.size/\z+(Ad v).length<=b.cs.length/\(Ad v).all Gm=true/\
  J=(b.cs.take z++Ad v++b.cs.drop (z+(Ad v).length),I9 m i (AX (b.cs.take z++Ad v++b.cs.drop (z+(Ad v).length)) b.ty)):=by
 unfold stv at h;split at h
 ·rename_i T x y H i z v
  split at h
  ·rename_i b hb
   split at h
   ·rename_i e M
    cases F:(Nat.beq b.kd 0&&Nat.beq (Ad v).length e.size&&Nat.ble (z+(Ad v).length) b.cs.length&&(Ad v).all Gm) with
    |false=>rw[F]at h;cases h
    |true=>
     rw[F]at h;simp only[di]at F;exact⟨T,x,y,H,i,z,v,b,e,rfl,rfl,hb,M,dh F.1.1.1,dh F.1.1.2,AD F.1.2,F.2,(dj h).symm⟩
   ·cases h
  ·cases h
 ·cases h
theorem RS{sz:Nat}{vs:qL}{f:Nat}(hf:f+vs.length<=sz):∀(els:List (List Value)) (j:Nat) (el:qL),(∀e∈els,e.length=sz)->els[j]?=some el->splice els.flatten (j*sz+f) vs=(els.set j (Jm el f vs)).flatten
 |[],_,_,_,h=>by cases h
 |e::r,0,el,z,h=>by
  have F:=z e dP;cases h;rw[List.set_cons_zero,fx,fx];unfold splice Jm;rw[ik,dL,List.take_append_of_le_length qo,List.drop_append_of_le_length qo];simp only[eI]
 |e::r,j+1,el,z,h=>by
  have F:=z e dP;have H:=RS hf r j el (λx hx=>z x (dQ _ hx)) h;rw[List.set_cons_succ,fx,fx,<-H];unfold splice;rw[show(j+1)*sz+f=e.length+(j*sz+f) by rw[F,fz];omega,List.take_length_add_append,eG,List.drop_length_add_append];simp only[eI]
theorem Sat.bh{c':Nat}(h:Sat RD R0 w0 nt G ⟨t,m,c,q⟩ a w)(z:∀i b,lk m i=some b->i<c')(h64:64<=c'):Sat RD R0 w0 nt G ⟨t,m,c',q⟩ a w:=
 ⟨h.ci,h.bX,h.tmp,λi b hb=>⟨z i b hb,(h.mem i b hb).2⟩,h.bO,h.z3,h.fr,h.rb,h.rl,h64,h.al,h.sz⟩
theorem Sat.put(E:Env P RD tt Γ){c':Nat}{v:Value}{d:Option Nat}(h:Sat RD R0 w0 nt G ⟨t,m,c,q⟩ a w)(z:c<=c')(hv:Clo m (Bc v))(F:∀x,d=some x->x<nt):Sat RD R0 w0 nt G ⟨Fr d v t,m,c',q⟩ (a.put d (r2 G.α v)) w:=
 (h.step (v:=v) (es:=[]) (d:=d) (c':=c'+8) (GS.refl (P:=P) (tt:=tt) (Γ:=Γ) (id:=c') E h.z3 h.rl) .nil (λi b hb=>.inl (AF (h.mem i b hb).1 z)) qo qo (AH h.bD z) hv (λ_ _ h=>(nomatch h)) F).bh (λi b hb=>AF (h.mem i b hb).1 z) (AH h.bD z)
theorem MO(w:World)(t ty e:TypeId)(z:Value)(size bytes:Nat)(ht:P.underlying t=some (.slice e))(H:(P.info? e).map (λi=>(i.zero,i.size,i.bytes))=some (some z,size,bytes))(ae:z.cells.size=size)
  (g n cap:Nat) (xs:qL) (J:RowIs w e size g n cap xs) (ao:qO) (m c:Nat) (F:qL) (hl:F.length=m*size) (Y:m≠0->∃ad,ao=some ad/\∀j u,F[j]?=some u->w.cell? (ad.add j)=some u) (h1:∀u∈F,u.oneCell'=true)
  (aa:n+m<=maxLen) (M:(n+m)*bytes<=140737488355328):
  ∃Z O w',(Builtin.append_ #[t,t] ty #[.slice (qad g) n cap,Sl ao m c]).run P w=.ok (.slice (qad Z) (n+m) O) w'/\(Z=g\/Z=w.heap.size)/\RowIs w' e size Z (n+m) O (xs++F)/\w.grownBy w' (some g):=by
 by_cases hm:m=0
 ·subst hm
  have hn:F=[]:=gI (by simpa using hl);subst hn;obtain⟨i,hi,hz,hs,hb⟩:=gk H;refine⟨g,cap,w,?_,.inl rfl,by simpa using J,Sw w _⟩;cases ao<;>simp[Builtin.append_,fQ ht,sizeOf,typeInfo,hi,Builtin.lenOf,Builtin.firstCells,storeCells,J.2.1,go_sem]
 ·obtain⟨ad,rfl,W⟩:=Y hm
  exact Hm w t ty e z size bytes ht H ae g n cap xs J ad m c F hl W h1 aa M
theorem Tv{j:Nat}{b':VB}(h:Hold RD w0 G w q j b')(hk:b'.kd=3\/b'.kd=1){n':Nat}(hn:n'<=b'.n)(hq:b'.kd=1->∀y,y<n'->b'.Q y (okEl b'.sz)):
  ∃els:List (List Value),els.length=n'/\(∀e∈els,e.length=b'.sz/\∀v∈e,v.oneCell'=true/\∀β,r0 β v=v)/\(n'≠0->∃ad,G.α j=some ad/\∀y u,els.flatten[y]?=some u->w.cell? (ad.add y)=some u)/\∀y el,els[y]?=some el->(∀k,b'.Q y k->k el)/\∀W:World,(∀k,G.Z k->W.heap[k]?=w.heap[k]?)->b'.E W el:=by
 rcases hk with hk|hk
 ·obtain⟨g2,J,Y,f2,f3,f4,s1,s2,s3,s4⟩:=h.k3 hk
  refine⟨J.take n',by rw[dI];omega,λe F=>s2 e (eP F),λ_=>⟨⟨g2,0,none⟩,Y,λy u H=>?_⟩,λy el z=>s4 y el ?_⟩
  ·rw[UQ (λe F=>(s2 e F).1) n',eK]at H
   rw[K0,dL];split at H
   ·exact s3.cell H
   ·cases H
  ·rw[eK]at z
   split at z
   ·exact z
   ·cases z
 ·induction n' with
  |zero=>exact⟨[],rfl,λ_ h=>(nomatch h),λh=>absurd rfl h,λ_ _ h=>(nomatch h)⟩
  |succ m ih=>
   obtain⟨els,l1,l2,l3,l4⟩:=ih qo λhk y z=>hq hk y qo
   obtain⟨g,o,el,e1,e2,e3,e4⟩:=h.k1 hk m qo;obtain⟨o1,o2⟩:=e3 _ (hq hk m qo)
   have O:∀v∈el,v.oneCell'=true/\∀β,r0 β v=v:=λv hv=>by
    have:=dt.1 o2 v hv;simp only[di]at this;exact⟨by rw[<-G4 this.1 G.α];exact(EV this.2 G.α).2.2.2,fun β=>G4 this.1 β⟩
   refine⟨els++[el],by rw[dE,l1];rfl,λe F=>?_,λ_=>⟨⟨g,o,none⟩,e1,λy u H=>?_⟩,λy e' z=>?_⟩
   ·rcases dO.1 F with F|F
    ·exact l2 e F
    ·rw[dl.1 F];exact⟨o1,O⟩
   ·have M:els.flatten.length=m*b'.sz:=by rw[Kn λe F=>(l2 e F).1,l1]
    rw[List.flatten_append]at H
    by_cases z:y<els.flatten.length
    ·rw[dT z]at H
     obtain⟨ad,ha,hc⟩:=l3 λh0=>by rw[M,h0]at z;omega
     rw[e1]at ha;cases ha;exact hc y u H
    ·rw[dU qo,M]at H
     have Z:el[y - m*b'.sz]?=some u:=by simpa using H
     have:=(e4.1 _ u Z).1;rw[K0]
     rwa [show o+m*b'.sz+(y - m*b'.sz)=o+y by omega]at this
   ·by_cases aa:y<els.length
    ·rw[dT aa]at z
     exact l4 y e' z
    ·rw[dU qo]at z
     have ae:y=m:=by
      have:=(AC z).1;simp at this;omega
     subst ae;rw[l1,Nat.sub_self]at z;cases z;exact⟨e3,e4.2⟩
theorem Up(E:Env P RD tt Γ){o:Oper}{args:Array Operand}{ts:Array Nat}{e J:TE}{b b':VB}{els:List (List Value)}{g j n' c2:Nat}(aq:o.op=.call ⟨.builtin .append,args,ts⟩)(az:ts=#[e.ty,e.ty])(h1:TEok P e)(hu:e.u=3)(h3:TEok P J)(h4:J.ty=e.el)(h9:J.zero.length=J.size)
  (O:args.map a.eval=#[.slice (qad g) b.n b.cp,.slice (G.α j) n' c2]) (ag:RowK G.Z w g b els) (aj:Hold RD w0 G w q j b') (hk:b'.kd=3\/b'.kd=1) (hn:n'<=b'.n) (hq:b'.kd=1->∀y,y<n'->b'.Q y (okEl b'.sz)) (ax:b.n+n'<=1000000000) (hs:b.sz=J.size) (ah:b'.sz=J.size) (ht:b.ty=e.el) (am:¬G.Z g) (hz:∀k,G.Z k->k<w.heap.size):
  ∃M F w',(execOp a.eval o).run P w=.ok (.value (.slice (qad M) (b.n+n') F)) w'/\(M=g\/M=w.heap.size)/\w.grownBy w' (some g)/\∃Z,RowK G.Z w' M (Ft b b' n' F) Z:=by
 obtain⟨cQ,z,hi,ay,aB,aC,al⟩:=h3.bytes;obtain⟨r1,aF,r3,r4⟩:=ag;obtain⟨H,l1,l2,l3,l4⟩:=Tv aj hk hn hq
 obtain⟨M,F,w',hr,an,au,af⟩:=MO (P:=P) w e.ty o.type e.el z J.size cQ.bytes (h1.slice hu) (by rw[h4]at hi;rw[hi];simp[aB,ay]) (by rw[<-dY,aC];exact h9) g b.n b.cp els.flatten (by rw[<-hs,<-ht];exact r3) (G.α j) n' c2 H.flatten
  (by rw[Kn λe he=>(l2 e he).1,l1,ah]) l3 (λu hu=>by
   obtain⟨e,he,hu⟩:=List.mem_flatten.1 hu
   exact((l2 e he).2 u hu).1) qm (by
   have:=Nat.mul_le_mul ax al
   omega)
 have hZ:∀W:World,(∀k,G.Z k->W.heap[k]?=w'.heap[k]?)->∀k,G.Z k->W.heap[k]?=w.heap[k]?:=λW hW k hk=>(hW k hk).trans (af.block k (hz k hk) λe=>am (dj e▸hk))
 refine⟨M,F,w',?_,an,af,els++H,by rw[dE,r1,l1];rfl,λe he=>(dO.1 he).elim (aF e) λh=>by show _=b.sz/\_;rw[hs,<-ah];exact l2 e h,?_,λy e Y=>?_⟩
 ·unfold execOp
  simp only[aq,resolve,invoke,builtin,eA,Sem.run_pure,Result.andThen_ok,O,az,hr]
 ·rw[List.flatten_append]
  show RowIs w' b.ty b.sz M (b.n+n') F _;rw[hs,ht];exact au
 ·by_cases aA:y<b.n
  ·rw[dT qo]at Y
   exact⟨λk hk=>(r4 y e Y).1 k (hk.1 aA),λW hW=>.inl ((r4 y e Y).2 W (hZ W hW))⟩
  ·rw[dU qo,r1]at Y
   exact⟨λk hk=>(l4 _ e Y).1 k (hk.2 qo),λW hW=>.inr ((l4 _ e Y).2 W (hZ W hW))⟩
theorem R4(E:Env P RD tt Γ){o:Oper}{args:Array Operand}{ts:Array Nat}{e F:TE}{b':VB}{j n' c2:Nat}(az:o.op=.call ⟨.builtin .append,args,ts⟩)(aC:ts=#[e.ty,e.ty])(h1:TEok P e)(hu:e.u=3)(h3:TEok P F)(h4:F.ty=e.el)(h9:F.zero.length=F.size)(hp:1<=F.size)
  (H:args.map a.eval=#[Sl none 0 0,.slice (G.α j) n' c2]) (ah:Hold RD w0 G w q j b') (hk:b'.kd=3\/b'.kd=1) (h0:1<=n') (hn:n'<=b'.n) (hq:b'.kd=1->∀y,y<n'->b'.Q y (okEl b'.sz)) (aA:n'<=1000000000) (aa:b'.sz=F.size) (hz:∀k,G.Z k->k<w.heap.size):
  ∃g M w',(execOp a.eval o).run P w=.ok (.value (.slice (qad g) n' M)) w'/\w.heap.size<=g/\Below w.heap.size w w'/\∃ae,RowK G.Z w' g (Ft (Et e.el F.size []) b' n' M) ae:=by
 obtain⟨cQ,z,hi,aB,aD,aF,aw⟩:=h3.bytes;obtain⟨O,l1,l2,l3,l4⟩:=Tv ah hk hn hq;obtain⟨ad,aq,Z⟩:=l3 qo
 obtain⟨v',w',hr,ag,J,_,_⟩:=run_append_own_at (P:=P) w w.heap.size e.ty o.type e.el cQ z F.size cQ.bytes (h1.slice hu) (by rw[h4]at hi;exact hi) aD aB rfl (by rw[<-dY,aF];exact h9) hp (Sl none 0 0) 0 [] ⟨qs,.inl ⟨rfl,rfl⟩⟩ ad n' c2 O.flatten
  (by rw[Kn λe Y=>(l2 e Y).1,l1,aa]) Z (λu hu=>by
   obtain⟨e,Y,hu⟩:=List.mem_flatten.1 hu
   exact((l2 e Y).2 u hu).1) qm (by
   have:=Nat.mul_le_mul aA aw
   rw[dL]
   omega) AG
 have hb:Below w.heap.size w w':=⟨J.os,J.tape,J.output,J.size,λk hk=>J.block k hk (λF=>by cases F)⟩;have hZ:∀W:World,(∀k,G.Z k->W.heap[k]?=w'.heap[k]?)->∀k,G.Z k->W.heap[k]?=w.heap[k]?:=λW hW k hk=>(hW k hk).trans (hb.block k (hz k hk))
 rcases ag.2 with⟨_,aO⟩|⟨g,cap,am,rfl,au,ay,af,_,ax,aj⟩
 ·omega
 rw[dL]at hr af aj;refine⟨g,cap,w',?_,au,hb,O,by rw[l1];show n'=0+n';omega,λe Y=>by show _=F.size/\_;rw[<-aa];exact l2 e Y,?_,λy e hy=>⟨λk hk=>(l4 y e hy).1 k (hk.2 (AI _)),λW hW=>.inr ((l4 y e hy).2 W (hZ W hW))⟩⟩
 ·unfold execOp
  rw[aq]at H;simp only[az,resolve,invoke,builtin,eA,Sem.run_pure,Result.andThen_ok,H,aC,hr]
 ·show RowIs w' e.el F.size g (0+n') cap _
  rw[dL];exact⟨by rw[Kn λe Y=>(l2 e Y).1,l1,aa],af,am,ay,ax,by simpa using aj⟩
theorem Jd{b':VB}{n':Nat}{X:Prop}(hk:b'.kd=3\/b'.kd=1)(h:srcC b' n' X):(b'.kd=1->∀y,y<n'->b'.Q y (okEl b'.sz))/\X:=by
 unfold srcC at h;rcases hk with hk|hk<;>rw[hk]at h
 ·exact⟨λz=>absurd (hk.symm.trans z) qd,h⟩
 ·exact⟨λ_=>h.1,h.2⟩
theorem VA(E:Env P RD tt Γ){o:Oper}{vs:qL}{id:Nat}{T:(Value->AW->Prop)->Prop}(H:Sat RD R0 w0 nt G ⟨t,m,c,q⟩ a w)(au:c<=id)(ag:(Bz o.op).map a.eval=vs.map (r2 G.α))(z:rwg tt id o.op vs m=some T)
  {k0:Value->AW->Prop} (hk:T k0) (hd:∀x,o.dst=some x->x<nt) {K:Act->World->Prop} {Q:Exit->Act->World->Prop}
  (hK:∀v m' G' w',k0 v m'->Sat RD R0 w0 nt G' ⟨Fr o.dst v t,m',id+8,q⟩ (a.put o.dst (r2 G'.α v)) w'->Al Γ o=0->K (a.put o.dst (r2 G'.α v)) w'):o.wp P a w K Q:=by
 generalize J:o.op=op at ag z;unfold rwg at z;split at z
 ·rename_i T' x y i n1 sz f v
  simp only[Bz,dK,ed,dD,eo]at ag;split at z
  ·rename_i b hb
   split at z
   ·rename_i e he
    cases hc:(Nat.beq b.kd 3&&Nat.beq sz b.sz&&Nat.beq (Ad v).length e.size&&Nat.ble (f+(Ad v).length) sz&&(Ad v).all (λu=>noV u&&Gm u)) with
    |false=>rw[hc]at z;cases z
    |true=>
     rw[hc]at z;cases z;obtain⟨bk,hE,hk⟩:=hk;simp only[di]at hc;obtain⟨⟨⟨⟨c1,c2⟩,c3⟩,c4⟩,c5⟩:=hc;have c1:=dh c1;have c2:=dh c2;have c3:=dh c3;have c4:=AD c4;have c5:∀u∈Ad v,noV u=true/\Gm u=true:=λu Y=>by have:=dt.1 c5 u Y;simpa using this
     subst c2;obtain⟨h1,h2⟩:=E.ty he;subst h2;have hH:=(H.mem i b hb).2.1;obtain⟨g,els,hg,e2,e3,e4,r1,aw,r3,r4⟩:=hH.k3 c1;have O:=r3;obtain⟨x1,x2,aj,am,bO,co⟩:=r3;obtain⟨el,af⟩:∃el,els[n1]?=some el:=⟨els[n1]'(by rw[r1];exact bk),qs⟩
     have hx:a.eval x=Po (some ⟨g,n1*b.sz+f,none⟩):=by
      rw[ag.1];show Value.pointer ((G.α i).map _)=_;rw[hg,eO,K0,dL];rfl
     have aG:(a.eval y).cells.toList=Ad v:=by
      rw[ag.2];rcases NX v with⟨cs,rfl⟩|⟨_,_,_,h4⟩
      ·rw[Lv rfl];exact Lo (dt.2 λu Y=>(c5 u Y).1) _
      ·rw[h4]at c5 ⊢
       obtain⟨h6,h7⟩:=c5 v qs;rw[(EV h7 G.α).2.2.1,G4 h6]
     have al:(a.eval y).cells.size=(Ad v).length:=by rw[<-dY,aG]
     have aJ:n1*b.sz+f+(Ad v).length<=b.n*b.sz:=by
      have:=em b.sz (show n1+1<=b.n by omega);rw[fz]at this;omega
     have cn:b.n*b.sz<=b.cp*b.sz:=em b.sz x2
     have hr:=run_store (P:=P) (w:=w) h1 J hx am (by rw[al,c3]) (by rw[al,bO];omega) λu Y=>by
      rw[aG]at Y;obtain⟨h6,h7⟩:=c5 u Y;rw[<-G4 h6 G.α];exact(EV h7 G.α).2.2.2
     unfold Oper.wp;rw[hr,Oper.upon_skip];have cm:=(aw el (AE af)).1;have bn:(Jm el f (Ad v)).length=b.sz:=by unfold Jm;simp;omega
     have aN:=H.bW E (w':=w.setRow g (aj.toList.take (n1*b.sz+f)++(a.eval y).cells.toList++aj.toList.drop (n1*b.sz+f+(a.eval y).cells.size)).toArray) (b1:=Kc b n1 f (Ad v)) hb (.inr c1) hg ⟨λh=>(nomatch h),λh=>(nomatch h),λh=>(nomatch h),λ_=>⟨g,els.set n1 (Jm el f (Ad v)),hg,e2,e3,e4,by rw[dC];exact r1,λZ an=>by
       rcases eU an with h5|h5
       ·exact aw Z h5
       ·rw[h5]
        refine⟨bn,λu Y=>?_⟩;rcases dO.1 Y with Y|Y
        ·rcases dO.1 Y with Y|Y
         ·exact(aw el (AE af)).2 u (eP Y)
         ·obtain⟨h6,h7⟩:=c5 u Y
          exact⟨by rw[<-G4 h6 G.α];exact(EV h7 G.α).2.2.2,fun β=>G4 h6 β⟩
        ·exact(aw el (AE af)).2 u (eE Y),by
       rw[<-RS qo els n1 el (λe he=>(aw e he).1) af];refine O.stored aj am _ _ aJ ?_;rw[gz w g _ _ b.ty _ am,aG,al];unfold splice
       rw[eI],λj Z hj=>by
       have hz:∀W:World,(∀k,G.Z k->W.heap[k]?=(w.setRow g (aj.toList.take (n1*b.sz+f)++(a.eval y).cells.toList++aj.toList.drop (n1*b.sz+f+(a.eval y).cells.size)).toArray).heap[k]?)->∀k,G.Z k->W.heap[k]?=w.heap[k]?:=λW hW k hk=>(hW k hk).trans (EE w g k _ λe=>e3 (e▸hk))
       rw[fE]at hj
       by_cases hn:n1=j
       ·subst hn
        rw[dv rfl,dv (by rw[r1];exact bk)]at hj;cases hj;exact⟨λk hk=>(r4 n1 el af).1 _ (hk.1 rfl),λW hW=>hE W el ((r4 n1 el af).2 W (hz W hW))⟩
       ·rw[dk hn]at hj
        exact⟨λk hk=>(r4 j Z hj).1 _ (hk.2 λe=>hn e.symm),λW hW=>(r4 j Z hj).2 W (hz W hW)⟩⟩,λh=>(nomatch h),.inr (.inr (.inr (.inl rfl)))⟩ (λ_ h=>(nomatch h)) (KC w g _)
     have:=aN.put E (v:=.tuple #[]) (d:=o.dst) (c':=id+8) (AH au (ie _ _)) (λ_ h=>(nomatch h)) hd;rw[<-noRW (α:=G.α)];exact hK _ _ G _ hk this (by simp[Al,J])
   ·cases z
  ·cases z
 ·rename_i args ts i sa n c1 j sb n' c2
  split at z
  ·rename_i b hb
   split at z
   ·rename_i M aF
    split at z
    ·rename_i T1 T2 aQ
     split at z
     ·rename_i e he
      split at z
      ·rename_i Z an
       cases hc:(Nat.beq T1 T2&&Nat.beq e.u 3&&Nat.beq b.kd 3&&(Nat.beq M.kd 3||Nat.beq M.kd 1)&& !Nat.beq i j&&Nat.beq b.sz Z.size&&Nat.beq M.sz Z.size&&Nat.beq b.ty e.el&&Nat.beq M.ty e.el&&Nat.beq Z.zero.length Z.size) with
       |false=>rw[hc]at z;cases z
       |true=>
        rw[hc]at z;cases z;obtain⟨rfl,rfl,aK,aO,hk⟩:=hk;simp only[di,fw,ep]at hc;obtain⟨⟨⟨⟨⟨⟨⟨⟨⟨q0,q1⟩,q2⟩,q3⟩,q4⟩,q5⟩,q6⟩,q7⟩,q8⟩,q9⟩:=hc;have q0:=dh q0;have q2:=dh q2;have q3:M.kd=3\/M.kd=1:=q3.imp dh dh;have hk:=Jd q3 hk;subst q0;obtain⟨h1,h2⟩:=E.ty he;obtain⟨h3,h4⟩:=E.ty an;subst h2;obtain⟨g,els,hg,e2,e3,e4,bq⟩:=((H.mem i b hb).2.1).k3 q2
        have aa:args.map a.eval=#[.slice (qad g) b.n b.cp,.slice (G.α j) n' c2]:=by
         have aq:args.toList.map a.eval=[.slice (qad g) b.n b.cp,.slice (G.α j) n' c2]:=by
          refine Eq.trans ag ?_;show [Value.slice (G.α i) _ _,Value.slice (G.α j) _ _]=_;rw[hg]
         rw[<-fi (xs:=args.map a.eval),eN,aq]
        obtain⟨g',F,w',hr,ay,b0,ak,O⟩:=Up E J (by rw[<-fi (xs:=ts),aQ]) h1 (dh q1) h3 h4 (dh q9) aa bq (H.mem j M aF).2.1 q3 aK hk.1 aO (dh q5) (dh q6) (dh q7) e3 λk hk=>(H.z3 k hk).1
        have hk:=hk.2;unfold Oper.wp;rw[hr];have aH:Hold RD w0 G w' q i NB:=⟨λh=>(nomatch h),λh=>(nomatch h),λh=>(nomatch h),λh=>(nomatch h),λh=>(nomatch h),.inr (.inr (.inr (.inr (.inr rfl))))⟩;have aN:=H.bW E (b1:=NB) hb (.inr q2) hg aH (λ_ h=>(nomatch h)) b0;have cc:=bq.2.2.1.lt
        have b5:=aN.add (id:=id) (c':=id+8) (ad:=⟨g',0,none⟩) (b1:=Ft b M n' F) au qo rfl ⟨λh=>(nomatch h),λh=>(nomatch h),λh=>(nomatch h),λ_=>⟨g',ak,dv rfl,by have:=H.fr.size;rcases ay with h|h<;>omega,λh=>ay.elim (λe=>e3 (e▸h)) (λe=>absurd (H.z3 g' h).1 qo),λh=>ay.elim (λe=>e4 (e▸h)) (λe=>absurd (H.rl g' h) qo),O⟩,λh=>(nomatch h),.inr (.inr (.inr (.inl rfl)))⟩ (λy a7 hy aM=>by
          rw[IV m i y _ b hb]at hy;split at hy
          ·cases hy;rcases aM with h|h<;>cases h
          ·rename_i b7
           obtain⟨gy,be,_,_,_,cl⟩:=((H.mem y a7 hy).2.1).aW aM;rw[be];intro e;cases e;rcases ay with h|h
           ·exact H.bO y a7 i b hy hb aM (.inr q2) b7 (by rw[be,hg,h])
           ·omega)
        have:=b5.put E (v:=.iface id (Sl none (b.n+n') F)) (d:=o.dst) (c':=id+8) AG (λy hy=>by
         cases dl.1 (show y∈[id] from hy)
         exact⟨_,Ae _ _ _⟩) hd
        have:=hK _ _ _ _ (hk F) this (by simp[Al,J])
        rwa [show r2 _ (Value.iface id (Sl none (b.n+n') F))=.slice (qad g') (b.n+n') F from by show Value.slice (if id=id then _ else _) _ _=_;rw[dv rfl]]at this
      ·cases z
     ·cases z
    ·cases z
   ·cases z
  ·cases z
 ·rename_i args ts n0 c0 j sb n' c2
  split at z
  ·rename_i M aF
   split at z
   ·rename_i T1 T2 aQ
    split at z
    ·rename_i e he
     split at z
     ·rename_i Z an
      cases hc:(Nat.beq n0 0&&Nat.beq c0 0&&Nat.beq T1 T2&&Nat.beq e.u 3&&(Nat.beq M.kd 3||Nat.beq M.kd 1)&&Nat.ble 1 Z.size&&Nat.beq M.sz Z.size&&Nat.beq M.ty e.el&&Nat.beq Z.zero.length Z.size) with
      |false=>rw[hc]at z;cases z
      |true=>
       rw[hc]at z;cases z;obtain⟨h0,aK,aO,hk⟩:=hk;simp only[di,ep]at hc;obtain⟨⟨⟨⟨⟨⟨⟨⟨q0,q1⟩,q2⟩,q3⟩,q4⟩,q5⟩,q6⟩,q7⟩,q8⟩:=hc;have q0:=dh q0;have q1:=dh q1;have q2:=dh q2;have q4:M.kd=3\/M.kd=1:=q4.imp dh dh;have hk:=Jd q4 hk;subst q0 q1 q2;obtain⟨h1,h2⟩:=E.ty he;obtain⟨h3,h4⟩:=E.ty an;subst h2
       have aa:args.map a.eval=#[Sl none 0 0,.slice (G.α j) n' c2]:=by
        have aq:args.toList.map a.eval=[Sl none 0 0,.slice (G.α j) n' c2]:=ag;rw[<-fi (xs:=args.map a.eval),eN,aq]
       obtain⟨g,F,w',hr,hg,hb,ak,O⟩:=R4 E J (by rw[<-fi (xs:=ts),aQ]) h1 (dh q3) h3 h4 (dh q8) (AD q5) aa (H.mem j M aF).2.1 q4 h0 aK hk.1 aO (dh q6) λk hk=>(H.z3 k hk).1
       have hk:=hk.2;unfold Oper.wp;rw[hr];have b6:GS RD G w q ⟨λi=>if i=id then some ⟨g,0,none⟩ else G.α i,G.Z,G.RB⟩ w' q id:=⟨⟨hb.os,hb.tape,hb.output,hb.size,λk hk _=>hb.block k hk⟩,λi hi=>dk qo,λ_ h=>h,λ_ h=>.inl h,λk hk=>⟨AF (H.z3 k hk).1 hb.size,(H.z3 k hk).2⟩,λ_ h=>h,λ_ h=>.inl h,λk hk=>AF (H.rl k hk) hb.size,λg' bX bT=>E.rd _ _ _ _ _ _ _ bT (λ_ h=>h) (hb.block g' (H.rl g' bX)) (λk hk=>hb.block k (H.z3 k hk).1) AG⟩
       have bm:NewOk RD w0 ⟨λi=>if i=id then some ⟨g,0,none⟩ else G.α i,G.Z,G.RB⟩ w w' q [(id,Ft (Et e.el Z.size []) M n' F)]:=⟨λi b hi=>by
        cases dl.1 hi
        exact⟨λh=>(nomatch h),λh=>(nomatch h),λh=>(nomatch h),λ_=>⟨g,ak,dv rfl,AH H.fr.size hg,λh=>absurd (H.z3 g h).1 qo,λh=>absurd (H.rl g h) qo,O⟩,λh=>(nomatch h),.inr (.inr (.inr (.inl rfl)))⟩,λi b hi _=>by
        cases dl.1 hi
        exact⟨g,dv rfl,hg⟩,λi b i' c hi b2 _ _ b4=>by
        cases dl.1 hi;cases dl.1 b2
        exact absurd rfl b4⟩
       have bv:64<=c:=H.bD
       have:=H.step (v:=.iface id (Sl none n' F)) (d:=o.dst) (c':=id+8) b6 bm (λi b hi=>.inl (AF (H.mem i b hi).1 au)) (AH au (ie _ _)) AG (AH bv au) (λy hy=>by
        cases dl.1 (show y∈[id] from hy)
        exact⟨_,Ae _ _ _⟩) (Gn id m _ (λ_ h=>(nomatch h))) hd
       have:=hK _ _ _ _ (hk F) this (by simp[Al,J])
       rwa [show r2 _ (Value.iface id (Sl none n' F))=.slice (qad g) n' F from by show Value.slice (if id=id then _ else _) _ _=_;rw[dv rfl]]at this
     ·cases z
    ·cases z
   ·cases z
  ·cases z
 ·cases z
def After(RD:(Nat->Prop)->World->Nat->Nat->Prop)(R0:Ro)(w0:World)(nt:Nat)(Q:Exit->St->Prop):Exit->Act->World->Prop:=λe a w=>∃s G,Q e s/\Sat RD R0 w0 nt G s a w
def Pg(nt:Nat)(l:List Oper):Bool:=l.all λo=>match o.dst with
 |some d=>Nat.ble (d+1) nt
 |none=>true
theorem JZ(E:Env P RD tt Γ){ops:List Oper}{Q:Exit->Act->World->Prop}{k:Tm->AW->Prop}:∀(l:List Oper) (j:Nat) (t:Tm) (m:AW) (G:Gh) (a:Act) (w:World) (q:Nat),Pg nt l=true->
  vO tt Γ ops c l j t m k->Sat RD R0 w0 nt G ⟨t,m,c+8*j,q⟩ a w->(BS Γ l=0\/q+BS Γ l<=QM)->
  (∀t' m' G' a' w',k t' m'->Sat RD R0 w0 nt G' ⟨t',m',c+8*(j+l.length),q+BS Γ l⟩ a' w'->Q .normal a' w')->wpList P ops.toArray Q l a w
 |[],j,t,m,G,a,w,q,_,h,z,_,hk=>hk t m G a w h z
 |o::r,j,t,m,G,a,w,q,hd,h,z,hq,hk=>by
  have ax:=dt.1 hd;have Z:∀x,o.dst=some x->x<nt:=λx hx=>by have:=ax o dP;rw[hx]at this;exact AD this
  have aI:Pg nt r=true:=dt.2 λo' ho=>ax o' (dQ _ ho)
  have be:∀i b,lk m i=some b->(i<c+8*j\/c+8*j+8<=i):=λi b hb=>.inl (z.mem i b hb).1
  have af:BS Γ (o::r)=Al Γ o+BS Γ r:=rfl;rw[af]at hq hk
  have F:∀(t':Tm) (m':AW) (G':Gh) (a':Act) (w':World) (q':Nat),q'=q+Al Γ o->vO tt Γ ops c r (j+1) t' m' k->Sat RD R0 w0 nt G' ⟨t',m',c+8*(j+1),q'⟩ a' w'->wpList P ops.toArray Q r a' w':=λt' m' G' a' w' q' aQ hv ak=>by
   subst aQ;refine JZ E r (j+1) t' m' G' a' w' _ aI hv ak qo λt2 m2 G2 a2 w2 aN J=>hk t2 m2 G2 a2 w2 aN ?_
   rw[show j+1+r.length=j+(o::r).length by simp;omega,eG]at J;exact J
  unfold vO at h;refine wpList_step λK hK=>?_
  split at h
  ·rename_i al
   rw[Li (G:=G) al λi v hv=>(z.tmp i v hv).1];show K (a.put o.dst undef) w;refine hK _ _ (F _ _ G _ _ (q+Al Γ o) rfl h ?_);have:=z.step (v:=.tuple #[]) (es:=[]) (d:=o.dst) (c':=c+8*(j+1)) (GS.cC (P:=P) (tt:=tt) (Γ:=Γ) (id:=c+8*j) E z.z3 z.rl (ie q (Al Γ o))) .nil be (by show c+8*j<=_;omega) qo z.bD (λi hi=>(nomatch hi)) (λ_ _ h=>(nomatch h)) Z;rw[noRW]at this;exact this
  ·rename_i al
   rw[Li (G:=G) al λi v hv=>(z.tmp i v hv).1];show o.wp P a w K Q;split at h
   ·rename_i vs a6
    obtain⟨M,aw⟩:=S7 (a:=a) (G:=G) (m:=m) z.tmp _ _ a6;split at h
    ·rename_i cm a4
     rw[Lr]at h;have hv:=h;obtain⟨T,x,y,fk,i,O,v,b,e,ho,aB,hb,he,ah,a5,ay,H,ae⟩:=stv_ok a4;subst aB;rw[ho]at M;simp only[Bz,dK,ed,dD,eo]at M;obtain⟨g,hg,_,_,_,az⟩:=((z.mem i b hb).2.1).k0 ah;obtain⟨h1,h2⟩:=E.ty he;subst h2;have hx:a.eval x=Po (some ⟨g,O,none⟩):=by rw[M.1,Gl fk O hg,dL]
     have ag:(a.eval y).cells.toList=(Ad v).map (r0 G.α):=by
      rw[M.2];rcases NX v with⟨cs,rfl⟩|⟨_,_,_,h4⟩
      ·exact Lv rfl _
      ·rw[h4]at H ⊢
       have aj:Gm v=true:=by simpa using H
       rw[(EV aj G.α).2.2.1];rfl
     have W:(a.eval y).cells.size=(Ad v).length:=by rw[<-dY,ag,ef]
     have hr:=run_store (P:=P) (w:=w) (E.ty he).1 (by rw[ho]) hx az (by rw[W,a5]) (by rw[W];simpa using ay) λu hu=>by
      rw[ag]at hu;obtain⟨u',Y,rfl⟩:=fa.1 hu;exact(EV (dt.1 H u' Y) G.α).2.2.2
     unfold Oper.wp;rw[hr,Oper.upon_skip];refine hK _ _ (F _ _ G _ _ (q+Al Γ o) rfl hv ?_);have au:Al Γ o=0:=by simp[Al,ho]
     have aJ:=((z.mem i b hb).2.1).k0 ah
     have J:=z.bW E (w':=w.setRow g ((b.cs.map (r0 G.α)).toArray.toList.take O++(a.eval y).cells.toList++(b.cs.map (r0 G.α)).toArray.toList.drop (O+(a.eval y).cells.size)).toArray) (b1:=AX cm.1 b.ty) hb (.inl ah) hg (by
      obtain⟨g2,e1,e2,e3,e4,_⟩:=aJ;rw[hg]at e1;cases e1;refine⟨λ_=>⟨g,hg,e2,e3,e4,?_⟩,λh=>(nomatch h),λh=>(nomatch h),λh=>(nomatch h),λh=>(nomatch h),.inl rfl⟩;rw[gz w g _ _ b.ty _ az,ag,W,ae]
      simp only[AX,fm,List.map_take,List.map_drop,gZ]) (by
      rw[ae];intro x hx
      replace hx:x∈(b.cs.take O++Ad v++b.cs.drop (O+(Ad v).length)).flatMap DJ:=hx
      simp only[List.flatMap_append,dO]at hx;have aq:=(z.mem i b hb).2.2;rcases hx with(hx|hx)|hx
      ·obtain⟨u,hu,Y⟩:=dZ.1 hx
       exact aq x (dZ.2 ⟨u,eP hu,Y⟩)
      ·refine aw x (dZ.2 ⟨v,qs,?_⟩)
       rcases NX v with⟨cs,rfl⟩|⟨_,h5,_,h4⟩
       ·exact hx
       ·rw[h4]at hx H
        have aj:Gm v=true:=by simpa using H
        rw[(EV aj G.α).2.1]
        simpa using hx
      ·obtain⟨u,hu,Y⟩:=dZ.1 hx
       exact aq x (dZ.2 ⟨u,eE hu,Y⟩)) (KC w g _)
     have:=J.step (v:=.tuple #[]) (es:=[]) (d:=o.dst) (c':=c+8*(j+1)) (GS.cC (P:=P) (tt:=tt) (Γ:=Γ) (id:=c+8*j) E J.z3 J.rl (ie q (Al Γ o))) .nil (λi b hb=>.inl (J.mem i b hb).1) (by show c+8*j<=_;omega) qo J.bD (λi hi=>(nomatch hi)) (λ_ _ h=>(nomatch h)) Z;rw[noRW]at this;rw[ae]at this ⊢;exact this
    ·split at h
     ·rename_i T aS
      exact VA (id:=c+8*j) E z AG M aS h Z λv m' G' w' hv ak au=>hK _ _ (F _ _ G' _ _ q (by rw[au];rfl) (Eq.mp (Lr _ _) hv) ak)
     refine OO E (w0:=w0) (id:=c+8*j) (q:=q) z.z3 z.rl z.fr.size (λi b hb=>⟨(z.mem i b hb).2.1,be i b hb⟩) (λi b hb=>(z.mem i b hb).2.2) aw M qo h λv bd G' w' aO aK hn aG aH=>?_
     exact hK _ _ (F _ _ G' _ _ (q+Al Γ o) rfl (aO _ h) (z.step aK hn be (by show c+8*j<=c+8*(j+1);omega) qo z.bD aG aH Z))
   ·exact h.elim
  ·exact h.elim
end
end
section
open Go.RowKit
theorem wp_count{P:Program}{c:Code}{Q:Exit->Act->World->Prop}(I:Nat->Act->World->Prop)(round:∀n a w,I n a w->c.wp P (Exit.then (λH w'=>∃n',n'<n/\I n' H w') Q) a w){n:Nat}{a:Act}{w:World}(h:I n a w):(Code.loop c).wp P Q a w:=by
 intro b k cs
 have key:∀n a w,I n a w->∃e H w',Q e H w'/\Arrives P (lone (b.at a (.code c:: .inLoop c::k)) cs w) b k cs e H w':=by
  intro n
  induction n using Nat.strongRecOn with
  |_ n ih=>
   intro a w Z;obtain⟨e,a1,w1,J,z⟩:=round n a w Z b (.inLoop c::k) cs
   cases e with
   |normal=>
    obtain⟨n',O,M⟩:=J;obtain⟨Y,a2,w2,W,F⟩:=ih n' O a1 w1 M;exact⟨Y,a2,w2,W,.of_steps (Steps.trans z (.one step_inLoop)) F⟩
   |_=>exact⟨_,a1,w1,J,.pass (x:=.inLoop c) rfl (λ_ _=>.inl qs) z⟩
 obtain⟨e,H,w',J,z⟩:=key n a w h;exact⟨e,H,w',J,.of_steps (.one step_loop) z⟩
theorem rn0_r(ρ:List (Nat × Nat))(α:Nat->Option Addr)(v:Value):r0 (λi=>α (rnI ρ i)) v=r0 α (rn0 ρ v):=by
 cases v with
 |iface i u=>cases u<;>first|rfl|(rename_i p;cases p<;>rfl)
 |_=>rfl
theorem rn1_r(ρ:List (Nat × Nat))(α:Nat->Option Addr)(v:Value)(h:Ig v=true):r2 (λi=>α (rnI ρ i)) v=r2 α (rn1 ρ v):=by
 cases v with
 |tuple _=>cases h
 |agg cs=>
  show Value.agg _=Value.agg _
  congr 1
  apply jb;simp only[eN,gE];exact fA λv _=>rn0_r ρ α v
 |iface i u=>cases u<;>first|rfl|(rename_i p;cases p<;>rfl)
 |_=>rfl
section
variable {P:Program} {RD:(Nat->Prop)->World->Nat->Nat->Prop} {w0:World} {tt:List TE} {Γ:List (Nat × Nat × Ct)} {R0:Ro} {nt:Nat} {G:Gh} {w:World} {a:Act} {s s':St} {Ρ:Sp}
theorem UX{ρ:List (Nat × Nat)}{t:Tm}:∀(H:Tm),entT ρ t H->∀i v,lk H i=some v->lk t i=some (rn1 ρ v)/\Ig v=true
 |[],_,_,_,h=>by cases h
 |(j,u)::r,z,i,v,h=>by
  unfold entT at z
  by_cases F:j=i
  ·subst F;rw[Ae]at h;cases h;exact⟨z.1,z.2.1⟩
  ·rw[Au F]at h;exact UX r z.2.2 i v h
theorem UY{ρ:List (Nat × Nat)}{m:AW}:∀(m':AW),Vg ρ m m'->∀i b,lk m' i=some b->∃b0,lk m (rnI ρ i)=some b0/\LeB ρ b0 b
 |[],_,_,_,h=>by cases h
 |(j,u)::r,z,i,b,h=>by
  unfold Vg at z
  by_cases F:j=i
  ·subst F;rw[Ae]at h;cases h;exact z.1
  ·rw[Au F]at h;exact UY r z.2 i b h
theorem Mh:∀(m:AW) (i:Nat) (b:VB),lk m i=some b->EN b->i∈Qv m
 |[],_,_,h,_=>by cases h
 |(j,u)::r,i,b,h,hk=>by
  unfold Qv
  by_cases z:j=i
  ·subst z;rw[Ae]at h;cases h;rcases hk with hk|hk<;>(rw[hk];exact dP)
  ·rw[Au z]at h
   have:=Mh r i b h hk
   cases hb:(Nat.beq u.kd 0||Nat.beq u.kd 3) with
   |true=>exact dQ _ this
   |false=>exact this
theorem Pb{ρ:List (Nat × Nat)}:∀(l:List Nat),VY ρ l=true->∀i j,i∈l->j∈l->i≠j->rnI ρ i≠rnI ρ j
 |[],_,_,_,h,_,_=>by cases h
 |k::r,h,i,j,Y,Z,z=>by
  unfold VY at h;simp only[di]at h
  have O:∀x∈r,k≠x->rnI ρ k≠rnI ρ x:=λx hx M W=>by
   have:=dt.1 h.1 x hx;rw[W]at this;simp only[ep]at this;rcases this with J|J
   ·exact M (dh J)
   ·rw[show Nat.beq (rnI ρ x) (rnI ρ x)=true from by simp]at J;cases J
  rcases dJ.1 Y with F|F<;>rcases dJ.1 Z with H|H
  ·exact absurd (F.trans H.symm) z
  ·subst F;exact O j H z
  ·subst H;exact λe=>O i F (Ne.symm z) e.symm
  ·exact Pb r h.2 i j F H z
theorem fix_ok:∀{ρ:List (Nat × Nat)},fixB ρ=true->∀{i:Nat},i<64->rnI ρ i=i:=λ{ρ} h {i} z=>by
 unfold rnI
 cases F:lk ρ i with
 |none=>rfl
 |some j=>
  have:=AD (dt.1 h _ (Aw _ _ _ F));exact absurd z (Nat.not_lt.2 this)
theorem Sat.ent(E:Env P RD tt Γ)(h:Sat RD R0 w0 nt G s a w)(he:Ent s s'):∃G',Sat RD R0 w0 nt G' s' a w:=by
 obtain⟨ρ,hT,hM,H,J,hq⟩:=he;unfold cloB at J;simp only[di]at J H;obtain⟨J,aj⟩:=J;obtain⟨H,ak⟩:=H;have aa:=UY s'.m hM;refine⟨⟨λi=>G.α (rnI ρ i),G.Z,G.RB⟩,h.ci,h.bX,λi v hv=>?_,λi b hb=>?_,λi b j c hb hc F ag aq=>?_,h.z3,h.fr,h.rb,h.rl,AD aj,λi hi=>by show G.α (rnI ρ i)=_;rw[fix_ok ak hi];exact h.al i hi,h.sz⟩
 ·obtain⟨h1,Y⟩:=UX s'.t hT i v hv
  exact⟨by rw[(h.tmp i _ h1).1,rn1_r ρ G.α v Y],Cg (dt.1 J.1 _ (Aw _ _ _ hv))⟩
 ·obtain⟨b0,ae,z⟩:=aa i b hb
  have hc:=dt.1 J.2 _ (Aw _ _ _ hb);simp only[di]at hc;obtain⟨_,Y,_⟩:=h.mem _ b0 ae;refine⟨AD hc.1,⟨λF=>?_,λF x hx=>?_,λF=>?_,λF=>?_,λF=>?_,z.kd▸Y.kk⟩,Cg hc.2⟩
  ·obtain⟨g,M,O,e3,e4,e5⟩:=Y.k0 (z.kd.trans F)
   refine⟨g,M,O,e3,e4,?_⟩;rw[e5,z.cs,z.ty,gE]
   congr 3
   exact fA λv _=>(rn0_r ρ G.α v).symm
  ·obtain⟨g,o,el,M,O,e3,e4⟩:=Y.k1 (z.kd.trans F) x (AF hx z.n)
   exact⟨g,o,el,M,O,λk hk=>e3 k (z.Q x hx k hk),by rw[<-z.sz];exact⟨e4.1,λW hW=>z.E _ _ (e4.2 W hW)⟩⟩
  ·obtain⟨g,o,M,O,e4⟩:=Y.k2 (z.kd.trans F)
   rw[z.v F]at e4;exact⟨g,o,M,O,e4.1,λW hW=>z.E _ _ (e4.2 W hW)⟩
  ·obtain⟨g,els,M,O,e3,e4,r1,au,r3,r4⟩:=Y.k3 (z.kd.trans F)
   obtain⟨n1,n2⟩:=z.n3 F;refine⟨g,els,M,O,e3,e4,r1.trans n1,λel am=>(by rw[<-z.sz];exact au el am),(by rw[<-z.ty,<-z.sz,<-n1,<-n2];exact r3),λj el hj=>⟨λk hk=>(r4 j el hj).1 k (z.Q j ?_ k hk),λW hW=>z.E _ _ ((r4 j el hj).2 W hW)⟩⟩;have:=(AC hj).1;omega
  ·obtain⟨g,M,O,e3⟩:=Y.k4 (z.kd.trans F)
   exact⟨g,M,O,E.rd _ _ _ _ _ _ _ e3 (λ_ h=>h) rfl (λ_ _=>rfl) hq⟩
 ·obtain⟨b0,ae,z⟩:=aa i b hb
  obtain⟨c0,al,Z⟩:=aa j c hc;exact h.bO _ b0 _ c0 ae al (F.imp z.kd.trans z.kd.trans) (ag.imp Z.kd.trans Z.kd.trans) (Pb _ H i j (Mh _ _ _ hb F) (Mh _ _ _ hc ag) aq)
def Ut(P:Program)(RD:(Nat->Prop)->World->Nat->Nat->Prop)(tt:List TE)(Γ:List (Nat × Nat × Ct))(ops:Array Oper):Prop:=
 ∀(R0:Ro) (w0:World) (nt id:Nat) (k:St->Prop) (s:St) (G:Gh) (a:Act) (w:World),Pg nt ops.toList=true->vR tt Γ ops.toList s k->Sat RD R0 w0 nt G s a w->
  (Code.region id ops true).wp P (λe a w=>e=.normal/\∃s' G',k s'/\Sat RD R0 w0 nt G' s' a w) a w
def K1(P:Program)(RD:(Nat->Prop)->World->Nat->Nat->Prop)(nt id:Nat)(ops:Array Oper)(d:Bool)(C:St->(St->Prop)->Prop):Prop:=
 ∀(R0:Ro) (w0:World) (k:St->Prop) (s:St) (G:Gh) (a:Act) (w:World),C s k->Sat RD R0 w0 nt G s a w->(Code.region id ops d).wp P (λe a w=>e=.normal/\∃s' G',k s'/\Sat RD R0 w0 nt G' s' a w) a w
def Ci(P:Program)(RD:(Nat->Prop)->World->Nat->Nat->Prop)(tt:List TE)(Γ:List (Nat × Nat × Ct))(Ρ:Sp)(nt:Nat):Code->Prop
 | .region i ops d=>match lk Ρ i with
  |some C=>K1 P RD nt i ops d C
  |none=>Pg nt ops.toList=true/\(d=true->Ut P RD tt Γ ops)
 | .seq x y=>Ci P RD tt Γ Ρ nt x/\Ci P RD tt Γ Ρ nt y
 | .cond _ x y=>Ci P RD tt Γ Ρ nt x/\Ci P RD tt Γ Ρ nt y
 | .block _ c=>Ci P RD tt Γ Ρ nt c
 | .loop c=>Ci P RD tt Γ Ρ nt c
 |_=>True
theorem EA(E:Env P RD tt Γ):∀(c:Code) (Q:Exit->St->Prop) (s:St) (G:Gh) (a:Act) (w:World),Ci P RD tt Γ Ρ nt c->vw tt Γ Ρ c Q s->Sat RD R0 w0 nt G s a w->c.wp P (After RD R0 w0 nt Q) a w
 | .skip,Q,s,G,a,w,_,h,F=>wp_skip ⟨s,G,h,F⟩
 | .exit i,Q,s,G,a,w,_,h,F=>wp_exit ⟨s,G,h,F⟩
 | .ret,Q,s,G,a,w,_,h,F=>wp_ret ⟨s,G,h,F⟩
 | .region id ops d,Q,s,G,a,w,H,h,F=>by
  unfold vw at h;unfold Ci at H;split at h
  ·rename_i C hC
   rw[hC]at H;exact jf (H R0 w0 _ s G a w h F) λe O w' ⟨M,s',G',hk,z⟩=>by subst M;exact⟨s',G',hk,z⟩
  rename_i hC;rw[hC]at H
  cases d with
  |true=>exact jf (H.2 rfl R0 w0 nt id _ s G a w H.1 h F) λe O w' ⟨M,s',G',hk,z⟩=>by subst M;exact⟨s',G',hk,z⟩
  |false=>
   have hv:(BS Γ ops.toList=0\/s.q+BS Γ ops.toList<=QM)/\vO tt Γ ops.toList s.c ops.toList 0 s.t s.m λt m=>Q .normal ⟨t,m,s.c+8*ops.toList.length,s.q+BS Γ ops.toList⟩:=by
    have W:(bif Nat.beq (BS Γ ops.toList) 0 then vO tt Γ ops.toList s.c ops.toList 0 s.t s.m λt m=>Q .normal ⟨t,m,s.c+8*ops.toList.length,s.q+BS Γ ops.toList⟩ else s.q+BS Γ ops.toList<=QM/\vO tt Γ ops.toList s.c ops.toList 0 s.t s.m λt m=>Q .normal ⟨t,m,s.c+8*ops.toList.length,s.q+BS Γ ops.toList⟩):=h
    cases hb:Nat.beq (BS Γ ops.toList) 0 with
    |true=>rw[hb]at W;exact⟨.inl (dh hb),W⟩
    |false=>rw[hb]at W;exact⟨.inr W.1,W.2⟩
   refine wp_region_list ?_;have:=JZ E (ops:=ops.toList) (Q:=After RD R0 w0 nt Q) ops.toList 0 s.t s.m G a w s.q H.1 hv.2 F hv.1 λt' m' G' O w' hk z=>⟨_,G',hk,by rw[dL]at z;exact z⟩
   rwa [fi]at this
 | .seq x y,Q,s,G,a,w,H,h,F=>by
  refine wp_seq (jf (EA E x _ s G a w H.1 h F) λe O w' Y=>?_);obtain⟨s',G',hk,z⟩:=Y
  cases e with
  |normal=>exact EA E y Q s' G' O w' H.2 hk z
  |_=>exact⟨s',G',hk,z⟩
 | .cond c x y,Q,s,G,a,w,H,h,F=>by
  unfold vw at h;split at h
  ·rename_i M;exact wp_cond (t:=true) (S8 M F.tmp).1 (EA E x Q s G a w H.1 h F)
  ·rename_i M;exact wp_cond (t:=false) (S8 M F.tmp).1 (EA E y Q s G a w H.2 h F)
  ·exact h.elim
 | .block i c,Q,s,G,a,w,H,h,F=>by
  refine wp_block (jf (EA E c _ s G a w H h F) λe O w' Y=>?_);obtain⟨s',G',hk,z⟩:=Y
  cases e with
  |exit j=>
   show if j=i then _ else _
   split
   ·rename_i e;subst e
    have J:(bif Nat.beq j j then Q .normal s' else Q (.exit j) s'):=hk;rw[show Nat.beq j j=true from by simp]at J;exact⟨s',G',J,z⟩
   ·rename_i e
    have J:(bif Nat.beq i j then Q .normal s' else Q (.exit j) s'):=hk;rw[show Nat.beq i j=false from by cases hb:Nat.beq i j;rfl;exact absurd (dh hb).symm e]at J;exact⟨s',G',J,z⟩
  |_=>exact⟨s',G',hk,z⟩
 | .loop c,Q,s,G,a,w,H,h,F=>by
  obtain⟨I,n,⟨s',M,hI⟩,hr⟩:=h;obtain⟨G',z⟩:=F.ent E M;refine wp_count (λn a w=>∃s G,I n s/\Sat RD R0 w0 nt G s a w) (λn a w ⟨s,G,hI,F⟩=>?_) ⟨s',G',hI,z⟩;refine jf (EA E c _ s G a w H (hr n s hI) F) λe O w' Y=>?_
  obtain⟨s2,G2,hk,Z⟩:=Y
  cases e with
  |normal=>
   obtain⟨n',ag,s3,af,ae⟩:=hk;obtain⟨G3,ah⟩:=Z.ent E af;exact⟨n',ag,s3,G3,ae,ah⟩
  |_=>exact⟨s2,G2,hk,Z⟩
 | .rangeFunc ..,_,_,_,_,_,_,h,_| .scope _,_,_,_,_,_,_,h,_| .label _,_,_,_,_,_,_,h,_| .goto _,_,_,_,_,_,_,h,_| .refuse _,_,_,_,_,_,_,h,_=>h.elim
end
end
end Go.Proofs.YtbceafpodamnfaaGreatDoor
