import Derived.Test.YtbceafpodamnfaaGreatDoorG04
import Derived.Test.YtbceafpodamnfaaGreatDoorG06
import Derived.Maps.AppendAt
set_option linter.all false
namespace Go.Proofs.YtbceafpodamnfaaGreatDoor
section
open Go.RowKit
section
variable {P:Program} {RD:(Nat->Prop)->World->Nat->Nat->Prop} {w0:World} {tt:List TE} {Γ:List (Nat × Nat × Ct)} {R0:Ro} {nt:Nat} {G:Gh} {w:World} {a:Act} {q c:Nat} {t:Tm} {m:AY}
theorem KF{ops:List Oper}{o:Oper}{b:Bool}(h:DR ops t o=some b)(M:∀i v,lk t i=some v->a.tmps[i]?=some (r2 G.α v)):Region.wanted o (yielded ops.toArray a.tmps)=b:=by
 unfold DR at h;unfold Region.wanted;split at h
 ·rename_i J;rw[J];cases h;rfl
 ·rename_i j av J
  rw[J];split at h
  ·rename_i W Y
   split at h
   ·rename_i d Z
    have H:∀u,lk t d=some u->yielded ops.toArray a.tmps j=match r2 G.α u with| .bool b=>some b|_=>none:=λu hu=>by
     unfold yielded;rw[show ops.toArray[j]?=some W from by simpa using Y,Option.bind_some,Z,Option.bind_some,M d u hu];cases r2 G.α u<;>rfl
    split at h
    ·rename_i F;cases h;show(yielded ops.toArray a.tmps j==some _)=_;rw[show yielded ops.toArray a.tmps j=some true from H _ F];cases b<;>rfl
    ·rename_i F;cases h;show(yielded ops.toArray a.tmps j==some _)=_;rw[show yielded ops.toArray a.tmps j=some false from H _ F];cases av<;>rfl
    ·rename_i us F;cases h;show(yielded ops.toArray a.tmps j==some _)=_;rw[show yielded ops.toArray a.tmps j=none from H _ F];rfl
    ·cases h
   ·cases h
  ·cases h
theorem cst_ok{v u:Value}(h:cst v=some u)(α:Nat->Option Addr):v=r2 α u/\BS u=[]:=by
 unfold cst at h;split at h<;>first|(cases h;exact⟨rfl,rfl⟩)|cases h
theorem QK{x:Operand}{v:Value}(h:evo t x=some v)(J:∀i v,lk t i=some v->a.tmps[i]?=some (r2 G.α v)/\Clo m (BS v)):a.eval x=r2 G.α v/\Clo m (BS v):=by
 unfold evo at h;split at h
 ·rename_i i
  obtain⟨F,H⟩:=J i v h;refine⟨?_,H⟩;show a.tmps.getD i undef=_;rw[eA,F];rfl
 ·obtain⟨F,H⟩:=cst_ok h G.α
  exact⟨F,by rw[H];intro i M;cases M⟩
 ·cases h
theorem QJ(H:∀i v,lk t i=some v->a.tmps[i]?=some (r2 G.α v)/\Clo m (BS v)):∀(xs:List Operand) (vs:qL),evs t xs=some vs->xs.map a.eval=vs.map (r2 G.α)/\Clo m (vs.flatMap BS)
 |[],vs,h=>by cases h;exact⟨rfl,λi F=>(nomatch F)⟩
 |x::xs,vs,h=>by
  unfold evs at h;split at h
  ·rename_i v hv
   split at h
   ·rename_i l W
    cases h;obtain⟨J,M⟩:=QK hv H;obtain⟨Z,Y⟩:=QJ H xs l W;refine⟨by rw[dz,dz,J,Z],λi F=>?_⟩;rw[eI]at F;rcases dt.1 F with F|F
    ·exact M i F
    ·exact Y i F
   ·cases h
  ·cases h
theorem FF:∀(m:AY) (i j:Nat) (b b0:VB),lk m i=some b0->lk (Hm m i b) j=if j=i then some b else lk m j
 |[],_,_,_,_,h=>by cases h
 |(k,bk)::r,i,j,b,b0,h=>by
  unfold Hm
  cases hb:Nat.beq k i with
  |true=>
   have:=cX hb;subst this;show lk ((k,b)::r) j=_
   by_cases F:j=k
   ·subst F;rw[Ad,dB rfl]
   ·rw[At (Ne.symm F),dC F,At (Ne.symm F)]
  |false=>
   have H:k≠i:=λh=>by subst h;rw[show Nat.beq k k=true from by simp]at hb;cases hb
   rw[At H]at h;show lk ((k,bk)::Hm r i b) j=_
   by_cases F:j=k
   ·subst F;rw[Ad,Ad,dC H]
   ·rw[At (Ne.symm F),At (Ne.symm F),FF r i j b b0 h]
theorem Sat.bD(E:Env P RD tt Γ){w':World}{i g:Nat}{b b1:VB}(h:Sat RD R0 w0 nt G ⟨t,m,c,q⟩ a w)(hb:lk m i=some b)(hk:DQ b)(hg:G.α i=some ⟨g,0,none⟩)
  (hH:Hold RD w0 G w' q i b1) (ax:Clo m (b1.cs.flatMap Cf)) (hw:w.grownBy w' (some g)):Sat RD R0 w0 nt G ⟨t,Hm m i b1,c,q⟩ a w':=by
 obtain⟨g',am,aF,au,ar,aC⟩:=((h.mem i b hb).2.1).aQ hk;have az:g'=g:=by rw[hg]at am;cases am;rfl
 subst az;have Z:∀k,k<w.heap.size->k≠g'->w'.heap[k]?=w.heap[k]?:=λk hk J=>hw.block k hk (λe=>J (dg e))
 have hu:∀j M,lk (Hm m i b1) j=some M->(j=i/\M=b1)\/(j≠i/\lk m j=some M):=λj M Y=>by
  rw[FF m i j _ b hb]at Y;split at Y
  ·rename_i e;exact .inl ⟨e,(dg Y).symm⟩
  ·rename_i e;exact .inr ⟨e,Y⟩
 have ag:∀l,Clo m l->Clo (Hm m i b1) l:=λl hl=>hl.mono λj M Y=>by
  rw[FF m i j _ b hb];split
  ·exact⟨_,rfl⟩
  ·exact⟨M,Y⟩
 have hZ:∀k,G.Z k->w'.heap[k]?=w.heap[k]?:=λk hk=>Z k (h.z3 k hk).1 λe=>au (e▸hk)
 refine⟨h.bO,h.bR,λj v hv=>⟨(h.tmp j v hv).1,ag _ (h.tmp j v hv).2⟩,λj M Y=>?_,λj M j' af Y aw W ak J=>?_,λk hk=>⟨AF (h.z3 k hk).1 hw.size,(h.z3 k hk).2⟩,?_,h.rb,λk hk=>AF (h.rl k hk) hw.size,h.bi,h.al,AH h.sz hw.size⟩
 ·rcases hu j M Y with⟨rfl,rfl⟩|⟨J,Y⟩
  ·exact⟨(h.mem j b hb).1,hH,ag _ ax⟩
  ·obtain⟨h1,h2,h3⟩:=h.mem j M Y
   have al:DQ M->∀F,G.α j=some ⟨F,0,none⟩->F≠g':=λho F H e=>h.bM j M i b Y hb ho hk J (by rw[H,hg,e])
   refine⟨h1,⟨λW=>?_,λW x hx=>?_,λW=>?_,λW=>?_,λW=>?_,h2.kk⟩,ag _ h3⟩
   ·obtain⟨F,H,e2,e3,e4,e5⟩:=h2.k0 W
    exact⟨F,H,e2,e3,e4,(Z F (AB e5).1 (al (.inl W) F H)).trans e5⟩
   ·obtain⟨F,o,el,H,e2,e3,e4⟩:=h2.k1 W x hx
    exact⟨F,o,el,H,e2,e3,e4.step e2 (λ_ h=>h) hZ⟩
   ·obtain⟨F,o,H,e2,e4⟩:=h2.k2 W
    exact⟨F,o,H,e2,e4.step e2 (λ_ h=>h) hZ⟩
   ·obtain⟨F,els,H,e2,e3,e4,e5⟩:=h2.k3 W
    exact⟨F,els,H,e2,e3,e4,e5.step (Z F e5.2.2.1.lt (al (.inr W) F H)) (λ_ h=>h) hZ⟩
   ·obtain⟨F,H,e2,e3⟩:=h2.k4 W
    exact⟨F,H,e2,E.rd _ _ _ _ _ _ _ e3 (λ_ h=>h) (Z F (h.rl F e2) λe=>ar (e▸e2)) hZ (AG _)⟩
 ·rcases hu j M Y with⟨H,e2⟩|⟨_,H⟩<;>rcases hu j' af aw with⟨f1,f2⟩|⟨_,f1⟩
  ·exact absurd (H.trans f1.symm) J
  ·subst H;exact h.bM j b j' af hb f1 hk ak J
  ·subst f1;exact h.bM j M j' b H hb W hk J
  ·exact h.bM j M j' af H f1 W ak J
 ·exact⟨hw.os.trans h.fr.os,hw.tape.trans h.fr.tape,hw.output.trans h.fr.output,AH h.fr.size hw.size,λk hk hn=>(Z k (AF hk h.fr.size) (by omega)).trans (h.fr.block k hk hn)⟩
theorem IY(w:World)(g:Nat)(cs:Array Value):w.grownBy (w.setRow g cs) (some g):=⟨rfl,rfl,rfl,by rw[FD];exact AG _,λk _ hk=>Da w g k cs λe=>hk (by rw[e])⟩
theorem Sat.add{id c':Nat}{ad:Addr}{b1:VB}(h:Sat RD R0 w0 nt G ⟨t,m,c,q⟩ a w)(ay:c<=id)(hc:id<c')(an:b1.cs=[])
  (hH:Hold RD w0 ⟨λi=>if i=id then some ad else G.α i,G.Z,G.RB⟩ w q id b1) (W:∀j b,lk m j=some b->DQ b->G.α j≠some ad):
  Sat RD R0 w0 nt ⟨λi=>if i=id then some ad else G.α i,G.Z,G.RB⟩ ⟨t,(id,b1)::m,c',q⟩ a w:=by
 have ar:∀i b,lk m i=some b->i≠id:=λi b hb e=>by have:i<c:=(h.mem i b hb).1;omega
 have H:∀i b,lk m i=some b->(if i=id then some ad else G.α i)=G.α i:=λi b hb=>dC (ar i b hb)
 have af:∀l,Clo m l->Clo ((id,b1)::m) l:=λl hl=>hl.cons _
 have M:∀i b,lk ((id,b1)::m) i=some b->(i=id/\b=b1)\/(i≠id/\lk m i=some b):=λi b hb=>by
  by_cases e:i=id
  ·subst e;rw[Ad]at hb;exact .inl ⟨rfl,(dg hb).symm⟩
  ·rw[At (Ne.symm e)]at hb;exact .inr ⟨e,hb⟩
 have ah:∀l,Clo m l->∀i∈l,(if i=id then some ad else G.α i)=G.α i:=λl hl i hi=>let ⟨b,hb⟩:=hl i hi;H i b hb
 refine⟨h.bO,h.bR,λi v hv=>⟨?_,af _ (h.tmp i v hv).2⟩,λi b hb=>?_,λi b j b' hb al J aa ag=>?_,h.z3,h.fr,h.rb,h.rl,(by have h1:64<=c:=h.bi;show 64<=c';omega),λi hi=>(dC (by have h1:64<=c:=h.bi;omega)).trans (h.al i hi),h.sz⟩
 ·rw[(h.tmp i v hv).1,IK (β:=λi=>if i=id then some ad else G.α i) (α:=G.α) v (ah _ (h.tmp i v hv).2)]
 ·rcases M i b hb with⟨rfl,rfl⟩|⟨_,hb⟩
  ·exact⟨hc,hH,by rw[an];exact λ_ h=>(nomatch h)⟩
  ·obtain⟨h1,Y,h3⟩:=h.mem i b hb
   have aw:i<c:=h1;refine⟨show i<c' by omega,⟨λJ=>?_,λJ x hx=>?_,λJ=>?_,λJ=>?_,λJ=>?_,Y.kk⟩,af _ h3⟩
   ·obtain⟨g,F,e2,e3,e4,e5⟩:=Y.k0 J
    exact⟨g,(H i b hb).trans F,e2,e3,e4,by rw[e5,FZ (β:=λi=>if i=id then some ad else G.α i) (α:=G.α) FW b.cs (ah _ h3)]⟩
   ·obtain⟨g,o,el,F,e2⟩:=Y.k1 J x hx
    exact⟨g,o,el,(H i b hb).trans F,e2⟩
   ·obtain⟨g,o,F,e2⟩:=Y.k2 J
    exact⟨g,o,(H i b hb).trans F,e2⟩
   ·obtain⟨g,els,F,e2⟩:=Y.k3 J
    exact⟨g,els,(H i b hb).trans F,e2⟩
   ·obtain⟨g,F,e2⟩:=Y.k4 J
    exact⟨g,(H i b hb).trans F,e2⟩
 ·rcases M i b hb with⟨F,e2⟩|⟨n1,F⟩<;>rcases M j b' al with⟨Z,f2⟩|⟨n2,Z⟩
  ·exact absurd (F.trans Z.symm) ag
  ·subst F;show(if i=i then some ad else G.α i)≠(if j=i then some ad else G.α j);rw[dB rfl,dC n2];exact λe=>W j b' Z aa e.symm
  ·subst Z;show(if i=j then some ad else G.α i)≠(if j=j then some ad else G.α j);rw[dB rfl,dC n1];exact W i b F J
  ·show(if i=id then some ad else G.α i)≠(if j=id then some ad else G.α j);rw[dC n1,dC n2];exact h.bM i b j b' F Z J aa ag
theorem noRW{α:Nat->Option Addr}:r2 α (.tuple #[])=undef:=by show Value.tuple (Array.map _ #[])=_;simp[undef]
theorem Pm{op:Op}{vs:qL}{m:AY}{J:List Value × AY}(h:stv tt op vs m=some J):∃T x y H i off v b e,op=.store T x y/\vs=[.complex H i off,v]/\lk m i=some b/\tyo tt T=some e/\b.kd=0/\(Aa v).length=e.size/\off+(Aa v).length<=b.cs.length/\(Aa v).all Fr=true/\
  J=(b.cs.take off++Aa v++b.cs.drop (off+(Aa v).length),Hm m i (AT (b.cs.take off++Aa v++b.cs.drop (off+(Aa v).length)) b.ty)):=by
 unfold stv at h;split at h
 ·rename_i T x y H i off v
  split at h
  ·rename_i b hb
   split at h
   ·rename_i e M
    cases F:(Nat.beq b.kd 0&&Nat.beq (Aa v).length e.size&&Nat.ble (off+(Aa v).length) b.cs.length&&(Aa v).all Fr) with
    |false=>rw[F]at h;cases h
    |true=>
     rw[F]at h;simp only[cY]at F;exact⟨T,x,y,H,i,off,v,b,e,rfl,rfl,hb,M,cX F.1.1.1,cX F.1.1.2,AD F.1.2,F.2,(dg h).symm⟩
   ·cases h
  ·cases h
 ·cases h
theorem O5{sz:Nat}{vs:qL}{f:Nat}(hf:f+vs.length<=sz):∀(els:List (List Value)) (j:Nat) (el:qL),(∀e∈els,e.length=sz)->els[j]?=some el->splice els.flatten (j*sz+f) vs=(els.set j (IOa el f vs)).flatten
 |[],_,_,_,h=>by cases h
 |e::r,0,el,F,h=>by
  have H:=F e dK;cases h;rw[List.set_cons_zero,fe,fe];unfold splice IOa;rw[iD,dJ,List.take_append_of_le_length (by omega),List.drop_append_of_le_length (by omega)];simp only[eB]
 |e::r,j+1,el,F,h=>by
  have H:=F e dK;have J:=O5 hf r j el (λx hx=>F x (dN _ hx)) h;rw[List.set_cons_succ,fe,fe,<-J];unfold splice;rw[show(j+1)*sz+f=e.length+(j*sz+f) by rw[H,fi];omega,List.take_length_add_append,eq,List.drop_length_add_append];simp only[eB]
theorem Sat.aY{c':Nat}(h:Sat RD R0 w0 nt G ⟨t,m,c,q⟩ a w)(F:∀i b,lk m i=some b->i<c')(h64:64<=c'):Sat RD R0 w0 nt G ⟨t,m,c',q⟩ a w:=
 ⟨h.bO,h.bR,h.tmp,λi b hb=>⟨F i b hb,(h.mem i b hb).2⟩,h.bM,h.z3,h.fr,h.rb,h.rl,h64,h.al,h.sz⟩
theorem Sat.put(E:Env P RD tt Γ){c':Nat}{v:Value}{d:Option Nat}(h:Sat RD R0 w0 nt G ⟨t,m,c,q⟩ a w)(F:c<=c')(hv:Clo m (BS v))(H:∀x,d=some x->x<nt):Sat RD R0 w0 nt G ⟨ER d v t,m,c',q⟩ (a.put d (r2 G.α v)) w:=
 (h.step (v:=v) (es:=[]) (d:=d) (c':=c'+8) (GS.refl (P:=P) (tt:=tt) (Γ:=Γ) (id:=c') E h.z3 h.rl) .nil (λi b hb=>.inl (AF (h.mem i b hb).1 F)) (by omega) (by omega) (AH h.bi F) hv (λ_ _ h=>(nomatch h)) H).aY (λi b hb=>AF (h.mem i b hb).1 F) (AH h.bi F)
theorem Kr(w:World)(t ty e:TypeId)(z:Value)(size bytes:Nat)(ht:P.underlying t=some (.slice e))(J:(P.info? e).map (λi=>(i.zero,i.size,i.bytes))=some (some z,size,bytes))(ag:z.cells.size=size)
  (g n cap:Nat) (xs:qL) (H:RowIs w e size g n cap xs) (ao:qO) (m c:Nat) (F:qL) (hl:F.length=m*size) (Z:m≠0->∃ad,ao=some ad/\∀j u,F[j]?=some u->w.cell? (ad.add j)=some u) (h1:∀u∈F,u.oneCell'=true)
  (af:n+m<=maxLen) (M:(n+m)*bytes<=140737488355328):
  ∃g' W w',(Builtin.append_ #[t,t] ty #[.slice (qad g) n cap,.slice ao m c]).run P w=.ok (.slice (qad g') (n+m) W) w'/\(g'=g\/g'=w.heap.size)/\RowIs w' e size g' (n+m) W (xs++F)/\w.grownBy w' (some g):=by
 by_cases hm:m=0
 ·subst hm
  have hn:F=[]:=gp (by simpa using hl);subst hn;obtain⟨i,hi,hz,hs,hb⟩:=gA J;refine⟨g,cap,w,?_,.inl rfl,by simpa using H,QD w _⟩;cases ao<;>simp[Builtin.append_,fC ht,sizeOf,typeInfo,hi,Builtin.lenOf,Builtin.firstCells,storeCells,H.2.1,go_sem]
 ·obtain⟨ad,rfl,Y⟩:=Z hm
  exact GJ w t ty e z size bytes ht J ag g n cap xs H ad m c F hl Y h1 af M
theorem Qy{j:Nat}{b':VB}(h:Hold RD w0 G w q j b')(hk:b'.kd=3\/b'.kd=1){n':Nat}(hn:n'<=b'.n)(hq:b'.kd=1->∀y,y<n'->b'.Q y (okEl b'.sz)):
  ∃els:List (List Value),els.length=n'/\(∀e∈els,e.length=b'.sz/\∀v∈e,v.oneCell'=true/\∀β,r0 β v=v)/\(n'≠0->∃ad,G.α j=some ad/\∀y u,els.flatten[y]?=some u->w.cell? (ad.add y)=some u)/\∀y el,els[y]?=some el->(∀k,b'.Q y k->k el)/\∀W:World,(∀k,G.Z k->W.heap[k]?=w.heap[k]?)->b'.E W el:=by
 rcases hk with hk|hk
 ·obtain⟨g2,Y,af,f2,f3,f4,s1,s2,s3,s4⟩:=h.k3 hk
  refine⟨Y.take n',by rw[dG];omega,λe H=>s2 e (eE H),λ_=>⟨⟨g2,0,none⟩,af,λy u J=>?_⟩,λy el F=>s4 y el ?_⟩
  ·rw[RQ (λe H=>(s2 e H).1) n',eK]at J
   rw[JX,dJ];split at J
   ·exact s3.cell J
   ·cases J
  ·rw[eK]at F
   split at F
   ·exact F
   ·cases F
 ·induction n' with
  |zero=>exact⟨[],rfl,λ_ h=>(nomatch h),λh=>absurd rfl h,λ_ _ h=>(nomatch h)⟩
  |succ m ih=>
   obtain⟨els,l1,l2,l3,l4⟩:=ih (by omega) λhk y F=>hq hk y (by omega)
   obtain⟨g,o,el,e1,e2,e3,e4⟩:=h.k1 hk m (by omega);obtain⟨o1,o2⟩:=e3 _ (hq hk m (by omega))
   have M:∀v∈el,v.oneCell'=true/\∀β,r0 β v=v:=λv hv=>by
    have:=dh.1 o2 v hv;simp only[cY]at this;exact⟨by rw[<-F0 this.1 G.α];exact(Dp this.2 G.α).2.2.2,fun β=>F0 this.1 β⟩
   refine⟨els++[el],by rw[dE,l1];rfl,λe H=>?_,λ_=>⟨⟨g,o,none⟩,e1,λy u J=>?_⟩,λy e' F=>?_⟩
   ·rcases dt.1 H with H|H
    ·exact l2 e H
    ·rw[cZ.1 H];exact⟨o1,M⟩
   ·have Z:els.flatten.length=m*b'.sz:=by rw[JF λe H=>(l2 e H).1,l1]
    rw[List.flatten_append]at J
    by_cases F:y<els.flatten.length
    ·rw[dU F]at J
     obtain⟨ad,ha,hc⟩:=l3 λh0=>by rw[Z,h0]at F;omega
     rw[e1]at ha;cases ha;exact hc y u J
    ·rw[dX (by omega),Z]at J
     have aa:el[y - m*b'.sz]?=some u:=by simpa using J
     have:=(e4.1 _ u aa).1;rw[JX]
     rwa [show o+m*b'.sz+(y - m*b'.sz)=o+y by omega]at this
   ·by_cases ai:y<els.length
    ·rw[dU ai]at F
     exact l4 y e' F
    ·rw[dX (by omega)]at F
     have ah:y=m:=by
      have:=(AC F).1;simp at this;omega
     subst ah;rw[l1,Nat.sub_self]at F;cases F;exact⟨e3,e4.2⟩
theorem Rk(E:Env P RD tt Γ){o:Oper}{args:Array Operand}{ts:Array Nat}{e Y:TE}{b b':VB}{els:List (List Value)}{g j n' c2:Nat}(aF:o.op=.call ⟨.builtin .append,args,ts⟩)(an:ts=#[e.ty,e.ty])(h1:TEok P e)(hu:e.u=3)(h3:TEok P Y)(h4:Y.ty=e.el)(h9:Y.zero.length=Y.size)
  (J:args.map a.eval=#[.slice (qad g) b.n b.cp,.slice (G.α j) n' c2]) (ag:RowK G.Z w g b els) (am:Hold RD w0 G w q j b') (hk:b'.kd=3\/b'.kd=1) (hn:n'<=b'.n) (hq:b'.kd=1->∀y,y<n'->b'.Q y (okEl b'.sz)) (av:b.n+n'<=1000000000) (hs:b.sz=Y.size) (ai:b'.sz=Y.size) (ht:b.ty=e.el) (ay:¬G.Z g) (hz:∀k,G.Z k->k<w.heap.size):
  ∃M F w',(execOp a.eval o).run P w=.ok (.value (.slice (qad M) (b.n+n') F)) w'/\(M=g\/M=w.heap.size)/\w.grownBy w' (some g)/\∃af,RowK G.Z w' M (E9 b b' n' F) af:=by
 obtain⟨cK,z,hi,az,ax,aC,au⟩:=h3.bytes;obtain⟨r1,r2',r3,r4⟩:=ag;obtain⟨H,l1,l2,l3,l4⟩:=Qy am hk hn hq
 obtain⟨M,F,w',hr,aE,ar,aa⟩:=Kr (P:=P) w e.ty o.type e.el z Y.size cK.bytes (h1.slice hu) (by rw[h4]at hi;rw[hi];simp[ax,az]) (by rw[<-dT,aC];exact h9) g b.n b.cp els.flatten (by rw[<-hs,<-ht];exact r3) (G.α j) n' c2 H.flatten
  (by rw[JF λe he=>(l2 e he).1,l1,ai]) l3 (λu hu=>by
   obtain⟨e,he,hu⟩:=List.mem_flatten.1 hu
   exact((l2 e he).2 u hu).1) (by unfold maxLen;omega) (by
   have:=Nat.mul_le_mul av au
   omega)
 have hZ:∀W:World,(∀k,G.Z k->W.heap[k]?=w'.heap[k]?)->∀k,G.Z k->W.heap[k]?=w.heap[k]?:=λW hW k hk=>(hW k hk).trans (aa.block k (hz k hk) λe=>ay (dg e▸hk))
 refine⟨M,F,w',?_,aE,aa,els++H,by rw[dE,r1,l1];rfl,λe he=>(dt.1 he).elim (r2' e) λh=>by show _=b.sz/\_;rw[hs,<-ai];exact l2 e h,?_,λy e Z=>?_⟩
 ·unfold execOp
  simp only[aF,resolve,invoke,builtin,ew,Sem.run_pure,Result.andThen_ok,J,an,hr]
 ·rw[List.flatten_append]
  show RowIs w' b.ty b.sz M (b.n+n') F _;rw[hs,ht];exact ar
 ·by_cases aA:y<b.n
  ·rw[dU (by omega)]at Z
   exact⟨λk hk=>(r4 y e Z).1 k (hk.1 aA),λW hW=>.inl ((r4 y e Z).2 W (hZ W hW))⟩
  ·rw[dX (by omega),r1]at Z
   exact⟨λk hk=>(l4 _ e Z).1 k (hk.2 (by omega)),λW hW=>.inr ((l4 _ e Z).2 W (hZ W hW))⟩
theorem PT(E:Env P RD tt Γ){o:Oper}{args:Array Operand}{ts:Array Nat}{e F:TE}{b':VB}{j n' c2:Nat}(aC:o.op=.call ⟨.builtin .append,args,ts⟩)(au:ts=#[e.ty,e.ty])(h1:TEok P e)(hu:e.u=3)(h3:TEok P F)(h4:F.ty=e.el)(h9:F.zero.length=F.size)(hp:1<=F.size)
  (J:args.map a.eval=#[.slice none 0 0,.slice (G.α j) n' c2]) (am:Hold RD w0 G w q j b') (hk:b'.kd=3\/b'.kd=1) (h0:1<=n') (hn:n'<=b'.n) (hq:b'.kd=1->∀y,y<n'->b'.Q y (okEl b'.sz)) (ax:n'<=1000000000) (aa:b'.sz=F.size) (hz:∀k,G.Z k->k<w.heap.size):
  ∃g M w',(execOp a.eval o).run P w=.ok (.value (.slice (qad g) n' M)) w'/\w.heap.size<=g/\Below w.heap.size w w'/\∃ag,RowK G.Z w' g (E9 (Dd e.el F.size []) b' n' M) ag:=by
 obtain⟨cK,z,hi,aE,ay,aG,av⟩:=h3.bytes;obtain⟨Y,l1,l2,l3,l4⟩:=Qy am hk hn hq;obtain⟨ad,ar,Z⟩:=l3 (by omega)
 obtain⟨v',w',hr,ai,H,_,_⟩:=run_append_own_at (P:=P) w w.heap.size e.ty o.type e.el cK z F.size cK.bytes (h1.slice hu) (by rw[h4]at hi;exact hi) ay aE rfl (by rw[<-dT,aG];exact h9) hp (.slice none 0 0) 0 [] ⟨by simp,.inl ⟨rfl,rfl⟩⟩ ad n' c2 Y.flatten
  (by rw[JF λe he=>(l2 e he).1,l1,aa]) Z (λu hu=>by
   obtain⟨e,he,hu⟩:=List.mem_flatten.1 hu
   exact((l2 e he).2 u hu).1) (by unfold maxLen;omega) (by
   have:=Nat.mul_le_mul ax av
   rw[dJ]
   omega) (AG _)
 have hb:Below w.heap.size w w':=⟨H.os,H.tape,H.output,H.size,λk hk=>H.block k hk (λF=>by cases F)⟩;have hZ:∀W:World,(∀k,G.Z k->W.heap[k]?=w'.heap[k]?)->∀k,G.Z k->W.heap[k]?=w.heap[k]?:=λW hW k hk=>(hW k hk).trans (hb.block k (hz k hk))
 rcases ai.2 with⟨_,aW⟩|⟨g,cap,aw,rfl,aq,aH,ah,_,aF,al⟩
 ·omega
 rw[dJ]at hr ah al;refine⟨g,cap,w',?_,aq,hb,Y,by rw[l1];show n'=0+n';omega,λe he=>by show _=F.size/\_;rw[<-aa];exact l2 e he,?_,λy e hy=>⟨λk hk=>(l4 y e hy).1 k (hk.2 (AI _)),λW hW=>.inr ((l4 y e hy).2 W (hZ W hW))⟩⟩
 ·unfold execOp
  rw[ar]at J;simp only[aC,resolve,invoke,builtin,ew,Sem.run_pure,Result.andThen_ok,J,au,hr]
 ·show RowIs w' e.el F.size g (0+n') cap _
  rw[dJ];exact⟨by rw[JF λe he=>(l2 e he).1,l1,aa],ah,aw,aH,aF,by simpa using al⟩
theorem IH{b':VB}{n':Nat}{X:Prop}(hk:b'.kd=3\/b'.kd=1)(h:srcC b' n' X):(b'.kd=1->∀y,y<n'->b'.Q y (okEl b'.sz))/\X:=by
 unfold srcC at h;rcases hk with hk|hk<;>rw[hk]at h
 ·exact⟨λF=>absurd (hk.symm.trans F) (by decide),h⟩
 ·exact⟨λ_=>h.1,h.2⟩
theorem Rw(E:Env P RD tt Γ){o:Oper}{vs:qL}{id:Nat}{T:(Value->AY->Prop)->Prop}(J:Sat RD R0 w0 nt G ⟨t,m,c,q⟩ a w)(aq:c<=id)(ai:(BT o.op).map a.eval=vs.map (r2 G.α))(F:rwg tt id o.op vs m=some T)
  {k0:Value->AY->Prop} (hk:T k0) (hd:∀x,o.dst=some x->x<nt) {K:Act->World->Prop} {Q:Exit->Act->World->Prop}
  (hK:∀v m' G' w',k0 v m'->Sat RD R0 w0 nt G' ⟨ER o.dst v t,m',id+8,q⟩ (a.put o.dst (r2 G'.α v)) w'->Af Γ o=0->K (a.put o.dst (r2 G'.α v)) w'):o.wp P a w K Q:=by
 generalize M:o.op=op at ai F;unfold rwg at F;split at F
 ·rename_i T' x y i n1 sz f v
  simp only[BT,dz,dP,dv,dV]at ai;split at F
  ·rename_i b hb
   split at F
   ·rename_i e he
    cases hc:(Nat.beq b.kd 3&&Nat.beq sz b.sz&&Nat.beq (Aa v).length e.size&&Nat.ble (f+(Aa v).length) sz&&(Aa v).all (λu=>noV u&&Fr u)) with
    |false=>rw[hc]at F;cases F
    |true=>
     rw[hc]at F;cases F;obtain⟨bl,hE,hk⟩:=hk;simp only[cY]at hc;obtain⟨⟨⟨⟨c1,c2⟩,c3⟩,c4⟩,c5⟩:=hc;have c1:=cX c1;have c2:=cX c2;have c3:=cX c3;have c4:=AD c4;have c5:∀u∈Aa v,noV u=true/\Fr u=true:=λu hu=>by have:=dh.1 c5 u hu;simpa using this
     subst c2;obtain⟨h1,h2⟩:=E.ty he;subst h2;have hH:=(J.mem i b hb).2.1;obtain⟨g,els,hg,e2,e3,e4,r1,r2',r3,r4⟩:=hH.k3 c1;have Z:=r3;obtain⟨x1,x2,ar,au,b6,co⟩:=r3;obtain⟨el,al⟩:∃el,els[n1]?=some el:=⟨els[n1]'(by rw[r1];exact bl),by simp⟩
     have hx:a.eval x=.pointer (some ⟨g,n1*b.sz+f,none⟩):=by
      rw[ai.1];show Value.pointer ((G.α i).map _)=_;rw[hg,eo,JX,dJ];rfl
     have aL:(a.eval y).cells.toList=Aa v:=by
      rw[ai.2];rcases Lm v with⟨cs,rfl⟩|⟨_,_,_,h4⟩
      ·rw[KV rfl];exact KL (dh.2 λu hu=>(c5 u hu).1) _
      ·rw[h4]at c5 ⊢
       obtain⟨h6,h7⟩:=c5 v (by simp);rw[(Dp h7 G.α).2.2.1,F0 h6]
     have am:(a.eval y).cells.size=(Aa v).length:=by rw[<-dT,aL]
     have a4:n1*b.sz+f+(Aa v).length<=b.n*b.sz:=by
      have:=ed b.sz (show n1+1<=b.n by omega);rw[fi]at this;omega
     have cr:b.n*b.sz<=b.cp*b.sz:=ed b.sz x2
     have hr:=run_store (P:=P) (w:=w) h1 M hx au (by rw[am,c3]) (by rw[am,b6];omega) λu hu=>by
      rw[aL]at hu;obtain⟨h6,h7⟩:=c5 u hu;rw[<-F0 h6 G.α];exact(Dp h7 G.α).2.2.2
     unfold Oper.wp;rw[hr,Oper.upon_skip];have cq:=(r2' el (AE al)).1;have bi:(IOa el f (Aa v)).length=b.sz:=by unfold IOa;simp;omega
     have aS:=J.bD E (w':=w.setRow g (ar.toList.take (n1*b.sz+f)++(a.eval y).cells.toList++ar.toList.drop (n1*b.sz+f+(a.eval y).cells.size)).toArray) (b1:=Ix b n1 f (Aa v)) hb (.inr c1) hg ⟨λh=>(nomatch h),λh=>(nomatch h),λh=>(nomatch h),λ_=>⟨g,els.set n1 (IOa el f (Aa v)),hg,e2,e3,e4,by rw[du];exact r1,λe' an=>by
       rcases eu an with h5|h5
       ·exact r2' e' h5
       ·rw[h5]
        refine⟨bi,λu hu=>?_⟩;rcases dt.1 hu with hu|hu
        ·rcases dt.1 hu with hu|hu
         ·exact(r2' el (AE al)).2 u (eE hu)
         ·obtain⟨h6,h7⟩:=c5 u hu
          exact⟨by rw[<-F0 h6 G.α];exact(Dp h7 G.α).2.2.2,fun β=>F0 h6 β⟩
        ·exact(r2' el (AE al)).2 u (ep hu),by
       rw[<-O5 (by omega) els n1 el (λe he=>(r2' e he).1) al];refine Z.stored ar au _ _ a4 ?_;rw[gl w g _ _ b.ty _ au,aL,am];unfold splice
       rw[eB],λj e' hj=>by
       have hz:∀W:World,(∀k,G.Z k->W.heap[k]?=(w.setRow g (ar.toList.take (n1*b.sz+f)++(a.eval y).cells.toList++ar.toList.drop (n1*b.sz+f+(a.eval y).cells.size)).toArray).heap[k]?)->∀k,G.Z k->W.heap[k]?=w.heap[k]?:=λW hW k hk=>(hW k hk).trans (Da w g k _ λe=>e3 (e▸hk))
       rw[fc]at hj
       by_cases hn:n1=j
       ·subst hn
        rw[dB rfl,dB (by rw[r1];exact bl)]at hj;cases hj;exact⟨λk hk=>(r4 n1 el al).1 _ (hk.1 rfl),λW hW=>hE W el ((r4 n1 el al).2 W (hz W hW))⟩
       ·rw[dC hn]at hj
        exact⟨λk hk=>(r4 j e' hj).1 _ (hk.2 λe=>hn e.symm),λW hW=>(r4 j e' hj).2 W (hz W hW)⟩⟩,λh=>(nomatch h),.inr (.inr (.inr (.inl rfl)))⟩ (λ_ h=>(nomatch h)) (IY w g _)
     have:=aS.put E (v:=.tuple #[]) (d:=o.dst) (c':=id+8) (AH aq (gQ _ _)) (λ_ h=>(nomatch h)) hd;rw[<-noRW (α:=G.α)];exact hK _ _ G _ hk this (by simp[Af,M])
   ·cases F
  ·cases F
 ·rename_i args ts i sa n c1 j sb n' c2
  split at F
  ·rename_i b hb
   split at F
   ·rename_i Y aW
    split at F
    ·rename_i T1 T2 aK
     split at F
     ·rename_i e he
      split at F
      ·rename_i e' an
       cases hc:(Nat.beq T1 T2&&Nat.beq e.u 3&&Nat.beq b.kd 3&&(Nat.beq Y.kd 3||Nat.beq Y.kd 1)&& !Nat.beq i j&&Nat.beq b.sz e'.size&&Nat.beq Y.sz e'.size&&Nat.beq b.ty e.el&&Nat.beq Y.ty e.el&&Nat.beq e'.zero.length e'.size) with
       |false=>rw[hc]at F;cases F
       |true=>
        rw[hc]at F;cases F;obtain⟨rfl,rfl,aH,a5,hk⟩:=hk;simp only[cY,eR,dY]at hc;obtain⟨⟨⟨⟨⟨⟨⟨⟨⟨q0,q1⟩,q2⟩,q3⟩,q4⟩,q5⟩,q6⟩,q7⟩,q8⟩,q9⟩:=hc;have q0:=cX q0;have q2:=cX q2;have q3:Y.kd=3\/Y.kd=1:=q3.imp cX cX;have hk:=IH q3 hk;subst q0;obtain⟨h1,h2⟩:=E.ty he;obtain⟨h3,h4⟩:=E.ty an;subst h2;obtain⟨g,els,hg,e2,e3,e4,bx⟩:=((J.mem i b hb).2.1).k3 q2
        have af:args.map a.eval=#[.slice (qad g) b.n b.cp,.slice (G.α j) n' c2]:=by
         have av:args.toList.map a.eval=[.slice (qad g) b.n b.cp,.slice (G.α j) n' c2]:=by
          refine Eq.trans ai ?_;show [Value.slice (G.α i) _ _,Value.slice (G.α j) _ _]=_;rw[hg]
         rw[<-ff (xs:=args.map a.eval),eJ,av]
        obtain⟨g',H,w',hr,az,bX,aw,Z⟩:=Rk E M (by rw[<-ff (xs:=ts),aK]) h1 (cX q1) h3 h4 (cX q9) af bx (J.mem j Y aW).2.1 q3 aH hk.1 a5 (cX q5) (cX q6) (cX q7) e3 λk hk=>(J.z3 k hk).1
        have hk:=hk.2;unfold Oper.wp;rw[hr];have aT:Hold RD w0 G w' q i LU:=⟨λh=>(nomatch h),λh=>(nomatch h),λh=>(nomatch h),λh=>(nomatch h),λh=>(nomatch h),.inr (.inr (.inr (.inr (.inr rfl))))⟩;have aS:=J.bD E (b1:=LU) hb (.inr q2) hg aT (λ_ h=>(nomatch h)) bX;have b9:=bx.2.2.1.lt
        have b4:=aS.add (id:=id) (c':=id+8) (ad:=⟨g',0,none⟩) (b1:=E9 b Y n' H) aq (by omega) rfl ⟨λh=>(nomatch h),λh=>(nomatch h),λh=>(nomatch h),λ_=>⟨g',aw,dB rfl,by have:=J.fr.size;rcases az with h|h<;>omega,λh=>az.elim (λe=>e3 (e▸h)) (λe=>absurd (J.z3 g' h).1 (by omega)),λh=>az.elim (λe=>e4 (e▸h)) (λe=>absurd (J.rl g' h) (by omega)),Z⟩,λh=>(nomatch h),.inr (.inr (.inr (.inl rfl)))⟩ (λy bb hy aF=>by
          rw[FF m i y _ b hb]at hy;split at hy
          ·cases hy;rcases aF with h|h<;>cases h
          ·rename_i bY
           obtain⟨gy,bf,_,_,_,cl⟩:=((J.mem y bb hy).2.1).aQ aF;rw[bf];intro e;cases e;rcases az with h|h
           ·exact J.bM y bb i b hy hb aF (.inr q2) bY (by rw[bf,hg,h])
           ·omega)
        have:=b4.put E (v:=.iface id (.slice none (b.n+n') H)) (d:=o.dst) (c':=id+8) (AG _) (λy hy=>by
         cases cZ.1 (show y∈[id] from hy)
         exact⟨_,Ad _ _ _⟩) hd
        have:=hK _ _ _ _ (hk H) this (by simp[Af,M])
        rwa [show r2 _ (Value.iface id (.slice none (b.n+n') H))=.slice (qad g') (b.n+n') H from by show Value.slice (if id=id then _ else _) _ _=_;rw[dB rfl]]at this
      ·cases F
     ·cases F
    ·cases F
   ·cases F
  ·cases F
 ·rename_i args ts n0 c0 j sb n' c2
  split at F
  ·rename_i Y aW
   split at F
   ·rename_i T1 T2 aK
    split at F
    ·rename_i e he
     split at F
     ·rename_i e' an
      cases hc:(Nat.beq n0 0&&Nat.beq c0 0&&Nat.beq T1 T2&&Nat.beq e.u 3&&(Nat.beq Y.kd 3||Nat.beq Y.kd 1)&&Nat.ble 1 e'.size&&Nat.beq Y.sz e'.size&&Nat.beq Y.ty e.el&&Nat.beq e'.zero.length e'.size) with
      |false=>rw[hc]at F;cases F
      |true=>
       rw[hc]at F;cases F;obtain⟨h0,aH,a5,hk⟩:=hk;simp only[cY,dY]at hc;obtain⟨⟨⟨⟨⟨⟨⟨⟨q0,q1⟩,q2⟩,q3⟩,q4⟩,q5⟩,q6⟩,q7⟩,q8⟩:=hc;have q0:=cX q0;have q1:=cX q1;have q2:=cX q2;have q4:Y.kd=3\/Y.kd=1:=q4.imp cX cX;have hk:=IH q4 hk;subst q0 q1 q2;obtain⟨h1,h2⟩:=E.ty he;obtain⟨h3,h4⟩:=E.ty an;subst h2
       have af:args.map a.eval=#[.slice none 0 0,.slice (G.α j) n' c2]:=by
        have av:args.toList.map a.eval=[.slice none 0 0,.slice (G.α j) n' c2]:=ai;rw[<-ff (xs:=args.map a.eval),eJ,av]
       obtain⟨g,H,w',hr,hg,hb,aw,Z⟩:=PT E M (by rw[<-ff (xs:=ts),aK]) h1 (cX q3) h3 h4 (cX q8) (AD q5) af (J.mem j Y aW).2.1 q4 h0 aH hk.1 a5 (cX q6) λk hk=>(J.z3 k hk).1
       have hk:=hk.2;unfold Oper.wp;rw[hr];have b3:GS RD G w q ⟨λi=>if i=id then some ⟨g,0,none⟩ else G.α i,G.Z,G.RB⟩ w' q id:=⟨⟨hb.os,hb.tape,hb.output,hb.size,λk hk _=>hb.block k hk⟩,λi hi=>dC (by omega),λ_ h=>h,λ_ h=>.inl h,λk hk=>⟨AF (J.z3 k hk).1 hb.size,(J.z3 k hk).2⟩,λ_ h=>h,λ_ h=>.inl h,λk hk=>AF (J.rl k hk) hb.size,λg' bN bH=>E.rd _ _ _ _ _ _ _ bH (λ_ h=>h) (hb.block g' (J.rl g' bN)) (λk hk=>hb.block k (J.z3 k hk).1) (AG _)⟩
       have bk:NewOk RD w0 ⟨λi=>if i=id then some ⟨g,0,none⟩ else G.α i,G.Z,G.RB⟩ w w' q [(id,E9 (Dd e.el e'.size []) Y n' H)]:=⟨λi b hi=>by
        cases cZ.1 hi
        exact⟨λh=>(nomatch h),λh=>(nomatch h),λh=>(nomatch h),λ_=>⟨g,aw,dB rfl,AH J.fr.size hg,λh=>absurd (J.z3 g h).1 (by omega),λh=>absurd (J.rl g h) (by omega),Z⟩,λh=>(nomatch h),.inr (.inr (.inr (.inl rfl)))⟩,λi b hi _=>by
        cases cZ.1 hi
        exact⟨g,dB rfl,hg⟩,λi b i' c hi bI _ _ bZ=>by
        cases cZ.1 hi;cases cZ.1 bI
        exact absurd rfl bZ⟩
       have a9:64<=c:=J.bi
       have:=J.step (v:=.iface id (.slice none n' H)) (d:=o.dst) (c':=id+8) b3 bk (λi b hi=>.inl (AF (J.mem i b hi).1 aq)) (AH aq (gQ _ _)) (AG _) (AH a9 aq) (λy hy=>by
        cases cZ.1 (show y∈[id] from hy)
        exact⟨_,Ad _ _ _⟩) (Fs id m _ (λ_ h=>(nomatch h))) hd
       have:=hK _ _ _ _ (hk H) this (by simp[Af,M])
       rwa [show r2 _ (Value.iface id (.slice none n' H))=.slice (qad g) n' H from by show Value.slice (if id=id then _ else _) _ _=_;rw[dB rfl]]at this
     ·cases F
    ·cases F
   ·cases F
  ·cases F
 ·cases F
def After(RD:(Nat->Prop)->World->Nat->Nat->Prop)(R0:Ro)(w0:World)(nt:Nat)(Q:Exit->St->Prop):Exit->Act->World->Prop:=λe a w=>∃s G,Q e s/\Sat RD R0 w0 nt G s a w
def KA(nt:Nat)(l:List Oper):Bool:=l.all λo=>match o.dst with
 |some d=>Nat.ble (d+1) nt
 |none=>true
theorem Eg(E:Env P RD tt Γ){ops:List Oper}{Q:Exit->Act->World->Prop}{k:Tm->AY->Prop}:∀(l:List Oper) (j:Nat) (t:Tm) (m:AY) (G:Gh) (a:Act) (w:World) (q:Nat),KA nt l=true->
  vO tt Γ ops c l j t m k->Sat RD R0 w0 nt G ⟨t,m,c+8*j,q⟩ a w->(Au Γ l=0\/q+Au Γ l<=QM)->
  (∀t' m' G' a' w',k t' m'->Sat RD R0 w0 nt G' ⟨t',m',c+8*(j+l.length),q+Au Γ l⟩ a' w'->Q .normal a' w')->wpList P ops.toArray Q l a w
 |[],j,t,m,G,a,w,q,_,h,F,_,hk=>hk t m G a w h F
 |o::r,j,t,m,G,a,w,q,hd,h,F,hq,hk=>by
  have av:=dh.1 hd;have aa:∀x,o.dst=some x->x<nt:=λx hx=>by have:=av o dK;rw[hx]at this;exact AD this
  have aL:KA nt r=true:=dh.2 λo' ho=>av o' (dN _ ho)
  have aT:∀i b,lk m i=some b->(i<c+8*j\/c+8*j+8<=i):=λi b hb=>.inl (F.mem i b hb).1
  have al:Au Γ (o::r)=Af Γ o+Au Γ r:=rfl;rw[al]at hq hk
  have H:∀(t':Tm) (m':AY) (G':Gh) (a':Act) (w':World) (q':Nat),q'=q+Af Γ o->vO tt Γ ops c r (j+1) t' m' k->Sat RD R0 w0 nt G' ⟨t',m',c+8*(j+1),q'⟩ a' w'->wpList P ops.toArray Q r a' w':=λt' m' G' a' w' q' aM hv ah=>by
   subst aM;refine Eg E r (j+1) t' m' G' a' w' _ aL hv ah (by omega) λt2 m2 G2 a2 w2 aH M=>hk t2 m2 G2 a2 w2 aH ?_
   rw[show j+1+r.length=j+(o::r).length by simp;omega,eq]at M;exact M
  unfold vO at h;refine wpList_step λK hK=>?_
  split at h
  ·rename_i ai
   rw[KF (G:=G) ai λi v hv=>(F.tmp i v hv).1];show K (a.put o.dst undef) w;refine hK _ _ (H _ _ G _ _ (q+Af Γ o) rfl h ?_);have:=F.step (v:=.tuple #[]) (es:=[]) (d:=o.dst) (c':=c+8*(j+1)) (GS.cu (P:=P) (tt:=tt) (Γ:=Γ) (id:=c+8*j) E F.z3 F.rl (gQ q (Af Γ o))) .nil aT (by show c+8*j<=_;omega) (by omega) F.bi (λi hi=>(nomatch hi)) (λ_ _ h=>(nomatch h)) aa;rw[noRW]at this;exact this
  ·rename_i ai
   rw[KF (G:=G) ai λi v hv=>(F.tmp i v hv).1];show o.wp P a w K Q;split at h
   ·rename_i vs a5
    obtain⟨W,au⟩:=QJ (a:=a) (G:=G) (m:=m) F.tmp _ _ a5;split at h
    ·rename_i cm a7
     rw[Gt]at h;have hv:=h;obtain⟨T,x,y,fk,i,off,v,b,e,ho,aA,hb,he,aq,a9,ay,J,ag⟩:=Pm a7;subst aA;rw[ho]at W;simp only[BT,dz,dP,dv,dV]at W;obtain⟨g,hg,_,_,_,aC⟩:=((F.mem i b hb).2.1).k0 aq;obtain⟨h1,h2⟩:=E.ty he;subst h2;have hx:a.eval x=.pointer (some ⟨g,off,none⟩):=by rw[W.1,Fq fk off hg,dJ]
     have an:(a.eval y).cells.toList=(Aa v).map (r0 G.α):=by
      rw[W.2];rcases Lm v with⟨cs,rfl⟩|⟨_,_,_,h4⟩
      ·exact KV rfl _
      ·rw[h4]at J ⊢
       have ak:Fr v=true:=by simpa using J
       rw[(Dp ak G.α).2.2.1];rfl
     have Y:(a.eval y).cells.size=(Aa v).length:=by rw[<-dT,an,fw]
     have hr:=run_store (P:=P) (w:=w) (E.ty he).1 (by rw[ho]) hx aC (by rw[Y,a9]) (by rw[Y];simpa using ay) λu hu=>by
      rw[an]at hu;obtain⟨u',Z,rfl⟩:=fz.1 hu;exact(Dp (dh.1 J u' Z) G.α).2.2.2
     unfold Oper.wp;rw[hr,Oper.upon_skip];refine hK _ _ (H _ _ G _ _ (q+Af Γ o) rfl hv ?_);have aw:Af Γ o=0:=by simp[Af,ho]
     have a4:=((F.mem i b hb).2.1).k0 aq
     have M:=F.bD E (w':=w.setRow g ((b.cs.map (r0 G.α)).toArray.toList.take off++(a.eval y).cells.toList++(b.cs.map (r0 G.α)).toArray.toList.drop (off+(a.eval y).cells.size)).toArray) (b1:=AT cm.1 b.ty) hb (.inl aq) hg (by
      obtain⟨g2,e1,e2,e3,e4,_⟩:=a4;rw[hg]at e1;cases e1;refine⟨λ_=>⟨g,hg,e2,e3,e4,?_⟩,λh=>(nomatch h),λh=>(nomatch h),λh=>(nomatch h),λh=>(nomatch h),.inl rfl⟩;rw[gl w g _ _ b.ty _ aC,an,Y,ag]
      simp only[AT,gt,List.map_take,List.map_drop,gN]) (by
      rw[ag];intro x hx
      replace hx:x∈(b.cs.take off++Aa v++b.cs.drop (off+(Aa v).length)).flatMap Cf:=hx
      simp only[List.flatMap_append,dt]at hx;have ax:=(F.mem i b hb).2.2;rcases hx with(hx|hx)|hx
      ·obtain⟨u,hu,Z⟩:=dR.1 hx
       exact ax x (dR.2 ⟨u,eE hu,Z⟩)
      ·refine au x (dR.2 ⟨v,by simp,?_⟩)
       rcases Lm v with⟨cs,rfl⟩|⟨_,h5,_,h4⟩
       ·exact hx
       ·rw[h4]at hx J
        have ak:Fr v=true:=by simpa using J
        rw[(Dp ak G.α).2.1]
        simpa using hx
      ·obtain⟨u,hu,Z⟩:=dR.1 hx
       exact ax x (dR.2 ⟨u,ep hu,Z⟩)) (IY w g _)
     have:=M.step (v:=.tuple #[]) (es:=[]) (d:=o.dst) (c':=c+8*(j+1)) (GS.cu (P:=P) (tt:=tt) (Γ:=Γ) (id:=c+8*j) E M.z3 M.rl (gQ q (Af Γ o))) .nil (λi b hb=>.inl (M.mem i b hb).1) (by show c+8*j<=_;omega) (by omega) M.bi (λi hi=>(nomatch hi)) (λ_ _ h=>(nomatch h)) aa;rw[noRW]at this;rw[ag]at this ⊢;exact this
    ·split at h
     ·rename_i T a6
      exact Rw (id:=c+8*j) E F (AG _) W a6 h aa λv m' G' w' hv ah aw=>hK _ _ (H _ _ G' _ _ q (by rw[aw];rfl) (Eq.mp (Gt _ _) hv) ah)
     refine Mb E (w0:=w0) (id:=c+8*j) (q:=q) F.z3 F.rl F.fr.size (λi b hb=>⟨(F.mem i b hb).2.1,aT i b hb⟩) (λi b hb=>(F.mem i b hb).2.2) au W (by omega) h λv bm G' w' aK aW hn a8 aS=>?_
     exact hK _ _ (H _ _ G' _ _ (q+Af Γ o) rfl (aK _ h) (F.step aW hn aT (by show c+8*j<=c+8*(j+1);omega) (by omega) F.bi a8 aS aa))
   ·exact h.elim
  ·exact h.elim
end
theorem wp_count{P:Program}{c:Code}{Q:Exit->Act->World->Prop}(I:Nat->Act->World->Prop)(round:∀n a w,I n a w->c.wp P (Exit.then (λJ w'=>∃n',n'<n/\I n' J w') Q) a w){n:Nat}{a:Act}{w:World}(h:I n a w):(Code.loop c).wp P Q a w:=by
 intro b k cs
 have key:∀n a w,I n a w->∃e J w',Q e J w'/\Arrives P (lone (b.at a (.code c:: .inLoop c::k)) cs w) b k cs e J w':=by
  intro n
  induction n using Nat.strongRecOn with
  |_ n ih=>
   intro a w hI;obtain⟨e,a1,w1,M,F⟩:=round n a w hI b (.inLoop c::k) cs
   cases e with
   |normal=>
    obtain⟨n',Z,W⟩:=M;obtain⟨e2,a2,w2,Y,H⟩:=ih n' Z a1 w1 W;exact⟨e2,a2,w2,Y,.of_steps (Steps.trans F (.one step_inLoop)) H⟩
   |_=>exact⟨_,a1,w1,M,.pass (x:=.inLoop c) rfl (λ_ _=>.inl (by simp)) F⟩
 obtain⟨e,J,w',M,F⟩:=key n a w h;exact⟨e,J,w',M,.of_steps (.one step_loop) F⟩
theorem rn0_r(ρ:List (Nat × Nat))(α:Nat->Option Addr)(v:Value):r0 (λi=>α (rnI ρ i)) v=r0 α (rn0 ρ v):=by
 cases v with
 |iface i u=>cases u<;>first|rfl|(rename_i p;cases p<;>rfl)
 |_=>rfl
theorem rn1_r(ρ:List (Nat × Nat))(α:Nat->Option Addr)(v:Value)(h:FB v=true):r2 (λi=>α (rnI ρ i)) v=r2 α (rn1 ρ v):=by
 cases v with
 |tuple _=>cases h
 |agg cs=>
  show Value.agg _=Value.agg _
  congr 1
  apply i5;simp only[eJ,gw];exact fj λv _=>rn0_r ρ α v
 |iface i u=>cases u<;>first|rfl|(rename_i p;cases p<;>rfl)
 |_=>rfl
section
variable {P:Program} {RD:(Nat->Prop)->World->Nat->Nat->Prop} {w0:World} {tt:List TE} {Γ:List (Nat × Nat × Ct)} {R0:Ro} {nt:Nat} {G:Gh} {w:World} {a:Act} {s s':St} {Ρ:Sp}
theorem RV{ρ:List (Nat × Nat)}{t:Tm}:∀(H:Tm),entT ρ t H->∀i v,lk H i=some v->lk t i=some (rn1 ρ v)/\FB v=true
 |[],_,_,_,h=>by cases h
 |(j,u)::r,F,i,v,h=>by
  unfold entT at F
  by_cases J:j=i
  ·subst J;rw[Ad]at h;cases h;exact⟨F.1,F.2.1⟩
  ·rw[At J]at h;exact RV r F.2.2 i v h
theorem RW{ρ:List (Nat × Nat)}{m:AY}:∀(m':AY),SJ ρ m m'->∀i b,lk m' i=some b->∃b0,lk m (rnI ρ i)=some b0/\LeB ρ b0 b
 |[],_,_,_,h=>by cases h
 |(j,u)::r,F,i,b,h=>by
  unfold SJ at F
  by_cases H:j=i
  ·subst H;rw[Ad]at h;cases h;exact F.1
  ·rw[At H]at h;exact RW r F.2 i b h
theorem K8:∀(m:AY) (i:Nat) (b:VB),lk m i=some b->DQ b->i∈Oe m
 |[],_,_,h,_=>by cases h
 |(j,u)::r,i,b,h,hk=>by
  unfold Oe
  by_cases F:j=i
  ·subst F;rw[Ad]at h;cases h;rcases hk with hk|hk<;>(rw[hk];exact dK)
  ·rw[At F]at h
   have:=K8 r i b h hk
   cases hb:(Nat.beq u.kd 0||Nat.beq u.kd 3) with
   |true=>exact dN _ this
   |false=>exact this
theorem Nc{ρ:List (Nat × Nat)}:∀(l:List Nat),SD ρ l=true->∀i j,i∈l->j∈l->i≠j->rnI ρ i≠rnI ρ j
 |[],_,_,_,h,_,_=>by cases h
 |k::r,h,i,j,Z,hj,F=>by
  unfold SD at h;simp only[cY]at h
  have Y:∀x∈r,k≠x->rnI ρ k≠rnI ρ x:=λx hx W he=>by
   have:=dh.1 h.1 x hx;rw[he]at this;simp only[dY]at this;rcases this with M|M
   ·exact W (cX M)
   ·rw[show Nat.beq (rnI ρ x) (rnI ρ x)=true from by simp]at M;cases M
  rcases dy.1 Z with J|J<;>rcases dy.1 hj with H|H
  ·exact absurd (J.trans H.symm) F
  ·subst J;exact Y j H F
  ·subst H;exact λe=>Y i J (Ne.symm F) e.symm
  ·exact Nc r h.2 i j J H F
theorem fix_ok:∀{ρ:List (Nat × Nat)},fixB ρ=true->∀{i:Nat},i<64->rnI ρ i=i:=λ{ρ} h {i} H=>by
 unfold rnI
 cases F:lk ρ i with
 |none=>rfl
 |some j=>
  have:=AD (dh.1 h _ (Aj _ _ _ F));exact absurd H (Nat.not_lt.2 this)
theorem Sat.ent(E:Env P RD tt Γ)(h:Sat RD R0 w0 nt G s a w)(he:Ent s s'):∃G',Sat RD R0 w0 nt G' s' a w:=by
 obtain⟨ρ,hT,hM,H,M,hq⟩:=he;unfold cloB at M;simp only[cY]at M H;obtain⟨M,ai⟩:=M;obtain⟨H,am⟩:=H;have ag:=RW s'.m hM;refine⟨⟨λi=>G.α (rnI ρ i),G.Z,G.RB⟩,h.bO,h.bR,λi v hv=>?_,λi b hb=>?_,λi b j c hb hc J ak au=>?_,h.z3,h.fr,h.rb,h.rl,AD ai,λi hi=>by show G.α (rnI ρ i)=_;rw[fix_ok am hi];exact h.al i hi,h.sz⟩
 ·obtain⟨h1,h2⟩:=RV s'.t hT i v hv
  exact⟨by rw[(h.tmp i _ h1).1,rn1_r ρ G.α v h2],Cz (dh.1 M.1 _ (Aj _ _ _ hv))⟩
 ·obtain⟨b0,af,F⟩:=ag i b hb
  have hc:=dh.1 M.2 _ (Aj _ _ _ hb);simp only[cY]at hc;obtain⟨_,h2,_⟩:=h.mem _ b0 af;refine⟨AD hc.1,⟨λJ=>?_,λJ x hx=>?_,λJ=>?_,λJ=>?_,λJ=>?_,F.kd▸h2.kk⟩,Cz hc.2⟩
  ·obtain⟨g,Y,e2,e3,e4,e5⟩:=h2.k0 (F.kd.trans J)
   refine⟨g,Y,e2,e3,e4,?_⟩;rw[e5,F.cs,F.ty,gw]
   congr 3
   exact fj λv _=>(rn0_r ρ G.α v).symm
  ·obtain⟨g,o,el,Y,e2,e3,e4⟩:=h2.k1 (F.kd.trans J) x (AF hx F.n)
   exact⟨g,o,el,Y,e2,λk hk=>e3 k (F.Q x hx k hk),by rw[<-F.sz];exact⟨e4.1,λW hW=>F.E _ _ (e4.2 W hW)⟩⟩
  ·obtain⟨g,o,Y,e2,e4⟩:=h2.k2 (F.kd.trans J)
   rw[F.v J]at e4;exact⟨g,o,Y,e2,e4.1,λW hW=>F.E _ _ (e4.2 W hW)⟩
  ·obtain⟨g,els,Y,e2,e3,e4,r1,r2',r3,r4⟩:=h2.k3 (F.kd.trans J)
   obtain⟨n1,n2⟩:=F.n3 J;refine⟨g,els,Y,e2,e3,e4,r1.trans n1,λel ar=>(by rw[<-F.sz];exact r2' el ar),(by rw[<-F.ty,<-F.sz,<-n1,<-n2];exact r3),λj el hj=>⟨λk hk=>(r4 j el hj).1 k (F.Q j ?_ k hk),λW hW=>F.E _ _ ((r4 j el hj).2 W hW)⟩⟩;have:=(AC hj).1;omega
  ·obtain⟨g,Y,e2,e3⟩:=h2.k4 (F.kd.trans J)
   exact⟨g,Y,e2,E.rd _ _ _ _ _ _ _ e3 (λ_ h=>h) rfl (λ_ _=>rfl) hq⟩
 ·obtain⟨b0,af,F⟩:=ag i b hb
  obtain⟨c0,an,Z⟩:=ag j c hc;exact h.bM _ b0 _ c0 af an (J.imp F.kd.trans F.kd.trans) (ak.imp Z.kd.trans Z.kd.trans) (Nc _ H i j (K8 _ _ _ hb J) (K8 _ _ _ hc ak) au)
def KX(P:Program)(RD:(Nat->Prop)->World->Nat->Nat->Prop)(tt:List TE)(Γ:List (Nat × Nat × Ct))(ops:Array Oper):Prop:=
 ∀(R0:Ro) (w0:World) (nt id:Nat) (k:St->Prop) (s:St) (G:Gh) (a:Act) (w:World),KA nt ops.toList=true->vR tt Γ ops.toList s k->Sat RD R0 w0 nt G s a w->
  (Code.region id ops true).wp P (λe a w=>e=.normal/\∃s' G',k s'/\Sat RD R0 w0 nt G' s' a w) a w
def JY(P:Program)(RD:(Nat->Prop)->World->Nat->Nat->Prop)(nt id:Nat)(ops:Array Oper)(d:Bool)(C:St->(St->Prop)->Prop):Prop:=
 ∀(R0:Ro) (w0:World) (k:St->Prop) (s:St) (G:Gh) (a:Act) (w:World),C s k->Sat RD R0 w0 nt G s a w->(Code.region id ops d).wp P (λe a w=>e=.normal/\∃s' G',k s'/\Sat RD R0 w0 nt G' s' a w) a w
def CA(P:Program)(RD:(Nat->Prop)->World->Nat->Nat->Prop)(tt:List TE)(Γ:List (Nat × Nat × Ct))(Ρ:Sp)(nt:Nat):Code->Prop
 | .region i ops d=>match lk Ρ i with
  |some C=>JY P RD nt i ops d C
  |none=>KA nt ops.toList=true/\(d=true->KX P RD tt Γ ops)
 | .seq x y=>CA P RD tt Γ Ρ nt x/\CA P RD tt Γ Ρ nt y
 | .cond _ x y=>CA P RD tt Γ Ρ nt x/\CA P RD tt Γ Ρ nt y
 | .block _ c=>CA P RD tt Γ Ρ nt c
 | .loop c=>CA P RD tt Γ Ρ nt c
 |_=>True
theorem DF(E:Env P RD tt Γ):∀(c:Code) (Q:Exit->St->Prop) (s:St) (G:Gh) (a:Act) (w:World),CA P RD tt Γ Ρ nt c->vw tt Γ Ρ c Q s->Sat RD R0 w0 nt G s a w->c.wp P (After RD R0 w0 nt Q) a w
 | .skip,Q,s,G,a,w,_,h,H=>wp_skip ⟨s,G,h,H⟩
 | .exit i,Q,s,G,a,w,_,h,H=>wp_exit ⟨s,G,h,H⟩
 | .ret,Q,s,G,a,w,_,h,H=>wp_ret ⟨s,G,h,H⟩
 | .region id ops d,Q,s,G,a,w,J,h,H=>by
  unfold vw at h;unfold CA at J;split at h
  ·rename_i C hC
   rw[hC]at J;exact iQ (J R0 w0 _ s G a w h H) λe Y w' ⟨W,s',G',hk,F⟩=>by subst W;exact⟨s',G',hk,F⟩
  rename_i hC;rw[hC]at J
  cases d with
  |true=>exact iQ (J.2 rfl R0 w0 nt id _ s G a w J.1 h H) λe Y w' ⟨W,s',G',hk,F⟩=>by subst W;exact⟨s',G',hk,F⟩
  |false=>
   have hv:(Au Γ ops.toList=0\/s.q+Au Γ ops.toList<=QM)/\vO tt Γ ops.toList s.c ops.toList 0 s.t s.m λt m=>Q .normal ⟨t,m,s.c+8*ops.toList.length,s.q+Au Γ ops.toList⟩:=by
    have h':(bif Nat.beq (Au Γ ops.toList) 0 then vO tt Γ ops.toList s.c ops.toList 0 s.t s.m λt m=>Q .normal ⟨t,m,s.c+8*ops.toList.length,s.q+Au Γ ops.toList⟩ else s.q+Au Γ ops.toList<=QM/\vO tt Γ ops.toList s.c ops.toList 0 s.t s.m λt m=>Q .normal ⟨t,m,s.c+8*ops.toList.length,s.q+Au Γ ops.toList⟩):=h
    cases hb:Nat.beq (Au Γ ops.toList) 0 with
    |true=>rw[hb]at h';exact⟨.inl (cX hb),h'⟩
    |false=>rw[hb]at h';exact⟨.inr h'.1,h'.2⟩
   refine wp_region_list ?_;have:=Eg E (ops:=ops.toList) (Q:=After RD R0 w0 nt Q) ops.toList 0 s.t s.m G a w s.q J.1 hv.2 H hv.1 λt' m' G' Y w' hk F=>⟨_,G',hk,by rw[dJ]at F;exact F⟩
   rwa [ff]at this
 | .seq x y,Q,s,G,a,w,J,h,H=>by
  refine i0 (iQ (DF E x _ s G a w J.1 h H) λe Y w' Z=>?_);obtain⟨s',G',hk,F⟩:=Z
  cases e with
  |normal=>exact DF E y Q s' G' Y w' J.2 hk F
  |_=>exact⟨s',G',hk,F⟩
 | .cond c x y,Q,s,G,a,w,J,h,H=>by
  unfold vw at h;split at h
  ·rename_i W;exact wp_cond (t:=true) (QK W H.tmp).1 (DF E x Q s G a w J.1 h H)
  ·rename_i W;exact wp_cond (t:=false) (QK W H.tmp).1 (DF E y Q s G a w J.2 h H)
  ·exact h.elim
 | .block i c,Q,s,G,a,w,J,h,H=>by
  refine wp_block (iQ (DF E c _ s G a w J h H) λe Y w' Z=>?_);obtain⟨s',G',hk,F⟩:=Z
  cases e with
  |exit j=>
   show if j=i then _ else _
   split
   ·rename_i e;subst e
    have M:(bif Nat.beq j j then Q .normal s' else Q (.exit j) s'):=hk;rw[show Nat.beq j j=true from by simp]at M;exact⟨s',G',M,F⟩
   ·rename_i e
    have M:(bif Nat.beq i j then Q .normal s' else Q (.exit j) s'):=hk;rw[show Nat.beq i j=false from by cases hb:Nat.beq i j;rfl;exact absurd (cX hb).symm e]at M;exact⟨s',G',M,F⟩
  |_=>exact⟨s',G',hk,F⟩
 | .loop c,Q,s,G,a,w,J,h,H=>by
  obtain⟨I,n,⟨s',W,hI⟩,hr⟩:=h;obtain⟨G',F⟩:=H.ent E W;refine wp_count (λn a w=>∃s G,I n s/\Sat RD R0 w0 nt G s a w) (λn a w ⟨s,G,hI,H⟩=>?_) ⟨s',G',hI,F⟩;refine iQ (DF E c _ s G a w J (hr n s hI) H) λe Y w' Z=>?_
  obtain⟨s2,G2,hk,af⟩:=Z
  cases e with
  |normal=>
   obtain⟨n',ak,s3,al,ah⟩:=hk;obtain⟨G3,ag⟩:=af.ent E al;exact⟨n',ak,s3,G3,ah,ag⟩
  |_=>exact⟨s2,G2,hk,af⟩
 | .rangeFunc ..,_,_,_,_,_,_,h,_| .scope _,_,_,_,_,_,_,h,_| .label _,_,_,_,_,_,_,h,_| .goto _,_,_,_,_,_,_,h,_| .refuse _,_,_,_,_,_,_,h,_=>h.elim
end
end
end Go.Proofs.YtbceafpodamnfaaGreatDoor
