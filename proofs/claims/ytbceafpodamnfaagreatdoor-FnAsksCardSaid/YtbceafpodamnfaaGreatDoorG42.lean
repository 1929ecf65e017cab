import Derived.Test.YtbceafpodamnfaaGreatDoorG20
import Derived.Test.YtbceafpodamnfaaGreatDoorG28
import Derived.Test.YtbceafpodamnfaaGreatDoorG32
set_option linter.all false
set_option maxHeartbeats 4000000
set_option maxRecDepth 100000
namespace Go.Proofs.YtbceafpodamnfaaGreatDoor
section
open Go.RowKit
open Go.Value renaming int->In,slice->Sl,string->Sg,bool->Bo,pointer->Po
open Go.IntKind renaming i64->i6
def wkL(A:Ac)(ae:qO)(ce:Nat)(av:Int)(j n1 d1:Nat)(v2 v3:Value)(k:Int)(ve:Value):List Value:=[Sg A.aa,In i6 A.aN,In i6 A.ax,In i6 A.au,In i6 A.aA,Bo A.aJ,Sl ae A.aB.length ce,Bo A.drop,In i6 av,.iface j (Sl none n1 d1),v2,v3,In i6 k,ve]
def ctSvc1:Ct:=λvs es id k=>∃(i:Nat) (A:Ac) (ae:qO) (ce:Nat) (av:Int) (j n1 d1:Nat) (v2 v3:Value) (kk:Nat) (ve:Value) (b:VB),vs=[.complex .f64 i 0]/\lk es i=some (AX (wkL A ae ce av j n1 d1 v2 v3 kk ve) 227)/\lk es j=some b/\b.kd=1/\b.sz=13/\kk<n1/\n1<=b.n/\n1<=1048576/\b.Q kk λel=>k (.complex .f64 id 0) [(id,To el b.ty b.E)]
theorem svc1_ct{RD:(Nat->Prop)->World->Nat->Nat->Prop}(hR:CR RD):CH Tryz.prog RD 247 0 ctSvc1:=by
 rintro w0 G w q id vs es k0 hz Y aN M _ hq ⟨i,A,ae,ce,av,j,n1,d1,v2,v3,kk,ve,b,rfl,hi,F,hb,ah,hk,aK,hn,_⟩;obtain⟨g,e1,_,_,_,hg⟩:=(M i _ (Aw _ _ _ hi)).k0 rfl;obtain⟨g1,o1,el,e2,hZ,hQ,J⟩:=(M j _ (Aw _ _ _ F)).k1 hb kk qo;have ha:(List.map (r2 G.α) [.complex .f64 i 0]).toArray=#[.pointer (qad g)]:=by simp[r2,r1,r0,e1,Addr.add]
 rw[ha]
 have H:qBl w g #[Sg A.aa,In i6 A.aN,In i6 A.ax,In i6 A.au,In i6 A.aA,Bo A.aJ,Sl ae A.aB.length ce,Bo A.drop,In i6 av,Sl (some ⟨g1,o1,none⟩) n1 d1,r0 G.α v2,r0 G.α v3,In i6 (kk:Int),r0 G.α ve] 227:=by
  rw[qBl,hg];simp[AX,wkL,r0,e2]
 refine(LB A ae ce av g g1 o1 n1 d1 kk (r0 G.α v2) (r0 G.α v3) (r0 G.α ve) w hk hn H).mono ?_;rintro e w' ⟨rfl,z⟩;refine⟨.complex .f64 id 0,[(id,To el b.ty b.E)],⟨λj=>if j=id then some ⟨g1,o1+kk*13,none⟩ else G.α j,G.Z,G.RB⟩,λk hk=>?_,?_,⟨⟨z.os,z.tape,z.output,z.size,λk hk _=>z.block k hk⟩,λj F=>dk qo,λ_ h=>h,λ_ h=>.inl h,λk hk=>⟨AF (hz k hk).1 z.size,(hz k hk).2⟩,λ_ h=>h,λ_ h=>.inl h,λk hk=>AF (Y k hk) z.size,λg' H h=>hR _ _ _ _ _ _ _ h (λ_ h=>h) (z.block g' (Y g' H)) (λk hk=>z.block k (hz k hk).1) AG⟩,⟨λj c F=>?_,λj c F h=>(by cases dl.1 F;rcases h with h|h<;>cases h),λj c j' c' F _ h=>(by cases dl.1 F;rcases h with h|h<;>cases h)⟩,JG id es _,Gn id es _ (λx hx=>?_)⟩
 ·obtain⟨i',A',ay,az,aq,j',aS,aA,a4,a5,aj,a6,b',hv,O,ag,_,_,_,_,_,hk⟩:=hk
  simp only[dD,Value.complex.injEq,fH,eo]at hv;subst hv;rw[hi]at O;have h:=ei VB.cs (dj O);simp only[AX,wkL,dD,iM,fB,fH,eo]at h;obtain⟨_,_,_,_,_,_,_,_,_,⟨rfl,_⟩,_,_,h,_⟩:=h;have h:kk=aj:=qo
  subst h;cases F.symm.trans ag;exact hQ _ hk
 ·rw[Gl (g:=g1) (o:=o1+kk*13) .f64 0 (dv rfl)]
  rfl
 ·cases dl.1 F
  exact⟨λh=>(nomatch h),λh=>(nomatch h),λ_=>⟨g1,_,dv rfl,hZ,by
   rw[ah]at J
   exact⟨λx v hx=>⟨(eQ (w:=w) (z.block g1 (hz g1 hZ).1)).trans (J.1 x v hx).1,(J.1 x v hx).2⟩,λW hW=>J.2 W λk hk=>(hW k hk).trans (z.block k (hz k hk).1)⟩⟩,λh=>(nomatch h),λh=>(nomatch h),.inr (.inr (.inl rfl))⟩
 ·obtain⟨u,hu,Z⟩:=dZ.1 hx
  obtain⟨y,hy⟩:=eD hu;rw[MT ((J.1 y u hy).2)]at Z;cases Z
def TTw:List TE:=⟨227,4,0,14,[(0,8),(8,4),(12,1),(13,1)],[.string ⟨#[]⟩,In i6 0,In i6 0,In i6 0,In i6 0,Bo false,Sl none 0 0,Bo false,In i6 0,Sl none 0 0,Sl none 0 0,Sl none 0 0,In i6 0,Sl none 0 0]⟩::TT
theorem TTw_ok:∀e∈TTw,TEok Tryz.prog e:=λe z=>by
 rcases dJ.1 z with rfl|h
 ·exact⟨qk,qk,Ol qd⟩
 ·exact Ur e h
abbrev Γw:List (Nat × Nat × Ct):=[(247,0,ctSvc1)]
theorem env_w{RD:(Nat->Prop)->World->Nat->Nat->Prop}(z:CR RD):Env Tryz.prog RD TTw Γw:=⟨z,TTw_ok,λf c C h=>by
 by_cases e:247=f
 ·subst e;rw[Ae]at h;cases h;exact⟨qk,svc1_ct z⟩
 ·rw[Au e]at h;cases h⟩
def Iq(X:Bk)(A:Ac)(s:Svc):Bool:=decide ((X.ar.length:Int)+A.ax<=200)&&(decide (s.next+A.ax<=1000000)&&decide (X.av<=1000000))
def frW(P:World->Prop):VB:=⟨1,0,0,1,0,[],λ_ _=>False,λW _=>P W⟩
def wkC(A:Ac)(ae:qO)(ce:Nat)(X:Bk)(d1 d2 d3 k:Nat)(ve:Value):List Value:=wkL A ae ce X.av 1 X.ah.length d1 (.iface 2 (Sl none X.ar.length d2)) (.iface 3 (Sl none X.aw.length d3)) k ve
def wkM(A:Ac)(ae:qO)(ce:Nat)(X:Bk)(d1 d2 d3 k:Nat)(ve:Value)(P:World->Prop):AW:=[(0,AX (wkC A ae ce X d1 d2 d3 k ve) 227),(1,BY 34 13 svL X.ah),(2,BY 76 7 cpL X.ar),(3,BY 90 2 btL X.aw),(4,frW P)]
def endW(rs:Array ResultVar)(A:Ac)(ae:qO)(ce:Nat)(X:Bk)(d1 d2 d3 k:Nat)(ve:Value)(P:World->Prop)(val:Value)(e:Exit)(st:St):Prop:=(e=.ret\/e=.normal)/\∃v,PD TTw rs.toList st.t st.m=some v/\(v=val/\lk st.m 0=some (AX (wkC A ae ce X d1 d2 d3 k ve) 227)/\lk st.m 4=some (frW P))/\clo st.m (Bc v)=true
theorem wk_ro{Γ:List (Nat × Nat × Ct)}(hΓ:Env Tryz.prog Jr TTw Γ){f:Nat}{fn:Func}(hf:Tryz.prog.funcs[f]?=some fn)(hb:fn.body.isSome=true)(hc:FG [] fn.ntmps (fn.body.getD .skip)=true)(aJ:1<=fn.ntmps){A:Ac}{ae:qO}{ce:Nat}{X:Bk}{N g k:Nat}{I:List Int}{w:World}{val:Value}(aA:∀β,r2 β val=val)(hk:k<X.ah.length)(hS:WkAt w N g A ae ce X k I)
  (hv:∀d1 d2 d3 vb vn vc P,X.ar.length<=d2->vwr TTw Γ [] (fn.body.getD .skip) (endW fn.results A ae ce X d1 d2 d3 k (Sl vb vn vc) P val) ⟨Ew 0 [.complex .f64 0 0],wkM A ae ce X d1 d2 d3 k (Sl vb vn vc) P,64,0⟩):
  Calls Tryz.prog f #[.pointer (qad g)] w λe w'=>e=.returned val/\Below w.heap.size w w':=by
 obtain⟨b1,b2,b3,d1,d2,d3,ve,a5,hg,F,aG⟩:=hS;obtain⟨g1,e1,a4,az⟩:=F.ah.some qo;subst e1
 obtain⟨vb,vn,vc,rfl⟩:∃vb vn vc,ve=.slice vb vn vc:=by
  rcases aG.2 with⟨h,_⟩|⟨_,_,_,h,_⟩<;>exact⟨_,_,_,h⟩
 have ba:g<w.heap.size:=(AB hg).1
 have aa:∀{e size y n c:Nat} {xs:qL},RowIs w e size y n c xs->e≠227->y≠g:=λh he=>by
  rintro rfl;obtain⟨_,_,aO,h1,_⟩:=h;rw[hg]at h1;injection h1 with h1
  injection h1 with _ h1
  exact he h1.symm
 have al:g1≠g:=aa az qd
 have ax:X.ar.length<=d2:=by
  by_cases h0:X.ar.length=0
  ·omega
  ·obtain⟨y,Y,_,O⟩:=F.ar.some qo
   exact O.2.1
 obtain⟨G,z⟩:∃G:Gh,G=⟨λi=>match i with|0=>some ⟨g,0,none⟩|1=>some ⟨g1,0,none⟩|2=>b2|3=>b3|4=>some ⟨g1,0,none⟩|_=>none,λk=>k<w.heap.size/\k≠g,λ_=>False⟩:=⟨_,rfl⟩
 have hm:∀i b,lk (wkM A ae ce X d1 d2 d3 k (Sl vb vn vc) λW=>∀k,k<w.heap.size/\k≠g->W.heap[k]?=w.heap[k]?) i=some b->i<64/\Hold Jr {w with heap:=#[]} G w 0 i b/\Clo (wkM A ae ce X d1 d2 d3 k (Sl vb vn vc) λW=>∀k,k<w.heap.size/\k≠g->W.heap[k]?=w.heap[k]?) (b.cs.flatMap DJ):=λi b hb=>by
  have hi:=Aw _ _ _ hb;simp only[wkM,dJ,dW,fF,dR]at hi;rcases hi with⟨rfl,rfl⟩|⟨rfl,rfl⟩|⟨rfl,rfl⟩|⟨rfl,rfl⟩|⟨rfl,rfl⟩
  ·refine⟨qd,⟨λ_=>⟨g,ip (ei Gh.α z) _,AI _,by rw[z];exact λh=>h.2 rfl,by rw[z];exact λh=>h,?_⟩,λh=>(nomatch h),λh=>(nomatch h),λh=>(nomatch h),λh=>(nomatch h),.inl rfl⟩,?_⟩
   ·rw[hg,z]
    rfl
   ·exact Cg rfl
  ·refine⟨qd,⟨λh=>(nomatch h),λ_ j J=>?_,λh=>(nomatch h),λh=>(nomatch h),λh=>(nomatch h),.inr (.inl rfl)⟩,λ_ h=>(nomatch h)⟩
   have ay:j<X.ah.length:=J;obtain⟨y,Y,_,O⟩:=F.ah.some qo;obtain⟨g',o',el,H,_,hQ,hE⟩:=(Gv (RD:=Jr) (q:=0) F.at 0 _ rfl).2.1.k1 rfl j J;have H:some (⟨g1,0,none⟩:Addr)=some ⟨g',o',none⟩:=H;have e3:=Y.symm.trans H;cases e3;exact⟨y,0,el,(ip (ei Gh.α z) _).trans Y,by rw[z];exact⟨O.lt,aa O qd⟩,hQ,hE.1,λ_ _=>trivial⟩
  ·refine⟨qd,⟨λh=>(nomatch h),λ_ j J=>?_,λh=>(nomatch h),λh=>(nomatch h),λh=>(nomatch h),.inr (.inl rfl)⟩,λ_ h=>(nomatch h)⟩
   have ay:j<X.ar.length:=J;obtain⟨y,Y,_,O⟩:=F.ar.some qo;obtain⟨g',o',el,H,_,hQ,hE⟩:=(Gv (RD:=Jr) (q:=0) F.at 1 _ rfl).2.1.k1 rfl j J;have H:b2=some ⟨g',o',none⟩:=H;have e3:=Y.symm.trans H;cases e3;exact⟨y,0,el,(ip (ei Gh.α z) _).trans Y,by rw[z];exact⟨O.lt,aa O qd⟩,hQ,hE.1,λ_ _=>trivial⟩
  ·refine⟨qd,⟨λh=>(nomatch h),λ_ j J=>?_,λh=>(nomatch h),λh=>(nomatch h),λh=>(nomatch h),.inr (.inl rfl)⟩,λ_ h=>(nomatch h)⟩
   have ay:j<X.aw.length:=J;obtain⟨y,Y,_,O⟩:=F.aw.some qo;obtain⟨g',o',el,H,_,hQ,hE⟩:=(Gv (RD:=Jr) (q:=0) F.at 2 _ rfl).2.1.k1 rfl j J;have H:b3=some ⟨g',o',none⟩:=H;have e3:=Y.symm.trans H;cases e3;exact⟨y,0,el,(ip (ei Gh.α z) _).trans Y,by rw[z];exact⟨O.lt,aa O qd⟩,hQ,hE.1,λ_ _=>trivial⟩
  ·refine⟨qd,⟨λh=>(nomatch h),λ_ j _=>⟨g1,0,[],ip (ei Gh.α z) _,by rw[z];exact⟨az.lt,al⟩,λk hk=>hk.elim,λx v hx=>(nomatch hx),λW hW k hk=>hW k (by rw[z];exact hk)⟩,λh=>(nomatch h),λh=>(nomatch h),λh=>(nomatch h),.inr (.inl rfl)⟩,λ_ h=>(nomatch h)⟩
 have M:=Ox (R0:=⟨λ_=>False,λ_=>none,0⟩) (G:=G) (w:=w) (w0:={w with heap:=#[]}) (c0:=64) (q0:=0) (vs:=[.complex .f64 0 0]) hΓ hf (c:=fn.body.getD .skip) (by cases h:fn.body with|none=>rw[h]at hb;cases hb|some _=>rfl) (Cb hΓ qk _ (.nil _) hc) aJ (Post:=λv m _=>v=val/\lk m 0=some (AX (wkC A ae ce X d1 d2 d3 k (Sl vb vn vc)) 227)/\lk m 4=some (frW (λW=>∀k,k<w.heap.size/\k≠g->W.heap[k]?=w.heap[k]?))) (by rw[<-Hd];exact hv d1 d2 d3 vb vn vc _ ax) hm (λi b j c hi J oi oj al=>?_) (Cg rfl) AG (λk hk=>by rw[z]at hk ⊢;exact⟨hk.1,λh=>h⟩) (λk hk=>by rw[z]at hk;exact hk.elim) (λk hk=>by rw[z]at hk;exact hk.elim) ⟨rfl,rfl,rfl,AI _,λk hk=>absurd hk (gN _)⟩
 ·rw[show(List.map (r2 G.α) [.complex .f64 0 0]).toArray=#[.pointer (qad g)] from by rw[z];simp[r2,r1,r0,Addr.add]]at M
  refine M.mono ?_;rintro e w' ⟨_,m,q,G',⟨rfl,h0,h2⟩,rfl,hH,_,am,hz,_,Z,aK⟩;obtain⟨_,_,_,_,_,_,hE⟩:=(hH _ _ h2).k1 rfl 0 Nat.one_pos;obtain⟨g',H,_,_,_,aH⟩:=(hH _ _ h0).k0 rfl;have a0:G'.α 0=some ⟨g,0,none⟩:=(Z 0 qd).trans (ip (ei Gh.α z) 0);have a1:G'.α 1=some ⟨g1,0,none⟩:=(Z 1 qd).trans (ip (ei Gh.α z) 1);have a2:G'.α 2=b2:=(Z 2 qd).trans (ip (ei Gh.α z) 2);have a3:G'.α 3=b3:=(Z 3 qd).trans (ip (ei Gh.α z) 3);rw[a0]at H;cases H
  have aI:w'.heap[g]?=w.heap[g]?:=by
   rw[aH,hg];simp[AX,wkC,wkL,r0,a1,a2,a3]
  refine⟨by rw[aA],am.os,am.tape,am.output,aK,λk hk=>?_⟩
  by_cases e:k=g
  ·rw[e];exact aI
  ·exact hE.2 w' (λ_ _=>rfl) k ⟨hk,e⟩
 ·have hi:=Aw _ _ _ hi
  have J:=Aw _ _ _ J;simp only[wkM,dJ,dW,fF,dR]at hi J;rcases hi with⟨rfl,rfl⟩|⟨rfl,rfl⟩|⟨rfl,rfl⟩|⟨rfl,rfl⟩|⟨rfl,rfl⟩<;>rcases J with⟨rfl,rfl⟩|⟨rfl,rfl⟩|⟨rfl,rfl⟩|⟨rfl,rfl⟩|⟨rfl,rfl⟩<;>first|exact absurd rfl al|(rcases oi with h|h<;>cases h;done)|(rcases oj with h|h<;>cases h;done)
theorem room_vc{A:Ac}{M:qO}{ce:Nat}{X:Bk}{s:Svc}{d1 d2 d3:Nat}{Z:Value}{k:Nat}{P:World->Prop}(hS:X.aR)(hk:X.ah[k]?=some s)(aa:0<=A.ax)(af:A.ax<=20)(aj:1<=s.next)(ak:s.next<=1000000):
  vwr TTw Γw [] (Tryz.f192.body.getD .skip) (endW Tryz.f192.results A M ce X d1 d2 d3 k Z P (.bool (Iq X A s))) ⟨Ew 0 [.complex .f64 0 0],wkM A M ce X d1 d2 d3 k Z P,64,0⟩:=by
 have O:k<X.ah.length:=(AC hk).1;obtain⟨W,ah,_⟩:=hS;refine λx hx=>?_
 have hx:x=X.ar.length+A.ax:=hx ⟨qo,qo⟩;refine dg (λz=>?_) (λz=>?_)
 ·refine⟨0,A,M,ce,X.av,1,X.ah.length,d1,.iface 2 (Sl none X.ar.length d2),.iface 3 (Sl none X.aw.length d3),k,Z,BY 34 13 svL X.ah,rfl,rfl,rfl,rfl,rfl,O,AG,W,λs' Y=>?_⟩
  cases (hk.symm.trans Y:some s=some s');refine λy J=>?_
  have J:y=s.next+A.ax:=J ⟨qo,qo⟩;refine dg (λF=>?_) (λF=>?_)
  ·refine dg (λH=>?_) (λH=>?_)
   ·exact⟨.inl rfl,_,rfl,⟨by subst hx;subst J;have z:(X.ar.length:Int)+A.ax<=200:=z;have F:s.next+A.ax<=1000000:=F;have H:X.av<=1000000:=H;simp[Iq,z,F,H],rfl,rfl⟩,rfl⟩
   ·exact⟨.inl rfl,_,rfl,⟨by have H:¬X.av<=1000000:=H;simp[Iq,H],rfl,rfl⟩,rfl⟩
  ·exact⟨.inl rfl,_,rfl,⟨by subst J;have F:¬s.next+A.ax<=1000000:=F;simp[Iq,F],rfl,rfl⟩,rfl⟩
 ·exact⟨.inl rfl,_,rfl,⟨by subst hx;have z:¬(X.ar.length:Int)+A.ax<=200:=z;simp[Iq,z],rfl,rfl⟩,rfl⟩
theorem RO(A:Ac)(O:qO)(ce:Nat)(X:Bk)(s:Svc)(N g k:Nat)(I:List Int)(w:World)(H:X.aR)(hk:X.ah[k]?=some s)(z:0<=A.ax)(F:A.ax<=20)(J:1<=s.next)(M:s.next<=1000000)(W:WkAt w N g A O ce X k I):
  Calls Tryz.prog 192 #[.pointer (qad g)] w λe w'=>e=.returned (.bool (Iq X A s))/\Below w.heap.size w w':=
 wk_ro (env_w EH) Tryz.func192 qk qk (AD rfl) (λ_=>rfl) (AC hk).1 W λ_ _ _ _ _ _ _ _=>room_vc H hk z F J M
abbrev ctCnt:Ct:=ctV (λp:BP × Svc=>[p.1.v,GE p.2]) (λp=>p.1.m) (λp=>p.1.B.ar.length<=1048576/\Ds p.1.B.ar/\p.1.B.ar.length<=p.1.c2) λp v es=>es=[]/\v=NK (Ar p.2.aj p.2.name p.1.B.ar p.1.B.ar.length)
theorem cnt_ct{RD:(Nat->Prop)->World->Nat->Nat->Prop}(hR:CR RD):CH Tryz.prog RD 167 0 ctCnt:=by
 intro w0 G w q id vs es k0 hz M Z Y _ _ hC;obtain⟨⟨⟨B,c1,c2,c3⟩,s⟩,F,⟨t1,t2,t3⟩,_⟩:=hC;obtain⟨J,H,W,_,_,O⟩:=NM (q':=0) (r:=false) (X:=λ_=>False) hR (λ_ h=>h.elim) (λh=>nomatch h) hz Y F (nt:=100) rfl;have hB:BkAt w (J.α 0) (J.α 1) (J.α 2) B:=IY (λk hk=>(W k hk).1) (O 0 _ rfl).2.1 (O 1 _ rfl).2.1 (O 2 _ rfl).2.1 .row .row .row;have ha:(vs.map (r2 G.α)).toArray=#[.agg #[In i6 B.av,.slice (J.α 0) B.ah.length c1,.slice (J.α 1) B.ar.length c2,.slice (J.α 2) B.aw.length c3],.agg (svL s).toArray]:=by rw[<-H];simp[BP.v,GE,svL,r2,r1,r0]
 rw[ha];refine(FB B s _ _ _ c1 c2 c3 w t1 t2 t3 hB.2.1 _ rfl).mono ?_;rintro e w' ⟨rfl,hb⟩;rw[show(Value.agg #[In i6 (Ar s.aj s.name B.ar B.ar.length).aE,In i6 (Ar s.aj s.name B.ar B.ar.length).ready,In i6 (Ar s.aj s.name B.ar B.ar.length).aO,In i6 (Ar s.aj s.name B.ar B.ar.length).aD,In i6 (Ar s.aj s.name B.ar B.ar.length).am])=r2 (λ_=>none) (NK (Ar s.aj s.name B.ar B.ar.length)) from by simp[NK,r2,r1,r0]];refine ND (C:=ctCnt vs es id) (v:=NK (Ar s.aj s.name B.ar B.ar.length)) (es':=[]) (β:=λ_=>none) (cost:=0) (X:=λ_=>False) (λ_ h=>h.elim) (λg hg hd=>hR _ _ _ _ _ _ _ hd (λ_ h=>h) (hb.block g (M g hg)) (λk hk=>hb.block k (hz k hk).1) AG) hz M Z ⟨hb.os,hb.tape,hb.output,hb.size,λk hk _=>hb.block k hk⟩ rfl (λx b hx=>(nomatch hx)) (λx b y c hx hy aB=>(nomatch hx)) (f:=(id+ ·)) (λx hx=>(nomatch hx)) λk hk=>?_
 obtain⟨⟨⟨B',af,ag,ah⟩,s'⟩,z,_,hk⟩:=hk;rw[F]at z;simp only[dR,dD,eo,BP.m,bkM,fH]at z;obtain⟨⟨h1,h2⟩,h3,h4,h5⟩:=z;have h6:=BP.inj h1 h3 h4 h5;cases h6;have h7:s=s':=Dl h2;subst h7;exact hk _ _ ⟨rfl,rfl⟩
abbrev Γc:List (Nat × Nat × Ct):=(167,0,ctCnt)::Γw
theorem env_c{RD:(Nat->Prop)->World->Nat->Nat->Prop}(z:CR RD):Env Tryz.prog RD TTw Γc:=⟨z,TTw_ok,λf c C h=>by
 by_cases e:167=f
 ·subst e;rw[Ae]at h;cases h;exact⟨qk,cnt_ct z⟩
 ·rw[Au e]at h;exact(env_w z).ct f c C h⟩
theorem Vn{A:Ac}{M:qO}{ce:Nat}{X:Bk}{s:Svc}{d1 d2 d3:Nat}{ve:Value}{k:Nat}{P:World->Prop}(hS:X.aR)(W:X.ar.length<=d2)(z:Ds X.ar)(hk:X.ah[k]?=some s){C:Cnt}(hC:C=Ar s.aj s.name X.ar X.ar.length)(aj:0<=A.ax)(ak:A.ax<=20)(aq:0<=s.au)(au:s.au<=10)(am:0<=s.aG)(an:s.aG<=10):
  vwr TTw Γc [] (Tryz.f190.body.getD .skip) (endW Tryz.f190.results A M ce X d1 d2 d3 k ve P (.bool (A.ax==0||(!s.aH&&decide (C.aE+A.ax<=s.au+s.aG))))) ⟨Ew 0 [.complex .f64 0 0],wkM A M ce X d1 d2 d3 k ve P,64,0⟩:=by
 have Y:k<X.ah.length:=(AC hk).1;obtain⟨aa,af,_⟩:=hS;have F:=Ed s.aj s.name X.ar X.ar.length AG;rw[<-hC]at F;refine dg (λh=>?_) (λh=>?_)
 ·exact⟨.inl rfl,_,rfl,⟨by rw[show(A.ax==0)=true from fN.2 h];rfl,rfl,rfl⟩,rfl⟩
 have O:(A.ax==0)=false:=fg.2 h;refine⟨0,A,M,ce,X.av,1,X.ah.length,d1,.iface 2 (Sl none X.ar.length d2),.iface 3 (Sl none X.aw.length d3),k,ve,BY 34 13 svL X.ah,rfl,rfl,rfl,rfl,rfl,Y,AG,aa,λs' ag=>?_⟩;cases (hk.symm.trans ag:some s=some s');refine⟨(⟨X,d1,d2,d3⟩,s),rfl,⟨af,z,W⟩,?_⟩;rintro v _ ⟨rfl,hv⟩;have hv:v=NK C:=by rw[hC];exact hv
 subst hv;refine λx hx=>?_
 have hx:x=C.aE+A.ax:=hx ⟨by have:=F.1;omega,by have:=F.2.1;omega⟩;subst hx;refine dg (λJ=>?_) (λJ=>?_)
 ·exact⟨.inl rfl,_,rfl,⟨by rw[O,show s.aH=true from J];rfl,rfl,rfl⟩,rfl⟩
 refine λy H=>?_
 have H:inR (s.au+s.aG)->y=s.au+s.aG:=H;have H:=H ⟨qo,qo⟩;subst H;refine dg (λZ=>?_) (λZ=>?_)
 ·exact⟨.inl rfl,_,rfl,⟨by rw[O,show s.aH=false from J,dX (show C.aE+A.ax<=s.au+s.aG from Z)];rfl,rfl,rfl⟩,rfl⟩
 ·exact⟨.inl rfl,_,rfl,⟨by rw[O,show s.aH=false from J,ek (show ¬C.aE+A.ax<=s.au+s.aG from Z)];rfl,rfl,rfl⟩,rfl⟩
theorem No(A:Ac)(ae:qO)(ce:Nat)(X:Bk)(s:Svc)(N g k:Nat)(I:List Int)(w:World)(J:X.aR)(H:Hid (Ds X.ar))(_hN:N<=w.heap.size)(hk:X.ah[k]?=some s)(C:Cnt)(HC:Hid (C=Ar s.aj s.name X.ar X.ar.length))(z:0<=A.ax)(F:A.ax<=20)(W:0<=s.au)(Y:s.au<=10)(M:0<=s.aG)(O:s.aG<=10)(hS:WkAt w N g A ae ce X k I):
  Calls Tryz.prog 190 #[.pointer (qad g)] w λe w'=>e=.returned (.bool (!CO A s C))/\Below w.heap.size w w':=by
 have e:(!CO A s C)=(A.ax==0||(!s.aH&&decide (C.aE+A.ax<=s.au+s.aG))):=by
  unfold CO
  by_cases h:A.ax=0
  ·rw[h];rfl
  ·rw[dX (show 0<A.ax by omega),show(A.ax==0)=false from fg.2 h]
   by_cases Z:C.aE+A.ax<=s.au+s.aG
   ·rw[dX Z,ek (show ¬s.au+s.aG<C.aE+A.ax by omega)];cases s.aH<;>rfl
   ·rw[ek Z,dX (show s.au+s.aG<C.aE+A.ax by omega)];cases s.aH<;>rfl
 rw[e];exact wk_ro (env_c EH) Tryz.func190 qk qk (AD rfl) (λ_=>rfl) (AC hk).1 hS λ_ _ _ _ _ _ _ hd=>Vn J hd H.ab hk HC.ab z F W Y M O
end
end Go.Proofs.YtbceafpodamnfaaGreatDoor
