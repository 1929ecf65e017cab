import Derived.Test.YtbceafpodamnfaaGreatDoorG19
import Derived.Test.YtbceafpodamnfaaGreatDoorG26
import Derived.Test.YtbceafpodamnfaaGreatDoorG29
set_option linter.all false
set_option maxHeartbeats 4000000
set_option maxRecDepth 100000
namespace Go.Proofs.YtbceafpodamnfaaGreatDoor
section
open Go.RowKit
def wkL(A:Ac)(ae:qO)(ce:Nat)(aj:Int)(j n1 d1:Nat)(v2 v3:Value)(k:Int)(ve:Value):List Value:=[.string A.aa,.int .i64 A.aF,.int .i64 A.am,.int .i64 A.av,.int .i64 A.ay,.bool A.az,.slice ae A.aw.length ce,.bool A.drop,.int .i64 aj,.iface j (.slice none n1 d1),v2,v3,.int .i64 k,ve]
def ctSvc1:Ct:=λvs es id k=>∃(i:Nat) (A:Ac) (ae:qO) (ce:Nat) (aj:Int) (j n1 d1:Nat) (v2 v3:Value) (kk:Nat) (ve:Value) (b:VB),vs=[.complex .f64 i 0]/\lk es i=some (AT (wkL A ae ce aj j n1 d1 v2 v3 kk ve) 227)/\lk es j=some b/\b.kd=1/\b.sz=13/\kk<n1/\n1<=b.n/\n1<=1048576/\b.Q kk λel=>k (.complex .f64 id 0) [(id,Qu el b.ty b.E)]
theorem svc1_ct{RD:(Nat->Prop)->World->Nat->Nat->Prop}(hR:B9 RD):B7 Tryz.prog RD 247 0 ctSvc1:=by
 rintro w0 G w q id vs es k0 Y aa aE ag _ hq ⟨i,A,ae,ce,aj,j,n1,d1,v2,v3,kk,ve,b,rfl,hi,H,hb,al,hk,aL,hn,_⟩;obtain⟨g,e1,_,_,_,hg⟩:=(ag i _ (Aj _ _ _ hi)).k0 rfl;obtain⟨g1,o1,el,e2,hZ,hQ,M⟩:=(ag j _ (Aj _ _ _ H)).k1 hb kk (by omega);have ha:(List.map (r2 G.α) [.complex .f64 i 0]).toArray=#[.pointer (some ⟨g,0,none⟩)]:=by simp[r2,r1,r0,e1,Addr.add]
 rw[ha]
 have J:w.heap[g]?=some (.cells #[.string A.aa,.int .i64 A.aF,.int .i64 A.am,.int .i64 A.av,.int .i64 A.ay,.bool A.az,.slice ae A.aw.length ce,.bool A.drop,.int .i64 aj,.slice (some ⟨g1,o1,none⟩) n1 d1,r0 G.α v2,r0 G.α v3,.int .i64 (kk:Int),r0 G.α ve] 227 (0,0)):=by
  rw[hg];simp[AT,wkL,r0,e2]
 refine(Je A ae ce aj g g1 o1 n1 d1 kk (r0 G.α v2) (r0 G.α v3) (r0 G.α ve) w hk hn J).mono ?_;rintro e w' ⟨rfl,F⟩;refine⟨.complex .f64 id 0,[(id,Qu el b.ty b.E)],⟨λj=>if j=id then some ⟨g1,o1+kk*13,none⟩ else G.α j,G.Z,G.RB⟩,λk hk=>?_,?_,⟨⟨F.os,F.tape,F.output,F.size,λk hk _=>F.block k hk⟩,λj H=>dC (by omega),λ_ h=>h,λ_ h=>.inl h,λk hk=>⟨AF (Y k hk).1 F.size,(Y k hk).2⟩,λ_ h=>h,λ_ h=>.inl h,λk hk=>AF (aa k hk) F.size,λg' J h=>hR _ _ _ _ _ _ _ h (λ_ h=>h) (F.block g' (aa g' J)) (λk hk=>F.block k (Y k hk).1) (AG _)⟩,⟨λj c H=>?_,λj c H h=>(by cases cZ.1 H;rcases h with h|h<;>cases h),λj c j' c' H _ h=>(by cases cZ.1 H;rcases h with h|h<;>cases h)⟩,Hw id es _,Fs id es _ (λx hx=>?_)⟩
 ·obtain⟨i',A',a6,aS,av,j',a4,aI,a5,aK,ak,aG,b',hv,af,ai,_,_,_,_,_,hk⟩:=hk
  simp only[dv,Value.complex.injEq,fu,dV]at hv;subst hv;rw[hi]at af;have h:=em VB.cs (dg af);simp only[AT,wkL,dv,iH,fF,fu,dV]at h;obtain⟨_,_,_,_,_,_,_,_,_,⟨rfl,_⟩,_,_,h,_⟩:=h;have h:kk=ak:=by omega
  subst h;cases H.symm.trans ai;exact hQ _ hk
 ·rw[Fq (g:=g1) (o:=o1+kk*13) .f64 0 (dB rfl)]
  rfl
 ·cases cZ.1 H
  exact⟨λh=>(nomatch h),λh=>(nomatch h),λ_=>⟨g1,_,dB rfl,hZ,by
   rw[al]at M
   exact⟨λx v hx=>⟨(eF (w:=w) (F.block g1 (Y g1 hZ).1)).trans (M.1 x v hx).1,(M.1 x v hx).2⟩,λW hW=>M.2 W λk hk=>(hW k hk).trans (F.block k (Y k hk).1)⟩⟩,λh=>(nomatch h),λh=>(nomatch h),.inr (.inr (.inl rfl))⟩
 ·obtain⟨u,hu,Z⟩:=dR.1 hx
  obtain⟨y,hy⟩:=ef hu;rw[Kv ((M.1 y u hy).2)]at Z;cases Z
def TTw:List TE:=⟨227,4,0,14,[(0,8),(8,4),(12,1),(13,1)],[.string ⟨#[]⟩,.int .i64 0,.int .i64 0,.int .i64 0,.int .i64 0,.bool false,.slice none 0 0,.bool false,.int .i64 0,.slice none 0 0,.slice none 0 0,.slice none 0 0,.int .i64 0,.slice none 0 0]⟩::TT
theorem TTw_ok:∀e∈TTw,TEok Tryz.prog e:=λe F=>by
 rcases dy.1 F with rfl|h
 ·exact⟨by kernel_rfl,by kernel_rfl,λ_ h=>absurd h (by decide)⟩
 ·exact TT_ok e h
abbrev Γw:List (Nat × Nat × Ct):=[(247,0,ctSvc1)]
theorem env_w{RD:(Nat->Prop)->World->Nat->Nat->Prop}(F:B9 RD):Env Tryz.prog RD TTw Γw:=⟨F,TTw_ok,λf c C h=>by
 by_cases e:247=f
 ·subst e;rw[Ad]at h;cases h;exact⟨by kernel_rfl,svc1_ct F⟩
 ·rw[At e]at h;cases h⟩
def Hc(X:Bk)(A:Ac)(s:Svc):Bool:=decide ((X.ah.length:Int)+A.am<=200)&&(decide (s.next+A.am<=1000000)&&decide (X.aj<=1000000))
def frW(P:World->Prop):VB:=⟨1,0,0,1,0,[],λ_ _=>False,λW _=>P W⟩
def wkC(A:Ac)(ae:qO)(ce:Nat)(X:Bk)(d1 d2 d3 k:Nat)(ve:Value):List Value:=wkL A ae ce X.aj 1 X.af.length d1 (.iface 2 (.slice none X.ah.length d2)) (.iface 3 (.slice none X.ak.length d3)) k ve
def wkM(A:Ac)(ae:qO)(ce:Nat)(X:Bk)(d1 d2 d3 k:Nat)(ve:Value)(P:World->Prop):AY:=[(0,AT (wkC A ae ce X d1 d2 d3 k ve) 227),(1,A9 34 13 svL X.af),(2,A9 76 7 cpL X.ah),(3,A9 90 2 btL X.ak),(4,frW P)]
def endW(rs:Array ResultVar)(A:Ac)(ae:qO)(ce:Nat)(X:Bk)(d1 d2 d3 k:Nat)(ve:Value)(P:World->Prop)(val:Value)(e:Exit)(st:St):Prop:=(e=.ret\/e=.normal)/\∃v,Lz TTw rs.toList st.t st.m=some v/\(v=val/\lk st.m 0=some (AT (wkC A ae ce X d1 d2 d3 k ve) 227)/\lk st.m 4=some (frW P))/\clo st.m (BS v)=true
theorem wk_ro{Γ:List (Nat × Nat × Ct)}(hΓ:Env Tryz.prog G6 TTw Γ){f:Nat}{fn:Func}(hf:Tryz.prog.funcs[f]?=some fn)(hb:fn.body.isSome=true)(hc:E4 [] fn.ntmps (fn.body.getD .skip)=true)(aM:1<=fn.ntmps){A:Ac}{ae:qO}{ce:Nat}{X:Bk}{N g k:Nat}{I:List Int}{w:World}{val:Value}(az:∀β,r2 β val=val)(hk:k<X.af.length)(hS:WkAt w N g A ae ce X k I)
  (hv:∀d1 d2 d3 vb vn vc P,X.ah.length<=d2->vwr TTw Γ [] (fn.body.getD .skip) (endW fn.results A ae ce X d1 d2 d3 k (.slice vb vn vc) P val) ⟨EM 0 [.complex .f64 0 0],wkM A ae ce X d1 d2 d3 k (.slice vb vn vc) P,64,0⟩):
  Calls Tryz.prog f #[.pointer (qad g)] w λe w'=>e=.returned val/\Below w.heap.size w w':=by
 obtain⟨b1,b2,b3,d1,d2,d3,ve,a5,hg,H,aK⟩:=hS;obtain⟨g1,e1,a9,ay⟩:=H.af.some (by omega);subst e1
 obtain⟨vb,vn,vc,rfl⟩:∃vb vn vc,ve=.slice vb vn vc:=by
  rcases aK.2 with⟨h,_⟩|⟨_,_,_,h,_⟩<;>exact⟨_,_,_,h⟩
 have bf:g<w.heap.size:=(AB hg).1
 have al:∀{e size y n c:Nat} {xs:qL},RowIs w e size y n c xs->e≠227->y≠g:=λh he=>by
  rintro rfl;obtain⟨_,_,bj,h1,_⟩:=h;rw[hg]at h1;injection h1 with h1
  injection h1 with _ h1
  exact he h1.symm
 have ar:g1≠g:=al ay (by decide)
 have aC:X.ah.length<=d2:=by
  by_cases h0:X.ah.length=0
  ·omega
  ·obtain⟨y,ey,_,Z⟩:=H.ah.some (by omega)
   exact Z.2.1
 obtain⟨G,F⟩:∃G:Gh,G=⟨λi=>match i with|0=>some ⟨g,0,none⟩|1=>some ⟨g1,0,none⟩|2=>b2|3=>b3|4=>some ⟨g1,0,none⟩|_=>none,λk=>k<w.heap.size/\k≠g,λ_=>False⟩:=⟨_,rfl⟩
 have hm:∀i b,lk (wkM A ae ce X d1 d2 d3 k (.slice vb vn vc) λW=>∀k,k<w.heap.size/\k≠g->W.heap[k]?=w.heap[k]?) i=some b->i<64/\Hold G6 {w with heap:=#[]} G w 0 i b/\Clo (wkM A ae ce X d1 d2 d3 k (.slice vb vn vc) λW=>∀k,k<w.heap.size/\k≠g->W.heap[k]?=w.heap[k]?) (b.cs.flatMap Cf):=λi b hb=>by
  have hi:=Aj _ _ _ hb;simp only[wkM,dy,dH,eP,dw]at hi;rcases hi with⟨rfl,rfl⟩|⟨rfl,rfl⟩|⟨rfl,rfl⟩|⟨rfl,rfl⟩|⟨rfl,rfl⟩
  ·refine⟨by decide,⟨λ_=>⟨g,gW (em Gh.α F) _,AI _,by rw[F];exact λh=>h.2 rfl,by rw[F];exact λh=>h,?_⟩,λh=>(nomatch h),λh=>(nomatch h),λh=>(nomatch h),λh=>(nomatch h),.inl rfl⟩,?_⟩
   ·rw[hg,F]
    rfl
   ·exact Cz rfl
  ·refine⟨by decide,⟨λh=>(nomatch h),λ_ j M=>?_,λh=>(nomatch h),λh=>(nomatch h),λh=>(nomatch h),.inr (.inl rfl)⟩,λ_ h=>(nomatch h)⟩
   have ax:j<X.af.length:=M;obtain⟨y,ey,_,Z⟩:=H.af.some (by omega);obtain⟨g',o',el,J,_,hQ,hE⟩:=(EV (RD:=G6) (q:=0) H.at 0 _ rfl).2.1.k1 rfl j M;have J:some (⟨g1,0,none⟩:Addr)=some ⟨g',o',none⟩:=J;have e3:=ey.symm.trans J;cases e3;exact⟨y,0,el,(gW (em Gh.α F) _).trans ey,by rw[F];exact⟨Z.lt,al Z (by decide)⟩,hQ,hE.1,λ_ _=>trivial⟩
  ·refine⟨by decide,⟨λh=>(nomatch h),λ_ j M=>?_,λh=>(nomatch h),λh=>(nomatch h),λh=>(nomatch h),.inr (.inl rfl)⟩,λ_ h=>(nomatch h)⟩
   have ax:j<X.ah.length:=M;obtain⟨y,ey,_,Z⟩:=H.ah.some (by omega);obtain⟨g',o',el,J,_,hQ,hE⟩:=(EV (RD:=G6) (q:=0) H.at 1 _ rfl).2.1.k1 rfl j M;have J:b2=some ⟨g',o',none⟩:=J;have e3:=ey.symm.trans J;cases e3;exact⟨y,0,el,(gW (em Gh.α F) _).trans ey,by rw[F];exact⟨Z.lt,al Z (by decide)⟩,hQ,hE.1,λ_ _=>trivial⟩
  ·refine⟨by decide,⟨λh=>(nomatch h),λ_ j M=>?_,λh=>(nomatch h),λh=>(nomatch h),λh=>(nomatch h),.inr (.inl rfl)⟩,λ_ h=>(nomatch h)⟩
   have ax:j<X.ak.length:=M;obtain⟨y,ey,_,Z⟩:=H.ak.some (by omega);obtain⟨g',o',el,J,_,hQ,hE⟩:=(EV (RD:=G6) (q:=0) H.at 2 _ rfl).2.1.k1 rfl j M;have J:b3=some ⟨g',o',none⟩:=J;have e3:=ey.symm.trans J;cases e3;exact⟨y,0,el,(gW (em Gh.α F) _).trans ey,by rw[F];exact⟨Z.lt,al Z (by decide)⟩,hQ,hE.1,λ_ _=>trivial⟩
  ·refine⟨by decide,⟨λh=>(nomatch h),λ_ j _=>⟨g1,0,[],gW (em Gh.α F) _,by rw[F];exact⟨ay.lt,ar⟩,λk hk=>hk.elim,λx v hx=>(nomatch hx),λW hW k hk=>hW k (by rw[F];exact hk)⟩,λh=>(nomatch h),λh=>(nomatch h),λh=>(nomatch h),.inr (.inl rfl)⟩,λ_ h=>(nomatch h)⟩
 have Y:=M7 (R0:=⟨λ_=>False,λ_=>none,0⟩) (G:=G) (w:=w) (w0:={w with heap:=#[]}) (c0:=64) (q0:=0) (vs:=[.complex .f64 0 0]) hΓ hf (c:=fn.body.getD .skip) (by cases h:fn.body with|none=>rw[h]at hb;cases hb|some _=>rfl) (CL hΓ (by kernel_rfl) _ (.nil _) hc) aM (Post:=λv m _=>v=val/\lk m 0=some (AT (wkC A ae ce X d1 d2 d3 k (.slice vb vn vc)) 227)/\lk m 4=some (frW (λW=>∀k,k<w.heap.size/\k≠g->W.heap[k]?=w.heap[k]?))) (by rw[<-Ff];exact hv d1 d2 d3 vb vn vc _ aC) hm (λi b j c hi M oi oj ar=>?_) (Cz rfl) (AG _) (λk hk=>by rw[F]at hk ⊢;exact⟨hk.1,λh=>h⟩) (λk hk=>by rw[F]at hk;exact hk.elim) (λk hk=>by rw[F]at hk;exact hk.elim) ⟨rfl,rfl,rfl,AI _,λk hk=>absurd hk (gr _)⟩
 ·rw[show(List.map (r2 G.α) [.complex .f64 0 0]).toArray=#[.pointer (qad g)] from by rw[F];simp[r2,r1,r0,Addr.add]]at Y
  refine Y.mono ?_;rintro e w' ⟨_,m,q,G',⟨rfl,h0,h2⟩,rfl,hH,_,au,hz,_,af,aS⟩;obtain⟨_,_,_,_,_,_,hE⟩:=(hH _ _ h2).k1 rfl 0 Nat.one_pos;obtain⟨g',J,_,_,_,aI⟩:=(hH _ _ h0).k0 rfl;have a0:G'.α 0=some ⟨g,0,none⟩:=(af 0 (by decide)).trans (gW (em Gh.α F) 0);have a1:G'.α 1=some ⟨g1,0,none⟩:=(af 1 (by decide)).trans (gW (em Gh.α F) 1);have a2:G'.α 2=b2:=(af 2 (by decide)).trans (gW (em Gh.α F) 2);have a3:G'.α 3=b3:=(af 3 (by decide)).trans (gW (em Gh.α F) 3);rw[a0]at J;cases J
  have aL:w'.heap[g]?=w.heap[g]?:=by
   rw[aI,hg];simp[AT,wkC,wkL,r0,a1,a2,a3]
  refine⟨by rw[az],au.os,au.tape,au.output,aS,λk hk=>?_⟩
  by_cases e:k=g
  ·rw[e];exact aL
  ·exact hE.2 w' (λ_ _=>rfl) k ⟨hk,e⟩
 ·have hi:=Aj _ _ _ hi
  have M:=Aj _ _ _ M;simp only[wkM,dy,dH,eP,dw]at hi M;rcases hi with⟨rfl,rfl⟩|⟨rfl,rfl⟩|⟨rfl,rfl⟩|⟨rfl,rfl⟩|⟨rfl,rfl⟩<;>rcases M with⟨rfl,rfl⟩|⟨rfl,rfl⟩|⟨rfl,rfl⟩|⟨rfl,rfl⟩|⟨rfl,rfl⟩<;>first|exact absurd rfl ar|(rcases oi with h|h<;>cases h;done)|(rcases oj with h|h<;>cases h;done)
theorem room_vc{A:Ac}{ae:qO}{ce:Nat}{X:Bk}{s:Svc}{d1 Z Y:Nat}{W:Value}{k:Nat}{P:World->Prop}(hS:X.aJ)(hk:X.af[k]?=some s)(ah:0<=A.am)(ai:A.am<=20)(ak:1<=s.next)(al:s.next<=1000000):
  vwr TTw Γw [] (Tryz.f192.body.getD .skip) (endW Tryz.f192.results A ae ce X d1 Z Y k W P (.bool (Hc X A s))) ⟨EM 0 [.complex .f64 0 0],wkM A ae ce X d1 Z Y k W P,64,0⟩:=by
 have ag:k<X.af.length:=(AC hk).1;obtain⟨aa,an,_⟩:=hS;refine λx hx=>?_
 have hx:x=X.ah.length+A.am:=hx ⟨by omega,by omega⟩;refine cW (λH=>?_) (λH=>?_)
 ·refine⟨0,A,ae,ce,X.aj,1,X.af.length,d1,.iface 2 (.slice none X.ah.length Z),.iface 3 (.slice none X.ak.length Y),k,W,A9 34 13 svL X.af,rfl,rfl,rfl,rfl,rfl,ag,AG _,aa,λs' af=>?_⟩
  cases (hk.symm.trans af:some s=some s');refine λy M=>?_
  have M:y=s.next+A.am:=M ⟨by omega,by omega⟩;refine cW (λJ=>?_) (λJ=>?_)
  ·refine cW (λF=>?_) (λF=>?_)
   ·exact⟨.inl rfl,_,rfl,⟨by subst hx;subst M;have H:(X.ah.length:Int)+A.am<=200:=H;have J:s.next+A.am<=1000000:=J;have F:X.aj<=1000000:=F;simp[Hc,H,J,F],rfl,rfl⟩,rfl⟩
   ·exact⟨.inl rfl,_,rfl,⟨by have F:¬X.aj<=1000000:=F;simp[Hc,F],rfl,rfl⟩,rfl⟩
  ·exact⟨.inl rfl,_,rfl,⟨by subst M;have J:¬s.next+A.am<=1000000:=J;simp[Hc,J],rfl,rfl⟩,rfl⟩
 ·exact⟨.inl rfl,_,rfl,⟨by subst hx;have H:¬(X.ah.length:Int)+A.am<=200:=H;simp[Hc,H],rfl,rfl⟩,rfl⟩
theorem O0(A:Ac)(ae:qO)(ce:Nat)(X:Bk)(s:Svc)(N g k:Nat)(I:List Int)(w:World)(W:X.aJ)(hk:X.af[k]?=some s)(F:0<=A.am)(H:A.am<=20)(J:1<=s.next)(M:s.next<=1000000)(Y:WkAt w N g A ae ce X k I):
  Calls Tryz.prog 192 #[.pointer (qad g)] w λe w'=>e=.returned (.bool (Hc X A s))/\Below w.heap.size w w':=
 wk_ro (env_w DL) Tryz.func192 (by kernel_rfl) (by kernel_rfl) (AD rfl) (λ_=>rfl) (AC hk).1 Y λ_ _ _ _ _ _ _ _=>room_vc W hk F H J M
abbrev ctCnt:Ct:=ctV (λp:BP × Svc=>[p.1.v,Ei p.2]) (λp=>p.1.m) (λp=>p.1.B.ah.length<=1048576/\Di p.1.B.ah/\p.1.B.ah.length<=p.1.c2) λp v es=>es=[]/\v=IA (BM p.2.ar p.2.name p.1.B.ah p.1.B.ah.length)
theorem cnt_ct{RD:(Nat->Prop)->World->Nat->Nat->Prop}(hR:B9 RD):B7 Tryz.prog RD 167 0 ctCnt:=by
 intro w0 G w q id vs es k0 Y W Z aa _ _ hC;obtain⟨⟨⟨B,c1,c2,c3⟩,s⟩,H,⟨t1,t2,t3⟩,_⟩:=hC;obtain⟨M,J,af,_,_,hM⟩:=Ld (q':=0) (r:=false) (X:=λ_=>False) hR (λ_ h=>h.elim) (λh=>nomatch h) Y aa H (nt:=100) rfl;have hB:BkAt w (M.α 0) (M.α 1) (M.α 2) B:=Gw (λk hk=>(af k hk).1) (hM 0 _ rfl).2.1 (hM 1 _ rfl).2.1 (hM 2 _ rfl).2.1 .row .row .row;have ha:(vs.map (r2 G.α)).toArray=#[.agg #[.int .i64 B.aj,.slice (M.α 0) B.af.length c1,.slice (M.α 1) B.ah.length c2,.slice (M.α 2) B.ak.length c3],.agg (svL s).toArray]:=by rw[<-J];simp[BP.v,Ei,svL,r2,r1,r0]
 rw[ha];refine(F5 B s _ _ _ c1 c2 c3 w t1 t2 t3 hB.2.1 _ rfl).mono ?_;rintro e w' ⟨rfl,hb⟩;rw[show(Value.agg #[.int .i64 (BM s.ar s.name B.ah B.ah.length).aI,.int .i64 (BM s.ar s.name B.ah B.ah.length).ready,.int .i64 (BM s.ar s.name B.ah B.ah.length).aW,.int .i64 (BM s.ar s.name B.ah B.ah.length).aL,.int .i64 (BM s.ar s.name B.ah B.ah.length).au])=r2 (λ_=>none) (IA (BM s.ar s.name B.ah B.ah.length)) from by simp[IA,r2,r1,r0]];refine LV (C:=ctCnt vs es id) (v:=IA (BM s.ar s.name B.ah B.ah.length)) (es':=[]) (β:=λ_=>none) (cost:=0) (X:=λ_=>False) (λ_ h=>h.elim) (λg hg hd=>hR _ _ _ _ _ _ _ hd (λ_ h=>h) (hb.block g (W g hg)) (λk hk=>hb.block k (Y k hk).1) (AG _)) Y W Z ⟨hb.os,hb.tape,hb.output,hb.size,λk hk _=>hb.block k hk⟩ rfl (λx b hx=>(nomatch hx)) (λx b y c hx hy aH=>(nomatch hx)) (f:=(id+ ·)) (λx hx=>(nomatch hx)) λk hk=>?_
 obtain⟨⟨⟨B',al,ar,aC⟩,s'⟩,F,_,hk⟩:=hk;rw[H]at F;simp only[dw,dv,dV,BP.m,bkM,fu]at F;obtain⟨⟨h1,h2⟩,h3,h4,h5⟩:=F;have h6:=BP.inj h1 h3 h4 h5;cases h6;have h7:s=s':=DY h2;subst h7;exact hk _ _ ⟨rfl,rfl⟩
abbrev Γc:List (Nat × Nat × Ct):=(167,0,ctCnt)::Γw
theorem env_c{RD:(Nat->Prop)->World->Nat->Nat->Prop}(F:B9 RD):Env Tryz.prog RD TTw Γc:=⟨F,TTw_ok,λf c C h=>by
 by_cases e:167=f
 ·subst e;rw[Ad]at h;cases h;exact⟨by kernel_rfl,cnt_ct F⟩
 ·rw[At e]at h;exact(env_w F).ct f c C h⟩
theorem SP{A:Ac}{ae:qO}{ce:Nat}{X:Bk}{s:Svc}{d1 M W:Nat}{ve:Value}{k:Nat}{P:World->Prop}(hS:X.aJ)(ak:X.ah.length<=M)(H:Di X.ah)(hk:X.af[k]?=some s){C:Cnt}(hC:C=BM s.ar s.name X.ah X.ah.length)(am:0<=A.am)(an:A.am<=20)(au:0<=s.av)(aw:s.av<=10)(ar:0<=s.aE)(aq:s.aE<=10):
  vwr TTw Γc [] (Tryz.f190.body.getD .skip) (endW Tryz.f190.results A ae ce X d1 M W k ve P (.bool (A.am==0||(!s.aH&&decide (C.aI+A.am<=s.av+s.aE))))) ⟨EM 0 [.complex .f64 0 0],wkM A ae ce X d1 M W k ve P,64,0⟩:=by
 have ai:k<X.af.length:=(AC hk).1;obtain⟨af,al,_⟩:=hS;have F:=E5 s.ar s.name X.ah X.ah.length (AG _);rw[<-hC]at F;refine cW (λh=>?_) (λh=>?_)
 ·exact⟨.inl rfl,_,rfl,⟨by rw[show(A.am==0)=true from fq.2 h];rfl,rfl,rfl⟩,rfl⟩
 have h0:(A.am==0)=false:=eL.2 h;refine⟨0,A,ae,ce,X.aj,1,X.af.length,d1,.iface 2 (.slice none X.ah.length M),.iface 3 (.slice none X.ak.length W),k,ve,A9 34 13 svL X.af,rfl,rfl,rfl,rfl,rfl,ai,AG _,af,λs' ah=>?_⟩;cases (hk.symm.trans ah:some s=some s');refine⟨(⟨X,d1,M,W⟩,s),rfl,⟨al,H,ak⟩,?_⟩;rintro v _ ⟨rfl,hv⟩;have hv:v=IA C:=by rw[hC];exact hv
 subst hv;refine λx hx=>?_
 have hx:x=C.aI+A.am:=hx ⟨by have:=F.1;omega,by have:=F.2.1;omega⟩;subst hx;refine cW (λY=>?_) (λY=>?_)
 ·exact⟨.inl rfl,_,rfl,⟨by rw[h0,show s.aH=true from Y];rfl,rfl,rfl⟩,rfl⟩
 refine λy J=>?_
 have J:inR (s.av+s.aE)->y=s.av+s.aE:=J;have J:=J ⟨by omega,by omega⟩;subst J;refine cW (λZ=>?_) (λZ=>?_)
 ·exact⟨.inl rfl,_,rfl,⟨by rw[h0,show s.aH=false from Y,dO (show C.aI+A.am<=s.av+s.aE from Z)];rfl,rfl,rfl⟩,rfl⟩
 ·exact⟨.inl rfl,_,rfl,⟨by rw[h0,show s.aH=false from Y,dQ (show ¬C.aI+A.am<=s.av+s.aE from Z)];rfl,rfl,rfl⟩,rfl⟩
theorem L4(A:Ac)(ae:qO)(ce:Nat)(X:Bk)(s:Svc)(N g k:Nat)(I:List Int)(w:World)(Z:X.aJ)(W:Hid (Di X.ah))(_hN:N<=w.heap.size)(hk:X.af[k]?=some s)(C:Cnt)(HC:Hid (C=BM s.ar s.name X.ah X.ah.length))(F:0<=A.am)(H:A.am<=20)(Y:0<=s.av)(aa:s.av<=10)(M:0<=s.aE)(J:s.aE<=10)(hS:WkAt w N g A ae ce X k I):
  Calls Tryz.prog 190 #[.pointer (qad g)] w λe w'=>e=.returned (.bool (!CC A s C))/\Below w.heap.size w w':=by
 have e:(!CC A s C)=(A.am==0||(!s.aH&&decide (C.aI+A.am<=s.av+s.aE))):=by
  unfold CC
  by_cases h:A.am=0
  ·rw[h];rfl
  ·rw[dO (show 0<A.am by omega),show(A.am==0)=false from eL.2 h]
   by_cases hl:C.aI+A.am<=s.av+s.aE
   ·rw[dO hl,dQ (show ¬s.av+s.aE<C.aI+A.am by omega)];cases s.aH<;>rfl
   ·rw[dQ hl,dO (show s.av+s.aE<C.aI+A.am by omega)];cases s.aH<;>rfl
 rw[e];exact wk_ro (env_c DL) Tryz.func190 (by kernel_rfl) (by kernel_rfl) (AD rfl) (λ_=>rfl) (AC hk).1 hS λ_ _ _ _ _ _ _ hd=>SP Z hd W.O hk HC.O F H Y aa M J
end
end Go.Proofs.YtbceafpodamnfaaGreatDoor
