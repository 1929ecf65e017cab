import Derived.Test.YtbceafpodamnfaaGreatDoorG08
import Derived.Laws.StructEq
set_option linter.all false
set_option maxHeartbeats 4000000
set_option maxRecDepth 100000
namespace Go.Proofs.YtbceafpodamnfaaGreatDoor
section
open Go.RowKit
def isW:Op->Bool
 | .store ..=>true
 | .call ⟨.builtin .append,_,_⟩=>true
 |_=>false
def gnFrom:List Oper->Nat
 |[]=>0
 |o::r=>bif isW o.op then 0 else gnFrom r+1
def gn(l:List Oper):Nat:=Nat.min (gnFrom l) (l.length - 1)
def E4(Ρ:Sp)(nt:Nat):Code->Bool
 | .region i ops d=>(lk Ρ i).isSome||KA nt ops.toList&&(!d||(Ap ops (gn ops.toList)&&Oo ops.toList (gn ops.toList)))
 | .seq x y=>E4 Ρ nt x&&E4 Ρ nt y
 | .cond _ x y=>E4 Ρ nt x&&E4 Ρ nt y
 | .block _ c=>E4 Ρ nt c
 | .loop c=>E4 Ρ nt c
 |_=>true
def L0(i:Nat):Code->List (Array Oper × Bool)
 | .region j ops d=>bif Nat.beq j i then [(ops,d)] else []
 | .seq x y=>L0 i x++L0 i y
 | .cond _ x y=>L0 i x++L0 i y
 | .block _ c=>L0 i c
 | .loop c=>L0 i c
 |_=>[]
def SpAll(P:Program)(RD:(Nat->Prop)->World->Nat->Nat->Prop)(Ρ:Sp)(nt:Nat)(c:Code):Prop:=∀i C,lk Ρ i=some C->∀p∈L0 i c,JY P RD nt i p.1 p.2 C
theorem SpAll.nil{P:Program}{RD:(Nat->Prop)->World->Nat->Nat->Prop}{nt:Nat}(c:Code):SpAll P RD [] nt c:=λ_ _ h=>(nomatch h)
theorem CL{P:Program}{RD:(Nat->Prop)->World->Nat->Nat->Prop}{tt:List TE}{Γ:List (Nat × Nat × Ct)}(E:Env P RD tt Γ)(F:P.follows .mixedOrders=true){Ρ:Sp}{nt:Nat}:∀c:Code,SpAll P RD Ρ nt c->E4 Ρ nt c=true->CA P RD tt Γ Ρ nt c
 | .region i ops d,H,h=>by
  unfold E4 at h;unfold CA;split
  ·rename_i C hC
   exact H i C hC (ops,d) (by unfold L0;rw[show Nat.beq i i=true from by simp];exact cZ.2 rfl)
  ·rename_i hC
   rw[hC]at h;simp only[Option.isSome_none,ir,cY,dY,eR]at h;refine⟨h.1,λW=>?_⟩;rcases h.2 with M|M
   ·rw[W]at M;cases M
   ·exact PA E F _ M.1 M.2
 | .seq x y,H,h=>by
  unfold E4 at h;simp only[cY]at h;exact⟨CL E F x (λi C hC p J=>H i C hC p (dt.2 (.inl J))) h.1,CL E F y (λi C hC p J=>H i C hC p (dt.2 (.inr J))) h.2⟩
 | .cond _ x y,H,h=>by
  unfold E4 at h;simp only[cY]at h;exact⟨CL E F x (λi C hC p J=>H i C hC p (dt.2 (.inl J))) h.1,CL E F y (λi C hC p J=>H i C hC p (dt.2 (.inr J))) h.2⟩
 | .block _ c,H,h=>CL E F c H h
 | .loop c,H,h=>CL E F c H h
 | .skip,_,_| .rangeFunc ..,_,_| .exit _,_,_| .scope _,_,_| .label _,_,_| .goto _,_,_| .ret,_,_| .refuse _,_,_=>trivial
def TT:List TE:=[⟨28,4,0,4,[(0,1),(1,1),(2,1),(3,1)],[.int .i64 0,.slice none 0 0,.slice none 0 0,.slice none 0 0]⟩,⟨76,4,2,7,[(0,1),(1,1),(2,1),(3,1),(4,1),(5,1),(6,1)],[.string ⟨#[]⟩,.int .i64 0,.int .i64 0,.int .i64 0,.int .i64 0,.bool false,.string ⟨#[]⟩]⟩,⟨3,0,0,1,[],[.int .i64 0]⟩,⟨4,1,0,1,[],[.bool false]⟩,⟨9,2,0,1,[],[.string ⟨#[]⟩]⟩,⟨25,3,76,1,[],[.slice none 0 0]⟩,⟨26,3,90,1,[],[.slice none 0 0]⟩,⟨24,3,34,1,[],[.slice none 0 0]⟩,⟨48,3,3,1,[],[.slice none 0 0]⟩,⟨43,3,88,1,[],[.slice none 0 0]⟩,⟨90,4,0,2,[(0,1),(1,1)],[.string ⟨#[]⟩,.bool false]⟩,⟨34,4,2,13,[(0,1),(1,1),(2,1),(3,1),(4,1),(5,1),(6,1),(7,1),(8,1),(9,1),(10,1),(11,1),(12,1)],[.string ⟨#[]⟩,.int .i64 0,.bool false,.int .i64 0,.int .i64 0,.int .i64 0,.int .i64 0,.int .i64 0,.int .i64 0,.int .i64 0,.int .i64 0,.int .i64 0,.int .i64 0]⟩,⟨88,4,0,2,[(0,1),(1,1)],[.int .i64 0,.int .i64 0]⟩,⟨45,4,0,8,[(0,1),(1,1),(2,1),(3,1),(4,1),(5,1),(6,1),(7,1)],[.string ⟨#[]⟩,.int .i64 0,.int .i64 0,.int .i64 0,.int .i64 0,.bool false,.slice none 0 0,.bool false]⟩,⟨83,4,1,5,[(0,1),(1,1),(2,1),(3,1),(4,1)],[.int .i64 0,.int .i64 0,.int .i64 0,.int .i64 0,.int .i64 0]⟩,⟨74,3,9,1,[],[.slice none 0 0]⟩,⟨36,4,0,17,[(0,1),(1,13),(14,1),(15,1),(16,1)],[.int .i64 0,.string ⟨#[]⟩,.int .i64 0,.bool false,.int .i64 0,.int .i64 0,.int .i64 0,.int .i64 0,.int .i64 0,.int .i64 0,.int .i64 0,.int .i64 0,.int .i64 0,.int .i64 0,.string ⟨#[]⟩,.int .i64 0,.bool false]⟩,⟨38,4,0,19,[(0,1),(1,1),(2,17)],[.int .i64 0,.int .i64 0,.int .i64 0,.string ⟨#[]⟩,.int .i64 0,.bool false,.int .i64 0,.int .i64 0,.int .i64 0,.int .i64 0,.int .i64 0,.int .i64 0,.int .i64 0,.int .i64 0,.int .i64 0,.int .i64 0,.string ⟨#[]⟩,.int .i64 0,.bool false]⟩]
theorem eqs_cp:eqOk Tryz.prog ⟨76,4,2,7,[(0,1),(1,1),(2,1),(3,1),(4,1),(5,1),(6,1)],[.string ⟨#[]⟩,.int .i64 0,.int .i64 0,.int .i64 0,.int .i64 0,.bool false,.string ⟨#[]⟩]⟩:=by
 rintro _ _ ρ o w x y ⟨l⟩ J h hx H hk;obtain⟨_,_,rfl,F⟩:=Nb hk;clear hk;have hk:=F;clear F;obtain⟨_,_,rfl,F⟩:=Hx hk;clear hk;have hk:=F;clear F;obtain⟨_,_,rfl,F⟩:=Hx hk;clear hk;have hk:=F;clear F;obtain⟨_,_,rfl,F⟩:=Hx hk;clear hk;have hk:=F;clear F;obtain⟨_,_,rfl,F⟩:=Hx hk;clear hk;have hk:=F;clear F;obtain⟨_,_,rfl,F⟩:=QB hk;clear hk;have hk:=F;clear F;obtain⟨_,_,rfl,F⟩:=Nb hk;clear hk;have hk:=F;clear F;obtain rfl:=QA hk;simp[execOp,h,hx,H,go_sem]
theorem eqs_sv:eqOk Tryz.prog ⟨34,4,2,13,[(0,1),(1,1),(2,1),(3,1),(4,1),(5,1),(6,1),(7,1),(8,1),(9,1),(10,1),(11,1),(12,1)],[.string ⟨#[]⟩,.int .i64 0,.bool false,.int .i64 0,.int .i64 0,.int .i64 0,.int .i64 0,.int .i64 0,.int .i64 0,.int .i64 0,.int .i64 0,.int .i64 0,.int .i64 0]⟩:=by
 rintro _ _ ρ o w x y ⟨l⟩ J h hx H hk;obtain⟨_,_,rfl,F⟩:=Nb hk;clear hk;have hk:=F;clear F;obtain⟨_,_,rfl,F⟩:=Hx hk;clear hk;have hk:=F;clear F;obtain⟨_,_,rfl,F⟩:=QB hk;clear hk;have hk:=F;clear F
 iterate 10 (obtain⟨_,_,rfl,F⟩:=Hx hk;clear hk;have hk:=F;clear F)
 obtain rfl:=QA hk;simp[execOp,h,hx,H,go_sem]
theorem TT_ok:∀e∈TT,TEok Tryz.prog e:=by
 intro e F;simp only[TT,dy,dH,eP]at F;rcases F with rfl|rfl|rfl|rfl|rfl|rfl|rfl|rfl|rfl|rfl|rfl|rfl|rfl|rfl|rfl|rfl|rfl|rfl<;>first|exact⟨by kernel_rfl,by kernel_rfl,λ_ h=>absurd h (by decide)⟩|exact⟨by kernel_rfl,by kernel_rfl,λh=>absurd h (by decide)⟩|exact⟨by kernel_rfl,by kernel_rfl,eqs_cp⟩|exact⟨by kernel_rfl,by kernel_rfl,eqs_sv⟩
def A9(ty sz:Nat){X:Type}(f:X->List Value)(l:List X):VB:=⟨1,ty,sz,l.length,0,[],λi k=>∀x,l[i]?=some x->k (f x),λ_ _=>True⟩
def svL(s:Svc):List Value:=[.string s.name,.int .i64 s.ag,.bool s.aH,.int .i64 s.ar,.int .i64 s.av,.int .i64 s.aG,.int .i64 s.aE,.int .i64 s.next,.int .i64 s.aM,.int .i64 s.aC,.int .i64 s.aK,.int .i64 s.load,.int .i64 s.ay]
def cpL(c:Cp):List Value:=[.string c.aa,.int .i64 c.ai,.int .i64 c.ag,.int .i64 c.ar,.int .i64 c.ax,.bool c.au,.string c.aA]
def btL(c:Bt):List Value:=[.string c.name,.bool c.aS]
def D5(B:Bk)(c1 c2 c3:Nat):List Value:=[.int .i64 B.aj,.iface 0 (.slice none B.af.length c1),.iface 1 (.slice none B.ah.length c2),.iface 2 (.slice none B.ak.length c3)]
def bkM(B:Bk):AY:=[(0,A9 34 13 svL B.af),(1,A9 76 7 cpL B.ah),(2,A9 90 2 btL B.ak)]
def G6:(Nat->Prop)->World->Nat->Nat->Prop:=λ_ _ _ _=>False
theorem Cc{RD:(Nat->Prop)->World->Nat->Nat->Prop}{w0 w:World}{G:Gh}{q i ty sz:Nat}{X:Type}{f:X->List Value}{l:List X}{ao:qO}(hα:G.α i=ao)(M:∀k,k<w.heap.size->G.Z k)(hf:∀x,(f x).all noV=true)
  (h:l≠[]->∃b off,ao=some ⟨b,off,none⟩/\b<w.heap.size/\∀i x,l[i]?=some x->∀j v,(f x)[j]?=some v->w.cell? ⟨b,off+i*sz+j,none⟩=some v):Hold RD w0 G w q i (A9 ty sz f l):=by
 refine⟨λh=>(nomatch h),λ_ j J=>?_,λh=>(nomatch h),λh=>(nomatch h),λh=>(nomatch h),.inr (.inl rfl)⟩;have F:j<l.length:=J;obtain⟨b,off,e,hb,H⟩:=h (λe=>by rw[e]at F;cases F);obtain⟨x,hx⟩:∃x,l[j]?=some x:=⟨l[j],by simp⟩;exact⟨b,off,f x,hα.trans e,M b hb,λk hk=>hk x hx,λy v hv=>⟨H j x hx y v hv,fun β=>F0 (dh.1 (hf x) v (AE hv)) β⟩,λ_ _=>trivial⟩
def gh3(w:World)(a1 a2 a3:qO):Gh:=⟨λi=>match i with|0=>a1|1=>a2|2=>a3|_=>none,λk=>k<w.heap.size,λ_=>False⟩
theorem EV{RD:(Nat->Prop)->World->Nat->Nat->Prop}{w:World}{a1 a2 a3:qO}{B:Bk}{q:Nat}(h:BkAt w a1 a2 a3 B):∀i b,lk (bkM B) i=some b->i<64/\Hold RD w (gh3 w a1 a2 a3) w q i b/\¬DQ b/\Clo (bkM B) (b.cs.flatMap Cf):=by
 intro i b hb
 have ak:∀b',(i,b')∈bkM B->b'.kd=1/\b'.cs=[]/\i<64:=λb' W=>by
  simp only[bkM,dy,dH,eP,dw]at W;rcases W with⟨rfl,rfl⟩|⟨rfl,rfl⟩|⟨rfl,rfl⟩<;>exact⟨rfl,rfl,by decide⟩
 have W:=Aj _ _ _ hb;obtain⟨M,h2,Z⟩:=ak b W;refine⟨Z,?_,by unfold DQ;rw[M];decide,by rw[h2];exact λ_ h=>(nomatch h)⟩;simp only[bkM,dy,dH,eP,dw]at W;rcases W with⟨rfl,rfl⟩|⟨rfl,rfl⟩|⟨rfl,rfl⟩
 ·refine Cc (ao:=a1) rfl (λk hk=>hk) (λx=>rfl) λJ=>?_
  obtain⟨b,off,e,H,F⟩:=h.1 J;refine⟨b,off,e,H,λi x hx j v hv=>?_⟩;obtain⟨Y,M,h2,Z,h4,h5,h6,h7,h8,h9,an,ag,ai⟩:=F i x hx
  match j,hv with
  |0,hv=>rw[<-dg hv];exact Y
  |1,hv=>rw[<-dg hv];exact M
  |2,hv=>rw[<-dg hv];exact h2
  |3,hv=>rw[<-dg hv];exact Z
  |4,hv=>rw[<-dg hv];exact h4
  |5,hv=>rw[<-dg hv];exact h5
  |6,hv=>rw[<-dg hv];exact h6
  |7,hv=>rw[<-dg hv];exact h7
  |8,hv=>rw[<-dg hv];exact h8
  |9,hv=>rw[<-dg hv];exact h9
  |10,hv=>rw[<-dg hv];exact an
  |11,hv=>rw[<-dg hv];exact ag
  |12,hv=>rw[<-dg hv];exact ai
  |k+13,hv=>cases hv
 ·refine Cc (ao:=a2) rfl (λk hk=>hk) (λx=>rfl) λJ=>?_
  obtain⟨b,off,e,H,F⟩:=h.2.1 J;refine⟨b,off,e,H,λi x hx j v hv=>?_⟩;obtain⟨Y,M,h2,Z,h4,h5,h6⟩:=F i x hx
  match j,hv with
  |0,hv=>rw[<-dg hv];exact Y
  |1,hv=>rw[<-dg hv];exact M
  |2,hv=>rw[<-dg hv];exact h2
  |3,hv=>rw[<-dg hv];exact Z
  |4,hv=>rw[<-dg hv];exact h4
  |5,hv=>rw[<-dg hv];exact h5
  |6,hv=>rw[<-dg hv];exact h6
  |k+7,hv=>cases hv
 ·refine Cc (ao:=a3) rfl (λk hk=>hk) (λx=>rfl) λJ=>?_
  obtain⟨b,off,e,H,F⟩:=h.2.2 J;refine⟨b,off,e,H,λi x hx j v hv=>?_⟩;obtain⟨Y,M⟩:=F i x hx
  match j,hv with
  |0,hv=>rw[<-dg hv];exact Y
  |1,hv=>rw[<-dg hv];exact M
  |k+2,hv=>cases hv
theorem DL:B9 G6:=λ_ _ _ _ _ _ _ h=>h.elim
def An(ty sz cp:Nat){X:Type}(f:X->List Value)(l:List X):VB:=⟨3,ty,sz,l.length,cp,[],λi k=>∀x,l[i]?=some x->k (f x),λ_ _=>True⟩
def rdB:VB:=⟨4,0,0,0,0,[],λ_ _=>True,λ_ _=>True⟩
def GB:Option VB->VB
 |some b=>bif Nat.beq b.kd 1||Nat.beq b.kd 3 then⟨1,b.ty,b.sz,b.n,0,[],b.Q,b.E⟩ else bif Nat.beq b.kd 4 then rdB else LU
 |none=>LU
def P4:List Nat->Nat->List (Nat × Nat)
 |[],_=>[]
 |i::r,j=>(i,j)::P4 r (j+1)
def MS(es:AY):List Nat->Nat->AY
 |[],_=>[]
 |i::r,j=>(j,GB (lk es i))::MS es r (j+1)
def can(vs:qL)(es:AY):List Value × AY:=(vs.map (rn1 (P4 (vs.flatMap BS) 0)),MS es (vs.flatMap BS) 0)
def rn2(ρ:List (Nat × Nat)):Value->Value
 | .tuple cs=>.tuple (cs.toList.map (rn1 ρ)).toArray
 |v=>rn1 ρ v
def up0(f:Nat->Nat):Value->Value
 | .complex k i o=>.complex k (f i) o
 | .iface i (.slice a n c)=>.iface (f i) (.slice a n c)
 | .iface i (.pointer (some p))=>.iface (f i) (.pointer (some p))
 |v=>v
def up1(f:Nat->Nat):Value->Value
 | .agg cs=>.agg (cs.toList.map (up0 f)).toArray
 |v=>up0 f v
def up2(f:Nat->Nat):Value->Value
 | .tuple cs=>.tuple (cs.toList.map (up1 f)).toArray
 |v=>up1 f v
def upE(d:Nat):AY->AY
 |[]=>[]
 |(i,b)::r=>(d+i,b)::upE d r
def newB:AY->Bool
 |[]=>true
 |(i,b)::r=>Nat.ble (i+1) 8&&Nat.beq b.kd 3&&b.cs.isEmpty&&newB r
def outB(J:Nat)(es:AY)(v:Value):Bool:=newB es&&(BS v).all λi=>(lk es i).isSome||(Nat.ble 8 i&&Nat.ble (i - 7) J)
def argR(ρ:List (Nat × Nat)):Nat->Bool
 |0=>true
 |j+1=>Nat.beq (rnI ρ (8+j)) j&&argR ρ j
def argM:Nat->AY->Bool
 |0,_=>true
 |j+1,(_,b)::r=>Nat.beq b.kd 1&&argM j r
 |_+1,[]=>false
def upF(J id:Nat)(I:List Nat):Nat->Nat:=match J with
 |0=>λx=>id+x
 |_+1=>λx=>bif Nat.ble 8 x then I.getD (x - 8) 0 else id+x
def ctW(J:Nat){α:Type}(A:α->List Value)(M:α->AY)(Pre:α->Prop)(Out:α->Value->AY->Prop):Ct:=λvs es id k=>
 ∃p,can vs es=(A p,M p)/\Pre p/\∀v es',Out p v es'->k (up2 (upF J id (vs.flatMap BS)) v) (upE id es')
def ctV{α:Type}(A:α->List Value)(M:α->AY)(Pre:α->Prop)(Out:α->Value->AY->Prop):Ct:=λvs es id k=>
 ∃p,can vs es=(A p,M p)/\Pre p/\∀v es',Out p v es'->k (up2 (id+ ·) v) (upE id es')
def freeE:AY->Prop
 |[]=>True
 |(_,b)::r=>(∀W el,b.E W el)/\freeE r
def Oc(J:Nat)(Out:Value->AY->Prop):Value->AY->Nat->Prop:=λv0 m _=>∃v es ρ,Out v es/\v0=rn2 ρ v/\SJ ρ m es/\(SD ρ (Oe es)&&argR ρ J)=true/\outB J es v=true/\freeE es
abbrev Ep:=Oc 0
def endJ(J:Nat)(tt:List TE)(rs:List ResultVar)(Out:Value->AY->Prop):Exit->St->Prop:=λe s=>
 (e=.ret\/e=.normal)/\∃v0,Lz tt rs s.t s.m=some v0/\Oc J Out v0 s.m s.q/\clo s.m (BS v0)=true
abbrev endV:=endJ 0
def okA(A:qL)(M:AY)(nt:Nat)(r:Bool:=false):Bool:=Nat.ble A.length nt&&A.all FB&&M.all (λq=>Nat.ble (q.1+1) 64&&(r|| !Nat.beq q.2.kd 4))&&clo M (A.flatMap BS)
theorem RG:∀(I:List Nat) (s i:Nat),i∈I->∃j,lk (P4 I s) i=some (s+j)/\I[j]?=some i
 |[],_,_,h=>by cases h
 |x::r,s,i,h=>by
  by_cases e:x=i
  ·subst e;exact⟨0,Ad _ _ _,rfl⟩
  ·obtain⟨j,F,H⟩:=RG r (s+1) i (by rcases dy.1 h with h|h;exact absurd h.symm e;exact h)
   exact⟨j+1,(At e _ _).trans (by rw[F];congr 1;omega),H⟩
theorem OW(es:AY):∀(I:List Nat) (s F:Nat) (b:VB),lk (MS es I s) F=some b->∃j i,F=s+j/\I[j]?=some i/\b=GB (lk es i)
 |[],_,_,_,h=>by cases h
 |x::r,s,F,b,h=>by
  unfold MS at h
  by_cases e:s=F
  ·subst e;rw[Ad]at h;exact⟨0,x,rfl,rfl,(dg h).symm⟩
  ·rw[At e]at h
   obtain⟨j,i,M,H,J⟩:=OW es r (s+1) F b h;exact⟨j+1,i,by omega,H,J⟩
theorem MR(es:AY):∀(I:List Nat) (s J:Nat),argM J (MS es I s)=true->∀j,j<J->∃i b,I[j]?=some i/\lk es i=some b
 |[],_,0,_,_,H=>by omega
 |[],_,_+1,h,_,_=>by cases h
 |_::_,_,0,_,_,H=>by omega
 |i::r,s,J+1,h,j,H=>by
  unfold MS argM at h;simp only[cY]at h
  match j with
  |0=>cases F:lk es i with
   |none=>rw[F]at h;cases h.1
   |some b=>exact⟨i,b,rfl,F⟩
  |j+1=>exact MR es r (s+1) J h.2 j (by omega)
theorem Rj{ρ:List (Nat × Nat)}:∀(J:Nat),argR ρ J=true->∀j,j<J->rnI ρ (8+j)=j
 |0,_,_,h=>by omega
 |J+1,h,j,F=>by
  unfold argR at h;simp only[cY]at h
  by_cases e:j=J
  ·subst e;exact cX h.1
  ·exact Rj J h.2 j (by omega)
theorem rn2_r(ρ:List (Nat × Nat))(α:Nat->Option Addr)(v:Value):r2 (λi=>α (rnI ρ i)) v=r2 α (rn2 ρ v):=by
 cases v with
 |tuple cs=>
  show Value.tuple _=Value.tuple _
  congr 1
  apply i5;simp only[eJ,gw];refine fj λv hv=>?_
  clear hv
  cases v with
  |agg cs=>
   show Value.agg _=Value.agg _
   congr 1
   apply i5;simp only[eJ,gw];exact fj λv _=>rn0_r ρ α v
  |tuple _=>rfl
  |iface i u=>cases u<;>first|rfl|(rename_i p;cases p<;>rfl)
  |_=>rfl
 |_=>exact rn1_r ρ α _ rfl
theorem up0_r(f:Nat->Nat)(α:Nat->Option Addr)(v:Value):r0 (λi=>α (f i)) v=r0 α (up0 f v):=by
 cases v with
 |iface i u=>cases u<;>first|rfl|(rename_i p;cases p<;>rfl)
 |_=>rfl
theorem up1_r(f:Nat->Nat)(α:Nat->Option Addr)(v:Value):r1 (λi=>α (f i)) v=r1 α (up1 f v):=by
 cases v with
 |agg cs=>
  show Value.agg _=Value.agg _
  congr 1
  apply i5;simp only[eJ,gw];exact fj λv _=>up0_r f α v
 |iface i u=>cases u<;>first|rfl|(rename_i p;cases p<;>rfl)
 |_=>rfl
theorem up2_r(f:Nat->Nat)(α:Nat->Option Addr)(v:Value):r2 (λi=>α (f i)) v=r2 α (up2 f v):=by
 cases v with
 |tuple cs=>
  show Value.tuple _=Value.tuple _
  congr 1
  apply i5;simp only[eJ,gw];exact fj λv _=>up1_r f α v
 |agg cs=>exact up1_r f α (.agg cs)
 |iface i u=>cases u<;>first|rfl|(rename_i p;cases p<;>rfl)
 |_=>rfl
theorem up0_ids(f:Nat->Nat)(v:Value):Cf (up0 f v)=(Cf v).map f:=by
 cases v with
 |iface i u=>cases u<;>first|rfl|(rename_i p;cases p<;>rfl)
 |_=>rfl
theorem O6{f:Value->List Nat}{g:Value->Value}{d:Nat->Nat}(h:∀v,f (g v)=(f v).map d)(cs:qL):(cs.map g).flatMap f=(cs.flatMap f).map d:=by
 induction cs with
 |nil=>rfl
 |cons x r F=>rw[dz,eI,eI,gt,h,F]
theorem Qv(f:Nat->Nat)(v:Value):Oz (up1 f v)=(Oz v).map f:=by
 cases v with
 |agg cs=>show((cs.toList.map (up0 f)).toArray).toList.flatMap Cf=_;rw[gN];exact O6 (up0_ids f) _
 |iface i u=>cases u<;>first|rfl|(rename_i p;cases p<;>rfl)
 |_=>rfl
theorem up2_ids(f:Nat->Nat)(v:Value):BS (up2 f v)=(BS v).map f:=by
 cases v with
 |tuple cs=>show((cs.toList.map (up1 f)).toArray).toList.flatMap Oz=_;rw[gN];exact O6 (Qv f) _
 |agg cs=>exact Qv f (.agg cs)
 |iface i u=>cases u<;>first|rfl|(rename_i p;cases p<;>rfl)
 |_=>rfl
theorem Ge(d:Nat):∀(es:AY) (i:Nat) (b:VB),(i,b)∈upE d es->∃x,i=d+x/\(x,b)∈es
 |[],_,_,h=>by cases h
 |(x,c)::r,i,b,h=>by
  rcases dy.1 h with e|h
  ·cases e;exact⟨x,rfl,dK⟩
  ·obtain⟨y,F,H⟩:=Ge d r i b h;exact⟨y,F,dN _ H⟩
theorem upE_lk(d:Nat):∀(es:AY) (x:Nat) (b:VB),lk es x=some b->lk (upE d es) (d+x)=some b
 |[],_,_,h=>by cases h
 |(y,c)::r,x,b,h=>by
  by_cases e:y=x
  ·subst e;rw[Ad]at h;cases h;exact Ad _ _ _
  ·rw[At e]at h;exact(At (by omega) _ _).trans (upE_lk d r x b h)
theorem LB:∀(es:AY),newB es=true->∀i b,(i,b)∈es->i<8/\b.kd=3/\b.cs=[]
 |[],_,_,_,h=>by cases h
 |(x,c)::r,F,i,b,h=>by
  unfold newB at F;simp only[cY]at F;rcases dy.1 h with e|h
  ·cases e;exact⟨AD F.1.1.1,cX F.1.1.2,List.isEmpty_iff.1 F.1.2⟩
  ·exact LB r F.2 i b h
theorem Ib{ρ:List (Nat × Nat)}{m:AY}:∀(m':AY),SJ ρ m m'->∀i b,(i,b)∈m'->∃b0,lk m (rnI ρ i)=some b0/\LeB ρ b0 b
 |[],_,_,_,h=>by cases h
 |(j,u)::r,F,i,b,h=>by
  rcases dy.1 h with e|h
  ·cases e;exact F.1
  ·exact Ib r F.2 i b h
theorem Ms:∀(es:AY),freeE es->∀i b,(i,b)∈es->∀W el,b.E W el
 |[],_,_,_,h=>by cases h
 |(j,u)::r,F,i,b,h=>by
  rcases dy.1 h with e|h
  ·cases e;exact F.1
  ·exact Ms r F.2 i b h
theorem NQ:∀(m:AY) (i:Nat) (b:VB),(i,b)∈m->DQ b->i∈Oe m
 |[],_,_,h,_=>by cases h
 |(j,u)::r,i,b,h,hk=>by
  unfold Oe;rcases dy.1 h with e|h
  ·cases e;rcases hk with hk|hk<;>(rw[hk];exact dK)
  ·have:=NQ r i b h hk
   cases hb:(Nat.beq u.kd 0||Nat.beq u.kd 3) with
   |true=>exact dN _ this
   |false=>exact this
section
variable {P:Program} {RD:(Nat->Prop)->World->Nat->Nat->Prop} {tt:List TE} {Γ:List (Nat × Nat × Ct)} {w0 w:World} {G:Gh} {q:Nat}
theorem Ec{b:VB}(h:(Nat.beq b.kd 1||Nat.beq b.kd 3)=true):GB (some b)=⟨1,b.ty,b.sz,b.n,0,[],b.Q,b.E⟩:=by
 show(bif (Nat.beq b.kd 1||Nat.beq b.kd 3) then _ else _)=_;rw[h];rfl
theorem OF{b:VB}(h:(Nat.beq b.kd 1||Nat.beq b.kd 3)=false):GB (some b)=bif Nat.beq b.kd 4 then rdB else LU:=by
 show(bif (Nat.beq b.kd 1||Nat.beq b.kd 3) then _ else _)=_;rw[h];rfl
theorem My{i:Nat}:Hold RD w0 G w q i LU:=⟨λh=>(nomatch h),λh=>(nomatch h),λh=>(nomatch h),λh=>(nomatch h),λh=>(nomatch h),.inr (.inr (.inr (.inr (.inr rfl))))⟩
theorem row_hold{i j:Nat}{b:VB}{J:Gh}{w1:World}{q1:Nat}(hb:(Nat.beq b.kd 1||Nat.beq b.kd 3)=true)(h:Hold RD w0 G w q i b)(hz:∀k,G.Z k->k<w.heap.size)(hα:J.α j=G.α i)(Z:∀k,k<w.heap.size->¬G.RB k->J.Z k)(H:∀k,G.Z k->¬G.RB k):Hold RD w1 J w q1 j (GB (some b)):=by
  rw[Ec hb];refine⟨λh=>(nomatch h),λ_ y hy=>?_,λh=>(nomatch h),λh=>(nomatch h),λh=>(nomatch h),.inr (.inl rfl)⟩;have hW:∀W:World,(∀k,J.Z k->W.heap[k]?=w.heap[k]?)->∀k,G.Z k->W.heap[k]?=w.heap[k]?:=λW h k hk=>h k (Z k (hz k hk) (H k hk))
  rcases eN.1 hb with Y|Y
  ·obtain⟨g,o,el,M,e2,e3,e4⟩:=h.k1 (cX Y) y hy
   exact⟨g,o,el,hα.trans M,Z g (hz g e2) (H g e2),e3,e4.1,λW h=>e4.2 W (hW W h)⟩
  ·obtain⟨g,els,M,e2,e3,e4,r1,r2',r3,r4⟩:=h.k3 (cX Y)
   have am:y<b.n:=hy;obtain⟨el,F⟩:∃el,els[y]?=some el:=⟨els[y]'(by omega),by simp⟩;have hl:=r2' el (AE F);refine⟨g,0,el,hα.trans M,Z g r3.lt e4,(r4 y el F).1,λx v hv=>⟨?_,(hl.2 v (AE hv)).2⟩,λW h=>(r4 y el F).2 W (hW W h)⟩;rw[dJ];refine r3.cell ?_;rw[Nf (λe he=>(r2' e he).1) y el F x (by have:=(AC hv).1;rw[hl.1]at this;exact this)];exact hv
end
theorem LV{RD:(Nat->Prop)->World->Nat->Nat->Prop}{w0 w w':World}{G:Gh}{q id cost:Nat}{X:Nat->Prop}{es es':AY}{v:Value}{β:Nat->Option Addr}{f:Nat->Nat}{C:(Value->AY->Prop)->Prop}(hX:∀k,X k->G.RB k)(am:∀g,G.RB g->RD G.Z w g q->RD G.Z w' g (q+cost))(hz:∀k,G.Z k->k<w.heap.size/\¬G.RB k)(Y:∀k,G.RB k->k<w.heap.size)(ai:w0.heap.size<=w.heap.size)(J:Stp X w w')(ah:newB es'=true)
  (Z:∀x b,(x,b)∈es'->∃g els,β x=some ⟨g,0,none⟩/\w.heap.size<=g/\RowK G.Z w' g b els) (aa:∀x b y c,(x,b)∈es'->(y,c)∈es'->x≠y->β x≠β y) (hv:∀x∈BS v,(∃b,lk es' x=some b/\f x=id+x)\/((f x<id\/id+8<=f x)/\β x=G.α (f x)/\∃b,lk es (f x)=some b)) (hC:∀k,C k->k (up2 f v) (upE id es')):
  ∃v1 W G',(∀k,C k->k v1 W)/\Ending.returned (r2 β v)=.returned (r2 G'.α v1)/\GS RD G w q G' w' (q+cost) id/\NewOk RD w0 G' w w' (q+cost) W/\Clo (W++es) (BS v1)/\OkE id (id+8) (W++es) W:=by
 have H:=LB es' ah;obtain⟨G2,F⟩:∃G2:Gh,G2=⟨λi=>if id<=i/\i<id+8 then β (i - id) else G.α i,G.Z,G.RB⟩:=⟨_,rfl⟩;have h2α:∀x,x<8->G2.α (id+x)=β x:=λx hx=>by rw[F];show(if _ then _ else _)=_;rw[dB (by omega),Nat.add_sub_cancel_left]
 refine⟨up2 f v,upE id es',G2,hC,?_,⟨⟨J.os,J.tape,J.output,J.size,λk hk hn=>J.block k hk λh=>hn (hX k h)⟩,λi M=>(by rw[F];exact dC (by omega)),λk hk=>(by rw[F];exact hk),λk hk=>(by rw[F]at hk;exact .inl hk),λk hk=>?_,λk hk=>(by rw[F];exact hk),λk hk=>(by rw[F]at hk;exact .inl hk),λk hk=>?_,λg hg hd=>?_⟩,⟨λi b M=>?_,λi b M ho=>?_,λi b j c M hj hb hc aA=>?_⟩,λi M=>?_,λi b M=>?_⟩
 ·rw[<-up2_r]
  congr 1
  refine IK v λx hx=>?_
  rcases hv x hx with⟨b,hb,e⟩|⟨h1,h2,_⟩
  ·rw[e];exact(h2α x (H x b (Aj _ _ _ hb)).1).symm
  ·rw[h2,F];exact(dC (show ¬(id<=f x/\f x<id+8) from λh=>by omega)).symm
 ·rw[F]at hk ⊢
  exact⟨AF (hz k hk).1 J.size,(hz k hk).2⟩
 ·rw[F]at hk
  exact AF (Y k hk) J.size
 ·rw[F]
  exact am g hg hd
 ·obtain⟨x,rfl,hx⟩:=Ge id es' i b M
  obtain⟨h8,hk,_⟩:=H x b hx;obtain⟨g,els,e1,e2,e3⟩:=Z x b hx;exact⟨λh=>absurd (h.symm.trans hk) (by decide),λh=>absurd (h.symm.trans hk) (by decide),λh=>absurd (h.symm.trans hk) (by decide),λ_=>⟨g,els,(h2α x h8).trans e1,AH ai e2,λh=>(by rw[F]at h;have:=(hz g h).1;omega),λh=>(by rw[F]at h;have:=Y g h;omega),by rw[F];exact e3⟩,λh=>absurd (h.symm.trans hk) (by decide),.inr (.inr (.inr (.inl hk)))⟩
 ·obtain⟨x,rfl,hx⟩:=Ge id es' i b M
  obtain⟨g,els,e1,e2,e3⟩:=Z x b hx;exact⟨g,(h2α x (H x b hx).1).trans e1,e2⟩
 ·obtain⟨x,rfl,hx⟩:=Ge id es' i b M
  obtain⟨y,rfl,hy⟩:=Ge id es' j c hj;rw[h2α x (H x b hx).1,h2α y (H y c hy).1];exact aa x b y c hx hy (by omega)
 ·rw[up2_ids]at M
  obtain⟨x,hx,rfl⟩:=fz.1 M;rcases hv x hx with⟨b,hb,e⟩|⟨_,_,b,hb⟩
  ·exact⟨b,by rw[e,Ba,upE_lk id es' x b hb];rfl⟩
  ·rw[Ba]
   cases lk (upE id es') (f x) with
   |none=>exact⟨b,hb⟩
   |some b'=>exact⟨b',rfl⟩
 ·obtain⟨x,rfl,hx⟩:=Ge id es' i b M
  obtain⟨h8,_,al⟩:=H x b hx;exact⟨by omega,by omega,by rw[al];exact λ_ h=>(nomatch h)⟩
theorem Ld{RD:(Nat->Prop)->World->Nat->Nat->Prop}(hR:B9 RD){w0 w:World}{G:Gh}{q q' nt:Nat}{r:Bool}{X:Nat->Prop}{vs A:qL}{es M:AY}(hX:∀k,X k->G.RB k)(hr:r=true->X=G.RB/\q'=q)(hz:∀k,G.Z k->k<w.heap.size/\¬G.RB k)(au:∀i b,(i,b)∈es->Hold RD w0 G w q i b)(J:can vs es=(A,M))(ho:okA A M nt r=true):
  ∃H:Gh,A.map (r2 H.α)=vs.map (r2 G.α)/\(∀k,H.Z k->k<w.heap.size/\¬H.RB k)/\H.RB=X/\(∀j i,(vs.flatMap BS)[j]?=some i->H.α j=G.α i)/\∀j b,lk M j=some b->j<64/\Hold RD w H w q' j b/\¬DQ b/\Clo M (b.cs.flatMap Cf):=by
 unfold can at J;simp only[dw]at J;obtain⟨W,aa⟩:=J;unfold okA at ho;simp only[cY]at ho;obtain⟨⟨⟨o1,o2⟩,o3⟩,o4⟩:=ho;obtain⟨I,Y⟩:∃I,vs.flatMap BS=I:=⟨_,rfl⟩;rw[Y]at W aa;obtain⟨H,F⟩:∃H:Gh,H=⟨λj=>match I[j]? with|some i=>G.α i|none=>none,λk=>k<w.heap.size/\¬X k,X⟩:=⟨_,rfl⟩
 have hα:∀i∈I,H.α (rnI (P4 I 0) i)=G.α i:=λi hi=>by
  obtain⟨j,h1,h2⟩:=RG I 0 i hi;unfold rnI;rw[h1,F,dJ];simp only[h2]
 refine⟨H,?_,λk hk=>by rw[F]at hk ⊢;exact hk,by rw[F],λj i hj=>by rw[F,Y]at *;simp only[hj],λj b hb=>?_⟩
 ·rw[<-W,gw]
  refine fj λv hv=>?_
  have an:FB v=true:=by
   have:=dh.1 o2 (rn1 (P4 I 0) v) (W▸fy hv);cases v<;>first|rfl|cases this
  show r2 H.α (rn1 (P4 I 0) v)=_;rw[<-rn1_r _ _ v an];exact IK (β:=λi=>H.α (rnI (P4 I 0) i)) (α:=G.α) v λi hi=>hα i (Y▸dR.2 ⟨v,hv,hi⟩)
 ·obtain⟨y,i,h1,h2,h3⟩:=OW es I 0 j b (aa▸hb)
  rw[dJ]at h1;subst h1;have Z:=dh.1 o3 _ (Aj _ _ _ hb);simp only[cY,dY,eR]at Z
  have key:b.cs=[]/\¬DQ b/\Hold RD w H w q' j b:=by
   rw[h3]
   cases hl:lk es i with
   |none=>exact⟨rfl,(λh=>by rcases h with h|h<;>cases h),My⟩
   |some b'=>
    have af:=au i b' (Aj _ _ _ hl)
    cases hk:(Nat.beq b'.kd 1||Nat.beq b'.kd 3) with
    |true=>exact⟨by rw[Ec hk],(by rw[Ec hk];exact λh=>by rcases h with h|h<;>cases h),row_hold hk af (λk hk=>(hz k hk).1) (by rw[F];simp only[h2]) (λk hk hn=>by rw[F];exact⟨hk,λh=>hn (hX k h)⟩) (λk hk=>(hz k hk).2)⟩
    |false=>
     rw[OF hk]
     cases h4:Nat.beq b'.kd 4 with
     |false=>exact⟨rfl,(λh=>by rcases h with h|h<;>cases h),My⟩
     |true=>
      have aq:r=true:=Z.2.elim id λh=>by
       rw[h3,hl,OF hk,h4]at h;cases h
      obtain⟨ag,ay⟩:=hr aq;obtain⟨g,e1,e2,e3⟩:=af.k4 (cX h4);refine⟨rfl,(λh=>by rcases h with h|h<;>cases h),⟨λh=>(nomatch h),λh=>(nomatch h),λh=>(nomatch h),λh=>(nomatch h),λ_=>⟨g,by rw[F];simp only[h2];exact e1,by rw[F,ag];exact e2,hR _ _ _ _ _ _ _ e3 (λk hk=>by rw[F,ag];exact hz k hk) rfl (λ_ _=>rfl) (by omega)⟩,.inr (.inr (.inr (.inr (.inl rfl))))⟩⟩
  exact⟨AD Z.1,key.2.2,key.2.1,by rw[key.1];exact λ_ h=>(nomatch h)⟩
def RDpin(RD:(Nat->Prop)->World->Nat->Nat->Prop):Prop:=∀(Z Z':Nat->Prop) (w w':World) (g g' q q':Nat),RD Z w g q->RD Z' w' g' q'->RD Z w' g q'
def postRJ(J:Nat)(r:Bool)(Out:Value->AY->Prop)(Q:Nat)(v:Value)(m:AY)(q:Nat):Prop:=match r with
 |true=>Oc J Out v m q/\q<=Q/\∃i,lk m i=some rdB
 |false=>Oc J Out v m q
def endRJ(J:Nat)(r:Bool)(tt:List TE)(rs:List ResultVar)(Out:Value->AY->Prop)(Q:Nat):Exit->St->Prop:=λe s=>
 (e=.ret\/e=.normal)/\∃v0,Lz tt rs s.t s.m=some v0/\postRJ J r Out Q v0 s.m s.q/\clo s.m (BS v0)=true
abbrev endR:=endRJ 0
theorem QS{P:Program}{RD:(Nat->Prop)->World->Nat->Nat->Prop}{tt:List TE}{Γ:List (Nat × Nat × Ct)}{Ρ:Sp}(E:Env P RD tt Γ)(J:Nat)(bz:J<=8)(r:Bool)(cost:Nat)(h0:r=true->cost≠0)(hP:r=true->RDpin RD){f:Nat}{fn:Func}{c:Code}(hf:P.funcs[f]?=some fn)(hb:fn.body=some c)(hD:CA P RD tt Γ Ρ fn.ntmps c)
  {α:Type} {A:α->List Value} {M:α->AY} {aA:α->Prop} {al:α->Value->AY->Prop} (hA:∀p,okA (A p) (M p) fn.ntmps r=true) (hJ:∀p,argM J (M p)=true) (hI:∀p p',A p=A p'->M p=M p'->p=p')
  (hv:∀p q,aA p->(r=true->q+cost<=QM)->(r=false->q=0)->vw tt Γ Ρ c (endRJ J r tt fn.results.toList (al p) (q+cost)) ⟨EM 0 (A p),M p,64,q⟩):B7 P RD f cost (ctW J A M aA al):=by
 intro w0 G w q id vs es k0 hz am a4 aL aH hQ hC;obtain⟨p,ag,az,_⟩:=hC;obtain⟨G0,aq,a5,ay,hα0,hM⟩:=Ld (q':=bif r then q else 0) E.rd (X:=λk=>r=true/\G.RB k) (λk h=>h.2) (λh=>⟨by funext k;simp[h],by rw[h];rfl⟩) hz aL ag (hA p);have ho:=hA p;unfold okA at ho;simp only[cY]at ho;have ah:=Pf (R0:=⟨λk=>r=true/\G.RB k,G0.α,0⟩) (G:=G0) (w:=w) (q0:=bif r then q else 0) E hf hb hD (AD ho.1.1.1) (Post:=λv m q'=>postRJ J r (al p) ((bif r then q else 0)+cost) v m q') (hv p _ az (λh=>by rw[h];exact hQ.resolve_left (h0 h)) (λh=>by rw[h];rfl)) hM (Cz ho.2) (AG _) a5 (λk hk=>by rw[ay]at hk;exact hk) (λk hk=>by rw[ay]at hk;exact am k hk.2);rw[aq]at ah;refine ah.mono ?_;rintro e w' ⟨v0,m,q',G',F,rfl,hH,_,aE,bm,aF,aG,_⟩
 have aS:r=true->q'<=q+cost/\∃i,lk m i=some rdB:=λh=>by
  subst h;exact F.2
 have F:Oc J (al p) v0 m q':=by
  cases r with
  |true=>exact F.1
  |false=>exact F
 obtain⟨v,Z,ρ,aw,rfl,au,ai,aa,ar⟩:=F;unfold outB at aa;simp only[cY]at aa ai;have af:∀i b,(i,b)∈Z->i<8/\b.kd=3/\b.cs=[]:=LB Z aa.1;rw[<-rn2_r];refine LV (X:=λk=>r=true/\G.RB k) (λk h=>h.2) (λg hg hd=>?_) hz am a4 aE aa.1 (λx b hx=>?_) (λx b y c hx hy aT=>?_) (f:=upF J id (vs.flatMap BS)) (λx hx=>?_) λk hk=>?_
 ·cases r with
  |true=>
   obtain⟨hq,i,hi⟩:=aS rfl;obtain⟨g',_,_,e3⟩:=(hH i rdB hi).k4 rfl;exact E.rd _ _ _ _ _ _ _ (hP rfl _ _ _ _ _ _ _ _ hd e3) (λ_ h=>h) rfl (λ_ _=>rfl) hq
  |false=>
   have hb:∀k,k<w.heap.size->w'.heap[k]?=w.heap[k]?:=λk hk=>aE.block k hk λh=>(nomatch h.1)
   exact E.rd _ _ _ _ _ _ _ hd (λ_ h=>h) (hb g (am g hg)) (λk hk=>hb k (hz k hk).1) (gQ _ _)
 ·obtain⟨b0,an,Y⟩:=Ib Z au x b hx
  obtain⟨_,hk,_⟩:=af x b hx;obtain⟨g,els,e1,e2,_,_,r1,r2',r3,r4⟩:=(hH _ b0 an).k3 (Y.kd.trans hk);obtain⟨n1,n2⟩:=Y.n3 hk;refine⟨g,els,e1,e2,r1.trans n1,λel aM=>(by rw[<-Y.sz];exact r2' el aM),(by rw[<-Y.ty,<-Y.sz,<-n1,<-n2];exact r3),λj el hj=>⟨λk hk=>(r4 j el hj).1 k (Y.Q j ?_ k hk),λW _=>Ms Z ar x b hx W el⟩⟩;have:=(AC hj).1;omega
 ·obtain⟨b0,an,Y⟩:=Ib Z au x b hx
  obtain⟨c0,aK,aC⟩:=Ib Z au y c hy;have hb:=(af x b hx).2.1;have hc:=(af y c hy).2.1;exact aF _ b0 _ c0 an aK (.inr (Y.kd.trans hb)) (.inr (aC.kd.trans hc)) (Nc _ ai.1 x y (NQ _ _ _ hx (.inr hb)) (NQ _ _ _ hy (.inr hc)) aT)
 ·have ho:=dh.1 aa.2 x hx
  cases hl:lk Z x with
  |some b=>
   refine .inl ⟨b,rfl,?_⟩;have h8:=(af x b (Aj _ _ _ hl)).1
   cases J with
   |zero=>rfl
   |succ J=>show(bif Nat.ble 8 x then _ else _)=_;rw[show Nat.ble 8 x=false from by cases h:Nat.ble 8 x with|false=>rfl|true=>have:=AD h;omega];rfl
  |none=>
   rw[hl]at ho;simp only[Option.isSome_none,ir,cY]at ho;have h8:=AD ho.1;have h7:=AD ho.2;obtain⟨i,b,h1,h2⟩:=MR es (vs.flatMap BS) 0 J (by have h:=hJ p;have hc:=ag;unfold can at hc;simp only[dw]at hc;rw[<-hc.2]at h;exact h) (x - 8) (by omega)
   have hf:upF J id (vs.flatMap BS) x=i:=by
    cases J with
    |zero=>omega
    |succ J=>show(bif Nat.ble 8 x then _ else _)=_;rw[ho.1,eD,List.getD_eq_getElem?_getD,h1];rfl
   rw[hf];refine .inr ⟨aH i b (Aj _ _ _ h2),?_,b,h2⟩;show G'.α (rnI ρ x)=_;have h3:=Rj J ai.2 (x - 8) (by omega);rw[show 8+(x - 8)=x by omega]at h3;rw[h3,aG _ (by omega)];exact hα0 _ _ h1
 ·obtain⟨p',H,_,hk⟩:=hk
  rw[ag]at H;simp only[dw]at H;have:=hI p p' H.1 H.2;subst this;exact hk v Z aw
theorem ct_vc{P:Program}{RD:(Nat->Prop)->World->Nat->Nat->Prop}{tt:List TE}{Γ:List (Nat × Nat × Ct)}{Ρ:Sp}(E:Env P RD tt Γ){f:Nat}{fn:Func}{c:Code}(hf:P.funcs[f]?=some fn)(hb:fn.body=some c)(hD:CA P RD tt Γ Ρ fn.ntmps c)
  {α:Type} {A:α->List Value} {M:α->AY} {F:α->Prop} {H:α->Value->AY->Prop} (W:∀p,okA (A p) (M p) fn.ntmps=true) (Z:∀p J,A p=A J->M p=M J->p=J)
  (hv:∀p,F p->vw tt Γ Ρ c (endV tt fn.results.toList (H p)) ⟨EM 0 (A p),M p,64,0⟩):B7 P RD f 0 (ctV A M F H):=
 QS E 0 (AI _) false 0 (λh=>nomatch h) (λh=>nomatch h) hf hb hD W (λ_=>rfl) Z λp q Y _ hq=>by
  rw[hq rfl];exact hv p Y
abbrev VOK:=Nat->Tm->AY->(Tm->AY->Prop)->Prop
def vOs(tt:List TE)(Γ:List (Nat × Nat × Ct))(ops:List Oper)(c:Nat)(o:Oper)(ih:VOK):VOK:=λj t m k=>
  match DR ops t o with
  |some false=>ih (j+1) (ER o.dst (.tuple #[]) t) m k
  |some true=>match evs t (BT o.op) with
   |some vs=>match stv tt o.op vs m with
    |some m'=>QI m'.2 λm'=>ih (j+1) (ER o.dst (.tuple #[]) t) m' k
    |none=>match rwg tt (c+8*j) o.op vs m with
     |some T=>T λv m'=>QI m' λm'=>ih (j+1) (ER o.dst v t) m' k
     |none=>opg tt Γ (c+8*j) o.op vs (Fa m (vs.flatMap BS)) λv es=>ih (j+1) (ER o.dst v t) (es++m) k
   |none=>False
  |none=>False
def vOr(tt:List TE)(Γ:List (Nat × Nat × Ct))(ops:List Oper)(c:Nat)(l:List Oper):VOK:=
 List.rec (motive:=λ_=>VOK) (λ_ t m k=>k t m) (λo _ ih=>vOs tt Γ ops c o ih) l
theorem M8(tt:List TE)(Γ:List (Nat × Nat × Ct))(ops:List Oper)(c:Nat):∀l:List Oper,vOr tt Γ ops c l=vO tt Γ ops c l
 |[]=>rfl
 |o::r=>(show vOs tt Γ ops c o (vOr tt Γ ops c r)=vOs tt Γ ops c o (vO tt Γ ops c r) from em _ (M8 tt Γ ops c r)).trans (by
   funext j t m k
   rw[vO]
   rfl)
def vRr(tt:List TE)(Γ:List (Nat × Nat × Ct))(ops:List Oper)(s:St)(k:St->Prop):Prop:=
 let X:=vOr tt Γ ops s.c ops 0 s.t s.m λt m=>k ⟨t,m,s.c+8*ops.length,s.q+Au Γ ops⟩
 bif Nat.beq (Au Γ ops) 0 then X else s.q+Au Γ ops<=QM/\X
theorem vRr_eq(tt:List TE)(Γ:List (Nat × Nat × Ct))(ops:List Oper)(s:St)(k:St->Prop):vRr tt Γ ops s k=vR tt Γ ops s k:=by
 unfold vRr vR;rw[M8]
abbrev VWK:=(Exit->St->Prop)->St->Prop
def vwr(tt:List TE)(Γ:List (Nat × Nat × Ct))(Ρ:Sp)(c:Code):VWK:=
 Code.rec (motive:=λ_=>VWK) (λQ s=>Q .normal s)
  (λi ops _ Q s=>match lk Ρ i with
   |some C=>C s (Q .normal)
   |none=>vRr tt Γ ops.toList s (Q .normal))
  (λ_ _ a b Q s=>a (λe s=>match e with| .normal=>b Q s|e=>Q e s) s)
  (λc _ _ x y Q s=>match evo s.t c with
   |some (.bool true)=>x Q s
   |some (.bool false)=>y Q s
   |_=>False)
  (λi _ c Q s=>c (λe s=>match e with| .exit j=>bif Nat.beq i j then Q .normal s else Q (.exit j) s|e=>Q e s) s)
  (λ_ c Q s=>∃(I:Nat->St->Prop) (n:Nat),(∃s',Ent s s'/\I n s')/\∀n s,I n s->c (λe s=>match e with| .normal=>∃n',n'<n/\∃s',Ent s s'/\I n' s'|e=>Q e s) s)
  (λ_ _ _ _ _ _ _ _=>False) (λi Q s=>Q (.exit i) s) (λ_ _ _ _=>False) (λ_ _ _=>False) (λ_ _ _=>False) (λQ s=>Q .ret s) (λ_ _ _=>False) c
theorem Ff(tt:List TE)(Γ:List (Nat × Nat × Ct))(Ρ:Sp)(c:Code):∀Q s,vwr tt Γ Ρ c Q s=vw tt Γ Ρ c Q s:=by
 induction c with
 |region i H d=>intro Q s;rw[vw];show(match lk Ρ i with|some C=>C s (Q .normal)|none=>vRr tt Γ H.toList s (Q .normal))=_;simp only[vRr_eq];rfl
 |seq a b F J=>
  intro Q s;rw[vw,<-F];show vwr tt Γ Ρ a _ s=_
  congr 1
  funext e s'
  cases e<;>first|exact J Q s'|rfl
 |cond c a b F J=>
  intro Q s;rw[vw,<-F,<-J];rfl
 |block i a F=>intro Q s;rw[vw,<-F];rfl
 |loop a F=>
  intro Q s;rw[vw];simp only[<-F];rfl
 |_=>intros;rfl
section
variable {RD:(Nat->Prop)->World->Nat->Nat->Prop}
theorem Ci{Γ:List (Nat × Nat × Ct)}(E:Env Tryz.prog RD TT Γ){f:Nat}{fn:Func}(hf:Tryz.prog.funcs[f]?=some fn)(hb:fn.body.isSome=true)(Y:E4 [] fn.ntmps (fn.body.getD .skip)=true){α:Type}{A:α->List Value}{M:α->AY}{F:α->Prop}{H:α->Value->AY->Prop}
  (W:∀p,okA (A p) (M p) fn.ntmps=true) (hI:∀p J,A p=A J->M p=M J->p=J) (hv:∀p,F p->vwr TT Γ [] (fn.body.getD .skip) (endV TT fn.results.toList (H p)) ⟨EM 0 (A p),M p,64,0⟩):B7 Tryz.prog RD f 0 (ctV A M F H):=
 ct_vc E hf (show fn.body=some (fn.body.getD .skip) from by cases h:fn.body with|none=>rw[h]at hb;cases hb|some _=>rfl) (CL E (by kernel_rfl) _ (.nil _) Y) W hI λp Z=>by
  rw[<-Ff];exact hv p Z
theorem QR(J:Nat)(W:J<=8){Γ:List (Nat × Nat × Ct)}{Ρ:Sp}(E:Env Tryz.prog RD TT Γ){f:Nat}{fn:Func}(hf:Tryz.prog.funcs[f]?=some fn)(hb:fn.body.isSome=true)(hS:SpAll Tryz.prog RD Ρ fn.ntmps (fn.body.getD .skip))(hc:E4 Ρ fn.ntmps (fn.body.getD .skip)=true){α:Type}{A:α->List Value}{M:α->AY}{F:α->Prop}{H:α->Value->AY->Prop}
  (Z:∀p,okA (A p) (M p) fn.ntmps=true) (hJ:∀p,argM J (M p)=true) (hI:∀p Y,A p=A Y->M p=M Y->p=Y) (hv:∀p,F p->vwr TT Γ Ρ (fn.body.getD .skip) (endJ J TT fn.results.toList (H p)) ⟨EM 0 (A p),M p,64,0⟩):B7 Tryz.prog RD f 0 (ctW J A M F H):=
 QS E J W false 0 (λh=>nomatch h) (λh=>nomatch h) hf (show fn.body=some (fn.body.getD .skip) from by cases h:fn.body with|none=>rw[h]at hb;cases hb|some _=>rfl) (CL E (by kernel_rfl) _ hS hc) Z hJ hI λp q hp _ hq=>by
  rw[hq rfl,<-Ff];exact hv p hp
theorem JM{Γ:List (Nat × Nat × Ct)}{Ρ:Sp}(E:Env Tryz.prog RD TT Γ)(hP:RDpin RD)(cost:Nat)(h0:cost≠0){f:Nat}{fn:Func}(hf:Tryz.prog.funcs[f]?=some fn)(hb:fn.body.isSome=true)(hS:SpAll Tryz.prog RD Ρ fn.ntmps (fn.body.getD .skip))(Y:E4 Ρ fn.ntmps (fn.body.getD .skip)=true){α:Type}{A:α->List Value}{M:α->AY}{F:α->Prop}{H:α->Value->AY->Prop}
  (W:∀p,okA (A p) (M p) fn.ntmps true=true) (hI:∀p J,A p=A J->M p=M J->p=J) (hv:∀p q,F p->q+cost<=QM->vwr TT Γ Ρ (fn.body.getD .skip) (endR true TT fn.results.toList (H p) (q+cost)) ⟨EM 0 (A p),M p,64,q⟩):B7 Tryz.prog RD f cost (ctV A M F H):=
 QS E 0 (AI _) true cost (λ_=>h0) (λ_=>hP) hf (show fn.body=some (fn.body.getD .skip) from by cases h:fn.body with|none=>rw[h]at hb;cases hb|some _=>rfl) (CL E (by kernel_rfl) _ hS Y) W (λ_=>rfl) hI λp q Z hq _=>by
  rw[<-Ff];exact hv p q Z (hq rfl)
end
end
end Go.Proofs.YtbceafpodamnfaaGreatDoor
