import Derived.Test.YtbceafpodamnfaaGreatDoorG09
import Derived.Laws.StructEq
set_option linter.all false
set_option maxHeartbeats 4000000
set_option maxRecDepth 100000
namespace Go.Proofs.YtbceafpodamnfaaGreatDoor
section
open Go.RowKit
def isW:Op->Bool
 | .store ..=>true
 | .call ⟨.builtin .append,_,_⟩=>true
 |_=>false
def gnFrom:List Oper->Nat
 |[]=>0
 |o::r=>bif isW o.op then 0 else gnFrom r+1
def gn(l:List Oper):Nat:=Nat.min (gnFrom l) (l.length - 1)
def FG(Ρ:Sp)(nt:Nat):Code->Bool
 | .region i ops d=>(lk Ρ i).isSome||Pg nt ops.toList&&(!d||(Ax ops (gn ops.toList)&&locB ops.toList (gn ops.toList)))
 | .seq x y=>FG Ρ nt x&&FG Ρ nt y
 | .cond _ x y=>FG Ρ nt x&&FG Ρ nt y
 | .block _ c=>FG Ρ nt c
 | .loop c=>FG Ρ nt c
 |_=>true
def PJ(i:Nat):Code->List (Array Oper × Bool)
 | .region j ops d=>bif Nat.beq j i then [(ops,d)] else []
 | .seq x y=>PJ i x++PJ i y
 | .cond _ x y=>PJ i x++PJ i y
 | .block _ c=>PJ i c
 | .loop c=>PJ i c
 |_=>[]
def SpAll(P:Program)(RD:(Nat->Prop)->World->Nat->Nat->Prop)(Ρ:Sp)(nt:Nat)(c:Code):Prop:=∀i C,lk Ρ i=some C->∀p∈PJ i c,K1 P RD nt i p.1 p.2 C
theorem SpAll.nil{P:Program}{RD:(Nat->Prop)->World->Nat->Nat->Prop}{nt:Nat}(c:Code):SpAll P RD [] nt c:=λ_ _ h=>(nomatch h)
theorem Cb{P:Program}{RD:(Nat->Prop)->World->Nat->Nat->Prop}{tt:List TE}{Γ:List (Nat × Nat × Ct)}(E:Env P RD tt Γ)(z:P.follows .mixedOrders=true){Ρ:Sp}{nt:Nat}:∀c:Code,SpAll P RD Ρ nt c->FG Ρ nt c=true->Ci P RD tt Γ Ρ nt c
 | .region i ops d,F,h=>by
  unfold FG at h;unfold Ci;split
  ·rename_i C hC
   exact F i C hC (ops,d) (by unfold PJ;rw[show Nat.beq i i=true from by simp];exact dl.2 rfl)
  ·rename_i hC
   rw[hC]at h;simp only[Option.isSome_none,iW,di,ep,fw]at h;refine⟨h.1,λM=>?_⟩;rcases h.2 with J|J
   ·rw[M]at J;cases J
   ·exact drawn_ok E z _ J.1 J.2
 | .seq x y,F,h=>by
  unfold FG at h;simp only[di]at h;exact⟨Cb E z x (λi C hC p H=>F i C hC p (dO.2 (.inl H))) h.1,Cb E z y (λi C hC p H=>F i C hC p (dO.2 (.inr H))) h.2⟩
 | .cond _ x y,F,h=>by
  unfold FG at h;simp only[di]at h;exact⟨Cb E z x (λi C hC p H=>F i C hC p (dO.2 (.inl H))) h.1,Cb E z y (λi C hC p H=>F i C hC p (dO.2 (.inr H))) h.2⟩
 | .block _ c,F,h=>Cb E z c F h
 | .loop c,F,h=>Cb E z c F h
 | .skip,_,_| .rangeFunc ..,_,_| .exit _,_,_| .scope _,_,_| .label _,_,_| .goto _,_,_| .ret,_,_| .refuse _,_,_=>trivial
end
section
open Go.RowKit
open Go.Value renaming int->In,slice->Sl,string->Sg,bool->Bo,pointer->Po
open Go.IntKind renaming i64->i6
def TT:List TE:=[⟨28,4,0,4,[(0,1),(1,1),(2,1),(3,1)],[In i6 0,Sl none 0 0,Sl none 0 0,Sl none 0 0]⟩,⟨76,4,2,7,[(0,1),(1,1),(2,1),(3,1),(4,1),(5,1),(6,1)],[.string ⟨#[]⟩,In i6 0,In i6 0,In i6 0,In i6 0,Bo false,.string ⟨#[]⟩]⟩,⟨3,0,0,1,[],[In i6 0]⟩,⟨4,1,0,1,[],[Bo false]⟩,⟨9,2,0,1,[],[.string ⟨#[]⟩]⟩,⟨25,3,76,1,[],[Sl none 0 0]⟩,⟨26,3,90,1,[],[Sl none 0 0]⟩,⟨24,3,34,1,[],[Sl none 0 0]⟩,⟨48,3,3,1,[],[Sl none 0 0]⟩,⟨43,3,88,1,[],[Sl none 0 0]⟩,⟨90,4,0,2,[(0,1),(1,1)],[.string ⟨#[]⟩,Bo false]⟩,⟨34,4,2,13,[(0,1),(1,1),(2,1),(3,1),(4,1),(5,1),(6,1),(7,1),(8,1),(9,1),(10,1),(11,1),(12,1)],[.string ⟨#[]⟩,In i6 0,Bo false,In i6 0,In i6 0,In i6 0,In i6 0,In i6 0,In i6 0,In i6 0,In i6 0,In i6 0,In i6 0]⟩,⟨88,4,0,2,[(0,1),(1,1)],[In i6 0,In i6 0]⟩,⟨45,4,0,8,[(0,1),(1,1),(2,1),(3,1),(4,1),(5,1),(6,1),(7,1)],[.string ⟨#[]⟩,In i6 0,In i6 0,In i6 0,In i6 0,Bo false,Sl none 0 0,Bo false]⟩,⟨83,4,1,5,[(0,1),(1,1),(2,1),(3,1),(4,1)],[In i6 0,In i6 0,In i6 0,In i6 0,In i6 0]⟩,⟨74,3,9,1,[],[Sl none 0 0]⟩,⟨36,4,0,17,[(0,1),(1,13),(14,1),(15,1),(16,1)],[In i6 0,.string ⟨#[]⟩,In i6 0,Bo false,In i6 0,In i6 0,In i6 0,In i6 0,In i6 0,In i6 0,In i6 0,In i6 0,In i6 0,In i6 0,.string ⟨#[]⟩,In i6 0,Bo false]⟩,⟨38,4,0,19,[(0,1),(1,1),(2,17)],[In i6 0,In i6 0,In i6 0,.string ⟨#[]⟩,In i6 0,Bo false,In i6 0,In i6 0,In i6 0,In i6 0,In i6 0,In i6 0,In i6 0,In i6 0,In i6 0,In i6 0,.string ⟨#[]⟩,In i6 0,Bo false]⟩]
theorem eqs_cp:eqOk Tryz.prog ⟨76,4,2,7,[(0,1),(1,1),(2,1),(3,1),(4,1),(5,1),(6,1)],[.string ⟨#[]⟩,In i6 0,In i6 0,In i6 0,In i6 0,Bo false,.string ⟨#[]⟩]⟩:=by
 refine⟨?_,λ_ h=>absurd h qd⟩;rintro _ _ ρ o w x y ⟨l⟩ t2 h hx F hk;obtain⟨_,_,rfl,z⟩:=Pa hk;clear hk;have hk:=z;clear z;obtain⟨_,_,rfl,z⟩:=DX hk;clear hk;have hk:=z;clear z;obtain⟨_,_,rfl,z⟩:=DX hk;clear hk;have hk:=z;clear z;obtain⟨_,_,rfl,z⟩:=DX hk;clear hk;have hk:=z;clear z;obtain⟨_,_,rfl,z⟩:=DX hk;clear hk;have hk:=z;clear z;obtain⟨_,_,rfl,z⟩:=Su hk;clear hk;have hk:=z;clear z;obtain⟨_,_,rfl,z⟩:=Pa hk;clear hk;have hk:=z;clear z;obtain rfl:=My hk;simp[execOp,h,hx,F,go_sem]
theorem eqs_sv:eqOk Tryz.prog ⟨34,4,2,13,[(0,1),(1,1),(2,1),(3,1),(4,1),(5,1),(6,1),(7,1),(8,1),(9,1),(10,1),(11,1),(12,1)],[.string ⟨#[]⟩,In i6 0,Bo false,In i6 0,In i6 0,In i6 0,In i6 0,In i6 0,In i6 0,In i6 0,In i6 0,In i6 0,In i6 0]⟩:=by
 refine⟨?_,λ_ h=>absurd h qd⟩;rintro _ _ ρ o w x y ⟨l⟩ t2 h hx F hk;obtain⟨_,_,rfl,z⟩:=Pa hk;clear hk;have hk:=z;clear z;obtain⟨_,_,rfl,z⟩:=DX hk;clear hk;have hk:=z;clear z;obtain⟨_,_,rfl,z⟩:=Su hk;clear hk;have hk:=z;clear z
 iterate 10 (obtain⟨_,_,rfl,z⟩:=DX hk;clear hk;have hk:=z;clear z)
 obtain rfl:=My hk;simp[execOp,h,hx,F,go_sem]
theorem eqs_cn:eqOk Tryz.prog ⟨83,4,1,5,[(0,1),(1,1),(2,1),(3,1),(4,1)],[In i6 0,In i6 0,In i6 0,In i6 0,In i6 0]⟩:=by
 refine⟨λ_ h=>absurd h qd,?_⟩;rintro _ _ ρ o w x y ⟨l⟩ ⟨Z⟩ t2 h hx H hk F;obtain⟨a0,_,rfl,z⟩:=DX hk;clear hk;have hk:=z;clear z;obtain⟨a1,_,rfl,z⟩:=DX hk;clear hk;have hk:=z;clear z;obtain⟨a2,_,rfl,z⟩:=DX hk;clear hk;have hk:=z;clear z;obtain⟨a3,_,rfl,z⟩:=DX hk;clear hk;have hk:=z;clear z;obtain⟨J,_,rfl,z⟩:=DX hk;clear hk;obtain rfl:=My z;obtain⟨b0,_,rfl,z⟩:=DX F;clear F;have hk:=z;clear z;obtain⟨M,_,rfl,z⟩:=DX hk;clear hk;have hk:=z;clear z;obtain⟨O,_,rfl,z⟩:=DX hk;clear hk;have hk:=z;clear z;obtain⟨W,_,rfl,z⟩:=DX hk;clear hk;have hk:=z;clear z;obtain⟨Y,_,rfl,z⟩:=DX hk;clear hk;obtain rfl:=My z;simp[execOp,h,hx,H,go_sem,eqI]
 (repeat' split)<;>simp_all
theorem Ur:∀e∈TT,TEok Tryz.prog e:=by
 intro e z;simp only[TT,dJ,dW,fF]at z;rcases z with rfl|rfl|rfl|rfl|rfl|rfl|rfl|rfl|rfl|rfl|rfl|rfl|rfl|rfl|rfl|rfl|rfl|rfl<;>first|exact⟨qk,qk,Ol qd⟩|exact⟨qk,qk,eqs_cn⟩|exact⟨qk,qk,eqs_cp⟩|exact⟨qk,qk,eqs_sv⟩
def BY(ty sz:Nat){X:Type}(f:X->List Value)(l:List X):VB:=⟨1,ty,sz,l.length,0,[],λi k=>∀x,l[i]?=some x->k (f x),λ_ _=>True⟩
def svL(s:Svc):List Value:=[Sg s.name,In i6 s.ag,Bo s.aH,In i6 s.aj,In i6 s.au,In i6 s.aK,In i6 s.aG,In i6 s.next,In i6 s.aQ,In i6 s.az,In i6 s.aI,In i6 s.load,In i6 s.aA]
def cpL(c:Cp):List Value:=[Sg c.aa,In i6 c.ak,In i6 c.ag,In i6 c.aj,In i6 c.ay,Bo c.am,Sg c.aC]
def btL(c:Bt):List Value:=[Sg c.name,Bo c.aM]
def Fs(B:Bk)(c1 c2 c3:Nat):List Value:=[In i6 B.av,.iface 0 (Sl none B.ah.length c1),.iface 1 (Sl none B.ar.length c2),.iface 2 (Sl none B.aw.length c3)]
def bkM(B:Bk):AW:=[(0,BY 34 13 svL B.ah),(1,BY 76 7 cpL B.ar),(2,BY 90 2 btL B.aw)]
def Jr:(Nat->Prop)->World->Nat->Nat->Prop:=λ_ _ _ _=>False
theorem IR{RD:(Nat->Prop)->World->Nat->Nat->Prop}{w0 w:World}{G:Gh}{q i ty sz:Nat}{X:Type}{f:X->List Value}{l:List X}{ao:qO}(hα:G.α i=ao)(H:∀k,k<w.heap.size->G.Z k)(hf:∀x,(f x).all noV=true)
  (h:l≠[]->∃b z,ao=some ⟨b,z,none⟩/\b<w.heap.size/\∀i x,l[i]?=some x->∀j v,(f x)[j]?=some v->w.cell? ⟨b,z+i*sz+j,none⟩=some v):Hold RD w0 G w q i (BY ty sz f l):=by
 refine⟨λh=>(nomatch h),λ_ j M=>?_,λh=>(nomatch h),λh=>(nomatch h),λh=>(nomatch h),.inr (.inl rfl)⟩;have F:j<l.length:=M;obtain⟨b,z,e,hb,J⟩:=h (λe=>by rw[e]at F;cases F);obtain⟨x,hx⟩:∃x,l[j]?=some x:=⟨l[j],qs⟩;exact⟨b,z,f x,hα.trans e,H b hb,λk hk=>hk x hx,λy v hv=>⟨J j x hx y v hv,fun β=>G4 (dt.1 (hf x) v (AE hv)) β⟩,λ_ _=>trivial⟩
def gh3(w:World)(a1 a2 a3:qO):Gh:=⟨λi=>match i with|0=>a1|1=>a2|2=>a3|_=>none,λk=>k<w.heap.size,λ_=>False⟩
theorem Gv{RD:(Nat->Prop)->World->Nat->Nat->Prop}{w:World}{a1 a2 a3:qO}{B:Bk}{q:Nat}(h:BkAt w a1 a2 a3 B):∀i b,lk (bkM B) i=some b->i<64/\Hold RD w (gh3 w a1 a2 a3) w q i b/\¬EN b/\Clo (bkM B) (b.cs.flatMap DJ):=by
 intro i b hb
 have al:∀b',(i,b')∈bkM B->b'.kd=1/\b'.cs=[]/\i<64:=λb' O=>by
  simp only[bkM,dJ,dW,fF,dR]at O;rcases O with⟨rfl,rfl⟩|⟨rfl,rfl⟩|⟨rfl,rfl⟩<;>exact⟨rfl,rfl,qd⟩
 have O:=Aw _ _ _ hb;obtain⟨M,Y,Z⟩:=al b O;refine⟨Z,?_,by unfold EN;rw[M];decide,by rw[Y];exact λ_ h=>(nomatch h)⟩;simp only[bkM,dJ,dW,fF,dR]at O;rcases O with⟨rfl,rfl⟩|⟨rfl,rfl⟩|⟨rfl,rfl⟩
 ·refine IR (ao:=a1) rfl (λk hk=>hk) (λx=>rfl) λH=>?_
  obtain⟨b,J,e,F,z⟩:=h.1 H;refine⟨b,J,e,F,λi x hx j v hv=>?_⟩;obtain⟨W,M,Y,Z,h4,h5,h6,h7,h8,h9,ae,af,ag⟩:=z i x hx
  match j,hv with
  |0,hv=>rw[<-dj hv];exact W
  |1,hv=>rw[<-dj hv];exact M
  |2,hv=>rw[<-dj hv];exact Y
  |3,hv=>rw[<-dj hv];exact Z
  |4,hv=>rw[<-dj hv];exact h4
  |5,hv=>rw[<-dj hv];exact h5
  |6,hv=>rw[<-dj hv];exact h6
  |7,hv=>rw[<-dj hv];exact h7
  |8,hv=>rw[<-dj hv];exact h8
  |9,hv=>rw[<-dj hv];exact h9
  |10,hv=>rw[<-dj hv];exact ae
  |11,hv=>rw[<-dj hv];exact af
  |12,hv=>rw[<-dj hv];exact ag
  |k+13,hv=>cases hv
 ·refine IR (ao:=a2) rfl (λk hk=>hk) (λx=>rfl) λH=>?_
  obtain⟨b,J,e,F,z⟩:=h.2.1 H;refine⟨b,J,e,F,λi x hx j v hv=>?_⟩;obtain⟨W,M,Y,Z,h4,h5,h6⟩:=z i x hx
  match j,hv with
  |0,hv=>rw[<-dj hv];exact W
  |1,hv=>rw[<-dj hv];exact M
  |2,hv=>rw[<-dj hv];exact Y
  |3,hv=>rw[<-dj hv];exact Z
  |4,hv=>rw[<-dj hv];exact h4
  |5,hv=>rw[<-dj hv];exact h5
  |6,hv=>rw[<-dj hv];exact h6
  |k+7,hv=>cases hv
 ·refine IR (ao:=a3) rfl (λk hk=>hk) (λx=>rfl) λH=>?_
  obtain⟨b,J,e,F,z⟩:=h.2.2 H;refine⟨b,J,e,F,λi x hx j v hv=>?_⟩;obtain⟨W,M⟩:=z i x hx
  match j,hv with
  |0,hv=>rw[<-dj hv];exact W
  |1,hv=>rw[<-dj hv];exact M
  |k+2,hv=>cases hv
theorem EH:CR Jr:=λ_ _ _ _ _ _ _ h=>h.elim
def At(ty sz cp:Nat){X:Type}(f:X->List Value)(l:List X):VB:=⟨3,ty,sz,l.length,cp,[],λi k=>∀x,l[i]?=some x->k (f x),λ_ _=>True⟩
def rdB:VB:=⟨4,0,0,0,0,[],λ_ _=>True,λ_ _=>True⟩
def He:Option VB->VB
 |some b=>bif Nat.beq b.kd 1||Nat.beq b.kd 3 then⟨1,b.ty,b.sz,b.n,0,[],b.Q,b.E⟩ else bif Nat.beq b.kd 4 then rdB else NB
 |none=>NB
def Sj:List Nat->Nat->List (Nat × Nat)
 |[],_=>[]
 |i::r,j=>(i,j)::Sj r (j+1)
def OI(es:AW):List Nat->Nat->AW
 |[],_=>[]
 |i::r,j=>(j,He (lk es i))::OI es r (j+1)
def can(vs:qL)(es:AW):List Value × AW:=(vs.map (rn1 (Sj (vs.flatMap Bc) 0)),OI es (vs.flatMap Bc) 0)
def rn2(ρ:List (Nat × Nat)):Value->Value
 | .tuple cs=>.tuple (cs.toList.map (rn1 ρ)).toArray
 |v=>rn1 ρ v
def up0(f:Nat->Nat):Value->Value
 | .complex k i o=>.complex k (f i) o
 | .iface i (Sl a n c)=>.iface (f i) (Sl a n c)
 | .iface i (Po (some p))=>.iface (f i) (Po (some p))
 |v=>v
def up1(f:Nat->Nat):Value->Value
 | .agg cs=>.agg (cs.toList.map (up0 f)).toArray
 |v=>up0 f v
def up2(f:Nat->Nat):Value->Value
 | .tuple cs=>.tuple (cs.toList.map (up1 f)).toArray
 |v=>up1 f v
def upE(d:Nat):AW->AW
 |[]=>[]
 |(i,b)::r=>(d+i,b)::upE d r
def newB:AW->Bool
 |[]=>true
 |(i,b)::r=>Nat.ble (i+1) 8&&Nat.beq b.kd 3&&b.cs.isEmpty&&newB r
def outB(J:Nat)(es:AW)(v:Value):Bool:=newB es&&(Bc v).all λi=>(lk es i).isSome||(Nat.ble 8 i&&Nat.ble (i - 7) J)
def argR(ρ:List (Nat × Nat)):Nat->Bool
 |0=>true
 |j+1=>Nat.beq (rnI ρ (8+j)) j&&argR ρ j
def argM:Nat->AW->Bool
 |0,_=>true
 |j+1,(_,b)::r=>Nat.beq b.kd 1&&argM j r
 |_+1,[]=>false
def upF(J id:Nat)(I:List Nat):Nat->Nat:=match J with
 |0=>λx=>id+x
 |_+1=>λx=>bif Nat.ble 8 x then I.getD (x - 8) 0 else id+x
def ctW(J:Nat){α:Type}(A:α->List Value)(M:α->AW)(Pre:α->Prop)(Out:α->Value->AW->Prop):Ct:=λvs es id k=>
 ∃p,can vs es=(A p,M p)/\Pre p/\∀v es',Out p v es'->k (up2 (upF J id (vs.flatMap Bc)) v) (upE id es')
def ctV{α:Type}(A:α->List Value)(M:α->AW)(Pre:α->Prop)(Out:α->Value->AW->Prop):Ct:=λvs es id k=>
 ∃p,can vs es=(A p,M p)/\Pre p/\∀v es',Out p v es'->k (up2 (id+ ·) v) (upE id es')
def freeE:AW->Prop
 |[]=>True
 |(_,b)::r=>(∀W el,b.E W el)/\freeE r
def Qr(J:Nat)(Out:Value->AW->Prop):Value->AW->Nat->Prop:=λv0 m _=>∃v es ρ,Out v es/\v0=rn2 ρ v/\Vg ρ m es/\(VY ρ (Qv es)&&argR ρ J)=true/\outB J es v=true/\freeE es
abbrev Dm:=Qr 0
def endJ(J:Nat)(tt:List TE)(rs:List ResultVar)(Out:Value->AW->Prop):Exit->St->Prop:=λe s=>
 (e=.ret\/e=.normal)/\∃v0,PD tt rs s.t s.m=some v0/\Qr J Out v0 s.m s.q/\clo s.m (Bc v0)=true
abbrev endV:=endJ 0
def okA(A:qL)(M:AW)(nt:Nat)(r:Bool:=false):Bool:=Nat.ble A.length nt&&A.all Ig&&M.all (λq=>Nat.ble (q.1+1) 64&&(r|| !Nat.beq q.2.kd 4))&&clo M (A.flatMap Bc)
end
section
open Go.RowKit
theorem UE:∀(I:List Nat) (s i:Nat),i∈I->∃j,lk (Sj I s) i=some (s+j)/\I[j]?=some i
 |[],_,_,h=>by cases h
 |x::r,s,i,h=>by
  by_cases e:x=i
  ·subst e;exact⟨0,Ae _ _ _,rfl⟩
  ·obtain⟨j,z,F⟩:=UE r (s+1) i (by rcases dJ.1 h with h|h;exact absurd h.symm e;exact h)
   exact⟨j+1,(Au e _ _).trans (by rw[z];congr 1;omega),F⟩
theorem Qk(es:AW):∀(I:List Nat) (s z:Nat) (b:VB),lk (OI es I s) z=some b->∃j i,z=s+j/\I[j]?=some i/\b=He (lk es i)
 |[],_,_,_,h=>by cases h
 |x::r,s,z,b,h=>by
  unfold OI at h
  by_cases e:s=z
  ·subst e;rw[Ae]at h;exact⟨0,x,rfl,rfl,(dj h).symm⟩
  ·rw[Au e]at h
   obtain⟨j,i,J,F,H⟩:=Qk es r (s+1) z b h;exact⟨j+1,i,qo,F,H⟩
theorem OH(es:AW):∀(I:List Nat) (s J:Nat),argM J (OI es I s)=true->∀j,j<J->∃i b,I[j]?=some i/\lk es i=some b
 |[],_,0,_,_,z=>qo
 |[],_,_+1,h,_,_=>by cases h
 |_::_,_,0,_,_,z=>qo
 |i::r,s,J+1,h,j,z=>by
  unfold OI argM at h;simp only[di]at h
  match j with
  |0=>cases F:lk es i with
   |none=>rw[F]at h;cases h.1
   |some b=>exact⟨i,b,rfl,F⟩
  |j+1=>exact OH es r (s+1) J h.2 j qo
theorem Uo{ρ:List (Nat × Nat)}:∀(J:Nat),argR ρ J=true->∀j,j<J->rnI ρ (8+j)=j
 |0,_,_,h=>qo
 |J+1,h,j,z=>by
  unfold argR at h;simp only[di]at h
  by_cases e:j=J
  ·subst e;exact dh h.1
  ·exact Uo J h.2 j qo
theorem rn2_r(ρ:List (Nat × Nat))(α:Nat->Option Addr)(v:Value):r2 (λi=>α (rnI ρ i)) v=r2 α (rn2 ρ v):=by
 cases v with
 |tuple cs=>
  show Value.tuple _=Value.tuple _
  congr 1
  apply jb;simp only[eN,gE];refine fA λv hv=>?_
  clear hv
  cases v with
  |agg cs=>
   show Value.agg _=Value.agg _
   congr 1
   apply jb;simp only[eN,gE];exact fA λv _=>rn0_r ρ α v
  |tuple _=>rfl
  |iface i u=>cases u<;>first|rfl|(rename_i p;cases p<;>rfl)
  |_=>rfl
 |_=>exact rn1_r ρ α _ rfl
theorem up0_r(f:Nat->Nat)(α:Nat->Option Addr)(v:Value):r0 (λi=>α (f i)) v=r0 α (up0 f v):=by
 cases v with
 |iface i u=>cases u<;>first|rfl|(rename_i p;cases p<;>rfl)
 |_=>rfl
theorem up1_r(f:Nat->Nat)(α:Nat->Option Addr)(v:Value):r1 (λi=>α (f i)) v=r1 α (up1 f v):=by
 cases v with
 |agg cs=>
  show Value.agg _=Value.agg _
  congr 1
  apply jb;simp only[eN,gE];exact fA λv _=>up0_r f α v
 |iface i u=>cases u<;>first|rfl|(rename_i p;cases p<;>rfl)
 |_=>rfl
theorem up2_r(f:Nat->Nat)(α:Nat->Option Addr)(v:Value):r2 (λi=>α (f i)) v=r2 α (up2 f v):=by
 cases v with
 |tuple cs=>
  show Value.tuple _=Value.tuple _
  congr 1
  apply jb;simp only[eN,gE];exact fA λv _=>up1_r f α v
 |agg cs=>exact up1_r f α (.agg cs)
 |iface i u=>cases u<;>first|rfl|(rename_i p;cases p<;>rfl)
 |_=>rfl
theorem up0_ids(f:Nat->Nat)(v:Value):DJ (up0 f v)=(DJ v).map f:=by
 cases v with
 |iface i u=>cases u<;>first|rfl|(rename_i p;cases p<;>rfl)
 |_=>rfl
theorem RT{f:Value->List Nat}{g:Value->Value}{d:Nat->Nat}(h:∀v,f (g v)=(f v).map d)(cs:qL):(cs.map g).flatMap f=(cs.flatMap f).map d:=by
 induction cs with
 |nil=>rfl
 |cons x r z=>rw[dK,eB,eB,fm,h,z]
theorem Tp(f:Nat->Nat)(v:Value):RN (up1 f v)=(RN v).map f:=by
 cases v with
 |agg cs=>show((cs.toList.map (up0 f)).toArray).toList.flatMap DJ=_;rw[gZ];exact RT (up0_ids f) _
 |iface i u=>cases u<;>first|rfl|(rename_i p;cases p<;>rfl)
 |_=>rfl
theorem up2_ids(f:Nat->Nat)(v:Value):Bc (up2 f v)=(Bc v).map f:=by
 cases v with
 |tuple cs=>show((cs.toList.map (up1 f)).toArray).toList.flatMap RN=_;rw[gZ];exact RT (Tp f) _
 |agg cs=>exact Tp f (.agg cs)
 |iface i u=>cases u<;>first|rfl|(rename_i p;cases p<;>rfl)
 |_=>rfl
theorem IJ(d:Nat):∀(es:AW) (i:Nat) (b:VB),(i,b)∈upE d es->∃x,i=d+x/\(x,b)∈es
 |[],_,_,h=>by cases h
 |(x,c)::r,i,b,h=>by
  rcases dJ.1 h with e|h
  ·cases e;exact⟨x,rfl,dP⟩
  ·obtain⟨y,z,F⟩:=IJ d r i b h;exact⟨y,z,dQ _ F⟩
theorem upE_lk(d:Nat):∀(es:AW) (x:Nat) (b:VB),lk es x=some b->lk (upE d es) (d+x)=some b
 |[],_,_,h=>by cases h
 |(y,c)::r,x,b,h=>by
  by_cases e:y=x
  ·subst e;rw[Ae]at h;cases h;exact Ae _ _ _
  ·rw[Au e]at h;exact(Au qo _ _).trans (upE_lk d r x b h)
theorem Mn:∀(es:AW),newB es=true->∀i b,(i,b)∈es->i<8/\b.kd=3/\b.cs=[]
 |[],_,_,_,h=>by cases h
 |(x,c)::r,z,i,b,h=>by
  unfold newB at z;simp only[di]at z;rcases dJ.1 h with e|h
  ·cases e;exact⟨AD z.1.1.1,dh z.1.1.2,List.isEmpty_iff.1 z.1.2⟩
  ·exact Mn r z.2 i b h
theorem KD{ρ:List (Nat × Nat)}{m:AW}:∀(m':AW),Vg ρ m m'->∀i b,(i,b)∈m'->∃b0,lk m (rnI ρ i)=some b0/\LeB ρ b0 b
 |[],_,_,_,h=>by cases h
 |(j,u)::r,z,i,b,h=>by
  rcases dJ.1 h with e|h
  ·cases e;exact z.1
  ·exact KD r z.2 i b h
theorem Od:∀(es:AW),freeE es->∀i b,(i,b)∈es->∀W el,b.E W el
 |[],_,_,_,h=>by cases h
 |(j,u)::r,z,i,b,h=>by
  rcases dJ.1 h with e|h
  ·cases e;exact z.1
  ·exact Od r z.2 i b h
theorem PO:∀(m:AW) (i:Nat) (b:VB),(i,b)∈m->EN b->i∈Qv m
 |[],_,_,h,_=>by cases h
 |(j,u)::r,i,b,h,hk=>by
  unfold Qv;rcases dJ.1 h with e|h
  ·cases e;rcases hk with hk|hk<;>(rw[hk];exact dP)
  ·have:=PO r i b h hk
   cases hb:(Nat.beq u.kd 0||Nat.beq u.kd 3) with
   |true=>exact dQ _ this
   |false=>exact this
section
variable {P:Program} {RD:(Nat->Prop)->World->Nat->Nat->Prop} {tt:List TE} {Γ:List (Nat × Nat × Ct)} {w0 w:World} {G:Gh} {q:Nat}
theorem FT{b:VB}(h:(Nat.beq b.kd 1||Nat.beq b.kd 3)=true):He (some b)=⟨1,b.ty,b.sz,b.n,0,[],b.Q,b.E⟩:=by
 show(bif (Nat.beq b.kd 1||Nat.beq b.kd 3) then _ else _)=_;rw[h];rfl
theorem QO{b:VB}(h:(Nat.beq b.kd 1||Nat.beq b.kd 3)=false):He (some b)=bif Nat.beq b.kd 4 then rdB else NB:=by
 show(bif (Nat.beq b.kd 1||Nat.beq b.kd 3) then _ else _)=_;rw[h];rfl
theorem On{i:Nat}:Hold RD w0 G w q i NB:=⟨λh=>(nomatch h),λh=>(nomatch h),λh=>(nomatch h),λh=>(nomatch h),λh=>(nomatch h),.inr (.inr (.inr (.inr (.inr rfl))))⟩
theorem row_hold{i j:Nat}{b:VB}{J:Gh}{w1:World}{q1:Nat}(hb:(Nat.beq b.kd 1||Nat.beq b.kd 3)=true)(h:Hold RD w0 G w q i b)(hz:∀k,G.Z k->k<w.heap.size)(hα:J.α j=G.α i)(Z:∀k,k<w.heap.size->¬G.RB k->J.Z k)(F:∀k,G.Z k->¬G.RB k):Hold RD w1 J w q1 j (He (some b)):=by
  rw[FT hb];refine⟨λh=>(nomatch h),λ_ y hy=>?_,λh=>(nomatch h),λh=>(nomatch h),λh=>(nomatch h),.inr (.inl rfl)⟩;have hW:∀W:World,(∀k,J.Z k->W.heap[k]?=w.heap[k]?)->∀k,G.Z k->W.heap[k]?=w.heap[k]?:=λW h k hk=>h k (Z k (hz k hk) (F k hk))
  rcases fh.1 hb with Y|Y
  ·obtain⟨g,o,el,M,O,e3,e4⟩:=h.k1 (dh Y) y hy
   exact⟨g,o,el,hα.trans M,Z g (hz g O) (F g O),e3,e4.1,λW h=>e4.2 W (hW W h)⟩
  ·obtain⟨g,els,M,O,e3,e4,r1,H,r3,r4⟩:=h.k3 (dh Y)
   have ak:y<b.n:=hy;obtain⟨el,z⟩:∃el,els[y]?=some el:=⟨els[y]' qo,qs⟩;have hl:=H el (AE z);refine⟨g,0,el,hα.trans M,Z g r3.lt e4,(r4 y el z).1,λx v hv=>⟨?_,(hl.2 v (AE hv)).2⟩,λW h=>(r4 y el z).2 W (hW W h)⟩;rw[dL];refine r3.cell ?_;rw[Pd (λe he=>(H e he).1) y el z x (by have:=(AC hv).1;rw[hl.1]at this;exact this)];exact hv
end
theorem ND{RD:(Nat->Prop)->World->Nat->Nat->Prop}{w0 w w':World}{G:Gh}{q id cost:Nat}{X:Nat->Prop}{es es':AW}{v:Value}{β:Nat->Option Addr}{f:Nat->Nat}{C:(Value->AW->Prop)->Prop}(hX:∀k,X k->G.RB k)(ah:∀g,G.RB g->RD G.Z w g q->RD G.Z w' g (q+cost))(hz:∀k,G.Z k->k<w.heap.size/\¬G.RB k)(Y:∀k,G.RB k->k<w.heap.size)(aj:w0.heap.size<=w.heap.size)(H:Stp X w w')(ag:newB es'=true)
  (W:∀x b,(x,b)∈es'->∃g els,β x=some ⟨g,0,none⟩/\w.heap.size<=g/\RowK G.Z w' g b els) (O:∀x b y c,(x,b)∈es'->(y,c)∈es'->x≠y->β x≠β y) (hv:∀x∈Bc v,(∃b,lk es' x=some b/\f x=id+x)\/((f x<id\/id+8<=f x)/\β x=G.α (f x)/\∃b,lk es (f x)=some b)) (hC:∀k,C k->k (up2 f v) (upE id es')):
  ∃v1 J G',(∀k,C k->k v1 J)/\Ending.returned (r2 β v)=.returned (r2 G'.α v1)/\GS RD G w q G' w' (q+cost) id/\NewOk RD w0 G' w w' (q+cost) J/\Clo (J++es) (Bc v1)/\OkE id (id+8) (J++es) J:=by
 have F:=Mn es' ag;obtain⟨Z,z⟩:∃Z:Gh,Z=⟨λi=>if id<=i/\i<id+8 then β (i - id) else G.α i,G.Z,G.RB⟩:=⟨_,rfl⟩;have h2α:∀x,x<8->Z.α (id+x)=β x:=λx hx=>by rw[z];show(if _ then _ else _)=_;rw[dv qo,Nat.add_sub_cancel_left]
 refine⟨up2 f v,upE id es',Z,hC,?_,⟨⟨H.os,H.tape,H.output,H.size,λk hk hn=>H.block k hk λh=>hn (hX k h)⟩,λi M=>(by rw[z];exact dk qo),λk hk=>(by rw[z];exact hk),λk hk=>(by rw[z]at hk;exact .inl hk),λk hk=>?_,λk hk=>(by rw[z];exact hk),λk hk=>(by rw[z]at hk;exact .inl hk),λk hk=>?_,λg hg hd=>?_⟩,⟨λi b M=>?_,λi b M ho=>?_,λi b j c M hj hb hc aA=>?_⟩,λi M=>?_,λi b M=>?_⟩
 ·rw[<-up2_r]
  congr 1
  refine Jj v λx hx=>?_
  rcases hv x hx with⟨b,hb,e⟩|⟨h1,h2,_⟩
  ·rw[e];exact(h2α x (F x b (Aw _ _ _ hb)).1).symm
  ·rw[h2,z];exact(dk (show ¬(id<=f x/\f x<id+8) from λh=>qo)).symm
 ·rw[z]at hk ⊢
  exact⟨AF (hz k hk).1 H.size,(hz k hk).2⟩
 ·rw[z]at hk
  exact AF (Y k hk) H.size
 ·rw[z]
  exact ah g hg hd
 ·obtain⟨x,rfl,hx⟩:=IJ id es' i b M
  obtain⟨h8,hk,_⟩:=F x b hx;obtain⟨g,els,e1,e2,e3⟩:=W x b hx;exact⟨λh=>absurd (h.symm.trans hk) qd,λh=>absurd (h.symm.trans hk) qd,λh=>absurd (h.symm.trans hk) qd,λ_=>⟨g,els,(h2α x h8).trans e1,AH aj e2,λh=>(by rw[z]at h;have:=(hz g h).1;omega),λh=>(by rw[z]at h;have:=Y g h;omega),by rw[z];exact e3⟩,λh=>absurd (h.symm.trans hk) qd,.inr (.inr (.inr (.inl hk)))⟩
 ·obtain⟨x,rfl,hx⟩:=IJ id es' i b M
  obtain⟨g,els,e1,e2,e3⟩:=W x b hx;exact⟨g,(h2α x (F x b hx).1).trans e1,e2⟩
 ·obtain⟨x,rfl,hx⟩:=IJ id es' i b M
  obtain⟨y,rfl,hy⟩:=IJ id es' j c hj;rw[h2α x (F x b hx).1,h2α y (F y c hy).1];exact O x b y c hx hy qo
 ·rw[up2_ids]at M
  obtain⟨x,hx,rfl⟩:=fa.1 M;rcases hv x hx with⟨b,hb,e⟩|⟨_,_,b,hb⟩
  ·exact⟨b,by rw[e,B9,upE_lk id es' x b hb];rfl⟩
  ·rw[B9]
   cases lk (upE id es') (f x) with
   |none=>exact⟨b,hb⟩
   |some b'=>exact⟨b',rfl⟩
 ·obtain⟨x,rfl,hx⟩:=IJ id es' i b M
  obtain⟨h8,_,af⟩:=F x b hx;exact⟨qo,qo,by rw[af];exact λ_ h=>(nomatch h)⟩
theorem NM{RD:(Nat->Prop)->World->Nat->Nat->Prop}(hR:CR RD){w0 w:World}{G:Gh}{q q' nt:Nat}{r:Bool}{X:Nat->Prop}{vs A:qL}{es M:AW}(hX:∀k,X k->G.RB k)(hr:r=true->X=G.RB/\q'=q)(hz:∀k,G.Z k->k<w.heap.size/\¬G.RB k)(ah:∀i b,(i,b)∈es->Hold RD w0 G w q i b)(H:can vs es=(A,M))(ho:okA A M nt r=true):
  ∃F:Gh,A.map (r2 F.α)=vs.map (r2 G.α)/\(∀k,F.Z k->k<w.heap.size/\¬F.RB k)/\F.RB=X/\(∀j i,(vs.flatMap Bc)[j]?=some i->F.α j=G.α i)/\∀j b,lk M j=some b->j<64/\Hold RD w F w q' j b/\¬EN b/\Clo M (b.cs.flatMap DJ):=by
 unfold can at H;simp only[dR]at H;obtain⟨O,Y⟩:=H;unfold okA at ho;simp only[di]at ho;obtain⟨⟨⟨o1,o2⟩,o3⟩,o4⟩:=ho;obtain⟨I,W⟩:∃I,vs.flatMap Bc=I:=⟨_,rfl⟩;rw[W]at O Y;obtain⟨F,z⟩:∃F:Gh,F=⟨λj=>match I[j]? with|some i=>G.α i|none=>none,λk=>k<w.heap.size/\¬X k,X⟩:=⟨_,rfl⟩
 have hα:∀i∈I,F.α (rnI (Sj I 0) i)=G.α i:=λi hi=>by
  obtain⟨j,h1,h2⟩:=UE I 0 i hi;unfold rnI;rw[h1,z,dL];simp only[h2]
 refine⟨F,?_,λk hk=>by rw[z]at hk ⊢;exact hk,by rw[z],λj i hj=>by rw[z,W]at *;simp only[hj],λj b hb=>?_⟩
 ·rw[<-O,gE]
  refine fA λv hv=>?_
  have ak:Ig v=true:=by
   have:=dt.1 o2 (rn1 (Sj I 0) v) (O▸fo hv);cases v<;>first|rfl|cases this
  show r2 F.α (rn1 (Sj I 0) v)=_;rw[<-rn1_r _ _ v ak];exact Jj (β:=λi=>F.α (rnI (Sj I 0) i)) (α:=G.α) v λi hi=>hα i (W▸dZ.2 ⟨v,hv,hi⟩)
 ·obtain⟨y,i,h1,h2,h3⟩:=Qk es I 0 j b (Y▸hb)
  rw[dL]at h1;subst h1;have J:=dt.1 o3 _ (Aw _ _ _ hb);simp only[di,ep,fw]at J
  have key:b.cs=[]/\¬EN b/\Hold RD w F w q' j b:=by
   rw[h3]
   cases hl:lk es i with
   |none=>exact⟨rfl,(λh=>by rcases h with h|h<;>cases h),On⟩
   |some b'=>
    have aa:=ah i b' (Aw _ _ _ hl)
    cases hk:(Nat.beq b'.kd 1||Nat.beq b'.kd 3) with
    |true=>exact⟨by rw[FT hk],(by rw[FT hk];exact λh=>by rcases h with h|h<;>cases h),row_hold hk aa (λk hk=>(hz k hk).1) (by rw[z];simp only[h2]) (λk hk hn=>by rw[z];exact⟨hk,λh=>hn (hX k h)⟩) (λk hk=>(hz k hk).2)⟩
    |false=>
     rw[QO hk]
     cases h4:Nat.beq b'.kd 4 with
     |false=>exact⟨rfl,(λh=>by rcases h with h|h<;>cases h),On⟩
     |true=>
      have am:r=true:=J.2.elim id λh=>by
       rw[h3,hl,QO hk,h4]at h;cases h
      obtain⟨Z,aD⟩:=hr am;obtain⟨g,e1,e2,e3⟩:=aa.k4 (dh h4);refine⟨rfl,(λh=>by rcases h with h|h<;>cases h),⟨λh=>(nomatch h),λh=>(nomatch h),λh=>(nomatch h),λh=>(nomatch h),λ_=>⟨g,by rw[z];simp only[h2];exact e1,by rw[z,Z];exact e2,hR _ _ _ _ _ _ _ e3 (λk hk=>by rw[z,Z];exact hz k hk) rfl (λ_ _=>rfl) qo⟩,.inr (.inr (.inr (.inr (.inl rfl))))⟩⟩
  exact⟨AD J.1,key.2.2,key.2.1,by rw[key.1];exact λ_ h=>(nomatch h)⟩
def RDpin(RD:(Nat->Prop)->World->Nat->Nat->Prop):Prop:=∀(Z Z':Nat->Prop) (w w':World) (g g' q q':Nat),RD Z w g q->RD Z' w' g' q'->RD Z w' g q'
def postRJ(J:Nat)(r:Bool)(Out:Value->AW->Prop)(Q:Nat)(v:Value)(m:AW)(q:Nat):Prop:=match r with
 |true=>Qr J Out v m q/\q<=Q/\∃i,lk m i=some rdB
 |false=>Qr J Out v m q
def endRJ(J:Nat)(r:Bool)(tt:List TE)(rs:List ResultVar)(Out:Value->AW->Prop)(Q:Nat):Exit->St->Prop:=λe s=>
 (e=.ret\/e=.normal)/\∃v0,PD tt rs s.t s.m=some v0/\postRJ J r Out Q v0 s.m s.q/\clo s.m (Bc v0)=true
abbrev endR:=endRJ 0
theorem TH{P:Program}{RD:(Nat->Prop)->World->Nat->Nat->Prop}{tt:List TE}{Γ:List (Nat × Nat × Ct)}{Ρ:Sp}(E:Env P RD tt Γ)(J:Nat)(bw:J<=8)(r:Bool)(cost:Nat)(h0:r=true->cost≠0)(hP:r=true->RDpin RD){f:Nat}{fn:Func}{c:Code}(hf:P.funcs[f]?=some fn)(hb:fn.body=some c)(hD:Ci P RD tt Γ Ρ fn.ntmps c)
  {α:Type} {A:α->List Value} {M:α->AW} {au:α->Prop} {ah:α->Value->AW->Prop} (hA:∀p,okA (A p) (M p) fn.ntmps r=true) (hJ:∀p,argM J (M p)=true) (hI:∀p p',A p=A p'->M p=M p'->p=p')
  (hv:∀p q,au p->(r=true->q+cost<=QM)->(r=false->q=0)->vw tt Γ Ρ c (endRJ J r tt fn.results.toList (ah p) (q+cost)) ⟨Ew 0 (A p),M p,64,q⟩):CH P RD f cost (ctW J A M au ah):=by
 intro w0 G w q id vs es k0 hz an aN aI aJ hQ hC;obtain⟨p,ae,aA,_⟩:=hC;obtain⟨G0,ak,aD,ax,hα0,hM⟩:=NM (q':=bif r then q else 0) E.rd (X:=λk=>r=true/\G.RB k) (λk h=>h.2) (λh=>⟨by funext k;simp[h],by rw[h];rfl⟩) hz aI ae (hA p);have ho:=hA p;unfold okA at ho;simp only[di]at ho;have aa:=vcalls (R0:=⟨λk=>r=true/\G.RB k,G0.α,0⟩) (G:=G0) (w:=w) (q0:=bif r then q else 0) E hf hb hD (AD ho.1.1.1) (Post:=λv m q'=>postRJ J r (ah p) ((bif r then q else 0)+cost) v m q') (hv p _ aA (λh=>by rw[h];exact hQ.resolve_left (h0 h)) (λh=>by rw[h];rfl)) hM (Cg ho.2) AG aD (λk hk=>by rw[ax]at hk;exact hk) (λk hk=>by rw[ax]at hk;exact an k hk.2);rw[ak]at aa;refine aa.mono ?_;rintro e w' ⟨v0,m,q',G',z,rfl,hH,_,aB,bK,ay,aF,_⟩
 have aM:r=true->q'<=q+cost/\∃i,lk m i=some rdB:=λh=>by
  subst h;exact z.2
 have z:Qr J (ah p) v0 m q':=by
  cases r with
  |true=>exact z.1
  |false=>exact z
 obtain⟨v,H,ρ,aw,rfl,aj,af,Y,am⟩:=z;unfold outB at Y;simp only[di]at Y af;have Z:∀i b,(i,b)∈H->i<8/\b.kd=3/\b.cs=[]:=Mn H Y.1;rw[<-rn2_r];refine ND (X:=λk=>r=true/\G.RB k) (λk h=>h.2) (λg hg hd=>?_) hz an aN aB Y.1 (λx b hx=>?_) (λx b y c hx hy aK=>?_) (f:=upF J id (vs.flatMap Bc)) (λx hx=>?_) λk hk=>?_
 ·cases r with
  |true=>
   obtain⟨hq,i,hi⟩:=aM rfl;obtain⟨g',_,_,e3⟩:=(hH i rdB hi).k4 rfl;exact E.rd _ _ _ _ _ _ _ (hP rfl _ _ _ _ _ _ _ _ hd e3) (λ_ h=>h) rfl (λ_ _=>rfl) hq
  |false=>
   have hb:∀k,k<w.heap.size->w'.heap[k]?=w.heap[k]?:=λk hk=>aB.block k hk λh=>(nomatch h.1)
   exact E.rd _ _ _ _ _ _ _ hd (λ_ h=>h) (hb g (an g hg)) (λk hk=>hb k (hz k hk).1) (ie _ _)
 ·obtain⟨b0,al,O⟩:=KD H aj x b hx
  obtain⟨_,hk,_⟩:=Z x b hx;obtain⟨g,els,e1,e2,_,_,r1,aS,r3,r4⟩:=(hH _ b0 al).k3 (O.kd.trans hk);obtain⟨n1,n2⟩:=O.n3 hk;refine⟨g,els,e1,e2,r1.trans n1,λel aH=>(by rw[<-O.sz];exact aS el aH),(by rw[<-O.ty,<-O.sz,<-n1,<-n2];exact r3),λj el hj=>⟨λk hk=>(r4 j el hj).1 k (O.Q j ?_ k hk),λW _=>Od H am x b hx W el⟩⟩;have:=(AC hj).1;omega
 ·obtain⟨b0,al,O⟩:=KD H aj x b hx
  obtain⟨c0,aG,az⟩:=KD H aj y c hy;have hb:=(Z x b hx).2.1;have hc:=(Z y c hy).2.1;exact ay _ b0 _ c0 al aG (.inr (O.kd.trans hb)) (.inr (az.kd.trans hc)) (Pb _ af.1 x y (PO _ _ _ hx (.inr hb)) (PO _ _ _ hy (.inr hc)) aK)
 ·have ho:=dt.1 Y.2 x hx
  cases hl:lk H x with
  |some b=>
   refine .inl ⟨b,rfl,?_⟩;have h8:=(Z x b (Aw _ _ _ hl)).1
   cases J with
   |zero=>rfl
   |succ J=>show(bif Nat.ble 8 x then _ else _)=_;rw[show Nat.ble 8 x=false from by cases h:Nat.ble 8 x with|false=>rfl|true=>have:=AD h;omega];rfl
  |none=>
   rw[hl]at ho;simp only[Option.isSome_none,iW,di]at ho;have h8:=AD ho.1;have h7:=AD ho.2;obtain⟨i,b,h1,h2⟩:=OH es (vs.flatMap Bc) 0 J (by have h:=hJ p;have hc:=ae;unfold can at hc;simp only[dR]at hc;rw[<-hc.2]at h;exact h) (x - 8) qo
   have hf:upF J id (vs.flatMap Bc) x=i:=by
    cases J with
    |zero=>omega
    |succ J=>show(bif Nat.ble 8 x then _ else _)=_;rw[ho.1,eY,List.getD_eq_getElem?_getD,h1];rfl
   rw[hf];refine .inr ⟨aJ i b (Aw _ _ _ h2),?_,b,h2⟩;show G'.α (rnI ρ x)=_;have h3:=Uo J af.2 (x - 8) qo;rw[show 8+(x - 8)=x by omega]at h3;rw[h3,aF _ qo];exact hα0 _ _ h1
 ·obtain⟨p',F,_,hk⟩:=hk
  rw[ae]at F;simp only[dR]at F;have:=hI p p' F.1 F.2;subst this;exact hk v H aw
theorem ct_vc{P:Program}{RD:(Nat->Prop)->World->Nat->Nat->Prop}{tt:List TE}{Γ:List (Nat × Nat × Ct)}{Ρ:Sp}(E:Env P RD tt Γ){f:Nat}{fn:Func}{c:Code}(hf:P.funcs[f]?=some fn)(hb:fn.body=some c)(O:Ci P RD tt Γ Ρ fn.ntmps c)
  {α:Type} {A:α->List Value} {M:α->AW} {F:α->Prop} {z:α->Value->AW->Prop} (J:∀p,okA (A p) (M p) fn.ntmps=true) (W:∀p H,A p=A H->M p=M H->p=H)
  (hv:∀p,F p->vw tt Γ Ρ c (endV tt fn.results.toList (z p)) ⟨Ew 0 (A p),M p,64,0⟩):CH P RD f 0 (ctV A M F z):=
 TH E 0 (AI _) false 0 (λh=>nomatch h) (λh=>nomatch h) hf hb O J (λ_=>rfl) W λp q Y _ Z=>by
  rw[Z rfl];exact hv p Y
abbrev VOK:=Nat->Tm->AW->(Tm->AW->Prop)->Prop
def vOs(tt:List TE)(Γ:List (Nat × Nat × Ct))(ops:List Oper)(c:Nat)(o:Oper)(ih:VOK):VOK:=λj t m k=>
  match EO ops t o with
  |some false=>ih (j+1) (Fr o.dst (.tuple #[]) t) m k
  |some true=>match evs t (Bz o.op) with
   |some vs=>match stv tt o.op vs m with
    |some m'=>S5 m'.2 λm'=>ih (j+1) (Fr o.dst (.tuple #[]) t) m' k
    |none=>match rwg tt (c+8*j) o.op vs m with
     |some T=>T λv m'=>S5 m' λm'=>ih (j+1) (Fr o.dst v t) m' k
     |none=>opg tt Γ (c+8*j) o.op vs (GW m (vs.flatMap Bc)) λv es=>ih (j+1) (Fr o.dst v t) (es++m) k
   |none=>False
  |none=>False
def vOr(tt:List TE)(Γ:List (Nat × Nat × Ct))(ops:List Oper)(c:Nat)(l:List Oper):VOK:=
 List.rec (motive:=λ_=>VOK) (λ_ t m k=>k t m) (λo _ ih=>vOs tt Γ ops c o ih) l
theorem Oy(tt:List TE)(Γ:List (Nat × Nat × Ct))(ops:List Oper)(c:Nat):∀l:List Oper,vOr tt Γ ops c l=vO tt Γ ops c l
 |[]=>rfl
 |o::r=>(show vOs tt Γ ops c o (vOr tt Γ ops c r)=vOs tt Γ ops c o (vO tt Γ ops c r) from ei _ (Oy tt Γ ops c r)).trans (by
   funext j t m k
   rw[vO]
   rfl)
def vRr(tt:List TE)(Γ:List (Nat × Nat × Ct))(ops:List Oper)(s:St)(k:St->Prop):Prop:=
 let X:=vOr tt Γ ops s.c ops 0 s.t s.m λt m=>k ⟨t,m,s.c+8*ops.length,s.q+BS Γ ops⟩
 bif Nat.beq (BS Γ ops) 0 then X else s.q+BS Γ ops<=QM/\X
theorem vRr_eq(tt:List TE)(Γ:List (Nat × Nat × Ct))(ops:List Oper)(s:St)(k:St->Prop):vRr tt Γ ops s k=vR tt Γ ops s k:=by
 unfold vRr vR;rw[Oy]
abbrev VWK:=(Exit->St->Prop)->St->Prop
def vwr(tt:List TE)(Γ:List (Nat × Nat × Ct))(Ρ:Sp)(c:Code):VWK:=
 Code.rec (motive:=λ_=>VWK) (λQ s=>Q .normal s)
  (λi ops _ Q s=>match lk Ρ i with
   |some C=>C s (Q .normal)
   |none=>vRr tt Γ ops.toList s (Q .normal))
  (λ_ _ a b Q s=>a (λe s=>match e with| .normal=>b Q s|e=>Q e s) s)
  (λc _ _ x y Q s=>match evo s.t c with
   |some (.bool true)=>x Q s
   |some (.bool false)=>y Q s
   |_=>False)
  (λi _ c Q s=>c (λe s=>match e with| .exit j=>bif Nat.beq i j then Q .normal s else Q (.exit j) s|e=>Q e s) s)
  (λ_ c Q s=>∃(I:Nat->St->Prop) (n:Nat),(∃s',Ent s s'/\I n s')/\∀n s,I n s->c (λe s=>match e with| .normal=>∃n',n'<n/\∃s',Ent s s'/\I n' s'|e=>Q e s) s)
  (λ_ _ _ _ _ _ _ _=>False) (λi Q s=>Q (.exit i) s) (λ_ _ _ _=>False) (λ_ _ _=>False) (λ_ _ _=>False) (λQ s=>Q .ret s) (λ_ _ _=>False) c
theorem Hd(tt:List TE)(Γ:List (Nat × Nat × Ct))(Ρ:Sp)(c:Code):∀Q s,vwr tt Γ Ρ c Q s=vw tt Γ Ρ c Q s:=by
 induction c with
 |region i H d=>intro Q s;rw[vw];show(match lk Ρ i with|some C=>C s (Q .normal)|none=>vRr tt Γ H.toList s (Q .normal))=_;simp only[vRr_eq];rfl
 |seq a b z F=>
  intro Q s;rw[vw,<-z];show vwr tt Γ Ρ a _ s=_
  congr 1
  funext e s'
  cases e<;>first|exact F Q s'|rfl
 |cond c a b z F=>
  intro Q s;rw[vw,<-z,<-F];rfl
 |block i a z=>intro Q s;rw[vw,<-z];rfl
 |loop a z=>
  intro Q s;rw[vw];simp only[<-z];rfl
 |_=>intros;rfl
section
variable {RD:(Nat->Prop)->World->Nat->Nat->Prop}
theorem Da{Γ:List (Nat × Nat × Ct)}(E:Env Tryz.prog RD TT Γ){f:Nat}{fn:Func}(hf:Tryz.prog.funcs[f]?=some fn)(hb:fn.body.isSome=true)(W:FG [] fn.ntmps (fn.body.getD .skip)=true){α:Type}{A:α->List Value}{M:α->AW}{F:α->Prop}{z:α->Value->AW->Prop}
  (J:∀p,okA (A p) (M p) fn.ntmps=true) (O:∀p H,A p=A H->M p=M H->p=H) (hv:∀p,F p->vwr TT Γ [] (fn.body.getD .skip) (endV TT fn.results.toList (z p)) ⟨Ew 0 (A p),M p,64,0⟩):CH Tryz.prog RD f 0 (ctV A M F z):=
 ct_vc E hf (show fn.body=some (fn.body.getD .skip) from by cases h:fn.body with|none=>rw[h]at hb;cases hb|some _=>rfl) (Cb E qk _ (.nil _) W) J O λp Y=>by
  rw[<-Hd];exact hv p Y
theorem TF(J:Nat)(H:J<=8){Γ:List (Nat × Nat × Ct)}{Ρ:Sp}(E:Env Tryz.prog RD TT Γ){f:Nat}{fn:Func}(hf:Tryz.prog.funcs[f]?=some fn)(hb:fn.body.isSome=true)(hS:SpAll Tryz.prog RD Ρ fn.ntmps (fn.body.getD .skip))(hc:FG Ρ fn.ntmps (fn.body.getD .skip)=true){α:Type}{A:α->List Value}{M:α->AW}{F:α->Prop}{z:α->Value->AW->Prop}
  (W:∀p,okA (A p) (M p) fn.ntmps=true) (Z:∀p,argM J (M p)=true) (Y:∀p O,A p=A O->M p=M O->p=O) (hv:∀p,F p->vwr TT Γ Ρ (fn.body.getD .skip) (endJ J TT fn.results.toList (z p)) ⟨Ew 0 (A p),M p,64,0⟩):CH Tryz.prog RD f 0 (ctW J A M F z):=
 TH E J H false 0 (λh=>nomatch h) (λh=>nomatch h) hf (show fn.body=some (fn.body.getD .skip) from by cases h:fn.body with|none=>rw[h]at hb;cases hb|some _=>rfl) (Cb E qk _ hS hc) W Z Y λp q hp _ hq=>by
  rw[hq rfl,<-Hd];exact hv p hp
theorem NE{Γ:List (Nat × Nat × Ct)}{Ρ:Sp}(E:Env Tryz.prog RD TT Γ)(Y:RDpin RD)(cost:Nat)(J:cost≠0){f:Nat}{fn:Func}(hf:Tryz.prog.funcs[f]?=some fn)(hb:fn.body.isSome=true)(Z:SpAll Tryz.prog RD Ρ fn.ntmps (fn.body.getD .skip))(hc:FG Ρ fn.ntmps (fn.body.getD .skip)=true){α:Type}{A:α->List Value}{M:α->AW}{F:α->Prop}{z:α->Value->AW->Prop}
  (O:∀p,okA (A p) (M p) fn.ntmps true=true) (W:∀p H,A p=A H->M p=M H->p=H) (hv:∀p q,F p->q+cost<=QM->vwr TT Γ Ρ (fn.body.getD .skip) (endR true TT fn.results.toList (z p) (q+cost)) ⟨Ew 0 (A p),M p,64,q⟩):CH Tryz.prog RD f cost (ctV A M F z):=
 TH E 0 (AI _) true cost (λ_=>J) (λ_=>Y) hf (show fn.body=some (fn.body.getD .skip) from by cases h:fn.body with|none=>rw[h]at hb;cases hb|some _=>rfl) (Cb E qk _ Z hc) O (λ_=>rfl) W λp q hp hq _=>by
  rw[<-Hd];exact hv p q hp (hq rfl)
end
end
end Go.Proofs.YtbceafpodamnfaaGreatDoor
