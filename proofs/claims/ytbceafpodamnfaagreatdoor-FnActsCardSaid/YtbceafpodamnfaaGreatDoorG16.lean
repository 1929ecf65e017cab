import Derived.Test.YtbceafpodamnfaaGreatDoorG14
set_option linter.all false
set_option maxHeartbeats 4000000
set_option maxRecDepth 100000
namespace Go.Proofs.YtbceafpodamnfaaGreatDoor
section
open Go.RowKit
def DZ(B:Bk)(nm:qB)(m:Nat):Int:=((B.ah.take m).filter λc=>c.aA.toList==nm.toList).length
theorem NB{B:Bk}{nm:qB}{m:Nat}{c:Cp}(h:B.ah[m]?=some c):DZ B nm (m+1)=G8 (c.aA.toList==nm.toList) (DZ B nm m):=by
 unfold DZ G8;rw[eW,h,gU];cases F:(c.aA.toList==nm.toList)<;>simp[List.filter,F]
theorem Pn(B:Bk)(nm:qB)(m:Nat):0<=DZ B nm m/\DZ B nm m<=m:=by
 unfold DZ;have F:=gD (λc:Cp=>c.aA.toList==nm.toList) (B.ah.take m);have H:(B.ah.take m).length<=m:=by rw[dG];omega
 omega
def Dm(B:Bk)(nm:qB):Int:=DZ B nm B.ah.length
def NZ(B:Bk)(p:ByteArray × Int)(t:Bt):ByteArray × Int:=if(!t.aS&&(p.1.toList==[]||decide (Dm B t.name<p.2)))=true then(t.name,Dm B t.name) else p
def BB(B:Bk)(k:Nat):ByteArray × Int:=(B.ak.take k).foldl (NZ B) (⟨#[]⟩,0)
theorem IV{B:Bk}{k:Nat}{t:Bt}(h:B.ak[k]?=some t):BB B (k+1)=NZ B (BB B k) t:=by
 unfold BB;rw[eW,h,jc];rfl
def C3(B:Bk):ByteArray:=(BB B B.ak.length).1
def Kg(v:Int)(c:Cp):Cp:=if c.ax=2 then {c with ax:=3,ag:=v} else c
def EK(v:Int)(l:List Cp):List Cp:=(l.filter λc=>!c.au).map (Kg v)
def DK(v:Int)(X:Bk)(i:Nat):Bk:=match X.ah[i]? with
 |some c=>if c.ax=1/\C3 X≠⟨#[]⟩ then {X with ah:=X.ah.set i {c with ax:=2,aA:=C3 X,ag:=v}} else X
 |none=>X
def tick0(B:Bk)(v:Int):Bk:={B with ah:=EK v B.ah}
def DX(B:Bk)(v:Int)(k:Nat):Bk:=(List.range k).foldl (DK v) (tick0 B v)
def D0(B:Bk)(v:Int):Bk:=DX B v (EK v B.ah).length
theorem GC(B:Bk)(v:Int)(k:Nat):DX B v (k+1)=DK v (DX B v k) k:=by
 unfold DX;rw[List.range_succ,jc];rfl
theorem NI(v:Int)(X:Bk)(i:Nat):(DK v X i).aj=X.aj/\(DK v X i).af=X.af/\(DK v X i).ak=X.ak/\(DK v X i).ah.length=X.ah.length:=by
 unfold DK;split
 ·split
  ·exact⟨rfl,rfl,rfl,du ..⟩
  ·exact⟨rfl,rfl,rfl,rfl⟩
 ·exact⟨rfl,rfl,rfl,rfl⟩
theorem DS(B:Bk)(v:Int):∀k,(DX B v k).aj=B.aj/\(DX B v k).af=B.af/\(DX B v k).ak=B.ak/\(DX B v k).ah.length=(EK v B.ah).length
 |0=>⟨rfl,rfl,rfl,rfl⟩
 |k+1=>by
  rw[GC];obtain⟨F,H,Y,J⟩:=NI v (DX B v k) k;obtain⟨M,W,Z,q4⟩:=DS B v k;exact⟨F.trans M,H.trans W,Y.trans Z,J.trans q4⟩
theorem P8{v:Int}{l:List Cp}{k:Nat}{c:Cp}(h:l[k]?=some c):EK v (l.take (k+1))=EK v (l.take k)++(if c.au then [] else [Kg v c]):=by
 unfold EK;rw[eW,h,gU,gt];cases F:c.au<;>simp[List.filter,F]
theorem Mh(v:Int)(l:List Cp):(EK v l).length<=l.length:=by
 unfold EK;rw[fw];exact gD _ _
theorem nil_bytes{b:qB}:(b.toList==[])=true↔b=⟨#[]⟩:=by
 have:=same_nm (a:=b) (b:=⟨#[]⟩);rw[show(⟨#[]⟩:qB).toList=[] by rw[fM]]at this;exact this
def Cq{α:Type}(p:α->Bool)(l:List α):Nat:=(l.takeWhile p).length
theorem JV{α:Type}{p:α->Bool}:∀{l:List α} {k:Nat},k<=l.length->(∀(i:Nat) s,i<k->l[i]?=some s->p s=true)->(∀s,l[k]?=some s->p s=false)->Cq p l=k
 |[],k,hk,_,_=>by unfold Cq;simp at hk;simp[hk]
 |x::l,0,_,_,h=>by unfold Cq;rw[gO,dC (by rw[h x rfl];simp)];rfl
 |x::l,k+1,hk,J,M=>by
  have H:Cq p l=k:=JV (by simpa using hk) (λi s W F=>J (i+1) s (by omega) (by simpa using F)) (λs F=>M s (by simpa using F));unfold Cq at H ⊢;rw[gO,dB (J 0 x (by omega) rfl),dL,H]
def Em{α:Type}(nm:α->List UInt8)(l:List α)(x:α):List α:=l.take (Cq (λt=>Op.bytesLess (nm t) (nm x)) l)++x::(match l[Cq (λt=>Op.bytesLess (nm t) (nm x)) l]? with
 |some t=>if(nm t==nm x)=true then l.drop (Cq (λt=>Op.bytesLess (nm t) (nm x)) l+1) else l.drop (Cq (λt=>Op.bytesLess (nm t) (nm x)) l)
 |none=>l.drop (Cq (λt=>Op.bytesLess (nm t) (nm x)) l))
theorem Kz{α:Type}{nm:α->List UInt8}{l:List α}{x t:α}{k:Nat}(h:Cq (λt=>Op.bytesLess (nm t) (nm x)) l=k)(F:l[k]?=some t)(H:(nm t==nm x)=true):Em nm l x=l.take k++x::l.drop (k+1):=by
 unfold Em;rw[h,F];simp only;rw[dB H]
theorem Ji{α:Type}{nm:α->List UInt8}{l:List α}{x t:α}{k:Nat}(h:Cq (λt=>Op.bytesLess (nm t) (nm x)) l=k)(F:l[k]?=some t)(H:(nm t==nm x)=false):Em nm l x=l.take k++x::l.drop k:=by
 unfold Em;rw[h,F];simp only;rw[dC (by rw[H];simp)]
theorem MX{α:Type}{nm:α->List UInt8}{l:List α}{x:α}{k:Nat}(h:Cq (λt=>Op.bytesLess (nm t) (nm x)) l=k)(F:l[k]?=none):Em nm l x=l.take k++x::l.drop k:=by
 unfold Em;rw[h,F]
def btNm(t:Bt):List UInt8:=t.name.toList
def Fm(B:Bk)(nm:qB)(dr:Bool):Bk:={B with ak:=Em btNm B.ak ⟨nm,dr⟩}
def EO(t:Svc):List UInt8:=t.name.toList
def G9(l:List Svc)(x:Svc):Int:=match l[Cq (λt=>Op.bytesLess (EO t) (EO x)) l]? with
 |some t=>if(EO t==EO x)=true then t.next else 1
 |none=>1
def wishS(l:List Svc)(x:Svc)(v:Int):Svc:={x with ag:=v,ay:=0,next:=G9 l x}
def Jb(B:Bk)(x:Svc)(v:Int):Bk:={B with af:=Em EO B.af (wishS B.af x v)}
theorem Pd{l:List Svc}{x t:Svc}{k:Nat}(h:Cq (λt=>Op.bytesLess (EO t) (EO x)) l=k)(F:l[k]?=some t)(H:(EO t==EO x)=true):G9 l x=t.next:=by
 unfold G9;rw[h,F];simp only;rw[dB H]
theorem N9{l:List Svc}{x t:Svc}{k:Nat}(h:Cq (λt=>Op.bytesLess (EO t) (EO x)) l=k)(F:l[k]?=some t)(H:(EO t==EO x)=false):G9 l x=1:=by
 unfold G9;rw[h,F];simp only;rw[dC (by rw[H];simp)]
theorem Rn{l:List Svc}{x:Svc}{k:Nat}(h:Cq (λt=>Op.bytesLess (EO t) (EO x)) l=k)(F:l[k]?=none):G9 l x=1:=by
 unfold G9;rw[h,F]
structure Ev where
 kind:Int
 aa:Svc
 name:ByteArray
 ai:Int
 bf:Bool
@[simp,go_sem,reducible] def qeV (E:Ev):Array Value:=#[.int .i64 E.kind,.string E.aa.name,.int .i64 E.aa.ag,.bool E.aa.aH,.int .i64 E.aa.ar,.int .i64 E.aa.av,.int .i64 E.aa.aG,.int .i64 E.aa.aE,.int .i64 E.aa.next,.int .i64 E.aa.aM,.int .i64 E.aa.aC,.int .i64 E.aa.aK,.int .i64 E.aa.load,.int .i64 E.aa.ay,.string E.name,.int .i64 E.ai,.bool E.bf]
def E8{α:Type}(p:α->Bool)(l:List α):Option (Nat × α):=match l.findIdx? p with
 |some i=>(l[i]?).map λx=>(i,x)
 |none=>none
theorem Qj{α:Type}{p:α->Bool}{l:List α}{i:Nat}{x:α}(h:E8 p l=some (i,x)):FI p l=(i:Int)/\l[i]?=some x/\p x=true:=by
 unfold E8 at h
 cases hf:l.findIdx? p with
 |none=>rw[hf]at h;cases h
 |some j=>
  rw[hf]at h;simp only at h
  cases F:l[j]? with
  |none=>rw[F]at h;cases h
  |some y=>
   rw[F]at h;simp only[eo]at h;have M:=dg h;injection M with h1 h2
   subst h1 h2;refine⟨by unfold FI;rw[hf],F,?_⟩;obtain⟨H,J,_⟩:=fV.1 hf;have:y=l[j]:=by rw[dj H]at F;exact(dg F).symm
   rw[this];exact J
def Jm(B:Bk)(nm:qB)(num v:Int):Bk × Int:=match E8 (isC nm num) B.ah with
 |some (i,c)=>if c.ax=3\/c.ax=2 then({B with aj:=v,ah:=B.ah.set i {c with ax:=4,ag:=v}},0) else(B,3)
 |none=>(B,3)
def sinkB(B:Bk)(nm:qB)(v:Int):Bk × Int:=match E8 (λt:Bt=>t.name.toList==nm.toList) B.ak with
 |some (i,_)=>({B with aj:=v,ak:=B.ak.take i++B.ak.drop (i+1),ah:=B.ah.filter λc=>!(c.aA.toList==nm.toList)},0)
 |none=>(B,3)
def LJ(B:Bk)(nm:qB)(num v:Int):Bk × Int:=match E8 (λs:Svc=>s.name.toList==nm.toList) B.af with
 |some (i,s)=>if s.aM=0 then(B,3) else({B with aj:=v,af:=B.af.set i {s with load:=num,ag:=v}},0)
 |none=>(B,3)
def AS(B:Bk)(E:Ev):Bk × Int:=
 if E.kind=1 then({D0 B (B.aj+1) with aj:=B.aj+1},0)
 else if E.kind=2 then({Jb B E.aa (B.aj+1) with aj:=B.aj+1},0)
 else if E.kind=3 then Jm B E.name E.ai (B.aj+1)
 else if E.kind=4 then sinkB B E.name (B.aj+1)
 else if E.kind=5 then({Fm B E.name E.bf with aj:=B.aj+1},0)
 else if E.kind=6 then LJ B E.name E.ai (B.aj+1)
 else(B,4)
def Ev.aD(E:Ev):Prop:=E.aa.name.size<=maxLen/\E.name.size<=maxLen
def noBk:Bk:=⟨0,[],[],[]⟩
def Cb(B:Bk)(E:Ev):Bk × Int:=
 if Ag B=true then
  if 1000000<=B.aj then(B,if inB E.kind 1 6=true then 7 else 4)
  else if(AS B E).2=0 then(if Ag (AS B E).1=true then((AS B E).1,0) else(B,2)) else(B,(AS B E).2)
 else(noBk,1)
theorem MW{α:Type}(nm:α->List UInt8)(l:List α)(x:α):(Em nm l x).length<=l.length+1:=by
 unfold Em;rw[dE,dL,dG];split
 ·split<;>rw[dW]<;>omega
 ·rw[dW];omega
theorem MV{α:Type}{nm:α->List UInt8}{l:List α}{x y:α}(h:y∈Em nm l x):y=x\/y∈l:=by
 unfold Em at h;rcases dt.1 h with h|h
 ·exact .inr (eE h)
 ·rcases dy.1 h with h|h
  ·exact .inl h
  ·right
   split at h
   ·split at h<;>exact ep h
   ·exact ep h
theorem Fu{B:Bk}(F:∀t∈B.ak,t.name.size<=maxLen):∀k,(BB B k).1.size<=maxLen
 |0=>by show(⟨#[]⟩:qB).size<=maxLen;decide
 |k+1=>by
  cases h:B.ak[k]? with
  |none=>
   have:BB B (k+1)=BB B k:=by
    unfold BB;rw[eW,h];simp
   rw[this];exact Fu F k
  |some t=>
   rw[IV h];unfold NZ;split
   ·exact F t (AE h)
   ·exact Fu F k
theorem Kf(v:Int)(c:Cp):(Kg v c).aa=c.aa/\(Kg v c).aA=c.aA:=by
 unfold Kg
 split<;>exact⟨rfl,rfl⟩
theorem IF{B:Bk}{v:Int}(W:B.aD):∀k,∀c∈(DX B v k).ah,c.aa.size<=maxLen/\c.aA.size<=maxLen
 |0=>λc F=>by
  have H:c∈EK v B.ah:=F;unfold EK at H;obtain⟨d,M,rfl⟩:=fz.1 H;rw[(Kf v d).1,(Kf v d).2];exact W.2.2.2.2.1 d ((List.mem_filter.1 M).1)
 |k+1=>λc F=>by
  rw[GC]at F;unfold DK at F;have J:=IF (v:=v) W k;split at F
  ·rename_i d M
   split at F
   ·rcases eu F with h|h
    ·exact J c h
    ·rw[h]
     refine⟨(J d (AE M)).1,?_⟩;show(C3 (DX B v k)).size<=maxLen;unfold C3;refine Fu ?_ _;rw[(DS B v k).2.2.1];exact W.2.2.2.2.2
   ·exact J c F
  ·exact J c F
theorem PQ{α:Type}{p:α->Bool}{l:List α}{i:Nat}{x:α}(h:E8 p l=some (i,x)):i<l.length/\x∈l:=by
 have:=(Qj h).2.1;exact⟨(AC this).1,AE this⟩
theorem MO(B:Bk)(E:Ev):(AS B E).1.af.length<=B.af.length+1/\(AS B E).1.ah.length<=B.ah.length/\(AS B E).1.ak.length<=B.ak.length+1:=by
 unfold AS;split
 ·obtain⟨_,F,H,J⟩:=DS B (B.aj+1) (EK (B.aj+1) B.ah).length
  refine⟨?_,?_,?_⟩
  ·show(D0 B (B.aj+1)).af.length<=_;unfold D0;rw[F];omega
  ·show(D0 B (B.aj+1)).ah.length<=_;unfold D0;rw[J];exact Mh _ _
  ·show(D0 B (B.aj+1)).ak.length<=_;unfold D0;rw[H];omega
 split
 ·exact⟨MW _ _ _,AG _,fh _⟩
 split
 ·unfold Jm
  split
  ·split
   ·exact⟨fh _,by simp,fh _⟩
   ·exact⟨fh _,AG _,fh _⟩
  ·exact⟨fh _,AG _,fh _⟩
 split
 ·unfold sinkB
  split
  ·exact⟨fh _,gD _ _,by simp only[dE,dG,dW];omega⟩
  ·exact⟨fh _,AG _,fh _⟩
 split
 ·exact⟨fh _,AG _,MW _ _ _⟩
 split
 ·unfold LJ
  split
  ·split
   ·exact⟨fh _,AG _,fh _⟩
   ·exact⟨by simp,AG _,fh _⟩
  ·exact⟨fh _,AG _,fh _⟩
 ·exact⟨fh _,AG _,fh _⟩
theorem OO{B:Bk}{E:Ev}(H:B.aD)(W:E.aD):(∀s∈(AS B E).1.af,s.name.size<=maxLen)/\(∀c∈(AS B E).1.ah,c.aa.size<=maxLen/\c.aA.size<=maxLen)/\(∀t∈(AS B E).1.ak,t.name.size<=maxLen):=by
 have z1:=H.2.2.2.1;have z2:=H.2.2.2.2.1;have z3:=H.2.2.2.2.2;unfold AS;split
 ·refine⟨?_,?_,?_⟩
  ·show ∀s∈(D0 B (B.aj+1)).af,_;unfold D0;rw[(DS B _ _).2.1];exact z1
  ·exact IF H _
  ·show ∀s∈(D0 B (B.aj+1)).ak,_;unfold D0;rw[(DS B _ _).2.2.1];exact z3
 split
 ·refine⟨λs Y=>?_,z2,z3⟩
  rcases MV Y with h|h
  ·rw[h];exact W.1
  ·exact z1 s h
 split
 ·unfold Jm
  split
  ·rename_i i c M
   split
   ·refine⟨z1,λd F=>?_,z3⟩
    rcases eu F with h|h
    ·exact z2 d h
    ·rw[h];exact z2 c (PQ M).2
   ·exact⟨z1,z2,z3⟩
  ·exact⟨z1,z2,z3⟩
 split
 ·unfold sinkB
  split
  ·refine⟨z1,λd F=>z2 d ((List.mem_filter.1 F).1),λt J=>?_⟩
   rcases dt.1 J with h|h
   ·exact z3 t (eE h)
   ·exact z3 t (ep h)
  ·exact⟨z1,z2,z3⟩
 split
 ·refine⟨z1,z2,λt J=>?_⟩
  rcases MV J with h|h
  ·rw[h];exact W.2
  ·exact z3 t h
 split
 ·unfold LJ
  split
  ·rename_i i s M
   split
   ·exact⟨z1,z2,z3⟩
   ·refine⟨λd F=>?_,z2,z3⟩
    rcases eu F with h|h
    ·exact z1 d h
    ·rw[h];exact z1 s (PQ M).2
  ·exact⟨z1,z2,z3⟩
 ·exact⟨z1,z2,z3⟩
theorem GH{B:Bk}{E:Ev}(F:Ag B=true):(AS B E).1.aJ:=by
 unfold Ag at F;simp only[cY,dM]at F;obtain⟨H,J,M⟩:=MO B E;exact⟨by omega,by omega,by omega⟩
theorem Jf{B:Bk}{E:Ev}(H:Ag B=true)(F:B.aD)(M:E.aD):(AS B E).1.aD:=by
 obtain⟨Z,h2,h3⟩:=GH (E:=E) H;obtain⟨J,W,Y⟩:=OO F M;exact⟨by unfold maxLen;omega,by unfold maxLen;omega,by unfold maxLen;omega,J,W,Y⟩
section
variable {RD:(Nat->Prop)->World->Nat->Nat->Prop}
abbrev ctLeast:Ct:=ctV (λp:BP=>[p.v]) (λp=>p.m) (λp=>p.tn) λp v es=>es=[]/\v=.string (C3 p.B)
theorem bk_inj(p H:BP)(h:[p.v]=[H.v])(F:p.m=H.m):p=H:=by
 simp only[BP.m,bkM,dv,dw,fu,dV]at h F;exact BP.inj h F.1 F.2.1 F.2.2
def leSt(B:Bk)(c1 c2 c3 i:Nat)(p:ByteArray × Int):St:=⟨[(5,.int .i64 i),(4,.int .i64 p.2),(3,.string p.1),(1,.complex .f64 64 0)],(64,AT (D5 B c1 c2 c3) 28)::bkM B,88,0⟩
theorem least_ct(hR:B9 RD):B7 Tryz.prog RD 329 0 ctLeast:=by
 refine Ci (Aw hR) Tryz.func329 (by kernel_rfl) (by kernel_rfl) (λ_=>rfl) bk_inj ?_;rintro⟨B,c1,c2,c3⟩ ⟨_,hl,hb⟩;have hl:B.ah.length<=1000:=hl;have hb:B.ak.length<=1000:=hb;refine⟨λn s=>∃i:Nat,i<=B.ak.length/\n=B.ak.length - i/\s=leSt B c1 c2 c3 i (BB B i),B.ak.length,⟨_,(by refine⟨[],?_,?_,rfl,rfl,AG _⟩<;>repeat' (first|exact rfl|exact trivial|exact⟨_,rfl,.same _ _ rfl⟩|apply cW)),0,by omega,by omega,rfl⟩,?_⟩;rintro n _ ⟨i,hi,rfl,rfl⟩;refine cW (λY=>?_) (λY=>?_)
 ·obtain⟨H,W⟩:∃H,B.ak[i]?=some H:=⟨B.ak[i]'(by omega),by simp⟩
  refine⟨λn s=>∃k:Nat,k<=B.ah.length/\n=B.ah.length - k/\s=⟨[(7,.int .i64 k),(6,.int .i64 (DZ B H.name k)),(5,.int .i64 i),(4,.int .i64 (BB B i).2),(3,.string (BB B i).1),(1,.complex .f64 64 0)],(64,AT (D5 B c1 c2 c3) 28)::bkM B,88,0⟩,B.ah.length,⟨_,(by refine⟨[],?_,?_,rfl,rfl,AG _⟩<;>repeat' (first|exact rfl|exact trivial|exact⟨_,rfl,.same _ _ rfl⟩|apply cW)),0,by omega,by omega,rfl⟩,?_⟩;rintro n _ ⟨k,hk,rfl,rfl⟩;have ar:=Pn B H.name k;refine cW (λZ=>?_) (λZ=>?_)
  ·refine cW (by omega) (cW Z (cW (AG _) (λcp al=>?_)))
   refine cW (by omega) (cW Y (cW (AG _) (λag F=>?_)));rw[di]at al F;cases W.symm.trans F;have ai:=NB (nm:=H.name) al;refine cW (λhe=>?_) (λhe=>?_)
   ·intro n1 h1 n2 J
    have h1:n1=DZ B H.name (k+1):=by rw[ai,he];have:=h1 ⟨by omega,by omega⟩;show _=_+1;omega
    have J:n2=((k+1:Nat):Int):=by have:=J ⟨by omega,by omega⟩;omega
    subst h1 J;exact⟨B.ah.length - (k+1),by omega,_,(by refine⟨[],?_,?_,rfl,rfl,AG _⟩<;>repeat' (first|exact rfl|exact trivial|exact⟨_,rfl,.same _ _ rfl⟩|apply cW)),k+1,by omega,rfl,rfl⟩
   ·intro n2 J
    have h1:DZ B H.name k=DZ B H.name (k+1):=by rw[ai,he];rfl
    have J:n2=((k+1:Nat):Int):=by have:=J ⟨by omega,by omega⟩;omega
    subst J;rw[h1];exact⟨B.ah.length - (k+1),by omega,_,(by refine⟨[],?_,?_,rfl,rfl,AG _⟩<;>repeat' (first|exact rfl|exact trivial|exact⟨_,rfl,.same _ _ rfl⟩|apply cW)),k+1,by omega,rfl,rfl⟩
  ·obtain rfl:k=B.ah.length:=by omega
   have am:=IV W;refine cW (by omega) (cW Y (cW (AG _) (λag F=>?_)));rw[di]at F;cases W.symm.trans F
   have M:∀b:Bool,(!H.aS&&((BB B i).1.toList==[]||decide (Dm B H.name<(BB B i).2)))=b->BB B (i+1)=bif b then(H.name,Dm B H.name) else BB B i:=λb hb=>by
    rw[am];unfold NZ;rw[hb];cases b<;>rfl
   have key:∀b:Bool,(!H.aS&&((BB B i).1.toList==[]||decide (Dm B H.name<(BB B i).2)))=b->∀n2:Int,(inR ((i:Int)+1)->n2=i+1)->n2=((i+1:Nat):Int)/\BB B (i+1)=bif b then(H.name,Dm B H.name) else BB B i:=λb hb n2 J=>⟨by have:=J ⟨by omega,by omega⟩;omega,M b hb⟩
   have aa:∀(hb:(!H.aS&&((BB B i).1.toList==[]||decide (Dm B H.name<(BB B i).2)))=false),BB B i=BB B (i+1):=λhb=>(M _ hb).symm
   refine cW (λhd=>?_) (λhd=>?_)
   ·intro n2 J
    obtain⟨rfl,_⟩:=key _ rfl n2 J;rw[aa (by rw[hd];rfl)];exact⟨B.ak.length - (i+1),by omega,_,(by refine⟨[],?_,?_,rfl,rfl,AG _⟩<;>repeat' (first|exact rfl|exact trivial|exact⟨_,rfl,.same _ _ rfl⟩|apply cW)),i+1,by omega,rfl,rfl⟩
   ·have go:∀(hb:(!H.aS&&((BB B i).1.toList==[]||decide (Dm B H.name<(BB B i).2)))=true),BB B (i+1)=(H.name,Dm B H.name):=λhb=>M _ hb
    refine cW (λhe=>?_) (λhe=>?_)<;>rw[fM ⟨#[]⟩]at he
    ·refine cW (by omega) (cW Y (cW (AG _) (λag F=>?_)))
     rw[di]at F;cases W.symm.trans F;intro n2 J;obtain⟨rfl,_⟩:=key _ rfl n2 J;exact⟨B.ak.length - (i+1),by omega,leSt B c1 c2 c3 (i+1) (H.name,Dm B H.name),(by refine⟨[],?_,?_,rfl,rfl,AG _⟩<;>repeat' (first|exact rfl|exact trivial|exact⟨_,rfl,.same _ _ rfl⟩|apply cW)),i+1,by omega,rfl,by rw[go (by rw[hd,show((BB B i).1.toList==[])=true from he];rfl)]⟩
    ·refine cW (λhn=>?_) (λhn=>?_)
     ·refine cW (by omega) (cW Y (cW (AG _) (λag F=>?_)))
      rw[di]at F;cases W.symm.trans F;intro n2 J;obtain⟨rfl,_⟩:=key _ rfl n2 J;exact⟨B.ak.length - (i+1),by omega,leSt B c1 c2 c3 (i+1) (H.name,Dm B H.name),(by refine⟨[],?_,?_,rfl,rfl,AG _⟩<;>repeat' (first|exact rfl|exact trivial|exact⟨_,rfl,.same _ _ rfl⟩|apply cW)),i+1,by omega,rfl,by rw[go (by rw[hd,dO (show Dm B H.name<(BB B i).2 from hn),iZ];rfl)]⟩
     ·intro n2 J
      obtain⟨rfl,_⟩:=key _ rfl n2 J;rw[aa (by rw[hd,show((BB B i).1.toList==[])=false from he,dQ (show ¬Dm B H.name<(BB B i).2 from hn)];rfl)];exact⟨B.ak.length - (i+1),by omega,_,(by refine⟨[],?_,?_,rfl,rfl,AG _⟩<;>repeat' (first|exact rfl|exact trivial|exact⟨_,rfl,.same _ _ rfl⟩|apply cW)),i+1,by omega,rfl,rfl⟩
 ·obtain rfl:i=B.ak.length:=by omega
  exact⟨.inl rfl,_,rfl,⟨_,_,[],⟨rfl,rfl⟩,rfl,trivial,rfl,rfl,trivial⟩,rfl⟩
def bkVx(B:Bk)(c1 c3 i n cp:Nat):List Value:=[.int .i64 B.aj,.iface 0 (.slice none B.af.length c1),.iface i (.slice none n cp),.iface 2 (.slice none B.ak.length c3)]
def ST:List Value:=[.int .i64 0,.slice none 0 0,.slice none 0 0,.slice none 0 0]
abbrev ctTick:Ct:=ctW 3 (λp:BP × Int=>[p.1.v,.int .i64 p.2]) (λp=>p.1.m) (λp=>p.1.tn) λp v es=>∃n cp,n=(D0 p.1.B p.2).ah.length/\v=.agg #[.int .i64 p.1.B.aj,.iface 8 (.slice none p.1.B.af.length p.1.c1),.iface 0 (.slice none n cp),.iface 10 (.slice none p.1.B.ak.length p.1.c3)]/\es=[(0,An 76 7 cp cpL (D0 p.1.B p.2).ah)]
theorem bki_inj(p F:BP × Int)(h:[p.1.v,.int .i64 p.2]=[F.1.v,.int .i64 F.2])(H:p.1.m=F.1.m):p=F:=by
 obtain⟨p,s⟩:=p;obtain⟨F,J⟩:=F;simp only[BP.m,bkM,dv,dw,fu,dV,fF]at h H;rw[BP.inj h.1 H.1 H.2.1 H.2.2,h.2]
theorem tick_ct(hR:B9 RD):B7 Tryz.prog RD 279 0 ctTick:=by
 refine QR 3 (by decide) (AZ (Aw hR) (f:=329) (by kernel_rfl) (least_ct hR)) Tryz.func279 (by kernel_rfl) (.nil _) (by kernel_rfl) (λ_=>rfl) (λ_=>rfl) bki_inj ?_;rintro⟨⟨B,c1,c2,c3⟩,v⟩ ⟨hs,hl,hb⟩;have hl:B.ah.length<=1000:=hl;refine⟨λn s=>∃(i k cp:Nat) (L:List Cp),i<=B.ah.length/\n=B.ah.length - i/\L=EK v (B.ah.take i)/\k=L.length/\s=⟨[(6,.int .i64 i),(5,.iface 80 (.slice none k cp)),(4,.complex .f64 72 0),(2,.complex .f64 64 0),(1,.int .i64 v)],(80,An 76 7 cp cpL L)::(72,AT ST 28)::(64,AT (D5 B c1 c2 c3) 28)::bkM B,100,0⟩,B.ah.length,⟨_,(by refine⟨[],?_,?_,rfl,rfl,AG _⟩<;>repeat' (first|exact rfl|exact trivial|exact⟨Dd 76 7 [],rfl,GM (f:=cpL) []⟩|exact⟨_,rfl,.same _ _ rfl⟩|apply cW)),0,0,0,[],by omega,by omega,rfl,rfl,rfl⟩,?_⟩;rintro n _ ⟨i,k,cp,L,hi,rfl,hL,hk,rfl⟩
 have aE:k<=1000:=by
  rw[hk,hL];exact AH (Mh v _) (by rw[dG];omega)
 refine cW (λF=>?_) (λF=>?_)
 ·refine cW (by omega) (cW F (cW (AG _) (λc Y=>?_)))
  rw[di]at Y;have Z:=P8 (v:=v) Y;have J:∀y:Int,(inR ((i:Int)+1)->y=i+1)->y=((i+1:Nat):Int):=λy H=>by have:=H ⟨by omega,by omega⟩;omega
  refine cW (λM=>?_) (λM=>?_)
  ·intro y H
   obtain rfl:=J y H;exact⟨B.ah.length - (i+1),by omega,_,(by refine⟨[],?_,?_,rfl,rfl,AG _⟩<;>repeat' (first|exact rfl|exact trivial|exact⟨_,rfl,.same _ _ rfl⟩|apply cW)),i+1,k,cp,L,by omega,rfl,by rw[Z,M,hL];simp,hk,rfl⟩
  ·refine cW (λh2=>?_) (λh2=>?_)
   ·refine cW hk (cW rfl (cW (AG _) (cW (by omega) (λc'=>?_))))
    intro y H;obtain rfl:=J y H;refine⟨B.ah.length - (i+1),by omega,_,?_,i+1,k+1,c',L++[{c with ax:=3,ag:=v}],by omega,rfl,by rw[Z,hL,dC (by rw[M];decide)];unfold Kg;rw[dB h2],by rw[hk];simp,rfl⟩;refine⟨[(80,300)],?_,?_,rfl,rfl,AG _⟩<;>repeat' (first|exact rfl|exact trivial|exact⟨_,rfl,DE (f:=cpL) L {c with ax:=3,ag:=v}⟩|exact⟨_,rfl,.same _ _ rfl⟩|apply cW)
   ·refine cW hk (cW rfl (cW (AG _) (cW (by omega) (λc'=>?_))))
    intro y H;obtain rfl:=J y H;refine⟨B.ah.length - (i+1),by omega,_,?_,i+1,k+1,c',L++[c],by omega,rfl,by rw[Z,hL,dC (by rw[M];decide)];unfold Kg;rw[dC h2],by rw[hk];simp,rfl⟩;refine⟨[(80,260)],?_,?_,rfl,rfl,AG _⟩<;>repeat' (first|exact rfl|exact trivial|exact⟨_,rfl,DE (f:=cpL) L c⟩|exact⟨_,rfl,.same _ _ rfl⟩|apply cW)
 ·obtain rfl:i=B.ah.length:=by omega
  rw[gR]at hL;have al:k=(EK v B.ah).length:=by rw[hk,hL]
  refine⟨λn s=>∃(i:Nat) (L:List Cp),i<=k/\n=k - i/\DX B v i={B with ah:=L}/\k=L.length/\s=⟨[(8,.int .i64 i),(4,.complex .f64 72 0),(2,.complex .f64 64 0),(1,.int .i64 v)],(80,An 76 7 cp cpL L)::(72,AT ST 28)::(64,AT (bkVx B c1 c3 80 k cp) 28)::bkM B,100,0⟩,k,⟨_,(by refine⟨[],?_,?_,rfl,rfl,AG _⟩<;>repeat' (first|exact rfl|exact trivial|exact⟨_,rfl,.same _ _ rfl⟩|apply cW)),0,L,by omega,by omega,by rw[hL];rfl,hk,rfl⟩,?_⟩;clear hk hL L;rintro n _ ⟨i,L,hi,rfl,hL,hk,rfl⟩;have W:=GC B v i;rw[hL]at W;refine cW (λF=>?_) (λF=>?_)
  ·refine⟨⟨{B with ah:=L},c1,cp,c3⟩,by subst hk;rfl,⟨hs,by show L.length<=1000;omega,hb⟩,?_⟩
   rintro _ _ ⟨rfl,rfl⟩;have J:∀y:Int,(inR ((i:Int)+1)->y=i+1)->y=((i+1:Nat):Int):=λy H=>by have:=H ⟨by omega,by omega⟩;omega
   refine cW (by omega) (cW F (cW (by show k<=L.length;omega) (cW (by show(i:Int).toNat<L.length;omega) (λc Y=>?_))));rw[di]at Y;have ak:¬(c.ax=1/\C3 {B with ah:=L}≠⟨#[]⟩)->DK v {B with ah:=L} i={B with ah:=L}:=λh=>by unfold DK;rw[show({B with ah:=L}:Bk).ah[i]?=some c from Y];exact dC h
   have am:c.ax=1/\C3 {B with ah:=L}≠⟨#[]⟩->DK v {B with ah:=L} i={B with ah:=L.set i {c with ax:=2,aA:=C3 {B with ah:=L},ag:=v}}:=λh=>by unfold DK;rw[show({B with ah:=L}:Bk).ah[i]?=some c from Y];exact dB h
   refine cW (λh1=>?_) (λh1=>?_)
   ·refine cW (λM=>?_) (λM=>?_)
    ·have aa:C3 {B with ah:=L}≠⟨#[]⟩:=λe=>by rw[e]at M;simp at M
     refine cW (by omega) (cW F (cW (by show k<=L.length;omega) (cW (by show(i:Int).toNat<L.length;omega) (cW (λ_ _ _=>trivial) ?_))));refine cW (by omega) (cW F (cW (by show k<=L.length;omega) (cW (by show(i:Int).toNat<L.length;omega) (cW (λ_ _ _=>trivial) ?_))));refine cW (by omega) (cW F (cW (by show k<=L.length;omega) (cW (by show(i:Int).toNat<L.length;omega) (cW (λ_ _ _=>trivial) ?_))));intro y H;obtain rfl:=J y H;refine⟨k - (i+1),by omega,_,?_,i+1,L.set i {c with ax:=2,aA:=C3 {B with ah:=L},ag:=v},by omega,rfl,by rw[W];exact am ⟨h1,aa⟩,by rw[du];exact hk,rfl⟩
     have af:LeB [] (Ix (Ix (Ix (An 76 7 cp cpL L) (i:Int).toNat 4 [.int .i64 2]) (i:Int).toNat 6 [.string (C3 {B with ah:=L})]) (i:Int).toNat 2 [.int .i64 v]) (An 76 7 cp cpL (L.set i {c with ax:=2,aA:=C3 {B with ah:=L},ag:=v})):=by
      rw[di];have ai:=(AC Y).1;have e1:=BK (ρ:=[]) (o:=4) (vs:=[.int .i64 2]) (x':={c with ax:=2}) (.same _ _ rfl:LeB [] (An 76 7 cp cpL L) _) Y rfl;have e2:=BK (o:=6) (vs:=[.string (C3 {B with ah:=L})]) (a:=i) (x:={c with ax:=2}) (x':={c with ax:=2,aA:=C3 {B with ah:=L}}) e1 (by rw[fc,dB rfl,dB ai]) rfl;have e3:=BK (o:=2) (vs:=[.int .i64 v]) (a:=i) (x:={c with ax:=2,aA:=C3 {B with ah:=L}}) (x':={c with ax:=2,aA:=C3 {B with ah:=L},ag:=v}) e2 (by rw[fc,dB rfl,dB (by rw[du];exact ai)]) rfl;rw[fX,fX]at e3;exact e3
     refine⟨[],?_,?_,rfl,rfl,AG _⟩<;>repeat' (first|exact rfl|exact trivial|exact⟨_,rfl,af⟩|exact⟨_,rfl,.same _ _ rfl⟩|apply cW)
    ·have aa:C3 {B with ah:=L}=⟨#[]⟩:=nil_bytes.1 (by rw[fM ⟨#[]⟩]at M;simpa using M)
     intro y H;obtain rfl:=J y H;exact⟨k - (i+1),by omega,_,(by refine⟨[],?_,?_,rfl,rfl,AG _⟩<;>repeat' (first|exact rfl|exact trivial|exact⟨_,rfl,.same _ _ rfl⟩|apply cW)),i+1,L,by omega,rfl,by rw[W];exact ak λh=>h.2 aa,hk,rfl⟩
   ·intro y H
    obtain rfl:=J y H;exact⟨k - (i+1),by omega,_,(by refine⟨[],?_,?_,rfl,rfl,AG _⟩<;>repeat' (first|exact rfl|exact trivial|exact⟨_,rfl,.same _ _ rfl⟩|apply cW)),i+1,L,by omega,rfl,by rw[W];exact ak λh=>h1 h.1,hk,rfl⟩
  ·obtain rfl:i=k:=by omega
   have hT:(D0 B v).ah=L:=by unfold D0;rw[<-al,hL]
   refine⟨.inl rfl,_,rfl,⟨_,_,[(8,0),(9,1),(10,2),(0,80)],⟨i,cp,by rw[hT];exact hk,rfl,rfl⟩,rfl,⟨⟨_,rfl,?_⟩,trivial⟩,rfl,rfl,⟨λ_ _=>trivial,trivial⟩⟩,rfl⟩;rw[hT];exact .same _ _ rfl
end
section
variable {RD:(Nat->Prop)->World->Nat->Nat->Prop}
theorem bksb_inj(p F:BP × ByteArray × Bool)(h:[p.1.v,.string p.2.1,.bool p.2.2]=[F.1.v,.string F.2.1,.bool F.2.2])(H:p.1.m=F.1.m):p=F:=by
 obtain⟨p,s,n⟩:=p;obtain⟨F,M,J⟩:=F;simp only[BP.m,bkM,dv,dw,fu,dV,gC,iP]at h H;rw[BP.inj h.1 H.1 H.2.1 H.2.2,h.2.1,h.2.2]
abbrev Rb:Ct:=ctW 3 (λp:BP × ByteArray × Bool=>[p.1.v,.string p.2.1,.bool p.2.2]) (λp=>p.1.m) (λp=>p.1.tn/\p.1.B.ak.length<=p.1.c3) λp v es=>∃n cp,n=(Fm p.1.B p.2.1 p.2.2).ak.length/\v=.agg #[.int .i64 p.1.B.aj,.iface 8 (.slice none p.1.B.af.length p.1.c1),.iface 9 (.slice none p.1.B.ah.length p.1.c2),.iface 0 (.slice none n cp)]/\es=[(0,An 90 2 cp btL (Fm p.1.B p.2.1 p.2.2).ak)]
theorem raise_ct(hR:B9 RD):B7 Tryz.prog RD 281 0 Rb:=by
 refine QR 3 (by decide) (Aw hR) Tryz.func281 (by kernel_rfl) (.nil _) (by kernel_rfl) (λ_=>rfl) (λ_=>rfl) bksb_inj ?_;rintro⟨⟨B,c1,c2,c3⟩,nm,dr⟩ ⟨⟨_,_,hl⟩,M⟩;have hl:B.ak.length<=1000:=hl;have M:B.ak.length<=c3:=M;refine⟨λn s=>∃k:Nat,k<=B.ak.length/\n=B.ak.length - k/\(∀(i:Nat) t,i<k->B.ak[i]?=some t->Op.bytesLess (btNm t) nm.toList=true)/\s=⟨[(7,.int .i64 k),(6,.complex .f64 72 0),(3,.complex .f64 64 0),(2,.bool dr),(1,.string nm)],(72,AT ST 28)::(64,AT (D5 B c1 c2 c3) 28)::bkM B,100,0⟩,B.ak.length,⟨_,(by refine⟨[],?_,?_,rfl,rfl,AG _⟩<;>repeat' (first|exact rfl|exact trivial|exact⟨_,rfl,.same _ _ rfl⟩|apply cW)),0,by omega,by omega,(λ_ _ h=>by omega),rfl⟩,?_⟩;rintro n _ ⟨k,hk,rfl,ai,rfl⟩;have af:(∀t,B.ak[k]?=some t->Op.bytesLess (btNm t) nm.toList=false)->Cq (λt=>Op.bytesLess (btNm t) (btNm ⟨nm,dr⟩)) B.ak=k:=λh=>JV hk ai h
 refine cW (λah=>?_) (λah=>?_)
 ·refine cW (by omega) (cW ah (cW (AG _) (λtb H=>?_)))
  rw[di]at H;refine cW (λhe=>?_) (λhe=>?_)
  ·intro y hy
   have hy:y=((k+1:Nat):Int):=by have:=hy ⟨by omega,by omega⟩;omega
   subst hy
   exact⟨B.ak.length - (k+1),by omega,_,(by refine⟨[],?_,?_,rfl,rfl,AG _⟩<;>repeat' (first|exact rfl|exact trivial|exact⟨_,rfl,.same _ _ rfl⟩|apply cW)),k+1,by omega,rfl,λi t hi J=>by
    by_cases e:i=k
    ·subst e;rw[H]at J;cases J;exact he
    ·exact ai i t (by omega) J,rfl⟩
  ·have hf:=af λt J=>by rw[H]at J;cases J;exact he
   refine cW (by omega) (cW (by omega) (cW (AG _) (cW M ?_)));refine cW (λh0=>?_) (λh0=>?_)
   ·refine cW (by omega) (cW h0 (cW (AG _) (λam F=>?_)))
    have F:B.ak[(k:Int).toNat+0]?=some am:=F;rw[di,fW,H]at F;cases F;refine cW (λhq=>?_) (λhq=>?_)
    ·refine cW (by omega) (cW (by show(1:Int)<=((B.ak.length - (k:Int).toNat:Nat):Int);omega) (cW (AG _) (cW (by omega) ?_)))
     refine cW (by omega) (cW (by omega) (cW (by show(k:Int).toNat<=B.ak.length;omega) ?_));refine cW rfl (cW rfl (cW (AG _) (cW (by show 0+(k:Int).toNat<=1000000000;omega) (cW (λ_ _ _ _=>⟨rfl,rfl⟩) (λd1=>?_)))));refine cW rfl (cW rfl (cW (AG _) (cW (by show 0+(k:Int).toNat+1<=1000000000;omega) (λd2=>?_))));refine cW rfl (cW rfl (cW (AG _) (cW (by show 0+(k:Int).toNat+1+(B.ak.length - (k:Int).toNat - (1:Int).toNat)<=1000000000;omega) (cW (λ_ _ _ _=>⟨rfl,rfl⟩) (λW=>?_)))));have Y:=Fo (ρ:=[(8,0),(9,1),(10,2),(0,468)]) (ty:=90) (sz:=2) (c1:=d1) (c2:=d2) (c3:=W) (m:=(B.ak.length - (k:Int).toNat - (1:Int).toNat)) (f:=btL) (l:=B.ak) (x:=⟨nm,dr⟩) (k:=(k:Int).toNat) (d:=(k:Int).toNat+1) (b:=EP (EP (A9 90 2 btL B.ak) (k:Int).toNat (B.ak.length - (k:Int).toNat)) 1 (B.ak.length - (k:Int).toNat - 1)) (by omega) (by omega) (λj kk h x hx=>h x (by rw[eq];exact hx));have Z:B.ak.take (k:Int).toNat++⟨nm,dr⟩::B.ak.drop ((k:Int).toNat+1)=(Fm B nm dr).ak:=by rw[di];exact(Kz hf H hq).symm
     rw[Z]at Y;exact⟨.inl rfl,_,rfl,⟨_,_,[(8,0),(9,1),(10,2),(0,468)],⟨_,W,by have h:=em List.length Z;rw[dE,dL,dG,dW]at h;rw[<-h];show 0+(k:Int).toNat+1+(B.ak.length - (k:Int).toNat - (1:Int).toNat)=_;omega,rfl,rfl⟩,rfl,⟨⟨_,rfl,Y⟩,trivial⟩,rfl,rfl,⟨λ_ _=>trivial,trivial⟩⟩,rfl⟩
    ·refine cW (by omega) (cW (by omega) (cW (by show(k:Int).toNat<=B.ak.length;omega) ?_))
     refine cW rfl (cW rfl (cW (AG _) (cW (by show 0+(k:Int).toNat<=1000000000;omega) (cW (λ_ _ _ _=>⟨rfl,rfl⟩) (λd1=>?_)))));refine cW rfl (cW rfl (cW (AG _) (cW (by show 0+(k:Int).toNat+1<=1000000000;omega) (λd2=>?_))));refine cW rfl (cW rfl (cW (AG _) (cW (by show 0+(k:Int).toNat+1+(B.ak.length - (k:Int).toNat)<=1000000000;omega) (cW (λ_ _ _ _=>⟨rfl,rfl⟩) (λW=>?_)))));have Y:=Fo (ρ:=[(8,0),(9,1),(10,2),(0,444)]) (ty:=90) (sz:=2) (c1:=d1) (c2:=d2) (c3:=W) (m:=(B.ak.length - (k:Int).toNat)) (f:=btL) (l:=B.ak) (x:=⟨nm,dr⟩) (k:=(k:Int).toNat) (d:=(k:Int).toNat) (b:=EP (A9 90 2 btL B.ak) (k:Int).toNat (B.ak.length - (k:Int).toNat)) (by omega) (by omega) (λj kk h x hx=>h x hx);have Z:B.ak.take (k:Int).toNat++⟨nm,dr⟩::B.ak.drop ((k:Int).toNat)=(Fm B nm dr).ak:=by rw[di];exact(Ji hf H hq).symm
     rw[Z]at Y;exact⟨.inl rfl,_,rfl,⟨_,_,[(8,0),(9,1),(10,2),(0,444)],⟨_,W,by have h:=em List.length Z;rw[dE,dL,dG,dW]at h;rw[<-h];show 0+(k:Int).toNat+1+(B.ak.length - (k:Int).toNat)=_;omega,rfl,rfl⟩,rfl,⟨⟨_,rfl,Y⟩,trivial⟩,rfl,rfl,⟨λ_ _=>trivial,trivial⟩⟩,rfl⟩
   ·exact absurd h0 (by show ¬¬(0:Int)<((B.ak.length - (k:Int).toNat:Nat):Int);omega)
 ·have hf:=af λt J=>by rw[dZ (by omega)]at J;cases J
  refine cW (by omega) (cW (by omega) (cW (AG _) (cW M ?_)));refine cW (λh0=>?_) (λh0=>?_)
  ·exact absurd h0 (by show ¬(0:Int)<((B.ak.length - (k:Int).toNat:Nat):Int);omega)
  ·refine cW (by omega) (cW (by omega) (cW (by show(k:Int).toNat<=B.ak.length;omega) ?_))
   refine cW rfl (cW rfl (cW (AG _) (cW (by show 0+(k:Int).toNat<=1000000000;omega) (cW (λ_ _ _ _=>⟨rfl,rfl⟩) (λd1=>?_)))));refine cW rfl (cW rfl (cW (AG _) (cW (by show 0+(k:Int).toNat+1<=1000000000;omega) (λd2=>?_))));refine cW rfl (cW rfl (cW (AG _) (cW (by show 0+(k:Int).toNat+1+(B.ak.length - (k:Int).toNat)<=1000000000;omega) (cW (λ_ _ _ _=>⟨rfl,rfl⟩) (λW=>?_)))));have Y:=Fo (ρ:=[(8,0),(9,1),(10,2),(0,444)]) (ty:=90) (sz:=2) (c1:=d1) (c2:=d2) (c3:=W) (m:=(B.ak.length - (k:Int).toNat)) (f:=btL) (l:=B.ak) (x:=⟨nm,dr⟩) (k:=(k:Int).toNat) (d:=(k:Int).toNat) (b:=EP (A9 90 2 btL B.ak) (k:Int).toNat (B.ak.length - (k:Int).toNat)) (by omega) (by omega) (λj kk h x hx=>h x hx);have Z:B.ak.take (k:Int).toNat++⟨nm,dr⟩::B.ak.drop ((k:Int).toNat)=(Fm B nm dr).ak:=by rw[di];exact(MX hf (dZ (by omega))).symm
   rw[Z]at Y;exact⟨.inl rfl,_,rfl,⟨_,_,[(8,0),(9,1),(10,2),(0,444)],⟨_,W,by have h:=em List.length Z;rw[dE,dL,dG,dW]at h;rw[<-h];show 0+(k:Int).toNat+1+(B.ak.length - (k:Int).toNat)=_;omega,rfl,rfl⟩,rfl,⟨⟨_,rfl,Y⟩,trivial⟩,rfl,rfl,⟨λ_ _=>trivial,trivial⟩⟩,rfl⟩
theorem bkw_inj(p F:BP × Svc × Int)(h:[p.1.v,Ei p.2.1,.int .i64 p.2.2]=[F.1.v,Ei F.2.1,.int .i64 F.2.2])(H:p.1.m=F.1.m):p=F:=by
 obtain⟨p,s,n⟩:=p;obtain⟨F,M,J⟩:=F;simp only[BP.m,bkM,dv,dw,fu,dV,fF]at h H;rw[BP.inj h.1 H.1 H.2.1 H.2.2,DY h.2.1,h.2.2]
abbrev RZ:Ct:=ctW 3 (λp:BP × Svc × Int=>[p.1.v,Ei p.2.1,.int .i64 p.2.2]) (λp=>p.1.m) (λp=>p.1.tn/\p.1.B.af.length<=p.1.c1) λp v es=>∃n cp,n=(Jb p.1.B p.2.1 p.2.2).af.length/\v=.agg #[.int .i64 p.1.B.aj,.iface 0 (.slice none n cp),.iface 9 (.slice none p.1.B.ah.length p.1.c2),.iface 10 (.slice none p.1.B.ak.length p.1.c3)]/\es=[(0,An 34 13 cp svL (Jb p.1.B p.2.1 p.2.2).af)]
abbrev ΡW:Sp:=[(11,vC TT (A8 11 (Tryz.f280.body.getD .skip)) 12 24 0 54 [(5,59,58),(8,62,61),(10,64,63)])]
theorem specW(H:B9 RD):SpAll Tryz.prog RD ΡW Tryz.f280.ntmps (Tryz.f280.body.getD .skip):=by
 intro i C hC p F;obtain⟨rfl,rfl⟩:i=11/\C=_:=by simpa using cZ.1 (Aj _ _ _ hC)
 cases cZ.1 (show p∈[(_,_)] from F);exact Ie (Aw H) (by kernel_rfl) (by kernel_rfl) (by kernel_rfl) (by kernel_rfl) ⟨_,rfl,rfl,rfl⟩ ⟨⟨_,rfl,rfl,rfl⟩,⟨_,rfl,rfl,rfl⟩,⟨_,rfl,rfl,rfl⟩,trivial⟩
theorem wishB_ct(hR:B9 RD):B7 Tryz.prog RD 280 0 RZ:=by
 refine QR 3 (by decide) (Aw hR) Tryz.func280 (by kernel_rfl) (specW hR) (by kernel_rfl) (λ_=>rfl) (λ_=>rfl) bkw_inj ?_;rintro⟨⟨B,c1,c2,c3⟩,s,v⟩ ⟨⟨hl,_,_⟩,M⟩;have hl:B.af.length<=1000:=hl;have M:B.af.length<=c1:=M;refine⟨λn z=>∃k:Nat,k<=B.af.length/\n=B.af.length - k/\(∀(i:Nat) t,i<k->B.af[i]?=some t->Op.bytesLess (EO t) (EO s)=true)/\z=⟨[(7,.int .i64 k),(6,.complex .f64 80 0),(4,.complex .f64 72 0),(3,.complex .f64 64 0),(2,.int .i64 v)],(80,AT ST 28)::(72,AT (svL s) 34)::(64,AT (D5 B c1 c2 c3) 28)::bkM B,100,0⟩,B.af.length,⟨_,(by refine⟨[],?_,?_,rfl,rfl,AG _⟩<;>repeat' (first|exact rfl|exact trivial|exact⟨_,rfl,.same _ _ rfl⟩|apply cW)),0,by omega,by omega,(λ_ _ h=>by omega),rfl⟩,?_⟩;rintro n _ ⟨k,hk,rfl,an,rfl⟩;have ai:(∀t,B.af[k]?=some t->Op.bytesLess (EO t) (EO s)=false)->Cq (λt=>Op.bytesLess (EO t) (EO s)) B.af=k:=λh=>JV hk an h
 refine cW (λal=>?_) (λal=>?_)
 ·refine cW (by omega) (cW al (cW (AG _) (λtb H=>?_)))
  rw[di]at H;refine cW (λhe=>?_) (λhe=>?_)
  ·intro y hy
   have hy:y=((k+1:Nat):Int):=by have:=hy ⟨by omega,by omega⟩;omega
   subst hy
   exact⟨B.af.length - (k+1),by omega,_,(by refine⟨[],?_,?_,rfl,rfl,AG _⟩<;>repeat' (first|exact rfl|exact trivial|exact⟨_,rfl,.same _ _ rfl⟩|apply cW)),k+1,by omega,rfl,λi t hi J=>by
    by_cases e:i=k
    ·subst e;rw[H]at J;cases J;exact he
    ·exact an i t (by omega) J,rfl⟩
  ·have hf:=ai λt J=>by rw[H]at J;cases J;exact he
   refine cW (by omega) (cW (by omega) (cW (AG _) (cW M ?_)));refine cW (λh0=>?_) (λh0=>?_)
   ·refine cW (by omega) (cW h0 (cW (AG _) (λaa F=>?_)))
    have F:B.af[(k:Int).toNat+0]?=some aa:=F;rw[di,fW,H]at F;cases F;refine cW (λhq=>?_) (λhq=>?_)
    ·refine cW (by omega) (cW h0 (cW (AG _) (λaa F=>?_)))
     have F:B.af[(k:Int).toNat+0]?=some aa:=F;rw[di,fW,H]at F;cases F;refine cW (by omega) (cW (by show(1:Int)<=((B.af.length - (k:Int).toNat:Nat):Int);omega) (cW (AG _) (cW (by omega) ?_)));refine⟨[],λ_=>cW (by omega) (cW (by omega) (cW (by show(k:Int).toNat<=B.af.length;omega) ?_))⟩;refine cW (AG _) (cW (by show 0+(k:Int).toNat<=1000000000;omega) (cW (λ_ _ _ _=>⟨rfl,rfl⟩) (λd1=>?_)));refine cW (AG _) (cW (by show 0+(k:Int).toNat+1<=1000000000;omega) (λd2=>?_));refine cW (AG _) (cW (by show 0+(k:Int).toNat+1+(B.af.length - (k:Int).toNat - (1:Int).toNat)<=1000000000;omega) (cW (λ_ _ _ _=>⟨rfl,rfl⟩) (λW=>?_)));have Y:=Fo (ρ:=[(8,0),(9,1),(10,2),(0,596)]) (ty:=34) (sz:=13) (c1:=d1) (c2:=d2) (c3:=W) (m:=(B.af.length - (k:Int).toNat - (1:Int).toNat)) (f:=svL) (l:=B.af) (x:={s with ag:=v,ay:=0,next:=tb.next}) (k:=(k:Int).toNat) (d:=(k:Int).toNat+1) (b:=EP (EP (A9 34 13 svL B.af) (k:Int).toNat (B.af.length - (k:Int).toNat)) 1 (B.af.length - (k:Int).toNat - 1)) (by omega) (by omega) (λj kk h x hx=>h x (by rw[eq];exact hx));have Z:B.af.take (k:Int).toNat++{s with ag:=v,ay:=0,next:=tb.next}::B.af.drop ((k:Int).toNat+1)=(Jb B s v).af:=by rw[di];exact Eq.symm (by show Em EO B.af {s with ag:=v,ay:=0,next:=G9 B.af s}=_;rw[Pd hf H hq];exact Kz hf H hq)
     rw[Z]at Y;exact⟨.inl rfl,_,rfl,⟨_,_,[(8,0),(9,1),(10,2),(0,596)],⟨_,W,by have h:=em List.length Z;rw[dE,dL,dG,dW]at h;rw[<-h];show 0+(k:Int).toNat+1+(B.af.length - (k:Int).toNat - (1:Int).toNat)=_;omega,rfl,rfl⟩,rfl,⟨⟨_,rfl,Y⟩,trivial⟩,rfl,rfl,⟨λ_ _=>trivial,trivial⟩⟩,rfl⟩
    ·refine⟨[],λ_=>cW (by omega) (cW (by omega) (cW (by show(k:Int).toNat<=B.af.length;omega) ?_))⟩
     refine cW (AG _) (cW (by show 0+(k:Int).toNat<=1000000000;omega) (cW (λ_ _ _ _=>⟨rfl,rfl⟩) (λd1=>?_)));refine cW (AG _) (cW (by show 0+(k:Int).toNat+1<=1000000000;omega) (λd2=>?_));refine cW (AG _) (cW (by show 0+(k:Int).toNat+1+(B.af.length - (k:Int).toNat)<=1000000000;omega) (cW (λ_ _ _ _=>⟨rfl,rfl⟩) (λW=>?_)));have Y:=Fo (ρ:=[(8,0),(9,1),(10,2),(0,524)]) (ty:=34) (sz:=13) (c1:=d1) (c2:=d2) (c3:=W) (m:=(B.af.length - (k:Int).toNat)) (f:=svL) (l:=B.af) (x:={s with ag:=v,ay:=0,next:=1}) (k:=(k:Int).toNat) (d:=(k:Int).toNat) (b:=EP (A9 34 13 svL B.af) (k:Int).toNat (B.af.length - (k:Int).toNat)) (by omega) (by omega) (λj kk h x hx=>h x hx);have Z:B.af.take (k:Int).toNat++{s with ag:=v,ay:=0,next:=1}::B.af.drop ((k:Int).toNat)=(Jb B s v).af:=by rw[di];exact Eq.symm (by show Em EO B.af {s with ag:=v,ay:=0,next:=G9 B.af s}=_;rw[N9 hf H hq];exact Ji hf H hq)
     rw[Z]at Y;exact⟨.inl rfl,_,rfl,⟨_,_,[(8,0),(9,1),(10,2),(0,524)],⟨_,W,by have h:=em List.length Z;rw[dE,dL,dG,dW]at h;rw[<-h];show 0+(k:Int).toNat+1+(B.af.length - (k:Int).toNat)=_;omega,rfl,rfl⟩,rfl,⟨⟨_,rfl,Y⟩,trivial⟩,rfl,rfl,⟨λ_ _=>trivial,trivial⟩⟩,rfl⟩
   ·exact absurd h0 (by show ¬¬(0:Int)<((B.af.length - (k:Int).toNat:Nat):Int);omega)
 ·have hf:=ai λt J=>by rw[dZ (by omega)]at J;cases J
  refine cW (by omega) (cW (by omega) (cW (AG _) (cW M ?_)));refine cW (λh0=>?_) (λh0=>?_)
  ·exact absurd h0 (by show ¬(0:Int)<((B.af.length - (k:Int).toNat:Nat):Int);omega)
  ·refine⟨[],λ_=>cW (by omega) (cW (by omega) (cW (by show(k:Int).toNat<=B.af.length;omega) ?_))⟩
   refine cW (AG _) (cW (by show 0+(k:Int).toNat<=1000000000;omega) (cW (λ_ _ _ _=>⟨rfl,rfl⟩) (λd1=>?_)));refine cW (AG _) (cW (by show 0+(k:Int).toNat+1<=1000000000;omega) (λd2=>?_));refine cW (AG _) (cW (by show 0+(k:Int).toNat+1+(B.af.length - (k:Int).toNat)<=1000000000;omega) (cW (λ_ _ _ _=>⟨rfl,rfl⟩) (λW=>?_)));have Y:=Fo (ρ:=[(8,0),(9,1),(10,2),(0,524)]) (ty:=34) (sz:=13) (c1:=d1) (c2:=d2) (c3:=W) (m:=(B.af.length - (k:Int).toNat)) (f:=svL) (l:=B.af) (x:={s with ag:=v,ay:=0,next:=1}) (k:=(k:Int).toNat) (d:=(k:Int).toNat) (b:=EP (A9 34 13 svL B.af) (k:Int).toNat (B.af.length - (k:Int).toNat)) (by omega) (by omega) (λj kk h x hx=>h x hx);have Z:B.af.take (k:Int).toNat++{s with ag:=v,ay:=0,next:=1}::B.af.drop ((k:Int).toNat)=(Jb B s v).af:=by rw[di];exact Eq.symm (by show Em EO B.af {s with ag:=v,ay:=0,next:=G9 B.af s}=_;rw[Rn hf (dZ (by omega))];exact MX hf (dZ (by omega)))
   rw[Z]at Y;exact⟨.inl rfl,_,rfl,⟨_,_,[(8,0),(9,1),(10,2),(0,524)],⟨_,W,by have h:=em List.length Z;rw[dE,dL,dG,dW]at h;rw[<-h];show 0+(k:Int).toNat+1+(B.af.length - (k:Int).toNat)=_;omega,rfl,rfl⟩,rfl,⟨⟨_,rfl,Y⟩,trivial⟩,rfl,rfl,⟨λ_ _=>trivial,trivial⟩⟩,rfl⟩
end
end
end Go.Proofs.YtbceafpodamnfaaGreatDoor
