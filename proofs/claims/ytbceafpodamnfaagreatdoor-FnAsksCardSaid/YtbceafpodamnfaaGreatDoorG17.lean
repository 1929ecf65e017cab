import Derived.Test.YtbceafpodamnfaaGreatDoorG15
set_option linter.all false
set_option maxHeartbeats 4000000
set_option maxRecDepth 100000
namespace Go.Proofs.YtbceafpodamnfaaGreatDoor
section
open Go.RowKit
def ED(B:Bk)(nm:qB)(m:Nat):Int:=((B.ar.take m).filter λc=>c.aC.toList==nm.toList).length
theorem O9{B:Bk}{nm:qB}{m:Nat}{c:Cp}(h:B.ar[m]?=some c):ED B nm (m+1)=IC (c.aC.toList==nm.toList) (ED B nm m):=by
 unfold ED IC;rw[ec,h,ez];cases z:(c.aC.toList==nm.toList)<;>simp[List.filter,z]
theorem SO(B:Bk)(nm:qB)(m:Nat):0<=ED B nm m/\ED B nm m<=m:=by
 unfold ED;have z:=dV (λc:Cp=>c.aC.toList==nm.toList) (B.ar.take m);have F:(B.ar.take m).length<=m:=by rw[dI];omega
 omega
def ER(B:Bk)(nm:qB):Int:=ED B nm B.ar.length
def PZ(B:Bk)(p:ByteArray × Int)(t:Bt):ByteArray × Int:=if(!t.aM&&(p.1.toList==[]||decide (ER B t.name<p.2)))=true then(t.name,ER B t.name) else p
def BN(B:Bk)(k:Nat):ByteArray × Int:=(B.aw.take k).foldl (PZ B) (⟨#[]⟩,0)
theorem Jy{B:Bk}{k:Nat}{t:Bt}(h:B.aw[k]?=some t):BN B (k+1)=PZ B (BN B k) t:=by
 unfold BN;rw[ec,h,iP];rfl
def DV(B:Bk):ByteArray:=(BN B B.aw.length).1
def MD(v:Int)(c:Cp):Cp:=if c.ay=2 then {c with ay:=3,ag:=v} else c
def FE(v:Int)(l:List Cp):List Cp:=(l.filter λc=>!c.am).map (MD v)
def Du(v:Int)(X:Bk)(i:Nat):Bk:=match X.ar[i]? with
 |some c=>if c.ay=1/\DV X≠⟨#[]⟩ then {X with ar:=X.ar.set i {c with ay:=2,aC:=DV X,ag:=v}} else X
 |none=>X
def tick0(B:Bk)(v:Int):Bk:={B with ar:=FE v B.ar}
def EC(B:Bk)(v:Int)(k:Nat):Bk:=(List.range k).foldl (Du v) (tick0 B v)
def Ei(B:Bk)(v:Int):Bk:=EC B v (FE v B.ar).length
theorem Hf(B:Bk)(v:Int)(k:Nat):EC B v (k+1)=Du v (EC B v k) k:=by
 unfold EC;rw[List.range_succ,iP];rfl
theorem PL(v:Int)(X:Bk)(i:Nat):(Du v X i).av=X.av/\(Du v X i).ah=X.ah/\(Du v X i).aw=X.aw/\(Du v X i).ar.length=X.ar.length:=by
 unfold Du;split
 ·split
  ·exact⟨rfl,rfl,rfl,dC ..⟩
  ·exact⟨rfl,rfl,rfl,rfl⟩
 ·exact⟨rfl,rfl,rfl,rfl⟩
theorem Dz(B:Bk)(v:Int):∀k,(EC B v k).av=B.av/\(EC B v k).ah=B.ah/\(EC B v k).aw=B.aw/\(EC B v k).ar.length=(FE v B.ar).length
 |0=>⟨rfl,rfl,rfl,rfl⟩
 |k+1=>by
  rw[Hf];obtain⟨z,F,H,J⟩:=PL v (EC B v k) k;obtain⟨M,O,W,Y⟩:=Dz B v k;exact⟨z.trans M,F.trans O,H.trans W,J.trans Y⟩
theorem Ss{v:Int}{l:List Cp}{k:Nat}{c:Cp}(h:l[k]?=some c):FE v (l.take (k+1))=FE v (l.take k)++(if c.am then [] else [MD v c]):=by
 unfold FE;rw[ec,h,ez,fm];cases z:c.am<;>simp[List.filter,z]
theorem OV(v:Int)(l:List Cp):(FE v l).length<=l.length:=by
 unfold FE;rw[ef];exact dV _ _
theorem nil_bytes{b:qB}:(b.toList==[])=true↔b=⟨#[]⟩:=by
 have:=same_nm (a:=b) (b:=⟨#[]⟩);rw[show(⟨#[]⟩:qB).toList=[] by rw[fY]]at this;exact this
def DG{α:Type}(p:α->Bool)(l:List α):Nat:=(l.takeWhile p).length
theorem Kz{α:Type}{p:α->Bool}:∀{l:List α} {k:Nat},k<=l.length->(∀(i:Nat) s,i<k->l[i]?=some s->p s=true)->(∀s,l[k]?=some s->p s=false)->DG p l=k
 |[],k,hk,_,_=>by unfold DG;simp at hk;simp[hk]
 |x::l,0,_,_,h=>by unfold DG;rw[g8,dk (by rw[h x rfl];simp)];rfl
 |x::l,k+1,hk,F,J=>by
  have H:DG p l=k:=Kz (by simpa using hk) (λi s M z=>F (i+1) s qo (by simpa using z)) (λs z=>J s (by simpa using z));unfold DG at H ⊢;rw[g8,dv (F 0 x qo rfl),dM,H]
def Fb{α:Type}(nm:α->List UInt8)(l:List α)(x:α):List α:=l.take (DG (λt=>Op.bytesLess (nm t) (nm x)) l)++x::(match l[DG (λt=>Op.bytesLess (nm t) (nm x)) l]? with
 |some t=>if(nm t==nm x)=true then l.drop (DG (λt=>Op.bytesLess (nm t) (nm x)) l+1) else l.drop (DG (λt=>Op.bytesLess (nm t) (nm x)) l)
 |none=>l.drop (DG (λt=>Op.bytesLess (nm t) (nm x)) l))
theorem MX{α:Type}{nm:α->List UInt8}{l:List α}{x t:α}{k:Nat}(h:DG (λt=>Op.bytesLess (nm t) (nm x)) l=k)(F:l[k]?=some t)(z:(nm t==nm x)=true):Fb nm l x=l.take k++x::l.drop (k+1):=by
 unfold Fb;rw[h,F];simp only;rw[dv z]
theorem LH{α:Type}{nm:α->List UInt8}{l:List α}{x t:α}{k:Nat}(h:DG (λt=>Op.bytesLess (nm t) (nm x)) l=k)(F:l[k]?=some t)(z:(nm t==nm x)=false):Fb nm l x=l.take k++x::l.drop k:=by
 unfold Fb;rw[h,F];simp only;rw[dk (by rw[z];simp)]
theorem ON{α:Type}{nm:α->List UInt8}{l:List α}{x:α}{k:Nat}(h:DG (λt=>Op.bytesLess (nm t) (nm x)) l=k)(z:l[k]?=none):Fb nm l x=l.take k++x::l.drop k:=by
 unfold Fb;rw[h,z]
def btNm(t:Bt):List UInt8:=t.name.toList
def Gi(B:Bk)(nm:qB)(dr:Bool):Bk:={B with aw:=Fb btNm B.aw ⟨nm,dr⟩}
def FJ(t:Svc):List UInt8:=t.name.toList
def Ii(l:List Svc)(x:Svc):Int:=match l[DG (λt=>Op.bytesLess (FJ t) (FJ x)) l]? with
 |some t=>if(FJ t==FJ x)=true then t.next else 1
 |none=>1
def wishS(l:List Svc)(x:Svc)(v:Int):Svc:={x with ag:=v,aA:=0,next:=Ii l x}
def K8(B:Bk)(x:Svc)(v:Int):Bk:={B with ah:=Fb FJ B.ah (wishS B.ah x v)}
theorem SD{l:List Svc}{x t:Svc}{k:Nat}(h:DG (λt=>Op.bytesLess (FJ t) (FJ x)) l=k)(F:l[k]?=some t)(z:(FJ t==FJ x)=true):Ii l x=t.next:=by
 unfold Ii;rw[h,F];simp only;rw[dv z]
theorem QI{l:List Svc}{x t:Svc}{k:Nat}(h:DG (λt=>Op.bytesLess (FJ t) (FJ x)) l=k)(F:l[k]?=some t)(z:(FJ t==FJ x)=false):Ii l x=1:=by
 unfold Ii;rw[h,F];simp only;rw[dk (by rw[z];simp)]
theorem Uw{l:List Svc}{x:Svc}{k:Nat}(h:DG (λt=>Op.bytesLess (FJ t) (FJ x)) l=k)(z:l[k]?=none):Ii l x=1:=by
 unfold Ii;rw[h,z]
end
section
open Go.RowKit
open Go.Value renaming int->In,slice->Sl,string->Sg,bool->Bo,pointer->Po
open Go.IntKind renaming i64->i6
structure Ev where
 kind:Int
 aa:Svc
 name:ByteArray
 ak:Int
 bq:Bool
abbrev qeV (E:Ev):Array Value:=#[In i6 E.kind,Sg E.aa.name,In i6 E.aa.ag,Bo E.aa.aH,In i6 E.aa.aj,In i6 E.aa.au,In i6 E.aa.aK,In i6 E.aa.aG,In i6 E.aa.next,In i6 E.aa.aQ,In i6 E.aa.az,In i6 E.aa.aI,In i6 E.aa.load,In i6 E.aa.aA,Sg E.name,In i6 E.ak,Bo E.bq]
def Fo{α:Type}(p:α->Bool)(l:List α):Option (Nat × α):=match l.findIdx? p with
 |some i=>(l[i]?).map λx=>(i,x)
 |none=>none
theorem Td{α:Type}{p:α->Bool}{l:List α}{i:Nat}{x:α}(h:Fo p l=some (i,x)):F5 p l=(i:Int)/\l[i]?=some x/\p x=true:=by
 unfold Fo at h
 cases hf:l.findIdx? p with
 |none=>rw[hf]at h;cases h
 |some j=>
  rw[hf]at h;simp only at h
  cases z:l[j]? with
  |none=>rw[z]at h;cases h
  |some y=>
   rw[z]at h;simp only[eO]at h;have H:=dj h;injection H with h1 h2
   subst h1 h2;refine⟨by unfold F5;rw[hf],z,?_⟩;obtain⟨F,J,_⟩:=fp.1 hf;have:y=l[j]:=by rw[dz F]at z;exact(dj z).symm
   rw[this];exact J
def LL(B:Bk)(nm:qB)(num v:Int):Bk × Int:=match Fo (isC nm num) B.ar with
 |some (i,c)=>if c.ay=3\/c.ay=2 then({B with av:=v,ar:=B.ar.set i {c with ay:=4,ag:=v}},0) else(B,3)
 |none=>(B,3)
def sinkB(B:Bk)(nm:qB)(v:Int):Bk × Int:=match Fo (λt:Bt=>t.name.toList==nm.toList) B.aw with
 |some (i,_)=>({B with av:=v,aw:=B.aw.take i++B.aw.drop (i+1),ar:=B.ar.filter λc=>!(c.aC.toList==nm.toList)},0)
 |none=>(B,3)
def Mw(B:Bk)(nm:qB)(num v:Int):Bk × Int:=match Fo (λs:Svc=>s.name.toList==nm.toList) B.ah with
 |some (i,s)=>if s.aQ=0 then(B,3) else({B with av:=v,ah:=B.ah.set i {s with load:=num,ag:=v}},0)
 |none=>(B,3)
def AS(B:Bk)(E:Ev):Bk × Int:=
 if E.kind=1 then({Ei B (B.av+1) with av:=B.av+1},0)
 else if E.kind=2 then({K8 B E.aa (B.av+1) with av:=B.av+1},0)
 else if E.kind=3 then LL B E.name E.ak (B.av+1)
 else if E.kind=4 then sinkB B E.name (B.av+1)
 else if E.kind=5 then({Gi B E.name E.bq with av:=B.av+1},0)
 else if E.kind=6 then Mw B E.name E.ak (B.av+1)
 else(B,4)
end
section
open Go.RowKit
def Ev.aP(E:Ev):Prop:=E.aa.name.size<=maxLen/\E.name.size<=maxLen
def noBk:Bk:=⟨0,[],[],[]⟩
def Cv(B:Bk)(E:Ev):Bk × Int:=
 if Aj B=true then
  if 1000000<=B.av then(B,if inB E.kind 1 6=true then 7 else 4)
  else if(AS B E).2=0 then(if Aj (AS B E).1=true then((AS B E).1,0) else(B,2)) else(B,(AS B E).2)
 else(noBk,1)
theorem OM{α:Type}(nm:α->List UInt8)(l:List α)(x:α):(Fb nm l x).length<=l.length+1:=by
 unfold Fb;rw[dE,dM,dI];split
 ·split<;>rw[eh]<;>omega
 ·rw[eh];omega
theorem OL{α:Type}{nm:α->List UInt8}{l:List α}{x y:α}(h:y∈Fb nm l x):y=x\/y∈l:=by
 unfold Fb at h;rcases dO.1 h with h|h
 ·exact .inr (eP h)
 ·rcases dJ.1 h with h|h
  ·exact .inl h
  ·right
   split at h
   ·split at h<;>exact eE h
   ·exact eE h
theorem Gq{B:Bk}(z:∀t∈B.aw,t.name.size<=maxLen):∀k,(BN B k).1.size<=maxLen
 |0=>by show(⟨#[]⟩:qB).size<=maxLen;decide
 |k+1=>by
  cases h:B.aw[k]? with
  |none=>
   have:BN B (k+1)=BN B k:=by
    unfold BN;rw[ec,h];simp
   rw[this];exact Gq z k
  |some t=>
   rw[Jy h];unfold PZ;split
   ·exact z t (AE h)
   ·exact Gq z k
theorem MC(v:Int)(c:Cp):(MD v c).aa=c.aa/\(MD v c).aC=c.aC:=by
 unfold MD
 split<;>exact⟨rfl,rfl⟩
theorem Jb{B:Bk}{v:Int}(J:B.aP):∀k,∀c∈(EC B v k).ar,c.aa.size<=maxLen/\c.aC.size<=maxLen
 |0=>λc z=>by
  have F:c∈FE v B.ar:=z;unfold FE at F;obtain⟨d,M,rfl⟩:=fa.1 F;rw[(MC v d).1,(MC v d).2];exact J.2.2.2.2.1 d ((eR.1 M).1)
 |k+1=>λc z=>by
  rw[Hf]at z;unfold Du at z;have H:=Jb (v:=v) J k;split at z
  ·rename_i d M
   split at z
   ·rcases eU z with h|h
    ·exact H c h
    ·rw[h]
     refine⟨(H d (AE M)).1,?_⟩;show(DV (EC B v k)).size<=maxLen;unfold DV;refine Gq ?_ _;rw[(Dz B v k).2.2.1];exact J.2.2.2.2.2
   ·exact H c z
  ·exact H c z
theorem Rx{α:Type}{p:α->Bool}{l:List α}{i:Nat}{x:α}(h:Fo p l=some (i,x)):i<l.length/\x∈l:=by
 have:=(Td h).2.1;exact⟨(AC this).1,AE this⟩
theorem OD(B:Bk)(E:Ev):(AS B E).1.ah.length<=B.ah.length+1/\(AS B E).1.ar.length<=B.ar.length/\(AS B E).1.aw.length<=B.aw.length+1:=by
 unfold AS;split
 ·obtain⟨_,z,F,H⟩:=Dz B (B.av+1) (FE (B.av+1) B.ar).length
  refine⟨?_,?_,?_⟩
  ·show(Ei B (B.av+1)).ah.length<=_;unfold Ei;rw[z];omega
  ·show(Ei B (B.av+1)).ar.length<=_;unfold Ei;rw[H];exact OV _ _
  ·show(Ei B (B.av+1)).aw.length<=_;unfold Ei;rw[F];omega
 split
 ·exact⟨OM _ _ _,AG,fG _⟩
 split
 ·unfold LL
  split
  ·split
   ·exact⟨fG _,qs,fG _⟩
   ·exact⟨fG _,AG,fG _⟩
  ·exact⟨fG _,AG,fG _⟩
 split
 ·unfold sinkB
  split
  ·exact⟨fG _,dV _ _,by simp only[dE,dI,eh];omega⟩
  ·exact⟨fG _,AG,fG _⟩
 split
 ·exact⟨fG _,AG,OM _ _ _⟩
 split
 ·unfold Mw
  split
  ·split
   ·exact⟨fG _,AG,fG _⟩
   ·exact⟨qs,AG,fG _⟩
  ·exact⟨fG _,AG,fG _⟩
 ·exact⟨fG _,AG,fG _⟩
theorem Qc{B:Bk}{E:Ev}(F:B.aP)(M:E.aP):(∀s∈(AS B E).1.ah,s.name.size<=maxLen)/\(∀c∈(AS B E).1.ar,c.aa.size<=maxLen/\c.aC.size<=maxLen)/\(∀t∈(AS B E).1.aw,t.name.size<=maxLen):=by
 have z1:=F.2.2.2.1;have z2:=F.2.2.2.2.1;have z3:=F.2.2.2.2.2;unfold AS;split
 ·refine⟨?_,?_,?_⟩
  ·show ∀s∈(Ei B (B.av+1)).ah,_;unfold Ei;rw[(Dz B _ _).2.1];exact z1
  ·exact Jb F _
  ·show ∀s∈(Ei B (B.av+1)).aw,_;unfold Ei;rw[(Dz B _ _).2.2.1];exact z3
 split
 ·refine⟨λs O=>?_,z2,z3⟩
  rcases OL O with h|h
  ·rw[h];exact M.1
  ·exact z1 s h
 split
 ·unfold LL
  split
  ·rename_i i c H
   split
   ·refine⟨z1,λd z=>?_,z3⟩
    rcases eU z with h|h
    ·exact z2 d h
    ·rw[h];exact z2 c (Rx H).2
   ·exact⟨z1,z2,z3⟩
  ·exact⟨z1,z2,z3⟩
 split
 ·unfold sinkB
  split
  ·refine⟨z1,λd z=>z2 d ((eR.1 z).1),λt J=>?_⟩
   rcases dO.1 J with h|h
   ·exact z3 t (eP h)
   ·exact z3 t (eE h)
  ·exact⟨z1,z2,z3⟩
 split
 ·refine⟨z1,z2,λt J=>?_⟩
  rcases OL J with h|h
  ·rw[h];exact M.2
  ·exact z3 t h
 split
 ·unfold Mw
  split
  ·rename_i i s H
   split
   ·exact⟨z1,z2,z3⟩
   ·refine⟨λd z=>?_,z2,z3⟩
    rcases eU z with h|h
    ·exact z1 d h
    ·rw[h];exact z1 s (Rx H).2
  ·exact⟨z1,z2,z3⟩
 ·exact⟨z1,z2,z3⟩
theorem Hk{B:Bk}{E:Ev}(z:Aj B=true):(AS B E).1.aR:=by
 unfold Aj at z;simp only[di,dS]at z;obtain⟨F,H,J⟩:=OD B E;exact⟨qo,qo,qo⟩
theorem LC{B:Bk}{E:Ev}(F:Aj B=true)(H:B.aP)(z:E.aP):(AS B E).1.aP:=by
 obtain⟨W,Y,Z⟩:=Hk (E:=E) F;obtain⟨J,M,O⟩:=Qc H z;exact⟨qm,qm,qm,J,M,O⟩
end
section
open Go.RowKit
open Go.Value renaming int->In,slice->Sl,string->Sg,bool->Bo,pointer->Po
open Go.IntKind renaming i64->i6
section
variable {RD:(Nat->Prop)->World->Nat->Nat->Prop}
abbrev ctLeast:Ct:=ctV (λp:BP=>[p.v]) (λp=>p.m) (λp=>p.tn) λp v es=>es=[]/\v=.string (DV p.B)
theorem bk_inj(p F:BP)(h:[p.v]=[F.v])(z:p.m=F.m):p=F:=by
 simp only[BP.m,bkM,dD,dR,fH,eo]at h z;exact BP.inj h z.1 z.2.1 z.2.2
def leSt(B:Bk)(c1 c2 c3 i:Nat)(p:ByteArray × Int):St:=⟨[(5,In i6 i),(4,In i6 p.2),(3,.string p.1),(1,.complex .f64 64 0)],(64,AX (Fs B c1 c2 c3) 28)::bkM B,88,0⟩
theorem least_ct(hR:CR RD):CH Tryz.prog RD 329 0 ctLeast:=by
 refine Da (BB hR) Tryz.func329 qk qk (λ_=>rfl) bk_inj ?_;rintro⟨B,c1,c2,c3⟩ ⟨_,hl,hb⟩;have hl:B.ar.length<=1000:=hl;have hb:B.aw.length<=1000:=hb;refine⟨λn s=>∃i:Nat,i<=B.aw.length/\n=B.aw.length - i/\s=leSt B c1 c2 c3 i (BN B i),B.aw.length,⟨_,qe,0,qo,qo,rfl⟩,?_⟩;rintro n _ ⟨i,hi,rfl,rfl⟩;refine dg (λM=>?_) (λM=>?_)
 ·obtain⟨F,O⟩:∃F,B.aw[i]?=some F:=⟨B.aw[i]' qo,qs⟩
  refine⟨λn s=>∃k:Nat,k<=B.ar.length/\n=B.ar.length - k/\s=⟨[(7,In i6 k),(6,In i6 (ED B F.name k)),(5,In i6 i),(4,In i6 (BN B i).2),(3,.string (BN B i).1),(1,.complex .f64 64 0)],(64,AX (Fs B c1 c2 c3) 28)::bkM B,88,0⟩,B.ar.length,⟨_,qe,0,qo,qo,rfl⟩,?_⟩;rintro n _ ⟨k,hk,rfl,rfl⟩;have am:=SO B F.name k;refine dg (λY=>?_) (λY=>?_)
  ·refine dg qo (dg Y (dg AG (λcp ae=>?_)))
   refine dg qo (dg M (dg AG (λZ z=>?_)));rw[du]at ae z;cases O.symm.trans z;have ag:=O9 (nm:=F.name) ae;refine dg (λW=>?_) (λW=>?_)
   ·intro n1 h1 n2 H
    have h1:n1=ED B F.name (k+1):=by rw[ag,W];have:=h1 ⟨qo,qo⟩;show _=_+1;omega
    have H:n2=((k+1:Nat):Int):=by have:=H ⟨qo,qo⟩;omega
    subst h1 H;exact⟨B.ar.length - (k+1),qo,_,qe,k+1,qo,rfl,rfl⟩
   ·intro n2 H
    have h1:ED B F.name k=ED B F.name (k+1):=by rw[ag,W];rfl
    have H:n2=((k+1:Nat):Int):=by have:=H ⟨qo,qo⟩;omega
    subst H;rw[h1];exact⟨B.ar.length - (k+1),qo,_,qe,k+1,qo,rfl,rfl⟩
  ·obtain rfl:k=B.ar.length:=qo
   have ah:=Jy O;refine dg qo (dg M (dg AG (λZ z=>?_)));rw[du]at z;cases O.symm.trans z
   have J:∀b:Bool,(!F.aM&&((BN B i).1.toList==[]||decide (ER B F.name<(BN B i).2)))=b->BN B (i+1)=bif b then(F.name,ER B F.name) else BN B i:=λb hb=>by
    rw[ah];unfold PZ;rw[hb];cases b<;>rfl
   have key:∀b:Bool,(!F.aM&&((BN B i).1.toList==[]||decide (ER B F.name<(BN B i).2)))=b->∀n2:Int,(inR ((i:Int)+1)->n2=i+1)->n2=((i+1:Nat):Int)/\BN B (i+1)=bif b then(F.name,ER B F.name) else BN B i:=λb hb n2 H=>⟨by have:=H ⟨qo,qo⟩;omega,J b hb⟩
   have stay:∀(hb:(!F.aM&&((BN B i).1.toList==[]||decide (ER B F.name<(BN B i).2)))=false),BN B i=BN B (i+1):=λhb=>(J _ hb).symm
   refine dg (λhd=>?_) (λhd=>?_)
   ·intro n2 H
    obtain⟨rfl,_⟩:=key _ rfl n2 H;rw[stay (by rw[hd];rfl)];exact⟨B.aw.length - (i+1),qo,_,qe,i+1,qo,rfl,rfl⟩
   ·have go:∀(hb:(!F.aM&&((BN B i).1.toList==[]||decide (ER B F.name<(BN B i).2)))=true),BN B (i+1)=(F.name,ER B F.name):=λhb=>J _ hb
    refine dg (λW=>?_) (λW=>?_)<;>rw[fY ⟨#[]⟩]at W
    ·refine dg qo (dg M (dg AG (λZ z=>?_)))
     rw[du]at z;cases O.symm.trans z;intro n2 H;obtain⟨rfl,_⟩:=key _ rfl n2 H;exact⟨B.aw.length - (i+1),qo,leSt B c1 c2 c3 (i+1) (F.name,ER B F.name),qe,i+1,qo,rfl,by rw[go (by rw[hd,show((BN B i).1.toList==[])=true from W];rfl)]⟩
    ·refine dg (λhn=>?_) (λhn=>?_)
     ·refine dg qo (dg M (dg AG (λZ z=>?_)))
      rw[du]at z;cases O.symm.trans z;intro n2 H;obtain⟨rfl,_⟩:=key _ rfl n2 H;exact⟨B.aw.length - (i+1),qo,leSt B c1 c2 c3 (i+1) (F.name,ER B F.name),qe,i+1,qo,rfl,by rw[go (by rw[hd,dX (show ER B F.name<(BN B i).2 from hn),ja];rfl)]⟩
     ·intro n2 H
      obtain⟨rfl,_⟩:=key _ rfl n2 H;rw[stay (by rw[hd,show((BN B i).1.toList==[])=false from W,ek (show ¬ER B F.name<(BN B i).2 from hn)];rfl)];exact⟨B.aw.length - (i+1),qo,_,qe,i+1,qo,rfl,rfl⟩
 ·obtain rfl:i=B.aw.length:=qo
  exact⟨.inl rfl,_,rfl,⟨_,_,[],⟨rfl,rfl⟩,rfl,trivial,rfl,rfl,trivial⟩,rfl⟩
def bkVx(B:Bk)(c1 c3 i n cp:Nat):List Value:=[In i6 B.av,.iface 0 (Sl none B.ah.length c1),.iface i (Sl none n cp),.iface 2 (Sl none B.aw.length c3)]
def Vq:List Value:=[In i6 0,Sl none 0 0,Sl none 0 0,Sl none 0 0]
abbrev ctTick:Ct:=ctW 3 (λp:BP × Int=>[p.1.v,In i6 p.2]) (λp=>p.1.m) (λp=>p.1.tn) λp v es=>∃n cp,n=(Ei p.1.B p.2).ar.length/\v=.agg #[In i6 p.1.B.av,.iface 8 (Sl none p.1.B.ah.length p.1.c1),.iface 0 (Sl none n cp),.iface 10 (Sl none p.1.B.aw.length p.1.c3)]/\es=[(0,At 76 7 cp cpL (Ei p.1.B p.2).ar)]
theorem bki_inj(p z:BP × Int)(h:[p.1.v,In i6 p.2]=[z.1.v,In i6 z.2])(F:p.1.m=z.1.m):p=z:=by
 obtain⟨p,s⟩:=p;obtain⟨z,H⟩:=z;simp only[BP.m,bkM,dD,dR,fH,eo,fB]at h F;rw[BP.inj h.1 F.1 F.2.1 F.2.2,h.2]
theorem tick_ct(hR:CR RD):CH Tryz.prog RD 279 0 ctTick:=by
 refine TF 3 qd (Aa (BB hR) (f:=329) qk (least_ct hR)) Tryz.func279 qk (.nil _) qk (λ_=>rfl) (λ_=>rfl) bki_inj ?_;rintro⟨⟨B,c1,c2,c3⟩,v⟩ ⟨hs,hl,hb⟩;have hl:B.ar.length<=1000:=hl;refine⟨λn s=>∃(i k cp:Nat) (L:List Cp),i<=B.ar.length/\n=B.ar.length - i/\L=FE v (B.ar.take i)/\k=L.length/\s=⟨[(6,In i6 i),(5,.iface 80 (Sl none k cp)),(4,.complex .f64 72 0),(2,.complex .f64 64 0),(1,In i6 v)],(80,At 76 7 cp cpL L)::(72,AX Vq 28)::(64,AX (Fs B c1 c2 c3) 28)::bkM B,100,0⟩,B.ar.length,⟨_,(by refine⟨[],?_,?_,rfl,rfl,AG⟩<;>repeat' (first|exact rfl|exact trivial|exact⟨Et 76 7 [],rfl,Hr (f:=cpL) []⟩|exact⟨_,rfl,.same _ _ rfl⟩|apply dg)),0,0,0,[],qo,qo,rfl,rfl,rfl⟩,?_⟩;rintro n _ ⟨i,k,cp,L,hi,rfl,hL,hk,rfl⟩
 have az:k<=1000:=by
  rw[hk,hL];exact AH (OV v _) (by rw[dI];omega)
 refine dg (λz=>?_) (λz=>?_)
 ·refine dg qo (dg z (dg AG (λc O=>?_)))
  rw[du]at O;have Y:=Ss (v:=v) O;have H:∀y:Int,(inR ((i:Int)+1)->y=i+1)->y=((i+1:Nat):Int):=λy F=>by have:=F ⟨qo,qo⟩;omega
  refine dg (λJ=>?_) (λJ=>?_)
  ·intro y F
   obtain rfl:=H y F;exact⟨B.ar.length - (i+1),qo,_,qe,i+1,k,cp,L,qo,rfl,by rw[Y,J,hL];simp,hk,rfl⟩
  ·refine dg (λh2=>?_) (λh2=>?_)
   ·refine dg hk (dg rfl (dg AG (dg qo (λc'=>?_))))
    intro y F;obtain rfl:=H y F;refine⟨B.ar.length - (i+1),qo,_,?_,i+1,k+1,c',L++[{c with ay:=3,ag:=v}],qo,rfl,by rw[Y,hL,dk (by rw[J];decide)];unfold MD;rw[dv h2],by rw[hk];simp,rfl⟩;refine⟨[(80,300)],?_,?_,rfl,rfl,AG⟩<;>repeat' (first|exact rfl|exact trivial|exact⟨_,rfl,Ee (f:=cpL) L {c with ay:=3,ag:=v}⟩|exact⟨_,rfl,.same _ _ rfl⟩|apply dg)
   ·refine dg hk (dg rfl (dg AG (dg qo (λc'=>?_))))
    intro y F;obtain rfl:=H y F;refine⟨B.ar.length - (i+1),qo,_,?_,i+1,k+1,c',L++[c],qo,rfl,by rw[Y,hL,dk (by rw[J];decide)];unfold MD;rw[dk h2],by rw[hk];simp,rfl⟩;refine⟨[(80,260)],?_,?_,rfl,rfl,AG⟩<;>repeat' (first|exact rfl|exact trivial|exact⟨_,rfl,Ee (f:=cpL) L c⟩|exact⟨_,rfl,.same _ _ rfl⟩|apply dg)
 ·obtain rfl:i=B.ar.length:=qo
  rw[eC]at hL;have ak:k=(FE v B.ar).length:=by rw[hk,hL]
  refine⟨λn s=>∃(i:Nat) (L:List Cp),i<=k/\n=k - i/\EC B v i={B with ar:=L}/\k=L.length/\s=⟨[(8,In i6 i),(4,.complex .f64 72 0),(2,.complex .f64 64 0),(1,In i6 v)],(80,At 76 7 cp cpL L)::(72,AX Vq 28)::(64,AX (bkVx B c1 c3 80 k cp) 28)::bkM B,100,0⟩,k,⟨_,qe,0,L,qo,qo,by rw[hL];rfl,hk,rfl⟩,?_⟩;clear hk hL L;rintro n _ ⟨i,L,hi,rfl,hL,hk,rfl⟩;have M:=Hf B v i;rw[hL]at M;refine dg (λz=>?_) (λz=>?_)
  ·refine⟨⟨{B with ar:=L},c1,cp,c3⟩,by subst hk;rfl,⟨hs,by show L.length<=1000;omega,hb⟩,?_⟩
   rintro _ _ ⟨rfl,rfl⟩;have H:∀y:Int,(inR ((i:Int)+1)->y=i+1)->y=((i+1:Nat):Int):=λy F=>by have:=F ⟨qo,qo⟩;omega
   refine dg qo (dg z (dg (by show k<=L.length;omega) (dg (by show(i:Int).toNat<L.length;omega) (λc O=>?_))));rw[du]at O;have aa:¬(c.ay=1/\DV {B with ar:=L}≠⟨#[]⟩)->Du v {B with ar:=L} i={B with ar:=L}:=λh=>by unfold Du;rw[show({B with ar:=L}:Bk).ar[i]?=some c from O];exact dk h
   have al:c.ay=1/\DV {B with ar:=L}≠⟨#[]⟩->Du v {B with ar:=L} i={B with ar:=L.set i {c with ay:=2,aC:=DV {B with ar:=L},ag:=v}}:=λh=>by unfold Du;rw[show({B with ar:=L}:Bk).ar[i]?=some c from O];exact dv h
   refine dg (λh1=>?_) (λh1=>?_)
   ·refine dg (λJ=>?_) (λJ=>?_)
    ·have W:DV {B with ar:=L}≠⟨#[]⟩:=λe=>by rw[e]at J;simp at J
     refine dg qo (dg z (dg (by show k<=L.length;omega) (dg (by show(i:Int).toNat<L.length;omega) (dg (λ_ _ _=>trivial) ?_))));refine dg qo (dg z (dg (by show k<=L.length;omega) (dg (by show(i:Int).toNat<L.length;omega) (dg (λ_ _ _=>trivial) ?_))));refine dg qo (dg z (dg (by show k<=L.length;omega) (dg (by show(i:Int).toNat<L.length;omega) (dg (λ_ _ _=>trivial) ?_))));intro y F;obtain rfl:=H y F;refine⟨k - (i+1),qo,_,?_,i+1,L.set i {c with ay:=2,aC:=DV {B with ar:=L},ag:=v},qo,rfl,by rw[M];exact al ⟨h1,W⟩,by rw[dC];exact hk,rfl⟩
     have ae:LeB [] (Kc (Kc (Kc (At 76 7 cp cpL L) (i:Int).toNat 4 [In i6 2]) (i:Int).toNat 6 [Sg (DV {B with ar:=L})]) (i:Int).toNat 2 [In i6 v]) (At 76 7 cp cpL (L.set i {c with ay:=2,aC:=DV {B with ar:=L},ag:=v})):=by
      rw[du];have Z:=(AC O).1;have e1:=BZ (ρ:=[]) (o:=4) (vs:=[In i6 2]) (x':={c with ay:=2}) (.same _ _ rfl:LeB [] (At 76 7 cp cpL L) _) O rfl;have e2:=BZ (o:=6) (vs:=[Sg (DV {B with ar:=L})]) (a:=i) (x:={c with ay:=2}) (x':={c with ay:=2,aC:=DV {B with ar:=L}}) e1 (by rw[fE,dv rfl,dv Z]) rfl;have e3:=BZ (o:=2) (vs:=[In i6 v]) (a:=i) (x:={c with ay:=2,aC:=DV {B with ar:=L}}) (x':={c with ay:=2,aC:=DV {B with ar:=L},ag:=v}) e2 (by rw[fE,dv rfl,dv (by rw[dC];exact Z)]) rfl;rw[gq,gq]at e3;exact e3
     refine⟨[],?_,?_,rfl,rfl,AG⟩<;>repeat' (first|exact rfl|exact trivial|exact⟨_,rfl,ae⟩|exact⟨_,rfl,.same _ _ rfl⟩|apply dg)
    ·have W:DV {B with ar:=L}=⟨#[]⟩:=nil_bytes.1 (by rw[fY ⟨#[]⟩]at J;simpa using J)
     intro y F;obtain rfl:=H y F;exact⟨k - (i+1),qo,_,qe,i+1,L,qo,rfl,by rw[M];exact aa λh=>h.2 W,hk,rfl⟩
   ·intro y F
    obtain rfl:=H y F;exact⟨k - (i+1),qo,_,qe,i+1,L,qo,rfl,by rw[M];exact aa λh=>h1 h.1,hk,rfl⟩
  ·obtain rfl:i=k:=qo
   have hT:(Ei B v).ar=L:=by unfold Ei;rw[<-ak,hL]
   refine⟨.inl rfl,_,rfl,⟨_,_,[(8,0),(9,1),(10,2),(0,80)],⟨i,cp,by rw[hT];exact hk,rfl,rfl⟩,rfl,⟨⟨_,rfl,?_⟩,trivial⟩,rfl,rfl,⟨λ_ _=>trivial,trivial⟩⟩,rfl⟩;rw[hT];exact .same _ _ rfl
end
section
variable {RD:(Nat->Prop)->World->Nat->Nat->Prop}
theorem bksb_inj(p z:BP × ByteArray × Bool)(h:[p.1.v,Sg p.2.1,Bo p.2.2]=[z.1.v,Sg z.2.1,Bo z.2.2])(F:p.1.m=z.1.m):p=z:=by
 obtain⟨p,s,n⟩:=p;obtain⟨z,J,H⟩:=z;simp only[BP.m,bkM,dD,dR,fH,eo,gQ,iU]at h F;rw[BP.inj h.1 F.1 F.2.1 F.2.2,h.2.1,h.2.2]
abbrev Ue:Ct:=ctW 3 (λp:BP × ByteArray × Bool=>[p.1.v,Sg p.2.1,Bo p.2.2]) (λp=>p.1.m) (λp=>p.1.tn/\p.1.B.aw.length<=p.1.c3) λp v es=>∃n cp,n=(Gi p.1.B p.2.1 p.2.2).aw.length/\v=.agg #[In i6 p.1.B.av,.iface 8 (Sl none p.1.B.ah.length p.1.c1),.iface 9 (Sl none p.1.B.ar.length p.1.c2),.iface 0 (Sl none n cp)]/\es=[(0,At 90 2 cp btL (Gi p.1.B p.2.1 p.2.2).aw)]
theorem raise_ct(hR:CR RD):CH Tryz.prog RD 281 0 Ue:=by
 refine TF 3 qd (BB hR) Tryz.func281 qk (.nil _) qk (λ_=>rfl) (λ_=>rfl) bksb_inj ?_;rintro⟨⟨B,c1,c2,c3⟩,nm,dr⟩ ⟨⟨_,_,hl⟩,H⟩;have hl:B.aw.length<=1000:=hl;have H:B.aw.length<=c3:=H;refine⟨λn s=>∃k:Nat,k<=B.aw.length/\n=B.aw.length - k/\(∀(i:Nat) t,i<k->B.aw[i]?=some t->Op.bytesLess (btNm t) nm.toList=true)/\s=⟨[(7,In i6 k),(6,.complex .f64 72 0),(3,.complex .f64 64 0),(2,.bool dr),(1,.string nm)],(72,AX Vq 28)::(64,AX (Fs B c1 c2 c3) 28)::bkM B,100,0⟩,B.aw.length,⟨_,qe,0,qo,qo,(λ_ _ h=>qo),rfl⟩,?_⟩;rintro n _ ⟨k,hk,rfl,Z,rfl⟩;have fin:(∀t,B.aw[k]?=some t->Op.bytesLess (btNm t) nm.toList=false)->DG (λt=>Op.bytesLess (btNm t) (btNm ⟨nm,dr⟩)) B.aw=k:=λh=>Kz hk Z h
 refine dg (λY=>?_) (λY=>?_)
 ·refine dg qo (dg Y (dg AG (λtb F=>?_)))
  rw[du]at F;refine dg (λhe=>?_) (λhe=>?_)
  ·intro y hy
   have hy:y=((k+1:Nat):Int):=by have:=hy ⟨qo,qo⟩;omega
   subst hy
   exact⟨B.aw.length - (k+1),qo,_,qe,k+1,qo,rfl,λi t hi J=>by
    by_cases e:i=k
    ·subst e;rw[F]at J;cases J;exact he
    ·exact Z i t qo J,rfl⟩
  ·have hf:=fin λt J=>by rw[F]at J;cases J;exact he
   refine dg qo (dg qo (dg AG (dg H ?_)));refine dg (λW=>?_) (λW=>?_)
   ·refine dg qo (dg W (dg AG (λag z=>?_)))
    have z:B.aw[(k:Int).toNat+0]?=some ag:=z;rw[du,gp,F]at z;cases z;refine dg (λhq=>?_) (λhq=>?_)
    ·refine dg qo (dg (by show(1:Int)<=((B.aw.length - (k:Int).toNat:Nat):Int);omega) (dg AG (dg qo ?_)))
     refine dg qo (dg qo (dg (by show(k:Int).toNat<=B.aw.length;omega) ?_));refine dg rfl (dg rfl (dg AG (dg (by show 0+(k:Int).toNat<=1000000000;omega) (dg (λ_ _ _ _=>⟨rfl,rfl⟩) (λd1=>?_)))));refine dg rfl (dg rfl (dg AG (dg (by show 0+(k:Int).toNat+1<=1000000000;omega) (λd2=>?_))));refine dg rfl (dg rfl (dg AG (dg (by show 0+(k:Int).toNat+1+(B.aw.length - (k:Int).toNat - (1:Int).toNat)<=1000000000;omega) (dg (λ_ _ _ _=>⟨rfl,rfl⟩) (λd3=>?_)))));have M:=Gj (ρ:=[(8,0),(9,1),(10,2),(0,468)]) (ty:=90) (sz:=2) (c1:=d1) (c2:=d2) (c3:=d3) (m:=(B.aw.length - (k:Int).toNat - (1:Int).toNat)) (f:=btL) (l:=B.aw) (x:=⟨nm,dr⟩) (k:=(k:Int).toNat) (d:=(k:Int).toNat+1) (b:=FK (FK (BY 90 2 btL B.aw) (k:Int).toNat (B.aw.length - (k:Int).toNat)) 1 (B.aw.length - (k:Int).toNat - 1)) qo qo (λj kk h x hx=>h x (by rw[eG];exact hx));have O:B.aw.take (k:Int).toNat++⟨nm,dr⟩::B.aw.drop ((k:Int).toNat+1)=(Gi B nm dr).aw:=by rw[du];exact(MX hf F hq).symm
     rw[O]at M;exact⟨.inl rfl,_,rfl,⟨_,_,[(8,0),(9,1),(10,2),(0,468)],⟨_,d3,by have h:=ei List.length O;rw[dE,dM,dI,eh]at h;rw[<-h];show 0+(k:Int).toNat+1+(B.aw.length - (k:Int).toNat - (1:Int).toNat)=_;omega,rfl,rfl⟩,rfl,⟨⟨_,rfl,M⟩,trivial⟩,rfl,rfl,⟨λ_ _=>trivial,trivial⟩⟩,rfl⟩
    ·refine dg qo (dg qo (dg (by show(k:Int).toNat<=B.aw.length;omega) ?_))
     refine dg rfl (dg rfl (dg AG (dg (by show 0+(k:Int).toNat<=1000000000;omega) (dg (λ_ _ _ _=>⟨rfl,rfl⟩) (λd1=>?_)))));refine dg rfl (dg rfl (dg AG (dg (by show 0+(k:Int).toNat+1<=1000000000;omega) (λd2=>?_))));refine dg rfl (dg rfl (dg AG (dg (by show 0+(k:Int).toNat+1+(B.aw.length - (k:Int).toNat)<=1000000000;omega) (dg (λ_ _ _ _=>⟨rfl,rfl⟩) (λd3=>?_)))));have M:=Gj (ρ:=[(8,0),(9,1),(10,2),(0,444)]) (ty:=90) (sz:=2) (c1:=d1) (c2:=d2) (c3:=d3) (m:=(B.aw.length - (k:Int).toNat)) (f:=btL) (l:=B.aw) (x:=⟨nm,dr⟩) (k:=(k:Int).toNat) (d:=(k:Int).toNat) (b:=FK (BY 90 2 btL B.aw) (k:Int).toNat (B.aw.length - (k:Int).toNat)) qo qo (λj kk h x hx=>h x hx);have O:B.aw.take (k:Int).toNat++⟨nm,dr⟩::B.aw.drop ((k:Int).toNat)=(Gi B nm dr).aw:=by rw[du];exact(LH hf F hq).symm
     rw[O]at M;exact⟨.inl rfl,_,rfl,⟨_,_,[(8,0),(9,1),(10,2),(0,444)],⟨_,d3,by have h:=ei List.length O;rw[dE,dM,dI,eh]at h;rw[<-h];show 0+(k:Int).toNat+1+(B.aw.length - (k:Int).toNat)=_;omega,rfl,rfl⟩,rfl,⟨⟨_,rfl,M⟩,trivial⟩,rfl,rfl,⟨λ_ _=>trivial,trivial⟩⟩,rfl⟩
   ·exact absurd W (by show ¬¬(0:Int)<((B.aw.length - (k:Int).toNat:Nat):Int);omega)
 ·have hf:=fin λt J=>by rw[eq qo]at J;cases J
  refine dg qo (dg qo (dg AG (dg H ?_)));refine dg (λW=>?_) (λW=>?_)
  ·exact absurd W (by show ¬(0:Int)<((B.aw.length - (k:Int).toNat:Nat):Int);omega)
  ·refine dg qo (dg qo (dg (by show(k:Int).toNat<=B.aw.length;omega) ?_))
   refine dg rfl (dg rfl (dg AG (dg (by show 0+(k:Int).toNat<=1000000000;omega) (dg (λ_ _ _ _=>⟨rfl,rfl⟩) (λd1=>?_)))));refine dg rfl (dg rfl (dg AG (dg (by show 0+(k:Int).toNat+1<=1000000000;omega) (λd2=>?_))));refine dg rfl (dg rfl (dg AG (dg (by show 0+(k:Int).toNat+1+(B.aw.length - (k:Int).toNat)<=1000000000;omega) (dg (λ_ _ _ _=>⟨rfl,rfl⟩) (λd3=>?_)))));have M:=Gj (ρ:=[(8,0),(9,1),(10,2),(0,444)]) (ty:=90) (sz:=2) (c1:=d1) (c2:=d2) (c3:=d3) (m:=(B.aw.length - (k:Int).toNat)) (f:=btL) (l:=B.aw) (x:=⟨nm,dr⟩) (k:=(k:Int).toNat) (d:=(k:Int).toNat) (b:=FK (BY 90 2 btL B.aw) (k:Int).toNat (B.aw.length - (k:Int).toNat)) qo qo (λj kk h x hx=>h x hx);have O:B.aw.take (k:Int).toNat++⟨nm,dr⟩::B.aw.drop ((k:Int).toNat)=(Gi B nm dr).aw:=by rw[du];exact(ON hf (eq qo)).symm
   rw[O]at M;exact⟨.inl rfl,_,rfl,⟨_,_,[(8,0),(9,1),(10,2),(0,444)],⟨_,d3,by have h:=ei List.length O;rw[dE,dM,dI,eh]at h;rw[<-h];show 0+(k:Int).toNat+1+(B.aw.length - (k:Int).toNat)=_;omega,rfl,rfl⟩,rfl,⟨⟨_,rfl,M⟩,trivial⟩,rfl,rfl,⟨λ_ _=>trivial,trivial⟩⟩,rfl⟩
theorem bkw_inj(p z:BP × Svc × Int)(h:[p.1.v,GE p.2.1,In i6 p.2.2]=[z.1.v,GE z.2.1,In i6 z.2.2])(F:p.1.m=z.1.m):p=z:=by
 obtain⟨p,s,n⟩:=p;obtain⟨z,J,H⟩:=z;simp only[BP.m,bkM,dD,dR,fH,eo,fB]at h F;rw[BP.inj h.1 F.1 F.2.1 F.2.2,Dl h.2.1,h.2.2]
abbrev Ud:Ct:=ctW 3 (λp:BP × Svc × Int=>[p.1.v,GE p.2.1,In i6 p.2.2]) (λp=>p.1.m) (λp=>p.1.tn/\p.1.B.ah.length<=p.1.c1) λp v es=>∃n cp,n=(K8 p.1.B p.2.1 p.2.2).ah.length/\v=.agg #[In i6 p.1.B.av,.iface 0 (Sl none n cp),.iface 9 (Sl none p.1.B.ar.length p.1.c2),.iface 10 (Sl none p.1.B.aw.length p.1.c3)]/\es=[(0,At 34 13 cp svL (K8 p.1.B p.2.1 p.2.2).ah)]
abbrev ΡW:Sp:=[(11,vC TT (Hq 11 (Tryz.f280.body.getD .skip)) 12 24 0 54 [(5,59,58),(8,62,61),(10,64,63)])]
theorem specW(z:CR RD):SpAll Tryz.prog RD ΡW Tryz.f280.ntmps (Tryz.f280.body.getD .skip):=by
 intro i C hC p F;obtain⟨rfl,rfl⟩:i=11/\C=_:=by simpa using dl.1 (Aw _ _ _ hC)
 cases dl.1 (show p∈[(_,_)] from F);exact KI (BB z) qk qk qk qk ⟨_,rfl,rfl,rfl⟩ ⟨⟨_,rfl,rfl,rfl⟩,⟨_,rfl,rfl,rfl⟩,⟨_,rfl,rfl,rfl⟩,trivial⟩
theorem wishB_ct(hR:CR RD):CH Tryz.prog RD 280 0 Ud:=by
 refine TF 3 qd (BB hR) Tryz.func280 qk (specW hR) qk (λ_=>rfl) (λ_=>rfl) bkw_inj ?_;rintro⟨⟨B,c1,c2,c3⟩,s,v⟩ ⟨⟨hl,_,_⟩,J⟩;have hl:B.ah.length<=1000:=hl;have J:B.ah.length<=c1:=J;refine⟨λn z=>∃k:Nat,k<=B.ah.length/\n=B.ah.length - k/\(∀(i:Nat) t,i<k->B.ah[i]?=some t->Op.bytesLess (FJ t) (FJ s)=true)/\z=⟨[(7,In i6 k),(6,.complex .f64 80 0),(4,.complex .f64 72 0),(3,.complex .f64 64 0),(2,In i6 v)],(80,AX Vq 28)::(72,AX (svL s) 34)::(64,AX (Fs B c1 c2 c3) 28)::bkM B,100,0⟩,B.ah.length,⟨_,qe,0,qo,qo,(λ_ _ h=>qo),rfl⟩,?_⟩;rintro n _ ⟨k,hk,rfl,ae,rfl⟩;have fin:(∀t,B.ah[k]?=some t->Op.bytesLess (FJ t) (FJ s)=false)->DG (λt=>Op.bytesLess (FJ t) (FJ s)) B.ah=k:=λh=>Kz hk ae h
 refine dg (λaa=>?_) (λaa=>?_)
 ·refine dg qo (dg aa (dg AG (λtb H=>?_)))
  rw[du]at H;refine dg (λhe=>?_) (λhe=>?_)
  ·intro y hy
   have hy:y=((k+1:Nat):Int):=by have:=hy ⟨qo,qo⟩;omega
   subst hy
   exact⟨B.ah.length - (k+1),qo,_,qe,k+1,qo,rfl,λi t hi M=>by
    by_cases e:i=k
    ·subst e;rw[H]at M;cases M;exact he
    ·exact ae i t qo M,rfl⟩
  ·have hf:=fin λt M=>by rw[H]at M;cases M;exact he
   refine dg qo (dg qo (dg AG (dg J ?_)));refine dg (λY=>?_) (λY=>?_)
   ·refine dg qo (dg Y (dg AG (λZ F=>?_)))
    have F:B.ah[(k:Int).toNat+0]?=some Z:=F;rw[du,gp,H]at F;cases F;refine dg (λhq=>?_) (λhq=>?_)
    ·refine dg qo (dg Y (dg AG (λZ F=>?_)))
     have F:B.ah[(k:Int).toNat+0]?=some Z:=F;rw[du,gp,H]at F;cases F;refine dg qo (dg (by show(1:Int)<=((B.ah.length - (k:Int).toNat:Nat):Int);omega) (dg AG (dg qo ?_)));refine⟨[],λ_=>dg qo (dg qo (dg (by show(k:Int).toNat<=B.ah.length;omega) ?_))⟩;refine dg AG (dg (by show 0+(k:Int).toNat<=1000000000;omega) (dg (λ_ _ _ _=>⟨rfl,rfl⟩) (λd1=>?_)));refine dg AG (dg (by show 0+(k:Int).toNat+1<=1000000000;omega) (λd2=>?_));refine dg AG (dg (by show 0+(k:Int).toNat+1+(B.ah.length - (k:Int).toNat - (1:Int).toNat)<=1000000000;omega) (dg (λ_ _ _ _=>⟨rfl,rfl⟩) (λd3=>?_)));have O:=Gj (ρ:=[(8,0),(9,1),(10,2),(0,596)]) (ty:=34) (sz:=13) (c1:=d1) (c2:=d2) (c3:=d3) (m:=(B.ah.length - (k:Int).toNat - (1:Int).toNat)) (f:=svL) (l:=B.ah) (x:={s with ag:=v,aA:=0,next:=tb.next}) (k:=(k:Int).toNat) (d:=(k:Int).toNat+1) (b:=FK (FK (BY 34 13 svL B.ah) (k:Int).toNat (B.ah.length - (k:Int).toNat)) 1 (B.ah.length - (k:Int).toNat - 1)) qo qo (λj kk h x hx=>h x (by rw[eG];exact hx));have W:B.ah.take (k:Int).toNat++{s with ag:=v,aA:=0,next:=tb.next}::B.ah.drop ((k:Int).toNat+1)=(K8 B s v).ah:=by rw[du];exact Eq.symm (by show Fb FJ B.ah {s with ag:=v,aA:=0,next:=Ii B.ah s}=_;rw[SD hf H hq];exact MX hf H hq)
     rw[W]at O;exact⟨.inl rfl,_,rfl,⟨_,_,[(8,0),(9,1),(10,2),(0,596)],⟨_,d3,by have h:=ei List.length W;rw[dE,dM,dI,eh]at h;rw[<-h];show 0+(k:Int).toNat+1+(B.ah.length - (k:Int).toNat - (1:Int).toNat)=_;omega,rfl,rfl⟩,rfl,⟨⟨_,rfl,O⟩,trivial⟩,rfl,rfl,⟨λ_ _=>trivial,trivial⟩⟩,rfl⟩
    ·refine⟨[],λ_=>dg qo (dg qo (dg (by show(k:Int).toNat<=B.ah.length;omega) ?_))⟩
     refine dg AG (dg (by show 0+(k:Int).toNat<=1000000000;omega) (dg (λ_ _ _ _=>⟨rfl,rfl⟩) (λd1=>?_)));refine dg AG (dg (by show 0+(k:Int).toNat+1<=1000000000;omega) (λd2=>?_));refine dg AG (dg (by show 0+(k:Int).toNat+1+(B.ah.length - (k:Int).toNat)<=1000000000;omega) (dg (λ_ _ _ _=>⟨rfl,rfl⟩) (λd3=>?_)));have O:=Gj (ρ:=[(8,0),(9,1),(10,2),(0,524)]) (ty:=34) (sz:=13) (c1:=d1) (c2:=d2) (c3:=d3) (m:=(B.ah.length - (k:Int).toNat)) (f:=svL) (l:=B.ah) (x:={s with ag:=v,aA:=0,next:=1}) (k:=(k:Int).toNat) (d:=(k:Int).toNat) (b:=FK (BY 34 13 svL B.ah) (k:Int).toNat (B.ah.length - (k:Int).toNat)) qo qo (λj kk h x hx=>h x hx);have W:B.ah.take (k:Int).toNat++{s with ag:=v,aA:=0,next:=1}::B.ah.drop ((k:Int).toNat)=(K8 B s v).ah:=by rw[du];exact Eq.symm (by show Fb FJ B.ah {s with ag:=v,aA:=0,next:=Ii B.ah s}=_;rw[QI hf H hq];exact LH hf H hq)
     rw[W]at O;exact⟨.inl rfl,_,rfl,⟨_,_,[(8,0),(9,1),(10,2),(0,524)],⟨_,d3,by have h:=ei List.length W;rw[dE,dM,dI,eh]at h;rw[<-h];show 0+(k:Int).toNat+1+(B.ah.length - (k:Int).toNat)=_;omega,rfl,rfl⟩,rfl,⟨⟨_,rfl,O⟩,trivial⟩,rfl,rfl,⟨λ_ _=>trivial,trivial⟩⟩,rfl⟩
   ·exact absurd Y (by show ¬¬(0:Int)<((B.ah.length - (k:Int).toNat:Nat):Int);omega)
 ·have hf:=fin λt M=>by rw[eq qo]at M;cases M
  refine dg qo (dg qo (dg AG (dg J ?_)));refine dg (λY=>?_) (λY=>?_)
  ·exact absurd Y (by show ¬(0:Int)<((B.ah.length - (k:Int).toNat:Nat):Int);omega)
  ·refine⟨[],λ_=>dg qo (dg qo (dg (by show(k:Int).toNat<=B.ah.length;omega) ?_))⟩
   refine dg AG (dg (by show 0+(k:Int).toNat<=1000000000;omega) (dg (λ_ _ _ _=>⟨rfl,rfl⟩) (λd1=>?_)));refine dg AG (dg (by show 0+(k:Int).toNat+1<=1000000000;omega) (λd2=>?_));refine dg AG (dg (by show 0+(k:Int).toNat+1+(B.ah.length - (k:Int).toNat)<=1000000000;omega) (dg (λ_ _ _ _=>⟨rfl,rfl⟩) (λd3=>?_)));have O:=Gj (ρ:=[(8,0),(9,1),(10,2),(0,524)]) (ty:=34) (sz:=13) (c1:=d1) (c2:=d2) (c3:=d3) (m:=(B.ah.length - (k:Int).toNat)) (f:=svL) (l:=B.ah) (x:={s with ag:=v,aA:=0,next:=1}) (k:=(k:Int).toNat) (d:=(k:Int).toNat) (b:=FK (BY 34 13 svL B.ah) (k:Int).toNat (B.ah.length - (k:Int).toNat)) qo qo (λj kk h x hx=>h x hx);have W:B.ah.take (k:Int).toNat++{s with ag:=v,aA:=0,next:=1}::B.ah.drop ((k:Int).toNat)=(K8 B s v).ah:=by rw[du];exact Eq.symm (by show Fb FJ B.ah {s with ag:=v,aA:=0,next:=Ii B.ah s}=_;rw[Uw hf (eq qo)];exact ON hf (eq qo))
   rw[W]at O;exact⟨.inl rfl,_,rfl,⟨_,_,[(8,0),(9,1),(10,2),(0,524)],⟨_,d3,by have h:=ei List.length W;rw[dE,dM,dI,eh]at h;rw[<-h];show 0+(k:Int).toNat+1+(B.ah.length - (k:Int).toNat)=_;omega,rfl,rfl⟩,rfl,⟨⟨_,rfl,O⟩,trivial⟩,rfl,rfl,⟨λ_ _=>trivial,trivial⟩⟩,rfl⟩
end
end
end Go.Proofs.YtbceafpodamnfaaGreatDoor
