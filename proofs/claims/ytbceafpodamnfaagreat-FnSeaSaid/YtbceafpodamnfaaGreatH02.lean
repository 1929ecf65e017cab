import Derived.Test.YtbceafpodamnfaaGreatH00
import Derived.Great.BuildSlice
set_option linter.all false
namespace Go.Proofs.YtbceafpodamnfaaGreat
section
open Go
def pof(p:Addr):Nat:=p.block*p.off+p.spot.getD 0
def r0(α:Nat->Option Addr):Value->Value
 | .complex _ i o=>.pointer ((α i).map (·.add o))
 | .iface i (.slice _ n c)=>.slice (α i) n c
 | .iface i (.pointer (some p))=>.pointer ((α i).map (·.add (pof p)))
 |v=>v
def r1(α:Nat->Option Addr):Value->Value
 | .agg cs=>.agg (cs.map (r0 α))
 |v=>r0 α v
def r2(α:Nat->Option Addr):Value->Value
 | .tuple vs=>.tuple (vs.map (r1 α))
 |v=>r1 α v
structure VB where
 kd:Nat
 ty:Nat
 sz:Nat
 n:Nat
 cp:Nat
 cs:List Value
 Q:Nat->(List Value->Prop)->Prop
 E:World->List Value->Prop
abbrev AV:=List (Nat × VB)
abbrev Tm:=List (Nat × Value)
abbrev Ct:=List Value->AV->Nat->(Value->AV->Prop)->Prop
structure TE where
 ty:Nat
 u:Nat
 el:Nat
 size:Nat
 offs:List (Nat × Nat)
 zero:List Value
def lk{β:Type}:List (Nat × β)->Nat->Option β
 |[],_=>none
 |(i,b)::r,j=>bif Nat.beq i j then some b else lk r j
def tyo:List TE->Nat->Option TE
 |[],_=>none
 |e::r,j=>bif Nat.beq e.ty j then some e else tyo r j
def AZ(cs:List Value)(ty:Nat):VB:=⟨0,ty,0,0,0,cs,λ_ _=>True,λ_ _=>True⟩
def viewB(cs:List Value)(ty:Nat)(E:World->List Value->Prop):VB:=⟨2,ty,0,0,0,cs,λ_ _=>True,E⟩
def JV:VB:=⟨7,0,0,0,0,[],λ_ _=>True,λ_ _=>True⟩
def Dw(ty sz:Nat)(els:List (List Value)):VB:=⟨3,ty,sz,els.length,els.length,[],λj k=>∀el,els[j]?=some el->k el,λ_ _=>True⟩
def GZ(el:List Value)(f:Nat)(vs:List Value):List Value:=el.take f++vs++el.drop (f+vs.length)
def G8(b:VB)(a f:Nat)(vs:List Value):VB:=⟨3,b.ty,b.sz,b.n,b.cp,[],λj k=>(j=a->b.Q j λel=>k (GZ el f vs))/\(j≠a->b.Q j k),b.E⟩
def Eu(b b':VB)(n' c:Nat):VB:=⟨3,b.ty,b.sz,b.n+n',c,[],λj k=>(j<b.n->b.Q j k)/\(b.n<=j->b'.Q (j - b.n) k),λW el=>b.E W el\/b'.E W el⟩
def DX(b:VB)(lo len:Nat):VB:=⟨1,b.ty,b.sz,len,0,[],λj k=>b.Q (lo+j) k,b.E⟩
def Cj:Value->List Nat
 | .complex _ i _=>[i]
 | .iface i (.slice ..)=>[i]
 | .iface i (.pointer (some _))=>[i]
 |_=>[]
def Lv:Value->List Nat
 | .agg cs=>cs.toList.flatMap Cj
 |v=>Cj v
def BN:Value->List Nat
 | .tuple cs=>cs.toList.flatMap Lv
 |v=>Lv v
def EZ(m:AV):List Nat->AV
 |[]=>[]
 |i::r=>match lk m i with
  |some b=>(i,b)::EZ m r
  |none=>EZ m r
def cst:Value->Option Value
 | .int k n=>some (.int k n)
 | .bool b=>some (.bool b)
 | .string s=>some (.string s)
 | .slice none n c=>some (.slice none n c)
 | .pointer none=>some (.pointer none)
 |_=>none
def evo(t:Tm):Operand->Option Value
 | .tmp i=>lk t i
 | .const v=>cst v
 |_=>none
def evs(t:Tm):List Operand->Option (List Value)
 |[]=>some []
 |x::r=>match evo t x with
  |some v=>match evs t r with
   |some l=>some (v::l)
   |none=>none
  |none=>none
def bs(b:Bool)(k:Value->Prop):Prop:=(b=true->k (.bool true))/\(b=false->k (.bool false))
def bp(p:Prop)(k:Value->Prop):Prop:=(p->k (.bool true))/\(¬p->k (.bool false))
def inR(n:Int):Prop:= -9223372036854775808<=n/\n<=9223372036854775807
def ibin(o:BinOp)(a b:Int)(k:Value->Prop):Prop:=
 match o with
 | .add=>∀n,(inR (a+b)->n=a+b)->k (.int .i64 n)
 | .sub=>∀n,(inR (a - b)->n=a - b)->k (.int .i64 n)
 | .mul=>∀n,(inR (a*b)->n=a*b)->k (.int .i64 n)
 | .quo=>b≠0/\∀n,(0<=a->0<b->a<=9223372036854775807->n=a / b)->k (.int .i64 n)
 | .rem=>b≠0/\∀n,(0<=a->0<b->n=a%b)->k (.int .i64 n)
 | .eql=>bp (a=b) k
 | .neq=>bp (a≠b) k
 | .lss=>bp (a<b) k
 | .leq=>bp (a<=b) k
 | .gtr=>bp (b<a) k
 | .geq=>bp (b<=a) k
 |_=>False
def sbin(o:BinOp)(a b:ByteArray)(k:Value->Prop):Prop:=
 match o with
 | .eql=>bs (a.toList==b.toList) k
 | .neq=>bs (!(a.toList==b.toList)) k
 | .lss=>bs (Op.bytesLess a.toList b.toList) k
 |_=>False
def bbin(o:BinOp)(a b:Bool)(k:Value->Prop):Prop:=
 match o,a,b with
 | .eql,true,true=>k (.bool true)
 | .eql,false,false=>k (.bool true)
 | .eql,_,_=>k (.bool false)
 | .neq,true,true=>k (.bool false)
 | .neq,false,false=>k (.bool false)
 | .neq,_,_=>k (.bool true)
 |_,_,_=>False
def frcL:List Value->(List Value->Prop)->Prop
 |[],k=>k []
 |x::r,k=>frcL r λr'=>k (x::r')
theorem IT:∀(l:List Value) (k:List Value->Prop),frcL l k=k l
 |[],_=>rfl
 |_::r,_=>IT r _
def Eo:Value->Bool
 | .agg _=>false
 | .tuple _=>false
 |_=>true
def Ft:Value->Bool
 | .tuple _=>false
 |_=>true
def noV:Value->Bool
 | .complex ..=>false
 | .iface ..=>false
 |_=>true
def ldv(tt:List TE)(T:Nat)(cs:List Value)(o:Nat)(k:Value->Prop):Prop:=
 match tyo tt T with
 |some e=>bif Nat.beq e.u 4 then(bif Nat.ble (o+e.size) cs.length then frcL ((cs.drop o).take e.size) λl=>k (.agg l.toArray) else False) else match cs[o]? with
  |some (.bool b)=>bs b k
  |some v=>bif Eo v then k v else False
  |none=>False
 |none=>False
def tyU(tt:List TE)(T:Nat):Nat:=match tyo tt T with
 |some e=>e.u
 |none=>99
def Lp(tt:List TE)(ts:Array Nat)(u:Nat):Bool:=match ts[0]? with
 |some T=>Nat.beq (tyU tt T) u
 |none=>false
def Ad:Value->List Value
 | .agg a=>a.toList
 |v=>[v]
def JU(pl:List (Nat × Nat))(cs:List Value):List Nat->List Value->Option (List Value)
 |[],[]=>some cs
 |i::is,v::vs=>match pl[i]? with
  |some (off,sz)=>bif Ft v&&Nat.beq (Ad v).length sz&&Nat.ble (off+(Ad v).length) cs.length then JU pl (cs.take off++Ad v++cs.drop (off+(Ad v).length)) is vs else none
  |none=>none
 |_,_=>none
def Nr(pl:List (Nat × Nat))(cs:List Value):List Nat->List Value->(List Value->Prop)->Prop
 |[],[],k=>k cs
 |i::is,v::vs,k=>match pl[i]? with
  |some (off,sz)=>bif Ft v&&Nat.beq (Ad v).length sz&&Nat.ble (off+(Ad v).length) cs.length then frcL (cs.take off++Ad v++cs.drop (off+(Ad v).length)) λcs=>Nr pl cs is vs k else False
  |none=>False
 |_,_,_=>False
theorem GI{pl:List (Nat × Nat)}{k:List Value->Prop}:∀(is:List Nat) (vs cs:List Value),Nr pl cs is vs k->∃cs',JU pl cs is vs=some cs'/\k cs'
 |[],[],cs,h=>⟨cs,rfl,h⟩
 |i::is,v::vs,cs,h=>by
  unfold Nr at h;unfold JU;split at h
  ·rename_i off sz hp
   cases hb:(Ft v&&Nat.beq (Ad v).length sz&&Nat.ble (off+(Ad v).length) cs.length) with
   |false=>rw[hb]at h;exact h.elim
   |true=>
    rw[hb,cond_true,IT]at h;rw[cond_true];exact GI is vs _ h
  ·exact h.elim
 |[],_::_,_,h=>h.elim
 |_::_,[],_,h=>h.elim
def OQ(b:VB):Bool:=Nat.beq b.kd 0||Nat.beq b.kd 2||Nat.beq b.kd 4
def KB:List Nat->Nat->Bool
 |[],_=>true
 |a::r,i=>Nat.beq a i&&KB r (i+1)
def opg(tt:List TE)(Γ:List (Nat × Nat × Ct))(id:Nat)(op:Op)(vs:List Value)(es:AV)(k:Value->AV->Prop):Prop:=
 match op,vs with
 | .move _,[v]=>k v []
 | .assign _,[v]=>k v []
 | .pick ..,[.bool true,a,_]=>k a []
 | .pick ..,[.bool false,_,b]=>k b []
 | .binOp o ..,[.int .i64 a,.int .i64 b]=>ibin o a b λv=>k v []
 | .binOp o ..,[.string a,.string b]=>sbin o a b λv=>k v []
 | .binOp o T ..,[.bool a,.bool b]=>bif Nat.beq (tyU tt T) 1 then bbin o a b λv=>k v [] else False
 | .unOp .not ..,[.bool true]=>k (.bool false) []
 | .unOp .not ..,[.bool false]=>k (.bool true) []
 | .alloc T,[]=>match tyo tt T with
  |some e=>bif e.zero.all noV then k (.complex .f64 id 0) [(id,AZ e.zero T)] else False
  |none=>False
 | .box T _,[v]=>match v with
  | .agg a=>k (.complex .f64 id 0) [(id,AZ a.toList T)]
  |v=>bif Eo v then k (.complex .f64 id 0) [(id,AZ [v] T)] else False
 | .build T ps,vs=>match tyo tt T with
  |some e=>bif Nat.beq e.u 4&&e.zero.all noV then Nr e.offs e.zero (ps.toList.map (·.1)) vs λcs=>k (.agg cs.toArray) [] else False
  |none=>False
 | .buildSlice T n ps,vs=>match tyo tt T with
  |some e=>match tyo tt e.el with
   |some e'=>bif Nat.beq e.u 3&&Nat.beq vs.length n&&KB (ps.toList.map (·.1)) 0&&Nat.ble 1 e'.size&&Nat.ble (n*e'.size) 16777216&&vs.all (λv=>Nat.beq (Ad v).length e'.size&&(Ad v).all (λu=>noV u&&Eo u)) then k (.iface id (.slice none n n)) [(id,Dw e.el e'.size (vs.map Ad))] else False
   |none=>False
  |none=>False
 | .field T _ f,[.agg cs]=>match tyo tt T with
  |some e=>match e.offs[f]? with
   |some (off,sz)=>match cs.toList[off]? with
    |some (.int .i64 x)=>bif Nat.beq e.u 4&&Nat.beq e.el 1 then k (.int .i64 x) [] else False
    |_=>False
   |none=>False
  |none=>False
 | .load T _,[.iface i (.pointer (some ⟨a,sz,some f⟩))]=>match lk es i with
  |some b=>bif Nat.beq b.kd 3&&Nat.beq sz b.sz then a<b.n/\b.Q a λel=>ldv tt T el f λv=>k v [] else False
  |none=>False
 | .fieldAddr T _ f,[.iface i (.pointer (some ⟨a,sz,some o⟩))]=>match tyo tt T,lk es i with
  |some e,some b=>match e.offs[f]? with
   |some p=>bif Nat.beq e.u 4&&Nat.beq b.kd 3 then k (.iface i (.pointer (some ⟨a,sz,some (o+p.1)⟩))) [] else False
   |none=>False
  |_,_=>False
 | .load T _,[.complex _ i o]=>match lk es i with
  |some b=>bif Nat.beq b.kd 0||Nat.beq b.kd 2 then ldv tt T b.cs o λv=>k v [] else False
  |none=>False
 | .fieldAddr T _ f,[.complex x i o]=>match tyo tt T,lk es i with
  |some e,some b=>match e.offs[f]? with
   |some p=>bif Nat.beq e.u 4&&OQ b then k (.complex x i (o+p.1)) [] else False
   |none=>False
  |_,_=>False
 | .indexAddr T _ _,[.iface i (.slice _ n _),.int .i64 a]=>match lk es i with
  |some b=>match tyo tt T with
   |some e=>match tyo tt e.el with
    |some e'=>bif Nat.beq e.u 3&&Nat.beq e'.size b.sz then(bif Nat.beq b.kd 1 then 0<=a/\a<(n:Int)/\n<=b.n/\b.Q a.toNat λel=>k (.complex .f64 id 0) [(id,viewB el b.ty b.E)] else bif Nat.beq b.kd 3 then 0<=a/\a<(n:Int)/\n<=b.n/\k (.iface i (.pointer (some ⟨a.toNat,b.sz,some 0⟩))) [] else False) else False
    |none=>False
   |none=>False
  |none=>False
 | .slice T _ (some _) none none,[.iface i (.slice _ n cp),.int .i64 a]=>match lk es i with
  |some b=>match tyo tt T with
   |some e=>match tyo tt e.el with
    |some e'=>bif Nat.beq e.u 3&&Nat.beq e'.size b.sz&&Nat.beq b.kd 1 then 0<=a/\a<=(n:Int)/\n<=b.n/\n<=cp/\k (.iface id (.slice none (n - a.toNat) (cp - a.toNat))) [(id,DX b a.toNat (n - a.toNat))] else False
    |none=>False
   |none=>False
  |none=>False
 | .slice T _ none (some _) none,[.iface i (.slice _ n cp),.int .i64 a]=>match lk es i with
  |some b=>match tyo tt T with
   |some e=>match tyo tt e.el with
    |some e'=>bif Nat.beq e.u 3&&Nat.beq e'.size b.sz&&Nat.beq b.kd 1 then 0<=a/\a<=(cp:Int)/\a.toNat<=b.n/\k (.iface id (.slice none a.toNat cp)) [(id,DX b 0 a.toNat)] else False
    |none=>False
   |none=>False
  |none=>False
 | .call ⟨.builtin .len,_,ts⟩,[.iface _ (.slice _ n _)]=>bif Lp tt ts 3 then k (.int .i64 n) [] else False
 | .call ⟨.builtin .len,_,ts⟩,[.slice _ n _]=>bif Lp tt ts 3 then k (.int .i64 n) [] else False
 | .call ⟨.builtin .len,_,ts⟩,[.string s]=>bif Lp tt ts 2 then k (.int .i64 s.size) [] else False
 | .call ⟨.value (.func f),_,_⟩,vs=>match lk Γ f with
  |some (_,C)=>C vs es id k
  |none=>False
 | .extract _ i,[.tuple vs]=>match vs[i]? with
  |some v=>bif Ft v then k v [] else False
  |none=>False
 | .nilCheck _,[.complex x i o]=>match lk es i with
  |some b=>bif OQ b then k (.complex x i o) [] else False
  |none=>False
 |_,_=>False
structure St where
 t:Tm
 m:AV
 c:Nat
 q:Nat
def DF(ops:List Oper)(t:Tm)(o:Oper):Option Bool:=
 match o.guard with
 |none=>some true
 |some (j,want)=>match ops[j]? with
  |some o'=>match o'.dst with
   |some d=>match lk t d with
    |some (.bool true)=>some want
    |some (.bool false)=>some (!want)
    |some (.tuple _)=>some false
    |_=>none
   |none=>none
  |none=>none
def D5(d:Option Nat)(v:Value)(t:Tm):Tm:=
 match d with
 |some d=>(d,v)::t
 |none=>t
def Bj(op:Op):List Operand:=
 match op with
 | .move x=>[x]| .assign x=>[x]| .box _ x=>[x]| .load _ x=>[x]| .nilCheck x=>[x]| .unOp _ _ x=>[x]| .convert _ _ x=>[x]
 | .fieldAddr _ x _=>[x]| .field _ x _=>[x]| .extract x _=>[x]
 | .pick c a b=>[c,a,b]
 | .build _ ps=>ps.toList.map (·.2)
 | .buildSlice _ _ ps=>ps.toList.map (·.2)
 | .store _ a v=>[a,v]| .binOp _ _ a v _=>[a,v]| .indexAddr _ a v=>[a,v]| .index _ a v=>[a,v]
 | .call c=>c.args.toList
 | .slice _ x lo hi _=>x::(lo.toList++hi.toList)
 |_=>[]
def F6(m:AV)(i:Nat)(b:VB):AV:=
 match m with
 |[]=>[]
 |(j,b')::r=>bif Nat.beq j i then(j,b)::r else(j,b')::F6 r i b
def stv(tt:List TE)(op:Op)(vs:List Value)(m:AV):Option (List Value × AV):=
 match op,vs with
 | .store T _ _,[.complex _ i off,v]=>match lk m i with
  |some b=>match tyo tt T with
   |some e=>bif Nat.beq b.kd 0&&Nat.beq (Ad v).length e.size&&Nat.ble (off+(Ad v).length) b.cs.length&&(Ad v).all Eo then
     some (b.cs.take off++Ad v++b.cs.drop (off+(Ad v).length),F6 m i (AZ (b.cs.take off++Ad v++b.cs.drop (off+(Ad v).length)) b.ty)) else none
   |none=>none
  |none=>none
 |_,_=>none
def okEl(sz:Nat)(el:List Value):Prop:=el.length=sz/\el.all (λu=>noV u&&Eo u)=true
def srcC(b':VB)(n':Nat)(X:Prop):Prop:=bif Nat.beq b'.kd 3 then X else(∀j,j<n'->b'.Q j (okEl b'.sz))/\X
def rwg(tt:List TE)(id:Nat)(op:Op)(vs:List Value)(m:AV):Option ((Value->AV->Prop)->Prop):=
 match op,vs with
 | .store T _ _,[.iface i (.pointer (some ⟨a,sz,some f⟩)),v]=>match lk m i with
  |some b=>match tyo tt T with
   |some e=>bif Nat.beq b.kd 3&&Nat.beq sz b.sz&&Nat.beq (Ad v).length e.size&&Nat.ble (f+(Ad v).length) sz&&(Ad v).all (λu=>noV u&&Eo u) then
     some λk=>a<b.n/\(∀W el,b.E W el->b.E W (GZ el f (Ad v)))/\k (.tuple #[]) (F6 m i (G8 b a f (Ad v))) else none
   |none=>none
  |none=>none
 | .call ⟨.builtin .append,_,ts⟩,[.iface i (.slice _ n c),.iface j (.slice _ n' _)]=>match lk m i with
  |some b=>match lk m j with
   |some b'=>match ts.toList with
    |[T,T']=>match tyo tt T with
     |some e=>match tyo tt e.el with
      |some e'=>bif Nat.beq T T'&&Nat.beq e.u 3&&Nat.beq b.kd 3&&(Nat.beq b'.kd 3||Nat.beq b'.kd 1)&& !Nat.beq i j&&Nat.beq b.sz e'.size&&Nat.beq b'.sz e'.size&&Nat.beq b.ty e.el&&Nat.beq b'.ty e.el&&Nat.beq e'.zero.length e'.size then
        some λk=>n=b.n/\c=b.cp/\n'<=b'.n/\n+n'<=1000000000/\srcC b' n' (∀c',k (.iface id (.slice none (n+n') c')) ((id,Eu b b' n' c')::F6 m i JV)) else none
      |none=>none
     |none=>none
    |_=>none
   |none=>none
  |none=>none
 |_,_=>none
def clo(m:AV)(l:List Nat):Bool:=l.all λi=>(lk m i).isSome
def My:AV->(AV->Prop)->Prop
 |[],k=>k []
 |(i,⟨kd,ty,sz,n,cp,cs,Q,E⟩)::r,k=>frcL cs λcs'=>My r λr'=>k ((i,⟨kd,ty,sz,n,cp,cs',Q,E⟩)::r')
theorem IU:∀(m:AV) (k:AV->Prop),My m k=k m
 |[],_=>rfl
 |(_,⟨_,_,_,_,_,cs,_,_⟩)::r,_=>(IT cs _).trans (IU r _)
def vO(tt:List TE)(Γ:List (Nat × Nat × Ct))(ops:List Oper)(c:Nat):List Oper->Nat->Tm->AV->(Tm->AV->Prop)->Prop
 |[],_,t,m,k=>k t m
 |o::r,j,t,m,k=>
  match DF ops t o with
  |some false=>vO tt Γ ops c r (j+1) (D5 o.dst (.tuple #[]) t) m k
  |some true=>match evs t (Bj o.op) with
   |some vs=>match stv tt o.op vs m with
    |some m'=>My m'.2 λm'=>vO tt Γ ops c r (j+1) (D5 o.dst (.tuple #[]) t) m' k
    |none=>match rwg tt (c+8*j) o.op vs m with
     |some T=>T λv m'=>My m' λm'=>vO tt Γ ops c r (j+1) (D5 o.dst v t) m' k
     |none=>opg tt Γ (c+8*j) o.op vs (EZ m (vs.flatMap BN)) λv es=>vO tt Γ ops c r (j+1) (D5 o.dst v t) (es++m) k
   |none=>False
  |none=>False
def Am(Γ:List (Nat × Nat × Ct))(o:Oper):Nat:=match o.op with
 | .call ⟨.value (.func f),_,_⟩=>match lk Γ f with
  |some (c,_)=>c
  |none=>0
 |_=>0
def BG(Γ:List (Nat × Nat × Ct)):List Oper->Nat
 |[]=>0
 |o::r=>Am Γ o+BG Γ r
def QM:Nat:=1000000000000
def vR(tt:List TE)(Γ:List (Nat × Nat × Ct))(ops:List Oper)(s:St)(k:St->Prop):Prop:=
 let X:=vO tt Γ ops s.c ops 0 s.t s.m λt m=>k ⟨t,m,s.c+8*ops.length,s.q+BG Γ ops⟩
 bif Nat.beq (BG Γ ops) 0 then X else s.q+BG Γ ops<=QM/\X
def rnI(ρ:List (Nat × Nat))(i:Nat):Nat:=match lk ρ i with
 |some j=>j
 |none=>i
def rn0(ρ:List (Nat × Nat)):Value->Value
 | .complex k i o=>.complex k (rnI ρ i) o
 | .iface i (.slice a n c)=>.iface (rnI ρ i) (.slice a n c)
 | .iface i (.pointer (some p))=>.iface (rnI ρ i) (.pointer (some p))
 |v=>v
def rn1(ρ:List (Nat × Nat)):Value->Value
 | .agg cs=>.agg (cs.toList.map (rn0 ρ)).toArray
 |v=>rn0 ρ v
def entT(ρ:List (Nat × Nat))(t:Tm):Tm->Prop
 |[]=>True
 |(i,v)::r=>lk t i=some (rn1 ρ v)/\Ft v=true/\entT ρ t r
structure LeB(ρ:List (Nat × Nat))(b0 b:VB):Prop where
 kd:b0.kd=b.kd
 ty:b0.ty=b.ty
 sz:b0.sz=b.sz
 n:b.n<=b0.n
 n3:b.kd=3->b0.n=b.n/\b0.cp=b.cp
 cs:b0.cs=b.cs.map (rn0 ρ)
 Q:∀j,j<b.n->∀k,b.Q j k->b0.Q j k
 E:∀W el,b0.E W el->b.E W el
 v:b.kd=2->b0.cs=b.cs
theorem LeB.same(ρ:List (Nat × Nat))(b:VB)(h:b.cs=b.cs.map (rn0 ρ)):LeB ρ b b:=⟨rfl,rfl,rfl,AG _,λ_=>⟨rfl,rfl⟩,h,λ_ _ _ h=>h,λ_ _ h=>h,λ_=>rfl⟩
def OZ(ρ:List (Nat × Nat))(m:AV):AV->Prop
 |[]=>True
 |(i,b)::r=>(∃b0,lk m (rnI ρ i)=some b0/\LeB ρ b0 b)/\OZ ρ m r
def Lf:AV->List Nat
 |[]=>[]
 |(i,b)::r=>bif Nat.beq b.kd 0||Nat.beq b.kd 3 then i::Lf r else Lf r
def fixB(ρ:List (Nat × Nat)):Bool:=ρ.all λp=>Nat.ble 64 p.1
def OX(ρ:List (Nat × Nat)):List Nat->Bool
 |[]=>true
 |i::r=>r.all (λj=>Nat.beq i j|| !Nat.beq (rnI ρ i) (rnI ρ j))&&OX ρ r
def cloB(s:St):Bool:=(s.t.all (λp=>clo s.m (BN p.2))&&s.m.all (λp=>Nat.ble (p.1+1) s.c&&clo s.m (p.2.cs.flatMap Cj)))&&Nat.ble 64 s.c
def Ent(s s':St):Prop:=∃ρ,entT ρ s.t s'.t/\OZ ρ s.m s'.m/\(OX ρ (Lf s'.m)&&fixB ρ)=true/\cloB s'=true/\s.q<=s'.q
abbrev Sp:=List (Nat × (St->(St->Prop)->Prop))
def vw(tt:List TE)(Γ:List (Nat × Nat × Ct))(Ρ:Sp):Code->(Exit->St->Prop)->St->Prop
 | .skip,Q,s=>Q .normal s
 | .region i ops _,Q,s=>match lk Ρ i with
  |some C=>C s (Q .normal)
  |none=>vR tt Γ ops.toList s (Q .normal)
 | .seq a b,Q,s=>vw tt Γ Ρ a (λe s=>match e with| .normal=>vw tt Γ Ρ b Q s|e=>Q e s) s
 | .cond c x y,Q,s=>match evo s.t c with
  |some (.bool true)=>vw tt Γ Ρ x Q s
  |some (.bool false)=>vw tt Γ Ρ y Q s
  |_=>False
 | .block i c,Q,s=>vw tt Γ Ρ c (λe s=>match e with| .exit j=>bif Nat.beq i j then Q .normal s else Q (.exit j) s|e=>Q e s) s
 | .loop c,Q,s=>∃(I:Nat->St->Prop) (n:Nat),(∃s',Ent s s'/\I n s')/\∀n s,I n s->vw tt Γ Ρ c (λe s=>match e with| .normal=>∃n',n'<n/\∃s',Ent s s'/\I n' s'|e=>Q e s) s
 | .exit i,Q,s=>Q (.exit i) s
 | .ret,Q,s=>Q .ret s
 |_,_,_=>False
end
section
open Go Go.RowKit
section
variable {P:Program} {ρ:Operand->Value} {w:World} {o:Oper}
def teB(P:Program)(e:TE):Bool:=match P.underlying e.ty with
 |some (.struct fs)=>Nat.beq e.u 4&&(fs.toList.mapM (λf=>(P.info? f.type).map λi=>(f.offset,i.size))==some e.offs)&&e.offs.all (λp=>!(Nat.beq p.2 0))&&(!Nat.beq e.el 1||fs.toList.all λf=>match P.underlying f.type with|some (.int .i64)=>true|_=>false)
 |some (.int .i64)=>Nat.beq e.u 0
 |some .bool=>Nat.beq e.u 1
 |some .string=>Nat.beq e.u 2
 |some (.slice t)=>Nat.beq e.u 3&&Nat.beq e.el t
 |some (.pointer _)=>Nat.beq e.u 5
 |some (.int .u8)=>Nat.beq e.u 6
 |_=>false
structure TEok(P:Program)(e:TE):Prop where
 inf:(P.info? e.ty).map (λi=>(i.size,i.zero.map λz=>z.cells.toList,Nat.ble i.bytes 1000))=some (e.size,some e.zero,true)
 und:teB P e=true
theorem TEok.info{e:TE}(h:TEok P e):∃i z,P.info? e.ty=some i/\i.size=e.size/\i.zero=some z/\z.cells.toList=e.zero:=by
 have h1:=h.inf
 cases hi:P.info? e.ty with
 |none=>rw[hi]at h1;cases h1
 |some i=>
  rw[hi]at h1
  cases hz:i.zero with
  |none=>simp[hz]at h1
  |some z=>
   simp only[hz,Option.map_some,Option.some.injEq,Prod.mk.injEq]at h1;exact⟨i,z,rfl,h1.1,hz,h1.2.1⟩
theorem TEok.bytes{e:TE}(h:TEok P e):∃i z,P.info? e.ty=some i/\i.size=e.size/\i.zero=some z/\z.cells.toList=e.zero/\i.bytes<=1000:=by
 have h1:=h.inf;obtain⟨i,z,hi,hs,hz,hc⟩:=h.info;rw[hi]at h1;simp only[Option.map_some,Option.some.injEq,Prod.mk.injEq]at h1;exact⟨i,z,hi,hs,hz,hc,AD h1.2.2⟩
theorem TEok.struct{e:TE}(h:TEok P e)(hu:e.u=4):∃fs,P.underlying e.ty=some (.struct fs)/\fs.toList.mapM (λf=>(P.info? f.type).map λi=>(f.offset,i.size))=some e.offs/\∀p∈e.offs,p.2≠0:=by
 have h2:=h.und;unfold teB at h2;rw[hu]at h2;split at h2
 ·rename_i fs hd
  simp only[Bool.and_eq_true,beq_iff_eq]at h2;refine⟨fs,hd,h2.1.1.2,λf hf hz=>?_⟩;have h5:=List.all_eq_true.1 h2.1.2 f hf;rw[hz]at h5;cases h5
 all_goals first|cases h2|(simp only[Bool.and_eq_true]at h2;first|cases h2.1|cases h2.1.1)
theorem JS{α β:Type}{f:α->Option β}:∀(l:List α) (l':List β) (i:Nat) (b:β),l.mapM f=some l'->l'[i]?=some b->∃a,l[i]?=some a/\f a=some b
 |[],l',i,b,h,hi=>by simp at h;subst h;cases hi
 |a::l,l',i,b,h,hi=>by
  simp only[List.mapM_cons,Option.bind_eq_bind,Option.pure_def]at h
  cases ha:f a with
  |none=>simp[ha]at h
  |some b0=>
   cases hr:l.mapM f with
   |none=>simp[ha,hr]at h
   |some r=>
    simp[ha,hr]at h;subst h
    cases i with
    |zero=>exact⟨a,rfl,ha.trans hi⟩
    |succ i=>exact JS l r i b hr hi
theorem TEok.not_struct{e:TE}(h:TEok P e)(hu:e.u≠4):∃d,P.underlying e.ty=some d/\(∀fs,d≠.struct fs)/\∀n t,d≠.array n t:=by
 have h2:=h.und;unfold teB at h2;split at h2
 ·rename_i fs hd
  simp only[Bool.and_eq_true]at h2;exact absurd (Nat.eq_of_beq_eq_true h2.1.1.1) hu
 all_goals first|(rename_i hd;exact⟨_,hd,by intros;simp,by intros;simp⟩)|cases h2
theorem TEok.bool{e:TE}(h:TEok P e)(hu:e.u=1):P.underlying e.ty=some .bool:=by
 have h2:=h.und;unfold teB at h2;rw[hu]at h2;split at h2<;>first|assumption|cases h2|(simp only[Bool.and_eq_true]at h2;first|cases h2.1|cases h2.1.1|cases h2.1.1.1)
theorem TEok.string{e:TE}(h:TEok P e)(hu:e.u=2):P.underlying e.ty=some .string:=by
 have h2:=h.und;unfold teB at h2;rw[hu]at h2;split at h2<;>first|assumption|cases h2|(simp only[Bool.and_eq_true]at h2;first|cases h2.1|cases h2.1.1|cases h2.1.1.1)
theorem TEok.slice{e:TE}(h:TEok P e)(hu:e.u=3):P.underlying e.ty=some (.slice e.el):=by
 have h2:=h.und;unfold teB at h2;rw[hu]at h2;split at h2<;>first|cases h2|(simp only[Bool.and_eq_true]at h2;first|(rename_i hd;rw[hd,Nat.eq_of_beq_eq_true h2.2])|cases h2.1|cases h2.1.1)
theorem run_move{x:Operand}(h:o.op=.move x):(execOp ρ o).run P w=.ok (.value (ρ x)) w:=by simp[execOp,h,go_sem]
theorem MV{x:Operand}(h:o.op=.assign x):(execOp ρ o).run P w=.ok (.value (ρ x)) w:=by simp[execOp,h,go_sem]
theorem LR{c x y:Operand}{b:Bool}(h:o.op=.pick c x y)(hc:ρ c=.bool b):(execOp ρ o).run P w=.ok (.value (if b then ρ x else ρ y)) w:=by simp[execOp,h,hc,go_sem]
theorem NT{T:Nat}{x:Operand}{b:Bool}(h:o.op=.unOp .not T x)(hc:ρ x=.bool b):(execOp ρ o).run P w=.ok (.value (.bool !b)) w:=by simp[execOp,h,hc,go_sem]
theorem LS{x:Operand}{i:Nat}{vs:Array Value}{v:Value}(h:o.op=.extract x i)(hx:ρ x=.tuple vs)(hv:vs[i]?=some v):(execOp ρ o).run P w=.ok (.value v) w:=by simp[execOp,h,hx,hv,go_sem]
theorem Ka{x:Operand}{a:Addr}(h:o.op=.nilCheck x)(hx:ρ x=.pointer (some a)):(execOp ρ o).run P w=.ok (.value (.pointer (some a))) w:=by simp[execOp,h,hx,go_sem]
theorem OO{e:TE}(he:TEok P e)(h:o.op=.alloc e.ty):(execOp ρ o).run P w=.ok (.value (.pointer (some ⟨w.heap.size,0,none⟩))) (w.alloc (.cells e.zero.toArray e.ty)):=by
 obtain⟨i,z,hi,_,hz,hc⟩:=he.info;simp[execOp,h,Instr.alloc,zeroValue,typeInfo,hi,hz,newVar,newRow,newObj,go_sem,<-hc];rfl
theorem run_box{T:Nat}{x:Operand}(h:o.op=.box T x):(execOp ρ o).run P w=.ok (.value (.pointer (some ⟨w.heap.size,0,none⟩))) (w.alloc (.cells (ρ x).cells T)):=by
 simp[execOp,h,Instr.box,newVar,newRow,newObj,go_sem];rfl
theorem Fy{e:TE}{ts:Array Nat}{x:Operand}{a:Option Addr}{n c:Nat}(he:TEok P e)(hu:e.u=3)(ht:ts[0]?=some e.ty)(h:o.op=.call ⟨.builtin .len,#[x],ts⟩)(hx:ρ x=.slice a n c):(execOp ρ o).run P w=.ok (.value (.int .i64 n)) w:=by
 simp[execOp,h,hx,Builtin.len_,ht,underlying,he.slice hu,go_sem]
theorem Is{e:TE}{ts:Array Nat}{x:Operand}{s:ByteArray}(he:TEok P e)(hu:e.u=2)(ht:ts[0]?=some e.ty)(h:o.op=.call ⟨.builtin .len,#[x],ts⟩)(hx:ρ x=.string s):(execOp ρ o).run P w=.ok (.value (.int .i64 s.size)) w:=by
 simp[execOp,h,hx,Builtin.len_,ht,underlying,he.string hu,go_sem]
def N4(P:Program)(f:Nat):Bool:=match P.funcs[f]? with
 |some fn=>fn.body.isSome&& !(fn.name== "runtime.NumGoroutine")
 |none=>false
theorem run_call{f:Nat}{args:Array Operand}{ts:Array Nat}(hf:N4 P f=true)(h:o.op=.call ⟨.value (.func f),args,ts⟩)(hr:ρ (.func f)=.func (.func f) #[] #[]):(execOp ρ o).run P w=.ok (.enter f (args.map ρ)) w:=by
 unfold N4 at hf;split at hf
 ·rename_i fn hfn
  simp only[Bool.and_eq_true,Bool.not_eq_true',beq_eq_false_iff_ne]at hf;obtain⟨hb,hn⟩:=hf;have hb':fn.body.isNone=false:=by cases h:fn.body<;>simp[h]at hb ⊢
  simp[execOp,h,hr,callFunc,hfn,hn,go_sem];intro hb2;rw[hb2]at hb;cases hb
 ·cases hf
theorem Jt{e:TE}{x:Operand}{a:Addr}{v:Value}(he:TEok P e)(hg:e.u≠4)(h:o.op=.load e.ty x)(hx:ρ x=.pointer (some a))(hv:w.cell? a=some v):(execOp ρ o).run P w=.ok (.value v) w:=by
 obtain⟨d,hd,h1,h2⟩:=he.not_struct hg
 have:∀W,(isAgg e.ty).run P W=.ok false W:=λW=>by
  cases d<;>first|exact absurd rfl (h1 _)|exact absurd rfl (h2 _ _)|simp[isAgg,underlying,hd,go_sem]
 simp[execOp,h,hx,Instr.loadAt,loadVar,this,hv,go_sem]
theorem F0{e:TE}{x:Operand}{a:Addr}{f off sz:Nat}(he:TEok P e)(hu:e.u=4)(hf:e.offs[f]?=some (off,sz))(h:o.op=.fieldAddr e.ty x f)(hx:ρ x=.pointer (some a)):(execOp ρ o).run P w=.ok (.value (.pointer (some (a.add off)))) w:=by
 obtain⟨fs,hd,ho,hz⟩:=he.struct hu;obtain⟨fl,hfl,hj⟩:=JS _ _ _ _ ho hf;rw[Array.getElem?_toList]at hfl
 cases hi:P.info? fl.type with
 |none=>rw[hi]at hj;cases hj
 |some j=>
  rw[hi]at hj;simp only[Option.map_some,Option.some.injEq,Prod.mk.injEq]at hj;have hj0:j.size≠0:=by have:=hz _ (AE hf);rw[hj.2];exact this
  simp[execOp,h,hx,hd,hfl,Instr.fieldAt,Instr.sureAddr,fieldPlace,underlying,sizeOf,typeInfo,hi,hj0,hj.1,go_sem]
theorem OM{e:TE}{x:Operand}{a:Addr}{cs:List Value}(he:TEok P e)(hu:e.u=4)(h:o.op=.load e.ty x)(hx:ρ x=.pointer (some a))(hl:cs.length=e.size)(hv:∀j v,cs[j]?=some v->w.cell? (a.add j)=some v):(execOp ρ o).run P w=.ok (.value (.agg cs.toArray)) w:=by
 obtain⟨fs,hd,_,_⟩:=he.struct hu;obtain⟨i,_,hi,hs,_⟩:=he.info;have h1:∀W,(isAgg e.ty).run P W=.ok true W:=λW=>by simp[isAgg,underlying,hd,go_sem]
 have h2:(sizeOf e.ty).run P w=.ok cs.length w:=by simp[sizeOf,typeInfo,hi,hs,hl,go_sem]
 have h3:=run_loadCells_list (P:=P) w a cs hv;unfold loadCells at h3;simp[execOp,h,hx,Instr.loadAt,Instr.sureAddr,loadVar,h1,h2,h3,go_sem]
theorem Js{e:TE}{x y:Operand}{g off:Nat}{t:Nat}{cur:Array Value}(he:TEok P e)(h:o.op=.store e.ty x y)(hx:ρ x=.pointer (some ⟨g,off,none⟩))(hg:w.heap[g]?=some (.cells cur t (0,0)))(hl:(ρ y).cells.size=e.size)(hfit:off+(ρ y).cells.size<=cur.size)
  (h1:∀v∈(ρ y).cells.toList,v.oneCell'=true):(execOp ρ o).run P w=.ok .skip (w.setRow g (cur.toList.take off++(ρ y).cells.toList++cur.toList.drop (off+(ρ y).cells.size)).toArray):=by
 obtain⟨i,_,hi,hs,_⟩:=he.info;have h2:=run_storeCells_at P g off t (ρ y).cells.toList 0 cur w hg (by simpa using hfit) h1;simp only[Nat.add_zero,Array.length_toList]at h2
 have h3:(storeVar e.ty ⟨g,off,none⟩ (ρ y)).run P w=.ok () (w.setRow g (cur.toList.take off++(ρ y).cells.toList++cur.toList.drop (off+(ρ y).cells.size)).toArray):=by
  unfold storeVar;simp[sizeOf,typeInfo,hi,hs,hl];rw[hl]at h2
  simpa using h2
 simp only[execOp,h,hx,Instr.storeAt,Instr.sureAddr,Sem.run_bind,Sem.run_pure,Result.andThen_ok,h3]
theorem Fz{e e':TE}{x y:Operand}{a:Addr}{n c:Nat}{i:Int}(he:TEok P e)(hu:e.u=3)(he':TEok P e')(hel:e'.ty=e.el)(h:o.op=.indexAddr e.ty x y)(hx:ρ x=.slice (some a) n c)(hy:ρ y=.int .i64 i)(h0:0<=i)(hn:i<n):(execOp ρ o).run P w=.ok (.value (.pointer (some (a.add (i.toNat*e'.size))))) w:=by
 obtain⟨j,z,hj,hs,_⟩:=he'.info;rw[hel]at hj;simp[execOp,h,hx,hy,Instr.indexAt,underlying,he.slice hu,sizeOf,typeInfo,hj,hs,h0,hn,asIntOf,go_sem]
theorem Nu{e:TE}(he:TEok P e)(hu:e.u=3):P.underlying e.ty=some (.slice (P.elem e.ty))/\P.elem e.ty=e.el:=by
 have h:=he.slice hu;have:P.elem e.ty=e.el:=by simp[Program.elem,h]
 rw[this];exact⟨h,rfl⟩
theorem run_slcH{e e':TE}(he:TEok P e)(hu:e.u=3)(he':TEok P e')(hel:e'.ty=e.el){x y:Operand}{a:Option Addr}{n c:Nat}{m:Int}(h:o.op=.slice e.ty x none (some y) none)(hx:ρ x=.slice a n c)(hy:ρ y=.int .i64 m)(h0:0<=m)(hm:m<=c):(execOp ρ o).run P w=.ok (.value (sliced a 0 m.toNat c e'.size)) w:=by
 obtain⟨h1,h2⟩:=Nu he hu;obtain⟨i,z,hi,hs,_⟩:=he'.info;rw[hel,<-h2]at hi;have hsz:(sizeOf (P.elem e.ty)).run P w=.ok e'.size w:=by simp[sizeOf,typeInfo,hi,hs]
 simp only[execOp,h,hx,hy,Option.map_none,Option.map_some,run_sliceAt_slice w _ _ _ _ _ h1,Sem.run_bind,run_slice_h w _ _ _ _ h1 .i64 m h0 hm,hsz,Result.andThen_ok,Sem.run_pure]
theorem run_slcL{e e':TE}(he:TEok P e)(hu:e.u=3)(he':TEok P e')(hel:e'.ty=e.el){x y:Operand}{a:Option Addr}{n c:Nat}{m:Int}(h:o.op=.slice e.ty x (some y) none none)(hx:ρ x=.slice a n c)(hy:ρ y=.int .i64 m)(h0:0<=m)(hm:m<=n):(execOp ρ o).run P w=.ok (.value (sliced a m.toNat n c e'.size)) w:=by
 obtain⟨h1,h2⟩:=Nu he hu;obtain⟨i,z,hi,hs,_⟩:=he'.info;rw[hel,<-h2]at hi;have hsz:(sizeOf (P.elem e.ty)).run P w=.ok e'.size w:=by simp[sizeOf,typeInfo,hi,hs]
 simp only[execOp,h,hx,hy,Option.map_none,Option.map_some,run_sliceAt_slice w _ _ _ _ _ h1,Sem.run_bind,run_slice_l w _ _ _ _ h1 .i64 m h0 hm,hsz,Result.andThen_ok,Sem.run_pure]
theorem IH{n:Int}(h:inR n):IntKind.i64.wrap n=n:=by
 obtain⟨h1,h2⟩:=h;rw[IntKind.wrap_i64];omega
theorem K4(b:Bool)(k:Value->Prop)(h:bs b k):k (.bool b):=by
 cases b
 ·exact h.2 rfl
 ·exact h.1 rfl
theorem Hn{p:Prop}[Decidable p](k:Value->Prop)(h:bp p k):k (.bool (decide p)):=by
 by_cases hp:p
 ·rw[decide_eq_true hp];exact h.1 hp
 ·rw[decide_eq_false hp];exact h.2 hp
theorem run_ibin{T:Nat}{x y:Operand}{a b:Int}{op:BinOp}{t2:Nat}(h:o.op=.binOp op T x y t2)(hx:ρ x=.int .i64 a)(hy:ρ y=.int .i64 b){k0:Value->Prop}(hs:ibin op a b k0):
  ∃v,(execOp ρ o).run P w=.ok (.value v) w/\∀k,ibin op a b k->k v:=by
 cases op<;>simp only[ibin]at hs ⊢
 case add=>exact⟨_,by simp[execOp,h,hx,hy,binOp,eqGuard,go_sem],λk hk=>hk _ λhr=>IH hr⟩
 case sub=>exact⟨_,by simp[execOp,h,hx,hy,binOp,eqGuard,go_sem],λk hk=>hk _ λhr=>IH hr⟩
 case mul=>exact⟨_,by simp[execOp,h,hx,hy,binOp,eqGuard,go_sem],λk hk=>hk _ λhr=>IH hr⟩
 case quo=>
  refine⟨.int .i64 (IntKind.i64.wrap (a.tdiv b)),by simp[execOp,h,hx,hy,binOp,eqGuard,hs.1,go_sem],λk hk=>hk.2 _ λh0 hb hi=>?_⟩;rw[Int.tdiv_eq_ediv_of_nonneg h0,IH];have h1:=Int.ediv_nonneg h0 (by omega:0<=b);have h2:=Int.ediv_le_self b h0;exact⟨by omega,by omega⟩
 case rem=>exact⟨.int .i64 (a.tmod b),by simp[execOp,h,hx,hy,binOp,eqGuard,hs.1,go_sem],λk hk=>hk.2 _ λh0 hb=>Int.tmod_eq_emod_of_nonneg h0⟩
 case eql=>exact⟨.bool (decide (a=b)),by simp[execOp,h,hx,hy,binOp,eqGuard,go_sem];rfl,λk hk=>Hn k hk⟩
 case neq=>exact⟨.bool (decide (a≠b)),by simp[execOp,h,hx,hy,binOp,eqGuard,go_sem];rfl,λk hk=>Hn k hk⟩
 case lss=>exact⟨.bool (decide (a<b)),by simp[execOp,h,hx,hy,binOp,eqGuard,go_sem],λk hk=>Hn k hk⟩
 case leq=>exact⟨.bool (decide (a<=b)),by simp[execOp,h,hx,hy,binOp,eqGuard,go_sem],λk hk=>Hn k hk⟩
 case gtr=>exact⟨.bool (decide (b<a)),by simp[execOp,h,hx,hy,binOp,eqGuard,go_sem],λk hk=>Hn k hk⟩
 case geq=>exact⟨.bool (decide (b<=a)),by simp[execOp,h,hx,hy,binOp,eqGuard,go_sem],λk hk=>Hn k hk⟩
theorem run_sbin{T:Nat}{x y:Operand}{a b:ByteArray}{op:BinOp}{t2:Nat}(h:o.op=.binOp op T x y t2)(hx:ρ x=.string a)(hy:ρ y=.string b){k0:Value->Prop}(hs:sbin op a b k0):
  ∃v,(execOp ρ o).run P w=.ok (.value v) w/\∀k,sbin op a b k->k v:=by
 cases op<;>simp only[sbin]at hs ⊢
 case eql=>exact⟨.bool (a.toList==b.toList),by simp[execOp,h,hx,hy,go_sem],λk hk=>K4 _ k hk⟩
 case neq=>exact⟨.bool (!(a.toList==b.toList)),by simp[execOp,h,hx,hy,go_sem],λk hk=>K4 _ k hk⟩
 case lss=>exact⟨.bool (Op.bytesLess a.toList b.toList),by simp[execOp,h,hx,hy,go_sem],λk hk=>K4 _ k hk⟩
theorem run_bbin{e:TE}{x y:Operand}{a b:Bool}{op:BinOp}{t2:Nat}(he:TEok P e)(hu:e.u=1)(h:o.op=.binOp op e.ty x y t2)(hx:ρ x=.bool a)(hy:ρ y=.bool b){k0:Value->Prop}(hs:bbin op a b k0):
  ∃v,(execOp ρ o).run P w=.ok (.value v) w/\∀k,bbin op a b k->k v:=by
 have hd:=he.bool hu
 have hq:∀W,(Op.equal e.ty (.bool a) (.bool b)).run P W=.ok (a==b) W:=λW=>by
  unfold Op.equal;rw[show Op.maxDepth=Op.maxDepth - 1+1 from rfl,Op.equalIn];simp[underlying,hd,go_sem]
 cases op
 case eql=>exact⟨.bool (a==b),by simp[execOp,h,hx,hy,binOp,eqGuard,hq,go_sem],λk hk=>by cases a<;>cases b<;>exact hk⟩
 case neq=>exact⟨.bool (!(a==b)),by simp[execOp,h,hx,hy,binOp,eqGuard,hq,go_sem],λk hk=>by cases a<;>cases b<;>exact hk⟩
 all_goals exact absurd hs (by cases a<;>cases b<;>exact id)
theorem KI:∀(vs:List Value) (off i:Nat) (cs:List Value),off+i+vs.length<=cs.length->
  (vs.zipIdx i).foldl (λ(cs:Array Value) p=>cs.setIfInBounds (off+p.2) p.1) cs.toArray=(cs.take (off+i)++vs++cs.drop (off+i+vs.length)).toArray
 |[],off,i,cs,_=>by simp
 |v::vs,off,i,cs,h=>by
  simp only[List.length_cons]at h;rw[List.zipIdx_cons,List.foldl_cons,List.setIfInBounds_toArray,KI vs off (i+1) (cs.set (off+i) v) (by simp;omega)]
  congr 1
  have hs:cs.set (off+i) v=cs.take (off+i)++v::cs.drop (off+i+1):=List.set_eq_take_append_cons_drop.trans (if_pos (by omega));rw[hs];have hl:(cs.take (off+i)).length=off+i:=by rw[List.length_take];omega
  have hd0:(cs.take (off+i)).drop (off+(i+1)+vs.length)=[]:=List.drop_eq_nil_of_le (by rw[hl];omega);rw[List.take_append,List.drop_append,hl,List.take_of_length_le (l:=cs.take (off+i)) (i:=off+(i+1)) (by rw[hl];omega),show off+(i+1) - (off+i)=1 by omega,show off+(i+1)+vs.length - (off+i)=vs.length+1 by omega,hd0];simp only[List.take_succ_cons,List.take_zero,List.drop_succ_cons,List.nil_append,List.drop_drop,List.length_cons,List.append_assoc,List.cons_append];rw[show off+i+1+vs.length=off+i+(vs.length+1) by omega]
theorem ON{e:TE}{x:Operand}{f off sz:Nat}{cs:Array Value}{v:Value}(he:TEok P e)(hu:e.u=4)(hel:e.el=1)(hf:e.offs[f]?=some (off,sz))(h:o.op=.field e.ty x f)(hx:ρ x=.agg cs)(hv:cs[off]?=some v):(execOp ρ o).run P w=.ok (.value v) w:=by
 obtain⟨fs,hd,ho,_⟩:=he.struct hu;obtain⟨fl,hfl,hj⟩:=JS _ _ _ _ ho hf;have h2:=he.und;unfold teB at h2;rw[hd,hu,hel]at h2;simp only[Bool.and_eq_true,Bool.or_eq_true]at h2;have h3:=h2.2.resolve_left (by decide);have h4:=List.all_eq_true.1 h3 fl (AE hfl);rw[Array.getElem?_toList]at hfl
 have hd2:P.underlying fl.type=some (.int .i64):=by
  split at h4
  ·assumption
  ·cases h4
 have hoff:fl.offset=off:=by
  cases hi:P.info? fl.type with
  |none=>rw[hi]at hj;cases hj
  |some j=>rw[hi]at hj;simp only[Option.map_some,Option.some.injEq,Prod.mk.injEq]at hj;exact hj.1
 have hag:∀W,(isAgg fl.type).run P W=.ok false W:=λW=>by simp[isAgg,underlying,hd2,go_sem]
 simp[execOp,h,hx,Instr.field,underlying,hd,hfl,part,asAgg,hag,hoff,hv,go_sem]
theorem Lm:∀(ps:List (Nat × Operand)) (i:Nat),KB (ps.map (·.1)) i=true->ps.map (λp=>(p.1,ρ p.2))=((ps.map λp=>ρ p.2).zipIdx i).map λx=>(x.2,x.1)
 |[],_,_=>rfl
 |p::r,i,h=>by
  unfold KB at h;simp only[List.map_cons,Bool.and_eq_true]at h;rw[List.map_cons,List.map_cons,List.zipIdx_cons,List.map_cons,Lm r (i+1) h.2,<-Nat.eq_of_beq_eq_true h.1]
theorem Hx{e e':TE}{n:Nat}{ps:Array (Nat × Operand)}(he:TEok P e)(hu:e.u=3)(he':TEok P e')(hel:e'.ty=e.el)(h:o.op=.buildSlice e.ty n ps)(hn:ps.size=n)(hp:KB (ps.toList.map (·.1)) 0=true)(h1:1<=e'.size)(hle:n*e'.size<=16777216)
  (hv:∀v∈ps.toList.map (λp=>ρ p.2),v.cells.size=e'.size):(execOp ρ o).run P w=.ok (.value (.slice (some ⟨w.heap.size,0,none⟩) n n)) (w.alloc (.cells ((ps.toList.map λp=>ρ p.2).flatMap λv=>v.cells.toList).toArray e.el)):=by
 obtain⟨i,z,hi,hs,hz,hc⟩:=he'.info;rw[hel]at hi;have hzip:=Lm (ρ:=ρ) ps.toList 0 hp
 have hmap:(ps.map λ(x:Nat × Operand)=>match x with|(i,x)=>(i,ρ x)).toList=((ps.toList.map λp=>ρ p.2).zipIdx 0).map λx=>(x.2,x.1):=by
  rw[<-hzip,Array.toList_map]
 rcases Nat.eq_zero_or_pos n with h0|h0
 ·subst h0
  have hps:ps=#[]:=Array.eq_empty_of_size_eq_zero hn;subst hps;simp[execOp,h,Instr.buildSlice,underlying,he.slice hu,sizeOf,typeInfo,hi,Instr.fill,newRow,newObj,go_sem];rfl
 ·have hf:=Great.fill_whole h1 (ps.toList.map λp=>ρ p.2) ((Array.range (n*i.size)).map (z.cells[·%z.cells.size]!)) hv (by simp[hn,hs])
  rw[<-hs]at hf;have:=run_buildSlice (P:=P) w e.ty e.el n _ _ i z (he.slice hu) hi hz (by rw[hs];omega) (by rw[hs];have:=Nat.mul_pos h0 h1;omega) (hmap▸hf);simp only[execOp,h,Sem.run_bind,this,Result.andThen_ok,Sem.run_pure]
end
end
end Go.Proofs.YtbceafpodamnfaaGreat
