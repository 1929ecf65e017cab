import Derived.Test.YtbceafpodamnfaaGreatDoorG00
import Derived.Great.BuildSlice
set_option linter.all false
namespace Go.Proofs.YtbceafpodamnfaaGreatDoor
section
open Go
def pof(p:Addr):Nat:=p.block*p.off+p.spot.getD 0
def r0(α:Nat->Option Addr):Value->Value
 | .complex _ i o=>.pointer ((α i).map (·.add o))
 | .iface i (.slice _ n c)=>.slice (α i) n c
 | .iface i (.pointer (some p))=>.pointer ((α i).map (·.add (pof p)))
 |v=>v
def r1(α:Nat->Option Addr):Value->Value
 | .agg cs=>.agg (cs.map (r0 α))
 |v=>r0 α v
def r2(α:Nat->Option Addr):Value->Value
 | .tuple vs=>.tuple (vs.map (r1 α))
 |v=>r1 α v
structure VB where
 kd:Nat
 ty:Nat
 sz:Nat
 n:Nat
 cp:Nat
 cs:List Value
 Q:Nat->(List Value->Prop)->Prop
 E:World->List Value->Prop
abbrev AY:=List (Nat × VB)
abbrev Tm:=List (Nat × Value)
abbrev Ct:=List Value->AY->Nat->(Value->AY->Prop)->Prop
structure TE where
 ty:Nat
 u:Nat
 el:Nat
 size:Nat
 bm:List (Nat × Nat)
 zero:List Value
def lk{β:Type}:List (Nat × β)->Nat->Option β
 |[],_=>none
 |(i,b)::r,j=>bif Nat.beq i j then some b else lk r j
def tyo:List TE->Nat->Option TE
 |[],_=>none
 |e::r,j=>bif Nat.beq e.ty j then some e else tyo r j
def AT(cs:qL)(ty:Nat):VB:=⟨0,ty,0,0,0,cs,λ_ _=>True,λ_ _=>True⟩
def Qu(cs:qL)(ty:Nat)(E:World->List Value->Prop):VB:=⟨2,ty,0,0,0,cs,λ_ _=>True,E⟩
def LU:VB:=⟨7,0,0,0,0,[],λ_ _=>True,λ_ _=>True⟩
def Dd(ty sz:Nat)(els:List (List Value)):VB:=⟨3,ty,sz,els.length,els.length,[],λj k=>∀el,els[j]?=some el->k el,λ_ _=>True⟩
def IOa(el:qL)(f:Nat)(vs:qL):List Value:=el.take f++vs++el.drop (f+vs.length)
def Ix(b:VB)(a f:Nat)(vs:qL):VB:=⟨3,b.ty,b.sz,b.n,b.cp,[],λj k=>(j=a->b.Q j λel=>k (IOa el f vs))/\(j≠a->b.Q j k),b.E⟩
def E9(b b':VB)(n' c:Nat):VB:=⟨3,b.ty,b.sz,b.n+n',c,[],λj k=>(j<b.n->b.Q j k)/\(b.n<=j->b'.Q (j - b.n) k),λW el=>b.E W el\/b'.E W el⟩
def EP(b:VB)(lo len:Nat):VB:=⟨1,b.ty,b.sz,len,0,[],λj k=>b.Q (lo+j) k,b.E⟩
def Cf:Value->List Nat
 | .complex _ i _=>[i]
 | .iface i (.slice ..)=>[i]
 | .iface i (.pointer (some _))=>[i]
 |_=>[]
def Oz:Value->List Nat
 | .agg cs=>cs.toList.flatMap Cf
 |v=>Cf v
def BS:Value->List Nat
 | .tuple cs=>cs.toList.flatMap Oz
 |v=>Oz v
def Jo(m:AY):List Nat->AY
 |[]=>[]
 |i::r=>match lk m i with
  |some b=>(i,b)::Jo m r
  |none=>Jo m r
def Fa(m:AY):List Nat->AY
 |[]=>[]
 |i::r=>match lk m i with
  |some b=>(i,b)::(Jo m (b.cs.flatMap Cf)++Fa m r)
  |none=>Fa m r
def cst:Value->Option Value
 | .int k n=>some (.int k n)
 | .bool b=>some (.bool b)
 | .string s=>some (.string s)
 | .slice none n c=>some (.slice none n c)
 | .pointer none=>some (.pointer none)
 |_=>none
def evo(t:Tm):Operand->Option Value
 | .tmp i=>lk t i
 | .const v=>cst v
 |_=>none
def evs(t:Tm):List Operand->Option (List Value)
 |[]=>some []
 |x::r=>match evo t x with
  |some v=>match evs t r with
   |some l=>some (v::l)
   |none=>none
  |none=>none
def bs(b:Bool)(k:Value->Prop):Prop:=(b=true->k (.bool true))/\(b=false->k (.bool false))
def bp(p:Prop)(k:Value->Prop):Prop:=(p->k (.bool true))/\(¬p->k (.bool false))
def inR(n:Int):Prop:= -9223372036854775808<=n/\n<=9223372036854775807
def ibin(o:BinOp)(a b:Int)(k:Value->Prop):Prop:=
 match o with
 | .add=>∀n,(inR (a+b)->n=a+b)->k (.int .i64 n)
 | .sub=>∀n,(inR (a - b)->n=a - b)->k (.int .i64 n)
 | .mul=>∀n,(inR (a*b)->n=a*b)->k (.int .i64 n)
 | .quo=>b≠0/\∀n,(0<=a->0<b->a<=9223372036854775807->n=a / b)->k (.int .i64 n)
 | .rem=>b≠0/\∀n,(0<=a->0<b->n=a%b)->k (.int .i64 n)
 | .eql=>bp (a=b) k
 | .neq=>bp (a≠b) k
 | .lss=>bp (a<b) k
 | .leq=>bp (a<=b) k
 | .gtr=>bp (b<a) k
 | .geq=>bp (b<=a) k
 |_=>False
def sbin(o:BinOp)(a b:qB)(k:Value->Prop):Prop:=
 match o with
 | .eql=>bs (a.toList==b.toList) k
 | .neq=>bs (!(a.toList==b.toList)) k
 | .lss=>bs (Op.bytesLess a.toList b.toList) k
 |_=>False
def bbin(o:BinOp)(a b:Bool)(k:Value->Prop):Prop:=
 match o,a,b with
 | .eql,true,true=>k (.bool true)
 | .eql,false,false=>k (.bool true)
 | .eql,_,_=>k (.bool false)
 | .neq,true,true=>k (.bool false)
 | .neq,false,false=>k (.bool false)
 | .neq,_,_=>k (.bool true)
 |_,_,_=>False
def frcL:List Value->(List Value->Prop)->Prop
 |[],k=>k []
 |x::r,k=>frcL r λr'=>k (x::r')
theorem KQ:∀(l:qL) (k:List Value->Prop),frcL l k=k l
 |[],_=>rfl
 |_::r,_=>KQ r _
def Fr:Value->Bool
 | .agg _=>false
 | .tuple _=>false
 |_=>true
def FB:Value->Bool
 | .tuple _=>false
 |_=>true
def noV:Value->Bool
 | .complex ..=>false
 | .iface ..=>false
 |_=>true
def ldv(tt:List TE)(T:Nat)(cs:qL)(o:Nat)(k:Value->Prop):Prop:=
 match tyo tt T with
 |some e=>bif Nat.beq e.u 4 then(bif Nat.ble (o+e.size) cs.length then frcL ((cs.drop o).take e.size) λl=>k (.agg l.toArray) else False) else match cs[o]? with
  |some (.bool b)=>bs b k
  |some v=>bif Fr v then k v else False
  |none=>False
 |none=>False
def tyU(tt:List TE)(T:Nat):Nat:=match tyo tt T with
 |some e=>e.u
 |none=>99
def Oq(tt:List TE)(ts:Array Nat)(u:Nat):Bool:=match ts[0]? with
 |some T=>Nat.beq (tyU tt T) u
 |none=>false
def Aa:Value->List Value
 | .agg a=>a.toList
 |v=>[v]
def LP(pl:List (Nat × Nat))(cs:qL):List Nat->List Value->Option (List Value)
 |[],[]=>some cs
 |i::is,v::vs=>match pl[i]? with
  |some (off,sz)=>bif FB v&&Nat.beq (Aa v).length sz&&Nat.ble (off+(Aa v).length) cs.length then LP pl (cs.take off++Aa v++cs.drop (off+(Aa v).length)) is vs else none
  |none=>none
 |_,_=>none
def RT(pl:List (Nat × Nat))(cs:qL):List Nat->List Value->(List Value->Prop)->Prop
 |[],[],k=>k cs
 |i::is,v::vs,k=>match pl[i]? with
  |some (off,sz)=>bif FB v&&Nat.beq (Aa v).length sz&&Nat.ble (off+(Aa v).length) cs.length then frcL (cs.take off++Aa v++cs.drop (off+(Aa v).length)) λcs=>RT pl cs is vs k else False
  |none=>False
 |_,_,_=>False
theorem H6{H:List (Nat × Nat)}{k:List Value->Prop}:∀(is:List Nat) (vs cs:qL),RT H cs is vs k->∃F,LP H cs is vs=some F/\k F
 |[],[],cs,h=>⟨cs,rfl,h⟩
 |i::is,v::vs,cs,h=>by
  unfold RT at h;unfold LP;split at h
  ·rename_i off sz J
   cases hb:(FB v&&Nat.beq (Aa v).length sz&&Nat.ble (off+(Aa v).length) cs.length) with
   |false=>rw[hb]at h;exact h.elim
   |true=>
    rw[hb,eD,KQ]at h;rw[eD];exact H6 is vs _ h
  ·exact h.elim
 |[],_::_,_,h=>h.elim
 |_::_,[],_,h=>h.elim
def Rz(b:VB):Bool:=Nat.beq b.kd 0||Nat.beq b.kd 2||Nat.beq b.kd 4
def Me:List Nat->Nat->Bool
 |[],_=>true
 |a::r,i=>Nat.beq a i&&Me r (i+1)
def Dc:List Value->List Value->Bool
 |[],[]=>true
 | .string _::r,.string _::r'=>Dc r r'
 | .int .i64 _::r,.int .i64 _::r'=>Dc r r'
 | .bool _::r,.bool _::r'=>Dc r r'
 |_,_=>false
def opg(tt:List TE)(Γ:List (Nat × Nat × Ct))(id:Nat)(op:Op)(vs:qL)(es:AY)(k:Value->AY->Prop):Prop:=
 match op,vs with
 | .move _,[v]=>k v []
 | .assign _,[v]=>k v []
 | .pick ..,[.bool true,a,_]=>k a []
 | .pick ..,[.bool false,_,b]=>k b []
 | .binOp o ..,[.int .i64 a,.int .i64 b]=>ibin o a b λv=>k v []
 | .binOp o ..,[.string a,.string b]=>sbin o a b λv=>k v []
 | .binOp o T ..,[.bool a,.bool b]=>bif Nat.beq (tyU tt T) 1 then bbin o a b λv=>k v [] else False
 | .binOp .neq T ..,[.agg a,.agg b]=>match tyo tt T with
  |some e=>bif Nat.beq e.u 4&&Nat.beq e.el 2&&Dc e.zero a.toList then a=b/\k (.bool false) [] else False
  |none=>False
 | .unOp .not ..,[.bool true]=>k (.bool false) []
 | .unOp .not ..,[.bool false]=>k (.bool true) []
 | .alloc T,[]=>match tyo tt T with
  |some e=>bif e.zero.all noV then k (.complex .f64 id 0) [(id,AT e.zero T)] else False
  |none=>False
 | .box T _,[v]=>match v with
  | .agg a=>k (.complex .f64 id 0) [(id,AT a.toList T)]
  |v=>bif Fr v then k (.complex .f64 id 0) [(id,AT [v] T)] else False
 | .build T ps,vs=>match tyo tt T with
  |some e=>bif Nat.beq e.u 4&&e.zero.all noV then RT e.bm e.zero (ps.toList.map (·.1)) vs λcs=>k (.agg cs.toArray) [] else False
  |none=>False
 | .buildSlice T n ps,vs=>match tyo tt T with
  |some e=>match tyo tt e.el with
   |some e'=>bif Nat.beq e.u 3&&Nat.beq vs.length n&&Me (ps.toList.map (·.1)) 0&&Nat.ble 1 e'.size&&Nat.ble (n*e'.size) 16777216&&vs.all (λv=>Nat.beq (Aa v).length e'.size&&(Aa v).all (λu=>noV u&&Fr u)) then k (.iface id (.slice none n n)) [(id,Dd e.el e'.size (vs.map Aa))] else False
   |none=>False
  |none=>False
 | .field T _ f,[.agg cs]=>match tyo tt T with
  |some e=>match e.bm[f]? with
   |some (off,sz)=>match cs.toList[off]? with
    |some (.int .i64 x)=>bif Nat.beq e.u 4&&Nat.beq e.el 1 then k (.int .i64 x) [] else False
    |_=>False
   |none=>False
  |none=>False
 | .load T _,[.iface i (.pointer (some ⟨a,sz,some f⟩))]=>match lk es i with
  |some b=>bif Nat.beq b.kd 3&&Nat.beq sz b.sz then a<b.n/\b.Q a λel=>ldv tt T el f λv=>k v [] else False
  |none=>False
 | .fieldAddr T _ f,[.iface i (.pointer (some ⟨a,sz,some o⟩))]=>match tyo tt T,lk es i with
  |some e,some b=>match e.bm[f]? with
   |some p=>bif Nat.beq e.u 4&&Nat.beq b.kd 3 then k (.iface i (.pointer (some ⟨a,sz,some (o+p.1)⟩))) [] else False
   |none=>False
  |_,_=>False
 | .load T _,[.complex _ i o]=>match lk es i with
  |some b=>bif Nat.beq b.kd 0||Nat.beq b.kd 2 then ldv tt T b.cs o λv=>k v [] else False
  |none=>False
 | .fieldAddr T _ f,[.complex x i o]=>match tyo tt T,lk es i with
  |some e,some b=>match e.bm[f]? with
   |some p=>bif Nat.beq e.u 4&&Rz b then k (.complex x i (o+p.1)) [] else False
   |none=>False
  |_,_=>False
 | .indexAddr T _ _,[.iface i (.slice _ n _),.int .i64 a]=>match lk es i with
  |some b=>match tyo tt T with
   |some e=>match tyo tt e.el with
    |some e'=>bif Nat.beq e.u 3&&Nat.beq e'.size b.sz then(bif Nat.beq b.kd 1 then 0<=a/\a<(n:Int)/\n<=b.n/\b.Q a.toNat λel=>k (.complex .f64 id 0) [(id,Qu el b.ty b.E)] else bif Nat.beq b.kd 3 then 0<=a/\a<(n:Int)/\n<=b.n/\k (.iface i (.pointer (some ⟨a.toNat,b.sz,some 0⟩))) [] else False) else False
    |none=>False
   |none=>False
  |none=>False
 | .slice T _ (some _) none none,[.iface i (.slice _ n cp),.int .i64 a]=>match lk es i with
  |some b=>match tyo tt T with
   |some e=>match tyo tt e.el with
    |some e'=>bif Nat.beq e.u 3&&Nat.beq e'.size b.sz&&Nat.beq b.kd 1 then 0<=a/\a<=(n:Int)/\n<=b.n/\n<=cp/\k (.iface id (.slice none (n - a.toNat) (cp - a.toNat))) [(id,EP b a.toNat (n - a.toNat))] else False
    |none=>False
   |none=>False
  |none=>False
 | .slice T _ none (some _) none,[.iface i (.slice _ n cp),.int .i64 a]=>match lk es i with
  |some b=>match tyo tt T with
   |some e=>match tyo tt e.el with
    |some e'=>bif Nat.beq e.u 3&&Nat.beq e'.size b.sz&&Nat.beq b.kd 1 then 0<=a/\a<=(cp:Int)/\a.toNat<=b.n/\k (.iface id (.slice none a.toNat cp)) [(id,EP b 0 a.toNat)] else False
    |none=>False
   |none=>False
  |none=>False
 | .call ⟨.builtin .len,_,ts⟩,[.iface _ (.slice _ n _)]=>bif Oq tt ts 3 then k (.int .i64 n) [] else False
 | .call ⟨.builtin .len,_,ts⟩,[.slice _ n _]=>bif Oq tt ts 3 then k (.int .i64 n) [] else False
 | .call ⟨.builtin .len,_,ts⟩,[.string s]=>bif Oq tt ts 2 then k (.int .i64 s.size) [] else False
 | .call ⟨.value (.func f),_,_⟩,vs=>match lk Γ f with
  |some (_,C)=>C vs es id k
  |none=>False
 | .extract _ i,[.tuple vs]=>match vs[i]? with
  |some v=>bif FB v then k v [] else False
  |none=>False
 | .nilCheck _,[.complex x i o]=>match lk es i with
  |some b=>bif Rz b then k (.complex x i o) [] else False
  |none=>False
 | .nilCheck _,[.iface i (.pointer (some ⟨a,sz,some f⟩))]=>match lk es i with
  |some b=>bif Nat.beq b.kd 3 then k (.iface i (.pointer (some ⟨a,sz,some f⟩))) [] else False
  |none=>False
 |_,_=>False
structure St where
 t:Tm
 m:AY
 c:Nat
 q:Nat
def DR(ops:List Oper)(t:Tm)(o:Oper):Option Bool:=
 match o.guard with
 |none=>some true
 |some (j,av)=>match ops[j]? with
  |some o'=>match o'.dst with
   |some d=>match lk t d with
    |some (.bool true)=>some av
    |some (.bool false)=>some (!av)
    |some (.tuple _)=>some false
    |_=>none
   |none=>none
  |none=>none
def ER(d:Option Nat)(v:Value)(t:Tm):Tm:=
 match d with
 |some d=>(d,v)::t
 |none=>t
def BT(op:Op):List Operand:=
 match op with
 | .move x=>[x]| .assign x=>[x]| .box _ x=>[x]| .load _ x=>[x]| .nilCheck x=>[x]| .unOp _ _ x=>[x]| .convert _ _ x=>[x]
 | .fieldAddr _ x _=>[x]| .field _ x _=>[x]| .extract x _=>[x]
 | .pick c a b=>[c,a,b]
 | .build _ ps=>ps.toList.map (·.2)
 | .buildSlice _ _ ps=>ps.toList.map (·.2)
 | .store _ a v=>[a,v]| .binOp _ _ a v _=>[a,v]| .indexAddr _ a v=>[a,v]| .index _ a v=>[a,v]
 | .call c=>c.args.toList
 | .slice _ x lo hi _=>x::(lo.toList++hi.toList)
 |_=>[]
def Hm(m:AY)(i:Nat)(b:VB):AY:=
 match m with
 |[]=>[]
 |(j,b')::r=>bif Nat.beq j i then(j,b)::r else(j,b')::Hm r i b
def stv(tt:List TE)(op:Op)(vs:qL)(m:AY):Option (List Value × AY):=
 match op,vs with
 | .store T _ _,[.complex _ i off,v]=>match lk m i with
  |some b=>match tyo tt T with
   |some e=>bif Nat.beq b.kd 0&&Nat.beq (Aa v).length e.size&&Nat.ble (off+(Aa v).length) b.cs.length&&(Aa v).all Fr then
     some (b.cs.take off++Aa v++b.cs.drop (off+(Aa v).length),Hm m i (AT (b.cs.take off++Aa v++b.cs.drop (off+(Aa v).length)) b.ty)) else none
   |none=>none
  |none=>none
 |_,_=>none
def okEl(sz:Nat)(el:qL):Prop:=el.length=sz/\el.all (λu=>noV u&&Fr u)=true
def srcC(b':VB)(n':Nat)(X:Prop):Prop:=bif Nat.beq b'.kd 3 then X else(∀j,j<n'->b'.Q j (okEl b'.sz))/\X
def rwg(tt:List TE)(id:Nat)(op:Op)(vs:qL)(m:AY):Option ((Value->AY->Prop)->Prop):=
 match op,vs with
 | .store T _ _,[.iface i (.pointer (some ⟨a,sz,some f⟩)),v]=>match lk m i with
  |some b=>match tyo tt T with
   |some e=>bif Nat.beq b.kd 3&&Nat.beq sz b.sz&&Nat.beq (Aa v).length e.size&&Nat.ble (f+(Aa v).length) sz&&(Aa v).all (λu=>noV u&&Fr u) then
     some λk=>a<b.n/\(∀W el,b.E W el->b.E W (IOa el f (Aa v)))/\k (.tuple #[]) (Hm m i (Ix b a f (Aa v))) else none
   |none=>none
  |none=>none
 | .call ⟨.builtin .append,_,ts⟩,[.iface i (.slice _ n c),.iface j (.slice _ n' _)]=>match lk m i with
  |some b=>match lk m j with
   |some b'=>match ts.toList with
    |[T,T']=>match tyo tt T with
     |some e=>match tyo tt e.el with
      |some e'=>bif Nat.beq T T'&&Nat.beq e.u 3&&Nat.beq b.kd 3&&(Nat.beq b'.kd 3||Nat.beq b'.kd 1)&& !Nat.beq i j&&Nat.beq b.sz e'.size&&Nat.beq b'.sz e'.size&&Nat.beq b.ty e.el&&Nat.beq b'.ty e.el&&Nat.beq e'.zero.length e'.size then
        some λk=>n=b.n/\c=b.cp/\n'<=b'.n/\n+n'<=1000000000/\srcC b' n' (∀c',k (.iface id (.slice none (n+n') c')) ((id,E9 b b' n' c')::Hm m i LU)) else none
      |none=>none
     |none=>none
    |_=>none
   |none=>none
  |none=>none
 | .call ⟨.builtin .append,_,ts⟩,[.slice none n0 c0,.iface j (.slice _ n' _)]=>match lk m j with
  |some b'=>match ts.toList with
   |[T,T']=>match tyo tt T with
    |some e=>match tyo tt e.el with
     |some e'=>bif Nat.beq n0 0&&Nat.beq c0 0&&Nat.beq T T'&&Nat.beq e.u 3&&(Nat.beq b'.kd 3||Nat.beq b'.kd 1)&&Nat.ble 1 e'.size&&Nat.beq b'.sz e'.size&&Nat.beq b'.ty e.el&&Nat.beq e'.zero.length e'.size then
       some λk=>1<=n'/\n'<=b'.n/\n'<=1000000000/\srcC b' n' (∀c',k (.iface id (.slice none n' c')) ((id,E9 (Dd e.el e'.size []) b' n' c')::m)) else none
     |none=>none
    |none=>none
   |_=>none
  |none=>none
 |_,_=>none
def clo(m:AY)(l:List Nat):Bool:=l.all λi=>(lk m i).isSome
def QI:AY->(AY->Prop)->Prop
 |[],k=>k []
 |(i,⟨kd,ty,sz,n,cp,cs,Q,E⟩)::r,k=>frcL cs λcs'=>QI r λr'=>k ((i,⟨kd,ty,sz,n,cp,cs',Q,E⟩)::r')
theorem Gt:∀(m:AY) (k:AY->Prop),QI m k=k m
 |[],_=>rfl
 |(_,⟨_,_,_,_,_,cs,_,_⟩)::r,_=>(KQ cs _).trans (Gt r _)
def vO(tt:List TE)(Γ:List (Nat × Nat × Ct))(ops:List Oper)(c:Nat):List Oper->Nat->Tm->AY->(Tm->AY->Prop)->Prop
 |[],_,t,m,k=>k t m
 |o::r,j,t,m,k=>
  match DR ops t o with
  |some false=>vO tt Γ ops c r (j+1) (ER o.dst (.tuple #[]) t) m k
  |some true=>match evs t (BT o.op) with
   |some vs=>match stv tt o.op vs m with
    |some m'=>QI m'.2 λm'=>vO tt Γ ops c r (j+1) (ER o.dst (.tuple #[]) t) m' k
    |none=>match rwg tt (c+8*j) o.op vs m with
     |some T=>T λv m'=>QI m' λm'=>vO tt Γ ops c r (j+1) (ER o.dst v t) m' k
     |none=>opg tt Γ (c+8*j) o.op vs (Fa m (vs.flatMap BS)) λv es=>vO tt Γ ops c r (j+1) (ER o.dst v t) (es++m) k
   |none=>False
  |none=>False
def Af(Γ:List (Nat × Nat × Ct))(o:Oper):Nat:=match o.op with
 | .call ⟨.value (.func f),_,_⟩=>match lk Γ f with
  |some (c,_)=>c
  |none=>0
 |_=>0
def Au(Γ:List (Nat × Nat × Ct)):List Oper->Nat
 |[]=>0
 |o::r=>Af Γ o+Au Γ r
def QM:Nat:=1000000000000
def vR(tt:List TE)(Γ:List (Nat × Nat × Ct))(ops:List Oper)(s:St)(k:St->Prop):Prop:=
 let X:=vO tt Γ ops s.c ops 0 s.t s.m λt m=>k ⟨t,m,s.c+8*ops.length,s.q+Au Γ ops⟩
 bif Nat.beq (Au Γ ops) 0 then X else s.q+Au Γ ops<=QM/\X
def rnI(ρ:List (Nat × Nat))(i:Nat):Nat:=match lk ρ i with
 |some j=>j
 |none=>i
def rn0(ρ:List (Nat × Nat)):Value->Value
 | .complex k i o=>.complex k (rnI ρ i) o
 | .iface i (.slice a n c)=>.iface (rnI ρ i) (.slice a n c)
 | .iface i (.pointer (some p))=>.iface (rnI ρ i) (.pointer (some p))
 |v=>v
def rn1(ρ:List (Nat × Nat)):Value->Value
 | .agg cs=>.agg (cs.toList.map (rn0 ρ)).toArray
 |v=>rn0 ρ v
def entT(ρ:List (Nat × Nat))(t:Tm):Tm->Prop
 |[]=>True
 |(i,v)::r=>lk t i=some (rn1 ρ v)/\FB v=true/\entT ρ t r
structure LeB(ρ:List (Nat × Nat))(b0 b:VB):Prop where
 kd:b0.kd=b.kd
 ty:b0.ty=b.ty
 sz:b0.sz=b.sz
 n:b.n<=b0.n
 n3:b.kd=3->b0.n=b.n/\b0.cp=b.cp
 cs:b0.cs=b.cs.map (rn0 ρ)
 Q:∀j,j<b.n->∀k,b.Q j k->b0.Q j k
 E:∀W el,b0.E W el->b.E W el
 v:b.kd=2->b0.cs=b.cs
theorem LeB.same(ρ:List (Nat × Nat))(b:VB)(h:b.cs=b.cs.map (rn0 ρ)):LeB ρ b b:=⟨rfl,rfl,rfl,AG _,λ_=>⟨rfl,rfl⟩,h,λ_ _ _ h=>h,λ_ _ h=>h,λ_=>rfl⟩
def SJ(ρ:List (Nat × Nat))(m:AY):AY->Prop
 |[]=>True
 |(i,b)::r=>(∃b0,lk m (rnI ρ i)=some b0/\LeB ρ b0 b)/\SJ ρ m r
def Oe:AY->List Nat
 |[]=>[]
 |(i,b)::r=>bif Nat.beq b.kd 0||Nat.beq b.kd 3 then i::Oe r else Oe r
def fixB(ρ:List (Nat × Nat)):Bool:=ρ.all λp=>Nat.ble 64 p.1
def SD(ρ:List (Nat × Nat)):List Nat->Bool
 |[]=>true
 |i::r=>r.all (λj=>Nat.beq i j|| !Nat.beq (rnI ρ i) (rnI ρ j))&&SD ρ r
def cloB(s:St):Bool:=(s.t.all (λp=>clo s.m (BS p.2))&&s.m.all (λp=>Nat.ble (p.1+1) s.c&&clo s.m (p.2.cs.flatMap Cf)))&&Nat.ble 64 s.c
def Ent(s s':St):Prop:=∃ρ,entT ρ s.t s'.t/\SJ ρ s.m s'.m/\(SD ρ (Oe s'.m)&&fixB ρ)=true/\cloB s'=true/\s.q<=s'.q
abbrev Sp:=List (Nat × (St->(St->Prop)->Prop))
def vw(tt:List TE)(Γ:List (Nat × Nat × Ct))(Ρ:Sp):Code->(Exit->St->Prop)->St->Prop
 | .skip,Q,s=>Q .normal s
 | .region i ops _,Q,s=>match lk Ρ i with
  |some C=>C s (Q .normal)
  |none=>vR tt Γ ops.toList s (Q .normal)
 | .seq a b,Q,s=>vw tt Γ Ρ a (λe s=>match e with| .normal=>vw tt Γ Ρ b Q s|e=>Q e s) s
 | .cond c x y,Q,s=>match evo s.t c with
  |some (.bool true)=>vw tt Γ Ρ x Q s
  |some (.bool false)=>vw tt Γ Ρ y Q s
  |_=>False
 | .block i c,Q,s=>vw tt Γ Ρ c (λe s=>match e with| .exit j=>bif Nat.beq i j then Q .normal s else Q (.exit j) s|e=>Q e s) s
 | .loop c,Q,s=>∃(I:Nat->St->Prop) (n:Nat),(∃s',Ent s s'/\I n s')/\∀n s,I n s->vw tt Γ Ρ c (λe s=>match e with| .normal=>∃n',n'<n/\∃s',Ent s s'/\I n' s'|e=>Q e s) s
 | .exit i,Q,s=>Q (.exit i) s
 | .ret,Q,s=>Q .ret s
 |_,_,_=>False
end
section
open Go.RowKit
section
variable {P:Program} {ρ:Operand->Value} {w:World} {o:Oper}
def teB(P:Program)(e:TE):Bool:=match P.underlying e.ty with
 |some (.struct fs)=>Nat.beq e.u 4&&(fs.toList.mapM (λf=>(P.info? f.type).map λi=>(f.offset,i.size))==some e.bm)&&e.bm.all (λp=>!(Nat.beq p.2 0))&&(!Nat.beq e.el 1||fs.toList.all λf=>match P.underlying f.type with|some (.int .i64)=>true|_=>false)
 |some (.int .i64)=>Nat.beq e.u 0
 |some .bool=>Nat.beq e.u 1
 |some .string=>Nat.beq e.u 2
 |some (.slice t)=>Nat.beq e.u 3&&Nat.beq e.el t
 |some (.pointer _)=>Nat.beq e.u 5
 |some (.int .u8)=>Nat.beq e.u 6
 |_=>false
def eqOk(P:Program)(e:TE):Prop:=e.u=4->e.el=2->∀(ρ:Operand->Value) (o:Oper) (w:World) (x y:Operand) (cs:Array Value) (t2:Nat),o.op=.binOp .neq e.ty x y t2->ρ x=.agg cs->ρ y=.agg cs->Dc e.zero cs.toList=true->(execOp ρ o).run P w=.ok (.value (.bool false)) w
theorem Nb{a:qB}{r l:qL}(h:Dc (.string a::r) l=true):∃b F,l=.string b::F/\Dc r F=true:=by
 cases l with
 |nil=>cases h
 |cons u F=>cases u<;>first|exact⟨_,_,rfl,h⟩|cases h
theorem Hx{a:Int}{r l:qL}(h:Dc (.int .i64 a::r) l=true):∃b F,l=.int .i64 b::F/\Dc r F=true:=by
 cases l with
 |nil=>cases h
 |cons u F=>
  cases u
  case int k b=>cases k<;>first|exact⟨_,_,rfl,h⟩|cases h
  all_goals cases h
theorem QB{a:Bool}{r l:qL}(h:Dc (.bool a::r) l=true):∃b F,l=.bool b::F/\Dc r F=true:=by
 cases l with
 |nil=>cases h
 |cons u F=>cases u<;>first|exact⟨_,_,rfl,h⟩|cases h
theorem QA{l:qL}(h:Dc [] l=true):l=[]:=by
 cases l with
 |nil=>rfl
 |cons u F=>cases h
theorem KO(α:Nat->Option Addr):∀(z l:qL),Dc z l=true->l.map (r0 α)=l
 |[],l,h=>by rw[QA h];rfl
 |v::z,l,h=>by
  cases v
  case string a=>obtain⟨b,H,rfl,F⟩:=Nb h;rw[dz,KO α z H F];rfl
  case bool a=>obtain⟨b,H,rfl,F⟩:=QB h;rw[dz,KO α z H F];rfl
  case int k a=>
   cases k
   case i64=>obtain⟨b,H,rfl,F⟩:=Hx h;rw[dz,KO α z H F];rfl
   all_goals (cases l<;>cases h)
  all_goals (cases l<;>cases h)
structure TEok(P:Program)(e:TE):Prop where
 cK:(P.info? e.ty).map (λi=>(i.size,i.zero.map λz=>z.cells.toList,Nat.ble i.bytes 1000))=some (e.size,some e.zero,true)
 und:teB P e=true
 eqs:eqOk P e
theorem TEok.bG{e:TE}(h:TEok P e):∃i z,P.info? e.ty=some i/\i.size=e.size/\i.zero=some z/\z.cells.toList=e.zero:=by
 have F:=h.cK
 cases J:P.info? e.ty with
 |none=>rw[J]at F;cases F
 |some i=>
  rw[J]at F
  cases H:i.zero with
  |none=>simp[H]at F
  |some z=>
   simp only[H,eo,fY,dw]at F;exact⟨i,z,rfl,F.1,H,F.2.1⟩
theorem TEok.bytes{e:TE}(h:TEok P e):∃i z,P.info? e.ty=some i/\i.size=e.size/\i.zero=some z/\z.cells.toList=e.zero/\i.bytes<=1000:=by
 have F:=h.cK;obtain⟨i,z,H,J,W,M⟩:=h.bG;rw[H]at F;simp only[eo,fY,dw]at F;exact⟨i,z,H,J,W,M,AD F.2.2⟩
theorem TEok.struct{e:TE}(h:TEok P e)(M:e.u=4):∃H,P.underlying e.ty=some (.struct H)/\H.toList.mapM (λf=>(P.info? f.type).map λi=>(f.offset,i.size))=some e.bm/\∀p∈e.bm,p.2≠0:=by
 have F:=h.und;unfold teB at F;rw[M]at F;split at F
 ·rename_i H W
  simp only[cY,fq]at F;refine⟨H,W,F.1.1.2,λf hf Y=>?_⟩;have J:=dh.1 F.1.2 f hf;rw[Y]at J;cases J
 all_goals first|cases F|(simp only[cY]at F;first|cases F.1|cases F.1.1)
theorem LI{α β:Type}{f:α->Option β}:∀(l:List α) (l':List β) (i:Nat) (b:β),l.mapM f=some l'->l'[i]?=some b->∃a,l[i]?=some a/\f a=some b
 |[],l',i,b,h,F=>by simp at h;subst h;cases F
 |a::l,l',i,b,h,F=>by
  simp only[List.mapM_cons,Option.bind_eq_bind,Option.pure_def]at h
  cases H:f a with
  |none=>simp[H]at h
  |some b0=>
   cases J:l.mapM f with
   |none=>simp[H,J]at h
   |some r=>
    simp[H,J]at h;subst h
    cases i with
    |zero=>exact⟨a,rfl,H.trans F⟩
    |succ i=>exact LI l r i b J F
theorem TEok.bv{e:TE}(h:TEok P e)(M:e.u≠4):∃d,P.underlying e.ty=some d/\(∀J,d≠.struct J)/\∀n t,d≠.array n t:=by
 have F:=h.und;unfold teB at F;split at F
 ·rename_i J H
  simp only[cY]at F;exact absurd (cX F.1.1.1) M
 all_goals first|(rename_i H;exact⟨_,H,by intros;simp,by intros;simp⟩)|cases F
theorem TEok.bool{e:TE}(h:TEok P e)(H:e.u=1):P.underlying e.ty=some .bool:=by
 have F:=h.und;unfold teB at F;rw[H]at F;split at F<;>first|assumption|cases F|(simp only[cY]at F;first|cases F.1|cases F.1.1|cases F.1.1.1)
theorem TEok.string{e:TE}(h:TEok P e)(H:e.u=2):P.underlying e.ty=some .string:=by
 have F:=h.und;unfold teB at F;rw[H]at F;split at F<;>first|assumption|cases F|(simp only[cY]at F;first|cases F.1|cases F.1.1|cases F.1.1.1)
theorem TEok.slice{e:TE}(h:TEok P e)(H:e.u=3):P.underlying e.ty=some (.slice e.el):=by
 have F:=h.und;unfold teB at F;rw[H]at F;split at F<;>first|cases F|(simp only[cY]at F;first|(rename_i J;rw[J,cX F.2])|cases F.1|cases F.1.1)
theorem DG{x:Operand}(h:o.op=.move x):(execOp ρ o).run P w=.ok (.value (ρ x)) w:=by simp[execOp,h,go_sem]
theorem Kq{x:Operand}(h:o.op=.assign x):(execOp ρ o).run P w=.ok (.value (ρ x)) w:=by simp[execOp,h,go_sem]
theorem OR{c x y:Operand}{b:Bool}(h:o.op=.pick c x y)(F:ρ c=.bool b):(execOp ρ o).run P w=.ok (.value (if b then ρ x else ρ y)) w:=by simp[execOp,h,F,go_sem]
theorem Q2{T:Nat}{x:Operand}{b:Bool}(h:o.op=.unOp .not T x)(F:ρ x=.bool b):(execOp ρ o).run P w=.ok (.value (.bool !b)) w:=by simp[execOp,h,F,go_sem]
theorem OS{x:Operand}{i:Nat}{vs:Array Value}{v:Value}(h:o.op=.extract x i)(hx:ρ x=.tuple vs)(hv:vs[i]?=some v):(execOp ρ o).run P w=.ok (.value v) w:=by simp[execOp,h,hx,hv,go_sem]
theorem II{x:Operand}{a:Addr}(h:o.op=.nilCheck x)(hx:ρ x=.pointer (some a)):(execOp ρ o).run P w=.ok (.value (.pointer (some a))) w:=by simp[execOp,h,hx,go_sem]
theorem Ry{e:TE}(J:TEok P e)(h:o.op=.alloc e.ty):(execOp ρ o).run P w=.ok (.value (.pointer (some ⟨w.heap.size,0,none⟩))) (w.alloc (.cells e.zero.toArray e.ty)):=by
 obtain⟨i,z,M,_,H,F⟩:=J.bG;simp[execOp,h,Instr.alloc,zeroValue,typeInfo,M,H,newVar,newRow,newObj,go_sem,<-F];rfl
theorem run_box{T:Nat}{x:Operand}(h:o.op=.box T x):(execOp ρ o).run P w=.ok (.value (.pointer (some ⟨w.heap.size,0,none⟩))) (w.alloc (.cells (ρ x).cells T)):=by
 simp[execOp,h,Instr.box,newVar,newRow,newObj,go_sem];rfl
theorem Ha{e:TE}{F:Array Nat}{x:Operand}{a:qO}{n c:Nat}(J:TEok P e)(H:e.u=3)(M:F[0]?=some e.ty)(h:o.op=.call ⟨.builtin .len,#[x],F⟩)(hx:ρ x=.slice a n c):(execOp ρ o).run P w=.ok (.value (.int .i64 n)) w:=by
 simp[execOp,h,hx,Builtin.len_,M,underlying,J.slice H,go_sem]
theorem Ko{e:TE}{F:Array Nat}{x:Operand}{s:qB}(J:TEok P e)(H:e.u=2)(M:F[0]?=some e.ty)(h:o.op=.call ⟨.builtin .len,#[x],F⟩)(hx:ρ x=.string s):(execOp ρ o).run P w=.ok (.value (.int .i64 s.size)) w:=by
 simp[execOp,h,hx,Builtin.len_,M,underlying,J.string H,go_sem]
def Rf(P:Program)(f:Nat):Bool:=match P.funcs[f]? with
 |some fn=>fn.body.isSome&& !(fn.name== "runtime.NumGoroutine")
 |none=>false
theorem run_call{f:Nat}{args:Array Operand}{W:Array Nat}(hf:Rf P f=true)(h:o.op=.call ⟨.value (.func f),args,W⟩)(Y:ρ (.func f)=.func (.func f) #[] #[]):(execOp ρ o).run P w=.ok (.enter f (args.map ρ)) w:=by
 unfold Rf at hf;split at hf
 ·rename_i fn H
  simp only[cY,eR,eL]at hf;obtain⟨hb,M⟩:=hf;have J:fn.body.isNone=false:=by cases h:fn.body<;>simp[h]at hb ⊢
  simp[execOp,h,Y,callFunc,H,M,go_sem];intro F;rw[F]at hb;cases hb
 ·cases hf
theorem Iz{e:TE}{x:Operand}{a:Addr}{v:Value}(M:TEok P e)(Y:e.u≠4)(h:o.op=.load e.ty x)(hx:ρ x=.pointer (some a))(hv:w.cell? a=some v):(execOp ρ o).run P w=.ok (.value v) w:=by
 obtain⟨d,H,F,J⟩:=M.bv Y
 have:∀W,(isAgg e.ty).run P W=.ok false W:=λW=>by
  cases d<;>first|exact absurd rfl (F _)|exact absurd rfl (J _ _)|simp[isAgg,underlying,H,go_sem]
 simp[execOp,h,hx,Instr.loadAt,loadVar,this,hv,go_sem]
theorem FN{e:TE}{x:Operand}{a:Addr}{f off sz:Nat}(he:TEok P e)(hu:e.u=4)(hf:e.bm[f]?=some (off,sz))(h:o.op=.fieldAddr e.ty x f)(hx:ρ x=.pointer (some a)):(execOp ρ o).run P w=.ok (.value (.pointer (some (a.add off)))) w:=by
 obtain⟨fs,hd,Z,W⟩:=he.struct hu;obtain⟨Y,H,F⟩:=LI _ _ _ _ Z hf;rw[iN]at H
 cases J:P.info? Y.type with
 |none=>rw[J]at F;cases F
 |some j=>
  rw[J]at F;simp only[eo,fY,dw]at F;have M:j.size≠0:=by have:=W _ (AE hf);rw[F.2];exact this
  simp[execOp,h,hx,hd,H,Instr.fieldAt,Instr.sureAddr,fieldPlace,underlying,sizeOf,typeInfo,J,M,F.1,go_sem]
theorem MQ{e:TE}{x:Operand}{a:Addr}{cs:qL}(H:TEok P e)(hu:e.u=4)(h:o.op=.load e.ty x)(hx:ρ x=.pointer (some a))(J:cs.length=e.size)(hv:∀j v,cs[j]?=some v->w.cell? (a.add j)=some v):(execOp ρ o).run P w=.ok (.value (.agg cs.toArray)) w:=by
 obtain⟨fs,Z,_,_⟩:=H.struct hu;obtain⟨i,_,M,Y,_⟩:=H.bG;have h1:∀W,(isAgg e.ty).run P W=.ok true W:=λW=>by simp[isAgg,underlying,Z,go_sem]
 have h2:(sizeOf e.ty).run P w=.ok cs.length w:=by simp[sizeOf,typeInfo,M,Y,J,go_sem]
 have F:=run_loadCells_list (P:=P) w a cs hv;unfold loadCells at F;simp[execOp,h,hx,Instr.loadAt,Instr.sureAddr,loadVar,h1,h2,F,go_sem]
theorem run_store{e:TE}{x y:Operand}{g off:Nat}{t:Nat}{F:Array Value}(he:TEok P e)(h:o.op=.store e.ty x y)(hx:ρ x=.pointer (some ⟨g,off,none⟩))(Y:w.heap[g]?=some (.cells F t (0,0)))(M:(ρ y).cells.size=e.size)(H:off+(ρ y).cells.size<=F.size)
  (h1:∀v∈(ρ y).cells.toList,v.oneCell'=true):(execOp ρ o).run P w=.ok .skip (w.setRow g (F.toList.take off++(ρ y).cells.toList++F.toList.drop (off+(ρ y).cells.size)).toArray):=by
 obtain⟨i,_,W,Z,_⟩:=he.bG;have J:=ie P g off t (ρ y).cells.toList 0 F w Y (by simpa using H) h1;simp only[fW,dT]at J
 have h3:(storeVar e.ty ⟨g,off,none⟩ (ρ y)).run P w=.ok () (w.setRow g (F.toList.take off++(ρ y).cells.toList++F.toList.drop (off+(ρ y).cells.size)).toArray):=by
  unfold storeVar;simp[sizeOf,typeInfo,W,Z,M];rw[M]at J
  simpa using J
 simp only[execOp,h,hx,Instr.storeAt,Instr.sureAddr,ew,Sem.run_pure,Result.andThen_ok,h3]
theorem Hb{e F:TE}{x y:Operand}{a:Addr}{n c:Nat}{i:Int}(he:TEok P e)(hu:e.u=3)(J:TEok P F)(H:F.ty=e.el)(h:o.op=.indexAddr e.ty x y)(hx:ρ x=.slice (some a) n c)(W:ρ y=.int .i64 i)(Z:0<=i)(hn:i<n):(execOp ρ o).run P w=.ok (.value (.pointer (some (a.add (i.toNat*F.size))))) w:=by
 obtain⟨j,z,M,Y,_⟩:=J.bG;rw[H]at M;simp[execOp,h,hx,W,Instr.indexAt,underlying,he.slice hu,sizeOf,typeInfo,M,Y,Z,hn,asIntOf,go_sem]
theorem RX{e:TE}(F:TEok P e)(H:e.u=3):P.underlying e.ty=some (.slice (P.elem e.ty))/\P.elem e.ty=e.el:=by
 have h:=F.slice H;have:P.elem e.ty=e.el:=by simp[Program.elem,h]
 rw[this];exact⟨h,rfl⟩
theorem run_slcH{e F:TE}(he:TEok P e)(hu:e.u=3)(M:TEok P F)(J:F.ty=e.el){x y:Operand}{a:qO}{n c:Nat}{m:Int}(h:o.op=.slice e.ty x none (some y) none)(hx:ρ x=.slice a n c)(Z:ρ y=.int .i64 m)(h0:0<=m)(hm:m<=c):(execOp ρ o).run P w=.ok (.value (sliced a 0 m.toNat c F.size)) w:=by
 obtain⟨Y,h2⟩:=RX he hu;obtain⟨i,z,W,hs,_⟩:=M.bG;rw[J,<-h2]at W;have H:(sizeOf (P.elem e.ty)).run P w=.ok F.size w:=by simp[sizeOf,typeInfo,W,hs]
 simp only[execOp,h,hx,Z,Option.map_none,eo,jf w _ _ _ _ _ Y,ew,run_slice_h w _ _ _ _ Y .i64 m h0 hm,H,Result.andThen_ok,Sem.run_pure]
theorem run_slcL{e F:TE}(he:TEok P e)(hu:e.u=3)(M:TEok P F)(J:F.ty=e.el){x y:Operand}{a:qO}{n c:Nat}{m:Int}(h:o.op=.slice e.ty x (some y) none none)(hx:ρ x=.slice a n c)(Z:ρ y=.int .i64 m)(h0:0<=m)(hm:m<=n):(execOp ρ o).run P w=.ok (.value (sliced a m.toNat n c F.size)) w:=by
 obtain⟨Y,h2⟩:=RX he hu;obtain⟨i,z,W,hs,_⟩:=M.bG;rw[J,<-h2]at W;have H:(sizeOf (P.elem e.ty)).run P w=.ok F.size w:=by simp[sizeOf,typeInfo,W,hs]
 simp only[execOp,h,hx,Z,Option.map_none,eo,jf w _ _ _ _ _ Y,ew,gm w _ _ _ _ Y .i64 m h0 hm,H,Result.andThen_ok,Sem.run_pure]
theorem KE{n:Int}(h:inR n):IntKind.i64.wrap n=n:=by
 obtain⟨H,F⟩:=h;rw[IntKind.wrap_i64];omega
theorem Nq(b:Bool)(k:Value->Prop)(h:bs b k):k (.bool b):=by
 cases b
 ·exact h.2 rfl
 ·exact h.1 rfl
theorem JT{p:Prop}[Decidable p](k:Value->Prop)(h:bp p k):k (.bool (decide p)):=by
 by_cases F:p
 ·rw[dO F];exact h.1 F
 ·rw[dQ F];exact h.2 F
theorem run_ibin{T:Nat}{x y:Operand}{a b:Int}{op:BinOp}{W:Nat}(h:o.op=.binOp op T x y W)(hx:ρ x=.int .i64 a)(F:ρ y=.int .i64 b){k0:Value->Prop}(M:ibin op a b k0):
  ∃v,(execOp ρ o).run P w=.ok (.value v) w/\∀k,ibin op a b k->k v:=by
 cases op<;>simp only[ibin]at M ⊢
 case add=>exact⟨_,by simp[execOp,h,hx,F,binOp,eqGuard,go_sem],λk hk=>hk _ λH=>KE H⟩
 case sub=>exact⟨_,by simp[execOp,h,hx,F,binOp,eqGuard,go_sem],λk hk=>hk _ λH=>KE H⟩
 case mul=>exact⟨_,by simp[execOp,h,hx,F,binOp,eqGuard,go_sem],λk hk=>hk _ λH=>KE H⟩
 case quo=>
  refine⟨.int .i64 (IntKind.i64.wrap (a.tdiv b)),by simp[execOp,h,hx,F,binOp,eqGuard,M.1,go_sem],λk hk=>hk.2 _ λJ hb Y=>?_⟩;rw[ik J,KE];have Z:=Int.ediv_nonneg J (by omega:0<=b);have h2:=Int.ediv_le_self b J;exact⟨by omega,by omega⟩
 case rem=>exact⟨.int .i64 (a.tmod b),by simp[execOp,h,hx,F,binOp,eqGuard,M.1,go_sem],λk hk=>hk.2 _ λJ hb=>Int.tmod_eq_emod_of_nonneg J⟩
 case eql=>exact⟨.bool (decide (a=b)),by simp[execOp,h,hx,F,binOp,eqGuard,go_sem];rfl,λk hk=>JT k hk⟩
 case neq=>exact⟨.bool (decide (a≠b)),by simp[execOp,h,hx,F,binOp,eqGuard,go_sem];rfl,λk hk=>JT k hk⟩
 case lss=>exact⟨.bool (decide (a<b)),by simp[execOp,h,hx,F,binOp,eqGuard,go_sem],λk hk=>JT k hk⟩
 case leq=>exact⟨.bool (decide (a<=b)),by simp[execOp,h,hx,F,binOp,eqGuard,go_sem],λk hk=>JT k hk⟩
 case gtr=>exact⟨.bool (decide (b<a)),by simp[execOp,h,hx,F,binOp,eqGuard,go_sem],λk hk=>JT k hk⟩
 case geq=>exact⟨.bool (decide (b<=a)),by simp[execOp,h,hx,F,binOp,eqGuard,go_sem],λk hk=>JT k hk⟩
theorem run_sbin{T:Nat}{x y:Operand}{a b:qB}{op:BinOp}{H:Nat}(h:o.op=.binOp op T x y H)(hx:ρ x=.string a)(F:ρ y=.string b){k0:Value->Prop}(J:sbin op a b k0):
  ∃v,(execOp ρ o).run P w=.ok (.value v) w/\∀k,sbin op a b k->k v:=by
 cases op<;>simp only[sbin]at J ⊢
 case eql=>exact⟨.bool (a.toList==b.toList),by simp[execOp,h,hx,F,go_sem],λk hk=>Nq _ k hk⟩
 case neq=>exact⟨.bool (!(a.toList==b.toList)),by simp[execOp,h,hx,F,go_sem],λk hk=>Nq _ k hk⟩
 case lss=>exact⟨.bool (Op.bytesLess a.toList b.toList),by simp[execOp,h,hx,F,go_sem],λk hk=>Nq _ k hk⟩
theorem run_bbin{e:TE}{x y:Operand}{a b:Bool}{op:BinOp}{Y:Nat}(he:TEok P e)(Z:e.u=1)(h:o.op=.binOp op e.ty x y Y)(hx:ρ x=.bool a)(F:ρ y=.bool b){k0:Value->Prop}(J:bbin op a b k0):
  ∃v,(execOp ρ o).run P w=.ok (.value v) w/\∀k,bbin op a b k->k v:=by
 have M:=he.bool Z
 have H:∀W,(Op.equal e.ty (.bool a) (.bool b)).run P W=.ok (a==b) W:=λW=>by
  unfold Op.equal;rw[show Op.maxDepth=Op.maxDepth - 1+1 from rfl,Op.equalIn];simp[underlying,M,go_sem]
 cases op
 case eql=>exact⟨.bool (a==b),by simp[execOp,h,hx,F,binOp,eqGuard,H,go_sem],λk hk=>by cases a<;>cases b<;>exact hk⟩
 case neq=>exact⟨.bool (!(a==b)),by simp[execOp,h,hx,F,binOp,eqGuard,H,go_sem],λk hk=>by cases a<;>cases b<;>exact hk⟩
 all_goals exact absurd J (by cases a<;>cases b<;>exact id)
theorem Mt:∀(vs:qL) (off i:Nat) (cs:qL),off+i+vs.length<=cs.length->
  (vs.zipIdx i).foldl (λ(cs:Array Value) p=>cs.setIfInBounds (off+p.2) p.1) cs.toArray=(cs.take (off+i)++vs++cs.drop (off+i+vs.length)).toArray
 |[],off,i,cs,_=>by simp
 |v::vs,off,i,cs,h=>by
  simp only[dL]at h;rw[List.zipIdx_cons,gE,List.setIfInBounds_toArray,Mt vs off (i+1) (cs.set (off+i) v) (by simp;omega)]
  congr 1
  have J:cs.set (off+i) v=cs.take (off+i)++v::cs.drop (off+i+1):=iC.trans (dB (by omega));rw[J];have F:(cs.take (off+i)).length=off+i:=by rw[dG];omega
  have H:(cs.take (off+i)).drop (off+(i+1)+vs.length)=[]:=gV (by rw[F];omega);rw[List.take_append,List.drop_append,F,er (l:=cs.take (off+i)) (i:=off+(i+1)) (by rw[F];omega),show off+(i+1) - (off+i)=1 by omega,show off+(i+1)+vs.length - (off+i)=vs.length+1 by omega,H];simp only[gv,List.take_zero,dl,eZ,List.drop_drop,dL,eB,fb];rw[show off+i+1+vs.length=off+i+(vs.length+1) by omega]
theorem Rx{e:TE}{x:Operand}{f off sz:Nat}{cs:Array Value}{v:Value}(he:TEok P e)(hu:e.u=4)(Z:e.el=1)(hf:e.bm[f]?=some (off,sz))(h:o.op=.field e.ty x f)(hx:ρ x=.agg cs)(hv:cs[off]?=some v):(execOp ρ o).run P w=.ok (.value v) w:=by
 obtain⟨fs,hd,ho,_⟩:=he.struct hu;obtain⟨H,F,J⟩:=LI _ _ _ _ ho hf;have Y:=he.und;unfold teB at Y;rw[hd,hu,Z]at Y;simp only[cY,dY]at Y;have h3:=Y.2.resolve_left (by decide);have h4:=dh.1 h3 H (AE F);rw[iN]at F
 have aa:P.underlying H.type=some (.int .i64):=by
  split at h4
  ·assumption
  ·cases h4
 have M:H.offset=off:=by
  cases hi:P.info? H.type with
  |none=>rw[hi]at J;cases J
  |some j=>rw[hi]at J;simp only[eo,fY,dw]at J;exact J.1
 have af:∀W,(isAgg H.type).run P W=.ok false W:=λW=>by simp[isAgg,underlying,aa,go_sem]
 simp[execOp,h,hx,Instr.field,underlying,hd,F,part,asAgg,af,M,hv,go_sem]
theorem Ol:∀(ps:List (Nat × Operand)) (i:Nat),Me (ps.map (·.1)) i=true->ps.map (λp=>(p.1,ρ p.2))=((ps.map λp=>ρ p.2).zipIdx i).map λx=>(x.2,x.1)
 |[],_,_=>rfl
 |p::r,i,h=>by
  unfold Me at h;simp only[dz,cY]at h;rw[dz,dz,List.zipIdx_cons,dz,Ol r (i+1) h.2,<-cX h.1]
theorem Jg{e H:TE}{n:Nat}{ps:Array (Nat × Operand)}(he:TEok P e)(hu:e.u=3)(af:TEok P H)(aa:H.ty=e.el)(h:o.op=.buildSlice e.ty n ps)(hn:ps.size=n)(hp:Me (ps.toList.map (·.1)) 0=true)(h1:1<=H.size)(al:n*H.size<=16777216)
  (hv:∀v∈ps.toList.map (λp=>ρ p.2),v.cells.size=H.size):(execOp ρ o).run P w=.ok (.value (.slice (some ⟨w.heap.size,0,none⟩) n n)) (w.alloc (.cells ((ps.toList.map λp=>ρ p.2).flatMap λv=>v.cells.toList).toArray e.el)):=by
 obtain⟨i,z,W,M,hz,hc⟩:=af.bG;rw[aa]at W;have J:=Ol (ρ:=ρ) ps.toList 0 hp
 have F:(ps.map λ(x:Nat × Operand)=>match x with|(i,x)=>(i,ρ x)).toList=((ps.toList.map λp=>ρ p.2).zipIdx 0).map λx=>(x.2,x.1):=by
  rw[<-J,eJ]
 rcases gk n with Z|Z
 ·subst Z
  have Y:ps=#[]:=Array.eq_empty_of_size_eq_zero hn;subst Y;simp[execOp,h,Instr.buildSlice,underlying,he.slice hu,sizeOf,typeInfo,W,Instr.fill,newRow,newObj,go_sem];rfl
 ·have hf:=Great.fill_whole h1 (ps.toList.map λp=>ρ p.2) ((Array.range (n*i.size)).map (z.cells[·%z.cells.size]!)) hv (by simp[hn,M])
  rw[<-M]at hf;have:=run_buildSlice (P:=P) w e.ty e.el n _ _ i z (he.slice hu) W hz (by rw[M];omega) (by rw[M];have:=Nat.mul_pos Z h1;omega) (F▸hf);simp only[execOp,h,ew,this,Result.andThen_ok,Sem.run_pure]
end
end
end Go.Proofs.YtbceafpodamnfaaGreatDoor
