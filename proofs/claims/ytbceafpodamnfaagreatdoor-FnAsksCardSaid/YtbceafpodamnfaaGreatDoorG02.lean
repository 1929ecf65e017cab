import Derived.Test.YtbceafpodamnfaaGreatDoorG00
import Derived.Great.BuildSlice
set_option linter.all false
namespace Go.Proofs.YtbceafpodamnfaaGreatDoor
section
open Go
open Go.Value renaming int->In,slice->Sl,string->Sg,bool->Bo,pointer->Po
open Go.IntKind renaming i64->i6
def pof(p:Addr):Nat:=p.block*p.off+p.spot.getD 0
def r0(α:Nat->Option Addr):Value->Value
 | .complex _ i o=>.pointer ((α i).map (·.add o))
 | .iface i (Sl _ n c)=>.slice (α i) n c
 | .iface i (Po (some p))=>.pointer ((α i).map (·.add (pof p)))
 |v=>v
def r1(α:Nat->Option Addr):Value->Value
 | .agg cs=>.agg (cs.map (r0 α))
 |v=>r0 α v
def r2(α:Nat->Option Addr):Value->Value
 | .tuple vs=>.tuple (vs.map (r1 α))
 |v=>r1 α v
structure VB where
 kd:Nat
 ty:Nat
 sz:Nat
 n:Nat
 cp:Nat
 cs:List Value
 Q:Nat->(List Value->Prop)->Prop
 E:World->List Value->Prop
abbrev AW:=List (Nat × VB)
abbrev Tm:=List (Nat × Value)
abbrev Ct:=List Value->AW->Nat->(Value->AW->Prop)->Prop
structure TE where
 ty:Nat
 u:Nat
 el:Nat
 size:Nat
 bC:List (Nat × Nat)
 zero:List Value
def lk{β:Type}:List (Nat × β)->Nat->Option β
 |[],_=>none
 |(i,b)::r,j=>bif Nat.beq i j then some b else lk r j
def tyo:List TE->Nat->Option TE
 |[],_=>none
 |e::r,j=>bif Nat.beq e.ty j then some e else tyo r j
def AX(cs:qL)(ty:Nat):VB:=⟨0,ty,0,0,0,cs,λ_ _=>True,λ_ _=>True⟩
def To(cs:qL)(ty:Nat)(E:World->List Value->Prop):VB:=⟨2,ty,0,0,0,cs,λ_ _=>True,E⟩
def NB:VB:=⟨7,0,0,0,0,[],λ_ _=>True,λ_ _=>True⟩
def Et(ty sz:Nat)(els:List (List Value)):VB:=⟨3,ty,sz,els.length,els.length,[],λj k=>∀el,els[j]?=some el->k el,λ_ _=>True⟩
def Jm(el:qL)(f:Nat)(vs:qL):List Value:=el.take f++vs++el.drop (f+vs.length)
def Kc(b:VB)(a f:Nat)(vs:qL):VB:=⟨3,b.ty,b.sz,b.n,b.cp,[],λj k=>(j=a->b.Q j λel=>k (Jm el f vs))/\(j≠a->b.Q j k),b.E⟩
def Ft(b b':VB)(n' c:Nat):VB:=⟨3,b.ty,b.sz,b.n+n',c,[],λj k=>(j<b.n->b.Q j k)/\(b.n<=j->b'.Q (j - b.n) k),λW el=>b.E W el\/b'.E W el⟩
def FK(b:VB)(lo len:Nat):VB:=⟨1,b.ty,b.sz,len,0,[],λj k=>b.Q (lo+j) k,b.E⟩
def DJ:Value->List Nat
 | .complex _ i _=>[i]
 | .iface i (.slice ..)=>[i]
 | .iface i (Po (some _))=>[i]
 |_=>[]
def RN:Value->List Nat
 | .agg cs=>cs.toList.flatMap DJ
 |v=>DJ v
def Bc:Value->List Nat
 | .tuple cs=>cs.toList.flatMap RN
 |v=>RN v
def LN(m:AW):List Nat->AW
 |[]=>[]
 |i::r=>match lk m i with
  |some b=>(i,b)::LN m r
  |none=>LN m r
def GW(m:AW):List Nat->AW
 |[]=>[]
 |i::r=>match lk m i with
  |some b=>(i,b)::(LN m (b.cs.flatMap DJ)++GW m r)
  |none=>GW m r
def cst:Value->Option Value
 | .int k n=>some (.int k n)
 | .bool b=>some (.bool b)
 | .string s=>some (.string s)
 | .slice none n c=>some (Sl none n c)
 | .pointer none=>some (.pointer none)
 |_=>none
def evo(t:Tm):Operand->Option Value
 | .tmp i=>lk t i
 | .const v=>cst v
 |_=>none
def evs(t:Tm):List Operand->Option (List Value)
 |[]=>some []
 |x::r=>match evo t x with
  |some v=>match evs t r with
   |some l=>some (v::l)
   |none=>none
  |none=>none
def bs(b:Bool)(k:Value->Prop):Prop:=(b=true->k (.bool true))/\(b=false->k (.bool false))
def bp(p:Prop)(k:Value->Prop):Prop:=(p->k (.bool true))/\(¬p->k (.bool false))
def inR(n:Int):Prop:= -9223372036854775808<=n/\n<=9223372036854775807
def ibin(o:BinOp)(a b:Int)(k:Value->Prop):Prop:=
 match o with
 | .add=>∀n,(inR (a+b)->n=a+b)->k (In i6 n)
 | .sub=>∀n,(inR (a - b)->n=a - b)->k (In i6 n)
 | .mul=>∀n,(inR (a*b)->n=a*b)->k (In i6 n)
 | .quo=>b≠0/\∀n,(0<=a->0<b->a<=9223372036854775807->n=a / b)->k (In i6 n)
 | .rem=>b≠0/\∀n,(0<=a->0<b->n=a%b)->k (In i6 n)
 | .eql=>bp (a=b) k
 | .neq=>bp (a≠b) k
 | .lss=>bp (a<b) k
 | .leq=>bp (a<=b) k
 | .gtr=>bp (b<a) k
 | .geq=>bp (b<=a) k
 |_=>False
def sbin(o:BinOp)(a b:qB)(k:Value->Prop):Prop:=
 match o with
 | .eql=>bs (a.toList==b.toList) k
 | .neq=>bs (!(a.toList==b.toList)) k
 | .lss=>bs (Op.bytesLess a.toList b.toList) k
 |_=>False
def bbin(o:BinOp)(a b:Bool)(k:Value->Prop):Prop:=
 match o,a,b with
 | .eql,true,true=>k (.bool true)
 | .eql,false,false=>k (.bool true)
 | .eql,_,_=>k (.bool false)
 | .neq,true,true=>k (.bool false)
 | .neq,false,false=>k (.bool false)
 | .neq,_,_=>k (.bool true)
 |_,_,_=>False
def frcL:List Value->(List Value->Prop)->Prop
 |[],k=>k []
 |x::r,k=>frcL r λr'=>k (x::r')
theorem Lq:∀(l:qL) (k:List Value->Prop),frcL l k=k l
 |[],_=>rfl
 |_::r,_=>Lq r _
def Gm:Value->Bool
 | .agg _=>false
 | .tuple _=>false
 |_=>true
def Ig:Value->Bool
 | .tuple _=>false
 |_=>true
def noV:Value->Bool
 | .complex ..=>false
 | .iface ..=>false
 |_=>true
def ldv(tt:List TE)(T:Nat)(cs:qL)(o:Nat)(k:Value->Prop):Prop:=
 match tyo tt T with
 |some e=>bif Nat.beq e.u 4 then(bif Nat.ble (o+e.size) cs.length then frcL ((cs.drop o).take e.size) λl=>k (.agg l.toArray) else False) else match cs[o]? with
  |some (.bool b)=>bs b k
  |some v=>bif Gm v then k v else False
  |none=>False
 |none=>False
def tyU(tt:List TE)(T:Nat):Nat:=match tyo tt T with
 |some e=>e.u
 |none=>99
def RG(tt:List TE)(ts:Array Nat)(u:Nat):Bool:=match ts[0]? with
 |some T=>Nat.beq (tyU tt T) u
 |none=>false
def Ad:Value->List Value
 | .agg a=>a.toList
 |v=>[v]
def M2(pl:List (Nat × Nat))(cs:qL):List Nat->List Value->Option (List Value)
 |[],[]=>some cs
 |i::is,v::vs=>match pl[i]? with
  |some (off,sz)=>bif Ig v&&Nat.beq (Ad v).length sz&&Nat.ble (off+(Ad v).length) cs.length then M2 pl (cs.take off++Ad v++cs.drop (off+(Ad v).length)) is vs else none
  |none=>none
 |_,_=>none
def UV(pl:List (Nat × Nat))(cs:qL):List Nat->List Value->(List Value->Prop)->Prop
 |[],[],k=>k cs
 |i::is,v::vs,k=>match pl[i]? with
  |some (off,sz)=>bif Ig v&&Nat.beq (Ad v).length sz&&Nat.ble (off+(Ad v).length) cs.length then frcL (cs.take off++Ad v++cs.drop (off+(Ad v).length)) λcs=>UV pl cs is vs k else False
  |none=>False
 |_,_,_=>False
theorem JQ{H:List (Nat × Nat)}{k:List Value->Prop}:∀(is:List Nat) (vs cs:qL),UV H cs is vs k->∃z,M2 H cs is vs=some z/\k z
 |[],[],cs,h=>⟨cs,rfl,h⟩
 |i::is,v::vs,cs,h=>by
  unfold UV at h;unfold M2;split at h
  ·rename_i F sz J
   cases hb:(Ig v&&Nat.beq (Ad v).length sz&&Nat.ble (F+(Ad v).length) cs.length) with
   |false=>rw[hb]at h;exact h.elim
   |true=>
    rw[hb,eY,Lq]at h;rw[eY];exact JQ is vs _ h
  ·exact h.elim
 |[],_::_,_,h=>h.elim
 |_::_,[],_,h=>h.elim
def VG(b:VB):Bool:=Nat.beq b.kd 0||Nat.beq b.kd 2||Nat.beq b.kd 4
def OS:List Nat->Nat->Bool
 |[],_=>true
 |a::r,i=>Nat.beq a i&&OS r (i+1)
def Ck:List Value->List Value->Bool
 |[],[]=>true
 | .string _::r,.string _::r'=>Ck r r'
 | In i6 _::r,In i6 _::r'=>Ck r r'
 | .bool _::r,.bool _::r'=>Ck r r'
 |_,_=>false
def eqI:List Value->List Value->Bool
 | In i6 a::r,In i6 b::r'=>decide (a=b)&&eqI r r'
 |[],[]=>true
 |_,_=>false
def opg(tt:List TE)(Γ:List (Nat × Nat × Ct))(id:Nat)(op:Op)(vs:qL)(es:AW)(k:Value->AW->Prop):Prop:=
 match op,vs with
 | .move _,[v]=>k v []
 | .assign _,[v]=>k v []
 | .pick ..,[Bo true,a,_]=>k a []
 | .pick ..,[Bo false,_,b]=>k b []
 | .binOp o ..,[In i6 a,In i6 b]=>ibin o a b λv=>k v []
 | .binOp o ..,[Sg a,Sg b]=>sbin o a b λv=>k v []
 | .binOp o T ..,[Bo a,Bo b]=>bif Nat.beq (tyU tt T) 1 then bbin o a b λv=>k v [] else False
 | .binOp .neq T ..,[.agg a,.agg b]=>match tyo tt T with
  |some e=>bif Nat.beq e.u 4&&Nat.beq e.el 2&&Ck e.zero a.toList then a=b/\k (.bool false) [] else False
  |none=>False
 | .binOp .eql T ..,[.agg a,.agg b]=>match tyo tt T with
  |some e=>bif Nat.beq e.u 4&&Nat.beq e.el 1&&Ck e.zero a.toList&&Ck e.zero b.toList then bs (eqI a.toList b.toList) λv=>k v [] else False
  |none=>False
 | .unOp .not ..,[Bo true]=>k (.bool false) []
 | .unOp .not ..,[Bo false]=>k (.bool true) []
 | .alloc T,[]=>match tyo tt T with
  |some e=>bif e.zero.all noV then k (.complex .f64 id 0) [(id,AX e.zero T)] else False
  |none=>False
 | .box T _,[v]=>match v with
  | .agg a=>k (.complex .f64 id 0) [(id,AX a.toList T)]
  |v=>bif Gm v then k (.complex .f64 id 0) [(id,AX [v] T)] else False
 | .build T ps,vs=>match tyo tt T with
  |some e=>bif Nat.beq e.u 4&&e.zero.all noV then UV e.bC e.zero (ps.toList.map (·.1)) vs λcs=>k (.agg cs.toArray) [] else False
  |none=>False
 | .buildSlice T n ps,vs=>match tyo tt T with
  |some e=>match tyo tt e.el with
   |some e'=>bif Nat.beq e.u 3&&Nat.beq vs.length n&&OS (ps.toList.map (·.1)) 0&&Nat.ble 1 e'.size&&Nat.ble (n*e'.size) 16777216&&vs.all (λv=>Nat.beq (Ad v).length e'.size&&(Ad v).all (λu=>noV u&&Gm u)) then k (.iface id (Sl none n n)) [(id,Et e.el e'.size (vs.map Ad))] else False
   |none=>False
  |none=>False
 | .field T _ f,[.agg cs]=>match tyo tt T with
  |some e=>match e.bC[f]? with
   |some (off,sz)=>match cs.toList[off]? with
    |some (In i6 x)=>bif Nat.beq e.u 4&&Nat.beq e.el 1 then k (In i6 x) [] else False
    |_=>False
   |none=>False
  |none=>False
 | .load T _,[.iface i (Po (some ⟨a,sz,some f⟩))]=>match lk es i with
  |some b=>bif Nat.beq b.kd 3&&Nat.beq sz b.sz then a<b.n/\b.Q a λel=>ldv tt T el f λv=>k v [] else False
  |none=>False
 | .fieldAddr T _ f,[.iface i (Po (some ⟨a,sz,some o⟩))]=>match tyo tt T,lk es i with
  |some e,some b=>match e.bC[f]? with
   |some p=>bif Nat.beq e.u 4&&Nat.beq b.kd 3 then k (.iface i (Po (some ⟨a,sz,some (o+p.1)⟩))) [] else False
   |none=>False
  |_,_=>False
 | .load T _,[.complex _ i o]=>match lk es i with
  |some b=>bif Nat.beq b.kd 0||Nat.beq b.kd 2 then ldv tt T b.cs o λv=>k v [] else False
  |none=>False
 | .fieldAddr T _ f,[.complex x i o]=>match tyo tt T,lk es i with
  |some e,some b=>match e.bC[f]? with
   |some p=>bif Nat.beq e.u 4&&VG b then k (.complex x i (o+p.1)) [] else False
   |none=>False
  |_,_=>False
 | .indexAddr T _ _,[.iface i (Sl _ n _),In i6 a]=>match lk es i with
  |some b=>match tyo tt T with
   |some e=>match tyo tt e.el with
    |some e'=>bif Nat.beq e.u 3&&Nat.beq e'.size b.sz then(bif Nat.beq b.kd 1 then 0<=a/\a<(n:Int)/\n<=b.n/\b.Q a.toNat λel=>k (.complex .f64 id 0) [(id,To el b.ty b.E)] else bif Nat.beq b.kd 3 then 0<=a/\a<(n:Int)/\n<=b.n/\k (.iface i (Po (some ⟨a.toNat,b.sz,some 0⟩))) [] else False) else False
    |none=>False
   |none=>False
  |none=>False
 | .slice T _ (some _) none none,[.iface i (Sl _ n cp),In i6 a]=>match lk es i with
  |some b=>match tyo tt T with
   |some e=>match tyo tt e.el with
    |some e'=>bif Nat.beq e.u 3&&Nat.beq e'.size b.sz&&Nat.beq b.kd 1 then 0<=a/\a<=(n:Int)/\n<=b.n/\n<=cp/\k (.iface id (Sl none (n - a.toNat) (cp - a.toNat))) [(id,FK b a.toNat (n - a.toNat))] else False
    |none=>False
   |none=>False
  |none=>False
 | .slice T _ none (some _) none,[.iface i (Sl _ n cp),In i6 a]=>match lk es i with
  |some b=>match tyo tt T with
   |some e=>match tyo tt e.el with
    |some e'=>bif Nat.beq e.u 3&&Nat.beq e'.size b.sz&&Nat.beq b.kd 1 then 0<=a/\a<=(cp:Int)/\a.toNat<=b.n/\k (.iface id (Sl none a.toNat cp)) [(id,FK b 0 a.toNat)] else False
    |none=>False
   |none=>False
  |none=>False
 | .call ⟨.builtin .len,_,ts⟩,[.iface _ (Sl _ n _)]=>bif RG tt ts 3 then k (In i6 n) [] else False
 | .call ⟨.builtin .len,_,ts⟩,[Sl _ n _]=>bif RG tt ts 3 then k (In i6 n) [] else False
 | .call ⟨.builtin .len,_,ts⟩,[Sg s]=>bif RG tt ts 2 then k (In i6 s.size) [] else False
 | .call ⟨.builtin .max,_,_⟩,[In i6 a,In i6 b]=>k (In i6 (if a<b then b else a)) []
 | .call ⟨.builtin .min,_,_⟩,[In i6 a,In i6 b]=>k (In i6 (if b<a then b else a)) []
 | .call ⟨.value (.func f),_,_⟩,vs=>match lk Γ f with
  |some (_,C)=>C vs es id k
  |none=>False
 | .extract _ i,[.tuple vs]=>match vs[i]? with
  |some v=>bif Ig v then k v [] else False
  |none=>False
 | .nilCheck _,[.complex x i o]=>match lk es i with
  |some b=>bif VG b then k (.complex x i o) [] else False
  |none=>False
 | .nilCheck _,[.iface i (Po (some ⟨a,sz,some f⟩))]=>match lk es i with
  |some b=>bif Nat.beq b.kd 3 then k (.iface i (Po (some ⟨a,sz,some f⟩))) [] else False
  |none=>False
 |_,_=>False
structure St where
 t:Tm
 m:AW
 c:Nat
 q:Nat
def EO(ops:List Oper)(t:Tm)(o:Oper):Option Bool:=
 match o.guard with
 |none=>some true
 |some (j,au)=>match ops[j]? with
  |some o'=>match o'.dst with
   |some d=>match lk t d with
    |some (.bool true)=>some au
    |some (.bool false)=>some (!au)
    |some (.tuple _)=>some false
    |_=>none
   |none=>none
  |none=>none
def Fr(d:Option Nat)(v:Value)(t:Tm):Tm:=
 match d with
 |some d=>(d,v)::t
 |none=>t
def Bz(op:Op):List Operand:=
 match op with
 | .move x=>[x]| .assign x=>[x]| .box _ x=>[x]| .load _ x=>[x]| .nilCheck x=>[x]| .unOp _ _ x=>[x]| .convert _ _ x=>[x]
 | .fieldAddr _ x _=>[x]| .field _ x _=>[x]| .extract x _=>[x]
 | .pick c a b=>[c,a,b]
 | .build _ ps=>ps.toList.map (·.2)
 | .buildSlice _ _ ps=>ps.toList.map (·.2)
 | .store _ a v=>[a,v]| .binOp _ _ a v _=>[a,v]| .indexAddr _ a v=>[a,v]| .index _ a v=>[a,v]
 | .call c=>c.args.toList
 | .slice _ x lo hi _=>x::(lo.toList++hi.toList)
 |_=>[]
def I9(m:AW)(i:Nat)(b:VB):AW:=
 match m with
 |[]=>[]
 |(j,b')::r=>bif Nat.beq j i then(j,b)::r else(j,b')::I9 r i b
def stv(tt:List TE)(op:Op)(vs:qL)(m:AW):Option (List Value × AW):=
 match op,vs with
 | .store T _ _,[.complex _ i off,v]=>match lk m i with
  |some b=>match tyo tt T with
   |some e=>bif Nat.beq b.kd 0&&Nat.beq (Ad v).length e.size&&Nat.ble (off+(Ad v).length) b.cs.length&&(Ad v).all Gm then
     some (b.cs.take off++Ad v++b.cs.drop (off+(Ad v).length),I9 m i (AX (b.cs.take off++Ad v++b.cs.drop (off+(Ad v).length)) b.ty)) else none
   |none=>none
  |none=>none
 |_,_=>none
def okEl(sz:Nat)(el:qL):Prop:=el.length=sz/\el.all (λu=>noV u&&Gm u)=true
def srcC(b':VB)(n':Nat)(X:Prop):Prop:=bif Nat.beq b'.kd 3 then X else(∀j,j<n'->b'.Q j (okEl b'.sz))/\X
def rwg(tt:List TE)(id:Nat)(op:Op)(vs:qL)(m:AW):Option ((Value->AW->Prop)->Prop):=
 match op,vs with
 | .store T _ _,[.iface i (Po (some ⟨a,sz,some f⟩)),v]=>match lk m i with
  |some b=>match tyo tt T with
   |some e=>bif Nat.beq b.kd 3&&Nat.beq sz b.sz&&Nat.beq (Ad v).length e.size&&Nat.ble (f+(Ad v).length) sz&&(Ad v).all (λu=>noV u&&Gm u) then
     some λk=>a<b.n/\(∀W el,b.E W el->b.E W (Jm el f (Ad v)))/\k (.tuple #[]) (I9 m i (Kc b a f (Ad v))) else none
   |none=>none
  |none=>none
 | .call ⟨.builtin .append,_,ts⟩,[.iface i (Sl _ n c),.iface j (Sl _ n' _)]=>match lk m i with
  |some b=>match lk m j with
   |some b'=>match ts.toList with
    |[T,T']=>match tyo tt T with
     |some e=>match tyo tt e.el with
      |some e'=>bif Nat.beq T T'&&Nat.beq e.u 3&&Nat.beq b.kd 3&&(Nat.beq b'.kd 3||Nat.beq b'.kd 1)&& !Nat.beq i j&&Nat.beq b.sz e'.size&&Nat.beq b'.sz e'.size&&Nat.beq b.ty e.el&&Nat.beq b'.ty e.el&&Nat.beq e'.zero.length e'.size then
        some λk=>n=b.n/\c=b.cp/\n'<=b'.n/\n+n'<=1000000000/\srcC b' n' (∀c',k (.iface id (Sl none (n+n') c')) ((id,Ft b b' n' c')::I9 m i NB)) else none
      |none=>none
     |none=>none
    |_=>none
   |none=>none
  |none=>none
 | .call ⟨.builtin .append,_,ts⟩,[Sl none n0 c0,.iface j (Sl _ n' _)]=>match lk m j with
  |some b'=>match ts.toList with
   |[T,T']=>match tyo tt T with
    |some e=>match tyo tt e.el with
     |some e'=>bif Nat.beq n0 0&&Nat.beq c0 0&&Nat.beq T T'&&Nat.beq e.u 3&&(Nat.beq b'.kd 3||Nat.beq b'.kd 1)&&Nat.ble 1 e'.size&&Nat.beq b'.sz e'.size&&Nat.beq b'.ty e.el&&Nat.beq e'.zero.length e'.size then
       some λk=>1<=n'/\n'<=b'.n/\n'<=1000000000/\srcC b' n' (∀c',k (.iface id (Sl none n' c')) ((id,Ft (Et e.el e'.size []) b' n' c')::m)) else none
     |none=>none
    |none=>none
   |_=>none
  |none=>none
 |_,_=>none
def clo(m:AW)(l:List Nat):Bool:=l.all λi=>(lk m i).isSome
def S5:AW->(AW->Prop)->Prop
 |[],k=>k []
 |(i,⟨kd,ty,sz,n,cp,cs,Q,E⟩)::r,k=>frcL cs λcs'=>S5 r λr'=>k ((i,⟨kd,ty,sz,n,cp,cs',Q,E⟩)::r')
theorem Lr:∀(m:AW) (k:AW->Prop),S5 m k=k m
 |[],_=>rfl
 |(_,⟨_,_,_,_,_,cs,_,_⟩)::r,_=>(Lq cs _).trans (Lr r _)
def vO(tt:List TE)(Γ:List (Nat × Nat × Ct))(ops:List Oper)(c:Nat):List Oper->Nat->Tm->AW->(Tm->AW->Prop)->Prop
 |[],_,t,m,k=>k t m
 |o::r,j,t,m,k=>
  match EO ops t o with
  |some false=>vO tt Γ ops c r (j+1) (Fr o.dst (.tuple #[]) t) m k
  |some true=>match evs t (Bz o.op) with
   |some vs=>match stv tt o.op vs m with
    |some m'=>S5 m'.2 λm'=>vO tt Γ ops c r (j+1) (Fr o.dst (.tuple #[]) t) m' k
    |none=>match rwg tt (c+8*j) o.op vs m with
     |some T=>T λv m'=>S5 m' λm'=>vO tt Γ ops c r (j+1) (Fr o.dst v t) m' k
     |none=>opg tt Γ (c+8*j) o.op vs (GW m (vs.flatMap Bc)) λv es=>vO tt Γ ops c r (j+1) (Fr o.dst v t) (es++m) k
   |none=>False
  |none=>False
def Al(Γ:List (Nat × Nat × Ct))(o:Oper):Nat:=match o.op with
 | .call ⟨.value (.func f),_,_⟩=>match lk Γ f with
  |some (c,_)=>c
  |none=>0
 |_=>0
def BS(Γ:List (Nat × Nat × Ct)):List Oper->Nat
 |[]=>0
 |o::r=>Al Γ o+BS Γ r
def QM:Nat:=1000000000000
def vR(tt:List TE)(Γ:List (Nat × Nat × Ct))(ops:List Oper)(s:St)(k:St->Prop):Prop:=
 let X:=vO tt Γ ops s.c ops 0 s.t s.m λt m=>k ⟨t,m,s.c+8*ops.length,s.q+BS Γ ops⟩
 bif Nat.beq (BS Γ ops) 0 then X else s.q+BS Γ ops<=QM/\X
def rnI(ρ:List (Nat × Nat))(i:Nat):Nat:=match lk ρ i with
 |some j=>j
 |none=>i
def rn0(ρ:List (Nat × Nat)):Value->Value
 | .complex k i o=>.complex k (rnI ρ i) o
 | .iface i (Sl a n c)=>.iface (rnI ρ i) (Sl a n c)
 | .iface i (Po (some p))=>.iface (rnI ρ i) (Po (some p))
 |v=>v
def rn1(ρ:List (Nat × Nat)):Value->Value
 | .agg cs=>.agg (cs.toList.map (rn0 ρ)).toArray
 |v=>rn0 ρ v
def entT(ρ:List (Nat × Nat))(t:Tm):Tm->Prop
 |[]=>True
 |(i,v)::r=>lk t i=some (rn1 ρ v)/\Ig v=true/\entT ρ t r
structure LeB(ρ:List (Nat × Nat))(b0 b:VB):Prop where
 kd:b0.kd=b.kd
 ty:b0.ty=b.ty
 sz:b0.sz=b.sz
 n:b.n<=b0.n
 n3:b.kd=3->b0.n=b.n/\b0.cp=b.cp
 cs:b0.cs=b.cs.map (rn0 ρ)
 Q:∀j,j<b.n->∀k,b.Q j k->b0.Q j k
 E:∀W el,b0.E W el->b.E W el
 v:b.kd=2->b0.cs=b.cs
theorem LeB.same(ρ:List (Nat × Nat))(b:VB)(h:b.cs=b.cs.map (rn0 ρ)):LeB ρ b b:=⟨rfl,rfl,rfl,AG,λ_=>⟨rfl,rfl⟩,h,λ_ _ _ h=>h,λ_ _ h=>h,λ_=>rfl⟩
def Vg(ρ:List (Nat × Nat))(m:AW):AW->Prop
 |[]=>True
 |(i,b)::r=>(∃b0,lk m (rnI ρ i)=some b0/\LeB ρ b0 b)/\Vg ρ m r
def Qv:AW->List Nat
 |[]=>[]
 |(i,b)::r=>bif Nat.beq b.kd 0||Nat.beq b.kd 3 then i::Qv r else Qv r
def fixB(ρ:List (Nat × Nat)):Bool:=ρ.all λp=>Nat.ble 64 p.1
def VY(ρ:List (Nat × Nat)):List Nat->Bool
 |[]=>true
 |i::r=>r.all (λj=>Nat.beq i j|| !Nat.beq (rnI ρ i) (rnI ρ j))&&VY ρ r
def cloB(s:St):Bool:=(s.t.all (λp=>clo s.m (Bc p.2))&&s.m.all (λp=>Nat.ble (p.1+1) s.c&&clo s.m (p.2.cs.flatMap DJ)))&&Nat.ble 64 s.c
def Ent(s s':St):Prop:=∃ρ,entT ρ s.t s'.t/\Vg ρ s.m s'.m/\(VY ρ (Qv s'.m)&&fixB ρ)=true/\cloB s'=true/\s.q<=s'.q
theorem qe{p:Prop}(h:p:=by refine⟨[],?_,?_,rfl,rfl,AG⟩<;>repeat' (first|exact rfl|exact trivial|exact⟨_,rfl,.same _ _ rfl⟩|apply dg)):p:=h
abbrev Sp:=List (Nat × (St->(St->Prop)->Prop))
def vw(tt:List TE)(Γ:List (Nat × Nat × Ct))(Ρ:Sp):Code->(Exit->St->Prop)->St->Prop
 | .skip,Q,s=>Q .normal s
 | .region i ops _,Q,s=>match lk Ρ i with
  |some C=>C s (Q .normal)
  |none=>vR tt Γ ops.toList s (Q .normal)
 | .seq a b,Q,s=>vw tt Γ Ρ a (λe s=>match e with| .normal=>vw tt Γ Ρ b Q s|e=>Q e s) s
 | .cond c x y,Q,s=>match evo s.t c with
  |some (.bool true)=>vw tt Γ Ρ x Q s
  |some (.bool false)=>vw tt Γ Ρ y Q s
  |_=>False
 | .block i c,Q,s=>vw tt Γ Ρ c (λe s=>match e with| .exit j=>bif Nat.beq i j then Q .normal s else Q (.exit j) s|e=>Q e s) s
 | .loop c,Q,s=>∃(I:Nat->St->Prop) (n:Nat),(∃s',Ent s s'/\I n s')/\∀n s,I n s->vw tt Γ Ρ c (λe s=>match e with| .normal=>∃n',n'<n/\∃s',Ent s s'/\I n' s'|e=>Q e s) s
 | .exit i,Q,s=>Q (.exit i) s
 | .ret,Q,s=>Q .ret s
 |_,_,_=>False
end
section
open Go.RowKit
open Go.Value renaming int->In,slice->Sl,string->Sg,bool->Bo,pointer->Po
open Go.IntKind renaming i64->i6
section
variable {P:Program} {ρ:Operand->Value} {w:World} {o:Oper}
def teB(P:Program)(e:TE):Bool:=match P.underlying e.ty with
 |some (.struct fs)=>Nat.beq e.u 4&&(fs.toList.mapM (λf=>(P.info? f.type).map λi=>(f.offset,i.size))==some e.bC)&&e.bC.all (λp=>!(Nat.beq p.2 0))&&(!Nat.beq e.el 1||fs.toList.all λf=>match P.underlying f.type with|some (.int .i64)=>true|_=>false)
 |some (.int .i64)=>Nat.beq e.u 0
 |some .bool=>Nat.beq e.u 1
 |some .string=>Nat.beq e.u 2
 |some (.slice t)=>Nat.beq e.u 3&&Nat.beq e.el t
 |some (.pointer _)=>Nat.beq e.u 5
 |some (.int .u8)=>Nat.beq e.u 6
 |_=>false
def eqOk(P:Program)(e:TE):Prop:=(e.u=4->e.el=2->∀(ρ:Operand->Value) (o:Oper) (w:World) (x y:Operand) (cs:Array Value) (t2:Nat),o.op=.binOp .neq e.ty x y t2->ρ x=.agg cs->ρ y=.agg cs->Ck e.zero cs.toList=true->(execOp ρ o).run P w=.ok (.value (.bool false)) w)/\(e.u=4->e.el=1->∀(ρ:Operand->Value) (o:Oper) (w:World) (x y:Operand) (cs ds:Array Value) (t2:Nat),o.op=.binOp .eql e.ty x y t2->ρ x=.agg cs->ρ y=.agg ds->Ck e.zero cs.toList=true->Ck e.zero ds.toList=true->(execOp ρ o).run P w=.ok (.value (.bool (eqI cs.toList ds.toList))) w)
theorem Ol{P:Program}{e:TE}(h:e.u≠4\/(e.el≠2/\e.el≠1)):eqOk P e:=⟨λz H=>(h.elim (λh=>absurd z h) (λh=>absurd H h.1)),λz F=>(h.elim (λh=>absurd z h) (λh=>absurd F h.2))⟩
theorem Pa{a:qB}{r l:qL}(h:Ck (.string a::r) l=true):∃b r',l=.string b::r'/\Ck r r'=true:=by
 cases l with
 |nil=>cases h
 |cons u r'=>cases u<;>first|exact⟨_,_,rfl,h⟩|cases h
theorem DX{a:Int}{r l:qL}(h:Ck (In i6 a::r) l=true):∃b r',l=In i6 b::r'/\Ck r r'=true:=by
 cases l with
 |nil=>cases h
 |cons u r'=>
  cases u
  case int k b=>cases k<;>first|exact⟨_,_,rfl,h⟩|cases h
  all_goals cases h
theorem Su{a:Bool}{r l:qL}(h:Ck (.bool a::r) l=true):∃b r',l=.bool b::r'/\Ck r r'=true:=by
 cases l with
 |nil=>cases h
 |cons u r'=>cases u<;>first|exact⟨_,_,rfl,h⟩|cases h
theorem My{l:qL}(h:Ck [] l=true):l=[]:=by
 cases l with
 |nil=>rfl
 |cons u r'=>cases h
theorem KA(α:Nat->Option Addr):∀(z l:qL),Ck z l=true->l.map (r0 α)=l
 |[],l,h=>by rw[My h];rfl
 |v::z,l,h=>by
  cases v
  case string a=>obtain⟨b,r',rfl,F⟩:=Pa h;rw[dK,KA α z r' F];rfl
  case bool a=>obtain⟨b,r',rfl,F⟩:=Su h;rw[dK,KA α z r' F];rfl
  case int k a=>
   cases k
   case i64=>obtain⟨b,r',rfl,F⟩:=DX h;rw[dK,KA α z r' F];rfl
   all_goals (cases l<;>cases h)
  all_goals (cases l<;>cases h)
structure TEok(P:Program)(e:TE):Prop where
 cQ:(P.info? e.ty).map (λi=>(i.size,i.zero.map λz=>z.cells.toList,Nat.ble i.bytes 1000))=some (e.size,some e.zero,true)
 und:teB P e=true
 eqs:eqOk P e
theorem TEok.bI{e:TE}(h:TEok P e):∃i z,P.info? e.ty=some i/\i.size=e.size/\i.zero=some z/\z.cells.toList=e.zero:=by
 have F:=h.cQ
 cases J:P.info? e.ty with
 |none=>rw[J]at F;cases F
 |some i=>
  rw[J]at F
  cases H:i.zero with
  |none=>simp[H]at F
  |some z=>
   simp only[H,eO,iG,dR]at F;exact⟨i,z,rfl,F.1,H,F.2.1⟩
theorem TEok.bytes{e:TE}(h:TEok P e):∃i z,P.info? e.ty=some i/\i.size=e.size/\i.zero=some z/\z.cells.toList=e.zero/\i.bytes<=1000:=by
 have F:=h.cQ;obtain⟨i,z,H,M,O,J⟩:=h.bI;rw[H]at F;simp only[eO,iG,dR]at F;exact⟨i,z,H,M,O,J,AD F.2.2⟩
theorem TEok.struct{e:TE}(h:TEok P e)(M:e.u=4):∃F,P.underlying e.ty=some (.struct F)/\F.toList.mapM (λf=>(P.info? f.type).map λi=>(f.offset,i.size))=some e.bC/\∀p∈e.bC,p.2≠0:=by
 have z:=h.und;unfold teB at z;rw[M]at z;split at z
 ·rename_i F J
  simp only[di,fN]at z;refine⟨F,J,z.1.1.2,λf hf O=>?_⟩;have H:=dt.1 z.1.2 f hf;rw[O]at H;cases H
 all_goals first|cases z|(simp only[di]at z;first|cases z.1|cases z.1.1)
theorem Mu{α β:Type}{f:α->Option β}:∀(l:List α) (l':List β) (i:Nat) (b:β),l.mapM f=some l'->l'[i]?=some b->∃a,l[i]?=some a/\f a=some b
 |[],l',i,b,h,F=>by simp at h;subst h;cases F
 |a::l,l',i,b,h,F=>by
  simp only[List.mapM_cons,Option.bind_eq_bind,Option.pure_def]at h
  cases z:f a with
  |none=>simp[z]at h
  |some b0=>
   cases H:l.mapM f with
   |none=>simp[z,H]at h
   |some r=>
    simp[z,H]at h;subst h
    cases i with
    |zero=>exact⟨a,rfl,z.trans F⟩
    |succ i=>exact Mu l r i b H F
theorem TEok.bF{e:TE}(h:TEok P e)(J:e.u≠4):∃d,P.underlying e.ty=some d/\(∀F,d≠.struct F)/\∀n t,d≠.array n t:=by
 have z:=h.und;unfold teB at z;split at z
 ·rename_i F H
  simp only[di]at z;exact absurd (dh z.1.1.1) J
 all_goals first|(rename_i H;exact⟨_,H,by intros;simp,by intros;simp⟩)|cases z
theorem TEok.bool{e:TE}(h:TEok P e)(F:e.u=1):P.underlying e.ty=some .bool:=by
 have z:=h.und;unfold teB at z;rw[F]at z;split at z<;>first|assumption|cases z|(simp only[di]at z;first|cases z.1|cases z.1.1|cases z.1.1.1)
theorem TEok.string{e:TE}(h:TEok P e)(F:e.u=2):P.underlying e.ty=some .string:=by
 have z:=h.und;unfold teB at z;rw[F]at z;split at z<;>first|assumption|cases z|(simp only[di]at z;first|cases z.1|cases z.1.1|cases z.1.1.1)
theorem TEok.slice{e:TE}(h:TEok P e)(H:e.u=3):P.underlying e.ty=some (.slice e.el):=by
 have z:=h.und;unfold teB at z;rw[H]at z;split at z<;>first|cases z|(simp only[di]at z;first|(rename_i F;rw[F,dh z.2])|cases z.1|cases z.1.1)
theorem run_move{x:Operand}(h:o.op=.move x):(execOp ρ o).run P w=.ok (.value (ρ x)) w:=by simp[execOp,h,go_sem]
theorem SW{x:Operand}(h:o.op=.assign x):(execOp ρ o).run P w=.ok (.value (ρ x)) w:=by simp[execOp,h,go_sem]
theorem Qf{c x y:Operand}{b:Bool}(h:o.op=.pick c x y)(z:ρ c=.bool b):(execOp ρ o).run P w=.ok (.value (if b then ρ x else ρ y)) w:=by simp[execOp,h,z,go_sem]
theorem Tz{T:Nat}{x:Operand}{b:Bool}(h:o.op=.unOp .not T x)(z:ρ x=.bool b):(execOp ρ o).run P w=.ok (.value (.bool !b)) w:=by simp[execOp,h,z,go_sem]
theorem Qg{x:Operand}{i:Nat}{vs:Array Value}{v:Value}(h:o.op=.extract x i)(hx:ρ x=.tuple vs)(hv:vs[i]?=some v):(execOp ρ o).run P w=.ok (.value v) w:=by simp[execOp,h,hx,hv,go_sem]
theorem Jf{x:Operand}{a:Addr}(h:o.op=.nilCheck x)(hx:ρ x=Po (some a)):(execOp ρ o).run P w=.ok (.value (Po (some a))) w:=by simp[execOp,h,hx,go_sem]
theorem VE{e:TE}(H:TEok P e)(h:o.op=.alloc e.ty):(execOp ρ o).run P w=.ok (.value (Po (some ⟨w.heap.size,0,none⟩))) (w.alloc (.cells e.zero.toArray e.ty)):=by
 obtain⟨i,z,J,_,M,F⟩:=H.bI;simp[execOp,h,Instr.alloc,zeroValue,typeInfo,J,M,newVar,newRow,newObj,go_sem,<-F];rfl
theorem run_box{T:Nat}{x:Operand}(h:o.op=.box T x):(execOp ρ o).run P w=.ok (.value (Po (some ⟨w.heap.size,0,none⟩))) (w.alloc (.cells (ρ x).cells T)):=by
 simp[execOp,h,Instr.box,newVar,newRow,newObj,go_sem];rfl
theorem Im{e:TE}{z:Array Nat}{x:Operand}{a:qO}{n c:Nat}(F:TEok P e)(J:e.u=3)(H:z[0]?=some e.ty)(h:o.op=.call ⟨.builtin .len,#[x],z⟩)(hx:ρ x=Sl a n c):(execOp ρ o).run P w=.ok (.value (In i6 n)) w:=by
 simp[execOp,h,hx,Builtin.len_,H,underlying,F.slice J,go_sem]
theorem MM{e:TE}{z:Array Nat}{x:Operand}{s:qB}(F:TEok P e)(J:e.u=2)(H:z[0]?=some e.ty)(h:o.op=.call ⟨.builtin .len,#[x],z⟩)(hx:ρ x=.string s):(execOp ρ o).run P w=.ok (.value (In i6 s.size)) w:=by
 simp[execOp,h,hx,Builtin.len_,H,underlying,F.string J,go_sem]
theorem run_max{x y:Operand}{F:Array Nat}{a b:Int}(h:o.op=.call ⟨.builtin .max,#[x,y],F⟩)(hx:ρ x=In i6 a)(z:ρ y=In i6 b):(execOp ρ o).run P w=.ok (.value (In i6 (if a<b then b else a))) w:=by
 simp[execOp,h,hx,z,Builtin.max_,Builtin.max2,go_sem]
theorem run_min{x y:Operand}{F:Array Nat}{a b:Int}(h:o.op=.call ⟨.builtin .min,#[x,y],F⟩)(hx:ρ x=In i6 a)(z:ρ y=In i6 b):(execOp ρ o).run P w=.ok (.value (In i6 (if b<a then b else a))) w:=by
 simp[execOp,h,hx,z,Builtin.min_,Builtin.min2,go_sem]
def NN(P:Program)(f:Nat):Bool:=match P.funcs[f]? with
 |some fn=>fn.body.isSome&& !(fn.name== "runtime.NumGoroutine")
 |none=>false
theorem run_call{f:Nat}{args:Array Operand}{O:Array Nat}(hf:NN P f=true)(h:o.op=.call ⟨.value (.func f),args,O⟩)(M:ρ (.func f)=.func (.func f) #[] #[]):(execOp ρ o).run P w=.ok (.enter f (args.map ρ)) w:=by
 unfold NN at hf;split at hf
 ·rename_i fn F
  simp only[di,fw,fg]at hf;obtain⟨hb,J⟩:=hf;have H:fn.body.isNone=false:=by cases h:fn.body<;>simp[h]at hb ⊢
  simp[execOp,h,M,callFunc,F,J,go_sem];intro z;rw[z]at hb;cases hb
 ·cases hf
theorem OG{e:TE}{x:Operand}{a:Addr}{v:Value}(J:TEok P e)(M:e.u≠4)(h:o.op=.load e.ty x)(hx:ρ x=Po (some a))(hv:w.cell? a=some v):(execOp ρ o).run P w=.ok (.value v) w:=by
 obtain⟨d,H,z,F⟩:=J.bF M
 have:∀W,(isAgg e.ty).run P W=.ok false W:=λW=>by
  cases d<;>first|exact absurd rfl (z _)|exact absurd rfl (F _ _)|simp[isAgg,underlying,H,go_sem]
 simp[execOp,h,hx,Instr.loadAt,loadVar,this,hv,go_sem]
theorem Ip{e:TE}{x:Operand}{a:Addr}{f H sz:Nat}(Y:TEok P e)(hu:e.u=4)(hf:e.bC[f]?=some (H,sz))(h:o.op=.fieldAddr e.ty x f)(hx:ρ x=Po (some a)):(execOp ρ o).run P w=.ok (.value (Po (some (a.add H)))) w:=by
 obtain⟨fs,W,Z,hz⟩:=Y.struct hu;obtain⟨O,F,z⟩:=Mu _ _ _ _ Z hf;rw[iS]at F
 cases J:P.info? O.type with
 |none=>rw[J]at z;cases z
 |some j=>
  rw[J]at z;simp only[eO,iG,dR]at z;have M:j.size≠0:=by have:=hz _ (AE hf);rw[z.2];exact this
  simp[execOp,h,hx,W,F,Instr.fieldAt,Instr.sureAddr,fieldPlace,underlying,sizeOf,typeInfo,J,M,z.1,go_sem]
theorem VC{e:TE}{x:Operand}{a:Addr}{cs:qL}(F:TEok P e)(hu:e.u=4)(h:o.op=.load e.ty x)(hx:ρ x=Po (some a))(Y:cs.length=e.size)(hv:∀j v,cs[j]?=some v->w.cell? (a.add j)=some v):(execOp ρ o).run P w=.ok (.value (.agg cs.toArray)) w:=by
 obtain⟨fs,M,_,_⟩:=F.struct hu;obtain⟨i,_,O,Z,_⟩:=F.bI;have H:∀W,(isAgg e.ty).run P W=.ok true W:=λW=>by simp[isAgg,underlying,M,go_sem]
 have J:(sizeOf e.ty).run P w=.ok cs.length w:=by simp[sizeOf,typeInfo,O,Z,Y,go_sem]
 have z:=run_loadCells_list (P:=P) w a cs hv;unfold loadCells at z;simp[execOp,h,hx,Instr.loadAt,Instr.sureAddr,loadVar,H,J,z,go_sem]
theorem run_store{e:TE}{x y:Operand}{g z:Nat}{t:Nat}{F:Array Value}(Y:TEok P e)(h:o.op=.store e.ty x y)(hx:ρ x=Po (some ⟨g,z,none⟩))(Z:w.heap[g]?=some (.cells F t (0,0)))(M:(ρ y).cells.size=e.size)(H:z+(ρ y).cells.size<=F.size)
  (O:∀v∈(ρ y).cells.toList,v.oneCell'=true):(execOp ρ o).run P w=.ok .skip (w.setRow g (F.toList.take z++(ρ y).cells.toList++F.toList.drop (z+(ρ y).cells.size)).toArray):=by
 obtain⟨i,_,hi,hs,_⟩:=Y.bI;have J:=ir P g z t (ρ y).cells.toList 0 F w Z (by simpa using H) O;simp only[gp,dY]at J
 have W:(storeVar e.ty ⟨g,z,none⟩ (ρ y)).run P w=.ok () (w.setRow g (F.toList.take z++(ρ y).cells.toList++F.toList.drop (z+(ρ y).cells.size)).toArray):=by
  unfold storeVar;simp[sizeOf,typeInfo,hi,hs,M];rw[M]at J
  simpa using J
 simp only[execOp,h,hx,Instr.storeAt,Instr.sureAddr,eA,Sem.run_pure,Result.andThen_ok,W]
theorem Io{e F:TE}{x y:Operand}{a:Addr}{n c:Nat}{i:Int}(W:TEok P e)(hu:e.u=3)(H:TEok P F)(J:F.ty=e.el)(h:o.op=.indexAddr e.ty x y)(hx:ρ x=.slice (some a) n c)(hy:ρ y=In i6 i)(O:0<=i)(Y:i<n):(execOp ρ o).run P w=.ok (.value (Po (some (a.add (i.toNat*F.size))))) w:=by
 obtain⟨j,z,M,Z,_⟩:=H.bI;rw[J]at M;simp[execOp,h,hx,hy,Instr.indexAt,underlying,W.slice hu,sizeOf,typeInfo,M,Z,O,Y,asIntOf,go_sem]
theorem Ub{e:TE}(z:TEok P e)(F:e.u=3):P.underlying e.ty=some (.slice (P.elem e.ty))/\P.elem e.ty=e.el:=by
 have h:=z.slice F;have:P.elem e.ty=e.el:=by simp[Program.elem,h]
 rw[this];exact⟨h,rfl⟩
theorem run_slcH{e F:TE}(he:TEok P e)(hu:e.u=3)(H:TEok P F)(J:F.ty=e.el){x y:Operand}{a:qO}{n c:Nat}{m:Int}(h:o.op=.slice e.ty x none (some y) none)(hx:ρ x=Sl a n c)(hy:ρ y=In i6 m)(Y:0<=m)(hm:m<=c):(execOp ρ o).run P w=.ok (.value (sliced a 0 m.toNat c F.size)) w:=by
 obtain⟨O,Z⟩:=Ub he hu;obtain⟨i,z,W,hs,_⟩:=H.bI;rw[J,<-Z]at W;have M:(sizeOf (P.elem e.ty)).run P w=.ok F.size w:=by simp[sizeOf,typeInfo,W,hs]
 simp only[execOp,h,hx,hy,Option.map_none,eO,jh w _ _ _ _ _ O,eA,run_slice_h w _ _ _ _ O .i64 m Y hm,M,Result.andThen_ok,Sem.run_pure]
theorem run_slcL{e F:TE}(he:TEok P e)(hu:e.u=3)(H:TEok P F)(J:F.ty=e.el){x y:Operand}{a:qO}{n c:Nat}{m:Int}(h:o.op=.slice e.ty x (some y) none none)(hx:ρ x=Sl a n c)(hy:ρ y=In i6 m)(Y:0<=m)(hm:m<=n):(execOp ρ o).run P w=.ok (.value (sliced a m.toNat n c F.size)) w:=by
 obtain⟨O,Z⟩:=Ub he hu;obtain⟨i,z,W,hs,_⟩:=H.bI;rw[J,<-Z]at W;have M:(sizeOf (P.elem e.ty)).run P w=.ok F.size w:=by simp[sizeOf,typeInfo,W,hs]
 simp only[execOp,h,hx,hy,Option.map_none,eO,jh w _ _ _ _ _ O,eA,gH w _ _ _ _ O .i64 m Y hm,M,Result.andThen_ok,Sem.run_pure]
theorem Lh{n:Int}(h:inR n):IntKind.i64.wrap n=n:=by
 obtain⟨z,F⟩:=h;rw[IntKind.wrap_i64];omega
theorem NQ(b:Bool)(k:Value->Prop)(h:bs b k):k (.bool b):=by
 cases b
 ·exact h.2 rfl
 ·exact h.1 rfl
theorem Kx{p:Prop}[Decidable p](k:Value->Prop)(h:bp p k):k (.bool (decide p)):=by
 by_cases z:p
 ·rw[dX z];exact h.1 z
 ·rw[ek z];exact h.2 z
theorem run_ibin{T:Nat}{x y:Operand}{a b:Int}{op:BinOp}{t2:Nat}(h:o.op=.binOp op T x y t2)(hx:ρ x=In i6 a)(z:ρ y=In i6 b){k0:Value->Prop}(J:ibin op a b k0):
  ∃v,(execOp ρ o).run P w=.ok (.value v) w/\∀k,ibin op a b k->k v:=by
 cases op<;>simp only[ibin]at J ⊢
 case add=>exact⟨_,by simp[execOp,h,hx,z,binOp,eqGuard,go_sem],λk hk=>hk _ λH=>Lh H⟩
 case sub=>exact⟨_,by simp[execOp,h,hx,z,binOp,eqGuard,go_sem],λk hk=>hk _ λH=>Lh H⟩
 case mul=>exact⟨_,by simp[execOp,h,hx,z,binOp,eqGuard,go_sem],λk hk=>hk _ λH=>Lh H⟩
 case quo=>
  refine⟨In i6 (IntKind.i64.wrap (a.tdiv b)),by simp[execOp,h,hx,z,binOp,eqGuard,J.1,go_sem],λk hk=>hk.2 _ λF hb W=>?_⟩;rw[fT F,Lh];have M:=Int.ediv_nonneg F (by omega:0<=b);have O:=Int.ediv_le_self b F;exact⟨qo,qo⟩
 case rem=>exact⟨In i6 (a.tmod b),by simp[execOp,h,hx,z,binOp,eqGuard,J.1,go_sem],λk hk=>hk.2 _ λF hb=>Int.tmod_eq_emod_of_nonneg F⟩
 case eql=>exact⟨Bo (decide (a=b)),by simp[execOp,h,hx,z,binOp,eqGuard,go_sem];rfl,λk hk=>Kx k hk⟩
 case neq=>exact⟨Bo (decide (a≠b)),by simp[execOp,h,hx,z,binOp,eqGuard,go_sem];rfl,λk hk=>Kx k hk⟩
 case lss=>exact⟨Bo (decide (a<b)),by simp[execOp,h,hx,z,binOp,eqGuard,go_sem],λk hk=>Kx k hk⟩
 case leq=>exact⟨Bo (decide (a<=b)),by simp[execOp,h,hx,z,binOp,eqGuard,go_sem],λk hk=>Kx k hk⟩
 case gtr=>exact⟨Bo (decide (b<a)),by simp[execOp,h,hx,z,binOp,eqGuard,go_sem],λk hk=>Kx k hk⟩
 case geq=>exact⟨Bo (decide (b<=a)),by simp[execOp,h,hx,z,binOp,eqGuard,go_sem],λk hk=>Kx k hk⟩
theorem run_sbin{T:Nat}{x y:Operand}{a b:qB}{op:BinOp}{t2:Nat}(h:o.op=.binOp op T x y t2)(hx:ρ x=.string a)(z:ρ y=.string b){k0:Value->Prop}(F:sbin op a b k0):
  ∃v,(execOp ρ o).run P w=.ok (.value v) w/\∀k,sbin op a b k->k v:=by
 cases op<;>simp only[sbin]at F ⊢
 case eql=>exact⟨Bo (a.toList==b.toList),by simp[execOp,h,hx,z,go_sem],λk hk=>NQ _ k hk⟩
 case neq=>exact⟨Bo (!(a.toList==b.toList)),by simp[execOp,h,hx,z,go_sem],λk hk=>NQ _ k hk⟩
 case lss=>exact⟨Bo (Op.bytesLess a.toList b.toList),by simp[execOp,h,hx,z,go_sem],λk hk=>NQ _ k hk⟩
theorem run_bbin{e:TE}{x y:Operand}{a b:Bool}{op:BinOp}{t2:Nat}(J:TEok P e)(O:e.u=1)(h:o.op=.binOp op e.ty x y t2)(hx:ρ x=.bool a)(F:ρ y=.bool b){k0:Value->Prop}(M:bbin op a b k0):
  ∃v,(execOp ρ o).run P w=.ok (.value v) w/\∀k,bbin op a b k->k v:=by
 have H:=J.bool O
 have z:∀W,(Op.equal e.ty (.bool a) (.bool b)).run P W=.ok (a==b) W:=λW=>by
  unfold Op.equal;rw[show Op.maxDepth=Op.maxDepth - 1+1 from rfl,Op.equalIn];simp[underlying,H,go_sem]
 cases op
 case eql=>exact⟨Bo (a==b),by simp[execOp,h,hx,F,binOp,eqGuard,z,go_sem],λk hk=>by cases a<;>cases b<;>exact hk⟩
 case neq=>exact⟨Bo (!(a==b)),by simp[execOp,h,hx,F,binOp,eqGuard,z,go_sem],λk hk=>by cases a<;>cases b<;>exact hk⟩
 all_goals exact absurd M (by cases a<;>cases b<;>exact id)
theorem Oe:∀(vs:qL) (z i:Nat) (cs:qL),z+i+vs.length<=cs.length->
  (vs.zipIdx i).foldl (λ(cs:Array Value) p=>cs.setIfInBounds (z+p.2) p.1) cs.toArray=(cs.take (z+i)++vs++cs.drop (z+i+vs.length)).toArray
 |[],z,i,cs,_=>qs
 |v::vs,z,i,cs,h=>by
  simp only[dM]at h;rw[List.zipIdx_cons,gh,List.setIfInBounds_toArray,Oe vs z (i+1) (cs.set (z+i) v) qp]
  congr 1
  have J:cs.set (z+i) v=cs.take (z+i)++v::cs.drop (z+i+1):=iF.trans (dv qo);rw[J];have H:(cs.take (z+i)).length=z+i:=by rw[dI];omega
  have F:(cs.take (z+i)).drop (z+(i+1)+vs.length)=[]:=ij (by rw[H];omega);rw[List.take_append,List.drop_append,H,eZ (l:=cs.take (z+i)) (i:=z+(i+1)) (by rw[H];omega),show z+(i+1) - (z+i)=1 by omega,show z+(i+1)+vs.length - (z+i)=vs.length+1 by omega,F];simp only[gO,List.take_zero,dA,fq,List.drop_drop,dM,eI,fu];rw[show z+i+1+vs.length=z+i+(vs.length+1) by omega]
theorem VD{e:TE}{x:Operand}{f F sz:Nat}{cs:Array Value}{v:Value}(he:TEok P e)(hu:e.u=4)(aa:e.el=1)(hf:e.bC[f]?=some (F,sz))(h:o.op=.field e.ty x f)(hx:ρ x=.agg cs)(hv:cs[F]?=some v):(execOp ρ o).run P w=.ok (.value v) w:=by
 obtain⟨fs,hd,ho,_⟩:=he.struct hu;obtain⟨H,z,J⟩:=Mu _ _ _ _ ho hf;have O:=he.und;unfold teB at O;rw[hd,hu,aa]at O;simp only[di,ep]at O;have h3:=O.2.resolve_left qd;have h4:=dt.1 h3 H (AE z);rw[iS]at z
 have Z:P.underlying H.type=some (.int .i64):=by
  split at h4
  ·assumption
  ·cases h4
 have M:H.offset=F:=by
  cases hi:P.info? H.type with
  |none=>rw[hi]at J;cases J
  |some j=>rw[hi]at J;simp only[eO,iG,dR]at J;exact J.1
 have Y:∀W,(isAgg H.type).run P W=.ok false W:=λW=>by simp[isAgg,underlying,Z,go_sem]
 simp[execOp,h,hx,Instr.field,underlying,hd,z,part,asAgg,Y,M,hv,go_sem]
theorem Q4:∀(ps:List (Nat × Operand)) (i:Nat),OS (ps.map (·.1)) i=true->ps.map (λp=>(p.1,ρ p.2))=((ps.map λp=>ρ p.2).zipIdx i).map λx=>(x.2,x.1)
 |[],_,_=>rfl
 |p::r,i,h=>by
  unfold OS at h;simp only[dK,di]at h;rw[dK,dK,List.zipIdx_cons,dK,Q4 r (i+1) h.2,<-dh h.1]
theorem LF{e F:TE}{n:Nat}{ps:Array (Nat × Operand)}(he:TEok P e)(hu:e.u=3)(W:TEok P F)(Y:F.ty=e.el)(h:o.op=.buildSlice e.ty n ps)(hn:ps.size=n)(hp:OS (ps.toList.map (·.1)) 0=true)(h1:1<=F.size)(aj:n*F.size<=16777216)
  (hv:∀v∈ps.toList.map (λp=>ρ p.2),v.cells.size=F.size):(execOp ρ o).run P w=.ok (.value (Sl (some ⟨w.heap.size,0,none⟩) n n)) (w.alloc (.cells ((ps.toList.map λp=>ρ p.2).flatMap λv=>v.cells.toList).toArray e.el)):=by
 obtain⟨i,z,Z,M,hz,hc⟩:=W.bI;rw[Y]at Z;have J:=Q4 (ρ:=ρ) ps.toList 0 hp
 have H:(ps.map λ(x:Nat × Operand)=>match x with|(i,x)=>(i,ρ x)).toList=((ps.toList.map λp=>ρ p.2).zipIdx 0).map λx=>(x.2,x.1):=by
  rw[<-J,eN]
 rcases gi n with O|O
 ·subst O
  have aa:ps=#[]:=Array.eq_empty_of_size_eq_zero hn;subst aa;simp[execOp,h,Instr.buildSlice,underlying,he.slice hu,sizeOf,typeInfo,Z,Instr.fill,newRow,newObj,go_sem];rfl
 ·have hf:=Great.fill_whole h1 (ps.toList.map λp=>ρ p.2) ((Array.range (n*i.size)).map (z.cells[·%z.cells.size]!)) hv (by simp[hn,M])
  rw[<-M]at hf;have:=run_buildSlice (P:=P) w e.ty e.el n _ _ i z (he.slice hu) Z hz (by rw[M];omega) (by rw[M];have:=Nat.mul_pos O h1;omega) (H▸hf);simp only[execOp,h,eA,this,Result.andThen_ok,Sem.run_pure]
end
end
end Go.Proofs.YtbceafpodamnfaaGreatDoor
