import Derived.Test.YtbceafpodamnfaaGreatDoorG01
import Derived.Test.YtbceafpodamnfaaGreatDoorG06
import Derived.Lib.QuietBelow
import Derived.BigQuiet
import Derived.Lib.AppendZeros
import Derived.Lib.Overlaps
import Derived.Laws.Externs
set_option linter.all false
namespace Go.Proofs.YtbceafpodamnfaaGreatDoor
section
open Go.RowKit
open Go.Value renaming int->In,slice->Sl,string->Sg,bool->Bo,pointer->Po
open Go.IntKind renaming i64->i6
theorem Bl{α:Type}(l:List α)(o:Nat)(xs:List α)(h:o+xs.length<=l.length)(j:Nat):(splice l o xs)[j]?=if j<o then l[j]? else if j<o+xs.length then xs[j - o]? else l[j]?:=by
 have H:(l.take o).length=o:=by rw[dI];omega
 unfold splice
 by_cases z:j<o
 ·rw[dv z,dT qo,eH z]
 ·rw[dk z,dU qo,H]
  by_cases F:j<o+xs.length
  ·rw[dv F,dT qo]
  ·rw[dk F,dU qo,ew]
   congr 1
   omega
theorem QV{α:Type}(l:List α)(o n:Nat)(xs:List α)(h:o+xs.length<=n)(H:n<=l.length):(splice l o xs).take n=splice (l.take n) o xs:=by
 have F:(l.take n).length=n:=by rw[dI];omega
 refine fZ λj=>?_
 rw[Bl _ _ _ qo]
 by_cases z:j<n
 ·rw[eH z,Bl _ _ _ qo,eH z]
 ·rw[eq (by rw[dI];omega),dk qo,dk qo,eq qo]
theorem RR{α:Type}{c:α->List Value}{n:Nat}(z:∀s,(c s).length=n)(l:List α)(i:Nat)(s:α)(W:i<l.length):splice (l.flatMap c) (i*n) (c s)=(l.set i s).flatMap c:=by
 have F:=Es z l;have H:i*n+n<=l.length*n:=by rw[<-fV];exact em n W
 refine fZ λj=>?_
 rw[Bl _ _ _ (by rw[z,F];exact H),z]
 by_cases J:j<l.length*n
 ·have hn:0<n:=Nat.pos_of_ne_zero λh=>(by rw[h]at J;simp at J)
  obtain⟨u,Y⟩:∃u,(l.flatMap c)[j]?=some u:=⟨(l.flatMap c)[j]'(by rw[F];exact J),by rw[dz]⟩;obtain⟨p,k,x,Z,O,rfl⟩:=FV z l j u Y;have hk:k<n:=by have:=(AC O).1;rw[z]at this;exact this
  by_cases hp:p=i
  ·subst hp
   obtain⟨v,hv⟩:∃v,(c s)[k]?=some v:=⟨(c s)[k]'(by rw[z];exact hk),by rw[dz]⟩;rw[dk qo,dv qo,show p*n+k - p*n=k by omega,hv];exact(F8 z (l.set p s) p s k v (by simp[W]) hv).symm
  ·have hg:(l.set i s)[p]?=some x:=by rw[gV qo];exact Z
   rw[F8 z (l.set i s) p x k u hg O,Y]
   by_cases M:p<i
   ·have:p*n+n<=i*n:=by rw[<-fV];exact em n M
    rw[dv qo]
   ·have:i*n+n<=p*n:=by rw[<-fV];exact em n qo
    rw[dk qo,dk qo]
 ·rw[dk qo,dk qo,eq qo,eq (by rw[Es z];simpa using Nat.le_of_not_lt J)]
theorem CB{α:Type}{c:α->List Value}{n:Nat}(F:∀s,(c s).length=n)(l:List α)(i k:Nat)(s M:α)(u:Value)(Y:l[i]?=some s)(hk:k<n)(hs:c M=(c s).set k u):splice (l.flatMap c) (i*n+k) [u]=(l.set i M).flatMap c:=by
 have J:i<l.length:=(AC Y).1;have z:=Es F l;have H:i*n+n<=l.length*n:=by rw[<-fV];exact em n J
 rw[<-RR F l i M J];refine fZ λj=>?_
 rw[Bl _ _ _ (by rw[z,iR];omega),Bl _ _ _ (by rw[F,z];exact H),F,iR]
 by_cases O:j<i*n
 ·rw[dv qo,dv O]
 ·rw[dk O]
  by_cases W:j<i*n+n
  ·obtain⟨q,rfl⟩:∃q,j=i*n+q:=⟨j - i*n,qo⟩
   rw[dv W,show i*n+q - i*n=q by omega,hs]
   by_cases Z:q=k
   ·subst Z
    rw[dk qo,dv qo,eJ (by rw[F];exact hk),show i*n+q - (i*n+q)=0 by omega];rfl
   ·rw[gV qo]
    obtain⟨v,hv⟩:∃v,(c s)[q]?=some v:=⟨(c s)[q]'(by rw[F];omega),by rw[dz]⟩;rw[hv,F8 F l i s q v Y hv]
    by_cases h4:q<k
    ·rw[dv qo]
    ·rw[dk qo,dk qo]
  ·rw[dk W,dk qo,dk qo]
theorem RowIs.stored{w w':World}{e:TypeId}{size g n cap:Nat}{xs:qL}(h:RowIs w e size g n cap xs)(z:Array Value)(hg:w.heap[g]?=some (.cells z e (0,0)))(o:Nat)(J:qL)(F:o+J.length<=n*size)
  (Z:w'.heap[g]?=some (.cells (splice z.toList o J).toArray e (0,0))):RowIs w' e size g n cap (splice xs o J):=by
 obtain⟨hx,Y,O,H,W,h3⟩:=h;rw[hg]at H;injection H with H
 injection H with H
 subst H;have M:n*size<=z.toList.length:=by rw[dY,W];exact em size Y
 refine⟨by rw[length_splice _ _ _ (by rw[hx];exact F),hx],Y,_,Z,?_,?_⟩
 ·rw[er,length_splice _ _ _ qo,dY,W]
 ·show(splice z.toList o J).take (n*size)=_
  rw[QV _ _ _ _ F M,h3]
section
variable {P:Program}
theorem CI{ops:Array Oper}{rest:List Oper}{o:Oper}{a:Act}{w:World}{Q:Exit->Act->World->Prop}(M:o.guard=none)(ty:TypeId)(x y:Operand)(ho:o.op=.store ty x y)
  (g z:Nat) (v:Value) (hx:a.eval x=Po (some ⟨g,z,none⟩)) (hy:a.eval y=v) (hi:(P.info? ty).map (·.size)=some 1) (hv:v.cells=#[v]) (Y:v.oneCell'=true)
  (e:TypeId) (size n cap:Nat) (xs:qL) (F:RowIs w e size g n cap xs) (J:z+1<=n*size)
  (h:∀w',Hid (RowIs w' e size g n cap (splice xs z [v]))->BH g w w'->wpList P ops Q rest (a.put o.dst undef) w'):wpList P ops Q (o::rest) a w:=by
 have hr:=F;obtain⟨ah,Z,H,O,hs,ht⟩:=hr;have ae:n*size<=cap*size:=em size Z;exact Am M ty x y ho g z v hx hy hi hv Y e H O qo λw' W on=>h w' (F.stored H O z [v] J W.ab) on
end
end
section
open Go.RowKit Go.Sort
open Go.Value renaming int->In,slice->Sl,string->Sg,bool->Bo,pointer->Po
open Go.IntKind renaming i64->i6
abbrev jk:=@Go.Calls.regrown_of
abbrev jl:=@Go.wp_region_quiet_below
abbrev jm:=@Go.below_regrown
abbrev jn:=@Go.wpQuiet_nil
abbrev jo:=@Go.cell_regrown
theorem SvcAt.grown{w:World}{b o:Nat}{s:Svc}(h:SvcAt w b o s):(∀p:Regrown,(grow (redrawn w p.d) p.os).cell? ⟨b,o,none⟩=some (.string s.name))/\(∀p:Regrown,(grow (redrawn w p.d) p.os).cell? ⟨b,o+1,none⟩=some (In i6 s.ag))/\(∀p:Regrown,(grow (redrawn w p.d) p.os).cell? ⟨b,o+2,none⟩=some (.bool s.aH))/\(∀p:Regrown,(grow (redrawn w p.d) p.os).cell? ⟨b,o+3,none⟩=some (In i6 s.aj))/\(∀p:Regrown,(grow (redrawn w p.d) p.os).cell? ⟨b,o+4,none⟩=some (In i6 s.au))/\(∀p:Regrown,(grow (redrawn w p.d) p.os).cell? ⟨b,o+5,none⟩=some (In i6 s.aK))/\(∀p:Regrown,(grow (redrawn w p.d) p.os).cell? ⟨b,o+6,none⟩=some (In i6 s.aG))/\(∀p:Regrown,(grow (redrawn w p.d) p.os).cell? ⟨b,o+7,none⟩=some (In i6 s.next))/\(∀p:Regrown,(grow (redrawn w p.d) p.os).cell? ⟨b,o+8,none⟩=some (In i6 s.aQ))/\(∀p:Regrown,(grow (redrawn w p.d) p.os).cell? ⟨b,o+9,none⟩=some (In i6 s.az))/\(∀p:Regrown,(grow (redrawn w p.d) p.os).cell? ⟨b,o+10,none⟩=some (In i6 s.aI))/\(∀p:Regrown,(grow (redrawn w p.d) p.os).cell? ⟨b,o+11,none⟩=some (In i6 s.load))/\(∀p:Regrown,(grow (redrawn w p.d) p.os).cell? ⟨b,o+12,none⟩=some (In i6 s.aA)):=by
 unfold SvcAt at h;obtain⟨c0,c1,c2,c3,c4,J,M,O,W,Y,z,F,H⟩:=h;exact⟨λp=>jo c0 p.d p.os,λp=>jo c1 p.d p.os,λp=>jo c2 p.d p.os,λp=>jo c3 p.d p.os,λp=>jo c4 p.d p.os,λp=>jo J p.d p.os,λp=>jo M p.d p.os,λp=>jo O p.d p.os,λp=>jo W p.d p.os,λp=>jo Y p.d p.os,λp=>jo z p.d p.os,λp=>jo F p.d p.os,λp=>jo H p.d p.os⟩
theorem CpAt.grown{w:World}{b o:Nat}{s:Cp}(h:CpAt w b o s):(∀p:Regrown,(grow (redrawn w p.d) p.os).cell? ⟨b,o,none⟩=some (.string s.aa))/\(∀p:Regrown,(grow (redrawn w p.d) p.os).cell? ⟨b,o+1,none⟩=some (In i6 s.ak))/\(∀p:Regrown,(grow (redrawn w p.d) p.os).cell? ⟨b,o+2,none⟩=some (In i6 s.ag))/\(∀p:Regrown,(grow (redrawn w p.d) p.os).cell? ⟨b,o+3,none⟩=some (In i6 s.aj))/\(∀p:Regrown,(grow (redrawn w p.d) p.os).cell? ⟨b,o+4,none⟩=some (In i6 s.ay))/\(∀p:Regrown,(grow (redrawn w p.d) p.os).cell? ⟨b,o+5,none⟩=some (.bool s.am))/\(∀p:Regrown,(grow (redrawn w p.d) p.os).cell? ⟨b,o+6,none⟩=some (.string s.aC)):=by
 unfold CpAt at h;obtain⟨c0,c1,c2,c3,c4,z,F⟩:=h;exact⟨λp=>jo c0 p.d p.os,λp=>jo c1 p.d p.os,λp=>jo c2 p.d p.os,λp=>jo c3 p.d p.os,λp=>jo c4 p.d p.os,λp=>jo z p.d p.os,λp=>jo F p.d p.os⟩
theorem BtAt.grown{w:World}{b o:Nat}{s:Bt}(h:BtAt w b o s):(∀p:Regrown,(grow (redrawn w p.d) p.os).cell? ⟨b,o,none⟩=some (.string s.name))/\(∀p:Regrown,(grow (redrawn w p.d) p.os).cell? ⟨b,o+1,none⟩=some (.bool s.aM)):=by
 unfold BtAt at h;obtain⟨c0,c1⟩:=h;exact⟨λp=>jo c0 p.d p.os,λp=>jo c1 p.d p.os⟩
theorem BkAt.grown{w:World}{a1 a2 a3:qO}{B:Bk}(h:BkAt w a1 a2 a3 B)(d:Nat)(os:Array Obj):BkAt (grow (redrawn w d) os) a1 a2 a3 B:=h.below (jm w d os)
end
section
open Go.RowKit
open Go.Value renaming int->In,slice->Sl,string->Sg,bool->Bo,pointer->Po
open Go.IntKind renaming i64->i6
section
variable {P:Program}
theorem Eh{ops:Array Oper}{rest:List Oper}{o:Oper}{a:Act}{w:World}{Q:Exit->Act->World->Prop}(aj:o.guard=none)(d s:Operand)(t:TypeId)
  (ho:o.op=.call {callee:=.builtin .copy,args:=#[d,s],argTypes:=#[t,t]}) (e:TypeId) (size:Nat) (ht:P.underlying t=some (.slice e)) (ae:(P.info? e).map (·.size)=some size)
  (dp sp:qO) (F O z H:Nat) (hd:a.eval d=Sl dp F O) (hs:a.eval s=Sl sp z H) (k:Nat) (hk:Nat.min z F=k)
  (g M:Nat) (J:Array Value) (ty:TypeId) (hg:w.heap[g]?=some (.cells J ty (0,0))) (cs:qL) (hl:cs.length=k*size)
  (Y:k≠0->dp=some ⟨g,M,none⟩/\∃ad,sp=some ad/\∀j v,cs[j]?=some v->w.cell? (ad.add j)=some v) (W:M+cs.length<=J.size) (h1:∀v∈cs,v.oneCell'=true)
  (h:∀w',Hid (w'.heap[g]?=some (.cells (splice J.toList M cs).toArray ty (0,0)))->BH g w w'->wpList P ops Q rest (a.put o.dst (goInt k)) w'):wpList P ops Q (o::rest) a w:=by
 refine gd aj λK hK=>?_
 obtain⟨i,hi,ak⟩:∃i,P.info? e=some i/\i.size=size:=by
  cases hq:P.info? e with
  |none=>simp[hq]at ae
  |some i=>exact⟨i,rfl,by simpa [hq] using ae⟩
 by_cases h0:k=0
 ·subst h0
  have ag:cs=[]:=gI (by simpa using hl);subst ag
  have hr:(Builtin.copy_ #[t,t] o.type #[Sl dp F O,Sl sp z H]).run P w=.ok (goInt 0) w:=by
   cases dp<;>cases sp<;>simp[Builtin.copy_,fQ ht,sizeOf,typeInfo,hi,Builtin.lenOf,Builtin.firstCells,storeCells,loadCells,loadCellsFrom,hk]
  unfold Oper.wp execOp;simp only[ho,resolve,invoke,builtin,eA,Sem.run_pure,Result.andThen_ok,fK,dK,ed,hd,hs,hr];exact hK _ _ (h w (show _=_ by simpa [splice] using hg) ⟨λ_ _=>rfl,dG _ _,rfl⟩)
 ·obtain⟨rfl,ad,rfl,Z⟩:=Y h0
  have hf:=run_firstCells_some (P:=P) w i.size k ad z H cs (by rw[ak];exact hl) Z;have aa:=ir P g M ty cs 0 J w hg (by simpa using W) h1
  have hr:(Builtin.copy_ #[t,t] o.type #[Sl (some ⟨g,M,none⟩) F O,.slice (some ad) z H]).run P w=.ok (goInt k) (w.setRow g (splice J.toList M cs).toArray):=by
   simp only[gp,eI]at aa;simp[Builtin.copy_,fQ ht,sizeOf,typeInfo,hi,Builtin.lenOf,hk,hf,aa,splice]
  unfold Oper.wp execOp;simp only[ho,resolve,invoke,builtin,eA,Sem.run_pure,Result.andThen_ok,fK,dK,ed,hd,hs,hr];exact hK _ _ (h _ (gz w g J _ ty _ hg) (DU w g _))
theorem Ib{ops:Array Oper}{rest:List Oper}{o:Oper}{a:Act}{w:World}{Q:Exit->Act->World->Prop}(ak:o.guard=none)(s x:Operand)(t tn:TypeId)
  (ho:o.op=.call {callee:=.builtin .append,args:=#[s,x],argTypes:=#[t,tn]})
  (e:TypeId) (z:Value) (size bytes:Nat) (kn:IntKind) (ht:P.underlying t=some (.slice e)) (au:P.underlying tn=some (.int kn)) (O:(P.info? e).map (λi=>(i.zero,i.size,i.bytes))=some (some z,size,bytes)) (aw:z.cells.size=size) (aG:0<size)
  (b:Addr) (n cap:Nat) (F:qL) (hs:a.eval s=.slice (some b) n cap) (W:F.length=n*size) (Y:∀j v,F[j]?=some v->w.cell? (b.add j)=some v)
  (m:Nat) (hx:a.eval x=In i6 m) (hm:0<m) (hg:cap<n+m) (ag:n+m<=maxLen) (J:(n+m)*bytes<=140737488355328)
  (h:∀g H M w',w.heap.size<=g->n+m<=H->Hid (w'.heap[g]?=some (.cells M e (0,0)))->Hid (M.size=H*size/\M.toList.take (n*size)=F)->Below w.heap.size w w'->wpList P ops Q rest (a.put o.dst (.slice (qad g) (n+m) H)) w'):wpList P ops Q (o::rest) a w:=by
 obtain⟨i,hi,hz,aq,hb⟩:=gk O;subst aq hb;have aA:(n+m:Nat)<=9223372036854775807:=by unfold maxLen at ag;omega
 have ah:Builtin.nextslicecap (n+m) cap*i.bytes<=281474976710656:=jc qo J;have hn:¬(n+m<=cap):=qo
 have ae:¬(9223372036854775807<((n:Int)+(m:Int))):=qo
 have Z:¬(281474976710656<Builtin.nextslicecap (n+m) cap*i.bytes):=qo
 have hw:IntKind.i64.wrap (m:Int)=m:=by rw[IntKind.wrap_i64];omega
 have af:¬((m:Int)<0):=qo
 have az:m*i.bytes<=(n+m)*i.bytes:=em _ qo
 have aa:¬(281474976710656<(m:Int)*(i.bytes:Int)):=by
  rw[<-Int.natCast_mul];omega
 have an:¬(m*i.size=0):=Nat.mul_ne_zero qo qo;have am:m≠0:=qo
 have aj:=run_firstCells_some (P:=P) w.drew i.size n b n cap F W (by simpa using Y)
 have hr:(Builtin.append_ #[t,tn] o.type #[.slice (some b) n cap,In i6 m]).run P w=
   .ok (Sl (some ⟨w.heap.size,0,none⟩) (n+m) (grownCap w (n+m) cap e)) (w.drew.alloc (.cells (F.toArray++Builtin.zeroCells z.cells m++Builtin.zeroCells z.cells (grownCap w (n+m) cap e - (n+m))) e)):=by
  simp[Builtin.append_,fQ ht,fQ au,sizeOf,typeInfo,zeroValue,hi,hz,asInt,asIntOf,hw,hn,af,an,am,ae,Z,aa,Question.forced,aj,newRow,grownCap]
 refine gd ak λK hK=>?_
 unfold Oper.wp execOp;simp only[ho,resolve,invoke,builtin,eA,Sem.run_pure,Result.andThen_ok,fK,dK,ed,hs,hx,hr];have al:=grownCap_ge w (n+m) cap e;refine hK _ _ (h w.heap.size _ _ _ AG al (dm w.drew _) ⟨?_,?_⟩ ⟨rfl,rfl,rfl,qs,λk hk=>by show(w.heap.push _)[k]?=_;rw[dw,dk qo]⟩)
 ·simp only[iL,er,iJ,aw,W]
  rw[<-fz,<-fz]
  congr 1
  omega
 ·simp only[iz,eI]
  rw[<-W];exact iu
end
theorem UO{A X D L:qL}{a s d:Nat}(Y:A.length=a)(W:X.length=s)(hD:D.length=d)(hL:L.take a=A)(J:a+s+d<=L.length):(splice (splice L a X) (a+s) D).take (a+s+d)=A++X++D/\(splice (splice L (a+s) D) a X).take (a+s+d)=A++X++D:=by
 have O:∀j,j<a->L[j]?=A[j]?:=λj z=>by rw[<-hL,eH z]
 have key:∀M:List Value,a+s+d<=M.length->(∀j,j<a->M[j]?=L[j]?)->(∀j,a<=j->j<a+s->M[j]?=X[j - a]?)->(∀j,a+s<=j->j<a+s+d->M[j]?=D[j - (a+s)]?)->M.take (a+s+d)=A++X++D:=λM hM Z q2 q3=>by
  refine fZ λj=>?_
  rw[eI]
  by_cases c1:j<a
  ·rw[eH qo,Z j c1,O j c1,dT qo]
  ·rw[dU qo,Y]
   by_cases c2:j<a+s
   ·rw[eH qo,q2 j qo c2,dT qo]
   ·rw[dU qo,W]
    by_cases c3:j<a+s+d
    ·rw[eH c3,q3 j qo c3,show j - (a+s)=j - a - s by omega]
    ·rw[eq (by rw[dI];omega),eq qo]
 have l1:(splice L a X).length=L.length:=length_splice L a X qo;have l2:(splice L (a+s) D).length=L.length:=length_splice L (a+s) D qo;constructor
 ·refine key _ (by rw[length_splice _ _ _ qo];omega) (λj z=>?_) (λj F H=>?_) (λj F H=>?_)
  ·rw[Bl _ _ _ qo,dv qo,Bl _ _ _ qo,dv z]
  ·rw[Bl _ _ _ qo,dv qo,Bl _ _ _ qo,dk qo,dv qo]
  ·rw[Bl _ _ _ qo,dk qo,dv qo]
 ·refine key _ (by rw[length_splice _ _ _ qo];omega) (λj z=>?_) (λj F H=>?_) (λj F H=>?_)
  ·rw[Bl _ _ _ qo,dv z,Bl _ _ _ qo,dv qo]
  ·rw[Bl _ _ _ qo,dk qo,dv qo]
  ·rw[Bl _ _ _ qo,dk qo,dk qo,Bl _ _ _ qo,dk qo,dv qo]
section
variable {P:Program}
theorem Nl{z:Array Value}(h:∀u∈z,u.oneCell'=true)(n:Nat):∀u∈(Builtin.zeroCells z n).toList,u.oneCell'=true:=λu J=>by
 unfold Builtin.zeroCells at J;rw[Array.mem_toList_iff,Array.mem_map]at J;obtain⟨i,O,rfl⟩:=J;have F:i<n*z.size:=by simpa using O
 have W:0<z.size:=by
  rcases gi z.size with H|H
  ·rw[H]at F;simp at F
  ·exact H
 have M:=Nat.mod_lt i W;rw[getElem!_pos z _ M];exact h _ (Array.getElem_mem M)
theorem Ly{ops:Array Oper}{rest:List Oper}{o:Oper}{a:Act}{w:World}{Q:Exit->Act->World->Prop}(af:o.guard=none)(x:Operand)(t:TypeId)
  (ho:o.op=.call {callee:=.builtin .clear,args:=#[x],argTypes:=#[t]}) (e:TypeId) (z:Value) (size bytes:Nat) (ht:P.underlying t=some (.slice e)) (W:(P.info? e).map (λi=>(i.zero,i.size,i.bytes))=some (some z,size,bytes)) (aj:z.cells.size=size) (ah:∀u∈z.cells,u.oneCell'=true)
  (g H m c:Nat) (hx:a.eval x=Sl (some ⟨g,H,none⟩) m c) (F:Array Value) (ty:TypeId) (hg:w.heap[g]?=some (.cells F ty (0,0))) (M:m≠0->H+m*size<=F.size)
  (h:∀J w',Hid (w'.heap[g]?=some (.cells J ty (0,0)))->Hid (J.size=F.size/\∀q,(m≠0->q<=H)->J.toList.take q=F.toList.take q)->BH g w w'->wpList P ops Q rest (a.put o.dst (.tuple #[])) w'):wpList P ops Q (o::rest) a w:=by
 obtain⟨i,hi,hz,au,hb⟩:=gk W;refine gd af λK hK=>?_
 by_cases Y:m=0
 ·subst Y
  have hr:(Builtin.clear_ #[t] o.type #[Sl (some ⟨g,H,none⟩) 0 c]).run P w=.ok (.tuple #[]) w:=by simp[Builtin.clear_,fQ ht]
  unfold Oper.wp execOp;simp only[ho,resolve,invoke,builtin,eA,Sem.run_pure,Result.andThen_ok,fK,dK,ed,hx,hr];exact hK _ _ (h F w hg ⟨rfl,λ_ _=>rfl⟩ ⟨λ_ _=>rfl,dG _ _,rfl⟩)
 ·have O:(Builtin.zeroCells z.cells m).toList.length=m*size:=by rw[dY,iJ,aj]
  have Z:=ir P g H ty (Builtin.zeroCells z.cells m).toList 0 F w hg (by rw[O];simpa using M Y) (Nl ah m)
  have hr:(Builtin.clear_ #[t] o.type #[Sl (some ⟨g,H,none⟩) m c]).run P w=.ok (.tuple #[]) (w.setRow g (splice F.toList H (Builtin.zeroCells z.cells m).toList).toArray):=by
   simp only[gp,eI]at Z
   cases m with
   |zero=>exact absurd rfl Y
   |succ m=>simp[Builtin.clear_,fQ ht,zeroValue,typeInfo,hi,hz,Z,splice]
  unfold Oper.wp execOp;simp only[ho,resolve,invoke,builtin,eA,Sem.run_pure,Result.andThen_ok,fK,dK,ed,hx,hr];have aa:H+(Builtin.zeroCells z.cells m).toList.length<=F.toList.length:=by rw[O,dY];exact M Y
  refine hK _ _ (h _ _ (gz w g F _ ty _ hg) ⟨?_,λq hq=>?_⟩ (DU w g _))
  ·rw[er,length_splice _ _ _ aa,dY]
  ·show(splice F.toList H (Builtin.zeroCells z.cells m).toList).take q=_
   unfold splice;rw[List.take_append_of_le_length (by rw[dI];have:=hq Y;omega),List.take_take,gT (hq Y)]
end
theorem RowIs.take{α:Type}{w:World}{e:TypeId}{size g n cap i:Nat}{c:α->List Value}{l:List α}(h:RowIs w e size g n cap (l.flatMap c))(F:∀s,(c s).length=size)(hl:l.length=n)(Y:i<=n):RowIs w e size g i cap ((l.take i).flatMap c):=by
 obtain⟨h1,h2,z,M,O,W⟩:=h;refine⟨by rw[Es F,dI,gT qo],qo,z,M,O,?_⟩
 have J:∀(l:List α) (i:Nat),(l.take i).flatMap c=(l.flatMap c).take (i*size):=λl=>by
  induction l with
  |nil=>intro i;simp
  |cons x l Z=>
   intro i
   cases i with
   |zero=>simp
   |succ i=>
    have e:(i+1)*size - size=i*size:=by rw[fV];omega
    have H:(c x).take ((i+1)*size)=c x:=eZ (by rw[F,fV];omega);rw[gO,eB,eB,Z i,List.take_append,H,F,e]
 rw[J,<-W,List.take_take,gT (em _ Y)]
section
variable {P:Program}
theorem KY{ops:Array Oper}{rest:List Oper}{o:Oper}{a:Act}{w:World}{Q:Exit->Act->World->Prop}(af:o.guard=none)(s x:Operand)(t:TypeId)
  (ho:o.op=.call {callee:=.builtin .append,args:=#[s,x],argTypes:=#[t,t]})
  (e:TypeId) (z:Value) (size bytes:Nat) (ht:P.underlying t=some (.slice e)) (O:(P.info? e).map (λi=>(i.zero,i.size,i.bytes))=some (some z,size,bytes))
  (g n cap:Nat) (xs:qL) (hs:a.eval s=.slice (qad g) n cap) (aa:RowIs w e size g n cap xs)
  (ad:Addr) (m c:Nat) (F:qL) (hx:a.eval x=.slice (some ad) m c) (hl:F.length=m*size) (W:∀j u,F[j]?=some u->w.cell? (ad.add j)=some u) (h1:∀u∈F,u.oneCell'=true) (H:n+m<=cap)
  (h:∀w',Hid (RowIs w' e size g (n+m) cap (xs++F))->BH g w w'->wpList P ops Q rest (a.put o.dst (.slice (qad g) (n+m) cap)) w'):wpList P ops Q (o::rest) a w:=by
 obtain⟨i,hi,hz,ah,hb⟩:=gk O;subst ah hb;obtain⟨aj,aq,M,hg,ae,Y⟩:=aa;have J:(xs++F).length=(n+m)*i.size:=by rw[dE,aj,hl,fz]
 have Z:n*i.size+F.length<=M.size:=by rw[hl,ae,<-fz];exact em _ H
 have hr:=i5 (P:=P) w t o.type e i ht hi g n cap M hg ad m c F hl W h1 H Z;refine gd af λK hK=>?_
 unfold Oper.wp execOp;simp only[ho,resolve,invoke,builtin,eA,Sem.run_pure,Result.andThen_ok,fK,dK,ed,hs,hx,hr];refine hK _ _ (h _ ⟨J,H,_,gz w g M _ e _ hg,?_,?_⟩ (DU w g _))
 ·simp only[er,dE,dI,eh,dY]
  omega
 ·rw[Y,<-J]
  exact iu
end
end
end Go.Proofs.YtbceafpodamnfaaGreatDoor
