import Derived.Test.YtbceafpodamnfaaGreatH06
import Derived.Deep.DeepCutAuto
set_option linter.all false
namespace Go.Proofs.YtbceafpodamnfaaGreat
section
open Go.RowKit
theorem Mk{v:Int}{l:List Cp}{k:Nat}{c:Cp}(h:l[k]?=some c):Bw v (l.take (k+1))=Bw v (l.take k)++(if c.ending then [] else [Cr v c]):=by
 unfold Bw;rw[List.take_add_one,h,List.filter_append,List.map_append];cases hc:c.ending<;>simp[List.filter,hc]
theorem Hb(v:Int)(l:List Cp):(Bw v l).length<=l.length:=by
 unfold Bw;rw[List.length_map];exact List.length_filter_le _ _
theorem nil_bytes{b:ByteArray}:(b.toList==[])=true↔b=⟨#[]⟩:=by
 have:=same_nm (a:=b) (b:=⟨#[]⟩);rw[show(⟨#[]⟩:ByteArray).toList=[] by rw[ByteArray.toList_eq]]at this;exact this
def CE{α:Type}(p:α->Bool)(l:List α):Nat:=(l.takeWhile p).length
theorem Dp{α:Type}{p:α->Bool}:∀{l:List α} {k:Nat},k<=l.length->(∀(i:Nat) s,i<k->l[i]?=some s->p s=true)->(∀s,l[k]?=some s->p s=false)->CE p l=k
 |[],k,hk,_,_=>by unfold CE;simp at hk;simp[hk]
 |x::l,0,_,_,h=>by unfold CE;rw[List.takeWhile_cons,if_neg (by rw[h x rfl];simp)];rfl
 |x::l,k+1,hk,h1,h2=>by
  have ih:CE p l=k:=Dp (by simpa using hk) (λi s hi hs=>h1 (i+1) s (by omega) (by simpa using hs)) (λs hs=>h2 s (by simpa using hs));unfold CE at ih ⊢;rw[List.takeWhile_cons,if_pos (h1 0 x (by omega) rfl),List.length_cons,ih]
def BT{α:Type}(nm:α->List UInt8)(l:List α)(x:α):List α:=l.take (CE (λt=>Op.bytesLess (nm t) (nm x)) l)++x::(match l[CE (λt=>Op.bytesLess (nm t) (nm x)) l]? with
 |some t=>if(nm t==nm x)=true then l.drop (CE (λt=>Op.bytesLess (nm t) (nm x)) l+1) else l.drop (CE (λt=>Op.bytesLess (nm t) (nm x)) l)
 |none=>l.drop (CE (λt=>Op.bytesLess (nm t) (nm x)) l))
theorem El{α:Type}{nm:α->List UInt8}{l:List α}{x t:α}{k:Nat}(h:CE (λt=>Op.bytesLess (nm t) (nm x)) l=k)(ht:l[k]?=some t)(hq:(nm t==nm x)=true):BT nm l x=l.take k++x::l.drop (k+1):=by
 unfold BT;rw[h,ht];simp only;rw[if_pos hq]
theorem EB{α:Type}{nm:α->List UInt8}{l:List α}{x t:α}{k:Nat}(h:CE (λt=>Op.bytesLess (nm t) (nm x)) l=k)(ht:l[k]?=some t)(hq:(nm t==nm x)=false):BT nm l x=l.take k++x::l.drop k:=by
 unfold BT;rw[h,ht];simp only;rw[if_neg (by rw[hq];simp)]
theorem Fn{α:Type}{nm:α->List UInt8}{l:List α}{x:α}{k:Nat}(h:CE (λt=>Op.bytesLess (nm t) (nm x)) l=k)(ht:l[k]?=none):BT nm l x=l.take k++x::l.drop k:=by
 unfold BT;rw[h,ht]
def EP(t:Bt):List UInt8:=t.name.toList
def CC(B:Bk)(nm:ByteArray)(dr:Bool):Bk:={B with bts:=BT EP B.bts ⟨nm,dr⟩}
def Bv(t:Svc):List UInt8:=t.name.toList
def D6(l:List Svc)(x:Svc):Int:=match l[CE (λt=>Op.bytesLess (Bv t) (Bv x)) l]? with
 |some t=>if(Bv t==Bv x)=true then t.next else 1
 |none=>1
def FJ(l:List Svc)(x:Svc)(v:Int):Svc:={x with version:=v,cool:=0,next:=D6 l x}
def CB(B:Bk)(x:Svc)(v:Int):Bk:={B with svcs:=BT Bv B.svcs (FJ B.svcs x v)}
theorem If{l:List Svc}{x t:Svc}{k:Nat}(h:CE (λt=>Op.bytesLess (Bv t) (Bv x)) l=k)(ht:l[k]?=some t)(hq:(Bv t==Bv x)=true):D6 l x=t.next:=by
 unfold D6;rw[h,ht];simp only;rw[if_pos hq]
theorem Hq{l:List Svc}{x t:Svc}{k:Nat}(h:CE (λt=>Op.bytesLess (Bv t) (Bv x)) l=k)(ht:l[k]?=some t)(hq:(Bv t==Bv x)=false):D6 l x=1:=by
 unfold D6;rw[h,ht];simp only;rw[if_neg (by rw[hq];simp)]
theorem Jl{l:List Svc}{x:Svc}{k:Nat}(h:CE (λt=>Op.bytesLess (Bv t) (Bv x)) l=k)(ht:l[k]?=none):D6 l x=1:=by
 unfold D6;rw[h,ht]
end
section
open Go.RowKit Go.Sort
theorem C8(w:World)(A B:Obj):∃W0,(w.alloc A).alloc B=W0/\W0.heap[w.heap.size]?=some A/\W0.heap[w.heap.size+1]?=some B/\w.heap.size+1+1<=W0.heap.size/\W0.heap.size<=w.heap.size+1+1/\Below w.heap.size w W0:=by
 obtain⟨t0,t1,t2⟩:=B0 w A B;exact⟨_,rfl,t0,t1,by rw[t2];exact AG _,by rw[t2];exact AG _,((Below.refl _ _).alloc (AG _) _).alloc (by simp) _⟩
end
section
open Go.RowKit
theorem Tryz.infosIntX:(Tryz.prog.info? 3).map (·.size)=some 1:=by kernel_rfl
theorem Tryz.infosStrX:(Tryz.prog.info? 9).map (·.size)=some 1:=by kernel_rfl
theorem Tryz.infosBkX:(Tryz.prog.info? 27).map (·.size)=some 4:=by kernel_rfl
theorem Tryz.infosCpX:(Tryz.prog.info? 49).map (·.size)=some 7:=by kernel_rfl
theorem Gi(x:Cp):(#[.string x.service,.int .i64 x.number,.int .i64 x.version,.int .i64 x.image,.int .i64 x.state,.bool x.ending,.string x.berth]:Array Value).all (·.oneCell')=true:=by simp[Value.oneCell']
theorem F8(w:World)(A B C:Obj):∃W0,((w.alloc A).alloc B).alloc C=W0/\W0.heap[w.heap.size]?=some A/\W0.heap[w.heap.size+1]?=some B/\W0.heap[w.heap.size+1+1]?=some C/\w.heap.size+1+1+1<=W0.heap.size/\W0.heap.size<=w.heap.size+1+1+1/\Below w.heap.size w W0:=by
 obtain⟨h1,h2,h3,h4⟩:=Jm w A B C;exact⟨_,rfl,h1,h2,h3,by omega,by omega,(((Below.refl _ _).alloc (AG _) _).alloc (by simp) _).alloc (by simp;omega) _⟩
theorem KJ{α:Type}{c:α->List Value}{n:Nat}(hc:∀s,(c s).length=n):∀(l:List α) (i:Nat),(l.drop i).flatMap c=(l.flatMap c).drop (i*n)
 |[],i=>by simp
 |x::l,0=>by simp
 |x::l,i+1=>by
  have e:(c x).drop ((i+1)*n)=[]:=List.drop_eq_nil_of_le (by rw[hc,Nat.succ_mul];omega);rw[List.drop_succ_cons,KJ hc l i,List.flatMap_cons,List.drop_append,e,List.nil_append,hc,show(i+1)*n - n=i*n by rw[Nat.succ_mul];omega]
theorem Dn{α:Type}{c:α->List Value}{n:Nat}(hc:∀s,(c s).length=n):∀(l:List α) (i:Nat),(l.take i).flatMap c=(l.flatMap c).take (i*n)
 |[],i=>by simp
 |x::l,0=>by simp
 |x::l,i+1=>by
  have e:(c x).take ((i+1)*n)=c x:=List.take_of_length_le (by rw[hc,Nat.succ_mul];omega);rw[List.take_succ_cons,List.flatMap_cons,List.flatMap_cons,Dn hc l i,List.take_append,e,hc,show(i+1)*n - n=i*n by rw[Nat.succ_mul];omega]
theorem RowIs.srcDrop{α:Type}{w:World}{e:TypeId}{size g n cap:Nat}{c:α->List Value}{l:List α}(h:RowIs w e size g n cap (l.flatMap c))(hc:∀s,(c s).length=size)(i:Nat):∀j u,((l.drop i).flatMap c)[j]?=some u->w.cell? ((⟨g,i*size,none⟩:Addr).add j)=some u:=λj u hu=>by
 rw[KJ hc,List.getElem?_drop]at hu;rw[Addr.add_lit];exact h.cell hu
theorem RowIs.srcTake{α:Type}{w:World}{e:TypeId}{size g n cap:Nat}{c:α->List Value}{l:List α}(h:RowIs w e size g n cap (l.flatMap c))(hc:∀s,(c s).length=size)(i:Nat):∀j u,((l.take i).flatMap c)[j]?=some u->w.cell? ((⟨g,0,none⟩:Addr).add j)=some u:=λj u hu=>by
 rw[Dn hc]at hu;rw[Addr.add_lit,Nat.zero_add]
 exact h.cell (by
  rw[List.getElem?_take]at hu;split at hu
  ·exact hu
  ·cases hu)
section
variable {P:Program}
theorem Au{fn:Func}{p q:Tmp}{ty:TypeId}(h:fn.results=#[.cell p ty,.tmp q])(tmps:Array Value)(w:World)(g:Nat)(t:TypeId)(cs:Array Value)(fr:Nat × Nat)(d:TypeDesc)
  (hp:tmps.getD p undef=.pointer (some ⟨g,0,none⟩)) (hg:w.heap[g]?=some (.cells cs t fr))
  (hu:P.underlying ty=some d) (hd:(match d with| .struct _| .array _ _=>true|_=>false)=true) (hi:(P.info? ty).map (·.size)=some cs.size) (v:Value) (hv:tmps.getD q undef=v):
  (results fn tmps).run P w=.ok (.tuple #[.agg cs,v]) w:=by
 have hp':tmps[p]?.getD undef=.pointer (some ⟨g,0,none⟩):=by simpa using hp
 have hv':tmps[q]?.getD undef=v:=by simpa using hv
 simp[results,h,hp',hv',asAddr,run_loadVar_row w g t ty cs fr d hg hu hd hi]
end
theorem _root_.Go.RowKit.Below.mono'{N M:Nat}{w w':World}(h:Below M w w')(hN:N<=M):Below N w w':=h.mono hN
structure Ev where
 kind:Int
 service:Svc
 name:ByteArray
 number:Int
 flag:Bool
def Bn{α:Type}(p:α->Bool)(l:List α):Option (Nat × α):=match l.findIdx? p with
 |some i=>(l[i]?).map λx=>(i,x)
 |none=>none
theorem CA{α:Type}{p:α->Bool}{l:List α}{i:Nat}{x:α}(h:Bn p l=some (i,x)):EY p l=(i:Int)/\l[i]?=some x/\p x=true:=by
 unfold Bn at h
 cases hf:l.findIdx? p with
 |none=>rw[hf]at h;cases h
 |some j=>
  rw[hf]at h;simp only at h
  cases hg:l[j]? with
  |none=>rw[hg]at h;cases h
  |some y=>
   rw[hg]at h;simp only[Option.map_some]at h;have h':=Option.some.inj h;injection h' with h1 h2
   subst h1 h2;refine⟨by unfold EY;rw[hf],hg,?_⟩;obtain⟨hlt,hp,_⟩:=List.findIdx?_eq_some_iff_getElem.1 hf;have:y=l[j]:=by rw[List.getElem?_eq_getElem hlt]at hg;exact(Option.some.inj hg).symm
   rw[this];exact hp
theorem NG{α:Type}{p:α->Bool}{l:List α}(h:Bn p l=none):EY p l= -1:=by
 unfold Bn at h
 cases hf:l.findIdx? p with
 |none=>unfold EY;rw[hf]
 |some j=>
  rw[hf]at h;simp only at h;have hlt:=(List.findIdx?_eq_some_iff_getElem.1 hf).1;rw[List.getElem?_eq_getElem hlt]at h;cases h
def Bm(B:Bk)(nm:ByteArray)(num v:Int):Bk × Int:=match Bn (isC nm num) B.cps with
 |some (i,c)=>if c.state=3\/c.state=2 then({B with now:=v,cps:=B.cps.set i {c with state:=4,version:=v}},0) else(B,3)
 |none=>(B,3)
def sinkB(B:Bk)(nm:ByteArray)(v:Int):Bk × Int:=match Bn (λt:Bt=>t.name.toList==nm.toList) B.bts with
 |some (i,_)=>({B with now:=v,bts:=B.bts.take i++B.bts.drop (i+1),cps:=B.cps.filter λc=>!(c.berth.toList==nm.toList)},0)
 |none=>(B,3)
def Bb(B:Bk)(nm:ByteArray)(num v:Int):Bk × Int:=match Bn (λs:Svc=>s.name.toList==nm.toList) B.svcs with
 |some (i,s)=>if s.per=0 then(B,3) else({B with now:=v,svcs:=B.svcs.set i {s with load:=num,version:=v}},0)
 |none=>(B,3)
def AO(B:Bk)(E:Ev):Bk × Int:=
 if E.kind=1 then({Ca B (B.now+1) with now:=B.now+1},0)
 else if E.kind=2 then({CB B E.service (B.now+1) with now:=B.now+1},0)
 else if E.kind=3 then Bm B E.name E.number (B.now+1)
 else if E.kind=4 then sinkB B E.name (B.now+1)
 else if E.kind=5 then({CC B E.name E.flag with now:=B.now+1},0)
 else if E.kind=6 then Bb B E.name E.number (B.now+1)
 else(B,4)
def Ev.sized(E:Ev):Prop:=E.service.name.size<=maxLen/\E.name.size<=maxLen
def noBk:Bk:=⟨0,[],[],[]⟩
def BM(B:Bk)(E:Ev):Bk × Int:=
 if AX B=true then
  if 1000000<=B.now then(B,if inB E.kind 1 6=true then 7 else 4)
  else if(AO B E).2=0 then(if AX (AO B E).1=true then((AO B E).1,0) else(B,2)) else(B,(AO B E).2)
 else(noBk,1)
theorem Dl{α:Type}(nm:α->List UInt8)(l:List α)(x:α):(BT nm l x).length<=l.length+1:=by
 unfold BT;rw[List.length_append,List.length_cons,List.length_take];split
 ·split<;>rw[List.length_drop]<;>omega
 ·rw[List.length_drop];omega
theorem Fm{α:Type}{nm:α->List UInt8}{l:List α}{x y:α}(h:y∈BT nm l x):y=x\/y∈l:=by
 unfold BT at h;rcases List.mem_append.1 h with h|h
 ·exact .inr (List.mem_of_mem_take h)
 ·rcases List.mem_cons.1 h with h|h
  ·exact .inl h
  ·right
   split at h
   ·split at h<;>exact List.mem_of_mem_drop h
   ·exact List.mem_of_mem_drop h
theorem Er{B:Bk}(hZ:∀t∈B.bts,t.name.size<=maxLen):∀k,(Ao B k).1.size<=maxLen
 |0=>by show(⟨#[]⟩:ByteArray).size<=maxLen;decide
 |k+1=>by
  cases h:B.bts[k]? with
  |none=>
   have:Ao B (k+1)=Ao B k:=by
    unfold Ao;rw[List.take_add_one,h];simp
   rw[this];exact Er hZ k
  |some t=>
   rw[Dh h];unfold Es;split
   ·exact hZ t (AE h)
   ·exact Er hZ k
theorem Dr(v:Int)(c:Cp):(Cr v c).service=c.service/\(Cr v c).berth=c.berth:=by
 unfold Cr
 split<;>exact⟨rfl,rfl⟩
theorem GT{B:Bk}{v:Int}(hZ:B.sized):∀k,∀c∈(BQ B v k).cps,c.service.size<=maxLen/\c.berth.size<=maxLen
 |0=>λc hc=>by
  have hc':c∈Bw v B.cps:=hc;unfold Bw at hc';obtain⟨d,hd,rfl⟩:=List.mem_map.1 hc';rw[(Dr v d).1,(Dr v d).2];exact hZ.2.2.2.2.1 d ((List.mem_filter.1 hd).1)
 |k+1=>λc hc=>by
  rw[Cz]at hc;unfold BO at hc;have ih:=GT (v:=v) hZ k;split at hc
  ·rename_i d hd
   split at hc
   ·rcases List.mem_or_eq_of_mem_set hc with h|h
    ·exact ih c h
    ·rw[h]
     refine⟨(ih d (AE hd)).1,?_⟩;show(Bo (BQ B v k)).size<=maxLen;unfold Bo;refine Er ?_ _;rw[(CT B v k).2.2.1];exact hZ.2.2.2.2.2
   ·exact ih c hc
  ·exact ih c hc
theorem MD{α:Type}{p:α->Bool}{l:List α}{i:Nat}{x:α}(h:Bn p l=some (i,x)):i<l.length/\x∈l:=by
 have:=(CA h).2.1;exact⟨(AC this).1,AE this⟩
theorem Jq(B:Bk)(E:Ev):(AO B E).1.svcs.length<=B.svcs.length+1/\(AO B E).1.cps.length<=B.cps.length/\(AO B E).1.bts.length<=B.bts.length+1:=by
 unfold AO;split
 ·obtain⟨_,q2,q3,q4⟩:=CT B (B.now+1) (Bw (B.now+1) B.cps).length
  refine⟨?_,?_,?_⟩
  ·show(Ca B (B.now+1)).svcs.length<=_;unfold Ca;rw[q2];omega
  ·show(Ca B (B.now+1)).cps.length<=_;unfold Ca;rw[q4];exact Hb _ _
  ·show(Ca B (B.now+1)).bts.length<=_;unfold Ca;rw[q3];omega
 split
 ·exact⟨Dl _ _ _,AG _,Nat.le_succ _⟩
 split
 ·unfold Bm
  split
  ·split
   ·exact⟨Nat.le_succ _,by simp,Nat.le_succ _⟩
   ·exact⟨Nat.le_succ _,AG _,Nat.le_succ _⟩
  ·exact⟨Nat.le_succ _,AG _,Nat.le_succ _⟩
 split
 ·unfold sinkB
  split
  ·exact⟨Nat.le_succ _,List.length_filter_le _ _,by simp only[List.length_append,List.length_take,List.length_drop];omega⟩
  ·exact⟨Nat.le_succ _,AG _,Nat.le_succ _⟩
 split
 ·exact⟨Nat.le_succ _,AG _,Dl _ _ _⟩
 split
 ·unfold Bb
  split
  ·split
   ·exact⟨Nat.le_succ _,AG _,Nat.le_succ _⟩
   ·exact⟨by simp,AG _,Nat.le_succ _⟩
  ·exact⟨Nat.le_succ _,AG _,Nat.le_succ _⟩
 ·exact⟨Nat.le_succ _,AG _,Nat.le_succ _⟩
theorem LP{B:Bk}{E:Ev}(hZ:B.sized)(hE:E.sized):(∀s∈(AO B E).1.svcs,s.name.size<=maxLen)/\(∀c∈(AO B E).1.cps,c.service.size<=maxLen/\c.berth.size<=maxLen)/\(∀t∈(AO B E).1.bts,t.name.size<=maxLen):=by
 have z1:=hZ.2.2.2.1;have z2:=hZ.2.2.2.2.1;have z3:=hZ.2.2.2.2.2;unfold AO;split
 ·refine⟨?_,?_,?_⟩
  ·show ∀s∈(Ca B (B.now+1)).svcs,_;unfold Ca;rw[(CT B _ _).2.1];exact z1
  ·exact GT hZ _
  ·show ∀s∈(Ca B (B.now+1)).bts,_;unfold Ca;rw[(CT B _ _).2.2.1];exact z3
 split
 ·refine⟨λs hs=>?_,z2,z3⟩
  rcases Fm hs with h|h
  ·rw[h];exact hE.1
  ·exact z1 s h
 split
 ·unfold Bm
  split
  ·rename_i i c hi
   split
   ·refine⟨z1,λd hd=>?_,z3⟩
    rcases List.mem_or_eq_of_mem_set hd with h|h
    ·exact z2 d h
    ·rw[h];exact z2 c (MD hi).2
   ·exact⟨z1,z2,z3⟩
  ·exact⟨z1,z2,z3⟩
 split
 ·unfold sinkB
  split
  ·refine⟨z1,λd hd=>z2 d ((List.mem_filter.1 hd).1),λt ht=>?_⟩
   rcases List.mem_append.1 ht with h|h
   ·exact z3 t (List.mem_of_mem_take h)
   ·exact z3 t (List.mem_of_mem_drop h)
  ·exact⟨z1,z2,z3⟩
 split
 ·refine⟨z1,z2,λt ht=>?_⟩
  rcases Fm ht with h|h
  ·rw[h];exact hE.2
  ·exact z3 t h
 split
 ·unfold Bb
  split
  ·rename_i i s hi
   split
   ·exact⟨z1,z2,z3⟩
   ·refine⟨λd hd=>?_,z2,z3⟩
    rcases List.mem_or_eq_of_mem_set hd with h|h
    ·exact z1 d h
    ·rw[h];exact z1 s (MD hi).2
  ·exact⟨z1,z2,z3⟩
 ·exact⟨z1,z2,z3⟩
theorem D8{B:Bk}{E:Ev}(hV:AX B=true):(AO B E).1.small:=by
 unfold AX at hV;simp only[Bool.and_eq_true,decide_eq_true_eq]at hV;obtain⟨h1,h2,h3⟩:=Jq B E;exact⟨by omega,by omega,by omega⟩
theorem FP{B:Bk}{E:Ev}(hV:AX B=true)(hZ:B.sized)(hE:E.sized):(AO B E).1.sized:=by
 obtain⟨h1,h2,h3⟩:=D8 (E:=E) hV;obtain⟨q1,q2,q3⟩:=LP hZ hE;exact⟨by unfold maxLen;omega,by unfold maxLen;omega,by unfold maxLen;omega,q1,q2,q3⟩
end
end Go.Proofs.YtbceafpodamnfaaGreat
