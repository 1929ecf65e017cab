import Derived.Test.YtbceafpodamnfaaH44
set_option linter.all false
set_option maxHeartbeats 4000000
set_option maxRecDepth 100000
namespace Go.Proofs.Ytbceafpodamnfaa
attribute [local simp] svV cpV zbV czV aaV ctZ ad bkV ctV acV evV
attribute [local go_sem] svV cpV zbV czV aaV ctZ ad bkV ctV acV evV
section
open Go.RowKit Go.Sort
theorem JJ(a b c d e:Value)(w:World):(Instr.field 119 (.agg #[a,b,c,d,e]) 1).run Try.prog w=.ok (.agg #[b,c,d,e]) w:=by
 kernel_rfl
theorem Mu{W W':World}{x:Nat}{cs:Array Value}{fr:Nat × Nat}(hx:W.heap[x]?=some (.cells cs 27 fr))(on:Bj x W W'):Nc W W':=λc cs' t fr' h2 _ hc=>on.other c λe=>by
 subst e;rw[hx]at hc;injection hc with hc
 injection hc with _ hc
 exact h2 hc.symm
theorem zb_no:∀(j:Nat) (x:Int),(zbV:Array Value)[j]?≠some (Value.int .u8 x):=by
 intro j x h;rcases j with _|_|_|_|j<;>first|cases h|simp at h
def DrIs(r:Nat)(q:Int)(w:World)(e:Ending)(w':World):Prop:=∃(g1 k1 g2 k2 g3 k3:Nat) (B:Bk),e=.returned (.agg (bkV B (ad g1) k1 (ad g2) k2 (ad g3) k3))/\BkRow w' w.heap.size g1 g2 g3 k1 k2 k3 B/\B.sized/\B.tiny/\Past r w.heap.size w w'/\Rd r w' q
theorem draw_any(r:Nat)(q:Int)(w:World)(hR:Rd r w q)(hq:q<=90000000000):
  Calls Try.prog 49 #[.pointer (ad r)] w λe w'=>DrIs r (q+200000000) w e w':=by
 have hlt:=hR.lt;obtain⟨W0,hW0⟩:∃W0,w.alloc (.cells zbV 27)=W0:=⟨_,rfl⟩;have hb0:Below w.heap.size w W0:=by rw[<-hW0];exact AO _ _
 have VF:Hid (Bl W0 (w.heap.size) zbV 27):=by unfold Hid;rw[<-hW0];exact heap_alloc_new w _
 have R0:Hid (Rd r W0 q):=hR.below hb0;obtain⟨f,hf⟩:∃f,w.heap.size=f:=⟨_,rfl⟩;have hfd:=JJ;clear hR;go_enter Try.func49,Try.ntmps49
 go_upto_region 1 with fail
 rw[hf]at VF;clear hW0
 go_wp2_with (first
  |(go_at_call 76;refine(L3 r _ _ R0.out (by omega)).mono ?_;rintro e w1 ⟨aq,M,cq,g1,k1,g2,k2,g3,k3,B,rfl,hA,hk,hp,hr⟩;have HK:Hid _:=hk;have HR:Hid (Rd r w1 (q+200000000)):=hr;have HP:Hid _:=hp;have V1:Hid _:=BD hp VF.out (AB VF.out).1 (by omega);have HO:Hid _:=hA.ok;clear hA hk hr hp)
  |((with_reducible show wpList _ _ _ _ _ _);refine AM rfl 27 (.tmp 2) (.tmp 5) rfl f 0 (bkV B (ad g1) k1 (ad g2) k2 (ad g3) k3) rfl rfl 27 zbV V1.out AT (AD rfl) (by simp[Value.oneCell']) ?_;intro wz hz on;simp only[Act.put]))
 refine bodyPost_ret (results_cell_row rfl _ wz f 27 (bkV B (ad g1) k1 (ad g2) k2 (ad g3) k3) (0,0) _ rfl hz.out Try.underlying27 rfl AT) rfl ?_;exact⟨g1,k1,g2,k2,g3,k3,B,rfl,(HK.out.n hb0.size).tame (Mu V1.out on),HO.out.bz,HO.out.bs,((Past.of hb0).next (AG _) HP.out).trans (.of (on.below.mono (by omega))),HR.out.only V1.out on (by omega) zb_no⟩
theorem EY:(Try.prog.info? 35).map (·.size)=some 7:=by kernel_rfl
def FoundC(B:Bk)(sv:ByteArray)(num:Int)(e:Ending):Prop:=
 (∃c,B.cps.find? (isC sv num)=some c/\e=.returned (.tuple #[.agg (cpV c),.bool true]))\/
 (B.cps.find? (isC sv num)=none/\e=.returned (.tuple #[.agg czV,.bool false]))
theorem find_at{l:List Cp}{p:Cp->Bool}{k:Nat}{c:Cp}(hk:l[k]?=some c)(hp:p c=true)(hno:∀i,i<k->∀s,l[i]?=some s->p s=false):l.find? p=some c:=by
 rw[List.find?_eq_some_iff_getElem];obtain⟨h1,h2⟩:=AC hk;exact⟨hp,k,h1,h2,λj hj=>by rw[hno j hj l[j] (by simp)];rfl⟩
theorem find_not{l:List Cp}{p:Cp->Bool}(hno:∀i,i<l.length->∀s,l[i]?=some s->p s=false):l.find? p=none:=by
 rw[List.find?_eq_none];intro x hx;obtain⟨i,hi⟩:=List.getElem?_of_mem hx;rw[hno i (AC hi).1 x hi];simp
theorem OI(B:Bk)(sv:ByteArray)(num:Int)(a1 a2 a3:Option Addr)(c1 c2 c3:Nat)(w:World)(hl2:B.cps.length<=1048576)(hB:SlC w a2 B.cps):
  Calls Try.prog 12 #[.agg (bkV B a1 c1 a2 c2 a3 c3),.string sv,.int .i64 num] w λe w'=>FoundC B sv num e/\Below w.heap.size w w':=by
 obtain⟨t0,t1,t2⟩:=Bh w (.cells (bkV B a1 c1 a2 c2 a3 c3) 27) (.cells czV 35);obtain⟨W0,hW0⟩:∃W0,(w.alloc (.cells (bkV B a1 c1 a2 c2 a3 c3) 27)).alloc (.cells czV 35)=W0:=⟨_,rfl⟩;have hb0:Below w.heap.size w W0:=by rw[<-hW0];exact(AO w _).alloc (by show w.heap.size<=(w.heap.push _).size;simp) _
 rw[hW0]at t0 t1 t2;have e2:W0.cell? ⟨w.heap.size,2,none⟩=some (.slice a2 B.cps.length c2):=AK t0 2 rfl;have VF:Hid _:=t1;clear t0 t1 t2;go_enter Try.func12,Try.ntmps12
 go_upto_region 2 with fail
 clear hW0
 go_loop [8] (λi=>∃k:Nat,k<=B.cps.length/\i=.int .i64 k/\Hid (∀i,i<k->∀s,B.cps[i]?=some s->isC sv num s=false)) (λi=>B.cps.length - (intOf i).toNat)
 case atStart=>exact⟨0,by omega,rfl,λi hi=>absurd hi (by omega)⟩
 case round=>
  obtain⟨k,hk,rfl,hno⟩:=hrel
  by_cases hlt:k<B.cps.length
  ·obtain⟨b,off,rfl,hbs,hat⟩:=hB (by intro h;rw[h]at hlt;simp at hlt)
   obtain⟨s,hsk⟩:∃s,B.cps[k]?=some s:=⟨B.cps[k],by simp[hlt]⟩;have HSK:Hid (B.cps[k]?=some s):=hsk;have hc:=(hat k s hsk).below hb0 hbs;unfold CpAt at hc;obtain⟨z0,z1,z2,z3,z4,z5,z6⟩:=hc;clear hat hsk;cases hq:(s.service.toList==sv.toList)
   ·have HN:Hid (isC sv num s=false):=by unfold Hid isC;rw[hq];rfl
    go_wp2;go_round
    case rel=>
     refine⟨k+1,by omega,by go_num,λi hi t ht=>?_⟩;rcases Nat.lt_or_ge i k with h'|h'
     ·exact hno.out i h' t ht
     ·have e:i=k:=by omega
      subst e;rw[HSK.out]at ht;cases ht;exact HN.out
    case measure=>simp[intOf];omega
   cases hq2:(s.number==num)
   ·have HN:Hid (isC sv num s=false):=by unfold Hid isC;rw[hq,hq2];rfl
    go_wp2;go_round
    case rel=>
     refine⟨k+1,by omega,by go_num,λi hi t ht=>?_⟩;rcases Nat.lt_or_ge i k with h'|h'
     ·exact hno.out i h' t ht
     ·have e:i=k:=by omega
      subst e;rw[HSK.out]at ht;cases ht;exact HN.out
    case measure=>simp[intOf];omega
   ·have HN:Hid (isC sv num s=true):=by unfold Hid isC;rw[hq,hq2];rfl
    go_wp2_with ((with_reducible show wpList _ _ _ _ _ _);refine AM rfl 35 (.tmp 6) (.tmp 38) rfl (w.heap.size+1) 0 (cpV s) rfl rfl 35 czV VF.out EY (AD rfl) (by simp[Value.oneCell']) ?_;intro wz hz on;simp only[Act.put])
    refine bodyPost_ret (v:=.tuple #[.agg (cpV s),.bool true]) (Ah rfl _ wz (w.heap.size+1) _ _ _ _ rfl hz.out Try.underlying35 rfl EY _ rfl) rfl ?_;exact⟨.inl ⟨s,find_at HSK.out HN.out hno.out,rfl⟩,hb0.trans (on.below.mono (by omega))⟩
  ·go_wp2_with ((with_reducible show wpList _ _ _ _ _ _);refine AM rfl 35 (.tmp 6) (.tmp 39) rfl (w.heap.size+1) 0 czV rfl rfl 35 czV VF.out EY (AD rfl) (by simp[Value.oneCell']) ?_;intro wz hz on;simp only[Act.put])
   refine bodyPost_ret (v:=.tuple #[.agg czV,.bool false]) (Ah rfl _ wz (w.heap.size+1) _ _ _ _ rfl hz.out Try.underlying35 rfl EY _ rfl) rfl ?_;exact⟨.inr ⟨find_not λi _ s hs=>hno.out i (by have:=(AC hs).1;omega) s hs,rfl⟩,hb0.trans (on.below.mono (by omega))⟩
def GS(w:World)(ao:Option Addr)(n:Nat):Prop:=0<n->∃b off,ao=some ⟨b,off,none⟩/\b<w.heap.size/\∀i,i<n->∃x:Int,w.cell? ⟨b,off+i,none⟩=some (.int .u8 x)/\0<=x/\x<256
theorem rd_new{w:World}{ao:Option Addr}{n m cap:Nat}(h:GS w ao n)(hm:m<=n)(h2:m<=2000):Rd w.heap.size (w.alloc (.cells #[.slice ao m cap,.int .i64 0] 89)) 0:=by
 refine⟨ao,m,cap,0,heap_alloc_new w _,Int.le_refl _,Int.le_refl _,h2,λhp=>?_⟩;obtain⟨b,off,e,hlt,hc⟩:=h (by omega);refine⟨b,off,e,by show b<(w.heap.push _).size;simp;omega,by omega,λi hi=>?_⟩;rw[(AO w _).cell (p:=⟨b,off+i,none⟩) hlt];exact hc i (by omega)
theorem open_any(ao:Option Addr)(n cap:Nat)(w:World)(hn:n<=1048576)(hc:n<=cap)(hC:GS w ao n):
  Calls Try.prog 19 #[.slice ao n cap] w λe w'=>e=.returned (.pointer (some ⟨w.heap.size,0,none⟩))/\Rd w.heap.size w' 0/\Below w.heap.size w w':=by
 have HC:Hid (GS w ao n):=hC;clear hC
 by_cases hg:2000<n
 ·obtain⟨b,off,ea,_⟩:=HC.out (by omega)
  subst ea;go_enter Try.func19,Try.ntmps19;go_wp2;go_ret;exact⟨rfl,rd_new HC.out (by omega) (AG _),AO _ _⟩
 ·go_enter Try.func19,Try.ntmps19
  go_wp2;go_ret;exact⟨rfl,rd_new HC.out (AG _) (by omega),AO _ _⟩
end
section
open Go Go.RowKit
section
variable {P:Program} {ops:Array Oper} {Q:Exit->Act->World->Prop} {V:Nat->Value} {a:Act}
theorem Is(a:Act){d:Option Tmp}{e:Tmp}(v:Value)(h:d≠some e):(a.put d v).eval (.tmp e)=a.eval (.tmp e):=by
 cases d with
 |none=>rfl
 |some d=>
  show(a.tmps.setIfInBounds d v).getD e undef=a.tmps.getD e undef;have hne:d≠e:=λh'=>h (congrArg some h')
  simp only[Array.getD_eq_getD_getElem?,Array.getElem?_setIfInBounds_ne hne]
theorem L5(a:Act){d:Tmp}(v:Value)(h:d<a.tmps.size):(a.put (some d) v).eval (.tmp d)=v:=by
 show(a.tmps.setIfInBounds d v).getD d undef=v;simp[h]
theorem Ha(a:Act)(d:Option Tmp)(v:Value):(a.put d v).tmps.size=a.tmps.size:=by
 cases d<;>simp[Act.put]
theorem Eg(a:Act)(d:Option Tmp)(v:Value):(a.put d v).defers=a.defers:=by
 cases d<;>simp[Act.put]
theorem CX{e:Tmp}:∀n,(∀i,i<n->(ops[i]?).bind (·.dst)≠some e)->(Ad ops V n a).eval (.tmp e)=a.eval (.tmp e)
 |0,_=>rfl
 |n+1,h=>by
  rw[Ad,Is _ _ (h n (by omega))];exact CX n λi hi=>h i (by omega)
theorem Bq:∀n,(Ad ops V n a).tmps.size=a.tmps.size
 |0=>rfl
 |n+1=>by rw[Ad,Ha,Bq n]
theorem BZ:∀n,(Ad ops V n a).defers=a.defers
 |0=>rfl
 |n+1=>by rw[Ad,Eg,BZ n]
theorem CY{i:Nat}{d:Tmp}(hd:(ops[i]?).bind (·.dst)=some d)(hs:d<a.tmps.size):∀n,CI ops n=true->i<n->(Ad ops V n a).eval (.tmp d)=V i
 |0,_,h=>absurd h (by omega)
 |n+1,ho,h=>by
  have ho':CI ops n=true:=by
   unfold CI at ho ⊢;refine List.all_eq_true.2 λj hj=>List.all_eq_true.1 ho j (List.mem_range.2 (by have:=List.mem_range.1 hj;omega))
  rw[Ad]
  by_cases hi:i=n
  ·subst hi
   rw[hd];exact L5 _ _ (by rw[Bq];exact hs)
  ·rw[Is _ _ (IW ho (by omega) (by omega) d hd)]
   exact CY hd hs n ho' (by omega)
theorem Aa{o:Oper}{A:Act}{W W':World}{K:Act->World->Prop}{v:Value}(hg:o.guard=none)(hr:(execOp A.eval o).run P W=.ok (.value v) W')(h:K (A.put o.dst v) W'):wpList P ops (Cv K) [o] A W:=by
 refine wpList_plain hg λK' hK'=>?_
 unfold Oper.wp;rw[hr];exact hK' _ _ h
theorem DT{o:Oper}{A:Act}{W:World}{K:Act->World->Prop}{f:FuncId}{args:Array Value}(hg:o.guard=none)(hr:(execOp A.eval o).run P W=.ok (.enter f args) W)(h:Calls P f args W λe w'=>∃v,e=.returned v/\K (A.put o.dst v) w'):wpList P ops (Cv K) [o] A W:=by
 refine wpList_plain hg λK' hK'=>?_
 unfold Oper.wp;rw[hr];refine h.mono ?_;rintro e w' ⟨v,rfl,hk⟩;exact hK' _ _ hk
end
end
section
open Go.RowKit Go.Sort
section
variable {ρ:Operand->Value} {o:Oper} {W:World}
theorem BG{x:Operand}{v:Value}(h:o.op=.move x)(hx:ρ x=v):(execOp ρ o).run Try.prog W=.ok (.value v) W:=by
 simp[execOp,h,hx,go_sem]
theorem Ar{x:Operand}{b F:Nat}(hF:F<4)(h:o.op=.fieldAddr 27 x F)(hx:ρ x=.pointer (ad b)):(execOp ρ o).run Try.prog W=.ok (.value (.pointer (some ⟨b,F,none⟩))) W:=by
 rcases F with _|_|_|_|F
 ·simp[execOp,h,hx,go_sem]
 ·simp[execOp,h,hx,go_sem]
 ·simp[execOp,h,hx,go_sem]
 ·simp[execOp,h,hx,go_sem]
 ·omega
theorem EF{x:Operand}{n:Int}{v:Value}(hf:ρ (.func 21)=.func (.func 21) #[] #[])(hc:ρ (.const (.int .i64 n))=.int .i64 n)(h:o.op=.call {callee:=.value (.func 21),args:=#[x,.const (.int .i64 n)],argTypes:=#[52,3]})(hx:ρ x=v):(execOp ρ o).run Try.prog W=.ok (.enter 21 #[v,.int .i64 n]) W:=by
 simp[execOp,h,hx,hf,hc,go_sem]
end
structure Tys(LT ET SL SE F size:Nat)(p:Value->Prop):Prop where
 ix:∀(ρ:Operand->Value) (o:Oper) (W:World) (x y:Operand) (g j n:Nat),o.op=.indexAddr LT x y->ρ x=.slice (ad g) n n->ρ y=.int .i64 j->j<n->(execOp ρ o).run Try.prog W=.ok (.value (.pointer (some ⟨g,j,none⟩))) W
 ld:∀(ρ:Operand->Value) (o:Oper) (W:World) (x:Operand) (g j:Nat) (u:Value),o.op=.load ET x->ρ x=.pointer (some ⟨g,j,none⟩)->W.cell? ⟨g,j,none⟩=some u->p u->(execOp ρ o).run Try.prog W=.ok (.value u) W
 sl:∀(ρ:Operand->Value) (o:Oper) (W:World) (x:Operand) (b k g m c:Nat),o.op=.load SL x->ρ x=.pointer (some ⟨b,k,none⟩)->W.cell? ⟨b,k,none⟩=some (.slice (ad g) m c)->(execOp ρ o).run Try.prog W=.ok (.value (.slice (ad g) m c)) W
 el:∀(ρ:Operand->Value) (o:Oper) (W:World) (x y:Operand) (g j m c:Nat),o.op=.indexAddr SL x y->ρ x=.slice (ad g) m c->ρ y=.int .i64 j->j<m->(execOp ρ o).run Try.prog W=.ok (.value (.pointer (some ⟨g,j*size,none⟩))) W
 fd:∀(ρ:Operand->Value) (o:Oper) (W:World) (x:Operand) (g k:Nat),o.op=.fieldAddr SE x F->ρ x=.pointer (some ⟨g,k,none⟩)->(execOp ρ o).run Try.prog W=.ok (.value (.pointer (some ⟨g,k+F,none⟩))) W
 one:∀u,p u->u.cells=#[u]/\u.oneCell'=true
 et:(Try.prog.info? ET).map (·.size)=some 1
def Kept(a a':Act):Prop:=(∀e:Nat,e<33->a'.eval (.tmp e)=a.eval (.tmp e))/\a'.tmps.size=a.tmps.size/\a'.defers=a.defers
theorem Kv{LT ET SL SE F size:Nat}{p:Value->Prop}(ht:Tys LT ET SL SE F size p){o0 o1 o2 o3 o4 o5 o6 o7 o8 o9 o10:Oper}(t fl sl n:Nat)(parts:Array (Nat × Operand))(hfl:fl<4)(hsl:sl<33)(hn0:0<n)(hn:n<1000)
  (hsh:[o0,o1,o2,o3,o4,o5,o6,o7,o8,o9,o10].map (λo=>(o.dst,o.op,o.guard))=[(some t,.fieldAddr 27 (.tmp 5) fl,none),(some (t+1),.load SL (.tmp t),none),(some (t+2),.move (.tmp sl),none),(some (t+3),.buildSlice LT n parts,none),(some (t+4),.move (.tmp 0),none),
   (some (t+5),.call {callee:=.value (.func 21),args:=#[.tmp (t+4),.const (.int .i64 n)],argTypes:=#[52,3]},none),(some (t+6),.indexAddr LT (.tmp (t+3)) (.tmp (t+5)),none),(some (t+7),.load ET (.tmp (t+6)),none),(some (t+8),.indexAddr SL (.tmp (t+1)) (.tmp (t+2)),none),(some (t+9),.fieldAddr SE (.tmp (t+8)) F,none),(none,.store ET (.tmp (t+9)) (.tmp (t+7)),none)])
  (hB:Ap [o0,o1,o2,o3,o4,o5,o6,o7,o8,o9,o10].toArray 10=true)
  (hwt:[(1,0),(5,4),(6,3),(6,5),(7,6),(8,1),(8,2),(9,8)].all (λx=>Region.waitsFor .any [o0,o1,o2,o3,o4,o5,o6,o7,o8,o9,o10].toArray x.1 x.2)=true)
  {r x g m c i e:Nat} {q:Int} {a:Act} {w:World} {id:Nat} {Q:Exit->Act->World->Prop} {xs:List Value} {bc:Array Value}
  (hb3:∀(A:Act) (W:World) (K:Act->World->Prop),r<W.heap.size->Hid (∀v W',Below W.heap.size W W'->SlV r n p v W'->K (A.put o3.dst v) W')->wpList Try.prog [o0,o1,o2,o3,o4,o5,o6,o7,o8,o9,o10].toArray (Cv K) [o3] A W)
  (ht0:33<=t) (hts:t+9<a.tmps.size) (e0:a.eval (.tmp 0)=.pointer (ad r)) (e5:a.eval (.tmp 5)=.pointer (ad x)) (es:a.eval (.tmp sl)=.int .i64 i)
  (hR:Rd r w q) (hq:q<=900000000000) (hx:Bl w x bc 27) (hbc:bc[fl]?=some (.slice (ad g) m c)) (hxr:x≠r) (hgr:g≠r) (hrow:RowIs w e size g m c xs) (him:i<m) (hF:F<size)
  (hQ:∀a' W w' u,Kept a a'->p u->Past r w.heap.size w W->Rd r W (q+10)->Hid (RowIs w' e size g m c (splice xs (i*size+F) [u]))->Bj g W w'->Q .normal a' w'):
  (Code.region id [o0,o1,o2,o3,o4,o5,o6,o7,o8,o9,o10].toArray true).wp Try.prog Q a w:=by
 obtain⟨ops,hops⟩:∃l,l=[o0,o1,o2,o3,o4,o5,o6,o7,o8,o9,o10]:=⟨_,rfl⟩;simp only[List.map_cons,List.map_nil,List.cons.injEq,Prod.mk.injEq,and_true]at hsh;obtain⟨⟨d0,p0,u0⟩,⟨d1,p1,u1⟩,⟨d2,p2,u2⟩,⟨d3,p3,u3⟩,⟨d4,p4,u4⟩,⟨d5,p5,u5⟩,⟨d6,p6,u6⟩,⟨d7,p7,u7⟩,⟨d8,p8,u8⟩,⟨d9,p9,u9⟩,d10,p10,u10⟩:=hsh;simp only[List.all_cons,List.all_nil,Bool.and_eq_true,Bool.and_true]at hwt;obtain⟨w10,w54,w63,w65,w76,w81,w82,w98⟩:=hwt
 have hown:CI [o0,o1,o2,o3,o4,o5,o6,o7,o8,o9,o10].toArray 10=true:=by
  simp only[Ap,Bool.and_eq_true]at hB;exact hB.1.2
 have hold:∀(V:Nat->Value) (s:Nat),s<33->(Ad [o0,o1,o2,o3,o4,o5,o6,o7,o8,o9,o10].toArray V 10 a).eval (.tmp s)=a.eval (.tmp s):=λV s hs=>CX 10 λj hj=>by
  rcases j with _|_|_|_|_|_|_|_|_|_|j
  ·simp[d0];omega
  ·simp[d1];omega
  ·simp[d2];omega
  ·simp[d3];omega
  ·simp[d4];omega
  ·simp[d5];omega
  ·simp[d6];omega
  ·simp[d7];omega
  ·simp[d8];omega
  ·simp[d9];omega
  ·omega
 have G:∀(V:Nat->Value) (i d:Nat),i<10->(([o0,o1,o2,o3,o4,o5,o6,o7,o8,o9,o10].toArray)[i]?).bind (·.dst)=some d->d<a.tmps.size->(Ad [o0,o1,o2,o3,o4,o5,o6,o7,o8,o9,o10].toArray V 10 a).eval (.tmp d)=V i:=λV i d hi hd hs=>CY hd hs 10 hown hi
 have hlt:=(AB hx).1;have hglt:=hrow.lt;refine BN 10 r 1 q (by kernel_rfl) hB hR ?_;refine Am (λv _=>v=.pointer (some ⟨x,fl,none⟩)) (λ_ _ _ h _ _=>h) ?_ ?_
 ·intro V W K A hW hR hd hA hK
  obtain rfl:=hA;exact Aa u0 (Ar hfl p0 ((hold V 5 (by omega)).trans e5)) (hK.out _ _ (RStep.re _) rfl)
 refine Am (λv _=>v=.slice (ad g) m c) (λ_ _ _ h _ _=>h) ?_ ?_
 ·intro V W K A hW hR hd hA hK
  obtain rfl:=hA;have h0:V 0=_:=hd 0 w10;exact Aa u1 (ht.sl _ _ _ _ x fl g m c p1 ((G V 0 _ (by omega) d0 (by omega)).trans h0) (AK (BD hW hx hlt hxr) fl hbc)) (hK.out _ _ (RStep.re _) rfl)
 refine Am (λv _=>v=.int .i64 i) (λ_ _ _ h _ _=>h) ?_ ?_
 ·intro V W K A hW hR hd hA hK
  obtain rfl:=hA;exact Aa u2 (BG p2 ((hold V sl hsl).trans es)) (hK.out _ _ (RStep.re _) rfl)
 refine Am (SlV r n p) HJ ?_ ?_
 ·intro V W K A hW hR hd hA hK
  exact hb3 A W K hR.lt λv W' hb hv=>hK.out _ _ (.of hb) hv
 refine Am (λv _=>v=.pointer (ad r)) (λ_ _ _ h _ _=>h) ?_ ?_
 ·intro V W K A hW hR hd hA hK
  obtain rfl:=hA;exact Aa u4 (BG p4 ((hold V 0 (by omega)).trans e0)) (hK.out _ _ (RStep.re _) rfl)
 refine Am (Pk n) Fi ?_ ?_
 ·intro V W K A hW hR hd hA hK
  obtain rfl:=hA;have h4:V 4=_:=hd 4 w54;refine DT u5 (EF rfl rfl p5 ((G V 4 _ (by omega) d4 (by omega)).trans h4)) ((Ao r n _ W (by omega) (by omega) hR (by omega)).mono ?_);rintro e w2 ⟨k,rfl,hk,hs⟩;exact⟨_,rfl,hK.out _ _ hs ⟨k,rfl,hk⟩⟩
 refine Am (PtV r p) L7 ?_ ?_
 ·intro V W K A hW hR hd hA hK
  obtain rfl:=hA;obtain⟨gl,h3,l1,l2,l3⟩:SlV r n p (V 3) W:=hd 3 w63;obtain⟨k,h5,hk⟩:Pk n (V 5) W:=hd 5 w65;obtain⟨j,rfl⟩:=AI hk.1;have hj:j<n:=by have:=hk.2.1 (by omega);omega
  obtain⟨u,c1,c2⟩:=l3 j hj;exact Aa u6 (ht.ix _ _ _ _ _ gl j n p6 ((G V 3 _ (by omega) d3 (by omega)).trans h3) ((G V 5 _ (by omega) d5 (by omega)).trans h5) hj) (hK.out _ _ (RStep.re _) ⟨gl,j,u,rfl,l1,l2,c1,c2⟩)
 refine Am (Va p) I9 ?_ ?_
 ·intro V W K A hW hR hd hA hK
  obtain rfl:=hA;obtain⟨gl,j,u,h6,l1,l2,c1,c2⟩:PtV r p (V 6) W:=hd 6 w76;exact Aa u7 (ht.ld _ _ _ _ gl j u p7 ((G V 6 _ (by omega) d6 (by omega)).trans h6) c1 c2) (hK.out _ _ (RStep.re _) c2)
 refine Am (λv _=>v=.pointer (some ⟨g,i*size,none⟩)) (λ_ _ _ h _ _=>h) ?_ ?_
 ·intro V W K A hW hR hd hA hK
  obtain rfl:=hA;have h1:V 1=_:=hd 1 w81;have h2:V 2=_:=hd 2 w82;exact Aa u8 (ht.el _ _ _ _ _ g i m c p8 ((G V 1 _ (by omega) d1 (by omega)).trans h1) ((G V 2 _ (by omega) d2 (by omega)).trans h2) him) (hK.out _ _ (RStep.re _) rfl)
 refine Am (λv _=>v=.pointer (some ⟨g,i*size+F,none⟩)) (λ_ _ _ h _ _=>h) ?_ ?_
 ·intro V W K A hW hR hd hA hK
  obtain rfl:=hA;have h8:V 8=_:=hd 8 w98;exact Aa u9 (ht.fd _ _ _ _ g _ p9 ((G V 8 _ (by omega) d8 (by omega)).trans h8)) (hK.out _ _ (RStep.re _) rfl)
 intro V W A hW hR hS hA;obtain rfl:=hA;have h7:p (V 7):=hS 7 (by omega);have h9:V 9=_:=hS 9 (by omega);obtain⟨v1,v2⟩:=ht.one _ h7
 have hfit:i*size+F+1<=m*size:=by
  have:=Nat.mul_le_mul_right size (show i+1<=m from him);rw[Nat.add_mul,Nat.one_mul]at this;omega
 refine At u10 ET _ _ p10 g (i*size+F) (V 7) ((G V 9 _ (by omega) d9 (by omega)).trans h9) (G V 7 _ (by omega) d7 (by omega)) ht.et v1 v2 e size m c xs (hrow.blk (BD hW rfl hglt hgr)) hfit ?_;intro w' hr on;rw[d10];exact hQ _ W w' _ ⟨λs hs=>hold V s hs,Bq 10,BZ 10⟩ h7 hW (hR.mono (by omega)) hr on
end
end Go.Proofs.Ytbceafpodamnfaa
