import Derived.Test.YtbceafpodamnfaaH45
set_option linter.all false
namespace Go.Proofs.Ytbceafpodamnfaa
attribute [local simp] svV cpV zbV czV aaV ctZ ad bkV ctV acV evV
attribute [local go_sem] svV cpV zbV czV aaV ctZ ad bkV ctV acV evV
section
open Go.RowKit Go.Sort
def IsN(u:Value):Prop:=∃k:Int,u=.int .i64 k
theorem isN{k:Int}:IsN (.int .i64 k):=⟨_,rfl⟩
theorem It{p:Value->Prop}{a b c d:Value}(ha:p a)(hb:p b)(hc:p c)(hd:p d):∀i,i<4->∃u,(#[a,b,c,d]:Array Value)[i]?=some u/\p u
 |0,_=>⟨a,rfl,ha⟩
 |1,_=>⟨b,rfl,hb⟩
 |2,_=>⟨c,rfl,hc⟩
 |3,_=>⟨d,rfl,hd⟩
section
variable {ρ:Operand->Value} {o:Oper} {W:World} {x y:Operand}
theorem Ji{g j n:Nat}(h:o.op=.indexAddr 122 x y)(hx:ρ x=.slice (some ⟨g,0,none⟩) n n)(hy:ρ y=.int .i64 j)(hj:j<n):(execOp ρ o).run Try.prog W=.ok (.value (.pointer (some ⟨g,j,none⟩))) W:=by
 simp[execOp,h,hx,hy,go_sem,hj]
theorem NO{g j n:Nat}(h:o.op=.indexAddr 91 x y)(hx:ρ x=.slice (some ⟨g,0,none⟩) n n)(hy:ρ y=.int .i64 j)(hj:j<n):(execOp ρ o).run Try.prog W=.ok (.value (.pointer (some ⟨g,j,none⟩))) W:=by
 simp[execOp,h,hx,hy,go_sem,hj]
theorem Dn{b k:Nat}{u:Value}(h:o.op=.load 3 x)(hx:ρ x=.pointer (some ⟨b,k,none⟩))(hc:W.cell? ⟨b,k,none⟩=some u):(execOp ρ o).run Try.prog W=.ok (.value u) W:=by
 simp[execOp,h,hx,go_sem,hc]
theorem Gy{b k:Nat}{u:Value}(h:o.op=.load 9 x)(hx:ρ x=.pointer (some ⟨b,k,none⟩))(hc:W.cell? ⟨b,k,none⟩=some u):(execOp ρ o).run Try.prog W=.ok (.value u) W:=by
 simp[execOp,h,hx,go_sem,hc]
theorem ld_bool{b k:Nat}{u:Value}(h:o.op=.load 4 x)(hx:ρ x=.pointer (some ⟨b,k,none⟩))(hc:W.cell? ⟨b,k,none⟩=some u):(execOp ρ o).run Try.prog W=.ok (.value u) W:=by
 simp[execOp,h,hx,go_sem,hc]
theorem E9{b k:Nat}{u:Value}(h:o.op=.load 23 x)(hx:ρ x=.pointer (some ⟨b,k,none⟩))(hc:W.cell? ⟨b,k,none⟩=some u):(execOp ρ o).run Try.prog W=.ok (.value u) W:=by
 simp[execOp,h,hx,go_sem,hc]
theorem Dd{b k:Nat}{u:Value}(h:o.op=.load 24 x)(hx:ρ x=.pointer (some ⟨b,k,none⟩))(hc:W.cell? ⟨b,k,none⟩=some u):(execOp ρ o).run Try.prog W=.ok (.value u) W:=by
 simp[execOp,h,hx,go_sem,hc]
theorem ld_bts{b k:Nat}{u:Value}(h:o.op=.load 25 x)(hx:ρ x=.pointer (some ⟨b,k,none⟩))(hc:W.cell? ⟨b,k,none⟩=some u):(execOp ρ o).run Try.prog W=.ok (.value u) W:=by
 simp[execOp,h,hx,go_sem,hc]
theorem EV{g j m c:Nat}(h:o.op=.indexAddr 23 x y)(hx:ρ x=.slice (some ⟨g,0,none⟩) m c)(hy:ρ y=.int .i64 j)(hj:j<m):(execOp ρ o).run Try.prog W=.ok (.value (.pointer (some ⟨g,j*13,none⟩))) W:=by
 simp[execOp,h,hx,hy,go_sem,hj]
theorem G1{g j m c:Nat}(h:o.op=.indexAddr 24 x y)(hx:ρ x=.slice (some ⟨g,0,none⟩) m c)(hy:ρ y=.int .i64 j)(hj:j<m):(execOp ρ o).run Try.prog W=.ok (.value (.pointer (some ⟨g,j*7,none⟩))) W:=by
 simp[execOp,h,hx,hy,go_sem,hj]
theorem Fo{g k F:Nat}(hF:F<13)(h:o.op=.fieldAddr 63 x F)(hx:ρ x=.pointer (some ⟨g,k,none⟩)):(execOp ρ o).run Try.prog W=.ok (.value (.pointer (some ⟨g,k+F,none⟩))) W:=by
 rcases F with _|_|_|_|_|_|_|_|_|_|_|_|_|F
 all_goals first
  |omega
  |simp[execOp,h,hx,go_sem]
theorem GL{g k F:Nat}(hF:F<7)(h:o.op=.fieldAddr 35 x F)(hx:ρ x=.pointer (some ⟨g,k,none⟩)):(execOp ρ o).run Try.prog W=.ok (.value (.pointer (some ⟨g,k+F,none⟩))) W:=by
 rcases F with _|_|_|_|_|_|_|F
 all_goals first
  |omega
  |simp[execOp,h,hx,go_sem]
theorem Da{v:Value}(h:o.op=.assign x)(hx:ρ x=v):(execOp ρ o).run Try.prog W=.ok (.value v) W:=by
 simp[execOp,h,hx,go_sem]
theorem LR{n k:Int}(hc:ρ (.const (.int .i64 n))=.int .i64 n)(h:o.op=.binOp .eql 3 x (.const (.int .i64 n)) 3)(hx:ρ x=.int .i64 k):(execOp ρ o).run Try.prog W=.ok (.value (.bool (k==n))) W:=by
 simp[execOp,h,hx,hc,go_sem]
theorem Ir{k:Int}(hc:ρ (.const (.int .i64 1))=.int .i64 1)(h:o.op=.binOp .add 3 x (.const (.int .i64 1)) 3)(hx:ρ x=.int .i64 k):(execOp ρ o).run Try.prog W=.ok (.value (.int .i64 (IntKind.wrap .i64 (k+1)))) W:=by
 simp[execOp,h,hx,hc,go_sem]
end
theorem L9:∀u,IsN u->u.cells=#[u]/\u.oneCell'=true:=by
 rintro u ⟨k,rfl⟩;exact⟨rfl,rfl⟩
theorem one_S:∀u,CG u->u.cells=#[u]/\u.oneCell'=true:=by
 rintro u ⟨k,rfl,_⟩;exact⟨rfl,rfl⟩
theorem Bs:(Try.prog.info? 3).map (·.size)=some 1:=by kernel_rfl
theorem Gq:(Try.prog.info? 9).map (·.size)=some 1:=by kernel_rfl
theorem G7{F:Nat}(hF:F<13):Tys 122 3 23 63 F 13 IsN:=
 ⟨λ_ _ _ _ _ _ _ _=>Ji,λ_ _ _ _ _ _ _ h h1 h2 _=>Dn h h1 h2,λ_ _ _ _ _ _ _ _ _=>E9,λ_ _ _ _ _ _ _ _ _=>EV,λ_ _ _ _ _ _=>Fo hF,L9,Bs⟩
theorem tysSS{F:Nat}(hF:F<13):Tys 91 9 23 63 F 13 CG:=
 ⟨λ_ _ _ _ _ _ _ _=>NO,λ_ _ _ _ _ _ _ h h1 h2 _=>Gy h h1 h2,λ_ _ _ _ _ _ _ _ _=>E9,λ_ _ _ _ _ _ _ _ _=>EV,λ_ _ _ _ _ _=>Fo hF,one_S,Gq⟩
theorem tysNC{F:Nat}(hF:F<7):Tys 122 3 24 35 F 7 IsN:=
 ⟨λ_ _ _ _ _ _ _ _=>Ji,λ_ _ _ _ _ _ _ h h1 h2 _=>Dn h h1 h2,λ_ _ _ _ _ _ _ _ _=>Dd,λ_ _ _ _ _ _ _ _ _=>G1,λ_ _ _ _ _ _=>GL hF,L9,Bs⟩
theorem tysSC{F:Nat}(hF:F<7):Tys 91 9 24 35 F 7 CG:=
 ⟨λ_ _ _ _ _ _ _ _=>NO,λ_ _ _ _ _ _ _ h h1 h2 _=>Gy h h1 h2,λ_ _ _ _ _ _ _ _ _=>Dd,λ_ _ _ _ _ _ _ _ _=>G1,λ_ _ _ _ _ _=>GL hF,one_S,Gq⟩
def SetS(F:Nat)(p:Value->Prop):Prop:=∀(s:Svc) (u:Value),p u->s.name.size<=maxLen->∃s':Svc,s'.cells=s.cells.set F u/\s'.name.size<=maxLen
def Oz(F:Nat)(p:Value->Prop):Prop:=∀(s:Cp) (u:Value),p u->s.service.size<=maxLen/\s.berth.size<=maxLen->∃s':Cp,s'.cells=s.cells.set F u/\s'.service.size<=maxLen/\s'.berth.size<=maxLen
theorem Nx{n:Nat}(h:n<=10):n<=maxLen:=by unfold maxLen;omega
theorem ON:SetS 0 CG:=λs u ⟨b,e,hb⟩ _=>⟨{s with name:=b},by subst e;rfl,Nx hb⟩
theorem Cl{F:Nat}(h:F=1\/2<F)(h':F<13):SetS F IsN:=by
 rintro s u ⟨k,rfl⟩ hn;rcases F with _|_|_|_|_|_|_|_|_|_|_|_|_|F
 ·omega
 ·exact⟨{s with version:=k},rfl,hn⟩
 ·omega
 ·exact⟨{s with image:=k},rfl,hn⟩
 ·exact⟨{s with want:=k},rfl,hn⟩
 ·exact⟨{s with down:=k},rfl,hn⟩
 ·exact⟨{s with over:=k},rfl,hn⟩
 ·exact⟨{s with next:=k},rfl,hn⟩
 ·exact⟨{s with per:=k},rfl,hn⟩
 ·exact⟨{s with least:=k},rfl,hn⟩
 ·exact⟨{s with most:=k},rfl,hn⟩
 ·exact⟨{s with load:=k},rfl,hn⟩
 ·exact⟨{s with cool:=k},rfl,hn⟩
 ·omega
theorem LP:Oz 0 CG:=λs u ⟨b,e,hb⟩ h=>⟨{s with service:=b},by subst e;rfl,Nx hb,h.2⟩
theorem Mz:Oz 6 CG:=λs u ⟨b,e,hb⟩ h=>⟨{s with berth:=b},by subst e;rfl,h.1,Nx hb⟩
theorem JG{F:Nat}(h:0<F)(h':F<5):Oz F IsN:=by
 rintro s u ⟨k,rfl⟩ hn;rcases F with _|_|_|_|_|F
 ·omega
 ·exact⟨{s with number:=k},rfl,hn⟩
 ·exact⟨{s with version:=k},rfl,hn⟩
 ·exact⟨{s with image:=k},rfl,hn⟩
 ·exact⟨{s with state:=k},rfl,hn⟩
 ·omega
theorem OO:Oz 5 (λu=>∃b:Bool,u=.bool b):=λs u ⟨b,e⟩ h=>⟨{s with ending:=b},by subst e;rfl,h⟩
structure SpU(r f x g1 k1 g2 k2 g3 k3:Nat)(B:Bk)(w0:World)(q:Int)(w:World):Prop where
 vf:w.heap[f]?=some (.cells #[.int .i64 0,.slice none 0 0,.slice none 0 0,.slice none 0 0] 27 (0,0))
 vx:w.heap[x]?=some (.cells #[.int .i64 B.now,.slice (some ⟨g1,0,none⟩) B.svcs.length k1,.slice (some ⟨g2,0,none⟩) B.cps.length k2,.slice (some ⟨g3,0,none⟩) B.bts.length k3] 27 (0,0))
 row:BkRow w w0.heap.size g1 g2 g3 k1 k2 k3 B
 bz:B.sized
 bs:B.small
 rd:Rd r w q
 past:Past r w0.heap.size w0 w
 rn:r<w0.heap.size
 nf:w0.heap.size<=f
 nx:w0.heap.size<=x
 fx:f≠x
def SpW(r f x:Nat)(w0:World)(q:Int)(w:World):Prop:=∃g1 k1 g2 k2 g3 k3 B,SpU r f x g1 k1 g2 k2 g3 k3 B w0 q w
theorem RowIs.notBk{w:World}{e:TypeId}{size g n cap x:Nat}{xs:List Value}{cs:Array Value}{fr:Nat × Nat}(h:RowIs w e size g n cap xs)(hx:w.heap[x]?=some (.cells cs 27 fr))(he:e≠27):x≠g:=by
 rintro rfl;obtain⟨_,_,cur,h1,_⟩:=h;rw[hx]at h1;injection h1 with h1
 injection h1 with _ h1
 exact he h1.symm
section
variable {r f x g1 k1 g2 k2 g3 k3:Nat} {B:Bk} {w0 w W w':World} {q q':Int}
theorem SpU.go(h:SpU r f x g1 k1 g2 k2 g3 k3 B w0 q w)(hp:Past r w.heap.size w W)(hr:Rd r W q'):SpU r f x g1 k1 g2 k2 g3 k3 B w0 q' W:=by
 have h1:=h.rn;have h2:=h.nf;have h3:=h.nx;have h4:=h.row.n1;have h5:=h.row.n2;have h6:=h.row.n3
 exact⟨BD hp h.vf (AB h.vf).1 (by omega),BD hp h.vx (AB h.vx).1 (by omega),
  ⟨h4,h5,h6,h.row.svcs.blk (BD hp rfl h.row.svcs.lt (by omega)),h.row.cps.blk (BD hp rfl h.row.cps.lt (by omega)),h.row.bts.blk (BD hp rfl h.row.bts.lt (by omega))⟩,h.bz,h.bs,hr,h.past.next (AG _) hp,h1,h2,h3,h.fx⟩
theorem SpU.mono(h:SpU r f x g1 k1 g2 k2 g3 k3 B w0 q w)(hq:q<=q'):SpU r f x g1 k1 g2 k2 g3 k3 B w0 q' w:={h with rd:=h.rd.mono hq}
theorem SpU.svc(h:SpU r f x g1 k1 g2 k2 g3 k3 B w0 q w){i F:Nat}{u:Value}{p:Value->Prop}(hs:SetS F p)(hu:p u)(hF:F<13)(hi:i<B.svcs.length)(hr:RowIs w' 63 13 g1 B.svcs.length k1 (splice (AU B.svcs) (i*13+F) [u]))(on:Bj g1 w w'):SpW r f x w0 q w':=by
 obtain⟨s,hsi⟩:∃s,B.svcs[i]?=some s:=⟨B.svcs[i],by simp[hi]⟩;obtain⟨z1,z2,z3,z4,z5,z6⟩:=h.bz;obtain⟨s',e1,e2⟩:=hs s u hu (z4 s (AE hsi));have e:splice (AU B.svcs) (i*13+F) [u]=AU (B.svcs.set i s'):=Ay (c:=Svc.cells) (n:=13) (λ_=>rfl) _ i F s s' u hsi hF e1;rw[e]at hr;have h1:=h.rn;have h2:=h.row.n1;refine⟨g1,k1,g2,k2,g3,k3,{B with svcs:=B.svcs.set i s'},(on.other f (h.row.svcs.notBk h.vf (by decide))).trans h.vf,?_,⟨h2,h.row.n2,h.row.n3,by rw[List.length_set];exact hr,h.row.cps.blk (on.other _ h.row.ne12.symm),h.row.bts.blk (on.other _ h.row.ne13.symm)⟩,⟨by rw[List.length_set];exact z1,z2,z3,?_,z5,z6⟩,⟨by rw[List.length_set];exact h.bs.1,h.bs.2⟩,h.rd.turn (by omega) on.size on.other,h.past.trans (.of (on.below.mono h2)),h1,h.nf,h.nx,h.fx⟩
 ·rw[on.other x (h.row.svcs.notBk h.vx (by decide)),h.vx,List.length_set]
 ·intro t ht
  rcases List.mem_or_eq_of_mem_set ht with ht|rfl
  ·exact z4 t ht
  ·exact e2
theorem SpU.cp(h:SpU r f x g1 k1 g2 k2 g3 k3 B w0 q w){i F:Nat}{u:Value}{p:Value->Prop}(hs:Oz F p)(hu:p u)(hF:F<7)(hi:i<B.cps.length)(hr:RowIs w' 35 7 g2 B.cps.length k2 (splice (Ag B.cps) (i*7+F) [u]))(on:Bj g2 w w'):SpW r f x w0 q w':=by
 obtain⟨s,hsi⟩:∃s,B.cps[i]?=some s:=⟨B.cps[i],by simp[hi]⟩;obtain⟨z1,z2,z3,z4,z5,z6⟩:=h.bz;obtain⟨s',e1,e2⟩:=hs s u hu (z5 s (AE hsi));have e:splice (Ag B.cps) (i*7+F) [u]=Ag (B.cps.set i s'):=Ay (c:=Cp.cells) (n:=7) (λ_=>rfl) _ i F s s' u hsi hF e1;rw[e]at hr;have h1:=h.rn;have h2:=h.row.n2;refine⟨g1,k1,g2,k2,g3,k3,{B with cps:=B.cps.set i s'},(on.other f (h.row.cps.notBk h.vf (by decide))).trans h.vf,?_,⟨h.row.n1,h2,h.row.n3,h.row.svcs.blk (on.other _ h.row.ne12),by rw[List.length_set];exact hr,h.row.bts.blk (on.other _ h.row.ne23.symm)⟩,⟨z1,by rw[List.length_set];exact z2,z3,z4,?_,z6⟩,⟨h.bs.1,by rw[List.length_set];exact h.bs.2.1,h.bs.2.2⟩,h.rd.turn (by omega) on.size on.other,h.past.trans (.of (on.below.mono h2)),h1,h.nf,h.nx,h.fx⟩
 ·rw[on.other x (h.row.cps.notBk h.vx (by decide)),h.vx,List.length_set]
 ·intro t ht
  rcases List.mem_or_eq_of_mem_set ht with ht|rfl
  ·exact z5 t ht
  ·exact e2
end
structure SpF(r f x s c:Nat)(k:Int)(a:Act):Prop where
 e0:a.eval (.tmp 0)=.pointer (some ⟨r,0,none⟩)
 e4:a.eval (.tmp 4)=.pointer (some ⟨f,0,none⟩)
 e5:a.eval (.tmp 5)=.pointer (some ⟨x,0,none⟩)
 e6:a.eval (.tmp 6)=.int .i64 s
 e7:a.eval (.tmp 7)=.int .i64 c
 ek:a.eval (.tmp 32)=.int .i64 k
 sz:a.tmps.size=284
 df:a.defers=[]
theorem SpF.kept{r f x s c:Nat}{k:Int}{a a':Act}(h:SpF r f x s c k a)(hk:Kept a a'):SpF r f x s c k a':=
 ⟨(hk.1 0 (by omega)).trans h.e0,(hk.1 4 (by omega)).trans h.e4,(hk.1 5 (by omega)).trans h.e5,(hk.1 6 (by omega)).trans h.e6,(hk.1 7 (by omega)).trans h.e7,(hk.1 32 (by omega)).trans h.ek,hk.2.1.trans h.sz,hk.2.2.trans h.df⟩
theorem Kept.refl(a:Act):Kept a a:=⟨λ_ _=>rfl,rfl,rfl⟩
theorem Kept.put{a a':Act}(h:Kept a a'){d:Nat}(v:Value)(hd:33<=d):Kept a (a'.put (some d) v):=
 ⟨λe he=>(Is _ _ (λh'=>absurd (Option.some.inj h':d=e) (by omega))).trans (h.1 e he),(Ha _ _ _).trans h.2.1,(Eg _ _ _).trans h.2.2⟩
theorem FJ{LT ET F:Nat}{p:Value->Prop}(ht:Tys LT ET 23 63 F 13 p)(hset:SetS F p)(hF:F<13){o0 o1 o2 o3 o4 o5 o6 o7 o8 o9 o10:Oper}(t n:Nat)(parts:Array (Nat × Operand))(hn0:0<n)(hn:n<1000)
  (hsh:[o0,o1,o2,o3,o4,o5,o6,o7,o8,o9,o10].map (λo=>(o.dst,o.op,o.guard))=[(some t,.fieldAddr 27 (.tmp 5) 1,none),(some (t+1),.load 23 (.tmp t),none),(some (t+2),.move (.tmp 6),none),(some (t+3),.buildSlice LT n parts,none),(some (t+4),.move (.tmp 0),none),
   (some (t+5),.call {callee:=.value (.func 21),args:=#[.tmp (t+4),.const (.int .i64 n)],argTypes:=#[52,3]},none),(some (t+6),.indexAddr LT (.tmp (t+3)) (.tmp (t+5)),none),(some (t+7),.load ET (.tmp (t+6)),none),(some (t+8),.indexAddr 23 (.tmp (t+1)) (.tmp (t+2)),none),(some (t+9),.fieldAddr 63 (.tmp (t+8)) F,none),(none,.store ET (.tmp (t+9)) (.tmp (t+7)),none)])
  (hB:Ap [o0,o1,o2,o3,o4,o5,o6,o7,o8,o9,o10].toArray 10=true)
  (hwt:[(1,0),(5,4),(6,3),(6,5),(7,6),(8,1),(8,2),(9,8)].all (λx=>Region.waitsFor .any [o0,o1,o2,o3,o4,o5,o6,o7,o8,o9,o10].toArray x.1 x.2)=true) (ht0:33<=t) (hts:t+9<284)
  {r f x s c g1 k1 g2 k2 g3 k3 id:Nat} {B:Bk} {k q:Int} {a:Act} {w0 w:World} {Q:Exit->Act->World->Prop}
  (hb3:∀(A:Act) (W:World) (K:Act->World->Prop),r<W.heap.size->Hid (∀v W',Below W.heap.size W W'->SlV r n p v W'->K (A.put o3.dst v) W')->wpList Try.prog [o0,o1,o2,o3,o4,o5,o6,o7,o8,o9,o10].toArray (Cv K) [o3] A W)
  (hf:SpF r f x s c k a) (hu:SpU r f x g1 k1 g2 k2 g3 k3 B w0 q w) (hq:q<=900000000000) (hs:s<B.svcs.length) (hQ:∀a' w',SpF r f x s c k a'->SpW r f x w0 (q+10) w'->Q .normal a' w'):
  (Code.region id [o0,o1,o2,o3,o4,o5,o6,o7,o8,o9,o10].toArray true).wp Try.prog Q a w:=by
 have h1:=hu.rn;have h2:=hu.nx;have h3:=hu.row.n1;refine Kv ht t 1 6 n parts (by omega) (by omega) hn0 hn hsh hB hwt hb3 ht0 (by rw[hf.sz];exact hts) hf.e0 hf.e5 hf.e6 hu.rd hq hu.vx rfl (by omega) (by omega) hu.row.svcs hs hF ?_;intro a' W w' u hk hp hP hR hr on;exact hQ _ _ (hf.kept hk) ((hu.go hP hR).svc hset hp hF hs hr.out on)
theorem Nj{LT ET F:Nat}{p:Value->Prop}(ht:Tys LT ET 24 35 F 7 p)(hset:Oz F p)(hF:F<7){o0 o1 o2 o3 o4 o5 o6 o7 o8 o9 o10:Oper}(t n:Nat)(parts:Array (Nat × Operand))(hn0:0<n)(hn:n<1000)
  (hsh:[o0,o1,o2,o3,o4,o5,o6,o7,o8,o9,o10].map (λo=>(o.dst,o.op,o.guard))=[(some t,.fieldAddr 27 (.tmp 5) 2,none),(some (t+1),.load 24 (.tmp t),none),(some (t+2),.move (.tmp 7),none),(some (t+3),.buildSlice LT n parts,none),(some (t+4),.move (.tmp 0),none),
   (some (t+5),.call {callee:=.value (.func 21),args:=#[.tmp (t+4),.const (.int .i64 n)],argTypes:=#[52,3]},none),(some (t+6),.indexAddr LT (.tmp (t+3)) (.tmp (t+5)),none),(some (t+7),.load ET (.tmp (t+6)),none),(some (t+8),.indexAddr 24 (.tmp (t+1)) (.tmp (t+2)),none),(some (t+9),.fieldAddr 35 (.tmp (t+8)) F,none),(none,.store ET (.tmp (t+9)) (.tmp (t+7)),none)])
  (hB:Ap [o0,o1,o2,o3,o4,o5,o6,o7,o8,o9,o10].toArray 10=true)
  (hwt:[(1,0),(5,4),(6,3),(6,5),(7,6),(8,1),(8,2),(9,8)].all (λx=>Region.waitsFor .any [o0,o1,o2,o3,o4,o5,o6,o7,o8,o9,o10].toArray x.1 x.2)=true) (ht0:33<=t) (hts:t+9<284)
  {r f x s c g1 k1 g2 k2 g3 k3 id:Nat} {B:Bk} {k q:Int} {a:Act} {w0 w:World} {Q:Exit->Act->World->Prop}
  (hb3:∀(A:Act) (W:World) (K:Act->World->Prop),r<W.heap.size->Hid (∀v W',Below W.heap.size W W'->SlV r n p v W'->K (A.put o3.dst v) W')->wpList Try.prog [o0,o1,o2,o3,o4,o5,o6,o7,o8,o9,o10].toArray (Cv K) [o3] A W)
  (hf:SpF r f x s c k a) (hu:SpU r f x g1 k1 g2 k2 g3 k3 B w0 q w) (hq:q<=900000000000) (hs:c<B.cps.length) (hQ:∀a' w',SpF r f x s c k a'->SpW r f x w0 (q+10) w'->Q .normal a' w'):
  (Code.region id [o0,o1,o2,o3,o4,o5,o6,o7,o8,o9,o10].toArray true).wp Try.prog Q a w:=by
 have h1:=hu.rn;have h2:=hu.nx;have h3:=hu.row.n2;refine Kv ht t 2 7 n parts (by omega) (by omega) hn0 hn hsh hB hwt hb3 ht0 (by rw[hf.sz];exact hts) hf.e0 hf.e5 hf.e7 hu.rd hq hu.vx rfl (by omega) (by omega) hu.row.cps hs hF ?_;intro a' W w' u hk hp hP hR hr on;exact hQ _ _ (hf.kept hk) ((hu.go hP hR).cp hset hp hF hs hr.out on)
end
section
open Go Go.RowKit
section
variable {P:Program} {ops:Array Oper} {Q:Exit->Act->World->Prop}
def EN(ops:Array Oper):Nat->Nat->Nat->Bool
 |0,p,i=>Nat.beq p i
 |f+1,p,i=>Nat.beq p i||(List.range p).any λj=>Region.waitsFor .any ops p j&&EN ops f j i
theorem Gg{n:Nat}{listed:Array Bool}(inv:HeadInv .any ops n listed):∀f p i,EN ops f p i=true->listed.getD p false=true->listed.getD i false=true
 |0,p,i,h,hp=>by rw[<-Nat.eq_of_beq_eq_true h];exact hp
 |f+1,p,i,h,hp=>by
  rcases Bool.or_eq_true_iff.1 h with h|h
  ·rw[<-Nat.eq_of_beq_eq_true h];exact hp
  ·obtain⟨j,_,hj⟩:=List.any_eq_true.1 h
   obtain⟨h1,h2⟩:=Bool.and_eq_true_iff.1 hj;obtain⟨oj,hoj,e,he,hb,hon⟩:=Region.waitsFor_spec h1;refine Gg inv f j i h2 ?_;rw[<-hon];exact inv.closed p oj hoj hp e he hb
def Hz(P:Program)(ops:Array Oper)(a0:Act)(n:Nat)(Inv:Nat->World->Prop)(p:Nat)(Inv0:World->Prop)(R:Nat->World->World->Prop)(S:Nat->Value->World->Prop)(i:Nat)(o:Oper)(T:Value->World->Prop):Prop:=
 ∀(V:Nat->Value) (W:World) (K:Act->World->Prop),(∃m,m<n/\Inv (m+1) W)->(EN ops n p i=true->Inv0 W)->(∀j,Region.waitsFor .any ops i j=true->S j (V j) W)->
  Hid (∀v W',R i W W'->T v W'->K ((Ad ops V n a0).put o.dst v) W')->wpList P ops (Cv K) [o] (Ad ops V n a0) W
theorem IP{n g p:Nat}{S:Nat->Value->World->Prop}{Inv:Nat->World->Prop}{Inv0:World->Prop}{R:Nat->World->World->Prop}{a0:Act}
  (hw:∀listed,HeadInv .any ops n listed->∀i,i<n->listed.getD i true=false->∀t,n<=t->t∉Region.ready .any ops listed)
  (hn:n<=ops.size) (hpn:p<ops.size) (hdB:FX .any ops n=true) (hd:CI ops n=true)
  (hI:∀i m W W',m<n->Inv (m+1) W->R i W W'->Inv m W') (hI0:∀i W W',i≠p->Inv0 W->R i W W'->Inv0 W') (hst:∀j,DR R j (S j))
  (hop:∀i o,i<n->ops[i]?=some o->Hz P ops a0 n Inv p Inv0 R S i o (S i))
  (hlast:∀V W,Inv 0 W->(∀j,j<n->S j (V j) W)->wpAny P .any ops Q g (C9 ops n) (Ad ops V n a0) W):
  ∀(m:Nat) (listed:Array Bool) (V:Nat->Value) (W:World),HeadInv .any ops n listed->Bn n listed=m->Inv m W->(listed.getD p true=false->Inv0 W)->(∀j,j<n->listed.getD j false=true->S j (V j) W)->
   wpAny P .any ops Q (m+g) listed (Ad ops V n a0) W
 |0,listed,V,W,inv,hm,hb,_,hS=>by
  have hall:∀i,i<n->listed.getD i true=true:=by
   intro i hi;have:=List.countP_eq_zero.1 hm i (List.mem_range.2 hi)
   simpa using this
  rw[C3 inv hall,Nat.zero_add];refine hlast V W hb λj hj=>hS j hj ?_
  have:=hall j hj;have hjs:j<listed.size:=by rw[inv.size];omega
  simp[hjs]at this ⊢;exact this
 |m+1,listed,V,W,inv,hm,hb,hb0,hS=>by
  obtain⟨u,hu,hul⟩:∃u,u<n/\listed.getD u true=false:=by
   have:0<Bn n listed:=by omega
   obtain⟨u,hu,hul⟩:=List.countP_pos_iff.1 this;exact⟨u,List.mem_range.1 hu,by simpa using hul⟩
  rw[show m+1+g=(m+g)+1 by omega]
  have hmn:m<n:=by
   have:Bn n listed<=(List.range n).length:=List.countP_le_length;rw[List.length_range]at this;omega
  refine⟨λh0=>absurd h0 (Dj hdB inv u hu hul),λi hi=>?_⟩
  have hin:i<n:=by
   rcases Nat.lt_or_ge i n with h|h
   ·exact h
   ·exact absurd hi (hw listed inv u hu hul i h)
  obtain⟨hun,o,ho,hall⟩:=mem_ready.1 hi
  refine DJ ho (hop i o hin ho V W _ ⟨m,hmn,hb⟩ (λhip=>hb0 (by
   by_cases hps:p<listed.size
   ·refine getD_in hps ?_
    cases hpl:listed.getD p false with
    |false=>rfl
    |true=>
     have h1:=Gg inv n p i hip hpl;rw[getD_both hun]at h1;cases h1
   ·exact absurd (by rw[inv.size];exact hpn) hps)) (λj hj=>?_) λv W' hb' hs'=>?_)
  ·obtain⟨oj,hoj,e,he,hbd,hon⟩:=Region.waitsFor_spec hj
   have:oj=o:=Option.some.inj (hoj.symm.trans ho);subst this;have hl:=hall e he hbd;rw[hon]at hl
   have hlt:j<n:=by
    have h1:=List.all_eq_true.1 hdB i (List.mem_range.2 hin);rw[ho]at h1;have h2:=Array.all_eq_true'.1 h1 e he;rw[hbd]at h2;have h3:e.on<i:=by simpa using h2
    omega
   exact hS j hlt hl
  ·have hdst:o.dst=(ops[i]?).bind (·.dst):=by rw[ho];rfl
   rw[hdst,Dc hd hin];have his:i<listed.size:=by rw[inv.size];exact(AB ho).1
   refine IP hw hn hpn hdB hd hI hI0 hst hop hlast m _ _ W' (inv.set hi hin) (by have:=Dx hin his hun;omega) (hI i m W W' hmn hb hb') (λhp=>?_) λj hj hl=>?_
   ·by_cases hip:i=p
    ·subst hip
     rw[show(listed.setIfInBounds i true).getD i true=true by simp]at hp;cases hp
    ·rw[getD_set_ne true hip]at hp
     exact hI0 i W W' hip (hb0 hp) hb'
   by_cases hji:j=i
   ·subst hji
    simpa [upd] using hs'
   ·rw[getD_set_ne false (Ne.symm hji)]at hl
    have:=hst j i (Ne.symm hji) (V j) W W' (hS j hj hl) hb'
    simpa [upd,hji] using this
theorem If{id:Nat}{a:Act}{w:World}{l:List Oper}(n p:Nat)(Inv:Nat->World->Prop)(Inv0:World->Prop)(R:Nat->World->World->Prop)(S:Nat->Value->World->Prop)(hm:P.follows .mixedOrders=true)(hpn:p<l.toArray.size)(hB:Ap l.toArray n=true)
  (hS0:Inv n {w with drawn:=w.drawn+1}) (hS1:Inv0 {w with drawn:=w.drawn+1}) (hI:∀i m W W',m<n->Inv (m+1) W->R i W W'->Inv m W') (hI0:∀i W W',i≠p->Inv0 W->R i W W'->Inv0 W')
  (hst:∀j,DR R j (S j)) (hop:∀i o,i<n->l.toArray[i]?=some o->Hz P l.toArray a n Inv p Inv0 R S i o (S i))
  (hlast:∀V W,Inv 0 W->(∀j,j<n->S j (V j) W)->wpList P l.toArray Q (l.drop n) (Ad l.toArray V n a) W):(Code.region id l.toArray true).wp P Q a w:=by
 simp only[Ap,Bool.and_eq_true,decide_eq_true_eq]at hB;obtain⟨⟨⟨⟨⟨hn,hs⟩,hc⟩,hdB⟩,hd⟩,hseq⟩:=hB;refine wp_region_any hm ?_
 have inv0:HeadInv .any l.toArray n (Array.replicate l.toArray.size false):=
  ⟨by simp,λj oj _ hl=>(by rw[getD_replicate_false]at hl;cases hl),λt _ ht=>getD_in (by simpa using ht) (getD_replicate_false _ _)⟩
 have hleft:Bn n (Array.replicate l.toArray.size false)=n:=by
  unfold Bn;rw[List.countP_eq_length.2]
  ·simp
  ·intro i hi
   have:i<l.toArray.size:=by have:=List.mem_range.1 hi;omega
   rw[getD_in (by simpa using this) (getD_replicate_false _ _)];rfl
 have H:=IP (P:=P) (Q:=Q) (g:=l.toArray.size - n) (S:=S) (Inv:=Inv) (Inv0:=Inv0) (p:=p) (R:=R) (a0:=a) (λlisted inv i hi hu t ht=>tail_waits hs hc hn inv _ i rfl hi hu t ht) (by omega) hpn hdB hd hI hI0 hst hop
  (λV W hb hS=>by
   have hdl:(l.drop n).length=l.toArray.size - n:=by simp
   have:=wpAny_of_seq (md:=.any) (Q':=Q) (l.drop n) n (C9 l.toArray n) _ W (λj=>by simp[List.getElem?_drop]) (by rw[hdl];exact hseq) (hlast V W hb hS)
   rwa [hdl]at this)
  n _ (λj=>match (l.toArray[j]?).bind (·.dst) with|some d=>a.tmps.getD d undef|none=>undef) {w with drawn:=w.drawn+1} inv0 hleft hS0 (λ_=>hS1) (λj _ hl=>by rw[getD_replicate_false]at hl;cases hl)
 have e:Ad l.toArray (λj=>match (l.toArray[j]?).bind (·.dst) with|some d=>a.tmps.getD d undef|none=>undef) n a=a:=DF a n;rw[e,show n+(l.toArray.size - n)=l.toArray.size by omega]at H;exact H
def FW(P:Program)(ops:Array Oper)(a0:Act)(n:Nat)(Inv:Nat->World->Prop)(p:Nat)(Inv0:World->Prop)(R:Nat->World->World->Prop)(L:(Nat->Value->World->Prop)->Prop):List Oper->Nat->(Nat->Value->World->Prop)->Prop
 |[],_,S=>L S
 |o::rest,i,S=>∃T,DR R i T/\Hz P ops a0 n Inv p Inv0 R S i o T/\FW P ops a0 n Inv p Inv0 R L rest (i+1) (Fb S i T)
theorem Ae{a0:Act}{n p:Nat}{Inv:Nat->World->Prop}{Inv0:World->Prop}{R:Nat->World->World->Prop}{L:(Nat->Value->World->Prop)->Prop}{o:Oper}{rest:List Oper}{i:Nat}{S:Nat->Value->World->Prop}(T:Value->World->Prop)(hT:DR R i T)
  (h:∀(V:Nat->Value) (W:World) (K:Act->World->Prop) (A:Act),(∃m,m<n/\Inv (m+1) W)->(EN ops n p i=true->Inv0 W)->(∀j,Region.waitsFor .any ops i j=true->S j (V j) W)->Hid (A=Ad ops V n a0)->
   Hid (∀v W',R i W W'->T v W'->K (A.put o.dst v) W')->wpList P ops (Cv K) [o] A W)
  (hr:FW P ops a0 n Inv p Inv0 R L rest (i+1) (Fb S i T)):FW P ops a0 n Inv p Inv0 R L (o::rest) i S:=⟨T,hT,λV W K hb hz hd hK=>h V W K _ hb hz hd rfl hK,hr⟩
theorem Gl{a0:Act}{n p:Nat}{Inv:Nat->World->Prop}{Inv0:World->Prop}{R:Nat->World->World->Prop}{L:(Nat->Value->World->Prop)->Prop}(hdB:FX .any ops n=true):∀(l:List Oper) (k:Nat) (S:Nat->Value->World->Prop),k+l.length=n->(∀j,j<l.length->l[j]?=ops[k+j]?)->
  (∀j,DR R j (S j))->(∀i o,i<k->ops[i]?=some o->Hz P ops a0 n Inv p Inv0 R S i o (S i))->FW P ops a0 n Inv p Inv0 R L l k S->
  ∃S',(∀j,DR R j (S' j))/\(∀i o,i<n->ops[i]?=some o->Hz P ops a0 n Inv p Inv0 R S' i o (S' i))/\L S'
 |[],k,S,hk,_,hl,hop,h=>⟨S,hl,by rw[show n=k by simpa using hk.symm];rw[show n=k by simpa using hk.symm]at hop;exact hop,h⟩
 |o::l,k,S,hk,hs,hl,hop,⟨T,hT,ho,h⟩=>by
  have h0:ops[k]?=some o:=by simpa using (hs 0 (by simp)).symm
  have dep:∀i j,i<n->Region.waitsFor .any ops i j=true->j<i:=λi j hi hj=>by
   obtain⟨oj,hoj,e,he,hbd,hon⟩:=Region.waitsFor_spec hj;have h1:=List.all_eq_true.1 hdB i (List.mem_range.2 hi);rw[hoj]at h1;have h2:=Array.all_eq_true'.1 h1 e he;rw[hbd]at h2;have h3:e.on<i:=by simpa using h2
   omega
  have hkn:k<n:=by simp only[List.length_cons]at hk;omega
  refine Gl hdB l (k+1) _ (by simp only[List.length_cons]at hk;omega) (λj hj=>by have:=hs (j+1) (by simp;omega);simpa [Nat.add_assoc,Nat.add_comm 1 j] using this) (λj=>?_) (λi o' hi hi'=>?_) h
  ·by_cases e:j=k
   ·subst e;rw[Ch];exact hT
   ·rw[B8 _ _ e];exact hl j
  ·by_cases e:i=k
   ·subst e
    have:o'=o:=Option.some.inj (hi'.symm.trans h0);subst this;rw[Ch];exact λV W K hb hz hd hK=>ho V W K hb hz (λj hj=>by have:=hd j hj;rwa [B8 _ _ (by have:=dep i j hkn hj;omega)]at this) hK
   ·rw[B8 _ _ e]
    exact λV W K hb hz hd hK=>hop i o' (by omega) hi' V W K hb hz (λj hj=>by have:=hd j hj;rwa [B8 _ _ (by have:=dep i j (by omega) hj;omega)]at this) hK
theorem DS{id:Nat}{a:Act}{w:World}{l:List Oper}(n p:Nat)(Inv:Nat->World->Prop)(Inv0:World->Prop)(R:Nat->World->World->Prop)(hm:P.follows .mixedOrders=true)(hpn:p<l.toArray.size)(hB:Ap l.toArray n=true)
  (hS:∀W,Below w.heap.size w W->Inv n W/\Inv0 W) (hI:∀i m W W',m<n->Inv (m+1) W->R i W W'->Inv m W') (hI0:∀i W W',i≠p->Inv0 W->R i W W'->Inv0 W')
  (h:FW P l.toArray a n Inv p Inv0 R (λS=>∀V W A,Inv 0 W->(∀j,j<n->S j (V j) W)->Hid (A=Ad l.toArray V n a)->wpList P l.toArray Q (l.drop n) A W) (l.take n) 0 λ_ _ _=>True):(Code.region id l.toArray true).wp P Q a w:=by
 have hB':=hB;simp only[Ap,Bool.and_eq_true,decide_eq_true_eq]at hB';obtain⟨⟨⟨⟨⟨hn,_⟩,_⟩,hdB⟩,_⟩,_⟩:=hB';have hn':n<l.length:=by simpa using hn
 obtain⟨S,h1,h2,h3⟩:=Gl hdB (l.take n) 0 _ (by simp;omega) (λj hj=>by
  have:j<n:=by simp at hj;omega
  simp[this]) (λ_ _ _ _ _ _ _ _=>trivial) (λi o hi=>absurd hi (by omega)) h
 have h0:=hS {w with drawn:=w.drawn+1} ⟨rfl,rfl,rfl,AG _,λ_ _=>rfl⟩;exact If n p Inv Inv0 R S hm hpn hB h0.1 h0.2 hI hI0 h1 h2 λV W hb hS=>h3 V W _ hb hS rfl
end
end
end Go.Proofs.Ytbceafpodamnfaa
