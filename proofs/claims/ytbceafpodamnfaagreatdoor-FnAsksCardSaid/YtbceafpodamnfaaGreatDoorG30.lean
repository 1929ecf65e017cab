import Derived.Test.YtbceafpodamnfaaGreatDoorG22
import Derived.Test.YtbceafpodamnfaaGreatDoorG26
import Derived.Test.YtbceafpodamnfaaGreatDoorG27
set_option linter.all false
set_option maxHeartbeats 4000000
set_option maxRecDepth 100000
namespace Go.Proofs.YtbceafpodamnfaaGreatDoor
section
open Go.RowKit Go.Sort
open Go.Value renaming int->In,slice->Sl,string->Sg,bool->Bo,pointer->Po
open Go.IntKind renaming i64->i6
def D7(l:List En):List Value:=l.flatMap En.cells
theorem ensV_add(l:List En)(x:En):D7 (l++[x])=D7 l++x.cells:=by simp[D7]
theorem UZ:∀(l:List En) (j:Nat) (x:En),l[j]?=some x->(D7 l)[j*2]?=some (In i6 x.ak)/\(D7 l)[j*2+1]?=some (In i6 x.aN)
 |[],_,_,h=>by simp at h
 |y::l,0,x,h=>by simp at h;subst h;exact⟨rfl,rfl⟩
 |y::l,j+1,x,h=>by
  have:=UZ l j x (by simpa using h);have e:D7 (y::l)=In i6 y.ak:: In i6 y.aN::D7 l:=rfl;rw[e,show(j+1)*2=j*2+1+1 by omega,show j*2+1+1+1=(j*2+1)+1+1 by omega]
  simpa using this
theorem Vd(w:World)(A B C D:Obj):((((w.alloc A).alloc B).alloc C).alloc D).heap[w.heap.size]?=some A/\((((w.alloc A).alloc B).alloc C).alloc D).heap[w.heap.size+1]?=some B/\((((w.alloc A).alloc B).alloc C).alloc D).heap[w.heap.size+1+1]?=some C/\((((w.alloc A).alloc B).alloc C).alloc D).heap[w.heap.size+1+1+1]?=some D/\((((w.alloc A).alloc B).alloc C).alloc D).heap.size=w.heap.size+1+1+1+1:=by
 have e:((((w.alloc A).alloc B).alloc C).alloc D).heap=(((w.heap.push A).push B).push C).push D:=rfl;rw[e];refine⟨?_,?_,?_,?_,qs⟩
 ·rw[dw,dk (by simp<;>omega),dw,dk (by simp<;>omega),dw,dk (by simp<;>omega),dw,dv rfl]
 ·rw[dw,dk (by simp<;>omega),dw,dk (by simp<;>omega),dw,dv (by simp<;>omega)]
 ·rw[dw,dk qs,dw,dv qs]
 ·rw[dw,dv qs]
theorem QA:(Tryz.prog.info? 45).map (·.size)=some 8:=qk
theorem PQ(A:Ac)(z:qO)(ce:Nat):((qaV A z ce):Array Value).all (·.oneCell')=true:=by simp[Value.oneCell']
theorem LW:(Tryz.prog.info? 45).map (λi=>(i.zero,i.size,i.bytes))=some (some (.agg qzA),8,88):=qk
section
variable {P:Program}
theorem Dx{ops:Array Oper}{rest:List Oper}{o:Oper}{a:Act}{w:World}{Q:Exit->Act->World->Prop}(ag:o.guard=none)(s x:Operand)(t:TypeId)
  (ho:o.op=.call {callee:=.builtin .append,args:=#[s,x],argTypes:=#[t,t]})
  (base:Nat) (e:TypeId) (z:Value) (size bytes:Nat) (ht:P.underlying t=some (.slice e)) (W:(P.info? e).map (λi=>(i.zero,i.size,i.bytes))=some (some z,size,bytes)) (ak:z.cells.size=size) (aj:0<size)
  (v:Value) (n:Nat) (xs:qL) (hs:a.eval s=v) (M:w.ownsRow base e size v n xs)
  (ad:Addr) (c:Nat) (F:qL) (hx:a.eval x=.slice (some ad) 1 c) (hl:F.length=1*size) (Y:∀j u,F[j]?=some u->w.cell? (ad.add j)=some u) (h1:∀u∈F,u.oneCell'=true)
  (aa:n+1<=maxLen) (J:(n+1)*bytes<=140737488355328) (O:base<=w.heap.size)
  (h:∀g cap w',base<=g->Hid (w'.ownsRow base e size (.slice (qad g) (n+1) cap) (n+1) (xs++F))->Below base w w'->wpList P ops Q rest (a.put o.dst (.slice (qad g) (n+1) cap)) w'):wpList P ops Q (o::rest) a w:=by
 obtain⟨i,hi,hz,ah,hb⟩:=gk W;refine gX w ag s x t ho base e i z size bytes ht hi hz ah hb ak aj v n xs hs M ad 1 c F hx hl Y h1 aa J O λv' w' Z H _=>?_
 have ae:Below base w w':=⟨H.os,H.tape,H.output,H.size,λk hk=>H.block k qo (λe'=>by have:=(M.lt k e'.symm).1;omega)⟩;rcases Z.2 with⟨_,h0⟩|⟨g,cap,al,rfl,af,_⟩
 ·omega
 ·exact h g cap w' af Z ae
end
theorem Gu{f:Nat}(hf:NN Tryz.prog f=true)(args:Array Value)(W:World):(callFunc f args).run Tryz.prog W=.ok (.enter f args) W:=by
 unfold NN at hf;split at hf
 ·rename_i fn F
  simp only[di,fw,fg]at hf;obtain⟨hb,H⟩:=hf;simp[callFunc,F,H,go_sem];intro z;rw[z]at hb;cases hb
 ·cases hf
theorem Fq:(Tryz.prog.info? 214).map (λi=>(i.zero,i.size,i.bytes))=some (some (.agg qzN),9,80):=qk
theorem LE(s:Svc)(N:Cnt)(dr:Int)(aS:qO)(nS cS:Nat)(x:Sn)(w:World)(Y:0<=N.ready)(Z:N.ready<=1048576)(z:DR s):
  Calls Tryz.prog 243 #[.agg (qhV s N dr aS nS cS),.agg (qnV x)] w λe w'=>e=.returned (.bool (Em s x.c N.ready))/\Below w.heap.size w w':=by
 obtain⟨W0,M,t0,t1,au,al,J⟩:=DH w (.cells (qhV s N dr aS nS cS) 145) (.cells (qnV x) 214);have F:Hid _:=t0;have H:Hid _:=t1;clear t0 t1;have HM:Hid (∀W:World,Calls Tryz.prog 248 #[.agg (qsV s),.agg (qcV x.c),In i6 N.ready] W λe w'=>e=.returned (.bool (Em s x.c N.ready))/\Below W.heap.size W w'):=λW=>Mq s x.c N.ready W Y Z z.ba z.bd z.cn z.cu
 go_enter Tryz.func243,Tryz.ntmps243
 go_upto_region 1 with fail
 clear M;obtain⟨z0,z1,z2,z3,z4,z5,z6,z7⟩:=qc8 F.ab;have z8:=AJ F.ab 8;have z9:=AJ F.ab 9;have aa:=AJ F.ab 10;have ae:=AJ F.ab 11;have af:=AJ F.ab 12;have ag:=AJ F.ab 13;have ah:=AJ F.ab 14;have x0:=AJ H.ab 0;have x1:=AJ H.ab 1;have x2:=AJ H.ab 2;have x3:=AJ H.ab 3;have x4:=AJ H.ab 4;have x5:=AJ H.ab 5;have x6:=AJ H.ab 6
 go_wp2_with fail
 refine(HM.ab _).mono ?_;rintro e w1 ⟨rfl,O⟩;clear z0 z1 z2 z3 z4 z5 z6 z7 z8 z9 aa ae af ag ah x0 x1 x2 x3 x4 x5 x6;go_wp2;go_ret;exact⟨rfl,J.trans (O.mono J.size)⟩
theorem Oa(f:Nat)(p:Sn->Bool)(hf:∀(args:Array Value) (W:World),(callFunc f args).run Tryz.prog W=.ok (.enter f args) W)(HC:Hid (∀(x:Sn) (W:World),Calls Tryz.prog f #[.agg (qnV x)] W λe w'=>e=.returned (.bool (p x))/\Below W.heap.size W w'))(l:List Sn)(lo:Nat)(al:qO)(cl:Nat)(w:World)(hl:l.length<=1048576)(hL:OwnSn lo w al cl l):
  Calls Tryz.prog 176 #[Sl al l.length cl,.func (.func f) #[] #[]] w λe w'=>∃ao co,e=.returned (.slice ao (l.filter p).length co)/\OwnSn w.heap.size w' ao co (l.filter p)/\Below w.heap.size w w':=by
 have HL:Hid (OwnSn lo w al cl l):=hL;clear hL;go_enter Tryz.func176,Tryz.ntmps176;go_wp2
 go_loopw [5,10] (λov iv wr=>∃(k m:Nat) (ao:qO) (co:Nat),k<=l.length/\iv=In i6 k/\ov=.slice ao m co/\m<=k/\Hid (m=((l.take k).filter p).length)/\Below w.heap.size w wr/\Hid (wr.ownsRow w.heap.size 214 9 (Sl ao m co) m (JC ((l.take k).filter p)))) (λ_ i _=>l.length - (intOf i).toNat)
 case atStart=>exact⟨0,0,none,0,qo,rfl,rfl,AG,rfl,dG _ _,World.ownsRow_nil _ _ _ _⟩
 case round=>
  obtain⟨k,m,ao,co,hk,rfl,rfl,aG,HM,hb,F⟩:=hrel;have hz:=hb.size
  by_cases ak:k<l.length
  ·obtain⟨x,hx⟩:∃x,l[k]?=some x:=⟨l[k],by simp[ak]⟩
   have HX:Hid ((l.take (k+1)).filter p=(l.take k).filter p++(if p x then [x] else [])):=by
    unfold Hid;rw[ec,hx,ez];cases hp:p x<;>simp[List.filter,hp]
   obtain⟨g,rfl,_,aj,aa⟩:=HL.ab.at hx;have O:=aa.below hb aj;unfold SnAt at O;obtain⟨c0,c1,c2,c3,c4,c5,c6,c7,c8⟩:=O;obtain⟨px,J,af⟩:∃pb:Bool,Hid ((l.take (k+1)).filter p=(l.take k).filter p++(if pb then [x] else []))/\Hid (∀W:World,Calls Tryz.prog f #[.agg (qnV x)] W λe w'=>e=.returned (.bool pb)/\Below W.heap.size W w'):=⟨_,HX,λW=>HC.ab x W⟩;clear HX hx aa
   go_wp2_with fail
   refine(af.ab _).mono ?_;rintro e w1 ⟨rfl,M⟩;have H:Hid _:=Ai (Ai F.ab (AN wr (.cells (qnV x) 214)) AG) M AG;have T1:Hid _:=AK M (dm wr (.cells (qnV x) 214)) qs;have z:=hb.trans (((AN wr (.cells (qnV x) 214)).trans (M.mono qs)).mono hz);have am:=z.size;clear F M c0 c1 c2 c3 c4 c5 c6 c7 c8;cases px
   ·go_wp2
    go_roundw
    case rel=>exact⟨k+1,m,ao,co,qo,qn,rfl,qo,by unfold Hid;rw[J.ab,HM.ab];simp,z,by unfold Hid;rw[J.ab];simp only[fI,gW,fU];exact H.ab⟩
    case measure=>simp[intOf];omega
   ·go_wp2_with (first
     |(refine dB rfl 214 (.tmp 18) rfl wr.heap.size rfl 214 (qnV x) (0,0) _ T1.ab Tryz.underlying214 rfl Bg ?_)
     |(refine dB rfl 214 (.tmp 7) rfl wr.heap.size rfl 214 (qnV x) (0,0) _ T1.ab Tryz.underlying214 rfl Bg ?_)
     |(at_builtin;refine Dx rfl (.tmp 17) (.tmp 19) 143 rfl w.heap.size 214 _ 9 80 Tryz.underlying143 Fq rfl qo (Sl ao m co) m _ rfl (Ai H.ab (AN w1 _) AG) ⟨w1.heap.size,0,none⟩ 1 ((qnV x):Array Value).toList rfl rfl (DI (dm w1 _)) (λu hu=>(eL.1 (one_Sn x)) u (by simpa using hu)) qm qo qp ?_;intro g' aw w2 aF Y ah))
    have ae:=z.trans (((AN w1 (.cells (qnV x) 214)).mono am).trans ah);go_wp2
    go_roundw
    case rel=>exact⟨k+1,m+1,_,_,qo,qn,rfl,qo,by unfold Hid;rw[J.ab,HM.ab];simp,ae,by unfold Hid;rw[J.ab];simp only[gu,Je];exact Y.ab⟩
    case measure=>simp[intOf];omega
  ·obtain rfl:k=l.length:=qo
   have HE:Hid ((l.take l.length).filter p=l.filter p):=by unfold Hid;rw[eC]
   have Z:Hid (m=(l.filter p).length):=by unfold Hid;rw[HM.ab,HE.ab]
   go_wp2;go_ret;refine⟨ao,co,ei (λq=>Ending.returned (Sl ao q co)) Z.ab,?_,hb⟩;unfold OwnSn;rw[<-Z.ab,<-HE.ab];exact F.ab
theorem VT(f:Nat)(c:Value)(p:Sn->Bool)(hf:∀(args:Array Value) (W:World),(callFunc f args).run Tryz.prog W=.ok (.enter f args) W)(HC:Hid (∀(x:Sn) (W:World),Calls Tryz.prog f #[c,.agg (qnV x)] W λe w'=>e=.returned (.bool (p x))/\Below W.heap.size W w'))(l:List Sn)(lo:Nat)(al:qO)(cl:Nat)(w:World)(hl:l.length<=1048576)(hL:OwnSn lo w al cl l):
  Calls Tryz.prog 176 #[Sl al l.length cl,.func (.func f) #[c] #[]] w λe w'=>∃ao co,e=.returned (.slice ao (l.filter p).length co)/\OwnSn w.heap.size w' ao co (l.filter p)/\Below w.heap.size w w':=by
 have HL:Hid (OwnSn lo w al cl l):=hL;clear hL;go_enter Tryz.func176,Tryz.ntmps176;go_wp2
 go_loopw [5,10] (λov iv wr=>∃(k m:Nat) (ao:qO) (co:Nat),k<=l.length/\iv=In i6 k/\ov=.slice ao m co/\m<=k/\Hid (m=((l.take k).filter p).length)/\Below w.heap.size w wr/\Hid (wr.ownsRow w.heap.size 214 9 (Sl ao m co) m (JC ((l.take k).filter p)))) (λ_ i _=>l.length - (intOf i).toNat)
 case atStart=>exact⟨0,0,none,0,qo,rfl,rfl,AG,rfl,dG _ _,World.ownsRow_nil _ _ _ _⟩
 case round=>
  obtain⟨k,m,ao,co,hk,rfl,rfl,aG,HM,hb,F⟩:=hrel;have hz:=hb.size
  by_cases ak:k<l.length
  ·obtain⟨x,hx⟩:∃x,l[k]?=some x:=⟨l[k],by simp[ak]⟩
   have HX:Hid ((l.take (k+1)).filter p=(l.take k).filter p++(if p x then [x] else [])):=by
    unfold Hid;rw[ec,hx,ez];cases hp:p x<;>simp[List.filter,hp]
   obtain⟨g,rfl,_,aj,aa⟩:=HL.ab.at hx;have O:=aa.below hb aj;unfold SnAt at O;obtain⟨c0,c1,c2,c3,c4,c5,c6,c7,c8⟩:=O;obtain⟨px,J,af⟩:∃pb:Bool,Hid ((l.take (k+1)).filter p=(l.take k).filter p++(if pb then [x] else []))/\Hid (∀W:World,Calls Tryz.prog f #[c,.agg (qnV x)] W λe w'=>e=.returned (.bool pb)/\Below W.heap.size W w'):=⟨_,HX,λW=>HC.ab x W⟩;clear HX hx aa
   go_wp2_with fail
   refine(af.ab _).mono ?_;rintro e w1 ⟨rfl,M⟩;have H:Hid _:=Ai (Ai F.ab (AN wr (.cells (qnV x) 214)) AG) M AG;have T1:Hid _:=AK M (dm wr (.cells (qnV x) 214)) qs;have z:=hb.trans (((AN wr (.cells (qnV x) 214)).trans (M.mono qs)).mono hz);have am:=z.size;clear F M c0 c1 c2 c3 c4 c5 c6 c7 c8;cases px
   ·go_wp2
    go_roundw
    case rel=>exact⟨k+1,m,ao,co,qo,qn,rfl,qo,by unfold Hid;rw[J.ab,HM.ab];simp,z,by unfold Hid;rw[J.ab];simp only[fI,gW,fU];exact H.ab⟩
    case measure=>simp[intOf];omega
   ·go_wp2_with (first
     |(refine dB rfl 214 (.tmp 18) rfl wr.heap.size rfl 214 (qnV x) (0,0) _ T1.ab Tryz.underlying214 rfl Bg ?_)
     |(refine dB rfl 214 (.tmp 7) rfl wr.heap.size rfl 214 (qnV x) (0,0) _ T1.ab Tryz.underlying214 rfl Bg ?_)
     |(at_builtin;refine Dx rfl (.tmp 17) (.tmp 19) 143 rfl w.heap.size 214 _ 9 80 Tryz.underlying143 Fq rfl qo (Sl ao m co) m _ rfl (Ai H.ab (AN w1 _) AG) ⟨w1.heap.size,0,none⟩ 1 ((qnV x):Array Value).toList rfl rfl (DI (dm w1 _)) (λu hu=>(eL.1 (one_Sn x)) u (by simpa using hu)) qm qo qp ?_;intro g' aw w2 aF Y ah))
    have ae:=z.trans (((AN w1 (.cells (qnV x) 214)).mono am).trans ah);go_wp2
    go_roundw
    case rel=>exact⟨k+1,m+1,_,_,qo,qn,rfl,qo,by unfold Hid;rw[J.ab,HM.ab];simp,ae,by unfold Hid;rw[J.ab];simp only[gu,Je];exact Y.ab⟩
    case measure=>simp[intOf];omega
  ·obtain rfl:k=l.length:=qo
   have HE:Hid ((l.take l.length).filter p=l.filter p):=by unfold Hid;rw[eC]
   have Z:Hid (m=(l.filter p).length):=by unfold Hid;rw[HM.ab,HE.ab]
   go_wp2;go_ret;refine⟨ao,co,ei (λq=>Ending.returned (Sl ao q co)) Z.ab,?_,hb⟩;unfold OwnSn;rw[<-Z.ab,<-HE.ab];exact F.ab
end
end Go.Proofs.YtbceafpodamnfaaGreatDoor
