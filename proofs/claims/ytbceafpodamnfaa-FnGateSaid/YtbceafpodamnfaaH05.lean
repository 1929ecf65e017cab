import Derived.Test.YtbceafpodamnfaaH03
import Derived.Test.YtbceafpodamnfaaH04
import Derived.StillTail
import Derived.Below
set_option linter.all false
set_option maxHeartbeats 8000000
set_option maxRecDepth 100000
namespace Go.Proofs.Ytbceafpodamnfaa
attribute [local simp] svV cpV zbV czV aaV ctZ ad bkV ctV
attribute [local go_sem] svV cpV zbV czV aaV ctZ ad bkV ctV
section
open Go.RowKit Go.Sort
theorem EG(B:Bk)(sv:ByteArray)(a1 a2 a3:Option Addr)(c1 c2 c3:Nat)(w:World)(hS:B.small)(hB:BkAt w a1 a2 a3 B)(N:Cnt)(hN:Hid (N=D6 B sv)):
  Calls Try.prog 28 #[.agg (bkV B a1 c1 a2 c2 a3 c3),.string sv] w λe w'=>e=.returned (.agg (ctV N))/\Below w.heap.size w w':=by
 cases hf:Bz B sv with
 |none=>
  have e:N=Cnt.none:=by rw[hN.out];unfold D6;rw[hf]
  subst e;exact Lb B sv a1 a2 a3 c1 c2 c3 w hS hB hf
 |some s=>exact La B sv s a1 a2 a3 c1 c2 c3 w hS hB hf N (by unfold Hid;rw[hN.out];unfold D6;rw[hf])
theorem Fx(a b c d e:Int)(w:World):(Instr.field 32 (.agg #[.int .i64 a,.int .i64 b,.int .i64 c,.int .i64 d,.int .i64 e]) 1).run Try.prog w=.ok (.int .i64 b) w:=by
 kernel_rfl
theorem FT(a b c d e:Int)(w:World):(Instr.field 32 (.agg #[.int .i64 a,.int .i64 b,.int .i64 c,.int .i64 d,.int .i64 e]) 0).run Try.prog w=.ok (.int .i64 a) w:=by
 kernel_rfl
end
section
open Go Go.RowKit
section
variable {P:Program} {ops:Array Oper} {md:Region.Mode} {Q:Exit->Act->World->Prop}
def Ad(ops:Array Oper)(V:Nat->Value):Nat->Act->Act
 |0,a=>a
 |n+1,a=>(Ad ops V n a).put ((ops[n]?).bind (·.dst)) (V n)
def upd(V:Nat->Value)(i:Nat)(v:Value):Nat->Value:=λj=>if j=i then v else V j
theorem put_put(a:Act)(d:Option Tmp)(u v:Value):(a.put d u).put d v=a.put d v:=by
 cases d<;>simp[Act.put]
theorem JT(V:Nat->Value)(i:Nat)(v:Value)(a:Act):∀n,n<=i->Ad ops (upd V i v) n a=Ad ops V n a
 |0,_=>rfl
 |n+1,h=>by
  have e:upd V i v n=V n:=by simp[upd];omega
  simp only[Ad,e,JT V i v a n (by omega)]
def CI(ops:Array Oper)(n:Nat):Bool:=
 (List.range n).all λj=>(List.range j).all λi=>match (ops[i]?).bind (·.dst) with
  |some d=>(ops[j]?).bind (·.dst)!=some d
  |none=>true
theorem IW{n:Nat}(h:CI ops n=true){i j:Nat}(hij:i<j)(hj:j<n):∀d,(ops[i]?).bind (·.dst)=some d->(ops[j]?).bind (·.dst)≠some d:=by
 intro d hd;have h1:=List.all_eq_true.1 (List.all_eq_true.1 h j (List.mem_range.2 hj)) i (List.mem_range.2 hij);rw[hd]at h1
 simpa using h1
theorem Dc{V:Nat->Value}{i:Nat}{v:Value}{a:Act}:∀{n:Nat},CI ops n=true->i<n->(Ad ops V n a).put ((ops[i]?).bind (·.dst)) v=Ad ops (upd V i v) n a
 |0,_,h=>absurd h (by omega)
 |n+1,ho,h=>by
  have ho':CI ops n=true:=by
   unfold CI at ho ⊢;refine List.all_eq_true.2 λj hj=>List.all_eq_true.1 ho j (List.mem_range.2 (by have:=List.mem_range.1 hj;omega))
  by_cases hi:i=n
  ·subst hi
   simp only[Ad,put_put,JT V i v a i (AG _)];simp[upd]
  ·have e:upd V i v n=V n:=by simp[upd];omega
   simp only[Ad,e];rw[<-Dc (V:=V) (i:=i) (v:=v) (a:=a) ho' (by omega)];exact(Act.put_comm _ _ _ (IW ho (by omega) (by omega))).symm
theorem DF(a:Act)(n:Nat):Ad ops (λj=>match (ops[j]?).bind (·.dst) with|some d=>a.tmps.getD d undef|none=>undef) n a=a:=by
 induction n with
 |zero=>rfl
 |succ n ih=>
  simp only[Ad,ih]
  cases (ops[n]?).bind (·.dst) with
  |none=>rfl
  |some d=>
   simp only[Act.put]
   congr 1
   apply Array.ext
   ·simp
   ·intro i h1 h2
    by_cases hid:d=i
    ·subst hid;simp[h2]
    ·rw[Array.getElem_setIfInBounds_ne (h:=hid)]
def Bn(n:Nat)(listed:Array Bool):Nat:=(List.range n).countP λi=>!listed.getD i true
theorem Jq(p:Nat->Bool)(i:Nat)(hp:p i=true):∀l:List Nat,l.Nodup->i∈l->l.countP p=l.countP (λj=>p j&&j !=i)+1
 |[],_,h=>by cases h
 |x::l,hn,h=>by
  rw[List.nodup_cons]at hn
  by_cases hx:x=i
  ·subst hx
   have:l.countP (λj=>p j&&j !=x)=l.countP p:=by
    refine List.countP_congr λj hj=>?_
    have:j≠x:=λe=>hn.1 (e▸hj)
    simp[this]
   rw[List.countP_cons,List.countP_cons,this];simp[hp]
  ·have hm:i∈l:=by rcases List.mem_cons.1 h with h|h;exact absurd h.symm hx;exact h
   have ih:=Jq p i hp l hn.2 hm;rw[List.countP_cons,List.countP_cons,ih];have:(x !=i)=true:=by simpa using hx
   rw[this,Bool.and_true];omega
theorem Dx{n i:Nat}{listed:Array Bool}(hi:i<n)(hs:i<listed.size)(hu:listed.getD i true=false):Bn n listed=Bn n (listed.setIfInBounds i true)+1:=by
 unfold Bn;rw[Jq _ i (by simp only[hu];rfl) _ List.nodup_range (List.mem_range.2 hi)]
 congr 1
 refine List.countP_congr λj hj=>?_
 by_cases hji:j=i
 ·subst hji
  have:(listed.setIfInBounds j true).getD j true=true:=by simp[hs]
  simp
 ·rw[getD_set_ne true (Ne.symm hji)]
  simp[hji]
def FX(md:Region.Mode)(ops:Array Oper)(n:Nat):Bool:=
 (List.range n).all λi=>match ops[i]? with
  |some o=>o.after.all λe=>!Region.binds md e||decide (e.on<i)
  |none=>false
def C9(ops:Array Oper)(n:Nat):Array Bool:=Array.ofFn (n:=ops.size) λi=>decide (i.val<n)
theorem C3{n:Nat}{listed:Array Bool}(inv:HeadInv md ops n listed)(hall:∀i,i<n->listed.getD i true=true):listed=C9 ops n:=by
 apply Array.ext
 ·simp[C9,inv.size]
 ·intro i h1 h2
  simp only[C9,Array.getElem_ofFn]
  by_cases hi:i<n
  ·have:=hall i hi
   simp[h1]at this;simp[this,hi]
  ·have:=inv.tail i (by omega) (by rw[<-inv.size];exact h1)
   simp[h1]at this;simp[this,hi]
theorem Dj{n:Nat}{listed:Array Bool}(hdB:FX md ops n=true)(inv:HeadInv md ops n listed):∀(i:Nat),i<n->listed.getD i true=false->Region.ready md ops listed≠[]:=by
 intro i
 induction i using Nat.strongRecOn with
 |_ i ih=>
  intro hi hu;have h1:=List.all_eq_true.1 hdB i (List.mem_range.2 hi)
  cases ho:ops[i]? with
  |none=>rw[ho]at h1;cases h1
  |some o=>
   rw[ho]at h1
   by_cases hall:∀e∈o.after,Region.binds md e=true->listed.getD e.on false=true
   ·have:i∈Region.ready md ops listed:=mem_ready.2 ⟨hu,o,ho,hall⟩
    intro h;rw[h]at this;cases this
   ·simp only[Classical.not_forall]at hall
    obtain⟨e,he,hb,hl⟩:=hall;have h2:=Array.all_eq_true'.1 h1 e he;rw[hb]at h2;have h3:e.on<i:=by simpa using h2
    refine ih e.on h3 (by omega) ?_
    have hsz:e.on<listed.size:=by
     have:=(AB ho).1;rw[inv.size];omega
    exact getD_in hsz (by simpa using hl)
def Cv(K:Act->World->Prop):Exit->Act->World->Prop
 | .normal,a,w=>K a w
 |_,_,_=>False
theorem Oper.wp_only{o:Oper}{a:Act}{w:World}{L K:Act->World->Prop}(hh:o.wp P a w L (Cv K)):o.wp P a w L Q:=by
 unfold Oper.wp at *;generalize (execOp a.eval o).run P w=r at *
 cases r with
 |ok n w'=>
  cases n<;>simp only[Oper.upon]at hh ⊢<;>
   first
    |exact hh
    |exact Calls.mono hh (λe w'' he=>by cases e<;>first|exact he|exact False.elim he|exact(let ⟨_,_,h⟩:=he;False.elim h))
 |halt x w'=>cases x<;>simp only[Oper.upon]at hh ⊢<;>first|exact hh|exact False.elim hh
theorem DJ{i:Nat}{o:Oper}{a:Act}{W:World}{K:Act->World->Prop}(hi:ops[i]?=some o)(h:wpList P ops (Cv K) [o] a W):wpOp P ops Q i K a W:=by
 unfold wpOp;simp only[hi];simp only[wpList]at h;split at h
 ·rename_i hw
  rw[if_pos hw];rcases h with h|⟨_,_,_,h2⟩
  ·exact .inl (Oper.wp_only (Go.Oper.wp_mono (λ_ _ h=>h) h))
  ·exact False.elim h2
 ·rename_i hw
  rw[if_neg hw];exact h
def KI(P:Program)(ops:Array Oper)(a0:Act)(n:Nat)(w0:World)(S:Nat->Value->World->Prop)(i:Nat)(o:Oper)(T:Value->World->Prop):Prop:=
 ∀(V:Nat->Value) (W:World) (K:Act->World->Prop),Below w0.heap.size w0 W->(∀j,Region.waitsFor .any ops i j=true->S j (V j) W)->
  Hid (∀v W',Below W.heap.size W W'->T v W'->K ((Ad ops V n a0).put o.dst v) W')->wpList P ops (Cv K) [o] (Ad ops V n a0) W
def FH(T:Value->World->Prop):Prop:=∀v W W',T v W->Below W.heap.size W W'->T v W'
theorem Iz{n g:Nat}{S:Nat->Value->World->Prop}{w0:World}{a0:Act}
  (hw:∀listed,HeadInv .any ops n listed->∀i,i<n->listed.getD i true=false->∀t,n<=t->t∉Region.ready .any ops listed)
  (hn:n<=ops.size) (hdB:FX .any ops n=true) (hd:CI ops n=true)
  (hst:∀j,FH (S j))
  (hop:∀i o,i<n->ops[i]?=some o->KI P ops a0 n w0 S i o (S i))
  (hlast:∀V W,Below w0.heap.size w0 W->(∀j,j<n->S j (V j) W)->wpAny P .any ops Q g (C9 ops n) (Ad ops V n a0) W):
  ∀(m:Nat) (listed:Array Bool) (V:Nat->Value) (W:World),HeadInv .any ops n listed->Bn n listed=m->Below w0.heap.size w0 W->(∀j,j<n->listed.getD j false=true->S j (V j) W)->
   wpAny P .any ops Q (m+g) listed (Ad ops V n a0) W
 |0,listed,V,W,inv,hm,hb,hS=>by
  have hall:∀i,i<n->listed.getD i true=true:=by
   intro i hi;have:=List.countP_eq_zero.1 hm i (List.mem_range.2 hi)
   simpa using this
  rw[C3 inv hall,Nat.zero_add];refine hlast V W hb λj hj=>hS j hj ?_
  have:=hall j hj;have hjs:j<listed.size:=by rw[inv.size];omega
  simp[hjs]at this ⊢;exact this
 |m+1,listed,V,W,inv,hm,hb,hS=>by
  obtain⟨u,hu,hul⟩:∃u,u<n/\listed.getD u true=false:=by
   have:0<Bn n listed:=by omega
   obtain⟨u,hu,hul⟩:=List.countP_pos_iff.1 this;exact⟨u,List.mem_range.1 hu,by simpa using hul⟩
  rw[show m+1+g=(m+g)+1 by omega];refine⟨λh0=>absurd h0 (Dj hdB inv u hu hul),λi hi=>?_⟩
  have hin:i<n:=by
   rcases Nat.lt_or_ge i n with h|h
   ·exact h
   ·exact absurd hi (hw listed inv u hu hul i h)
  obtain⟨hun,o,ho,hall⟩:=mem_ready.1 hi;refine DJ ho (hop i o hin ho V W _ hb (λj hj=>?_) λv W' hb' hs'=>?_)
  ·obtain⟨oj,hoj,e,he,hbd,hon⟩:=Region.waitsFor_spec hj
   have:oj=o:=Option.some.inj (hoj.symm.trans ho);subst this;have hl:=hall e he hbd;rw[hon]at hl
   have hlt:j<n:=by
    have h1:=List.all_eq_true.1 hdB i (List.mem_range.2 hin);rw[ho]at h1;have h2:=Array.all_eq_true'.1 h1 e he;rw[hbd]at h2;have h3:e.on<i:=by simpa using h2
    omega
   exact hS j hlt hl
  ·have hdst:o.dst=(ops[i]?).bind (·.dst):=by rw[ho];rfl
   rw[hdst,Dc hd hin];have his:i<listed.size:=by rw[inv.size];exact(AB ho).1
   refine Iz hw hn hdB hd hst hop hlast m _ _ W' (inv.set hi hin) (by have:=Dx hin his hun;omega) (hb.trans ⟨hb'.os,hb'.tape,hb'.output,hb'.size,λk hk=>hb'.block k (AF hk hb.size)⟩) λj hj hl=>?_
   by_cases hji:j=i
   ·subst hji
    simpa [upd] using hs'
   ·rw[getD_set_ne false (Ne.symm hji)]at hl
    have:=hst j (V j) W W' (hS j hj hl) hb'
    simpa [upd,hji] using this
def Ap(ops:Array Oper)(n:Nat):Bool:=
 decide (n<ops.size)&&Region.sinkB .any ops n&&Region.chainB .any ops n&&FX .any ops n&&CI ops n&&Region.seqB .any ops (ops.size - n) n (C9 ops n)
theorem Iw{id:Nat}{a:Act}{w:World}{l:List Oper}(n:Nat)(S:Nat->Value->World->Prop)(hm:P.follows .mixedOrders=true)(hB:Ap l.toArray n=true)
  (hst:∀j,FH (S j)) (hop:∀i o,i<n->l.toArray[i]?=some o->KI P l.toArray a n w S i o (S i))
  (hlast:∀V W,Below w.heap.size w W->(∀j,j<n->S j (V j) W)->wpList P l.toArray Q (l.drop n) (Ad l.toArray V n a) W):(Code.region id l.toArray true).wp P Q a w:=by
 simp only[Ap,Bool.and_eq_true,decide_eq_true_eq]at hB;obtain⟨⟨⟨⟨⟨hn,hs⟩,hc⟩,hdB⟩,hd⟩,hseq⟩:=hB;refine wp_region_any hm ?_
 have inv0:HeadInv .any l.toArray n (Array.replicate l.toArray.size false):=
  ⟨by simp,λj oj _ hl=>(by rw[getD_replicate_false]at hl;cases hl),λt _ ht=>getD_in (by simpa using ht) (getD_replicate_false _ _)⟩
 have hb0:Below w.heap.size w {w with drawn:=w.drawn+1}:=⟨rfl,rfl,rfl,AG _,λ_ _=>rfl⟩
 have hleft:Bn n (Array.replicate l.toArray.size false)=n:=by
  unfold Bn;rw[List.countP_eq_length.2]
  ·simp
  ·intro i hi
   have:i<l.toArray.size:=by have:=List.mem_range.1 hi;omega
   rw[getD_in (by simpa using this) (getD_replicate_false _ _)];rfl
 have H:=Iz (P:=P) (Q:=Q) (g:=l.toArray.size - n) (S:=S) (w0:=w) (a0:=a) (λlisted inv i hi hu t ht=>tail_waits hs hc hn inv _ i rfl hi hu t ht) (by omega) hdB hd hst hop
  (λV W hb hS=>by
   have hdl:(l.drop n).length=l.toArray.size - n:=by simp
   have:=wpAny_of_seq (md:=.any) (Q':=Q) (l.drop n) n (C9 l.toArray n) _ W (λj=>by simp[List.getElem?_drop]) (by rw[hdl];exact hseq) (hlast V W hb hS)
   rwa [hdl]at this)
  n _ (λj=>match (l.toArray[j]?).bind (·.dst) with|some d=>a.tmps.getD d undef|none=>undef) {w with drawn:=w.drawn+1} inv0 hleft hb0 (λj _ hl=>by rw[getD_replicate_false]at hl;cases hl)
 rw[DF,show n+(l.toArray.size - n)=l.toArray.size by omega]at H;exact H
def Fb(S:Nat->Value->World->Prop)(i:Nat)(T:Value->World->Prop):Nat->Value->World->Prop:=λj=>match Nat.beq j i with
 |true=>T
 |false=>S j
def El(P:Program)(ops:Array Oper)(a0:Act)(n:Nat)(w0:World)(L:(Nat->Value->World->Prop)->Prop):List Oper->Nat->(Nat->Value->World->Prop)->Prop
 |[],_,S=>L S
 |o::rest,i,S=>∃T,FH T/\KI P ops a0 n w0 S i o T/\El P ops a0 n w0 L rest (i+1) (Fb S i T)
theorem Av{a0:Act}{n:Nat}{w0:World}{L:(Nat->Value->World->Prop)->Prop}{o:Oper}{rest:List Oper}{i:Nat}{S:Nat->Value->World->Prop}(T:Value->World->Prop)(hT:FH T)
  (h:∀(V:Nat->Value) (W:World) (K:Act->World->Prop) (A:Act),Below w0.heap.size w0 W->(∀j,Region.waitsFor .any ops i j=true->S j (V j) W)->Hid (A=Ad ops V n a0)->
   Hid (∀v W',Below W.heap.size W W'->T v W'->K (A.put o.dst v) W')->wpList P ops (Cv K) [o] A W)
  (hr:El P ops a0 n w0 L rest (i+1) (Fb S i T)):El P ops a0 n w0 L (o::rest) i S:=⟨T,hT,λV W K hb hd hK=>h V W K _ hb hd rfl hK,hr⟩
theorem AN{a0:Act}{n:Nat}{w0:World}{L:(Nat->Value->World->Prop)->Prop}{o:Oper}{rest:List Oper}{i:Nat}{S:Nat->Value->World->Prop}{u:Value}
  (h:∀(V:Nat->Value) (W:World) (K:Act->World->Prop) (A:Act),Below w0.heap.size w0 W->(∀j,Region.waitsFor .any ops i j=true->S j (V j) W)->Hid (A=Ad ops V n a0)->
   Hid (∀W',Below W.heap.size W W'->K (A.put o.dst u) W')->wpList P ops (Cv K) [o] A W)
  (hr:El P ops a0 n w0 L rest (i+1) (Fb S i λv _=>v=u)):El P ops a0 n w0 L (o::rest) i S:=
 ⟨λv _=>v=u,λ_ _ _ h _=>h,λV W K hb hd hK=>h V W K _ hb hd rfl λW' hb'=>hK.out u W' hb' rfl,hr⟩
theorem Ch(S:Nat->Value->World->Prop)(i:Nat)(T:Value->World->Prop):Fb S i T i=T:=by simp[Fb]
theorem B8(S:Nat->Value->World->Prop){i j:Nat}(T:Value->World->Prop)(h:j≠i):Fb S i T j=S j:=by
 have:Nat.beq j i=false:=by
  cases hb:Nat.beq j i with
  |false=>rfl
  |true=>exact absurd (Nat.eq_of_beq_eq_true hb) h
 simp[Fb,this]
theorem Hk{a0:Act}{n:Nat}{w0:World}{L:(Nat->Value->World->Prop)->Prop}(hdB:FX .any ops n=true):∀(l:List Oper) (k:Nat) (S:Nat->Value->World->Prop),k+l.length=n->(∀j,j<l.length->l[j]?=ops[k+j]?)->
  (∀j,FH (S j))->(∀i o,i<k->ops[i]?=some o->KI P ops a0 n w0 S i o (S i))->El P ops a0 n w0 L l k S->
  ∃S',(∀j,FH (S' j))/\(∀i o,i<n->ops[i]?=some o->KI P ops a0 n w0 S' i o (S' i))/\L S'
 |[],k,S,hk,_,hl,hop,h=>⟨S,hl,by rw[show n=k by simpa using hk.symm];rw[show n=k by simpa using hk.symm]at hop;exact hop,h⟩
 |o::l,k,S,hk,hs,hl,hop,⟨T,hT,ho,h⟩=>by
  have h0:ops[k]?=some o:=by simpa using (hs 0 (by simp)).symm
  have dep:∀i j,i<n->Region.waitsFor .any ops i j=true->j<i:=λi j hi hj=>by
   obtain⟨oj,hoj,e,he,hbd,hon⟩:=Region.waitsFor_spec hj;have h1:=List.all_eq_true.1 hdB i (List.mem_range.2 hi);rw[hoj]at h1;have h2:=Array.all_eq_true'.1 h1 e he;rw[hbd]at h2;have h3:e.on<i:=by simpa using h2
   omega
  have hkn:k<n:=by simp only[List.length_cons]at hk;omega
  refine Hk hdB l (k+1) _ (by simp only[List.length_cons]at hk;omega) (λj hj=>by have:=hs (j+1) (by simp;omega);simpa [Nat.add_assoc,Nat.add_comm 1 j] using this) (λj=>?_) (λi o' hi hi'=>?_) h
  ·by_cases e:j=k
   ·subst e;rw[Ch];exact hT
   ·rw[B8 _ _ e];exact hl j
  ·by_cases e:i=k
   ·subst e
    have:o'=o:=Option.some.inj (hi'.symm.trans h0);subst this;rw[Ch];exact λV W K hb hd hK=>ho V W K hb (λj hj=>by have:=hd j hj;rwa [B8 _ _ (by have:=dep i j hkn hj;omega)]at this) hK
   ·rw[B8 _ _ e]
    exact λV W K hb hd hK=>hop i o' (by omega) hi' V W K hb (λj hj=>by have:=hd j hj;rwa [B8 _ _ (by have:=dep i j (by omega) hj;omega)]at this) hK
theorem AX{id:Nat}{a:Act}{w:World}{l:List Oper}(n:Nat)(hm:P.follows .mixedOrders=true)(hB:Ap l.toArray n=true)
  (h:El P l.toArray a n w (λS=>∀V W A,Below w.heap.size w W->(∀j,j<n->S j (V j) W)->Hid (A=Ad l.toArray V n a)->wpList P l.toArray Q (l.drop n) A W) (l.take n) 0 λ_ _ _=>True):(Code.region id l.toArray true).wp P Q a w:=by
 have hB':=hB;simp only[Ap,Bool.and_eq_true,decide_eq_true_eq]at hB';obtain⟨⟨⟨⟨⟨hn,_⟩,_⟩,hdB⟩,_⟩,_⟩:=hB';have hn':n<l.length:=by simpa using hn
 obtain⟨S,h1,h2,h3⟩:=Hk hdB (l.take n) 0 _ (by simp;omega) (λj hj=>by
  have:j<n:=by simp at hj;omega
  simp[this]) (λ_ _ _ _ _ _=>trivial) (λi o hi=>absurd hi (by omega)) h
 exact Iw n S hm hB h1 h2 λV W hb hS=>h3 V W _ hb hS rfl
end
theorem pA:(∀(ops:Array Oper) (V:Nat->Value) (a:Act),Ad ops V 0 a=a)/\(∀(ops:Array Oper) (V:Nat->Value) (n:Nat) (a:Act),Ad ops V (n+1) a=(Ad ops V n a).put ((ops[n]?).bind (·.dst)) (V n))/\
 (∀(l:List Oper) (i:Nat),l.toArray[i]?=l[i]?)/\(∀(a:Oper) (l:List Oper) (i:Nat),(a::l)[i+1]?=l[i]?)/\(∀(a:Oper) (l:List Oper),(a::l)[0]?=some a)/\(∀(a:Oper) (f:Oper->Option Tmp),(some a).bind f=f a)/\
 (∀(t:Array Value) (d:List Deferred) (i:Tmp) (v:Value),Act.put ⟨t,d⟩ (some i) v=⟨t.setIfInBounds i v,d⟩)/\(∀(a:Act) (v:Value),Act.put a none v=a)/\
 (∀(l:List Value) (i:Nat) (a:Value),l.toArray.setIfInBounds i a=(l.set i a).toArray)/\(∀(x:Value) (xs:List Value) (n:Nat) (a:Value),(x::xs).set (n+1) a=x::xs.set n a)/\(∀(x:Value) (xs:List Value) (a:Value),(x::xs).set 0 a=a::xs):=
 ⟨λ_ _ _=>rfl,λ_ _ _ _=>rfl,λ_ _=>by simp,λ_ _ _=>by simp,λ_ _=>by simp,λ_ _=>rfl,λ_ _ _ _=>rfl,λ_ _=>rfl,λ_ _ _=>by simp,λ_ _ _ _=>rfl,λ_ _ _=>rfl⟩
theorem brf{N:Nat}{w:World}:Below N w w:=Below.refl N w
end
section
open Go.RowKit Go.Sort
theorem FK(B:Bk)(sv:ByteArray)(num:Int)(c:Cp)(s:Svc)(a1 a2 a3:Option Addr)(c1 c2 c3:Nat)(w:World)(hS:B.small)(hB:BkAt w a1 a2 a3 B)(hf:B.cps.find? (isC sv num)=some c)(hsv:Bz B sv=some s)
  (hw0:0<=s.want) (hw1:s.want<=10) (hd0:0<=s.down) (hd1:s.down<=10):
  Calls Try.prog 27 #[.agg (bkV B a1 c1 a2 c2 a3 c3),.string sv,.int .i64 num] w λe w'=>e=.returned (.bool (Gc B s sv c))/\Below w.heap.size w w':=by
 obtain⟨ic,hic,hidc⟩:∃i:Nat,B.cps[i]?=some c/\Jl B.cps sv num=(i:Int):=Bo hf;have HIDC:Hid _:=hidc;have hiclt:ic<B.cps.length:=(AC hic).1;obtain⟨ix,hix,hidx⟩:∃i:Nat,B.svcs[i]?=some s/\Gd B.svcs sv=(i:Int):=Bo hsv;have HIDX:Hid _:=hidx;have hixlt:ix<B.svcs.length:=(AC hix).1;obtain⟨bS,offS,eS,hbsS,hatS⟩:=hB.1 (by intro h;rw[h]at hixlt;simp at hixlt);obtain⟨bC,offC,eC,hbsC,hatC⟩:=hB.2.1 (by intro h;rw[h]at hiclt;simp at hiclt);subst eS eC;have hsx:=hatS ix s hix;have hcx:=hatC ic c hic;obtain⟨N,HN⟩:∃N,Hid (N=Cq s.image sv B.cps B.cps.length):=⟨_,rfl⟩;have HCB:Hid (N=D6 B sv):=by unfold Hid D6;rw[hsv,HN.out]
 have hup:=Ep s.image sv B.cps B.cps.length (AG _);rw[<-HN.out]at hup;have hr0:=hup.2.2.1;have hr1:=hup.2.2.2.1;have HM:Hid (Gc B s sv c=(!c.ending&&(c.state !=3||(s.gone||decide (s.want - s.down<=N.ready - 1))))):=by unfold Hid Gc;rw[HN.out]
 clear hf hsv hidc hidx hix hic hatS hatC hup;have hl:=hS;obtain⟨hl1,hl2,hl3⟩:=hl;have hb0:=AO w (.cells (bkV B (some ⟨bS,offS,none⟩) c1 (some ⟨bC,offC,none⟩) c2 a3 c3) 27);have T0:Hid _:=heap_alloc_new w (.cells (bkV B (some ⟨bS,offS,none⟩) c1 (some ⟨bC,offC,none⟩) c2 a3 c3) 27);have HS0:Hid _:=size_alloc' w (.cells (bkV B (some ⟨bS,offS,none⟩) c1 (some ⟨bC,offC,none⟩) c2 a3 c3) 27);go_enter Try.func27,Try.ntmps27
 go_wp2_with fail
 refine(C0 B sv num _ _ a3 c1 c2 c3 _ hS (hB.2.1.below hb0)).mono ?_;rintro e w1 ⟨rfl,hb1⟩;rw[HIDC.out];have hbb1:=hb0.trans (hb1.mono hb0.size);rw[HS0.out]at hb1;have T1:Hid _:=AL hb1 T0.out (by omega);have hz1:w.heap.size<w1.heap.size:=by have:=hb1.size;rw[HS0.out]at this;omega
 have hB1:=hB.below hbb1;have hcx1:=hcx.below hbb1 hbsC;have hsx1:=hsx.below hbb1 hbsS;unfold CpAt at hcx1;unfold SvcAt at hsx1;obtain⟨y0,y1,y2,y3,y4,y5,y6⟩:=hcx1;obtain⟨x0,x1,x2,x3,x4,x5,x6,x7,x8,x9,x10,x11,x12⟩:=hsx1;obtain⟨e0,e1,e2,e3⟩:=c4 T1.out;clear T0 HS0 HIDC hb0 hb1;cases hend:c.ending
 ·have T1':Hid (∀W,Below w1.heap.size w1 W->Bl W (w.heap.size) (bkV B (some ⟨bS,offS,none⟩) c1 (some ⟨bC,offC,none⟩) c2 a3 c3) 27):=λW hW=>AL hW T1.out hz1
  have hsz:∀W,Below w1.heap.size w1 W->w.heap.size<W.heap.size:=λW hW=>AF hz1 hW.size
  have hgo:∀W,Below w1.heap.size w1 W->Below w.heap.size w W:=λW hW=>hbb1.trans (hW.mono hbb1.size)
  have HG1:Hid _:=T1';have HG2:Hid _:=hsz;have HG3:Hid _:=hgo;clear T1' hsz hgo;go_wp2;refine AX 8 (by kernel_rfl) (by kernel_rfl) ?_;apply AN
  ·intro V W K A hW hd hA hK
   simp only[pA]at hA;clear hd;obtain rfl:=hA;go_wp2;exact hK.out _ brf
  apply AN
  ·intro V W K A hW hd hA hK
   have d0:V 0=_:=hd 0 (by kernel_rfl);simp only[pA,d0]at hA;clear hd d0;obtain rfl:=hA;obtain⟨e0,e1,e2,e3⟩:=c4 (HG1.out W hW);go_wp2;exact hK.out _ brf
  apply AN
  ·intro V W K A hW hd hA hK
   simp only[pA]at hA;clear hd;obtain rfl:=hA;obtain⟨e0,e1,e2,e3⟩:=c4 (HG1.out W hW);go_wp2;exact hK.out _ brf
  apply AN
  ·intro V W K A hW hd hA hK
   simp only[pA]at hA;clear hd;obtain rfl:=hA;go_wp2;exact hK.out _ brf
  apply AN
  ·intro V W K A hW hd hA hK
   have d2:V 2=_:=hd 2 (by kernel_rfl);have d3:V 3=_:=hd 3 (by kernel_rfl);simp only[pA,d2,d3]at hA;clear hd d2 d3;obtain rfl:=hA
   go_wp2_with fail
   refine(B9 B sv _ _ a3 c1 c2 c3 _ hS (hB.below (HG3.out W hW)).1).mono ?_;rintro e w2 ⟨rfl,hb2⟩;rw[HIDX.out];go_wp2;exact hK.out _ hb2
  apply AN
  ·intro V W K A hW hd hA hK
   have d1:V 1=_:=hd 1 (by kernel_rfl);have d4:V 4=_:=hd 4 (by kernel_rfl);simp only[pA,d1,d4]at hA;clear hd d1 d4;obtain rfl:=hA;go_wp2;exact hK.out _ brf
  apply AN
  ·intro V W K A hW hd hA hK
   have d5:V 5=_:=hd 5 (by kernel_rfl);simp only[pA,d5]at hA;clear hd d5;obtain rfl:=hA;have hq:=hsx.below (HG3.out W hW) hbsS;unfold SvcAt at hq;obtain⟨q0,q1,q2,q3,q4,q5,q6,q7,q8,q9,q10,q11,q12⟩:=hq;go_wp2;exact hK.out _ brf
  refine Av (λv W=>∃p,v=.pointer (ad p)/\w.heap.size<p/\W.heap[p]?=some (.cells #[.string ⟨#[]⟩,.int .i64 0,.bool false,.int .i64 0,.int .i64 0,.int .i64 0,.int .i64 0,.int .i64 0,.int .i64 0,.int .i64 0,.int .i64 0,.int .i64 0,.int .i64 0] 63 (0,0))) (λv W W2 ⟨p,h1,h2,h3⟩ hb=>⟨p,h1,h2,AL hb h3 (AB h3).1⟩) ?_ ?_
  ·intro V W K A hW hd hA hK
   simp only[pA]at hA;clear hd;obtain rfl:=hA;go_wp2;exact hK.out _ _ (AO W _) ⟨_,rfl,HG2.out W hW,heap_alloc_new W _⟩
  intro V W A hW hS hA;have d0:V 0=_:=hS 0 (by omega);have d1:V 1=_:=hS 1 (by omega);have d2:V 2=_:=hS 2 (by omega);have d3:V 3=_:=hS 3 (by omega);have d4:V 4=_:=hS 4 (by omega);have d5:V 5=_:=hS 5 (by omega);have d6:V 6=_:=hS 6 (by omega);have d7:(λv W=>∃p,v=.pointer (ad p)/\w.heap.size<p/\W.heap[p]?=some (.cells #[.string ⟨#[]⟩,.int .i64 0,.bool false,.int .i64 0,.int .i64 0,.int .i64 0,.int .i64 0,.int .i64 0,.int .i64 0,.int .i64 0,.int .i64 0,.int .i64 0,.int .i64 0] 63 (0,0))) (V 7) W:=hS 7 (by omega);simp only[pA,d0,d1,d2,d3,d4,d5,d6]at hA;clear hS d0 d1 d2 d3 d4 d5 d6;generalize V 7=x7 at d7 hA;obtain rfl:=hA;simp only[List.drop_succ_cons,List.drop_zero];obtain⟨p,rfl,hp,hz⟩:=d7;have hle:w.heap.size<=p:=by omega
  refine CD rfl 63 (.tmp 8) (.tmp 29) rfl p 0 (svV s) rfl rfl 63 #[.string ⟨#[]⟩,.int .i64 0,.bool false,.int .i64 0,.int .i64 0,.int .i64 0,.int .i64 0,.int .i64 0,.int .i64 0,.int .i64 0,.int .i64 0,.int .i64 0,.int .i64 0] hz FZ (AG 13) (Nv s) ?_;intro w2 hrow2 hsz2 hb2;have hxs:Hid (Bl w2 p (svV s) 63):=hrow2;have hbox:Hid _:=(hb2.block _ hp).trans (HG1.out W hW);have hbc:=(HG3.out W hW).trans (hb2.mono hle);clear hrow2 hsz2 hb2 hz hW HG1 HG2 HG3;clear e0 e1 e2 e3 x0 x1 x2 x3 x4 x5 x6 x7 x8 x9 x10 x11 x12 y0 y1 y2 y3 y4 y5 y6 T1 hz1 hB1 HIDX hbb1;have hcx1:=hcx.below hbc hbsC;unfold CpAt at hcx1;have y4:=hcx1.2.2.2.2.1;clear hcx1;obtain⟨e0,e1,e2,e3⟩:=c4 hbox.out;have x2:=AK hxs.out 2 rfl;cases hst:(c.state !=3)
  ·cases hgo:s.gone
   ·have HF:Hid (Gc B s sv c=decide (s.want - s.down<=N.ready - 1)):=by unfold Hid;rw[HM.out,hend,hst,hgo];simp
    have g0:=Al hbox.out 0 rfl;have g1:=Al hbox.out 1 rfl;have g2:=Al hbox.out 2 rfl;have g3:=Al hbox.out 3 rfl;have k4:=Al hxs.out 4 rfl;have k5:=Al hxs.out 5 rfl;go_wp2;have hbl:w.heap.size<w2.heap.size:=(AB hbox.out).1;have hxl:p<w2.heap.size:=(AB hxs.out).1;refine AX 11 (by kernel_rfl) (by kernel_rfl) ?_;apply AN
    ·intro V W K A hW hd hA hK
     simp only[pA]at hA;clear hd;obtain rfl:=hA;obtain⟨e0,e1,e2,e3⟩:=c4 (AL hW hbox.out hbl);go_wp2;exact hK.out _ brf
    apply AN
    ·intro V W K A hW hd hA hK
     simp only[pA]at hA;clear hd;obtain rfl:=hA;go_wp2;exact hK.out _ brf
    apply AN
    ·intro V W K A hW hd hA hK
     have d0:V 0=_:=hd 0 (by kernel_rfl);have d1:V 1=_:=hd 1 (by kernel_rfl);simp only[pA,d0,d1]at hA;clear hd d0 d1;obtain rfl:=hA
     go_wp2_with fail
     refine(EG B sv _ _ a3 c1 c2 c3 _ hS (hB.below (hbc.trans (hW.mono hbc.size))) N HCB).mono ?_;rintro e w3 ⟨rfl,hb3⟩;go_wp2;exact hK.out _ hb3
    apply AN
    ·intro V W K A hW hd hA hK
     have d2:V 2=_:=hd 2 (by kernel_rfl);simp only[pA,d2]at hA;clear hd d2;obtain rfl:=hA;have hfld:=Fx;go_wp2;exact hK.out _ brf
    apply AN
    ·intro V W K A hW hd hA hK
     have d3:V 3=_:=hd 3 (by kernel_rfl);simp only[pA,d3]at hA;clear hd d3;obtain rfl:=hA;go_wp2;exact hK.out _ brf
    apply AN
    ·intro V W K A hW hd hA hK
     simp only[pA]at hA;clear hd;obtain rfl:=hA;go_wp2;exact hK.out _ brf
    apply AN
    ·intro V W K A hW hd hA hK
     have d5:V 5=_:=hd 5 (by kernel_rfl);simp only[pA,d5]at hA;clear hd d5;obtain rfl:=hA;have x4:=AK (AL hW hxs.out hxl) 4 rfl;have x5:=AK (AL hW hxs.out hxl) 5 rfl;go_wp2;exact hK.out _ brf
    apply AN
    ·intro V W K A hW hd hA hK
     simp only[pA]at hA;clear hd;obtain rfl:=hA;go_wp2;exact hK.out _ brf
    apply AN
    ·intro V W K A hW hd hA hK
     have d7:V 7=_:=hd 7 (by kernel_rfl);simp only[pA,d7]at hA;clear hd d7;obtain rfl:=hA;have x4:=AK (AL hW hxs.out hxl) 4 rfl;have x5:=AK (AL hW hxs.out hxl) 5 rfl;go_wp2;exact hK.out _ brf
    apply AN
    ·intro V W K A hW hd hA hK
     have d6:V 6=_:=hd 6 (by kernel_rfl);have d8:V 8=_:=hd 8 (by kernel_rfl);simp only[pA,d6,d8]at hA;clear hd d6 d8;obtain rfl:=hA;go_wp2;exact hK.out _ brf
    apply AN
    ·intro V W K A hW hd hA hK
     have d4:V 4=_:=hd 4 (by kernel_rfl);have d9:V 9=_:=hd 9 (by kernel_rfl);simp only[pA,d4,d9]at hA;clear hd d4 d9;obtain rfl:=hA;go_wp2;exact hK.out _ brf
    intro V W A hW hS hA;have d0:V 0=_:=hS 0 (by omega);have d1:V 1=_:=hS 1 (by omega);have d2:V 2=_:=hS 2 (by omega);have d3:V 3=_:=hS 3 (by omega);have d4:V 4=_:=hS 4 (by omega);have d5:V 5=_:=hS 5 (by omega);have d6:V 6=_:=hS 6 (by omega);have d7:V 7=_:=hS 7 (by omega);have d8:V 8=_:=hS 8 (by omega);have d9:V 9=_:=hS 9 (by omega);have d10:V 10=_:=hS 10 (by omega);simp only[pA,d0,d1,d2,d3,d4,d5,d6,d7,d8,d9,d10]at hA;clear hS d0 d1 d2 d3 d4 d5 d6 d7 d8 d9 d10;obtain rfl:=hA;simp only[List.drop_succ_cons,List.drop_zero];go_wp2;go_ret;exact⟨AS (by rw[HF.out]),hbc.trans (hW.mono hbc.size)⟩
   ·have HF:Hid (Gc B s sv c=true):=by unfold Hid;rw[HM.out,hend,hst,hgo];rfl
    go_wp2;go_ret;exact⟨AS HF.out.symm,hbc⟩
  ·have HF:Hid (Gc B s sv c=true):=by unfold Hid;rw[HM.out,hend,hst];rfl
   go_wp2;go_ret;exact⟨AS HF.out.symm,hbc⟩
 ·go_wp2
  go_ret;exact⟨AS (by rw[HM.out,hend];rfl),hbb1⟩
end
section
open Go.RowKit
theorem Nk{a b:ByteArray}:(a.toList==b.toList)=true↔a=b:=by
 rw[beq_iff_eq,ByteArray.toList_eq,ByteArray.toList_eq];constructor
 ·intro h
  cases a;cases b;simp only[ByteArray.mk.injEq];exact Array.toList_inj.1 h
 ·intro h;rw[h]
theorem Lc{B:Bk}(h:BY (BP B) B.cps.length=true):∀i,i<B.cps.length->BP B i=true:=λi hi=>by
 unfold BY at h;exact List.all_eq_true.1 h i (List.mem_range.2 hi)
theorem cpB_of{B:Bk}(h:BY (BP B) B.cps.length=true){c:Cp}(hc:c∈B.cps):cpB B c=true:=by
 obtain⟨i,hi⟩:=List.getElem?_of_mem hc;have:=Lc h i (AC hi).1;unfold BP at this;rw[hi]at this;simp only[Bool.and_eq_true]at this;exact this.1
theorem Ni{B:Bk}(h:BY (BT B) B.svcs.length=true){s:Svc}(hs:s∈B.svcs):KM B.now s=true:=by
 obtain⟨i,hi⟩:=List.getElem?_of_mem hs;have h1:BT B i=true:=by unfold BY at h;exact List.all_eq_true.1 h i (List.mem_range.2 (AC hi).1)
 unfold BT at h1;rw[hi]at h1;simp only[Bool.and_eq_true]at h1;exact h1.1
structure Valid(B:Bk):Prop where
 now:inB B.now 0 1000000=true
 ls:B.svcs.length<=8
 lc:B.cps.length<=200
 lb:B.bts.length<=6
 svcs:BY (BT B) B.svcs.length=true
 bts:BY (Ct B) B.bts.length=true
 cps:BY (BP B) B.cps.length=true
theorem validB_iff{B:Bk}:Au B=true↔Valid B:=by
 unfold Au;simp only[Bool.and_eq_true,decide_eq_true_eq];exact⟨λ⟨⟨⟨⟨⟨⟨a,b⟩,c⟩,d⟩,e⟩,f⟩,g⟩=>⟨a,b,c,d,e,f,g⟩,λh=>⟨⟨⟨⟨⟨⟨h.now,h.ls⟩,h.lc⟩,h.lb⟩,h.svcs⟩,h.bts⟩,h.cps⟩⟩
theorem inB_iff{n lo hi:Int}:inB n lo hi=true↔lo<=n/\n<=hi:=by
 unfold inB;simp
theorem Valid.svc{B:Bk}(h:Valid B){c:Cp}(hc:c∈B.cps):∃s,Bz B c.service=some s/\GM B.now s c=true:=by
 have:=cpB_of h.cps hc;unfold cpB at this
 cases hs:Bz B c.service with
 |none=>rw[hs]at this;cases this
 |some s=>rw[hs]at this;simp only[Bool.and_eq_true]at this;exact⟨s,rfl,this.1⟩
theorem Du{B:Bk}{x:ByteArray}{s:Svc}(h:Bz B x=some s):s∈B.svcs:=List.mem_of_find?_eq_some h
structure Dr(s:Svc):Prop where
 want0:0<=s.want
 want1:s.want<=10
 down0:0<=s.down
 down1:s.down<=10
 over0:0<=s.over
 over1:s.over<=10
 next0:1<=s.next
 next1:s.next<=1000000
theorem Valid.svcIn{B:Bk}(h:Valid B){s:Svc}(hs:s∈B.svcs):Dr s:=by
 have:=Ni h.svcs hs;unfold KM at this;simp only[Bool.and_eq_true,inB_iff]at this;obtain⟨⟨⟨⟨⟨⟨_,h1⟩,h2⟩,h3⟩,h4⟩,_⟩,_⟩:=this;exact⟨h2.1,h2.2,h3.1,h3.2,h4.1,h4.2,h1.1,h1.2⟩
end
section
open Go.RowKit Go.Sort
def B4(B:Bk)(sv:ByteArray)(num:Int):Bool:=Au B&&(match B.cps.find? (isC sv num) with
 |none=>false
 |some c=>match Bz B sv with
  |none=>false
  |some s=>Gc B s sv c)
theorem isC_iff{sv:ByteArray}{num:Int}{c:Cp}:isC sv num c=true↔c.service=sv/\c.number=num:=by
 unfold isC;rw[Bool.and_eq_true,beq_iff_eq (a:=c.number)];exact and_congr_left λ_=>Nk
end
section
open Go.RowKit Go.Sort Go.Maps
def uniqC(B:Bk):Prop:=∀(i j:Nat) c d,i<j->B.cps[i]?=some c->B.cps[j]?=some d->¬(c.service=d.service/\c.number=d.number)
def wfC(B:Bk):Prop:=∀c∈B.cps,(Lit.int .i64 c.number).wf=true
theorem Lf{a b c:Cp}(h1:Bg a b=true)(h2:Bg b c=true):Bg a c=true:=by
 unfold Bg at *;simp only[Bool.or_eq_true,Bool.and_eq_true,decide_eq_true_eq,beq_iff_eq]at *;rcases h1 with h1|⟨e1,n1⟩
 ·rcases h2 with h2|⟨e2,n2⟩
  ·exact .inl (DZ _ _ _ h1 h2)
  ·exact .inl (by rw[<-e2];exact h1)
 ·rcases h2 with h2|⟨e2,n2⟩
  ·exact .inl (by rw[e1];exact h2)
  ·exact .inr ⟨e1.trans e2,by omega⟩
theorem LI{B:Bk}(h:∀i,i<B.cps.length->BP B i=true):∀(j i:Nat) s t,i<j->B.cps[i]?=some s->B.cps[j]?=some t->Bg s t=true
 |0,i,_,_,hi,_,_=>absurd hi (by omega)
 |j+1,i,s,t,hi,hs,ht=>by
  have hlt:j+1<B.cps.length:=(AC ht).1;obtain⟨p,hp⟩:∃p,B.cps[j]?=some p:=⟨B.cps[j]'(by omega),by rw[List.getElem?_eq_getElem]⟩
  have h1:Bg p t=true:=by
   have:=h (j+1) hlt;unfold BP at this;rw[ht]at this;simp[hp]at this;exact this.2
  rcases Nat.lt_or_ge i j with h'|h'
  ·exact Lf (LI h j i s p h' hs hp) h1
  ·have e:i=j:=by omega
   subst e;rw[hp]at hs;cases hs;exact h1
theorem uniqC_of{B:Bk}(h:BY (BP B) B.cps.length=true):uniqC B:=λi j c d hij hc hd ⟨e1,e2⟩=>by
 have:=LI (Lc h) j i c d hij hc hd;unfold Bg at this;rw[e1,e2,CO]at this;simp at this
end
section
open Go.RowKit Go.Sort
theorem KY(c:Cp)(r:Int)(w:World):
  Calls Try.prog 131 #[.agg #[],.agg (cpV c),.int .i64 r] w λe w'=>e=.returned (.bool true)/\Below w.heap.size w w':=by
 go_enter Try.func131,Try.ntmps131;go_wp2;go_ret;exact⟨rfl,((Below.refl _ _).alloc (AG _) _).alloc (by simp) _⟩
theorem Jy(l:Int)(c:Cp)(r:Int)(w:World)(hr0:0<=r)(hr1:r<=1048576):
  Calls Try.prog 132 #[.agg #[.int .i64 l],.agg (cpV c),.int .i64 r] w λe w'=>e=.returned (.bool (c.state !=3||decide (l<=r - 1)))/\Below w.heap.size w w':=by
 cases hst:(c.state !=3)
 ·go_enter Try.func132,Try.ntmps132
  go_wp2;go_ret;exact⟨AS (by simp),((Below.refl _ _).alloc (AG _) _).alloc (by simp) _⟩
 ·go_enter Try.func132,Try.ntmps132
  go_wp2;go_ret;exact⟨rfl,((Below.refl _ _).alloc (AG _) _).alloc (by simp) _⟩
theorem Ly(s:Svc)(w:World)(hg:s.gone=true):
  Calls Try.prog 51 #[.agg (svV s)] w λe w'=>e=.returned (.iface 124 (.agg #[]))/\Below w.heap.size w w':=by
 go_enter Try.func51,Try.ntmps51;go_wp2;go_ret;exact⟨rfl,AO _ _⟩
theorem Lx(s:Svc)(w:World)(hg:s.gone=false)(hw0:0<=s.want)(hw1:s.want<=10)(hd0:0<=s.down)(hd1:s.down<=10):
  Calls Try.prog 51 #[.agg (svV s)] w λe w'=>e=.returned (.iface 126 (.agg #[.int .i64 (s.want - s.down)]))/\Below w.heap.size w w':=by
 go_enter Try.func51,Try.ntmps51;go_wp2;go_ret;exact⟨rfl,AO _ _⟩
end
end Go.Proofs.Ytbceafpodamnfaa
