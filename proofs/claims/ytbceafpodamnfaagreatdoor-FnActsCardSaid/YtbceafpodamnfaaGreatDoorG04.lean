import Derived.Test.YtbceafpodamnfaaGreatDoorG03
set_option linter.all false
namespace Go.Proofs.YtbceafpodamnfaaGreatDoor
open Go.RowKit
section
variable {P:Program} {RD:(Nat->Prop)->World->Nat->Nat->Prop} {w0:World} {tt:List TE} {Γ:List (Nat × Nat × Ct)}
def B7(P:Program)(RD:(Nat->Prop)->World->Nat->Nat->Prop)(f cost:Nat)(C:Ct):Prop:=
  ∀(w0:World) (G:Gh) (w:World) (q id:Nat) (vs:qL) (es:AY) (k0:Value->AY->Prop),(∀k,G.Z k->k<w.heap.size/\¬G.RB k)->(∀k,G.RB k->k<w.heap.size)->w0.heap.size<=w.heap.size->(∀i b,(i,b)∈es->Hold RD w0 G w q i b)->(∀i b,(i,b)∈es->i<id\/id+8<=i)->
    (cost=0\/q+cost<=QM)->C vs es id k0->
    Calls P f (vs.map (r2 G.α)).toArray w λe w'=>∃v es' G',(∀k,C vs es id k->k v es')/\e=.returned (r2 G'.α v)/\GS RD G w q G' w' (q+cost) id/\NewOk RD w0 G' w w' (q+cost) es'/\Clo (es'++es) (BS v)/\OkE id (id+8) (es'++es) es'
structure Env(P:Program)(RD:(Nat->Prop)->World->Nat->Nat->Prop)(tt:List TE)(Γ:List (Nat × Nat × Ct)):Prop where
  rd:B9 RD
  tt:∀e∈tt,TEok P e
  ct:∀f c C,lk Γ f=some (c,C)->Rf P f=true/\B7 P RD f c C
theorem Ph:∀(l:List TE) (T:Nat) (e:TE),tyo l T=some e->e.ty=T/\e∈l
  |[],_,_,h=>by cases h
  |J::r,T,e,h=>by
    unfold tyo at h
    cases hb:Nat.beq J.ty T with
    |true=>rw[hb]at h;cases h;exact⟨cX hb,dK⟩
    |false=>rw[hb]at h;obtain⟨F,H⟩:=Ph r T e h;exact⟨F,dN _ H⟩
theorem Env.ty(E:Env P RD tt Γ){T:Nat}{e:TE}(h:tyo tt T=some e):TEok P e/\e.ty=T:=⟨E.tt e (Ph tt T e h).2,(Ph tt T e h).1⟩
theorem JH(m:AY):∀(l:List Nat) (i:Nat) (b:VB),(i,b)∈Jo m l->lk m i=some b
  |[],_,_,h=>by cases h
  |j::r,i,b,h=>by
    unfold Jo at h;split at h
    · rename_i b' hb
      rcases dy.1 h with e|h
      · cases e;exact hb
      · exact JH m r i b h
    · exact JH m r i b h
theorem GT(m:AY):∀(l:List Nat) (i:Nat) (b:VB),(i,b)∈Fa m l->lk m i=some b
  |[],_,_,h=>by cases h
  |j::r,i,b,h=>by
    unfold Fa at h;split at h
    · rename_i b' hb
      rcases dy.1 h with e|h
      · cases e;exact hb
      · rcases dt.1 h with h|h
        · exact JH m _ i b h
        · exact GT m r i b h
    · exact GT m r i b h
theorem DM{m:AY}{l:List Nat}{i:Nat}{b:VB}(h:lk (Fa m l) i=some b):lk m i=some b:=GT m l i b (Aj _ _ _ h)
variable {G:Gh} {w:World} {q id:Nat}
theorem GS.refl(E:Env P RD tt Γ)(F:∀k,G.Z k->k<w.heap.size/\¬G.RB k)(H:∀k,G.RB k->k<w.heap.size):GS RD G w q G w (q+0) id:=
  ⟨.refl _ _,λ_ _=>rfl,λ_ h=>h,λ_ h=>.inl h,F,λ_ h=>h,λ_ h=>.inl h,H,λg _ h=>E.rd _ _ _ _ _ _ _ h (λ_ h=>h) rfl (λ_ _=>rfl) (by omega)⟩
theorem GS.cu(E:Env P RD tt Γ)(F:∀k,G.Z k->k<w.heap.size/\¬G.RB k)(H:∀k,G.RB k->k<w.heap.size){q':Nat}(J:q<=q'):GS RD G w q G w q' id:=
  ⟨.refl _ _,λ_ _=>rfl,λ_ h=>h,λ_ h=>.inl h,F,λ_ h=>h,λ_ h=>.inl h,H,λg _ h=>E.rd _ _ _ _ _ _ _ h (λ_ h=>h) rfl (λ_ _=>rfl) J⟩
theorem NewOk.nil{G':Gh}{w':World}:NewOk RD w0 G' w w' q []:=⟨λ_ _ h=>(nomatch h),λ_ _ h=>(nomatch h),λ_ _ _ _ h=>(nomatch h)⟩
theorem JF{sz:Nat}:∀{els:List (List Value)},(∀el∈els,el.length=sz)->els.flatten.length=els.length*sz
  |[],_=>by simp
  |e::r,h=>by rw[fe,dE,h e dK,JF λel F=>h el (dN _ F),dL,fi];omega
theorem Nf{sz:Nat}:∀{els:List (List Value)},(∀el∈els,el.length=sz)->∀(j:Nat) (el:qL),els[j]?=some el->∀y,y<sz->els.flatten[j*sz+y]?=el[y]?
  |[],_,_,_,h,_,_=>by cases h
  |e::r,h,0,el,H,y,J=>by
    rw[<-dg H];rw[fe,dU (by rw[h e dK];omega),iD,dJ]
  |e::r,h,j+1,el,H,y,J=>by
    have M:=h e dK;rw[fe,dX (by rw[M,fi];omega),M,show(j+1)*sz+y - sz=j*sz+y by rw[fi];omega];exact Nf (λel F=>h el (dN _ F)) j el H y J
theorem RQ{sz:Nat}:∀{els:List (List Value)},(∀el∈els,el.length=sz)->∀n,(els.take n).flatten=els.flatten.take (n*sz)
  |[],_,_=>by simp
  |e::r,_,0=>by simp
  |e::r,h,n+1=>by
    have H:=h e dK;rw[gv,fe,fe,RQ (λel F=>h el (dN _ F)) n,show(n+1)*sz=e.length+n*sz by rw[H,fi];omega,List.take_length_add_append]
theorem GS.new (E : Env P RD tt Γ) (H : ∀ k, G.Z k -> k < w.heap.size /\ ¬ G.RB k) (J : ∀ k, G.RB k -> k < w.heap.size) (o : Obj) :
    GS RD G w q ⟨λi=>if i=id then some ⟨w.heap.size,0,none⟩ else G.α i,G.Z,G.RB⟩ (w.alloc o) (q+0) id:=by
  have F:=Stp.alloc G.RB w o;refine⟨F,λi W=>dC (by omega),λ_ h=>h,λ_ h=>.inl h,λk hk=>⟨AF (H k hk).1 F.size,(H k hk).2⟩,λ_ h=>h,λ_ h=>.inl h,λk hk=>AF (J k hk) F.size,λg M h=>?_⟩;have hb:∀k,k<w.heap.size->(w.alloc o).heap[k]?=w.heap[k]?:=λk hk=>by show(w.heap.push o)[k]?=_;rw[dk,dC (by omega)]
  exact E.rd _ _ _ _ _ _ _ h (λ_ h=>h) (hb g (J g M)) (λk hk=>hb k (H k hk).1) (by omega)
theorem JX(g o n:Nat):(⟨g,o,none⟩:Addr).add n=⟨g,o+n,none⟩:=by
  unfold Addr.add;split<;>rename_i h
  · rw[h];rfl
  · rfl
theorem Dp{v:Value}(h:Fr v=true)(α:Nat->Option Addr):r2 α v=r0 α v/\BS v=Cf v/\(r2 α v).cells=#[r0 α v]/\(r0 α v).oneCell'=true:=by
  cases v with
  |agg _=>cases h
  |tuple _=>cases h
  |iface i u=>cases u<;>first|exact⟨rfl,rfl,rfl,rfl⟩|(rename_i p;cases p<;>exact⟨rfl,rfl,rfl,rfl⟩)
  |_=>exact⟨rfl,rfl,rfl,rfl⟩
theorem F0{v:Value}(h:noV v=true)(α:Nat->Option Addr):r0 α v=v:=by
  cases v<;>first|rfl|cases h
theorem KL{cs:qL}(h:cs.all noV=true)(α:Nat->Option Addr):cs.map (r0 α)=cs:=by
  conv=>rhs;rw[<-List.map_id cs]
  exact fj λv hv=>F0 (dh.1 h v hv) α
theorem Fq{α:Nat->Option Addr}{i g o:Nat}(F:FloatKind)(n:Nat)(h:α i=some ⟨g,o,none⟩):r2 α (.complex F i n)=.pointer (some ⟨g,o+n,none⟩):=by
  show Value.pointer (Option.map _ (α i))=_;rw[h,eo,JX]
theorem Hold.at{i:Nat}{b:VB}(h:Hold RD w0 G w q i b)(hk:Rz b=true):∃g o,G.α i=some ⟨g,o,none⟩:=by
  unfold Rz at hk;rcases eN.1 hk with hk|H
  · rcases eN.1 hk with H|H
    · obtain⟨g,F,_⟩:=h.k0 (cX H);exact⟨g,0,F⟩
    · obtain⟨g,o,F,_⟩:=h.k2 (cX H);exact⟨g,o,F⟩
  · obtain⟨g,F,_⟩:=h.k4 (cX H);exact⟨g,0,F⟩
theorem Hold.cell{i:Nat}{b:VB}(h:Hold RD w0 G w q i b)(hk:b.kd=0\/b.kd=2):∃g o,G.α i=some ⟨g,o,none⟩/\∀x v,b.cs[x]?=some v->w.cell? ⟨g,o+x,none⟩=some (r0 G.α v):=by
  rcases hk with H|H
  · obtain⟨g,F,_,_,_,M⟩:=h.k0 H
    refine⟨g,0,F,λx v hx=>?_⟩;unfold World.cell?;rw[show w.heap[(⟨g,0+x,none⟩:Addr).block]?=_ from M];simp[hx]
  · obtain⟨g,o,F,_,J,_⟩:=h.k2 H
    refine⟨g,o,F,λx v hx=>?_⟩;rw[(J x v hx).1,(J x v hx).2]
theorem newOk (E : Env P RD tt Γ) (M : ∀ k, G.Z k -> k < w.heap.size /\ ¬ G.RB k) (W : ∀ k, G.RB k -> k < w.heap.size) (J : w0.heap.size <= w.heap.size) (cs : List Value) (T : Nat) {cells : List Value} (F : ∀ β, (∀ i, i < id \/ id + 8 <= i -> β i = G.α i) -> cs.map (r0 β) = cells) :
    GS RD G w q ⟨λi=>if i=id then some ⟨w.heap.size,0,none⟩ else G.α i,G.Z,G.RB⟩ (w.alloc (.cells cells.toArray T)) (q+0) id/\
    NewOk RD w0 ⟨λi=>if i=id then some ⟨w.heap.size,0,none⟩ else G.α i,G.Z,G.RB⟩ w (w.alloc (.cells cells.toArray T)) (q+0) [(id,AT cs T)]:=by
  refine⟨GS.new E M W _,⟨λi b h=>?_,λi b h _=>?_,λi b j c h Y _ _ H=>?_⟩⟩
  · cases cZ.1 h
    refine⟨λ_=>⟨w.heap.size,dB rfl,J,λhk=>absurd (M _ hk).1 (gY _),λhk=>absurd (W _ hk) (gY _),?_⟩,λh=>(nomatch h),λh=>(nomatch h),λh=>(nomatch h),λh=>(nomatch h),.inl rfl⟩;show(w.heap.push _)[w.heap.size]?=_;rw[dk,dB rfl];rw[show(AT cs T).cs=cs from rfl,F _ λi Z=>dC (by omega)];rfl
  · cases cZ.1 h
    exact⟨w.heap.size,dB rfl,AG _⟩
  · cases cZ.1 h
    cases cZ.1 Y;exact absurd rfl H
theorem tyU_ok(E:Env P RD tt Γ){T u:Nat}(h:Nat.beq (tyU tt T) u=true)(J:u≠99):∃e,tyo tt T=some e/\TEok P e/\e.u=u/\T=e.ty:=by
  have F:=cX h;unfold tyU at F;split at F
  · rename_i e H
    exact⟨e,H,(E.ty H).1,F,(E.ty H).2.symm⟩
  · exact absurd F.symm J
theorem NY(E:Env P RD tt Γ){F:Array Nat}{u:Nat}(h:Oq tt F u=true)(H:u≠99):∃e,TEok P e/\e.u=u/\F[0]?=some e.ty:=by
  unfold Oq at h;split at h
  · rename_i T Y
    obtain⟨e,_,J,M,W⟩:=tyU_ok E h H;exact⟨e,J,M,by rw[Y,W]⟩
  · cases h
theorem NR{args:Array Operand}{f:Operand->Value}{v:Value}(h:args.toList.map f=[v]):∃x,args=#[x]/\f x=v:=by
  match ha:args.toList,h with
  |[x],h=>exact⟨x,by rw[<-ff (xs:=args),ha],by simpa using h⟩
theorem KV{v:Value}(h:FB v=true)(α:Nat->Option Addr):(r2 α v).cells.toList=(Aa v).map (r0 α):=by
  cases v with
  |tuple _=>cases h
  |agg cs=>show(cs.map (r0 α)).toList=cs.toList.map (r0 α);rw[eJ]
  |iface i u=>cases u<;>first|rfl|(rename_i p;cases p<;>rfl)
  |_=>rfl
theorem RS (H : List (Nat × Nat)) (α : Nat -> Option Addr) : ∀ (is : List Nat) (vs cs F : List Value), LP H cs is vs = some F ->
    Instr.fill (H.toArray[·]?) (cs.map (r0 α)).toArray (is.zip (vs.map (r2 α)))=some (F.map (r0 α)).toArray
  |[],[],cs,F,h=>by cases h;rfl
  |[],_::_,cs,F,h=>by cases h
  |_::_,[],cs,F,h=>by cases h
  |i::is,v::vs,cs,F,h=>by
    unfold LP at h;split at h
    · rename_i off sz Y
      cases hb:(FB v&&Nat.beq (Aa v).length sz&&Nat.ble (off+(Aa v).length) cs.length) with
      |false=>rw[hb]at h;cases h
      |true=>
        rw[hb]at h;simp only[cY]at hb;obtain⟨⟨h1,h2⟩,Z⟩:=hb;have M:=cX h2;have aa:=AD Z;have W:=KV h1 α;have J:(r2 α v).cells.size=(Aa v).length:=by rw[<-dT,W,fw]
        have:=RS H α is vs _ F h;rw[dz,List.zip_cons_cons,Instr.fill];rw[show H.toArray[i]?=some (off,sz) from by simpa using Y];simp only[J,M,ne_eq,not_true_eq_false,decide_false,ir,ek,fw];rw[dC (by simp;omega)];rw[<-this]
        congr 1
        have hf:=Mt (r2 α v).cells.toList off 0 (cs.map (r0 α)) (by rw[dT,J,fw];omega);rw[dT,J]at hf;simp only[fW]at hf;rw[gt,gt,List.map_take,List.map_drop,<-W,<-hf];rw[<-Array.foldl_toList,Array.toList_zipIdx]
    · cases h
theorem RH{cs:qL}(h:cs.all noV=true):cs.flatMap Cf=[]:=by
  rw[List.flatMap_eq_nil_iff];intro v hv;have:=dh.1 h v hv;cases v<;>first|rfl|cases this
theorem Kv{v:Value}(h:∀β,r0 β v=v):Cf v=[]:=by
  cases v with
  |complex k i o=>cases h λ_=>none
  |iface i u=>
    cases u with
    |slice a n c=>cases h λ_=>none
    |pointer p=>
      cases p with
      |none=>rfl
      |some p=>cases h λ_=>none
    |_=>rfl
  |_=>rfl
theorem Qe{v:Value}(h:FB v=true):(Aa v).flatMap Cf=BS v:=by
  cases v with
  |tuple _=>cases h
  |agg cs=>rfl
  |_=>show [_].flatMap Cf=_;simp only[eI,List.flatMap_nil,gu];rfl
theorem Mw(Y:List (Nat × Nat)):∀(is:List Nat) (vs cs F:qL),LP Y cs is vs=some F->∀i∈F.flatMap Cf,i∈cs.flatMap Cf\/i∈vs.flatMap BS
  |[],[],cs,F,h,i,M=>by cases h;exact .inl M
  |[],_::_,cs,F,h,_,_=>by cases h
  |_::_,[],cs,F,h,_,_=>by cases h
  |j::is,v::vs,cs,F,h,i,M=>by
    unfold LP at h;split at h
    · rename_i off sz Z
      cases hb:(FB v&&Nat.beq (Aa v).length sz&&Nat.ble (off+(Aa v).length) cs.length) with
      |false=>rw[hb]at h;cases h
      |true=>
        rw[hb]at h;simp only[cY]at hb;rw[eI];rcases Mw Y is vs _ F h i M with H|H
        · simp only[List.flatMap_append,dt]at H
          rcases H with(H|H)|H
          · obtain⟨u,W,J⟩:=dR.1 H
            exact .inl (dR.2 ⟨u,eE W,J⟩)
          · rw[Qe hb.1.1]at H;exact .inr (dt.2 (.inl H))
          · obtain⟨u,W,J⟩:=dR.1 H
            exact .inl (dR.2 ⟨u,ep W,J⟩)
        · exact .inr (dt.2 (.inr H))
    · cases h
theorem Hw(id:Nat)(m:AY)(b:VB):Clo ([(id,b)]++m) (BS (.complex .f64 id 0)):=λi F=>by
  cases cZ.1 F;exact⟨b,Ad _ _ _⟩
theorem Clo.cons{m:AY}{l:List Nat}(h:Clo m l)(p:Nat × VB):Clo (p::m) l:=h.mono λi b hb=>by
  by_cases e:p.1=i
  · subst e;exact⟨p.2,Ad _ _ _⟩
  · exact⟨b,(At e _ _).trans hb⟩
theorem Fs(id:Nat)(m:AY)(b:VB)(h:Clo ((id,b)::m) (b.cs.flatMap Cf)):OkE id (id+8) ([(id,b)]++m) [(id,b)]:=λi H F=>by
  cases cZ.1 F;exact⟨AG _,by omega,h⟩
theorem RL (E : Env P RD tt Γ) {ρ : Operand -> Value} {o : Oper} {α : Nat -> Option Addr} {T off : Nat} {cs : List Value} {x : Operand} {g o' : Nat} (M : o.op = .load T x) (hx : ρ x = .pointer (some ⟨g, o' + off, none⟩)) (H : ∀ y v, cs[y]? = some v -> w.cell? ⟨g, o' + y, none⟩ = some (r0 α v)) {k0 : Value -> Prop} (F : ldv tt T cs off k0) :
    ∃v,(execOp ρ o).run P w=.ok (.value (r2 α v)) w/\(∀k,ldv tt T cs off k->k v)/\∀i∈BS v,i∈cs.flatMap Cf:=by
  unfold ldv at F;split at F
  · rename_i e he
    obtain⟨h1,h2⟩:=E.ty he;subst h2
    cases W:Nat.beq e.u 4 with
    |true=>
      simp only[W,eD]at F
      cases Z:Nat.ble (off+e.size) cs.length with
      |false=>rw[Z]at F;exact F.elim
      |true=>
        have ak:=AD Z;refine⟨.agg ((cs.drop off).take e.size).toArray,?_,λk h=>(by unfold ldv at h;simp only[he,W,Z,eD,KQ]at h;exact h),λi hi=>?_⟩
        · rw[show r2 α (.agg ((cs.drop off).take e.size).toArray)=.agg (((cs.drop off).take e.size).map (r0 α)).toArray from by show Value.agg _=_;simp]
          refine MQ h1 (cX W) M hx (by simp;omega) λj v hv=>?_
          rw[eh]at hv
          cases J:((cs.drop off).take e.size)[j]? with
          |none=>rw[J]at hv;cases hv
          |some u=>
            rw[J]at hv;cases hv;rw[JX,eq];refine H _ _ ?_;rw[eK]at J;split at J
            · rwa [ej]at J
            · cases J
        · obtain⟨u,W,Y⟩:=dR.1 (show i∈(((cs.drop off).take e.size).toArray.toList).flatMap Cf from hi)
          exact dR.2 ⟨u,ep (eE (by simpa using W)),Y⟩
    |false=>
      simp only[W,cond_false]at F;have Y:e.u≠4:=λh=>by rw[h]at W;cases W
      split at F
      · rename_i bb hv
        exact⟨.bool bb,Iz h1 Y M hx (H _ _ hv),λk h=>Nq _ k (by unfold ldv at h;simp only[he,W,cond_false,hv]at h;exact h),λ_ h=>(nomatch h)⟩
      · rename_i v ah hv
        cases ho:Fr v with
        |false=>rw[ho]at F;exact F.elim
        |true=>
          refine⟨v,by rw[(Dp ho _).1];exact Iz h1 Y M hx (H _ _ hv),λk h=>?_,λi hi=>dR.2 ⟨v,AE hv,by rwa [(Dp ho α).2.1]at hi⟩⟩;unfold ldv at h;simp only[he,W,cond_false,hv]at h;cases v<;>first|(simp only[ho,eD]at h;exact h)|exact absurd rfl (ah _)
      · exact F.elim
  · exact F.elim
theorem OJ{b:VB}{i lo len cp:Nat}(hb:b.kd=1)(h:Hold RD w0 G w q i b)(M:lo+len<=b.n)(F:cp=lo->lo=0\/len=0):Hold RD w0 ⟨λj=>if j=id then(if cp=lo then G.α i else(G.α i).map (·.add (lo*b.sz))) else G.α j,G.Z,G.RB⟩ w q id (EP b lo len):=by
  refine⟨λh=>(nomatch h),λ_ j H=>?_,λh=>(nomatch h),λh=>(nomatch h),λh=>(nomatch h),.inr (.inl rfl)⟩;have H:j<len:=H;obtain⟨g,o,el,Y,e2,e3,e4⟩:=h.k1 hb (lo+j) (by omega);refine⟨g,o+lo*b.sz,el,?_,e2,e3,?_⟩
  · show(if id=id then _ else _)=_
    rw[dB rfl,Y];split
    · rename_i W
      rcases F W with J|J
      · subst J;simp
      · omega
    · rw[eo,JX]
  · rw[show o+lo*b.sz+j*(EP b lo len).sz=o+(lo+j)*b.sz from by show o+lo*b.sz+j*b.sz=_;rw[fi];omega]
    exact e4
theorem Mb (E : Env P RD tt Γ) {o : Oper} {a : Act} {vs : List Value} {m : AY} {next : Act -> World -> Prop} {Q : Exit -> Act -> World -> Prop}
    (hz:∀k,G.Z k->k<w.heap.size/\¬G.RB k) (hR:∀k,G.RB k->k<w.heap.size) (aL:w0.heap.size<=w.heap.size)
    (hm:∀i b,lk m i=some b->Hold RD w0 G w q i b/\(i<id\/id+8<=i)) (b7:∀i b,lk m i=some b->Clo m (b.cs.flatMap Cf)) (ay:Clo m (vs.flatMap BS))
    (J:(BT o.op).map a.eval=vs.map (r2 G.α)) (hq:Af Γ o=0\/q+Af Γ o<=QM)
    {k0:Value->AY->Prop} (F:opg tt Γ id o.op vs (Fa m (vs.flatMap BS)) k0)
    (Z:∀v es' G' w',(∀k,opg tt Γ id o.op vs (Fa m (vs.flatMap BS)) k->k v es')->GS RD G w q G' w' (q+Af Γ o) id->NewOk RD w0 G' w w' (q+Af Γ o) es'->Clo (es'++m) (BS v)->OkE id (id+8) (es'++m) es'->next (a.put o.dst (r2 G'.α v)) w'):
    o.wp P a w next Q:=by
  unfold Oper.wp
  have M:∀v v',(execOp a.eval o).run P w=.ok (.value v') w->v'=r2 G.α v->Af Γ o=0->Clo m (BS v)->(∀k,opg tt Γ id o.op vs (Fa m (vs.flatMap BS)) k->k v [])->o.upon P a next Q ((execOp a.eval o).run P w):=λv v' hr hv hc bS hk=>by
    rw[hr,hv,gG];exact Z v [] G w hk (by rw[hc];exact GS.refl E hz hR) .nil bS (λ_ _ h=>(nomatch h))
  have am:∀v,v∈vs->Clo m (BS v):=λv hv i hi=>ay i (dR.2 ⟨v,hv,hi⟩)
  have ak:Clo m []:=λ_ h=>(nomatch h)
  generalize H:o.op=op at F J Z M;unfold opg at F;split at F
  · rename_i x v
    exact M v _ (DG H) (by simpa [BT] using J) (by simp[Af,H]) (am v (by simp)) λk hk=>hk
  · rename_i x v
    exact M v _ (Kq H) (by simpa [BT] using J) (by simp[Af,H]) (am v (by simp)) λk hk=>hk
  · rename_i c x y v u
    simp only[BT,dz,dP,dv,dV]at J;exact M v _ (OR (b:=true) H J.1) (by rw[dB rfl];exact J.2.1) (by simp[Af,H]) (am v (by simp)) λk hk=>hk
  · rename_i c x y v u
    simp only[BT,dz,dP,dv,dV]at J;exact M u _ (OR (b:=false) H J.1) J.2.2 (by simp[Af,H]) (am u (by simp)) λk hk=>hk
  · rename_i op T x y T2 n1 n2
    simp only[BT,dz,dP,dv,dV]at J;obtain⟨v,hr,hk⟩:=run_ibin (P:=P) (w:=w) H J.1 J.2 F;obtain⟨h1,h2⟩:=hk (λv=>v=r2 G.α v/\BS v=[]) (by cases op<;>simp only[ibin]at F ⊢<;>first|(intros;exact⟨rfl,rfl⟩)|exact⟨F.1,λ_ _=>⟨rfl,rfl⟩⟩|exact⟨λ_=>⟨rfl,rfl⟩,λ_=>⟨rfl,rfl⟩⟩);exact M v v hr h1 (by simp[Af,H]) (by rw[h2];exact ak) λk h=>hk (λv=>k v []) h
  · rename_i op T x y T2 n1 n2
    simp only[BT,dz,dP,dv,dV]at J;obtain⟨v,hr,hk⟩:=run_sbin (P:=P) (w:=w) H J.1 J.2 F;obtain⟨h1,h2⟩:=hk (λv=>v=r2 G.α v/\BS v=[]) (by cases op<;>simp only[sbin]at F ⊢<;>exact⟨λ_=>⟨rfl,rfl⟩,λ_=>⟨rfl,rfl⟩⟩);exact M v v hr h1 (by simp[Af,H]) (by rw[h2];exact ak) λk h=>hk (λv=>k v []) h
  · rename_i op T x y T2 n1 n2
    simp only[BT,dz,dP,dv,dV]at J
    cases hb:Nat.beq (tyU tt T) 1 with
    |false=>rw[hb]at F;exact F.elim
    |true=>
      rw[hb]at F;have hu:=cX hb;unfold tyU at hu;split at hu
      · rename_i e he
        obtain⟨h1,h2⟩:=E.ty he;subst h2
        replace F:bbin op n1 n2 (λv=>k0 v []):=F
        obtain⟨v,hr,hk⟩:=run_bbin (P:=P) (w:=w) h1 hu H J.1 J.2 F;obtain⟨h5,h6⟩:=hk (λv=>v=r2 G.α v/\BS v=[]) (by cases op<;>cases n1<;>cases n2<;>first|exact F.elim|exact⟨rfl,rfl⟩);refine M v v hr h5 (by simp[Af,H]) (by rw[h6];exact ak) λk h=>hk (λv=>k v []) (by have h':(bif (tyU tt e.ty).beq 1 then bbin op n1 n2 λv=>k v [] else False):=h;rw[hb]at h';exact h')
      · cases hu
  · rename_i T x y T2 a1 a2
    simp only[BT,dz,dP,dv,dV]at J;split at F
    · rename_i e he
      obtain⟨h1,h2⟩:=E.ty he;subst h2
      cases hb:(Nat.beq e.u 4&&Nat.beq e.el 2&&Dc e.zero a1.toList) with
      |false=>rw[hb]at F;exact F.elim
      |true=>
        rw[hb]at F;obtain⟨rfl,_⟩:a1=a2/\k0 (.bool false) []:=F;have W:=hb;simp only[cY]at W
        have hm:a1.map (r0 G.α)=a1:=by
          have:=KO G.α _ _ W.2;rw[<-eJ]at this;exact Array.toList_inj.1 this
        have bO:r2 G.α (.agg a1)=.agg a1:=by show Value.agg (a1.map (r0 G.α))=_;rw[hm]
        rw[bO]at J;exact M (.bool false) _ (h1.eqs (cX W.1.1) (cX W.1.2) _ _ _ _ _ _ _ H J.1 J.2 W.2) rfl (by simp[Af,H]) ak λk h=>by simp only[opg,he,hb,eD]at h;exact h.2
    · exact F.elim
  · rename_i T x
    simp only[BT,dz,dP,dv,dV]at J;exact M (.bool false) _ (Q2 (b:=true) H J) rfl (by simp[Af,H]) ak λk hk=>hk
  · rename_i T x
    simp only[BT,dz,dP,dv,dV]at J;exact M (.bool true) _ (Q2 (b:=false) H J) rfl (by simp[Af,H]) ak λk hk=>hk
  · rename_i T
    split at F
    · rename_i e he
      obtain⟨h1,h2⟩:=E.ty he;subst h2
      cases hb:e.zero.all noV with
      |false=>rw[hb]at F;exact F.elim
      |true=>
        rw[Ry h1 H,gG];have hn:=newOk (id:=id) E hz hR aL (q:=q) e.zero e.ty (fun β _=>KL hb β);have hc:Af Γ o=0:=by simp[Af,H]
        have:=Z (.complex .f64 id 0) [(id,AT e.zero e.ty)] _ _ (λk h=>by
          have h':(match tyo tt e.ty with|some e'=>bif e'.zero.all noV then k (.complex .f64 id 0) [(id,AT e'.zero e.ty)] else False|none=>False):=h
          rw[he]at h';simp only[hb,eD]at h';exact h') (by rw[hc];exact hn.1) (by rw[hc];exact hn.2) (Hw id m _) (Fs id m _ (by rw[show(AT e.zero e.ty).cs=e.zero from rfl,RH hb];exact λ_ h=>(nomatch h)))
        rwa [show r2 _ (Value.complex .f64 id 0)=.pointer (some ⟨w.heap.size,0,none⟩) from by show Value.pointer (Option.map _ (if id=id then _ else _))=_;rw[dB rfl];rfl]at this
    · exact F.elim
  · rename_i T x v
    simp only[BT,dz,dP,dv,dV]at J;have hc:Af Γ o=0:=by simp[Af,H]
    have a7:∀j∈BS v,j<id\/id+8<=j:=λj hj=>let ⟨b,hb⟩:=ay j (by simpa using hj);(hm j b hb).2
    rw[run_box H,gG];have hp:∀β:Gh,r2 (Gh.α ⟨λi=>if i=id then some ⟨w.heap.size,0,none⟩ else G.α i,G.Z,G.RB⟩) (Value.complex .f64 id 0)=.pointer (some ⟨w.heap.size,0,none⟩):=λ_=>by show Value.pointer (Option.map _ (if id=id then _ else _))=_;rw[dB rfl];rfl
    split at F
    · rename_i cs
      have hn:=newOk (id:=id) E hz hR aL (q:=q) cs.toList T (cells:=(cs.map (r0 G.α)).toList) (fun β hβ=>by rw[eJ];exact FZ (β:=β) (α:=G.α) FW cs.toList λj hj=>hβ j (a7 j hj));have:=Z (.complex .f64 id 0) [(id,AT cs.toList T)] _ _ (λk h=>h) (by rw[hc];exact hn.1) (by rw[hc];exact hn.2) (Hw id m _) (Fs id m _ ((am (.agg cs) (by simp)).cons _));rw[hp G]at this;rw[J,show(r2 G.α (Value.agg cs)).cells=(cs.map (r0 G.α)).toList.toArray from rfl];exact this
    · rename_i bZ
      cases hb:Fr v with
      |false=>rw[hb]at F;exact F.elim
      |true=>
        have h1:=Dp hb G.α;have hn:=newOk (id:=id) E hz hR aL (q:=q) [v] T (cells:=[r0 G.α v]) (fun β hβ=>FZ (β:=β) (α:=G.α) FW [v] λj hj=>hβ j (a7 j (by rw[h1.2.1];simpa using hj)))
        have:=Z (.complex .f64 id 0) [(id,AT [v] T)] _ _ (λk h=>by
          cases v<;>first|(simp only[opg,hb,eD]at h;exact h)|exact absurd rfl (bZ _)) (by rw[hc];exact hn.1) (by rw[hc];exact hn.2) (Hw id m _) (Fs id m _ (Clo.cons (by rw[show(AT [v] T).cs.flatMap Cf=BS v from by rw[h1.2.1];show [v].flatMap Cf=_;simp];exact am v (by simp)) _))
        rw[hp G]at this;rw[J,h1.2.2.1];exact this
  · rename_i T ps
    split at F
    · rename_i e he
      obtain⟨h1,h2⟩:=E.ty he;subst h2
      · cases hb:(Nat.beq e.u 4&&e.zero.all noV) with
        |false=>rw[hb]at F;exact F.elim
        |true=>
          rw[hb,eD]at F;obtain⟨cs,hf,_⟩:=H6 _ _ _ F;have W:=hb;simp only[cY]at W;obtain⟨fs,hd,bY,_⟩:=h1.struct (cX W.1);obtain⟨it,z,hi,_,ca,bX⟩:=h1.bG;have a4:=RS e.bm G.α _ _ _ _ hf;rw[KL W.2]at a4
          have br:(ps.map λp=>(p.1,a.eval p.2)).toList=(ps.toList.map (·.1)).zip (vs.map (r2 G.α)):=by
            rw[<-J,eJ];show _=(ps.toList.map _).zip ((ps.toList.map _).map _);rw[gw,List.zip_map',];rfl
          refine M (.agg cs.toArray) (.agg (cs.map (r0 G.α)).toArray) ?_ (by show _=Value.agg _;simp) (by simp[Af,H]) (λi hi=>?_) λk h=>?_
          · have bM:P.built e.ty (ps.map λp=>(p.1,a.eval p.2)).toList=some (cs.map (r0 G.α)).toArray:=by
              unfold Program.built;rw[hi,hd,br];simp only[ca,bY];rw[<-ff (xs:=z.cells),bX];exact a4
            have:=run_build (P:=P) w e.ty _ _ bM;simp only[execOp,H];rw[show(ps.map λ(x:Nat × Operand)=>match x with|(i,x)=>(i,a.eval x))=ps.map λp=>(p.1,a.eval p.2) from rfl];simp only[ew,this,Result.andThen_ok,Sem.run_pure]
          · rcases Mw _ _ _ _ _ hf i (by have h':i∈cs.toArray.toList.flatMap Cf:=hi;rwa [gN]at h') with h|h
            · rw[RH W.2]at h;cases h
            · exact ay i h
          · simp only[opg,he,hb,eD]at h
            obtain⟨cv,bx,hk⟩:=H6 _ _ _ h;rw[hf]at bx;cases bx;exact hk
    · exact F.elim
  · rename_i T n ps
    split at F
    · rename_i e he
      split at F
      · rename_i e' al
        cases hb:(Nat.beq e.u 3&&Nat.beq vs.length n&&Me (ps.toList.map (·.1)) 0&&Nat.ble 1 e'.size&&Nat.ble (n*e'.size) 16777216&&vs.all (λv=>Nat.beq (Aa v).length e'.size&&(Aa v).all (λu=>noV u&&Fr u))) with
        |false=>rw[hb]at F;exact F.elim
        |true=>
          obtain⟨h1,h2⟩:=E.ty he;obtain⟨h3,h4⟩:=E.ty al;subst h2;have W:=hb;simp only[cY]at W;obtain⟨⟨⟨⟨⟨b1,b2⟩,b3⟩,b4⟩,b5⟩,b6⟩:=W
          have aw:∀v∈vs,(Aa v).length=e'.size/\∀u∈Aa v,noV u=true/\Fr u=true:=λv hv=>by
            have:=dh.1 b6 v hv;simp only[cY]at this;exact⟨cX this.1,λu hu=>by have:=dh.1 this.2 u hu;simpa using this⟩
          have ay:∀v∈vs,(r2 G.α v).cells.toList=Aa v:=λv hv=>by
            have h5:=(aw v hv).2;rcases Lm v with⟨cs,rfl⟩|⟨_,_,_,e4⟩
            · rw[KV rfl];exact KL (dh.2 λu hu=>(h5 u hu).1) _
            · rw[e4]at h5 ⊢
              obtain⟨h6,h7⟩:=h5 v (by simp);rw[(Dp h7 G.α).2.2.1,F0 h6]
          have aI:(ps.toList.map λp=>a.eval p.2)=vs.map (r2 G.α):=by rw[<-J];show _=(ps.toList.map _).map _;rw[gw];rfl
          have hc:Af Γ o=0:=by simp[Af,H]
          have b9:ps.size=n:=by
            have:=em List.length aI;simp at this;rw[this];exact cX b2
          rw[Jg h1 (cX b1) h3 h4 H b9 b3 (AD b4) (AD b5) (λv hv=>by
            rw[aI]at hv;obtain⟨u,hu,rfl⟩:=fz.1 hv
            rw[<-dT,ay u hu];exact(aw u hu).1),gG]
          have a4:((ps.toList.map λp=>a.eval p.2).flatMap λv=>v.cells.toList)=(vs.map Aa).flatten:=by
            rw[aI,fI,gw];exact em _ (fj λv hv=>ay v hv)
          rw[a4];have Y:=GS.new (id:=id) (q:=q) E hz hR (.cells (vs.map Aa).flatten.toArray e.el);have ch:(vs.map Aa).length=n:=by rw[fw];exact cX b2
          have:=Z (.iface id (.slice none n n)) [(id,Dd e.el e'.size (vs.map Aa))] _ _ (λk h=>by
            simp only[opg,he,al,hb,eD]at h
            exact h) (by rw[hc];exact Y) (by
            rw[hc];refine⟨λi b h=>?_,λi b h _=>?_,λi b j c h h' _ _ bB=>?_⟩
            · cases cZ.1 h
              refine⟨λh=>(nomatch h),λh=>(nomatch h),λh=>(nomatch h),λ_=>⟨w.heap.size,vs.map Aa,dB rfl,aL,λhk=>absurd (hz _ hk).1 (gY _),λhk=>absurd (hR _ hk) (gY _),rfl,λel aq=>?_,?_,λj el hj=>⟨λk hk=>hk el hj,λ_ _=>trivial⟩⟩,λh=>(nomatch h),.inr (.inr (.inr (.inl rfl)))⟩
              · obtain⟨v,hv,rfl⟩:=fz.1 aq
                refine⟨(aw v hv).1,λu hu=>?_⟩;obtain⟨h6,h7⟩:=(aw v hv).2 u hu;exact⟨by rw[<-F0 h6 G.α];exact(Dp h7 G.α).2.2.2,fun β=>F0 h6 β⟩
              · have bm:((vs.map Aa).flatten).length=(vs.map Aa).length*e'.size:=JF λel aq=>by obtain⟨v,hv,rfl⟩:=fz.1 aq;exact(aw v hv).1
                refine⟨bm,AG _,(vs.map Aa).flatten.toArray,?_,?_,?_⟩
                · show(w.heap.push _)[w.heap.size]?=_
                  rw[dk,dB rfl];rfl
                · rw[ek];exact bm
                · rw[gN];exact er (fH bm)
            · cases cZ.1 h
              exact⟨w.heap.size,dB rfl,AG _⟩
            · cases cZ.1 h
              cases cZ.1 h'
              exact absurd rfl bB) (λi hi=>by
            cases cZ.1 (show i∈[id] from hi)
            exact⟨_,Ad _ _ _⟩) (Fs id m _ (λ_ h=>(nomatch h)))
          rwa [show r2 _ (Value.iface id (.slice none n n))=.slice (some ⟨w.heap.size,0,none⟩) n n from by show Value.slice (if id=id then _ else _) _ _=_;rw[dB rfl]]at this
      · exact F.elim
    · exact F.elim
  · rename_i T x f cs
    simp only[BT,dz,dP,dv,dV]at J;split at F
    · rename_i e he
      split at F
      · rename_i off sz hf
        split at F
        · rename_i n1 hv
          cases hb:(Nat.beq e.u 4&&Nat.beq e.el 1) with
          |false=>rw[hb]at F;exact F.elim
          |true=>
            obtain⟨h1,h2⟩:=E.ty he;subst h2;have W:=hb;simp only[cY]at W;refine M (.int .i64 n1) (.int .i64 n1) (Rx h1 (cX W.1) (cX W.2) hf H J ?_) rfl (by simp[Af,H]) ak λk h=>?_
            · rw[iN]at hv
              rw[Array.getElem?_map,hv];rfl
            · simp only[opg,he,hf,hv,hb,eD]at h
              exact h
        · exact F.elim
      · exact F.elim
    · exact F.elim
  · rename_i T x i n1 sz f
    simp only[BT,dz,dP,dv,dV]at J;split at F
    · rename_i b hl
      cases hb:(Nat.beq b.kd 3&&Nat.beq sz b.sz) with
      |false=>rw[hb]at F;exact F.elim
      |true=>
        rw[hb]at F;have W:=hb;simp only[cY]at W;obtain⟨g,els,hg,_,_,_,hk⟩:=(hm i b (DM hl)).1.k3 (cX W.1);obtain⟨el,aq⟩:∃el,els[n1]?=some el:=⟨els[n1]'(by rw[hk.1];exact F.1),by simp⟩
        have hx:a.eval x=.pointer (some ⟨g,n1*b.sz+f,none⟩):=by
          rw[J];show Value.pointer ((G.α i).map _)=_;rw[hg,<-cX W.2,eo,JX,dJ];rfl
        have aF:=(hk.2.1 el (AE aq)).2
        obtain⟨v,h1,h2,h3⟩:=RL (P:=P) (w:=w) (α:=G.α) (cs:=el) (o':=n1*b.sz) E H hx (λy v hv=>by
          rw[(aF v (AE hv)).2];refine hk.2.2.1.cell ?_;rw[Nf (λe he=>(hk.2.1 e he).1) n1 el aq y (by have:=(AC hv).1;rw[(hk.2.1 el (AE aq)).1]at this;exact this)]
          exact hv) ((hk.2.2.2 n1 el aq).1 _ F.2)
        refine M v _ h1 rfl (by simp[Af,H]) (λj hj=>?_) λk h=>?_
        · obtain⟨u,hu,aH⟩:=dR.1 (h3 j hj)
          rw[Kv (aF u hu).2]at aH;cases aH
        · simp only[opg,hl,hb,eD]at h
          exact h2 _ ((hk.2.2.2 n1 el aq).1 _ h.2)
    · exact F.elim
  · rename_i T x f i n1 sz off
    simp only[BT,dz,dP,dv,dV]at J;split at F
    · rename_i e b he hl
      obtain⟨h1,h2⟩:=E.ty he;subst h2;split at F
      · rename_i p hf
        cases hb:(Nat.beq e.u 4&&Nat.beq b.kd 3) with
        |false=>rw[hb]at F;exact F.elim
        |true=>
          have W:=hb;simp only[cY]at W;obtain⟨g,els,hg,_⟩:=(hm i b (DM hl)).1.k3 (cX W.2)
          have hp:∀y,r2 G.α (.iface i (.pointer (some ⟨n1,sz,some y⟩)))=.pointer (some ⟨g,n1*sz+y,none⟩):=λy=>by
            show Value.pointer ((G.α i).map _)=_;rw[hg,eo,JX,dJ];rfl
          rw[hp]at J;refine M (.iface i (.pointer (some ⟨n1,sz,some (off+p.1)⟩))) _ (FN (sz:=p.2) h1 (cX W.1) hf H J) ?_ (by simp[Af,H]) (am (.iface i (.pointer (some ⟨n1,sz,some off⟩))) (by simp)) λk h=>?_
          · rw[hp,JX,eq]
          · simp only[opg,he,hl,hf,hb,eD]at h
            exact h
      · exact F.elim
    · exact F.elim
  · rename_i T x fk i off
    simp only[BT,dz,dP,dv,dV]at J;split at F
    · rename_i b hl
      cases hb:(Nat.beq b.kd 0||Nat.beq b.kd 2) with
      |false=>rw[hb]at F;exact F.elim
      |true=>
        rw[hb]at F
        have cb:b.kd=0\/b.kd=2:=by
          rcases eN.1 hb with h|h
          · exact .inl (cX h)
          · exact .inr (cX h)
        obtain⟨g,o',hg,bb⟩:=(hm i b (DM hl)).1.cell cb;have hx:a.eval x=.pointer (some ⟨g,o'+off,none⟩):=by rw[J,Fq fk off hg]
        replace F:ldv tt T b.cs off (λv=>k0 v []):=F
        obtain⟨v,h1,h2,h3⟩:=RL (P:=P) (w:=w) (α:=G.α) E H hx bb F
        exact M v _ h1 rfl (by simp[Af,H]) (λj hj=>b7 i b (DM hl) j (h3 j hj)) λk h=>by
          simp only[opg,hl,hb,eD]at h;exact h2 _ h
    · exact F.elim
  · rename_i T x f fk i off
    simp only[BT,dz,dP,dv,dV]at J;split at F
    · rename_i e b he hl
      obtain⟨h1,h2⟩:=E.ty he;subst h2;split at F
      · rename_i p hf
        cases hb:(Nat.beq e.u 4&&Rz b) with
        |false=>rw[hb]at F;exact F.elim
        |true=>
          simp only[cY]at hb;obtain⟨g,o',hg⟩:=(hm i b (DM hl)).1.at hb.2;have hx:a.eval x=.pointer (some ⟨g,o'+off,none⟩):=by rw[J,Fq fk off hg]
          refine M (.complex fk i (off+p.1)) _ (FN (sz:=p.2) h1 (cX hb.1) hf H hx) ?_ (by simp[Af,H]) (am (.complex fk i off) (by simp)) λk h=>?_
          · rw[Fq fk _ hg,JX,eq]
          · simp only[opg,he,hl,hf,hb.1,hb.2,iu,eD]at h
            exact h
      · exact F.elim
    · exact F.elim
  · rename_i T x y i sa n cap n1
    simp only[BT,dz,dP,dv,dV]at J;split at F
    · rename_i b hl
      split at F
      · rename_i e he
        split at F
        · rename_i e' al
          cases hb:(Nat.beq e.u 3&&Nat.beq e'.size b.sz) with
          |false=>rw[hb]at F;exact F.elim
          |true=>
           rw[hb]at F;have W:=hb;simp only[cY]at W;obtain⟨h1,h2⟩:=E.ty he;obtain⟨h3,h4⟩:=E.ty al;subst h2
           cases aK:Nat.beq b.kd 1 with
           |false=>
            rw[aK]at F
            cases aW:Nat.beq b.kd 3 with
            |false=>rw[aW]at F;exact F.elim
            |true=>
              rw[aW]at F;obtain⟨h0,hn,bj,bU⟩:=F;obtain⟨g,els,hg,_⟩:=(hm i b (DM hl)).1.k3 (cX aW);have hx:a.eval x=.slice (qad g) n cap:=by rw[J.1];show Value.slice (G.α i) n cap=_;rw[hg]
              refine M (.iface i (.pointer (some ⟨n1.toNat,b.sz,some 0⟩))) _ (Hb h1 (cX W.1) h3 h4 H hx J.2 h0 hn) ?_ (by simp[Af,H]) (λj hj=>ay j (by
                rw[cZ.1 (show j∈[i] from hj)];show i∈[Value.iface i (.slice sa n cap),.int .i64 n1].flatMap BS
                exact dR.2 ⟨_,dK,cZ.2 rfl⟩)) λk h=>?_
              · show _=Value.pointer ((G.α i).map _)
                rw[hg,cX W.2];rfl
              · simp only[opg,hl,he,al,hb,aK,aW,eD,cond_false]at h
                exact h.2.2.2
           |true=>
            rw[aK]at F;obtain⟨h0,hn,bj,bU⟩:=F;obtain⟨g,o',el,hg,hZ,hQ,hE⟩:=(hm i b (DM hl)).1.k1 (cX aK) n1.toNat (by omega);have hx:a.eval x=.slice (some ⟨g,o',none⟩) n cap:=by rw[J.1];show Value.slice (G.α i) n cap=_;rw[hg]
            have hc:Af Γ o=0:=by simp[Af,H]
            rw[Hb h1 (cX W.1) h3 h4 H hx J.2 h0 hn,gG,JX,cX W.2];have Y:=GS.refl (P:=P) (tt:=tt) (Γ:=Γ) (id:=id) (q:=q) E hz hR
            have:=Z (.complex .f64 id 0) [(id,Qu el b.ty b.E)] ⟨λj=>if j=id then some ⟨g,o'+n1.toNat*b.sz,none⟩ else G.α j,G.Z,G.RB⟩ w (λk h=>by
                simp only[opg,hl,he,al,hb,aK,eD]at h
                exact hQ _ h.2.2.2)
              (by rw[hc];exact⟨Y.bE,λj hj=>dC (by omega),Y.z1,Y.z2,Y.z3,Y.r1,Y.r2,Y.r3,Y.rd⟩)
              ⟨λj c hj=>by
                cases cZ.1 hj
                exact⟨λh=>(nomatch h),λh=>(nomatch h),λ_=>⟨g,_,dB rfl,hZ,hE⟩,λh=>(nomatch h),λh=>(nomatch h),.inr (.inr (.inl rfl))⟩,
               λj c hj h=>(by cases cZ.1 hj;rcases h with h|h<;>cases h),λj c j' c' hj _ h=>(by cases cZ.1 hj;rcases h with h|h<;>cases h)⟩ (Hw id m _) (Fs id m _ (λx hx=>by
                obtain⟨u,hu,aH⟩:=dR.1 hx;obtain⟨y,hy⟩:=ef hu;rw[Kv ((hE.1 y u hy).2)]at aH
                cases aH))
            rw[Fq (g:=g) (o:=o'+n1.toNat*b.sz) .f64 0 (dB rfl)]at this;exact this
        · exact F.elim
      · exact F.elim
    · exact F.elim
  · rename_i T x y i sa n cap n1
    simp only[BT,Option.toList_some,Option.toList_none,eZ,gu,dz,dP,dv,dV]at J;split at F
    · rename_i b hl
      split at F
      · rename_i e he
        split at F
        · rename_i e' al
          cases hb:(Nat.beq e.u 3&&Nat.beq e'.size b.sz&&Nat.beq b.kd 1) with
          |false=>rw[hb]at F;exact F.elim
          |true=>
           rw[hb]at F;have W:=hb;simp only[cY]at W;obtain⟨h1,h2⟩:=E.ty he;obtain⟨h3,h4⟩:=E.ty al;subst h2;have hc:Af Γ o=0:=by simp[Af,H]
           obtain⟨h0,hn,bj,cB,b8⟩:=F;rw[run_slcL h1 (cX W.1.1) h3 h4 H J.1 J.2 h0 hn,gG,cX W.1.2];have Y:=GS.refl (P:=P) (tt:=tt) (Γ:=Γ) (id:=id) (q:=q) E hz hR
           have:=Z (.iface id (.slice none (n - n1.toNat) (cap - n1.toNat))) [(id,EP b n1.toNat (n - n1.toNat))] ⟨λj=>if j=id then(if cap=n1.toNat then G.α i else(G.α i).map (·.add (n1.toNat*b.sz))) else G.α j,G.Z,G.RB⟩ w (λk h=>by
               simp only[opg,hl,he,al,hb,eD]at h
               exact h.2.2.2.2)
             (by rw[hc];exact⟨Y.bE,λj hj=>dC (by omega),Y.z1,Y.z2,Y.z3,Y.r1,Y.r2,Y.r3,Y.rd⟩)
             ⟨λj c hj=>by
               cases cZ.1 hj
               rw[hc];exact OJ (cp:=cap) (cX W.2) (hm i b (DM hl)).1 (by omega) (by omega),
              λj c hj h=>(by cases cZ.1 hj;rcases h with h|h<;>cases h),λj c j' c' hj _ h=>(by cases cZ.1 hj;rcases h with h|h<;>cases h)⟩ (Hw id m _) (Fs id m _ (λ_ h=>(nomatch h)))
           rw[show r2 _ (Value.iface id (.slice none (n - n1.toNat) (cap - n1.toNat)))=sliced (G.α i) n1.toNat n cap b.sz from by show Value.slice (if id=id then _ else _) _ _=_;rw[dB rfl];rfl]at this;exact this
        · exact F.elim
      · exact F.elim
    · exact F.elim
  · rename_i T x y i sa n cap n1
    simp only[BT,Option.toList_some,Option.toList_none,eZ,gu,dz,dP,dv,dV]at J;split at F
    · rename_i b hl
      split at F
      · rename_i e he
        split at F
        · rename_i e' al
          cases hb:(Nat.beq e.u 3&&Nat.beq e'.size b.sz&&Nat.beq b.kd 1) with
          |false=>rw[hb]at F;exact F.elim
          |true=>
           rw[hb]at F;have W:=hb;simp only[cY]at W;obtain⟨h1,h2⟩:=E.ty he;obtain⟨h3,h4⟩:=E.ty al;subst h2;have hc:Af Γ o=0:=by simp[Af,H]
           obtain⟨h0,hn,bj,b8⟩:=F;rw[run_slcH h1 (cX W.1.1) h3 h4 H J.1 J.2 h0 hn,gG,cX W.1.2];have Y:=GS.refl (P:=P) (tt:=tt) (Γ:=Γ) (id:=id) (q:=q) E hz hR
           have:=Z (.iface id (.slice none (n1.toNat) (cap))) [(id,EP b 0 n1.toNat)] ⟨λj=>if j=id then(if cap=0 then G.α i else(G.α i).map (·.add (0*b.sz))) else G.α j,G.Z,G.RB⟩ w (λk h=>by
               simp only[opg,hl,he,al,hb,eD]at h
               exact h.2.2.2)
             (by rw[hc];exact⟨Y.bE,λj hj=>dC (by omega),Y.z1,Y.z2,Y.z3,Y.r1,Y.r2,Y.r3,Y.rd⟩)
             ⟨λj c hj=>by
               cases cZ.1 hj
               rw[hc];exact OJ (cp:=cap) (cX W.2) (hm i b (DM hl)).1 (by omega) (by omega),
              λj c hj h=>(by cases cZ.1 hj;rcases h with h|h<;>cases h),λj c j' c' hj _ h=>(by cases cZ.1 hj;rcases h with h|h<;>cases h)⟩ (Hw id m _) (Fs id m _ (λ_ h=>(nomatch h)))
           rw[show r2 _ (Value.iface id (.slice none (n1.toNat) (cap)))=sliced (G.α i) 0 n1.toNat cap b.sz from by show Value.slice (if id=id then _ else _) _ _=_;rw[dB rfl];rfl]at this;exact this
        · exact F.elim
      · exact F.elim
    · exact F.elim
  · rename_i args ts i sa n cap
    obtain⟨x,rfl,hx⟩:=NR J
    cases hb:Oq tt ts 3 with
    |false=>rw[hb]at F;exact F.elim
    |true=>
      obtain⟨e,h1,h2,h3⟩:=NY E hb (by decide);exact M (.int .i64 n) _ (Ha h1 h2 h3 H hx) rfl (by simp[Af,H]) ak λk h=>by simp only[opg,hb,eD]at h;exact h
  · rename_i args ts sa n cap
    obtain⟨x,rfl,hx⟩:=NR J
    cases hb:Oq tt ts 3 with
    |false=>rw[hb]at F;exact F.elim
    |true=>
      obtain⟨e,h1,h2,h3⟩:=NY E hb (by decide);exact M (.int .i64 n) _ (Ha h1 h2 h3 H hx) rfl (by simp[Af,H]) ak λk h=>by simp only[opg,hb,eD]at h;exact h
  · rename_i args ts s
    obtain⟨x,rfl,hx⟩:=NR J
    cases hb:Oq tt ts 2 with
    |false=>rw[hb]at F;exact F.elim
    |true=>
      obtain⟨e,h1,h2,h3⟩:=NY E hb (by decide);exact M (.int .i64 s.size) _ (Ko h1 h2 h3 H hx) rfl (by simp[Af,H]) ak λk h=>by simp only[opg,hb,eD]at h;exact h
  · rename_i f args ts
    split at F
    · rename_i c C hl
      obtain⟨bH,bI⟩:=E.ct f c C hl;have hc:Af Γ o=c:=by simp[Af,H,hl]
      have bf:args.map a.eval=(vs.map (r2 G.α)).toArray:=by rw[<-J];show args.map a.eval=(args.toList.map a.eval).toArray;rw[<-eJ,ff]
      rw[run_call bH H rfl,Oper.upon_enter,bf];rw[hc]at hq Z;refine(bI w0 G w q id vs _ k0 hz hR aL (λi b h=>(hm i b (GT _ _ _ _ h)).1) (λi b h=>(hm i b (GT _ _ _ _ h)).2) hq F).mono ?_;rintro e w' ⟨v,es',G',hk,rfl,hs,hn,b0,bl⟩
      have a9:∀l,Clo (es'++Fa m (vs.flatMap BS)) l->Clo (es'++m) l:=λl hl=>hl.mono λi b hb=>by
        rw[Ba]at hb ⊢
        cases he:lk es' i with
        |some b'=>exact⟨b',rfl⟩
        |none=>rw[he]at hb;exact⟨b,DM hb⟩
      exact Z v es' G' w' (λk h=>hk k (by simp only[opg,hl]at h;exact h)) hs hn (a9 _ b0) λi b hi=>⟨(bl i b hi).1,(bl i b hi).2.1,a9 _ (bl i b hi).2.2⟩
    · exact F.elim
  · rename_i x i us
    simp only[BT,dz,dP,dv,dV]at J;split at F
    · rename_i v hv
      cases hb:FB v with
      |false=>rw[hb]at F;exact F.elim
      |true=>
        refine M v (r1 G.α v) (OS (vs:=us.map (r1 G.α)) H J (by simp[hv])) ?_ (by simp[Af,H]) (λi hi=>?_) λk h=>?_
        · rcases Iu v with⟨_,rfl⟩|⟨h1,_⟩
          · cases hb
          · exact(h1 _).symm
        · rcases Iu v with⟨_,rfl⟩|⟨_,h2⟩
          · cases hb
          · rw[h2]at hi
            exact am (.tuple us) (by simp) i (dR.2 ⟨v,by rw[iT];exact Array.mem_of_getElem? hv,hi⟩)
        · simp only[opg,hv,hb,eD]at h;exact h
    · exact F.elim
  · rename_i x fk i off
    simp only[BT,dz,dP,dv,dV]at J;split at F
    · rename_i b hl
      cases hb:Rz b with
      |false=>rw[hb]at F;exact F.elim
      |true=>
        obtain⟨g,o',hg⟩:=(hm i b (DM hl)).1.at hb;rw[Fq fk off hg]at J;refine M (.complex fk i off) _ (II H J) (Fq fk off hg).symm (by simp[Af,H]) (am (.complex fk i off) (by simp)) λk h=>?_
        simp only[opg,hl,hb,eD]at h;exact h
    · exact F.elim
  · rename_i x i n1 sz off
    simp only[BT,dz,dP,dv,dV]at J;split at F
    · rename_i b hl
      cases hb:Nat.beq b.kd 3 with
      |false=>rw[hb]at F;exact F.elim
      |true=>
        obtain⟨g,els,hg,_⟩:=(hm i b (DM hl)).1.k3 (cX hb)
        have hp:r2 G.α (.iface i (.pointer (some ⟨n1,sz,some off⟩)))=.pointer (some ⟨g,n1*sz+off,none⟩):=by
          show Value.pointer ((G.α i).map _)=_;rw[hg,eo,JX,dJ];rfl
        rw[hp]at J;refine M (.iface i (.pointer (some ⟨n1,sz,some off⟩))) _ (II H J) hp.symm (by simp[Af,H]) (am (.iface i (.pointer (some ⟨n1,sz,some off⟩))) (by simp)) λk h=>?_
        simp only[opg,hl,hb,eD]at h;exact h
    · exact F.elim
  · exact F.elim
end
end Go.Proofs.YtbceafpodamnfaaGreatDoor
