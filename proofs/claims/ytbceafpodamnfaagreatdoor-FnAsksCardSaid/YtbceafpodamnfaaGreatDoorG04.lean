import Derived.Test.YtbceafpodamnfaaGreatDoorG03
set_option linter.all false
namespace Go.Proofs.YtbceafpodamnfaaGreatDoor
open Go.RowKit
open Go.Value renaming int->In,slice->Sl,string->Sg,bool->Bo,pointer->Po
open Go.IntKind renaming i64->i6
section
variable {P:Program} {RD:(Nat->Prop)->World->Nat->Nat->Prop} {w0:World} {tt:List TE} {Γ:List (Nat × Nat × Ct)}
def CH(P:Program)(RD:(Nat->Prop)->World->Nat->Nat->Prop)(f cost:Nat)(C:Ct):Prop:=
  ∀(w0:World) (G:Gh) (w:World) (q id:Nat) (vs:qL) (es:AW) (k0:Value->AW->Prop),(∀k,G.Z k->k<w.heap.size/\¬G.RB k)->(∀k,G.RB k->k<w.heap.size)->w0.heap.size<=w.heap.size->(∀i b,(i,b)∈es->Hold RD w0 G w q i b)->(∀i b,(i,b)∈es->i<id\/id+8<=i)->
    (cost=0\/q+cost<=QM)->C vs es id k0->
    Calls P f (vs.map (r2 G.α)).toArray w λe w'=>∃v es' G',(∀k,C vs es id k->k v es')/\e=.returned (r2 G'.α v)/\GS RD G w q G' w' (q+cost) id/\NewOk RD w0 G' w w' (q+cost) es'/\Clo (es'++es) (Bc v)/\OkE id (id+8) (es'++es) es'
structure Env(P:Program)(RD:(Nat->Prop)->World->Nat->Nat->Prop)(tt:List TE)(Γ:List (Nat × Nat × Ct)):Prop where
  rd:CR RD
  tt:∀e∈tt,TEok P e
  ct:∀f c C,lk Γ f=some (c,C)->NN P f=true/\CH P RD f c C
theorem SI:∀(l:List TE) (T:Nat) (e:TE),tyo l T=some e->e.ty=T/\e∈l
  |[],_,_,h=>by cases h
  |z::r,T,e,h=>by
    unfold tyo at h
    cases hb:Nat.beq z.ty T with
    |true=>rw[hb]at h;cases h;exact⟨dh hb,dP⟩
    |false=>rw[hb]at h;obtain⟨F,H⟩:=SI r T e h;exact⟨F,dQ _ H⟩
theorem Env.ty(E:Env P RD tt Γ){T:Nat}{e:TE}(h:tyo tt T=some e):TEok P e/\e.ty=T:=⟨E.tt e (SI tt T e h).2,(SI tt T e h).1⟩
theorem Ko(m:AW):∀(l:List Nat) (i:Nat) (b:VB),(i,b)∈LN m l->lk m i=some b
  |[],_,_,h=>by cases h
  |j::r,i,b,h=>by
    unfold LN at h;split at h
    · rename_i b' hb
      rcases dJ.1 h with e|h
      · cases e;exact hb
      · exact Ko m r i b h
    · exact Ko m r i b h
theorem Hx(m:AW):∀(l:List Nat) (i:Nat) (b:VB),(i,b)∈GW m l->lk m i=some b
  |[],_,_,h=>by cases h
  |j::r,i,b,h=>by
    unfold GW at h;split at h
    · rename_i b' hb
      rcases dJ.1 h with e|h
      · cases e;exact hb
      · rcases dO.1 h with h|h
        · exact Ko m _ i b h
        · exact Hx m r i b h
    · exact Hx m r i b h
theorem Dw{m:AW}{l:List Nat}{i:Nat}{b:VB}(h:lk (GW m l) i=some b):lk m i=some b:=Hx m l i b (Aw _ _ _ h)
variable {G:Gh} {w:World} {q id:Nat}
theorem GS.refl(E:Env P RD tt Γ)(F:∀k,G.Z k->k<w.heap.size/\¬G.RB k)(z:∀k,G.RB k->k<w.heap.size):GS RD G w q G w (q+0) id:=
  ⟨.refl _ _,λ_ _=>rfl,λ_ h=>h,λ_ h=>.inl h,F,λ_ h=>h,λ_ h=>.inl h,z,λg _ h=>E.rd _ _ _ _ _ _ _ h (λ_ h=>h) rfl (λ_ _=>rfl) qo⟩
theorem GS.cC(E:Env P RD tt Γ)(H:∀k,G.Z k->k<w.heap.size/\¬G.RB k)(z:∀k,G.RB k->k<w.heap.size){q':Nat}(F:q<=q'):GS RD G w q G w q' id:=
  ⟨.refl _ _,λ_ _=>rfl,λ_ h=>h,λ_ h=>.inl h,H,λ_ h=>h,λ_ h=>.inl h,z,λg _ h=>E.rd _ _ _ _ _ _ _ h (λ_ h=>h) rfl (λ_ _=>rfl) F⟩
theorem NewOk.nil{G':Gh}{w':World}:NewOk RD w0 G' w w' q []:=⟨λ_ _ h=>(nomatch h),λ_ _ h=>(nomatch h),λ_ _ _ _ h=>(nomatch h)⟩
theorem Kn{sz:Nat}:∀{els:List (List Value)},(∀el∈els,el.length=sz)->els.flatten.length=els.length*sz
  |[],_=>qs
  |e::r,h=>by rw[fx,dE,h e dP,Kn λel z=>h el (dQ _ z),dM,fz];omega
theorem Pd{sz:Nat}:∀{els:List (List Value)},(∀el∈els,el.length=sz)->∀(j:Nat) (el:qL),els[j]?=some el->∀y,y<sz->els.flatten[j*sz+y]?=el[y]?
  |[],_,_,_,h,_,_=>by cases h
  |e::r,h,0,el,z,y,J=>by
    rw[<-dj z];rw[fx,dT (by rw[h e dP];omega),ik,dL]
  |e::r,h,j+1,el,z,y,J=>by
    have H:=h e dP;rw[fx,dU (by rw[H,fz];omega),H,show(j+1)*sz+y - sz=j*sz+y by rw[fz];omega];exact Pd (λel F=>h el (dQ _ F)) j el z y J
theorem UQ{sz:Nat}:∀{els:List (List Value)},(∀el∈els,el.length=sz)->∀n,(els.take n).flatten=els.flatten.take (n*sz)
  |[],_,_=>qs
  |e::r,_,0=>qs
  |e::r,h,n+1=>by
    have F:=h e dP;rw[gO,fx,fx,UQ (λel z=>h el (dQ _ z)) n,show(n+1)*sz=e.length+n*sz by rw[F,fz];omega,List.take_length_add_append]
theorem GS.new (E : Env P RD tt Γ) (F : ∀ k, G.Z k -> k < w.heap.size /\ ¬ G.RB k) (H : ∀ k, G.RB k -> k < w.heap.size) (o : Obj) :
    GS RD G w q ⟨λi=>if i=id then some ⟨w.heap.size,0,none⟩ else G.α i,G.Z,G.RB⟩ (w.alloc o) (q+0) id:=by
  have z:=Stp.alloc G.RB w o;refine⟨z,λi M=>dk qo,λ_ h=>h,λ_ h=>.inl h,λk hk=>⟨AF (F k hk).1 z.size,(F k hk).2⟩,λ_ h=>h,λ_ h=>.inl h,λk hk=>AF (H k hk) z.size,λg J h=>?_⟩;have hb:∀k,k<w.heap.size->(w.alloc o).heap[k]?=w.heap[k]?:=λk hk=>by show(w.heap.push o)[k]?=_;rw[dw,dk qo]
  exact E.rd _ _ _ _ _ _ _ h (λ_ h=>h) (hb g (H g J)) (λk hk=>hb k (F k hk).1) qo
theorem K0(g o n:Nat):(⟨g,o,none⟩:Addr).add n=⟨g,o+n,none⟩:=by
  unfold Addr.add;split<;>rename_i h
  · rw[h];rfl
  · rfl
theorem EV{v:Value}(h:Gm v=true)(α:Nat->Option Addr):r2 α v=r0 α v/\Bc v=DJ v/\(r2 α v).cells=#[r0 α v]/\(r0 α v).oneCell'=true:=by
  cases v with
  |agg _=>cases h
  |tuple _=>cases h
  |iface i u=>cases u<;>first|exact⟨rfl,rfl,rfl,rfl⟩|(rename_i p;cases p<;>exact⟨rfl,rfl,rfl,rfl⟩)
  |_=>exact⟨rfl,rfl,rfl,rfl⟩
theorem G4{v:Value}(h:noV v=true)(α:Nat->Option Addr):r0 α v=v:=by
  cases v<;>first|rfl|cases h
theorem Lo{cs:qL}(h:cs.all noV=true)(α:Nat->Option Addr):cs.map (r0 α)=cs:=by
  conv=>rhs;rw[<-List.map_id cs]
  exact fA λv hv=>G4 (dt.1 h v hv) α
theorem Gl{α:Nat->Option Addr}{i g o:Nat}(z:FloatKind)(n:Nat)(h:α i=some ⟨g,o,none⟩):r2 α (.complex z i n)=Po (some ⟨g,o+n,none⟩):=by
  show Value.pointer (Option.map _ (α i))=_;rw[h,eO,K0]
theorem Hold.at{i:Nat}{b:VB}(h:Hold RD w0 G w q i b)(hk:VG b=true):∃g o,G.α i=some ⟨g,o,none⟩:=by
  unfold VG at hk;rcases fh.1 hk with hk|z
  · rcases fh.1 hk with z|z
    · obtain⟨g,F,_⟩:=h.k0 (dh z);exact⟨g,0,F⟩
    · obtain⟨g,o,F,_⟩:=h.k2 (dh z);exact⟨g,o,F⟩
  · obtain⟨g,F,_⟩:=h.k4 (dh z);exact⟨g,0,F⟩
theorem Hold.cell{i:Nat}{b:VB}(h:Hold RD w0 G w q i b)(hk:b.kd=0\/b.kd=2):∃g o,G.α i=some ⟨g,o,none⟩/\∀x v,b.cs[x]?=some v->w.cell? ⟨g,o+x,none⟩=some (r0 G.α v):=by
  rcases hk with z|z
  · obtain⟨g,F,_,_,_,J⟩:=h.k0 z
    refine⟨g,0,F,λx v hx=>?_⟩;unfold World.cell?;rw[show w.heap[(⟨g,0+x,none⟩:Addr).block]?=_ from J];simp[hx]
  · obtain⟨g,o,F,_,H,_⟩:=h.k2 z
    refine⟨g,o,F,λx v hx=>?_⟩;rw[(H x v hx).1,(H x v hx).2]
theorem newOk (E : Env P RD tt Γ) (M : ∀ k, G.Z k -> k < w.heap.size /\ ¬ G.RB k) (J : ∀ k, G.RB k -> k < w.heap.size) (H : w0.heap.size <= w.heap.size) (cs : List Value) (T : Nat) {cells : List Value} (z : ∀ β, (∀ i, i < id \/ id + 8 <= i -> β i = G.α i) -> cs.map (r0 β) = cells) :
    GS RD G w q ⟨λi=>if i=id then some ⟨w.heap.size,0,none⟩ else G.α i,G.Z,G.RB⟩ (w.alloc (.cells cells.toArray T)) (q+0) id/\
    NewOk RD w0 ⟨λi=>if i=id then some ⟨w.heap.size,0,none⟩ else G.α i,G.Z,G.RB⟩ w (w.alloc (.cells cells.toArray T)) (q+0) [(id,AX cs T)]:=by
  refine⟨GS.new E M J _,⟨λi b h=>?_,λi b h _=>?_,λi b j c h O _ _ F=>?_⟩⟩
  · cases dl.1 h
    refine⟨λ_=>⟨w.heap.size,dv rfl,H,λhk=>absurd (M _ hk).1 (iB _),λhk=>absurd (J _ hk) (iB _),?_⟩,λh=>(nomatch h),λh=>(nomatch h),λh=>(nomatch h),λh=>(nomatch h),.inl rfl⟩;show(w.heap.push _)[w.heap.size]?=_;rw[dw,dv rfl];rw[show(AX cs T).cs=cs from rfl,z _ λi W=>dk qo];rfl
  · cases dl.1 h
    exact⟨w.heap.size,dv rfl,AG⟩
  · cases dl.1 h
    cases dl.1 O;exact absurd rfl F
theorem tyU_ok(E:Env P RD tt Γ){T u:Nat}(h:Nat.beq (tyU tt T) u=true)(H:u≠99):∃e,tyo tt T=some e/\TEok P e/\e.u=u/\T=e.ty:=by
  have z:=dh h;unfold tyU at z;split at z
  · rename_i e F
    exact⟨e,F,(E.ty F).1,z,(E.ty F).2.symm⟩
  · exact absurd z.symm H
theorem PY(E:Env P RD tt Γ){z:Array Nat}{u:Nat}(h:RG tt z u=true)(O:u≠99):∃e,TEok P e/\e.u=u/\z[0]?=some e.ty:=by
  unfold RG at h;split at h
  · rename_i T M
    obtain⟨e,_,F,H,J⟩:=tyU_ok E h O;exact⟨e,F,H,by rw[M,J]⟩
  · cases h
theorem PP{args:Array Operand}{f:Operand->Value}{v:Value}(h:args.toList.map f=[v]):∃x,args=#[x]/\f x=v:=by
  match ha:args.toList,h with
  |[x],h=>exact⟨x,by rw[<-fi (xs:=args),ha],by simpa using h⟩
theorem Tr{args:Array Operand}{f:Operand->Value}{v u:Value}(h:args.toList.map f=[v,u]):∃x y,args=#[x,y]/\f x=v/\f y=u:=by
  match ha:args.toList,h with
  |[x,y],h=>exact⟨x,y,by rw[<-fi (xs:=args),ha],by simpa using h⟩
theorem Lv{v:Value}(h:Ig v=true)(α:Nat->Option Addr):(r2 α v).cells.toList=(Ad v).map (r0 α):=by
  cases v with
  |tuple _=>cases h
  |agg cs=>show(cs.map (r0 α)).toList=cs.toList.map (r0 α);rw[eN]
  |iface i u=>cases u<;>first|rfl|(rename_i p;cases p<;>rfl)
  |_=>rfl
theorem UU (H : List (Nat × Nat)) (α : Nat -> Option Addr) : ∀ (is : List Nat) (vs cs z : List Value), M2 H cs is vs = some z ->
    Instr.fill (H.toArray[·]?) (cs.map (r0 α)).toArray (is.zip (vs.map (r2 α)))=some (z.map (r0 α)).toArray
  |[],[],cs,z,h=>by cases h;rfl
  |[],_::_,cs,z,h=>by cases h
  |_::_,[],cs,z,h=>by cases h
  |i::is,v::vs,cs,z,h=>by
    unfold M2 at h;split at h
    · rename_i F sz hp
      cases hb:(Ig v&&Nat.beq (Ad v).length sz&&Nat.ble (F+(Ad v).length) cs.length) with
      |false=>rw[hb]at h;cases h
      |true=>
        rw[hb]at h;simp only[di]at hb;obtain⟨⟨W,Y⟩,Z⟩:=hb;have J:=dh Y;have aa:=AD Z;have O:=Lv W α;have M:(r2 α v).cells.size=(Ad v).length:=by rw[<-dY,O,ef]
        have:=UU H α is vs _ z h;rw[dK,List.zip_cons_cons,Instr.fill];rw[show H.toArray[i]?=some (F,sz) from by simpa using hp];simp only[M,J,ne_eq,not_true_eq_false,decide_false,iW,er,ef];rw[dk qp];rw[<-this]
        congr 1
        have hf:=Oe (r2 α v).cells.toList F 0 (cs.map (r0 α)) (by rw[dY,M,ef];omega);rw[dY,M]at hf;simp only[gp]at hf;rw[fm,fm,List.map_take,List.map_drop,<-O,<-hf];rw[<-Array.foldl_toList,Array.toList_zipIdx]
    · cases h
theorem UF{cs:qL}(h:cs.all noV=true):cs.flatMap DJ=[]:=by
  rw[List.flatMap_eq_nil_iff];intro v hv;have:=dt.1 h v hv;cases v<;>first|rfl|cases this
theorem MT{v:Value}(h:∀β,r0 β v=v):DJ v=[]:=by
  cases v with
  |complex k i o=>cases h λ_=>none
  |iface i u=>
    cases u with
    |slice a n c=>cases h λ_=>none
    |pointer p=>
      cases p with
      |none=>rfl
      |some p=>cases h λ_=>none
    |_=>rfl
  |_=>rfl
theorem TX{v:Value}(h:Ig v=true):(Ad v).flatMap DJ=Bc v:=by
  cases v with
  |tuple _=>cases h
  |agg cs=>rfl
  |_=>show [_].flatMap DJ=_;simp only[eB,List.flatMap_nil,fU];rfl
theorem Oj(W:List (Nat × Nat)):∀(is:List Nat) (vs cs z:qL),M2 W cs is vs=some z->∀i∈z.flatMap DJ,i∈cs.flatMap DJ\/i∈vs.flatMap Bc
  |[],[],cs,z,h,i,J=>by cases h;exact .inl J
  |[],_::_,cs,z,h,_,_=>by cases h
  |_::_,[],cs,z,h,_,_=>by cases h
  |j::is,v::vs,cs,z,h,i,J=>by
    unfold M2 at h;split at h
    · rename_i O sz Y
      cases hb:(Ig v&&Nat.beq (Ad v).length sz&&Nat.ble (O+(Ad v).length) cs.length) with
      |false=>rw[hb]at h;cases h
      |true=>
        rw[hb]at h;simp only[di]at hb;rw[eB];rcases Oj W is vs _ z h i J with F|F
        · simp only[List.flatMap_append,dO]at F
          rcases F with(F|F)|F
          · obtain⟨u,M,H⟩:=dZ.1 F
            exact .inl (dZ.2 ⟨u,eP M,H⟩)
          · rw[TX hb.1.1]at F;exact .inr (dO.2 (.inl F))
          · obtain⟨u,M,H⟩:=dZ.1 F
            exact .inl (dZ.2 ⟨u,eE M,H⟩)
        · exact .inr (dO.2 (.inr F))
    · cases h
theorem JG(id:Nat)(m:AW)(b:VB):Clo ([(id,b)]++m) (Bc (.complex .f64 id 0)):=λi z=>by
  cases dl.1 z;exact⟨b,Ae _ _ _⟩
theorem Clo.cons{m:AW}{l:List Nat}(h:Clo m l)(p:Nat × VB):Clo (p::m) l:=h.mono λi b hb=>by
  by_cases e:p.1=i
  · subst e;exact⟨p.2,Ae _ _ _⟩
  · exact⟨b,(Au e _ _).trans hb⟩
theorem Gn(id:Nat)(m:AW)(b:VB)(h:Clo ((id,b)::m) (b.cs.flatMap DJ)):OkE id (id+8) ([(id,b)]++m) [(id,b)]:=λi F z=>by
  cases dl.1 z;exact⟨AG,qo,h⟩
theorem UJ (E : Env P RD tt Γ) {ρ : Operand -> Value} {o : Oper} {α : Nat -> Option Addr} {T F : Nat} {cs : List Value} {x : Operand} {g o' : Nat} (M : o.op = .load T x) (hx : ρ x = Po (some ⟨g, o' + F, none⟩)) (H : ∀ y v, cs[y]? = some v -> w.cell? ⟨g, o' + y, none⟩ = some (r0 α v)) {k0 : Value -> Prop} (z : ldv tt T cs F k0) :
    ∃v,(execOp ρ o).run P w=.ok (.value (r2 α v)) w/\(∀k,ldv tt T cs F k->k v)/\∀i∈Bc v,i∈cs.flatMap DJ:=by
  unfold ldv at z;split at z
  · rename_i e Z
    obtain⟨h1,h2⟩:=E.ty Z;subst h2
    cases O:Nat.beq e.u 4 with
    |true=>
      simp only[O,eY]at z
      cases Y:Nat.ble (F+e.size) cs.length with
      |false=>rw[Y]at z;exact z.elim
      |true=>
        have ah:=AD Y;refine⟨.agg ((cs.drop F).take e.size).toArray,?_,λk h=>(by unfold ldv at h;simp only[Z,O,Y,eY,Lq]at h;exact h),λi hi=>?_⟩
        · rw[show r2 α (.agg ((cs.drop F).take e.size).toArray)=.agg (((cs.drop F).take e.size).map (r0 α)).toArray from by show Value.agg _=_;simp]
          refine VC h1 (dh O) M hx qp λj v hv=>?_
          rw[ej]at hv
          cases J:((cs.drop F).take e.size)[j]? with
          |none=>rw[J]at hv;cases hv
          |some u=>
            rw[J]at hv;cases hv;rw[K0,eG];refine H _ _ ?_;rw[eK]at J;split at J
            · rwa [ew]at J
            · cases J
        · obtain⟨u,O,W⟩:=dZ.1 (show i∈(((cs.drop F).take e.size).toArray.toList).flatMap DJ from hi)
          exact dZ.2 ⟨u,eE (eP (by simpa using O)),W⟩
    |false=>
      simp only[O,cond_false]at z;have W:e.u≠4:=λh=>by rw[h]at O;cases O
      split at z
      · rename_i bb hv
        exact⟨Bo bb,OG h1 W M hx (H _ _ hv),λk h=>NQ _ k (by unfold ldv at h;simp only[Z,O,cond_false,hv]at h;exact h),λ_ h=>(nomatch h)⟩
      · rename_i v ag hv
        cases ho:Gm v with
        |false=>rw[ho]at z;exact z.elim
        |true=>
          refine⟨v,by rw[(EV ho _).1];exact OG h1 W M hx (H _ _ hv),λk h=>?_,λi hi=>dZ.2 ⟨v,AE hv,by rwa [(EV ho α).2.1]at hi⟩⟩;unfold ldv at h;simp only[Z,O,cond_false,hv]at h;cases v<;>first|(simp only[ho,eY]at h;exact h)|exact absurd rfl (ag _)
      · exact z.elim
  · exact z.elim
theorem QT{b:VB}{i lo len cp:Nat}(hb:b.kd=1)(h:Hold RD w0 G w q i b)(W:lo+len<=b.n)(z:cp=lo->lo=0\/len=0):Hold RD w0 ⟨λj=>if j=id then(if cp=lo then G.α i else(G.α i).map (·.add (lo*b.sz))) else G.α j,G.Z,G.RB⟩ w q id (FK b lo len):=by
  refine⟨λh=>(nomatch h),λ_ j H=>?_,λh=>(nomatch h),λh=>(nomatch h),λh=>(nomatch h),.inr (.inl rfl)⟩;have H:j<len:=H;obtain⟨g,o,el,J,M,e3,e4⟩:=h.k1 hb (lo+j) qo;refine⟨g,o+lo*b.sz,el,?_,M,e3,?_⟩
  · show(if id=id then _ else _)=_
    rw[dv rfl,J];split
    · rename_i O
      rcases z O with F|F
      · subst F;simp
      · omega
    · rw[eO,K0]
  · rw[show o+lo*b.sz+j*(FK b lo len).sz=o+(lo+j)*b.sz from by show o+lo*b.sz+j*b.sz=_;rw[fz];omega]
    exact e4
theorem OO (E : Env P RD tt Γ) {o : Oper} {a : Act} {vs : List Value} {m : AW} {next : Act -> World -> Prop} {Q : Exit -> Act -> World -> Prop}
    (hz:∀k,G.Z k->k<w.heap.size/\¬G.RB k) (hR:∀k,G.RB k->k<w.heap.size) (aK:w0.heap.size<=w.heap.size)
    (hm:∀i b,lk m i=some b->Hold RD w0 G w q i b/\(i<id\/id+8<=i)) (b8:∀i b,lk m i=some b->Clo m (b.cs.flatMap DJ)) (aB:Clo m (vs.flatMap Bc))
    (J:(Bz o.op).map a.eval=vs.map (r2 G.α)) (hq:Al Γ o=0\/q+Al Γ o<=QM)
    {k0:Value->AW->Prop} (F:opg tt Γ id o.op vs (GW m (vs.flatMap Bc)) k0)
    (Y:∀v es' G' w',(∀k,opg tt Γ id o.op vs (GW m (vs.flatMap Bc)) k->k v es')->GS RD G w q G' w' (q+Al Γ o) id->NewOk RD w0 G' w w' (q+Al Γ o) es'->Clo (es'++m) (Bc v)->OkE id (id+8) (es'++m) es'->next (a.put o.dst (r2 G'.α v)) w'):
    o.wp P a w next Q:=by
  unfold Oper.wp
  have M:∀v v',(execOp a.eval o).run P w=.ok (.value v') w->v'=r2 G.α v->Al Γ o=0->Clo m (Bc v)->(∀k,opg tt Γ id o.op vs (GW m (vs.flatMap Bc)) k->k v [])->o.upon P a next Q ((execOp a.eval o).run P w):=λv v' hr hv hc bT hk=>by
    rw[hr,hv,gS];exact Y v [] G w hk (by rw[hc];exact GS.refl E hz hR) .nil bT (λ_ _ h=>(nomatch h))
  have al:∀v,v∈vs->Clo m (Bc v):=λv hv i hi=>aB i (dZ.2 ⟨v,hv,hi⟩)
  have ae:Clo m []:=λ_ h=>(nomatch h)
  generalize H:o.op=op at F J Y M;unfold opg at F;split at F
  · rename_i x v
    exact M v _ (run_move H) (by simpa [Bz] using J) (by simp[Al,H]) (al v qs) λk hk=>hk
  · rename_i x v
    exact M v _ (SW H) (by simpa [Bz] using J) (by simp[Al,H]) (al v qs) λk hk=>hk
  · rename_i c x y v u
    simp only[Bz,dK,ed,dD,eo]at J;exact M v _ (Qf (b:=true) H J.1) (by rw[dv rfl];exact J.2.1) (by simp[Al,H]) (al v qs) λk hk=>hk
  · rename_i c x y v u
    simp only[Bz,dK,ed,dD,eo]at J;exact M u _ (Qf (b:=false) H J.1) J.2.2 (by simp[Al,H]) (al u qs) λk hk=>hk
  · rename_i op T x y T2 n1 n2
    simp only[Bz,dK,ed,dD,eo]at J;obtain⟨v,hr,hk⟩:=run_ibin (P:=P) (w:=w) H J.1 J.2 F;obtain⟨Z,h2⟩:=hk (λv=>v=r2 G.α v/\Bc v=[]) (by cases op<;>simp only[ibin]at F ⊢<;>first|(intros;exact⟨rfl,rfl⟩)|exact⟨F.1,λ_ _=>⟨rfl,rfl⟩⟩|exact⟨λ_=>⟨rfl,rfl⟩,λ_=>⟨rfl,rfl⟩⟩);exact M v v hr Z (by simp[Al,H]) (by rw[h2];exact ae) λk h=>hk (λv=>k v []) h
  · rename_i op T x y T2 n1 n2
    simp only[Bz,dK,ed,dD,eo]at J;obtain⟨v,hr,hk⟩:=run_sbin (P:=P) (w:=w) H J.1 J.2 F;obtain⟨Z,h2⟩:=hk (λv=>v=r2 G.α v/\Bc v=[]) (by cases op<;>simp only[sbin]at F ⊢<;>exact⟨λ_=>⟨rfl,rfl⟩,λ_=>⟨rfl,rfl⟩⟩);exact M v v hr Z (by simp[Al,H]) (by rw[h2];exact ae) λk h=>hk (λv=>k v []) h
  · rename_i op T x y T2 n1 n2
    simp only[Bz,dK,ed,dD,eo]at J
    cases hb:Nat.beq (tyU tt T) 1 with
    |false=>rw[hb]at F;exact F.elim
    |true=>
      rw[hb]at F;have hu:=dh hb;unfold tyU at hu;split at hu
      · rename_i e he
        obtain⟨Z,h2⟩:=E.ty he;subst h2
        replace F:bbin op n1 n2 (λv=>k0 v []):=F
        obtain⟨v,hr,hk⟩:=run_bbin (P:=P) (w:=w) Z hu H J.1 J.2 F;obtain⟨h5,h6⟩:=hk (λv=>v=r2 G.α v/\Bc v=[]) (by cases op<;>cases n1<;>cases n2<;>first|exact F.elim|exact⟨rfl,rfl⟩);refine M v v hr h5 (by simp[Al,H]) (by rw[h6];exact ae) λk h=>hk (λv=>k v []) (by have h':(bif (tyU tt e.ty).beq 1 then bbin op n1 n2 λv=>k v [] else False):=h;rw[hb]at h';exact h')
      · cases hu
  · rename_i T x y T2 a1 a2
    simp only[Bz,dK,ed,dD,eo]at J;split at F
    · rename_i e he
      obtain⟨Z,h2⟩:=E.ty he;subst h2
      cases hb:(Nat.beq e.u 4&&Nat.beq e.el 2&&Ck e.zero a1.toList) with
      |false=>rw[hb]at F;exact F.elim
      |true=>
        rw[hb]at F;obtain⟨rfl,_⟩:a1=a2/\k0 (.bool false) []:=F;have O:=hb;simp only[di]at O
        have hm:a1.map (r0 G.α)=a1:=by
          have:=KA G.α _ _ O.2;rw[<-eN]at this;exact iV.1 this
        have cb:r2 G.α (.agg a1)=.agg a1:=by show Value.agg (a1.map (r0 G.α))=_;rw[hm]
        rw[cb]at J;exact M (.bool false) _ (Z.eqs.1 (dh O.1.1) (dh O.1.2) _ _ _ _ _ _ _ H J.1 J.2 O.2) rfl (by simp[Al,H]) ae λk h=>by simp only[opg,he,hb,eY]at h;exact h.2
    · exact F.elim
  · rename_i T x y T2 a1 a2
    simp only[Bz,dK,ed,dD,eo]at J;split at F
    · rename_i e he
      obtain⟨Z,h2⟩:=E.ty he;subst h2
      cases hb:(Nat.beq e.u 4&&Nat.beq e.el 1&&Ck e.zero a1.toList&&Ck e.zero a2.toList) with
      |false=>rw[hb]at F;exact F.elim
      |true=>
        have O:=hb;simp only[di]at O
        have hm:∀a:Array Value,Ck e.zero a.toList=true->r2 G.α (.agg a)=.agg a:=λa ha=>by
          have:=KA G.α _ _ ha;rw[<-eN]at this;show Value.agg (a.map (r0 G.α))=_;rw[iV.1 this]
        rw[hm _ O.1.2,hm _ O.2]at J;exact M (.bool (eqI a1.toList a2.toList)) _ (Z.eqs.2 (dh O.1.1.1) (dh O.1.1.2) _ _ _ _ _ _ _ _ H J.1 J.2 O.1.2 O.2) rfl (by simp[Al,H]) ae λk h=>by simp only[opg,he,hb,eY]at h;exact NQ _ (λv=>k v []) h
    · exact F.elim
  · rename_i T x
    simp only[Bz,dK,ed,dD,eo]at J;exact M (.bool false) _ (Tz (b:=true) H J) rfl (by simp[Al,H]) ae λk hk=>hk
  · rename_i T x
    simp only[Bz,dK,ed,dD,eo]at J;exact M (.bool true) _ (Tz (b:=false) H J) rfl (by simp[Al,H]) ae λk hk=>hk
  · rename_i T
    split at F
    · rename_i e he
      obtain⟨Z,h2⟩:=E.ty he;subst h2
      cases hb:e.zero.all noV with
      |false=>rw[hb]at F;exact F.elim
      |true=>
        rw[VE Z H,gS];have hn:=newOk (id:=id) E hz hR aK (q:=q) e.zero e.ty (fun β _=>Lo hb β);have hc:Al Γ o=0:=by simp[Al,H]
        have:=Y (.complex .f64 id 0) [(id,AX e.zero e.ty)] _ _ (λk h=>by
          have h':(match tyo tt e.ty with|some e'=>bif e'.zero.all noV then k (.complex .f64 id 0) [(id,AX e'.zero e.ty)] else False|none=>False):=h
          rw[he]at h';simp only[hb,eY]at h';exact h') (by rw[hc];exact hn.1) (by rw[hc];exact hn.2) (JG id m _) (Gn id m _ (by rw[show(AX e.zero e.ty).cs=e.zero from rfl,UF hb];exact λ_ h=>(nomatch h)))
        rwa [show r2 _ (Value.complex .f64 id 0)=Po (some ⟨w.heap.size,0,none⟩) from by show Value.pointer (Option.map _ (if id=id then _ else _))=_;rw[dv rfl];rfl]at this
    · exact F.elim
  · rename_i T x v
    simp only[Bz,dK,ed,dD,eo]at J;have hc:Al Γ o=0:=by simp[Al,H]
    have a6:∀j∈Bc v,j<id\/id+8<=j:=λj hj=>let ⟨b,hb⟩:=aB j (by simpa using hj);(hm j b hb).2
    rw[run_box H,gS];have hp:∀β:Gh,r2 (Gh.α ⟨λi=>if i=id then some ⟨w.heap.size,0,none⟩ else G.α i,G.Z,G.RB⟩) (Value.complex .f64 id 0)=Po (some ⟨w.heap.size,0,none⟩):=λ_=>by show Value.pointer (Option.map _ (if id=id then _ else _))=_;rw[dv rfl];rfl
    split at F
    · rename_i cs
      have hn:=newOk (id:=id) E hz hR aK (q:=q) cs.toList T (cells:=(cs.map (r0 G.α)).toList) (fun β hβ=>by rw[eN];exact GT (β:=β) (α:=G.α) GQ cs.toList λj hj=>hβ j (a6 j hj));have:=Y (.complex .f64 id 0) [(id,AX cs.toList T)] _ _ (λk h=>h) (by rw[hc];exact hn.1) (by rw[hc];exact hn.2) (JG id m _) (Gn id m _ ((al (.agg cs) qs).cons _));rw[hp G]at this;rw[J,show(r2 G.α (Value.agg cs)).cells=(cs.map (r0 G.α)).toList.toArray from rfl];exact this
    · rename_i b9
      cases hb:Gm v with
      |false=>rw[hb]at F;exact F.elim
      |true=>
        have Z:=EV hb G.α;have hn:=newOk (id:=id) E hz hR aK (q:=q) [v] T (cells:=[r0 G.α v]) (fun β hβ=>GT (β:=β) (α:=G.α) GQ [v] λj hj=>hβ j (a6 j (by rw[Z.2.1];simpa using hj)))
        have:=Y (.complex .f64 id 0) [(id,AX [v] T)] _ _ (λk h=>by
          cases v<;>first|(simp only[opg,hb,eY]at h;exact h)|exact absurd rfl (b9 _)) (by rw[hc];exact hn.1) (by rw[hc];exact hn.2) (JG id m _) (Gn id m _ (Clo.cons (by rw[show(AX [v] T).cs.flatMap DJ=Bc v from by rw[Z.2.1];show [v].flatMap DJ=_;simp];exact al v qs) _))
        rw[hp G]at this;rw[J,Z.2.2.1];exact this
  · rename_i T ps
    split at F
    · rename_i e he
      obtain⟨Z,h2⟩:=E.ty he;subst h2
      · cases hb:(Nat.beq e.u 4&&e.zero.all noV) with
        |false=>rw[hb]at F;exact F.elim
        |true=>
          rw[hb,eY]at F;obtain⟨cs,hf,_⟩:=JQ _ _ _ F;have O:=hb;simp only[di]at O;obtain⟨fs,hd,ca,_⟩:=Z.struct (dh O.1);obtain⟨it,z,hi,_,ce,cd⟩:=Z.bI;have aQ:=UU e.bC G.α _ _ _ _ hf;rw[Lo O.2]at aQ
          have bw:(ps.map λp=>(p.1,a.eval p.2)).toList=(ps.toList.map (·.1)).zip (vs.map (r2 G.α)):=by
            rw[<-J,eN];show _=(ps.toList.map _).zip ((ps.toList.map _).map _);rw[gE,List.zip_map',];rfl
          refine M (.agg cs.toArray) (.agg (cs.map (r0 G.α)).toArray) ?_ (by show _=Value.agg _;simp) (by simp[Al,H]) (λi hi=>?_) λk h=>?_
          · have bE:P.built e.ty (ps.map λp=>(p.1,a.eval p.2)).toList=some (cs.map (r0 G.α)).toArray:=by
              unfold Program.built;rw[hi,hd,bw];simp only[ce,ca];rw[<-fi (xs:=z.cells),cd];exact aQ
            have:=run_build (P:=P) w e.ty _ _ bE;simp only[execOp,H];rw[show(ps.map λ(x:Nat × Operand)=>match x with|(i,x)=>(i,a.eval x))=ps.map λp=>(p.1,a.eval p.2) from rfl];simp only[eA,this,Result.andThen_ok,Sem.run_pure]
          · rcases Oj _ _ _ _ _ hf i (by have h':i∈cs.toArray.toList.flatMap DJ:=hi;rwa [gZ]at h') with h|h
            · rw[UF O.2]at h;cases h
            · exact aB i h
          · simp only[opg,he,hb,eY]at h
            obtain⟨cw,bv,hk⟩:=JQ _ _ _ h;rw[hf]at bv;cases bv;exact hk
    · exact F.elim
  · rename_i T n ps
    split at F
    · rename_i e he
      split at F
      · rename_i e' ak
        cases hb:(Nat.beq e.u 3&&Nat.beq vs.length n&&OS (ps.toList.map (·.1)) 0&&Nat.ble 1 e'.size&&Nat.ble (n*e'.size) 16777216&&vs.all (λv=>Nat.beq (Ad v).length e'.size&&(Ad v).all (λu=>noV u&&Gm u))) with
        |false=>rw[hb]at F;exact F.elim
        |true=>
          obtain⟨Z,h2⟩:=E.ty he;obtain⟨h3,h4⟩:=E.ty ak;subst h2;have O:=hb;simp only[di]at O;obtain⟨⟨⟨⟨⟨b1,b2⟩,b3⟩,b4⟩,b5⟩,b6⟩:=O
          have ay:∀v∈vs,(Ad v).length=e'.size/\∀u∈Ad v,noV u=true/\Gm u=true:=λv hv=>by
            have:=dt.1 b6 v hv;simp only[di]at this;exact⟨dh this.1,λu hu=>by have:=dt.1 this.2 u hu;simpa using this⟩
          have aB:∀v∈vs,(r2 G.α v).cells.toList=Ad v:=λv hv=>by
            have h5:=(ay v hv).2;rcases NX v with⟨cs,rfl⟩|⟨_,_,_,e4⟩
            · rw[Lv rfl];exact Lo (dt.2 λu hu=>(h5 u hu).1) _
            · rw[e4]at h5 ⊢
              obtain⟨h6,h7⟩:=h5 v qs;rw[(EV h7 G.α).2.2.1,G4 h6]
          have aG:(ps.toList.map λp=>a.eval p.2)=vs.map (r2 G.α):=by rw[<-J];show _=(ps.toList.map _).map _;rw[gE];rfl
          have hc:Al Γ o=0:=by simp[Al,H]
          have cc:ps.size=n:=by
            have:=ei List.length aG;simp at this;rw[this];exact dh b2
          rw[LF Z (dh b1) h3 h4 H cc b3 (AD b4) (AD b5) (λv hv=>by
            rw[aG]at hv;obtain⟨u,hu,rfl⟩:=fa.1 hv
            rw[<-dY,aB u hu];exact(ay u hu).1),gS]
          have aQ:((ps.toList.map λp=>a.eval p.2).flatMap λv=>v.cells.toList)=(vs.map Ad).flatten:=by
            rw[aG,fL,gE];exact ei _ (fA λv hv=>aB v hv)
          rw[aQ];have W:=GS.new (id:=id) (q:=q) E hz hR (.cells (vs.map Ad).flatten.toArray e.el);have cl:(vs.map Ad).length=n:=by rw[ef];exact dh b2
          have:=Y (.iface id (Sl none n n)) [(id,Et e.el e'.size (vs.map Ad))] _ _ (λk h=>by
            simp only[opg,he,ak,hb,eY]at h
            exact h) (by rw[hc];exact W) (by
            rw[hc];refine⟨λi b h=>?_,λi b h _=>?_,λi b j c h h' _ _ bX=>?_⟩
            · cases dl.1 h
              refine⟨λh=>(nomatch h),λh=>(nomatch h),λh=>(nomatch h),λ_=>⟨w.heap.size,vs.map Ad,dv rfl,aK,λhk=>absurd (hz _ hk).1 (iB _),λhk=>absurd (hR _ hk) (iB _),rfl,λel an=>?_,?_,λj el hj=>⟨λk hk=>hk el hj,λ_ _=>trivial⟩⟩,λh=>(nomatch h),.inr (.inr (.inr (.inl rfl)))⟩
              · obtain⟨v,hv,rfl⟩:=fa.1 an
                refine⟨(ay v hv).1,λu hu=>?_⟩;obtain⟨h6,h7⟩:=(ay v hv).2 u hu;exact⟨by rw[<-G4 h6 G.α];exact(EV h7 G.α).2.2.2,fun β=>G4 h6 β⟩
              · have bk:((vs.map Ad).flatten).length=(vs.map Ad).length*e'.size:=Kn λel an=>by obtain⟨v,hv,rfl⟩:=fa.1 an;exact(ay v hv).1
                refine⟨bk,AG,(vs.map Ad).flatten.toArray,?_,?_,?_⟩
                · show(w.heap.push _)[w.heap.size]?=_
                  rw[dw,dv rfl];rfl
                · rw[er];exact bk
                · rw[gZ];exact eZ (fW bk)
            · cases dl.1 h
              exact⟨w.heap.size,dv rfl,AG⟩
            · cases dl.1 h
              cases dl.1 h'
              exact absurd rfl bX) (λi hi=>by
            cases dl.1 (show i∈[id] from hi)
            exact⟨_,Ae _ _ _⟩) (Gn id m _ (λ_ h=>(nomatch h)))
          rwa [show r2 _ (Value.iface id (Sl none n n))=.slice (some ⟨w.heap.size,0,none⟩) n n from by show Value.slice (if id=id then _ else _) _ _=_;rw[dv rfl]]at this
      · exact F.elim
    · exact F.elim
  · rename_i T x f cs
    simp only[Bz,dK,ed,dD,eo]at J;split at F
    · rename_i e he
      split at F
      · rename_i aa sz hf
        split at F
        · rename_i n1 hv
          cases hb:(Nat.beq e.u 4&&Nat.beq e.el 1) with
          |false=>rw[hb]at F;exact F.elim
          |true=>
            obtain⟨Z,h2⟩:=E.ty he;subst h2;have O:=hb;simp only[di]at O;refine M (In i6 n1) (In i6 n1) (VD Z (dh O.1) (dh O.2) hf H J ?_) rfl (by simp[Al,H]) ae λk h=>?_
            · rw[iS]at hv
              rw[Array.getElem?_map,hv];rfl
            · simp only[opg,he,hf,hv,hb,eY]at h
              exact h
        · exact F.elim
      · exact F.elim
    · exact F.elim
  · rename_i T x i n1 sz f
    simp only[Bz,dK,ed,dD,eo]at J;split at F
    · rename_i b hl
      cases hb:(Nat.beq b.kd 3&&Nat.beq sz b.sz) with
      |false=>rw[hb]at F;exact F.elim
      |true=>
        rw[hb]at F;have O:=hb;simp only[di]at O;obtain⟨g,els,hg,_,_,_,hk⟩:=(hm i b (Dw hl)).1.k3 (dh O.1);obtain⟨el,an⟩:∃el,els[n1]?=some el:=⟨els[n1]'(by rw[hk.1];exact F.1),qs⟩
        have hx:a.eval x=Po (some ⟨g,n1*b.sz+f,none⟩):=by
          rw[J];show Value.pointer ((G.α i).map _)=_;rw[hg,<-dh O.2,eO,K0,dL];rfl
        have aI:=(hk.2.1 el (AE an)).2
        obtain⟨v,Z,h2,h3⟩:=UJ (P:=P) (w:=w) (α:=G.α) (cs:=el) (o':=n1*b.sz) E H hx (λy v hv=>by
          rw[(aI v (AE hv)).2];refine hk.2.2.1.cell ?_;rw[Pd (λe he=>(hk.2.1 e he).1) n1 el an y (by have:=(AC hv).1;rw[(hk.2.1 el (AE an)).1]at this;exact this)]
          exact hv) ((hk.2.2.2 n1 el an).1 _ F.2)
        refine M v _ Z rfl (by simp[Al,H]) (λj hj=>?_) λk h=>?_
        · obtain⟨u,hu,aJ⟩:=dZ.1 (h3 j hj)
          rw[MT (aI u hu).2]at aJ;cases aJ
        · simp only[opg,hl,hb,eY]at h
          exact h2 _ ((hk.2.2.2 n1 el an).1 _ h.2)
    · exact F.elim
  · rename_i T x f i n1 sz aa
    simp only[Bz,dK,ed,dD,eo]at J;split at F
    · rename_i e b he hl
      obtain⟨Z,h2⟩:=E.ty he;subst h2;split at F
      · rename_i p hf
        cases hb:(Nat.beq e.u 4&&Nat.beq b.kd 3) with
        |false=>rw[hb]at F;exact F.elim
        |true=>
          have O:=hb;simp only[di]at O;obtain⟨g,els,hg,_⟩:=(hm i b (Dw hl)).1.k3 (dh O.2)
          have hp:∀y,r2 G.α (.iface i (Po (some ⟨n1,sz,some y⟩)))=Po (some ⟨g,n1*sz+y,none⟩):=λy=>by
            show Value.pointer ((G.α i).map _)=_;rw[hg,eO,K0,dL];rfl
          rw[hp]at J;refine M (.iface i (Po (some ⟨n1,sz,some (aa+p.1)⟩))) _ (Ip (sz:=p.2) Z (dh O.1) hf H J) ?_ (by simp[Al,H]) (al (.iface i (Po (some ⟨n1,sz,some aa⟩))) qs) λk h=>?_
          · rw[hp,K0,eG]
          · simp only[opg,he,hl,hf,hb,eY]at h
            exact h
      · exact F.elim
    · exact F.elim
  · rename_i T x fk i aa
    simp only[Bz,dK,ed,dD,eo]at J;split at F
    · rename_i b hl
      cases hb:(Nat.beq b.kd 0||Nat.beq b.kd 2) with
      |false=>rw[hb]at F;exact F.elim
      |true=>
        rw[hb]at F
        have b7:b.kd=0\/b.kd=2:=by
          rcases fh.1 hb with h|h
          · exact .inl (dh h)
          · exact .inr (dh h)
        obtain⟨g,o',hg,be⟩:=(hm i b (Dw hl)).1.cell b7;have hx:a.eval x=Po (some ⟨g,o'+aa,none⟩):=by rw[J,Gl fk aa hg]
        replace F:ldv tt T b.cs aa (λv=>k0 v []):=F
        obtain⟨v,Z,h2,h3⟩:=UJ (P:=P) (w:=w) (α:=G.α) E H hx be F
        exact M v _ Z rfl (by simp[Al,H]) (λj hj=>b8 i b (Dw hl) j (h3 j hj)) λk h=>by
          simp only[opg,hl,hb,eY]at h;exact h2 _ h
    · exact F.elim
  · rename_i T x f fk i aa
    simp only[Bz,dK,ed,dD,eo]at J;split at F
    · rename_i e b he hl
      obtain⟨Z,h2⟩:=E.ty he;subst h2;split at F
      · rename_i p hf
        cases hb:(Nat.beq e.u 4&&VG b) with
        |false=>rw[hb]at F;exact F.elim
        |true=>
          simp only[di]at hb;obtain⟨g,o',hg⟩:=(hm i b (Dw hl)).1.at hb.2;have hx:a.eval x=Po (some ⟨g,o'+aa,none⟩):=by rw[J,Gl fk aa hg]
          refine M (.complex fk i (aa+p.1)) _ (Ip (sz:=p.2) Z (dh hb.1) hf H hx) ?_ (by simp[Al,H]) (al (.complex fk i aa) qs) λk h=>?_
          · rw[Gl fk _ hg,K0,eG]
          · simp only[opg,he,hl,hf,hb.1,hb.2,iX,eY]at h
            exact h
      · exact F.elim
    · exact F.elim
  · rename_i T x y i sa n cap n1
    simp only[Bz,dK,ed,dD,eo]at J;split at F
    · rename_i b hl
      split at F
      · rename_i e he
        split at F
        · rename_i e' ak
          cases hb:(Nat.beq e.u 3&&Nat.beq e'.size b.sz) with
          |false=>rw[hb]at F;exact F.elim
          |true=>
           rw[hb]at F;have O:=hb;simp only[di]at O;obtain⟨Z,h2⟩:=E.ty he;obtain⟨h3,h4⟩:=E.ty ak;subst h2
           cases aH:Nat.beq b.kd 1 with
           |false=>
            rw[aH]at F
            cases aS:Nat.beq b.kd 3 with
            |false=>rw[aS]at F;exact F.elim
            |true=>
              rw[aS]at F;obtain⟨h0,hn,bm,bD⟩:=F;obtain⟨g,els,hg,_⟩:=(hm i b (Dw hl)).1.k3 (dh aS);have hx:a.eval x=.slice (qad g) n cap:=by rw[J.1];show Value.slice (G.α i) n cap=_;rw[hg]
              refine M (.iface i (Po (some ⟨n1.toNat,b.sz,some 0⟩))) _ (Io Z (dh O.1) h3 h4 H hx J.2 h0 hn) ?_ (by simp[Al,H]) (λj hj=>aB j (by
                rw[dl.1 (show j∈[i] from hj)];show i∈[Value.iface i (Sl sa n cap),In i6 n1].flatMap Bc
                exact dZ.2 ⟨_,dP,dl.2 rfl⟩)) λk h=>?_
              · show _=Value.pointer ((G.α i).map _)
                rw[hg,dh O.2];rfl
              · simp only[opg,hl,he,ak,hb,aH,aS,eY,cond_false]at h
                exact h.2.2.2
           |true=>
            rw[aH]at F;obtain⟨h0,hn,bm,bD⟩:=F;obtain⟨g,o',el,hg,hZ,hQ,hE⟩:=(hm i b (Dw hl)).1.k1 (dh aH) n1.toNat qo;have hx:a.eval x=.slice (some ⟨g,o',none⟩) n cap:=by rw[J.1];show Value.slice (G.α i) n cap=_;rw[hg]
            have hc:Al Γ o=0:=by simp[Al,H]
            rw[Io Z (dh O.1) h3 h4 H hx J.2 h0 hn,gS,K0,dh O.2];have W:=GS.refl (P:=P) (tt:=tt) (Γ:=Γ) (id:=id) (q:=q) E hz hR
            have:=Y (.complex .f64 id 0) [(id,To el b.ty b.E)] ⟨λj=>if j=id then some ⟨g,o'+n1.toNat*b.sz,none⟩ else G.α j,G.Z,G.RB⟩ w (λk h=>by
                simp only[opg,hl,he,ak,hb,aH,eY]at h
                exact hQ _ h.2.2.2)
              (by rw[hc];exact⟨W.bw,λj hj=>dk qo,W.z1,W.z2,W.z3,W.r1,W.r2,W.r3,W.rd⟩)
              ⟨λj c hj=>by
                cases dl.1 hj
                exact⟨λh=>(nomatch h),λh=>(nomatch h),λ_=>⟨g,_,dv rfl,hZ,hE⟩,λh=>(nomatch h),λh=>(nomatch h),.inr (.inr (.inl rfl))⟩,
               λj c hj h=>(by cases dl.1 hj;rcases h with h|h<;>cases h),λj c j' c' hj _ h=>(by cases dl.1 hj;rcases h with h|h<;>cases h)⟩ (JG id m _) (Gn id m _ (λx hx=>by
                obtain⟨u,hu,aJ⟩:=dZ.1 hx;obtain⟨y,hy⟩:=eD hu;rw[MT ((hE.1 y u hy).2)]at aJ
                cases aJ))
            rw[Gl (g:=g) (o:=o'+n1.toNat*b.sz) .f64 0 (dv rfl)]at this;exact this
        · exact F.elim
      · exact F.elim
    · exact F.elim
  · rename_i T x y i sa n cap n1
    simp only[Bz,Option.toList_some,Option.toList_none,fq,fU,dK,ed,dD,eo]at J;split at F
    · rename_i b hl
      split at F
      · rename_i e he
        split at F
        · rename_i e' ak
          cases hb:(Nat.beq e.u 3&&Nat.beq e'.size b.sz&&Nat.beq b.kd 1) with
          |false=>rw[hb]at F;exact F.elim
          |true=>
           rw[hb]at F;have O:=hb;simp only[di]at O;obtain⟨Z,h2⟩:=E.ty he;obtain⟨h3,h4⟩:=E.ty ak;subst h2;have hc:Al Γ o=0:=by simp[Al,H]
           obtain⟨h0,hn,bm,cL,b0⟩:=F;rw[run_slcL Z (dh O.1.1) h3 h4 H J.1 J.2 h0 hn,gS,dh O.1.2];have W:=GS.refl (P:=P) (tt:=tt) (Γ:=Γ) (id:=id) (q:=q) E hz hR
           have:=Y (.iface id (Sl none (n - n1.toNat) (cap - n1.toNat))) [(id,FK b n1.toNat (n - n1.toNat))] ⟨λj=>if j=id then(if cap=n1.toNat then G.α i else(G.α i).map (·.add (n1.toNat*b.sz))) else G.α j,G.Z,G.RB⟩ w (λk h=>by
               simp only[opg,hl,he,ak,hb,eY]at h
               exact h.2.2.2.2)
             (by rw[hc];exact⟨W.bw,λj hj=>dk qo,W.z1,W.z2,W.z3,W.r1,W.r2,W.r3,W.rd⟩)
             ⟨λj c hj=>by
               cases dl.1 hj
               rw[hc];exact QT (cp:=cap) (dh O.2) (hm i b (Dw hl)).1 qo qo,
              λj c hj h=>(by cases dl.1 hj;rcases h with h|h<;>cases h),λj c j' c' hj _ h=>(by cases dl.1 hj;rcases h with h|h<;>cases h)⟩ (JG id m _) (Gn id m _ (λ_ h=>(nomatch h)))
           rw[show r2 _ (Value.iface id (Sl none (n - n1.toNat) (cap - n1.toNat)))=sliced (G.α i) n1.toNat n cap b.sz from by show Value.slice (if id=id then _ else _) _ _=_;rw[dv rfl];rfl]at this;exact this
        · exact F.elim
      · exact F.elim
    · exact F.elim
  · rename_i T x y i sa n cap n1
    simp only[Bz,Option.toList_some,Option.toList_none,fq,fU,dK,ed,dD,eo]at J;split at F
    · rename_i b hl
      split at F
      · rename_i e he
        split at F
        · rename_i e' ak
          cases hb:(Nat.beq e.u 3&&Nat.beq e'.size b.sz&&Nat.beq b.kd 1) with
          |false=>rw[hb]at F;exact F.elim
          |true=>
           rw[hb]at F;have O:=hb;simp only[di]at O;obtain⟨Z,h2⟩:=E.ty he;obtain⟨h3,h4⟩:=E.ty ak;subst h2;have hc:Al Γ o=0:=by simp[Al,H]
           obtain⟨h0,hn,bm,b0⟩:=F;rw[run_slcH Z (dh O.1.1) h3 h4 H J.1 J.2 h0 hn,gS,dh O.1.2];have W:=GS.refl (P:=P) (tt:=tt) (Γ:=Γ) (id:=id) (q:=q) E hz hR
           have:=Y (.iface id (Sl none (n1.toNat) (cap))) [(id,FK b 0 n1.toNat)] ⟨λj=>if j=id then(if cap=0 then G.α i else(G.α i).map (·.add (0*b.sz))) else G.α j,G.Z,G.RB⟩ w (λk h=>by
               simp only[opg,hl,he,ak,hb,eY]at h
               exact h.2.2.2)
             (by rw[hc];exact⟨W.bw,λj hj=>dk qo,W.z1,W.z2,W.z3,W.r1,W.r2,W.r3,W.rd⟩)
             ⟨λj c hj=>by
               cases dl.1 hj
               rw[hc];exact QT (cp:=cap) (dh O.2) (hm i b (Dw hl)).1 qo qo,
              λj c hj h=>(by cases dl.1 hj;rcases h with h|h<;>cases h),λj c j' c' hj _ h=>(by cases dl.1 hj;rcases h with h|h<;>cases h)⟩ (JG id m _) (Gn id m _ (λ_ h=>(nomatch h)))
           rw[show r2 _ (Value.iface id (Sl none (n1.toNat) (cap)))=sliced (G.α i) 0 n1.toNat cap b.sz from by show Value.slice (if id=id then _ else _) _ _=_;rw[dv rfl];rfl]at this;exact this
        · exact F.elim
      · exact F.elim
    · exact F.elim
  · rename_i args ts i sa n cap
    obtain⟨x,rfl,hx⟩:=PP J
    cases hb:RG tt ts 3 with
    |false=>rw[hb]at F;exact F.elim
    |true=>
      obtain⟨e,Z,h2,h3⟩:=PY E hb qd;exact M (In i6 n) _ (Im Z h2 h3 H hx) rfl (by simp[Al,H]) ae λk h=>by simp only[opg,hb,eY]at h;exact h
  · rename_i args ts sa n cap
    obtain⟨x,rfl,hx⟩:=PP J
    cases hb:RG tt ts 3 with
    |false=>rw[hb]at F;exact F.elim
    |true=>
      obtain⟨e,Z,h2,h3⟩:=PY E hb qd;exact M (In i6 n) _ (Im Z h2 h3 H hx) rfl (by simp[Al,H]) ae λk h=>by simp only[opg,hb,eY]at h;exact h
  · rename_i args ts s
    obtain⟨x,rfl,hx⟩:=PP J
    cases hb:RG tt ts 2 with
    |false=>rw[hb]at F;exact F.elim
    |true=>
      obtain⟨e,Z,h2,h3⟩:=PY E hb qd;exact M (In i6 s.size) _ (MM Z h2 h3 H hx) rfl (by simp[Al,H]) ae λk h=>by simp only[opg,hb,eY]at h;exact h
  · rename_i args ts a b
    obtain⟨x,y,rfl,hx,hy⟩:=Tr J;exact M (In i6 (if a<b then b else a)) _ (run_max H hx hy) rfl (by simp[Al,H]) ae λk h=>h
  · rename_i args ts a b
    obtain⟨x,y,rfl,hx,hy⟩:=Tr J;exact M (In i6 (if b<a then b else a)) _ (run_min H hx hy) rfl (by simp[Al,H]) ae λk h=>h
  · rename_i f args ts
    split at F
    · rename_i c C hl
      obtain⟨bO,bS⟩:=E.ct f c C hl;have hc:Al Γ o=c:=by simp[Al,H,hl]
      have bb:args.map a.eval=(vs.map (r2 G.α)).toArray:=by rw[<-J];show args.map a.eval=(args.toList.map a.eval).toArray;rw[<-eN,fi]
      rw[run_call bO H rfl,Oper.upon_enter,bb];rw[hc]at hq Y;refine(bS w0 G w q id vs _ k0 hz hR aK (λi b h=>(hm i b (Hx _ _ _ _ h)).1) (λi b h=>(hm i b (Hx _ _ _ _ h)).2) hq F).mono ?_;rintro e w' ⟨v,es',G',hk,rfl,hs,hn,bK,bd⟩
      have a8:∀l,Clo (es'++GW m (vs.flatMap Bc)) l->Clo (es'++m) l:=λl hl=>hl.mono λi b hb=>by
        rw[B9]at hb ⊢
        cases he:lk es' i with
        |some b'=>exact⟨b',rfl⟩
        |none=>rw[he]at hb;exact⟨b,Dw hb⟩
      exact Y v es' G' w' (λk h=>hk k (by simp only[opg,hl]at h;exact h)) hs hn (a8 _ bK) λi b hi=>⟨(bd i b hi).1,(bd i b hi).2.1,a8 _ (bd i b hi).2.2⟩
    · exact F.elim
  · rename_i x i us
    simp only[Bz,dK,ed,dD,eo]at J;split at F
    · rename_i v hv
      cases hb:Ig v with
      |false=>rw[hb]at F;exact F.elim
      |true=>
        refine M v (r1 G.α v) (Qg (vs:=us.map (r1 G.α)) H J (by simp[hv])) ?_ (by simp[Al,H]) (λi hi=>?_) λk h=>?_
        · rcases MA v with⟨_,rfl⟩|⟨Z,_⟩
          · cases hb
          · exact(Z _).symm
        · rcases MA v with⟨_,rfl⟩|⟨_,h2⟩
          · cases hb
          · rw[h2]at hi
            exact al (.tuple us) qs i (dZ.2 ⟨v,by rw[Array.mem_toList_iff];exact Array.mem_of_getElem? hv,hi⟩)
        · simp only[opg,hv,hb,eY]at h;exact h
    · exact F.elim
  · rename_i x fk i aa
    simp only[Bz,dK,ed,dD,eo]at J;split at F
    · rename_i b hl
      cases hb:VG b with
      |false=>rw[hb]at F;exact F.elim
      |true=>
        obtain⟨g,o',hg⟩:=(hm i b (Dw hl)).1.at hb;rw[Gl fk aa hg]at J;refine M (.complex fk i aa) _ (Jf H J) (Gl fk aa hg).symm (by simp[Al,H]) (al (.complex fk i aa) qs) λk h=>?_
        simp only[opg,hl,hb,eY]at h;exact h
    · exact F.elim
  · rename_i x i n1 sz aa
    simp only[Bz,dK,ed,dD,eo]at J;split at F
    · rename_i b hl
      cases hb:Nat.beq b.kd 3 with
      |false=>rw[hb]at F;exact F.elim
      |true=>
        obtain⟨g,els,hg,_⟩:=(hm i b (Dw hl)).1.k3 (dh hb)
        have hp:r2 G.α (.iface i (Po (some ⟨n1,sz,some aa⟩)))=Po (some ⟨g,n1*sz+aa,none⟩):=by
          show Value.pointer ((G.α i).map _)=_;rw[hg,eO,K0,dL];rfl
        rw[hp]at J;refine M (.iface i (Po (some ⟨n1,sz,some aa⟩))) _ (Jf H J) hp.symm (by simp[Al,H]) (al (.iface i (Po (some ⟨n1,sz,some aa⟩))) qs) λk h=>?_
        simp only[opg,hl,hb,eY]at h;exact h
    · exact F.elim
  · exact F.elim
end
end Go.Proofs.YtbceafpodamnfaaGreatDoor
