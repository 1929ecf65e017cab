import Derived.Test.YtbceafpodamnfaaGreatH03
set_option linter.all false
namespace Go.Proofs.YtbceafpodamnfaaGreat
open Go Go.RowKit
section
variable {P:Program} {RD:(Nat->Prop)->World->Nat->Nat->Prop} {w0:World} {tt:List TE} {Γ:List (Nat × Nat × Ct)}
def CN(P:Program)(RD:(Nat->Prop)->World->Nat->Nat->Prop)(f cost:Nat)(C:Ct):Prop:=
  ∀(w0:World) (G:Gh) (w:World) (q id:Nat) (vs:List Value) (es:AV) (k0:Value->AV->Prop),(∀k,G.Z k->k<w.heap.size/\¬G.RB k)->(∀k,G.RB k->k<w.heap.size)->w0.heap.size<=w.heap.size->(∀i b,(i,b)∈es->Hold RD w0 G w q i b)->(∀i b,(i,b)∈es->i<id\/id+8<=i)->
    (cost=0\/q+cost<=QM)->C vs es id k0->
    Calls P f (vs.map (r2 G.α)).toArray w λe w'=>∃v es' G',(∀k,C vs es id k->k v es')/\e=.returned (r2 G'.α v)/\GS RD G w q G' w' (q+cost) id/\NewOk RD w0 G' w w' (q+cost) es'/\Clo (es'++es) (BN v)/\OkE id (id+8) (es'++es) es'
structure Env(P:Program)(RD:(Nat->Prop)->World->Nat->Nat->Prop)(tt:List TE)(Γ:List (Nat × Nat × Ct)):Prop where
  rd:Cc RD
  tt:∀e∈tt,TEok P e
  ct:∀f c C,lk Γ f=some (c,C)->N4 P f=true/\CN P RD f c C
theorem ML:∀(l:List TE) (T:Nat) (e:TE),tyo l T=some e->e.ty=T/\e∈l
  |[],_,_,h=>by cases h
  |e'::r,T,e,h=>by
    unfold tyo at h
    cases hb:Nat.beq e'.ty T with
    |true=>rw[hb]at h;cases h;exact⟨Nat.eq_of_beq_eq_true hb,List.mem_cons_self⟩
    |false=>rw[hb]at h;obtain⟨h1,h2⟩:=ML r T e h;exact⟨h1,List.mem_cons_of_mem _ h2⟩
theorem Env.ty(E:Env P RD tt Γ){T:Nat}{e:TE}(h:tyo tt T=some e):TEok P e/\e.ty=T:=⟨E.tt e (ML tt T e h).2,(ML tt T e h).1⟩
theorem FZ(m:AV):∀(l:List Nat) (i:Nat) (b:VB),(i,b)∈EZ m l->lk m i=some b
  |[],_,_,h=>by cases h
  |j::r,i,b,h=>by
    unfold EZ at h;split at h
    · rename_i b' hb
      rcases List.mem_cons.1 h with e|h
      · cases e;exact hb
      · exact FZ m r i b h
    · exact FZ m r i b h
theorem DC{m:AV}{l:List Nat}{i:Nat}{b:VB}(h:lk (EZ m l) i=some b):lk m i=some b:=FZ m l i b (A9 _ _ _ h)
variable {G:Gh} {w:World} {q id:Nat}
theorem GS.refl(E:Env P RD tt Γ)(hz:∀k,G.Z k->k<w.heap.size/\¬G.RB k)(hR:∀k,G.RB k->k<w.heap.size):GS RD G w q G w (q+0) id:=
  ⟨.refl _ _,λ_ _=>rfl,λ_ h=>h,λ_ h=>.inl h,hz,λ_ h=>h,λ_ h=>.inl h,hR,λg _ h=>E.rd _ _ _ _ _ _ _ h (λ_ h=>h) rfl (λ_ _=>rfl) (by omega)⟩
theorem GS.refl'(E:Env P RD tt Γ)(hz:∀k,G.Z k->k<w.heap.size/\¬G.RB k)(hR:∀k,G.RB k->k<w.heap.size){q':Nat}(hq:q<=q'):GS RD G w q G w q' id:=
  ⟨.refl _ _,λ_ _=>rfl,λ_ h=>h,λ_ h=>.inl h,hz,λ_ h=>h,λ_ h=>.inl h,hR,λg _ h=>E.rd _ _ _ _ _ _ _ h (λ_ h=>h) rfl (λ_ _=>rfl) hq⟩
theorem NewOk.nil{G':Gh}{w':World}:NewOk RD w0 G' w w' q []:=⟨λ_ _ h=>(nomatch h),λ_ _ h=>(nomatch h),λ_ _ _ _ h=>(nomatch h)⟩
theorem Kr{sz:Nat}:∀{els:List (List Value)},(∀el∈els,el.length=sz)->els.flatten.length=els.length*sz
  |[],_=>by simp
  |e::r,h=>by rw[List.flatten_cons,List.length_append,h e List.mem_cons_self,Kr λel hel=>h el (List.mem_cons_of_mem _ hel),List.length_cons,Nat.add_mul];omega
theorem Ks{sz:Nat}:∀{els:List (List Value)},(∀el∈els,el.length=sz)->∀(j:Nat) (el:List Value),els[j]?=some el->∀y,y<sz->els.flatten[j*sz+y]?=el[y]?
  |[],_,_,_,h,_,_=>by cases h
  |e::r,h,0,el,he,y,hy=>by
    rw[<-Option.some.inj he];rw[List.flatten_cons,List.getElem?_append_left (by rw[h e List.mem_cons_self];omega),Nat.zero_mul,Nat.zero_add]
  |e::r,h,j+1,el,he,y,hy=>by
    have h0:=h e List.mem_cons_self;rw[List.flatten_cons,List.getElem?_append_right (by rw[h0,Nat.add_mul];omega),h0,show(j+1)*sz+y - sz=j*sz+y by rw[Nat.add_mul];omega];exact Ks (λel hel=>h el (List.mem_cons_of_mem _ hel)) j el he y hy
theorem No{sz:Nat}:∀{els:List (List Value)},(∀el∈els,el.length=sz)->∀n,(els.take n).flatten=els.flatten.take (n*sz)
  |[],_,_=>by simp
  |e::r,_,0=>by simp
  |e::r,h,n+1=>by
    have h0:=h e List.mem_cons_self;rw[List.take_succ_cons,List.flatten_cons,List.flatten_cons,No (λel hel=>h el (List.mem_cons_of_mem _ hel)) n,show(n+1)*sz=e.length+n*sz by rw[h0,Nat.add_mul];omega,List.take_length_add_append]
theorem GS.new (E : Env P RD tt Γ) (hz : ∀ k, G.Z k -> k < w.heap.size /\ ¬ G.RB k) (hR : ∀ k, G.RB k -> k < w.heap.size) (o : Obj) :
    GS RD G w q ⟨λi=>if i=id then some ⟨w.heap.size,0,none⟩ else G.α i,G.Z,G.RB⟩ (w.alloc o) (q+0) id:=by
  have hs:=Stp.alloc G.RB w o;refine⟨hs,λi hi=>if_neg (by omega),λ_ h=>h,λ_ h=>.inl h,λk hk=>⟨AF (hz k hk).1 hs.size,(hz k hk).2⟩,λ_ h=>h,λ_ h=>.inl h,λk hk=>AF (hR k hk) hs.size,λg hg h=>?_⟩;have hb:∀k,k<w.heap.size->(w.alloc o).heap[k]?=w.heap[k]?:=λk hk=>by show(w.heap.push o)[k]?=_;rw[Array.getElem?_push,if_neg (by omega)]
  exact E.rd _ _ _ _ _ _ _ h (λ_ h=>h) (hb g (hR g hg)) (λk hk=>hb k (hz k hk).1) (by omega)
theorem IG(g o n:Nat):(⟨g,o,none⟩:Addr).add n=⟨g,o+n,none⟩:=by
  unfold Addr.add;split<;>rename_i h
  · rw[h];rfl
  · rfl
theorem DK{v:Value}(h:Eo v=true)(α:Nat->Option Addr):r2 α v=r0 α v/\BN v=Cj v/\(r2 α v).cells=#[r0 α v]/\(r0 α v).oneCell'=true:=by
  cases v with
  |agg _=>cases h
  |tuple _=>cases h
  |iface i u=>cases u<;>first|exact⟨rfl,rfl,rfl,rfl⟩|(rename_i p;cases p<;>exact⟨rfl,rfl,rfl,rfl⟩)
  |_=>exact⟨rfl,rfl,rfl,rfl⟩
theorem FA{v:Value}(h:noV v=true)(α:Nat->Option Addr):r0 α v=v:=by
  cases v<;>first|rfl|cases h
theorem IP{cs:List Value}(h:cs.all noV=true)(α:Nat->Option Addr):cs.map (r0 α)=cs:=by
  conv=>rhs;rw[<-List.map_id cs]
  exact List.map_congr_left λv hv=>FA (List.all_eq_true.1 h v hv) α
theorem FT{α:Nat->Option Addr}{i g o:Nat}(fk:FloatKind)(n:Nat)(h:α i=some ⟨g,o,none⟩):r2 α (.complex fk i n)=.pointer (some ⟨g,o+n,none⟩):=by
  show Value.pointer (Option.map _ (α i))=_;rw[h,Option.map_some,IG]
theorem Hold.at{i:Nat}{b:VB}(h:Hold RD w0 G w q i b)(hk:OQ b=true):∃g o,G.α i=some ⟨g,o,none⟩:=by
  unfold OQ at hk;rcases Bool.or_eq_true_iff.1 hk with hk|h0
  · rcases Bool.or_eq_true_iff.1 hk with h0|h0
    · obtain⟨g,hg,_⟩:=h.k0 (Nat.eq_of_beq_eq_true h0);exact⟨g,0,hg⟩
    · obtain⟨g,o,hg,_⟩:=h.k2 (Nat.eq_of_beq_eq_true h0);exact⟨g,o,hg⟩
  · obtain⟨g,hg,_⟩:=h.k4 (Nat.eq_of_beq_eq_true h0);exact⟨g,0,hg⟩
theorem Hold.cell{i:Nat}{b:VB}(h:Hold RD w0 G w q i b)(hk:b.kd=0\/b.kd=2):∃g o,G.α i=some ⟨g,o,none⟩/\∀x v,b.cs[x]?=some v->w.cell? ⟨g,o+x,none⟩=some (r0 G.α v):=by
  rcases hk with h0|h0
  · obtain⟨g,hg,_,_,_,hh⟩:=h.k0 h0
    refine⟨g,0,hg,λx v hx=>?_⟩;unfold World.cell?;rw[show w.heap[(⟨g,0+x,none⟩:Addr).block]?=_ from hh];simp[hx]
  · obtain⟨g,o,hg,_,hE,_⟩:=h.k2 h0
    refine⟨g,o,hg,λx v hx=>?_⟩;rw[(hE x v hx).1,(hE x v hx).2]
theorem newOk (E : Env P RD tt Γ) (hz : ∀ k, G.Z k -> k < w.heap.size /\ ¬ G.RB k) (hR : ∀ k, G.RB k -> k < w.heap.size) (hw0 : w0.heap.size <= w.heap.size) (cs : List Value) (T : Nat) {cells : List Value} (hids : ∀ β, (∀ i, i < id \/ id + 8 <= i -> β i = G.α i) -> cs.map (r0 β) = cells) :
    GS RD G w q ⟨λi=>if i=id then some ⟨w.heap.size,0,none⟩ else G.α i,G.Z,G.RB⟩ (w.alloc (.cells cells.toArray T)) (q+0) id/\
    NewOk RD w0 ⟨λi=>if i=id then some ⟨w.heap.size,0,none⟩ else G.α i,G.Z,G.RB⟩ w (w.alloc (.cells cells.toArray T)) (q+0) [(id,AZ cs T)]:=by
  refine⟨GS.new E hz hR _,⟨λi b h=>?_,λi b h _=>?_,λi b j c h h' _ _ hij=>?_⟩⟩
  · cases List.mem_singleton.1 h
    refine⟨λ_=>⟨w.heap.size,if_pos rfl,hw0,λhk=>absurd (hz _ hk).1 (Nat.lt_irrefl _),λhk=>absurd (hR _ hk) (Nat.lt_irrefl _),?_⟩,λh=>(nomatch h),λh=>(nomatch h),λh=>(nomatch h),λh=>(nomatch h),.inl rfl⟩;show(w.heap.push _)[w.heap.size]?=_;rw[Array.getElem?_push,if_pos rfl];rw[show(AZ cs T).cs=cs from rfl,hids _ λi hi=>if_neg (by omega)];rfl
  · cases List.mem_singleton.1 h
    exact⟨w.heap.size,if_pos rfl,AG _⟩
  · cases List.mem_singleton.1 h
    cases List.mem_singleton.1 h';exact absurd rfl hij
theorem tyU_ok(E:Env P RD tt Γ){T u:Nat}(h:Nat.beq (tyU tt T) u=true)(hu:u≠99):∃e,tyo tt T=some e/\TEok P e/\e.u=u/\T=e.ty:=by
  have h1:=Nat.eq_of_beq_eq_true h;unfold tyU at h1;split at h1
  · rename_i e he
    exact⟨e,he,(E.ty he).1,h1,(E.ty he).2.symm⟩
  · exact absurd h1.symm hu
theorem Ko(E:Env P RD tt Γ){ts:Array Nat}{u:Nat}(h:Lp tt ts u=true)(hu:u≠99):∃e,TEok P e/\e.u=u/\ts[0]?=some e.ty:=by
  unfold Lp at h;split at h
  · rename_i T hT
    obtain⟨e,_,h1,h2,h3⟩:=tyU_ok E h hu;exact⟨e,h1,h2,by rw[hT,h3]⟩
  · cases h
theorem Kk{args:Array Operand}{f:Operand->Value}{v:Value}(h:args.toList.map f=[v]):∃x,args=#[x]/\f x=v:=by
  match ha:args.toList,h with
  |[x],h=>exact⟨x,by rw[<-Array.toArray_toList (xs:=args),ha],by simpa using h⟩
theorem IX{v:Value}(h:Ft v=true)(α:Nat->Option Addr):(r2 α v).cells.toList=(Ad v).map (r0 α):=by
  cases v with
  |tuple _=>cases h
  |agg cs=>show(cs.map (r0 α)).toList=cs.toList.map (r0 α);rw[Array.toList_map]
  |iface i u=>cases u<;>first|rfl|(rename_i p;cases p<;>rfl)
  |_=>rfl
theorem Nq (pl : List (Nat × Nat)) (α : Nat -> Option Addr) : ∀ (is : List Nat) (vs cs cs' : List Value), JU pl cs is vs = some cs' ->
    Instr.fill (pl.toArray[·]?) (cs.map (r0 α)).toArray (is.zip (vs.map (r2 α)))=some (cs'.map (r0 α)).toArray
  |[],[],cs,cs',h=>by cases h;rfl
  |[],_::_,cs,cs',h=>by cases h
  |_::_,[],cs,cs',h=>by cases h
  |i::is,v::vs,cs,cs',h=>by
    unfold JU at h;split at h
    · rename_i off sz hp
      cases hb:(Ft v&&Nat.beq (Ad v).length sz&&Nat.ble (off+(Ad v).length) cs.length) with
      |false=>rw[hb]at h;cases h
      |true=>
        rw[hb]at h;simp only[Bool.and_eq_true]at hb;obtain⟨⟨h1,h2⟩,h3⟩:=hb;have h2':=Nat.eq_of_beq_eq_true h2;have h3':=AD h3;have hc:=IX h1 α;have hl:(r2 α v).cells.size=(Ad v).length:=by rw[<-Array.length_toList,hc,List.length_map]
        have:=Nq pl α is vs _ cs' h;rw[List.map_cons,List.zip_cons_cons,Instr.fill];rw[show pl.toArray[i]?=some (off,sz) from by simpa using hp];simp only[hl,h2',ne_eq,not_true_eq_false,decide_false,Bool.false_or,List.size_toArray,List.length_map];rw[if_neg (by simp;omega)];rw[<-this]
        congr 1
        have hf:=KI (r2 α v).cells.toList off 0 (cs.map (r0 α)) (by rw[Array.length_toList,hl,List.length_map];omega);rw[Array.length_toList,hl]at hf;simp only[Nat.add_zero]at hf;rw[List.map_append,List.map_append,List.map_take,List.map_drop,<-hc,<-hf];rw[<-Array.foldl_toList,Array.toList_zipIdx]
    · cases h
theorem Nh{cs:List Value}(h:cs.all noV=true):cs.flatMap Cj=[]:=by
  rw[List.flatMap_eq_nil_iff];intro v hv;have:=List.all_eq_true.1 h v hv;cases v<;>first|rfl|cases this
theorem LX{v:Value}(h:∀β,r0 β v=v):Cj v=[]:=by
  cases v with
  |complex k i o=>cases h λ_=>none
  |iface i u=>
    cases u with
    |slice a n c=>cases h λ_=>none
    |pointer p=>
      cases p with
      |none=>rfl
      |some p=>cases h λ_=>none
    |_=>rfl
  |_=>rfl
theorem NA{v:Value}(h:Ft v=true):(Ad v).flatMap Cj=BN v:=by
  cases v with
  |tuple _=>cases h
  |agg cs=>rfl
  |_=>show [_].flatMap Cj=_;simp only[List.flatMap_cons,List.flatMap_nil,List.append_nil];rfl
theorem KM(pl:List (Nat × Nat)):∀(is:List Nat) (vs cs cs':List Value),JU pl cs is vs=some cs'->∀i∈cs'.flatMap Cj,i∈cs.flatMap Cj\/i∈vs.flatMap BN
  |[],[],cs,cs',h,i,hi=>by cases h;exact .inl hi
  |[],_::_,cs,cs',h,_,_=>by cases h
  |_::_,[],cs,cs',h,_,_=>by cases h
  |j::is,v::vs,cs,cs',h,i,hi=>by
    unfold JU at h;split at h
    · rename_i off sz hp
      cases hb:(Ft v&&Nat.beq (Ad v).length sz&&Nat.ble (off+(Ad v).length) cs.length) with
      |false=>rw[hb]at h;cases h
      |true=>
        rw[hb]at h;simp only[Bool.and_eq_true]at hb;rw[List.flatMap_cons];rcases KM pl is vs _ cs' h i hi with h1|h1
        · simp only[List.flatMap_append,List.mem_append]at h1
          rcases h1 with(h1|h1)|h1
          · obtain⟨u,hu,hu'⟩:=List.mem_flatMap.1 h1
            exact .inl (List.mem_flatMap.2 ⟨u,List.mem_of_mem_take hu,hu'⟩)
          · rw[NA hb.1.1]at h1;exact .inr (List.mem_append.2 (.inl h1))
          · obtain⟨u,hu,hu'⟩:=List.mem_flatMap.1 h1
            exact .inl (List.mem_flatMap.2 ⟨u,List.mem_of_mem_drop hu,hu'⟩)
        · exact .inr (List.mem_append.2 (.inr h1))
    · cases h
theorem HU(id:Nat)(m:AV)(b:VB):Clo ([(id,b)]++m) (BN (.complex .f64 id 0)):=λi hi=>by
  cases List.mem_singleton.1 hi;exact⟨b,Ag _ _ _⟩
theorem Clo.cons{m:AV}{l:List Nat}(h:Clo m l)(p:Nat × VB):Clo (p::m) l:=h.mono λi b hb=>by
  by_cases e:p.1=i
  · subst e;exact⟨p.2,Ag _ _ _⟩
  · exact⟨b,(Aw e _ _).trans hb⟩
theorem GD(id:Nat)(m:AV)(b:VB)(h:Clo ((id,b)::m) (b.cs.flatMap Cj)):OkE id (id+8) ([(id,b)]++m) [(id,b)]:=λi b' hi=>by
  cases List.mem_singleton.1 hi;exact⟨AG _,by omega,h⟩
theorem Nl (E : Env P RD tt Γ) {ρ : Operand -> Value} {o : Oper} {α : Nat -> Option Addr} {T off : Nat} {cs : List Value} {x : Operand} {g o' : Nat} (hop' : o.op = .load T x) (hx : ρ x = .pointer (some ⟨g, o' + off, none⟩)) (hcell : ∀ y v, cs[y]? = some v -> w.cell? ⟨g, o' + y, none⟩ = some (r0 α v)) {k0 : Value -> Prop} (hop : ldv tt T cs off k0) :
    ∃v,(execOp ρ o).run P w=.ok (.value (r2 α v)) w/\(∀k,ldv tt T cs off k->k v)/\∀i∈BN v,i∈cs.flatMap Cj:=by
  unfold ldv at hop;split at hop
  · rename_i e he
    obtain⟨h1,h2⟩:=E.ty he;subst h2
    cases hu:Nat.beq e.u 4 with
    |true=>
      simp only[hu,cond_true]at hop
      cases hle:Nat.ble (off+e.size) cs.length with
      |false=>rw[hle]at hop;exact hop.elim
      |true=>
        have hle':=AD hle;refine⟨.agg ((cs.drop off).take e.size).toArray,?_,λk h=>(by unfold ldv at h;simp only[he,hu,hle,cond_true,IT]at h;exact h),λi hi=>?_⟩
        · rw[show r2 α (.agg ((cs.drop off).take e.size).toArray)=.agg (((cs.drop off).take e.size).map (r0 α)).toArray from by show Value.agg _=_;simp]
          refine OM h1 (Nat.eq_of_beq_eq_true hu) hop' hx (by simp;omega) λj v hv=>?_
          rw[List.getElem?_map]at hv
          cases hv':((cs.drop off).take e.size)[j]? with
          |none=>rw[hv']at hv;cases hv
          |some u=>
            rw[hv']at hv;cases hv;rw[IG,Nat.add_assoc];refine hcell _ _ ?_;rw[List.getElem?_take]at hv';split at hv'
            · rwa [List.getElem?_drop]at hv'
            · cases hv'
        · obtain⟨u,hu,hu'⟩:=List.mem_flatMap.1 (show i∈(((cs.drop off).take e.size).toArray.toList).flatMap Cj from hi)
          exact List.mem_flatMap.2 ⟨u,List.mem_of_mem_drop (List.mem_of_mem_take (by simpa using hu)),hu'⟩
    |false=>
      simp only[hu,cond_false]at hop;have hu':e.u≠4:=λh=>by rw[h]at hu;cases hu
      split at hop
      · rename_i bb hv
        exact⟨.bool bb,Jt h1 hu' hop' hx (hcell _ _ hv),λk h=>K4 _ k (by unfold ldv at h;simp only[he,hu,cond_false,hv]at h;exact h),λ_ h=>(nomatch h)⟩
      · rename_i v hnb hv
        cases ho:Eo v with
        |false=>rw[ho]at hop;exact hop.elim
        |true=>
          refine⟨v,by rw[(DK ho _).1];exact Jt h1 hu' hop' hx (hcell _ _ hv),λk h=>?_,λi hi=>List.mem_flatMap.2 ⟨v,AE hv,by rwa [(DK ho α).2.1]at hi⟩⟩;unfold ldv at h;simp only[he,hu,cond_false,hv]at h;cases v<;>first|(simp only[ho,cond_true]at h;exact h)|exact absurd rfl (hnb _)
      · exact hop.elim
  · exact hop.elim
theorem LJ{b:VB}{i lo len cp:Nat}(hb:b.kd=1)(h:Hold RD w0 G w q i b)(hle:lo+len<=b.n)(hcp:cp=lo->lo=0\/len=0):Hold RD w0 ⟨λj=>if j=id then(if cp=lo then G.α i else(G.α i).map (·.add (lo*b.sz))) else G.α j,G.Z,G.RB⟩ w q id (DX b lo len):=by
  refine⟨λh=>(nomatch h),λ_ j hj=>?_,λh=>(nomatch h),λh=>(nomatch h),λh=>(nomatch h),.inr (.inl rfl)⟩;have hj:j<len:=hj;obtain⟨g,o,el,e1,e2,e3,e4⟩:=h.k1 hb (lo+j) (by omega);refine⟨g,o+lo*b.sz,el,?_,e2,e3,?_⟩
  · show(if id=id then _ else _)=_
    rw[if_pos rfl,e1];split
    · rename_i hc
      rcases hcp hc with h0|h0
      · subst h0;simp
      · omega
    · rw[Option.map_some,IG]
  · rw[show o+lo*b.sz+j*(DX b lo len).sz=o+(lo+j)*b.sz from by show o+lo*b.sz+j*b.sz=_;rw[Nat.add_mul];omega]
    exact e4
theorem Jz (E : Env P RD tt Γ) {o : Oper} {a : Act} {vs : List Value} {m : AV} {next : Act -> World -> Prop} {Q : Exit -> Act -> World -> Prop}
    (hz:∀k,G.Z k->k<w.heap.size/\¬G.RB k) (hR:∀k,G.RB k->k<w.heap.size) (hw0:w0.heap.size<=w.heap.size)
    (hm:∀i b,lk m i=some b->Hold RD w0 G w q i b/\(i<id\/id+8<=i)) (hmc:∀i b,lk m i=some b->Clo m (b.cs.flatMap Cj)) (hcl:Clo m (vs.flatMap BN))
    (hev:(Bj o.op).map a.eval=vs.map (r2 G.α)) (hq:Am Γ o=0\/q+Am Γ o<=QM)
    {k0:Value->AV->Prop} (hop:opg tt Γ id o.op vs (EZ m (vs.flatMap BN)) k0)
    (hnext:∀v es' G' w',(∀k,opg tt Γ id o.op vs (EZ m (vs.flatMap BN)) k->k v es')->GS RD G w q G' w' (q+Am Γ o) id->NewOk RD w0 G' w w' (q+Am Γ o) es'->Clo (es'++m) (BN v)->OkE id (id+8) (es'++m) es'->next (a.put o.dst (r2 G'.α v)) w'):
    o.wp P a w next Q:=by
  unfold Oper.wp
  have simple:∀v v',(execOp a.eval o).run P w=.ok (.value v') w->v'=r2 G.α v->Am Γ o=0->Clo m (BN v)->(∀k,opg tt Γ id o.op vs (EZ m (vs.flatMap BN)) k->k v [])->o.upon P a next Q ((execOp a.eval o).run P w):=λv v' hr hv hc hcv hk=>by
    rw[hr,hv,Oper.upon_value];exact hnext v [] G w hk (by rw[hc];exact GS.refl E hz hR) .nil hcv (λ_ _ h=>(nomatch h))
  have cl1:∀v,v∈vs->Clo m (BN v):=λv hv i hi=>hcl i (List.mem_flatMap.2 ⟨v,hv,hi⟩)
  have nilc:Clo m []:=λ_ h=>(nomatch h)
  generalize hop':o.op=op at hop hev hnext simple;unfold opg at hop;split at hop
  · rename_i x v
    exact simple v _ (run_move hop') (by simpa [Bj] using hev) (by simp[Am,hop']) (cl1 v (by simp)) λk hk=>hk
  · rename_i x v
    exact simple v _ (MV hop') (by simpa [Bj] using hev) (by simp[Am,hop']) (cl1 v (by simp)) λk hk=>hk
  · rename_i c x y v u
    simp only[Bj,List.map_cons,List.map_nil,List.cons.injEq,and_true]at hev;exact simple v _ (LR (b:=true) hop' hev.1) (by rw[if_pos rfl];exact hev.2.1) (by simp[Am,hop']) (cl1 v (by simp)) λk hk=>hk
  · rename_i c x y v u
    simp only[Bj,List.map_cons,List.map_nil,List.cons.injEq,and_true]at hev;exact simple u _ (LR (b:=false) hop' hev.1) hev.2.2 (by simp[Am,hop']) (cl1 u (by simp)) λk hk=>hk
  · rename_i op T x y T2 n1 n2
    simp only[Bj,List.map_cons,List.map_nil,List.cons.injEq,and_true]at hev;obtain⟨v,hr,hk⟩:=run_ibin (P:=P) (w:=w) hop' hev.1 hev.2 hop;obtain⟨h1,h2⟩:=hk (λv=>v=r2 G.α v/\BN v=[]) (by cases op<;>simp only[ibin]at hop ⊢<;>first|(intros;exact⟨rfl,rfl⟩)|exact⟨hop.1,λ_ _=>⟨rfl,rfl⟩⟩|exact⟨λ_=>⟨rfl,rfl⟩,λ_=>⟨rfl,rfl⟩⟩);exact simple v v hr h1 (by simp[Am,hop']) (by rw[h2];exact nilc) λk h=>hk (λv=>k v []) h
  · rename_i op T x y T2 n1 n2
    simp only[Bj,List.map_cons,List.map_nil,List.cons.injEq,and_true]at hev;obtain⟨v,hr,hk⟩:=run_sbin (P:=P) (w:=w) hop' hev.1 hev.2 hop;obtain⟨h1,h2⟩:=hk (λv=>v=r2 G.α v/\BN v=[]) (by cases op<;>simp only[sbin]at hop ⊢<;>exact⟨λ_=>⟨rfl,rfl⟩,λ_=>⟨rfl,rfl⟩⟩);exact simple v v hr h1 (by simp[Am,hop']) (by rw[h2];exact nilc) λk h=>hk (λv=>k v []) h
  · rename_i op T x y T2 n1 n2
    simp only[Bj,List.map_cons,List.map_nil,List.cons.injEq,and_true]at hev
    cases hb:Nat.beq (tyU tt T) 1 with
    |false=>rw[hb]at hop;exact hop.elim
    |true=>
      rw[hb]at hop;have hu:=Nat.eq_of_beq_eq_true hb;unfold tyU at hu;split at hu
      · rename_i e he
        obtain⟨h1,h2⟩:=E.ty he;subst h2
        replace hop:bbin op n1 n2 (λv=>k0 v []):=hop
        obtain⟨v,hr,hk⟩:=run_bbin (P:=P) (w:=w) h1 hu hop' hev.1 hev.2 hop;obtain⟨h5,h6⟩:=hk (λv=>v=r2 G.α v/\BN v=[]) (by cases op<;>cases n1<;>cases n2<;>first|exact hop.elim|exact⟨rfl,rfl⟩);refine simple v v hr h5 (by simp[Am,hop']) (by rw[h6];exact nilc) λk h=>hk (λv=>k v []) (by have h':(bif (tyU tt e.ty).beq 1 then bbin op n1 n2 λv=>k v [] else False):=h;rw[hb]at h';exact h')
      · cases hu
  · rename_i T x
    simp only[Bj,List.map_cons,List.map_nil,List.cons.injEq,and_true]at hev;exact simple (.bool false) _ (NT (b:=true) hop' hev) rfl (by simp[Am,hop']) nilc λk hk=>hk
  · rename_i T x
    simp only[Bj,List.map_cons,List.map_nil,List.cons.injEq,and_true]at hev;exact simple (.bool true) _ (NT (b:=false) hop' hev) rfl (by simp[Am,hop']) nilc λk hk=>hk
  · rename_i T
    split at hop
    · rename_i e he
      obtain⟨h1,h2⟩:=E.ty he;subst h2
      cases hb:e.zero.all noV with
      |false=>rw[hb]at hop;exact hop.elim
      |true=>
        rw[OO h1 hop',Oper.upon_value];have hn:=newOk (id:=id) E hz hR hw0 (q:=q) e.zero e.ty (fun β _=>IP hb β);have hc:Am Γ o=0:=by simp[Am,hop']
        have:=hnext (.complex .f64 id 0) [(id,AZ e.zero e.ty)] _ _ (λk h=>by
          have h':(match tyo tt e.ty with|some e'=>bif e'.zero.all noV then k (.complex .f64 id 0) [(id,AZ e'.zero e.ty)] else False|none=>False):=h
          rw[he]at h';simp only[hb,cond_true]at h';exact h') (by rw[hc];exact hn.1) (by rw[hc];exact hn.2) (HU id m _) (GD id m _ (by rw[show(AZ e.zero e.ty).cs=e.zero from rfl,Nh hb];exact λ_ h=>(nomatch h)))
        rwa [show r2 _ (Value.complex .f64 id 0)=.pointer (some ⟨w.heap.size,0,none⟩) from by show Value.pointer (Option.map _ (if id=id then _ else _))=_;rw[if_pos rfl];rfl]at this
    · exact hop.elim
  · rename_i T x v
    simp only[Bj,List.map_cons,List.map_nil,List.cons.injEq,and_true]at hev;have hc:Am Γ o=0:=by simp[Am,hop']
    have hcl':∀j∈BN v,j<id\/id+8<=j:=λj hj=>let ⟨b,hb⟩:=hcl j (by simpa using hj);(hm j b hb).2
    rw[run_box hop',Oper.upon_value];have hp:∀β:Gh,r2 (Gh.α ⟨λi=>if i=id then some ⟨w.heap.size,0,none⟩ else G.α i,G.Z,G.RB⟩) (Value.complex .f64 id 0)=.pointer (some ⟨w.heap.size,0,none⟩):=λ_=>by show Value.pointer (Option.map _ (if id=id then _ else _))=_;rw[if_pos rfl];rfl
    split at hop
    · rename_i cs
      have hn:=newOk (id:=id) E hz hR hw0 (q:=q) cs.toList T (cells:=(cs.map (r0 G.α)).toList) (fun β hβ=>by rw[Array.toList_map];exact EX (β:=β) (α:=G.α) EV cs.toList λj hj=>hβ j (hcl' j hj));have:=hnext (.complex .f64 id 0) [(id,AZ cs.toList T)] _ _ (λk h=>h) (by rw[hc];exact hn.1) (by rw[hc];exact hn.2) (HU id m _) (GD id m _ ((cl1 (.agg cs) (by simp)).cons _));rw[hp G]at this;rw[hev,show(r2 G.α (Value.agg cs)).cells=(cs.map (r0 G.α)).toList.toArray from rfl];exact this
    · rename_i hna
      cases hb:Eo v with
      |false=>rw[hb]at hop;exact hop.elim
      |true=>
        have h1:=DK hb G.α;have hn:=newOk (id:=id) E hz hR hw0 (q:=q) [v] T (cells:=[r0 G.α v]) (fun β hβ=>EX (β:=β) (α:=G.α) EV [v] λj hj=>hβ j (hcl' j (by rw[h1.2.1];simpa using hj)))
        have:=hnext (.complex .f64 id 0) [(id,AZ [v] T)] _ _ (λk h=>by
          cases v<;>first|(simp only[opg,hb,cond_true]at h;exact h)|exact absurd rfl (hna _)) (by rw[hc];exact hn.1) (by rw[hc];exact hn.2) (HU id m _) (GD id m _ (Clo.cons (by rw[show(AZ [v] T).cs.flatMap Cj=BN v from by rw[h1.2.1];show [v].flatMap Cj=_;simp];exact cl1 v (by simp)) _))
        rw[hp G]at this;rw[hev,h1.2.2.1];exact this
  · rename_i T ps
    split at hop
    · rename_i e he
      obtain⟨h1,h2⟩:=E.ty he;subst h2
      · cases hb:(Nat.beq e.u 4&&e.zero.all noV) with
        |false=>rw[hb]at hop;exact hop.elim
        |true=>
          rw[hb,cond_true]at hop;obtain⟨cs,hf,_⟩:=GI _ _ _ hop;have hb':=hb;simp only[Bool.and_eq_true]at hb';obtain⟨fs,hd,hpl,_⟩:=h1.struct (Nat.eq_of_beq_eq_true hb'.1);obtain⟨it,z,hi,_,hzr,hzc⟩:=h1.info;have hfl:=Nq e.offs G.α _ _ _ _ hf;rw[IP hb'.2]at hfl
          have hpar:(ps.map λp=>(p.1,a.eval p.2)).toList=(ps.toList.map (·.1)).zip (vs.map (r2 G.α)):=by
            rw[<-hev,Array.toList_map];show _=(ps.toList.map _).zip ((ps.toList.map _).map _);rw[List.map_map,List.zip_map',];rfl
          refine simple (.agg cs.toArray) (.agg (cs.map (r0 G.α)).toArray) ?_ (by show _=Value.agg _;simp) (by simp[Am,hop']) (λi hi=>?_) λk h=>?_
          · have hbt:P.built e.ty (ps.map λp=>(p.1,a.eval p.2)).toList=some (cs.map (r0 G.α)).toArray:=by
              unfold Program.built;rw[hi,hd,hpar];simp only[hzr,hpl];rw[<-Array.toArray_toList (xs:=z.cells),hzc];exact hfl
            have:=run_build (P:=P) w e.ty _ _ hbt;simp only[execOp,hop'];rw[show(ps.map λ(x:Nat × Operand)=>match x with|(i,x)=>(i,a.eval x))=ps.map λp=>(p.1,a.eval p.2) from rfl];simp only[Sem.run_bind,this,Result.andThen_ok,Sem.run_pure]
          · rcases KM _ _ _ _ _ hf i (by have h':i∈cs.toArray.toList.flatMap Cj:=hi;rwa [List.toList_toArray]at h') with h|h
            · rw[Nh hb'.2]at h;cases h
            · exact hcl i h
          · simp only[opg,he,hb,cond_true]at h
            obtain⟨cs',hf',hk⟩:=GI _ _ _ h;rw[hf]at hf';cases hf';exact hk
    · exact hop.elim
  · rename_i T n ps
    split at hop
    · rename_i e he
      split at hop
      · rename_i e' he'
        cases hb:(Nat.beq e.u 3&&Nat.beq vs.length n&&KB (ps.toList.map (·.1)) 0&&Nat.ble 1 e'.size&&Nat.ble (n*e'.size) 16777216&&vs.all (λv=>Nat.beq (Ad v).length e'.size&&(Ad v).all (λu=>noV u&&Eo u))) with
        |false=>rw[hb]at hop;exact hop.elim
        |true=>
          obtain⟨h1,h2⟩:=E.ty he;obtain⟨h3,h4⟩:=E.ty he';subst h2;have hb':=hb;simp only[Bool.and_eq_true]at hb';obtain⟨⟨⟨⟨⟨b1,b2⟩,b3⟩,b4⟩,b5⟩,b6⟩:=hb'
          have hall:∀v∈vs,(Ad v).length=e'.size/\∀u∈Ad v,noV u=true/\Eo u=true:=λv hv=>by
            have:=List.all_eq_true.1 b6 v hv;simp only[Bool.and_eq_true]at this;exact⟨Nat.eq_of_beq_eq_true this.1,λu hu=>by have:=List.all_eq_true.1 this.2 u hu;simpa using this⟩
          have hcl:∀v∈vs,(r2 G.α v).cells.toList=Ad v:=λv hv=>by
            have h5:=(hall v hv).2;rcases Jf v with⟨cs,rfl⟩|⟨_,_,_,e4⟩
            · rw[IX rfl];exact IP (List.all_eq_true.2 λu hu=>(h5 u hu).1) _
            · rw[e4]at h5 ⊢
              obtain⟨h6,h7⟩:=h5 v (by simp);rw[(DK h7 G.α).2.2.1,FA h6]
          have hev':(ps.toList.map λp=>a.eval p.2)=vs.map (r2 G.α):=by rw[<-hev];show _=(ps.toList.map _).map _;rw[List.map_map];rfl
          have hc:Am Γ o=0:=by simp[Am,hop']
          have hsz:ps.size=n:=by
            have:=congrArg List.length hev';simp at this;rw[this];exact Nat.eq_of_beq_eq_true b2
          rw[Hx h1 (Nat.eq_of_beq_eq_true b1) h3 h4 hop' hsz b3 (AD b4) (AD b5) (λv hv=>by
            rw[hev']at hv;obtain⟨u,hu,rfl⟩:=List.mem_map.1 hv
            rw[<-Array.length_toList,hcl u hu];exact(hall u hu).1),Oper.upon_value]
          have hfl:((ps.toList.map λp=>a.eval p.2).flatMap λv=>v.cells.toList)=(vs.map Ad).flatten:=by
            rw[hev',List.flatMap_def,List.map_map];exact congrArg _ (List.map_congr_left λv hv=>hcl v hv)
          rw[hfl];have hgs:=GS.new (id:=id) (q:=q) E hz hR (.cells (vs.map Ad).flatten.toArray e.el);have hlen:(vs.map Ad).length=n:=by rw[List.length_map];exact Nat.eq_of_beq_eq_true b2
          have:=hnext (.iface id (.slice none n n)) [(id,Dw e.el e'.size (vs.map Ad))] _ _ (λk h=>by
            simp only[opg,he,he',hb,cond_true]at h
            exact h) (by rw[hc];exact hgs) (by
            rw[hc];refine⟨λi b h=>?_,λi b h _=>?_,λi b j c h h' _ _ hij=>?_⟩
            · cases List.mem_singleton.1 h
              refine⟨λh=>(nomatch h),λh=>(nomatch h),λh=>(nomatch h),λ_=>⟨w.heap.size,vs.map Ad,if_pos rfl,hw0,λhk=>absurd (hz _ hk).1 (Nat.lt_irrefl _),λhk=>absurd (hR _ hk) (Nat.lt_irrefl _),rfl,λel hel=>?_,?_,λj el hj=>⟨λk hk=>hk el hj,λ_ _=>trivial⟩⟩,λh=>(nomatch h),.inr (.inr (.inr (.inl rfl)))⟩
              · obtain⟨v,hv,rfl⟩:=List.mem_map.1 hel
                refine⟨(hall v hv).1,λu hu=>?_⟩;obtain⟨h6,h7⟩:=(hall v hv).2 u hu;exact⟨by rw[<-FA h6 G.α];exact(DK h7 G.α).2.2.2,fun β=>FA h6 β⟩
              · have hfs:((vs.map Ad).flatten).length=(vs.map Ad).length*e'.size:=Kr λel hel=>by obtain⟨v,hv,rfl⟩:=List.mem_map.1 hel;exact(hall v hv).1
                refine⟨hfs,AG _,(vs.map Ad).flatten.toArray,?_,?_,?_⟩
                · show(w.heap.push _)[w.heap.size]?=_
                  rw[Array.getElem?_push,if_pos rfl];rfl
                · rw[List.size_toArray];exact hfs
                · rw[List.toList_toArray];exact List.take_of_length_le (Nat.le_of_eq hfs)
            · cases List.mem_singleton.1 h
              exact⟨w.heap.size,if_pos rfl,AG _⟩
            · cases List.mem_singleton.1 h
              cases List.mem_singleton.1 h'
              exact absurd rfl hij) (λi hi=>by
            cases List.mem_singleton.1 (show i∈[id] from hi)
            exact⟨_,Ag _ _ _⟩) (GD id m _ (λ_ h=>(nomatch h)))
          rwa [show r2 _ (Value.iface id (.slice none n n))=.slice (some ⟨w.heap.size,0,none⟩) n n from by show Value.slice (if id=id then _ else _) _ _=_;rw[if_pos rfl]]at this
      · exact hop.elim
    · exact hop.elim
  · rename_i T x f cs
    simp only[Bj,List.map_cons,List.map_nil,List.cons.injEq,and_true]at hev;split at hop
    · rename_i e he
      split at hop
      · rename_i off sz hf
        split at hop
        · rename_i n1 hv
          cases hb:(Nat.beq e.u 4&&Nat.beq e.el 1) with
          |false=>rw[hb]at hop;exact hop.elim
          |true=>
            obtain⟨h1,h2⟩:=E.ty he;subst h2;have hb':=hb;simp only[Bool.and_eq_true]at hb';refine simple (.int .i64 n1) (.int .i64 n1) (ON h1 (Nat.eq_of_beq_eq_true hb'.1) (Nat.eq_of_beq_eq_true hb'.2) hf hop' hev ?_) rfl (by simp[Am,hop']) nilc λk h=>?_
            · rw[Array.getElem?_toList]at hv
              rw[Array.getElem?_map,hv];rfl
            · simp only[opg,he,hf,hv,hb,cond_true]at h
              exact h
        · exact hop.elim
      · exact hop.elim
    · exact hop.elim
  · rename_i T x i n1 sz f
    simp only[Bj,List.map_cons,List.map_nil,List.cons.injEq,and_true]at hev;split at hop
    · rename_i b hl
      cases hb:(Nat.beq b.kd 3&&Nat.beq sz b.sz) with
      |false=>rw[hb]at hop;exact hop.elim
      |true=>
        rw[hb]at hop;have hb':=hb;simp only[Bool.and_eq_true]at hb';obtain⟨g,els,hg,_,_,_,hk⟩:=(hm i b (DC hl)).1.k3 (Nat.eq_of_beq_eq_true hb'.1);obtain⟨el,hel⟩:∃el,els[n1]?=some el:=⟨els[n1]'(by rw[hk.1];exact hop.1),by simp⟩
        have hx:a.eval x=.pointer (some ⟨g,n1*b.sz+f,none⟩):=by
          rw[hev];show Value.pointer ((G.α i).map _)=_;rw[hg,<-Nat.eq_of_beq_eq_true hb'.2,Option.map_some,IG,Nat.zero_add];rfl
        have hreal:=(hk.2.1 el (AE hel)).2
        obtain⟨v,h1,h2,h3⟩:=Nl (P:=P) (w:=w) (α:=G.α) (cs:=el) (o':=n1*b.sz) E hop' hx (λy v hv=>by
          rw[(hreal v (AE hv)).2];refine hk.2.2.1.cell ?_;rw[Ks (λe he=>(hk.2.1 e he).1) n1 el hel y (by have:=(AC hv).1;rw[(hk.2.1 el (AE hel)).1]at this;exact this)]
          exact hv) ((hk.2.2.2 n1 el hel).1 _ hop.2)
        refine simple v _ h1 rfl (by simp[Am,hop']) (λj hj=>?_) λk h=>?_
        · obtain⟨u,hu,hu'⟩:=List.mem_flatMap.1 (h3 j hj)
          rw[LX (hreal u hu).2]at hu';cases hu'
        · simp only[opg,hl,hb,cond_true]at h
          exact h2 _ ((hk.2.2.2 n1 el hel).1 _ h.2)
    · exact hop.elim
  · rename_i T x f i n1 sz off
    simp only[Bj,List.map_cons,List.map_nil,List.cons.injEq,and_true]at hev;split at hop
    · rename_i e b he hl
      obtain⟨h1,h2⟩:=E.ty he;subst h2;split at hop
      · rename_i p hf
        cases hb:(Nat.beq e.u 4&&Nat.beq b.kd 3) with
        |false=>rw[hb]at hop;exact hop.elim
        |true=>
          have hb':=hb;simp only[Bool.and_eq_true]at hb';obtain⟨g,els,hg,_⟩:=(hm i b (DC hl)).1.k3 (Nat.eq_of_beq_eq_true hb'.2)
          have hp:∀y,r2 G.α (.iface i (.pointer (some ⟨n1,sz,some y⟩)))=.pointer (some ⟨g,n1*sz+y,none⟩):=λy=>by
            show Value.pointer ((G.α i).map _)=_;rw[hg,Option.map_some,IG,Nat.zero_add];rfl
          rw[hp]at hev;refine simple (.iface i (.pointer (some ⟨n1,sz,some (off+p.1)⟩))) _ (F0 (sz:=p.2) h1 (Nat.eq_of_beq_eq_true hb'.1) hf hop' hev) ?_ (by simp[Am,hop']) (cl1 (.iface i (.pointer (some ⟨n1,sz,some off⟩))) (by simp)) λk h=>?_
          · rw[hp,IG,Nat.add_assoc]
          · simp only[opg,he,hl,hf,hb,cond_true]at h
            exact h
      · exact hop.elim
    · exact hop.elim
  · rename_i T x fk i off
    simp only[Bj,List.map_cons,List.map_nil,List.cons.injEq,and_true]at hev;split at hop
    · rename_i b hl
      cases hb:(Nat.beq b.kd 0||Nat.beq b.kd 2) with
      |false=>rw[hb]at hop;exact hop.elim
      |true=>
        rw[hb]at hop
        have hkd:b.kd=0\/b.kd=2:=by
          rcases Bool.or_eq_true_iff.1 hb with h|h
          · exact .inl (Nat.eq_of_beq_eq_true h)
          · exact .inr (Nat.eq_of_beq_eq_true h)
        obtain⟨g,o',hg,hcell⟩:=(hm i b (DC hl)).1.cell hkd;have hx:a.eval x=.pointer (some ⟨g,o'+off,none⟩):=by rw[hev,FT fk off hg]
        replace hop:ldv tt T b.cs off (λv=>k0 v []):=hop
        obtain⟨v,h1,h2,h3⟩:=Nl (P:=P) (w:=w) (α:=G.α) E hop' hx hcell hop
        exact simple v _ h1 rfl (by simp[Am,hop']) (λj hj=>hmc i b (DC hl) j (h3 j hj)) λk h=>by
          simp only[opg,hl,hb,cond_true]at h;exact h2 _ h
    · exact hop.elim
  · rename_i T x f fk i off
    simp only[Bj,List.map_cons,List.map_nil,List.cons.injEq,and_true]at hev;split at hop
    · rename_i e b he hl
      obtain⟨h1,h2⟩:=E.ty he;subst h2;split at hop
      · rename_i p hf
        cases hb:(Nat.beq e.u 4&&OQ b) with
        |false=>rw[hb]at hop;exact hop.elim
        |true=>
          simp only[Bool.and_eq_true]at hb;obtain⟨g,o',hg⟩:=(hm i b (DC hl)).1.at hb.2;have hx:a.eval x=.pointer (some ⟨g,o'+off,none⟩):=by rw[hev,FT fk off hg]
          refine simple (.complex fk i (off+p.1)) _ (F0 (sz:=p.2) h1 (Nat.eq_of_beq_eq_true hb.1) hf hop' hx) ?_ (by simp[Am,hop']) (cl1 (.complex fk i off) (by simp)) λk h=>?_
          · rw[FT fk _ hg,IG,Nat.add_assoc]
          · simp only[opg,he,hl,hf,hb.1,hb.2,Bool.and_true,cond_true]at h
            exact h
      · exact hop.elim
    · exact hop.elim
  · rename_i T x y i sa n cap n1
    simp only[Bj,List.map_cons,List.map_nil,List.cons.injEq,and_true]at hev;split at hop
    · rename_i b hl
      split at hop
      · rename_i e he
        split at hop
        · rename_i e' he'
          cases hb:(Nat.beq e.u 3&&Nat.beq e'.size b.sz) with
          |false=>rw[hb]at hop;exact hop.elim
          |true=>
           rw[hb]at hop;have hb':=hb;simp only[Bool.and_eq_true]at hb';obtain⟨h1,h2⟩:=E.ty he;obtain⟨h3,h4⟩:=E.ty he';subst h2
           cases hk1:Nat.beq b.kd 1 with
           |false=>
            rw[hk1]at hop
            cases hk3:Nat.beq b.kd 3 with
            |false=>rw[hk3]at hop;exact hop.elim
            |true=>
              rw[hk3]at hop;obtain⟨h0,hn,hnb,hQ0⟩:=hop;obtain⟨g,els,hg,_⟩:=(hm i b (DC hl)).1.k3 (Nat.eq_of_beq_eq_true hk3);have hx:a.eval x=.slice (some ⟨g,0,none⟩) n cap:=by rw[hev.1];show Value.slice (G.α i) n cap=_;rw[hg]
              refine simple (.iface i (.pointer (some ⟨n1.toNat,b.sz,some 0⟩))) _ (Fz h1 (Nat.eq_of_beq_eq_true hb'.1) h3 h4 hop' hx hev.2 h0 hn) ?_ (by simp[Am,hop']) (λj hj=>hcl j (by
                rw[List.mem_singleton.1 (show j∈[i] from hj)];show i∈[Value.iface i (.slice sa n cap),.int .i64 n1].flatMap BN
                exact List.mem_flatMap.2 ⟨_,List.mem_cons_self,List.mem_singleton.2 rfl⟩)) λk h=>?_
              · show _=Value.pointer ((G.α i).map _)
                rw[hg,Nat.eq_of_beq_eq_true hb'.2];rfl
              · simp only[opg,hl,he,he',hb,hk1,hk3,cond_true,cond_false]at h
                exact h.2.2.2
           |true=>
            rw[hk1]at hop;obtain⟨h0,hn,hnb,hQ0⟩:=hop;obtain⟨g,o',el,hg,hZ,hQ,hE⟩:=(hm i b (DC hl)).1.k1 (Nat.eq_of_beq_eq_true hk1) n1.toNat (by omega);have hx:a.eval x=.slice (some ⟨g,o',none⟩) n cap:=by rw[hev.1];show Value.slice (G.α i) n cap=_;rw[hg]
            have hc:Am Γ o=0:=by simp[Am,hop']
            rw[Fz h1 (Nat.eq_of_beq_eq_true hb'.1) h3 h4 hop' hx hev.2 h0 hn,Oper.upon_value,IG,Nat.eq_of_beq_eq_true hb'.2];have hgs:=GS.refl (P:=P) (tt:=tt) (Γ:=Γ) (id:=id) (q:=q) E hz hR
            have:=hnext (.complex .f64 id 0) [(id,viewB el b.ty b.E)] ⟨λj=>if j=id then some ⟨g,o'+n1.toNat*b.sz,none⟩ else G.α j,G.Z,G.RB⟩ w (λk h=>by
                simp only[opg,hl,he,he',hb,hk1,cond_true]at h
                exact hQ _ h.2.2.2)
              (by rw[hc];exact⟨hgs.stp,λj hj=>if_neg (by omega),hgs.z1,hgs.z2,hgs.z3,hgs.r1,hgs.r2,hgs.r3,hgs.rd⟩)
              ⟨λj c hj=>by
                cases List.mem_singleton.1 hj
                exact⟨λh=>(nomatch h),λh=>(nomatch h),λ_=>⟨g,_,if_pos rfl,hZ,hE⟩,λh=>(nomatch h),λh=>(nomatch h),.inr (.inr (.inl rfl))⟩,
               λj c hj h=>(by cases List.mem_singleton.1 hj;rcases h with h|h<;>cases h),λj c j' c' hj _ h=>(by cases List.mem_singleton.1 hj;rcases h with h|h<;>cases h)⟩ (HU id m _) (GD id m _ (λx hx=>by
                obtain⟨u,hu,hu'⟩:=List.mem_flatMap.1 hx;obtain⟨y,hy⟩:=List.getElem?_of_mem hu;rw[LX ((hE.1 y u hy).2)]at hu'
                cases hu'))
            rw[FT (g:=g) (o:=o'+n1.toNat*b.sz) .f64 0 (if_pos rfl)]at this;exact this
        · exact hop.elim
      · exact hop.elim
    · exact hop.elim
  · rename_i T x y i sa n cap n1
    simp only[Bj,Option.toList_some,Option.toList_none,List.nil_append,List.append_nil,List.map_cons,List.map_nil,List.cons.injEq,and_true]at hev;split at hop
    · rename_i b hl
      split at hop
      · rename_i e he
        split at hop
        · rename_i e' he'
          cases hb:(Nat.beq e.u 3&&Nat.beq e'.size b.sz&&Nat.beq b.kd 1) with
          |false=>rw[hb]at hop;exact hop.elim
          |true=>
           rw[hb]at hop;have hb':=hb;simp only[Bool.and_eq_true]at hb';obtain⟨h1,h2⟩:=E.ty he;obtain⟨h3,h4⟩:=E.ty he';subst h2;have hc:Am Γ o=0:=by simp[Am,hop']
           obtain⟨h0,hn,hnb,hcp,hk0⟩:=hop;rw[run_slcL h1 (Nat.eq_of_beq_eq_true hb'.1.1) h3 h4 hop' hev.1 hev.2 h0 hn,Oper.upon_value,Nat.eq_of_beq_eq_true hb'.1.2];have hgs:=GS.refl (P:=P) (tt:=tt) (Γ:=Γ) (id:=id) (q:=q) E hz hR
           have:=hnext (.iface id (.slice none (n - n1.toNat) (cap - n1.toNat))) [(id,DX b n1.toNat (n - n1.toNat))] ⟨λj=>if j=id then(if cap=n1.toNat then G.α i else(G.α i).map (·.add (n1.toNat*b.sz))) else G.α j,G.Z,G.RB⟩ w (λk h=>by
               simp only[opg,hl,he,he',hb,cond_true]at h
               exact h.2.2.2.2)
             (by rw[hc];exact⟨hgs.stp,λj hj=>if_neg (by omega),hgs.z1,hgs.z2,hgs.z3,hgs.r1,hgs.r2,hgs.r3,hgs.rd⟩)
             ⟨λj c hj=>by
               cases List.mem_singleton.1 hj
               rw[hc];exact LJ (cp:=cap) (Nat.eq_of_beq_eq_true hb'.2) (hm i b (DC hl)).1 (by omega) (by omega),
              λj c hj h=>(by cases List.mem_singleton.1 hj;rcases h with h|h<;>cases h),λj c j' c' hj _ h=>(by cases List.mem_singleton.1 hj;rcases h with h|h<;>cases h)⟩ (HU id m _) (GD id m _ (λ_ h=>(nomatch h)))
           rw[show r2 _ (Value.iface id (.slice none (n - n1.toNat) (cap - n1.toNat)))=sliced (G.α i) n1.toNat n cap b.sz from by show Value.slice (if id=id then _ else _) _ _=_;rw[if_pos rfl];rfl]at this;exact this
        · exact hop.elim
      · exact hop.elim
    · exact hop.elim
  · rename_i T x y i sa n cap n1
    simp only[Bj,Option.toList_some,Option.toList_none,List.nil_append,List.append_nil,List.map_cons,List.map_nil,List.cons.injEq,and_true]at hev;split at hop
    · rename_i b hl
      split at hop
      · rename_i e he
        split at hop
        · rename_i e' he'
          cases hb:(Nat.beq e.u 3&&Nat.beq e'.size b.sz&&Nat.beq b.kd 1) with
          |false=>rw[hb]at hop;exact hop.elim
          |true=>
           rw[hb]at hop;have hb':=hb;simp only[Bool.and_eq_true]at hb';obtain⟨h1,h2⟩:=E.ty he;obtain⟨h3,h4⟩:=E.ty he';subst h2;have hc:Am Γ o=0:=by simp[Am,hop']
           obtain⟨h0,hn,hnb,hk0⟩:=hop;rw[run_slcH h1 (Nat.eq_of_beq_eq_true hb'.1.1) h3 h4 hop' hev.1 hev.2 h0 hn,Oper.upon_value,Nat.eq_of_beq_eq_true hb'.1.2];have hgs:=GS.refl (P:=P) (tt:=tt) (Γ:=Γ) (id:=id) (q:=q) E hz hR
           have:=hnext (.iface id (.slice none (n1.toNat) (cap))) [(id,DX b 0 n1.toNat)] ⟨λj=>if j=id then(if cap=0 then G.α i else(G.α i).map (·.add (0*b.sz))) else G.α j,G.Z,G.RB⟩ w (λk h=>by
               simp only[opg,hl,he,he',hb,cond_true]at h
               exact h.2.2.2)
             (by rw[hc];exact⟨hgs.stp,λj hj=>if_neg (by omega),hgs.z1,hgs.z2,hgs.z3,hgs.r1,hgs.r2,hgs.r3,hgs.rd⟩)
             ⟨λj c hj=>by
               cases List.mem_singleton.1 hj
               rw[hc];exact LJ (cp:=cap) (Nat.eq_of_beq_eq_true hb'.2) (hm i b (DC hl)).1 (by omega) (by omega),
              λj c hj h=>(by cases List.mem_singleton.1 hj;rcases h with h|h<;>cases h),λj c j' c' hj _ h=>(by cases List.mem_singleton.1 hj;rcases h with h|h<;>cases h)⟩ (HU id m _) (GD id m _ (λ_ h=>(nomatch h)))
           rw[show r2 _ (Value.iface id (.slice none (n1.toNat) (cap)))=sliced (G.α i) 0 n1.toNat cap b.sz from by show Value.slice (if id=id then _ else _) _ _=_;rw[if_pos rfl];rfl]at this;exact this
        · exact hop.elim
      · exact hop.elim
    · exact hop.elim
  · rename_i args ts i sa n cap
    obtain⟨x,rfl,hx⟩:=Kk hev
    cases hb:Lp tt ts 3 with
    |false=>rw[hb]at hop;exact hop.elim
    |true=>
      obtain⟨e,h1,h2,h3⟩:=Ko E hb (by decide);exact simple (.int .i64 n) _ (Fy h1 h2 h3 hop' hx) rfl (by simp[Am,hop']) nilc λk h=>by simp only[opg,hb,cond_true]at h;exact h
  · rename_i args ts sa n cap
    obtain⟨x,rfl,hx⟩:=Kk hev
    cases hb:Lp tt ts 3 with
    |false=>rw[hb]at hop;exact hop.elim
    |true=>
      obtain⟨e,h1,h2,h3⟩:=Ko E hb (by decide);exact simple (.int .i64 n) _ (Fy h1 h2 h3 hop' hx) rfl (by simp[Am,hop']) nilc λk h=>by simp only[opg,hb,cond_true]at h;exact h
  · rename_i args ts s
    obtain⟨x,rfl,hx⟩:=Kk hev
    cases hb:Lp tt ts 2 with
    |false=>rw[hb]at hop;exact hop.elim
    |true=>
      obtain⟨e,h1,h2,h3⟩:=Ko E hb (by decide);exact simple (.int .i64 s.size) _ (Is h1 h2 h3 hop' hx) rfl (by simp[Am,hop']) nilc λk h=>by simp only[opg,hb,cond_true]at h;exact h
  · rename_i f args ts
    split at hop
    · rename_i c C hl
      obtain⟨hcb,hct⟩:=E.ct f c C hl;have hc:Am Γ o=c:=by simp[Am,hop',hl]
      have hargs:args.map a.eval=(vs.map (r2 G.α)).toArray:=by rw[<-hev];show args.map a.eval=(args.toList.map a.eval).toArray;rw[<-Array.toList_map,Array.toArray_toList]
      rw[run_call hcb hop' rfl,Oper.upon_enter,hargs];rw[hc]at hq hnext;refine(hct w0 G w q id vs _ k0 hz hR hw0 (λi b h=>(hm i b (FZ _ _ _ _ h)).1) (λi b h=>(hm i b (FZ _ _ _ _ h)).2) hq hop).mono ?_;rintro e w' ⟨v,es',G',hk,rfl,hs,hn,hc1,hc2⟩
      have hsub:∀l,Clo (es'++EZ m (vs.flatMap BN)) l->Clo (es'++m) l:=λl hl=>hl.mono λi b hb=>by
        rw[Bc]at hb ⊢
        cases he:lk es' i with
        |some b'=>exact⟨b',rfl⟩
        |none=>rw[he]at hb;exact⟨b,DC hb⟩
      exact hnext v es' G' w' (λk h=>hk k (by simp only[opg,hl]at h;exact h)) hs hn (hsub _ hc1) λi b hi=>⟨(hc2 i b hi).1,(hc2 i b hi).2.1,hsub _ (hc2 i b hi).2.2⟩
    · exact hop.elim
  · rename_i x i us
    simp only[Bj,List.map_cons,List.map_nil,List.cons.injEq,and_true]at hev;split at hop
    · rename_i v hv
      cases hb:Ft v with
      |false=>rw[hb]at hop;exact hop.elim
      |true=>
        refine simple v (r1 G.α v) (LS (vs:=us.map (r1 G.α)) hop' hev (by simp[hv])) ?_ (by simp[Am,hop']) (λi hi=>?_) λk h=>?_
        · rcases Ij v with⟨_,rfl⟩|⟨h1,_⟩
          · cases hb
          · exact(h1 _).symm
        · rcases Ij v with⟨_,rfl⟩|⟨_,h2⟩
          · cases hb
          · rw[h2]at hi
            exact cl1 (.tuple us) (by simp) i (List.mem_flatMap.2 ⟨v,by rw[Array.mem_toList_iff];exact Array.mem_of_getElem? hv,hi⟩)
        · simp only[opg,hv,hb,cond_true]at h;exact h
    · exact hop.elim
  · rename_i x fk i off
    simp only[Bj,List.map_cons,List.map_nil,List.cons.injEq,and_true]at hev;split at hop
    · rename_i b hl
      cases hb:OQ b with
      |false=>rw[hb]at hop;exact hop.elim
      |true=>
        obtain⟨g,o',hg⟩:=(hm i b (DC hl)).1.at hb;rw[FT fk off hg]at hev;refine simple (.complex fk i off) _ (Ka hop' hev) (FT fk off hg).symm (by simp[Am,hop']) (cl1 (.complex fk i off) (by simp)) λk h=>?_
        simp only[opg,hl,hb,cond_true]at h;exact h
    · exact hop.elim
  · exact hop.elim
end
end Go.Proofs.YtbceafpodamnfaaGreat
