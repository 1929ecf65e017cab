import Derived.Test.YtbceafpodamnfaaGreatH11
set_option linter.all false
set_option maxHeartbeats 4000000
set_option maxRecDepth 100000
namespace Go.Proofs.YtbceafpodamnfaaGreat
section
open Go Go.RowKit
def TT:List TE:=[⟨27,4,0,4,[(0,1),(1,1),(2,1),(3,1)],[.int .i64 0,.slice none 0 0,.slice none 0 0,.slice none 0 0]⟩,⟨49,4,0,7,[(0,1),(1,1),(2,1),(3,1),(4,1),(5,1),(6,1)],[.string ⟨#[]⟩,.int .i64 0,.int .i64 0,.int .i64 0,.int .i64 0,.bool false,.string ⟨#[]⟩]⟩,⟨3,0,0,1,[],[.int .i64 0]⟩,⟨4,1,0,1,[],[.bool false]⟩,⟨9,2,0,1,[],[.string ⟨#[]⟩]⟩,⟨24,3,49,1,[],[.slice none 0 0]⟩,⟨25,3,51,1,[],[.slice none 0 0]⟩,⟨23,3,29,1,[],[.slice none 0 0]⟩,⟨44,3,3,1,[],[.slice none 0 0]⟩,⟨132,3,163,1,[],[.slice none 0 0]⟩,⟨51,4,0,2,[(0,1),(1,1)],[.string ⟨#[]⟩,.bool false]⟩,⟨29,4,0,13,[(0,1),(1,1),(2,1),(3,1),(4,1),(5,1),(6,1),(7,1),(8,1),(9,1),(10,1),(11,1),(12,1)],[.string ⟨#[]⟩,.int .i64 0,.bool false,.int .i64 0,.int .i64 0,.int .i64 0,.int .i64 0,.int .i64 0,.int .i64 0,.int .i64 0,.int .i64 0,.int .i64 0,.int .i64 0]⟩,⟨163,4,0,2,[(0,1),(1,1)],[.int .i64 0,.int .i64 0]⟩,⟨134,4,0,8,[(0,1),(1,1),(2,1),(3,1),(4,1),(5,1),(6,1),(7,1)],[.string ⟨#[]⟩,.int .i64 0,.int .i64 0,.int .i64 0,.int .i64 0,.bool false,.slice none 0 0,.bool false]⟩,⟨156,4,1,5,[(0,1),(1,1),(2,1),(3,1),(4,1)],[.int .i64 0,.int .i64 0,.int .i64 0,.int .i64 0,.int .i64 0]⟩,⟨45,3,9,1,[],[.slice none 0 0]⟩,⟨31,4,0,17,[(0,1),(1,13),(14,1),(15,1),(16,1)],[.int .i64 0,.string ⟨#[]⟩,.int .i64 0,.bool false,.int .i64 0,.int .i64 0,.int .i64 0,.int .i64 0,.int .i64 0,.int .i64 0,.int .i64 0,.int .i64 0,.int .i64 0,.int .i64 0,.string ⟨#[]⟩,.int .i64 0,.bool false]⟩,⟨109,4,0,19,[(0,1),(1,1),(2,17)],[.int .i64 0,.int .i64 0,.int .i64 0,.string ⟨#[]⟩,.int .i64 0,.bool false,.int .i64 0,.int .i64 0,.int .i64 0,.int .i64 0,.int .i64 0,.int .i64 0,.int .i64 0,.int .i64 0,.int .i64 0,.int .i64 0,.string ⟨#[]⟩,.int .i64 0,.bool false]⟩]
theorem TT_ok:∀e∈TT,TEok Tryz.prog e:=by
 intro e he;simp only[TT,List.mem_cons,List.not_mem_nil,or_false]at he;rcases he with rfl|rfl|rfl|rfl|rfl|rfl|rfl|rfl|rfl|rfl|rfl|rfl|rfl|rfl|rfl|rfl|rfl|rfl<;>exact⟨by kernel_rfl,by kernel_rfl⟩
def BZ(ty sz:Nat){X:Type}(f:X->List Value)(l:List X):VB:=⟨1,ty,sz,l.length,0,[],λi k=>∀x,l[i]?=some x->k (f x),λ_ _=>True⟩
def svL(s:Svc):List Value:=[.string s.name,.int .i64 s.version,.bool s.gone,.int .i64 s.image,.int .i64 s.want,.int .i64 s.down,.int .i64 s.over,.int .i64 s.next,.int .i64 s.per,.int .i64 s.least,.int .i64 s.most,.int .i64 s.load,.int .i64 s.cool]
def cpL(c:Cp):List Value:=[.string c.service,.int .i64 c.number,.int .i64 c.version,.int .i64 c.image,.int .i64 c.state,.bool c.ending,.string c.berth]
def btL(c:Bt):List Value:=[.string c.name,.bool c.drain]
def EQ(B:Bk)(c1 c2 c3:Nat):List Value:=[.int .i64 B.now,.iface 0 (.slice none B.svcs.length c1),.iface 1 (.slice none B.cps.length c2),.iface 2 (.slice none B.bts.length c3)]
def bkM(B:Bk):AV:=[(0,BZ 29 13 svL B.svcs),(1,BZ 49 7 cpL B.cps),(2,BZ 51 2 btL B.bts)]
def Mh:(Nat->Prop)->World->Nat->Nat->Prop:=λ_ _ _ _=>False
theorem Fk{RD:(Nat->Prop)->World->Nat->Nat->Prop}{w0 w:World}{G:Gh}{q i ty sz:Nat}{X:Type}{f:X->List Value}{l:List X}{ao:Option Addr}(hα:G.α i=ao)(hZ:∀k,k<w.heap.size->G.Z k)(hf:∀x,(f x).all noV=true)
  (h:l≠[]->∃b off,ao=some ⟨b,off,none⟩/\b<w.heap.size/\∀i x,l[i]?=some x->∀j v,(f x)[j]?=some v->w.cell? ⟨b,off+i*sz+j,none⟩=some v):Hold RD w0 G w q i (BZ ty sz f l):=by
 refine⟨λh=>(nomatch h),λ_ j hj=>?_,λh=>(nomatch h),λh=>(nomatch h),λh=>(nomatch h),.inr (.inl rfl)⟩;have hj':j<l.length:=hj;obtain⟨b,off,e,hb,hc⟩:=h (λe=>by rw[e]at hj';cases hj');obtain⟨x,hx⟩:∃x,l[j]?=some x:=⟨l[j],by simp⟩;exact⟨b,off,f x,hα.trans e,hZ b hb,λk hk=>hk x hx,λy v hv=>⟨hc j x hx y v hv,fun β=>FA (List.all_eq_true.1 (hf x) v (AE hv)) β⟩,λ_ _=>trivial⟩
def gh3(w:World)(a1 a2 a3:Option Addr):Gh:=⟨λi=>match i with|0=>a1|1=>a2|2=>a3|_=>none,λk=>k<w.heap.size,λ_=>False⟩
theorem K6{RD:(Nat->Prop)->World->Nat->Nat->Prop}{w:World}{a1 a2 a3:Option Addr}{B:Bk}{q:Nat}(h:BkAt w a1 a2 a3 B):∀i b,lk (bkM B) i=some b->i<64/\Hold RD w (gh3 w a1 a2 a3) w q i b/\¬DE b/\Clo (bkM B) (b.cs.flatMap Cj):=by
 intro i b hb
 have hcs:∀b',(i,b')∈bkM B->b'.kd=1/\b'.cs=[]/\i<64:=λb' hm=>by
  simp only[bkM,List.mem_cons,List.not_mem_nil,or_false,Prod.mk.injEq]at hm;rcases hm with⟨rfl,rfl⟩|⟨rfl,rfl⟩|⟨rfl,rfl⟩<;>exact⟨rfl,rfl,by decide⟩
 have hm:=A9 _ _ _ hb;obtain⟨h1,h2,h3⟩:=hcs b hm;refine⟨h3,?_,by unfold DE;rw[h1];decide,by rw[h2];exact λ_ h=>(nomatch h)⟩;simp only[bkM,List.mem_cons,List.not_mem_nil,or_false,Prod.mk.injEq]at hm;rcases hm with⟨rfl,rfl⟩|⟨rfl,rfl⟩|⟨rfl,rfl⟩
 ·refine Fk (ao:=a1) rfl (λk hk=>hk) (λx=>rfl) λhne=>?_
  obtain⟨b,off,e,hlt,hat⟩:=h.1 hne;refine⟨b,off,e,hlt,λi x hx j v hv=>?_⟩;obtain⟨h0,h1,h2,h3,h4,h5,h6,h7,h8,h9,h10,h11,h12⟩:=hat i x hx
  match j,hv with
  |0,hv=>rw[<-Option.some.inj hv];exact h0
  |1,hv=>rw[<-Option.some.inj hv];exact h1
  |2,hv=>rw[<-Option.some.inj hv];exact h2
  |3,hv=>rw[<-Option.some.inj hv];exact h3
  |4,hv=>rw[<-Option.some.inj hv];exact h4
  |5,hv=>rw[<-Option.some.inj hv];exact h5
  |6,hv=>rw[<-Option.some.inj hv];exact h6
  |7,hv=>rw[<-Option.some.inj hv];exact h7
  |8,hv=>rw[<-Option.some.inj hv];exact h8
  |9,hv=>rw[<-Option.some.inj hv];exact h9
  |10,hv=>rw[<-Option.some.inj hv];exact h10
  |11,hv=>rw[<-Option.some.inj hv];exact h11
  |12,hv=>rw[<-Option.some.inj hv];exact h12
  |k+13,hv=>cases hv
 ·refine Fk (ao:=a2) rfl (λk hk=>hk) (λx=>rfl) λhne=>?_
  obtain⟨b,off,e,hlt,hat⟩:=h.2.1 hne;refine⟨b,off,e,hlt,λi x hx j v hv=>?_⟩;obtain⟨h0,h1,h2,h3,h4,h5,h6⟩:=hat i x hx
  match j,hv with
  |0,hv=>rw[<-Option.some.inj hv];exact h0
  |1,hv=>rw[<-Option.some.inj hv];exact h1
  |2,hv=>rw[<-Option.some.inj hv];exact h2
  |3,hv=>rw[<-Option.some.inj hv];exact h3
  |4,hv=>rw[<-Option.some.inj hv];exact h4
  |5,hv=>rw[<-Option.some.inj hv];exact h5
  |6,hv=>rw[<-Option.some.inj hv];exact h6
  |k+7,hv=>cases hv
 ·refine Fk (ao:=a3) rfl (λk hk=>hk) (λx=>rfl) λhne=>?_
  obtain⟨b,off,e,hlt,hat⟩:=h.2.2 hne;refine⟨b,off,e,hlt,λi x hx j v hv=>?_⟩;obtain⟨h0,h1⟩:=hat i x hx
  match j,hv with
  |0,hv=>rw[<-Option.some.inj hv];exact h0
  |1,hv=>rw[<-Option.some.inj hv];exact h1
  |k+2,hv=>cases hv
theorem Ep:Cc Mh:=λ_ _ _ _ _ _ _ h=>h.elim
def Ap(ty sz cp:Nat){X:Type}(f:X->List Value)(l:List X):VB:=⟨3,ty,sz,l.length,cp,[],λi k=>∀x,l[i]?=some x->k (f x),λ_ _=>True⟩
def rdB:VB:=⟨4,0,0,0,0,[],λ_ _=>True,λ_ _=>True⟩
def FL:Option VB->VB
 |some b=>bif Nat.beq b.kd 1||Nat.beq b.kd 3 then⟨1,b.ty,b.sz,b.n,0,[],b.Q,b.E⟩ else bif Nat.beq b.kd 4 then rdB else JV
 |none=>JV
def Mf:List Nat->Nat->List (Nat × Nat)
 |[],_=>[]
 |i::r,j=>(i,j)::Mf r (j+1)
def Jv(es:AV):List Nat->Nat->AV
 |[],_=>[]
 |i::r,j=>(j,FL (lk es i))::Jv es r (j+1)
def can(vs:List Value)(es:AV):List Value × AV:=(vs.map (rn1 (Mf (vs.flatMap BN) 0)),Jv es (vs.flatMap BN) 0)
def rn2(ρ:List (Nat × Nat)):Value->Value
 | .tuple cs=>.tuple (cs.toList.map (rn1 ρ)).toArray
 |v=>rn1 ρ v
def up0(f:Nat->Nat):Value->Value
 | .complex k i o=>.complex k (f i) o
 | .iface i (.slice a n c)=>.iface (f i) (.slice a n c)
 | .iface i (.pointer (some p))=>.iface (f i) (.pointer (some p))
 |v=>v
def up1(f:Nat->Nat):Value->Value
 | .agg cs=>.agg (cs.toList.map (up0 f)).toArray
 |v=>up0 f v
def up2(f:Nat->Nat):Value->Value
 | .tuple cs=>.tuple (cs.toList.map (up1 f)).toArray
 |v=>up1 f v
def upE(d:Nat):AV->AV
 |[]=>[]
 |(i,b)::r=>(d+i,b)::upE d r
def newB:AV->Bool
 |[]=>true
 |(i,b)::r=>Nat.ble (i+1) 8&&Nat.beq b.kd 3&&b.cs.isEmpty&&newB r
def outB(J:Nat)(es:AV)(v:Value):Bool:=newB es&&(BN v).all λi=>(lk es i).isSome||(Nat.ble 8 i&&Nat.ble (i - 7) J)
def argR(ρ:List (Nat × Nat)):Nat->Bool
 |0=>true
 |j+1=>Nat.beq (rnI ρ (8+j)) j&&argR ρ j
def argM:Nat->AV->Bool
 |0,_=>true
 |j+1,(_,b)::r=>Nat.beq b.kd 1&&argM j r
 |_+1,[]=>false
def upF(J id:Nat)(I:List Nat):Nat->Nat:=match J with
 |0=>λx=>id+x
 |_+1=>λx=>bif Nat.ble 8 x then I.getD (x - 8) 0 else id+x
def ctW(J:Nat){α:Type}(A:α->List Value)(M:α->AV)(Pre:α->Prop)(Out:α->Value->AV->Prop):Ct:=λvs es id k=>
 ∃p,can vs es=(A p,M p)/\Pre p/\∀v es',Out p v es'->k (up2 (upF J id (vs.flatMap BN)) v) (upE id es')
def ctV{α:Type}(A:α->List Value)(M:α->AV)(Pre:α->Prop)(Out:α->Value->AV->Prop):Ct:=λvs es id k=>
 ∃p,can vs es=(A p,M p)/\Pre p/\∀v es',Out p v es'->k (up2 (id+ ·) v) (upE id es')
def freeE:AV->Prop
 |[]=>True
 |(_,b)::r=>(∀W el,b.E W el)/\freeE r
def Ld(J:Nat)(Out:Value->AV->Prop):Value->AV->Nat->Prop:=λv0 m _=>∃v es ρ,Out v es/\v0=rn2 ρ v/\OZ ρ m es/\(OX ρ (Lf es)&&argR ρ J)=true/\outB J es v=true/\freeE es
abbrev Hz:=Ld 0
def endJ(J:Nat)(tt:List TE)(rs:List ResultVar)(Out:Value->AV->Prop):Exit->St->Prop:=λe s=>
 (e=.ret\/e=.normal)/\∃v0,LW tt rs s.t s.m=some v0/\Ld J Out v0 s.m s.q/\clo s.m (BN v0)=true
abbrev endV:=endJ 0
def okA(A:List Value)(M:AV)(nt:Nat)(r:Bool:=false):Bool:=Nat.ble A.length nt&&A.all Ft&&M.all (λq=>Nat.ble (q.1+1) 64&&(r|| !Nat.beq q.2.kd 4))&&clo M (A.flatMap BN)
theorem Ng:∀(I:List Nat) (s i:Nat),i∈I->∃j,lk (Mf I s) i=some (s+j)/\I[j]?=some i
 |[],_,_,h=>by cases h
 |x::r,s,i,h=>by
  by_cases e:x=i
  ·subst e;exact⟨0,Ag _ _ _,rfl⟩
  ·obtain⟨j,h1,h2⟩:=Ng r (s+1) i (by rcases List.mem_cons.1 h with h|h;exact absurd h.symm e;exact h)
   exact⟨j+1,(Aw e _ _).trans (by rw[h1];congr 1;omega),h2⟩
theorem LT(es:AV):∀(I:List Nat) (s j':Nat) (b:VB),lk (Jv es I s) j'=some b->∃j i,j'=s+j/\I[j]?=some i/\b=FL (lk es i)
 |[],_,_,_,h=>by cases h
 |x::r,s,j',b,h=>by
  unfold Jv at h
  by_cases e:s=j'
  ·subst e;rw[Ag]at h;exact⟨0,x,rfl,rfl,(Option.some.inj h).symm⟩
  ·rw[Aw e]at h
   obtain⟨j,i,h1,h2,h3⟩:=LT es r (s+1) j' b h;exact⟨j+1,i,by omega,h2,h3⟩
theorem Ju(es:AV):∀(I:List Nat) (s J:Nat),argM J (Jv es I s)=true->∀j,j<J->∃i b,I[j]?=some i/\lk es i=some b
 |[],_,0,_,_,hj=>by omega
 |[],_,_+1,h,_,_=>by cases h
 |_::_,_,0,_,_,hj=>by omega
 |i::r,s,J+1,h,j,hj=>by
  unfold Jv argM at h;simp only[Bool.and_eq_true]at h
  match j with
  |0=>cases hl:lk es i with
   |none=>rw[hl]at h;cases h.1
   |some b=>exact⟨i,b,rfl,hl⟩
  |j+1=>exact Ju es r (s+1) J h.2 j (by omega)
theorem N7{ρ:List (Nat × Nat)}:∀(J:Nat),argR ρ J=true->∀j,j<J->rnI ρ (8+j)=j
 |0,_,_,h=>by omega
 |J+1,h,j,hj=>by
  unfold argR at h;simp only[Bool.and_eq_true]at h
  by_cases e:j=J
  ·subst e;exact Nat.eq_of_beq_eq_true h.1
  ·exact N7 J h.2 j (by omega)
theorem rn2_r(ρ:List (Nat × Nat))(α:Nat->Option Addr)(v:Value):r2 (λi=>α (rnI ρ i)) v=r2 α (rn2 ρ v):=by
 cases v with
 |tuple cs=>
  show Value.tuple _=Value.tuple _
  congr 1
  apply Array.ext';simp only[Array.toList_map,List.map_map];refine List.map_congr_left λv hv=>?_
  clear hv
  cases v with
  |agg cs=>
   show Value.agg _=Value.agg _
   congr 1
   apply Array.ext';simp only[Array.toList_map,List.map_map];exact List.map_congr_left λv _=>rn0_r ρ α v
  |tuple _=>rfl
  |iface i u=>cases u<;>first|rfl|(rename_i p;cases p<;>rfl)
  |_=>rfl
 |_=>exact rn1_r ρ α _ rfl
theorem up0_r(f:Nat->Nat)(α:Nat->Option Addr)(v:Value):r0 (λi=>α (f i)) v=r0 α (up0 f v):=by
 cases v with
 |iface i u=>cases u<;>first|rfl|(rename_i p;cases p<;>rfl)
 |_=>rfl
theorem up1_r(f:Nat->Nat)(α:Nat->Option Addr)(v:Value):r1 (λi=>α (f i)) v=r1 α (up1 f v):=by
 cases v with
 |agg cs=>
  show Value.agg _=Value.agg _
  congr 1
  apply Array.ext';simp only[Array.toList_map,List.map_map];exact List.map_congr_left λv _=>up0_r f α v
 |iface i u=>cases u<;>first|rfl|(rename_i p;cases p<;>rfl)
 |_=>rfl
theorem up2_r(f:Nat->Nat)(α:Nat->Option Addr)(v:Value):r2 (λi=>α (f i)) v=r2 α (up2 f v):=by
 cases v with
 |tuple cs=>
  show Value.tuple _=Value.tuple _
  congr 1
  apply Array.ext';simp only[Array.toList_map,List.map_map];exact List.map_congr_left λv _=>up1_r f α v
 |agg cs=>exact up1_r f α (.agg cs)
 |iface i u=>cases u<;>first|rfl|(rename_i p;cases p<;>rfl)
 |_=>rfl
theorem up0_ids(f:Nat->Nat)(v:Value):Cj (up0 f v)=(Cj v).map f:=by
 cases v with
 |iface i u=>cases u<;>first|rfl|(rename_i p;cases p<;>rfl)
 |_=>rfl
theorem Lx{f:Value->List Nat}{g:Value->Value}{d:Nat->Nat}(h:∀v,f (g v)=(f v).map d)(cs:List Value):(cs.map g).flatMap f=(cs.flatMap f).map d:=by
 induction cs with
 |nil=>rfl
 |cons x r ih=>rw[List.map_cons,List.flatMap_cons,List.flatMap_cons,List.map_append,h,ih]
theorem NM(f:Nat->Nat)(v:Value):Lv (up1 f v)=(Lv v).map f:=by
 cases v with
 |agg cs=>show((cs.toList.map (up0 f)).toArray).toList.flatMap Cj=_;rw[List.toList_toArray];exact Lx (up0_ids f) _
 |iface i u=>cases u<;>first|rfl|(rename_i p;cases p<;>rfl)
 |_=>rfl
theorem up2_ids(f:Nat->Nat)(v:Value):BN (up2 f v)=(BN v).map f:=by
 cases v with
 |tuple cs=>show((cs.toList.map (up1 f)).toArray).toList.flatMap Lv=_;rw[List.toList_toArray];exact Lx (NM f) _
 |agg cs=>exact NM f (.agg cs)
 |iface i u=>cases u<;>first|rfl|(rename_i p;cases p<;>rfl)
 |_=>rfl
theorem Fh(d:Nat):∀(es:AV) (i:Nat) (b:VB),(i,b)∈upE d es->∃x,i=d+x/\(x,b)∈es
 |[],_,_,h=>by cases h
 |(x,c)::r,i,b,h=>by
  rcases List.mem_cons.1 h with e|h
  ·cases e;exact⟨x,rfl,List.mem_cons_self⟩
  ·obtain⟨y,h1,h2⟩:=Fh d r i b h;exact⟨y,h1,List.mem_cons_of_mem _ h2⟩
theorem upE_lk(d:Nat):∀(es:AV) (x:Nat) (b:VB),lk es x=some b->lk (upE d es) (d+x)=some b
 |[],_,_,h=>by cases h
 |(y,c)::r,x,b,h=>by
  by_cases e:y=x
  ·subst e;rw[Ag]at h;cases h;exact Ag _ _ _
  ·rw[Aw e]at h;exact(Aw (by omega) _ _).trans (upE_lk d r x b h)
theorem JP:∀(es:AV),newB es=true->∀i b,(i,b)∈es->i<8/\b.kd=3/\b.cs=[]
 |[],_,_,_,h=>by cases h
 |(x,c)::r,hn,i,b,h=>by
  unfold newB at hn;simp only[Bool.and_eq_true]at hn;rcases List.mem_cons.1 h with e|h
  ·cases e;exact⟨AD hn.1.1.1,Nat.eq_of_beq_eq_true hn.1.1.2,List.isEmpty_iff.1 hn.1.2⟩
  ·exact JP r hn.2 i b h
theorem Gq{ρ:List (Nat × Nat)}{m:AV}:∀(m':AV),OZ ρ m m'->∀i b,(i,b)∈m'->∃b0,lk m (rnI ρ i)=some b0/\LeB ρ b0 b
 |[],_,_,_,h=>by cases h
 |(j,u)::r,he,i,b,h=>by
  rcases List.mem_cons.1 h with e|h
  ·cases e;exact he.1
  ·exact Gq r he.2 i b h
theorem KH:∀(es:AV),freeE es->∀i b,(i,b)∈es->∀W el,b.E W el
 |[],_,_,_,h=>by cases h
 |(j,u)::r,he,i,b,h=>by
  rcases List.mem_cons.1 h with e|h
  ·cases e;exact he.1
  ·exact KH r he.2 i b h
theorem Kj:∀(m:AV) (i:Nat) (b:VB),(i,b)∈m->DE b->i∈Lf m
 |[],_,_,h,_=>by cases h
 |(j,u)::r,i,b,h,hk=>by
  unfold Lf;rcases List.mem_cons.1 h with e|h
  ·cases e;rcases hk with hk|hk<;>(rw[hk];exact List.mem_cons_self)
  ·have:=Kj r i b h hk
   cases hb:(Nat.beq u.kd 0||Nat.beq u.kd 3) with
   |true=>exact List.mem_cons_of_mem _ this
   |false=>exact this
section
variable {P:Program} {RD:(Nat->Prop)->World->Nat->Nat->Prop} {tt:List TE} {Γ:List (Nat × Nat × Ct)} {w0 w:World} {G:Gh} {q:Nat}
theorem Dk{b:VB}(h:(Nat.beq b.kd 1||Nat.beq b.kd 3)=true):FL (some b)=⟨1,b.ty,b.sz,b.n,0,[],b.Q,b.E⟩:=by
 show(bif (Nat.beq b.kd 1||Nat.beq b.kd 3) then _ else _)=_;rw[h];rfl
theorem LG{b:VB}(h:(Nat.beq b.kd 1||Nat.beq b.kd 3)=false):FL (some b)=bif Nat.beq b.kd 4 then rdB else JV:=by
 show(bif (Nat.beq b.kd 1||Nat.beq b.kd 3) then _ else _)=_;rw[h];rfl
theorem KP{i:Nat}:Hold RD w0 G w q i JV:=⟨λh=>(nomatch h),λh=>(nomatch h),λh=>(nomatch h),λh=>(nomatch h),λh=>(nomatch h),.inr (.inr (.inr (.inr (.inr rfl))))⟩
theorem row_hold{i j:Nat}{b:VB}{G0:Gh}{w1:World}{q1:Nat}(hb:(Nat.beq b.kd 1||Nat.beq b.kd 3)=true)(h:Hold RD w0 G w q i b)(hz:∀k,G.Z k->k<w.heap.size)(hα:G0.α j=G.α i)(hZ:∀k,k<w.heap.size->¬G.RB k->G0.Z k)(hzr:∀k,G.Z k->¬G.RB k):Hold RD w1 G0 w q1 j (FL (some b)):=by
  rw[Dk hb];refine⟨λh=>(nomatch h),λ_ y hy=>?_,λh=>(nomatch h),λh=>(nomatch h),λh=>(nomatch h),.inr (.inl rfl)⟩;have hW:∀W:World,(∀k,G0.Z k->W.heap[k]?=w.heap[k]?)->∀k,G.Z k->W.heap[k]?=w.heap[k]?:=λW h k hk=>h k (hZ k (hz k hk) (hzr k hk))
  rcases Bool.or_eq_true_iff.1 hb with h1|h1
  ·obtain⟨g,o,el,e1,e2,e3,e4⟩:=h.k1 (Nat.eq_of_beq_eq_true h1) y hy
   exact⟨g,o,el,hα.trans e1,hZ g (hz g e2) (hzr g e2),e3,e4.1,λW h=>e4.2 W (hW W h)⟩
  ·obtain⟨g,els,e1,e2,e3,e4,r1,r2',r3,r4⟩:=h.k3 (Nat.eq_of_beq_eq_true h1)
   have hy':y<b.n:=hy;obtain⟨el,hel⟩:∃el,els[y]?=some el:=⟨els[y]'(by omega),by simp⟩;have hl:=r2' el (AE hel);refine⟨g,0,el,hα.trans e1,hZ g r3.lt e4,(r4 y el hel).1,λx v hv=>⟨?_,(hl.2 v (AE hv)).2⟩,λW h=>(r4 y el hel).2 W (hW W h)⟩;rw[Nat.zero_add];refine r3.cell ?_;rw[Ks (λe he=>(r2' e he).1) y el hel x (by have:=(AC hv).1;rw[hl.1]at this;exact this)];exact hv
end
theorem M3{RD:(Nat->Prop)->World->Nat->Nat->Prop}{w0 w w':World}{G:Gh}{q id cost:Nat}{X:Nat->Prop}{es es':AV}{v:Value}{β:Nat->Option Addr}{f:Nat->Nat}{C:(Value->AV->Prop)->Prop}(hX:∀k,X k->G.RB k)(hrd:∀g,G.RB g->RD G.Z w g q->RD G.Z w' g (q+cost))(hz:∀k,G.Z k->k<w.heap.size/\¬G.RB k)(hrl:∀k,G.RB k->k<w.heap.size)(hw0:w0.heap.size<=w.heap.size)(hst:Stp X w w')(hnb:newB es'=true)
  (hk3:∀x b,(x,b)∈es'->∃g els,β x=some ⟨g,0,none⟩/\w.heap.size<=g/\RowK G.Z w' g b els) (hdis:∀x b y c,(x,b)∈es'->(y,c)∈es'->x≠y->β x≠β y) (hv:∀x∈BN v,(∃b,lk es' x=some b/\f x=id+x)\/((f x<id\/id+8<=f x)/\β x=G.α (f x)/\∃b,lk es (f x)=some b)) (hC:∀k,C k->k (up2 f v) (upE id es')):
  ∃v1 es1 G',(∀k,C k->k v1 es1)/\Ending.returned (r2 β v)=.returned (r2 G'.α v1)/\GS RD G w q G' w' (q+cost) id/\NewOk RD w0 G' w w' (q+cost) es1/\Clo (es1++es) (BN v1)/\OkE id (id+8) (es1++es) es1:=by
 have hnew:=JP es' hnb;obtain⟨G2,hG2⟩:∃G2:Gh,G2=⟨λi=>if id<=i/\i<id+8 then β (i - id) else G.α i,G.Z,G.RB⟩:=⟨_,rfl⟩;have h2α:∀x,x<8->G2.α (id+x)=β x:=λx hx=>by rw[hG2];show(if _ then _ else _)=_;rw[if_pos (by omega),Nat.add_sub_cancel_left]
 refine⟨up2 f v,upE id es',G2,hC,?_,⟨⟨hst.os,hst.tape,hst.output,hst.size,λk hk hn=>hst.block k hk λh=>hn (hX k h)⟩,λi hi=>(by rw[hG2];exact if_neg (by omega)),λk hk=>(by rw[hG2];exact hk),λk hk=>(by rw[hG2]at hk;exact .inl hk),λk hk=>?_,λk hk=>(by rw[hG2];exact hk),λk hk=>(by rw[hG2]at hk;exact .inl hk),λk hk=>?_,λg hg hd=>?_⟩,⟨λi b hi=>?_,λi b hi ho=>?_,λi b j c hi hj hb hc hne=>?_⟩,λi hi=>?_,λi b hi=>?_⟩
 ·rw[<-up2_r]
  congr 1
  refine GX v λx hx=>?_
  rcases hv x hx with⟨b,hb,e⟩|⟨h1,h2,_⟩
  ·rw[e];exact(h2α x (hnew x b (A9 _ _ _ hb)).1).symm
  ·rw[h2,hG2];exact(if_neg (show ¬(id<=f x/\f x<id+8) from λh=>by omega)).symm
 ·rw[hG2]at hk ⊢
  exact⟨AF (hz k hk).1 hst.size,(hz k hk).2⟩
 ·rw[hG2]at hk
  exact AF (hrl k hk) hst.size
 ·rw[hG2]
  exact hrd g hg hd
 ·obtain⟨x,rfl,hx⟩:=Fh id es' i b hi
  obtain⟨h8,hk,_⟩:=hnew x b hx;obtain⟨g,els,e1,e2,e3⟩:=hk3 x b hx;exact⟨λh=>absurd (h.symm.trans hk) (by decide),λh=>absurd (h.symm.trans hk) (by decide),λh=>absurd (h.symm.trans hk) (by decide),λ_=>⟨g,els,(h2α x h8).trans e1,AH hw0 e2,λh=>(by rw[hG2]at h;have:=(hz g h).1;omega),λh=>(by rw[hG2]at h;have:=hrl g h;omega),by rw[hG2];exact e3⟩,λh=>absurd (h.symm.trans hk) (by decide),.inr (.inr (.inr (.inl hk)))⟩
 ·obtain⟨x,rfl,hx⟩:=Fh id es' i b hi
  obtain⟨g,els,e1,e2,e3⟩:=hk3 x b hx;exact⟨g,(h2α x (hnew x b hx).1).trans e1,e2⟩
 ·obtain⟨x,rfl,hx⟩:=Fh id es' i b hi
  obtain⟨y,rfl,hy⟩:=Fh id es' j c hj;rw[h2α x (hnew x b hx).1,h2α y (hnew y c hy).1];exact hdis x b y c hx hy (by omega)
 ·rw[up2_ids]at hi
  obtain⟨x,hx,rfl⟩:=List.mem_map.1 hi;rcases hv x hx with⟨b,hb,e⟩|⟨_,_,b,hb⟩
  ·exact⟨b,by rw[e,Bc,upE_lk id es' x b hb];rfl⟩
  ·rw[Bc]
   cases lk (upE id es') (f x) with
   |none=>exact⟨b,hb⟩
   |some b'=>exact⟨b',rfl⟩
 ·obtain⟨x,rfl,hx⟩:=Fh id es' i b hi
  obtain⟨h8,_,hcs⟩:=hnew x b hx;exact⟨by omega,by omega,by rw[hcs];exact λ_ h=>(nomatch h)⟩
theorem NB{RD:(Nat->Prop)->World->Nat->Nat->Prop}(hR:Cc RD){w0 w:World}{G:Gh}{q q' nt:Nat}{r:Bool}{X:Nat->Prop}{vs A:List Value}{es M:AV}(hX:∀k,X k->G.RB k)(hr:r=true->X=G.RB/\q'=q)(hz:∀k,G.Z k->k<w.heap.size/\¬G.RB k)(hes:∀i b,(i,b)∈es->Hold RD w0 G w q i b)(hcan:can vs es=(A,M))(ho:okA A M nt r=true):
  ∃G0:Gh,A.map (r2 G0.α)=vs.map (r2 G.α)/\(∀k,G0.Z k->k<w.heap.size/\¬G0.RB k)/\G0.RB=X/\(∀j i,(vs.flatMap BN)[j]?=some i->G0.α j=G.α i)/\∀j b,lk M j=some b->j<64/\Hold RD w G0 w q' j b/\¬DE b/\Clo M (b.cs.flatMap Cj):=by
 unfold can at hcan;simp only[Prod.mk.injEq]at hcan;obtain⟨hA',hM'⟩:=hcan;unfold okA at ho;simp only[Bool.and_eq_true]at ho;obtain⟨⟨⟨o1,o2⟩,o3⟩,o4⟩:=ho;obtain⟨I,hIe⟩:∃I,vs.flatMap BN=I:=⟨_,rfl⟩;rw[hIe]at hA' hM';obtain⟨G0,hG0⟩:∃G0:Gh,G0=⟨λj=>match I[j]? with|some i=>G.α i|none=>none,λk=>k<w.heap.size/\¬X k,X⟩:=⟨_,rfl⟩
 have hα:∀i∈I,G0.α (rnI (Mf I 0) i)=G.α i:=λi hi=>by
  obtain⟨j,h1,h2⟩:=Ng I 0 i hi;unfold rnI;rw[h1,hG0,Nat.zero_add];simp only[h2]
 refine⟨G0,?_,λk hk=>by rw[hG0]at hk ⊢;exact hk,by rw[hG0],λj i hj=>by rw[hG0,hIe]at *;simp only[hj],λj b hb=>?_⟩
 ·rw[<-hA',List.map_map]
  refine List.map_congr_left λv hv=>?_
  have hnt:Ft v=true:=by
   have:=List.all_eq_true.1 o2 (rn1 (Mf I 0) v) (hA'▸List.mem_map_of_mem hv);cases v<;>first|rfl|cases this
  show r2 G0.α (rn1 (Mf I 0) v)=_;rw[<-rn1_r _ _ v hnt];exact GX (β:=λi=>G0.α (rnI (Mf I 0) i)) (α:=G.α) v λi hi=>hα i (hIe▸List.mem_flatMap.2 ⟨v,hv,hi⟩)
 ·obtain⟨y,i,h1,h2,h3⟩:=LT es I 0 j b (hM'▸hb)
  rw[Nat.zero_add]at h1;subst h1;have h64:=List.all_eq_true.1 o3 _ (A9 _ _ _ hb);simp only[Bool.and_eq_true,Bool.or_eq_true,Bool.not_eq_true']at h64
  have key:b.cs=[]/\¬DE b/\Hold RD w G0 w q' j b:=by
   rw[h3]
   cases hl:lk es i with
   |none=>exact⟨rfl,(λh=>by rcases h with h|h<;>cases h),KP⟩
   |some b'=>
    have hb':=hes i b' (A9 _ _ _ hl)
    cases hk:(Nat.beq b'.kd 1||Nat.beq b'.kd 3) with
    |true=>exact⟨by rw[Dk hk],(by rw[Dk hk];exact λh=>by rcases h with h|h<;>cases h),row_hold hk hb' (λk hk=>(hz k hk).1) (by rw[hG0];simp only[h2]) (λk hk hn=>by rw[hG0];exact⟨hk,λh=>hn (hX k h)⟩) (λk hk=>(hz k hk).2)⟩
    |false=>
     rw[LG hk]
     cases h4:Nat.beq b'.kd 4 with
     |false=>exact⟨rfl,(λh=>by rcases h with h|h<;>cases h),KP⟩
     |true=>
      have hrt:r=true:=h64.2.elim id λh=>by
       rw[h3,hl,LG hk,h4]at h;cases h
      obtain⟨hXr,hqq⟩:=hr hrt;obtain⟨g,e1,e2,e3⟩:=hb'.k4 (Nat.eq_of_beq_eq_true h4);refine⟨rfl,(λh=>by rcases h with h|h<;>cases h),⟨λh=>(nomatch h),λh=>(nomatch h),λh=>(nomatch h),λh=>(nomatch h),λ_=>⟨g,by rw[hG0];simp only[h2];exact e1,by rw[hG0,hXr];exact e2,hR _ _ _ _ _ _ _ e3 (λk hk=>by rw[hG0,hXr];exact hz k hk) rfl (λ_ _=>rfl) (by omega)⟩,.inr (.inr (.inr (.inr (.inl rfl))))⟩⟩
  exact⟨AD h64.1,key.2.2,key.2.1,by rw[key.1];exact λ_ h=>(nomatch h)⟩
def RDpin(RD:(Nat->Prop)->World->Nat->Nat->Prop):Prop:=∀(Z Z':Nat->Prop) (w w':World) (g g' q q':Nat),RD Z w g q->RD Z' w' g' q'->RD Z w' g q'
def postRJ(J:Nat)(r:Bool)(Out:Value->AV->Prop)(Q:Nat)(v:Value)(m:AV)(q:Nat):Prop:=match r with
 |true=>Ld J Out v m q/\q<=Q/\∃i,lk m i=some rdB
 |false=>Ld J Out v m q
def endRJ(J:Nat)(r:Bool)(tt:List TE)(rs:List ResultVar)(Out:Value->AV->Prop)(Q:Nat):Exit->St->Prop:=λe s=>
 (e=.ret\/e=.normal)/\∃v0,LW tt rs s.t s.m=some v0/\postRJ J r Out Q v0 s.m s.q/\clo s.m (BN v0)=true
abbrev endR:=endRJ 0
theorem M5{P:Program}{RD:(Nat->Prop)->World->Nat->Nat->Prop}{tt:List TE}{Γ:List (Nat × Nat × Ct)}{Ρ:Sp}(E:Env P RD tt Γ)(J:Nat)(hJ8:J<=8)(r:Bool)(cost:Nat)(h0:r=true->cost≠0)(hP:r=true->RDpin RD){f:Nat}{fn:Func}{c:Code}(hf:P.funcs[f]?=some fn)(hb:fn.body=some c)(hD:CL P RD tt Γ Ρ fn.ntmps c)
  {α:Type} {A:α->List Value} {M:α->AV} {Pre:α->Prop} {Out:α->Value->AV->Prop} (hA:∀p,okA (A p) (M p) fn.ntmps r=true) (hJ:∀p,argM J (M p)=true) (hI:∀p p',A p=A p'->M p=M p'->p=p')
  (hv:∀p q,Pre p->(r=true->q+cost<=QM)->(r=false->q=0)->vw tt Γ Ρ c (endRJ J r tt fn.results.toList (Out p) (q+cost)) ⟨FD 0 (A p),M p,64,q⟩):CN P RD f cost (ctW J A M Pre Out):=by
 intro w0 G w q id vs es k0 hz hrl hw0 hes hid hQ hC;obtain⟨p,hcan,hpre,_⟩:=hC;obtain⟨G0,hargs,hZ0,hR0,hα0,hM⟩:=NB (q':=bif r then q else 0) E.rd (X:=λk=>r=true/\G.RB k) (λk h=>h.2) (λh=>⟨by funext k;simp[h],by rw[h];rfl⟩) hz hes hcan (hA p);have ho:=hA p;unfold okA at ho;simp only[Bool.and_eq_true]at ho;have hcall:=vcalls (R0:=⟨λk=>r=true/\G.RB k,G0.α,0⟩) (G:=G0) (w:=w) (q0:=bif r then q else 0) E hf hb hD (AD ho.1.1.1) (Post:=λv m q'=>postRJ J r (Out p) ((bif r then q else 0)+cost) v m q') (hv p _ hpre (λh=>by rw[h];exact hQ.resolve_left (h0 h)) (λh=>by rw[h];rfl)) hM (DQ ho.2) (AG _) hZ0 (λk hk=>by rw[hR0]at hk;exact hk) (λk hk=>by rw[hR0]at hk;exact hrl k hk.2);rw[hargs]at hcall;refine hcall.mono ?_;rintro e w' ⟨v0,m,q',G',hpost,rfl,hH,_,hst,hz',hdis,hal,_⟩
 have hrd:r=true->q'<=q+cost/\∃i,lk m i=some rdB:=λh=>by
  subst h;exact hpost.2
 have hpost:Ld J (Out p) v0 m q':=by
  cases r with
  |true=>exact hpost.1
  |false=>exact hpost
 obtain⟨v,es',ρ,hOut,rfl,hEM,hinj,hout,hfree⟩:=hpost;unfold outB at hout;simp only[Bool.and_eq_true]at hout hinj;have hnew:∀i b,(i,b)∈es'->i<8/\b.kd=3/\b.cs=[]:=JP es' hout.1;rw[<-rn2_r];refine M3 (X:=λk=>r=true/\G.RB k) (λk h=>h.2) (λg hg hd=>?_) hz hrl hw0 hst hout.1 (λx b hx=>?_) (λx b y c hx hy hne=>?_) (f:=upF J id (vs.flatMap BN)) (λx hx=>?_) λk hk=>?_
 ·cases r with
  |true=>
   obtain⟨hq,i,hi⟩:=hrd rfl;obtain⟨g',_,_,e3⟩:=(hH i rdB hi).k4 rfl;exact E.rd _ _ _ _ _ _ _ (hP rfl _ _ _ _ _ _ _ _ hd e3) (λ_ h=>h) rfl (λ_ _=>rfl) hq
  |false=>
   have hb:∀k,k<w.heap.size->w'.heap[k]?=w.heap[k]?:=λk hk=>hst.block k hk λh=>(nomatch h.1)
   exact E.rd _ _ _ _ _ _ _ hd (λ_ h=>h) (hb g (hrl g hg)) (λk hk=>hb k (hz k hk).1) (Nat.le_add_right _ _)
 ·obtain⟨b0,hb0,hle⟩:=Gq es' hEM x b hx
  obtain⟨_,hk,_⟩:=hnew x b hx;obtain⟨g,els,e1,e2,_,_,r1,r2',r3,r4⟩:=(hH _ b0 hb0).k3 (hle.kd.trans hk);obtain⟨n1,n2⟩:=hle.n3 hk;refine⟨g,els,e1,e2,r1.trans n1,λel hel=>(by rw[<-hle.sz];exact r2' el hel),(by rw[<-hle.ty,<-hle.sz,<-n1,<-n2];exact r3),λj el hj=>⟨λk hk=>(r4 j el hj).1 k (hle.Q j ?_ k hk),λW _=>KH es' hfree x b hx W el⟩⟩;have:=(AC hj).1;omega
 ·obtain⟨b0,hb0,hle⟩:=Gq es' hEM x b hx
  obtain⟨c0,hc0,hle'⟩:=Gq es' hEM y c hy;have hb:=(hnew x b hx).2.1;have hc:=(hnew y c hy).2.1;exact hdis _ b0 _ c0 hb0 hc0 (.inr (hle.kd.trans hb)) (.inr (hle'.kd.trans hc)) (Kp _ hinj.1 x y (Kj _ _ _ hx (.inr hb)) (Kj _ _ _ hy (.inr hc)) hne)
 ·have ho:=List.all_eq_true.1 hout.2 x hx
  cases hl:lk es' x with
  |some b=>
   refine .inl ⟨b,rfl,?_⟩;have h8:=(hnew x b (A9 _ _ _ hl)).1
   cases J with
   |zero=>rfl
   |succ J=>show(bif Nat.ble 8 x then _ else _)=_;rw[show Nat.ble 8 x=false from by cases h:Nat.ble 8 x with|false=>rfl|true=>have:=AD h;omega];rfl
  |none=>
   rw[hl]at ho;simp only[Option.isSome_none,Bool.false_or,Bool.and_eq_true]at ho;have h8:=AD ho.1;have h7:=AD ho.2;obtain⟨i,b,h1,h2⟩:=Ju es (vs.flatMap BN) 0 J (by have h:=hJ p;have hc:=hcan;unfold can at hc;simp only[Prod.mk.injEq]at hc;rw[<-hc.2]at h;exact h) (x - 8) (by omega)
   have hf:upF J id (vs.flatMap BN) x=i:=by
    cases J with
    |zero=>omega
    |succ J=>show(bif Nat.ble 8 x then _ else _)=_;rw[ho.1,cond_true,List.getD_eq_getElem?_getD,h1];rfl
   rw[hf];refine .inr ⟨hid i b (A9 _ _ _ h2),?_,b,h2⟩;show G'.α (rnI ρ x)=_;have h3:=N7 J hinj.2 (x - 8) (by omega);rw[show 8+(x - 8)=x by omega]at h3;rw[h3,hal _ (by omega)];exact hα0 _ _ h1
 ·obtain⟨p',hcan2,_,hk⟩:=hk
  rw[hcan]at hcan2;simp only[Prod.mk.injEq]at hcan2;have:=hI p p' hcan2.1 hcan2.2;subst this;exact hk v es' hOut
theorem ct_vc{P:Program}{RD:(Nat->Prop)->World->Nat->Nat->Prop}{tt:List TE}{Γ:List (Nat × Nat × Ct)}{Ρ:Sp}(E:Env P RD tt Γ){f:Nat}{fn:Func}{c:Code}(hf:P.funcs[f]?=some fn)(hb:fn.body=some c)(hD:CL P RD tt Γ Ρ fn.ntmps c)
  {α:Type} {A:α->List Value} {M:α->AV} {Pre:α->Prop} {Out:α->Value->AV->Prop} (hA:∀p,okA (A p) (M p) fn.ntmps=true) (hI:∀p p',A p=A p'->M p=M p'->p=p')
  (hv:∀p,Pre p->vw tt Γ Ρ c (endV tt fn.results.toList (Out p)) ⟨FD 0 (A p),M p,64,0⟩):CN P RD f 0 (ctV A M Pre Out):=
 M5 E 0 (AI _) false 0 (λh=>nomatch h) (λh=>nomatch h) hf hb hD hA (λ_=>rfl) hI λp q hp _ hq=>by
  rw[hq rfl];exact hv p hp
abbrev VOK:=Nat->Tm->AV->(Tm->AV->Prop)->Prop
def vOs(tt:List TE)(Γ:List (Nat × Nat × Ct))(ops:List Oper)(c:Nat)(o:Oper)(ih:VOK):VOK:=λj t m k=>
  match DF ops t o with
  |some false=>ih (j+1) (D5 o.dst (.tuple #[]) t) m k
  |some true=>match evs t (Bj o.op) with
   |some vs=>match stv tt o.op vs m with
    |some m'=>My m'.2 λm'=>ih (j+1) (D5 o.dst (.tuple #[]) t) m' k
    |none=>match rwg tt (c+8*j) o.op vs m with
     |some T=>T λv m'=>My m' λm'=>ih (j+1) (D5 o.dst v t) m' k
     |none=>opg tt Γ (c+8*j) o.op vs (EZ m (vs.flatMap BN)) λv es=>ih (j+1) (D5 o.dst v t) (es++m) k
   |none=>False
  |none=>False
def vOr(tt:List TE)(Γ:List (Nat × Nat × Ct))(ops:List Oper)(c:Nat)(l:List Oper):VOK:=
 List.rec (motive:=λ_=>VOK) (λ_ t m k=>k t m) (λo _ ih=>vOs tt Γ ops c o ih) l
theorem KU(tt:List TE)(Γ:List (Nat × Nat × Ct))(ops:List Oper)(c:Nat):∀l:List Oper,vOr tt Γ ops c l=vO tt Γ ops c l
 |[]=>rfl
 |o::r=>(show vOs tt Γ ops c o (vOr tt Γ ops c r)=vOs tt Γ ops c o (vO tt Γ ops c r) from congrArg _ (KU tt Γ ops c r)).trans (by
   funext j t m k
   rw[vO]
   rfl)
def vRr(tt:List TE)(Γ:List (Nat × Nat × Ct))(ops:List Oper)(s:St)(k:St->Prop):Prop:=
 let X:=vOr tt Γ ops s.c ops 0 s.t s.m λt m=>k ⟨t,m,s.c+8*ops.length,s.q+BG Γ ops⟩
 bif Nat.beq (BG Γ ops) 0 then X else s.q+BG Γ ops<=QM/\X
theorem vRr_eq(tt:List TE)(Γ:List (Nat × Nat × Ct))(ops:List Oper)(s:St)(k:St->Prop):vRr tt Γ ops s k=vR tt Γ ops s k:=by
 unfold vRr vR;rw[KU]
abbrev VWK:=(Exit->St->Prop)->St->Prop
def vwr(tt:List TE)(Γ:List (Nat × Nat × Ct))(Ρ:Sp)(c:Code):VWK:=
 Code.rec (motive:=λ_=>VWK) (λQ s=>Q .normal s)
  (λi ops _ Q s=>match lk Ρ i with
   |some C=>C s (Q .normal)
   |none=>vRr tt Γ ops.toList s (Q .normal))
  (λ_ _ a b Q s=>a (λe s=>match e with| .normal=>b Q s|e=>Q e s) s)
  (λc _ _ x y Q s=>match evo s.t c with
   |some (.bool true)=>x Q s
   |some (.bool false)=>y Q s
   |_=>False)
  (λi _ c Q s=>c (λe s=>match e with| .exit j=>bif Nat.beq i j then Q .normal s else Q (.exit j) s|e=>Q e s) s)
  (λ_ c Q s=>∃(I:Nat->St->Prop) (n:Nat),(∃s',Ent s s'/\I n s')/\∀n s,I n s->c (λe s=>match e with| .normal=>∃n',n'<n/\∃s',Ent s s'/\I n' s'|e=>Q e s) s)
  (λ_ _ _ _ _ _ _ _=>False) (λi Q s=>Q (.exit i) s) (λ_ _ _ _=>False) (λ_ _ _=>False) (λ_ _ _=>False) (λQ s=>Q .ret s) (λ_ _ _=>False) c
theorem Gz(tt:List TE)(Γ:List (Nat × Nat × Ct))(Ρ:Sp)(c:Code):∀Q s,vwr tt Γ Ρ c Q s=vw tt Γ Ρ c Q s:=by
 induction c with
 |region i ops d=>intro Q s;rw[vw];show(match lk Ρ i with|some C=>C s (Q .normal)|none=>vRr tt Γ ops.toList s (Q .normal))=_;simp only[vRr_eq];rfl
 |seq a b ia ib=>
  intro Q s;rw[vw,<-ia];show vwr tt Γ Ρ a _ s=_
  congr 1
  funext e s'
  cases e<;>first|exact ib Q s'|rfl
 |cond c a b ia ib=>
  intro Q s;rw[vw,<-ia,<-ib];rfl
 |block i a ia=>intro Q s;rw[vw,<-ia];rfl
 |loop a ia=>
  intro Q s;rw[vw];simp only[<-ia];rfl
 |_=>intros;rfl
section
variable {RD:(Nat->Prop)->World->Nat->Nat->Prop}
theorem Cu{Γ:List (Nat × Nat × Ct)}(E:Env Tryz.prog RD TT Γ){f:Nat}{fn:Func}(hf:Tryz.prog.funcs[f]?=some fn)(hb:fn.body.isSome=true)(hc:EG [] fn.ntmps (fn.body.getD .skip)=true){α:Type}{A:α->List Value}{M:α->AV}{Pre:α->Prop}{Out:α->Value->AV->Prop}
  (hA:∀p,okA (A p) (M p) fn.ntmps=true) (hI:∀p p',A p=A p'->M p=M p'->p=p') (hv:∀p,Pre p->vwr TT Γ [] (fn.body.getD .skip) (endV TT fn.results.toList (Out p)) ⟨FD 0 (A p),M p,64,0⟩):CN Tryz.prog RD f 0 (ctV A M Pre Out):=
 ct_vc E hf (show fn.body=some (fn.body.getD .skip) from by cases h:fn.body with|none=>rw[h]at hb;cases hb|some _=>rfl) (CR E (by kernel_rfl) _ (.nil _) hc) hA hI λp hp=>by
  rw[<-Gz];exact hv p hp
theorem M4(J:Nat)(hJ8:J<=8){Γ:List (Nat × Nat × Ct)}{Ρ:Sp}(E:Env Tryz.prog RD TT Γ){f:Nat}{fn:Func}(hf:Tryz.prog.funcs[f]?=some fn)(hb:fn.body.isSome=true)(hS:SpAll Tryz.prog RD Ρ fn.ntmps (fn.body.getD .skip))(hc:EG Ρ fn.ntmps (fn.body.getD .skip)=true){α:Type}{A:α->List Value}{M:α->AV}{Pre:α->Prop}{Out:α->Value->AV->Prop}
  (hA:∀p,okA (A p) (M p) fn.ntmps=true) (hJ:∀p,argM J (M p)=true) (hI:∀p p',A p=A p'->M p=M p'->p=p') (hv:∀p,Pre p->vwr TT Γ Ρ (fn.body.getD .skip) (endJ J TT fn.results.toList (Out p)) ⟨FD 0 (A p),M p,64,0⟩):CN Tryz.prog RD f 0 (ctW J A M Pre Out):=
 M5 E J hJ8 false 0 (λh=>nomatch h) (λh=>nomatch h) hf (show fn.body=some (fn.body.getD .skip) from by cases h:fn.body with|none=>rw[h]at hb;cases hb|some _=>rfl) (CR E (by kernel_rfl) _ hS hc) hA hJ hI λp q hp _ hq=>by
  rw[hq rfl,<-Gz];exact hv p hp
theorem JX{Γ:List (Nat × Nat × Ct)}{Ρ:Sp}(E:Env Tryz.prog RD TT Γ)(hP:RDpin RD)(cost:Nat)(h0:cost≠0){f:Nat}{fn:Func}(hf:Tryz.prog.funcs[f]?=some fn)(hb:fn.body.isSome=true)(hS:SpAll Tryz.prog RD Ρ fn.ntmps (fn.body.getD .skip))(hc:EG Ρ fn.ntmps (fn.body.getD .skip)=true){α:Type}{A:α->List Value}{M:α->AV}{Pre:α->Prop}{Out:α->Value->AV->Prop}
  (hA:∀p,okA (A p) (M p) fn.ntmps true=true) (hI:∀p p',A p=A p'->M p=M p'->p=p') (hv:∀p q,Pre p->q+cost<=QM->vwr TT Γ Ρ (fn.body.getD .skip) (endR true TT fn.results.toList (Out p) (q+cost)) ⟨FD 0 (A p),M p,64,q⟩):CN Tryz.prog RD f cost (ctV A M Pre Out):=
 M5 E 0 (AI _) true cost (λ_=>h0) (λ_=>hP) hf (show fn.body=some (fn.body.getD .skip) from by cases h:fn.body with|none=>rw[h]at hb;cases hb|some _=>rfl) (CR E (by kernel_rfl) _ hS hc) hA (λ_=>rfl) hI λp q hp hq _=>by
  rw[<-Gz];exact hv p q hp (hq rfl)
end
end
end Go.Proofs.YtbceafpodamnfaaGreat
