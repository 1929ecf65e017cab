import Derived.Test.YtbceafpodamnfaaGreatH18
import Derived.Test.YtbceafpodamnfaaGreatH26
import Derived.Test.YtbceafpodamnfaaGreatH30
import Derived.Test.YtbceafpodamnfaaGreatH46
set_option linter.all false
set_option maxHeartbeats 16000000
set_option maxRecDepth 100000
namespace Go.Proofs.YtbceafpodamnfaaGreat
section
open Go Go.RowKit
def sv0:Svc:=⟨⟨#[]⟩,0,false,0,0,0,0,0,0,0,0,0,0⟩
def ev0:Ev:=⟨0,sv0,⟨#[]⟩,0,false⟩
structure Mv where
 st:Int
 age:Int
 ev:Ev
def Mv.cells(m:Mv):Array Value:=#[.int .i64 m.st,.int .i64 m.age,.int .i64 m.ev.kind,.string m.ev.service.name,.int .i64 m.ev.service.version,.bool m.ev.service.gone,.int .i64 m.ev.service.image,.int .i64 m.ev.service.want,.int .i64 m.ev.service.down,.int .i64 m.ev.service.over,.int .i64 m.ev.service.next,.int .i64 m.ev.service.per,.int .i64 m.ev.service.least,.int .i64 m.ev.service.most,.int .i64 m.ev.service.load,.int .i64 m.ev.service.cool,.string m.ev.name,.int .i64 m.ev.number,.bool m.ev.flag]
def Mv.ok(m:Mv):Prop:=0<=m.st/\m.st<=6/\0<=m.age/\m.age<=9/\m.ev.sized
theorem age6:∀e∈[[Value.int .i64 0],[.int .i64 0],[.int .i64 1],[.int .i64 2],[.int .i64 5],[.int .i64 9]],∃k:Int,e=[.int .i64 k]/\0<=k/\k<=9:=λe he=>by
 simp only[List.mem_cons,List.not_mem_nil,or_false]at he;rcases he with rfl|rfl|rfl|rfl|rfl|rfl<;>exact⟨_,rfl,by decide,by decide⟩
abbrev ctMove:Ct:=ctV (λp:BP=>[.complex .f64 0 0,p.v1]) (λp=>p.m1) (λp=>okBk p.B) λ_ v es=>es=[]/\∃m:Mv,v=.agg m.cells/\m.ok
theorem move_ct(r:Nat):CN Tryz.prog (RDr r) 65 2100 ctMove:=by
 refine JX (Ρ:=[]) (Ab (GJ r) (f:=12) (by kernel_rfl) (Lz r)) (GW r) 2100 (by decide) Tryz.func65 (by kernel_rfl) (.nil _) (by kernel_rfl) (λ_=>rfl) (λp p' h hm=>BP.inj1 (List.cons.inj (List.cons.inj h).2).1 hm) ?_;rintro⟨B,c1,c2,c3⟩ q hok hq;refine And.intro (show q+1<=QM by omega) ?_;refine⟨0,5,rfl,rfl,⟨by decide,by decide⟩,λx _=>?_⟩;refine And.intro (λ_=>?_) (λ_=>?_)
 ·refine And.intro (show q+3<=QM by omega) ?_
  refine⟨0,6,rfl,rfl,⟨by decide,by decide⟩,λy hy=>?_⟩;intro n hn;refine⟨0,6,rfl,rfl,⟨by decide,by decide⟩,λz hz=>?_⟩;have hy1:=hy.1;have hy2:=hy.2.1 (by decide);have hn:n=1+y:=hn ⟨by omega,by omega⟩;refine And.intro hz.1 (And.intro (hz.2.1 (by decide)) (And.intro (AG _) (And.intro (CU hz 6 rfl (by decide)) (λel hel=>?_))));obtain⟨k,rfl,k0,k9⟩:=age6 el (AE hel);exact⟨.inl rfl,_,rfl,⟨⟨_,_,[],⟨rfl,⟨n,k,ev0⟩,rfl,by show 0<=n;omega,by show n<=6;omega,k0,k9,AI _,AI _⟩,rfl,trivial,rfl,rfl,trivial⟩,(show q+3<=q+2100 by omega),0,rfl⟩,rfl⟩
 ·refine And.intro (show q+2001<=QM by omega) ?_
  refine⟨⟨B,c1,c2,c3⟩,rfl,okBk.sp hok,?_⟩;rintro _ _ ⟨rfl,k,s,nm,n,f,rfl,h1,h2,_⟩;exact⟨.inl rfl,_,rfl,⟨⟨_,_,[],⟨rfl,⟨0,0,⟨k,s,nm,n,f⟩⟩,rfl,Int.le_refl 0,show(0:Int)<=6 by decide,Int.le_refl 0,show(0:Int)<=9 by decide,h1,h2⟩,rfl,trivial,rfl,rfl,trivial⟩,(show q+2001<=q+2100 by omega),0,rfl⟩,rfl⟩
def MvIs(r:Nat)(q:Int)(w0:World)(e:Ending)(w':World):Prop:=∃m:Mv,e=.returned (.agg m.cells)/\m.ok/\Past r w0.heap.size w0 w'/\Rd r w' q
theorem Rd.pos{r:Nat}{w:World}{q:Int}(h:Rd r w q):0<=q:=let ⟨_,_,_,_,_,h2,h3,_⟩:=h;Int.le_trans h2 h3
theorem IM{B:Bk}(hS:B.svcs.length<=1000/\B.cps.length<=1000/\B.bts.length<=1000)(hZ:B.sized):okBk B:=⟨hS,hZ.2.2.2⟩
theorem move_any(r:Nat)(q:Int)(B:Bk)(a1 a2 a3:Option Addr)(c1 c2 c3:Nat)(w:World)(hS:B.svcs.length<=1000/\B.cps.length<=1000/\B.bts.length<=1000)(hZ:B.sized)(hB:BkAt w a1 a2 a3 B)(hR:Rd r w q)(hq:q<=700000000000):
  Calls Tryz.prog 65 #[.pointer (some ⟨r,0,none⟩),.agg #[.int .i64 B.now,.slice a1 B.svcs.length c1,.slice a2 B.cps.length c2,.slice a3 B.bts.length c3]] w λe w'=>MvIs r (q+2000010) w e w':=by
 have h0:=hR.pos;have hR':Rd r w (q.toNat:Int):=hR.mono (by omega);have h:=Kw (move_ct r) ⟨B,c1,c2,c3⟩ (IM hS hZ) rfl hR' (show q.toNat+2100<=QM by unfold QM;omega) (Nk hR' hB);rw[show(List.map (r2 (ghR r w a1 a2 a3).α) [.complex .f64 0 0,BP.v1 ⟨B,c1,c2,c3⟩]).toArray=#[.pointer (some ⟨r,0,none⟩),.agg #[.int .i64 B.now,.slice a1 B.svcs.length c1,.slice a2 B.cps.length c2,.slice a3 B.bts.length c3]] from by simp[BP.v1,ghR,r2,r1,r0,Addr.add]]at h;refine h.mono ?_;rintro e w' ⟨_,_,G',⟨rfl,m,rfl,hm⟩,rfl,_,hp,hr,_⟩;exact⟨m,by simp[Mv.cells,up2,up1,up0,r2,r1,r0],hm,hp,hr.mono (by omega)⟩
theorem Kv(r:Nat)(q:Int)(w:World)(hR:Rd r w q)(hq:q<=900000000000):
  Calls Tryz.prog 30 #[.pointer (some ⟨r,0,none⟩)] w λe w'=>∃s:Svc,e=.returned (.agg #[.string s.name,.int .i64 s.version,.bool s.gone,.int .i64 s.image,.int .i64 s.want,.int .i64 s.down,.int .i64 s.over,.int .i64 s.next,.int .i64 s.per,.int .i64 s.least,.int .i64 s.most,.int .i64 s.load,.int .i64 s.cool])/\s.name.size<=10/\Past r w.heap.size w w'/\Rd r w' (q+100):=by
 have h0:=hR.pos;refine(wish_bk r q.toNat w (hR.mono (by omega)) (by unfold QM;omega)).mono ?_;rintro e w' ⟨s,rfl,hs,hp,hr⟩;exact⟨s,rfl,hs,hp,hr.mono (by omega)⟩
end
section
open Go.RowKit
theorem MU{B:Bk}{E:Ev}(hV:AX B=true):(AO B E).1.tiny:=by
 unfold AX at hV;simp only[Bool.and_eq_true,decide_eq_true_eq]at hV;obtain⟨h1,h2,h3⟩:=Jq B E;exact⟨by omega,by omega,by omega⟩
theorem ok_sized{B:Bk}(h:okBk B):B.sized:=⟨AH h.1.1 (by decide),AH h.1.2.1 (by decide),AH h.1.2.2 (by decide),h.2⟩
theorem noBk_ok:noBk.sized/\noBk.tiny:=⟨⟨AI _,AI _,AI _,(λ_ h=>by cases h),(λ_ h=>by cases h),(λ_ h=>by cases h)⟩,AI _,AI _,AI _⟩
theorem Jr{B:Bk}{E:Ev}(hZ:B.sized)(hS:B.tiny)(hE:E.sized):(BM B E).1.sized/\(BM B E).1.tiny:=by
 unfold BM;split
 ·rename_i hv
  split
  ·exact⟨hZ,hS⟩
  ·split
   ·split
    ·exact⟨FP hv hZ hE,MU hv⟩
    ·exact⟨hZ,hS⟩
   ·exact⟨hZ,hS⟩
 ·exact noBk_ok
def BkC(n:Nat)(w w':World)(v:Value):Prop:=∃(a1 a2 a3:Option Addr) (c1 c2 c3:Nat) (B:Bk) (k:Int),v=.tuple #[.agg #[.int .i64 B.now,.slice a1 B.svcs.length c1,.slice a2 B.cps.length c2,.slice a3 B.bts.length c3],.int .i64 k]/\BkAt w' a1 a2 a3 B/\B.sized/\B.tiny/\Below n w w'
theorem sea_bk(B:Bk)(E:Ev)(a1 a2 a3:Option Addr)(c1 c2 c3:Nat)(w:World)(hS:B.tiny)(hZ:B.sized)(hE:E.sized)(hB:BkAt w a1 a2 a3 B):
  Calls Tryz.prog 6 #[.agg #[.int .i64 B.now,.slice a1 B.svcs.length c1,.slice a2 B.cps.length c2,.slice a3 B.bts.length c3],.agg #[.int .i64 E.kind,.string E.service.name,.int .i64 E.service.version,.bool E.service.gone,.int .i64 E.service.image,.int .i64 E.service.want,.int .i64 E.service.down,.int .i64 E.service.over,.int .i64 E.service.next,.int .i64 E.service.per,.int .i64 E.service.least,.int .i64 E.service.most,.int .i64 E.service.load,.int .i64 E.service.cool,.string E.name,.int .i64 E.number,.bool E.flag]] w λe w'=>∃v,e=.returned v/\BkC w.heap.size w w' v:=
 (Hw B E a1 a2 a3 c1 c2 c3 w hS.small hZ hE hB).mono λ_ _ ⟨x1,x2,x3,p1,p2,p3,he,hb,hl⟩=>⟨_,he,x1,x2,x3,p1,p2,p3,_,_,rfl,hb,(Jr hZ hS hE).1,(Jr hZ hS hE).2,hl⟩
theorem apply_bk(B:Bk)(A:Ac)(a1 a2 a3:Option Addr)(c1 c2 c3:Nat)(ae:Option Addr)(ce:Nat)(w:World)(hS:B.tiny)(hZ:B.sized)(hB:BkAt w a1 a2 a3 B)(hE:SlE w ae A.ends):
  Calls Tryz.prog 85 #[.agg #[.int .i64 B.now,.slice a1 B.svcs.length c1,.slice a2 B.cps.length c2,.slice a3 B.bts.length c3],.agg #[.string A.service,.int .i64 A.seen,.int .i64 A.create,.int .i64 A.want,.int .i64 A.cool,.bool A.scale,.slice ae A.ends.length ce,.bool A.drop]] w λe w'=>∃v,e=.returned v/\BkC w.heap.size w w' v:=
 (KZ B A a1 a2 a3 c1 c2 c3 ae ce w (IM hS hZ) hB hE).mono λ_ _ ⟨x1,x2,x3,d1,d2,d3,X,c,he,hb,hok,hl⟩=>⟨_,he,x1,x2,x3,d1,d2,d3,X,c,rfl,hb,ok_sized hok,hok.1,hl⟩
theorem MF:∀(R:List Ed) (i:Nat) (r:Ed) (j:Nat),R[i]?=some r->j<8->(EH R)[i*8+j]?=(D4 r)[j]?
 |[],_,_,_,h,_=>by simp at h
 |x::R,0,r,j,h,hj=>by
  simp at h;subst h;have e:EH (x::R)=D4 x++EH R:=by simp[EH]
  rw[e,List.getElem?_append_left (by show _<8;omega),Nat.zero_mul,Nat.zero_add]
 |x::R,i+1,r,j,h,hj=>by
  have e:EH (x::R)=D4 x++EH R:=by simp[EH]
  have hl:(D4 x).length=8:=rfl;rw[e,List.getElem?_append_right (by omega),hl,show(i+1)*8+j - 8=i*8+j by omega];exact MF R i r j (by simpa using h) hj
theorem rowA_sl{w:World}{g cap lo:Nat}{R:List Ed}(h:RowIs w 134 8 g R.length cap (EH R))(he:∀r∈R,SlEn lo w r.2.1 r.1.ends):SlA w (some ⟨g,0,none⟩) R:=λ_=>
 ⟨g,0,rfl,h.lt,λi r hr=>by
  have hc:∀j,j<8->∀u,(D4 r)[j]?=some u->w.cell? ⟨g,0+i*8+j,none⟩=some u:=λj hj u hu=>by
   rw[Nat.zero_add];exact h.cell ((MF R i r j hr hj).trans hu)
  refine⟨?_,λhn=>?_⟩
  ·unfold AcAt
   exact⟨hc 0 (by omega) _ rfl,hc 1 (by omega) _ rfl,hc 2 (by omega) _ rfl,hc 3 (by omega) _ rfl,hc 4 (by omega) _ rfl,hc 5 (by omega) _ rfl,hc 6 (by omega) _ rfl,hc 7 (by omega) _ rfl⟩
  ·obtain⟨ge,e1,_,e3,e4⟩:=he r (AE hr) hn
   exact⟨ge,0,e1,e3,e4⟩⟩
theorem MR(kind:Int)(B:Bk)(a1 a2 a3:Option Addr)(c1 c2 c3:Nat)(w:World)(hS:B.tiny)(hZ:B.sized)(hB:BkAt w a1 a2 a3 B):
  Calls Tryz.prog 83 #[.int .i64 kind,.agg #[.int .i64 B.now,.slice a1 B.svcs.length c1,.slice a2 B.cps.length c2,.slice a3 B.bts.length c3]] w λe w'=>∃(ao:Option Addr) (cap:Nat) (R:List Ed),e=.returned (.slice ao R.length cap)/\R.length<=1000/\(∀r∈R,r.1.ends.length<=1000)/\SlA w' ao R/\Below w.heap.size w w':=
 (MS kind B a1 a2 a3 c1 c2 c3 w (IM hS hZ) hB).mono λ_ _ ⟨g,cap,R,he,⟨h1,h2⟩,_,hrow,hends,hb⟩=>⟨some ⟨g,0,none⟩,cap,R,he,h1,h2,rowA_sl hrow hends,hb⟩
end
section
open Go.RowKit Go.Sort
structure WA(w:World)(ap:Option Addr)(l:List Bx)(a1 a2 a3:Option Addr)(B:Bk):Prop where
 wat:WAt w ap l a1 a2 a3 B
 ok:WOk l B
 rt:RowT w ap l
section
variable {w w':World} {ap:Option Addr} {l:List Bx} {a1 a2 a3:Option Addr} {B:Bk}
theorem WA.below(h:WA w ap l a1 a2 a3 B)(hb:Below w.heap.size w w'):WA w' ap l a1 a2 a3 B:=⟨h.wat.below hb,h.ok,h.rt.below hb⟩
def NoStr(w:World)(x:Nat):Prop:=∀(o:Nat) (s:ByteArray),w.cell? ⟨x,o,none⟩≠some (.string s)
def NI(w:World)(x:Nat):Prop:=NoStr w x/\∃cs t fr,w.heap[x]?=some (.cells cs t fr)/\t≠27
theorem NoStr.str{x b o:Nat}{s:ByteArray}(h:NoStr w x)(hc:w.cell? ⟨b,o,none⟩=some (.string s)):b≠x:=by
 rintro rfl;exact h _ _ hc
theorem NoStr.of{x:Nat}{cs:Array Value}{t:TypeId}{fr:Nat × Nat}(h:w.heap[x]?=some (.cells cs t fr))(hn:∀(j:Nat) (s:ByteArray),cs[j]?≠some (.string s)):NoStr w x:=λo s hc=>by
 rw[cell_of_row w x o _ _ _ h]at hc;exact hn _ _ hc
theorem BkAt.only{x:Nat}(h:BkAt w a1 a2 a3 B)(hx:NoStr w x)(on:BA x w w'):BkAt w' a1 a2 a3 B:=by
 have hc:∀b,b≠x->∀o,w'.cell? ⟨b,o,none⟩=w.cell? ⟨b,o,none⟩:=λb hb o=>World.cell?_of_block (w:=w) (on.other b hb)
 refine⟨λhl=>?_,λhl=>?_,λhl=>?_⟩
 ·obtain⟨b,off,e,hlt,hat⟩:=h.1 hl
  refine⟨b,off,e,by rw[on.size];exact hlt,λi s hs=>?_⟩;have h1:=hat i s hs;have hne:=hx.str h1.1;unfold SvcAt at *;simp only[hc b hne];exact h1
 ·obtain⟨b,off,e,hlt,hat⟩:=h.2.1 hl
  refine⟨b,off,e,by rw[on.size];exact hlt,λi s hs=>?_⟩;have h1:=hat i s hs;have hne:=hx.str h1.1;unfold CpAt at *;simp only[hc b hne];exact h1
 ·obtain⟨b,off,e,hlt,hat⟩:=h.2.2 hl
  refine⟨b,off,e,by rw[on.size];exact hlt,λi s hs=>?_⟩;have h1:=hat i s hs;have hne:=hx.str h1.1;unfold BtAt at *;simp only[hc b hne];exact h1
theorem WA.only{x:Nat}(h:WA w ap l a1 a2 a3 B)(hx:NI w x)(on:BA x w w'):WA w' ap l a1 a2 a3 B:=by
 have hne:l≠[]->∀b off,ap=some ⟨b,off,none⟩->b≠x:=λhl b off e hb=>by
  subst hb;obtain⟨cs,fr,h1⟩:=h.rt hl b off e;obtain⟨_,cs',t,fr',h2,h3⟩:=hx;rw[h1]at h2;injection h2 with h2
  injection h2 with _ h2
  exact h3 h2.symm
 refine⟨⟨λhl=>?_,λx' hx'=>(h.wat.ins x' hx').only hx.1 on,h.wat.book.only hx.1 on⟩,h.ok,λhl b off e=>?_⟩
 ·obtain⟨b,off,e,hlt,hat⟩:=h.wat.row hl
  refine⟨b,off,e,by rw[on.size];exact hlt,λi s hs=>?_⟩;have h1:=hat i s hs;unfold BxAt at *;have hc:∀o,w'.cell? ⟨b,o,none⟩=w.cell? ⟨b,o,none⟩:=λo=>World.cell?_of_block (w:=w) (on.other b (hne hl b off e))
  simp only[hc];exact h1
 ·obtain⟨cs,fr,h1⟩:=h.rt hl b off e
  exact⟨cs,fr,(on.other b (hne hl b off e)).trans h1⟩
end
theorem D3{w:World}{x:Nat}{ap:Option Addr}{n cp:Nat}{now:Int}{a1 a2 a3:Option Addr}{n1 n2 n3 c1 c2 c3:Nat}{fr:Nat × Nat}(h:w.heap[x]?=some (.cells #[.slice ap n cp,.int .i64 now,.slice a1 n1 c1,.slice a2 n2 c2,.slice a3 n3 c3] 84 fr)):NI w x:=
 ⟨.of h λj s hj=>by rcases j with _|_|_|_|_|j<;>first|cases hj|simp at hj,_,_,_,h,by decide⟩
theorem wis_iff{n:Nat}{w w':World}{v:Value}:WIs n w w' v↔∃(ap:Option Addr) (l:List Bx) (cp:Nat) (a1 a2 a3:Option Addr) (c1 c2 c3:Nat) (B:Bk),v=.agg #[.slice ap l.length cp,.int .i64 B.now,.slice a1 B.svcs.length c1,.slice a2 B.cps.length c2,.slice a3 B.bts.length c3]/\WA w' ap l a1 a2 a3 B/\Below n w w':=
 ⟨λ⟨ap,l,cp,a1,a2,a3,c1,c2,c3,B,h1,h2,h3,h4,h5⟩=>⟨ap,l,cp,a1,a2,a3,c1,c2,c3,B,h1,⟨h2,h3,h4⟩,h5⟩,λ⟨ap,l,cp,a1,a2,a3,c1,c2,c3,B,h1,h2,h5⟩=>⟨ap,l,cp,a1,a2,a3,c1,c2,c3,B,h1,h2.wat,h2.ok,h2.rt,h5⟩⟩
theorem Im(w:World)(A B C:Obj):∃W0,((w.alloc A).alloc B).alloc C=W0/\W0.heap[w.heap.size]?=some A/\W0.heap[w.heap.size+1]?=some B/\W0.heap[w.heap.size+1+1]?=some C/\W0.heap.size=w.heap.size+3/\Below w.heap.size w W0:=by
 obtain⟨h1,h2,h3⟩:=B0 w A B;obtain⟨X,hX⟩:∃X,(w.alloc A).alloc B=X:=⟨_,rfl⟩;rw[hX]at h1 h2 h3;rw[hX];have hbX:Below w.heap.size w X:=by rw[<-hX];exact(AM w _).alloc (by show w.heap.size<=(w.heap.push _).size;simp) _
 have hz:(X.alloc C).heap.size=X.heap.size+1:=by show(X.heap.push _).size=_;simp
 refine⟨_,rfl,(heap_alloc_old X _ (by omega)).trans h1,(heap_alloc_old X _ (by omega)).trans h2,?_,by omega,hbX.alloc (by omega) _⟩;have:=heap_alloc_new X C
 rwa [h3]at this
def DoIs(w:World)(e:Ending)(w':World):Prop:=∃vw vs,e=.returned (.tuple #[vw,vs])/\WIs w.heap.size w w' vw
theorem do_sea(l:List Bx)(ap:Option Addr)(cp:Nat)(B:Bk)(a1 a2 a3:Option Addr)(c1 c2 c3:Nat)(m:Mv)(w:World)(hst:inB m.st 1 6=false)(hE:m.ev.sized)(hW:WA w ap l a1 a2 a3 B):
  Calls Tryz.prog 64 #[.agg #[.slice ap l.length cp,.int .i64 B.now,.slice a1 B.svcs.length c1,.slice a2 B.cps.length c2,.slice a3 B.bts.length c3],.agg #[.int .i64 m.st,.int .i64 m.age,.int .i64 m.ev.kind,.string m.ev.service.name,.int .i64 m.ev.service.version,.bool m.ev.service.gone,.int .i64 m.ev.service.image,.int .i64 m.ev.service.want,.int .i64 m.ev.service.down,.int .i64 m.ev.service.over,.int .i64 m.ev.service.next,.int .i64 m.ev.service.per,.int .i64 m.ev.service.least,.int .i64 m.ev.service.most,.int .i64 m.ev.service.load,.int .i64 m.ev.service.cool,.string m.ev.name,.int .i64 m.ev.number,.bool m.ev.flag]] w λe w'=>DoIs w e w':=by
 have HW:Hid (WA w ap l a1 a2 a3 B):=hW;clear hW;obtain⟨W0,hW0,t0,t1,t2,hs0,hb0⟩:=Im w (.cells #[.slice ap l.length cp,.int .i64 B.now,.slice a1 B.svcs.length c1,.slice a2 B.cps.length c2,.slice a3 B.bts.length c3] 84) (.cells #[.int .i64 m.st,.int .i64 m.age,.int .i64 m.ev.kind,.string m.ev.service.name,.int .i64 m.ev.service.version,.bool m.ev.service.gone,.int .i64 m.ev.service.image,.int .i64 m.ev.service.want,.int .i64 m.ev.service.down,.int .i64 m.ev.service.over,.int .i64 m.ev.service.next,.int .i64 m.ev.service.per,.int .i64 m.ev.service.least,.int .i64 m.ev.service.most,.int .i64 m.ev.service.load,.int .i64 m.ev.service.cool,.string m.ev.name,.int .i64 m.ev.number,.bool m.ev.flag] 109) (.cells #[.slice none 0 0,.int .i64 0,.slice none 0 0,.slice none 0 0,.slice none 0 0] 84);obtain⟨x,hx⟩:∃x,w.heap.size=x:=⟨_,rfl⟩;obtain⟨y,hy⟩:∃y,x+1=y:=⟨_,rfl⟩;obtain⟨f,hf⟩:∃f,y+1=f:=⟨_,rfl⟩;have T0:Hid _:=t0;have T1:Hid _:=t1;have T2:Hid _:=t2;clear t0 t1 t2;go_enter Tryz.func64,Tryz.ntmps64
 go_upto_region 1 with fail
 rw[hx]at T0;rw[hx,hy]at T1;rw[hx,hy,hf]at T2;clear hW0;have m0:W0.cell? ⟨y,0,none⟩=some (.int .i64 m.st):=AJ T1.out 0 rfl
 go_upto_region 2 with(go_at_call 15;refine(CQ _ _ _ _).mono ?_;rintro e W1 ⟨rfl,rfl⟩)
 clear m0;have m2:W1.cell? ⟨y,2,none⟩=some (.int .i64 m.ev.kind):=AJ T1.out 2 rfl;have m3:W1.cell? ⟨y,3,none⟩=some (.string m.ev.service.name):=AJ T1.out 3 rfl;have m4:W1.cell? ⟨y,4,none⟩=some (.int .i64 m.ev.service.version):=AJ T1.out 4 rfl;have m5:W1.cell? ⟨y,5,none⟩=some (.bool m.ev.service.gone):=AJ T1.out 5 rfl;have m6:W1.cell? ⟨y,6,none⟩=some (.int .i64 m.ev.service.image):=AJ T1.out 6 rfl;have m7:W1.cell? ⟨y,7,none⟩=some (.int .i64 m.ev.service.want):=AJ T1.out 7 rfl;have m8:W1.cell? ⟨y,8,none⟩=some (.int .i64 m.ev.service.down):=AJ T1.out 8 rfl;have m9:W1.cell? ⟨y,9,none⟩=some (.int .i64 m.ev.service.over):=AJ T1.out 9 rfl;have m10:W1.cell? ⟨y,10,none⟩=some (.int .i64 m.ev.service.next):=AJ T1.out 10 rfl;have m11:W1.cell? ⟨y,11,none⟩=some (.int .i64 m.ev.service.per):=AJ T1.out 11 rfl;have m12:W1.cell? ⟨y,12,none⟩=some (.int .i64 m.ev.service.least):=AJ T1.out 12 rfl;have m13:W1.cell? ⟨y,13,none⟩=some (.int .i64 m.ev.service.most):=AJ T1.out 13 rfl;have m14:W1.cell? ⟨y,14,none⟩=some (.int .i64 m.ev.service.load):=AJ T1.out 14 rfl;have m15:W1.cell? ⟨y,15,none⟩=some (.int .i64 m.ev.service.cool):=AJ T1.out 15 rfl;have m16:W1.cell? ⟨y,16,none⟩=some (.string m.ev.name):=AJ T1.out 16 rfl;have m17:W1.cell? ⟨y,17,none⟩=some (.int .i64 m.ev.number):=AJ T1.out 17 rfl;have m18:W1.cell? ⟨y,18,none⟩=some (.bool m.ev.flag):=AJ T1.out 18 rfl;have e1:W1.cell? ⟨x,1,none⟩=some (.int .i64 B.now):=AJ T0.out 1 rfl;have e2:W1.cell? ⟨x,2,none⟩=some (.slice a1 B.svcs.length c1):=AJ T0.out 2 rfl
 have e3:W1.cell? ⟨x,3,none⟩=some (.slice a2 B.cps.length c2):=AJ T0.out 3 rfl;have e4:W1.cell? ⟨x,4,none⟩=some (.slice a3 B.bts.length c3):=AJ T0.out 4 rfl
 go_upto_region 3 with(go_at_call 6;refine(sea_bk B m.ev a1 a2 a3 c1 c2 c3 _ HW.out.ok.bs HW.out.ok.bz hE (HW.out.wat.book.below hb0)).mono ?_;rintro e w1 ⟨v,rfl,x1,x2,x3,y1,y2,y3,C,kc,rfl,hC,hCz,hCs,hb1⟩)
 have C1:Hid (BkAt w1 x1 x2 x3 C):=hC;have hbw:Below w.heap.size w w1:=hb0.trans (hb1.mono hb0.size);have U0:Hid _:=AK hb1 T0.out (by omega);have U2:Hid _:=AK hb1 T2.out (by omega);have hs1:=hb1.size;obtain⟨W2,hW2⟩:∃W2,w1.alloc (.cells #[.int .i64 C.now,.slice x1 C.svcs.length y1,.slice x2 C.cps.length y2,.slice x3 C.bts.length y3] 27)=W2:=⟨_,rfl⟩;have V0:Hid (W2.heap[x]?=some (.cells #[.slice ap l.length cp,.int .i64 B.now,.slice a1 B.svcs.length c1,.slice a2 B.cps.length c2,.slice a3 B.bts.length c3] 84 (0,0))):=by unfold Hid;rw[<-hW2];exact(heap_alloc_old w1 _ (by omega)).trans U0.out
 have V2:Hid (W2.heap[f]?=some (.cells #[.slice none 0 0,.int .i64 0,.slice none 0 0,.slice none 0 0,.slice none 0 0] 84 (0,0))):=by unfold Hid;rw[<-hW2];exact(heap_alloc_old w1 _ (by omega)).trans U2.out
 have V3:Hid (W2.heap[w1.heap.size]?=some (.cells #[.int .i64 C.now,.slice x1 C.svcs.length y1,.slice x2 C.cps.length y2,.slice x3 C.bts.length y3] 27 (0,0))):=by unfold Hid;rw[<-hW2];exact heap_alloc_new w1 _
 have hb2:Below w1.heap.size w1 W2:=by rw[<-hW2];exact AM _ _
 have hbw2:Below w.heap.size w W2:=hbw.trans (hb2.mono hbw.size);have hs2:=hb2.size;rw[hW2];clear e1 e2 e3 e4 T0 T1 T2 U0 U2 hC hb1 hW2 m2 m3 m4 m5 m6 m7 m8 m9 m10 m11 m12 m13 m14 m15 m16 m17 m18
 go_wp2_with (first
  |((with_reducible show wpList _ _ _ _ _ _);refine wpList_load_row rfl 84 (.tmp 2) rfl x rfl 84 #[.slice ap l.length cp,.int .i64 B.now,.slice a1 B.svcs.length c1,.slice a2 B.cps.length c2,.slice a3 B.bts.length c3] (0,0) _ V0.out Tryz.underlying84 rfl Tryz.infosWorldE ?_)
  |((with_reducible show wpList _ _ _ _ _ _);refine wpList_load_row rfl 27 (.tmp 6) rfl w1.heap.size rfl 27 #[.int .i64 C.now,.slice x1 C.svcs.length y1,.slice x2 C.cps.length y2,.slice x3 C.bts.length y3] (0,0) _ V3.out Tryz.underlying27 rfl Tryz.infosBookE ?_)
  |(go_at_call 82;refine(Ll l ap cp B C a1 a2 a3 x1 x2 x3 c1 c2 c3 y1 y2 y3 _ HW.out.ok hCz hCs (HW.out.wat.below hbw2) (HW.out.rt.below hbw2) (C1.out.below hb2)).mono ?_;rintro e w3 ⟨v,rfl,hv⟩;obtain⟨aq,M,cq,z1,z2,z3,d1,d2,d3,D,rfl,hA,hb3⟩:=wis_iff.1 hv;have V4:Hid _:=AK hb3 V2.out (by omega);have HA:Hid _:=hA;have hs3:=hb3.size;clear hv hA)
  |((with_reducible show wpList _ _ _ _ _ _);refine AL rfl 84 (.tmp 4) (.tmp 27) rfl f 0 #[.slice aq M.length cq,.int .i64 D.now,.slice z1 D.svcs.length d1,.slice z2 D.cps.length d2,.slice z3 D.bts.length d3] rfl rfl 84 #[.slice none 0 0,.int .i64 0,.slice none 0 0,.slice none 0 0,.slice none 0 0] ((heap_alloc_old w3 _ (by omega)).trans V4.out) Tryz.infosWorldE (AD rfl) (by simp[Value.oneCell']) ?_;intro wz hz on;simp only[Act.put]))
 have h4:Below w3.heap.size w3 (w3.alloc _):=AM w3 (.cells #[.int .i64 kc] 3);have hbf:=(heap_alloc_old w3 (.cells #[.int .i64 kc] 3) (show f<w3.heap.size by omega)).trans V4.out;refine bodyPost_ret (v:=.tuple #[.agg #[.slice aq M.length cq,.int .i64 D.now,.slice z1 D.svcs.length d1,.slice z2 D.cps.length d2,.slice z3 D.bts.length d3],_]) (Au rfl _ wz f _ _ _ _ rfl hz.out Tryz.underlying84 rfl Tryz.infosWorldE _ rfl) rfl ?_;refine⟨_,_,rfl,wis_iff.2 ⟨aq,M,cq,z1,z2,z3,d1,d2,d3,D,rfl,(HA.out.below h4).only (D3 hbf) on,?_⟩⟩;exact(hbw2.trans (hb3.mono hbw2.size)).trans ((h4.mono (by omega)).trans (on.below.mono (by omega)))
end
section
open Go Go.RowKit Go.Sort
def IntRow(w:World)(g n cap:Nat):Prop:=n<=cap/\∃cur:Array Value,w.heap[g]?=some (.cells cur 3 (0,0))/\cur.size=cap/\∀u∈cur.toList,∃k,u=.int .i64 k
theorem IntRow.blk{w w':World}{g n cap:Nat}(h:IntRow w g n cap)(hb:w'.heap[g]?=w.heap[g]?):IntRow w' g n cap:=let ⟨h1,cur,h2,h3⟩:=h;⟨h1,cur,hb.trans h2,h3⟩
theorem IntRow.lt{w:World}{g n cap:Nat}(h:IntRow w g n cap):g<w.heap.size:=let ⟨_,_,h2,_⟩:=h;(AB h2).1
theorem IntRow.below{w w':World}{g n cap:Nat}(h:IntRow w g n cap)(hb:Below w.heap.size w w'):IntRow w' g n cap:=h.blk (hb.block g h.lt)
theorem IntRow.bare{w:World}{g n cap:Nat}(h:IntRow w g n cap):NI w g:=by
 obtain⟨_,cur,h2,_,h3⟩:=h;refine⟨.of h2 λj s hj=>?_,cur,_,_,h2,by decide⟩;obtain⟨k,hk⟩:=h3 _ (AE (l:=cur.toList) (i:=j) (by simpa using hj));cases hk
theorem IntRow.cell{w:World}{g n cap i:Nat}(h:IntRow w g n cap)(hi:i<n):∃k,w.cell? ⟨g,i,none⟩=some (.int .i64 k):=by
 obtain⟨h1,cur,h2,h3,h4⟩:=h;obtain⟨k,hk⟩:=h4 cur[i] (by simp);exact⟨k,AJ h2 i (by rw[<-hk];simp)⟩
theorem IntRow.new(w:World):IntRow (w.alloc (.cells #[] 3)) w.heap.size 0 0:=⟨AG _,#[],heap_alloc_new w _,rfl,λu h=>by cases h⟩
theorem Tryz.infoIntE:(Tryz.prog.info? 3).map (λi=>(i.zero,i.size,i.bytes))=some (some (.int .i64 0),1,8):=by kernel_rfl
theorem Iv(w:World)(t ty:TypeId)(ht:Tryz.prog.underlying t=some (.slice 3))(g n cap:Nat)(hrow:IntRow w g n cap)(da:Addr)(m c:Nat)(news:List Value)(hl:news.length=m)(hnews:∀j u,news[j]?=some u->w.cell? (da.add j)=some u)(hn:∀u∈news,∃k,u=.int .i64 k)(h63:n+m<=1000000):
  ∃g' cap' w',(Builtin.append_ #[t,t] ty #[.slice (some ⟨g,0,none⟩) n cap,.slice (some da) m c]).run Tryz.prog w=.ok (.slice (some ⟨g',0,none⟩) (n+m) cap') w'/\((g'=g/\BA g w w')\/(g'=w.heap.size/\Below w.heap.size w w'))/\IntRow w' g' (n+m) cap':=by
 obtain⟨i,hi,hz,hs,hb⟩:=info_parts Tryz.infoIntE;obtain⟨hnc,cur,hg,hcs,hcur⟩:=hrow;have h1:∀u∈news,u.oneCell'=true:=λu hu=>by obtain⟨k,rfl⟩:=hn u hu;rfl
 have hl':news.length=m*i.size:=by rw[hs,hl,Nat.mul_one]
 by_cases hroom:n+m<=cap
 ·have hr:=run_append_room (P:=Tryz.prog) w t ty 3 i ht hi g n cap cur hg da m c news hl' hnews h1 hroom (by rw[hs,Nat.mul_one,hl,hcs];exact hroom)
  rw[hs,Nat.mul_one]at hr;refine⟨g,cap,_,hr,.inl ⟨rfl,C2 w g _⟩,hroom,_,setRow_heap w g cur _ 3 _ hg,?_,?_⟩
  ·simp only[List.size_toArray,List.length_append,List.length_take,List.length_drop,Array.length_toList]
   omega
  ·intro u hu
   have hu:u∈cur.toList.take n++(news++cur.toList.drop (n+news.length)):=by simpa [List.append_assoc] using hu
   rcases List.mem_append.1 hu with h|h
   ·exact hcur u (List.mem_of_mem_take h)
   ·rcases List.mem_append.1 h with h|h
    ·exact hn u h
    ·exact hcur u (List.mem_of_mem_drop h)
 ·have hx:(cur.toList.take n).length=n*i.size:=by rw[hs,Nat.mul_one,List.length_take,Array.length_toList];omega
  have holds:∀j u,(cur.toList.take n)[j]?=some u->w.cell? ((⟨g,0,none⟩:Addr).add j)=some u:=λj u hu=>by
   rw[Addr.add_lit,Nat.zero_add];refine AJ hg j ?_;rw[List.getElem?_take]at hu;split at hu
   ·simpa using hu
   ·cases hu
  have hr:=run_append_grow (P:=Tryz.prog) w t ty 3 i _ ht hi hz ⟨g,0,none⟩ n cap (cur.toList.take n) hx holds da m c news hl' hnews (by omega) (by omega) (growslice_fits (by omega) (by rw[hb];omega));have hge:=grownCap_ge w (n+m) cap 3;refine⟨w.heap.size,_,_,hr,.inr ⟨rfl,⟨rfl,rfl,rfl,by simp,λk hk=>by show(w.heap.push _)[k]?=_;rw[Array.getElem?_push,if_neg (by omega)]⟩⟩,hge,_,heap_alloc_new w.drew _,?_,?_⟩
  ·simp only[Array.size_append,List.size_toArray,List.length_append,hx,hl',hs,Nat.mul_one,size_zeroCells]
   show n+m+(_ - (n+m))*1=_;omega
  ·intro u hu
   rw[Array.toList_append]at hu;rcases List.mem_append.1 hu with h|h
   ·rcases List.mem_append.1 (by simpa using h) with h|h
    ·exact hcur u (List.mem_of_mem_take h)
    ·exact hn u h
   ·unfold Builtin.zeroCells at h
    rw[Array.toList_map]at h;obtain⟨j,_,rfl⟩:=List.mem_map.1 h;exact⟨0,by show(#[Value.int .i64 0]:Array Value)[j%1]! =_;rw[Nat.mod_one];rfl⟩
theorem Cg{ops:Array Oper}{rest:List Oper}{o:Oper}{a:Act}{w:World}{Q:Exit->Act->World->Prop}(hgd:o.guard=none)(s x:Operand)(t:TypeId)
  (ho:o.op=.call {callee:=.builtin .append,args:=#[s,x],argTypes:=#[t,t]}) (ht:Tryz.prog.underlying t=some (.slice 3))
  (g n cap:Nat) (hs:a.eval s=.slice (some ⟨g,0,none⟩) n cap) (hrow:IntRow w g n cap) (da:Addr) (m c:Nat) (news:List Value) (hx:a.eval x=.slice (some da) m c) (hl:news.length=m) (hnews:∀j u,news[j]?=some u->w.cell? (da.add j)=some u) (hn:∀u∈news,∃k,u=.int .i64 k) (h63:n+m<=1000000)
  (h:∀g' cap' w',((g'=g/\BA g w w')\/(g'=w.heap.size/\Below w.heap.size w w'))->IntRow w' g' (n+m) cap'->wpList Tryz.prog ops Q rest (a.put o.dst (.slice (some ⟨g',0,none⟩) (n+m) cap')) w'):wpList Tryz.prog ops Q (o::rest) a w:=by
 refine wpList_plain hgd λK hK=>?_
 obtain⟨g',cap',w',hr,h2,h3⟩:=Iv w t o.type ht g n cap hrow da m c news hl hnews hn h63;unfold Oper.wp execOp;simp only[ho,resolve,invoke,builtin,Sem.run_bind,Sem.run_pure,Result.andThen_ok,List.map_toArray,List.map_cons,List.map_nil,hs,hx,hr];exact hK _ _ (h g' cap' w' h2 h3)
def SlAg(g x:Nat)(w:World)(ao:Option Addr)(R:List Ed):Prop:=R≠[]->∃b off,ao=some ⟨b,off,none⟩/\b<w.heap.size/\(b≠g/\b≠x)/\∀i r,R[i]?=some r->AcAt w b (off+i*8) r/\(r.1.ends≠[]->∃b' off',r.2.1=some ⟨b',off',none⟩/\b'<w.heap.size/\(b'≠g/\b'≠x)/\KS w b' off' r.1.ends)
section
variable {g g' x:Nat} {w w':World} {ao:Option Addr} {R:List Ed}
def OA(w:World)(g:Nat):Prop:=(∀o s,w.cell? ⟨g,o,none⟩≠some (.string s))/\∀o i j,w.cell? ⟨g,o,none⟩=some (.int .i64 i)->w.cell? ⟨g,o+1,none⟩≠some (.int .i64 j)
theorem SlAg.of(h:SlA w ao R)(hg:OA w g)(hx:OA w x):SlAg g x w ao R:=λhR=>by
 obtain⟨b,off,e,h1,h3⟩:=h hR;obtain⟨r0,hr0⟩:∃r,R[0]?=some r:=⟨R[0]'(List.length_pos_iff.2 hR),by simp⟩;refine⟨b,off,e,h1,⟨?_,?_⟩,λi r hr=>⟨(h3 i r hr).1,λhl=>?_⟩⟩
 ·rintro rfl
  exact hg.1 _ _ (h3 0 r0 hr0).1.1
 ·rintro rfl
  exact hx.1 _ _ (h3 0 r0 hr0).1.1
 ·obtain⟨b',off',e',q1,q2⟩:=(h3 i r hr).2 hl
  obtain⟨y,hy⟩:∃y,r.1.ends[0]?=some y:=⟨r.1.ends[0]'(List.length_pos_iff.2 hl),by simp⟩;refine⟨b',off',e',q1,⟨?_,?_⟩,q2⟩
  ·rintro rfl
   exact hg.2 _ _ _ (q2 0 y hy).1 (q2 0 y hy).2
  ·rintro rfl
   exact hx.2 _ _ _ (q2 0 y hy).1 (q2 0 y hy).2
theorem Lj{t:TypeId}(h:w.heap[g]?=some (.cells #[] t (0,0))):OA w g:=
 ⟨λo s hc=>by rw[cell_of_row w g o _ _ _ h]at hc;simp at hc,λo i j hc=>by rw[cell_of_row w g o _ _ _ h]at hc;simp at hc⟩
theorem noAct_w{ap:Option Addr}{n cp:Nat}{now:Int}{a1 a2 a3:Option Addr}{n1 n2 n3 c1 c2 c3:Nat}{fr:Nat × Nat}(h:w.heap[x]?=some (.cells #[.slice ap n cp,.int .i64 now,.slice a1 n1 c1,.slice a2 n2 c2,.slice a3 n3 c3] 84 fr)):OA w x:=by
 refine⟨λo s hc=>(D3 h).1 _ _ hc,λo i j hc hd=>?_⟩;rw[cell_of_row w x _ _ _ _ h]at hc hd;rcases o with _|_|_|_|_|o<;>first|(cases hc;done)|(cases hd;done)|simp at hc
theorem SlAg.keep(h:SlAg g x w ao R)(hs:w.heap.size<=w'.heap.size)(hg:∀b,b<w.heap.size->b≠g->b≠g')(hb:∀b o v,b<w.heap.size->b≠g->b≠x->w.cell? ⟨b,o,none⟩=some v->w'.cell? ⟨b,o,none⟩=some v):SlAg g' x w' ao R:=λhR=>by
 obtain⟨b,off,e,h1,⟨h2,h2'⟩,h3⟩:=h hR;have H:=λo v=>hb b o v h1 h2 h2'
 refine⟨b,off,e,by omega,⟨hg b h1 h2,h2'⟩,λi r hr=>⟨?_,λhl=>?_⟩⟩
 ·obtain⟨q0,q1,q2,q3,q4,q5,q6,q7⟩:=(h3 i r hr).1
  exact⟨H _ _ q0,H _ _ q1,H _ _ q2,H _ _ q3,H _ _ q4,H _ _ q5,H _ _ q6,H _ _ q7⟩
 ·obtain⟨b',off',e',q1,⟨q2,q2'⟩,q3⟩:=(h3 i r hr).2 hl
  exact⟨b',off',e',by omega,⟨hg b' q1 q2,q2'⟩,λj y hy=>⟨hb _ _ _ q1 q2 q2' (q3 j y hy).1,hb _ _ _ q1 q2 q2' (q3 j y hy).2⟩⟩
theorem SlAg.below(h:SlAg g x w ao R)(hb:Below w.heap.size w w'):SlAg g x w' ao R:=h.keep hb.size (λ_ _ h=>h) λb o v h1 _ _ hc=>by rw[hb.cell (p:=⟨b,o,none⟩) h1];exact hc
theorem SlAg.row(h:SlAg g x w ao R)(hr:(g'=g/\BA g w w')\/(g'=w.heap.size/\Below w.heap.size w w')):SlAg g' x w' ao R:=by
 rcases hr with⟨rfl,on⟩|⟨rfl,hb⟩
 ·exact h.keep (by rw[on.size];exact AG _) (λ_ _ h=>h) λb o v _ h2 _ hc=>by rw[World.cell?_of_block (w:=w) (on.other b h2)];exact hc
 ·exact h.keep hb.size (λb hb' _=>by omega) λb o v h1 _ _ hc=>by rw[hb.cell (p:=⟨b,o,none⟩) h1];exact hc
theorem SlAg.only (h:SlAg g x w ao R)(on:BA x w w'):SlAg g x w' ao R:=h.keep (by rw[on.size];exact AG _) (λ_ _ h=>h) λb o v _ _ h3 hc=>by rw[World.cell?_of_block (w:=w) (on.other b h3)];exact hc
end
end
end Go.Proofs.YtbceafpodamnfaaGreat
