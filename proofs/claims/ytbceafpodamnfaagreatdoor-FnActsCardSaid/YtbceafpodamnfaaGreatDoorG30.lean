import Derived.Test.YtbceafpodamnfaaGreatDoorG23
import Derived.Test.YtbceafpodamnfaaGreatDoorG24
set_option linter.all false
set_option maxHeartbeats 16000000
set_option maxRecDepth 100000
namespace Go.Proofs.YtbceafpodamnfaaGreatDoor
section
open Go.RowKit
def sv0:Svc:=⟨⟨#[]⟩,0,false,0,0,0,0,0,0,0,0,0,0⟩
def ev0:Ev:=⟨0,sv0,⟨#[]⟩,0,false⟩
structure Mv where
 st:Int
 bl:Int
 ev:Ev
def Mv.cells(m:Mv):Array Value:=#[.int .i64 m.st,.int .i64 m.bl,.int .i64 m.ev.kind,.string m.ev.aa.name,.int .i64 m.ev.aa.ag,.bool m.ev.aa.aH,.int .i64 m.ev.aa.ar,.int .i64 m.ev.aa.av,.int .i64 m.ev.aa.aG,.int .i64 m.ev.aa.aE,.int .i64 m.ev.aa.next,.int .i64 m.ev.aa.aM,.int .i64 m.ev.aa.aC,.int .i64 m.ev.aa.aK,.int .i64 m.ev.aa.load,.int .i64 m.ev.aa.ay,.string m.ev.name,.int .i64 m.ev.ai,.bool m.ev.bf]
def Mv.ok(m:Mv):Prop:=0<=m.st/\m.st<=6/\0<=m.bl/\m.bl<=9/\m.ev.aD
theorem age6:∀e∈[[Value.int .i64 0],[.int .i64 0],[.int .i64 1],[.int .i64 2],[.int .i64 5],[.int .i64 9]],∃k:Int,e=[.int .i64 k]/\0<=k/\k<=9:=λe F=>by
 simp only[dy,dH,eP]at F;rcases F with rfl|rfl|rfl|rfl|rfl|rfl<;>exact⟨_,rfl,by decide,by decide⟩
abbrev ctMove:Ct:=ctV (λp:BP=>[.complex .f64 0 0,p.v1]) (λp=>p.m1) (λp=>okBk p.B) λ_ v es=>es=[]/\∃m:Mv,v=.agg m.cells/\m.ok
theorem move_ct(r:Nat):B7 Tryz.prog (RDr r) 39 2100 ctMove:=by
 refine JM (Ρ:=[]) (AZ (EH r) (f:=90) (by kernel_rfl) (event_ct r)) (Gl r) 2100 (by decide) Tryz.func39 (by kernel_rfl) (.nil _) (by kernel_rfl) (λ_=>rfl) (λp p' h Y=>BP.cF (gz (gz h).2).1 Y) ?_;rintro⟨B,c1,c2,c3⟩ q H hq;refine cW (show q+1<=QM by omega) ?_;refine⟨0,5,rfl,rfl,⟨by decide,by decide⟩,λx _=>?_⟩;refine cW (λ_=>?_) (λ_=>?_)
 ·refine cW (show q+3<=QM by omega) ?_
  refine⟨0,6,rfl,rfl,⟨by decide,by decide⟩,λy M=>?_⟩;intro n W;refine⟨0,6,rfl,rfl,⟨by decide,by decide⟩,λz F=>?_⟩;have aa:=M.1;have Z:=M.2.1 (by decide);have W:n=1+y:=W ⟨by omega,by omega⟩;refine cW F.1 (cW (F.2.1 (by decide)) (cW (AG _) (cW (CO F 6 rfl (by decide)) (λel J=>?_))));obtain⟨k,rfl,k0,k9⟩:=age6 el (AE J);exact⟨.inl rfl,_,rfl,⟨⟨_,_,[],⟨rfl,⟨n,k,ev0⟩,rfl,by show 0<=n;omega,by show n<=6;omega,k0,k9,AI _,AI _⟩,rfl,trivial,rfl,rfl,trivial⟩,(show q+3<=q+2100 by omega),0,rfl⟩,rfl⟩
 ·refine cW (show q+2001<=QM by omega) ?_
  refine⟨⟨B,c1,c2,c3⟩,rfl,okBk.sp H,?_⟩;rintro _ _ ⟨rfl,k,s,nm,n,f,rfl,h1,h2,_⟩;exact⟨.inl rfl,_,rfl,⟨⟨_,_,[],⟨rfl,⟨0,0,⟨k,s,nm,n,f⟩⟩,rfl,fB 0,show(0:Int)<=6 by decide,fB 0,show(0:Int)<=9 by decide,h1,h2⟩,rfl,trivial,rfl,rfl,trivial⟩,(show q+2001<=q+2100 by omega),0,rfl⟩,rfl⟩
def MvIs(r:Nat)(q:Int)(w0:World)(e:Ending)(w':World):Prop:=∃m:Mv,e=.returned (.agg m.cells)/\m.ok/\Past r w0.heap.size w0 w'/\Rd r w' q
theorem Rd.pos{r:Nat}{w:World}{q:Int}(h:Rd r w q):0<=q:=let ⟨_,_,_,_,_,h2,h3,_⟩:=h;Int.le_trans h2 h3
theorem KK{B:Bk}(F:B.af.length<=1000/\B.ah.length<=1000/\B.ak.length<=1000)(H:B.aD):okBk B:=⟨F,H.2.2.2⟩
theorem move_any(r:Nat)(q:Int)(B:Bk)(a1 a2 a3:qO)(c1 c2 c3:Nat)(w:World)(Y:B.af.length<=1000/\B.ah.length<=1000/\B.ak.length<=1000)(hZ:B.aD)(J:BkAt w a1 a2 a3 B)(H:Rd r w q)(hq:q<=700000000000):
  Calls Tryz.prog 39 #[.pointer (qad r),.agg (qbV B a1 c1 a2 c2 a3 c3)] w λe w'=>MvIs r (q+2000010) w e w':=by
 have h0:=H.pos;have F:Rd r w (q.toNat:Int):=H.mono (by omega);have h:=QQ (move_ct r) ⟨B,c1,c2,c3⟩ (KK Y hZ) rfl F (show q.toNat+2100<=QM by unfold QM;omega) (RK F J);rw[show(List.map (r2 (ghR r w a1 a2 a3).α) [.complex .f64 0 0,BP.v1 ⟨B,c1,c2,c3⟩]).toArray=#[.pointer (qad r),.agg (qbV B a1 c1 a2 c2 a3 c3)] from by simp[BP.v1,ghR,r2,r1,r0,Addr.add]]at h;refine h.mono ?_;rintro e w' ⟨_,_,G',⟨rfl,m,rfl,W⟩,rfl,_,M,Z,_⟩;exact⟨m,by simp[Mv.cells,up2,up1,up0,r2,r1,r0],W,M,Z.mono (by omega)⟩
theorem Nh(r:Nat)(q:Int)(w:World)(F:Rd r w q)(W:q<=900000000000):
  Calls Tryz.prog 37 #[.pointer (qad r)] w λe w'=>∃s:Svc,e=.returned (.agg (qsV s))/\s.name.size<=10/\Past r w.heap.size w w'/\Rd r w' (q+100):=by
 have Y:=F.pos;refine(wish_bk r q.toNat w (F.mono (by omega)) (by unfold QM;omega)).mono ?_;rintro e w' ⟨s,rfl,H,J,M⟩;exact⟨s,rfl,H,J,M.mono (by omega)⟩
theorem Pq{B:Bk}{E:Ev}(F:Ag B=true)(H:Ag (AS B E).1=true):(AS B E).1.aO:=by
 unfold Ag at F;simp only[cY,dM]at F;obtain⟨J,M,W⟩:=MO B E;exact⟨by omega,by omega,by omega,(validB_iff.1 H).bJ⟩
theorem ok_sized{B:Bk}(h:okBk B):B.aD:=⟨AH h.1.1 (by decide),AH h.1.2.1 (by decide),AH h.1.2.2 (by decide),h.2⟩
theorem noBk_ok:noBk.aD/\noBk.aO:=⟨⟨AI _,AI _,AI _,(λ_ h=>by cases h),(λ_ h=>by cases h),(λ_ h=>by cases h)⟩,AI _,AI _,AI _,λ_ h=>by cases h⟩
theorem MP{B:Bk}{E:Ev}(F:B.aD)(H:B.aO)(J:E.aD):(Cb B E).1.aD/\(Cb B E).1.aO:=by
 unfold Cb;split
 ·rename_i hv
  split
  ·exact⟨F,H⟩
  ·split
   ·split
    ·rename_i hx
     exact⟨Jf hv F J,Pq hv hx⟩
    ·exact⟨F,H⟩
   ·exact⟨F,H⟩
 ·exact noBk_ok
def BkC(n:Nat)(w w':World)(v:Value):Prop:=∃(a1 a2 a3:qO) (c1 c2 c3:Nat) (B:Bk) (k:Int),v=.tuple #[.agg (qbV B a1 c1 a2 c2 a3 c3),.int .i64 k]/\BkAt w' a1 a2 a3 B/\B.aD/\B.aO/\Below n w w'
theorem sea_bk(B:Bk)(E:Ev)(a1 a2 a3:qO)(c1 c2 c3:Nat)(w:World)(H:B.aO)(J:B.aD)(F:E.aD)(Z:BkAt w a1 a2 a3 B):
  Calls Tryz.prog 110 #[.agg (qbV B a1 c1 a2 c2 a3 c3),.agg (qeV E)] w λe w'=>∃v,e=.returned v/\BkC w.heap.size w w' v:=
 (OM B E a1 a2 a3 c1 c2 c3 w H.aJ J F Z).mono λ_ _ ⟨x1,x2,M,p1,Y,p3,he,hb,W⟩=>⟨_,he,x1,x2,M,p1,Y,p3,_,_,rfl,hb,(MP J H F).1,(MP J H F).2,W⟩
theorem apply_bk(B:Bk)(A:Ac)(a1 a2 a3:qO)(c1 c2 c3:Nat)(ae:qO)(ce:Nat)(w:World)(F:B.aO)(H:B.aD)(Y:BkAt w a1 a2 a3 B)(hE:SlE w ae A.aw):
  Calls Tryz.prog 22 #[.agg (qbV B a1 c1 a2 c2 a3 c3),.agg (qaV A ae ce)] w λe w'=>∃v,e=.returned v/\BkC w.heap.size w w' v:=
 (Jd B A a1 a2 a3 c1 c2 c3 ae ce w (KK F.tn H) Y hE).mono λ_ _ ⟨x1,x2,J,d1,Z,W,he,hb,M⟩=>⟨_,he,x1,x2,J,d1,Z,W,_,_,rfl,hb,ok_sized (ans_ok A (KK F.tn H)),⟨(Ns A ⟨F.1,F.2.1,F.2.2.1⟩).1,(Ns A ⟨F.1,F.2.1,F.2.2.1⟩).2.1,(Ns A ⟨F.1,F.2.1,F.2.2.1⟩).2.2,ans_nums A F.2.2.2⟩,M⟩
theorem Ln:∀(R:List D9) (i:Nat) (r:D9) (j:Nat),R[i]?=some r->j<8->(D6 R)[i*8+j]?=(D7 r)[j]?
 |[],_,_,_,h,_=>by simp at h
 |x::R,0,r,j,h,F=>by
  simp at h;subst h;have e:D6 (x::R)=D7 x++D6 R:=by simp[D6]
  rw[e,dU (by show _<8;omega),iD,dJ]
 |x::R,i+1,r,j,h,F=>by
  have e:D6 (x::R)=D7 x++D6 R:=by simp[D6]
  have H:(D7 x).length=8:=rfl;rw[e,dX (by omega),H,show(i+1)*8+j - 8=i*8+j by omega];exact Ln R i r j (by simpa using h) F
theorem rowA_sl{w:World}{g cap lo:Nat}{R:List D9}(h:RowIs w 45 8 g R.length cap (D6 R))(M:∀r∈R,SlEn lo w r.2.1 r.2.2 r.1.aw):SlA w (qad g) R:=λ_=>
 ⟨g,0,rfl,h.lt,λi r H=>by
  have F:∀j,j<8->∀u,(D7 r)[j]?=some u->w.cell? ⟨g,0+i*8+j,none⟩=some u:=λj Y u J=>by
   rw[dJ];exact h.cell ((Ln R i r j H Y).trans J)
  refine⟨?_,λW=>?_⟩
  ·unfold AcAt
   exact⟨F 0 (by omega) _ rfl,F 1 (by omega) _ rfl,F 2 (by omega) _ rfl,F 3 (by omega) _ rfl,F 4 (by omega) _ rfl,F 5 (by omega) _ rfl,F 6 (by omega) _ rfl,F 7 (by omega) _ rfl⟩
  ·exact(M r (AE H)).sl W⟩
theorem Pp(kind:Int)(B:Bk)(a1 a2 a3:qO)(c1 c2 c3:Nat)(w:World)(M:B.aO)(Z:B.aD)(J:BkAt w a1 a2 a3 B):
  Calls Tryz.prog 27 #[.int .i64 kind,.agg (qbV B a1 c1 a2 c2 a3 c3)] w λe w'=>∃(ao:qO) (cap:Nat) (R:List D9),e=.returned (.slice ao R.length cap)/\R.length<=1000/\(∀r∈R,r.1.aw.length<=1000)/\SlA w' ao R/\Below w.heap.size w w':=
 (Km kind B a1 a2 a3 c1 c2 c3 w (KK M.tn Z) J).mono λ_ _ ⟨g,cap,R,he,⟨Y,h2⟩,_,H,F,hb⟩=>⟨some ⟨g,0,none⟩,cap,R,he,Y,(λr W=>(h2 r W).1),rowA_sl H F,hb⟩
end
section
open Go.RowKit Go.Sort
structure WA(w:World)(ap:qO)(l:List Bx)(a1 a2 a3:qO)(B:Bk):Prop where
 bN:WAt w ap l a1 a2 a3 B
 ok:WOk l B
 rt:RowT w ap l
section
variable {w w':World} {ap:qO} {l:List Bx} {a1 a2 a3:qO} {B:Bk}
theorem WA.below(h:WA w ap l a1 a2 a3 B)(hb:Below w.heap.size w w'):WA w' ap l a1 a2 a3 B:=⟨h.bN.below hb,h.ok,h.rt.below hb⟩
def NoStr(w:World)(x:Nat):Prop:=∀(o:Nat) (s:qB),w.cell? ⟨x,o,none⟩≠some (.string s)
def Qq(w:World)(x:Nat):Prop:=NoStr w x/\∃cs t fr,w.heap[x]?=some (.cells cs t fr)/\t≠28
theorem NoStr.cT{x b o:Nat}{s:qB}(h:NoStr w x)(F:w.cell? ⟨b,o,none⟩=some (.string s)):b≠x:=by
 rintro rfl;exact h _ _ F
theorem NoStr.of{x:Nat}{cs:Array Value}{t:TypeId}{fr:Nat × Nat}(h:w.heap[x]?=some (.cells cs t fr))(H:∀(j:Nat) (s:qB),cs[j]?≠some (.string s)):NoStr w x:=λo s F=>by
 rw[gH w x o _ _ _ h]at F;exact H _ _ F
theorem BkAt.ab{x:Nat}(h:BkAt w a1 a2 a3 B)(hx:NoStr w x)(on:A6 x w w'):BkAt w' a1 a2 a3 B:=by
 have Z:∀b,b≠x->∀o,w'.cell? ⟨b,o,none⟩=w.cell? ⟨b,o,none⟩:=λb hb o=>eF (w:=w) (on.aB b hb)
 refine⟨λY=>?_,λY=>?_,λY=>?_⟩
 ·obtain⟨b,off,e,F,H⟩:=h.1 Y
  refine⟨b,off,e,by rw[on.size];exact F,λi s W=>?_⟩;have M:=H i s W;have J:=hx.cT M.1;unfold SvcAt at *;simp only[Z b J];exact M
 ·obtain⟨b,off,e,F,H⟩:=h.2.1 Y
  refine⟨b,off,e,by rw[on.size];exact F,λi s W=>?_⟩;have M:=H i s W;have J:=hx.cT M.1;unfold CpAt at *;simp only[Z b J];exact M
 ·obtain⟨b,off,e,F,H⟩:=h.2.2 Y
  refine⟨b,off,e,by rw[on.size];exact F,λi s W=>?_⟩;have M:=H i s W;have J:=hx.cT M.1;unfold BtAt at *;simp only[Z b J];exact M
theorem WA.ab{x:Nat}(h:WA w ap l a1 a2 a3 B)(hx:Qq w x)(on:A6 x w w'):WA w' ap l a1 a2 a3 B:=by
 have M:l≠[]->∀b off,ap=some ⟨b,off,none⟩->b≠x:=λF b off e hb=>by
  subst hb;obtain⟨cs,fr,J⟩:=h.rt F b off e;obtain⟨_,ah,t,ag,H,h3⟩:=hx;rw[J]at H;injection H with H
  injection H with _ H
  exact h3 H.symm
 refine⟨⟨λF=>?_,λx' W=>(h.bN.bP x' W).ab hx.1 on,h.bN.bj.ab hx.1 on⟩,h.ok,λF b off e=>?_⟩
 ·obtain⟨b,off,e,Z,Y⟩:=h.bN.row F
  refine⟨b,off,e,by rw[on.size];exact Z,λi s hs=>?_⟩;have J:=Y i s hs;unfold BxAt at *;have hc:∀o,w'.cell? ⟨b,o,none⟩=w.cell? ⟨b,o,none⟩:=λo=>eF (w:=w) (on.aB b (M F b off e))
  simp only[hc];exact J
 ·obtain⟨cs,fr,J⟩:=h.rt F b off e
  exact⟨cs,fr,(on.aB b (M F b off e)).trans J⟩
end
theorem E7{w:World}{x:Nat}{ap:qO}{n cp:Nat}{aj:Int}{a1 a2 a3:qO}{n1 n2 n3 c1 c2 c3:Nat}{fr:Nat × Nat}(h:w.heap[x]?=some (.cells #[.slice ap n cp,.int .i64 aj,.slice a1 n1 c1,.slice a2 n2 c2,.slice a3 n3 c3] 30 fr)):Qq w x:=
 ⟨.of h λj s F=>by rcases j with _|_|_|_|_|j<;>first|cases F|simp at F,_,_,_,h,by decide⟩
theorem wis_iff{n:Nat}{w w':World}{v:Value}:WIs n w w' v↔∃(ap:qO) (l:List Bx) (cp:Nat) (a1 a2 a3:qO) (c1 c2 c3:Nat) (B:Bk),v=.agg (qwV ap l.length cp B a1 c1 a2 c2 a3 c3)/\WA w' ap l a1 a2 a3 B/\Below n w w':=
 ⟨λ⟨ap,l,cp,a1,a2,a3,c1,c2,c3,B,J,F,M,W,H⟩=>⟨ap,l,cp,a1,a2,a3,c1,c2,c3,B,J,⟨F,M,W⟩,H⟩,λ⟨ap,l,cp,a1,a2,a3,c1,c2,c3,B,J,F,H⟩=>⟨ap,l,cp,a1,a2,a3,c1,c2,c3,B,J,F.bN,F.ok,F.rt,H⟩⟩
theorem Kh(w:World)(A B C:Obj):∃F,((w.alloc A).alloc B).alloc C=F/\F.heap[w.heap.size]?=some A/\F.heap[w.heap.size+1]?=some B/\F.heap[w.heap.size+1+1]?=some C/\F.heap.size=w.heap.size+3/\Below w.heap.size w F:=by
 obtain⟨M,W,Y⟩:=B1 w A B;obtain⟨X,H⟩:∃X,(w.alloc A).alloc B=X:=⟨_,rfl⟩;rw[H]at M W Y;rw[H];have J:Below w.heap.size w X:=by rw[<-H];exact(AN w _).alloc (by show w.heap.size<=(w.heap.push _).size;simp) _
 have Z:(X.alloc C).heap.size=X.heap.size+1:=by show(X.heap.push _).size=_;simp
 refine⟨_,rfl,(gB X _ (by omega)).trans M,(gB X _ (by omega)).trans W,?_,by omega,J.alloc (by omega) _⟩;have:=dm X C
 rwa [Y]at this
def DoIs(w:World)(e:Ending)(w':World):Prop:=∃vw vs,e=.returned (.tuple #[vw,vs])/\WIs w.heap.size w w' vw
theorem do_sea(l:List Bx)(ap:qO)(cp:Nat)(B:Bk)(a1 a2 a3:qO)(c1 c2 c3:Nat)(m:Mv)(w:World)(b2:inB m.st 1 6=false)(hE:m.ev.aD)(hW:WA w ap l a1 a2 a3 B):
  Calls Tryz.prog 49 #[.agg (qwV ap l.length cp B a1 c1 a2 c2 a3 c3),.agg #[.int .i64 m.st,.int .i64 m.bl,.int .i64 m.ev.kind,.string m.ev.aa.name,.int .i64 m.ev.aa.ag,.bool m.ev.aa.aH,.int .i64 m.ev.aa.ar,.int .i64 m.ev.aa.av,.int .i64 m.ev.aa.aG,.int .i64 m.ev.aa.aE,.int .i64 m.ev.aa.next,.int .i64 m.ev.aa.aM,.int .i64 m.ev.aa.aC,.int .i64 m.ev.aa.aK,.int .i64 m.ev.aa.load,.int .i64 m.ev.aa.ay,.string m.ev.name,.int .i64 m.ev.ai,.bool m.ev.bf]] w λe w'=>DoIs w e w':=by
 have HW:Hid (WA w ap l a1 a2 a3 B):=hW;clear hW;obtain⟨W0,aF,t0,t1,t2,bM,aa⟩:=Kh w (.cells (qwV ap l.length cp B a1 c1 a2 c2 a3 c3) 30) (.cells #[.int .i64 m.st,.int .i64 m.bl,.int .i64 m.ev.kind,.string m.ev.aa.name,.int .i64 m.ev.aa.ag,.bool m.ev.aa.aH,.int .i64 m.ev.aa.ar,.int .i64 m.ev.aa.av,.int .i64 m.ev.aa.aG,.int .i64 m.ev.aa.aE,.int .i64 m.ev.aa.next,.int .i64 m.ev.aa.aM,.int .i64 m.ev.aa.aC,.int .i64 m.ev.aa.aK,.int .i64 m.ev.aa.load,.int .i64 m.ev.aa.ay,.string m.ev.name,.int .i64 m.ev.ai,.bool m.ev.bf] 38) (.cells #[.slice none 0 0,.int .i64 0,.slice none 0 0,.slice none 0 0,.slice none 0 0] 30);obtain⟨x,hx⟩:∃x,w.heap.size=x:=⟨_,rfl⟩;obtain⟨y,hy⟩:∃y,x+1=y:=⟨_,rfl⟩;obtain⟨f,hf⟩:∃f,y+1=f:=⟨_,rfl⟩;have T0:Hid _:=t0;have H:Hid _:=t1;have T2:Hid _:=t2;clear t0 t1 t2;go_enter Tryz.func49,Tryz.ntmps49
 go_upto_region 1 with fail
 rw[hx]at T0;rw[hx,hy]at H;rw[hx,hy,hf]at T2;clear aF;have m0:W0.cell? ⟨y,0,none⟩=some (.int .i64 m.st):=AJ H.O 0 rfl
 go_upto_region 2 with(go_at_call 63;refine(Cd _ _ _ _).mono ?_;rintro e F ⟨rfl,rfl⟩)
 clear m0;have m2:F.cell? ⟨y,2,none⟩=some (.int .i64 m.ev.kind):=AJ H.O 2 rfl;have m3:F.cell? ⟨y,3,none⟩=some (.string m.ev.aa.name):=AJ H.O 3 rfl;have m4:F.cell? ⟨y,4,none⟩=some (.int .i64 m.ev.aa.ag):=AJ H.O 4 rfl;have m5:F.cell? ⟨y,5,none⟩=some (.bool m.ev.aa.aH):=AJ H.O 5 rfl;have m6:F.cell? ⟨y,6,none⟩=some (.int .i64 m.ev.aa.ar):=AJ H.O 6 rfl;have m7:F.cell? ⟨y,7,none⟩=some (.int .i64 m.ev.aa.av):=AJ H.O 7 rfl;have m8:F.cell? ⟨y,8,none⟩=some (.int .i64 m.ev.aa.aG):=AJ H.O 8 rfl;have m9:F.cell? ⟨y,9,none⟩=some (.int .i64 m.ev.aa.aE):=AJ H.O 9 rfl;have aW:F.cell? ⟨y,10,none⟩=some (.int .i64 m.ev.aa.next):=AJ H.O 10 rfl;have az:F.cell? ⟨y,11,none⟩=some (.int .i64 m.ev.aa.aM):=AJ H.O 11 rfl;have ay:F.cell? ⟨y,12,none⟩=some (.int .i64 m.ev.aa.aC):=AJ H.O 12 rfl;have aC:F.cell? ⟨y,13,none⟩=some (.int .i64 m.ev.aa.aK):=AJ H.O 13 rfl;have aG:F.cell? ⟨y,14,none⟩=some (.int .i64 m.ev.aa.load):=AJ H.O 14 rfl;have aL:F.cell? ⟨y,15,none⟩=some (.int .i64 m.ev.aa.ay):=AJ H.O 15 rfl;have a5:F.cell? ⟨y,16,none⟩=some (.string m.ev.name):=AJ H.O 16 rfl;have aI:F.cell? ⟨y,17,none⟩=some (.int .i64 m.ev.ai):=AJ H.O 17 rfl;have aE:F.cell? ⟨y,18,none⟩=some (.bool m.ev.bf):=AJ H.O 18 rfl;have e1:F.cell? ⟨x,1,none⟩=some (.int .i64 B.aj):=AJ T0.O 1 rfl;have e2:F.cell? ⟨x,2,none⟩=some (.slice a1 B.af.length c1):=AJ T0.O 2 rfl
 have e3:F.cell? ⟨x,3,none⟩=some (.slice a2 B.ah.length c2):=AJ T0.O 3 rfl;have e4:F.cell? ⟨x,4,none⟩=some (.slice a3 B.ak.length c3):=AJ T0.O 4 rfl
 go_upto_region 3 with(go_at_call 110;refine(sea_bk B m.ev a1 a2 a3 c1 c2 c3 _ HW.O.ok.bs HW.O.ok.bz hE (HW.O.bN.bj.below aa)).mono ?_;rintro e Z ⟨v,rfl,x1,x2,x3,y1,y2,y3,C,kc,rfl,hC,a6,aK,Y⟩)
 have C1:Hid (BkAt Z x1 x2 x3 C):=hC;have am:Below w.heap.size w Z:=aa.trans (Y.mono aa.size);have U0:Hid _:=AK Y T0.O (by omega);have U2:Hid _:=AK Y T2.O (by omega);have bX:=Y.size;obtain⟨W2,W⟩:∃W2,Z.alloc (.cells (qbV C x1 y1 x2 y2 x3 y3) 28)=W2:=⟨_,rfl⟩;have V0:Hid (qBl W2 x (qwV ap l.length cp B a1 c1 a2 c2 a3 c3) 30):=by unfold Hid;rw[<-W];exact(gB Z _ (by omega)).trans U0.O
 have V2:Hid (qBl W2 f #[.slice none 0 0,.int .i64 0,.slice none 0 0,.slice none 0 0,.slice none 0 0] 30):=by unfold Hid;rw[<-W];exact(gB Z _ (by omega)).trans U2.O
 have V3:Hid (qBl W2 (Z.heap.size) (qbV C x1 y1 x2 y2 x3 y3) 28):=by unfold Hid;rw[<-W];exact dm Z _
 have ai:Below Z.heap.size Z W2:=by rw[<-W];exact AN _ _
 have J:Below w.heap.size w W2:=am.trans (ai.mono am.size);have bY:=ai.size;rw[W];clear e1 e2 e3 e4 T0 H T2 U0 U2 hC Y W m2 m3 m4 m5 m6 m7 m8 m9 aW az ay aC aG aL a5 aI aE
 go_wp2_with (first
  |((with_reducible show wpList _ _ _ _ _ _);refine dD rfl 30 (.tmp 2) rfl x rfl 30 (qwV ap l.length cp B a1 c1 a2 c2 a3 c3) (0,0) _ V0.O Tryz.underlying30 rfl AO ?_)
  |((with_reducible show wpList _ _ _ _ _ _);refine dD rfl 28 (.tmp 6) rfl Z.heap.size rfl 28 (qbV C x1 y1 x2 y2 x3 y3) (0,0) _ V3.O Tryz.underlying28 rfl AU ?_)
  |(go_at_call 111;refine(Ok l ap cp B C a1 a2 a3 x1 x2 x3 c1 c2 c3 y1 y2 y3 _ HW.O.ok a6 aK (HW.O.bN.below J) (HW.O.rt.below J) (C1.O.below ai)).mono ?_;rintro e w3 ⟨v,rfl,hv⟩;obtain⟨aq,M,cq,z1,z2,z3,d1,d2,d3,D,rfl,hA,af⟩:=wis_iff.1 hv;have V4:Hid _:=AK af V2.O (by omega);have HA:Hid _:=hA;have b3:=af.size;clear hv hA)
  |((with_reducible show wpList _ _ _ _ _ _);refine AM rfl 30 (.tmp 4) (.tmp 27) rfl f 0 (qwV aq M.length cq D z1 d1 z2 d2 z3 d3) rfl rfl 30 #[.slice none 0 0,.int .i64 0,.slice none 0 0,.slice none 0 0,.slice none 0 0] ((gB w3 _ (by omega)).trans V4.O) AO (AD rfl) (by simp[Value.oneCell']) ?_;intro wz hz on;simp only[Act.put]))
 have h4:Below w3.heap.size w3 (w3.alloc _):=AN w3 (.cells #[.int .i64 kc] 3);have aT:=(gB w3 (.cells #[.int .i64 kc] 3) (show f<w3.heap.size by omega)).trans V4.O;refine dS (v:=.tuple #[.agg (qwV aq M.length cq D z1 d1 z2 d2 z3 d3),_]) (BZ rfl _ wz f _ _ _ _ rfl hz.O Tryz.underlying30 rfl AO _ rfl) rfl ?_;refine⟨_,_,rfl,wis_iff.2 ⟨aq,M,cq,z1,z2,z3,d1,d2,d3,D,rfl,(HA.O.below h4).ab (E7 aT) on,?_⟩⟩;exact(J.trans (af.mono J.size)).trans ((h4.mono (by omega)).trans (on.below.mono (by omega)))
def IntRow(w:World)(g n cap:Nat):Prop:=n<=cap/\∃cur:Array Value,qBl w g cur 3/\cur.size=cap/\∀u∈cur.toList,∃k,u=.int .i64 k
theorem IntRow.aR{w w':World}{g n cap:Nat}(h:IntRow w g n cap)(hb:w'.heap[g]?=w.heap[g]?):IntRow w' g n cap:=let ⟨h1,cur,h2,h3⟩:=h;⟨h1,cur,hb.trans h2,h3⟩
theorem IntRow.lt{w:World}{g n cap:Nat}(h:IntRow w g n cap):g<w.heap.size:=let ⟨_,_,h2,_⟩:=h;(AB h2).1
theorem IntRow.below{w w':World}{g n cap:Nat}(h:IntRow w g n cap)(hb:Below w.heap.size w w'):IntRow w' g n cap:=h.aR (hb.block g h.lt)
theorem IntRow.bare{w:World}{g n cap:Nat}(h:IntRow w g n cap):Qq w g:=by
 obtain⟨_,F,H,_,J⟩:=h;refine⟨.of H λj s M=>?_,F,_,_,H,by decide⟩;obtain⟨k,hk⟩:=J _ (AE (l:=F.toList) (i:=j) (by simpa using M));cases hk
theorem IntRow.cell{w:World}{g n cap i:Nat}(h:IntRow w g n cap)(W:i<n):∃k,w.cell? ⟨g,i,none⟩=some (.int .i64 k):=by
 obtain⟨M,F,H,Y,J⟩:=h;obtain⟨k,hk⟩:=J F[i] (by simp);exact⟨k,AJ H i (by rw[<-hk];simp)⟩
theorem IntRow.new(w:World):IntRow (w.alloc (.cells #[] 3)) w.heap.size 0 0:=⟨AG _,#[],dm w _,rfl,λu h=>by cases h⟩
theorem N3:(Tryz.prog.info? 3).map (λi=>(i.zero,i.size,i.bytes))=some (some (.int .i64 0),1,8):=by kernel_rfl
theorem Ks(w:World)(t ty:TypeId)(ht:Tryz.prog.underlying t=some (.slice 3))(g n cap:Nat)(ag:IntRow w g n cap)(da:Addr)(m c:Nat)(F:qL)(hl:F.length=m)(W:∀j u,F[j]?=some u->w.cell? (da.add j)=some u)(hn:∀u∈F,∃k,u=.int .i64 k)(aw:n+m<=1000000):
  ∃g' Z w',(Builtin.append_ #[t,t] ty #[.slice (qad g) n cap,.slice (some da) m c]).run Tryz.prog w=.ok (.slice (qad g') (n+m) Z) w'/\((g'=g/\A6 g w w')\/(g'=w.heap.size/\Below w.heap.size w w'))/\IntRow w' g' (n+m) Z:=by
 obtain⟨i,hi,hz,hs,hb⟩:=gA N3;obtain⟨ay,H,hg,am,Y⟩:=ag;have h1:∀u∈F,u.oneCell'=true:=λu M=>by obtain⟨k,rfl⟩:=hn u M;rfl
 have af:F.length=m*i.size:=by rw[hs,hl,ja]
 by_cases J:n+m<=cap
 ·have hr:=iV (P:=Tryz.prog) w t ty 3 i ht hi g n cap H hg da m c F af W h1 J (by rw[hs,ja,hl,am];exact J)
  rw[hs,ja]at hr;refine⟨g,cap,_,hr,.inl ⟨rfl,DU w g _⟩,J,_,gl w g H _ 3 _ hg,?_,?_⟩
  ·simp only[ek,dE,dG,dW,dT]
   omega
  ·intro u M
   have M:u∈H.toList.take n++(F++H.toList.drop (n+F.length)):=by simpa [eB] using M
   rcases dt.1 M with h|h
   ·exact Y u (eE h)
   ·rcases dt.1 h with h|h
    ·exact hn u h
    ·exact Y u (ep h)
 ·have hx:(H.toList.take n).length=n*i.size:=by rw[hs,ja,dG,dT];omega
  have aa:∀j u,(H.toList.take n)[j]?=some u->w.cell? ((⟨g,0,none⟩:Addr).add j)=some u:=λj u M=>by
   rw[fJ,dJ];refine AJ hg j ?_;rw[eK]at M;split at M
   ·simpa using M
   ·cases M
  have hr:=run_append_grow (P:=Tryz.prog) w t ty 3 i _ ht hi hz ⟨g,0,none⟩ n cap (H.toList.take n) hx aa da m c F af W (by omega) (by omega) (i7 (by omega) (by rw[hb];omega));have an:=grownCap_ge w (n+m) cap 3;refine⟨w.heap.size,_,_,hr,.inr ⟨rfl,⟨rfl,rfl,rfl,by simp,λk hk=>by show(w.heap.push _)[k]?=_;rw[dk,dC (by omega)]⟩⟩,an,_,dm w.drew _,?_,?_⟩
  ·simp only[iG,ek,dE,hx,af,hs,ja,iF]
   show n+m+(_ - (n+m))*1=_;omega
  ·intro u M
   rw[ip]at M;rcases dt.1 M with h|h
   ·rcases dt.1 (by simpa using h) with h|h
    ·exact Y u (eE h)
    ·exact hn u h
   ·unfold Builtin.zeroCells at h
    rw[eJ]at h;obtain⟨j,_,rfl⟩:=fz.1 h;exact⟨0,by show(#[Value.int .i64 0]:Array Value)[j%1]! =_;rw[Nat.mod_one];rfl⟩
theorem Cw{ops:Array Oper}{rest:List Oper}{o:Oper}{a:Act}{w:World}{Q:Exit->Act->World->Prop}(Y:o.guard=none)(s x:Operand)(t:TypeId)
  (ho:o.op=.call {callee:=.builtin .append,args:=#[s,x],argTypes:=#[t,t]}) (ht:Tryz.prog.underlying t=some (.slice 3))
  (g n cap:Nat) (hs:a.eval s=.slice (qad g) n cap) (M:IntRow w g n cap) (Z:Addr) (m c:Nat) (F:qL) (hx:a.eval x=.slice (some Z) m c) (hl:F.length=m) (J:∀j u,F[j]?=some u->w.cell? (Z.add j)=some u) (hn:∀u∈F,∃k,u=.int .i64 k) (W:n+m<=1000000)
  (h:∀g' H w',((g'=g/\A6 g w w')\/(g'=w.heap.size/\Below w.heap.size w w'))->IntRow w' g' (n+m) H->wpList Tryz.prog ops Q rest (a.put o.dst (.slice (qad g') (n+m) H)) w'):wpList Tryz.prog ops Q (o::rest) a w:=by
 refine fA Y λK hK=>?_
 obtain⟨g',H,w',hr,h2,h3⟩:=Ks w t o.type ht g n cap M Z m c F hl J hn W;unfold Oper.wp execOp;simp only[ho,resolve,invoke,builtin,ew,Sem.run_pure,Result.andThen_ok,fx,dz,dP,hs,hx,hr];exact hK _ _ (h g' H w' h2 h3)
def SlAg(g x:Nat)(w:World)(ao:qO)(R:List D9):Prop:=R≠[]->∃b off,ao=some ⟨b,off,none⟩/\b<w.heap.size/\(b≠g/\b≠x)/\∀i r,R[i]?=some r->AcAt w b (off+i*8) r/\(r.1.aw≠[]->∃b' off',r.2.1=some ⟨b',off',none⟩/\b'<w.heap.size/\(b'≠g/\b'≠x)/\EnsAt w b' off' r.1.aw)
section
variable {g g' x:Nat} {w w':World} {ao:qO} {R:List D9}
def Rm(w:World)(g:Nat):Prop:=(∀o s,w.cell? ⟨g,o,none⟩≠some (.string s))/\∀o i j,w.cell? ⟨g,o,none⟩=some (.int .i64 i)->w.cell? ⟨g,o+1,none⟩≠some (.int .i64 j)
theorem SlAg.of(h:SlA w ao R)(Z:Rm w g)(hx:Rm w x):SlAg g x w ao R:=λhR=>by
 obtain⟨b,off,e,h1,W⟩:=h hR;obtain⟨r0,J⟩:∃r,R[0]?=some r:=⟨R[0]'(iW.2 hR),by simp⟩;refine⟨b,off,e,h1,⟨?_,?_⟩,λi r hr=>⟨(W i r hr).1,λY=>?_⟩⟩
 ·rintro rfl
  exact Z.1 _ _ (W 0 r0 J).1.1
 ·rintro rfl
  exact hx.1 _ _ (W 0 r0 J).1.1
 ·obtain⟨b',H,e',q1,F⟩:=(W i r hr).2 Y
  obtain⟨y,M⟩:∃y,r.1.aw[0]?=some y:=⟨r.1.aw[0]'(iW.2 Y),by simp⟩;refine⟨b',H,e',q1,⟨?_,?_⟩,F⟩
  ·rintro rfl
   exact Z.2 _ _ _ (F 0 y M).1 (F 0 y M).2
  ·rintro rfl
   exact hx.2 _ _ _ (F 0 y M).1 (F 0 y M).2
theorem Oi{t:TypeId}(h:w.heap[g]?=some (.cells #[] t (0,0))):Rm w g:=
 ⟨λo s F=>by rw[gH w g o _ _ _ h]at F;simp at F,λo i j F=>by rw[gH w g o _ _ _ h]at F;simp at F⟩
theorem noAct_w{ap:qO}{n cp:Nat}{aj:Int}{a1 a2 a3:qO}{n1 n2 n3 c1 c2 c3:Nat}{fr:Nat × Nat}(h:w.heap[x]?=some (.cells #[.slice ap n cp,.int .i64 aj,.slice a1 n1 c1,.slice a2 n2 c2,.slice a3 n3 c3] 30 fr)):Rm w x:=by
 refine⟨λo s F=>(E7 h).1 _ _ F,λo i j F H=>?_⟩;rw[gH w x _ _ _ _ h]at F H;rcases o with _|_|_|_|_|o<;>first|(cases F;done)|(cases H;done)|simp at F
theorem SlAg.aZ(h:SlAg g x w ao R)(hs:w.heap.size<=w'.heap.size)(hg:∀b,b<w.heap.size->b≠g->b≠g')(hb:∀b o v,b<w.heap.size->b≠g->b≠x->w.cell? ⟨b,o,none⟩=some v->w'.cell? ⟨b,o,none⟩=some v):SlAg g' x w' ao R:=λhR=>by
 obtain⟨b,off,e,h1,⟨h2,J⟩,h3⟩:=h hR;have H:=λo v=>hb b o v h1 h2 J
 refine⟨b,off,e,by omega,⟨hg b h1 h2,J⟩,λi r hr=>⟨?_,λhl=>?_⟩⟩
 ·obtain⟨q0,M,Y,Z,q4,q5,q6,q7⟩:=(h3 i r hr).1
  exact⟨H _ _ q0,H _ _ M,H _ _ Y,H _ _ Z,H _ _ q4,H _ _ q5,H _ _ q6,H _ _ q7⟩
 ·obtain⟨b',W,e',M,⟨Y,F⟩,Z⟩:=(h3 i r hr).2 hl
  exact⟨b',W,e',by omega,⟨hg b' M Y,F⟩,λj y hy=>⟨hb _ _ _ M Y F (Z j y hy).1,hb _ _ _ M Y F (Z j y hy).2⟩⟩
theorem SlAg.below(h:SlAg g x w ao R)(hb:Below w.heap.size w w'):SlAg g x w' ao R:=h.aZ hb.size (λ_ _ h=>h) λb o v H _ _ F=>by rw[hb.cell (p:=⟨b,o,none⟩) H];exact F
theorem SlAg.row(h:SlAg g x w ao R)(W:(g'=g/\A6 g w w')\/(g'=w.heap.size/\Below w.heap.size w w')):SlAg g' x w' ao R:=by
 rcases W with⟨rfl,on⟩|⟨rfl,hb⟩
 ·exact h.aZ (by rw[on.size];exact AG _) (λ_ _ h=>h) λb o v _ J _ F=>by rw[eF (w:=w) (on.aB b J)];exact F
 ·exact h.aZ hb.size (λb M _=>by omega) λb o v H _ _ F=>by rw[hb.cell (p:=⟨b,o,none⟩) H];exact F
theorem SlAg.ab (h:SlAg g x w ao R)(on:A6 x w w'):SlAg g x w' ao R:=h.aZ (by rw[on.size];exact AG _) (λ_ _ h=>h) λb o v _ _ H F=>by rw[eF (w:=w) (on.aB b H)];exact F
end
structure DoU(n x f:Nat)(ao:qO)(R:List D9)(w:World)(k g cap:Nat)(wr:World):Prop where
 row:IntRow wr g k cap
 gx:n<=g
 wx:∃(ap:qO) (l:List Bx) (cp:Nat) (a1 a2 a3:qO) (c1 c2 c3:Nat) (B:Bk),qBl wr x (qwV ap l.length cp B a1 c1 a2 c2 a3 c3) 30/\WA wr ap l a1 a2 a3 B
 vf:qBl wr f #[.slice none 0 0,.int .i64 0,.slice none 0 0,.slice none 0 0,.slice none 0 0] 30
 ci:SlAg g x wr ao R
 below:Below w.heap.size w wr
section
variable {n x f k g g' cap cap':Nat} {ao:qO} {R:List D9} {w wr w' w'':World}
theorem DoU.aX(h:DoU n x f ao R w k g cap wr)(hb:Below wr.heap.size wr w'):DoU n x f ao R w k g cap w':=by
 obtain⟨ap,l,cp,a1,a2,a3,c1,c2,c3,B,F,H⟩:=h.wx;exact⟨h.row.below hb,h.gx,⟨ap,l,cp,a1,a2,a3,c1,c2,c3,B,AK hb F (AB F).1,H.below hb⟩,AK hb h.vf (AB h.vf).1,h.ci.below hb,h.below.trans (hb.mono h.below.size)⟩
theorem DoU.bD(h:DoU n x f ao R w k g cap wr)(M:(g'=g/\A6 g wr w')\/(g'=wr.heap.size/\Below wr.heap.size wr w'))(H:IntRow w' g' (k+1) cap')(hx:x<n)(hf:f<n)(Y:n<=wr.heap.size)(Z:w.heap.size<=x):DoU n x f ao R w (k+1) g' cap' w':=by
 have J:=h.gx;rcases M with⟨rfl,on⟩|⟨rfl,hb⟩
 ·obtain⟨ap,l,cp,a1,a2,a3,c1,c2,c3,B,W,F⟩:=h.wx
  exact⟨H,J,⟨ap,l,cp,a1,a2,a3,c1,c2,c3,B,(on.aB x (by omega)).trans W,F.ab h.row.bare on⟩,(on.aB f (by omega)).trans h.vf,h.ci.row (.inl ⟨rfl,on⟩),h.below.trans (on.below.mono (by omega))⟩
 ·have F:=h.aX hb
  exact⟨H,Y,F.wx,F.vf,h.ci.row (.inr ⟨rfl,hb⟩),F.below⟩
theorem DoU.put(h:DoU n x f ao R w k g cap wr)(on:A6 x wr w'){ap:qO}{l:List Bx}{cp:Nat}{a1 a2 a3:qO}{c1 c2 c3:Nat}{B:Bk}(H:qBl w' x (qwV ap l.length cp B a1 c1 a2 c2 a3 c3) 30)(M:WA wr ap l a1 a2 a3 B)(hx:x<n)(hf:x<f)(F:w.heap.size<=x):DoU n x f ao R w k g cap w':=by
 have Z:=h.gx;obtain⟨aa,l',J,ak,W,ag,Y,af,ai,B',h1,_⟩:=h.wx;exact⟨h.row.aR (on.aB g (by omega)),Z,⟨ap,l,cp,a1,a2,a3,c1,c2,c3,B,H,M.ab (E7 h1) on⟩,(on.aB f (by omega)).trans h.vf,h.ci.ab on,h.below.trans (on.below.mono F)⟩
end
theorem Oh{w:World}{g:Nat}{fr:Nat × Nat}(h:w.heap[g]?=some (.cells qzV 28 fr)):NoStr w g:=
 .of h λj s F=>by rcases j with _|_|_|_|j<;>first|cases F|simp at F
theorem RN{w:World}{b:Nat}{k:Int}{fr:Nat × Nat}(h:w.heap[b]?=some (.cells #[.int .i64 k] 3 fr)):∀j u,([.int .i64 k]:qL)[j]?=some u->w.cell? ((⟨b,0,none⟩:Addr).add j)=some u:=FX h
theorem do_ask(l:List Bx)(ap:qO)(cp:Nat)(B:Bk)(a1 a2 a3:qO)(c1 c2 c3:Nat)(m:Mv)(w:World)(e7:inB m.st 1 6=true)(cd:0<=m.bl)(cB:m.bl<=1000)(hW:WA w ap l a1 a2 a3 B):
  Calls Tryz.prog 49 #[.agg (qwV ap l.length cp B a1 c1 a2 c2 a3 c3),.agg #[.int .i64 m.st,.int .i64 m.bl,.int .i64 m.ev.kind,.string m.ev.aa.name,.int .i64 m.ev.aa.ag,.bool m.ev.aa.aH,.int .i64 m.ev.aa.ar,.int .i64 m.ev.aa.av,.int .i64 m.ev.aa.aG,.int .i64 m.ev.aa.aE,.int .i64 m.ev.aa.next,.int .i64 m.ev.aa.aM,.int .i64 m.ev.aa.aC,.int .i64 m.ev.aa.aK,.int .i64 m.ev.aa.load,.int .i64 m.ev.aa.ay,.string m.ev.name,.int .i64 m.ev.ai,.bool m.ev.bf]] w λe w'=>DoIs w e w':=by
 have HW:Hid (WA w ap l a1 a2 a3 B):=hW;clear hW;obtain⟨W0,cg,t0,t1,t2,bb,au⟩:=Kh w (.cells (qwV ap l.length cp B a1 c1 a2 c2 a3 c3) 30) (.cells #[.int .i64 m.st,.int .i64 m.bl,.int .i64 m.ev.kind,.string m.ev.aa.name,.int .i64 m.ev.aa.ag,.bool m.ev.aa.aH,.int .i64 m.ev.aa.ar,.int .i64 m.ev.aa.av,.int .i64 m.ev.aa.aG,.int .i64 m.ev.aa.aE,.int .i64 m.ev.aa.next,.int .i64 m.ev.aa.aM,.int .i64 m.ev.aa.aC,.int .i64 m.ev.aa.aK,.int .i64 m.ev.aa.load,.int .i64 m.ev.aa.ay,.string m.ev.name,.int .i64 m.ev.ai,.bool m.ev.bf] 38) (.cells #[.slice none 0 0,.int .i64 0,.slice none 0 0,.slice none 0 0,.slice none 0 0] 30);obtain⟨x,hx⟩:∃x,w.heap.size=x:=⟨_,rfl⟩;obtain⟨y,hy⟩:∃y,x+1=y:=⟨_,rfl⟩;obtain⟨f,hf⟩:∃f,y+1=f:=⟨_,rfl⟩;have T0:Hid _:=t0;have T1:Hid _:=t1;have T2:Hid _:=t2;have cr:Hid _:=bb;clear t0 t1 t2 bb;go_enter Tryz.func49,Tryz.ntmps49
 go_upto_region 1 with fail
 rw[hx]at T0;rw[hx,hy]at T1;rw[hx,hy,hf]at T2;clear cg;have m0:W0.cell? ⟨y,0,none⟩=some (.int .i64 m.st):=AJ T1.O 0 rfl
 go_upto_region 4 with(go_at_call 63;refine(Cd _ _ _ _).mono ?_;rintro e W1 ⟨rfl,rfl⟩)
 clear m0
 go_upto_region 5 with fail
 obtain⟨W2,aT⟩:∃W2,W1.alloc (.cells #[] 3)=W2:=⟨_,rfl⟩;rw[aT];have az:Below W1.heap.size W1 W2:=by rw[<-aT];exact AN _ _
 have G0:Hid (qBl W2 (W1.heap.size) #[] 3):=by unfold Hid;rw[<-aT];exact dm W1 _
 obtain⟨g0,a6⟩:∃g0,W1.heap.size=g0:=⟨_,rfl⟩;rw[a6]at G0;rw[a6];have bb:=cr.O;have au:=au.trans (az.mono au.size);have T0:Hid _:=AK az T0.O (by omega);have T1:Hid _:=AK az T1.O (by omega);have T2:Hid _:=AK az T2.O (by omega);have e5:=az.size;clear aT az;refine AV 7 (by kernel_rfl) (by kernel_rfl) ?_;apply AL
 ·intro V W K A hW Z F hK
  simp only[pA]at F;clear Z;obtain rfl:=F;go_wp2;exact hK.O _ brf
 apply AL
 ·intro V W K A hW Z F hK
  have d0:V 0=_:=Z 0 (by kernel_rfl);simp only[pA,d0,d0]at F;clear Z d0;obtain rfl:=F;have z0:W.cell? ⟨y,0,none⟩=some (.int .i64 m.st):=AJ (AK hW T1.O (by omega)) 0 rfl;go_wp2;exact hK.O _ brf
 apply AL
 ·intro V W K A hW Z F hK
  simp only[pA]at F;clear Z;obtain rfl:=F;refine dD rfl 30 (.tmp 2) rfl x rfl 30 (qwV ap l.length cp B a1 c1 a2 c2 a3 c3) (0,0) _ (AK hW T0.O (by omega)) Tryz.underlying30 rfl AO ?_;go_wp2;exact hK.O _ brf
 apply AL
 ·intro V W K A hW Z F hK
  simp only[pA]at F;clear Z;obtain rfl:=F;go_wp2;exact hK.O _ brf
 apply AL
 ·intro V W K A hW Z F hK
  have d3:V 3=_:=Z 3 (by kernel_rfl);simp only[pA,d3,d3]at F;clear Z d3;obtain rfl:=F;have z1:W.cell? ⟨y,1,none⟩=some (.int .i64 m.bl):=AJ (AK hW T1.O (by omega)) 1 rfl;go_wp2;exact hK.O _ brf
 refine AW (λv W=>∃(J H Y:qO) (y1 y2 y3:Nat) (C:Bk),v=.agg (qbV C J y1 H y2 Y y3)/\BkAt W J H Y C/\C.aD/\C.aO) (λ_ _ _ ⟨a1,a2,a3,c1,c2,c3,C,h1,h2,h3⟩ hb=>⟨a1,a2,a3,c1,c2,c3,C,h1,h2.below hb,h3⟩) ?_ ?_
 ·intro V W K A hW Z F hK
  have d2:V 2=_:=Z 2 (by kernel_rfl);have d4:V 4=_:=Z 4 (by kernel_rfl);simp only[pA,d2,d4,d2,d4]at F;clear Z d2 d4;obtain rfl:=F
  go_wp2_with fail
  refine(OA l ap cp B a1 a2 a3 c1 c2 c3 m.bl W cd cB HW.O.ok ((HW.O.bN.below au).below hW)).mono ?_;rintro e w2 ⟨v,rfl,J,H,Y,y1,y2,y3,C,rfl,h1,h2,h3,h4⟩;go_wp2;exact hK.O _ _ h4 ⟨J,H,Y,y1,y2,y3,C,rfl,h1,h2,h3⟩
 refine AW (λv W=>∃(ao:qO) (cap:Nat) (R:List D9),v=.slice ao R.length cap/\SlA W ao R/\R.length<=1000/\∀r∈R,r.1.aw.length<=1000) (λ_ _ _ ⟨ao,cap,R,h1,h2,h3⟩ hb=>⟨ao,cap,R,h1,h2.below hb,h3⟩) ?_ ?_
 ·intro V W K A hW Z F hK
  have d1:V 1=_:=Z 1 (by kernel_rfl);have d5:(λv W=>∃(J H Y:qO) (y1 y2 y3:Nat) (C:Bk),v=.agg (qbV C J y1 H y2 Y y3)/\BkAt W J H Y C/\C.aD/\C.aO) (V 5) W:=Z 5 (by kernel_rfl);simp only[pA,d1,d1]at F;clear Z d1;generalize V 5=x5 at d5 F;obtain rfl:=F;obtain⟨J,H,Y,y1,y2,y3,C,rfl,h1,h2,h3⟩:=d5
  go_wp2_with fail
  refine(Pp m.st C J H Y y1 y2 y3 W h3 h2 h1).mono ?_;rintro e w2 ⟨ao,cap,R,rfl,bZ,aL,F,hb⟩;go_wp2;exact hK.O _ _ hb ⟨ao,cap,R,rfl,F,bZ,aL⟩
 intro V W A hW hS F;have d0:V 0=_:=hS 0 (by omega);have d1:V 1=_:=hS 1 (by omega);have d2:V 2=_:=hS 2 (by omega);have d3:V 3=_:=hS 3 (by omega);have d4:V 4=_:=hS 4 (by omega);have d5:(λv W=>∃(J H Y:qO) (y1 y2 y3:Nat) (C:Bk),v=.agg (qbV C J y1 H y2 Y y3)/\BkAt W J H Y C/\C.aD/\C.aO) (V 5) W:=hS 5 (by omega);have d6:(λv W=>∃(ao:qO) (cap:Nat) (R:List D9),v=.slice ao R.length cap/\SlA W ao R/\R.length<=1000/\∀r∈R,r.1.aw.length<=1000) (V 6) W:=hS 6 (by omega);simp only[pA,d0,d1,d2,d3,d4,d0,d1,d2,d3,d4]at F;clear hS d0 d1 d2 d3 d4;generalize V 5=x5 at d5 F;generalize V 6=x6 at d6 F;obtain rfl:=F;simp only[dl,dF];obtain⟨ao,ca,R,rfl,F,bZ,aL⟩:=d6;clear d5;have b8:Hid _:=aL;have a5:=(AB G0.O).1;have J0:Hid (DoU (x+3) x f ao R w 0 g0 0 W):=⟨⟨AG _,#[],AK hW G0.O a5,rfl,λu h=>by cases h⟩,by omega,⟨ap,l,cp,a1,a2,a3,c1,c2,c3,B,AK hW T0.O (by omega),(HW.O.below au).below hW⟩,AK hW T2.O (by omega),.of F (Oi (AK hW G0.O a5)) (noAct_w (AK hW T0.O (by omega))),au.trans (hW.mono au.size)⟩;clear F aL HW T0 T1 T2 G0 au hW
 go_upto_region 7 with fail
 go_loopw [8,10] (λv8 iv wr=>∃k g cap:Nat,k<=R.length/\iv=.int .i64 k/\v8=.slice (qad g) k cap/\DoU (x+3) x f ao R w k g cap wr) (λ_ i _=>R.length - (intOf i).toNat)
 case atStart=>exact⟨0,g0,0,by omega,rfl,rfl,J0.O⟩
 case round=>
  obtain⟨k,g,cap,hk,rfl,rfl,hJ⟩:=hrel;obtain⟨aH,bB⟩:∃n,n=wr.heap.size:=⟨_,rfl⟩;have JR:Hid _:=hJ;clear hJ;obtain⟨ap,l,cp,a1,a2,a3,c1,c2,c3,B,a8,bI⟩:=JR.O.wx;have VX:Hid _:=a8;have ax:Hid (WA _ ap l a1 a2 a3 B):=bI;have aA:=(AB a8).1;clear a8 bI
  by_cases bf:k<R.length
  rotate_left
  ·have VF:Hid _:=JR.O.vf
   go_wp2_with (first
    |((with_reducible show wpList _ _ _ _ _ _);refine dD rfl 30 (.tmp 2) rfl x rfl 30 (qwV ap l.length cp B a1 c1 a2 c2 a3 c3) (0,0) _ VX.O Tryz.underlying30 rfl AO ?_)
    |((with_reducible show wpList _ _ _ _ _ _);refine AM rfl 30 (.tmp 4) (.tmp 61) rfl f 0 (qwV ap l.length cp B a1 c1 a2 c2 a3 c3) rfl rfl 30 #[.slice none 0 0,.int .i64 0,.slice none 0 0,.slice none 0 0,.slice none 0 0] VF.O AO (AD rfl) (by simp[Value.oneCell']) ?_;intro wz hz on;simp only[Act.put]))
   refine dS (v:=.tuple #[.agg (qwV ap l.length cp B a1 c1 a2 c2 a3 c3),_]) (BZ rfl _ wz f _ _ _ _ rfl hz.O Tryz.underlying30 rfl AO _ rfl) rfl ?_;exact⟨_,_,rfl,wis_iff.2 ⟨ap,l,cp,a1,a2,a3,c1,c2,c3,B,rfl,ax.O.ab (E7 VF.O) on,JR.O.below.trans (on.below.mono (by omega))⟩⟩
  obtain⟨b,off,ea,bY,_,a7⟩:=JR.O.ci (by intro h;rw[h]at bf;simp at bf);subst ea;obtain⟨s,aS⟩:∃s,R[k]?=some s:=⟨R[k],by simp[bf]⟩;have fr:s.1.aw.length<=1000:=b8.O s (AE aS);have bx:Hid (AcAt _ b (off+k*8) s):=(a7 k s aS).1;have b2:Hid (SlE _ s.2.1 s.1.aw):=λhl=>let ⟨b',off',e',q1,_,q3⟩:=(a7 k s aS).2 hl;⟨b',off',e',q1,q3⟩
  clear a7 aS
  go_upto_region 9 with fail
  refine Fx 12 3 [[],[0],[],[],[2,3],[4],[1,5],[6],[7],[7],[],[8,10]] [11] [6,7,8,9,10,11] [9,11] [(11,7),(11,9)] (λ_ W W2=>∃b,qBl W b qzV 28/\A6 b W W2) (by kernel_rfl) (by kernel_rfl) (by kernel_rfl) ?_;apply ET (by kernel_rfl)
  ·intro V W K AA hW Z F hK
   simp only[pA]at F;clear Z;obtain rfl:=F;go_wp2;exact hK.O _ brf
  apply ET (by kernel_rfl)
  ·intro V W K AA hW Z F hK
   have d0:V 0=_:=Z 0 (by kernel_rfl);simp only[pA,d0]at F;clear Z d0;obtain rfl:=F;have e1:W.cell? ⟨x,1,none⟩=some (.int .i64 B.aj):=AJ (AK hW VX.O aA) 1 rfl;have e2:W.cell? ⟨x,2,none⟩=some (.slice a1 B.af.length c1):=AJ (AK hW VX.O aA) 2 rfl;have e3:W.cell? ⟨x,3,none⟩=some (.slice a2 B.ah.length c2):=AJ (AK hW VX.O aA) 3 rfl;have e4:W.cell? ⟨x,4,none⟩=some (.slice a3 B.ak.length c3):=AJ (AK hW VX.O aA) 4 rfl;go_wp2;exact hK.O _ brf
  apply ET (by kernel_rfl)
  ·intro V W K AA hW Z F hK
   simp only[pA]at F;clear Z;obtain rfl:=F;go_wp2;exact hK.O _ brf
  apply ET (by kernel_rfl)
  ·intro V W K AA hW Z F hK
   simp only[pA]at F;clear Z;obtain rfl:=F;go_wp2;exact hK.O _ brf
  apply ET (by kernel_rfl)
  ·intro V W K AA hW Z F hK
   have d2:V 2=_:=Z 2 (by kernel_rfl);have d3:V 3=_:=Z 3 (by kernel_rfl);simp only[pA,d2,d3]at F;clear Z d2 d3;obtain rfl:=F;go_wp2;exact hK.O _ brf
  apply ET (by kernel_rfl)
  ·intro V W K AA hW Z F hK
   have d4:V 4=_:=Z 4 (by kernel_rfl);simp only[pA,d4]at F;clear Z d4;obtain rfl:=F;have hc:=bx.O.below hW bY;unfold AcAt at hc;obtain⟨q0,q1,q2,q3,q4,q5,q6,q7⟩:=hc;go_wp2;exact hK.O _ brf
  refine C7 (λv W=>∃(J H Y:qO) (y1 y2 y3:Nat) (C:Bk) (kc:Int),v=.tuple #[.agg (qbV C J y1 H y2 Y y3),.int .i64 kc]/\BkAt W J H Y C/\C.aD/\C.aO) (λ_ _ _ ⟨a1,a2,a3,c1,c2,c3,C,kc,h1,h2,h3⟩ hb=>⟨a1,a2,a3,c1,c2,c3,C,kc,h1,h2.below hb,h3⟩) (by kernel_rfl) (by kernel_rfl) ?_ ?_
  ·intro V W K AA hW Z F hK
   have d1:V 1=_:=Z 1 (by kernel_rfl);have d5:V 5=_:=Z 5 (by kernel_rfl);simp only[pA,d1,d5]at F;clear Z d1 d5;obtain rfl:=F
   go_wp2_with fail
   refine(apply_bk B s.1 a1 a2 a3 c1 c2 c3 s.2.1 s.2.2 W ax.O.ok.bs ax.O.ok.bz (ax.O.bN.bj.below hW) (b2.O.below hW)).mono ?_;rintro e w2 ⟨v,rfl,J,H,Y,y1,y2,y3,C,kc,rfl,h1,h2,h3,h4⟩;go_wp2;exact hK.O _ _ h4 ⟨J,H,Y,y1,y2,y3,C,kc,rfl,h1,h2,h3⟩
  refine C7 (λv W=>∃(J H Y:qO) (y1 y2 y3:Nat) (C:Bk) (kc:Int),v=.tuple #[.agg (qbV C J y1 H y2 Y y3),.int .i64 kc]/\BkAt W J H Y C/\C.aD/\C.aO) (λ_ _ _ ⟨a1,a2,a3,c1,c2,c3,C,kc,h1,h2,h3⟩ hb=>⟨a1,a2,a3,c1,c2,c3,C,kc,h1,h2.below hb,h3⟩) (by kernel_rfl) (by kernel_rfl) ?_ ?_
  ·intro V W K AA hW Z F hK
   have d6:(λv W=>∃(J H Y:qO) (y1 y2 y3:Nat) (C:Bk) (kc:Int),v=.tuple #[.agg (qbV C J y1 H y2 Y y3),.int .i64 kc]/\BkAt W J H Y C/\C.aD/\C.aO) (V 6) W:=Z 6 (by kernel_rfl);simp only[pA]at F;clear Z;generalize V 6=x6 at d6 F;obtain rfl:=F;obtain⟨J,H,Y,y1,y2,y3,C,kc,rfl,h1⟩:=d6;go_wp2;exact hK.O _ _ brf ⟨J,H,Y,y1,y2,y3,C,kc,rfl,h1⟩
  refine C7 (λv W=>∃(J H Y:qO) (y1 y2 y3:Nat) (C:Bk),v=.agg (qbV C J y1 H y2 Y y3)/\BkAt W J H Y C/\C.aD/\C.aO) (λ_ _ _ ⟨a1,a2,a3,c1,c2,c3,C,h1,h2,h3⟩ hb=>⟨a1,a2,a3,c1,c2,c3,C,h1,h2.below hb,h3⟩) (by kernel_rfl) (by kernel_rfl) ?_ ?_
  ·intro V W K AA hW Z F hK
   have d7:(λv W=>∃(J H Y:qO) (y1 y2 y3:Nat) (C:Bk) (kc:Int),v=.tuple #[.agg (qbV C J y1 H y2 Y y3),.int .i64 kc]/\BkAt W J H Y C/\C.aD/\C.aO) (V 7) W:=Z 7 (by kernel_rfl);simp only[pA]at F;clear Z;generalize V 7=x7 at d7 F;obtain rfl:=F;obtain⟨J,H,Y,y1,y2,y3,C,kc,rfl,h1⟩:=d7;go_wp2;exact hK.O _ _ brf ⟨J,H,Y,y1,y2,y3,C,rfl,h1⟩
  refine C7 (λv _=>∃kc:Int,v=.int .i64 kc) (λ_ _ _ h _=>h) (by kernel_rfl) (by kernel_rfl) ?_ ?_
  ·intro V W K AA hW Z F hK
   have d7:(λv W=>∃(J H Y:qO) (y1 y2 y3:Nat) (C:Bk) (kc:Int),v=.tuple #[.agg (qbV C J y1 H y2 Y y3),.int .i64 kc]/\BkAt W J H Y C/\C.aD/\C.aO) (V 7) W:=Z 7 (by kernel_rfl);simp only[pA]at F;clear Z;generalize V 7=x7 at d7 F;obtain rfl:=F;obtain⟨J,H,Y,y1,y2,y3,C,kc,rfl,h1⟩:=d7;go_wp2;exact hK.O _ _ brf ⟨kc,rfl⟩
  refine C7 (λv W=>∃b,v=.pointer (qad b)/\aH<=b/\qBl W b qzV 28) (λv W W2 ⟨b,h1,h2,h3⟩ hb=>⟨b,h1,h2,AK hb h3 (AB h3).1⟩) (by kernel_rfl) (by kernel_rfl) ?_ ?_
  ·intro V W K AA hW Z F hK
   simp only[pA]at F;clear Z;obtain rfl:=F;go_wp2;exact hK.O _ _ (AN W _) ⟨_,rfl,by rw[bB];exact hW.size,dm W _⟩
  refine K7 (λV (_:Value) W=>∃(b:Nat) (J H Y:qO) (y1 y2 y3:Nat) (C:Bk),V 10=.pointer (qad b)/\aH<=b/\qBl W b (qbV C J y1 H y2 Y y3) 28/\BkAt W J H Y C/\C.aD/\C.aO) (λV v W W2 ⟨b,J,H,Y,y1,y2,y3,C,hv,hn,h,hm,h2⟩ hb=>⟨b,J,H,Y,y1,y2,y3,C,hv,hn,AK hb h (AB h).1,hm.below hb,h2⟩) (λv V V2 W cb ⟨b,J,H,Y,y1,y2,y3,C,hv,hr⟩=>⟨b,J,H,Y,y1,y2,y3,C,(cb 10 rfl).symm.trans hv,hr⟩) (by kernel_rfl) (by kernel_rfl) ?_ ?_
  ·intro V W K AA hW Z F hK
   have d8:(λv W=>∃(J H Y:qO) (y1 y2 y3:Nat) (C:Bk),v=.agg (qbV C J y1 H y2 Y y3)/\BkAt W J H Y C/\C.aD/\C.aO) (V 8) W:=Z 8 (by kernel_rfl);have bU:(λv W=>∃b,v=.pointer (qad b)/\aH<=b/\qBl W b qzV 28) (V 10) W:=Z 10 (by kernel_rfl);simp only[pA]at F;clear Z;generalize cK:V 0=x0 at F hK;generalize cO:V 1=J at F hK;generalize c5:V 2=H at F hK;generalize cN:V 3=Y at F hK;generalize cv:V 4=x4 at F hK;generalize ci:V 5=x5 at F hK;generalize cz:V 6=x6 at F hK;generalize b9:V 7=x7 at F hK;generalize cM:V 8=x8 at d8 F hK;generalize cm:V 9=x9 at F hK;generalize b3:V 10=c6 at bU F hK;generalize b0:V 11=ch at F hK;obtain rfl:=F;obtain⟨J,H,Y,y1,y2,y3,C,rfl,hm,cc⟩:=d8;obtain⟨b',rfl,bS,aF⟩:=bU;have HM:Hid (BkAt W J H Y C):=hm;have fd:=hW.size;clear hm cK cO c5 cN cv ci cz b9 cM cm b3 b0;refine AM rfl 28 (.tmp 11) (.tmp 52) rfl b' 0 (qbV C J y1 H y2 Y y3) rfl rfl 28 qzV aF AU (AD rfl) (by simp[Value.oneCell']) ?_;intro u2 hz on;have cl:Hid (qBl u2 b' (qbV C J y1 H y2 Y y3) 28):=hz;have bl:Hid (A6 b' W u2):=on;have bE:Hid _:=aF;clear hz on aF;go_wp2;refine hK.O undef _ ?_ (bl.O.below.mono (by omega)) ⟨b',J,H,Y,y1,y2,y3,C,rfl,bS,cl.O,HM.O.ab (Oh bE.O) bl.O,cc⟩;exact⟨b',bE.O,bl.O⟩
  refine⟨λi j hk V v W W' hr hq=>?_,?_⟩
  ·simp only[List.contains_cons,List.contains_nil,Bool.or_false,dY,fq,dw]at hk
   rcases hk with⟨rfl,rfl⟩|⟨rfl,rfl⟩
   ·have bk:(λv W=>∃(J H Y:qO) (y1 y2 y3:Nat) (C:Bk) (kc:Int),v=.tuple #[.agg (qbV C J y1 H y2 Y y3),.int .i64 kc]/\BkAt W J H Y C/\C.aD/\C.aO) (v) W:=hq
    show(λv W=>∃(J H Y:qO) (y1 y2 y3:Nat) (C:Bk) (kc:Int),v=.tuple #[.agg (qbV C J y1 H y2 Y y3),.int .i64 kc]/\BkAt W J H Y C/\C.aD/\C.aO) (v) W';clear hq;obtain⟨J,H,Y,y1,y2,y3,C,kc,h,hm,hz⟩:=bk;obtain⟨b,aF,on⟩:=hr;exact⟨J,H,Y,y1,y2,y3,C,kc,h,hm.ab (Oh aF) on,hz⟩
   ·have bk:(λv _=>∃kc:Int,v=.int .i64 kc) (v) W:=hq
    show(λv _=>∃kc:Int,v=.int .i64 kc) (v) W';clear hq;exact bk
  intro V W AA hW hS F;have d0:V 0=_:=hS 0 (by omega) (.inr (by kernel_rfl));have d1:V 1=_:=hS 1 (by omega) (.inr (by kernel_rfl));have d2:V 2=_:=hS 2 (by omega) (.inr (by kernel_rfl));have d3:V 3=_:=hS 3 (by omega) (.inr (by kernel_rfl));have d4:V 4=_:=hS 4 (by omega) (.inr (by kernel_rfl));have d5:V 5=_:=hS 5 (by omega) (.inr (by kernel_rfl));have d9:(λv _=>∃kc:Int,v=.int .i64 kc) (V 9) W:=hS 9 (by omega) (.inl (by kernel_rfl));have aE:(λV (_:Value) W=>∃(b:Nat) (J H Y:qO) (y1 y2 y3:Nat) (C:Bk),V 10=.pointer (qad b)/\aH<=b/\qBl W b (qbV C J y1 H y2 Y y3) 28/\BkAt W J H Y C/\C.aD/\C.aO) V (V 11) W:=hS 11 (by omega) (.inl (by kernel_rfl));simp only[pA]at F;dsimp only at aE;clear hS;generalize V 0=x0 at d0 F;generalize V 1=J at d1 aE F;generalize V 2=H at d2 F;generalize V 3=Y at d3 F;generalize V 4=x4 at d4 F;generalize V 5=x5 at d5 F;generalize V 9=x9 at d9 F;generalize V 10=c6 at aE F;generalize V 11=ch at aE F;subst d0;subst d1;subst d2;subst d3;subst d4;subst d5;obtain rfl:=F;simp only[dl,dF];obtain⟨kc,rfl⟩:=d9;obtain⟨b',J,H,Y,y1,y2,y3,C,rfl,bS,bH,hC,c7,ct⟩:=aE;have VB:Hid _:=bH;have HC:Hid (BkAt W J H Y C):=hC;have JW:Hid _:=JR.O.aX hW;have aK:Hid _:=AK hW VX.O aA;have aM:Hid (WA W ap l a1 a2 a3 B):=ax.O.below hW;clear bH hC hW VX ax bx b2 JR aA bY
  go_upto_region 11 with(first
   |((with_reducible show wpList _ _ _ _ _ _);refine dD rfl 30 (.tmp 2) rfl x rfl 30 (qwV ap l.length cp B a1 c1 a2 c2 a3 c3) (0,0) _ aK.O Tryz.underlying30 rfl AO ?_)
   |((with_reducible show wpList _ _ _ _ _ _);refine dD rfl 28 (.tmp 11) rfl b' rfl 28 (qbV C J y1 H y2 Y y3) (0,0) _ VB.O Tryz.underlying28 rfl AU ?_)
   |(go_at_call 111;refine(Ok l ap cp B C a1 a2 a3 J H Y c1 c2 c3 y1 y2 y3 _ aM.O.ok c7 ct aM.O.bN aM.O.rt HC.O).mono ?_;rintro e w4 ⟨v,rfl,hv⟩;obtain⟨aq,M,cq,z1,z2,z3,d1,d2,d3,D,rfl,F,a9⟩:=wis_iff.1 hv;have HA:Hid _:=F;have J4:Hid _:=JW.O.aX a9;have bz:Hid _:=AK a9 aK.O (AB aK.O).1;clear hv F a9)
   |((with_reducible show wpList _ _ _ _ _ _);refine AM rfl 30 (.tmp 2) (.tmp 56) rfl x 0 (qwV aq M.length cq D z1 d1 z2 d2 z3 d3) rfl rfl 30 (qwV ap l.length cp B a1 c1 a2 c2 a3 c3) bz.O AO (AD rfl) (by simp[Value.oneCell']) ?_;intro w5 hz on;have J5:Hid _:=J4.O.put on hz.O HA.O (by omega) (by omega) (by omega);clear hz on;simp only[Act.put]))
  clear JW J4 HA aK bz VB HC aM;have J6:Hid (DoU _ x f _ R w k g cap (w5.alloc (.cells #[.int .i64 kc] 3))):=J5.O.aX (AN _ _);have cf:x+3<=(w5.alloc (.cells #[.int .i64 kc] 3)).heap.size:=by have:=J6.O.row.lt;have:=J6.O.gx;omega
  go_wp2_with ((with_reducible show wpList _ _ _ _ _ _);refine Cw rfl (.tmp 57) (.tmp 59) 48 rfl Tryz.underlying48 g k cap rfl J6.O.row ⟨w5.heap.size,0,none⟩ 1 1 [.int .i64 kc] rfl rfl (RN (dm w5 _)) (λu hu=>⟨kc,by simpa using hu⟩) (by omega) ?_;intro g2 bO w7 hr hi;have J7:Hid _:=J6.O.bD hr hi (by omega) (by omega) cf (by omega);clear hr hi;simp only[Act.put])
  go_roundw
  case rel=>exact⟨k+1,g2,bO,by omega,by go_num,rfl,J7.O⟩
  case measure=>simp[intOf];omega
end
end Go.Proofs.YtbceafpodamnfaaGreatDoor
