import Derived.Test.YtbceafpodamnfaaGreatDoorG19
import Derived.Test.YtbceafpodamnfaaGreatDoorG31
set_option linter.all false
set_option maxHeartbeats 16000000
set_option maxRecDepth 100000
namespace Go.Proofs.YtbceafpodamnfaaGreatDoor
section
open Go.RowKit
open Go.Value renaming int->In,slice->Sl,string->Sg,bool->Bo,pointer->Po
open Go.IntKind renaming i64->i6
theorem SS{B:Bk}{E:Ev}(z:Aj B=true)(F:Aj (AS B E).1=true):(AS B E).1.aU:=by
 unfold Aj at z;simp only[di,dS]at z;obtain⟨H,J,M⟩:=OD B E;exact⟨qo,qo,qo,(validB_iff.1 F).bQ⟩
theorem ok_sized{B:Bk}(h:okBk B):B.aP:=⟨AH h.1.1 qd,AH h.1.2.1 qd,AH h.1.2.2 qd,h.2⟩
theorem noBk_ok:noBk.aP/\noBk.aU:=⟨⟨AI _,AI _,AI _,(λ_ h=>by cases h),(λ_ h=>by cases h),(λ_ h=>by cases h)⟩,AI _,AI _,AI _,λ_ h=>by cases h⟩
theorem OE{B:Bk}{E:Ev}(z:B.aP)(F:B.aU)(H:E.aP):(Cv B E).1.aP/\(Cv B E).1.aU:=by
 unfold Cv;split
 ·rename_i hv
  split
  ·exact⟨z,F⟩
  ·split
   ·split
    ·rename_i hx
     exact⟨LC hv z H,SS hv hx⟩
    ·exact⟨z,F⟩
   ·exact⟨z,F⟩
 ·exact noBk_ok
def BkC(n:Nat)(w w':World)(v:Value):Prop:=∃(a1 a2 a3:qO) (c1 c2 c3:Nat) (B:Bk) (k:Int),v=.tuple #[.agg (qbV B a1 c1 a2 c2 a3 c3),In i6 k]/\BkAt w' a1 a2 a3 B/\B.aP/\B.aU/\Below n w w'
theorem sea_bk(B:Bk)(E:Ev)(a1 a2 a3:qO)(c1 c2 c3:Nat)(w:World)(F:B.aU)(H:B.aP)(z:E.aP)(J:BkAt w a1 a2 a3 B):
  Calls Tryz.prog 110 #[.agg (qbV B a1 c1 a2 c2 a3 c3),.agg (qeV E)] w λe w'=>∃v,e=.returned v/\BkC w.heap.size w w' v:=
 (QW B E a1 a2 a3 c1 c2 c3 w F.aR H z J).mono λ_ _ ⟨Y,Z,x3,W,p2,p3,M,hb,O⟩=>⟨_,M,Y,Z,x3,W,p2,p3,_,_,rfl,hb,(OE H F z).1,(OE H F z).2,O⟩
theorem apply_bk(B:Bk)(A:Ac)(a1 a2 a3:qO)(c1 c2 c3:Nat)(F:qO)(ce:Nat)(w:World)(z:B.aU)(H:B.aP)(J:BkAt w a1 a2 a3 B)(M:SlE w F A.aB):
  Calls Tryz.prog 22 #[.agg (qbV B a1 c1 a2 c2 a3 c3),.agg (qaV A F ce)] w λe w'=>∃v,e=.returned v/\BkC w.heap.size w w' v:=
 (QX B A a1 a2 a3 c1 c2 c3 F ce w (Lm z.tn H) J M).mono λ_ _ ⟨Y,Z,x3,d1,d2,d3,O,hb,W⟩=>⟨_,O,Y,Z,x3,d1,d2,d3,_,_,rfl,hb,ok_sized (ans_ok A (Lm z.tn H)),⟨(Px A ⟨z.1,z.2.1,z.2.2.1⟩).1,(Px A ⟨z.1,z.2.1,z.2.2.1⟩).2.1,(Px A ⟨z.1,z.2.1,z.2.2.1⟩).2.2,ans_nums A z.2.2.2⟩,W⟩
theorem R5:∀(R:List Co) (i:Nat) (r:Co) (j:Nat),R[i]?=some r->j<8->(DQ R)[i*8+j]?=(Bj r)[j]?
 |[],_,_,_,h,_=>by simp at h
 |x::R,0,r,j,h,z=>by
  simp at h;subst h;have e:DQ (x::R)=Bj x++DQ R:=by simp[DQ]
  rw[e,dT (by show _<8;omega),ik,dL]
 |x::R,i+1,r,j,h,z=>by
  have e:DQ (x::R)=Bj x++DQ R:=by simp[DQ]
  have F:(Bj x).length=8:=rfl;rw[e,dU qo,F,show(i+1)*8+j - 8=i*8+j by omega];exact R5 R i r j (by simpa using h) z
theorem rowA_sl{w:World}{g cap lo:Nat}{R:List Co}(h:RowIs w 45 8 g R.length cap (DQ R))(H:∀r∈R,SlEn lo w r.2.1 r.2.2 r.1.aB):SlA w (qad g) R:=λ_=>
 ⟨g,0,rfl,h.lt,λi r F=>by
  have z:∀j,j<8->∀u,(Bj r)[j]?=some u->w.cell? ⟨g,0+i*8+j,none⟩=some u:=λj J u O=>by
   rw[dL];exact h.cell ((R5 R i r j F J).trans O)
  refine⟨?_,λM=>?_⟩
  ·unfold AcAt
   exact⟨z 0 qo _ rfl,z 1 qo _ rfl,z 2 qo _ rfl,z 3 qo _ rfl,z 4 qo _ rfl,z 5 qo _ rfl,z 6 qo _ rfl,z 7 qo _ rfl⟩
  ·exact(H r (AE F)).sl M⟩
theorem SP(kind:Int)(B:Bk)(a1 a2 a3:qO)(c1 c2 c3:Nat)(w:World)(O:B.aU)(W:B.aP)(M:BkAt w a1 a2 a3 B):
  Calls Tryz.prog 27 #[In i6 kind,.agg (qbV B a1 c1 a2 c2 a3 c3)] w λe w'=>∃(ao:qO) (cap:Nat) (R:List Co),e=.returned (Sl ao R.length cap)/\R.length<=1000/\(∀r∈R,r.1.aB.length<=1000)/\SlA w' ao R/\Below w.heap.size w w':=
 (MJ kind B a1 a2 a3 c1 c2 c3 w (Lm O.tn W) M).mono λ_ _ ⟨g,cap,R,Y,⟨H,J⟩,_,F,z,hb⟩=>⟨some ⟨g,0,none⟩,cap,R,Y,H,(λr Z=>(J r Z).1),rowA_sl F z,hb⟩
end
section
open Go.RowKit Go.Sort
open Go.Value renaming int->In,slice->Sl,string->Sg,bool->Bo,pointer->Po
open Go.IntKind renaming i64->i6
structure WA(w:World)(ap:qO)(l:List Bx)(a1 a2 a3:qO)(B:Bk):Prop where
 bT:WAt w ap l a1 a2 a3 B
 ok:WOk l B
 rt:RowT w ap l
section
variable {w w':World} {ap:qO} {l:List Bx} {a1 a2 a3:qO} {B:Bk}
theorem WA.below(h:WA w ap l a1 a2 a3 B)(hb:Below w.heap.size w w'):WA w' ap l a1 a2 a3 B:=⟨h.bT.below hb,h.ok,h.rt.below hb⟩
def NoStr(w:World)(x:Nat):Prop:=∀(o:Nat) (s:qB),w.cell? ⟨x,o,none⟩≠some (.string s)
def Tk(w:World)(x:Nat):Prop:=NoStr w x/\∃cs t fr,w.heap[x]?=some (.cells cs t fr)/\t≠28
theorem NoStr.cX{x b o:Nat}{s:qB}(h:NoStr w x)(z:w.cell? ⟨b,o,none⟩=some (.string s)):b≠x:=by
 rintro rfl;exact h _ _ z
theorem NoStr.of{x:Nat}{cs:Array Value}{t:TypeId}{fr:Nat × Nat}(h:w.heap[x]?=some (.cells cs t fr))(F:∀(j:Nat) (s:qB),cs[j]?≠some (.string s)):NoStr w x:=λo s z=>by
 rw[gU w x o _ _ _ h]at z;exact F _ _ z
theorem BkAt.ai{x:Nat}(h:BkAt w a1 a2 a3 B)(hx:NoStr w x)(Y:BH x w w'):BkAt w' a1 a2 a3 B:=by
 have Z:∀b,b≠x->∀o,w'.cell? ⟨b,o,none⟩=w.cell? ⟨b,o,none⟩:=λb hb o=>eQ (w:=w) (Y.aL b hb)
 refine⟨λO=>?_,λO=>?_,λO=>?_⟩
 ·obtain⟨b,J,e,F,z⟩:=h.1 O
  refine⟨b,J,e,by rw[Y.size];exact F,λi s W=>?_⟩;have M:=z i s W;have H:=hx.cX M.1;unfold SvcAt at *;simp only[Z b H];exact M
 ·obtain⟨b,J,e,F,z⟩:=h.2.1 O
  refine⟨b,J,e,by rw[Y.size];exact F,λi s W=>?_⟩;have M:=z i s W;have H:=hx.cX M.1;unfold CpAt at *;simp only[Z b H];exact M
 ·obtain⟨b,J,e,F,z⟩:=h.2.2 O
  refine⟨b,J,e,by rw[Y.size];exact F,λi s W=>?_⟩;have M:=z i s W;have H:=hx.cX M.1;unfold BtAt at *;simp only[Z b H];exact M
theorem WA.ai{x:Nat}(h:WA w ap l a1 a2 a3 B)(hx:Tk w x)(O:BH x w w'):WA w' ap l a1 a2 a3 B:=by
 have M:l≠[]->∀b z,ap=some ⟨b,z,none⟩->b≠x:=λF b z e hb=>by
  subst hb;obtain⟨cs,fr,J⟩:=h.rt F b z e;obtain⟨_,aa,t,ae,H,h3⟩:=hx;rw[J]at H;injection H with H
  injection H with _ H
  exact h3 H.symm
 refine⟨⟨λF=>?_,λx' Z=>(h.bT.bR x' Z).ai hx.1 O,h.bT.bE.ai hx.1 O⟩,h.ok,λF b z e=>?_⟩
 ·obtain⟨b,z,e,Y,W⟩:=h.bT.row F
  refine⟨b,z,e,by rw[O.size];exact Y,λi s hs=>?_⟩;have J:=W i s hs;unfold BxAt at *;have hc:∀o,w'.cell? ⟨b,o,none⟩=w.cell? ⟨b,o,none⟩:=λo=>eQ (w:=w) (O.aL b (M F b z e))
  simp only[hc];exact J
 ·obtain⟨cs,fr,J⟩:=h.rt F b z e
  exact⟨cs,fr,(O.aL b (M F b z e)).trans J⟩
end
theorem Fm{w:World}{x:Nat}{ap:qO}{n cp:Nat}{av:Int}{a1 a2 a3:qO}{n1 n2 n3 c1 c2 c3:Nat}{fr:Nat × Nat}(h:w.heap[x]?=some (.cells #[Sl ap n cp,In i6 av,Sl a1 n1 c1,Sl a2 n2 c2,Sl a3 n3 c3] 30 fr)):Tk w x:=
 ⟨.of h λj s z=>by rcases j with _|_|_|_|_|j<;>first|cases z|simp at z,_,_,_,h,qd⟩
theorem wis_iff{n:Nat}{w w':World}{v:Value}:WIs n w w' v↔∃(ap:qO) (l:List Bx) (cp:Nat) (a1 a2 a3:qO) (c1 c2 c3:Nat) (B:Bk),v=.agg (qwV ap l.length cp B a1 c1 a2 c2 a3 c3)/\WA w' ap l a1 a2 a3 B/\Below n w w':=
 ⟨λ⟨ap,l,cp,a1,a2,a3,c1,c2,c3,B,F,z,J,M,H⟩=>⟨ap,l,cp,a1,a2,a3,c1,c2,c3,B,F,⟨z,J,M⟩,H⟩,λ⟨ap,l,cp,a1,a2,a3,c1,c2,c3,B,F,z,H⟩=>⟨ap,l,cp,a1,a2,a3,c1,c2,c3,B,F,z.bT,z.ok,z.rt,H⟩⟩
theorem ME(w:World)(A B C:Obj):∃z,((w.alloc A).alloc B).alloc C=z/\z.heap[w.heap.size]?=some A/\z.heap[w.heap.size+1]?=some B/\z.heap[w.heap.size+1+1]?=some C/\z.heap.size=w.heap.size+3/\Below w.heap.size w z:=by
 obtain⟨J,M,O⟩:=CL w A B;obtain⟨X,F⟩:∃X,(w.alloc A).alloc B=X:=⟨_,rfl⟩;rw[F]at J M O;rw[F];have H:Below w.heap.size w X:=by rw[<-F];exact(AN w _).alloc (by show w.heap.size<=(w.heap.push _).size;simp) _
 have W:(X.alloc C).heap.size=X.heap.size+1:=by show(X.heap.push _).size=_;simp
 refine⟨_,rfl,(gt X _ qo).trans J,(gt X _ qo).trans M,?_,qo,H.alloc qo _⟩;have:=dm X C
 rwa [O]at this
def DoIs(w:World)(e:Ending)(w':World):Prop:=∃vw vs,e=.returned (.tuple #[vw,vs])/\WIs w.heap.size w w' vw
theorem do_sea(l:List Bx)(ap:qO)(cp:Nat)(B:Bk)(a1 a2 a3:qO)(c1 c2 c3:Nat)(m:Mv)(w:World)(bz:inB m.st 1 6=false)(hE:m.ev.aP)(hW:WA w ap l a1 a2 a3 B):
  Calls Tryz.prog 49 #[.agg (qwV ap l.length cp B a1 c1 a2 c2 a3 c3),.agg (qmV m)] w λe w'=>DoIs w e w':=by
 have HW:Hid (WA w ap l a1 a2 a3 B):=hW;clear hW;obtain⟨W0,ay,t0,t1,t2,bq,Z⟩:=ME w (.cells (qwV ap l.length cp B a1 c1 a2 c2 a3 c3) 30) (.cells (qmV m) 38) (.cells qzW 30);obtain⟨x,hx⟩:∃x,w.heap.size=x:=⟨_,rfl⟩;obtain⟨y,hy⟩:∃y,x+1=y:=⟨_,rfl⟩;obtain⟨f,hf⟩:∃f,y+1=f:=⟨_,rfl⟩;have W:Hid _:=t0;have F:Hid _:=t1;have T2:Hid _:=t2;clear t0 t1 t2;go_enter Tryz.func49,Tryz.ntmps49
 go_upto_region 1 with fail
 rw[hx]at W;rw[hx,hy]at F;rw[hx,hy,hf]at T2;clear ay;have m0:W0.cell? ⟨y,0,none⟩=some (In i6 m.st):=AJ F.ab 0
 go_upto_region 2 with(go_at_call 63;refine(Cx _ _ _ _).mono ?_;rintro e z ⟨rfl,rfl⟩)
 clear m0;have m2:z.cell? ⟨y,2,none⟩=some (In i6 m.ev.kind):=AJ F.ab 2;have m3:z.cell? ⟨y,3,none⟩=some (.string m.ev.aa.name):=AJ F.ab 3;have m4:z.cell? ⟨y,4,none⟩=some (In i6 m.ev.aa.ag):=AJ F.ab 4;have m5:z.cell? ⟨y,5,none⟩=some (.bool m.ev.aa.aH):=AJ F.ab 5;have m6:z.cell? ⟨y,6,none⟩=some (In i6 m.ev.aa.aj):=AJ F.ab 6;have m7:z.cell? ⟨y,7,none⟩=some (In i6 m.ev.aa.au):=AJ F.ab 7;have m8:z.cell? ⟨y,8,none⟩=some (In i6 m.ev.aa.aK):=AJ F.ab 8;have m9:z.cell? ⟨y,9,none⟩=some (In i6 m.ev.aa.aG):=AJ F.ab 9;have aA:z.cell? ⟨y,10,none⟩=some (In i6 m.ev.aa.next):=AJ F.ab 10;have aB:z.cell? ⟨y,11,none⟩=some (In i6 m.ev.aa.aQ):=AJ F.ab 11;have aC:z.cell? ⟨y,12,none⟩=some (In i6 m.ev.aa.az):=AJ F.ab 12;have aD:z.cell? ⟨y,13,none⟩=some (In i6 m.ev.aa.aI):=AJ F.ab 13;have aF:z.cell? ⟨y,14,none⟩=some (In i6 m.ev.aa.load):=AJ F.ab 14;have aG:z.cell? ⟨y,15,none⟩=some (In i6 m.ev.aa.aA):=AJ F.ab 15;have aH:z.cell? ⟨y,16,none⟩=some (.string m.ev.name):=AJ F.ab 16;have aI:z.cell? ⟨y,17,none⟩=some (In i6 m.ev.ak):=AJ F.ab 17;have aJ:z.cell? ⟨y,18,none⟩=some (.bool m.ev.bq):=AJ F.ab 18;have e1:z.cell? ⟨x,1,none⟩=some (In i6 B.av):=AJ W.ab 1;have e2:z.cell? ⟨x,2,none⟩=some (Sl a1 B.ah.length c1):=AJ W.ab 2
 have e3:z.cell? ⟨x,3,none⟩=some (Sl a2 B.ar.length c2):=AJ W.ab 3;have e4:z.cell? ⟨x,4,none⟩=some (Sl a3 B.aw.length c3):=AJ W.ab 4
 go_upto_region 3 with(go_at_call 110;refine(sea_bk B m.ev a1 a2 a3 c1 c2 c3 _ HW.ab.ok.bs HW.ab.ok.bz hE (HW.ab.bT.bE.below Z)).mono ?_;rintro e w1 ⟨v,rfl,x1,x2,x3,y1,y2,y3,C,kc,rfl,hC,ax,aw,O⟩)
 have C1:Hid (BkAt w1 x1 x2 x3 C):=hC;have ag:Below w.heap.size w w1:=Z.trans (O.mono Z.size);have U0:Hid _:=AK O W.ab;have U2:Hid _:=AK O T2.ab;have bv:=O.size;obtain⟨Y,J⟩:∃Y,w1.alloc (.cells (qbV C x1 y1 x2 y2 x3 y3) 28)=Y:=⟨_,rfl⟩;have V0:Hid (qBl Y x (qwV ap l.length cp B a1 c1 a2 c2 a3 c3) 30):=by unfold Hid;rw[<-J];exact(gt w1 _ qo).trans U0.ab
 have V2:Hid (qBl Y f qzW 30):=by unfold Hid;rw[<-J];exact(gt w1 _ qo).trans U2.ab
 have V3:Hid (qBl Y (w1.heap.size) (qbV C x1 y1 x2 y2 x3 y3) 28):=by unfold Hid;rw[<-J];exact dm w1 _
 have aa:Below w1.heap.size w1 Y:=by rw[<-J];exact AN _ _
 have H:Below w.heap.size w Y:=ag.trans (aa.mono ag.size);have bw:=aa.size;rw[J];clear e1 e2 e3 e4 W F T2 U0 U2 hC O J m2 m3 m4 m5 m6 m7 m8 m9 aA aB aC aD aF aG aH aI aJ
 go_wp2_with (first
  |((with_reducible show wpList _ _ _ _ _ _);refine dB rfl 30 (.tmp 2) rfl x rfl 30 (qwV ap l.length cp B a1 c1 a2 c2 a3 c3) (0,0) _ V0.ab Tryz.underlying30 rfl AO ?_)
  |((with_reducible show wpList _ _ _ _ _ _);refine dB rfl 28 (.tmp 6) rfl w1.heap.size rfl 28 (qbV C x1 y1 x2 y2 x3 y3) (0,0) _ V3.ab Tryz.underlying28 rfl AY ?_)
  |(go_at_call 111;refine(Q3 l ap cp B C a1 a2 a3 x1 x2 x3 c1 c2 c3 y1 y2 y3 _ HW.ab.ok ax aw (HW.ab.bT.below H) (HW.ab.rt.below H) (C1.ab.below aa)).mono ?_;rintro e w3 ⟨v,rfl,hv⟩;obtain⟨aq,M,cq,z1,z2,z3,d1,d2,d3,D,rfl,hA,ae⟩:=wis_iff.1 hv;have V4:Hid _:=AK ae V2.ab;have HA:Hid _:=hA;have bx:=ae.size;clear hv hA)
  |((with_reducible show wpList _ _ _ _ _ _);refine qAM ((gt w3 _ qo).trans V4.ab) AO ?_;intro wz hz on;simp only[Act.put]))
 have h4:Below w3.heap.size w3 (w3.alloc _):=AN w3 (.cells #[In i6 kc] 3);have az:=(gt w3 (.cells #[In i6 kc] 3) (show f<w3.heap.size by omega)).trans V4.ab;refine dF (v:=.tuple #[.agg (qwV aq M.length cq D z1 d1 z2 d2 z3 d3),_]) (Bm rfl _ wz f _ _ _ _ rfl hz.ab Tryz.underlying30 rfl AO _ rfl) rfl ?_;refine⟨_,_,rfl,wis_iff.2 ⟨aq,M,cq,z1,z2,z3,d1,d2,d3,D,rfl,(HA.ab.below h4).ai (Fm az) on,?_⟩⟩;exact(H.trans (ae.mono H.size)).trans ((h4.mono qo).trans (on.below.mono qo))
def IntRow(w:World)(g n cap:Nat):Prop:=n<=cap/\∃cur:Array Value,qBl w g cur 3/\cur.size=cap/\∀u∈cur.toList,∃k,u=In i6 k
theorem IntRow.aV{w w':World}{g n cap:Nat}(h:IntRow w g n cap)(hb:w'.heap[g]?=w.heap[g]?):IntRow w' g n cap:=let ⟨h1,cur,h2,h3⟩:=h;⟨h1,cur,hb.trans h2,h3⟩
theorem IntRow.lt{w:World}{g n cap:Nat}(h:IntRow w g n cap):g<w.heap.size:=let ⟨_,_,h2,_⟩:=h;(AB h2).1
theorem IntRow.below{w w':World}{g n cap:Nat}(h:IntRow w g n cap)(hb:Below w.heap.size w w'):IntRow w' g n cap:=h.aV (hb.block g h.lt)
theorem IntRow.bare{w:World}{g n cap:Nat}(h:IntRow w g n cap):Tk w g:=by
 obtain⟨_,z,F,_,H⟩:=h;refine⟨.of F λj s J=>?_,z,_,_,F,qd⟩;obtain⟨k,hk⟩:=H _ (AE (l:=z.toList) (i:=j) (by simpa using J));cases hk
theorem IntRow.cell{w:World}{g n cap i:Nat}(h:IntRow w g n cap)(O:i<n):∃k,w.cell? ⟨g,i,none⟩=some (In i6 k):=by
 obtain⟨J,z,F,M,H⟩:=h;obtain⟨k,hk⟩:=H z[i] qs;exact⟨k,AJ F i (by rw[<-hk];simp)⟩
theorem IntRow.new(w:World):IntRow (w.alloc (.cells #[] 3)) w.heap.size 0 0:=⟨AG,#[],dm w _,rfl,λu h=>by cases h⟩
theorem QC:(Tryz.prog.info? 3).map (λi=>(i.zero,i.size,i.bytes))=some (some (In i6 0),1,8):=qk
theorem MP(w:World)(t ty:TypeId)(ht:Tryz.prog.underlying t=some (.slice 3))(g n cap:Nat)(aa:IntRow w g n cap)(da:Addr)(m c:Nat)(z:qL)(hl:z.length=m)(O:∀j u,z[j]?=some u->w.cell? (da.add j)=some u)(hn:∀u∈z,∃k,u=In i6 k)(aw:n+m<=1000000):
  ∃g' W w',(Builtin.append_ #[t,t] ty #[.slice (qad g) n cap,.slice (some da) m c]).run Tryz.prog w=.ok (.slice (qad g') (n+m) W) w'/\((g'=g/\BH g w w')\/(g'=w.heap.size/\Below w.heap.size w w'))/\IntRow w' g' (n+m) W:=by
 obtain⟨i,hi,hz,hs,hb⟩:=gk QC;obtain⟨ax,F,hg,ah,M⟩:=aa;have h1:∀u∈z,u.oneCell'=true:=λu J=>by obtain⟨k,rfl⟩:=hn u J;rfl
 have Y:z.length=m*i.size:=by rw[hs,hl,jg]
 by_cases H:n+m<=cap
 ·have hr:=i5 (P:=Tryz.prog) w t ty 3 i ht hi g n cap F hg da m c z Y O h1 H (by rw[hs,jg,hl,ah];exact H)
  rw[hs,jg]at hr;refine⟨g,cap,_,hr,.inl ⟨rfl,DU w g _⟩,H,_,gz w g F _ 3 _ hg,?_,?_⟩
  ·simp only[er,dE,dI,eh,dY]
   omega
  ·intro u J
   have J:u∈F.toList.take n++(z++F.toList.drop (n+z.length)):=by simpa [eI] using J
   rcases dO.1 J with h|h
   ·exact M u (eP h)
   ·rcases dO.1 h with h|h
    ·exact hn u h
    ·exact M u (eE h)
 ·have hx:(F.toList.take n).length=n*i.size:=by rw[hs,jg,dI,dY];omega
  have Z:∀j u,(F.toList.take n)[j]?=some u->w.cell? ((⟨g,0,none⟩:Addr).add j)=some u:=λj u J=>by
   rw[fP,dL];refine AJ hg j ?_;rw[eK]at J;split at J
   ·simpa using J
   ·cases J
  have hr:=run_append_grow (P:=Tryz.prog) w t ty 3 i _ ht hi hz ⟨g,0,none⟩ n cap (F.toList.take n) hx Z da m c z Y O qo qo (jc qo (by rw[hb];omega));have ak:=grownCap_ge w (n+m) cap 3;refine⟨w.heap.size,_,_,hr,.inr ⟨rfl,⟨rfl,rfl,rfl,qs,λk hk=>by show(w.heap.push _)[k]?=_;rw[dw,dk qo]⟩⟩,ak,_,dm w.drew _,?_,?_⟩
  ·simp only[iL,er,dE,hx,Y,hs,jg,iJ]
   show n+m+(_ - (n+m))*1=_;omega
  ·intro u J
   rw[iz]at J;rcases dO.1 J with h|h
   ·rcases dO.1 (by simpa using h) with h|h
    ·exact M u (eP h)
    ·exact hn u h
   ·unfold Builtin.zeroCells at h
    rw[eN]at h;obtain⟨j,_,rfl⟩:=fa.1 h;exact⟨0,by show(#[Value.int .i64 0]:Array Value)[j%1]! =_;rw[Nat.mod_one];rfl⟩
theorem DN{ops:Array Oper}{rest:List Oper}{o:Oper}{a:Act}{w:World}{Q:Exit->Act->World->Prop}(W:o.guard=none)(s x:Operand)(t:TypeId)
  (ho:o.op=.call {callee:=.builtin .append,args:=#[s,x],argTypes:=#[t,t]}) (ht:Tryz.prog.underlying t=some (.slice 3))
  (g n cap:Nat) (hs:a.eval s=.slice (qad g) n cap) (J:IntRow w g n cap) (M:Addr) (m c:Nat) (F:qL) (hx:a.eval x=.slice (some M) m c) (hl:F.length=m) (H:∀j u,F[j]?=some u->w.cell? (M.add j)=some u) (hn:∀u∈F,∃k,u=In i6 k) (O:n+m<=1000000)
  (h:∀g' z w',((g'=g/\BH g w w')\/(g'=w.heap.size/\Below w.heap.size w w'))->IntRow w' g' (n+m) z->wpList Tryz.prog ops Q rest (a.put o.dst (.slice (qad g') (n+m) z)) w'):wpList Tryz.prog ops Q (o::rest) a w:=by
 refine gd W λK hK=>?_
 obtain⟨g',z,w',hr,Y,Z⟩:=MP w t o.type ht g n cap J M m c F hl H hn O;unfold Oper.wp execOp;simp only[ho,resolve,invoke,builtin,eA,Sem.run_pure,Result.andThen_ok,fK,dK,ed,hs,hx,hr];exact hK _ _ (h g' z w' Y Z)
def SlAg(g x:Nat)(w:World)(ao:qO)(R:List Co):Prop:=R≠[]->∃b off,ao=some ⟨b,off,none⟩/\b<w.heap.size/\(b≠g/\b≠x)/\∀i r,R[i]?=some r->AcAt w b (off+i*8) r/\(r.1.aB≠[]->∃b' off',r.2.1=some ⟨b',off',none⟩/\b'<w.heap.size/\(b'≠g/\b'≠x)/\EnsAt w b' off' r.1.aB)
section
variable {g g' x:Nat} {w w':World} {ao:qO} {R:List Co}
def Us(w:World)(g:Nat):Prop:=(∀o s,w.cell? ⟨g,o,none⟩≠some (.string s))/\∀o i j,w.cell? ⟨g,o,none⟩=some (In i6 i)->w.cell? ⟨g,o+1,none⟩≠some (In i6 j)
theorem SlAg.of(h:SlA w ao R)(Y:Us w g)(hx:Us w x):SlAg g x w ao R:=λW=>by
 obtain⟨b,O,e,h1,J⟩:=h W;obtain⟨r0,z⟩:∃r,R[0]?=some r:=⟨R[0]'(i8.2 W),qs⟩;refine⟨b,O,e,h1,⟨?_,?_⟩,λi r hr=>⟨(J i r hr).1,λZ=>?_⟩⟩
 ·rintro rfl
  exact Y.1 _ _ (J 0 r0 z).1.1
 ·rintro rfl
  exact hx.1 _ _ (J 0 r0 z).1.1
 ·obtain⟨b',F,e',q1,H⟩:=(J i r hr).2 Z
  obtain⟨y,M⟩:∃y,r.1.aB[0]?=some y:=⟨r.1.aB[0]'(i8.2 Z),qs⟩;refine⟨b',F,e',q1,⟨?_,?_⟩,H⟩
  ·rintro rfl
   exact Y.2 _ _ _ (H 0 y M).1 (H 0 y M).2
  ·rintro rfl
   exact hx.2 _ _ _ (H 0 y M).1 (H 0 y M).2
theorem Q0{t:TypeId}(h:w.heap[g]?=some (.cells #[] t (0,0))):Us w g:=
 ⟨λo s z=>by rw[gU w g o _ _ _ h]at z;simp at z,λo i j z=>by rw[gU w g o _ _ _ h]at z;simp at z⟩
theorem noAct_w{ap:qO}{n cp:Nat}{av:Int}{a1 a2 a3:qO}{n1 n2 n3 c1 c2 c3:Nat}{fr:Nat × Nat}(h:w.heap[x]?=some (.cells #[Sl ap n cp,In i6 av,Sl a1 n1 c1,Sl a2 n2 c2,Sl a3 n3 c3] 30 fr)):Us w x:=by
 refine⟨λo s z=>(Fm h).1 _ _ z,λo i j z F=>?_⟩;rw[gU w x _ _ _ _ h]at z F;rcases o with _|_|_|_|_|o<;>first|(cases z;done)|(cases F;done)|simp at z
theorem SlAg.bl(h:SlAg g x w ao R)(hs:w.heap.size<=w'.heap.size)(hg:∀b,b<w.heap.size->b≠g->b≠g')(hb:∀b o v,b<w.heap.size->b≠g->b≠x->w.cell? ⟨b,o,none⟩=some v->w'.cell? ⟨b,o,none⟩=some v):SlAg g' x w' ao R:=λhR=>by
 obtain⟨b,Y,e,h1,⟨h2,F⟩,h3⟩:=h hR;have H:=λo v=>hb b o v h1 h2 F
 refine⟨b,Y,e,qo,⟨hg b h1 h2,F⟩,λi r hr=>⟨?_,λhl=>?_⟩⟩
 ·obtain⟨q0,M,O,W,q4,q5,q6,q7⟩:=(h3 i r hr).1
  exact⟨H _ _ q0,H _ _ M,H _ _ O,H _ _ W,H _ _ q4,H _ _ q5,H _ _ q6,H _ _ q7⟩
 ·obtain⟨Z,J,e',M,⟨O,z⟩,W⟩:=(h3 i r hr).2 hl
  exact⟨Z,J,e',qo,⟨hg Z M O,z⟩,λj y hy=>⟨hb _ _ _ M O z (W j y hy).1,hb _ _ _ M O z (W j y hy).2⟩⟩
theorem SlAg.below(h:SlAg g x w ao R)(hb:Below w.heap.size w w'):SlAg g x w' ao R:=h.bl hb.size (λ_ _ h=>h) λb o v z _ _ F=>by rw[hb.cell (p:=⟨b,o,none⟩) z];exact F
theorem SlAg.row(h:SlAg g x w ao R)(O:(g'=g/\BH g w w')\/(g'=w.heap.size/\Below w.heap.size w w')):SlAg g' x w' ao R:=by
 rcases O with⟨rfl,F⟩|⟨rfl,hb⟩
 ·exact h.bl (by rw[F.size];exact AG) (λ_ _ h=>h) λb o v _ J _ z=>by rw[eQ (w:=w) (F.aL b J)];exact z
 ·exact h.bl hb.size (λb M _=>qo) λb o v H _ _ z=>by rw[hb.cell (p:=⟨b,o,none⟩) H];exact z
theorem SlAg.ai (h:SlAg g x w ao R)(z:BH x w w'):SlAg g x w' ao R:=h.bl (by rw[z.size];exact AG) (λ_ _ h=>h) λb o v _ _ F H=>by rw[eQ (w:=w) (z.aL b F)];exact H
end
structure DoU(n x f:Nat)(ao:qO)(R:List Co)(w:World)(k g cap:Nat)(wr:World):Prop where
 row:IntRow wr g k cap
 gx:n<=g
 wx:∃(ap:qO) (l:List Bx) (cp:Nat) (a1 a2 a3:qO) (c1 c2 c3:Nat) (B:Bk),qBl wr x (qwV ap l.length cp B a1 c1 a2 c2 a3 c3) 30/\WA wr ap l a1 a2 a3 B
 vf:qBl wr f qzW 30
 bU:SlAg g x wr ao R
 below:Below w.heap.size w wr
section
variable {n x f k g g' cap cap':Nat} {ao:qO} {R:List Co} {w wr w' w'':World}
theorem DoU.bi(h:DoU n x f ao R w k g cap wr)(hb:Below wr.heap.size wr w'):DoU n x f ao R w k g cap w':=by
 obtain⟨ap,l,cp,a1,a2,a3,c1,c2,c3,B,z,F⟩:=h.wx;exact⟨h.row.below hb,h.gx,⟨ap,l,cp,a1,a2,a3,c1,c2,c3,B,AK hb z (AB z).1,F.below hb⟩,AK hb h.vf (AB h.vf).1,h.bU.below hb,h.below.trans (hb.mono h.below.size)⟩
theorem DoU.bW(h:DoU n x f ao R w k g cap wr)(W:(g'=g/\BH g wr w')\/(g'=wr.heap.size/\Below wr.heap.size wr w'))(H:IntRow w' g' (k+1) cap')(hx:x<n)(hf:f<n)(O:n<=wr.heap.size)(Y:w.heap.size<=x):DoU n x f ao R w (k+1) g' cap' w':=by
 have M:=h.gx;rcases W with⟨rfl,F⟩|⟨rfl,hb⟩
 ·obtain⟨ap,l,cp,a1,a2,a3,c1,c2,c3,B,J,z⟩:=h.wx
  exact⟨H,M,⟨ap,l,cp,a1,a2,a3,c1,c2,c3,B,(F.aL x qo).trans J,z.ai h.row.bare F⟩,(F.aL f qo).trans h.vf,h.bU.row (.inl ⟨rfl,F⟩),h.below.trans (F.below.mono qo)⟩
 ·have z:=h.bi hb
  exact⟨H,O,z.wx,z.vf,h.bU.row (.inr ⟨rfl,hb⟩),z.below⟩
theorem DoU.put(h:DoU n x f ao R w k g cap wr)(z:BH x wr w'){ap:qO}{l:List Bx}{cp:Nat}{a1 a2 a3:qO}{c1 c2 c3:Nat}{B:Bk}(hz:qBl w' x (qwV ap l.length cp B a1 c1 a2 c2 a3 c3) 30)(hA:WA wr ap l a1 a2 a3 B)(hx:x<n)(hf:x<f)(hw:w.heap.size<=x):DoU n x f ao R w k g cap w':=by
 have hg:=h.gx;obtain⟨M,l',Z,F,H,J,O,W,Y,B',h1,_⟩:=h.wx;exact⟨h.row.aV (z.aL g qo),hg,⟨ap,l,cp,a1,a2,a3,c1,c2,c3,B,hz,hA.ai (Fm h1) z⟩,(z.aL f qo).trans h.vf,h.bU.ai z,h.below.trans (z.below.mono hw)⟩
end
theorem Qz{w:World}{g:Nat}{fr:Nat × Nat}(h:w.heap[g]?=some (.cells qzV 28 fr)):NoStr w g:=
 .of h λj s z=>by rcases j with _|_|_|_|j<;>first|cases z|simp at z
theorem UN{w:World}{b:Nat}{k:Int}{fr:Nat × Nat}(h:w.heap[b]?=some (.cells #[In i6 k] 3 fr)):∀j u,([In i6 k]:qL)[j]?=some u->w.cell? ((⟨b,0,none⟩:Addr).add j)=some u:=DI h
theorem do_ask(l:List Bx)(ap:qO)(cp:Nat)(B:Bk)(a1 a2 a3:qO)(c1 c2 c3:Nat)(m:Mv)(w:World)(ey:inB m.st 1 6=true)(cw:0<=m.bv)(cx:m.bv<=1000)(Y:WA w ap l a1 a2 a3 B):
  Calls Tryz.prog 49 #[.agg (qwV ap l.length cp B a1 c1 a2 c2 a3 c3),.agg (qmV m)] w λe w'=>DoIs w e w':=by
 have HW:Hid (WA w ap l a1 a2 a3 B):=Y;clear Y;obtain⟨W0,cu,t0,t1,t2,ba,am⟩:=ME w (.cells (qwV ap l.length cp B a1 c1 a2 c2 a3 c3) 30) (.cells (qmV m) 38) (.cells qzW 30);obtain⟨x,hx⟩:∃x,w.heap.size=x:=⟨_,rfl⟩;obtain⟨y,hy⟩:∃y,x+1=y:=⟨_,rfl⟩;obtain⟨f,hf⟩:∃f,y+1=f:=⟨_,rfl⟩;have T0:Hid _:=t0;have T1:Hid _:=t1;have T2:Hid _:=t2;have b8:Hid _:=ba;clear t0 t1 t2 ba;go_enter Tryz.func49,Tryz.ntmps49
 go_upto_region 1 with fail
 rw[hx]at T0;rw[hx,hy]at T1;rw[hx,hy,hf]at T2;clear cu;have m0:W0.cell? ⟨y,0,none⟩=some (In i6 m.st):=AJ T1.ab 0
 go_upto_region 4 with(go_at_call 63;refine(Cx _ _ _ _).mono ?_;rintro e W1 ⟨rfl,rfl⟩)
 clear m0
 go_upto_region 5 with fail
 obtain⟨W2,aF⟩:∃W2,W1.alloc (.cells #[] 3)=W2:=⟨_,rfl⟩;rw[aF];have au:Below W1.heap.size W1 W2:=by rw[<-aF];exact AN _ _
 have G0:Hid (qBl W2 (W1.heap.size) #[] 3):=by unfold Hid;rw[<-aF];exact dm W1 _
 obtain⟨g0,aM⟩:∃g0,W1.heap.size=g0:=⟨_,rfl⟩;rw[aM]at G0;rw[aM];have ba:=b8.ab;have am:=am.trans (au.mono am.size);have T0:Hid _:=AK au T0.ab;have T1:Hid _:=AK au T1.ab;have T2:Hid _:=AK au T2.ab;have ev:=au.size;clear aF au;refine AU 7 ?_;apply AL
 ·intro V W K A Y hd z O
  simp only[pA]at z;subst z;go_wp2;exact O.ab _ brf
 apply qA0
 ·intro V W K A Y hd z O
  simp only[pA,qv (hd 0 qk)]at z;subst z;have z0:W.cell? ⟨y,0,none⟩=some (In i6 m.st):=AJ (AK Y T1.ab) 0;go_wp2;exact O
 apply qA0
 ·intro V W K A Y hd z O
  simp only[pA]at z;subst z;refine dB rfl 30 (.tmp 2) rfl x rfl 30 (qwV ap l.length cp B a1 c1 a2 c2 a3 c3) (0,0) _ (AK Y T0.ab) Tryz.underlying30 rfl AO ?_;go_wp2;exact O
 refine qA0 qP ?_
 apply qA0
 ·intro V W K A Y hd z O
  simp only[pA,qv (hd 3 qk)]at z;subst z;have z1:W.cell? ⟨y,1,none⟩=some (In i6 m.bv):=AJ (AK Y T1.ab) 1;go_wp2;exact O
 refine AZ (λv W=>∃(F H J:qO) (Z y2 y3:Nat) (C:Bk),v=.agg (qbV C F Z H y2 J y3)/\BkAt W F H J C/\C.aP/\C.aU) (λ_ _ _ ⟨a1,a2,a3,c1,c2,c3,C,h1,h2,h3⟩ hb=>⟨a1,a2,a3,c1,c2,c3,C,h1,h2.below hb,h3⟩) ?_ ?_
 ·intro V W K A Y hd z O
  simp only[pA,qv (hd 2 qk),qv (hd 4 qk)]at z;subst z
  go_wp2_with fail
  refine(view_any l ap cp B a1 a2 a3 c1 c2 c3 m.bv W cw cx HW.ab.ok ((HW.ab.bT.below am).below Y)).mono ?_;rintro e w2 ⟨v,rfl,F,H,J,Z,y2,y3,C,rfl,h1,h2,h3,h4⟩;go_wp2;exact O.ab _ _ h4 ⟨F,H,J,Z,y2,y3,C,rfl,h1,h2,h3⟩
 refine AZ (λv W=>∃(ao:qO) (cap:Nat) (R:List Co),v=.slice ao R.length cap/\SlA W ao R/\R.length<=1000/\∀r∈R,r.1.aB.length<=1000) (λ_ _ _ ⟨ao,cap,R,h1,h2,h3⟩ hb=>⟨ao,cap,R,h1,h2.below hb,h3⟩) ?_ ?_
 ·intro V W K A Y hd z O
  have d5:=hd 5 qk;simp only[pA,qv (hd 1 qk)]at z;generalize V 5=x5 at d5 z;subst z;obtain⟨F,H,J,Z,y2,y3,C,rfl,h1,h2,h3⟩:=d5
  go_wp2_with fail
  refine(SP m.st C F H J Z y2 y3 W h3 h2 h1).mono ?_;rintro e w2 ⟨ao,cap,R,rfl,bE,aD,z,hb⟩;go_wp2;exact O.ab _ _ hb ⟨ao,cap,R,rfl,z,bE,aD⟩
 intro V W A Y hS z;have d5:=hS 5;have d6:=hS 6;simp only[pA,qv (hS 0),qv (hS 1),qv (hS 2),qv (hS 3),qv (hS 4)]at z;clear hS;generalize V 5=x5 at d5 z;generalize V 6=x6 at d6 z;subst z;simp only[dA,dN];obtain⟨ao,ca,R,rfl,z,bE,aD⟩:=d6;clear d5;have b7:Hid _:=aD;have aN:=(AB G0.ab).1;have J0:Hid (DoU (x+3) x f ao R w 0 g0 0 W):=⟨⟨AG,#[],AK Y G0.ab aN,rfl,λu h=>by cases h⟩,qo,⟨ap,l,cp,a1,a2,a3,c1,c2,c3,B,AK Y T0.ab,(HW.ab.below am).below Y⟩,AK Y T2.ab,.of z (Q0 (AK Y G0.ab aN)) (noAct_w (AK Y T0.ab)),am.trans (Y.mono am.size)⟩;clear z aD HW T0 T1 T2 G0 am Y
 go_upto_region 7 with fail
 go_loopw [8,10] (λv8 iv wr=>∃k g cap:Nat,k<=R.length/\iv=In i6 k/\v8=.slice (qad g) k cap/\DoU (x+3) x f ao R w k g cap wr) (λ_ i _=>R.length - (intOf i).toNat)
 case atStart=>exact⟨0,g0,0,qo,rfl,rfl,J0.ab⟩
 case round=>
  obtain⟨k,g,cap,hk,rfl,rfl,hJ⟩:=hrel;obtain⟨a5,bS⟩:∃n,n=wr.heap.size:=⟨_,rfl⟩;have JR:Hid _:=hJ;clear hJ;obtain⟨ap,l,cp,a1,a2,a3,c1,c2,c3,B,bb,b2⟩:=JR.ab.wx;have VX:Hid _:=bb;have an:Hid (WA _ ap l a1 a2 a3 B):=b2;have aw:=(AB bb).1;clear bb b2
  by_cases a8:k<R.length
  rotate_left
  ·have VF:Hid _:=JR.ab.vf
   go_wp2_with (first
    |((with_reducible show wpList _ _ _ _ _ _);refine dB rfl 30 (.tmp 2) rfl x rfl 30 (qwV ap l.length cp B a1 c1 a2 c2 a3 c3) (0,0) _ VX.ab Tryz.underlying30 rfl AO ?_)
    |((with_reducible show wpList _ _ _ _ _ _);refine qAM VF.ab AO ?_;intro wz hz on;simp only[Act.put]))
   refine dF (v:=.tuple #[.agg (qwV ap l.length cp B a1 c1 a2 c2 a3 c3),_]) (Bm rfl _ wz f _ _ _ _ rfl hz.ab Tryz.underlying30 rfl AO _ rfl) rfl ?_;exact⟨_,_,rfl,wis_iff.2 ⟨ap,l,cp,a1,a2,a3,c1,c2,c3,B,rfl,an.ab.ai (Fm VF.ab) on,JR.ab.below.trans (on.below.mono qo)⟩⟩
  obtain⟨b,cF,ea,bX,_,a6⟩:=JR.ab.bU (by intro h;rw[h]at a8;simp at a8);subst ea;obtain⟨s,aG⟩:∃s,R[k]?=some s:=⟨R[k],by simp[a8]⟩;have ex:s.1.aB.length<=1000:=b7.ab s (AE aG);have bo:Hid (AcAt _ b (cF+k*8) s):=(a6 k s aG).1;have bv:Hid (SlE _ s.2.1 s.1.aB):=λhl=>let ⟨b',off',e',q1,_,q3⟩:=(a6 k s aG).2 hl;⟨b',off',e',q1,q3⟩
  clear a6 aG
  go_upto_region 9 with fail
  refine Gw 12 3 [[],[0],[],[],[2,3],[4],[1,5],[6],[7],[7],[],[8,10]] [11] [6,7,8,9,10,11] [9,11] [(11,7),(11,9)] (λ_ W W2=>∃b,qBl W b qzV 28/\BH b W W2) qk qk qk ?_;apply FN qk
  ·intro V W K AA Y hd z O
   simp only[pA]at z;subst z;go_wp2;exact O.ab _ brf
  apply FN qk
  ·intro V W K AA Y hd z O
   simp only[pA,qv (hd 0 qk)]at z;subst z;have e1:W.cell? ⟨x,1,none⟩=some (In i6 B.av):=AJ (AK Y VX.ab aw) 1;have e2:W.cell? ⟨x,2,none⟩=some (Sl a1 B.ah.length c1):=AJ (AK Y VX.ab aw) 2;have e3:W.cell? ⟨x,3,none⟩=some (Sl a2 B.ar.length c2):=AJ (AK Y VX.ab aw) 3;have e4:W.cell? ⟨x,4,none⟩=some (Sl a3 B.aw.length c3):=AJ (AK Y VX.ab aw) 4;go_wp2;exact O.ab _ brf
  apply FN qk
  ·intro V W K AA Y hd z O
   simp only[pA]at z;subst z;go_wp2;exact O.ab _ brf
  apply FN qk
  ·intro V W K AA Y hd z O
   simp only[pA]at z;subst z;go_wp2;exact O.ab _ brf
  apply FN qk
  ·intro V W K AA Y hd z O
   simp only[pA,qv (hd 2 qk),qv (hd 3 qk)]at z;subst z;go_wp2;exact O.ab _ brf
  apply FN qk
  ·intro V W K AA Y hd z O
   simp only[pA,qv (hd 4 qk)]at z;subst z;have hc:=bo.ab.below Y bX;unfold AcAt at hc;obtain⟨q0,q1,q2,q3,q4,q5,q6,q7⟩:=hc;go_wp2;exact O.ab _ brf
  refine De (λv W=>∃(F H J:qO) (Z y2 y3:Nat) (C:Bk) (kc:Int),v=.tuple #[.agg (qbV C F Z H y2 J y3),In i6 kc]/\BkAt W F H J C/\C.aP/\C.aU) (λ_ _ _ ⟨a1,a2,a3,c1,c2,c3,C,kc,h1,h2,h3⟩ hb=>⟨a1,a2,a3,c1,c2,c3,C,kc,h1,h2.below hb,h3⟩) qk qk ?_ ?_
  ·intro V W K AA Y hd z O
   simp only[pA,qv (hd 1 qk),qv (hd 5 qk)]at z;subst z
   go_wp2_with fail
   refine(apply_bk B s.1 a1 a2 a3 c1 c2 c3 s.2.1 s.2.2 W an.ab.ok.bs an.ab.ok.bz (an.ab.bT.bE.below Y) (bv.ab.below Y)).mono ?_;rintro e w2 ⟨v,rfl,F,H,J,Z,y2,y3,C,kc,rfl,h1,h2,h3,h4⟩;go_wp2;exact O.ab _ _ h4 ⟨F,H,J,Z,y2,y3,C,kc,rfl,h1,h2,h3⟩
  refine De (λv W=>∃(F H J:qO) (Z y2 y3:Nat) (C:Bk) (kc:Int),v=.tuple #[.agg (qbV C F Z H y2 J y3),In i6 kc]/\BkAt W F H J C/\C.aP/\C.aU) (λ_ _ _ ⟨a1,a2,a3,c1,c2,c3,C,kc,h1,h2,h3⟩ hb=>⟨a1,a2,a3,c1,c2,c3,C,kc,h1,h2.below hb,h3⟩) qk qk ?_ ?_
  ·intro V W K AA Y hd z O
   have d6:=hd 6 qk;simp only[pA]at z;generalize V 6=x6 at d6 z;subst z;obtain⟨F,H,J,Z,y2,y3,C,kc,rfl,h1⟩:=d6;go_wp2;exact O.ab _ _ brf ⟨F,H,J,Z,y2,y3,C,kc,rfl,h1⟩
  refine De (λv W=>∃(F H J:qO) (Z y2 y3:Nat) (C:Bk),v=.agg (qbV C F Z H y2 J y3)/\BkAt W F H J C/\C.aP/\C.aU) (λ_ _ _ ⟨a1,a2,a3,c1,c2,c3,C,h1,h2,h3⟩ hb=>⟨a1,a2,a3,c1,c2,c3,C,h1,h2.below hb,h3⟩) qk qk ?_ ?_
  ·intro V W K AA Y hd z O
   have d7:=hd 7 qk;simp only[pA]at z;generalize V 7=x7 at d7 z;subst z;obtain⟨F,H,J,Z,y2,y3,C,kc,rfl,h1⟩:=d7;go_wp2;exact O.ab _ _ brf ⟨F,H,J,Z,y2,y3,C,rfl,h1⟩
  refine De (λv _=>∃kc:Int,v=In i6 kc) (λ_ _ _ h _=>h) qk qk ?_ ?_
  ·intro V W K AA Y hd z O
   have d7:=hd 7 qk;simp only[pA]at z;generalize V 7=x7 at d7 z;subst z;obtain⟨F,H,J,Z,y2,y3,C,kc,rfl,h1⟩:=d7;go_wp2;exact O.ab _ _ brf ⟨kc,rfl⟩
  refine De (λv W=>∃b,v=.pointer (qad b)/\a5<=b/\qBl W b qzV 28) (λv W W2 ⟨b,h1,h2,h3⟩ hb=>⟨b,h1,h2,AK hb h3 (AB h3).1⟩) qk qk ?_ ?_
  ·intro V W K AA Y hd z O
   simp only[pA]at z;subst z;go_wp2;exact O.ab _ _ (AN W _) ⟨_,rfl,by rw[bS];exact Y.size,dm W _⟩
  refine Mg (λV (_:Value) W=>∃(b:Nat) (F H J:qO) (Z y2 y3:Nat) (C:Bk),V 10=.pointer (qad b)/\a5<=b/\qBl W b (qbV C F Z H y2 J y3) 28/\BkAt W F H J C/\C.aP/\C.aU) (λV v W W2 ⟨b,F,H,J,Z,y2,y3,C,hv,hn,h,hm,h2⟩ hb=>⟨b,F,H,J,Z,y2,y3,C,hv,hn,AK hb h (AB h).1,hm.below hb,h2⟩) (λv V V2 W ct ⟨b,F,H,J,Z,y2,y3,C,hv,hr⟩=>⟨b,F,H,J,Z,y2,y3,C,(ct 10 rfl).symm.trans hv,hr⟩) qk qk ?_ ?_
  ·intro V W K AA Y hd z O
   have d8:=hd 8 qk;have bB:=hd 10 qk;simp only[pA]at z;generalize ce:V 0=x0 at z O;generalize cf:V 1=F at z O;generalize ch:V 2=H at z O;generalize ci:V 3=J at z O;generalize cj:V 4=x4 at z O;generalize cl:V 5=x5 at z O;generalize cm:V 6=x6 at z O;generalize cn:V 7=x7 at z O;generalize co:V 8=x8 at d8 z O;generalize cr:V 9=x9 at z O;generalize bK:V 10=cL at bB z O;generalize bO:V 11=cM at z O;subst z;obtain⟨F,H,J,Z,y2,y3,C,rfl,hm,cv⟩:=d8;obtain⟨b',rfl,bT,az⟩:=bB;have HM:Hid (BkAt W F H J C):=hm;have eM:=Y.size;clear hm ce cf ch ci cj cl cm cn co cr bK bO;refine qAM az AY ?_;intro u2 hz on;have b9:Hid (qBl u2 b' (qbV C F Z H y2 J y3) 28):=hz;have aO:Hid (BH b' W u2):=on;have bq:Hid _:=az;clear hz on az;go_wp2;refine O.ab undef _ ?_ (aO.ab.below.mono qo) ⟨b',F,H,J,Z,y2,y3,C,rfl,bT,b9.ab,HM.ab.ai (Qz bq.ab) aO.ab,cv⟩;exact⟨b',bq.ab,aO.ab⟩
  refine⟨λi j hk V v W W' hr hq=>?_,?_⟩
  ·simp only[List.contains_cons,List.contains_nil,Bool.or_false,ep,fN,dR]at hk
   rcases hk with⟨rfl,rfl⟩|⟨rfl,rfl⟩
   ·have a9:(λv W=>∃(F H J:qO) (Z y2 y3:Nat) (C:Bk) (kc:Int),v=.tuple #[.agg (qbV C F Z H y2 J y3),In i6 kc]/\BkAt W F H J C/\C.aP/\C.aU) (v) W:=hq
    show(λv W=>∃(F H J:qO) (Z y2 y3:Nat) (C:Bk) (kc:Int),v=.tuple #[.agg (qbV C F Z H y2 J y3),In i6 kc]/\BkAt W F H J C/\C.aP/\C.aU) (v) W';clear hq;obtain⟨F,H,J,Z,y2,y3,C,kc,h,hm,hz⟩:=a9;obtain⟨b,az,on⟩:=hr;exact⟨F,H,J,Z,y2,y3,C,kc,h,hm.ai (Qz az) on,hz⟩
   ·have a9:(λv _=>∃kc:Int,v=In i6 kc) (v) W:=hq
    show(λv _=>∃kc:Int,v=In i6 kc) (v) W';clear hq;exact a9
  intro V W AA Y hS z;have d0:V 0=_:=hS 0 qo (.inr qk);have d1:V 1=_:=hS 1 qo (.inr qk);have d2:V 2=_:=hS 2 qo (.inr qk);have d3:V 3=_:=hS 3 qo (.inr qk);have d4:V 4=_:=hS 4 qo (.inr qk);have d5:V 5=_:=hS 5 qo (.inr qk);have d9:(λv _=>∃kc:Int,v=In i6 kc) (V 9) W:=hS 9 qo (.inl qk);have ay:(λV (_:Value) W=>∃(b:Nat) (F H J:qO) (Z y2 y3:Nat) (C:Bk),V 10=.pointer (qad b)/\a5<=b/\qBl W b (qbV C F Z H y2 J y3) 28/\BkAt W F H J C/\C.aP/\C.aU) V (V 11) W:=hS 11 qo (.inl qk);simp only[pA]at z;dsimp only at ay;clear hS;generalize V 0=x0 at d0 z;generalize V 1=F at d1 ay z;generalize V 2=H at d2 z;generalize V 3=J at d3 z;generalize V 4=x4 at d4 z;generalize V 5=x5 at d5 z;generalize V 9=x9 at d9 z;generalize V 10=cL at ay z;generalize V 11=cM at ay z;subst d0;subst d1;subst d2;subst d3;subst d4;subst d5;subst z;simp only[dA,dN];obtain⟨kc,rfl⟩:=d9;obtain⟨b',F,H,J,Z,y2,y3,C,rfl,bT,b0,hC,cd,cc⟩:=ay;have VB:Hid _:=b0;have HC:Hid (BkAt W F H J C):=hC;have JW:Hid _:=JR.ab.bi Y;have aC:Hid _:=AK Y VX.ab aw;have aB:Hid (WA W ap l a1 a2 a3 B):=an.ab.below Y;clear b0 hC Y VX an bo bv JR aw bX
  go_upto_region 11 with(first
   |((with_reducible show wpList _ _ _ _ _ _);refine dB rfl 30 (.tmp 2) rfl x rfl 30 (qwV ap l.length cp B a1 c1 a2 c2 a3 c3) (0,0) _ aC.ab Tryz.underlying30 rfl AO ?_)
   |((with_reducible show wpList _ _ _ _ _ _);refine dB rfl 28 (.tmp 11) rfl b' rfl 28 (qbV C F Z H y2 J y3) (0,0) _ VB.ab Tryz.underlying28 rfl AY ?_)
   |(go_at_call 111;refine(Q3 l ap cp B C a1 a2 a3 F H J c1 c2 c3 Z y2 y3 _ aB.ab.ok cd cc aB.ab.bT aB.ab.rt HC.ab).mono ?_;rintro e w4 ⟨v,rfl,hv⟩;obtain⟨aq,M,cq,z1,z2,z3,d1,d2,d3,D,rfl,z,a7⟩:=wis_iff.1 hv;have HA:Hid _:=z;have J4:Hid _:=JW.ab.bi a7;have bx:Hid _:=AK a7 aC.ab (AB aC.ab).1;clear hv z a7)
   |((with_reducible show wpList _ _ _ _ _ _);refine qAM bx.ab AO ?_;intro w5 hz on;have J5:Hid _:=J4.ab.put on hz.ab HA.ab qo qo qo;clear hz on;simp only[Act.put]))
  clear JW J4 HA aC bx VB HC aB;have J6:Hid (DoU _ x f _ R w k g cap (w5.alloc (.cells #[In i6 kc] 3))):=J5.ab.bi (AN _ _);have cz:x+3<=(w5.alloc (.cells #[In i6 kc] 3)).heap.size:=by have:=J6.ab.row.lt;have:=J6.ab.gx;omega
  go_wp2_with ((with_reducible show wpList _ _ _ _ _ _);refine DN rfl (.tmp 57) (.tmp 59) 48 rfl Tryz.underlying48 g k cap rfl J6.ab.row ⟨w5.heap.size,0,none⟩ 1 1 [In i6 kc] rfl rfl (UN (dm w5 _)) (λu hu=>⟨kc,by simpa using hu⟩) qo ?_;intro g2 bz w7 hr hi;have J7:Hid _:=J6.ab.bW hr hi qo qo cz qo;clear hr hi;simp only[Act.put])
  go_roundw
  case rel=>exact⟨k+1,g2,bz,qo,qn,rfl,J7.ab⟩
  case measure=>simp[intOf];omega
theorem Kq(l:List Bx)(ap:qO)(cp:Nat)(B:Bk)(a1 a2 a3:qO)(c1 c2 c3:Nat)(m:Mv)(w:World)(z:0<=m.bv)(F:m.bv<=1000)(J:m.ev.aP)(H:WA w ap l a1 a2 a3 B):
  Calls Tryz.prog 49 #[.agg (qwV ap l.length cp B a1 c1 a2 c2 a3 c3),.agg (qmV m)] w λe w'=>DoIs w e w':=by
 cases h:inB m.st 1 6
 ·exact do_sea l ap cp B a1 a2 a3 c1 c2 c3 m w h J H
 ·exact do_ask l ap cp B a1 a2 a3 c1 c2 c3 m w h z F H
theorem IntRow.bG{w:World}{g n cap:Nat}(h:IntRow w g n cap):∃z:List Value,z.length=n/\(∀j u,z[j]?=some u->w.cell? ((⟨g,0,none⟩:Addr).add j)=some u)/\∀u∈z,∃k,u=In i6 k:=by
 obtain⟨O,H,J,W,M⟩:=h;refine⟨H.toList.take n,by rw[dI,dY];omega,λj u F=>?_,λu F=>M u (eP F)⟩;rw[fP,dL];refine AJ J j ?_;rw[eK]at F;split at F
 ·simpa using F
 ·cases F
theorem int_row{w:World}{b:Nat}{cs:Array Value}(h:qBl w b cs 3)(z:∀u∈cs.toList,∃k,u=In i6 k):IntRow w b cs.size cs.size:=⟨AG,cs,h,rfl,z⟩
theorem IntRow.aL{w w':World}{g F h n cap:Nat}(H:IntRow w h n cap)(z:h≠g)(J:(F=g/\BH g w w')\/(F=w.heap.size/\Below w.heap.size w w')):IntRow w' h n cap/\h≠F:=by
 rcases J with⟨rfl,M⟩|⟨rfl,hb⟩
 ·exact⟨H.aV (M.aL h z),z⟩
 ·exact⟨H.below hb,by have:=H.lt;omega⟩
theorem JB{w w':World}{g z N:Nat}(F:N<=g)(H:N<=w.heap.size)(J:(z=g/\BH g w w')\/(z=w.heap.size/\Below w.heap.size w w')):Below N w w'/\N<=z:=by
 rcases J with⟨rfl,M⟩|⟨rfl,hb⟩
 ·exact⟨M.below.mono F,F⟩
 ·exact⟨hb.mono H,H⟩
structure OrU(T ga ca g0:Nat)(w:World)(no g cap:Nat)(wr:World):Prop where
 row:IntRow wr g no cap
 all:IntRow wr ga T ca
 ne:ga≠g
 gg:g0<=g
 g0:w.heap.size<=g0
 below:Below w.heap.size w wr
theorem OrU.bi{T ga ca g0 no g cap:Nat}{w wr w':World}(h:OrU T ga ca g0 w no g cap wr)(hb:Below wr.heap.size wr w'):OrU T ga ca g0 w no g cap w':=⟨h.row.below hb,h.all.below hb,h.ne,h.gg,h.g0,h.below.trans (hb.mono h.below.size)⟩
theorem OrU.bW{T ga ca g0 no g cap F z:Nat}{w wr w':World}(h:OrU T ga ca g0 w no g cap wr)(M:(F=g/\BH g wr w')\/(F=wr.heap.size/\Below wr.heap.size wr w'))(W:IntRow w' F (no+1) z):OrU T ga ca g0 w (no+1) F z w':=
 have Y:=h.row.lt;have O:=h.gg;have H:=h.g0;have J:=h.all.aL h.ne M;have hb:=JB (N:=g0) O qo M
 ⟨W,J.1,J.2,hb.2,H,h.below.trans (hb.1.mono H)⟩
theorem VI(b n c:Nat)(w:World)(hn:n<=100)(hI:IntRow w b n c):
  Calls Tryz.prog 78 #[.slice (qad b) n c] w λe w'=>∃g n' cap,e=.returned (.slice (qad g) n' cap)/\IntRow w' g n' cap/\n'<=106/\Below w.heap.size w w':=by
 have HI:Hid (IntRow w b n c):=hI;clear hI;go_enter Tryz.func78,Tryz.ntmps78
 go_upto_region 2 with fail
 obtain⟨O,aj⟩:∃O,w.alloc (.cells #[] 3)=O:=⟨_,rfl⟩;rw[aj];have af:Below w.heap.size w O:=by rw[<-aj];exact AN _ _
 have I0:Hid (IntRow O w.heap.size 0 0):=by unfold Hid;rw[<-aj];exact IntRow.new w
 obtain⟨g0,ax⟩:∃g0,w.heap.size=g0:=⟨_,rfl⟩;rw[ax]at I0;rw[ax];clear aj;obtain⟨Z,aD,aB,aC⟩:=(HI.ab.below af).bG;have aA:=I0.ab.lt;have NW:Hid (∀u∈Z,∃k,u=Value.int .i64 k):=aC
 have NC:Hid (∀j u,Z[j]?=some u->(O.alloc (.cells #[] 3)).cell? ((⟨b,0,none⟩:Addr).add j)=some u):=λj u hu=>by
  have h1:=aB j u hu;rw[fP]at h1 ⊢;rw[(AN O _).cell (p:=⟨b,0+j,none⟩) (by have:=HI.ab.lt;have:=af.size;show b<O.heap.size;omega)];exact h1
 have IN:Hid (IntRow (O.alloc (.cells #[] 3)) O.heap.size 0 0):=IntRow.new O;have au:Hid (Z.length=n):=aD;clear aD aB aC
 go_upto_region 3 with(first
  |((with_reducible show wpList _ _ _ _ _ _);refine DN rfl (.tmp 9) (.tmp 10) 48 rfl Tryz.underlying48 O.heap.size 0 0 rfl IN.ab ⟨b,0,none⟩ n c Z rfl au.ab NC.ab NW.ab qo ?_;intro g1 am w2 hr hi;rw[dL]at hi;have I2:Hid (IntRow w2 g1 n am):=hi;have O2:Hid _:=(I0.ab.below (AN O _)).aL qo hr;have B2:Hid _:=(JB (N:=O.heap.size) AG (AN O _).size hr);clear hr hi;simp only[Act.put])
  |((with_reducible show wpList _ _ _ _ _ _);refine DN rfl (.tmp 11) (.tmp 12) 48 rfl Tryz.underlying48 g1 n am rfl (I2.ab.below (AN w2 _)) ⟨w2.heap.size,0,none⟩ 6 6 [In i6 1,In i6 2,In i6 3,In i6 4,In i6 5,In i6 6] rfl rfl (DI (dm w2 _)) (λu hu=>by simp at hu;rcases hu with rfl|rfl|rfl|rfl|rfl|rfl<;>exact⟨_,rfl⟩) qo ?_;intro ga ca w3 hr hi;have I3:Hid (IntRow w3 ga (n+6) ca):=hi;have O3:Hid _:=(O2.ab.1.below (AN w2 _)).aL O2.ab.2 hr;have B3:Hid _:=(JB (N:=O.heap.size) B2.ab.2 (AH (AN O _).size (AH B2.ab.1.size (AN w2 _).size)) hr);clear hr hi;simp only[Act.put]))
 obtain⟨T,hT⟩:∃T,n+6=T:=⟨_,rfl⟩;rw[hT]at I3;rw[hT];have a5:T<=106:=qo
 clear hT;have al:=af.size;have J0:Hid (OrU T ga ca g0 w 0 g0 0 w3):=⟨O3.ab.1,I3.ab,Ne.symm O3.ab.2,AG,qo,(((af.trans ((AN O _).mono al)).trans (B2.ab.1.mono al)).trans ((AN w2 _).mono (by have:=B2.ab.1.size;have:=(AN O (.cells #[] 3)).size;omega))).trans (B3.ab.1.mono al)⟩;clear I0 I2 I3 O2 O3 B2 B3 HI NW NC IN au af al aA
 go_upto_region 4 with fail
 go_loopw [3,5] (λv3 iv wr=>∃k no g cap:Nat,k<=T/\iv=In i6 k/\v3=.slice (qad g) no cap/\no<=k/\OrU T ga ca g0 w no g cap wr) (λ_ i _=>T - (intOf i).toNat)
 case atStart=>exact⟨0,0,g0,0,qo,rfl,rfl,AG,J0.ab⟩
 case round=>
  clear J0;obtain⟨k,no,g,cap,hk,rfl,rfl,bK,hJ⟩:=hrel;have J:Hid _:=hJ;clear hJ
  by_cases a8:k<T
  rotate_left
  ·go_wp2
   go_ret;exact⟨g,no,cap,rfl,J.ab.row,qo,J.ab.below⟩
  obtain⟨kb,az⟩:=J.ab.all.cell a8;have ah:Hid _:=az;have a7:=J.ab.all.lt;have aA:=J.ab.row.lt;clear az
  go_upto_region 8 with fail
  go_loopw [6,7] (λv6 jv wq=>∃(bb:Bool) (j:Nat),j<=no/\v6=.bool bb/\jv=In i6 j/\Below wr.heap.size wr wq) (λ_ i _=>no - (intOf i).toNat)
  case atStart=>exact⟨false,0,qo,rfl,rfl,dG _ _⟩
  case round=>
   obtain⟨bb,j,hj,rfl,rfl,ae⟩:=hrel;have aF:=ae.size;have ah:Hid _:=(ae.cell (p:=⟨ga,k,none⟩) a7).trans ah.ab
   by_cases a6:j<no
   ·obtain⟨ka,ay⟩:=(J.ab.row.below ae).cell a6
    have aM:Hid _:=ay;clear ay;cases bb
    ·go_upto_region 10 with fail
     refine AU 12 ?_;apply AL
     ·intro V W K A M F z H
      simp only[pA]at z;subst z;go_wp2;exact H.ab _ brf
     iterate 4 refine qA0 qP ?_
     apply qA0
     ·intro V W K A M F z H
      simp only[pA,qv (F 1),qv (F 4)]at z;subst z;have b5:W.cell? ⟨g,j,none⟩=some (In i6 ka):=by rw[M.cell (p:=⟨g,j,none⟩) (by show g<_;omega)];exact aM.ab
      go_wp2;exact H
     iterate 3 refine qA0 qP ?_
     apply qA0
     ·intro V W K A M F z H
      simp only[pA,qv (F 1),qv (F 8)]at z;subst z;have a9:W.cell? ⟨ga,k,none⟩=some (In i6 kb):=by rw[M.cell (p:=⟨ga,k,none⟩) (by show ga<_;omega)];exact ah.ab
      go_wp2;exact H
     iterate 2 refine qA0 qP ?_
     intro V W A M Y z;simp only[pA,qv (Y 0),qv (Y 1),qv (Y 2),qv (Y 3),qv (Y 4),qv (Y 5),qv (Y 6),qv (Y 7),qv (Y 8),qv (Y 9),qv (Y 10),qv (Y 11)]at z;clear Y;subst z;simp only[dA,dN];go_wp2
     go_roundw
     case rel=>exact⟨_,j+1,qo,rfl,qn,ae.trans (M.mono aF)⟩
     case measure=>simp[intOf];omega
    ·go_upto_region 10 with fail
     refine AU 12 ?_;apply AL
     ·intro V W K A M F z H
      simp only[pA]at z;subst z;go_wp2;exact H.ab _ brf
     refine qA0 qP ?_
     refine AZ (λ_ _=>True) (λ_ _ _ _ _=>trivial) ?_ ?_
     ·intro V W K A M F z H
      simp only[pA,qv (F 1)]at z;subst z;go_wp2;exact H.ab _ _ brf trivial
     refine AZ (λ_ _=>True) (λ_ _ _ _ _=>trivial) ?_ ?_
     ·intro V W K A M F z H
      simp only[pA,qv (F 1)]at z;subst z;go_wp2;exact H.ab _ _ brf trivial
     refine AZ (λ_ _=>True) (λ_ _ _ _ _=>trivial) ?_ ?_
     ·intro V W K A M F z H
      have d1:V 1=_:=F 1;have d2:(λ_ _=>True) (V 2) W:=F 2;have d3:(λ_ _=>True) (V 3) W:=F 3;simp only[pA,d1]at z;clear F d1;generalize V 2=x2 at d2 z;generalize V 3=x3 at d3 z;subst z;go_wp2;exact H.ab _ _ brf trivial
     refine AZ (λ_ _=>True) (λ_ _ _ _ _=>trivial) ?_ ?_
     ·intro V W K A M F z H
      have d1:V 1=_:=F 1;have d4:(λ_ _=>True) (V 4) W:=F 4;simp only[pA,d1]at z;clear F d1;generalize V 4=x4 at d4 z;subst z;go_wp2;exact H.ab _ _ brf trivial
     refine AZ (λ_ _=>True) (λ_ _ _ _ _=>trivial) ?_ ?_
     ·intro V W K A M F z H
      simp only[pA,qv (F 1)]at z;subst z;go_wp2;exact H.ab _ _ brf trivial
     refine AZ (λ_ _=>True) (λ_ _ _ _ _=>trivial) ?_ ?_
     ·intro V W K A M F z H
      simp only[pA,qv (F 1)]at z;subst z;go_wp2;exact H.ab _ _ brf trivial
     refine AZ (λ_ _=>True) (λ_ _ _ _ _=>trivial) ?_ ?_
     ·intro V W K A M F z H
      have d1:V 1=_:=F 1;have d6:(λ_ _=>True) (V 6) W:=F 6;have d7:(λ_ _=>True) (V 7) W:=F 7;simp only[pA,d1]at z;clear F d1;generalize V 6=x6 at d6 z;generalize V 7=x7 at d7 z;subst z;go_wp2;exact H.ab _ _ brf trivial
     refine AZ (λ_ _=>True) (λ_ _ _ _ _=>trivial) ?_ ?_
     ·intro V W K A M F z H
      have d1:V 1=_:=F 1;have d8:(λ_ _=>True) (V 8) W:=F 8;simp only[pA,d1]at z;clear F d1;generalize V 8=x8 at d8 z;subst z;go_wp2;exact H.ab _ _ brf trivial
     refine AZ (λ_ _=>True) (λ_ _ _ _ _=>trivial) ?_ ?_
     ·intro V W K A M F z H
      have d1:V 1=_:=F 1;have d5:(λ_ _=>True) (V 5) W:=F 5;have d9:(λ_ _=>True) (V 9) W:=F 9;simp only[pA,d1]at z;clear F d1;generalize V 5=x5 at d5 z;generalize V 9=x9 at d9 z;subst z;go_wp2;exact H.ab _ _ brf trivial
     apply qA0
     ·intro V W K A M F z H
      have d1:V 1=_:=F 1;have aS:(λ_ _=>True) (V 10) W:=F 10;simp only[pA,d1]at z;clear F d1;generalize V 10=b4 at aS z;subst z;go_wp2;exact H
     intro V W A M Y z;simp only[pA,qv (Y 0),qv (Y 1),qv (Y 11)]at z;clear Y;subst z;simp only[dA,dN];go_wp2
     go_roundw
     case rel=>exact⟨_,j+1,qo,rfl,qn,ae.trans (M.mono aF)⟩
     case measure=>simp[intOf];omega
   have J2:Hid _:=J.ab.bi ae;cases bb
   rotate_left
   ·go_wp2
    go_roundw
    case rel=>exact⟨k+1,no,g,cap,qo,qn,rfl,qo,J2.ab⟩
    case measure=>simp[intOf];omega
   have a9:=ah.ab;cases bE:inB kb 1 6
   ·go_wp2_with (go_at_call 63;refine(Cx _ _ _ _).mono ?_;rintro e w5 ⟨rfl,rfl⟩)
    go_roundw
    case rel=>exact⟨k+1,no,g,cap,qo,qn,rfl,qo,J2.ab⟩
    case measure=>simp[intOf];omega
   ·go_wp2_with (first|(go_at_call 63;refine(Cx _ _ _ _).mono ?_;rintro e w5 ⟨rfl,rfl⟩)|((with_reducible show wpList _ _ _ _ _ _);refine DN rfl (.tmp 47) (.tmp 52) 48 rfl Tryz.underlying48 g no cap rfl (OrU.row (J2.ab.bi (AN _ _))) ⟨_,0,none⟩ 1 1 [In i6 kb] rfl rfl (UN (dm _ _)) (λu hu=>⟨kb,by simpa using hu⟩) qo ?_;intro g2 aw w7 hr hi;have J7:Hid _:=(J2.ab.bi (AN _ _)).bW hr hi;clear hr hi;simp only[Act.put]))
    go_roundw
    case rel=>exact⟨k+1,no+1,g2,aw,qo,qn,rfl,qo,J7.ab⟩
    case measure=>simp[intOf];omega
end
end Go.Proofs.YtbceafpodamnfaaGreatDoor
