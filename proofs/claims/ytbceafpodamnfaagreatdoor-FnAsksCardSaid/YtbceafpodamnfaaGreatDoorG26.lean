import Derived.Test.YtbceafpodamnfaaGreatDoorG14
import Derived.Deep.DeepCutAuto
set_option linter.all false
set_option maxHeartbeats 8000000
set_option maxRecDepth 100000
namespace Go.Proofs.YtbceafpodamnfaaGreatDoor
section
open Go.RowKit Go.Sort
open Go.Value renaming int->In,slice->Sl,string->Sg,bool->Bo,pointer->Po
open Go.IntKind renaming i64->i6
structure Sn where
 c:Cp
 aO:Bool
 aM:Bool
abbrev qnV (x:Sn):Array Value:=#[Sg x.c.aa,In i6 x.c.ak,In i6 x.c.ag,In i6 x.c.aj,In i6 x.c.ay,Bo x.c.am,Sg x.c.aC,Bo x.aO,Bo x.aM]
theorem VV(s:Svc)(c:Cp)(w:World):
  Calls Tryz.prog 170 #[.agg (qsV s),.agg (qcV c)] w λe w'=>e=.returned (.bool (c.aj !=s.aj))/\Below w.heap.size w w':=by
 have z:Below w.heap.size w ((w.alloc (.cells (qsV s) 34)).alloc (.cells (qcV c) 76)):=((dG _ _).alloc AG _).alloc qs _;go_enter Tryz.func170,Tryz.ntmps170;go_wp2;go_ret;exact⟨rfl,z⟩
def tfI(a b:Bool):Int:=if a=b then 0 else if a then -1 else 1
theorem GD(a b:Bool)(w:World):
  Calls Tryz.prog 307 #[Bo a,Bo b] w λe w'=>e=.returned (In i6 (tfI a b))/\w'=w:=by
 cases a<;>cases b
 all_goals
  go_enter Tryz.func307,Tryz.ntmps307;go_wp2;go_ret;exact⟨rfl,rfl⟩
theorem Kl(x:Int)(w:World):
  Calls Tryz.prog 337 #[In i6 x] w λe w'=>e=.returned (.bool false)/\w'=w:=by
 go_enter Tryz.func337,Tryz.ntmps337;go_wp2;go_ret;exact⟨AQ qs,rfl⟩
def Nu(x y:Int):Int:=if x<y then -1 else if y<x then 1 else 0
theorem Rq(x y:Int)(w:World):
  Calls Tryz.prog 308 #[In i6 x,In i6 y] w λe w'=>e=.returned (In i6 (Nu x y))/\w'=w:=by
 go_enter Tryz.func308,Tryz.ntmps308
 by_cases z:x<y
 ·go_wp2_with (go_at_call 337;refine(Kl _ _).mono ?_;rintro e w' ⟨rfl,rfl⟩)
  go_ret;exact⟨FM (by unfold Nu;rw[dv z]),rfl⟩
 ·by_cases F:y<x
  ·go_wp2_with (go_at_call 337;refine(Kl _ _).mono ?_;rintro e w' ⟨rfl,rfl⟩)
   go_ret;exact⟨FM (by unfold Nu;rw[dk qo,dv F]),rfl⟩
  ·go_wp2_with (go_at_call 337;refine(Kl _ _).mono ?_;rintro e w' ⟨rfl,rfl⟩)
   go_ret;exact⟨FM (by unfold Nu;rw[dk qo,dk qo]),rfl⟩
def orI:List Int->Int
 |[]=>0
 |x::l=>if x=0 then orI l else x
theorem orI_no(l:List Int):∀k,(∀i x,i<k->l[i]?=some x->x=0)->orI l=orI (l.drop k):=by
 induction l with
 |nil=>intro k _;simp
 |cons y l F=>
  intro k h
  cases k with
  |zero=>rfl
  |succ k=>
   have z:y=0:=h 0 y qo rfl;subst z;simp only[orI,gu,dA];exact F k λi x H hx=>h (i+1) x qo (by simpa using hx)
theorem orI_at{l:List Int}{k:Nat}{x:Int}(h:∀i x,i<k->l[i]?=some x->x=0)(hx:l[k]?=some x)(z:x≠0):orI l=x:=by
 rw[orI_no l k h];obtain⟨hk,e⟩:=AC hx;rw[fe hk,e];simp[orI,z]
theorem orI_end{l:List Int}(h:∀i x,i<l.length->l[i]?=some x->x=0):orI l=0:=by
 rw[orI_no l _ h,List.drop_length];rfl
theorem or_any(l:List Int)(g:Nat)(w:World)(hl:l.length<=1000)(W:∀i x,l[i]?=some x->w.cell? ⟨g,i,none⟩=some (In i6 x)):
  Calls Tryz.prog 306 #[.slice (qad g) l.length l.length] w λe w'=>e=.returned (In i6 (orI l))/\w'=w:=by
 have HG:Hid (∀i x,l[i]?=some x->w.cell? ⟨g,i,none⟩=some (In i6 x)):=W;clear W;go_enter Tryz.func306,Tryz.ntmps306;go_wp2
 go_loopw [8] (λiv wr=>∃k:Nat,k<=l.length/\iv=In i6 k/\w=wr/\Hid (∀i x,i<k->l[i]?=some x->x=0)) (λi _=>l.length - (intOf i).toNat)
 case atStart=>exact⟨0,qo,rfl,rfl,λi x Y=>absurd Y qo⟩
 case round=>
  obtain⟨k,hk,rfl,rfl,z⟩:=hrel
  by_cases J:k<l.length
  ·obtain⟨x,hx⟩:∃x,l[k]?=some x:=⟨l[k],by simp[J]⟩
   have O:Hid _:=hx;have hc:=HG.ab k x hx;clear hx;cases Z:(x !=0)
   ·have F:x=0:=by simpa using Z
    have HZ:Hid (∀i y,i<k+1->l[i]?=some y->y=0):=λi y Y M=>by
     rcases eW i k with h|h
     ·exact z.ab i y h M
     ·obtain rfl:i=k:=qo
      rw[O.ab]at M;cases M;exact F
    clear F;go_wp2
    go_roundw
    case rel=>exact⟨k+1,qo,qn,trivial,HZ⟩
    case measure=>simp[intOf];omega
   ·have H:Hid _:=orI_at z.ab O.ab (by simpa using Z)
    go_wp2;go_ret;exact⟨FM H.ab.symm,rfl⟩
  ·obtain rfl:k=l.length:=qo
   have H:Hid _:=orI_end z.ab;go_wp2;go_ret;exact⟨FM H.ab.symm,rfl⟩
theorem SE(x:Sn)(w:World):Calls Tryz.prog 174 #[.agg (qnV x)] w λe w'=>e=.returned (.bool x.aO)/\Below w.heap.size w w':=by
 go_enter Tryz.func174,Tryz.ntmps174;go_wp2;go_ret;exact⟨rfl,AN _ _⟩
theorem Pi(x:Sn)(w:World):Calls Tryz.prog 181 #[.agg (qnV x)] w λe w'=>e=.returned (.bool x.aM)/\Below w.heap.size w w':=by
 go_enter Tryz.func181,Tryz.ntmps181;go_wp2;go_ret;exact⟨rfl,AN _ _⟩
theorem Q8(x:Sn)(w:World):Calls Tryz.prog 177 #[.agg (qnV x)] w λe w'=>e=.returned (.bool (x.c.ay==4))/\Below w.heap.size w w':=by
 go_enter Tryz.func177,Tryz.ntmps177;go_wp2;go_ret;exact⟨rfl,AN _ _⟩
theorem Nq(k:Int)(w:World):Calls Tryz.prog 40 #[In i6 k] w λe w'=>e=.returned (.bool (inB k 1 6))/\w'=w:=by
 go_enter Tryz.func40,Tryz.ntmps40
 go_wp2_with (go_at_call 91;refine(A8 _ _ _ _).mono ?_;rintro e w' ⟨rfl,rfl⟩)
 go_ret;exact⟨rfl,rfl⟩
theorem AV:(Tryz.prog.info? 45).map (·.size)=some 8:=qk
theorem Bg:(Tryz.prog.info? 214).map (·.size)=some 9:=qk
theorem N3:(Tryz.prog.info? 34).map (·.size)=some 13:=qk
theorem Ag:(Tryz.prog.info? 145).map (·.size)=some 20:=qk
theorem N4:(Tryz.prog.info? 3).map (·.size)=some 1:=qk
theorem Ng:(Tryz.prog.info? 4).map (·.size)=some 1:=qk
theorem Nf:(Tryz.prog.info? 43).map (·.size)=some 1:=qk
theorem Iz:(Tryz.prog.info? 143).map (·.size)=some 1:=qk
def LA(x y:Sn):Bool:=
 if(x.c.ay !=3)!=(y.c.ay !=3) then x.c.ay !=3
 else if x.aO !=y.aO then x.aO
 else if x.aM !=y.aM then x.aM
 else decide (y.c.ak<x.c.ak)
def cmpE(x y:Sn):Int:=orI [tfI (x.c.ay !=3) (y.c.ay !=3),tfI x.aO y.aO,tfI x.aM y.aM,Nu y.c.ak x.c.ak]
theorem cmpE_neg(x y:Sn):decide (cmpE x y<0)=LA x y:=by
 unfold cmpE LA;generalize (x.c.ay !=3)=a;generalize (y.c.ay !=3)=b;generalize x.aO=c;generalize y.aO=d;generalize x.aM=e;generalize y.aM=f;cases a<;>cases b<;>cases c<;>cases d<;>cases e<;>cases f<;>simp[tfI,orI]
 all_goals
  unfold Nu
  by_cases z:y.c.ak<x.c.ak
  ·simp[z]
  ·by_cases F:x.c.ak<y.c.ak
   ·simp[z,F]
   ·simp[z,F]
theorem Ld(x y:Sn)(w:World):
  Calls Tryz.prog 242 #[.agg (qnV x),.agg (qnV y)] w λe w'=>e=.returned (In i6 (cmpE x y))/\Below w.heap.size w w':=by
 have aC:Below w.heap.size w ((w.alloc (.cells (qnV x) 214)).alloc (.cells (qnV y) 214)):=((dG _ _).alloc AG _).alloc qs _;obtain⟨t0,t1,t2⟩:=CL w (.cells (qnV x) 214) (.cells (qnV y) 214);have T0:Hid _:=t0;have T1:Hid _:=t1;have HS:Hid _:=t2;clear t0 t1 t2;go_enter Tryz.func242,Tryz.ntmps242;go_wp2;refine AU 28 ?_;apply AL
 ·intro V W K A O H F J
  simp only[pA]at F;subst F;go_wp2;exact J.ab _ brf
 refine qA0 qP ?_
 apply qA0
 ·intro V W K A O H F J
  simp only[pA,qv (H 1)]at F;subst F;have e4:=AJ (AK O T0.ab (by rw[HS.ab];omega)) 4;go_wp2;exact J
 iterate 3 refine qA0 qP ?_
 apply qA0
 ·intro V W K A O H F J
  simp only[pA,qv (H 5)]at F;subst F;have e4:=AJ (AK O T1.ab (by rw[HS.ab];omega)) 4;go_wp2;exact J
 refine qA0 qP ?_
 apply qA0
 ·intro V W K A O H F J
  simp only[pA,qv (H 3),qv (H 7)]at F;subst F
  go_wp2_with fail
  refine(GD _ _ _).mono ?_;rintro e w3 ⟨rfl,rfl⟩;go_wp2;exact J
 refine qA0 qP ?_
 apply qA0
 ·intro V W K A O H F J
  simp only[pA,qv (H 9)]at F;subst F;have e7:=AJ (AK O T0.ab (by rw[HS.ab];omega)) 7;go_wp2;exact J
 refine qA0 qP ?_
 apply qA0
 ·intro V W K A O H F J
  simp only[pA,qv (H 11)]at F;subst F;have e7:=AJ (AK O T1.ab (by rw[HS.ab];omega)) 7;go_wp2;exact J
 apply qA0
 ·intro V W K A O H F J
  simp only[pA,qv (H 10),qv (H 12)]at F;subst F
  go_wp2_with fail
  refine(GD _ _ _).mono ?_;rintro e w3 ⟨rfl,rfl⟩;go_wp2;exact J
 refine qA0 qP ?_
 apply qA0
 ·intro V W K A O H F J
  simp only[pA,qv (H 14)]at F;subst F;have e8:=AJ (AK O T0.ab (by rw[HS.ab];omega)) 8;go_wp2;exact J
 refine qA0 qP ?_
 apply qA0
 ·intro V W K A O H F J
  simp only[pA,qv (H 16)]at F;subst F;have e8:=AJ (AK O T1.ab (by rw[HS.ab];omega)) 8;go_wp2;exact J
 apply qA0
 ·intro V W K A O H F J
  simp only[pA,qv (H 15),qv (H 17)]at F;subst F
  go_wp2_with fail
  refine(GD _ _ _).mono ?_;rintro e w3 ⟨rfl,rfl⟩;go_wp2;exact J
 iterate 2 refine qA0 qP ?_
 apply qA0
 ·intro V W K A O H F J
  simp only[pA,qv (H 20)]at F;subst F;have e1:=AJ (AK O T1.ab (by rw[HS.ab];omega)) 1;go_wp2;exact J
 iterate 2 refine qA0 qP ?_
 apply qA0
 ·intro V W K A O H F J
  simp only[pA,qv (H 23)]at F;subst F;have e1:=AJ (AK O T0.ab (by rw[HS.ab];omega)) 1;go_wp2;exact J
 apply qA0
 ·intro V W K A O H F J
  simp only[pA,qv (H 21),qv (H 24)]at F;subst F
  go_wp2_with fail
  refine(Rq _ _ _).mono ?_;rintro e w3 ⟨rfl,rfl⟩;go_wp2;exact J
 refine AZ (λv W=>∃p,v=.slice (qad p) 4 4/\qBl W p #[In i6 (tfI (x.c.ay !=3) (y.c.ay !=3)),In i6 (tfI x.aO y.aO),In i6 (tfI x.aM y.aM),In i6 (Nu y.c.ak x.c.ak)] 3) (λv W W2 ⟨p,h1,h3⟩ hb=>⟨p,h1,AK hb h3 (AB h3).1⟩) ?_ ?_
 ·intro V W K A O H F J
  simp only[pA,qv (H 8),qv (H 13),qv (H 18),qv (H 25)]at F;subst F;go_wp2;exact J.ab _ _ (AN W _) ⟨_,rfl,dm W _⟩
 apply qA0
 ·intro V W K A O H F J
  have Z:=H 26;simp only[pA]at F;generalize V 26=aG at Z F;subst F;obtain⟨p,rfl,hp⟩:=Z;have HP:Hid _:=hp;clear hp
  go_wp2_with fail
  refine(or_any [tfI (x.c.ay !=3) (y.c.ay !=3),tfI x.aO y.aO,tfI x.aM y.aM,Nu y.c.ak x.c.ak] p _ qs (λi z Y=>?_)).mono ?_
  ·rw[H6 HP.ab]
   match i,Y with
   |0,Y=>cases Y;rfl
   |1,Y=>cases Y;rfl
   |2,Y=>cases Y;rfl
   |3,Y=>cases Y;rfl
   |i+4,Y=>simp at Y
  rintro e w3 ⟨rfl,rfl⟩;go_wp2;exact J
 intro V W A O M F;have d0:V 0=_:=M 0;have d1:V 1=_:=M 1;have d2:V 2=_:=M 2;have d3:V 3=_:=M 3;have d4:V 4=_:=M 4;have d5:V 5=_:=M 5;have d6:V 6=_:=M 6;have d7:V 7=_:=M 7;have d8:V 8=_:=M 8;have d9:V 9=_:=M 9;have ae:V 10=_:=M 10;have af:V 11=_:=M 11;have ag:V 12=_:=M 12;have ah:V 13=_:=M 13;have aj:V 14=_:=M 14;have ak:V 15=_:=M 15;have al:V 16=_:=M 16;have am:V 17=_:=M 17;have an:V 18=_:=M 18;have aq:V 19=_:=M 19;have au:V 20=_:=M 20;have aw:V 21=_:=M 21;have ax:V 22=_:=M 22;have ay:V 23=_:=M 23;have az:V 24=_:=M 24;have aA:V 25=_:=M 25;have Z:(λv W=>∃p,v=.slice (qad p) 4 4/\qBl W p #[In i6 (tfI (x.c.ay !=3) (y.c.ay !=3)),In i6 (tfI x.aO y.aO),In i6 (tfI x.aM y.aM),In i6 (Nu y.c.ak x.c.ak)] 3) (V 26) W:=M 26;have aB:V 27=_:=M 27;simp only[pA,d0,d1,d2,d3,d4,d5,d6,d7,d8,d9,ae,af,ag,ah,aj,ak,al,am,an,aq,au,aw,ax,ay,az,aA,aB]at F;clear M d0 d1 d2 d3 d4 d5 d6 d7 d8 d9 ae af ag ah aj ak al am an aq au aw ax ay az aA aB;generalize V 26=aG at Z F;subst F;simp only[dA,dN];go_wp2;go_ret;exact⟨rfl,aC.trans (O.mono aC.size)⟩
def Sn.cells(x:Sn):List Value:=((qnV x):Array Value).toList
def JC(l:List Sn):List Value:=l.flatMap Sn.cells
theorem snsV_len(l:List Sn):(JC l).length=l.length*9:=by
 induction l with
 |nil=>rfl
 |cons x l z=>unfold JC at *;rw[eB,dE,z,dM];simp[Sn.cells];omega
theorem Je(l:List Sn)(x:Sn):JC (l++[x])=JC l++x.cells:=by simp[JC]
theorem Tx:∀(l:List Sn) (j:Nat) (x:Sn),l[j]?=some x->∀i,i<9->(JC l)[j*9+i]?=x.cells[i]?
 |[],_,_,h=>by simp at h
 |y::l,0,x,h=>λi z=>by
  simp at h;subst h;rw[ik,dL];unfold JC;rw[eB,dT (by simp[Sn.cells];omega)]
 |y::l,j+1,x,h=>λi z=>by
  have:=Tx l j x (by simpa using h) i z;have F:y.cells.length=9:=by simp[Sn.cells]
  have e:JC (y::l)=y.cells++JC l:=rfl;rw[e,dU (by rw[F];omega),F,show(j+1)*9+i - 9=j*9+i by omega];exact this
theorem one_Sn(x:Sn):((qnV x):Array Value).all (·.oneCell')=true:=by simp[Value.oneCell']
def SnAt(w:World)(b o:Nat)(x:Sn):Prop:=w.cell? ⟨b,o,none⟩=some (.string x.c.aa)/\w.cell? ⟨b,o+1,none⟩=some (In i6 x.c.ak)/\w.cell? ⟨b,o+2,none⟩=some (In i6 x.c.ag)/\w.cell? ⟨b,o+3,none⟩=some (In i6 x.c.aj)/\w.cell? ⟨b,o+4,none⟩=some (In i6 x.c.ay)/\w.cell? ⟨b,o+5,none⟩=some (.bool x.c.am)/\w.cell? ⟨b,o+6,none⟩=some (.string x.c.aC)/\w.cell? ⟨b,o+7,none⟩=some (.bool x.aO)/\w.cell? ⟨b,o+8,none⟩=some (.bool x.aM)
theorem SnAt.below{N:Nat}{w w':World}{b o:Nat}{x:Sn}(h:SnAt w b o x)(hb:Below N w w')(z:b<N):SnAt w' b o x:=by
 unfold SnAt at *;simp only[λo=>hb.cell (p:=⟨b,o,none⟩) z];exact h
def OwnSn(lo:Nat)(w:World)(al:qO)(cl:Nat)(l:List Sn):Prop:=w.ownsRow lo 214 9 (Sl al l.length cl) l.length (JC l)
theorem DH(w:World)(A B:Obj):∃z,(w.alloc A).alloc B=z/\z.heap[w.heap.size]?=some A/\z.heap[w.heap.size+1]?=some B/\w.heap.size+1+1<=z.heap.size/\z.heap.size<=w.heap.size+1+1/\Below w.heap.size w z:=by
 obtain⟨F,t1,t2⟩:=CL w A B;exact⟨_,rfl,F,t1,by rw[t2];exact AG,by rw[t2];exact AG,((dG _ _).alloc AG _).alloc qs _⟩
theorem Ai{w w':World}{lo N:Nat}{e:TypeId}{size:Nat}{v:Value}{n:Nat}{xs:qL}(h:w.ownsRow lo e size v n xs)(hb:Below N w w')(O:w.heap.size<=N):w'.ownsRow lo e size v n xs:=by
 obtain⟨H,F⟩:=h;refine⟨H,?_⟩;rcases F with F|⟨g,cap,z,r1,r2,r3,M⟩
 ·exact .inl F
 ·have J:g<w.heap.size:=(AB r3).1
  exact .inr ⟨g,cap,z,r1,r2,(hb.block g qo).trans r3,M⟩
theorem Dv{w w':World}{lo:Nat}{e:TypeId}{size:Nat}{v:Value}{n:Nat}{xs:qL}(h:w.ownsRow lo e size v n xs)(hb:∀g,lo<=g->g<w.heap.size->w'.heap[g]?=w.heap[g]?):w'.ownsRow lo e size v n xs:=by
 obtain⟨H,F⟩:=h;refine⟨H,?_⟩;rcases F with F|⟨g,cap,z,r1,r2,r3,J⟩
 ·exact .inl F
 ·exact .inr ⟨g,cap,z,r1,r2,(hb g r2 (AB r3).1).trans r3,J⟩
theorem BC{w:World}{lo z:Nat}{e:TypeId}{size:Nat}{v:Value}{n:Nat}{xs:qL}(h:w.ownsRow lo e size v n xs)(M:z<=lo):w.ownsRow z e size v n xs:=by
 obtain⟨J,H⟩:=h;refine⟨J,?_⟩;rcases H with H|⟨g,cap,F,r1,r2,r⟩
 ·exact .inl H
 ·exact .inr ⟨g,cap,F,r1,AH M r2,r⟩
theorem OwnSn.at{lo:Nat}{w:World}{al:qO}{cl:Nat}{l:List Sn}(h:OwnSn lo w al cl l){k:Nat}{x:Sn}(hx:l[k]?=some x):∃g,al=some ⟨g,0,none⟩/\lo<=g/\g<w.heap.size/\SnAt w g (k*9) x:=by
 have hk:=(AC hx).1;have F:=h;rcases h.2 with⟨_,O⟩|⟨g,cap,z,r1,r2,r3,W⟩
 ·omega
 ·have e:al=some ⟨g,0,none⟩:=by cases r1;rfl
  subst e;have H:=World.ownsRow.cells F (g:=g) rfl;refine⟨g,rfl,r2,(AB r3).1,?_⟩
  have hv:∀(i:Nat) (u:Value),i<9->x.cells[i]?=some u->w.cell? ⟨g,k*9+i,none⟩=some u:=λi u J M=>by
   have:=H (k*9+i) u ((Tx l k x hx i J).trans M);rw[fP,dL]at this;exact this
  unfold SnAt;exact⟨hv 0 _ qo rfl,hv 1 _ qo rfl,hv 2 _ qo rfl,hv 3 _ qo rfl,hv 4 _ qo rfl,hv 5 _ qo rfl,hv 6 _ qo rfl,hv 7 _ qo rfl,hv 8 _ qo rfl⟩
theorem P2(s:Svc)(N:Cnt)(dr:Int)(al:qO)(n cl:Nat)(w:World):
  Calls Tryz.prog 180 #[.agg (qhV s N dr al n cl)] w λe w'=>e=.returned (.agg (qgV s.name s.ag 0 0 0 false (Sl none 0 0) false))/\Below w.heap.size w w':=by
 obtain⟨t0,t1,t2⟩:=CL w (.cells (qhV s N dr al n cl) 145) (.cells qzA 45);have O:Hid _:=t1;clear t0 t1 t2;have z:Below w.heap.size w ((w.alloc (.cells (qhV s N dr al n cl) 145)).alloc (.cells qzA 45)):=((dG _ _).alloc AG _).alloc qs _;go_enter Tryz.func180,Tryz.ntmps180
 go_wp2_with (first
  |(refine qAM O.ab AV ?_;intro wf F H;have M:Hid (qBl wf ((w.heap.size+1)) (qgV s.name s.ag 0 0 0 false (Sl none 0 0) false) 45):=F;have J:=z.trans (H.below.mono qo);obtain⟨W,Y,p2,p3,p4,Z,p6,p7⟩:=qc8 M.ab;clear F H))
 refine dF (v:=.agg (qgV s.name s.ag 0 0 0 false (Sl none 0 0) false)) (by simp[results,Tryz.results180,go_sem,W,Y,p2,p3,p4,Z,p6,p7]) rfl ⟨rfl,J⟩
theorem LO(s:Svc)(N:Cnt)(dr:Int)(al:qO)(n cl:Nat)(m:Int)(w:World):
  Calls Tryz.prog 171 #[.agg (qhV s N dr al n cl),In i6 m] w λe w'=>e=.returned (.tuple #[.agg (qgV s.name s.ag m 0 0 false (Sl none 0 0) false),Bo true])/\Below w.heap.size w w':=by
 obtain⟨W0,M,t0,t1,aq,Z,J⟩:=DH w (.cells (qhV s N dr al n cl) 145) (.cells qzA 45);have O:Hid _:=t0;have W:Hid _:=t1;clear t0 t1;go_enter Tryz.func171,Tryz.ntmps171
 go_upto_region 1 with fail
 clear M
 go_wp2_with (first
  |(refine dB rfl 145 (.tmp 2) rfl w.heap.size rfl 145 (qhV s N dr al n cl) (0,0) _ O.ab Tryz.underlying145 rfl Ag ?_))
 refine(P2 s N dr al n cl _).mono ?_;rintro e w1 ⟨rfl,F⟩;have Bi:=J.trans (F.mono J.size);have au:=F.size;have U1:Hid (qBl w1 (w.heap.size+1) qzA 45):=AK F W.ab;clear F J O W
 go_wp2_with (first
  |(refine qAM (dm w1 _) AV ?_;intro wa H z;have Y:Hid (qBl wa (w1.heap.size) (qgV s.name s.ag 0 0 0 false (Sl none 0 0) false) 45):=H;have R0:Hid _:=(z.aL (w.heap.size+1) qo).trans (AK (AN w1 _) U1.ab);have B0:=(Bi.alloc qo _).trans (z.below.mono qo);have z0:=z.size;have q0:=AJ Y.ab 0;clear H z)
  |(refine Am rfl 3 (.tmp 10) (.tmp 9) rfl w1.heap.size 2 (In i6 m) rfl rfl N4 rfl rfl 45 (qgV s.name s.ag 0 0 0 false (Sl none 0 0) false) Y.ab (AD rfl) ?_;intro wb H z;have Y1:Hid (qBl wb (w1.heap.size) (qgV s.name s.ag m 0 0 false (Sl none 0 0) false) 45):=H;have R1:Hid _:=(z.aL (w.heap.size+1) qo).trans R0.ab;have B1:=B0.trans (z.below.mono qo);obtain⟨q0,q1,q2,q3,q4,q5,q6,q7⟩:=qc8 Y1.ab;clear H z)
  |(refine qAM R1.ab AV ?_;intro wf H z;have RF:Hid (qBl wf ((w.heap.size+1)) (qgV s.name s.ag m 0 0 false (Sl none 0 0) false) 45):=H;have BF:=B1.trans (z.below.mono qo);obtain⟨p0,p1,p2,p3,p4,p5,p6,p7⟩:=qc8 RF.ab;clear H z))
 refine dF (v:=.tuple #[.agg (qgV s.name s.ag m 0 0 false (Sl none 0 0) false),Bo true]) (by simp[results,Tryz.results171,go_sem,p0,p1,p2,p3,p4,p5,p6,p7]) rfl ⟨rfl,BF⟩
end
end Go.Proofs.YtbceafpodamnfaaGreatDoor
