import Derived.Test.YtbceafpodamnfaaGreatDoorG43
set_option linter.all false
set_option maxHeartbeats 8000000
set_option maxRecDepth 100000
namespace Go.Proofs.YtbceafpodamnfaaGreatDoor
section
open Go.RowKit Go.Sort
open Go.Value renaming int->In,slice->Sl,string->Sg,bool->Bo,pointer->Po
open Go.IntKind renaming i64->i6
theorem N2:(Tryz.prog.info? 227).map (·.size)=some 14:=qk
theorem four_new(w:World)(A B C D:Obj):∃z,(((w.alloc A).alloc B).alloc C).alloc D=z/\z.heap[w.heap.size]?=some A/\z.heap[w.heap.size+1]?=some B/\z.heap[w.heap.size+1+1]?=some C/\z.heap[w.heap.size+1+1+1]?=some D/\z.heap.size=w.heap.size+4/\Below w.heap.size w z:=by
 refine⟨_,rfl,?_,?_,?_,?_,?_,?_⟩
 ·show((((w.heap.push A).push B).push C).push D)[w.heap.size]?=_
  rw[dw,dk (by simp<;>omega),dw,dk (by simp<;>omega),dw,dk qs,dw,dv rfl]
 ·show((((w.heap.push A).push B).push C).push D)[w.heap.size+1]?=_
  rw[dw,dk (by simp<;>omega),dw,dk qs,dw,dv qs]
 ·show((((w.heap.push A).push B).push C).push D)[w.heap.size+1+1]?=_
  rw[dw,dk qs,dw,dv qs]
 ·show((((w.heap.push A).push B).push C).push D)[w.heap.size+1+1+1]?=_
  rw[dw,dv qs]
 ·show((((w.heap.push A).push B).push C).push D).size=_
  simp
 ·exact((((dG _ _).alloc AG _).alloc qs _).alloc qp _).alloc qp _
theorem F9{Q:Ending->World->Prop}(T:Array Value)(z F:Nat)(c:Int)(W:World)(h4:T.getD 4 undef=.pointer (qad z))(h5:T.getD 5 undef=.pointer (qad F))(ha:qBl W z qzV 28)(he:qBl W F #[.nilIface] 127)
  (hQ:∀w',(∀N,N<=z->N<=F->N<=W.heap.size->Below N W w')->Q (.returned (.tuple #[.agg qzV,S9 c])) w'):
  bodyPostD Tryz.prog Tryz.f100 Q (Exit.panic (OQ c)) {tmps:=T,defers:=[{target:=Target.fn (Fn.func 182) #[.pointer (qad z),.pointer (qad F)],args:=#[]}]} W:=by
 refine leaves_cons (f:=182) (args:=#[.pointer (qad z),.pointer (qad F)]) qs (by simp[go_sem]) ?_;refine(Vp z F c W ha he).mono ?_;rintro e u' O ⟨rfl,rfl,H,Z,h3⟩;have J:T[4]?.getD undef=.pointer (qad z):=by simpa using h4
 have M:T[5]?.getD undef=.pointer (qad F):=by simpa using h5
 have k0:=AJ H 0;have k1:=AJ H 1;have k2:=AJ H 2;have k3:=AJ H 3;have hc:=AJ Z 0;have Y:=hQ O h3;unfold S9 at Y;simp[Leaves,settle,results,Tryz.results100,go_sem,J,M,k0,k1,k2,k3,asAddr,hc];exact Y
theorem door_yes{Q:Ending->World->Prop}(T:Array Value)(z F:Nat)(x0 x1 x2 x3:Value)(W:World)(h4:T.getD 4 undef=.pointer (qad z))(h5:T.getD 5 undef=.pointer (qad F))(Z:qBl W z #[x0,x1,x2,x3] 28)(he:qBl W F #[.nilIface] 127)
  (hQ:∀w',Below W.heap.size W w'->Q (.returned (.tuple #[.agg #[x0,x1,x2,x3],.nilIface])) w'):
  bodyPostD Tryz.prog Tryz.f100 Q Exit.ret {tmps:=T,defers:=[{target:=Target.fn (Fn.func 182) #[.pointer (qad z),.pointer (qad F)],args:=#[]}]} W:=by
 refine leaves_cons (f:=182) (args:=#[.pointer (qad z),.pointer (qad F)]) qs (by simp[go_sem]) ?_;refine(TY z F W).mono ?_;rintro e u' Y ⟨rfl,rfl,J⟩;have H:=AK J Z (AB Z).1;have h2:=AK J he (AB he).1;have M:T[4]?.getD undef=.pointer (qad z):=by simpa using h4
 have O:T[5]?.getD undef=.pointer (qad F):=by simpa using h5
 have k0:=AJ H 0;have k1:=AJ H 1;have k2:=AJ H 2;have k3:=AJ H 3;have hc:=AJ h2 0;have hq:=hQ Y J;simp[Leaves,settle,results,Tryz.results100,go_sem,M,O,k0,k1,k2,k3,asAddr,hc];exact hq
def DoIsW(N:Nat)(B:Bk)(A:Ac)(e:Ending)(w':World):Prop:=
 (BM B A=0/\∃b1 b2 b3 d1 d2 d3,e=.returned (.tuple #[.agg #[In i6 (BL B A).av,.slice b1 (BL B A).ah.length d1,.slice b2 (BL B A).ar.length d2,.slice b3 (BL B A).aw.length d3],.nilIface])/\BkOf w' N (BL B A) b1 b2 b3 d1 d2 d3)\/
 (∃c,BM B A=c/\c≠0/\e=.returned (.tuple #[.agg qzV,S9 c]))
theorem Re(B:Bk)(A:Ac)(a1 a2 a3:qO)(c1 c2 c3:Nat)(Z:qO)(ce:Nat)(w:World)(hV:Valid B)(am:B.aR)(hZ:B.aP)(hB:BkAt w a1 a2 a3 B)(hl:A.aB.length<=1048576)(hE:SlE w Z A.aB)(ft:A.aa.size<=maxLen)(et:Hid (∀e∈A.aB,(Lit.int .i64 e.ak).wf=true))(cT:Hid (Nk B A)):
  Calls Tryz.prog 100 #[.agg (qbV B a1 c1 a2 c2 a3 c3),.agg (qaV A Z ce)] w λe w'=>DoIsW w.heap.size B A e w'/\Below w.heap.size w w':=by
 obtain⟨W0,fr,t0,t1,t2,t3,fv,O⟩:=four_new w (.cells (qbV B a1 c1 a2 c2 a3 c3) 28) (.cells (qaV A Z ce) 45) (.cells qzV 28) (.cells #[.nilIface] 127);have T0:Hid _:=t0;have T1:Hid _:=t1;have T2:Hid _:=t2;have T3:Hid _:=t3;obtain⟨M,HM⟩:∃M,M=W0.heap.size:=⟨_,rfl⟩;have hq:w.heap.size+4<=M:=qo
 have ht:∀(fn:Fn) (first cap:Array Value) (w:World),(Instr.makeFunc fn first cap).run Tryz.prog w=.ok (.func fn first cap) w:=λ_ _ _ _=>rfl
 clear t0 t1 t2 t3
 go_enter_defers Tryz.func100,Tryz.ntmps100
 obtain⟨g0,g1,g2,g3,g4,g5,g6,g7⟩:=qc8 T1.ab
 go_wp2_with fail
 refine(ML A Z ce _ hl (hE.below O)).mono ?_;rintro e w1 ⟨rfl,aa⟩;rw[<-HM]at aa;have gg:M<=w1.heap.size:=by have:=aa.size;omega
 clear g0 g1 g2 g3 g4 g5 g6 g7 fr fv;obtain⟨ok,al⟩:∃b,Hid (Be A=b):=⟨_,rfl⟩;rw[al.ab];cases ok
 ·go_wp2_with (go_at_call 183;refine(Ea 2 _).mono ?_;rintro e w2 ⟨rfl,rfl⟩)
  go_wp2;exact F9 _ _ _ 2 _ rfl rfl (AK aa T2.ab) (AK aa T3.ab) λw' F=>⟨.inr ⟨2,code_2 al.ab,qd,rfl⟩,O.trans ((aa.mono qo).trans (F _ qo qo qo))⟩
 have eV:=aa;have bv:M<=w1.heap.size:=by have:=aa.size;omega
 have a7:Hid _:=AK aa T0.ab;have aq:Hid _:=AK aa T1.ab;have ay:w.heap.size<w1.heap.size:=qo
 have H:w.heap.size+1<w1.heap.size:=qo
 have a9:Below w.heap.size w w1:=O.trans (aa.mono qo);clear aa
 go_upto_region 3 with(go_at_call 183;refine(Cl 2 _).mono ?_;rintro e w2 ⟨rfl,rfl⟩)
 refine AU 5 ?_;apply AL
 ·intro V W K AA hW hd J hK
  simp only[pA]at J;subst J;have g0:=AJ (AK hW aq.ab H) 0;have g1:=AJ (AK hW aq.ab H) 1;have g2:=AJ (AK hW aq.ab H) 2;have g3:=AJ (AK hW aq.ab H) 3;have g4:=AJ (AK hW aq.ab H) 4;have g5:=AJ (AK hW aq.ab H) 5;have g6:=AJ (AK hW aq.ab H) 6;have g7:=AJ (AK hW aq.ab H) 7;go_wp2;exact hK.ab _ brf
 apply qA0
 ·intro V W K AA hW hd J hK
  simp only[pA]at J;subst J;have k0:=AJ (AK hW a7.ab ay) 0;have k1:=AJ (AK hW a7.ab ay) 1;have k2:=AJ (AK hW a7.ab ay) 2;have k3:=AJ (AK hW a7.ab ay) 3;go_wp2;exact hK
 refine AZ (λv W=>∃y1 z1 y2 z2 y3 z3,v=.agg (qbV B y1 z1 y2 z2 y3 z3)/\BkOf W M B y1 y2 y3 z1 z2 z3) (λv W W2 ⟨y1,z1,y2,z2,y3,z3,h,hr⟩ hb=>⟨y1,z1,y2,z2,y3,z3,h,hr.below hb⟩) ?_ ?_
 ·intro V W K AA hW hd J hK
  simp only[pA,qv (hd 1)]at J;subst J
  go_wp2_with fail
  refine(Iu B a1 a2 a3 c1 c2 c3 W am (hB.below (a9.trans (hW.mono a9.size)))).mono ?_;rintro e w3 ⟨y1,z1,y2,z2,y3,z3,rfl,hr,fs⟩;have ax:=DE (hr.mono (AH bv hW.size));clear hr;go_wp2;exact hK.ab _ _ fs ⟨y1,z1,y2,z2,y3,z3,rfl,ax.ab⟩
 refine AZ (λv W=>∃y1 z1 y2 z2 y3 z3,v=.agg #[Sg A.aa,In i6 A.aN,In i6 A.ax,In i6 A.au,In i6 A.aA,Bo A.aJ,Sl Z A.aB.length ce,Bo A.drop,In i6 B.av,Sl y1 B.ah.length z1,Sl y2 B.ar.length z2,Sl y3 B.aw.length z3,In i6 0,Sl none 0 0]/\BkOf W M B y1 y2 y3 z1 z2 z3) (λv W W2 ⟨y1,z1,y2,z2,y3,z3,h,hr⟩ hb=>⟨y1,z1,y2,z2,y3,z3,h,hr.below hb⟩) ?_ ?_
 ·intro V W K AA hW hd J hK
  have d2:=hd 2;simp only[pA,qv (hd 0)]at J;generalize V 2=x2 at d2 J;subst J;obtain⟨y1,z1,y2,z2,y3,z3,rfl,hr⟩:=d2;have ax:=DE hr;clear hr;go_wp2;exact hK.ab _ _ brf ⟨y1,z1,y2,z2,y3,z3,rfl,ax.ab⟩
 refine AZ (λv W=>∃q,v=.pointer (qad q)/\M<=q/\W.heap[q]?=some (.cells #[.string ⟨#[]⟩,In i6 0,In i6 0,In i6 0,In i6 0,Bo false,Sl none 0 0,Bo false,In i6 0,Sl none 0 0,Sl none 0 0,Sl none 0 0,In i6 0,Sl none 0 0] 227 (0,0))) (λv W W2 ⟨q,h1,h2,h3⟩ hb=>⟨q,h1,h2,AK hb h3 (AB h3).1⟩) ?_ ?_
 ·intro V W K AA hW hd J hK
  simp only[pA]at J;subst J;go_wp2;exact hK.ab _ _ (AN _ _) ⟨W.heap.size,rfl,AH bv hW.size,dm _ _⟩
 intro V W AA hW hS J;have d2:=hS 2;have d3:=hS 3;have d4:=hS 4;simp only[pA,qv (hS 0),qv (hS 1)]at J;clear hS;generalize V 2=x2 at d2 J;generalize V 3=x3 at d3 J;generalize V 4=x4 at d4 J;subst J;simp only[dA,dN];clear d2;obtain⟨y1,z1,y2,z2,y3,z3,rfl,hr⟩:=d3;obtain⟨q,rfl,dy,ex⟩:=d4;have ax:=DE hr;have cm:Hid _:=ex;clear hr ex
 go_upto_region 4 with((with_reducible show wpList _ _ _ _ _ _);refine qAM cm.ab N2 ?_;intro w2 hz on;have cS:Hid (qBl w2 q #[Sg A.aa,In i6 A.aN,In i6 A.ax,In i6 A.au,In i6 A.aA,Bo A.aJ,Sl Z A.aB.length ce,Bo A.drop,In i6 B.av,Sl y1 B.ah.length z1,Sl y2 B.ar.length z2,Sl y3 B.aw.length z3,In i6 0,Sl none 0 0] 227):=hz;have cl:Hid (BH q W w2):=on;clear hz on)
 have kq:KeepT 227 W w2:=.aY cl.ab cm.ab;have b4:Hid (WkAt w2 M q A Z ce B 0 []):=⟨y1,y2,y3,z1,z2,z3,Sl none 0 0,dy,cS.ab,⟨kq.aT ax.ab.ah qd,kq.aT ax.ab.ar qd,kq.aT ax.ab.aw qd⟩,⟨rfl,.inl ⟨rfl,rfl⟩⟩⟩;have bB:Below M W0 w2:=eV.trans ((hW.mono bv).trans (cl.ab.below.mono dy));have dp:M<=w2.heap.size:=by have:=bB.size;omega
 have ci:Hid (∀W',Below M w2 W'->SlE W' Z A.aB):=λW' h=>hE.below (O.trans ((bB.trans h).mono qo))
 clear kq cS cl cm ax hW eV bv a7 aq ay H a9
 go_wp2_with fail
 refine(find_any A Z ce B M q _ cT et hl ci hV am hZ ft dp b4.ab).mono ?_;rintro e w3 ⟨hf,ct⟩;have hx:=bB.trans ct;have dq:M<=w3.heap.size:=by have:=hx.size;omega
 have cR:Hid (∀W',Below M w3 W'->SlE W' Z A.aB):=λW' h=>ci.ab W' (ct.trans h)
 clear bB ct b4 ci dp;rcases hf with⟨k,s,hk,aJ,eg,rfl,z⟩|⟨af,rfl⟩
 rotate_left
 ·have aC:Hid _:=af
  clear af;go_wp2;exact F9 _ _ _ 3 _ rfl rfl (AK hx T2.ab) (AK hx T3.ab) λw' F=>⟨.inr ⟨3,TR al.ab aC.ab,qd,rfl⟩,O.trans ((hx.mono qo).trans (F _ qo qo qo))⟩
 have b5:=Hw z;have HK:Hid _:=hk;have aD:Hid _:=aJ;have aN:Hid _:=eg;have en:s.name=A.aa:=by obtain⟨_,_,_,h⟩:=FX aJ;exact h
 have bm:Hid _:=en;have an:=hV.bc (Dc aJ);clear z hk aJ eg en;have bx:B.ah.length<=1048576:=am.1
 go_wp2_with fail
 refine(Nv A Z ce B s M q k _ am hl bx dq HK.ab aN cR b5.ab).mono ?_;rintro e w4 ⟨hf,d6⟩;have hx:=hx.trans d6;have fl:M<=w4.heap.size:=by have:=hx.size;omega
 clear d6 b5 cR dq;rcases hf with⟨eM,rfl,z⟩|⟨af,rfl⟩
 rotate_left
 ·have aC:Hid _:=af
  clear af;go_wp2;exact F9 _ _ _ 4 _ rfl rfl (AK hx T2.ab) (AK hx T3.ab) λw' F=>⟨.inr ⟨4,TQ al.ab aD.ab aN.ab aC.ab,qd,rfl⟩,O.trans ((hx.mono qo).trans (F _ qo qo qo))⟩
 have dd:Hid _:=eM;have b6:=Hw z;have aI:=hV.av;unfold inB at aI;simp only[di,dS]at aI;clear z eM
 go_wp2_with fail
 refine(U4 A Z ce B s M q k _ _ bx HK.ab aI.1 aI.2 b6.ab).mono ?_;rintro e w5 ⟨rfl,z,d7⟩;have hx:=hx.trans d7;have dr:M<=w5.heap.size:=by have:=hx.size;omega
 have b7:=Hw z;have c5:Hid ((B.ah.set k {s with ag:=B.av+1})[k]?=some {s with ag:=B.av+1}):=by unfold Hid;rw[eJ (AC HK.ab).1]
 have d5:(({B with av:=B.av+1,ah:=B.ah.set k {s with ag:=B.av+1}}:Bk)).aR:=⟨by simpa using am.1,am.2.1,am.2.2⟩;clear z d7 b6 fl
 go_wp2_with fail
 refine(end_any A Z ce B ({B with av:=B.av+1,ah:=B.ah.set k {s with ag:=B.av+1}}:Bk) {s with ag:=B.av+1} M q k _ rfl d5 (show Ds B.ar from Jg hV) hl dr c5.ab bm.ab an.ba an.bd an.cn an.cu aN.ab b7.ab).mono ?_;rintro e w6 ⟨hf,d8⟩;have hx:=hx.trans d8;have ds:M<=w6.heap.size:=by have:=hx.size;omega
 clear d8 b7 dr;rcases hf with⟨L,el,rfl,z⟩|⟨af,rfl⟩
 rotate_left
 ·have aC:Hid (BO B s A.aa (B.av+1) A.aB B.ar=none):=by unfold Hid;rw[<-Kj (u:=B.av+1)];exact af
  clear af;go_wp2;exact F9 _ _ _ 5 _ rfl rfl (AK hx T2.ab) (AK hx T3.ab) λw' F=>⟨.inr ⟨5,code_5 al.ab aD.ab aN.ab dd.ab aC.ab,qd,rfl⟩,O.trans ((hx.mono qo).trans (F _ qo qo qo))⟩
 have bk:Hid (BO B s A.aa (B.av+1) A.aB B.ar=some L):=by unfold Hid;rw[<-Kj (u:=B.av+1)];exact el
 have b8:Hid (WkAt w6 M q A Z ce ({av:=B.av+1,ah:=B.ah.set k {s with ag:=B.av+1},ar:=L,aw:=B.aw}:Bk) k (DZ B A)):=z;have Y:Hid (BM B A=Dj B A s L):=Kw al.ab aD.ab aN.ab dd.ab bk.ab;have bK:Hid (L.map Db=B.ar.map Db):=Gp _ _ _ _ _ _ _ bk.ab;have df:L.length=B.ar.length:=by have:=ei List.length bK.ab;simpa using this
 have da:Hid (Ds L):=SZ bK.ab (Jg hV);clear el z
 go_wp2_with fail
 refine(U8 A Z ce ({av:=B.av+1,ah:=B.ah.set k {s with ag:=B.av+1},ar:=L,aw:=B.aw}:Bk) {s with ag:=B.av+1} M q k _ _ (by simpa using bx) ds c5.ab (by obtain⟨_,t,h1,h2⟩:=cT.ab;cases h1.symm.trans aD.ab;exact(FL A s (B.av+1)).2.2.trans h2) b8.ab).mono ?_;rintro e w7 ⟨hf,d9⟩;have hx:=hx.trans d9;have cq:M<=w7.heap.size:=by have:=hx.size;omega
 clear d9 b8 ds;rcases hf with⟨ey,rfl,z⟩|⟨af,rfl⟩
 rotate_left
 ·have aC:Hid (BA A s=true):=af
  clear af;go_wp2;exact F9 _ _ _ 6 _ rfl rfl (AK hx T2.ab) (AK hx T3.ab) λw' F=>⟨.inr ⟨6,by rw[Y.ab];exact JH aC.ab,qd,rfl⟩,O.trans ((hx.mono qo).trans (F _ qo qo qo))⟩
 have e6:Hid (BA A s=false):=ey;have a4:Hid (WkAt w7 M q A Z ce ({av:=B.av+1,ah:=(B.ah.set k {s with ag:=B.av+1}).set k (AR A {s with ag:=B.av+1}),ar:=L,aw:=B.aw}:Bk) k (DZ B A)):=z
 have be:Hid ((({av:=B.av+1,ah:=(B.ah.set k {s with ag:=B.av+1}).set k (AR A {s with ag:=B.av+1}),ar:=L,aw:=B.aw}:Bk)).ah[k]?=some (AR A {s with ag:=B.av+1})):=by
  unfold Hid;show((B.ah.set k {s with ag:=B.av+1}).set k (AR A {s with ag:=B.av+1}))[k]?=some (AR A {s with ag:=B.av+1});rw[eJ (by rw[dC];exact(AC HK.ab).1)]
 have aH:(({av:=B.av+1,ah:=(B.ah.set k {s with ag:=B.av+1}).set k (AR A {s with ag:=B.av+1}),ar:=L,aw:=B.aw}:Bk)).aR:=⟨by simpa using am.1,by show L.length<=1048576;rw[df];exact am.2.1,am.2.2⟩;have bw:=Ef al.ab
 have eT:0<=((AR A {s with ag:=B.av+1})).au/\((AR A {s with ag:=B.av+1})).au<=10:=by
  cases J:A.aJ
  ·rw[IQ J];exact⟨an.ba,an.bd⟩
  ·rw[Gd J];exact(R6 al.ab).ab J
 have HF:Hid _:=Fa A s (B.av+1);have ev:0<=((AR A {s with ag:=B.av+1})).aG/\((AR A {s with ag:=B.av+1})).aG<=10:=by rw[HF.ab.2.2.2.2];exact⟨an.bm,an.bn⟩
 have bz:1<=((AR A {s with ag:=B.av+1})).next/\((AR A {s with ag:=B.av+1})).next<=1000000:=by rw[HF.ab.2.1];exact⟨an.bB,an.bK⟩
 obtain⟨C,HC⟩:∃C,Hid (C=Ar ((AR A {s with ag:=B.av+1})).aj ((AR A {s with ag:=B.av+1})).name L L.length):=⟨_,rfl⟩;have cQ:Hid (C=Ar s.aj s.name L L.length):=by unfold Hid;rw[HC.ab,HF.ab.1,HF.ab.2.2.1]
 have bO:Hid (CO A (AR A {s with ag:=B.av+1}) C=CO A (AR A s) (BG {B with ar:=L} A.aa)):=by
  unfold Hid;rw[Np,cntB_cps aD.ab,cQ.ab,bm.ab]
 have bE:Hid (Bd A (AR A {s with ag:=B.av+1}) C=Bd A s (BG B A.aa)):=Ra aD.ab bm.ab al.ab bk.ab cQ.ab;clear z ey;obtain⟨mb,cj⟩:∃b,Hid (CO A (AR A {s with ag:=B.av+1}) C=b):=⟨_,rfl⟩;obtain⟨db,ch⟩:∃b,Hid (Bd A (AR A {s with ag:=B.av+1}) C=b):=⟨_,rfl⟩
 go_wp2_with fail
 refine(No A Z ce ({av:=B.av+1,ah:=(B.ah.set k {s with ag:=B.av+1}).set k (AR A {s with ag:=B.av+1}),ar:=L,aw:=B.aw}:Bk) (AR A {s with ag:=B.av+1}) M q k _ _ aH da cq be.ab C HC bw.1 bw.2 eT.1 eT.2 ev.1 ev.2 a4.ab).mono ?_;rintro e w8 ⟨rfl,cu⟩;have hx:=hx.trans (cu.mono cq);have cr:M<=w8.heap.size:=by have:=hx.size;omega
 have a5:=Hw (a4.ab.below cu);clear cu a4 cq;rw[cj.ab];cases mb
 rotate_left
 ·go_wp2_with (go_at_call 183;refine(Ea 6 _).mono ?_;rintro e w2 ⟨rfl,rfl⟩)
  exact F9 _ _ _ 6 _ rfl rfl (AK hx T2.ab) (AK hx T3.ab) λw' F=>⟨.inr ⟨6,by rw[Y.ab];exact OW (by rw[<-bO.ab];exact cj.ab),qd,rfl⟩,O.trans ((hx.mono qo).trans (F _ qo qo qo))⟩
 go_wp2_with fail
 refine(Q9 A Z ce ({av:=B.av+1,ah:=(B.ah.set k {s with ag:=B.av+1}).set k (AR A {s with ag:=B.av+1}),ar:=L,aw:=B.aw}:Bk) (AR A {s with ag:=B.av+1}) M q k _ _ aH da cr be.ab C HC a5.ab).mono ?_;rintro e w9 ⟨rfl,cv⟩;have hx:=hx.trans (cv.mono cr);have dx:M<=w9.heap.size:=by have:=hx.size;omega
 have a6:=Hw (a5.ab.below cv);clear cv a5 cr;rw[ch.ab];cases db
 rotate_left
 ·go_wp2_with (go_at_call 183;refine(Ea 6 _).mono ?_;rintro e w2 ⟨rfl,rfl⟩)
  exact F9 _ _ _ 6 _ rfl rfl (AK hx T2.ab) (AK hx T3.ab) λw' F=>⟨.inr ⟨6,by rw[Y.ab];exact OX (by rw[<-bE.ab];exact ch.ab),qd,rfl⟩,O.trans ((hx.mono qo).trans (F _ qo qo qo))⟩
 have c6:Hid (Dj B A s L=if Dy B A (AR A s) then 7 else 0):=Kk e6.ab (by rw[<-bO.ab];exact cj.ab) (by rw[<-bE.ab];exact ch.ab);obtain⟨rb,cn⟩:∃b,Hid (Iq ({av:=B.av+1,ah:=(B.ah.set k {s with ag:=B.av+1}).set k (AR A {s with ag:=B.av+1}),ar:=L,aw:=B.aw}:Bk) A (AR A {s with ag:=B.av+1})=b):=⟨_,rfl⟩
 have b0:Hid (Dy B A (AR A s)=!rb):=by
  have h:=SY (B:=B) (X:=({av:=B.av+1,ah:=(B.ah.set k {s with ag:=B.av+1}).set k (AR A {s with ag:=B.av+1}),ar:=L,aw:=B.aw}:Bk)) (A:=A) (s:=s) (u:=B.av+1) df rfl;unfold Hid;rw[<-cn.ab,h,Bool.not_not]
 go_wp2_with (first|(go_at_call 183;refine(Cl 6 _).mono ?_;rintro e w2 ⟨rfl,rfl⟩))
 refine(RO A Z ce ({av:=B.av+1,ah:=(B.ah.set k {s with ag:=B.av+1}).set k (AR A {s with ag:=B.av+1}),ar:=L,aw:=B.aw}:Bk) (AR A {s with ag:=B.av+1}) M q k _ _ aH be.ab bw.1 bw.2 bz.1 bz.2 a6.ab).mono ?_;rintro e f2 ⟨rfl,a8⟩;have hx:=hx.trans (a8.mono dx);have b9:M<=f2.heap.size:=by have:=hx.size;omega
 have aQ:=Hw (a6.ab.below a8);clear a8 a6 dx;rw[cn.ab];cases rb
 ·go_wp2_with (go_at_call 183;refine(Ea 7 _).mono ?_;rintro e w2 ⟨rfl,rfl⟩)
  exact F9 _ _ _ 7 _ rfl rfl (AK hx T2.ab) (AK hx T3.ab) λw' F=>⟨.inr ⟨7,by rw[Y.ab,c6.ab,b0.ab];rfl,qd,rfl⟩,O.trans ((hx.mono qo).trans (F _ qo qo qo))⟩
 have co:Hid (BM B A=0):=by unfold Hid;rw[Y.ab,c6.ab,b0.ab];rfl
 obtain⟨aK,aF⟩:∃n:Nat,Hid (A.ax=(n:Int)):=⟨A.ax.toNat,by unfold Hid;omega⟩;have ee:aK<=20:=by have:=aF.ab;omega
 have cx:L.length+aK<=200:=by
  have h:=cn.ab;unfold Iq at h;simp only[di,dS]at h;have h1:=h.1;rw[aF.ab]at h1;have h2:(L.length:Int)+(aK:Int)<=200:=h1;omega
 go_wp2_with (first|(go_at_call 183;refine(Cl 7 _).mono ?_;rintro e w2 ⟨rfl,rfl⟩))
 refine(TO A Z ce ({av:=B.av+1,ah:=(B.ah.set k {s with ag:=B.av+1}).set k (AR A {s with ag:=B.av+1}),ar:=L,aw:=B.aw}:Bk) (AR A {s with ag:=B.av+1}) M q k aK _ _ aH b9 be.ab aF.ab ee bz.1 bz.2 cx aQ.ab).mono ?_;rintro e eX ⟨rfl,z,cb⟩;have hx:=hx.trans cb;have ca:M<=eX.heap.size:=by have:=hx.size;omega
 have aS:Hid (WkAt eX M q A Z ce ({av:=B.av+1,ah:=((B.ah.set k {s with ag:=B.av+1}).set k (AR A {s with ag:=B.av+1})).set k {(AR A {s with ag:=B.av+1}) with next:=(AR A {s with ag:=B.av+1}).next+A.ax},ar:=Dk L (Ba L (AR A {s with ag:=B.av+1}).name) (mkO ({av:=B.av+1,ah:=(B.ah.set k {s with ag:=B.av+1}).set k (AR A {s with ag:=B.av+1}),ar:=L,aw:=B.aw}:Bk) (AR A {s with ag:=B.av+1})) aK,aw:=B.aw}:Bk) k (DZ B A)):=z;clear z cb aQ b9
 go_wp2_with fail
 refine(drop_any A Z ce ({av:=B.av+1,ah:=((B.ah.set k {s with ag:=B.av+1}).set k (AR A {s with ag:=B.av+1})).set k {(AR A {s with ag:=B.av+1}) with next:=(AR A {s with ag:=B.av+1}).next+A.ax},ar:=Dk L (Ba L (AR A {s with ag:=B.av+1}).name) (mkO ({av:=B.av+1,ah:=(B.ah.set k {s with ag:=B.av+1}).set k (AR A {s with ag:=B.av+1}),ar:=L,aw:=B.aw}:Bk) (AR A {s with ag:=B.av+1})) aK,aw:=B.aw}:Bk) {(AR A {s with ag:=B.av+1}) with next:=((AR A {s with ag:=B.av+1})).next+A.ax} M q k _ _ (by simpa using bx) ca (by show(((B.ah.set k {s with ag:=B.av+1}).set k (AR A {s with ag:=B.av+1})).set k {(AR A {s with ag:=B.av+1}) with next:=((AR A {s with ag:=B.av+1})).next+A.ax})[k]?=_;rw[eJ (by rw[dC,dC];exact(AC HK.ab).1)]) aS.ab).mono ?_;rintro e bD ⟨rfl,z,cc⟩;have hx:=hx.trans cc;have gj:M<=bD.heap.size:=by have:=hx.size;omega
 have ba:=Vi hV al.ab aD.ab HK.ab bm.ab bk.ab aF.ab;have eS:WkAt bD M q A Z ce (BL B A) k (DZ B A):=by rw[ba];exact z
 obtain⟨b1,b2,b3,d1,d2,d3,ve,gx,hg,eb,_⟩:=eS;have HG:Hid _:=hg;have cf:=DE eb;have bT:Hid _:=AK hx T2.ab (show w.heap.size+1+1<M by omega);have c8:Hid _:=AK hx T3.ab (show w.heap.size+1+1+1<M by omega);have e8:=AJ HG.ab 8;have e9:=AJ HG.ab 9;have hn:=AJ HG.ab 10;have ho:=AJ HG.ab 11;clear z cc aS ca ba hg eb
 go_wp2_with (first
  |((with_reducible show wpList _ _ _ _ _ _);refine qAM bT.ab B8 ?_;intro bb hz on;have c7:Hid (qBl bb (w.heap.size+1+1) #[In i6 (BL B A).av,.slice b1 (BL B A).ah.length d1,.slice b2 (BL B A).ar.length d2,.slice b3 (BL B A).aw.length d3] 28):=hz;have bS:Hid (BH (w.heap.size+1+1) bD bb):=on;have bX:Hid _:=(on.aL (w.heap.size+1+1+1) qo).trans c8.ab;clear hz on)
  |((with_reducible show wpList _ _ _ _ _ _);refine Am rfl 127 (.tmp 5) (.const .nilIface) rfl (w.heap.size+1+1+1) 0 .nilIface rfl rfl KS rfl rfl 127 #[.nilIface] bX.ab (AD rfl) ?_;intro bd hz on;have c9:Hid (qBl bd (w.heap.size+1+1+1) #[.nilIface] 127):=hz;have aO:Hid (BH (w.heap.size+1+1+1) bb bd):=on;clear hz on))
 have kA:KeepT 28 bD bb:=.aY bS.ab bT.ab;have kB:KeepT 127 bb bd:=.aY aO.ab bX.ab;have de:BkOf bd M (BL B A) b1 b2 b3 d1 d2 d3:=⟨kB.aT (kA.aT cf.ab.ah qd) qd,kB.aT (kA.aT cf.ab.ar qd) qd,kB.aT (kA.aT cf.ab.aw qd) qd⟩;have d0:=(aO.ab.aL (w.heap.size+1+1) qo).trans c7.ab;have ea:Below w.heap.size w bd:=O.trans ((hx.mono qo).trans ((bS.ab.below.mono qo).trans (aO.ab.below.mono qo)));exact door_yes _ _ _ _ _ _ _ _ rfl rfl d0 c9.ab λw' F=>⟨.inl ⟨co.ab,b1,b2,b3,d1,d2,d3,rfl,(de.below F).mono qo⟩,ea.trans (F.mono ea.size)⟩
section
variable {P:Program}
theorem DP{fn:Func}{p q:Tmp}{ty:TypeId}(h:fn.results=#[.cell p ty,.tmp q])(tmps:Array Value)(w:World)(g:Nat)(t:TypeId)(cs:Array Value)(fr:Nat × Nat)(d:TypeDesc)
  (O:tmps.getD p undef=.pointer (qad g)) (J:w.heap[g]?=some (.cells cs t fr))
  (W:P.underlying ty=some d) (H:(match d with| .struct _| .array _ _=>true|_=>false)=true) (M:(P.info? ty).map (·.size)=some cs.size) (v:Value) (hv:tmps.getD q undef=v):
  (results fn tmps).run P w=.ok (.tuple #[.agg cs,v]) w:=by
 have z:tmps[p]?.getD undef=.pointer (qad g):=by simpa using O
 have F:tmps[q]?.getD undef=v:=by simpa using hv
 simp[results,h,z,F,asAddr,iZ w g t ty cs fr d J W H M]
end
theorem BkOf.bN{w w':World}{M p:Nat}{B:Bk}{b1 F H:qO}{d1 d2 d3:Nat}(h:BkOf w M B b1 F H d1 d2 d3)(z:BH p w w')(O:p<M):BkOf w' M B b1 F H d1 d2 d3:=
 ⟨h.ah.aV λg _ _ J _=>z.aL g qo,h.ar.aV λg _ _ J _=>z.aL g qo,h.aw.aV λg _ _ J _=>z.aL g qo⟩
theorem relp_bk{p g i:Nat}{w w':World}{M:Nat}{B:Bk}{b1 F H:qO}{d1 d2 d3:Nat}(h:BkOf w M B b1 F H d1 d2 d3)(z:OA p g i w w')(J:g<M):BkOf w' M B b1 F H d1 d2 d3:=by
 unfold OA at z;split at z
 ·exact h.bN z J
 ·exact h.below z
theorem MF(w:World)(A B C:Obj):∃z,((w.alloc A).alloc B).alloc C=z/\z.heap[w.heap.size]?=some A/\z.heap[w.heap.size+1]?=some B/\z.heap[w.heap.size+1+1]?=some C/\z.heap.size=w.heap.size+3/\Below w.heap.size w z:=by
 refine⟨_,rfl,?_,?_,?_,?_,?_⟩
 ·show(((w.heap.push A).push B).push C)[w.heap.size]?=_
  rw[dw,dk (by simp<;>omega),dw,dk qs,dw,dv rfl]
 ·show(((w.heap.push A).push B).push C)[w.heap.size+1]?=_
  rw[dw,dk qs,dw,dv qs]
 ·show(((w.heap.push A).push B).push C)[w.heap.size+1+1]?=_
  rw[dw,dv qs]
 ·show(((w.heap.push A).push B).push C).size=_
  simp
 ·exact(((dG _ _).alloc AG _).alloc qs _).alloc qp _
theorem as_nilO(t:Value)(w:World):Calls Tryz.prog 101 #[.nilIface,t] w λe w'=>e=.returned (.bool false)/\w=w':=(as_nil t w).mono λ_ _ h=>⟨h.1,h.2.symm⟩
def AppIs(N:Nat)(X:Bk)(c:Int)(e:Ending)(w':World):Prop:=∃y1 y2 y3 z1 z2 z3,e=.returned (.tuple #[.agg (qbV X y1 z1 y2 z2 y3 z3),In i6 c])/\BkOf w' N X y1 y2 y3 z1 z2 z3
theorem Rz(B:Bk)(A:Ac)(a1 a2 a3:qO)(c1 c2 c3:Nat)(ae:qO)(ce:Nat)(w:World)(aF:KW w)(hV:Valid B)(bb:B.aR)(hZ:B.aP)(hB:BkAt w a1 a2 a3 B)(hl:A.aB.length<=1048576)(hE:SlE w ae A.aB)(b5:A.aa.size<=maxLen)(bd:Hid (∀e∈A.aB,(Lit.int .i64 e.ak).wf=true))(bx:Hid (Nk B A)):
  Calls Tryz.prog 42 #[.agg (qbV B a1 c1 a2 c2 a3 c3),.agg (qaV A ae ce)] w λe w'=>AppIs w.heap.size (Ah B A) (BM B A) e w'/\Below w.heap.size w w':=by
 obtain⟨W0,bS,t0,t1,t2,b8,ag⟩:=MF w (.cells (qbV B a1 c1 a2 c2 a3 c3) 28) (.cells (qaV A ae ce) 45) (.cells qzV 28)
 have b6:0<w.heap.size:=by
  rcases gi w.heap.size with h0|h
  ·unfold KW at aF;simp[World.cell?,h0]at aF
  ·exact h
 have T0:Hid _:=t0;have T1:Hid _:=t1;have T2:Hid _:=t2;obtain⟨M,HM⟩:∃M,M=W0.heap.size:=⟨_,rfl⟩;have cF:w.heap.size+3<=M:=qo
 clear t0 t1 t2;obtain⟨g0,g1,g2,g3,g4,g5,g6,g7⟩:=qc8 T1.ab;have k0:=AJ T0.ab 0;have k1:=AJ T0.ab 1;have k2:=AJ T0.ab 2;have k3:=AJ T0.ab 3;go_enter Tryz.func42,Tryz.ntmps42
 go_wp2_with fail
 refine(Re B A a1 a2 a3 c1 c2 c3 ae ce _ hV bb hZ (hB.below ag) hl (hE.below ag) b5 bd bx).mono ?_;rintro e w1 ⟨hd,am⟩;rw[<-HM]at hd am;clear g0 g1 g2 g3 g4 g5 g6 g7 k0 k1 k2 k3 bS b8;have aH:M<=w1.heap.size:=by have:=am.size;omega
 rcases hd with⟨aK,z,F,H,z1,z2,z3,rfl,aq⟩|⟨c,aM,b0,rfl⟩
 ·have ak:=DE aq
  have aC:Hid (Ah B A=BL B A):=by unfold Hid Ah;rw[aK];rfl
  have bv:Hid _:=aK;obtain⟨X,HX⟩:∃X,Hid (BL B A=X):=⟨_,rfl⟩;rw[HX.ab]at ak ⊢;have T3:Hid _:=dm w1 (.cells (qbV X z z1 F z2 H z3) 28);have Y:=AN w1 (.cells (qbV X z z1 F z2 H z3) 28);obtain⟨wa,ah⟩:∃W,w1.alloc (.cells (qbV X z z1 F z2 H z3) 28)=W:=⟨_,rfl⟩;rw[ah]at T3 Y;have J:=AN wa (.cells #[In i6 0] 153);obtain⟨wr,ax⟩:∃W,wa.alloc (.cells #[In i6 0] 153)=W:=⟨_,rfl⟩;rw[ax]at J;have bk:w1.heap.size<wa.heap.size:=(AB T3.ab).1;have Z:Hid _:=AK J T3.ab bk;have hx:=am.trans ((Y.mono aH).trans (J.mono qo));have ay:Hid _:=AK hx T2.ab;have j0:=AJ Z.ab 0;have j1:=AJ Z.ab 1;have j2:=AJ Z.ab 2;have j3:=AJ Z.ab 3;clear aq aK
  go_wp2_with (first
   |(go_at_call 101;refine(as_nilO _ _).mono ?_;rintro e w2 ⟨rfl,rfl⟩)
   |((with_reducible show wpList _ _ _ _ _ _);refine qAM ay.ab B8 ?_;intro w3 hz on;have bz:Hid (qBl w3 (w.heap.size+1+1) (qbV X z z1 F z2 H z3) 28):=hz;have a7:Hid (BH (w.heap.size+1+1) wr w3):=on;clear hz on))
  have kA:KeepT 28 wr w3:=.aY a7.ab ay.ab;have aJ:=Y.trans (J.mono (Nat.le_of_lt bk));have bK:BkOf w3 M X z F H z1 z2 z3:=⟨kA.aT (ak.ab.ah.below aJ) qd,kA.aT (ak.ab.ar.below aJ) qd,kA.aT (ak.ab.aw.below aJ) qd⟩;refine dF (v:=.tuple #[.agg (qbV X z z1 F z2 H z3),In i6 0]) (DP rfl _ _ (w.heap.size+1+1) _ _ _ _ rfl bz.ab Tryz.underlying28 rfl B8 _ rfl) rfl ?_;refine⟨?_,ag.trans ((hx.mono qo).trans (a7.ab.below.mono qo))⟩;rw[aC.ab,HX.ab,bv.ab];exact⟨z,F,H,z1,z2,z3,rfl,bK.mono qo⟩
 ·have bw:Hid _:=aM
  have aC:Hid (Ah B A=B):=by unfold Hid Ah;rw[aM,dk b0]
  have Y:=AN w1 (.cells qzV 28);obtain⟨wa,ah⟩:∃W,w1.alloc (.cells qzV 28)=W:=⟨_,rfl⟩;have T3:Hid (qBl wa (w1.heap.size) qzV 28):=by unfold Hid;rw[<-ah];exact dm _ _
  rw[ah]at Y
  go_upto_region 2 with((with_reducible show wpList _ _ _ _ _ _);refine qAM T3.ab B8 ?_;intro wc hz on;have a8:Hid (BH w1.heap.size wa wc):=on;clear hz on)
  have an:Below w1.heap.size w1 wc:=Y.trans a8.ab.below;obtain⟨rb,aD⟩:∃r,r=wc.heap.size:=⟨_,rfl⟩;have T4:Hid _:=dm wc (.cells #[In i6 0] 153);have J:=AN wc (.cells #[In i6 0] 153);obtain⟨wr,ax⟩:∃W,wc.alloc (.cells #[In i6 0] 153)=W:=⟨_,rfl⟩;rw[ax]at J T4;rw[<-aD]at T4;have hx:=am.trans ((an.mono aH).trans (J.mono (AH aH an.size)));have b3:M<=rb:=by have:=an.size;omega
  have aA:KW wr:=by
   have h1:Below w.heap.size w wr:=ag.trans (hx.mono qo);exact(h1.cell (p:=⟨0,0,none⟩) b6).trans aF
  clear aM Y ah
  go_upto_region 4 with(go_at_call 101;rw[<-aD];refine(as_own c rb _ _ aA T4.ab).mono ?_;rintro e w2 ⟨rfl,h3,h4⟩)
  clear ax;have aO:Below M W0 w2:=hx.trans (h4 M b3 (by have:=hx.size;omega));have al:Hid _:=AK aO T0.ab;have bD:Hid _:=AK aO T2.ab;have HR:Hid (qBl w2 rb #[In i6 c] 153):=h3;have b4:rb<w2.heap.size:=(AB h3).1;have bO:M<=w2.heap.size:=qo
  have aw:w.heap.size<w2.heap.size:=qo
  have aI:Below w.heap.size w w2:=ag.trans (aO.mono qo);clear h3 h4 T4 a8 an J aA hx T3;obtain⟨wb,b7⟩:∃x,x=w2:=⟨_,rfl⟩;subst b7;refine EP 5 4 (w.heap.size+1+1) (λW=>KeepB (w.heap.size+1+1) wb W/\∀N,N<=w.heap.size+1+1->N<=wb.heap.size->Below N wb W) (λW=>qBl W (w.heap.size+1+1) qzV 28) qk qk ⟨KeepB.refl _ _,λ_ _ _=>dG _ _⟩ bD.ab (λ_ _ h hb=>⟨h.1.below hb,λN h1 h2=>(h.2 N h1 h2).trans (hb.mono (AH h2 h.1.1))⟩) (λ_ _ h on=>⟨h.1.ai on,λN h1 h2=>(h.2 N h1 h2).trans (on.below.mono h1)⟩) (λ_ _ h hb=>AK hb h (AB h).1) ?_;apply AT
  ·intro V W K AA hW hZ hd O hK
   simp only[pA]at O;subst O;have k0:=AJ ((hW.1.2 w.heap.size aw qo).trans al.ab) 0;have k1:=AJ ((hW.1.2 w.heap.size aw qo).trans al.ab) 1;have k2:=AJ ((hW.1.2 w.heap.size aw qo).trans al.ab) 2;have k3:=AJ ((hW.1.2 w.heap.size aw qo).trans al.ab) 3;go_wp2;exact hK.ab _ brf
  refine Ab (λv W=>∃z F H z1 z2 z3,v=.agg (qbV B z z1 F z2 H z3)/\BkOf W M B z F H z1 z2 z3) (λi hi v W W' ⟨z,F,H,z1,z2,z3,h1,h2⟩ hr=>⟨z,F,H,z1,z2,z3,h1,relp_bk h2 hr qo⟩) ?_ ?_
  ·intro V W K AA hW hZ hd O hK
   simp only[pA,qv (hd 0)]at O;subst O
   go_wp2_with fail
   refine(Iu B a1 a2 a3 c1 c2 c3 W bb (hB.below (aI.trans (hW.2 _ qo aI.size)))).mono ?_;rintro e w3 ⟨z,z1,F,z2,H,z3,rfl,hr,bX⟩;have bC:=DE (hr.mono (AH bO hW.1.1));clear hr;go_wp2;exact hK.ab _ _ bX ⟨z,F,H,z1,z2,z3,rfl,bC.ab⟩
  refine AT qR ?_
  apply AT
  ·intro V W K AA hW hZ hd O hK
   simp only[pA,qv (hd 2)]at O;subst O;have r0:=AJ ((hW.1.2 rb b4 qo).trans HR.ab) 0;rw[aD]at r0;go_wp2;exact hK.ab _ brf
  refine Ab (λ_ W=>∃z F H z1 z2 z3,qBl W (w.heap.size+1+1) (qbV B z z1 F z2 H z3) 28/\BkOf W M B z F H z1 z2 z3) (λi hi v W W' ⟨z,F,H,z1,z2,z3,h1,h2⟩ hr=>⟨z,F,H,z1,z2,z3,AK (JD hi hr) h1 (AB h1).1,h2.below (JD hi hr)⟩) ?_ ?_
  ·intro V W K AA hW hZ hd O hK
   have d1:=hd 1;simp only[pA]at O;generalize V 1=x1 at d1 O;subst O;obtain⟨z,F,H,z1,z2,z3,rfl,aq⟩:=d1;have h0:=hZ rfl;refine qAM h0 B8 ?_;intro w3 hz on;have h3:qBl w3 (w.heap.size+1+1) (qbV B z z1 F z2 H z3) 28:=hz.ab;exact hK.ab _ _ on ⟨z,F,H,z1,z2,z3,h3,aq.bN on qo⟩
  intro V W AA hW hS O;have d1:=hS 1;have d4:=hS 4;simp only[pA,qv (hS 0),qv (hS 2),qv (hS 3)]at O;clear hS;generalize V 1=x1 at d1 O;subst O;simp only[dA,dN];obtain⟨u1,u2,u3,v1,v2,v3,be,aB⟩:=d4;clear d1;have bB:Hid _:=be;have bq:=DE aB;have bT:=hW.2;clear be aB hW;go_wp2;refine dF (v:=.tuple #[.agg (qbV B u1 v1 u2 v2 u3 v3),In i6 c]) (DP rfl _ _ (w.heap.size+1+1) _ _ _ _ rfl bB.ab Tryz.underlying28 rfl B8 _ rfl) rfl ?_;refine⟨?_,aI.trans (bT _ qo qo)⟩;rw[aC.ab,bw.ab];exact⟨u1,u2,u3,v1,v2,v3,rfl,bq.ab.mono qo⟩
theorem RL (B : Bk) (A : Ac) (a1 a2 a3 : Option Addr) (c1 c2 c3 : Nat) (ae : Option Addr) (ce : Nat) (w : World) (Y : KW w) (hS : B.aR) (hZ : B.aP) (hB : BkAt w a1 a2 a3 B) (hl : A.aB.length <= 1048576) (hE : SlE w ae A.aB) (aA : A.aa.size <= maxLen) (an : Hid (Aj B = true -> ∀ e ∈ A.aB, (Lit.int .i64 e.ak).wf = true)) (ax : Hid (Aj B = true -> Nk B A)) :
    Calls Tryz.prog 11 #[.agg (qbV B a1 c1 a2 c2 a3 c3),.agg (qaV A ae ce)] w λe w'=>
      ((Aj B=false/\e=.returned (.tuple #[.agg qzV,In i6 1]))\/
       (Aj B=true/\AppIs w.heap.size (Ah B A) (BM B A) e w'))/\Below w.heap.size w w':=by
  obtain⟨W0,az,t0,t1,t2,aC,ak⟩:=MF w (.cells (qbV B a1 c1 a2 c2 a3 c3) 28) (.cells (qaV A ae ce) 45) (.cells qzV 28)
  have aB:0<w.heap.size:=by
    rcases gi w.heap.size with h0|h
    · unfold KW at Y;simp[World.cell?,h0]at Y
    · exact h
  have T0:Hid _:=t0;have T1:Hid _:=t1;have T2:Hid _:=t2;obtain⟨M,HM⟩:∃M,M=W0.heap.size:=⟨_,rfl⟩;have bb:w.heap.size+3<=M:=qo
  clear t0 t1 t2;have k0:=AJ T0.ab 0;have k1:=AJ T0.ab 1;have k2:=AJ T0.ab 2;have k3:=AJ T0.ab 3;go_enter Tryz.func11,Tryz.ntmps11
  go_wp2_with fail
  refine(It B a1 a2 a3 c1 c2 c3 _ hS hZ (hB.below ak)).mono ?_;rintro e w1 ⟨rfl,H⟩;rw[<-HM]at H;clear k0 k1 k2 k3 az aC;have bd:M<=w1.heap.size:=by have:=H.size;omega
  have af:Hid _:=AK H T2.ab;have z:Below w.heap.size w w1:=ak.trans (H.mono qo);obtain⟨vb,F⟩:∃b,Hid (Aj B=b):=⟨_,rfl⟩;rw[F.ab];cases vb
  · go_wp2_with ((with_reducible show wpList _ _ _ _ _ _);refine qAM af.ab B8 ?_;intro w3 hz on;have W:Hid (qBl w3 (w.heap.size+1+1) qzV 28):=hz;have J:Hid (BH (w.heap.size+1+1) w1 w3):=on;clear hz on)
    refine dF (v:=.tuple #[.agg qzV,In i6 1]) (DP rfl _ _ (w.heap.size+1+1) _ _ _ _ rfl W.ab Tryz.underlying28 rfl B8 _ rfl) rfl ?_;exact⟨.inl ⟨F.ab,rfl⟩,z.trans (J.ab.below.mono qo)⟩
  · have O:Hid _:=AK H T0.ab
    have ay:Hid _:=AK H T1.ab;have k0:=AJ O.ab 0;have k1:=AJ O.ab 1;have k2:=AJ O.ab 2;have k3:=AJ O.ab 3;obtain⟨g0,g1,g2,g3,g4,g5,g6,g7⟩:=qc8 ay.ab;have aj:KW w1:=(z.cell (p:=⟨0,0,none⟩) aB).trans Y
    go_wp2_with fail
    refine(Rz B A a1 a2 a3 c1 c2 c3 ae ce _ aj (validB_iff.1 F.ab) hS hZ (hB.below z) hl (hE.below z) aA (an.ab F.ab) (ax.ab F.ab)).mono ?_;rintro e w2 ⟨⟨y1,y2,y3,z1,z2,z3,rfl,am⟩,al⟩;have Z:=DE am;have ag:Hid _:=AK al af.ab;clear k0 k1 k2 k3 g0 g1 g2 g3 g4 g5 g6 g7 am;obtain⟨X,HX⟩:∃X,Hid (Ah B A=X):=⟨_,rfl⟩;obtain⟨cd,aa⟩:∃c,Hid (BM B A=c):=⟨_,rfl⟩;rw[HX.ab]at Z ⊢;rw[aa.ab]
    go_wp2_with ((with_reducible show wpList _ _ _ _ _ _);refine qAM ag.ab B8 ?_;intro w3 hz on;have W:Hid (qBl w3 (w.heap.size+1+1) (qbV X y1 z1 y2 z2 y3 z3) 28):=hz;have J:Hid (BH (w.heap.size+1+1) w2 w3):=on;clear hz on)
    refine dF (v:=.tuple #[.agg (qbV X y1 z1 y2 z2 y3 z3),In i6 cd]) (DP rfl _ _ (w.heap.size+1+1) _ _ _ _ rfl W.ab Tryz.underlying28 rfl B8 _ rfl) rfl ?_;refine⟨.inr ⟨F.ab,?_⟩,z.trans ((al.mono z.size).trans (J.ab.below.mono qo))⟩;rw[HX.ab,aa.ab];exact⟨y1,y2,y3,z1,z2,z3,rfl,(Z.ab.bN J.ab qo).mono qo⟩
end
end Go.Proofs.YtbceafpodamnfaaGreatDoor
