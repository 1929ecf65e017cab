import Derived.Test.YtbceafpodamnfaaGreatDoorG37
set_option linter.all false
set_option maxHeartbeats 16000000
set_option maxRecDepth 100000
namespace Go.Proofs.YtbceafpodamnfaaGreatDoor
section
open Go.RowKit Go.Sort
open Go.Value renaming int->In,slice->Sl,string->Sg,bool->Bo,pointer->Po
open Go.IntKind renaming i64->i6
def Ij(kind:Int)(s:Svc)(N:Cnt)(dr:Int)(L:List Sn):Option Ac:=
 if kind=1 then C6 s N dr L else if kind=2 then L9 s N L else if kind=3 then IS s L else if kind=4 then DO s else if kind=5 then DS s N L else EI s N L
def KL(kind:Int)(B:Bk)(s:Svc):Option Ac:=Ij kind s (Ar s.aj s.name B.ar B.ar.length) (Cs (Eo B s (ofS s.name B.ar)):Int) (Eo B s (ofS s.name B.ar))
theorem AskO.mono{lo z:Nat}{w:World}{ao:qO}{co:Nat}{R:List Co}(h:AskO lo w ao co R)(F:z<=lo):AskO z w ao co R:=⟨BC h.row F,λj r H=>BC (h.aB j r H) F,h.apart⟩
theorem AskO.cH{lo:Nat}{w:World}{ao:qO}{co:Nat}{R:List Co}(h:AskO lo w ao co R):∀(j:Nat) r,R[j]?=some r->r.1.aB≠[]->∀ge,r.2.1=some ⟨ge,0,none⟩->ge<w.heap.size:=λj r J H ge e=>by
 obtain⟨g,F,z,_,hb,_⟩:=Fg (h.aB j r J) H;rw[e]at z;injection z with z;injection z with z
 subst z;exact(AB hb).1
theorem Mb{B:Bk}(h:Valid B){s:Svc}(J:s∈B.ah)(H:s.aQ≠0):0<s.aQ/\KU s/\s.az<=s.aI:=by
 have z:=IP h.ah J;unfold svcB Qt at z
 by_cases F:0<s.aQ
 ·refine⟨F,h.cO J F,?_⟩
  rw[dk H]at z;simp only[di,inB_iff]at z;omega
 ·exfalso
  rw[dk H]at z;simp only[di,inB_iff]at z;omega
theorem Vs(kind:Int)(dp:1<=kind)(dq:kind<=6)(B:Bk)(a1 a2 a3:qO)(c1 c2 c3:Nat)(w:World)(cb:Hid (B.ar.length<=c2))(hS:B.aR)(hZ:B.aP)(hV:Valid B)(hB:BkAt w a1 a2 a3 B):
  Calls Tryz.prog 41 #[In i6 kind,.agg (qbV B a1 c1 a2 c2 a3 c3)] w λe w'=>∃ao co R,e=.returned (Sl ao R.length co)/\Hid (AskO w.heap.size w' ao co R)/\Hid (R.map (·.1)=B.ah.filterMap (KL kind B))/\Below w.heap.size w w':=by
 obtain⟨W0,bv⟩:∃W,w.alloc (.cells (qbV B a1 c1 a2 c2 a3 c3) 28)=W:=⟨_,rfl⟩;have aj:=AN w (.cells (qbV B a1 c1 a2 c2 a3 c3) 28);have b0:(w.alloc (.cells (qbV B a1 c1 a2 c2 a3 c3) 28)).heap.size=w.heap.size+1:=by show(w.heap.push _).size=_;simp
 have T0:Hid _:=dm w (.cells (qbV B a1 c1 a2 c2 a3 c3) 28);rw[bv]at aj T0 b0;have d4:w.heap.size+1<=W0.heap.size:=qo
 clear b0;have dy:=hV.ls;go_enter Tryz.func41,Tryz.ntmps41
 go_upto_region 2 with fail
 clear bv;have e0:=AJ T0.ab 0;have e1:=AJ T0.ab 1;have e2:=AJ T0.ab 2;have e3:=AJ T0.ab 3
 go_wp2_with fail
 refine(MZ B a1 a2 a3 c1 c2 c3 _ hS hZ (IK hV.ah) (QL hV.aw) (hB.below aj)).mono ?_;rintro e w1 ⟨rfl,ay,az⟩;obtain⟨b,a4⟩:∃b,W0.heap.size+1=b:=⟨_,rfl⟩;rw[a4]at ay;rw[a4];have P1:Hid (PlacesX w1 b B B.ah.length B.aw.length):=ay;have cm:=ay.lt;have aq:=aj.trans (az.mono aj.size);have d5:=az.size;have T1:Hid _:=AK az T0.ab;have ca:Hid (BkAt w1 a1 a2 a3 B):=hB.below aq;clear e0 e1 e2 e3 az aj T0 ay a4;have e1:=AJ T1.ab 1;go_wp2;clear e1
 go_loopw [5,18] (λov iv wr=>∃(k n:Nat) (ao:qO) (co:Nat) (R:List Co),k<=B.ah.length/\iv=In i6 k/\ov=.slice ao n co/\Hid (n=R.length)/\n<=k/\Hid (R.map (·.1)=(B.ah.take k).filterMap (KL kind B))/\Below w1.heap.size w1 wr/\Hid (AskO w1.heap.size wr ao co R)) (λ_ i _=>B.ah.length - (intOf i).toNat)
 case atStart=>exact⟨0,0,none,0,[],qo,rfl,rfl,rfl,AG,rfl,dG _ _,AskO.nil _ _⟩
 case round=>
  obtain⟨k,n,ao,co,R,hk,rfl,rfl,H,d1,HR,hb,HA⟩:=hrel;have hz:=hb.size
  by_cases a6:k<B.ah.length
  ·obtain⟨s,aF⟩:∃s,B.ah[k]?=some s:=⟨B.ah[k],by simp[a6]⟩
   have au:=AE aF;have aa:=hV.bc au;have bk:Hid (s.aQ≠0->0<s.aQ/\KU s/\s.az<=s.aI):=λhp=>Mb hV au hp
   have HT:Hid ((B.ah.take (k+1)).filterMap (KL kind B)=(B.ah.take k).filterMap (KL kind B)++(KL kind B s).toList):=by
    unfold Hid;rw[ec,aF,List.filterMap_append];cases h:KL kind B s<;>simp[h]
   have bO:B.ah≠[]:=by intro h;rw[h]at a6;simp at a6
   have ba:Hid (BkAt wr a1 a2 a3 B):=ca.ab.below hb;obtain⟨bS,oS,ea,dd,bB⟩:=ba.ab.1 bO;subst ea;have bT:=bB k s aF;unfold SvcAt at bT;obtain⟨x0,x1,x2,x3,x4,x5,x6,x7,x8,x9,ct,cu,cv⟩:=bT;obtain⟨Wa,bz⟩:∃W,wr.alloc (.cells (qsV s) 34)=W:=⟨_,rfl⟩;have an:=AN wr (.cells (qsV s) 34);have X1:Hid _:=dm wr (.cells (qsV s) 34);have cq:wr.heap.size<(wr.alloc (.cells (qsV s) 34)).heap.size:=by simp
   rw[bz]at an X1 cq;obtain⟨N,HN⟩:∃N,Hid (N=Ar s.aj s.name B.ar B.ar.length):=⟨_,rfl⟩;obtain⟨L,HL⟩:∃L,Hid (L=Eo B s (ofS s.name B.ar)):=⟨_,rfl⟩;obtain⟨dr,bb⟩:∃dr:Int,Hid (dr=(Cs L:Int)):=⟨_,rfl⟩;have a9:Hid (KL kind B s=Ij kind s N dr L):=by unfold Hid KL;rw[HN.ab,bb.ab,HL.ab]
   have J:L.length<=1048576:=by rw[HL.ab];exact AH (VM B s _) (AH (Mj s.name B.ar) hS.2.1)
   have aQ:=Ed s.aj s.name B.ar B.ar.length AG;rw[<-HN.ab]at aQ;unfold Cnt.bj at aQ;obtain⟨n0,n1,n2,n3,n4,n5,n6,n7,n8,n9⟩:=aQ;have dx:=hS.2.1;clear aF bO bB au
   go_upto_region 6 with fail
   clear bz x0 x1 x2 x3 x4 x5 x6 x7 x8 x9 ct cu cv;have am:=hb.trans (an.mono hz);have Ta:Hid _:=AK am T1.ab;have e0:=AJ Ta.ab 0;have e1:=AJ Ta.ab 1;have e2:=AJ Ta.ab 2;have e3:=AJ Ta.ab 3
   go_wp2_with (first
    |(refine dB rfl 34 (.tmp 8) rfl wr.heap.size rfl 34 (qsV s) (0,0) _ X1.ab Tryz.underlying34 rfl N3 ?_))
   refine(Qa B s b N _ a2 a3 c1 c2 c3 _ hV cb hS hZ (P1.ab.below am cm) (ba.ab.below an) HN L HL dr bb).mono ?_;rintro e w2 ⟨al,cl,rfl,be,aA⟩;clear e0 e1 e2 e3 Ta X1;have d6:=aA.size;have aH:=am.trans (aA.mono qo);have a8:Hid (AskO w1.heap.size w2 ao co R):=(HA.ab.below an).below aA;have O2:Hid (OwnSn Wa.heap.size w2 al cl L):=be.ab;clear be aA HA an
   go_upto_region 7 with(first
    |(refine qAM (dm w2 _) Ag ?_;intro w3 hz on;have S3:Hid (qBl w3 (w2.heap.size) (qhV s N dr al L.length cl) 145):=hz;have aS:Below w2.heap.size w2 w3:=(AN w2 _).trans on.below;have cn:w3.heap.size=w2.heap.size+1:=(by rw[on.size];show(w2.heap.push _).size=_;simp);clear hz on))
   obtain⟨W4,bw⟩:∃W,w3.alloc (.cells #[.nilFunc,.func (.func 94) #[.agg (qhV s N dr al L.length cl)] #[],.func (.func 95) #[.agg (qhV s N dr al L.length cl)] #[],.func (.func 96) #[.agg (qhV s N dr al L.length cl)] #[],.func (.func 97) #[.agg (qhV s N dr al L.length cl)] #[],.func (.func 98) #[.agg (qhV s N dr al L.length cl)] #[],.func (.func 99) #[.agg (qhV s N dr al L.length cl)] #[]] 148)=W:=⟨_,rfl⟩;have aB:=AN w3 (.cells #[.nilFunc,.func (.func 94) #[.agg (qhV s N dr al L.length cl)] #[],.func (.func 95) #[.agg (qhV s N dr al L.length cl)] #[],.func (.func 96) #[.agg (qhV s N dr al L.length cl)] #[],.func (.func 97) #[.agg (qhV s N dr al L.length cl)] #[],.func (.func 98) #[.agg (qhV s N dr al L.length cl)] #[],.func (.func 99) #[.agg (qhV s N dr al L.length cl)] #[]] 148);have F4:Hid _:=dm w3 (.cells #[.nilFunc,.func (.func 94) #[.agg (qhV s N dr al L.length cl)] #[],.func (.func 95) #[.agg (qhV s N dr al L.length cl)] #[],.func (.func 96) #[.agg (qhV s N dr al L.length cl)] #[],.func (.func 97) #[.agg (qhV s N dr al L.length cl)] #[],.func (.func 98) #[.agg (qhV s N dr al L.length cl)] #[],.func (.func 99) #[.agg (qhV s N dr al L.length cl)] #[]] 148);rw[bw]at aB F4
   go_upto_region 8 with(first
    |(refine dB rfl 145 (.tmp 9) rfl w2.heap.size rfl 145 (qhV s N dr al L.length cl) (0,0) _ S3.ab Tryz.underlying145 rfl Ag ?_))
   clear bw;obtain⟨o,z⟩:∃o,Hid (Ij kind s N dr L=o):=⟨_,rfl⟩;have aI:=aH.trans ((aS.trans (aB.mono qo)).mono qo);have F:Below w2.heap.size w2 W4:=aS.trans (aB.mono qo);have aK:Hid (AskO w1.heap.size W4 ao co R):=a8.ab.below F;have O4:Hid (OwnSn Wa.heap.size W4 al cl L):=Ai O2.ab F AG;have M:0<=N.aE:=qo
   have O:N.aE<=1048576:=qo
   have Y:0<=N.ready:=qo
   have Z:N.ready<=1048576:=qo
   rw[cn]at F4
   obtain⟨fk,bK,ah,ag⟩:∃fk:Nat,(∀args w,(callFunc fk args).run Tryz.prog w=.ok (.enter fk args) w)/\Hid (∀W:World,W.heap[w2.heap.size+1]?=some (.cells #[.nilFunc,.func (.func 94) #[.agg (qhV s N dr al L.length cl)] #[],.func (.func 95) #[.agg (qhV s N dr al L.length cl)] #[],.func (.func 96) #[.agg (qhV s N dr al L.length cl)] #[],.func (.func 97) #[.agg (qhV s N dr al L.length cl)] #[],.func (.func 98) #[.agg (qhV s N dr al L.length cl)] #[],.func (.func 99) #[.agg (qhV s N dr al L.length cl)] #[]] 148 (0,0))->W.cell? ⟨w2.heap.size+1,kind.toNat,none⟩=some (.func (.func fk) #[.agg (qhV s N dr al L.length cl)] #[]))/\Hid (∀W:World,OwnSn Wa.heap.size W al cl L->Calls Tryz.prog fk #[.agg (qhV s N dr al L.length cl)] W λe w'=>FH W.heap.size w' e o/\Below W.heap.size W w'):=by
    rcases(show kind=1\/kind=2\/kind=3\/kind=4\/kind=5\/kind=6 by omega) with rfl|rfl|rfl|rfl|rfl|rfl
    ·refine⟨94,enters_of Tryz.func94 qk rfl,λW h=>AJ h 1,λW h=>?_⟩
     have e:C6 s N dr L=o:=by rw[<-z.ab];unfold Ij;simp
     have:=Rl s N dr L Wa.heap.size al cl W J aa M O Y Z h
     try simp only[qbV]at this
     rw[e]at this;exact this
    ·refine⟨95,enters_of Tryz.func95 qk rfl,λW h=>AJ h 2,λW h=>?_⟩
     have e:L9 s N L=o:=by rw[<-z.ab];unfold Ij;simp
     have:=Ux s N dr L Wa.heap.size al cl W J aa M O Y Z h
     try simp only[qbV]at this
     rw[e]at this;exact this
    ·refine⟨96,enters_of Tryz.func96 qk rfl,λW h=>AJ h 3,λW h=>?_⟩
     have e:IS s L=o:=by rw[<-z.ab];unfold Ij;simp
     have:=Sm s N dr L Wa.heap.size al cl W J aa M O Y Z h
     try simp only[qbV]at this
     rw[e]at this;exact this
    ·refine⟨97,enters_of Tryz.func97 qk rfl,λW h=>AJ h 4,λW h=>?_⟩
     have e:DO s=o:=by rw[<-z.ab];unfold Ij;simp
     have:=ST s N dr L Wa.heap.size al cl W J aa bk.ab M O Y Z h
     try simp only[qbV]at this
     rw[e]at this;exact this
    ·refine⟨98,enters_of Tryz.func98 qk rfl,λW h=>AJ h 5,λW h=>?_⟩
     have e:DS s N L=o:=by rw[<-z.ab];unfold Ij;simp
     have:=QS s N dr L Wa.heap.size al cl W J aa M O Y Z h
     try simp only[qbV]at this
     rw[e]at this;exact this
    ·refine⟨99,enters_of Tryz.func99 qk rfl,λW h=>AJ h 6,λW h=>?_⟩
     have e:EI s N L=o:=by rw[<-z.ab];unfold Ij;simp
     have:=Rc s N dr L Wa.heap.size al cl W J aa M O Y Z h
     try simp only[qbV]at this
     rw[e]at this;exact this
   have a5:=ah.ab W4 F4.ab;have df:0<=kind:=qo
   have ds:kind<7:=qo
   have d7:=F.size;clear ah F4 S3 O2 a8 aS aB F aH
   go_wp2_with fail
   refine(ag.ab _ O4.ab).mono ?_;rintro e w5 ⟨⟨A,ae,ce,rfl,cc,b7⟩,aC⟩;have d8:=aC.size;have b8:Hid (AskO w1.heap.size w5 ao co R):=aK.ab.below aC;have cf:Hid _:=aK.ab.cH;have bD:=aI.trans (aC.mono qo);clear a5 O4 aC aK aI ag bK;obtain⟨W6,bx⟩:∃W,w5.alloc (.cells (qaV A ae ce) 45)=W:=⟨_,rfl⟩;have ak:=AN w5 (.cells (qaV A ae ce) 45);have F6:Hid _:=dm w5 (.cells (qaV A ae ce) 45);rw[bx]at ak F6;have d9:=ak.size;have aJ:=bD.trans (ak.mono qo);have aM:Hid (AskO w1.heap.size W6 ao co R):=b8.ab.below ak
   cases o with
   |none=>
    simp only[Option.isSome_none];go_wp2
    go_roundw
    case rel=>exact⟨k+1,n,ao,co,R,qo,qn,rfl,H,qo,by unfold Hid;rw[HT.ab,a9.ab,z.ab,HR.ab];simp,aJ,aM⟩
    case measure=>simp[intOf];omega
   |some A'=>
    obtain rfl:=b7.ab A' rfl;have bd:Hid _:=Ai cc.ab ak AG;simp only[Option.isSome_some]
    go_upto_region 10 with fail
    clear bx
    go_wp2_with (first
     |(refine dB rfl 45 (.tmp 11) rfl w5.heap.size rfl 45 (qaV A ae ce) (0,0) _ F6.ab Tryz.underlying45 rfl AV ?_)
     |(at_builtin;refine Ic rfl (.tmp 47) (.tmp 49) 39 rfl w1.heap.size 45 _ 8 88 Tryz.underlying39 LW rfl qo (Sl ao n co) n _ rfl (show(W6.alloc (.cells (qaV A ae ce) 45)).ownsRow w1.heap.size 45 8 (Sl ao n co) n (DQ R) by rw[H.ab];exact(aM.ab.below (AN W6 _)).row) ⟨W6.heap.size,0,none⟩ 1 ((qaV A ae ce):Array Value).toList rfl rfl (DI (dm W6 _)) (λu hu=>(eL.1 (PQ A ae ce)) u (by simpa using hu)) qm qo qp ?_;intro g' aG w7 de O7 bC K7))
    have aD:=AN W6 (.cells (qaV A ae ce) 45)
    have b9:Hid (AskO w1.heap.size w7 (qad g') aG (R++[(A,ae,ce)])):=by
     have h1:=aM.ab.below aD;refine h1.add (N0:=W4.heap.size) cf.ab (A,ae,ce) (BC (Ai bd.ab aD AG) qo) (λhn ge e=>?_) (by have:=O7.ab;rw[H.ab]at this;exact this) (by have:=K7.ab;rw[H.ab]at this;exact this);obtain⟨g2,_,e2,h2,_⟩:=Fg bd.ab hn;have e':ae=some ⟨ge,0,none⟩:=e;rw[e']at e2;injection e2 with e2;injection e2 with e2
     omega
    have bE:=aJ.trans ((aD.mono (show w1.heap.size<=W6.heap.size by omega)).trans bC);clear aD bC K7 O7;go_wp2
    go_roundw
    case rel=>exact⟨k+1,n+1,some ⟨g',0,none⟩,aG,R++[(A,ae,ce)],qo,qn,rfl,by unfold Hid;rw[H.ab];simp,qo,by unfold Hid;rw[HT.ab,a9.ab,z.ab,fm,HR.ab];rfl,bE,b9⟩
    case measure=>simp[intOf];omega
  ·obtain rfl:k=B.ah.length:=qo
   have HE:Hid (R.map (·.1)=B.ah.filterMap (KL kind B)):=by unfold Hid;rw[HR.ab,eC]
   have bX:=aq.size;go_wp2;go_ret;exact⟨ao,co,R,ei (λq=>Ending.returned (Sl ao q co)) H.ab,HA.ab.mono bX,HE,aq.trans (hb.mono bX)⟩
def Nw(kind:Int)(B:Bk):List Ac:=if inB kind 1 6=true/\Aj B=true then B.ah.filterMap (KL kind B) else []
theorem RK(kind:Int)(B:Bk)(a1 a2 a3:qO)(c1 c2 c3:Nat)(w:World)(ak:Hid (B.ar.length<=c2))(hS:B.aR)(hZ:B.aP)(hB:BkAt w a1 a2 a3 B):
  Calls Tryz.prog 10 #[In i6 kind,.agg (qbV B a1 c1 a2 c2 a3 c3)] w λe w'=>∃(ao:qO) (cap:Nat) (R:List Co),e=.returned (Sl ao R.length cap)/\R.map (·.1)=Nw kind B/\SlA w' ao R/\Below w.heap.size w w':=by
 obtain⟨W0,Y⟩:∃W,w.alloc (.cells (qbV B a1 c1 a2 c2 a3 c3) 28)=W:=⟨_,rfl⟩;have F:=AN w (.cells (qbV B a1 c1 a2 c2 a3 c3) 28);have H:Hid _:=dm w (.cells (qbV B a1 c1 a2 c2 a3 c3) 28);have af:w.heap.size<(w.alloc (.cells (qbV B a1 c1 a2 c2 a3 c3) 28)).heap.size:=by simp
 rw[Y]at F H af;have M:Hid (∀W:World,Below W0.heap.size W0 W->Calls Tryz.prog 24 #[.agg (qbV B a1 c1 a2 c2 a3 c3)] W λe w'=>e=.returned (.bool (Aj B))/\Below W.heap.size W w'):=λW h=>It B a1 a2 a3 c1 c2 c3 W hS hZ ((hB.below F).below h)
 go_enter Tryz.func10,Tryz.ntmps10
 go_upto_region 1 with fail
 clear Y;have e0:=AJ H.ab 0;have e1:=AJ H.ab 1;have e2:=AJ H.ab 2;have e3:=AJ H.ab 3
 go_wp2_with fail
 refine(Nq kind _).mono ?_;rintro e w' ⟨rfl,aq⟩;subst aq;obtain⟨q,HQ⟩:∃q,Hid (inB kind 1 6=q):=⟨_,rfl⟩;rw[HQ.ab];cases q
 ·have O:Hid (Nw kind B=[]):=by unfold Hid Nw;rw[dk (by rw[HQ.ab];simp)]
  go_wp2;go_ret;exact⟨none,0,[],rfl,O.ab.symm,(λh=>absurd rfl h),F⟩
 ·go_wp2_with fail
  refine(M.ab _ (dG _ _)).mono ?_;rintro e w1 ⟨rfl,J⟩;have z:=F.trans (J.mono F.size);have T1:Hid _:=AK J H.ab af;clear e0 e1 e2 e3 J H M;obtain⟨v,HV⟩:∃v,Hid (Aj B=v):=⟨_,rfl⟩;rw[HV.ab];cases v
  ·have O:Hid (Nw kind B=[]):=by unfold Hid Nw;rw[dk (by rw[HV.ab];simp)]
   go_wp2;go_ret;exact⟨none,0,[],rfl,O.ab.symm,(λh=>absurd rfl h),z⟩
  ·have O:Hid (Nw kind B=B.ah.filterMap (KL kind B)):=by unfold Hid Nw;rw[dv ⟨HQ.ab,HV.ab⟩]
   have ae:=validB_iff.1 HV.ab;have aa:=inB_iff.1 HQ.ab;have e0:=AJ T1.ab 0;have e1:=AJ T1.ab 1;have e2:=AJ T1.ab 2;have e3:=AJ T1.ab 3
   go_wp2_with fail
   refine(Vs kind aa.1 aa.2 B a1 a2 a3 c1 c2 c3 _ ak hS hZ ae (hB.below z)).mono ?_;rintro e w2 ⟨ao,co,R,rfl,HO,HR,an⟩;have Z:=z.trans (an.mono z.size);clear e0 e1 e2 e3;go_wp2;go_ret;exact⟨ao,co,R,rfl,by rw[O.ab,<-HR.ab],HO.ab.sl,Z⟩
end
end Go.Proofs.YtbceafpodamnfaaGreatDoor
