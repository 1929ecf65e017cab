import Derived.Test.YtbceafpodamnfaaGreatDoorG44
import Derived.Test.YtbceafpodamnfaaGreatDoorG46
set_option linter.all false
set_option maxHeartbeats 16000000
set_option maxRecDepth 100000
namespace Go.Proofs.YtbceafpodamnfaaGreatDoor
open Go.RowKit Go.Sort
open Go.Value renaming int->In,slice->Sl,string->Sg,bool->Bo,pointer->Po
open Go.IntKind renaming i64->i6
theorem wf_in{n:Int}(h: -9223372036854775808<=n/\n<=9223372036854775807):(Lit.int .i64 n).wf=true:=by
 show(decide (IntKind.min .i64<=n)&&decide (n<=IntKind.max .i64))=true;have z:IntKind.min .i64= -9223372036854775808:=qd
 have F:IntKind.max .i64=9223372036854775807:=qd
 rw[z,F];simp only[di,dS];exact h
theorem okSp.aP{B:Bk}(h:okSp B):B.aP:=⟨AH h.1.1 qd,AH h.1.2.1 qd,AH h.1.2.2 qd,h.2⟩
theorem okSp.aR{B:Bk}(h:okSp B):B.aR:=⟨AH h.1.1 qd,AH h.1.2.1 qd,AH h.1.2.2 qd⟩
theorem BkAt.bY{w w':World}{a1 a2 a3:qO}{B:Bk}(h:BkAt w a1 a2 a3 B){z:Nat}{n0:Int}{b1 b2 b3:qO}{m1 m2 m3 k1 k2 k3:Nat}(vz:qBl w z #[In i6 n0,Sl b1 m1 k1,Sl b2 m2 k2,Sl b3 m3 k3] 28)(on:BH z w w'):BkAt w' a1 a2 a3 B:=by
 have O:∀b o s,w.cell? ⟨b,o,none⟩=some (.string s)->b≠z:=λb o s hc e=>by
  subst e;simp only[World.cell?,vz]at hc;rcases o with _|_|_|_|o<;>simp at hc
 have hz:=on.size;refine⟨λM=>?_,λM=>?_,λM=>?_⟩
 ·obtain⟨b,H,e,Y,F⟩:=h.1 M
  obtain⟨x,_,hx⟩:=fR M;have J:=F 0 x (by rw[hx];rfl);unfold SvcAt at J;have hb:=on.aL b (O b _ _ J.1);refine⟨b,H,e,qo,λi s Z=>?_⟩;have W:=F i s Z;unfold SvcAt at *;simp only[λo=>eQ (w:=w) (w':=w') (a:=⟨b,o,none⟩) hb];exact W
 ·obtain⟨b,H,e,Y,F⟩:=h.2.1 M
  obtain⟨x,_,hx⟩:=fR M;have J:=F 0 x (by rw[hx];rfl);unfold CpAt at J;have hb:=on.aL b (O b _ _ J.1);refine⟨b,H,e,qo,λi s Z=>?_⟩;have W:=F i s Z;unfold CpAt at *;simp only[λo=>eQ (w:=w) (w':=w') (a:=⟨b,o,none⟩) hb];exact W
 ·obtain⟨b,H,e,Y,F⟩:=h.2.2 M
  obtain⟨x,_,hx⟩:=fR M;have J:=F 0 x (by rw[hx];rfl);unfold BtAt at J;have hb:=on.aL b (O b _ _ J.1);refine⟨b,H,e,qo,λi s Z=>?_⟩;have W:=F i s Z;unfold BtAt at *;simp only[λo=>eQ (w:=w) (w':=w') (a:=⟨b,o,none⟩) hb];exact W
def Bq(W:World)(g:Nat):Prop:=∃(n0:Int) (y1 y2 y3:qO) (m1 m2 m3 k1 k2 k3:Nat),qBl W g #[In i6 n0,Sl y1 m1 k1,Sl y2 m2 k2,Sl y3 m3 k3] 28
def RPq(N:Nat)(W W':World):Prop:=∃g,N<=g/\Bq W g/\BH g W W'/\Bq W' g
theorem IZ{N i p:Nat}{W W':World}{z F H:qO}{Y:Bk}(h:BkAt W z F H Y)(M:Lg p (RPq N) i W W'):BkAt W' z F H Y:=by
 rcases DC M with⟨g,_,⟨_,_,_,_,_,_,_,_,_,_,J⟩,O,_⟩|hb
 ·exact h.bY J O
 ·exact h.below hb
theorem Ui{N i p g:Nat}{W W':World}(h:Bq W g)(hr:Lg p (RPq N) i W W'):Bq W' g:=by
 rcases DC hr with⟨Y,_,_,on,Z⟩|hb
 ·by_cases e:g=Y
  ·rw[e];exact Z
  ·obtain⟨n0,J,M,O,m1,F,H,k1,k2,k3,z⟩:=h
   exact⟨n0,J,M,O,m1,F,H,k1,k2,k3,(on.aL g e).trans z⟩
 ·obtain⟨n0,J,M,O,m1,F,H,k1,k2,k3,z⟩:=h
  exact⟨n0,J,M,O,m1,F,H,k1,k2,k3,AK hb z (AB z).1⟩
theorem RowIs.bU{w:World}{g cap lo:Nat}{R:List Co}(h:RowIs w 45 8 g R.length cap (DQ R))(H:∀r∈R,SlEn lo w r.2.1 r.2.2 r.1.aB):SlA w (qad g) R:=λ_=>by
 refine⟨g,0,rfl,h.lt,λi r F=>⟨?_,(H r (AE F)).sl⟩⟩
 have z:∀(j:Nat) (u:Value),j<8->(Bj r)[j]?=some u->w.cell? ⟨g,0+i*8+j,none⟩=some u:=λj u J M=>by
  rw[dL];exact h.cell ((ID R i r F j J).trans M)
 unfold AcAt;exact⟨z 0 _ qo rfl,z 1 _ qo rfl,z 2 _ qo rfl,z 3 _ qo rfl,z 4 _ qo rfl,z 5 _ qo rfl,z 6 _ qo rfl,z 7 _ qo rfl⟩
theorem kindly(z:Bool)(kind:Int):z=false\/(z=true/\kind<1)\/(z=true/\1<=kind/\6<kind)\/(z=true/\1<=kind/\kind<=6):=by
 cases z with
 |false=>exact .inl rfl
 |true=>
  refine .inr ?_
  by_cases F:kind<1
  ·exact .inl ⟨rfl,F⟩
  by_cases H:6<kind
  ·exact .inr (.inl ⟨rfl,qo,H⟩)
  ·exact .inr (.inr ⟨rfl,qo,qo⟩)
theorem UP{B:Bk}{A:Ac}(h:BM B A=0\/BM B A=7):Nk B A:=by
 unfold BM at h
 cases z:G8 B A with
 |some c=>
  rw[z]at h;have h:c=0\/c=7:=h;unfold G8 at z
  (repeat' split at z)<;>cases z<;>omega
 |none=>
  obtain⟨_,s,H,J,_,_⟩:=M6 z;rw[z,H]at h;refine⟨J,s,H,?_⟩
  cases F:BO B s A.aa (B.av+1) A.aB B.ar with
  |none=>simp only[F]at h;omega
  |some L=>
   simp only[F]at h
   cases M:BA A s with
   |false=>rfl
   |true=>rw[JH M]at h;omega
theorem Ot(X:Bk)(A:Ac)(a1 a2 a3:qO)(c1 c2 c3:Nat)(M:qO)(ce:Nat)(w:World)(O:KW w)(z:okSp X)(hV:Valid X)(hG:Nk X A)(W:ActP A)(hB:BkAt w a1 a2 a3 X)(hE:SlE w M A.aB):
  Calls Tryz.prog 11 #[.agg (qbV X a1 c1 a2 c2 a3 c3),.agg (qaV A M ce)] w λe w'=>∃(F H J:qO) (Y p2 p3:Nat),e=.returned (.tuple #[.agg #[In i6 (Ah X A).av,.slice F (Ah X A).ah.length Y,.slice H (Ah X A).ar.length p2,.slice J (Ah X A).aw.length p3],In i6 (BM X A)])/\BkAt w' F H J (Ah X A)/\Below w.heap.size w w':=by
 refine(RL X A a1 a2 a3 c1 c2 c3 M ce w O z.aR z.aP hB (AH W.1 qd) hE W.2.2 (λ_ e he=>wf_in (W.2.1 e he)) (λ_=>hG)).mono ?_;rintro e w' ⟨Z,h2⟩;rcases Z with⟨hv,_⟩|⟨hv,F,H,J,Y,p2,p3,rfl,hX⟩
 ·rw[validB_iff.2 hV]at hv;cases hv
 ·exact⟨F,H,J,Y,p2,p3,rfl,hX.at,h2⟩
theorem lawAsks_any(ao:qO)(n cap:Nat)(w:World)(bx:KW w)(eS:n<=cap)(hC:JX w ao n):
  Calls Tryz.prog 6 #[Sl ao n cap] w λe w'=>e=.returned (.bool true)/\Below w.heap.size w w':=by
 have e5:0<w.heap.size:=by
  rcases gi w.heap.size with h0|h
  ·unfold KW at bx;simp[World.cell?,h0]at bx
  ·exact h
 by_cases he:1048576<n
 ·go_enter Tryz.func6,Tryz.ntmps6
  go_wp2;go_ret;exact⟨rfl,dG _ _⟩
 have c6:Hid (JX w ao n):=hC;have c8:Hid (KW w):=bx;clear hC bx;go_enter Tryz.func6,Tryz.ntmps6
 go_upto_region 4 with(first
  |(go_at_call 25;refine(Rb ao n cap _ qo eS c6.ab).mono ?_;rintro e w1 ⟨a1,a2,a3,c1,c2,c3,B,kind,rfl,hB,⟨eX,eT⟩,hb⟩;have c7:Hid (B.ar.length<=c2):=eT;have cQ:Hid (BkAt w1 a1 a2 a3 B):=hB;have ay:Hid (okSp B):=eX;have b7:Hid (Below w.heap.size w w1):=hb;have VZ:Hid ((w1.alloc (.cells qzV 28)).heap[w1.heap.size]?=some (.cells qzV 28 (0,0))):=dm w1 _;clear hB eX eT hb)
  |((with_reducible show wpList _ _ _ _ _ _);refine qAM VZ.ab AY ?_;intro w2 aD aF;simp only[Act.put]))
 obtain⟨x,hx⟩:∃x,w1.heap.size=x:=⟨_,rfl⟩;have a8:Below w1.heap.size w1 w2:=(AN w1 _).trans aF.below;have ch:Hid (qBl w2 x (qbV B a1 c1 a2 c2 a3 c3) 28):=by unfold Hid;rw[<-hx];exact aD.ab
 have b5:Hid (BkAt w2 a1 a2 a3 B):=cQ.ab.below a8;have bk:Hid (Below w.heap.size w w2):=b7.ab.trans (a8.mono b7.ab.size);have f3:Hid (KW w2):=(bk.ab.cell (p:=⟨0,0,none⟩) e5).trans c8.ab;rw[hx];clear VZ cQ b7 aD aF c6 a8 hx;have be:Hid (∀W:World,BkAt W a1 a2 a3 B->Calls Tryz.prog 10 #[In i6 kind,.agg (qbV B a1 c1 a2 c2 a3 c3)] W λe w'=>∃(ao:qO) (cap:Nat) (R:List Co),e=.returned (Sl ao R.length cap)/\R.map (·.1)=EJ kind B/\SlA w' ao R/\Below W.heap.size W w'):=λW h=>(RK kind B a1 a2 a3 c1 c2 c3 W c7 ay.ab.aR ay.ab.aP h).mono λe w' ⟨ao,cap,R,h1,h2,h3,h4⟩=>⟨ao,cap,R,h1,by rw[h2,Um],h3,h4⟩
 have bo:Hid (∀W:World,BkAt W a1 a2 a3 B->Calls Tryz.prog 27 #[In i6 kind,.agg (qbV B a1 c1 a2 c2 a3 c3)] W λe w'=>∃(g cap:Nat) (R:List Co),e=.returned (.slice (qad g) R.length cap)/\R.map (·.1)=EJ kind B/\SlA w' (qad g) R/\Below W.heap.size W w'):=λW h=>(OC kind B a1 a2 a3 c1 c2 c3 W ay.ab h).mono λe w' ⟨g,cap,R,h1,h2,_,h4,h5,h6⟩=>⟨g,cap,R,h1,h2,h4.bU h5,h6⟩
 have aM:Hid ((EJ kind B).length<=1000/\∀A∈EJ kind B,ActP A):=by
  unfold Hid EJ;split
  ·rename_i hv
   exact⟨AH (dV ..) (by rw[ef];exact ay.ab.1.1),λA z=>by obtain⟨s,hs,h⟩:=fa.1 (eR.1 z).1;rw[<-h];exact actC_P ay.ab (validB_iff.1 hv) hs⟩
  ·exact⟨AI _,λ_ h=>(nomatch h)⟩
 have bq:Hid (Aj B=false\/kind<1\/6<kind->EJ kind B=[]):=λh=>by
  rw[<-Um];unfold Nw;refine dk λh'=>?_
  obtain⟨k1,k2⟩:=inB_iff.1 h'.1;rcases h with h|h|h
  ·rw[h'.2]at h;cases h
  ·omega
  ·omega
 have bm:Hid (Aj B=true->Runs B B (EJ kind B)):=λh=>run_ask (validB_iff.1 h) kind
 revert be bo aM bq bm
 generalize EJ kind B=As;intro be bo aM bq bm
 go_upto_region 5 with(first
  |((with_reducible show wpList _ _ _ _ _ _);refine dB rfl 28 (.tmp 4) rfl x rfl 28 (qbV B a1 c1 a2 c2 a3 c3) (0,0) _ ch.ab Tryz.underlying28 rfl AY ?_)
  |(go_at_call 10;refine(be.ab _ b5.ab).mono ?_;rintro e w3 ⟨ap,cq,R,rfl,hR,z,hb⟩;have a4:Hid (R.map (·.1)=As):=hR;have cF:Hid (SlA w3 ap R):=z;have ci:Hid _:=GJ hb ch.ab;have b6:Hid (BkAt w3 a1 a2 a3 B):=b5.ab.below hb;have b8:Hid (Below w.heap.size w w3):=bk.ab.trans (hb.mono bk.ab.size);clear hR z hb))
 clear ch b5 bk f3 be;have bn:Hid (R.length<=1000/\∀r∈R,ActP r.1):=⟨by have:=ei List.length a4.ab;rw[ef]at this;rw[this];exact aM.ab.1,λr hr=>aM.ab.2 _ (by rw[<-a4.ab];exact fo hr)⟩
 go_upto_region 7 with(first
  |((with_reducible show wpList _ _ _ _ _ _);refine dB rfl 28 (.tmp 4) rfl x rfl 28 (qbV B a1 c1 a2 c2 a3 c3) (0,0) _ ci.ab Tryz.underlying28 rfl AY ?_)
  |(go_at_call 27;refine(bo.ab _ b6.ab).mono ?_;rintro e w4 ⟨g,eb,R',rfl,hR,z,hb⟩;have db:Hid (R'.map (·.1)=As):=hR;have c9:Hid (SlA w4 (qad g) R'):=z;have b4:Hid (SlA w4 ap R):=cF.ab.below hb;have dr:Hid _:=GJ hb ci.ab;have cR:Hid (BkAt w4 a1 a2 a3 B):=b6.ab.below hb;have b9:Hid (Below w.heap.size w w4):=b8.ab.trans (hb.mono b8.ab.size);clear hR z hb)
  |(go_at_call 26;refine(SG R R' ap _ cq eb _ (by rw[a4.ab,db.ab]) (AH bn.ab.1 qd) (λr hr=>AH (bn.ab.2 r hr).1 qd) b4.ab c9.ab).mono ?_;rintro e w5 ⟨rfl,hb⟩;have cL:Hid (SlA w5 ap R):=b4.ab.below hb;have bv:Hid _:=GJ hb dr.ab;have bd:Hid (BkAt w5 a1 a2 a3 B):=cR.ab.below hb;have aQ:Hid (Below w.heap.size w w5):=b9.ab.trans (hb.mono b9.ab.size);clear hb))
 clear cF ci b6 b8 b4 c9 dr cR b9 bo db aM;obtain⟨vb,a5⟩:∃vb,Hid (Aj B=vb):=⟨_,rfl⟩;have cc:Hid (∀W:World,BkAt W a1 a2 a3 B->Calls Tryz.prog 23 #[.agg (qbV B a1 c1 a2 c2 a3 c3)] W λe w'=>e=.returned (.bool vb)/\Below W.heap.size W w'):=λW h=>by rw[<-a5.ab];exact A7 B a1 a2 a3 c1 c2 c3 W ay.ab.aR ay.ab.aP h
 have de:Hid (vb=false\/kind<1\/6<kind->R.length=0):=λh=>by
  have:=ei List.length a4.ab;rw[ef]at this;rw[this,bq.ab (by rw[a5.ab];exact h)];rfl
 have LD:Hid True:=trivial;rcases(kindly vb kind) with rfl|⟨rfl,hk⟩|⟨rfl,hk0,hk⟩|⟨rfl,hk1,hk6⟩
 iterate 3
  ·have ge:R.length=0:=de.ab (by simp[*])
   rw[ge]
   go_wp2_with (first
    |((with_reducible show wpList _ _ _ _ _ _);refine dB rfl 28 (.tmp 4) rfl x rfl 28 (qbV B a1 c1 a2 c2 a3 c3) (0,0) _ bv.ab Tryz.underlying28 rfl AY ?_)
    |(go_at_call 23;refine(cc.ab _ bd.ab).mono ?_;rintro e w6 ⟨rfl,hb⟩;have aS:Hid (Below w.heap.size w w6):=aQ.ab.trans (hb.mono aQ.ab.size);clear hb))
   go_ret;exact⟨rfl,aS.ab⟩
 go_upto_region 10 with(first
  |((with_reducible show wpList _ _ _ _ _ _);refine dB rfl 28 (.tmp 4) rfl x rfl 28 (qbV B a1 c1 a2 c2 a3 c3) (0,0) _ bv.ab Tryz.underlying28 rfl AY ?_)
  |(go_at_call 23;refine(cc.ab _ bd.ab).mono ?_;rintro e w6 ⟨rfl,hb⟩;have fv:Hid (SlA w6 ap R):=cL.ab.below hb;have cj:Hid _:=GJ hb bv.ab;have cS:Hid (BkAt w6 a1 a2 a3 B):=bd.ab.below hb;have aS:Hid (Below w.heap.size w w6):=aQ.ab.trans (hb.mono aQ.ab.size);have VZ:Hid ((w6.alloc (.cells qzV 28)).heap[w6.heap.size]?=some (.cells qzV 28 (0,0))):=dm w6 _;clear hb)
  |((with_reducible show wpList _ _ _ _ _ _);refine dB rfl 28 (.tmp 4) rfl x rfl 28 (qbV B a1 c1 a2 c2 a3 c3) (0,0) _ cj.ab Tryz.underlying28 rfl AY ?_)
  |((with_reducible show wpList _ _ _ _ _ _);refine qAM VZ.ab AY ?_;intro w7 e8 fk;simp only[Act.put]))
 have hV:=validB_iff.1 a5.ab;have cd:Hid (Valid B):=hV;have df:Hid (Runs B B As):=bm.ab a5.ab;have a9:Below w6.heap.size w6 w7:=(AN w6 _).trans fk.below;have dd:Hid (KW w6):=(aS.ab.cell (p:=⟨0,0,none⟩) e5).trans c8.ab;have gj:=(AB cj.ab).1;have ev:0<w6.heap.size:=qo
 have dy:Hid (qBl w7 (w6.heap.size) (qbV B a1 c1 a2 c2 a3 c3) 28):=e8;have cT:Hid (BkAt w7 a1 a2 a3 B):=cS.ab.below a9;have bT:Hid _:=a9;clear VZ e8 fk a9 cL bv bd aQ cc de bq bm hV a5 LD c7;go_wp2
 go_loopw [7] (λiv wr=>∃(i:Nat) (X:Bk) (x1 x2 x3:qO) (p1 p2 p3:Nat),i<=R.length/\iv=In i6 i/\Hid (Runs B X (As.drop i))/\Hid (okSp X)/\Hid (BkAt wr x1 x2 x3 X)/\Hid (qBl wr (w6.heap.size) (qbV X x1 p1 x2 p2 x3 p3) 28)/\Hid (Below w6.heap.size w6 wr)) (λi _=>R.length - (intOf i).toNat)
 case atStart=>exact⟨0,B,a1,a2,a3,c1,c2,c3,AI _,rfl,df,ay,cT,dy,bT⟩
 case round=>
  obtain⟨i,X,x1,x2,x3,p1,p2,p3,hi,rfl,dp,ca,c5,cm,aw⟩:=hrel;clear cT dy bT
  by_cases cw:i<R.length
  ·obtain⟨r,hr⟩:∃r,R[i]?=some r:=⟨R[i],by simp[cw]⟩
   obtain⟨A,ae,ce⟩:=r;have bw:As[i]?=some A:=by rw[<-a4.ab,ej,hr];rfl
   have eV:As.drop i=A::As.drop (i+1):=by rw[fe (AC bw).1,(AC bw).2]
   have bz:=df.ab.code cd.ab (AE bw);have aI:=dp.ab;rw[eV]at aI;have bB:=aI.code cd.ab (dP ..);have bX:=bz;have b0:=bB;have dq:Hid (Runs B (Ah X A) (As.drop (i+1))):=aI.next;have da:Hid (okSp (Ah X A)):=JU A aI.val ca.ab;have ey:=aI.val;have hP:=bn.ab.2 _ (AE hr);obtain⟨b,g0,ea,eM,cr⟩:=fv.ab (by intro h;rw[h]at cw;simp at cw);subst ea;have HX:Hid (AcAt w6 b (g0+i*8) (A,ae,ce)):=(cr i _ hr).1;have cv:Hid (SlE w6 ae A.aB):=(cr i _ hr).2;obtain⟨c,hc⟩:∃c,BM B A=c:=⟨_,rfl⟩;obtain⟨d,hd⟩:∃d,BM X A=d:=⟨_,rfl⟩;obtain⟨Y,hY⟩:∃Y,Ah X A=Y:=⟨_,rfl⟩;obtain⟨Y0,co⟩:∃Y,Ah B A=Y:=⟨_,rfl⟩;have cM:Hid (∀W:World,Below w6.heap.size w6 W->Calls Tryz.prog 11 #[.agg (qbV B a1 c1 a2 c2 a3 c3),.agg (qaV A ae ce)] W λe w'=>(∃(F H J:qO) (M O Z:Nat),e=.returned (.tuple #[.agg (qbV Y0 F M H O J Z),In i6 c])/\BkAt w' F H J Y0)/\Below W.heap.size W w'):=λW h=>(Ot B A a1 a2 a3 c1 c2 c3 ae ce W ((h.cell (p:=⟨0,0,none⟩) ev).trans dd.ab) ay.ab cd.ab (UP bX) hP (cS.ab.below h) (cv.ab.below h)).mono λe w' ⟨F,H,J,M,O,Z,h1,h2,h3⟩=>⟨⟨F,H,J,M,O,Z,by rw[h1,hc,co],by rw[<-co];exact h2⟩,h3⟩
   have cN:Hid (∀W:World,Below w6.heap.size w6 W->BkAt W x1 x2 x3 X->Calls Tryz.prog 11 #[.agg (qbV X x1 p1 x2 p2 x3 p3),.agg (qaV A ae ce)] W λe w'=>(∃(F H J:qO) (M O Z:Nat),e=.returned (.tuple #[.agg (qbV Y F M H O J Z),In i6 d])/\BkAt w' F H J Y)/\Below W.heap.size W w'):=λW h hB=>(Ot X A x1 x2 x3 p1 p2 p3 ae ce W ((h.cell (p:=⟨0,0,none⟩) ev).trans dd.ab) ca.ab ey (UP b0) hP hB (cv.ab.below h)).mono λe w' ⟨F,H,J,M,O,Z,h1,h2,h3⟩=>⟨⟨F,H,J,M,O,Z,by rw[h1,hd,hY],by rw[<-hY];exact h2⟩,h3⟩
   rw[hc]at bz;rw[hd]at bB;rw[hY]at dq da;have f1:Hid (c=0\/c=7):=bz;have f2:Hid (d=0\/d=7):=bB;have a6:Hid _:=AK aw.ab cj.ab gj;have gy:=aw.ab.size;have fd:=(AB cm.ab).1;have ht:=bn.ab.1;clear hc hd hY co bz bB bX b0 aI ey hP cr hr bw eV dp ca
   go_upto_region 13 with fail
   refine HU 10 8 9 (RPq wr.heap.size) (λW=>Below wr.heap.size wr W) (λv W=>∃(g:Nat) (F H J:qO) (M O Z:Nat),v=.pointer (qad g)/\wr.heap.size<=g/\qBl W g (qbV Y0 F M H O J Z) 28/\BkAt W F H J Y0) (λV W=>(λv W=>∃g,v=.pointer (qad g)/\wr.heap.size<=g/\Bq W g) (V 9) W/\(λv W=>∃(F H J:qO) (M O Z:Nat),v=.agg (qbV Y0 F M H O J Z)/\BkAt W F H J Y0) (V 7) W) _ qk qk rfl rfl qk ⟨qd,qd⟩ (dG _ _) (λW W2 h hb=>h.trans (hb.mono h.size)) (λW W2 h ⟨g,hg,_,on,_⟩=>h.trans (on.below.mono hg)) (λv W W2 ⟨g,F,H,J,M,O,Z,h1,h2,h3,h4⟩ hb=>⟨g,F,H,J,M,O,Z,h1,h2,AK hb h3 (AB h3).1,h4.below hb⟩) ?hstore ?_
   case hstore=>
    intro V W K AA hW ⟨d9,d7⟩ z hK;simp only[pA]at z;obtain⟨g,e9,hg,n0,z1,z2,z3,m1,m2,m3,k1,k2,k3,hz⟩:=d9;obtain⟨F,H,J,M,O,Z,e7,hy⟩:=d7;generalize V 7=x7 at e7 z;generalize V 9=x9 at e9 z hK;subst e9;subst e7;subst z;refine qAM hz AY ?_;intro w2 aD aF;exact wpList_nil (hK.ab w2 ⟨g,hg,⟨_,_,_,_,_,_,_,_,_,_,hz⟩,aF,⟨_,_,_,_,_,_,_,_,_,_,aD⟩⟩ ⟨g,F,H,J,M,O,Z,rfl,hg,aD,hy.bY hz aF⟩)
   intro cb;apply AT
   ·intro V W K AA hW hZ hd z hK
    simp only[pA]at z;subst z;have e0:=AJ (AK hW a6.ab) 0;have e1:=AJ (AK hW a6.ab) 1;have e2:=AJ (AK hW a6.ab) 2;have e3:=AJ (AK hW a6.ab) 3;go_wp2;exact hK.ab _ brf
   iterate 3 refine AT qR ?_
   apply AT
   ·intro V W K AA hW hZ hd z hK
    simp only[pA,qv (hd 3)]at z;subst z;have hq:=HX.ab.below (aw.ab.trans (hW.mono aw.ab.size)) eM;unfold AcAt at hq;obtain⟨q0,M,O,Z,q4,q5,q6,q7⟩:=hq;go_wp2;exact hK.ab _ brf
   refine Ab (λv W=>∃(F H J:qO) (M O Z:Nat),v=.tuple #[.agg (qbV Y0 F M H O J Z),In i6 c]/\BkAt W F H J Y0) (λ_ _ v W W2 ⟨F,H,J,M,O,Z,h1,h2⟩ hr=>⟨F,H,J,M,O,Z,h1,IZ h2 hr⟩) ?_ ?_
   ·intro V W K AA hW hZ hd z hK
    simp only[pA,qv (hd 0),qv (hd 4)]at z;subst z
    go_wp2_with fail
    refine(cM.ab _ (aw.ab.trans (hW.mono aw.ab.size))).mono ?_;rintro e w2 ⟨⟨F,H,J,M,O,Z,rfl,hy⟩,ct⟩;have an:Hid (BkAt w2 F H J Y0):=hy;clear hy;go_wp2;exact hK.ab _ _ ct ⟨F,H,J,M,O,Z,rfl,an.ab⟩
   refine Ab (λv W=>∃(F H J:qO) (M O Z:Nat),v=.tuple #[.agg (qbV Y0 F M H O J Z),In i6 c]/\BkAt W F H J Y0) (λ_ _ v W W2 ⟨F,H,J,M,O,Z,h1,h2⟩ hr=>⟨F,H,J,M,O,Z,h1,IZ h2 hr⟩) ?_ ?_
   ·intro V W K AA hW hZ hd z hK
    have d5:=hd 5;simp only[pA]at z;generalize V 5=x5 at d5 z;subst z;obtain⟨F,H,J,M,O,Z,rfl,hy⟩:=d5;have an:Hid (BkAt W F H J Y0):=hy;clear hy;go_wp2;exact hK.ab _ _ brf ⟨F,H,J,M,O,Z,rfl,an.ab⟩
   refine Ab (λv W=>∃(F H J:qO) (M O Z:Nat),v=.agg (qbV Y0 F M H O J Z)/\BkAt W F H J Y0) (λ_ _ v W W2 ⟨F,H,J,M,O,Z,h1,h2⟩ hr=>⟨F,H,J,M,O,Z,h1,IZ h2 hr⟩) ?_ ?_
   ·intro V W K AA hW hZ hd z hK
    have d6:=hd 6;simp only[pA]at z;generalize V 6=x6 at d6 z;subst z;obtain⟨F,H,J,M,O,Z,rfl,hy⟩:=d6;have an:Hid (BkAt W F H J Y0):=hy;clear hy;go_wp2;exact hK.ab _ _ brf ⟨F,H,J,M,O,Z,rfl,an.ab⟩
   refine Ab (λv _=>v=In i6 c) (λ_ _ _ _ _ h _=>h) ?_ ?_
   ·intro V W K AA hW hZ hd z hK
    have d6:=hd 6;simp only[pA]at z;generalize V 6=x6 at d6 z;subst z;obtain⟨F,H,J,M,O,Z,rfl,hy⟩:=d6;clear hy;go_wp2;exact hK.ab _ _ brf rfl
   refine Ab (λv W=>∃g,v=.pointer (qad g)/\wr.heap.size<=g/\Bq W g) (λ_ _ v W W2 ⟨g,h1,h2,h3⟩ hr=>⟨g,h1,h2,Ui h3 hr⟩) ?_ ?_
   ·intro V W K AA hW hZ hd z hK
    simp only[pA]at z;subst z;have gx:=hW.size;go_wp2;exact hK.ab _ _ (AN W _) ⟨_,rfl,qo,_,_,_,_,_,_,_,_,_,_,dm W _⟩
   refine Ab (λ_ _=>True) (λ_ _ _ _ _ _ _=>trivial) ?_ ?_
   ·exact λV W K AA hW _ hd z hK=>cb V W K AA hW ⟨hd 9 qk,hd 7 qk⟩ z λW2 hr _=>hK.ab undef W2 hr trivial
   refine⟨λV W hS=>⟨hS 9 qd qd,hS 7 qd qd⟩,?_⟩;intro V W AA hW hS hZ z;have d0:V 0=_:=hS 0 qo;have d1:V 1=_:=hS 1 qo;have d2:V 2=_:=hS 2 qo;have d3:V 3=_:=hS 3 qo;have d4:V 4=_:=hS 4 qo;have d8:=hS 8 qo;simp only[pA]at z;clear hS;generalize V 0=x0 at d0 z;generalize V 1=x1 at d1 z;generalize V 2=x2 at d2 z;generalize V 3=x3 at d3 z;generalize V 4=x4 at d4 z;generalize V 8=x8 at d8 z;generalize V 9=x9 at z hZ;subst d0;subst d1;subst d2;subst d3;subst d4;obtain rfl:=d8;obtain⟨g,F,H,J,M,O,Z,rfl,hg,bC,hy⟩:=hZ;subst z;simp only[dA,dN]
   go_upto_region 14 with fail
   have ba:Below wr.heap.size wr W:=hW;obtain⟨w8,bD⟩:∃w8,W=w8:=⟨_,rfl⟩;subst bD;have aA:Hid (Below w6.heap.size w6 W):=aw.ab.trans (ba.mono aw.ab.size);have aN:Hid (BkAt W x1 x2 x3 X):=c5.ab.below ba;have aB:Hid _:=AK ba cm.ab fd;have b3:=ba.size;have aq:=(AB aB.ab).1;clear hW bC hg ba hy c5 cm aw a6 cM gy fd;obtain⟨w8,bD⟩:∃w8,W=w8:=⟨_,rfl⟩;rw[bD]at aA aN aB b3 aq ⊢;clear bD;refine HU 10 8 9 (RPq w8.heap.size) (λW=>Below w8.heap.size w8 W) (λv W=>∃(g:Nat) (F H J:qO) (M O Z:Nat),v=.pointer (qad g)/\w8.heap.size<=g/\qBl W g (qbV Y F M H O J Z) 28/\BkAt W F H J Y) (λV W=>(λv W=>∃g,v=.pointer (qad g)/\w8.heap.size<=g/\Bq W g) (V 9) W/\(λv W=>∃(F H J:qO) (M O Z:Nat),v=.agg (qbV Y F M H O J Z)/\BkAt W F H J Y) (V 7) W) _ qk qk rfl rfl qk ⟨qd,qd⟩ (dG _ _) (λW W2 h hb=>h.trans (hb.mono h.size)) (λW W2 h ⟨g,hg,_,on,_⟩=>h.trans (on.below.mono hg)) (λv W W2 ⟨g,F,H,J,M,O,Z,h1,h2,h3,h4⟩ hb=>⟨g,F,H,J,M,O,Z,h1,h2,AK hb h3 (AB h3).1,h4.below hb⟩) ?hstore ?_
   case hstore=>
    intro V W K AA hW ⟨d9,d7⟩ z hK;simp only[pA]at z;obtain⟨g,e9,hg,n0,z1,z2,z3,m1,m2,m3,k1,k2,k3,hz⟩:=d9;obtain⟨F,H,J,M,O,Z,e7,hy⟩:=d7;generalize V 7=x7 at e7 z;generalize V 9=x9 at e9 z hK;subst e9;subst e7;subst z;refine qAM hz AY ?_;intro w2 aD aF;exact wpList_nil (hK.ab w2 ⟨g,hg,⟨_,_,_,_,_,_,_,_,_,_,hz⟩,aF,⟨_,_,_,_,_,_,_,_,_,_,aD⟩⟩ ⟨g,F,H,J,M,O,Z,rfl,hg,aD,hy.bY hz aF⟩)
   intro cb;apply AT
   ·intro V W K AA hW hZ hd z hK
    simp only[pA]at z;subst z;have e0:=AJ (AK hW aB.ab aq) 0;have e1:=AJ (AK hW aB.ab aq) 1;have e2:=AJ (AK hW aB.ab aq) 2;have e3:=AJ (AK hW aB.ab aq) 3;go_wp2;exact hK.ab _ brf
   iterate 3 refine AT qR ?_
   apply AT
   ·intro V W K AA hW hZ hd z hK
    simp only[pA,qv (hd 3)]at z;subst z;have hq:=HX.ab.below (aA.ab.trans (hW.mono aA.ab.size)) eM;unfold AcAt at hq;obtain⟨q0,M,O,Z,q4,q5,q6,q7⟩:=hq;go_wp2;exact hK.ab _ brf
   refine Ab (λv W=>∃(F H J:qO) (M O Z:Nat),v=.tuple #[.agg (qbV Y F M H O J Z),In i6 d]/\BkAt W F H J Y) (λ_ _ v W W2 ⟨F,H,J,M,O,Z,h1,h2⟩ hr=>⟨F,H,J,M,O,Z,h1,IZ h2 hr⟩) ?_ ?_
   ·intro V W K AA hW hZ hd z hK
    simp only[pA,qv (hd 0),qv (hd 4)]at z;subst z
    go_wp2_with fail
    refine(cN.ab _ (aA.ab.trans (hW.mono aA.ab.size)) (aN.ab.below hW)).mono ?_;rintro e w2 ⟨⟨F,H,J,M,O,Z,rfl,hy⟩,ct⟩;have an:Hid (BkAt w2 F H J Y):=hy;clear hy;go_wp2;exact hK.ab _ _ ct ⟨F,H,J,M,O,Z,rfl,an.ab⟩
   refine Ab (λv W=>∃(F H J:qO) (M O Z:Nat),v=.tuple #[.agg (qbV Y F M H O J Z),In i6 d]/\BkAt W F H J Y) (λ_ _ v W W2 ⟨F,H,J,M,O,Z,h1,h2⟩ hr=>⟨F,H,J,M,O,Z,h1,IZ h2 hr⟩) ?_ ?_
   ·intro V W K AA hW hZ hd z hK
    have d5:=hd 5;simp only[pA]at z;generalize V 5=x5 at d5 z;subst z;obtain⟨F,H,J,M,O,Z,rfl,hy⟩:=d5;have an:Hid (BkAt W F H J Y):=hy;clear hy;go_wp2;exact hK.ab _ _ brf ⟨F,H,J,M,O,Z,rfl,an.ab⟩
   refine Ab (λv W=>∃(F H J:qO) (M O Z:Nat),v=.agg (qbV Y F M H O J Z)/\BkAt W F H J Y) (λ_ _ v W W2 ⟨F,H,J,M,O,Z,h1,h2⟩ hr=>⟨F,H,J,M,O,Z,h1,IZ h2 hr⟩) ?_ ?_
   ·intro V W K AA hW hZ hd z hK
    have d6:=hd 6;simp only[pA]at z;generalize V 6=x6 at d6 z;subst z;obtain⟨F,H,J,M,O,Z,rfl,hy⟩:=d6;have an:Hid (BkAt W F H J Y):=hy;clear hy;go_wp2;exact hK.ab _ _ brf ⟨F,H,J,M,O,Z,rfl,an.ab⟩
   refine Ab (λv _=>v=In i6 d) (λ_ _ _ _ _ h _=>h) ?_ ?_
   ·intro V W K AA hW hZ hd z hK
    have d6:=hd 6;simp only[pA]at z;generalize V 6=x6 at d6 z;subst z;obtain⟨F,H,J,M,O,Z,rfl,hy⟩:=d6;clear hy;go_wp2;exact hK.ab _ _ brf rfl
   refine Ab (λv W=>∃g,v=.pointer (qad g)/\w8.heap.size<=g/\Bq W g) (λ_ _ v W W2 ⟨g,h1,h2,h3⟩ hr=>⟨g,h1,h2,Ui h3 hr⟩) ?_ ?_
   ·intro V W K AA hW hZ hd z hK
    simp only[pA]at z;subst z;have gx:=hW.size;go_wp2;exact hK.ab _ _ (AN W _) ⟨_,rfl,qo,_,_,_,_,_,_,_,_,_,_,dm W _⟩
   refine Ab (λ_ _=>True) (λ_ _ _ _ _ _ _=>trivial) ?_ ?_
   ·exact λV W K AA hW _ hd z hK=>cb V W K AA hW ⟨hd 9 qk,hd 7 qk⟩ z λW2 hr _=>hK.ab undef W2 hr trivial
   refine⟨λV W hS=>⟨hS 9 qd qd,hS 7 qd qd⟩,?_⟩;intro V W AA hW hS hZ z;have d0:V 0=_:=hS 0 qo;have d1:V 1=_:=hS 1 qo;have d2:V 2=_:=hS 2 qo;have d3:V 3=_:=hS 3 qo;have d4:V 4=_:=hS 4 qo;have d8:=hS 8 qo;simp only[pA]at z;clear hS;generalize V 0=x0 at d0 z;generalize V 1=x1 at d1 z;generalize V 2=x2 at d2 z;generalize V 3=x3 at d3 z;generalize V 4=x4 at d4 z;generalize V 8=x8 at d8 z;generalize V 9=x9 at z hZ;subst d0;subst d1;subst d2;subst d3;subst d4;obtain rfl:=d8;obtain⟨g,F,H,J,M,O,Z,rfl,hg,bC,hy⟩:=hZ;subst z;simp only[dA,dN]
   go_upto_region 15 with fail
   have cu:Below w8.heap.size w8 W:=hW;have aO:Hid (Below w6.heap.size w6 W):=aA.ab.trans (cu.mono aA.ab.size);have cf:Hid (BkAt W F H J Y):=hy;have ds:Hid (qBl W g (qbV Y F M H O J Z) 28):=bC;have cl:Hid _:=AK cu aB.ab aq;have hu:w6.heap.size<g:=qo
   clear hW bC hg cu hy aA aN aB cN HX cv b3 aq;obtain⟨w9,e6⟩:∃w9,W=w9:=⟨_,rfl⟩;rw[e6]at aO cf ds cl ⊢;clear e6
   go_cut [81] (λv wx=>v=.bool false/\w9=wx)
   case first=>
    rcases f1.ab with rfl|rfl<;>rcases f2.ab with rfl|rfl
    all_goals
     go_wp2;go_meet
     case rel=>exact⟨rfl,rfl⟩
   case rest=>
    obtain⟨rfl,rfl⟩:=hcut
    go_wp2_with (first
     |((with_reducible show wpList _ _ _ _ _ _);refine dB rfl 28 (.tmp 10) rfl g rfl 28 (qbV Y F M H O J Z) (0,0) _ ds.ab Tryz.underlying28 rfl AY ?_)
     |((with_reducible show wpList _ _ _ _ _ _);refine qAM cl.ab AY ?_;intro fn b2 bb;simp only[Act.put]))
    have f5:Hid (BkAt fn F H J Y):=cf.ab.bY cl.ab bb;have f0:Hid (Below w6.heap.size w6 fn):=aO.ab.trans bb.below;have f7:Hid _:=b2;clear cf aO b2 bb
    go_roundw
    case rel=>exact⟨i+1,Y,F,H,J,M,O,Z,qo,qn,dq,da,f5,f7,f0⟩
    case measure=>simp[intOf];omega
  ·go_wp2
   go_ret;exact⟨rfl,aS.ab.trans (aw.ab.mono aS.ab.size)⟩
end Go.Proofs.YtbceafpodamnfaaGreatDoor
