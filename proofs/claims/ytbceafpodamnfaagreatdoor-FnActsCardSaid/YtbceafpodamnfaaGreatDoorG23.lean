import Derived.Test.YtbceafpodamnfaaGreatDoorG20
import Derived.Test.YtbceafpodamnfaaGreatDoorG22
set_option linter.all false
set_option maxHeartbeats 16000000
set_option maxRecDepth 100000
namespace Go.Proofs.YtbceafpodamnfaaGreatDoor
section
open Go.RowKit Go.Sort
theorem EY:(Tryz.prog.info? 45).map (·.size)=some 8:=by kernel_rfl
theorem NS(A:Ac)(ae:qO)(ce:Nat):((qaV A ae ce):Array Value).all (·.oneCell')=true:=by simp[Value.oneCell']
def SlEn(lo:Nat)(w:World)(ae:qO)(ce:Nat)(l:List En):Prop:=(ae=none/\l=[]/\ce=0)\/∃g,ae=some ⟨g,0,none⟩/\lo<=g/\RowIs w 88 2 g l.length ce (l.map enL).flatten
theorem SlEn.aZ{lo H ce:Nat}{w w':World}{ae:qO}{l:List En}(h:SlEn lo w ae ce l)(Y:H<=lo)(hk:∀g F,lo<=g->w.heap[g]?=some (.cells F 88)->w'.heap[g]?=w.heap[g]?):SlEn H w' ae ce l:=h.imp id λ⟨g,e,J,M⟩=>⟨g,e,AH Y J,M.aR (by obtain⟨_,_,F,W,_⟩:=M;exact hk g F J W)⟩
theorem SlEn.below{lo ce:Nat}{w w':World}{ae:qO}{l:List En}(h:SlEn lo w ae ce l)(hb:Below w.heap.size w w'):SlEn lo w' ae ce l:=h.aZ (AG _) λg _ _ F=>hb.block g (AB F).1
theorem fl_enL(l:List En)(i:Nat)(e:En)(h:l[i]?=some e)(j:Nat)(v:Value)(hv:(enL e)[j]?=some v):(l.map enL).flatten[i*2+j]?=some v:=by
 induction l generalizing i with
 |nil=>cases h
 |cons x l F=>
  rw[dz,fe];have hx:(enL x).length=2:=rfl
  cases i with
  |zero=>cases h;rw[dU (by have:=(AC hv).1;omega),iD,dJ];exact hv
  |succ i=>rw[dX (by omega),hx,show(i+1)*2+j - 2=i*2+j by omega];exact F i h
theorem RowIs.ens{w:World}{g n cap:Nat}{l:List En}(h:RowIs w 88 2 g n cap (l.map enL).flatten):EnsAt w g 0 l:=λi s F=>by
 unfold EnAt;rw[dJ];exact⟨h.cell (fl_enL l i s F 0 _ rfl),h.cell (fl_enL l i s F 1 _ rfl)⟩
theorem SlEn.sl{lo ce:Nat}{w:World}{ae:qO}{l:List En}(h:SlEn lo w ae ce l):SlE w ae l:=λF=>by
 rcases h with⟨_,h,_⟩|⟨g,e,_,h⟩
 ·exact absurd h F
 ·exact⟨g,0,e,h.lt,h.ens⟩
def IsAct(lo:Nat)(w:World)(v:Value)(A:Ac):Prop:=∃ae ce,v=.agg (qaV A ae ce)/\SlEn lo w ae ce A.aw
theorem IsAct.below{lo:Nat}{w w':World}{v:Value}{A:Ac}(h:IsAct lo w v A)(hb:Below w.heap.size w w'):IsAct lo w' v A:=
 let ⟨ae,ce,e,hs⟩:=h
 ⟨ae,ce,e,hs.below hb⟩
theorem IsAct.low{lo F:Nat}{w:World}{v:Value}{A:Ac}(h:IsAct lo w v A)(H:F<=lo):IsAct F w v A:=
 let ⟨ae,ce,e,hs⟩:=h
 ⟨ae,ce,e,hs.aZ H λ_ _ _ _=>rfl⟩
def EnsW(l:List En):Prop:=∀e∈l, -9223372036854775808<=e.ai/\e.ai<=9223372036854775807
def Sc(A:Ac):Prop:=A.aw.length<=1000/\EnsW A.aw/\A.aa.size<=maxLen
def EnR(lo g sz:Nat)(w:World)(r:D9):Prop:=(r.2.1=none/\r.1.aw=[]/\r.2.2=0)\/∃b,r.2.1=some ⟨b,0,none⟩/\lo<b/\b≠g/\b<sz/\RowIs w 88 2 b r.1.aw.length r.2.2 (r.1.aw.map enL).flatten
theorem EnR.aZ{lo g J sz F:Nat}{w w':World}{r:D9}(h:EnR lo g sz w r)(Z:sz<=F)(hg:∀b,b<sz->b≠g->b≠J)(hk:∀b,b<sz->b≠g->w'.heap[b]?=w.heap[b]?):EnR lo J F w' r:=h.imp id λ⟨b,W,Y,M,H,h5⟩=>⟨b,W,Y,hg b H M,AF H Z,h5.aR (hk b H M)⟩
def Ou(A:Ac):Bool:=decide (0<A.am)||A.az||decide (0<A.aw.length)||A.drop
theorem l5Act_bk(kind:Int)(B:Bk)(s:Svc)(a1 a2 a3:qO)(c1 c2 c3:Nat)(w:World)(M:okBk B)(hV:Valid B)(hs:s∈B.af)(hB:BkAt w a1 a2 a3 B):
  Calls Tryz.prog 75 #[.int .i64 kind,.agg (qbV B a1 c1 a2 c2 a3 c3),.agg (qsV s)] w λe w'=>∃v A,e=.returned v/\IsAct w.heap.size w' v A/\Sc A/\Below w.heap.size w w':=by
 have hm:∀i b,(i,b)∈bkM B->Hold G6 w (gh3 w a1 a2 a3) w 0 i b:=λi b W=>by
  have h:=EV (RD:=G6) (q:=0) hB;simp only[bkM,dy,dH,eP,dw]at W;rcases W with⟨rfl,rfl⟩|⟨rfl,rfl⟩|⟨rfl,rfl⟩
  ·exact(h 0 _ rfl).2.1
  ·exact(h 1 _ rfl).2.1
  ·exact(h 2 _ rfl).2.1
 have J:(⟨B,c1,c2,c3⟩:BP).ok/\0<=s.av/\∃d∈B.af,nmB d.name s.name=true:=⟨⟨M.1,λc hc=>by
  obtain⟨d,hd,_⟩:=hV.bA hc;have hn:=fN (p:=λs:Svc=>s.name.toList==c.aa.toList) hd
  exact⟨d,gc hd,hn⟩⟩,(hV.bc hs).bq,s,hs,by unfold nmB;exact il _⟩
 have H:=act_ct DL w (gh3 w a1 a2 a3) w 0 64 [.int .i64 kind,(⟨B,c1,c2,c3⟩:BP).v,Ei s] (bkM B) (λv es=>∃v1 F,GZ B s.name v1 F/\v=up2 (64+ ·) v1/\es=upE 64 F) (λk hk=>⟨hk,λh=>h⟩) (λ_ h=>h.elim) (AG _) hm (λi b W=>by
  simp only[bkM,dy,dH,eP,dw]at W
  rcases W with⟨rfl,_⟩|⟨rfl,_⟩|⟨rfl,_⟩<;>exact .inl (by decide)) (.inl rfl) ⟨(kind,⟨B,c1,c2,c3⟩,s),rfl,J,λv es ho=>⟨v,es,ho,rfl,rfl⟩⟩
 have ha:(List.map (r2 (gh3 w a1 a2 a3).α) [.int .i64 kind,(⟨B,c1,c2,c3⟩:BP).v,Ei s]).toArray=#[.int .i64 kind,.agg (qbV B a1 c1 a2 c2 a3 c3),.agg (qsV s)]:=by simp[BP.v,Ei,svL,gh3,r2,r1,r0]
 rw[ha]at H;refine H.mono ?_;rintro e w' ⟨v,aF,G',hk,rfl,Z,hN,_,_⟩;have hb:Below w.heap.size w w':=⟨Z.bE.os,Z.bE.tape,Z.bE.output,Z.bE.size,λk hk=>Z.bE.block k hk λh=>h⟩;obtain⟨v1,F,ho,rfl,rfl⟩:=hk (λv es=>∃v1 F,GZ B s.name v1 F/\v=up2 (64+ ·) v1/\es=upE 64 F) ⟨(kind,⟨B,c1,c2,c3⟩,s),rfl,J,λv es ho=>⟨v,es,ho,rfl,rfl⟩⟩;obtain⟨a,b,c,d,x,E,y,rfl,(⟨rfl,rfl⟩|⟨l,cp,rfl,rfl,hl,ak⟩)⟩:=ho
 ·exact⟨_,⟨s.name,a,b,c,d,x,[],y⟩,rfl,⟨none,0,by simp[acV,up2,up1,up0,r2,r1,r0],.inl ⟨rfl,rfl,rfl⟩⟩,⟨AI _,λ_ h=>(nomatch h),M.2.1 s hs⟩,hb⟩
 ·have hH:=hN.aT 64 _ (cZ.2 rfl)
  obtain⟨g1,af,al⟩:=hN.aQ 64 _ (cZ.2 rfl) (.inr rfl);obtain⟨g,els,e1,_,_,_,f1,f2,f3,f4⟩:=hH.k3 rfl;obtain rfl:g=g1:=by rw[e1]at af;cases af;rfl
  have Y:els=l.map enL:=fp λj=>by
   rw[eh]
   cases hj:els[j]? with
   |none=>rw[fL]at hj;rw[dZ (by have:els.length=l.length:=f1;omega)];rfl
   |some el=>
    have aa:j<l.length:=by have h1:els.length=l.length:=f1;have:=(AC hj).1;omega
    rw[dj aa];exact em some ((f4 j el hj).1 (λe=>e=enL l[j]) λy hy=>by rw[dj aa]at hy;cases hy;rfl)
  subst Y;exact⟨_,⟨s.name,a,b,c,d,x,l,y⟩,rfl,⟨G'.α 64,cp,by simp[acV,up2,up1,up0,r2,r1,r0],.inr ⟨g,e1,al,f3⟩⟩,⟨hl,λe he=>by obtain⟨c,hc,an⟩:=ak e he;rw[<-an];exact hV.bJ c hc,M.2.1 s hs⟩,hb⟩
theorem PY:(Tryz.prog.info? 45).map (λi=>(i.zero,i.size,i.bytes))=some (some (.agg #[.string ⟨#[]⟩,.int .i64 0,.int .i64 0,.int .i64 0,.int .i64 0,.bool false,.slice none 0 0,.bool false]),8,88):=by kernel_rfl
theorem Km(kind:Int)(B:Bk)(a1 a2 a3:qO)(c1 c2 c3:Nat)(w:World)(af:okBk B)(hB:BkAt w a1 a2 a3 B):
  Calls Tryz.prog 27 #[.int .i64 kind,.agg (qbV B a1 c1 a2 c2 a3 c3)] w λe w'=>∃(g cap:Nat) (R:List D9),e=.returned (.slice (qad g) R.length cap)/\(R.length<=1000/\∀r∈R,Sc r.1)/\w.heap.size<=g/\RowIs w' 45 8 g R.length cap (D6 R)/\(∀r∈R,SlEn w.heap.size w' r.2.1 r.2.2 r.1.aw)/\Below w.heap.size w w':=by
 obtain⟨t0,t1,t2⟩:=B1 w (.cells (qbV B a1 c1 a2 c2 a3 c3) 28) (.cells #[] 45);have T0:Hid _:=t0;have T1:Hid _:=t1;have a7:Hid _:=t2;clear t0 t1 t2;have aA:Below w.heap.size w ((w.alloc (.cells (qbV B a1 c1 a2 c2 a3 c3) 28)).alloc (.cells #[] 45)):=((dI _ _).alloc (AG _) _).alloc (by simp) _;have hS:B.aJ:=⟨AH af.1.1 (by decide),AH af.1.2.1 (by decide),AH af.1.2.2 (by decide)⟩;have hZ:B.aD:=⟨AH af.1.1 (by decide),AH af.1.2.1 (by decide),AH af.1.2.2 (by decide),af.2⟩;have hl:=hS;obtain⟨dp,dc,cK⟩:=hl;go_enter Tryz.func27,Tryz.ntmps27
 go_wp2_with fail
 refine(Ai B a1 a2 a3 c1 c2 c3 _ hS hZ (hB.below aA)).mono ?_;rintro e w1 ⟨rfl,au⟩;have aq:=aA.trans (au.mono aA.size);rw[a7.O]at au;have U0:Hid (qBl w1 (w.heap.size) (qbV B a1 c1 a2 c2 a3 c3) 28):=AK au T0.O (by omega);have U1:Hid (qBl w1 (w.heap.size+1) #[] 45):=AK au T1.O (by omega);clear au aA T0 T1 a7;cases hv:Ag B
 ·go_wp2
  go_ret;exact⟨w.heap.size+1,0,[],rfl,⟨AI _,λr hr=>absurd hr (by simp)⟩,by omega,⟨rfl,AG _,#[],U1.O,rfl,rfl⟩,λr hr=>absurd hr (by simp),aq⟩
 ·have bl:=validB_iff.1 hv
  clear hv;go_wp2
  go_loopw [5,6] (λov iv wr=>∃(k g cap n:Nat) (R:List D9),k<=B.af.length/\iv=.int .i64 k/\ov=.slice (qad g) n cap/\Hid (n=R.length)/\n<=k/\Hid (∀r∈R,Sc r.1)/\w.heap.size<g/\Below w.heap.size w wr/\Hid (qBl wr (w.heap.size) (qbV B a1 c1 a2 c2 a3 c3) 28)/\Hid (RowIs wr 45 8 g n cap (D6 R))/\Hid (∀r∈R,EnR w.heap.size g wr.heap.size wr r)) (λ_ i _=>B.af.length - (intOf i).toNat)
  case atStart=>exact⟨0,w.heap.size+1,0,0,[],by omega,rfl,rfl,rfl,AG _,(λr hr=>absurd hr (by simp)),by omega,aq,U0,⟨rfl,AG _,#[],U1.O,rfl,rfl⟩,λr hr=>absurd hr (by simp)⟩
  case round=>
   clear aq U0 U1;obtain⟨k,g,cap,n,R,hk,rfl,rfl,aW,c8,HR,hg,hb,H,al,ak⟩:=hrel;have an:w.heap.size<wr.heap.size:=(AB H.O).1;have b0:g<wr.heap.size:=al.O.lt
   by_cases aw:k<B.af.length
   ·obtain⟨s,aM⟩:∃s,B.af[k]?=some s:=⟨B.af[k],by simp[aw]⟩
    have aI:=AE aM;have bx:B.af≠[]:=by intro h;rw[h]at aw;simp at aw
    obtain⟨b,off,ea,b3,a9⟩:=hB.1 bx;subst ea;have bi:=a9 k s aM;have bH:Hid (∀W:World,BkAt W (some ⟨b,off,none⟩) a2 a3 B->Calls Tryz.prog 75 #[.int .i64 kind,.agg (qbV B (some ⟨b,off,none⟩) c1 a2 c2 a3 c3),.agg (qsV s)] W λe w'=>∃v M,e=.returned v/\IsAct W.heap.size w' v M/\Sc M/\Below W.heap.size W w'):=λW h=>l5Act_bk kind B s _ a2 a3 c1 c2 c3 W af bl aI h
    have hz:=hb.size;clear aM bx a9 aI;have e1:=AJ H.O 1 rfl;go_wp2;clear e1;refine AV 9 (by kernel_rfl) (by kernel_rfl) ?_;apply AL
    ·intro V W K A Z Y J hK
     simp only[pA]at J;clear Y;obtain rfl:=J;go_wp2;exact hK.O _ brf
    apply AL
    ·intro V W K A Z Y J hK
     simp only[pA]at J;clear Y;obtain rfl:=J;have e0:=AJ (AK Z H.O an) 0 rfl;have e1:=AJ (AK Z H.O an) 1 rfl;have e2:=AJ (AK Z H.O an) 2 rfl;have e3:=AJ (AK Z H.O an) 3 rfl;go_wp2;exact hK.O _ brf
    apply AL
    ·intro V W K A Z Y J hK
     simp only[pA]at J;clear Y;obtain rfl:=J;go_wp2;exact hK.O _ brf
    apply AL
    ·intro V W K A Z Y J hK
     have d2:V 2=_:=Y 2 (by kernel_rfl);simp only[pA,d2]at J;clear Y d2;obtain rfl:=J;have e1:=AJ (AK Z H.O an) 1 rfl;go_wp2;exact hK.O _ brf
    apply AL
    ·intro V W K A Z Y J hK
     simp only[pA]at J;clear Y;obtain rfl:=J;go_wp2;exact hK.O _ brf
    apply AL
    ·intro V W K A Z Y J hK
     have d3:V 3=_:=Y 3 (by kernel_rfl);have d4:V 4=_:=Y 4 (by kernel_rfl);simp only[pA,d3,d4]at J;clear Y d3 d4;obtain rfl:=J;go_wp2;exact hK.O _ brf
    apply AL
    ·intro V W K A Z Y J hK
     have d5:V 5=_:=Y 5 (by kernel_rfl);simp only[pA,d5]at J;clear Y d5;obtain rfl:=J;have hq:=bi.below (hb.trans (Z.mono hb.size)) b3;unfold SvcAt at hq;obtain⟨q0,q1,q2,q3,q4,q5,q6,q7,q8,q9,cO,cz,db⟩:=hq;go_wp2;exact hK.O _ brf
    refine AW (λv W=>∃M,IsAct wr.heap.size W v M/\Sc M) (λv W W2 ⟨M,h,h1⟩ hb=>⟨M,h.below hb,h1⟩) ?_ ?_
    ·intro V W K A Z Y J hK
     have d0:V 0=_:=Y 0 (by kernel_rfl);have d1:V 1=_:=Y 1 (by kernel_rfl);have d6:V 6=_:=Y 6 (by kernel_rfl);simp only[pA,d0,d1,d6]at J;clear Y d0 d1 d6;obtain rfl:=J;have bM:=Z.size
     go_wp2_with fail
     refine(bH.O _ (hB.below (hb.trans (Z.mono hb.size)))).mono ?_;rintro e w3 ⟨v,M,rfl,bB,aC,bS⟩;have b7:Hid (IsAct wr.heap.size w3 v M):=bB.low bM;clear bB;go_wp2;exact hK.O _ _ bS ⟨M,b7.O,aC⟩
    refine AW (λv W=>∃p,v=.pointer (qad p)/\wr.heap.size<=p/\W.heap[p]?=some (.cells #[.string ⟨#[]⟩,.int .i64 0,.int .i64 0,.int .i64 0,.int .i64 0,.bool false,.slice none 0 0,.bool false] 45 (0,0))) (λv W W2 ⟨p,h1,h2,h3⟩ hb=>⟨p,h1,h2,AK hb h3 (AB h3).1⟩) ?_ ?_
    ·intro V W K A Z Y J hK
     simp only[pA]at J;clear Y;obtain rfl:=J;go_wp2;exact hK.O _ _ (AN W _) ⟨_,rfl,Z.size,dm W _⟩
    intro V W A Z hS J;have d0:V 0=_:=hS 0 (by omega);have d1:V 1=_:=hS 1 (by omega);have d2:V 2=_:=hS 2 (by omega);have d3:V 3=_:=hS 3 (by omega);have d4:V 4=_:=hS 4 (by omega);have d5:V 5=_:=hS 5 (by omega);have d6:V 6=_:=hS 6 (by omega);have d7:(λv W=>∃M,IsAct wr.heap.size W v M/\Sc M) (V 7) W:=hS 7 (by omega);have d8:(λv W=>∃p,v=.pointer (qad p)/\wr.heap.size<=p/\W.heap[p]?=some (.cells #[.string ⟨#[]⟩,.int .i64 0,.int .i64 0,.int .i64 0,.int .i64 0,.bool false,.slice none 0 0,.bool false] 45 (0,0))) (V 8) W:=hS 8 (by omega);simp only[pA,d0,d1,d2,d3,d4,d5,d6]at J;clear hS d0 d1 d2 d3 d4 d5 d6;generalize V 7=x7 at d7 J;generalize V 8=x8 at d8 J;obtain rfl:=J;simp only[dl,dF];obtain⟨M,⟨ae,ce,rfl,hE⟩,aC⟩:=d7;have b5:Hid _:=aC;clear aC;obtain⟨p,rfl,hp,a5⟩:=d8;have bM:=Z.size;refine AM rfl 45 (.tmp 7) (.tmp 27) rfl p 0 (qaV M ae ce) rfl rfl 45 #[.string ⟨#[]⟩,.int .i64 0,.int .i64 0,.int .i64 0,.int .i64 0,.bool false,.slice none 0 0,.bool false] a5 EY (AD rfl) (NS M ae ce) ?_;intro w2 bz on;simp only[Act.put];have F:Hid (qBl w2 p (qaV M ae ce) 45):=bz;have ai:Below wr.heap.size wr w2:=Z.trans (on.below.mono hp);have a4:=hb.trans (ai.mono hb.size);have av:Hid _:=AK ai H.O an;have ax:Hid (RowIs w2 45 8 g n cap (D6 R)):=al.O.below ai b0;have ci:W.heap.size<=w2.heap.size:=by rw[on.size];exact AG _
    have b8:w2.heap.size<=W.heap.size:=by rw[on.size];exact AG _
    have b2:Hid (SlEn wr.heap.size w2 ae ce M.aw):=hE.aZ (AG _) λge c9 _ hc=>on.aB ge λe=>by
     subst e;rw[a5]at hc;simp at hc
    have aH:Hid (∀r∈R,EnR w.heap.size g wr.heap.size w2 r):=λr hr=>(ak.O r hr).aZ (AG _) (λ_ _ h=>h) λb h4 _=>ai.block b h4
    clear hE a5 bz on ak al H bH Z bi hb;obtain⟨kb,aE⟩:∃kb,Hid (Ou M=kb):=⟨_,rfl⟩
    go_upto_region 8 with fail
    go_cut [44] (λv wx=>v=.bool kb/\w2=wx)
    case first=>
     have z2:=AJ F.O 2 rfl;have z5:=AJ F.O 5 rfl;have z6:=AJ F.O 6 rfl;have z7:=AJ F.O 7 rfl
     by_cases bI:0<M.am
     ·have HT:Hid (kb=true):=by unfold Hid;rw[<-aE.O];unfold Ou;simp[bI]
      go_wp2;go_meet
      case rel=>exact⟨by rw[HT.O],rfl⟩
     cases bt:M.az
     ·cases bf:decide (0<M.aw.length)
      case true=>
       have HT:Hid (kb=true):=by unfold Hid;rw[<-aE.O];unfold Ou;rw[bf];simp
       go_wp2;go_meet
       case rel=>exact⟨by rw[HT.O],rfl⟩
      case false=>
       have HT:Hid (kb=M.drop):=by unfold Hid;rw[<-aE.O];unfold Ou;rw[dQ bI,bf,bt];rfl
       go_wp2;go_meet
       case rel=>exact⟨by rw[HT.O],rfl⟩
     ·have HT:Hid (kb=true):=by unfold Hid;rw[<-aE.O];unfold Ou;rw[bt];simp
      go_wp2;go_meet
      case rel=>exact⟨by rw[HT.O],rfl⟩
    case rest=>
     obtain⟨rfl,rfl⟩:=hcut;cases kb
     ·go_wp2
      go_roundw
      case rel=>exact⟨k+1,g,cap,n,R,by omega,by go_num,rfl,aW,by omega,HR,hg,a4,av,ax,λr hr=>(aH.O r hr).aZ ai.size (λ_ _ h=>h) λ_ _ _=>rfl⟩
      case measure=>simp[intOf];omega
     ·have q0:=AJ F.O 0 rfl
      have q1:=AJ F.O 1 rfl;have q2:=AJ F.O 2 rfl;have q3:=AJ F.O 3 rfl;have q4:=AJ F.O 4 rfl;have q5:=AJ F.O 5 rfl;have q6:=AJ F.O 6 rfl;have q7:=AJ F.O 7 rfl;have bq:g<w2.heap.size:=by omega
      go_wp2_with (at_builtin;refine DW rfl (.tmp 45) (.tmp 47) 39 rfl 45 _ 8 88 Tryz.underlying39 PY rfl g n cap _ rfl (ax.O.below (AN w2 _) bq) ⟨w2.heap.size,0,none⟩ 1 1 ((qaV M ae ce):Array Value).toList rfl rfl (FX (dm w2 _)) (λu hu=>(iK.1 (NS M ae ce)) u (by simpa using hu)) (by unfold maxLen;omega) (by omega) ?_;intro g' bk w4 bR aL ay)
      have az:(w2.alloc (.cells (qaV M ae ce) 45)).heap.size=w2.heap.size+1:=by show(w2.heap.push _).size=_;simp
      have aK:=AN w2 (.cells (qaV M ae ce) 45);have bX:Below w.heap.size w w4:=(a4.alloc a4.size _).trans (GY ay (by omega) (by rw[az];omega));have aT:Hid _:=(ay.block w.heap.size (by rw[az];omega) (λe=>by have:=dg e;omega)).trans (AK aK av.O (by omega));rw[az]at bR;have b4:=ay.size;rw[az]at b4;have ar:∀q,q<w2.heap.size->q≠g->w4.heap[q]?=w2.heap[q]?:=λq hq bZ=>(ay.block q (by rw[az];omega) (λe=>bZ (dg e))).trans (aK.block q hq)
      have bj:Hid _:=ar;clear ar ay aK
      go_roundw
      case rel=>
       refine⟨k+1,g',bk,n+1,R++[(M,ae,ce)],by omega,by go_num,rfl,by unfold Hid;rw[aW.O];simp,by omega,(λr hr=>(dt.1 hr).elim (HR.O r) (λh=>by rw[cZ.1 h];exact b5.O)),by omega,bX,aT,by rw[SX];exact aL,λr hr=>?_⟩;rcases dt.1 hr with hr|hr
       ·exact(aH.O r hr).aZ (by omega) (λb h1 h2=>by omega) λb h1 h2=>bj.O b (by omega) h2
       ·have e:r=(M,ae,ce):=by simpa using hr
        subst e;refine b2.O.imp id λ⟨ge,h1,h2,h3⟩=>?_
        have aw:=h3.lt;exact⟨ge,h1,by omega,by omega,by omega,h3.aR (bj.O ge aw (by omega))⟩
      case measure=>simp[intOf];omega
   ·have e1:=AJ H.O 1 rfl
    go_wp2;go_ret;have hn:=aW.O;subst hn;refine⟨g,cap,R,rfl,⟨AH (m:=B.af.length) (by omega) af.1.1,HR.O⟩,by omega,al.O,λr hr=>(ak.O r hr).imp id λ⟨b,h1,h2,_,_,h5⟩=>⟨b,h1,by omega,h5⟩,hb⟩
end
section
open Go.RowKit
abbrev Nk:Ct:=ctV (λ_:Unit=>[.complex .f64 0 0]) (λ_=>[(0,rdB)]) (λ_=>True) λ_ v es=>∃B,okDr B/\bkO B v es
abbrev ctAny:Ct:=ctV (λ_:Unit=>[.complex .f64 0 0]) (λ_=>[(0,rdB)]) (λ_=>True) λ_=>Qz
def tN:Tm:=[(0,.complex .f64 0 0),(2,.complex .f64 64 0),(3,.complex .f64 88 0)]
def mN(B:Bk)(L:List Svc)(l:List Cp)(k1 n2 k2 k3:Nat):AY:=[(88,AT [.int .i64 B.aj,.iface 80 (.slice none B.af.length k1),.iface 81 (.slice none n2 k2),.iface 82 (.slice none B.ak.length k3)] 28),(80,An 34 13 k1 svL L),(81,An 76 7 k2 cpL l),(82,An 90 2 k3 btL B.ak),(64,AT [.int .i64 0,.slice none 0 0,.slice none 0 0,.slice none 0 0] 28),(0,rdB)]
theorem any_ct(r:Nat)(hD:B7 Tryz.prog (RDr r) 119 910000000000 Nk):B7 Tryz.prog (RDr r) 60 910000001000 ctAny:=by
 refine JM (Ρ:=[]) (AZ (AZ (EH r) (f:=119) (by kernel_rfl) hD) (f:=120) (by kernel_rfl) (spoil_ct r)) (Gl r) 910000001000 (by decide) Tryz.func60 (by kernel_rfl) (.nil _) (by kernel_rfl) (λ_=>rfl) (λ_ _ _ _=>rfl) λ_ q _ hq=>?_
 refine cW (show q+910000000000<=QM by omega) ?_;refine⟨(),rfl,trivial,?_⟩;rintro _ _ ⟨B,W,k1,k2,k3,rfl,rfl⟩;have ay:B.af.length<=999:=W.1.1;have aF:B.ah.length<=999:=W.1.2.1;have aE:B.ak.length<=999:=W.1.2.2;have H:=W.2.1;have M:=W.2.2.1;have F:=W.2.2.2;refine cW (show q+910000000000+1<=QM by omega) ⟨0,24,rfl,rfl,⟨by decide,by decide⟩,λu _=>?_⟩;refine cW (λ_=>?_) (λh=>?_)
 ·refine cW (show q+910000000000+1+10<=QM by omega) ?_
  refine⟨⟨B,k1,k2,k3⟩,rfl,W,?_⟩;rintro _ _ (⟨rfl,rfl⟩|⟨B',n1,n2,n3,r1,r2,r3,aq,⟨rfl,rfl,rfl⟩,rfl,rfl⟩)
  ·exact⟨.inl rfl,_,rfl,⟨⟨_,_,[],.inl ⟨rfl,rfl⟩,rfl,trivial,rfl,rfl,trivial⟩,(show q+910000000000+1+10<=q+910000001000 by omega),0,rfl⟩,rfl⟩
  ·exact⟨.inl rfl,_,rfl,⟨BF B' aq rfl (.same _ _ rfl) rfl (.same _ _ rfl) rfl (.same _ _ rfl) rfl rfl rfl rfl,(show q+910000000000+1+10<=q+910000001000 by omega),0,rfl⟩,rfl⟩
 clear h;refine cW (λ_=>?_) (λh=>?_)
 ·refine cW (show q+910000000000+1+1<=QM by omega) ⟨0,2,rfl,rfl,⟨by decide,by decide⟩,λy _=>?_⟩
  refine λnv _=>?_
  exact⟨.inl rfl,_,rfl,⟨BF (i1:=80) (i2:=81) (i3:=82) ⟨nv,B.af,B.ah,B.ak⟩ (⟨⟨by show B.af.length<=1000;omega,by show B.ah.length<=1000;omega,by show B.ak.length<=1000;omega⟩,H,M,F⟩) rfl (.same _ _ rfl) rfl (.same _ _ rfl) rfl (.same _ _ rfl) rfl rfl rfl rfl,(show q+910000000000+1+1<=q+910000001000 by omega),0,rfl⟩,rfl⟩
 clear h;refine cW (λ_=>?_) (λh=>?_)
 ·refine cW (λZ=>?_) (λ_=>?_)
  ·refine cW (λai=>?_) (λ_=>?_)
   ·have Z:(0:Int)<B.af.length:=Z
    have ai:(0:Int)<B.ak.length:=ai;refine λs hs=>?_
    have s0:0<=s:=by have:=hs ⟨by omega,by omega⟩;omega
    have hs:s=B.af.length - 1:=hs ⟨by omega,by omega⟩;refine cW (show q+910000000000+1+1<=QM by omega) ⟨0,4,rfl,rfl,⟨by decide,by decide⟩,λy hy=>?_⟩;have aA:=hy.1;have az:=hy.2.1 (by decide);refine λn hn=>?_
    have hn:n=200 - y:=hn ⟨by omega,by omega⟩;clear hy;refine⟨λi z=>∃(L:List Svc) (l:List Cp) (n2 k2 q':Nat),i=(n - n2).toNat/\n2=l.length/\L.length=B.af.length/\n2<=1000/\q'+(n - n2).toNat<=q+910000000000+300/\(∀d∈L,d.name.size<=maxLen)/\(∀c∈l,c.aa.size<=maxLen/\c.aA.size<=maxLen)/\z=⟨(4,.int .i64 s)::(5,.int .i64 n)::tN,mN B L l k1 n2 k2 k3,700,q'⟩,_,⟨_,(by refine⟨[],?_,?_,rfl,rfl,AG _⟩<;>repeat' (first|exact rfl|exact trivial|exact⟨_,rfl,.same _ _ rfl⟩|exact⟨_,rfl,C2 rfl⟩|apply cW)),B.af,B.ah,B.ah.length,k2,q+910000000000+1+1,rfl,rfl,rfl,by omega,by omega,H,M,rfl⟩,?_⟩;rintro _ _ ⟨L,l,n2,k2,q',rfl,af,hL,aH,aG,Y,an,rfl⟩;refine cW (λam=>?_) (λam=>?_)
    ·have am:(n2:Int)<n:=am
     refine cW (show q'+1<=QM by omega) ?_;refine cW s0 (cW (show s<(B.af.length:Int) by omega) (cW (fH hL.symm) (cW (show s.toNat<L.length by omega) (λsv ag=>?_))));refine cW s0 (cW (show s<(B.af.length:Int) by omega) (cW (fH hL.symm) (cW (show s.toNat<L.length by omega) (λak _=>?_))));refine⟨0,2,rfl,rfl,⟨by decide,by decide⟩,λy2 _=>?_⟩;refine cW (λ_=>?_) (λ_=>?_)
     ·refine cW (fB 0) (cW ai (cW (AG _) (cW (show 0<B.ak.length by omega) (λb0 aa=>?_))))
      refine cW af (cW rfl (cW (AG _) (cW (show n2+1<=1000000000 by omega) (λc'=>?_))));refine cW s0 (cW (show s<(B.af.length:Int) by omega) (cW (fH hL.symm) (cW (show s.toNat<L.length by omega) (λah J=>?_))));refine λz _=>?_
      refine cW s0 (cW (show s<(B.af.length:Int) by omega) (cW (fH hL.symm) (cW (show s.toNat<L.length by omega) (cW (λ_ _ _=>trivial) ?_))));refine⟨(n - (n2+1:Nat)).toNat,by omega,_,?_,L.set s.toNat {ah with next:=z},l++[⟨sv.name,ak.next,1,1,3,true,b0.name⟩],n2+1,c',q'+1,rfl,(by rw[af];simp),(by rw[du];exact hL),by omega,by omega,(λd hd=>(eu hd).elim (Y d) (λh=>by rw[h];exact Y ah (AE J))),(λd hd=>(dt.1 hd).elim (an d) (λh=>by rw[cZ.1 h];exact⟨Y sv (AE ag),F b0 (AE aa)⟩)),rfl⟩;refine⟨[(81,932)],?_,?_,rfl,rfl,AG _⟩<;>repeat' (first|exact rfl|exact trivial|exact⟨_,rfl,.same _ _ rfl⟩|exact⟨_,rfl,C2 rfl⟩|exact⟨_,rfl,BK (.same _ _ rfl) J rfl⟩|exact⟨_,rfl,DE (f:=cpL) l ⟨sv.name,ak.next,1,1,3,true,b0.name⟩⟩|apply cW)
     ·refine cW (fB 0) (cW ai (cW (AG _) (cW (show 0<B.ak.length by omega) (λb0 aa=>?_))))
      refine cW af (cW rfl (cW (AG _) (cW (show n2+1<=1000000000 by omega) (λc'=>?_))));refine cW s0 (cW (show s<(B.af.length:Int) by omega) (cW (fH hL.symm) (cW (show s.toNat<L.length by omega) (λah J=>?_))));refine λz _=>?_
      refine cW s0 (cW (show s<(B.af.length:Int) by omega) (cW (fH hL.symm) (cW (show s.toNat<L.length by omega) (cW (λ_ _ _=>trivial) ?_))));refine⟨(n - (n2+1:Nat)).toNat,by omega,_,?_,L.set s.toNat {ah with next:=z},l++[⟨sv.name,ak.next,1,1,3,false,b0.name⟩],n2+1,c',q'+1,rfl,(by rw[af];simp),(by rw[du];exact hL),by omega,by omega,(λd hd=>(eu hd).elim (Y d) (λh=>by rw[h];exact Y ah (AE J))),(λd hd=>(dt.1 hd).elim (an d) (λh=>by rw[cZ.1 h];exact⟨Y sv (AE ag),F b0 (AE aa)⟩)),rfl⟩;refine⟨[(81,932)],?_,?_,rfl,rfl,AG _⟩<;>repeat' (first|exact rfl|exact trivial|exact⟨_,rfl,.same _ _ rfl⟩|exact⟨_,rfl,C2 rfl⟩|exact⟨_,rfl,BK (.same _ _ rfl) J rfl⟩|exact⟨_,rfl,DE (f:=cpL) l ⟨sv.name,ak.next,1,1,3,false,b0.name⟩⟩|apply cW)
    ·subst af
     exact⟨.inl rfl,_,rfl,⟨BF (i1:=80) (i2:=81) (i3:=82) ⟨B.aj,L,l,B.ak⟩ (⟨⟨by show L.length<=1000;omega,by show l.length<=1000;omega,by show B.ak.length<=1000;omega⟩,Y,an,F⟩) rfl (.same _ _ rfl) rfl (.same _ _ rfl) rfl (.same _ _ rfl) hL.symm rfl rfl rfl,(show q'<=q+910000001000 by omega),0,rfl⟩,rfl⟩
   ·exact⟨.inl rfl,_,rfl,⟨BF (i1:=80) (i2:=81) (i3:=82) ⟨B.aj,B.af,B.ah,B.ak⟩ (⟨⟨by show B.af.length<=1000;omega,by show B.ah.length<=1000;omega,by show B.ak.length<=1000;omega⟩,H,M,F⟩) rfl (.same _ _ rfl) rfl (.same _ _ rfl) rfl (.same _ _ rfl) rfl rfl rfl rfl,(show q+910000000000+1<=q+910000001000 by omega),0,rfl⟩,rfl⟩
  ·exact⟨.inl rfl,_,rfl,⟨BF (i1:=80) (i2:=81) (i3:=82) ⟨B.aj,B.af,B.ah,B.ak⟩ (⟨⟨by show B.af.length<=1000;omega,by show B.ah.length<=1000;omega,by show B.ak.length<=1000;omega⟩,H,M,F⟩) rfl (.same _ _ rfl) rfl (.same _ _ rfl) rfl (.same _ _ rfl) rfl rfl rfl rfl,(show q+910000000000+1<=q+910000001000 by omega),0,rfl⟩,rfl⟩
 clear h;refine cW (λ_=>?_) (λh=>?_)
 ·refine cW (λZ=>?_) (λ_=>?_)
  ·have Z:(0:Int)<B.af.length:=Z
   refine cW (show q+910000000000+1+1<=QM by omega) ⟨0,2,rfl,rfl,⟨by decide,by decide⟩,λy _=>?_⟩;refine λnv _=>?_
   obtain⟨sv,ag⟩:∃sv,B.af[(0:Int).toNat]?=some sv:=⟨B.af[0]'(by omega),by simp⟩;refine cW (fB 0) (cW Z (cW (AG _) (cW (show 0<B.af.length by omega) (cW (λ_ _ _=>trivial) ?_))));exact⟨.inl rfl,_,rfl,⟨BF (i1:=80) (i2:=81) (i3:=82) ⟨B.aj,B.af.set (0:Int).toNat {sv with next:=nv},B.ah,B.ak⟩ (⟨⟨by show(B.af.set _ _).length<=1000;rw[du];omega,by show B.ah.length<=1000;omega,by show B.ak.length<=1000;omega⟩,(λd hd=>(eu hd).elim (H d) (λh=>by rw[h];exact H sv (AE ag))),M,F⟩) rfl (BK (.same _ _ rfl) ag rfl) rfl (.same _ _ rfl) rfl (.same _ _ rfl) (by rw[du]) rfl rfl rfl,(show q+910000000000+1+1<=q+910000001000 by omega),0,rfl⟩,rfl⟩
  ·exact⟨.inl rfl,_,rfl,⟨BF (i1:=80) (i2:=81) (i3:=82) ⟨B.aj,B.af,B.ah,B.ak⟩ (⟨⟨by show B.af.length<=1000;omega,by show B.ah.length<=1000;omega,by show B.ak.length<=1000;omega⟩,H,M,F⟩) rfl (.same _ _ rfl) rfl (.same _ _ rfl) rfl (.same _ _ rfl) rfl rfl rfl rfl,(show q+910000000000+1<=q+910000001000 by omega),0,rfl⟩,rfl⟩
 clear h;exact⟨.inl rfl,_,rfl,⟨BF (i1:=80) (i2:=81) (i3:=82) ⟨B.aj,B.af,B.ah,B.ak⟩ (⟨⟨by show B.af.length<=1000;omega,by show B.ah.length<=1000;omega,by show B.ak.length<=1000;omega⟩,H,M,F⟩) rfl (.same _ _ rfl) rfl (.same _ _ rfl) rfl (.same _ _ rfl) rfl rfl rfl rfl,(show q+910000000000+1<=q+910000001000 by omega),0,rfl⟩,rfl⟩
def ghR(r:Nat)(w:World)(a1 a2 a3:qO):Gh:=⟨λi=>match i with|0=>some ⟨r,0,none⟩|1=>a1|2=>a2|3=>a3|_=>none,λk=>k<w.heap.size/\k≠r,λk=>k=r⟩
theorem QQ{r f cost:Nat}{α:Type}{A:α->List Value}{M:α->AY}{Y:α->Prop}{H:α->Value->AY->Prop}(hC:B7 Tryz.prog (RDr r) f cost (ctV A M Y H))(p:α)(hp:Y p)(J:can (A p) (M p)=(A p,M p)){w:World}{q:Nat}{a1 a2 a3:qO}(hR:Rd r w (q:Int))(hq:q+cost<=QM)(hM:∀i b,(i,b)∈M p->i<64/\Hold (RDr r) w (ghR r w a1 a2 a3) w q i b):
  Calls Tryz.prog f ((A p).map (r2 (ghR r w a1 a2 a3).α)).toArray w λe w'=>∃v es G',H p v es/\e=.returned (r2 G'.α (up2 (64+ ·) v))/\NewOk (RDr r) w G' w w' (q+cost) (upE 64 es)/\Past r w.heap.size w w'/\Rd r w' ((q+cost:Nat):Int)/\∀k,G'.Z k->k<w'.heap.size:=by
 have ak:=hR.lt;refine(hC w (ghR r w a1 a2 a3) w q 64 (A p) (M p) (λv es=>∃v1 F,H p v1 F/\v=up2 (64+ ·) v1/\es=upE 64 F) (λk hk=>⟨hk.1,hk.2⟩) (λk hk=>by have hk:k=r:=hk;omega) (AG _) (λi b h=>(hM i b h).2) (λi b h=>.inl (hM i b h).1) (.inr hq) ⟨p,J,hp,λv es Z=>⟨v,es,Z,rfl,rfl⟩⟩).mono ?_;rintro e w' ⟨v,ai,G',hk,rfl,W,hN,_,_⟩;obtain⟨v1,F,Z,rfl,rfl⟩:=hk (λv es=>∃v1 F,H p v1 F/\v=up2 (64+ ·) v1/\es=upE 64 F) ⟨p,J,hp,λv es Z=>⟨v,es,Z,rfl,rfl⟩⟩;exact⟨v1,F,G',Z,rfl,hN,⟨W.bE.os,W.bE.tape,W.bE.output,W.bE.size,λk hk hn=>W.bE.block k hk hn⟩,(W.rd r rfl ⟨rfl,hR,λk hk=>⟨by omega,by omega⟩⟩).2.1,λk hk=>(W.z3 k hk).1⟩
theorem MU{r b o:Nat}{w:World}{q:Int}{s:qB}(H:Rd r w q)(h:w.cell? ⟨b,o,none⟩=some (.string s)):b≠r:=λe=>by
 subst e;obtain⟨ao,n,cap,p,F,_⟩:=H;rw[Lc F]at h
 match o,h with
 |0,h=>cases h
 |1,h=>cases h
 |k+2,h=>simp at h
theorem Ed{RD:(Nat->Prop)->World->Nat->Nat->Prop}{w0 w:World}{G:Gh}{q i ty sz:Nat}{X:Type}{f:X->List Value}{l:List X}{ao:qO}(hα:G.α i=ao)(hf:∀x,(f x).all noV=true)
  (h:l≠[]->∃b off,ao=some ⟨b,off,none⟩/\G.Z b/\∀i x,l[i]?=some x->∀j v,(f x)[j]?=some v->w.cell? ⟨b,off+i*sz+j,none⟩=some v):Hold RD w0 G w q i (A9 ty sz f l):=by
 refine⟨λh=>(nomatch h),λ_ j J=>?_,λh=>(nomatch h),λh=>(nomatch h),λh=>(nomatch h),.inr (.inl rfl)⟩;have F:j<l.length:=J;obtain⟨b,off,e,hb,H⟩:=h (λe=>by rw[e]at F;cases F);obtain⟨x,hx⟩:∃x,l[j]?=some x:=⟨l[j],by simp⟩;exact⟨b,off,f x,hα.trans e,hb,λk hk=>hk x hx,λy v hv=>⟨H j x hx y v hv,fun β=>F0 (dh.1 (hf x) v (AE hv)) β⟩,λ_ _=>trivial⟩
theorem RK{r:Nat}{w:World}{q:Nat}{B:Bk}{a1 a2 a3:qO}{c1 c2 c3:Nat}(M:Rd r w (q:Int))(Z:BkAt w a1 a2 a3 B):∀i b,(i,b)∈BP.m1 ⟨B,c1,c2,c3⟩->i<64/\Hold (RDr r) w (ghR r w a1 a2 a3) w q i b:=λi b Y=>by
 have aa:=M.lt;have W:=EV (RD:=G6) (q:=0) Z;simp only[BP.m1,dy,dH,eP,dw]at Y;rcases Y with⟨rfl,rfl⟩|⟨rfl,rfl⟩|⟨rfl,rfl⟩|⟨rfl,rfl⟩
 ·exact⟨by decide,⟨λh=>(nomatch h),λh=>(nomatch h),λh=>(nomatch h),λh=>(nomatch h),λ_=>⟨r,rfl,rfl,rfl,M,λk hk=>⟨by omega,by omega⟩⟩,.inr (.inr (.inr (.inr (.inl rfl))))⟩⟩
 ·refine⟨by decide,Ed (ao:=a1) rfl (λ_=>rfl) λF=>?_⟩
  obtain⟨b,off,e,J,H⟩:=((W 0 _ rfl).2.1).bh (f:=svL) (l:=B.af) (λk hk=>hk) .row F;obtain⟨x,_,hx⟩:=fE F;exact⟨b,off,e,⟨J,MU M (H 0 x (by rw[hx];rfl) 0 _ rfl)⟩,H⟩
 ·refine⟨by decide,Ed (ao:=a2) rfl (λ_=>rfl) λF=>?_⟩
  obtain⟨b,off,e,J,H⟩:=((W 1 _ rfl).2.1).bh (f:=cpL) (l:=B.ah) (λk hk=>hk) .row F;obtain⟨x,_,hx⟩:=fE F;exact⟨b,off,e,⟨J,MU M (H 0 x (by rw[hx];rfl) 0 _ rfl)⟩,H⟩
 ·refine⟨by decide,Ed (ao:=a3) rfl (λ_=>rfl) λF=>?_⟩
  obtain⟨b,off,e,J,H⟩:=((W 2 _ rfl).2.1).bh (f:=btL) (l:=B.ak) (λk hk=>hk) .row F;obtain⟨x,_,hx⟩:=fE F;exact⟨b,off,e,⟨J,MU M (H 0 x (by rw[hx];rfl) 0 _ rfl)⟩,H⟩
theorem wish_bk(r q:Nat)(w:World)(F:Rd r w (q:Int))(Y:q+100<=QM):
  Calls Tryz.prog 37 #[.pointer (qad r)] w λe w'=>∃s:Svc,e=.returned (Ei s)/\s.name.size<=10/\Past r w.heap.size w w'/\Rd r w' ((q+100:Nat):Int):=by
 have M:=F.lt
 have h:=QQ (a1:=none) (a2:=none) (a3:=none) (Qt r) () trivial rfl F Y (λi b H=>by
  cases cZ.1 H
  exact⟨by decide,⟨λh=>(nomatch h),λh=>(nomatch h),λh=>(nomatch h),λh=>(nomatch h),λ_=>⟨r,rfl,rfl,rfl,F,λk hk=>⟨by omega,by omega⟩⟩,.inr (.inr (.inr (.inr (.inl rfl))))⟩⟩)
 rw[show(List.map (r2 (ghR r w none none none).α) [.complex .f64 0 0]).toArray=#[.pointer (qad r)] from by simp[ghR,r2,r1,r0,Addr.add]]at h;refine h.mono ?_;rintro e w' ⟨_,_,G',⟨rfl,s,rfl,Z⟩,rfl,_,J,W,_⟩;exact⟨s,by simp[Ei,svL,up2,up1,up0,r2,r1,r0],Z,J,W⟩
def SpBk(N:Nat)(w':World)(e:Ending):Prop:=∃(a1 a2 a3:qO) (c1 c2 c3:Nat) (B:Bk),e=.returned (.agg (qbV B a1 c1 a2 c2 a3 c3))/\BkAt w' a1 a2 a3 B/\okSp B/\∀b o,(a1=some ⟨b,o,none⟩\/a2=some ⟨b,o,none⟩\/a3=some ⟨b,o,none⟩)->N<=b
theorem sp_bk{r q:Nat}{w w':World}{G':Gh}{v:Value}{es:AY}(h:Qz v es)(F:NewOk (RDr r) w G' w w' q (upE 64 es))(Y:∀k,G'.Z k->k<w'.heap.size):SpBk w.heap.size w' (.returned (r2 G'.α (up2 (64+ ·) v))):=by
 rcases h with⟨rfl,rfl⟩|⟨B,n1,n2,n3,k1,k2,k3,H,⟨rfl,rfl,rfl⟩,rfl,rfl⟩
 ·exact⟨none,none,none,0,0,0,⟨-1,[],[],[]⟩,by simp[up2,up1,up0,r2,r1,r0],⟨λh=>absurd rfl h,λh=>absurd rfl h,λh=>absurd rfl h⟩,⟨⟨AI _,AI _,AI _⟩,⟨λ_ h=>(nomatch h),λ_ h=>(nomatch h),λ_ h=>(nomatch h)⟩⟩,λb o h=>by rcases h with h|h|h<;>cases h⟩
 ·have M:=F.aT 64 _ (dK)
  have W:=F.aT 65 _ (dN _ dK);have J:=F.aT 66 _ (dN _ (dN _ dK));refine⟨G'.α 64,G'.α 65,G'.α 66,k1,k2,k3,B,by simp[up2,up1,up0,r2,r1,r0],Gw Y M W J (.le (ρ:=[]) (.same _ _ rfl)) (.le (ρ:=[]) (.same _ _ rfl)) (.le (ρ:=[]) (.same _ _ rfl)),H,λb o h=>?_⟩;obtain⟨y1,_,e1,l1,_⟩:=M.k3 rfl;obtain⟨y2,_,e2,Z,_⟩:=W.k3 rfl;obtain⟨y3,_,e3,l3,_⟩:=J.k3 rfl;rcases h with h|h|h
  ·rw[e1]at h;cases h;exact l1
  ·rw[e2]at h;cases h;exact Z
  ·rw[e3]at h;cases h;exact l3
theorem rd_hold{r q:Nat}{w:World}{a1 a2 a3:qO}(F:Rd r w (q:Int)):∀i b,(i,b)∈[(0,rdB)]->i<64/\Hold (RDr r) w (ghR r w a1 a2 a3) w q i b:=λi b H=>by
 have J:=F.lt;cases cZ.1 H;exact⟨by decide,⟨λh=>(nomatch h),λh=>(nomatch h),λh=>(nomatch h),λh=>(nomatch h),λ_=>⟨r,rfl,rfl,rfl,F,λk hk=>⟨by omega,by omega⟩⟩,.inr (.inr (.inr (.inr (.inl rfl))))⟩⟩
theorem any_bk(r q:Nat)(w:World)(Z:B7 Tryz.prog (RDr r) 119 910000000000 Nk)(F:Rd r w (q:Int))(W:q+910000001000<=QM):
  Calls Tryz.prog 60 #[.pointer (qad r)] w λe w'=>SpBk w.heap.size w' e/\Past r w.heap.size w w'/\Rd r w' ((q+910000001000:Nat):Int):=by
 have h:=QQ (a1:=none) (a2:=none) (a3:=none) (any_ct r Z) () trivial rfl F W (rd_hold F);rw[show(List.map (r2 (ghR r w none none none).α) [.complex .f64 0 0]).toArray=#[.pointer (qad r)] from by simp[ghR,r2,r1,r0,Addr.add]]at h;refine h.mono ?_;rintro e w' ⟨v,es,G',ho,rfl,M,J,Y,H⟩;exact⟨sp_bk ho M H,J,Y⟩
end
end Go.Proofs.YtbceafpodamnfaaGreatDoor
