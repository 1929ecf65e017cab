import Derived.Test.YtbceafpodamnfaaGreatDoorG30
set_option linter.all false
set_option maxHeartbeats 16000000
set_option maxRecDepth 100000
namespace Go.Proofs.YtbceafpodamnfaaGreatDoor
section
open Go.RowKit Go.Sort
open Go.Value renaming int->In,slice->Sl,string->Sg,bool->Bo,pointer->Po
open Go.IntKind renaming i64->i6
def zeroSn:Sn:=⟨⟨⟨#[]⟩,0,0,0,0,false,⟨#[]⟩⟩,false,false⟩
def stepS(b y:Sn):Sn:=if LA y b then y else b
def Ec:List Sn->Sn
 |[]=>zeroSn
 |x::r=>r.foldl stepS x
theorem RW{l:List Sn}(h:l≠[])(x:Sn):Ec (l++[x])=stepS (Ec l) x:=by
 cases l with
 |nil=>exact absurd rfl h
 |cons y r=>simp[Ec]
theorem RX(l:List Sn)(lo:Nat)(al:qO)(cl:Nat)(w:World)(hl:l.length<=1048576)(hL:OwnSn lo w al cl l):
  Calls Tryz.prog 241 #[Sl al l.length cl,.func (.func 242) #[] #[]] w λe w'=>∃b,Hid (b=Ec l)/\e=.returned (.tuple #[.agg (qnV b),Bo (decide (0<l.length))])/\Below w.heap.size w w':=by
 have HL:Hid (OwnSn lo w al cl l):=hL;clear hL;obtain⟨W0,aH,t0,t1,aK,au,an⟩:=DH w (.cells qzN 214) (.cells qzN 214);have T0:Hid _:=t0;have T1:Hid _:=t1;clear t0 t1;go_enter Tryz.func241,Tryz.ntmps241;go_wp2;clear aH
 go_loopw [11] (λiv wr=>∃(k:Nat) (b:Sn),k<=l.length/\iv=In i6 k/\Hid (b=Ec (l.take k))/\Below w.heap.size w wr/\Hid (qBl wr (w.heap.size) qzN 214)/\Hid (qBl wr (w.heap.size+1) (qnV b) 214)) (λi _=>l.length - (intOf i).toNat)
 case atStart=>exact⟨0,zeroSn,qo,rfl,rfl,an,T0,T1⟩
 case round=>
  clear T0 T1 an aK au;obtain⟨k,b,hk,rfl,HB,hb,A0,F0⟩:=hrel;have O:=hb.size;have aM:w.heap.size+1<wr.heap.size:=(AB F0.ab).1
  by_cases aJ:k<l.length
  ·obtain⟨x,hx⟩:∃x,l[k]?=some x:=⟨l[k],by simp[aJ]⟩
   have HT:Hid (l.take (k+1)=l.take k++[x]):=by unfold Hid;rw[ec,hx];rfl
   obtain⟨g,rfl,_,aI,am⟩:=HL.ab.at hx;have aa:=am.below hb aI;unfold SnAt at aa;obtain⟨c0,c1,c2,c3,c4,c5,c6,c7,c8⟩:=aa;obtain⟨W1,ak⟩:∃W,wr.alloc (.cells (qnV x) 214)=W:=⟨_,rfl⟩;have H:Hid _:=dm wr (.cells (qnV x) 214);have A1:Hid _:=AK (AN wr (.cells (qnV x) 214)) A0.ab;have F:Hid _:=AK (AN wr (.cells (qnV x) 214)) F0.ab aM;have z:=hb.trans ((AN wr (.cells (qnV x) 214)).mono O);have aw:wr.heap.size<(wr.alloc (.cells (qnV x) 214)).heap.size:=by simp
   rw[ak]at H A1 F z aw;clear am hx A0 F0
   go_upto_region 5 with fail
   clear c0 c1 c2 c3 c4 c5 c6 c7 c8 ak
   by_cases M:k=0
   ·have h0:((k:Int)==0)=true:=by simp[M]
    have HN:Hid (x=Ec (l.take (k+1))):=by unfold Hid;rw[HT.ab,M];rfl
    clear M
    go_wp2_with (first
     |(refine dB rfl 214 (.tmp 8) rfl wr.heap.size rfl 214 (qnV x) (0,0) _ H.ab Tryz.underlying214 rfl Bg ?_)
     |(refine qAM F.ab Bg ?_;intro w2 O Y;have F2:Hid (qBl w2 ((w.heap.size+1)) (qnV x) 214):=O;have A2:Hid _:=(Y.aL w.heap.size qo).trans A1.ab;have Z:=z.trans (Y.below.mono qo);clear O Y))
    go_wp2
    go_roundw
    case rel=>exact⟨k+1,x,qo,qn,HN,Z,A2,F2⟩
    case measure=>simp[intOf];omega
   ·have h0:((k:Int)==0)=false:=by simp[M]
    have HN:Hid (Ec (l.take (k+1))=if LA x b then x else b):=by
     unfold Hid;rw[HT.ab,RW (λh=>M (by have h':=ei List.length h;rw[dI,fc,gT hk]at h';exact h')),<-HB.ab];rfl
    obtain⟨r,HR,HC⟩:∃r,Hid (LA x b=decide (r<0))/\Hid (∀W:World,Calls Tryz.prog 242 #[.agg (qnV x),.agg (qnV b)] W λe w'=>e=.returned (In i6 r)/\Below W.heap.size W w'):=⟨_,(cmpE_neg x b).symm,λW=>Ld x b W⟩;clear M;have x0:=AJ H.ab 0;have f0:=AJ F.ab 0;have x1:=AJ H.ab 1;have f1:=AJ F.ab 1;have x2:=AJ H.ab 2;have f2:=AJ F.ab 2;have x3:=AJ H.ab 3;have f3:=AJ F.ab 3;have x4:=AJ H.ab 4;have f4:=AJ F.ab 4;have x5:=AJ H.ab 5;have f5:=AJ F.ab 5;have x6:=AJ H.ab 6;have f6:=AJ F.ab 6;have x7:=AJ H.ab 7;have f7:=AJ F.ab 7;have x8:=AJ H.ab 8;have f8:=AJ F.ab 8
    go_wp2_with fail
    refine(HC.ab _).mono ?_;rintro e w1 ⟨rfl,J⟩;have ae:=z.trans (J.mono z.size);have bX:=J.size;have aG:Hid _:=AK J H.ab aw;have af:Hid _:=AK J A1.ab;have ah:Hid _:=AK J F.ab;clear H A1 F J x0 f0 x1 f1 x2 f2 x3 f3 x4 f4 x5 f5 x6 f6 x7 f7 x8 f8
    by_cases hr:r<0
    ·have HS:Hid (LA x b=true):=by unfold Hid;rw[HR.ab];simp[hr]
     go_wp2_with (first
      |(refine dB rfl 214 (.tmp 8) rfl wr.heap.size rfl 214 (qnV x) (0,0) _ aG.ab Tryz.underlying214 rfl Bg ?_)
      |(refine qAM ah.ab Bg ?_;intro w2 O Y;have F2:Hid (qBl w2 ((w.heap.size+1)) (qnV x) 214):=O;have A2:Hid _:=(Y.aL w.heap.size qo).trans af.ab;have Z:=ae.trans (Y.below.mono qo);clear O Y))
     go_wp2
     go_roundw
     case rel=>exact⟨k+1,x,qo,qn,by unfold Hid;rw[HN.ab,HS.ab];rfl,Z,A2,F2⟩
     case measure=>simp[intOf];omega
    ·have HS:Hid (LA x b=false):=by unfold Hid;rw[HR.ab];simp[hr]
     go_wp2
     go_roundw
     case rel=>exact⟨k+1,b,qo,qn,by unfold Hid;rw[HN.ab,HS.ab];rfl,ae,af,ah⟩
     case measure=>simp[intOf];omega
  ·obtain rfl:k=l.length:=qo
   have HE:Hid (b=Ec l):=by unfold Hid;rw[HB.ab,eC]
   by_cases aq:0<l.length
   ·have HD:Hid (decide (0<l.length)=true):=by simp[Hid,aq]
    go_wp2_with (first
     |(refine dB rfl 214 (.tmp 6) rfl (w.heap.size+1) rfl 214 (qnV b) (0,0) _ F0.ab Tryz.underlying214 rfl Bg ?_)
     |(refine qAM A0.ab Bg ?_;intro wf O Y;have RF:Hid (qBl wf (w.heap.size) (qnV b) 214):=O;have BF:=hb.trans (Y.below.mono qo);obtain⟨p0,p1,p2,p3,p4,p5,p6,p7⟩:=qc8 RF.ab;have p8:=AJ RF.ab 8;clear O Y))
    refine dF (v:=.tuple #[.agg (qnV b),Bo true]) (by simp[results,Tryz.results241,go_sem,p0,p1,p2,p3,p4,p5,p6,p7,p8]) rfl ⟨b,HE,by rw[HD.ab],BF⟩
   ·have HD:Hid (decide (0<l.length)=false):=by simp[Hid,aq]
    go_wp2_with (first
     |(refine dB rfl 214 (.tmp 6) rfl (w.heap.size+1) rfl 214 (qnV b) (0,0) _ F0.ab Tryz.underlying214 rfl Bg ?_)
     |(refine qAM A0.ab Bg ?_;intro wf O Y;have RF:Hid (qBl wf (w.heap.size) (qnV b) 214):=O;have BF:=hb.trans (Y.below.mono qo);obtain⟨p0,p1,p2,p3,p4,p5,p6,p7⟩:=qc8 RF.ab;have p8:=AJ RF.ab 8;clear O Y))
    refine dF (v:=.tuple #[.agg (qnV b),Bo false]) (by simp[results,Tryz.results241,go_sem,p0,p1,p2,p3,p4,p5,p6,p7,p8]) rfl ⟨b,HE,by rw[HD.ab],BF⟩
def FF(l:List Sn):List En:=l.map λx=>CV x.c
theorem RY(s:Svc)(N:Cnt)(dr:Int)(aS:qO)(nS cS:Nat)(l:List Sn)(lo:Nat)(al:qO)(cl:Nat)(w:World)(hl:l.length<=1048576)(hL:OwnSn lo w al cl l):
  Calls Tryz.prog 175 #[.agg (qhV s N dr aS nS cS),Sl al l.length cl] w λe w'=>∃ae ce,e=.returned (.tuple #[.agg #[Sg s.name,In i6 s.ag,In i6 0,In i6 0,In i6 0,Bo false,Sl ae l.length ce,Bo false],Bo (decide (0<l.length))])/\Hid (w'.ownsRow w.heap.size 88 2 (Sl ae l.length ce) l.length (D7 (FF l)))/\Below w.heap.size w w':=by
 have HL:Hid (OwnSn lo w al cl l):=hL;clear hL;obtain⟨W0,aH,t0,t1,b6,bw,ah⟩:=DH w (.cells (qhV s N dr aS nS cS) 145) (.cells qzA 45);have T0:Hid _:=t0;have T1:Hid _:=t1;clear t0 t1;go_enter Tryz.func175,Tryz.ntmps175
 go_upto_region 1 with fail
 clear aH
 go_wp2_with (first
  |(refine dB rfl 145 (.tmp 2) rfl w.heap.size rfl 145 (qhV s N dr aS nS cS) (0,0) _ T0.ab Tryz.underlying145 rfl Ag ?_))
 refine(P2 s N dr aS nS cS _).mono ?_;rintro e w1 ⟨rfl,Y⟩;have Bi:=ah.trans (Y.mono ah.size);have b7:=Y.size;have U1:Hid (qBl w1 (w.heap.size+1) qzA 45):=AK Y T1.ab;clear Y ah T0 T1
 go_upto_region 2 with(first
  |(refine qAM (dm w1 _) AV ?_;intro wa F z;have H:Hid (qBl wa (w1.heap.size) (qgV s.name s.ag 0 0 0 false (Sl none 0 0) false) 45):=F;have R0:Hid _:=(z.aL (w.heap.size+1) qo).trans (AK (AN w1 _) U1.ab);have B0:=(Bi.alloc qo _).trans (z.below.mono qo);have q0:=AJ H.ab 0;clear F z))
 have b8:w1.heap.size+1<=wa.heap.size:=(AB H.ab).1;clear q0;go_wp2
 go_loopw [13] (λiv wr=>∃(k:Nat) (ao:qO) (co:Nat),k<=l.length/\iv=In i6 k/\Below w.heap.size w wr/\Hid (qBl wr (w.heap.size+1) qzA 45)/\Hid (qBl wr (w1.heap.size) #[Sg s.name,In i6 s.ag,In i6 0,In i6 0,In i6 0,Bo false,Sl ao k co,Bo false] 45)/\Hid (wr.ownsRow (w1.heap.size+1) 88 2 (Sl ao k co) k (D7 (FF (l.take k))))) (λi _=>l.length - (intOf i).toNat)
 case atStart=>exact⟨0,none,0,qo,rfl,B0,R0,H,World.ownsRow_nil _ _ _ _⟩
 case round=>
  clear B0 R0 H U1 Bi;obtain⟨k,ao,co,hk,rfl,hb,R0,H,M⟩:=hrel;have F:=hb.size;have aM:w1.heap.size<wr.heap.size:=(AB H.ab).1
  by_cases aK:k<l.length
  ·obtain⟨x,hx⟩:∃x,l[k]?=some x:=⟨l[k],by simp[aK]⟩
   have HT:Hid (FF (l.take (k+1))=FF (l.take k)++[⟨x.c.ak,x.c.ag⟩]):=by unfold Hid FF;rw[ec,hx];simp[CV]
   obtain⟨g,rfl,_,aJ,aq⟩:=HL.ab.at hx;have aa:=aq.below hb aJ;unfold SnAt at aa;obtain⟨c0,c1,c2,c3,c4,c5,c6,c7,c8⟩:=aa;obtain⟨W1,an⟩:∃W,wr.alloc (.cells (qnV x) 214)=W:=⟨_,rfl⟩;have X1:Hid _:=dm wr (.cells (qnV x) 214);have R1:Hid _:=AK (AN wr (.cells (qnV x) 214)) R0.ab;have Y1:Hid _:=AK (AN wr (.cells (qnV x) 214)) H.ab aM;have O:Hid _:=Ai M.ab (AN wr (.cells (qnV x) 214)) AG;have af:=hb.trans ((AN wr (.cells (qnV x) 214)).mono F);have aN:wr.heap.size<(wr.alloc (.cells (qnV x) 214)).heap.size:=by simp
   rw[an]at X1 R1 Y1 O af aN;clear aq hx R0 H M
   go_upto_region 5 with fail
   clear c0 c1 c2 c3 c4 c5 c6 c7 c8 an;have e1:=AJ X1.ab 1;have e2:=AJ X1.ab 2;have y6:=AJ Y1.ab 6
   go_wp2_with (first
    |(at_builtin;refine Dx rfl (.tmp 18) (.tmp 26) 43 rfl (w1.heap.size+1) 88 _ 2 16 Tryz.underlying43 R9 rfl qo (Sl ao k co) k _ rfl (Ai O.ab (AN W1 _) AG) ⟨W1.heap.size,0,none⟩ 1 (#[In i6 x.c.ak,In i6 x.c.ag]:Array Value).toList rfl rfl (DI (dm W1 _)) (λu hu=>(eL.1 (one_En ⟨x.c.ak,x.c.ag⟩)) u (by simpa using hu)) qm qo qp ?_;intro g' Z w2 b4 aj aI;have bb:=(AN W1 (.cells #[In i6 x.c.ak,In i6 x.c.ag] 88)).mono (show w1.heap.size+1<=W1.heap.size by omega);have J:=bb.trans aI;have R2:Hid _:=(J.block (w.heap.size+1) qo).trans R1.ab;have Y2:Hid _:=(J.block w1.heap.size qo).trans Y1.ab;have ag:=af.trans (J.mono qo);have bx:=ag.size;clear bb e1 e2 y6)
    |(refine Am rfl 43 (.tmp 28) (.tmp 27) rfl w1.heap.size 6 (.slice (qad g') (k+1) Z) rfl rfl Nf rfl rfl 45 #[Sg s.name,In i6 s.ag,In i6 0,In i6 0,In i6 0,Bo false,Sl ao k co,Bo false] Y2.ab (AD rfl) ?_;intro w3 F z;have Y3:Hid (qBl w3 (w1.heap.size) #[Sg s.name,In i6 s.ag,In i6 0,In i6 0,In i6 0,Bo false,(.slice (qad g') (k+1) Z),Bo false] 45):=F;have R3:Hid _:=(z.aL (w.heap.size+1) qo).trans R2.ab;have ak:Hid _:=Dv aj.ab (λq hq _=>z.aL q qo);have au:=ag.trans (z.below.mono qo);clear F z))
   go_wp2
   go_roundw
   case rel=>exact⟨k+1,_,_,qo,qn,au,R3,Y3,by unfold Hid;rw[HT.ab,ensV_add];exact ak.ab⟩
   case measure=>simp[intOf];omega
  ·obtain rfl:k=l.length:=qo
   have HE:Hid (wr.ownsRow (w1.heap.size+1) 88 2 (Sl ao l.length co) l.length (D7 (FF l))):=by have:=M.ab;rw[eC]at this;exact this
   have y0:=AJ H.ab 0
   by_cases aw:0<l.length
   ·have HD:Hid (decide (0<l.length)=true):=by simp[Hid,aw]
    go_wp2_with (first
     |(refine dB rfl 45 (.tmp 6) rfl w1.heap.size rfl 45 #[Sg s.name,In i6 s.ag,In i6 0,In i6 0,In i6 0,Bo false,Sl ao l.length co,Bo false] (0,0) _ H.ab Tryz.underlying45 rfl AV ?_)
     |(refine qAM R0.ab AV ?_;intro wf F z;have RF:Hid (qBl wf ((w.heap.size+1)) #[Sg s.name,In i6 s.ag,In i6 0,In i6 0,In i6 0,Bo false,Sl ao l.length co,Bo false] 45):=F;have BF:=hb.trans (z.below.mono qo);have OF:Hid _:=BC (Dv HE.ab (λq hq _=>z.aL q qo)) (show w.heap.size<=w1.heap.size+1 by omega);obtain⟨p0,p1,p2,p3,p4,p5,p6,p7⟩:=qc8 RF.ab;clear F z))
    refine dF (v:=.tuple #[.agg #[Sg s.name,In i6 s.ag,In i6 0,In i6 0,In i6 0,Bo false,Sl ao l.length co,Bo false],Bo true]) (by simp[results,Tryz.results175,go_sem,p0,p1,p2,p3,p4,p5,p6,p7]) rfl ⟨ao,co,by rw[HD.ab],OF,BF⟩
   ·have HD:Hid (decide (0<l.length)=false):=by simp[Hid,aw]
    go_wp2_with (first
     |(refine dB rfl 45 (.tmp 6) rfl w1.heap.size rfl 45 #[Sg s.name,In i6 s.ag,In i6 0,In i6 0,In i6 0,Bo false,Sl ao l.length co,Bo false] (0,0) _ H.ab Tryz.underlying45 rfl AV ?_)
     |(refine qAM R0.ab AV ?_;intro wf F z;have RF:Hid (qBl wf ((w.heap.size+1)) #[Sg s.name,In i6 s.ag,In i6 0,In i6 0,In i6 0,Bo false,Sl ao l.length co,Bo false] 45):=F;have BF:=hb.trans (z.below.mono qo);have OF:Hid _:=BC (Dv HE.ab (λq hq _=>z.aL q qo)) (show w.heap.size<=w1.heap.size+1 by omega);obtain⟨p0,p1,p2,p3,p4,p5,p6,p7⟩:=qc8 RF.ab;clear F z))
    refine dF (v:=.tuple #[.agg #[Sg s.name,In i6 s.ag,In i6 0,In i6 0,In i6 0,Bo false,Sl ao l.length co,Bo false],Bo false]) (by simp[results,Tryz.results175,go_sem,p0,p1,p2,p3,p4,p5,p6,p7]) rfl ⟨ao,co,by rw[HD.ab],OF,BF⟩
section
variable {P:Program}
theorem GM{ops:Array Oper}{rest:List Oper}{o:Oper}{a:Act}{w:World}{Q:Exit->Act->World->Prop}(W:Region.wanted o (yielded ops a.tmps)=true)(ty:TypeId)(x:Operand)(M:o.op=.load ty x)
  (g:Nat) (hx:a.eval x=.pointer (qad g)) (t:TypeId) (cs:Array Value) (fr:Nat × Nat) (d:TypeDesc) (H:w.heap[g]?=some (.cells cs t fr))
  (O:P.underlying ty=some d) (F:(match d with| .struct _| .array _ _=>true|_=>false)=true) (J:(P.info? ty).map (·.size)=some cs.size)
  (h:wpList P ops Q rest (a.put o.dst (.agg cs)) w):wpList P ops Q (o::rest) a w:=by
 refine wpList_step λK z=>?_
 rw[dv W];exact wp_load_row ty x M g hx t cs fr d H O F J (z _ _ h)
end
def zeroA:Ac:=⟨⟨#[]⟩,0,0,0,0,false,[],false⟩
def FH(lo:Nat)(w:World)(e:Ending)(o:Option Ac):Prop:=∃(A:Ac) (ae:qO) (ce:Nat),e=.returned (.tuple #[.agg (qaV A ae ce),Bo o.isSome])/\Hid (w.ownsRow lo 88 2 (Sl ae A.aB.length ce) A.aB.length (D7 A.aB))/\Hid (∀A',o=some A'->A=A')
theorem C7(lo:Nat)(w:World):FH lo w (.returned (.tuple #[.agg qzA,Bo false])) none:=⟨zeroA,none,0,rfl,World.ownsRow_nil _ _ _ _,λ_ h=>by cases h⟩
def Bn(s:Svc)(r:Int)(l:List Sn):Option Ac:=if l≠[]/\Em s (Ec l).c r=true then some {a0 s with aB:=[CV (Ec l).c]} else none
theorem GH(s:Svc)(r:Int)(l:List Sn)(h:l.length=0):Bn s r l=none:=by
 unfold Bn;rw[dk];intro z;exact z.1 (eF.1 h)
theorem Iv(s:Svc)(r:Int)(l:List Sn)(b:Sn)(hb:b=Ec l)(h:Em s b.c r=false):Bn s r l=none:=by
 unfold Bn;rw[dk];rw[<-hb,h];simp
theorem GG(s:Svc)(r:Int)(l:List Sn)(b:Sn)(z:0<l.length)(hb:b=Ec l)(h:Em s b.c r=true):Bn s r l=some {a0 s with aB:=[CV b.c]}:=by
 unfold Bn;rw[dv ⟨by intro e;rw[e]at z;simp at z,by rw[<-hb];exact h⟩,<-hb]
theorem KE(s:Svc)(N:Cnt)(dr:Int)(Z:qO)(nS cS:Nat)(l:List Sn)(lo:Nat)(al:qO)(cl:Nat)(w:World)(hl:l.length<=1048576)(aA:0<=N.ready)(aC:N.ready<=1048576)(aD:DR s)(hL:OwnSn lo w al cl l):
  Calls Tryz.prog 172 #[.agg (qhV s N dr Z nS cS),Sl al l.length cl] w λe w'=>FH w.heap.size w' e (Bn s N.ready l)/\Below w.heap.size w w':=by
 have HL:Hid (OwnSn lo w al cl l):=hL;have au:Hid (∀(b:Sn) (W:World),Calls Tryz.prog 243 #[.agg (qhV s N dr Z nS cS),.agg (qnV b)] W λe w'=>e=.returned (.bool (Em s b.c N.ready))/\Below W.heap.size W w'):=λb W=>LE s N dr Z nS cS b W aA aC aD
 clear hL aD aA aC;obtain⟨W0,a7,t0,t1,bC,bn,O⟩:=DH w (.cells (qhV s N dr Z nS cS) 145) (.cells qzA 45);have T0:Hid _:=t0;have T1:Hid _:=t1;clear t0 t1;go_enter Tryz.func172,Tryz.ntmps172
 go_upto_region 1 with fail
 clear a7
 go_wp2_with fail
 refine(RX l lo al cl _ hl (Ai HL.ab O AG)).mono ?_;rintro e w1 ⟨b,HB,rfl,am⟩;obtain⟨W1,ak⟩:∃W,w1.alloc (.cells (qnV b) 214)=W:=⟨_,rfl⟩;have a8:=am.size;have X1:Hid _:=dm w1 (.cells (qnV b) 214);have F:=am.trans ((AN w1 (.cells (qnV b) 214)).mono a8);have S1:Hid _:=AK F T0.ab;have R1:Hid _:=AK F T1.ab;have z:=O.trans (F.mono O.size);have aF:w1.heap.size<(w1.alloc (.cells (qnV b) 214)).heap.size:=by simp
 rw[ak]at X1 S1 R1 z aF;clear am F T0 T1 O
 by_cases an:0<l.length
 ·have HD:Hid (decide (0<l.length)=true):=by simp[Hid,an]
  rw[HD.ab]
  go_upto_region 2 with fail
  clear ak
  go_wp2_with (first
   |(refine GM rfl 145 (.tmp 2) rfl w.heap.size rfl 145 (qhV s N dr Z nS cS) (0,0) _ S1.ab Tryz.underlying145 rfl Ag ?_)
   |(refine GM rfl 214 (.tmp 6) rfl w1.heap.size rfl 214 (qnV b) (0,0) _ X1.ab Tryz.underlying214 rfl Bg ?_))
  obtain⟨m,HM,HC⟩:∃m:Bool,Hid (Em s b.c N.ready=m)/\Hid (∀W:World,Calls Tryz.prog 243 #[.agg (qhV s N dr Z nS cS),.agg (qnV b)] W λe w'=>e=.returned (.bool m)/\Below W.heap.size W w'):=⟨_,rfl,λW=>au.ab b W⟩;refine(HC.ab _).mono ?_;rintro e w2 ⟨rfl,J⟩;have bD:=J.size;have X2:Hid _:=AK J X1.ab aF;have S2:Hid _:=AK J S1.ab;have R2:Hid _:=AK J R1.ab;have af:=z.trans (J.mono z.size);clear X1 S1 R1 J z HC au;cases m
  ·go_wp2_with (first
    |(refine qAM R2.ab AV ?_;intro wf hz Y;have RF:Hid (qBl wf ((w.heap.size+1)) qzA 45):=hz;have BF:=af.trans (Y.below.mono qo);obtain⟨p0,p1,p2,p3,p4,p5,p6,p7⟩:=qc8 RF.ab;clear hz Y))
   refine dF (v:=.tuple #[.agg qzA,Bo false]) (by simp[results,Tryz.results172,go_sem,p0,p1,p2,p3,p4,p5,p6,p7]) rfl ⟨by rw[Iv s N.ready l b HB.ab HM.ab];exact C7 _ _,BF⟩
  ·have HO:Hid (Bn s N.ready l=some {a0 s with aB:=[CV b.c]}):=GG s N.ready l b an HB.ab HM.ab
   go_wp2_with (first
    |(refine dB rfl 145 (.tmp 2) rfl w.heap.size rfl 145 (qhV s N dr Z nS cS) (0,0) _ S2.ab Tryz.underlying145 rfl Ag ?_)
    |(refine dB rfl 214 (.tmp 6) rfl w1.heap.size rfl 214 (qnV b) (0,0) _ X2.ab Tryz.underlying214 rfl Bg ?_))
   have az:=AN w2 (.cells (qnV b) 214);have ag:OwnSn w2.heap.size (w2.alloc (.cells (qnV b) 214)) (some ⟨w2.heap.size,0,none⟩) 1 [b]:=⟨by simp[snsV_len],.inr ⟨w2.heap.size,1,(qnV b),rfl,AG,dm w2 _,AG,qm,rfl,by simp[JC,Sn.cells]⟩⟩;refine(RY s N dr Z nS cS [b] w2.heap.size (some ⟨w2.heap.size,0,none⟩) 1 _ qs ag).mono ?_;rintro e w3 ⟨ae,ce,rfl,M,ax⟩;have H:=az.trans (ax.mono qs);have bE:=H.size;have R3:Hid _:=AK H R2.ab;have ay:=af.trans (H.mono qo);have bK:w.heap.size<=(w2.alloc (.cells (qnV b) 214)).heap.size:=qp
   have O3:Hid _:=BC M.ab (show w.heap.size+1+1<=(w2.alloc (.cells (qnV b) 214)).heap.size by simp;omega);clear X2 S2 R2 az ax H ag M
   go_wp2_with (first
    |(refine qAM R3.ab AV ?_;intro wf hz Y;have RF:Hid (qBl wf ((w.heap.size+1)) #[Sg s.name,In i6 s.ag,In i6 0,In i6 0,In i6 0,Bo false,Sl ae 1 ce,Bo false] 45):=hz;have BF:=ay.trans (Y.below.mono qo);have OF:Hid _:=BC (Dv O3.ab (λq hq _=>Y.aL q qo)) (show w.heap.size<=w.heap.size+1+1 by omega);obtain⟨p0,p1,p2,p3,p4,p5,p6,p7⟩:=qc8 RF.ab;clear hz Y))
   refine dF (v:=.tuple #[.agg #[Sg s.name,In i6 s.ag,In i6 0,In i6 0,In i6 0,Bo false,Sl ae 1 ce,Bo false],Bo true]) (by simp[results,Tryz.results172,go_sem,p0,p1,p2,p3,p4,p5,p6,p7]) rfl ⟨by rw[HO.ab];exact⟨{a0 s with aB:=[CV b.c]},ae,ce,rfl,OF,λA' h=>dj h⟩,BF⟩
 ·have HD:Hid (decide (0<l.length)=false):=by simp[Hid,an]
  rw[HD.ab]
  go_upto_region 2 with fail
  clear ak
  go_wp2_with (first
   |(refine qAM R1.ab AV ?_;intro wf hz Y;have RF:Hid (qBl wf ((w.heap.size+1)) qzA 45):=hz;have BF:=z.trans (Y.below.mono qo);obtain⟨p0,p1,p2,p3,p4,p5,p6,p7⟩:=qc8 RF.ab;clear hz Y))
  refine dF (v:=.tuple #[.agg qzA,Bo false]) (by simp[results,Tryz.results172,go_sem,p0,p1,p2,p3,p4,p5,p6,p7]) rfl ⟨by rw[GH s N.ready l qo];exact C7 _ _,BF⟩
def By(s:Svc)(N:Cnt)(F:List Sn):Option Ac:=
 if s.aH=true\/F.length=0\/N.aE<s.au then none
 else if N.aE<s.au+s.aG then some {a0 s with ax:=1}
 else Bn s N.ready (F.filter λx=>Em s x.c N.ready)
theorem PG(s:Svc)(N:Cnt)(F:List Sn)(h:F.length=0):By s N F=none:=by unfold By;rw[dv (.inr (.inl h))]
theorem PF(s:Svc)(N:Cnt)(F:List Sn)(h:N.aE<s.au):By s N F=none:=by unfold By;rw[dv (.inr (.inr h))]
theorem Jh(s:Svc)(N:Cnt)(F:List Sn)(h:s.aH=true):By s N F=none:=by unfold By;rw[dv (.inl h)]
theorem PE(s:Svc)(N:Cnt)(F:List Sn)(z:s.aH=false)(H:¬F.length=0)(J:¬N.aE<s.au)(M:N.aE<s.au+s.aG):By s N F=some {a0 s with ax:=1}:=by
 unfold By;rw[dk (by simp[z,H,J]),dv M]
theorem PH(s:Svc)(N:Cnt)(F:List Sn)(z:s.aH=false)(H:¬F.length=0)(J:¬N.aE<s.au)(M:¬N.aE<s.au+s.aG):By s N F=Bn s N.ready (F.filter λx=>Em s x.c N.ready):=by
 unfold By;rw[dk (by simp[z,H,J]),dk M]
theorem LG(f:Nat)(pk:Sn->Bool)(hf:∀(args:Array Value) (W:World),(callFunc f args).run Tryz.prog W=.ok (.enter f args) W)(HC:Hid (∀(x:Sn) (W:World),Calls Tryz.prog f #[.agg (qnV x)] W λe w'=>e=.returned (.bool (pk x))/\Below W.heap.size W w'))(s:Svc)(N:Cnt)(dr:Int)(l:List Sn)(lo:Nat)(al:qO)(cl:Nat)(w:World)(hl:l.length<=1048576)(ak:DR s)(cx:0<=N.aE)(cz:N.aE<=1048576)(bq:0<=N.ready)(bv:N.ready<=1048576)(hL:OwnSn lo w al cl l):
  Calls Tryz.prog 173 #[.agg (qhV s N dr al l.length cl),.func (.func f) #[] #[]] w λe w'=>FH w.heap.size w' e (By s N (l.filter pk))/\Below w.heap.size w w':=by
 have HL:Hid (OwnSn lo w al cl l):=hL;have cS:=ak.ba;have cT:=ak.bd;have cN:=ak.bm;have cQ:=ak.bn;have a9:Hid (DR s):=ak;clear hL ak;obtain⟨F,HF⟩:∃F,Hid (l.filter pk=F):=⟨_,rfl⟩;have bm:F.length<=1048576:=by rw[<-HF.ab];exact AH (dV _ _) hl
 rw[HF.ab];obtain⟨W0,b0,t0,t1,bw,bx,a5⟩:=DH w (.cells (qhV s N dr al l.length cl) 145) (.cells qzA 45);have T0:Hid _:=t0;have T1:Hid _:=t1;clear t0 t1;go_enter Tryz.func173,Tryz.ntmps173
 go_upto_region 1 with fail
 clear b0;have bn:w.heap.size<W0.heap.size:=qo
 obtain⟨z0,z1,z2,z3,z4,z5,z6,z7⟩:=qc8 T0.ab;have z8:=AJ T0.ab 8;have z9:=AJ T0.ab 9;have b4:=AJ T0.ab 10;have b5:=AJ T0.ab 11;have b6:=AJ T0.ab 12;have b7:=AJ T0.ab 13
 go_cut [6,7] (λva vb wx=>∃w1:World,va=Po (some ⟨W0.heap.size,0,none⟩)/\vb=In i6 N.aE/\(W0.alloc (.cells (qsV s) 34)).drew=w1/\w1=wx)
 case first=>
  go_region
  all_goals
   go_wp2_with fail
   go_meet;exact⟨_,rfl,rfl,rfl,rfl⟩
 obtain⟨w1,rfl,rfl,aw,rfl⟩:=hcut;clear z0 z1 z2 z3 z4 z5 z6 z7 z8 z9 b4 b5 b6 b7;have V1:Hid (qBl w1 (W0.heap.size) (qsV s) 34):=by unfold Hid;rw[<-aw];exact dm W0 _
 have af:Below W0.heap.size W0 w1:=by rw[<-aw];exact⟨rfl,rfl,rfl,by show W0.heap.size<=(W0.heap.push _).size;simp,λk hk=>gt W0 _ hk⟩
 have S1:Hid _:=AK af T0.ab;have R1:Hid _:=AK af T1.ab;have Y:=a5.trans (af.mono a5.size);have bo:W0.heap.size<w1.heap.size:=(AB V1.ab).1;obtain⟨p,a6,cR⟩:∃p,W0.heap.size=p/\w.heap.size+1+1<=p:=⟨_,rfl,bw⟩;rw[a6]at V1 bo;rw[a6];clear aw af T0 T1 a5 a6 bw bx bn W0;have b3:=AJ S1.ab 19
 go_wp2_with fail
 refine(Oa f pk hf HC l lo al cl _ hl (Ai HL.ab Y AG)).mono ?_;rw[HF.ab];rintro e w2 ⟨aF,cF,rfl,bk,aj⟩;have c5:=aj.size;have ci:=Y.size;have bK:Hid (OwnSn w1.heap.size w2 aF cF F):=bk;have S2:Hid _:=AK aj S1.ab;have R2:Hid _:=AK aj R1.ab;have V2:Hid _:=AK aj V1.ab bo;have z:=Y.trans (aj.mono Y.size);clear b3 S1 R1 V1 Y aj bk;have v4:=AJ V2.ab 4;have v6:=AJ V2.ab 6;have aM:=AJ V2.ab 2;rcases gc s.aH with J|J
 ·have aD:Hid (s.aH=true):=J
  have v2:w2.cell? ⟨p,2,none⟩=some (.bool true):=by rw[<-J];exact aM
  clear J aM
  go_wp2_with (first
   |(refine qAM R2.ab AV ?_;intro wf hz on;have RF:Hid (qBl wf ((w.heap.size+1)) qzA 45):=hz;have BF:=z.trans (on.below.mono qo);obtain⟨p0,p1,p2,p3,p4,p5,p6,p7⟩:=qc8 RF.ab;clear hz on))
  refine dF (v:=.tuple #[.agg qzA,Bo false]) (by simp[results,Tryz.results173,go_sem,p0,p1,p2,p3,p4,p5,p6,p7]) rfl ⟨by rw[Jh s N F aD.ab];exact C7 _ _,BF⟩
 have aD:Hid (s.aH=false):=J;have v2:w2.cell? ⟨p,2,none⟩=some (.bool false):=by rw[<-J];exact aM
 clear J aM
 ·by_cases am:F.length=0
  ·have be:((F.length:Int)==0)=true:=by simp[am]
   go_wp2_with (first
    |(refine qAM R2.ab AV ?_;intro wf hz on;have RF:Hid (qBl wf ((w.heap.size+1)) qzA 45):=hz;have BF:=z.trans (on.below.mono qo);obtain⟨p0,p1,p2,p3,p4,p5,p6,p7⟩:=qc8 RF.ab;clear hz on))
   refine dF (v:=.tuple #[.agg qzA,Bo false]) (by simp[results,Tryz.results173,go_sem,p0,p1,p2,p3,p4,p5,p6,p7]) rfl ⟨by rw[PG s N F am];exact C7 _ _,BF⟩
  ·have be:((F.length:Int)==0)=false:=by simp[am]
   by_cases cM:N.aE<s.au
   ·go_wp2_with (first
     |(refine qAM R2.ab AV ?_;intro wf hz on;have RF:Hid (qBl wf ((w.heap.size+1)) qzA 45):=hz;have BF:=z.trans (on.below.mono qo);obtain⟨p0,p1,p2,p3,p4,p5,p6,p7⟩:=qc8 RF.ab;clear hz on))
    refine dF (v:=.tuple #[.agg qzA,Bo false]) (by simp[results,Tryz.results173,go_sem,p0,p1,p2,p3,p4,p5,p6,p7]) rfl ⟨by rw[PF s N F qo];exact C7 _ _,BF⟩
   ·by_cases cL:N.aE<s.au+s.aG
    ·go_wp2_with (first
      |(refine dB rfl 145 (.tmp 2) rfl w.heap.size rfl 145 (qhV s N dr al l.length cl) (0,0) _ S2.ab Tryz.underlying145 rfl Ag ?_))
     refine(LO s N dr al l.length cl 1 _).mono ?_;rintro e w3 ⟨rfl,O⟩;have c6:=O.size;have R3:Hid _:=AK O R2.ab;have aq:=z.trans (O.mono z.size);clear R2 S2 V2 O z v2 v4 v6
     go_wp2_with (first
      |(refine qAM R3.ab AV ?_;intro wf hz on;have RF:Hid (qBl wf ((w.heap.size+1)) (qgV s.name s.ag 1 0 0 false (Sl none 0 0) false) 45):=hz;have BF:=aq.trans (on.below.mono qo);obtain⟨p0,p1,p2,p3,p4,p5,p6,p7⟩:=qc8 RF.ab;clear hz on))
     refine dF (v:=.tuple #[.agg (qgV s.name s.ag 1 0 0 false (Sl none 0 0) false),Bo true]) (by simp[results,Tryz.results173,go_sem,p0,p1,p2,p3,p4,p5,p6,p7]) rfl ⟨by rw[PE s N F aD.ab am qo qo];exact⟨{a0 s with ax:=1},none,0,rfl,World.ownsRow_nil _ _ _ _,λA' h=>dj h⟩,BF⟩
    ·obtain⟨G,HG⟩:∃G,Hid (F.filter (λx=>Em s x.c N.ready)=G):=⟨_,rfl⟩
     have bX:G.length<=1048576:=by rw[<-HG.ab];exact AH (dV _ _) bm
     obtain⟨o,HO⟩:∃o,Hid (Bn s N.ready G=o):=⟨_,rfl⟩;have HK:Hid (∀W:World,OwnSn w1.heap.size W aF cF F->Calls Tryz.prog 176 #[Sl aF F.length cF,.func (.func 243) #[.agg (qhV s N dr al l.length cl)] #[]] W λe w'=>∃ao co,e=.returned (Sl ao G.length co)/\OwnSn W.heap.size w' ao co G/\Below W.heap.size W w'):=λW h=>by have:=VT 243 (.agg (qhV s N dr al l.length cl)) (λx=>Em s x.c N.ready) (Gu qk) (λx W=>LE s N dr al l.length cl x W bq bv a9.ab) F w1.heap.size aF cF W bm h;rw[HG.ab]at this;exact this
     have HX:Hid (∀(W:World) (a7:Nat) (ao:qO) (co:Nat),OwnSn a7 W ao co G->Calls Tryz.prog 172 #[.agg (qhV s N dr al l.length cl),Sl ao G.length co] W λe w'=>FH W.heap.size w' e o/\Below W.heap.size W w'):=λW a7 ao co h=>by have:=KE s N dr al l.length cl G a7 ao co W bX bq bv a9.ab h;rw[HO.ab]at this;exact this
     go_upto_region 7 with fail
     clear v2 v4 v6;refine AU 8 ?_;apply AL
     ·intro V W K A Z hd H hK
      simp only[pA]at H;subst H
      go_wp2_with (first
       |(refine dB rfl 145 (.tmp 2) rfl w.heap.size rfl 145 (qhV s N dr al l.length cl) (0,0) _ (AK Z S2.ab) Tryz.underlying145 rfl Ag ?_))
      exact hK.ab _ brf
     refine qA0 qP ?_
     apply qA0
     ·intro V W K A Z hd H hK
      simp only[pA]at H;subst H
      go_wp2_with (first
       |(refine dB rfl 145 (.tmp 2) rfl w.heap.size rfl 145 (qhV s N dr al l.length cl) (0,0) _ (AK Z S2.ab) Tryz.underlying145 rfl Ag ?_))
      exact hK
     refine qA0 qP ?_
     refine AZ (λv W=>∃ao co,v=.slice ao G.length co/\OwnSn w2.heap.size W ao co G) (λv W W2 ⟨ao,co,h1,h2⟩ hb=>⟨ao,co,h1,Ai h2 hb AG⟩) ?_ ?_
     ·intro V W K A Z hd H hK
      simp only[pA,qv (hd 1),qv (hd 3)]at H;subst H
      go_wp2_with fail
      refine(HK.ab W (Ai bK.ab Z AG)).mono ?_;rintro e w3 ⟨ao,co,rfl,h2,O⟩;go_wp2;exact hK.ab _ _ O ⟨ao,co,rfl,BC h2 Z.size⟩
     refine AZ (λv W=>∃(A:Ac) (M:qO) (ce:Nat),v=.tuple #[.agg (qaV A M ce),Bo o.isSome]/\Hid (W.ownsRow w2.heap.size 88 2 (Sl M A.aB.length ce) A.aB.length (D7 A.aB))/\Hid (∀A',o=some A'->A=A')) (λv W W2 ⟨A,M,ce,h1,h2,h3⟩ hb=>⟨A,M,ce,h1,Ai h2.ab hb AG,h3⟩) ?_ ?_
     ·intro V W K A Z hd H hK
      have d4:=hd 4;simp only[pA,qv (hd 0)]at H;generalize V 4=x4 at d4 H;subst H;obtain⟨ao,co,rfl,h2⟩:=d4
      go_wp2_with fail
      refine(HX.ab W w2.heap.size ao co h2).mono ?_;rintro e w3 ⟨⟨A,M,ce,rfl,h3,h4⟩,O⟩;go_wp2;exact hK.ab _ _ O ⟨A,M,ce,rfl,BC h3.ab Z.size,h4⟩
     refine AZ (λv W=>∃(A:Ac) (M:qO) (ce:Nat),v=.agg (qaV A M ce)/\Hid (W.ownsRow w2.heap.size 88 2 (Sl M A.aB.length ce) A.aB.length (D7 A.aB))/\Hid (∀A',o=some A'->A=A')) (λv W W2 ⟨A,M,ce,h1,h2,h3⟩ hb=>⟨A,M,ce,h1,Ai h2.ab hb AG,h3⟩) ?_ ?_
     ·intro V W K A Z hd H hK
      have d5:=hd 5;simp only[pA]at H;generalize V 5=x5 at d5 H;subst H;obtain⟨A,M,ce,rfl,h3,h4⟩:=d5;go_wp2;exact hK.ab _ _ brf ⟨A,M,ce,rfl,h3,h4⟩
     apply qA0
     ·intro V W K A Z hd H hK
      have d5:=hd 5;simp only[pA]at H;generalize V 5=x5 at d5 H;subst H;obtain⟨A,M,ce,rfl,h3,h4⟩:=d5;go_wp2;exact hK
     intro V W A Z hS H;have d4:=hS 4;have d5:=hS 5;have d6:=hS 6;simp only[pA,qv (hS 0),qv (hS 1),qv (hS 2),qv (hS 3),qv (hS 7)]at H;clear hS;generalize V 4=x4 at d4 H;generalize V 5=x5 at d5 H;generalize V 6=x6 at d6 H;subst H;simp only[dA,dN];obtain⟨A,M,ce,rfl,aS,HA⟩:=d6;have aq:=z.trans (Z.mono z.size);have R3:Hid _:=AK Z R2.ab;have O3:Hid _:=BC aS.ab (show w.heap.size+1+1<=w2.heap.size by omega);have c7:=Z.size;clear R2 S2 V2 Z z d5 d4 aS HK HX
     go_wp2_with (first
      |(refine qAM R3.ab AV ?_;intro wf hz on;have RF:Hid (qBl wf ((w.heap.size+1)) (qaV A M ce) 45):=hz;have BF:=aq.trans (on.below.mono qo);have OF:Hid _:=BC (Dv O3.ab (λq hq _=>on.aL q qo)) (show w.heap.size<=w.heap.size+1+1 by omega);obtain⟨p0,p1,p2,p3,p4,p5,p6,p7⟩:=qc8 RF.ab;clear hz on))
     refine dF (v:=.tuple #[.agg (qaV A M ce),Bo o.isSome]) (by simp[results,Tryz.results173,go_sem,p0,p1,p2,p3,p4,p5,p6,p7]) rfl ⟨by rw[PH s N F aD.ab am qo qo,HG.ab,HO.ab];exact⟨A,M,ce,rfl,OF,HA.ab⟩,BF⟩
end
end Go.Proofs.YtbceafpodamnfaaGreatDoor
