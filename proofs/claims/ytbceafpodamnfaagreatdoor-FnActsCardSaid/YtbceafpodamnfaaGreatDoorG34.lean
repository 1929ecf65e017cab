import Derived.Test.YtbceafpodamnfaaGreatDoorG29
import Derived.Test.YtbceafpodamnfaaGreatDoorG33
set_option linter.all false
set_option maxHeartbeats 8000000
set_option maxRecDepth 100000
namespace Go.Proofs.YtbceafpodamnfaaGreatDoor
section
open Go.RowKit Go.Sort
def NF(sv:qB)(c:Cp):Bool:=c.aa.toList==sv.toList&&(!c.au&&c.ax==3)
theorem LN(F:Int)(sv:qB):∀(l:List Cp) (n:Cnt),(l.foldl (λn c=>CM F sv c n) n).ready=n.ready+(l.countP (NF sv):Int)
 |[],n=>by simp
 |c::l,n=>by
  rw[gE,LN F sv l,fa]
  have:(CM F sv c n).ready=n.ready+(if NF sv c=true then 1 else 0:Nat):=by
   unfold CM Cu G8 NF;cases c.aa.toList==sv.toList<;>cases c.au<;>cases c.ax==3<;>simp
  rw[this];omega
theorem M1(F:Int)(sv:qB)(l:List Cp):(BM F sv l l.length).ready=(l.countP (NF sv):Int):=by
 unfold BM;rw[gR,LN];simp[Cnt.none]
theorem Jp(p:Cp->Bool):∀(l:List Cp) (i:Nat) (c d:Cp),l[i]?=some c->(l.set i d).countP p+(if p c=true then 1 else 0)=l.countP p+(if p d=true then 1 else 0)
 |[],i,c,d,h=>by simp at h
 |x::l,0,c,d,h=>by
  obtain rfl:=dg h;rw[List.set_cons_zero,fa,fa];omega
 |x::l,i+1,c,d,h=>by
  have:=Jp p l i c d (by simpa using h);rw[List.set_cons_succ,fa,fa];omega
theorem Pw{F:Int}{sv:qB}{l:List Cp}{i:Nat}{c:Cp}{v:Int}(J:l[i]?=some c)(M:c.aa=sv)(Z:c.au=false):(BM F sv (l.set i (Bu v c)) (l.set i (Bu v c)).length).ready=(BM F sv l l.length).ready - (if c.ax=3 then 1 else 0):=by
 rw[M1,M1];have h:=Jp (NF sv) l i c (Bu v c) J;have W:NF sv (Bu v c)=false:=by simp[NF,Bu]
 have Y:NF sv c=(c.ax==3):=by simp[NF,M,Z]
 rw[W,Y]at h
 by_cases H:c.ax=3
 ·simp[H]at h ⊢
  omega
 ·simp[H]at h ⊢
  omega
theorem Oy{l l':List Cp}(h:l.map Cv=l'.map Cv)(sv:qB)(num:Int):IX l sv num=IX l' sv num:=by
 have e:isC sv num=(λk:ByteArray × Int=>k.1.toList==sv.toList&&k.2==num) ∘ Cv:=rfl;unfold IX FI;rw[e,<-List.findIdx?_map,h,List.findIdx?_map]
theorem find_at{l:List Cp}{sv:qB}{num:Int}{i:Nat}(J:(l.find? (isC sv num)).isSome=true)(H:IX l sv num=(i:Int)):∃c,l[i]?=some c/\l.find? (isC sv num)=some c/\c.aa=sv/\c.ai=num:=by
 obtain⟨c,F⟩:=Option.isSome_iff_exists.1 J;obtain⟨W,M,Y⟩:=Co F;have:W=i:=by unfold IX at H;rw[Y]at H;omega
 subst this;exact⟨c,M,F,isC_iff.1 (fN F)⟩
theorem RowN.cap{w:World}{N:Nat}{e:TypeId}{size:Nat}{ao:qO}{n cap:Nat}{xs:qL}(h:RowN w N e size ao n cap xs):n<=cap:=by
 rcases h with⟨_,F,H,_⟩|⟨_,_,_,_,h,_⟩
 ·omega
 ·exact h
theorem R7{s:Svc}{c:Cp}{r:Int}(h:LE s c r=true):c.au=false:=by
 unfold LE at h;cases F:c.au
 ·rfl
 ·rw[F]at h;simp at h
theorem R8{B:Bk}{s:Svc}{sv:qB}{v:Int}{es:List En}{l:List Cp}{j:Nat}{en:En}{c:Cp}(F:es[j]?=some en)(hf:l.find? (isC sv en.ai)=some c)(J:LE s c (BM s.ar sv l l.length).ready=true):BL B s sv v (es.drop j) l=BL B s sv v (es.drop (j+1)) (Cm sv v l en.ai):=by
 obtain⟨H,e⟩:=AC F;rw[eH H,e];show(match l.find? (isC sv en.ai) with|some c=>_|none=>_)=_;rw[hf];show(if FY _ s sv c then _ else _)=_;rw[mayL_R];show(if LE s c (BM s.ar sv l l.length).ready then _ else _)=_;rw[J];rfl
theorem marks_no{B:Bk}{s:Svc}{sv:qB}{v:Int}{es:List En}{l:List Cp}{j:Nat}{en:En}{c:Cp}(F:es[j]?=some en)(hf:l.find? (isC sv en.ai)=some c)(J:LE s c (BM s.ar sv l l.length).ready=false):BL B s sv v (es.drop j) l=none:=by
 obtain⟨H,e⟩:=AC F;rw[eH H,e];show(match l.find? (isC sv en.ai) with|some c=>_|none=>_)=_;rw[hf];show(if FY _ s sv c then _ else _)=_;rw[mayL_R];show(if LE s c (BM s.ar sv l l.length).ready then _ else _)=_;rw[J];rfl
theorem Dz(B:Bk)(s:Svc)(a1 a2 a3:qO)(c1 c2 c3 n1 n2 n3:Nat)(w:World)(Y:Hid (B.af.length=n1))(Z:Hid (B.ah.length=n2))(W:Hid (B.ak.length=n3))(H:B.ah.length<=1048576)(F:Hid (Di B.ah))(M:Hid (B.ah.length<=c2))(hC:SlC w a2 B.ah)(N:Cnt)(J:Hid (N=BM s.ar s.name B.ah B.ah.length)):
  Calls Tryz.prog 167 #[.agg #[.int .i64 B.aj,.slice a1 n1 c1,.slice a2 n2 c2,.slice a3 n3 c3],.agg (qsV s)] w λe w'=>e=.returned (.agg (qtV N))/\Below w.heap.size w w':=by
 rw[<-Y.O,<-Z.O,<-W.O];exact F5 B s a1 a2 a3 c1 c2 c3 w H F M hC N J
def EndIs(N g:Nat)(A:Ac)(ae:qO)(ce:Nat)(B X:Bk)(s:Svc)(k:Nat)(e:Ending)(w':World):Prop:=
 (∃L,BL B s A.aa X.aj A.aw B.ah=some L/\e=.returned (.tuple #[])/\WkAt w' N g A ae ce {X with ah:=L} k (C5 B A))\/
 (BL B s A.aa X.aj A.aw B.ah=none/\e=.panicked (Mc 5))
theorem end_any(A:Ac)(ae:qO)(ce:Nat)(B X:Bk)(s:Svc)(N g k:Nat)(w:World)(bY:Hid (X.ah=B.ah))(eM:X.aJ)(e3:Hid (Di X.ah))(hl:A.aw.length<=1048576)(hN:N<=w.heap.size)(hk:X.af[k]?=some s)(e5:Hid (s.name=A.aa))(fl:0<=s.av)(ev:s.av<=10)(e7:0<=s.aG)(ee:s.aG<=10)(ex:Hid (A.aw.all (Cr B A)=true))(hS:WkAt w N g A ae ce X k (C5 B A)):
  Calls Tryz.prog 188 #[.pointer (qad g)] w λe w'=>EndIs N g A ae ce B X s k e w'/\Below N w w':=by
 have cL:=GR hS;obtain⟨dp,c8,_⟩:=eM;obtain⟨b1,b2,b3,d1,Y,d3,ve,cf,hg,an,ay⟩:=hS;have c9:k<X.af.length:=(AC hk).1;obtain⟨g1,e1,f8,aL⟩:=an.af.some (by omega);subst e1;obtain⟨n1,cg⟩:∃n,Hid (X.af.length=n):=⟨_,rfl⟩;obtain⟨n2,ag⟩:∃n,Hid (X.ah.length=n):=⟨_,rfl⟩;obtain⟨n3,ci⟩:∃n,Hid (X.ak.length=n):=⟨_,rfl⟩;obtain⟨ne,a6⟩:∃n,Hid ((C5 B A).length=n):=⟨_,rfl⟩;obtain⟨r2,r3⟩:RowN w N 76 7 b2 X.ah.length Y (Ar X.ah)/\RowN w N 90 2 b3 X.ak.length d3 (CN X.ak):=⟨an.ah,an.ak⟩;clear an;rw[cg.O]at aL hg c9 dp;rw[ag.O]at r2 hg;rw[ci.O]at r3 hg;rw[a6.O]at ay;have HK:Hid _:=hk;have HG:Hid _:=hg;have cm:Hid (RowIs w 34 13 g1 n1 d1 (Ab X.af)):=aL;have aA:=BU r2;have fr:=BU r3;have aH:Hid (w.ownsRow N 3 1 ve ne (CP (C5 B A))):=ay;have cv:g<w.heap.size:=(AB hg).1;have da:g1<w.heap.size:=aL.lt;clear hk hg aL r2 r3 ay;have bZ:Hid (ne=A.aw.length):=by unfold Hid;rw[<-a6.O,GQ]
 have ds:Hid (SvcAt w g1 (k*13) s):=cm.O.bC HK.O;have co:Hid (X.ah.length<=Y):=by have:=aA.O.cap;unfold Hid;rw[ag.O];exact this
 obtain⟨C,HC⟩:∃C,Hid (C=BM s.ar s.name X.ah X.ah.length):=⟨_,rfl⟩;have fv:=Jy;go_enter Tryz.func188,Tryz.ntmps188
 go_upto_region 1 with(go_at_call 247;refine(DT A ae ce X.aj g g1 n1 d1 k _ _ _ _ c9 dp HG.O).mono ?_;rintro e w1 ⟨rfl,bo⟩;have hq:=ds.O.below bo da;unfold SvcAt at hq;obtain⟨q0,q1,q2,q3,q4,q5,q6,q7,q8,q9,eV,eg,e6⟩:=hq;have T0:Hid _:=dm w1 (.cells ((qsV s):Array Value) 34);have bR:=AN w1 (.cells ((qsV s):Array Value) 34);obtain⟨wa,cq⟩:∃W,w1.alloc (.cells ((qsV s):Array Value) 34)=W:=⟨_,rfl⟩;rw[cq]at T0 bR)
 clear cq q0 q1 q2 q3 q4 q5 q6 q7 q8 q9 eV eg e6;have aG:=bo.trans (bR.mono bo.size);have aM:Hid _:=AK aG HG.O cv;have aT:g<wa.heap.size:=AF cv aG.size;have aa:w1.heap.size<wa.heap.size:=(AB T0.O).1
 have bx:Hid (SlC wa b2 X.ah):=by
  have:=(aA.O.below aG);rw[<-ag.O]at this;exact this.bT
 clear bo bR;refine AV 7 (by kernel_rfl) (by kernel_rfl) ?_;apply AL
 ·intro V W K A F M H hK
  simp only[pA]at H;clear M;obtain rfl:=H;go_wp2;exact hK.O _ brf
 apply AL
 ·intro V W K A F M H hK
  have d0:V 0=_:=M 0 (by kernel_rfl);simp only[pA,d0]at H;clear M d0;obtain rfl:=H;go_wp2;exact hK.O _ brf
 apply AL
 ·intro V W K A F M H hK
  have d1:V 1=_:=M 1 (by kernel_rfl);simp only[pA,d1]at H;clear M d1;obtain rfl:=H;go_wp2;exact hK.O _ brf
 apply AL
 ·intro V W K A F M H hK
  have Y:V 2=_:=M 2 (by kernel_rfl);simp only[pA,Y]at H;clear M Y;obtain rfl:=H;have e8:=AJ (AK F aM.O aT) 8 rfl;have e9:=AJ (AK F aM.O aT) 9 rfl;have cl:=AJ (AK F aM.O aT) 10 rfl;have ha:=AJ (AK F aM.O aT) 11 rfl;go_wp2;exact hK.O _ brf
 apply AL
 ·intro V W K A F M H hK
  simp only[pA]at H;clear M;obtain rfl:=H;have t0:=AJ (AK F T0.O aa) 0 rfl;have t1:=AJ (AK F T0.O aa) 1 rfl;have t2:=AJ (AK F T0.O aa) 2 rfl;have t3:=AJ (AK F T0.O aa) 3 rfl;have t4:=AJ (AK F T0.O aa) 4 rfl;have t5:=AJ (AK F T0.O aa) 5 rfl;have t6:=AJ (AK F T0.O aa) 6 rfl;have t7:=AJ (AK F T0.O aa) 7 rfl;have t8:=AJ (AK F T0.O aa) 8 rfl;have t9:=AJ (AK F T0.O aa) 9 rfl;have e0:=AJ (AK F T0.O aa) 10 rfl;have ey:=AJ (AK F T0.O aa) 11 rfl;have eX:=AJ (AK F T0.O aa) 12 rfl;go_wp2;exact hK.O _ brf
 apply AL
 ·intro V W K A F M H hK
  have d3:V 3=_:=M 3 (by kernel_rfl);have d4:V 4=_:=M 4 (by kernel_rfl);simp only[pA,d3,d4]at H;clear M d3 d4;obtain rfl:=H
  go_wp2_with fail
  refine(Dz X s _ _ b3 d1 Y d3 n1 n2 n3 _ cg ag ci c8 e3 co (bx.O.below F) C HC).mono ?_;rintro e w3 ⟨rfl,bS⟩;go_wp2;exact hK.O _ bS
 apply AL
 ·intro V W K A F M H hK
  have d5:V 5=_:=M 5 (by kernel_rfl);simp only[pA,d5]at H;clear M d5;obtain rfl:=H;go_wp2;exact hK.O _ brf
 intro V W A F hS H;have d0:V 0=_:=hS 0 (by omega);have d1:V 1=_:=hS 1 (by omega);have Y:V 2=_:=hS 2 (by omega);have d3:V 3=_:=hS 3 (by omega);have d4:V 4=_:=hS 4 (by omega);have d5:V 5=_:=hS 5 (by omega);have d6:V 6=_:=hS 6 (by omega);simp only[pA,d0,d1,Y,d3,d4,d5,d6]at H;clear hS d0 d1 Y d3 d4 d5 d6;obtain rfl:=H;simp only[dl,dF];have ax:Hid _:=AK F aM.O aT;have a4:Hid _:=AK F T0.O aa;have aw:=aG.trans (F.mono aG.size);have bB:=GR (cL.O.below aw);obtain⟨ao,de,b7,aE⟩:=I6 aH.O;subst b7;have f2:ne<=1048576:=by have:=bZ.O;omega
 have cB:C.ready=(BM s.ar A.aa X.ah X.ah.length).ready:=by rw[HC.O,e5.O]
 have eT:Hid _:=cB;have bb:Hid (W.ownsRow N 3 1 (.slice ao ne de) ne (CP (C5 B A))):=CK aH.O aw;clear aE cB aM bx aT aa aG F T0 cm aA fr aH HG cL ds co;have et:=AJ ax.O 13 rfl;go_wp2;clear et ax
 go_loopw [3,23] (λrv iv wr=>∃(j:Nat) (l:List Cp),j<=ne/\iv=.int .i64 j/\rv=.int .i64 (BM s.ar A.aa l l.length).ready/\Hid (WkAt wr N g A ae ce {X with ah:=l} k (C5 B A))/\Hid (BL B s A.aa X.aj (A.aw.drop j) l=BL B s A.aa X.aj A.aw B.ah)/\Hid (l.map Cv=B.ah.map Cv)/\Hid (qBl wr (w1.heap.size) (qsV s) 34)/\Hid (wr.ownsRow N 3 1 (.slice ao ne de) ne (CP (C5 B A)))/\Below N w wr) (λ_ iv _=>ne - (intOf iv).toNat)
 case atStart=>exact⟨0,X.ah,AI _,rfl,by rw[eT.O],bB,by unfold Hid;rw[dF,bY.O],by unfold Hid;rw[bY.O],a4,bb,aw.mono hN⟩
 case round=>
  obtain⟨j,l,hj,rfl,rfl,b8,bN,bi,Z,b5,hb⟩:=hrel;clear bB a4 bb aw;obtain⟨r,aI⟩:∃r,Hid (r=(BM s.ar A.aa l l.length).ready):=⟨_,rfl⟩;rw[<-aI.O];have bU:l.length=X.ah.length:=by have:=em List.length bi.O;simp only[fw]at this;rw[this,bY.O]
  have br:=E5 s.ar A.aa l l.length (AG _);rw[bU,<-bU]at br;have ft:0<=r:=by rw[aI.O];exact br.2.2.1
  have aL:r<=1048576:=by rw[aI.O];have:=br.2.2.2.1;omega
  have fk:Hid _:=bU;clear br bU
  by_cases cM:j<ne
  ·obtain⟨en,bX⟩:∃x,A.aw[j]?=some x:=⟨A.aw[j]'(by have:=bZ.O;omega),by simp⟩
   obtain⟨J,c0,c7,a9,cz,ch⟩:=O8 ex.O bX;obtain⟨c,bq,c6,dr,e4⟩:=find_at (l:=l) (sv:=A.aa) (num:=en.ai) (i:=J) (by rw[SI bi.O,cz];rfl) (by rw[Oy bi.O];exact a9);have az:J<l.length:=(AC bq).1;obtain⟨b1,b2,b3,d1,Y,d3,vq,_,hg,an,ay⟩:=b8.O;obtain⟨g2,e2,aK,b0⟩:=an.ah.some (by show l.length≠0;omega);subst e2;obtain⟨n2,ag⟩:∃n,Hid (l.length=n):=⟨_,rfl⟩;have aA:Hid (RowIs wr 76 7 g2 n2 Y (Ar l)):=by have:=b0;rw[show({X with ah:=l}:Bk).ah.length=n2 from ag.O]at this;exact this
   rw[a6.O]at ay;obtain⟨g7,hm,b7,aE⟩:=I6 b5.O;injection b7 with hv1 hv2 hv3
   clear hv2;subst hv1 hv3
   obtain⟨ge,ez,hh,cN⟩:∃ge,ao=some ⟨ge,0,none⟩/\N<=ge/\RowIs wr 3 1 ge ne de (CP (C5 B A)):=by
    rcases aE with h|h
    ·omega
    ·exact h
   subst ez;have HG:Hid (qBl wr g #[.string A.aa,.int .i64 A.aF,.int .i64 A.am,.int .i64 A.av,.int .i64 A.ay,.bool A.az,.slice ae A.aw.length ce,.bool A.drop,.int .i64 X.aj,.slice b1 X.af.length d1,.slice (qad g2) n2 Y,.slice b3 X.ak.length d3,.int .i64 (k:Int),vq] 227):=by have:=hg;rw[show({X with ah:=l}:Bk).ah.length=n2 from ag.O]at this;exact this
   have ca:Hid (RowN wr N 34 13 b1 X.af.length d1 (Ab X.af)/\RowN wr N 90 2 b3 X.ak.length d3 (CN X.ak)):=⟨an.af,an.ak⟩;have aH:Hid (wr.ownsRow N 3 1 vq ne (CP (C5 B A))):=ay;have cK:g<wr.heap.size:=(AB hg).1;have bl:g2<wr.heap.size:=b0.lt;have af:w1.heap.size<wr.heap.size:=(AB Z.O).1;have dq:N<=wr.heap.size:=by omega
   have cb:Hid (CpAt wr g2 (J*7) c):=aA.O.cpAt bq;have fs:=cN.cell (j:=j) (u:=.int .i64 (J:Int)) (by unfold CP;rw[eh,ch];rfl);obtain⟨mb,bm⟩:∃b,Hid (LE s c r=b):=⟨_,rfl⟩;rw[ag.O]at az;have g6:n2<=1048576:=by rw[<-ag.O,fk.O];exact c8
   have aW:Hid _:=bq;have cO:Hid _:=c6;have cd:Hid _:=bX;have ea:Hid _:=dr;have eb:Hid (IX l A.aa en.ai=(J:Int)):=by unfold Hid;rw[Oy bi.O];exact a9
   have cl:=AJ HG.O 10 rfl;clear bq c6 dr e4 c7 a9 cz ch an b0 hg ay aE cN bX b8
   go_upto_region 6 with fail
   clear fs cl;refine AV 6 (by kernel_rfl) (by kernel_rfl) ?_;apply AL
   ·intro V W K A F M H hK
    simp only[pA]at H;clear M;obtain rfl:=H;have t0:=AJ (AK F Z.O af) 0 rfl;have t1:=AJ (AK F Z.O af) 1 rfl;have t2:=AJ (AK F Z.O af) 2 rfl;have t3:=AJ (AK F Z.O af) 3 rfl;have t4:=AJ (AK F Z.O af) 4 rfl;have t5:=AJ (AK F Z.O af) 5 rfl;have t6:=AJ (AK F Z.O af) 6 rfl;have t7:=AJ (AK F Z.O af) 7 rfl;have t8:=AJ (AK F Z.O af) 8 rfl;have t9:=AJ (AK F Z.O af) 9 rfl;have e0:=AJ (AK F Z.O af) 10 rfl;have ey:=AJ (AK F Z.O af) 11 rfl;have eX:=AJ (AK F Z.O af) 12 rfl;go_wp2;exact hK.O _ brf
   apply AL
   ·intro V W K A F M H hK
    simp only[pA]at H;clear M;obtain rfl:=H;go_wp2;exact hK.O _ brf
   apply AL
   ·intro V W K A F M H hK
    have d1:V 1=_:=M 1 (by kernel_rfl);simp only[pA,d1]at H;clear M d1;obtain rfl:=H;go_wp2;exact hK.O _ brf
   apply AL
   ·intro V W K A F M H hK
    have Y:V 2=_:=M 2 (by kernel_rfl);simp only[pA,Y]at H;clear M Y;obtain rfl:=H;have hq:=cb.O.below F bl;unfold CpAt at hq;obtain⟨q0,q1,q2,q3,q4,q5,q6⟩:=hq;go_wp2;exact hK.O _ brf
   apply AL
   ·intro V W K A F M H hK
    simp only[pA]at H;clear M;obtain rfl:=H;go_wp2;exact hK.O _ brf
   refine AW (λv W=>v=.bool mb) (λ_ _ _ h _=>h) ?_ ?_
   ·intro V W K A F M H hK
    have d0:V 0=_:=M 0 (by kernel_rfl);have d3:V 3=_:=M 3 (by kernel_rfl);have d4:V 4=_:=M 4 (by kernel_rfl);simp only[pA,d0,d3,d4]at H;clear M d0 d3 d4;obtain rfl:=H
    go_wp2_with fail
    refine(P7 s c r _ ft aL fl ev e7 ee).mono ?_;rintro e w3 ⟨rfl,bS⟩;rw[bm.O];go_wp2;exact hK.O _ _ bS rfl
   intro V W A F hS H;have d0:V 0=_:=hS 0 (by omega);have d1:V 1=_:=hS 1 (by omega);have Y:V 2=_:=hS 2 (by omega);have d3:V 3=_:=hS 3 (by omega);have d4:V 4=_:=hS 4 (by omega);have d5:(λv W=>v=.bool mb) (V 5) W:=hS 5 (by omega);simp only[pA,d0,d1,Y,d3,d4]at H;clear hS d0 d1 Y d3 d4;generalize V 5=x5 at d5 H;obtain rfl:=H;simp only[dl,dF];obtain rfl:=d5;have ax:Hid _:=AK F HG.O cK;have a4:Hid _:=AK F Z.O af;have am:Hid (RowIs W 76 7 g2 n2 Y (Ar l)):=aA.O.below F bl;have aF:Hid (RowN W N 34 13 b1 X.af.length d1 (Ab X.af)/\RowN W N 90 2 b3 X.ak.length d3 (CN X.ak)):=⟨ca.O.1.below F,ca.O.2.below F⟩;have dx:Hid (W.ownsRow N 3 1 vq ne (CP (C5 B A))):=CK aH.O F;have bb:Hid (W.ownsRow N 3 1 (.slice (qad ge) ne de) ne (CP (C5 B A))):=CK b5.O F;have aw:=hb.trans (F.mono dq);have el:Hid (CpAt W g2 (J*7) c):=cb.O.below F bl;clear HG Z aA ca aH b5 cb cK bl af dq hb F;cases mb
   ·go_wp2_with (go_at_call 183;refine(Ce 5 _).mono ?_;rintro e w2 ⟨rfl,rfl⟩)
    refine⟨rfl,.inr ⟨?_,rfl⟩,aw⟩;rw[<-bN.O];exact marks_no cd.O cO.O (by rw[<-aI.O];exact bm.O)
   have bO:Hid (c.au=false):=R7 bm.O
   have bM:Hid (BL B s A.aa X.aj (A.aw.drop (j+1)) (l.set J (Bu X.aj c))=BL B s A.aa X.aj A.aw B.ah):=by
    unfold Hid;rw[<-bN.O,R8 cd.O cO.O (by rw[<-aI.O];exact bm.O),Gr eb.O aW.O]
   have bt:Hid ((BM s.ar A.aa (l.set J (Bu X.aj c)) (l.set J (Bu X.aj c)).length).ready=r - (if c.ax=3 then 1 else 0)):=by unfold Hid;rw[Pw aW.O ea.O bO.O,<-aI.O]
   have bz:Hid ((l.set J (Bu X.aj c)).map Cv=B.ah.map Cv):=by unfold Hid;rw[PO aW.O,bi.O]
   have hq:=el.O;unfold CpAt at hq;obtain⟨q0,q1,q2,q3,q4,q5,q6⟩:=hq
   by_cases h3:c.ax=3
   ·have b9:Hid _:=h3
    go_wp2_with (first
     |(go_at_call 183;refine(CV 5 _).mono ?_;rintro e w2 ⟨rfl,rfl⟩)
     |((with_reducible show wpList _ _ _ _ _ _);refine Bv rfl 4 (.tmp 50) (.const (.bool true)) rfl g2 _ (.bool true) rfl rfl Gb rfl rfl 76 7 n2 Y _ am.O (by omega) ?_;intro w2 hr on;have R2:Hid (RowIs w2 76 7 g2 n2 Y (Ar (l.set J {c with au:=true}))):=(by have:=hr.O;rw[show splice (Ar l) (J*7+5) [.bool true]=Ar (l.set J {c with au:=true}) from Bm (c:=Cp.cells) (n:=7) (λ_=>rfl) l J 5 c {c with au:=true} _ aW.O (by omega) rfl]at this;exact this);have a5:Hid (A6 g2 W w2):=on;have e8:=AJ ((KeepT.be on am.O).aR ax.O (by decide)) 8 rfl;clear hr on q0 q1 q2 q3 q4 q5 q6)
     |((with_reducible show wpList _ _ _ _ _ _);refine Bv rfl 3 (.tmp 58) (.tmp 56) rfl g2 _ (.int .i64 X.aj) rfl rfl CG rfl rfl 76 7 n2 Y _ R2.O (by omega) ?_;intro w3 hr on;have R3:Hid (RowIs w3 76 7 g2 n2 Y (Ar (l.set J (Bu X.aj c)))):=(by have:=hr.O;rw[show splice (Ar (l.set J {c with au:=true})) (J*7+2) [.int .i64 X.aj]=Ar ((l.set J {c with au:=true}).set J (Bu X.aj c)) from Bm (c:=Cp.cells) (n:=7) (λ_=>rfl) (l.set J {c with au:=true}) J 2 {c with au:=true} (Bu X.aj c) _ (by rw[eC (by rw[ag.O];exact az)]) (by omega) rfl,fX]at this;exact this);have bf:Hid (A6 g2 w2 w3):=on;clear hr on e8))
    go_roundw
    case rel=>
     have k2:KeepT 76 W w2:=.be a5.O am.O;have k3:KeepT 76 w2 w3:=.be bf.O R2.O;have ai:=k2.trans k3;have av:(l.set J (Bu X.aj c)).length=n2:=by rw[du];exact ag.O
     refine⟨j+1,l.set J (Bu X.aj c),cM,by go_num,?_,⟨b1,some ⟨g2,0,none⟩,b3,d1,Y,d3,vq,cf,?_,⟨?_,?_,?_⟩,?_⟩,bM,bz,ai.aR a4.O (by decide),ai.aQ bb.O (by decide),aw.trans ((a5.O.below.mono aK).trans (bf.O.below.mono aK))⟩
     ·rw[bt.O,dB b9.O]
      all_goals go_num
     ·have:=ai.aR ax.O (by decide)
      show qBl w3 g #[.string A.aa,.int .i64 A.aF,.int .i64 A.am,.int .i64 A.av,.int .i64 A.ay,.bool A.az,.slice ae A.aw.length ce,.bool A.drop,.int .i64 X.aj,.slice b1 X.af.length d1,.slice (qad g2) (l.set J (Bu X.aj c)).length Y,.slice b3 X.ak.length d3,.int .i64 (k:Int),vq] 227;rw[av];exact this
     ·exact ai.aN aF.O.1 (by decide)
     ·show RowN w3 N 76 7 (qad g2) (l.set J (Bu X.aj c)).length Y (Ar (l.set J (Bu X.aj c)))
      rw[av];exact .inr ⟨g2,rfl,aK,R3.O⟩
     ·exact ai.aN aF.O.2 (by decide)
     ·rw[a6.O]
      exact ai.aQ dx.O (by decide)
    case measure=>simp[intOf];omega
   ·have b9:Hid _:=h3
    go_wp2_with (first
     |(go_at_call 183;refine(CV 5 _).mono ?_;rintro e w2 ⟨rfl,rfl⟩)
     |((with_reducible show wpList _ _ _ _ _ _);refine Bv rfl 4 (.tmp 50) (.const (.bool true)) rfl g2 _ (.bool true) rfl rfl Gb rfl rfl 76 7 n2 Y _ am.O (by omega) ?_;intro w2 hr on;have R2:Hid (RowIs w2 76 7 g2 n2 Y (Ar (l.set J {c with au:=true}))):=(by have:=hr.O;rw[show splice (Ar l) (J*7+5) [.bool true]=Ar (l.set J {c with au:=true}) from Bm (c:=Cp.cells) (n:=7) (λ_=>rfl) l J 5 c {c with au:=true} _ aW.O (by omega) rfl]at this;exact this);have a5:Hid (A6 g2 W w2):=on;have e8:=AJ ((KeepT.be on am.O).aR ax.O (by decide)) 8 rfl;clear hr on q0 q1 q2 q3 q4 q5 q6)
     |((with_reducible show wpList _ _ _ _ _ _);refine Bv rfl 3 (.tmp 58) (.tmp 56) rfl g2 _ (.int .i64 X.aj) rfl rfl CG rfl rfl 76 7 n2 Y _ R2.O (by omega) ?_;intro w3 hr on;have R3:Hid (RowIs w3 76 7 g2 n2 Y (Ar (l.set J (Bu X.aj c)))):=(by have:=hr.O;rw[show splice (Ar (l.set J {c with au:=true})) (J*7+2) [.int .i64 X.aj]=Ar ((l.set J {c with au:=true}).set J (Bu X.aj c)) from Bm (c:=Cp.cells) (n:=7) (λ_=>rfl) (l.set J {c with au:=true}) J 2 {c with au:=true} (Bu X.aj c) _ (by rw[eC (by rw[ag.O];exact az)]) (by omega) rfl,fX]at this;exact this);have bf:Hid (A6 g2 w2 w3):=on;clear hr on e8))
    go_roundw
    case rel=>
     have k2:KeepT 76 W w2:=.be a5.O am.O;have k3:KeepT 76 w2 w3:=.be bf.O R2.O;have ai:=k2.trans k3;have av:(l.set J (Bu X.aj c)).length=n2:=by rw[du];exact ag.O
     refine⟨j+1,l.set J (Bu X.aj c),cM,by go_num,?_,⟨b1,some ⟨g2,0,none⟩,b3,d1,Y,d3,vq,cf,?_,⟨?_,?_,?_⟩,?_⟩,bM,bz,ai.aR a4.O (by decide),ai.aQ bb.O (by decide),aw.trans ((a5.O.below.mono aK).trans (bf.O.below.mono aK))⟩
     ·rw[bt.O,dC b9.O]
      rw[Int.sub_zero]
     ·have:=ai.aR ax.O (by decide)
      show qBl w3 g #[.string A.aa,.int .i64 A.aF,.int .i64 A.am,.int .i64 A.av,.int .i64 A.ay,.bool A.az,.slice ae A.aw.length ce,.bool A.drop,.int .i64 X.aj,.slice b1 X.af.length d1,.slice (qad g2) (l.set J (Bu X.aj c)).length Y,.slice b3 X.ak.length d3,.int .i64 (k:Int),vq] 227;rw[av];exact this
     ·exact ai.aN aF.O.1 (by decide)
     ·show RowN w3 N 76 7 (qad g2) (l.set J (Bu X.aj c)).length Y (Ar (l.set J (Bu X.aj c)))
      rw[av];exact .inr ⟨g2,rfl,aK,R3.O⟩
     ·exact ai.aN aF.O.2 (by decide)
     ·rw[a6.O]
      exact ai.aQ dx.O (by decide)
    case measure=>simp[intOf];omega
  ·go_wp2
   go_end0
   have g5:j=A.aw.length:=by have:=bZ.O;omega
   refine⟨.inl ⟨l,?_,rfl,b8.O⟩,hb⟩;rw[<-bN.O,gV (by omega)];rfl
def KeepB(b:Nat)(w w':World):Prop:=w.heap.size<=w'.heap.size/\∀q,q<w.heap.size->q≠b->w'.heap[q]?=w.heap[q]?
theorem KeepB.toT{b:Nat}{w w':World}{e:TypeId}{cs:Array Value}{fr:Nat × Nat}(h:KeepB b w w')(hb:w.heap[b]?=some (.cells cs e fr)):KeepT e w w':=
 ⟨h.1,λk hk F=>h.2 k hk λH=>by subst H;exact F _ _ hb⟩
theorem KeepB.refl(b:Nat)(w:World):KeepB b w w:=⟨AG _,λ_ _ _=>rfl⟩
theorem KeepB.below{b:Nat}{w w' F:World}(h:KeepB b w w')(hb:Below w'.heap.size w' F):KeepB b w F:=
 ⟨AH h.1 hb.size,λq J H=>(hb.block q (AF J h.1)).trans (h.2 q J H)⟩
theorem KeepB.ab{b:Nat}{w w' F:World}(h:KeepB b w w')(on:A6 b w' F):KeepB b w F:=
 ⟨by rw[on.size];exact h.1,λq J H=>(on.aB q H).trans (h.2 q J H)⟩
theorem relp_row{p g:Nat}{w w':World}{i:Nat}{e:TypeId}{size b n cap:Nat}{xs:qL}(H:i≠p)(h:RowIs w e size b n cap xs)(F:MJ p g i w w'):RowIs w' e size b n cap xs:=by
 unfold MJ at F;split at F
 ·rename_i hb
  exact absurd (cX hb) H
 ·exact h.below F h.lt
def ScaleIs(N g:Nat)(A:Ac)(ae:qO)(ce:Nat)(X:Bk)(s:Svc)(k:Nat)(I:List Int)(e:Ending)(w':World):Prop:=
 (BA A s=false/\e=.returned (.tuple #[])/\WkAt w' N g A ae ce {X with af:=X.af.set k (AQ A s)} k I)\/
 (BA A s=true/\e=.panicked (Mc 6))
theorem ON{l:List Svc}{k:Nat}{s:Svc}(h:l[k]?=some s):l.set k s=l:=by
 refine fp λj=>?_
 by_cases F:k=j
 ·subst F
  rw[eC (AC h).1,h]
 ·rw[gI F]
theorem Rv(A:Ac)(ae:qO)(ce:Nat)(X:Bk)(s:Svc)(N g k:Nat)(I:List Int)(w:World)(bX:X.af.length<=1048576)(hN:N<=w.heap.size)(hk:X.af[k]?=some s)(Z:WkAt w N g A ae ce X k I):
  Calls Tryz.prog 189 #[.pointer (qad g)] w λe w'=>ScaleIs N g A ae ce X s k I e w'/\Below N w w':=by
 have cm:=GR Z;obtain⟨b1,b2,b3,d1,d2,d3,ve,b8,hg,a4,bj⟩:=Z;have bq:k<X.af.length:=(AC hk).1;obtain⟨g1,e1,bb,aW⟩:=a4.af.some (by omega);subst e1;obtain⟨n1,aT⟩:∃n,Hid (X.af.length=n):=⟨_,rfl⟩;obtain⟨n2,bf⟩:∃n,Hid (X.ah.length=n):=⟨_,rfl⟩;obtain⟨n3,a8⟩:∃n,Hid (X.ak.length=n):=⟨_,rfl⟩;obtain⟨ne,bS⟩:∃n,Hid (I.length=n):=⟨_,rfl⟩;obtain⟨r2,r3⟩:RowN w N 76 7 b2 X.ah.length d2 (Ar X.ah)/\RowN w N 90 2 b3 X.ak.length d3 (CN X.ak):=⟨a4.ah,a4.ak⟩;clear a4;rw[aT.O]at aW hg bq bX;rw[bf.O]at r2 hg;rw[a8.O]at r3 hg;rw[bS.O]at bj;have HK:Hid _:=hk;have HG:Hid _:=hg;have a9:Hid (RowIs w 34 13 g1 n1 d1 (Ab X.af)):=aW;have cB:=BU r2;have c5:=BU r3;have cb:Hid (w.ownsRow N 3 1 ve ne (CP I)):=bj;have bH:g<w.heap.size:=(AB hg).1;have aS:g1<w.heap.size:=aW.lt;clear hk hg aW r2 r3 bj;have e5:=AJ HG.O 5 rfl;rcases Bool.eq_false_or_eq_true A.az with ax|ax
 rotate_left
 ·have bl:Hid (BA A s=false):=by unfold Hid BA;rw[ax];rfl
  have c6:Hid (AQ A s=s):=Gi ax;rw[ax]at e5;clear ax;go_enter Tryz.func189,Tryz.ntmps189;go_wp2;refine dS (results_none rfl _ _ _) rfl ?_;refine⟨.inl ⟨bl.O,rfl,?_⟩,dI _ _⟩;rw[c6.O,ON HK.O];exact cm.O
 have bi:Hid _:=ax;rw[ax]at e5;clear ax;have bZ:Hid (SvcAt w g1 (k*13) s):=a9.O.bC HK.O;obtain⟨pb,a5⟩:∃b,Hid ((s.aM !=0)=b):=⟨_,rfl⟩;obtain⟨ib,bO⟩:∃b,Hid (inB A.av s.aC s.aK=b):=⟨_,rfl⟩;go_enter Tryz.func189,Tryz.ntmps189
 go_upto_region 2 with(go_at_call 247;refine(DT A ae ce X.aj g g1 n1 d1 k _ _ _ _ bq bX HG.O).mono ?_;rintro e w1 ⟨rfl,ai⟩)
 have bm:Hid _:=AK ai HG.O bH;have am:Hid (SvcAt w1 g1 (k*13) s):=bZ.O.below ai aS;have bN:g<w1.heap.size:=AF bH ai.size;have aq:g1<w1.heap.size:=AF aS ai.size;clear e5;cases pb
 ·refine AV 21 (by kernel_rfl) (by kernel_rfl) ?_
  apply AL
  ·intro V W K A Y H F J
   simp only[pA]at F;clear H;obtain rfl:=F;go_wp2;exact J.O _ brf
  apply AL
  ·intro V W K A Y H F J
   have d0:V 0=_:=H 0 (by kernel_rfl);simp only[pA,d0]at F;clear H d0;obtain rfl:=F;go_wp2;exact J.O _ brf
  apply AL
  ·intro V W K A Y H F J
   have d1:V 1=_:=H 1 (by kernel_rfl);simp only[pA,d1]at F;clear H d1;obtain rfl:=F;go_wp2;exact J.O _ brf
  apply AL
  ·intro V W K A Y H F J
   have d2:V 2=_:=H 2 (by kernel_rfl);simp only[pA,d2]at F;clear H d2;obtain rfl:=F;have hq:=am.O.below Y aq;unfold SvcAt at hq;obtain⟨q0,q1,q2,q3,q4,q5,q6,q7,q8,q9,bk,a7,bo⟩:=hq;go_wp2;exact J.O _ brf
  refine AW (λv _=>v=.bool false) (λ_ _ _ h _=>h) ?_ ?_
  ·intro V W K A Y H F J
   have d3:V 3=_:=H 3 (by kernel_rfl);simp only[pA,d3]at F;clear H d3;obtain rfl:=F;go_wp2;exact J.O _ _ brf (by rw[a5.O])
  apply AL
  ·intro V W K A Y H F J
   have d4:(λv _=>v=.bool false) (V 4) W:=H 4 (by kernel_rfl);simp only[pA]at F;clear H;generalize V 4=x4 at d4 F;obtain rfl:=F;obtain rfl:=d4;go_wp2;exact J.O _ brf
  refine AW (λ_ _=>True) (λ_ _ _ _ _=>trivial) ?_ ?_
  ·intro V W K A Y H F J
   have M:V 5=_:=H 5 (by kernel_rfl);simp only[pA,M]at F;clear H M;obtain rfl:=F;go_wp2;exact J.O _ _ brf trivial
  refine AW (λ_ _=>True) (λ_ _ _ _ _=>trivial) ?_ ?_
  ·intro V W K A Y H F J
   have M:V 5=_:=H 5 (by kernel_rfl);simp only[pA,M]at F;clear H M;obtain rfl:=F;go_wp2;exact J.O _ _ brf trivial
  refine AW (λ_ _=>True) (λ_ _ _ _ _=>trivial) ?_ ?_
  ·intro V W K A Y H F J
   have M:V 5=_:=H 5 (by kernel_rfl);simp only[pA,M]at F;clear H M;obtain rfl:=F;go_wp2;exact J.O _ _ brf trivial
  refine AW (λ_ _=>True) (λ_ _ _ _ _=>trivial) ?_ ?_
  ·intro V W K A Y H F J
   have M:V 5=_:=H 5 (by kernel_rfl);simp only[pA,M]at F;clear H M;obtain rfl:=F;go_wp2;exact J.O _ _ brf trivial
  refine AW (λ_ _=>True) (λ_ _ _ _ _=>trivial) ?_ ?_
  ·intro V W K A Y H F J
   have M:V 5=_:=H 5 (by kernel_rfl);simp only[pA,M]at F;clear H M;obtain rfl:=F;go_wp2;exact J.O _ _ brf trivial
  refine AW (λ_ _=>True) (λ_ _ _ _ _=>trivial) ?_ ?_
  ·intro V W K A Y H F J
   have M:V 5=_:=H 5 (by kernel_rfl);simp only[pA,M]at F;clear H M;obtain rfl:=F;go_wp2;exact J.O _ _ brf trivial
  refine AW (λ_ _=>True) (λ_ _ _ _ _=>trivial) ?_ ?_
  ·intro V W K A Y H F J
   have M:V 5=_:=H 5 (by kernel_rfl);simp only[pA,M]at F;clear H M;obtain rfl:=F;go_wp2;exact J.O _ _ brf trivial
  refine AW (λ_ _=>True) (λ_ _ _ _ _=>trivial) ?_ ?_
  ·intro V W K A Y H F J
   have M:V 5=_:=H 5 (by kernel_rfl);simp only[pA,M]at F;clear H M;obtain rfl:=F;go_wp2;exact J.O _ _ brf trivial
  refine AW (λ_ _=>True) (λ_ _ _ _ _=>trivial) ?_ ?_
  ·intro V W K A Y H F J
   have M:V 5=_:=H 5 (by kernel_rfl);simp only[pA,M]at F;clear H M;obtain rfl:=F;go_wp2;exact J.O _ _ brf trivial
  refine AW (λ_ _=>True) (λ_ _ _ _ _=>trivial) ?_ ?_
  ·intro V W K A Y H F J
   have M:V 5=_:=H 5 (by kernel_rfl);simp only[pA,M]at F;clear H M;obtain rfl:=F;go_wp2;exact J.O _ _ brf trivial
  refine AW (λ_ _=>True) (λ_ _ _ _ _=>trivial) ?_ ?_
  ·intro V W K A Y H F J
   have M:V 5=_:=H 5 (by kernel_rfl);simp only[pA,M]at F;clear H M;obtain rfl:=F;go_wp2;exact J.O _ _ brf trivial
  refine AW (λ_ _=>True) (λ_ _ _ _ _=>trivial) ?_ ?_
  ·intro V W K A Y H F J
   have M:V 5=_:=H 5 (by kernel_rfl);simp only[pA,M]at F;clear H M;obtain rfl:=F;go_wp2;exact J.O _ _ brf trivial
  refine AW (λ_ _=>True) (λ_ _ _ _ _=>trivial) ?_ ?_
  ·intro V W K A Y H F J
   have M:V 5=_:=H 5 (by kernel_rfl);simp only[pA,M]at F;clear H M;obtain rfl:=F;go_wp2;exact J.O _ _ brf trivial
  refine AW (λ_ _=>True) (λ_ _ _ _ _=>trivial) ?_ ?_
  ·intro V W K A Y H F J
   have M:V 5=_:=H 5 (by kernel_rfl);simp only[pA,M]at F;clear H M;obtain rfl:=F;go_wp2;exact J.O _ _ brf trivial
  apply AL
  ·intro V W K A Y H F J
   have M:V 5=_:=H 5 (by kernel_rfl);simp only[pA,M]at F;clear H M;obtain rfl:=F;go_wp2;exact J.O _ brf
  intro V W A Y Z F;have d0:V 0=_:=Z 0 (by omega);have d1:V 1=_:=Z 1 (by omega);have d2:V 2=_:=Z 2 (by omega);have d3:V 3=_:=Z 3 (by omega);have d4:(λv _=>v=.bool false) (V 4) W:=Z 4 (by omega);have M:V 5=_:=Z 5 (by omega);have aI:V 20=_:=Z 20 (by omega);simp only[pA,d0,d1,d2,d3,M,aI]at F;clear Z d0 d1 d2 d3 M aI;generalize V 4=x4 at d4 F;obtain rfl:=F
  simp only[dl,dF];obtain rfl:=d4
  have bl:Hid (BA A s=true):=by
   unfold Hid BA;rw[bi.O,show(s.aM==0)=true by have:=a5.O;simpa [bne] using this];rfl
  go_wp2_with (go_at_call 183;refine(Ce 6 _).mono ?_;rintro e w2 ⟨rfl,rfl⟩)
  exact⟨rfl,.inr ⟨bl.O,rfl⟩,(ai.trans (Y.mono ai.size)).mono hN⟩
 refine AV 21 (by kernel_rfl) (by kernel_rfl) ?_;apply AL
 ·intro V W K A Y H F J
  simp only[pA]at F;clear H;obtain rfl:=F;go_wp2;exact J.O _ brf
 apply AL
 ·intro V W K A Y H F J
  have d0:V 0=_:=H 0 (by kernel_rfl);simp only[pA,d0]at F;clear H d0;obtain rfl:=F;go_wp2;exact J.O _ brf
 apply AL
 ·intro V W K A Y H F J
  have d1:V 1=_:=H 1 (by kernel_rfl);simp only[pA,d1]at F;clear H d1;obtain rfl:=F;go_wp2;exact J.O _ brf
 apply AL
 ·intro V W K A Y H F J
  have d2:V 2=_:=H 2 (by kernel_rfl);simp only[pA,d2]at F;clear H d2;obtain rfl:=F;have hq:=am.O.below Y aq;unfold SvcAt at hq;obtain⟨q0,q1,q2,q3,q4,q5,q6,q7,q8,q9,bk,a7,bo⟩:=hq;go_wp2;exact J.O _ brf
 refine AW (λv _=>v=.bool true) (λ_ _ _ h _=>h) ?_ ?_
 ·intro V W K A Y H F J
  have d3:V 3=_:=H 3 (by kernel_rfl);simp only[pA,d3]at F;clear H d3;obtain rfl:=F;go_wp2;exact J.O _ _ brf (by rw[a5.O])
 apply AL
 ·intro V W K A Y H F J
  have d4:(λv _=>v=.bool true) (V 4) W:=H 4 (by kernel_rfl);simp only[pA]at F;clear H;generalize V 4=x4 at d4 F;obtain rfl:=F;obtain rfl:=d4;go_wp2;exact J.O _ brf
 apply AL
 ·intro V W K A Y H F J
  have M:V 5=_:=H 5 (by kernel_rfl);simp only[pA,M]at F;clear H M;obtain rfl:=F;go_wp2;exact J.O _ brf
 apply AL
 ·intro V W K A Y H F J
  have M:V 5=_:=H 5 (by kernel_rfl);have d6:V 6=_:=H 6 (by kernel_rfl);simp only[pA,M,d6]at F;clear H M d6;obtain rfl:=F;go_wp2;exact J.O _ brf
 apply AL
 ·intro V W K A Y H F J
  have M:V 5=_:=H 5 (by kernel_rfl);have d7:V 7=_:=H 7 (by kernel_rfl);simp only[pA,M,d7]at F;clear H M d7;obtain rfl:=F;go_wp2;exact J.O _ brf
 apply AL
 ·intro V W K A Y H F J
  have M:V 5=_:=H 5 (by kernel_rfl);have d8:V 8=_:=H 8 (by kernel_rfl);simp only[pA,M,d8]at F;clear H M d8;obtain rfl:=F;go_wp2;exact J.O _ brf
 apply AL
 ·intro V W K A Y H F J
  have M:V 5=_:=H 5 (by kernel_rfl);have d9:V 9=_:=H 9 (by kernel_rfl);simp only[pA,M,d9]at F;clear H M d9;obtain rfl:=F;have e3:=AJ (AK Y bm.O bN) 3 rfl;go_wp2;exact J.O _ brf
 apply AL
 ·intro V W K A Y H F J
  have M:V 5=_:=H 5 (by kernel_rfl);simp only[pA,M]at F;clear H M;obtain rfl:=F;go_wp2;exact J.O _ brf
 apply AL
 ·intro V W K A Y H F J
  have M:V 5=_:=H 5 (by kernel_rfl);have an:V 11=_:=H 11 (by kernel_rfl);simp only[pA,M,an]at F;clear H M an;obtain rfl:=F;go_wp2;exact J.O _ brf
 apply AL
 ·intro V W K A Y H F J
  have M:V 5=_:=H 5 (by kernel_rfl);have af:V 12=_:=H 12 (by kernel_rfl);simp only[pA,M,af]at F;clear H M af;obtain rfl:=F;go_wp2;exact J.O _ brf
 apply AL
 ·intro V W K A Y H F J
  have M:V 5=_:=H 5 (by kernel_rfl);have ag:V 13=_:=H 13 (by kernel_rfl);simp only[pA,M,ag]at F;clear H M ag;obtain rfl:=F;have hq:=am.O.below Y aq;unfold SvcAt at hq;obtain⟨q0,q1,q2,q3,q4,q5,q6,q7,q8,q9,bk,a7,bo⟩:=hq;go_wp2;exact J.O _ brf
 apply AL
 ·intro V W K A Y H F J
  have M:V 5=_:=H 5 (by kernel_rfl);simp only[pA,M]at F;clear H M;obtain rfl:=F;go_wp2;exact J.O _ brf
 apply AL
 ·intro V W K A Y H F J
  have M:V 5=_:=H 5 (by kernel_rfl);have aa:V 15=_:=H 15 (by kernel_rfl);simp only[pA,M,aa]at F;clear H M aa;obtain rfl:=F;go_wp2;exact J.O _ brf
 apply AL
 ·intro V W K A Y H F J
  have M:V 5=_:=H 5 (by kernel_rfl);have au:V 16=_:=H 16 (by kernel_rfl);simp only[pA,M,au]at F;clear H M au;obtain rfl:=F;go_wp2;exact J.O _ brf
 apply AL
 ·intro V W K A Y H F J
  have M:V 5=_:=H 5 (by kernel_rfl);have aC:V 17=_:=H 17 (by kernel_rfl);simp only[pA,M,aC]at F;clear H M aC;obtain rfl:=F;have hq:=am.O.below Y aq;unfold SvcAt at hq;obtain⟨q0,q1,q2,q3,q4,q5,q6,q7,q8,q9,bk,a7,bo⟩:=hq;go_wp2;exact J.O _ brf
 refine AW (λv _=>v=.bool ib) (λ_ _ _ h _=>h) ?_ ?_
 ·intro V W K A Y H F J
  have M:V 5=_:=H 5 (by kernel_rfl);have ah:V 10=_:=H 10 (by kernel_rfl);have ar:V 14=_:=H 14 (by kernel_rfl);have aL:V 18=_:=H 18 (by kernel_rfl);simp only[pA,M,ah,ar,aL]at F;clear H M ah ar aL;obtain rfl:=F
  go_wp2_with (go_at_call 91;refine(Ay _ _ _ _).mono ?_;rintro e w' ⟨rfl,rfl⟩)
  exact J.O _ _ brf (by rw[bO.O])
 apply AL
 ·intro V W K A Y H F J
  have M:V 5=_:=H 5 (by kernel_rfl);have aA:(λv _=>v=.bool ib) (V 19) W:=H 19 (by kernel_rfl);simp only[pA,M]at F;clear H M;generalize V 19=ca at aA F;obtain rfl:=F;obtain rfl:=aA;go_wp2;exact J.O _ brf
 intro V W A Y Z F;have d0:V 0=_:=Z 0 (by omega);have d1:V 1=_:=Z 1 (by omega);have d2:V 2=_:=Z 2 (by omega);have d3:V 3=_:=Z 3 (by omega);have d4:(λv _=>v=.bool true) (V 4) W:=Z 4 (by omega);have M:V 5=_:=Z 5 (by omega);have d6:V 6=_:=Z 6 (by omega);have d7:V 7=_:=Z 7 (by omega);have d8:V 8=_:=Z 8 (by omega);have d9:V 9=_:=Z 9 (by omega);have ah:V 10=_:=Z 10 (by omega);have an:V 11=_:=Z 11 (by omega);have af:V 12=_:=Z 12 (by omega);have ag:V 13=_:=Z 13 (by omega);have ar:V 14=_:=Z 14 (by omega);have aa:V 15=_:=Z 15 (by omega);have au:V 16=_:=Z 16 (by omega);have aC:V 17=_:=Z 17 (by omega);have aL:V 18=_:=Z 18 (by omega);have aA:(λv _=>v=.bool ib) (V 19) W:=Z 19 (by omega);have aI:V 20=_:=Z 20 (by omega);simp only[pA,d0,d1,d2,d3,M,d6,d7,d8,d9,ah,an,af,ag,ar,aa,au,aC,aL,aI]at F;clear Z d0 d1 d2 d3 M d6 d7 d8 d9 ah an af ag ar aa au aC aL aI;generalize V 4=x4 at d4 F;generalize V 19=ca at aA F;obtain rfl:=F;simp only[dl,dF];obtain rfl:=d4;obtain rfl:=aA;have aE:Hid _:=AK Y bm.O bN;have br:Hid (RowIs W 34 13 g1 n1 d1 (Ab X.af)):=(a9.O.below ai aS).below Y aq;have a6:=ai.trans (Y.mono ai.size)
 have bE:Hid (BA A s=!ib):=by
  unfold Hid BA;rw[bi.O,show(s.aM==0)=false by have:=a5.O;simpa [bne] using this,bO.O];rfl
 have bI:g≠g1:=λe=>by
  subst e;obtain⟨_,_,cq,hc,_⟩:=br.O;have:=aE.O;rw[hc]at this;injection this with this
  injection this with _ this
  exact absurd this (by decide)
 have bz:g<W.heap.size:=(AB aE.O).1;have cM:N<=W.heap.size:=AH hN a6.size;clear Y bm am bZ ai HG a9;cases ib
 ·go_wp2_with (go_at_call 183;refine(Ce 6 _).mono ?_;rintro e w2 ⟨rfl,rfl⟩)
  exact⟨rfl,.inr ⟨by rw[bE.O];rfl,rfl⟩,a6.mono hN⟩
 go_upto_region 3 with(go_at_call 183;refine(CV 6 _).mono ?_;rintro e w2 ⟨rfl,rfl⟩)
 obtain⟨wb,b7⟩:∃x,x=W:=⟨_,rfl⟩;subst b7;obtain⟨bB,HT⟩:∃T:World->Prop,Hid (∀W,T W↔RowIs W 34 13 g1 n1 d1 (Ab (X.af.set k {s with av:=A.av}))):=⟨_,λW=>Iff.rfl⟩;refine Dj 17 14 g1 (λW=>KeepB g1 wb W/\Below N wb W) (λW=>RowIs W 34 13 g1 n1 d1 (Ab X.af)) (by kernel_rfl) (by kernel_rfl) ⟨KeepB.refl _ _,dI _ _⟩ br.O (λ_ _ h hb=>⟨h.1.below hb,h.2.trans (hb.mono (AH cM h.2.size))⟩) (λ_ _ h on=>⟨h.1.ab on,h.2.trans (on.below.mono bb)⟩) (λ_ _ h hb=>h.below hb h.lt) ?_;apply AX
 ·intro V W K A Y hZ H F J
  simp only[pA]at F;clear H;obtain rfl:=F;go_wp2;exact J.O _ brf
 apply AX
 ·intro V W K A Y hZ H F J
  simp only[pA]at F;clear H;obtain rfl:=F;go_wp2;exact J.O _ brf
 apply AX
 ·intro V W K A Y hZ H F J
  simp only[pA]at F;clear H;obtain rfl:=F;go_wp2;exact J.O _ brf
 apply AX
 ·intro V W K A Y hZ H F J
  have d2:V 2=_:=H 2 (by kernel_rfl);simp only[pA,d2]at F;clear H d2;obtain rfl:=F;go_wp2;exact J.O _ brf
 apply AX
 ·intro V W K A Y hZ H F J
  have d3:V 3=_:=H 3 (by kernel_rfl);simp only[pA,d3]at F;clear H d3;obtain rfl:=F;go_wp2;exact J.O _ brf
 apply AX
 ·intro V W K A Y hZ H F J
  have d4:V 4=_:=H 4 (by kernel_rfl);simp only[pA,d4]at F;clear H d4;obtain rfl:=F;go_wp2;exact J.O _ brf
 apply AX
 ·intro V W K A Y hZ H F J
  have M:V 5=_:=H 5 (by kernel_rfl);simp only[pA,M]at F;clear H M;obtain rfl:=F;have e3:=AJ ((Y.1.2 g bz bI).trans aE.O) 3 rfl;go_wp2;exact J.O _ brf
 apply AX
 ·intro V W K A Y hZ H F J
  simp only[pA]at F;clear H;obtain rfl:=F;go_wp2;exact J.O _ brf
 apply AX
 ·intro V W K A Y hZ H F J
  have d7:V 7=_:=H 7 (by kernel_rfl);simp only[pA,d7]at F;clear H d7;obtain rfl:=F;go_wp2;exact J.O _ brf
 apply AX
 ·intro V W K A Y hZ H F J
  have d8:V 8=_:=H 8 (by kernel_rfl);simp only[pA,d8]at F;clear H d8;obtain rfl:=F;go_wp2;exact J.O _ brf
 apply AX
 ·intro V W K A Y hZ H F J
  have d9:V 9=_:=H 9 (by kernel_rfl);simp only[pA,d9]at F;clear H d9;obtain rfl:=F;go_wp2;exact J.O _ brf
 apply AX
 ·intro V W K A Y hZ H F J
  have ah:V 10=_:=H 10 (by kernel_rfl);simp only[pA,ah]at F;clear H ah;obtain rfl:=F;have e4:=AJ ((Y.1.2 g bz bI).trans aE.O) 4 rfl;go_wp2;exact J.O _ brf
 apply AX
 ·intro V W K A Y hZ H F J
  have d0:V 0=_:=H 0 (by kernel_rfl);simp only[pA,d0]at F;clear H d0;obtain rfl:=F;go_wp2;exact J.O _ brf
 apply AX
 ·intro V W K A Y hZ H F J
  have af:V 12=_:=H 12 (by kernel_rfl);simp only[pA,af]at F;clear H af;obtain rfl:=F;go_wp2;exact J.O _ brf
 refine Al (λ_ W=>bB W) (λi hi _ W W' h hr=>(HT.O W').2 (relp_row hi ((HT.O W).1 h) hr)) ?_ ?_
 ·intro V W K A Y hZ H F J
  have d6:V 6=_:=H 6 (by kernel_rfl);have ag:V 13=_:=H 13 (by kernel_rfl);simp only[pA,d6,ag]at F;clear H d6 ag;obtain rfl:=F;have h0:=hZ rfl;refine Bv rfl 3 (.tmp 46) (.tmp 39) rfl g1 _ (.int .i64 A.av) rfl rfl CG rfl rfl 34 13 n1 d1 _ h0 (by omega) ?_;intro w2 hr on;have h2:=hr.O;rw[show splice (Ab X.af) (k*13+4) [.int .i64 A.av]=Ab (X.af.set k {s with av:=A.av}) from Bm (c:=Svc.cells) (n:=13) (λ_=>rfl) X.af k 4 s {s with av:=A.av} _ HK.O (by omega) rfl]at h2;exact J.O _ _ on ((HT.O _).2 h2)
 apply AX
 ·intro V W K A Y hZ H F J
  have d1:V 1=_:=H 1 (by kernel_rfl);simp only[pA,d1]at F;clear H d1;obtain rfl:=F;go_wp2;exact J.O _ brf
 apply AX
 ·intro V W K A Y hZ H F J
  have aa:V 15=_:=H 15 (by kernel_rfl);simp only[pA,aa]at F;clear H aa;obtain rfl:=F;go_wp2;exact J.O _ brf
 intro V W A Y Z F;have d0:V 0=_:=Z 0 (by omega);have d1:V 1=_:=Z 1 (by omega);have d2:V 2=_:=Z 2 (by omega);have d3:V 3=_:=Z 3 (by omega);have d4:V 4=_:=Z 4 (by omega);have M:V 5=_:=Z 5 (by omega);have d6:V 6=_:=Z 6 (by omega);have d7:V 7=_:=Z 7 (by omega);have d8:V 8=_:=Z 8 (by omega);have d9:V 9=_:=Z 9 (by omega);have ah:V 10=_:=Z 10 (by omega);have an:V 11=_:=Z 11 (by omega);have af:V 12=_:=Z 12 (by omega);have ag:V 13=_:=Z 13 (by omega);have ar:(λ_ W=>bB W) (V 14) W:=Z 14 (by omega);have aa:V 15=_:=Z 15 (by omega);have au:V 16=_:=Z 16 (by omega);simp only[pA,d0,d1,d2,d3,d4,M,d6,d7,d8,d9,ah,an,af,ag,aa,au]at F;clear Z d0 d1 d2 d3 d4 M d6 d7 d8 d9 ah an af ag aa au;obtain rfl:=F;simp only[dl,dF];have R2:Hid (RowIs W 34 13 g1 n1 d1 (Ab (X.af.set k {s with av:=A.av}))):=(HT.O W).1 ar;clear ar;have cv:Hid (KeepB g1 wb W):=Y.1;have cf:=Y.2;clear Y
 go_wp2_with ((with_reducible show wpList _ _ _ _ _ _);refine Bv rfl 3 (.tmp 48) (.tmp 44) rfl g1 _ (.int .i64 A.ay) rfl rfl CG rfl rfl 34 13 n1 d1 _ R2.O (by omega) ?_;intro w3 hr on;have R3:Hid (RowIs w3 34 13 g1 n1 d1 (Ab (X.af.set k {s with av:=A.av,ay:=A.ay}))):=(by have:=hr.O;rw[show splice (Ab (X.af.set k {s with av:=A.av})) (k*13+12) [.int .i64 A.ay]=Ab ((X.af.set k {s with av:=A.av}).set k {s with av:=A.av,ay:=A.ay}) from Bm (c:=Svc.cells) (n:=13) (λ_=>rfl) (X.af.set k {s with av:=A.av}) k 12 {s with av:=A.av} {s with av:=A.av,ay:=A.ay} _ (by rw[eC (by rw[aT.O];exact bq)]) (by omega) rfl,fX]at this;exact this);have bU:Hid (A6 g1 W w3):=on;clear hr on)
 go_end0
 have kb:=cv.O.ab bU.O;obtain⟨_,_,cq,bR,_⟩:=id br.O;have kt:KeepT 34 wb w3:=kb.toT bR;have kw:KeepT 34 w wb:=.ba a6;refine⟨.inl ⟨by rw[bE.O];rfl,rfl,⟨some ⟨g1,0,none⟩,b2,b3,d1,d2,d3,ve,b8,?_,⟨?_,?_,?_⟩,?_⟩⟩,(a6.mono hN).trans (cf.trans (bU.O.below.mono bb))⟩
 ·have:=kt.aR aE.O (by decide)
  rw[<-bf.O,<-a8.O,<-aT.O]at this
  simpa only[du] using this
 ·have h:=R3.O
  rw[<-aT.O,<-Fh bi.O]at h;exact .inr ⟨g1,rfl,bb,by simpa only[du] using h⟩
 ·have:=kt.aN (kw.aN cB.O (by decide)) (by decide)
  rw[<-bf.O]at this;exact this
 ·have:=kt.aN (kw.aN c5.O (by decide)) (by decide)
  rw[<-a8.O]at this;exact this
 ·have:=kt.aQ (kw.aQ cb.O (by decide)) (by decide)
  rw[<-bS.O]at this;exact this
end
end Go.Proofs.YtbceafpodamnfaaGreatDoor
