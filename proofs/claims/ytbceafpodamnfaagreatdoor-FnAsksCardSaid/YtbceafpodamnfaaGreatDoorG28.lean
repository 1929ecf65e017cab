import Derived.Test.YtbceafpodamnfaaGreatDoorG27
set_option linter.all false
set_option maxHeartbeats 8000000
set_option maxRecDepth 100000
namespace Go.Proofs.YtbceafpodamnfaaGreatDoor
section
open Go.RowKit Go.Shelf
open Go.Value renaming int->In,slice->Sl,string->Sg,bool->Bo,pointer->Po
open Go.IntKind renaming i64->i6
attribute [local go_sem] i7
def Rr(n:Cnt):Array Value:=(qtV n)
def FO(img:Int)(l:List Cp):Cnt:=l.foldl (λn c=>DF img c n) Cnt.none
theorem D6(img:Int)(l:List Cp)(c:Cp):FO img (l++[c])=DF img c (FO img l):=by simp[FO]
theorem KH(img:Int)(nm:qB):∀(l:List Cp) (n:Cnt),(ofS nm l).foldl (λn c=>DF img c n) n=l.foldl (λn c=>Cc img nm c n) n
 |[],_=>rfl
 |c::l,n=>by
  have z:=KH img nm l;unfold ofS at *;rw[List.filter_cons,gh]
  by_cases h:(c.aa.toList==nm.toList)=true
  ·rw[dv h,gh,z];simp[Cc,h]
  ·rw[dk h,z];simp[Cc,h]
theorem Rs(img:Int)(c:Cp)(n:Cnt)(k:Nat)(h:n.bj k):(DF img c n).bj (k+1):=by
 have:=LR img c.aa c n k h
 simpa [Cc] using this
theorem Vo(img:Int)(l:List Cp):(FO img l).bj l.length:=by
 have:∀(l:List Cp) (n:Cnt) (k:Nat),n.bj k->(l.foldl (λn c=>DF img c n) n).bj (k+l.length):=by
  intro l
  induction l with
  |nil=>intro n k h;exact h
  |cons c l z=>
   intro n k h;have:=z _ _ (Rs img c n k h);rw[gh,dM,iI l.length 1,<-eG];exact this
 have h:=this l Cnt.none 0 (by unfold Cnt.bj Cnt.none;dsimp only;omega);rw[dL]at h;exact h
theorem Mj(nm:qB)(l:List Cp):(ofS nm l).length<=l.length:=dV _ _
theorem DL{β:Type}(B:Nat)(t:TypeId)(f:β->Array Value):Own (λs W=>W.heap[B]?=some (.cells (f s) t (0,0))):=λs X Y row F M z=>
 (M.block B (AB F).1 (λe=>by obtain⟨o,H,J⟩:=z B e.symm;rw[F]at H;cases H;cases J)).trans F
theorem six_new(w:World)(A B C D E F:Obj):∃z,((((((w.alloc A).alloc B).alloc C).alloc D).alloc E).alloc F)=z/\z.heap[w.heap.size+1]?=some B/\z.heap[w.heap.size+1+1]?=some C/\z.heap[w.heap.size+1+1+1]?=some D/\z.heap[w.heap.size+1+1+1+1]?=some E/\z.heap[w.heap.size+1+1+1+1+1]?=some F/\z.heap.size=w.heap.size+1+1+1+1+1+1/\Below w.heap.size w z:=by
 refine⟨_,rfl,?_⟩;have e:((((((w.alloc A).alloc B).alloc C).alloc D).alloc E).alloc F).heap=(((((w.heap.push A).push B).push C).push D).push E).push F:=rfl;rw[e];refine⟨?_,?_,?_,?_,?_,qs,?_⟩
 ·rw[dw,dk (by simp;try omega),dw,dk (by simp;try omega),dw,dk (by simp;try omega),dw,dk qs,dw,dv qs]
 ·rw[dw,dk (by simp;try omega),dw,dk (by simp;try omega),dw,dk qs,dw,dv qs]
 ·rw[dw,dk (by simp;try omega),dw,dk qs,dw,dv qs]
 ·rw[dw,dk qs,dw,dv qs]
 ·rw[dw,dv qs]
 ·exact((((((dG _ _).alloc AG _).alloc qs _).alloc qp _).alloc qp _).alloc qp _).alloc qp _
theorem NG(n:Nat)(hn:3<=n)(B:Bk)(s:Svc)(a1 a2 a3:qO)(c1 c2 c3:Nat)(w:World)(a6:B.ar.length<=1048576)(aI:Hid (Ds B.ar))(HK:Hid (B.ar.length<=c2))(hC:SlC w a2 B.ar):
  CallsIn Fence.wide n Tryz.prog 167 #[.agg (qbV B a1 c1 a2 c2 a3 c3),.agg (qsV s)] w λe w'=>e=.returned (.agg (Rr (FO s.aj (ofS s.name B.ar))))/\Below w.heap.size w w':=by
 have a7:1<=n:=qo
 have bq:=Mj s.name B.ar;refine callsIn_of_wp_marks Tryz.func167 rfl trivial ?_ rfl;simp only[Tryz.ntmps167,er,dM,fc,Nat.reduceAdd,Nat.reduceSub,iw,Array.replicate_zero,iO,iA,fq,fu]
 gi_wp2
 refine⟨trivial,?_⟩;refine(LQ Fence.wide (n - 1) trivial rfl B s.name a1 a2 a3 c1 c2 c3 _).mono ?_;rintro e w' ⟨rfl,rfl⟩
 gi_wp2
 obtain⟨W0,aB,b1,b2,b3,b4,b5,be,ax⟩:=six_new w (.cells (qbV B a1 c1 a2 c2 a3 c3) 28) (.cells (qsV s) 34) (.cells qtZ 83) (.cells qtZ 83) (.cells (qbV B a1 c1 a2 c2 a3 c3) 28) (.cells #[Sg s.name] 9);rw[aB];clear aB
 have au:B.ar≠[]->∃b an,a2=some ⟨b,an,none⟩/\b<w.heap.size/\LX W0 b an B.ar:=λa8=>
  let ⟨b,an,e,hb,hat⟩:=hC a8
  ⟨b,an,e,hb,λi c hc=>(hat i c hc).below ax hb⟩
 refine wpIn_rangeFunc_ownH rfl a7 (gf:=237) (lb:=#[Po (some ⟨w.heap.size+1+1+1+1,0,none⟩),Po (some ⟨w.heap.size+1+1+1+1+1,0,none⟩)]) rfl trivial (enters_of Tryz.func237 qk rfl)
  (Pt (n - 1) qo (w.heap.size+1+1+1+1) (w.heap.size+1+1+1+1+1) w.heap.size B s.name a1 a2 a3 c1 c2 c3 a6 aI HK W0 b4 b5 au qo) (λh k=>⟨h.1.trans k.1,k.2.trans h.2⟩)
  (λW l o o' hl ho hc hw=>⟨belowK_b (w:=W0) qo W l o o' hl ho hc hw,by
   by_cases aC:w.heap.size+1+1+1+1+1<W.heap.size
   ·exact(grownBy_putObj' W l o').block _ aC (λe=>by have:=dj e;omega)
   ·have e1:W.heap[w.heap.size+1+1+1+1+1]?=none:=by rw[io qo]
    have e2:(W.putObj l o').heap[w.heap.size+1+1+1+1+1]?=none:=by rw[io];have:=(AB ho).1;omega
    rw[e1,e2]⟩) (dG _ _) (λ_=>rfl)
  (λF W=>(qBl W (w.heap.size+1+1+1) (Rr (FO s.aj F)) 83/\qBl W (w.heap.size+1+1) qtZ 83/\qBl W (w.heap.size+1) (qsV s) 34)/\W0.heap.size<=W.heap.size/\Below w.heap.size w W)
  (λ_ _ _=>False)
  (OwnFrom.and (OwnFrom.and (Own.from (DL _ _ _) _) (OwnFrom.and (Own.from (DL _ _ _) _) (Own.from (DL _ _ _) _))) (OwnFrom.and (λ_ _ _ _ hs hg _=>AH hs hg.size) (ownFrom_below AG qo)))
  (λ_ _ _ _ _ hs _ _=>hs)
  ⟨⟨b3,b2,b1⟩,AG,ax⟩
  (λx a' W=>∃Bx,w.heap.size+1+1+1+1+1<Bx/\qBl W Bx (qcV x) 76/\a'={tmps:=#[.agg (qbV B a1 c1 a2 c2 a3 c3),.agg (qsV s),Po (some ⟨w.heap.size,0,none⟩),Po (some ⟨w.heap.size+1,0,none⟩),Po (some ⟨w.heap.size+1+1,0,none⟩),Po (some ⟨w.heap.size+1+1+1,0,none⟩),.pointer (qad Bx),.agg (qbV B a1 c1 a2 c2 a3 c3),Po (some ⟨w.heap.size+1,0,none⟩),Sg s.name,.func (.func 237) #[] #[Po (some ⟨w.heap.size+1+1+1+1,0,none⟩),Po (some ⟨w.heap.size+1+1+1+1+1,0,none⟩)],.agg (qcV x),undef,undef,undef,undef,undef,undef,undef,undef,undef,undef,undef,undef,undef,undef,undef,undef,undef,undef,undef,undef,undef,undef,undef,undef,undef,undef,undef,undef,undef,undef,undef,undef,undef,undef],defers:=[]})
  (λx a' _ X Y row hs hg hr=>by obtain⟨Bx,g1,g2,g3⟩:=hs;exact⟨Bx,g1,DL Bx 76 (λ(_:Unit)=>(qcV x)) () X Y row g2 hg (λr e=>(hr r e).2),g3⟩)
  ?assign ?body ?done ?stop
 case assign=>
  rintro l F x W K ⟨⟨H,hR,M⟩,af,hB⟩ hK
  gi_wp2
  have al:=AN W (.cells (qcV x) 76);exact hK _ _ ((KeepsOthers.alloc _ _).from _) ⟨(dG _ W).alloc hB.size _,al.block _ qo⟩ ⟨⟨AK al H,AK al hR,AK al M⟩,AH af al.size,hB.alloc hB.size _⟩ ⟨W.heap.size,qo,dm W _,rfl⟩
 case body=>
  rintro l F x a' W hl _ ⟨⟨ag,az,aq⟩,af,hB⟩ ⟨Bx,bo,hX,rfl⟩ aC;have aw:=Vo s.aj F;obtain⟨n0,HN⟩:∃n,Hid (FO s.aj F=n):=⟨_,rfl⟩;rw[HN.ab]at aw ag;have H:Hid (qBl W (w.heap.size+1+1+1) (qtV n0) 83):=ag;have hR:Hid _:=az;have M:Hid _:=aq;clear ag az aq;unfold Cnt.bj at aw;obtain⟨u0,u1,u2,u3,u4,u5,u6,u7,u8,u9⟩:=aw;have o0:=AJ H.ab 0;have o1:=AJ H.ab 1;have o2:=AJ H.ab 2;have o3:=AJ H.ab 3;have o4:=AJ H.ab 4;have f0:=B7 H.ab 0;have f1:=B7 H.ab 1;have f2:=B7 H.ab 2;have f3:=B7 H.ab 3;have f4:=B7 H.ab 4;have x3:=AJ hX 3;have x4:=AJ hX 4;have x5:=AJ hX 5;have q3:=AJ M.ab 3;have bb:Bx≠w.heap.size+1+1+1:=qo
  clear hX b1 b2 b3 b4 b5 au hC;cases O:x.am
  ·cases Z:(x.ay==3)
   ·cases aa:(x.ay==4)
    ·cases J:(x.aj !=s.aj)
     ·have HC:Hid (FO s.aj (F++[x])=⟨n0.aE+1,n0.ready,n0.aO,n0.aD,n0.am⟩):=by unfold Hid;rw[D6,HN.ab];simp[DF,IC,O,Z,aa,J]
      have z:Hid _:=CN (H.ab) 0 (In i6 (n0.aE+1))
      gi_wp2
      exact⟨(KeepsOthers.setCell _ _ _).from _,⟨((dG w.heap.size W).setCell (p:=⟨w.heap.size+1+1+1,0,none⟩) (by show _<=w.heap.size+1+1+1;omega) (In i6 (n0.aE+1))),BD (b:=w.heap.size+1+1+1) (rfl) 0 (In i6 (n0.aE+1)) qo⟩,⟨by rw[HC.ab];exact z.ab,BD (b:=w.heap.size+1+1+1) (hR.ab) 0 (In i6 (n0.aE+1)) qo,BD (b:=w.heap.size+1+1+1) (M.ab) 0 (In i6 (n0.aE+1)) qo⟩,by simp only[CS];exact af,(hB.setCell (p:=⟨w.heap.size+1+1+1,0,none⟩) (by show _<=w.heap.size+1+1+1;omega) (In i6 (n0.aE+1)))⟩
     ·have HC:Hid (FO s.aj (F++[x])=⟨n0.aE+1,n0.ready,n0.aO+1,n0.aD,n0.am⟩):=by unfold Hid;rw[D6,HN.ab];simp[DF,IC,O,Z,aa,J]
      have z:Hid _:=CN (CN (H.ab) 0 (In i6 (n0.aE+1))) 2 (In i6 (n0.aO+1))
      gi_wp2
      exact⟨((KeepsOthers.setCell _ _ _).trans (KeepsOthers.setCell _ _ _)).from _,⟨(((dG w.heap.size W).setCell (p:=⟨w.heap.size+1+1+1,0,none⟩) (by show _<=w.heap.size+1+1+1;omega) (In i6 (n0.aE+1))).setCell (p:=⟨w.heap.size+1+1+1,2,none⟩) (by show _<=w.heap.size+1+1+1;omega) (In i6 (n0.aO+1))),BD (b:=w.heap.size+1+1+1) (BD (b:=w.heap.size+1+1+1) (rfl) 0 (In i6 (n0.aE+1)) qo) 2 (In i6 (n0.aO+1)) qo⟩,⟨by rw[HC.ab];exact z.ab,BD (b:=w.heap.size+1+1+1) (BD (b:=w.heap.size+1+1+1) (hR.ab) 0 (In i6 (n0.aE+1)) qo) 2 (In i6 (n0.aO+1)) qo,BD (b:=w.heap.size+1+1+1) (BD (b:=w.heap.size+1+1+1) (M.ab) 0 (In i6 (n0.aE+1)) qo) 2 (In i6 (n0.aO+1)) qo⟩,by simp only[CS];exact af,((hB.setCell (p:=⟨w.heap.size+1+1+1,0,none⟩) (by show _<=w.heap.size+1+1+1;omega) (In i6 (n0.aE+1))).setCell (p:=⟨w.heap.size+1+1+1,2,none⟩) (by show _<=w.heap.size+1+1+1;omega) (In i6 (n0.aO+1)))⟩
    ·cases J:(x.aj !=s.aj)
     ·have HC:Hid (FO s.aj (F++[x])=⟨n0.aE+1,n0.ready,n0.aO,n0.aD+1,n0.am⟩):=by unfold Hid;rw[D6,HN.ab];simp[DF,IC,O,Z,aa,J]
      have z:Hid _:=CN (CN (H.ab) 0 (In i6 (n0.aE+1))) 3 (In i6 (n0.aD+1))
      gi_wp2
      exact⟨((KeepsOthers.setCell _ _ _).trans (KeepsOthers.setCell _ _ _)).from _,⟨(((dG w.heap.size W).setCell (p:=⟨w.heap.size+1+1+1,0,none⟩) (by show _<=w.heap.size+1+1+1;omega) (In i6 (n0.aE+1))).setCell (p:=⟨w.heap.size+1+1+1,3,none⟩) (by show _<=w.heap.size+1+1+1;omega) (In i6 (n0.aD+1))),BD (b:=w.heap.size+1+1+1) (BD (b:=w.heap.size+1+1+1) (rfl) 0 (In i6 (n0.aE+1)) qo) 3 (In i6 (n0.aD+1)) qo⟩,⟨by rw[HC.ab];exact z.ab,BD (b:=w.heap.size+1+1+1) (BD (b:=w.heap.size+1+1+1) (hR.ab) 0 (In i6 (n0.aE+1)) qo) 3 (In i6 (n0.aD+1)) qo,BD (b:=w.heap.size+1+1+1) (BD (b:=w.heap.size+1+1+1) (M.ab) 0 (In i6 (n0.aE+1)) qo) 3 (In i6 (n0.aD+1)) qo⟩,by simp only[CS];exact af,((hB.setCell (p:=⟨w.heap.size+1+1+1,0,none⟩) (by show _<=w.heap.size+1+1+1;omega) (In i6 (n0.aE+1))).setCell (p:=⟨w.heap.size+1+1+1,3,none⟩) (by show _<=w.heap.size+1+1+1;omega) (In i6 (n0.aD+1)))⟩
     ·have HC:Hid (FO s.aj (F++[x])=⟨n0.aE+1,n0.ready,n0.aO+1,n0.aD+1,n0.am⟩):=by unfold Hid;rw[D6,HN.ab];simp[DF,IC,O,Z,aa,J]
      have z:Hid _:=CN (CN (CN (H.ab) 0 (In i6 (n0.aE+1))) 2 (In i6 (n0.aO+1))) 3 (In i6 (n0.aD+1))
      gi_wp2
      exact⟨(((KeepsOthers.setCell _ _ _).trans (KeepsOthers.setCell _ _ _)).trans (KeepsOthers.setCell _ _ _)).from _,⟨((((dG w.heap.size W).setCell (p:=⟨w.heap.size+1+1+1,0,none⟩) (by show _<=w.heap.size+1+1+1;omega) (In i6 (n0.aE+1))).setCell (p:=⟨w.heap.size+1+1+1,2,none⟩) (by show _<=w.heap.size+1+1+1;omega) (In i6 (n0.aO+1))).setCell (p:=⟨w.heap.size+1+1+1,3,none⟩) (by show _<=w.heap.size+1+1+1;omega) (In i6 (n0.aD+1))),BD (b:=w.heap.size+1+1+1) (BD (b:=w.heap.size+1+1+1) (BD (b:=w.heap.size+1+1+1) (rfl) 0 (In i6 (n0.aE+1)) qo) 2 (In i6 (n0.aO+1)) qo) 3 (In i6 (n0.aD+1)) qo⟩,⟨by rw[HC.ab];exact z.ab,BD (b:=w.heap.size+1+1+1) (BD (b:=w.heap.size+1+1+1) (BD (b:=w.heap.size+1+1+1) (hR.ab) 0 (In i6 (n0.aE+1)) qo) 2 (In i6 (n0.aO+1)) qo) 3 (In i6 (n0.aD+1)) qo,BD (b:=w.heap.size+1+1+1) (BD (b:=w.heap.size+1+1+1) (BD (b:=w.heap.size+1+1+1) (M.ab) 0 (In i6 (n0.aE+1)) qo) 2 (In i6 (n0.aO+1)) qo) 3 (In i6 (n0.aD+1)) qo⟩,by simp only[CS];exact af,(((hB.setCell (p:=⟨w.heap.size+1+1+1,0,none⟩) (by show _<=w.heap.size+1+1+1;omega) (In i6 (n0.aE+1))).setCell (p:=⟨w.heap.size+1+1+1,2,none⟩) (by show _<=w.heap.size+1+1+1;omega) (In i6 (n0.aO+1))).setCell (p:=⟨w.heap.size+1+1+1,3,none⟩) (by show _<=w.heap.size+1+1+1;omega) (In i6 (n0.aD+1)))⟩
   ·have aa:(x.ay==4)=false:=by have h:=eq_of_beq Z;rw[h];rfl
    cases J:(x.aj !=s.aj)
    ·have HC:Hid (FO s.aj (F++[x])=⟨n0.aE+1,n0.ready+1,n0.aO,n0.aD,n0.am⟩):=by unfold Hid;rw[D6,HN.ab];simp[DF,IC,O,Z,aa,J]
     have z:Hid _:=CN (CN (H.ab) 0 (In i6 (n0.aE+1))) 1 (In i6 (n0.ready+1))
     gi_wp2
     exact⟨((KeepsOthers.setCell _ _ _).trans (KeepsOthers.setCell _ _ _)).from _,⟨(((dG w.heap.size W).setCell (p:=⟨w.heap.size+1+1+1,0,none⟩) (by show _<=w.heap.size+1+1+1;omega) (In i6 (n0.aE+1))).setCell (p:=⟨w.heap.size+1+1+1,1,none⟩) (by show _<=w.heap.size+1+1+1;omega) (In i6 (n0.ready+1))),BD (b:=w.heap.size+1+1+1) (BD (b:=w.heap.size+1+1+1) (rfl) 0 (In i6 (n0.aE+1)) qo) 1 (In i6 (n0.ready+1)) qo⟩,⟨by rw[HC.ab];exact z.ab,BD (b:=w.heap.size+1+1+1) (BD (b:=w.heap.size+1+1+1) (hR.ab) 0 (In i6 (n0.aE+1)) qo) 1 (In i6 (n0.ready+1)) qo,BD (b:=w.heap.size+1+1+1) (BD (b:=w.heap.size+1+1+1) (M.ab) 0 (In i6 (n0.aE+1)) qo) 1 (In i6 (n0.ready+1)) qo⟩,by simp only[CS];exact af,((hB.setCell (p:=⟨w.heap.size+1+1+1,0,none⟩) (by show _<=w.heap.size+1+1+1;omega) (In i6 (n0.aE+1))).setCell (p:=⟨w.heap.size+1+1+1,1,none⟩) (by show _<=w.heap.size+1+1+1;omega) (In i6 (n0.ready+1)))⟩
    ·have HC:Hid (FO s.aj (F++[x])=⟨n0.aE+1,n0.ready+1,n0.aO+1,n0.aD,n0.am⟩):=by unfold Hid;rw[D6,HN.ab];simp[DF,IC,O,Z,aa,J]
     have z:Hid _:=CN (CN (CN (H.ab) 0 (In i6 (n0.aE+1))) 1 (In i6 (n0.ready+1))) 2 (In i6 (n0.aO+1))
     gi_wp2
     exact⟨(((KeepsOthers.setCell _ _ _).trans (KeepsOthers.setCell _ _ _)).trans (KeepsOthers.setCell _ _ _)).from _,⟨((((dG w.heap.size W).setCell (p:=⟨w.heap.size+1+1+1,0,none⟩) (by show _<=w.heap.size+1+1+1;omega) (In i6 (n0.aE+1))).setCell (p:=⟨w.heap.size+1+1+1,1,none⟩) (by show _<=w.heap.size+1+1+1;omega) (In i6 (n0.ready+1))).setCell (p:=⟨w.heap.size+1+1+1,2,none⟩) (by show _<=w.heap.size+1+1+1;omega) (In i6 (n0.aO+1))),BD (b:=w.heap.size+1+1+1) (BD (b:=w.heap.size+1+1+1) (BD (b:=w.heap.size+1+1+1) (rfl) 0 (In i6 (n0.aE+1)) qo) 1 (In i6 (n0.ready+1)) qo) 2 (In i6 (n0.aO+1)) qo⟩,⟨by rw[HC.ab];exact z.ab,BD (b:=w.heap.size+1+1+1) (BD (b:=w.heap.size+1+1+1) (BD (b:=w.heap.size+1+1+1) (hR.ab) 0 (In i6 (n0.aE+1)) qo) 1 (In i6 (n0.ready+1)) qo) 2 (In i6 (n0.aO+1)) qo,BD (b:=w.heap.size+1+1+1) (BD (b:=w.heap.size+1+1+1) (BD (b:=w.heap.size+1+1+1) (M.ab) 0 (In i6 (n0.aE+1)) qo) 1 (In i6 (n0.ready+1)) qo) 2 (In i6 (n0.aO+1)) qo⟩,by simp only[CS];exact af,(((hB.setCell (p:=⟨w.heap.size+1+1+1,0,none⟩) (by show _<=w.heap.size+1+1+1;omega) (In i6 (n0.aE+1))).setCell (p:=⟨w.heap.size+1+1+1,1,none⟩) (by show _<=w.heap.size+1+1+1;omega) (In i6 (n0.ready+1))).setCell (p:=⟨w.heap.size+1+1+1,2,none⟩) (by show _<=w.heap.size+1+1+1;omega) (In i6 (n0.aO+1)))⟩
  ·have HC:Hid (FO s.aj (F++[x])=⟨n0.aE,n0.ready,n0.aO,n0.aD,n0.am+1⟩):=by unfold Hid;rw[D6,HN.ab];simp[DF,O]
   have z:Hid _:=CN (H.ab) 4 (In i6 (n0.am+1))
   gi_wp2
   exact⟨(KeepsOthers.setCell _ _ _).from _,⟨((dG w.heap.size W).setCell (p:=⟨w.heap.size+1+1+1,4,none⟩) (by show _<=w.heap.size+1+1+1;omega) (In i6 (n0.am+1))),BD (b:=w.heap.size+1+1+1) (rfl) 4 (In i6 (n0.am+1)) qo⟩,⟨by rw[HC.ab];exact z.ab,BD (b:=w.heap.size+1+1+1) (hR.ab) 4 (In i6 (n0.am+1)) qo,BD (b:=w.heap.size+1+1+1) (M.ab) 4 (In i6 (n0.am+1)) qo⟩,by simp only[CS];exact af,(hB.setCell (p:=⟨w.heap.size+1+1+1,4,none⟩) (by show _<=w.heap.size+1+1+1;omega) (In i6 (n0.am+1)))⟩
 case done=>
  rintro D ys W hD rfl ⟨⟨ag,hR,M⟩,af,hB⟩ hK;obtain⟨n0,HN⟩:∃n,Hid (FO s.aj (ofS s.name B.ar)=n):=⟨_,rfl⟩;rw[HN.ab]at ag;have H:qBl W (w.heap.size+1+1+1) (qtV n0) 83:=ag;have aA:w.heap.size+1+1<W.heap.size:=qo
  have aS:w.heap.size+1+1≠D:=qo
  have HK:Hid _:=hK;have HR:Hid _:=hR;have o0:=AJ H 0;have o1:=AJ H 1;have o2:=AJ H 2;have o3:=AJ H 3;have o4:=AJ H 4;have p0:=AJ hR 0;have p1:=AJ hR 1;have p2:=AJ hR 2;have p3:=AJ hR 3;have p4:=AJ hR 4;have g0:=B7 hR 0;have g1:=B7 hR 1;have g2:=B7 hR 2;have g3:=B7 hR 3;have g4:=B7 hR 4;clear ag H M hK hR b1 b2 b3 b4 b5 au hC
  gi_wp2
  have ay:=(((((KeepsOthers.setCell W ⟨w.heap.size+1+1,0,none⟩ (In i6 n0.aE)).trans (KeepsOthers.setCell _ ⟨w.heap.size+1+1,1,none⟩ (In i6 n0.ready))).trans (KeepsOthers.setCell _ ⟨w.heap.size+1+1,2,none⟩ (In i6 n0.aO))).trans (KeepsOthers.setCell _ ⟨w.heap.size+1+1,3,none⟩ (In i6 n0.aD))).trans (KeepsOthers.setCell _ ⟨w.heap.size+1+1,4,none⟩ (In i6 n0.am))).same D _ HK.ab rfl;refine⟨qs,.inl ⟨_,_,rfl,run_takeDeferred ay,?_⟩⟩;have hX:=((grownBy_putObj' _ D (.deferred none)).block (w.heap.size+1+1) (by simp only[CS];exact aA) (λe=>aS (dj e))).trans (CN (CN (CN (CN (CN (HR.ab) 0 (In i6 n0.aE)) 1 (In i6 n0.ready)) 2 (In i6 n0.aO)) 3 (In i6 n0.aD)) 4 (In i6 n0.am));have y0:=AJ hX 0;have y1:=AJ hX 1;have y2:=AJ hX 2;have y3:=AJ hX 3;have y4:=AJ hX 4;refine⟨.agg (qtV n0),?_,by rw[HN.ab];rfl,(((((hB.setCell (p:=⟨w.heap.size+1+1,0,none⟩) (by show _<=w.heap.size+1+1;omega) (In i6 n0.aE)).setCell (p:=⟨w.heap.size+1+1,1,none⟩) (by show _<=w.heap.size+1+1;omega) (In i6 n0.ready)).setCell (p:=⟨w.heap.size+1+1,2,none⟩) (by show _<=w.heap.size+1+1;omega) (In i6 n0.aO)).setCell (p:=⟨w.heap.size+1+1,3,none⟩) (by show _<=w.heap.size+1+1;omega) (In i6 n0.aD)).setCell (p:=⟨w.heap.size+1+1,4,none⟩) (by show _<=w.heap.size+1+1;omega) (In i6 n0.am)).trans (belowK_b (w:=w) AG _ D _ _ qo ay rfl rfl)⟩;simp[results,Tryz.f167,go_sem,y0,y1,y2,y3,y4]
 case stop=>
  rintro D c F W _ _ h _;exact h.elim
end
section
open Go.RowKit Go.Sort Go.Maps
theorem FB(B:Bk)(s:Svc)(a1 a2 a3:qO)(c1 c2 c3:Nat)(w:World)(F:B.ar.length<=1048576)(z:Hid (Ds B.ar))(H:Hid (B.ar.length<=c2))(hC:SlC w a2 B.ar)(N:Cnt)(M:Hid (N=Ar s.aj s.name B.ar B.ar.length)):
  Calls Tryz.prog 167 #[.agg (qbV B a1 c1 a2 c2 a3 c3),.agg (qsV s)] w λe w'=>e=.returned (.agg (qtV N))/\Below w.heap.size w w':=by
 refine((iQ (n:=3)).1 (NG 3 qo B s a1 a2 a3 c1 c2 c3 w F z H hC)).mono λe w' ⟨O,hb⟩=>⟨?_,hb⟩
 rw[O]
 have J:FO s.aj (ofS s.name B.ar)=N:=by
  rw[M.ab];unfold FO Ar;rw[KH,eC]
 rw[J];rfl
end
section
open Go.RowKit Go.Sort
open Go.Value renaming int->In,slice->Sl,string->Sg,bool->Bo,pointer->Po
open Go.IntKind renaming i64->i6
theorem La(a b c d e:Int)(w:World):(Instr.field 83 (.agg #[In i6 a,In i6 b,In i6 c,In i6 d,In i6 e]) 1).run Tryz.prog w=.ok (In i6 b) w:=by
 kernel_rfl
end
section
open Go.RowKit Go.Shelf
open Go.Value renaming int->In,slice->Sl,string->Sg,bool->Bo,pointer->Po
open Go.IntKind renaming i64->i6
attribute [local go_sem] i7
def ofA{p:Cp->Prop}(nm:qB)(l:List {c // p c}):List {c // p c}:=ofG (·.1) nm l
theorem ofA_map(nm:qB)(l:List Cp):(ofA nm l.attach).map (·.1)=ofS nm l:=by
 unfold ofA ofG ofS;have h:(λc:{c // c∈l}=>c.1.aa.toList==nm.toList)=(λc:Cp=>c.aa.toList==nm.toList) ∘ Subtype.val:=rfl;rw[h,<-List.filter_map,List.attach_map_subtype_val]
theorem ofA_len(nm:qB)(l:List Cp):(ofA nm l.attach).length<=l.length:=by
 have:=dV (λc:{c // c∈l}=>c.1.aa.toList==nm.toList) l.attach;unfold ofA ofG
 simpa using this
theorem Ku(n:Nat)(hn:1<=n)(O Bt n₀:Nat)(B:Bk)(nm:qB)(a1 a2 a3:qO)(c1 c2 c3:Nat)(ae:B.ar.length<=1048576)(Z:Hid (Ds B.ar))(HK:Hid (B.ar.length<=c2))(w:World)
  (F:qBl w O (qbV B a1 c1 a2 c2 a3 c3) 28)
  (H:qBl w Bt #[Sg nm] 9) (hC:B.ar≠[]->∃b z,a2=some ⟨b,z,none⟩/\b<n₀/\LX w b z B.ar) (M:n₀<=w.heap.size):
  SeqStopsK Fence.wide n Tryz.prog 237 #[.pointer (qad O),.pointer (qad Bt)] (λx:{c // c∈B.ar}=>#[.agg (qcV x.1)]) (KpB n₀ Bt) (λys=>ys=ofA nm B.ar.attach) (λ_=>True) (ofA nm B.ar.attach).length w:=λl J Jx W Y aa _ hY h0=>
 NJ (·.1) B.ar.attach n hn l O Bt n₀ B (List.attach_map_subtype_val _) nm a1 a2 a3 c1 c2 c3 ae Z HK J Jx (λag x c W e=>by subst e;exact hY ag x W) W aa ((Y.block O (AB F).1).trans F) ((Y.block Bt (AB H).1).trans H)
  (λaf=>let ⟨b,z,e,hb,hat⟩:=hC af;⟨b,z,e,hb,λi s hs=>(hat i s hs).below Y (AF hb M)⟩) (AH M Y.size) h0
end
end Go.Proofs.YtbceafpodamnfaaGreatDoor
