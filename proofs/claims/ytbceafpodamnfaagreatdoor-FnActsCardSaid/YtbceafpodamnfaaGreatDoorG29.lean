import Derived.Test.YtbceafpodamnfaaGreatDoorG28
set_option linter.all false
set_option maxHeartbeats 8000000
set_option maxRecDepth 100000
namespace Go.Proofs.YtbceafpodamnfaaGreatDoor
section
open Go.RowKit Go.Shelf
attribute [local go_sem] Oper.semAt_some
def PL(n:Cnt):Array Value:=(qtV n)
def GW(img:Int)(l:List Cp):Cnt:=l.foldl (λn c=>Cu img c n) Cnt.none
theorem Dt(F:Int)(l:List Cp)(c:Cp):GW F (l++[c])=Cu F c (GW F l):=by simp[GW]
theorem PK(F:Int)(nm:qB):∀(l:List Cp) (n:Cnt),(ofS nm l).foldl (λn c=>Cu F c n) n=l.foldl (λn c=>CM F nm c n) n
 |[],_=>rfl
 |c::l,n=>by
  have H:=PK F nm l;unfold ofS at *;rw[List.filter_cons,gE]
  by_cases h:(c.aa.toList==nm.toList)=true
  ·rw[dB h,gE,H];simp[CM,h]
  ·rw[dC h,H];simp[CM,h]
theorem PM(F:Int)(c:Cp)(n:Cnt)(k:Nat)(h:n.bg k):(Cu F c n).bg (k+1):=by
 have:=Jq F c.aa c n k h
 simpa [CM] using this
theorem SQ(F:Int)(l:List Cp):(GW F l).bg l.length:=by
 have:∀(l:List Cp) (n:Cnt) (k:Nat),n.bg k->(l.foldl (λn c=>Cu F c n) n).bg (k+l.length):=by
  intro l
  induction l with
  |nil=>intro n k h;exact h
  |cons c l H=>
   intro n k h;have:=H _ _ (PM F c n k h);rw[gE,dL,iE l.length 1,<-eq];exact this
 have h:=this l Cnt.none 0 (by unfold Cnt.bg Cnt.none;dsimp only;omega);rw[dJ]at h;exact h
theorem P3(nm:qB)(l:List Cp):(ofS nm l).length<=l.length:=gD _ _
theorem Gv{β:Type}(B:Nat)(t:TypeId)(f:β->Array Value):Own (λs W=>W.heap[B]?=some (.cells (f s) t (0,0))):=λs X Y row H Z F=>
 (Z.block B (AB H).1 (λe=>by obtain⟨o,J,M⟩:=F B e.symm;rw[H]at J;cases J;cases M)).trans H
theorem six_new(w:World)(A B C D E F:Obj):∃H,((((((w.alloc A).alloc B).alloc C).alloc D).alloc E).alloc F)=H/\H.heap[w.heap.size+1]?=some B/\H.heap[w.heap.size+1+1]?=some C/\H.heap[w.heap.size+1+1+1]?=some D/\H.heap[w.heap.size+1+1+1+1]?=some E/\H.heap[w.heap.size+1+1+1+1+1]?=some F/\H.heap.size=w.heap.size+1+1+1+1+1+1/\Below w.heap.size w H:=by
 refine⟨_,rfl,?_⟩;have e:((((((w.alloc A).alloc B).alloc C).alloc D).alloc E).alloc F).heap=(((((w.heap.push A).push B).push C).push D).push E).push F:=rfl;rw[e];refine⟨?_,?_,?_,?_,?_,by simp,?_⟩
 ·rw[dk,dC (by simp;try omega),dk,dC (by simp;try omega),dk,dC (by simp;try omega),dk,dC (by simp),dk,dB (by simp)]
 ·rw[dk,dC (by simp;try omega),dk,dC (by simp;try omega),dk,dC (by simp),dk,dB (by simp)]
 ·rw[dk,dC (by simp;try omega),dk,dC (by simp),dk,dB (by simp)]
 ·rw[dk,dC (by simp),dk,dB (by simp)]
 ·rw[dk,dB (by simp)]
 ·exact((((((dI _ _).alloc (AG _) _).alloc (by simp) _).alloc (by simp;omega) _).alloc (by simp;omega) _).alloc (by simp;omega) _).alloc (by simp;omega) _
theorem LX(n:Nat)(hn:3<=n)(B:Bk)(s:Svc)(a1 a2 a3:qO)(c1 c2 c3:Nat)(w:World)(a6:B.ah.length<=1048576)(a5:Hid (Di B.ah))(HK:Hid (B.ah.length<=c2))(hC:SlC w a2 B.ah):
  CallsIn Fence.wide n Tryz.prog 167 #[.agg (qbV B a1 c1 a2 c2 a3 c3),.agg (qsV s)] w λe w'=>e=.returned (.agg (PL (GW s.ar (ofS s.name B.ah))))/\Below w.heap.size w w':=by
 have aT:1<=n:=by omega
 have br:=P3 s.name B.ah;refine callsIn_of_wp_marks Tryz.func167 rfl trivial ?_ rfl;simp only[Tryz.ntmps167,ek,dL,iy,Nat.reduceAdd,Nat.reduceSub,iS,Array.replicate_zero,jb,iX,eZ,fb]
 gi_wp2
 refine⟨trivial,?_⟩;refine(PJ Fence.wide (n - 1) trivial rfl B s.name a1 a2 a3 c1 c2 c3 _).mono ?_;rintro e w' ⟨rfl,rfl⟩
 gi_wp2
 obtain⟨W0,az,b1,b2,b3,b4,b5,bk,ay⟩:=six_new w (.cells (qbV B a1 c1 a2 c2 a3 c3) 28) (.cells (qsV s) 34) (.cells qtZ 83) (.cells qtZ 83) (.cells (qbV B a1 c1 a2 c2 a3 c3) 28) (.cells #[.string s.name] 9);rw[az];clear az
 have av:B.ah≠[]->∃b off,a2=some ⟨b,off,none⟩/\b<w.heap.size/\M5 W0 b off B.ah:=λa7=>
  let ⟨b,off,e,hb,hat⟩:=hC a7
  ⟨b,off,e,hb,λi c hc=>(hat i c hc).below ay hb⟩
 refine wpIn_rangeFunc_ownH rfl aT (gf:=237) (lb:=#[.pointer (some ⟨w.heap.size+1+1+1+1,0,none⟩),.pointer (some ⟨w.heap.size+1+1+1+1+1,0,none⟩)]) rfl trivial (enters_of Tryz.func237 (by kernel_rfl) rfl)
  (Nn (n - 1) (by omega) (w.heap.size+1+1+1+1) (w.heap.size+1+1+1+1+1) w.heap.size B s.name a1 a2 a3 c1 c2 c3 a6 a5 HK W0 b4 b5 av (by omega)) (λh k=>⟨h.1.trans k.1,k.2.trans h.2⟩)
  (λW l o o' hl ho hc hw=>⟨belowK_b (w:=W0) (by omega) W l o o' hl ho hc hw,by
   by_cases aA:w.heap.size+1+1+1+1+1<W.heap.size
   ·exact(grownBy_putObj' W l o').block _ aA (λe=>by have:=dg e;omega)
   ·have e1:W.heap[w.heap.size+1+1+1+1+1]?=none:=by rw[iL (by omega)]
    have e2:(W.putObj l o').heap[w.heap.size+1+1+1+1+1]?=none:=by rw[iL];have:=(AB ho).1;omega
    rw[e1,e2]⟩) (dI _ _) (λ_=>rfl)
  (λH W=>(qBl W (w.heap.size+1+1+1) (PL (GW s.ar H)) 83/\qBl W (w.heap.size+1+1) qtZ 83/\qBl W (w.heap.size+1) (qsV s) 34)/\W0.heap.size<=W.heap.size/\Below w.heap.size w W)
  (λ_ _ _=>False)
  (OwnFrom.and (OwnFrom.and (Own.from (Gv _ _ _) _) (OwnFrom.and (Own.from (Gv _ _ _) _) (Own.from (Gv _ _ _) _))) (OwnFrom.and (λ_ _ _ _ hs hg _=>AH hs hg.size) (ownFrom_below (AG _) (by omega))))
  (λ_ _ _ _ _ hs _ _=>hs)
  ⟨⟨b3,b2,b1⟩,AG _,ay⟩
  (λx a' W=>∃Bx,w.heap.size+1+1+1+1+1<Bx/\qBl W Bx (qcV x) 76/\a'={tmps:=#[.agg (qbV B a1 c1 a2 c2 a3 c3),.agg (qsV s),.pointer (some ⟨w.heap.size,0,none⟩),.pointer (some ⟨w.heap.size+1,0,none⟩),.pointer (some ⟨w.heap.size+1+1,0,none⟩),.pointer (some ⟨w.heap.size+1+1+1,0,none⟩),.pointer (qad Bx),.agg (qbV B a1 c1 a2 c2 a3 c3),.pointer (some ⟨w.heap.size+1,0,none⟩),.string s.name,.func (.func 237) #[] #[.pointer (some ⟨w.heap.size+1+1+1+1,0,none⟩),.pointer (some ⟨w.heap.size+1+1+1+1+1,0,none⟩)],.agg (qcV x),undef,undef,undef,undef,undef,undef,undef,undef,undef,undef,undef,undef,undef,undef,undef,undef,undef,undef,undef,undef,undef,undef,undef,undef,undef,undef,undef,undef,undef,undef,undef,undef,undef,undef],defers:=[]})
  (λx a' _ X Y row hs hg hr=>by obtain⟨Bx,g1,g2,g3⟩:=hs;exact⟨Bx,g1,Gv Bx 76 (λ(_:Unit)=>(qcV x)) () X Y row g2 hg (λr e=>(hr r e).2),g3⟩)
  ?assign ?body ?done ?stop
 case assign=>
  rintro l H x W K ⟨⟨M,hR,Z⟩,ai,hB⟩ hK
  gi_wp2
  have aq:=AN W (.cells (qcV x) 76);exact hK _ _ ((KeepsOthers.alloc _ _).from _) ⟨(dI _ W).alloc hB.size _,aq.block _ (by omega)⟩ ⟨⟨AK aq M (by omega),AK aq hR (by omega),AK aq Z (by omega)⟩,AH ai aq.size,hB.alloc hB.size _⟩ ⟨W.heap.size,by omega,dm W _,rfl⟩
 case body=>
  rintro l H x a' W hl _ ⟨⟨ak,aE,au⟩,ai,hB⟩ ⟨Bx,bB,hX,rfl⟩ aA;have aw:=SQ s.ar H;obtain⟨n0,HN⟩:∃n,Hid (GW s.ar H=n):=⟨_,rfl⟩;rw[HN.O]at aw ak;have M:Hid (qBl W (w.heap.size+1+1+1) (qtV n0) 83):=ak;have hR:Hid _:=aE;have Z:Hid _:=au;clear ak aE au;unfold Cnt.bg at aw;obtain⟨u0,u1,u2,u3,u4,u5,u6,u7,u8,u9⟩:=aw;have o0:=AJ M.O 0 rfl;have o1:=AJ M.O 1 rfl;have o2:=AJ M.O 2 rfl;have o3:=AJ M.O 3 rfl;have o4:=AJ M.O 4 rfl;have f0:=Bs M.O 0;have f1:=Bs M.O 1;have f2:=Bs M.O 2;have f3:=Bs M.O 3;have f4:=Bs M.O 4;have x3:=AJ hX 3 rfl;have x4:=AJ hX 4 rfl;have x5:=AJ hX 5 rfl;have q3:=AJ Z.O 3 rfl;have bi:Bx≠w.heap.size+1+1+1:=by omega
  clear hX b1 b2 b3 b4 b5 av hC;cases ag:x.au
  ·cases aa:(x.ax==3)
   ·cases af:(x.ax==4)
    ·cases J:(x.ar !=s.ar)
     ·have HC:Hid (GW s.ar (H++[x])=⟨n0.aI+1,n0.ready,n0.aW,n0.aL,n0.au⟩):=by unfold Hid;rw[Dt,HN.O];simp[Cu,G8,ag,aa,af,J]
      have F:Hid _:=CE (M.O) 0 (.int .i64 (n0.aI+1))
      gi_wp2
      exact⟨(KeepsOthers.setCell _ _ _).from _,⟨((dI w.heap.size W).setCell (p:=⟨w.heap.size+1+1+1,0,none⟩) (by show _<=w.heap.size+1+1+1;omega) (.int .i64 (n0.aI+1))),A3 (b:=w.heap.size+1+1+1) (rfl) 0 (.int .i64 (n0.aI+1)) (by omega)⟩,⟨by rw[HC.O];exact F.O,A3 (b:=w.heap.size+1+1+1) (hR.O) 0 (.int .i64 (n0.aI+1)) (by omega),A3 (b:=w.heap.size+1+1+1) (Z.O) 0 (.int .i64 (n0.aI+1)) (by omega)⟩,by simp only[CR];exact ai,(hB.setCell (p:=⟨w.heap.size+1+1+1,0,none⟩) (by show _<=w.heap.size+1+1+1;omega) (.int .i64 (n0.aI+1)))⟩
     ·have HC:Hid (GW s.ar (H++[x])=⟨n0.aI+1,n0.ready,n0.aW+1,n0.aL,n0.au⟩):=by unfold Hid;rw[Dt,HN.O];simp[Cu,G8,ag,aa,af,J]
      have F:Hid _:=CE (CE (M.O) 0 (.int .i64 (n0.aI+1))) 2 (.int .i64 (n0.aW+1))
      gi_wp2
      exact⟨((KeepsOthers.setCell _ _ _).trans (KeepsOthers.setCell _ _ _)).from _,⟨(((dI w.heap.size W).setCell (p:=⟨w.heap.size+1+1+1,0,none⟩) (by show _<=w.heap.size+1+1+1;omega) (.int .i64 (n0.aI+1))).setCell (p:=⟨w.heap.size+1+1+1,2,none⟩) (by show _<=w.heap.size+1+1+1;omega) (.int .i64 (n0.aW+1))),A3 (b:=w.heap.size+1+1+1) (A3 (b:=w.heap.size+1+1+1) (rfl) 0 (.int .i64 (n0.aI+1)) (by omega)) 2 (.int .i64 (n0.aW+1)) (by omega)⟩,⟨by rw[HC.O];exact F.O,A3 (b:=w.heap.size+1+1+1) (A3 (b:=w.heap.size+1+1+1) (hR.O) 0 (.int .i64 (n0.aI+1)) (by omega)) 2 (.int .i64 (n0.aW+1)) (by omega),A3 (b:=w.heap.size+1+1+1) (A3 (b:=w.heap.size+1+1+1) (Z.O) 0 (.int .i64 (n0.aI+1)) (by omega)) 2 (.int .i64 (n0.aW+1)) (by omega)⟩,by simp only[CR];exact ai,((hB.setCell (p:=⟨w.heap.size+1+1+1,0,none⟩) (by show _<=w.heap.size+1+1+1;omega) (.int .i64 (n0.aI+1))).setCell (p:=⟨w.heap.size+1+1+1,2,none⟩) (by show _<=w.heap.size+1+1+1;omega) (.int .i64 (n0.aW+1)))⟩
    ·cases J:(x.ar !=s.ar)
     ·have HC:Hid (GW s.ar (H++[x])=⟨n0.aI+1,n0.ready,n0.aW,n0.aL+1,n0.au⟩):=by unfold Hid;rw[Dt,HN.O];simp[Cu,G8,ag,aa,af,J]
      have F:Hid _:=CE (CE (M.O) 0 (.int .i64 (n0.aI+1))) 3 (.int .i64 (n0.aL+1))
      gi_wp2
      exact⟨((KeepsOthers.setCell _ _ _).trans (KeepsOthers.setCell _ _ _)).from _,⟨(((dI w.heap.size W).setCell (p:=⟨w.heap.size+1+1+1,0,none⟩) (by show _<=w.heap.size+1+1+1;omega) (.int .i64 (n0.aI+1))).setCell (p:=⟨w.heap.size+1+1+1,3,none⟩) (by show _<=w.heap.size+1+1+1;omega) (.int .i64 (n0.aL+1))),A3 (b:=w.heap.size+1+1+1) (A3 (b:=w.heap.size+1+1+1) (rfl) 0 (.int .i64 (n0.aI+1)) (by omega)) 3 (.int .i64 (n0.aL+1)) (by omega)⟩,⟨by rw[HC.O];exact F.O,A3 (b:=w.heap.size+1+1+1) (A3 (b:=w.heap.size+1+1+1) (hR.O) 0 (.int .i64 (n0.aI+1)) (by omega)) 3 (.int .i64 (n0.aL+1)) (by omega),A3 (b:=w.heap.size+1+1+1) (A3 (b:=w.heap.size+1+1+1) (Z.O) 0 (.int .i64 (n0.aI+1)) (by omega)) 3 (.int .i64 (n0.aL+1)) (by omega)⟩,by simp only[CR];exact ai,((hB.setCell (p:=⟨w.heap.size+1+1+1,0,none⟩) (by show _<=w.heap.size+1+1+1;omega) (.int .i64 (n0.aI+1))).setCell (p:=⟨w.heap.size+1+1+1,3,none⟩) (by show _<=w.heap.size+1+1+1;omega) (.int .i64 (n0.aL+1)))⟩
     ·have HC:Hid (GW s.ar (H++[x])=⟨n0.aI+1,n0.ready,n0.aW+1,n0.aL+1,n0.au⟩):=by unfold Hid;rw[Dt,HN.O];simp[Cu,G8,ag,aa,af,J]
      have F:Hid _:=CE (CE (CE (M.O) 0 (.int .i64 (n0.aI+1))) 2 (.int .i64 (n0.aW+1))) 3 (.int .i64 (n0.aL+1))
      gi_wp2
      exact⟨(((KeepsOthers.setCell _ _ _).trans (KeepsOthers.setCell _ _ _)).trans (KeepsOthers.setCell _ _ _)).from _,⟨((((dI w.heap.size W).setCell (p:=⟨w.heap.size+1+1+1,0,none⟩) (by show _<=w.heap.size+1+1+1;omega) (.int .i64 (n0.aI+1))).setCell (p:=⟨w.heap.size+1+1+1,2,none⟩) (by show _<=w.heap.size+1+1+1;omega) (.int .i64 (n0.aW+1))).setCell (p:=⟨w.heap.size+1+1+1,3,none⟩) (by show _<=w.heap.size+1+1+1;omega) (.int .i64 (n0.aL+1))),A3 (b:=w.heap.size+1+1+1) (A3 (b:=w.heap.size+1+1+1) (A3 (b:=w.heap.size+1+1+1) (rfl) 0 (.int .i64 (n0.aI+1)) (by omega)) 2 (.int .i64 (n0.aW+1)) (by omega)) 3 (.int .i64 (n0.aL+1)) (by omega)⟩,⟨by rw[HC.O];exact F.O,A3 (b:=w.heap.size+1+1+1) (A3 (b:=w.heap.size+1+1+1) (A3 (b:=w.heap.size+1+1+1) (hR.O) 0 (.int .i64 (n0.aI+1)) (by omega)) 2 (.int .i64 (n0.aW+1)) (by omega)) 3 (.int .i64 (n0.aL+1)) (by omega),A3 (b:=w.heap.size+1+1+1) (A3 (b:=w.heap.size+1+1+1) (A3 (b:=w.heap.size+1+1+1) (Z.O) 0 (.int .i64 (n0.aI+1)) (by omega)) 2 (.int .i64 (n0.aW+1)) (by omega)) 3 (.int .i64 (n0.aL+1)) (by omega)⟩,by simp only[CR];exact ai,(((hB.setCell (p:=⟨w.heap.size+1+1+1,0,none⟩) (by show _<=w.heap.size+1+1+1;omega) (.int .i64 (n0.aI+1))).setCell (p:=⟨w.heap.size+1+1+1,2,none⟩) (by show _<=w.heap.size+1+1+1;omega) (.int .i64 (n0.aW+1))).setCell (p:=⟨w.heap.size+1+1+1,3,none⟩) (by show _<=w.heap.size+1+1+1;omega) (.int .i64 (n0.aL+1)))⟩
   ·have af:(x.ax==4)=false:=by have h:=eq_of_beq aa;rw[h];rfl
    cases J:(x.ar !=s.ar)
    ·have HC:Hid (GW s.ar (H++[x])=⟨n0.aI+1,n0.ready+1,n0.aW,n0.aL,n0.au⟩):=by unfold Hid;rw[Dt,HN.O];simp[Cu,G8,ag,aa,af,J]
     have F:Hid _:=CE (CE (M.O) 0 (.int .i64 (n0.aI+1))) 1 (.int .i64 (n0.ready+1))
     gi_wp2
     exact⟨((KeepsOthers.setCell _ _ _).trans (KeepsOthers.setCell _ _ _)).from _,⟨(((dI w.heap.size W).setCell (p:=⟨w.heap.size+1+1+1,0,none⟩) (by show _<=w.heap.size+1+1+1;omega) (.int .i64 (n0.aI+1))).setCell (p:=⟨w.heap.size+1+1+1,1,none⟩) (by show _<=w.heap.size+1+1+1;omega) (.int .i64 (n0.ready+1))),A3 (b:=w.heap.size+1+1+1) (A3 (b:=w.heap.size+1+1+1) (rfl) 0 (.int .i64 (n0.aI+1)) (by omega)) 1 (.int .i64 (n0.ready+1)) (by omega)⟩,⟨by rw[HC.O];exact F.O,A3 (b:=w.heap.size+1+1+1) (A3 (b:=w.heap.size+1+1+1) (hR.O) 0 (.int .i64 (n0.aI+1)) (by omega)) 1 (.int .i64 (n0.ready+1)) (by omega),A3 (b:=w.heap.size+1+1+1) (A3 (b:=w.heap.size+1+1+1) (Z.O) 0 (.int .i64 (n0.aI+1)) (by omega)) 1 (.int .i64 (n0.ready+1)) (by omega)⟩,by simp only[CR];exact ai,((hB.setCell (p:=⟨w.heap.size+1+1+1,0,none⟩) (by show _<=w.heap.size+1+1+1;omega) (.int .i64 (n0.aI+1))).setCell (p:=⟨w.heap.size+1+1+1,1,none⟩) (by show _<=w.heap.size+1+1+1;omega) (.int .i64 (n0.ready+1)))⟩
    ·have HC:Hid (GW s.ar (H++[x])=⟨n0.aI+1,n0.ready+1,n0.aW+1,n0.aL,n0.au⟩):=by unfold Hid;rw[Dt,HN.O];simp[Cu,G8,ag,aa,af,J]
     have F:Hid _:=CE (CE (CE (M.O) 0 (.int .i64 (n0.aI+1))) 1 (.int .i64 (n0.ready+1))) 2 (.int .i64 (n0.aW+1))
     gi_wp2
     exact⟨(((KeepsOthers.setCell _ _ _).trans (KeepsOthers.setCell _ _ _)).trans (KeepsOthers.setCell _ _ _)).from _,⟨((((dI w.heap.size W).setCell (p:=⟨w.heap.size+1+1+1,0,none⟩) (by show _<=w.heap.size+1+1+1;omega) (.int .i64 (n0.aI+1))).setCell (p:=⟨w.heap.size+1+1+1,1,none⟩) (by show _<=w.heap.size+1+1+1;omega) (.int .i64 (n0.ready+1))).setCell (p:=⟨w.heap.size+1+1+1,2,none⟩) (by show _<=w.heap.size+1+1+1;omega) (.int .i64 (n0.aW+1))),A3 (b:=w.heap.size+1+1+1) (A3 (b:=w.heap.size+1+1+1) (A3 (b:=w.heap.size+1+1+1) (rfl) 0 (.int .i64 (n0.aI+1)) (by omega)) 1 (.int .i64 (n0.ready+1)) (by omega)) 2 (.int .i64 (n0.aW+1)) (by omega)⟩,⟨by rw[HC.O];exact F.O,A3 (b:=w.heap.size+1+1+1) (A3 (b:=w.heap.size+1+1+1) (A3 (b:=w.heap.size+1+1+1) (hR.O) 0 (.int .i64 (n0.aI+1)) (by omega)) 1 (.int .i64 (n0.ready+1)) (by omega)) 2 (.int .i64 (n0.aW+1)) (by omega),A3 (b:=w.heap.size+1+1+1) (A3 (b:=w.heap.size+1+1+1) (A3 (b:=w.heap.size+1+1+1) (Z.O) 0 (.int .i64 (n0.aI+1)) (by omega)) 1 (.int .i64 (n0.ready+1)) (by omega)) 2 (.int .i64 (n0.aW+1)) (by omega)⟩,by simp only[CR];exact ai,(((hB.setCell (p:=⟨w.heap.size+1+1+1,0,none⟩) (by show _<=w.heap.size+1+1+1;omega) (.int .i64 (n0.aI+1))).setCell (p:=⟨w.heap.size+1+1+1,1,none⟩) (by show _<=w.heap.size+1+1+1;omega) (.int .i64 (n0.ready+1))).setCell (p:=⟨w.heap.size+1+1+1,2,none⟩) (by show _<=w.heap.size+1+1+1;omega) (.int .i64 (n0.aW+1)))⟩
  ·have HC:Hid (GW s.ar (H++[x])=⟨n0.aI,n0.ready,n0.aW,n0.aL,n0.au+1⟩):=by unfold Hid;rw[Dt,HN.O];simp[Cu,ag]
   have F:Hid _:=CE (M.O) 4 (.int .i64 (n0.au+1))
   gi_wp2
   exact⟨(KeepsOthers.setCell _ _ _).from _,⟨((dI w.heap.size W).setCell (p:=⟨w.heap.size+1+1+1,4,none⟩) (by show _<=w.heap.size+1+1+1;omega) (.int .i64 (n0.au+1))),A3 (b:=w.heap.size+1+1+1) (rfl) 4 (.int .i64 (n0.au+1)) (by omega)⟩,⟨by rw[HC.O];exact F.O,A3 (b:=w.heap.size+1+1+1) (hR.O) 4 (.int .i64 (n0.au+1)) (by omega),A3 (b:=w.heap.size+1+1+1) (Z.O) 4 (.int .i64 (n0.au+1)) (by omega)⟩,by simp only[CR];exact ai,(hB.setCell (p:=⟨w.heap.size+1+1+1,4,none⟩) (by show _<=w.heap.size+1+1+1;omega) (.int .i64 (n0.au+1)))⟩
 case done=>
  rintro D ys W hD rfl ⟨⟨ak,hR,Z⟩,ai,hB⟩ hK;obtain⟨n0,HN⟩:∃n,Hid (GW s.ar (ofS s.name B.ah)=n):=⟨_,rfl⟩;rw[HN.O]at ak;have M:qBl W (w.heap.size+1+1+1) (qtV n0) 83:=ak;have aC:w.heap.size+1+1<W.heap.size:=by omega
  have a4:w.heap.size+1+1≠D:=by omega
  have HK:Hid _:=hK;have HR:Hid _:=hR;have o0:=AJ M 0 rfl;have o1:=AJ M 1 rfl;have o2:=AJ M 2 rfl;have o3:=AJ M 3 rfl;have o4:=AJ M 4 rfl;have p0:=AJ hR 0 rfl;have p1:=AJ hR 1 rfl;have p2:=AJ hR 2 rfl;have p3:=AJ hR 3 rfl;have p4:=AJ hR 4 rfl;have g0:=Bs hR 0;have g1:=Bs hR 1;have g2:=Bs hR 2;have g3:=Bs hR 3;have g4:=Bs hR 4;clear ak M Z hK hR b1 b2 b3 b4 b5 av hC
  gi_wp2
  have aF:=(((((KeepsOthers.setCell W ⟨w.heap.size+1+1,0,none⟩ (.int .i64 n0.aI)).trans (KeepsOthers.setCell _ ⟨w.heap.size+1+1,1,none⟩ (.int .i64 n0.ready))).trans (KeepsOthers.setCell _ ⟨w.heap.size+1+1,2,none⟩ (.int .i64 n0.aW))).trans (KeepsOthers.setCell _ ⟨w.heap.size+1+1,3,none⟩ (.int .i64 n0.aL))).trans (KeepsOthers.setCell _ ⟨w.heap.size+1+1,4,none⟩ (.int .i64 n0.au))).same D _ HK.O rfl;refine⟨by simp,.inl ⟨_,_,rfl,run_takeDeferred aF,?_⟩⟩;have hX:=((grownBy_putObj' _ D (.deferred none)).block (w.heap.size+1+1) (by simp only[CR];exact aC) (λe=>a4 (dg e))).trans (CE (CE (CE (CE (CE (HR.O) 0 (.int .i64 n0.aI)) 1 (.int .i64 n0.ready)) 2 (.int .i64 n0.aW)) 3 (.int .i64 n0.aL)) 4 (.int .i64 n0.au));have y0:=AJ hX 0 rfl;have y1:=AJ hX 1 rfl;have y2:=AJ hX 2 rfl;have y3:=AJ hX 3 rfl;have y4:=AJ hX 4 rfl;refine⟨.agg (qtV n0),?_,by rw[HN.O];rfl,(((((hB.setCell (p:=⟨w.heap.size+1+1,0,none⟩) (by show _<=w.heap.size+1+1;omega) (.int .i64 n0.aI)).setCell (p:=⟨w.heap.size+1+1,1,none⟩) (by show _<=w.heap.size+1+1;omega) (.int .i64 n0.ready)).setCell (p:=⟨w.heap.size+1+1,2,none⟩) (by show _<=w.heap.size+1+1;omega) (.int .i64 n0.aW)).setCell (p:=⟨w.heap.size+1+1,3,none⟩) (by show _<=w.heap.size+1+1;omega) (.int .i64 n0.aL)).setCell (p:=⟨w.heap.size+1+1,4,none⟩) (by show _<=w.heap.size+1+1;omega) (.int .i64 n0.au)).trans (belowK_b (w:=w) (AG _) _ D _ _ (by omega) aF rfl rfl)⟩;simp[results,Tryz.f167,go_sem,y0,y1,y2,y3,y4]
 case stop=>
  rintro D c H W _ _ h _;exact h.elim
end
section
open Go.RowKit Go.Sort Go.Maps
theorem F5(B:Bk)(s:Svc)(a1 a2 a3:qO)(c1 c2 c3:Nat)(w:World)(H:B.ah.length<=1048576)(F:Hid (Di B.ah))(M:Hid (B.ah.length<=c2))(hC:SlC w a2 B.ah)(N:Cnt)(J:Hid (N=BM s.ar s.name B.ah B.ah.length)):
  Calls Tryz.prog 167 #[.agg (qbV B a1 c1 a2 c2 a3 c3),.agg (qsV s)] w λe w'=>e=.returned (.agg (qtV N))/\Below w.heap.size w w':=by
 refine((callsIn_wide (n:=3)).1 (LX 3 (by omega) B s a1 a2 a3 c1 c2 c3 w H F M hC)).mono λe w' ⟨Y,hb⟩=>⟨?_,hb⟩
 rw[Y]
 have W:GW s.ar (ofS s.name B.ah)=N:=by
  rw[J.O];unfold GW BM;rw[PK,gR]
 rw[W];rfl
end
section
open Go.RowKit Go.Sort
theorem Jy(a b c d e:Int)(w:World):(Instr.field 83 (.agg #[.int .i64 a,.int .i64 b,.int .i64 c,.int .i64 d,.int .i64 e]) 1).run Tryz.prog w=.ok (.int .i64 b) w:=by
 kernel_rfl
end
end Go.Proofs.YtbceafpodamnfaaGreatDoor
