import Derived.Test.YtbceafpodamnfaaGreatDoorG31
set_option linter.all false
set_option maxHeartbeats 16000000
set_option maxRecDepth 100000
namespace Go.Proofs.YtbceafpodamnfaaGreatDoor
section
open Go.RowKit Go.Sort
theorem Rd.ab{r g:Nat}{w w':World}{q:Int}{cs:Array Value}{t:TypeId}{fr:Nat × Nat}(Z:Rd r w q)(hb:w.heap[g]?=some (.cells cs t fr))(on:A6 g w w')(hr:r≠g)(J:∀(j:Nat) (x:Int),cs[j]?≠some (Value.int .u8 x)):Rd r w' q:=by
 obtain⟨ao,n,cap,p,c1,c2,c3,c4,Y⟩:=Z;refine⟨ao,n,cap,p,(on.aB r hr).trans c1,c2,c3,c4,λhn=>?_⟩;obtain⟨b,off,W,e2,e3,e4⟩:=Y hn;refine⟨b,off,W,by rw[on.size];exact e2,e3,λi M=>?_⟩
 by_cases F:b=g
 ·subst F
  obtain⟨x,hx,_⟩:=e4 i M;rw[gH w b _ _ _ _ hb]at hx;exact absurd hx (J _ _)
 ·obtain⟨x,hx,H⟩:=e4 i M
  exact⟨x,by rw[eF (w:=w) (on.aB b F)];exact hx,H⟩
theorem WA.aP{r:Nat}{w w':World}{q:Int}{ap:qO}{l:List Bx}{a1 a2 a3:qO}{B:Bk}(h:WA w ap l a1 a2 a3 B)(J:Rd r w q)(hb:Past r w.heap.size w w'):WA w' ap l a1 a2 a3 B:=
 ⟨h.bN.aP J hb,h.ok,λM b off e=>by
  obtain⟨cs,fr,H⟩:=h.rt M b off e;refine⟨cs,fr,Bn hb H (AB H).1 ?_⟩;rintro rfl;obtain⟨_,_,_,_,F,_⟩:=J;rw[H]at F;injection F with F
  injection F with _ F
  exact absurd F (by decide)⟩
theorem WV.aP{r:Nat}{v:Value}{W W':World}{q:Int}(h:WV v W)(F:Rd r W q)(hb:Past r W.heap.size W W'):WV v W':=let ⟨ap,l,cp,a1,a2,a3,c1,c2,c3,B,e,h⟩:=h;⟨ap,l,cp,a1,a2,a3,c1,c2,c3,B,e,h.aP F hb⟩
structure ReU(r v f:Nat)(w:World)(q:Int)(wr:World):Prop where
 wx:∃(ap:qO) (l:List Bx) (cp:Nat) (a1 a2 a3:qO) (c1 c2 c3:Nat) (B:Bk),qBl wr v (qwV ap l.length cp B a1 c1 a2 c2 a3 c3) 30/\WA wr ap l a1 a2 a3 B
 vf:qBl wr f #[.slice none 0 0,.int .i64 0,.slice none 0 0,.slice none 0 0,.slice none 0 0] 30
 rd:Rd r wr q
 aP:Past r w.heap.size w wr
 rf:r<f
 fv:f<v
 n0:w.heap.size<=f
theorem w_no{ap:qO}{n cp:Nat}{aj:Int}{a1 a2 a3:qO}{n1 n2 n3 c1 c2 c3:Nat}:∀(j:Nat) (x:Int),(#[.slice ap n cp,.int .i64 aj,.slice a1 n1 c1,.slice a2 n2 c2,.slice a3 n3 c3]:Array Value)[j]?≠some (Value.int .u8 x):=by
 intro j x h;rcases j with _|_|_|_|_|j<;>first|cases h|simp at h
section
variable {r v f:Nat} {w wr w':World} {q q':Int}
theorem ReU.go(h:ReU r v f w q wr)(F:Past r wr.heap.size wr w')(Y:Rd r w' q'):ReU r v f w q' w':=by
 obtain⟨ap,l,cp,a1,a2,a3,c1,c2,c3,B,H,J⟩:=h.wx;have M:=h.rf;have W:=h.fv;exact⟨⟨ap,l,cp,a1,a2,a3,c1,c2,c3,B,Bn F H (AB H).1 (by omega),J.aP h.rd F⟩,Bn F h.vf (AB h.vf).1 (by omega),Y,h.aP.next (AG _) F,M,W,h.n0⟩
theorem ReU.aX(h:ReU r v f w q wr)(hb:Below wr.heap.size wr w'):ReU r v f w q w':=h.go (.of hb) (h.rd.below hb)
theorem ReU.step(h:ReU r v f w q wr)(F:RStep r 1 wr w'):ReU r v f w (q+1) w':=h.go F.1 (F.2 _ h.rd)
theorem ReU.mono(h:ReU r v f w q wr)(F:q<=q'):ReU r v f w q' wr:={h with rd:=h.rd.mono F}
theorem ReU.put(h:ReU r v f w q wr)(on:A6 v wr w'){ap:qO}{l:List Bx}{cp:Nat}{a1 a2 a3:qO}{c1 c2 c3:Nat}{B:Bk}(H:qBl w' v (qwV ap l.length cp B a1 c1 a2 c2 a3 c3) 30)(M:WA wr ap l a1 a2 a3 B):ReU r v f w q w':=by
 obtain⟨Z,l',J,al,W,ah,Y,aa,ai,B',F,_⟩:=h.wx;have h3:=h.rf;have h4:=h.fv;have h5:=h.n0;exact⟨⟨ap,l,cp,a1,a2,a3,c1,c2,c3,B,H,M.ab (E7 F) on⟩,(on.aB f (by omega)).trans h.vf,h.rd.ab F on (by omega) w_no,h.aP.trans (.of (on.below.mono (by omega))),h3,h4,h5⟩
end
def Pa(a b:Nat)(RA RB:World->World->Prop)(i:Nat)(W W':World):Prop:=match Nat.beq i a with
 |true=>RA W W'
 |false=>match Nat.beq i b with
  |true=>RB W W'
  |false=>Below W.heap.size W W'
theorem Fk{a b:Nat}{F RB:World->World->Prop}{i:Nat}{W W':World}(h:Pa a b F RB i W W'):(i=a/\F W W')\/RB W W'\/Below W.heap.size W W':=by
 unfold Pa at h;split at h
 ·rename_i hb
  exact .inl ⟨cX hb,h⟩
 ·split at h
  ·exact .inr (.inl h)
  ·exact .inr (.inr h)
def N6(r v f:Nat)(w:World)(W W':World):Prop:=Qq W v/\A6 v W W'/\(∀q,ReU r v f w q W->ReU r v f w q W')/\∀q,Rd r W q->Rd r W' q
def M4(r:Nat)(Q:Int)(W W':World):Prop:=(∃q,Rd r W q)/\Past r W.heap.size W W'/\Rd r W' Q
theorem WV.bF{u:Value}{i a b r v f:Nat}{w W W':World}{Q:Int}(h:WV u W)(F:Pa a b (M4 r Q) (N6 r v f w) i W W'):WV u W':=by
 rcases Fk F with⟨_,⟨q,J⟩,H,_⟩|F|F
 ·exact h.aP J H
 ·obtain⟨ap,l,cp,a1,a2,a3,c1,c2,c3,B,e,h⟩:=h
  exact⟨ap,l,cp,a1,a2,a3,c1,c2,c3,B,e,h.ab F.1 F.2.1⟩
 ·exact h.below F
theorem re_inv{i a b r v f:Nat}{w W W':World}{Q:Int}(h:ReU r v f w Q W)(F:Pa a b (M4 r Q) (N6 r v f w) i W W'):ReU r v f w Q W':=by
 rcases Fk F with⟨_,_,H,J⟩|F|F
 ·exact h.go H J
 ·exact F.2.2.1 _ h
 ·exact h.aX F
theorem Q5{i a b r v f:Nat}{w W W':World}{Q q:Int}(H:i≠a)(h:Rd r W q)(F:Pa a b (M4 r Q) (N6 r v f w) i W W'):Rd r W' q:=by
 rcases Fk F with⟨e,_⟩|F|F
 ·exact absurd e H
 ·exact F.2.2.2 _ h
 ·exact h.below F
theorem Q7{r v f:Nat}{w W W':World}{Q:Int}(F:ReU r v f w Q W)(on:A6 v W W'){ap:qO}{l:List Bx}{cp:Nat}{a1 a2 a3:qO}{c1 c2 c3:Nat}{B:Bk}(J:qBl W' v (qwV ap l.length cp B a1 c1 a2 c2 a3 c3) 30)(Y:WA W ap l a1 a2 a3 B):N6 r v f w W W':=by
 obtain⟨af,l',M,ak,Z,ah,aa,ag,ai,B',H,_⟩:=F.wx;exact⟨E7 H,on,λq h=>h.put on J Y,λq h=>h.ab H on (by have:=F.rf;have:=F.fv;omega) w_no⟩
def Ev.cells(E:Ev):Array Value:=(qeV E)
def Pk(m:Int)(v:Value)(_:World):Prop:=∃k:Int,v=.int .i64 k/\FR m k
theorem pk_l{r c:Nat}{m:Int}:IB r c (Pk m):=λ_ _ _ h _ _=>h
def BV(u:Value)(W:World):Prop:=∃(x1 x2 x3:qO) (y1 y2 y3:Nat) (C:Bk),u=.agg (qbV C x1 y1 x2 y2 x3 y3)/\BkAt W x1 x2 x3 C/\C.aD/\C.aO
theorem BV.bF{u:Value}{i a b r v f:Nat}{w W W':World}{Q:Int}(h:BV u W)(F:Pa a b (M4 r Q) (N6 r v f w) i W W'):BV u W':=by
 obtain⟨x1,Z,H,y1,y2,Y,C,e,h,J⟩:=h;refine⟨x1,Z,H,y1,y2,Y,C,e,?_,J⟩;rcases Fk F with⟨_,⟨q,hq⟩,M,_⟩|F|F
 ·exact h.aP hq M
 ·exact h.ab F.1.1 F.2.1
 ·exact h.below F
def SvV(u:Value)(_:World):Prop:=∃s:Svc,u=.agg (qsV s)/\s.name.size<=10
def MvV(u:Value)(_:World):Prop:=∃m:Mv,u=.agg m.cells/\0<=m.bl/\m.bl<=1000/\m.ev.aD
def ReIs(r:Nat)(q:Int)(w:World)(e:Ending)(w':World):Prop:=∃(aq:qO) (M:List Bx) (cq g1 k1 g2 k2 g3 k3:Nat) (B:Bk),e=.returned (.agg (qwV aq M.length cq B (qad g1) k1 (qad g2) k2 (qad g3) k3))/\WA w' aq M (qad g1) (qad g2) (qad g3) B/\BkRow w' w.heap.size g1 g2 g3 k1 k2 k3 B/\Past r w.heap.size w w'/\Rd r w' q
theorem Oa(s:qB)(h:s.size<=10):Ev.aD ⟨5,sv0,s,0,false⟩:=⟨AI _,by show s.size<=maxLen;unfold maxLen;omega⟩
theorem wish_ok(s:Svc)(h:s.name.size<=10):Ev.aD ⟨2,s,⟨#[]⟩,0,false⟩:=⟨by show s.name.size<=maxLen;unfold maxLen;omega,AI _⟩
theorem Jh(r:Nat)(q:Int)(w:World)(hR:Rd r w q)(hq:q<=100000000000):
  Calls Tryz.prog 57 #[.pointer (qad r)] w λe w'=>ReIs r (q+200000000) w e w':=by
 obtain⟨W0,cb,t0,t1,cd,a5⟩:∃W0,(w.alloc (.cells #[.slice none 0 0,.int .i64 0,.slice none 0 0,.slice none 0 0,.slice none 0 0] 30)).alloc (.cells #[.slice none 0 0,.int .i64 0,.slice none 0 0,.slice none 0 0,.slice none 0 0] 30)=W0/\qBl W0 (w.heap.size) #[.slice none 0 0,.int .i64 0,.slice none 0 0,.slice none 0 0,.slice none 0 0] 30/\qBl W0 (w.heap.size+1) #[.slice none 0 0,.int .i64 0,.slice none 0 0,.slice none 0 0,.slice none 0 0] 30/\W0.heap.size=w.heap.size+1+1/\Below w.heap.size w W0:=by
  obtain⟨h1,h2,h3⟩:=B1 w (.cells #[.slice none 0 0,.int .i64 0,.slice none 0 0,.slice none 0 0,.slice none 0 0] 30) (.cells #[.slice none 0 0,.int .i64 0,.slice none 0 0,.slice none 0 0,.slice none 0 0] 30);exact⟨_,rfl,h1,h2,h3,(AN w _).alloc (by show w.heap.size<=(w.heap.push _).size;simp) _⟩
 have J0:Hid (ReU r (w.heap.size+1) w.heap.size w q W0):=⟨⟨none,[],0,none,none,none,0,0,0,noBk,t1,P5 _⟩,t0,hR.below a5,.of a5,hR.lt,by omega,AG _⟩;obtain⟨f,hf⟩:∃f,w.heap.size=f:=⟨_,rfl⟩;obtain⟨v,hv⟩:∃v,f+1=v:=⟨_,rfl⟩;have VZ:Hid _:=t1;rw[hf,hv]at J0;rw[hf,hv]at VZ;clear t0 t1 hR cd a5;go_enter Tryz.func57,Tryz.ntmps57
 go_upto_region 2 with((with_reducible show wpList _ _ _ _ _ _);refine AM rfl 30 (.tmp 3) (.tmp 6) rfl v 0 #[.slice none 0 0,.int .i64 0,.slice none 0 0,.slice none 0 0,.slice none 0 0] rfl rfl 30 #[.slice none 0 0,.int .i64 0,.slice none 0 0,.slice none 0 0,.slice none 0 0] VZ.O AO (AD rfl) (by simp[Value.oneCell']) ?_;intro wi hz on;have JI:Hid (ReU r v f w q wi):=J0.O.put (ap:=none) (l:=[]) (cp:=0) (a1:=none) (a2:=none) (a3:=none) (c1:=0) (c2:=0) (c3:=0) (B:=noBk) on hz.O (P5 _);clear hz on;simp only[Act.put])
 clear hf hv cb J0 VZ;have J0:Hid _:=JI.O;obtain⟨ap,l,cp,a1,a2,a3,c1,c2,c3,B,Y,Z⟩:=J0.O.wx;have VX:Hid _:=Y;have HA:Hid (WA _ ap l a1 a2 a3 B):=Z;clear Y Z
 go_upto_region 3 with(first|((with_reducible show wpList _ _ _ _ _ _);refine dD rfl 30 (.tmp 3) rfl v rfl 30 (qwV ap l.length cp B a1 c1 a2 c2 a3 c3) (0,0) _ VX.O Tryz.underlying30 rfl AO ?_)|(go_at_call 49;refine(JL l ap cp B a1 a2 a3 c1 c2 c3 ⟨0,0,⟨5,sv0,⟨#[97]⟩,0,false⟩⟩ _ (fB 0) (by show(0:Int)<=1000;decide) (Oa _ (by decide)) HA.O).mono ?_;rintro e w4 ⟨vw,vq,rfl,hv⟩;obtain⟨aq,M,cq,z1,z2,z3,d1,d2,d3,D,rfl,F,al⟩:=wis_iff.1 hv;have aL:Hid (WA w4 aq M z1 z2 z3 D):=F;have J4:Hid _:=J0.O.aX al;have aF:Hid _:=AK al VX.O (AB VX.O).1;clear hv F al)|((with_reducible show wpList _ _ _ _ _ _);refine AM rfl 30 (.tmp 3) (.tmp 12) rfl v 0 (qwV aq M.length cq D z1 d1 z2 d2 z3 d3) rfl rfl 30 (qwV ap l.length cp B a1 c1 a2 c2 a3 c3) aF.O AO (AD rfl) (by simp[Value.oneCell']) ?_;intro w1 hz on;have J1:Hid (ReU r v f w _ w1):=J4.O.put on hz.O aL.O;clear hz on J4 aL aF;simp only[Act.put]))
 clear VX HA J0
 go_upto_if 16 with(go_at_call 38;refine(CS r 3 _ _ (by omega) (by omega) J1.O.rd (by omega)).mono ?_;rintro e w2 ⟨k2,rfl,hk,hs⟩;have J2:Hid _:=J1.O.step hs;have ev:=hk.1;have df:=hk.2.1 (by omega);clear hk hs)
 go_cut [] from 6 (λwx=>ReU r v f w (q+2) wx)
 case first=>
  by_cases bo:0<k2
  ·have bU:decide (0<k2)=true:=by simp[bo]
   obtain⟨ap,l,cp,a1,a2,a3,c1,c2,c3,B,Y,Z⟩:=J2.O.wx;have VX:Hid _:=Y;have HA:Hid (WA _ ap l a1 a2 a3 B):=Z;clear Y Z
   go_wp2_with (first|((with_reducible show wpList _ _ _ _ _ _);refine dD rfl 30 (.tmp 3) rfl v rfl 30 (qwV ap l.length cp B a1 c1 a2 c2 a3 c3) (0,0) _ VX.O Tryz.underlying30 rfl AO ?_)|(go_at_call 49;refine(JL l ap cp B a1 a2 a3 c1 c2 c3 ⟨0,0,⟨5,sv0,⟨#[98]⟩,0,false⟩⟩ _ (fB 0) (by show(0:Int)<=1000;decide) (Oa _ (by decide)) HA.O).mono ?_;rintro e w4 ⟨vw,vq,rfl,hv⟩;obtain⟨aq,M,cq,z1,z2,z3,d1,d2,d3,D,rfl,F,al⟩:=wis_iff.1 hv;have aL:Hid (WA w4 aq M z1 z2 z3 D):=F;have J4:Hid _:=J2.O.aX al;have aF:Hid _:=AK al VX.O (AB VX.O).1;clear hv F al)|((with_reducible show wpList _ _ _ _ _ _);refine AM rfl 30 (.tmp 3) (.tmp 22) rfl v 0 (qwV aq M.length cq D z1 d1 z2 d2 z3 d3) rfl rfl 30 (qwV ap l.length cp B a1 c1 a2 c2 a3 c3) aF.O AO (AD rfl) (by simp[Value.oneCell']) ?_;intro w3 hz on;have J3:Hid (ReU r v f w _ w3):=J4.O.put on hz.O aL.O;clear hz on J4 aL aF;simp only[Act.put]))
   go_meet;exact J3.O.mono (by omega)
  ·have bU:decide (0<k2)=false:=by simp[bo]
   go_wp2;go_meet;exact J2.O.mono (by omega)
 clear J1 J2;have J3:Hid (ReU r v f w (q+2) wc):=hcut;clear hcut
 go_upto_region 6 with(go_at_call 38;refine(CS r 2 _ _ (by omega) (by omega) J3.O.rd (by omega)).mono ?_;rintro e w4 ⟨k4,rfl,hk,hs⟩;have J4:Hid _:=J3.O.step hs;have eb:=hk.1;have en:=hk.2.1 (by omega);clear hk hs)
 obtain⟨n4,br⟩:∃n4:Nat,1+k4=n4:=⟨(1+k4).toNat,by omega⟩;have bt:n4<=2:=by omega
 rw[br];clear J3 br
 go_loopw [4] (λiv wr=>∃m:Nat,iv=.int .i64 m/\m<=2/\ReU r v f w (q+10+(2 - (m:Int))*100) wr) (λi _=>(intOf i).toNat)
 case atStart=>exact⟨n4,rfl,bt,J4.O.mono (by omega)⟩
 case round=>
  clear J4;obtain⟨m,rfl,hm,hJ⟩:=hrel;have JR:Hid (ReU r v f w (q+10+(2 - (m:Int))*100) wr):=hJ;clear hJ
  by_cases au:m=0
  rotate_left
  ·obtain⟨m',rfl⟩:∃m',m=m'+1:=⟨m - 1,by omega⟩
   have a6:decide (0<((m'+1:Nat):Int))=true:=dO (by omega)
   go_upto_region 8 with fail
   refine EF 10 rfl 2 (λW=>ReU r v f w (q+10+(2 - ((m'+1:Nat):Int))*100+100) W) (λW=>Rd r W (q+10+(2 - ((m'+1:Nat):Int))*100)) (Pa 2 9 (M4 r (q+10+(2 - ((m'+1:Nat):Int))*100+100)) (N6 r v f w)) (by kernel_rfl) (by kernel_rfl) ((JR.O.aX (JK _)).mono (by omega)) (JR.O.rd.below (JK _)) (λi W W' h hr=>re_inv h hr) (λi W W' hi h hr=>Q5 hi h hr) ?_;refine Al (WV) (λi hi _ W W' h hr=>h.bF hr) ?_ ?_
   ·intro V W K A hI hZ H F J
    simp only[pA]at F;clear H;obtain rfl:=F;obtain⟨ap,l,cp,a1,a2,a3,c1,c2,c3,B,Y,Z⟩:=hI.wx;refine dD rfl 30 (.tmp 3) rfl v rfl 30 (qwV ap l.length cp B a1 c1 a2 c2 a3 c3) (0,0) _ Y Tryz.underlying30 rfl AO ?_;go_wp2;exact J.O _ _ brf ⟨ap,l,cp,a1,a2,a3,c1,c2,c3,B,rfl,Z⟩
   apply AX
   ·intro V W K A hI hZ H F J
    simp only[pA]at F;clear H;obtain rfl:=F;go_wp2;exact J.O _ brf
   refine Al (SvV) (λ_ _ _ _ _ h _=>h) ?_ ?_
   ·intro V W K A hI hZ H F J
    have d1:V 1=_:=H 1 (by kernel_rfl);simp only[pA,d1]at F;clear H d1;obtain rfl:=F;have h0:=hZ rfl
    go_wp2_with fail
    refine(Nh r _ W h0 (by omega)).mono ?_;rintro e w2 ⟨s,rfl,hs,hp,hr⟩;go_wp2;exact J.O _ _ ⟨⟨_,h0⟩,hp,hr⟩ ⟨s,rfl,hs⟩
   refine Al (λu _=>∃s:Svc,u=.agg (Ev.cells ⟨2,s,⟨#[]⟩,0,false⟩)/\s.name.size<=10) (λ_ _ _ _ _ h _=>h) ?_ ?_
   ·intro V W K A hI hZ H F J
    have d2:(SvV) (V 2) W:=H 2 (by kernel_rfl);simp only[pA]at F;clear H;generalize V 2=x2 at d2 F;obtain rfl:=F;obtain⟨s,rfl,hs⟩:=d2;go_wp2;exact J.O _ _ brf ⟨s,rfl,hs⟩
   refine Al (MvV) (λ_ _ _ _ _ h _=>h) ?_ ?_
   ·intro V W K A hI hZ H F J
    have d3:(λu _=>∃s:Svc,u=.agg (Ev.cells ⟨2,s,⟨#[]⟩,0,false⟩)/\s.name.size<=10) (V 3) W:=H 3 (by kernel_rfl);simp only[pA]at F;clear H;generalize V 3=x3 at d3 F;obtain rfl:=F;obtain⟨s,he,hs⟩:=d3;simp only[Ev.cells]at he;subst he;go_wp2;exact J.O _ _ brf ⟨⟨0,0,⟨2,s,⟨#[]⟩,0,false⟩⟩,rfl,fB 0,by show(0:Int)<=1000;decide,wish_ok s hs⟩
   refine Al (λu W=>∃vw vq,u=.tuple #[vw,vq]/\WV vw W) (λi hi _ W W' ⟨vw,vq,e,h⟩ hr=>⟨vw,vq,e,h.bF hr⟩) ?_ ?_
   ·intro V W K A hI hZ H F J
    have d0:(WV) (V 0) W:=H 0 (by kernel_rfl);have d4:(MvV) (V 4) W:=H 4 (by kernel_rfl);simp only[pA]at F;clear H;generalize V 0=x0 at d0 F;generalize V 4=x4 at d4 F;obtain rfl:=F;obtain⟨ap,l,cp,a1,a2,a3,c1,c2,c3,B,rfl,Z⟩:=d0;obtain⟨m,hm,au,aS,aG⟩:=d4;simp only[Mv.cells]at hm;subst hm
    go_wp2_with fail
    refine(JL l ap cp B a1 a2 a3 c1 c2 c3 m W au aS aG Z).mono ?_;rintro e w4 ⟨vw,vq,rfl,hv⟩;obtain⟨aq,M,cq,z1,z2,z3,d1,d2,d3,D,rfl,F,al⟩:=wis_iff.1 hv;go_wp2;exact J.O _ _ al ⟨_,_,rfl,aq,M,cq,z1,z2,z3,d1,d2,d3,D,rfl,F⟩
   refine Al (λu W=>∃vw vq,u=.tuple #[vw,vq]/\WV vw W) (λi hi _ W W' ⟨vw,vq,e,h⟩ hr=>⟨vw,vq,e,h.bF hr⟩) ?_ ?_
   ·intro V W K A hI hZ H F J
    have d5:(λu W=>∃vw vq,u=.tuple #[vw,vq]/\WV vw W) (V 5) W:=H 5 (by kernel_rfl);simp only[pA]at F;clear H;generalize V 5=x5 at d5 F;obtain rfl:=F;obtain⟨vw,vq,rfl,h⟩:=d5;go_wp2;exact J.O _ _ brf ⟨vw,vq,rfl,h⟩
   refine Al (WV) (λi hi _ W W' h hr=>h.bF hr) ?_ ?_
   ·intro V W K A hI hZ H F J
    have d6:(λu W=>∃vw vq,u=.tuple #[vw,vq]/\WV vw W) (V 6) W:=H 6 (by kernel_rfl);simp only[pA]at F;clear H;generalize V 6=x6 at d6 F;obtain rfl:=F;obtain⟨vw,vq,rfl,h⟩:=d6;go_wp2;exact J.O _ _ brf h
   refine Al (λ_ _=>True) (λ_ _ _ _ _ _ _=>trivial) ?_ ?_
   ·intro V W K A hI hZ H F J
    have d6:(λu W=>∃vw vq,u=.tuple #[vw,vq]/\WV vw W) (V 6) W:=H 6 (by kernel_rfl);simp only[pA]at F;clear H;generalize V 6=x6 at d6 F;obtain rfl:=F;obtain⟨vw,vq,rfl,h⟩:=d6;go_wp2;exact J.O _ _ brf trivial
   refine Al (λ_ _=>True) (λ_ _ _ _ _ _ _=>trivial) ?_ ?_
   ·intro V W K A hI hZ H F J
    have d7:(WV) (V 7) W:=H 7 (by kernel_rfl);simp only[pA]at F;clear H;generalize V 7=x7 at d7 F;obtain rfl:=F;obtain⟨aq,M,cq,z1,z2,z3,d1,d2,d3,D,rfl,F⟩:=d7;obtain⟨ap,l,cp,a1,a2,a3,c1,c2,c3,B,Y,Z⟩:=hI.wx;have a8:Hid _:=hI;have bl:Hid _:=Y;have bj:Hid (WA W aq M z1 z2 z3 D):=F;clear Y Z F hI;refine AM rfl 30 (.tmp 3) (.tmp 38) rfl v 0 (qwV aq M.length cq D z1 d1 z2 d2 z3 d3) rfl rfl 30 (qwV ap l.length cp B a1 c1 a2 c2 a3 c3) bl.O AO (AD rfl) (by simp[Value.oneCell']) ?_;intro w7 hz on;have HR:Hid (N6 r v f w W w7):=Q7 a8.O on hz.O bj.O;clear hz on;go_wp2;exact J.O undef _ HR.O trivial
   intro V W A hI hS F;have d1:V 1=_:=hS 1 (by decide);simp only[pA,d1]at F;clear hS d1;obtain rfl:=F;have JN:Hid _:=hI;clear hI;go_wp2
   go_roundw
   case rel=>exact⟨m',by go_num,by omega,JN.O.mono (by omega)⟩
   case measure=>simp[intOf]
  subst au;have a6:decide (0<((0:Nat):Int))=false:=by decide
  go_upto_region 10 with(go_at_call 38;refine(CS r 50 _ _ (by omega) (by omega) JR.O.rd (by omega)).mono ?_;rintro e w5 ⟨k5,rfl,hk,hs⟩;have J5:Hid _:=JR.O.step hs;have dc:=hk.1;have da:=hk.2.1 (by omega);clear hk hs)
  obtain⟨n5,b9⟩:∃n5:Nat,k5=n5:=⟨k5.toNat,by omega⟩;subst b9;clear JR
  go_loopw [5] (λiv wr=>∃m:Nat,iv=.int .i64 m/\m<=49/\ReU r v f w (q+1000+(49 - (m:Int))*3000000) wr) (λi _=>(intOf i).toNat)
  case atStart=>exact⟨n5,rfl,by omega,J5.O.mono (by omega)⟩
  case round=>
   clear J5;obtain⟨m,rfl,hm,hJ⟩:=hrel;have J6:Hid (ReU r v f w (q+1000+(49 - (m:Int))*3000000) wr):=hJ;clear hJ
   by_cases au:m=0
   ·subst au
    have a6:decide (0<((0:Nat):Int))=false:=by decide
    obtain⟨ap,l,cp,a1,a2,a3,c1,c2,c3,B,Y,Z⟩:=J6.O.wx;have VX:Hid _:=Y;have HA:Hid (WA _ ap l a1 a2 a3 B):=Z;clear Y Z
    go_wp2_with (first
     |((with_reducible show wpList _ _ _ _ _ _);refine dD rfl 30 (.tmp 3) rfl v rfl 30 (qwV ap l.length cp B a1 c1 a2 c2 a3 c3) (0,0) _ VX.O Tryz.underlying30 rfl AO ?_)
     |(go_at_call 50;refine(PI l ap cp B a1 a2 a3 c1 c2 c3 _ HA.O).mono ?_;rintro e w9 ⟨aq,M,cq,g1,k1,g2,k2,g3,k3,rfl,F,bz,bS⟩;have bk:Hid (WA w9 aq M _ _ _ B):=F;have ci:Hid _:=bz;have J9:Hid _:=J6.O.aX bS;clear F bS bz)
     |((with_reducible show wpList _ _ _ _ _ _);refine AM rfl 30 (.tmp 2) (.tmp 70) rfl f 0 (qwV aq M.length cq B (qad g1) k1 (qad g2) k2 (qad g3) k3) rfl rfl 30 #[.slice none 0 0,.int .i64 0,.slice none 0 0,.slice none 0 0,.slice none 0 0] J9.O.vf AO (AD rfl) (by simp[Value.oneCell']) ?_;intro wz hz on;simp only[Act.put]))
    refine dS (eU rfl _ wz f 30 (qwV aq M.length cq B (qad g1) k1 (qad g2) k2 (qad g3) k3) (0,0) _ rfl hz.O Tryz.underlying30 rfl AO) rfl ?_;have h5:=J9.O.n0;have h6:=J9.O.rf;have h7:=J6.O.aP.size;exact⟨aq,M,cq,g1,k1,g2,k2,g3,k3,B,rfl,bk.O.ab (E7 J9.O.vf) on,(ci.O.n h7).bn (Gf J9.O.vf on),J9.O.aP.trans (.of (on.below.mono h5)),(J9.O.rd.ab J9.O.vf on (by omega) w_no).mono (by omega)⟩
   obtain⟨m',rfl⟩:∃m',m=m'+1:=⟨m - 1,by omega⟩;have a6:decide (0<((m'+1:Nat):Int))=true:=dO (by omega)
   go_upto_region 12 with fail
   refine EF 10 rfl 4 (λW=>ReU r v f w (q+1000+(49 - ((m'+1:Nat):Int))*3000000+2000010) W) (λW=>Rd r W (q+1000+(49 - ((m'+1:Nat):Int))*3000000)) (Pa 4 9 (M4 r (q+1000+(49 - ((m'+1:Nat):Int))*3000000+2000010)) (N6 r v f w)) (by kernel_rfl) (by kernel_rfl) ((J6.O.aX (JK _)).mono (by omega)) (J6.O.rd.below (JK _)) (λi W W' h hr=>re_inv h hr) (λi W W' hi h hr=>Q5 hi h hr) ?_;refine Al (WV) (λi hi _ W W' h hr=>h.bF hr) ?_ ?_
   ·intro V W K A hI hZ H F J
    simp only[pA]at F;clear H;obtain rfl:=F;obtain⟨ap,l,cp,a1,a2,a3,c1,c2,c3,B,Y,Z⟩:=hI.wx;refine dD rfl 30 (.tmp 3) rfl v rfl 30 (qwV ap l.length cp B a1 c1 a2 c2 a3 c3) (0,0) _ Y Tryz.underlying30 rfl AO ?_;go_wp2;exact J.O _ _ brf ⟨ap,l,cp,a1,a2,a3,c1,c2,c3,B,rfl,Z⟩
   apply AX
   ·intro V W K A hI hZ H F J
    simp only[pA]at F;clear H;obtain rfl:=F;go_wp2;exact J.O _ brf
   apply AX
   ·intro V W K A hI hZ H F J
    simp only[pA]at F;clear H;obtain rfl:=F;go_wp2;exact J.O _ brf
   refine Al (BV) (λi hi _ W W' h hr=>h.bF hr) ?_ ?_
   ·intro V W K A hI hZ H F J
    have d2:V 2=_:=H 2 (by kernel_rfl);simp only[pA,d2]at F;clear H d2;obtain rfl:=F;obtain⟨ap,l,cp,a1,a2,a3,c1,c2,c3,B,Y,Z⟩:=hI.wx;have e1:W.cell? ⟨v,1,none⟩=some (.int .i64 B.aj):=AJ Y 1 rfl;have e2:W.cell? ⟨v,2,none⟩=some (.slice a1 B.af.length c1):=AJ Y 2 rfl;have e3:W.cell? ⟨v,3,none⟩=some (.slice a2 B.ah.length c2):=AJ Y 3 rfl;have e4:W.cell? ⟨v,4,none⟩=some (.slice a3 B.ak.length c3):=AJ Y 4 rfl;clear Y;go_wp2;exact J.O _ _ brf ⟨a1,a2,a3,c1,c2,c3,B,rfl,Z.bN.bj,Z.ok.bz,Z.ok.bs⟩
   refine Al (MvV) (λ_ _ _ _ _ h _=>h) ?_ ?_
   ·intro V W K A hI hZ H F J
    have d1:V 1=_:=H 1 (by kernel_rfl);have d3:(BV) (V 3) W:=H 3 (by kernel_rfl);simp only[pA,d1]at F;clear H d1;generalize V 3=x3 at d3 F;obtain rfl:=F;have h0:=hZ rfl;obtain⟨x1,x2,x3,y1,y2,y3,C,rfl,hC,ct,cf⟩:=d3
    go_wp2_with fail
    refine(move_any r _ C x1 x2 x3 y1 y2 y3 W cf.tn ct hC h0 (by omega)).mono ?_;rintro e w2 ⟨m,rfl,⟨_,_,au,aS,aG⟩,hp,hr⟩;go_wp2;exact J.O _ _ ⟨⟨_,h0⟩,hp,hr⟩ ⟨m,rfl,au,by omega,aG⟩
   refine Al (λu W=>∃vw vq,u=.tuple #[vw,vq]/\WV vw W) (λi hi _ W W' ⟨vw,vq,e,h⟩ hr=>⟨vw,vq,e,h.bF hr⟩) ?_ ?_
   ·intro V W K A hI hZ H F J
    have d0:(WV) (V 0) W:=H 0 (by kernel_rfl);have d4:(MvV) (V 4) W:=H 4 (by kernel_rfl);simp only[pA]at F;clear H;generalize V 0=x0 at d0 F;generalize V 4=x4 at d4 F;obtain rfl:=F;obtain⟨ap,l,cp,a1,a2,a3,c1,c2,c3,B,rfl,Z⟩:=d0;obtain⟨m,hm,au,aS,aG⟩:=d4;simp only[Mv.cells]at hm;subst hm
    go_wp2_with fail
    refine(JL l ap cp B a1 a2 a3 c1 c2 c3 m W au aS aG Z).mono ?_;rintro e w4 ⟨vw,vq,rfl,hv⟩;obtain⟨aq,M,cq,z1,z2,z3,d1,d2,d3,D,rfl,F,al⟩:=wis_iff.1 hv;go_wp2;exact J.O _ _ al ⟨_,_,rfl,aq,M,cq,z1,z2,z3,d1,d2,d3,D,rfl,F⟩
   refine Al (λu W=>∃vw vq,u=.tuple #[vw,vq]/\WV vw W) (λi hi _ W W' ⟨vw,vq,e,h⟩ hr=>⟨vw,vq,e,h.bF hr⟩) ?_ ?_
   ·intro V W K A hI hZ H F J
    have d5:(λu W=>∃vw vq,u=.tuple #[vw,vq]/\WV vw W) (V 5) W:=H 5 (by kernel_rfl);simp only[pA]at F;clear H;generalize V 5=x5 at d5 F;obtain rfl:=F;obtain⟨vw,vq,rfl,h⟩:=d5;go_wp2;exact J.O _ _ brf ⟨vw,vq,rfl,h⟩
   refine Al (WV) (λi hi _ W W' h hr=>h.bF hr) ?_ ?_
   ·intro V W K A hI hZ H F J
    have d6:(λu W=>∃vw vq,u=.tuple #[vw,vq]/\WV vw W) (V 6) W:=H 6 (by kernel_rfl);simp only[pA]at F;clear H;generalize V 6=x6 at d6 F;obtain rfl:=F;obtain⟨vw,vq,rfl,h⟩:=d6;go_wp2;exact J.O _ _ brf h
   refine Al (λ_ _=>True) (λ_ _ _ _ _ _ _=>trivial) ?_ ?_
   ·intro V W K A hI hZ H F J
    have d6:(λu W=>∃vw vq,u=.tuple #[vw,vq]/\WV vw W) (V 6) W:=H 6 (by kernel_rfl);simp only[pA]at F;clear H;generalize V 6=x6 at d6 F;obtain rfl:=F;obtain⟨vw,vq,rfl,h⟩:=d6;go_wp2;exact J.O _ _ brf trivial
   refine Al (λ_ _=>True) (λ_ _ _ _ _ _ _=>trivial) ?_ ?_
   ·intro V W K A hI hZ H F J
    have d7:(WV) (V 7) W:=H 7 (by kernel_rfl);simp only[pA]at F;clear H;generalize V 7=x7 at d7 F;obtain rfl:=F;obtain⟨aq,M,cq,z1,z2,z3,d1,d2,d3,D,rfl,F⟩:=d7;obtain⟨ap,l,cp,a1,a2,a3,c1,c2,c3,B,Y,Z⟩:=hI.wx;have a8:Hid _:=hI;have bl:Hid _:=Y;have bj:Hid (WA W aq M z1 z2 z3 D):=F;clear Y Z F hI;refine AM rfl 30 (.tmp 3) (.tmp 53) rfl v 0 (qwV aq M.length cq D z1 d1 z2 d2 z3 d3) rfl rfl 30 (qwV ap l.length cp B a1 c1 a2 c2 a3 c3) bl.O AO (AD rfl) (by simp[Value.oneCell']) ?_;intro w7 hz on;have HR:Hid (N6 r v f w W w7):=Q7 a8.O on hz.O bj.O;clear hz on;go_wp2;exact J.O undef _ HR.O trivial
   intro V W A hI hS F;have d1:V 1=_:=hS 1 (by decide);have d2:V 2=_:=hS 2 (by decide);simp only[pA,d1,d2]at F;clear hS d1 d2;obtain rfl:=F;have J7:Hid _:=hI;clear hI
   go_upto_if 57 with(go_at_call 38;refine(CS r 8 _ _ (by omega) (by omega) J7.O.rd (by omega)).mono ?_;rintro e w8 ⟨k8,rfl,hk,hs⟩;have J8:Hid _:=J7.O.step hs;have dr:=hk.1;have c7:=hk.2.1 (by omega);clear hk hs)
   by_cases bM:k8=0
   rotate_left
   ·have bU:(k8==0)=false:=by simp[bM]
    go_wp2
    go_roundw
    case rel=>exact⟨m',by go_num,by omega,J8.O.mono (by omega)⟩
    case measure=>simp[intOf]
   subst bM;obtain⟨ap,l,cp,a1,a2,a3,c1,c2,c3,B,Y,Z⟩:=J8.O.wx;have VX:Hid _:=Y;have HA:Hid (WA _ ap l a1 a2 a3 B):=Z;clear Y Z;have JR:Hid _:=J8.O;have bR:=(AB VX.O).1;have bH:v≠r:=by have:=J8.O.rf;have:=J8.O.fv;omega
   have bX:=J8.O.rd
   go_upto_region 14 with fail
   refine EE 11 r 1 _ (by kernel_rfl) (by kernel_rfl) bX ?_;apply Q6
   ·intro V W K A hW hR H F J
    simp only[pA]at F;clear H;obtain rfl:=F;refine dD rfl 30 (.tmp 3) rfl v rfl 30 (qwV ap l.length cp B a1 c1 a2 c2 a3 c3) (0,0) _ (Bn hW VX.O bR bH) Tryz.underlying30 rfl AO ?_;go_wp2;exact J.O _ (RStep.re _)
   apply Q6
   ·intro V W K A hW hR H F J
    simp only[pA]at F;clear H;obtain rfl:=F;go_wp2;exact J.O _ (RStep.re _)
   refine Dh (Pk 7) pk_l ?_ ?_
   ·intro V W K A hW hR H F J
    have d1:V 1=_:=H 1 (by kernel_rfl);simp only[pA,d1]at F;clear H d1;obtain rfl:=F
    go_wp2_with fail
    refine(CS r 7 _ W (by omega) (by omega) hR (by omega)).mono ?_;rintro e w2 ⟨k,rfl,hk,hs⟩;go_wp2;exact J.O _ _ hs ⟨k,rfl,hk⟩
   apply Q6
   ·intro V W K A hW hR H F J
    simp only[pA]at F;clear H;obtain rfl:=F;go_wp2;exact J.O _ (RStep.re _)
   refine Dh (Pk 6) pk_l ?_ ?_
   ·intro V W K A hW hR H F J
    have d3:V 3=_:=H 3 (by kernel_rfl);simp only[pA,d3]at F;clear H d3;obtain rfl:=F
    go_wp2_with fail
    refine(CS r 6 _ W (by omega) (by omega) hR (by omega)).mono ?_;rintro e w2 ⟨k,rfl,hk,hs⟩;go_wp2;exact J.O _ _ hs ⟨k,rfl,hk⟩
   refine Dh (λu _=>∃k:Int,u=.int .i64 k) (λ_ _ _ h _ _=>h) ?_ ?_
   ·intro V W K A hW hR H F J
    have d4:(Pk 6) (V 4) W:=H 4 (by kernel_rfl);simp only[pA]at F;clear H;generalize V 4=x4 at d4 F;obtain rfl:=F;obtain⟨k,rfl,hk⟩:=d4;go_wp2;exact J.O _ _ (RStep.re _) ⟨_,rfl⟩
   apply Q6
   ·intro V W K A hW hR H F J
    simp only[pA]at F;clear H;obtain rfl:=F;go_wp2;exact J.O _ (RStep.re _)
   refine Dh (Pk 6) pk_l ?_ ?_
   ·intro V W K A hW hR H F J
    have d6:V 6=_:=H 6 (by kernel_rfl);simp only[pA,d6]at F;clear H d6;obtain rfl:=F
    go_wp2_with fail
    refine(CS r 6 _ W (by omega) (by omega) hR (by omega)).mono ?_;rintro e w2 ⟨k,rfl,hk,hs⟩;go_wp2;exact J.O _ _ hs ⟨k,rfl,hk⟩
   refine Dh (λu _=>∃k:Int,u=.int .i64 k) (λ_ _ _ h _ _=>h) ?_ ?_
   ·intro V W K A hW hR H F J
    have d7:(Pk 6) (V 7) W:=H 7 (by kernel_rfl);simp only[pA]at F;clear H;generalize V 7=x7 at d7 F;obtain rfl:=F;obtain⟨k,rfl,hk⟩:=d7;go_wp2;exact J.O _ _ (RStep.re _) ⟨_,rfl⟩
   refine Dh (λu W=>∃g,u=.slice (qad g) 2 2/\g≠r/\IntRow W g 2 2) (λ_ W W' ⟨g,e,h1,h2⟩ hs _=>⟨g,e,h1,h2.aR (hs.1.block g h2.lt h1)⟩) ?_ ?_
   ·intro V W K A hW hR H F J
    have d5:(λu _=>∃k:Int,u=.int .i64 k) (V 5) W:=H 5 (by kernel_rfl);have d8:(λu _=>∃k:Int,u=.int .i64 k) (V 8) W:=H 8 (by kernel_rfl);simp only[pA]at F;clear H;generalize V 5=x5 at d5 F;generalize V 8=x8 at d8 F;obtain rfl:=F;obtain⟨k,rfl⟩:=d5;obtain⟨k',rfl⟩:=d8;have dp:=hR.lt;go_wp2;exact J.O _ _ (.of (AN _ _)) ⟨W.heap.size,rfl,by omega,int_row (cs:=#[.int .i64 k,.int .i64 k']) (dm W _) (λu hu=>by simp at hu;rcases hu with rfl|rfl<;>exact⟨_,rfl⟩)⟩
   refine Dh (WV) (λ_ W W' h hs ⟨q,hq⟩=>h.aP hq hs.1) ?_ ?_
   ·intro V W K A hW hR H F J
    have d0:V 0=_:=H 0 (by kernel_rfl);have d2:(Pk 7) (V 2) W:=H 2 (by kernel_rfl);have d9:(λu W=>∃g,u=.slice (qad g) 2 2/\g≠r/\IntRow W g 2 2) (V 9) W:=H 9 (by kernel_rfl);simp only[pA,d0]at F;clear H d0;generalize V 2=x2 at d2 F;generalize V 9=x9 at d9 F;obtain rfl:=F;obtain⟨k,rfl,hk⟩:=d2;obtain⟨g,rfl,_,hi⟩:=d9;have k0:=hk.1;have k1:=hk.2.1 (by omega)
    go_wp2_with fail
    refine(calm_any l ap cp B a1 a2 a3 c1 c2 c3 k g 2 2 W k0 (by omega) (by omega) hi (HA.O.aP JR.O.rd hW)).mono ?_;rintro e w4 ⟨u,rfl,hv⟩;obtain⟨aq,M,cq,z1,z2,z3,d1,d2,d3,D,rfl,F,al⟩:=wis_iff.1 hv;go_wp2;exact J.O _ _ (.of al) ⟨aq,M,cq,z1,z2,z3,d1,d2,d3,D,rfl,F⟩
   intro V W A hW hR hS F;have d0:V 0=_:=hS 0 (by omega);have d1:V 1=_:=hS 1 (by omega);have d2:(Pk 7) (V 2) W:=hS 2 (by omega);have d3:V 3=_:=hS 3 (by omega);have d4:(Pk 6) (V 4) W:=hS 4 (by omega);have d5:(λu _=>∃k:Int,u=.int .i64 k) (V 5) W:=hS 5 (by omega);have d6:V 6=_:=hS 6 (by omega);have d7:(Pk 6) (V 7) W:=hS 7 (by omega);have d8:(λu _=>∃k:Int,u=.int .i64 k) (V 8) W:=hS 8 (by omega);have d9:(λu W=>∃g,u=.slice (qad g) 2 2/\g≠r/\IntRow W g 2 2) (V 9) W:=hS 9 (by omega);have bB:(WV) (V 10) W:=hS 10 (by omega);simp only[pA,d0,d1,d3,d6]at F;clear hS d0 d1 d3 d6;generalize V 2=x2 at d2 F;generalize V 4=x4 at d4 F;generalize V 5=x5 at d5 F;generalize V 7=x7 at d7 F;generalize V 8=x8 at d8 F;generalize V 9=x9 at d9 F;generalize V 10=eM at bB F;obtain rfl:=F;simp only[dl,dF];clear d2 d4 d5 d7 d8 d9;obtain⟨aq,M,cq,z1,z2,z3,d1,d2,d3,D,rfl,F⟩:=bB;have J9:Hid _:=J8.O.go hW hR;have bk:Hid (WA W aq M z1 z2 z3 D):=F;have b8:Hid _:=Bn hW VX.O bR bH;clear F hW hR bX
   go_upto_region 11 with((with_reducible show wpList _ _ _ _ _ _);refine AM rfl 30 (.tmp 3) (.tmp 68) rfl v 0 (qwV aq M.length cq D z1 d1 z2 d2 z3 d3) rfl rfl 30 (qwV ap l.length cp B a1 c1 a2 c2 a3 c3) b8.O AO (AD rfl) (by simp[Value.oneCell']) ?_;intro co hz on;have JA:Hid (ReU r v f w _ co):=J9.O.put on hz.O bk.O;clear hz on;simp only[Act.put])
   go_wp2
   go_roundw
   case rel=>exact⟨m',by go_num,by omega,JA.O.mono (by omega)⟩
   case measure=>simp[intOf]
theorem Kp(a b c d e:Value)(w:World):(Instr.field 30 (.agg #[a,b,c,d,e]) 1).run Tryz.prog w=.ok (.agg #[b,c,d,e]) w:=by
 kernel_rfl
theorem Pl{W W':World}{x:Nat}{cs:Array Value}{fr:Nat × Nat}(hx:W.heap[x]?=some (.cells cs 28 fr))(on:A6 x W W'):Qo W W':=λc M t J H _ F=>on.aB c λe=>by
 subst e;rw[hx]at F;injection F with F
 injection F with _ F
 exact H F.symm
theorem zb_no:∀(j:Nat) (x:Int),(qzV:Array Value)[j]?≠some (Value.int .u8 x):=by
 intro j x h;rcases j with _|_|_|_|j<;>first|cases h|simp at h
def DrIs(r:Nat)(q:Int)(w:World)(e:Ending)(w':World):Prop:=∃(g1 k1 g2 k2 g3 k3:Nat) (B:Bk),e=.returned (.agg (qbV B (qad g1) k1 (qad g2) k2 (qad g3) k3))/\BkRow w' w.heap.size g1 g2 g3 k1 k2 k3 B/\B.aD/\B.aO/\Past r w.heap.size w w'/\Rd r w' q
theorem draw_any(r:Nat)(q:Int)(w:World)(Z:Rd r w q)(hq:q<=90000000000):
  Calls Tryz.prog 119 #[.pointer (qad r)] w λe w'=>DrIs r (q+200000000) w e w':=by
 have ar:=Z.lt;obtain⟨J,H⟩:∃J,w.alloc (.cells qzV 28)=J:=⟨_,rfl⟩;have F:Below w.heap.size w J:=by rw[<-H];exact AN _ _
 have VF:Hid (qBl J (w.heap.size) qzV 28):=by unfold Hid;rw[<-H];exact dm w _
 have R0:Hid (Rd r J q):=Z.below F;obtain⟨f,hf⟩:∃f,w.heap.size=f:=⟨_,rfl⟩;have av:=Kp;clear Z;go_enter Tryz.func119,Tryz.ntmps119
 go_upto_region 1 with fail
 rw[hf]at VF;clear H
 go_wp2_with (first
  |(go_at_call 57;refine(Jh r _ _ R0.O (by omega)).mono ?_;rintro e w1 ⟨aq,M,cq,g1,k1,g2,k2,g3,k3,B,rfl,hA,hk,Y,hr⟩;have HK:Hid _:=hk;have HR:Hid (Rd r w1 (q+200000000)):=hr;have HP:Hid _:=Y;have W:Hid _:=Bn Y VF.O (AB VF.O).1 (by omega);have HO:Hid _:=hA.ok;clear hA hk hr Y)
  |((with_reducible show wpList _ _ _ _ _ _);refine AM rfl 28 (.tmp 2) (.tmp 5) rfl f 0 (qbV B (qad g1) k1 (qad g2) k2 (qad g3) k3) rfl rfl 28 qzV W.O AU (AD rfl) (by simp[Value.oneCell']) ?_;intro wz hz on;simp only[Act.put]))
 refine dS (eU rfl _ wz f 28 (qbV B (qad g1) k1 (qad g2) k2 (qad g3) k3) (0,0) _ rfl hz.O Tryz.underlying28 rfl AU) rfl ?_;exact⟨g1,k1,g2,k2,g3,k3,B,rfl,(HK.O.n F.size).bn (Pl W.O on),HO.O.bz,HO.O.bs,((Past.of F).next (AG _) HP.O).trans (.of (on.below.mono (by omega))),HR.O.ab W.O on (by omega) zb_no⟩
end
section
open Go.RowKit
theorem draw_ct(r:Nat):B7 Tryz.prog (RDr r) 119 910000000000 Nk:=by
 intro w0 G w q id vs es k0 hz W af ah _ hQ hC;obtain⟨_,M,_,_⟩:=hC;have hq:=hQ.resolve_left (by decide);obtain⟨G0,H,ay,aa,hα0,hM⟩:=Ld (q':=q) (r:=true) (X:=G.RB) (NG r) (λ_ h=>h) (λ_=>⟨rfl,rfl⟩) hz ah M (nt:=100) rfl;obtain⟨g,e1,e2,rfl,hR,hZ⟩:=(hM 0 rdB rfl).2.1.k4 rfl;have ha:(vs.map (r2 G.α)).toArray=#[.pointer (qad g)]:=by rw[<-H];simp[r2,r1,r0,e1,Addr.add]
 rw[ha];have Z:(q:Int)<=90000000000:=by unfold QM at hq;omega
 refine(draw_any g q w hR Z).mono ?_;rintro e w' ⟨g1,k1,g2,k2,g3,k3,B,rfl,F,ai,hT,J,hr⟩;have ag:∀l:List Svc,Ab l=(l.map svL).flatten:=λl=>fI
 have ak:∀l:List Cp,Ar l=(l.map cpL).flatten:=λl=>fI
 have al:∀l:List Bt,CN l=(l.map btL).flatten:=λl=>fI
 rw[show(Value.agg (qbV B (qad g1) k1 (qad g2) k2 (qad g3) k3))=r2 (λx=>match x with|0=>some ⟨g1,0,none⟩|1=>some ⟨g2,0,none⟩|_=>some ⟨g3,0,none⟩) (.agg #[.int .i64 B.aj,.iface 0 (.slice none B.af.length k1),.iface 1 (.slice none B.ah.length k2),.iface 2 (.slice none B.ak.length k3)]) from by simp[r2,r1,r0]];refine LV (C:=Nk vs es id) (v:=.agg #[.int .i64 B.aj,.iface 0 (.slice none B.af.length k1),.iface 1 (.slice none B.ah.length k2),.iface 2 (.slice none B.ak.length k3)]) (es':=[(0,An 34 13 k1 svL B.af),(1,An 76 7 k2 cpL B.ah),(2,An 90 2 k3 btL B.ak)]) (β:=λx=>match x with|0=>some ⟨g1,0,none⟩|1=>some ⟨g2,0,none⟩|_=>some ⟨g3,0,none⟩) (cost:=910000000000) (X:=λk=>k=g) (λk h=>by rw[h];rw[aa]at e2;exact e2) (λg' aH hd=>?_) hz W af ⟨J.os,J.tape,J.output,J.size,λk hk hn=>J.block k hk hn⟩ rfl (λx b hx=>?_) (λx b y c hx hy am=>?_) (f:=(id+ ·)) (λx hx=>?_) λk hk=>?_
 ·obtain⟨rfl,_,Y⟩:=hd
  exact⟨rfl,hr.mono (by omega),Y⟩
 ·simp only[dy,dH,eP,dw]at hx
  rcases hx with⟨rfl,rfl⟩|⟨rfl,rfl⟩|⟨rfl,rfl⟩
  ·exact⟨g1,_,rfl,F.n1,RowK.of NA (ag _▸F.af)⟩
  ·exact⟨g2,_,rfl,F.n2,RowK.of Nm (ak _▸F.ah)⟩
  ·exact⟨g3,_,rfl,F.n3,RowK.of Np (al _▸F.ak)⟩
 ·have aI:=F.cS
  have av:=F.cU;have aw:=F.cP;simp only[dy,dH,eP,dw]at hx hy;rcases hx with⟨rfl,_⟩|⟨rfl,_⟩|⟨rfl,_⟩<;>rcases hy with⟨rfl,_⟩|⟨rfl,_⟩|⟨rfl,_⟩<;>first|exact absurd rfl am|(intro e;cases e;contradiction)
 ·have hx:x∈[0,1,2]:=hx
  simp only[dy,dH,eP]at hx;rcases hx with rfl|rfl|rfl<;>exact .inl ⟨_,rfl,rfl⟩
 ·obtain⟨_,_,_,hk⟩:=hk
  exact hk _ _ ⟨B,⟨⟨hT.1,hT.2.1,hT.2.2.1⟩,ai.2.2.2⟩,k1,k2,k3,rfl,rfl⟩
end
section
open Go.RowKit Go.Sort
def IC(w:World)(ao:qO)(n:Nat):Prop:=0<n->∃b off,ao=some ⟨b,off,none⟩/\b<w.heap.size/\∀i,i<n->∃x:Int,w.cell? ⟨b,off+i,none⟩=some (.int .u8 x)/\0<=x/\x<256
theorem rd_new{w:World}{ao:qO}{n m cap:Nat}(h:IC w ao n)(Y:m<=n)(J:m<=2000):Rd w.heap.size (w.alloc (.cells #[.slice ao m cap,.int .i64 0] 139)) 0:=by
 refine⟨ao,m,cap,0,dm w _,fB _,fB _,J,λM=>?_⟩;obtain⟨b,off,e,F,H⟩:=h (by omega);refine⟨b,off,e,by show b<(w.heap.push _).size;simp;omega,by omega,λi W=>?_⟩;rw[(AN w _).cell (p:=⟨b,off+i,none⟩) F];exact H i (by omega)
theorem open_any(ao:qO)(n cap:Nat)(w:World)(J:n<=1048576)(H:n<=cap)(hC:IC w ao n):
  Calls Tryz.prog 36 #[.slice ao n cap] w λe w'=>e=.returned (.pointer (some ⟨w.heap.size,0,none⟩))/\Rd w.heap.size w' 0/\Below w.heap.size w w':=by
 have F:Hid (IC w ao n):=hC;clear hC
 by_cases M:2000<n
 ·obtain⟨b,off,ea,_⟩:=F.O (by omega)
  subst ea;go_enter Tryz.func36,Tryz.ntmps36;go_wp2;go_ret;exact⟨rfl,rd_new F.O (by omega) (AG _),AN _ _⟩
 ·go_enter Tryz.func36,Tryz.ntmps36
  go_wp2;go_ret;exact⟨rfl,rd_new F.O (AG _) (by omega),AN _ _⟩
end
end Go.Proofs.YtbceafpodamnfaaGreatDoor
