import Derived.Test.YtbceafpodamnfaaGreatDoorG36
import Derived.Defers
import Derived.Recover
import Derived.Laws.Pointers
set_option linter.all false
set_option maxHeartbeats 8000000
set_option maxRecDepth 100000
namespace Go.Proofs.YtbceafpodamnfaaGreatDoor
section
open Go.RowKit Go.Sort
theorem Lr:(Tryz.prog.info? 24).map (·.size)=some 1:=by kernel_rfl
def LS(A:Ac)(l:List Svc)(k:Nat):List Svc:=if A.drop then l.take k++l.drop (k+1) else l
theorem drop_any(A:Ac)(ae:qO)(ce:Nat)(X:Bk)(s:Svc)(N g k:Nat)(I:List Int)(w:World)(bE:X.af.length<=1048576)(hN:N<=w.heap.size)(hk:X.af[k]?=some s)(Y:WkAt w N g A ae ce X k I):
  Calls Tryz.prog 194 #[.pointer (qad g)] w λe w'=>e=.returned (.tuple #[])/\WkAt w' N g A ae ce {X with af:=LS A X.af k} k I/\Below N w w':=by
 have bY:=GR Y;obtain⟨b1,b2,b3,d1,d2,d3,ve,a6,hg,aC,aL⟩:=Y;have bx:k<X.af.length:=(AC hk).1;obtain⟨g1,e1,aH,az⟩:=aC.af.some (by omega);subst e1;obtain⟨n1,a9⟩:∃n,Hid (X.af.length=n):=⟨_,rfl⟩;obtain⟨n2,aI⟩:∃n,Hid (X.ah.length=n):=⟨_,rfl⟩;obtain⟨n3,aF⟩:∃n,Hid (X.ak.length=n):=⟨_,rfl⟩;obtain⟨ne,bl⟩:∃n,Hid (I.length=n):=⟨_,rfl⟩;obtain⟨r2,r3⟩:RowN w N 76 7 b2 X.ah.length d2 (Ar X.ah)/\RowN w N 90 2 b3 X.ak.length d3 (CN X.ak):=⟨aC.ah,aC.ak⟩;clear aC;rw[a9.O]at az hg bx bE;rw[aI.O]at r2 hg;rw[aF.O]at r3 hg;rw[bl.O]at aL;have HK:Hid _:=hk;have HG:Hid _:=hg;have aG:Hid (RowIs w 34 13 g1 n1 d1 (Ab X.af)):=az;have b0:=BU r2;have b6:=BU r3;have bS:Hid (w.ownsRow N 3 1 ve ne (CP I)):=aL;have ay:g<w.heap.size:=(AB hg).1;have ca:g1<w.heap.size:=az.lt;clear hk hg az r2 r3 aL;have e7:=AJ HG.O 7 rfl;obtain⟨dr,aT⟩:∃b,Hid (A.drop=b):=⟨_,rfl⟩;rw[aT.O]at e7;go_enter Tryz.func194,Tryz.ntmps194;cases dr
 ·go_wp2
  go_end0
  refine⟨rfl,?_,dI _ _⟩;rw[show LS A X.af k=X.af by unfold LS;rw[aT.O];rfl];exact bY.O
 have ax:(some ⟨g1,0,none⟩:qO)≠some ⟨g,0,none⟩:=Q3 (.inr ⟨g1,rfl,aH,aG.O⟩) HG.O (by decide);obtain⟨L2,aE⟩:∃x,Hid (x=X.af.take k++X.af.drop (k+1)):=⟨_,rfl⟩
 go_upto_region 1 with fail
 clear e7;obtain⟨wb,bO⟩:∃x,x=w:=⟨_,rfl⟩;subst bO;refine EA 19 15 (λW W'=>KeepO (qad g1) W W'/\Below N W W') (λW=>KeepO (qad g1) wb W/\Below N wb W) (λW=>RowN W N 34 13 (qad g1) n1 d1 (Ab X.af)) (by kernel_rfl) (by kernel_rfl) ⟨KeepO.refl _ _,dI _ _⟩ (.inr ⟨g1,rfl,aH,aG.O⟩) (λ_ _ h hb=>⟨h.1.trans (.ba hb),h.2.trans (hb.mono (AH hN h.2.size))⟩) (λ_ _ h hr=>⟨h.1.trans hr.1,h.2.trans hr.2⟩) (λ_ _ h hb=>h.below hb) ?_;apply AX
 ·intro V W K AA M Z H F J
  simp only[pA]at F;clear H;obtain rfl:=F;go_wp2;exact J.O _ brf
 apply AX
 ·intro V W K AA M Z H F J
  simp only[pA]at F;clear H;obtain rfl:=F;go_wp2;exact J.O _ brf
 apply AX
 ·intro V W K AA M Z H F J
  have d1:V 1=_:=H 1 (by kernel_rfl);simp only[pA,d1]at F;clear H d1;obtain rfl:=F;go_wp2;exact J.O _ brf
 apply AX
 ·intro V W K AA M Z H F J
  have d2:V 2=_:=H 2 (by kernel_rfl);simp only[pA,d2]at F;clear H d2;obtain rfl:=F;go_wp2;exact J.O _ brf
 apply AX
 ·intro V W K AA M Z H F J
  have d3:V 3=_:=H 3 (by kernel_rfl);simp only[pA,d3]at F;clear H d3;obtain rfl:=F;go_wp2;exact J.O _ brf
 apply AX
 ·intro V W K AA M Z H F J
  have d4:V 4=_:=H 4 (by kernel_rfl);simp only[pA,d4]at F;clear H d4;obtain rfl:=F;have e9:=AJ ((M.1.2 g ay ax).trans HG.O) 9 rfl;go_wp2;exact J.O _ brf
 apply AX
 ·intro V W K AA M Z H F J
  simp only[pA]at F;clear H;obtain rfl:=F;go_wp2;exact J.O _ brf
 apply AX
 ·intro V W K AA M Z H F J
  have d6:V 6=_:=H 6 (by kernel_rfl);simp only[pA,d6]at F;clear H d6;obtain rfl:=F;go_wp2;exact J.O _ brf
 apply AX
 ·intro V W K AA M Z H F J
  have d7:V 7=_:=H 7 (by kernel_rfl);simp only[pA,d7]at F;clear H d7;obtain rfl:=F;go_wp2;exact J.O _ brf
 apply AX
 ·intro V W K AA M Z H F J
  have d8:V 8=_:=H 8 (by kernel_rfl);simp only[pA,d8]at F;clear H d8;obtain rfl:=F;have bU:=AJ ((M.1.2 g ay ax).trans HG.O) 12 rfl;go_wp2;exact J.O _ brf
 apply AX
 ·intro V W K AA M Z H F J
  simp only[pA]at F;clear H;obtain rfl:=F;go_wp2;exact J.O _ brf
 apply AX
 ·intro V W K AA M Z H F J
  have au:V 10=_:=H 10 (by kernel_rfl);simp only[pA,au]at F;clear H au;obtain rfl:=F;go_wp2;exact J.O _ brf
 apply AX
 ·intro V W K AA M Z H F J
  have ai:V 11=_:=H 11 (by kernel_rfl);simp only[pA,ai]at F;clear H ai;obtain rfl:=F;go_wp2;exact J.O _ brf
 apply AX
 ·intro V W K AA M Z H F J
  have an:V 12=_:=H 12 (by kernel_rfl);simp only[pA,an]at F;clear H an;obtain rfl:=F;have bU:=AJ ((M.1.2 g ay ax).trans HG.O) 12 rfl;go_wp2;exact J.O _ brf
 refine Al (λv _=>v=.int .i64 ((k:Int)+1)) (λ_ _ _ _ _ h _=>h) ?_ ?_
 ·intro V W K AA M Z H F J
  have ar:V 13=_:=H 13 (by kernel_rfl);simp only[pA,ar]at F;clear H ar;obtain rfl:=F;go_wp2;exact J.O _ _ brf (by go_num)
 refine Al (λv W=>∃bo n' kk,v=.slice bo n' kk/\n'=L2.length/\RowN W N 34 13 bo n' kk (Ab L2)) (λi hi v W W' ⟨bo,n',kk,h1,h2,h3⟩ hr=>⟨bo,n',kk,h1,h2,h3.below (El hi hr)⟩) ?_ ?_
 ·intro V W K AA M Z H F J
  have d5:V 5=_:=H 5 (by kernel_rfl);have d9:V 9=_:=H 9 (by kernel_rfl);have am:(λv _=>v=.int .i64 ((k:Int)+1)) (V 14) W:=H 14 (by kernel_rfl);simp only[pA,d5,d9]at F;clear H d5 d9;generalize V 14=bZ at am F;obtain rfl:=F;obtain rfl:=am;have h0:=Z rfl
  go_wp2_with fail
  refine(PC X.af (qad g1) n1 d1 k N _ a9 bE bx (AH hN M.1.1) h0).mono ?_;rintro e w3 ⟨bo,n',kk,rfl,ak,hr,hq,bm⟩
  have aW:Hid (RowN w3 N 34 13 bo n' kk (Ab L2)):=by
   rw[aE.O];exact hr
  have b5:Hid _:=hq;have aA:Hid (n'=L2.length):=by rw[aE.O];exact ak
  clear hr hq h0 ak;go_wp2;exact J.O _ _ ⟨⟨bm.size,b5.O⟩,bm⟩ ⟨bo,n',kk,rfl,aA.O,aW.O⟩
 apply AX
 ·intro V W K AA M Z H F J
  have d0:V 0=_:=H 0 (by kernel_rfl);simp only[pA,d0]at F;clear H d0;obtain rfl:=F;go_wp2;exact J.O _ brf
 apply AX
 ·intro V W K AA M Z H F J
  have aq:V 16=_:=H 16 (by kernel_rfl);simp only[pA,aq]at F;clear H aq;obtain rfl:=F;go_wp2;exact J.O _ brf
 apply AX
 ·intro V W K AA M Z H F J
  have al:V 17=_:=H 17 (by kernel_rfl);simp only[pA,al]at F;clear H al;obtain rfl:=F;go_wp2;exact J.O _ brf
 intro V W AA M Y F;have d0:V 0=_:=Y 0 (by omega);have d1:V 1=_:=Y 1 (by omega);have d2:V 2=_:=Y 2 (by omega);have d3:V 3=_:=Y 3 (by omega);have d4:V 4=_:=Y 4 (by omega);have d5:V 5=_:=Y 5 (by omega);have d6:V 6=_:=Y 6 (by omega);have d7:V 7=_:=Y 7 (by omega);have d8:V 8=_:=Y 8 (by omega);have d9:V 9=_:=Y 9 (by omega);have au:V 10=_:=Y 10 (by omega);have ai:V 11=_:=Y 11 (by omega);have an:V 12=_:=Y 12 (by omega);have ar:V 13=_:=Y 13 (by omega);have am:(λv _=>v=.int .i64 ((k:Int)+1)) (V 14) W:=Y 14 (by omega);have a8:(λv W=>∃bo n' kk,v=.slice bo n' kk/\n'=L2.length/\RowN W N 34 13 bo n' kk (Ab L2)) (V 15) W:=Y 15 (by omega);have aq:V 16=_:=Y 16 (by omega);have al:V 17=_:=Y 17 (by omega);have br:V 18=_:=Y 18 (by omega);simp only[pA,d0,d1,d2,d3,d4,d5,d6,d7,d8,d9,au,ai,an,ar,aq,al,br]at F;clear Y d0 d1 d2 d3 d4 d5 d6 d7 d8 d9 au ai an ar aq al br;generalize V 14=bZ at am F;generalize V 15=ch at a8 F;obtain rfl:=F;simp only[dl,dF];obtain rfl:=am;obtain⟨bo,n',kk,rfl,ak,a7⟩:=a8;have aW:=BU a7;have aA:Hid _:=ak;have bz:Hid (KeepO (qad g1) wb W):=M.1;have b7:=M.2;have aK:Hid (KeepT 34 wb W):=bz.O.toT (.inr ⟨g1,rfl,aH,aG.O⟩);have bf:Hid _:=(bz.O.2 g ay ax).trans HG.O;clear a7 M ak
 go_wp2_with ((with_reducible show wpList _ _ _ _ _ _);refine BC rfl 24 (.tmp 25) (.tmp 22) rfl g 9 (.slice bo n' kk) rfl rfl Lr rfl rfl 227 #[.string A.aa,.int .i64 A.aF,.int .i64 A.am,.int .i64 A.av,.int .i64 A.ay,.bool A.az,.slice ae A.aw.length ce,.bool A.drop,.int .i64 X.aj,.slice (qad g1) n1 d1,.slice b2 n2 d2,.slice b3 n3 d3,.int .i64 (k:Int),ve] bf.O (AD rfl) ?_;intro w4 hz on;have bR:Hid (qBl w4 g #[.string A.aa,.int .i64 A.aF,.int .i64 A.am,.int .i64 A.av,.int .i64 A.ay,.bool A.az,.slice ae A.aw.length ce,.bool A.drop,.int .i64 X.aj,(.slice bo n' kk),.slice b2 n2 d2,.slice b3 n3 d3,.int .i64 (k:Int),ve] 227):=hz;have bb:Hid (A6 g W w4):=on;clear hz on)
 go_end0
 have k4:KeepT 227 W w4:=.aV bb.O bf.O;have b4:LS A X.af k=L2:=by unfold LS;rw[aT.O,aE.O];rfl
 rw[b4];refine⟨rfl,⟨bo,b2,b3,kk,d2,d3,ve,a6,?_,⟨?_,?_,?_⟩,?_⟩,b7.trans (bb.O.below.mono a6)⟩
 ·have:=bR.O
  rw[<-aI.O,<-aF.O,aA.O]at this;exact this
 ·have:=k4.aN aW.O (by decide)
  rw[aA.O]at this;exact this
 ·have:=k4.aN (aK.O.aN b0.O (by decide)) (by decide)
  rw[<-aI.O]at this;exact this
 ·have:=k4.aN (aK.O.aN b6.O (by decide)) (by decide)
  rw[<-aF.O]at this;exact this
 ·have:=k4.aQ (aK.O.aQ bS.O (by decide)) (by decide)
  rw[<-bl.O]at this;exact this
theorem M9{α:Type}(p:α->Bool):∀l:List α,(l.drop (l.takeWhile p).length).takeWhile p=[]
 |[]=>rfl
 |x::l=>by
  cases h:p x
  ·rw[fo (by rw[h];decide),iy,dF,fo (by rw[h];decide)]
  ·rw[eQ h,dL,dl]
   exact M9 p l
theorem OE{α:Type}{p q:α->Bool}:∀{l:List α},(∀x∈l,p x=q x)->l.takeWhile p=l.takeWhile q
 |[],_=>rfl
 |x::l,h=>by
  have hx:=h x (by simp);have H:=OE (l:=l) λy J=>h y (by simp[J])
  cases F:p x
  ·rw[fo (by rw[F];decide),fo (by rw[<-hx,F];decide)]
  ·rw[eQ F,eQ (by rw[<-hx];exact F),H]
theorem It{α:Type}{p:α->Bool}:∀{l l':List α},(∀x∈l,p x=true)->(l++l').takeWhile p=l++l'.takeWhile p
 |[],_,_=>rfl
 |x::l,l',h=>by
  rw[fb,eQ (h x (by simp)),It λy F=>h y (by simp[F])];rfl
theorem Pi{α:Type}{p:α->Bool}:∀{l:List α} {x:α},x∈l.takeWhile p->p x=true
 |[],_,h=>by simp at h
 |y::l,x,h=>by
  cases F:p y
  ·rw[fo (by rw[F];decide)]at h;simp at h
  ·rw[eQ F]at h
   rcases dy.1 h with rfl|h
   ·exact F
   ·exact Pi h
theorem KG{α:Type}(p:α->Bool):∀l:List α,l.takeWhile p=l.take (l.takeWhile p).length
 |[]=>rfl
 |x::l=>by
  cases F:p x
  ·rw[fo (by rw[F];decide)];rfl
  ·rw[eQ F,dL,gv,<-KG p l]
theorem putC_atO{l:List Cp}{c:Cp}{n:Nat}(h:(l.takeWhile λx=>Ak x c).length=n):Jz l c=l.take n++c::l.drop n:=by
 unfold Jz;rw[h,KG,h]
theorem Ky{B:Bk}{A:Ac}{s:Svc}{L:List Cp}(F:∀x∈L,x.aa=A.aa->x.ai<s.next):∀t:Nat,G5 B A s L t=DD L (BJ L A.aa) (D2 B A s) t
 |0=>by rw[Mp];rfl
 |t+1=>by
  show Jz (G5 B A s L t) (D2 B A s t)=_;have W:BJ L A.aa<=L.length:=M3 _ _;rw[Ky F t,<-Mq _ t W];refine putC_atO ?_
  have J:∀x∈DD L (BJ L A.aa) (D2 B A s) t,Ak x (D2 B A s t)=Be A.aa x:=by
   intro x hx
   have H:x.aa=A.aa->x.ai<s.next+(t:Int):=by
    intro M;unfold DD at hx;rcases dt.1 hx with hx|hx
    ·rcases dt.1 hx with hx|hx
     ·have:=F x (eE hx) M;omega
     ·obtain⟨i,Z,rfl⟩:=fz.1 hx
      have:=dA.1 Z;show s.next+(i:Int)<_;omega
    ·have:=F x (ep hx) M;omega
   unfold Ak Be;show(Op.bytesLess x.aa.toList A.aa.toList||(x.aa.toList==A.aa.toList&&decide (x.ai<s.next+(t:Int))))=_;cases Y:x.aa.toList==A.aa.toList
   ·rfl
   ·rw[dO (H (same_nm.1 Y)),iu]
  rw[OE J];unfold DD;rw[eB,It,It,show L.drop (BJ L A.aa)=L.drop (L.takeWhile (Be A.aa)).length from rfl,M9,gu,dE,fw,List.length_range,dG,gX W]
  ·intro x hx
   obtain⟨i,_,rfl⟩:=fz.1 hx;unfold Be D2;simp
  ·intro x hx
   unfold BJ at hx;rw[<-KG]at hx;exact Pi hx
theorem GP(sv:qB)(v:Int)(l:List Cp)(num:Int):(Cm sv v l num).map Cv=l.map Cv:=by
 unfold Cm
 cases l.findIdx? (isC sv num) with
 |none=>rfl
 |some i=>
  cases h:l[i]? with
  |none=>simp only[h]
  |some c=>simp only[h];exact PO h v
theorem Ft(B:Bk)(s:Svc)(sv:qB)(v:Int):∀(es:List En) (l L:List Cp),BL B s sv v es l=some L->L.map Cv=l.map Cv
 |[],l,L,h=>by obtain rfl:=dg h;rfl
 |e::es,l,L,h=>by
  rw[show BL B s sv v (e::es) l=(match l.find? (isC sv e.ai) with|some c=>if FY {B with ah:=l} s sv c then BL B s sv v es (Cm sv v l e.ai) else none|none=>none) from rfl]at h
  cases hf:l.find? (isC sv e.ai) with
  |none=>rw[hf]at h;cases h
  |some c=>
   rw[hf]at h;simp only at h;cases F:FY {B with ah:=l} s sv c
   ·rw[F]at h;cases h
   ·rw[F]at h
    rw[Ft B s sv v es _ L h,GP]
theorem mem_keys{l l':List Cp}(h:l.map Cv=l'.map Cv){x:Cp}(hx:x∈l):∃y∈l',y.aa=x.aa/\y.ai=x.ai:=by
 have:Cv x∈l'.map Cv:=by rw[<-h];exact fy hx
 obtain⟨y,F,e⟩:=fz.1 this;injection e with e1 e2
 exact⟨y,F,e1,e2⟩
theorem KW{l l':List Cp}(h:l.map Cv=l'.map Cv){i:Nat}{x:Cp}(hx:l[i]?=some x):∃y,l'[i]?=some y/\y.aa=x.aa/\y.ai=x.ai:=by
 have F:(l'.map Cv)[i]?=some (Cv x):=by rw[<-h,eh,hx];rfl
 rw[eh]at F
 cases H:l'[i]? with
 |none=>rw[H]at F;cases F
 |some y=>
  rw[H]at F;injection F with e
  injection e with e1 e2
  exact⟨y,rfl,e1,e2⟩
theorem Pu{l l':List Cp}(h:l.map Cv=l'.map Cv)(Z:Di l'):Di l:=by
 intro i j a b J W hb;obtain⟨M,H,ea,_⟩:=KW h W;obtain⟨Y,F,eb,_⟩:=KW h hb;rw[<-ea,<-eb];exact Z i j M Y J H F
theorem I8{B:Bk}(Z:Valid B){sv:qB}{s:Svc}(Y:Ah B sv=some s){L:List Cp}(hk:L.map Cv=B.ah.map Cv):∀x∈L,x.aa=sv->x.ai<s.next:=by
 intro x hx J;obtain⟨y,hy,e1,e2⟩:=mem_keys hk hx;obtain⟨s',H,F⟩:=Z.bA hy;rw[e1,J,Y]at H;obtain rfl:=dg H;have W:=Z.bc (CQ Y);have h0:=W.br;have h1:=W.bI;unfold FP at F;simp only[cY]at F;have M:=F.1.1.1;unfold inB at M;simp only[cY,dM]at M
 have hw:wrap64 (s.next - 1)=s.next - 1:=by
  unfold wrap64;omega
 rw[hw]at M;omega
theorem Ek(A:Ac)(s:Svc)(u:Int):(AQ A {s with ag:=u}).name=s.name/\(AQ A {s with ag:=u}).next=s.next/\(AQ A {s with ag:=u}).ar=s.ar/\(AQ A {s with ag:=u}).aH=s.aH/\(AQ A {s with ag:=u}).aE=s.aE:=by
 unfold AQ;cases A.az<;>exact⟨rfl,rfl,rfl,rfl,rfl⟩
theorem cntB_cps{B:Bk}{sv:qB}{s:Svc}(F:Ah B sv=some s)(L:List Cp):BD {B with ah:=L} sv=BM s.ar sv L L.length:=by
 unfold BD;rw[show Ah {B with ah:=L} sv=Ah B sv from rfl,F]
theorem L5(A:Ac)(s:Svc)(u:Int)(C:Cnt):CC A (AQ A {s with ag:=u}) C=CC A (AQ A s) C:=by
 unfold CC AQ;cases A.az<;>rfl
theorem Fv{A:Ac}(h:Bg A=true)(F:A.drop=true):A.am=0/\A.az=false/\A.aw=[]:=by
 unfold Bg at h;rw[F]at h;simp only[cY,Bool.not_true,ir,fq,eR]at h;exact⟨h.2.1.1,h.2.1.2,fT.1 h.2.2⟩
theorem O9{B:Bk}{A:Ac}{s:Svc}{L:List Cp}{u:Int}{C:Cnt}(J:Ah B A.aa=some s)(F:s.name=A.aa)(Y:Bg A=true)(H:BL B s A.aa (B.aj+1) A.aw B.ah=some L)(hC:C=BM s.ar s.name L L.length):BY A (AQ A {s with ag:=u}) C=BY A s (BD B A.aa):=by
 unfold BY;cases M:A.drop
 ·rfl
 ·obtain⟨_,_,W⟩:=Fv Y M
  rw[W]at H;have hL:B.ah=L:=dg H
  have:BD B A.aa=C:=by
   rw[hC,<-hL,F];unfold BD;rw[J]
  rw[this,(Ek A s u).2.2.2.1]
theorem Pt{B X:Bk}{A:Ac}{s:Svc}{u:Int}(M:X.ah.length=B.ah.length)(W:X.aj=B.aj+1):Hc X A (AQ A {s with ag:=u})=!DO B A (AQ A s):=by
 have e:(AQ A s).next=s.next:=by unfold AQ;cases A.az<;>rfl
 unfold Hc DO;rw[M,W,(Ek A s u).2.1,e]
 by_cases F:(B.ah.length:Int)+A.am<=200
 ·by_cases H:s.next+A.am<=1000000
  ·by_cases J:B.aj+1<=1000000
   ·rw[dO F,dO H,dO J,dQ (show ¬200<(B.ah.length:Int)+A.am by omega),dQ (show ¬1000000<s.next+A.am by omega),dQ (show ¬1000000<=B.aj by omega)];rfl
   ·rw[dO F,dO H,dQ J,dO (show 1000000<=B.aj by omega)];simp
  ·rw[dO F,dQ H,dO (show 1000000<s.next+A.am by omega)];simp
 ·rw[dQ F,dO (show 200<(B.ah.length:Int)+A.am by omega)];rfl
theorem Lx{l:List Svc}{k:Nat}(s:Svc):(l.set k s).take k++(l.set k s).drop (k+1)=l.take k++l.drop (k+1):=by
 rw[List.take_set_of_le (AG _),List.drop_set_of_lt (by omega)]
theorem SL{B:Bk}{A:Ac}{s:Svc}{L:List Cp}{k H:Nat}(hV:Valid B)(hA:Bg A=true)(hs:Ah B A.aa=some s)(hk:B.af[k]?=some s)(F:s.name=A.aa)(Z:BL B s A.aa (B.aj+1) A.aw B.ah=some L)(J:A.am=(H:Int)):
  Az B A=⟨B.aj+1,LS A (((B.af.set k {s with ag:=B.aj+1}).set k (AQ A {s with ag:=B.aj+1})).set k {AQ A {s with ag:=B.aj+1} with next:=(AQ A {s with ag:=B.aj+1}).next+A.am}) k,DD L (BJ L (AQ A {s with ag:=B.aj+1}).name) (mkO ⟨B.aj+1,(B.af.set k {s with ag:=B.aj+1}).set k (AQ A {s with ag:=B.aj+1}),L,B.ak⟩ (AQ A {s with ag:=B.aj+1})) H,B.ak⟩:=by
 have M:L6 B.af A.aa=(k:Int):=by
  unfold L6;refine Ds hk (by rw[F];exact il _) λi hi t ht=>?_
  cases hb:t.name.toList==A.aa.toList
  ·rfl
  ·have Y:=IE hV.af i k t s hi ht hk
   exact absurd ((same_nm.1 hb).trans F.symm) Y
 have W:mkO ⟨B.aj+1,(B.af.set k {s with ag:=B.aj+1}).set k (AQ A {s with ag:=B.aj+1}),L,B.ak⟩ (AQ A {s with ag:=B.aj+1})=D2 B A s:=by
  funext t
  unfold mkO D2;rw[(Ek A s _).1,(Ek A s _).2.1,(Ek A s _).2.2.1,F]
 unfold Az;rw[hs];simp only[Z,M,di];unfold LT;rw[W,(Ek A s _).1,F,<-Ky (I8 hV hs (Ft _ _ _ _ _ _ _ Z)),J,di,fX,fX]
 congr 1
 unfold DI LS;cases hd:A.drop
 ·simp only[fg,iq]
  congr 1
  unfold By AQ;cases A.az<;>(rw[J,<-F];rfl)
 ·simp only[gM]
  exact(Lx _).symm
theorem Bj:(Tryz.prog.info? 28).map (·.size)=some 4:=by kernel_rfl
theorem Io:(Tryz.prog.info? 127).map (·.size)=some 1:=by kernel_rfl
theorem MH(w:World):(Instr.typeAssert .nilIface 20 223 true).run Tryz.prog w=.ok (.tuple #[.agg #[.nilIface],.bool false]) w:=by kernel_rfl
theorem MG(v:Value)(w:World):(Instr.typeAssert (.iface 223 v) 20 223 true).run Tryz.prog w=.ok (.tuple #[v,.bool true]) w:=by kernel_rfl
theorem Ho{p g:Nat}{i:Nat}{W W':World}(F:i≠p)(h:MJ p g i W W'):Below W.heap.size W W':=by
 unfold MJ at h;split at h
 ·rename_i hb
  exact absurd (cX hb) F
 ·exact h
theorem Qf(pa F:Nat)(w:World):
  CallsD Tryz.prog 182 #[.pointer (some ⟨pa,0,none⟩),.pointer (some ⟨F,0,none⟩)] .returning w λe J w'=>e=.returned (.tuple #[])/\J=.returning/\Below w.heap.size w w':=by
 refine callsD_of_wpS Tryz.func182 rfl λc₀ cs H=>?_
 apply wpS_seq;apply wpS_region;simp[wpOpsS,go_sem,recoverD,H,Tryz.ntmps182,Exit.thenS];refine wpS_of_wp ?_;show Code.wp _ _ _ ({tmps:=#[.pointer (some ⟨pa,0,none⟩),.pointer (some ⟨F,0,none⟩),.nilIface,undef,undef,.nilIface,undef,undef,undef,undef,undef,undef,undef,undef,undef,undef,undef,undef],defers:=[]}:Act) _;have M:=MH;go_wp2;cases c₀;simp_all [bodyPostS,results,Tryz.results182];exact AN _ _
theorem SR(pa H:Nat)(c:Int)(w:World)(ha:w.heap[pa]?=some (.cells #[.int .i64 0,.slice none 0 0,.slice none 0 0,.slice none 0 0] 28 (0,0)))(Y:w.heap[H]?=some (.cells #[.nilIface] 127 (0,0))):
  CallsD Tryz.prog 182 #[.pointer (some ⟨pa,0,none⟩),.pointer (some ⟨H,0,none⟩)] (.panicking [{v:=.iface 223 (.agg #[(.iface 153 (.agg #[.int .i64 c]))]),recovered:=false}]) w λe u' w'=>e=.returned (.tuple #[])/\u'=.panicking [{v:=.iface 223 (.agg #[(.iface 153 (.agg #[.int .i64 c]))]),recovered:=true}]/\w'.heap[pa]?=some (.cells #[.int .i64 0,.slice none 0 0,.slice none 0 0,.slice none 0 0] 28 (0,0))/\w'.heap[H]?=some (.cells #[.iface 223 (.agg #[(.iface 153 (.agg #[.int .i64 c]))])] 127 (0,0))/\(∀N,N<=pa->N<=H->N<=w.heap.size->Below N w w'):=by
 refine callsD_of_wpS Tryz.func182 rfl λc₀ cs hu=>?_
 apply wpS_seq;apply wpS_region;simp[wpOpsS,go_sem,recoverD,hu,Tryz.ntmps182,Exit.thenS];refine wpS_of_wp ?_;show Code.wp _ _ _ ({tmps:=#[.pointer (some ⟨pa,0,none⟩),.pointer (some ⟨H,0,none⟩),(.iface 223 (.agg #[(.iface 153 (.agg #[.int .i64 c]))])),undef,undef,(.iface 223 (.agg #[(.iface 153 (.agg #[.int .i64 c]))])),undef,undef,undef,undef,undef,undef,undef,undef,undef,undef,undef,undef],defers:=[]}:Act) _;have ta:=MG;have HA:Hid _:=ha;have HE:Hid _:=Y;have aA:pa<w.heap.size:=(AB ha).1;have aH:H<w.heap.size:=(AB Y).1
 have al:H≠pa:=λe=>by
  rw[e,ha]at Y;injection Y with Y
  injection Y with _ Y
  exact absurd Y (by decide)
 have T0:Hid _:=dm w (.cells #[(.iface 153 (.agg #[.int .i64 c]))] 223);have J:=AN w (.cells #[(.iface 153 (.agg #[.int .i64 c]))] 223);obtain⟨W0,am⟩:∃W,w.alloc (.cells #[(.iface 153 (.agg #[.int .i64 c]))] 223)=W:=⟨_,rfl⟩;rw[am]at T0 J;clear ha Y
 go_upto_region 3 with fail
 clear am ta;have aK:Hid _:=AK J HA.O aA;have az:Hid _:=AK J HE.O aH;have hq:w.heap.size<W0.heap.size:=(AB T0.O).1;have aC:w.heap.size≠pa:=by omega
 have aI:H<W0.heap.size:=by omega
 refine Dj 4 3 pa (λW=>KeepB pa W0 W/\∀N,N<=pa->N<=W0.heap.size->Below N W0 W) (λW=>W.heap[pa]?=some (.cells #[.int .i64 0,.slice none 0 0,.slice none 0 0,.slice none 0 0] 28 (0,0))) (by kernel_rfl) (by kernel_rfl) ⟨KeepB.refl _ _,λ_ _ _=>dI _ _⟩ aK.O (λ_ _ h hb=>⟨h.1.below hb,λN h1 h2=>(h.2 N h1 h2).trans (hb.mono (AH h2 h.1.1))⟩) (λ_ _ h on=>⟨h.1.ab on,λN h1 h2=>(h.2 N h1 h2).trans (on.below.mono h1)⟩) (λ_ _ h hb=>AK hb h (AB h).1) ?_;apply AX
 ·intro V W K AA Z hZ M F hK
  simp only[pA]at F;clear M;obtain rfl:=F;go_wp2;exact hK.O _ brf
 apply AX
 ·intro V W K AA Z hZ M F hK
  simp only[pA]at F;clear M;obtain rfl:=F;have t0:=AJ ((Z.1.2 w.heap.size hq aC).trans T0.O) 0 rfl;go_wp2;exact hK.O _ brf
 apply AX
 ·intro V W K AA Z hZ M F hK
  have d1:V 1=_:=M 1 (by kernel_rfl);simp only[pA,d1]at F;clear M d1;obtain rfl:=F;go_wp2;exact hK.O _ brf
 refine Al (λ_ W=>W.heap[pa]?=some (.cells #[.int .i64 0,.slice none 0 0,.slice none 0 0,.slice none 0 0] 28 (0,0))) (λi hi _ W W' h hr=>AK (Ho hi hr) h (AB h).1) ?_ ?_
 ·intro V W K AA Z hZ M F hK
  have d0:V 0=_:=M 0 (by kernel_rfl);simp only[pA,d0]at F;clear M d0;obtain rfl:=F;have h0:=hZ rfl;refine AM rfl 28 (.tmp 0) (.tmp 12) rfl pa 0 #[.int .i64 0,.slice none 0 0,.slice none 0 0,.slice none 0 0] rfl rfl 28 #[.int .i64 0,.slice none 0 0,.slice none 0 0,.slice none 0 0] h0 Bj (AD rfl) (by simp[Value.oneCell']) ?_;intro w2 hz on;have h2:w2.heap[pa]?=some (.cells #[.int .i64 0,.slice none 0 0,.slice none 0 0,.slice none 0 0] 28 (0,0)):=hz.O;exact hK.O _ _ on h2
 intro V W AA Z hS F;have d0:V 0=_:=hS 0 (by omega);have d1:V 1=_:=hS 1 (by omega);have d2:V 2=_:=hS 2 (by omega);have d3:(λ_ W=>W.heap[pa]?=some (.cells #[.int .i64 0,.slice none 0 0,.slice none 0 0,.slice none 0 0] 28 (0,0))) (V 3) W:=hS 3 (by omega);simp only[pA,d0,d1,d2]at F;clear hS d0 d1 d2;obtain rfl:=F;simp only[dl,dF];have an:=d3;clear d3;have ay:Hid _:=(Z.1.2 H aI al).trans az.O;have aE:Hid (W.heap[pa]?=some (.cells #[.int .i64 0,.slice none 0 0,.slice none 0 0,.slice none 0 0] 28 (0,0))):=an;have bm:Hid (KeepB pa W0 W):=Z.1;have aG:=Z.2;clear Z an
 go_wp2_with ((with_reducible show wpList _ _ _ _ _ _);refine BC rfl 127 (.tmp 1) (.tmp 14) rfl H 0 (.iface 223 (.agg #[(.iface 153 (.agg #[.int .i64 c]))])) rfl rfl Io rfl rfl 127 #[.nilIface] ay.O (AD rfl) ?_;intro w3 hz on;have aL:Hid (w3.heap[H]?=some (.cells #[.iface 223 (.agg #[(.iface 153 (.agg #[.int .i64 c]))])] 127 (0,0))):=hz;have aq:Hid (A6 H W w3):=on;clear hz on)
 have a9:w3.heap[pa]?=some (.cells #[.int .i64 0,.slice none 0 0,.slice none 0 0,.slice none 0 0] 28 (0,0)):=(aq.O.aB pa (Ne.symm al)).trans aE.O;have af:∀N,N<=pa->N<=H->N<=w.heap.size->Below N w w3:=λN h1 h2 h3=>(J.mono h3).trans ((aG N h1 (by omega)).trans (aq.O.below.mono h2))
 have HF:Hid _:=af;have aM:=aL.O;clear af;cases c₀;simp_all [bodyPostS,results,Tryz.results182];exact HF.O
theorem MD:(Tryz.prog.info? 227).map (·.size)=some 14:=by kernel_rfl
theorem four_new(w:World)(A B C D:Obj):∃F,(((w.alloc A).alloc B).alloc C).alloc D=F/\F.heap[w.heap.size]?=some A/\F.heap[w.heap.size+1]?=some B/\F.heap[w.heap.size+1+1]?=some C/\F.heap[w.heap.size+1+1+1]?=some D/\F.heap.size=w.heap.size+4/\Below w.heap.size w F:=by
 refine⟨_,rfl,?_,?_,?_,?_,?_,?_⟩
 ·show((((w.heap.push A).push B).push C).push D)[w.heap.size]?=_
  rw[dk,dC (by simp<;>omega),dk,dC (by simp<;>omega),dk,dC (by simp),dk,dB rfl]
 ·show((((w.heap.push A).push B).push C).push D)[w.heap.size+1]?=_
  rw[dk,dC (by simp<;>omega),dk,dC (by simp),dk,dB (by simp)]
 ·show((((w.heap.push A).push B).push C).push D)[w.heap.size+1+1]?=_
  rw[dk,dC (by simp),dk,dB (by simp)]
 ·show((((w.heap.push A).push B).push C).push D)[w.heap.size+1+1+1]?=_
  rw[dk,dB (by simp)]
 ·show((((w.heap.push A).push B).push C).push D).size=_
  simp
 ·exact((((dI _ _).alloc (AG _) _).alloc (by simp) _).alloc (by simp;omega) _).alloc (by simp;omega) _
theorem FL{Q:Ending->World->Prop}(T:Array Value)(pa F:Nat)(c:Int)(W:World)(h4:T.getD 4 undef=.pointer (qad pa))(h5:T.getD 5 undef=.pointer (qad F))(ha:qBl W pa qzV 28)(he:qBl W F #[.nilIface] 127)
  (hQ:∀w',(∀N,N<=pa->N<=F->N<=W.heap.size->Below N W w')->Q (.returned (.tuple #[.agg qzV,QL c])) w'):
  bodyPostD Tryz.prog Tryz.f100 Q (Exit.panic (Mc c)) {tmps:=T,defers:=[{target:=Target.fn (Fn.func 182) #[.pointer (qad pa),.pointer (qad F)],args:=#[]}]} W:=by
 refine leaves_cons (f:=182) (args:=#[.pointer (qad pa),.pointer (qad F)]) (by simp) (by simp[go_sem]) ?_;refine(SR pa F c W ha he).mono ?_;rintro e u' J ⟨rfl,rfl,H,h2,h3⟩;have M:T[4]?.getD undef=.pointer (qad pa):=by simpa using h4
 have Y:T[5]?.getD undef=.pointer (qad F):=by simpa using h5
 have k0:=AJ H 0 rfl;have k1:=AJ H 1 rfl;have k2:=AJ H 2 rfl;have k3:=AJ H 3 rfl;have hc:=AJ h2 0 rfl;have Z:=hQ J h3;unfold QL at Z;simp[Leaves,settle,results,Tryz.results100,go_sem,M,Y,k0,k1,k2,k3,asAddr,hc];exact Z
theorem door_yes{Q:Ending->World->Prop}(T:Array Value)(pa F:Nat)(x0 x1 x2 x3:Value)(W:World)(h4:T.getD 4 undef=.pointer (qad pa))(h5:T.getD 5 undef=.pointer (qad F))(ha:qBl W pa #[x0,x1,x2,x3] 28)(he:qBl W F #[.nilIface] 127)
  (hQ:∀w',Below W.heap.size W w'->Q (.returned (.tuple #[.agg #[x0,x1,x2,x3],.nilIface])) w'):
  bodyPostD Tryz.prog Tryz.f100 Q Exit.ret {tmps:=T,defers:=[{target:=Target.fn (Fn.func 182) #[.pointer (qad pa),.pointer (qad F)],args:=#[]}]} W:=by
 refine leaves_cons (f:=182) (args:=#[.pointer (qad pa),.pointer (qad F)]) (by simp) (by simp[go_sem]) ?_;refine(Qf pa F W).mono ?_;rintro e u' J ⟨rfl,rfl,Y⟩;have H:=AK Y ha (AB ha).1;have h2:=AK Y he (AB he).1;have M:T[4]?.getD undef=.pointer (qad pa):=by simpa using h4
 have Z:T[5]?.getD undef=.pointer (qad F):=by simpa using h5
 have k0:=AJ H 0 rfl;have k1:=AJ H 1 rfl;have k2:=AJ H 2 rfl;have k3:=AJ H 3 rfl;have hc:=AJ h2 0 rfl;have hq:=hQ J Y;simp[Leaves,settle,results,Tryz.results100,go_sem,M,Z,k0,k1,k2,k3,asAddr,hc];exact hq
def DoIsW(N:Nat)(B:Bk)(A:Ac)(e:Ending)(w':World):Prop:=
 (Bc B A=0/\∃b1 b2 b3 d1 d2 d3,e=.returned (.tuple #[.agg #[.int .i64 (Az B A).aj,.slice b1 (Az B A).af.length d1,.slice b2 (Az B A).ah.length d2,.slice b3 (Az B A).ak.length d3],.nilIface])/\BkOf w' N (Az B A) b1 b2 b3 d1 d2 d3)\/
 (∃c,Bc B A=c/\c≠0/\e=.returned (.tuple #[.agg qzV,QL c]))
theorem PB(B:Bk)(A:Ac)(a1 a2 a3:qO)(c1 c2 c3:Nat)(ae:qO)(ce:Nat)(w:World)(hV:Valid B)(aw:B.aJ)(hZ:B.aD)(hB:BkAt w a1 a2 a3 B)(hl:A.aw.length<=1048576)(hE:SlE w ae A.aw)(fv:A.aa.size<=maxLen)(ec:Hid (∀e∈A.aw,(Lit.int .i64 e.ai).wf=true)):
  Calls Tryz.prog 100 #[.agg (qbV B a1 c1 a2 c2 a3 c3),.agg (qaV A ae ce)] w λe w'=>DoIsW w.heap.size B A e w'/\Below w.heap.size w w':=by
 obtain⟨W0,f0,t0,t1,t2,t3,f2,ai⟩:=four_new w (.cells (qbV B a1 c1 a2 c2 a3 c3) 28) (.cells (qaV A ae ce) 45) (.cells qzV 28) (.cells #[.nilIface] 127);have T0:Hid _:=t0;have T1:Hid _:=t1;have T2:Hid _:=t2;have T3:Hid _:=t3;obtain⟨M,HM⟩:∃M,M=W0.heap.size:=⟨_,rfl⟩;have hu:w.heap.size+4<=M:=by omega
 have hG:∀(fn:Fn) (first cap:Array Value) (w:World),(Instr.makeFunc fn first cap).run Tryz.prog w=.ok (.func fn first cap) w:=λ_ _ _ _=>rfl
 clear t0 t1 t2 t3
 go_enter_defers Tryz.func100,Tryz.ntmps100
 have g0:=AJ T1.O 0 rfl;have g1:=AJ T1.O 1 rfl;have g2:=AJ T1.O 2 rfl;have g3:=AJ T1.O 3 rfl;have g4:=AJ T1.O 4 rfl;have g5:=AJ T1.O 5 rfl;have g6:=AJ T1.O 6 rfl;have g7:=AJ T1.O 7 rfl
 go_wp2_with fail
 refine(Kn A ae ce _ hl (hE.below ai)).mono ?_;rintro e w1 ⟨rfl,am⟩;rw[<-HM]at am;have hc:M<=w1.heap.size:=by have:=am.size;omega
 clear g0 g1 g2 g3 g4 g5 g6 g7 f0 f2;obtain⟨ok,ay⟩:∃b,Hid (Bg A=b):=⟨_,rfl⟩;rw[ay.O];cases ok
 ·go_wp2_with (go_at_call 183;refine(Ce 2 _).mono ?_;rintro e w2 ⟨rfl,rfl⟩)
  go_wp2;exact FL _ _ _ 2 _ rfl rfl (AK am T2.O (by omega)) (AK am T3.O (by omega)) λw' H=>⟨.inr ⟨2,code_2 ay.O,by decide,rfl⟩,ai.trans ((am.mono (by omega)).trans (H _ (by omega) (by omega) (by omega)))⟩
 have d8:=am;have bz:M<=w1.heap.size:=by have:=am.size;omega
 have bi:Hid _:=AK am T0.O (by omega);have az:Hid _:=AK am T1.O (by omega);have aA:w.heap.size<w1.heap.size:=by omega
 have J:w.heap.size+1<w1.heap.size:=by omega
 have a5:Below w.heap.size w w1:=ai.trans (am.mono (by omega));clear am
 go_upto_region 3 with(go_at_call 183;refine(CV 2 _).mono ?_;rintro e w2 ⟨rfl,rfl⟩)
 refine AV 5 (by kernel_rfl) (by kernel_rfl) ?_;apply AL
 ·intro V W K AA hW hd hA hK
  simp only[pA]at hA;clear hd;obtain rfl:=hA;have g0:=AJ (AK hW az.O J) 0 rfl;have g1:=AJ (AK hW az.O J) 1 rfl;have g2:=AJ (AK hW az.O J) 2 rfl;have g3:=AJ (AK hW az.O J) 3 rfl;have g4:=AJ (AK hW az.O J) 4 rfl;have g5:=AJ (AK hW az.O J) 5 rfl;have g6:=AJ (AK hW az.O J) 6 rfl;have g7:=AJ (AK hW az.O J) 7 rfl;go_wp2;exact hK.O _ brf
 apply AL
 ·intro V W K AA hW hd hA hK
  simp only[pA]at hA;clear hd;obtain rfl:=hA;have k0:=AJ (AK hW bi.O aA) 0 rfl;have k1:=AJ (AK hW bi.O aA) 1 rfl;have k2:=AJ (AK hW bi.O aA) 2 rfl;have k3:=AJ (AK hW bi.O aA) 3 rfl;go_wp2;exact hK.O _ brf
 refine AW (λv W=>∃Z z1 y2 z2 Y z3,v=.agg (qbV B Z z1 y2 z2 Y z3)/\BkOf W M B Z y2 Y z1 z2 z3) (λv W W2 ⟨Z,z1,y2,z2,Y,z3,h,hr⟩ hb=>⟨Z,z1,y2,z2,Y,z3,h,hr.below hb⟩) ?_ ?_
 ·intro V W K AA hW hd hA hK
  have d1:V 1=_:=hd 1 (by kernel_rfl);simp only[pA,d1]at hA;clear hd d1;obtain rfl:=hA
  go_wp2_with fail
  refine(Hf B a1 a2 a3 c1 c2 c3 W aw (hB.below (a5.trans (hW.mono a5.size)))).mono ?_;rintro e w3 ⟨Z,z1,y2,z2,Y,z3,rfl,hr,f3⟩;have aC:=CZ (hr.mono (AH bz hW.size));clear hr;go_wp2;exact hK.O _ _ f3 ⟨Z,z1,y2,z2,Y,z3,rfl,aC.O⟩
 refine AW (λv W=>∃Z z1 y2 z2 Y z3,v=.agg #[.string A.aa,.int .i64 A.aF,.int .i64 A.am,.int .i64 A.av,.int .i64 A.ay,.bool A.az,.slice ae A.aw.length ce,.bool A.drop,.int .i64 B.aj,.slice Z B.af.length z1,.slice y2 B.ah.length z2,.slice Y B.ak.length z3,.int .i64 0,.slice none 0 0]/\BkOf W M B Z y2 Y z1 z2 z3) (λv W W2 ⟨Z,z1,y2,z2,Y,z3,h,hr⟩ hb=>⟨Z,z1,y2,z2,Y,z3,h,hr.below hb⟩) ?_ ?_
 ·intro V W K AA hW hd hA hK
  have d0:V 0=_:=hd 0 (by kernel_rfl);have d2:(λv W=>∃Z z1 y2 z2 Y z3,v=.agg (qbV B Z z1 y2 z2 Y z3)/\BkOf W M B Z y2 Y z1 z2 z3) (V 2) W:=hd 2 (by kernel_rfl);simp only[pA,d0]at hA;clear hd d0;generalize V 2=x2 at d2 hA;obtain rfl:=hA;obtain⟨Z,z1,y2,z2,Y,z3,rfl,hr⟩:=d2;have aC:=CZ hr;clear hr;go_wp2;exact hK.O _ _ brf ⟨Z,z1,y2,z2,Y,z3,rfl,aC.O⟩
 refine AW (λv W=>∃q,v=.pointer (qad q)/\M<=q/\W.heap[q]?=some (.cells #[.string ⟨#[]⟩,.int .i64 0,.int .i64 0,.int .i64 0,.int .i64 0,.bool false,.slice none 0 0,.bool false,.int .i64 0,.slice none 0 0,.slice none 0 0,.slice none 0 0,.int .i64 0,.slice none 0 0] 227 (0,0))) (λv W W2 ⟨q,h1,h2,h3⟩ hb=>⟨q,h1,h2,AK hb h3 (AB h3).1⟩) ?_ ?_
 ·intro V W K AA hW hd hA hK
  simp only[pA]at hA;clear hd;obtain rfl:=hA;go_wp2;exact hK.O _ _ (AN _ _) ⟨W.heap.size,rfl,AH bz hW.size,dm _ _⟩
 intro V W AA hW hS hA;have d0:V 0=_:=hS 0 (by omega);have d1:V 1=_:=hS 1 (by omega);have d2:(λv W=>∃Z z1 y2 z2 Y z3,v=.agg (qbV B Z z1 y2 z2 Y z3)/\BkOf W M B Z y2 Y z1 z2 z3) (V 2) W:=hS 2 (by omega);have d3:(λv W=>∃Z z1 y2 z2 Y z3,v=.agg #[.string A.aa,.int .i64 A.aF,.int .i64 A.am,.int .i64 A.av,.int .i64 A.ay,.bool A.az,.slice ae A.aw.length ce,.bool A.drop,.int .i64 B.aj,.slice Z B.af.length z1,.slice y2 B.ah.length z2,.slice Y B.ak.length z3,.int .i64 0,.slice none 0 0]/\BkOf W M B Z y2 Y z1 z2 z3) (V 3) W:=hS 3 (by omega);have d4:(λv W=>∃q,v=.pointer (qad q)/\M<=q/\W.heap[q]?=some (.cells #[.string ⟨#[]⟩,.int .i64 0,.int .i64 0,.int .i64 0,.int .i64 0,.bool false,.slice none 0 0,.bool false,.int .i64 0,.slice none 0 0,.slice none 0 0,.slice none 0 0,.int .i64 0,.slice none 0 0] 227 (0,0))) (V 4) W:=hS 4 (by omega);simp only[pA,d0,d1]at hA;clear hS d0 d1;generalize V 2=x2 at d2 hA;generalize V 3=x3 at d3 hA;generalize V 4=x4 at d4 hA;obtain rfl:=hA;simp only[dl,dF];clear d2;obtain⟨Z,z1,y2,z2,Y,z3,rfl,hr⟩:=d3;obtain⟨q,rfl,d7,eV⟩:=d4;have aC:=CZ hr;have ci:Hid _:=eV;clear hr eV
 go_upto_region 4 with((with_reducible show wpList _ _ _ _ _ _);refine AM rfl 227 (.tmp 6) (.tmp 14) rfl q 0 #[.string A.aa,.int .i64 A.aF,.int .i64 A.am,.int .i64 A.av,.int .i64 A.ay,.bool A.az,.slice ae A.aw.length ce,.bool A.drop,.int .i64 B.aj,.slice Z B.af.length z1,.slice y2 B.ah.length z2,.slice Y B.ak.length z3,.int .i64 0,.slice none 0 0] rfl rfl 227 #[.string ⟨#[]⟩,.int .i64 0,.int .i64 0,.int .i64 0,.int .i64 0,.bool false,.slice none 0 0,.bool false,.int .i64 0,.slice none 0 0,.slice none 0 0,.slice none 0 0,.int .i64 0,.slice none 0 0] ci.O MD (AD rfl) (by simp[Value.oneCell']) ?_;intro w2 hz on;have c7:Hid (qBl w2 q #[.string A.aa,.int .i64 A.aF,.int .i64 A.am,.int .i64 A.av,.int .i64 A.ay,.bool A.az,.slice ae A.aw.length ce,.bool A.drop,.int .i64 B.aj,.slice Z B.af.length z1,.slice y2 B.ah.length z2,.slice Y B.ak.length z3,.int .i64 0,.slice none 0 0] 227):=hz;have cv:Hid (A6 q W w2):=on;clear hz on)
 have kq:KeepT 227 W w2:=.aV cv.O ci.O;have bU:Hid (WkAt w2 M q A ae ce B 0 []):=⟨Z,y2,Y,z1,z2,z3,.slice none 0 0,d7,c7.O,⟨kq.aN aC.O.af (by decide),kq.aN aC.O.ah (by decide),kq.aN aC.O.ak (by decide)⟩,⟨rfl,.inl ⟨rfl,rfl⟩⟩⟩;have bt:Below M W0 w2:=d8.trans ((hW.mono bz).trans (cv.O.below.mono d7));have ev:M<=w2.heap.size:=by have:=bt.size;omega
 have ct:Hid (∀W',Below M w2 W'->SlE W' ae A.aw):=λW' h=>hE.below (ai.trans ((bt.trans h).mono (by omega)))
 clear kq c7 cv ci aC hW d8 bz bi az aA J a5
 go_wp2_with fail
 refine(find_any A ae ce B M q _ ec hl ct hV aw hZ fv ev bU.O).mono ?_;rintro e w3 ⟨hf,cl⟩;have hx:=bt.trans cl;have da:M<=w3.heap.size:=by have:=hx.size;omega
 have de:Hid (∀W',Below M w3 W'->SlE W' ae A.aw):=λW' h=>ct.O W' (cl.trans h)
 clear bt cl bU ct ev;rcases hf with⟨k,s,hk,aK,d9,rfl,F⟩|⟨aq,rfl⟩
 rotate_left
 ·have aF:Hid _:=aq
  clear aq;go_wp2;exact FL _ _ _ 3 _ rfl rfl (AK hx T2.O (by omega)) (AK hx T3.O (by omega)) λw' H=>⟨.inr ⟨3,Qa ay.O aF.O,by decide,rfl⟩,ai.trans ((hx.mono (by omega)).trans (H _ (by omega) (by omega) (by omega)))⟩
 have ca:=GR F;have HK:Hid _:=hk;have aS:Hid _:=aK;have a6:Hid _:=d9;have d5:s.name=A.aa:=by obtain⟨_,_,_,h⟩:=Fg aK;exact h
 have bM:Hid _:=d5;have ax:=hV.bc (CQ aK);clear F hk aK d9 d5;have bO:B.af.length<=1048576:=aw.1
 go_wp2_with fail
 refine(L9 A ae ce B s M q k _ aw hl bO da HK.O a6 de ca.O).mono ?_;rintro e w4 ⟨hf,ea⟩;have hx:=hx.trans ea;have f6:M<=w4.heap.size:=by have:=hx.size;omega
 clear ea ca de da;rcases hf with⟨c6,rfl,F⟩|⟨aq,rfl⟩
 rotate_left
 ·have aF:Hid _:=aq
  clear aq;go_wp2;exact FL _ _ _ 4 _ rfl rfl (AK hx T2.O (by omega)) (AK hx T3.O (by omega)) λw' H=>⟨.inr ⟨4,QZ ay.O aS.O a6.O aF.O,by decide,rfl⟩,ai.trans ((hx.mono (by omega)).trans (H _ (by omega) (by omega) (by omega)))⟩
 have dr:Hid _:=c6;have bS:=GR F;have aH:=hV.aj;unfold inB at aH;simp only[cY,dM]at aH;clear F c6
 go_wp2_with fail
 refine(Rq A ae ce B s M q k _ _ bO HK.O aH.1 aH.2 bS.O).mono ?_;rintro e w5 ⟨rfl,F,dq⟩;have hx:=hx.trans dq;have c9:M<=w5.heap.size:=by have:=hx.size;omega
 have b7:=GR F;have dx:Hid ((B.af.set k {s with ag:=B.aj+1})[k]?=some {s with ag:=B.aj+1}):=by unfold Hid;rw[eC (AC HK.O).1]
 have dp:(({B with aj:=B.aj+1,af:=B.af.set k {s with ag:=B.aj+1}}:Bk)).aJ:=⟨by simpa using aw.1,aw.2.1,aw.2.2⟩;clear F dq bS f6
 go_wp2_with fail
 refine(end_any A ae ce B ({B with aj:=B.aj+1,af:=B.af.set k {s with ag:=B.aj+1}}:Bk) {s with ag:=B.aj+1} M q k _ rfl dp (show Di B.ah from OY hV) hl c9 dx.O bM.O ax.bq ax.bH ax.bY ax.bZ a6.O b7.O).mono ?_;rintro e w6 ⟨hf,e0⟩;have hx:=hx.trans e0;have eS:M<=w6.heap.size:=by have:=hx.size;omega
 clear e0 b7 c9;rcases hf with⟨L,eM,rfl,F⟩|⟨aq,rfl⟩
 rotate_left
 ·have aF:Hid (BL B s A.aa (B.aj+1) A.aw B.ah=none):=by unfold Hid;rw[<-JB (u:=B.aj+1)];exact aq
  clear aq;go_wp2;exact FL _ _ _ 5 _ rfl rfl (AK hx T2.O (by omega)) (AK hx T3.O (by omega)) λw' H=>⟨.inr ⟨5,code_5 ay.O aS.O a6.O dr.O aF.O,by decide,rfl⟩,ai.trans ((hx.mono (by omega)).trans (H _ (by omega) (by omega) (by omega)))⟩
 have bq:Hid (BL B s A.aa (B.aj+1) A.aw B.ah=some L):=by unfold Hid;rw[<-JB (u:=B.aj+1)];exact eM
 have cb:Hid (WkAt w6 M q A ae ce ({aj:=B.aj+1,af:=B.af.set k {s with ag:=B.aj+1},ah:=L,ak:=B.ak}:Bk) k (C5 B A)):=F;have an:Hid (Bc B A=DC B A s L):=M0 ay.O aS.O a6.O dr.O bq.O;have cc:Hid (L.map Cv=B.ah.map Cv):=Ft _ _ _ _ _ _ _ bq.O;have d6:L.length=B.ah.length:=by have:=em List.length cc.O;simpa using this
 have dc:Hid (Di L):=Pu cc.O (OY hV);clear eM F
 go_wp2_with fail
 refine(Rv A ae ce ({aj:=B.aj+1,af:=B.af.set k {s with ag:=B.aj+1},ah:=L,ak:=B.ak}:Bk) {s with ag:=B.aj+1} M q k _ _ (by simpa using bO) eS dx.O cb.O).mono ?_;rintro e w7 ⟨hf,ez⟩;have hx:=hx.trans ez;have cM:M<=w7.heap.size:=by have:=hx.size;omega
 clear ez cb eS;rcases hf with⟨eX,rfl,F⟩|⟨aq,rfl⟩
 rotate_left
 ·have aF:Hid (BA A s=true):=aq
  clear aq;go_wp2;exact FL _ _ _ 6 _ rfl rfl (AK hx T2.O (by omega)) (AK hx T3.O (by omega)) λw' H=>⟨.inr ⟨6,by rw[an.O];exact LL aF.O,by decide,rfl⟩,ai.trans ((hx.mono (by omega)).trans (H _ (by omega) (by omega) (by omega)))⟩
 have f1:Hid (BA A s=false):=eX;have bl:Hid (WkAt w7 M q A ae ce ({aj:=B.aj+1,af:=(B.af.set k {s with ag:=B.aj+1}).set k (AQ A {s with ag:=B.aj+1}),ah:=L,ak:=B.ak}:Bk) k (C5 B A)):=F
 have bR:Hid ((({aj:=B.aj+1,af:=(B.af.set k {s with ag:=B.aj+1}).set k (AQ A {s with ag:=B.aj+1}),ah:=L,ak:=B.ak}:Bk)).af[k]?=some (AQ A {s with ag:=B.aj+1})):=by
  unfold Hid;show((B.af.set k {s with ag:=B.aj+1}).set k (AQ A {s with ag:=B.aj+1}))[k]?=some (AQ A {s with ag:=B.aj+1});rw[eC (by rw[du];exact(AC HK.O).1)]
 have aL:(({aj:=B.aj+1,af:=(B.af.set k {s with ag:=B.aj+1}).set k (AQ A {s with ag:=B.aj+1}),ah:=L,ak:=B.ak}:Bk)).aJ:=⟨by simpa using aw.1,by show L.length<=1048576;rw[d6];exact aw.2.1,aw.2.2⟩;have bB:=Du ay.O
 have ds:0<=((AQ A {s with ag:=B.aj+1})).av/\((AQ A {s with ag:=B.aj+1})).av<=10:=by
  cases hA:A.az
  ·rw[Gi hA];exact⟨ax.bq,ax.bH⟩
  ·rw[Fh hA];exact(PV ay.O).O hA
 have HF:Hid _:=Ek A s (B.aj+1);have eb:0<=((AQ A {s with ag:=B.aj+1})).aE/\((AQ A {s with ag:=B.aj+1})).aE<=10:=by rw[HF.O.2.2.2.2];exact⟨ax.cf,ax.cg⟩
 have bI:1<=((AQ A {s with ag:=B.aj+1})).next/\((AQ A {s with ag:=B.aj+1})).next<=1000000:=by rw[HF.O.2.1];exact⟨ax.br,ax.bI⟩
 obtain⟨C,HC⟩:∃C,Hid (C=BM ((AQ A {s with ag:=B.aj+1})).ar ((AQ A {s with ag:=B.aj+1})).name L L.length):=⟨_,rfl⟩;have e4:Hid (C=BM s.ar s.name L L.length):=by unfold Hid;rw[HC.O,HF.O.1,HF.O.2.2.1]
 have cf:Hid (CC A (AQ A {s with ag:=B.aj+1}) C=CC A (AQ A s) (BD {B with ah:=L} A.aa)):=by
  unfold Hid;rw[L5,cntB_cps aS.O,e4.O,bM.O]
 have b0:Hid (BY A (AQ A {s with ag:=B.aj+1}) C=BY A s (BD B A.aa)):=O9 aS.O bM.O ay.O bq.O e4.O;clear F eX;obtain⟨mb,co⟩:∃b,Hid (CC A (AQ A {s with ag:=B.aj+1}) C=b):=⟨_,rfl⟩;obtain⟨db,cm⟩:∃b,Hid (BY A (AQ A {s with ag:=B.aj+1}) C=b):=⟨_,rfl⟩
 go_wp2_with fail
 refine(L4 A ae ce ({aj:=B.aj+1,af:=(B.af.set k {s with ag:=B.aj+1}).set k (AQ A {s with ag:=B.aj+1}),ah:=L,ak:=B.ak}:Bk) (AQ A {s with ag:=B.aj+1}) M q k _ _ aL dc cM bR.O C HC bB.1 bB.2 ds.1 ds.2 eb.1 eb.2 bl.O).mono ?_;rintro e w8 ⟨rfl,cL⟩;have hx:=hx.trans (cL.mono cM);have cq:M<=w8.heap.size:=by have:=hx.size;omega
 have a8:=GR (bl.O.below cL);clear cL bl cM;rw[co.O];cases mb
 rotate_left
 ·go_wp2_with (go_at_call 183;refine(Ce 6 _).mono ?_;rintro e w2 ⟨rfl,rfl⟩)
  exact FL _ _ _ 6 _ rfl rfl (AK hx T2.O (by omega)) (AK hx T3.O (by omega)) λw' H=>⟨.inr ⟨6,by rw[an.O];exact Mk (by rw[<-cf.O];exact co.O),by decide,rfl⟩,ai.trans ((hx.mono (by omega)).trans (H _ (by omega) (by omega) (by omega)))⟩
 go_wp2_with fail
 refine(On A ae ce ({aj:=B.aj+1,af:=(B.af.set k {s with ag:=B.aj+1}).set k (AQ A {s with ag:=B.aj+1}),ah:=L,ak:=B.ak}:Bk) (AQ A {s with ag:=B.aj+1}) M q k _ _ aL dc cq bR.O C HC a8.O).mono ?_;rintro e w9 ⟨rfl,cB⟩;have hx:=hx.trans (cB.mono cq);have en:M<=w9.heap.size:=by have:=hx.size;omega
 have bm:=GR (a8.O.below cB);clear cB a8 cq;rw[cm.O];cases db
 rotate_left
 ·go_wp2_with (go_at_call 183;refine(Ce 6 _).mono ?_;rintro e w2 ⟨rfl,rfl⟩)
  exact FL _ _ _ 6 _ rfl rfl (AK hx T2.O (by omega)) (AK hx T3.O (by omega)) λw' H=>⟨.inr ⟨6,by rw[an.O];exact Ml (by rw[<-b0.O];exact cm.O),by decide,rfl⟩,ai.trans ((hx.mono (by omega)).trans (H _ (by omega) (by omega) (by omega)))⟩
 have el:Hid (DC B A s L=if DO B A (AQ A s) then 7 else 0):=Mi f1.O (by rw[<-cf.O];exact co.O) (by rw[<-b0.O];exact cm.O);obtain⟨rb,ch⟩:∃b,Hid (Hc ({aj:=B.aj+1,af:=(B.af.set k {s with ag:=B.aj+1}).set k (AQ A {s with ag:=B.aj+1}),ah:=L,ak:=B.ak}:Bk) A (AQ A {s with ag:=B.aj+1})=b):=⟨_,rfl⟩
 have bZ:Hid (DO B A (AQ A s)=!rb):=by
  have h:=Pt (B:=B) (X:=({aj:=B.aj+1,af:=(B.af.set k {s with ag:=B.aj+1}).set k (AQ A {s with ag:=B.aj+1}),ah:=L,ak:=B.ak}:Bk)) (A:=A) (s:=s) (u:=B.aj+1) d6 rfl;unfold Hid;rw[<-ch.O,h,Bool.not_not]
 go_wp2_with (first|(go_at_call 183;refine(CV 6 _).mono ?_;rintro e w2 ⟨rfl,rfl⟩))
 refine(O0 A ae ce ({aj:=B.aj+1,af:=(B.af.set k {s with ag:=B.aj+1}).set k (AQ A {s with ag:=B.aj+1}),ah:=L,ak:=B.ak}:Bk) (AQ A {s with ag:=B.aj+1}) M q k _ _ aL bR.O bB.1 bB.2 bI.1 bI.2 bm.O).mono ?_;rintro e f4 ⟨rfl,bj⟩;have hx:=hx.trans (bj.mono en);have b4:M<=f4.heap.size:=by have:=hx.size;omega
 have bf:=GR (bm.O.below bj);clear bj bm en;rw[ch.O];cases rb
 ·go_wp2_with (go_at_call 183;refine(Ce 7 _).mono ?_;rintro e w2 ⟨rfl,rfl⟩)
  exact FL _ _ _ 7 _ rfl rfl (AK hx T2.O (by omega)) (AK hx T3.O (by omega)) λw' H=>⟨.inr ⟨7,by rw[an.O,el.O,bZ.O];rfl,by decide,rfl⟩,ai.trans ((hx.mono (by omega)).trans (H _ (by omega) (by omega) (by omega)))⟩
 have cr:Hid (Bc B A=0):=by unfold Hid;rw[an.O,el.O,bZ.O];rfl
 obtain⟨aM,aI⟩:∃n:Nat,Hid (A.am=(n:Int)):=⟨A.am.toNat,by unfold Hid;omega⟩;have eg:aM<=20:=by have:=aI.O;omega
 have cK:L.length+aM<=200:=by
  have h:=ch.O;unfold Hc at h;simp only[cY,dM]at h;have h1:=h.1;rw[aI.O]at h1;have h2:(L.length:Int)+(aM:Int)<=200:=h1;omega
 go_wp2_with (first|(go_at_call 183;refine(CV 7 _).mono ?_;rintro e w2 ⟨rfl,rfl⟩))
 refine(QV A ae ce ({aj:=B.aj+1,af:=(B.af.set k {s with ag:=B.aj+1}).set k (AQ A {s with ag:=B.aj+1}),ah:=L,ak:=B.ak}:Bk) (AQ A {s with ag:=B.aj+1}) M q k aM _ _ aL b4 bR.O aI.O eg bI.1 bI.2 cK bf.O).mono ?_;rintro e c8 ⟨rfl,F,b6⟩;have hx:=hx.trans b6;have b5:M<=c8.heap.size:=by have:=hx.size;omega
 have bk:Hid (WkAt c8 M q A ae ce ({aj:=B.aj+1,af:=((B.af.set k {s with ag:=B.aj+1}).set k (AQ A {s with ag:=B.aj+1})).set k {(AQ A {s with ag:=B.aj+1}) with next:=(AQ A {s with ag:=B.aj+1}).next+A.am},ah:=DD L (BJ L (AQ A {s with ag:=B.aj+1}).name) (mkO ({aj:=B.aj+1,af:=(B.af.set k {s with ag:=B.aj+1}).set k (AQ A {s with ag:=B.aj+1}),ah:=L,ak:=B.ak}:Bk) (AQ A {s with ag:=B.aj+1})) aM,ak:=B.ak}:Bk) k (C5 B A)):=F;clear F b6 bf b4
 go_wp2_with fail
 refine(drop_any A ae ce ({aj:=B.aj+1,af:=((B.af.set k {s with ag:=B.aj+1}).set k (AQ A {s with ag:=B.aj+1})).set k {(AQ A {s with ag:=B.aj+1}) with next:=(AQ A {s with ag:=B.aj+1}).next+A.am},ah:=DD L (BJ L (AQ A {s with ag:=B.aj+1}).name) (mkO ({aj:=B.aj+1,af:=(B.af.set k {s with ag:=B.aj+1}).set k (AQ A {s with ag:=B.aj+1}),ah:=L,ak:=B.ak}:Bk) (AQ A {s with ag:=B.aj+1})) aM,ak:=B.ak}:Bk) {(AQ A {s with ag:=B.aj+1}) with next:=((AQ A {s with ag:=B.aj+1})).next+A.am} M q k _ _ (by simpa using bO) b5 (by show(((B.af.set k {s with ag:=B.aj+1}).set k (AQ A {s with ag:=B.aj+1})).set k {(AQ A {s with ag:=B.aj+1}) with next:=((AQ A {s with ag:=B.aj+1})).next+A.am})[k]?=_;rw[eC (by rw[du,du];exact(AC HK.O).1)]) bk.O).mono ?_;rintro e bH ⟨rfl,F,b9⟩;have hx:=hx.trans b9;have hq:M<=bH.heap.size:=by have:=hx.size;omega
 have bb:=SL hV ay.O aS.O HK.O bM.O bq.O aI.O;have e3:WkAt bH M q A ae ce (Az B A) k (C5 B A):=by rw[bb];exact F
 obtain⟨b1,b2,b3,d1,d2,d3,ve,hm,hg,ex,_⟩:=e3;have HG:Hid _:=hg;have cz:=CZ ex;have bX:Hid _:=AK hx T2.O (show w.heap.size+1+1<M by omega);have eT:Hid _:=AK hx T3.O (show w.heap.size+1+1+1<M by omega);have e8:=AJ HG.O 8 rfl;have e9:=AJ HG.O 9 rfl;have hw:=AJ HG.O 10 rfl;have hI:=AJ HG.O 11 rfl;clear F b9 bk b5 bb hg ex
 go_wp2_with (first
  |((with_reducible show wpList _ _ _ _ _ _);refine AM rfl 28 (.tmp 4) (.tmp 30) rfl (w.heap.size+1+1) 0 #[.int .i64 (Az B A).aj,.slice b1 (Az B A).af.length d1,.slice b2 (Az B A).ah.length d2,.slice b3 (Az B A).ak.length d3] rfl rfl 28 qzV bX.O Bj (AD rfl) (by simp[Value.oneCell']) ?_;intro a4 hz on;have ey:Hid (qBl a4 (w.heap.size+1+1) #[.int .i64 (Az B A).aj,.slice b1 (Az B A).af.length d1,.slice b2 (Az B A).ah.length d2,.slice b3 (Az B A).ak.length d3] 28):=hz;have bY:Hid (A6 (w.heap.size+1+1) bH a4):=on;have cd:Hid _:=(on.aB (w.heap.size+1+1+1) (by omega)).trans eT.O;clear hz on)
  |((with_reducible show wpList _ _ _ _ _ _);refine BC rfl 127 (.tmp 5) (.const .nilIface) rfl (w.heap.size+1+1+1) 0 .nilIface rfl rfl Io rfl rfl 127 #[.nilIface] cd.O (AD rfl) ?_;intro a7 hz on;have dd:Hid (qBl a7 (w.heap.size+1+1+1) #[.nilIface] 127):=hz;have a9:Hid (A6 (w.heap.size+1+1+1) a4 a7):=on;clear hz on))
 have kA:KeepT 28 bH a4:=.aV bY.O bX.O;have kB:KeepT 127 a4 a7:=.aV a9.O cd.O;have ee:BkOf a7 M (Az B A) b1 b2 b3 d1 d2 d3:=⟨kB.aN (kA.aN cz.O.af (by decide)) (by decide),kB.aN (kA.aN cz.O.ah (by decide)) (by decide),kB.aN (kA.aN cz.O.ak (by decide)) (by decide)⟩;have e1:=(a9.O.aB (w.heap.size+1+1) (by omega)).trans ey.O;have et:Below w.heap.size w a7:=ai.trans ((hx.mono (by omega)).trans ((bY.O.below.mono (by omega)).trans (a9.O.below.mono (by omega))));exact door_yes _ _ _ _ _ _ _ _ rfl rfl e1 dd.O λw' H=>⟨.inl ⟨cr.O,b1,b2,b3,d1,d2,d3,rfl,(ee.below H).mono (by omega)⟩,et.trans (H.mono et.size)⟩
end
end Go.Proofs.YtbceafpodamnfaaGreatDoor
