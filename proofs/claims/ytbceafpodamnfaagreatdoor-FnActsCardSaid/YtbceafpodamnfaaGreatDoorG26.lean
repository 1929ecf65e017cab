import Derived.Test.YtbceafpodamnfaaGreatDoorG25
import Derived.Stop.Asserts
import Derived.LaidEql
import Derived.OneCell
import Derived.RowKitTokens
set_option linter.all false
set_option maxHeartbeats 16000000
set_option maxRecDepth 100000
namespace Go.Proofs.YtbceafpodamnfaaGreatDoor
section
open Go.RowKit Go.Sort
def CP(I:List Int):List Value:=I.map λi=>.int .i64 i
theorem CG:(Tryz.prog.info? 3).map (·.size)=some 1:=by kernel_rfl
theorem Gb:(Tryz.prog.info? 4).map (·.size)=some 1:=by kernel_rfl
structure KeepT(e:TypeId)(w w':World):Prop where
 size:w.heap.size<=w'.heap.size
 aB:∀k,k<w.heap.size->(∀cs fr,w.heap[k]?≠some (.cells cs e fr))->w'.heap[k]?=w.heap[k]?
theorem KeepT.aV{e:TypeId}{w w':World}{b:Nat}{cs:Array Value}{fr:Nat × Nat}(on:A6 b w w')(hb:w.heap[b]?=some (.cells cs e fr)):KeepT e w w':=
 ⟨fH on.size.symm,λk _ F=>on.aB k λh=>by subst h;exact F _ _ hb⟩
theorem KeepT.be{e:TypeId}{w w':World}{b:Nat}{size n cap:Nat}{xs:qL}(on:A6 b w w')(hb:RowIs w e size b n cap xs):KeepT e w w':=by
 obtain⟨_,_,H,F,_⟩:=hb;exact .aV on F
theorem KeepT.ba{e:TypeId}{w w':World}(hb:Below w.heap.size w w'):KeepT e w w':=⟨hb.size,λk hk _=>hb.block k hk⟩
theorem KeepT.trans{e:TypeId}{w w' F:World}(h:KeepT e w w')(M:KeepT e w' F):KeepT e w F:=
 ⟨AH h.size M.size,λk hk H=>by
  have J:=h.aB k hk H
  rw[M.aB k (AF hk h.size) (λcs fr=>by rw[J];exact H cs fr),J]⟩
theorem KeepT.aR{e t:TypeId}{w w':World}{g:Nat}{cs:Array Value}{fr:Nat × Nat}(h:KeepT e w w')(H:w.heap[g]?=some (.cells cs t fr))(J:t≠e):w'.heap[g]?=some (.cells cs t fr):=by
 rw[h.aB g (AB H).1 λW M F=>?_]
 ·exact H
 ·rw[H]at F
  injection F with F
  injection F with _ F
  exact J F
theorem KeepT.same{e t:TypeId}{w w':World}{g:Nat}{cs:Array Value}{fr:Nat × Nat}(h:KeepT e w w')(F:w.heap[g]?=some (.cells cs t fr))(H:t≠e):w'.heap[g]?=w.heap[g]?:=(h.aR F H).trans F.symm
theorem KeepT.map{e:TypeId}{w w':World}{g:Nat}{es:_}{c:_}(h:KeepT e w w')(H:w.heap[g]?=some (.map es c)):w'.heap[g]?=w.heap[g]?:=
 h.aB g (AB H).1 λM J F=>by rw[H]at F;injection F with F;cases F
theorem KeepT.cy{e t:TypeId}{w w':World}{g size n cap:Nat}{xs:qL}(h:KeepT e w w')(F:RowIs w t size g n cap xs)(J:t≠e):RowIs w' t size g n cap xs:=by
 obtain⟨_,_,M,H,_⟩:=id F;exact F.aR (h.same H J)
theorem KeepT.aN{e t:TypeId}{w w':World}{N size n cap:Nat}{ao:qO}{xs:qL}(h:KeepT e w w')(J:RowN w N t size ao n cap xs)(F:t≠e):RowN w' N t size ao n cap xs:=
 J.aR λ_ _ _ _ H=>h.same H F
theorem Od{w w':World}{lo:Nat}{e:TypeId}{size:Nat}{v:Value}{n:Nat}{xs:qL}(h:w.ownsRow lo e size v n xs)(hb:∀(g:Nat) (cs:Array Value) (fr:Nat × Nat),w.heap[g]?=some (Obj.cells cs e fr)->w'.heap[g]?=w.heap[g]?):w'.ownsRow lo e size v n xs:=by
 obtain⟨Y,J⟩:=h;refine⟨Y,?_⟩;rcases J with J|⟨g,cap,F,W,H,M,r⟩
 ·exact .inl J
 ·exact .inr ⟨g,cap,F,W,H,by rw[hb g F _ M];exact M,r⟩
theorem CK{w w':World}{lo:Nat}{e:TypeId}{size:Nat}{v:Value}{n:Nat}{xs:qL}(h:w.ownsRow lo e size v n xs)(hb:Below w.heap.size w w'):w'.ownsRow lo e size v n xs:=
 Od h λg _ _ F=>hb.block g (AB F).1
theorem KeepT.aQ{e t:TypeId}{w w':World}{lo:Nat}{size:Nat}{v:Value}{n:Nat}{xs:qL}(h:KeepT t w w')(J:w.ownsRow lo e size v n xs)(F:e≠t):w'.ownsRow lo e size v n xs:=
 Od J λ_ _ _ H=>h.same H F
def WkAt(w:World)(N g:Nat)(A:Ac)(ae:qO)(ce:Nat)(X:Bk)(k:Int)(I:List Int):Prop:=∃(b1 b2 b3:qO) (d1 d2 d3:Nat) (ve:Value),N<=g/\qBl w g #[.string A.aa,.int .i64 A.aF,.int .i64 A.am,.int .i64 A.av,.int .i64 A.ay,.bool A.az,.slice ae A.aw.length ce,.bool A.drop,.int .i64 X.aj,.slice b1 X.af.length d1,.slice b2 X.ah.length d2,.slice b3 X.ak.length d3,.int .i64 k,ve] 227/\BkOf w N X b1 b2 b3 d1 d2 d3/\w.ownsRow N 3 1 ve I.length (CP I)
theorem GR{w:World}{N g:Nat}{A:Ac}{ae:qO}{ce:Nat}{X:Bk}{k:Int}{I:List Int}(h:WkAt w N g A ae ce X k I):Hid (WkAt w N g A ae ce X k I):=h
theorem WkAt.below{w w':World}{N g:Nat}{A:Ac}{ae:qO}{ce:Nat}{X:Bk}{k:Int}{I:List Int}(h:WkAt w N g A ae ce X k I)(hb:Below w.heap.size w w'):WkAt w' N g A ae ce X k I:=by
 obtain⟨b1,b2,Z,d1,d2,Y,W,F,M,H,J⟩:=h;exact⟨b1,b2,Z,d1,d2,Y,W,F,AK hb M (AB M).1,H.below hb,CK J hb⟩
theorem Je(A:Ac)(ae:qO)(ce:Nat)(aj:Int)(g g1 o1 n1 d1 k:Nat)(v2 v3 ve:Value)(w:World)(hk:k<n1)(hn:n1<=1048576)(hg:qBl w g #[.string A.aa,.int .i64 A.aF,.int .i64 A.am,.int .i64 A.av,.int .i64 A.ay,.bool A.az,.slice ae A.aw.length ce,.bool A.drop,.int .i64 aj,.slice (some ⟨g1,o1,none⟩) n1 d1,v2,v3,.int .i64 (k:Int),ve] 227):
  Calls Tryz.prog 247 #[.pointer (qad g)] w λe w'=>e=.returned (.pointer (some ⟨g1,o1+k*13,none⟩))/\Below w.heap.size w w':=by
 have HG:Hid _:=hg;have ai:g<w.heap.size:=(AB hg).1;clear hg;go_enter Tryz.func247,Tryz.ntmps247
 go_upto_region 1 with fail
 refine AV 10 (by kernel_rfl) (by kernel_rfl) ?_;apply AL
 ·intro V W K A M H F J
  simp only[pA]at F;clear H;obtain rfl:=F;go_wp2;exact J.O _ brf
 apply AL
 ·intro V W K A M H F J
  have d0:V 0=_:=H 0 (by kernel_rfl);simp only[pA,d0]at F;clear H d0;obtain rfl:=F;go_wp2;exact J.O _ brf
 apply AL
 ·intro V W K A M H F J
  have d1:V 1=_:=H 1 (by kernel_rfl);simp only[pA,d1]at F;clear H d1;obtain rfl:=F;go_wp2;exact J.O _ brf
 apply AL
 ·intro V W K A M H F J
  have d2:V 2=_:=H 2 (by kernel_rfl);simp only[pA,d2]at F;clear H d2;obtain rfl:=F;go_wp2;exact J.O _ brf
 apply AL
 ·intro V W K A M H F J
  have d3:V 3=_:=H 3 (by kernel_rfl);simp only[pA,d3]at F;clear H d3;obtain rfl:=F;have e9:=AJ (AK M HG.O ai) 9 rfl;go_wp2;exact J.O _ brf
 apply AL
 ·intro V W K A M H F J
  simp only[pA]at F;clear H;obtain rfl:=F;go_wp2;exact J.O _ brf
 apply AL
 ·intro V W K A M H F J
  have d5:V 5=_:=H 5 (by kernel_rfl);simp only[pA,d5]at F;clear H d5;obtain rfl:=F;go_wp2;exact J.O _ brf
 apply AL
 ·intro V W K A M H F J
  have d6:V 6=_:=H 6 (by kernel_rfl);simp only[pA,d6]at F;clear H d6;obtain rfl:=F;go_wp2;exact J.O _ brf
 apply AL
 ·intro V W K A M H F J
  have Z:V 7=_:=H 7 (by kernel_rfl);simp only[pA,Z]at F;clear H Z;obtain rfl:=F;have au:=AJ (AK M HG.O ai) 12 rfl;go_wp2;exact J.O _ brf
 apply AL
 ·intro V W K A M H F J
  have d4:V 4=_:=H 4 (by kernel_rfl);have d8:V 8=_:=H 8 (by kernel_rfl);simp only[pA,d4,d8]at F;clear H d4 d8;obtain rfl:=F;go_wp2;exact J.O _ brf
 intro V W A M Y F;have d0:V 0=_:=Y 0 (by omega);have d1:V 1=_:=Y 1 (by omega);have d2:V 2=_:=Y 2 (by omega);have d3:V 3=_:=Y 3 (by omega);have d4:V 4=_:=Y 4 (by omega);have d5:V 5=_:=Y 5 (by omega);have d6:V 6=_:=Y 6 (by omega);have Z:V 7=_:=Y 7 (by omega);have d8:V 8=_:=Y 8 (by omega);have d9:V 9=_:=Y 9 (by omega);simp only[pA,d0,d1,d2,d3,d4,d5,d6,Z,d8,d9]at F;clear Y d0 d1 d2 d3 d4 d5 d6 Z d8 d9;obtain rfl:=F;simp only[dl,dF];go_wp2;go_ret;exact⟨rfl,M⟩
theorem DT(A:Ac)(ae:qO)(ce:Nat)(aj:Int)(g g1 n1 d1 k:Nat)(J H F:Value)(w:World)(hk:k<n1)(W:n1<=1048576)(M:qBl w g #[.string A.aa,.int .i64 A.aF,.int .i64 A.am,.int .i64 A.av,.int .i64 A.ay,.bool A.az,.slice ae A.aw.length ce,.bool A.drop,.int .i64 aj,.slice (qad g1) n1 d1,J,H,.int .i64 (k:Int),F] 227):
  Calls Tryz.prog 247 #[.pointer (qad g)] w λe w'=>e=.returned (.pointer (some ⟨g1,k*13,none⟩))/\Below w.heap.size w w':=by
 have h:=Je A ae ce aj g g1 0 n1 d1 k J H F w hk W M;rw[dJ]at h;exact h
theorem Rq(A:Ac)(ae:qO)(ce:Nat)(X:Bk)(s:Svc)(N g k:Nat)(I:List Int)(w:World)(aM:X.af.length<=1048576)(hk:X.af[k]?=some s)(h0:0<=X.aj)(h1:X.aj<=1000000)(Y:WkAt w N g A ae ce X k I):
  Calls Tryz.prog 187 #[.pointer (qad g)] w λe w'=>e=.returned (.tuple #[])/\WkAt w' N g A ae ce {X with aj:=X.aj+1,af:=X.af.set k {s with ag:=X.aj+1}} k I/\Below N w w':=by
 obtain⟨b1,b2,b3,d1,d2,d3,ve,az,hg,ak,au⟩:=Y;have aI:k<X.af.length:=(AC hk).1;obtain⟨g1,e1,aA,ai⟩:=ak.af.some (by omega);subst e1;obtain⟨n1,an⟩:∃n,Hid (X.af.length=n):=⟨_,rfl⟩;obtain⟨n2,ar⟩:∃n,Hid (X.ah.length=n):=⟨_,rfl⟩;obtain⟨n3,aq⟩:∃n,Hid (X.ak.length=n):=⟨_,rfl⟩;obtain⟨ne,aG⟩:∃n,Hid (I.length=n):=⟨_,rfl⟩;obtain⟨r2,r3⟩:RowN w N 76 7 b2 X.ah.length d2 (Ar X.ah)/\RowN w N 90 2 b3 X.ak.length d3 (CN X.ak):=⟨ak.ah,ak.ak⟩;clear ak;rw[an.O]at ai hg aI aM;rw[ar.O]at r2 hg;rw[aq.O]at r3 hg;rw[aG.O]at au;have HK:Hid _:=hk;have HG:Hid _:=hg;have a7:Hid (RowIs w 34 13 g1 n1 d1 (Ab X.af)):=ai;have a9:=BU r2;have bb:=BU r3;have a6:Hid (w.ownsRow N 3 1 ve ne (CP I)):=au;have br:g<w.heap.size:=(AB hg).1;have bm:g1<w.heap.size:=ai.lt;clear hk hg ai r2 r3 au;have e8:=AJ HG.O 8 rfl;go_enter Tryz.func187,Tryz.ntmps187
 go_upto_region 1 with(refine BC rfl 3 (.tmp 10) (.tmp 7) rfl g 8 (.int .i64 (X.aj+1)) rfl (by go_num) CG rfl rfl 227 #[.string A.aa,.int .i64 A.aF,.int .i64 A.am,.int .i64 A.av,.int .i64 A.ay,.bool A.az,.slice ae A.aw.length ce,.bool A.drop,.int .i64 X.aj,.slice (qad g1) n1 d1,.slice b2 n2 d2,.slice b3 n3 d3,.int .i64 (k:Int),ve] HG.O (AD rfl) ?_;intro w1 hz on;have av:Hid (qBl w1 g #[.string A.aa,.int .i64 A.aF,.int .i64 A.am,.int .i64 A.av,.int .i64 A.ay,.bool A.az,.slice ae A.aw.length ce,.bool A.drop,.int .i64 (X.aj+1),.slice (qad g1) n1 d1,.slice b2 n2 d2,.slice b3 n3 d3,.int .i64 (k:Int),ve] 227):=hz;have al:Hid (A6 g w w1):=on;clear hz on)
 clear e8;have bx:=al.O.size;have Z:g<w1.heap.size:=by omega
 have aC:Hid (RowIs w1 34 13 g1 n1 d1 (Ab X.af)):=(KeepT.aV al.O HG.O).cy a7.O (by decide);refine AV 9 (by kernel_rfl) (by kernel_rfl) ?_;apply AL
 ·intro V W K A M H F J
  simp only[pA]at F;clear H;obtain rfl:=F;go_wp2;exact J.O _ brf
 refine AW (λv W=>v=.pointer (some ⟨g1,k*13,none⟩)) (λ_ _ _ h _=>h) ?_ ?_
 ·intro V W K A M H F J
  have d0:V 0=_:=H 0 (by kernel_rfl);simp only[pA,d0]at F;clear H d0;obtain rfl:=F
  go_wp2_with fail
  refine(DT A ae ce (X.aj+1) g g1 n1 d1 k _ _ _ W aI aM (AK M av.O Z)).mono ?_;rintro e w2 ⟨rfl,a8⟩;go_wp2;exact J.O _ _ a8 rfl
 apply AL
 ·intro V W K A M H F J
  simp only[pA]at F;clear H;obtain rfl:=F;go_wp2;exact J.O _ brf
 apply AL
 ·intro V W K A M H F J
  have d2:V 2=_:=H 2 (by kernel_rfl);simp only[pA,d2]at F;clear H d2;obtain rfl:=F;go_wp2;exact J.O _ brf
 apply AL
 ·intro V W K A M H F J
  have d3:V 3=_:=H 3 (by kernel_rfl);simp only[pA,d3]at F;clear H d3;obtain rfl:=F;go_wp2;exact J.O _ brf
 apply AL
 ·intro V W K A M H F J
  have d4:V 4=_:=H 4 (by kernel_rfl);simp only[pA,d4]at F;clear H d4;obtain rfl:=F;go_wp2;exact J.O _ brf
 apply AL
 ·intro V W K A M H F J
  have d5:V 5=_:=H 5 (by kernel_rfl);simp only[pA,d5]at F;clear H d5;obtain rfl:=F;have e8:=AJ (AK M av.O Z) 8 rfl;go_wp2;exact J.O _ brf
 apply AL
 ·intro V W K A M H F J
  have d1:(λv W=>v=.pointer (some ⟨g1,k*13,none⟩)) (V 1) W:=H 1 (by kernel_rfl);simp only[pA]at F;clear H;generalize V 1=x1 at d1 F;obtain rfl:=F;obtain rfl:=d1;go_wp2;exact J.O _ brf
 apply AL
 ·intro V W K A M H F J
  have d7:V 7=_:=H 7 (by kernel_rfl);simp only[pA,d7]at F;clear H d7;obtain rfl:=F;go_wp2;exact J.O _ brf
 intro V W A M Y F;have d0:V 0=_:=Y 0 (by omega);have d1:(λv W=>v=.pointer (some ⟨g1,k*13,none⟩)) (V 1) W:=Y 1 (by omega);have d2:V 2=_:=Y 2 (by omega);have d3:V 3=_:=Y 3 (by omega);have d4:V 4=_:=Y 4 (by omega);have d5:V 5=_:=Y 5 (by omega);have d6:V 6=_:=Y 6 (by omega);have d7:V 7=_:=Y 7 (by omega);have d8:V 8=_:=Y 8 (by omega);simp only[pA,d0,d2,d3,d4,d5,d6,d7,d8]at F;clear Y d0 d2 d3 d4 d5 d6 d7 d8;generalize V 1=x1 at d1 F;obtain rfl:=F;simp only[dl,dF];obtain rfl:=d1;have am:Hid (RowIs W 34 13 g1 n1 d1 (Ab X.af)):=aC.O.below M (by omega)
 go_wp2_with (refine Bv rfl 3 (.tmp 19) (.tmp 17) rfl g1 _ (.int .i64 (X.aj+1)) rfl rfl CG rfl rfl 34 13 n1 d1 _ am.O (by omega) ?_;intro w3 hr on;have aE:Hid (RowIs w3 34 13 g1 n1 d1 (Ab (X.af.set k {s with ag:=X.aj+1}))):=(by have h:=hr.O;rw[show splice (Ab X.af) (k*13+1) [.int .i64 (X.aj+1)]=Ab (X.af.set k {s with ag:=X.aj+1}) from Bm (c:=Svc.cells) (n:=13) (λ_=>rfl) X.af k 1 s {s with ag:=X.aj+1} _ HK.O (by omega) rfl]at h;exact h);have aL:Hid (A6 g1 W w3):=on;clear hr on)
 go_end0
 have k1:KeepT 227 w w1:=.aV al.O HG.O;have k2:KeepT 227 w1 W:=.ba M;have aw:=k1.trans k2;have k3:KeepT 34 W w3:=.be aL.O am.O;have bf:Below N w w3:=(al.O.below.mono az).trans ((M.mono (by omega)).trans (aL.O.below.mono aA));refine⟨rfl,⟨some ⟨g1,0,none⟩,b2,b3,d1,d2,d3,ve,az,?_,⟨?_,?_,?_⟩,?_⟩,bf⟩
 ·have:=k3.aR (AK M av.O Z) (by decide)
  rw[<-ar.O,<-aq.O,<-an.O]at this
  simpa only[du] using this
 ·have h:=aE.O
  rw[<-an.O]at h;exact .inr ⟨g1,rfl,aA,by simpa only[du] using h⟩
 ·have:=k3.aN (aw.aN a9.O (by decide)) (by decide)
  rw[<-ar.O]at this;exact this
 ·have:=k3.aN (aw.aN bb.O (by decide)) (by decide)
  rw[<-aq.O]at this;exact this
 ·have:=k3.aQ (aw.aQ a6.O (by decide)) (by decide)
  rw[<-aG.O]at this;exact this
theorem Ax:Tryz.prog.underlying 25=some (.slice (Tryz.prog.elem 25)):=by kernel_rfl
theorem BQ:(Tryz.prog.info? (Tryz.prog.elem 25)).map (·.size)=some 7:=by kernel_rfl
theorem Dg:(Tryz.prog.info? 76).map (·.size)=some 7:=by kernel_rfl
theorem insC_any(l:List Cp)(x:Cp)(ao:qO)(n cap i N vb:Nat)(w:World)(HN:Hid (l.length=n))(hl:n<=1048576)(hi:i<=n)(hN:N<=w.heap.size)(hR:RowN w N 76 7 ao n cap (Ar l))(hv:qBl w vb (qcV x) 76)(bk:ao≠some ⟨vb,0,none⟩):
  Calls Tryz.prog 250 #[.slice ao n cap,.int .i64 i,.slice (qad vb) 1 1] w λe w'=>∃bo k,e=.returned (.slice bo (n+1) k)/\RowN w' N 76 7 bo (n+1) k (Ar (l.take i++x::l.drop i))/\(∀q,q<w.heap.size->ao≠some ⟨q,0,none⟩->w'.heap[q]?=w.heap[q]?)/\Below N w w':=by
 have bY:=(AB hv).1;have HV:Hid (qBl w vb (qcV x) 76):=hv;obtain⟨XS,az⟩:∃q,q=((qcV x):Array Value).toList:=⟨_,rfl⟩;have aa:Hid (XS.length=7):=by unfold Hid;rw[az];rfl
 have a8:Hid (∀u∈XS,u.oneCell'=true):=by unfold Hid;rw[az];simp[Value.oneCell']
 have bt:Hid (Ar (l.take i++x::l.drop i)=Ar (l.take i)++XS++Ar (l.drop i)):=by unfold Hid;rw[az];simp[Ar,Cp.cells]
 have a7:Hid (∀W:World,qBl W vb (qcV x) 76->∀j u,XS[j]?=some u->W.cell? ((⟨vb,0,none⟩:Addr).add j)=some u):=λW h=>by rw[az];exact FX h
 have cr:Hid (Ar [x]=XS):=by unfold Hid;rw[az];simp[Ar,Cp.cells]
 clear hv az;rcases hR with⟨rfl,rfl,rfl,bN⟩|⟨g,rfl,a5,hr⟩
 ·obtain rfl:i=0:=by omega
  obtain rfl:l=[]:=fT.1 HN.O;clear bN bk;go_enter Tryz.func250,Tryz.ntmps250
  go_wp2_with (at_builtin;refine Bi rfl (.tmp 23) (.tmp 24) 25 rfl 76 _ 7 72 Tryz.underlying25 D8 rfl (by omega) rfl (qad vb) 1 1 XS rfl (by rw[aa.O]) (λ_=>⟨_,rfl,a7.O _ HV.O⟩) a8.O (by unfold maxLen;omega) (by omega) (λh=>absurd h (by omega)) (λ_=>?_);intro g k w1 hg hr hb)
  have bq:Hid (RowIs w1 76 7 g 1 k XS):=hr;clear hr;go_ret;exact⟨some ⟨g,0,none⟩,k,rfl,.inr ⟨g,rfl,by omega,by have h:=bq.O;rw[<-cr.O]at h;simpa using h⟩,λq hq _=>hb.block q hq,hb.mono hN⟩
 have HR:Hid (RowIs w 76 7 g n cap (Ar l)):=hr;have br:=hr.lt;have ee:=hr.2.1;have bS:vb≠g:=λe=>bk (by rw[e])
 clear bk hr;have aW:Hid ((l.take i).length=i):=by unfold Hid;rw[dG,HN.O];omega
 have b8:Hid ((l.drop i).length=n - i):=by unfold Hid;rw[dW,HN.O]
 by_cases b0:i=n
 ·subst b0
  have bR:Hid (l.take i=l/\l.drop i=[]):=⟨er (by rw[HN.O];omega),gV (by rw[HN.O];omega)⟩;go_enter Tryz.func250,Tryz.ntmps250
  go_upto_region 2 with(refine As rfl 25 (.tmp 10) (some (.tmp 11)) none none rfl Ax 7 BQ g 0 i cap i i cap rfl (some (.int .i64 (i:Int))) none none rfl rfl rfl (λw=>gm w _ _ _ _ Ax .i64 (i:Int) (by omega) (by omega)) ?_;intro off _)
  go_wp2_with (at_builtin;refine DW rfl (.tmp 23) (.tmp 24) 25 rfl 76 _ 7 72 Tryz.underlying25 D8 rfl g i cap _ rfl HR.O ⟨vb,0,none⟩ 1 1 XS rfl (by rw[aa.O]) (a7.O _ HV.O) a8.O (by unfold maxLen;omega) (by omega) ?_;intro g' k w1 cm hr bz;have bq:Hid (RowIs w1 76 7 g' (i+1) k (Ar l++XS)):=hr;have cM:Hid (∀q,q<w.heap.size->q≠g->w1.heap[q]?=w.heap[q]?):=(λq hq aI=>bz.block q hq (λe=>aI (dg e)));have c9:=GY bz a5 hN;clear hr bz)
  go_ret;exact⟨some ⟨g',0,none⟩,k,rfl,.inr ⟨g',rfl,by rcases cm with h|h<;>omega,by rw[bt.O,bR.O.1,bR.O.2];simpa [Ar] using bq.O⟩,λq hq aI=>cM.O q hq (λe=>aI (by rw[e])),c9⟩
 have dr:i<n:=by omega
 clear b0;have bi:Hid (∀W:World,RowIs W 76 7 g n cap (Ar l)->∀off,off=i*7->∀j u,(Ar (l.drop i))[j]?=some u->W.cell? ((⟨g,off,none⟩:Addr).add j)=some u):=λW h off ho=>by rw[ho];exact h.bQ (c:=Cp.cells) (λ_=>rfl) i
 have c5:Hid (Ar (l.take i)=(Ar l).take (i*7)):=Hz (c:=Cp.cells) (λ_=>rfl) l i
 by_cases aS:n+1<=cap
 ·obtain⟨H,cc,bE,b7⟩:=HR.O.2.2
  have b2:Hid (qBl w g H 76):=cc;have bI:Hid (H.size=cap*7/\H.toList.take (n*7)=Ar l):=⟨bE,b7⟩;have av:Hid (H.toList.length=H.size):=dT;have ch:(n+1)*7<=H.size:=by rw[bE];exact ed _ aS
  clear cc bE b7;obtain⟨M,aE⟩:∃q,n - i=q:=⟨_,rfl⟩;have cl:n<=i+M:=by omega
  have cf:i+M<=n:=by omega
  obtain⟨ss,c6⟩:∃q,n+1 - i=q:=⟨_,rfl⟩;have ea:n+1<=i+ss:=by omega
  have de:i+ss<=n+1:=by omega
  have ag:Hid ((l.drop i).length=M):=by unfold Hid;rw[b8.O];exact aE
  have c8:0<M:=by omega
  clear aE c6
  have aT:∀aF lb cb,(callFunc 310 #[.slice (qad vb) 1 1,.slice (some ⟨g,aF,none⟩) lb cb]).run Tryz.prog w=.ok (.value (.bool false)) w:=λaF lb cb=>by
   rw[ei Tryz.func310 (by kernel_rfl) (by kernel_rfl) (by kernel_rfl) (e:=Extern.SlicesOverlaps.overlaps #[25,25] #[4]) (by kernel_rfl),
    Lib.run_overlaps_apart w 25 4 76 Tryz.underlying25 7 (λ_=>by kernel_rfl) ⟨vb,0,none⟩ ⟨g,aF,none⟩ 1 1 lb cb bS 76 76 7 H.size (by simp[World.shape?,HV.O]) (by simp[World.shape?,b2.O]) (by omega) (Bs HV.O 0) (Bs HV.O 7)]
   rfl
  have cB:Hid _:=aT;clear aT;go_enter Tryz.func250,Tryz.ntmps250
  go_upto_region 2 with(refine As rfl 25 (.tmp 10) (some (.tmp 11)) none none rfl Ax 7 BQ g 0 n cap i n cap rfl (some (.int .i64 (i:Int))) none none rfl rfl rfl (λw=>gm w _ _ _ _ Ax .i64 (i:Int) (by omega) (by omega)) ?_;intro cd _)
  go_upto_region 14 with fail
  have aT:=cB.O
  go_upto_region 15 with(first
   |(refine As rfl 25 (.tmp 62) (some (.tmp 65)) none none rfl Ax 7 BQ g 0 (n+1) cap (i+1) (n+1) cap rfl (some (.int .i64 ((i:Int)+1))) none none rfl rfl rfl (λw=>gm w _ _ _ _ Ax .i64 ((i+1:Nat):Int) (by omega) (by omega)) ?_;intro dq _)
   |(simp only[aT]))
  clear aT;refine AV 8 (by kernel_rfl) (by kernel_rfl) ?_;apply AL
  ·intro V W K AA hW J F Y
   simp only[pA]at F;clear J;obtain rfl:=F;go_wp2;exact Y.O _ brf
  apply AL
  ·intro V W K AA hW J F Y
   simp only[pA]at F;clear J;obtain rfl:=F;go_wp2;exact Y.O _ brf
  apply AL
  ·intro V W K AA hW J F Y
   simp only[pA]at F;clear J;obtain rfl:=F;go_wp2;exact Y.O _ brf
  apply AL
  ·intro V W K AA hW J F Y
   have d1:V 1=_:=J 1 (by kernel_rfl);have d2:V 2=_:=J 2 (by kernel_rfl);simp only[pA,d1,d2]at F;clear J d1 d2;obtain rfl:=F;go_wp2;exact Y.O _ brf
  refine AW (λvv (_:World)=>∃off,vv=.slice (some ⟨g,off,none⟩) M (cap - (i+1))/\(off=(i+1)*7\/cap=i+1)) (λ_ _ _ h _=>h) ?_ ?_
  ·intro V W K AA hW J F Y
   have d0:V 0=_:=J 0 (by kernel_rfl);have d3:V 3=_:=J 3 (by kernel_rfl);simp only[pA,d0,d3]at F;clear J d0 d3;obtain rfl:=F;refine As rfl 25 (.tmp 69) (some (.tmp 72)) none none rfl Ax 7 BQ g 0 (n+1) cap (i+1) (n+1) cap rfl (some (.int .i64 ((i:Int)+1))) none none rfl rfl rfl (λw=>gm w _ _ _ _ Ax .i64 ((i+1:Nat):Int) (by omega) (by omega)) ?_;intro off aK;rw[show(n+1) - (i+1)=M by omega];go_wp2;exact Y.O _ _ brf ⟨off,rfl,by omega⟩
  apply AL
  ·intro V W K AA hW J F Y
   simp only[pA]at F;clear J;obtain rfl:=F;go_wp2;exact Y.O _ brf
  apply AL
  ·intro V W K AA hW J F Y
   simp only[pA]at F;clear J;obtain rfl:=F;go_wp2;exact Y.O _ brf
  refine AW (λvv (_:World)=>∃off,vv=.slice (some ⟨g,off,none⟩) ss (cap - i)/\(off=i*7\/cap=i)) (λ_ _ _ h _=>h) ?_ ?_
  ·intro V W K AA hW J F Y
   have d5:V 5=_:=J 5 (by kernel_rfl);have d6:V 6=_:=J 6 (by kernel_rfl);simp only[pA,d5,d6]at F;clear J d5 d6;obtain rfl:=F;refine As rfl 25 (.tmp 74) (some (.tmp 75)) none none rfl Ax 7 BQ g 0 (n+1) cap i (n+1) cap rfl (some (.int .i64 (i:Int))) none none rfl rfl rfl (λw=>gm w _ _ _ _ Ax .i64 (i:Int) (by omega) (by omega)) ?_;intro off aK;rw[show(n+1) - i=ss by omega];go_wp2;exact Y.O _ _ brf ⟨off,rfl,by omega⟩
  intro V W AA hW hS F;have d0:V 0=_:=hS 0 (by omega);have d1:V 1=_:=hS 1 (by omega);have d2:V 2=_:=hS 2 (by omega);have d3:V 3=_:=hS 3 (by omega);have d4:(λvv (_:World)=>∃off,vv=.slice (some ⟨g,off,none⟩) M (cap - (i+1))/\(off=(i+1)*7\/cap=i+1)) (V 4) W:=hS 4 (by omega);have d5:V 5=_:=hS 5 (by omega);have d6:V 6=_:=hS 6 (by omega);have d7:(λvv (_:World)=>∃off,vv=.slice (some ⟨g,off,none⟩) ss (cap - i)/\(off=i*7\/cap=i)) (V 7) W:=hS 7 (by omega);simp only[pA,d0,d1,d2,d3,d5,d6]at F;clear hS d0 d1 d2 d3 d5 d6;generalize V 4=x4 at d4 F;generalize V 7=x7 at d7 F;obtain rfl:=F;simp only[dl,dF];obtain⟨am,rfl,h4⟩:=d4;obtain⟨ak,rfl,h7⟩:=d7;have ct:Hid (qBl W g H 76):=AK hW b2.O br;have bB:Hid (RowIs W 76 7 g n cap (Ar l)):=HR.O.below hW br;have cq:Hid _:=AK hW HV.O bY
  (refine Dw rfl (.tmp 73) (.tmp 76) 25 rfl 76 7 Tryz.underlying25 Dg (some ⟨g,am,none⟩) (some ⟨g,ak,none⟩) M _ ss _ rfl rfl M (by show min ss M=M;omega) g ((i+1)*7) H 76 ct.O (Ar (l.drop i)) (by rw[Bz,ag.O]) (λ_=>⟨by rw[show am=(i+1)*7 by omega],_,rfl,bi.O W bB.O ak (by omega)⟩) (by rw[Bz,ag.O];omega) (GU _) ?_;intro w2 hz on;have a9:Hid (w2.heap[g]?=some (.cells (splice H.toList ((i+1)*7) (Ar (l.drop i))).toArray 76 (0,0))):=hz;have ay:Hid (A6 g W w2):=on;clear hz on)
  have ci:Hid _:=(ay.O.aB vb bS).trans cq.O;have ar:Hid ((splice H.toList ((i+1)*7) (Ar (l.drop i))).length=H.size):=by unfold Hid;rw[length_splice _ _ _ (by rw[Bz,ag.O,av.O];omega),av.O]
  go_upto_region 17 with(first
   |(refine As rfl 25 (.tmp 78) (some (.tmp 79)) none none rfl Ax 7 BQ g 0 (n+1) cap i (n+1) cap rfl (some (.int .i64 (i:Int))) none none rfl rfl rfl (λw=>gm w _ _ _ _ Ax .i64 (i:Int) (by omega) (by omega)) ?_;intro al h8;rw[show n+1 - i=ss by omega])
   |(refine Dw rfl (.tmp 80) (.tmp 81) 25 rfl 76 7 Tryz.underlying25 Dg (some ⟨g,al,none⟩) (qad vb) ss _ 1 1 rfl rfl 1 (by show min 1 ss=1;omega) g (i*7) _ 76 a9.O XS (by rw[aa.O]) (λ_=>⟨by rw[show al=i*7 by omega],_,rfl,a7.O _ ci.O⟩) (by rw[ek,ar.O];rw[aa.O];omega) a8.O ?_;intro w3 hz on;have bm:Hid (w3.heap[g]?=some (.cells (splice (splice H.toList ((i+1)*7) (Ar (l.drop i))) (i*7) XS).toArray 76 (0,0))):=hz;have bf:Hid (A6 g w2 w3):=on;clear hz on))
  go_wp2;go_ret;have an:=(RO (A:=Ar (l.take i)) (X:=XS) (D:=Ar (l.drop i)) (L:=H.toList) (a:=i*7) (s:=7) (d:=M*7) (by rw[Bz,aW.O]) aa.O (by rw[Bz,ag.O]) (by rw[c5.O,<-bI.O.2,List.take_take,gX (ed _ (by omega))]) (by rw[av.O];omega)).2;rw[show i*7+7=(i+1)*7 by omega,show(i+1)*7+M*7=(n+1)*7 by omega]at an;refine⟨some ⟨g,0,none⟩,cap,rfl,.inr ⟨g,rfl,a5,?_⟩,λq hq aI=>?_,?_⟩
  ·rw[bt.O]
   refine⟨?_,aS,_,bm.O,?_,?_⟩
   ·simp only[dE,Bz,aW.O,ag.O];rw[aa.O];omega
   ·rw[ek,length_splice _ _ _ (by rw[ar.O];rw[aa.O];omega),ar.O,bI.O.1]
   ·exact an
  ·have b3:q≠g:=λe=>aI (by rw[e])
   exact(bf.O.aB q b3).trans ((ay.O.aB q b3).trans (hW.block q hq))
  ·exact(hW.mono hN).trans ((ay.O.below.mono a5).trans (bf.O.below.mono a5))
 ·obtain⟨M,aE⟩:∃q,n - i=q:=⟨_,rfl⟩
  have cl:n<=i+M:=by omega
  have cf:i+M<=n:=by omega
  obtain⟨mz,cz⟩:∃q,n+1 - i=q:=⟨_,rfl⟩;have ds:n+1<=i+mz:=by omega
  have df:i+mz<=n+1:=by omega
  have ag:Hid ((l.drop i).length=M):=by unfold Hid;rw[b8.O];exact aE
  have c8:0<M:=by omega
  clear aE cz;go_enter Tryz.func250,Tryz.ntmps250
  go_upto_region 2 with(refine As rfl 25 (.tmp 10) (some (.tmp 11)) none none rfl Ax 7 BQ g 0 n cap i n cap rfl (some (.int .i64 (i:Int))) none none rfl rfl rfl (λw=>gm w _ _ _ _ Ax .i64 (i:Int) (by omega) (by omega)) ?_;intro cd _;rw[show n - i=M by omega])
  go_upto_region 9 with fail
  go_upto_region 10 with(refine Gz rfl (.tmp 34) (.tmp 39) 25 3 rfl 76 _ 7 72 .i64 Tryz.underlying25 Tryz.underlying3 D8 rfl (by omega) ⟨g,0,none⟩ i cap (Ar (l.take i)) rfl (by rw[Bz,aW.O]) (HR.O.cj (c:=Cp.cells) (λ_=>rfl) i) mz (em (Value.int .i64) (by omega)) (by omega) (by omega) (by unfold maxLen;omega) (by omega) ?_;intro g2 Z H w1 bO cL b9 aC bl)
  have db:vb≠g2:=by omega
  have av:Hid (H.toList.length=H.size):=dT;have da:=(AB b9.O).1;have cK:Hid _:=AK bl HV.O bY;have co:Hid (RowIs w1 76 7 g n cap (Ar l)):=HR.O.below bl br;have dp:(i+mz)*7<=H.size:=by rw[aC.O.1];exact ed _ cL
  go_upto_region 11 with(first
   |(refine As rfl 25 (.tmp 41) (some (.tmp 42)) none none rfl Ax 7 BQ g2 0 (i+mz) Z i (i+mz) Z rfl (some (.int .i64 (i:Int))) none none rfl rfl rfl (λw=>gm w _ _ _ _ Ax .i64 (i:Int) (by omega) (by omega)) ?_;intro al h8;rw[show i+mz - i=mz by omega])
   |(refine Dw rfl (.tmp 43) (.tmp 44) 25 rfl 76 7 Tryz.underlying25 Dg (some ⟨g2,al,none⟩) (qad vb) mz _ 1 1 rfl rfl 1 (by show min 1 mz=1;omega) g2 (i*7) _ 76 b9.O XS (by rw[aa.O]) (λ_=>⟨by rw[show al=i*7 by omega],_,rfl,a7.O _ cK.O⟩) (by rw[aa.O];omega) a8.O ?_;intro w2 hz on;have a9:Hid (w2.heap[g2]?=some (.cells (splice H.toList (i*7) XS).toArray 76 (0,0))):=hz;have ay:Hid (A6 g2 w1 w2):=on;clear hz on))
  have ar:Hid ((splice H.toList (i*7) XS).length=H.size):=by unfold Hid;rw[length_splice _ _ _ (by rw[av.O,aa.O];omega),av.O]
  have ca:Hid (RowIs w2 76 7 g n cap (Ar l)):=co.O.aR (ay.O.aB g (by omega));have cO:Below w.heap.size w w2:=bl.trans (ay.O.below.mono bO);have bM:g2<w2.heap.size:=(AB a9.O).1;have b5:=ca.O.lt;refine AV 8 (by kernel_rfl) (by kernel_rfl) ?_;apply AL
  ·intro V W K AA hW J F Y
   simp only[pA]at F;clear J;obtain rfl:=F;go_wp2;exact Y.O _ brf
  apply AL
  ·intro V W K AA hW J F Y
   simp only[pA]at F;clear J;obtain rfl:=F;go_wp2;exact Y.O _ brf
  apply AL
  ·intro V W K AA hW J F Y
   simp only[pA]at F;clear J;obtain rfl:=F;go_wp2;exact Y.O _ brf
  apply AL
  ·intro V W K AA hW J F Y
   have d1:V 1=_:=J 1 (by kernel_rfl);have d2:V 2=_:=J 2 (by kernel_rfl);simp only[pA,d1,d2]at F;clear J d1 d2;obtain rfl:=F;go_wp2;exact Y.O _ brf
  refine AW (λvv (_:World)=>∃off,vv=.slice (some ⟨g2,off,none⟩) M (Z - (i+1))/\(off=(i+1)*7\/Z=i+1)) (λ_ _ _ h _=>h) ?_ ?_
  ·intro V W K AA hW J F Y
   have d0:V 0=_:=J 0 (by kernel_rfl);have d3:V 3=_:=J 3 (by kernel_rfl);simp only[pA,d0,d3]at F;clear J d0 d3;obtain rfl:=F;refine As rfl 25 (.tmp 46) (some (.tmp 49)) none none rfl Ax 7 BQ g2 0 (i+mz) Z (i+1) (i+mz) Z rfl (some (.int .i64 ((i:Int)+1))) none none rfl rfl rfl (λw=>gm w _ _ _ _ Ax .i64 ((i+1:Nat):Int) (by omega) (by omega)) ?_;intro off aK;rw[show(i+mz) - (i+1)=M by omega];go_wp2;exact Y.O _ _ brf ⟨off,rfl,by omega⟩
  apply AL
  ·intro V W K AA hW J F Y
   simp only[pA]at F;clear J;obtain rfl:=F;go_wp2;exact Y.O _ brf
  apply AL
  ·intro V W K AA hW J F Y
   simp only[pA]at F;clear J;obtain rfl:=F;go_wp2;exact Y.O _ brf
  refine AW (λvv (_:World)=>∃off,vv=.slice (some ⟨g,off,none⟩) M (cap - i)/\(off=i*7\/cap=i)) (λ_ _ _ h _=>h) ?_ ?_
  ·intro V W K AA hW J F Y
   have d5:V 5=_:=J 5 (by kernel_rfl);have d6:V 6=_:=J 6 (by kernel_rfl);simp only[pA,d5,d6]at F;clear J d5 d6;obtain rfl:=F;refine As rfl 25 (.tmp 51) (some (.tmp 52)) none none rfl Ax 7 BQ g 0 n cap i n cap rfl (some (.int .i64 (i:Int))) none none rfl rfl rfl (λw=>gm w _ _ _ _ Ax .i64 (i:Int) (by omega) (by omega)) ?_;intro off aK;rw[show n - i=M by omega];go_wp2;exact Y.O _ _ brf ⟨off,rfl,by omega⟩
  intro V W AA hW hS F;have d0:V 0=_:=hS 0 (by omega);have d1:V 1=_:=hS 1 (by omega);have d2:V 2=_:=hS 2 (by omega);have d3:V 3=_:=hS 3 (by omega);have d4:(λvv (_:World)=>∃off,vv=.slice (some ⟨g2,off,none⟩) M (Z - (i+1))/\(off=(i+1)*7\/Z=i+1)) (V 4) W:=hS 4 (by omega);have d5:V 5=_:=hS 5 (by omega);have d6:V 6=_:=hS 6 (by omega);have d7:(λvv (_:World)=>∃off,vv=.slice (some ⟨g,off,none⟩) M (cap - i)/\(off=i*7\/cap=i)) (V 7) W:=hS 7 (by omega);simp only[pA,d0,d1,d2,d3,d5,d6]at F;clear hS d0 d1 d2 d3 d5 d6;generalize V 4=x4 at d4 F;generalize V 7=x7 at d7 F;obtain rfl:=F;simp only[dl,dF];obtain⟨am,rfl,h4⟩:=d4;obtain⟨ak,rfl,h7⟩:=d7;have cN:Hid _:=AK hW a9.O bM;have bB:Hid (RowIs W 76 7 g n cap (Ar l)):=ca.O.below hW b5
  (refine Dw rfl (.tmp 50) (.tmp 53) 25 rfl 76 7 Tryz.underlying25 Dg (some ⟨g2,am,none⟩) (some ⟨g,ak,none⟩) M _ M _ rfl rfl M (by show min M M=M;omega) g2 ((i+1)*7) _ 76 cN.O (Ar (l.drop i)) (by rw[Bz,ag.O]) (λ_=>⟨by rw[show am=(i+1)*7 by omega],_,rfl,bi.O W bB.O ak (by omega)⟩) (by rw[Bz,ag.O,ek,ar.O];omega) (GU _) ?_;intro w3 hz on;have bm:Hid (w3.heap[g2]?=some (.cells (splice (splice H.toList (i*7) XS) ((i+1)*7) (Ar (l.drop i))).toArray 76 (0,0))):=hz;have bf:Hid (A6 g2 W w3):=on;clear hz on)
  go_wp2;go_ret;have an:=(RO (A:=Ar (l.take i)) (X:=XS) (D:=Ar (l.drop i)) (L:=H.toList) (a:=i*7) (s:=7) (d:=M*7) (by rw[Bz,aW.O]) aa.O (by rw[Bz,ag.O]) aC.O.2 (by rw[av.O];omega)).1;rw[show i*7+7=(i+1)*7 by omega,show(i+1)*7+M*7=(n+1)*7 by omega]at an;have bU:Below w.heap.size w w3:=cO.trans ((hW.mono (by omega)).trans (bf.O.below.mono bO));refine⟨some ⟨g2,0,none⟩,Z,by rw[show i+mz=n+1 by omega];rfl,.inr ⟨g2,rfl,by omega,?_⟩,λq hq _=>bU.block q hq,bU.mono hN⟩;rw[bt.O];refine⟨?_,by omega,_,bm.O,?_,?_⟩
  ·simp only[dE,Bz,aW.O,ag.O];rw[aa.O];omega
  ·rw[ek,length_splice _ _ _ (by rw[ar.O,Bz,ag.O];omega),ar.O,aC.O.1]
  ·exact an
theorem DA:Tryz.prog.underlying 24=some (.slice (Tryz.prog.elem 24)):=by kernel_rfl
theorem Dv:(Tryz.prog.info? (Tryz.prog.elem 24)).map (·.size)=some 13:=by kernel_rfl
theorem PC(l:List Svc)(ao:qO)(n cap i N:Nat)(w:World)(HN:Hid (l.length=n))(hl:n<=1048576)(hi:i<n)(hN:N<=w.heap.size)(hR:RowN w N 34 13 ao n cap (Ab l)):
  Calls Tryz.prog 251 #[.slice ao n cap,.int .i64 i,.int .i64 ((i:Int)+1)] w λe w'=>∃(bo:qO) (n' k:Nat),e=.returned (.slice bo n' k)/\n'=(l.take i++l.drop (i+1)).length/\RowN w' N 34 13 bo n' k (Ab (l.take i++l.drop (i+1)))/\(∀q,q<w.heap.size->ao≠some ⟨q,0,none⟩->w'.heap[q]?=w.heap[q]?)/\Below N w w':=by
 obtain⟨g,ea,aa,hr⟩:=hR.some (by omega);subst ea;have aL:=hr.lt;have af:=hr.2.1;have HR:Hid (RowIs w 34 13 g n cap (Ab l)):=hr;obtain⟨m,hm⟩:∃q,n - (i+1)=q:=⟨_,rfl⟩;have br:n<=i+1+m:=by omega
 have bm:i+1+m<=n:=by omega
 have a4:Hid ((l.take i).length=i):=by unfold Hid;rw[dG,HN.O];omega
 have ai:Hid ((l.drop (i+1)).length=m):=by unfold Hid;rw[dW,HN.O];omega
 have aM:Hid (Ab (l.take i++l.drop (i+1))=Ab (l.take i)++Ab (l.drop (i+1))):=by unfold Hid;simp[Ab]
 have aH:Hid (∀W,RowIs W 34 13 g n cap (Ab l)->RowIs W 34 13 g i cap (Ab (l.take i))):=λW h=>h.take (c:=Svc.cells) (λ_=>rfl) (by rw[HN.O]) (by omega)
 clear hm hr hR;go_enter Tryz.func251,Tryz.ntmps251
 go_upto_region 2 with(refine As rfl 24 (.tmp 8) (some (.tmp 9)) (some (.tmp 10)) (some (.tmp 12)) rfl DA 13 Dv g 0 n cap i (i+1) n rfl (some (.int .i64 (i:Int))) (some (.int .i64 ((i:Int)+1))) (some (.int .i64 (n:Int))) rfl rfl rfl (λw=>run_slice_lhm w _ _ _ _ DA .i64 .i64 .i64 (i:Int) ((i+1:Nat):Int) (n:Int) (by omega) (by omega) (by omega) (by omega)) ?_;intro bi _;rw[show i+1 - i=1 by omega])
 go_upto_region 5 with fail
 rw[show((i:Int)==(i:Int)+1)=false by rw[eL];omega];refine AV 6 (by kernel_rfl) (by kernel_rfl) ?_;apply AL
 ·intro V W K AA Y H F J
  simp only[pA]at F;clear H;obtain rfl:=F;go_wp2;exact J.O _ brf
 apply AL
 ·intro V W K AA Y H F J
  simp only[pA]at F;clear H;obtain rfl:=F;go_wp2;exact J.O _ brf
 apply AL
 ·intro V W K AA Y H F J
  have d0:V 0=_:=H 0 (by kernel_rfl);have d1:V 1=_:=H 1 (by kernel_rfl);simp only[pA,d0,d1]at F;clear H d0 d1;obtain rfl:=F;go_wp2;exact J.O _ brf
 apply AL
 ·intro V W K AA Y H F J
  simp only[pA]at F;clear H;obtain rfl:=F;go_wp2;exact J.O _ brf
 apply AL
 ·intro V W K AA Y H F J
  simp only[pA]at F;clear H;obtain rfl:=F;go_wp2;exact J.O _ brf
 refine AW (λvv (_:World)=>∃off,vv=.slice (some ⟨g,off,none⟩) m (cap - (i+1))/\(off=(i+1)*13\/cap=i+1)) (λ_ _ _ h _=>h) ?_ ?_
 ·intro V W K AA Y H F J
  have d3:V 3=_:=H 3 (by kernel_rfl);have d4:V 4=_:=H 4 (by kernel_rfl);simp only[pA,d3,d4]at F;clear H d3 d4;obtain rfl:=F;refine As rfl 24 (.tmp 23) (some (.tmp 24)) none none rfl DA 13 Dv g 0 n cap (i+1) n cap rfl (some (.int .i64 ((i:Int)+1))) none none rfl rfl rfl (λw=>gm w _ _ _ _ DA .i64 ((i+1:Nat):Int) (by omega) (by omega)) ?_;intro off a9;rw[show n - (i+1)=m by omega];go_wp2;exact J.O _ _ brf ⟨off,rfl,by omega⟩
 intro V W AA Y hS F;have d0:V 0=_:=hS 0 (by omega);have d1:V 1=_:=hS 1 (by omega);have d2:V 2=_:=hS 2 (by omega);have d3:V 3=_:=hS 3 (by omega);have d4:V 4=_:=hS 4 (by omega);have d5:(λvv (_:World)=>∃off,vv=.slice (some ⟨g,off,none⟩) m (cap - (i+1))/\(off=(i+1)*13\/cap=i+1)) (V 5) W:=hS 5 (by omega);simp only[pA,d0,d1,d2,d3,d4]at F;clear hS d0 d1 d2 d3 d4;generalize V 5=x5 at d5 F;obtain rfl:=F;simp only[dl,dF];obtain⟨Z,rfl,h5⟩:=d5;have aC:Hid (RowIs W 34 13 g n cap (Ab l)):=HR.O.below Y aL
 have a5:Hid (∀j u,(Ab (l.drop (i+1)))[j]?=some u->W.cell? ((⟨g,Z,none⟩:Addr).add j)=some u):=by
  unfold Hid;rcases h5 with ho|ho
  ·rw[ho];exact aC.O.bQ (c:=Svc.cells) (λ_=>rfl) (i+1)
  ·intro j u hu;rw[show l.drop (i+1)=[] from fT.1 (by rw[ai.O];omega)]at hu;simp[Ab]at hu
 (refine Ir rfl (.tmp 22) (.tmp 25) 24 rfl 34 _ 13 112 Tryz.underlying24 EZ g i cap (Ab (l.take i)) rfl (aH.O W aC.O) ⟨g,Z,none⟩ m _ (Ab (l.drop (i+1))) rfl (by rw[FSa,ai.O]) a5.O (Gg _) (by omega) ?_;intro w2 hr on;have R2:Hid (RowIs w2 34 13 g (i+m) cap (Ab (l.take i)++Ab (l.drop (i+1)))):=hr;have au:Hid (A6 g W w2):=on;clear hr on)
 obtain⟨M,aE,ak,ay⟩:=R2.O.2.2;have aI:Hid (qBl w2 g M 34):=aE;have am:Hid (M.size=cap*13/\M.toList.take ((i+m)*13)=Ab (l.take i)++Ab (l.drop (i+1))):=⟨ak,ay⟩;have bj:n*13<=M.size:=by rw[ak];exact ed _ af
 clear aE ak ay
 go_upto_region 7 with(first
  |(refine As rfl 24 (.tmp 27) (some (.tmp 29)) (some (.tmp 30)) none rfl DA 13 Dv g 0 (i+m) cap (i+m) n cap rfl (some (.int .i64 ((i:Int)+(m:Int)))) (some (.int .i64 (n:Int))) none rfl rfl rfl (λw=>run_slice_lh w _ _ _ _ DA .i64 .i64 ((i+m:Nat):Int) (n:Int) (by omega) (by omega) (by omega)) ?_;intro az h6;rw[show n - (i+m)=1 by omega])
  |(refine KZ rfl (.tmp 31) 24 rfl 34 _ 13 112 Tryz.underlying24 EZ rfl (by simp[Value.cells,Value.oneCell']) g az 1 _ rfl M 34 aI.O (λ_=>by omega) ?_;intro aq w3 aT av ar;have aA:Hid (A6 g w2 w3):=ar;clear ar))
 go_wp2;go_ret;refine⟨some ⟨g,0,none⟩,i+m,cap,rfl,by rw[dE,a4.O,ai.O],.inr ⟨g,rfl,aa,?_⟩,λq hq aS=>?_,(Y.mono hN).trans ((au.O.below.mono aa).trans (aA.O.below.mono aa))⟩
 ·rw[aM.O]
  refine⟨R2.O.1,R2.O.2.1,aq,aT.O,by rw[av.O.1,am.O.1],?_⟩;rw[av.O.2 ((i+m)*13) (λ_=>by omega)];exact am.O.2
 ·have aw:q≠g:=λe=>aS (by rw[e])
  exact(aA.O.aB q aw).trans ((au.O.aB q aw).trans (Y.block q hq))
end
section
open Go.RowKit Go.Extern.Stop Go.Stop Go.Extern
def QL(c:Int):Value:=.iface 223 (.agg #[.iface 153 (.agg #[.int .i64 c])])
def Ja(w:World):Prop:=w.cell? ⟨0,0,none⟩=some (.iface 298 (.agg #[.pointer (some ⟨9,127,none⟩)]))
theorem as_nil(t:Value)(w:World):Calls Tryz.prog 101 #[.nilIface,t] w λe w'=>e=.returned (.bool false)/\w'=w:=by
 go_enter Tryz.func101,Tryz.ntmps101;go_wp2;go_ret;exact⟨rfl,rfl⟩
theorem Ga(t:Addr)(w:World):(ReflectliteValue.unpack (.iface 155 (.pointer (some t)))).run Tryz.prog w
  =.ok (.agg #[.pointer (some ⟨9,155,none⟩),.pointer (some ⟨w.heap.size,0,none⟩),.int .u64 150]) (w.alloc (.cells #[.pointer (some t)] 155)):=by kernel_rfl
theorem Lp(a:Addr)(w:World):(ReflectliteValue.methodAny (ReflectliteValue.valueError "reflectlite.Value.Type" 0) (λt _ _ _=>ReflectliteType.toType t) #[.agg #[.pointer (some ⟨9,155,none⟩),.pointer (some a),.int .u64 150]]).run Tryz.prog w
  =.ok (.iface 298 (.agg #[.pointer (some ⟨9,155,none⟩)])) w:=by kernel_rfl
theorem Fc(h:Value)(w:World):(Go.method 555 298 (.agg #[h]) "Kind").run Tryz.prog w=.ok (403,h) w:=by kernel_rfl
theorem Js(w:World):((ReflectliteType.abiMethod λt=>(λa:Nat=>Value.int IntKind.u8 (a:Int))<$> Rtype.kind t) #[.pointer (some ⟨9,155,none⟩)]).run Tryz.prog w=.ok (.int .u8 22) w:=by kernel_rfl
theorem Jt(w:World):((ReflectliteType.abiMethod λt=>(λa:Nat=>Value.int IntKind.u8 (a:Int))<$> Rtype.kind t) #[.pointer (some ⟨9,153,none⟩)]).run Tryz.prog w=.ok (.int .u8 25) w:=by kernel_rfl
theorem rlmO(z:Sem Value)(f:TypeId->Addr->Nat->Nat->Sem Value)(v:Value):
  ReflectliteValue.method z f #[v]=(do match<-ReflectliteValue.parts v with|none=>z|some (t,a,F)=>f t a F (F%32)):=rfl
theorem Ij(a:Addr)(w:World):(ReflectliteValue.parts (.agg #[.pointer (some ⟨9,155,none⟩),.pointer (some a),.int .u64 150])).run Tryz.prog w=.ok (some (155,a,150)) w:=by kernel_rfl
theorem PW(a p:Addr)(W:World)(F:W.cell? a=some (.pointer (some p))):
  (ReflectliteValue.method (ReflectliteValue.valueError "reflectlite.Value.IsNil" 0) ReflectliteValue.isNil #[.agg #[.pointer (some ⟨9,155,none⟩),.pointer (some a),.int .u64 150]]).run Tryz.prog W=.ok (.bool false) W:=by
 rw[rlmO];simp only[ew,Ij,Result.andThen];simp[ReflectliteValue.isNil,loadVar,isAgg,underlying,Tryz.underlying155,F,Result.andThen]
theorem Fd(h:Value)(w:World):(Go.method 555 298 (.agg #[h]) "Elem").run Tryz.prog w=.ok (416,.agg #[h]) w:=by kernel_rfl
theorem De(h:Value)(w:World):(Go.method 555 298 (.agg #[h]) "Implements").run Tryz.prog w=.ok (417,.agg #[h]) w:=by kernel_rfl
theorem Df(h:Value)(w:World):(Go.method 555 298 (.agg #[h]) "AssignableTo").run Tryz.prog w=.ok (414,.agg #[h]) w:=by kernel_rfl
theorem Lq(w:World):(ReflectliteType.method ReflectliteType.elem #[.agg #[.pointer (some ⟨9,155,none⟩)]]).run Tryz.prog w=.ok (.iface 298 (.agg #[.pointer (some ⟨9,153,none⟩)])) w:=by kernel_rfl
theorem Fe(w:World):(ReflectliteType.relation "Implements" ReflectliteType.implements_ #[.agg #[.pointer (some ⟨9,153,none⟩)],.iface 298 (.agg #[.pointer (some ⟨9,127,none⟩)])]).run Tryz.prog w=.ok (.bool true) w:=by kernel_rfl
theorem MC(v:Value)(w:World):(ReflectliteType.typeOf #[.iface 223 v]).run Tryz.prog w=.ok (.iface 298 (.agg #[.pointer (some ⟨9,223,none⟩)])) w:=by kernel_rfl
theorem MB(v:Value)(w:World):(ReflectliteType.typeOf #[.iface 153 v]).run Tryz.prog w=.ok (.iface 298 (.agg #[.pointer (some ⟨9,153,none⟩)])) w:=by kernel_rfl
theorem Il(w:World):(ReflectliteType.relation "AssignableTo" ReflectliteType.assignableTo #[.agg #[.pointer (some ⟨9,223,none⟩)],.iface 298 (.agg #[.pointer (some ⟨9,153,none⟩)])]).run Tryz.prog w=.ok (.bool false) w:=by kernel_rfl
theorem Ik(w:World):(ReflectliteType.relation "AssignableTo" ReflectliteType.assignableTo #[.agg #[.pointer (some ⟨9,153,none⟩)],.iface 298 (.agg #[.pointer (some ⟨9,153,none⟩)])]).run Tryz.prog w=.ok (.bool true) w:=by kernel_rfl
theorem Lo(c:Int)(w:World):(ReflectliteValue.unpack (.iface 153 (.agg #[.int .i64 c]))).run Tryz.prog w
  =.ok (.agg #[.pointer (some ⟨9,153,none⟩),.pointer (some ⟨w.heap.size,0,none⟩),.int .u64 153]) (w.alloc (.cells #[.int .i64 c] 153)):=by kernel_rfl
theorem Nz(w:World):(Rtype.elem? 155).run Tryz.prog w=.ok (some 153) w:=by kernel_rfl
theorem Tryz.rlMk(p:Addr)(w:World):(ReflectliteValue.mk 153 p ReflectliteValue.flagAddr).run Tryz.prog w=.ok (.agg #[.pointer (some ⟨9,153,none⟩),.pointer (some p),.int .u64 409]) w:=by kernel_rfl
theorem PX(a p:Addr)(W:World)(F:W.cell? a=some (.pointer (some p))):
  (ReflectliteValue.method (ReflectliteValue.valueError "reflectlite.Value.Elem" 0) ReflectliteValue.elem #[.agg #[.pointer (some ⟨9,155,none⟩),.pointer (some a),.int .u64 150]]).run Tryz.prog W
   =.ok (.agg #[.pointer (some ⟨9,153,none⟩),.pointer (some p),.int .u64 409]) W:=by
 rw[rlmO];simp only[ew,Ij,Result.andThen];simp[ReflectliteValue.elem,loadVar,isAgg,underlying,Tryz.underlying155,F,Result.andThen,Nz,Tryz.rlMk]
theorem rlsO(v x:Value):ReflectliteValue.set #[v,x]=(do
  let (some (dst,a,fl),some (src,b,_)):=(<-ReflectliteValue.parts v,<-ReflectliteValue.parts x)
   |unsupported (.noEntry "extern/(internal/reflectlite.Value).Set.zeroValue")
  if fl / ReflectliteValue.flagAddr%2==0 then unsupported (.noEntry "extern/(internal/reflectlite.Value).Set.unaddressable")
  let val<-loadVar src b
  if<-Rtype.directlyAssignable dst src then storeVar dst a val
  else if<-Rtype.implements dst src then
   if(<-Rtype.kind src)==20 then
    match val with
    | .nilIface=>unsupported (.noEntry "extern/reflectlite: a nil value of one interface type handed on as a value of another")
    |_=>storeVar dst a val
   else storeVar dst a (.iface src val)
  else panicString ("reflectlite.Set: value of type " ++(<-Rtype.spelt src)++ " is not assignable to type " ++(<-Rtype.spelt dst))
  pure (.tuple #[])):=rfl
theorem Ny(a:Addr)(w:World):(ReflectliteValue.parts (.agg #[.pointer (some ⟨9,153,none⟩),.pointer (some a),.int .u64 409])).run Tryz.prog w=.ok (some (153,a,409)) w:=by kernel_rfl
theorem Nx(a:Addr)(w:World):(ReflectliteValue.parts (.agg #[.pointer (some ⟨9,153,none⟩),.pointer (some a),.int .u64 153])).run Tryz.prog w=.ok (some (153,a,153)) w:=by kernel_rfl
theorem N0(w:World):(Rtype.directlyAssignable 153 153).run Tryz.prog w=.ok true w:=by kernel_rfl
theorem Qm(w:World):(sizeOf 153).run Tryz.prog w=.ok 1 w:=by kernel_rfl
theorem Sb(F b:Addr)(c:Int)(aW:Value)(W:World)(hb:W.cell? b=some (.int .i64 c))(H:W.cell? F=some aW)(hf:W.frozen? F=false):
  (ReflectliteValue.set #[.agg #[.pointer (some ⟨9,153,none⟩),.pointer (some F),.int .u64 409],.agg #[.pointer (some ⟨9,153,none⟩),.pointer (some b),.int .u64 153]]).run Tryz.prog W
   =.ok (.tuple #[]) (W.setCell F (.int .i64 c)):=by
 rw[rlsO];simp only[ew,Ny,Nx,Result.andThen];simp[ReflectliteValue.flagAddr,loadVar,isAgg,underlying,Tryz.underlying153,hb,Result.andThen,N0,storeVar,Value.cells,storeCells,Addr.add,Qm,loadCells,loadCellsFrom];rw[Go.run_store Tryz.prog W F _ _ (by rfl)];simp[H,hf]
theorem Qn(v:Value)(w:World):(Instr.typeAssert (.iface 223 v) 127 303 true).run Tryz.prog w=.ok (.tuple #[.nilIface,.bool false]) w:=
 run_typeAssert_lacksB Tryz.underlying303 (by kernel_rfl) (by kernel_rfl) v 127 w
theorem MI(v:Value)(w:World):(Instr.typeAssert (.iface 223 v) 127 306 true).run Tryz.prog w=.ok (.tuple #[.iface 223 v,.bool true]) w:=
 run_typeAssert_hasB Tryz.underlying306 (by kernel_rfl) v 127 w
theorem N5(v:Value)(w:World):(Go.method 555 223 v "Unwrap").run Tryz.prog w=.ok (409,v) w:=by kernel_rfl
theorem Pg(v:Value)(w:World)(hv:v.oneCell'=true):Calls Tryz.prog 409 #[.agg #[v]] w λe w'=>e=.returned v/\w.alloc (.cells #[v] 223)=w':=by
 go_enter Tryz.func409,Tryz.ntmps409;go_wp2;go_ret;exact⟨rfl,rfl⟩
theorem QE{w:World}{b off:Nat}{cs:Array Value}{t:TypeId}(h:w.heap[b]?=some (.cells cs t (0,0))):w.frozen? ⟨b,off,none⟩=false:=by
 simp[World.frozen?,h]
theorem as_in(c:Int)(F Z:Nat)(aW:Value)(w:World)(ht:qBl w F #[aW] 153)(hv:qBl w Z #[.pointer (qad F)] 155):
  Calls Tryz.prog 198 #[QL c,.iface 155 (.pointer (qad F)),.agg #[.pointer (some ⟨9,155,none⟩),.pointer (qad Z),.int .u64 150],.iface 298 (.agg #[.pointer (some ⟨9,153,none⟩)])] w λe w'=>e=.returned (.bool true)/\qBl w' F #[.int .i64 c] 153/\∀N,N<=F->N<=w.heap.size->Below N w w':=by
 unfold QL;have h6:= @ei Tryz.prog 195 _ (λargs=>ReflectliteValue.unpack (args.getD 0 (.tuple #[]))) Tryz.func195 (by kernel_rfl) (by kernel_rfl) (by kernel_rfl) (by kernel_rfl);have h7:= @ei Tryz.prog 196 _ (ReflectliteValue.methodAny (ReflectliteValue.valueError "reflectlite.Value.Type" 0) (λt _ _ _=>ReflectliteType.toType t)) Tryz.func196 (by kernel_rfl) (by kernel_rfl) (by kernel_rfl) (by kernel_rfl);have h8:= @ei Tryz.prog 197 _ (ReflectliteValue.method (ReflectliteValue.valueError "reflectlite.Value.IsNil" 0) ReflectliteValue.isNil) Tryz.func197 (by kernel_rfl) (by kernel_rfl) (by kernel_rfl) (by kernel_rfl);have a6:= @ei Tryz.prog 403 _ (ReflectliteType.abiMethod λt=>do pure (.int .u8 (<-Rtype.kind t))) Tryz.func403 (by kernel_rfl) (by kernel_rfl) (by kernel_rfl) (by kernel_rfl);have az:= @ei Tryz.prog 416 _ (ReflectliteType.method ReflectliteType.elem) Tryz.func416 (by kernel_rfl) (by kernel_rfl) (by kernel_rfl) (by kernel_rfl);have aG:= @ei Tryz.prog 417 _ (ReflectliteType.relation "Implements" ReflectliteType.implements_) Tryz.func417 (by kernel_rfl) (by kernel_rfl) (by kernel_rfl) (by kernel_rfl);have a7:= @ei Tryz.prog 252 _ ReflectliteType.typeOf Tryz.func252 (by kernel_rfl) (by kernel_rfl) (by kernel_rfl) (by kernel_rfl);have aC:= @ei Tryz.prog 414 _ (ReflectliteType.relation "AssignableTo" ReflectliteType.assignableTo) Tryz.func414 (by kernel_rfl) (by kernel_rfl) (by kernel_rfl) (by kernel_rfl)
 have aM:= @ei Tryz.prog 253 _ (ReflectliteValue.method (ReflectliteValue.valueError "reflectlite.Value.Elem" 0) ReflectliteValue.elem) Tryz.func253 (by kernel_rfl) (by kernel_rfl) (by kernel_rfl) (by kernel_rfl);have aS:= @ei Tryz.prog 254 _ ReflectliteValue.set Tryz.func254 (by kernel_rfl) (by kernel_rfl) (by kernel_rfl) (by kernel_rfl);have f1:=Ga;have f2:=Lp;have f3:=Fc;have f4:=Js;have f5:=Jt;have f6:=Fd;have f7:=De;have f8:=Df;have f9:=Lq;have aH:=Fe;have aL:=MC;have aF:=MB;have aT:=Il;have aE:=Ik;have aI:=Lo;have aK:=Qn;have ay:=MI;have aA:=N5;have aq:F<w.heap.size:=(AB ht).1;have au:Z<w.heap.size:=(AB hv).1;obtain⟨V1,ah⟩:∃W,w.alloc (.cells #[.pointer (some ⟨9,155,none⟩),.pointer (qad Z),.int .u64 150] 232)=W:=⟨_,rfl⟩;have t1:qBl V1 (w.heap.size) #[.pointer (some ⟨9,155,none⟩),.pointer (qad Z),.int .u64 150] 232:=by rw[<-ah];exact dm _ _
 have b1:Below w.heap.size w V1:=by rw[<-ah];exact AN _ _
 have z1:w.heap.size<V1.heap.size:=(AB t1).1;obtain⟨Y,ar⟩:∃W,V1.alloc (.cells #[.iface 153 (.agg #[.int .i64 c])] 223)=W:=⟨_,rfl⟩;have b2:Below V1.heap.size V1 Y:=by rw[<-ar];exact AN _ _
 have t2:=AK b2 t1 z1;have M:=b1.trans (b2.mono b1.size);obtain⟨V3,ag⟩:∃W,Y.alloc (.cells #[.int .i64 c] 153)=W:=⟨_,rfl⟩;have t3:qBl V3 (Y.heap.size) #[.int .i64 c] 153:=by rw[<-ag];exact dm _ _
 have b3:Below Y.heap.size Y V3:=by rw[<-ag];exact AN _ _
 have H:=M.trans (b3.mono M.size);have c0:=AJ t2 0 rfl;have c1:=AJ t2 1 rfl;have c2:=AJ t2 2 rfl;have el:=PX ⟨Z,0,none⟩ ⟨F,0,none⟩ Y (AJ (AK M hv au) 0 rfl);have J:=AK H ht aq;have st:=Sb ⟨F,0,none⟩ ⟨Y.heap.size,0,none⟩ c aW V3 (AJ t3 0 rfl) (AJ J 0 rfl) (QE J);have HF:Hid ((V3.setCell ⟨F,0,none⟩ (.int .i64 c)).heap[F]?=some (.cells #[.int .i64 c] 153 (0,0))/\∀N,N<=F->N<=w.heap.size->Below N w (V3.setCell ⟨F,0,none⟩ (.int .i64 c))):=⟨one_setCell J,λN h1 h2=>(H.mono h2).setCell h1 _⟩;clear ht hv t1 t2 t3 b1 b2 M b3 H J;go_enter Tryz.func198,Tryz.ntmps198;go_wp2;refine wp_loop_rounds 2 ?_;rw[rounds_succ]
 go_wp2_with (go_at_call 409;refine(Pg _ _ rfl).mono ?_;rintro e w1 ⟨rfl,rfl⟩)
 rw[rounds_succ];go_wp2;go_ret;exact⟨rfl,HF.O.1,HF.O.2⟩
end
end Go.Proofs.YtbceafpodamnfaaGreatDoor
