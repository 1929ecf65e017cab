import Derived.Test.YtbceafpodamnfaaGreatDoorG13
set_option linter.all false
set_option maxHeartbeats 8000000
set_option maxRecDepth 100000
namespace Go.Proofs.YtbceafpodamnfaaGreatDoor
section
open Go.RowKit Go.Sort
open Go.Value renaming int->In,slice->Sl,string->Sg,bool->Bo,pointer->Po
open Go.IntKind renaming i64->i6
structure Bx where
 b:Bk
 a1:Option Addr
 a2:Option Addr
 a3:Option Addr
 c1:Nat
 c2:Nat
 c3:Nat
def Bx.cells(x:Bx):List Value:=((qbV x.b x.a1 x.c1 x.a2 x.c2 x.a3 x.c3):Array Value).toList
def BxAt(w:World)(b o:Nat)(x:Bx):Prop:=w.cell? ⟨b,o,none⟩=some (In i6 x.b.av)/\w.cell? ⟨b,o+1,none⟩=some (.slice x.a1 x.b.ah.length x.c1)/\w.cell? ⟨b,o+2,none⟩=some (.slice x.a2 x.b.ar.length x.c2)/\w.cell? ⟨b,o+3,none⟩=some (.slice x.a3 x.b.aw.length x.c3)
def BxsAt(w:World)(b off:Nat)(l:List Bx):Prop:=∀i x,l[i]?=some x->BxAt w b (off+i*4) x
def SlX(w:World)(ao:qO)(l:List Bx):Prop:=l≠[]->∃b off,ao=some ⟨b,off,none⟩/\b<w.heap.size/\BxsAt w b off l
def BxsIn(w:World)(l:List Bx):Prop:=∀x∈l,BkAt w x.a1 x.a2 x.a3 x.b
def Sizeds(l:List Bx):Prop:=∀x∈l,x.b.aP
def Smalls(l:List Bx):Prop:=∀x∈l,x.b.aR
theorem BxAt.below{B:Nat}{w w':World}{b o:Nat}{x:Bx}(h:BxAt w b o x)(hb:Below B w w')(z:b<B):BxAt w' b o x:=by
 unfold BxAt at *;simp only[λo=>hb.cell (p:=⟨b,o,none⟩) z];exact h
theorem SlX.below{w w':World}{ao:qO}{l:List Bx}(h:SlX w ao l)(hb:Below w.heap.size w w'):SlX w' ao l:=λz=>
 let ⟨b,off,e,hlt,hat⟩:=h z
 ⟨b,off,e,AF hlt hb.size,λi s F=>(hat i s F).below hb hlt⟩
theorem BxsIn.below{w w':World}{l:List Bx}(h:BxsIn w l)(hb:Below w.heap.size w w'):BxsIn w' l:=λx hx=>(h x hx).below hb
structure WAt(w:World)(ap:qO)(l:List Bx)(a1 a2 a3:qO)(B:Bk):Prop where
 row:SlX w ap l
 bR:BxsIn w l
 bE:BkAt w a1 a2 a3 B
theorem WAt.below{w w':World}{ap:qO}{l:List Bx}{a1 a2 a3:qO}{B:Bk}(h:WAt w ap l a1 a2 a3 B)(hb:Below w.heap.size w w'):WAt w' ap l a1 a2 a3 B:=⟨h.row.below hb,h.bR.below hb,h.bE.below hb⟩
theorem BxAt.grown{w:World}{b o:Nat}{x:Bx}(h:BxAt w b o x):(∀p:Regrown,(grow (redrawn w p.d) p.os).cell? ⟨b,o,none⟩=some (In i6 x.b.av))/\(∀p:Regrown,(grow (redrawn w p.d) p.os).cell? ⟨b,o+1,none⟩=some (.slice x.a1 x.b.ah.length x.c1))/\(∀p:Regrown,(grow (redrawn w p.d) p.os).cell? ⟨b,o+2,none⟩=some (.slice x.a2 x.b.ar.length x.c2))/\(∀p:Regrown,(grow (redrawn w p.d) p.os).cell? ⟨b,o+3,none⟩=some (.slice x.a3 x.b.aw.length x.c3)):=by
 unfold BxAt at h;obtain⟨c0,c1,c2,c3⟩:=h;exact⟨λp=>jo c0 p.d p.os,λp=>jo c1 p.d p.os,λp=>jo c2 p.d p.os,λp=>jo c3 p.d p.os⟩
structure Past(r n:Nat)(w w':World):Prop where
 os:w'.os=w.os
 tape:w'.tape=w.tape
 output:w'.output=w.output
 size:w.heap.size<=w'.heap.size
 block:∀k,k<n->k≠r->w'.heap[k]?=w.heap[k]?
theorem Past.trans{r n:Nat}{a b c:World}(h:Past r n a b)(k:Past r n b c):Past r n a c:=
 ⟨k.os.trans h.os,k.tape.trans h.tape,k.output.trans h.output,AH h.size k.size,λi z F=>(k.block i z F).trans (h.block i z F)⟩
theorem Past.mono{r n m:Nat}{w w':World}(h:Past r n w w')(z:m<=n):Past r m w w':=⟨h.os,h.tape,h.output,h.size,λk hk=>h.block k (AF hk z)⟩
theorem Past.of{r n:Nat}{w w':World}(h:Below n w w'):Past r n w w':=⟨h.os,h.tape,h.output,h.size,λk hk _=>h.block k hk⟩
theorem Past.next{r n:Nat}{a b c:World}(h:Past r n a b)(z:n<=a.heap.size)(k:Past r b.heap.size b c):Past r n a c:=h.trans (k.mono (AH z h.size))
theorem GR{r n:Nat}{w w':World}{k:Nat}{x:Option Obj}(hb:Past r n w w')(h:w.heap[k]?=x)(hk:k<n)(z:k≠r):w'.heap[k]?=x:=(hb.block k hk z).trans h
theorem Past.cell{r n:Nat}{w w':World}(h:Past r n w w'){b:Nat}(hb:b<n)(z:b≠r)(o:Nat):w'.cell? ⟨b,o,none⟩=w.cell? ⟨b,o,none⟩:=eQ (w:=w) (h.block b hb z)
def ByAt(r:Nat)(w:World)(ao:qO)(n:Nat):Prop:=0<n->∃b off,ao=some ⟨b,off,none⟩/\b<w.heap.size/\b<r/\∀i,i<n->∃x:Int,w.cell? ⟨b,off+i,none⟩=some (.int .u8 x)/\0<=x/\x<256
theorem ByAt.aX{r n:Nat}{w w':World}{ao:qO}(h:ByAt r w ao n)(z:Past r w.heap.size w w'):ByAt r w' ao n:=λH=>
 let ⟨b,off,e,hlt,hr,hc⟩:=h H
 ⟨b,off,e,AF hlt z.size,hr,λi F=>by rw[z.cell hlt (Nat.ne_of_lt hr)];exact hc i F⟩
def Rd(r:Nat)(w:World)(q:Int):Prop:=∃(ao:qO) (n cap:Nat) (p:Int),w.heap[r]?=some (.cells #[Sl ao n cap,In i6 p] 139 (0,0))/\0<=p/\p<=q/\n<=2000/\ByAt r w ao n
theorem Rd.mono{r:Nat}{w:World}{q q':Int}(h:Rd r w q)(z:q<=q'):Rd r w q':=
 let ⟨ao,n,cap,p,h1,h2,h3,h4,h5⟩:=h
 ⟨ao,n,cap,p,h1,h2,Int.le_trans h3 z,h4,h5⟩
theorem Rd.lt{r:Nat}{w:World}{q:Int}(h:Rd r w q):r<w.heap.size:=
 let ⟨_,_,_,_,h1,_⟩:=h
 (AB h1).1
theorem Rd.below{r:Nat}{w w':World}{q:Int}(h:Rd r w q)(hb:Below w.heap.size w w'):Rd r w' q:=
 have z:=h.lt
 let ⟨ao,n,cap,p,h1,h2,h3,h4,h5⟩:=h
 ⟨ao,n,cap,p,AK hb h1 z,h2,h3,h4,h5.aX (.of hb)⟩
theorem Rd.cX{r:Nat}{w:World}{q:Int}(h:Rd r w q){b o:Nat}{s:qB}(z:w.cell? ⟨b,o,none⟩=some (.string s)):b≠r:=by
 rintro rfl;obtain⟨ao,n,cap,p,F,_⟩:=h;rw[gU w b o _ _ _ F]at z;rcases o with _|_|o
 ·cases z
 ·cases z
 ·simp at z
theorem Rd.two{r:Nat}{w:World}{q:Int}(h:Rd r w q){b o:Nat}{x:Int}{v:Value}(z:w.cell? ⟨b,o,none⟩=some (In i6 x))(H:w.cell? ⟨b,o+1,none⟩=some v):b≠r:=by
 rintro rfl;obtain⟨ao,n,cap,p,F,_⟩:=h;rw[gU w b o _ _ _ F]at z;rw[gU w b _ _ _ _ F]at H;rcases o with _|_|o
 ·cases z
 ·simp at H
 ·simp at z
theorem SlS.aX{r:Nat}{w w':World}{q:Int}{ao:qO}{l:List Svc}(h:SlS w ao l)(J:Rd r w q)(hb:Past r w.heap.size w w'):SlS w' ao l:=λH=>
 let ⟨b,off,e,hlt,hat⟩:=h H
 ⟨b,off,e,AF hlt hb.size,λi s M=>by
  have F:=hat i s M;have z:=J.cX F.1;unfold SvcAt at *;simp only[hb.cell hlt z]
  exact F⟩
theorem SlC.aX{r:Nat}{w w':World}{q:Int}{ao:qO}{l:List Cp}(h:SlC w ao l)(J:Rd r w q)(hb:Past r w.heap.size w w'):SlC w' ao l:=λH=>
 let ⟨b,off,e,hlt,hat⟩:=h H
 ⟨b,off,e,AF hlt hb.size,λi s M=>by
  have F:=hat i s M;have z:=J.cX F.1;unfold CpAt at *;simp only[hb.cell hlt z]
  exact F⟩
theorem SlB.aX{r:Nat}{w w':World}{q:Int}{ao:qO}{l:List Bt}(h:SlB w ao l)(J:Rd r w q)(hb:Past r w.heap.size w w'):SlB w' ao l:=λH=>
 let ⟨b,off,e,hlt,hat⟩:=h H
 ⟨b,off,e,AF hlt hb.size,λi s M=>by
  have F:=hat i s M;have z:=J.cX F.1;unfold BtAt at *;simp only[hb.cell hlt z]
  exact F⟩
theorem SlX.aX{r:Nat}{w w':World}{q:Int}{ao:qO}{l:List Bx}(h:SlX w ao l)(J:Rd r w q)(hb:Past r w.heap.size w w'):SlX w' ao l:=λH=>
 let ⟨b,off,e,hlt,hat⟩:=h H
 ⟨b,off,e,AF hlt hb.size,λi s M=>by
  have z:=hat i s M;have F:=J.two z.1 z.2.1;unfold BxAt at *;simp only[hb.cell hlt F]
  exact z⟩
theorem BkAt.aX{r:Nat}{w w':World}{q:Int}{a1 a2 a3:qO}{B:Bk}(h:BkAt w a1 a2 a3 B)(z:Rd r w q)(hb:Past r w.heap.size w w'):BkAt w' a1 a2 a3 B:=
 ⟨h.1.aX z hb,h.2.1.aX z hb,h.2.2.aX z hb⟩
theorem WAt.aX{r:Nat}{w w':World}{q:Int}{ap:qO}{l:List Bx}{a1 a2 a3:qO}{B:Bk}(h:WAt w ap l a1 a2 a3 B)(z:Rd r w q)(hb:Past r w.heap.size w w'):WAt w' ap l a1 a2 a3 B:=
 ⟨h.row.aX z hb,λx hx=>(h.bR x hx).aX z hb,h.bE.aX z hb⟩
end
section
open Go.RowKit
def Dd(P:List Bk)(B:Bk)(i:Nat):Bool:=match P[i]? with
 |none=>false
 |some b=>Aj b&&decide (b.av<=B.av)&&(match i with|0=>true|j+1=>match P[j]? with|none=>false|some p=>decide (p.av<=b.av))
def GC(P:List Bk)(B:Bk):Bool:=Aj B&&decide (P.length<=8)&&BT (Dd P B) P.length
end
section
open Go.RowKit Go.Sort
open Go.Value renaming int->In,slice->Sl,string->Sg,bool->Bo,pointer->Po
open Go.IntKind renaming i64->i6
theorem L8{l:List Bx}{B:Bk}{k:Nat}(hk:k<l.length)(h:Dd (l.map (·.b)) B k=false):GC (l.map (·.b)) B=false:=by
 unfold GC;rw[Ao (by simpa using hk) h,iH]
theorem map_at{l:List Bx}{k:Nat}{s:Bx}(h:l[k]?=some s):(l.map (·.b))[k]?=some s.b:=by simp[h]
theorem LZ(l:List Bx)(ap:qO)(cp:Nat)(B:Bk)(a1 a2 a3:qO)(c1 c2 c3:Nat)(w:World)(hl:l.length<=1048576)(hZ:Sizeds l)(hS:Smalls l)(aG:B.aP)(hT:B.aR)(hW:WAt w ap l a1 a2 a3 B):
  Calls Tryz.prog 31 #[.agg (qwV ap l.length cp B a1 c1 a2 c2 a3 c3)] w λe w'=>e=.returned (.bool (GC (l.map (·.b)) B))/\Below w.heap.size w w':=by
 have HW:Hid (WAt w ap l a1 a2 a3 B):=hW;have HS:Hid _:=hS;have HZ:Hid _:=hZ;have aN:Hid _:=aG;have HT:Hid _:=hT;clear hW hS hZ aG hT;have T0:Hid _:=dm w (.cells (qwV ap l.length cp B a1 c1 a2 c2 a3 c3) 30);have am:=AN w (.cells (qwV ap l.length cp B a1 c1 a2 c2 a3 c3) 30);have aD:Hid ((w.alloc (.cells (qwV ap l.length cp B a1 c1 a2 c2 a3 c3) 30)).heap.size=w.heap.size+1):=by show(w.heap.push _).size=_;simp
 go_enter Tryz.func31,Tryz.ntmps31
 go_wp2_with fail
 refine(A7 B a1 a2 a3 c1 c2 c3 _ HT.ab aN.ab (HW.ab.bE.below am)).mono ?_;rintro e w1 ⟨he,ay⟩;subst he;have aj:=am.trans (ay.mono am.size);have T1:Hid _:=AK ay T0.ab (by rw[aD.ab];omega);clear T0 am aD ay;cases hv:Aj B
 ·have HV:Hid (GC (l.map (·.b)) B=false):=by unfold Hid GC;rw[hv];rfl
  clear hv;go_wp2;go_ret;exact⟨AQ HV.ab.symm,aj⟩
 have HV:Hid (Aj B=true):=hv;clear hv;have e0:=AJ T1.ab 0
 by_cases h8:l.length<=8
 case neg=>
  have ae:Hid (GC (l.map (·.b)) B=false):=by unfold Hid GC;rw[HV.ab];simp[h8]
  go_wp2;go_ret;exact⟨AQ ae.ab.symm,aj⟩
 have H8:Hid (l.length<=8):=h8;have a5:decide (8<(l.length:Int))=false:=qp
 go_wp2;clear h8 a5 e0
 go_loopw [3] (λiv wr=>∃k:Nat,k<=l.length/\iv=In i6 k/\Below w.heap.size w wr/\Hid (qBl wr (w.heap.size) (qwV ap l.length cp B a1 c1 a2 c2 a3 c3) 30)/\Hid (∀i,i<k->Dd (l.map (·.b)) B i=true)) (λi _=>l.length - (intOf i).toNat)
 case atStart=>exact⟨0,qo,rfl,aj,T1,λi hi=>absurd hi qo⟩
 case round=>
  clear aj T1;obtain⟨k,hk,rfl,hb,z,ah⟩:=hrel;have aw:w.heap.size<wr.heap.size:=(AB z.ab).1;have e0:=AJ z.ab 0;have e1:=AJ z.ab 1;have e2:=AJ z.ab 2;have e3:=AJ z.ab 3;have e4:=AJ z.ab 4
  by_cases ak:k<l.length
  ·have al:l≠[]:=by intro h;rw[h]at ak;simp at ak
   obtain⟨b,bK,ea,aH,af⟩:=HW.ab.row al;subst ea;obtain⟨s,aa⟩:∃s,l[k]?=some s:=⟨l[k],by simp[ak]⟩;have HM:Hid (s∈l):=AE aa;have M:Hid s.b.aR:=HS.ab s HM.ab;have O:Hid s.b.aP:=HZ.ab s HM.ab;have J:Hid (BkAt wr s.a1 s.a2 s.a3 s.b):=(HW.ab.bR s HM.ab).below hb;have W:=map_at aa;obtain⟨x0,x1,x2,x3⟩:=((af k s aa).below hb aH).grown;have g0:=Az z.ab 0 rfl;have g1:=Az z.ab 1 rfl;have g2:=Az z.ab 2 rfl;have g3:=Az z.ab 3 rfl;have g4:=Az z.ab 4 rfl;cases aJ:Aj s.b
   ·have ae:Hid (Dd (l.map (·.b)) B k=false):=by unfold Hid Dd;rw[W];simp[aJ]
    clear aa af al W;go_wp2;refine jl qk qk ?_
    repeat (first|go_big_quiet_step (exact jk (A7 s.b s.a1 s.a2 s.a3 s.c1 s.c2 s.c3 _ M.ab O.ab (J.ab.grown _ _)))|quiet_step (exact jk (A7 s.b s.a1 s.a2 s.a3 s.c1 s.c2 s.c3 _ M.ab O.ab (J.ab.grown _ _))))
    refine jn ?_;intro w2 Y;obtain⟨⟨dq,au⟩,F⟩:=Y;have H:Below wr.heap.size wr w2:=by rw[F];exact jm _ _ _
    clear F;go_wp2;go_ret;exact⟨AQ (L8 ak ae.ab).symm,hb.trans (H.mono hb.size)⟩
   have aC:Hid (Aj s.b=true):=aJ;cases hd:decide (B.av<s.b.av)
   case true=>
    have ae:Hid (Dd (l.map (·.b)) B k=false):=by
     have h':¬s.b.av<=B.av:=by have:=iK hd;omega
     unfold Hid Dd;rw[W];simp[h']
    clear aa af al W;go_wp2;refine jl qk qk ?_
    repeat (first|go_big_quiet_step (exact jk (A7 s.b s.a1 s.a2 s.a3 s.c1 s.c2 s.c3 _ M.ab O.ab (J.ab.grown _ _)))|quiet_step (exact jk (A7 s.b s.a1 s.a2 s.a3 s.c1 s.c2 s.c3 _ M.ab O.ab (J.ab.grown _ _))))
    refine jn ?_;intro w2 Y;obtain⟨⟨dq,au⟩,F⟩:=Y;have H:Below wr.heap.size wr w2:=by rw[F];exact jm _ _ _
    clear F;go_wp2;go_ret;exact⟨AQ (L8 ak ae.ab).symm,hb.trans (H.mono hb.size)⟩
   have aB:Hid (s.b.av<=B.av):=by have:=of_decide_eq_false hd;show s.b.av<=B.av;omega
   by_cases aA:k=0
   ·have Z:Hid (Dd (l.map (·.b)) B k=true):=by unfold Hid Dd;rw[W,aA];simp[aC.ab,aB.ab]
    have hz:decide (0<k)=false:=qp
    clear aa af al aA W;go_wp2;refine jl qk qk ?_
    repeat (first|go_big_quiet_step (exact jk (A7 s.b s.a1 s.a2 s.a3 s.c1 s.c2 s.c3 _ M.ab O.ab (J.ab.grown _ _)))|quiet_step (exact jk (A7 s.b s.a1 s.a2 s.a3 s.c1 s.c2 s.c3 _ M.ab O.ab (J.ab.grown _ _))))
    refine jn ?_;intro w2 Y;obtain⟨⟨dq,au⟩,F⟩:=Y;have H:Below wr.heap.size wr w2:=by rw[F];exact jm _ _ _
    clear F;have ag:Hid _:=AK H z.ab aw;have az:=hb.trans (H.mono hb.size);clear g0 g1 g2 g3 g4 x0 x1 x2 x3 e0 e1 e2 e3 e4;go_wp2
    go_roundw
    case rel=>exact⟨k+1,qo,qn,az,ag,A9 ah.ab Z.ab⟩
    case measure=>simp[intOf];omega
   obtain⟨k',rfl⟩:∃k',k=k'+1:=⟨k - 1,qo⟩;clear aA;obtain⟨p,aq⟩:∃p,l[k']?=some p:=⟨l[k']' qo,by rw[dz]⟩;have an:=map_at aq;obtain⟨y0,y1,y2,y3⟩:=((af k' p aq).below hb aH).grown;cases aI:decide (s.b.av<p.b.av)
   ·have Z:Hid (Dd (l.map (·.b)) B (k'+1)=true):=by
     unfold Hid Dd;have h':p.b.av<=s.b.av:=by have:=of_decide_eq_false aI;omega
     rw[W];simp only[an,aC.ab,aB.ab,h',decide_true,iX]
    clear aa af al aq W an;go_wp2;refine jl qk qk ?_
    repeat (first|go_big_quiet_step (exact jk (A7 s.b s.a1 s.a2 s.a3 s.c1 s.c2 s.c3 _ M.ab O.ab (J.ab.grown _ _)))|quiet_step (exact jk (A7 s.b s.a1 s.a2 s.a3 s.c1 s.c2 s.c3 _ M.ab O.ab (J.ab.grown _ _))))
    refine jn ?_;intro w2 Y;obtain⟨⟨dq,au⟩,F⟩:=Y;have H:Below wr.heap.size wr w2:=by rw[F];exact jm _ _ _
    clear F;have ag:Hid _:=AK H z.ab aw;have az:=hb.trans (H.mono hb.size);clear g0 g1 g2 g3 g4 x0 x1 x2 x3 y0 y1 y2 y3 e0 e1 e2 e3 e4;go_wp2
    go_roundw
    case rel=>exact⟨k'+1+1,qo,qn,az,ag,A9 ah.ab Z.ab⟩
    case measure=>simp[intOf];omega
   ·have ae:Hid (Dd (l.map (·.b)) B (k'+1)=false):=by
     unfold Hid Dd;have h':¬p.b.av<=s.b.av:=by have:=iK aI;omega
     rw[W];simp only[an,h',decide_false,iH]
    clear aa af al aq W an;go_wp2;refine jl qk qk ?_
    repeat (first|go_big_quiet_step (exact jk (A7 s.b s.a1 s.a2 s.a3 s.c1 s.c2 s.c3 _ M.ab O.ab (J.ab.grown _ _)))|quiet_step (exact jk (A7 s.b s.a1 s.a2 s.a3 s.c1 s.c2 s.c3 _ M.ab O.ab (J.ab.grown _ _))))
    refine jn ?_;intro w2 Y;obtain⟨⟨dq,au⟩,F⟩:=Y;have H:Below wr.heap.size wr w2:=by rw[F];exact jm _ _ _
    clear F;go_wp2;go_ret;exact⟨AQ (L8 ak ae.ab).symm,hb.trans (H.mono hb.size)⟩
  ·have Z:Hid (GC (l.map (·.b)) B=true):=by
    unfold Hid GC;rw[HV.ab,CY λi hi=>ah.ab i (by simp at hi;omega)];simp[H8.ab]
   clear ah;go_wp2;go_ret;exact⟨AQ Z.ab.symm,hb⟩
end
end Go.Proofs.YtbceafpodamnfaaGreatDoor
