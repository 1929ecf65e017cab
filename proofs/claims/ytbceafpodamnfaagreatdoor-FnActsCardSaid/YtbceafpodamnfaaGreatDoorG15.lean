import Derived.Test.YtbceafpodamnfaaGreatDoorG12
import Derived.Deep.DeepCutAuto
set_option linter.all false
set_option maxHeartbeats 8000000
set_option maxRecDepth 100000
namespace Go.Proofs.YtbceafpodamnfaaGreatDoor
section
open Go.RowKit Go.Sort
structure Bx where
 b:Bk
 a1:Option Addr
 a2:Option Addr
 a3:Option Addr
 c1:Nat
 c2:Nat
 c3:Nat
def Bx.cells(x:Bx):List Value:=((qbV x.b x.a1 x.c1 x.a2 x.c2 x.a3 x.c3):Array Value).toList
def BxAt(w:World)(b o:Nat)(x:Bx):Prop:=w.cell? ⟨b,o,none⟩=some (.int .i64 x.b.aj)/\w.cell? ⟨b,o+1,none⟩=some (.slice x.a1 x.b.af.length x.c1)/\w.cell? ⟨b,o+2,none⟩=some (.slice x.a2 x.b.ah.length x.c2)/\w.cell? ⟨b,o+3,none⟩=some (.slice x.a3 x.b.ak.length x.c3)
def BxsAt(w:World)(b off:Nat)(l:List Bx):Prop:=∀i x,l[i]?=some x->BxAt w b (off+i*4) x
def SlX(w:World)(ao:qO)(l:List Bx):Prop:=l≠[]->∃b off,ao=some ⟨b,off,none⟩/\b<w.heap.size/\BxsAt w b off l
def BxsIn(w:World)(l:List Bx):Prop:=∀x∈l,BkAt w x.a1 x.a2 x.a3 x.b
def Sizeds(l:List Bx):Prop:=∀x∈l,x.b.aD
def Smalls(l:List Bx):Prop:=∀x∈l,x.b.aJ
theorem BxAt.below{B:Nat}{w w':World}{b o:Nat}{x:Bx}(h:BxAt w b o x)(hb:Below B w w')(F:b<B):BxAt w' b o x:=by
 unfold BxAt at *;simp only[λo=>hb.cell (p:=⟨b,o,none⟩) F];exact h
theorem SlX.below{w w':World}{ao:qO}{l:List Bx}(h:SlX w ao l)(hb:Below w.heap.size w w'):SlX w' ao l:=λH=>
 let ⟨b,off,e,hlt,hat⟩:=h H
 ⟨b,off,e,AF hlt hb.size,λi s F=>(hat i s F).below hb hlt⟩
theorem BxsIn.below{w w':World}{l:List Bx}(h:BxsIn w l)(hb:Below w.heap.size w w'):BxsIn w' l:=λx hx=>(h x hx).below hb
structure WAt(w:World)(ap:qO)(l:List Bx)(a1 a2 a3:qO)(B:Bk):Prop where
 row:SlX w ap l
 bP:BxsIn w l
 bj:BkAt w a1 a2 a3 B
theorem WAt.below{w w':World}{ap:qO}{l:List Bx}{a1 a2 a3:qO}{B:Bk}(h:WAt w ap l a1 a2 a3 B)(hb:Below w.heap.size w w'):WAt w' ap l a1 a2 a3 B:=⟨h.row.below hb,h.bP.below hb,h.bj.below hb⟩
theorem BxAt.grown{w:World}{b o:Nat}{x:Bx}(h:BxAt w b o x):(∀p:Regrown,(grow (redrawn w p.d) p.os).cell? ⟨b,o,none⟩=some (.int .i64 x.b.aj))/\(∀p:Regrown,(grow (redrawn w p.d) p.os).cell? ⟨b,o+1,none⟩=some (.slice x.a1 x.b.af.length x.c1))/\(∀p:Regrown,(grow (redrawn w p.d) p.os).cell? ⟨b,o+2,none⟩=some (.slice x.a2 x.b.ah.length x.c2))/\(∀p:Regrown,(grow (redrawn w p.d) p.os).cell? ⟨b,o+3,none⟩=some (.slice x.a3 x.b.ak.length x.c3)):=by
 unfold BxAt at h;obtain⟨c0,c1,c2,c3⟩:=h;exact⟨λp=>jl c0 p.d p.os,λp=>jl c1 p.d p.os,λp=>jl c2 p.d p.os,λp=>jl c3 p.d p.os⟩
theorem Kd(B:Bk)(a1 a2 a3 b1 b2 b3:qO)(c1 c2 c3 d1 d2 d3:Nat)(w:World)(hS:B.aJ)(hA:BkAt w a1 a2 a3 B)(hB:BkAt w b1 b2 b3 B):
  Calls Tryz.prog 13 #[.agg (qbV B a1 c1 a2 c2 a3 c3),.agg (qbV B b1 d1 b2 d2 b3 d3)] w λe w'=>e=.returned (.bool true)/\Below w.heap.size w w':=by
 obtain⟨t0,t1,t2⟩:=B1 w (.cells (qbV B a1 c1 a2 c2 a3 c3) 28) (.cells (qbV B b1 d1 b2 d2 b3 d3) 28);obtain⟨W0,aw⟩:∃W,(w.alloc (.cells (qbV B a1 c1 a2 c2 a3 c3) 28)).alloc (.cells (qbV B b1 d1 b2 d2 b3 d3) 28)=W:=⟨_,rfl⟩;have Z:Below w.heap.size w W0:=by rw[<-aw];exact((dI _ _).alloc (AG _) _).alloc (by simp) _
 rw[aw]at t0 t1 t2;have T0:Hid _:=t0;have T1:Hid _:=t1;have ah:Hid _:=t2;clear t0 t1 t2;obtain⟨l1,l2,l3⟩:=hS;go_enter Tryz.func13,Tryz.ntmps13
 go_upto_region 1 with fail
 clear aw;have e0:=AJ T0.O 0 rfl;have e1:=AJ T0.O 1 rfl;have e2:=AJ T0.O 2 rfl;have e3:=AJ T0.O 3 rfl;have f0:=AJ T1.O 0 rfl;have f1:=AJ T1.O 1 rfl;have f2:=AJ T1.O 2 rfl;have f3:=AJ T1.O 3 rfl;go_wp2;clear e0 e1 e2 e3 f0 f1 f2 f3
 go_loopw [5] (λiv wr=>∃(k:Nat),k<=B.af.length/\iv=.int .i64 k/\Below W0.heap.size W0 wr) (λi _=>B.af.length - (intOf i).toNat)
 case atStart=>exact⟨0,by omega,rfl,dI _ _⟩
 case round=>
  obtain⟨k,hk,rfl,hb⟩:=hrel;have U0:Hid _:=AK hb T0.O (by rw[ah.O];omega);have U1:Hid _:=AK hb T1.O (by rw[ah.O];omega)
  by_cases F:k<B.af.length
  ·have e0:=Aq U0.O 1 rfl
   have f0:=Aq U1.O 1 rfl;have Y:B.af≠[]:=by intro h;rw[h]at F;simp at F
   obtain⟨b,off,ea,am,aa⟩:=hA.1 Y;obtain⟨b',ar,eb,ag,H⟩:=hB.1 Y;obtain⟨s,M⟩:∃s,B.af[k]?=some s:=⟨B.af[k],by simp[F]⟩;have af:=Z.trans (hb.mono Z.size);obtain⟨c0,c1,c2,c3,c4,c5,c6,c7,c8,c9,a9,aS,aM⟩:=((aa k s M).below af am).grown;obtain⟨d0,d1,d2,d3,d4,d5,d6,d7,d8,d9,a8,aK,aW⟩:=((H k s M).below af ag).grown;subst ea eb;clear M aa H Y;have ee:=AJ U0.O 1 rfl
   go_upto_region 6 with fail
   clear ee;refine ji (by kernel_rfl) (by kernel_rfl) ?_
   repeat (first|go_big_quiet_step (fail)|quiet_step (fail))
   refine jk ?_;intro w1 al;obtain⟨⟨dq,aF⟩,J⟩:=al;have ak:Below wr.heap.size wr w1:=by rw[J];exact jj _ _ _
   clear J c0 d0 c1 d1 c2 d2 c3 d3 c4 d4 c5 d5 c6 d6 c7 d7 c8 d8 c9 d9 a9 a8 aS aK aM aW e0 f0;have an:=hb.trans (ak.mono hb.size);go_wp2
   go_roundw
   case rel=>exact⟨k+1,by omega,by go_num,an⟩
   case measure=>simp[intOf];omega
  ·have ee:=AJ U0.O 1 rfl
   go_upto_region 8 with fail
   clear ee U0 U1 F hk;go_wp2
   go_loopw [6] (λiv wr=>∃(k:Nat),k<=B.ah.length/\iv=.int .i64 k/\Below W0.heap.size W0 wr) (λi _=>B.ah.length - (intOf i).toNat)
   case atStart=>exact⟨0,by omega,rfl,hb⟩
   case round=>
    clear hb;obtain⟨k,hk,rfl,hb⟩:=hrel;have U0:Hid _:=AK hb T0.O (by rw[ah.O];omega);have U1:Hid _:=AK hb T1.O (by rw[ah.O];omega)
    by_cases F:k<B.ah.length
    ·have e0:=Aq U0.O 2 rfl
     have f0:=Aq U1.O 2 rfl;have Y:B.ah≠[]:=by intro h;rw[h]at F;simp at F
     obtain⟨b,off,ea,am,aa⟩:=hA.2.1 Y;obtain⟨b',ar,eb,ag,H⟩:=hB.2.1 Y;obtain⟨s,M⟩:∃s,B.ah[k]?=some s:=⟨B.ah[k],by simp[F]⟩;have af:=Z.trans (hb.mono Z.size);obtain⟨c0,c1,c2,c3,c4,c5,c6⟩:=((aa k s M).below af am).grown;obtain⟨d0,d1,d2,d3,d4,d5,d6⟩:=((H k s M).below af ag).grown;subst ea eb;clear M aa H Y;have ee:=AJ U0.O 2 rfl
     go_upto_region 11 with fail
     clear ee;refine ji (by kernel_rfl) (by kernel_rfl) ?_
     repeat (first|go_big_quiet_step (fail)|quiet_step (fail))
     refine jk ?_;intro w1 al;obtain⟨⟨dq,aF⟩,J⟩:=al;have ak:Below wr.heap.size wr w1:=by rw[J];exact jj _ _ _
     clear J c0 d0 c1 d1 c2 d2 c3 d3 c4 d4 c5 d5 c6 d6 e0 f0;have an:=hb.trans (ak.mono hb.size);go_wp2
     go_roundw
     case rel=>exact⟨k+1,by omega,by go_num,an⟩
     case measure=>simp[intOf];omega
    ·have ee:=AJ U0.O 2 rfl
     go_upto_region 13 with fail
     clear ee U0 U1 F hk;go_wp2
     go_loopw [7] (λiv wr=>∃(k:Nat),k<=B.ak.length/\iv=.int .i64 k/\Below W0.heap.size W0 wr) (λi _=>B.ak.length - (intOf i).toNat)
     case atStart=>exact⟨0,by omega,rfl,hb⟩
     case round=>
      clear hb;obtain⟨k,hk,rfl,hb⟩:=hrel;have U0:Hid _:=AK hb T0.O (by rw[ah.O];omega);have U1:Hid _:=AK hb T1.O (by rw[ah.O];omega)
      by_cases F:k<B.ak.length
      ·have e0:=Aq U0.O 3 rfl
       have f0:=Aq U1.O 3 rfl;have Y:B.ak≠[]:=by intro h;rw[h]at F;simp at F
       obtain⟨b,off,ea,am,aa⟩:=hA.2.2 Y;obtain⟨b',ar,eb,ag,H⟩:=hB.2.2 Y;obtain⟨s,M⟩:∃s,B.ak[k]?=some s:=⟨B.ak[k],by simp[F]⟩;have af:=Z.trans (hb.mono Z.size);obtain⟨c0,c1⟩:=((aa k s M).below af am).grown;obtain⟨d0,d1⟩:=((H k s M).below af ag).grown;subst ea eb;clear M aa H Y;have ee:=AJ U0.O 3 rfl
       go_upto_region 16 with fail
       clear ee;refine ji (by kernel_rfl) (by kernel_rfl) ?_
       repeat (first|go_big_quiet_step (fail)|quiet_step (fail))
       refine jk ?_;intro w1 al;obtain⟨⟨dq,aF⟩,J⟩:=al;have ak:Below wr.heap.size wr w1:=by rw[J];exact jj _ _ _
       clear J c0 d0 c1 d1 e0 f0;have an:=hb.trans (ak.mono hb.size);go_wp2
       go_roundw
       case rel=>exact⟨k+1,by omega,by go_num,an⟩
       case measure=>simp[intOf];omega
      ·have ee:=AJ U0.O 3 rfl
       go_wp2;go_ret;exact⟨rfl,Z.trans (hb.mono Z.size)⟩
structure Past(r n:Nat)(w w':World):Prop where
 os:w'.os=w.os
 tape:w'.tape=w.tape
 output:w'.output=w.output
 size:w.heap.size<=w'.heap.size
 block:∀k,k<n->k≠r->w'.heap[k]?=w.heap[k]?
theorem Past.trans{r n:Nat}{a b c:World}(h:Past r n a b)(k:Past r n b c):Past r n a c:=
 ⟨k.os.trans h.os,k.tape.trans h.tape,k.output.trans h.output,AH h.size k.size,λi F H=>(k.block i F H).trans (h.block i F H)⟩
theorem Past.mono{r n m:Nat}{w w':World}(h:Past r n w w')(F:m<=n):Past r m w w':=⟨h.os,h.tape,h.output,h.size,λk hk=>h.block k (AF hk F)⟩
theorem Past.of{r n:Nat}{w w':World}(h:Below n w w'):Past r n w w':=⟨h.os,h.tape,h.output,h.size,λk hk _=>h.block k hk⟩
theorem Past.next{r n:Nat}{a b c:World}(h:Past r n a b)(F:n<=a.heap.size)(k:Past r b.heap.size b c):Past r n a c:=h.trans (k.mono (AH F h.size))
theorem Past.aX{r n:Nat}{a b c:World}(h:Past r n a b)(F:n<=a.heap.size)(k:Below b.heap.size b c):Past r n a c:=h.next F (.of k)
theorem Bn{r n:Nat}{w w':World}{k:Nat}{x:Option Obj}(hb:Past r n w w')(h:w.heap[k]?=x)(hk:k<n)(F:k≠r):w'.heap[k]?=x:=(hb.block k hk F).trans h
theorem Past.cell{r n:Nat}{w w':World}(h:Past r n w w'){b:Nat}(hb:b<n)(F:b≠r)(o:Nat):w'.cell? ⟨b,o,none⟩=w.cell? ⟨b,o,none⟩:=eF (w:=w) (h.block b hb F)
def ByAt(r:Nat)(w:World)(ao:qO)(n:Nat):Prop:=0<n->∃b off,ao=some ⟨b,off,none⟩/\b<w.heap.size/\b<r/\∀i,i<n->∃x:Int,w.cell? ⟨b,off+i,none⟩=some (.int .u8 x)/\0<=x/\x<256
theorem ByAt.aP{r n:Nat}{w w':World}{ao:qO}(h:ByAt r w ao n)(F:Past r w.heap.size w w'):ByAt r w' ao n:=λH=>
 let ⟨b,off,e,hlt,hr,hc⟩:=h H
 ⟨b,off,e,AF hlt F.size,hr,λi J=>by rw[F.cell hlt (Nat.ne_of_lt hr)];exact hc i J⟩
def Rd(r:Nat)(w:World)(q:Int):Prop:=∃(ao:qO) (n cap:Nat) (p:Int),w.heap[r]?=some (.cells #[.slice ao n cap,.int .i64 p] 139 (0,0))/\0<=p/\p<=q/\n<=2000/\ByAt r w ao n
theorem Rd.mono{r:Nat}{w:World}{q q':Int}(h:Rd r w q)(F:q<=q'):Rd r w q':=
 let ⟨ao,n,cap,p,h1,h2,h3,h4,h5⟩:=h
 ⟨ao,n,cap,p,h1,h2,Int.le_trans h3 F,h4,h5⟩
theorem Rd.lt{r:Nat}{w:World}{q:Int}(h:Rd r w q):r<w.heap.size:=
 let ⟨_,_,_,_,h1,_⟩:=h
 (AB h1).1
theorem Rd.below{r:Nat}{w w':World}{q:Int}(h:Rd r w q)(hb:Below w.heap.size w w'):Rd r w' q:=
 have F:=h.lt
 let ⟨ao,n,cap,p,h1,h2,h3,h4,h5⟩:=h
 ⟨ao,n,cap,p,AK hb h1 F,h2,h3,h4,h5.aP (.of hb)⟩
theorem Rd.bD{r g:Nat}{w w':World}{q:Int}(W:Rd r w q)(Z:r<g)(hs:w'.heap.size=w.heap.size)(F:∀k,k≠g->w'.heap[k]?=w.heap[k]?):Rd r w' q:=by
 obtain⟨ao,n,cap,p,c1,c2,c3,c4,M⟩:=W;refine⟨ao,n,cap,p,(F r (by omega)).trans c1,c2,c3,c4,λY=>?_⟩;obtain⟨b,off,J,e2,e3,e4⟩:=M Y;exact⟨b,off,J,by omega,e3,λi H=>by rw[eF (w:=w) (F b (by omega))];exact e4 i H⟩
theorem Rd.cT{r:Nat}{w:World}{q:Int}(h:Rd r w q){b o:Nat}{s:qB}(F:w.cell? ⟨b,o,none⟩=some (.string s)):b≠r:=by
 rintro rfl;obtain⟨ao,n,cap,p,H,_⟩:=h;rw[gH w b o _ _ _ H]at F;rcases o with _|_|o
 ·cases F
 ·cases F
 ·simp at F
theorem Rd.two{r:Nat}{w:World}{q:Int}(h:Rd r w q){b o:Nat}{x:Int}{v:Value}(F:w.cell? ⟨b,o,none⟩=some (.int .i64 x))(J:w.cell? ⟨b,o+1,none⟩=some v):b≠r:=by
 rintro rfl;obtain⟨ao,n,cap,p,H,_⟩:=h;rw[gH w b o _ _ _ H]at F;rw[gH w b _ _ _ _ H]at J;rcases o with _|_|o
 ·cases F
 ·simp at J
 ·simp at F
theorem SlS.aP{r:Nat}{w w':World}{q:Int}{ao:qO}{l:List Svc}(h:SlS w ao l)(W:Rd r w q)(hb:Past r w.heap.size w w'):SlS w' ao l:=λM=>
 let ⟨b,off,e,hlt,hat⟩:=h M
 ⟨b,off,e,AF hlt hb.size,λi s J=>by
  have H:=hat i s J;have F:=W.cT H.1;unfold SvcAt at *;simp only[hb.cell hlt F]
  exact H⟩
theorem SlC.aP{r:Nat}{w w':World}{q:Int}{ao:qO}{l:List Cp}(h:SlC w ao l)(W:Rd r w q)(hb:Past r w.heap.size w w'):SlC w' ao l:=λM=>
 let ⟨b,off,e,hlt,hat⟩:=h M
 ⟨b,off,e,AF hlt hb.size,λi s J=>by
  have H:=hat i s J;have F:=W.cT H.1;unfold CpAt at *;simp only[hb.cell hlt F]
  exact H⟩
theorem SlB.aP{r:Nat}{w w':World}{q:Int}{ao:qO}{l:List Bt}(h:SlB w ao l)(W:Rd r w q)(hb:Past r w.heap.size w w'):SlB w' ao l:=λM=>
 let ⟨b,off,e,hlt,hat⟩:=h M
 ⟨b,off,e,AF hlt hb.size,λi s J=>by
  have H:=hat i s J;have F:=W.cT H.1;unfold BtAt at *;simp only[hb.cell hlt F]
  exact H⟩
theorem SlX.aP{r:Nat}{w w':World}{q:Int}{ao:qO}{l:List Bx}(h:SlX w ao l)(W:Rd r w q)(hb:Past r w.heap.size w w'):SlX w' ao l:=λM=>
 let ⟨b,off,e,hlt,hat⟩:=h M
 ⟨b,off,e,AF hlt hb.size,λi s J=>by
  have F:=hat i s J;have H:=W.two F.1 F.2.1;unfold BxAt at *;simp only[hb.cell hlt H]
  exact F⟩
theorem BkAt.aP{r:Nat}{w w':World}{q:Int}{a1 a2 a3:qO}{B:Bk}(h:BkAt w a1 a2 a3 B)(F:Rd r w q)(hb:Past r w.heap.size w w'):BkAt w' a1 a2 a3 B:=
 ⟨h.1.aP F hb,h.2.1.aP F hb,h.2.2.aP F hb⟩
theorem WAt.aP{r:Nat}{w w':World}{q:Int}{ap:qO}{l:List Bx}{a1 a2 a3:qO}{B:Bk}(h:WAt w ap l a1 a2 a3 B)(F:Rd r w q)(hb:Past r w.heap.size w w'):WAt w' ap l a1 a2 a3 B:=
 ⟨h.row.aP F hb,λx hx=>(h.bP x hx).aP F hb,h.bj.aP F hb⟩
end
section
open Go.RowKit
def C6(P:List Bk)(B:Bk)(i:Nat):Bool:=match P[i]? with
 |none=>false
 |some b=>Ag b&&decide (b.aj<=B.aj)&&(match i with|0=>true|j+1=>match P[j]? with|none=>false|some p=>decide (p.aj<=b.aj))
def FM(P:List Bk)(B:Bk):Bool:=Ag B&&decide (P.length<=8)&&BI (C6 P B) P.length
end
section
open Go.RowKit Go.Sort
theorem Kc{l:List Bx}{B:Bk}{k:Nat}(hk:k<l.length)(h:C6 (l.map (·.b)) B k=false):FM (l.map (·.b)) B=false:=by
 unfold FM;rw[Am (by simpa using hk) h,ij]
theorem map_at{l:List Bx}{k:Nat}{s:Bx}(h:l[k]?=some s):(l.map (·.b))[k]?=some s.b:=by simp[h]
theorem Jv(l:List Bx)(ap:qO)(cp:Nat)(B:Bk)(a1 a2 a3:qO)(c1 c2 c3:Nat)(w:World)(hl:l.length<=1048576)(hZ:Sizeds l)(hS:Smalls l)(aG:B.aD)(hT:B.aJ)(hW:WAt w ap l a1 a2 a3 B):
  Calls Tryz.prog 31 #[.agg (qwV ap l.length cp B a1 c1 a2 c2 a3 c3)] w λe w'=>e=.returned (.bool (FM (l.map (·.b)) B))/\Below w.heap.size w w':=by
 have HW:Hid (WAt w ap l a1 a2 a3 B):=hW;have HS:Hid _:=hS;have HZ:Hid _:=hZ;have a6:Hid _:=aG;have HT:Hid _:=hT;clear hW hS hZ aG hT;have T0:Hid _:=dm w (.cells (qwV ap l.length cp B a1 c1 a2 c2 a3 c3) 30);have ar:=AN w (.cells (qwV ap l.length cp B a1 c1 a2 c2 a3 c3) 30);have aK:Hid ((w.alloc (.cells (qwV ap l.length cp B a1 c1 a2 c2 a3 c3) 30)).heap.size=w.heap.size+1):=by show(w.heap.push _).size=_;simp
 go_enter Tryz.func31,Tryz.ntmps31
 go_wp2_with fail
 refine(Ai B a1 a2 a3 c1 c2 c3 _ HT.O a6.O (HW.O.bj.below ar)).mono ?_;rintro e w1 ⟨he,aC⟩;subst he;have al:=ar.trans (aC.mono ar.size);have T1:Hid _:=AK aC T0.O (by rw[aK.O];omega);clear T0 ar aK aC;cases hv:Ag B
 ·have HV:Hid (FM (l.map (·.b)) B=false):=by unfold Hid FM;rw[hv];rfl
  clear hv;go_wp2;go_ret;exact⟨AR HV.O.symm,al⟩
 have HV:Hid (Ag B=true):=hv;clear hv;have e0:=AJ T1.O 0 rfl
 by_cases h8:l.length<=8
 case neg=>
  have ak:Hid (FM (l.map (·.b)) B=false):=by unfold Hid FM;rw[HV.O];simp[h8]
  go_wp2;go_ret;exact⟨AR ak.O.symm,al⟩
 have H8:Hid (l.length<=8):=h8;have a7:decide (8<(l.length:Int))=false:=by simp;omega
 go_wp2;clear h8 a7 e0
 go_loopw [3] (λiv wr=>∃k:Nat,k<=l.length/\iv=.int .i64 k/\Below w.heap.size w wr/\Hid (qBl wr (w.heap.size) (qwV ap l.length cp B a1 c1 a2 c2 a3 c3) 30)/\Hid (∀i,i<k->C6 (l.map (·.b)) B i=true)) (λi _=>l.length - (intOf i).toNat)
 case atStart=>exact⟨0,by omega,rfl,al,T1,λi hi=>absurd hi (by omega)⟩
 case round=>
  clear al T1;obtain⟨k,hk,rfl,hb,F,am⟩:=hrel;have ay:w.heap.size<wr.heap.size:=(AB F.O).1;have e0:=AJ F.O 0 rfl;have e1:=AJ F.O 1 rfl;have e2:=AJ F.O 2 rfl;have e3:=AJ F.O 3 rfl;have e4:=AJ F.O 4 rfl
  by_cases an:k<l.length
  ·have aq:l≠[]:=by intro h;rw[h]at an;simp at an
   obtain⟨b,off,ea,aL,ah⟩:=HW.O.row aq;subst ea;obtain⟨s,ag⟩:∃s,l[k]?=some s:=⟨l[k],by simp[an]⟩;have HM:Hid (s∈l):=AE ag;have Z:Hid s.b.aJ:=HS.O s HM.O;have M:Hid s.b.aD:=HZ.O s HM.O;have W:Hid (BkAt wr s.a1 s.a2 s.a3 s.b):=(HW.O.bP s HM.O).below hb;have Y:=map_at ag;obtain⟨x0,x1,x2,x3⟩:=((ah k s ag).below hb aL).grown;have g0:=Aq F.O 0 rfl;have g1:=Aq F.O 1 rfl;have g2:=Aq F.O 2 rfl;have g3:=Aq F.O 3 rfl;have g4:=Aq F.O 4 rfl;cases aI:Ag s.b
   ·have ak:Hid (C6 (l.map (·.b)) B k=false):=by unfold Hid C6;rw[Y];simp[aI]
    clear ag ah aq Y;go_wp2;refine ji (by kernel_rfl) (by kernel_rfl) ?_
    repeat (first|go_big_quiet_step (exact jh (Ai s.b s.a1 s.a2 s.a3 s.c1 s.c2 s.c3 _ Z.O M.O (W.O.grown _ _)))|quiet_step (exact jh (Ai s.b s.a1 s.a2 s.a3 s.c1 s.c2 s.c3 _ Z.O M.O (W.O.grown _ _))))
    refine jk ?_;intro w2 aa;obtain⟨⟨dq,ax⟩,H⟩:=aa;have J:Below wr.heap.size wr w2:=by rw[H];exact jj _ _ _
    clear H;go_wp2;go_ret;exact⟨AR (Kc an ak.O).symm,hb.trans (J.mono hb.size)⟩
   have aM:Hid (Ag s.b=true):=aI;cases hd:decide (B.aj<s.b.aj)
   case true=>
    have ak:Hid (C6 (l.map (·.b)) B k=false):=by
     have h':¬s.b.aj<=B.aj:=by have:=gK hd;omega
     unfold Hid C6;rw[Y];simp[h']
    clear ag ah aq Y;go_wp2;refine ji (by kernel_rfl) (by kernel_rfl) ?_
    repeat (first|go_big_quiet_step (exact jh (Ai s.b s.a1 s.a2 s.a3 s.c1 s.c2 s.c3 _ Z.O M.O (W.O.grown _ _)))|quiet_step (exact jh (Ai s.b s.a1 s.a2 s.a3 s.c1 s.c2 s.c3 _ Z.O M.O (W.O.grown _ _))))
    refine jk ?_;intro w2 aa;obtain⟨⟨dq,ax⟩,H⟩:=aa;have J:Below wr.heap.size wr w2:=by rw[H];exact jj _ _ _
    clear H;go_wp2;go_ret;exact⟨AR (Kc an ak.O).symm,hb.trans (J.mono hb.size)⟩
   have aF:Hid (s.b.aj<=B.aj):=by have:=of_decide_eq_false hd;show s.b.aj<=B.aj;omega
   by_cases aE:k=0
   ·have af:Hid (C6 (l.map (·.b)) B k=true):=by unfold Hid C6;rw[Y,aE];simp[aM.O,aF.O]
    have hz:decide (0<k)=false:=by simp;omega
    clear ag ah aq aE Y;go_wp2;refine ji (by kernel_rfl) (by kernel_rfl) ?_
    repeat (first|go_big_quiet_step (exact jh (Ai s.b s.a1 s.a2 s.a3 s.c1 s.c2 s.c3 _ Z.O M.O (W.O.grown _ _)))|quiet_step (exact jh (Ai s.b s.a1 s.a2 s.a3 s.c1 s.c2 s.c3 _ Z.O M.O (W.O.grown _ _))))
    refine jk ?_;intro w2 aa;obtain⟨⟨dq,ax⟩,H⟩:=aa;have J:Below wr.heap.size wr w2:=by rw[H];exact jj _ _ _
    clear H;have ai:Hid _:=AK J F.O ay;have aA:=hb.trans (J.mono hb.size);clear g0 g1 g2 g3 g4 x0 x1 x2 x3 e0 e1 e2 e3 e4;go_wp2
    go_roundw
    case rel=>exact⟨k+1,by omega,by go_num,aA,ai,A2 am.O af.O⟩
    case measure=>simp[intOf];omega
   obtain⟨k',rfl⟩:∃k',k=k'+1:=⟨k - 1,by omega⟩;clear aE;obtain⟨p,aw⟩:∃p,l[k']?=some p:=⟨l[k']'(by omega),by rw[dj]⟩;have av:=map_at aw;obtain⟨y0,y1,y2,y3⟩:=((ah k' p aw).below hb aL).grown;cases aH:decide (s.b.aj<p.b.aj)
   ·have af:Hid (C6 (l.map (·.b)) B (k'+1)=true):=by
     unfold Hid C6;have h':p.b.aj<=s.b.aj:=by have:=of_decide_eq_false aH;omega
     rw[Y];simp only[av,aM.O,aF.O,h',decide_true,iu]
    clear ag ah aq aw Y av;go_wp2;refine ji (by kernel_rfl) (by kernel_rfl) ?_
    repeat (first|go_big_quiet_step (exact jh (Ai s.b s.a1 s.a2 s.a3 s.c1 s.c2 s.c3 _ Z.O M.O (W.O.grown _ _)))|quiet_step (exact jh (Ai s.b s.a1 s.a2 s.a3 s.c1 s.c2 s.c3 _ Z.O M.O (W.O.grown _ _))))
    refine jk ?_;intro w2 aa;obtain⟨⟨dq,ax⟩,H⟩:=aa;have J:Below wr.heap.size wr w2:=by rw[H];exact jj _ _ _
    clear H;have ai:Hid _:=AK J F.O ay;have aA:=hb.trans (J.mono hb.size);clear g0 g1 g2 g3 g4 x0 x1 x2 x3 y0 y1 y2 y3 e0 e1 e2 e3 e4;go_wp2
    go_roundw
    case rel=>exact⟨k'+1+1,by omega,by go_num,aA,ai,A2 am.O af.O⟩
    case measure=>simp[intOf];omega
   ·have ak:Hid (C6 (l.map (·.b)) B (k'+1)=false):=by
     unfold Hid C6;have h':¬p.b.aj<=s.b.aj:=by have:=gK aH;omega
     rw[Y];simp only[av,h',decide_false,ij]
    clear ag ah aq aw Y av;go_wp2;refine ji (by kernel_rfl) (by kernel_rfl) ?_
    repeat (first|go_big_quiet_step (exact jh (Ai s.b s.a1 s.a2 s.a3 s.c1 s.c2 s.c3 _ Z.O M.O (W.O.grown _ _)))|quiet_step (exact jh (Ai s.b s.a1 s.a2 s.a3 s.c1 s.c2 s.c3 _ Z.O M.O (W.O.grown _ _))))
    refine jk ?_;intro w2 aa;obtain⟨⟨dq,ax⟩,H⟩:=aa;have J:Below wr.heap.size wr w2:=by rw[H];exact jj _ _ _
    clear H;go_wp2;go_ret;exact⟨AR (Kc an ak.O).symm,hb.trans (J.mono hb.size)⟩
  ·have af:Hid (FM (l.map (·.b)) B=true):=by
    unfold Hid FM;rw[HV.O,CH λi hi=>am.O i (by simp at hi;omega)];simp[H8.O]
   clear am;go_wp2;go_ret;exact⟨AR af.O.symm,hb⟩
end
end Go.Proofs.YtbceafpodamnfaaGreatDoor
