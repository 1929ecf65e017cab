import Derived.Test.YtbceafpodamnfaaH36
import Derived.Deep.CutBlock
set_option linter.all false
set_option maxHeartbeats 16000000
set_option maxRecDepth 100000
namespace Go.Proofs.Ytbceafpodamnfaa
attribute [local simp] svV cpV zbV czV aaV ctZ ad bkV ctV acV evV
attribute [local go_sem] svV cpV zbV czV aaV ctZ ad bkV ctV acV evV
section
open Go.RowKit Go.Sort
def Ev.cells(E:Ev):Array Value:=(evV E)
def sv0:Svc:=⟨⟨#[]⟩,0,false,0,0,0,0,0,0,0,0,0,0⟩
def ev0:Ev:=⟨0,sv0,⟨#[]⟩,0,false⟩
theorem CK:(Try.prog.info? 135).map (·.size)=some 17:=by kernel_rfl
theorem Rd.only{r g:Nat}{w w':World}{q:Int}{cs:Array Value}{t:TypeId}{fr:Nat × Nat}(hR:Rd r w q)(hb:w.heap[g]?=some (.cells cs t fr))(on:Bj g w w')(hr:r≠g)(hno:∀(j:Nat) (x:Int),cs[j]?≠some (Value.int .u8 x)):Rd r w' q:=by
 obtain⟨ao,n,cap,p,c1,c2,c3,c4,c5⟩:=hR;refine⟨ao,n,cap,p,(on.other r hr).trans c1,c2,c3,c4,λhn=>?_⟩;obtain⟨b,off,e1,e2,e3,e4⟩:=c5 hn;refine⟨b,off,e1,by rw[on.size];exact e2,e3,λi hi=>?_⟩
 by_cases hbg:b=g
 ·subst hbg
  obtain⟨x,hx,_⟩:=e4 i hi;rw[cell_of_row w b _ _ _ _ hb]at hx;exact absurd hx (hno _ _)
 ·obtain⟨x,hx,hx'⟩:=e4 i hi
  exact⟨x,by rw[World.cell?_of_block (w:=w) (on.other b hbg)];exact hx,hx'⟩
theorem ev_no(E:Ev):∀(j:Nat) (x:Int),E.cells[j]?≠some (Value.int .u8 x):=by
 intro j x h;unfold Ev.cells at h;rcases j with _|_|_|_|_|_|_|_|_|_|_|_|_|_|_|_|_|j<;>first|cases h|simp at h
structure EvU(r x f:Nat)(B:Bk)(a1 a2 a3:Option Addr)(c1 c2 c3:Nat)(w0:World)(q:Int)(w:World):Prop where
 vf:Bl w f ev0.cells 135
 vx:Bl w x (bkV B a1 c1 a2 c2 a3 c3) 27
 bk:BkAt w a1 a2 a3 B
 rd:Rd r w q
 past:Past r w0.heap.size w0 w
 rx:r<x
 xf:x<f
 n0:w0.heap.size<=x
section
variable {r x f:Nat} {B:Bk} {a1 a2 a3:Option Addr} {c1 c2 c3:Nat} {w0 w w':World} {q q':Int}
theorem EvU.go(h:EvU r x f B a1 a2 a3 c1 c2 c3 w0 q w)(hp:Past r w.heap.size w w')(hr:Rd r w' q'):EvU r x f B a1 a2 a3 c1 c2 c3 w0 q' w':=
 ⟨BD hp h.vf (AB h.vf).1 (by have:=h.rx;have:=h.xf;omega),BD hp h.vx (AB h.vx).1 (by have:=h.rx;omega),h.bk.past h.rd hp,hr,h.past.next (AG _) hp,h.rx,h.xf,h.n0⟩
theorem EvU.step(h:EvU r x f B a1 a2 a3 c1 c2 c3 w0 q w)(hs:RStep r 1 w w'):EvU r x f B a1 a2 a3 c1 c2 c3 w0 (q+1) w':=h.go hs.1 (hs.2 _ h.rd)
theorem EvU.grew(h:EvU r x f B a1 a2 a3 c1 c2 c3 w0 q w)(hb:Below w.heap.size w w'):EvU r x f B a1 a2 a3 c1 c2 c3 w0 q w':=h.go (.of hb) (h.rd.below hb)
theorem EvU.mono(h:EvU r x f B a1 a2 a3 c1 c2 c3 w0 q w)(hq:q<=q'):EvU r x f B a1 a2 a3 c1 c2 c3 w0 q' w:={h with rd:=h.rd.mono hq}
def EvIs(r:Nat)(q:Int)(w0:World)(e:Ending)(w':World):Prop:=∃E:Ev,e=.returned (.agg E.cells)/\E.sized/\Past r w0.heap.size w0 w'/\Rd r w' q
theorem EvU.done(h:EvU r x f B a1 a2 a3 c1 c2 c3 w0 q w)(on:Bj f w w')(E:Ev)(hE:E.sized)(hq:q<=q'):EvIs r q' w0 (.returned (.agg E.cells)) w':=
 ⟨E,rfl,hE,h.past.trans (.of (on.below.mono (by have:=h.xf;have:=h.n0;omega))),(h.rd.only h.vf on (by have:=h.rx;have:=h.xf;omega) (ev_no _)).mono hq⟩
theorem EvU.done2{g:Nat}{cs:Array Value}{t:TypeId}{fr:Nat × Nat}{w'':World}(h:EvU r x f B a1 a2 a3 c1 c2 c3 w0 q w)(hz:w.heap[g]?=some (.cells cs t fr))(on:Bj g w w')(hg:f<g)(hno:∀(j:Nat) (x:Int),cs[j]?≠some (Value.int .u8 x))(on2:Bj f w' w'')(E:Ev)(hE:E.sized)(hq:q<=q'):EvIs r q' w0 (.returned (.agg E.cells)) w'':=
 have h1:=h.rx;have h2:=h.xf;have h3:=h.n0
 ⟨E,rfl,hE,(h.past.trans (.of (on.below.mono (by omega)))).trans (.of (on2.below.mono (by omega))),((h.rd.only hz on (by omega) hno).only ((on.other f (by omega)).trans h.vf) on2 (by omega) (ev_no _)).mono hq⟩
theorem cp0_no:∀(j:Nat) (x:Int),(czV:Array Value)[j]?≠some (Value.int .u8 x):=by
 intro j x h;rcases j with _|_|_|_|_|_|_|j<;>first|cases h|simp at h
theorem Dq:(Try.prog.info? 35).map (·.size)=some 7:=by kernel_rfl
end
theorem Dg{ops:Array Oper}{rest:List Oper}{o:Oper}{a:Act}{w:World}{Q:Exit->Act->World->Prop}(hgd:o.guard=none)(y:Operand)(ho:o.op=.store 135 (.tmp 4) y)(f:Nat)(E:Ev)(hx:a.eval (.tmp 4)=.pointer (ad f))(hy:a.eval y=.agg E.cells)
  (hb:Bl w f ev0.cells 135) (h:∀w',Hid (Bl w' f E.cells 135)->Bj f w w'->wpList Try.prog ops Q rest (a.put o.dst undef) w'):wpList Try.prog ops Q (o::rest) a w:=
 AM hgd 135 (.tmp 4) y ho f 0 E.cells hx hy 135 ev0.cells hb CK (AD rfl) (by simp[Ev.cells,Value.oneCell']) λw' hz on=>h w' (by
  have:=hz.out
  rwa [show splice ev0.cells.toList 0 E.cells.toList=E.cells.toList from rfl,Array.toArray_toList]at this) on
theorem Ou(r:Nat)(q:Int)(B:Bk)(a1 a2 a3:Option Addr)(c1 c2 c3:Nat)(w:World)(hS:B.small)(hZ:B.sized)(hB:BkAt w a1 a2 a3 B)(hR:Rd r w q)(hq:q<=800000000000):
  Calls Try.prog 94 #[.pointer (ad r),.agg (bkV B a1 c1 a2 c2 a3 c3)] w λe w'=>EvIs r (q+2000000) w e w':=by
 have hlt:=hR.lt;have HZ:Hid (B.sized):=hZ;have hs1:=hS.1;have hs2:=hS.2.1;clear hZ hS
 obtain⟨W0,hW0,t0,t1,hz0,hb0⟩:∃W0,(w.alloc (.cells (bkV B a1 c1 a2 c2 a3 c3) 27)).alloc (.cells ev0.cells 135)=W0/\Bl W0 (w.heap.size) (bkV B a1 c1 a2 c2 a3 c3) 27/\Bl W0 (w.heap.size+1) ev0.cells 135/\W0.heap.size=w.heap.size+1+1/\Below w.heap.size w W0:=by
  obtain⟨h1,h2,h3⟩:=Bh w (.cells (bkV B a1 c1 a2 c2 a3 c3) 27) (.cells ev0.cells 135);exact⟨_,rfl,h1,h2,h3,(AO w _).alloc (by show w.heap.size<=(w.heap.push _).size;simp) _⟩
 have J0:Hid (EvU r w.heap.size (w.heap.size+1) B a1 a2 a3 c1 c2 c3 w q W0):=⟨t1,t0,hB.below hb0,hR.below hb0,.of hb0,hlt,by omega,AG _⟩;have hW1:(w.alloc (.cells (bkV B a1 c1 a2 c2 a3 c3) 27)).alloc (.cells #[.int .i64 0,.string ⟨#[]⟩,.int .i64 0,.bool false,.int .i64 0,.int .i64 0,.int .i64 0,.int .i64 0,.int .i64 0,.int .i64 0,.int .i64 0,.int .i64 0,.int .i64 0,.int .i64 0,.string ⟨#[]⟩,.int .i64 0,.bool false] 135)=W0:=hW0;obtain⟨x,hx⟩:∃x,w.heap.size=x:=⟨_,rfl⟩;obtain⟨f,hf⟩:∃f,x+1=f:=⟨_,rfl⟩;clear hW0 t0 t1 hR;go_enter Try.func94,Try.ntmps94
 go_upto_region 1 with fail
 rw[hx,hf]at J0;clear hx hf hW1 hz0 hb0 hB
 go_upto_region 2 with(first|(go_at_call 21;refine(Ao r 3 _ _ (by omega) (by omega) (J0.out.grew (AO _ _)).rd (by omega)).mono ?_;rintro e w1 ⟨k1,rfl,hk,hs⟩;have JA:Hid _:=(J0.out.grew (AO _ _)).step hs;have k10:=hk.1;have k11:=hk.2.1 (by omega);have hsl:SlV r 3 CG (.slice (some ⟨W0.heap.size,0,none⟩) 3 3) w1:=HJ _ _ _ (By _ J0.out.rd.lt (CT Ci Ci Ci)) hs ⟨_,(J0.out.grew (AO _ _)).rd⟩;obtain⟨j,rfl⟩:=AI k10;obtain⟨g,eg,g1,g2,g3⟩:=hsl;injection eg with eg;injection eg with eg;injection eg with eg;subst eg;obtain⟨u,u1,nb,rfl,hnb⟩:=g3 j (by omega);clear hk hs g1 g2 g3))
 go_upto_block 0 with(go_at_call 21;refine(Ao r 20 _ _ (by omega) (by omega) JA.out.rd (by omega)).mono ?_;rintro e w2 ⟨k2,rfl,hk,hs⟩;have J2:Hid _:=JA.out.step hs;have k20:=hk.1;have k21:=hk.2.1 (by omega);clear hk hs)
 go_cut [] from 16 (λwx=>EvU r x f B a1 a2 a3 c1 c2 c3 w (q+1048580) wx)
 case first=>
  go_upto_if 16 with fail
  go_cut [16] from 17 (λv wx=>∃b:Bool,v=.bool b/\w2=wx)
  case first=>
   go_wp2
   all_goals
    go_meet;exact⟨_,rfl,rfl⟩
  obtain⟨b,rfl,rfl⟩:=hcut;cases b
  rotate_left
  ·go_wp2_with ((with_reducible show wpList _ _ _ _ _ _);refine Dg rfl (.tmp 24) rfl f (⟨1,sv0,⟨#[]⟩,0,false⟩) rfl rfl J2.out.vf ?_;intro wz hz on;simp only[Act.put])
   refine bodyPost_ret (results_cell_row rfl _ wz f 135 (Ev.cells (⟨1,sv0,⟨#[]⟩,0,false⟩)) (0,0) _ rfl hz.out Try.underlying135 rfl CK) rfl ?_;exact J2.out.done on (⟨1,sv0,⟨#[]⟩,0,false⟩) ⟨by decide,by decide⟩ (by omega)
  go_upto_if 25 with fail
  go_cut [25] from 26 (λv wx=>∃b:Bool,v=.bool b/\w2=wx)
  case first=>
   go_wp2
   all_goals
    go_meet;exact⟨_,rfl,rfl⟩
  obtain⟨b,rfl,rfl⟩:=hcut;cases b
  rotate_left
  ·go_wp2_with (first|(go_at_call 84;refine(Ho r _ _ J2.out.rd (by omega)).mono ?_;rintro e w3 ⟨s,rfl,hsz,hp3,hr3⟩;have J3:Hid _:=J2.out.go hp3 hr3;clear hp3 hr3)|((with_reducible show wpList _ _ _ _ _ _);refine Dg rfl (.tmp 31) rfl f (⟨2,s,⟨#[]⟩,0,false⟩) rfl rfl J3.out.vf ?_;intro wz hz on;simp only[Act.put]))
   refine bodyPost_ret (results_cell_row rfl _ wz f 135 (Ev.cells (⟨2,s,⟨#[]⟩,0,false⟩)) (0,0) _ rfl hz.out Try.underlying135 rfl CK) rfl ?_;exact J3.out.done on (⟨2,s,⟨#[]⟩,0,false⟩) ⟨by show s.name.size<=maxLen;unfold maxLen;omega,AJ _⟩ (by omega)
  by_cases hk10:k2=10
  ·subst hk10
   go_wp2
   go_loopw [6] (λiv wr=>∃k:Nat,k<=B.svcs.length/\iv=.int .i64 k/\EvU r x f B a1 a2 a3 c1 c2 c3 w (q+2+k) wr) (λi _=>B.svcs.length - (intOf i).toNat)
   case atStart=>exact⟨0,by omega,rfl,J2.out.mono (by omega)⟩
   case round=>
    obtain⟨k,hk,rfl,hJ⟩:=hrel;have J3:Hid _:=hJ;have e1:_=some (Value.slice a1 B.svcs.length c1):=AK hJ.vx 1 rfl;clear hJ
    by_cases hlt:k<B.svcs.length
    rotate_left
    ·go_wp2
     go_meet;exact J3.out.mono (by omega)
    go_upto_if 43 with(go_at_call 21;refine(Ao r 2 _ _ (by omega) (by omega) J3.out.rd (by omega)).mono ?_;rintro e w4 ⟨k4,rfl,hk,hs⟩;have J4:Hid _:=J3.out.step hs;have k40:=hk.1;have k41:=hk.2.1 (by omega);clear hk hs)
    by_cases hk4:k4=0
    rotate_left
    ·have hk4b:(k4==0)=false:=by simp[hk4]
     clear e1;go_wp2
     go_roundw
     case rel=>exact⟨k+1,by omega,by go_num,J4.out.mono (by omega)⟩
     case measure=>simp[intOf];omega
    have hk4b:(k4==0)=true:=by simp[hk4]
    obtain⟨b1,off,ea,hbs,hat⟩:=J4.out.bk.1 (by intro h;rw[h]at hlt;simp at hlt);subst ea;obtain⟨s,hsk⟩:∃s,B.svcs[k]?=some s:=⟨B.svcs[k],by simp[hlt]⟩;have hsz:s.name.size<=maxLen:=HZ.out.2.2.2.1 s (AE hsk);have hcs:=hat k s hsk;unfold SvcAt at hcs;obtain⟨z0,z1,z2,z3,z4,z5,z6,z7,z8,z9,z10,z11,z12⟩:=hcs;have e1':_=some (Value.slice (some ⟨b1,off,none⟩) B.svcs.length c1):=AK J4.out.vx 1 rfl;obtain⟨im,him⟩:∃im,IntKind.wrap .i64 (s.image+1)=im:=⟨_,rfl⟩;clear e1 hsk hat
    go_wp2_with ((with_reducible show wpList _ _ _ _ _ _);refine Dg rfl (.tmp 54) rfl f (⟨2,{s with image:=im},⟨#[]⟩,0,false⟩) rfl rfl (J4.out.grew (AO _ _)).vf ?_;intro wz hz on;simp only[Act.put])
    refine bodyPost_ret (results_cell_row rfl _ wz f 135 (Ev.cells (⟨2,{s with image:=im},⟨#[]⟩,0,false⟩)) (0,0) _ rfl hz.out Try.underlying135 rfl CK) rfl ?_;exact(J4.out.grew (AO _ _)).done on (⟨2,{s with image:=im},⟨#[]⟩,0,false⟩) ⟨hsz,AJ _⟩ (by omega)
  have hkb:(k2==10)=false:=by simp[hk10]
  by_cases hk11:k2=11
  ·have hkc:(k2==11)=true:=by simp[hk11]
   go_wp2_with ((with_reducible show wpList _ _ _ _ _ _);refine Dg rfl (.tmp 58) rfl f (⟨4,sv0,nb,0,false⟩) rfl rfl J2.out.vf ?_;intro wz hz on;simp only[Act.put])
   refine bodyPost_ret (results_cell_row rfl _ wz f 135 (Ev.cells (⟨4,sv0,nb,0,false⟩)) (0,0) _ rfl hz.out Try.underlying135 rfl CK) rfl ?_;exact J2.out.done on (⟨4,sv0,nb,0,false⟩) ⟨AJ _,by show nb.size<=maxLen;unfold maxLen;omega⟩ (by omega)
  have hkc:(k2==11)=false:=by simp[hk11]
  go_upto_if 59 with fail
  go_cut [59] from 60 (λv wx=>∃b:Bool,v=.bool b/\w2=wx)
  case first=>
   go_wp2
   all_goals
    go_meet;exact⟨_,rfl,rfl⟩
  obtain⟨b,rfl,rfl⟩:=hcut;cases b
  rotate_left
  ·go_wp2_with (first|(go_at_call 21;refine(Ao r 3 _ _ (by omega) (by omega) J2.out.rd (by omega)).mono ?_;rintro e w3 ⟨k3,rfl,hk,hs⟩;have J3:Hid _:=J2.out.step hs;have k30:=hk.1;have k31:=hk.2.1 (by omega);clear hk hs)|((with_reducible show wpList _ _ _ _ _ _);refine Dg rfl (.tmp 66) rfl f (⟨5,sv0,nb,0,k3==0⟩) rfl rfl J3.out.vf ?_;intro wz hz on;simp only[Act.put]))
   refine bodyPost_ret (results_cell_row rfl _ wz f 135 (Ev.cells (⟨5,sv0,nb,0,k3==0⟩)) (0,0) _ rfl hz.out Try.underlying135 rfl CK) rfl ?_;exact J3.out.done on (⟨5,sv0,nb,0,k3==0⟩) ⟨AJ _,by show nb.size<=maxLen;unfold maxLen;omega⟩ (by omega)
  go_upto_if 67 with fail
  go_cut [67] from 68 (λv wx=>∃b:Bool,v=.bool b/\w2=wx)
  case first=>
   go_wp2
   all_goals
    go_meet;exact⟨_,rfl,rfl⟩
  obtain⟨b,rfl,rfl⟩:=hcut;cases b
  rotate_left
  ·go_upto_region 30 with fail
   have hR2:=J2.out.rd;refine BN 8 r 1 _ (by kernel_rfl) (by kernel_rfl) hR2 ?_;refine Am (SlV r 3 CG) HJ ?_ ?_
   ·intro V W K A hW hR hd hA hK
    simp only[pA]at hA;clear hd;obtain rfl:=hA;have hlt:=hR.lt;go_wp2;exact hK.out _ _ (.of (AO _ _)) (By _ hlt (CT Ci Ci Ci))
   apply Cn
   ·intro V W K A hW hR hd hA hK
    simp only[pA]at hA;clear hd;obtain rfl:=hA;go_wp2;exact hK.out _ (RStep.re _)
   refine Am (Pk 3) Fi ?_ ?_
   ·intro V W K A hW hR hd hA hK
    have d1:V 1=_:=hd 1 (by kernel_rfl);simp only[pA,d1]at hA;clear hd d1;obtain rfl:=hA
    go_wp2_with fail
    refine(Ao r 3 _ W (by omega) (by omega) hR (by omega)).mono ?_;rintro e w2 ⟨k,rfl,hk,hs⟩;go_wp2;exact hK.out _ _ hs ⟨k,rfl,hk⟩
   refine Am (PtV r CG) L7 ?_ ?_
   ·intro V W K A hW hR hd hA hK
    have d0:(SlV r 3 CG) (V 0) W:=hd 0 (by kernel_rfl);have d2:(Pk 3) (V 2) W:=hd 2 (by kernel_rfl);simp only[pA]at hA;clear hd;generalize V 0=x0 at d0 hA;generalize V 2=x2 at d2 hA;obtain rfl:=hA;obtain⟨g,rfl,g1,g2,g3⟩:=d0;obtain⟨k,rfl,hk⟩:=d2;obtain⟨j,rfl⟩:=AI hk.1;have hj:j<3:=by have:=hk.2.1;omega
    clear hk;obtain⟨u,u1,u2⟩:=g3 j hj;go_wp2;exact hK.out _ _ (RStep.re _) ⟨g,j,u,by simp,g1,g2,u1,u2⟩
   refine Am (Va CG) I9 ?_ ?_
   ·intro V W K A hW hR hd hA hK
    have d3:(PtV r CG) (V 3) W:=hd 3 (by kernel_rfl);simp only[pA]at hA;clear hd;generalize V 3=x3 at d3 hA;obtain rfl:=hA;obtain⟨g,i,u,rfl,g1,g2,g3,s,rfl,g4⟩:=d3;go_wp2;exact hK.out _ _ (RStep.re _) ⟨s,rfl,g4⟩
   apply Cn
   ·intro V W K A hW hR hd hA hK
    simp only[pA]at hA;clear hd;obtain rfl:=hA;go_wp2;exact hK.out _ (RStep.re _)
   refine Am (Pk 60) Fi ?_ ?_
   ·intro V W K A hW hR hd hA hK
    have d5:V 5=_:=hd 5 (by kernel_rfl);simp only[pA,d5]at hA;clear hd d5;obtain rfl:=hA
    go_wp2_with fail
    refine(Ao r 60 _ W (by omega) (by omega) hR (by omega)).mono ?_;rintro e w2 ⟨k,rfl,hk,hs⟩;go_wp2;exact hK.out _ _ hs ⟨k,rfl,hk⟩
   refine Am (λv _=>∃E:Ev,E.sized/\v=.agg E.cells) (λ_ _ _ h _ _=>h) ?_ ?_
   ·intro V W K A hW hR hd hA hK
    have d4:(Va CG) (V 4) W:=hd 4 (by kernel_rfl);have d6:(Pk 60) (V 6) W:=hd 6 (by kernel_rfl);simp only[pA]at hA;clear hd;generalize V 4=x4 at d4 hA;generalize V 6=x6 at d6 hA;obtain rfl:=hA;obtain⟨s,rfl,hs⟩:=d4;obtain⟨k,rfl,hk⟩:=d6;go_wp2;exact hK.out _ _ (RStep.re _) ⟨⟨6,sv0,s,k,false⟩,⟨AJ _,by show s.size<=maxLen;unfold maxLen;omega⟩,rfl⟩
   intro V W A hW hR hS hA;have d0:(SlV r 3 CG) (V 0) W:=hS 0 (by omega);have d1:V 1=_:=hS 1 (by omega);have d2:(Pk 3) (V 2) W:=hS 2 (by omega);have d3:(PtV r CG) (V 3) W:=hS 3 (by omega);have d4:(Va CG) (V 4) W:=hS 4 (by omega);have d5:V 5=_:=hS 5 (by omega);have d6:(Pk 60) (V 6) W:=hS 6 (by omega);have d7:(λv _=>∃E:Ev,E.sized/\v=.agg E.cells) (V 7) W:=hS 7 (by omega);simp only[pA,d1,d5]at hA;clear hS d1 d5;generalize V 0=x0 at d0 hA;generalize V 2=x2 at d2 hA;generalize V 3=x3 at d3 hA;generalize V 4=x4 at d4 hA;generalize V 6=x6 at d6 hA;generalize V 7=x7 at d7 hA;obtain rfl:=hA;simp only[List.drop_succ_cons,List.drop_zero];obtain⟨E,hE,rfl⟩:=d7;clear d0 d2 d3 d4 d6;have J3:Hid _:=J2.out.go hW hR
   go_wp2_with ((with_reducible show wpList _ _ _ _ _ _);refine Dg rfl (.tmp 77) rfl f (E) rfl rfl J3.out.vf ?_;intro wz hz on;simp only[Act.put])
   refine bodyPost_ret (results_cell_row rfl _ wz f 135 (Ev.cells (E)) (0,0) _ rfl hz.out Try.underlying135 rfl CK) rfl ?_;exact J3.out.done on (E) hE (by omega)
  go_wp2;go_meet;exact J2.out.mono (by omega)
 clear J2 JA u1 k10 k11;have J5:Hid _:=hcut;clear hcut;have e2:wc.cell? ⟨x,2,none⟩=some (.slice a2 B.cps.length c2):=AK J5.out.vx 2 rfl
 go_upto_region 31 with fail
 go_cut [86] from 78 (λv wx=>∃b:Bool,v=.bool b/\(b=true->0<B.cps.length)/\EvU r x f B a1 a2 a3 c1 c2 c3 w (q+1048581) wx)
 case first=>
  by_cases hl:B.cps.length=0
  ·have hlb:decide (0<(B.cps.length:Int))=false:=by simp[hl]
   go_wp2;go_meet;exact⟨false,rfl,(λh=>by cases h),J5.out.mono (by omega)⟩
  ·have hlb:decide (0<(B.cps.length:Int))=true:=by simp;omega
   go_wp2_with (go_at_call 21;refine(Ao r 8 _ _ (by omega) (by omega) J5.out.rd (by omega)).mono ?_;rintro e w6 ⟨k6,rfl,hk,hs⟩;have J6:Hid _:=J5.out.step hs;have k60:=hk.1;have k61:=hk.2.1 (by omega);clear hk hs)
   go_meet;exact⟨_,rfl,λ_=>by omega,J6.out.mono (by omega)⟩
 obtain⟨b,rfl,hbl,hJ⟩:=hcut;clear J5 e2;have J6:Hid _:=hJ;clear hJ
 go_upto_if 86 with fail
 go_cut [] from 87 (λwx=>EvU r x f B a1 a2 a3 c1 c2 c3 w (q+1048581) wx)
 case first=>
  cases b
  ·go_wp2
   go_meet;exact J6.out
  have hlp:=hbl rfl;clear hbl;obtain⟨b2,off,ea,hb2,hat⟩:=J6.out.bk.2.1 (by intro h;rw[h]at hlp;simp at hlp);subst ea
  have hb2r:b2≠r:=by
   obtain⟨c,hck⟩:∃c,B.cps[0]?=some c:=⟨B.cps[0],by simp⟩;exact J6.out.rd.str (hat 0 c hck).1
  have HAT:Hid (KJ _ b2 off B.cps):=hat;have JX:Hid _:=J6.out.vx;have hxs:=(AB J6.out.vx).1;have hfs:=(AB J6.out.vf).1;have hxr:x≠r:=by have:=J6.out.rx;omega
  have hfr:=J6.out.xf;have hrx:=J6.out.rx;have hR6:=J6.out.rd;clear hat
  go_upto_region 32 with fail
  refine BN 10 r 1 _ (by kernel_rfl) (by kernel_rfl) hR6 ?_;apply Cn
  ·intro V W K A hW hR hd hA hK
   simp only[pA]at hA;clear hd;obtain rfl:=hA;go_wp2;exact hK.out _ (RStep.re _)
  apply Cn
  ·intro V W K A hW hR hd hA hK
   have d0:V 0=_:=hd 0 (by kernel_rfl);simp only[pA,d0]at hA;clear hd d0;obtain rfl:=hA;have e2:W.cell? ⟨x,2,none⟩=some (.slice (some ⟨b2,off,none⟩) B.cps.length c2):=AK (BD hW JX.out hxs hxr) 2 rfl;go_wp2;exact hK.out _ (RStep.re _)
  apply Cn
  ·intro V W K A hW hR hd hA hK
   simp only[pA]at hA;clear hd;obtain rfl:=hA;go_wp2;exact hK.out _ (RStep.re _)
  apply Cn
  ·intro V W K A hW hR hd hA hK
   simp only[pA]at hA;clear hd;obtain rfl:=hA;go_wp2;exact hK.out _ (RStep.re _)
  apply Cn
  ·intro V W K A hW hR hd hA hK
   have d3:V 3=_:=hd 3 (by kernel_rfl);simp only[pA,d3]at hA;clear hd d3;obtain rfl:=hA;have e2:W.cell? ⟨x,2,none⟩=some (.slice (some ⟨b2,off,none⟩) B.cps.length c2):=AK (BD hW JX.out hxs hxr) 2 rfl;go_wp2;exact hK.out _ (RStep.re _)
  apply Cn
  ·intro V W K A hW hR hd hA hK
   have d4:V 4=_:=hd 4 (by kernel_rfl);simp only[pA,d4]at hA;clear hd d4;obtain rfl:=hA;go_wp2;exact hK.out _ (RStep.re _)
  refine Am (Pk (B.cps.length:Int)) Fi ?_ ?_
  ·intro V W K A hW hR hd hA hK
   have d2:V 2=_:=hd 2 (by kernel_rfl);have d5:V 5=_:=hd 5 (by kernel_rfl);simp only[pA,d2,d5]at hA;clear hd d2 d5;obtain rfl:=hA
   go_wp2_with fail
   refine(Ao r (B.cps.length:Int) _ W (by omega) (by omega) hR (by omega)).mono ?_;rintro e w2 ⟨k,rfl,hk,hs⟩;go_wp2;exact hK.out _ _ hs ⟨k,rfl,hk⟩
  refine Am (λv _=>∃j:Nat,v=.pointer (some ⟨b2,off+j*7,none⟩)/\j<B.cps.length) (λ_ _ _ h _ _=>h) ?_ ?_
  ·intro V W K A hW hR hd hA hK
   have d1:V 1=_:=hd 1 (by kernel_rfl);have d6:(Pk (B.cps.length:Int)) (V 6) W:=hd 6 (by kernel_rfl);simp only[pA,d1]at hA;clear hd d1;generalize V 6=x6 at d6 hA;obtain rfl:=hA;obtain⟨k,rfl,hk⟩:=d6;obtain⟨j,rfl⟩:=AI hk.1;have hj:j<B.cps.length:=by have:=hk.2.1;omega
   clear hk;go_wp2;exact hK.out _ _ (RStep.re _) ⟨j,rfl,hj⟩
  refine Am (λv _=>∃c:Cp,c∈B.cps/\v=.agg (cpV c)) (λ_ _ _ h _ _=>h) ?_ ?_
  ·intro V W K A hW hR hd hA hK
   have d7:(λv _=>∃j:Nat,v=.pointer (some ⟨b2,off+j*7,none⟩)/\j<B.cps.length) (V 7) W:=hd 7 (by kernel_rfl);simp only[pA]at hA;clear hd;generalize V 7=x7 at d7 hA;obtain rfl:=hA;obtain⟨j,rfl,hj⟩:=d7;obtain⟨c,hck⟩:∃c,B.cps[j]?=some c:=⟨B.cps[j],by simp[hj]⟩;have hm:=AE hck;have hcs:=HAT.out j c hck;unfold CpAt at hcs;simp only[<-hW.cell hb2 hb2r]at hcs;obtain⟨z0,z1,z2,z3,z4,z5,z6⟩:=hcs;clear hck;go_wp2;exact hK.out _ _ (RStep.re _) ⟨c,hm,rfl⟩
  refine Am (λv W=>∃g,v=.pointer (ad g)/\f<g/\Bl W g czV 35) (λ_ _ _ ⟨g,e,h1,h2⟩ hs _=>⟨g,e,h1,BD hs.1 h2 (AB h2).1 (by omega)⟩) ?_ ?_
  ·intro V W K A hW hR hd hA hK
   simp only[pA]at hA;clear hd;obtain rfl:=hA;go_wp2;exact hK.out _ _ (.of (AO _ _)) ⟨W.heap.size,rfl,AF hfs hW.size,heap_alloc_new W _⟩
  intro V W A hW hR hS hA;have d0:V 0=_:=hS 0 (by omega);have d1:V 1=_:=hS 1 (by omega);have d2:V 2=_:=hS 2 (by omega);have d3:V 3=_:=hS 3 (by omega);have d4:V 4=_:=hS 4 (by omega);have d5:V 5=_:=hS 5 (by omega);have d6:(Pk (B.cps.length:Int)) (V 6) W:=hS 6 (by omega);have d7:(λv _=>∃j:Nat,v=.pointer (some ⟨b2,off+j*7,none⟩)/\j<B.cps.length) (V 7) W:=hS 7 (by omega);have d8:(λv _=>∃c:Cp,c∈B.cps/\v=.agg (cpV c)) (V 8) W:=hS 8 (by omega);have d9:(λv W=>∃g,v=.pointer (ad g)/\f<g/\Bl W g czV 35) (V 9) W:=hS 9 (by omega);simp only[pA,d0,d1,d2,d3,d4,d5]at hA;clear hS d0 d1 d2 d3 d4 d5;generalize V 6=x6 at d6 hA;generalize V 7=x7 at d7 hA;generalize V 8=x8 at d8 hA;generalize V 9=x9 at d9 hA;obtain rfl:=hA;simp only[List.drop_succ_cons,List.drop_zero];obtain⟨c,hcm,rfl⟩:=d8;obtain⟨g,rfl,hfg,hz0⟩:=d9;clear d6 d7 HAT;have J7:Hid _:=J6.out.go hW hR
  go_upto_region 33 with((with_reducible show wpList _ _ _ _ _ _);refine AM rfl 35 (.tmp 8) (.tmp 95) rfl g 0 (cpV c) rfl rfl 35 czV hz0 Dq (AD rfl) (by simp[Value.oneCell']) ?_;intro w8 hz8 on8;simp only[Act.put])
  have v8:Hid _:=(on8.other f (by omega)).trans J7.out.vf;have e0:w8.cell? ⟨g,0,none⟩=some (.string c.service):=AK hz8.out 0 rfl;have e1:w8.cell? ⟨g,1,none⟩=some (.int .i64 c.number):=AK hz8.out 1 rfl;have hsz:c.service.size<=maxLen:=(HZ.out.2.2.2.2.1 c hcm).1;clear hz8 hW hR J6
  go_wp2_with ((with_reducible show wpList _ _ _ _ _ _);refine Dg rfl (.tmp 100) rfl f (⟨3,sv0,c.service,c.number,false⟩) rfl rfl v8.out ?_;intro wz hz on;simp only[Act.put])
  refine bodyPost_ret (results_cell_row rfl _ wz f 135 (Ev.cells (⟨3,sv0,c.service,c.number,false⟩)) (0,0) _ rfl hz.out Try.underlying135 rfl CK) rfl ?_;exact J7.out.done2 hz0 on8 hfg cp0_no on (⟨3,sv0,c.service,c.number,false⟩) ⟨AJ _,hsz⟩ (by omega)
 clear J6 hbl;have J6:Hid _:=hcut;clear hcut
 go_wp2_with (first|(go_at_call 21;refine(Ao r 6 _ _ (by omega) (by omega) J6.out.rd (by omega)).mono ?_;rintro e w9 ⟨k9,rfl,hk,hs⟩;have J9:Hid _:=J6.out.step hs;have k90:=hk.1;have k91:=hk.2.1 (by omega);clear hk hs)|((with_reducible show wpList _ _ _ _ _ _);refine Dg rfl (.tmp 104) rfl f (⟨3,sv0,⟨#[119,101,98]⟩,1+k9,false⟩) rfl rfl J9.out.vf ?_;intro wz hz on;simp only[Act.put]))
 refine bodyPost_ret (results_cell_row rfl _ wz f 135 (Ev.cells (⟨3,sv0,⟨#[119,101,98]⟩,1+k9,false⟩)) (0,0) _ rfl hz.out Try.underlying135 rfl CK) rfl ?_;exact J9.out.done on (⟨3,sv0,⟨#[119,101,98]⟩,1+k9,false⟩) ⟨AJ _,by show(3:Nat)<=maxLen;decide⟩ (by omega)
structure Mv where
 st:Int
 age:Int
 ev:Ev
def Mv.cells(m:Mv):Array Value:=#[.int .i64 m.st,.int .i64 m.age,.int .i64 m.ev.kind,.string m.ev.service.name,.int .i64 m.ev.service.version,.bool m.ev.service.gone,.int .i64 m.ev.service.image,.int .i64 m.ev.service.want,.int .i64 m.ev.service.down,.int .i64 m.ev.service.over,.int .i64 m.ev.service.next,.int .i64 m.ev.service.per,.int .i64 m.ev.service.least,.int .i64 m.ev.service.most,.int .i64 m.ev.service.load,.int .i64 m.ev.service.cool,.string m.ev.name,.int .i64 m.ev.number,.bool m.ev.flag]
def mv0:Mv:=⟨0,0,ev0⟩
def Mv.ok(m:Mv):Prop:=0<=m.st/\m.st<=6/\0<=m.age/\m.age<=9/\m.ev.sized
theorem GR:(Try.prog.info? 137).map (·.size)=some 19:=by kernel_rfl
theorem mv_no(m:Mv):∀(j:Nat) (x:Int),m.cells[j]?≠some (Value.int .u8 x):=by
 intro j x h;unfold Mv.cells at h;rcases j with _|_|_|_|_|_|_|_|_|_|_|_|_|_|_|_|_|_|_|j<;>first|cases h|simp at h
theorem six_of{p:Value->Prop}{a b c d e f:Value}(ha:p a)(hb:p b)(hc:p c)(hd:p d)(he:p e)(hf:p f):∀i,i<6->∃u,(#[a,b,c,d,e,f]:Array Value)[i]?=some u/\p u
 |0,_=>⟨a,rfl,ha⟩
 |1,_=>⟨b,rfl,hb⟩
 |2,_=>⟨c,rfl,hc⟩
 |3,_=>⟨d,rfl,hd⟩
 |4,_=>⟨e,rfl,he⟩
 |5,_=>⟨f,rfl,hf⟩
def IsAge(u:Value):Prop:=∃k:Int,u=.int .i64 k/\0<=k/\k<=9
theorem IL{k:Int}(h:0<=k:=by decide)(h':k<=9:=by decide):IsAge (.int .i64 k):=⟨_,rfl,h,h'⟩
structure MvU(r x f:Nat)(bx:Array Value)(w0:World)(q:Int)(w:World):Prop where
 vf:Bl w f mv0.cells 137
 vx:Bl w x bx 27
 rd:Rd r w q
 past:Past r w0.heap.size w0 w
 rx:r<x
 xf:x<f
 n0:w0.heap.size<=x
section
variable {r x f:Nat} {bx:Array Value} {w0 w w':World} {q q':Int}
theorem MvU.go(h:MvU r x f bx w0 q w)(hp:Past r w.heap.size w w')(hr:Rd r w' q'):MvU r x f bx w0 q' w':=
 ⟨BD hp h.vf (AB h.vf).1 (by have:=h.rx;have:=h.xf;omega),BD hp h.vx (AB h.vx).1 (by have:=h.rx;omega),hr,h.past.next (AG _) hp,h.rx,h.xf,h.n0⟩
theorem MvU.step(h:MvU r x f bx w0 q w)(hs:RStep r 1 w w'):MvU r x f bx w0 (q+1) w':=h.go hs.1 (hs.2 _ h.rd)
theorem MvU.grew(h:MvU r x f bx w0 q w)(hb:Below w.heap.size w w'):MvU r x f bx w0 q w':=h.go (.of hb) (h.rd.below hb)
def MvIs(r:Nat)(q:Int)(w0:World)(e:Ending)(w':World):Prop:=∃m:Mv,e=.returned (.agg m.cells)/\m.ok/\Past r w0.heap.size w0 w'/\Rd r w' q
theorem MvU.done(h:MvU r x f bx w0 q w)(on:Bj f w w')(m:Mv)(hm:m.ok)(hq:q<=q'):MvIs r q' w0 (.returned (.agg m.cells)) w':=
 ⟨m,rfl,hm,h.past.trans (.of (on.below.mono (by have:=h.xf;have:=h.n0;omega))),(h.rd.only h.vf on (by have:=h.rx;have:=h.xf;omega) (mv_no _)).mono hq⟩
end
theorem Kr{ops:Array Oper}{rest:List Oper}{o:Oper}{a:Act}{w:World}{Q:Exit->Act->World->Prop}(hgd:o.guard=none)(y:Operand)(ho:o.op=.store 137 (.tmp 4) y)(f:Nat)(m:Mv)(hx:a.eval (.tmp 4)=.pointer (ad f))(hy:a.eval y=.agg m.cells)
  (hb:Bl w f mv0.cells 137) (h:∀w',Hid (Bl w' f m.cells 137)->Bj f w w'->wpList Try.prog ops Q rest (a.put o.dst undef) w'):wpList Try.prog ops Q (o::rest) a w:=
 AM hgd 137 (.tmp 4) y ho f 0 m.cells hx hy 137 mv0.cells hb GR (AD rfl) (by simp[Mv.cells,Value.oneCell']) λw' hz on=>h w' (by
  have:=hz.out
  rwa [show splice mv0.cells.toList 0 m.cells.toList=m.cells.toList from rfl,Array.toArray_toList]at this) on
theorem Li:(Try.prog.info? 27).map (·.size)=some 4:=by kernel_rfl
theorem move_any(r:Nat)(q:Int)(B:Bk)(a1 a2 a3:Option Addr)(c1 c2 c3:Nat)(w:World)(hS:B.small)(hZ:B.sized)(hB:BkAt w a1 a2 a3 B)(hR:Rd r w q)(hq:q<=700000000000):
  Calls Try.prog 85 #[.pointer (ad r),.agg (bkV B a1 c1 a2 c2 a3 c3)] w λe w'=>MvIs r (q+2000010) w e w':=by
 have hlt:=hR.lt;have HZ:Hid (B.sized):=hZ;have HS:Hid (B.small):=hS;clear hZ hS
 obtain⟨W0,hW0,t0,t1,hz0,hb0⟩:∃W0,(w.alloc (.cells (bkV B a1 c1 a2 c2 a3 c3) 27)).alloc (.cells mv0.cells 137)=W0/\Bl W0 (w.heap.size) (bkV B a1 c1 a2 c2 a3 c3) 27/\Bl W0 (w.heap.size+1) mv0.cells 137/\W0.heap.size=w.heap.size+1+1/\Below w.heap.size w W0:=by
  obtain⟨h1,h2,h3⟩:=Bh w (.cells (bkV B a1 c1 a2 c2 a3 c3) 27) (.cells mv0.cells 137);exact⟨_,rfl,h1,h2,h3,(AO w _).alloc (by show w.heap.size<=(w.heap.push _).size;simp) _⟩
 have J0:Hid (MvU r w.heap.size (w.heap.size+1) (bkV B a1 c1 a2 c2 a3 c3) w q W0):=⟨t1,t0,hR.below hb0,.of hb0,hlt,by omega,AG _⟩;have HB:Hid (BkAt W0 a1 a2 a3 B):=hB.below hb0;have hW1:(w.alloc (.cells (bkV B a1 c1 a2 c2 a3 c3) 27)).alloc (.cells #[.int .i64 0,.int .i64 0,.int .i64 0,.string ⟨#[]⟩,.int .i64 0,.bool false,.int .i64 0,.int .i64 0,.int .i64 0,.int .i64 0,.int .i64 0,.int .i64 0,.int .i64 0,.int .i64 0,.int .i64 0,.int .i64 0,.string ⟨#[]⟩,.int .i64 0,.bool false] 137)=W0:=hW0;obtain⟨x,hx⟩:∃x,w.heap.size=x:=⟨_,rfl⟩;obtain⟨f,hf⟩:∃f,x+1=f:=⟨_,rfl⟩;clear hW0 t0 t1 hR;go_enter Try.func85,Try.ntmps85
 go_upto_region 1 with fail
 rw[hx,hf]at J0;clear hx hf hW1 hz0 hb0 hB
 go_upto_if 7 with(go_at_call 21;refine(Ao r 5 _ _ (by omega) (by omega) J0.out.rd (by omega)).mono ?_;rintro e w1 ⟨k1,rfl,hk,hs⟩;have J1:Hid _:=J0.out.step hs;have HB1:Hid (BkAt w1 a1 a2 a3 B):=HB.out.past J0.out.rd hs.1;clear hk hs)
 by_cases hk1:k1<3
 ·have hkb:decide (k1<3)=true:=by simp[hk1]
  go_wp2_with (first|(go_at_call 21;refine(Ao r 6 _ _ (by omega) (by omega) (J2.out.grew (AO _ _)).rd (by omega)).mono ?_;rintro e w3 ⟨k3,rfl,hk,hs⟩;have J3:Hid _:=(J2.out.grew (AO _ _)).step hs;have k30:=hk.1;have k31:=hk.2.1 (by omega);have hsl:SlV r 6 IsAge (.slice (some ⟨w2.heap.size,0,none⟩) 6 6) w3:=HJ _ _ _ (By _ J2.out.rd.lt (six_of IL IL IL IL IL IL)) hs ⟨_,(J2.out.grew (AO _ _)).rd⟩;obtain⟨j,rfl⟩:=AI k30;obtain⟨g,eg,g1,g2,g3⟩:=hsl;injection eg with eg;injection eg with eg;injection eg with eg;subst eg;obtain⟨u,u1,ag,rfl,ha0,ha1⟩:=g3 j (by omega);clear hk hs g1 g2 g3)|(go_at_call 21;refine(Ao r 6 _ _ (by omega) (by omega) J1.out.rd (by omega)).mono ?_;rintro e w2 ⟨k2,rfl,hk,hs⟩;have J2:Hid _:=J1.out.step hs;have k20:=hk.1;have k21:=hk.2.1 (by omega);clear hk hs)|((with_reducible show wpList _ _ _ _ _ _);refine Kr rfl (.tmp 16) rfl f (⟨1+k2,ag,ev0⟩) rfl rfl J3.out.vf ?_;intro wz hz on;simp only[Act.put]))
  refine bodyPost_ret (results_cell_row rfl _ wz f 137 (Mv.cells (⟨1+k2,ag,ev0⟩)) (0,0) _ rfl hz.out Try.underlying137 rfl GR) rfl ?_;exact J3.out.done on (⟨1+k2,ag,ev0⟩) ⟨by show 0<=1+k2;omega,by show 1+k2<=6;omega,ha0,ha1,AJ _,AJ _⟩ (by omega)
 have hkb:decide (k1<3)=false:=by simp[hk1]
 have VX:Hid _:=J1.out.vx
 go_wp2_with (first|((with_reducible show wpList _ _ _ _ _ _);refine wpList_load_row rfl 27 (.tmp 3) rfl x rfl 27 (bkV B a1 c1 a2 c2 a3 c3) (0,0) _ VX.out Try.underlying27 rfl Li ?_)|(go_at_call 94;refine(Ou r _ B a1 a2 a3 c1 c2 c3 _ HS.out HZ.out HB1.out J1.out.rd (by omega)).mono ?_;rintro e w4 ⟨E,he,hE,hp,hr⟩;simp only[Ev.cells]at he;subst he;have J4:Hid _:=J1.out.go hp hr;clear hp hr)|((with_reducible show wpList _ _ _ _ _ _);refine Kr rfl (.tmp 20) rfl f (⟨0,0,E⟩) rfl rfl J4.out.vf ?_;intro wz hz on;simp only[Act.put]))
 refine bodyPost_ret (results_cell_row rfl _ wz f 137 (Mv.cells (⟨0,0,E⟩)) (0,0) _ rfl hz.out Try.underlying137 rfl GR) rfl ?_;exact J4.out.done on (⟨0,0,E⟩) ⟨Int.le_refl 0,by show(0:Int)<=6;decide,Int.le_refl 0,by show(0:Int)<=9;decide,hE⟩ (by omega)
end
end Go.Proofs.Ytbceafpodamnfaa
