import Derived.Test.YtbceafpodamnfaaGreatH22
set_option linter.all false
set_option maxHeartbeats 4000000
namespace Go.Proofs.YtbceafpodamnfaaGreat
open Go.RowKit Go.Sort Go.Maps
def bkP(B:Bk):Nat->Bool
 |0=>inB B.now 0 1000000
 |1=>decide (B.svcs.length<=8)&&decide (B.cps.length<=200)&&decide (B.bts.length<=6)
 |2=>BH (BB B) B.svcs.length
 |3=>BH (By B) B.bts.length
 |_=>BH (BD B) B.cps.length
theorem bkP_all(B:Bk):BH (bkP B) 5=AX B:=by
 have h:BH (bkP B) 5=(bkP B 0&&(bkP B 1&&(bkP B 2&&(bkP B 3&&(bkP B 4&&true))))):=rfl;rw[h];simp only[bkP,AX,Bool.and_true,Bool.and_assoc]
theorem Fj{B:Bk}(h:∀i,i<B.svcs.length->BB B i=true):∀(j i:Nat) s t,i<j->B.svcs[i]?=some s->B.svcs[j]?=some t->Op.bytesLess s.name.toList t.name.toList=true
 |0,i,_,_,hi,_,_=>absurd hi (by omega)
 |j+1,i,s,t,hi,hs,ht=>by
  have hlt:j+1<B.svcs.length:=(AC ht).1;obtain⟨p,hp⟩:∃p,B.svcs[j]?=some p:=⟨B.svcs[j]'(by omega),by rw[List.getElem?_eq_getElem]⟩
  have h1:Op.bytesLess p.name.toList t.name.toList=true:=by
   have:=h (j+1) hlt;unfold BB at this;rw[ht]at this;simp[hp]at this;exact this.2
  rcases Nat.lt_or_ge i j with h'|h'
  ·exact Be _ _ _ (Fj h j i s p h' hs hp) h1
  ·have e:i=j:=by omega
   subst e;rw[hp]at hs;cases hs;exact h1
theorem KV{B:Bk}(h:BH (BB B) B.svcs.length=true):FK B:=λi j s t hij hs ht e=>by
 have h':∀i,i<B.svcs.length->BB B i=true:=λi hi=>by
  unfold BH at h;exact List.all_eq_true.1 h i (List.mem_range.2 hi)
 have:=Fj h' j i s t hij hs ht;rw[e,B5]at this;cases this
theorem Fc(B:Bk)(a1 a2 a3:Option Addr)(c1 c2 c3:Nat)(w:World)(hS:B.small)(hZ:B.sized)(hU:FK B)(hB:BkAt w a1 a2 a3 B):
  Calls Tryz.prog 27 #[.agg #[.int .i64 B.now,.slice a1 B.svcs.length c1,.slice a2 B.cps.length c2,.slice a3 B.bts.length c3]] w λe w'=>e=.returned (.bool (BH (BD B) B.cps.length))/\Below w.heap.size w w':=by
 by_cases h:B.svcs=[]
 ·exact Jb B a1 a2 a3 c1 c2 c3 w hS hZ hU hB h
 ·exact IF B a1 a2 a3 c1 c2 c3 w hS hZ hU hB h
def FnsB(w:World)(b:Nat):Prop:=w.heap[b]?=some (.cells #[.func (.func 23) #[] #[],.func (.func 24) #[] #[],.func (.func 25) #[] #[],.func (.func 26) #[] #[],.func (.func 27) #[] #[]] 37 (0,0))
theorem K7(B:Bk)(a1 a2 a3:Option Addr)(c1 c2 c3:Nat)(b:Nat)(w:World)(hS:B.small)(hZ:B.sized)(hB:BkAt w a1 a2 a3 B)(hF:FnsB w b):
  Calls Tryz.prog 22 #[.agg #[.int .i64 B.now,.slice a1 B.svcs.length c1,.slice a2 B.cps.length c2,.slice a3 B.bts.length c3],.slice (some ⟨b,0,none⟩) 5 5] w λe w'=>e=.returned (.bool (BH (bkP B) 5))/\Below w.heap.size w w':=by
 have hbx:=AM w (.cells #[.int .i64 B.now,.slice a1 B.svcs.length c1,.slice a2 B.cps.length c2,.slice a3 B.bts.length c3] 27);have hbox:Hid _:=heap_alloc_new w (.cells #[.int .i64 B.now,.slice a1 B.svcs.length c1,.slice a2 B.cps.length c2,.slice a3 B.bts.length c3] 27);have hblt:b<w.heap.size:=(AB hF).1;have HF:Hid (FnsB w b):=hF;clear hF;go_enter Tryz.func22,Tryz.ntmps22;go_wp2
 go_loopw [9] (λiv wr=>∃k:Nat,k<=5/\iv=.int .i64 k/\Below w.heap.size w wr/\Hid (wr.heap[w.heap.size]?=some (.cells #[.int .i64 B.now,.slice a1 B.svcs.length c1,.slice a2 B.cps.length c2,.slice a3 B.bts.length c3] 27 (0,0)))/\Hid (∀i,i<k->bkP B i=true)) (λi _=>5 - (intOf i).toNat)
 case atStart=>exact⟨0,by omega,rfl,hbx,hbox,λi hi=>absurd hi (by omega)⟩
 case round=>
  obtain⟨k,hk,rfl,hb,hbox1,hall⟩:=hrel;have hNlt:w.heap.size<wr.heap.size:=(AB hbox1.out).1;have hfn:Hid _:=AK hb HF.out hblt;have x0:=AJ hbox1.out 0 rfl;have x1:=AJ hbox1.out 1 rfl;have x2:=AJ hbox1.out 2 rfl;have x3:=AJ hbox1.out 3 rfl
  by_cases h0:k=0
  ·subst h0
   have f0:=AJ hfn.out 0 rfl;cases hv:(inB B.now 0 1000000)
   ·have HV:Hid (bkP B 0=false):=hv
    go_wp2_with fail
    refine(Gj B a1 a2 a3 c1 c2 c3 _).mono ?_;rintro e w1 ⟨he,hb1⟩;subst he;have hb2:=hb.trans (hb1.mono hb.size);rw[hv];clear x0 x1 x2 x3 f0;go_wp2;go_ret;exact⟨AR (Al (by omega) HV.out).symm,hb2⟩
   ·have HV:Hid (bkP B 0=true):=hv
    go_wp2_with fail
    refine(Gj B a1 a2 a3 c1 c2 c3 _).mono ?_;rintro e w1 ⟨he,hb1⟩;subst he;have hb2:=hb.trans (hb1.mono hb.size);have hbox2:Hid _:=AK hb1 hbox1.out hNlt;rw[hv];clear x0 x1 x2 x3 f0;go_wp2
    go_roundw
    case rel=>exact⟨0+1,by omega,by go_num,hb2,hbox2,Ax hall.out HV.out⟩
    case measure=>simp[intOf]
  by_cases h1:k=1
  ·subst h1
   have f1:=AJ hfn.out 1 rfl;cases hv:(decide (B.svcs.length<=8)&&decide (B.cps.length<=200)&&decide (B.bts.length<=6))
   ·have HV:Hid (bkP B 1=false):=hv
    go_wp2_with fail
    refine(Fw B a1 a2 a3 c1 c2 c3 _ hS).mono ?_;rintro e w1 ⟨he,hb1⟩;subst he;have hb2:=hb.trans (hb1.mono hb.size);rw[hv];clear x0 x1 x2 x3 f1;go_wp2;go_ret;exact⟨AR (Al (by omega) HV.out).symm,hb2⟩
   ·have HV:Hid (bkP B 1=true):=hv
    go_wp2_with fail
    refine(Fw B a1 a2 a3 c1 c2 c3 _ hS).mono ?_;rintro e w1 ⟨he,hb1⟩;subst he;have hb2:=hb.trans (hb1.mono hb.size);have hbox2:Hid _:=AK hb1 hbox1.out hNlt;rw[hv];clear x0 x1 x2 x3 f1;go_wp2
    go_roundw
    case rel=>exact⟨1+1,by omega,by go_num,hb2,hbox2,Ax hall.out HV.out⟩
    case measure=>simp[intOf]
  by_cases h2:k=2
  ·subst h2
   have f2:=AJ hfn.out 2 rfl;cases hv:(BH (BB B) B.svcs.length)
   ·have HV:Hid (bkP B 2=false):=hv
    go_wp2_with fail
    refine(ET B a1 a2 a3 c1 c2 c3 _ hS hZ (hB.below hb)).mono ?_;rintro e w1 ⟨he,hb1⟩;subst he;have hb2:=hb.trans (hb1.mono hb.size);rw[hv];clear x0 x1 x2 x3 f2;go_wp2;go_ret;exact⟨AR (Al (by omega) HV.out).symm,hb2⟩
   ·have HV:Hid (bkP B 2=true):=hv
    go_wp2_with fail
    refine(ET B a1 a2 a3 c1 c2 c3 _ hS hZ (hB.below hb)).mono ?_;rintro e w1 ⟨he,hb1⟩;subst he;have hb2:=hb.trans (hb1.mono hb.size);have hbox2:Hid _:=AK hb1 hbox1.out hNlt;rw[hv];clear x0 x1 x2 x3 f2;go_wp2
    go_roundw
    case rel=>exact⟨2+1,by omega,by go_num,hb2,hbox2,Ax hall.out HV.out⟩
    case measure=>simp[intOf]
  by_cases h3:k=3
  ·subst h3
   have f3:=AJ hfn.out 3 rfl;cases hv:(BH (By B) B.bts.length)
   ·have HV:Hid (bkP B 3=false):=hv
    go_wp2_with fail
    refine(Fd B a1 a2 a3 c1 c2 c3 _ hS hZ (hB.below hb)).mono ?_;rintro e w1 ⟨he,hb1⟩;subst he;have hb2:=hb.trans (hb1.mono hb.size);rw[hv];clear x0 x1 x2 x3 f3;go_wp2;go_ret;exact⟨AR (Al (by omega) HV.out).symm,hb2⟩
   ·have HV:Hid (bkP B 3=true):=hv
    go_wp2_with fail
    refine(Fd B a1 a2 a3 c1 c2 c3 _ hS hZ (hB.below hb)).mono ?_;rintro e w1 ⟨he,hb1⟩;subst he;have hb2:=hb.trans (hb1.mono hb.size);have hbox2:Hid _:=AK hb1 hbox1.out hNlt;rw[hv];clear x0 x1 x2 x3 f3;go_wp2
    go_roundw
    case rel=>exact⟨3+1,by omega,by go_num,hb2,hbox2,Ax hall.out HV.out⟩
    case measure=>simp[intOf]
  by_cases h4:k=4
  ·subst h4
   have f4:=AJ hfn.out 4 rfl;cases hv:(BH (BD B) B.cps.length)
   ·have HV:Hid (bkP B 4=false):=hv
    go_wp2_with fail
    refine(Fc B a1 a2 a3 c1 c2 c3 _ hS hZ (KV (hall.out 2 (by omega))) (hB.below hb)).mono ?_;rintro e w1 ⟨he,hb1⟩;subst he;have hb2:=hb.trans (hb1.mono hb.size);rw[hv];clear x0 x1 x2 x3 f4;go_wp2;go_ret;exact⟨AR (Al (by omega) HV.out).symm,hb2⟩
   ·have HV:Hid (bkP B 4=true):=hv
    go_wp2_with fail
    refine(Fc B a1 a2 a3 c1 c2 c3 _ hS hZ (KV (hall.out 2 (by omega))) (hB.below hb)).mono ?_;rintro e w1 ⟨he,hb1⟩;subst he;have hb2:=hb.trans (hb1.mono hb.size);have hbox2:Hid _:=AK hb1 hbox1.out hNlt;rw[hv];clear x0 x1 x2 x3 f4;go_wp2
    go_roundw
    case rel=>exact⟨4+1,by omega,by go_num,hb2,hbox2,Ax hall.out HV.out⟩
    case measure=>simp[intOf]
  ·have h5:k=5:=by omega
   subst h5;clear x0 x1 x2 x3;go_wp2;go_ret;exact⟨AR (B6 hall.out).symm,hb⟩
theorem EM(B:Bk)(a1 a2 a3:Option Addr)(c1 c2 c3:Nat)(w:World)(hS:B.small)(hZ:B.sized)(hB:BkAt w a1 a2 a3 B):
  Calls Tryz.prog 9 #[.agg #[.int .i64 B.now,.slice a1 B.svcs.length c1,.slice a2 B.cps.length c2,.slice a3 B.bts.length c3]] w λe w'=>e=.returned (.bool (AX B))/\Below w.heap.size w w':=by
 obtain⟨t0,t1,t2⟩:=B0 w (.cells #[.int .i64 B.now,.slice a1 B.svcs.length c1,.slice a2 B.cps.length c2,.slice a3 B.bts.length c3] 27) (.cells #[.func (.func 23) #[] #[],.func (.func 24) #[] #[],.func (.func 25) #[] #[],.func (.func 26) #[] #[],.func (.func 27) #[] #[]] 37);have hb0:Below w.heap.size w ((w.alloc (.cells #[.int .i64 B.now,.slice a1 B.svcs.length c1,.slice a2 B.cps.length c2,.slice a3 B.bts.length c3] 27)).alloc (.cells #[.func (.func 23) #[] #[],.func (.func 24) #[] #[],.func (.func 25) #[] #[],.func (.func 26) #[] #[],.func (.func 27) #[] #[]] 37)):=((Below.refl _ _).alloc (AG _) _).alloc (by simp) _;have T1:Hid _:=t1;clear t0 t1 t2;go_enter Tryz.func9,Tryz.ntmps9
 go_wp2_with fail
 refine(K7 B a1 a2 a3 c1 c2 c3 (w.heap.size+1) _ hS hZ (hB.below hb0) T1.out).mono ?_;rintro e w1 ⟨rfl,hb1⟩;rw[bkP_all];go_wp2;go_ret;exact⟨rfl,hb0.trans (hb1.mono hb0.size)⟩
end Go.Proofs.YtbceafpodamnfaaGreat
