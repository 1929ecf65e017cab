import Derived.Test.YtbceafpodamnfaaH01
set_option linter.all false
set_option maxHeartbeats 8000000
namespace Go.Proofs.Ytbceafpodamnfaa
attribute [local simp] svV cpV zbV czV aaV ctZ ad bkV
attribute [local go_sem] svV cpV zbV czV aaV ctZ ad bkV
section
open Go.RowKit Go.Sort
def isC(sv:ByteArray)(num:Int)(c:Cp):Bool:=c.service.toList==sv.toList&&c.number==num
def Jl(l:List Cp)(sv:ByteArray)(num:Int):Int:=Ek (isC sv num) l
theorem C0(B:Bk)(sv:ByteArray)(num:Int)(a1 a2 a3:Option Addr)(c1 c2 c3:Nat)(w:World)(hS:B.small)(hB:SlC w a2 B.cps):
  Calls Try.prog 53 #[.agg (bkV B a1 c1 a2 c2 a3 c3),.string sv,.int .i64 num] w λe w'=>e=.returned (.int .i64 (Jl B.cps sv num))/\Below w.heap.size w w':=by
 obtain⟨hl1,hl2,hl3⟩:=hS;go_enter Try.func53,Try.ntmps53;go_wp2
 go_loop [7] (λi=>∃k:Nat,k<=B.cps.length/\i=.int .i64 k/\Hid (∀i,i<k->∀s,B.cps[i]?=some s->isC sv num s=false)) (λi=>B.cps.length - (intOf i).toNat)
 case atStart=>exact⟨0,by omega,rfl,λi hi=>absurd hi (by omega)⟩
 case round=>
  obtain⟨k,hk,rfl,hno⟩:=hrel
  by_cases hlt:k<B.cps.length
  ·have hne:B.cps≠[]:=by intro h;rw[h]at hlt;simp at hlt
   obtain⟨b,off,rfl,hbs,hat⟩:=hB hne;obtain⟨s,hsk⟩:∃s,B.cps[k]?=some s:=⟨B.cps[k],by simp[hlt]⟩;have HSK:Hid (B.cps[k]?=some s):=hsk;have hc:=hat k s hsk;unfold CpAt at hc;have hc0:=hc.1;have hc1:=hc.2.1;clear hat hc hsk hne;cases hq:(s.service.toList==sv.toList)
   ·have HN:Hid (isC sv num s=false):=by unfold Hid isC;rw[hq];rfl
    go_wp2;go_round
    case rel=>
     refine⟨k+1,by omega,by go_num,λi hi t ht=>?_⟩;rcases Nat.lt_or_ge i k with h'|h'
     ·exact hno.out i h' t ht
     ·have e:i=k:=by omega
      subst e;rw[HSK.out]at ht;cases ht;exact HN.out
    case measure=>simp[intOf];omega
   cases hq2:(s.number==num)
   ·have HN:Hid (isC sv num s=false):=by unfold Hid isC;rw[hq,hq2];rfl
    go_wp2;go_round
    case rel=>
     refine⟨k+1,by omega,by go_num,λi hi t ht=>?_⟩;rcases Nat.lt_or_ge i k with h'|h'
     ·exact hno.out i h' t ht
     ·have e:i=k:=by omega
      subst e;rw[HSK.out]at ht;cases ht;exact HN.out
    case measure=>simp[intOf];omega
   ·have HN:Hid (isC sv num s=true):=by unfold Hid isC;rw[hq,hq2];rfl
    go_wp2;go_ret;exact⟨D8 (Fn HSK.out HN.out hno.out).symm,AO _ _⟩
  ·go_wp2
   go_ret;exact⟨D8 (Fm λi s hs=>hno.out i (by have:=(AC hs).1;omega) s hs).symm,AO _ _⟩
end
section
open Go.RowKit
structure Cnt where
 live:Int
 ready:Int
 old:Int
 failed:Int
 ending:Int
abbrev ctV (N:Cnt):Array Value:=#[.int .i64 N.live,.int .i64 N.ready,.int .i64 N.old,.int .i64 N.failed,.int .i64 N.ending]
attribute [local simp] ctV
attribute [local go_sem] ctV
def Cnt.none:Cnt:=⟨0,0,0,0,0⟩
def Et(b:Bool)(n:Int):Int:=if b then n+1 else n
def CF(img:Int)(c:Cp)(n:Cnt):Cnt:=
 if c.ending then {n with ending:=n.ending+1}
 else⟨n.live+1,Et (c.state==3) n.ready,Et (c.image !=img) n.old,Et (c.state==4) n.failed,n.ending⟩
def Bf(img:Int)(sv:ByteArray)(c:Cp)(n:Cnt):Cnt:=if c.service.toList==sv.toList then CF img c n else n
def Cq(img:Int)(sv:ByteArray)(l:List Cp)(k:Nat):Cnt:=(l.take k).foldl (λn c=>Bf img sv c n) Cnt.none
theorem NU(img:Int)(sv:ByteArray)(l:List Cp)(k:Nat)(c:Cp)(h:l[k]?=some c):Cq img sv l (k+1)=Bf img sv c (Cq img sv l k):=by
 obtain⟨hk,e⟩:=AC h;unfold Cq;rw[List.take_succ_eq_append_getElem hk,List.foldl_append,e];rfl
def Cnt.upTo(n:Cnt)(k:Nat):Prop:=0<=n.live/\n.live<=k/\0<=n.ready/\n.ready<=k/\0<=n.old/\n.old<=k/\0<=n.failed/\n.failed<=k/\0<=n.ending/\n.ending<=k
theorem Ia(img:Int)(sv:ByteArray)(c:Cp)(n:Cnt)(k:Nat)(h:n.upTo k):(Bf img sv c n).upTo (k+1):=by
 unfold Cnt.upTo at *;unfold Bf CF Et;split
 ·split
  ·dsimp only;omega
  ·dsimp only;repeat' split
   all_goals omega
 ·omega
theorem LE(img:Int)(sv:ByteArray):∀(l:List Cp) (n:Cnt) (k:Nat),n.upTo k->(l.foldl (λn c=>Bf img sv c n) n).upTo (k+l.length)
 |[],n,k,h=>h
 |c::l,n,k,h=>by
  have:=LE img sv l (Bf img sv c n) (k+1) (Ia img sv c n k h);rw[List.foldl_cons,List.length_cons,Nat.add_comm l.length 1,<-Nat.add_assoc];exact this
theorem Ep(img:Int)(sv:ByteArray)(l:List Cp)(k:Nat)(hk:k<=l.length):(Cq img sv l k).upTo k:=by
 have:=LE img sv (l.take k) Cnt.none 0 (by unfold Cnt.upTo Cnt.none;dsimp only;omega);rw[List.length_take,Nat.zero_add,Nat.min_eq_left hk]at this;exact this
def D6(B:Bk)(sv:ByteArray):Cnt:=match Bz B sv with|none=>Cnt.none|some s=>Cq s.image sv B.cps B.cps.length
end
section
open Go.RowKit Go.Sort
attribute [local simp] ctV
attribute [local go_sem] ctV
def Gc(B:Bk)(s:Svc)(sv:ByteArray)(c:Cp):Bool:=!c.ending&&(c.state !=3||(s.gone||decide (s.want - s.down<=(Cq s.image sv B.cps B.cps.length).ready - 1)))
theorem Gi(B:Bk)(sv:ByteArray)(num:Int)(a1 a2 a3:Option Addr)(c1 c2 c3:Nat)(w:World)(hS:B.small)(hB:BkAt w a1 a2 a3 B)(hf:B.cps.find? (isC sv num)=none):
  Calls Try.prog 27 #[.agg (bkV B a1 c1 a2 c2 a3 c3),.string sv,.int .i64 num] w λe w'=>e=.returned (.bool false)/\Below w.heap.size w w':=by
 have HIDX:Hid (Jl B.cps sv num= -1):=CE hf;clear hf;have hb0:=AO w (.cells (bkV B a1 c1 a2 c2 a3 c3) 27);go_enter Try.func27,Try.ntmps27
 go_wp2_with fail
 refine(C0 B sv num a1 a2 a3 c1 c2 c3 _ hS (hB.2.1.below hb0)).mono ?_;rintro e w1 ⟨rfl,hb1⟩;rw[HIDX.out];go_wp2;go_ret;exact⟨rfl,hb0.trans (hb1.mono hb0.size)⟩
theorem C5{w w2:World}{d:Nat}{os:Array Obj}(h:w2=grow (redrawn w d) os):Below w.heap.size w w2:=by rw[h];exact below_regrown _ _ _
theorem Ak{w:World}{k b:Nat}{x:Option Obj}(h:w.heap[k]?=x)(o:Nat)(v:Value)(hne:k≠b):(w.setCell ⟨b,o,none⟩ v).heap[k]?=x:=(Below.heap_setCell _ _ _ _ hne).trans h
theorem size_alloc'(w:World)(o:Obj):(w.alloc o).heap.size=w.heap.size+1:=by show(w.heap.push _).size=_;simp
theorem Lb(B:Bk)(sv:ByteArray)(a1 a2 a3:Option Addr)(c1 c2 c3:Nat)(w:World)(hS:B.small)(hB:BkAt w a1 a2 a3 B)(hf:Bz B sv=none):
  Calls Try.prog 28 #[.agg (bkV B a1 c1 a2 c2 a3 c3),.string sv] w λe w'=>e=.returned (.agg ctZ)/\Below w.heap.size w w':=by
 have hidx:Gd B.svcs sv= -1:=CE hf;have HIDX:Hid _:=hidx;clear hf hidx;obtain⟨t0,t1,t2,t3⟩:=CR w (.cells (bkV B a1 c1 a2 c2 a3 c3) 27) (.cells ctZ 32) (.cells ctZ 32);have T0:Hid _:=t0;have T1:Hid _:=t1;have T2:Hid _:=t2;have T3:Hid _:=t3;clear t0 t1 t2 t3;have hb0:Below w.heap.size w (((w.alloc (.cells (bkV B a1 c1 a2 c2 a3 c3) 27)).alloc (.cells ctZ 32)).alloc (.cells ctZ 32)):=(((Below.refl _ _).alloc (AG _) _).alloc (by simp) _).alloc (by simp;omega) _;have hS':=hS;obtain⟨hl1,hl2,hl3⟩:=hS';go_enter Try.func28,Try.ntmps28
 go_wp2_with fail
 refine(B9 B sv a1 a2 a3 c1 c2 c3 _ hS (hB.1.below hb0)).mono ?_;rintro e w1 ⟨rfl,hb1⟩;rw[HIDX.out];have hbb1:=hb0.trans (hb1.mono hb0.size);rw[T3.out]at hb1;have U0:Hid _:=AL hb1 T0.out (by omega);have U1:Hid _:=AL hb1 T1.out (by omega);have U2:Hid _:=AL hb1 T2.out (by omega);have e2:=AK U0.out 2 rfl;have o0:=AK U2.out 0 rfl;have o1:=AK U2.out 1 rfl;have o2:=AK U2.out 2 rfl;have o3:=AK U2.out 3 rfl;have o4:=AK U2.out 4 rfl;have p0:=AK U1.out 0 rfl;have p1:=AK U1.out 1 rfl;have p2:=AK U1.out 2 rfl;have p3:=AK U1.out 3 rfl;have p4:=AK U1.out 4 rfl;have f0:=AZ U1.out 0;have f1:=AZ U1.out 1;have f2:=AZ U1.out 2;have f3:=AZ U1.out 3;have f4:=AZ U1.out 4;clear hb1 hB;go_wp2
 go_loop [7] (λi=>i=.int .i64 0) (λ_=>0)
 case atStart=>rfl
 case round=>
  subst hrel
  by_cases hz:(0:Int)<(B.cps.length:Int)
  all_goals
   go_wp2;refine bodyPost_ret (v:=.agg ctZ) (by simp[results,Try.results28,go_sem,p0,p1,p2,p3,p4]) rfl ⟨rfl,?_⟩;exact((((hbb1.setCell (by simp) _).setCell (by simp) _).setCell (by simp) _).setCell (by simp) _).setCell (by simp) _
theorem La(B:Bk)(sv:ByteArray)(s:Svc)(a1 a2 a3:Option Addr)(c1 c2 c3:Nat)(w:World)(hS:B.small)(hB:BkAt w a1 a2 a3 B)(hf:Bz B sv=some s)(N:Cnt)(hN:Hid (N=Cq s.image sv B.cps B.cps.length)):
  Calls Try.prog 28 #[.agg (bkV B a1 c1 a2 c2 a3 c3),.string sv] w λe w'=>e=.returned (.agg (ctV N))/\Below w.heap.size w w':=by
 obtain⟨ix,hix,hidx⟩:∃i:Nat,B.svcs[i]?=some s/\Gd B.svcs sv=(i:Int):=Bo hf;have HIDX:Hid _:=hidx;have hixlt:ix<B.svcs.length:=(AC hix).1;have hne0:B.svcs≠[]:=by intro h;rw[h]at hixlt;simp at hixlt
 obtain⟨bS,offS,eS,hbsS,hatS⟩:=hB.1 hne0;subst eS;have hsx:=hatS ix s hix;clear hf hidx hix hatS hne0;obtain⟨t0,t1,t2,t3⟩:=CR w (.cells (bkV B (some ⟨bS,offS,none⟩) c1 a2 c2 a3 c3) 27) (.cells ctZ 32) (.cells ctZ 32);have T0:Hid _:=t0;have T1:Hid _:=t1;have T2:Hid _:=t2;have T3:Hid _:=t3;clear t0 t1 t2 t3;have hb0:Below w.heap.size w (((w.alloc (.cells (bkV B (some ⟨bS,offS,none⟩) c1 a2 c2 a3 c3) 27)).alloc (.cells ctZ 32)).alloc (.cells ctZ 32)):=(((Below.refl _ _).alloc (AG _) _).alloc (by simp) _).alloc (by simp;omega) _;have hS':=hS;obtain⟨hl1,hl2,hl3⟩:=hS';go_enter Try.func28,Try.ntmps28
 go_wp2_with fail
 refine(B9 B sv _ a2 a3 c1 c2 c3 _ hS (hB.1.below hb0)).mono ?_;rintro e w1 ⟨rfl,hb1⟩;rw[HIDX.out];have hbb1:=hb0.trans (hb1.mono hb0.size);rw[T3.out]at hb1;have U0:Hid _:=AL hb1 T0.out (by omega);have U1:Hid _:=AL hb1 T1.out (by omega);have U2:Hid _:=AL hb1 T2.out (by omega);clear hb1 hb0 T0 T1 T2 T3 HIDX;go_wp2
 go_loopw [7] (λiv wr=>∃(k:Nat) (n:Cnt),k<=B.cps.length/\iv=.int .i64 k/\Below w.heap.size w wr/\Hid (Bl wr (w.heap.size) (bkV B (some ⟨bS,offS,none⟩) c1 a2 c2 a3 c3) 27)/\Hid (Bl wr (w.heap.size+1) ctZ 32)/\Hid (Bl wr ((w.heap.size+1+1)) (ctV n) 32)/\Hid (n=Cq s.image sv B.cps k)) (λi _=>B.cps.length - (intOf i).toNat)
 case atStart=>exact⟨0,Cnt.none,by omega,rfl,hbb1,U0,U1,U2,rfl⟩
 case round=>
  clear hbb1 U0 U1 U2;obtain⟨k,n,hk,rfl,hb,hbox,hres,hout,HN⟩:=hrel;have hMlt:(w.heap.size+1+1)<wr.heap.size:=(AB hout.out).1;have hMlt1:w.heap.size+1<wr.heap.size:=by omega
  have hMlt0:w.heap.size<wr.heap.size:=by omega
  have e2:=AK hbox.out 2 rfl;have o0:=AK hout.out 0 rfl;have o1:=AK hout.out 1 rfl;have o2:=AK hout.out 2 rfl;have o3:=AK hout.out 3 rfl;have o4:=AK hout.out 4 rfl
  by_cases hlt:k<B.cps.length
  ·have hne:B.cps≠[]:=by intro h;rw[h]at hlt;simp at hlt
   obtain⟨b,off,ea,hbs,hat⟩:=hB.2.1 hne;subst ea;obtain⟨c,hsk⟩:∃c,B.cps[k]?=some c:=⟨B.cps[k],by simp[hlt]⟩;have HST:Hid (Cq s.image sv B.cps (k+1)=Bf s.image sv c n):=by unfold Hid;rw[NU _ _ _ _ _ hsk,HN.out]
   have hup:n.upTo k:=by rw[HN.out];exact Ep _ _ _ _ hk
   unfold Cnt.upTo at hup;obtain⟨u0,u1,u2,u3,u4,u5,u6,u7,u8,u9⟩:=hup;have hcs:=(hat k c hsk).below hb hbs;unfold CpAt at hcs;obtain⟨x0,x1,x2,x3,x4,x5,x6⟩:=hcs;have f0:=AZ hout.out 0;have f1:=AZ hout.out 1;have f2:=AZ hout.out 2;have f3:=AZ hout.out 3;have f4:=AZ hout.out 4;have hw1:=AO wr (.cells (cpV c) 35);have hb1:=hb.trans (hw1.mono hb.size);have box1:Hid _:=AL hw1 hbox.out hMlt0;have res1:Hid _:=AL hw1 hres.out hMlt1;have out1:Hid _:=AL hw1 hout.out hMlt;clear hsk hat hne;cases hsame:(c.service.toList==sv.toList)
   ·have HC:Hid (n=Cq s.image sv B.cps (k+1)):=by unfold Hid;rw[HST.out];simp[Bf,hsame]
    go_wp2
    go_roundw
    case rel=>exact⟨k+1,n,by omega,by go_num,hb1,box1,res1,out1,HC⟩
    case measure=>simp[intOf];omega
   cases hend:c.ending
   ·
    cases hst3:(c.state==3)
    ·cases hst4:(c.state==4)
     ·cases himg:(c.image !=s.image)
      ·have HC:Hid ((⟨n.live+1,n.ready,n.old,n.failed,n.ending⟩:Cnt)=Cq s.image sv B.cps (k+1)):=by unfold Hid;rw[HST.out];simp[Bf,CF,Et,hsame,hend,hst3,hst4,himg]
       have hwS:=AO (wr.setCell ⟨(w.heap.size+1+1),0,none⟩ (.int .i64 (n.live+1))) (.cells #[.string c.service,.int .i64 c.number,.int .i64 c.version,.int .i64 c.image,.int .i64 c.state,.bool false,.string c.berth] 35);have hsz:(wr.setCell ⟨(w.heap.size+1+1),0,none⟩ (.int .i64 (n.live+1))).heap.size=wr.heap.size:=by simp only[BQ]
       have outS:Hid _:=AL hwS (BM (hout.out) 0 (.int .i64 (n.live+1))) (by rw[hsz];omega);have boxS:Hid _:=AL hwS (Ak (b:=(w.heap.size+1+1)) (hbox.out) 0 (.int .i64 (n.live+1)) (by omega)) (by rw[hsz];omega);have resS:Hid _:=AL hwS (Ak (b:=(w.heap.size+1+1)) (hres.out) 0 (.int .i64 (n.live+1)) (by omega)) (by rw[hsz];omega);have hbS:=((hb.setCell (p:=⟨(w.heap.size+1+1),0,none⟩) (by show _<=(w.heap.size+1+1);omega) (.int .i64 (n.live+1)))).alloc (by rw[hsz];exact hb.size) (.cells #[.string c.service,.int .i64 c.number,.int .i64 c.version,.int .i64 c.image,.int .i64 c.state,.bool false,.string c.berth] 35);have HSZ:Hid (((wr.setCell ⟨(w.heap.size+1+1),0,none⟩ (.int .i64 (n.live+1))).alloc (.cells #[.string c.service,.int .i64 c.number,.int .i64 c.version,.int .i64 c.image,.int .i64 c.state,.bool false,.string c.berth] 35)).heap.size=wr.heap.size+1):=by unfold Hid;rw[size_alloc',hsz]
       have cbxS:Hid _:=heap_alloc_new (wr.setCell ⟨(w.heap.size+1+1),0,none⟩ (.int .i64 (n.live+1))) (.cells #[.string c.service,.int .i64 c.number,.int .i64 c.version,.int .i64 c.image,.int .i64 c.state,.bool false,.string c.berth] 35);rw[hsz]at cbxS;have svS:=(((hsx.below hb hbsS).blk (w':=(wr.setCell ⟨(w.heap.size+1+1),0,none⟩ (.int .i64 (n.live+1)))) (Ak (b:=(w.heap.size+1+1)) (rfl) 0 (.int .i64 (n.live+1)) (by omega))).below hwS (by rw[hsz];omega));obtain⟨z0,z1,z2,z3,z4,z5,z6,z7,z8,z9,z10,z11,z12⟩:=svS.grown;clear z0 z1 z2 z4 z5 z6 z7 z8 z9 z10 z11 z12 svS hsz;have gc3:=Al cbxS.out 3 rfl;have gb1:=Al boxS.out 1 rfl;go_wp2;refine wp_region_quiet_below (by kernel_rfl) (by kernel_rfl) ?_
       repeat (first|go_big_quiet_step (fail)|quiet_step (fail))
       refine wpQuiet_nil ?_;intro w2 hw';obtain⟨⟨dq,osq⟩,hw''⟩:=hw';have hb2:=C5 hw'';clear hw'';rw[HSZ.out]at hb2;have out2:Hid _:=AL hb2 outS.out (by omega);have box2:Hid _:=AL hb2 boxS.out (by omega);have res2:Hid _:=AL hb2 resS.out (by omega);have hbF:=hbS.trans (hb2.mono (by omega));clear gc3 gb1 z3 x0 x1 x2 x3 x4 x5 x6 o0 o1 o2 o3 o4 f0 f1 f2 f3 f4;have q2:=AK out2.out 2 rfl;have qf:=AZ out2.out 2;go_wp2
       go_roundw
       case rel=>exact⟨k+1,⟨n.live+1,n.ready,n.old,n.failed,n.ending⟩,by omega,by go_num,hbF,box2,res2,out2,HC⟩
       case measure=>simp[intOf];omega
      ·have HC:Hid ((⟨n.live+1,n.ready,n.old+1,n.failed,n.ending⟩:Cnt)=Cq s.image sv B.cps (k+1)):=by unfold Hid;rw[HST.out];simp[Bf,CF,Et,hsame,hend,hst3,hst4,himg]
       have hwS:=AO (wr.setCell ⟨(w.heap.size+1+1),0,none⟩ (.int .i64 (n.live+1))) (.cells #[.string c.service,.int .i64 c.number,.int .i64 c.version,.int .i64 c.image,.int .i64 c.state,.bool false,.string c.berth] 35);have hsz:(wr.setCell ⟨(w.heap.size+1+1),0,none⟩ (.int .i64 (n.live+1))).heap.size=wr.heap.size:=by simp only[BQ]
       have outS:Hid _:=AL hwS (BM (hout.out) 0 (.int .i64 (n.live+1))) (by rw[hsz];omega);have boxS:Hid _:=AL hwS (Ak (b:=(w.heap.size+1+1)) (hbox.out) 0 (.int .i64 (n.live+1)) (by omega)) (by rw[hsz];omega);have resS:Hid _:=AL hwS (Ak (b:=(w.heap.size+1+1)) (hres.out) 0 (.int .i64 (n.live+1)) (by omega)) (by rw[hsz];omega);have hbS:=((hb.setCell (p:=⟨(w.heap.size+1+1),0,none⟩) (by show _<=(w.heap.size+1+1);omega) (.int .i64 (n.live+1)))).alloc (by rw[hsz];exact hb.size) (.cells #[.string c.service,.int .i64 c.number,.int .i64 c.version,.int .i64 c.image,.int .i64 c.state,.bool false,.string c.berth] 35);have HSZ:Hid (((wr.setCell ⟨(w.heap.size+1+1),0,none⟩ (.int .i64 (n.live+1))).alloc (.cells #[.string c.service,.int .i64 c.number,.int .i64 c.version,.int .i64 c.image,.int .i64 c.state,.bool false,.string c.berth] 35)).heap.size=wr.heap.size+1):=by unfold Hid;rw[size_alloc',hsz]
       have cbxS:Hid _:=heap_alloc_new (wr.setCell ⟨(w.heap.size+1+1),0,none⟩ (.int .i64 (n.live+1))) (.cells #[.string c.service,.int .i64 c.number,.int .i64 c.version,.int .i64 c.image,.int .i64 c.state,.bool false,.string c.berth] 35);rw[hsz]at cbxS;have svS:=(((hsx.below hb hbsS).blk (w':=(wr.setCell ⟨(w.heap.size+1+1),0,none⟩ (.int .i64 (n.live+1)))) (Ak (b:=(w.heap.size+1+1)) (rfl) 0 (.int .i64 (n.live+1)) (by omega))).below hwS (by rw[hsz];omega));obtain⟨z0,z1,z2,z3,z4,z5,z6,z7,z8,z9,z10,z11,z12⟩:=svS.grown;clear z0 z1 z2 z4 z5 z6 z7 z8 z9 z10 z11 z12 svS hsz;have gc3:=Al cbxS.out 3 rfl;have gb1:=Al boxS.out 1 rfl;go_wp2;refine wp_region_quiet_below (by kernel_rfl) (by kernel_rfl) ?_
       repeat (first|go_big_quiet_step (fail)|quiet_step (fail))
       refine wpQuiet_nil ?_;intro w2 hw';obtain⟨⟨dq,osq⟩,hw''⟩:=hw';have hb2:=C5 hw'';clear hw'';rw[HSZ.out]at hb2;have out2:Hid _:=AL hb2 outS.out (by omega);have box2:Hid _:=AL hb2 boxS.out (by omega);have res2:Hid _:=AL hb2 resS.out (by omega);have hbF:=hbS.trans (hb2.mono (by omega));clear gc3 gb1 z3 x0 x1 x2 x3 x4 x5 x6 o0 o1 o2 o3 o4 f0 f1 f2 f3 f4;have q2:=AK out2.out 2 rfl;have qf:=AZ out2.out 2;have outF:Hid _:=BM out2.out 2 (.int .i64 (n.old+1));go_wp2
       go_roundw
       case rel=>exact⟨k+1,⟨n.live+1,n.ready,n.old+1,n.failed,n.ending⟩,by omega,by go_num,hbF.setCell (by simp;omega) _,Ak box2.out _ _ (by omega),Ak res2.out _ _ (by omega),outF,HC⟩
       case measure=>simp[intOf];omega
     ·cases himg:(c.image !=s.image)
      ·have HC:Hid ((⟨n.live+1,n.ready,n.old,n.failed+1,n.ending⟩:Cnt)=Cq s.image sv B.cps (k+1)):=by unfold Hid;rw[HST.out];simp[Bf,CF,Et,hsame,hend,hst3,hst4,himg]
       have hwS:=AO ((wr.setCell ⟨(w.heap.size+1+1),0,none⟩ (.int .i64 (n.live+1))).setCell ⟨(w.heap.size+1+1),3,none⟩ (.int .i64 (n.failed+1))) (.cells #[.string c.service,.int .i64 c.number,.int .i64 c.version,.int .i64 c.image,.int .i64 c.state,.bool false,.string c.berth] 35);have hsz:((wr.setCell ⟨(w.heap.size+1+1),0,none⟩ (.int .i64 (n.live+1))).setCell ⟨(w.heap.size+1+1),3,none⟩ (.int .i64 (n.failed+1))).heap.size=wr.heap.size:=by simp only[BQ]
       have outS:Hid _:=AL hwS (BM (BM (hout.out) 0 (.int .i64 (n.live+1))) 3 (.int .i64 (n.failed+1))) (by rw[hsz];omega);have boxS:Hid _:=AL hwS (Ak (b:=(w.heap.size+1+1)) (Ak (b:=(w.heap.size+1+1)) (hbox.out) 0 (.int .i64 (n.live+1)) (by omega)) 3 (.int .i64 (n.failed+1)) (by omega)) (by rw[hsz];omega);have resS:Hid _:=AL hwS (Ak (b:=(w.heap.size+1+1)) (Ak (b:=(w.heap.size+1+1)) (hres.out) 0 (.int .i64 (n.live+1)) (by omega)) 3 (.int .i64 (n.failed+1)) (by omega)) (by rw[hsz];omega);have hbS:=(((hb.setCell (p:=⟨(w.heap.size+1+1),0,none⟩) (by show _<=(w.heap.size+1+1);omega) (.int .i64 (n.live+1))).setCell (p:=⟨(w.heap.size+1+1),3,none⟩) (by show _<=(w.heap.size+1+1);omega) (.int .i64 (n.failed+1)))).alloc (by rw[hsz];exact hb.size) (.cells #[.string c.service,.int .i64 c.number,.int .i64 c.version,.int .i64 c.image,.int .i64 c.state,.bool false,.string c.berth] 35);have HSZ:Hid ((((wr.setCell ⟨(w.heap.size+1+1),0,none⟩ (.int .i64 (n.live+1))).setCell ⟨(w.heap.size+1+1),3,none⟩ (.int .i64 (n.failed+1))).alloc (.cells #[.string c.service,.int .i64 c.number,.int .i64 c.version,.int .i64 c.image,.int .i64 c.state,.bool false,.string c.berth] 35)).heap.size=wr.heap.size+1):=by unfold Hid;rw[size_alloc',hsz]
       have cbxS:Hid _:=heap_alloc_new ((wr.setCell ⟨(w.heap.size+1+1),0,none⟩ (.int .i64 (n.live+1))).setCell ⟨(w.heap.size+1+1),3,none⟩ (.int .i64 (n.failed+1))) (.cells #[.string c.service,.int .i64 c.number,.int .i64 c.version,.int .i64 c.image,.int .i64 c.state,.bool false,.string c.berth] 35);rw[hsz]at cbxS;have svS:=(((hsx.below hb hbsS).blk (w':=((wr.setCell ⟨(w.heap.size+1+1),0,none⟩ (.int .i64 (n.live+1))).setCell ⟨(w.heap.size+1+1),3,none⟩ (.int .i64 (n.failed+1)))) (Ak (b:=(w.heap.size+1+1)) (Ak (b:=(w.heap.size+1+1)) (rfl) 0 (.int .i64 (n.live+1)) (by omega)) 3 (.int .i64 (n.failed+1)) (by omega))).below hwS (by rw[hsz];omega));obtain⟨z0,z1,z2,z3,z4,z5,z6,z7,z8,z9,z10,z11,z12⟩:=svS.grown;clear z0 z1 z2 z4 z5 z6 z7 z8 z9 z10 z11 z12 svS hsz;have gc3:=Al cbxS.out 3 rfl;have gb1:=Al boxS.out 1 rfl;go_wp2;refine wp_region_quiet_below (by kernel_rfl) (by kernel_rfl) ?_
       repeat (first|go_big_quiet_step (fail)|quiet_step (fail))
       refine wpQuiet_nil ?_;intro w2 hw';obtain⟨⟨dq,osq⟩,hw''⟩:=hw';have hb2:=C5 hw'';clear hw'';rw[HSZ.out]at hb2;have out2:Hid _:=AL hb2 outS.out (by omega);have box2:Hid _:=AL hb2 boxS.out (by omega);have res2:Hid _:=AL hb2 resS.out (by omega);have hbF:=hbS.trans (hb2.mono (by omega));clear gc3 gb1 z3 x0 x1 x2 x3 x4 x5 x6 o0 o1 o2 o3 o4 f0 f1 f2 f3 f4;have q2:=AK out2.out 2 rfl;have qf:=AZ out2.out 2;go_wp2
       go_roundw
       case rel=>exact⟨k+1,⟨n.live+1,n.ready,n.old,n.failed+1,n.ending⟩,by omega,by go_num,hbF,box2,res2,out2,HC⟩
       case measure=>simp[intOf];omega
      ·have HC:Hid ((⟨n.live+1,n.ready,n.old+1,n.failed+1,n.ending⟩:Cnt)=Cq s.image sv B.cps (k+1)):=by unfold Hid;rw[HST.out];simp[Bf,CF,Et,hsame,hend,hst3,hst4,himg]
       have hwS:=AO ((wr.setCell ⟨(w.heap.size+1+1),0,none⟩ (.int .i64 (n.live+1))).setCell ⟨(w.heap.size+1+1),3,none⟩ (.int .i64 (n.failed+1))) (.cells #[.string c.service,.int .i64 c.number,.int .i64 c.version,.int .i64 c.image,.int .i64 c.state,.bool false,.string c.berth] 35);have hsz:((wr.setCell ⟨(w.heap.size+1+1),0,none⟩ (.int .i64 (n.live+1))).setCell ⟨(w.heap.size+1+1),3,none⟩ (.int .i64 (n.failed+1))).heap.size=wr.heap.size:=by simp only[BQ]
       have outS:Hid _:=AL hwS (BM (BM (hout.out) 0 (.int .i64 (n.live+1))) 3 (.int .i64 (n.failed+1))) (by rw[hsz];omega);have boxS:Hid _:=AL hwS (Ak (b:=(w.heap.size+1+1)) (Ak (b:=(w.heap.size+1+1)) (hbox.out) 0 (.int .i64 (n.live+1)) (by omega)) 3 (.int .i64 (n.failed+1)) (by omega)) (by rw[hsz];omega);have resS:Hid _:=AL hwS (Ak (b:=(w.heap.size+1+1)) (Ak (b:=(w.heap.size+1+1)) (hres.out) 0 (.int .i64 (n.live+1)) (by omega)) 3 (.int .i64 (n.failed+1)) (by omega)) (by rw[hsz];omega);have hbS:=(((hb.setCell (p:=⟨(w.heap.size+1+1),0,none⟩) (by show _<=(w.heap.size+1+1);omega) (.int .i64 (n.live+1))).setCell (p:=⟨(w.heap.size+1+1),3,none⟩) (by show _<=(w.heap.size+1+1);omega) (.int .i64 (n.failed+1)))).alloc (by rw[hsz];exact hb.size) (.cells #[.string c.service,.int .i64 c.number,.int .i64 c.version,.int .i64 c.image,.int .i64 c.state,.bool false,.string c.berth] 35);have HSZ:Hid ((((wr.setCell ⟨(w.heap.size+1+1),0,none⟩ (.int .i64 (n.live+1))).setCell ⟨(w.heap.size+1+1),3,none⟩ (.int .i64 (n.failed+1))).alloc (.cells #[.string c.service,.int .i64 c.number,.int .i64 c.version,.int .i64 c.image,.int .i64 c.state,.bool false,.string c.berth] 35)).heap.size=wr.heap.size+1):=by unfold Hid;rw[size_alloc',hsz]
       have cbxS:Hid _:=heap_alloc_new ((wr.setCell ⟨(w.heap.size+1+1),0,none⟩ (.int .i64 (n.live+1))).setCell ⟨(w.heap.size+1+1),3,none⟩ (.int .i64 (n.failed+1))) (.cells #[.string c.service,.int .i64 c.number,.int .i64 c.version,.int .i64 c.image,.int .i64 c.state,.bool false,.string c.berth] 35);rw[hsz]at cbxS;have svS:=(((hsx.below hb hbsS).blk (w':=((wr.setCell ⟨(w.heap.size+1+1),0,none⟩ (.int .i64 (n.live+1))).setCell ⟨(w.heap.size+1+1),3,none⟩ (.int .i64 (n.failed+1)))) (Ak (b:=(w.heap.size+1+1)) (Ak (b:=(w.heap.size+1+1)) (rfl) 0 (.int .i64 (n.live+1)) (by omega)) 3 (.int .i64 (n.failed+1)) (by omega))).below hwS (by rw[hsz];omega));obtain⟨z0,z1,z2,z3,z4,z5,z6,z7,z8,z9,z10,z11,z12⟩:=svS.grown;clear z0 z1 z2 z4 z5 z6 z7 z8 z9 z10 z11 z12 svS hsz;have gc3:=Al cbxS.out 3 rfl;have gb1:=Al boxS.out 1 rfl;go_wp2;refine wp_region_quiet_below (by kernel_rfl) (by kernel_rfl) ?_
       repeat (first|go_big_quiet_step (fail)|quiet_step (fail))
       refine wpQuiet_nil ?_;intro w2 hw';obtain⟨⟨dq,osq⟩,hw''⟩:=hw';have hb2:=C5 hw'';clear hw'';rw[HSZ.out]at hb2;have out2:Hid _:=AL hb2 outS.out (by omega);have box2:Hid _:=AL hb2 boxS.out (by omega);have res2:Hid _:=AL hb2 resS.out (by omega);have hbF:=hbS.trans (hb2.mono (by omega));clear gc3 gb1 z3 x0 x1 x2 x3 x4 x5 x6 o0 o1 o2 o3 o4 f0 f1 f2 f3 f4;have q2:=AK out2.out 2 rfl;have qf:=AZ out2.out 2;have outF:Hid _:=BM out2.out 2 (.int .i64 (n.old+1));go_wp2
       go_roundw
       case rel=>exact⟨k+1,⟨n.live+1,n.ready,n.old+1,n.failed+1,n.ending⟩,by omega,by go_num,hbF.setCell (by simp;omega) _,Ak box2.out _ _ (by omega),Ak res2.out _ _ (by omega),outF,HC⟩
       case measure=>simp[intOf];omega
    ·have hst4:(c.state==4)=false:=by have h:=eq_of_beq hst3;rw[h];rfl
     cases himg:(c.image !=s.image)
     ·have HC:Hid ((⟨n.live+1,n.ready+1,n.old,n.failed,n.ending⟩:Cnt)=Cq s.image sv B.cps (k+1)):=by unfold Hid;rw[HST.out];simp[Bf,CF,Et,hsame,hend,hst3,hst4,himg]
      have hwS:=AO ((wr.setCell ⟨(w.heap.size+1+1),0,none⟩ (.int .i64 (n.live+1))).setCell ⟨(w.heap.size+1+1),1,none⟩ (.int .i64 (n.ready+1))) (.cells #[.string c.service,.int .i64 c.number,.int .i64 c.version,.int .i64 c.image,.int .i64 c.state,.bool false,.string c.berth] 35);have hsz:((wr.setCell ⟨(w.heap.size+1+1),0,none⟩ (.int .i64 (n.live+1))).setCell ⟨(w.heap.size+1+1),1,none⟩ (.int .i64 (n.ready+1))).heap.size=wr.heap.size:=by simp only[BQ]
      have outS:Hid _:=AL hwS (BM (BM (hout.out) 0 (.int .i64 (n.live+1))) 1 (.int .i64 (n.ready+1))) (by rw[hsz];omega);have boxS:Hid _:=AL hwS (Ak (b:=(w.heap.size+1+1)) (Ak (b:=(w.heap.size+1+1)) (hbox.out) 0 (.int .i64 (n.live+1)) (by omega)) 1 (.int .i64 (n.ready+1)) (by omega)) (by rw[hsz];omega);have resS:Hid _:=AL hwS (Ak (b:=(w.heap.size+1+1)) (Ak (b:=(w.heap.size+1+1)) (hres.out) 0 (.int .i64 (n.live+1)) (by omega)) 1 (.int .i64 (n.ready+1)) (by omega)) (by rw[hsz];omega);have hbS:=(((hb.setCell (p:=⟨(w.heap.size+1+1),0,none⟩) (by show _<=(w.heap.size+1+1);omega) (.int .i64 (n.live+1))).setCell (p:=⟨(w.heap.size+1+1),1,none⟩) (by show _<=(w.heap.size+1+1);omega) (.int .i64 (n.ready+1)))).alloc (by rw[hsz];exact hb.size) (.cells #[.string c.service,.int .i64 c.number,.int .i64 c.version,.int .i64 c.image,.int .i64 c.state,.bool false,.string c.berth] 35);have HSZ:Hid ((((wr.setCell ⟨(w.heap.size+1+1),0,none⟩ (.int .i64 (n.live+1))).setCell ⟨(w.heap.size+1+1),1,none⟩ (.int .i64 (n.ready+1))).alloc (.cells #[.string c.service,.int .i64 c.number,.int .i64 c.version,.int .i64 c.image,.int .i64 c.state,.bool false,.string c.berth] 35)).heap.size=wr.heap.size+1):=by unfold Hid;rw[size_alloc',hsz]
      have cbxS:Hid _:=heap_alloc_new ((wr.setCell ⟨(w.heap.size+1+1),0,none⟩ (.int .i64 (n.live+1))).setCell ⟨(w.heap.size+1+1),1,none⟩ (.int .i64 (n.ready+1))) (.cells #[.string c.service,.int .i64 c.number,.int .i64 c.version,.int .i64 c.image,.int .i64 c.state,.bool false,.string c.berth] 35);rw[hsz]at cbxS;have svS:=(((hsx.below hb hbsS).blk (w':=((wr.setCell ⟨(w.heap.size+1+1),0,none⟩ (.int .i64 (n.live+1))).setCell ⟨(w.heap.size+1+1),1,none⟩ (.int .i64 (n.ready+1)))) (Ak (b:=(w.heap.size+1+1)) (Ak (b:=(w.heap.size+1+1)) (rfl) 0 (.int .i64 (n.live+1)) (by omega)) 1 (.int .i64 (n.ready+1)) (by omega))).below hwS (by rw[hsz];omega));obtain⟨z0,z1,z2,z3,z4,z5,z6,z7,z8,z9,z10,z11,z12⟩:=svS.grown;clear z0 z1 z2 z4 z5 z6 z7 z8 z9 z10 z11 z12 svS hsz;have gc3:=Al cbxS.out 3 rfl;have gb1:=Al boxS.out 1 rfl;go_wp2;refine wp_region_quiet_below (by kernel_rfl) (by kernel_rfl) ?_
      repeat (first|go_big_quiet_step (fail)|quiet_step (fail))
      refine wpQuiet_nil ?_;intro w2 hw';obtain⟨⟨dq,osq⟩,hw''⟩:=hw';have hb2:=C5 hw'';clear hw'';rw[HSZ.out]at hb2;have out2:Hid _:=AL hb2 outS.out (by omega);have box2:Hid _:=AL hb2 boxS.out (by omega);have res2:Hid _:=AL hb2 resS.out (by omega);have hbF:=hbS.trans (hb2.mono (by omega));clear gc3 gb1 z3 x0 x1 x2 x3 x4 x5 x6 o0 o1 o2 o3 o4 f0 f1 f2 f3 f4;have q2:=AK out2.out 2 rfl;have qf:=AZ out2.out 2;go_wp2
      go_roundw
      case rel=>exact⟨k+1,⟨n.live+1,n.ready+1,n.old,n.failed,n.ending⟩,by omega,by go_num,hbF,box2,res2,out2,HC⟩
      case measure=>simp[intOf];omega
     ·have HC:Hid ((⟨n.live+1,n.ready+1,n.old+1,n.failed,n.ending⟩:Cnt)=Cq s.image sv B.cps (k+1)):=by unfold Hid;rw[HST.out];simp[Bf,CF,Et,hsame,hend,hst3,hst4,himg]
      have hwS:=AO ((wr.setCell ⟨(w.heap.size+1+1),0,none⟩ (.int .i64 (n.live+1))).setCell ⟨(w.heap.size+1+1),1,none⟩ (.int .i64 (n.ready+1))) (.cells #[.string c.service,.int .i64 c.number,.int .i64 c.version,.int .i64 c.image,.int .i64 c.state,.bool false,.string c.berth] 35);have hsz:((wr.setCell ⟨(w.heap.size+1+1),0,none⟩ (.int .i64 (n.live+1))).setCell ⟨(w.heap.size+1+1),1,none⟩ (.int .i64 (n.ready+1))).heap.size=wr.heap.size:=by simp only[BQ]
      have outS:Hid _:=AL hwS (BM (BM (hout.out) 0 (.int .i64 (n.live+1))) 1 (.int .i64 (n.ready+1))) (by rw[hsz];omega);have boxS:Hid _:=AL hwS (Ak (b:=(w.heap.size+1+1)) (Ak (b:=(w.heap.size+1+1)) (hbox.out) 0 (.int .i64 (n.live+1)) (by omega)) 1 (.int .i64 (n.ready+1)) (by omega)) (by rw[hsz];omega);have resS:Hid _:=AL hwS (Ak (b:=(w.heap.size+1+1)) (Ak (b:=(w.heap.size+1+1)) (hres.out) 0 (.int .i64 (n.live+1)) (by omega)) 1 (.int .i64 (n.ready+1)) (by omega)) (by rw[hsz];omega);have hbS:=(((hb.setCell (p:=⟨(w.heap.size+1+1),0,none⟩) (by show _<=(w.heap.size+1+1);omega) (.int .i64 (n.live+1))).setCell (p:=⟨(w.heap.size+1+1),1,none⟩) (by show _<=(w.heap.size+1+1);omega) (.int .i64 (n.ready+1)))).alloc (by rw[hsz];exact hb.size) (.cells #[.string c.service,.int .i64 c.number,.int .i64 c.version,.int .i64 c.image,.int .i64 c.state,.bool false,.string c.berth] 35);have HSZ:Hid ((((wr.setCell ⟨(w.heap.size+1+1),0,none⟩ (.int .i64 (n.live+1))).setCell ⟨(w.heap.size+1+1),1,none⟩ (.int .i64 (n.ready+1))).alloc (.cells #[.string c.service,.int .i64 c.number,.int .i64 c.version,.int .i64 c.image,.int .i64 c.state,.bool false,.string c.berth] 35)).heap.size=wr.heap.size+1):=by unfold Hid;rw[size_alloc',hsz]
      have cbxS:Hid _:=heap_alloc_new ((wr.setCell ⟨(w.heap.size+1+1),0,none⟩ (.int .i64 (n.live+1))).setCell ⟨(w.heap.size+1+1),1,none⟩ (.int .i64 (n.ready+1))) (.cells #[.string c.service,.int .i64 c.number,.int .i64 c.version,.int .i64 c.image,.int .i64 c.state,.bool false,.string c.berth] 35);rw[hsz]at cbxS;have svS:=(((hsx.below hb hbsS).blk (w':=((wr.setCell ⟨(w.heap.size+1+1),0,none⟩ (.int .i64 (n.live+1))).setCell ⟨(w.heap.size+1+1),1,none⟩ (.int .i64 (n.ready+1)))) (Ak (b:=(w.heap.size+1+1)) (Ak (b:=(w.heap.size+1+1)) (rfl) 0 (.int .i64 (n.live+1)) (by omega)) 1 (.int .i64 (n.ready+1)) (by omega))).below hwS (by rw[hsz];omega));obtain⟨z0,z1,z2,z3,z4,z5,z6,z7,z8,z9,z10,z11,z12⟩:=svS.grown;clear z0 z1 z2 z4 z5 z6 z7 z8 z9 z10 z11 z12 svS hsz;have gc3:=Al cbxS.out 3 rfl;have gb1:=Al boxS.out 1 rfl;go_wp2;refine wp_region_quiet_below (by kernel_rfl) (by kernel_rfl) ?_
      repeat (first|go_big_quiet_step (fail)|quiet_step (fail))
      refine wpQuiet_nil ?_;intro w2 hw';obtain⟨⟨dq,osq⟩,hw''⟩:=hw';have hb2:=C5 hw'';clear hw'';rw[HSZ.out]at hb2;have out2:Hid _:=AL hb2 outS.out (by omega);have box2:Hid _:=AL hb2 boxS.out (by omega);have res2:Hid _:=AL hb2 resS.out (by omega);have hbF:=hbS.trans (hb2.mono (by omega));clear gc3 gb1 z3 x0 x1 x2 x3 x4 x5 x6 o0 o1 o2 o3 o4 f0 f1 f2 f3 f4;have q2:=AK out2.out 2 rfl;have qf:=AZ out2.out 2;have outF:Hid _:=BM out2.out 2 (.int .i64 (n.old+1));go_wp2
      go_roundw
      case rel=>exact⟨k+1,⟨n.live+1,n.ready+1,n.old+1,n.failed,n.ending⟩,by omega,by go_num,hbF.setCell (by simp;omega) _,Ak box2.out _ _ (by omega),Ak res2.out _ _ (by omega),outF,HC⟩
      case measure=>simp[intOf];omega
   ·have HC:Hid ({n with ending:=n.ending+1}=Cq s.image sv B.cps (k+1)):=by unfold Hid;rw[HST.out];simp[Bf,CF,hsame,hend]
    have hwS:=AO (wr.setCell ⟨(w.heap.size+1+1),4,none⟩ (.int .i64 (n.ending+1))) (.cells #[.string c.service,.int .i64 c.number,.int .i64 c.version,.int .i64 c.image,.int .i64 c.state,.bool true,.string c.berth] 35);have hsz:(wr.setCell ⟨(w.heap.size+1+1),4,none⟩ (.int .i64 (n.ending+1))).heap.size=wr.heap.size:=by simp only[BQ]
    have outS:Hid _:=AL hwS (BM (hout.out) 4 (.int .i64 (n.ending+1))) (by rw[hsz];omega);have boxS:Hid _:=AL hwS (Ak (b:=(w.heap.size+1+1)) (hbox.out) 4 (.int .i64 (n.ending+1)) (by omega)) (by rw[hsz];omega);have resS:Hid _:=AL hwS (Ak (b:=(w.heap.size+1+1)) (hres.out) 4 (.int .i64 (n.ending+1)) (by omega)) (by rw[hsz];omega);have hbS:=((hb.setCell (p:=⟨(w.heap.size+1+1),4,none⟩) (by show _<=(w.heap.size+1+1);omega) (.int .i64 (n.ending+1)))).alloc (by rw[hsz];exact hb.size) (.cells #[.string c.service,.int .i64 c.number,.int .i64 c.version,.int .i64 c.image,.int .i64 c.state,.bool true,.string c.berth] 35);have HSZ:Hid (((wr.setCell ⟨(w.heap.size+1+1),4,none⟩ (.int .i64 (n.ending+1))).alloc (.cells #[.string c.service,.int .i64 c.number,.int .i64 c.version,.int .i64 c.image,.int .i64 c.state,.bool true,.string c.berth] 35)).heap.size=wr.heap.size+1):=by unfold Hid;rw[size_alloc',hsz]
    go_wp2
    go_roundw
    case rel=>exact⟨k+1,{n with ending:=n.ending+1},by omega,by go_num,hbS,boxS,resS,outS,HC⟩
    case measure=>simp[intOf];omega
  ·have hkl:k=B.cps.length:=by omega
   have HNN:Hid (N=n):=by unfold Hid;rw[hN.out,HN.out,hkl]
   have p0:=AK hres.out 0 rfl;have p1:=AK hres.out 1 rfl;have p2:=AK hres.out 2 rfl;have p3:=AK hres.out 3 rfl;have p4:=AK hres.out 4 rfl;have g0:=AZ hres.out 0;have g1:=AZ hres.out 1;have g2:=AZ hres.out 2;have g3:=AZ hres.out 3;have g4:=AZ hres.out 4;clear hkl;go_wp2;refine bodyPost_ret (v:=.agg (ctV n)) (by simp[results,Try.results28,go_sem,p0,p1,p2,p3,p4]) rfl ⟨by rw[HNN.out],?_⟩;exact((((hb.setCell (by simp) _).setCell (by simp) _).setCell (by simp) _).setCell (by simp) _).setCell (by simp) _
end
end Go.Proofs.Ytbceafpodamnfaa
