import Derived.Test.YtbceafpodamnfaaH18
set_option linter.all false
set_option maxHeartbeats 32000000
set_option maxRecDepth 100000
namespace Go.Proofs.Ytbceafpodamnfaa
attribute [local simp] svV cpV zbV czV aaV ctZ ad bkV ctV acV
attribute [local go_sem] svV cpV zbV czV aaV ctZ ad bkV ctV acV
section
open Go.RowKit Go.Sort
theorem An:(Try.prog.info? 3).map (·.size)=some 1:=by kernel_rfl
theorem KZ:(Try.prog.info? 9).map (·.size)=some 1:=by kernel_rfl
theorem C6:(Try.prog.info? 24).map (·.size)=some 1:=by kernel_rfl
theorem AQ:(Try.prog.info? 27).map (·.size)=some 4:=by kernel_rfl
theorem Lh:(Try.prog.info? 35).map (·.size)=some 7:=by kernel_rfl
theorem Id:(Try.prog.info? 35).map (λi=>(i.zero,i.size,i.bytes))=some (some (.agg #[.string ⟨#[]⟩,.int .i64 0,.int .i64 0,.int .i64 0,.int .i64 0,.bool false,.string ⟨#[]⟩]),7,72):=by kernel_rfl
theorem Nw(x:Cp):(#[.string x.service,.int .i64 x.number,.int .i64 x.version,.int .i64 x.image,.int .i64 x.state,.bool x.ending,.string x.berth]:Array Value).all (·.oneCell')=true:=by simp[Value.oneCell']
theorem LJ(l:List Cp)(x:Cp):Ag (l++[x])=Ag l++(#[.string x.service,.int .i64 x.number,.int .i64 x.version,.int .i64 x.image,.int .i64 x.state,.bool x.ending,.string x.berth]:Array Value).toList:=by simp[Ag,Cp.cells]
theorem NF{v:Int}{l:List Cp}{k:Nat}{c:Cp}(h:l[k]?=some c):DB v (l.take (k+1))=DB v (l.take k)++(if c.ending then [] else [Ge v c]):=by
 unfold DB;rw[List.take_add_one,h,List.filter_append,List.map_append];cases hc:c.ending<;>simp[List.filter,hc]
theorem Oj(v:Int)(l:List Cp):(DB v l).length<=l.length:=by
 unfold DB;rw[List.length_map];exact List.length_filter_le _ _
theorem L8{v:Int}{X:Bk}{i:Nat}{c:Cp}(h:X.cps[i]?=some c)(h1:c.state=1)(h2:Eh X≠⟨#[]⟩):(DX v X i).cps=X.cps.set i {c with state:=2,berth:=Eh X,version:=v}:=by
 unfold DX;rw[h];simp only;rw[if_pos ⟨h1,h2⟩]
theorem M6{v:Int}{X:Bk}{i:Nat}{c:Cp}(h:X.cps[i]?=some c)(h1:¬(c.state=1/\Eh X≠⟨#[]⟩)):(DX v X i).cps=X.cps:=by
 unfold DX;rw[h];simp only;rw[if_neg h1]
theorem nil_bytes{b:ByteArray}:(b.toList==[])=true↔b=⟨#[]⟩:=by
 have:=Nk (a:=b) (b:=⟨#[]⟩);rw[show(⟨#[]⟩:ByteArray).toList=[] by rw[ByteArray.toList_eq]]at this;exact this
theorem NI(B:Bk)(v:Int)(a1 a2 a3:Option Addr)(c1 c2 c3:Nat)(w:World)(hS:B.small)(hB:BkAt w a1 a2 a3 B):
  Calls Try.prog 100 #[.agg #[.int .i64 B.now,.slice a1 B.svcs.length c1,.slice a2 B.cps.length c2,.slice a3 B.bts.length c3],.int .i64 v] w λe w'=>∃g n cap,e=.returned (.agg #[.int .i64 B.now,.slice a1 B.svcs.length c1,.slice (some ⟨g,0,none⟩) n cap,.slice a3 B.bts.length c3])/\Hid (n=(Dl B v).cps.length)/\w.heap.size<=g/\Hid (RowIs w' 35 7 g n cap (Ag (Dl B v).cps))/\Below w.heap.size w w':=by
 obtain⟨hl1,hl2,hl3⟩:=hS;obtain⟨W1,hW1,t0,t1,hz1,hz1',hb1⟩:=Lq w (.cells (bkV B a1 c1 a2 c2 a3 c3) 27) (.cells zbV 27);obtain⟨W0,hW0⟩:∃W,W1.alloc (.cells #[] 35)=W:=⟨_,rfl⟩;have hb0':=AO W1 (.cells #[] 35);have R0:Hid _:=RowIs.new W1 35 7;have hz0:W1.heap.size<(W1.alloc (.cells #[] 35)).heap.size:=by simp
 rw[hW0]at hb0' R0 hz0;have T0:Hid _:=AL hb0' t0 (by omega);have T1:Hid _:=AL hb0' t1 (by omega);have hb0:=hb1.trans (hb0'.mono hb1.size);obtain⟨gN,hgN⟩:∃q,W1.heap.size=q:=⟨_,rfl⟩;have hgn:w.heap.size+1<gN:=by omega
 clear t0 t1 hb1 hb0';go_enter Try.func100,Try.ntmps100
 go_upto_region 2 with fail
 clear hW0 hW1;rw[hgN]at R0;clear hgN hz0 hz1 hz1';go_wp2
 go_loopw [5,6] (λov iv wr=>∃(k g n cap:Nat),k<=B.cps.length/\iv=.int .i64 k/\ov=.slice (some ⟨g,0,none⟩) n cap/\Hid (n=(DB v (B.cps.take k)).length)/\n<=k/\w.heap.size+1<g/\Below w.heap.size w wr/\Hid (Bl wr (w.heap.size) (bkV B a1 c1 a2 c2 a3 c3) 27)/\Hid (Bl wr (w.heap.size+1) zbV 27)/\Hid (RowIs wr 35 7 g n cap (Ag (DB v (B.cps.take k))))) (λ_ i _=>B.cps.length - (intOf i).toNat)
 case atStart=>exact⟨0,gN,0,0,by omega,rfl,rfl,rfl,AG _,hgn,hb0,T0,T1,R0⟩
 case round=>
  clear hb0 T0 T1 R0 hgn;obtain⟨k,g,n,cap,hk,rfl,rfl,HN,hnk,hg,hb,HX,HZ,HR⟩:=hrel;have hzg:=HR.out.lt;have e2:=AK HX.out 2 rfl
  by_cases hlt:k<B.cps.length
  ·obtain⟨c,hck⟩:∃c,B.cps[k]?=some c:=⟨B.cps[k],by simp[hlt]⟩
   have HLS:Hid (DB v (B.cps.take (k+1))=DB v (B.cps.take k)++(if c.ending then [] else [Ge v c])):=NF hck;have hne:B.cps≠[]:=by intro h;rw[h]at hlt;simp at hlt
   obtain⟨bC,oC,ea,hbC,hat⟩:=(hB.below hb).2.1 hne;subst ea;have hcx:=hat k c hck;unfold CpAt at hcx;obtain⟨x0,x1,x2,x3,x4,x5,x6⟩:=hcx;obtain⟨Wa,hWa⟩:∃W,wr.alloc (.cells (cpV c) 35)=W:=⟨_,rfl⟩;have hba:=AO wr (.cells (cpV c) 35);have Ca:Hid _:=heap_alloc_new wr (.cells (cpV c) 35);have hza:wr.heap.size<(wr.alloc (.cells (cpV c) 35)).heap.size:=by simp
   rw[hWa]at hba Ca hza;clear hck hne hat
   go_upto_region 6 with fail
   clear hWa e2 x0 x1 x2 x3 x4 x5 x6;have c5a:=AK Ca.out 5 rfl;obtain⟨en,hen⟩:∃en,Hid (c.ending=en):=⟨_,rfl⟩;rw[cpV,show(.bool c.ending:Value)=.bool en from congrArg _ hen.out]at Ca;have y5:Wa.cell? ⟨wr.heap.size,5,none⟩=some (.bool en):=AK Ca.out 5 rfl;clear c5a;cases en
   ·obtain⟨c',HC'⟩:∃c',Hid (c'=Ge v c):=⟨_,rfl⟩
    have y4:=AK Ca.out 4 rfl
    go_upto_if 27 with fail
    go_cut [6] (λiv wx=>iv=.int .i64 k/\Below wr.heap.size wr wx/\wr.heap.size<wx.heap.size/\Hid (Bl wx (wr.heap.size) #[.string c'.service,.int .i64 c'.number,.int .i64 c'.version,.int .i64 c'.image,.int .i64 c'.state,.bool false,.string c'.berth] 35))
    case first=>
     by_cases hs2:c.state=2
     ·have HE:Hid (c'={c with state:=3,version:=v}):=by unfold Hid;rw[HC'.out];unfold Ge;rw[if_pos hs2]
      have hs2b:(c.state==2)=true:=by rw[hs2];rfl
      go_wp2_with (first
       |(refine AP rfl 3 (.tmp 28) (.const (.int .i64 3)) rfl wr.heap.size 4 (.int .i64 3) rfl rfl An rfl rfl 35 #[.string c.service,.int .i64 c.number,.int .i64 c.version,.int .i64 c.image,.int .i64 c.state,.bool false,.string c.berth] Ca.out (AD rfl) ?_;intro wy hz on;have Cy:Hid (Bl wy (wr.heap.size) #[.string c.service,.int .i64 c.number,.int .i64 c.version,.int .i64 c.image,.int .i64 3,.bool false,.string c.berth] 35):=hz;have hby:=hba.trans (on.below.mono (by omega));have hzy:=(show wr.heap.size<wy.heap.size by rw[on.size];exact hza);clear hz on)
       |(refine AP rfl 3 (.tmp 30) (.tmp 29) rfl wr.heap.size 2 (.int .i64 v) rfl rfl An rfl rfl 35 #[.string c.service,.int .i64 c.number,.int .i64 c.version,.int .i64 c.image,.int .i64 3,.bool false,.string c.berth] Cy.out (AD rfl) ?_;intro wz hz on;have Cz:Hid (Bl wz (wr.heap.size) #[.string c.service,.int .i64 c.number,.int .i64 v,.int .i64 c.image,.int .i64 3,.bool false,.string c.berth] 35):=hz;have hbz:=hby.trans (on.below.mono (by omega));have hzz:=(show wr.heap.size<wz.heap.size by rw[on.size];exact hzy);clear hz on))
      go_meet
      case rel=>exact⟨rfl,hbz,hzz,by unfold Hid;rw[HE.out];exact Cz.out⟩
     ·have HE:Hid (c'=c):=by unfold Hid;rw[HC'.out];unfold Ge;rw[if_neg hs2]
      have hs2b:(c.state==2)=false:=by simpa using hs2
      go_wp2;go_meet
      case rel=>exact⟨rfl,hba,hza,by unfold Hid;rw[HE.out];exact Ca.out⟩
    case rest=>
     obtain⟨rfl,hbc,hzc,Cc⟩:=hcut;have hbw:=hb.trans (hbc.mono hb.size);have Xc:Hid _:=AL hbc HX.out (by omega);have Zc:Hid _:=AL hbc HZ.out (by omega);have Rc:Hid (RowIs wc 35 7 g n cap (Ag (DB v (B.cps.take k)))):=HR.out.below hbc hzg;have hen':Hid (c'.ending=false):=by unfold Hid;rw[HC'.out];unfold Ge;split<;>exact hen.out
     rw[show(.bool false:Value)=.bool c'.ending from congrArg _ hen'.out.symm]at Cc;clear hb hba hza Ca y4 y5 HX HZ HR hbc
     go_wp2_with (first
      |(refine wpList_load_row rfl 35 (.tmp 7) rfl wr.heap.size rfl 35 #[.string c'.service,.int .i64 c'.number,.int .i64 c'.version,.int .i64 c'.image,.int .i64 c'.state,.bool c'.ending,.string c'.berth] (0,0) _ Cc.out Try.underlying35 rfl Lh ?_)
      |(at_builtin;refine AV rfl (.tmp 31) (.tmp 33) 24 rfl 35 _ 7 72 Try.underlying24 Id rfl g n cap _ rfl (Rc.out.below (AO wc _) Rc.out.lt) ⟨wc.heap.size,0,none⟩ 1 1 (#[.string c'.service,.int .i64 c'.number,.int .i64 c'.version,.int .i64 c'.image,.int .i64 c'.state,.bool c'.ending,.string c'.berth]:Array Value).toList rfl rfl (BU (heap_alloc_new wc _)) (λu hu=>(Array.all_eq_true_iff_forall_mem.1 (Nw c')) u (by simpa using hu)) (by unfold maxLen;omega) (by omega) ?_;intro g' cap' w2 hg' hrow' hgr;have hsz:(wc.alloc (.cells (cpV c') 35)).heap.size=wc.heap.size+1:=(by show(wc.heap.push _).size=_;simp);rw[hsz]at hg';have hzR:=Rc.out.lt;have hb2:Below w.heap.size w w2:=(hbw.alloc hbw.size _).trans (Ab hgr (by omega) (by rw[hsz];have:=hbw.size;omega));have hg2:=hg';have X2:Hid _:=(hgr.block w.heap.size (by rw[hsz];omega) (λe=>by have:=Option.some.inj e;omega)).trans (AL (AO wc (.cells (cpV c') 35)) Xc.out (by omega));have Z2:Hid _:=(hgr.block (w.heap.size+1) (by rw[hsz];omega) (λe=>by have:=Option.some.inj e;omega)).trans (AL (AO wc (.cells (cpV c') 35)) Zc.out (by omega));have R2:Hid (RowIs w2 35 7 g' (n+1) cap' (Ag (DB v (B.cps.take k))++(#[.string c'.service,.int .i64 c'.number,.int .i64 c'.version,.int .i64 c'.image,.int .i64 c'.state,.bool c'.ending,.string c'.berth]:Array Value).toList)):=hrow';clear hrow' hgr hsz))
     go_roundw
     case rel=>exact⟨k+1,g',n+1,cap',by omega,by go_num,rfl,by unfold Hid;rw[HLS.out,hen.out,HN.out];simp,by omega,by omega,hb2,X2,Z2,by unfold Hid;rw[HLS.out,hen.out,<-HC'.out];simp only[Bool.false_eq_true,if_false,LJ];exact R2.out⟩
     case measure=>simp[intOf];omega
   ·have HL0:Hid (DB v (B.cps.take (k+1))=DB v (B.cps.take k)):=by unfold Hid;rw[HLS.out,hen.out];simp
    have Xa:Hid _:=AL hba HX.out (by omega);have Za:Hid _:=AL hba HZ.out (by omega);have Ra:Hid (RowIs Wa 35 7 g n cap (Ag (DB v (B.cps.take k)))):=HR.out.below hba hzg;have hbw:=hb.trans (hba.mono hb.size);go_wp2
    go_roundw
    case rel=>exact⟨k+1,g,n,cap,by omega,by go_num,rfl,by unfold Hid;rw[HL0.out];exact HN.out,by omega,hg,hbw,Xa,Za,by unfold Hid;rw[HL0.out];exact Ra.out⟩
    case measure=>simp[intOf];omega
  ·have HNL:Hid (n=(DB v B.cps).length):=by unfold Hid;rw[HN.out,show k=B.cps.length by omega,List.take_length]
   have R1:Hid (RowIs wr 35 7 g n cap (Ag (DB v B.cps))):=by unfold Hid;have:=HR.out;rw[show k=B.cps.length by omega,List.take_length]at this;exact this
   have hnc:n<=1048576:=by omega
   clear HR HN hnk
   go_upto_region 13 with(first
    |(refine AP rfl 24 (.tmp 36) (.tmp 35) rfl w.heap.size 2 (.slice (some ⟨g,0,none⟩) n cap) rfl rfl C6 rfl rfl 27 #[.int .i64 B.now,.slice a1 B.svcs.length c1,.slice a2 B.cps.length c2,.slice a3 B.bts.length c3] HX.out (AD rfl) ?_;intro w1 hz on;have X1:Hid (Bl w1 (w.heap.size) #[.int .i64 B.now,.slice a1 B.svcs.length c1,.slice (some ⟨g,0,none⟩) n cap,.slice a3 B.bts.length c3] 27):=hz;have hb1:=hb.trans (on.below.mono (by omega));have Z1:Hid _:=(on.other (w.heap.size+1) (by omega)).trans HZ.out;have R1b:Hid (RowIs w1 35 7 g n cap (Ag (DB v B.cps))):=R1.out.blk (on.other g (by omega));clear hz on))
   clear R1 HX HZ hb e2;go_wp2
   go_loopw [8] (λiv wr=>∃(k:Nat) (l:List Cp),k<=n/\iv=.int .i64 k/\Hid (l=(Cw B v k).cps)/\Below w.heap.size w wr/\Hid (Bl wr (w.heap.size) #[.int .i64 B.now,.slice a1 B.svcs.length c1,.slice (some ⟨g,0,none⟩) n cap,.slice a3 B.bts.length c3] 27)/\Hid (Bl wr (w.heap.size+1) zbV 27)/\Hid (RowIs wr 35 7 g n cap (Ag l))) (λi _=>n - (intOf i).toNat)
   case atStart=>exact⟨0,DB v B.cps,by omega,rfl,rfl,hb1,X1,Z1,R1b⟩
   case round=>
    clear hb1 X1 Z1 R1b;rename_i wr0 _;obtain⟨k,l,hk,rfl,HL,hb,HX,HZ,HR⟩:=hrel;have hzg:=HR.out.lt;have hzx:w.heap.size+1<wr.heap.size:=(AB HZ.out).1;have HLL:Hid (l.length=n):=by unfold Hid;rw[HL.out,(Bp B v k).2.2.2,HNL.out]
    have e2:=AK HX.out 2 rfl
    by_cases hlm:k<n
    ·obtain⟨c,hck⟩:∃c,l[k]?=some c:=⟨l[k]'(by rw[HLL.out];exact hlm),by simp[HLL.out,hlm]⟩
     have HLK:Hid (l[k]?=some c):=hck;have HLKX:Hid ((Cw B v k).cps[k]?=some c):=by unfold Hid;rw[<-HL.out];exact hck
     obtain⟨bn,HBN⟩:∃bn,Hid (Eh (Cw B v k)=bn):=⟨_,rfl⟩
     have HXB:Hid (BkAt wr a1 (some ⟨g,0,none⟩) a3 (Cw B v k)):=by
      have h1:=hB.below hb;obtain⟨q1,q2,q3,q4⟩:=Bp B v k;refine⟨?_,?_,?_⟩
      ·rw[q2];exact h1.1
      ·rw[<-HL.out];exact RowIs.slC HR.out
      ·rw[q3];exact h1.2.2
     have HSM:Hid ((Cw B v k).small):=by
      obtain⟨q1,q2,q3,q4⟩:=Bp B v k;refine⟨by rw[q2];exact hl1,by rw[q4,<-HNL.out];exact hnc,by rw[q3];exact hl3⟩
     have HCL:Hid (∀W,Below wr.heap.size wr W->Calls Try.prog 110 #[.agg #[.int .i64 B.now,.slice a1 B.svcs.length c1,.slice (some ⟨g,0,none⟩) n cap,.slice a3 B.bts.length c3]] W λe w'=>e=.returned (.string bn)/\Below W.heap.size W w'):=λW hW=>by
      have:=MP (Cw B v k) a1 (some ⟨g,0,none⟩) a3 c1 cap c3 W HSM.out (HXB.out.below hW);obtain⟨q1,q2,q3,q4⟩:=Bp B v k
      try simp only[bkV]at this
      rw[HBN.out,q1,q2,q3,q4,<-HNL.out]at this;exact this
     have e0:=AK HX.out 0 rfl;have e1:=AK HX.out 1 rfl;have e3:=AK HX.out 3 rfl;clear hck
     go_wp2_with fail
     refine(HCL.out _ (Below.refl _ _)).mono ?_;rintro e wc ⟨rfl,hbq⟩;have hzc:=hbq.size;have hbc:=hb.trans (hbq.mono hb.size);have Xc:Hid _:=AL hbq HX.out (by omega);have Zc:Hid _:=AL hbq HZ.out hzx;have Rc:Hid (RowIs wc 35 7 g n cap (Ag l)):=HR.out.below hbq hzg;have hzgc:=Rc.out.lt;clear e0 e1 e2 e3 hb hbq HX HZ HR HXB HSM HCL;have q2:=AK Xc.out 2 rfl;have y4:=Rc.out.cell (BW (c:=Cp.cells) (n:=7) (λ_=>rfl) l k c 4 (.int .i64 c.state) HLK.out rfl);have hlen7:k*7+7<=n*7:=by omega
     go_upto_region 16 with fail
     by_cases hy:c.state=1/\bn≠⟨#[]⟩
     ·have hs1:(c.state==1)=true:=by rw[hy.1];rfl
      have hbe:(bn.toList==[])=false:=by rw[Bool.eq_false_iff];intro h;exact hy.2 (nil_bytes.1 h)
      have HLY:Hid (l.set k {c with state:=2,berth:=bn,version:=v}=(Cw B v (k+1)).cps):=by unfold Hid;rw[Ex,L8 HLKX.out hy.1 (by rw[HBN.out];exact hy.2),<-HL.out,HBN.out]
      clear hy
      go_wp2_with (first
       |(refine At rfl 3 (.tmp 61) (.const (.int .i64 2)) rfl g _ (.int .i64 2) rfl rfl An rfl rfl 35 7 n cap _ Rc.out (by omega) ?_;intro w3 hr on;have R3:Hid (RowIs w3 35 7 g n cap (Ag (l.set k {c with state:=2}))):=(by have:=hr.out;(try simp only[Nat.zero_add]at this);rw[show splice (Ag l) (k*7+4) [.int .i64 2]=Ag (l.set k {c with state:=2}) from Ay (c:=Cp.cells) (n:=7) (λ_=>rfl) l k 4 c {c with state:=2} _ HLK.out (by omega) rfl]at this;exact this);have Xd:Hid _:=(on.other w.heap.size (by omega)).trans Xc.out;have Zd:Hid _:=(on.other (w.heap.size+1) (by omega)).trans Zc.out;have hbd:=hbc.trans (on.below.mono (by omega));clear q2;have q2:=AK Xd.out 2 rfl;clear hr on)
       |(refine At rfl 9 (.tmp 67) (.tmp 65) rfl g _ (.string bn) rfl rfl KZ rfl rfl 35 7 n cap _ R3.out (by omega) ?_;intro w4 hr on;have R4:Hid (RowIs w4 35 7 g n cap (Ag (l.set k {c with state:=2,berth:=bn}))):=(by have:=hr.out;(try simp only[Nat.zero_add]at this);rw[show splice (Ag (l.set k {c with state:=2})) (k*7+6) [.string bn]=Ag ((l.set k {c with state:=2}).set k {c with state:=2,berth:=bn}) from Ay (c:=Cp.cells) (n:=7) (λ_=>rfl) (l.set k {c with state:=2}) k 6 {c with state:=2} {c with state:=2,berth:=bn} _ (by rw[List.getElem?_set_self (by rw[HLL.out];exact hlm)]) (by omega) rfl,List.set_set]at this;exact this);have Xf:Hid _:=(on.other w.heap.size (by omega)).trans Xd.out;have Zf:Hid _:=(on.other (w.heap.size+1) (by omega)).trans Zd.out;have hbf:=hbd.trans (on.below.mono (by omega));clear q2;have q2:=AK Xf.out 2 rfl;clear hr on)
       |(refine At rfl 3 (.tmp 73) (.tmp 71) rfl g _ (.int .i64 v) rfl rfl An rfl rfl 35 7 n cap _ R4.out (by omega) ?_;intro w5 hr on;have R5:Hid (RowIs w5 35 7 g n cap (Ag (l.set k {c with state:=2,berth:=bn,version:=v}))):=(by have:=hr.out;(try simp only[Nat.zero_add]at this);rw[show splice (Ag (l.set k {c with state:=2,berth:=bn})) (k*7+2) [.int .i64 v]=Ag ((l.set k {c with state:=2,berth:=bn}).set k {c with state:=2,berth:=bn,version:=v}) from Ay (c:=Cp.cells) (n:=7) (λ_=>rfl) (l.set k {c with state:=2,berth:=bn}) k 2 {c with state:=2,berth:=bn} {c with state:=2,berth:=bn,version:=v} _ (by rw[List.getElem?_set_self (by rw[HLL.out];exact hlm)]) (by omega) rfl,List.set_set]at this;exact this);have Xh:Hid _:=(on.other w.heap.size (by omega)).trans Xf.out;have Zh:Hid _:=(on.other (w.heap.size+1) (by omega)).trans Zf.out;have hbh:=hbf.trans (on.below.mono (by omega));clear q2;have q2:=AK Xh.out 2 rfl;clear hr on))
      go_wp2
      go_roundw
      case rel=>exact⟨k+1,_,by omega,by go_num,HLY,hbh,Xh,Zh,R5⟩
      case measure=>simp[intOf];omega
     ·have HLY:Hid (l=(Cw B v (k+1)).cps):=by unfold Hid;rw[Ex,M6 HLKX.out (by rw[HBN.out];exact hy),<-HL.out]
      cases hs1:(c.state==1)
      ·clear hy
       go_wp2
       go_roundw
       case rel=>exact⟨k+1,l,by omega,by go_num,HLY,hbc,Xc,Zc,Rc⟩
       case measure=>simp[intOf];omega
      ·have hbe:(bn.toList==[])=true:=by
        rw[nil_bytes];exact Classical.byContradiction λh=>hy ⟨by simpa using hs1,h⟩
       clear hy;go_wp2
       go_roundw
       case rel=>exact⟨k+1,l,by omega,by go_num,HLY,hbc,Xc,Zc,Rc⟩
       case measure=>simp[intOf];omega
    ·have HE:Hid (l=(Dl B v).cps):=by unfold Hid Dl;rw[HL.out,show k=n by omega,HNL.out]
     have e0:=AK HX.out 0 rfl;have e1:=AK HX.out 1 rfl;have e3:=AK HX.out 3 rfl
     go_wp2_with (first
      |(refine AM rfl 27 (.tmp 4) (.tmp 74) rfl (w.heap.size+1) 0 #[.int .i64 B.now,.slice a1 B.svcs.length c1,.slice (some ⟨g,0,none⟩) n cap,.slice a3 B.bts.length c3] rfl rfl 27 #[.int .i64 0,.slice none 0 0,.slice none 0 0,.slice none 0 0] HZ.out AQ (AD rfl) (by simp[Value.oneCell']) ?_;intro w2 hz on;have Z2:Hid (Bl w2 (w.heap.size+1) #[.int .i64 B.now,.slice a1 B.svcs.length c1,.slice (some ⟨g,0,none⟩) n cap,.slice a3 B.bts.length c3] 27):=hz;have hb2:=hb.trans (on.below.mono (by omega));have R2:Hid (RowIs w2 35 7 g n cap (Ag l)):=HR.out.blk (on.other g (by omega));clear hz on))
     exact bodyPost_ret (v:=.agg #[.int .i64 B.now,.slice a1 B.svcs.length c1,.slice (some ⟨g,0,none⟩) n cap,.slice a3 B.bts.length c3]) (results_cell_row rfl _ _ (w.heap.size+1) _ _ _ _ rfl Z2.out Try.underlying27 rfl AQ) rfl ⟨g,n,cap,rfl,by unfold Hid;rw[<-HE.out,HLL.out],by omega,by unfold Hid;rw[<-HE.out];exact R2.out,hb2⟩
def Cb{α:Type}(p:α->Bool)(l:List α):Nat:=(l.takeWhile p).length
theorem FY{α:Type}{p:α->Bool}:∀{l:List α} {k:Nat},k<=l.length->(∀(i:Nat) s,i<k->l[i]?=some s->p s=true)->(∀s,l[k]?=some s->p s=false)->Cb p l=k
 |[],k,hk,_,_=>by unfold Cb;simp at hk;simp[hk]
 |x::l,0,_,_,h=>by unfold Cb;rw[List.takeWhile_cons,if_neg (by rw[h x rfl];simp)];rfl
 |x::l,k+1,hk,h1,h2=>by
  have ih:Cb p l=k:=FY (by simpa using hk) (λi s hi hs=>h1 (i+1) s (by omega) (by simpa using hs)) (λs hs=>h2 s (by simpa using hs));unfold Cb at ih ⊢;rw[List.takeWhile_cons,if_pos (h1 0 x (by omega) rfl),List.length_cons,ih]
def Fy{α:Type}(nm:α->List UInt8)(l:List α)(x:α):List α:=l.take (Cb (λt=>Op.bytesLess (nm t) (nm x)) l)++x::(match l[Cb (λt=>Op.bytesLess (nm t) (nm x)) l]? with
 |some t=>if(nm t==nm x)=true then l.drop (Cb (λt=>Op.bytesLess (nm t) (nm x)) l+1) else l.drop (Cb (λt=>Op.bytesLess (nm t) (nm x)) l)
 |none=>l.drop (Cb (λt=>Op.bytesLess (nm t) (nm x)) l))
theorem JS{α:Type}{nm:α->List UInt8}{l:List α}{x t:α}{k:Nat}(h:Cb (λt=>Op.bytesLess (nm t) (nm x)) l=k)(ht:l[k]?=some t)(hq:(nm t==nm x)=true):Fy nm l x=l.take k++x::l.drop (k+1):=by
 unfold Fy;rw[h,ht];simp only;rw[if_pos hq]
theorem IU{α:Type}{nm:α->List UInt8}{l:List α}{x t:α}{k:Nat}(h:Cb (λt=>Op.bytesLess (nm t) (nm x)) l=k)(ht:l[k]?=some t)(hq:(nm t==nm x)=false):Fy nm l x=l.take k++x::l.drop k:=by
 unfold Fy;rw[h,ht];simp only;rw[if_neg (by rw[hq];simp)]
theorem K8{α:Type}{nm:α->List UInt8}{l:List α}{x:α}{k:Nat}(h:Cb (λt=>Op.bytesLess (nm t) (nm x)) l=k)(ht:l[k]?=none):Fy nm l x=l.take k++x::l.drop k:=by
 unfold Fy;rw[h,ht]
def btNm(t:Bt):List UInt8:=t.name.toList
def Db(B:Bk)(nm:ByteArray)(dr:Bool):Bk:={B with bts:=Fy btNm B.bts ⟨nm,dr⟩}
theorem LG{α:Type}{c:α->List Value}{n:Nat}(hc:∀s,(c s).length=n):∀(l:List α) (i:Nat),(l.drop i).flatMap c=(l.flatMap c).drop (i*n)
 |[],i=>by simp
 |x::l,0=>by simp
 |x::l,i+1=>by
  have e:(c x).drop ((i+1)*n)=[]:=List.drop_eq_nil_of_le (by rw[hc,Nat.succ_mul];omega);rw[List.drop_succ_cons,LG hc l i,List.flatMap_cons,List.drop_append,e,List.nil_append,hc,show(i+1)*n - n=i*n by rw[Nat.succ_mul];omega]
theorem LF{α:Type}{c:α->List Value}{n:Nat}(hc:∀s,(c s).length=n):∀(l:List α) (i:Nat),(l.take i).flatMap c=(l.flatMap c).take (i*n)
 |[],i=>by simp
 |x::l,0=>by simp
 |x::l,i+1=>by
  have e:(c x).take ((i+1)*n)=c x:=List.take_of_length_le (by rw[hc,Nat.succ_mul];omega);rw[List.take_succ_cons,List.flatMap_cons,List.flatMap_cons,LF hc l i,List.take_append,e,hc,show(i+1)*n - n=i*n by rw[Nat.succ_mul];omega]
theorem RowIs.srcDrop{α:Type}{w:World}{e:TypeId}{size g n cap:Nat}{c:α->List Value}{l:List α}(h:RowIs w e size g n cap (l.flatMap c))(hc:∀s,(c s).length=size)(i:Nat):∀j u,((l.drop i).flatMap c)[j]?=some u->w.cell? ((⟨g,i*size,none⟩:Addr).add j)=some u:=λj u hu=>by
 rw[LG hc,List.getElem?_drop]at hu;rw[Addr.add_lit];exact h.cell hu
theorem RowIs.srcTake{α:Type}{w:World}{e:TypeId}{size g n cap:Nat}{c:α->List Value}{l:List α}(h:RowIs w e size g n cap (l.flatMap c))(hc:∀s,(c s).length=size)(i:Nat):∀j u,((l.take i).flatMap c)[j]?=some u->w.cell? ((⟨g,0,none⟩:Addr).add j)=some u:=λj u hu=>by
 rw[LF hc]at hu;rw[Addr.add_lit,Nat.zero_add]
 exact h.cell (by
  rw[List.getElem?_take]at hu;split at hu
  ·exact hu
  ·cases hu)
end
end Go.Proofs.Ytbceafpodamnfaa
