import Derived.Test.YtbceafpodamnfaaGreatH48
set_option linter.all false
set_option maxHeartbeats 8000000
set_option maxRecDepth 100000
namespace Go.Proofs.YtbceafpodamnfaaGreat
open Go.RowKit Go.Sort
theorem Hh(l:List Bx)(ap:Option Addr)(cp:Nat)(B:Bk)(a1 a2 a3:Option Addr)(c1 c2 c3:Nat)(m:Mv)(w:World)(hg0:0<=m.age)(hg1:m.age<=1000)(hE:m.ev.sized)(hW:WA w ap l a1 a2 a3 B):
  Calls Tryz.prog 64 #[.agg #[.slice ap l.length cp,.int .i64 B.now,.slice a1 B.svcs.length c1,.slice a2 B.cps.length c2,.slice a3 B.bts.length c3],.agg #[.int .i64 m.st,.int .i64 m.age,.int .i64 m.ev.kind,.string m.ev.service.name,.int .i64 m.ev.service.version,.bool m.ev.service.gone,.int .i64 m.ev.service.image,.int .i64 m.ev.service.want,.int .i64 m.ev.service.down,.int .i64 m.ev.service.over,.int .i64 m.ev.service.next,.int .i64 m.ev.service.per,.int .i64 m.ev.service.least,.int .i64 m.ev.service.most,.int .i64 m.ev.service.load,.int .i64 m.ev.service.cool,.string m.ev.name,.int .i64 m.ev.number,.bool m.ev.flag]] w λe w'=>DoIs w e w':=by
 cases h:inB m.st 1 6
 ·exact do_sea l ap cp B a1 a2 a3 c1 c2 c3 m w h hE hW
 ·exact do_ask l ap cp B a1 a2 a3 c1 c2 c3 m w h hg0 hg1 hW
theorem IntRow.src{w:World}{g n cap:Nat}(h:IntRow w g n cap):∃news:List Value,news.length=n/\(∀j u,news[j]?=some u->w.cell? ((⟨g,0,none⟩:Addr).add j)=some u)/\∀u∈news,∃k,u=.int .i64 k:=by
 obtain⟨h1,cur,h2,h3,h4⟩:=h;refine⟨cur.toList.take n,by rw[List.length_take,Array.length_toList];omega,λj u hu=>?_,λu hu=>h4 u (List.mem_of_mem_take hu)⟩;rw[Addr.add_lit,Nat.zero_add];refine AJ h2 j ?_;rw[List.getElem?_take]at hu;split at hu
 ·simpa using hu
 ·cases hu
theorem int_row{w:World}{b:Nat}{cs:Array Value}(h:w.heap[b]?=some (.cells cs 3 (0,0)))(hn:∀u∈cs.toList,∃k,u=.int .i64 k):IntRow w b cs.size cs.size:=⟨AG _,cs,h,rfl,hn⟩
theorem IntRow.other{w w':World}{g g' h n cap:Nat}(hr:IntRow w h n cap)(hgh:h≠g)(ht:(g'=g/\BA g w w')\/(g'=w.heap.size/\Below w.heap.size w w')):IntRow w' h n cap/\h≠g':=by
 rcases ht with⟨rfl,on⟩|⟨rfl,hb⟩
 ·exact⟨hr.blk (on.other h hgh),hgh⟩
 ·exact⟨hr.below hb,by have:=hr.lt;omega⟩
theorem F7{w w':World}{g g' N:Nat}(hN:N<=g)(hw:N<=w.heap.size)(ht:(g'=g/\BA g w w')\/(g'=w.heap.size/\Below w.heap.size w w')):Below N w w'/\N<=g':=by
 rcases ht with⟨rfl,on⟩|⟨rfl,hb⟩
 ·exact⟨on.below.mono hN,hN⟩
 ·exact⟨hb.mono hw,hw⟩
structure OrU(T ga ca g0:Nat)(w:World)(no g cap:Nat)(wr:World):Prop where
 row:IntRow wr g no cap
 all:IntRow wr ga T ca
 ne:ga≠g
 gg:g0<=g
 g0:w.heap.size<=g0
 below:Below w.heap.size w wr
theorem OrU.grew{T ga ca g0 no g cap:Nat}{w wr w':World}(h:OrU T ga ca g0 w no g cap wr)(hb:Below wr.heap.size wr w'):OrU T ga ca g0 w no g cap w':=⟨h.row.below hb,h.all.below hb,h.ne,h.gg,h.g0,h.below.trans (hb.mono h.below.size)⟩
theorem OrU.turn{T ga ca g0 no g cap g' cap':Nat}{w wr w':World}(h:OrU T ga ca g0 w no g cap wr)(ht:(g'=g/\BA g wr w')\/(g'=wr.heap.size/\Below wr.heap.size wr w'))(hi:IntRow w' g' (no+1) cap'):OrU T ga ca g0 w (no+1) g' cap' w':=
 have h1:=h.row.lt;have h2:=h.gg;have h3:=h.g0;have ho:=h.all.other h.ne ht;have hb:=F7 (N:=g0) h2 (by omega) ht
 ⟨hi,ho.1,ho.2,hb.2,h3,h.below.trans (hb.1.mono h3)⟩
theorem OT(b n c:Nat)(w:World)(hn:n<=100)(hI:IntRow w b n c):
  Calls Tryz.prog 87 #[.slice (some ⟨b,0,none⟩) n c] w λe w'=>∃g n' cap,e=.returned (.slice (some ⟨g,0,none⟩) n' cap)/\IntRow w' g n' cap/\n'<=106/\Below w.heap.size w w':=by
 have HI:Hid (IntRow w b n c):=hI;clear hI;go_enter Tryz.func87,Tryz.ntmps87
 go_upto_region 2 with fail
 obtain⟨W1,hW1⟩:∃W1,w.alloc (.cells #[] 3)=W1:=⟨_,rfl⟩;rw[hW1];have hb1:Below w.heap.size w W1:=by rw[<-hW1];exact AM _ _
 have I0:Hid (IntRow W1 w.heap.size 0 0):=by unfold Hid;rw[<-hW1];exact IntRow.new w
 obtain⟨g0,hg0⟩:∃g0,w.heap.size=g0:=⟨_,rfl⟩;rw[hg0]at I0;rw[hg0];clear hW1;obtain⟨news,hnl,hnc,hni⟩:=(HI.out.below hb1).src;have hl1:=I0.out.lt;have NW:Hid (∀u∈news,∃k,u=Value.int .i64 k):=hni
 have NC:Hid (∀j u,news[j]?=some u->(W1.alloc (.cells #[] 3)).cell? ((⟨b,0,none⟩:Addr).add j)=some u):=λj u hu=>by
  have h1:=hnc j u hu;rw[Addr.add_lit]at h1 ⊢;rw[(AM W1 _).cell (p:=⟨b,0+j,none⟩) (by have:=HI.out.lt;have:=hb1.size;show b<W1.heap.size;omega)];exact h1
 have IN:Hid (IntRow (W1.alloc (.cells #[] 3)) W1.heap.size 0 0):=IntRow.new W1;have HNL:Hid (news.length=n):=hnl;clear hnl hnc hni
 go_upto_region 3 with(first
  |((with_reducible show wpList _ _ _ _ _ _);refine Cg rfl (.tmp 9) (.tmp 10) 44 rfl Tryz.underlying44 W1.heap.size 0 0 rfl IN.out ⟨b,0,none⟩ n c news rfl HNL.out NC.out NW.out (by omega) ?_;intro g1 cap1 w2 hr hi;rw[Nat.zero_add]at hi;have I2:Hid (IntRow w2 g1 n cap1):=hi;have O2:Hid _:=(I0.out.below (AM W1 _)).other (by omega) hr;have B2:Hid _:=(F7 (N:=W1.heap.size) (AG _) (AM W1 _).size hr);clear hr hi;simp only[Act.put])
  |((with_reducible show wpList _ _ _ _ _ _);refine Cg rfl (.tmp 11) (.tmp 12) 44 rfl Tryz.underlying44 g1 n cap1 rfl (I2.out.below (AM w2 _)) ⟨w2.heap.size,0,none⟩ 6 6 [.int .i64 1,.int .i64 2,.int .i64 3,.int .i64 4,.int .i64 5,.int .i64 6] rfl rfl (DU (heap_alloc_new w2 _)) (λu hu=>by simp at hu;rcases hu with rfl|rfl|rfl|rfl|rfl|rfl<;>exact⟨_,rfl⟩) (by omega) ?_;intro ga ca w3 hr hi;have I3:Hid (IntRow w3 ga (n+6) ca):=hi;have O3:Hid _:=(O2.out.1.below (AM w2 _)).other O2.out.2 hr;have B3:Hid _:=(F7 (N:=W1.heap.size) B2.out.2 (AH (AM W1 _).size (AH B2.out.1.size (AM w2 _).size)) hr);clear hr hi;simp only[Act.put]))
 obtain⟨T,hT⟩:∃T,n+6=T:=⟨_,rfl⟩;rw[hT]at I3;rw[hT];have hT106:T<=106:=by omega
 clear hT;have hs1:=hb1.size;have J0:Hid (OrU T ga ca g0 w 0 g0 0 w3):=⟨O3.out.1,I3.out,Ne.symm O3.out.2,AG _,by omega,(((hb1.trans ((AM W1 _).mono hs1)).trans (B2.out.1.mono hs1)).trans ((AM w2 _).mono (by have:=B2.out.1.size;have:=(AM W1 (.cells #[] 3)).size;omega))).trans (B3.out.1.mono hs1)⟩;clear I0 I2 I3 O2 O3 B2 B3 HI NW NC IN HNL hb1 hs1 hl1
 go_upto_region 4 with fail
 go_loopw [3,5] (λv3 iv wr=>∃k no g cap:Nat,k<=T/\iv=.int .i64 k/\v3=.slice (some ⟨g,0,none⟩) no cap/\no<=k/\OrU T ga ca g0 w no g cap wr) (λ_ i _=>T - (intOf i).toNat)
 case atStart=>exact⟨0,0,g0,0,by omega,rfl,rfl,AG _,J0.out⟩
 case round=>
  clear J0;obtain⟨k,no,g,cap,hk,rfl,rfl,hno,hJ⟩:=hrel;have J:Hid _:=hJ;clear hJ
  by_cases hlt:k<T
  rotate_left
  ·go_wp2
   go_ret;exact⟨g,no,cap,rfl,J.out.row,by omega,J.out.below⟩
  obtain⟨kb,hkb⟩:=J.out.all.cell hlt;have Hkb:Hid _:=hkb;have hl2:=J.out.all.lt;have hl1:=J.out.row.lt;clear hkb
  go_upto_region 8 with fail
  go_loopw [6,7] (λv6 jv wq=>∃(bb:Bool) (j:Nat),j<=no/\v6=.bool bb/\jv=.int .i64 j/\Below wr.heap.size wr wq) (λ_ i _=>no - (intOf i).toNat)
  case atStart=>exact⟨false,0,by omega,rfl,rfl,Below.refl _ _⟩
  case round=>
   obtain⟨bb,j,hj,rfl,rfl,hbq⟩:=hrel;have hsq:=hbq.size;have Hkb:Hid _:=(hbq.cell (p:=⟨ga,k,none⟩) hl2).trans Hkb.out
   by_cases hjl:j<no
   ·obtain⟨ka,hka⟩:=(J.out.row.below hbq).cell hjl
    have Hka:Hid _:=hka;clear hka;cases bb
    ·go_upto_region 10 with fail
     refine An 12 (by kernel_rfl) (by kernel_rfl) ?_;apply AQ
     ·intro V W K A hW hd hA hK
      simp only[pA]at hA;clear hd;obtain rfl:=hA;go_wp2;exact hK.out _ brf
     apply AQ
     ·intro V W K A hW hd hA hK
      have d0:V 0=_:=hd 0 (by kernel_rfl);simp only[pA,d0,d0]at hA;clear hd d0;obtain rfl:=hA;go_wp2;exact hK.out _ brf
     apply AQ
     ·intro V W K A hW hd hA hK
      have d1:V 1=_:=hd 1 (by kernel_rfl);simp only[pA,d1,d1]at hA;clear hd d1;obtain rfl:=hA;go_wp2;exact hK.out _ brf
     apply AQ
     ·intro V W K A hW hd hA hK
      have d1:V 1=_:=hd 1 (by kernel_rfl);simp only[pA,d1,d1]at hA;clear hd d1;obtain rfl:=hA;go_wp2;exact hK.out _ brf
     apply AQ
     ·intro V W K A hW hd hA hK
      have d1:V 1=_:=hd 1 (by kernel_rfl);have d2:V 2=_:=hd 2 (by kernel_rfl);have d3:V 3=_:=hd 3 (by kernel_rfl);simp only[pA,d1,d2,d3,d1,d2,d3]at hA;clear hd d1 d2 d3;obtain rfl:=hA;go_wp2;exact hK.out _ brf
     apply AQ
     ·intro V W K A hW hd hA hK
      have d1:V 1=_:=hd 1 (by kernel_rfl);have d4:V 4=_:=hd 4 (by kernel_rfl);simp only[pA,d1,d4,d1,d4]at hA;clear hd d1 d4;obtain rfl:=hA;have zka:W.cell? ⟨g,j,none⟩=some (.int .i64 ka):=by rw[hW.cell (p:=⟨g,j,none⟩) (by show g<_;omega)];exact Hka.out
      go_wp2;exact hK.out _ brf
     apply AQ
     ·intro V W K A hW hd hA hK
      have d1:V 1=_:=hd 1 (by kernel_rfl);simp only[pA,d1,d1]at hA;clear hd d1;obtain rfl:=hA;go_wp2;exact hK.out _ brf
     apply AQ
     ·intro V W K A hW hd hA hK
      have d1:V 1=_:=hd 1 (by kernel_rfl);simp only[pA,d1,d1]at hA;clear hd d1;obtain rfl:=hA;go_wp2;exact hK.out _ brf
     apply AQ
     ·intro V W K A hW hd hA hK
      have d1:V 1=_:=hd 1 (by kernel_rfl);have d6:V 6=_:=hd 6 (by kernel_rfl);have d7:V 7=_:=hd 7 (by kernel_rfl);simp only[pA,d1,d6,d7,d1,d6,d7]at hA;clear hd d1 d6 d7;obtain rfl:=hA;go_wp2;exact hK.out _ brf
     apply AQ
     ·intro V W K A hW hd hA hK
      have d1:V 1=_:=hd 1 (by kernel_rfl);have d8:V 8=_:=hd 8 (by kernel_rfl);simp only[pA,d1,d8,d1,d8]at hA;clear hd d1 d8;obtain rfl:=hA;have zkb:W.cell? ⟨ga,k,none⟩=some (.int .i64 kb):=by rw[hW.cell (p:=⟨ga,k,none⟩) (by show ga<_;omega)];exact Hkb.out
      go_wp2;exact hK.out _ brf
     apply AQ
     ·intro V W K A hW hd hA hK
      have d1:V 1=_:=hd 1 (by kernel_rfl);have d5:V 5=_:=hd 5 (by kernel_rfl);have d9:V 9=_:=hd 9 (by kernel_rfl);simp only[pA,d1,d5,d9,d1,d5,d9]at hA;clear hd d1 d5 d9;obtain rfl:=hA;go_wp2;exact hK.out _ brf
     apply AQ
     ·intro V W K A hW hd hA hK
      have d1:V 1=_:=hd 1 (by kernel_rfl);have d10:V 10=_:=hd 10 (by kernel_rfl);simp only[pA,d1,d10,d1,d10]at hA;clear hd d1 d10;obtain rfl:=hA;go_wp2;exact hK.out _ brf
     intro V W A hW hS hA;have d0:V 0=_:=hS 0 (by omega);have d1:V 1=_:=hS 1 (by omega);have d2:V 2=_:=hS 2 (by omega);have d3:V 3=_:=hS 3 (by omega);have d4:V 4=_:=hS 4 (by omega);have d5:V 5=_:=hS 5 (by omega);have d6:V 6=_:=hS 6 (by omega);have d7:V 7=_:=hS 7 (by omega);have d8:V 8=_:=hS 8 (by omega);have d9:V 9=_:=hS 9 (by omega);have d10:V 10=_:=hS 10 (by omega);have d11:V 11=_:=hS 11 (by omega);simp only[pA,d0,d1,d2,d3,d4,d5,d6,d7,d8,d9,d10,d11,d0,d1,d2,d3,d4,d5,d6,d7,d8,d9,d10,d11]at hA;clear hS d0 d1 d2 d3 d4 d5 d6 d7 d8 d9 d10 d11;obtain rfl:=hA;simp only[List.drop_succ_cons,List.drop_zero];go_wp2
     go_roundw
     case rel=>exact⟨_,j+1,by omega,rfl,by go_num,hbq.trans (hW.mono hsq)⟩
     case measure=>simp[intOf];omega
    ·go_upto_region 10 with fail
     refine An 12 (by kernel_rfl) (by kernel_rfl) ?_;apply AQ
     ·intro V W K A hW hd hA hK
      simp only[pA]at hA;clear hd;obtain rfl:=hA;go_wp2;exact hK.out _ brf
     apply AQ
     ·intro V W K A hW hd hA hK
      have d0:V 0=_:=hd 0 (by kernel_rfl);simp only[pA,d0,d0]at hA;clear hd d0;obtain rfl:=hA;go_wp2;exact hK.out _ brf
     refine Aq (λ_ _=>True) (λ_ _ _ _ _=>trivial) ?_ ?_
     ·intro V W K A hW hd hA hK
      have d1:V 1=_:=hd 1 (by kernel_rfl);simp only[pA,d1,d1]at hA;clear hd d1;obtain rfl:=hA;go_wp2;exact hK.out _ _ brf trivial
     refine Aq (λ_ _=>True) (λ_ _ _ _ _=>trivial) ?_ ?_
     ·intro V W K A hW hd hA hK
      have d1:V 1=_:=hd 1 (by kernel_rfl);simp only[pA,d1,d1]at hA;clear hd d1;obtain rfl:=hA;go_wp2;exact hK.out _ _ brf trivial
     refine Aq (λ_ _=>True) (λ_ _ _ _ _=>trivial) ?_ ?_
     ·intro V W K A hW hd hA hK
      have d1:V 1=_:=hd 1 (by kernel_rfl);have d2:(λ_ _=>True) (V 2) W:=hd 2 (by kernel_rfl);have d3:(λ_ _=>True) (V 3) W:=hd 3 (by kernel_rfl);simp only[pA,d1,d1]at hA;clear hd d1;generalize V 2=x2 at d2 hA;generalize V 3=x3 at d3 hA;obtain rfl:=hA;go_wp2;exact hK.out _ _ brf trivial
     refine Aq (λ_ _=>True) (λ_ _ _ _ _=>trivial) ?_ ?_
     ·intro V W K A hW hd hA hK
      have d1:V 1=_:=hd 1 (by kernel_rfl);have d4:(λ_ _=>True) (V 4) W:=hd 4 (by kernel_rfl);simp only[pA,d1,d1]at hA;clear hd d1;generalize V 4=x4 at d4 hA;obtain rfl:=hA;go_wp2;exact hK.out _ _ brf trivial
     refine Aq (λ_ _=>True) (λ_ _ _ _ _=>trivial) ?_ ?_
     ·intro V W K A hW hd hA hK
      have d1:V 1=_:=hd 1 (by kernel_rfl);simp only[pA,d1,d1]at hA;clear hd d1;obtain rfl:=hA;go_wp2;exact hK.out _ _ brf trivial
     refine Aq (λ_ _=>True) (λ_ _ _ _ _=>trivial) ?_ ?_
     ·intro V W K A hW hd hA hK
      have d1:V 1=_:=hd 1 (by kernel_rfl);simp only[pA,d1,d1]at hA;clear hd d1;obtain rfl:=hA;go_wp2;exact hK.out _ _ brf trivial
     refine Aq (λ_ _=>True) (λ_ _ _ _ _=>trivial) ?_ ?_
     ·intro V W K A hW hd hA hK
      have d1:V 1=_:=hd 1 (by kernel_rfl);have d6:(λ_ _=>True) (V 6) W:=hd 6 (by kernel_rfl);have d7:(λ_ _=>True) (V 7) W:=hd 7 (by kernel_rfl);simp only[pA,d1,d1]at hA;clear hd d1;generalize V 6=x6 at d6 hA;generalize V 7=x7 at d7 hA;obtain rfl:=hA;go_wp2;exact hK.out _ _ brf trivial
     refine Aq (λ_ _=>True) (λ_ _ _ _ _=>trivial) ?_ ?_
     ·intro V W K A hW hd hA hK
      have d1:V 1=_:=hd 1 (by kernel_rfl);have d8:(λ_ _=>True) (V 8) W:=hd 8 (by kernel_rfl);simp only[pA,d1,d1]at hA;clear hd d1;generalize V 8=x8 at d8 hA;obtain rfl:=hA;go_wp2;exact hK.out _ _ brf trivial
     refine Aq (λ_ _=>True) (λ_ _ _ _ _=>trivial) ?_ ?_
     ·intro V W K A hW hd hA hK
      have d1:V 1=_:=hd 1 (by kernel_rfl);have d5:(λ_ _=>True) (V 5) W:=hd 5 (by kernel_rfl);have d9:(λ_ _=>True) (V 9) W:=hd 9 (by kernel_rfl);simp only[pA,d1,d1]at hA;clear hd d1;generalize V 5=x5 at d5 hA;generalize V 9=x9 at d9 hA;obtain rfl:=hA;go_wp2;exact hK.out _ _ brf trivial
     apply AQ
     ·intro V W K A hW hd hA hK
      have d1:V 1=_:=hd 1 (by kernel_rfl);have d10:(λ_ _=>True) (V 10) W:=hd 10 (by kernel_rfl);simp only[pA,d1,d1]at hA;clear hd d1;generalize V 10=x10 at d10 hA;obtain rfl:=hA;go_wp2;exact hK.out _ brf
     intro V W A hW hS hA;have d0:V 0=_:=hS 0 (by omega);have d1:V 1=_:=hS 1 (by omega);have d11:V 11=_:=hS 11 (by omega);simp only[pA,d0,d1,d11,d0,d1,d11]at hA;clear hS d0 d1 d11;obtain rfl:=hA;simp only[List.drop_succ_cons,List.drop_zero];go_wp2
     go_roundw
     case rel=>exact⟨_,j+1,by omega,rfl,by go_num,hbq.trans (hW.mono hsq)⟩
     case measure=>simp[intOf];omega
   have J2:Hid _:=J.out.grew hbq;cases bb
   rotate_left
   ·go_wp2
    go_roundw
    case rel=>exact⟨k+1,no,g,cap,by omega,by go_num,rfl,by omega,J2.out⟩
    case measure=>simp[intOf];omega
   have zkb:=Hkb.out;cases hin:inB kb 1 6
   ·go_wp2_with (go_at_call 15;refine(CQ _ _ _ _).mono ?_;rintro e w5 ⟨rfl,rfl⟩)
    go_roundw
    case rel=>exact⟨k+1,no,g,cap,by omega,by go_num,rfl,by omega,J2.out⟩
    case measure=>simp[intOf];omega
   ·go_wp2_with (first|(go_at_call 15;refine(CQ _ _ _ _).mono ?_;rintro e w5 ⟨rfl,rfl⟩)|((with_reducible show wpList _ _ _ _ _ _);refine Cg rfl (.tmp 47) (.tmp 52) 44 rfl Tryz.underlying44 g no cap rfl (OrU.row (J2.out.grew (AM _ _))) ⟨_,0,none⟩ 1 1 [.int .i64 kb] rfl rfl (Nn (heap_alloc_new _ _)) (λu hu=>⟨kb,by simpa using hu⟩) (by omega) ?_;intro g2 cap2 w7 hr hi;have J7:Hid _:=(J2.out.grew (AM _ _)).turn hr hi;clear hr hi;simp only[Act.put]))
    go_roundw
    case rel=>exact⟨k+1,no+1,g2,cap2,by omega,by go_num,rfl,by omega,J7.out⟩
    case measure=>simp[intOf];omega
end Go.Proofs.YtbceafpodamnfaaGreat
