import Derived.Test.YtbceafpodamnfaaGreatH33
set_option linter.all false
set_option maxHeartbeats 16000000
set_option maxRecDepth 100000
namespace Go.Proofs.YtbceafpodamnfaaGreat
section
open Go.RowKit Go.Sort
theorem bsB_any(l:List Bt)(x:Bt)(ao:Option Addr)(n cap N:Nat)(w:World)(HN:Hid (l.length=n))(hl:n<=1048576)(HSO:Hid (∀(i j:Nat) s t,i<j->l[i]?=some s->l[j]?=some t->Op.bytesLess s.name.toList t.name.toList=true))(hR:RowN w N 51 2 ao n cap (Ak l)):
  Calls Tryz.prog 97 #[.slice ao n cap,.agg #[.string x.name,.bool x.drain],.func (.func 81) #[] #[]] w λe w'=>∃(k:Nat) (fd:Bool),e=.returned (.tuple #[.int .i64 k,.bool fd])/\k<=n/\(∀(i:Nat) s,i<k->l[i]?=some s->Op.bytesLess s.name.toList x.name.toList=true)/\(∀s,l[k]?=some s->Op.bytesLess s.name.toList x.name.toList=false)/\(fd=true↔∃s,l[k]?=some s/\s.name=x.name)/\Below w.heap.size w w':=by
 have HRN:Hid (RowN w N 51 2 ao n cap (Ak l)):=hR;obtain⟨W0,hW0⟩:∃W,w.alloc (.cells #[.string x.name,.bool x.drain] 51)=W:=⟨_,rfl⟩;have hb0:=AM w (.cells #[.string x.name,.bool x.drain] 51);have T0:Hid _:=heap_alloc_new w (.cells #[.string x.name,.bool x.drain] 51);rw[hW0]at hb0 T0;clear hR;go_enter Tryz.func97,Tryz.ntmps97
 go_upto_region 1 with fail
 clear hW0;go_wp2
 go_loopw [9,10] (λiv jv wr=>∃(i j:Nat),i<=j/\j<=n/\iv=.int .i64 i/\jv=.int .i64 j/\Below w.heap.size w wr/\Hid (wr.heap[w.heap.size]?=some (.cells #[.string x.name,.bool x.drain] 51 (0,0)))/\Hid (∀(q:Nat) s,q<i->l[q]?=some s->Op.bytesLess s.name.toList x.name.toList=true)/\Hid (∀(q:Nat) s,j<=q->l[q]?=some s->Op.bytesLess s.name.toList x.name.toList=false)) (λi j _=>(intOf j).toNat - (intOf i).toNat)
 case atStart=>exact⟨0,n,by omega,by omega,rfl,rfl,hb0,T0,λq s hq=>absurd hq (by omega),λq s hq hs=>absurd (AC hs).1 (by rw[HN.out];omega)⟩
 case round=>
  clear hb0 T0;obtain⟨i,j,hij,hjn,rfl,rfl,hb,HX,HL,HG⟩:=hrel;have hzx:w.heap.size<wr.heap.size:=(AB HX.out).1
  by_cases hlt:i<j
  ·obtain⟨g,rfl,hNg,hr⟩:=HRN.out.some (by omega)
   have HR:Hid (RowIs w 51 2 g n cap (Ak l)):=hr;have hgl:=hr.lt;clear hr;have HRr:Hid (RowIs wr 51 2 g n cap (Ak l)):=HR.out.below hb hgl
   go_upto_region 5 with fail
   obtain⟨h,hh⟩:∃h:Nat,((i:Int)+(j:Int)) / 2=(h:Int):=⟨(i+j) / 2,by omega⟩;have h1:i<=h:=by omega
   have h2:h<j:=by omega
   rw[hh];clear hh;obtain⟨s,hs⟩:∃s,l[h]?=some s:=⟨l[h]'(by rw[HN.out];omega),by rw[List.getElem?_eq_getElem]⟩;have HLS:Hid (l[h]?=some s):=hs;clear hs;have y0:∀p:Regrown,(grow (redrawn wr p.d) p.os).cell? ⟨g,h*2,none⟩=some (.string s.name):=λp=>cell_regrown (HRr.out.cell (AT (c:=Bt.cells) (n:=2) (λ_=>rfl) l h s 0 (.string s.name) HLS.out rfl)) p.d p.os
   have y1:∀p:Regrown,(grow (redrawn wr p.d) p.os).cell? ⟨g,h*2+1,none⟩=some (.bool s.drain):=λp=>cell_regrown (HRr.out.cell (AT (c:=Bt.cells) (n:=2) (λ_=>rfl) l h s 1 (.bool s.drain) HLS.out rfl)) p.d p.os
   have c0:=Aa HX.out 0 rfl;have c1:=Aa HX.out 1 rfl;refine wp_region_quiet_below (by kernel_rfl) (by kernel_rfl) ?_
   repeat (first|go_big_quiet_step (exact Calls.regrown_of (Ej s x _))|quiet_step (exact Calls.regrown_of (Ej s x _)))
   refine wpQuiet_nil ?_;intro w2 hw';obtain⟨⟨dq,osq⟩,hw''⟩:=hw';have hbq:Below wr.heap.size wr w2:=by rw[hw''];exact below_regrown _ _ _
   clear hw'';have hb2:=hb.trans (hbq.mono hb.size);have X2:Hid _:=AK hbq HX.out hzx;clear hbq y0 c0 y1 c1;cases hle:Op.bytesLess s.name.toList x.name.toList
   ·have h0:¬(Dz s.name x.name<0):=by unfold Dz;rw[hle];simp only[Bool.false_eq_true,if_false];split<;>omega
    go_wp2
    go_roundw
    case rel=>exact⟨i,h,by omega,by omega,(by first|rfl|trivial),(by first|rfl|trivial),hb2,X2,HL,λq t hq ht=>by
     rcases Nat.lt_or_ge h q with hlt'|hge
     ·cases hlx:Op.bytesLess t.name.toList x.name.toList
      ·rfl
      ·exfalso
       have:=Be _ _ _ (HSO.out h q s t hlt' HLS.out ht) hlx;rw[hle]at this;cases this
     ·rw[show q=h by omega,HLS.out]at ht
      cases ht
      exact hle⟩
    case measure=>simp[intOf];omega
   ·have h0:Dz s.name x.name<0:=by unfold Dz;rw[hle];simp
    go_wp2
    go_roundw
    case rel=>exact⟨h+1,j,by omega,by omega,by go_num,(by first|rfl|trivial),hb2,X2,λq t hq ht=>by
     rcases Nat.lt_or_ge q h with hlt'|hge
     ·exact Be _ _ _ (HSO.out q h t s hlt' ht HLS.out) hle
     ·rw[show q=h by omega,HLS.out]at ht
      cases ht
      exact hle,HG⟩
    case measure=>simp[intOf];omega
  ·obtain rfl:i=j:=by omega
   by_cases hin:i<n
   ·obtain⟨g,rfl,hNg,hr⟩:=HRN.out.some (by omega)
    have HR:Hid (RowIs w 51 2 g n cap (Ak l)):=hr;have hgl:=hr.lt;clear hr;have HRr:Hid (RowIs wr 51 2 g n cap (Ak l)):=HR.out.below hb hgl;obtain⟨s,hs⟩:∃s,l[i]?=some s:=⟨l[i]'(by rw[HN.out];omega),by rw[List.getElem?_eq_getElem]⟩;have HLS:Hid (l[i]?=some s):=hs;clear hs;have y0:∀p:Regrown,(grow (redrawn wr p.d) p.os).cell? ⟨g,i*2,none⟩=some (.string s.name):=λp=>cell_regrown (HRr.out.cell (AT (c:=Bt.cells) (n:=2) (λ_=>rfl) l i s 0 (.string s.name) HLS.out rfl)) p.d p.os
    have y1:∀p:Regrown,(grow (redrawn wr p.d) p.os).cell? ⟨g,i*2+1,none⟩=some (.bool s.drain):=λp=>cell_regrown (HRr.out.cell (AT (c:=Bt.cells) (n:=2) (λ_=>rfl) l i s 1 (.bool s.drain) HLS.out rfl)) p.d p.os
    have c0:=Aa HX.out 0 rfl;have c1:=Aa HX.out 1 rfl
    go_upto_region 8 with fail
    refine wp_region_quiet_below (by kernel_rfl) (by kernel_rfl) ?_
    repeat (first|go_big_quiet_step (exact Calls.regrown_of (Ej s x _))|quiet_step (exact Calls.regrown_of (Ej s x _)))
    refine wpQuiet_nil ?_;intro w2 hw';obtain⟨⟨dq,osq⟩,hw''⟩:=hw';have hbq:Below wr.heap.size wr w2:=by rw[hw''];exact below_regrown _ _ _
    clear hw'';have hb2:=hb.trans (hbq.mono hb.size);have X2:Hid _:=AK hbq HX.out hzx;clear hbq y0 c0 y1 c1;have HLE:Hid (Op.bytesLess s.name.toList x.name.toList=false):=HG.out i s (AG _) HLS.out;cases hq:(s.name.toList==x.name.toList)
    ·have h0:(Dz s.name x.name==0)=false:=by unfold Dz;rw[HLE.out,hq];rfl
     go_wp2;exact bodyPost_ret (v:=.tuple #[.int .i64 i,.bool false]) (by simp[results,Tryz.results97,go_sem];simpa using h0) rfl ⟨i,false,rfl,by omega,HL.out,λt ht=>HG.out i t (AG _) ht,⟨λh=>absurd h (by simp),λ⟨t,ht,e⟩=>by rw[HLS.out]at ht;cases ht;rw[e]at hq;simp at hq⟩,hb2⟩
    ·have h0:(Dz s.name x.name==0)=true:=by unfold Dz;rw[HLE.out,hq];rfl
     go_wp2;exact bodyPost_ret (v:=.tuple #[.int .i64 i,.bool true]) (by simp[results,Tryz.results97,go_sem];simpa using h0) rfl ⟨i,true,rfl,by omega,HL.out,λt ht=>HG.out i t (AG _) ht,⟨λ_=>⟨s,HLS.out,same_nm.1 hq⟩,λ_=>rfl⟩,hb2⟩
   ·go_upto_region 8 with fail
    refine wp_region_quiet_below (by kernel_rfl) (by kernel_rfl) ?_
    repeat (first|go_big_quiet_step (fail)|quiet_step (fail))
    refine wpQuiet_nil ?_;intro w2 hw';obtain⟨⟨dq,osq⟩,hw''⟩:=hw';have hbq:Below wr.heap.size wr w2:=by rw[hw''];exact below_regrown _ _ _
    clear hw'';have hb2:=hb.trans (hbq.mono hb.size);have HNO:Hid (l[i]?=none):=List.getElem?_eq_none (by rw[HN.out];omega);go_wp2;exact bodyPost_ret (v:=.tuple #[.int .i64 i,.bool false]) (by simp[results,Tryz.results97,go_sem]) rfl ⟨i,false,rfl,by omega,HL.out,λt ht=>HG.out i t (AG _) ht,⟨λh=>absurd h (by simp),λ⟨t,ht,_⟩=>by rw[HNO.out]at ht;cases ht⟩,hb2⟩
theorem bsS_any(l:List Svc)(x:Svc)(ao:Option Addr)(n cap N:Nat)(w:World)(HN:Hid (l.length=n))(hl:n<=1048576)(HSO:Hid (∀(i j:Nat) s t,i<j->l[i]?=some s->l[j]?=some t->Op.bytesLess s.name.toList t.name.toList=true))(hR:RowN w N 29 13 ao n cap (AY l)):
  Calls Tryz.prog 94 #[.slice ao n cap,.agg #[.string x.name,.int .i64 x.version,.bool x.gone,.int .i64 x.image,.int .i64 x.want,.int .i64 x.down,.int .i64 x.over,.int .i64 x.next,.int .i64 x.per,.int .i64 x.least,.int .i64 x.most,.int .i64 x.load,.int .i64 x.cool],.func (.func 74) #[] #[]] w λe w'=>∃(k:Nat) (fd:Bool),e=.returned (.tuple #[.int .i64 k,.bool fd])/\k<=n/\(∀(i:Nat) s,i<k->l[i]?=some s->Op.bytesLess s.name.toList x.name.toList=true)/\(∀s,l[k]?=some s->Op.bytesLess s.name.toList x.name.toList=false)/\(fd=true↔∃s,l[k]?=some s/\s.name=x.name)/\Below w.heap.size w w':=by
 have HRN:Hid (RowN w N 29 13 ao n cap (AY l)):=hR;obtain⟨W0,hW0⟩:∃W,w.alloc (.cells #[.string x.name,.int .i64 x.version,.bool x.gone,.int .i64 x.image,.int .i64 x.want,.int .i64 x.down,.int .i64 x.over,.int .i64 x.next,.int .i64 x.per,.int .i64 x.least,.int .i64 x.most,.int .i64 x.load,.int .i64 x.cool] 29)=W:=⟨_,rfl⟩;have hb0:=AM w (.cells #[.string x.name,.int .i64 x.version,.bool x.gone,.int .i64 x.image,.int .i64 x.want,.int .i64 x.down,.int .i64 x.over,.int .i64 x.next,.int .i64 x.per,.int .i64 x.least,.int .i64 x.most,.int .i64 x.load,.int .i64 x.cool] 29);have T0:Hid _:=heap_alloc_new w (.cells #[.string x.name,.int .i64 x.version,.bool x.gone,.int .i64 x.image,.int .i64 x.want,.int .i64 x.down,.int .i64 x.over,.int .i64 x.next,.int .i64 x.per,.int .i64 x.least,.int .i64 x.most,.int .i64 x.load,.int .i64 x.cool] 29);rw[hW0]at hb0 T0;clear hR;go_enter Tryz.func94,Tryz.ntmps94
 go_upto_region 1 with fail
 clear hW0;go_wp2
 go_loopw [9,10] (λiv jv wr=>∃(i j:Nat),i<=j/\j<=n/\iv=.int .i64 i/\jv=.int .i64 j/\Below w.heap.size w wr/\Hid (wr.heap[w.heap.size]?=some (.cells #[.string x.name,.int .i64 x.version,.bool x.gone,.int .i64 x.image,.int .i64 x.want,.int .i64 x.down,.int .i64 x.over,.int .i64 x.next,.int .i64 x.per,.int .i64 x.least,.int .i64 x.most,.int .i64 x.load,.int .i64 x.cool] 29 (0,0)))/\Hid (∀(q:Nat) s,q<i->l[q]?=some s->Op.bytesLess s.name.toList x.name.toList=true)/\Hid (∀(q:Nat) s,j<=q->l[q]?=some s->Op.bytesLess s.name.toList x.name.toList=false)) (λi j _=>(intOf j).toNat - (intOf i).toNat)
 case atStart=>exact⟨0,n,by omega,by omega,rfl,rfl,hb0,T0,λq s hq=>absurd hq (by omega),λq s hq hs=>absurd (AC hs).1 (by rw[HN.out];omega)⟩
 case round=>
  clear hb0 T0;obtain⟨i,j,hij,hjn,rfl,rfl,hb,HX,HL,HG⟩:=hrel;have hzx:w.heap.size<wr.heap.size:=(AB HX.out).1
  by_cases hlt:i<j
  ·obtain⟨g,rfl,hNg,hr⟩:=HRN.out.some (by omega)
   have HR:Hid (RowIs w 29 13 g n cap (AY l)):=hr;have hgl:=hr.lt;clear hr;have HRr:Hid (RowIs wr 29 13 g n cap (AY l)):=HR.out.below hb hgl
   go_upto_region 5 with fail
   obtain⟨h,hh⟩:∃h:Nat,((i:Int)+(j:Int)) / 2=(h:Int):=⟨(i+j) / 2,by omega⟩;have h1:i<=h:=by omega
   have h2:h<j:=by omega
   rw[hh];clear hh;obtain⟨s,hs⟩:∃s,l[h]?=some s:=⟨l[h]'(by rw[HN.out];omega),by rw[List.getElem?_eq_getElem]⟩;have HLS:Hid (l[h]?=some s):=hs;clear hs;have y0:∀p:Regrown,(grow (redrawn wr p.d) p.os).cell? ⟨g,h*13,none⟩=some (.string s.name):=λp=>cell_regrown (HRr.out.cell (AT (c:=Svc.cells) (n:=13) (λ_=>rfl) l h s 0 (.string s.name) HLS.out rfl)) p.d p.os
   have y1:∀p:Regrown,(grow (redrawn wr p.d) p.os).cell? ⟨g,h*13+1,none⟩=some (.int .i64 s.version):=λp=>cell_regrown (HRr.out.cell (AT (c:=Svc.cells) (n:=13) (λ_=>rfl) l h s 1 (.int .i64 s.version) HLS.out rfl)) p.d p.os
   have y2:∀p:Regrown,(grow (redrawn wr p.d) p.os).cell? ⟨g,h*13+2,none⟩=some (.bool s.gone):=λp=>cell_regrown (HRr.out.cell (AT (c:=Svc.cells) (n:=13) (λ_=>rfl) l h s 2 (.bool s.gone) HLS.out rfl)) p.d p.os
   have y3:∀p:Regrown,(grow (redrawn wr p.d) p.os).cell? ⟨g,h*13+3,none⟩=some (.int .i64 s.image):=λp=>cell_regrown (HRr.out.cell (AT (c:=Svc.cells) (n:=13) (λ_=>rfl) l h s 3 (.int .i64 s.image) HLS.out rfl)) p.d p.os
   have y4:∀p:Regrown,(grow (redrawn wr p.d) p.os).cell? ⟨g,h*13+4,none⟩=some (.int .i64 s.want):=λp=>cell_regrown (HRr.out.cell (AT (c:=Svc.cells) (n:=13) (λ_=>rfl) l h s 4 (.int .i64 s.want) HLS.out rfl)) p.d p.os
   have y5:∀p:Regrown,(grow (redrawn wr p.d) p.os).cell? ⟨g,h*13+5,none⟩=some (.int .i64 s.down):=λp=>cell_regrown (HRr.out.cell (AT (c:=Svc.cells) (n:=13) (λ_=>rfl) l h s 5 (.int .i64 s.down) HLS.out rfl)) p.d p.os
   have y6:∀p:Regrown,(grow (redrawn wr p.d) p.os).cell? ⟨g,h*13+6,none⟩=some (.int .i64 s.over):=λp=>cell_regrown (HRr.out.cell (AT (c:=Svc.cells) (n:=13) (λ_=>rfl) l h s 6 (.int .i64 s.over) HLS.out rfl)) p.d p.os
   have y7:∀p:Regrown,(grow (redrawn wr p.d) p.os).cell? ⟨g,h*13+7,none⟩=some (.int .i64 s.next):=λp=>cell_regrown (HRr.out.cell (AT (c:=Svc.cells) (n:=13) (λ_=>rfl) l h s 7 (.int .i64 s.next) HLS.out rfl)) p.d p.os
   have y8:∀p:Regrown,(grow (redrawn wr p.d) p.os).cell? ⟨g,h*13+8,none⟩=some (.int .i64 s.per):=λp=>cell_regrown (HRr.out.cell (AT (c:=Svc.cells) (n:=13) (λ_=>rfl) l h s 8 (.int .i64 s.per) HLS.out rfl)) p.d p.os
   have y9:∀p:Regrown,(grow (redrawn wr p.d) p.os).cell? ⟨g,h*13+9,none⟩=some (.int .i64 s.least):=λp=>cell_regrown (HRr.out.cell (AT (c:=Svc.cells) (n:=13) (λ_=>rfl) l h s 9 (.int .i64 s.least) HLS.out rfl)) p.d p.os
   have y10:∀p:Regrown,(grow (redrawn wr p.d) p.os).cell? ⟨g,h*13+10,none⟩=some (.int .i64 s.most):=λp=>cell_regrown (HRr.out.cell (AT (c:=Svc.cells) (n:=13) (λ_=>rfl) l h s 10 (.int .i64 s.most) HLS.out rfl)) p.d p.os
   have y11:∀p:Regrown,(grow (redrawn wr p.d) p.os).cell? ⟨g,h*13+11,none⟩=some (.int .i64 s.load):=λp=>cell_regrown (HRr.out.cell (AT (c:=Svc.cells) (n:=13) (λ_=>rfl) l h s 11 (.int .i64 s.load) HLS.out rfl)) p.d p.os
   have y12:∀p:Regrown,(grow (redrawn wr p.d) p.os).cell? ⟨g,h*13+12,none⟩=some (.int .i64 s.cool):=λp=>cell_regrown (HRr.out.cell (AT (c:=Svc.cells) (n:=13) (λ_=>rfl) l h s 12 (.int .i64 s.cool) HLS.out rfl)) p.d p.os
   have c0:=Aa HX.out 0 rfl;have c1:=Aa HX.out 1 rfl;have c2:=Aa HX.out 2 rfl;have c3:=Aa HX.out 3 rfl;have c4:=Aa HX.out 4 rfl;have c5:=Aa HX.out 5 rfl;have c6:=Aa HX.out 6 rfl;have c7:=Aa HX.out 7 rfl;have c8:=Aa HX.out 8 rfl;have c9:=Aa HX.out 9 rfl;have c10:=Aa HX.out 10 rfl;have c11:=Aa HX.out 11 rfl;have c12:=Aa HX.out 12 rfl;refine wp_region_quiet_below (by kernel_rfl) (by kernel_rfl) ?_
   repeat (first|go_big_quiet_step (exact Calls.regrown_of (Ga s x _))|quiet_step (exact Calls.regrown_of (Ga s x _)))
   refine wpQuiet_nil ?_;intro w2 hw';obtain⟨⟨dq,osq⟩,hw''⟩:=hw';have hbq:Below wr.heap.size wr w2:=by rw[hw''];exact below_regrown _ _ _
   clear hw'';have hb2:=hb.trans (hbq.mono hb.size);have X2:Hid _:=AK hbq HX.out hzx;clear hbq y0 c0 y1 c1 y2 c2 y3 c3 y4 c4 y5 c5 y6 c6 y7 c7 y8 c8 y9 c9 y10 c10 y11 c11 y12 c12;cases hle:Op.bytesLess s.name.toList x.name.toList
   ·have h0:¬(Dz s.name x.name<0):=by unfold Dz;rw[hle];simp only[Bool.false_eq_true,if_false];split<;>omega
    go_wp2
    go_roundw
    case rel=>exact⟨i,h,by omega,by omega,(by first|rfl|trivial),(by first|rfl|trivial),hb2,X2,HL,λq t hq ht=>by
     rcases Nat.lt_or_ge h q with hlt'|hge
     ·cases hlx:Op.bytesLess t.name.toList x.name.toList
      ·rfl
      ·exfalso
       have:=Be _ _ _ (HSO.out h q s t hlt' HLS.out ht) hlx;rw[hle]at this;cases this
     ·rw[show q=h by omega,HLS.out]at ht
      cases ht
      exact hle⟩
    case measure=>simp[intOf];omega
   ·have h0:Dz s.name x.name<0:=by unfold Dz;rw[hle];simp
    go_wp2
    go_roundw
    case rel=>exact⟨h+1,j,by omega,by omega,by go_num,(by first|rfl|trivial),hb2,X2,λq t hq ht=>by
     rcases Nat.lt_or_ge q h with hlt'|hge
     ·exact Be _ _ _ (HSO.out q h t s hlt' ht HLS.out) hle
     ·rw[show q=h by omega,HLS.out]at ht
      cases ht
      exact hle,HG⟩
    case measure=>simp[intOf];omega
  ·obtain rfl:i=j:=by omega
   by_cases hin:i<n
   ·obtain⟨g,rfl,hNg,hr⟩:=HRN.out.some (by omega)
    have HR:Hid (RowIs w 29 13 g n cap (AY l)):=hr;have hgl:=hr.lt;clear hr;have HRr:Hid (RowIs wr 29 13 g n cap (AY l)):=HR.out.below hb hgl;obtain⟨s,hs⟩:∃s,l[i]?=some s:=⟨l[i]'(by rw[HN.out];omega),by rw[List.getElem?_eq_getElem]⟩;have HLS:Hid (l[i]?=some s):=hs;clear hs;have y0:∀p:Regrown,(grow (redrawn wr p.d) p.os).cell? ⟨g,i*13,none⟩=some (.string s.name):=λp=>cell_regrown (HRr.out.cell (AT (c:=Svc.cells) (n:=13) (λ_=>rfl) l i s 0 (.string s.name) HLS.out rfl)) p.d p.os
    have y1:∀p:Regrown,(grow (redrawn wr p.d) p.os).cell? ⟨g,i*13+1,none⟩=some (.int .i64 s.version):=λp=>cell_regrown (HRr.out.cell (AT (c:=Svc.cells) (n:=13) (λ_=>rfl) l i s 1 (.int .i64 s.version) HLS.out rfl)) p.d p.os
    have y2:∀p:Regrown,(grow (redrawn wr p.d) p.os).cell? ⟨g,i*13+2,none⟩=some (.bool s.gone):=λp=>cell_regrown (HRr.out.cell (AT (c:=Svc.cells) (n:=13) (λ_=>rfl) l i s 2 (.bool s.gone) HLS.out rfl)) p.d p.os
    have y3:∀p:Regrown,(grow (redrawn wr p.d) p.os).cell? ⟨g,i*13+3,none⟩=some (.int .i64 s.image):=λp=>cell_regrown (HRr.out.cell (AT (c:=Svc.cells) (n:=13) (λ_=>rfl) l i s 3 (.int .i64 s.image) HLS.out rfl)) p.d p.os
    have y4:∀p:Regrown,(grow (redrawn wr p.d) p.os).cell? ⟨g,i*13+4,none⟩=some (.int .i64 s.want):=λp=>cell_regrown (HRr.out.cell (AT (c:=Svc.cells) (n:=13) (λ_=>rfl) l i s 4 (.int .i64 s.want) HLS.out rfl)) p.d p.os
    have y5:∀p:Regrown,(grow (redrawn wr p.d) p.os).cell? ⟨g,i*13+5,none⟩=some (.int .i64 s.down):=λp=>cell_regrown (HRr.out.cell (AT (c:=Svc.cells) (n:=13) (λ_=>rfl) l i s 5 (.int .i64 s.down) HLS.out rfl)) p.d p.os
    have y6:∀p:Regrown,(grow (redrawn wr p.d) p.os).cell? ⟨g,i*13+6,none⟩=some (.int .i64 s.over):=λp=>cell_regrown (HRr.out.cell (AT (c:=Svc.cells) (n:=13) (λ_=>rfl) l i s 6 (.int .i64 s.over) HLS.out rfl)) p.d p.os
    have y7:∀p:Regrown,(grow (redrawn wr p.d) p.os).cell? ⟨g,i*13+7,none⟩=some (.int .i64 s.next):=λp=>cell_regrown (HRr.out.cell (AT (c:=Svc.cells) (n:=13) (λ_=>rfl) l i s 7 (.int .i64 s.next) HLS.out rfl)) p.d p.os
    have y8:∀p:Regrown,(grow (redrawn wr p.d) p.os).cell? ⟨g,i*13+8,none⟩=some (.int .i64 s.per):=λp=>cell_regrown (HRr.out.cell (AT (c:=Svc.cells) (n:=13) (λ_=>rfl) l i s 8 (.int .i64 s.per) HLS.out rfl)) p.d p.os
    have y9:∀p:Regrown,(grow (redrawn wr p.d) p.os).cell? ⟨g,i*13+9,none⟩=some (.int .i64 s.least):=λp=>cell_regrown (HRr.out.cell (AT (c:=Svc.cells) (n:=13) (λ_=>rfl) l i s 9 (.int .i64 s.least) HLS.out rfl)) p.d p.os
    have y10:∀p:Regrown,(grow (redrawn wr p.d) p.os).cell? ⟨g,i*13+10,none⟩=some (.int .i64 s.most):=λp=>cell_regrown (HRr.out.cell (AT (c:=Svc.cells) (n:=13) (λ_=>rfl) l i s 10 (.int .i64 s.most) HLS.out rfl)) p.d p.os
    have y11:∀p:Regrown,(grow (redrawn wr p.d) p.os).cell? ⟨g,i*13+11,none⟩=some (.int .i64 s.load):=λp=>cell_regrown (HRr.out.cell (AT (c:=Svc.cells) (n:=13) (λ_=>rfl) l i s 11 (.int .i64 s.load) HLS.out rfl)) p.d p.os
    have y12:∀p:Regrown,(grow (redrawn wr p.d) p.os).cell? ⟨g,i*13+12,none⟩=some (.int .i64 s.cool):=λp=>cell_regrown (HRr.out.cell (AT (c:=Svc.cells) (n:=13) (λ_=>rfl) l i s 12 (.int .i64 s.cool) HLS.out rfl)) p.d p.os
    have c0:=Aa HX.out 0 rfl;have c1:=Aa HX.out 1 rfl;have c2:=Aa HX.out 2 rfl;have c3:=Aa HX.out 3 rfl;have c4:=Aa HX.out 4 rfl;have c5:=Aa HX.out 5 rfl;have c6:=Aa HX.out 6 rfl;have c7:=Aa HX.out 7 rfl;have c8:=Aa HX.out 8 rfl;have c9:=Aa HX.out 9 rfl;have c10:=Aa HX.out 10 rfl;have c11:=Aa HX.out 11 rfl;have c12:=Aa HX.out 12 rfl
    go_upto_region 8 with fail
    refine wp_region_quiet_below (by kernel_rfl) (by kernel_rfl) ?_
    repeat (first|go_big_quiet_step (exact Calls.regrown_of (Ga s x _))|quiet_step (exact Calls.regrown_of (Ga s x _)))
    refine wpQuiet_nil ?_;intro w2 hw';obtain⟨⟨dq,osq⟩,hw''⟩:=hw';have hbq:Below wr.heap.size wr w2:=by rw[hw''];exact below_regrown _ _ _
    clear hw'';have hb2:=hb.trans (hbq.mono hb.size);have X2:Hid _:=AK hbq HX.out hzx;clear hbq y0 c0 y1 c1 y2 c2 y3 c3 y4 c4 y5 c5 y6 c6 y7 c7 y8 c8 y9 c9 y10 c10 y11 c11 y12 c12;have HLE:Hid (Op.bytesLess s.name.toList x.name.toList=false):=HG.out i s (AG _) HLS.out;cases hq:(s.name.toList==x.name.toList)
    ·have h0:(Dz s.name x.name==0)=false:=by unfold Dz;rw[HLE.out,hq];rfl
     go_wp2;exact bodyPost_ret (v:=.tuple #[.int .i64 i,.bool false]) (by simp[results,Tryz.results94,go_sem];simpa using h0) rfl ⟨i,false,rfl,by omega,HL.out,λt ht=>HG.out i t (AG _) ht,⟨λh=>absurd h (by simp),λ⟨t,ht,e⟩=>by rw[HLS.out]at ht;cases ht;rw[e]at hq;simp at hq⟩,hb2⟩
    ·have h0:(Dz s.name x.name==0)=true:=by unfold Dz;rw[HLE.out,hq];rfl
     go_wp2;exact bodyPost_ret (v:=.tuple #[.int .i64 i,.bool true]) (by simp[results,Tryz.results94,go_sem];simpa using h0) rfl ⟨i,true,rfl,by omega,HL.out,λt ht=>HG.out i t (AG _) ht,⟨λ_=>⟨s,HLS.out,same_nm.1 hq⟩,λ_=>rfl⟩,hb2⟩
   ·go_upto_region 8 with fail
    refine wp_region_quiet_below (by kernel_rfl) (by kernel_rfl) ?_
    repeat (first|go_big_quiet_step (fail)|quiet_step (fail))
    refine wpQuiet_nil ?_;intro w2 hw';obtain⟨⟨dq,osq⟩,hw''⟩:=hw';have hbq:Below wr.heap.size wr w2:=by rw[hw''];exact below_regrown _ _ _
    clear hw'';have hb2:=hb.trans (hbq.mono hb.size);have HNO:Hid (l[i]?=none):=List.getElem?_eq_none (by rw[HN.out];omega);go_wp2;exact bodyPost_ret (v:=.tuple #[.int .i64 i,.bool false]) (by simp[results,Tryz.results94,go_sem]) rfl ⟨i,false,rfl,by omega,HL.out,λt ht=>HG.out i t (AG _) ht,⟨λh=>absurd h (by simp),λ⟨t,ht,_⟩=>by rw[HNO.out]at ht;cases ht⟩,hb2⟩
theorem Ma(l:List Bt)(x:Bt)(ao:Option Addr)(n cap N:Nat)(w:World)(HN:Hid (l.length=n))(hl:n<=1048000)(HSO:Hid (∀(i j:Nat) s t,i<j->l[i]?=some s->l[j]?=some t->Op.bytesLess s.name.toList t.name.toList=true))(hN:N<=w.heap.size)(hR:RowN w N 51 2 ao n cap (Ak l)):
  Calls Tryz.prog 80 #[.slice ao n cap,.agg #[.string x.name,.bool x.drain],.func (.func 81) #[] #[]] w λe w'=>∃bo n' k,e=.returned (.slice bo n' k)/\n'=(BT EP l x).length/\RowN w' N 51 2 bo n' k (Ak (BT EP l x))/\(∀q,q<w.heap.size->ao≠some ⟨q,0,none⟩->w'.heap[q]?=w.heap[q]?)/\Below N w w':=by
 have HRN:=Ay hR;obtain⟨W0,hW0⟩:∃W,w.alloc (.cells #[.string x.name,.bool x.drain] 51)=W:=⟨_,rfl⟩;have hb0:=AM w (.cells #[.string x.name,.bool x.drain] 51);have T0:Hid (W0.heap[w.heap.size]?=some (.cells #[.string x.name,.bool x.drain] 51 (0,0))):=by unfold Hid;rw[<-hW0];exact heap_alloc_new w (.cells #[.string x.name,.bool x.drain] 51)
 rw[hW0]at hb0;have hz0:=(AB T0.out).1
 have hao:∀g,ao=some ⟨g,0,none⟩->g<w.heap.size:=λg hg=>by
  rcases HRN.out with h|⟨g',h1,_,h3⟩
  ·rw[h.1]at hg;cases hg
  ·rw[h1]at hg;cases hg;exact h3.lt
 clear hR;go_enter Tryz.func80,Tryz.ntmps80
 go_upto_region 1 with fail
 clear hW0
 go_wp2_with (refine wpList_load_row rfl 51 (.tmp 4) rfl w.heap.size rfl 51 #[.string x.name,.bool x.drain] (0,0) _ T0.out Tryz.underlying51 rfl Tryz.infosBtI ?_)
 refine(bsB_any l x ao n cap N W0 HN (by omega) HSO (HRN.out.below hb0)).mono ?_;rintro e w1 ⟨k,fd,rfl,hkn,hA,hno,hfd,hbq⟩;have hb1:=hb0.trans (hbq.mono hb0.size);have T1:Hid (w1.heap[w.heap.size]?=some (.cells #[.string x.name,.bool x.drain] 51 (0,0))):=AK hbq T0.out hz0;have HR1:Hid (RowN w1 N 51 2 ao n cap (Ak l)):=HRN.out.below hb1;have HK:Hid (CE (λt=>Op.bytesLess (EP t) (EP x)) l=k):=Dp (by rw[HN.out];exact hkn) hA hno;have HFD:Hid _:=hfd;have hz1:=(AB T1.out).1;clear hA hno hfd hbq T0 HRN;cases fd
 ·have HP:Hid (BT EP l x=l.take k++x::l.drop k):=by
   cases hk:l[k]? with
   |none=>exact Fn HK.out hk
   |some s=>
    refine EB HK.out hk ?_;cases hq:(EP s==EP x)
    ·rfl
    ·exact absurd (HFD.out.2 ⟨s,hk,same_nm.1 hq⟩) (by simp)
  obtain⟨W2,hW2⟩:∃W,w1.alloc (.cells #[.string x.name,.bool x.drain] 51)=W:=⟨_,rfl⟩;have hb2a:=AM w1 (.cells #[.string x.name,.bool x.drain] 51);have T2:Hid (W2.heap[w1.heap.size]?=some (.cells #[.string x.name,.bool x.drain] 51 (0,0))):=by unfold Hid;rw[<-hW2];exact heap_alloc_new w1 (.cells #[.string x.name,.bool x.drain] 51)
  rw[hW2]at hb2a;have hs1:=hb1.size
  go_wp2_with (refine wpList_load_row rfl 51 (.tmp 4) rfl w.heap.size rfl 51 #[.string x.name,.bool x.drain] (0,0) _ T1.out Tryz.underlying51 rfl Tryz.infosBtI ?_)
  refine(insB_any l x ao n cap k N w1.heap.size W2 HN (by omega) hkn (by have:=hb2a.size;omega) (HR1.out.below hb2a) T2.out (λh=>by have:=hao _ h;omega)).mono ?_;rintro e w3 ⟨bo,kk,rfl,hr3,hkp,hb3⟩;have HR3:=Ay hr3;have HKP:Hid _:=hkp;clear hr3 hkp hW2;go_wp2;go_ret;refine⟨bo,n+1,kk,rfl,?_,by rw[HP.out];exact HR3.out,λq hq hne=>?_,(hb1.mono' hN).trans ((hb2a.mono' (by omega)).trans hb3)⟩
  ·rw[HP.out,List.length_append,List.length_cons,List.length_take,List.length_drop,HN.out];omega
  ·exact(HKP.out q (by have:=hb2a.size;omega) hne).trans ((hb2a.block q (by omega)).trans (hb1.block q hq))
 ·obtain⟨s,hs,hsn⟩:=HFD.out.1 rfl
  have hlt:k<n:=by have:=(AC hs).1;rw[HN.out]at this;exact this
  have HP:Hid (BT EP l x=l.set k x):=by
   unfold Hid;rw[El HK.out hs (same_nm.2 hsn),List.set_eq_take_append_cons_drop,if_pos (by rw[HN.out];exact hlt)]
  have HKL:Hid (k<l.length):=by unfold Hid;rw[HN.out];exact hlt
  obtain⟨g,rfl,hNg,hr⟩:=HR1.out.some (by omega);have HR:Hid (RowIs w1 51 2 g n cap (Ak l)):=hr;have hfit:k*2+2<=n*2:=by omega
  clear hr hs hsn HFD
  go_wp2_with (first
   |(refine wpList_load_row rfl 51 (.tmp 4) rfl w.heap.size rfl 51 #[.string x.name,.bool x.drain] (0,0) _ T1.out Tryz.underlying51 rfl Tryz.infosBtI ?_)
   |(refine Cv rfl 51 (.tmp 20) (.tmp 19) rfl g (k*2) #[.string x.name,.bool x.drain] rfl rfl Tryz.infosBtI (by simp[Value.oneCell']) 51 2 n cap _ HR.out (by show k*2+2<=n*2;omega) ?_;intro w2 hr on;have HR2:Hid (RowIs w2 51 2 g n cap (Ak (l.set k x))):=(by have h:=hr.out;rw[show splice (Ak l) (k*2) (#[.string x.name,.bool x.drain]:Array Value).toList=Ak (l.set k x) from C4 (c:=Bt.cells) (n:=2) (λ_=>rfl) l k x HKL.out]at h;exact h);have HON:Hid (BA g w1 w2):=on;clear hr on))
  go_ret;exact⟨some ⟨g,0,none⟩,n,cap,rfl,by rw[HP.out,List.length_set,HN.out],by rw[HP.out];exact .inr ⟨g,rfl,hNg,HR2.out⟩,λq hq hne=>(HON.out.other q (λe=>hne (by rw[e]))).trans (hb1.block q hq),(hb1.mono' hN).trans (HON.out.below.mono' hNg)⟩
theorem I1(l:List Svc)(x:Svc)(ao:Option Addr)(n cap N:Nat)(w:World)(HN:Hid (l.length=n))(hl:n<=1048000)(HSO:Hid (∀(i j:Nat) s t,i<j->l[i]?=some s->l[j]?=some t->Op.bytesLess s.name.toList t.name.toList=true))(hN:N<=w.heap.size)(hR:RowN w N 29 13 ao n cap (AY l)):
  Calls Tryz.prog 73 #[.slice ao n cap,.agg #[.string x.name,.int .i64 x.version,.bool x.gone,.int .i64 x.image,.int .i64 x.want,.int .i64 x.down,.int .i64 x.over,.int .i64 x.next,.int .i64 x.per,.int .i64 x.least,.int .i64 x.most,.int .i64 x.load,.int .i64 x.cool],.func (.func 74) #[] #[]] w λe w'=>∃bo n' k,e=.returned (.slice bo n' k)/\n'=(BT Bv l x).length/\RowN w' N 29 13 bo n' k (AY (BT Bv l x))/\(∀q,q<w.heap.size->ao≠some ⟨q,0,none⟩->w'.heap[q]?=w.heap[q]?)/\Below N w w':=by
 have HRN:=Ay hR;obtain⟨W0,hW0⟩:∃W,w.alloc (.cells #[.string x.name,.int .i64 x.version,.bool x.gone,.int .i64 x.image,.int .i64 x.want,.int .i64 x.down,.int .i64 x.over,.int .i64 x.next,.int .i64 x.per,.int .i64 x.least,.int .i64 x.most,.int .i64 x.load,.int .i64 x.cool] 29)=W:=⟨_,rfl⟩;have hb0:=AM w (.cells #[.string x.name,.int .i64 x.version,.bool x.gone,.int .i64 x.image,.int .i64 x.want,.int .i64 x.down,.int .i64 x.over,.int .i64 x.next,.int .i64 x.per,.int .i64 x.least,.int .i64 x.most,.int .i64 x.load,.int .i64 x.cool] 29);have T0:Hid (W0.heap[w.heap.size]?=some (.cells #[.string x.name,.int .i64 x.version,.bool x.gone,.int .i64 x.image,.int .i64 x.want,.int .i64 x.down,.int .i64 x.over,.int .i64 x.next,.int .i64 x.per,.int .i64 x.least,.int .i64 x.most,.int .i64 x.load,.int .i64 x.cool] 29 (0,0))):=by unfold Hid;rw[<-hW0];exact heap_alloc_new w (.cells #[.string x.name,.int .i64 x.version,.bool x.gone,.int .i64 x.image,.int .i64 x.want,.int .i64 x.down,.int .i64 x.over,.int .i64 x.next,.int .i64 x.per,.int .i64 x.least,.int .i64 x.most,.int .i64 x.load,.int .i64 x.cool] 29)
 rw[hW0]at hb0;have hz0:=(AB T0.out).1
 have hao:∀g,ao=some ⟨g,0,none⟩->g<w.heap.size:=λg hg=>by
  rcases HRN.out with h|⟨g',h1,_,h3⟩
  ·rw[h.1]at hg;cases hg
  ·rw[h1]at hg;cases hg;exact h3.lt
 clear hR;go_enter Tryz.func73,Tryz.ntmps73
 go_upto_region 1 with fail
 clear hW0
 go_wp2_with (refine wpList_load_row rfl 29 (.tmp 4) rfl w.heap.size rfl 29 #[.string x.name,.int .i64 x.version,.bool x.gone,.int .i64 x.image,.int .i64 x.want,.int .i64 x.down,.int .i64 x.over,.int .i64 x.next,.int .i64 x.per,.int .i64 x.least,.int .i64 x.most,.int .i64 x.load,.int .i64 x.cool] (0,0) _ T0.out Tryz.underlying29 rfl Tryz.infosSvcI ?_)
 refine(bsS_any l x ao n cap N W0 HN (by omega) HSO (HRN.out.below hb0)).mono ?_;rintro e w1 ⟨k,fd,rfl,hkn,hA,hno,hfd,hbq⟩;have hb1:=hb0.trans (hbq.mono hb0.size);have T1:Hid (w1.heap[w.heap.size]?=some (.cells #[.string x.name,.int .i64 x.version,.bool x.gone,.int .i64 x.image,.int .i64 x.want,.int .i64 x.down,.int .i64 x.over,.int .i64 x.next,.int .i64 x.per,.int .i64 x.least,.int .i64 x.most,.int .i64 x.load,.int .i64 x.cool] 29 (0,0))):=AK hbq T0.out hz0;have HR1:Hid (RowN w1 N 29 13 ao n cap (AY l)):=HRN.out.below hb1;have HK:Hid (CE (λt=>Op.bytesLess (Bv t) (Bv x)) l=k):=Dp (by rw[HN.out];exact hkn) hA hno;have HFD:Hid _:=hfd;have hz1:=(AB T1.out).1;clear hA hno hfd hbq T0 HRN;cases fd
 ·have HP:Hid (BT Bv l x=l.take k++x::l.drop k):=by
   cases hk:l[k]? with
   |none=>exact Fn HK.out hk
   |some s=>
    refine EB HK.out hk ?_;cases hq:(Bv s==Bv x)
    ·rfl
    ·exact absurd (HFD.out.2 ⟨s,hk,same_nm.1 hq⟩) (by simp)
  obtain⟨W2,hW2⟩:∃W,w1.alloc (.cells #[.string x.name,.int .i64 x.version,.bool x.gone,.int .i64 x.image,.int .i64 x.want,.int .i64 x.down,.int .i64 x.over,.int .i64 x.next,.int .i64 x.per,.int .i64 x.least,.int .i64 x.most,.int .i64 x.load,.int .i64 x.cool] 29)=W:=⟨_,rfl⟩;have hb2a:=AM w1 (.cells #[.string x.name,.int .i64 x.version,.bool x.gone,.int .i64 x.image,.int .i64 x.want,.int .i64 x.down,.int .i64 x.over,.int .i64 x.next,.int .i64 x.per,.int .i64 x.least,.int .i64 x.most,.int .i64 x.load,.int .i64 x.cool] 29);have T2:Hid (W2.heap[w1.heap.size]?=some (.cells #[.string x.name,.int .i64 x.version,.bool x.gone,.int .i64 x.image,.int .i64 x.want,.int .i64 x.down,.int .i64 x.over,.int .i64 x.next,.int .i64 x.per,.int .i64 x.least,.int .i64 x.most,.int .i64 x.load,.int .i64 x.cool] 29 (0,0))):=by unfold Hid;rw[<-hW2];exact heap_alloc_new w1 (.cells #[.string x.name,.int .i64 x.version,.bool x.gone,.int .i64 x.image,.int .i64 x.want,.int .i64 x.down,.int .i64 x.over,.int .i64 x.next,.int .i64 x.per,.int .i64 x.least,.int .i64 x.most,.int .i64 x.load,.int .i64 x.cool] 29)
  rw[hW2]at hb2a;have hs1:=hb1.size
  go_wp2_with (refine wpList_load_row rfl 29 (.tmp 4) rfl w.heap.size rfl 29 #[.string x.name,.int .i64 x.version,.bool x.gone,.int .i64 x.image,.int .i64 x.want,.int .i64 x.down,.int .i64 x.over,.int .i64 x.next,.int .i64 x.per,.int .i64 x.least,.int .i64 x.most,.int .i64 x.load,.int .i64 x.cool] (0,0) _ T1.out Tryz.underlying29 rfl Tryz.infosSvcI ?_)
  refine(insS_any l x ao n cap k N w1.heap.size W2 HN (by omega) hkn (by have:=hb2a.size;omega) (HR1.out.below hb2a) T2.out (λh=>by have:=hao _ h;omega)).mono ?_;rintro e w3 ⟨bo,kk,rfl,hr3,hkp,hb3⟩;have HR3:=Ay hr3;have HKP:Hid _:=hkp;clear hr3 hkp hW2;go_wp2;go_ret;refine⟨bo,n+1,kk,rfl,?_,by rw[HP.out];exact HR3.out,λq hq hne=>?_,(hb1.mono' hN).trans ((hb2a.mono' (by omega)).trans hb3)⟩
  ·rw[HP.out,List.length_append,List.length_cons,List.length_take,List.length_drop,HN.out];omega
  ·exact(HKP.out q (by have:=hb2a.size;omega) hne).trans ((hb2a.block q (by omega)).trans (hb1.block q hq))
 ·obtain⟨s,hs,hsn⟩:=HFD.out.1 rfl
  have hlt:k<n:=by have:=(AC hs).1;rw[HN.out]at this;exact this
  have HP:Hid (BT Bv l x=l.set k x):=by
   unfold Hid;rw[El HK.out hs (same_nm.2 hsn),List.set_eq_take_append_cons_drop,if_pos (by rw[HN.out];exact hlt)]
  have HKL:Hid (k<l.length):=by unfold Hid;rw[HN.out];exact hlt
  obtain⟨g,rfl,hNg,hr⟩:=HR1.out.some (by omega);have HR:Hid (RowIs w1 29 13 g n cap (AY l)):=hr;have hfit:k*13+13<=n*13:=by omega
  clear hr hs hsn HFD
  go_wp2_with (first
   |(refine wpList_load_row rfl 29 (.tmp 4) rfl w.heap.size rfl 29 #[.string x.name,.int .i64 x.version,.bool x.gone,.int .i64 x.image,.int .i64 x.want,.int .i64 x.down,.int .i64 x.over,.int .i64 x.next,.int .i64 x.per,.int .i64 x.least,.int .i64 x.most,.int .i64 x.load,.int .i64 x.cool] (0,0) _ T1.out Tryz.underlying29 rfl Tryz.infosSvcI ?_)
   |(refine Cv rfl 29 (.tmp 20) (.tmp 19) rfl g (k*13) #[.string x.name,.int .i64 x.version,.bool x.gone,.int .i64 x.image,.int .i64 x.want,.int .i64 x.down,.int .i64 x.over,.int .i64 x.next,.int .i64 x.per,.int .i64 x.least,.int .i64 x.most,.int .i64 x.load,.int .i64 x.cool] rfl rfl Tryz.infosSvcI (by simp[Value.oneCell']) 29 13 n cap _ HR.out (by show k*13+13<=n*13;omega) ?_;intro w2 hr on;have HR2:Hid (RowIs w2 29 13 g n cap (AY (l.set k x))):=(by have h:=hr.out;rw[show splice (AY l) (k*13) (#[.string x.name,.int .i64 x.version,.bool x.gone,.int .i64 x.image,.int .i64 x.want,.int .i64 x.down,.int .i64 x.over,.int .i64 x.next,.int .i64 x.per,.int .i64 x.least,.int .i64 x.most,.int .i64 x.load,.int .i64 x.cool]:Array Value).toList=AY (l.set k x) from C4 (c:=Svc.cells) (n:=13) (λ_=>rfl) l k x HKL.out]at h;exact h);have HON:Hid (BA g w1 w2):=on;clear hr on))
  go_ret;exact⟨some ⟨g,0,none⟩,n,cap,rfl,by rw[HP.out,List.length_set,HN.out],by rw[HP.out];exact .inr ⟨g,rfl,hNg,HR2.out⟩,λq hq hne=>(HON.out.other q (λe=>hne (by rw[e]))).trans (hb1.block q hq),(hb1.mono' hN).trans (HON.out.below.mono' hNg)⟩
end
end Go.Proofs.YtbceafpodamnfaaGreat
