import Derived.Test.YtbceafpodamnfaaGreatH38
import Derived.Test.YtbceafpodamnfaaGreatH40
set_option linter.all false
set_option maxHeartbeats 16000000
set_option maxRecDepth 100000
namespace Go.Proofs.YtbceafpodamnfaaGreat
section
open Go.RowKit Go.Sort
theorem eventOf1(E:Ev)(A:Nat)(w:World):
  Calls Tryz.prog 33 #[.agg #[.int .i64 1,.string E.service.name,.int .i64 E.service.version,.bool E.service.gone,.int .i64 E.service.image,.int .i64 E.service.want,.int .i64 E.service.down,.int .i64 E.service.over,.int .i64 E.service.next,.int .i64 E.service.per,.int .i64 E.service.least,.int .i64 E.service.most,.int .i64 E.service.load,.int .i64 E.service.cool,.string E.name,.int .i64 E.number,.bool E.flag],.agg #[.pointer (some ⟨A,0,none⟩)]] w λe w'=>e=.returned (.iface 90 (.agg #[.pointer (some ⟨A,0,none⟩)]))/\Below w.heap.size w w':=by
 obtain⟨W0,hW0,t0,t1,hz0,hz0',hb0⟩:=C8 w (.cells #[.int .i64 1,.string E.service.name,.int .i64 E.service.version,.bool E.service.gone,.int .i64 E.service.image,.int .i64 E.service.want,.int .i64 E.service.down,.int .i64 E.service.over,.int .i64 E.service.next,.int .i64 E.service.per,.int .i64 E.service.least,.int .i64 E.service.most,.int .i64 E.service.load,.int .i64 E.service.cool,.string E.name,.int .i64 E.number,.bool E.flag] 31) (.cells #[.pointer (some ⟨A,0,none⟩)] 66);have q0:=AJ t0 0 rfl;have p0:=AJ t1 0 rfl
 skip
 clear t0 t1;go_enter Tryz.func33,Tryz.ntmps33
 go_upto_region 1 with fail
 clear hW0;go_wp2;go_ret;exact⟨rfl,hb0⟩
theorem eventOf2(E:Ev)(A:Nat)(w:World):
  Calls Tryz.prog 33 #[.agg #[.int .i64 2,.string E.service.name,.int .i64 E.service.version,.bool E.service.gone,.int .i64 E.service.image,.int .i64 E.service.want,.int .i64 E.service.down,.int .i64 E.service.over,.int .i64 E.service.next,.int .i64 E.service.per,.int .i64 E.service.least,.int .i64 E.service.most,.int .i64 E.service.load,.int .i64 E.service.cool,.string E.name,.int .i64 E.number,.bool E.flag],.agg #[.pointer (some ⟨A,0,none⟩)]] w λe w'=>e=.returned (.iface 92 (.agg #[.pointer (some ⟨A,0,none⟩),.string E.service.name,.int .i64 E.service.version,.bool E.service.gone,.int .i64 E.service.image,.int .i64 E.service.want,.int .i64 E.service.down,.int .i64 E.service.over,.int .i64 E.service.next,.int .i64 E.service.per,.int .i64 E.service.least,.int .i64 E.service.most,.int .i64 E.service.load,.int .i64 E.service.cool]))/\Below w.heap.size w w':=by
 obtain⟨W0,hW0,t0,t1,hz0,hz0',hb0⟩:=C8 w (.cells #[.int .i64 2,.string E.service.name,.int .i64 E.service.version,.bool E.service.gone,.int .i64 E.service.image,.int .i64 E.service.want,.int .i64 E.service.down,.int .i64 E.service.over,.int .i64 E.service.next,.int .i64 E.service.per,.int .i64 E.service.least,.int .i64 E.service.most,.int .i64 E.service.load,.int .i64 E.service.cool,.string E.name,.int .i64 E.number,.bool E.flag] 31) (.cells #[.pointer (some ⟨A,0,none⟩)] 66);have q0:=AJ t0 0 rfl;have p0:=AJ t1 0 rfl;have q1:=AJ t0 1 rfl;have q2:=AJ t0 2 rfl;have q3:=AJ t0 3 rfl;have q4:=AJ t0 4 rfl;have q5:=AJ t0 5 rfl;have q6:=AJ t0 6 rfl;have q7:=AJ t0 7 rfl;have q8:=AJ t0 8 rfl;have q9:=AJ t0 9 rfl;have q10:=AJ t0 10 rfl;have q11:=AJ t0 11 rfl;have q12:=AJ t0 12 rfl;have q13:=AJ t0 13 rfl;clear t0 t1;go_enter Tryz.func33,Tryz.ntmps33
 go_upto_region 1 with fail
 clear hW0;go_wp2;go_ret;exact⟨rfl,hb0⟩
theorem eventOf3(E:Ev)(A:Nat)(w:World):
  Calls Tryz.prog 33 #[.agg #[.int .i64 3,.string E.service.name,.int .i64 E.service.version,.bool E.service.gone,.int .i64 E.service.image,.int .i64 E.service.want,.int .i64 E.service.down,.int .i64 E.service.over,.int .i64 E.service.next,.int .i64 E.service.per,.int .i64 E.service.least,.int .i64 E.service.most,.int .i64 E.service.load,.int .i64 E.service.cool,.string E.name,.int .i64 E.number,.bool E.flag],.agg #[.pointer (some ⟨A,0,none⟩)]] w λe w'=>e=.returned (.iface 97 (.agg #[.pointer (some ⟨A,0,none⟩),.string E.name,.int .i64 E.number]))/\Below w.heap.size w w':=by
 obtain⟨W0,hW0,t0,t1,hz0,hz0',hb0⟩:=C8 w (.cells #[.int .i64 3,.string E.service.name,.int .i64 E.service.version,.bool E.service.gone,.int .i64 E.service.image,.int .i64 E.service.want,.int .i64 E.service.down,.int .i64 E.service.over,.int .i64 E.service.next,.int .i64 E.service.per,.int .i64 E.service.least,.int .i64 E.service.most,.int .i64 E.service.load,.int .i64 E.service.cool,.string E.name,.int .i64 E.number,.bool E.flag] 31) (.cells #[.pointer (some ⟨A,0,none⟩)] 66);have q0:=AJ t0 0 rfl;have p0:=AJ t1 0 rfl;have q14:=AJ t0 14 rfl;have q15:=AJ t0 15 rfl;clear t0 t1;go_enter Tryz.func33,Tryz.ntmps33
 go_upto_region 1 with fail
 clear hW0;go_wp2;go_ret;exact⟨rfl,hb0⟩
theorem eventOf4(E:Ev)(A:Nat)(w:World):
  Calls Tryz.prog 33 #[.agg #[.int .i64 4,.string E.service.name,.int .i64 E.service.version,.bool E.service.gone,.int .i64 E.service.image,.int .i64 E.service.want,.int .i64 E.service.down,.int .i64 E.service.over,.int .i64 E.service.next,.int .i64 E.service.per,.int .i64 E.service.least,.int .i64 E.service.most,.int .i64 E.service.load,.int .i64 E.service.cool,.string E.name,.int .i64 E.number,.bool E.flag],.agg #[.pointer (some ⟨A,0,none⟩)]] w λe w'=>e=.returned (.iface 99 (.agg #[.pointer (some ⟨A,0,none⟩),.string E.name]))/\Below w.heap.size w w':=by
 obtain⟨W0,hW0,t0,t1,hz0,hz0',hb0⟩:=C8 w (.cells #[.int .i64 4,.string E.service.name,.int .i64 E.service.version,.bool E.service.gone,.int .i64 E.service.image,.int .i64 E.service.want,.int .i64 E.service.down,.int .i64 E.service.over,.int .i64 E.service.next,.int .i64 E.service.per,.int .i64 E.service.least,.int .i64 E.service.most,.int .i64 E.service.load,.int .i64 E.service.cool,.string E.name,.int .i64 E.number,.bool E.flag] 31) (.cells #[.pointer (some ⟨A,0,none⟩)] 66);have q0:=AJ t0 0 rfl;have p0:=AJ t1 0 rfl;have q14:=AJ t0 14 rfl;clear t0 t1;go_enter Tryz.func33,Tryz.ntmps33
 go_upto_region 1 with fail
 clear hW0;go_wp2;go_ret;exact⟨rfl,hb0⟩
theorem eventOf5(E:Ev)(A:Nat)(w:World):
  Calls Tryz.prog 33 #[.agg #[.int .i64 5,.string E.service.name,.int .i64 E.service.version,.bool E.service.gone,.int .i64 E.service.image,.int .i64 E.service.want,.int .i64 E.service.down,.int .i64 E.service.over,.int .i64 E.service.next,.int .i64 E.service.per,.int .i64 E.service.least,.int .i64 E.service.most,.int .i64 E.service.load,.int .i64 E.service.cool,.string E.name,.int .i64 E.number,.bool E.flag],.agg #[.pointer (some ⟨A,0,none⟩)]] w λe w'=>e=.returned (.iface 101 (.agg #[.pointer (some ⟨A,0,none⟩),.string E.name,.bool E.flag]))/\Below w.heap.size w w':=by
 obtain⟨W0,hW0,t0,t1,hz0,hz0',hb0⟩:=C8 w (.cells #[.int .i64 5,.string E.service.name,.int .i64 E.service.version,.bool E.service.gone,.int .i64 E.service.image,.int .i64 E.service.want,.int .i64 E.service.down,.int .i64 E.service.over,.int .i64 E.service.next,.int .i64 E.service.per,.int .i64 E.service.least,.int .i64 E.service.most,.int .i64 E.service.load,.int .i64 E.service.cool,.string E.name,.int .i64 E.number,.bool E.flag] 31) (.cells #[.pointer (some ⟨A,0,none⟩)] 66);have q0:=AJ t0 0 rfl;have p0:=AJ t1 0 rfl;have q14:=AJ t0 14 rfl;have q16:=AJ t0 16 rfl;clear t0 t1;go_enter Tryz.func33,Tryz.ntmps33
 go_upto_region 1 with fail
 clear hW0;go_wp2;go_ret;exact⟨rfl,hb0⟩
theorem eventOf6(E:Ev)(A:Nat)(w:World):
  Calls Tryz.prog 33 #[.agg #[.int .i64 6,.string E.service.name,.int .i64 E.service.version,.bool E.service.gone,.int .i64 E.service.image,.int .i64 E.service.want,.int .i64 E.service.down,.int .i64 E.service.over,.int .i64 E.service.next,.int .i64 E.service.per,.int .i64 E.service.least,.int .i64 E.service.most,.int .i64 E.service.load,.int .i64 E.service.cool,.string E.name,.int .i64 E.number,.bool E.flag],.agg #[.pointer (some ⟨A,0,none⟩)]] w λe w'=>e=.returned (.iface 103 (.agg #[.pointer (some ⟨A,0,none⟩),.string E.name,.int .i64 E.number]))/\Below w.heap.size w w':=by
 obtain⟨W0,hW0,t0,t1,hz0,hz0',hb0⟩:=C8 w (.cells #[.int .i64 6,.string E.service.name,.int .i64 E.service.version,.bool E.service.gone,.int .i64 E.service.image,.int .i64 E.service.want,.int .i64 E.service.down,.int .i64 E.service.over,.int .i64 E.service.next,.int .i64 E.service.per,.int .i64 E.service.least,.int .i64 E.service.most,.int .i64 E.service.load,.int .i64 E.service.cool,.string E.name,.int .i64 E.number,.bool E.flag] 31) (.cells #[.pointer (some ⟨A,0,none⟩)] 66);have q0:=AJ t0 0 rfl;have p0:=AJ t1 0 rfl;have q14:=AJ t0 14 rfl;have q15:=AJ t0 15 rfl;clear t0 t1;go_enter Tryz.func33,Tryz.ntmps33
 go_upto_region 1 with fail
 clear hW0;go_wp2;go_ret;exact⟨rfl,hb0⟩
theorem eventOf0(E:Ev)(A:Nat)(w:World)(h1:E.kind≠1)(h2:E.kind≠2)(h3:E.kind≠3)(h4:E.kind≠4)(h5:E.kind≠5)(h6:E.kind≠6):
  Calls Tryz.prog 33 #[.agg #[.int .i64 E.kind,.string E.service.name,.int .i64 E.service.version,.bool E.service.gone,.int .i64 E.service.image,.int .i64 E.service.want,.int .i64 E.service.down,.int .i64 E.service.over,.int .i64 E.service.next,.int .i64 E.service.per,.int .i64 E.service.least,.int .i64 E.service.most,.int .i64 E.service.load,.int .i64 E.service.cool,.string E.name,.int .i64 E.number,.bool E.flag],.agg #[.pointer (some ⟨A,0,none⟩)]] w λe w'=>e=.returned (.nilIface)/\Below w.heap.size w w':=by
 obtain⟨W0,hW0,t0,t1,hz0,hz0',hb0⟩:=C8 w (.cells #[.int .i64 E.kind,.string E.service.name,.int .i64 E.service.version,.bool E.service.gone,.int .i64 E.service.image,.int .i64 E.service.want,.int .i64 E.service.down,.int .i64 E.service.over,.int .i64 E.service.next,.int .i64 E.service.per,.int .i64 E.service.least,.int .i64 E.service.most,.int .i64 E.service.load,.int .i64 E.service.cool,.string E.name,.int .i64 E.number,.bool E.flag] 31) (.cells #[.pointer (some ⟨A,0,none⟩)] 66);have q0:=AJ t0 0 rfl;have p0:=AJ t1 0 rfl
 skip
 clear t0 t1;go_enter Tryz.func33,Tryz.ntmps33
 go_upto_region 1 with fail
 clear hW0;go_wp2;go_ret;exact⟨rfl,hb0⟩
theorem Mn(l:List Cp)(nm:ByteArray)(A E:Nat)(ao:Option Addr)(n cap N:Nat)(w:World)(HN:Hid (l.length=n))(hl:n<=1048576)(hE:w.heap[E]?=some (.cells #[.pointer (some ⟨A,0,none⟩),.string nm] 99 (0,0)))(hR:RowN w N 49 7 ao n cap (As l)):
  Calls Tryz.prog 88 #[.slice ao n cap,.func (.func 79) #[] #[.pointer (some ⟨E,0,none⟩)]] w λe w'=>∃k:Int,e=.returned (.int .i64 k)/\((k= -1/\∀c∈l,(c.berth.toList==nm.toList)=false)\/∃i:Nat,k=i/\i<n/\(∀(j:Nat) c,j<i->l[j]?=some c->(c.berth.toList==nm.toList)=false)/\∃c,l[i]?=some c/\(c.berth.toList==nm.toList)=true)/\Below w.heap.size w w':=by
 have HRN:=Ay hR;clear hR;go_enter Tryz.func88,Tryz.ntmps88;go_wp2
 go_loopw [8] (λiv wr=>∃(i:Nat),i<=n/\iv=.int .i64 i/\Below w.heap.size w wr/\Hid (∀(j:Nat) c,j<i->l[j]?=some c->(c.berth.toList==nm.toList)=false)) (λi _=>n - (intOf i).toNat)
 case atStart=>exact⟨0,by omega,rfl,Below.refl _ _,λj c hj=>absurd hj (by omega)⟩
 case round=>
  obtain⟨i,hi,rfl,hb,HA⟩:=hrel
  by_cases hlt:i<n
  ·obtain⟨g,ea,hNg,hr⟩:=HRN.out.some (by omega)
   subst ea;have hgl:=hr.lt;have HR:Hid (RowIs wr 49 7 g n cap (As l)):=hr.below hb hgl;obtain⟨c,hc⟩:∃c,l[i]?=some c:=⟨l[i]'(by rw[HN.out];exact hlt),by rw[List.getElem?_eq_getElem]⟩;have HC:Hid (l[i]?=some c):=hc;clear hr hc;have y0:wr.cell? ⟨g,i*7,none⟩=some (.string c.service):=HR.out.cell (AT (c:=Cp.cells) (n:=7) (λ_=>rfl) l i c 0 (.string c.service) HC.out rfl);have y1:wr.cell? ⟨g,i*7+1,none⟩=some (.int .i64 c.number):=HR.out.cell (AT (c:=Cp.cells) (n:=7) (λ_=>rfl) l i c 1 (.int .i64 c.number) HC.out rfl);have y2:wr.cell? ⟨g,i*7+2,none⟩=some (.int .i64 c.version):=HR.out.cell (AT (c:=Cp.cells) (n:=7) (λ_=>rfl) l i c 2 (.int .i64 c.version) HC.out rfl);have y3:wr.cell? ⟨g,i*7+3,none⟩=some (.int .i64 c.image):=HR.out.cell (AT (c:=Cp.cells) (n:=7) (λ_=>rfl) l i c 3 (.int .i64 c.image) HC.out rfl);have y4:wr.cell? ⟨g,i*7+4,none⟩=some (.int .i64 c.state):=HR.out.cell (AT (c:=Cp.cells) (n:=7) (λ_=>rfl) l i c 4 (.int .i64 c.state) HC.out rfl);have y5:wr.cell? ⟨g,i*7+5,none⟩=some (.bool c.ending):=HR.out.cell (AT (c:=Cp.cells) (n:=7) (λ_=>rfl) l i c 5 (.bool c.ending) HC.out rfl);have y6:wr.cell? ⟨g,i*7+6,none⟩=some (.string c.berth):=HR.out.cell (AT (c:=Cp.cells) (n:=7) (λ_=>rfl) l i c 6 (.string c.berth) HC.out rfl)
   go_wp2_with fail
   refine(Jp c nm A E wr (AK hb hE (AB hE).1)).mono ?_;rintro e w2 ⟨rfl,hbq⟩;have hb2:=hb.trans (hbq.mono hb.size);clear y0 y1 y2 y3 y4 y5 y6 hbq;cases hp:(c.berth.toList==nm.toList)
   ·go_wp2
    go_roundw
    case rel=>exact⟨i+1,by omega,by go_num,hb2,λj d hj hd=>by
     rcases Nat.lt_or_ge j i with h|h
     ·exact HA.out j d h hd
     ·rw[show j=i by omega,HC.out]at hd
      cases hd
      exact hp⟩
    case measure=>simp[intOf];omega
   ·go_wp2
    go_ret;exact⟨i,rfl,.inr ⟨i,rfl,hlt,HA.out,c,HC.out,hp⟩,hb2⟩
  ·go_wp2
   go_ret
   exact⟨-1,rfl,.inl ⟨rfl,λc hc=>by
    obtain⟨j,hj⟩:=List.getElem?_of_mem hc
    exact HA.out j c (by have:=(AC hj).1;rw[HN.out]at this;omega) hj⟩,hb⟩
theorem L5(l:List Cp)(nm:ByteArray)(A E:Nat)(ao:Option Addr)(n cap N:Nat)(w:World)(HN:Hid (l.length=n))(hl:n<=1048576)(hN:N<=w.heap.size)(hE:w.heap[E]?=some (.cells #[.pointer (some ⟨A,0,none⟩),.string nm] 99 (0,0)))(hR:RowN w N 49 7 ao n cap (As l)):
  Calls Tryz.prog 68 #[.slice ao n cap,.func (.func 79) #[] #[.pointer (some ⟨E,0,none⟩)]] w λe w'=>∃(bo:Option Addr) (n' k:Nat),e=.returned (.slice bo n' k)/\n'=(l.filter λc=>!((c.berth.toList==nm.toList))).length/\RowN w' N 49 7 bo n' k (As (l.filter λc=>!((c.berth.toList==nm.toList))))/\(∀q,q<w.heap.size->ao≠some ⟨q,0,none⟩->w'.heap[q]?=w.heap[q]?)/\Below N w w':=by
 have HRN:=Ay hR;clear hR;go_enter Tryz.func68,Tryz.ntmps68
 go_wp2_with fail
 refine(Mn l nm A E ao n cap N w HN hl hE HRN.out).mono ?_;rintro e w1 ⟨k,rfl,hk,hb1⟩;rcases hk with⟨rfl,hnone⟩|⟨i0,rfl,hi0,hbef,c0,hc0,hp0⟩
 ·have HF:Hid (l.filter (λc=>!((c.berth.toList==nm.toList)))=l):=List.filter_eq_self.2 λc hc=>by rw[hnone c hc];rfl
  clear hnone;go_wp2;go_ret;exact⟨ao,n,cap,rfl,by rw[HF.out,HN.out],by rw[HF.out];exact HRN.out.below hb1,λq hq _=>hb1.block q hq,hb1.mono' hN⟩
 ·obtain⟨g,ea,hNg,hr⟩:=HRN.out.some (by omega)
  subst ea;have hgl:=hr.lt;have hncap:=hr.2.1
  have HEG:Hid (E≠g):=λe=>by
   obtain⟨_,_,cur,h1,_⟩:=hr;rw[e,h1]at hE;cases hE
  have R1:Hid (RowIs w1 49 7 g n cap (As l)):=hr.below hb1 hgl
  have HF0:Hid ((l.take (i0+1)).filter (λc=>!((c.berth.toList==nm.toList)))=l.take i0):=by
   unfold Hid;rw[List.take_add_one,hc0,List.filter_append]
   have h1:(l.take i0).filter (λc=>!((c.berth.toList==nm.toList)))=l.take i0:=List.filter_eq_self.2 λc hc=>by
    obtain⟨j,hj⟩:=List.getElem?_of_mem hc;have hji:j<i0:=by have:=(AC hj).1;rw[List.length_take]at this;omega
    rw[List.getElem?_take_of_lt hji]at hj;rw[hbef j c hji hj];rfl
   have h2:(some c0).toList.filter (λc=>!((c.berth.toList==nm.toList)))=[]:=by
    simp only[Option.toList_some];rw[List.filter_cons_of_neg (by simpa using hp0)];rfl
   rw[h1,h2,List.append_nil]
  clear hr hbef hc0 hp0 HRN;go_wp2
  go_loopw [5,6] (λiv jv wr=>∃(i j:Nat) (L:List Cp),i<j/\j<=n/\iv=.int .i64 i/\jv=.int .i64 j/\Hid (L.length=n)/\Hid (L.take i=(l.take j).filter (λc=>!((c.berth.toList==nm.toList))))/\Hid (L.drop j=l.drop j)/\w.heap.size<=wr.heap.size/\Hid (∀q,q<w.heap.size->q≠g->wr.heap[q]?=w.heap[q]?)/\Below N w wr/\Hid (RowIs wr 49 7 g n cap (As L))) (λ_ j _=>n - (intOf j).toNat)
  case atStart=>exact⟨i0,i0+1,l,by omega,by omega,rfl,by go_num,HN,HF0.out.symm,rfl,hb1.size,λq hq _=>hb1.block q hq,hb1.mono' hN,R1⟩
  case round=>
   clear hb1 R1 HF0;obtain⟨i,j,L,hij,hjn,rfl,rfl,HLN,HTK,HDP,hsz,HKP,hbN,R2⟩:=hrel;have hgr:=R2.out.lt
   by_cases hlt:j<n
   ·obtain⟨c,hc⟩:∃c,l[j]?=some c:=⟨l[j]'(by rw[HN.out];exact hlt),by rw[List.getElem?_eq_getElem]⟩
    have HCL:Hid (l[j]?=some c):=hc
    have HC:Hid (L[j]?=some c):=by
     unfold Hid;have h:(L.drop j)[0]?=(l.drop j)[0]?:=by rw[HDP.out]
     simp only[List.getElem?_drop,Nat.add_zero]at h;rw[h];exact hc
    have HTS:Hid ((l.take (j+1)).filter (λc=>!((c.berth.toList==nm.toList)))=(l.take j).filter (λc=>!((c.berth.toList==nm.toList)))++(if(!((c.berth.toList==nm.toList)))=true then [c] else [])):=by unfold Hid;rw[List.take_add_one,hc,List.filter_append];cases hq:(c.berth.toList==nm.toList)<;>simp[List.filter,hq]
    have HDS:Hid (L.drop (j+1)=l.drop (j+1)):=by unfold Hid;have h:=congrArg (List.drop 1) HDP.out;simpa [List.drop_drop,Nat.add_comm] using h
    clear hc;have y0:wr.cell? ⟨g,j*7,none⟩=some (.string c.service):=R2.out.cell (AT (c:=Cp.cells) (n:=7) (λ_=>rfl) L j c 0 (.string c.service) HC.out rfl);have y1:wr.cell? ⟨g,j*7+1,none⟩=some (.int .i64 c.number):=R2.out.cell (AT (c:=Cp.cells) (n:=7) (λ_=>rfl) L j c 1 (.int .i64 c.number) HC.out rfl);have y2:wr.cell? ⟨g,j*7+2,none⟩=some (.int .i64 c.version):=R2.out.cell (AT (c:=Cp.cells) (n:=7) (λ_=>rfl) L j c 2 (.int .i64 c.version) HC.out rfl);have y3:wr.cell? ⟨g,j*7+3,none⟩=some (.int .i64 c.image):=R2.out.cell (AT (c:=Cp.cells) (n:=7) (λ_=>rfl) L j c 3 (.int .i64 c.image) HC.out rfl);have y4:wr.cell? ⟨g,j*7+4,none⟩=some (.int .i64 c.state):=R2.out.cell (AT (c:=Cp.cells) (n:=7) (λ_=>rfl) L j c 4 (.int .i64 c.state) HC.out rfl);have y5:wr.cell? ⟨g,j*7+5,none⟩=some (.bool c.ending):=R2.out.cell (AT (c:=Cp.cells) (n:=7) (λ_=>rfl) L j c 5 (.bool c.ending) HC.out rfl);have y6:wr.cell? ⟨g,j*7+6,none⟩=some (.string c.berth):=R2.out.cell (AT (c:=Cp.cells) (n:=7) (λ_=>rfl) L j c 6 (.string c.berth) HC.out rfl);obtain⟨W3,hW3⟩:∃W,wr.alloc (.cells #[.string ⟨#[]⟩,.int .i64 0,.int .i64 0,.int .i64 0,.int .i64 0,.bool false,.string ⟨#[]⟩] 49)=W:=⟨_,rfl⟩;have hb3:=AM wr (.cells #[.string ⟨#[]⟩,.int .i64 0,.int .i64 0,.int .i64 0,.int .i64 0,.bool false,.string ⟨#[]⟩] 49);obtain⟨vb,hvb⟩:∃q,wr.heap.size=q:=⟨_,rfl⟩;have V3:Hid (W3.heap[vb]?=some (.cells #[.string ⟨#[]⟩,.int .i64 0,.int .i64 0,.int .i64 0,.int .i64 0,.bool false,.string ⟨#[]⟩] 49 (0,0))):=by unfold Hid;rw[<-hW3,<-hvb];exact heap_alloc_new wr (.cells #[.string ⟨#[]⟩,.int .i64 0,.int .i64 0,.int .i64 0,.int .i64 0,.bool false,.string ⟨#[]⟩] 49)
    rw[hW3]at hb3;have hvb1:wr.heap.size<=vb:=by omega
    have hvb2:vb<=wr.heap.size:=by omega
    have hvg:vb≠g:=by omega
    go_upto_region 8 with(refine AL rfl 49 (.tmp 7) (.tmp 25) rfl vb 0 #[.string c.service,.int .i64 c.number,.int .i64 c.version,.int .i64 c.image,.int .i64 c.state,.bool c.ending,.string c.berth] rfl rfl 49 #[.string ⟨#[]⟩,.int .i64 0,.int .i64 0,.int .i64 0,.int .i64 0,.bool false,.string ⟨#[]⟩] V3.out Tryz.infosCpX (AD rfl) (Gi c) ?_;intro w4 hz on;have V4:Hid (w4.heap[vb]?=some (.cells #[.string c.service,.int .i64 c.number,.int .i64 c.version,.int .i64 c.image,.int .i64 c.state,.bool c.ending,.string c.berth] 49 (0,0))):=hz;have hb4:=hb3.trans (on.below.mono' hvb1);clear hz on)
    clear hW3 hvb y0 y1 y2 y3 y4 y5 y6 V3 hb3;have R4:Hid (RowIs w4 49 7 g n cap (As L)):=R2.out.below hb4 hgr;have HK4:Hid (∀q,q<w.heap.size->q≠g->w4.heap[q]?=w.heap[q]?):=λq hq hne=>(hb4.block q (by omega)).trans (HKP.out q hq hne)
    have hv4:=(AB V4.out).1
    go_wp2_with (refine wpList_load_row rfl 49 (.tmp 7) rfl vb rfl 49 #[.string c.service,.int .i64 c.number,.int .i64 c.version,.int .i64 c.image,.int .i64 c.state,.bool c.ending,.string c.berth] (0,0) _ V4.out Tryz.underlying49 rfl Tryz.infosCpX ?_)
    refine(Jp c nm A E w4 ((HK4.out E (AB hE).1 HEG.out).trans hE)).mono ?_;rintro e w5 ⟨he,hbq⟩;obtain⟨pb,hpb⟩:∃pb,(c.berth.toList==nm.toList)=pb:=⟨_,rfl⟩;rw[hpb]at he;subst he;have HPB:Hid ((c.berth.toList==nm.toList)=pb):=hpb;clear hpb;have hb5:=hb4.trans (hbq.mono' (by have:=hb4.size;omega));have V5:Hid (w5.heap[vb]?=some (.cells #[.string c.service,.int .i64 c.number,.int .i64 c.version,.int .i64 c.image,.int .i64 c.state,.bool c.ending,.string c.berth] 49 (0,0))):=AK hbq V4.out hv4;have R5:Hid (RowIs w5 49 7 g n cap (As L)):=R4.out.below hbq R4.out.lt;have HK5:Hid (∀q,q<w.heap.size->q≠g->w5.heap[q]?=w.heap[q]?):=λq hq hne=>(hbq.block q (by have:=hb4.size;omega)).trans (HK4.out q hq hne)
    have hb5N:Below N w w5:=hbN.trans (hb5.mono' (by omega));have hs5:w.heap.size<=w5.heap.size:=hb5N.size;clear hbq hb4 V4 R4 HK4 hbN HKP R2 hb5;cases pb
    ·have HTS1:Hid ((l.take (j+1)).filter (λc=>!((c.berth.toList==nm.toList)))=(l.take j).filter (λc=>!((c.berth.toList==nm.toList)))++[c]):=by unfold Hid;rw[HTS.out,HPB.out];rfl
     have hfi:i*7+7<=n*7:=by omega
     go_wp2_with (first
      |(refine wpList_load_row rfl 49 (.tmp 7) rfl vb rfl 49 #[.string c.service,.int .i64 c.number,.int .i64 c.version,.int .i64 c.image,.int .i64 c.state,.bool c.ending,.string c.berth] (0,0) _ V5.out Tryz.underlying49 rfl Tryz.infosCpX ?_)
      |(refine Cv rfl 49 (.tmp 33) (.tmp 32) rfl g (i*7) #[.string c.service,.int .i64 c.number,.int .i64 c.version,.int .i64 c.image,.int .i64 c.state,.bool c.ending,.string c.berth] rfl rfl Tryz.infosCpX (Gi c) 49 7 n cap _ R5.out (by show i*7+7<=n*7;omega) ?_;intro w6 hr on;have R6:Hid (RowIs w6 49 7 g n cap (As (L.set i c))):=(by have h:=hr.out;rw[show splice (As L) (i*7) (#[.string c.service,.int .i64 c.number,.int .i64 c.version,.int .i64 c.image,.int .i64 c.state,.bool c.ending,.string c.berth]:Array Value).toList=As (L.set i c) from C4 (c:=Cp.cells) (n:=7) (λ_=>rfl) L i c (by rw[HLN.out];omega)]at h;exact h);have HON:Hid (BA g w5 w6):=on;clear hr on))
     go_roundw
     case rel=>exact⟨_,_,_,_,_,_,_,_,_,_,_,_,_,_,_,_,_,_,_,_,_,_,_,⟨i+1,j+1,L.set i c,by omega,by omega,by go_num,by go_num,by unfold Hid;rw[List.length_set];exact HLN.out,by unfold Hid;rw[HTS1.out,<-HTK.out];exact Fv (by rw[HLN.out];omega),by unfold Hid;rw[List.drop_set_of_lt (by omega)];exact HDS.out,by rw[HON.out.size];exact hs5,λq hq hne=>(HON.out.other q hne).trans (HK5.out q hq hne),hb5N.trans (HON.out.below.mono' hNg),R6⟩,rfl⟩
     case measure=>simp[intOf];omega
    ·have HTS1:Hid ((l.take (j+1)).filter (λc=>!((c.berth.toList==nm.toList)))=(l.take j).filter (λc=>!((c.berth.toList==nm.toList)))):=by unfold Hid;rw[HTS.out,HPB.out];simp
     go_wp2
     go_roundw
     case rel=>exact⟨_,_,_,_,_,_,_,_,_,_,_,_,_,_,_,_,_,_,_,_,_,_,_,⟨i,j+1,L,by omega,by omega,(by first|rfl|trivial),by go_num,HLN,by unfold Hid;rw[HTS1.out];exact HTK.out,HDS,hs5,HK5,hb5N,R5⟩,rfl⟩
     case measure=>simp[intOf];omega
   ·have HFE:Hid (L.take i=l.filter (λc=>!((c.berth.toList==nm.toList)))):=by unfold Hid;rw[HTK.out,List.take_of_length_le (by rw[HN.out];omega)]
    obtain⟨cur,hgc,hcs,htk⟩:=R2.out.2.2;have HGC:Hid (wr.heap[g]?=some (.cells cur 49 (0,0))):=hgc;have HCS:Hid (cur.size=cap*7/\cur.toList.take (n*7)=As L):=⟨hcs,htk⟩;have hcs':n*7<=cur.size:=by rw[hcs];exact Nat.mul_le_mul_right _ hncap
    obtain⟨m,hm⟩:∃q,n - i=q:=⟨_,rfl⟩;have hm1:n<=i+m:=by omega
    have hm2:i+m<=n:=by omega
    clear hgc hcs htk
    go_upto_region 12 with(first
     |(refine AU rfl 24 (.tmp 36) (some (.tmp 37)) none none rfl Tryz.undCpsI 7 Tryz.infoElemCpI g 0 n cap i n cap rfl (some (.int .i64 (i:Int))) none none rfl rfl rfl (λw=>run_slice_l w _ _ _ _ Tryz.undCpsI .i64 (i:Int) (by omega) (by omega)) ?_;intro off hoff;rw[hm];clear hm)
     |(refine Dq rfl (.tmp 38) 24 rfl 49 _ 7 72 Tryz.underlying24 Tryz.infoCpI rfl (by simp[Value.cells,Value.oneCell']) g off m _ rfl cur 49 HGC.out (λ_=>by omega) ?_;intro cur' w3 hg3 hc3 on3;have HON:Hid (BA g wr w3):=on3;clear on3))
    go_wp2;go_ret;have hLi:(As L).take (i*7)=As (L.take i):=(Dn (c:=Cp.cells) (λ_=>rfl) L i).symm;refine⟨some ⟨g,0,none⟩,i,cap,rfl,?_,.inr ⟨g,rfl,hNg,?_⟩,λq hq hne=>(HON.out.other q (λe=>hne (by rw[e]))).trans (HKP.out q hq (λe=>hne (by rw[e]))),hbN.trans (HON.out.below.mono' hNg)⟩
    ·rw[<-HFE.out,List.length_take,HLN.out];omega
    ·rw[<-HFE.out]
     refine⟨?_,by omega,cur',hg3.out,by rw[hc3.out.1,HCS.out.1],?_⟩
     ·rw[Ea,List.length_take,HLN.out,Nat.min_eq_left (by omega)]
     ·rw[hc3.out.2 (i*7) (λ_=>by omega),<-hLi,<-HCS.out.2,List.take_take,Nat.min_eq_left (Nat.mul_le_mul_right _ (by omega))]
theorem L7(l:List Bt)(ao:Option Addr)(n cap i N:Nat)(w:World)(HN:Hid (l.length=n))(hl:n<=1048576)(hi:i<n)(hN:N<=w.heap.size)(hR:RowN w N 51 2 ao n cap (Ak l)):
  Calls Tryz.prog 78 #[.slice ao n cap,.int .i64 i,.int .i64 ((i:Int)+1)] w λe w'=>∃(bo:Option Addr) (n' k:Nat),e=.returned (.slice bo n' k)/\n'=(l.take i++l.drop (i+1)).length/\RowN w' N 51 2 bo n' k (Ak (l.take i++l.drop (i+1)))/\(∀q,q<w.heap.size->ao≠some ⟨q,0,none⟩->w'.heap[q]?=w.heap[q]?)/\Below N w w':=by
 obtain⟨g,ea,hNg,hr⟩:=hR.some (by omega);subst ea;have hgl:=hr.lt;have hncap:=hr.2.1;have HR:Hid (RowIs w 51 2 g n cap (Ak l)):=hr;obtain⟨m,hm⟩:∃q,n - (i+1)=q:=⟨_,rfl⟩;have hm1:n<=i+1+m:=by omega
 have hm2:i+1+m<=n:=by omega
 have HTL:Hid ((l.take i).length=i):=by unfold Hid;rw[List.length_take,HN.out];omega
 have HDL:Hid ((l.drop (i+1)).length=m):=by unfold Hid;rw[List.length_drop,HN.out];omega
 have HVL:Hid (Ak (l.take i++l.drop (i+1))=Ak (l.take i)++Ak (l.drop (i+1))):=by unfold Hid;simp[Ak]
 have HRT:Hid (∀W,RowIs W 51 2 g n cap (Ak l)->RowIs W 51 2 g i cap (Ak (l.take i))):=λW h=>h.take (c:=Bt.cells) (λ_=>rfl) (by rw[HN.out]) (by omega)
 clear hm hr hR;go_enter Tryz.func78,Tryz.ntmps78
 go_upto_region 2 with(refine AU rfl 25 (.tmp 8) (some (.tmp 9)) (some (.tmp 10)) (some (.tmp 12)) rfl Tryz.undBtsI 2 Tryz.infoElemBtI g 0 n cap i (i+1) n rfl (some (.int .i64 (i:Int))) (some (.int .i64 ((i:Int)+1))) (some (.int .i64 (n:Int))) rfl rfl rfl (λw=>run_slice_lhm w _ _ _ _ Tryz.undBtsI .i64 .i64 .i64 (i:Int) ((i+1:Nat):Int) (n:Int) (by omega) (by omega) (by omega) (by omega)) ?_;intro off0 _;rw[show i+1 - i=1 by omega])
 go_upto_region 5 with fail
 rw[show((i:Int)==(i:Int)+1)=false by rw[beq_eq_false_iff_ne];omega];refine An 6 (by kernel_rfl) (by kernel_rfl) ?_;apply AQ
 ·intro V W K A hW hd hA hK
  simp only[pA]at hA;clear hd;obtain rfl:=hA;go_wp2;exact hK.out _ brf
 apply AQ
 ·intro V W K A hW hd hA hK
  simp only[pA]at hA;clear hd;obtain rfl:=hA;go_wp2;exact hK.out _ brf
 apply AQ
 ·intro V W K A hW hd hA hK
  have d0:V 0=_:=hd 0 (by kernel_rfl);have d1:V 1=_:=hd 1 (by kernel_rfl);simp only[pA,d0,d1]at hA;clear hd d0 d1;obtain rfl:=hA;go_wp2;exact hK.out _ brf
 apply AQ
 ·intro V W K A hW hd hA hK
  simp only[pA]at hA;clear hd;obtain rfl:=hA;go_wp2;exact hK.out _ brf
 apply AQ
 ·intro V W K A hW hd hA hK
  simp only[pA]at hA;clear hd;obtain rfl:=hA;go_wp2;exact hK.out _ brf
 refine Aq (λvv (_:World)=>∃off,vv=.slice (some ⟨g,off,none⟩) m (cap - (i+1))/\(off=(i+1)*2\/cap=i+1)) (λ_ _ _ h _=>h) ?_ ?_
 ·intro V W K A hW hd hA hK
  have d3:V 3=_:=hd 3 (by kernel_rfl);have d4:V 4=_:=hd 4 (by kernel_rfl);simp only[pA,d3,d4]at hA;clear hd d3 d4;obtain rfl:=hA;refine AU rfl 25 (.tmp 23) (some (.tmp 24)) none none rfl Tryz.undBtsI 2 Tryz.infoElemBtI g 0 n cap (i+1) n cap rfl (some (.int .i64 ((i:Int)+1))) none none rfl rfl rfl (λw=>run_slice_l w _ _ _ _ Tryz.undBtsI .i64 ((i+1:Nat):Int) (by omega) (by omega)) ?_;intro off hoff;rw[show n - (i+1)=m by omega];go_wp2;exact hK.out _ _ brf ⟨off,rfl,by omega⟩
 intro V W A hW hS hA;have d0:V 0=_:=hS 0 (by omega);have d1:V 1=_:=hS 1 (by omega);have d2:V 2=_:=hS 2 (by omega);have d3:V 3=_:=hS 3 (by omega);have d4:V 4=_:=hS 4 (by omega);have d5:(λvv (_:World)=>∃off,vv=.slice (some ⟨g,off,none⟩) m (cap - (i+1))/\(off=(i+1)*2\/cap=i+1)) (V 5) W:=hS 5 (by omega);simp only[pA,d0,d1,d2,d3,d4]at hA;clear hS d0 d1 d2 d3 d4;generalize V 5=x5 at d5 hA;obtain rfl:=hA;simp only[List.drop_succ_cons,List.drop_zero];obtain⟨off5,rfl,h5⟩:=d5;have HRW:Hid (RowIs W 51 2 g n cap (Ak l)):=HR.out.below hW hgl
 have HSD:Hid (∀j u,(Ak (l.drop (i+1)))[j]?=some u->W.cell? ((⟨g,off5,none⟩:Addr).add j)=some u):=by
  unfold Hid;rcases h5 with ho|ho
  ·rw[ho];exact HRW.out.srcDrop (c:=Bt.cells) (λ_=>rfl) (i+1)
  ·intro j u hu;rw[show l.drop (i+1)=[] from List.length_eq_zero_iff.1 (by rw[HDL.out];omega)]at hu;simp[Ak]at hu
 (refine Gy rfl (.tmp 22) (.tmp 25) 25 rfl 51 _ 2 24 Tryz.underlying25 Tryz.infoBtI g i cap (Ak (l.take i)) rfl (HRT.out W HRW.out) ⟨g,off5,none⟩ m _ (Ak (l.drop (i+1))) rfl (by rw[Bf,HDL.out]) HSD.out (Eb _) (by omega) ?_;intro w2 hr on;have R2:Hid (RowIs w2 51 2 g (i+m) cap (Ak (l.take i)++Ak (l.drop (i+1)))):=hr;have HO2:Hid (BA g W w2):=on;clear hr on)
 obtain⟨cur,hgc,hcs,htk⟩:=R2.out.2.2;have HGC:Hid (w2.heap[g]?=some (.cells cur 51 (0,0))):=hgc;have HCS:Hid (cur.size=cap*2/\cur.toList.take ((i+m)*2)=Ak (l.take i)++Ak (l.drop (i+1))):=⟨hcs,htk⟩;have hcs':n*2<=cur.size:=by rw[hcs];exact Nat.mul_le_mul_right _ hncap
 clear hgc hcs htk
 go_upto_region 7 with(first
  |(refine AU rfl 25 (.tmp 27) (some (.tmp 29)) (some (.tmp 30)) none rfl Tryz.undBtsI 2 Tryz.infoElemBtI g 0 (i+m) cap (i+m) n cap rfl (some (.int .i64 ((i:Int)+(m:Int)))) (some (.int .i64 (n:Int))) none rfl rfl rfl (λw=>run_slice_lh w _ _ _ _ Tryz.undBtsI .i64 .i64 ((i+m:Nat):Int) (n:Int) (by omega) (by omega) (by omega)) ?_;intro off6 h6;rw[show n - (i+m)=1 by omega])
  |(refine Dq rfl (.tmp 31) 25 rfl 51 _ 2 24 Tryz.underlying25 Tryz.infoBtI rfl (by simp[Value.cells,Value.oneCell']) g off6 1 _ rfl cur 51 HGC.out (λ_=>by omega) ?_;intro cur' w3 hg3 hc3 on3;have HO3:Hid (BA g w2 w3):=on3;clear on3))
 go_wp2;go_ret;refine⟨some ⟨g,0,none⟩,i+m,cap,rfl,by rw[List.length_append,HTL.out,HDL.out],.inr ⟨g,rfl,hNg,?_⟩,λq hq hne=>?_,(hW.mono' hN).trans ((HO2.out.below.mono' hNg).trans (HO3.out.below.mono' hNg))⟩
 ·rw[HVL.out]
  refine⟨R2.out.1,R2.out.2.1,cur',hg3.out,by rw[hc3.out.1,HCS.out.1],?_⟩;rw[hc3.out.2 ((i+m)*2) (λ_=>by omega)];exact HCS.out.2
 ·have hqg:q≠g:=λe=>hne (by rw[e])
  exact(HO3.out.other q hqg).trans ((HO2.out.other q hqg).trans (hW.block q hq))
end
end Go.Proofs.YtbceafpodamnfaaGreat
