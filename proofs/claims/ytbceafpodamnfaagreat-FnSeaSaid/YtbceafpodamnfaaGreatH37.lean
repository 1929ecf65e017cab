import Derived.Test.YtbceafpodamnfaaGreatH36
set_option linter.all false
set_option maxHeartbeats 16000000
set_option maxRecDepth 100000
namespace Go.Proofs.YtbceafpodamnfaaGreat
section
open Go.RowKit Go.Sort
theorem Tryz.undCpsI:Tryz.prog.underlying 24=some (.slice (Tryz.prog.elem 24)):=by kernel_rfl
theorem Tryz.infoElemCpI:(Tryz.prog.info? (Tryz.prog.elem 24)).map (·.size)=some 7:=by kernel_rfl
theorem Fv{α:Type}{l:List α}{i:Nat}{x:α}(h:i<l.length):(l.set i x).take (i+1)=l.take i++[x]:=by
 rw[List.take_add_one,List.getElem?_set_self h,List.take_set_of_le (AG _)];rfl
theorem Jy(c:Cp)(w:World):Calls Tryz.prog 69 #[.agg #[.string c.service,.int .i64 c.number,.int .i64 c.version,.int .i64 c.image,.int .i64 c.state,.bool c.ending,.string c.berth]] w λe w'=>e=.returned (.bool c.ending)/\Below w.heap.size w w':=by
 obtain⟨W0,hW0⟩:∃W,w.alloc (.cells #[.string c.service,.int .i64 c.number,.int .i64 c.version,.int .i64 c.image,.int .i64 c.state,.bool c.ending,.string c.berth] 49)=W:=⟨_,rfl⟩;have hb0:=AM w (.cells #[.string c.service,.int .i64 c.number,.int .i64 c.version,.int .i64 c.image,.int .i64 c.state,.bool c.ending,.string c.berth] 49);have e5:=AJ (heap_alloc_new w (.cells #[.string c.service,.int .i64 c.number,.int .i64 c.version,.int .i64 c.image,.int .i64 c.state,.bool c.ending,.string c.berth] 49)) 5 rfl;rw[hW0]at hb0 e5;go_enter Tryz.func69,Tryz.ntmps69
 go_upto_region 1 with fail
 clear hW0;go_wp2;go_ret;exact⟨rfl,hb0⟩
theorem Jp(c:Cp)(nm:ByteArray)(A E:Nat)(w:World)(hE:w.heap[E]?=some (.cells #[.pointer (some ⟨A,0,none⟩),.string nm] 99 (0,0))):Calls Tryz.prog 79 #[.agg #[.string c.service,.int .i64 c.number,.int .i64 c.version,.int .i64 c.image,.int .i64 c.state,.bool c.ending,.string c.berth],.pointer (some ⟨E,0,none⟩)] w λe w'=>e=.returned (.bool (c.berth.toList==nm.toList))/\Below w.heap.size w w':=by
 obtain⟨W0,hW0⟩:∃W,w.alloc (.cells #[.string c.service,.int .i64 c.number,.int .i64 c.version,.int .i64 c.image,.int .i64 c.state,.bool c.ending,.string c.berth] 49)=W:=⟨_,rfl⟩;have hb0:=AM w (.cells #[.string c.service,.int .i64 c.number,.int .i64 c.version,.int .i64 c.image,.int .i64 c.state,.bool c.ending,.string c.berth] 49);have e6:=AJ (heap_alloc_new w (.cells #[.string c.service,.int .i64 c.number,.int .i64 c.version,.int .i64 c.image,.int .i64 c.state,.bool c.ending,.string c.berth] 49)) 6 rfl;rw[hW0]at hb0 e6;have q1:=AJ (AK hb0 hE (AB hE).1) 1 rfl;go_enter Tryz.func79,Tryz.ntmps79
 go_upto_region 1 with fail
 clear hW0;go_wp2;go_ret;exact⟨rfl,hb0⟩
theorem Mo(l:List Cp)(ao:Option Addr)(n cap N:Nat)(w:World)(HN:Hid (l.length=n))(hl:n<=1048576)(hR:RowN w N 49 7 ao n cap (As l)):
  Calls Tryz.prog 88 #[.slice ao n cap,.func (.func 69) #[] #[]] w λe w'=>∃k:Int,e=.returned (.int .i64 k)/\((k= -1/\∀c∈l,c.ending=false)\/∃i:Nat,k=i/\i<n/\(∀(j:Nat) c,j<i->l[j]?=some c->c.ending=false)/\∃c,l[i]?=some c/\c.ending=true)/\Below w.heap.size w w':=by
 have HRN:=Ay hR;clear hR;go_enter Tryz.func88,Tryz.ntmps88;go_wp2
 go_loopw [8] (λiv wr=>∃(i:Nat),i<=n/\iv=.int .i64 i/\Below w.heap.size w wr/\Hid (∀(j:Nat) c,j<i->l[j]?=some c->c.ending=false)) (λi _=>n - (intOf i).toNat)
 case atStart=>exact⟨0,by omega,rfl,Below.refl _ _,λj c hj=>absurd hj (by omega)⟩
 case round=>
  obtain⟨i,hi,rfl,hb,HA⟩:=hrel
  by_cases hlt:i<n
  ·obtain⟨g,ea,hNg,hr⟩:=HRN.out.some (by omega)
   subst ea;have hgl:=hr.lt;have HR:Hid (RowIs wr 49 7 g n cap (As l)):=hr.below hb hgl;obtain⟨c,hc⟩:∃c,l[i]?=some c:=⟨l[i]'(by rw[HN.out];exact hlt),by rw[List.getElem?_eq_getElem]⟩;have HC:Hid (l[i]?=some c):=hc;clear hr hc;have y0:wr.cell? ⟨g,i*7,none⟩=some (.string c.service):=HR.out.cell (AT (c:=Cp.cells) (n:=7) (λ_=>rfl) l i c 0 (.string c.service) HC.out rfl);have y1:wr.cell? ⟨g,i*7+1,none⟩=some (.int .i64 c.number):=HR.out.cell (AT (c:=Cp.cells) (n:=7) (λ_=>rfl) l i c 1 (.int .i64 c.number) HC.out rfl);have y2:wr.cell? ⟨g,i*7+2,none⟩=some (.int .i64 c.version):=HR.out.cell (AT (c:=Cp.cells) (n:=7) (λ_=>rfl) l i c 2 (.int .i64 c.version) HC.out rfl);have y3:wr.cell? ⟨g,i*7+3,none⟩=some (.int .i64 c.image):=HR.out.cell (AT (c:=Cp.cells) (n:=7) (λ_=>rfl) l i c 3 (.int .i64 c.image) HC.out rfl);have y4:wr.cell? ⟨g,i*7+4,none⟩=some (.int .i64 c.state):=HR.out.cell (AT (c:=Cp.cells) (n:=7) (λ_=>rfl) l i c 4 (.int .i64 c.state) HC.out rfl);have y5:wr.cell? ⟨g,i*7+5,none⟩=some (.bool c.ending):=HR.out.cell (AT (c:=Cp.cells) (n:=7) (λ_=>rfl) l i c 5 (.bool c.ending) HC.out rfl);have y6:wr.cell? ⟨g,i*7+6,none⟩=some (.string c.berth):=HR.out.cell (AT (c:=Cp.cells) (n:=7) (λ_=>rfl) l i c 6 (.string c.berth) HC.out rfl)
   go_wp2_with fail
   refine(Jy c wr).mono ?_;rintro e w2 ⟨rfl,hbq⟩;have hb2:=hb.trans (hbq.mono hb.size);clear y0 y1 y2 y3 y4 y5 y6 hbq;cases hp:c.ending
   ·go_wp2
    go_roundw
    case rel=>exact⟨i+1,by omega,by go_num,hb2,λj d hj hd=>by
     rcases Nat.lt_or_ge j i with h|h
     ·exact HA.out j d h hd
     ·rw[show j=i by omega,HC.out]at hd
      cases hd
      exact hp⟩
    case measure=>simp[intOf];omega
   ·go_wp2
    go_ret;exact⟨i,rfl,.inr ⟨i,rfl,hlt,HA.out,c,HC.out,hp⟩,hb2⟩
  ·go_wp2
   go_ret
   exact⟨-1,rfl,.inl ⟨rfl,λc hc=>by
    obtain⟨j,hj⟩:=List.getElem?_of_mem hc
    exact HA.out j c (by have:=(AC hj).1;rw[HN.out]at this;omega) hj⟩,hb⟩
theorem L6(l:List Cp)(ao:Option Addr)(n cap N:Nat)(w:World)(HN:Hid (l.length=n))(hl:n<=1048576)(hN:N<=w.heap.size)(hR:RowN w N 49 7 ao n cap (As l)):
  Calls Tryz.prog 68 #[.slice ao n cap,.func (.func 69) #[] #[]] w λe w'=>∃(bo:Option Addr) (n' k:Nat),e=.returned (.slice bo n' k)/\n'=(l.filter λc=>!(c.ending)).length/\RowN w' N 49 7 bo n' k (As (l.filter λc=>!(c.ending)))/\(∀q,q<w.heap.size->ao≠some ⟨q,0,none⟩->w'.heap[q]?=w.heap[q]?)/\Below N w w':=by
 have HRN:=Ay hR;clear hR;go_enter Tryz.func68,Tryz.ntmps68
 go_wp2_with fail
 refine(Mo l ao n cap N w HN hl HRN.out).mono ?_;rintro e w1 ⟨k,rfl,hk,hb1⟩;rcases hk with⟨rfl,hnone⟩|⟨i0,rfl,hi0,hbef,c0,hc0,hp0⟩
 ·have HF:Hid (l.filter (λc=>!(c.ending))=l):=List.filter_eq_self.2 λc hc=>by rw[hnone c hc];rfl
  clear hnone;go_wp2;go_ret;exact⟨ao,n,cap,rfl,by rw[HF.out,HN.out],by rw[HF.out];exact HRN.out.below hb1,λq hq _=>hb1.block q hq,hb1.mono' hN⟩
 ·obtain⟨g,ea,hNg,hr⟩:=HRN.out.some (by omega)
  subst ea;have hgl:=hr.lt;have hncap:=hr.2.1;have R1:Hid (RowIs w1 49 7 g n cap (As l)):=hr.below hb1 hgl
  have HF0:Hid ((l.take (i0+1)).filter (λc=>!(c.ending))=l.take i0):=by
   unfold Hid;rw[List.take_add_one,hc0,List.filter_append]
   have h1:(l.take i0).filter (λc=>!(c.ending))=l.take i0:=List.filter_eq_self.2 λc hc=>by
    obtain⟨j,hj⟩:=List.getElem?_of_mem hc;have hji:j<i0:=by have:=(AC hj).1;rw[List.length_take]at this;omega
    rw[List.getElem?_take_of_lt hji]at hj;rw[hbef j c hji hj];rfl
   have h2:(some c0).toList.filter (λc=>!(c.ending))=[]:=by
    simp only[Option.toList_some];rw[List.filter_cons_of_neg (by simpa using hp0)];rfl
   rw[h1,h2,List.append_nil]
  clear hr hbef hc0 hp0 HRN;go_wp2
  go_loopw [5,6] (λiv jv wr=>∃(i j:Nat) (L:List Cp),i<j/\j<=n/\iv=.int .i64 i/\jv=.int .i64 j/\Hid (L.length=n)/\Hid (L.take i=(l.take j).filter (λc=>!(c.ending)))/\Hid (L.drop j=l.drop j)/\w.heap.size<=wr.heap.size/\Hid (∀q,q<w.heap.size->q≠g->wr.heap[q]?=w.heap[q]?)/\Below N w wr/\Hid (RowIs wr 49 7 g n cap (As L))) (λ_ j _=>n - (intOf j).toNat)
  case atStart=>exact⟨i0,i0+1,l,by omega,by omega,rfl,by go_num,HN,HF0.out.symm,rfl,hb1.size,λq hq _=>hb1.block q hq,hb1.mono' hN,R1⟩
  case round=>
   clear hb1 R1 HF0;obtain⟨i,j,L,hij,hjn,rfl,rfl,HLN,HTK,HDP,hsz,HKP,hbN,R2⟩:=hrel;have hgr:=R2.out.lt
   by_cases hlt:j<n
   ·obtain⟨c,hc⟩:∃c,l[j]?=some c:=⟨l[j]'(by rw[HN.out];exact hlt),by rw[List.getElem?_eq_getElem]⟩
    have HCL:Hid (l[j]?=some c):=hc
    have HC:Hid (L[j]?=some c):=by
     unfold Hid;have h:(L.drop j)[0]?=(l.drop j)[0]?:=by rw[HDP.out]
     simp only[List.getElem?_drop,Nat.add_zero]at h;rw[h];exact hc
    have HTS:Hid ((l.take (j+1)).filter (λc=>!(c.ending))=(l.take j).filter (λc=>!(c.ending))++(if(!(c.ending))=true then [c] else [])):=by unfold Hid;rw[List.take_add_one,hc,List.filter_append];cases hq:c.ending<;>simp[List.filter,hq]
    have HDS:Hid (L.drop (j+1)=l.drop (j+1)):=by unfold Hid;have h:=congrArg (List.drop 1) HDP.out;simpa [List.drop_drop,Nat.add_comm] using h
    clear hc;have y0:wr.cell? ⟨g,j*7,none⟩=some (.string c.service):=R2.out.cell (AT (c:=Cp.cells) (n:=7) (λ_=>rfl) L j c 0 (.string c.service) HC.out rfl);have y1:wr.cell? ⟨g,j*7+1,none⟩=some (.int .i64 c.number):=R2.out.cell (AT (c:=Cp.cells) (n:=7) (λ_=>rfl) L j c 1 (.int .i64 c.number) HC.out rfl);have y2:wr.cell? ⟨g,j*7+2,none⟩=some (.int .i64 c.version):=R2.out.cell (AT (c:=Cp.cells) (n:=7) (λ_=>rfl) L j c 2 (.int .i64 c.version) HC.out rfl);have y3:wr.cell? ⟨g,j*7+3,none⟩=some (.int .i64 c.image):=R2.out.cell (AT (c:=Cp.cells) (n:=7) (λ_=>rfl) L j c 3 (.int .i64 c.image) HC.out rfl);have y4:wr.cell? ⟨g,j*7+4,none⟩=some (.int .i64 c.state):=R2.out.cell (AT (c:=Cp.cells) (n:=7) (λ_=>rfl) L j c 4 (.int .i64 c.state) HC.out rfl);have y5:wr.cell? ⟨g,j*7+5,none⟩=some (.bool c.ending):=R2.out.cell (AT (c:=Cp.cells) (n:=7) (λ_=>rfl) L j c 5 (.bool c.ending) HC.out rfl);have y6:wr.cell? ⟨g,j*7+6,none⟩=some (.string c.berth):=R2.out.cell (AT (c:=Cp.cells) (n:=7) (λ_=>rfl) L j c 6 (.string c.berth) HC.out rfl);obtain⟨W3,hW3⟩:∃W,wr.alloc (.cells #[.string ⟨#[]⟩,.int .i64 0,.int .i64 0,.int .i64 0,.int .i64 0,.bool false,.string ⟨#[]⟩] 49)=W:=⟨_,rfl⟩;have hb3:=AM wr (.cells #[.string ⟨#[]⟩,.int .i64 0,.int .i64 0,.int .i64 0,.int .i64 0,.bool false,.string ⟨#[]⟩] 49);obtain⟨vb,hvb⟩:∃q,wr.heap.size=q:=⟨_,rfl⟩;have V3:Hid (W3.heap[vb]?=some (.cells #[.string ⟨#[]⟩,.int .i64 0,.int .i64 0,.int .i64 0,.int .i64 0,.bool false,.string ⟨#[]⟩] 49 (0,0))):=by unfold Hid;rw[<-hW3,<-hvb];exact heap_alloc_new wr (.cells #[.string ⟨#[]⟩,.int .i64 0,.int .i64 0,.int .i64 0,.int .i64 0,.bool false,.string ⟨#[]⟩] 49)
    rw[hW3]at hb3;have hvb1:wr.heap.size<=vb:=by omega
    have hvb2:vb<=wr.heap.size:=by omega
    have hvg:vb≠g:=by omega
    go_upto_region 8 with(refine AL rfl 49 (.tmp 7) (.tmp 25) rfl vb 0 #[.string c.service,.int .i64 c.number,.int .i64 c.version,.int .i64 c.image,.int .i64 c.state,.bool c.ending,.string c.berth] rfl rfl 49 #[.string ⟨#[]⟩,.int .i64 0,.int .i64 0,.int .i64 0,.int .i64 0,.bool false,.string ⟨#[]⟩] V3.out Tryz.infosCpX (AD rfl) (Gi c) ?_;intro w4 hz on;have V4:Hid (w4.heap[vb]?=some (.cells #[.string c.service,.int .i64 c.number,.int .i64 c.version,.int .i64 c.image,.int .i64 c.state,.bool c.ending,.string c.berth] 49 (0,0))):=hz;have hb4:=hb3.trans (on.below.mono' hvb1);clear hz on)
    clear hW3 hvb y0 y1 y2 y3 y4 y5 y6 V3 hb3;have R4:Hid (RowIs w4 49 7 g n cap (As L)):=R2.out.below hb4 hgr;have HK4:Hid (∀q,q<w.heap.size->q≠g->w4.heap[q]?=w.heap[q]?):=λq hq hne=>(hb4.block q (by omega)).trans (HKP.out q hq hne)
    have hv4:=(AB V4.out).1
    go_wp2_with (refine wpList_load_row rfl 49 (.tmp 7) rfl vb rfl 49 #[.string c.service,.int .i64 c.number,.int .i64 c.version,.int .i64 c.image,.int .i64 c.state,.bool c.ending,.string c.berth] (0,0) _ V4.out Tryz.underlying49 rfl Tryz.infosCpX ?_)
    refine(Jy c w4).mono ?_;rintro e w5 ⟨he,hbq⟩;obtain⟨pb,hpb⟩:∃pb,c.ending=pb:=⟨_,rfl⟩;rw[hpb]at he;subst he;have HPB:Hid (c.ending=pb):=hpb;clear hpb;have hb5:=hb4.trans (hbq.mono' (by have:=hb4.size;omega));have V5:Hid (w5.heap[vb]?=some (.cells #[.string c.service,.int .i64 c.number,.int .i64 c.version,.int .i64 c.image,.int .i64 c.state,.bool c.ending,.string c.berth] 49 (0,0))):=AK hbq V4.out hv4;have R5:Hid (RowIs w5 49 7 g n cap (As L)):=R4.out.below hbq R4.out.lt;have HK5:Hid (∀q,q<w.heap.size->q≠g->w5.heap[q]?=w.heap[q]?):=λq hq hne=>(hbq.block q (by have:=hb4.size;omega)).trans (HK4.out q hq hne)
    have hb5N:Below N w w5:=hbN.trans (hb5.mono' (by omega));have hs5:w.heap.size<=w5.heap.size:=hb5N.size;clear hbq hb4 V4 R4 HK4 hbN HKP R2 hb5;cases pb
    ·have HTS1:Hid ((l.take (j+1)).filter (λc=>!(c.ending))=(l.take j).filter (λc=>!(c.ending))++[c]):=by unfold Hid;rw[HTS.out,HPB.out];rfl
     have hfi:i*7+7<=n*7:=by omega
     go_wp2_with (first
      |(refine wpList_load_row rfl 49 (.tmp 7) rfl vb rfl 49 #[.string c.service,.int .i64 c.number,.int .i64 c.version,.int .i64 c.image,.int .i64 c.state,.bool c.ending,.string c.berth] (0,0) _ V5.out Tryz.underlying49 rfl Tryz.infosCpX ?_)
      |(refine Cv rfl 49 (.tmp 33) (.tmp 32) rfl g (i*7) #[.string c.service,.int .i64 c.number,.int .i64 c.version,.int .i64 c.image,.int .i64 c.state,.bool c.ending,.string c.berth] rfl rfl Tryz.infosCpX (Gi c) 49 7 n cap _ R5.out (by show i*7+7<=n*7;omega) ?_;intro w6 hr on;have R6:Hid (RowIs w6 49 7 g n cap (As (L.set i c))):=(by have h:=hr.out;rw[show splice (As L) (i*7) (#[.string c.service,.int .i64 c.number,.int .i64 c.version,.int .i64 c.image,.int .i64 c.state,.bool c.ending,.string c.berth]:Array Value).toList=As (L.set i c) from C4 (c:=Cp.cells) (n:=7) (λ_=>rfl) L i c (by rw[HLN.out];omega)]at h;exact h);have HON:Hid (BA g w5 w6):=on;clear hr on))
     go_roundw
     case rel=>exact⟨_,_,_,_,_,_,_,_,_,_,_,_,_,_,_,_,_,_,_,_,_,_,_,⟨i+1,j+1,L.set i c,by omega,by omega,by go_num,by go_num,by unfold Hid;rw[List.length_set];exact HLN.out,by unfold Hid;rw[HTS1.out,<-HTK.out];exact Fv (by rw[HLN.out];omega),by unfold Hid;rw[List.drop_set_of_lt (by omega)];exact HDS.out,by rw[HON.out.size];exact hs5,λq hq hne=>(HON.out.other q hne).trans (HK5.out q hq hne),hb5N.trans (HON.out.below.mono' hNg),R6⟩,rfl⟩
     case measure=>simp[intOf];omega
    ·have HTS1:Hid ((l.take (j+1)).filter (λc=>!(c.ending))=(l.take j).filter (λc=>!(c.ending))):=by unfold Hid;rw[HTS.out,HPB.out];simp
     go_wp2
     go_roundw
     case rel=>exact⟨_,_,_,_,_,_,_,_,_,_,_,_,_,_,_,_,_,_,_,_,_,_,_,⟨i,j+1,L,by omega,by omega,(by first|rfl|trivial),by go_num,HLN,by unfold Hid;rw[HTS1.out];exact HTK.out,HDS,hs5,HK5,hb5N,R5⟩,rfl⟩
     case measure=>simp[intOf];omega
   ·have HFE:Hid (L.take i=l.filter (λc=>!(c.ending))):=by unfold Hid;rw[HTK.out,List.take_of_length_le (by rw[HN.out];omega)]
    obtain⟨cur,hgc,hcs,htk⟩:=R2.out.2.2;have HGC:Hid (wr.heap[g]?=some (.cells cur 49 (0,0))):=hgc;have HCS:Hid (cur.size=cap*7/\cur.toList.take (n*7)=As L):=⟨hcs,htk⟩;have hcs':n*7<=cur.size:=by rw[hcs];exact Nat.mul_le_mul_right _ hncap
    obtain⟨m,hm⟩:∃q,n - i=q:=⟨_,rfl⟩;have hm1:n<=i+m:=by omega
    have hm2:i+m<=n:=by omega
    clear hgc hcs htk
    go_upto_region 12 with(first
     |(refine AU rfl 24 (.tmp 36) (some (.tmp 37)) none none rfl Tryz.undCpsI 7 Tryz.infoElemCpI g 0 n cap i n cap rfl (some (.int .i64 (i:Int))) none none rfl rfl rfl (λw=>run_slice_l w _ _ _ _ Tryz.undCpsI .i64 (i:Int) (by omega) (by omega)) ?_;intro off hoff;rw[hm];clear hm)
     |(refine Dq rfl (.tmp 38) 24 rfl 49 _ 7 72 Tryz.underlying24 Tryz.infoCpI rfl (by simp[Value.cells,Value.oneCell']) g off m _ rfl cur 49 HGC.out (λ_=>by omega) ?_;intro cur' w3 hg3 hc3 on3;have HON:Hid (BA g wr w3):=on3;clear on3))
    go_wp2;go_ret;have hLi:(As L).take (i*7)=As (L.take i):=(Dn (c:=Cp.cells) (λ_=>rfl) L i).symm;refine⟨some ⟨g,0,none⟩,i,cap,rfl,?_,.inr ⟨g,rfl,hNg,?_⟩,λq hq hne=>(HON.out.other q (λe=>hne (by rw[e]))).trans (HKP.out q hq (λe=>hne (by rw[e]))),hbN.trans (HON.out.below.mono' hNg)⟩
    ·rw[<-HFE.out,List.length_take,HLN.out];omega
    ·rw[<-HFE.out]
     refine⟨?_,by omega,cur',hg3.out,by rw[hc3.out.1,HCS.out.1],?_⟩
     ·rw[Ea,List.length_take,HLN.out,Nat.min_eq_left (by omega)]
     ·rw[hc3.out.2 (i*7) (λ_=>by omega),<-hLi,<-HCS.out.2,List.take_take,Nat.min_eq_left (Nat.mul_le_mul_right _ (by omega))]
def Ba(v:Int)(l:List Cp)(k:Nat):List Cp:=(l.take k).map (Cr v)++l.drop k
theorem Hy(v:Int)(l:List Cp)(k:Nat):(Ba v l k).length=l.length:=by
 unfold Ba;rw[List.length_append,List.length_map,List.length_take,List.length_drop];omega
theorem MY{v:Int}{l:List Cp}{k:Nat}{c:Cp}(h:l[k]?=some c):(Ba v l k)[k]?=some c:=by
 have hk:=(AC h).1;unfold Ba;rw[List.getElem?_append_right (by rw[List.length_map,List.length_take];omega),List.length_map,List.length_take,Nat.min_eq_left (by omega),Nat.sub_self,List.getElem?_drop,Nat.add_zero];exact h
theorem Ke{v:Int}{l:List Cp}{k:Nat}{c:Cp}(h:l[k]?=some c):Ba v l (k+1)=(Ba v l k).set k (Cr v c):=by
 have hk:=(AC h).1;have hd:l.drop k=c::l.drop (k+1):=by rw[List.drop_eq_getElem_cons hk];congr 1;rw[List.getElem?_eq_getElem hk]at h;exact Option.some.inj h
 have hlen:((l.take k).map (Cr v)).length=k:=by rw[List.length_map,List.length_take];omega
 unfold Ba;rw[List.set_append_right _ _ (by omega),hlen,Nat.sub_self,hd,List.set_cons_zero,List.take_add_one,h,List.map_append,List.append_assoc];rfl
theorem LY(v:Int)(l:List Cp):Ba v l l.length=l.map (Cr v):=by
 unfold Ba;rw[List.take_length,List.drop_length,List.append_nil]
theorem LO{α:Type}{l:List α}{i:Nat}{x:α}(h:l[i]?=some x):l.set i x=l:=by
 refine List.ext_getElem? λj=>?_
 by_cases hj:j=i
 ·subst hj
  rw[List.getElem?_set_self (AC h).1,h]
 ·rw[List.getElem?_set_ne (by omega)]
theorem KC{v:Int}{l:List Cp}{d:Cp}(h:d∈Bw v l):∃c∈l,d=Cr v c:=by
 unfold Bw at h;obtain⟨c,hc,rfl⟩:=List.mem_map.1 h;exact⟨c,(List.mem_filter.1 hc).1,rfl⟩
theorem OE{B:Bk}(h:Fit B):Fit (Ht B B.now):=by
 obtain⟨z1,z2,z3,z4,z5,z6⟩:=h.sized;have hl:(Bw B.now B.cps).length<=B.cps.length:=Hb _ _;refine⟨h.l1,AH hl h.l2,h.l3,⟨z1,AH hl z2,z3,z4,λd hd=>?_,z6⟩,h.uS,h.uB,h.ascS,h.ascB⟩;obtain⟨c,hc,rfl⟩:=KC hd;rw[(Dr _ c).1,(Dr _ c).2];exact z5 c hc
theorem KW{B:Bk}(h:Cf B):Cf (Ht B B.now):=by
 refine⟨h.names,λd hd hs=>?_,h.uB⟩;obtain⟨c,hc,rfl⟩:=KC hd;rw[(Dr _ c).2];refine h.waits c hc ?_;unfold Cr at hs;split at hs
 ·exact absurd hs (by simp)
 ·exact hs
theorem pass_any(B:Bk)(N A:Nat)(a1 a2 a3:Option Addr)(k1 k2 k3:Nat)(w:World)(hF:Fit B)(hP:Cf B)(hN:N<=w.heap.size)(hV:BkVar w N A B a1 a2 a3 k1 k2 k3):
  Calls Tryz.prog 56 #[.agg #[.pointer (some ⟨A,0,none⟩)]] w λe w'=>e=.returned (.tuple #[])/\(∃b1 b2 b3 d1 d2 d3,BkVar w' N A (Ca B B.now) b1 b2 b3 d1 d2 d3)/\Below N w w':=by
 have hl2:=hF.l2;have hAl:=(AB hV.box).1;obtain⟨W0,hW0⟩:∃W,w.alloc (.cells #[.pointer (some ⟨A,0,none⟩)] 90)=W:=⟨_,rfl⟩;have hb0:=AM w (.cells #[.pointer (some ⟨A,0,none⟩)] 90);have E0:Hid (W0.heap[w.heap.size]?=some (.cells #[.pointer (some ⟨A,0,none⟩)] 90 (0,0))):=by unfold Hid;rw[<-hW0];exact heap_alloc_new w (.cells #[.pointer (some ⟨A,0,none⟩)] 90)
 rw[hW0]at hb0;have hz0:=(AB E0.out).1;have V0:=Ah (hV.below hb0)
 skip
 have A0:Hid (W0.heap[A]?=some (.cells #[.int .i64 B.now,.slice a1 B.svcs.length k1,.slice a2 B.cps.length k2,.slice a3 B.bts.length k3] 27 (0,0))):=V0.out.box;have HE2:Hid (a2≠some ⟨w.heap.size,0,none⟩):=V0.out.rows.cps.ne E0.out (by decide);have HA2:Hid (a2≠some ⟨A,0,none⟩):=V0.out.rows.cps.ne A0.out (by decide);have hA0:A<W0.heap.size:=by omega
 clear hV;go_enter Tryz.func56,Tryz.ntmps56
 go_upto_region 1 with fail
 clear hW0;refine Br 12 3 [[],[0],[1],[],[3],[4],[5],[6],[7],[8],[2],[10]] [9] [9] [9] [9] [] (λW=>RowOnly a2 N W0 W) (λW=>RowN W N 49 7 a2 B.cps.length k2 (As B.cps)) (λ_ _ _=>True) (λW h=>RowOnly.of h (by omega)) (λW h=>V0.out.rows.cps.below h) (λW W2 h hb=>h.grow hb (by omega)) (λW W2 _ h hb=>h.below hb) (by kernel_rfl) (by kernel_rfl) (by kernel_rfl) ?_;apply AS (by kernel_rfl)
 ·intro V W K A hI hJ hd hA hK
  clear hJ;simp only[pA]at hA;clear hd;obtain rfl:=hA;go_wp2;exact hK.out _ brf
 apply AS (by kernel_rfl)
 ·intro V W K A hI hJ hd hA hK
  clear hJ;have d0:V 0=_:=hd 0 (by kernel_rfl);simp only[pA]at hA;clear hd;generalize V 0=x0 at d0 hA;subst d0;obtain rfl:=hA;go_wp2;exact hK.out _ brf
 apply AS (by kernel_rfl)
 ·intro V W K A hI hJ hd hA hK
  clear hJ;have d1:V 1=_:=hd 1 (by kernel_rfl);simp only[pA]at hA;clear hd;generalize V 1=x1 at d1 hA;subst d1;obtain rfl:=hA;have q0:=AJ ((hI.block w.heap.size hz0 HE2.out).trans E0.out) 0 rfl;go_wp2;exact hK.out _ brf
 apply AS (by kernel_rfl)
 ·intro V W K A hI hJ hd hA hK
  clear hJ;simp only[pA]at hA;clear hd;obtain rfl:=hA;go_wp2;exact hK.out _ brf
 apply AS (by kernel_rfl)
 ·intro V W K A hI hJ hd hA hK
  clear hJ;have d3:V 3=_:=hd 3 (by kernel_rfl);simp only[pA]at hA;clear hd;generalize V 3=x3 at d3 hA;subst d3;obtain rfl:=hA;go_wp2;exact hK.out _ brf
 apply AS (by kernel_rfl)
 ·intro V W K A hI hJ hd hA hK
  clear hJ;have d4:V 4=_:=hd 4 (by kernel_rfl);simp only[pA]at hA;clear hd;generalize V 4=x4 at d4 hA;subst d4;obtain rfl:=hA;have q0:=AJ ((hI.block w.heap.size hz0 HE2.out).trans E0.out) 0 rfl;go_wp2;exact hK.out _ brf
 apply AS (by kernel_rfl)
 ·intro V W K A hI hJ hd hA hK
  clear hJ;have d5:V 5=_:=hd 5 (by kernel_rfl);simp only[pA]at hA;clear hd;generalize V 5=x5 at d5 hA;subst d5;obtain rfl:=hA;go_wp2;exact hK.out _ brf
 apply AS (by kernel_rfl)
 ·intro V W K A hI hJ hd hA hK
  clear hJ;have d6:V 6=_:=hd 6 (by kernel_rfl);simp only[pA]at hA;clear hd;generalize V 6=x6 at d6 hA;subst d6;obtain rfl:=hA;go_wp2;exact hK.out _ brf
 apply AS (by kernel_rfl)
 ·intro V W K A hI hJ hd hA hK
  clear hJ;have d7:V 7=_:=hd 7 (by kernel_rfl);simp only[pA]at hA;clear hd;generalize V 7=x7 at d7 hA;subst d7;obtain rfl:=hA;have e2:=AJ ((hI.block A hA0 HA2.out).trans A0.out) 2 rfl;go_wp2;exact hK.out _ brf
 refine Ds (λ(_:Nat->Value) vv W=>∃bo n' kk,vv=.slice bo n' kk/\n'=(B.cps.filter λc=>!(c.ending)).length/\RowN W N 49 7 bo n' kk (As (B.cps.filter λc=>!(c.ending)))) (λ_ v W W2 ⟨bo,n2,kk,h1,h2,h3⟩ hb=>⟨bo,n2,kk,h1,h2,h3.below hb⟩) (λ_ _ _ _ _ h=>h) (by kernel_rfl) (by kernel_rfl) ?_ ?_
 ·intro V W K A hI hJ hd hA hK
  have hJ:=hJ (by kernel_rfl);have d8:V 8=_:=hd 8 (by kernel_rfl);simp only[pA]at hA;clear hd;generalize hV0:V 0=x0 at hA hK;generalize hV1:V 1=x1 at hA hK;generalize hV2:V 2=x2 at hA hK;generalize hV3:V 3=x3 at hA hK;generalize hV4:V 4=x4 at hA hK;generalize hV5:V 5=x5 at hA hK;generalize hV6:V 6=x6 at hA hK;generalize hV7:V 7=x7 at hA hK;generalize hV8:V 8=x8 at d8 hA hK;generalize hV9:V 9=x9 at hA hK;generalize hV10:V 10=x10 at hA hK;generalize hV11:V 11=x11 at hA hK;subst d8;obtain rfl:=hA;have HI:Hid (RowOnly a2 N W0 W):=hI;have HJ:=Ay hJ;have hsz:=hI.size;clear hI hJ hV0 hV1 hV2 hV3 hV4 hV5 hV6 hV7 hV8 hV9 hV10 hV11
  go_wp2_with fail
  refine(L6 B.cps a2 B.cps.length k2 N W rfl (by have:=hF.l2;omega) (by omega) HJ.out).mono ?_;rintro e w2 ⟨bo,n2,kk,rfl,hn2,hr2,hkp,hbq⟩;have HR2:=Ay hr2;have HN2:Hid _:=hn2;have HKP:Hid _:=hkp;clear hr2 hn2 hkp;go_wp2;exact hK.out _ _ trivial ⟨λq hq hne=>(HKP.out q (by omega) hne).trans (HI.out.block q hq hne),AH hsz hbq.size,HI.out.below.trans hbq⟩ ⟨bo,n2,kk,rfl,HN2.out,HR2.out⟩
 apply AS (by kernel_rfl)
 ·intro V W K A hI hJ hd hA hK
  clear hJ;have d2:V 2=_:=hd 2 (by kernel_rfl);simp only[pA]at hA;clear hd;generalize V 2=x2 at d2 hA;subst d2;obtain rfl:=hA;go_wp2;exact hK.out _ brf
 apply AS (by kernel_rfl)
 ·intro V W K A hI hJ hd hA hK
  clear hJ;have d10:V 10=_:=hd 10 (by kernel_rfl);simp only[pA]at hA;clear hd;generalize V 10=x10 at d10 hA;subst d10;obtain rfl:=hA;go_wp2;exact hK.out _ brf
 refine⟨λi j hk V v W W' hr hq=>?_,?_⟩
 ·simp at hk
 intro V W A hI hS hA;have d0:V 0=_:=hS 0 (by omega) (.inr (by kernel_rfl));have d1:V 1=_:=hS 1 (by omega) (.inr (by kernel_rfl));have d2:V 2=_:=hS 2 (by omega) (.inr (by kernel_rfl));have d3:V 3=_:=hS 3 (by omega) (.inr (by kernel_rfl));have d4:V 4=_:=hS 4 (by omega) (.inr (by kernel_rfl));have d5:V 5=_:=hS 5 (by omega) (.inr (by kernel_rfl));have d6:V 6=_:=hS 6 (by omega) (.inr (by kernel_rfl));have d7:V 7=_:=hS 7 (by omega) (.inr (by kernel_rfl));have d8:V 8=_:=hS 8 (by omega) (.inr (by kernel_rfl));have d9:(λ(_:Nat->Value) vv W=>∃bo n' kk,vv=.slice bo n' kk/\n'=(B.cps.filter λc=>!(c.ending)).length/\RowN W N 49 7 bo n' kk (As (B.cps.filter λc=>!(c.ending)))) V (V 9) W:=hS 9 (by omega) (.inl (by kernel_rfl));have d10:V 10=_:=hS 10 (by omega) (.inr (by kernel_rfl));have d11:V 11=_:=hS 11 (by omega) (.inr (by kernel_rfl));simp only[pA]at hA;dsimp only at d9;clear hS;generalize V 0=x0 at d0 hA;generalize V 1=x1 at d1 hA;generalize V 2=x2 at d2 hA;generalize V 3=x3 at d3 hA;generalize V 4=x4 at d4 hA;generalize V 5=x5 at d5 hA;generalize V 6=x6 at d6 hA;generalize V 7=x7 at d7 hA;generalize V 8=x8 at d8 hA;generalize V 9=x9 at d9 hA;generalize V 10=x10 at d10 hA;generalize V 11=x11 at d11 hA;subst d0;subst d1;subst d2;subst d3;subst d4;subst d5;subst d6;subst d7;subst d8;subst d10;subst d11;obtain rfl:=hA;simp only[List.drop_succ_cons,List.drop_zero];obtain⟨bo,n',kk,rfl,hn',hr⟩:=d9;have HN':Hid (n'=(B.cps.filter λc=>!(c.ending)).length):=hn';have HRC:=Ay hr;have HI:Hid (RowOnly a2 N W0 W):=hI
 have AW:Hid (W.heap[A]?=some (.cells #[.int .i64 B.now,.slice a1 B.svcs.length k1,.slice a2 B.cps.length k2,.slice a3 B.bts.length k3] 27 (0,0))):=(hI.block A hA0 HA2.out).trans A0.out;have EW:Hid (W.heap[w.heap.size]?=some (.cells #[.pointer (some ⟨A,0,none⟩)] 90 (0,0))):=(hI.block w.heap.size hz0 HE2.out).trans E0.out;have hsW:=hI.size;have hn1:n'<=1000:=by rw[hn'];have:=List.length_filter_le (λc:Cp=>!(c.ending)) B.cps;omega
 clear hn' hr hI
 go_upto_region 2 with(refine Ai rfl 24 (.tmp 15) (.tmp 13) rfl A 2 (.slice bo n' kk) rfl rfl Tryz.infosCpsI rfl rfl 27 #[.int .i64 B.now,.slice a1 B.svcs.length k1,.slice a2 B.cps.length k2,.slice a3 B.bts.length k3] AW.out (AD rfl) ?_;intro w1 hz on;have A1:Hid (w1.heap[A]?=some (.cells #[.int .i64 B.now,.slice a1 B.svcs.length k1,.slice bo n' kk,.slice a3 B.bts.length k3] 27 (0,0))):=hz;have HON:Hid (BA A W w1):=on;clear hz on)
 have hAn:A≠w.heap.size:=by omega
 have E1:Hid (w1.heap[w.heap.size]?=some (.cells #[.pointer (some ⟨A,0,none⟩)] 90 (0,0))):=(HON.out.other _ (Ne.symm hAn)).trans EW.out;have RS1:Hid (RowN w1 N 29 13 a1 B.svcs.length k1 (AY B.svcs)):=(V0.out.rows.svcs.rowOnly HI.out V0.out.rows.cps (by decide)).only HON.out AW.out (by decide);have RB1:Hid (RowN w1 N 51 2 a3 B.bts.length k3 (Ak B.bts)):=(V0.out.rows.bts.rowOnly HI.out V0.out.rows.cps (by decide)).only HON.out AW.out (by decide)
 have RC1:Hid (RowN w1 N 49 7 bo n' kk (As (Ba B.now (B.cps.filter λc=>!(c.ending)) 0))):=by
  have h:=HRC.out.only HON.out AW.out (by decide);unfold Hid Ba
  simpa using h
 have hlo:=V0.out.lo;have hb1:Below N w w1:=(hb0.mono' hN).trans (HI.out.below.trans (HON.out.below.mono' hlo));have q0:=AJ E1.out 0 rfl;have e2:=AJ A1.out 2 rfl;clear AW EW HI HRC V0 A0 E0 HE2 HA2 HON hsW
 go_upto_region 3 with fail
 clear q0 e2;go_wp2
 go_loopw [23] (λiv wr=>∃k:Nat,k<=n'/\iv=.int .i64 k/\Hid (wr.heap[w.heap.size]?=some (.cells #[.pointer (some ⟨A,0,none⟩)] 90 (0,0)))/\Hid (wr.heap[A]?=some (.cells #[.int .i64 B.now,.slice a1 B.svcs.length k1,.slice bo n' kk,.slice a3 B.bts.length k3] 27 (0,0)))/\Hid (RowN wr N 29 13 a1 B.svcs.length k1 (AY B.svcs))/\Hid (RowN wr N 51 2 a3 B.bts.length k3 (Ak B.bts))/\Hid (RowN wr N 49 7 bo n' kk (As (Ba B.now (B.cps.filter λc=>!(c.ending)) k)))/\Below N w wr) (λi _=>n' - (intOf i).toNat)
 case atStart=>exact⟨0,by omega,rfl,E1,A1,RS1,RB1,RC1,hb1⟩
 case round=>
  clear E1 A1 RS1 RB1 RC1 hb1;obtain⟨k,hk,rfl,E2,A2,RS2,RB2,RC2,hb2⟩:=hrel
  by_cases hlt:k<n'
  ·obtain⟨c,hc⟩:∃c,(B.cps.filter λc=>!(c.ending))[k]?=some c:=⟨(B.cps.filter λc=>!(c.ending))[k]'(by rw[<-HN'.out];exact hlt),by rw[List.getElem?_eq_getElem]⟩
   have HC:Hid ((B.cps.filter λc=>!(c.ending))[k]?=some c):=hc;have HCR:Hid ((Ba B.now (B.cps.filter λc=>!(c.ending)) k)[k]?=some c):=MY hc;have HRS:Hid (Ba B.now (B.cps.filter λc=>!(c.ending)) (k+1)=(Ba B.now (B.cps.filter λc=>!(c.ending)) k).set k (Cr B.now c)):=Ke hc;have HRL:Hid ((Ba B.now (B.cps.filter λc=>!(c.ending)) k).length=n'):=by unfold Hid;rw[Hy,HN'.out]
   obtain⟨g,ea,hNg,hr⟩:=RC2.out.some (by omega);have HEA:Hid (bo=some ⟨g,0,none⟩):=ea;have HR:Hid (RowIs wr 49 7 g n' kk (As (Ba B.now (B.cps.filter λc=>!(c.ending)) k))):=hr;have hcap:=hr.2.1;have q0:=AJ E2.out 0 rfl;have e2:wr.cell? ⟨A,2,none⟩=some (.slice (some ⟨g,0,none⟩) n' kk):=by have h:=AJ A2.out 2 rfl;rw[ea]at h;exact h
   have y4:=HR.out.cell (AT (c:=Cp.cells) (n:=7) (λ_=>rfl) (Ba B.now (B.cps.filter λc=>!(c.ending)) k) k c 4 (.int .i64 c.state) HCR.out rfl);clear hc hr ea;cases hst:(c.state==2)
   ·have HT:Hid (Ba B.now (B.cps.filter λc=>!(c.ending)) (k+1)=Ba B.now (B.cps.filter λc=>!(c.ending)) k):=by
     unfold Hid;rw[HRS.out];have:Cr B.now c=c:=by unfold Cr;rw[if_neg (by simpa using hst)]
     rw[this];exact LO HCR.out
    go_wp2
    go_roundw
    case rel=>exact⟨k+1,by omega,by go_num,E2,A2,RS2,RB2,by unfold Hid;rw[HT.out];exact RC2.out,hb2⟩
    case measure=>simp[intOf];omega
   ·have HT:Hid (Cr B.now c=LF 3 B.now c):=by unfold Hid Cr;rw[if_pos (by simpa using hst)];rfl
    go_upto_region 7 with fail
    clear y4 e2
    go_wp2_with fail
    refine(GR B.now 3 A g k n' kk (.slice a1 B.svcs.length k1) (.slice bo n' kk) (.slice a3 B.bts.length k3) (Ba B.now (B.cps.filter λc=>!(c.ending)) k) c wr A2.out HR.out HRL.out HCR.out).mono ?_;rintro e w3 ⟨rfl,hr3,hkp,hb3⟩;have HKP:Hid _:=hkp;have R3:Hid (RowIs w3 49 7 g n' kk (As (Ba B.now (B.cps.filter λc=>!(c.ending)) (k+1)))):=by unfold Hid;rw[HRS.out,HT.out];exact hr3
    have hs3:=hb3.size;have HRO:Hid (RowOnly bo N wr w3):=⟨λq hq hne=>HKP.out q hq (λe=>hne (by rw[HEA.out,e])),hs3,hb3.mono' hNg⟩;have E3:Hid (w3.heap[w.heap.size]?=some (.cells #[.pointer (some ⟨A,0,none⟩)] 90 (0,0))):=(HRO.out.block _ (AB E2.out).1 (RC2.out.ne E2.out (by decide))).trans E2.out;have A3:Hid (w3.heap[A]?=some (.cells #[.int .i64 B.now,.slice a1 B.svcs.length k1,.slice bo n' kk,.slice a3 B.bts.length k3] 27 (0,0))):=(HRO.out.block _ (AB A2.out).1 (RC2.out.ne A2.out (by decide))).trans A2.out;have RS3:Hid (RowN w3 N 29 13 a1 B.svcs.length k1 (AY B.svcs)):=RS2.out.rowOnly HRO.out RC2.out (by decide);have RB3:Hid (RowN w3 N 51 2 a3 B.bts.length k3 (Ak B.bts)):=RB2.out.rowOnly HRO.out RC2.out (by decide);have hb4:Below N w w3:=hb2.trans HRO.out.below;clear hkp hr3 q0 hb3 HKP HRO;go_wp2
    go_roundw
    case rel=>exact⟨k+1,by omega,by go_num,E3,A3,RS3,RB3,.inr ⟨g,HEA.out,hNg,R3.out⟩,hb4⟩
    case measure=>simp[intOf];omega
  ·have HKE:Hid (k=n'):=by unfold Hid;omega
   have HLE:Hid (Ba B.now (B.cps.filter λc=>!(c.ending)) k=Bw B.now B.cps):=by unfold Hid Bw;rw[HKE.out,HN'.out,LY]
   have VX:Hid (BkVar wr N A (Ht B B.now) a1 bo a3 k1 kk k3):=by
    have hn2:n'=(Ht B B.now).cps.length:=by show n'=(Bw B.now B.cps).length;rw[<-HLE.out,Hy];exact HN'.out
    refine⟨hlo,?_,RS2.out,?_,RB2.out⟩
    ·have h:=A2.out;rw[hn2]at h;exact h
    ·have h:=RC2.out;rw[HLE.out,hn2]at h;exact h
   have HFX:Hid (Fit (Ht B B.now)):=OE hF;have HPX:Hid (Cf (Ht B B.now)):=KW hP;have q0:=AJ E2.out 0 rfl
   go_wp2_with fail
   refine(OR (Ht B B.now) N A a1 bo a3 k1 kk k3 wr HFX.out HPX.out (by have:=hb2.size;omega) VX.out).mono ?_;rintro e w3 ⟨rfl,hv3,hb3⟩;have V3:=Ah hv3;have hb4:Below N w w3:=hb2.trans hb3;clear hv3 hb3 q0;go_wp2;exact Go.Great.bodyPost_end0 rfl rfl ⟨rfl,⟨_,_,_,_,_,_,V3.out⟩,hb4⟩
theorem isC_iff{sv:ByteArray}{num:Int}{c:Cp}:isC sv num c=true↔c.service=sv/\c.number=num:=by
 unfold isC;rw[Bool.and_eq_true,beq_iff_eq (a:=c.number)];exact and_congr_left λ_=>same_nm
end
section
open Go.RowKit Go.Sort Go.Maps
def GQ(B:Bk):Prop:=∀(i j:Nat) c d,i<j->B.cps[i]?=some c->B.cps[j]?=some d->¬(c.service=d.service/\c.number=d.number)
def wfC(B:Bk):Prop:=∀c∈B.cps,(Lit.int .i64 c.number).wf=true
theorem K8{a b c:Cp}(h1:Bu a b=true)(h2:Bu b c=true):Bu a c=true:=by
 unfold Bu at *;simp only[Bool.or_eq_true,Bool.and_eq_true,decide_eq_true_eq,beq_iff_eq]at *;rcases h1 with h1|⟨e1,n1⟩
 ·rcases h2 with h2|⟨e2,n2⟩
  ·exact .inl (Be _ _ _ h1 h2)
  ·exact .inl (by rw[<-e2];exact h1)
 ·rcases h2 with h2|⟨e2,n2⟩
  ·exact .inl (by rw[e1];exact h2)
  ·exact .inr ⟨e1.trans e2,by omega⟩
theorem Hj{B:Bk}(h:∀i,i<B.cps.length->BD B i=true):∀(j i:Nat) s t,i<j->B.cps[i]?=some s->B.cps[j]?=some t->Bu s t=true
 |0,i,_,_,hi,_,_=>absurd hi (by omega)
 |j+1,i,s,t,hi,hs,ht=>by
  have hlt:j+1<B.cps.length:=(AC ht).1;obtain⟨p,hp⟩:∃p,B.cps[j]?=some p:=⟨B.cps[j]'(by omega),by rw[List.getElem?_eq_getElem]⟩
  have h1:Bu p t=true:=by
   have:=h (j+1) hlt;unfold BD at this;rw[ht]at this;simp[hp]at this;exact this.2
  rcases Nat.lt_or_ge i j with h'|h'
  ·exact K8 (Hj h j i s p h' hs hp) h1
  ·have e:i=j:=by omega
   subst e;rw[hp]at hs;cases hs;exact h1
theorem uniqC_of{B:Bk}(h:BH (BD B) B.cps.length=true):GQ B:=λi j c d hij hc hd ⟨e1,e2⟩=>by
 have:=Hj (Kz h) j i c d hij hc hd;unfold Bu at this;rw[e1,e2,B5]at this;simp at this
end
end Go.Proofs.YtbceafpodamnfaaGreat
