import Derived.Test.YtbceafpodamnfaaGreatH15
import Derived.Test.YtbceafpodamnfaaGreatH19
set_option linter.all false
set_option maxHeartbeats 4000000
set_option maxRecDepth 100000
namespace Go.Proofs.YtbceafpodamnfaaGreat
section
open Go Go.RowKit
def RDr(r:Nat)(Z:Nat->Prop)(w:World)(g q:Nat):Prop:=g=r/\Rd r w (q:Int)/\∀k,k<r->Z k
theorem MZ(r:Nat):Cc (RDr r):=by
 rintro Z Z' w w' g q q' ⟨rfl,⟨ao,n,cap,p,h1,h2,h3,h4,h5⟩,hz⟩ hZ hg hb hq;refine⟨rfl,⟨ao,n,cap,p,hg.trans h1,h2,by omega,h4,λhn=>?_⟩,λk hk=>hZ k (hz k hk)⟩;obtain⟨b,off,e,hlt,hr,hc⟩:=h5 hn;have hbb:=hb b (hz b hr);refine⟨b,off,e,?_,hr,λi hi=>?_⟩
 ·rw[Array.getElem?_eq_getElem hlt]at hbb
  exact(AB hbb).1
 ·rw[World.cell?_of_block (w:=w) hbb];exact hc i hi
theorem GW(r:Nat):RDpin (RDr r):=λ_ _ _ _ _ _ _ _ ⟨e,_,hz⟩ ⟨_,h,_⟩=>⟨e,h,hz⟩
def M6:Ct:=λvs es _ k=>∃(i:Nat) (n:Int),vs=[.complex .f64 i 0,.int .i64 n]/\lk es i=some rdB/\(-1125899906842624<n/\n<1125899906842624)/\∀x,Ew n x->k (.int .i64 x) []
theorem pick_ct(r:Nat):CN Tryz.prog (RDr r) 13 1 M6:=by
 rintro w0 G w q id vs es k0 hz hrl hw0 hes _ hq ⟨i,n,rfl,hi,hn,_⟩;obtain⟨g,e1,e2,e3⟩:=(hes i rdB (A9 _ _ _ hi)).k4 rfl;obtain⟨rfl,hR,hZ⟩:=e3
 have ha:(List.map (r2 G.α) [.complex .f64 i 0,.int .i64 n]).toArray=#[.pointer (some ⟨g,0,none⟩),.int .i64 n]:=by
  simp[r2,r1,r0,e1,Addr.add]
 rw[ha];refine(DS g n q w hn.1 hn.2 hR (by have:=hq.resolve_left (by decide);unfold QM at this;omega)).mono ?_;rintro e w' ⟨x,rfl,hx,hp,hr⟩;have hblk:∀k,k<w.heap.size->k≠g->w'.heap[k]?=w.heap[k]?:=hp.block;refine⟨.int .i64 x,[],G,λk hk=>?_,rfl,⟨⟨hp.os,hp.tape,hp.output,hp.size,λk hk hn=>hblk k hk λe=>hn (e▸e2)⟩,λ_ _=>rfl,λ_ h=>h,λ_ h=>.inl h,λk hk=>⟨AF (hz k hk).1 hp.size,(hz k hk).2⟩,λ_ h=>h,λ_ h=>.inl h,λk hk=>AF (hrl k hk) hp.size,λg' _ ⟨e,h,hz'⟩=>⟨e,hr _ h,hz'⟩⟩,⟨λ_ _ h=>(nomatch h),λ_ _ h=>(nomatch h),λ_ _ _ _ h=>(nomatch h)⟩,λ_ h=>(nomatch h),λ_ _ h=>(nomatch h)⟩;obtain⟨i',n',hv,_,_,hk⟩:=hk;simp only[List.cons.injEq,Value.int.injEq,true_and,and_true]at hv;exact hk x (by rw[<-hv.2];exact hx)
theorem NO{els:List (List Value)}{n:Nat}{el:List Value}(h:∀e∈els,∃s:ByteArray,e=[.string s]/\s.size<=10)(he:els[n]?=some el):∃s:ByteArray,el=[.string s]/\s.size<=10:=h el (AE he)
theorem str3{a b c:ByteArray}(ha:a.size<=10)(hb:b.size<=10)(hc:c.size<=10):∀e∈[[Value.string a],[.string b],[.string c]],∃s:ByteArray,e=[.string s]/\s.size<=10:=λe he=>by
 simp only[List.mem_cons,List.not_mem_nil,or_false]at he;rcases he with rfl|rfl|rfl
 ·exact⟨a,rfl,ha⟩
 ·exact⟨b,rfl,hb⟩
 ·exact⟨c,rfl,hc⟩
theorem GJ(r:Nat):Env Tryz.prog (RDr r) TT [(13,1,M6)]:=Ab (BC (MZ r)) (by kernel_rfl) (pick_ct r)
abbrev ctWish:Ct:=ctV (λ_:Unit=>[.complex .f64 0 0]) (λ_=>[(0,rdB)]) (λ_=>True) λ_ v es=>es=[]/\∃s:Svc,v=FE s/\s.name.size<=10
theorem NK(r:Nat):CN Tryz.prog (RDr r) 30 100 ctWish:=by
 refine JX (Ρ:=[]) (GJ r) (GW r) 100 (by decide) Tryz.func30 (by kernel_rfl) (.nil _) (by kernel_rfl) (λ_=>rfl) (λ_ _ _ _=>rfl) λ_ q _ hq=>?_
 refine And.intro (show q+6<=QM by omega) ?_;refine⟨0,3,rfl,rfl,⟨by decide,by decide⟩,λx hx=>?_⟩;have hx2:=hx.2.1 (by decide);refine And.intro hx.1 (And.intro hx2 (And.intro (AG _) (And.intro (show x.toNat<3 by have:=hx.1;omega) (λel hel=>?_))));obtain⟨nm,rfl,hnm⟩:=NO (str3 (by decide) (by decide) (by decide)) hel;refine⟨0,3,rfl,rfl,⟨by decide,by decide⟩,λx1 _=>?_⟩;refine λn1 _=>?_
 refine⟨0,6,rfl,rfl,⟨by decide,by decide⟩,λx2 _=>?_⟩;refine⟨0,3,rfl,rfl,⟨by decide,by decide⟩,λx3 _=>?_⟩;refine⟨0,3,rfl,rfl,⟨by decide,by decide⟩,λx4 _=>?_⟩;refine⟨0,10,rfl,rfl,⟨by decide,by decide⟩,λx5 _=>?_⟩;refine And.intro (λ_=>?_) (λ_=>?_)
 ·refine λn2 _=>And.intro (λ_=>?_) (λ_=>?_)
  ·refine And.intro (show q+7<=QM by omega) ?_
   refine⟨0,3,rfl,rfl,⟨by decide,by decide⟩,λx6 _=>?_⟩;refine And.intro (λ_=>?_) (λ_=>?_)
   ·refine And.intro (show q+8<=QM by omega) ?_
    refine⟨0,9,rfl,rfl,⟨by decide,by decide⟩,λy1 _=>?_⟩;refine λ_ _=>?_
    refine And.intro (show q+9<=QM by omega) ?_;refine⟨0,3,rfl,rfl,⟨by decide,by decide⟩,λy2 _=>?_⟩;refine And.intro (show q+10<=QM by omega) ?_;refine⟨0,5,rfl,rfl,⟨by decide,by decide⟩,λy3 _=>?_⟩;refine λ_ _=>?_
    refine And.intro (show q+11<=QM by omega) ?_;refine⟨0,60,rfl,rfl,⟨by decide,by decide⟩,λy4 _=>?_⟩;refine And.intro (show q+12<=QM by omega) ?_;refine⟨0,4,rfl,rfl,⟨by decide,by decide⟩,λy5 _=>?_⟩;refine And.intro (λ_=>?_) (λ_=>?_)
    ·exact⟨.inl rfl,_,rfl,⟨⟨_,_,[],⟨rfl,⟨_,_,_,_,_,_,_,_,_,_,_,_,_⟩,rfl,hnm⟩,rfl,trivial,rfl,rfl,trivial⟩,(show q+12<=q+100 by omega),0,rfl⟩,rfl⟩
    ·exact⟨.inl rfl,_,rfl,⟨⟨_,_,[],⟨rfl,⟨_,_,_,_,_,_,_,_,_,_,_,_,_⟩,rfl,hnm⟩,rfl,trivial,rfl,rfl,trivial⟩,(show q+12<=q+100 by omega),0,rfl⟩,rfl⟩
   ·exact⟨.inl rfl,_,rfl,⟨⟨_,_,[],⟨rfl,⟨_,_,_,_,_,_,_,_,_,_,_,_,_⟩,rfl,hnm⟩,rfl,trivial,rfl,rfl,trivial⟩,(show q+7<=q+100 by omega),0,rfl⟩,rfl⟩
  ·refine And.intro (show q+7<=QM by omega) ?_
   refine⟨0,3,rfl,rfl,⟨by decide,by decide⟩,λx6 _=>?_⟩;refine And.intro (λ_=>?_) (λ_=>?_)
   ·refine And.intro (show q+8<=QM by omega) ?_
    refine⟨0,9,rfl,rfl,⟨by decide,by decide⟩,λy1 _=>?_⟩;refine λ_ _=>?_
    refine And.intro (show q+9<=QM by omega) ?_;refine⟨0,3,rfl,rfl,⟨by decide,by decide⟩,λy2 _=>?_⟩;refine And.intro (show q+10<=QM by omega) ?_;refine⟨0,5,rfl,rfl,⟨by decide,by decide⟩,λy3 _=>?_⟩;refine λ_ _=>?_
    refine And.intro (show q+11<=QM by omega) ?_;refine⟨0,60,rfl,rfl,⟨by decide,by decide⟩,λy4 _=>?_⟩;refine And.intro (show q+12<=QM by omega) ?_;refine⟨0,4,rfl,rfl,⟨by decide,by decide⟩,λy5 _=>?_⟩;refine And.intro (λ_=>?_) (λ_=>?_)
    ·exact⟨.inl rfl,_,rfl,⟨⟨_,_,[],⟨rfl,⟨_,_,_,_,_,_,_,_,_,_,_,_,_⟩,rfl,hnm⟩,rfl,trivial,rfl,rfl,trivial⟩,(show q+12<=q+100 by omega),0,rfl⟩,rfl⟩
    ·exact⟨.inl rfl,_,rfl,⟨⟨_,_,[],⟨rfl,⟨_,_,_,_,_,_,_,_,_,_,_,_,_⟩,rfl,hnm⟩,rfl,trivial,rfl,rfl,trivial⟩,(show q+12<=q+100 by omega),0,rfl⟩,rfl⟩
   ·exact⟨.inl rfl,_,rfl,⟨⟨_,_,[],⟨rfl,⟨_,_,_,_,_,_,_,_,_,_,_,_,_⟩,rfl,hnm⟩,rfl,trivial,rfl,rfl,trivial⟩,(show q+7<=q+100 by omega),0,rfl⟩,rfl⟩
 ·refine λn2 _=>And.intro (λ_=>?_) (λ_=>?_)
  ·refine And.intro (show q+7<=QM by omega) ?_
   refine⟨0,3,rfl,rfl,⟨by decide,by decide⟩,λx6 _=>?_⟩;refine And.intro (λ_=>?_) (λ_=>?_)
   ·refine And.intro (show q+8<=QM by omega) ?_
    refine⟨0,9,rfl,rfl,⟨by decide,by decide⟩,λy1 _=>?_⟩;refine λ_ _=>?_
    refine And.intro (show q+9<=QM by omega) ?_;refine⟨0,3,rfl,rfl,⟨by decide,by decide⟩,λy2 _=>?_⟩;refine And.intro (show q+10<=QM by omega) ?_;refine⟨0,5,rfl,rfl,⟨by decide,by decide⟩,λy3 _=>?_⟩;refine λ_ _=>?_
    refine And.intro (show q+11<=QM by omega) ?_;refine⟨0,60,rfl,rfl,⟨by decide,by decide⟩,λy4 _=>?_⟩;refine And.intro (show q+12<=QM by omega) ?_;refine⟨0,4,rfl,rfl,⟨by decide,by decide⟩,λy5 _=>?_⟩;refine And.intro (λ_=>?_) (λ_=>?_)
    ·exact⟨.inl rfl,_,rfl,⟨⟨_,_,[],⟨rfl,⟨_,_,_,_,_,_,_,_,_,_,_,_,_⟩,rfl,hnm⟩,rfl,trivial,rfl,rfl,trivial⟩,(show q+12<=q+100 by omega),0,rfl⟩,rfl⟩
    ·exact⟨.inl rfl,_,rfl,⟨⟨_,_,[],⟨rfl,⟨_,_,_,_,_,_,_,_,_,_,_,_,_⟩,rfl,hnm⟩,rfl,trivial,rfl,rfl,trivial⟩,(show q+12<=q+100 by omega),0,rfl⟩,rfl⟩
   ·exact⟨.inl rfl,_,rfl,⟨⟨_,_,[],⟨rfl,⟨_,_,_,_,_,_,_,_,_,_,_,_,_⟩,rfl,hnm⟩,rfl,trivial,rfl,rfl,trivial⟩,(show q+7<=q+100 by omega),0,rfl⟩,rfl⟩
  ·refine And.intro (show q+7<=QM by omega) ?_
   refine⟨0,3,rfl,rfl,⟨by decide,by decide⟩,λx6 _=>?_⟩;refine And.intro (λ_=>?_) (λ_=>?_)
   ·refine And.intro (show q+8<=QM by omega) ?_
    refine⟨0,9,rfl,rfl,⟨by decide,by decide⟩,λy1 _=>?_⟩;refine λ_ _=>?_
    refine And.intro (show q+9<=QM by omega) ?_;refine⟨0,3,rfl,rfl,⟨by decide,by decide⟩,λy2 _=>?_⟩;refine And.intro (show q+10<=QM by omega) ?_;refine⟨0,5,rfl,rfl,⟨by decide,by decide⟩,λy3 _=>?_⟩;refine λ_ _=>?_
    refine And.intro (show q+11<=QM by omega) ?_;refine⟨0,60,rfl,rfl,⟨by decide,by decide⟩,λy4 _=>?_⟩;refine And.intro (show q+12<=QM by omega) ?_;refine⟨0,4,rfl,rfl,⟨by decide,by decide⟩,λy5 _=>?_⟩;refine And.intro (λ_=>?_) (λ_=>?_)
    ·exact⟨.inl rfl,_,rfl,⟨⟨_,_,[],⟨rfl,⟨_,_,_,_,_,_,_,_,_,_,_,_,_⟩,rfl,hnm⟩,rfl,trivial,rfl,rfl,trivial⟩,(show q+12<=q+100 by omega),0,rfl⟩,rfl⟩
    ·exact⟨.inl rfl,_,rfl,⟨⟨_,_,[],⟨rfl,⟨_,_,_,_,_,_,_,_,_,_,_,_,_⟩,rfl,hnm⟩,rfl,trivial,rfl,rfl,trivial⟩,(show q+12<=q+100 by omega),0,rfl⟩,rfl⟩
   ·exact⟨.inl rfl,_,rfl,⟨⟨_,_,[],⟨rfl,⟨_,_,_,_,_,_,_,_,_,_,_,_,_⟩,rfl,hnm⟩,rfl,trivial,rfl,rfl,trivial⟩,(show q+7<=q+100 by omega),0,rfl⟩,rfl⟩
def BP.v1(p:BP):Value:=.agg #[.int .i64 p.B.now,.iface 1 (.slice none p.B.svcs.length p.c1),.iface 2 (.slice none p.B.cps.length p.c2),.iface 3 (.slice none p.B.bts.length p.c3)]
def BP.m1(p:BP):AV:=[(0,rdB),(1,BZ 29 13 svL p.B.svcs),(2,BZ 49 7 cpL p.B.cps),(3,BZ 51 2 btL p.B.bts)]
theorem BP.inj1{p p':BP}(hv:p.v1=p'.v1)(hm:p.m1=p'.m1):p=p':=by
 simp only[BP.m1,List.cons.injEq,Prod.mk.injEq,true_and,and_true]at hm;refine BP.inj ?_ hm.1 hm.2.1 hm.2.2;have:=congrArg Array.toList (Value.agg.inj hv);simp at this;unfold BP.v;rw[this.1,this.2.1.1,this.2.1.2,this.2.2.1.1,this.2.2.1.2,this.2.2.2.1,this.2.2.2.2]
theorem CU{n x:Int}(h:Ew n x)(k:Nat)(hn:n=k)(hk:0<k):x.toNat<k:=by
 have h1:=h.1;have h2:=h.2.1 (by omega);omega
def evV0(k:Int)(s:Svc)(nm:ByteArray)(n:Int)(f:Bool):Value:=.agg #[.int .i64 k,.string s.name,.int .i64 s.version,.bool s.gone,.int .i64 s.image,.int .i64 s.want,.int .i64 s.down,.int .i64 s.over,.int .i64 s.next,.int .i64 s.per,.int .i64 s.least,.int .i64 s.most,.int .i64 s.load,.int .i64 s.cool,.string nm,.int .i64 n,.bool f]
def okSp(B:Bk):Prop:=(B.svcs.length<=1001/\B.cps.length<=1001/\B.bts.length<=1001)/\(∀s∈B.svcs,s.name.size<=maxLen)/\(∀c∈B.cps,c.service.size<=maxLen/\c.berth.size<=maxLen)/\∀b∈B.bts,b.name.size<=maxLen
theorem okBk.sp{B:Bk}(h:okBk B):okSp B:=⟨⟨Nat.le_succ_of_le h.1.1,Nat.le_succ_of_le h.1.2.1,Nat.le_succ_of_le h.1.2.2⟩,h.2⟩
def NumOk(B:Bk)(n:Int):Prop:=(-1<=n/\n<=1000001)\/∃c∈B.cps,c.number=n
theorem NumOk.zero(B:Bk):NumOk B 0:=.inl ⟨by decide,by decide⟩
theorem NumOk.pk{B:Bk}{m x:Int}(h:Ew m x)(h0:0<m)(h1:m<=1000):NumOk B x:=.inl (by have:=h.1;have:=h.2.1 h0;omega)
theorem NumOk.pk1{B:Bk}{m x z:Int}(h:Ew m x)(h0:0<m)(h1:m<=1000)(hz:z=1+x):NumOk B z:=.inl (by have:=h.1;have:=h.2.1 h0;omega)
abbrev ctEvent:Ct:=ctV (λp:BP=>[.complex .f64 0 0,p.v1]) (λp=>p.m1) (λp=>okSp p.B) λp v es=>es=[]/\∃k s nm n f,v=evV0 k s nm n f/\s.name.size<=maxLen/\nm.size<=maxLen/\NumOk p.B n
theorem Lz(r:Nat):CN Tryz.prog (RDr r) 12 2000 ctEvent:=by
 refine JX (Ρ:=[]) (Ab (GJ r) (f:=30) (by kernel_rfl) (NK r)) (GW r) 2000 (by decide) Tryz.func12 (by kernel_rfl) (.nil _) (by kernel_rfl) (λ_=>rfl) (λp p' h hm=>BP.inj1 (List.cons.inj (List.cons.inj h).2).1 hm) ?_;rintro⟨B,c1,c2,c3⟩ q ⟨htn,hsn,hcn,_⟩ hq;have hweb:(⟨#[119,101,98]⟩:ByteArray).size<=maxLen:=by decide
 have ht1:B.svcs.length<=1001:=htn.1;have ht2:B.cps.length<=1001:=htn.2.1;have hsn:∀s∈B.svcs,s.name.size<=maxLen:=hsn;have hcn:∀c∈B.cps,c.service.size<=maxLen:=λc hc=>(hcn c hc).1
 refine And.intro (show q+1<=QM by omega) ?_;refine⟨0,3,rfl,rfl,⟨by decide,by decide⟩,λx hx=>?_⟩;have hx2:=hx.2.1 (by decide);refine And.intro hx.1 (And.intro hx2 (And.intro (AG _) (And.intro (CU hx 3 rfl (by decide)) (λel hel=>?_))));have h3:∃s:ByteArray,el=[.string s]/\s.size<=10:=NO (str3 (a:=⟨#[97]⟩) (b:=⟨#[98]⟩) (c:=⟨#[99]⟩) (by decide) (by decide) (by decide)) hel;clear hel hx hx2;obtain⟨bt,rfl,hbt⟩:=h3;refine And.intro (show q+2<=QM by omega) ?_;refine⟨0,20,rfl,rfl,⟨by decide,by decide⟩,λu _=>?_⟩;refine And.intro (λ_=>?_) (λh=>?_)
 ·exact⟨.inl rfl,_,rfl,⟨⟨_,_,[],⟨rfl,_,⟨_,_,_,_,_,_,_,_,_,_,_,_,_⟩,_,_,_,rfl,(AI _),(AI _),.zero _⟩,rfl,trivial,rfl,rfl,trivial⟩,(show q+2<=q+2000 by omega),0,rfl⟩,rfl⟩
 clear h;refine And.intro (λ_=>?_) (λh=>?_)
 ·exact⟨.inl rfl,_,rfl,⟨⟨_,_,[],⟨rfl,_,⟨_,_,_,_,_,_,_,_,_,_,_,_,_⟩,_,_,_,rfl,(AI _),(AI _),.zero _⟩,rfl,trivial,rfl,rfl,trivial⟩,(show q+2<=q+2000 by omega),0,rfl⟩,rfl⟩
 clear h;refine And.intro (λ_=>?_) (λh=>?_)
 ·exact⟨.inl rfl,_,rfl,⟨⟨_,_,[],⟨rfl,_,⟨_,_,_,_,_,_,_,_,_,_,_,_,_⟩,_,_,_,rfl,(AI _),(AI _),.zero _⟩,rfl,trivial,rfl,rfl,trivial⟩,(show q+2<=q+2000 by omega),0,rfl⟩,rfl⟩
 clear h;refine And.intro (λ_=>?_) (λh=>?_)
 ·exact⟨.inl rfl,_,rfl,⟨⟨_,_,[],⟨rfl,_,⟨_,_,_,_,_,_,_,_,_,_,_,_,_⟩,_,_,_,rfl,(AI _),(AI _),.zero _⟩,rfl,trivial,rfl,rfl,trivial⟩,(show q+2<=q+2000 by omega),0,rfl⟩,rfl⟩
 clear h;refine And.intro (λ_=>?_) (λh=>?_)
 ·exact⟨.inl rfl,_,rfl,⟨⟨_,_,[],⟨rfl,_,⟨_,_,_,_,_,_,_,_,_,_,_,_,_⟩,_,_,_,rfl,(AI _),(AI _),.zero _⟩,rfl,trivial,rfl,rfl,trivial⟩,(show q+2<=q+2000 by omega),0,rfl⟩,rfl⟩
 clear h;refine And.intro (λ_=>?_) (λh=>?_)
 ·exact⟨.inl rfl,_,rfl,⟨⟨_,_,[],⟨rfl,_,⟨_,_,_,_,_,_,_,_,_,_,_,_,_⟩,_,_,_,rfl,(AI _),(AI _),.zero _⟩,rfl,trivial,rfl,rfl,trivial⟩,(show q+2<=q+2000 by omega),0,rfl⟩,rfl⟩
 clear h;refine And.intro (λ_=>?_) (λh=>?_)
 ·exact⟨.inl rfl,_,rfl,⟨⟨_,_,[],⟨rfl,_,⟨_,_,_,_,_,_,_,_,_,_,_,_,_⟩,_,_,_,rfl,(AI _),(AI _),.zero _⟩,rfl,trivial,rfl,rfl,trivial⟩,(show q+2<=q+2000 by omega),0,rfl⟩,rfl⟩
 clear h;refine And.intro (λ_=>?_) (λh=>?_)
 ·refine And.intro (show q+102<=QM by omega) ?_
  refine⟨(),rfl,trivial,?_⟩;rintro _ _ ⟨rfl,s,rfl,hs⟩;exact⟨.inl rfl,_,rfl,⟨⟨_,_,[],⟨rfl,_,⟨_,_,_,_,_,_,_,_,_,_,_,_,_⟩,_,_,_,rfl,(AH hs (by decide)),(AI _),.zero _⟩,rfl,trivial,rfl,rfl,trivial⟩,(show q+102<=q+2000 by omega),0,rfl⟩,rfl⟩
 clear h;refine And.intro (λ_=>?_) (λh=>?_)
 ·refine And.intro (show q+102<=QM by omega) ?_
  refine⟨(),rfl,trivial,?_⟩;rintro _ _ ⟨rfl,s,rfl,hs⟩;exact⟨.inl rfl,_,rfl,⟨⟨_,_,[],⟨rfl,_,⟨_,_,_,_,_,_,_,_,_,_,_,_,_⟩,_,_,_,rfl,(AH hs (by decide)),(AI _),.zero _⟩,rfl,trivial,rfl,rfl,trivial⟩,(show q+102<=q+2000 by omega),0,rfl⟩,rfl⟩
 clear h;refine And.intro (λ_=>?_) (λh=>?_)
 ·refine And.intro (show q+102<=QM by omega) ?_
  refine⟨(),rfl,trivial,?_⟩;rintro _ _ ⟨rfl,s,rfl,hs⟩;exact⟨.inl rfl,_,rfl,⟨⟨_,_,[],⟨rfl,_,⟨_,_,_,_,_,_,_,_,_,_,_,_,_⟩,_,_,_,rfl,(AH hs (by decide)),(AI _),.zero _⟩,rfl,trivial,rfl,rfl,trivial⟩,(show q+102<=q+2000 by omega),0,rfl⟩,rfl⟩
 clear h;refine And.intro (λ_=>?_) (λh=>?_)
 ·refine⟨λn z=>∃(x:Int) (q':Nat),0<=x/\x<=B.svcs.length/\n=B.svcs.length - x.toNat/\q'<=q+2+x.toNat/\z=⟨[(6,.int .i64 x),(0,.complex .f64 0 0),(3,.complex .f64 64 0),(4,.complex .f64 72 0)],(72,AZ [.int .i64 0,.string ⟨#[]⟩,.int .i64 0,.bool false,.int .i64 0,.int .i64 0,.int .i64 0,.int .i64 0,.int .i64 0,.int .i64 0,.int .i64 0,.int .i64 0,.int .i64 0,.int .i64 0,.string ⟨#[]⟩,.int .i64 0,.bool false] 31)::(64,AZ [.int .i64 B.now,.iface 1 (.slice none B.svcs.length c1),.iface 2 (.slice none B.cps.length c2),.iface 3 (.slice none B.bts.length c3)] 27)::BP.m1 ⟨B,c1,c2,c3⟩,300,q'⟩,B.svcs.length,⟨_,(by refine⟨[],?_,?_,rfl,rfl,AG _⟩<;>repeat' (first|exact rfl|exact trivial|exact⟨_,rfl,.same _ _ rfl⟩|apply And.intro)),0,_,by omega,by omega,by omega,AG _,rfl⟩,?_⟩
  rintro n _ ⟨x,q',h0,h1,rfl,hq',rfl⟩;refine And.intro (λhlt=>?_) (λhlt=>?_)
  ·have hlt:x<B.svcs.length:=hlt
   refine And.intro (show q'+1<=QM by omega) ?_;refine⟨0,2,rfl,rfl,⟨by decide,by decide⟩,λy0 _=>?_⟩;refine And.intro (λ_=>?_) (λ_=>?_)
   ·refine And.intro h0 (And.intro hlt (And.intro (AG _) (λs hs=>?_)))
    refine λu _=>?_
    exact⟨.inl rfl,_,rfl,⟨⟨_,_,[],⟨rfl,_,{s with image:=u},_,_,_,rfl,(hsn s (AE hs)),(AI _),.zero _⟩,rfl,trivial,rfl,rfl,trivial⟩,(show q'+1<=q+2000 by omega),0,rfl⟩,rfl⟩
   ·refine λy hy=>?_
    have hy:=hy ⟨by omega,by omega⟩;exact⟨B.svcs.length - y.toNat,by omega,_,(by refine⟨[],?_,?_,rfl,rfl,AG _⟩<;>repeat' (first|exact rfl|exact trivial|exact⟨_,rfl,.same _ _ rfl⟩|apply And.intro)),y,q'+1,by omega,by omega,rfl,by omega,rfl⟩
  ·refine And.intro (show q'+1<=QM by omega) ?_
   refine And.intro (λhl=>?_) (λhl=>?_)
   ·refine⟨0,8,rfl,rfl,⟨by decide,by decide⟩,λy1 _=>?_⟩
    refine And.intro (λ_=>?_) (λ_=>?_)
    ·refine And.intro (show q'+1+1<=QM by omega) ?_
     have hl:(0:Int)<B.cps.length:=hl;refine⟨0,(B.cps.length:Int),rfl,rfl,⟨by omega,by omega⟩,λx hx=>?_⟩;have hx2:=hx.2.1 (by omega);refine And.intro hx.1 (And.intro hx2 (And.intro (AG _) (λc hc=>?_)));exact⟨.inl rfl,_,rfl,⟨⟨_,_,[],⟨rfl,_,⟨_,_,_,_,_,_,_,_,_,_,_,_,_⟩,_,_,_,rfl,(AI _),(hcn c (AE hc)),.inr ⟨c,AE hc,rfl⟩⟩,rfl,trivial,rfl,rfl,trivial⟩,(show q'+1+1<=q+2000 by omega),0,rfl⟩,rfl⟩
    ·refine And.intro (show q'+1+1<=QM by omega) ?_
     refine⟨0,6,rfl,rfl,⟨by decide,by decide⟩,λy2 hy2=>?_⟩;refine λz hz=>?_
     exact⟨.inl rfl,_,rfl,⟨⟨_,_,[],⟨rfl,_,⟨_,_,_,_,_,_,_,_,_,_,_,_,_⟩,⟨#[119,101,98]⟩,_,_,rfl,(AI _),hweb,.pk1 hy2 (by decide) (by decide) (hz (by have:=hy2.1;have:=hy2.2.1 (by decide);exact⟨by omega,by omega⟩))⟩,rfl,trivial,rfl,rfl,trivial⟩,(show q'+1+1<=q+2000 by omega),0,rfl⟩,rfl⟩
   ·refine And.intro (show q'+1+1<=QM by omega) ?_
    refine⟨0,6,rfl,rfl,⟨by decide,by decide⟩,λy2 hy2=>?_⟩;refine λz hz=>?_
    exact⟨.inl rfl,_,rfl,⟨⟨_,_,[],⟨rfl,_,⟨_,_,_,_,_,_,_,_,_,_,_,_,_⟩,⟨#[119,101,98]⟩,_,_,rfl,(AI _),hweb,.pk1 hy2 (by decide) (by decide) (hz (by have:=hy2.1;have:=hy2.2.1 (by decide);exact⟨by omega,by omega⟩))⟩,rfl,trivial,rfl,rfl,trivial⟩,(show q'+1+1<=q+2000 by omega),0,rfl⟩,rfl⟩
 clear h;refine And.intro (λ_=>?_) (λh=>?_)
 ·exact⟨.inl rfl,_,rfl,⟨⟨_,_,[],⟨rfl,_,⟨_,_,_,_,_,_,_,_,_,_,_,_,_⟩,_,_,_,rfl,(AI _),(AH hbt (by decide)),.zero _⟩,rfl,trivial,rfl,rfl,trivial⟩,(show q+2<=q+2000 by omega),0,rfl⟩,rfl⟩
 clear h;refine And.intro (λ_=>?_) (λh=>?_)
 ·refine And.intro (show q+3<=QM by omega) ?_
  refine⟨0,3,rfl,rfl,⟨by decide,by decide⟩,λy _=>?_⟩;refine And.intro (λ_=>?_) (λ_=>?_)
  ·exact⟨.inl rfl,_,rfl,⟨⟨_,_,[],⟨rfl,_,⟨_,_,_,_,_,_,_,_,_,_,_,_,_⟩,_,_,_,rfl,(AI _),(AH hbt (by decide)),.zero _⟩,rfl,trivial,rfl,rfl,trivial⟩,(show q+3<=q+2000 by omega),0,rfl⟩,rfl⟩
  ·exact⟨.inl rfl,_,rfl,⟨⟨_,_,[],⟨rfl,_,⟨_,_,_,_,_,_,_,_,_,_,_,_,_⟩,_,_,_,rfl,(AI _),(AH hbt (by decide)),.zero _⟩,rfl,trivial,rfl,rfl,trivial⟩,(show q+3<=q+2000 by omega),0,rfl⟩,rfl⟩
 clear h;refine And.intro (λ_=>?_) (λh=>?_)
 ·refine And.intro (show q+3<=QM by omega) ?_
  refine⟨0,3,rfl,rfl,⟨by decide,by decide⟩,λy _=>?_⟩;refine And.intro (λ_=>?_) (λ_=>?_)
  ·exact⟨.inl rfl,_,rfl,⟨⟨_,_,[],⟨rfl,_,⟨_,_,_,_,_,_,_,_,_,_,_,_,_⟩,_,_,_,rfl,(AI _),(AH hbt (by decide)),.zero _⟩,rfl,trivial,rfl,rfl,trivial⟩,(show q+3<=q+2000 by omega),0,rfl⟩,rfl⟩
  ·exact⟨.inl rfl,_,rfl,⟨⟨_,_,[],⟨rfl,_,⟨_,_,_,_,_,_,_,_,_,_,_,_,_⟩,_,_,_,rfl,(AI _),(AH hbt (by decide)),.zero _⟩,rfl,trivial,rfl,rfl,trivial⟩,(show q+3<=q+2000 by omega),0,rfl⟩,rfl⟩
 clear h;refine And.intro (λ_=>?_) (λh=>?_)
 ·refine And.intro (show q+4<=QM by omega) ?_
  refine⟨0,3,rfl,rfl,⟨by decide,by decide⟩,λx hx=>?_⟩;have hx2:=hx.2.1 (by decide);refine And.intro hx.1 (And.intro hx2 (And.intro (AG _) (And.intro (CU hx 3 rfl (by decide)) (λel hel=>?_))));have h3:∃s:ByteArray,el=[.string s]/\s.size<=10:=NO (str3 (a:=⟨#[100,98]⟩) (b:=⟨#[119,101,98]⟩) (c:=⟨#[120,45,49]⟩) (by decide) (by decide) (by decide)) hel;clear hel;obtain⟨nm,rfl,hnm⟩:=h3;refine⟨0,60,rfl,rfl,⟨by decide,by decide⟩,λy hy=>?_⟩;exact⟨.inl rfl,_,rfl,⟨⟨_,_,[],⟨rfl,_,⟨_,_,_,_,_,_,_,_,_,_,_,_,_⟩,_,_,_,rfl,(AI _),(AH hnm (by decide)),.pk hy (by decide) (by decide)⟩,rfl,trivial,rfl,rfl,trivial⟩,(show q+4<=q+2000 by omega),0,rfl⟩,rfl⟩
 refine And.intro (λ_=>?_) (λ_=>?_)
 ·refine And.intro (show q+4<=QM by omega) ?_
  refine⟨0,3,rfl,rfl,⟨by decide,by decide⟩,λx hx=>?_⟩;have hx2:=hx.2.1 (by decide);refine And.intro hx.1 (And.intro hx2 (And.intro (AG _) (And.intro (CU hx 3 rfl (by decide)) (λel hel=>?_))));have h3:∃s:ByteArray,el=[.string s]/\s.size<=10:=NO (str3 (a:=⟨#[100,98]⟩) (b:=⟨#[119,101,98]⟩) (c:=⟨#[120,45,49]⟩) (by decide) (by decide) (by decide)) hel;clear hel;obtain⟨nm,rfl,hnm⟩:=h3;refine⟨0,60,rfl,rfl,⟨by decide,by decide⟩,λy hy=>?_⟩;exact⟨.inl rfl,_,rfl,⟨⟨_,_,[],⟨rfl,_,⟨_,_,_,_,_,_,_,_,_,_,_,_,_⟩,_,_,_,rfl,(AI _),(AH hnm (by decide)),.pk hy (by decide) (by decide)⟩,rfl,trivial,rfl,rfl,trivial⟩,(show q+4<=q+2000 by omega),0,rfl⟩,rfl⟩
 clear h;refine And.intro (show q+2+1<=QM by omega) ?_;refine And.intro (λhl=>?_) (λhl=>?_)
 ·refine⟨0,8,rfl,rfl,⟨by decide,by decide⟩,λy1 _=>?_⟩
  refine And.intro (λ_=>?_) (λ_=>?_)
  ·refine And.intro (show q+2+1+1<=QM by omega) ?_
   have hl:(0:Int)<B.cps.length:=hl;refine⟨0,(B.cps.length:Int),rfl,rfl,⟨by omega,by omega⟩,λx hx=>?_⟩;have hx2:=hx.2.1 (by omega);refine And.intro hx.1 (And.intro hx2 (And.intro (AG _) (λc hc=>?_)));exact⟨.inl rfl,_,rfl,⟨⟨_,_,[],⟨rfl,_,⟨_,_,_,_,_,_,_,_,_,_,_,_,_⟩,_,_,_,rfl,(AI _),(hcn c (AE hc)),.inr ⟨c,AE hc,rfl⟩⟩,rfl,trivial,rfl,rfl,trivial⟩,(show q+2+1+1<=q+2000 by omega),0,rfl⟩,rfl⟩
  ·refine And.intro (show q+2+1+1<=QM by omega) ?_
   refine⟨0,6,rfl,rfl,⟨by decide,by decide⟩,λy2 hy2=>?_⟩;refine λz hz=>?_
   exact⟨.inl rfl,_,rfl,⟨⟨_,_,[],⟨rfl,_,⟨_,_,_,_,_,_,_,_,_,_,_,_,_⟩,⟨#[119,101,98]⟩,_,_,rfl,(AI _),hweb,.pk1 hy2 (by decide) (by decide) (hz (by have:=hy2.1;have:=hy2.2.1 (by decide);exact⟨by omega,by omega⟩))⟩,rfl,trivial,rfl,rfl,trivial⟩,(show q+2+1+1<=q+2000 by omega),0,rfl⟩,rfl⟩
 ·refine And.intro (show q+2+1+1<=QM by omega) ?_
  refine⟨0,6,rfl,rfl,⟨by decide,by decide⟩,λy2 hy2=>?_⟩;refine λz hz=>?_
  exact⟨.inl rfl,_,rfl,⟨⟨_,_,[],⟨rfl,_,⟨_,_,_,_,_,_,_,_,_,_,_,_,_⟩,⟨#[119,101,98]⟩,_,_,rfl,(AI _),hweb,.pk1 hy2 (by decide) (by decide) (hz (by have:=hy2.1;have:=hy2.2.1 (by decide);exact⟨by omega,by omega⟩))⟩,rfl,trivial,rfl,rfl,trivial⟩,(show q+2+1+1<=q+2000 by omega),0,rfl⟩,rfl⟩
end
end Go.Proofs.YtbceafpodamnfaaGreat
