import Derived.Test.YtbceafpodamnfaaGreatDoorG21
set_option linter.all false
set_option maxHeartbeats 8000000
set_option maxRecDepth 100000
namespace Go.Proofs.YtbceafpodamnfaaGreatDoor
section
open Go.RowKit
def RDr(r:Nat)(Z:Nat->Prop)(w:World)(g q:Nat):Prop:=g=r/\Rd r w (q:Int)/\∀k,k<r->Z k
theorem NG(r:Nat):B9 (RDr r):=by
 rintro Z Z' w w' g q q' ⟨rfl,⟨ao,n,cap,p,h1,h2,h3,h4,h5⟩,J⟩ hZ hg hb hq;refine⟨rfl,⟨ao,n,cap,p,hg.trans h1,h2,by omega,h4,λhn=>?_⟩,λk hk=>hZ k (J k hk)⟩;obtain⟨b,off,e,H,M,Y⟩:=h5 hn;have F:=hb b (J b M);refine⟨b,off,e,?_,M,λi W=>?_⟩
 ·rw[io H]at F
  exact(AB F).1
 ·rw[eF (w:=w) F];exact Y i W
theorem Gl(r:Nat):RDpin (RDr r):=λ_ _ _ _ _ _ _ _ ⟨e,_,F⟩ ⟨_,h,_⟩=>⟨e,h,F⟩
def Nj:Ct:=λvs es _ k=>∃(i:Nat) (n:Int),vs=[.complex .f64 i 0,.int .i64 n]/\lk es i=some rdB/\(-1125899906842624<n/\n<1125899906842624)/\∀x,FR n x->k (.int .i64 x) []
theorem pick_ct(r:Nat):B7 Tryz.prog (RDr r) 38 1 Nj:=by
 rintro w0 G w q id vs es k0 Z M ag Y _ hq ⟨i,n,rfl,hi,J,_⟩;obtain⟨g,e1,e2,e3⟩:=(Y i rdB (Aj _ _ _ hi)).k4 rfl;obtain⟨rfl,hR,hZ⟩:=e3
 have ha:(List.map (r2 G.α) [.complex .f64 i 0,.int .i64 n]).toArray=#[.pointer (qad g),.int .i64 n]:=by
  simp[r2,r1,r0,e1,Addr.add]
 rw[ha];refine(CS g n q w J.1 J.2 hR (by have:=hq.resolve_left (by decide);unfold QM at this;omega)).mono ?_;rintro e w' ⟨x,rfl,hx,F,hr⟩;have H:∀k,k<w.heap.size->k≠g->w'.heap[k]?=w.heap[k]?:=F.block;refine⟨.int .i64 x,[],G,λk hk=>?_,rfl,⟨⟨F.os,F.tape,F.output,F.size,λk hk J=>H k hk λe=>J (e▸e2)⟩,λ_ _=>rfl,λ_ h=>h,λ_ h=>.inl h,λk hk=>⟨AF (Z k hk).1 F.size,(Z k hk).2⟩,λ_ h=>h,λ_ h=>.inl h,λk hk=>AF (M k hk) F.size,λg' _ ⟨e,h,W⟩=>⟨e,hr _ h,W⟩⟩,⟨λ_ _ h=>(nomatch h),λ_ _ h=>(nomatch h),λ_ _ _ _ h=>(nomatch h)⟩,λ_ h=>(nomatch h),λ_ _ h=>(nomatch h)⟩;obtain⟨i',n',hv,_,_,hk⟩:=hk;simp only[dv,fF,fu,dV]at hv;exact hk x (by rw[<-hv.2];exact hx)
theorem Qx{els:List (List Value)}{n:Nat}{el:qL}(h:∀e∈els,∃s:ByteArray,e=[.string s]/\s.size<=10)(F:els[n]?=some el):∃s:ByteArray,el=[.string s]/\s.size<=10:=h el (AE F)
theorem str3{a b c:qB}(J:a.size<=10)(hb:b.size<=10)(H:c.size<=10):∀e∈[[Value.string a],[.string b],[.string c]],∃s:ByteArray,e=[.string s]/\s.size<=10:=λe F=>by
 simp only[dy,dH,eP]at F;rcases F with rfl|rfl|rfl
 ·exact⟨a,rfl,J⟩
 ·exact⟨b,rfl,hb⟩
 ·exact⟨c,rfl,H⟩
theorem EH(r:Nat):Env Tryz.prog (RDr r) TT [(38,1,Nj)]:=AZ (Aw (NG r)) (by kernel_rfl) (pick_ct r)
abbrev ctWish:Ct:=ctV (λ_:Unit=>[.complex .f64 0 0]) (λ_=>[(0,rdB)]) (λ_=>True) λ_ v es=>es=[]/\∃s:Svc,v=Ei s/\s.name.size<=10
theorem Qt(r:Nat):B7 Tryz.prog (RDr r) 37 100 ctWish:=by
 refine JM (Ρ:=[]) (EH r) (Gl r) 100 (by decide) Tryz.func37 (by kernel_rfl) (.nil _) (by kernel_rfl) (λ_=>rfl) (λ_ _ _ _=>rfl) λ_ q _ hq=>?_
 refine cW (show q+6<=QM by omega) ?_;refine⟨0,3,rfl,rfl,⟨by decide,by decide⟩,λx hx=>?_⟩;have W:=hx.2.1 (by decide);refine cW hx.1 (cW W (cW (AG _) (cW (show x.toNat<3 by have:=hx.1;omega) (λel Z=>?_))));obtain⟨nm,rfl,F⟩:=Qx (str3 (by decide) (by decide) (by decide)) Z;refine⟨0,3,rfl,rfl,⟨by decide,by decide⟩,λx1 _=>?_⟩;refine λn1 _=>?_
 refine⟨0,6,rfl,rfl,⟨by decide,by decide⟩,λx2 _=>?_⟩;refine⟨0,3,rfl,rfl,⟨by decide,by decide⟩,λx3 _=>?_⟩;refine⟨0,3,rfl,rfl,⟨by decide,by decide⟩,λx4 _=>?_⟩;refine⟨0,10,rfl,rfl,⟨by decide,by decide⟩,λx5 _=>?_⟩;refine cW (λ_=>?_) (λ_=>?_)
 ·refine λn2 _=>cW (λ_=>?_) (λ_=>?_)
  ·refine cW (show q+7<=QM by omega) ?_
   refine⟨0,3,rfl,rfl,⟨by decide,by decide⟩,λH _=>?_⟩;refine cW (λ_=>?_) (λ_=>?_)
   ·refine cW (show q+8<=QM by omega) ?_
    refine⟨0,9,rfl,rfl,⟨by decide,by decide⟩,λy1 _=>?_⟩;refine λ_ _=>?_
    refine cW (show q+9<=QM by omega) ?_;refine⟨0,3,rfl,rfl,⟨by decide,by decide⟩,λy2 _=>?_⟩;refine cW (show q+10<=QM by omega) ?_;refine⟨0,5,rfl,rfl,⟨by decide,by decide⟩,λM _=>?_⟩;refine λ_ _=>?_
    refine cW (show q+11<=QM by omega) ?_;refine⟨0,60,rfl,rfl,⟨by decide,by decide⟩,λJ _=>?_⟩;refine cW (show q+12<=QM by omega) ?_;refine⟨0,4,rfl,rfl,⟨by decide,by decide⟩,λY _=>?_⟩;refine cW (λ_=>?_) (λ_=>?_)
    ·exact⟨.inl rfl,_,rfl,⟨⟨_,_,[],⟨rfl,⟨_,_,_,_,_,_,_,_,_,_,_,_,_⟩,rfl,F⟩,rfl,trivial,rfl,rfl,trivial⟩,(show q+12<=q+100 by omega),0,rfl⟩,rfl⟩
    ·exact⟨.inl rfl,_,rfl,⟨⟨_,_,[],⟨rfl,⟨_,_,_,_,_,_,_,_,_,_,_,_,_⟩,rfl,F⟩,rfl,trivial,rfl,rfl,trivial⟩,(show q+12<=q+100 by omega),0,rfl⟩,rfl⟩
   ·exact⟨.inl rfl,_,rfl,⟨⟨_,_,[],⟨rfl,⟨_,_,_,_,_,_,_,_,_,_,_,_,_⟩,rfl,F⟩,rfl,trivial,rfl,rfl,trivial⟩,(show q+7<=q+100 by omega),0,rfl⟩,rfl⟩
  ·refine cW (show q+7<=QM by omega) ?_
   refine⟨0,3,rfl,rfl,⟨by decide,by decide⟩,λH _=>?_⟩;refine cW (λ_=>?_) (λ_=>?_)
   ·refine cW (show q+8<=QM by omega) ?_
    refine⟨0,9,rfl,rfl,⟨by decide,by decide⟩,λy1 _=>?_⟩;refine λ_ _=>?_
    refine cW (show q+9<=QM by omega) ?_;refine⟨0,3,rfl,rfl,⟨by decide,by decide⟩,λy2 _=>?_⟩;refine cW (show q+10<=QM by omega) ?_;refine⟨0,5,rfl,rfl,⟨by decide,by decide⟩,λM _=>?_⟩;refine λ_ _=>?_
    refine cW (show q+11<=QM by omega) ?_;refine⟨0,60,rfl,rfl,⟨by decide,by decide⟩,λJ _=>?_⟩;refine cW (show q+12<=QM by omega) ?_;refine⟨0,4,rfl,rfl,⟨by decide,by decide⟩,λY _=>?_⟩;refine cW (λ_=>?_) (λ_=>?_)
    ·exact⟨.inl rfl,_,rfl,⟨⟨_,_,[],⟨rfl,⟨_,_,_,_,_,_,_,_,_,_,_,_,_⟩,rfl,F⟩,rfl,trivial,rfl,rfl,trivial⟩,(show q+12<=q+100 by omega),0,rfl⟩,rfl⟩
    ·exact⟨.inl rfl,_,rfl,⟨⟨_,_,[],⟨rfl,⟨_,_,_,_,_,_,_,_,_,_,_,_,_⟩,rfl,F⟩,rfl,trivial,rfl,rfl,trivial⟩,(show q+12<=q+100 by omega),0,rfl⟩,rfl⟩
   ·exact⟨.inl rfl,_,rfl,⟨⟨_,_,[],⟨rfl,⟨_,_,_,_,_,_,_,_,_,_,_,_,_⟩,rfl,F⟩,rfl,trivial,rfl,rfl,trivial⟩,(show q+7<=q+100 by omega),0,rfl⟩,rfl⟩
 ·refine λn2 _=>cW (λ_=>?_) (λ_=>?_)
  ·refine cW (show q+7<=QM by omega) ?_
   refine⟨0,3,rfl,rfl,⟨by decide,by decide⟩,λH _=>?_⟩;refine cW (λ_=>?_) (λ_=>?_)
   ·refine cW (show q+8<=QM by omega) ?_
    refine⟨0,9,rfl,rfl,⟨by decide,by decide⟩,λy1 _=>?_⟩;refine λ_ _=>?_
    refine cW (show q+9<=QM by omega) ?_;refine⟨0,3,rfl,rfl,⟨by decide,by decide⟩,λy2 _=>?_⟩;refine cW (show q+10<=QM by omega) ?_;refine⟨0,5,rfl,rfl,⟨by decide,by decide⟩,λM _=>?_⟩;refine λ_ _=>?_
    refine cW (show q+11<=QM by omega) ?_;refine⟨0,60,rfl,rfl,⟨by decide,by decide⟩,λJ _=>?_⟩;refine cW (show q+12<=QM by omega) ?_;refine⟨0,4,rfl,rfl,⟨by decide,by decide⟩,λY _=>?_⟩;refine cW (λ_=>?_) (λ_=>?_)
    ·exact⟨.inl rfl,_,rfl,⟨⟨_,_,[],⟨rfl,⟨_,_,_,_,_,_,_,_,_,_,_,_,_⟩,rfl,F⟩,rfl,trivial,rfl,rfl,trivial⟩,(show q+12<=q+100 by omega),0,rfl⟩,rfl⟩
    ·exact⟨.inl rfl,_,rfl,⟨⟨_,_,[],⟨rfl,⟨_,_,_,_,_,_,_,_,_,_,_,_,_⟩,rfl,F⟩,rfl,trivial,rfl,rfl,trivial⟩,(show q+12<=q+100 by omega),0,rfl⟩,rfl⟩
   ·exact⟨.inl rfl,_,rfl,⟨⟨_,_,[],⟨rfl,⟨_,_,_,_,_,_,_,_,_,_,_,_,_⟩,rfl,F⟩,rfl,trivial,rfl,rfl,trivial⟩,(show q+7<=q+100 by omega),0,rfl⟩,rfl⟩
  ·refine cW (show q+7<=QM by omega) ?_
   refine⟨0,3,rfl,rfl,⟨by decide,by decide⟩,λH _=>?_⟩;refine cW (λ_=>?_) (λ_=>?_)
   ·refine cW (show q+8<=QM by omega) ?_
    refine⟨0,9,rfl,rfl,⟨by decide,by decide⟩,λy1 _=>?_⟩;refine λ_ _=>?_
    refine cW (show q+9<=QM by omega) ?_;refine⟨0,3,rfl,rfl,⟨by decide,by decide⟩,λy2 _=>?_⟩;refine cW (show q+10<=QM by omega) ?_;refine⟨0,5,rfl,rfl,⟨by decide,by decide⟩,λM _=>?_⟩;refine λ_ _=>?_
    refine cW (show q+11<=QM by omega) ?_;refine⟨0,60,rfl,rfl,⟨by decide,by decide⟩,λJ _=>?_⟩;refine cW (show q+12<=QM by omega) ?_;refine⟨0,4,rfl,rfl,⟨by decide,by decide⟩,λY _=>?_⟩;refine cW (λ_=>?_) (λ_=>?_)
    ·exact⟨.inl rfl,_,rfl,⟨⟨_,_,[],⟨rfl,⟨_,_,_,_,_,_,_,_,_,_,_,_,_⟩,rfl,F⟩,rfl,trivial,rfl,rfl,trivial⟩,(show q+12<=q+100 by omega),0,rfl⟩,rfl⟩
    ·exact⟨.inl rfl,_,rfl,⟨⟨_,_,[],⟨rfl,⟨_,_,_,_,_,_,_,_,_,_,_,_,_⟩,rfl,F⟩,rfl,trivial,rfl,rfl,trivial⟩,(show q+12<=q+100 by omega),0,rfl⟩,rfl⟩
   ·exact⟨.inl rfl,_,rfl,⟨⟨_,_,[],⟨rfl,⟨_,_,_,_,_,_,_,_,_,_,_,_,_⟩,rfl,F⟩,rfl,trivial,rfl,rfl,trivial⟩,(show q+7<=q+100 by omega),0,rfl⟩,rfl⟩
def BP.v1(p:BP):Value:=.agg #[.int .i64 p.B.aj,.iface 1 (.slice none p.B.af.length p.c1),.iface 2 (.slice none p.B.ah.length p.c2),.iface 3 (.slice none p.B.ak.length p.c3)]
def BP.m1(p:BP):AY:=[(0,rdB),(1,A9 34 13 svL p.B.af),(2,A9 76 7 cpL p.B.ah),(3,A9 90 2 btL p.B.ak)]
theorem BP.cF{p H:BP}(hv:p.v1=H.v1)(F:p.m1=H.m1):p=H:=by
 simp only[BP.m1,dv,dw,fu,dV]at F;refine BP.inj ?_ F.1 F.2.1 F.2.2;have:=em Array.toList (ix hv);simp at this;unfold BP.v;rw[this.1,this.2.1.1,this.2.1.2,this.2.2.1.1,this.2.2.1.2,this.2.2.2.1,this.2.2.2.2]
theorem CO{n x:Int}(h:FR n x)(k:Nat)(J:n=k)(hk:0<k):x.toNat<k:=by
 have F:=h.1;have H:=h.2.1 (by omega);omega
def evV0(k:Int)(s:Svc)(nm:qB)(n:Int)(f:Bool):Value:=.agg #[.int .i64 k,.string s.name,.int .i64 s.ag,.bool s.aH,.int .i64 s.ar,.int .i64 s.av,.int .i64 s.aG,.int .i64 s.aE,.int .i64 s.next,.int .i64 s.aM,.int .i64 s.aC,.int .i64 s.aK,.int .i64 s.load,.int .i64 s.ay,.string nm,.int .i64 n,.bool f]
def okSp(B:Bk):Prop:=(B.af.length<=1000/\B.ah.length<=1000/\B.ak.length<=1000)/\(∀s∈B.af,s.name.size<=maxLen)/\(∀c∈B.ah,c.aa.size<=maxLen/\c.aA.size<=maxLen)/\∀b∈B.ak,b.name.size<=maxLen
def okDr(B:Bk):Prop:=(B.af.length<=999/\B.ah.length<=999/\B.ak.length<=999)/\(∀s∈B.af,s.name.size<=maxLen)/\(∀c∈B.ah,c.aa.size<=maxLen/\c.aA.size<=maxLen)/\∀b∈B.ak,b.name.size<=maxLen
theorem okBk.sp{B:Bk}(h:okBk B):okSp B:=h
def NumOk(B:Bk)(n:Int):Prop:=(-1<=n/\n<=1000001)\/∃c∈B.ah,c.ai=n
theorem NumOk.zero(B:Bk):NumOk B 0:=.inl ⟨by decide,by decide⟩
theorem NumOk.pk{B:Bk}{m x:Int}(h:FR m x)(F:0<m)(H:m<=1000):NumOk B x:=.inl (by have:=h.1;have:=h.2.1 F;omega)
theorem NumOk.pk1{B:Bk}{m x z:Int}(h:FR m x)(F:0<m)(H:m<=1000)(J:z=1+x):NumOk B z:=.inl (by have:=h.1;have:=h.2.1 F;omega)
abbrev ctEvent:Ct:=ctV (λp:BP=>[.complex .f64 0 0,p.v1]) (λp=>p.m1) (λp=>okSp p.B) λp v es=>es=[]/\∃k s nm n f,v=evV0 k s nm n f/\s.name.size<=maxLen/\nm.size<=maxLen/\NumOk p.B n
theorem event_ct(r:Nat):B7 Tryz.prog (RDr r) 90 2000 ctEvent:=by
 refine JM (Ρ:=[]) (AZ (EH r) (f:=37) (by kernel_rfl) (Qt r)) (Gl r) 2000 (by decide) Tryz.func90 (by kernel_rfl) (.nil _) (by kernel_rfl) (λ_=>rfl) (λp p' h hm=>BP.cF (gz (gz h).2).1 hm) ?_;rintro⟨B,c1,c2,c3⟩ q ⟨am,aa,Y,_⟩ hq;have M:(⟨#[119,101,98]⟩:qB).size<=maxLen:=by decide
 have au:B.af.length<=1000:=am.1;have aw:B.ah.length<=1000:=am.2.1;have aa:∀s∈B.af,s.name.size<=maxLen:=aa;have Y:∀c∈B.ah,c.aa.size<=maxLen:=λc hc=>(Y c hc).1
 refine cW (show q+1<=QM by omega) ?_;refine⟨0,3,rfl,rfl,⟨by decide,by decide⟩,λx hx=>?_⟩;have H:=hx.2.1 (by decide);refine cW hx.1 (cW H (cW (AG _) (cW (CO hx 3 rfl (by decide)) (λel J=>?_))));have h3:∃s:ByteArray,el=[.string s]/\s.size<=10:=Qx (str3 (a:=⟨#[97]⟩) (b:=⟨#[98]⟩) (c:=⟨#[99]⟩) (by decide) (by decide) (by decide)) J;clear J hx H;obtain⟨bt,rfl,W⟩:=h3;refine cW (show q+2<=QM by omega) ?_;refine⟨0,20,rfl,rfl,⟨by decide,by decide⟩,λu _=>?_⟩;refine cW (λ_=>?_) (λh=>?_)
 ·exact⟨.inl rfl,_,rfl,⟨⟨_,_,[],⟨rfl,_,⟨_,_,_,_,_,_,_,_,_,_,_,_,_⟩,_,_,_,rfl,(AI _),(AI _),.zero _⟩,rfl,trivial,rfl,rfl,trivial⟩,(show q+2<=q+2000 by omega),0,rfl⟩,rfl⟩
 clear h;refine cW (λ_=>?_) (λh=>?_)
 ·exact⟨.inl rfl,_,rfl,⟨⟨_,_,[],⟨rfl,_,⟨_,_,_,_,_,_,_,_,_,_,_,_,_⟩,_,_,_,rfl,(AI _),(AI _),.zero _⟩,rfl,trivial,rfl,rfl,trivial⟩,(show q+2<=q+2000 by omega),0,rfl⟩,rfl⟩
 clear h;refine cW (λ_=>?_) (λh=>?_)
 ·exact⟨.inl rfl,_,rfl,⟨⟨_,_,[],⟨rfl,_,⟨_,_,_,_,_,_,_,_,_,_,_,_,_⟩,_,_,_,rfl,(AI _),(AI _),.zero _⟩,rfl,trivial,rfl,rfl,trivial⟩,(show q+2<=q+2000 by omega),0,rfl⟩,rfl⟩
 clear h;refine cW (λ_=>?_) (λh=>?_)
 ·exact⟨.inl rfl,_,rfl,⟨⟨_,_,[],⟨rfl,_,⟨_,_,_,_,_,_,_,_,_,_,_,_,_⟩,_,_,_,rfl,(AI _),(AI _),.zero _⟩,rfl,trivial,rfl,rfl,trivial⟩,(show q+2<=q+2000 by omega),0,rfl⟩,rfl⟩
 clear h;refine cW (λ_=>?_) (λh=>?_)
 ·exact⟨.inl rfl,_,rfl,⟨⟨_,_,[],⟨rfl,_,⟨_,_,_,_,_,_,_,_,_,_,_,_,_⟩,_,_,_,rfl,(AI _),(AI _),.zero _⟩,rfl,trivial,rfl,rfl,trivial⟩,(show q+2<=q+2000 by omega),0,rfl⟩,rfl⟩
 clear h;refine cW (λ_=>?_) (λh=>?_)
 ·exact⟨.inl rfl,_,rfl,⟨⟨_,_,[],⟨rfl,_,⟨_,_,_,_,_,_,_,_,_,_,_,_,_⟩,_,_,_,rfl,(AI _),(AI _),.zero _⟩,rfl,trivial,rfl,rfl,trivial⟩,(show q+2<=q+2000 by omega),0,rfl⟩,rfl⟩
 clear h;refine cW (λ_=>?_) (λh=>?_)
 ·exact⟨.inl rfl,_,rfl,⟨⟨_,_,[],⟨rfl,_,⟨_,_,_,_,_,_,_,_,_,_,_,_,_⟩,_,_,_,rfl,(AI _),(AI _),.zero _⟩,rfl,trivial,rfl,rfl,trivial⟩,(show q+2<=q+2000 by omega),0,rfl⟩,rfl⟩
 clear h;refine cW (λ_=>?_) (λh=>?_)
 ·refine cW (show q+102<=QM by omega) ?_
  refine⟨(),rfl,trivial,?_⟩;rintro _ _ ⟨rfl,s,rfl,hs⟩;exact⟨.inl rfl,_,rfl,⟨⟨_,_,[],⟨rfl,_,⟨_,_,_,_,_,_,_,_,_,_,_,_,_⟩,_,_,_,rfl,(AH hs (by decide)),(AI _),.zero _⟩,rfl,trivial,rfl,rfl,trivial⟩,(show q+102<=q+2000 by omega),0,rfl⟩,rfl⟩
 clear h;refine cW (λ_=>?_) (λh=>?_)
 ·refine cW (show q+102<=QM by omega) ?_
  refine⟨(),rfl,trivial,?_⟩;rintro _ _ ⟨rfl,s,rfl,hs⟩;exact⟨.inl rfl,_,rfl,⟨⟨_,_,[],⟨rfl,_,⟨_,_,_,_,_,_,_,_,_,_,_,_,_⟩,_,_,_,rfl,(AH hs (by decide)),(AI _),.zero _⟩,rfl,trivial,rfl,rfl,trivial⟩,(show q+102<=q+2000 by omega),0,rfl⟩,rfl⟩
 clear h;refine cW (λ_=>?_) (λh=>?_)
 ·refine cW (show q+102<=QM by omega) ?_
  refine⟨(),rfl,trivial,?_⟩;rintro _ _ ⟨rfl,s,rfl,hs⟩;exact⟨.inl rfl,_,rfl,⟨⟨_,_,[],⟨rfl,_,⟨_,_,_,_,_,_,_,_,_,_,_,_,_⟩,_,_,_,rfl,(AH hs (by decide)),(AI _),.zero _⟩,rfl,trivial,rfl,rfl,trivial⟩,(show q+102<=q+2000 by omega),0,rfl⟩,rfl⟩
 clear h;refine cW (λ_=>?_) (λh=>?_)
 ·refine⟨λn z=>∃(x:Int) (q':Nat),0<=x/\x<=B.af.length/\n=B.af.length - x.toNat/\q'<=q+2+x.toNat/\z=⟨[(6,.int .i64 x),(0,.complex .f64 0 0),(3,.complex .f64 64 0),(4,.complex .f64 72 0)],(72,AT [.int .i64 0,.string ⟨#[]⟩,.int .i64 0,.bool false,.int .i64 0,.int .i64 0,.int .i64 0,.int .i64 0,.int .i64 0,.int .i64 0,.int .i64 0,.int .i64 0,.int .i64 0,.int .i64 0,.string ⟨#[]⟩,.int .i64 0,.bool false] 36)::(64,AT [.int .i64 B.aj,.iface 1 (.slice none B.af.length c1),.iface 2 (.slice none B.ah.length c2),.iface 3 (.slice none B.ak.length c3)] 28)::BP.m1 ⟨B,c1,c2,c3⟩,300,q'⟩,B.af.length,⟨_,(by refine⟨[],?_,?_,rfl,rfl,AG _⟩<;>repeat' (first|exact rfl|exact trivial|exact⟨_,rfl,.same _ _ rfl⟩|apply cW)),0,_,by omega,by omega,by omega,AG _,rfl⟩,?_⟩
  rintro n _ ⟨x,q',h0,h1,rfl,az,rfl⟩;refine cW (λZ=>?_) (λZ=>?_)
  ·have Z:x<B.af.length:=Z
   refine cW (show q'+1<=QM by omega) ?_;refine⟨0,2,rfl,rfl,⟨by decide,by decide⟩,λy0 _=>?_⟩;refine cW (λ_=>?_) (λ_=>?_)
   ·refine cW h0 (cW Z (cW (AG _) (λs hs=>?_)))
    refine λu _=>?_
    exact⟨.inl rfl,_,rfl,⟨⟨_,_,[],⟨rfl,_,{s with ar:=u},_,_,_,rfl,(aa s (AE hs)),(AI _),.zero _⟩,rfl,trivial,rfl,rfl,trivial⟩,(show q'+1<=q+2000 by omega),0,rfl⟩,rfl⟩
   ·refine λy hy=>?_
    have hy:=hy ⟨by omega,by omega⟩;exact⟨B.af.length - y.toNat,by omega,_,(by refine⟨[],?_,?_,rfl,rfl,AG _⟩<;>repeat' (first|exact rfl|exact trivial|exact⟨_,rfl,.same _ _ rfl⟩|apply cW)),y,q'+1,by omega,by omega,rfl,by omega,rfl⟩
  ·refine cW (show q'+1<=QM by omega) ?_
   refine cW (λhl=>?_) (λhl=>?_)
   ·refine⟨0,8,rfl,rfl,⟨by decide,by decide⟩,λy1 _=>?_⟩
    refine cW (λ_=>?_) (λ_=>?_)
    ·refine cW (show q'+1+1<=QM by omega) ?_
     have hl:(0:Int)<B.ah.length:=hl;refine⟨0,(B.ah.length:Int),rfl,rfl,⟨by omega,by omega⟩,λx hx=>?_⟩;have H:=hx.2.1 (by omega);refine cW hx.1 (cW H (cW (AG _) (λc hc=>?_)));exact⟨.inl rfl,_,rfl,⟨⟨_,_,[],⟨rfl,_,⟨_,_,_,_,_,_,_,_,_,_,_,_,_⟩,_,_,_,rfl,(AI _),(Y c (AE hc)),.inr ⟨c,AE hc,rfl⟩⟩,rfl,trivial,rfl,rfl,trivial⟩,(show q'+1+1<=q+2000 by omega),0,rfl⟩,rfl⟩
    ·refine cW (show q'+1+1<=QM by omega) ?_
     refine⟨0,6,rfl,rfl,⟨by decide,by decide⟩,λy2 F=>?_⟩;refine λz hz=>?_
     exact⟨.inl rfl,_,rfl,⟨⟨_,_,[],⟨rfl,_,⟨_,_,_,_,_,_,_,_,_,_,_,_,_⟩,⟨#[119,101,98]⟩,_,_,rfl,(AI _),M,.pk1 F (by decide) (by decide) (hz (by have:=F.1;have:=F.2.1 (by decide);exact⟨by omega,by omega⟩))⟩,rfl,trivial,rfl,rfl,trivial⟩,(show q'+1+1<=q+2000 by omega),0,rfl⟩,rfl⟩
   ·refine cW (show q'+1+1<=QM by omega) ?_
    refine⟨0,6,rfl,rfl,⟨by decide,by decide⟩,λy2 F=>?_⟩;refine λz hz=>?_
    exact⟨.inl rfl,_,rfl,⟨⟨_,_,[],⟨rfl,_,⟨_,_,_,_,_,_,_,_,_,_,_,_,_⟩,⟨#[119,101,98]⟩,_,_,rfl,(AI _),M,.pk1 F (by decide) (by decide) (hz (by have:=F.1;have:=F.2.1 (by decide);exact⟨by omega,by omega⟩))⟩,rfl,trivial,rfl,rfl,trivial⟩,(show q'+1+1<=q+2000 by omega),0,rfl⟩,rfl⟩
 clear h;refine cW (λ_=>?_) (λh=>?_)
 ·exact⟨.inl rfl,_,rfl,⟨⟨_,_,[],⟨rfl,_,⟨_,_,_,_,_,_,_,_,_,_,_,_,_⟩,_,_,_,rfl,(AI _),(AH W (by decide)),.zero _⟩,rfl,trivial,rfl,rfl,trivial⟩,(show q+2<=q+2000 by omega),0,rfl⟩,rfl⟩
 clear h;refine cW (λ_=>?_) (λh=>?_)
 ·refine cW (show q+3<=QM by omega) ?_
  refine⟨0,3,rfl,rfl,⟨by decide,by decide⟩,λy _=>?_⟩;refine cW (λ_=>?_) (λ_=>?_)
  ·exact⟨.inl rfl,_,rfl,⟨⟨_,_,[],⟨rfl,_,⟨_,_,_,_,_,_,_,_,_,_,_,_,_⟩,_,_,_,rfl,(AI _),(AH W (by decide)),.zero _⟩,rfl,trivial,rfl,rfl,trivial⟩,(show q+3<=q+2000 by omega),0,rfl⟩,rfl⟩
  ·exact⟨.inl rfl,_,rfl,⟨⟨_,_,[],⟨rfl,_,⟨_,_,_,_,_,_,_,_,_,_,_,_,_⟩,_,_,_,rfl,(AI _),(AH W (by decide)),.zero _⟩,rfl,trivial,rfl,rfl,trivial⟩,(show q+3<=q+2000 by omega),0,rfl⟩,rfl⟩
 clear h;refine cW (λ_=>?_) (λh=>?_)
 ·refine cW (show q+3<=QM by omega) ?_
  refine⟨0,3,rfl,rfl,⟨by decide,by decide⟩,λy _=>?_⟩;refine cW (λ_=>?_) (λ_=>?_)
  ·exact⟨.inl rfl,_,rfl,⟨⟨_,_,[],⟨rfl,_,⟨_,_,_,_,_,_,_,_,_,_,_,_,_⟩,_,_,_,rfl,(AI _),(AH W (by decide)),.zero _⟩,rfl,trivial,rfl,rfl,trivial⟩,(show q+3<=q+2000 by omega),0,rfl⟩,rfl⟩
  ·exact⟨.inl rfl,_,rfl,⟨⟨_,_,[],⟨rfl,_,⟨_,_,_,_,_,_,_,_,_,_,_,_,_⟩,_,_,_,rfl,(AI _),(AH W (by decide)),.zero _⟩,rfl,trivial,rfl,rfl,trivial⟩,(show q+3<=q+2000 by omega),0,rfl⟩,rfl⟩
 clear h;refine cW (λ_=>?_) (λh=>?_)
 ·refine cW (show q+4<=QM by omega) ?_
  refine⟨0,3,rfl,rfl,⟨by decide,by decide⟩,λx hx=>?_⟩;have H:=hx.2.1 (by decide);refine cW hx.1 (cW H (cW (AG _) (cW (CO hx 3 rfl (by decide)) (λel J=>?_))));have h3:∃s:ByteArray,el=[.string s]/\s.size<=10:=Qx (str3 (a:=⟨#[100,98]⟩) (b:=⟨#[119,101,98]⟩) (c:=⟨#[120,45,49]⟩) (by decide) (by decide) (by decide)) J;clear J;obtain⟨nm,rfl,ai⟩:=h3;refine⟨0,60,rfl,rfl,⟨by decide,by decide⟩,λy hy=>?_⟩;exact⟨.inl rfl,_,rfl,⟨⟨_,_,[],⟨rfl,_,⟨_,_,_,_,_,_,_,_,_,_,_,_,_⟩,_,_,_,rfl,(AI _),(AH ai (by decide)),.pk hy (by decide) (by decide)⟩,rfl,trivial,rfl,rfl,trivial⟩,(show q+4<=q+2000 by omega),0,rfl⟩,rfl⟩
 refine cW (λ_=>?_) (λ_=>?_)
 ·refine cW (show q+4<=QM by omega) ?_
  refine⟨0,3,rfl,rfl,⟨by decide,by decide⟩,λx hx=>?_⟩;have H:=hx.2.1 (by decide);refine cW hx.1 (cW H (cW (AG _) (cW (CO hx 3 rfl (by decide)) (λel J=>?_))));have h3:∃s:ByteArray,el=[.string s]/\s.size<=10:=Qx (str3 (a:=⟨#[100,98]⟩) (b:=⟨#[119,101,98]⟩) (c:=⟨#[120,45,49]⟩) (by decide) (by decide) (by decide)) J;clear J;obtain⟨nm,rfl,ai⟩:=h3;refine⟨0,60,rfl,rfl,⟨by decide,by decide⟩,λy hy=>?_⟩;exact⟨.inl rfl,_,rfl,⟨⟨_,_,[],⟨rfl,_,⟨_,_,_,_,_,_,_,_,_,_,_,_,_⟩,_,_,_,rfl,(AI _),(AH ai (by decide)),.pk hy (by decide) (by decide)⟩,rfl,trivial,rfl,rfl,trivial⟩,(show q+4<=q+2000 by omega),0,rfl⟩,rfl⟩
 clear h;refine cW (show q+2+1<=QM by omega) ?_;refine cW (λhl=>?_) (λhl=>?_)
 ·refine⟨0,8,rfl,rfl,⟨by decide,by decide⟩,λy1 _=>?_⟩
  refine cW (λ_=>?_) (λ_=>?_)
  ·refine cW (show q+2+1+1<=QM by omega) ?_
   have hl:(0:Int)<B.ah.length:=hl;refine⟨0,(B.ah.length:Int),rfl,rfl,⟨by omega,by omega⟩,λx hx=>?_⟩;have H:=hx.2.1 (by omega);refine cW hx.1 (cW H (cW (AG _) (λc hc=>?_)));exact⟨.inl rfl,_,rfl,⟨⟨_,_,[],⟨rfl,_,⟨_,_,_,_,_,_,_,_,_,_,_,_,_⟩,_,_,_,rfl,(AI _),(Y c (AE hc)),.inr ⟨c,AE hc,rfl⟩⟩,rfl,trivial,rfl,rfl,trivial⟩,(show q+2+1+1<=q+2000 by omega),0,rfl⟩,rfl⟩
  ·refine cW (show q+2+1+1<=QM by omega) ?_
   refine⟨0,6,rfl,rfl,⟨by decide,by decide⟩,λy2 F=>?_⟩;refine λz hz=>?_
   exact⟨.inl rfl,_,rfl,⟨⟨_,_,[],⟨rfl,_,⟨_,_,_,_,_,_,_,_,_,_,_,_,_⟩,⟨#[119,101,98]⟩,_,_,rfl,(AI _),M,.pk1 F (by decide) (by decide) (hz (by have:=F.1;have:=F.2.1 (by decide);exact⟨by omega,by omega⟩))⟩,rfl,trivial,rfl,rfl,trivial⟩,(show q+2+1+1<=q+2000 by omega),0,rfl⟩,rfl⟩
 ·refine cW (show q+2+1+1<=QM by omega) ?_
  refine⟨0,6,rfl,rfl,⟨by decide,by decide⟩,λy2 F=>?_⟩;refine λz hz=>?_
  exact⟨.inl rfl,_,rfl,⟨⟨_,_,[],⟨rfl,_,⟨_,_,_,_,_,_,_,_,_,_,_,_,_⟩,⟨#[119,101,98]⟩,_,_,rfl,(AI _),M,.pk1 F (by decide) (by decide) (hz (by have:=F.1;have:=F.2.1 (by decide);exact⟨by omega,by omega⟩))⟩,rfl,trivial,rfl,rfl,trivial⟩,(show q+2+1+1<=q+2000 by omega),0,rfl⟩,rfl⟩
theorem FH{L:List Int}{n:Nat}{el:qL}(h:(L.map λx=>[Value.int .i64 x])[n]?=some el):∃x:Int,el=[.int .i64 x]:=by
 rw[eh]at h
 cases hx:L[n]? with
 |none=>rw[hx]at h;cases h
 |some x=>rw[hx]at h;cases h;exact⟨x,rfl⟩
theorem MN{L:List ByteArray}{n:Nat}{el:qL}(h:(L.map λx=>[Value.string x])[n]?=some el):∃x∈L,el=[.string x]:=by
 rw[eh]at h
 cases hx:L[n]? with
 |none=>rw[hx]at h;cases h
 |some x=>rw[hx]at h;cases h;exact⟨x,AE hx,rfl⟩
theorem Iw{L:List ByteArray}{s:qB}(h:s∈L)(hL:L.all (λx=>Nat.ble x.size maxLen)=true):s.size<=maxLen:=AD (dh.1 hL s h)
theorem okSp.aj{B:Bk}(h:okSp B)(n:Int):okSp ⟨n,B.af,B.ah,B.ak⟩:=h
theorem okSp.bA{B:Bk}(h:okSp B)(n:Nat)(s:Svc)(F:s.name.size<=maxLen):okSp ⟨B.aj,B.af.set n s,B.ah,B.ak⟩:=⟨⟨by show(B.af.set n s).length<=1000;rw[du];exact h.1.1,h.1.2⟩,λd H=>(eu H).elim (h.2.1 d) (λe=>by rw[e];exact F),h.2.2⟩
theorem okSp.cp{B:Bk}(h:okSp B)(n:Nat)(s:Cp)(F:s.aa.size<=maxLen/\s.aA.size<=maxLen):okSp ⟨B.aj,B.af,B.ah.set n s,B.ak⟩:=⟨⟨h.1.1,by show(B.ah.set n s).length<=1000;rw[du];exact h.1.2.1,h.1.2.2⟩,h.2.1,λd H=>(eu H).elim (h.2.2.1 d) (λe=>by rw[e];exact F),h.2.2.2⟩
def Qz(v:Value)(es:AY):Prop:=(v=.agg #[.int .i64 (-1),.slice none 0 0,.slice none 0 0,.slice none 0 0]/\es=[])\/∃(B:Bk) (n1 n2 n3 k1 k2 k3:Nat),okSp B/\(n1=B.af.length/\n2=B.ah.length/\n3=B.ak.length)/\v=.agg #[.int .i64 B.aj,.iface 0 (.slice none n1 k1),.iface 1 (.slice none n2 k2),.iface 2 (.slice none n3 k3)]/\es=[(0,An 34 13 k1 svL B.af),(1,An 76 7 k2 cpL B.ah),(2,An 90 2 k3 btL B.ak)]
theorem BF{i1 i2 i3 n1 n2 n3 k1 k2 k3 q:Nat}{m:AY}{b1 H F:VB}(B:Bk)(J:okSp B)(Z:lk m i1=some b1)(h1:LeB [(0,i1),(1,i2),(2,i3)] b1 (An 34 13 k1 svL B.af))(W:lk m i2=some H)(h2:LeB [(0,i1),(1,i2),(2,i3)] H (An 76 7 k2 cpL B.ah))(l3:lk m i3=some F)(h3:LeB [(0,i1),(1,i2),(2,i3)] F (An 90 2 k3 btL B.ak))(Y:n1=B.af.length)(e2:n2=B.ah.length)(e3:n3=B.ak.length)(M:SD [(0,i1),(1,i2),(2,i3)] [0,1,2]=true):
  Ep Qz (.agg #[.int .i64 B.aj,.iface i1 (.slice none n1 k1),.iface i2 (.slice none n2 k2),.iface i3 (.slice none n3 k3)]) m q:=
 ⟨.agg #[.int .i64 B.aj,.iface 0 (.slice none n1 k1),.iface 1 (.slice none n2 k2),.iface 2 (.slice none n3 k3)],[(0,An 34 13 k1 svL B.af),(1,An 76 7 k2 cpL B.ah),(2,An 90 2 k3 btL B.ak)],[(0,i1),(1,i2),(2,i3)],.inr ⟨B,n1,n2,n3,k1,k2,k3,J,⟨Y,e2,e3⟩,rfl,rfl⟩,rfl,⟨⟨b1,Z,h1⟩,⟨H,W,h2⟩,⟨F,l3,h3⟩,trivial⟩,(by rw[cY];exact⟨M,rfl⟩),rfl,⟨λ_ _=>trivial,λ_ _=>trivial,λ_ _=>trivial,trivial⟩⟩
abbrev ctSpoil:Ct:=ctV (λp:BP=>[.complex .f64 0 0,p.v1]) (λp=>p.m1) (λp=>okDr p.B) λ_=>Qz
theorem spoil_ct(r:Nat):B7 Tryz.prog (RDr r) 120 10 ctSpoil:=by
 refine JM (Ρ:=[]) (AZ (EH r) (f:=62) (by kernel_rfl) (Rg (NG r))) (Gl r) 10 (by decide) Tryz.func120 (by kernel_rfl) (.nil _) (by kernel_rfl) (λ_=>rfl) (λp p' h hm=>BP.cF (gz (gz h).2).1 hm) ?_;rintro⟨B,c1,c2,c3⟩ q ⟨aF,Y,al,aq⟩ hq;have a4:B.af.length<=999:=aF.1;have a7:B.ah.length<=999:=aF.2.1;have a6:B.ak.length<=999:=aF.2.2;have Y:∀s∈B.af,s.name.size<=maxLen:=Y;have al:∀c∈B.ah,c.aa.size<=maxLen/\c.aA.size<=maxLen:=al;have aq:∀b∈B.ak,b.name.size<=maxLen:=aq;have J:okSp B:=⟨⟨by omega,by omega,by omega⟩,Y,al,aq⟩;refine⟨⟨B,c1,c2,c3⟩,rfl,J.1,?_⟩;rintro _ _ ⟨k1,k2,k3,rfl,rfl⟩;refine cW (show q+1<=QM by omega) ⟨0,(B.af.length:Int),rfl,rfl,⟨by omega,by omega⟩,λx1 aK=>?_⟩;refine cW (show q+2<=QM by omega) ⟨0,(B.ah.length:Int),rfl,rfl,⟨by omega,by omega⟩,λx2 aI=>?_⟩;refine cW (λ_=>?_) (λaH=>?_)
 ·exact⟨.inl rfl,_,rfl,⟨⟨_,_,[],.inl ⟨rfl,rfl⟩,rfl,trivial,rfl,rfl,trivial⟩,(show q+2<=q+10 by omega),0,rfl⟩,rfl⟩
 refine cW (λ_=>?_) (λaL=>?_)
 ·exact⟨.inl rfl,_,rfl,⟨⟨_,_,[],.inl ⟨rfl,rfl⟩,rfl,trivial,rfl,rfl,trivial⟩,(show q+2<=q+10 by omega),0,rfl⟩,rfl⟩
 have aH:¬(B.af.length:Int)=0:=aH;have aL:¬(B.ah.length:Int)=0:=aL;have s0:=aK.1;have s1:x1<B.af.length:=aK.2.1 (by omega);have t0:=aI.1;have t1:x2<B.ah.length:=aI.2.1 (by omega);obtain⟨sv,M⟩:∃sv,B.af[x1.toNat]?=some sv:=⟨B.af[x1.toNat]'(by omega),by simp⟩;obtain⟨cp,af⟩:∃cp,B.ah[x2.toNat]?=some cp:=⟨B.ah[x2.toNat]'(by omega),by simp⟩;clear aH aL aK aI;refine cW (show q+3<=QM by omega) ⟨0,20,rfl,rfl,⟨by decide,by decide⟩,λu _=>?_⟩;refine cW (λ_=>?_) (λh=>?_)
 ·refine cW (show q+4<=QM by omega) ?_
  refine⟨0,5,rfl,rfl,⟨by decide,by decide⟩,λy H=>?_⟩;refine cW H.1 (cW (H.2.1 (by decide)) (cW (AG _) (cW (CO H 5 rfl (by decide)) (λel F=>?_))));have W:∃n:Int,el=[.int .i64 n]:=FH (L:=[-1,0,1,1000000,1000001]) F;clear F;obtain⟨nv,rfl⟩:=W;exact⟨.inl rfl,_,rfl,⟨BF (i1:=88) (i2:=89) (i3:=90) ⟨nv,B.af,B.ah,B.ak⟩ (J.aj _) rfl (.same _ _ rfl) rfl (.same _ _ rfl) rfl (.same _ _ rfl) rfl rfl rfl rfl,(show q+4<=q+10 by omega),0,rfl⟩,rfl⟩
 clear h;refine cW (λ_=>?_) (λh=>?_)
 ·refine cW (show q+4<=QM by omega) ?_
  refine⟨0,3,rfl,rfl,⟨by decide,by decide⟩,λy H=>?_⟩;refine cW H.1 (cW (H.2.1 (by decide)) (cW (AG _) (cW (CO H 3 rfl (by decide)) (λel F=>?_))));have W:∃s∈[(⟨#[]⟩:qB),(⟨#[88]⟩:qB),(⟨#[122,122]⟩:qB)],el=[.string s]:=MN (L:=[⟨#[]⟩,⟨#[88]⟩,⟨#[122,122]⟩]) F;clear F;obtain⟨nm,Z,rfl⟩:=W;have Z:nm.size<=maxLen:=Iw Z (by decide);refine cW s0 (cW s1 (cW (AG _) (cW (show x1.toNat<B.af.length by omega) (cW (λ_ _ _=>trivial) ?_))));exact⟨.inl rfl,_,rfl,⟨BF (i1:=88) (i2:=89) (i3:=90) ⟨B.aj,B.af.set x1.toNat {sv with name:=nm},B.ah,B.ak⟩ (J.bA _ _ (Z)) rfl (BK (.same _ _ rfl) M rfl) rfl (.same _ _ rfl) rfl (.same _ _ rfl) du.symm rfl rfl rfl,(show q+4<=q+10 by omega),0,rfl⟩,rfl⟩
 clear h;refine cW (λ_=>?_) (λh=>?_)
 ·refine cW (show q+4<=QM by omega) ?_
  refine λn1 _=>?_
  refine⟨0,3,rfl,rfl,⟨by decide,by decide⟩,λy H=>?_⟩;refine cW H.1 (cW (H.2.1 (by decide)) (cW (AG _) (cW (CO H 3 rfl (by decide)) (λel F=>?_))));have W:∃n:Int,el=[.int .i64 n]:=FH (L:=[0,B.aj,n1]) F;clear F;obtain⟨nv,rfl⟩:=W;refine cW s0 (cW s1 (cW (AG _) (cW (show x1.toNat<B.af.length by omega) (cW (λ_ _ _=>trivial) ?_))));exact⟨.inl rfl,_,rfl,⟨BF (i1:=88) (i2:=89) (i3:=90) ⟨B.aj,B.af.set x1.toNat {sv with ag:=nv},B.ah,B.ak⟩ (J.bA _ _ (Y sv (AE M))) rfl (BK (.same _ _ rfl) M rfl) rfl (.same _ _ rfl) rfl (.same _ _ rfl) du.symm rfl rfl rfl,(show q+4<=q+10 by omega),0,rfl⟩,rfl⟩
 clear h;refine cW (λ_=>?_) (λh=>?_)
 ·refine cW (show q+4<=QM by omega) ?_
  refine⟨0,3,rfl,rfl,⟨by decide,by decide⟩,λy H=>?_⟩;refine cW H.1 (cW (H.2.1 (by decide)) (cW (AG _) (cW (CO H 3 rfl (by decide)) (λel F=>?_))));have W:∃n:Int,el=[.int .i64 n]:=FH (L:=[0,1000000,1000001]) F;clear F;obtain⟨nv,rfl⟩:=W;refine cW s0 (cW s1 (cW (AG _) (cW (show x1.toNat<B.af.length by omega) (cW (λ_ _ _=>trivial) ?_))));exact⟨.inl rfl,_,rfl,⟨BF (i1:=88) (i2:=89) (i3:=90) ⟨B.aj,B.af.set x1.toNat {sv with ar:=nv},B.ah,B.ak⟩ (J.bA _ _ (Y sv (AE M))) rfl (BK (.same _ _ rfl) M rfl) rfl (.same _ _ rfl) rfl (.same _ _ rfl) du.symm rfl rfl rfl,(show q+4<=q+10 by omega),0,rfl⟩,rfl⟩
 clear h;refine cW (λ_=>?_) (λh=>?_)
 ·refine cW (show q+4<=QM by omega) ?_
  refine⟨0,3,rfl,rfl,⟨by decide,by decide⟩,λy H=>?_⟩;refine cW H.1 (cW (H.2.1 (by decide)) (cW (AG _) (cW (CO H 3 rfl (by decide)) (λel F=>?_))));have W:∃n:Int,el=[.int .i64 n]:=FH (L:=[-1,10,11]) F;clear F;obtain⟨nv,rfl⟩:=W;refine cW s0 (cW s1 (cW (AG _) (cW (show x1.toNat<B.af.length by omega) (cW (λ_ _ _=>trivial) ?_))));exact⟨.inl rfl,_,rfl,⟨BF (i1:=88) (i2:=89) (i3:=90) ⟨B.aj,B.af.set x1.toNat {sv with av:=nv},B.ah,B.ak⟩ (J.bA _ _ (Y sv (AE M))) rfl (BK (.same _ _ rfl) M rfl) rfl (.same _ _ rfl) rfl (.same _ _ rfl) du.symm rfl rfl rfl,(show q+4<=q+10 by omega),0,rfl⟩,rfl⟩
 clear h;refine cW (λ_=>?_) (λh=>?_)
 ·refine cW (show q+4<=QM by omega) ?_
  refine⟨0,3,rfl,rfl,⟨by decide,by decide⟩,λy H=>?_⟩;refine cW H.1 (cW (H.2.1 (by decide)) (cW (AG _) (cW (CO H 3 rfl (by decide)) (λel F=>?_))));have W:∃n:Int,el=[.int .i64 n]:=FH (L:=[-1,10,11]) F;clear F;obtain⟨nv,rfl⟩:=W;refine cW s0 (cW s1 (cW (AG _) (cW (show x1.toNat<B.af.length by omega) (cW (λ_ _ _=>trivial) ?_))));exact⟨.inl rfl,_,rfl,⟨BF (i1:=88) (i2:=89) (i3:=90) ⟨B.aj,B.af.set x1.toNat {sv with aG:=nv},B.ah,B.ak⟩ (J.bA _ _ (Y sv (AE M))) rfl (BK (.same _ _ rfl) M rfl) rfl (.same _ _ rfl) rfl (.same _ _ rfl) du.symm rfl rfl rfl,(show q+4<=q+10 by omega),0,rfl⟩,rfl⟩
 clear h;refine cW (λ_=>?_) (λh=>?_)
 ·refine cW s0 (cW s1 (cW (AG _) (cW (show x1.toNat<B.af.length by omega) (cW (λ_ _ _=>trivial) ?_))))
  refine cW (show q+4<=QM by omega) ?_;refine⟨0,3,rfl,rfl,⟨by decide,by decide⟩,λy H=>?_⟩;refine cW H.1 (cW (H.2.1 (by decide)) (cW (AG _) (cW (CO H 3 rfl (by decide)) (λel F=>?_))));have W:∃n:Int,el=[.int .i64 n]:=FH (L:=[0,1,11]) F;clear F;obtain⟨nv,rfl⟩:=W;refine cW s0 (cW s1 (cW (AG _) (cW (show x1.toNat<B.af.length by omega) (cW (λ_ _ _=>trivial) ?_))));exact⟨.inl rfl,_,rfl,⟨BF (i1:=88) (i2:=89) (i3:=90) ⟨B.aj,(B.af.set x1.toNat {sv with aG:=0}).set x1.toNat {sv with aG:=0,aE:=nv},B.ah,B.ak⟩ (okSp.bA (B:=⟨B.aj,B.af.set x1.toNat {sv with aG:=0},B.ah,B.ak⟩) (J.bA _ {sv with aG:=0} (Y sv (AE M))) _ {sv with aG:=0,aE:=nv} (Y sv (AE M))) rfl (BK (BK (.same _ _ rfl) M rfl) (x:={sv with aG:=0}) (by rw[fc,dB rfl,dB (by omega)]) rfl) rfl (.same _ _ rfl) rfl (.same _ _ rfl) (by rw[du,du]) rfl rfl rfl,(show q+4<=q+10 by omega),0,rfl⟩,rfl⟩
 clear h;refine cW (λ_=>?_) (λh=>?_)
 ·refine cW (show q+4<=QM by omega) ?_
  refine⟨0,4,rfl,rfl,⟨by decide,by decide⟩,λy H=>?_⟩;refine cW H.1 (cW (H.2.1 (by decide)) (cW (AG _) (cW (CO H 4 rfl (by decide)) (λel F=>?_))));have W:∃n:Int,el=[.int .i64 n]:=FH (L:=[0,1,1000000,1000001]) F;clear F;obtain⟨nv,rfl⟩:=W;refine cW s0 (cW s1 (cW (AG _) (cW (show x1.toNat<B.af.length by omega) (cW (λ_ _ _=>trivial) ?_))));exact⟨.inl rfl,_,rfl,⟨BF (i1:=88) (i2:=89) (i3:=90) ⟨B.aj,B.af.set x1.toNat {sv with next:=nv},B.ah,B.ak⟩ (J.bA _ _ (Y sv (AE M))) rfl (BK (.same _ _ rfl) M rfl) rfl (.same _ _ rfl) rfl (.same _ _ rfl) du.symm rfl rfl rfl,(show q+4<=q+10 by omega),0,rfl⟩,rfl⟩
 clear h;refine cW (λ_=>?_) (λh=>?_)
 ·refine cW (show q+4<=QM by omega) ?_
  refine⟨0,4,rfl,rfl,⟨by decide,by decide⟩,λy H=>?_⟩;refine cW H.1 (cW (H.2.1 (by decide)) (cW (AG _) (cW (CO H 4 rfl (by decide)) (λel F=>?_))));have W:∃n:Int,el=[.int .i64 n]:=FH (L:=[-1,0,5,1000001]) F;clear F;obtain⟨nv,rfl⟩:=W;refine cW s0 (cW s1 (cW (AG _) (cW (show x1.toNat<B.af.length by omega) (cW (λ_ _ _=>trivial) ?_))));exact⟨.inl rfl,_,rfl,⟨BF (i1:=88) (i2:=89) (i3:=90) ⟨B.aj,B.af.set x1.toNat {sv with aM:=nv},B.ah,B.ak⟩ (J.bA _ _ (Y sv (AE M))) rfl (BK (.same _ _ rfl) M rfl) rfl (.same _ _ rfl) rfl (.same _ _ rfl) du.symm rfl rfl rfl,(show q+4<=q+10 by omega),0,rfl⟩,rfl⟩
 clear h;refine cW (λ_=>?_) (λh=>?_)
 ·refine cW (show q+4<=QM by omega) ?_
  refine⟨0,3,rfl,rfl,⟨by decide,by decide⟩,λy H=>?_⟩;refine cW H.1 (cW (H.2.1 (by decide)) (cW (AG _) (cW (CO H 3 rfl (by decide)) (λel F=>?_))));have W:∃n:Int,el=[.int .i64 n]:=FH (L:=[-1,1,11]) F;clear F;obtain⟨nv,rfl⟩:=W;refine cW s0 (cW s1 (cW (AG _) (cW (show x1.toNat<B.af.length by omega) (cW (λ_ _ _=>trivial) ?_))));exact⟨.inl rfl,_,rfl,⟨BF (i1:=88) (i2:=89) (i3:=90) ⟨B.aj,B.af.set x1.toNat {sv with aC:=nv},B.ah,B.ak⟩ (J.bA _ _ (Y sv (AE M))) rfl (BK (.same _ _ rfl) M rfl) rfl (.same _ _ rfl) rfl (.same _ _ rfl) du.symm rfl rfl rfl,(show q+4<=q+10 by omega),0,rfl⟩,rfl⟩
 clear h;refine cW (λ_=>?_) (λh=>?_)
 ·refine cW (show q+4<=QM by omega) ?_
  refine⟨0,4,rfl,rfl,⟨by decide,by decide⟩,λy H=>?_⟩;refine cW H.1 (cW (H.2.1 (by decide)) (cW (AG _) (cW (CO H 4 rfl (by decide)) (λel F=>?_))));have W:∃n:Int,el=[.int .i64 n]:=FH (L:=[-1,1,3,4]) F;clear F;obtain⟨nv,rfl⟩:=W;refine cW s0 (cW s1 (cW (AG _) (cW (show x1.toNat<B.af.length by omega) (cW (λ_ _ _=>trivial) ?_))));exact⟨.inl rfl,_,rfl,⟨BF (i1:=88) (i2:=89) (i3:=90) ⟨B.aj,B.af.set x1.toNat {sv with ay:=nv},B.ah,B.ak⟩ (J.bA _ _ (Y sv (AE M))) rfl (BK (.same _ _ rfl) M rfl) rfl (.same _ _ rfl) rfl (.same _ _ rfl) du.symm rfl rfl rfl,(show q+4<=q+10 by omega),0,rfl⟩,rfl⟩
 clear h;refine cW (λ_=>?_) (λh=>?_)
 ·refine cW (show q+4<=QM by omega) ?_
  refine⟨0,3,rfl,rfl,⟨by decide,by decide⟩,λy H=>?_⟩;refine cW H.1 (cW (H.2.1 (by decide)) (cW (AG _) (cW (CO H 3 rfl (by decide)) (λel F=>?_))));have W:∃n:Int,el=[.int .i64 n]:=FH (L:=[-1,1,1000001]) F;clear F;obtain⟨nv,rfl⟩:=W;refine cW s0 (cW s1 (cW (AG _) (cW (show x1.toNat<B.af.length by omega) (cW (λ_ _ _=>trivial) ?_))));exact⟨.inl rfl,_,rfl,⟨BF (i1:=88) (i2:=89) (i3:=90) ⟨B.aj,B.af.set x1.toNat {sv with load:=nv},B.ah,B.ak⟩ (J.bA _ _ (Y sv (AE M))) rfl (BK (.same _ _ rfl) M rfl) rfl (.same _ _ rfl) rfl (.same _ _ rfl) du.symm rfl rfl rfl,(show q+4<=q+10 by omega),0,rfl⟩,rfl⟩
 clear h;refine cW (λ_=>?_) (λh=>?_)
 ·refine cW (show q+4<=QM by omega) ?_
  refine⟨0,2,rfl,rfl,⟨by decide,by decide⟩,λy H=>?_⟩;refine cW H.1 (cW (H.2.1 (by decide)) (cW (AG _) (cW (CO H 2 rfl (by decide)) (λel F=>?_))));have W:∃s∈[(⟨#[110,111,110,101]⟩:qB),(⟨#[]⟩:qB)],el=[.string s]:=MN (L:=[⟨#[110,111,110,101]⟩,⟨#[]⟩]) F;clear F;obtain⟨nm,Z,rfl⟩:=W;have Z:nm.size<=maxLen:=Iw Z (by decide);refine cW t0 (cW t1 (cW (AG _) (cW (show x2.toNat<B.ah.length by omega) (cW (λ_ _ _=>trivial) ?_))));exact⟨.inl rfl,_,rfl,⟨BF (i1:=88) (i2:=89) (i3:=90) ⟨B.aj,B.af,B.ah.set x2.toNat {cp with aa:=nm},B.ak⟩ (J.cp _ _ (⟨Z,(al cp (AE af)).2⟩)) rfl (.same _ _ rfl) rfl (BK (.same _ _ rfl) af rfl) rfl (.same _ _ rfl) rfl du.symm rfl rfl,(show q+4<=q+10 by omega),0,rfl⟩,rfl⟩
 clear h;refine cW (λ_=>?_) (λh=>?_)
 ·refine cW (show q+4<=QM by omega) ?_
  refine⟨0,2,rfl,rfl,⟨by decide,by decide⟩,λy H=>?_⟩;refine cW H.1 (cW (H.2.1 (by decide)) (cW (AG _) (cW (CO H 2 rfl (by decide)) (λel F=>?_))));have W:∃n:Int,el=[.int .i64 n]:=FH (L:=[0,999]) F;clear F;obtain⟨nv,rfl⟩:=W;refine cW t0 (cW t1 (cW (AG _) (cW (show x2.toNat<B.ah.length by omega) (cW (λ_ _ _=>trivial) ?_))));exact⟨.inl rfl,_,rfl,⟨BF (i1:=88) (i2:=89) (i3:=90) ⟨B.aj,B.af,B.ah.set x2.toNat {cp with ai:=nv},B.ak⟩ (J.cp _ _ (al cp (AE af))) rfl (.same _ _ rfl) rfl (BK (.same _ _ rfl) af rfl) rfl (.same _ _ rfl) rfl du.symm rfl rfl,(show q+4<=q+10 by omega),0,rfl⟩,rfl⟩
 clear h;refine cW (λ_=>?_) (λh=>?_)
 ·refine cW (show q+4<=QM by omega) ?_
  refine⟨0,4,rfl,rfl,⟨by decide,by decide⟩,λy H=>?_⟩;refine cW H.1 (cW (H.2.1 (by decide)) (cW (AG _) (cW (CO H 4 rfl (by decide)) (λel F=>?_))));have W:∃n:Int,el=[.int .i64 n]:=FH (L:=[0,1,3,5]) F;clear F;obtain⟨nv,rfl⟩:=W;refine cW t0 (cW t1 (cW (AG _) (cW (show x2.toNat<B.ah.length by omega) (cW (λ_ _ _=>trivial) ?_))));exact⟨.inl rfl,_,rfl,⟨BF (i1:=88) (i2:=89) (i3:=90) ⟨B.aj,B.af,B.ah.set x2.toNat {cp with ax:=nv},B.ak⟩ (J.cp _ _ (al cp (AE af))) rfl (.same _ _ rfl) rfl (BK (.same _ _ rfl) af rfl) rfl (.same _ _ rfl) rfl du.symm rfl rfl,(show q+4<=q+10 by omega),0,rfl⟩,rfl⟩
 clear h;refine cW (λ_=>?_) (λh=>?_)
 ·refine cW (show q+4<=QM by omega) ?_
  refine⟨0,3,rfl,rfl,⟨by decide,by decide⟩,λy H=>?_⟩;refine cW H.1 (cW (H.2.1 (by decide)) (cW (AG _) (cW (CO H 3 rfl (by decide)) (λel F=>?_))));have W:∃s∈[(⟨#[]⟩:qB),(⟨#[97]⟩:qB),(⟨#[110,111,110,101]⟩:qB)],el=[.string s]:=MN (L:=[⟨#[]⟩,⟨#[97]⟩,⟨#[110,111,110,101]⟩]) F;clear F;obtain⟨nm,Z,rfl⟩:=W;have Z:nm.size<=maxLen:=Iw Z (by decide);refine cW t0 (cW t1 (cW (AG _) (cW (show x2.toNat<B.ah.length by omega) (cW (λ_ _ _=>trivial) ?_))));exact⟨.inl rfl,_,rfl,⟨BF (i1:=88) (i2:=89) (i3:=90) ⟨B.aj,B.af,B.ah.set x2.toNat {cp with aA:=nm},B.ak⟩ (J.cp _ _ (⟨(al cp (AE af)).1,Z⟩)) rfl (.same _ _ rfl) rfl (BK (.same _ _ rfl) af rfl) rfl (.same _ _ rfl) rfl du.symm rfl rfl,(show q+4<=q+10 by omega),0,rfl⟩,rfl⟩
 clear h;refine cW (λ_=>?_) (λh=>?_)
 ·refine cW t0 (cW t1 (cW (AG _) (cW (show x2.toNat<B.ah.length by omega) (λc9 aS=>?_))))
  refine cW rfl (cW rfl (cW (AG _) (cW (show B.ah.length+1<=1000000000 by omega) (λc'=>?_))));exact⟨.inl rfl,_,rfl,⟨BF (i1:=88) (i3:=90) ⟨B.aj,B.af,B.ah++[c9],B.ak⟩ (⟨⟨J.1.1,by simp;omega,J.1.2.2⟩,Y,(λd hd=>(dt.1 hd).elim (al d) (λh=>by rw[cZ.1 h];exact al c9 (AE aS))),aq⟩) rfl (.same _ _ rfl) rfl (DE (f:=cpL) B.ah c9) rfl (.same _ _ rfl) rfl (by simp) rfl rfl,(show q+3<=q+10 by omega),0,rfl⟩,rfl⟩
 clear h;refine cW (λ_=>?_) (λh=>?_)
 ·refine cW (show q+4<=QM by omega) ?_
  refine⟨0,3,rfl,rfl,⟨by decide,by decide⟩,λy H=>?_⟩;refine cW H.1 (cW (H.2.1 (by decide)) (cW (AG _) (cW (CO H 3 rfl (by decide)) (λel F=>?_))));have W:∃s∈[(⟨#[]⟩:qB),(⟨#[122]⟩:qB),(⟨#[97]⟩:qB)],el=[.string s]:=MN (L:=[⟨#[]⟩,⟨#[122]⟩,⟨#[97]⟩]) F;clear F;obtain⟨nm,Z,rfl⟩:=W;have Z:nm.size<=maxLen:=Iw Z (by decide);refine cW rfl (cW rfl (cW (AG _) (cW (show B.ak.length+1<=1000000000 by omega) (λc'=>?_))));exact⟨.inl rfl,_,rfl,⟨BF (i1:=88) (i2:=89) ⟨B.aj,B.af,B.ah,B.ak++[⟨nm,false⟩]⟩ (⟨⟨J.1.1,J.1.2.1,by simp;omega⟩,Y,al,(λd hd=>(dt.1 hd).elim (aq d) (λh=>by rw[cZ.1 h];exact Z))⟩) rfl (.same _ _ rfl) rfl (.same _ _ rfl) rfl (DE (f:=btL) B.ak ⟨nm,false⟩) rfl rfl (by simp) rfl,(show q+4<=q+10 by omega),0,rfl⟩,rfl⟩
 clear h;refine cW (λ_=>?_) (λh=>?_)
 ·refine cW (show q+4<=QM by omega) ?_
  refine λn1 _=>?_
  refine⟨0,2,rfl,rfl,⟨by decide,by decide⟩,λy H=>?_⟩;refine cW H.1 (cW (H.2.1 (by decide)) (cW (AG _) (cW (CO H 2 rfl (by decide)) (λel F=>?_))));have W:∃n:Int,el=[.int .i64 n]:=FH (L:=[0,n1]) F;clear F;obtain⟨nv,rfl⟩:=W;refine cW t0 (cW t1 (cW (AG _) (cW (show x2.toNat<B.ah.length by omega) (cW (λ_ _ _=>trivial) ?_))));exact⟨.inl rfl,_,rfl,⟨BF (i1:=88) (i2:=89) (i3:=90) ⟨B.aj,B.af,B.ah.set x2.toNat {cp with ag:=nv},B.ak⟩ (J.cp _ _ (al cp (AE af))) rfl (.same _ _ rfl) rfl (BK (.same _ _ rfl) af rfl) rfl (.same _ _ rfl) rfl du.symm rfl rfl,(show q+4<=q+10 by omega),0,rfl⟩,rfl⟩
 clear h;refine cW t0 (cW t1 (cW (AG _) (cW (show x2.toNat<B.ah.length by omega) (λc9 aS=>?_))));refine cW (λ_=>?_) (λ_=>?_)
 ·refine cW t0 (cW t1 (cW (AG _) (cW (show x2.toNat<B.ah.length by omega) (cW (λ_ _ _=>trivial) ?_))))
  exact⟨.inl rfl,_,rfl,⟨BF (i1:=88) (i2:=89) (i3:=90) ⟨B.aj,B.af,B.ah.set x2.toNat {cp with au:=false},B.ak⟩ (J.cp _ _ (al cp (AE af))) rfl (.same _ _ rfl) rfl (BK (.same _ _ rfl) af rfl) rfl (.same _ _ rfl) rfl du.symm rfl rfl,(show q+3<=q+10 by omega),0,rfl⟩,rfl⟩
 ·refine cW t0 (cW t1 (cW (AG _) (cW (show x2.toNat<B.ah.length by omega) (cW (λ_ _ _=>trivial) ?_))))
  exact⟨.inl rfl,_,rfl,⟨BF (i1:=88) (i2:=89) (i3:=90) ⟨B.aj,B.af,B.ah.set x2.toNat {cp with au:=true},B.ak⟩ (J.cp _ _ (al cp (AE af))) rfl (.same _ _ rfl) rfl (BK (.same _ _ rfl) af rfl) rfl (.same _ _ rfl) rfl du.symm rfl rfl,(show q+3<=q+10 by omega),0,rfl⟩,rfl⟩
end
end Go.Proofs.YtbceafpodamnfaaGreatDoor
