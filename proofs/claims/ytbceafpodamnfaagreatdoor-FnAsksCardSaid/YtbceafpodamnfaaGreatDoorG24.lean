import Derived.Test.YtbceafpodamnfaaGreatDoorG15
import Derived.Test.YtbceafpodamnfaaGreatDoorG21
set_option linter.all false
set_option maxHeartbeats 8000000
set_option maxRecDepth 100000
namespace Go.Proofs.YtbceafpodamnfaaGreatDoor
section
open Go.RowKit
open Go.Value renaming int->In,slice->Sl,string->Sg,bool->Bo,pointer->Po
open Go.IntKind renaming i64->i6
def RDr(r:Nat)(Z:Nat->Prop)(w:World)(g q:Nat):Prop:=g=r/\Rd r w (q:Int)/\∀k,k<r->Z k
theorem Sc(r:Nat):CR (RDr r):=by
 rintro Z Z' w w' g q q' ⟨rfl,⟨ao,n,cap,p,O,W,h3,Y,h5⟩,M⟩ hZ hg hb hq;refine⟨rfl,⟨ao,n,cap,p,hg.trans O,W,qo,Y,λhn=>?_⟩,λk hk=>hZ k (M k hk)⟩;obtain⟨b,H,e,F,J,hc⟩:=h5 hn;have z:=hb b (M b J);refine⟨b,H,e,?_,J,λi hi=>?_⟩
 ·rw[gR F]at z
  exact(AB z).1
 ·rw[eQ (w:=w) z];exact hc i hi
theorem Ji(r:Nat):RDpin (RDr r):=λ_ _ _ _ _ _ _ _ ⟨e,_,z⟩ ⟨_,h,_⟩=>⟨e,h,z⟩
def Pl:Ct:=λvs es _ k=>∃(i:Nat) (n:Int),vs=[.complex .f64 i 0,In i6 n]/\lk es i=some rdB/\(-1125899906842624<n/\n<1125899906842624)/\∀x,GL n x->k (In i6 x) []
theorem pick_ct(r:Nat):CH Tryz.prog (RDr r) 38 1 Pl:=by
 rintro w0 G w q id vs es k0 W M aj J _ hq ⟨i,n,rfl,hi,H,_⟩;obtain⟨g,Y,Z,e3⟩:=(J i rdB (Aw _ _ _ hi)).k4 rfl;obtain⟨rfl,hR,hZ⟩:=e3
 have ha:(List.map (r2 G.α) [.complex .f64 i 0,In i6 n]).toArray=#[.pointer (qad g),In i6 n]:=by
  simp[r2,r1,r0,Y,Addr.add]
 rw[ha];refine(Ek g n q w H.1 H.2 hR (by have:=hq.resolve_left qd;unfold QM at this;omega)).mono ?_;rintro e w' ⟨x,rfl,hx,z,hr⟩;have F:∀k,k<w.heap.size->k≠g->w'.heap[k]?=w.heap[k]?:=z.block;refine⟨In i6 x,[],G,λk hk=>?_,rfl,⟨⟨z.os,z.tape,z.output,z.size,λk hk H=>F k hk λe=>H (e▸Z)⟩,λ_ _=>rfl,λ_ h=>h,λ_ h=>.inl h,λk hk=>⟨AF (W k hk).1 z.size,(W k hk).2⟩,λ_ h=>h,λ_ h=>.inl h,λk hk=>AF (M k hk) z.size,λg' _ ⟨e,h,O⟩=>⟨e,hr _ h,O⟩⟩,⟨λ_ _ h=>(nomatch h),λ_ _ h=>(nomatch h),λ_ _ _ _ h=>(nomatch h)⟩,λ_ h=>(nomatch h),λ_ _ h=>(nomatch h)⟩;obtain⟨i',n',hv,_,_,hk⟩:=hk;simp only[dD,fB,fH,eo]at hv;exact hk x (by rw[<-hv.2];exact hx)
theorem Tu{els:List (List Value)}{n:Nat}{el:qL}(h:∀e∈els,∃s:ByteArray,e=[Sg s]/\s.size<=10)(z:els[n]?=some el):∃s:ByteArray,el=[Sg s]/\s.size<=10:=h el (AE z)
theorem str3{a b c:qB}(F:a.size<=10)(hb:b.size<=10)(H:c.size<=10):∀e∈[[Value.string a],[Sg b],[Sg c]],∃s:ByteArray,e=[Sg s]/\s.size<=10:=λe z=>by
 simp only[dJ,dW,fF]at z;rcases z with rfl|rfl|rfl
 ·exact⟨a,rfl,F⟩
 ·exact⟨b,rfl,hb⟩
 ·exact⟨c,rfl,H⟩
theorem M3(r:Nat):Env Tryz.prog (RDr r) TT [(38,1,Pl)]:=Aa (BB (Sc r)) qk (pick_ct r)
abbrev ctWish:Ct:=ctV (λ_:Unit=>[.complex .f64 0 0]) (λ_=>[(0,rdB)]) (λ_=>True) λ_ v es=>es=[]/\∃s:Svc,v=GE s/\s.name.size<=10
theorem Tn(r:Nat):CH Tryz.prog (RDr r) 37 100 ctWish:=by
 refine NE (Ρ:=[]) (M3 r) (Ji r) 100 qd Tryz.func37 qk (.nil _) qk (λ_=>rfl) (λ_ _ _ _=>rfl) λ_ q _ hq=>?_
 refine dg (show q+6<=QM by omega) ?_;refine⟨0,3,rfl,rfl,⟨qd,qd⟩,λx hx=>?_⟩;have H:=hx.2.1 qd;refine dg hx.1 (dg H (dg AG (dg (show x.toNat<3 by have:=hx.1;omega) (λel F=>?_))));obtain⟨nm,rfl,z⟩:=Tu (str3 qd qd qd) F;refine⟨0,3,rfl,rfl,⟨qd,qd⟩,λx1 _=>?_⟩;refine λn1 _=>?_
 refine⟨0,6,rfl,rfl,⟨qd,qd⟩,λx2 _=>?_⟩;refine⟨0,3,rfl,rfl,⟨qd,qd⟩,λx3 _=>?_⟩;refine⟨0,3,rfl,rfl,⟨qd,qd⟩,λx4 _=>?_⟩;refine⟨0,10,rfl,rfl,⟨qd,qd⟩,λx5 _=>?_⟩;refine dg (λ_=>?_) (λ_=>?_)
 ·refine λn2 _=>dg (λ_=>?_) (λ_=>?_)
  ·refine dg (show q+7<=QM by omega) ?_
   refine⟨0,3,rfl,rfl,⟨qd,qd⟩,λJ _=>?_⟩;refine dg (λ_=>?_) (λ_=>?_)
   ·refine dg (show q+8<=QM by omega) ?_
    refine⟨0,9,rfl,rfl,⟨qd,qd⟩,λM _=>?_⟩;refine λ_ _=>?_
    refine dg (show q+9<=QM by omega) ?_;refine⟨0,3,rfl,rfl,⟨qd,qd⟩,λO _=>?_⟩;refine dg (show q+10<=QM by omega) ?_;refine⟨0,5,rfl,rfl,⟨qd,qd⟩,λW _=>?_⟩;refine λ_ _=>?_
    refine dg (show q+11<=QM by omega) ?_;refine⟨0,60,rfl,rfl,⟨qd,qd⟩,λY _=>?_⟩;refine dg (show q+12<=QM by omega) ?_;refine⟨0,4,rfl,rfl,⟨qd,qd⟩,λZ _=>?_⟩;refine dg (λ_=>?_) (λ_=>?_)
    ·exact⟨.inl rfl,_,rfl,⟨⟨_,_,[],⟨rfl,⟨_,_,_,_,_,_,_,_,_,_,_,_,_⟩,rfl,z⟩,rfl,trivial,rfl,rfl,trivial⟩,(show q+12<=q+100 by omega),0,rfl⟩,rfl⟩
    ·exact⟨.inl rfl,_,rfl,⟨⟨_,_,[],⟨rfl,⟨_,_,_,_,_,_,_,_,_,_,_,_,_⟩,rfl,z⟩,rfl,trivial,rfl,rfl,trivial⟩,(show q+12<=q+100 by omega),0,rfl⟩,rfl⟩
   ·exact⟨.inl rfl,_,rfl,⟨⟨_,_,[],⟨rfl,⟨_,_,_,_,_,_,_,_,_,_,_,_,_⟩,rfl,z⟩,rfl,trivial,rfl,rfl,trivial⟩,(show q+7<=q+100 by omega),0,rfl⟩,rfl⟩
  ·refine dg (show q+7<=QM by omega) ?_
   refine⟨0,3,rfl,rfl,⟨qd,qd⟩,λJ _=>?_⟩;refine dg (λ_=>?_) (λ_=>?_)
   ·refine dg (show q+8<=QM by omega) ?_
    refine⟨0,9,rfl,rfl,⟨qd,qd⟩,λM _=>?_⟩;refine λ_ _=>?_
    refine dg (show q+9<=QM by omega) ?_;refine⟨0,3,rfl,rfl,⟨qd,qd⟩,λO _=>?_⟩;refine dg (show q+10<=QM by omega) ?_;refine⟨0,5,rfl,rfl,⟨qd,qd⟩,λW _=>?_⟩;refine λ_ _=>?_
    refine dg (show q+11<=QM by omega) ?_;refine⟨0,60,rfl,rfl,⟨qd,qd⟩,λY _=>?_⟩;refine dg (show q+12<=QM by omega) ?_;refine⟨0,4,rfl,rfl,⟨qd,qd⟩,λZ _=>?_⟩;refine dg (λ_=>?_) (λ_=>?_)
    ·exact⟨.inl rfl,_,rfl,⟨⟨_,_,[],⟨rfl,⟨_,_,_,_,_,_,_,_,_,_,_,_,_⟩,rfl,z⟩,rfl,trivial,rfl,rfl,trivial⟩,(show q+12<=q+100 by omega),0,rfl⟩,rfl⟩
    ·exact⟨.inl rfl,_,rfl,⟨⟨_,_,[],⟨rfl,⟨_,_,_,_,_,_,_,_,_,_,_,_,_⟩,rfl,z⟩,rfl,trivial,rfl,rfl,trivial⟩,(show q+12<=q+100 by omega),0,rfl⟩,rfl⟩
   ·exact⟨.inl rfl,_,rfl,⟨⟨_,_,[],⟨rfl,⟨_,_,_,_,_,_,_,_,_,_,_,_,_⟩,rfl,z⟩,rfl,trivial,rfl,rfl,trivial⟩,(show q+7<=q+100 by omega),0,rfl⟩,rfl⟩
 ·refine λn2 _=>dg (λ_=>?_) (λ_=>?_)
  ·refine dg (show q+7<=QM by omega) ?_
   refine⟨0,3,rfl,rfl,⟨qd,qd⟩,λJ _=>?_⟩;refine dg (λ_=>?_) (λ_=>?_)
   ·refine dg (show q+8<=QM by omega) ?_
    refine⟨0,9,rfl,rfl,⟨qd,qd⟩,λM _=>?_⟩;refine λ_ _=>?_
    refine dg (show q+9<=QM by omega) ?_;refine⟨0,3,rfl,rfl,⟨qd,qd⟩,λO _=>?_⟩;refine dg (show q+10<=QM by omega) ?_;refine⟨0,5,rfl,rfl,⟨qd,qd⟩,λW _=>?_⟩;refine λ_ _=>?_
    refine dg (show q+11<=QM by omega) ?_;refine⟨0,60,rfl,rfl,⟨qd,qd⟩,λY _=>?_⟩;refine dg (show q+12<=QM by omega) ?_;refine⟨0,4,rfl,rfl,⟨qd,qd⟩,λZ _=>?_⟩;refine dg (λ_=>?_) (λ_=>?_)
    ·exact⟨.inl rfl,_,rfl,⟨⟨_,_,[],⟨rfl,⟨_,_,_,_,_,_,_,_,_,_,_,_,_⟩,rfl,z⟩,rfl,trivial,rfl,rfl,trivial⟩,(show q+12<=q+100 by omega),0,rfl⟩,rfl⟩
    ·exact⟨.inl rfl,_,rfl,⟨⟨_,_,[],⟨rfl,⟨_,_,_,_,_,_,_,_,_,_,_,_,_⟩,rfl,z⟩,rfl,trivial,rfl,rfl,trivial⟩,(show q+12<=q+100 by omega),0,rfl⟩,rfl⟩
   ·exact⟨.inl rfl,_,rfl,⟨⟨_,_,[],⟨rfl,⟨_,_,_,_,_,_,_,_,_,_,_,_,_⟩,rfl,z⟩,rfl,trivial,rfl,rfl,trivial⟩,(show q+7<=q+100 by omega),0,rfl⟩,rfl⟩
  ·refine dg (show q+7<=QM by omega) ?_
   refine⟨0,3,rfl,rfl,⟨qd,qd⟩,λJ _=>?_⟩;refine dg (λ_=>?_) (λ_=>?_)
   ·refine dg (show q+8<=QM by omega) ?_
    refine⟨0,9,rfl,rfl,⟨qd,qd⟩,λM _=>?_⟩;refine λ_ _=>?_
    refine dg (show q+9<=QM by omega) ?_;refine⟨0,3,rfl,rfl,⟨qd,qd⟩,λO _=>?_⟩;refine dg (show q+10<=QM by omega) ?_;refine⟨0,5,rfl,rfl,⟨qd,qd⟩,λW _=>?_⟩;refine λ_ _=>?_
    refine dg (show q+11<=QM by omega) ?_;refine⟨0,60,rfl,rfl,⟨qd,qd⟩,λY _=>?_⟩;refine dg (show q+12<=QM by omega) ?_;refine⟨0,4,rfl,rfl,⟨qd,qd⟩,λZ _=>?_⟩;refine dg (λ_=>?_) (λ_=>?_)
    ·exact⟨.inl rfl,_,rfl,⟨⟨_,_,[],⟨rfl,⟨_,_,_,_,_,_,_,_,_,_,_,_,_⟩,rfl,z⟩,rfl,trivial,rfl,rfl,trivial⟩,(show q+12<=q+100 by omega),0,rfl⟩,rfl⟩
    ·exact⟨.inl rfl,_,rfl,⟨⟨_,_,[],⟨rfl,⟨_,_,_,_,_,_,_,_,_,_,_,_,_⟩,rfl,z⟩,rfl,trivial,rfl,rfl,trivial⟩,(show q+12<=q+100 by omega),0,rfl⟩,rfl⟩
   ·exact⟨.inl rfl,_,rfl,⟨⟨_,_,[],⟨rfl,⟨_,_,_,_,_,_,_,_,_,_,_,_,_⟩,rfl,z⟩,rfl,trivial,rfl,rfl,trivial⟩,(show q+7<=q+100 by omega),0,rfl⟩,rfl⟩
def BP.v1(p:BP):Value:=.agg #[In i6 p.B.av,.iface 1 (Sl none p.B.ah.length p.c1),.iface 2 (Sl none p.B.ar.length p.c2),.iface 3 (Sl none p.B.aw.length p.c3)]
def BP.m1(p:BP):AW:=[(0,rdB),(1,BY 34 13 svL p.B.ah),(2,BY 76 7 cpL p.B.ar),(3,BY 90 2 btL p.B.aw)]
theorem BP.cV{p F:BP}(hv:p.v1=F.v1)(z:p.m1=F.m1):p=F:=by
 simp only[BP.m1,dD,dR,fH,eo]at z;refine BP.inj ?_ z.1 z.2.1 z.2.2;have:=ei Array.toList (iD hv);simp at this;unfold BP.v;rw[this.1,this.2.1.1,this.2.1.2,this.2.2.1.1,this.2.2.1.2,this.2.2.2.1,this.2.2.2.2]
theorem Dg{n x:Int}(h:GL n x)(k:Nat)(H:n=k)(hk:0<k):x.toNat<k:=by
 have z:=h.1;have F:=h.2.1 qo;omega
def evV0(k:Int)(s:Svc)(nm:qB)(n:Int)(f:Bool):Value:=.agg #[In i6 k,Sg s.name,In i6 s.ag,Bo s.aH,In i6 s.aj,In i6 s.au,In i6 s.aK,In i6 s.aG,In i6 s.next,In i6 s.aQ,In i6 s.az,In i6 s.aI,In i6 s.load,In i6 s.aA,Sg nm,In i6 n,Bo f]
def okSp(B:Bk):Prop:=(B.ah.length<=1000/\B.ar.length<=1000/\B.aw.length<=1000)/\(∀s∈B.ah,s.name.size<=maxLen)/\(∀c∈B.ar,c.aa.size<=maxLen/\c.aC.size<=maxLen)/\∀b∈B.aw,b.name.size<=maxLen
def okDr(B:Bk):Prop:=(B.ah.length<=999/\B.ar.length<=999/\B.aw.length<=999)/\(∀s∈B.ah,s.name.size<=maxLen)/\(∀c∈B.ar,c.aa.size<=maxLen/\c.aC.size<=maxLen)/\∀b∈B.aw,b.name.size<=maxLen
theorem okBk.sp{B:Bk}(h:okBk B):okSp B:=h
def NumOk(B:Bk)(n:Int):Prop:=(-1<=n/\n<=1000001)\/∃c∈B.ar,c.ak=n
theorem NumOk.zero(B:Bk):NumOk B 0:=.inl ⟨qd,qd⟩
theorem NumOk.pk{B:Bk}{m x:Int}(h:GL m x)(z:0<m)(F:m<=1000):NumOk B x:=.inl (by have:=h.1;have:=h.2.1 z;omega)
theorem NumOk.pk1{B:Bk}{m x z:Int}(h:GL m x)(F:0<m)(H:m<=1000)(J:z=1+x):NumOk B z:=.inl (by have:=h.1;have:=h.2.1 F;omega)
abbrev ctEvent:Ct:=ctV (λp:BP=>[.complex .f64 0 0,p.v1]) (λp=>p.m1) (λp=>okSp p.B) λp v es=>es=[]/\∃k s nm n f,v=evV0 k s nm n f/\s.name.size<=maxLen/\nm.size<=maxLen/\NumOk p.B n
theorem event_ct(r:Nat):CH Tryz.prog (RDr r) 90 2000 ctEvent:=by
 refine NE (Ρ:=[]) (Aa (M3 r) (f:=37) qk (Tn r)) (Ji r) 2000 qd Tryz.func90 qk (.nil _) qk (λ_=>rfl) (λp p' h hm=>BP.cV (gm (gm h).2).1 hm) ?_;rintro⟨B,c1,c2,c3⟩ q ⟨am,ag,W,_⟩ hq;have M:(⟨#[119,101,98]⟩:qB).size<=maxLen:=qd
 have ax:B.ah.length<=1000:=am.1;have ay:B.ar.length<=1000:=am.2.1;have ag:∀s∈B.ah,s.name.size<=maxLen:=ag;have W:∀c∈B.ar,c.aa.size<=maxLen:=λc Z=>(W c Z).1
 refine dg (show q+1<=QM by omega) ?_;refine⟨0,3,rfl,rfl,⟨qd,qd⟩,λx hx=>?_⟩;have H:=hx.2.1 qd;refine dg hx.1 (dg H (dg AG (dg (Dg hx 3 rfl qd) (λel J=>?_))));have h3:∃s:ByteArray,el=[Sg s]/\s.size<=10:=Tu (str3 (a:=⟨#[97]⟩) (b:=⟨#[98]⟩) (c:=⟨#[99]⟩) qd qd qd) J;clear J hx H;obtain⟨bt,rfl,O⟩:=h3;refine dg (show q+2<=QM by omega) ?_;refine⟨0,20,rfl,rfl,⟨qd,qd⟩,λu _=>?_⟩;refine dg (λ_=>?_) (λh=>?_)
 ·exact⟨.inl rfl,_,rfl,⟨⟨_,_,[],⟨rfl,_,⟨_,_,_,_,_,_,_,_,_,_,_,_,_⟩,_,_,_,rfl,(AI _),(AI _),.zero _⟩,rfl,trivial,rfl,rfl,trivial⟩,(show q+2<=q+2000 by omega),0,rfl⟩,rfl⟩
 clear h;refine dg (λ_=>?_) (λh=>?_)
 ·exact⟨.inl rfl,_,rfl,⟨⟨_,_,[],⟨rfl,_,⟨_,_,_,_,_,_,_,_,_,_,_,_,_⟩,_,_,_,rfl,(AI _),(AI _),.zero _⟩,rfl,trivial,rfl,rfl,trivial⟩,(show q+2<=q+2000 by omega),0,rfl⟩,rfl⟩
 clear h;refine dg (λ_=>?_) (λh=>?_)
 ·exact⟨.inl rfl,_,rfl,⟨⟨_,_,[],⟨rfl,_,⟨_,_,_,_,_,_,_,_,_,_,_,_,_⟩,_,_,_,rfl,(AI _),(AI _),.zero _⟩,rfl,trivial,rfl,rfl,trivial⟩,(show q+2<=q+2000 by omega),0,rfl⟩,rfl⟩
 clear h;refine dg (λ_=>?_) (λh=>?_)
 ·exact⟨.inl rfl,_,rfl,⟨⟨_,_,[],⟨rfl,_,⟨_,_,_,_,_,_,_,_,_,_,_,_,_⟩,_,_,_,rfl,(AI _),(AI _),.zero _⟩,rfl,trivial,rfl,rfl,trivial⟩,(show q+2<=q+2000 by omega),0,rfl⟩,rfl⟩
 clear h;refine dg (λ_=>?_) (λh=>?_)
 ·exact⟨.inl rfl,_,rfl,⟨⟨_,_,[],⟨rfl,_,⟨_,_,_,_,_,_,_,_,_,_,_,_,_⟩,_,_,_,rfl,(AI _),(AI _),.zero _⟩,rfl,trivial,rfl,rfl,trivial⟩,(show q+2<=q+2000 by omega),0,rfl⟩,rfl⟩
 clear h;refine dg (λ_=>?_) (λh=>?_)
 ·exact⟨.inl rfl,_,rfl,⟨⟨_,_,[],⟨rfl,_,⟨_,_,_,_,_,_,_,_,_,_,_,_,_⟩,_,_,_,rfl,(AI _),(AI _),.zero _⟩,rfl,trivial,rfl,rfl,trivial⟩,(show q+2<=q+2000 by omega),0,rfl⟩,rfl⟩
 clear h;refine dg (λ_=>?_) (λh=>?_)
 ·exact⟨.inl rfl,_,rfl,⟨⟨_,_,[],⟨rfl,_,⟨_,_,_,_,_,_,_,_,_,_,_,_,_⟩,_,_,_,rfl,(AI _),(AI _),.zero _⟩,rfl,trivial,rfl,rfl,trivial⟩,(show q+2<=q+2000 by omega),0,rfl⟩,rfl⟩
 clear h;refine dg (λ_=>?_) (λh=>?_)
 ·refine dg (show q+102<=QM by omega) ?_
  refine⟨(),rfl,trivial,?_⟩;rintro _ _ ⟨rfl,s,rfl,hs⟩;exact⟨.inl rfl,_,rfl,⟨⟨_,_,[],⟨rfl,_,⟨_,_,_,_,_,_,_,_,_,_,_,_,_⟩,_,_,_,rfl,(AH hs qd),(AI _),.zero _⟩,rfl,trivial,rfl,rfl,trivial⟩,(show q+102<=q+2000 by omega),0,rfl⟩,rfl⟩
 clear h;refine dg (λ_=>?_) (λh=>?_)
 ·refine dg (show q+102<=QM by omega) ?_
  refine⟨(),rfl,trivial,?_⟩;rintro _ _ ⟨rfl,s,rfl,hs⟩;exact⟨.inl rfl,_,rfl,⟨⟨_,_,[],⟨rfl,_,⟨_,_,_,_,_,_,_,_,_,_,_,_,_⟩,_,_,_,rfl,(AH hs qd),(AI _),.zero _⟩,rfl,trivial,rfl,rfl,trivial⟩,(show q+102<=q+2000 by omega),0,rfl⟩,rfl⟩
 clear h;refine dg (λ_=>?_) (λh=>?_)
 ·refine dg (show q+102<=QM by omega) ?_
  refine⟨(),rfl,trivial,?_⟩;rintro _ _ ⟨rfl,s,rfl,hs⟩;exact⟨.inl rfl,_,rfl,⟨⟨_,_,[],⟨rfl,_,⟨_,_,_,_,_,_,_,_,_,_,_,_,_⟩,_,_,_,rfl,(AH hs qd),(AI _),.zero _⟩,rfl,trivial,rfl,rfl,trivial⟩,(show q+102<=q+2000 by omega),0,rfl⟩,rfl⟩
 clear h;refine dg (λ_=>?_) (λh=>?_)
 ·refine⟨λn z=>∃(x:Int) (q':Nat),0<=x/\x<=B.ah.length/\n=B.ah.length - x.toNat/\q'<=q+2+x.toNat/\z=⟨[(6,In i6 x),(0,.complex .f64 0 0),(3,.complex .f64 64 0),(4,.complex .f64 72 0)],(72,AX [In i6 0,.string ⟨#[]⟩,In i6 0,Bo false,In i6 0,In i6 0,In i6 0,In i6 0,In i6 0,In i6 0,In i6 0,In i6 0,In i6 0,In i6 0,.string ⟨#[]⟩,In i6 0,Bo false] 36)::(64,AX [In i6 B.av,.iface 1 (Sl none B.ah.length c1),.iface 2 (Sl none B.ar.length c2),.iface 3 (Sl none B.aw.length c3)] 28)::BP.m1 ⟨B,c1,c2,c3⟩,300,q'⟩,B.ah.length,⟨_,qe,0,_,qo,qo,qo,AG,rfl⟩,?_⟩
  rintro n _ ⟨x,q',h0,h1,rfl,aw,rfl⟩;refine dg (λY=>?_) (λY=>?_)
  ·have Y:x<B.ah.length:=Y
   refine dg (show q'+1<=QM by omega) ?_;refine⟨0,2,rfl,rfl,⟨qd,qd⟩,λy0 _=>?_⟩;refine dg (λ_=>?_) (λ_=>?_)
   ·refine dg h0 (dg Y (dg AG (λs hs=>?_)))
    refine λu _=>?_
    exact⟨.inl rfl,_,rfl,⟨⟨_,_,[],⟨rfl,_,{s with aj:=u},_,_,_,rfl,(ag s (AE hs)),(AI _),.zero _⟩,rfl,trivial,rfl,rfl,trivial⟩,(show q'+1<=q+2000 by omega),0,rfl⟩,rfl⟩
   ·refine λy hy=>?_
    have hy:=hy ⟨qo,qo⟩;exact⟨B.ah.length - y.toNat,qo,_,qe,y,q'+1,qo,qo,rfl,qo,rfl⟩
  ·refine dg (show q'+1<=QM by omega) ?_
   refine dg (λhl=>?_) (λhl=>?_)
   ·refine⟨0,8,rfl,rfl,⟨qd,qd⟩,λy1 _=>?_⟩
    refine dg (λ_=>?_) (λ_=>?_)
    ·refine dg (show q'+1+1<=QM by omega) ?_
     have hl:(0:Int)<B.ar.length:=hl;refine⟨0,(B.ar.length:Int),rfl,rfl,⟨qo,qo⟩,λx hx=>?_⟩;have H:=hx.2.1 qo;refine dg hx.1 (dg H (dg AG (λc Z=>?_)));exact⟨.inl rfl,_,rfl,⟨⟨_,_,[],⟨rfl,_,⟨_,_,_,_,_,_,_,_,_,_,_,_,_⟩,_,_,_,rfl,(AI _),(W c (AE Z)),.inr ⟨c,AE Z,rfl⟩⟩,rfl,trivial,rfl,rfl,trivial⟩,(show q'+1+1<=q+2000 by omega),0,rfl⟩,rfl⟩
    ·refine dg (show q'+1+1<=QM by omega) ?_
     refine⟨0,6,rfl,rfl,⟨qd,qd⟩,λy2 F=>?_⟩;refine λz hz=>?_
     exact⟨.inl rfl,_,rfl,⟨⟨_,_,[],⟨rfl,_,⟨_,_,_,_,_,_,_,_,_,_,_,_,_⟩,⟨#[119,101,98]⟩,_,_,rfl,(AI _),M,.pk1 F qd qd (hz (by have:=F.1;have:=F.2.1 qd;exact⟨qo,qo⟩))⟩,rfl,trivial,rfl,rfl,trivial⟩,(show q'+1+1<=q+2000 by omega),0,rfl⟩,rfl⟩
   ·refine dg (show q'+1+1<=QM by omega) ?_
    refine⟨0,6,rfl,rfl,⟨qd,qd⟩,λy2 F=>?_⟩;refine λz hz=>?_
    exact⟨.inl rfl,_,rfl,⟨⟨_,_,[],⟨rfl,_,⟨_,_,_,_,_,_,_,_,_,_,_,_,_⟩,⟨#[119,101,98]⟩,_,_,rfl,(AI _),M,.pk1 F qd qd (hz (by have:=F.1;have:=F.2.1 qd;exact⟨qo,qo⟩))⟩,rfl,trivial,rfl,rfl,trivial⟩,(show q'+1+1<=q+2000 by omega),0,rfl⟩,rfl⟩
 clear h;refine dg (λ_=>?_) (λh=>?_)
 ·exact⟨.inl rfl,_,rfl,⟨⟨_,_,[],⟨rfl,_,⟨_,_,_,_,_,_,_,_,_,_,_,_,_⟩,_,_,_,rfl,(AI _),(AH O qd),.zero _⟩,rfl,trivial,rfl,rfl,trivial⟩,(show q+2<=q+2000 by omega),0,rfl⟩,rfl⟩
 clear h;refine dg (λ_=>?_) (λh=>?_)
 ·refine dg (show q+3<=QM by omega) ?_
  refine⟨0,3,rfl,rfl,⟨qd,qd⟩,λy _=>?_⟩;refine dg (λ_=>?_) (λ_=>?_)
  ·exact⟨.inl rfl,_,rfl,⟨⟨_,_,[],⟨rfl,_,⟨_,_,_,_,_,_,_,_,_,_,_,_,_⟩,_,_,_,rfl,(AI _),(AH O qd),.zero _⟩,rfl,trivial,rfl,rfl,trivial⟩,(show q+3<=q+2000 by omega),0,rfl⟩,rfl⟩
  ·exact⟨.inl rfl,_,rfl,⟨⟨_,_,[],⟨rfl,_,⟨_,_,_,_,_,_,_,_,_,_,_,_,_⟩,_,_,_,rfl,(AI _),(AH O qd),.zero _⟩,rfl,trivial,rfl,rfl,trivial⟩,(show q+3<=q+2000 by omega),0,rfl⟩,rfl⟩
 clear h;refine dg (λ_=>?_) (λh=>?_)
 ·refine dg (show q+3<=QM by omega) ?_
  refine⟨0,3,rfl,rfl,⟨qd,qd⟩,λy _=>?_⟩;refine dg (λ_=>?_) (λ_=>?_)
  ·exact⟨.inl rfl,_,rfl,⟨⟨_,_,[],⟨rfl,_,⟨_,_,_,_,_,_,_,_,_,_,_,_,_⟩,_,_,_,rfl,(AI _),(AH O qd),.zero _⟩,rfl,trivial,rfl,rfl,trivial⟩,(show q+3<=q+2000 by omega),0,rfl⟩,rfl⟩
  ·exact⟨.inl rfl,_,rfl,⟨⟨_,_,[],⟨rfl,_,⟨_,_,_,_,_,_,_,_,_,_,_,_,_⟩,_,_,_,rfl,(AI _),(AH O qd),.zero _⟩,rfl,trivial,rfl,rfl,trivial⟩,(show q+3<=q+2000 by omega),0,rfl⟩,rfl⟩
 clear h;refine dg (λ_=>?_) (λh=>?_)
 ·refine dg (show q+4<=QM by omega) ?_
  refine⟨0,3,rfl,rfl,⟨qd,qd⟩,λx hx=>?_⟩;have H:=hx.2.1 qd;refine dg hx.1 (dg H (dg AG (dg (Dg hx 3 rfl qd) (λel J=>?_))));have h3:∃s:ByteArray,el=[Sg s]/\s.size<=10:=Tu (str3 (a:=⟨#[100,98]⟩) (b:=⟨#[119,101,98]⟩) (c:=⟨#[120,45,49]⟩) qd qd qd) J;clear J;obtain⟨nm,rfl,ae⟩:=h3;refine⟨0,60,rfl,rfl,⟨qd,qd⟩,λy hy=>?_⟩;exact⟨.inl rfl,_,rfl,⟨⟨_,_,[],⟨rfl,_,⟨_,_,_,_,_,_,_,_,_,_,_,_,_⟩,_,_,_,rfl,(AI _),(AH ae qd),.pk hy qd qd⟩,rfl,trivial,rfl,rfl,trivial⟩,(show q+4<=q+2000 by omega),0,rfl⟩,rfl⟩
 refine dg (λ_=>?_) (λ_=>?_)
 ·refine dg (show q+4<=QM by omega) ?_
  refine⟨0,3,rfl,rfl,⟨qd,qd⟩,λx hx=>?_⟩;have H:=hx.2.1 qd;refine dg hx.1 (dg H (dg AG (dg (Dg hx 3 rfl qd) (λel J=>?_))));have h3:∃s:ByteArray,el=[Sg s]/\s.size<=10:=Tu (str3 (a:=⟨#[100,98]⟩) (b:=⟨#[119,101,98]⟩) (c:=⟨#[120,45,49]⟩) qd qd qd) J;clear J;obtain⟨nm,rfl,ae⟩:=h3;refine⟨0,60,rfl,rfl,⟨qd,qd⟩,λy hy=>?_⟩;exact⟨.inl rfl,_,rfl,⟨⟨_,_,[],⟨rfl,_,⟨_,_,_,_,_,_,_,_,_,_,_,_,_⟩,_,_,_,rfl,(AI _),(AH ae qd),.pk hy qd qd⟩,rfl,trivial,rfl,rfl,trivial⟩,(show q+4<=q+2000 by omega),0,rfl⟩,rfl⟩
 clear h;refine dg (show q+2+1<=QM by omega) ?_;refine dg (λhl=>?_) (λhl=>?_)
 ·refine⟨0,8,rfl,rfl,⟨qd,qd⟩,λy1 _=>?_⟩
  refine dg (λ_=>?_) (λ_=>?_)
  ·refine dg (show q+2+1+1<=QM by omega) ?_
   have hl:(0:Int)<B.ar.length:=hl;refine⟨0,(B.ar.length:Int),rfl,rfl,⟨qo,qo⟩,λx hx=>?_⟩;have H:=hx.2.1 qo;refine dg hx.1 (dg H (dg AG (λc Z=>?_)));exact⟨.inl rfl,_,rfl,⟨⟨_,_,[],⟨rfl,_,⟨_,_,_,_,_,_,_,_,_,_,_,_,_⟩,_,_,_,rfl,(AI _),(W c (AE Z)),.inr ⟨c,AE Z,rfl⟩⟩,rfl,trivial,rfl,rfl,trivial⟩,(show q+2+1+1<=q+2000 by omega),0,rfl⟩,rfl⟩
  ·refine dg (show q+2+1+1<=QM by omega) ?_
   refine⟨0,6,rfl,rfl,⟨qd,qd⟩,λy2 F=>?_⟩;refine λz hz=>?_
   exact⟨.inl rfl,_,rfl,⟨⟨_,_,[],⟨rfl,_,⟨_,_,_,_,_,_,_,_,_,_,_,_,_⟩,⟨#[119,101,98]⟩,_,_,rfl,(AI _),M,.pk1 F qd qd (hz (by have:=F.1;have:=F.2.1 qd;exact⟨qo,qo⟩))⟩,rfl,trivial,rfl,rfl,trivial⟩,(show q+2+1+1<=q+2000 by omega),0,rfl⟩,rfl⟩
 ·refine dg (show q+2+1+1<=QM by omega) ?_
  refine⟨0,6,rfl,rfl,⟨qd,qd⟩,λy2 F=>?_⟩;refine λz hz=>?_
  exact⟨.inl rfl,_,rfl,⟨⟨_,_,[],⟨rfl,_,⟨_,_,_,_,_,_,_,_,_,_,_,_,_⟩,⟨#[119,101,98]⟩,_,_,rfl,(AI _),M,.pk1 F qd qd (hz (by have:=F.1;have:=F.2.1 qd;exact⟨qo,qo⟩))⟩,rfl,trivial,rfl,rfl,trivial⟩,(show q+2+1+1<=q+2000 by omega),0,rfl⟩,rfl⟩
theorem Fz{L:List Int}{n:Nat}{el:qL}(h:(L.map λx=>[Value.int .i64 x])[n]?=some el):∃x:Int,el=[In i6 x]:=by
 rw[ej]at h
 cases hx:L[n]? with
 |none=>rw[hx]at h;cases h
 |some x=>rw[hx]at h;cases h;exact⟨x,rfl⟩
theorem Tt{L:List ByteArray}{n:Nat}{el:qL}(h:(L.map λx=>[Value.string x])[n]?=some el):∃x∈L,el=[Sg x]:=by
 rw[ej]at h
 cases hx:L[n]? with
 |none=>rw[hx]at h;cases h
 |some x=>rw[hx]at h;cases h;exact⟨x,AE hx,rfl⟩
theorem O8{L:List ByteArray}{s:qB}(h:s∈L)(hL:L.all (λx=>Nat.ble x.size maxLen)=true):s.size<=maxLen:=AD (dt.1 hL s h)
theorem okSp.av{B:Bk}(h:okSp B)(n:Int):okSp ⟨n,B.ah,B.ar,B.aw⟩:=h
theorem okSp.bH{B:Bk}(h:okSp B)(n:Nat)(s:Svc)(F:s.name.size<=maxLen):okSp ⟨B.av,B.ah.set n s,B.ar,B.aw⟩:=⟨⟨by show(B.ah.set n s).length<=1000;rw[dC];exact h.1.1,h.1.2⟩,λd z=>(eU z).elim (h.2.1 d) (λe=>by rw[e];exact F),h.2.2⟩
theorem okSp.cp{B:Bk}(h:okSp B)(n:Nat)(s:Cp)(F:s.aa.size<=maxLen/\s.aC.size<=maxLen):okSp ⟨B.av,B.ah,B.ar.set n s,B.aw⟩:=⟨⟨h.1.1,by show(B.ar.set n s).length<=1000;rw[dC];exact h.1.2.1,h.1.2.2⟩,h.2.1,λd z=>(eU z).elim (h.2.2.1 d) (λe=>by rw[e];exact F),h.2.2.2⟩
def Tw(v:Value)(es:AW):Prop:=(v=.agg #[In i6 (-1),Sl none 0 0,Sl none 0 0,Sl none 0 0]/\es=[])\/∃(B:Bk) (n1 n2 n3 k1 k2 k3:Nat),okSp B/\(n1=B.ah.length/\n2=B.ar.length/\n3=B.aw.length)/\v=.agg #[In i6 B.av,.iface 0 (Sl none n1 k1),.iface 1 (Sl none n2 k2),.iface 2 (Sl none n3 k3)]/\es=[(0,At 34 13 k1 svL B.ah),(1,At 76 7 k2 cpL B.ar),(2,At 90 2 k3 btL B.aw)]
theorem BQ{i1 i2 i3 n1 n2 n3 k1 k2 k3 q:Nat}{m:AW}{b1 z F:VB}(B:Bk)(J:okSp B)(l1:lk m i1=some b1)(W:LeB [(0,i1),(1,i2),(2,i3)] b1 (At 34 13 k1 svL B.ah))(l2:lk m i2=some z)(Y:LeB [(0,i1),(1,i2),(2,i3)] z (At 76 7 k2 cpL B.ar))(l3:lk m i3=some F)(Z:LeB [(0,i1),(1,i2),(2,i3)] F (At 90 2 k3 btL B.aw))(M:n1=B.ah.length)(O:n2=B.ar.length)(e3:n3=B.aw.length)(H:VY [(0,i1),(1,i2),(2,i3)] [0,1,2]=true):
  Dm Tw (.agg #[In i6 B.av,.iface i1 (Sl none n1 k1),.iface i2 (Sl none n2 k2),.iface i3 (Sl none n3 k3)]) m q:=
 ⟨.agg #[In i6 B.av,.iface 0 (Sl none n1 k1),.iface 1 (Sl none n2 k2),.iface 2 (Sl none n3 k3)],[(0,At 34 13 k1 svL B.ah),(1,At 76 7 k2 cpL B.ar),(2,At 90 2 k3 btL B.aw)],[(0,i1),(1,i2),(2,i3)],.inr ⟨B,n1,n2,n3,k1,k2,k3,J,⟨M,O,e3⟩,rfl,rfl⟩,rfl,⟨⟨b1,l1,W⟩,⟨z,l2,Y⟩,⟨F,l3,Z⟩,trivial⟩,(by rw[di];exact⟨H,rfl⟩),rfl,⟨λ_ _=>trivial,λ_ _=>trivial,λ_ _=>trivial,trivial⟩⟩
abbrev ctSpoil:Ct:=ctV (λp:BP=>[.complex .f64 0 0,p.v1]) (λp=>p.m1) (λp=>okDr p.B) λ_=>Tw
theorem spoil_ct(r:Nat):CH Tryz.prog (RDr r) 120 10 ctSpoil:=by
 refine NE (Ρ:=[]) (Aa (M3 r) (f:=62) qk (Uj (Sc r))) (Ji r) 10 qd Tryz.func120 qk (.nil _) qk (λ_=>rfl) (λp p' h hm=>BP.cV (gm (gm h).2).1 hm) ?_;rintro⟨B,c1,c2,c3⟩ q ⟨ax,O,af,al⟩ hq;have aN:B.ah.length<=999:=ax.1;have aO:B.ar.length<=999:=ax.2.1;have aS:B.aw.length<=999:=ax.2.2;have O:∀s∈B.ah,s.name.size<=maxLen:=O;have af:∀c∈B.ar,c.aa.size<=maxLen/\c.aC.size<=maxLen:=af;have al:∀b∈B.aw,b.name.size<=maxLen:=al;have H:okSp B:=⟨⟨qo,qo,qo⟩,O,af,al⟩;refine⟨⟨B,c1,c2,c3⟩,rfl,H.1,?_⟩;rintro _ _ ⟨k1,k2,k3,rfl,rfl⟩;refine dg (show q+1<=QM by omega) ⟨0,(B.ah.length:Int),rfl,rfl,⟨qo,qo⟩,λx1 aB=>?_⟩;refine dg (show q+2<=QM by omega) ⟨0,(B.ar.length:Int),rfl,rfl,⟨qo,qo⟩,λx2 aD=>?_⟩;refine dg (λ_=>?_) (λaq=>?_)
 ·exact⟨.inl rfl,_,rfl,⟨⟨_,_,[],.inl ⟨rfl,rfl⟩,rfl,trivial,rfl,rfl,trivial⟩,(show q+2<=q+10 by omega),0,rfl⟩,rfl⟩
 refine dg (λ_=>?_) (λaw=>?_)
 ·exact⟨.inl rfl,_,rfl,⟨⟨_,_,[],.inl ⟨rfl,rfl⟩,rfl,trivial,rfl,rfl,trivial⟩,(show q+2<=q+10 by omega),0,rfl⟩,rfl⟩
 have aq:¬(B.ah.length:Int)=0:=aq;have aw:¬(B.ar.length:Int)=0:=aw;have s0:=aB.1;have s1:x1<B.ah.length:=aB.2.1 qo;have t0:=aD.1;have t1:x2<B.ar.length:=aD.2.1 qo;obtain⟨sv,J⟩:∃sv,B.ah[x1.toNat]?=some sv:=⟨B.ah[x1.toNat]' qo,qs⟩;obtain⟨cp,Y⟩:∃cp,B.ar[x2.toNat]?=some cp:=⟨B.ar[x2.toNat]' qo,qs⟩;clear aq aw aB aD;refine dg (show q+3<=QM by omega) ⟨0,20,rfl,rfl,⟨qd,qd⟩,λu _=>?_⟩;refine dg (λ_=>?_) (λh=>?_)
 ·refine dg (show q+4<=QM by omega) ?_
  refine⟨0,5,rfl,rfl,⟨qd,qd⟩,λy F=>?_⟩;refine dg F.1 (dg (F.2.1 qd) (dg AG (dg (Dg F 5 rfl qd) (λel z=>?_))));have M:∃n:Int,el=[In i6 n]:=Fz (L:=[-1,0,1,1000000,1000001]) z;clear z;obtain⟨Z,rfl⟩:=M;exact⟨.inl rfl,_,rfl,⟨BQ (i1:=88) (i2:=89) (i3:=90) ⟨Z,B.ah,B.ar,B.aw⟩ (H.av _) rfl (.same _ _ rfl) rfl (.same _ _ rfl) rfl (.same _ _ rfl) rfl rfl rfl rfl,(show q+4<=q+10 by omega),0,rfl⟩,rfl⟩
 clear h;refine dg (λ_=>?_) (λh=>?_)
 ·refine dg (show q+4<=QM by omega) ?_
  refine⟨0,3,rfl,rfl,⟨qd,qd⟩,λy F=>?_⟩;refine dg F.1 (dg (F.2.1 qd) (dg AG (dg (Dg F 3 rfl qd) (λel z=>?_))));have M:∃s∈[(⟨#[]⟩:qB),(⟨#[88]⟩:qB),(⟨#[122,122]⟩:qB)],el=[Sg s]:=Tt (L:=[⟨#[]⟩,⟨#[88]⟩,⟨#[122,122]⟩]) z;clear z;obtain⟨nm,W,rfl⟩:=M;have W:nm.size<=maxLen:=O8 W qd;refine dg s0 (dg s1 (dg AG (dg (show x1.toNat<B.ah.length by omega) (dg (λ_ _ _=>trivial) ?_))));exact⟨.inl rfl,_,rfl,⟨BQ (i1:=88) (i2:=89) (i3:=90) ⟨B.av,B.ah.set x1.toNat {sv with name:=nm},B.ar,B.aw⟩ (H.bH _ _ (W)) rfl (BZ (.same _ _ rfl) J rfl) rfl (.same _ _ rfl) rfl (.same _ _ rfl) dC.symm rfl rfl rfl,(show q+4<=q+10 by omega),0,rfl⟩,rfl⟩
 clear h;refine dg (λ_=>?_) (λh=>?_)
 ·refine dg (show q+4<=QM by omega) ?_
  refine λn1 _=>?_
  refine⟨0,3,rfl,rfl,⟨qd,qd⟩,λy F=>?_⟩;refine dg F.1 (dg (F.2.1 qd) (dg AG (dg (Dg F 3 rfl qd) (λel z=>?_))));have M:∃n:Int,el=[In i6 n]:=Fz (L:=[0,B.av,n1]) z;clear z;obtain⟨Z,rfl⟩:=M;refine dg s0 (dg s1 (dg AG (dg (show x1.toNat<B.ah.length by omega) (dg (λ_ _ _=>trivial) ?_))));exact⟨.inl rfl,_,rfl,⟨BQ (i1:=88) (i2:=89) (i3:=90) ⟨B.av,B.ah.set x1.toNat {sv with ag:=Z},B.ar,B.aw⟩ (H.bH _ _ (O sv (AE J))) rfl (BZ (.same _ _ rfl) J rfl) rfl (.same _ _ rfl) rfl (.same _ _ rfl) dC.symm rfl rfl rfl,(show q+4<=q+10 by omega),0,rfl⟩,rfl⟩
 clear h;refine dg (λ_=>?_) (λh=>?_)
 ·refine dg (show q+4<=QM by omega) ?_
  refine⟨0,3,rfl,rfl,⟨qd,qd⟩,λy F=>?_⟩;refine dg F.1 (dg (F.2.1 qd) (dg AG (dg (Dg F 3 rfl qd) (λel z=>?_))));have M:∃n:Int,el=[In i6 n]:=Fz (L:=[0,1000000,1000001]) z;clear z;obtain⟨Z,rfl⟩:=M;refine dg s0 (dg s1 (dg AG (dg (show x1.toNat<B.ah.length by omega) (dg (λ_ _ _=>trivial) ?_))));exact⟨.inl rfl,_,rfl,⟨BQ (i1:=88) (i2:=89) (i3:=90) ⟨B.av,B.ah.set x1.toNat {sv with aj:=Z},B.ar,B.aw⟩ (H.bH _ _ (O sv (AE J))) rfl (BZ (.same _ _ rfl) J rfl) rfl (.same _ _ rfl) rfl (.same _ _ rfl) dC.symm rfl rfl rfl,(show q+4<=q+10 by omega),0,rfl⟩,rfl⟩
 clear h;refine dg (λ_=>?_) (λh=>?_)
 ·refine dg (show q+4<=QM by omega) ?_
  refine⟨0,3,rfl,rfl,⟨qd,qd⟩,λy F=>?_⟩;refine dg F.1 (dg (F.2.1 qd) (dg AG (dg (Dg F 3 rfl qd) (λel z=>?_))));have M:∃n:Int,el=[In i6 n]:=Fz (L:=[-1,10,11]) z;clear z;obtain⟨Z,rfl⟩:=M;refine dg s0 (dg s1 (dg AG (dg (show x1.toNat<B.ah.length by omega) (dg (λ_ _ _=>trivial) ?_))));exact⟨.inl rfl,_,rfl,⟨BQ (i1:=88) (i2:=89) (i3:=90) ⟨B.av,B.ah.set x1.toNat {sv with au:=Z},B.ar,B.aw⟩ (H.bH _ _ (O sv (AE J))) rfl (BZ (.same _ _ rfl) J rfl) rfl (.same _ _ rfl) rfl (.same _ _ rfl) dC.symm rfl rfl rfl,(show q+4<=q+10 by omega),0,rfl⟩,rfl⟩
 clear h;refine dg (λ_=>?_) (λh=>?_)
 ·refine dg (show q+4<=QM by omega) ?_
  refine⟨0,3,rfl,rfl,⟨qd,qd⟩,λy F=>?_⟩;refine dg F.1 (dg (F.2.1 qd) (dg AG (dg (Dg F 3 rfl qd) (λel z=>?_))));have M:∃n:Int,el=[In i6 n]:=Fz (L:=[-1,10,11]) z;clear z;obtain⟨Z,rfl⟩:=M;refine dg s0 (dg s1 (dg AG (dg (show x1.toNat<B.ah.length by omega) (dg (λ_ _ _=>trivial) ?_))));exact⟨.inl rfl,_,rfl,⟨BQ (i1:=88) (i2:=89) (i3:=90) ⟨B.av,B.ah.set x1.toNat {sv with aK:=Z},B.ar,B.aw⟩ (H.bH _ _ (O sv (AE J))) rfl (BZ (.same _ _ rfl) J rfl) rfl (.same _ _ rfl) rfl (.same _ _ rfl) dC.symm rfl rfl rfl,(show q+4<=q+10 by omega),0,rfl⟩,rfl⟩
 clear h;refine dg (λ_=>?_) (λh=>?_)
 ·refine dg s0 (dg s1 (dg AG (dg (show x1.toNat<B.ah.length by omega) (dg (λ_ _ _=>trivial) ?_))))
  refine dg (show q+4<=QM by omega) ?_;refine⟨0,3,rfl,rfl,⟨qd,qd⟩,λy F=>?_⟩;refine dg F.1 (dg (F.2.1 qd) (dg AG (dg (Dg F 3 rfl qd) (λel z=>?_))));have M:∃n:Int,el=[In i6 n]:=Fz (L:=[0,1,11]) z;clear z;obtain⟨Z,rfl⟩:=M;refine dg s0 (dg s1 (dg AG (dg (show x1.toNat<B.ah.length by omega) (dg (λ_ _ _=>trivial) ?_))));exact⟨.inl rfl,_,rfl,⟨BQ (i1:=88) (i2:=89) (i3:=90) ⟨B.av,(B.ah.set x1.toNat {sv with aK:=0}).set x1.toNat {sv with aK:=0,aG:=Z},B.ar,B.aw⟩ (okSp.bH (B:=⟨B.av,B.ah.set x1.toNat {sv with aK:=0},B.ar,B.aw⟩) (H.bH _ {sv with aK:=0} (O sv (AE J))) _ {sv with aK:=0,aG:=Z} (O sv (AE J))) rfl (BZ (BZ (.same _ _ rfl) J rfl) (x:={sv with aK:=0}) (by rw[fE,dv rfl,dv qo]) rfl) rfl (.same _ _ rfl) rfl (.same _ _ rfl) (by rw[dC,dC]) rfl rfl rfl,(show q+4<=q+10 by omega),0,rfl⟩,rfl⟩
 clear h;refine dg (λ_=>?_) (λh=>?_)
 ·refine dg (show q+4<=QM by omega) ?_
  refine⟨0,4,rfl,rfl,⟨qd,qd⟩,λy F=>?_⟩;refine dg F.1 (dg (F.2.1 qd) (dg AG (dg (Dg F 4 rfl qd) (λel z=>?_))));have M:∃n:Int,el=[In i6 n]:=Fz (L:=[0,1,1000000,1000001]) z;clear z;obtain⟨Z,rfl⟩:=M;refine dg s0 (dg s1 (dg AG (dg (show x1.toNat<B.ah.length by omega) (dg (λ_ _ _=>trivial) ?_))));exact⟨.inl rfl,_,rfl,⟨BQ (i1:=88) (i2:=89) (i3:=90) ⟨B.av,B.ah.set x1.toNat {sv with next:=Z},B.ar,B.aw⟩ (H.bH _ _ (O sv (AE J))) rfl (BZ (.same _ _ rfl) J rfl) rfl (.same _ _ rfl) rfl (.same _ _ rfl) dC.symm rfl rfl rfl,(show q+4<=q+10 by omega),0,rfl⟩,rfl⟩
 clear h;refine dg (λ_=>?_) (λh=>?_)
 ·refine dg (show q+4<=QM by omega) ?_
  refine⟨0,4,rfl,rfl,⟨qd,qd⟩,λy F=>?_⟩;refine dg F.1 (dg (F.2.1 qd) (dg AG (dg (Dg F 4 rfl qd) (λel z=>?_))));have M:∃n:Int,el=[In i6 n]:=Fz (L:=[-1,0,5,1000001]) z;clear z;obtain⟨Z,rfl⟩:=M;refine dg s0 (dg s1 (dg AG (dg (show x1.toNat<B.ah.length by omega) (dg (λ_ _ _=>trivial) ?_))));exact⟨.inl rfl,_,rfl,⟨BQ (i1:=88) (i2:=89) (i3:=90) ⟨B.av,B.ah.set x1.toNat {sv with aQ:=Z},B.ar,B.aw⟩ (H.bH _ _ (O sv (AE J))) rfl (BZ (.same _ _ rfl) J rfl) rfl (.same _ _ rfl) rfl (.same _ _ rfl) dC.symm rfl rfl rfl,(show q+4<=q+10 by omega),0,rfl⟩,rfl⟩
 clear h;refine dg (λ_=>?_) (λh=>?_)
 ·refine dg (show q+4<=QM by omega) ?_
  refine⟨0,3,rfl,rfl,⟨qd,qd⟩,λy F=>?_⟩;refine dg F.1 (dg (F.2.1 qd) (dg AG (dg (Dg F 3 rfl qd) (λel z=>?_))));have M:∃n:Int,el=[In i6 n]:=Fz (L:=[-1,1,11]) z;clear z;obtain⟨Z,rfl⟩:=M;refine dg s0 (dg s1 (dg AG (dg (show x1.toNat<B.ah.length by omega) (dg (λ_ _ _=>trivial) ?_))));exact⟨.inl rfl,_,rfl,⟨BQ (i1:=88) (i2:=89) (i3:=90) ⟨B.av,B.ah.set x1.toNat {sv with az:=Z},B.ar,B.aw⟩ (H.bH _ _ (O sv (AE J))) rfl (BZ (.same _ _ rfl) J rfl) rfl (.same _ _ rfl) rfl (.same _ _ rfl) dC.symm rfl rfl rfl,(show q+4<=q+10 by omega),0,rfl⟩,rfl⟩
 clear h;refine dg (λ_=>?_) (λh=>?_)
 ·refine dg (show q+4<=QM by omega) ?_
  refine⟨0,4,rfl,rfl,⟨qd,qd⟩,λy F=>?_⟩;refine dg F.1 (dg (F.2.1 qd) (dg AG (dg (Dg F 4 rfl qd) (λel z=>?_))));have M:∃n:Int,el=[In i6 n]:=Fz (L:=[-1,1,3,4]) z;clear z;obtain⟨Z,rfl⟩:=M;refine dg s0 (dg s1 (dg AG (dg (show x1.toNat<B.ah.length by omega) (dg (λ_ _ _=>trivial) ?_))));exact⟨.inl rfl,_,rfl,⟨BQ (i1:=88) (i2:=89) (i3:=90) ⟨B.av,B.ah.set x1.toNat {sv with aA:=Z},B.ar,B.aw⟩ (H.bH _ _ (O sv (AE J))) rfl (BZ (.same _ _ rfl) J rfl) rfl (.same _ _ rfl) rfl (.same _ _ rfl) dC.symm rfl rfl rfl,(show q+4<=q+10 by omega),0,rfl⟩,rfl⟩
 clear h;refine dg (λ_=>?_) (λh=>?_)
 ·refine dg (show q+4<=QM by omega) ?_
  refine⟨0,3,rfl,rfl,⟨qd,qd⟩,λy F=>?_⟩;refine dg F.1 (dg (F.2.1 qd) (dg AG (dg (Dg F 3 rfl qd) (λel z=>?_))));have M:∃n:Int,el=[In i6 n]:=Fz (L:=[-1,1,1000001]) z;clear z;obtain⟨Z,rfl⟩:=M;refine dg s0 (dg s1 (dg AG (dg (show x1.toNat<B.ah.length by omega) (dg (λ_ _ _=>trivial) ?_))));exact⟨.inl rfl,_,rfl,⟨BQ (i1:=88) (i2:=89) (i3:=90) ⟨B.av,B.ah.set x1.toNat {sv with load:=Z},B.ar,B.aw⟩ (H.bH _ _ (O sv (AE J))) rfl (BZ (.same _ _ rfl) J rfl) rfl (.same _ _ rfl) rfl (.same _ _ rfl) dC.symm rfl rfl rfl,(show q+4<=q+10 by omega),0,rfl⟩,rfl⟩
 clear h;refine dg (λ_=>?_) (λh=>?_)
 ·refine dg (show q+4<=QM by omega) ?_
  refine⟨0,2,rfl,rfl,⟨qd,qd⟩,λy F=>?_⟩;refine dg F.1 (dg (F.2.1 qd) (dg AG (dg (Dg F 2 rfl qd) (λel z=>?_))));have M:∃s∈[(⟨#[110,111,110,101]⟩:qB),(⟨#[]⟩:qB)],el=[Sg s]:=Tt (L:=[⟨#[110,111,110,101]⟩,⟨#[]⟩]) z;clear z;obtain⟨nm,W,rfl⟩:=M;have W:nm.size<=maxLen:=O8 W qd;refine dg t0 (dg t1 (dg AG (dg (show x2.toNat<B.ar.length by omega) (dg (λ_ _ _=>trivial) ?_))));exact⟨.inl rfl,_,rfl,⟨BQ (i1:=88) (i2:=89) (i3:=90) ⟨B.av,B.ah,B.ar.set x2.toNat {cp with aa:=nm},B.aw⟩ (H.cp _ _ (⟨W,(af cp (AE Y)).2⟩)) rfl (.same _ _ rfl) rfl (BZ (.same _ _ rfl) Y rfl) rfl (.same _ _ rfl) rfl dC.symm rfl rfl,(show q+4<=q+10 by omega),0,rfl⟩,rfl⟩
 clear h;refine dg (λ_=>?_) (λh=>?_)
 ·refine dg (show q+4<=QM by omega) ?_
  refine⟨0,2,rfl,rfl,⟨qd,qd⟩,λy F=>?_⟩;refine dg F.1 (dg (F.2.1 qd) (dg AG (dg (Dg F 2 rfl qd) (λel z=>?_))));have M:∃n:Int,el=[In i6 n]:=Fz (L:=[0,999]) z;clear z;obtain⟨Z,rfl⟩:=M;refine dg t0 (dg t1 (dg AG (dg (show x2.toNat<B.ar.length by omega) (dg (λ_ _ _=>trivial) ?_))));exact⟨.inl rfl,_,rfl,⟨BQ (i1:=88) (i2:=89) (i3:=90) ⟨B.av,B.ah,B.ar.set x2.toNat {cp with ak:=Z},B.aw⟩ (H.cp _ _ (af cp (AE Y))) rfl (.same _ _ rfl) rfl (BZ (.same _ _ rfl) Y rfl) rfl (.same _ _ rfl) rfl dC.symm rfl rfl,(show q+4<=q+10 by omega),0,rfl⟩,rfl⟩
 clear h;refine dg (λ_=>?_) (λh=>?_)
 ·refine dg (show q+4<=QM by omega) ?_
  refine⟨0,4,rfl,rfl,⟨qd,qd⟩,λy F=>?_⟩;refine dg F.1 (dg (F.2.1 qd) (dg AG (dg (Dg F 4 rfl qd) (λel z=>?_))));have M:∃n:Int,el=[In i6 n]:=Fz (L:=[0,1,3,5]) z;clear z;obtain⟨Z,rfl⟩:=M;refine dg t0 (dg t1 (dg AG (dg (show x2.toNat<B.ar.length by omega) (dg (λ_ _ _=>trivial) ?_))));exact⟨.inl rfl,_,rfl,⟨BQ (i1:=88) (i2:=89) (i3:=90) ⟨B.av,B.ah,B.ar.set x2.toNat {cp with ay:=Z},B.aw⟩ (H.cp _ _ (af cp (AE Y))) rfl (.same _ _ rfl) rfl (BZ (.same _ _ rfl) Y rfl) rfl (.same _ _ rfl) rfl dC.symm rfl rfl,(show q+4<=q+10 by omega),0,rfl⟩,rfl⟩
 clear h;refine dg (λ_=>?_) (λh=>?_)
 ·refine dg (show q+4<=QM by omega) ?_
  refine⟨0,3,rfl,rfl,⟨qd,qd⟩,λy F=>?_⟩;refine dg F.1 (dg (F.2.1 qd) (dg AG (dg (Dg F 3 rfl qd) (λel z=>?_))));have M:∃s∈[(⟨#[]⟩:qB),(⟨#[97]⟩:qB),(⟨#[110,111,110,101]⟩:qB)],el=[Sg s]:=Tt (L:=[⟨#[]⟩,⟨#[97]⟩,⟨#[110,111,110,101]⟩]) z;clear z;obtain⟨nm,W,rfl⟩:=M;have W:nm.size<=maxLen:=O8 W qd;refine dg t0 (dg t1 (dg AG (dg (show x2.toNat<B.ar.length by omega) (dg (λ_ _ _=>trivial) ?_))));exact⟨.inl rfl,_,rfl,⟨BQ (i1:=88) (i2:=89) (i3:=90) ⟨B.av,B.ah,B.ar.set x2.toNat {cp with aC:=nm},B.aw⟩ (H.cp _ _ (⟨(af cp (AE Y)).1,W⟩)) rfl (.same _ _ rfl) rfl (BZ (.same _ _ rfl) Y rfl) rfl (.same _ _ rfl) rfl dC.symm rfl rfl,(show q+4<=q+10 by omega),0,rfl⟩,rfl⟩
 clear h;refine dg (λ_=>?_) (λh=>?_)
 ·refine dg t0 (dg t1 (dg AG (dg (show x2.toNat<B.ar.length by omega) (λc9 aF=>?_))))
  refine dg rfl (dg rfl (dg AG (dg (show B.ar.length+1<=1000000000 by omega) (λc'=>?_))));exact⟨.inl rfl,_,rfl,⟨BQ (i1:=88) (i3:=90) ⟨B.av,B.ah,B.ar++[c9],B.aw⟩ (⟨⟨H.1.1,qp,H.1.2.2⟩,O,(λd hd=>(dO.1 hd).elim (af d) (λh=>by rw[dl.1 h];exact af c9 (AE aF))),al⟩) rfl (.same _ _ rfl) rfl (Ee (f:=cpL) B.ar c9) rfl (.same _ _ rfl) rfl qs rfl rfl,(show q+3<=q+10 by omega),0,rfl⟩,rfl⟩
 clear h;refine dg (λ_=>?_) (λh=>?_)
 ·refine dg (show q+4<=QM by omega) ?_
  refine⟨0,3,rfl,rfl,⟨qd,qd⟩,λy F=>?_⟩;refine dg F.1 (dg (F.2.1 qd) (dg AG (dg (Dg F 3 rfl qd) (λel z=>?_))));have M:∃s∈[(⟨#[]⟩:qB),(⟨#[122]⟩:qB),(⟨#[97]⟩:qB)],el=[Sg s]:=Tt (L:=[⟨#[]⟩,⟨#[122]⟩,⟨#[97]⟩]) z;clear z;obtain⟨nm,W,rfl⟩:=M;have W:nm.size<=maxLen:=O8 W qd;refine dg rfl (dg rfl (dg AG (dg (show B.aw.length+1<=1000000000 by omega) (λc'=>?_))));exact⟨.inl rfl,_,rfl,⟨BQ (i1:=88) (i2:=89) ⟨B.av,B.ah,B.ar,B.aw++[⟨nm,false⟩]⟩ (⟨⟨H.1.1,H.1.2.1,qp⟩,O,af,(λd hd=>(dO.1 hd).elim (al d) (λh=>by rw[dl.1 h];exact W))⟩) rfl (.same _ _ rfl) rfl (.same _ _ rfl) rfl (Ee (f:=btL) B.aw ⟨nm,false⟩) rfl rfl qs rfl,(show q+4<=q+10 by omega),0,rfl⟩,rfl⟩
 clear h;refine dg (λ_=>?_) (λh=>?_)
 ·refine dg (show q+4<=QM by omega) ?_
  refine λn1 _=>?_
  refine⟨0,2,rfl,rfl,⟨qd,qd⟩,λy F=>?_⟩;refine dg F.1 (dg (F.2.1 qd) (dg AG (dg (Dg F 2 rfl qd) (λel z=>?_))));have M:∃n:Int,el=[In i6 n]:=Fz (L:=[0,n1]) z;clear z;obtain⟨Z,rfl⟩:=M;refine dg t0 (dg t1 (dg AG (dg (show x2.toNat<B.ar.length by omega) (dg (λ_ _ _=>trivial) ?_))));exact⟨.inl rfl,_,rfl,⟨BQ (i1:=88) (i2:=89) (i3:=90) ⟨B.av,B.ah,B.ar.set x2.toNat {cp with ag:=Z},B.aw⟩ (H.cp _ _ (af cp (AE Y))) rfl (.same _ _ rfl) rfl (BZ (.same _ _ rfl) Y rfl) rfl (.same _ _ rfl) rfl dC.symm rfl rfl,(show q+4<=q+10 by omega),0,rfl⟩,rfl⟩
 clear h;refine dg t0 (dg t1 (dg AG (dg (show x2.toNat<B.ar.length by omega) (λc9 aF=>?_))));refine dg (λ_=>?_) (λ_=>?_)
 ·refine dg t0 (dg t1 (dg AG (dg (show x2.toNat<B.ar.length by omega) (dg (λ_ _ _=>trivial) ?_))))
  exact⟨.inl rfl,_,rfl,⟨BQ (i1:=88) (i2:=89) (i3:=90) ⟨B.av,B.ah,B.ar.set x2.toNat {cp with am:=false},B.aw⟩ (H.cp _ _ (af cp (AE Y))) rfl (.same _ _ rfl) rfl (BZ (.same _ _ rfl) Y rfl) rfl (.same _ _ rfl) rfl dC.symm rfl rfl,(show q+3<=q+10 by omega),0,rfl⟩,rfl⟩
 ·refine dg t0 (dg t1 (dg AG (dg (show x2.toNat<B.ar.length by omega) (dg (λ_ _ _=>trivial) ?_))))
  exact⟨.inl rfl,_,rfl,⟨BQ (i1:=88) (i2:=89) (i3:=90) ⟨B.av,B.ah,B.ar.set x2.toNat {cp with am:=true},B.aw⟩ (H.cp _ _ (af cp (AE Y))) rfl (.same _ _ rfl) rfl (BZ (.same _ _ rfl) Y rfl) rfl (.same _ _ rfl) rfl dC.symm rfl rfl,(show q+3<=q+10 by omega),0,rfl⟩,rfl⟩
end
end Go.Proofs.YtbceafpodamnfaaGreatDoor
