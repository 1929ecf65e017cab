import Derived.Test.YtbceafpodamnfaaGreatDoorG22
set_option linter.all false
set_option maxHeartbeats 4000000
set_option maxRecDepth 100000
namespace Go.Proofs.YtbceafpodamnfaaGreatDoor
section
open Go.RowKit
open Go.Value renaming int->In,slice->Sl,string->Sg,bool->Bo,pointer->Po
open Go.IntKind renaming i64->i6
theorem P4{A:Ac}(h:A.aB=[]):A=⟨A.aa,A.aN,A.ax,A.au,A.aA,A.aJ,[],A.drop⟩:=by
  cases A;dsimp only at h;subst h;rfl
section
variable {RD:(Nat->Prop)->World->Nat->Nat->Prop}
abbrev TK:Ct:=ctV (λp:BP × Svc=>[p.1.v,GE p.2,ac0 p.2.name p.2.ag]) (λp=>p.1.m) (λp=>p.1.vd/\p.2∈p.1.B.ah) λp=>NY (Bp p.1.B p.2)
theorem Rm(hR:CR RD):CH Tryz.prog RD 138 0 TK:=by
  refine Da (Aa (Aa (Aa (Aa (BB hR) (f:=137) qk (Jw hR)) (f:=136) qk (QY hR)) (f:=215) qk (Oh hR)) (f:=123) qk (PU hR)) Tryz.func138 qk qk (λ_=>rfl) (λp p' h J=>?_) ?_
  · obtain⟨p,s⟩:=p
    obtain⟨p',s'⟩:=p';simp only[BP.m,bkM,dD,dR,fH,eo]at h J;rw[BP.inj h.1 J.1 J.2.1 J.2.2,Dl h.2.1]
  rintro⟨⟨B,c1,c2,c3⟩,s⟩ ⟨⟨ht,hV⟩,Z⟩;have hV:Valid B:=hV;have Z:s∈B.ah:=Z;have hS:=hV.bc Z;have p1:=hS.ba;have p2:=hS.bd;have p3:=hS.bm;have p4:=hS.bn;have hl:B.ar.length<=1000:=ht.2.1;refine⟨(⟨B,c1,c2,c3⟩,s.name),rfl,ht,?_⟩;rintro _ _ ⟨L,cL,rfl,rfl,hA⟩;have hA:AtP B L (Aq B s.name):=hA;have hL:=hA.len;have aC:=GU B s.name;have z:=hA.ar;obtain⟨l,an⟩:∃l,Aq B s.name=l:=⟨_,rfl⟩;have F:Bp B s=if(l.length:Int)<s.au then {a0 s with ax:=s.au - l.length} else if(s.au<(l.length:Int)/\(Ix B s\/s.au+s.aG<(l.length:Int)))/\El B s.name (Jp (BK B s.aj l))=true then {a0 s with aB:=BK B s.aj l} else a0 s:=by rw[<-an];rfl
  rw[an]at hA hL aC z;refine dg (λh=>?_) (λh=>?_)
  · have h:(L.length:Int)<s.au:=h
    refine λn W=>?_
    have W:n=s.au - L.length:=W (show inR (s.au - L.length) from⟨qo,qo⟩);subst W;exact⟨.inl rfl,_,rfl,GB (T:=Bp B s) (by rw[F,dv qo,hL];rfl),rfl⟩
  have h:¬(L.length:Int)<s.au:=h;rw[dk qo]at F;have none:¬(s.au<(l.length:Int)/\(Ix B s\/s.au+s.aG<(l.length:Int)))->∀m,Dm (NY (Bp B s)) (acV s.name s.ag 0 0 0 false (Sl none 0 0) false) m 0:=λW m=>GB (T:=Bp B s) (by rw[F,dk (λh=>W h.1)];rfl)
  refine⟨(⟨B,c1,c2,c3⟩,s,2),rfl,ht,?_⟩;rintro _ _ ⟨L2,aG,rfl,rfl,ag⟩;have ag:AtP B L2 (C8 B s 2):=ag;have aI:=ag.len;refine dg (λh2=>?_) (λh2=>?_)
  · have h2:(L2.length:Int)=0:=h2
    refine⟨(⟨B,c1,c2,c3⟩,s,6),rfl,ht,?_⟩;rintro _ _ ⟨L3,aH,rfl,rfl,ah⟩;have ah:AtP B L3 (C8 B s 6):=ah;have aJ:=ah.len;refine dg (λh3=>?_) (λh3=>?_)<;>refine dg (λY=>?_) (λY=>?_)
    · have Y:s.au<L.length:=Y
      have O:s.au<(l.length:Int)/\(Ix B s\/s.au+s.aG<(l.length:Int)):=⟨qo,.inl ⟨qo,by have:(L3.length:Int)=0:=h3;omega⟩⟩
      (refine⟨(⟨B,c1,c2,c3⟩,s,L,cL),rfl,⟨ht,show L.length<=1000 by omega,_,hA⟩,?_⟩
       rintro _ _ ⟨cp,rfl,rfl⟩;have hf:(BK B s.aj (CG B L)).length=1:=JP (by rw[z];intro h0;rw[h0,fc]at hL;omega);refine dg (ff 0) (dg (show(0:Int)<(BK B s.aj (CG B L)).length by omega) (dg AG (dg (show 0<(BK B s.aj (CG B L)).length by omega) (λe M=>?_))));have H:Jp (BK B s.aj l)=e.ak:=by rw[z]at M;cases hq:BK B s.aj l with|nil=>rw[hq]at M;cases M|cons e' q=>rw[hq]at M;cases M;rfl
       refine⟨(⟨B,c1,c2,c3⟩,s.name,e.ak),rfl,⟨ht,⟨s,Z,by unfold nmB;exact gl _⟩,λs Z=>hV.bc Z⟩,?_⟩;rintro v _ ⟨rfl,hv⟩;have hv:v=.bool (El B s.name e.ak):=hv
       cases J:El B s.name e.ak with
       |true=>
         rw[J]at hv;subst hv;exact⟨.inl rfl,_,rfl,IE (T:=Bp B s) (l:=BK B s.aj (CG B L)) (by rw[F,dv ⟨O,by rw[H,J]⟩,z];rfl) rfl (.same _ _ rfl),rfl⟩
       |false=>
         rw[J]at hv;subst hv
         exact⟨.inl rfl,_,rfl,GB (T:=Bp B s) (by rw[F,dk (λh=>by rw[H,J]at h;cases h.2)];rfl),rfl⟩)
    · exact⟨.inl rfl,_,rfl,none (λh=>Y (show s.au<L.length by have:=h.1;omega)) _,rfl⟩
    · have Y:s.au<L.length:=Y
      refine λn W=>?_
      have W:n=s.au+s.aG:=W (show inR (s.au+s.aG) from⟨qo,qo⟩);subst W;refine dg (λho=>?_) (λho=>?_)
      · have O:s.au<(l.length:Int)/\(Ix B s\/s.au+s.aG<(l.length:Int)):=⟨qo,.inr (by have:s.au+s.aG<(L.length:Int):=ho;omega)⟩
        (refine⟨(⟨B,c1,c2,c3⟩,s,L,cL),rfl,⟨ht,show L.length<=1000 by omega,_,hA⟩,?_⟩
         rintro _ _ ⟨cp,rfl,rfl⟩;have hf:(BK B s.aj (CG B L)).length=1:=JP (by rw[z];intro h0;rw[h0,fc]at hL;omega);refine dg (ff 0) (dg (show(0:Int)<(BK B s.aj (CG B L)).length by omega) (dg AG (dg (show 0<(BK B s.aj (CG B L)).length by omega) (λe M=>?_))));have H:Jp (BK B s.aj l)=e.ak:=by rw[z]at M;cases hq:BK B s.aj l with|nil=>rw[hq]at M;cases M|cons e' q=>rw[hq]at M;cases M;rfl
         refine⟨(⟨B,c1,c2,c3⟩,s.name,e.ak),rfl,⟨ht,⟨s,Z,by unfold nmB;exact gl _⟩,λs Z=>hV.bc Z⟩,?_⟩;rintro v _ ⟨rfl,hv⟩;have hv:v=.bool (El B s.name e.ak):=hv
         cases J:El B s.name e.ak with
         |true=>
           rw[J]at hv;subst hv;exact⟨.inl rfl,_,rfl,IE (T:=Bp B s) (l:=BK B s.aj (CG B L)) (by rw[F,dv ⟨O,by rw[H,J]⟩,z];rfl) rfl (.same _ _ rfl),rfl⟩
         |false=>
           rw[J]at hv;subst hv
           exact⟨.inl rfl,_,rfl,GB (T:=Bp B s) (by rw[F,dk (λh=>by rw[H,J]at h;cases h.2)];rfl),rfl⟩)
      · exact⟨.inl rfl,_,rfl,none (λh=>by rcases h.2 with h|h;exact h3 (show(L3.length:Int)=0 by have:=h.2;omega);exact ho (show s.au+s.aG<(L.length:Int) by omega)) _,rfl⟩
    · exact⟨.inl rfl,_,rfl,none (λh=>Y (show s.au<L.length by have:=h.1;omega)) _,rfl⟩
  · refine dg (λY=>?_) (λY=>?_)
    · have Y:s.au<L.length:=Y
      refine λn W=>?_
      have W:n=s.au+s.aG:=W (show inR (s.au+s.aG) from⟨qo,qo⟩);subst W;refine dg (λho=>?_) (λho=>?_)
      · have O:s.au<(l.length:Int)/\(Ix B s\/s.au+s.aG<(l.length:Int)):=⟨qo,.inr (by have:s.au+s.aG<(L.length:Int):=ho;omega)⟩
        (refine⟨(⟨B,c1,c2,c3⟩,s,L,cL),rfl,⟨ht,show L.length<=1000 by omega,_,hA⟩,?_⟩
         rintro _ _ ⟨cp,rfl,rfl⟩;have hf:(BK B s.aj (CG B L)).length=1:=JP (by rw[z];intro h0;rw[h0,fc]at hL;omega);refine dg (ff 0) (dg (show(0:Int)<(BK B s.aj (CG B L)).length by omega) (dg AG (dg (show 0<(BK B s.aj (CG B L)).length by omega) (λe M=>?_))));have H:Jp (BK B s.aj l)=e.ak:=by rw[z]at M;cases hq:BK B s.aj l with|nil=>rw[hq]at M;cases M|cons e' q=>rw[hq]at M;cases M;rfl
         refine⟨(⟨B,c1,c2,c3⟩,s.name,e.ak),rfl,⟨ht,⟨s,Z,by unfold nmB;exact gl _⟩,λs Z=>hV.bc Z⟩,?_⟩;rintro v _ ⟨rfl,hv⟩;have hv:v=.bool (El B s.name e.ak):=hv
         cases J:El B s.name e.ak with
         |true=>
           rw[J]at hv;subst hv;exact⟨.inl rfl,_,rfl,IE (T:=Bp B s) (l:=BK B s.aj (CG B L)) (by rw[F,dv ⟨O,by rw[H,J]⟩,z];rfl) rfl (.same _ _ rfl),rfl⟩
         |false=>
           rw[J]at hv;subst hv
           exact⟨.inl rfl,_,rfl,GB (T:=Bp B s) (by rw[F,dk (λh=>by rw[H,J]at h;cases h.2)];rfl),rfl⟩)
      · exact⟨.inl rfl,_,rfl,none (λh=>by rcases h.2 with h|h;exact h2 (show(L2.length:Int)=0 by have:=h.1;omega);exact ho (show s.au+s.aG<(L.length:Int) by omega)) _,rfl⟩
    · exact⟨.inl rfl,_,rfl,none (λh=>Y (show s.au<L.length by have:=h.1;omega)) _,rfl⟩
abbrev ctActX:Ct:=ctV (λp:Int × BP × Svc=>[In i6 p.1,p.2.1.v,GE p.2.2]) (λp=>p.2.1.m) (λp=>p.2.1.vd/\p.2.2∈p.2.1.B.ah) λp=>NY (CK p.1 p.2.1.B p.2.2)
theorem actX_ct(W:CR RD):CH Tryz.prog RD 75 0 ctActX:=by
  refine Da (Aa (Aa (Aa (Aa (Aa (Aa (Aa (BB W) (f:=137) qk (Jw W)) (f:=136) qk (QY W)) (f:=135) qk (endsX_ct W)) (f:=103) qk (Kt W)) (f:=138) qk (Rm W)) (f:=139) qk (Qm W)) (f:=140) qk (SU W)) Tryz.func75 qk qk (λ_=>rfl) (λp p' h hm=>?_) ?_
  · obtain⟨k,p,s⟩:=p
    obtain⟨k',p',s'⟩:=p';simp only[BP.m,bkM,dD,dR,fH,eo,fB]at h hm;rw[h.1,BP.inj h.2.1 hm.1 hm.2.1 hm.2.2,Dl h.2.2]
  rintro⟨k,⟨B,c1,c2,c3⟩,s⟩ ⟨J,hs⟩;have hV:Valid B:=J.2;have hs:s∈B.ah:=hs;have hS:=hV.bc hs;have hl:B.ar.length<=1000:=J.1.2.1;have H:CK k B s=a0 s->∀m,Dm (NY (CK k B s)) (acV s.name s.ag 0 0 0 false (Sl none 0 0) false) m 0:=λh m=>GB (by rw[h];rfl)
  refine dg (λM=>?_) (λM=>?_)
  · have M:k=3:=M
    refine⟨(⟨B,c1,c2,c3⟩,s,k),rfl,J.1,?_⟩;rintro _ _ ⟨L,Y,rfl,rfl,F⟩;have F:AtP B L (C8 B s k):=F;have hL:=F.len;have ae:=MK B s k;refine⟨(⟨B,c1,c2,c3⟩,L,Y),rfl,⟨J.1,show L.length<=1000 by omega,_,F⟩,?_⟩;rintro _ _ ⟨cp,rfl,rfl⟩;exact⟨.inl rfl,_,rfl,IE (T:=CK k B s) (l:=(CG B L).map CV) (by unfold CK;rw[dv M,F.ar,M];rfl) rfl (.same _ _ rfl),rfl⟩
  have M:¬k=3:=M;refine dg (λO=>?_) (λO=>?_)
  · have O:s.aH=true:=O
    refine dg (λh5=>?_) (λh5=>?_)
    · have h5:k=5:=h5
      refine⟨(⟨B,c1,c2,c3⟩,s.name),rfl,J.1,?_⟩;rintro _ _ ⟨L,Y,rfl,rfl,F⟩;have F:AtP B L (Aq B s.name):=F;have hL:=F.len;have ae:=GU B s.name;refine⟨(⟨B,c1,c2,c3⟩,L,Y),rfl,⟨J.1,show L.length<=1000 by omega,_,F⟩,?_⟩;rintro _ _ ⟨cp,rfl,rfl⟩;refine⟨(⟨B,c1,c2,c3⟩,s.name),rfl,J.1,?_⟩;rintro _ _ ⟨rfl,rfl⟩;have ay:=GX B s.name;obtain⟨u1,u2,_,_,_,_,_,_,u9,aG⟩:=ay;refine λn hn=>?_
      have hn:n=(BG B s.name).aE+(BG B s.name).am:=hn ⟨by show _<=(BG B s.name).aE+(BG B s.name).am;omega,by show(BG B s.name).aE+(BG B s.name).am<=_;omega⟩;have z:∀d,((BG B s.name).aE+(BG B s.name).am==0)=d->CK k B s=⟨s.name,s.ag,0,0,0,false,(CG B L).map CV,d⟩:=λd hd=>by unfold CK;rw[dk M,dv O,dv h5,F.ar,hd];rfl
      refine dg (λh0=>?_) (λh0=>?_)
      · exact⟨.inl rfl,_,rfl,IE (T:=CK k B s) (l:=(CG B L).map CV) (z true (by rw[<-hn];simpa using h0)) rfl (.same _ _ rfl),rfl⟩
      · exact⟨.inl rfl,_,rfl,IE (T:=CK k B s) (l:=(CG B L).map CV) (z false (by rw[<-hn];simpa using h0)) rfl (.same _ _ rfl),rfl⟩
    · exact⟨.inl rfl,_,rfl,H (by unfold CK;rw[dk M,dv O,dk (show ¬k=5 from h5)]) _,rfl⟩
  have O:¬s.aH=true:=by have O:s.aH=false:=O;rw[O];decide
  have z:CK k B s=if k=1 then Bp B s else if k=2 then Bh B s (C8 B s 2) else if k=6 then(if(C8 B s 2).length=0 then Bh B s (C8 B s 6) else a0 s) else if k=4 then(if 0<s.aQ then Bf s (B6 s) else a0 s) else a0 s:=by unfold CK;rw[dk M,dk O]
  refine dg (λh1=>?_) (λh1=>?_)
  · rw[dv (show k=1 from h1)]at z
    refine⟨(⟨B,c1,c2,c3⟩,s),rfl,⟨J,hs⟩,?_⟩;rintro _ _ (⟨hE,rfl,rfl⟩|⟨cp,rfl,rfl⟩)
    · exact⟨.inl rfl,_,rfl,GB (T:=CK k B s) (by rw[z];exact P4 hE),rfl⟩
    · exact⟨.inl rfl,_,rfl,IE (T:=CK k B s) (l:=(Bp B s).aB) (by rw[z]) rfl (.same _ _ rfl),rfl⟩
  rw[dk (show ¬k=1 from h1)]at z;refine dg (λh2=>?_) (λh2=>?_)
  · have h2:k=2:=h2
    rw[dv h2]at z;refine⟨(⟨B,c1,c2,c3⟩,s,k),rfl,J.1,?_⟩;rintro _ _ ⟨L,Y,rfl,rfl,F⟩;have F:AtP B L (C8 B s k):=F;have hL:=F.len;have ae:=MK B s k;refine⟨(⟨B,c1,c2,c3⟩,s,L,Y),rfl,⟨J,hS,show L.length<=1000 by omega,_,F⟩,?_⟩;rw[<-h2,<-F.ar]at z;rintro _ _ (⟨hE,rfl,rfl⟩|⟨cp,rfl,rfl⟩)
    · exact⟨.inl rfl,_,rfl,GB (T:=CK k B s) (by rw[z];exact P4 hE),rfl⟩
    · exact⟨.inl rfl,_,rfl,IE (T:=CK k B s) (l:=(Bh B s (CG B L)).aB) (by rw[z]) rfl (.same _ _ rfl),rfl⟩
  rw[dk (show ¬k=2 from h2)]at z;refine dg (λh6=>?_) (λh6=>?_)
  · have h6:k=6:=h6
    rw[dv h6]at z;refine⟨(⟨B,c1,c2,c3⟩,s,2),rfl,J.1,?_⟩;rintro _ _ ⟨L2,aC,rfl,rfl,Z⟩;have Z:AtP B L2 (C8 B s 2):=Z;have aF:=Z.len;refine dg (λh=>?_) (λh=>?_)
    · rw[dv (by have:(L2.length:Int)=0:=h;omega)]at z
      refine⟨(⟨B,c1,c2,c3⟩,s,k),rfl,J.1,?_⟩;rintro _ _ ⟨L,Y,rfl,rfl,F⟩;have F:AtP B L (C8 B s k):=F;have hL:=F.len;have ae:=MK B s k;refine⟨(⟨B,c1,c2,c3⟩,s,L,Y),rfl,⟨J,hS,show L.length<=1000 by omega,_,F⟩,?_⟩;rw[<-h6,<-F.ar]at z;rintro _ _ (⟨hE,rfl,rfl⟩|⟨cp,rfl,rfl⟩)
      · exact⟨.inl rfl,_,rfl,GB (T:=CK k B s) (by rw[z];exact P4 hE),rfl⟩
      · exact⟨.inl rfl,_,rfl,IE (T:=CK k B s) (l:=(Bh B s (CG B L)).aB) (by rw[z]) rfl (.same _ _ rfl),rfl⟩
    · exact⟨.inl rfl,_,rfl,H (by rw[z,dk (by have:¬(L2.length:Int)=0:=h;omega)]) _,rfl⟩
  rw[dk (show ¬k=6 from h6)]at z;refine dg (λh4=>?_) (λh4=>?_)
  · rw[dv (show k=4 from h4)]at z
    refine dg (λh=>?_) (λh=>?_)
    · have h:0<s.aQ:=h
      rw[dv h]at z;refine⟨s,rfl,⟨⟨h,hV.cO hs h⟩,hS⟩,?_⟩;rintro _ _ (⟨hE,rfl,rfl⟩|⟨cp,rfl,rfl⟩)
      · exact⟨.inl rfl,_,rfl,GB (T:=CK k B s) (by rw[z];exact P4 hE),rfl⟩
      · exact⟨.inl rfl,_,rfl,IE (T:=CK k B s) (l:=(Bf s (B6 s)).aB) (by rw[z]) rfl (.same _ _ rfl),rfl⟩
    · exact⟨.inl rfl,_,rfl,H (by rw[z,dk (show ¬0<s.aQ from h)]) _,rfl⟩
  · exact⟨.inl rfl,_,rfl,H (by rw[z,dk (show ¬k=4 from h4)]) _,rfl⟩
end
end
section
open Go.RowKit
theorem GY{B:Bk}{im:Int}:∀(r:List Cp) (c:Cp),r.foldl (Fl B im) c∈c::r
 |[],c=>dl.2 rfl
 |x::r,c=>by
  rw[gh];have h:=GY (B:=B) (im:=im) r (Fl B im c x);rcases dJ.1 h with h|h
  ·rw[h]
   unfold Fl;split
   ·exact dQ _ (dP ..)
   ·exact dP ..
  ·exact dQ _ (dQ _ h)
def EndsOf(l:List Cp)(es:List En):Prop:=es.length<=l.length/\∀e∈es,∃c∈l,e=CV c
theorem EndsOf.nil(l:List Cp):EndsOf l []:=⟨AI _,λ_ h=>nomatch h⟩
theorem EndsOf.map(l:List Cp):EndsOf l (l.map CV):=⟨qs,λe F=>by obtain⟨c,z,rfl⟩:=fa.1 F;exact⟨c,z,rfl⟩⟩
theorem EndsOf.first(B:Bk)(im:Int)(l:List Cp):EndsOf l (BK B im l):=by
 cases l with
 |nil=>exact .nil _
 |cons c r=>exact⟨by simp[BK],λe z=>by cases dl.1 z;exact⟨_,GY r c,rfl⟩⟩
theorem EndsOf.sub{l l':List Cp}{es:List En}(h:EndsOf l es)(p:Cp->Bool)(H:l=l'.filter p):EndsOf l' es:=by
 subst H;exact⟨AH h.1 (dV ..),λe F=>by obtain⟨c,z,rfl⟩:=h.2 e F;exact⟨c,(eR.1 z).1,rfl⟩⟩
theorem Ir(B:Bk)(s:Svc)(l:List Cp):EndsOf l (Bh B s l).aB:=by
 unfold Bh;split
 ·exact .nil _
 split
 ·exact .nil _
 ·exact(EndsOf.first B s.aj (l.filter (Hs B))).sub (Hs B) rfl
theorem PA(s:Svc)(d:Int):(Bf s d).aB=[]/\(Bf s d).ax=0/\(Bf s d).drop=false:=by
 unfold Bf a0
 (repeat' split)<;>exact⟨rfl,rfl,rfl⟩
theorem Vw(k:Int)(B:Bk)(s:Svc):EndsOf (Aq B s.name) (CK k B s).aB:=by
 unfold CK;split
 ·exact(EndsOf.map (C8 B s 3)).sub (whP B s 3) rfl
 split
 ·split
  ·exact .map _
  ·exact .nil _
 split
 ·unfold Bp
  split
  ·exact .nil _
  split
  ·exact .first ..
  ·exact .nil _
 split
 ·exact(Ir B s _).sub (whP B s 2) rfl
 split
 ·split
  ·exact(Ir B s _).sub (whP B s 6) rfl
  ·exact .nil _
 split
 ·split
  ·rw[(PA s _).1];exact .nil _
  ·exact .nil _
 ·exact .nil _
def Who(s:Svc)(A:Ac):Prop:=A.aa=s.name/\A.aN=s.ag
theorem PI(B:Bk)(s:Svc)(l:List Cp):Who s (Bh B s l):=by
 unfold Bh
 (repeat' split)<;>exact⟨rfl,rfl⟩
theorem Pr(B:Bk)(s:Svc):Who s (Bp B s):=by
 unfold Bp
 (repeat' split)<;>exact⟨rfl,rfl⟩
theorem Qd(s:Svc)(d:Int):Who s (Bf s d):=by
 unfold Bf
 (repeat' split)<;>exact⟨rfl,rfl⟩
theorem KN(k:Int)(B:Bk)(s:Svc):Who s (CK k B s):=by
 unfold CK
 (repeat' split)<;>first|exact⟨rfl,rfl⟩|exact Pr ..|exact PI ..|exact Qd ..
end
end Go.Proofs.YtbceafpodamnfaaGreatDoor
