import Derived.Test.YtbceafpodamnfaaGreatDoorG00
set_option linter.all false
set_option maxHeartbeats 2000000
namespace Go.Proofs.YtbceafpodamnfaaGreatDoor
section
open Go.RowKit
open Go.Value renaming int->In,slice->Sl,string->Sg,bool->Bo,pointer->Po
open Go.IntKind renaming i64->i6
theorem Lf:(Tryz.prog.info? 34).map (λi=>(i.zero,i.size,i.bytes))=some (some (.agg #[.string ⟨#[]⟩,In i6 0,Bo false,In i6 0,In i6 0,In i6 0,In i6 0,In i6 0,In i6 0,In i6 0,In i6 0,In i6 0,In i6 0]),13,112):=qk
theorem QD:(Tryz.prog.info? 76).map (λi=>(i.zero,i.size,i.bytes))=some (some (.agg qyV),7,72):=qk
theorem N6:(Tryz.prog.info? 90).map (λi=>(i.zero,i.size,i.bytes))=some (some (.agg #[.string ⟨#[]⟩,Bo false]),2,24):=qk
structure Bk where
 av:Int
 ah:List Svc
 ar:List Cp
 aw:List Bt
abbrev qbV (B:Bk) (x:qO) (a:Nat) (y:qO) (b:Nat) (z:qO) (c:Nat):Array Value:=#[In i6 B.av,Sl x B.ah.length a,Sl y B.ar.length b,Sl z B.aw.length c]
abbrev qwV (e:qO) (n k:Nat) (B:Bk) (x:qO) (a:Nat) (y:qO) (b:Nat) (z:qO) (c:Nat):Array Value:=#[Sl e n k,In i6 B.av,Sl x B.ah.length a,Sl y B.ar.length b,Sl z B.aw.length c]
def SlS(w:World)(ao:qO)(l:List Svc):Prop:=l≠[]->∃b off,ao=some ⟨b,off,none⟩/\b<w.heap.size/\SvcsAt w b off l
def SlC(w:World)(ao:qO)(l:List Cp):Prop:=l≠[]->∃b off,ao=some ⟨b,off,none⟩/\b<w.heap.size/\LX w b off l
def SlB(w:World)(ao:qO)(l:List Bt):Prop:=l≠[]->∃b off,ao=some ⟨b,off,none⟩/\b<w.heap.size/\BtsAt w b off l
theorem SlS.below{w w':World}{ao:qO}{l:List Svc}(h:SlS w ao l)(hb:Below w.heap.size w w'):SlS w' ao l:=λz=>
 let ⟨b,off,e,hlt,hat⟩:=h z
 ⟨b,off,e,AF hlt hb.size,λi s F=>(hat i s F).below hb hlt⟩
theorem SlC.below{w w':World}{ao:qO}{l:List Cp}(h:SlC w ao l)(hb:Below w.heap.size w w'):SlC w' ao l:=λz=>
 let ⟨b,off,e,hlt,hat⟩:=h z
 ⟨b,off,e,AF hlt hb.size,λi s F=>(hat i s F).below hb hlt⟩
theorem SlB.below{w w':World}{ao:qO}{l:List Bt}(h:SlB w ao l)(hb:Below w.heap.size w w'):SlB w' ao l:=λz=>
 let ⟨b,off,e,hlt,hat⟩:=h z
 ⟨b,off,e,AF hlt hb.size,λi s F=>(hat i s F).below hb hlt⟩
def BkAt(w:World)(a1 a2 a3:qO)(B:Bk):Prop:=SlS w a1 B.ah/\SlC w a2 B.ar/\SlB w a3 B.aw
theorem BkAt.below{w w':World}{a1 a2 a3:qO}{B:Bk}(h:BkAt w a1 a2 a3 B)(hb:Below w.heap.size w w'):BkAt w' a1 a2 a3 B:=
 ⟨h.1.below hb,h.2.1.below hb,h.2.2.below hb⟩
def Bk.aP(B:Bk):Prop:=B.ah.length<=maxLen/\B.ar.length<=maxLen/\B.aw.length<=maxLen/\(∀s∈B.ah,s.name.size<=maxLen)/\(∀s∈B.ar,s.aa.size<=maxLen/\s.aC.size<=maxLen)/\(∀s∈B.aw,s.name.size<=maxLen)
def Bk.aR(B:Bk):Prop:=B.ah.length<=1048576/\B.ar.length<=1048576/\B.aw.length<=1048576
theorem AN(w:World)(o:Obj):Below w.heap.size w (w.alloc o):=(dG _ _).alloc AG _
theorem A8(n lo z:Int)(w:World):
  Calls Tryz.prog 91 #[In i6 n,In i6 lo,In i6 z] w λe w'=>e=.returned (.bool (inB n lo z))/\w'=w:=by
 go_enter Tryz.func91,Tryz.ntmps91;go_wp2
 all_goals
  go_ret;exact⟨AQ (by rw[gA];simp[inB];try omega),rfl⟩
theorem Jt(c:Int)(w:World):
  Calls Tryz.prog 214 #[.int .u8 c] w λe w'=>e=.returned (.bool (Iy c))/\w'=w:=by
 go_enter Tryz.func214,Tryz.ntmps214;go_wp2
 all_goals
  go_ret;exact⟨AQ (by rw[gA];simp[Iy];try omega),rfl⟩
theorem Jz (s : ByteArray) (w : World) (W : s.size <= maxLen) :
    Calls Tryz.prog 65 #[Sg s] w λe w'=>e=.returned (.bool (Dh s))/\w'=w:=by
  unfold maxLen at W;have Y:(s.size:Int)<=9223372036854775807:=qo
  clear W
  by_cases F:inB s.size 1 20=true
  · go_enter Tryz.func65,Tryz.ntmps65
    go_wp2_with (go_at_call 63;refine(Cx _ _ _ _).mono ?_;rintro e w' ⟨rfl,rfl⟩)
    have H:Hid (inB s.size 1 20=true):=F;clear F
    go_loop [3] (λi=>∃k:Nat,k<=s.size/\i=In i6 k/\Hid (∀i (h:i<s.size),i<k->Iy (s[i]'h).toNat=true)) (λi=>s.size - (intOf i).toNat)
    case atStart=>exact⟨0,qo,rfl,λi _ h=>absurd h qo⟩
    case round=>
      obtain⟨k,hk,rfl,z⟩:=hrel
      by_cases M:k<s.size
      · go_wp2
        all_goals first
          | (go_ret
             exact⟨AQ (Q5 s k M (by clear z H;simp only[Iy];simp at *;omega)).symm,rfl⟩)
          | (go_round
             case rel=>
               refine⟨k+1,qo,qn,λi h Z=>?_⟩;rcases eW i k with O|O
               · exact z.ab i h O
               · have e:i=k:=qo
                 subst e;clear z H;simp only[Iy];simp at *;omega
             case measure=>simp[intOf];omega)
      · go_wp2
        go_ret;exact⟨AQ ((Ki s).2 ⟨H.ab,λi h=>z.ab i h qo⟩).symm,rfl⟩
  · have J:inB s.size 1 20=false:=by simpa using F
    clear F;go_enter Tryz.func65,Tryz.ntmps65
    go_wp2_with (go_at_call 63;refine(Cx _ _ _ _).mono ?_;rintro e w' ⟨rfl,rfl⟩)
    go_ret;exact⟨AQ (Mo s J).symm,rfl⟩
theorem Ff (s : ByteArray) (w : World) (Y : s.size <= maxLen) :
    Calls Tryz.prog 131 #[Sg s] w λe w'=>e=.returned (.bool (Dh s))/\w'=w:=by
  unfold maxLen at Y;have Z:(s.size:Int)<=9223372036854775807:=qo
  clear Y
  by_cases z:inB s.size 1 20=true
  · go_enter Tryz.func131,Tryz.ntmps131
    go_wp2_with (go_at_call 91;refine(A8 _ _ _ _).mono ?_;rintro e w' ⟨rfl,rfl⟩)
    have O:Hid (inB s.size 1 20=true):=z;clear z
    go_loop [10] (λi=>∃k:Nat,k<=s.size/\i=In i6 k/\Hid (∀i (h:i<s.size),i<k->Iy (s[i]'h).toNat=true)) (λi=>s.size - (intOf i).toNat)
    case atStart=>exact⟨0,qo,rfl,λi _ h=>absurd h qo⟩
    case round=>
      obtain⟨k,hk,rfl,F⟩:=hrel
      by_cases M:k<s.size
      · cases H:Iy (s[k]'M).toNat
        · go_wp2_with (go_at_call 214;refine(Jt _ _).mono ?_;rintro e w' ⟨rfl,rfl⟩)
          go_ret;exact⟨AQ (Q5 s k M H).symm,rfl⟩
        · go_wp2_with (go_at_call 214;refine(Jt _ _).mono ?_;rintro e w' ⟨rfl,rfl⟩)
          go_round
          case rel=>
            refine⟨k+1,qo,qn,λi h hi=>?_⟩;rcases eW i k with W|W
            · exact F.ab i h W
            · have e:i=k:=qo
              subst e;exact H
          case measure=>simp[intOf];omega
      · go_wp2
        go_ret;exact⟨AQ ((Ki s).2 ⟨O.ab,λi h=>F.ab i h qo⟩).symm,rfl⟩
  · have J:inB s.size 1 20=false:=by simpa using z
    clear z;go_enter Tryz.func131,Tryz.ntmps131
    go_wp2_with (go_at_call 91;refine(A8 _ _ _ _).mono ?_;rintro e w' ⟨rfl,rfl⟩)
    go_ret;exact⟨AQ (Mo s J).symm,rfl⟩
theorem Tb(w:World)(o:Obj):Below w.heap.size w (w.alloc o):=(dG _ _).alloc AG _
theorem wrap_sum{a b:Int}(z:inB a 0 10=true)(hb:inB b 0 10=true):wrap64 (a+b)=a+b:=by
  simp[inB]at z hb;exact IntWalk.wrap64_in _ qo
theorem CA (s : Svc) (av : Int) (w : World) (z : s.name.size <= maxLen) :
    Calls Tryz.prog 64 #[.agg (qsV s),In i6 av] w λe w'=>e=.returned (.bool (svcB av s))/\Below w.heap.size w w':=by
  go_enter Tryz.func64,Tryz.ntmps64
  go_wp2_with (first|(go_at_call 63;refine(Cx _ _ _ _).mono ?_;rintro e w' ⟨rfl,rfl⟩)|(go_at_call 65;refine(Jz _ _ z).mono ?_;rintro e w' ⟨rfl,rfl⟩))
  all_goals
    go_ret;refine⟨AQ ?_,Tb _ _⟩
    first
      | (have F := wrap_sum (a := s.aK) (b := s.aG) ‹_› ‹_›
         simp only[F,fN,fg,ne_eq]at *
         simp[svcB,Qt, *];done)
      |(simp[svcB,Qt, *];done)
end
end Go.Proofs.YtbceafpodamnfaaGreatDoor
