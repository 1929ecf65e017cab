import Derived.Test.YtbceafpodamnfaaGreatDoorG00
set_option linter.all false
set_option maxHeartbeats 2000000
namespace Go.Proofs.YtbceafpodamnfaaGreatDoor
section
open Go.RowKit
theorem KD:(Tryz.prog.info? 34).map (λi=>(i.zero,i.size,i.bytes))=some (some (.agg #[.string ⟨#[]⟩,.int .i64 0,.bool false,.int .i64 0,.int .i64 0,.int .i64 0,.int .i64 0,.int .i64 0,.int .i64 0,.int .i64 0,.int .i64 0,.int .i64 0,.int .i64 0]),13,112):=by kernel_rfl
theorem N4:(Tryz.prog.info? 76).map (λi=>(i.zero,i.size,i.bytes))=some (some (.agg qyV),7,72):=by kernel_rfl
theorem MF:(Tryz.prog.info? 90).map (λi=>(i.zero,i.size,i.bytes))=some (some (.agg #[.string ⟨#[]⟩,.bool false]),2,24):=by kernel_rfl
structure Bk where
 aj:Int
 af:List Svc
 ah:List Cp
 ak:List Bt
@[simp,go_sem,reducible] def qbV (B:Bk) (x:qO) (a:Nat) (y:qO) (b:Nat) (z:qO) (c:Nat):Array Value:=#[.int .i64 B.aj,.slice x B.af.length a,.slice y B.ah.length b,.slice z B.ak.length c]
@[simp,go_sem,reducible] def qwV (e:qO) (n k:Nat) (B:Bk) (x:qO) (a:Nat) (y:qO) (b:Nat) (z:qO) (c:Nat):Array Value:=#[.slice e n k,.int .i64 B.aj,.slice x B.af.length a,.slice y B.ah.length b,.slice z B.ak.length c]
def SlS(w:World)(ao:qO)(l:List Svc):Prop:=l≠[]->∃b off,ao=some ⟨b,off,none⟩/\b<w.heap.size/\SvcsAt w b off l
def SlC(w:World)(ao:qO)(l:List Cp):Prop:=l≠[]->∃b off,ao=some ⟨b,off,none⟩/\b<w.heap.size/\M5 w b off l
def SlB(w:World)(ao:qO)(l:List Bt):Prop:=l≠[]->∃b off,ao=some ⟨b,off,none⟩/\b<w.heap.size/\BtsAt w b off l
theorem SlS.below{w w':World}{ao:qO}{l:List Svc}(h:SlS w ao l)(hb:Below w.heap.size w w'):SlS w' ao l:=λH=>
 let ⟨b,off,e,hlt,hat⟩:=h H
 ⟨b,off,e,AF hlt hb.size,λi s F=>(hat i s F).below hb hlt⟩
theorem SlC.below{w w':World}{ao:qO}{l:List Cp}(h:SlC w ao l)(hb:Below w.heap.size w w'):SlC w' ao l:=λH=>
 let ⟨b,off,e,hlt,hat⟩:=h H
 ⟨b,off,e,AF hlt hb.size,λi s F=>(hat i s F).below hb hlt⟩
theorem SlB.below{w w':World}{ao:qO}{l:List Bt}(h:SlB w ao l)(hb:Below w.heap.size w w'):SlB w' ao l:=λH=>
 let ⟨b,off,e,hlt,hat⟩:=h H
 ⟨b,off,e,AF hlt hb.size,λi s F=>(hat i s F).below hb hlt⟩
def BkAt(w:World)(a1 a2 a3:qO)(B:Bk):Prop:=SlS w a1 B.af/\SlC w a2 B.ah/\SlB w a3 B.ak
theorem BkAt.below{w w':World}{a1 a2 a3:qO}{B:Bk}(h:BkAt w a1 a2 a3 B)(hb:Below w.heap.size w w'):BkAt w' a1 a2 a3 B:=
 ⟨h.1.below hb,h.2.1.below hb,h.2.2.below hb⟩
def Bk.aD(B:Bk):Prop:=B.af.length<=maxLen/\B.ah.length<=maxLen/\B.ak.length<=maxLen/\(∀s∈B.af,s.name.size<=maxLen)/\(∀s∈B.ah,s.aa.size<=maxLen/\s.aA.size<=maxLen)/\(∀s∈B.ak,s.name.size<=maxLen)
def Bk.aJ(B:Bk):Prop:=B.af.length<=1048576/\B.ah.length<=1048576/\B.ak.length<=1048576
theorem AN(w:World)(o:Obj):Below w.heap.size w (w.alloc o):=(dI _ _).alloc (AG _) _
theorem Ay(n lo F:Int)(w:World):
  Calls Tryz.prog 91 #[.int .i64 n,.int .i64 lo,.int .i64 F] w λe w'=>e=.returned (.bool (inB n lo F))/\w'=w:=by
 go_enter Tryz.func91,Tryz.ntmps91;go_wp2
 all_goals
  go_ret;exact⟨AR (by rw[gF];simp[inB];try omega),rfl⟩
theorem IU(c:Int)(w:World):
  Calls Tryz.prog 214 #[.int .u8 c] w λe w'=>e=.returned (.bool (Hi c))/\w'=w:=by
 go_enter Tryz.func214,Tryz.ntmps214;go_wp2
 all_goals
  go_ret;exact⟨AR (by rw[gF];simp[Hi];try omega),rfl⟩
theorem IW (s : ByteArray) (w : World) (Y : s.size <= maxLen) :
    Calls Tryz.prog 65 #[.string s] w λe w'=>e=.returned (.bool (DB s))/\w'=w:=by
  unfold maxLen at Y;have aa:(s.size:Int)<=9223372036854775807:=by omega
  clear Y
  by_cases H:inB s.size 1 20=true
  · go_enter Tryz.func65,Tryz.ntmps65
    go_wp2_with (go_at_call 63;refine(Cd _ _ _ _).mono ?_;rintro e w' ⟨rfl,rfl⟩)
    have J:Hid (inB s.size 1 20=true):=H;clear H
    go_loop [3] (λi=>∃k:Nat,k<=s.size/\i=.int .i64 k/\Hid (∀i (h:i<s.size),i<k->Hi (s[i]'h).toNat=true)) (λi=>s.size - (intOf i).toNat)
    case atStart=>exact⟨0,by omega,rfl,λi _ h=>absurd h (by omega)⟩
    case round=>
      obtain⟨k,hk,rfl,F⟩:=hrel
      by_cases W:k<s.size
      · go_wp2
        all_goals first
          | (go_ret
             exact⟨AR (Om s k W (by clear F J;simp only[Hi];simp at *;omega)).symm,rfl⟩)
          | (go_round
             case rel=>
               refine⟨k+1,by omega,by go_num,λi h hi=>?_⟩;rcases eG i k with Z|Z
               · exact F.O i h Z
               · have e:i=k:=by omega
                 subst e;clear F J;simp only[Hi];simp at *;omega
             case measure=>simp[intOf];omega)
      · go_wp2
        go_ret;exact⟨AR ((I9 s).2 ⟨J.O,λi h=>F.O i h (by omega)⟩).symm,rfl⟩
  · have M:inB s.size 1 20=false:=by simpa using H
    clear H;go_enter Tryz.func65,Tryz.ntmps65
    go_wp2_with (go_at_call 63;refine(Cd _ _ _ _).mono ?_;rintro e w' ⟨rfl,rfl⟩)
    go_ret;exact⟨AR (LC s M).symm,rfl⟩
theorem Et (s : ByteArray) (w : World) (Z : s.size <= maxLen) :
    Calls Tryz.prog 131 #[.string s] w λe w'=>e=.returned (.bool (DB s))/\w'=w:=by
  unfold maxLen at Z;have af:(s.size:Int)<=9223372036854775807:=by omega
  clear Z
  by_cases F:inB s.size 1 20=true
  · go_enter Tryz.func131,Tryz.ntmps131
    go_wp2_with (go_at_call 91;refine(Ay _ _ _ _).mono ?_;rintro e w' ⟨rfl,rfl⟩)
    have Y:Hid (inB s.size 1 20=true):=F;clear F
    go_loop [10] (λi=>∃k:Nat,k<=s.size/\i=.int .i64 k/\Hid (∀i (h:i<s.size),i<k->Hi (s[i]'h).toNat=true)) (λi=>s.size - (intOf i).toNat)
    case atStart=>exact⟨0,by omega,rfl,λi _ h=>absurd h (by omega)⟩
    case round=>
      obtain⟨k,hk,rfl,H⟩:=hrel
      by_cases M:k<s.size
      · cases J:Hi (s[k]'M).toNat
        · go_wp2_with (go_at_call 214;refine(IU _ _).mono ?_;rintro e w' ⟨rfl,rfl⟩)
          go_ret;exact⟨AR (Om s k M J).symm,rfl⟩
        · go_wp2_with (go_at_call 214;refine(IU _ _).mono ?_;rintro e w' ⟨rfl,rfl⟩)
          go_round
          case rel=>
            refine⟨k+1,by omega,by go_num,λi h hi=>?_⟩;rcases eG i k with h'|h'
            · exact H.O i h h'
            · have e:i=k:=by omega
              subst e;exact J
          case measure=>simp[intOf];omega
      · go_wp2
        go_ret;exact⟨AR ((I9 s).2 ⟨Y.O,λi h=>H.O i h (by omega)⟩).symm,rfl⟩
  · have W:inB s.size 1 20=false:=by simpa using F
    clear F;go_enter Tryz.func131,Tryz.ntmps131
    go_wp2_with (go_at_call 91;refine(Ay _ _ _ _).mono ?_;rintro e w' ⟨rfl,rfl⟩)
    go_ret;exact⟨AR (LC s W).symm,rfl⟩
theorem Qh(w:World)(o:Obj):Below w.heap.size w (w.alloc o):=(dI _ _).alloc (AG _) _
theorem wrap_sum{a b:Int}(F:inB a 0 10=true)(hb:inB b 0 10=true):wrap64 (a+b)=a+b:=by
  simp[inB]at F hb;exact IntWalk.wrap64_in _ (by omega)
theorem Bl (s : Svc) (aj : Int) (w : World) (F : s.name.size <= maxLen) :
    Calls Tryz.prog 64 #[.agg (qsV s),.int .i64 aj] w λe w'=>e=.returned (.bool (svcB aj s))/\Below w.heap.size w w':=by
  go_enter Tryz.func64,Tryz.ntmps64
  go_wp2_with (first|(go_at_call 63;refine(Cd _ _ _ _).mono ?_;rintro e w' ⟨rfl,rfl⟩)|(go_at_call 65;refine(IW _ _ F).mono ?_;rintro e w' ⟨rfl,rfl⟩))
  all_goals
    go_ret;refine⟨AR ?_,Qh _ _⟩
    first
      | (have H := wrap_sum (a := s.aG) (b := s.aE) ‹_› ‹_›
         simp only[H,fq,eL,ne_eq]at *
         simp[svcB,R5, *];done)
      |(simp[svcB,R5, *];done)
end
end Go.Proofs.YtbceafpodamnfaaGreatDoor
