import Derived.Test.YtbceafpodamnfaaGreatH00
import Derived.Lib.QuietBelow
import Derived.BigQuiet
set_option linter.all false
set_option maxHeartbeats 4000000
namespace Go.Proofs.YtbceafpodamnfaaGreat
section
open Go.RowKit
theorem Tryz.infoService:(Tryz.prog.info? 29).map (λi=>(i.zero,i.size,i.bytes))=some (some (.agg #[.string ⟨#[]⟩,.int .i64 0,.bool false,.int .i64 0,.int .i64 0,.int .i64 0,.int .i64 0,.int .i64 0,.int .i64 0,.int .i64 0,.int .i64 0,.int .i64 0,.int .i64 0]),13,112):=by kernel_rfl
theorem Tryz.infoCopy:(Tryz.prog.info? 49).map (λi=>(i.zero,i.size,i.bytes))=some (some (.agg #[.string ⟨#[]⟩,.int .i64 0,.int .i64 0,.int .i64 0,.int .i64 0,.bool false,.string ⟨#[]⟩]),7,72):=by kernel_rfl
theorem Tryz.infoBerth:(Tryz.prog.info? 51).map (λi=>(i.zero,i.size,i.bytes))=some (some (.agg #[.string ⟨#[]⟩,.bool false]),2,24):=by kernel_rfl
structure Bk where
 now:Int
 svcs:List Svc
 cps:List Cp
 bts:List Bt
def SlS(w:World)(ao:Option Addr)(l:List Svc):Prop:=l≠[]->∃b off,ao=some ⟨b,off,none⟩/\b<w.heap.size/\SvcsAt w b off l
def SlC(w:World)(ao:Option Addr)(l:List Cp):Prop:=l≠[]->∃b off,ao=some ⟨b,off,none⟩/\b<w.heap.size/\CpsAt w b off l
def SlB(w:World)(ao:Option Addr)(l:List Bt):Prop:=l≠[]->∃b off,ao=some ⟨b,off,none⟩/\b<w.heap.size/\BtsAt w b off l
theorem SlS.below{w w':World}{ao:Option Addr}{l:List Svc}(h:SlS w ao l)(hb:Below w.heap.size w w'):SlS w' ao l:=λhl=>
 let ⟨b,off,e,hlt,hat⟩:=h hl
 ⟨b,off,e,AF hlt hb.size,λi s hs=>(hat i s hs).below hb hlt⟩
theorem SlC.below{w w':World}{ao:Option Addr}{l:List Cp}(h:SlC w ao l)(hb:Below w.heap.size w w'):SlC w' ao l:=λhl=>
 let ⟨b,off,e,hlt,hat⟩:=h hl
 ⟨b,off,e,AF hlt hb.size,λi s hs=>(hat i s hs).below hb hlt⟩
theorem SlB.below{w w':World}{ao:Option Addr}{l:List Bt}(h:SlB w ao l)(hb:Below w.heap.size w w'):SlB w' ao l:=λhl=>
 let ⟨b,off,e,hlt,hat⟩:=h hl
 ⟨b,off,e,AF hlt hb.size,λi s hs=>(hat i s hs).below hb hlt⟩
def BkAt(w:World)(a1 a2 a3:Option Addr)(B:Bk):Prop:=SlS w a1 B.svcs/\SlC w a2 B.cps/\SlB w a3 B.bts
theorem BkAt.below{w w':World}{a1 a2 a3:Option Addr}{B:Bk}(h:BkAt w a1 a2 a3 B)(hb:Below w.heap.size w w'):BkAt w' a1 a2 a3 B:=
 ⟨h.1.below hb,h.2.1.below hb,h.2.2.below hb⟩
def Bk.sized(B:Bk):Prop:=B.svcs.length<=maxLen/\B.cps.length<=maxLen/\B.bts.length<=maxLen/\(∀s∈B.svcs,s.name.size<=maxLen)/\(∀s∈B.cps,s.service.size<=maxLen/\s.berth.size<=maxLen)/\(∀s∈B.bts,s.name.size<=maxLen)
def Bk.small(B:Bk):Prop:=B.svcs.length<=1048576/\B.cps.length<=1048576/\B.bts.length<=1048576
theorem AM(w:World)(o:Obj):Below w.heap.size w (w.alloc o):=(Below.refl _ _).alloc (AG _) _
end
section
open Go.RowKit Go.Sort
theorem SvcAt.grown{w:World}{b o:Nat}{s:Svc}(h:SvcAt w b o s):(∀p:Regrown,(grow (redrawn w p.d) p.os).cell? ⟨b,o,none⟩=some (.string s.name))/\(∀p:Regrown,(grow (redrawn w p.d) p.os).cell? ⟨b,o+1,none⟩=some (.int .i64 s.version))/\(∀p:Regrown,(grow (redrawn w p.d) p.os).cell? ⟨b,o+2,none⟩=some (.bool s.gone))/\(∀p:Regrown,(grow (redrawn w p.d) p.os).cell? ⟨b,o+3,none⟩=some (.int .i64 s.image))/\(∀p:Regrown,(grow (redrawn w p.d) p.os).cell? ⟨b,o+4,none⟩=some (.int .i64 s.want))/\(∀p:Regrown,(grow (redrawn w p.d) p.os).cell? ⟨b,o+5,none⟩=some (.int .i64 s.down))/\(∀p:Regrown,(grow (redrawn w p.d) p.os).cell? ⟨b,o+6,none⟩=some (.int .i64 s.over))/\(∀p:Regrown,(grow (redrawn w p.d) p.os).cell? ⟨b,o+7,none⟩=some (.int .i64 s.next))/\(∀p:Regrown,(grow (redrawn w p.d) p.os).cell? ⟨b,o+8,none⟩=some (.int .i64 s.per))/\(∀p:Regrown,(grow (redrawn w p.d) p.os).cell? ⟨b,o+9,none⟩=some (.int .i64 s.least))/\(∀p:Regrown,(grow (redrawn w p.d) p.os).cell? ⟨b,o+10,none⟩=some (.int .i64 s.most))/\(∀p:Regrown,(grow (redrawn w p.d) p.os).cell? ⟨b,o+11,none⟩=some (.int .i64 s.load))/\(∀p:Regrown,(grow (redrawn w p.d) p.os).cell? ⟨b,o+12,none⟩=some (.int .i64 s.cool)):=by
 unfold SvcAt at h;obtain⟨c0,c1,c2,c3,c4,c5,c6,c7,c8,c9,c10,c11,c12⟩:=h;exact⟨λp=>cell_regrown c0 p.d p.os,λp=>cell_regrown c1 p.d p.os,λp=>cell_regrown c2 p.d p.os,λp=>cell_regrown c3 p.d p.os,λp=>cell_regrown c4 p.d p.os,λp=>cell_regrown c5 p.d p.os,λp=>cell_regrown c6 p.d p.os,λp=>cell_regrown c7 p.d p.os,λp=>cell_regrown c8 p.d p.os,λp=>cell_regrown c9 p.d p.os,λp=>cell_regrown c10 p.d p.os,λp=>cell_regrown c11 p.d p.os,λp=>cell_regrown c12 p.d p.os⟩
theorem CpAt.grown{w:World}{b o:Nat}{s:Cp}(h:CpAt w b o s):(∀p:Regrown,(grow (redrawn w p.d) p.os).cell? ⟨b,o,none⟩=some (.string s.service))/\(∀p:Regrown,(grow (redrawn w p.d) p.os).cell? ⟨b,o+1,none⟩=some (.int .i64 s.number))/\(∀p:Regrown,(grow (redrawn w p.d) p.os).cell? ⟨b,o+2,none⟩=some (.int .i64 s.version))/\(∀p:Regrown,(grow (redrawn w p.d) p.os).cell? ⟨b,o+3,none⟩=some (.int .i64 s.image))/\(∀p:Regrown,(grow (redrawn w p.d) p.os).cell? ⟨b,o+4,none⟩=some (.int .i64 s.state))/\(∀p:Regrown,(grow (redrawn w p.d) p.os).cell? ⟨b,o+5,none⟩=some (.bool s.ending))/\(∀p:Regrown,(grow (redrawn w p.d) p.os).cell? ⟨b,o+6,none⟩=some (.string s.berth)):=by
 unfold CpAt at h;obtain⟨c0,c1,c2,c3,c4,c5,c6⟩:=h;exact⟨λp=>cell_regrown c0 p.d p.os,λp=>cell_regrown c1 p.d p.os,λp=>cell_regrown c2 p.d p.os,λp=>cell_regrown c3 p.d p.os,λp=>cell_regrown c4 p.d p.os,λp=>cell_regrown c5 p.d p.os,λp=>cell_regrown c6 p.d p.os⟩
theorem BtAt.grown{w:World}{b o:Nat}{s:Bt}(h:BtAt w b o s):(∀p:Regrown,(grow (redrawn w p.d) p.os).cell? ⟨b,o,none⟩=some (.string s.name))/\(∀p:Regrown,(grow (redrawn w p.d) p.os).cell? ⟨b,o+1,none⟩=some (.bool s.drain)):=by
 unfold BtAt at h;obtain⟨c0,c1⟩:=h;exact⟨λp=>cell_regrown c0 p.d p.os,λp=>cell_regrown c1 p.d p.os⟩
theorem BkAt.grown{w:World}{a1 a2 a3:Option Addr}{B:Bk}(h:BkAt w a1 a2 a3 B)(d:Nat)(os:Array Obj):BkAt (grow (redrawn w d) os) a1 a2 a3 B:=h.below (below_regrown w d os)
end
section
open Go.RowKit
theorem Bg(n lo hi:Int)(w:World):
  Calls Tryz.prog 40 #[.int .i64 n,.int .i64 lo,.int .i64 hi] w λe w'=>e=.returned (.bool (inB n lo hi))/\w'=w:=by
 go_enter Tryz.func40,Tryz.ntmps40;go_wp2
 all_goals
  go_ret;exact⟨AR (by rw[Bool.eq_iff_iff];simp[inB];try omega),rfl⟩
theorem Gl(c:Int)(w:World):
  Calls Tryz.prog 63 #[.int .u8 c] w λe w'=>e=.returned (.bool (F5 c))/\w'=w:=by
 go_enter Tryz.func63,Tryz.ntmps63;go_wp2
 all_goals
  go_ret;exact⟨AR (by rw[Bool.eq_iff_iff];simp[F5];try omega),rfl⟩
theorem Gm (s : ByteArray) (w : World) (hs : s.size <= maxLen) :
    Calls Tryz.prog 19 #[.string s] w λe w'=>e=.returned (.bool (Cq s))/\w'=w:=by
  unfold maxLen at hs;have hsz:(s.size:Int)<=9223372036854775807:=by omega
  clear hs
  by_cases hin:inB s.size 1 20=true
  · go_enter Tryz.func19,Tryz.ntmps19
    go_wp2_with (go_at_call 15;refine(CQ _ _ _ _).mono ?_;rintro e w' ⟨rfl,rfl⟩)
    have HIN:Hid (inB s.size 1 20=true):=hin;clear hin
    go_loop [3] (λi=>∃k:Nat,k<=s.size/\i=.int .i64 k/\Hid (∀i (h:i<s.size),i<k->F5 (s[i]'h).toNat=true)) (λi=>s.size - (intOf i).toNat)
    case atStart=>exact⟨0,by omega,rfl,λi _ h=>absurd h (by omega)⟩
    case round=>
      obtain⟨k,hk,rfl,hall⟩:=hrel
      by_cases hlt:k<s.size
      · go_wp2
        all_goals first
          | (go_ret
             exact⟨AR (Lo s k hlt (by clear hall HIN;simp only[F5];simp at *;omega)).symm,rfl⟩)
          | (go_round
             case rel=>
               refine⟨k+1,by omega,by go_num,λi h hi=>?_⟩;rcases Nat.lt_or_ge i k with h'|h'
               · exact hall.out i h h'
               · have e:i=k:=by omega
                 subst e;clear hall HIN;simp only[F5];simp at *;omega
             case measure=>simp[intOf];omega)
      · go_wp2
        go_ret;exact⟨AR ((Ha s).2 ⟨HIN.out,λi h=>hall.out i h (by omega)⟩).symm,rfl⟩
  · have hin':inB s.size 1 20=false:=by simpa using hin
    clear hin;go_enter Tryz.func19,Tryz.ntmps19
    go_wp2_with (go_at_call 15;refine(CQ _ _ _ _).mono ?_;rintro e w' ⟨rfl,rfl⟩)
    go_ret;exact⟨AR (JQ s hin').symm,rfl⟩
theorem Du (s : ByteArray) (w : World) (hs : s.size <= maxLen) :
    Calls Tryz.prog 47 #[.string s] w λe w'=>e=.returned (.bool (Cq s))/\w'=w:=by
  unfold maxLen at hs;have hsz:(s.size:Int)<=9223372036854775807:=by omega
  clear hs
  by_cases hin:inB s.size 1 20=true
  · go_enter Tryz.func47,Tryz.ntmps47
    go_wp2_with (go_at_call 40;refine(Bg _ _ _ _).mono ?_;rintro e w' ⟨rfl,rfl⟩)
    have HIN:Hid (inB s.size 1 20=true):=hin;clear hin
    go_loop [10] (λi=>∃k:Nat,k<=s.size/\i=.int .i64 k/\Hid (∀i (h:i<s.size),i<k->F5 (s[i]'h).toNat=true)) (λi=>s.size - (intOf i).toNat)
    case atStart=>exact⟨0,by omega,rfl,λi _ h=>absurd h (by omega)⟩
    case round=>
      obtain⟨k,hk,rfl,hall⟩:=hrel
      by_cases hlt:k<s.size
      · cases hbt:F5 (s[k]'hlt).toNat
        · go_wp2_with (go_at_call 63;refine(Gl _ _).mono ?_;rintro e w' ⟨rfl,rfl⟩)
          go_ret;exact⟨AR (Lo s k hlt hbt).symm,rfl⟩
        · go_wp2_with (go_at_call 63;refine(Gl _ _).mono ?_;rintro e w' ⟨rfl,rfl⟩)
          go_round
          case rel=>
            refine⟨k+1,by omega,by go_num,λi h hi=>?_⟩;rcases Nat.lt_or_ge i k with h'|h'
            · exact hall.out i h h'
            · have e:i=k:=by omega
              subst e;exact hbt
          case measure=>simp[intOf];omega
      · go_wp2
        go_ret;exact⟨AR ((Ha s).2 ⟨HIN.out,λi h=>hall.out i h (by omega)⟩).symm,rfl⟩
  · have hin':inB s.size 1 20=false:=by simpa using hin
    clear hin;go_enter Tryz.func47,Tryz.ntmps47
    go_wp2_with (go_at_call 40;refine(Bg _ _ _ _).mono ?_;rintro e w' ⟨rfl,rfl⟩)
    go_ret;exact⟨AR (JQ s hin').symm,rfl⟩
theorem NE(w:World)(o:Obj):Below w.heap.size w (w.alloc o):=(Below.refl _ _).alloc (AG _) _
theorem wrap_sum{a b:Int}(ha:inB a 0 10=true)(hb:inB b 0 10=true):wrap64 (a+b)=a+b:=by
  simp[inB]at ha hb;exact IntWalk.wrap64_in _ (by omega)
theorem Bd (s : Svc) (now : Int) (w : World) (hs : s.name.size <= maxLen) :
    Calls Tryz.prog 18 #[.agg #[.string s.name,.int .i64 s.version,.bool s.gone,.int .i64 s.image,.int .i64 s.want,.int .i64 s.down,.int .i64 s.over,.int .i64 s.next,.int .i64 s.per,.int .i64 s.least,.int .i64 s.most,.int .i64 s.load,.int .i64 s.cool],.int .i64 now] w λe w'=>e=.returned (.bool (G6 now s))/\Below w.heap.size w w':=by
  go_enter Tryz.func18,Tryz.ntmps18
  go_wp2_with (first|(go_at_call 15;refine(CQ _ _ _ _).mono ?_;rintro e w' ⟨rfl,rfl⟩)|(go_at_call 19;refine(Gm _ _ hs).mono ?_;rintro e w' ⟨rfl,rfl⟩))
  all_goals
    go_ret;refine⟨AR ?_,NE _ _⟩
    first
      | (have hw := wrap_sum (a := s.down) (b := s.over) ‹_› ‹_›
         simp only[hw,beq_iff_eq,beq_eq_false_iff_ne,ne_eq]at *
         simp[G6,perB, *];done)
      |(simp[G6,perB, *];done)
def EY{α:Type}(p:α->Bool)(l:List α):Int:=match l.findIdx? p with|some i=>(i:Int)|none=> -1
def idxS(l:List Svc)(n:ByteArray):Int:=EY (λs=>s.name.toList==n.toList) l
def idxB(l:List Bt)(n:ByteArray):Int:=EY (λs=>s.name.toList==n.toList) l
theorem GG{α:Type}{p:α->Bool}{l:List α}{k:Nat}{s:α}(hk:l[k]?=some s)(hp:p s=true)(hno:∀i,i<k->∀s,l[i]?=some s->p s=false):EY p l=k:=by
 obtain⟨h1,h2⟩:=AC hk
 have:l.findIdx? p=some k:=by
  rw[List.findIdx?_eq_some_iff_getElem];refine⟨h1,by rw[h2];exact hp,λj hj=>?_⟩;rw[hno j hj _ (List.getElem?_eq_getElem (by omega))];simp
 simp[EY,this]
theorem GF{α:Type}{p:α->Bool}{l:List α}(hno:∀(i:Nat) s,l[i]?=some s->p s=false):EY p l= -1:=by
 have:l.findIdx? p=none:=by
  rw[List.findIdx?_eq_none_iff];intro x hx;obtain⟨i,hi,rfl⟩:=List.mem_iff_getElem.1 hx;exact hno i _ (List.getElem?_eq_getElem hi)
 simp[EY,this]
def isC(sv:ByteArray)(num:Int)(c:Cp):Bool:=c.service.toList==sv.toList&&c.number==num
theorem GH{α:Type}{p:α->Bool}{l:List α}{s:α}(h:l.find? p=some s):∃i:Nat,l[i]?=some s/\EY p l=(i:Int):=by
 rw[List.find?_eq_some_iff_getElem]at h;obtain⟨hp,i,hi,hs,hno⟩:=h;refine⟨i,by rw[List.getElem?_eq_getElem hi,hs],GG (by rw[List.getElem?_eq_getElem hi,hs]) hp λj hj t ht=>?_⟩;have:=hno j hj;obtain⟨h1,h2⟩:=AC ht;rw[h2]at this
 simpa using this
theorem FB{α:Type}{p:α->Bool}{l:List α}(h:l.find? p=none):EY p l= -1:=by
 rw[List.find?_eq_none]at h;exact GF λi s hs=>by have:=h s (AE hs);simpa using this
theorem Lu{α:Type}(p:α->Bool)(l:List α):decide (0<=EY p l)=l.any p:=by
 cases h:l.find? p with
 |none=>
  rw[FB h];rw[List.find?_eq_none]at h
  symm
  rw[show decide ((0:Int)<= -1)=false from by decide,List.any_eq_false];exact h
 |some s=>
  obtain⟨i,hi,e⟩:=GH h;rw[e];have:decide (0<=(i:Int))=true:=by simp
  rw[this];symm;rw[List.any_eq_true];exact⟨s,AE hi,List.find?_some h⟩
def Db(B:Bk)(n:ByteArray):Option Svc:=B.svcs.find? λs=>s.name.toList==n.toList
def FF(now:Int)(s:Svc)(c:Cp):Bool:=inB c.number 1 (wrap64 (s.next - 1))&&inB c.version 1 now&&inB c.image 1 1000000&&inB c.state 1 4
def Bq(bts:List Bt)(c:Cp):Bool:=if c.state=1 then c.berth.toList.isEmpty else bts.any λb=>b.name.toList==c.berth.toList
def cpB(B:Bk)(c:Cp):Bool:=match Db B c.service with|none=>false|some s=>FF B.now s c&&Bq B.bts c
def Bu(a b:Cp):Bool:=Op.bytesLess a.service.toList b.service.toList||(a.service.toList==b.service.toList&&decide (a.number<b.number))
def BB(B:Bk)(k:Nat):Bool:=match B.svcs[k]? with
 |none=>true
 |some s=>G6 B.now s&&(k==0||match B.svcs[k - 1]? with|none=>true|some p=>Op.bytesLess p.name.toList s.name.toList)
def By(B:Bk)(k:Nat):Bool:=match B.bts[k]? with
 |none=>true
 |some s=>Cq s.name&&(k==0||match B.bts[k - 1]? with|none=>true|some p=>Op.bytesLess p.name.toList s.name.toList)
def BD(B:Bk)(k:Nat):Bool:=match B.cps[k]? with
 |none=>true
 |some s=>cpB B s&&(k==0||match B.cps[k - 1]? with|none=>true|some p=>Bu p s)
def BH(f:Nat->Bool)(n:Nat):Bool:=(List.range n).all f
def AX(B:Bk):Bool:=inB B.now 0 1000000&&decide (B.svcs.length<=8)&&decide (B.cps.length<=200)&&decide (B.bts.length<=6)&&BH (BB B) B.svcs.length&&BH (By B) B.bts.length&&BH (BD B) B.cps.length
theorem B6{f:Nat->Bool}{n:Nat}(h:∀i,i<n->f i=true):BH f n=true:=by
 unfold BH;rw[List.all_eq_true];intro i hi;exact h i (List.mem_range.1 hi)
theorem Al{f:Nat->Bool}{n k:Nat}(hk:k<n)(h:f k=false):BH f n=false:=by
 unfold BH;rw[List.all_eq_false];exact⟨k,List.mem_range.2 hk,by rw[h];simp⟩
theorem Ax{f:Nat->Bool}{k:Nat}(h:∀i,i<k->f i=true)(hk:f k=true):∀i,i<k+1->f i=true:=λi hi=>by
 rcases Nat.lt_or_ge i k with h'|h'
 ·exact h i h'
 ·rw[show i=k by omega];exact hk
def Lh(s:Svc):Bool:=inB s.image 1 1000000&&inB s.next 1 1000000&&inB s.want 0 10
def FO(s:Svc):Bool:=inB s.down 0 10&&inB s.over 0 10&&(s.down !=0||s.over !=0)
def EF(s:Svc):Bool:=inB s.per 0 1000000&&inB s.load 0 1000000&&inB s.least 0 10&&inB s.most 0 10&&decide (s.least<=s.most)&&inB s.cool 0 3
def FM(s:Svc):Bool:=s.per !=0||(s.least==0&&s.most==0&&s.load==0&&s.cool==0)
theorem DG(now:Int)(s:Svc):G6 now s=(inB s.version 1 now&&(Cq s.name&&Lh s&&FO s&&EF s&&FM s)):=by
 unfold G6;generalize Cq s.name=n;cases n
 ·simp
 ·rw[Bool.eq_iff_iff]
  by_cases hp:s.per=0
  ·simp[perB,Lh,FO,EF,FM,inB,hp]
   omega
  ·simp only[perB,Lh,FO,EF,FM,inB,Bool.and_eq_true,Bool.or_eq_true,decide_eq_true_eq,Bool.not_eq_true',beq_eq_false_iff_ne,bne_iff_ne,beq_iff_eq,ne_eq,true_and,if_neg hp]
   omega
theorem B5:∀l:List UInt8,Op.bytesLess l l=false
 |[]=>rfl
 |a::x=>by simp[Op.bytesLess,B5 x]
theorem EO:∀a b:List UInt8,(Op.bytesLess a b||a==b)=!(Op.bytesLess b a)
 |[],[]=>by simp[Op.bytesLess]
 |[],_::_=>by simp[Op.bytesLess]
 |_::_,[]=>by simp[Op.bytesLess]
 |a::x,b::y=>by
  have ih:=EO x y;simp only[Op.bytesLess];rcases Nat.lt_trichotomy a.toNat b.toNat with h|h|h
  ·have h1:a<b:=UInt8.lt_iff_toNat_lt.2 h
   have h2:¬b<a:=λh'=>by have:=UInt8.lt_iff_toNat_lt.1 h';omega
   have h3:(b==a)=false:=by rw[beq_eq_false_iff_ne];intro e;rw[e]at h;omega
   simp[h1,h2,h3]
  ·have e:a=b:=UInt8.toNat_inj.1 h
   subst e;have h2:¬a<a:=λh'=>by have:=UInt8.lt_iff_toNat_lt.1 h';omega
   simp[h2]at ih ⊢;exact ih
  ·have h1:b<a:=UInt8.lt_iff_toNat_lt.2 h
   have h2:¬a<b:=λh'=>by have:=UInt8.lt_iff_toNat_lt.1 h';omega
   have h3:(a==b)=false:=by rw[beq_eq_false_iff_ne];intro e;rw[e]at h;omega
   simp[h1,h2,h3]
theorem Be:∀a b c:List UInt8,Op.bytesLess a b=true->Op.bytesLess b c=true->Op.bytesLess a c=true
 |_,[],_,h,_=>by simp[Op.bytesLess]at h
 |_,_::_,[],_,h=>by simp[Op.bytesLess]at h
 |[],_::_,_::_,_,_=>by simp[Op.bytesLess]
 |a::x,b::y,c::z,h,k=>by
  simp only[Op.bytesLess,Bool.or_eq_true,Bool.and_eq_true,decide_eq_true_eq,beq_iff_eq,UInt8.lt_iff_toNat_lt]at *;rcases h with h|⟨rfl,h⟩
  ·rcases k with k|⟨rfl,k⟩
   ·exact Or.inl (by omega)
   ·exact Or.inl h
  ·rcases k with k|⟨rfl,k⟩
   ·exact Or.inl k
   ·exact Or.inr ⟨rfl,Be x y z h k⟩
end
section
open Go.RowKit Go.Sort
theorem EU(s:Svc)(w:World)(hs:s.name.size<=maxLen):
  Calls Tryz.prog 41 #[.agg #[.string s.name,.int .i64 s.version,.bool s.gone,.int .i64 s.image,.int .i64 s.want,.int .i64 s.down,.int .i64 s.over,.int .i64 s.next,.int .i64 s.per,.int .i64 s.least,.int .i64 s.most,.int .i64 s.load,.int .i64 s.cool]] w λe w'=>e=.returned (.bool (Cq s.name))/\Below w.heap.size w w':=by
 go_enter Tryz.func41,Tryz.ntmps41
 go_wp2_with (first|(go_at_call 47;refine(Du _ _ hs).mono ?_;rintro e w' ⟨rfl,rfl⟩))
 all_goals
  go_ret;exact⟨AR rfl,AM _ _⟩
theorem Ez(s:Svc)(w:World):
  Calls Tryz.prog 42 #[.agg #[.string s.name,.int .i64 s.version,.bool s.gone,.int .i64 s.image,.int .i64 s.want,.int .i64 s.down,.int .i64 s.over,.int .i64 s.next,.int .i64 s.per,.int .i64 s.least,.int .i64 s.most,.int .i64 s.load,.int .i64 s.cool]] w λe w'=>e=.returned (.bool (Lh s))/\Below w.heap.size w w':=by
 go_enter Tryz.func42,Tryz.ntmps42
 go_wp2_with (first|(go_at_call 40;refine(Bg _ _ _ _).mono ?_;rintro e w' ⟨rfl,rfl⟩))
 all_goals
  go_ret;exact⟨AR (by simp[Lh, *]),AM _ _⟩
theorem FN(s:Svc)(w:World):
  Calls Tryz.prog 43 #[.agg #[.string s.name,.int .i64 s.version,.bool s.gone,.int .i64 s.image,.int .i64 s.want,.int .i64 s.down,.int .i64 s.over,.int .i64 s.next,.int .i64 s.per,.int .i64 s.least,.int .i64 s.most,.int .i64 s.load,.int .i64 s.cool]] w λe w'=>e=.returned (.bool (FO s))/\Below w.heap.size w w':=by
 go_enter Tryz.func43,Tryz.ntmps43
 go_wp2_with (first|(go_at_call 40;refine(Bg _ _ _ _).mono ?_;rintro e w' ⟨rfl,rfl⟩))
 all_goals
  go_ret;exact⟨AR (by simp[FO, *]<;>(intro _;rfl)),AM _ _⟩
theorem FC(s:Svc)(w:World):
  Calls Tryz.prog 44 #[.agg #[.string s.name,.int .i64 s.version,.bool s.gone,.int .i64 s.image,.int .i64 s.want,.int .i64 s.down,.int .i64 s.over,.int .i64 s.next,.int .i64 s.per,.int .i64 s.least,.int .i64 s.most,.int .i64 s.load,.int .i64 s.cool]] w λe w'=>e=.returned (.bool (EF s))/\Below w.heap.size w w':=by
 go_enter Tryz.func44,Tryz.ntmps44
 go_wp2_with (first|(go_at_call 40;refine(Bg _ _ _ _).mono ?_;rintro e w' ⟨rfl,rfl⟩))
 all_goals
  go_ret;exact⟨AR (by simp[EF, *]<;>(intro h;exfalso;omega)),AM _ _⟩
theorem Dc(s:Svc)(w:World):
  Calls Tryz.prog 45 #[.agg #[.string s.name,.int .i64 s.version,.bool s.gone,.int .i64 s.image,.int .i64 s.want,.int .i64 s.down,.int .i64 s.over,.int .i64 s.next,.int .i64 s.per,.int .i64 s.least,.int .i64 s.most,.int .i64 s.load,.int .i64 s.cool]] w λe w'=>e=.returned (.bool (FM s))/\Below w.heap.size w w':=by
 go_enter Tryz.func45,Tryz.ntmps45;go_wp2
 all_goals
  go_ret;exact⟨AR (by simp[FM, *]),AM _ _⟩
theorem Gj(B:Bk)(a1 a2 a3:Option Addr)(c1 c2 c3:Nat)(w:World):
  Calls Tryz.prog 23 #[.agg #[.int .i64 B.now,.slice a1 B.svcs.length c1,.slice a2 B.cps.length c2,.slice a3 B.bts.length c3]] w λe w'=>e=.returned (.bool (inB B.now 0 1000000))/\Below w.heap.size w w':=by
 go_enter Tryz.func23,Tryz.ntmps23
 go_wp2_with (go_at_call 40;refine(Bg _ _ _ _).mono ?_;rintro e w' ⟨rfl,rfl⟩)
 go_ret;exact⟨rfl,AM _ _⟩
theorem Fw(B:Bk)(a1 a2 a3:Option Addr)(c1 c2 c3:Nat)(w:World)(hS:B.small):
  Calls Tryz.prog 24 #[.agg #[.int .i64 B.now,.slice a1 B.svcs.length c1,.slice a2 B.cps.length c2,.slice a3 B.bts.length c3]] w λe w'=>e=.returned (.bool (decide (B.svcs.length<=8)&&decide (B.cps.length<=200)&&decide (B.bts.length<=6)))/\Below w.heap.size w w':=by
 obtain⟨hl1,hl2,hl3⟩:=hS;go_enter Tryz.func24,Tryz.ntmps24;go_wp2
 all_goals
  go_ret;exact⟨AR (by rw[Bool.eq_iff_iff];simp;try omega),AM _ _⟩
theorem B4(a b:Cp)(w:World):
  Calls Tryz.prog 49 #[.agg #[.string a.service,.int .i64 a.number,.int .i64 a.version,.int .i64 a.image,.int .i64 a.state,.bool a.ending,.string a.berth],.agg #[.string b.service,.int .i64 b.number,.int .i64 b.version,.int .i64 b.image,.int .i64 b.state,.bool b.ending,.string b.berth]] w λe w'=>e=.returned (.bool (Bu a b))/\Below w.heap.size w w':=by
 have hfin:Below w.heap.size w ((w.alloc (.cells #[.string a.service,.int .i64 a.number,.int .i64 a.version,.int .i64 a.image,.int .i64 a.state,.bool a.ending,.string a.berth] 49)).alloc (.cells #[.string b.service,.int .i64 b.number,.int .i64 b.version,.int .i64 b.image,.int .i64 b.state,.bool b.ending,.string b.berth] 49)):=((Below.refl _ _).alloc (AG _) _).alloc (by simp) _;cases h2:(a.service.toList==b.service.toList)
 ·go_enter Tryz.func49,Tryz.ntmps49
  go_wp2;go_ret;exact⟨AR (by simp[Bu,h2]),hfin⟩
 ·have hirr:Hid (Op.bytesLess a.service.toList b.service.toList=false):=by
   unfold Hid;rw[eq_of_beq h2];exact B5 _
  go_enter Tryz.func49,Tryz.ntmps49;go_wp2;go_ret;exact⟨AR (by simp[Bu,h2,hirr.out]),hfin⟩
theorem BJ(c:Cp)(s:Svc)(now:Int)(w:World):
  Calls Tryz.prog 50 #[.agg #[.string c.service,.int .i64 c.number,.int .i64 c.version,.int .i64 c.image,.int .i64 c.state,.bool c.ending,.string c.berth],.agg #[.string s.name,.int .i64 s.version,.bool s.gone,.int .i64 s.image,.int .i64 s.want,.int .i64 s.down,.int .i64 s.over,.int .i64 s.next,.int .i64 s.per,.int .i64 s.least,.int .i64 s.most,.int .i64 s.load,.int .i64 s.cool],.int .i64 now] w λe w'=>e=.returned (.bool (FF now s c))/\Below w.heap.size w w':=by
 have hfin:Below w.heap.size w ((w.alloc (.cells #[.string c.service,.int .i64 c.number,.int .i64 c.version,.int .i64 c.image,.int .i64 c.state,.bool c.ending,.string c.berth] 49)).alloc (.cells #[.string s.name,.int .i64 s.version,.bool s.gone,.int .i64 s.image,.int .i64 s.want,.int .i64 s.down,.int .i64 s.over,.int .i64 s.next,.int .i64 s.per,.int .i64 s.least,.int .i64 s.most,.int .i64 s.load,.int .i64 s.cool] 29)):=((Below.refl _ _).alloc (AG _) _).alloc (by simp) _;go_enter Tryz.func50,Tryz.ntmps50
 go_wp2_with (go_at_call 40;refine(Bg _ _ _ _).mono ?_;rintro e w' ⟨rfl,rfl⟩)
 all_goals
  go_ret;exact⟨AR (by simp[FF, *]),hfin⟩
theorem F1(B:Bk)(n:ByteArray)(a1 a2 a3:Option Addr)(c1 c2 c3:Nat)(w:World)(hS:B.small)(hB:SlS w a1 B.svcs):
  Calls Tryz.prog 39 #[.agg #[.int .i64 B.now,.slice a1 B.svcs.length c1,.slice a2 B.cps.length c2,.slice a3 B.bts.length c3],.string n] w λe w'=>e=.returned (.int .i64 (idxS B.svcs n))/\Below w.heap.size w w':=by
 obtain⟨hl1,hl2,hl3⟩:=hS;go_enter Tryz.func39,Tryz.ntmps39;go_wp2
 go_loop [5] (λi=>∃k:Nat,k<=B.svcs.length/\i=.int .i64 k/\Hid (∀i,i<k->∀s,B.svcs[i]?=some s->(s.name.toList==n.toList)=false)) (λi=>B.svcs.length - (intOf i).toNat)
 case atStart=>exact⟨0,by omega,rfl,λi hi=>absurd hi (by omega)⟩
 case round=>
  obtain⟨k,hk,rfl,hno⟩:=hrel
  by_cases hlt:k<B.svcs.length
  ·have hne:B.svcs≠[]:=by intro h;rw[h]at hlt;simp at hlt
   obtain⟨b,off,rfl,hbs,hat⟩:=hB hne;obtain⟨s,hsk⟩:∃s,B.svcs[k]?=some s:=⟨B.svcs[k],by simp[hlt]⟩;have HSK:Hid (B.svcs[k]?=some s):=hsk;have hc:=hat k s hsk;unfold SvcAt at hc;have hc0:=hc.1;clear hat hc hsk hne;cases hq:(s.name.toList==n.toList)
   ·go_wp2
    go_round
    case rel=>
     refine⟨k+1,by omega,by go_num,λi hi t ht=>?_⟩;rcases Nat.lt_or_ge i k with h'|h'
     ·exact hno.out i h' t ht
     ·have e:i=k:=by omega
      subst e;rw[HSK.out]at ht;cases ht;exact hq
    case measure=>simp[intOf];omega
   ·go_wp2
    go_ret;exact⟨Eh (GG HSK.out hq hno.out).symm,AM _ _⟩
  ·go_wp2
   go_ret;exact⟨Eh (GF λi s hs=>hno.out i (by have:=(AC hs).1;omega) s hs).symm,AM _ _⟩
theorem Lq(B:Bk)(n:ByteArray)(a1 a2 a3:Option Addr)(c1 c2 c3:Nat)(w:World)(hS:B.small)(hB:SlB w a3 B.bts):
  Calls Tryz.prog 37 #[.agg #[.int .i64 B.now,.slice a1 B.svcs.length c1,.slice a2 B.cps.length c2,.slice a3 B.bts.length c3],.string n] w λe w'=>e=.returned (.int .i64 (idxB B.bts n))/\Below w.heap.size w w':=by
 obtain⟨hl1,hl2,hl3⟩:=hS;go_enter Tryz.func37,Tryz.ntmps37;go_wp2
 go_loop [5] (λi=>∃k:Nat,k<=B.bts.length/\i=.int .i64 k/\Hid (∀i,i<k->∀s,B.bts[i]?=some s->(s.name.toList==n.toList)=false)) (λi=>B.bts.length - (intOf i).toNat)
 case atStart=>exact⟨0,by omega,rfl,λi hi=>absurd hi (by omega)⟩
 case round=>
  obtain⟨k,hk,rfl,hno⟩:=hrel
  by_cases hlt:k<B.bts.length
  ·have hne:B.bts≠[]:=by intro h;rw[h]at hlt;simp at hlt
   obtain⟨b,off,rfl,hbs,hat⟩:=hB hne;obtain⟨s,hsk⟩:∃s,B.bts[k]?=some s:=⟨B.bts[k],by simp[hlt]⟩;have HSK:Hid (B.bts[k]?=some s):=hsk;have hc:=hat k s hsk;unfold BtAt at hc;have hc0:=hc.1;clear hat hc hsk hne;cases hq:(s.name.toList==n.toList)
   ·go_wp2
    go_round
    case rel=>
     refine⟨k+1,by omega,by go_num,λi hi t ht=>?_⟩;rcases Nat.lt_or_ge i k with h'|h'
     ·exact hno.out i h' t ht
     ·have e:i=k:=by omega
      subst e;rw[HSK.out]at ht;cases ht;exact hq
    case measure=>simp[intOf];omega
   ·go_wp2
    go_ret;exact⟨Eh (GG HSK.out hq hno.out).symm,AM _ _⟩
  ·go_wp2
   go_ret;exact⟨Eh (GF λi s hs=>hno.out i (by have:=(AC hs).1;omega) s hs).symm,AM _ _⟩
theorem AK{N:Nat}{w w':World}{k:Nat}{x:Option Obj}(hb:Below N w w')(h:w.heap[k]?=x)(hk:k<N):w'.heap[k]?=x:=(hb.block k hk).trans h
theorem Aa{w:World}{b:Nat}{cs:Array Value}{t:TypeId}{fr:Nat × Nat}(h:w.heap[b]?=some (.cells cs t fr))(o:Nat){v:Value}(hv:cs[o]?=some v):∀p:Regrown,(grow (redrawn w p.d) p.os).cell? ⟨b,o,none⟩=some v:=
 λp=>cell_regrown (AJ h o hv) p.d p.os
theorem B0(w:World)(A B:Obj):((w.alloc A).alloc B).heap[w.heap.size]?=some A/\((w.alloc A).alloc B).heap[w.heap.size+1]?=some B/\((w.alloc A).alloc B).heap.size=w.heap.size+1+1:=by
 have e:((w.alloc A).alloc B).heap=(w.heap.push A).push B:=rfl;rw[e];refine⟨?_,?_,by simp⟩
 ·rw[Array.getElem?_push,if_neg (by simp),Array.getElem?_push,if_pos rfl]
 ·rw[Array.getElem?_push,if_pos (by simp)]
theorem DM(n lo hi:Int)(w:World):
  Calls Tryz.prog 15 #[.int .i64 n,.int .i64 lo,.int .i64 hi] w λe w'=>e=.returned (.bool (inB n lo hi))/\Below w.heap.size w w':=
 (CQ n lo hi w).mono λe w' ⟨he,hw⟩=>⟨he,by rw[hw];exact Below.refl _ _⟩
theorem CJ(B:Bk)(c:Cp)(a1 a2 a3:Option Addr)(c1 c2 c3:Nat)(w:World)(hS:B.small)(hB:BkAt w a1 a2 a3 B):
  Calls Tryz.prog 20 #[.agg #[.int .i64 B.now,.slice a1 B.svcs.length c1,.slice a2 B.cps.length c2,.slice a3 B.bts.length c3],.agg #[.string c.service,.int .i64 c.number,.int .i64 c.version,.int .i64 c.image,.int .i64 c.state,.bool c.ending,.string c.berth]] w λe w'=>e=.returned (.bool (cpB B c))/\Below w.heap.size w w':=by
 obtain⟨t0,t1,t2⟩:=B0 w (.cells #[.int .i64 B.now,.slice a1 B.svcs.length c1,.slice a2 B.cps.length c2,.slice a3 B.bts.length c3] 27) (.cells #[.string c.service,.int .i64 c.number,.int .i64 c.version,.int .i64 c.image,.int .i64 c.state,.bool c.ending,.string c.berth] 49);have hb0:Below w.heap.size w ((w.alloc (.cells #[.int .i64 B.now,.slice a1 B.svcs.length c1,.slice a2 B.cps.length c2,.slice a3 B.bts.length c3] 27)).alloc (.cells #[.string c.service,.int .i64 c.number,.int .i64 c.version,.int .i64 c.image,.int .i64 c.state,.bool c.ending,.string c.berth] 49)):=((Below.refl _ _).alloc (AG _) _).alloc (by simp) _;have T0:Hid _:=t0;have T1:Hid _:=t1;have T2:Hid _:=t2;clear t0 t1 t2
 cases hf:Db B c.service with
 |none=>
  have hcp:Hid (cpB B c=false):=by unfold Hid cpB;rw[hf]
  have hidx:idxS B.svcs c.service= -1:=FB hf;clear hf;go_enter Tryz.func20,Tryz.ntmps20
  go_wp2_with fail
  refine(F1 B c.service a1 a2 a3 c1 c2 c3 _ hS (hB.1.below hb0)).mono ?_;rintro e w1 ⟨rfl,hb1⟩;have hbb1:=hb0.trans (hb1.mono hb0.size);rw[hidx];clear hidx;go_wp2;refine wp_region_quiet_below (by kernel_rfl) (by kernel_rfl) ?_
  repeat (first|go_big_quiet_step (exact Calls.regrown_of (DM _ _ _ _))|quiet_step (exact Calls.regrown_of (DM _ _ _ _)))
  refine wpQuiet_nil ?_;intro w2 hw';obtain⟨⟨dq,osq⟩,hw''⟩:=hw';have hb2:Below w1.heap.size w1 w2:=by rw[hw''];exact below_regrown _ _ _
  clear hw'';go_wp2;go_ret;exact⟨AR hcp.out.symm,hbb1.trans (hb2.mono hbb1.size)⟩
 |some s=>
  have hcp:Hid (cpB B c=(FF B.now s c&&Bq B.bts c)):=by unfold Hid cpB;rw[hf]
  obtain⟨i,hi,hidx⟩:∃i:Nat,B.svcs[i]?=some s/\idxS B.svcs c.service=(i:Int):=GH hf;have hilt:i<B.svcs.length:=(AC hi).1;clear hf;have hne:B.svcs≠[]:=by intro h;rw[h]at hilt;simp at hilt
  obtain⟨b,off,ea1,hbs,hat⟩:=hB.1 hne;subst ea1;go_enter Tryz.func20,Tryz.ntmps20
  go_wp2_with fail
  refine(F1 B c.service _ a2 a3 c1 c2 c3 _ hS (hB.1.below hb0)).mono ?_;rintro e w1 ⟨rfl,hb1⟩;have hbb1:=hb0.trans (hb1.mono hb0.size);rw[hidx];clear hidx;rw[T2.out]at hb1;have T0':Hid _:=AK hb1 T0.out (by omega);have T1':Hid _:=AK hb1 T1.out (by omega);have hz1:w.heap.size+1<w1.heap.size:=by have:=hb1.size;rw[T2.out]at this;omega
  obtain⟨q0,q1,q2,q3,q4,q5,q6,q7,q8,q9,q10,q11,q12⟩:=((hat i s hi).below hbb1 hbs).grown;clear q0 q1 q2 q3 q4 q5 q6 q8 q9 q10 q11 q12;have g0:=Aa T0'.out 0 rfl;have g1:=Aa T0'.out 1 rfl;have k1:=Aa T1'.out 1 rfl;have k2:=Aa T1'.out 2 rfl;have k3:=Aa T1'.out 3 rfl;have k4:=Aa T1'.out 4 rfl;have HAT:Hid _:=hat;have HI:Hid _:=hi;clear hat hi hne hb1;go_wp2;cases h1:inB c.number 1 (wrap64 (s.next - 1))
  ·refine wp_region_quiet_below (by kernel_rfl) (by kernel_rfl) ?_
   repeat (first|go_big_quiet_step (exact Calls.regrown_of (DM _ _ _ _))|quiet_step (exact Calls.regrown_of (DM _ _ _ _)))
   refine wpQuiet_nil ?_;intro w2 hw';obtain⟨⟨dq,osq⟩,hw''⟩:=hw';have hb2:Below w1.heap.size w1 w2:=by rw[hw''];exact below_regrown _ _ _
   clear hw'';go_wp2;go_ret;exact⟨AR (by rw[hcp.out];simp[FF,h1]),hbb1.trans (hb2.mono hbb1.size)⟩
  cases h2:inB c.version 1 B.now
  ·refine wp_region_quiet_below (by kernel_rfl) (by kernel_rfl) ?_
   repeat (first|go_big_quiet_step (exact Calls.regrown_of (DM _ _ _ _))|quiet_step (exact Calls.regrown_of (DM _ _ _ _)))
   refine wpQuiet_nil ?_;intro w2 hw';obtain⟨⟨dq,osq⟩,hw''⟩:=hw';have hb2:Below w1.heap.size w1 w2:=by rw[hw''];exact below_regrown _ _ _
   clear hw'';go_wp2;go_ret;exact⟨AR (by rw[hcp.out];simp[FF,h1,h2]),hbb1.trans (hb2.mono hbb1.size)⟩
  cases h3:inB c.image 1 1000000
  ·refine wp_region_quiet_below (by kernel_rfl) (by kernel_rfl) ?_
   repeat (first|go_big_quiet_step (exact Calls.regrown_of (DM _ _ _ _))|quiet_step (exact Calls.regrown_of (DM _ _ _ _)))
   refine wpQuiet_nil ?_;intro w2 hw';obtain⟨⟨dq,osq⟩,hw''⟩:=hw';have hb2:Below w1.heap.size w1 w2:=by rw[hw''];exact below_regrown _ _ _
   clear hw'';go_wp2;go_ret;exact⟨AR (by rw[hcp.out];simp[FF,h1,h2,h3]),hbb1.trans (hb2.mono hbb1.size)⟩
  cases h4:inB c.state 1 4
  ·refine wp_region_quiet_below (by kernel_rfl) (by kernel_rfl) ?_
   repeat (first|go_big_quiet_step (exact Calls.regrown_of (DM _ _ _ _))|quiet_step (exact Calls.regrown_of (DM _ _ _ _)))
   refine wpQuiet_nil ?_;intro w2 hw';obtain⟨⟨dq,osq⟩,hw''⟩:=hw';have hb2:Below w1.heap.size w1 w2:=by rw[hw''];exact below_regrown _ _ _
   clear hw'';go_wp2;go_ret;exact⟨AR (by rw[hcp.out];simp[FF,h1,h2,h3,h4]),hbb1.trans (hb2.mono hbb1.size)⟩
  refine wp_region_quiet_below (by kernel_rfl) (by kernel_rfl) ?_
  repeat (first|go_big_quiet_step (exact Calls.regrown_of (DM _ _ _ _))|quiet_step (exact Calls.regrown_of (DM _ _ _ _)))
  refine wpQuiet_nil ?_;intro w2 hw';obtain⟨⟨dq,osq⟩,hw''⟩:=hw';have hb2:Below w1.heap.size w1 w2:=by rw[hw''];exact below_regrown _ _ _
  clear hw'';have hcp2:Hid (cpB B c=Bq B.bts c):=by unfold Hid;rw[hcp.out];simp[FF,h1,h2,h3,h4]
  have hbb2:=hbb1.trans (hb2.mono hbb1.size);have T0'':Hid _:=AK hb2 T0'.out (by omega);have T1'':Hid _:=AK hb2 T1'.out (by omega);clear g0 g1 k1 k2 k3 k4 h1 h2 h3 h4 q7;have m0:=AJ T0''.out 0 rfl;have m1:=AJ T0''.out 1 rfl;have m2:=AJ T0''.out 2 rfl;have m3:=AJ T0''.out 3 rfl;have n4:=AJ T1''.out 4 rfl;have n6:=AJ T1''.out 6 rfl
  by_cases h5:c.state=1
  ·have H5:Hid (c.state=1):=h5
   have h5':(c.state==1)=true:=by simp[h5]
   clear h5;go_wp2;go_ret;exact⟨AR (by rw[hcp2.out];simp[Bq,H5.out]),hbb2⟩
  ·have H5:Hid (¬c.state=1):=h5
   have h5':(c.state==1)=false:=by simp[h5]
   clear h5
   go_wp2_with fail
   refine(Lq B c.berth _ a2 a3 c1 c2 c3 _ hS (hB.2.2.below hbb2)).mono ?_;rintro e w3 ⟨rfl,hb3⟩;have HG:Hid (decide (0<=idxB B.bts c.berth)=B.bts.any λb=>b.name.toList==c.berth.toList):=Lu _ _;generalize idxB B.bts c.berth=z at *;go_wp2;go_ret;exact⟨AR (by rw[hcp2.out];simp[Bq,H5.out,<-HG.out]),hbb2.trans (hb3.mono hbb2.size)⟩
end
end Go.Proofs.YtbceafpodamnfaaGreat
