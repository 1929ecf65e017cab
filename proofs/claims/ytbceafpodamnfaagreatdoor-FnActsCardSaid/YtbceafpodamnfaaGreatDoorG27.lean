import Derived.Test.YtbceafpodamnfaaGreatDoorG26
set_option linter.all false
set_option maxHeartbeats 8000000
set_option maxRecDepth 100000
namespace Go.Proofs.YtbceafpodamnfaaGreatDoor
open Go.RowKit Go.Extern.Stop Go.Stop Go.Extern
theorem as_own(c:Int)(F:Nat)(aW:Value)(w:World)(hg:Ja w)(ht:qBl w F #[aW] 153):
  Calls Tryz.prog 101 #[QL c,.iface 155 (.pointer (qad F))] w λe w'=>e=.returned (.bool true)/\qBl w' F #[.int .i64 c] 153/\∀N,N<=F->N<=w.heap.size->Below N w w':=by
 unfold Ja at hg;unfold QL;have h6:= @ei Tryz.prog 195 _ (λargs=>ReflectliteValue.unpack (args.getD 0 (.tuple #[]))) Tryz.func195 (by kernel_rfl) (by kernel_rfl) (by kernel_rfl) (by kernel_rfl);have h7:= @ei Tryz.prog 196 _ (ReflectliteValue.methodAny (ReflectliteValue.valueError "reflectlite.Value.Type" 0) (λt _ _ _=>ReflectliteType.toType t)) Tryz.func196 (by kernel_rfl) (by kernel_rfl) (by kernel_rfl) (by kernel_rfl);have h8:= @ei Tryz.prog 197 _ (ReflectliteValue.method (ReflectliteValue.valueError "reflectlite.Value.IsNil" 0) ReflectliteValue.isNil) Tryz.func197 (by kernel_rfl) (by kernel_rfl) (by kernel_rfl) (by kernel_rfl);have aC:= @ei Tryz.prog 403 _ (ReflectliteType.abiMethod λt=>do pure (.int .u8 (<-Rtype.kind t))) Tryz.func403 (by kernel_rfl) (by kernel_rfl) (by kernel_rfl) (by kernel_rfl);have ar:= @ei Tryz.prog 416 _ (ReflectliteType.method ReflectliteType.elem) Tryz.func416 (by kernel_rfl) (by kernel_rfl) (by kernel_rfl) (by kernel_rfl);have av:= @ei Tryz.prog 417 _ (ReflectliteType.relation "Implements" ReflectliteType.implements_) Tryz.func417 (by kernel_rfl) (by kernel_rfl) (by kernel_rfl) (by kernel_rfl);have f1:=Ga;have f2:=Lp;have f3:=Fc;have f4:=Js;have f5:=Jt;have f6:=Fd;have f7:=De;have f8:=Df;have f9:=Lq;have aw:=Fe
 have an:0<w.heap.size:=by
  rcases gk w.heap.size with h0|h
  ·simp[World.cell?,h0]at hg
  ·exact h
 have am:F<w.heap.size:=(AB ht).1;obtain⟨J,Y⟩:∃W,w.alloc (.cells #[.pointer (qad F)] 155)=W:=⟨_,rfl⟩;have t1:qBl J (w.heap.size) #[.pointer (qad F)] 155:=by rw[<-Y];exact dm _ _
 have b1:Below w.heap.size w J:=by rw[<-Y];exact AN _ _
 have z1:w.heap.size<J.heap.size:=(AB t1).1;obtain⟨M,Z⟩:∃W,J.alloc (.cells #[.pointer (some ⟨9,155,none⟩),.pointer (some ⟨w.heap.size,0,none⟩),.int .u64 150] 232)=W:=⟨_,rfl⟩;have t2:qBl M (J.heap.size) #[.pointer (some ⟨9,155,none⟩),.pointer (some ⟨w.heap.size,0,none⟩),.int .u64 150] 232:=by rw[<-Z];exact dm _ _
 have b2:Below J.heap.size J M:=by rw[<-Z];exact AN _ _
 have H:=b1.trans (b2.mono b1.size);have n8:=PW ⟨w.heap.size,0,none⟩ ⟨F,0,none⟩ M (AJ (AK b2 t1 (by omega)) 0 rfl);have ak:M.cell? ⟨0,0,none⟩=some (.iface 298 (.agg #[.pointer (some ⟨9,127,none⟩)])):=(H.cell (p:=⟨0,0,none⟩) an).trans hg;have hm:=ak;have c0:=AJ t2 0 rfl;have c1:=AJ t2 1 rfl;have c2:=AJ t2 2 rfl;have HT:Hid (qBl M F #[aW] 153):=AK H ht am;have HV:Hid (qBl M (w.heap.size) #[.pointer (qad F)] 155):=AK b2 t1 z1;clear t1 t2 b1 b2 ht hg;go_enter Tryz.func101,Tryz.ntmps101
 go_wp2_with (go_at_call 198;refine(as_in c F w.heap.size aW M HT.O HV.O).mono ?_;rintro e w3 ⟨rfl,h3,h4⟩)
 go_ret;exact⟨rfl,h3,λN h1 h2=>(H.mono h2).trans (h4 N h1 (AH h2 H.size))⟩
end Go.Proofs.YtbceafpodamnfaaGreatDoor
