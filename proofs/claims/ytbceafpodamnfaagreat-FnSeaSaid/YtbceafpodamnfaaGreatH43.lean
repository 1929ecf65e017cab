import Derived.Test.YtbceafpodamnfaaGreatH42
set_option linter.all false
set_option maxHeartbeats 16000000
set_option maxRecDepth 100000
namespace Go.Proofs.YtbceafpodamnfaaGreat
open Go.RowKit Go.Sort
theorem Tryz.infosEvt1:(Tryz.prog.info? 90).map (·.size)=some 1:=by kernel_rfl
theorem happen1(B:Bk)(E:Ev)(N A:Nat)(a1 a2 a3:Option Addr)(k1 k2 k3:Nat)(w:World)(hF:Fit B)(hP:Cf B)(hE:E.sized)(hn:B.now<=1000000)(hN:N<=w.heap.size)(hV:BkVar w N A B a1 a2 a3 k1 k2 k3):
  Calls Tryz.prog 32 #[.iface 90 (.agg #[.pointer (some ⟨A,0,none⟩)]),.int .i64 B.now] w λe w'=>e=.returned (.int .i64 (0))/\(∃b1 b2 b3 d1 d2 d3,BkVar w' N A (Ca B B.now) b1 b2 b3 d1 d2 d3)/\Below N w w':=by
 obtain⟨cd,HCD⟩:∃cd:Int,Hid ((0)=cd):=⟨_,rfl⟩;rw[show(0)=cd from HCD.out];obtain⟨w1,hw1⟩:∃W,w.alloc (.cells #[.pointer none] 90)=W:=⟨_,rfl⟩;have hb1:=AM w (.cells #[.pointer none] 90);obtain⟨sb,hsbe⟩:∃q,w.heap.size=q:=⟨_,rfl⟩;have S1:Hid (w1.heap[sb]?=some (.cells #[.pointer none] 90 (0,0))):=by unfold Hid;rw[<-hw1,<-hsbe];exact heap_alloc_new w (.cells #[.pointer none] 90)
 rw[hw1]at hb1;have hsb:w.heap.size<=sb:=by omega
 have hsb':sb<=w.heap.size:=by omega
 have V:=Ah hV;clear hV;have ta1:∀(v:Value) (w:World),(Instr.typeAssert (.iface 90 v) 20 90 true).run Tryz.prog w=.ok (.tuple #[v,.bool true]) w:=λv w=>by kernel_rfl
 go_enter Tryz.func32,Tryz.ntmps32
 go_upto_region 6 with fail
 go_upto_region 8 with(refine AL rfl 90 (.tmp 5) (.tmp 20) rfl sb 0 #[.pointer (some ⟨A,0,none⟩)] rfl rfl 90 #[.pointer none] S1.out Tryz.infosEvt1 (AD rfl) (by simp[Value.oneCell']) ?_;intro w2 hz on;have S2:Hid (w2.heap[sb]?=some (.cells #[.pointer (some ⟨A,0,none⟩)] 90 (0,0))):=hz;have hb2:Below w.heap.size w w2:=hb1.trans (on.below.mono' hsb);clear hz on)
 clear hw1 hsbe S1 hb1;have V2:=Ah (V.out.below hb2);have HNN:Hid (N<=w2.heap.size):=AH hN hb2.size;clear V;have s0:=AJ S2.out 0 rfl
 go_wp2_with fail
 refine(pass_any B N A a1 a2 a3 k1 k2 k3 w2 hF hP HNN.out V2.out).mono ?_;rintro e w3 ⟨rfl,hv3,hb3⟩;have HV3:Hid (∃b1 b2 b3 d1 d2 d3,BkVar w3 N A (Ca B B.now) b1 b2 b3 d1 d2 d3):=hv3;have hb4:=(hb2.mono' hN).trans hb3;clear hv3 hb3 hb2 V2 S2 s0
 skip
 go_wp2;go_ret;exact⟨by rw[<-HCD.out];rfl,HV3.out,hb4⟩
theorem Tryz.infosEvt2:(Tryz.prog.info? 92).map (·.size)=some 14:=by kernel_rfl
theorem happen2(B:Bk)(E:Ev)(N A:Nat)(a1 a2 a3:Option Addr)(k1 k2 k3:Nat)(w:World)(hF:Fit B)(hE:E.sized)(hn:B.now<=1000000)(hN:N<=w.heap.size)(hV:BkVar w N A B a1 a2 a3 k1 k2 k3):
  Calls Tryz.prog 32 #[.iface 92 (.agg #[.pointer (some ⟨A,0,none⟩),.string E.service.name,.int .i64 E.service.version,.bool E.service.gone,.int .i64 E.service.image,.int .i64 E.service.want,.int .i64 E.service.down,.int .i64 E.service.over,.int .i64 E.service.next,.int .i64 E.service.per,.int .i64 E.service.least,.int .i64 E.service.most,.int .i64 E.service.load,.int .i64 E.service.cool]),.int .i64 B.now] w λe w'=>e=.returned (.int .i64 (CZ (CB B E.service B.now,0)))/\(∃b1 b2 b3 d1 d2 d3,BkVar w' N A (CB B E.service B.now) b1 b2 b3 d1 d2 d3)/\Below N w w':=by
 obtain⟨cd,HCD⟩:∃cd:Int,Hid ((CZ (CB B E.service B.now,0))=cd):=⟨_,rfl⟩;rw[show(CZ (CB B E.service B.now,0))=cd from HCD.out];obtain⟨w1,hw1⟩:∃W,w.alloc (.cells #[.pointer none,.string ⟨#[]⟩,.int .i64 0,.bool false,.int .i64 0,.int .i64 0,.int .i64 0,.int .i64 0,.int .i64 0,.int .i64 0,.int .i64 0,.int .i64 0,.int .i64 0,.int .i64 0] 92)=W:=⟨_,rfl⟩;have hb1:=AM w (.cells #[.pointer none,.string ⟨#[]⟩,.int .i64 0,.bool false,.int .i64 0,.int .i64 0,.int .i64 0,.int .i64 0,.int .i64 0,.int .i64 0,.int .i64 0,.int .i64 0,.int .i64 0,.int .i64 0] 92);obtain⟨sb,hsbe⟩:∃q,w.heap.size=q:=⟨_,rfl⟩;have S1:Hid (w1.heap[sb]?=some (.cells #[.pointer none,.string ⟨#[]⟩,.int .i64 0,.bool false,.int .i64 0,.int .i64 0,.int .i64 0,.int .i64 0,.int .i64 0,.int .i64 0,.int .i64 0,.int .i64 0,.int .i64 0,.int .i64 0] 92 (0,0))):=by unfold Hid;rw[<-hw1,<-hsbe];exact heap_alloc_new w (.cells #[.pointer none,.string ⟨#[]⟩,.int .i64 0,.bool false,.int .i64 0,.int .i64 0,.int .i64 0,.int .i64 0,.int .i64 0,.int .i64 0,.int .i64 0,.int .i64 0,.int .i64 0,.int .i64 0] 92)
 rw[hw1]at hb1;have hsb:w.heap.size<=sb:=by omega
 have hsb':sb<=w.heap.size:=by omega
 have V:=Ah hV;clear hV;have ta1:∀(v:Value) (w:World),(Instr.typeAssert (.iface 92 v) 20 90 true).run Tryz.prog w=.ok (.tuple #[.agg #[.pointer none],.bool false]) w:=λv w=>by kernel_rfl
 have ta2:∀(v:Value) (w:World),(Instr.typeAssert (.iface 92 v) 20 92 true).run Tryz.prog w=.ok (.tuple #[v,.bool true]) w:=λv w=>by kernel_rfl
 go_enter Tryz.func32,Tryz.ntmps32
 go_upto_region 9 with fail
 go_upto_region 11 with(refine AL rfl 92 (.tmp 6) (.tmp 25) rfl sb 0 #[.pointer (some ⟨A,0,none⟩),.string E.service.name,.int .i64 E.service.version,.bool E.service.gone,.int .i64 E.service.image,.int .i64 E.service.want,.int .i64 E.service.down,.int .i64 E.service.over,.int .i64 E.service.next,.int .i64 E.service.per,.int .i64 E.service.least,.int .i64 E.service.most,.int .i64 E.service.load,.int .i64 E.service.cool] rfl rfl 92 #[.pointer none,.string ⟨#[]⟩,.int .i64 0,.bool false,.int .i64 0,.int .i64 0,.int .i64 0,.int .i64 0,.int .i64 0,.int .i64 0,.int .i64 0,.int .i64 0,.int .i64 0,.int .i64 0] S1.out Tryz.infosEvt2 (AD rfl) (by simp[Value.oneCell']) ?_;intro w2 hz on;have S2:Hid (w2.heap[sb]?=some (.cells #[.pointer (some ⟨A,0,none⟩),.string E.service.name,.int .i64 E.service.version,.bool E.service.gone,.int .i64 E.service.image,.int .i64 E.service.want,.int .i64 E.service.down,.int .i64 E.service.over,.int .i64 E.service.next,.int .i64 E.service.per,.int .i64 E.service.least,.int .i64 E.service.most,.int .i64 E.service.load,.int .i64 E.service.cool] 92 (0,0))):=hz;have hb2:Below w.heap.size w w2:=hb1.trans (on.below.mono' hsb);clear hz on)
 clear hw1 hsbe S1 hb1;have V2:=Ah (V.out.below hb2);have HNN:Hid (N<=w2.heap.size):=AH hN hb2.size;clear V;have s0:=AJ S2.out 0 rfl;have s1:=AJ S2.out 1 rfl;have s2:=AJ S2.out 2 rfl;have s3:=AJ S2.out 3 rfl;have s4:=AJ S2.out 4 rfl;have s5:=AJ S2.out 5 rfl;have s6:=AJ S2.out 6 rfl;have s7:=AJ S2.out 7 rfl;have s8:=AJ S2.out 8 rfl;have s9:=AJ S2.out 9 rfl;have s10:=AJ S2.out 10 rfl;have s11:=AJ S2.out 11 rfl;have s12:=AJ S2.out 12 rfl;have s13:=AJ S2.out 13 rfl
 go_wp2_with fail
 refine(put_any B E.service N A a1 a2 a3 k1 k2 k3 w2 hF hE.1 HNN.out V2.out).mono ?_;rintro e w3 ⟨rfl,hv3,hb3⟩;have HV3:Hid (∃b1 b2 b3 d1 d2 d3,BkVar w3 N A (CB B E.service B.now) b1 b2 b3 d1 d2 d3):=hv3;have hb4:=(hb2.mono' hN).trans hb3;clear hv3 hb3 hb2 V2 S2 s0 s1 s2 s3 s4 s5 s6 s7 s8 s9 s10 s11 s12 s13;rw[show(CZ (CB B E.service B.now,0))=cd from HCD.out];go_wp2;go_ret;exact⟨rfl,HV3.out,hb4⟩
theorem Tryz.infosEvt3:(Tryz.prog.info? 97).map (·.size)=some 3:=by kernel_rfl
theorem happen3(B:Bk)(E:Ev)(N A:Nat)(a1 a2 a3:Option Addr)(k1 k2 k3:Nat)(w:World)(hF:Fit B)(hwc:wfC B)(huc:GQ B)(hwf:(Lit.int .i64 E.number).wf=true)(hE:E.sized)(hn:B.now<=1000000)(hN:N<=w.heap.size)(hV:BkVar w N A B a1 a2 a3 k1 k2 k3):
  Calls Tryz.prog 32 #[.iface 97 (.agg #[.pointer (some ⟨A,0,none⟩),.string E.name,.int .i64 E.number]),.int .i64 B.now] w λe w'=>e=.returned (.int .i64 ((Bm B E.name E.number B.now).2))/\((Bm B E.name E.number B.now).2=0->∃b1 b2 b3 d1 d2 d3,BkVar w' N A ((Bm B E.name E.number B.now).1) b1 b2 b3 d1 d2 d3)/\Below N w w':=by
 obtain⟨cd,HCD⟩:∃cd:Int,Hid (((Bm B E.name E.number B.now).2)=cd):=⟨_,rfl⟩;rw[show((Bm B E.name E.number B.now).2)=cd from HCD.out];obtain⟨w1,hw1⟩:∃W,w.alloc (.cells #[.pointer none,.string ⟨#[]⟩,.int .i64 0] 97)=W:=⟨_,rfl⟩;have hb1:=AM w (.cells #[.pointer none,.string ⟨#[]⟩,.int .i64 0] 97);obtain⟨sb,hsbe⟩:∃q,w.heap.size=q:=⟨_,rfl⟩;have S1:Hid (w1.heap[sb]?=some (.cells #[.pointer none,.string ⟨#[]⟩,.int .i64 0] 97 (0,0))):=by unfold Hid;rw[<-hw1,<-hsbe];exact heap_alloc_new w (.cells #[.pointer none,.string ⟨#[]⟩,.int .i64 0] 97)
 rw[hw1]at hb1;have hsb:w.heap.size<=sb:=by omega
 have hsb':sb<=w.heap.size:=by omega
 have V:=Ah hV;clear hV;have ta1:∀(v:Value) (w:World),(Instr.typeAssert (.iface 97 v) 20 90 true).run Tryz.prog w=.ok (.tuple #[.agg #[.pointer none],.bool false]) w:=λv w=>by kernel_rfl
 have ta2:∀(v:Value) (w:World),(Instr.typeAssert (.iface 97 v) 20 92 true).run Tryz.prog w=.ok (.tuple #[.agg #[.pointer none,.string ⟨#[]⟩,.int .i64 0,.bool false,.int .i64 0,.int .i64 0,.int .i64 0,.int .i64 0,.int .i64 0,.int .i64 0,.int .i64 0,.int .i64 0,.int .i64 0,.int .i64 0],.bool false]) w:=λv w=>by kernel_rfl
 have ta3:∀(v:Value) (w:World),(Instr.typeAssert (.iface 97 v) 20 97 true).run Tryz.prog w=.ok (.tuple #[v,.bool true]) w:=λv w=>by kernel_rfl
 go_enter Tryz.func32,Tryz.ntmps32
 go_upto_region 12 with fail
 go_upto_region 14 with(refine AL rfl 97 (.tmp 7) (.tmp 30) rfl sb 0 #[.pointer (some ⟨A,0,none⟩),.string E.name,.int .i64 E.number] rfl rfl 97 #[.pointer none,.string ⟨#[]⟩,.int .i64 0] S1.out Tryz.infosEvt3 (AD rfl) (by simp[Value.oneCell']) ?_;intro w2 hz on;have S2:Hid (w2.heap[sb]?=some (.cells #[.pointer (some ⟨A,0,none⟩),.string E.name,.int .i64 E.number] 97 (0,0))):=hz;have hb2:Below w.heap.size w w2:=hb1.trans (on.below.mono' hsb);clear hz on)
 clear hw1 hsbe S1 hb1;have V2:=Ah (V.out.below hb2);have HNN:Hid (N<=w2.heap.size):=AH hN hb2.size;clear V;have s0:=AJ S2.out 0 rfl;have s1:=AJ S2.out 1 rfl;have s2:=AJ S2.out 2 rfl
 go_wp2_with fail
 refine(MO B E.name E.number N A a1 a2 a3 k1 k2 k3 w2 hF hwc huc hwf hE.2 HNN.out V2.out).mono ?_;rintro e w3 ⟨rfl,hv3,hb3⟩;rw[HCD.out]at hv3;have HV3:Hid (cd=0->∃b1 b2 b3 d1 d2 d3,BkVar w3 N A ((Bm B E.name E.number B.now).1) b1 b2 b3 d1 d2 d3):=hv3;have hb4:=(hb2.mono' hN).trans hb3;clear hv3 hb3 hb2 V2 S2 s0 s1 s2;rw[show((Bm B E.name E.number B.now).2)=cd from HCD.out];go_wp2;go_ret;exact⟨rfl,HV3.out,hb4⟩
theorem Tryz.infosEvt4:(Tryz.prog.info? 99).map (·.size)=some 2:=by kernel_rfl
theorem happen4(B:Bk)(E:Ev)(N A:Nat)(a1 a2 a3:Option Addr)(k1 k2 k3:Nat)(w:World)(hF:Fit B)(hE:E.sized)(hn:B.now<=1000000)(hN:N<=w.heap.size)(hV:BkVar w N A B a1 a2 a3 k1 k2 k3):
  Calls Tryz.prog 32 #[.iface 99 (.agg #[.pointer (some ⟨A,0,none⟩),.string E.name]),.int .i64 B.now] w λe w'=>e=.returned (.int .i64 ((sinkB B E.name B.now).2))/\((sinkB B E.name B.now).2=0->∃b1 b2 b3 d1 d2 d3,BkVar w' N A ((sinkB B E.name B.now).1) b1 b2 b3 d1 d2 d3)/\Below N w w':=by
 obtain⟨cd,HCD⟩:∃cd:Int,Hid (((sinkB B E.name B.now).2)=cd):=⟨_,rfl⟩;rw[show((sinkB B E.name B.now).2)=cd from HCD.out];obtain⟨w1,hw1⟩:∃W,w.alloc (.cells #[.pointer none,.string ⟨#[]⟩] 99)=W:=⟨_,rfl⟩;have hb1:=AM w (.cells #[.pointer none,.string ⟨#[]⟩] 99);obtain⟨sb,hsbe⟩:∃q,w.heap.size=q:=⟨_,rfl⟩;have S1:Hid (w1.heap[sb]?=some (.cells #[.pointer none,.string ⟨#[]⟩] 99 (0,0))):=by unfold Hid;rw[<-hw1,<-hsbe];exact heap_alloc_new w (.cells #[.pointer none,.string ⟨#[]⟩] 99)
 rw[hw1]at hb1;have hsb:w.heap.size<=sb:=by omega
 have hsb':sb<=w.heap.size:=by omega
 have V:=Ah hV;clear hV;have ta1:∀(v:Value) (w:World),(Instr.typeAssert (.iface 99 v) 20 90 true).run Tryz.prog w=.ok (.tuple #[.agg #[.pointer none],.bool false]) w:=λv w=>by kernel_rfl
 have ta2:∀(v:Value) (w:World),(Instr.typeAssert (.iface 99 v) 20 92 true).run Tryz.prog w=.ok (.tuple #[.agg #[.pointer none,.string ⟨#[]⟩,.int .i64 0,.bool false,.int .i64 0,.int .i64 0,.int .i64 0,.int .i64 0,.int .i64 0,.int .i64 0,.int .i64 0,.int .i64 0,.int .i64 0,.int .i64 0],.bool false]) w:=λv w=>by kernel_rfl
 have ta3:∀(v:Value) (w:World),(Instr.typeAssert (.iface 99 v) 20 97 true).run Tryz.prog w=.ok (.tuple #[.agg #[.pointer none,.string ⟨#[]⟩,.int .i64 0],.bool false]) w:=λv w=>by kernel_rfl
 have ta4:∀(v:Value) (w:World),(Instr.typeAssert (.iface 99 v) 20 99 true).run Tryz.prog w=.ok (.tuple #[v,.bool true]) w:=λv w=>by kernel_rfl
 go_enter Tryz.func32,Tryz.ntmps32
 go_upto_region 15 with fail
 go_upto_region 17 with(refine AL rfl 99 (.tmp 8) (.tmp 35) rfl sb 0 #[.pointer (some ⟨A,0,none⟩),.string E.name] rfl rfl 99 #[.pointer none,.string ⟨#[]⟩] S1.out Tryz.infosEvt4 (AD rfl) (by simp[Value.oneCell']) ?_;intro w2 hz on;have S2:Hid (w2.heap[sb]?=some (.cells #[.pointer (some ⟨A,0,none⟩),.string E.name] 99 (0,0))):=hz;have hb2:Below w.heap.size w w2:=hb1.trans (on.below.mono' hsb);clear hz on)
 clear hw1 hsbe S1 hb1;have V2:=Ah (V.out.below hb2);have HNN:Hid (N<=w2.heap.size):=AH hN hb2.size;clear V;have s0:=AJ S2.out 0 rfl;have s1:=AJ S2.out 1 rfl
 go_wp2_with fail
 refine(sink_any B E.name N A a1 a2 a3 k1 k2 k3 w2 hF hE.2 HNN.out V2.out).mono ?_;rintro e w3 ⟨rfl,hv3,hb3⟩;rw[HCD.out]at hv3;have HV3:Hid (cd=0->∃b1 b2 b3 d1 d2 d3,BkVar w3 N A ((sinkB B E.name B.now).1) b1 b2 b3 d1 d2 d3):=hv3;have hb4:=(hb2.mono' hN).trans hb3;clear hv3 hb3 hb2 V2 S2 s0 s1;rw[show((sinkB B E.name B.now).2)=cd from HCD.out];go_wp2;go_ret;exact⟨rfl,HV3.out,hb4⟩
theorem Tryz.infosEvt5:(Tryz.prog.info? 101).map (·.size)=some 3:=by kernel_rfl
theorem happen5(B:Bk)(E:Ev)(N A:Nat)(a1 a2 a3:Option Addr)(k1 k2 k3:Nat)(w:World)(hF:Fit B)(hE:E.sized)(hn:B.now<=1000000)(hN:N<=w.heap.size)(hV:BkVar w N A B a1 a2 a3 k1 k2 k3):
  Calls Tryz.prog 32 #[.iface 101 (.agg #[.pointer (some ⟨A,0,none⟩),.string E.name,.bool E.flag]),.int .i64 B.now] w λe w'=>e=.returned (.int .i64 (if AX (CC B E.name E.flag)=true then 0 else 2))/\(∃b1 b2 b3 d1 d2 d3,BkVar w' N A (CC B E.name E.flag) b1 b2 b3 d1 d2 d3)/\Below N w w':=by
 obtain⟨cd,HCD⟩:∃cd:Int,Hid ((if AX (CC B E.name E.flag)=true then 0 else 2)=cd):=⟨_,rfl⟩;rw[show(if AX (CC B E.name E.flag)=true then 0 else 2)=cd from HCD.out];obtain⟨w1,hw1⟩:∃W,w.alloc (.cells #[.pointer none,.string ⟨#[]⟩,.bool false] 101)=W:=⟨_,rfl⟩;have hb1:=AM w (.cells #[.pointer none,.string ⟨#[]⟩,.bool false] 101);obtain⟨sb,hsbe⟩:∃q,w.heap.size=q:=⟨_,rfl⟩;have S1:Hid (w1.heap[sb]?=some (.cells #[.pointer none,.string ⟨#[]⟩,.bool false] 101 (0,0))):=by unfold Hid;rw[<-hw1,<-hsbe];exact heap_alloc_new w (.cells #[.pointer none,.string ⟨#[]⟩,.bool false] 101)
 rw[hw1]at hb1;have hsb:w.heap.size<=sb:=by omega
 have hsb':sb<=w.heap.size:=by omega
 have V:=Ah hV;clear hV;have ta1:∀(v:Value) (w:World),(Instr.typeAssert (.iface 101 v) 20 90 true).run Tryz.prog w=.ok (.tuple #[.agg #[.pointer none],.bool false]) w:=λv w=>by kernel_rfl
 have ta2:∀(v:Value) (w:World),(Instr.typeAssert (.iface 101 v) 20 92 true).run Tryz.prog w=.ok (.tuple #[.agg #[.pointer none,.string ⟨#[]⟩,.int .i64 0,.bool false,.int .i64 0,.int .i64 0,.int .i64 0,.int .i64 0,.int .i64 0,.int .i64 0,.int .i64 0,.int .i64 0,.int .i64 0,.int .i64 0],.bool false]) w:=λv w=>by kernel_rfl
 have ta3:∀(v:Value) (w:World),(Instr.typeAssert (.iface 101 v) 20 97 true).run Tryz.prog w=.ok (.tuple #[.agg #[.pointer none,.string ⟨#[]⟩,.int .i64 0],.bool false]) w:=λv w=>by kernel_rfl
 have ta4:∀(v:Value) (w:World),(Instr.typeAssert (.iface 101 v) 20 99 true).run Tryz.prog w=.ok (.tuple #[.agg #[.pointer none,.string ⟨#[]⟩],.bool false]) w:=λv w=>by kernel_rfl
 have ta5:∀(v:Value) (w:World),(Instr.typeAssert (.iface 101 v) 20 101 true).run Tryz.prog w=.ok (.tuple #[v,.bool true]) w:=λv w=>by kernel_rfl
 go_enter Tryz.func32,Tryz.ntmps32
 go_upto_region 18 with fail
 go_upto_region 20 with(refine AL rfl 101 (.tmp 9) (.tmp 40) rfl sb 0 #[.pointer (some ⟨A,0,none⟩),.string E.name,.bool E.flag] rfl rfl 101 #[.pointer none,.string ⟨#[]⟩,.bool false] S1.out Tryz.infosEvt5 (AD rfl) (by simp[Value.oneCell']) ?_;intro w2 hz on;have S2:Hid (w2.heap[sb]?=some (.cells #[.pointer (some ⟨A,0,none⟩),.string E.name,.bool E.flag] 101 (0,0))):=hz;have hb2:Below w.heap.size w w2:=hb1.trans (on.below.mono' hsb);clear hz on)
 clear hw1 hsbe S1 hb1;have V2:=Ah (V.out.below hb2);have HNN:Hid (N<=w2.heap.size):=AH hN hb2.size;clear V;have s0:=AJ S2.out 0 rfl;have s1:=AJ S2.out 1 rfl;have s2:=AJ S2.out 2 rfl
 go_wp2_with fail
 refine(OP B E.name E.flag N A a1 a2 a3 k1 k2 k3 w2 hF hE.2 HNN.out V2.out).mono ?_;rintro e w3 ⟨rfl,hv3,hb3⟩;have HV3:Hid (∃b1 b2 b3 d1 d2 d3,BkVar w3 N A (CC B E.name E.flag) b1 b2 b3 d1 d2 d3):=hv3;have hb4:=(hb2.mono' hN).trans hb3;clear hv3 hb3 hb2 V2 S2 s0 s1 s2;rw[show(if AX (CC B E.name E.flag)=true then 0 else 2)=cd from HCD.out];go_wp2;go_ret;exact⟨rfl,HV3.out,hb4⟩
theorem Tryz.infosEvt6:(Tryz.prog.info? 103).map (·.size)=some 3:=by kernel_rfl
theorem happen6(B:Bk)(E:Ev)(N A:Nat)(a1 a2 a3:Option Addr)(k1 k2 k3:Nat)(w:World)(hF:Fit B)(hE:E.sized)(hn:B.now<=1000000)(hN:N<=w.heap.size)(hV:BkVar w N A B a1 a2 a3 k1 k2 k3):
  Calls Tryz.prog 32 #[.iface 103 (.agg #[.pointer (some ⟨A,0,none⟩),.string E.name,.int .i64 E.number]),.int .i64 B.now] w λe w'=>e=.returned (.int .i64 (CZ (Bb B E.name E.number B.now)))/\((Bb B E.name E.number B.now).2=0->∃b1 b2 b3 d1 d2 d3,BkVar w' N A ((Bb B E.name E.number B.now).1) b1 b2 b3 d1 d2 d3)/\Below N w w':=by
 obtain⟨cd,HCD⟩:∃cd:Int,Hid ((CZ (Bb B E.name E.number B.now))=cd):=⟨_,rfl⟩;rw[show(CZ (Bb B E.name E.number B.now))=cd from HCD.out];obtain⟨w1,hw1⟩:∃W,w.alloc (.cells #[.pointer none,.string ⟨#[]⟩,.int .i64 0] 103)=W:=⟨_,rfl⟩;have hb1:=AM w (.cells #[.pointer none,.string ⟨#[]⟩,.int .i64 0] 103);obtain⟨sb,hsbe⟩:∃q,w.heap.size=q:=⟨_,rfl⟩;have S1:Hid (w1.heap[sb]?=some (.cells #[.pointer none,.string ⟨#[]⟩,.int .i64 0] 103 (0,0))):=by unfold Hid;rw[<-hw1,<-hsbe];exact heap_alloc_new w (.cells #[.pointer none,.string ⟨#[]⟩,.int .i64 0] 103)
 rw[hw1]at hb1;have hsb:w.heap.size<=sb:=by omega
 have hsb':sb<=w.heap.size:=by omega
 have V:=Ah hV;clear hV;have ta1:∀(v:Value) (w:World),(Instr.typeAssert (.iface 103 v) 20 90 true).run Tryz.prog w=.ok (.tuple #[.agg #[.pointer none],.bool false]) w:=λv w=>by kernel_rfl
 have ta2:∀(v:Value) (w:World),(Instr.typeAssert (.iface 103 v) 20 92 true).run Tryz.prog w=.ok (.tuple #[.agg #[.pointer none,.string ⟨#[]⟩,.int .i64 0,.bool false,.int .i64 0,.int .i64 0,.int .i64 0,.int .i64 0,.int .i64 0,.int .i64 0,.int .i64 0,.int .i64 0,.int .i64 0,.int .i64 0],.bool false]) w:=λv w=>by kernel_rfl
 have ta3:∀(v:Value) (w:World),(Instr.typeAssert (.iface 103 v) 20 97 true).run Tryz.prog w=.ok (.tuple #[.agg #[.pointer none,.string ⟨#[]⟩,.int .i64 0],.bool false]) w:=λv w=>by kernel_rfl
 have ta4:∀(v:Value) (w:World),(Instr.typeAssert (.iface 103 v) 20 99 true).run Tryz.prog w=.ok (.tuple #[.agg #[.pointer none,.string ⟨#[]⟩],.bool false]) w:=λv w=>by kernel_rfl
 have ta5:∀(v:Value) (w:World),(Instr.typeAssert (.iface 103 v) 20 101 true).run Tryz.prog w=.ok (.tuple #[.agg #[.pointer none,.string ⟨#[]⟩,.bool false],.bool false]) w:=λv w=>by kernel_rfl
 have ta6:∀(v:Value) (w:World),(Instr.typeAssert (.iface 103 v) 20 103 true).run Tryz.prog w=.ok (.tuple #[v,.bool true]) w:=λv w=>by kernel_rfl
 go_enter Tryz.func32,Tryz.ntmps32
 go_upto_region 21 with fail
 go_upto_region 23 with(refine AL rfl 103 (.tmp 10) (.tmp 45) rfl sb 0 #[.pointer (some ⟨A,0,none⟩),.string E.name,.int .i64 E.number] rfl rfl 103 #[.pointer none,.string ⟨#[]⟩,.int .i64 0] S1.out Tryz.infosEvt6 (AD rfl) (by simp[Value.oneCell']) ?_;intro w2 hz on;have S2:Hid (w2.heap[sb]?=some (.cells #[.pointer (some ⟨A,0,none⟩),.string E.name,.int .i64 E.number] 103 (0,0))):=hz;have hb2:Below w.heap.size w w2:=hb1.trans (on.below.mono' hsb);clear hz on)
 clear hw1 hsbe S1 hb1;have V2:=Ah (V.out.below hb2);have HNN:Hid (N<=w2.heap.size):=AH hN hb2.size;clear V;have s0:=AJ S2.out 0 rfl;have s1:=AJ S2.out 1 rfl;have s2:=AJ S2.out 2 rfl
 go_wp2_with fail
 refine(load_any B E.name E.number N A a1 a2 a3 k1 k2 k3 w2 hF hE.2 HNN.out V2.out).mono ?_;rintro e w3 ⟨rfl,hv3,hb3⟩;have HV3:Hid ((Bb B E.name E.number B.now).2=0->∃b1 b2 b3 d1 d2 d3,BkVar w3 N A ((Bb B E.name E.number B.now).1) b1 b2 b3 d1 d2 d3):=hv3;have hb4:=(hb2.mono' hN).trans hb3;clear hv3 hb3 hb2 V2 S2 s0 s1 s2;rw[show(CZ (Bb B E.name E.number B.now))=cd from HCD.out];go_wp2;go_ret;exact⟨rfl,HV3.out,hb4⟩
theorem KF(v:Int)(w:World):Calls Tryz.prog 32 #[.nilIface,.int .i64 v] w λe w'=>e=.returned (.int .i64 4)/\Below w.heap.size w w':=by
 have hb0:=Below.refl w.heap.size w;go_enter Tryz.func32,Tryz.ntmps32;go_wp2;go_ret;exact⟨rfl,hb0⟩
theorem Ms(t:TypeId)(l:Array Value)(v:Int)(w:World)(hv:1000000<v):Calls Tryz.prog 32 #[.iface t (.agg l),.int .i64 v] w λe w'=>e=.returned (.int .i64 7)/\Below w.heap.size w w':=by
 have hb0:=Below.refl w.heap.size w;go_enter Tryz.func32,Tryz.ntmps32;go_wp2;go_ret;exact⟨rfl,hb0⟩
end Go.Proofs.YtbceafpodamnfaaGreat
