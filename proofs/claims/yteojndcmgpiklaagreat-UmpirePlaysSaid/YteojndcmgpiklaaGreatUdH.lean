/- An evaluator of the code of a program, its soundness, what calls ask, memory, and what functions of the program do. Condition: none; a lemma text of this claim. -/
import Derived.Test.YteojndcmgpiklaaGreatUdG

namespace Go.Proofs.YteojndcmgpiklaaGreat
open _root_.Go.Proofs.Tryz
open Go.Abs
set_option maxRecDepth 100000
noncomputable section
theorem w18{a100:C}{a101:Int}{a102:Int}{a103:C}{a200:C}{m:M}{Q:V→M→Prop}(h :
 (∀m0:M,(m0=(M.new m (AO.cells 4 [a100,(Il a101),(Il a102),a103] false))) → 
 ∀m1:M,(m1=(M.new m0 (AO.cells 4 [C.sl0,(Il 0),(Il 0),
 (Il 0)] false)))→∃c2:C,∃x3 x4,∃c5:C,((ldA m1 (.ptr m.nxt 0) 4)=(some [c2,
 (Il x3),(Il x4),c5]))∧Wc prog tbl 54 [(.agg 4 [c2,(Il x3),
 (Il x4),c5])] m1 (fun v6 m7=>∃c8:C,∃x9 x10,∃c11:C,
 ∃c12:C,∃x13,(v6=(.tup [(.agg 5 [c8,(Il x9),(Il x10),
 c11,c12]),(.c (Il x13))]))∧∀m14:M,(m14=(M.new m7 (AO.cells 5 [C.sl0,
 (Il 0),(Il 0),C.sl0,C.map0] false))) → 
 ∃m15:M,((stC m14 (.ptr m7.nxt 0) 5 [c8,(Il x9),(Il x10),
 c11,c12])=(some m15))∧ifB (!decide (x13=0)) (∃m16:M,((stC m15 (.ptr m0.nxt 0) 4 [C.sl0,
 (Il 0),(Il 0),(Il 0)])=(some m16)) ∧ 
 ∃c17:C,∃x18 x19 x20,((ldA m16 (.ptr m0.nxt 0) 4)=(some [c17,
 (Il x18),(Il x19),(Il x20)])) ∧ 
 Q (.tup [(.agg 4 [c17,(Il x18),(Il x19),(Il x20)]),
 (.c (Il x13))]) m16) (isPt (.ptr m7.nxt 0)∧∃c21:C,
 ∃x22 x23,∃c24:C,((ldA m15 (.ptr m7.nxt 0) 4)=(some [c21,
 (Il x22),(Il x23),c24]))∧Wc prog tbl 55 [(.agg 4 [c21,
 (Il x22),(Il x23),c24]),(.c a200)] m15 (fun v25 m26 => 
 ∃b27:Bool,(v25=(.c (.bool b27)))∧ifB (!b27) (∃m28:M,((stC m26 (.ptr m0.nxt 0) 4 [C.sl0,
 (Il 0),(Il 0),(Il 0)])=(some m28)) ∧ 
 ∃c29:C,∃x30 x31 x32,((ldA m28 (.ptr m0.nxt 0) 4)=(some [c29,
 (Il x30),(Il x31),(Il x32)])) ∧ 
 Q (.tup [(.agg 4 [c29,(Il x30),(Il x31),(Il x32)]),
 (.c (Il (2:Int)))]) m28) (∃c33:C,∃x34 x35,
 ∃c36:C,∃c37:C,((ldA m26 (.ptr m7.nxt 0) 5)=(some [c33,
 (Il x34),(Il x35),c36,c37]))∧Wc prog tbl 56 [(.agg 5 [c33,
 (Il x34),(Il x35),c36,c37]),(.c a200)] m26 (fun v38 m39 => 
 ∃c40:C,∃x41 x42 x43,(v38=(.agg 4 [c40,
 (Il x41),(Il x42),(Il x43)])) ∧ 
 ∃m44:M,((stC m39 (.ptr m0.nxt 0) 4 [c40,(Il x41),(Il x42),
 (Il x43)])=(some m44))∧∃c45:C,∃x46 x47,
 ∃x48,((ldA m44 (.ptr m0.nxt 0) 4)=(some [c45,(Il x46),
 (Il x47),(Il x48)]))∧Q (.tup [(.agg 4 [c45,
 (Il x46),(Il x47),(Il x48)]),
 (.c (Il 0))]) m44))))))):Wc prog tbl 18 [(.agg 4 [a100,(Il a101),(Il a102),a103]),(.c a200)] m Q:=
 zpB (n:=2) rfl (by kernel_rfl) (by kernel_rfl) h
theorem w22{a100:C}{a101:Int}{a102:Int}{a103:C}{m:M}{Q:V→M→Prop}(h :
 (∀m0:M,(m0=(M.new m (AO.cells 4 [a100,(Il a101),(Il a102),a103] false))) → 
 ∃c1:C,∃x2 x3,∃c4:C,((ldA m0 (.ptr m.nxt 0) 4)=(some [c1,(Il x2),
 (Il x3),c4]))∧Wc prog tbl 57 [(.agg 4 [c1,(Il x2),(Il x3),
 c4])] m0 (fun v5 m6=>∃x7,(v5=(.c (Il x7)))∧Q (.c (Il x7)) m6))):Wc prog tbl 22 [(.agg 4 [a100,(Il a101),(Il a102),a103])] m Q:=
 zpB (n:=1) rfl (by kernel_rfl) (by kernel_rfl) h
theorem w26{a100:C}{a101:Int}{a102:Int}{a103:C}{a200:C}{m:M}{Q:V→M→Prop}(h :
 (∀m0:M,(m0=(M.new m (AO.cells 4 [a100,(Il a101),(Il a102),a103] false))) → 
 ∀m1:M,(m1=(M.new m0 (AO.cells 4 [C.sl0,(Il 0),(Il 0),
 (Il 0)] false)))→∀R2:List V→M→Prop,(∀c3:C,∀c4:C,∀x5:Int,
 ∀m6:M,(isSl a200∧ifB (decide (x5 < (((slLen a200):Nat):Int))) (∃c7:C,∃x8,
 ∃x9,∃c10:C,((ldA m6 (.ptr m.nxt 0) 4)=(some [c7,(Il x8),
 (Il x9),c10]))∧isPt (.ptr m.nxt 0)∧∃c11:C,((ldC m6 (.ptr m.nxt 3))=(some c11)) ∧ 
 ∃n12:Nat,(x5=((n12:Nat):Int))∧(n12 < (slLen c11))∧∃x13 x14,
 ∃x15 x16 x17 x18 x19 x20,
 ∃x21,((ldA m6 (zl2 c11 (n12 * 9)) 9)=(some [(Il x13),
 (Il x14),(Il x15),(Il x16),(Il x17),
 (Il x18),(Il x19),(Il x20),(Il x21)])) ∧ 
 ∃n22:Nat,(x5=((n22:Nat):Int))∧(n22 < (slLen a200))∧∃x23,
 ∃x24 x25,((ldA m6 (zl2 a200 (n22 * 3)) 3)=(some [(Il x23),
 (Il x24),(Il x25)]))∧Wc prog tbl 60 [(.agg 4 [c7,
 (Il x8),(Il x9),c10]),(.agg 9 [(Il x13),
 (Il x14),(Il x15),(Il x16),(Il x17),
 (Il x18),(Il x19),(Il x20),(Il x21)]),
 (.agg 3 [(Il x23),(Il x24),(Il x25)])] m6 (fun v26 m27 => 
 ∃x28,∃b29:Bool,∃x30,(v26=(.agg 3 [(Il x28),
 (.bool b29),(Il x30)]))∧∀m31:M,(m31=(M.new m27 (AO.cells 3 [(Il x28),
 (.bool b29),(Il x30)] false)))→∃c32:C,∃m33:M,(ApR prog 117 m31 c3 (.sl m27.nxt 0 1 0 (some 1)) c32 m33) ∧ 
 isPt (.ptr m.nxt 0)∧∃c34:C,((ldC m33 (.ptr m.nxt 3))=(some c34)) ∧ 
 ∃n35:Nat,(x5=((n35:Nat):Int))∧(n35 < (slLen c34))∧∃x36,
 ∃x37 x38 x39 x40 x41 x42,
 ∃x43 x44,((ldA m33 (zl2 c34 (n35 * 9)) 9)=(some [(Il x36),
 (Il x37),(Il x38),(Il x39),(Il x40),
 (Il x41),(Il x42),(Il x43),(Il x44)])) ∧ 
 ∃n45:Nat,(x5=((n45:Nat):Int))∧(n45 < (slLen a200))∧∃x46,
 ∃x47 x48,((ldA m33 (zl2 a200 (n45 * 3)) 3)=(some [(Il x46),
 (Il x47),(Il x48)]))∧Wc prog tbl 61 [(.agg 9 [(Il x36),
 (Il x37),(Il x38),(Il x39),(Il x40),
 (Il x41),(Il x42),(Il x43),(Il x44)]),
 (.agg 3 [(Il x46),(Il x47),(Il x48)])] m33 (fun v49 m50 => 
 ∃x51,(v49=(.c (Il x51)))∧∀m52:M,(m52=(M.new m50 (AO.cells 1 [(Il x51)] false))) → 
 ∃c53:C,∃m54:M,(ApR prog 29 m52 c4 (.sl m50.nxt 0 1 0 (some 1)) c53 m54) ∧ 
 zl0 .i64 (x5+1)∧R2 [(.c c32),(.c c53),(.c (Il (x5+1)))] m54))) (∃c55:C,
 ∃x56 x57,∃c58:C,((ldA m6 (.ptr m.nxt 0) 4)=(some [c55,(Il x56),
 (Il x57),c58]))∧Wc prog tbl 62 [(.agg 4 [c55,(Il x56),
 (Il x57),c58]),(.c c3)] m6 (fun v59 m60=>∃c61:C,∃x62,
 ∃x63 x64,(v59=(.agg 4 [c61,(Il x62),(Il x63),
 (Il x64)]))∧∀m65:M,(m65=(M.new m60 (AO.cells 4 [C.sl0,
 (Il 0),(Il 0),(Il 0)] false))) → 
 ∃m66:M,((stC m65 (.ptr m60.nxt 0) 4 [c61,(Il x62),(Il x63),
 (Il x64)])=(some m66))∧isPt (.ptr m60.nxt 0) ∧ 
 ∃m67:M,((stC m66 (.ptr m60.nxt 0) 1 [c4])=(some m67))∧∃c68:C,
 ∃x69 x70 x71,((ldA m67 (.ptr m60.nxt 0) 4)=(some [c68,
 (Il x69),(Il x70),(Il x71)])) ∧ 
 ∃m72:M,((stC m67 (.ptr m0.nxt 0) 4 [c68,(Il x69),(Il x70),
 (Il x71)])=(some m72))∧∃c73:C,∃x74 x75,
 ∃x76,((ldA m72 (.ptr m0.nxt 0) 4)=(some [c73,(Il x74),
 (Il x75),(Il x76)]))∧Q (.agg 4 [c73,(Il x74),
 (Il x75),(Il x76)]) m72))) → 
 R2 [(.c c3),(.c c4),(.c (Il x5))] m6)→R2 [(.c C.sl0),(.c C.sl0),
 (.c (Il 0))] m1)):Wc prog tbl 26 [(.agg 4 [a100,(Il a101),(Il a102),a103]),(.c a200)] m Q:=
 zpB (n:=2) rfl (by kernel_rfl) (by kernel_rfl) h
theorem w30{a100:C}{a200:C}{m:M}{Q:V→M→Prop}(h :
 (isSl a100∧isSl a200∧ifB (decide ((((slLen a100):Nat):Int)=(((slLen a200):Nat):Int))) (Wc prog tbl 67 [(.c a100),
 (.c a200)] m (fun v0 m1=>∃b2:Bool,(v0=(.c (.bool b2)))∧ifB (!b2) (Wc prog tbl 67 [(.c a200),
 (.c a100)] m1 (fun v3 m4=>∃b5:Bool,(v3=(.c (.bool b5)))∧Q (.c (.bool (!b5))) m4)) (Q (.c (.bool false)) m1))) (Q (.c (.bool false)) m))):Wc prog tbl 30 [(.c a100),(.c a200)] m Q:=
 zpB (n:=2) rfl (by kernel_rfl) (by kernel_rfl) h
theorem w34{a100:C}{a101:Int}{a102:Int}{a103:C}{m:M}{Q:V→M→Prop}(h :
 (∀m0:M,(m0=(M.new m (AO.cells 4 [a100,(Il a101),(Il a102),a103] false))) → 
 ∀m1:M,(m1=(M.new m0 (AO.cells 2 [(Il 0),(Il 0)] false))) → 
 ∀m2:M,(m2=(M.new m1 (AO.cells 2 [(Il 0),(Il 0)] false))) → 
 ∃c3:C,∃x4 x5,∃c6:C,((ldA m2 (.ptr m.nxt 0) 4)=(some [c3,(Il x4),
 (Il x5),c6]))∧Wc prog tbl 54 [(.agg 4 [c3,(Il x4),(Il x5),
 c6])] m2 (fun v7 m8=>∃c9:C,∃x10 x11,∃c12:C,∃c13:C,∃x14,
 (v7=(.tup [(.agg 5 [c9,(Il x10),(Il x11),c12,c13]),
 (.c (Il x14))]))∧∀m15:M,(m15=(M.new m8 (AO.cells 5 [C.sl0,
 (Il 0),(Il 0),C.sl0,C.map0] false))) → 
 ∃m16:M,((stC m15 (.ptr m8.nxt 0) 5 [c9,(Il x10),(Il x11),
 c12,c13])=(some m16))∧ifB (!decide (x14=0)) (∃m17:M,((stC m16 (.ptr m0.nxt 0) 2 [(Il 0),
 (Il 0)])=(some m17))∧∃m18:M,((stC m17 (.ptr m1.nxt 0) 2 [(Il 0),
 (Il 0)])=(some m18))∧∃x19 x20,
 ((ldA m18 (.ptr m0.nxt 0) 2)=(some [(Il x19),(Il x20)])) ∧ 
 ∃x21 x22,((ldA m18 (.ptr m1.nxt 0) 2)=(some [(Il x21),
 (Il x22)]))∧Q (.tup [(.agg 2 [(Il x19),(Il x20)]),
 (.agg 2 [(Il x21),(Il x22)]),(.c (Il x14))]) m18) (∃c23:C,
 ∃x24 x25,∃c26:C,∃c27:C,((ldA m16 (.ptr m8.nxt 0) 5)=(some [c23,
 (Il x24),(Il x25),c26,c27]))∧Wc prog tbl 68 [(.agg 5 [c23,
 (Il x24),(Il x25),c26,c27]),(.agg 1 [(C.fn (Fn.func 70) [] [])])] m16 (fun v28 m29 => 
 ∃x30 x31,(v28=(.agg 2 [(Il x30),(Il x31)])) ∧ 
 ∃c32:C,∃x33 x34,∃c35:C,∃c36:C,((ldA m29 (.ptr m8.nxt 0) 5)=(some [c32,
 (Il x33),(Il x34),c35,c36]))∧(ifB (zaL cmC [c32,
 (Il x33),(Il x34),c35,c36]) ((ldA m16 (.ptr m8.nxt 0) 5)=(some [c32,
 (Il x33),(Il x34),c35,c36])) False)∧Wc prog tbl 68 [(.agg 5 [c32,
 (Il x33),(Il x34),c35,c36]),(.agg 1 [(C.fn (Fn.func 71) [] [])])] m29 (fun v37 m38 => 
 ∃x39 x40,(v37=(.agg 2 [(Il x39),(Il x40)])) ∧ 
 ∃m41:M,((stC m38 (.ptr m0.nxt 0) 2 [(Il x30),(Il x31)])=(some m41)) ∧ 
 ∃m42:M,((stC m41 (.ptr m1.nxt 0) 2 [(Il x39),(Il x40)])=(some m42)) ∧ 
 ∃x43 x44,((ldA m42 (.ptr m0.nxt 0) 2)=(some [(Il x43),
 (Il x44)]))∧∃x45 x46,((ldA m42 (.ptr m1.nxt 0) 2)=(some [(Il x45),
 (Il x46)]))∧Q (.tup [(.agg 2 [(Il x43),(Il x44)]),
 (.agg 2 [(Il x45),(Il x46)]),(.c (Il 0))]) m42)))))):Wc prog tbl 34 [(.agg 4 [a100,(Il a101),(Il a102),a103])] m Q:=
 zpB (n:=1) rfl (by kernel_rfl) (by kernel_rfl) h
theorem w38{a100:Int}{a101:Int}{m:M}{Q:V→M→Prop}(h :
 (∀m0:M,(m0=(M.new m (AO.cells 2 [(Il a100),(Il a101)] false)))→∀m1:M,
 (m1=(M.new m0 (AO.cells 2 [(Il 0),(Il 0)] false)))→isPt (.ptr m.nxt 0) ∧ 
 ∃x2,((ldC m1 (.ptr m.nxt 0))=(some (Il x2)))∧isPt (.ptr m.nxt 0) ∧ 
 ∃x3,((ldC m1 (.ptr m.nxt 1))=(some (Il x3)))∧∃m4:M,((stC m1 (.ptr m0.nxt 0) 2 [(Il x2),
 (Il x3)])=(some m4))∧∃x5 x6,((ldA m4 (.ptr m0.nxt 0) 2)=(some [(Il x5),
 (Il x6)]))∧Q (.agg 2 [(Il x5),(Il x6)]) m4)):Wc prog tbl 38 [(.agg 2 [(Il a100),(Il a101)])] m Q:=
 zpB (n:=1) rfl (by kernel_rfl) (by kernel_rfl) h
theorem w42{a100:Int}{a200:Int}{m:M}{Q:V→M→Prop}(h :
 (∀m0:M,(m0=(M.new m (AO.cells 2 [(Il 0),(Il 0)] false))) → 
 ∃m1:M,((stC m0 (.ptr m.nxt 0) 2 [(Il a100),(Il a200)])=(some m1)) ∧ 
 ∃x2 x3,((ldA m1 (.ptr m.nxt 0) 2)=(some [(Il x2),(Il x3)])) ∧ 
 Q (.agg 2 [(Il x2),(Il x3)]) m1)):Wc prog tbl 42 [(.c (Il a100)),(.c (Il a200))] m Q:=
 zpB (n:=2) rfl (by kernel_rfl) (by kernel_rfl) h
theorem w46{a100:Int}{a101:Int}{a102:Int}{a103:Int}{a104:Int}{a105:Int}{a106:Int}{a107:Int}{a108:Int}{a200:Int}{a201:Int}{a202:Int}{m:M}{Q:V→M→Prop}(h :
 (∀m0:M,(m0=(M.new m (AO.cells 9 [(Il a100),(Il a101),(Il a102),
 (Il a103),(Il a104),(Il a105),(Il a106),
 (Il a107),(Il a108)] false)))→∀m1:M,(m1=(M.new m0 (AO.cells 3 [(Il a200),
 (Il a201),(Il a202)] false)))→isPt (.ptr m0.nxt 0)∧∃x2,
 ((ldC m1 (.ptr m0.nxt 0))=(some (Il x2)))∧isPt (.ptr m0.nxt 0)∧∃x3,
 ((ldC m1 (.ptr m0.nxt 1))=(some (Il x3)))∧Wc prog tbl 79 [(.c (Il x2)),
 (.c (Il x3))] m1 (fun v4 m5=>∃x6,(v4=(.c (Il x6))) ∧ 
 isPt (.ptr m.nxt 0)∧∃x7,((ldC m5 (.ptr m.nxt 2))=(some (Il x7))) ∧ 
 ((ldC m1 (.ptr m.nxt 2))=(some (Il x7)))∧Q (.c (.bool (decide (x7 < x6)))) m5))):Wc prog tbl 46 [(.agg 9 [(Il a100),(Il a101),(Il a102),(Il a103),(Il a104),(Il a105),(Il a106),(Il a107),(Il a108)]),(.agg 3 [(Il a200),(Il a201),(Il a202)])] m Q:=
 zpB (n:=2) rfl (by kernel_rfl) (by kernel_rfl) h
theorem w50{a100:C}{a200:Int}{a201:Int}{a202:Int}{a203:Int}{a204:Int}{a205:Int}{a300:Int}{a301:Int}{m:M}{Q:V→M→Prop}(h :
 (∀m0:M,(m0=(M.new m (AO.cells 6 [(Il a200),(Il a201),(Il a202),
 (Il a203),(Il a204),(Il a205)] false)))→∀m1:M,(m1=(M.new m0 (AO.cells 2 [(Il a300),
 (Il a301)] false)))→∃x2 x3 x4 x5 x6,
 ∃x7,((ldA m1 (.ptr m.nxt 0) 6)=(some [(Il x2),(Il x3),
 (Il x4),(Il x5),(Il x6),(Il x7)])) ∧ 
 ∀m8:M,(m8=(M.new m1 (AO.cells 6 [(Il x2),(Il x3),(Il x4),
 (Il x5),(Il x6),(Il x7)] false)))→Wc prog tbl 80 [(.c a100),
 (.c (.sl m1.nxt 0 1 0 (some 1)))] m8 (fun v9 m10=>∃c11:C,∃c12:C,∃x13,
 (v9=(.tup [(.agg 2 [c11,c12]),(.c (Il x13))]))∧∀m14:M,(m14=(M.new m10 (AO.cells 2 [C.sl0,
 C.map0] false)))→∃m15:M,((stC m14 (.ptr m10.nxt 0) 2 [c11,c12])=(some m15)) ∧ 
 ifB (!decide (x13=0)) (Q (.tup [(.c (Il 0)),(.c (Il x13))]) m15) (∃x16,
 ∃x17 x18 x19 x20 x21,((ldA m15 (.ptr m.nxt 0) 6)=(some [(Il x16),
 (Il x17),(Il x18),(Il x19),(Il x20),
 (Il x21)]))∧∃x22 x23,((ldA m15 (.ptr m0.nxt 0) 2)=(some [(Il x22),
 (Il x23)]))∧Wc prog tbl 81 [(.agg 6 [(Il x16),
 (Il x17),(Il x18),(Il x19),(Il x20),
 (Il x21)]),(.agg 2 [(Il x22),(Il x23)])] m15 (fun v24 m25 => 
 ∃b26:Bool,(v24=(.c (.bool b26)))∧ifB (!b26) (Q (.tup [(.c (Il 0)),
 (.c (Il (2:Int)))]) m25) (∃c27:C,∃c28:C,((ldA m25 (.ptr m10.nxt 0) 2)=(some [c27,
 c28]))∧∃x29 x30 x31 x32 x33,
 ∃x34,((ldA m25 (.ptr m.nxt 0) 6)=(some [(Il x29),
 (Il x30),(Il x31),(Il x32),(Il x33),
 (Il x34)]))∧∃x35 x36,((ldA m25 (.ptr m0.nxt 0) 2)=(some [(Il x35),
 (Il x36)]))∧Wc prog tbl 82 [(.agg 2 [c27,c28]),(.agg 6 [(Il x29),
 (Il x30),(Il x31),(Il x32),(Il x33),
 (Il x34)]),(.agg 2 [(Il x35),(Il x36)])] m25 (fun v37 m38 => 
 ∃x39,(v37=(.c (Il x39)))∧Q (.tup [(.c (Il x39)),
 (.c (Il 0))]) m38))))))):Wc prog tbl 50 [(.c a100),(.agg 6 [(Il a200),(Il a201),(Il a202),(Il a203),(Il a204),(Il a205)]),(.agg 2 [(Il a300),(Il a301)])] m Q:=
 zpB (n:=3) rfl (by kernel_rfl) (by kernel_rfl) h
theorem w54{a100:C}{a101:Int}{a102:Int}{a103:C}{m:M}{Q:V→M→Prop}(h :
 (∀m0:M,(m0=(M.new m (AO.cells 4 [a100,(Il a101),(Il a102),a103] false))) → 
 ∀m1:M,(m1=(M.new m0 (AO.cells 5 [C.sl0,(Il 0),(Il 0),
 C.sl0,C.map0] false)))→∃c2:C,∃x3 x4,∃c5:C,((ldA m1 (.ptr m.nxt 0) 4)=(some [c2,
 (Il x3),(Il x4),c5]))∧Wc prog tbl 23 [(.agg 4 [c2,(Il x3),
 (Il x4),c5])] m1 (fun v6 m7=>∃x8,(v6=(.c (Il x8))) ∧ 
 ifB (!decide (x8=0)) (∃m9:M,((stC m7 (.ptr m0.nxt 0) 5 [C.sl0,(Il 0),
 (Il 0),C.sl0,C.map0])=(some m9))∧∃c10:C,∃x11,
 ∃x12,∃c13:C,∃c14:C,((ldA m9 (.ptr m0.nxt 0) 5)=(some [c10,
 (Il x11),(Il x12),c13,c14]))∧Q (.tup [(.agg 5 [c10,
 (Il x11),(Il x12),c13,c14]),(.c (Il x8))]) m9) (∃c15:C,
 ∃x16 x17,∃c18:C,((ldA m7 (.ptr m.nxt 0) 4)=(some [c15,
 (Il x16),(Il x17),c18]))∧∀m19:M,(m19=(M.new m7 (AO.map [] 0))) → 
 ∃m20:M,((stC m19 (.ptr m0.nxt 0) 5 [c15,(Il x16),(Il x17),
 c18,(C.map m7.nxt)])=(some m20))∧∃c21:C,∃x22 x23,
 ∃c24:C,∃c25:C,((ldA m20 (.ptr m0.nxt 0) 5)=(some [c21,(Il x22),
 (Il x23),c24,c25]))∧Q (.tup [(.agg 5 [c21,(Il x22),
 (Il x23),c24,c25]),(.c (Il 0))]) m20)))):Wc prog tbl 54 [(.agg 4 [a100,(Il a101),(Il a102),a103])] m Q:=
 zpB (n:=1) rfl (by kernel_rfl) (by kernel_rfl) h
theorem w58{a100:C}{m:M}{Q:V→M→Prop}(h :
 (Wc prog tbl 91 [(.c a100)] m (fun v0 m1=>∃b2:Bool,(v0=(.c (.bool b2)))∧ifB b2 (Q (.c (Il (3:Int))) m1) (Wc prog tbl 92 [(.c a100)] m1 (fun v3 m4 => 
 ∃b5:Bool,(v3=(.c (.bool b5)))∧ifB (!b5) (Q (.c (Il (1:Int))) m4) (Q (.c (Il 0)) m4)))))):Wc prog tbl 58 [(.c a100)] m Q:=
 zpB (n:=1) rfl (by kernel_rfl) (by kernel_rfl) h
theorem w62{a100:C}{a101:Int}{a102:Int}{a103:C}{a200:C}{m:M}{Q:V→M→Prop}(h :
 (∀m0:M,(m0=(M.new m (AO.cells 4 [a100,(Il a101),(Il a102),a103] false))) → 
 ∀m1:M,(m1=(M.new m0 (AO.cells 4 [C.sl0,(Il 0),(Il 0),
 (Il 0)] false)))→∀m2:M,(m2=(M.new m1 (AO.cells 4 [C.sl0,(Il 0),
 (Il 0),(Il 0)] false)))→∀R3:List V→M→Prop,
 (∀b4:Bool,∀x5:Int,∀x6:Int,∀m7:M,(isSl a200∧ifB (decide (x6 < (((slLen a200):Nat):Int))) (isPt (.ptr m1.nxt 0) ∧ 
 ∃x8,((ldC m7 (.ptr m1.nxt 1))=(some (Il x8)))∧∃n9:Nat,
 (x6=((n9:Nat):Int))∧(n9 < (slLen a200))∧isPt (zl2 a200 (n9 * 3))∧∃x10,
 ((ldC m7 (zl1 (zl2 a200 (n9 * 3)) 0))=(some (Il x10))) ∧ 
 zl0 .i64 (x8+x10)∧isPt (.ptr m1.nxt 0)∧∃m11:M,((stC m7 (.ptr m1.nxt 1) 1 [(Il (x8+x10))])=(some m11)) ∧ 
 ifB b4 (∃n12:Nat,(x6=((n12:Nat):Int))∧(n12 < (slLen a200))∧isPt (zl2 a200 (n12 * 3)) ∧ 
 ∃x13,((ldC m11 (zl1 (zl2 a200 (n12 * 3)) 2))=(some (Il x13))) ∧ 
 zl0 .i64 (x5+x13)∧zl0 .i64 (x6+1)∧R3 [(.c (.bool true)),
 (.c (Il (x5+x13))),(.c (Il (x6+1)))] m11) (∃n14:Nat,
 (x6=((n14:Nat):Int))∧(n14 < (slLen a200))∧isPt (zl2 a200 (n14 * 3)) ∧ 
 ∃b15:Bool,((ldC m11 (zl1 (zl2 a200 (n14 * 3)) 1))=(some (.bool b15))) ∧ 
 ∃n16:Nat,(x6=((n16:Nat):Int))∧(n16 < (slLen a200))∧isPt (zl2 a200 (n16 * 3)) ∧ 
 ∃x17,((ldC m11 (zl1 (zl2 a200 (n16 * 3)) 2))=(some (Il x17))) ∧ 
 zl0 .i64 (x5+x17)∧zl0 .i64 (x6+1)∧R3 [(.c (.bool b15)),
 (.c (Il (x5+x17))),(.c (Il (x6+1)))] m11)) (ifB (!b4) (∃c18:C,
 ∃x19 x20 x21,((ldA m7 (.ptr m1.nxt 0) 4)=(some [c18,
 (Il x19),(Il x20),(Il x21)]))∧∃m22:M,
 ((stC m7 (.ptr m0.nxt 0) 4 [c18,(Il x19),(Il x20),
 (Il x21)])=(some m22))∧∃c23:C,∃x24 x25,
 ∃x26,((ldA m22 (.ptr m0.nxt 0) 4)=(some [c23,(Il x24),
 (Il x25),(Il x26)]))∧Q (.agg 4 [c23,(Il x24),
 (Il x25),(Il x26)]) m22) (ifB (decide ((0:Int) < x5)) (isPt (.ptr m.nxt 0) ∧ 
 ∃x27,((ldC m7 (.ptr m.nxt 2))=(some (Il x27)))∧isPt (.ptr m1.nxt 0) ∧ 
 ∃m28:M,((stC m7 (.ptr m1.nxt 2) 1 [(Il x27)])=(some m28)) ∧ 
 ∃c29:C,∃x30 x31 x32,((ldA m28 (.ptr m1.nxt 0) 4)=(some [c29,
 (Il x30),(Il x31),(Il x32)])) ∧ 
 ∃m33:M,((stC m28 (.ptr m0.nxt 0) 4 [c29,(Il x30),(Il x31),
 (Il x32)])=(some m33))∧∃c34:C,∃x35 x36,
 ∃x37,((ldA m33 (.ptr m0.nxt 0) 4)=(some [c34,(Il x35),
 (Il x36),(Il x37)]))∧Q (.agg 4 [c34,(Il x35),
 (Il x36),(Il x37)]) m33) (ifB (decide (x5 < 0)) (isPt (.ptr m.nxt 0) ∧ 
 ∃x38,((ldC m7 (.ptr m.nxt 2))=(some (Il x38)))∧isPt (.ptr m1.nxt 0) ∧ 
 ∃m39:M,((stC m7 (.ptr m1.nxt 3) 1 [(Il x38)])=(some m39)) ∧ 
 ∃c40:C,∃x41 x42 x43,((ldA m39 (.ptr m1.nxt 0) 4)=(some [c40,
 (Il x41),(Il x42),(Il x43)])) ∧ 
 ∃m44:M,((stC m39 (.ptr m0.nxt 0) 4 [c40,(Il x41),(Il x42),
 (Il x43)])=(some m44))∧∃c45:C,∃x46 x47,
 ∃x48,((ldA m44 (.ptr m0.nxt 0) 4)=(some [c45,(Il x46),
 (Il x47),(Il x48)]))∧Q (.agg 4 [c45,(Il x46),
 (Il x47),(Il x48)]) m44) (isPt (.ptr m.nxt 0) ∧ 
 ∃x49,((ldC m7 (.ptr m.nxt 2))=(some (Il x49)))∧((0:Int)≤x49) ∧ 
 ((0:Int) < (2:Int))∧zl0 .i64 (x49 / 2)∧isPt (.ptr m1.nxt 0) ∧ 
 ∃m50:M,((stC m7 (.ptr m1.nxt 3) 1 [(Il (x49 / 2))])=(some m50)) ∧ 
 isPt (.ptr m.nxt 0)∧∃x51,((ldC m50 (.ptr m.nxt 2))=(some (Il x51))) ∧ 
 isPt (.ptr m1.nxt 0)∧∃x52,((ldC m50 (.ptr m1.nxt 3))=(some (Il x52))) ∧ 
 zl0 .i64 (x51 - x52)∧isPt (.ptr m1.nxt 0)∧∃m53:M,((stC m50 (.ptr m1.nxt 2) 1 [(Il (x51 - x52))])=(some m53)) ∧ 
 ∃c54:C,∃x55 x56 x57,((ldA m53 (.ptr m1.nxt 0) 4)=(some [c54,
 (Il x55),(Il x56),(Il x57)])) ∧ 
 ∃m58:M,((stC m53 (.ptr m0.nxt 0) 4 [c54,(Il x55),(Il x56),
 (Il x57)])=(some m58))∧∃c59:C,∃x60 x61,
 ∃x62,((ldA m58 (.ptr m0.nxt 0) 4)=(some [c59,(Il x60),
 (Il x61),(Il x62)]))∧Q (.agg 4 [c59,(Il x60),
 (Il x61),(Il x62)]) m58))))) → 
 R3 [(.c (.bool b4)),(.c (Il x5)),(.c (Il x6))] m7) → 
 R3 [(.c (.bool false)),(.c (Il 0)),(.c (Il 0))] m2)):Wc prog tbl 62 [(.agg 4 [a100,(Il a101),(Il a102),a103]),(.c a200)] m Q:=
 zpB (n:=2) rfl (by kernel_rfl) (by kernel_rfl) h
theorem w66{a100:Int}{a101:Int}{a102:Int}{a103:Int}{a104:Int}{a105:Int}{a106:Int}{a107:Int}{a108:Int}{m:M}{Q:V→M→Prop}(h :
 (∀m0:M,(m0=(M.new m (AO.cells 9 [(Il a100),(Il a101),(Il a102),
 (Il a103),(Il a104),(Il a105),(Il a106),
 (Il a107),(Il a108)] false)))→∀m1:M,(m1=(M.new m0 (AO.cells 1 [(.bool false)] false))) → 
 ∀m2:M,(m2=(M.new m1 (AO.cells 1 [(.bool false)] false)))→∃m3:M,((stC m2 (.ptr m0.nxt 0) 1 [(.bool false)])=(some m3)) ∧ 
 ∃m4:M,((stC m3 (.ptr m1.nxt 0) 1 [(.bool false)])=(some m4))∧∃x5 x6,
 ∃x7 x8 x9 x10 x11 x12 x13,
 ((ldA m4 (.ptr m.nxt 0) 9)=(some [(Il x5),(Il x6),
 (Il x7),(Il x8),(Il x9),(Il x10),
 (Il x11),(Il x12),(Il x13)]))∧Wc prog tbl 98 [(.agg 9 [(Il x5),
 (Il x6),(Il x7),(Il x8),(Il x9),
 (Il x10),(Il x11),(Il x12),(Il x13)])] m4 (fun v14 m15 => 
 ∃c16:C,(v14=(.c c16))∧zoA prog tbl c16 m15 (fun l17 m18 R19 R20=>∃x21,
 ∃x22 x23,(l17=[(.agg 3 [(Il x21),(Il x22),
 (Il x23)])])∧∀m24:M,(m24=(M.new m18 (AO.cells 3 [(Il 0),
 (Il 0),(Il 0)] false)))→∃m25:M,
 ((stC m24 (.ptr m18.nxt 0) 3 [(Il x21),(Il x22),
 (Il x23)])=(some m25))∧R19 m25 (fun m26=>∃x27,
 ∃x28 x29 x30 x31 x32 x33,
 ∃x34 x35,((ldA m26 (.ptr m.nxt 0) 9)=(some [(Il x27),
 (Il x28),(Il x29),(Il x30),(Il x31),
 (Il x32),(Il x33),(Il x34),(Il x35)])) ∧ 
 ∃x36 x37 x38,((ldA m26 (.ptr m18.nxt 0) 3)=(some [(Il x36),
 (Il x37),(Il x38)]))∧Wc prog tbl 99 [(.agg 9 [(Il x27),
 (Il x28),(Il x29),(Il x30),(Il x31),
 (Il x32),(Il x33),(Il x34),(Il x35)]),
 (.agg 3 [(Il x36),(Il x37),(Il x38)])] m26 (fun v39 m40 => 
 ∃b41:Bool,(v39=(.c (.bool b41)))∧∃b42:Bool,((ldC m40 (.ptr m0.nxt 0))=(some (.bool b42))) ∧ 
 ifB b42 (∃b43:Bool,((ldC m40 (.ptr m1.nxt 0))=(some (.bool b43))) ∧ 
 ifB b43 (∃m44:M,((stC m40 (.ptr m0.nxt 0) 1 [(.bool true)])=(some m44)) ∧ 
 ∃m45:M,((stC m44 (.ptr m1.nxt 0) 1 [(.bool true)])=(some m45)) ∧ 
 R20 Ex.nrm m45) (∃m46:M,((stC m40 (.ptr m0.nxt 0) 1 [(.bool true)])=(some m46)) ∧ 
 ∃m47:M,((stC m46 (.ptr m1.nxt 0) 1 [(.bool (!b41))])=(some m47)) ∧ 
 R20 Ex.nrm m47)) (∃b48:Bool,((ldC m40 (.ptr m1.nxt 0))=(some (.bool b48))) ∧ 
 ifB b48 (∃m49:M,((stC m40 (.ptr m0.nxt 0) 1 [(.bool b41)])=(some m49)) ∧ 
 ∃m50:M,((stC m49 (.ptr m1.nxt 0) 1 [(.bool true)])=(some m50)) ∧ 
 R20 Ex.nrm m50) (∃m51:M,((stC m40 (.ptr m0.nxt 0) 1 [(.bool b41)])=(some m51)) ∧ 
 ∃m52:M,((stC m51 (.ptr m1.nxt 0) 1 [(.bool (!b41))])=(some m52)) ∧ 
 R20 Ex.nrm m52))))) (zoq.mk (fun m53 => 
 ∃b54:Bool,((ldC m53 (.ptr m1.nxt 0))=(some (.bool b54)))∧ifB (!b54) (Q (.c (Il (1:Int))) m53) (∃b55:Bool,
 ((ldC m53 (.ptr m0.nxt 0))=(some (.bool b55)))∧ifB (!b55) (Q (.c (Il (2:Int))) m53) (Q (.c (Il (3:Int))) m53))) [] (fun m56 => 
 Q (.c (Il 0)) m56))))):Wc prog tbl 66 [(.agg 9 [(Il a100),(Il a101),(Il a102),(Il a103),(Il a104),(Il a105),(Il a106),(Il a107),(Il a108)])] m Q:=
 zpB (n:=1) rfl (by kernel_rfl) (by kernel_rfl) h
theorem w71{a100:Int}{a101:Int}{a102:Int}{a103:Int}{a104:Int}{a105:Int}{m:M}{Q:V→M→Prop}(h :
 (∀m0:M,(m0=(M.new m (AO.cells 6 [(Il a100),(Il a101),(Il a102),
 (Il a103),(Il a104),(Il a105)] false)))→∃x1,
 ∃x2 x3 x4 x5 x6,((ldA m0 (.ptr m.nxt 0) 6)=(some [(Il x1),
 (Il x2),(Il x3),(Il x4),(Il x5),
 (Il x6)]))∧Wc prog tbl 103 [(.agg 6 [(Il x1),(Il x2),
 (Il x3),(Il x4),(Il x5),(Il x6)])] m0 (fun v7 m8 => 
 ∃b9:Bool,(v7=(.c (.bool b9)))∧ifB (!b9) (Q (.c (Il 0)) m8) (isPt (.ptr m.nxt 0) ∧ 
 ∃x10,((ldC m8 (.ptr m.nxt 0))=(some (Il x10)))∧∃x11,
 ∃x12 x13 x14 x15 x16,((ldA m8 (.ptr m.nxt 0) 6)=(some [(Il x11),
 (Il x12),(Il x13),(Il x14),(Il x15),
 (Il x16)]))∧Wc prog tbl 70 [(.agg 6 [(Il x11),
 (Il x12),(Il x13),(Il x14),(Il x15),
 (Il x16)])] m8 (fun v17 m18=>∃x19,(v17=(.c (Il x19))) ∧ 
 ((ldC m18 (.ptr m.nxt 0))=(some (Il x10)))∧zl0 .i64 (x10 - x19) ∧ 
 Q (.c (Il (x10 - x19))) m18))))):Wc prog tbl 71 [(.agg 6 [(Il a100),(Il a101),(Il a102),(Il a103),(Il a104),(Il a105)])] m Q:=
 zpB (n:=1) rfl (by kernel_rfl) (by kernel_rfl) h
theorem w79{a100:Int}{a200:Int}{m:M}{Q:V→M→Prop}(h :
 (ifB (decide (a100 < a200)) (zl0 .i64 (a200 - a100)∧Q (.c (Il (a200 - a100))) m) (zl0 .i64 (a100 - a200) ∧ 
 Q (.c (Il (a100 - a200))) m))):Wc prog tbl 79 [(.c (Il a100)),(.c (Il a200))] m Q:=
 zpB (n:=2) rfl (by kernel_rfl) (by kernel_rfl) h
theorem w83{a100:C}{m:M}{Q:V→M→Prop}(h :
 (∀m0:M,(m0=(M.new m (AO.cells 0 [] false)))→∃c1:C,∃m2:M,(ApR prog 29 m0 (.sl m.nxt 0 0 0 (some 0)) a100 c1 m2) ∧ 
 Q (.c c1) m2)):Wc prog tbl 83 [(.c a100)] m Q:=
 zpB (n:=1) rfl (by kernel_rfl) (by kernel_rfl) h
theorem w87{a100:C}{a101:Int}{a102:Int}{a103:C}{a104:C}{a200:Int}{a201:Int}{a202:Int}{a203:Int}{a204:Int}{a205:Int}{a206:Int}{a207:Int}{a208:Int}{a300:Int}{a301:Int}{a302:Int}{m:M}{Q:V→M→Prop}(h :
 (∀m0:M,(m0=(M.new m (AO.cells 5 [a100,(Il a101),(Il a102),a103,a104] false))) → 
 ∀m1:M,(m1=(M.new m0 (AO.cells 9 [(Il a200),(Il a201),(Il a202),
 (Il a203),(Il a204),(Il a205),(Il a206),
 (Il a207),(Il a208)] false)))→∀m2:M,(m2=(M.new m1 (AO.cells 3 [(Il a300),
 (Il a301),(Il a302)] false)))→∀m3:M,(m3=(M.new m2 (AO.cells 2 [(Il 0),
 (Il 0)] false)))→∃c4:C,∃x5 x6,∃c7:C,∃c8:C,
 ((ldA m3 (.ptr m.nxt 0) 5)=(some [c4,(Il x5),(Il x6),
 c7,c8]))∧∃x9 x10 x11 x12 x13 x14,
 ∃x15 x16 x17,((ldA m3 (.ptr m0.nxt 0) 9)=(some [(Il x9),
 (Il x10),(Il x11),(Il x12),(Il x13),
 (Il x14),(Il x15),(Il x16),(Il x17)])) ∧ 
 ∃x18 x19 x20 x21 x22 x23,
 ∃x24 x25 x26,((ldA m3 (.ptr m0.nxt 0) 9)=(some [(Il x18),
 (Il x19),(Il x20),(Il x21),(Il x22),
 (Il x23),(Il x24),(Il x25),(Il x26)])) ∧ 
 ∃x27 x28 x29,((ldA m3 (.ptr m1.nxt 0) 3)=(some [(Il x27),
 (Il x28),(Il x29)]))∧Wc prog tbl 85 [(.agg 9 [(Il x18),
 (Il x19),(Il x20),(Il x21),(Il x22),
 (Il x23),(Il x24),(Il x25),(Il x26)]),
 (.agg 3 [(Il x27),(Il x28),(Il x29)])] m3 (fun v30 m31 => 
 ∃x32,(v30=(.c (Il x32)))∧((ldA m31 (.ptr m0.nxt 0) 9)=(some [(Il x9),
 (Il x10),(Il x11),(Il x12),(Il x13),
 (Il x14),(Il x15),(Il x16),(Il x17)])) ∧ 
 (ifB (zaL cmC [c4,(Il x5),(Il x6),c7,c8]) ((ldA m31 (.ptr m.nxt 0) 5)=(some [c4,
 (Il x5),(Il x6),c7,c8])) False)∧Wc prog tbl 111 [(.agg 5 [c4,
 (Il x5),(Il x6),c7,c8]),(.agg 9 [(Il x9),
 (Il x10),(Il x11),(Il x12),(Il x13),
 (Il x14),(Il x15),(Il x16),(Il x17)]),
 (.c (Il x32))] m31 (fun v33 m34=>∃x35,(v33=(.c (Il x35))) ∧ 
 ∃x36 x37 x38 x39 x40 x41,
 ∃x42 x43 x44,((ldA m34 (.ptr m0.nxt 0) 9)=(some [(Il x36),
 (Il x37),(Il x38),(Il x39),(Il x40),
 (Il x41),(Il x42),(Il x43),(Il x44)])) ∧ 
 ((ldA m31 (.ptr m0.nxt 0) 9)=(some [(Il x36),(Il x37),
 (Il x38),(Il x39),(Il x40),(Il x41),
 (Il x42),(Il x43),(Il x44)])) ∧ 
 ((ldA m3 (.ptr m0.nxt 0) 9)=(some [(Il x36),(Il x37),
 (Il x38),(Il x39),(Il x40),(Il x41),
 (Il x42),(Il x43),(Il x44)])) ∧ 
 ∃x45 x46 x47,((ldA m34 (.ptr m1.nxt 0) 3)=(some [(Il x45),
 (Il x46),(Il x47)]))∧((ldA m31 (.ptr m1.nxt 0) 3)=(some [(Il x45),
 (Il x46),(Il x47)]))∧((ldA m3 (.ptr m1.nxt 0) 3)=(some [(Il x45),
 (Il x46),(Il x47)]))∧Wc prog tbl 112 [(.agg 9 [(Il x36),
 (Il x37),(Il x38),(Il x39),(Il x40),
 (Il x41),(Il x42),(Il x43),(Il x44)]),
 (.agg 3 [(Il x45),(Il x46),(Il x47)])] m34 (fun v48 m49 => 
 ∃x50,(v48=(.c (Il x50)))∧∃m51:M,((stC m49 (.ptr m2.nxt 0) 2 [(Il x35),
 (Il x50)])=(some m51))∧∃x52 x53,
 ((ldA m51 (.ptr m2.nxt 0) 2)=(some [(Il x52),(Il x53)])) ∧ 
 Q (.agg 2 [(Il x52),(Il x53)]) m51))))):Wc prog tbl 87 [(.agg 5 [a100,(Il a101),(Il a102),a103,a104]),(.agg 9 [(Il a200),(Il a201),(Il a202),(Il a203),(Il a204),(Il a205),(Il a206),(Il a207),(Il a208)]),(.agg 3 [(Il a300),(Il a301),(Il a302)])] m Q:=
 zpB (n:=3) rfl (by kernel_rfl) (by kernel_rfl) h
theorem w91{a100:C}{m:M}{Q:V→M→Prop}(h :
 (isSl a100∧ifB (decide ((3:Int) < (((slLen a100):Nat):Int))) (Q (.c (.bool true)) m) (Wc prog tbl 114 [(.c a100),
 (.c (C.fn (Fn.func 115) [] []))] m (fun v0 m1=>∃b2:Bool,(v0=(.c (.bool b2)))∧Q (.c (.bool b2)) m1)))):Wc prog tbl 91 [(.c a100)] m Q:=
 zpB (n:=1) rfl (by kernel_rfl) (by kernel_rfl) h
theorem w95{a100:C}{a101:Int}{a102:Int}{a103:C}{a200:Int}{a201:Int}{a202:Int}{a203:Int}{a204:Int}{a205:Int}{a206:Int}{a207:Int}{a208:Int}{m:M}{Q:V→M→Prop}(h :
 (∀m0:M,(m0=(M.new m (AO.cells 4 [a100,(Il a101),(Il a102),a103] false))) → 
 ∀m1:M,(m1=(M.new m0 (AO.cells 9 [(Il a200),(Il a201),(Il a202),
 (Il a203),(Il a204),(Il a205),(Il a206),
 (Il a207),(Il a208)] false)))→isPt (.ptr m0.nxt 0)∧∃x2,
 ∃x3,((ldA m1 (.ptr m0.nxt 3) 2)=(some [(Il x2),(Il x3)])) ∧ 
 isPt (.ptr m0.nxt 0)∧∃x4 x5,((ldA m1 (.ptr m0.nxt 5) 2)=(some [(Il x4),
 (Il x5)]))∧isPt (.ptr m0.nxt 0)∧∃x6 x7,((ldA m1 (.ptr m0.nxt 7) 2)=(some [(Il x6),
 (Il x7)]))∧∀m8:M,(m8=(M.new m1 (AO.cells 6 [(Il x2),
 (Il x3),(Il x4),(Il x5),(Il x6),
 (Il x7)] false)))→∃c9:C,∃x10 x11,∃c12:C,
 ((ldA m8 (.ptr m.nxt 0) 4)=(some [c9,(Il x10),(Il x11),
 c12]))∧∃x13 x14 x15 x16 x17 x18,
 ∃x19 x20 x21,((ldA m8 (.ptr m0.nxt 0) 9)=(some [(Il x13),
 (Il x14),(Il x15),(Il x16),(Il x17),
 (Il x18),(Il x19),(Il x20),(Il x21)])) ∧ 
 Wc prog tbl 123 [(.agg 4 [c9,(Il x10),(Il x11),
 c12]),(.agg 9 [(Il x13),(Il x14),(Il x15),
 (Il x16),(Il x17),(Il x18),(Il x19),
 (Il x20),(Il x21)])] m8 (fun v22 m23=>∃b24:Bool,
 (v22=(.c (.bool b24)))∧ifB b24 (isPt (.ptr m0.nxt 0)∧∃x25,
 ((ldC m23 (.ptr m0.nxt 2))=(some (Il x25)))∧Wc prog tbl 124 [(.c (Il x25))] m23 (fun v26 m27 => 
 ∃b28:Bool,(v26=(.c (.bool b28)))∧ifB b28 (Wc prog tbl 125 [(.c (.sl m1.nxt 0 3 0 (some 3))),
 (.c (C.fn (Fn.func 126) [] []))] m27 (fun v29 m30=>∃b31:Bool,(v29=(.c (.bool b31))) ∧ 
 Q (.c (.bool b31)) m30)) (Q (.c (.bool false)) m27))) (Q (.c (.bool false)) m23)))):Wc prog tbl 95 [(.agg 4 [a100,(Il a101),(Il a102),a103]),(.agg 9 [(Il a200),(Il a201),(Il a202),(Il a203),(Il a204),(Il a205),(Il a206),(Il a207),(Il a208)])] m Q:=
 zpB (n:=2) rfl (by kernel_rfl) (by kernel_rfl) h
theorem w99{a100:Int}{a101:Int}{a102:Int}{a103:Int}{a104:Int}{a105:Int}{a106:Int}{a107:Int}{a108:Int}{a200:Int}{a201:Int}{a202:Int}{m:M}{Q:V→M→Prop}(h :
 (∀m0:M,(m0=(M.new m (AO.cells 9 [(Il a100),(Il a101),(Il a102),
 (Il a103),(Il a104),(Il a105),(Il a106),
 (Il a107),(Il a108)] false)))→∀m1:M,(m1=(M.new m0 (AO.cells 3 [(Il a200),
 (Il a201),(Il a202)] false)))→isPt (.ptr m0.nxt 0)∧∃x2,
 ((ldC m1 (.ptr m0.nxt 0))=(some (Il x2)))∧isPt (.ptr m0.nxt 0)∧∃x3,
 ((ldC m1 (.ptr m0.nxt 1))=(some (Il x3)))∧Wc prog tbl 129 [(.c (Il x2)),
 (.c (Il x3))] m1 (fun v4 m5=>∃x6,(v4=(.c (Il x6))) ∧ 
 isPt (.ptr m.nxt 0)∧∃x7,((ldC m5 (.ptr m.nxt 2))=(some (Il x7))) ∧ 
 ((ldC m1 (.ptr m.nxt 2))=(some (Il x7)))∧Q (.c (.bool (decide (x7 < x6)))) m5))):Wc prog tbl 99 [(.agg 9 [(Il a100),(Il a101),(Il a102),(Il a103),(Il a104),(Il a105),(Il a106),(Il a107),(Il a108)]),(.agg 3 [(Il a200),(Il a201),(Il a202)])] m Q:=
 zpB (n:=2) rfl (by kernel_rfl) (by kernel_rfl) h
theorem zv3{a100:Int}{a101:Int}{a102:Int}{a103:Int}{a104:Int}{a105:Int}{m:M}{Q:V→M→Prop}(h :
 (∀m0:M,(m0=(M.new m (AO.cells 6 [(Il a100),(Il a101),(Il a102),
 (Il a103),(Il a104),(Il a105)] false)))→isPt (.ptr m.nxt 0) ∧ 
 isPt (.ptr m.nxt 2)∧∃n1:Nat,((1:Int)=((n1:Nat):Int))∧(n1 < 4)∧∃x2,((ldC m0 (.ptr m.nxt (2+(n1 * 1))))=(some (Il x2))) ∧ 
 isPt (.ptr m.nxt 0)∧isPt (.ptr m.nxt 2)∧∃n3:Nat,((2:Int)=((n3:Nat):Int)) ∧ 
 (n3 < 4)∧∃x4,((ldC m0 (.ptr m.nxt (2+(n3 * 1))))=(some (Il x4))) ∧ 
 zl0 .i64 (x2+x4)∧isPt (.ptr m.nxt 0)∧isPt (.ptr m.nxt 2)∧∃n5:Nat,
 ((3:Int)=((n5:Nat):Int))∧(n5 < 4)∧∃x6,((ldC m0 (.ptr m.nxt (2+(n5 * 1))))=(some (Il x6))) ∧ 
 zl0 .i64 ((x2+x4)+x6)∧Q (.c (.bool (decide ((0:Int) < ((x2+x4)+x6))))) m0)):Wc prog tbl 103 [(.agg 6 [(Il a100),(Il a101),(Il a102),(Il a103),(Il a104),(Il a105)])] m Q:=
 zpB (n:=1) rfl (by kernel_rfl) (by kernel_rfl) h
theorem zv4{a100:C}{a200:Int}{a201:Int}{a202:Int}{a203:Int}{a204:Int}{a205:Int}{m:M}{Q:V→M→Prop}(h :
 (∀m0:M,(m0=(M.new m (AO.cells 6 [(Il a200),(Il a201),(Il a202),
 (Il a203),(Il a204),(Il a205)] false)))→isPt (.ptr m.nxt 0) ∧ 
 ∃x1,((ldC m0 (.ptr m.nxt 0))=(some (Il x1)))∧Wc prog tbl 136 [(.c a100),
 (.c (Il x1))] m0 (fun v2 m3=>∃b4:Bool,(v2=(.c (.bool b4)))∧ifB b4 (isPt (.ptr m.nxt 0) ∧ 
 ∃x5,((ldC m3 (.ptr m.nxt 1))=(some (Il x5)))∧Wc prog tbl 109 [(.agg 2 [(Il 0),
 (Il (100000:Int))]),(.c (Il x5))] m3 (fun v6 m7=>∃b8:Bool,
 (v6=(.c (.bool b8)))∧ifB b8 (isPt (.ptr m.nxt 0)∧∃x9 x10,((ldA m7 (.ptr m.nxt 2) 2)=(some [(Il x9),
 (Il x10)]))∧Wc prog tbl 137 [(.agg 2 [(Il x9),(Il x10)]),
 (.c (C.fn (Fn.func 138) [] []))] m7 (fun v11 m12=>∃b13:Bool,(v11=(.c (.bool b13))) ∧ 
 ifB b13 (isPt (.ptr m.nxt 0)∧isPt (.ptr m.nxt 2)∧∃x14,((ldC m12 (.ptr m.nxt 3))=(some (Il x14))) ∧ 
 isPt (.ptr m.nxt 0)∧isPt (.ptr m.nxt 2)∧∃x15,((ldC m12 (.ptr m.nxt 2))=(some (Il x15))) ∧ 
 zl0 .i64 (x14 - x15)∧ifB (decide ((x14 - x15)≤(10:Int))) (isPt (.ptr m.nxt 0) ∧ 
 ∃x16 x17,((ldA m12 (.ptr m.nxt 4) 2)=(some [(Il x16),
 (Il x17)]))∧Wc prog tbl 137 [(.agg 2 [(Il x16),
 (Il x17)]),(.c (C.fn (Fn.func 139) [] []))] m12 (fun v18 m19 => 
 ∃b20:Bool,(v18=(.c (.bool b20)))∧Q (.c (.bool b20)) m19)) (Q (.c (.bool false)) m12)) (Q (.c (.bool false)) m12))) (Q (.c (.bool false)) m7))) (Q (.c (.bool false)) m3)))):Wc prog tbl 108 [(.c a100),(.agg 6 [(Il a200),(Il a201),(Il a202),(Il a203),(Il a204),(Il a205)])] m Q:=
 zpB (n:=2) rfl (by kernel_rfl) (by kernel_rfl) h
theorem zv5{a100:Int}{a101:Int}{a102:Int}{a103:Int}{a104:Int}{a105:Int}{a106:Int}{a107:Int}{a108:Int}{a200:Int}{a201:Int}{a202:Int}{m:M}{Q:V→M→Prop}(h :
 (∀m0:M,(m0=(M.new m (AO.cells 9 [(Il a100),(Il a101),(Il a102),
 (Il a103),(Il a104),(Il a105),(Il a106),
 (Il a107),(Il a108)] false)))→∀m1:M,(m1=(M.new m0 (AO.cells 3 [(Il a200),
 (Il a201),(Il a202)] false)))→∃x2 x3 x4,
 ∃x5 x6 x7 x8 x9 x10,((ldA m1 (.ptr m.nxt 0) 9)=(some [(Il x2),
 (Il x3),(Il x4),(Il x5),(Il x6),
 (Il x7),(Il x8),(Il x9),(Il x10)])) ∧ 
 ∃x11 x12 x13,((ldA m1 (.ptr m0.nxt 0) 3)=(some [(Il x11),
 (Il x12),(Il x13)]))∧Wc prog tbl 85 [(.agg 9 [(Il x2),
 (Il x3),(Il x4),(Il x5),(Il x6),
 (Il x7),(Il x8),(Il x9),(Il x10)]),
 (.agg 3 [(Il x11),(Il x12),(Il x13)])] m1 (fun v14 m15 => 
 ∃x16,(v14=(.c (Il x16)))∧isPt (.ptr m0.nxt 0)∧∃x17,
 ((ldC m15 (.ptr m0.nxt 0))=(some (Il x17)))∧Wc prog tbl 129 [(.c (Il x17)),
 (.c (Il x16))] m15 (fun v18 m19=>∃x20,(v18=(.c (Il x20))) ∧ 
 isPt (.ptr m0.nxt 0)∧∃x21,((ldC m19 (.ptr m0.nxt 1))=(some (Il x21))) ∧ 
 ((ldC m15 (.ptr m0.nxt 1))=(some (Il x21)))∧Wc prog tbl 129 [(.c (Il x21)),
 (.c (Il x16))] m19 (fun v22 m23=>∃x24,(v22=(.c (Il x24))) ∧ 
 ∃x25 x26 x27 x28 x29 x30,
 ∃x31 x32 x33,((ldA m23 (.ptr m.nxt 0) 9)=(some [(Il x25),
 (Il x26),(Il x27),(Il x28),(Il x29),
 (Il x30),(Il x31),(Il x32),(Il x33)])) ∧ 
 ∃x34 x35 x36,((ldA m23 (.ptr m0.nxt 0) 3)=(some [(Il x34),
 (Il x35),(Il x36)]))∧Wc prog tbl 99 [(.agg 9 [(Il x25),
 (Il x26),(Il x27),(Il x28),(Il x29),
 (Il x30),(Il x31),(Il x32),(Il x33)]),
 (.agg 3 [(Il x34),(Il x35),(Il x36)])] m23 (fun v37 m38 => 
 ∃b39:Bool,(v37=(.c (.bool b39)))∧ifB (!b39) (Q (.c (Il 0)) m38) (ifB (decide (x24 < x20)) (Q (.c (Il (2:Int))) m38) (ifB (decide (x20 < x24)) (Q (.c (Il (3:Int))) m38) (Q (.c (Il (1:Int))) m38))))))))):Wc prog tbl 112 [(.agg 9 [(Il a100),(Il a101),(Il a102),(Il a103),(Il a104),(Il a105),(Il a106),(Il a107),(Il a108)]),(.agg 3 [(Il a200),(Il a201),(Il a202)])] m Q:=
 zpB (n:=2) rfl (by kernel_rfl) (by kernel_rfl) h
theorem zv6{a100:C}{a200:C}{m:M}{Q:V→M→Prop}(h :
 (∀m0:M,(m0=(M.new m (AO.cells 1 [a200] false)))→Wc prog tbl 145 [(.c a100),(.c (C.fn (Fn.func 146) [] [(W.c (C0.ptr m.nxt 0))]))] m0 (fun v1 m2 => 
 ∃b3:Bool,(v1=(.c (.bool b3)))∧Q (.c (.bool (!b3))) m2))):Wc prog tbl 116 [(.c a100),(.c a200)] m Q:=
 zpB (n:=2) rfl (by kernel_rfl) (by kernel_rfl) h
theorem zv7{a100:C}{a200:Int}{a201:Bool}{a202:Int}{a203:C}{a204:C}{a205:C}{m:M}{Q:V→M→Prop}(h :
 (∀m0:M,(m0=(M.new m (AO.cells 6 [(Il a200),(.bool a201),(Il a202),a203,
 a204,a205] false)))→isPt (.ptr m.nxt 0)∧∃c1:C,((ldC m0 (.ptr m.nxt 5))=(some c1)) ∧ 
 isSl c1∧∃n2:Nat,((0:Int)=((n2:Nat):Int))∧(n2 < (slLen a100))∧isPt (zl2 a100 (n2 * 6)) ∧ 
 ∃c3:C,((ldC m0 (zl1 (zl2 a100 (n2 * 6)) 5))=(some c3))∧isSl c3∧Q (.c (.bool (decide ((((slLen c1):Nat):Int)=(((slLen c3):Nat):Int))))) m0)):Wc prog tbl 120 [(.c a100),(.agg 6 [(Il a200),(.bool a201),(Il a202),a203,a204,a205])] m Q:=
 zpB (n:=2) rfl (by kernel_rfl) (by kernel_rfl) h
theorem zv8{a100:C}{a200:C}{m:M}{Q:V→M→Prop}(h :
 (∀m0:M,(m0=(M.new m (AO.cells 1 [a200] false)))→Wc prog tbl 153 [(.c a100),(.c (C.fn (Fn.func 154) [] [(W.c (C0.ptr m.nxt 0))]))] m0 (fun v1 m2 => 
 ∃b3:Bool,(v1=(.c (.bool b3)))∧Q (.c (.bool (!b3))) m2))):Wc prog tbl 125 [(.c a100),(.c a200)] m Q:=
 zpB (n:=2) rfl (by kernel_rfl) (by kernel_rfl) h
theorem zv9{a100:C}{a101:Int}{a102:Int}{a103:C}{a104:C}{a200:Int}{a201:Int}{a202:Int}{a203:Int}{a204:Int}{a205:Int}{a206:Int}{a207:Int}{a208:Int}{m:M}{Q:V→M→Prop}(h :
 (∀m0:M,(m0=(M.new m (AO.cells 5 [a100,(Il a101),(Il a102),a103,a104] false))) → 
 ∀m1:M,(m1=(M.new m0 (AO.cells 9 [(Il a200),(Il a201),(Il a202),
 (Il a203),(Il a204),(Il a205),(Il a206),
 (Il a207),(Il a208)] false)))→∀m2:M,(m2=(M.new m1 (AO.map [] 0))) → 
 ∀m3:M,(m3=(M.new m2 (AO.cells 1 [C.map0] false)))→∃m4:M,((stC m3 (.ptr m2.nxt 0) 1 [(C.map m1.nxt)])=(some m4)) ∧ 
 ∃x5 x6 x7 x8 x9 x10 x11 x12,
 ∃x13,((ldA m4 (.ptr m0.nxt 0) 9)=(some [(Il x5),(Il x6),
 (Il x7),(Il x8),(Il x9),(Il x10),
 (Il x11),(Il x12),(Il x13)]))∧Wc prog tbl 98 [(.agg 9 [(Il x5),
 (Il x6),(Il x7),(Il x8),(Il x9),
 (Il x10),(Il x11),(Il x12),(Il x13)])] m4 (fun v14 m15 => 
 ∃c16:C,(v14=(.c c16))∧zoA prog tbl c16 m15 (fun l17 m18 R19 R20=>∃x21,
 ∃x22 x23,(l17=[(.agg 3 [(Il x21),(Il x22),
 (Il x23)])])∧∀m24:M,(m24=(M.new m18 (AO.cells 3 [(Il 0),
 (Il 0),(Il 0)] false)))→∃m25:M,
 ((stC m24 (.ptr m18.nxt 0) 3 [(Il x21),(Il x22),
 (Il x23)])=(some m25))∧R19 m25 (fun m26=>∃c27:C,
 ((ldC m26 (.ptr m2.nxt 0))=(some c27))∧∃c28:C,∃x29,
 ∃x30,∃c31:C,∃c32:C,((ldA m26 (.ptr m.nxt 0) 5)=(some [c28,
 (Il x29),(Il x30),c31,c32]))∧∃x33,
 ∃x34 x35 x36 x37 x38 x39,
 ∃x40 x41,((ldA m26 (.ptr m0.nxt 0) 9)=(some [(Il x33),
 (Il x34),(Il x35),(Il x36),(Il x37),
 (Il x38),(Il x39),(Il x40),(Il x41)])) ∧ 
 ∃x42 x43 x44,((ldA m26 (.ptr m18.nxt 0) 3)=(some [(Il x42),
 (Il x43),(Il x44)]))∧Wc prog tbl 87 [(.agg 5 [c28,
 (Il x29),(Il x30),c31,c32]),(.agg 9 [(Il x33),
 (Il x34),(Il x35),(Il x36),(Il x37),
 (Il x38),(Il x39),(Il x40),(Il x41)]),
 (.agg 3 [(Il x42),(Il x43),(Il x44)])] m26 (fun v45 m46 => 
 ∃x47 x48,(v45=(.agg 2 [(Il x47),(Il x48)])) ∧ 
 (ifB (cmC c27) ((ldC m46 (.ptr m2.nxt 0))=(some c27)) False)∧∃m49:M,
 ((upM prog 158 m46 c27 (.agg 2 [(Il x47),(Il x48)]) (.c (.bool true)))=(some m49)) ∧ 
 R20 Ex.nrm m49))) (zoq.mk (fun m50 => 
 ∃c51:C,((ldC m50 (.ptr m2.nxt 0))=(some c51))∧Q (.c c51) m50) [] (fun m52 => 
 Q (.c C.map0) m52))))):Wc prog tbl 131 [(.agg 5 [a100,(Il a101),(Il a102),a103,a104]),(.agg 9 [(Il a200),(Il a201),(Il a202),(Il a203),(Il a204),(Il a205),(Il a206),(Il a207),(Il a208)])] m Q:=
 zpB (n:=2) rfl (by kernel_rfl) (by kernel_rfl) h
theorem zwa{a100:Int}{a101:Int}{a200:C}{m:M}{Q:V→M→Prop}(h :
 (∀m0:M,(m0=(M.new m (AO.cells 2 [(Il a100),(Il a101)] false)))→isPt (.ptr m.nxt 0) ∧ 
 ∃x1,((ldC m0 (.ptr m.nxt 0))=(some (Il x1)))∧isPt (.ptr m.nxt 0) ∧ 
 ∃x2,((ldC m0 (.ptr m.nxt 1))=(some (Il x2)))∧ifB (decide (x1≤x2)) (isPt (.ptr m.nxt 0) ∧ 
 ∃x3,((ldC m0 (.ptr m.nxt 0))=(some (Il x3)))∧zmq prog tbl [(.c (Il x3))] a200 m0 (fun v4 m5 => 
 ∃b6:Bool,(v4=(.c (.bool b6)))∧ifB b6 (isPt (.ptr m.nxt 0)∧∃x7,((ldC m5 (.ptr m.nxt 1))=(some (Il x7))) ∧ 
 zmq prog tbl [(.c (Il x7))] a200 m5 (fun v8 m9=>∃b10:Bool,(v8=(.c (.bool b10))) ∧ 
 Q (.c (.bool b10)) m9)) (Q (.c (.bool false)) m5))) (Q (.c (.bool false)) m0))):Wc prog tbl 137 [(.agg 2 [(Il a100),(Il a101)]),(.c a200)] m Q:=
 zpB (n:=2) rfl (by kernel_rfl) (by kernel_rfl) h
theorem zwb{a100:Int}{a101:Bool}{a102:Int}{a103:C}{a104:C}{a105:C}{a200:Int}{a201:Int}{a202:Int}{m:M}{Q:V→M→Prop}(h :
 (∀m0:M,(m0=(M.new m (AO.cells 6 [(Il a100),(.bool a101),(Il a102),a103,
 a104,a105] false)))→∀m1:M,(m1=(M.new m0 (AO.cells 3 [(Il a200),(Il a201),
 (Il a202)] false)))→∃x2,∃b3:Bool,∃x4,∃c5:C,∃c6:C,
 ∃c7:C,((ldA m1 (.ptr m.nxt 0) 6)=(some [(Il x2),(.bool b3),(Il x4),
 c5,c6,c7]))∧∃x8 x9 x10,((ldA m1 (.ptr m0.nxt 0) 3)=(some [(Il x8),
 (Il x9),(Il x10)]))∧Wc prog tbl 160 [(.agg 6 [(Il x2),
 (.bool b3),(Il x4),c5,c6,c7]),(.agg 3 [(Il x8),(Il x9),
 (Il x10)])] m1 (fun v11 m12=>∃x13,(v11=(.c (Il x13))) ∧ 
 isPt (.ptr m.nxt 0)∧∃x14,((ldC m12 (.ptr m.nxt 2))=(some (Il x14))) ∧ 
 ifB (decide (x13 < x14)) (Q (.c (Il 0)) m12) (∃x15,∃b16:Bool,
 ∃x17,∃c18:C,∃c19:C,∃c20:C,((ldA m12 (.ptr m.nxt 0) 6)=(some [(Il x15),
 (.bool b16),(Il x17),c18,c19,c20]))∧Wc prog tbl 161 [(.agg 6 [(Il x15),
 (.bool b16),(Il x17),c18,c19,c20])] m12 (fun v21 m22=>∃c23:C,
 (v21=(.agg 1 [c23]))∧∃x24,∃b25:Bool,∃x26,∃c27:C,
 ∃c28:C,∃c29:C,((ldA m22 (.ptr m.nxt 0) 6)=(some [(Il x24),
 (.bool b25),(Il x26),c27,c28,c29]))∧(ifB (zaL cmC [(Il x24),
 (.bool b25),(Il x26),c27,c28,c29]) ((ldA m12 (.ptr m.nxt 0) 6)=(some [(Il x24),
 (.bool b25),(Il x26),c27,c28,c29])) False)∧zmq prog tbl [(.agg 6 [(Il x24),
 (.bool b25),(Il x26),c27,c28,c29]),(.c (Il x13))] c23 m22 (fun v30 m31 => 
 ∃x32,(v30=(.c (Il x32)))∧Q (.c (Il x32)) m31)))))):Wc prog tbl 141 [(.agg 6 [(Il a100),(.bool a101),(Il a102),a103,a104,a105]),(.agg 3 [(Il a200),(Il a201),(Il a202)])] m Q:=
 zpB (n:=2) rfl (by kernel_rfl) (by kernel_rfl) h
theorem zwc{a100:C}{a200:C}{m:M}{Q:V→M→Prop}(h :
 (Wc prog tbl 162 [(.c a100),(.c a200)] m (fun v0 m1=>∃x2,(v0=(.c (Il x2)))∧Q (.c (.bool (decide ((0:Int)≤x2)))) m1))):Wc prog tbl 145 [(.c a100),(.c a200)] m Q:=
 zpB (n:=2) rfl (by kernel_rfl) (by kernel_rfl) h
theorem zwd{a100:Int}{a101:Bool}{a102:Int}{a103:C}{a104:C}{a105:C}{a200:C}{m:M}{Q:V→M→Prop}(h :
 (∀m0:M,(m0=(M.new m (AO.cells 6 [(Il a100),(.bool a101),(Il a102),a103,
 a104,a105] false)))→isSl a200∧isPt (.ptr m.nxt 0)∧∃c1:C,((ldC m0 (.ptr m.nxt 3))=(some c1)) ∧ 
 isSl c1∧ifB (decide ((((slLen a200):Nat):Int)=(((slLen c1):Nat):Int))) (∃x2,∃b3:Bool,
 ∃x4,∃c5:C,∃c6:C,∃c7:C,((ldA m0 (.ptr m.nxt 0) 6)=(some [(Il x2),
 (.bool b3),(Il x4),c5,c6,c7]))∧zaa (zaE vW [(.agg 6 [(Il x2),
 (.bool b3),(Il x4),c5,c6,c7])]) False fun l8=>Wc prog tbl 167 [(.c a200),
 (.c (C.fn (Fn.func 168) l8 []))] m0 (fun v9 m10=>∃b11:Bool,(v9=(.c (.bool b11))) ∧ 
 Q (.c (.bool b11)) m10)) (Q (.c (.bool false)) m0))):Wc prog tbl 150 [(.agg 6 [(Il a100),(.bool a101),(Il a102),a103,a104,a105]),(.c a200)] m Q:=
 zpB (n:=2) rfl (by kernel_rfl) (by kernel_rfl) h
theorem zwe{a100:C}{a200:Int}{m:M}{Q:V→M→Prop}(h :
 (∀m0:M,(m0=(M.new m (AO.cells 6 [(Il 0),(.bool false),(Il 0),
 C.sl0,C.sl0,C.sl0] false)))→∀R1:List V→M→Prop,(∀c2:C,∀x3:Int,∀m4:M,(isSl a100 ∧ 
 ifB (decide (x3 < (((slLen a100):Nat):Int))) (∃n5:Nat,(x3=((n5:Nat):Int))∧(n5 < (slLen a100)) ∧ 
 isPt (zl2 a100 (n5 * 6))∧∃x6,((ldC m4 (zl1 (zl2 a100 (n5 * 6)) 0))=(some (Il x6))) ∧ 
 ∀m7:M,(m7=(M.new m4 (AO.cells 1 [(Il x6)] false)))→∃c8:C,∃m9:M,
 (ApR prog 29 m7 c2 (.sl m4.nxt 0 1 0 (some 1)) c8 m9)∧zl0 .i64 (x3+1) ∧ 
 R1 [(.c c8),(.c (Il (x3+1)))] m9) (Wc prog tbl 171 [(.c c2),
 (.c (Il a200))] m4 (fun v10 m11=>∃x12,(v10=(.c (Il x12))) ∧ 
 ∃n13:Nat,(x12=((n13:Nat):Int))∧(n13 < (slLen a100))∧∃x14,∃b15:Bool,
 ∃x16,∃c17:C,∃c18:C,∃c19:C,((ldA m11 (zl2 a100 (n13 * 6)) 6)=(some [(Il x14),
 (.bool b15),(Il x16),c17,c18,c19]))∧∃m20:M,((stC m11 (.ptr m.nxt 0) 6 [(Il x14),
 (.bool b15),(Il x16),c17,c18,c19])=(some m20)) ∧ 
 ∃x21,∃b22:Bool,∃x23,∃c24:C,∃c25:C,∃c26:C,((ldA m20 (.ptr m.nxt 0) 6)=(some [(Il x21),
 (.bool b22),(Il x23),c24,c25,c26]))∧Q (.agg 6 [(Il x21),
 (.bool b22),(Il x23),c24,c25,c26]) m20))) → 
 R1 [(.c c2),(.c (Il x3))] m4)→R1 [(.c C.sl0),(.c (Il 0))] m0)):Wc prog tbl 155 [(.c a100),(.c (Il a200))] m Q:=
 zpB (n:=2) rfl (by kernel_rfl) (by kernel_rfl) h
theorem zwf{a100:C}{a200:Int}{m:M}{Q:V→M→Prop}(h :
 (zl0 .i64 (a200+1)∧Wc prog tbl 172 [(.c a100),(.c (Il (a200+1)))] m (fun v0 m1 => 
 ∃x2,∃b3:Bool,(v0=(.tup [(.c (Il x2)),(.c (.bool b3))]))∧zl0 .i64 (x2 - 1) ∧ 
 Q (.c (Il (x2 - 1))) m1))):Wc prog tbl 159 [(.c a100),(.c (Il a200))] m Q:=
 zpB (n:=2) rfl (by kernel_rfl) (by kernel_rfl) h
theorem zwg{a100:C}{a200:C}{m:M}{Q:V→M→Prop}(h :
 (Wc prog tbl 175 [(.c a100),(.c a200)] m (fun v0 m1=>∃x2,(v0=(.c (Il x2)))∧Q (.c (.bool (decide ((0:Int)≤x2)))) m1))):Wc prog tbl 163 [(.c a100),(.c a200)] m Q:=
 zpB (n:=2) rfl (by kernel_rfl) (by kernel_rfl) h
theorem zwh{a100:C}{a101:C}{a200:Int}{a201:Int}{a202:Int}{a203:Int}{a204:Int}{a205:Int}{m:M}{Q:V→M→Prop}(h :
 (∀m0:M,(m0=(M.new m (AO.cells 2 [a100,a101] false)))→∀m1:M,(m1=(M.new m0 (AO.cells 6 [(Il a200),
 (Il a201),(Il a202),(Il a203),(Il a204),
 (Il a205)] false)))→∀m2:M,(m2=(M.new m1 (AO.cells 2 [(Il 0),
 (Il 0)] false)))→∀m3:M,(m3=(M.new m2 (AO.cells 1 [C.sl0] false))) → 
 ∃x4 x5 x6 x7 x8 x9,((ldA m3 (.ptr m0.nxt 0) 6)=(some [(Il x4),
 (Il x5),(Il x6),(Il x7),(Il x8),
 (Il x9)]))∧Wc prog tbl 179 [(.agg 6 [(Il x4),(Il x5),
 (Il x6),(Il x7),(Il x8),(Il x9)])] m3 (fun v10 m11 => 
 ∃c12:C,(v10=(.c c12))∧zoA prog tbl c12 m11 (fun l13 m14 R15 R16=>∃x17,
 ∃x18,(l13=[(.agg 2 [(Il x17),(Il x18)])]) ∧ 
 ∀m19:M,(m19=(M.new m14 (AO.cells 2 [(Il 0),(Il 0)] false))) → 
 ∃m20:M,((stC m19 (.ptr m14.nxt 0) 2 [(Il x17),(Il x18)])=(some m20)) ∧ 
 R15 m20 (fun m21=>∃c22:C,((ldC m21 (.ptr m2.nxt 0))=(some c22)) ∧ 
 ∃c23:C,∃c24:C,((ldA m21 (.ptr m.nxt 0) 2)=(some [c23,
 c24]))∧∃x25 x26 x27 x28 x29,
 ∃x30,((ldA m21 (.ptr m0.nxt 0) 6)=(some [(Il x25),
 (Il x26),(Il x27),(Il x28),(Il x29),
 (Il x30)]))∧∃x31 x32,((ldA m21 (.ptr m14.nxt 0) 2)=(some [(Il x31),
 (Il x32)]))∧Wc prog tbl 82 [(.agg 2 [c23,c24]),(.agg 6 [(Il x25),
 (Il x26),(Il x27),(Il x28),(Il x29),
 (Il x30)]),(.agg 2 [(Il x31),(Il x32)])] m21 (fun v33 m34 => 
 ∃x35,(v33=(.c (Il x35)))∧(ifB (cmC c22) ((ldC m34 (.ptr m2.nxt 0))=(some c22)) False) ∧ 
 ∀m36:M,(m36=(M.new m34 (AO.cells 1 [(Il x35)] false))) → 
 (ifB (cmC c22) ((ldC m36 (.ptr m2.nxt 0))=(some c22)) False)∧∃c37:C,
 ∃m38:M,(ApR prog 29 m36 c22 (.sl m34.nxt 0 1 0 (some 1)) c37 m38) ∧ 
 ∃m39:M,((stC m38 (.ptr m2.nxt 0) 1 [c37])=(some m39))∧R16 Ex.nrm m39))) (zoq.mk (fun m40 => 
 ∃c41:C,((ldC m40 (.ptr m2.nxt 0))=(some c41))∧Wc prog tbl 101 [(.c c41)] m40 (fun v42 m43 => 
 ∃x44,(v42=(.c (Il x44)))∧∃c45:C,((ldC m43 (.ptr m2.nxt 0))=(some c45)) ∧ 
 (ifB (cmC c45) ((ldC m40 (.ptr m2.nxt 0))=(some c45)) False)∧Wc prog tbl 102 [(.c c45)] m43 (fun v46 m47 => 
 ∃x48,(v46=(.c (Il x48)))∧∃m49:M,((stC m47 (.ptr m1.nxt 0) 2 [(Il x44),
 (Il x48)])=(some m49))∧∃x50 x51,
 ((ldA m49 (.ptr m1.nxt 0) 2)=(some [(Il x50),(Il x51)])) ∧ 
 Q (.agg 2 [(Il x50),(Il x51)]) m49))) [] (fun m52 => 
 ∃x53 x54,((ldA m52 (.ptr m1.nxt 0) 2)=(some [(Il x53),
 (Il x54)]))∧Q (.agg 2 [(Il x53),(Il x54)]) m52))))):Wc prog tbl 169 [(.agg 2 [a100,a101]),(.agg 6 [(Il a200),(Il a201),(Il a202),(Il a203),(Il a204),(Il a205)])] m Q:=
 zpB (n:=2) rfl (by kernel_rfl) (by kernel_rfl) h
theorem zwi{a100:Int}{a101:Bool}{a102:Int}{a103:C}{a104:C}{a105:C}{a200:Int}{m:M}{Q:V→M→Prop}(h :
 (∀m0:M,(m0=(M.new m (AO.cells 6 [(Il a100),(.bool a101),(Il a102),a103,
 a104,a105] false)))→Q (.c (Il a200)) m0)):Wc prog tbl 173 [(.agg 6 [(Il a100),(.bool a101),(Il a102),a103,a104,a105]),(.c (Il a200))] m Q:=
 zpB (n:=2) rfl (by kernel_rfl) (by kernel_rfl) h
theorem zwj{a100:C}{a200:C}{m:M}{Q:V→M→Prop}(h :
 (Wc prog tbl 182 [(.c a100),(.c a200)] m (fun v0 m1=>∃x2,(v0=(.c (Il x2)))∧Q (.c (.bool (decide ((0:Int)≤x2)))) m1))):Wc prog tbl 177 [(.c a100),(.c a200)] m Q:=
 zpB (n:=2) rfl (by kernel_rfl) (by kernel_rfl) h
theorem zwk{a100:C}{a200:C}{m:M}{Q:V→M→Prop}(h :
 (isSl a100∧∀R0:List V→M→Prop,(∀x1:Int,∀x2:Int,∀m3:M,(ifB (decide (x2 < (((slLen a100):Nat):Int))) (∃n4:Nat,
 (x2=((n4:Nat):Int))∧(n4 < (slLen a100))∧∃c5:C,((ldC m3 (zl2 a100 (n4 * 1)))=(some c5)) ∧ 
 zmq prog tbl [(.c c5)] a200 m3 (fun v6 m7=>∃b8:Bool,(v6=(.c (.bool b8)))∧ifB b8 (Q (.c (Il x2)) m7) (zl0 .i64 (x2+1) ∧ 
 R0 [(.c (Il x1)),(.c (Il (x2+1)))] m7))) (Q (.c (Il (-1:Int))) m3)) → 
 R0 [(.c (Il x1)),(.c (Il x2))] m3)→R0 [(.c (Il 0)),
 (.c (Il 0))] m)):Wc prog tbl 182 [(.c a100),(.c a200)] m Q:=
 zpB (n:=2) rfl (by kernel_rfl) (by kernel_rfl) h
theorem w19{a100:C}{a101:Int}{a102:Int}{a103:C}{m:M}{Q:V→M→Prop}(h :
 (∀m0:M,(m0=(M.new m (AO.cells 4 [a100,(Il a101),(Il a102),a103] false))) → 
 ∀m1:M,(m1=(M.new m0 (AO.cells 4 [C.sl0,(Il 0),(Il 0),
 C.sl0] false)))→∀m2:M,(m2=(zn2 m1 1))→isPt (.ptr m.nxt 0)∧∃c3:C,((ldC m2 (.ptr m.nxt 0))=(some c3)) ∧ 
 Wc prog tbl 51 [(.c c3)] m2 (fun v4 m5=>∃c6:C,(v4=(.c c6))∧isPt (.ptr m.nxt 0) ∧ 
 ∃x7,((ldC m5 (.ptr m.nxt 1))=(some (Il x7)))∧((ldC m2 (.ptr m.nxt 1))=(some (Il x7))) ∧ 
 isPt (.ptr m.nxt 0)∧∃x8,((ldC m5 (.ptr m.nxt 2))=(some (Il x8))) ∧ 
 ((ldC m2 (.ptr m.nxt 2))=(some (Il x8)))∧∀m9:M,(m9=(M.set m5 (m1.nxt+0) (AO.cells 4 [C.sl0,
 (Il 0),(Il 0),C.sl0] false))) → 
 ((ldC m9 (.ptr m.nxt 2))=(some (Il x8)))∧((ldC m9 (.ptr m.nxt 1))=(some (Il x7))) ∧ 
 (ifB (cmC c3) ((ldC m9 (.ptr m.nxt 0))=(some c3)) False)∧∃m10:M,
 ((stC m9 (.ptr (m1.nxt+0) 0) 4 [c6,(Il x7),(Il x8),
 C.sl0])=(some m10))∧∀R11:List V→M→Prop,(∀x12:Int,∀m13:M,
 (isPt (.ptr m.nxt 0)∧∃c14:C,((ldC m13 (.ptr m.nxt 3))=(some c14)) ∧ 
 isSl c14∧ifB (decide (x12 < (((slLen c14):Nat):Int))) (isPt (.ptr m.nxt 0) ∧ 
 ∃c15:C,((ldC m13 (.ptr m.nxt 3))=(some c15))∧∃n16:Nat,
 (x12=((n16:Nat):Int))∧(n16 < (slLen c15))∧∃x17 x18,
 ∃x19 x20 x21 x22 x23 x24,
 ∃x25,((ldA m13 (zl2 c15 (n16 * 9)) 9)=(some [(Il x17),
 (Il x18),(Il x19),(Il x20),(Il x21),
 (Il x22),(Il x23),(Il x24),(Il x25)])) ∧ 
 ∀m26:M,(m26=(M.new m13 (AO.cells 9 [(Il 0),(Il 0),
 (Il 0),(Il 0),(Il 0),
 (Il 0),(Il 0),(Il 0),
 (Il 0)] false)))→∃m27:M,((stC m26 (.ptr m13.nxt 0) 9 [(Il x17),
 (Il x18),(Il x19),(Il x20),(Il x21),
 (Il x22),(Il x23),(Il x24),(Il x25)])=(some m27)) ∧ 
 isPt (.ptr (m1.nxt+0) 0)∧∃c28:C,((ldC m27 (.ptr (m1.nxt+0) 3))=(some c28)) ∧ 
 isPt (.ptr m13.nxt 0)∧∃x29,((ldC m27 (.ptr m13.nxt 0))=(some (Il x29))) ∧ 
 isPt (.ptr m13.nxt 0)∧∃x30,((ldC m27 (.ptr m13.nxt 1))=(some (Il x30))) ∧ 
 isPt (.ptr m13.nxt 0)∧∃x31,((ldC m27 (.ptr m13.nxt 2))=(some (Il x31))) ∧ 
 isPt (.ptr m13.nxt 0)∧∃x32 x33,((ldA m27 (.ptr m13.nxt 3) 2)=(some [(Il x32),
 (Il x33)]))∧Wc prog tbl 38 [(.agg 2 [(Il x32),
 (Il x33)])] m27 (fun v34 m35=>∃x36 x37,(v34=(.agg 2 [(Il x36),
 (Il x37)]))∧((ldC m35 (.ptr m13.nxt 2))=(some (Il x31))) ∧ 
 ((ldC m35 (.ptr m13.nxt 1))=(some (Il x30)))∧((ldC m35 (.ptr m13.nxt 0))=(some (Il x29))) ∧ 
 (ifB (cmC c28) ((ldC m35 (.ptr (m1.nxt+0) 3))=(some c28)) False) ∧ 
 isPt (.ptr m13.nxt 0)∧∃x38 x39,((ldA m35 (.ptr m13.nxt 5) 2)=(some [(Il x38),
 (Il x39)]))∧((ldA m27 (.ptr m13.nxt 5) 2)=(some [(Il x38),
 (Il x39)]))∧Wc prog tbl 38 [(.agg 2 [(Il x38),
 (Il x39)])] m35 (fun v40 m41=>∃x42 x43,(v40=(.agg 2 [(Il x42),
 (Il x43)]))∧((ldC m41 (.ptr m13.nxt 2))=(some (Il x31))) ∧ 
 ((ldC m41 (.ptr m13.nxt 1))=(some (Il x30)))∧((ldC m41 (.ptr m13.nxt 0))=(some (Il x29))) ∧ 
 (ifB (cmC c28) ((ldC m41 (.ptr (m1.nxt+0) 3))=(some c28)) False) ∧ 
 isPt (.ptr m13.nxt 0)∧∃x44 x45,((ldA m41 (.ptr m13.nxt 7) 2)=(some [(Il x44),
 (Il x45)]))∧((ldA m35 (.ptr m13.nxt 7) 2)=(some [(Il x44),
 (Il x45)]))∧((ldA m27 (.ptr m13.nxt 7) 2)=(some [(Il x44),
 (Il x45)]))∧Wc prog tbl 38 [(.agg 2 [(Il x44),
 (Il x45)])] m41 (fun v46 m47=>∃x48 x49,(v46=(.agg 2 [(Il x48),
 (Il x49)]))∧((ldC m47 (.ptr m13.nxt 2))=(some (Il x31))) ∧ 
 ((ldC m47 (.ptr m13.nxt 1))=(some (Il x30)))∧((ldC m47 (.ptr m13.nxt 0))=(some (Il x29))) ∧ 
 (ifB (cmC c28) ((ldC m47 (.ptr (m1.nxt+0) 3))=(some c28)) False) ∧ 
 ∀m50:M,(m50=(M.new m47 (AO.cells 9 [(Il x29),(Il x30),
 (Il x31),(Il x36),(Il x37),(Il x42),
 (Il x43),(Il x48),(Il x49)] false))) → 
 (ifB (cmC c28) ((ldC m50 (.ptr (m1.nxt+0) 3))=(some c28)) False) ∧ 
 ∃c51:C,∃m52:M,(ApR prog 36 m50 c28 (.sl m47.nxt 0 1 0 (some 1)) c51 m52) ∧ 
 isPt (.ptr (m1.nxt+0) 0)∧∃m53:M,((stC m52 (.ptr (m1.nxt+0) 3) 1 [c51])=(some m53)) ∧ 
 zl0 .i64 (x12+1)∧R11 [(.c (Il (x12+1)))] m53)))) (∃c54:C,
 ∃x55 x56,∃c57:C,((ldA m13 (.ptr (m1.nxt+0) 0) 4)=(some [c54,
 (Il x55),(Il x56),c57]))∧∃m58:M,((stC m13 (.ptr m0.nxt 0) 4 [c54,
 (Il x55),(Il x56),c57])=(some m58)) ∧ 
 ∃c59:C,∃x60 x61,∃c62:C,((ldA m58 (.ptr m0.nxt 0) 4)=(some [c59,
 (Il x60),(Il x61),c62]))∧Q (.agg 4 [c59,
 (Il x60),(Il x61),c62]) m58)) → 
 R11 [(.c (Il x12))] m13)→R11 [(.c (Il 0))] m10))):Wc prog tbl 19 [(.agg 4 [a100,(Il a101),(Il a102),a103])] m Q:=
 zpB (n:=1) rfl (by kernel_rfl) (by kernel_rfl) h
theorem w23{a100:C}{a101:Int}{a102:Int}{a103:C}{m:M}{Q:V→M→Prop}(h :
 (∀m0:M,(m0=(M.new m (AO.cells 4 [a100,(Il a101),(Il a102),a103] false))) → 
 isPt (.ptr m.nxt 0)∧∃c1:C,((ldC m0 (.ptr m.nxt 0))=(some c1))∧Wc prog tbl 58 [(.c c1)] m0 (fun v2 m3 => 
 ∃x4,(v2=(.c (Il x4)))∧ifB (!decide (x4=0)) (Q (.c (Il x4)) m3) (isPt (.ptr m.nxt 0) ∧ 
 ∃c5:C,((ldC m3 (.ptr m.nxt 3))=(some c5))∧isSl c5∧ifB (decide ((3:Int) < (((slLen c5):Nat):Int))) (Q (.c (Il (3:Int))) m3) (∃c6:C,
 ∃x7 x8,∃c9:C,((ldA m3 (.ptr m.nxt 0) 4)=(some [c6,(Il x7),
 (Il x8),c9]))∧Wc prog tbl 59 [(.agg 4 [c6,(Il x7),
 (Il x8),c9])] m3 (fun v10 m11=>∃b12:Bool,(v10=(.c (.bool b12))) ∧ 
 ifB (!b12) (Q (.c (Il (1:Int))) m11) (Q (.c (Il 0)) m11))))))):Wc prog tbl 23 [(.agg 4 [a100,(Il a101),(Il a102),a103])] m Q:=
 zpB (n:=1) rfl (by kernel_rfl) (by kernel_rfl) h
theorem w27{a100:C}{a101:Int}{a102:Int}{a103:C}{a200:Int}{m:M}{Q:V→M→Prop}(h :
 (∀m0:M,(m0=(M.new m (AO.cells 4 [a100,(Il a101),(Il a102),a103] false))) → 
 ∃c1:C,∃x2 x3,∃c4:C,((ldA m0 (.ptr m.nxt 0) 4)=(some [c1,(Il x2),
 (Il x3),c4]))∧Wc prog tbl 63 [(.agg 4 [c1,(Il x2),(Il x3),
 c4]),(.c (Il a200))] m0 (fun v5 m6=>∃x7 x8 x9 x10,
 ∃x11 x12 x13 x14 x15 x16,(v5=(.tup [(.agg 9 [(Il x7),
 (Il x8),(Il x9),(Il x10),(Il x11),
 (Il x12),(Il x13),(Il x14),(Il x15)]),
 (.c (Il x16))]))∧∀m17:M,(m17=(M.new m6 (AO.cells 9 [(Il 0),
 (Il 0),(Il 0),(Il 0),
 (Il 0),(Il 0),(Il 0),
 (Il 0),(Il 0)] false)))→∃m18:M,
 ((stC m17 (.ptr m6.nxt 0) 9 [(Il x7),(Il x8),(Il x9),
 (Il x10),(Il x11),(Il x12),(Il x13),
 (Il x14),(Il x15)])=(some m18))∧ifB (!decide (x16=0)) (Q (.tup [(.c C.sl0),
 (.c (Il x16))]) m18) (∃x19 x20 x21,
 ∃x22 x23 x24 x25 x26 x27,
 ((ldA m18 (.ptr m6.nxt 0) 9)=(some [(Il x19),(Il x20),
 (Il x21),(Il x22),(Il x23),(Il x24),
 (Il x25),(Il x26),(Il x27)])) ∧ 
 Wc prog tbl 64 [(.agg 9 [(Il x19),(Il x20),
 (Il x21),(Il x22),(Il x23),(Il x24),
 (Il x25),(Il x26),(Il x27)])] m18 (fun v28 m29 => 
 ∃l30:List C,(v28=(.agg 101 l30))∧Wc prog tbl 65 [(.agg 101 l30)] m29 (fun v31 m32 => 
 ∃c33:C,(v31=(.c c33))∧Q (.tup [(.c c33),(.c (Il 0))]) m32)))))):Wc prog tbl 27 [(.agg 4 [a100,(Il a101),(Il a102),a103]),(.c (Il a200))] m Q:=
 zpB (n:=2) rfl (by kernel_rfl) (by kernel_rfl) h
theorem w35{a100:C}{a101:Int}{a102:Int}{a103:C}{m:M}{Q:V→M→Prop}(h :
 (∀m0:M,(m0=(M.new m (AO.cells 4 [a100,(Il a101),(Il a102),a103] false))) → 
 ∀m1:M,(m1=(M.new m0 (AO.cells 2 [(Il 0),(Il 0)] false))) → 
 ∃c2:C,∃x3 x4,∃c5:C,((ldA m1 (.ptr m.nxt 0) 4)=(some [c2,(Il x3),
 (Il x4),c5]))∧Wc prog tbl 54 [(.agg 4 [c2,(Il x3),(Il x4),
 c5])] m1 (fun v6 m7=>∃c8:C,∃x9 x10,∃c11:C,∃c12:C,∃x13,
 (v6=(.tup [(.agg 5 [c8,(Il x9),(Il x10),c11,c12]),
 (.c (Il x13))]))∧∀m14:M,(m14=(M.new m7 (AO.cells 5 [C.sl0,(Il 0),
 (Il 0),C.sl0,C.map0] false)))→∃m15:M,((stC m14 (.ptr m7.nxt 0) 5 [c8,
 (Il x9),(Il x10),c11,c12])=(some m15)) ∧ 
 ifB (!decide (x13=0)) (∃m16:M,((stC m15 (.ptr m0.nxt 0) 2 [(Il 0),
 (Il 0)])=(some m16))∧∃x17 x18,
 ((ldA m16 (.ptr m0.nxt 0) 2)=(some [(Il x17),(Il x18)])) ∧ 
 Q (.tup [(.agg 2 [(Il x17),(Il x18)]),(.c (Il x13))]) m16) (∃c19:C,
 ∃x20 x21,∃c22:C,∃c23:C,((ldA m15 (.ptr m7.nxt 0) 5)=(some [c19,
 (Il x20),(Il x21),c22,c23]))∧Wc prog tbl 68 [(.agg 5 [c19,
 (Il x20),(Il x21),c22,c23]),(.agg 1 [(C.fn (Fn.func 72) [] [])])] m15 (fun v24 m25 => 
 ∃x26 x27,(v24=(.agg 2 [(Il x26),(Il x27)])) ∧ 
 ∃c28:C,∃x29 x30,∃c31:C,∃c32:C,((ldA m25 (.ptr m7.nxt 0) 5)=(some [c28,
 (Il x29),(Il x30),c31,c32]))∧(ifB (zaL cmC [c28,
 (Il x29),(Il x30),c31,c32]) ((ldA m15 (.ptr m7.nxt 0) 5)=(some [c28,
 (Il x29),(Il x30),c31,c32])) False)∧Wc prog tbl 68 [(.agg 5 [c28,
 (Il x29),(Il x30),c31,c32]),(.agg 1 [(C.fn (Fn.func 73) [] [])])] m25 (fun v33 m34 => 
 ∃x35 x36,(v33=(.agg 2 [(Il x35),(Il x36)])) ∧ 
 ∃m37:M,((stC m34 (.ptr m0.nxt 0) 2 [(Il x26),(Il x36)])=(some m37)) ∧ 
 ∃x38 x39,((ldA m37 (.ptr m0.nxt 0) 2)=(some [(Il x38),
 (Il x39)]))∧Q (.tup [(.agg 2 [(Il x38),(Il x39)]),
 (.c (Il 0))]) m37)))))):Wc prog tbl 35 [(.agg 4 [a100,(Il a101),(Il a102),a103])] m Q:=
 zpB (n:=1) rfl (by kernel_rfl) (by kernel_rfl) h
theorem w51{a100:C}{m:M}{Q:V→M→Prop}(h :
 (∀R0:List V→M→Prop,(∀c1:C,∀x2:Int,∀m3:M,(isSl a100∧ifB (decide (x2 < (((slLen a100):Nat):Int))) (∀m4:M,
 (m4=(zn2 m3 1))→∃n5:Nat,(x2=((n5:Nat):Int))∧(n5 < (slLen a100))∧isPt (zl2 a100 (n5 * 6)) ∧ 
 ∃x6,((ldC m4 (zl1 (zl2 a100 (n5 * 6)) 0))=(some (Il x6))) ∧ 
 ∃n7:Nat,(x2=((n7:Nat):Int))∧(n7 < (slLen a100))∧isPt (zl2 a100 (n7 * 6)) ∧ 
 ∃b8:Bool,((ldC m4 (zl1 (zl2 a100 (n7 * 6)) 1))=(some (.bool b8))) ∧ 
 ∃n9:Nat,(x2=((n9:Nat):Int))∧(n9 < (slLen a100))∧isPt (zl2 a100 (n9 * 6)) ∧ 
 ∃x10,((ldC m4 (zl1 (zl2 a100 (n9 * 6)) 2))=(some (Il x10))) ∧ 
 ∃n11:Nat,(x2=((n11:Nat):Int))∧(n11 < (slLen a100))∧isPt (zl2 a100 (n11 * 6)) ∧ 
 ∃c12:C,((ldC m4 (zl1 (zl2 a100 (n11 * 6)) 3))=(some c12)) ∧ 
 Wc prog tbl 83 [(.c c12)] m4 (fun v13 m14=>∃c15:C,(v13=(.c c15)) ∧ 
 ((ldC m14 (zl1 (zl2 a100 (n9 * 6)) 2))=(some (Il x10))) ∧ 
 ((ldC m14 (zl1 (zl2 a100 (n7 * 6)) 1))=(some (.bool b8)))∧((ldC m14 (zl1 (zl2 a100 (n5 * 6)) 0))=(some (Il x6))) ∧ 
 ∃n16:Nat,(x2=((n16:Nat):Int))∧(n16 < (slLen a100))∧isPt (zl2 a100 (n16 * 6)) ∧ 
 ∃c17:C,((ldC m14 (zl1 (zl2 a100 (n16 * 6)) 4))=(some c17)) ∧ 
 (ifB (cmC c17) ((ldC m4 (zl1 (zl2 a100 (n16 * 6)) 4))=(some c17)) False) ∧ 
 Wc prog tbl 83 [(.c c17)] m14 (fun v18 m19=>∃c20:C,(v18=(.c c20)) ∧ 
 ((ldC m19 (zl1 (zl2 a100 (n9 * 6)) 2))=(some (Il x10))) ∧ 
 ((ldC m19 (zl1 (zl2 a100 (n7 * 6)) 1))=(some (.bool b8)))∧((ldC m19 (zl1 (zl2 a100 (n5 * 6)) 0))=(some (Il x6))) ∧ 
 ∀m21:M,(m21=(M.set m19 (m3.nxt+0) (AO.cells 6 [(Il 0),
 (.bool false),(Il 0),C.sl0,C.sl0,C.sl0] false))) → 
 (ifB (cmC c17) ((ldC m21 (zl1 (zl2 a100 (n16 * 6)) 4))=(some c17)) False) ∧ 
 (ifB (cmC c12) ((ldC m21 (zl1 (zl2 a100 (n11 * 6)) 3))=(some c12)) False) ∧ 
 ((ldC m21 (zl1 (zl2 a100 (n9 * 6)) 2))=(some (Il x10))) ∧ 
 ((ldC m21 (zl1 (zl2 a100 (n7 * 6)) 1))=(some (.bool b8)))∧((ldC m21 (zl1 (zl2 a100 (n5 * 6)) 0))=(some (Il x6))) ∧ 
 ∃m22:M,((stC m21 (.ptr (m3.nxt+0) 0) 6 [(Il x6),(.bool b8),
 (Il x10),c15,c20,C.sl0])=(some m22))∧∀R23:List V → 
 M→Prop,(∀x24:Int,∀m25:M,(∃n26:Nat,(x2=((n26:Nat):Int)) ∧ 
 (n26 < (slLen a100))∧isPt (zl2 a100 (n26 * 6))∧∃c27:C,((ldC m25 (zl1 (zl2 a100 (n26 * 6)) 5))=(some c27)) ∧ 
 isSl c27∧ifB (decide (x24 < (((slLen c27):Nat):Int))) (∀R28:List V → 
 M→Prop,(∀c29:C,∀x30:Int,∀m31:M,(∃n32:Nat,(x2=((n32:Nat):Int)) ∧ 
 (n32 < (slLen a100))∧isPt (zl2 a100 (n32 * 6))∧∃c33:C,((ldC m31 (zl1 (zl2 a100 (n32 * 6)) 5))=(some c33)) ∧ 
 ∃n34:Nat,(x24=((n34:Nat):Int))∧(n34 < (slLen c33))∧∃c35:C,
 ((ldC m31 (zl2 c33 (n34 * 1)))=(some c35))∧isSl c35∧ifB (decide (x30 < (((slLen c35):Nat):Int))) (∃n36:Nat,
 (x2=((n36:Nat):Int))∧(n36 < (slLen a100))∧isPt (zl2 a100 (n36 * 6)) ∧ 
 ∃c37:C,((ldC m31 (zl1 (zl2 a100 (n36 * 6)) 5))=(some c37)) ∧ 
 ∃n38:Nat,(x24=((n38:Nat):Int))∧(n38 < (slLen c37))∧∃c39:C,
 ((ldC m31 (zl2 c37 (n38 * 1)))=(some c39))∧∃n40:Nat,(x30=((n40:Nat):Int)) ∧ 
 (n40 < (slLen c39))∧∃c41:C,((ldC m31 (zl2 c39 (n40 * 1)))=(some c41)) ∧ 
 Wc prog tbl 83 [(.c c41)] m31 (fun v42 m43=>∃c44:C,(v42=(.c c44)) ∧ 
 ∀m45:M,(m45=(M.new m43 (AO.cells 1 [c44] false)))→∃c46:C,∃m47:M,
 (ApR prog 140 m45 c29 (.sl m43.nxt 0 1 0 (some 1)) c46 m47)∧zl0 .i64 (x30+1) ∧ 
 R28 [(.c c46),(.c (Il (x30+1)))] m47)) (isPt (.ptr (m3.nxt+0) 0) ∧ 
 ∃c48:C,((ldC m31 (.ptr (m3.nxt+0) 5))=(some c48))∧∀m49:M,
 (m49=(M.new m31 (AO.cells 1 [c29] false)))→∃c50:C,∃m51:M,(ApR prog 78 m49 c48 (.sl m31.nxt 0 1 0 (some 1)) c50 m51) ∧ 
 isPt (.ptr (m3.nxt+0) 0)∧∃m52:M,((stC m51 (.ptr (m3.nxt+0) 5) 1 [c50])=(some m52)) ∧ 
 zl0 .i64 (x24+1)∧R23 [(.c (Il (x24+1)))] m52)) → 
 R28 [(.c c29),(.c (Il x30))] m31)→R28 [(.c C.sl0),
 (.c (Il 0))] m25) (∃x53,∃b54:Bool,∃x55,
 ∃c56:C,∃c57:C,∃c58:C,((ldA m25 (.ptr (m3.nxt+0) 0) 6)=(some [(Il x53),
 (.bool b54),(Il x55),c56,c57,c58]))∧∀m59:M,(m59=(M.new m25 (AO.cells 6 [(Il x53),
 (.bool b54),(Il x55),c56,c57,c58] false)))→∃c60:C,
 ∃m61:M,(ApR prog 35 m59 c1 (.sl m25.nxt 0 1 0 (some 1)) c60 m61) ∧ 
 zl0 .i64 (x2+1)∧R0 [(.c c60),(.c (Il (x2+1)))] m61)) → 
 R23 [(.c (Il x24))] m25)→R23 [(.c (Il 0))] m22))) (Q (.c c1) m3)) → 
 R0 [(.c c1),(.c (Il x2))] m3)→R0 [(.c C.sl0),(.c (Il 0))] m)):Wc prog tbl 51 [(.c a100)] m Q:=
 zpB (n:=1) rfl (by kernel_rfl) (by kernel_rfl) h
theorem w55{a100:C}{a101:Int}{a102:Int}{a103:C}{a200:C}{m:M}{Q:V→M→Prop}(h :
 (∀m0:M,(m0=(M.new m (AO.cells 4 [a100,(Il a101),(Il a102),a103] false))) → 
 isSl a200∧isPt (.ptr m.nxt 0)∧∃c1:C,((ldC m0 (.ptr m.nxt 3))=(some c1))∧isSl c1 ∧ 
 ifB (!decide ((((slLen a200):Nat):Int)=(((slLen c1):Nat):Int))) (Q (.c (.bool false)) m0) (isPt (.ptr m.nxt 0) ∧ 
 ∃c2:C,((ldC m0 (.ptr m.nxt 3))=(some c2))∧isSl c2∧∀R3:List V→M→Prop,
 (∀b4:Bool,∀x5:Int,∀m6:M,(ifB (decide (x5 < (((slLen c2):Nat):Int))) (∃n7:Nat,
 (x5=((n7:Nat):Int))∧(n7 < (slLen c2))∧∃x8 x9 x10,
 ∃x11 x12 x13 x14 x15 x16,
 ((ldA m6 (zl2 c2 (n7 * 9)) 9)=(some [(Il x8),(Il x9),
 (Il x10),(Il x11),(Il x12),(Il x13),
 (Il x14),(Il x15),(Il x16)])) ∧ 
 ∀m17:M,(m17=(M.new m6 (AO.cells 9 [(Il 0),(Il 0),
 (Il 0),(Il 0),(Il 0),
 (Il 0),(Il 0),(Il 0),
 (Il 0)] false)))→∃m18:M,((stC m17 (.ptr m6.nxt 0) 9 [(Il x8),
 (Il x9),(Il x10),(Il x11),(Il x12),
 (Il x13),(Il x14),(Il x15),(Il x16)])=(some m18)) ∧ 
 ∃x19 x20 x21 x22 x23 x24,
 ∃x25 x26 x27,((ldA m18 (.ptr m6.nxt 0) 9)=(some [(Il x19),
 (Il x20),(Il x21),(Il x22),(Il x23),
 (Il x24),(Il x25),(Il x26),(Il x27)])) ∧ 
 ∃n28:Nat,(x5=((n28:Nat):Int))∧(n28 < (slLen a200))∧∃x29,
 ∃x30 x31,((ldA m18 (zl2 a200 (n28 * 3)) 3)=(some [(Il x29),
 (Il x30),(Il x31)]))∧Wc prog tbl 84 [(.agg 9 [(Il x19),
 (Il x20),(Il x21),(Il x22),(Il x23),
 (Il x24),(Il x25),(Il x26),(Il x27)]),
 (.agg 3 [(Il x29),(Il x30),(Il x31)])] m18 (fun v32 m33 => 
 ∃b34:Bool,(v32=(.c (.bool b34)))∧ifB (!b34) (Q (.c (.bool false)) m33) (zl0 .i64 (x5+1) ∧ 
 R3 [(.c (.bool b4)),(.c (Il (x5+1)))] m33))) (Q (.c (.bool true)) m6)) → 
 R3 [(.c (.bool b4)),(.c (Il x5))] m6)→R3 [(.c (.bool false)),
 (.c (Il 0))] m0))):Wc prog tbl 55 [(.agg 4 [a100,(Il a101),(Il a102),a103]),(.c a200)] m Q:=
 zpB (n:=2) rfl (by kernel_rfl) (by kernel_rfl) h
theorem w59{a100:C}{a101:Int}{a102:Int}{a103:C}{m:M}{Q:V→M→Prop}(h :
 (∀m0:M,(m0=(M.new m (AO.cells 4 [a100,(Il a101),(Il a102),a103] false))) → 
 isPt (.ptr m.nxt 0)∧∃x1,((ldC m0 (.ptr m.nxt 1))=(some (Il x1))) ∧ 
 Wc prog tbl 93 [(.agg 2 [(Il 0),(Il (120:Int))]),(.c (Il x1))] m0 (fun v2 m3 => 
 ∃b4:Bool,(v2=(.c (.bool b4)))∧ifB b4 (isPt (.ptr m.nxt 0)∧∃x5,((ldC m3 (.ptr m.nxt 2))=(some (Il x5))) ∧ 
 Wc prog tbl 93 [(.agg 2 [(Il 0),(Il (10000:Int))]),
 (.c (Il x5))] m3 (fun v6 m7=>∃b8:Bool,(v6=(.c (.bool b8)))∧ifB b8 (isPt (.ptr m.nxt 0) ∧ 
 ∃c9:C,((ldC m7 (.ptr m.nxt 3))=(some c9))∧∃c10:C,∃x11,
 ∃x12,∃c13:C,((ldA m7 (.ptr m.nxt 0) 4)=(some [c10,(Il x11),
 (Il x12),c13]))∧zaa (zaE vW [(.agg 4 [c10,(Il x11),
 (Il x12),c13])]) False fun l14=>Wc prog tbl 94 [(.c c9),
 (.c (C.fn (Fn.func 95) l14 []))] m7 (fun v15 m16=>∃b17:Bool,(v15=(.c (.bool b17))) ∧ 
 Q (.c (.bool b17)) m16)) (Q (.c (.bool false)) m7))) (Q (.c (.bool false)) m3)))):Wc prog tbl 59 [(.agg 4 [a100,(Il a101),(Il a102),a103])] m Q:=
 zpB (n:=1) rfl (by kernel_rfl) (by kernel_rfl) h
theorem w63{a100:C}{a101:Int}{a102:Int}{a103:C}{a200:Int}{m:M}{Q:V→M→Prop}(h :
 (∀m0:M,(m0=(M.new m (AO.cells 4 [a100,(Il a101),(Il a102),a103] false))) → 
 ∀m1:M,(m1=(M.new m0 (AO.cells 9 [(Il 0),(Il 0),(Il 0),
 (Il 0),(Il 0),(Il 0),(Il 0),
 (Il 0),(Il 0)] false)))→∃c2:C,∃x3 x4,
 ∃c5:C,((ldA m1 (.ptr m.nxt 0) 4)=(some [c2,(Il x3),(Il x4),
 c5]))∧Wc prog tbl 23 [(.agg 4 [c2,(Il x3),(Il x4),c5])] m1 (fun v6 m7 => 
 ∃x8,(v6=(.c (Il x8)))∧ifB (!decide (x8=0)) (∃m9:M,((stC m7 (.ptr m0.nxt 0) 9 [(Il 0),
 (Il 0),(Il 0),(Il 0),
 (Il 0),(Il 0),(Il 0),
 (Il 0),(Il 0)])=(some m9))∧∃x10,
 ∃x11 x12 x13 x14 x15 x16 x17,
 ∃x18,((ldA m9 (.ptr m0.nxt 0) 9)=(some [(Il x10),
 (Il x11),(Il x12),(Il x13),(Il x14),
 (Il x15),(Il x16),(Il x17),(Il x18)])) ∧ 
 Q (.tup [(.agg 9 [(Il x10),(Il x11),(Il x12),
 (Il x13),(Il x14),(Il x15),(Il x16),
 (Il x17),(Il x18)]),(.c (Il x8))]) m9) (∃c19:C,
 ∃x20 x21,∃c22:C,((ldA m7 (.ptr m.nxt 0) 4)=(some [c19,
 (Il x20),(Il x21),c22]))∧Wc prog tbl 97 [(.agg 4 [c19,
 (Il x20),(Il x21),c22]),(.c (Il a200))] m7 (fun v23 m24 => 
 ∃b25:Bool,(v23=(.c (.bool b25)))∧ifB (!b25) (∃m26:M,((stC m24 (.ptr m0.nxt 0) 9 [(Il 0),
 (Il 0),(Il 0),(Il 0),
 (Il 0),(Il 0),(Il 0),
 (Il 0),(Il 0)])=(some m26)) ∧ 
 ∃x27 x28 x29 x30 x31 x32,
 ∃x33 x34 x35,((ldA m26 (.ptr m0.nxt 0) 9)=(some [(Il x27),
 (Il x28),(Il x29),(Il x30),(Il x31),
 (Il x32),(Il x33),(Il x34),(Il x35)])) ∧ 
 Q (.tup [(.agg 9 [(Il x27),(Il x28),(Il x29),
 (Il x30),(Il x31),(Il x32),(Il x33),
 (Il x34),(Il x35)]),(.c (Il (2:Int)))]) m26) (isPt (.ptr m.nxt 0) ∧ 
 ∃c36:C,((ldC m24 (.ptr m.nxt 3))=(some c36))∧∃n37:Nat,(a200=((n37:Nat):Int)) ∧ 
 (n37 < (slLen c36))∧∃x38 x39 x40 x41,
 ∃x42 x43 x44 x45 x46,((ldA m24 (zl2 c36 (n37 * 9)) 9)=(some [(Il x38),
 (Il x39),(Il x40),(Il x41),(Il x42),
 (Il x43),(Il x44),(Il x45),(Il x46)])) ∧ 
 ∃m47:M,((stC m24 (.ptr m0.nxt 0) 9 [(Il x38),(Il x39),
 (Il x40),(Il x41),(Il x42),(Il x43),
 (Il x44),(Il x45),(Il x46)])=(some m47)) ∧ 
 ∃x48 x49 x50 x51 x52 x53,
 ∃x54 x55 x56,((ldA m47 (.ptr m0.nxt 0) 9)=(some [(Il x48),
 (Il x49),(Il x50),(Il x51),(Il x52),
 (Il x53),(Il x54),(Il x55),(Il x56)])) ∧ 
 Q (.tup [(.agg 9 [(Il x48),(Il x49),(Il x50),
 (Il x51),(Il x52),(Il x53),(Il x54),
 (Il x55),(Il x56)]),(.c (Il 0))]) m47)))))):Wc prog tbl 63 [(.agg 4 [a100,(Il a101),(Il a102),a103]),(.c (Il a200))] m Q:=
 zpB (n:=2) rfl (by kernel_rfl) (by kernel_rfl) h
theorem w67{a100:C}{a200:C}{m:M}{Q:V→M→Prop}(h :
 (∀R0:List V→M→Prop,(∀b1:Bool,∀x2:Int,∀m3:M,(isSl a100∧ifB (decide (x2 < (((slLen a100):Nat):Int))) (isSl a200 ∧ 
 ifB (decide (x2 < (((slLen a200):Nat):Int))) (∃n4:Nat,(x2=((n4:Nat):Int))∧(n4 < (slLen a100)) ∧ 
 ∃x5,((ldC m3 (zl2 a100 (n4 * 1)))=(some (Il x5)))∧∃n6:Nat,
 (x2=((n6:Nat):Int))∧(n6 < (slLen a200))∧∃x7,((ldC m3 (zl2 a200 (n6 * 1)))=(some (Il x7))) ∧ 
 ifB (!decide (x5=x7)) (∃n8:Nat,(x2=((n8:Nat):Int))∧(n8 < (slLen a100)) ∧ 
 ∃x9,((ldC m3 (zl2 a100 (n8 * 1)))=(some (Il x9))) ∧ 
 ∃n10:Nat,(x2=((n10:Nat):Int))∧(n10 < (slLen a200))∧∃x11,
 ((ldC m3 (zl2 a200 (n10 * 1)))=(some (Il x11)))∧Q (.c (.bool (decide (x9 < x11)))) m3) (zl0 .i64 (x2+1) ∧ 
 R0 [(.c (.bool b1)),(.c (Il (x2+1)))] m3)) (isSl a100 ∧ 
 isSl a200∧Q (.c (.bool (decide ((((slLen a100):Nat):Int) < (((slLen a200):Nat):Int))))) m3)) (isSl a100 ∧ 
 isSl a200∧Q (.c (.bool (decide ((((slLen a100):Nat):Int) < (((slLen a200):Nat):Int))))) m3)) → 
 R0 [(.c (.bool b1)),(.c (Il x2))] m3)→R0 [(.c (.bool false)),(.c (Il 0))] m)):Wc prog tbl 67 [(.c a100),(.c a200)] m Q:=
 zpB (n:=2) rfl (by kernel_rfl) (by kernel_rfl) h
theorem w72{a100:Int}{a101:Int}{a102:Int}{a103:Int}{a104:Int}{a105:Int}{m:M}{Q:V→M→Prop}(h :
 (∀m0:M,(m0=(M.new m (AO.cells 6 [(Il a100),(Il a101),(Il a102),
 (Il a103),(Il a104),(Il a105)] false)))→∃x1,
 ∃x2 x3 x4 x5 x6,((ldA m0 (.ptr m.nxt 0) 6)=(some [(Il x1),
 (Il x2),(Il x3),(Il x4),(Il x5),
 (Il x6)]))∧Wc prog tbl 69 [(.agg 6 [(Il x1),(Il x2),
 (Il x3),(Il x4),(Il x5),(Il x6)])] m0 (fun v7 m8 => 
 ∃x9,(v7=(.c (Il x9)))∧∃x10 x11 x12 x13,
 ∃x14 x15,((ldA m8 (.ptr m.nxt 0) 6)=(some [(Il x10),
 (Il x11),(Il x12),(Il x13),(Il x14),
 (Il x15)]))∧((ldA m0 (.ptr m.nxt 0) 6)=(some [(Il x10),
 (Il x11),(Il x12),(Il x13),(Il x14),
 (Il x15)]))∧Wc prog tbl 70 [(.agg 6 [(Il x10),(Il x11),
 (Il x12),(Il x13),(Il x14),(Il x15)])] m8 (fun v16 m17 => 
 ∃x18,(v16=(.c (Il x18)))∧zl0 .i64 (x9 - x18) ∧ 
 Q (.c (Il (x9 - x18))) m17)))):Wc prog tbl 72 [(.agg 6 [(Il a100),(Il a101),(Il a102),(Il a103),(Il a104),(Il a105)])] m Q:=
 zpB (n:=1) rfl (by kernel_rfl) (by kernel_rfl) h
theorem w80{a100:C}{a200:C}{m:M}{Q:V→M→Prop}(h :
 (∀m0:M,(m0=(M.new m (AO.cells 2 [C.sl0,C.map0] false)))→Wc prog tbl 106 [(.c a100)] m0 (fun v1 m2 => 
 ∃c3:C,∃c4:C,∃x5,(v1=(.tup [(.agg 2 [c3,c4]),(.c (Il x5))])) ∧ 
 ∀m6:M,(m6=(M.new m2 (AO.cells 2 [C.sl0,C.map0] false)))→∃m7:M,((stC m6 (.ptr m2.nxt 0) 2 [c3,
 c4])=(some m7))∧ifB (!decide (x5=0)) (∃m8:M,((stC m7 (.ptr m.nxt 0) 2 [C.sl0,
 C.map0])=(some m8))∧∃c9:C,∃c10:C,((ldA m8 (.ptr m.nxt 0) 2)=(some [c9,
 c10]))∧Q (.tup [(.agg 2 [c9,c10]),(.c (Il x5))]) m8) (isSl a200 ∧ 
 ifB (decide ((5:Int) < (((slLen a200):Nat):Int))) (∃m11:M,((stC m7 (.ptr m.nxt 0) 2 [C.sl0,
 C.map0])=(some m11))∧∃c12:C,∃c13:C,((ldA m11 (.ptr m.nxt 0) 2)=(some [c12,
 c13]))∧Q (.tup [(.agg 2 [c12,c13]),(.c (Il (3:Int)))]) m11) (isPt (.ptr m2.nxt 0) ∧ 
 ∃c14:C,((ldC m7 (.ptr m2.nxt 0))=(some c14))∧zaa (zaE vW [(.c c14)]) False fun l15 => 
 Wc prog tbl 107 [(.c a200),(.c (C.fn (Fn.func 108) l15 []))] m7 (fun v16 m17=>∃b18:Bool,
 (v16=(.c (.bool b18)))∧ifB (!b18) (∃m19:M,((stC m17 (.ptr m.nxt 0) 2 [C.sl0,
 C.map0])=(some m19))∧∃c20:C,∃c21:C,((ldA m19 (.ptr m.nxt 0) 2)=(some [c20,
 c21]))∧Q (.tup [(.agg 2 [c20,c21]),(.c (Il (2:Int)))]) m19) (∃c22:C,
 ∃c23:C,((ldA m17 (.ptr m2.nxt 0) 2)=(some [c22,c23]))∧∃m24:M,
 ((stC m17 (.ptr m.nxt 0) 2 [c22,c23])=(some m24))∧∃c25:C,∃c26:C,
 ((ldA m24 (.ptr m.nxt 0) 2)=(some [c25,c26]))∧Q (.tup [(.agg 2 [c25,
 c26]),(.c (Il 0))]) m24))))))):Wc prog tbl 80 [(.c a100),(.c a200)] m Q:=
 zpB (n:=2) rfl (by kernel_rfl) (by kernel_rfl) h
theorem w84{a100:Int}{a101:Int}{a102:Int}{a103:Int}{a104:Int}{a105:Int}{a106:Int}{a107:Int}{a108:Int}{a200:Int}{a201:Int}{a202:Int}{m:M}{Q:V→M→Prop}(h :
 (∀m0:M,(m0=(M.new m (AO.cells 9 [(Il a100),(Il a101),(Il a102),
 (Il a103),(Il a104),(Il a105),(Il a106),
 (Il a107),(Il a108)] false)))→∀m1:M,(m1=(M.new m0 (AO.cells 3 [(Il a200),
 (Il a201),(Il a202)] false)))→isPt (.ptr m.nxt 0)∧∃x2,
 ∃x3,((ldA m1 (.ptr m.nxt 3) 2)=(some [(Il x2),(Il x3)])) ∧ 
 isPt (.ptr m0.nxt 0)∧∃x4,((ldC m1 (.ptr m0.nxt 0))=(some (Il x4))) ∧ 
 Wc prog tbl 93 [(.agg 2 [(Il x2),(Il x3)]),(.c (Il x4))] m1 (fun v5 m6 => 
 ∃b7:Bool,(v5=(.c (.bool b7)))∧ifB b7 (isPt (.ptr m.nxt 0)∧∃x8 x9,
 ((ldA m6 (.ptr m.nxt 5) 2)=(some [(Il x8),(Il x9)])) ∧ 
 isPt (.ptr m0.nxt 0)∧∃x10,((ldC m6 (.ptr m0.nxt 1))=(some (Il x10))) ∧ 
 Wc prog tbl 93 [(.agg 2 [(Il x8),(Il x9)]),(.c (Il x10))] m6 (fun v11 m12 => 
 ∃b13:Bool,(v11=(.c (.bool b13)))∧ifB b13 (isPt (.ptr m.nxt 0)∧∃x14,
 ∃x15,((ldA m12 (.ptr m.nxt 7) 2)=(some [(Il x14),
 (Il x15)]))∧isPt (.ptr m0.nxt 0)∧∃x16,((ldC m12 (.ptr m0.nxt 2))=(some (Il x16))) ∧ 
 Wc prog tbl 93 [(.agg 2 [(Il x14),(Il x15)]),
 (.c (Il x16))] m12 (fun v17 m18=>∃b19:Bool,(v17=(.c (.bool b19))) ∧ 
 Q (.c (.bool b19)) m18)) (Q (.c (.bool false)) m12))) (Q (.c (.bool false)) m6)))):Wc prog tbl 84 [(.agg 9 [(Il a100),(Il a101),(Il a102),(Il a103),(Il a104),(Il a105),(Il a106),(Il a107),(Il a108)]),(.agg 3 [(Il a200),(Il a201),(Il a202)])] m Q:=
 zpB (n:=2) rfl (by kernel_rfl) (by kernel_rfl) h
theorem w88{a100:C}{m:M}{Q:V→M→Prop}(h :
 (isSl a100∧ifB (decide ((3:Int) < (((slLen a100):Nat):Int))) (Q (.c (Il (3:Int))) m) (∀R0:List V → 
 M→Prop,(∀x1:Int,∀x2:Int,∀m3:M,(isSl a100∧ifB (decide (x2 < (((slLen a100):Nat):Int))) (∃n4:Nat,
 (x2=((n4:Nat):Int))∧(n4 < (slLen a100))∧isPt (zl2 a100 (n4 * 6))∧∃c5:C,((ldC m3 (zl1 (zl2 a100 (n4 * 6)) 3))=(some c5)) ∧ 
 isSl c5∧ifB (decide ((4:Int) < (((slLen c5):Nat):Int))) (Q (.c (Il (3:Int))) m3) (∃n6:Nat,
 (x2=((n6:Nat):Int))∧(n6 < (slLen a100))∧isPt (zl2 a100 (n6 * 6))∧∃c7:C,
 ((ldC m3 (zl1 (zl2 a100 (n6 * 6)) 4))=(some c7))∧isSl c7∧ifB (decide ((5:Int) < (((slLen c7):Nat):Int))) (Q (.c (Il (3:Int))) m3) (∃n8:Nat,
 (x2=((n8:Nat):Int))∧(n8 < (slLen a100))∧isPt (zl2 a100 (n8 * 6)) ∧ 
 ∃c9:C,((ldC m3 (zl1 (zl2 a100 (n8 * 6)) 5))=(some c9))∧isSl c9 ∧ 
 ifB (decide ((3:Int) < (((slLen c9):Nat):Int))) (Q (.c (Il (3:Int))) m3) (zl0 .i64 (x2+1) ∧ 
 R0 [(.c (Il x1)),(.c (Il (x2+1)))] m3)))) (∀R10:List V → 
 M→Prop,(∀x11:Int,∀x12:Int,∀m13:M,(isSl a100∧ifB (decide (x12 < (((slLen a100):Nat):Int))) (∃n14:Nat,
 (x12=((n14:Nat):Int))∧(n14 < (slLen a100))∧∃x15,∃b16:Bool,∃x17,
 ∃c18:C,∃c19:C,∃c20:C,((ldA m13 (zl2 a100 (n14 * 6)) 6)=(some [(Il x15),
 (.bool b16),(Il x17),c18,c19,c20]))∧Wc prog tbl 113 [(.agg 6 [(Il x15),
 (.bool b16),(Il x17),c18,c19,c20])] m13 (fun v21 m22=>∃b23:Bool,
 (v21=(.c (.bool b23)))∧ifB (!b23) (Q (.c (Il (1:Int))) m22) (∃n24:Nat,
 (x12=((n24:Nat):Int))∧(n24 < (slLen a100))∧isPt (zl2 a100 (n24 * 6)) ∧ 
 ∃c25:C,((ldC m22 (zl1 (zl2 a100 (n24 * 6)) 5))=(some c25)) ∧ 
 isSl c25∧∃n26:Nat,((0:Int)=((n26:Nat):Int))∧(n26 < (slLen a100)) ∧ 
 isPt (zl2 a100 (n26 * 6))∧∃c27:C,((ldC m22 (zl1 (zl2 a100 (n26 * 6)) 5))=(some c27)) ∧ 
 isSl c27∧ifB (!decide ((((slLen c25):Nat):Int)=(((slLen c27):Nat):Int))) (Q (.c (Il (1:Int))) m22) (ifB (decide (x12=0)) (∃n28:Nat,
 (x12=((n28:Nat):Int))∧(n28 < (slLen a100))∧isPt (zl2 a100 (n28 * 6)) ∧ 
 ∃x29,((ldC m22 (zl1 (zl2 a100 (n28 * 6)) 0))=(some (Il x29))) ∧ 
 ifB (!decide (x29=0)) (Q (.c (Il (1:Int))) m22) (ifB (decide ((0:Int) < x12)) (∃n30:Nat,
 (x12=((n30:Nat):Int))∧(n30 < (slLen a100))∧isPt (zl2 a100 (n30 * 6)) ∧ 
 ∃x31,((ldC m22 (zl1 (zl2 a100 (n30 * 6)) 0))=(some (Il x31))) ∧ 
 zl0 .i64 (x12 - 1)∧∃n32:Nat,((x12 - 1)=((n32:Nat):Int)) ∧ 
 (n32 < (slLen a100))∧isPt (zl2 a100 (n32 * 6))∧∃x33,((ldC m22 (zl1 (zl2 a100 (n32 * 6)) 0))=(some (Il x33))) ∧ 
 ifB (decide (x31≤x33)) (Q (.c (Il (1:Int))) m22) (zl0 .i64 (x12+1) ∧ 
 R10 [(.c (Il x11)),(.c (Il (x12+1)))] m22)) (zl0 .i64 (x12+1) ∧ 
 R10 [(.c (Il x11)),(.c (Il (x12+1)))] m22))) (ifB (decide ((0:Int) < x12)) (∃n34:Nat,
 (x12=((n34:Nat):Int))∧(n34 < (slLen a100))∧isPt (zl2 a100 (n34 * 6)) ∧ 
 ∃x35,((ldC m22 (zl1 (zl2 a100 (n34 * 6)) 0))=(some (Il x35))) ∧ 
 zl0 .i64 (x12 - 1)∧∃n36:Nat,((x12 - 1)=((n36:Nat):Int)) ∧ 
 (n36 < (slLen a100))∧isPt (zl2 a100 (n36 * 6))∧∃x37,((ldC m22 (zl1 (zl2 a100 (n36 * 6)) 0))=(some (Il x37))) ∧ 
 ifB (decide (x35≤x37)) (Q (.c (Il (1:Int))) m22) (zl0 .i64 (x12+1) ∧ 
 R10 [(.c (Il x11)),(.c (Il (x12+1)))] m22)) (zl0 .i64 (x12+1) ∧ 
 R10 [(.c (Il x11)),(.c (Il (x12+1)))] m22)))))) (isSl a100 ∧ 
 ifB (decide ((((slLen a100):Nat):Int)=(0:Int))) (Q (.c (Il (1:Int))) m13) (Q (.c (Il 0)) m13))) → 
 R10 [(.c (Il x11)),(.c (Il x12))] m13)→R10 [(.c (Il x1)),
 (.c (Il 0))] m3))→R0 [(.c (Il x1)),(.c (Il x2))] m3) → 
 R0 [(.c (Il 0)),(.c (Il 0))] m))):Wc prog tbl 88 [(.c a100)] m Q:=
 zpB (n:=1) rfl (by kernel_rfl) (by kernel_rfl) h
theorem w92{a100:C}{m:M}{Q:V→M→Prop}(h :
 (Wc prog tbl 116 [(.c a100),(.c (C.fn (Fn.func 117) [] []))] m (fun v0 m1=>∃b2:Bool,(v0=(.c (.bool b2))) ∧ 
 ifB b2 (Wc prog tbl 119 [(.c a100)] m1 (fun v3 m4=>∃c5:C,(v3=(.c c5))∧Wc prog tbl 118 [(.c c5)] m4 (fun v6 m7 => 
 ∃b8:Bool,(v6=(.c (.bool b8)))∧ifB b8 (zaa (zaE vW [(.c a100)]) False fun l9=>Wc prog tbl 116 [(.c a100),
 (.c (C.fn (Fn.func 120) l9 []))] m7 (fun v10 m11=>∃b12:Bool,(v10=(.c (.bool b12))) ∧ 
 Q (.c (.bool b12)) m11)) (Q (.c (.bool false)) m7)))) (Q (.c (.bool false)) m1)))):Wc prog tbl 92 [(.c a100)] m Q:=
 zpB (n:=1) rfl (by kernel_rfl) (by kernel_rfl) h
theorem w96{a100:C}{a101:Int}{a102:Int}{a103:C}{a200:Int}{a201:Int}{a202:Int}{a203:Int}{a204:Int}{a205:Int}{a206:Int}{a207:Int}{a208:Int}{a300:Int}{m:M}{Q:V→M→Prop}(h :
 (∀m0:M,(m0=(M.new m (AO.cells 4 [a100,(Il a101),(Il a102),a103] false))) → 
 ∀m1:M,(m1=(M.new m0 (AO.cells 9 [(Il a200),(Il a201),(Il a202),
 (Il a203),(Il a204),(Il a205),(Il a206),
 (Il a207),(Il a208)] false)))→isPt (.ptr m0.nxt 0)∧∃x2,
 ((ldC m1 (.ptr m0.nxt 1))=(some (Il x2)))∧isPt (.ptr m.nxt 0)∧∃c3:C,
 ((ldC m1 (.ptr m.nxt 0))=(some c3))∧isPt (.ptr m0.nxt 0)∧∃x4,((ldC m1 (.ptr m0.nxt 0))=(some (Il x4))) ∧ 
 isPt (.ptr m.nxt 0)∧∃x5,((ldC m1 (.ptr m.nxt 1))=(some (Il x5))) ∧ 
 Wc prog tbl 127 [(.c c3),(.c (Il x4)),(.c (Il x5)),(.c (Il a300))] m1 (fun v6 m7 => 
 ∃x8,(v6=(.c (Il x8)))∧((ldC m7 (.ptr m0.nxt 1))=(some (Il x2))) ∧ 
 ((0:Int)≤x2)∧((0:Int)≤x8)∧zl0 .i64 (x2 * x8)∧((0:Int)≤(x2 * x8)) ∧ 
 ((0:Int) < (100:Int))∧zl0 .i64 ((x2 * x8) / (100:Int))∧Q (.c (Il ((x2 * x8) / (100:Int)))) m7))):Wc prog tbl 96 [(.agg 4 [a100,(Il a101),(Il a102),a103]),(.agg 9 [(Il a200),(Il a201),(Il a202),(Il a203),(Il a204),(Il a205),(Il a206),(Il a207),(Il a208)]),(.c (Il a300))] m Q:=
 zpB (n:=3) rfl (by kernel_rfl) (by kernel_rfl) h
theorem zwl{a100:C}{a101:Int}{a102:Int}{a103:C}{a104:C}{m:M}{Q:V→M→Prop}(h :
 (∀m0:M,(m0=(M.new m (AO.cells 5 [a100,(Il a101),(Il a102),a103,a104] false))) → 
 Q (.c (C.fn (Fn.func 130) [] [(W.c (C0.ptr m.nxt 0))])) m0)):Wc prog tbl 100 [(.agg 5 [a100,(Il a101),(Il a102),a103,a104])] m Q:=
 zpB (n:=1) rfl (by kernel_rfl) (by kernel_rfl) h
theorem zwm{a100:Int}{a101:Int}{a200:Int}{m:M}{Q:V→M→Prop}(h :
 (∀m0:M,(m0=(M.new m (AO.cells 2 [(Il a100),(Il a101)] false)))→isPt (.ptr m.nxt 0) ∧ 
 ∃x1,((ldC m0 (.ptr m.nxt 0))=(some (Il x1)))∧ifB (decide (x1≤a200)) (isPt (.ptr m.nxt 0) ∧ 
 ∃x2,((ldC m0 (.ptr m.nxt 1))=(some (Il x2)))∧Q (.c (.bool (decide (a200≤x2)))) m0) (Q (.c (.bool false)) m0))):Wc prog tbl 109 [(.agg 2 [(Il a100),(Il a101)]),(.c (Il a200))] m Q:=
 zpB (n:=2) rfl (by kernel_rfl) (by kernel_rfl) h
theorem zwn{a100:Int}{a101:Bool}{a102:Int}{a103:C}{a104:C}{a105:C}{m:M}{Q:V→M→Prop}(h :
 (∀m0:M,(m0=(M.new m (AO.cells 6 [(Il a100),(.bool a101),(Il a102),a103,
 a104,a105] false)))→isPt (.ptr m.nxt 0)∧∃x1,((ldC m0 (.ptr m.nxt 0))=(some (Il x1))) ∧ 
 Wc prog tbl 48 [(.c (Il x1)),(.c (Il 0)),(.c (Il (120:Int)))] m0 (fun v2 m3 => 
 ∃b4:Bool,(v2=(.c (.bool b4)))∧ifB (!b4) (Q (.c (.bool false)) m3) (isPt (.ptr m.nxt 0) ∧ 
 ∃x5,((ldC m3 (.ptr m.nxt 2))=(some (Il x5)))∧Wc prog tbl 48 [(.c (Il x5)),
 (.c (Il 0)),(.c (Il (100:Int)))] m3 (fun v6 m7 => 
 ∃b8:Bool,(v6=(.c (.bool b8)))∧ifB (!b8) (Q (.c (.bool false)) m7) (isPt (.ptr m.nxt 0) ∧ 
 ∃c9:C,((ldC m7 (.ptr m.nxt 3))=(some c9))∧Wc prog tbl 143 [(.c c9),
 (.c (Il (120:Int)))] m7 (fun v10 m11=>∃b12:Bool,(v10=(.c (.bool b12))) ∧ 
 ifB (!b12) (Q (.c (.bool false)) m11) (isPt (.ptr m.nxt 0)∧∃c13:C,((ldC m11 (.ptr m.nxt 4))=(some c13)) ∧ 
 Wc prog tbl 143 [(.c c13),(.c (Il (100:Int)))] m11 (fun v14 m15 => 
 ∃b16:Bool,(v14=(.c (.bool b16)))∧ifB (!b16) (Q (.c (.bool false)) m15) (isPt (.ptr m.nxt 0) ∧ 
 ∃c17:C,((ldC m15 (.ptr m.nxt 4))=(some c17))∧isPt (.ptr m.nxt 0) ∧ 
 ∃c18:C,((ldC m15 (.ptr m.nxt 4))=(some c18))∧isSl c18 ∧ 
 zl0 .i64 ((((slLen c18):Nat):Int) - (1:Int))∧∃n19:Nat,
 (((((slLen c18):Nat):Int) - (1:Int))=((n19:Nat):Int))∧(n19 < (slLen c17)) ∧ 
 ∃x20,((ldC m15 (zl2 c17 (n19 * 1)))=(some (Il x20))) ∧ 
 ifB (!decide (x20=100)) (Q (.c (.bool false)) m15) (isPt (.ptr m.nxt 0) ∧ 
 ∃c21:C,((ldC m15 (.ptr m.nxt 5))=(some c21))∧isSl c21 ∧ 
 ifB (decide ((((slLen c21):Nat):Int)=(0:Int))) (Q (.c (.bool false)) m15) (∀R22:List V → 
 M→Prop,(∀b23:Bool,∀b24:Bool,∀b25:Bool,∀x26:Int,∀m27:M,
 (isPt (.ptr m.nxt 0)∧∃c28:C,((ldC m27 (.ptr m.nxt 5))=(some c28)) ∧ 
 isSl c28∧ifB (decide (x26 < (((slLen c28):Nat):Int))) (isPt (.ptr m.nxt 0) ∧ 
 ∃c29:C,((ldC m27 (.ptr m.nxt 5))=(some c29))∧∃n30:Nat,
 (x26=((n30:Nat):Int))∧(n30 < (slLen c29))∧∃c31:C,((ldC m27 (zl2 c29 (n30 * 1)))=(some c31)) ∧ 
 isSl c31∧isPt (.ptr m.nxt 0)∧∃c32:C,((ldC m27 (.ptr m.nxt 3))=(some c32)) ∧ 
 isSl c32∧ifB (!decide ((((slLen c31):Nat):Int)=(((slLen c32):Nat):Int))) (Q (.c (.bool false)) m27) (∀R33:List V → 
 M→Prop,(∀b34:Bool,∀b35:Bool,∀x36:Int,∀m37:M,(isPt (.ptr m.nxt 0) ∧ 
 ∃c38:C,((ldC m37 (.ptr m.nxt 3))=(some c38))∧isSl c38 ∧ 
 ifB (decide (x36 < (((slLen c38):Nat):Int))) (isPt (.ptr m.nxt 0)∧∃c39:C,
 ((ldC m37 (.ptr m.nxt 5))=(some c39))∧∃n40:Nat,(x26=((n40:Nat):Int)) ∧ 
 (n40 < (slLen c39))∧∃c41:C,((ldC m37 (zl2 c39 (n40 * 1)))=(some c41)) ∧ 
 ∃n42:Nat,(x36=((n42:Nat):Int))∧(n42 < (slLen c41))∧∃c43:C,
 ((ldC m37 (zl2 c41 (n42 * 1)))=(some c43))∧isSl c43∧isPt (.ptr m.nxt 0) ∧ 
 ∃c44:C,((ldC m37 (.ptr m.nxt 4))=(some c44))∧isSl c44 ∧ 
 ifB (!decide ((((slLen c43):Nat):Int)=(((slLen c44):Nat):Int))) (Q (.c (.bool false)) m37) (∀R45:List V → 
 M→Prop,(∀b46:Bool,∀x47:Int,∀m48:M,(isPt (.ptr m.nxt 0) ∧ 
 ∃c49:C,((ldC m48 (.ptr m.nxt 4))=(some c49))∧isSl c49 ∧ 
 ifB (decide (x47 < (((slLen c49):Nat):Int))) (isPt (.ptr m.nxt 0)∧∃c50:C,
 ((ldC m48 (.ptr m.nxt 5))=(some c50))∧∃n51:Nat,(x26=((n51:Nat):Int)) ∧ 
 (n51 < (slLen c50))∧∃c52:C,((ldC m48 (zl2 c50 (n51 * 1)))=(some c52)) ∧ 
 ∃n53:Nat,(x36=((n53:Nat):Int))∧(n53 < (slLen c52))∧∃c54:C,
 ((ldC m48 (zl2 c52 (n53 * 1)))=(some c54))∧∃n55:Nat,(x47=((n55:Nat):Int)) ∧ 
 (n55 < (slLen c54))∧∃x56,((ldC m48 (zl2 c54 (n55 * 1)))=(some (Il x56))) ∧ 
 Wc prog tbl 48 [(.c (Il x56)),(.c (Il 0)),
 (.c (Il (100:Int)))] m48 (fun v57 m58=>∃b59:Bool,(v57=(.c (.bool b59))) ∧ 
 ifB (!b59) (Q (.c (.bool false)) m58) (zl0 .i64 (x47+1) ∧ 
 R45 [(.c (.bool b46)),(.c (Il (x47+1)))] m58))) (zl0 .i64 (x36+1) ∧ 
 R33 [(.c (.bool b46)),(.c (.bool b46)),(.c (Il (x36+1)))] m48)) → 
 R45 [(.c (.bool b46)),(.c (Il x47))] m48)→R45 [(.c (.bool b34)),
 (.c (Il 0))] m37)) (zl0 .i64 (x26+1) ∧ 
 R22 [(.c (.bool b34)),(.c (.bool b34)),(.c (.bool b34)),(.c (Il (x26+1)))] m37)) → 
 R33 [(.c (.bool b34)),(.c (.bool b35)),(.c (Il x36))] m37) → 
 R33 [(.c (.bool b23)),(.c (.bool b23)),(.c (Il 0))] m27)) (Q (.c (.bool true)) m27)) → 
 R22 [(.c (.bool b23)),(.c (.bool b24)),(.c (.bool b25)),(.c (Il x26))] m27) → 
 R22 [(.c (.bool false)),(.c (.bool false)),(.c (.bool false)),(.c (Il 0))] m15)))))))))))):Wc prog tbl 113 [(.agg 6 [(Il a100),(.bool a101),(Il a102),a103,a104,a105])] m Q:=
 zpB (n:=1) rfl (by kernel_rfl) (by kernel_rfl) h
theorem zwo{a100:Int}{a101:Bool}{a102:Int}{a103:C}{a104:C}{a105:C}{m:M}{Q:V→M→Prop}(h :
 (∀m0:M,(m0=(M.new m (AO.cells 6 [(Il a100),(.bool a101),(Il a102),a103,
 a104,a105] false)))→isPt (.ptr m.nxt 0)∧∃x1,((ldC m0 (.ptr m.nxt 0))=(some (Il x1))) ∧ 
 Wc prog tbl 138 [(.c (Il x1))] m0 (fun v2 m3=>∃b4:Bool,(v2=(.c (.bool b4))) ∧ 
 ifB b4 (isPt (.ptr m.nxt 0)∧∃x5,((ldC m3 (.ptr m.nxt 2))=(some (Il x5))) ∧ 
 Wc prog tbl 147 [(.c (Il x5))] m3 (fun v6 m7=>∃b8:Bool,(v6=(.c (.bool b8))) ∧ 
 ifB b8 (isPt (.ptr m.nxt 0)∧∃c9:C,((ldC m7 (.ptr m.nxt 3))=(some c9)) ∧ 
 Wc prog tbl 118 [(.c c9)] m7 (fun v10 m11=>∃b12:Bool,(v10=(.c (.bool b12))) ∧ 
 ifB b12 (isPt (.ptr m.nxt 0)∧∃c13:C,((ldC m11 (.ptr m.nxt 3))=(some c13)) ∧ 
 Wc prog tbl 148 [(.c c13),(.c (C.fn (Fn.func 138) [] []))] m11 (fun v14 m15 => 
 ∃b16:Bool,(v14=(.c (.bool b16)))∧ifB b16 (isPt (.ptr m.nxt 0) ∧ 
 ∃c17:C,((ldC m15 (.ptr m.nxt 4))=(some c17))∧Wc prog tbl 118 [(.c c17)] m15 (fun v18 m19 => 
 ∃b20:Bool,(v18=(.c (.bool b20)))∧ifB b20 (isPt (.ptr m.nxt 0) ∧ 
 ∃c21:C,((ldC m19 (.ptr m.nxt 4))=(some c21))∧isPt (.ptr m.nxt 0) ∧ 
 ∃c22:C,((ldC m19 (.ptr m.nxt 4))=(some c22))∧isSl c22 ∧ 
 zl0 .i64 ((((slLen c22):Nat):Int) - (1:Int))∧∃n23:Nat,
 (((((slLen c22):Nat):Int) - (1:Int))=((n23:Nat):Int))∧(n23 < (slLen c21)) ∧ 
 ∃x24,((ldC m19 (zl2 c21 (n23 * 1)))=(some (Il x24))) ∧ 
 ifB (decide (x24=100)) (isPt (.ptr m.nxt 0)∧∃c25:C,((ldC m19 (.ptr m.nxt 5))=(some c25)) ∧ 
 isSl c25∧ifB (decide ((0:Int) < (((slLen c25):Nat):Int))) (isPt (.ptr m.nxt 0) ∧ 
 ∃c26:C,((ldC m19 (.ptr m.nxt 5))=(some c26))∧∃x27,
 ∃b28:Bool,∃x29,∃c30:C,∃c31:C,∃c32:C,((ldA m19 (.ptr m.nxt 0) 6)=(some [(Il x27),
 (.bool b28),(Il x29),c30,c31,c32]))∧zaa (zaE vW [(.agg 6 [(Il x27),
 (.bool b28),(Il x29),c30,c31,c32])]) False fun l33=>Wc prog tbl 149 [(.c c26),
 (.c (C.fn (Fn.func 150) l33 []))] m19 (fun v34 m35=>∃b36:Bool,(v34=(.c (.bool b36))) ∧ 
 Q (.c (.bool b36)) m35)) (Q (.c (.bool false)) m19)) (Q (.c (.bool false)) m19)) (Q (.c (.bool false)) m19))) (Q (.c (.bool false)) m15))) (Q (.c (.bool false)) m11))) (Q (.c (.bool false)) m7))) (Q (.c (.bool false)) m3)))):Wc prog tbl 117 [(.agg 6 [(Il a100),(.bool a101),(Il a102),a103,a104,a105])] m Q:=
 zpB (n:=1) rfl (by kernel_rfl) (by kernel_rfl) h
theorem zwp{a100:C}{a200:C}{m:M}{Q:V→M→Prop}(h :
 (Wc prog tbl 151 [(.c a100),(.c a200)] m (fun v0 m1=>∃x2,(v0=(.c (Il x2)))∧Q (.c (.bool (decide ((0:Int)≤x2)))) m1))):Wc prog tbl 121 [(.c a100),(.c a200)] m Q:=
 zpB (n:=2) rfl (by kernel_rfl) (by kernel_rfl) h
theorem zwq{a100:Int}{a101:Int}{m:M}{Q:V→M→Prop}(h :
 (∀m0:M,(m0=(M.new m (AO.cells 2 [(Il a100),(Il a101)] false)))→isPt (.ptr m.nxt 0) ∧ 
 ∃x1,((ldC m0 (.ptr m.nxt 0))=(some (Il x1)))∧Wc prog tbl 124 [(.c (Il x1))] m0 (fun v2 m3 => 
 ∃b4:Bool,(v2=(.c (.bool b4)))∧ifB b4 (isPt (.ptr m.nxt 0)∧∃x5,((ldC m3 (.ptr m.nxt 1))=(some (Il x5))) ∧ 
 Wc prog tbl 124 [(.c (Il x5))] m3 (fun v6 m7=>∃b8:Bool,(v6=(.c (.bool b8))) ∧ 
 ifB b8 (isPt (.ptr m.nxt 0)∧∃x9,((ldC m7 (.ptr m.nxt 0))=(some (Il x9))) ∧ 
 isPt (.ptr m.nxt 0)∧∃x10,((ldC m7 (.ptr m.nxt 1))=(some (Il x10))) ∧ 
 ifB (decide (x9≤x10)) (isPt (.ptr m.nxt 0)∧∃x11,((ldC m7 (.ptr m.nxt 1))=(some (Il x11))) ∧ 
 isPt (.ptr m.nxt 0)∧∃x12,((ldC m7 (.ptr m.nxt 0))=(some (Il x12))) ∧ 
 zl0 .i64 (x11 - x12)∧Q (.c (.bool (decide ((x11 - x12)≤(4:Int))))) m7) (Q (.c (.bool false)) m7)) (Q (.c (.bool false)) m7))) (Q (.c (.bool false)) m3)))):Wc prog tbl 126 [(.agg 2 [(Il a100),(Il a101)])] m Q:=
 zpB (n:=1) rfl (by kernel_rfl) (by kernel_rfl) h
theorem zwr{a100:Int}{m:M}{Q:V→M→Prop}(h :
 (Wc prog tbl 109 [(.agg 2 [(Il 0),(Il (120:Int))]),(.c (Il a100))] m (fun v0 m1 => 
 ∃b2:Bool,(v0=(.c (.bool b2)))∧Q (.c (.bool b2)) m1))):Wc prog tbl 138 [(.c (Il a100))] m Q:=
 zpB (n:=1) rfl (by kernel_rfl) (by kernel_rfl) h
theorem zws{a100:C}{a101:Int}{a102:Int}{a103:C}{a200:Int}{a201:Int}{a202:Int}{a203:Int}{a204:Int}{a205:Int}{a206:Int}{a207:Int}{a208:Int}{a300:Int}{m:M}{Q:V→M→Prop}(h :
 (∀m0:M,(m0=(M.new m (AO.cells 4 [a100,(Il a101),(Il a102),a103] false))) → 
 ∀m1:M,(m1=(M.new m0 (AO.cells 9 [(Il a200),(Il a201),(Il a202),
 (Il a203),(Il a204),(Il a205),(Il a206),
 (Il a207),(Il a208)] false)))→∀m2:M,(m2=(M.new m1 (AO.cells 6 [(Il 0),
 (Il 0),(Il 0),(Il 0),(Il 0),
 (Il 0)] false)))→isPt (.ptr m0.nxt 0)∧∃x3,((ldC m2 (.ptr m0.nxt 0))=(some (Il x3))) ∧ 
 isPt (.ptr m0.nxt 0)∧∃x4,((ldC m2 (.ptr m0.nxt 1))=(some (Il x4))) ∧ 
 isPt (.ptr m.nxt 0)∧∃x5,((ldC m2 (.ptr m.nxt 1))=(some (Il x5))) ∧ 
 isPt (.ptr m.nxt 0)∧∃x6,((ldC m2 (.ptr m.nxt 1))=(some (Il x6))) ∧ 
 ∃m7:M,((stC m2 (.ptr m1.nxt 0) 6 [(Il x3),(Il x4),
 (Il x5),(Il x6),(Il a300),(Il a300)])=(some m7)) ∧ 
 ∃x8 x9 x10 x11 x12 x13,((ldA m7 (.ptr m1.nxt 0) 6)=(some [(Il x8),
 (Il x9),(Il x10),(Il x11),(Il x12),
 (Il x13)]))∧Q (.agg 6 [(Il x8),(Il x9),
 (Il x10),(Il x11),(Il x12),(Il x13)]) m7)):Wc prog tbl 142 [(.agg 4 [a100,(Il a101),(Il a102),a103]),(.agg 9 [(Il a200),(Il a201),(Il a202),(Il a203),(Il a204),(Il a205),(Il a206),(Il a207),(Il a208)]),(.c (Il a300))] m Q:=
 zpB (n:=3) rfl (by kernel_rfl) (by kernel_rfl) h
theorem zwt{a100:Int}{m:M}{Q:V→M→Prop}(h :
 (Wc prog tbl 109 [(.agg 2 [(Il 0),(Il (100:Int))]),(.c (Il a100))] m (fun v0 m1 => 
 ∃b2:Bool,(v0=(.c (.bool b2)))∧Q (.c (.bool b2)) m1))):Wc prog tbl 147 [(.c (Il a100))] m Q:=
 zpB (n:=1) rfl (by kernel_rfl) (by kernel_rfl) h
theorem zwu{a100:C}{a200:C}{m:M}{Q:V→M→Prop}(h :
 (isSl a100∧∀R0:List V→M→Prop,(∀x1:Int,∀x2:Int,∀m3:M,(ifB (decide (x2 < (((slLen a100):Nat):Int))) (∃n4:Nat,
 (x2=((n4:Nat):Int))∧(n4 < (slLen a100))∧∃x5 x6 x7 x8,
 ∃x9 x10 x11 x12 x13,((ldA m3 (zl2 a100 (n4 * 9)) 9)=(some [(Il x5),
 (Il x6),(Il x7),(Il x8),(Il x9),
 (Il x10),(Il x11),(Il x12),(Il x13)])) ∧ 
 zmq prog tbl [(.agg 9 [(Il x5),(Il x6),(Il x7),
 (Il x8),(Il x9),(Il x10),(Il x11),
 (Il x12),(Il x13)])] a200 m3 (fun v14 m15=>∃b16:Bool,
 (v14=(.c (.bool b16)))∧ifB b16 (Q (.c (Il x2)) m15) (zl0 .i64 (x2+1) ∧ 
 R0 [(.c (Il x1)),(.c (Il (x2+1)))] m15))) (Q (.c (Il (-1:Int))) m3)) → 
 R0 [(.c (Il x1)),(.c (Il x2))] m3)→R0 [(.c (Il 0)),
 (.c (Il 0))] m)):Wc prog tbl 151 [(.c a100),(.c a200)] m Q:=
 zpB (n:=2) rfl (by kernel_rfl) (by kernel_rfl) h
theorem zwv{a100:Int}{a101:Bool}{a102:Int}{a103:C}{a104:C}{a105:C}{a200:Int}{a300:Int}{a400:Int}{m:M}{Q:V→M→Prop}(h :
 (∀m0:M,(m0=(M.new m (AO.cells 6 [(Il a100),(.bool a101),(Il a102),a103,
 a104,a105] false)))→isPt (.ptr m.nxt 0)∧∃c1:C,((ldC m0 (.ptr m.nxt 5))=(some c1)) ∧ 
 ∃n2:Nat,(a200=((n2:Nat):Int))∧(n2 < (slLen c1))∧∃c3:C,((ldC m0 (zl2 c1 (n2 * 1)))=(some c3)) ∧ 
 isPt (.ptr m.nxt 0)∧∃c4:C,((ldC m0 (.ptr m.nxt 3))=(some c4))∧Wc prog tbl 171 [(.c c4),
 (.c (Il a300))] m0 (fun v5 m6=>∃x7,(v5=(.c (Il x7))) ∧ 
 (ifB (cmC c3) ((ldC m6 (zl2 c1 (n2 * 1)))=(some c3)) False)∧(ifB (cmC c1) ((ldC m6 (.ptr m.nxt 5))=(some c1)) False) ∧ 
 ∃n8:Nat,(x7=((n8:Nat):Int))∧(n8 < (slLen c3))∧∃c9:C,((ldC m6 (zl2 c3 (n8 * 1)))=(some c9)) ∧ 
 isPt (.ptr m.nxt 0)∧∃c10:C,((ldC m6 (.ptr m.nxt 4))=(some c10)) ∧ 
 Wc prog tbl 171 [(.c c10),(.c (Il a400))] m6 (fun v11 m12 => 
 ∃x13,(v11=(.c (Il x13)))∧isPt (.ptr m.nxt 0) ∧ 
 ∃c14:C,((ldC m12 (.ptr m.nxt 4))=(some c14))∧∃n15:Nat,
 (x13=((n15:Nat):Int))∧(n15 < (slLen c14))∧∃x16,((ldC m12 (zl2 c14 (n15 * 1)))=(some (Il x16))) ∧ 
 ifB (decide (x16=a400)) (∃n17:Nat,(x13=((n17:Nat):Int))∧(n17 < (slLen c9)) ∧ 
 ∃x18,((ldC m12 (zl2 c9 (n17 * 1)))=(some (Il x18))) ∧ 
 Q (.c (Il x18)) m12) (isPt (.ptr m.nxt 0)∧∃c19:C,
 ((ldC m12 (.ptr m.nxt 4))=(some c19))∧zl0 .i64 (x13+1) ∧ 
 ∃n20:Nat,((x13+1)=((n20:Nat):Int))∧(n20 < (slLen c19)) ∧ 
 ∃x21,((ldC m12 (zl2 c19 (n20 * 1)))=(some (Il x21))) ∧ 
 ∃n22:Nat,(x13=((n22:Nat):Int))∧(n22 < (slLen c9))∧∃x23,
 ((ldC m12 (zl2 c9 (n22 * 1)))=(some (Il x23)))∧zl0 .i64 (x21 - a400) ∧ 
 ((0:Int)≤x23)∧((0:Int)≤(x21 - a400))∧zl0 .i64 (x23 * (x21 - a400)) ∧ 
 zl0 .i64 (x13+1)∧∃n24:Nat,((x13+1)=((n24:Nat):Int)) ∧ 
 (n24 < (slLen c9))∧∃x25,((ldC m12 (zl2 c9 (n24 * 1)))=(some (Il x25))) ∧ 
 zl0 .i64 (a400 - x16)∧((0:Int)≤x25)∧((0:Int)≤(a400 - x16)) ∧ 
 zl0 .i64 (x25 * (a400 - x16))∧zl0 .i64 ((x23 * (x21 - a400))+(x25 * (a400 - x16))) ∧ 
 zl0 .i64 (x21 - x16)∧((0:Int)≤((x23 * (x21 - a400))+(x25 * (a400 - x16)))) ∧ 
 ((0:Int) < (x21 - x16))∧zl0 .i64 (((x23 * (x21 - a400))+(x25 * (a400 - x16))) / (x21 - x16)) ∧ 
 Q (.c (Il (((x23 * (x21 - a400))+(x25 * (a400 - x16))) / (x21 - x16)))) m12))))):Wc prog tbl 156 [(.agg 6 [(Il a100),(.bool a101),(Il a102),a103,a104,a105]),(.c (Il a200)),(.c (Il a300)),(.c (Il a400))] m Q:=
 zpB (n:=4) rfl (by kernel_rfl) (by kernel_rfl) h
theorem zww{a100:Int}{a101:Bool}{a102:Int}{a103:C}{a104:C}{a105:C}{a200:Int}{a201:Int}{a202:Int}{m:M}{Q:V→M→Prop}(h :
 (∀m0:M,(m0=(M.new m (AO.cells 6 [(Il a100),(.bool a101),(Il a102),a103,
 a104,a105] false)))→∀m1:M,(m1=(M.new m0 (AO.cells 3 [(Il a200),(Il a201),
 (Il a202)] false)))→isPt (.ptr m.nxt 0)∧∃c2:C,((ldC m1 (.ptr m.nxt 5))=(some c2)) ∧ 
 isPt (.ptr m0.nxt 0)∧∃x3,((ldC m1 (.ptr m0.nxt 2))=(some (Il x3))) ∧ 
 ∃n4:Nat,(x3=((n4:Nat):Int))∧(n4 < (slLen c2))∧∃c5:C,((ldC m1 (zl2 c2 (n4 * 1)))=(some c5)) ∧ 
 isPt (.ptr m.nxt 0)∧∃c6:C,((ldC m1 (.ptr m.nxt 3))=(some c6))∧isPt (.ptr m0.nxt 0) ∧ 
 isPt (.ptr m0.nxt 0)∧∃x7,((ldC m1 (.ptr m0.nxt 0))=(some (Il x7))) ∧ 
 Wc prog tbl 159 [(.c c6),(.c (Il x7))] m1 (fun v8 m9=>∃x10,
 (v8=(.c (Il x10)))∧(ifB (cmC c5) ((ldC m9 (zl2 c2 (n4 * 1)))=(some c5)) False) ∧ 
 ((ldC m9 (.ptr m0.nxt 2))=(some (Il x3)))∧(ifB (cmC c2) ((ldC m9 (.ptr m.nxt 5))=(some c2)) False) ∧ 
 ∃n11:Nat,(x10=((n11:Nat):Int))∧(n11 < (slLen c5))∧∃c12:C,
 ((ldC m9 (zl2 c5 (n11 * 1)))=(some c12))∧isPt (.ptr m.nxt 0) ∧ 
 ∃c13:C,((ldC m9 (.ptr m.nxt 4))=(some c13))∧isPt (.ptr m0.nxt 0) ∧ 
 isPt (.ptr m0.nxt 0)∧∃x14,((ldC m9 (.ptr m0.nxt 1))=(some (Il x14))) ∧ 
 Wc prog tbl 172 [(.c c13),(.c (Il x14))] m9 (fun v15 m16 => 
 ∃x17,∃b18:Bool,(v15=(.tup [(.c (Il x17)),(.c (.bool b18))])) ∧ 
 ifB b18 (∃n19:Nat,(x17=((n19:Nat):Int))∧(n19 < (slLen c12)) ∧ 
 ∃x20,((ldC m16 (zl2 c12 (n19 * 1)))=(some (Il x20))) ∧ 
 Q (.c (Il x20)) m16) (isPt (.ptr m.nxt 0)∧∃c21:C,
 ((ldC m16 (.ptr m.nxt 4))=(some c21))∧zl0 .i64 (x17 - 1) ∧ 
 ∃n22:Nat,((x17 - 1)=((n22:Nat):Int))∧(n22 < (slLen c21)) ∧ 
 ∃x23,((ldC m16 (zl2 c21 (n22 * 1)))=(some (Il x23))) ∧ 
 isPt (.ptr m.nxt 0)∧∃c24:C,((ldC m16 (.ptr m.nxt 4))=(some c24)) ∧ 
 ∃n25:Nat,(x17=((n25:Nat):Int))∧(n25 < (slLen c24))∧∃x26,
 ((ldC m16 (zl2 c24 (n25 * 1)))=(some (Il x26)))∧zl0 .i64 (x17 - 1) ∧ 
 ∃n27:Nat,((x17 - 1)=((n27:Nat):Int))∧(n27 < (slLen c12)) ∧ 
 ∃x28,((ldC m16 (zl2 c12 (n27 * 1)))=(some (Il x28))) ∧ 
 isPt (.ptr m0.nxt 0)∧isPt (.ptr m0.nxt 0)∧∃x29,((ldC m16 (.ptr m0.nxt 1))=(some (Il x29))) ∧ 
 zl0 .i64 (x26 - x29)∧((0:Int)≤x28)∧((0:Int)≤(x26 - x29)) ∧ 
 zl0 .i64 (x28 * (x26 - x29))∧∃n30:Nat,(x17=((n30:Nat):Int)) ∧ 
 (n30 < (slLen c12))∧∃x31,((ldC m16 (zl2 c12 (n30 * 1)))=(some (Il x31))) ∧ 
 isPt (.ptr m0.nxt 0)∧isPt (.ptr m0.nxt 0)∧∃x32,((ldC m16 (.ptr m0.nxt 1))=(some (Il x32))) ∧ 
 zl0 .i64 (x32 - x23)∧((0:Int)≤x31)∧((0:Int)≤(x32 - x23)) ∧ 
 zl0 .i64 (x31 * (x32 - x23))∧zl0 .i64 ((x28 * (x26 - x29))+(x31 * (x32 - x23))) ∧ 
 zl0 .i64 (x26 - x23)∧((0:Int)≤((x28 * (x26 - x29))+(x31 * (x32 - x23)))) ∧ 
 ((0:Int) < (x26 - x23))∧zl0 .i64 (((x28 * (x26 - x29))+(x31 * (x32 - x23))) / (x26 - x23)) ∧ 
 Q (.c (Il (((x28 * (x26 - x29))+(x31 * (x32 - x23))) / (x26 - x23)))) m16))))):Wc prog tbl 160 [(.agg 6 [(Il a100),(.bool a101),(Il a102),a103,a104,a105]),(.agg 3 [(Il a200),(Il a201),(Il a202)])] m Q:=
 zpB (n:=2) rfl (by kernel_rfl) (by kernel_rfl) h
theorem zwx{a100:C}{a200:C}{m:M}{Q:V→M→Prop}(h :
 (Wc prog tbl 176 [(.c a100),(.c a200)] m (fun v0 m1=>∃x2,(v0=(.c (Il x2)))∧Q (.c (.bool (decide ((0:Int)≤x2)))) m1))):Wc prog tbl 165 [(.c a100),(.c a200)] m Q:=
 zpB (n:=2) rfl (by kernel_rfl) (by kernel_rfl) h
theorem zwy{a100:C}{a200:C}{m:M}{Q:V→M→Prop}(h :
 (isSl a100∧∀R0:List V→M→Prop,(∀x1:Int,∀x2:Int,∀m3:M,(ifB (decide (x2 < (((slLen a100):Nat):Int))) (∃n4:Nat,
 (x2=((n4:Nat):Int))∧(n4 < (slLen a100))∧∃x5 x6,((ldA m3 (zl2 a100 (n4 * 2)) 2)=(some [(Il x5),
 (Il x6)]))∧zmq prog tbl [(.agg 2 [(Il x5),(Il x6)])] a200 m3 (fun v7 m8 => 
 ∃b9:Bool,(v7=(.c (.bool b9)))∧ifB b9 (Q (.c (Il x2)) m8) (zl0 .i64 (x2+1) ∧ 
 R0 [(.c (Il x1)),(.c (Il (x2+1)))] m8))) (Q (.c (Il (-1:Int))) m3)) → 
 R0 [(.c (Il x1)),(.c (Il x2))] m3)→R0 [(.c (Il 0)),
 (.c (Il 0))] m)):Wc prog tbl 170 [(.c a100),(.c a200)] m Q:=
 zpB (n:=2) rfl (by kernel_rfl) (by kernel_rfl) h
theorem zwz{a100:Int}{a101:Bool}{a102:Int}{a103:C}{a104:C}{a105:C}{a200:Int}{m:M}{Q:V→M→Prop}(h :
 (∀m0:M,(m0=(M.new m (AO.cells 6 [(Il a100),(.bool a101),(Il a102),a103,
 a104,a105] false)))→isPt (.ptr m.nxt 0)∧∃x1,((ldC m0 (.ptr m.nxt 2))=(some (Il x1))) ∧ 
 zl0 .i64 (a200 - x1)∧Q (.c (Il (a200 - x1))) m0)):Wc prog tbl 174 [(.agg 6 [(Il a100),(.bool a101),(Il a102),a103,a104,a105]),(.c (Il a200))] m Q:=
 zpB (n:=2) rfl (by kernel_rfl) (by kernel_rfl) h
theorem zwA{a100:Int}{a101:Int}{a102:Int}{a103:Int}{a104:Int}{a105:Int}{m:M}{Q:V→M→Prop}(h :
 (∀m0:M,(m0=(M.new m (AO.cells 6 [(Il a100),(Il a101),(Il a102),
 (Il a103),(Il a104),(Il a105)] false)))→Q (.c (C.fn (Fn.func 183) [] [(W.c (C0.ptr m.nxt 0))])) m0)):Wc prog tbl 179 [(.agg 6 [(Il a100),(Il a101),(Il a102),(Il a103),(Il a104),(Il a105)])] m Q:=
 zpB (n:=1) rfl (by kernel_rfl) (by kernel_rfl) h
theorem zwB{a100:Int}{m:M}{Q:V→M→Prop}(h :
 (Q (.c (.bool (!decide (a100=a100)))) m)):Wc prog tbl 184 [(.c (Il a100))] m Q:=
 zpB (n:=1) rfl (by kernel_rfl) (by kernel_rfl) h
theorem w65{a100:List C}{m:M}{Q:V→M→Prop}(h :
 (∀m0:M,(m0=(M.new m (AO.cells 101 a100 false)))→∀R1:List V→M→Prop,(∀c2:C,∀x3:Int,∀m4:M,
 (ifB (decide (x3 < 101)) (isPt (.ptr m.nxt 0)∧∃n5:Nat,(x3=((n5:Nat):Int)) ∧ 
 (n5 < 101)∧∃b6:Bool,((ldC m4 (.ptr m.nxt (0+(n5 * 1))))=(some (.bool b6))) ∧ 
 ifB b6 (∀m7:M,(m7=(M.new m4 (AO.cells 1 [(Il x3)] false)))→∃c8:C,
 ∃m9:M,(ApR prog 29 m7 c2 (.sl m4.nxt 0 1 0 (some 1)) c8 m9)∧zl0 .i64 (x3+1) ∧ 
 R1 [(.c c8),(.c (Il (x3+1)))] m9) (zl0 .i64 (x3+1) ∧ 
 R1 [(.c c2),(.c (Il (x3+1)))] m4)) (Q (.c c2) m4)) → 
 R1 [(.c c2),(.c (Il x3))] m4)→R1 [(.c C.sl0),(.c (Il 0))] m0)):Wc prog tbl 65 [(.agg 101 a100)] m Q:=
 zpB (n:=1) rfl (by kernel_rfl) (by kernel_rfl) h
theorem zwC{a100:C}{a101:Int}{a102:Int}{a103:C}{a104:C}{a200:Int}{a201:Int}{a202:Int}{a203:Int}{a204:Int}{a205:Int}{a206:Int}{a207:Int}{a208:Int}{a300:Int}{a301:Int}{a302:Int}{m:M}{Q:V→M→Prop}(h :
 (∀m0:M,(m0=(M.new m (AO.cells 5 [a100,(Il a101),(Il a102),a103,a104] false))) → 
 ∀m1:M,(m1=(M.new m0 (AO.cells 9 [(Il a200),(Il a201),(Il a202),
 (Il a203),(Il a204),(Il a205),(Il a206),
 (Il a207),(Il a208)] false)))→∀m2:M,(m2=(M.new m1 (AO.cells 3 [(Il a300),
 (Il a301),(Il a302)] false)))→∃c3:C,∃x4 x5,
 ∃c6:C,∃c7:C,((ldA m2 (.ptr m.nxt 0) 5)=(some [c3,(Il x4),(Il x5),
 c6,c7]))∧∃x8 x9 x10 x11 x12 x13,
 ∃x14 x15 x16,((ldA m2 (.ptr m0.nxt 0) 9)=(some [(Il x8),
 (Il x9),(Il x10),(Il x11),(Il x12),
 (Il x13),(Il x14),(Il x15),(Il x16)])) ∧ 
 ∃x17 x18 x19 x20 x21 x22 x23,
 ∃x24 x25,((ldA m2 (.ptr m0.nxt 0) 9)=(some [(Il x17),
 (Il x18),(Il x19),(Il x20),(Il x21),
 (Il x22),(Il x23),(Il x24),(Il x25)])) ∧ 
 ∃x26 x27 x28,((ldA m2 (.ptr m1.nxt 0) 3)=(some [(Il x26),
 (Il x27),(Il x28)]))∧Wc prog tbl 85 [(.agg 9 [(Il x17),
 (Il x18),(Il x19),(Il x20),(Il x21),
 (Il x22),(Il x23),(Il x24),(Il x25)]),
 (.agg 3 [(Il x26),(Il x27),(Il x28)])] m2 (fun v29 m30 => 
 ∃x31,(v29=(.c (Il x31)))∧((ldA m30 (.ptr m0.nxt 0) 9)=(some [(Il x8),
 (Il x9),(Il x10),(Il x11),(Il x12),
 (Il x13),(Il x14),(Il x15),(Il x16)])) ∧ 
 (ifB (zaL cmC [c3,(Il x4),(Il x5),c6,c7]) ((ldA m30 (.ptr m.nxt 0) 5)=(some [c3,
 (Il x4),(Il x5),c6,c7])) False)∧Wc prog tbl 111 [(.agg 5 [c3,
 (Il x4),(Il x5),c6,c7]),(.agg 9 [(Il x8),
 (Il x9),(Il x10),(Il x11),(Il x12),
 (Il x13),(Il x14),(Il x15),(Il x16)]),
 (.c (Il x31))] m30 (fun v32 m33=>∃x34,(v32=(.c (Il x34))) ∧ 
 isPt (.ptr m1.nxt 0)∧∃x35,((ldC m33 (.ptr m1.nxt 0))=(some (Il x35))) ∧ 
 isPt (.ptr m1.nxt 0)∧∃x36,((ldC m33 (.ptr m1.nxt 0))=(some (Il x36))) ∧ 
 isPt (.ptr m1.nxt 0)∧∃x37,((ldC m33 (.ptr m1.nxt 1))=(some (Il x37))) ∧ 
 isPt (.ptr m1.nxt 0)∧∃x38,((ldC m33 (.ptr m1.nxt 1))=(some (Il x38))) ∧ 
 isPt (.ptr m0.nxt 0)∧∃m39:M,((stC m33 (.ptr m0.nxt 3) 2 [(Il x35),
 (Il x36)])=(some m39))∧((ldC m39 (.ptr m1.nxt 1))=(some (Il x38))) ∧ 
 ((ldC m39 (.ptr m1.nxt 1))=(some (Il x37)))∧isPt (.ptr m0.nxt 0) ∧ 
 ∃m40:M,((stC m39 (.ptr m0.nxt 5) 2 [(Il x37),(Il x38)])=(some m40)) ∧ 
 ∃x41 x42 x43 x44 x45 x46,
 ∃x47 x48 x49,((ldA m40 (.ptr m0.nxt 0) 9)=(some [(Il x41),
 (Il x42),(Il x43),(Il x44),(Il x45),
 (Il x46),(Il x47),(Il x48),(Il x49)])) ∧ 
 Wc prog tbl 64 [(.agg 9 [(Il x41),(Il x42),
 (Il x43),(Il x44),(Il x45),(Il x46),
 (Il x47),(Il x48),(Il x49)])] m40 (fun v50 m51 => 
 ∃l52:List C,(v50=(.agg 101 l52))∧∀m53:M,(m53=(M.new m51 (AO.cells 101 [(.bool false),
 (.bool false),(.bool false),(.bool false),(.bool false),(.bool false),
 (.bool false),(.bool false),(.bool false),(.bool false),(.bool false),
 (.bool false),(.bool false),(.bool false),(.bool false),(.bool false),
 (.bool false),(.bool false),(.bool false),(.bool false),(.bool false),
 (.bool false),(.bool false),(.bool false),(.bool false),(.bool false),
 (.bool false),(.bool false),(.bool false),(.bool false),(.bool false),
 (.bool false),(.bool false),(.bool false),(.bool false),(.bool false),
 (.bool false),(.bool false),(.bool false),(.bool false),(.bool false),
 (.bool false),(.bool false),(.bool false),(.bool false),(.bool false),
 (.bool false),(.bool false),(.bool false),(.bool false),(.bool false),
 (.bool false),(.bool false),(.bool false),(.bool false),(.bool false),
 (.bool false),(.bool false),(.bool false),(.bool false),(.bool false),
 (.bool false),(.bool false),(.bool false),(.bool false),(.bool false),
 (.bool false),(.bool false),(.bool false),(.bool false),(.bool false),
 (.bool false),(.bool false),(.bool false),(.bool false),(.bool false),
 (.bool false),(.bool false),(.bool false),(.bool false),(.bool false),
 (.bool false),(.bool false),(.bool false),(.bool false),(.bool false),
 (.bool false),(.bool false),(.bool false),(.bool false),(.bool false),
 (.bool false),(.bool false),(.bool false),(.bool false),(.bool false),
 (.bool false),(.bool false),(.bool false),(.bool false),(.bool false)] false))) → 
 ∃m54:M,((stC m53 (.ptr m51.nxt 0) 101 l52)=(some m54))∧∃c55:C,
 ∃x56 x57,∃c58:C,∃c59:C,((ldA m54 (.ptr m.nxt 0) 5)=(some [c55,
 (Il x56),(Il x57),c58,c59]))∧∃x60,
 ∃x61 x62 x63 x64 x65 x66,
 ∃x67 x68,((ldA m54 (.ptr m0.nxt 0) 9)=(some [(Il x60),
 (Il x61),(Il x62),(Il x63),(Il x64),
 (Il x65),(Il x66),(Il x67),(Il x68)])) ∧ 
 ∃l69:List C,((ldA m54 (.ptr m51.nxt 0) 101)=(some l69))∧Wc prog tbl 133 [(.agg 5 [c55,
 (Il x56),(Il x57),c58,c59]),(.agg 9 [(Il x60),
 (Il x61),(Il x62),(Il x63),(Il x64),
 (Il x65),(Il x66),(Il x67),(Il x68)]),
 (.agg 101 l69),(.c (Il x34))] m54 (fun v70 m71=>∃l72:List C,
 (v70=(.agg 101 l72))∧∃l73:List C,((ldA m71 (.ptr m51.nxt 0) 101)=(some l73)) ∧ 
 (ifB (zaL cmC l73) ((ldA m54 (.ptr m51.nxt 0) 101)=(some l73)) False) ∧ 
 ∃b74:Bool,((eqV prog 125 (.agg 101 l72) (.agg 101 l73))=(some b74)) ∧ 
 Q (.c (.bool (!b74))) m71)))))):Wc prog tbl 104 [(.agg 5 [a100,(Il a101),(Il a102),a103,a104]),(.agg 9 [(Il a200),(Il a201),(Il a202),(Il a203),(Il a204),(Il a205),(Il a206),(Il a207),(Il a208)]),(.agg 3 [(Il a300),(Il a301),(Il a302)])] m Q:=
 zpB (n:=3) rfl (by kernel_rfl) (by kernel_rfl) h
theorem zwD{a100:C}{a101:Int}{a102:Int}{a103:C}{a104:C}{a200:Int}{a201:Int}{a202:Int}{a203:Int}{a204:Int}{a205:Int}{a206:Int}{a207:Int}{a208:Int}{a300:List C}{a400:Int}{m:M}{Q:V→M→Prop}(h :
 (∀m0:M,(m0=(M.new m (AO.cells 5 [a100,(Il a101),(Il a102),a103,a104] false))) → 
 ∀m1:M,(m1=(M.new m0 (AO.cells 9 [(Il a200),(Il a201),(Il a202),
 (Il a203),(Il a204),(Il a205),(Il a206),
 (Il a207),(Il a208)] false)))→∀m2:M,(m2=(M.new m1 (AO.cells 101 a300 false))) → 
 ∀m3:M,(m3=(M.new m2 (AO.cells 101 [(.bool false),(.bool false),(.bool false),(.bool false),
 (.bool false),(.bool false),(.bool false),(.bool false),(.bool false),(.bool false),
 (.bool false),(.bool false),(.bool false),(.bool false),(.bool false),(.bool false),
 (.bool false),(.bool false),(.bool false),(.bool false),(.bool false),(.bool false),
 (.bool false),(.bool false),(.bool false),(.bool false),(.bool false),(.bool false),
 (.bool false),(.bool false),(.bool false),(.bool false),(.bool false),(.bool false),
 (.bool false),(.bool false),(.bool false),(.bool false),(.bool false),(.bool false),
 (.bool false),(.bool false),(.bool false),(.bool false),(.bool false),(.bool false),
 (.bool false),(.bool false),(.bool false),(.bool false),(.bool false),(.bool false),
 (.bool false),(.bool false),(.bool false),(.bool false),(.bool false),(.bool false),
 (.bool false),(.bool false),(.bool false),(.bool false),(.bool false),(.bool false),
 (.bool false),(.bool false),(.bool false),(.bool false),(.bool false),(.bool false),
 (.bool false),(.bool false),(.bool false),(.bool false),(.bool false),(.bool false),
 (.bool false),(.bool false),(.bool false),(.bool false),(.bool false),(.bool false),
 (.bool false),(.bool false),(.bool false),(.bool false),(.bool false),(.bool false),
 (.bool false),(.bool false),(.bool false),(.bool false),(.bool false),(.bool false),
 (.bool false),(.bool false),(.bool false),(.bool false),(.bool false),(.bool false),
 (.bool false)] false)))→∃l4:List C,((ldA m3 (.ptr m1.nxt 0) 101)=(some l4)) ∧ 
 Wc prog tbl 65 [(.agg 101 l4)] m3 (fun v5 m6=>∃c7:C,(v5=(.c c7))∧isSl c7∧∀R8:List V → 
 M→Prop,(∀x9:Int,∀m10:M,(ifB (decide (x9 < (((slLen c7):Nat):Int))) (∃n11:Nat,
 (x9=((n11:Nat):Int))∧(n11 < (slLen c7))∧∃x12,((ldC m10 (zl2 c7 (n11 * 1)))=(some (Il x12))) ∧ 
 ∃c13:C,∃x14 x15,∃c16:C,∃c17:C,((ldA m10 (.ptr m.nxt 0) 5)=(some [c13,
 (Il x14),(Il x15),c16,c17]))∧∃x18,
 ∃x19 x20 x21 x22 x23 x24,
 ∃x25 x26,((ldA m10 (.ptr m0.nxt 0) 9)=(some [(Il x18),
 (Il x19),(Il x20),(Il x21),(Il x22),
 (Il x23),(Il x24),(Il x25),(Il x26)])) ∧ 
 Wc prog tbl 111 [(.agg 5 [c13,(Il x14),(Il x15),
 c16,c17]),(.agg 9 [(Il x18),(Il x19),(Il x20),
 (Il x21),(Il x22),(Il x23),(Il x24),
 (Il x25),(Il x26)]),(.c (Il x12))] m10 (fun v27 m28 => 
 ∃x29,(v27=(.c (Il x29)))∧isPt (.ptr m1.nxt 0) ∧ 
 ∃n30:Nat,(x12=((n30:Nat):Int))∧(n30 < 101)∧∃m31:M,((stC m28 (.ptr m1.nxt (0+(n30 * 1))) 1 [(.bool (decide (x29=a400)))])=(some m31)) ∧ 
 zl0 .i64 (x9+1)∧R8 [(.c (Il (x9+1)))] m31)) (∃l32:List C,
 ((ldA m10 (.ptr m1.nxt 0) 101)=(some l32))∧∃m33:M,((stC m10 (.ptr m2.nxt 0) 101 l32)=(some m33)) ∧ 
 ∃l34:List C,((ldA m33 (.ptr m2.nxt 0) 101)=(some l34))∧Q (.agg 101 l34) m33)) → 
 R8 [(.c (Il x9))] m10)→R8 [(.c (Il 0))] m6))):Wc prog tbl 133 [(.agg 5 [a100,(Il a101),(Il a102),a103,a104]),(.agg 9 [(Il a200),(Il a201),(Il a202),(Il a203),(Il a204),(Il a205),(Il a206),(Il a207),(Il a208)]),(.agg 101 a300),(.c (Il a400))] m Q:=
 zpB (n:=4) rfl (by kernel_rfl) (by kernel_rfl) h
end
end Go.Proofs.YteojndcmgpiklaaGreat

