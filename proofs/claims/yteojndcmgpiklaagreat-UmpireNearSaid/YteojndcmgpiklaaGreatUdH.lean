/- An evaluator of the code of a program, its soundness, what calls ask, memory, and what functions of the program do. Condition: none; a lemma text of this claim. -/
import Derived.Test.YteojndcmgpiklaaGreatUdG

namespace Go.Proofs.YteojndcmgpiklaaGreat
open _root_.Go.Proofs.Tryz
open Go.Abs
set_option maxRecDepth 100000
noncomputable section
theorem w19{a100:C}{a101:Int}{a102:Int}{a103:C}{m:M}{Q:V→M→Prop}(h :
 (∀m0:M,(m0=(M.new m (AO.cells 4 [a100,(Il a101),(Il a102),a103] false))) → 
 ∀m1:M,(m1=(M.new m0 (AO.cells 4 [C.sl0,(Il 0),(Il 0),
 C.sl0] false)))→∀m2:M,(m2=(zn2 m1 1))→isPt (.ptr m.nxt 0)∧∃c3:C,((ldC m2 (.ptr m.nxt 0))=(some c3)) ∧ 
 Wc prog tbl 51 [(.c c3)] m2 (fun v4 m5=>∃c6:C,(v4=(.c c6))∧isPt (.ptr m.nxt 0) ∧ 
 ∃x7,((ldC m5 (.ptr m.nxt 1))=(some (Il x7)))∧((ldC m2 (.ptr m.nxt 1))=(some (Il x7))) ∧ 
 isPt (.ptr m.nxt 0)∧∃x8,((ldC m5 (.ptr m.nxt 2))=(some (Il x8))) ∧ 
 ((ldC m2 (.ptr m.nxt 2))=(some (Il x8)))∧∀m9:M,(m9=(M.set m5 (m1.nxt+0) (AO.cells 4 [C.sl0,
 (Il 0),(Il 0),C.sl0] false))) → 
 ((ldC m9 (.ptr m.nxt 2))=(some (Il x8)))∧((ldC m9 (.ptr m.nxt 1))=(some (Il x7))) ∧ 
 (ifB (cmC c3) ((ldC m9 (.ptr m.nxt 0))=(some c3)) False)∧∃m10:M,
 ((stC m9 (.ptr (m1.nxt+0) 0) 4 [c6,(Il x7),(Il x8),
 C.sl0])=(some m10))∧∀R11:List V→M→Prop,(∀x12:Int,∀m13:M,
 (isPt (.ptr m.nxt 0)∧∃c14:C,((ldC m13 (.ptr m.nxt 3))=(some c14)) ∧ 
 isSl c14∧ifB (decide (x12 < (((slLen c14):Nat):Int))) (isPt (.ptr m.nxt 0) ∧ 
 ∃c15:C,((ldC m13 (.ptr m.nxt 3))=(some c15))∧∃n16:Nat,
 (x12=((n16:Nat):Int))∧(n16 < (slLen c15))∧∃x17 x18,
 ∃x19 x20 x21 x22 x23 x24,
 ∃x25,((ldA m13 (zl2 c15 (n16 * 9)) 9)=(some [(Il x17),
 (Il x18),(Il x19),(Il x20),(Il x21),
 (Il x22),(Il x23),(Il x24),(Il x25)])) ∧ 
 ∀m26:M,(m26=(M.new m13 (AO.cells 9 [(Il 0),(Il 0),
 (Il 0),(Il 0),(Il 0),
 (Il 0),(Il 0),(Il 0),
 (Il 0)] false)))→∃m27:M,((stC m26 (.ptr m13.nxt 0) 9 [(Il x17),
 (Il x18),(Il x19),(Il x20),(Il x21),
 (Il x22),(Il x23),(Il x24),(Il x25)])=(some m27)) ∧ 
 isPt (.ptr (m1.nxt+0) 0)∧∃c28:C,((ldC m27 (.ptr (m1.nxt+0) 3))=(some c28)) ∧ 
 isPt (.ptr m13.nxt 0)∧∃x29,((ldC m27 (.ptr m13.nxt 0))=(some (Il x29))) ∧ 
 isPt (.ptr m13.nxt 0)∧∃x30,((ldC m27 (.ptr m13.nxt 1))=(some (Il x30))) ∧ 
 isPt (.ptr m13.nxt 0)∧∃x31,((ldC m27 (.ptr m13.nxt 2))=(some (Il x31))) ∧ 
 isPt (.ptr m13.nxt 0)∧∃x32 x33,((ldA m27 (.ptr m13.nxt 3) 2)=(some [(Il x32),
 (Il x33)]))∧Wc prog tbl 38 [(.agg 2 [(Il x32),
 (Il x33)])] m27 (fun v34 m35=>∃x36 x37,(v34=(.agg 2 [(Il x36),
 (Il x37)]))∧((ldC m35 (.ptr m13.nxt 2))=(some (Il x31))) ∧ 
 ((ldC m35 (.ptr m13.nxt 1))=(some (Il x30)))∧((ldC m35 (.ptr m13.nxt 0))=(some (Il x29))) ∧ 
 (ifB (cmC c28) ((ldC m35 (.ptr (m1.nxt+0) 3))=(some c28)) False) ∧ 
 isPt (.ptr m13.nxt 0)∧∃x38 x39,((ldA m35 (.ptr m13.nxt 5) 2)=(some [(Il x38),
 (Il x39)]))∧((ldA m27 (.ptr m13.nxt 5) 2)=(some [(Il x38),
 (Il x39)]))∧Wc prog tbl 38 [(.agg 2 [(Il x38),
 (Il x39)])] m35 (fun v40 m41=>∃x42 x43,(v40=(.agg 2 [(Il x42),
 (Il x43)]))∧((ldC m41 (.ptr m13.nxt 2))=(some (Il x31))) ∧ 
 ((ldC m41 (.ptr m13.nxt 1))=(some (Il x30)))∧((ldC m41 (.ptr m13.nxt 0))=(some (Il x29))) ∧ 
 (ifB (cmC c28) ((ldC m41 (.ptr (m1.nxt+0) 3))=(some c28)) False) ∧ 
 isPt (.ptr m13.nxt 0)∧∃x44 x45,((ldA m41 (.ptr m13.nxt 7) 2)=(some [(Il x44),
 (Il x45)]))∧((ldA m35 (.ptr m13.nxt 7) 2)=(some [(Il x44),
 (Il x45)]))∧((ldA m27 (.ptr m13.nxt 7) 2)=(some [(Il x44),
 (Il x45)]))∧Wc prog tbl 38 [(.agg 2 [(Il x44),
 (Il x45)])] m41 (fun v46 m47=>∃x48 x49,(v46=(.agg 2 [(Il x48),
 (Il x49)]))∧((ldC m47 (.ptr m13.nxt 2))=(some (Il x31))) ∧ 
 ((ldC m47 (.ptr m13.nxt 1))=(some (Il x30)))∧((ldC m47 (.ptr m13.nxt 0))=(some (Il x29))) ∧ 
 (ifB (cmC c28) ((ldC m47 (.ptr (m1.nxt+0) 3))=(some c28)) False) ∧ 
 ∀m50:M,(m50=(M.new m47 (AO.cells 9 [(Il x29),(Il x30),
 (Il x31),(Il x36),(Il x37),(Il x42),
 (Il x43),(Il x48),(Il x49)] false))) → 
 (ifB (cmC c28) ((ldC m50 (.ptr (m1.nxt+0) 3))=(some c28)) False) ∧ 
 ∃c51:C,∃m52:M,(ApR prog 36 m50 c28 (.sl m47.nxt 0 1 0 (some 1)) c51 m52) ∧ 
 isPt (.ptr (m1.nxt+0) 0)∧∃m53:M,((stC m52 (.ptr (m1.nxt+0) 3) 1 [c51])=(some m53)) ∧ 
 zl0 .i64 (x12+1)∧R11 [(.c (Il (x12+1)))] m53)))) (∃c54:C,
 ∃x55 x56,∃c57:C,((ldA m13 (.ptr (m1.nxt+0) 0) 4)=(some [c54,
 (Il x55),(Il x56),c57]))∧∃m58:M,((stC m13 (.ptr m0.nxt 0) 4 [c54,
 (Il x55),(Il x56),c57])=(some m58)) ∧ 
 ∃c59:C,∃x60 x61,∃c62:C,((ldA m58 (.ptr m0.nxt 0) 4)=(some [c59,
 (Il x60),(Il x61),c62]))∧Q (.agg 4 [c59,
 (Il x60),(Il x61),c62]) m58)) → 
 R11 [(.c (Il x12))] m13)→R11 [(.c (Il 0))] m10))):Wc prog tbl 19 [(.agg 4 [a100,(Il a101),(Il a102),a103])] m Q:=
 zpB (n:=1) rfl (by kernel_rfl) (by kernel_rfl) h
theorem w23{a100:C}{a101:Int}{a102:Int}{a103:C}{m:M}{Q:V→M→Prop}(h :
 (∀m0:M,(m0=(M.new m (AO.cells 4 [a100,(Il a101),(Il a102),a103] false))) → 
 isPt (.ptr m.nxt 0)∧∃c1:C,((ldC m0 (.ptr m.nxt 0))=(some c1))∧Wc prog tbl 58 [(.c c1)] m0 (fun v2 m3 => 
 ∃x4,(v2=(.c (Il x4)))∧ifB (!decide (x4=0)) (Q (.c (Il x4)) m3) (isPt (.ptr m.nxt 0) ∧ 
 ∃c5:C,((ldC m3 (.ptr m.nxt 3))=(some c5))∧isSl c5∧ifB (decide ((3:Int) < (((slLen c5):Nat):Int))) (Q (.c (Il (3:Int))) m3) (∃c6:C,
 ∃x7 x8,∃c9:C,((ldA m3 (.ptr m.nxt 0) 4)=(some [c6,(Il x7),
 (Il x8),c9]))∧Wc prog tbl 59 [(.agg 4 [c6,(Il x7),
 (Il x8),c9])] m3 (fun v10 m11=>∃b12:Bool,(v10=(.c (.bool b12))) ∧ 
 ifB (!b12) (Q (.c (Il (1:Int))) m11) (Q (.c (Il 0)) m11))))))):Wc prog tbl 23 [(.agg 4 [a100,(Il a101),(Il a102),a103])] m Q:=
 zpB (n:=1) rfl (by kernel_rfl) (by kernel_rfl) h
theorem w27{a100:C}{a101:Int}{a102:Int}{a103:C}{a200:Int}{m:M}{Q:V→M→Prop}(h :
 (∀m0:M,(m0=(M.new m (AO.cells 4 [a100,(Il a101),(Il a102),a103] false))) → 
 ∃c1:C,∃x2 x3,∃c4:C,((ldA m0 (.ptr m.nxt 0) 4)=(some [c1,(Il x2),
 (Il x3),c4]))∧Wc prog tbl 63 [(.agg 4 [c1,(Il x2),(Il x3),
 c4]),(.c (Il a200))] m0 (fun v5 m6=>∃x7 x8 x9 x10,
 ∃x11 x12 x13 x14 x15 x16,(v5=(.tup [(.agg 9 [(Il x7),
 (Il x8),(Il x9),(Il x10),(Il x11),
 (Il x12),(Il x13),(Il x14),(Il x15)]),
 (.c (Il x16))]))∧∀m17:M,(m17=(M.new m6 (AO.cells 9 [(Il 0),
 (Il 0),(Il 0),(Il 0),
 (Il 0),(Il 0),(Il 0),
 (Il 0),(Il 0)] false)))→∃m18:M,
 ((stC m17 (.ptr m6.nxt 0) 9 [(Il x7),(Il x8),(Il x9),
 (Il x10),(Il x11),(Il x12),(Il x13),
 (Il x14),(Il x15)])=(some m18))∧ifB (!decide (x16=0)) (Q (.tup [(.c C.sl0),
 (.c (Il x16))]) m18) (∃x19 x20 x21,
 ∃x22 x23 x24 x25 x26 x27,
 ((ldA m18 (.ptr m6.nxt 0) 9)=(some [(Il x19),(Il x20),
 (Il x21),(Il x22),(Il x23),(Il x24),
 (Il x25),(Il x26),(Il x27)])) ∧ 
 Wc prog tbl 64 [(.agg 9 [(Il x19),(Il x20),
 (Il x21),(Il x22),(Il x23),(Il x24),
 (Il x25),(Il x26),(Il x27)])] m18 (fun v28 m29 => 
 ∃l30:List C,(v28=(.agg 101 l30))∧Wc prog tbl 65 [(.agg 101 l30)] m29 (fun v31 m32 => 
 ∃c33:C,(v31=(.c c33))∧Q (.tup [(.c c33),(.c (Il 0))]) m32)))))):Wc prog tbl 27 [(.agg 4 [a100,(Il a101),(Il a102),a103]),(.c (Il a200))] m Q:=
 zpB (n:=2) rfl (by kernel_rfl) (by kernel_rfl) h
theorem w35{a100:C}{a101:Int}{a102:Int}{a103:C}{m:M}{Q:V→M→Prop}(h :
 (∀m0:M,(m0=(M.new m (AO.cells 4 [a100,(Il a101),(Il a102),a103] false))) → 
 ∀m1:M,(m1=(M.new m0 (AO.cells 2 [(Il 0),(Il 0)] false))) → 
 ∃c2:C,∃x3 x4,∃c5:C,((ldA m1 (.ptr m.nxt 0) 4)=(some [c2,(Il x3),
 (Il x4),c5]))∧Wc prog tbl 54 [(.agg 4 [c2,(Il x3),(Il x4),
 c5])] m1 (fun v6 m7=>∃c8:C,∃x9 x10,∃c11:C,∃c12:C,∃x13,
 (v6=(.tup [(.agg 5 [c8,(Il x9),(Il x10),c11,c12]),
 (.c (Il x13))]))∧∀m14:M,(m14=(M.new m7 (AO.cells 5 [C.sl0,(Il 0),
 (Il 0),C.sl0,C.map0] false)))→∃m15:M,((stC m14 (.ptr m7.nxt 0) 5 [c8,
 (Il x9),(Il x10),c11,c12])=(some m15)) ∧ 
 ifB (!decide (x13=0)) (∃m16:M,((stC m15 (.ptr m0.nxt 0) 2 [(Il 0),
 (Il 0)])=(some m16))∧∃x17 x18,
 ((ldA m16 (.ptr m0.nxt 0) 2)=(some [(Il x17),(Il x18)])) ∧ 
 Q (.tup [(.agg 2 [(Il x17),(Il x18)]),(.c (Il x13))]) m16) (∃c19:C,
 ∃x20 x21,∃c22:C,∃c23:C,((ldA m15 (.ptr m7.nxt 0) 5)=(some [c19,
 (Il x20),(Il x21),c22,c23]))∧Wc prog tbl 68 [(.agg 5 [c19,
 (Il x20),(Il x21),c22,c23]),(.agg 1 [(C.fn (Fn.func 72) [] [])])] m15 (fun v24 m25 => 
 ∃x26 x27,(v24=(.agg 2 [(Il x26),(Il x27)])) ∧ 
 ∃c28:C,∃x29 x30,∃c31:C,∃c32:C,((ldA m25 (.ptr m7.nxt 0) 5)=(some [c28,
 (Il x29),(Il x30),c31,c32]))∧(ifB (zaL cmC [c28,
 (Il x29),(Il x30),c31,c32]) ((ldA m15 (.ptr m7.nxt 0) 5)=(some [c28,
 (Il x29),(Il x30),c31,c32])) False)∧Wc prog tbl 68 [(.agg 5 [c28,
 (Il x29),(Il x30),c31,c32]),(.agg 1 [(C.fn (Fn.func 73) [] [])])] m25 (fun v33 m34 => 
 ∃x35 x36,(v33=(.agg 2 [(Il x35),(Il x36)])) ∧ 
 ∃m37:M,((stC m34 (.ptr m0.nxt 0) 2 [(Il x26),(Il x36)])=(some m37)) ∧ 
 ∃x38 x39,((ldA m37 (.ptr m0.nxt 0) 2)=(some [(Il x38),
 (Il x39)]))∧Q (.tup [(.agg 2 [(Il x38),(Il x39)]),
 (.c (Il 0))]) m37)))))):Wc prog tbl 35 [(.agg 4 [a100,(Il a101),(Il a102),a103])] m Q:=
 zpB (n:=1) rfl (by kernel_rfl) (by kernel_rfl) h
theorem w43{a100:C}{a101:Int}{a102:Int}{a103:C}{m:M}{Q:V→M→Prop}(h :
 (∀m0:M,(m0=(M.new m (AO.cells 4 [a100,(Il a101),(Il a102),a103] false))) → 
 ∃c1:C,∃x2 x3,∃c4:C,((ldA m0 (.ptr m.nxt 0) 4)=(some [c1,(Il x2),
 (Il x3),c4]))∧Wc prog tbl 16 [(.agg 4 [c1,(Il x2),(Il x3),
 c4])] m0 (fun v5 m6=>∃b7:Bool,(v5=(.c (.bool b7)))∧ifB b7 (∃c8:C,∃x9,
 ∃x10,∃c11:C,((ldA m6 (.ptr m.nxt 0) 4)=(some [c8,(Il x9),
 (Il x10),c11]))∧Wc prog tbl 22 [(.agg 4 [c8,(Il x9),
 (Il x10),c11])] m6 (fun v12 m13=>∃x14,(v12=(.c (Il x14))) ∧ 
 Q (.c (.bool (decide (x14=0)))) m13)) (Q (.c (.bool false)) m6)))):Wc prog tbl 43 [(.agg 4 [a100,(Il a101),(Il a102),a103])] m Q:=
 zpB (n:=1) rfl (by kernel_rfl) (by kernel_rfl) h
theorem w51{a100:C}{m:M}{Q:V→M→Prop}(h :
 (∀R0:List V→M→Prop,(∀c1:C,∀x2:Int,∀m3:M,(isSl a100∧ifB (decide (x2 < (((slLen a100):Nat):Int))) (∀m4:M,
 (m4=(zn2 m3 1))→∃n5:Nat,(x2=((n5:Nat):Int))∧(n5 < (slLen a100))∧isPt (zl2 a100 (n5 * 6)) ∧ 
 ∃x6,((ldC m4 (zl1 (zl2 a100 (n5 * 6)) 0))=(some (Il x6))) ∧ 
 ∃n7:Nat,(x2=((n7:Nat):Int))∧(n7 < (slLen a100))∧isPt (zl2 a100 (n7 * 6)) ∧ 
 ∃b8:Bool,((ldC m4 (zl1 (zl2 a100 (n7 * 6)) 1))=(some (.bool b8))) ∧ 
 ∃n9:Nat,(x2=((n9:Nat):Int))∧(n9 < (slLen a100))∧isPt (zl2 a100 (n9 * 6)) ∧ 
 ∃x10,((ldC m4 (zl1 (zl2 a100 (n9 * 6)) 2))=(some (Il x10))) ∧ 
 ∃n11:Nat,(x2=((n11:Nat):Int))∧(n11 < (slLen a100))∧isPt (zl2 a100 (n11 * 6)) ∧ 
 ∃c12:C,((ldC m4 (zl1 (zl2 a100 (n11 * 6)) 3))=(some c12)) ∧ 
 Wc prog tbl 83 [(.c c12)] m4 (fun v13 m14=>∃c15:C,(v13=(.c c15)) ∧ 
 ((ldC m14 (zl1 (zl2 a100 (n9 * 6)) 2))=(some (Il x10))) ∧ 
 ((ldC m14 (zl1 (zl2 a100 (n7 * 6)) 1))=(some (.bool b8)))∧((ldC m14 (zl1 (zl2 a100 (n5 * 6)) 0))=(some (Il x6))) ∧ 
 ∃n16:Nat,(x2=((n16:Nat):Int))∧(n16 < (slLen a100))∧isPt (zl2 a100 (n16 * 6)) ∧ 
 ∃c17:C,((ldC m14 (zl1 (zl2 a100 (n16 * 6)) 4))=(some c17)) ∧ 
 (ifB (cmC c17) ((ldC m4 (zl1 (zl2 a100 (n16 * 6)) 4))=(some c17)) False) ∧ 
 Wc prog tbl 83 [(.c c17)] m14 (fun v18 m19=>∃c20:C,(v18=(.c c20)) ∧ 
 ((ldC m19 (zl1 (zl2 a100 (n9 * 6)) 2))=(some (Il x10))) ∧ 
 ((ldC m19 (zl1 (zl2 a100 (n7 * 6)) 1))=(some (.bool b8)))∧((ldC m19 (zl1 (zl2 a100 (n5 * 6)) 0))=(some (Il x6))) ∧ 
 ∀m21:M,(m21=(M.set m19 (m3.nxt+0) (AO.cells 6 [(Il 0),
 (.bool false),(Il 0),C.sl0,C.sl0,C.sl0] false))) → 
 (ifB (cmC c17) ((ldC m21 (zl1 (zl2 a100 (n16 * 6)) 4))=(some c17)) False) ∧ 
 (ifB (cmC c12) ((ldC m21 (zl1 (zl2 a100 (n11 * 6)) 3))=(some c12)) False) ∧ 
 ((ldC m21 (zl1 (zl2 a100 (n9 * 6)) 2))=(some (Il x10))) ∧ 
 ((ldC m21 (zl1 (zl2 a100 (n7 * 6)) 1))=(some (.bool b8)))∧((ldC m21 (zl1 (zl2 a100 (n5 * 6)) 0))=(some (Il x6))) ∧ 
 ∃m22:M,((stC m21 (.ptr (m3.nxt+0) 0) 6 [(Il x6),(.bool b8),
 (Il x10),c15,c20,C.sl0])=(some m22))∧∀R23:List V → 
 M→Prop,(∀x24:Int,∀m25:M,(∃n26:Nat,(x2=((n26:Nat):Int)) ∧ 
 (n26 < (slLen a100))∧isPt (zl2 a100 (n26 * 6))∧∃c27:C,((ldC m25 (zl1 (zl2 a100 (n26 * 6)) 5))=(some c27)) ∧ 
 isSl c27∧ifB (decide (x24 < (((slLen c27):Nat):Int))) (∀R28:List V → 
 M→Prop,(∀c29:C,∀x30:Int,∀m31:M,(∃n32:Nat,(x2=((n32:Nat):Int)) ∧ 
 (n32 < (slLen a100))∧isPt (zl2 a100 (n32 * 6))∧∃c33:C,((ldC m31 (zl1 (zl2 a100 (n32 * 6)) 5))=(some c33)) ∧ 
 ∃n34:Nat,(x24=((n34:Nat):Int))∧(n34 < (slLen c33))∧∃c35:C,
 ((ldC m31 (zl2 c33 (n34 * 1)))=(some c35))∧isSl c35∧ifB (decide (x30 < (((slLen c35):Nat):Int))) (∃n36:Nat,
 (x2=((n36:Nat):Int))∧(n36 < (slLen a100))∧isPt (zl2 a100 (n36 * 6)) ∧ 
 ∃c37:C,((ldC m31 (zl1 (zl2 a100 (n36 * 6)) 5))=(some c37)) ∧ 
 ∃n38:Nat,(x24=((n38:Nat):Int))∧(n38 < (slLen c37))∧∃c39:C,
 ((ldC m31 (zl2 c37 (n38 * 1)))=(some c39))∧∃n40:Nat,(x30=((n40:Nat):Int)) ∧ 
 (n40 < (slLen c39))∧∃c41:C,((ldC m31 (zl2 c39 (n40 * 1)))=(some c41)) ∧ 
 Wc prog tbl 83 [(.c c41)] m31 (fun v42 m43=>∃c44:C,(v42=(.c c44)) ∧ 
 ∀m45:M,(m45=(M.new m43 (AO.cells 1 [c44] false)))→∃c46:C,∃m47:M,
 (ApR prog 140 m45 c29 (.sl m43.nxt 0 1 0 (some 1)) c46 m47)∧zl0 .i64 (x30+1) ∧ 
 R28 [(.c c46),(.c (Il (x30+1)))] m47)) (isPt (.ptr (m3.nxt+0) 0) ∧ 
 ∃c48:C,((ldC m31 (.ptr (m3.nxt+0) 5))=(some c48))∧∀m49:M,
 (m49=(M.new m31 (AO.cells 1 [c29] false)))→∃c50:C,∃m51:M,(ApR prog 78 m49 c48 (.sl m31.nxt 0 1 0 (some 1)) c50 m51) ∧ 
 isPt (.ptr (m3.nxt+0) 0)∧∃m52:M,((stC m51 (.ptr (m3.nxt+0) 5) 1 [c50])=(some m52)) ∧ 
 zl0 .i64 (x24+1)∧R23 [(.c (Il (x24+1)))] m52)) → 
 R28 [(.c c29),(.c (Il x30))] m31)→R28 [(.c C.sl0),
 (.c (Il 0))] m25) (∃x53,∃b54:Bool,∃x55,
 ∃c56:C,∃c57:C,∃c58:C,((ldA m25 (.ptr (m3.nxt+0) 0) 6)=(some [(Il x53),
 (.bool b54),(Il x55),c56,c57,c58]))∧∀m59:M,(m59=(M.new m25 (AO.cells 6 [(Il x53),
 (.bool b54),(Il x55),c56,c57,c58] false)))→∃c60:C,
 ∃m61:M,(ApR prog 35 m59 c1 (.sl m25.nxt 0 1 0 (some 1)) c60 m61) ∧ 
 zl0 .i64 (x2+1)∧R0 [(.c c60),(.c (Il (x2+1)))] m61)) → 
 R23 [(.c (Il x24))] m25)→R23 [(.c (Il 0))] m22))) (Q (.c c1) m3)) → 
 R0 [(.c c1),(.c (Il x2))] m3)→R0 [(.c C.sl0),(.c (Il 0))] m)):Wc prog tbl 51 [(.c a100)] m Q:=
 zpB (n:=1) rfl (by kernel_rfl) (by kernel_rfl) h
theorem w55{a100:C}{a101:Int}{a102:Int}{a103:C}{a200:C}{m:M}{Q:V→M→Prop}(h :
 (∀m0:M,(m0=(M.new m (AO.cells 4 [a100,(Il a101),(Il a102),a103] false))) → 
 isSl a200∧isPt (.ptr m.nxt 0)∧∃c1:C,((ldC m0 (.ptr m.nxt 3))=(some c1))∧isSl c1 ∧ 
 ifB (!decide ((((slLen a200):Nat):Int)=(((slLen c1):Nat):Int))) (Q (.c (.bool false)) m0) (isPt (.ptr m.nxt 0) ∧ 
 ∃c2:C,((ldC m0 (.ptr m.nxt 3))=(some c2))∧isSl c2∧∀R3:List V→M→Prop,
 (∀b4:Bool,∀x5:Int,∀m6:M,(ifB (decide (x5 < (((slLen c2):Nat):Int))) (∃n7:Nat,
 (x5=((n7:Nat):Int))∧(n7 < (slLen c2))∧∃x8 x9 x10,
 ∃x11 x12 x13 x14 x15 x16,
 ((ldA m6 (zl2 c2 (n7 * 9)) 9)=(some [(Il x8),(Il x9),
 (Il x10),(Il x11),(Il x12),(Il x13),
 (Il x14),(Il x15),(Il x16)])) ∧ 
 ∀m17:M,(m17=(M.new m6 (AO.cells 9 [(Il 0),(Il 0),
 (Il 0),(Il 0),(Il 0),
 (Il 0),(Il 0),(Il 0),
 (Il 0)] false)))→∃m18:M,((stC m17 (.ptr m6.nxt 0) 9 [(Il x8),
 (Il x9),(Il x10),(Il x11),(Il x12),
 (Il x13),(Il x14),(Il x15),(Il x16)])=(some m18)) ∧ 
 ∃x19 x20 x21 x22 x23 x24,
 ∃x25 x26 x27,((ldA m18 (.ptr m6.nxt 0) 9)=(some [(Il x19),
 (Il x20),(Il x21),(Il x22),(Il x23),
 (Il x24),(Il x25),(Il x26),(Il x27)])) ∧ 
 ∃n28:Nat,(x5=((n28:Nat):Int))∧(n28 < (slLen a200))∧∃x29,
 ∃x30 x31,((ldA m18 (zl2 a200 (n28 * 3)) 3)=(some [(Il x29),
 (Il x30),(Il x31)]))∧Wc prog tbl 84 [(.agg 9 [(Il x19),
 (Il x20),(Il x21),(Il x22),(Il x23),
 (Il x24),(Il x25),(Il x26),(Il x27)]),
 (.agg 3 [(Il x29),(Il x30),(Il x31)])] m18 (fun v32 m33 => 
 ∃b34:Bool,(v32=(.c (.bool b34)))∧ifB (!b34) (Q (.c (.bool false)) m33) (zl0 .i64 (x5+1) ∧ 
 R3 [(.c (.bool b4)),(.c (Il (x5+1)))] m33))) (Q (.c (.bool true)) m6)) → 
 R3 [(.c (.bool b4)),(.c (Il x5))] m6)→R3 [(.c (.bool false)),
 (.c (Il 0))] m0))):Wc prog tbl 55 [(.agg 4 [a100,(Il a101),(Il a102),a103]),(.c a200)] m Q:=
 zpB (n:=2) rfl (by kernel_rfl) (by kernel_rfl) h
theorem w59{a100:C}{a101:Int}{a102:Int}{a103:C}{m:M}{Q:V→M→Prop}(h :
 (∀m0:M,(m0=(M.new m (AO.cells 4 [a100,(Il a101),(Il a102),a103] false))) → 
 isPt (.ptr m.nxt 0)∧∃x1,((ldC m0 (.ptr m.nxt 1))=(some (Il x1))) ∧ 
 Wc prog tbl 93 [(.agg 2 [(Il 0),(Il (120:Int))]),(.c (Il x1))] m0 (fun v2 m3 => 
 ∃b4:Bool,(v2=(.c (.bool b4)))∧ifB b4 (isPt (.ptr m.nxt 0)∧∃x5,((ldC m3 (.ptr m.nxt 2))=(some (Il x5))) ∧ 
 Wc prog tbl 93 [(.agg 2 [(Il 0),(Il (10000:Int))]),
 (.c (Il x5))] m3 (fun v6 m7=>∃b8:Bool,(v6=(.c (.bool b8)))∧ifB b8 (isPt (.ptr m.nxt 0) ∧ 
 ∃c9:C,((ldC m7 (.ptr m.nxt 3))=(some c9))∧∃c10:C,∃x11,
 ∃x12,∃c13:C,((ldA m7 (.ptr m.nxt 0) 4)=(some [c10,(Il x11),
 (Il x12),c13]))∧zaa (zaE vW [(.agg 4 [c10,(Il x11),
 (Il x12),c13])]) False fun l14=>Wc prog tbl 94 [(.c c9),
 (.c (C.fn (Fn.func 95) l14 []))] m7 (fun v15 m16=>∃b17:Bool,(v15=(.c (.bool b17))) ∧ 
 Q (.c (.bool b17)) m16)) (Q (.c (.bool false)) m7))) (Q (.c (.bool false)) m3)))):Wc prog tbl 59 [(.agg 4 [a100,(Il a101),(Il a102),a103])] m Q:=
 zpB (n:=1) rfl (by kernel_rfl) (by kernel_rfl) h
theorem w63{a100:C}{a101:Int}{a102:Int}{a103:C}{a200:Int}{m:M}{Q:V→M→Prop}(h :
 (∀m0:M,(m0=(M.new m (AO.cells 4 [a100,(Il a101),(Il a102),a103] false))) → 
 ∀m1:M,(m1=(M.new m0 (AO.cells 9 [(Il 0),(Il 0),(Il 0),
 (Il 0),(Il 0),(Il 0),(Il 0),
 (Il 0),(Il 0)] false)))→∃c2:C,∃x3 x4,
 ∃c5:C,((ldA m1 (.ptr m.nxt 0) 4)=(some [c2,(Il x3),(Il x4),
 c5]))∧Wc prog tbl 23 [(.agg 4 [c2,(Il x3),(Il x4),c5])] m1 (fun v6 m7 => 
 ∃x8,(v6=(.c (Il x8)))∧ifB (!decide (x8=0)) (∃m9:M,((stC m7 (.ptr m0.nxt 0) 9 [(Il 0),
 (Il 0),(Il 0),(Il 0),
 (Il 0),(Il 0),(Il 0),
 (Il 0),(Il 0)])=(some m9))∧∃x10,
 ∃x11 x12 x13 x14 x15 x16 x17,
 ∃x18,((ldA m9 (.ptr m0.nxt 0) 9)=(some [(Il x10),
 (Il x11),(Il x12),(Il x13),(Il x14),
 (Il x15),(Il x16),(Il x17),(Il x18)])) ∧ 
 Q (.tup [(.agg 9 [(Il x10),(Il x11),(Il x12),
 (Il x13),(Il x14),(Il x15),(Il x16),
 (Il x17),(Il x18)]),(.c (Il x8))]) m9) (∃c19:C,
 ∃x20 x21,∃c22:C,((ldA m7 (.ptr m.nxt 0) 4)=(some [c19,
 (Il x20),(Il x21),c22]))∧Wc prog tbl 97 [(.agg 4 [c19,
 (Il x20),(Il x21),c22]),(.c (Il a200))] m7 (fun v23 m24 => 
 ∃b25:Bool,(v23=(.c (.bool b25)))∧ifB (!b25) (∃m26:M,((stC m24 (.ptr m0.nxt 0) 9 [(Il 0),
 (Il 0),(Il 0),(Il 0),
 (Il 0),(Il 0),(Il 0),
 (Il 0),(Il 0)])=(some m26)) ∧ 
 ∃x27 x28 x29 x30 x31 x32,
 ∃x33 x34 x35,((ldA m26 (.ptr m0.nxt 0) 9)=(some [(Il x27),
 (Il x28),(Il x29),(Il x30),(Il x31),
 (Il x32),(Il x33),(Il x34),(Il x35)])) ∧ 
 Q (.tup [(.agg 9 [(Il x27),(Il x28),(Il x29),
 (Il x30),(Il x31),(Il x32),(Il x33),
 (Il x34),(Il x35)]),(.c (Il (2:Int)))]) m26) (isPt (.ptr m.nxt 0) ∧ 
 ∃c36:C,((ldC m24 (.ptr m.nxt 3))=(some c36))∧∃n37:Nat,(a200=((n37:Nat):Int)) ∧ 
 (n37 < (slLen c36))∧∃x38 x39 x40 x41,
 ∃x42 x43 x44 x45 x46,((ldA m24 (zl2 c36 (n37 * 9)) 9)=(some [(Il x38),
 (Il x39),(Il x40),(Il x41),(Il x42),
 (Il x43),(Il x44),(Il x45),(Il x46)])) ∧ 
 ∃m47:M,((stC m24 (.ptr m0.nxt 0) 9 [(Il x38),(Il x39),
 (Il x40),(Il x41),(Il x42),(Il x43),
 (Il x44),(Il x45),(Il x46)])=(some m47)) ∧ 
 ∃x48 x49 x50 x51 x52 x53,
 ∃x54 x55 x56,((ldA m47 (.ptr m0.nxt 0) 9)=(some [(Il x48),
 (Il x49),(Il x50),(Il x51),(Il x52),
 (Il x53),(Il x54),(Il x55),(Il x56)])) ∧ 
 Q (.tup [(.agg 9 [(Il x48),(Il x49),(Il x50),
 (Il x51),(Il x52),(Il x53),(Il x54),
 (Il x55),(Il x56)]),(.c (Il 0))]) m47)))))):Wc prog tbl 63 [(.agg 4 [a100,(Il a101),(Il a102),a103]),(.c (Il a200))] m Q:=
 zpB (n:=2) rfl (by kernel_rfl) (by kernel_rfl) h
theorem w67{a100:C}{a200:C}{m:M}{Q:V→M→Prop}(h :
 (∀R0:List V→M→Prop,(∀b1:Bool,∀x2:Int,∀m3:M,(isSl a100∧ifB (decide (x2 < (((slLen a100):Nat):Int))) (isSl a200 ∧ 
 ifB (decide (x2 < (((slLen a200):Nat):Int))) (∃n4:Nat,(x2=((n4:Nat):Int))∧(n4 < (slLen a100)) ∧ 
 ∃x5,((ldC m3 (zl2 a100 (n4 * 1)))=(some (Il x5)))∧∃n6:Nat,
 (x2=((n6:Nat):Int))∧(n6 < (slLen a200))∧∃x7,((ldC m3 (zl2 a200 (n6 * 1)))=(some (Il x7))) ∧ 
 ifB (!decide (x5=x7)) (∃n8:Nat,(x2=((n8:Nat):Int))∧(n8 < (slLen a100)) ∧ 
 ∃x9,((ldC m3 (zl2 a100 (n8 * 1)))=(some (Il x9))) ∧ 
 ∃n10:Nat,(x2=((n10:Nat):Int))∧(n10 < (slLen a200))∧∃x11,
 ((ldC m3 (zl2 a200 (n10 * 1)))=(some (Il x11)))∧Q (.c (.bool (decide (x9 < x11)))) m3) (zl0 .i64 (x2+1) ∧ 
 R0 [(.c (.bool b1)),(.c (Il (x2+1)))] m3)) (isSl a100 ∧ 
 isSl a200∧Q (.c (.bool (decide ((((slLen a100):Nat):Int) < (((slLen a200):Nat):Int))))) m3)) (isSl a100 ∧ 
 isSl a200∧Q (.c (.bool (decide ((((slLen a100):Nat):Int) < (((slLen a200):Nat):Int))))) m3)) → 
 R0 [(.c (.bool b1)),(.c (Il x2))] m3)→R0 [(.c (.bool false)),(.c (Il 0))] m)):Wc prog tbl 67 [(.c a100),(.c a200)] m Q:=
 zpB (n:=2) rfl (by kernel_rfl) (by kernel_rfl) h
theorem w72{a100:Int}{a101:Int}{a102:Int}{a103:Int}{a104:Int}{a105:Int}{m:M}{Q:V→M→Prop}(h :
 (∀m0:M,(m0=(M.new m (AO.cells 6 [(Il a100),(Il a101),(Il a102),
 (Il a103),(Il a104),(Il a105)] false)))→∃x1,
 ∃x2 x3 x4 x5 x6,((ldA m0 (.ptr m.nxt 0) 6)=(some [(Il x1),
 (Il x2),(Il x3),(Il x4),(Il x5),
 (Il x6)]))∧Wc prog tbl 69 [(.agg 6 [(Il x1),(Il x2),
 (Il x3),(Il x4),(Il x5),(Il x6)])] m0 (fun v7 m8 => 
 ∃x9,(v7=(.c (Il x9)))∧∃x10 x11 x12 x13,
 ∃x14 x15,((ldA m8 (.ptr m.nxt 0) 6)=(some [(Il x10),
 (Il x11),(Il x12),(Il x13),(Il x14),
 (Il x15)]))∧((ldA m0 (.ptr m.nxt 0) 6)=(some [(Il x10),
 (Il x11),(Il x12),(Il x13),(Il x14),
 (Il x15)]))∧Wc prog tbl 70 [(.agg 6 [(Il x10),(Il x11),
 (Il x12),(Il x13),(Il x14),(Il x15)])] m8 (fun v16 m17 => 
 ∃x18,(v16=(.c (Il x18)))∧zl0 .i64 (x9 - x18) ∧ 
 Q (.c (Il (x9 - x18))) m17)))):Wc prog tbl 72 [(.agg 6 [(Il a100),(Il a101),(Il a102),(Il a103),(Il a104),(Il a105)])] m Q:=
 zpB (n:=1) rfl (by kernel_rfl) (by kernel_rfl) h
theorem w80{a100:C}{a200:C}{m:M}{Q:V→M→Prop}(h :
 (∀m0:M,(m0=(M.new m (AO.cells 2 [C.sl0,C.map0] false)))→Wc prog tbl 106 [(.c a100)] m0 (fun v1 m2 => 
 ∃c3:C,∃c4:C,∃x5,(v1=(.tup [(.agg 2 [c3,c4]),(.c (Il x5))])) ∧ 
 ∀m6:M,(m6=(M.new m2 (AO.cells 2 [C.sl0,C.map0] false)))→∃m7:M,((stC m6 (.ptr m2.nxt 0) 2 [c3,
 c4])=(some m7))∧ifB (!decide (x5=0)) (∃m8:M,((stC m7 (.ptr m.nxt 0) 2 [C.sl0,
 C.map0])=(some m8))∧∃c9:C,∃c10:C,((ldA m8 (.ptr m.nxt 0) 2)=(some [c9,
 c10]))∧Q (.tup [(.agg 2 [c9,c10]),(.c (Il x5))]) m8) (isSl a200 ∧ 
 ifB (decide ((5:Int) < (((slLen a200):Nat):Int))) (∃m11:M,((stC m7 (.ptr m.nxt 0) 2 [C.sl0,
 C.map0])=(some m11))∧∃c12:C,∃c13:C,((ldA m11 (.ptr m.nxt 0) 2)=(some [c12,
 c13]))∧Q (.tup [(.agg 2 [c12,c13]),(.c (Il (3:Int)))]) m11) (isPt (.ptr m2.nxt 0) ∧ 
 ∃c14:C,((ldC m7 (.ptr m2.nxt 0))=(some c14))∧zaa (zaE vW [(.c c14)]) False fun l15 => 
 Wc prog tbl 107 [(.c a200),(.c (C.fn (Fn.func 108) l15 []))] m7 (fun v16 m17=>∃b18:Bool,
 (v16=(.c (.bool b18)))∧ifB (!b18) (∃m19:M,((stC m17 (.ptr m.nxt 0) 2 [C.sl0,
 C.map0])=(some m19))∧∃c20:C,∃c21:C,((ldA m19 (.ptr m.nxt 0) 2)=(some [c20,
 c21]))∧Q (.tup [(.agg 2 [c20,c21]),(.c (Il (2:Int)))]) m19) (∃c22:C,
 ∃c23:C,((ldA m17 (.ptr m2.nxt 0) 2)=(some [c22,c23]))∧∃m24:M,
 ((stC m17 (.ptr m.nxt 0) 2 [c22,c23])=(some m24))∧∃c25:C,∃c26:C,
 ((ldA m24 (.ptr m.nxt 0) 2)=(some [c25,c26]))∧Q (.tup [(.agg 2 [c25,
 c26]),(.c (Il 0))]) m24))))))):Wc prog tbl 80 [(.c a100),(.c a200)] m Q:=
 zpB (n:=2) rfl (by kernel_rfl) (by kernel_rfl) h
theorem w84{a100:Int}{a101:Int}{a102:Int}{a103:Int}{a104:Int}{a105:Int}{a106:Int}{a107:Int}{a108:Int}{a200:Int}{a201:Int}{a202:Int}{m:M}{Q:V→M→Prop}(h :
 (∀m0:M,(m0=(M.new m (AO.cells 9 [(Il a100),(Il a101),(Il a102),
 (Il a103),(Il a104),(Il a105),(Il a106),
 (Il a107),(Il a108)] false)))→∀m1:M,(m1=(M.new m0 (AO.cells 3 [(Il a200),
 (Il a201),(Il a202)] false)))→isPt (.ptr m.nxt 0)∧∃x2,
 ∃x3,((ldA m1 (.ptr m.nxt 3) 2)=(some [(Il x2),(Il x3)])) ∧ 
 isPt (.ptr m0.nxt 0)∧∃x4,((ldC m1 (.ptr m0.nxt 0))=(some (Il x4))) ∧ 
 Wc prog tbl 93 [(.agg 2 [(Il x2),(Il x3)]),(.c (Il x4))] m1 (fun v5 m6 => 
 ∃b7:Bool,(v5=(.c (.bool b7)))∧ifB b7 (isPt (.ptr m.nxt 0)∧∃x8 x9,
 ((ldA m6 (.ptr m.nxt 5) 2)=(some [(Il x8),(Il x9)])) ∧ 
 isPt (.ptr m0.nxt 0)∧∃x10,((ldC m6 (.ptr m0.nxt 1))=(some (Il x10))) ∧ 
 Wc prog tbl 93 [(.agg 2 [(Il x8),(Il x9)]),(.c (Il x10))] m6 (fun v11 m12 => 
 ∃b13:Bool,(v11=(.c (.bool b13)))∧ifB b13 (isPt (.ptr m.nxt 0)∧∃x14,
 ∃x15,((ldA m12 (.ptr m.nxt 7) 2)=(some [(Il x14),
 (Il x15)]))∧isPt (.ptr m0.nxt 0)∧∃x16,((ldC m12 (.ptr m0.nxt 2))=(some (Il x16))) ∧ 
 Wc prog tbl 93 [(.agg 2 [(Il x14),(Il x15)]),
 (.c (Il x16))] m12 (fun v17 m18=>∃b19:Bool,(v17=(.c (.bool b19))) ∧ 
 Q (.c (.bool b19)) m18)) (Q (.c (.bool false)) m12))) (Q (.c (.bool false)) m6)))):Wc prog tbl 84 [(.agg 9 [(Il a100),(Il a101),(Il a102),(Il a103),(Il a104),(Il a105),(Il a106),(Il a107),(Il a108)]),(.agg 3 [(Il a200),(Il a201),(Il a202)])] m Q:=
 zpB (n:=2) rfl (by kernel_rfl) (by kernel_rfl) h
theorem w88{a100:C}{m:M}{Q:V→M→Prop}(h :
 (isSl a100∧ifB (decide ((3:Int) < (((slLen a100):Nat):Int))) (Q (.c (Il (3:Int))) m) (∀R0:List V → 
 M→Prop,(∀x1:Int,∀x2:Int,∀m3:M,(isSl a100∧ifB (decide (x2 < (((slLen a100):Nat):Int))) (∃n4:Nat,
 (x2=((n4:Nat):Int))∧(n4 < (slLen a100))∧isPt (zl2 a100 (n4 * 6))∧∃c5:C,((ldC m3 (zl1 (zl2 a100 (n4 * 6)) 3))=(some c5)) ∧ 
 isSl c5∧ifB (decide ((4:Int) < (((slLen c5):Nat):Int))) (Q (.c (Il (3:Int))) m3) (∃n6:Nat,
 (x2=((n6:Nat):Int))∧(n6 < (slLen a100))∧isPt (zl2 a100 (n6 * 6))∧∃c7:C,
 ((ldC m3 (zl1 (zl2 a100 (n6 * 6)) 4))=(some c7))∧isSl c7∧ifB (decide ((5:Int) < (((slLen c7):Nat):Int))) (Q (.c (Il (3:Int))) m3) (∃n8:Nat,
 (x2=((n8:Nat):Int))∧(n8 < (slLen a100))∧isPt (zl2 a100 (n8 * 6)) ∧ 
 ∃c9:C,((ldC m3 (zl1 (zl2 a100 (n8 * 6)) 5))=(some c9))∧isSl c9 ∧ 
 ifB (decide ((3:Int) < (((slLen c9):Nat):Int))) (Q (.c (Il (3:Int))) m3) (zl0 .i64 (x2+1) ∧ 
 R0 [(.c (Il x1)),(.c (Il (x2+1)))] m3)))) (∀R10:List V → 
 M→Prop,(∀x11:Int,∀x12:Int,∀m13:M,(isSl a100∧ifB (decide (x12 < (((slLen a100):Nat):Int))) (∃n14:Nat,
 (x12=((n14:Nat):Int))∧(n14 < (slLen a100))∧∃x15,∃b16:Bool,∃x17,
 ∃c18:C,∃c19:C,∃c20:C,((ldA m13 (zl2 a100 (n14 * 6)) 6)=(some [(Il x15),
 (.bool b16),(Il x17),c18,c19,c20]))∧Wc prog tbl 113 [(.agg 6 [(Il x15),
 (.bool b16),(Il x17),c18,c19,c20])] m13 (fun v21 m22=>∃b23:Bool,
 (v21=(.c (.bool b23)))∧ifB (!b23) (Q (.c (Il (1:Int))) m22) (∃n24:Nat,
 (x12=((n24:Nat):Int))∧(n24 < (slLen a100))∧isPt (zl2 a100 (n24 * 6)) ∧ 
 ∃c25:C,((ldC m22 (zl1 (zl2 a100 (n24 * 6)) 5))=(some c25)) ∧ 
 isSl c25∧∃n26:Nat,((0:Int)=((n26:Nat):Int))∧(n26 < (slLen a100)) ∧ 
 isPt (zl2 a100 (n26 * 6))∧∃c27:C,((ldC m22 (zl1 (zl2 a100 (n26 * 6)) 5))=(some c27)) ∧ 
 isSl c27∧ifB (!decide ((((slLen c25):Nat):Int)=(((slLen c27):Nat):Int))) (Q (.c (Il (1:Int))) m22) (ifB (decide (x12=0)) (∃n28:Nat,
 (x12=((n28:Nat):Int))∧(n28 < (slLen a100))∧isPt (zl2 a100 (n28 * 6)) ∧ 
 ∃x29,((ldC m22 (zl1 (zl2 a100 (n28 * 6)) 0))=(some (Il x29))) ∧ 
 ifB (!decide (x29=0)) (Q (.c (Il (1:Int))) m22) (ifB (decide ((0:Int) < x12)) (∃n30:Nat,
 (x12=((n30:Nat):Int))∧(n30 < (slLen a100))∧isPt (zl2 a100 (n30 * 6)) ∧ 
 ∃x31,((ldC m22 (zl1 (zl2 a100 (n30 * 6)) 0))=(some (Il x31))) ∧ 
 zl0 .i64 (x12 - 1)∧∃n32:Nat,((x12 - 1)=((n32:Nat):Int)) ∧ 
 (n32 < (slLen a100))∧isPt (zl2 a100 (n32 * 6))∧∃x33,((ldC m22 (zl1 (zl2 a100 (n32 * 6)) 0))=(some (Il x33))) ∧ 
 ifB (decide (x31≤x33)) (Q (.c (Il (1:Int))) m22) (zl0 .i64 (x12+1) ∧ 
 R10 [(.c (Il x11)),(.c (Il (x12+1)))] m22)) (zl0 .i64 (x12+1) ∧ 
 R10 [(.c (Il x11)),(.c (Il (x12+1)))] m22))) (ifB (decide ((0:Int) < x12)) (∃n34:Nat,
 (x12=((n34:Nat):Int))∧(n34 < (slLen a100))∧isPt (zl2 a100 (n34 * 6)) ∧ 
 ∃x35,((ldC m22 (zl1 (zl2 a100 (n34 * 6)) 0))=(some (Il x35))) ∧ 
 zl0 .i64 (x12 - 1)∧∃n36:Nat,((x12 - 1)=((n36:Nat):Int)) ∧ 
 (n36 < (slLen a100))∧isPt (zl2 a100 (n36 * 6))∧∃x37,((ldC m22 (zl1 (zl2 a100 (n36 * 6)) 0))=(some (Il x37))) ∧ 
 ifB (decide (x35≤x37)) (Q (.c (Il (1:Int))) m22) (zl0 .i64 (x12+1) ∧ 
 R10 [(.c (Il x11)),(.c (Il (x12+1)))] m22)) (zl0 .i64 (x12+1) ∧ 
 R10 [(.c (Il x11)),(.c (Il (x12+1)))] m22)))))) (isSl a100 ∧ 
 ifB (decide ((((slLen a100):Nat):Int)=(0:Int))) (Q (.c (Il (1:Int))) m13) (Q (.c (Il 0)) m13))) → 
 R10 [(.c (Il x11)),(.c (Il x12))] m13)→R10 [(.c (Il x1)),
 (.c (Il 0))] m3))→R0 [(.c (Il x1)),(.c (Il x2))] m3) → 
 R0 [(.c (Il 0)),(.c (Il 0))] m))):Wc prog tbl 88 [(.c a100)] m Q:=
 zpB (n:=1) rfl (by kernel_rfl) (by kernel_rfl) h
theorem w92{a100:C}{m:M}{Q:V→M→Prop}(h :
 (Wc prog tbl 116 [(.c a100),(.c (C.fn (Fn.func 117) [] []))] m (fun v0 m1=>∃b2:Bool,(v0=(.c (.bool b2))) ∧ 
 ifB b2 (Wc prog tbl 119 [(.c a100)] m1 (fun v3 m4=>∃c5:C,(v3=(.c c5))∧Wc prog tbl 118 [(.c c5)] m4 (fun v6 m7 => 
 ∃b8:Bool,(v6=(.c (.bool b8)))∧ifB b8 (zaa (zaE vW [(.c a100)]) False fun l9=>Wc prog tbl 116 [(.c a100),
 (.c (C.fn (Fn.func 120) l9 []))] m7 (fun v10 m11=>∃b12:Bool,(v10=(.c (.bool b12))) ∧ 
 Q (.c (.bool b12)) m11)) (Q (.c (.bool false)) m7)))) (Q (.c (.bool false)) m1)))):Wc prog tbl 92 [(.c a100)] m Q:=
 zpB (n:=1) rfl (by kernel_rfl) (by kernel_rfl) h
theorem zvY{a100:C}{a101:Int}{a102:Int}{a103:C}{a104:C}{m:M}{Q:V→M→Prop}(h :
 (∀m0:M,(m0=(M.new m (AO.cells 5 [a100,(Il a101),(Il a102),a103,a104] false))) → 
 Q (.c (C.fn (Fn.func 130) [] [(W.c (C0.ptr m.nxt 0))])) m0)):Wc prog tbl 100 [(.agg 5 [a100,(Il a101),(Il a102),a103,a104])] m Q:=
 zpB (n:=1) rfl (by kernel_rfl) (by kernel_rfl) h
theorem zvZ{a100:Int}{a101:Int}{a200:Int}{m:M}{Q:V→M→Prop}(h :
 (∀m0:M,(m0=(M.new m (AO.cells 2 [(Il a100),(Il a101)] false)))→isPt (.ptr m.nxt 0) ∧ 
 ∃x1,((ldC m0 (.ptr m.nxt 0))=(some (Il x1)))∧ifB (decide (x1≤a200)) (isPt (.ptr m.nxt 0) ∧ 
 ∃x2,((ldC m0 (.ptr m.nxt 1))=(some (Il x2)))∧Q (.c (.bool (decide (a200≤x2)))) m0) (Q (.c (.bool false)) m0))):Wc prog tbl 109 [(.agg 2 [(Il a100),(Il a101)]),(.c (Il a200))] m Q:=
 zpB (n:=2) rfl (by kernel_rfl) (by kernel_rfl) h
theorem zv0{a100:Int}{a101:Bool}{a102:Int}{a103:C}{a104:C}{a105:C}{m:M}{Q:V→M→Prop}(h :
 (∀m0:M,(m0=(M.new m (AO.cells 6 [(Il a100),(.bool a101),(Il a102),a103,
 a104,a105] false)))→isPt (.ptr m.nxt 0)∧∃x1,((ldC m0 (.ptr m.nxt 0))=(some (Il x1))) ∧ 
 Wc prog tbl 48 [(.c (Il x1)),(.c (Il 0)),(.c (Il (120:Int)))] m0 (fun v2 m3 => 
 ∃b4:Bool,(v2=(.c (.bool b4)))∧ifB (!b4) (Q (.c (.bool false)) m3) (isPt (.ptr m.nxt 0) ∧ 
 ∃x5,((ldC m3 (.ptr m.nxt 2))=(some (Il x5)))∧Wc prog tbl 48 [(.c (Il x5)),
 (.c (Il 0)),(.c (Il (100:Int)))] m3 (fun v6 m7 => 
 ∃b8:Bool,(v6=(.c (.bool b8)))∧ifB (!b8) (Q (.c (.bool false)) m7) (isPt (.ptr m.nxt 0) ∧ 
 ∃c9:C,((ldC m7 (.ptr m.nxt 3))=(some c9))∧Wc prog tbl 143 [(.c c9),
 (.c (Il (120:Int)))] m7 (fun v10 m11=>∃b12:Bool,(v10=(.c (.bool b12))) ∧ 
 ifB (!b12) (Q (.c (.bool false)) m11) (isPt (.ptr m.nxt 0)∧∃c13:C,((ldC m11 (.ptr m.nxt 4))=(some c13)) ∧ 
 Wc prog tbl 143 [(.c c13),(.c (Il (100:Int)))] m11 (fun v14 m15 => 
 ∃b16:Bool,(v14=(.c (.bool b16)))∧ifB (!b16) (Q (.c (.bool false)) m15) (isPt (.ptr m.nxt 0) ∧ 
 ∃c17:C,((ldC m15 (.ptr m.nxt 4))=(some c17))∧isPt (.ptr m.nxt 0) ∧ 
 ∃c18:C,((ldC m15 (.ptr m.nxt 4))=(some c18))∧isSl c18 ∧ 
 zl0 .i64 ((((slLen c18):Nat):Int) - (1:Int))∧∃n19:Nat,
 (((((slLen c18):Nat):Int) - (1:Int))=((n19:Nat):Int))∧(n19 < (slLen c17)) ∧ 
 ∃x20,((ldC m15 (zl2 c17 (n19 * 1)))=(some (Il x20))) ∧ 
 ifB (!decide (x20=100)) (Q (.c (.bool false)) m15) (isPt (.ptr m.nxt 0) ∧ 
 ∃c21:C,((ldC m15 (.ptr m.nxt 5))=(some c21))∧isSl c21 ∧ 
 ifB (decide ((((slLen c21):Nat):Int)=(0:Int))) (Q (.c (.bool false)) m15) (∀R22:List V → 
 M→Prop,(∀b23:Bool,∀b24:Bool,∀b25:Bool,∀x26:Int,∀m27:M,
 (isPt (.ptr m.nxt 0)∧∃c28:C,((ldC m27 (.ptr m.nxt 5))=(some c28)) ∧ 
 isSl c28∧ifB (decide (x26 < (((slLen c28):Nat):Int))) (isPt (.ptr m.nxt 0) ∧ 
 ∃c29:C,((ldC m27 (.ptr m.nxt 5))=(some c29))∧∃n30:Nat,
 (x26=((n30:Nat):Int))∧(n30 < (slLen c29))∧∃c31:C,((ldC m27 (zl2 c29 (n30 * 1)))=(some c31)) ∧ 
 isSl c31∧isPt (.ptr m.nxt 0)∧∃c32:C,((ldC m27 (.ptr m.nxt 3))=(some c32)) ∧ 
 isSl c32∧ifB (!decide ((((slLen c31):Nat):Int)=(((slLen c32):Nat):Int))) (Q (.c (.bool false)) m27) (∀R33:List V → 
 M→Prop,(∀b34:Bool,∀b35:Bool,∀x36:Int,∀m37:M,(isPt (.ptr m.nxt 0) ∧ 
 ∃c38:C,((ldC m37 (.ptr m.nxt 3))=(some c38))∧isSl c38 ∧ 
 ifB (decide (x36 < (((slLen c38):Nat):Int))) (isPt (.ptr m.nxt 0)∧∃c39:C,
 ((ldC m37 (.ptr m.nxt 5))=(some c39))∧∃n40:Nat,(x26=((n40:Nat):Int)) ∧ 
 (n40 < (slLen c39))∧∃c41:C,((ldC m37 (zl2 c39 (n40 * 1)))=(some c41)) ∧ 
 ∃n42:Nat,(x36=((n42:Nat):Int))∧(n42 < (slLen c41))∧∃c43:C,
 ((ldC m37 (zl2 c41 (n42 * 1)))=(some c43))∧isSl c43∧isPt (.ptr m.nxt 0) ∧ 
 ∃c44:C,((ldC m37 (.ptr m.nxt 4))=(some c44))∧isSl c44 ∧ 
 ifB (!decide ((((slLen c43):Nat):Int)=(((slLen c44):Nat):Int))) (Q (.c (.bool false)) m37) (∀R45:List V → 
 M→Prop,(∀b46:Bool,∀x47:Int,∀m48:M,(isPt (.ptr m.nxt 0) ∧ 
 ∃c49:C,((ldC m48 (.ptr m.nxt 4))=(some c49))∧isSl c49 ∧ 
 ifB (decide (x47 < (((slLen c49):Nat):Int))) (isPt (.ptr m.nxt 0)∧∃c50:C,
 ((ldC m48 (.ptr m.nxt 5))=(some c50))∧∃n51:Nat,(x26=((n51:Nat):Int)) ∧ 
 (n51 < (slLen c50))∧∃c52:C,((ldC m48 (zl2 c50 (n51 * 1)))=(some c52)) ∧ 
 ∃n53:Nat,(x36=((n53:Nat):Int))∧(n53 < (slLen c52))∧∃c54:C,
 ((ldC m48 (zl2 c52 (n53 * 1)))=(some c54))∧∃n55:Nat,(x47=((n55:Nat):Int)) ∧ 
 (n55 < (slLen c54))∧∃x56,((ldC m48 (zl2 c54 (n55 * 1)))=(some (Il x56))) ∧ 
 Wc prog tbl 48 [(.c (Il x56)),(.c (Il 0)),
 (.c (Il (100:Int)))] m48 (fun v57 m58=>∃b59:Bool,(v57=(.c (.bool b59))) ∧ 
 ifB (!b59) (Q (.c (.bool false)) m58) (zl0 .i64 (x47+1) ∧ 
 R45 [(.c (.bool b46)),(.c (Il (x47+1)))] m58))) (zl0 .i64 (x36+1) ∧ 
 R33 [(.c (.bool b46)),(.c (.bool b46)),(.c (Il (x36+1)))] m48)) → 
 R45 [(.c (.bool b46)),(.c (Il x47))] m48)→R45 [(.c (.bool b34)),
 (.c (Il 0))] m37)) (zl0 .i64 (x26+1) ∧ 
 R22 [(.c (.bool b34)),(.c (.bool b34)),(.c (.bool b34)),(.c (Il (x26+1)))] m37)) → 
 R33 [(.c (.bool b34)),(.c (.bool b35)),(.c (Il x36))] m37) → 
 R33 [(.c (.bool b23)),(.c (.bool b23)),(.c (Il 0))] m27)) (Q (.c (.bool true)) m27)) → 
 R22 [(.c (.bool b23)),(.c (.bool b24)),(.c (.bool b25)),(.c (Il x26))] m27) → 
 R22 [(.c (.bool false)),(.c (.bool false)),(.c (.bool false)),(.c (Il 0))] m15)))))))))))):Wc prog tbl 113 [(.agg 6 [(Il a100),(.bool a101),(Il a102),a103,a104,a105])] m Q:=
 zpB (n:=1) rfl (by kernel_rfl) (by kernel_rfl) h
theorem zv1{a100:Int}{a101:Bool}{a102:Int}{a103:C}{a104:C}{a105:C}{m:M}{Q:V→M→Prop}(h :
 (∀m0:M,(m0=(M.new m (AO.cells 6 [(Il a100),(.bool a101),(Il a102),a103,
 a104,a105] false)))→isPt (.ptr m.nxt 0)∧∃x1,((ldC m0 (.ptr m.nxt 0))=(some (Il x1))) ∧ 
 Wc prog tbl 138 [(.c (Il x1))] m0 (fun v2 m3=>∃b4:Bool,(v2=(.c (.bool b4))) ∧ 
 ifB b4 (isPt (.ptr m.nxt 0)∧∃x5,((ldC m3 (.ptr m.nxt 2))=(some (Il x5))) ∧ 
 Wc prog tbl 147 [(.c (Il x5))] m3 (fun v6 m7=>∃b8:Bool,(v6=(.c (.bool b8))) ∧ 
 ifB b8 (isPt (.ptr m.nxt 0)∧∃c9:C,((ldC m7 (.ptr m.nxt 3))=(some c9)) ∧ 
 Wc prog tbl 118 [(.c c9)] m7 (fun v10 m11=>∃b12:Bool,(v10=(.c (.bool b12))) ∧ 
 ifB b12 (isPt (.ptr m.nxt 0)∧∃c13:C,((ldC m11 (.ptr m.nxt 3))=(some c13)) ∧ 
 Wc prog tbl 148 [(.c c13),(.c (C.fn (Fn.func 138) [] []))] m11 (fun v14 m15 => 
 ∃b16:Bool,(v14=(.c (.bool b16)))∧ifB b16 (isPt (.ptr m.nxt 0) ∧ 
 ∃c17:C,((ldC m15 (.ptr m.nxt 4))=(some c17))∧Wc prog tbl 118 [(.c c17)] m15 (fun v18 m19 => 
 ∃b20:Bool,(v18=(.c (.bool b20)))∧ifB b20 (isPt (.ptr m.nxt 0) ∧ 
 ∃c21:C,((ldC m19 (.ptr m.nxt 4))=(some c21))∧isPt (.ptr m.nxt 0) ∧ 
 ∃c22:C,((ldC m19 (.ptr m.nxt 4))=(some c22))∧isSl c22 ∧ 
 zl0 .i64 ((((slLen c22):Nat):Int) - (1:Int))∧∃n23:Nat,
 (((((slLen c22):Nat):Int) - (1:Int))=((n23:Nat):Int))∧(n23 < (slLen c21)) ∧ 
 ∃x24,((ldC m19 (zl2 c21 (n23 * 1)))=(some (Il x24))) ∧ 
 ifB (decide (x24=100)) (isPt (.ptr m.nxt 0)∧∃c25:C,((ldC m19 (.ptr m.nxt 5))=(some c25)) ∧ 
 isSl c25∧ifB (decide ((0:Int) < (((slLen c25):Nat):Int))) (isPt (.ptr m.nxt 0) ∧ 
 ∃c26:C,((ldC m19 (.ptr m.nxt 5))=(some c26))∧∃x27,
 ∃b28:Bool,∃x29,∃c30:C,∃c31:C,∃c32:C,((ldA m19 (.ptr m.nxt 0) 6)=(some [(Il x27),
 (.bool b28),(Il x29),c30,c31,c32]))∧zaa (zaE vW [(.agg 6 [(Il x27),
 (.bool b28),(Il x29),c30,c31,c32])]) False fun l33=>Wc prog tbl 149 [(.c c26),
 (.c (C.fn (Fn.func 150) l33 []))] m19 (fun v34 m35=>∃b36:Bool,(v34=(.c (.bool b36))) ∧ 
 Q (.c (.bool b36)) m35)) (Q (.c (.bool false)) m19)) (Q (.c (.bool false)) m19)) (Q (.c (.bool false)) m19))) (Q (.c (.bool false)) m15))) (Q (.c (.bool false)) m11))) (Q (.c (.bool false)) m7))) (Q (.c (.bool false)) m3)))):Wc prog tbl 117 [(.agg 6 [(Il a100),(.bool a101),(Il a102),a103,a104,a105])] m Q:=
 zpB (n:=1) rfl (by kernel_rfl) (by kernel_rfl) h
theorem zv2{a100:C}{a200:C}{m:M}{Q:V→M→Prop}(h :
 (Wc prog tbl 151 [(.c a100),(.c a200)] m (fun v0 m1=>∃x2,(v0=(.c (Il x2)))∧Q (.c (.bool (decide ((0:Int)≤x2)))) m1))):Wc prog tbl 121 [(.c a100),(.c a200)] m Q:=
 zpB (n:=2) rfl (by kernel_rfl) (by kernel_rfl) h
theorem zv3{a100:Int}{a101:Int}{m:M}{Q:V→M→Prop}(h :
 (∀m0:M,(m0=(M.new m (AO.cells 2 [(Il a100),(Il a101)] false)))→isPt (.ptr m.nxt 0) ∧ 
 ∃x1,((ldC m0 (.ptr m.nxt 0))=(some (Il x1)))∧Wc prog tbl 124 [(.c (Il x1))] m0 (fun v2 m3 => 
 ∃b4:Bool,(v2=(.c (.bool b4)))∧ifB b4 (isPt (.ptr m.nxt 0)∧∃x5,((ldC m3 (.ptr m.nxt 1))=(some (Il x5))) ∧ 
 Wc prog tbl 124 [(.c (Il x5))] m3 (fun v6 m7=>∃b8:Bool,(v6=(.c (.bool b8))) ∧ 
 ifB b8 (isPt (.ptr m.nxt 0)∧∃x9,((ldC m7 (.ptr m.nxt 0))=(some (Il x9))) ∧ 
 isPt (.ptr m.nxt 0)∧∃x10,((ldC m7 (.ptr m.nxt 1))=(some (Il x10))) ∧ 
 ifB (decide (x9≤x10)) (isPt (.ptr m.nxt 0)∧∃x11,((ldC m7 (.ptr m.nxt 1))=(some (Il x11))) ∧ 
 isPt (.ptr m.nxt 0)∧∃x12,((ldC m7 (.ptr m.nxt 0))=(some (Il x12))) ∧ 
 zl0 .i64 (x11 - x12)∧Q (.c (.bool (decide ((x11 - x12)≤(4:Int))))) m7) (Q (.c (.bool false)) m7)) (Q (.c (.bool false)) m7))) (Q (.c (.bool false)) m3)))):Wc prog tbl 126 [(.agg 2 [(Il a100),(Il a101)])] m Q:=
 zpB (n:=1) rfl (by kernel_rfl) (by kernel_rfl) h
theorem zv4{a100:Int}{m:M}{Q:V→M→Prop}(h :
 (Wc prog tbl 109 [(.agg 2 [(Il 0),(Il (120:Int))]),(.c (Il a100))] m (fun v0 m1 => 
 ∃b2:Bool,(v0=(.c (.bool b2)))∧Q (.c (.bool b2)) m1))):Wc prog tbl 138 [(.c (Il a100))] m Q:=
 zpB (n:=1) rfl (by kernel_rfl) (by kernel_rfl) h
theorem zv5{a100:C}{a101:Int}{a102:Int}{a103:C}{a200:Int}{a201:Int}{a202:Int}{a203:Int}{a204:Int}{a205:Int}{a206:Int}{a207:Int}{a208:Int}{a300:Int}{m:M}{Q:V→M→Prop}(h :
 (∀m0:M,(m0=(M.new m (AO.cells 4 [a100,(Il a101),(Il a102),a103] false))) → 
 ∀m1:M,(m1=(M.new m0 (AO.cells 9 [(Il a200),(Il a201),(Il a202),
 (Il a203),(Il a204),(Il a205),(Il a206),
 (Il a207),(Il a208)] false)))→∀m2:M,(m2=(M.new m1 (AO.cells 6 [(Il 0),
 (Il 0),(Il 0),(Il 0),(Il 0),
 (Il 0)] false)))→isPt (.ptr m0.nxt 0)∧∃x3,((ldC m2 (.ptr m0.nxt 0))=(some (Il x3))) ∧ 
 isPt (.ptr m0.nxt 0)∧∃x4,((ldC m2 (.ptr m0.nxt 1))=(some (Il x4))) ∧ 
 isPt (.ptr m.nxt 0)∧∃x5,((ldC m2 (.ptr m.nxt 1))=(some (Il x5))) ∧ 
 isPt (.ptr m.nxt 0)∧∃x6,((ldC m2 (.ptr m.nxt 1))=(some (Il x6))) ∧ 
 ∃m7:M,((stC m2 (.ptr m1.nxt 0) 6 [(Il x3),(Il x4),
 (Il x5),(Il x6),(Il a300),(Il a300)])=(some m7)) ∧ 
 ∃x8 x9 x10 x11 x12 x13,((ldA m7 (.ptr m1.nxt 0) 6)=(some [(Il x8),
 (Il x9),(Il x10),(Il x11),(Il x12),
 (Il x13)]))∧Q (.agg 6 [(Il x8),(Il x9),
 (Il x10),(Il x11),(Il x12),(Il x13)]) m7)):Wc prog tbl 142 [(.agg 4 [a100,(Il a101),(Il a102),a103]),(.agg 9 [(Il a200),(Il a201),(Il a202),(Il a203),(Il a204),(Il a205),(Il a206),(Il a207),(Il a208)]),(.c (Il a300))] m Q:=
 zpB (n:=3) rfl (by kernel_rfl) (by kernel_rfl) h
theorem zv6{a100:Int}{m:M}{Q:V→M→Prop}(h :
 (Wc prog tbl 109 [(.agg 2 [(Il 0),(Il (100:Int))]),(.c (Il a100))] m (fun v0 m1 => 
 ∃b2:Bool,(v0=(.c (.bool b2)))∧Q (.c (.bool b2)) m1))):Wc prog tbl 147 [(.c (Il a100))] m Q:=
 zpB (n:=1) rfl (by kernel_rfl) (by kernel_rfl) h
theorem zv7{a100:C}{a200:C}{m:M}{Q:V→M→Prop}(h :
 (isSl a100∧∀R0:List V→M→Prop,(∀x1:Int,∀x2:Int,∀m3:M,(ifB (decide (x2 < (((slLen a100):Nat):Int))) (∃n4:Nat,
 (x2=((n4:Nat):Int))∧(n4 < (slLen a100))∧∃x5 x6 x7 x8,
 ∃x9 x10 x11 x12 x13,((ldA m3 (zl2 a100 (n4 * 9)) 9)=(some [(Il x5),
 (Il x6),(Il x7),(Il x8),(Il x9),
 (Il x10),(Il x11),(Il x12),(Il x13)])) ∧ 
 zmq prog tbl [(.agg 9 [(Il x5),(Il x6),(Il x7),
 (Il x8),(Il x9),(Il x10),(Il x11),
 (Il x12),(Il x13)])] a200 m3 (fun v14 m15=>∃b16:Bool,
 (v14=(.c (.bool b16)))∧ifB b16 (Q (.c (Il x2)) m15) (zl0 .i64 (x2+1) ∧ 
 R0 [(.c (Il x1)),(.c (Il (x2+1)))] m15))) (Q (.c (Il (-1:Int))) m3)) → 
 R0 [(.c (Il x1)),(.c (Il x2))] m3)→R0 [(.c (Il 0)),
 (.c (Il 0))] m)):Wc prog tbl 151 [(.c a100),(.c a200)] m Q:=
 zpB (n:=2) rfl (by kernel_rfl) (by kernel_rfl) h
theorem zv8{a100:Int}{a101:Bool}{a102:Int}{a103:C}{a104:C}{a105:C}{a200:Int}{a201:Int}{a202:Int}{m:M}{Q:V→M→Prop}(h :
 (∀m0:M,(m0=(M.new m (AO.cells 6 [(Il a100),(.bool a101),(Il a102),a103,
 a104,a105] false)))→∀m1:M,(m1=(M.new m0 (AO.cells 3 [(Il a200),(Il a201),
 (Il a202)] false)))→isPt (.ptr m.nxt 0)∧∃c2:C,((ldC m1 (.ptr m.nxt 5))=(some c2)) ∧ 
 isPt (.ptr m0.nxt 0)∧∃x3,((ldC m1 (.ptr m0.nxt 2))=(some (Il x3))) ∧ 
 ∃n4:Nat,(x3=((n4:Nat):Int))∧(n4 < (slLen c2))∧∃c5:C,((ldC m1 (zl2 c2 (n4 * 1)))=(some c5)) ∧ 
 isPt (.ptr m.nxt 0)∧∃c6:C,((ldC m1 (.ptr m.nxt 3))=(some c6))∧isPt (.ptr m0.nxt 0) ∧ 
 isPt (.ptr m0.nxt 0)∧∃x7,((ldC m1 (.ptr m0.nxt 0))=(some (Il x7))) ∧ 
 Wc prog tbl 159 [(.c c6),(.c (Il x7))] m1 (fun v8 m9=>∃x10,
 (v8=(.c (Il x10)))∧(ifB (cmC c5) ((ldC m9 (zl2 c2 (n4 * 1)))=(some c5)) False) ∧ 
 ((ldC m9 (.ptr m0.nxt 2))=(some (Il x3)))∧(ifB (cmC c2) ((ldC m9 (.ptr m.nxt 5))=(some c2)) False) ∧ 
 ∃n11:Nat,(x10=((n11:Nat):Int))∧(n11 < (slLen c5))∧∃c12:C,
 ((ldC m9 (zl2 c5 (n11 * 1)))=(some c12))∧isPt (.ptr m.nxt 0) ∧ 
 ∃c13:C,((ldC m9 (.ptr m.nxt 4))=(some c13))∧isPt (.ptr m0.nxt 0) ∧ 
 isPt (.ptr m0.nxt 0)∧∃x14,((ldC m9 (.ptr m0.nxt 1))=(some (Il x14))) ∧ 
 Wc prog tbl 172 [(.c c13),(.c (Il x14))] m9 (fun v15 m16 => 
 ∃x17,∃b18:Bool,(v15=(.tup [(.c (Il x17)),(.c (.bool b18))])) ∧ 
 ifB b18 (∃n19:Nat,(x17=((n19:Nat):Int))∧(n19 < (slLen c12)) ∧ 
 ∃x20,((ldC m16 (zl2 c12 (n19 * 1)))=(some (Il x20))) ∧ 
 Q (.c (Il x20)) m16) (isPt (.ptr m.nxt 0)∧∃c21:C,
 ((ldC m16 (.ptr m.nxt 4))=(some c21))∧zl0 .i64 (x17 - 1) ∧ 
 ∃n22:Nat,((x17 - 1)=((n22:Nat):Int))∧(n22 < (slLen c21)) ∧ 
 ∃x23,((ldC m16 (zl2 c21 (n22 * 1)))=(some (Il x23))) ∧ 
 isPt (.ptr m.nxt 0)∧∃c24:C,((ldC m16 (.ptr m.nxt 4))=(some c24)) ∧ 
 ∃n25:Nat,(x17=((n25:Nat):Int))∧(n25 < (slLen c24))∧∃x26,
 ((ldC m16 (zl2 c24 (n25 * 1)))=(some (Il x26)))∧zl0 .i64 (x17 - 1) ∧ 
 ∃n27:Nat,((x17 - 1)=((n27:Nat):Int))∧(n27 < (slLen c12)) ∧ 
 ∃x28,((ldC m16 (zl2 c12 (n27 * 1)))=(some (Il x28))) ∧ 
 isPt (.ptr m0.nxt 0)∧isPt (.ptr m0.nxt 0)∧∃x29,((ldC m16 (.ptr m0.nxt 1))=(some (Il x29))) ∧ 
 zl0 .i64 (x26 - x29)∧((0:Int)≤x28)∧((0:Int)≤(x26 - x29)) ∧ 
 zl0 .i64 (x28 * (x26 - x29))∧∃n30:Nat,(x17=((n30:Nat):Int)) ∧ 
 (n30 < (slLen c12))∧∃x31,((ldC m16 (zl2 c12 (n30 * 1)))=(some (Il x31))) ∧ 
 isPt (.ptr m0.nxt 0)∧isPt (.ptr m0.nxt 0)∧∃x32,((ldC m16 (.ptr m0.nxt 1))=(some (Il x32))) ∧ 
 zl0 .i64 (x32 - x23)∧((0:Int)≤x31)∧((0:Int)≤(x32 - x23)) ∧ 
 zl0 .i64 (x31 * (x32 - x23))∧zl0 .i64 ((x28 * (x26 - x29))+(x31 * (x32 - x23))) ∧ 
 zl0 .i64 (x26 - x23)∧((0:Int)≤((x28 * (x26 - x29))+(x31 * (x32 - x23)))) ∧ 
 ((0:Int) < (x26 - x23))∧zl0 .i64 (((x28 * (x26 - x29))+(x31 * (x32 - x23))) / (x26 - x23)) ∧ 
 Q (.c (Il (((x28 * (x26 - x29))+(x31 * (x32 - x23))) / (x26 - x23)))) m16))))):Wc prog tbl 160 [(.agg 6 [(Il a100),(.bool a101),(Il a102),a103,a104,a105]),(.agg 3 [(Il a200),(Il a201),(Il a202)])] m Q:=
 zpB (n:=2) rfl (by kernel_rfl) (by kernel_rfl) h
theorem zv9{a100:C}{a200:C}{m:M}{Q:V→M→Prop}(h :
 (Wc prog tbl 176 [(.c a100),(.c a200)] m (fun v0 m1=>∃x2,(v0=(.c (Il x2)))∧Q (.c (.bool (decide ((0:Int)≤x2)))) m1))):Wc prog tbl 165 [(.c a100),(.c a200)] m Q:=
 zpB (n:=2) rfl (by kernel_rfl) (by kernel_rfl) h
theorem zwa{a100:C}{a200:C}{m:M}{Q:V→M→Prop}(h :
 (isSl a100∧∀R0:List V→M→Prop,(∀x1:Int,∀x2:Int,∀m3:M,(ifB (decide (x2 < (((slLen a100):Nat):Int))) (∃n4:Nat,
 (x2=((n4:Nat):Int))∧(n4 < (slLen a100))∧∃x5 x6,((ldA m3 (zl2 a100 (n4 * 2)) 2)=(some [(Il x5),
 (Il x6)]))∧zmq prog tbl [(.agg 2 [(Il x5),(Il x6)])] a200 m3 (fun v7 m8 => 
 ∃b9:Bool,(v7=(.c (.bool b9)))∧ifB b9 (Q (.c (Il x2)) m8) (zl0 .i64 (x2+1) ∧ 
 R0 [(.c (Il x1)),(.c (Il (x2+1)))] m8))) (Q (.c (Il (-1:Int))) m3)) → 
 R0 [(.c (Il x1)),(.c (Il x2))] m3)→R0 [(.c (Il 0)),
 (.c (Il 0))] m)):Wc prog tbl 170 [(.c a100),(.c a200)] m Q:=
 zpB (n:=2) rfl (by kernel_rfl) (by kernel_rfl) h
theorem zwb{a100:Int}{a101:Bool}{a102:Int}{a103:C}{a104:C}{a105:C}{a200:Int}{m:M}{Q:V→M→Prop}(h :
 (∀m0:M,(m0=(M.new m (AO.cells 6 [(Il a100),(.bool a101),(Il a102),a103,
 a104,a105] false)))→isPt (.ptr m.nxt 0)∧∃x1,((ldC m0 (.ptr m.nxt 2))=(some (Il x1))) ∧ 
 zl0 .i64 (a200 - x1)∧Q (.c (Il (a200 - x1))) m0)):Wc prog tbl 174 [(.agg 6 [(Il a100),(.bool a101),(Il a102),a103,a104,a105]),(.c (Il a200))] m Q:=
 zpB (n:=2) rfl (by kernel_rfl) (by kernel_rfl) h
theorem zwc{a100:Int}{a101:Int}{a102:Int}{a103:Int}{a104:Int}{a105:Int}{m:M}{Q:V→M→Prop}(h :
 (∀m0:M,(m0=(M.new m (AO.cells 6 [(Il a100),(Il a101),(Il a102),
 (Il a103),(Il a104),(Il a105)] false)))→Q (.c (C.fn (Fn.func 183) [] [(W.c (C0.ptr m.nxt 0))])) m0)):Wc prog tbl 179 [(.agg 6 [(Il a100),(Il a101),(Il a102),(Il a103),(Il a104),(Il a105)])] m Q:=
 zpB (n:=1) rfl (by kernel_rfl) (by kernel_rfl) h
theorem zwd{a100:Int}{m:M}{Q:V→M→Prop}(h :
 (Q (.c (.bool (!decide (a100=a100)))) m)):Wc prog tbl 184 [(.c (Il a100))] m Q:=
 zpB (n:=1) rfl (by kernel_rfl) (by kernel_rfl) h
theorem w65{a100:List C}{m:M}{Q:V→M→Prop}(h :
 (∀m0:M,(m0=(M.new m (AO.cells 101 a100 false)))→∀R1:List V→M→Prop,(∀c2:C,∀x3:Int,∀m4:M,
 (ifB (decide (x3 < 101)) (isPt (.ptr m.nxt 0)∧∃n5:Nat,(x3=((n5:Nat):Int)) ∧ 
 (n5 < 101)∧∃b6:Bool,((ldC m4 (.ptr m.nxt (0+(n5 * 1))))=(some (.bool b6))) ∧ 
 ifB b6 (∀m7:M,(m7=(M.new m4 (AO.cells 1 [(Il x3)] false)))→∃c8:C,
 ∃m9:M,(ApR prog 29 m7 c2 (.sl m4.nxt 0 1 0 (some 1)) c8 m9)∧zl0 .i64 (x3+1) ∧ 
 R1 [(.c c8),(.c (Il (x3+1)))] m9) (zl0 .i64 (x3+1) ∧ 
 R1 [(.c c2),(.c (Il (x3+1)))] m4)) (Q (.c c2) m4)) → 
 R1 [(.c c2),(.c (Il x3))] m4)→R1 [(.c C.sl0),(.c (Il 0))] m0)):Wc prog tbl 65 [(.agg 101 a100)] m Q:=
 zpB (n:=1) rfl (by kernel_rfl) (by kernel_rfl) h
theorem zwe{a100:C}{a101:Int}{a102:Int}{a103:C}{a104:C}{a200:Int}{a201:Int}{a202:Int}{a203:Int}{a204:Int}{a205:Int}{a206:Int}{a207:Int}{a208:Int}{a300:Int}{a301:Int}{a302:Int}{m:M}{Q:V→M→Prop}(h :
 (∀m0:M,(m0=(M.new m (AO.cells 5 [a100,(Il a101),(Il a102),a103,a104] false))) → 
 ∀m1:M,(m1=(M.new m0 (AO.cells 9 [(Il a200),(Il a201),(Il a202),
 (Il a203),(Il a204),(Il a205),(Il a206),
 (Il a207),(Il a208)] false)))→∀m2:M,(m2=(M.new m1 (AO.cells 3 [(Il a300),
 (Il a301),(Il a302)] false)))→∃c3:C,∃x4 x5,
 ∃c6:C,∃c7:C,((ldA m2 (.ptr m.nxt 0) 5)=(some [c3,(Il x4),(Il x5),
 c6,c7]))∧∃x8 x9 x10 x11 x12 x13,
 ∃x14 x15 x16,((ldA m2 (.ptr m0.nxt 0) 9)=(some [(Il x8),
 (Il x9),(Il x10),(Il x11),(Il x12),
 (Il x13),(Il x14),(Il x15),(Il x16)])) ∧ 
 ∃x17 x18 x19 x20 x21 x22 x23,
 ∃x24 x25,((ldA m2 (.ptr m0.nxt 0) 9)=(some [(Il x17),
 (Il x18),(Il x19),(Il x20),(Il x21),
 (Il x22),(Il x23),(Il x24),(Il x25)])) ∧ 
 ∃x26 x27 x28,((ldA m2 (.ptr m1.nxt 0) 3)=(some [(Il x26),
 (Il x27),(Il x28)]))∧Wc prog tbl 85 [(.agg 9 [(Il x17),
 (Il x18),(Il x19),(Il x20),(Il x21),
 (Il x22),(Il x23),(Il x24),(Il x25)]),
 (.agg 3 [(Il x26),(Il x27),(Il x28)])] m2 (fun v29 m30 => 
 ∃x31,(v29=(.c (Il x31)))∧((ldA m30 (.ptr m0.nxt 0) 9)=(some [(Il x8),
 (Il x9),(Il x10),(Il x11),(Il x12),
 (Il x13),(Il x14),(Il x15),(Il x16)])) ∧ 
 (ifB (zaL cmC [c3,(Il x4),(Il x5),c6,c7]) ((ldA m30 (.ptr m.nxt 0) 5)=(some [c3,
 (Il x4),(Il x5),c6,c7])) False)∧Wc prog tbl 111 [(.agg 5 [c3,
 (Il x4),(Il x5),c6,c7]),(.agg 9 [(Il x8),
 (Il x9),(Il x10),(Il x11),(Il x12),
 (Il x13),(Il x14),(Il x15),(Il x16)]),
 (.c (Il x31))] m30 (fun v32 m33=>∃x34,(v32=(.c (Il x34))) ∧ 
 isPt (.ptr m1.nxt 0)∧∃x35,((ldC m33 (.ptr m1.nxt 0))=(some (Il x35))) ∧ 
 isPt (.ptr m1.nxt 0)∧∃x36,((ldC m33 (.ptr m1.nxt 0))=(some (Il x36))) ∧ 
 isPt (.ptr m1.nxt 0)∧∃x37,((ldC m33 (.ptr m1.nxt 1))=(some (Il x37))) ∧ 
 isPt (.ptr m1.nxt 0)∧∃x38,((ldC m33 (.ptr m1.nxt 1))=(some (Il x38))) ∧ 
 isPt (.ptr m0.nxt 0)∧∃m39:M,((stC m33 (.ptr m0.nxt 3) 2 [(Il x35),
 (Il x36)])=(some m39))∧((ldC m39 (.ptr m1.nxt 1))=(some (Il x38))) ∧ 
 ((ldC m39 (.ptr m1.nxt 1))=(some (Il x37)))∧isPt (.ptr m0.nxt 0) ∧ 
 ∃m40:M,((stC m39 (.ptr m0.nxt 5) 2 [(Il x37),(Il x38)])=(some m40)) ∧ 
 ∃x41 x42 x43 x44 x45 x46,
 ∃x47 x48 x49,((ldA m40 (.ptr m0.nxt 0) 9)=(some [(Il x41),
 (Il x42),(Il x43),(Il x44),(Il x45),
 (Il x46),(Il x47),(Il x48),(Il x49)])) ∧ 
 Wc prog tbl 64 [(.agg 9 [(Il x41),(Il x42),
 (Il x43),(Il x44),(Il x45),(Il x46),
 (Il x47),(Il x48),(Il x49)])] m40 (fun v50 m51 => 
 ∃l52:List C,(v50=(.agg 101 l52))∧∀m53:M,(m53=(M.new m51 (AO.cells 101 [(.bool false),
 (.bool false),(.bool false),(.bool false),(.bool false),(.bool false),
 (.bool false),(.bool false),(.bool false),(.bool false),(.bool false),
 (.bool false),(.bool false),(.bool false),(.bool false),(.bool false),
 (.bool false),(.bool false),(.bool false),(.bool false),(.bool false),
 (.bool false),(.bool false),(.bool false),(.bool false),(.bool false),
 (.bool false),(.bool false),(.bool false),(.bool false),(.bool false),
 (.bool false),(.bool false),(.bool false),(.bool false),(.bool false),
 (.bool false),(.bool false),(.bool false),(.bool false),(.bool false),
 (.bool false),(.bool false),(.bool false),(.bool false),(.bool false),
 (.bool false),(.bool false),(.bool false),(.bool false),(.bool false),
 (.bool false),(.bool false),(.bool false),(.bool false),(.bool false),
 (.bool false),(.bool false),(.bool false),(.bool false),(.bool false),
 (.bool false),(.bool false),(.bool false),(.bool false),(.bool false),
 (.bool false),(.bool false),(.bool false),(.bool false),(.bool false),
 (.bool false),(.bool false),(.bool false),(.bool false),(.bool false),
 (.bool false),(.bool false),(.bool false),(.bool false),(.bool false),
 (.bool false),(.bool false),(.bool false),(.bool false),(.bool false),
 (.bool false),(.bool false),(.bool false),(.bool false),(.bool false),
 (.bool false),(.bool false),(.bool false),(.bool false),(.bool false),
 (.bool false),(.bool false),(.bool false),(.bool false),(.bool false)] false))) → 
 ∃m54:M,((stC m53 (.ptr m51.nxt 0) 101 l52)=(some m54))∧∃c55:C,
 ∃x56 x57,∃c58:C,∃c59:C,((ldA m54 (.ptr m.nxt 0) 5)=(some [c55,
 (Il x56),(Il x57),c58,c59]))∧∃x60,
 ∃x61 x62 x63 x64 x65 x66,
 ∃x67 x68,((ldA m54 (.ptr m0.nxt 0) 9)=(some [(Il x60),
 (Il x61),(Il x62),(Il x63),(Il x64),
 (Il x65),(Il x66),(Il x67),(Il x68)])) ∧ 
 ∃l69:List C,((ldA m54 (.ptr m51.nxt 0) 101)=(some l69))∧Wc prog tbl 133 [(.agg 5 [c55,
 (Il x56),(Il x57),c58,c59]),(.agg 9 [(Il x60),
 (Il x61),(Il x62),(Il x63),(Il x64),
 (Il x65),(Il x66),(Il x67),(Il x68)]),
 (.agg 101 l69),(.c (Il x34))] m54 (fun v70 m71=>∃l72:List C,
 (v70=(.agg 101 l72))∧∃l73:List C,((ldA m71 (.ptr m51.nxt 0) 101)=(some l73)) ∧ 
 (ifB (zaL cmC l73) ((ldA m54 (.ptr m51.nxt 0) 101)=(some l73)) False) ∧ 
 ∃b74:Bool,((eqV prog 125 (.agg 101 l72) (.agg 101 l73))=(some b74)) ∧ 
 Q (.c (.bool (!b74))) m71)))))):Wc prog tbl 104 [(.agg 5 [a100,(Il a101),(Il a102),a103,a104]),(.agg 9 [(Il a200),(Il a201),(Il a202),(Il a203),(Il a204),(Il a205),(Il a206),(Il a207),(Il a208)]),(.agg 3 [(Il a300),(Il a301),(Il a302)])] m Q:=
 zpB (n:=3) rfl (by kernel_rfl) (by kernel_rfl) h
theorem zwf{a100:C}{a101:Int}{a102:Int}{a103:C}{a104:C}{a200:Int}{a201:Int}{a202:Int}{a203:Int}{a204:Int}{a205:Int}{a206:Int}{a207:Int}{a208:Int}{a300:List C}{a400:Int}{m:M}{Q:V→M→Prop}(h :
 (∀m0:M,(m0=(M.new m (AO.cells 5 [a100,(Il a101),(Il a102),a103,a104] false))) → 
 ∀m1:M,(m1=(M.new m0 (AO.cells 9 [(Il a200),(Il a201),(Il a202),
 (Il a203),(Il a204),(Il a205),(Il a206),
 (Il a207),(Il a208)] false)))→∀m2:M,(m2=(M.new m1 (AO.cells 101 a300 false))) → 
 ∀m3:M,(m3=(M.new m2 (AO.cells 101 [(.bool false),(.bool false),(.bool false),(.bool false),
 (.bool false),(.bool false),(.bool false),(.bool false),(.bool false),(.bool false),
 (.bool false),(.bool false),(.bool false),(.bool false),(.bool false),(.bool false),
 (.bool false),(.bool false),(.bool false),(.bool false),(.bool false),(.bool false),
 (.bool false),(.bool false),(.bool false),(.bool false),(.bool false),(.bool false),
 (.bool false),(.bool false),(.bool false),(.bool false),(.bool false),(.bool false),
 (.bool false),(.bool false),(.bool false),(.bool false),(.bool false),(.bool false),
 (.bool false),(.bool false),(.bool false),(.bool false),(.bool false),(.bool false),
 (.bool false),(.bool false),(.bool false),(.bool false),(.bool false),(.bool false),
 (.bool false),(.bool false),(.bool false),(.bool false),(.bool false),(.bool false),
 (.bool false),(.bool false),(.bool false),(.bool false),(.bool false),(.bool false),
 (.bool false),(.bool false),(.bool false),(.bool false),(.bool false),(.bool false),
 (.bool false),(.bool false),(.bool false),(.bool false),(.bool false),(.bool false),
 (.bool false),(.bool false),(.bool false),(.bool false),(.bool false),(.bool false),
 (.bool false),(.bool false),(.bool false),(.bool false),(.bool false),(.bool false),
 (.bool false),(.bool false),(.bool false),(.bool false),(.bool false),(.bool false),
 (.bool false),(.bool false),(.bool false),(.bool false),(.bool false),(.bool false),
 (.bool false)] false)))→∃l4:List C,((ldA m3 (.ptr m1.nxt 0) 101)=(some l4)) ∧ 
 Wc prog tbl 65 [(.agg 101 l4)] m3 (fun v5 m6=>∃c7:C,(v5=(.c c7))∧isSl c7∧∀R8:List V → 
 M→Prop,(∀x9:Int,∀m10:M,(ifB (decide (x9 < (((slLen c7):Nat):Int))) (∃n11:Nat,
 (x9=((n11:Nat):Int))∧(n11 < (slLen c7))∧∃x12,((ldC m10 (zl2 c7 (n11 * 1)))=(some (Il x12))) ∧ 
 ∃c13:C,∃x14 x15,∃c16:C,∃c17:C,((ldA m10 (.ptr m.nxt 0) 5)=(some [c13,
 (Il x14),(Il x15),c16,c17]))∧∃x18,
 ∃x19 x20 x21 x22 x23 x24,
 ∃x25 x26,((ldA m10 (.ptr m0.nxt 0) 9)=(some [(Il x18),
 (Il x19),(Il x20),(Il x21),(Il x22),
 (Il x23),(Il x24),(Il x25),(Il x26)])) ∧ 
 Wc prog tbl 111 [(.agg 5 [c13,(Il x14),(Il x15),
 c16,c17]),(.agg 9 [(Il x18),(Il x19),(Il x20),
 (Il x21),(Il x22),(Il x23),(Il x24),
 (Il x25),(Il x26)]),(.c (Il x12))] m10 (fun v27 m28 => 
 ∃x29,(v27=(.c (Il x29)))∧isPt (.ptr m1.nxt 0) ∧ 
 ∃n30:Nat,(x12=((n30:Nat):Int))∧(n30 < 101)∧∃m31:M,((stC m28 (.ptr m1.nxt (0+(n30 * 1))) 1 [(.bool (decide (x29=a400)))])=(some m31)) ∧ 
 zl0 .i64 (x9+1)∧R8 [(.c (Il (x9+1)))] m31)) (∃l32:List C,
 ((ldA m10 (.ptr m1.nxt 0) 101)=(some l32))∧∃m33:M,((stC m10 (.ptr m2.nxt 0) 101 l32)=(some m33)) ∧ 
 ∃l34:List C,((ldA m33 (.ptr m2.nxt 0) 101)=(some l34))∧Q (.agg 101 l34) m33)) → 
 R8 [(.c (Il x9))] m10)→R8 [(.c (Il 0))] m6))):Wc prog tbl 133 [(.agg 5 [a100,(Il a101),(Il a102),a103,a104]),(.agg 9 [(Il a200),(Il a201),(Il a202),(Il a203),(Il a204),(Il a205),(Il a206),(Il a207),(Il a208)]),(.agg 101 a300),(.c (Il a400))] m Q:=
 zpB (n:=4) rfl (by kernel_rfl) (by kernel_rfl) h
end
end Go.Proofs.YteojndcmgpiklaaGreat

