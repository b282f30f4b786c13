/- An evaluator of the code of a program, its soundness, what calls ask, memory, and what functions of the program do. Condition: none; a lemma text of this claim. -/
import Derived.Test.YtbnfnhfanooplaaGreatSbG

namespace Go.Proofs.YtbnfnhfanooplaaGreat
open _root_.Go.Proofs.Tryz
open Go.Abs
set_option maxRecDepth 100000
noncomputable section
theorem w6 {a100 : Int} {a101 : Int} {a102 : Int} {a103 : Int} {a104 : Int} {a105 : Int} {a106 : Int} {a107 : Int} {a108 : Int} {a109 : Int} {a110 : Int} {a111 : C} {m : M} {Q : V → M → Prop} (h :
 (∀ m0 : M, (m0 = (M.new m (AO.cells 12 [(Il a100), (Il a101), (Il a102), 
 (Il a103), (Il a104), (Il a105), (Il a106), 
 (Il a107), (Il a108), (Il a109), (Il a110), 
 a111] false))) → ∀ m1 : M, (m1 = (M.new m0 (AO.cells 12 [(Il 0), (Il 0), 
 (Il 0), (Il 0), (Il 0), (Il 0), 
 (Il 0), (Il 0), (Il 0), (Il 0), 
 (Il 0), C.sl0] false))) → ∃ x2, ∃ x3, ∃ x4, ∃ x5, 
 ∃ x6, ∃ x7, ∃ x8, ∃ x9, ∃ x10, ∃ x11, ∃ x12, ∃ c13 : C, 
 ((ldA m1 (C.ptr m.nxt 0) 12) = (some [(Il x2), (Il x3), 
 (Il x4), (Il x5), (Il x6), (Il x7), 
 (Il x8), (Il x9), (Il x10), (Il x11), 
 (Il x12), c13])) ∧ Wc prog tbl 29 [(V.agg 12 [(Il x2), (Il x3), 
 (Il x4), (Il x5), (Il x6), (Il x7), 
 (Il x8), (Il x9), (Il x10), (Il x11), 
 (Il x12), c13]), (V.c C.sl0)] m1 (fun v14 m15 => ∃ x16, ∃ x17, 
 ∃ x18, ∃ x19, ∃ x20, ∃ x21, ∃ x22, ∃ x23, ∃ x24, 
 ∃ x25, ∃ x26, ∃ c27 : C, ∃ c28 : C, ∃ x29, (v14 = (V.tup [(U.agg 13 [(Il x16), 
 (Il x17), (Il x18), (Il x19), (Il x20), 
 (Il x21), (Il x22), (Il x23), (Il x24), 
 (Il x25), (Il x26), c27, c28]), (U.c (Il x29))])) ∧ 
 ∀ m30 : M, (m30 = (M.new m15 (AO.cells 13 [(Il 0), (Il 0), 
 (Il 0), (Il 0), (Il 0), 
 (Il 0), (Il 0), (Il 0), 
 (Il 0), (Il 0), (Il 0), 
 C.sl0, C.map0] false))) → ∃ m31 : M, ((stC m30 (C.ptr m15.nxt 0) 13 [(Il x16), 
 (Il x17), (Il x18), (Il x19), (Il x20), 
 (Il x21), (Il x22), (Il x23), (Il x24), 
 (Il x25), (Il x26), c27, c28]) = (some m31)) ∧ 
 ifB (!decide (x29 = 0)) (∃ m32 : M, ((stC m31 (C.ptr m0.nxt 0) 12 [(Il 0), 
 (Il 0), (Il 0), (Il 0), 
 (Il 0), (Il 0), (Il 0), 
 (Il 0), (Il 0), (Il 0), 
 (Il 0), C.sl0]) = (some m32)) ∧ ∃ x33, ∃ x34, 
 ∃ x35, ∃ x36, ∃ x37, ∃ x38, ∃ x39, ∃ x40, 
 ∃ x41, ∃ x42, ∃ x43, ∃ c44 : C, ((ldA m32 (C.ptr m0.nxt 0) 12) = (some [(Il x33), 
 (Il x34), (Il x35), (Il x36), (Il x37), 
 (Il x38), (Il x39), (Il x40), (Il x41), 
 (Il x42), (Il x43), c44])) ∧ Q (V.tup [(U.agg 12 [(Il x33), 
 (Il x34), (Il x35), (Il x36), (Il x37), 
 (Il x38), (Il x39), (Il x40), (Il x41), 
 (Il x42), (Il x43), c44]), (U.c (Il x29))]) m32) (∃ x45, 
 ∃ x46, ∃ x47, ∃ x48, ∃ x49, ∃ x50, ∃ x51, 
 ∃ x52, ∃ x53, ∃ x54, ∃ x55, ∃ c56 : C, ∃ c57 : C, 
 ((ldA m31 (C.ptr m15.nxt 0) 13) = (some [(Il x45), (Il x46), 
 (Il x47), (Il x48), (Il x49), (Il x50), 
 (Il x51), (Il x52), (Il x53), (Il x54), 
 (Il x55), c56, c57])) ∧ Wc prog tbl 30 [(V.agg 13 [(Il x45), 
 (Il x46), (Il x47), (Il x48), (Il x49), 
 (Il x50), (Il x51), (Il x52), (Il x53), 
 (Il x54), (Il x55), c56, c57]), (V.c (C.fn (Fn.func 31) [] []))] m31 (fun v58 m59 => 
 ∃ x60, ∃ x61, (v58 = (V.agg 2 [(Il x60), (Il x61)])) ∧ 
 isPt (C.ptr m.nxt 0) ∧ ∃ m62 : M, ((stC m59 (C.ptr m.nxt 3) 2 [(Il x60), 
 (Il x61)]) = (some m62)) ∧ ∃ x63, ∃ x64, 
 ∃ x65, ∃ x66, ∃ x67, ∃ x68, ∃ x69, ∃ x70, 
 ∃ x71, ∃ x72, ∃ x73, ∃ c74 : C, ∃ c75 : C, ((ldA m62 (C.ptr m15.nxt 0) 13) = (some [(Il x63), 
 (Il x64), (Il x65), (Il x66), (Il x67), 
 (Il x68), (Il x69), (Il x70), (Il x71), 
 (Il x72), (Il x73), c74, c75])) ∧ Wc prog tbl 30 [(V.agg 13 [(Il x63), 
 (Il x64), (Il x65), (Il x66), (Il x67), 
 (Il x68), (Il x69), (Il x70), (Il x71), 
 (Il x72), (Il x73), c74, c75]), (V.c (C.fn (Fn.func 32) [] []))] m62 (fun v76 m77 => 
 ∃ x78, ∃ x79, (v76 = (V.agg 2 [(Il x78), (Il x79)])) ∧ 
 isPt (C.ptr m.nxt 0) ∧ ∃ m80 : M, ((stC m77 (C.ptr m.nxt 5) 2 [(Il x78), 
 (Il x79)]) = (some m80)) ∧ ∃ x81, ∃ x82, 
 ∃ x83, ∃ x84, ∃ x85, ∃ x86, ∃ x87, ∃ x88, 
 ∃ x89, ∃ x90, ∃ x91, ∃ c92 : C, ∃ c93 : C, ((ldA m80 (C.ptr m15.nxt 0) 13) = (some [(Il x81), 
 (Il x82), (Il x83), (Il x84), (Il x85), 
 (Il x86), (Il x87), (Il x88), (Il x89), 
 (Il x90), (Il x91), c92, c93])) ∧ Wc prog tbl 30 [(V.agg 13 [(Il x81), 
 (Il x82), (Il x83), (Il x84), (Il x85), 
 (Il x86), (Il x87), (Il x88), (Il x89), 
 (Il x90), (Il x91), c92, c93]), (V.c (C.fn (Fn.func 33) [] []))] m80 (fun v94 m95 => 
 ∃ x96, ∃ x97, (v94 = (V.agg 2 [(Il x96), (Il x97)])) ∧ 
 isPt (C.ptr m.nxt 0) ∧ ∃ m98 : M, ((stC m95 (C.ptr m.nxt 7) 2 [(Il x96), 
 (Il x97)]) = (some m98)) ∧ ∃ x99, ∃ x100, 
 ∃ x101, ∃ x102, ∃ x103, ∃ x104, ∃ x105, ∃ x106, 
 ∃ x107, ∃ x108, ∃ x109, ∃ c110 : C, ∃ c111 : C, ((ldA m98 (C.ptr m15.nxt 0) 13) = (some [(Il x99), 
 (Il x100), (Il x101), (Il x102), 
 (Il x103), (Il x104), (Il x105), 
 (Il x106), (Il x107), (Il x108), 
 (Il x109), c110, c111])) ∧ Wc prog tbl 30 [(V.agg 13 [(Il x99), 
 (Il x100), (Il x101), (Il x102), 
 (Il x103), (Il x104), (Il x105), 
 (Il x106), (Il x107), (Il x108), 
 (Il x109), c110, c111]), (V.c (C.fn (Fn.func 34) [] []))] m98 (fun v112 m113 => 
 ∃ x114, ∃ x115, (v112 = (V.agg 2 [(Il x114), (Il x115)])) ∧ 
 isPt (C.ptr m.nxt 0) ∧ ∃ m116 : M, ((stC m113 (C.ptr m.nxt 9) 2 [(Il x114), 
 (Il x115)]) = (some m116)) ∧ isPt (C.ptr m.nxt 0) ∧ 
 ∃ c117 : C, ((ldC m116 (C.ptr m.nxt 11)) = (some c117)) ∧ Wc prog tbl 35 [(V.c c117)] m116 (fun v118 m119 => 
 ∃ c120 : C, (v118 = (V.c c120)) ∧ isPt (C.ptr m.nxt 0) ∧ ∃ m121 : M, ((stC m119 (C.ptr m.nxt 11) 1 [c120]) = (some m121)) ∧ 
 ∃ x122, ∃ x123, ∃ x124, ∃ x125, ∃ x126, ∃ x127, 
 ∃ x128, ∃ x129, ∃ x130, ∃ x131, ∃ x132, ∃ c133 : C, 
 ((ldA m121 (C.ptr m.nxt 0) 12) = (some [(Il x122), (Il x123), 
 (Il x124), (Il x125), (Il x126), 
 (Il x127), (Il x128), (Il x129), 
 (Il x130), (Il x131), (Il x132), 
 c133])) ∧ ∃ m134 : M, ((stC m121 (C.ptr m0.nxt 0) 12 [(Il x122), 
 (Il x123), (Il x124), (Il x125), 
 (Il x126), (Il x127), (Il x128), 
 (Il x129), (Il x130), (Il x131), 
 (Il x132), c133]) = (some m134)) ∧ ∃ x135, ∃ x136, 
 ∃ x137, ∃ x138, ∃ x139, ∃ x140, ∃ x141, ∃ x142, 
 ∃ x143, ∃ x144, ∃ x145, ∃ c146 : C, ((ldA m134 (C.ptr m0.nxt 0) 12) = (some [(Il x135), 
 (Il x136), (Il x137), (Il x138), 
 (Il x139), (Il x140), (Il x141), 
 (Il x142), (Il x143), (Il x144), 
 (Il x145), c146])) ∧ Q (V.tup [(U.agg 12 [(Il x135), 
 (Il x136), (Il x137), (Il x138), 
 (Il x139), (Il x140), (Il x141), 
 (Il x142), (Il x143), (Il x144), 
 (Il x145), c146]), (U.c (Il 0))]) m134))))))))) : Wc prog tbl 6 [(V.agg 12 [(Il a100), (Il a101), (Il a102), (Il a103), (Il a104), (Il a105), (Il a106), (Il a107), (Il a108), (Il a109), (Il a110), a111])] m Q :=
 wc_eq (n := 1) rfl (by kernel_rfl) (by kernel_rfl) h
theorem w9 {a100 : Int} {a101 : Int} {a102 : Int} {a103 : Int} {m : M} {Q : V → M → Prop} (h :
 (∀ m0 : M, (m0 = (M.new m (AO.cells 4 [(Il a100), (Il a101), (Il a102), 
 (Il a103)] false))) → ∀ m1 : M, (m1 = (M.new m0 (AO.cells 4 [(Il 0), 
 (Il 0), (Il 0), (Il 0)] false))) → 
 isPt (C.ptr m.nxt 0) ∧ ∃ x2, ((ldC m1 (C.ptr m.nxt 0)) = (some (Il x2))) ∧ 
 isPt (C.ptr m.nxt 0) ∧ ∃ x3, ((ldC m1 (C.ptr m.nxt 1)) = (some (Il x3))) ∧ 
 isPt (C.ptr m.nxt 0) ∧ ∃ x4, ((ldC m1 (C.ptr m.nxt 2)) = (some (Il x4))) ∧ 
 isPt (C.ptr m.nxt 0) ∧ ∃ x5, ((ldC m1 (C.ptr m.nxt 3)) = (some (Il x5))) ∧ 
 ∃ m6 : M, ((stC m1 (C.ptr m0.nxt 0) 4 [(Il x2), (Il x3), 
 (Il x4), (Il x5)]) = (some m6)) ∧ ∃ x7, ∃ x8, 
 ∃ x9, ∃ x10, ((ldA m6 (C.ptr m0.nxt 0) 4) = (some [(Il x7), 
 (Il x8), (Il x9), (Il x10)])) ∧ Q (V.agg 4 [(Il x7), 
 (Il x8), (Il x9), (Il x10)]) m6)) : Wc prog tbl 9 [(V.agg 4 [(Il a100), (Il a101), (Il a102), (Il a103)])] m Q :=
 wc_eq (n := 1) rfl (by kernel_rfl) (by kernel_rfl) h
theorem w12 {a100 : Int} {a101 : Int} {a102 : Int} {a103 : Int} {a104 : Int} {a105 : Int} {a106 : Int} {a107 : Int} {a108 : Int} {a109 : Int} {a110 : Int} {a111 : C} {m : M} {Q : V → M → Prop} (h :
 (∀ m0 : M, (m0 = (M.new m (AO.cells 12 [(Il a100), (Il a101), (Il a102), 
 (Il a103), (Il a104), (Il a105), (Il a106), 
 (Il a107), (Il a108), (Il a109), (Il a110), 
 a111] false))) → isPt (C.ptr m.nxt 0) ∧ ∃ x1, ((ldC m0 (C.ptr m.nxt 0)) = (some (Il x1))) ∧ 
 ifB (decide ((12 : Int) < x1)) (Q (V.c (Il (3 : Int))) m0) (isPt (C.ptr m.nxt 0) ∧ ∃ x2, 
 ((ldC m0 (C.ptr m.nxt 1)) = (some (Il x2))) ∧ ifB (decide ((12 : Int) < x2)) (Q (V.c (Il (3 : Int))) m0) (isPt (C.ptr m.nxt 0) ∧ 
 ∃ c3 : C, ((ldC m0 (C.ptr m.nxt 11)) = (some c3)) ∧ isSl c3 ∧ ifB (decide ((6 : Int) < (((slLen c3) : Nat) : Int))) (Q (V.c (Il (3 : Int))) m0) (isPt (C.ptr m.nxt 0) ∧ 
 ∃ x4, ((ldC m0 (C.ptr m.nxt 0)) = (some (Il x4))) ∧ ifB (decide (x4 < 2)) (Q (V.c (Il (1 : Int))) m0) (isPt (C.ptr m.nxt 0) ∧ 
 ∃ x5, ((ldC m0 (C.ptr m.nxt 1)) = (some (Il x5))) ∧ ifB (decide (x5 < 1)) (Q (V.c (Il (1 : Int))) m0) (isPt (C.ptr m.nxt 0) ∧ 
 ∃ x6, ((ldC m0 (C.ptr m.nxt 2)) = (some (Il x6))) ∧ 
 Wc prog tbl 43 [(V.c (Il x6)), (V.c (Il 0)), 
 (V.c (Il (4 : Int)))] m0 (fun v7 m8 => ∃ b9 : Bool, (v7 = (V.c (C.bool b9))) ∧ 
 ifB (!b9) (Q (V.c (Il (1 : Int))) m8) (isPt (C.ptr m.nxt 0) ∧ 
 ∃ x10, ∃ x11, ((ldA m8 (C.ptr m.nxt 3) 2) = (some [(Il x10), 
 (Il x11)])) ∧ isPt (C.ptr m.nxt 0) ∧ ∃ x12, ((ldC m8 (C.ptr m.nxt 1)) = (some (Il x12))) ∧ 
 fitsP .i64 (x12 - 1) ∧ Wc prog tbl 44 [(V.agg 2 [(Il x10), 
 (Il x11)]), (V.c (Il 0)), (V.c (Il (x12 - 1)))] m8 (fun v13 m14 => 
 ∃ b15 : Bool, (v13 = (V.c (C.bool b15))) ∧ ifB (!b15) (Q (V.c (Il (1 : Int))) m14) (isPt (C.ptr m.nxt 0) ∧ 
 ∃ x16, ∃ x17, ((ldA m14 (C.ptr m.nxt 5) 2) = (some [(Il x16), 
 (Il x17)])) ∧ isPt (C.ptr m.nxt 0) ∧ ∃ x18, ((ldC m14 (C.ptr m.nxt 1)) = (some (Il x18))) ∧ 
 fitsP .i64 (x18 - 1) ∧ Wc prog tbl 44 [(V.agg 2 [(Il x16), 
 (Il x17)]), (V.c (Il 0)), (V.c (Il (x18 - 1)))] m14 (fun v19 m20 => 
 ∃ b21 : Bool, (v19 = (V.c (C.bool b21))) ∧ ifB (!b21) (Q (V.c (Il (1 : Int))) m20) (isPt (C.ptr m.nxt 0) ∧ 
 ∃ x22, ∃ x23, ((ldA m20 (C.ptr m.nxt 7) 2) = (some [(Il x22), 
 (Il x23)])) ∧ Wc prog tbl 44 [(V.agg 2 [(Il x22), 
 (Il x23)]), (V.c (Il 0)), (V.c (Il (3 : Int)))] m20 (fun v24 m25 => 
 ∃ b26 : Bool, (v24 = (V.c (C.bool b26))) ∧ ifB (!b26) (Q (V.c (Il (1 : Int))) m25) (isPt (C.ptr m.nxt 0) ∧ 
 ∃ x27, ∃ x28, ((ldA m25 (C.ptr m.nxt 9) 2) = (some [(Il x27), 
 (Il x28)])) ∧ Wc prog tbl 44 [(V.agg 2 [(Il x27), 
 (Il x28)]), (V.c (Il (1 : Int))), (V.c (Il (9 : Int)))] m25 (fun v29 m30 => 
 ∃ b31 : Bool, (v29 = (V.c (C.bool b31))) ∧ ifB (!b31) (Q (V.c (Il (1 : Int))) m30) (∀ R32 : List V → 
 M → Prop, (∀ x33 : Int, ∀ x34 : Int, ∀ m35 : M, (isPt (C.ptr m.nxt 0) ∧ 
 ∃ c36 : C, ((ldC m35 (C.ptr m.nxt 11)) = (some c36)) ∧ isSl c36 ∧ 
 ifB (decide (x34 < (((slLen c36) : Nat) : Int))) (∃ x37, ∃ x38, 
 ∃ x39, ∃ x40, ∃ x41, ∃ x42, ∃ x43, ∃ x44, 
 ∃ x45, ∃ x46, ∃ x47, ∃ c48 : C, ((ldA m35 (C.ptr m.nxt 0) 12) = (some [(Il x37), 
 (Il x38), (Il x39), (Il x40), (Il x41), 
 (Il x42), (Il x43), (Il x44), (Il x45), 
 (Il x46), (Il x47), c48])) ∧ isPt (C.ptr m.nxt 0) ∧ 
 ∃ c49 : C, ((ldC m35 (C.ptr m.nxt 11)) = (some c49)) ∧ ∃ n50 : Nat, 
 (x34 = ((n50 : Nat) : Int)) ∧ (n50 < (slLen c49)) ∧ ∃ x51, ∃ x52, 
 ∃ x53, ∃ x54, ∃ b55 : Bool, ∃ x56, ∃ x57, ((ldA m35 (slAt c49 (n50 * 7)) 7) = (some [(Il x51), 
 (Il x52), (Il x53), (Il x54), (C.bool b55), 
 (Il x56), (Il x57)])) ∧ Wc prog tbl 45 [(V.agg 12 [(Il x37), 
 (Il x38), (Il x39), (Il x40), (Il x41), 
 (Il x42), (Il x43), (Il x44), (Il x45), 
 (Il x46), (Il x47), c48]), (V.agg 7 [(Il x51), 
 (Il x52), (Il x53), (Il x54), (C.bool b55), 
 (Il x56), (Il x57)])] m35 (fun v58 m59 => ∃ b60 : Bool, 
 (v58 = (V.c (C.bool b60))) ∧ ifB (!b60) (Q (V.c (Il (1 : Int))) m59) (fitsP .i64 (x34 + 1) ∧ 
 R32 [(V.c (Il x33)), (V.c (Il (x34 + 1)))] m59))) (∃ x61, 
 ∃ x62, ∃ x63, ∃ x64, ∃ x65, ∃ x66, ∃ x67, 
 ∃ x68, ∃ x69, ∃ x70, ∃ x71, ∃ c72 : C, ((ldA m35 (C.ptr m.nxt 0) 12) = (some [(Il x61), 
 (Il x62), (Il x63), (Il x64), (Il x65), 
 (Il x66), (Il x67), (Il x68), (Il x69), 
 (Il x70), (Il x71), c72])) ∧ Wc prog tbl 18 [(V.agg 12 [(Il x61), 
 (Il x62), (Il x63), (Il x64), (Il x65), 
 (Il x66), (Il x67), (Il x68), (Il x69), 
 (Il x70), (Il x71), c72])] m35 (fun v73 m74 => 
 ∃ x75, (v73 = (V.c (Il x75))) ∧ ifB (decide ((2000 : Int) < x75)) (Q (V.c (Il (3 : Int))) m74) (Q (V.c (Il 0)) m74)))) → 
 R32 [(V.c (Il x33)), (V.c (Il x34))] m35) → 
 R32 [(V.c (Il 0)), (V.c (Il 0))] m30))))))))))))))))) : Wc prog tbl 12 [(V.agg 12 [(Il a100), (Il a101), (Il a102), (Il a103), (Il a104), (Il a105), (Il a106), (Il a107), (Il a108), (Il a109), (Il a110), a111])] m Q :=
 wc_eq (n := 1) rfl (by kernel_rfl) (by kernel_rfl) h
theorem w15 {a100 : Int} {a101 : Int} {a102 : Int} {a103 : Int} {a104 : Int} {a105 : Int} {a106 : Int} {a107 : Int} {a108 : Int} {a109 : Int} {a110 : Int} {a111 : C} {m : M} {Q : V → M → Prop} (h :
 (∀ m0 : M, (m0 = (M.new m (AO.cells 12 [(Il a100), (Il a101), (Il a102), 
 (Il a103), (Il a104), (Il a105), (Il a106), 
 (Il a107), (Il a108), (Il a109), (Il a110), 
 a111] false))) → isPt (C.ptr m.nxt 0) ∧ ∃ c1 : C, ((ldC m0 (C.ptr m.nxt 11)) = (some c1)) ∧ 
 isSl c1 ∧ ifB (decide ((((slLen c1) : Nat) : Int) = (0 : Int))) (∃ x2, ∃ x3, ∃ x4, 
 ∃ x5, ∃ x6, ∃ x7, ∃ x8, ∃ x9, ∃ x10, ∃ x11, ∃ x12, 
 ∃ c13 : C, ((ldA m0 (C.ptr m.nxt 0) 12) = (some [(Il x2), (Il x3), 
 (Il x4), (Il x5), (Il x6), (Il x7), 
 (Il x8), (Il x9), (Il x10), (Il x11), 
 (Il x12), c13])) ∧ Wc prog tbl 17 [(V.agg 12 [(Il x2), 
 (Il x3), (Il x4), (Il x5), (Il x6), 
 (Il x7), (Il x8), (Il x9), (Il x10), 
 (Il x11), (Il x12), c13]), (V.agg 12 [(Il 0), 
 (Il 0), (Il 0), (Il 0), 
 (Il 0), (Il 0), (Il 0), 
 (Il 0), (Il 0), (Il 0), 
 (Il 0), C.sl0])] m0 (fun v14 m15 => ∃ b16 : Bool, (v14 = (V.c (C.bool b16))) ∧ 
 Q (V.c (C.bool b16)) m15)) (Q (V.c (C.bool false)) m0))) : Wc prog tbl 15 [(V.agg 12 [(Il a100), (Il a101), (Il a102), (Il a103), (Il a104), (Il a105), (Il a106), (Il a107), (Il a108), (Il a109), (Il a110), a111])] m Q :=
 wc_eq (n := 1) rfl (by kernel_rfl) (by kernel_rfl) h
theorem w18 {a100 : Int} {a101 : Int} {a102 : Int} {a103 : Int} {a104 : Int} {a105 : Int} {a106 : Int} {a107 : Int} {a108 : Int} {a109 : Int} {a110 : Int} {a111 : C} {m : M} {Q : V → M → Prop} (h :
 (∀ m0 : M, (m0 = (M.new m (AO.cells 12 [(Il a100), (Il a101), (Il a102), 
 (Il a103), (Il a104), (Il a105), (Il a106), 
 (Il a107), (Il a108), (Il a109), (Il a110), 
 a111] false))) → isPt (C.ptr m.nxt 0) ∧ ∃ x1, ∃ x2, ((ldA m0 (C.ptr m.nxt 3) 2) = (some [(Il x1), 
 (Il x2)])) ∧ Wc prog tbl 50 [(V.agg 2 [(Il x1), (Il x2)])] m0 (fun v3 m4 => 
 ∃ x5, (v3 = (V.c (Il x5))) ∧ isPt (C.ptr m.nxt 0) ∧ ∃ x6, ∃ x7, 
 ((ldA m4 (C.ptr m.nxt 5) 2) = (some [(Il x6), (Il x7)])) ∧ 
 ((ldA m0 (C.ptr m.nxt 5) 2) = (some [(Il x6), (Il x7)])) ∧ 
 Wc prog tbl 50 [(V.agg 2 [(Il x6), (Il x7)])] m4 (fun v8 m9 => 
 ∃ x10, (v8 = (V.c (Il x10))) ∧ ((0 : Int) ≤ x5) ∧ ((0 : Int) ≤ x10) ∧ 
 fitsP .i64 (x5 * x10) ∧ isPt (C.ptr m.nxt 0) ∧ ∃ x11, ∃ x12, 
 ((ldA m9 (C.ptr m.nxt 7) 2) = (some [(Il x11), (Il x12)])) ∧ 
 ((ldA m4 (C.ptr m.nxt 7) 2) = (some [(Il x11), (Il x12)])) ∧ 
 ((ldA m0 (C.ptr m.nxt 7) 2) = (some [(Il x11), (Il x12)])) ∧ 
 Wc prog tbl 50 [(V.agg 2 [(Il x11), (Il x12)])] m9 (fun v13 m14 => 
 ∃ x15, (v13 = (V.c (Il x15))) ∧ ((0 : Int) ≤ (x5 * x10)) ∧ 
 ((0 : Int) ≤ x15) ∧ fitsP .i64 ((x5 * x10) * x15) ∧ isPt (C.ptr m.nxt 0) ∧ 
 ∃ x16, ∃ x17, ((ldA m14 (C.ptr m.nxt 9) 2) = (some [(Il x16), 
 (Il x17)])) ∧ ((ldA m9 (C.ptr m.nxt 9) 2) = (some [(Il x16), 
 (Il x17)])) ∧ ((ldA m4 (C.ptr m.nxt 9) 2) = (some [(Il x16), 
 (Il x17)])) ∧ ((ldA m0 (C.ptr m.nxt 9) 2) = (some [(Il x16), 
 (Il x17)])) ∧ Wc prog tbl 50 [(V.agg 2 [(Il x16), 
 (Il x17)])] m14 (fun v18 m19 => ∃ x20, (v18 = (V.c (Il x20))) ∧ 
 ((0 : Int) ≤ ((x5 * x10) * x15)) ∧ ((0 : Int) ≤ x20) ∧ fitsP .i64 (((x5 * x10) * x15) * x20) ∧ 
 Q (V.c (Il (((x5 * x10) * x15) * x20))) m19)))))) : Wc prog tbl 18 [(V.agg 12 [(Il a100), (Il a101), (Il a102), (Il a103), (Il a104), (Il a105), (Il a106), (Il a107), (Il a108), (Il a109), (Il a110), a111])] m Q :=
 wc_eq (n := 1) rfl (by kernel_rfl) (by kernel_rfl) h
theorem w31 {a100 : Int} {a101 : Int} {a102 : Int} {a103 : Int} {m : M} {Q : V → M → Prop} (h :
 (∀ m0 : M, (m0 = (M.new m (AO.cells 4 [(Il a100), (Il a101), (Il a102), 
 (Il a103)] false))) → isPt (C.ptr m.nxt 0) ∧ ∃ x1, ((ldC m0 (C.ptr m.nxt 0)) = (some (Il x1))) ∧ 
 Q (V.c (Il x1)) m0)) : Wc prog tbl 31 [(V.agg 4 [(Il a100), (Il a101), (Il a102), (Il a103)])] m Q :=
 wc_eq (n := 1) rfl (by kernel_rfl) (by kernel_rfl) h
theorem w34 {a100 : Int} {a101 : Int} {a102 : Int} {a103 : Int} {m : M} {Q : V → M → Prop} (h :
 (∀ m0 : M, (m0 = (M.new m (AO.cells 4 [(Il a100), (Il a101), (Il a102), 
 (Il a103)] false))) → isPt (C.ptr m.nxt 0) ∧ ∃ x1, ((ldC m0 (C.ptr m.nxt 3)) = (some (Il x1))) ∧ 
 Q (V.c (Il x1)) m0)) : Wc prog tbl 34 [(V.agg 4 [(Il a100), (Il a101), (Il a102), (Il a103)])] m Q :=
 wc_eq (n := 1) rfl (by kernel_rfl) (by kernel_rfl) h
theorem w37 {a100 : Int} {a101 : Int} {a102 : Int} {a103 : Int} {a104 : Int} {a105 : Int} {a106 : Int} {a107 : Int} {a108 : Int} {a109 : Int} {a110 : Int} {a111 : C} {a200 : Int} {a201 : Int} {a202 : Int} {a203 : Int} {m : M} {Q : V → M → Prop} (h :
 (∀ m0 : M, (m0 = (M.new m (AO.cells 12 [(Il a100), (Il a101), (Il a102), 
 (Il a103), (Il a104), (Il a105), (Il a106), 
 (Il a107), (Il a108), (Il a109), (Il a110), 
 a111] false))) → ∀ m1 : M, (m1 = (M.new m0 (AO.cells 4 [(Il a200), (Il a201), 
 (Il a202), (Il a203)] false))) → isPt (C.ptr m.nxt 0) ∧ ∃ x2, 
 ∃ x3, ((ldA m1 (C.ptr m.nxt 3) 2) = (some [(Il x2), (Il x3)])) ∧ 
 isPt (C.ptr m0.nxt 0) ∧ ∃ x4, ((ldC m1 (C.ptr m0.nxt 0)) = (some (Il x4))) ∧ 
 Wc prog tbl 69 [(V.agg 2 [(Il x2), (Il x3)]), (V.c (Il x4))] m1 (fun v5 m6 => 
 ∃ b7 : Bool, (v5 = (V.c (C.bool b7))) ∧ ifB b7 (isPt (C.ptr m.nxt 0) ∧ ∃ x8, ∃ x9, 
 ((ldA m6 (C.ptr m.nxt 5) 2) = (some [(Il x8), (Il x9)])) ∧ 
 isPt (C.ptr m0.nxt 0) ∧ ∃ x10, ((ldC m6 (C.ptr m0.nxt 1)) = (some (Il x10))) ∧ 
 Wc prog tbl 69 [(V.agg 2 [(Il x8), (Il x9)]), (V.c (Il x10))] m6 (fun v11 m12 => 
 ∃ b13 : Bool, (v11 = (V.c (C.bool b13))) ∧ ifB b13 (isPt (C.ptr m.nxt 0) ∧ ∃ x14, 
 ∃ x15, ((ldA m12 (C.ptr m.nxt 7) 2) = (some [(Il x14), 
 (Il x15)])) ∧ isPt (C.ptr m0.nxt 0) ∧ ∃ x16, ((ldC m12 (C.ptr m0.nxt 2)) = (some (Il x16))) ∧ 
 Wc prog tbl 69 [(V.agg 2 [(Il x14), (Il x15)]), 
 (V.c (Il x16))] m12 (fun v17 m18 => ∃ b19 : Bool, (v17 = (V.c (C.bool b19))) ∧ 
 ifB b19 (isPt (C.ptr m.nxt 0) ∧ ∃ x20, ∃ x21, ((ldA m18 (C.ptr m.nxt 9) 2) = (some [(Il x20), 
 (Il x21)])) ∧ isPt (C.ptr m0.nxt 0) ∧ ∃ x22, ((ldC m18 (C.ptr m0.nxt 3)) = (some (Il x22))) ∧ 
 Wc prog tbl 69 [(V.agg 2 [(Il x20), (Il x21)]), 
 (V.c (Il x22))] m18 (fun v23 m24 => ∃ b25 : Bool, (v23 = (V.c (C.bool b25))) ∧ 
 Q (V.c (C.bool b25)) m24)) (Q (V.c (C.bool false)) m18))) (Q (V.c (C.bool false)) m12))) (Q (V.c (C.bool false)) m6)))) : Wc prog tbl 37 [(V.agg 12 [(Il a100), (Il a101), (Il a102), (Il a103), (Il a104), (Il a105), (Il a106), (Il a107), (Il a108), (Il a109), (Il a110), a111]), (V.agg 4 [(Il a200), (Il a201), (Il a202), (Il a203)])] m Q :=
 wc_eq (n := 2) rfl (by kernel_rfl) (by kernel_rfl) h
theorem w40 {a100 : Int} {a101 : Int} {a102 : Int} {a103 : Int} {a104 : Int} {a105 : Int} {a106 : Int} {a107 : Int} {a108 : Int} {a109 : Int} {a110 : Int} {a111 : C} {m : M} {Q : V → M → Prop} (h :
 (∀ m0 : M, (m0 = (M.new m (AO.cells 12 [(Il a100), (Il a101), (Il a102), 
 (Il a103), (Il a104), (Il a105), (Il a106), 
 (Il a107), (Il a108), (Il a109), (Il a110), 
 a111] false))) → isPt (C.ptr m.nxt 0) ∧ ∃ x1, ((ldC m0 (C.ptr m.nxt 0)) = (some (Il x1))) ∧ 
 ifB (decide ((12 : Int) < x1)) (Q (V.c (C.bool true)) m0) (isPt (C.ptr m.nxt 0) ∧ ∃ x2, ((ldC m0 (C.ptr m.nxt 1)) = (some (Il x2))) ∧ 
 ifB (decide ((12 : Int) < x2)) (Q (V.c (C.bool true)) m0) (isPt (C.ptr m.nxt 0) ∧ ∃ c3 : C, ((ldC m0 (C.ptr m.nxt 11)) = (some c3)) ∧ 
 isSl c3 ∧ Q (V.c (C.bool (decide ((6 : Int) < (((slLen c3) : Nat) : Int))))) m0)))) : Wc prog tbl 40 [(V.agg 12 [(Il a100), (Il a101), (Il a102), (Il a103), (Il a104), (Il a105), (Il a106), (Il a107), (Il a108), (Il a109), (Il a110), a111])] m Q :=
 wc_eq (n := 1) rfl (by kernel_rfl) (by kernel_rfl) h
theorem w43 {a100 : Int} {a200 : Int} {a300 : Int} {m : M} {Q : V → M → Prop} (h :
 (ifB (decide (a200 ≤ a100)) (Q (V.c (C.bool (decide (a100 ≤ a300)))) m) (Q (V.c (C.bool false)) m))) : Wc prog tbl 43 [(V.c (Il a100)), (V.c (Il a200)), (V.c (Il a300))] m Q :=
 wc_eq (n := 3) rfl (by kernel_rfl) (by kernel_rfl) h
theorem w46 {a100 : Int} {a101 : Int} {a102 : Int} {a103 : Int} {a104 : Int} {a105 : Int} {a106 : Int} {a107 : Int} {a108 : Int} {a109 : Int} {a110 : Int} {a111 : C} {a200 : Int} {a201 : Int} {a202 : Int} {a203 : Int} {a300 : Int} {a301 : Int} {a302 : Int} {a303 : Int} {a304 : Bool} {a305 : Int} {a306 : Int} {m : M} {Q : V → M → Prop} (h :
 (∀ m0 : M, (m0 = (M.new m (AO.cells 12 [(Il a100), (Il a101), (Il a102), 
 (Il a103), (Il a104), (Il a105), (Il a106), 
 (Il a107), (Il a108), (Il a109), (Il a110), 
 a111] false))) → ∀ m1 : M, (m1 = (M.new m0 (AO.cells 4 [(Il a200), (Il a201), 
 (Il a202), (Il a203)] false))) → ∀ m2 : M, (m2 = (M.new m1 (AO.cells 7 [(Il a300), 
 (Il a301), (Il a302), (Il a303), (C.bool a304), (Il a305), 
 (Il a306)] false))) → isPt (C.ptr m1.nxt 0) ∧ isPt (C.ptr m1.nxt 0) ∧ ∃ x3, 
 ((ldC m2 (C.ptr m1.nxt 0)) = (some (Il x3))) ∧ ∀ R4 : List V → M → Prop, 
 (∀ b5 : Bool, ∀ b6 : Bool, ∀ x7 : Int, ∀ m8 : M, (isPt (C.ptr m1.nxt 0) ∧ isPt (C.ptr m1.nxt 0) ∧ 
 ∃ x9, ((ldC m8 (C.ptr m1.nxt 1)) = (some (Il x9))) ∧ ifB (decide (x7 ≤ x9)) (isPt (C.ptr m1.nxt 0) ∧ 
 isPt (C.ptr m1.nxt 2) ∧ ∃ x10, ((ldC m8 (C.ptr m1.nxt 2)) = (some (Il x10))) ∧ 
 ∀ R11 : List V → M → Prop, (∀ b12 : Bool, ∀ b13 : Bool, ∀ x14 : Int, ∀ m15 : M, 
 (isPt (C.ptr m1.nxt 0) ∧ isPt (C.ptr m1.nxt 2) ∧ ∃ x16, ((ldC m15 (C.ptr m1.nxt 3)) = (some (Il x16))) ∧ 
 ifB (decide (x14 ≤ x16)) (isPt (C.ptr m1.nxt 0) ∧ ∃ b17 : Bool, ((ldC m15 (C.ptr m1.nxt 4)) = (some (C.bool b17))) ∧ 
 ifB b17 (∃ x18, ∃ x19, ∃ x20, ∃ x21, ∃ x22, 
 ∃ x23, ∃ x24, ∃ x25, ∃ x26, ∃ x27, ∃ x28, 
 ∃ c29 : C, ((ldA m15 (C.ptr m.nxt 0) 12) = (some [(Il x18), 
 (Il x19), (Il x20), (Il x21), (Il x22), 
 (Il x23), (Il x24), (Il x25), (Il x26), 
 (Il x27), (Il x28), c29])) ∧ ∃ x30, ∃ x31, 
 ∃ x32, ∃ x33, ((ldA m15 (C.ptr m0.nxt 0) 4) = (some [(Il x30), 
 (Il x31), (Il x32), (Il x33)])) ∧ 
 Wc prog tbl 76 [(V.agg 12 [(Il x18), (Il x19), 
 (Il x20), (Il x21), (Il x22), (Il x23), 
 (Il x24), (Il x25), (Il x26), (Il x27), 
 (Il x28), c29]), (V.agg 4 [(Il x30), (Il x31), 
 (Il x32), (Il x33)]), (V.c (Il x7)), 
 (V.c (Il x14))] m15 (fun v34 m35 => ∃ b36 : Bool, (v34 = (V.c (C.bool b36))) ∧ 
 ifB b36 (∃ x37, ∃ x38, ∃ x39, ∃ x40, ∃ x41, 
 ∃ x42, ∃ x43, ∃ x44, ∃ x45, ∃ x46, ∃ x47, 
 ∃ c48 : C, ((ldA m35 (C.ptr m.nxt 0) 12) = (some [(Il x37), 
 (Il x38), (Il x39), (Il x40), (Il x41), 
 (Il x42), (Il x43), (Il x44), (Il x45), 
 (Il x46), (Il x47), c48])) ∧ ∃ x49, ∃ x50, 
 ∃ x51, ∃ x52, ((ldA m35 (C.ptr m0.nxt 0) 4) = (some [(Il x49), 
 (Il x50), (Il x51), (Il x52)])) ∧ 
 Wc prog tbl 77 [(V.agg 12 [(Il x37), (Il x38), 
 (Il x39), (Il x40), (Il x41), (Il x42), 
 (Il x43), (Il x44), (Il x45), (Il x46), 
 (Il x47), c48]), (V.agg 4 [(Il x49), (Il x50), 
 (Il x51), (Il x52)]), (V.c (Il x7)), 
 (V.c (Il x14))] m35 (fun v53 m54 => ∃ x55, (v53 = (V.c (Il x55))) ∧ 
 isPt (C.ptr m1.nxt 0) ∧ isPt (C.ptr m1.nxt 5) ∧ ∃ x56, ((ldC m54 (C.ptr m1.nxt 5)) = (some (Il x56))) ∧ 
 ((ldC m35 (C.ptr m1.nxt 5)) = (some (Il x56))) ∧ isPt (C.ptr m1.nxt 0) ∧ 
 isPt (C.ptr m1.nxt 5) ∧ ∃ x57, ((ldC m54 (C.ptr m1.nxt 6)) = (some (Il x57))) ∧ 
 ((ldC m35 (C.ptr m1.nxt 6)) = (some (Il x57))) ∧ Wc prog tbl 43 [(V.c (Il x55)), 
 (V.c (Il x56)), (V.c (Il x57))] m54 (fun v58 m59 => 
 ∃ b60 : Bool, (v58 = (V.c (C.bool b60))) ∧ ifB b60 (Q (V.c (C.bool true)) m59) (isPt (C.ptr m1.nxt 0) ∧ 
 ∃ b61 : Bool, ((ldC m59 (C.ptr m1.nxt 4)) = (some (C.bool b61))) ∧ 
 ifB (!b61) (∃ x62, ∃ x63, ∃ x64, ∃ x65, ∃ x66, 
 ∃ x67, ∃ x68, ∃ x69, ∃ x70, ∃ x71, ∃ x72, 
 ∃ c73 : C, ((ldA m59 (C.ptr m.nxt 0) 12) = (some [(Il x62), 
 (Il x63), (Il x64), (Il x65), (Il x66), 
 (Il x67), (Il x68), (Il x69), (Il x70), 
 (Il x71), (Il x72), c73])) ∧ ∃ x74, ∃ x75, 
 ∃ x76, ∃ x77, ((ldA m59 (C.ptr m0.nxt 0) 4) = (some [(Il x74), 
 (Il x75), (Il x76), (Il x77)])) ∧ 
 Wc prog tbl 76 [(V.agg 12 [(Il x62), (Il x63), 
 (Il x64), (Il x65), (Il x66), (Il x67), 
 (Il x68), (Il x69), (Il x70), (Il x71), 
 (Il x72), c73]), (V.agg 4 [(Il x74), (Il x75), 
 (Il x76), (Il x77)]), (V.c (Il x7)), 
 (V.c (Il x14))] m59 (fun v78 m79 => ∃ b80 : Bool, (v78 = (V.c (C.bool b80))) ∧ 
 ifB (!b80) (Q (V.c (C.bool true)) m79) (fitsP .i64 (x14 + 1) ∧ 
 R11 [(V.c (C.bool b12)), (V.c (C.bool b12)), (V.c (Il (x14 + 1)))] m79))) (fitsP .i64 (x14 + 1) ∧ 
 R11 [(V.c (C.bool b12)), (V.c (C.bool b12)), (V.c (Il (x14 + 1)))] m59))))) (isPt (C.ptr m1.nxt 0) ∧ 
 ∃ b81 : Bool, ((ldC m35 (C.ptr m1.nxt 4)) = (some (C.bool b81))) ∧ 
 ifB (!b81) (∃ x82, ∃ x83, ∃ x84, ∃ x85, ∃ x86, 
 ∃ x87, ∃ x88, ∃ x89, ∃ x90, ∃ x91, ∃ x92, 
 ∃ c93 : C, ((ldA m35 (C.ptr m.nxt 0) 12) = (some [(Il x82), 
 (Il x83), (Il x84), (Il x85), (Il x86), 
 (Il x87), (Il x88), (Il x89), (Il x90), 
 (Il x91), (Il x92), c93])) ∧ ∃ x94, ∃ x95, 
 ∃ x96, ∃ x97, ((ldA m35 (C.ptr m0.nxt 0) 4) = (some [(Il x94), 
 (Il x95), (Il x96), (Il x97)])) ∧ 
 Wc prog tbl 76 [(V.agg 12 [(Il x82), (Il x83), 
 (Il x84), (Il x85), (Il x86), (Il x87), 
 (Il x88), (Il x89), (Il x90), (Il x91), 
 (Il x92), c93]), (V.agg 4 [(Il x94), (Il x95), 
 (Il x96), (Il x97)]), (V.c (Il x7)), 
 (V.c (Il x14))] m35 (fun v98 m99 => ∃ b100 : Bool, (v98 = (V.c (C.bool b100))) ∧ 
 ifB (!b100) (Q (V.c (C.bool true)) m99) (fitsP .i64 (x14 + 1) ∧ 
 R11 [(V.c (C.bool b12)), (V.c (C.bool b12)), (V.c (Il (x14 + 1)))] m99))) (fitsP .i64 (x14 + 1) ∧ 
 R11 [(V.c (C.bool b12)), (V.c (C.bool b12)), (V.c (Il (x14 + 1)))] m35)))) (isPt (C.ptr m1.nxt 0) ∧ 
 ∃ b101 : Bool, ((ldC m15 (C.ptr m1.nxt 4)) = (some (C.bool b101))) ∧ 
 ifB (!b101) (∃ x102, ∃ x103, ∃ x104, ∃ x105, ∃ x106, 
 ∃ x107, ∃ x108, ∃ x109, ∃ x110, ∃ x111, ∃ x112, 
 ∃ c113 : C, ((ldA m15 (C.ptr m.nxt 0) 12) = (some [(Il x102), 
 (Il x103), (Il x104), (Il x105), 
 (Il x106), (Il x107), (Il x108), 
 (Il x109), (Il x110), (Il x111), 
 (Il x112), c113])) ∧ ∃ x114, ∃ x115, ∃ x116, 
 ∃ x117, ((ldA m15 (C.ptr m0.nxt 0) 4) = (some [(Il x114), 
 (Il x115), (Il x116), (Il x117)])) ∧ 
 Wc prog tbl 76 [(V.agg 12 [(Il x102), (Il x103), 
 (Il x104), (Il x105), (Il x106), 
 (Il x107), (Il x108), (Il x109), 
 (Il x110), (Il x111), (Il x112), 
 c113]), (V.agg 4 [(Il x114), (Il x115), (Il x116), 
 (Il x117)]), (V.c (Il x7)), (V.c (Il x14))] m15 (fun v118 m119 => 
 ∃ b120 : Bool, (v118 = (V.c (C.bool b120))) ∧ ifB (!b120) (Q (V.c (C.bool true)) m119) (fitsP .i64 (x14 + 1) ∧ 
 R11 [(V.c (C.bool b12)), (V.c (C.bool b12)), (V.c (Il (x14 + 1)))] m119))) (fitsP .i64 (x14 + 1) ∧ 
 R11 [(V.c (C.bool b12)), (V.c (C.bool b12)), (V.c (Il (x14 + 1)))] m15))) (fitsP .i64 (x7 + 1) ∧ 
 R4 [(V.c (C.bool b12)), (V.c (C.bool b12)), (V.c (Il (x7 + 1)))] m15)) → 
 R11 [(V.c (C.bool b12)), (V.c (C.bool b13)), (V.c (Il x14))] m15) → 
 R11 [(V.c (C.bool b5)), (V.c (C.bool b5)), (V.c (Il x10))] m8) (Q (V.c (C.bool false)) m8)) → 
 R4 [(V.c (C.bool b5)), (V.c (C.bool b6)), (V.c (Il x7))] m8) → R4 [(V.c (C.bool false)), 
 (V.c (C.bool false)), (V.c (Il x3))] m2)) : Wc prog tbl 46 [(V.agg 12 [(Il a100), (Il a101), (Il a102), (Il a103), (Il a104), (Il a105), (Il a106), (Il a107), (Il a108), (Il a109), (Il a110), a111]), (V.agg 4 [(Il a200), (Il a201), (Il a202), (Il a203)]), (V.agg 7 [(Il a300), (Il a301), (Il a302), (Il a303), (C.bool a304), (Il a305), (Il a306)])] m Q :=
 wc_eq (n := 3) rfl (by kernel_rfl) (by kernel_rfl) h
theorem w49 {a100 : Int} {a101 : Int} {a200 : Int} {m : M} {Q : V → M → Prop} (h :
 (∀ m0 : M, (m0 = (M.new m (AO.cells 2 [(Il a100), (Il a101)] false))) → ∀ m1 : M, 
 (m1 = (M.new m0 (AO.cells 2 [(Il 0), (Il 0)] false))) → isPt (C.ptr m.nxt 0) ∧ 
 ∃ x2, ((ldC m1 (C.ptr m.nxt 0)) = (some (Il x2))) ∧ isPt (C.ptr m.nxt 0) ∧ 
 ∃ x3, ((ldC m1 (C.ptr m.nxt 1)) = (some (Il x3))) ∧ ∃ m4 : M, ((stC m1 (C.ptr m0.nxt 0) 2 [(Il (Min.min x2 a200)), 
 (Il (Max.max x3 a200))]) = (some m4)) ∧ ∃ x5, ∃ x6, ((ldA m4 (C.ptr m0.nxt 0) 2) = (some [(Il x5), 
 (Il x6)])) ∧ Q (V.agg 2 [(Il x5), (Il x6)]) m4)) : Wc prog tbl 49 [(V.agg 2 [(Il a100), (Il a101)]), (V.c (Il a200))] m Q :=
 wc_eq (n := 2) rfl (by kernel_rfl) (by kernel_rfl) h
theorem w54 {a100 : Int} {a101 : Int} {a102 : Int} {a103 : Int} {a104 : Int} {a105 : Int} {a106 : Int} {a107 : Int} {a108 : Int} {a109 : Int} {a110 : Int} {a111 : C} {m : M} {Q : V → M → Prop} (h :
 (∀ m0 : M, (m0 = (M.new m (AO.cells 12 [(Il a100), (Il a101), (Il a102), 
 (Il a103), (Il a104), (Il a105), (Il a106), 
 (Il a107), (Il a108), (Il a109), (Il a110), 
 a111] false))) → ∀ m1 : M, (m1 = (M.new m0 (AO.cells 13 [(Il 0), (Il 0), 
 (Il 0), (Il 0), (Il 0), (Il 0), 
 (Il 0), (Il 0), (Il 0), (Il 0), 
 (Il 0), C.sl0, C.map0] false))) → ∃ x2, ∃ x3, ∃ x4, ∃ x5, 
 ∃ x6, ∃ x7, ∃ x8, ∃ x9, ∃ x10, ∃ x11, ∃ x12, ∃ c13 : C, 
 ((ldA m1 (C.ptr m.nxt 0) 12) = (some [(Il x2), (Il x3), 
 (Il x4), (Il x5), (Il x6), (Il x7), 
 (Il x8), (Il x9), (Il x10), (Il x11), 
 (Il x12), c13])) ∧ ∀ m14 : M, (m14 = (M.new m1 (AO.map [] 0))) → ∀ m15 : M, 
 (m15 = (M.new m14 (AO.cells 13 [(Il 0), (Il 0), 
 (Il 0), (Il 0), (Il 0), 
 (Il 0), (Il 0), (Il 0), 
 (Il 0), (Il 0), (Il 0), 
 C.sl0, C.map0] false))) → ∃ m16 : M, ((stC m15 (C.ptr m14.nxt 0) 13 [(Il x2), 
 (Il x3), (Il x4), (Il x5), (Il x6), 
 (Il x7), (Il x8), (Il x9), (Il x10), 
 (Il x11), (Il x12), c13, (C.map m1.nxt)]) = (some m16)) ∧ 
 isPt (C.ptr m14.nxt 0) ∧ ∃ x17, ∃ x18, ∃ x19, ∃ x20, 
 ∃ x21, ∃ x22, ∃ x23, ∃ x24, ∃ x25, ∃ x26, 
 ∃ x27, ∃ c28 : C, ((ldA m16 (C.ptr m14.nxt 0) 12) = (some [(Il x17), 
 (Il x18), (Il x19), (Il x20), (Il x21), 
 (Il x22), (Il x23), (Il x24), (Il x25), 
 (Il x26), (Il x27), c28])) ∧ Wc prog tbl 84 [(V.agg 12 [(Il x17), 
 (Il x18), (Il x19), (Il x20), (Il x21), 
 (Il x22), (Il x23), (Il x24), (Il x25), 
 (Il x26), (Il x27), c28])] m16 (fun v29 m30 => 
 ∃ c31 : C, (v29 = (V.c c31)) ∧ rangeP prog tbl c31 m30 (fun l32 m33 R34 R35 => 
 ∃ x36, ∃ x37, ∃ x38, ∃ x39, (l32 = [(V.agg 4 [(Il x36), 
 (Il x37), (Il x38), (Il x39)])]) ∧ 
 ∀ m40 : M, (m40 = (M.new m33 (AO.cells 4 [(Il 0), (Il 0), 
 (Il 0), (Il 0)] false))) → ∃ m41 : M, 
 ((stC m40 (C.ptr m33.nxt 0) 4 [(Il x36), (Il x37), 
 (Il x38), (Il x39)]) = (some m41)) ∧ R34 m41 (fun m42 => 
 isPt (C.ptr m14.nxt 0) ∧ ∃ c43 : C, ((ldC m42 (C.ptr m14.nxt 12)) = (some c43)) ∧ 
 ∃ x44, ∃ x45, ∃ x46, ∃ x47, ((ldA m42 (C.ptr m33.nxt 0) 4) = (some [(Il x44), 
 (Il x45), (Il x46), (Il x47)])) ∧ 
 ∃ x48, ∃ x49, ∃ x50, ∃ x51, ∃ x52, ∃ x53, 
 ∃ x54, ∃ x55, ∃ x56, ∃ x57, ∃ x58, ∃ c59 : C, 
 ∃ c60 : C, ((ldA m42 (C.ptr m14.nxt 0) 13) = (some [(Il x48), 
 (Il x49), (Il x50), (Il x51), (Il x52), 
 (Il x53), (Il x54), (Il x55), (Il x56), 
 (Il x57), (Il x58), c59, c60])) ∧ ∃ x61, 
 ∃ x62, ∃ x63, ∃ x64, ((ldA m42 (C.ptr m33.nxt 0) 4) = (some [(Il x61), 
 (Il x62), (Il x63), (Il x64)])) ∧ 
 Wc prog tbl 38 [(V.agg 13 [(Il x48), (Il x49), 
 (Il x50), (Il x51), (Il x52), (Il x53), 
 (Il x54), (Il x55), (Il x56), (Il x57), 
 (Il x58), c59, c60]), (V.agg 4 [(Il x61), (Il x62), 
 (Il x63), (Il x64)])] m42 (fun v65 m66 => ∃ b67 : Bool, 
 ∃ b68 : Bool, ∃ b69 : Bool, ∃ b70 : Bool, ∃ b71 : Bool, ∃ b72 : Bool, (v65 = (V.agg 6 [(C.bool b67), 
 (C.bool b68), (C.bool b69), (C.bool b70), (C.bool b71), (C.bool b72)])) ∧ ((ldA m66 (C.ptr m33.nxt 0) 4) = (some [(Il x44), 
 (Il x45), (Il x46), (Il x47)])) ∧ 
 (ifB (cmC c43) ((ldC m66 (C.ptr m14.nxt 12)) = (some c43)) False) ∧ 
 ∃ m73 : M, ((upM prog 40 m66 c43 (V.agg 4 [(Il x44), (Il x45), 
 (Il x46), (Il x47)]) (V.agg 6 [(C.bool b67), (C.bool b68), 
 (C.bool b69), (C.bool b70), (C.bool b71), (C.bool b72)])) = (some m73)) ∧ 
 R35 Ex.nrm m73))) (After.mk (fun m74 => 
 ∃ x75, ∃ x76, ∃ x77, ∃ x78, ∃ x79, ∃ x80, 
 ∃ x81, ∃ x82, ∃ x83, ∃ x84, ∃ x85, ∃ c86 : C, 
 ∃ c87 : C, ((ldA m74 (C.ptr m14.nxt 0) 13) = (some [(Il x75), 
 (Il x76), (Il x77), (Il x78), (Il x79), 
 (Il x80), (Il x81), (Il x82), (Il x83), 
 (Il x84), (Il x85), c86, c87])) ∧ ∃ m88 : M, ((stC m74 (C.ptr m0.nxt 0) 13 [(Il x75), 
 (Il x76), (Il x77), (Il x78), (Il x79), 
 (Il x80), (Il x81), (Il x82), (Il x83), 
 (Il x84), (Il x85), c86, c87]) = (some m88)) ∧ 
 ∃ x89, ∃ x90, ∃ x91, ∃ x92, ∃ x93, ∃ x94, 
 ∃ x95, ∃ x96, ∃ x97, ∃ x98, ∃ x99, ∃ c100 : C, 
 ∃ c101 : C, ((ldA m88 (C.ptr m0.nxt 0) 13) = (some [(Il x89), 
 (Il x90), (Il x91), (Il x92), (Il x93), 
 (Il x94), (Il x95), (Il x96), (Il x97), 
 (Il x98), (Il x99), c100, c101])) ∧ Q (V.agg 13 [(Il x89), 
 (Il x90), (Il x91), (Il x92), (Il x93), 
 (Il x94), (Il x95), (Il x96), (Il x97), 
 (Il x98), (Il x99), c100, c101]) m88) [] (fun m102 => 
 ∃ x103, ∃ x104, ∃ x105, ∃ x106, ∃ x107, ∃ x108, 
 ∃ x109, ∃ x110, ∃ x111, ∃ x112, ∃ x113, ∃ c114 : C, 
 ∃ c115 : C, ((ldA m102 (C.ptr m0.nxt 0) 13) = (some [(Il x103), 
 (Il x104), (Il x105), (Il x106), 
 (Il x107), (Il x108), (Il x109), 
 (Il x110), (Il x111), (Il x112), 
 (Il x113), c114, c115])) ∧ Q (V.agg 13 [(Il x103), 
 (Il x104), (Il x105), (Il x106), 
 (Il x107), (Il x108), (Il x109), 
 (Il x110), (Il x111), (Il x112), 
 (Il x113), c114, c115]) m102))))) : Wc prog tbl 54 [(V.agg 12 [(Il a100), (Il a101), (Il a102), (Il a103), (Il a104), (Il a105), (Il a106), (Il a107), (Il a108), (Il a109), (Il a110), a111])] m Q :=
 wc_eq (n := 1) rfl (by kernel_rfl) (by kernel_rfl) h
theorem w59 {a100 : Int} {a101 : Int} {a102 : Int} {a103 : Int} {a104 : Int} {a105 : Int} {a106 : Int} {a107 : Int} {a108 : Int} {a109 : Int} {a110 : Int} {a111 : C} {a112 : C} {m : M} {Q : V → M → Prop} (h :
 (∀ m0 : M, (m0 = (M.new m (AO.cells 13 [(Il a100), (Il a101), (Il a102), 
 (Il a103), (Il a104), (Il a105), (Il a106), 
 (Il a107), (Il a108), (Il a109), (Il a110), 
 a111, a112] false))) → ∃ x1, ∃ x2, ∃ x3, ∃ x4, ∃ x5, ∃ x6, 
 ∃ x7, ∃ x8, ∃ x9, ∃ x10, ∃ x11, ∃ c12 : C, ∃ c13 : C, ((ldA m0 (C.ptr m.nxt 0) 13) = (some [(Il x1), 
 (Il x2), (Il x3), (Il x4), (Il x5), 
 (Il x6), (Il x7), (Il x8), (Il x9), 
 (Il x10), (Il x11), c12, c13])) ∧ ∃ x14, ∃ x15, 
 ∃ x16, ∃ x17, ∃ x18, ∃ x19, ∃ x20, ∃ x21, ∃ x22, 
 ∃ x23, ∃ x24, ∃ c25 : C, ∃ c26 : C, ((ldA m0 (C.ptr m.nxt 0) 13) = (some [(Il x14), 
 (Il x15), (Il x16), (Il x17), (Il x18), 
 (Il x19), (Il x20), (Il x21), (Il x22), 
 (Il x23), (Il x24), c25, c26])) ∧ Wc prog tbl 39 [(V.agg 13 [(Il x14), 
 (Il x15), (Il x16), (Il x17), (Il x18), 
 (Il x19), (Il x20), (Il x21), (Il x22), 
 (Il x23), (Il x24), c25, c26])] m0 (fun v27 m28 => 
 ∃ b29 : Bool, ∃ b30 : Bool, ∃ b31 : Bool, ∃ b32 : Bool, ∃ b33 : Bool, ∃ b34 : Bool, 
 (v27 = (V.agg 6 [(C.bool b29), (C.bool b30), (C.bool b31), (C.bool b32), (C.bool b33), 
 (C.bool b34)])) ∧ (ifB (allS cmC [(Il x1), (Il x2), 
 (Il x3), (Il x4), (Il x5), (Il x6), 
 (Il x7), (Il x8), (Il x9), (Il x10), 
 (Il x11), c12, c13]) ((ldA m28 (C.ptr m.nxt 0) 13) = (some [(Il x1), 
 (Il x2), (Il x3), (Il x4), (Il x5), 
 (Il x6), (Il x7), (Il x8), (Il x9), 
 (Il x10), (Il x11), c12, c13])) False) ∧ Wc prog tbl 55 [(V.agg 13 [(Il x1), 
 (Il x2), (Il x3), (Il x4), (Il x5), 
 (Il x6), (Il x7), (Il x8), (Il x9), 
 (Il x10), (Il x11), c12, c13]), (V.agg 6 [(C.bool b29), 
 (C.bool b30), (C.bool b31), (C.bool b32), (C.bool b33), (C.bool b34)])] m28 (fun v35 m36 => 
 ∃ b37 : Bool, (v35 = (V.c (C.bool b37))) ∧ Q (V.c (C.bool b37)) m36)))) : Wc prog tbl 59 [(V.agg 13 [(Il a100), (Il a101), (Il a102), (Il a103), (Il a104), (Il a105), (Il a106), (Il a107), (Il a108), (Il a109), (Il a110), a111, a112])] m Q :=
 wc_eq (n := 1) rfl (by kernel_rfl) (by kernel_rfl) h
theorem w64 {a100 : C} {a200 : C} {m : M} {Q : V → M → Prop} (h :
 (∀ m0 : M, (m0 = (M.new m (AO.cells 1 [a200] false))) → Wc prog tbl 90 [(V.c a100), (V.c (C.fn (Fn.func 91) [] [(W.c (C0.ptr m.nxt 0))]))] m0 (fun v1 m2 => 
 ∃ b3 : Bool, (v1 = (V.c (C.bool b3))) ∧ Q (V.c (C.bool (!b3))) m2))) : Wc prog tbl 64 [(V.c a100), (V.c a200)] m Q :=
 wc_eq (n := 2) rfl (by kernel_rfl) (by kernel_rfl) h
theorem w67 {a100 : C} {m : M} {Q : V → M → Prop} (h :
 (isSl a100 ∧ ifB (decide ((((slLen a100) : Nat) : Int) = (0 : Int))) (Q (V.c (Il 0)) m) (∃ n0 : Nat, 
 ((0 : Int) = ((n0 : Nat) : Int)) ∧ (n0 < (slLen a100)) ∧ ∃ x1, ((ldC m (slAt a100 (n0 * 1))) = (some (Il x1))) ∧ 
 isSl a100 ∧ ∀ R2 : List V → M → Prop, (∀ x3 : Int, ∀ x4 : Int, ∀ m5 : M, (ifB (decide (x4 < (((slLen a100) : Nat) : Int))) (∃ n6 : Nat, 
 (x4 = ((n6 : Nat) : Int)) ∧ (n6 < (slLen a100)) ∧ ∃ x7, ((ldC m5 (slAt a100 (n6 * 1))) = (some (Il x7))) ∧ 
 ifB (decide (x7 < x3)) (fitsP .i64 (x4 + 1) ∧ R2 [(V.c (Il x7)), 
 (V.c (Il (x4 + 1)))] m5) (fitsP .i64 (x4 + 1) ∧ 
 R2 [(V.c (Il x3)), (V.c (Il (x4 + 1)))] m5)) (Q (V.c (Il x3)) m5)) → 
 R2 [(V.c (Il x3)), (V.c (Il x4))] m5) → R2 [(V.c (Il x1)), 
 (V.c (Il 0))] m))) : Wc prog tbl 67 [(V.c a100)] m Q :=
 wc_eq (n := 1) rfl (by kernel_rfl) (by kernel_rfl) h
theorem w70 {a100 : Int} {a101 : Int} {a102 : Int} {a103 : Int} {a104 : Int} {a105 : Int} {a106 : Int} {a107 : Int} {a108 : Int} {a109 : Int} {a110 : Int} {a111 : C} {a200 : Int} {a201 : Int} {a202 : Int} {a203 : Int} {a204 : Bool} {a205 : Int} {a206 : Int} {a300 : Int} {a301 : Int} {a302 : Int} {a303 : Int} {m : M} {Q : V → M → Prop} (h :
 (∀ m0 : M, (m0 = (M.new m (AO.cells 12 [(Il a100), (Il a101), (Il a102), 
 (Il a103), (Il a104), (Il a105), (Il a106), 
 (Il a107), (Il a108), (Il a109), (Il a110), 
 a111] false))) → ∀ m1 : M, (m1 = (M.new m0 (AO.cells 7 [(Il a200), (Il a201), 
 (Il a202), (Il a203), (C.bool a204), (Il a205), (Il a206)] false))) → 
 ∀ m2 : M, (m2 = (M.new m1 (AO.cells 4 [(Il a300), (Il a301), (Il a302), 
 (Il a303)] false))) → ∀ m3 : M, (m3 = (M.new m2 (AO.cells 1 [(C.bool false)] false))) → 
 ∃ x4, ∃ x5, ∃ x6, ∃ x7, ∃ b8 : Bool, ∃ x9, ∃ x10, ((ldA m3 (C.ptr m0.nxt 0) 7) = (some [(Il x4), 
 (Il x5), (Il x6), (Il x7), (C.bool b8), (Il x9), 
 (Il x10)])) ∧ Wc prog tbl 93 [(V.agg 7 [(Il x4), (Il x5), 
 (Il x6), (Il x7), (C.bool b8), (Il x9), (Il x10)])] m3 (fun v11 m12 => 
 ∃ x13, ∃ x14, ∃ x15, ∃ x16, (v11 = (V.agg 4 [(Il x13), 
 (Il x14), (Il x15), (Il x16)])) ∧ Wc prog tbl 63 [(V.agg 4 [(Il x13), 
 (Il x14), (Il x15), (Il x16)])] m12 (fun v17 m18 => 
 ∃ c19 : C, (v17 = (V.c c19)) ∧ rangeP prog tbl c19 m18 (fun l20 m21 R22 R23 => 
 ∃ x24, ∃ x25, (l20 = [(V.c (Il x24)), (V.c (Il x25))]) ∧ 
 R22 m21 (fun m26 => ∃ x27, ∃ x28, ∃ x29, ∃ x30, 
 ∃ x31, ∃ x32, ∃ x33, ∃ x34, ∃ x35, ∃ x36, 
 ∃ x37, ∃ c38 : C, ((ldA m26 (C.ptr m.nxt 0) 12) = (some [(Il x27), 
 (Il x28), (Il x29), (Il x30), (Il x31), 
 (Il x32), (Il x33), (Il x34), (Il x35), 
 (Il x36), (Il x37), c38])) ∧ ∃ x39, ∃ x40, 
 ∃ x41, ∃ x42, ((ldA m26 (C.ptr m1.nxt 0) 4) = (some [(Il x39), 
 (Il x40), (Il x41), (Il x42)])) ∧ 
 Wc prog tbl 82 [(V.agg 12 [(Il x27), (Il x28), 
 (Il x29), (Il x30), (Il x31), (Il x32), 
 (Il x33), (Il x34), (Il x35), (Il x36), 
 (Il x37), c38]), (V.agg 4 [(Il x39), (Il x40), 
 (Il x41), (Il x42)]), (V.c (Il x24)), 
 (V.c (Il x25))] m26 (fun v43 m44 => ∃ b45 : Bool, (v43 = (V.c (C.bool b45))) ∧ 
 isPt (C.ptr m0.nxt 0) ∧ ∃ b46 : Bool, ((ldC m44 (C.ptr m0.nxt 4)) = (some (C.bool b46))) ∧ 
 ((ldC m26 (C.ptr m0.nxt 4)) = (some (C.bool b46))) ∧ ifB (b45 == b46) (isPt (C.ptr m0.nxt 0) ∧ 
 ∃ x47, ∃ x48, ((ldA m44 (C.ptr m0.nxt 5) 2) = (some [(Il x47), 
 (Il x48)])) ∧ ∃ x49, ∃ x50, ∃ x51, ∃ x52, 
 ∃ x53, ∃ x54, ∃ x55, ∃ x56, ∃ x57, ∃ x58, 
 ∃ x59, ∃ c60 : C, ((ldA m44 (C.ptr m.nxt 0) 12) = (some [(Il x49), 
 (Il x50), (Il x51), (Il x52), (Il x53), 
 (Il x54), (Il x55), (Il x56), (Il x57), 
 (Il x58), (Il x59), c60])) ∧ ∃ x61, ∃ x62, 
 ∃ x63, ∃ x64, ((ldA m44 (C.ptr m1.nxt 0) 4) = (some [(Il x61), 
 (Il x62), (Il x63), (Il x64)])) ∧ 
 Wc prog tbl 53 [(V.agg 12 [(Il x49), (Il x50), 
 (Il x51), (Il x52), (Il x53), (Il x54), 
 (Il x55), (Il x56), (Il x57), (Il x58), 
 (Il x59), c60]), (V.agg 4 [(Il x61), (Il x62), 
 (Il x63), (Il x64)]), (V.c (Il x24)), 
 (V.c (Il x25))] m44 (fun v65 m66 => ∃ x67, (v65 = (V.c (Il x67))) ∧ 
 ((ldA m66 (C.ptr m0.nxt 5) 2) = (some [(Il x47), (Il x48)])) ∧ 
 Wc prog tbl 69 [(V.agg 2 [(Il x47), (Il x48)]), 
 (V.c (Il x67))] m66 (fun v68 m69 => ∃ b70 : Bool, (v68 = (V.c (C.bool b70))) ∧ 
 ifB b70 (∃ m71 : M, ((stC m69 (C.ptr m2.nxt 0) 1 [(C.bool true)]) = (some m71)) ∧ 
 R23 Ex.ret m71) (R23 Ex.nrm m69)))) (R23 Ex.nrm m44)))) (After.mk (fun m72 => 
 ∃ m73 : M, ((stC m72 (C.ptr m2.nxt 0) 1 [(C.bool false)]) = (some m73)) ∧ 
 ∃ b74 : Bool, ((ldC m73 (C.ptr m2.nxt 0)) = (some (C.bool b74))) ∧ 
 Q (V.c (C.bool b74)) m73) [] (fun m75 => ∃ b76 : Bool, ((ldC m75 (C.ptr m2.nxt 0)) = (some (C.bool b76))) ∧ 
 Q (V.c (C.bool b76)) m75)))))) : Wc prog tbl 70 [(V.agg 12 [(Il a100), (Il a101), (Il a102), (Il a103), (Il a104), (Il a105), (Il a106), (Il a107), (Il a108), (Il a109), (Il a110), a111]), (V.agg 7 [(Il a200), (Il a201), (Il a202), (Il a203), (C.bool a204), (Il a205), (Il a206)]), (V.agg 4 [(Il a300), (Il a301), (Il a302), (Il a303)])] m Q :=
 wc_eq (n := 3) rfl (by kernel_rfl) (by kernel_rfl) h
theorem w73 {a100 : Int} {a101 : Int} {a102 : Int} {a103 : Int} {a104 : Int} {a105 : Int} {a106 : Int} {a107 : Int} {a108 : Int} {a109 : Int} {a110 : Int} {a111 : C} {a112 : C} {a200 : Int} {a201 : Int} {a202 : Int} {a203 : Int} {a204 : Bool} {a205 : Int} {a206 : Int} {m : M} {Q : V → M → Prop} (h :
 (∀ m0 : M, (m0 = (M.new m (AO.cells 13 [(Il a100), (Il a101), (Il a102), 
 (Il a103), (Il a104), (Il a105), (Il a106), 
 (Il a107), (Il a108), (Il a109), (Il a110), 
 a111, a112] false))) → ∀ m1 : M, (m1 = (M.new m0 (AO.cells 7 [(Il a200), (Il a201), 
 (Il a202), (Il a203), (C.bool a204), (Il a205), (Il a206)] false))) → 
 isPt (C.ptr m.nxt 0) ∧ ∃ x2, ∃ x3, ∃ x4, ∃ x5, ∃ x6, ∃ x7, 
 ∃ x8, ∃ x9, ∃ x10, ∃ x11, ∃ x12, ∃ c13 : C, ((ldA m1 (C.ptr m.nxt 0) 12) = (some [(Il x2), 
 (Il x3), (Il x4), (Il x5), (Il x6), 
 (Il x7), (Il x8), (Il x9), (Il x10), 
 (Il x11), (Il x12), c13])) ∧ ∃ x14, ∃ x15, 
 ∃ x16, ∃ x17, ∃ b18 : Bool, ∃ x19, ∃ x20, ((ldA m1 (C.ptr m0.nxt 0) 7) = (some [(Il x14), 
 (Il x15), (Il x16), (Il x17), (C.bool b18), 
 (Il x19), (Il x20)])) ∧ Wc prog tbl 93 [(V.agg 7 [(Il x14), 
 (Il x15), (Il x16), (Il x17), (C.bool b18), 
 (Il x19), (Il x20)])] m1 (fun v21 m22 => ∃ x23, 
 ∃ x24, ∃ x25, ∃ x26, (v21 = (V.agg 4 [(Il x23), 
 (Il x24), (Il x25), (Il x26)])) ∧ 
 (ifB (allS cmC [(Il x2), (Il x3), (Il x4), 
 (Il x5), (Il x6), (Il x7), (Il x8), 
 (Il x9), (Il x10), (Il x11), (Il x12), 
 c13]) ((ldA m22 (C.ptr m.nxt 0) 12) = (some [(Il x2), 
 (Il x3), (Il x4), (Il x5), (Il x6), 
 (Il x7), (Il x8), (Il x9), (Il x10), 
 (Il x11), (Il x12), c13])) False) ∧ Wc prog tbl 65 [(V.agg 12 [(Il x2), 
 (Il x3), (Il x4), (Il x5), (Il x6), 
 (Il x7), (Il x8), (Il x9), (Il x10), 
 (Il x11), (Il x12), c13]), (V.agg 4 [(Il x23), 
 (Il x24), (Il x25), (Il x26)])] m22 (fun v27 m28 => 
 ∃ b29 : Bool, (v27 = (V.c (C.bool b29))) ∧ ifB (!b29) (Q (V.c (C.bool false)) m28) (isPt (C.ptr m0.nxt 0) ∧ 
 ∃ x30, ∃ x31, ((ldA m28 (C.ptr m0.nxt 5) 2) = (some [(Il x30), 
 (Il x31)])) ∧ Wc prog tbl 71 [(V.agg 2 [(Il x30), 
 (Il x31)]), (V.c (Il 0)), (V.c (Il (9 : Int)))] m28 (fun v32 m33 => 
 ∃ b34 : Bool, (v32 = (V.c (C.bool b34))) ∧ ifB (!b34) (Q (V.c (C.bool false)) m33) (isPt (C.ptr m0.nxt 0) ∧ 
 ∃ b35 : Bool, ((ldC m33 (C.ptr m0.nxt 4)) = (some (C.bool b35))) ∧ 
 ifB b35 (Q (V.c (C.bool true)) m33) (isPt (C.ptr m0.nxt 0) ∧ ∃ x36, 
 ∃ x37, ((ldA m33 (C.ptr m0.nxt 5) 2) = (some [(Il x36), 
 (Il x37)])) ∧ fitsP .i64 x36 ∧ fitsP .i64 (0 : Int) ∧ 
 fitsP .i64 x37 ∧ fitsP .i64 (0 : Int) ∧ Q (V.c (C.bool ((decide (x36 = 0)) && (decide (x37 = 0))))) m33)))))))) : Wc prog tbl 73 [(V.agg 13 [(Il a100), (Il a101), (Il a102), (Il a103), (Il a104), (Il a105), (Il a106), (Il a107), (Il a108), (Il a109), (Il a110), a111, a112]), (V.agg 7 [(Il a200), (Il a201), (Il a202), (Il a203), (C.bool a204), (Il a205), (Il a206)])] m Q :=
 wc_eq (n := 2) rfl (by kernel_rfl) (by kernel_rfl) h
theorem w77 {a100 : Int} {a101 : Int} {a102 : Int} {a103 : Int} {a104 : Int} {a105 : Int} {a106 : Int} {a107 : Int} {a108 : Int} {a109 : Int} {a110 : Int} {a111 : C} {a200 : Int} {a201 : Int} {a202 : Int} {a203 : Int} {a300 : Int} {a400 : Int} {m : M} {Q : V → M → Prop} (h :
 (∀ m0 : M, (m0 = (M.new m (AO.cells 12 [(Il a100), (Il a101), (Il a102), 
 (Il a103), (Il a104), (Il a105), (Il a106), 
 (Il a107), (Il a108), (Il a109), (Il a110), 
 a111] false))) → ∀ m1 : M, (m1 = (M.new m0 (AO.cells 4 [(Il a200), (Il a201), 
 (Il a202), (Il a203)] false))) → ∃ x2, ∃ x3, ∃ x4, 
 ∃ x5, ∃ x6, ∃ x7, ∃ x8, ∃ x9, ∃ x10, ∃ x11, ∃ x12, 
 ∃ c13 : C, ((ldA m1 (C.ptr m.nxt 0) 12) = (some [(Il x2), (Il x3), 
 (Il x4), (Il x5), (Il x6), (Il x7), 
 (Il x8), (Il x9), (Il x10), (Il x11), 
 (Il x12), c13])) ∧ ∃ x14, ∃ x15, ∃ x16, ∃ x17, 
 ((ldA m1 (C.ptr m0.nxt 0) 4) = (some [(Il x14), (Il x15), 
 (Il x16), (Il x17)])) ∧ Wc prog tbl 76 [(V.agg 12 [(Il x2), 
 (Il x3), (Il x4), (Il x5), (Il x6), 
 (Il x7), (Il x8), (Il x9), (Il x10), 
 (Il x11), (Il x12), c13]), (V.agg 4 [(Il x14), 
 (Il x15), (Il x16), (Il x17)]), (V.c (Il a300)), 
 (V.c (Il a400))] m1 (fun v18 m19 => ∃ b20 : Bool, (v18 = (V.c (C.bool b20))) ∧ 
 ifB (!b20) (Q (V.c (Il 0)) m19) (isPt (C.ptr m0.nxt 0) ∧ 
 ∃ x21, ((ldC m19 (C.ptr m0.nxt 3)) = (some (Il x21))) ∧ 
 isPt (C.ptr m.nxt 0) ∧ ∃ x22, ((ldC m19 (C.ptr m.nxt 2)) = (some (Il x22))) ∧ 
 ∃ x23, ∃ x24, ∃ x25, ∃ x26, ∃ x27, ∃ x28, 
 ∃ x29, ∃ x30, ∃ x31, ∃ x32, ∃ x33, ∃ c34 : C, 
 ((ldA m19 (C.ptr m.nxt 0) 12) = (some [(Il x23), (Il x24), 
 (Il x25), (Il x26), (Il x27), (Il x28), 
 (Il x29), (Il x30), (Il x31), (Il x32), 
 (Il x33), c34])) ∧ ∃ x35, ∃ x36, ∃ x37, ∃ x38, 
 ((ldA m19 (C.ptr m0.nxt 0) 4) = (some [(Il x35), (Il x36), 
 (Il x37), (Il x38)])) ∧ Wc prog tbl 96 [(V.agg 12 [(Il x23), 
 (Il x24), (Il x25), (Il x26), (Il x27), 
 (Il x28), (Il x29), (Il x30), (Il x31), 
 (Il x32), (Il x33), c34]), (V.agg 4 [(Il x35), 
 (Il x36), (Il x37), (Il x38)]), 
 (V.c (Il a300)), (V.c (Il a400))] m19 (fun v39 m40 => 
 ∃ x41, (v39 = (V.c (Il x41))) ∧ ((ldC m40 (C.ptr m.nxt 2)) = (some (Il x22))) ∧ 
 ((ldC m40 (C.ptr m0.nxt 3)) = (some (Il x21))) ∧ isPt (C.ptr m.nxt 0) ∧ 
 ∃ x42, ((ldC m40 (C.ptr m.nxt 0)) = (some (Il x42))) ∧ 
 ((ldC m19 (C.ptr m.nxt 0)) = (some (Il x42))) ∧ fitsP .i64 (x42 - 1) ∧ 
 ((0 : Int) ≤ x41) ∧ ((0 : Int) < (x42 - 1)) ∧ fitsP .i64 (x41 / (x42 - 1)) ∧ 
 ((0 : Int) ≤ x22) ∧ ((0 : Int) ≤ (x41 / (x42 - 1))) ∧ fitsP .i64 (x22 * (x41 / (x42 - 1))) ∧ 
 fitsP .i64 (x21 - (x22 * (x41 / (x42 - 1)))) ∧ Q (V.c (Il (Max.max (1 : Int) (x21 - (x22 * (x41 / (x42 - 1))))))) m40))))) : Wc prog tbl 77 [(V.agg 12 [(Il a100), (Il a101), (Il a102), (Il a103), (Il a104), (Il a105), (Il a106), (Il a107), (Il a108), (Il a109), (Il a110), a111]), (V.agg 4 [(Il a200), (Il a201), (Il a202), (Il a203)]), (V.c (Il a300)), (V.c (Il a400))] m Q :=
 wc_eq (n := 4) rfl (by kernel_rfl) (by kernel_rfl) h
theorem w80 {a100 : Int} {a101 : Int} {a102 : Int} {a103 : Int} {a104 : Int} {a105 : Int} {a106 : Int} {a107 : Int} {a108 : Int} {a109 : Int} {a110 : Int} {a111 : C} {a200 : Int} {m : M} {Q : V → M → Prop} (h :
 (∀ m0 : M, (m0 = (M.new m (AO.cells 12 [(Il a100), (Il a101), (Il a102), 
 (Il a103), (Il a104), (Il a105), (Il a106), 
 (Il a107), (Il a108), (Il a109), (Il a110), 
 a111] false))) → ∀ m1 : M, (m1 = (M.new m0 (AO.cells 4 [(Il 0), (Il 0), 
 (Il 0), (Il 0)] false))) → ∀ m2 : M, (m2 = (M.new m1 (AO.cells 4 [(Il 0), 
 (Il 0), (Il 0), (Il 0)] false))) → 
 isPt (C.ptr m.nxt 0) ∧ isPt (C.ptr m.nxt 3) ∧ ∃ x3, ((ldC m2 (C.ptr m.nxt 3)) = (some (Il x3))) ∧ 
 isPt (C.ptr m.nxt 0) ∧ ∃ x4, ∃ x5, ((ldA m2 (C.ptr m.nxt 3) 2) = (some [(Il x4), 
 (Il x5)])) ∧ Wc prog tbl 50 [(V.agg 2 [(Il x4), (Il x5)])] m2 (fun v6 m7 => 
 ∃ x8, (v6 = (V.c (Il x8))) ∧ ((ldC m7 (C.ptr m.nxt 3)) = (some (Il x3))) ∧ 
 ((0 : Int) ≤ a200) ∧ ((0 : Int) < x8) ∧ fitsP .i64 (a200 % x8) ∧ fitsP .i64 (x3 + (a200 % x8)) ∧ 
 isPt (C.ptr m.nxt 0) ∧ ∃ x9, ∃ x10, ((ldA m7 (C.ptr m.nxt 3) 2) = (some [(Il x9), 
 (Il x10)])) ∧ ((ldA m2 (C.ptr m.nxt 3) 2) = (some [(Il x9), 
 (Il x10)])) ∧ Wc prog tbl 50 [(V.agg 2 [(Il x9), 
 (Il x10)])] m7 (fun v11 m12 => ∃ x13, (v11 = (V.c (Il x13))) ∧ 
 ((ldC m12 (C.ptr m.nxt 3)) = (some (Il x3))) ∧ ((0 : Int) ≤ a200) ∧ 
 ((0 : Int) < x13) ∧ fitsP .i64 (a200 / x13) ∧ isPt (C.ptr m1.nxt 0) ∧ 
 ∃ m14 : M, ((stC m12 (C.ptr m1.nxt 0) 1 [(Il (x3 + (a200 % x8)))]) = (some m14)) ∧ 
 isPt (C.ptr m.nxt 0) ∧ isPt (C.ptr m.nxt 5) ∧ ∃ x15, ((ldC m14 (C.ptr m.nxt 5)) = (some (Il x15))) ∧ 
 isPt (C.ptr m.nxt 0) ∧ ∃ x16, ∃ x17, ((ldA m14 (C.ptr m.nxt 5) 2) = (some [(Il x16), 
 (Il x17)])) ∧ Wc prog tbl 50 [(V.agg 2 [(Il x16), 
 (Il x17)])] m14 (fun v18 m19 => ∃ x20, (v18 = (V.c (Il x20))) ∧ 
 ((ldC m19 (C.ptr m.nxt 5)) = (some (Il x15))) ∧ ((0 : Int) ≤ (a200 / x13)) ∧ 
 ((0 : Int) < x20) ∧ fitsP .i64 ((a200 / x13) % x20) ∧ fitsP .i64 (x15 + ((a200 / x13) % x20)) ∧ 
 isPt (C.ptr m.nxt 0) ∧ ∃ x21, ∃ x22, ((ldA m19 (C.ptr m.nxt 5) 2) = (some [(Il x21), 
 (Il x22)])) ∧ ((ldA m14 (C.ptr m.nxt 5) 2) = (some [(Il x21), 
 (Il x22)])) ∧ Wc prog tbl 50 [(V.agg 2 [(Il x21), 
 (Il x22)])] m19 (fun v23 m24 => ∃ x25, (v23 = (V.c (Il x25))) ∧ 
 ((ldC m24 (C.ptr m.nxt 5)) = (some (Il x15))) ∧ ((0 : Int) ≤ (a200 / x13)) ∧ 
 ((0 : Int) < x25) ∧ fitsP .i64 ((a200 / x13) / x25) ∧ isPt (C.ptr m1.nxt 0) ∧ 
 ∃ m26 : M, ((stC m24 (C.ptr m1.nxt 1) 1 [(Il (x15 + ((a200 / x13) % x20)))]) = (some m26)) ∧ 
 isPt (C.ptr m.nxt 0) ∧ isPt (C.ptr m.nxt 7) ∧ ∃ x27, ((ldC m26 (C.ptr m.nxt 7)) = (some (Il x27))) ∧ 
 isPt (C.ptr m.nxt 0) ∧ ∃ x28, ∃ x29, ((ldA m26 (C.ptr m.nxt 7) 2) = (some [(Il x28), 
 (Il x29)])) ∧ Wc prog tbl 50 [(V.agg 2 [(Il x28), 
 (Il x29)])] m26 (fun v30 m31 => ∃ x32, (v30 = (V.c (Il x32))) ∧ 
 ((ldC m31 (C.ptr m.nxt 7)) = (some (Il x27))) ∧ ((0 : Int) ≤ ((a200 / x13) / x25)) ∧ 
 ((0 : Int) < x32) ∧ fitsP .i64 (((a200 / x13) / x25) % x32) ∧ fitsP .i64 (x27 + (((a200 / x13) / x25) % x32)) ∧ 
 isPt (C.ptr m.nxt 0) ∧ ∃ x33, ∃ x34, ((ldA m31 (C.ptr m.nxt 7) 2) = (some [(Il x33), 
 (Il x34)])) ∧ ((ldA m26 (C.ptr m.nxt 7) 2) = (some [(Il x33), 
 (Il x34)])) ∧ Wc prog tbl 50 [(V.agg 2 [(Il x33), 
 (Il x34)])] m31 (fun v35 m36 => ∃ x37, (v35 = (V.c (Il x37))) ∧ 
 ((ldC m36 (C.ptr m.nxt 7)) = (some (Il x27))) ∧ ((0 : Int) ≤ ((a200 / x13) / x25)) ∧ 
 ((0 : Int) < x37) ∧ fitsP .i64 (((a200 / x13) / x25) / x37) ∧ isPt (C.ptr m1.nxt 0) ∧ 
 ∃ m38 : M, ((stC m36 (C.ptr m1.nxt 2) 1 [(Il (x27 + (((a200 / x13) / x25) % x32)))]) = (some m38)) ∧ 
 isPt (C.ptr m.nxt 0) ∧ isPt (C.ptr m.nxt 9) ∧ ∃ x39, ((ldC m38 (C.ptr m.nxt 9)) = (some (Il x39))) ∧ 
 fitsP .i64 (x39 + (((a200 / x13) / x25) / x37)) ∧ isPt (C.ptr m1.nxt 0) ∧ 
 ∃ m40 : M, ((stC m38 (C.ptr m1.nxt 3) 1 [(Il (x39 + (((a200 / x13) / x25) / x37)))]) = (some m40)) ∧ 
 ∃ x41, ∃ x42, ∃ x43, ∃ x44, ((ldA m40 (C.ptr m1.nxt 0) 4) = (some [(Il x41), 
 (Il x42), (Il x43), (Il x44)])) ∧ 
 ∃ m45 : M, ((stC m40 (C.ptr m0.nxt 0) 4 [(Il x41), (Il x42), 
 (Il x43), (Il x44)]) = (some m45)) ∧ ∃ x46, 
 ∃ x47, ∃ x48, ∃ x49, ((ldA m45 (C.ptr m0.nxt 0) 4) = (some [(Il x46), 
 (Il x47), (Il x48), (Il x49)])) ∧ 
 Q (V.agg 4 [(Il x46), (Il x47), (Il x48), 
 (Il x49)]) m45)))))))) : Wc prog tbl 80 [(V.agg 12 [(Il a100), (Il a101), (Il a102), (Il a103), (Il a104), (Il a105), (Il a106), (Il a107), (Il a108), (Il a109), (Il a110), a111]), (V.c (Il a200))] m Q :=
 wc_eq (n := 2) rfl (by kernel_rfl) (by kernel_rfl) h
theorem w83 {a100 : Int} {a101 : Int} {a102 : Int} {a103 : Int} {a104 : Int} {a105 : Int} {a106 : Int} {a107 : Int} {a108 : Int} {a109 : Int} {a110 : Int} {a111 : C} {a200 : Int} {a201 : Int} {a202 : Int} {a203 : Int} {a300 : Int} {a400 : Int} {m : M} {Q : V → M → Prop} (h :
 (∀ m0 : M, (m0 = (M.new m (AO.cells 12 [(Il a100), (Il a101), (Il a102), 
 (Il a103), (Il a104), (Il a105), (Il a106), 
 (Il a107), (Il a108), (Il a109), (Il a110), 
 a111] false))) → ∀ m1 : M, (m1 = (M.new m0 (AO.cells 4 [(Il a200), (Il a201), 
 (Il a202), (Il a203)] false))) → isPt (C.ptr m.nxt 0) ∧ ∃ x2, 
 ((ldC m1 (C.ptr m.nxt 0)) = (some (Il x2))) ∧ fitsP .i64 (x2 - 1) ∧ 
 ((0 : Int) ≤ (x2 - 1)) ∧ ((0 : Int) ≤ a400) ∧ fitsP .i64 ((x2 - 1) * a400) ∧ 
 isPt (C.ptr m0.nxt 0) ∧ ∃ x3, ((ldC m1 (C.ptr m0.nxt 0)) = (some (Il x3))) ∧ 
 fitsP .i64 ((x2 - 1) - a300) ∧ ((0 : Int) ≤ x3) ∧ ((0 : Int) ≤ ((x2 - 1) - a300)) ∧ 
 fitsP .i64 (x3 * ((x2 - 1) - a300)) ∧ isPt (C.ptr m0.nxt 0) ∧ ∃ x4, 
 ((ldC m1 (C.ptr m0.nxt 1)) = (some (Il x4))) ∧ ((0 : Int) ≤ x4) ∧ 
 ((0 : Int) ≤ a300) ∧ fitsP .i64 (x4 * a300) ∧ fitsP .i64 ((x3 * ((x2 - 1) - a300)) + (x4 * a300)) ∧ 
 fitsP .i64 (((x2 - 1) * a400) - ((x3 * ((x2 - 1) - a300)) + (x4 * a300))) ∧ 
 fitsP .i64 ((0 : Int) - (((x2 - 1) * a400) - ((x3 * ((x2 - 1) - a300)) + (x4 * a300)))) ∧ 
 Q (V.c (Il (Max.max (((x2 - 1) * a400) - ((x3 * ((x2 - 1) - a300)) + (x4 * a300))) ((0 : Int) - (((x2 - 1) * a400) - ((x3 * ((x2 - 1) - a300)) + (x4 * a300))))))) m1)) : Wc prog tbl 83 [(V.agg 12 [(Il a100), (Il a101), (Il a102), (Il a103), (Il a104), (Il a105), (Il a106), (Il a107), (Il a108), (Il a109), (Il a110), a111]), (V.agg 4 [(Il a200), (Il a201), (Il a202), (Il a203)]), (V.c (Il a300)), (V.c (Il a400))] m Q :=
 wc_eq (n := 4) rfl (by kernel_rfl) (by kernel_rfl) h
theorem w89 {a100 : Int} {a101 : Int} {m : M} {Q : V → M → Prop} (h :
 (∀ m0 : M, (m0 = (M.new m (AO.cells 2 [(Il a100), (Il a101)] false))) → Q (V.c (C.fn (Fn.func 100) [] [(W.c (C0.ptr m.nxt 0))])) m0)) : Wc prog tbl 89 [(V.agg 2 [(Il a100), (Il a101)])] m Q :=
 wc_eq (n := 1) rfl (by kernel_rfl) (by kernel_rfl) h
theorem w94 {a100 : C} {a200 : C} {m : M} {Q : V → M → Prop} (h :
 (Wc prog tbl 102 [(V.c a100), (V.c a200)] m (fun v0 m1 => ∃ x2, (v0 = (V.c (Il x2))) ∧ Q (V.c (C.bool (decide ((0 : Int) ≤ x2)))) m1))) : Wc prog tbl 94 [(V.c a100), (V.c a200)] m Q :=
 wc_eq (n := 2) rfl (by kernel_rfl) (by kernel_rfl) h
theorem w102 {a100 : C} {a200 : C} {m : M} {Q : V → M → Prop} (h :
 (isSl a100 ∧ ∀ R0 : List V → M → Prop, (∀ x1 : Int, ∀ x2 : Int, ∀ m3 : M, (ifB (decide (x2 < (((slLen a100) : Nat) : Int))) (∃ n4 : Nat, 
 (x2 = ((n4 : Nat) : Int)) ∧ (n4 < (slLen a100)) ∧ ∃ x5, ∃ x6, ∃ x7, ∃ x8, 
 ∃ b9 : Bool, ∃ x10, ∃ x11, ((ldA m3 (slAt a100 (n4 * 7)) 7) = (some [(Il x5), 
 (Il x6), (Il x7), (Il x8), (C.bool b9), 
 (Il x10), (Il x11)])) ∧ callP prog tbl [(V.agg 7 [(Il x5), 
 (Il x6), (Il x7), (Il x8), (C.bool b9), 
 (Il x10), (Il x11)])] a200 m3 (fun v12 m13 => ∃ b14 : Bool, 
 (v12 = (V.c (C.bool b14))) ∧ ifB b14 (Q (V.c (Il x2)) m13) (fitsP .i64 (x2 + 1) ∧ 
 R0 [(V.c (Il x1)), (V.c (Il (x2 + 1)))] m13))) (Q (V.c (Il (-1 : Int))) m3)) → 
 R0 [(V.c (Il x1)), (V.c (Il x2))] m3) → R0 [(V.c (Il 0)), 
 (V.c (Il 0))] m)) : Wc prog tbl 102 [(V.c a100), (V.c a200)] m Q :=
 wc_eq (n := 2) rfl (by kernel_rfl) (by kernel_rfl) h
end
end Go.Proofs.YtbnfnhfanooplaaGreat

namespace Go.Proofs.YtbnfnhfanooplaaGreat
open _root_.Go.Proofs.Tryz
open Go.Abs
set_option maxRecDepth 100000
noncomputable section
theorem w74 {a100 : Int} {a101 : Int} {m : M} {Q : V → M → Prop} (h :
 (∀ m0 : M, (m0 = (M.new m (AO.cells 2 [(Il a100), (Il a101)] false))) → isPt (C.ptr m.nxt 0) ∧ 
 ∃ x1, ((ldC m0 (C.ptr m.nxt 1)) = (some (Il x1))) ∧ isPt (C.ptr m.nxt 0) ∧ 
 ∃ x2, ((ldC m0 (C.ptr m.nxt 0)) = (some (Il x2))) ∧ fitsP .i64 (x1 - x2) ∧ 
 fitsP .i64 ((x1 - x2) + (1 : Int)) ∧ Q (V.c (Il ((x1 - x2) + (1 : Int)))) m0)) : Wc prog tbl 74 [(V.agg 2 [(Il a100), (Il a101)])] m Q :=
 wc_eq (n := 1) rfl (by kernel_rfl) (by kernel_rfl) h
end
end Go.Proofs.YtbnfnhfanooplaaGreat

