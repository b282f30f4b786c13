/- What functions of the program ask and do. Condition: none; a lemma text of this claim. -/
import Derived.Test.YtbhdgedghfibcaaPhA

namespace Go.Proofs.Ytbhdgedghfibcaa
open _root_.Go.Proofs.Try
open Go.Abs
set_option maxRecDepth 100000
noncomputable section
theorem w14 {a100 : C} {a200 : Int} {a201 : Int} {a202 : Int} {a203 : Int} {a204 : Int} {a205 : Int} {a300 : Int} {a400 : Int} {a500 : Int} {m : M} {Q : V → M → Prop} (h :
 (∀ m0 : M, ((m0 = (M.new m (AO.cells 6 [(C.int .i64 a200), (C.int .i64 a201), (C.int .i64 a202), 
 (C.int .i64 a203), (C.int .i64 a204), (C.int .i64 a205)] false))) → (∃ x1 : Int, 
 (∃ x2 : Int, (∃ x3 : Int, (∃ x4 : Int, (∃ x5 : Int, (∃ x6 : Int, (((ldA m0 (C.ptr m.nxt 0) 6) = (some [(C.int .i64 x1), 
 (C.int .i64 x2), (C.int .i64 x3), (C.int .i64 x4), (C.int .i64 x5), 
 (C.int .i64 x6)])) ∧ (Wc prog tbl 47 [(V.c a100), (V.agg 6 [(C.int .i64 x1), (C.int .i64 x2), 
 (C.int .i64 x3), (C.int .i64 x4), (C.int .i64 x5), (C.int .i64 x6)])] m0 (fun v7 m8 => 
 (∃ b9 : Bool, ((v7 = (V.c (C.bool b9))) ∧ (ifB (!b9) (Wc prog tbl 17 [] m8 (fun v10 m11 => (∃ b12 : Bool, 
 ((v10 = (V.c (C.bool b12))) ∧ (Q (V.c (C.bool b12)) m11))))) (∀ m13 : M, ((m13 = (mGrow m8 1)) → 
 (∃ x14 : Int, (∃ x15 : Int, (∃ x16 : Int, (∃ x17 : Int, (∃ x18 : Int, (∃ x19 : Int, (((ldA m13 (C.ptr m.nxt 0) 6) = (some [(C.int .i64 x14), 
 (C.int .i64 x15), (C.int .i64 x16), (C.int .i64 x17), (C.int .i64 x18), 
 (C.int .i64 x19)])) ∧ (∃ x20 : Int, (∃ x21 : Int, (∃ x22 : Int, (∃ x23 : Int, 
 (∃ x24 : Int, (∃ x25 : Int, (((ldA m13 (C.ptr m.nxt 0) 6) = (some [(C.int .i64 x20), 
 (C.int .i64 x21), (C.int .i64 x22), (C.int .i64 x23), (C.int .i64 x24), 
 (C.int .i64 x25)])) ∧ (∀ m26 : M, ((m26 = (M.new m13 (AO.cells 6 [(C.int .i64 (0 : Int)), 
 (C.int .i64 (0 : Int)), (C.int .i64 (0 : Int)), (C.int .i64 (0 : Int)), 
 (C.int .i64 (0 : Int)), (C.int .i64 (0 : Int))] false))) → (((ldA m26 (C.ptr m.nxt 0) 6) = (some [(C.int .i64 x20), 
 (C.int .i64 x21), (C.int .i64 x22), (C.int .i64 x23), (C.int .i64 x24), 
 (C.int .i64 x25)])) ∧ (((ldA m26 (C.ptr m.nxt 0) 6) = (some [(C.int .i64 x14), 
 (C.int .i64 x15), (C.int .i64 x16), (C.int .i64 x17), (C.int .i64 x18), 
 (C.int .i64 x19)])) ∧ (∀ m27 : M, ((m27 = (M.set m26 (m8.nxt + 0) (AO.cells 6 [(C.int .i64 (0 : Int)), 
 (C.int .i64 (0 : Int)), (C.int .i64 (0 : Int)), (C.int .i64 (0 : Int)), 
 (C.int .i64 (0 : Int)), (C.int .i64 (0 : Int))] false))) → (((ldA m27 (C.ptr m.nxt 0) 6) = (some [(C.int .i64 x20), 
 (C.int .i64 x21), (C.int .i64 x22), (C.int .i64 x23), (C.int .i64 x24), 
 (C.int .i64 x25)])) ∧ (((ldA m27 (C.ptr m.nxt 0) 6) = (some [(C.int .i64 x14), 
 (C.int .i64 x15), (C.int .i64 x16), (C.int .i64 x17), (C.int .i64 x18), 
 (C.int .i64 x19)])) ∧ (∃ m28 : M, (((stC m27 (C.ptr m13.nxt 0) 6 [(C.int .i64 x14), 
 (C.int .i64 x15), (C.int .i64 x16), (C.int .i64 x17), (C.int .i64 x18), 
 (C.int .i64 x19)]) = (some m28)) ∧ (((ldA m28 (C.ptr m.nxt 0) 6) = (some [(C.int .i64 x20), 
 (C.int .i64 x21), (C.int .i64 x22), (C.int .i64 x23), (C.int .i64 x24), 
 (C.int .i64 x25)])) ∧ (∃ m29 : M, (((stC m28 (C.ptr (m8.nxt + 0) 0) 6 [(C.int .i64 x20), 
 (C.int .i64 x21), (C.int .i64 x22), (C.int .i64 x23), (C.int .i64 x24), 
 (C.int .i64 x25)]) = (some m29)) ∧ (isPt (C.ptr m.nxt 0) ∧ (isPt (C.ptr m.nxt 2) ∧ 
 (∃ x30 : Int, (((ldC m29 (C.ptr m.nxt 2)) = (some (C.int .i64 x30))) ∧ 
 (((0 : Int) ≤ (wrapZ .i64 a300)) ∧ (((0 : Int) < (3 : Int)) ∧ (fitsP .i64 ((wrapZ .i64 a300) % (3 : Int)) ∧ 
 (fitsP .i64 (x30 - ((wrapZ .i64 a300) % (3 : Int))) ∧ (isPt (C.ptr m.nxt 0) ∧ 
 (isPt (C.ptr m.nxt 2) ∧ (∃ x31 : Int, (((ldC m29 (C.ptr m.nxt 3)) = (some (C.int .i64 x31))) ∧ 
 (((0 : Int) ≤ (wrapZ .i64 a300)) ∧ (((0 : Int) < (3 : Int)) ∧ (fitsP .i64 ((wrapZ .i64 a300) / (3 : Int)) ∧ 
 (((0 : Int) ≤ ((wrapZ .i64 a300) / (3 : Int))) ∧ (((0 : Int) < (3 : Int)) ∧ 
 (fitsP .i64 (((wrapZ .i64 a300) / (3 : Int)) % (3 : Int)) ∧ (fitsP .i64 (x31 + (((wrapZ .i64 a300) / (3 : Int)) % (3 : Int))) ∧ 
 (isPt (C.ptr m13.nxt 0) ∧ (∃ m32 : M, (((stC m29 (C.ptr m13.nxt 2) 2 [(C.int .i64 (Max.max (0 : Int) (x30 - ((wrapZ .i64 a300) % (3 : Int))))), 
 (C.int .i64 (Min.min (120 : Int) (x31 + (((wrapZ .i64 a300) / (3 : Int)) % (3 : Int)))))]) = (some m32)) ∧ 
 (isPt (C.ptr m.nxt 0) ∧ (isPt (C.ptr m.nxt 4) ∧ (∃ x33 : Int, (((ldC m32 (C.ptr m.nxt 4)) = (some (C.int .i64 x33))) ∧ 
 (((0 : Int) ≤ (wrapZ .i64 a300)) ∧ (((0 : Int) < (9 : Int)) ∧ (fitsP .i64 ((wrapZ .i64 a300) / (9 : Int)) ∧ 
 (((0 : Int) ≤ ((wrapZ .i64 a300) / (9 : Int))) ∧ (((0 : Int) < (9 : Int)) ∧ 
 (fitsP .i64 (((wrapZ .i64 a300) / (9 : Int)) % (9 : Int)) ∧ (fitsP .i64 (x33 - (((wrapZ .i64 a300) / (9 : Int)) % (9 : Int))) ∧ 
 (isPt (C.ptr m.nxt 0) ∧ (isPt (C.ptr m.nxt 4) ∧ (∃ x34 : Int, (((ldC m32 (C.ptr m.nxt 5)) = (some (C.int .i64 x34))) ∧ 
 (((0 : Int) ≤ (wrapZ .i64 a300)) ∧ (((0 : Int) < (81 : Int)) ∧ (fitsP .i64 ((wrapZ .i64 a300) / (81 : Int)) ∧ 
 (((0 : Int) ≤ ((wrapZ .i64 a300) / (81 : Int))) ∧ (((0 : Int) ≤ (7 : Int)) ∧ 
 (fitsP .i64 (((wrapZ .i64 a300) / (81 : Int)) * (7 : Int)) ∧ (fitsP .i64 (x34 + (((wrapZ .i64 a300) / (81 : Int)) * (7 : Int))) ∧ 
 (isPt (C.ptr m13.nxt 0) ∧ (∃ m35 : M, (((stC m32 (C.ptr m13.nxt 4) 2 [(C.int .i64 (Max.max (0 : Int) (x33 - (((wrapZ .i64 a300) / (9 : Int)) % (9 : Int))))), 
 (C.int .i64 (Min.min (100 : Int) (x34 + (((wrapZ .i64 a300) / (81 : Int)) * (7 : Int)))))]) = (some m35)) ∧ 
 (∃ x36 : Int, (∃ x37 : Int, (∃ x38 : Int, (∃ x39 : Int, (∃ x40 : Int, (∃ x41 : Int, 
 (((ldA m35 (C.ptr m.nxt 0) 6) = (some [(C.int .i64 x36), (C.int .i64 x37), 
 (C.int .i64 x38), (C.int .i64 x39), (C.int .i64 x40), (C.int .i64 x41)])) ∧ 
 (Wc prog tbl 48 [(V.agg 6 [(C.int .i64 x36), (C.int .i64 x37), 
 (C.int .i64 x38), (C.int .i64 x39), (C.int .i64 x40), (C.int .i64 x41)]), 
 (V.c (C.int .u8 a400)), (V.c (C.int .u8 a500))] m35 (fun v42 m43 => 
 (∃ x44 : Int, (∃ x45 : Int, ((v42 = (V.agg 2 [(C.int .i64 x44), (C.int .i64 x45)])) ∧ 
 (∀ m46 : M, ((m46 = (M.new m43 (AO.cells 2 [(C.int .i64 (0 : Int)), (C.int .i64 (0 : Int))] false))) → 
 (∃ m47 : M, (((stC m46 (C.ptr m43.nxt 0) 2 [(C.int .i64 x44), (C.int .i64 x45)]) = (some m47)) ∧ 
 (isPt (C.ptr m43.nxt 0) ∧ (∃ x48 : Int, (((ldC m47 (C.ptr m43.nxt 0)) = (some (C.int .i64 x48))) ∧ 
 (isPt (C.ptr m43.nxt 0) ∧ (∃ x49 : Int, (((ldC m47 (C.ptr m43.nxt 0)) = (some (C.int .i64 x49))) ∧ 
 (isPt (C.ptr m43.nxt 0) ∧ (∃ x50 : Int, (((ldC m47 (C.ptr m43.nxt 1)) = (some (C.int .i64 x50))) ∧ 
 (isPt (C.ptr m43.nxt 0) ∧ (∃ x51 : Int, (((ldC m47 (C.ptr m43.nxt 1)) = (some (C.int .i64 x51))) ∧ 
 (isPt (C.ptr (m8.nxt + 0) 0) ∧ (∃ m52 : M, (((stC m47 (C.ptr (m8.nxt + 0) 2) 2 [(C.int .i64 x48), 
 (C.int .i64 x49)]) = (some m52)) ∧ (((ldC m52 (C.ptr m43.nxt 1)) = (some (C.int .i64 x51))) ∧ 
 (((ldC m52 (C.ptr m43.nxt 1)) = (some (C.int .i64 x50))) ∧ (isPt (C.ptr (m8.nxt + 0) 0) ∧ 
 (∃ m53 : M, (((stC m52 (C.ptr (m8.nxt + 0) 4) 2 [(C.int .i64 x50), (C.int .i64 x51)]) = (some m53)) ∧ 
 (∀ m54 : M, ((m54 = (mGrow m53 1)) → (Wc prog tbl 19 [(V.c a100)] m54 (fun v55 m56 => 
 (∃ c57 : C, ((v55 = (V.c c57)) ∧ (∃ x58 : Int, (∃ x59 : Int, (∃ x60 : Int, (∃ x61 : Int, 
 (∃ x62 : Int, (∃ x63 : Int, (((ldA m56 (C.ptr m.nxt 0) 6) = (some [(C.int .i64 x58), 
 (C.int .i64 x59), (C.int .i64 x60), (C.int .i64 x61), (C.int .i64 x62), 
 (C.int .i64 x63)])) ∧ (((ldA m54 (C.ptr m.nxt 0) 6) = (some [(C.int .i64 x58), 
 (C.int .i64 x59), (C.int .i64 x60), (C.int .i64 x61), (C.int .i64 x62), 
 (C.int .i64 x63)])) ∧ (Wc prog tbl 26 [(V.agg 6 [(C.int .i64 x58), 
 (C.int .i64 x59), (C.int .i64 x60), (C.int .i64 x61), (C.int .i64 x62), 
 (C.int .i64 x63)])] m56 (fun v64 m65 => (∃ x66 : Int, (∃ x67 : Int, (∃ x68 : Int, 
 (∃ x69 : Int, (∃ x70 : Int, (∃ x71 : Int, ((v64 = (V.agg 6 [(C.int .i64 x66), 
 (C.int .i64 x67), (C.int .i64 x68), (C.int .i64 x69), (C.int .i64 x70), 
 (C.int .i64 x71)])) ∧ (Wc prog tbl 32 [(V.c c57), (V.agg 6 [(C.int .i64 x66), 
 (C.int .i64 x67), (C.int .i64 x68), (C.int .i64 x69), (C.int .i64 x70), 
 (C.int .i64 x71)])] m65 (fun v72 m73 => (∃ x74 : Int, (∃ x75 : Int, (∃ x76 : Int, 
 ((v72 = (V.tup [(U.agg 2 [(C.int .i64 x74), (C.int .i64 x75)]), 
 (U.c (C.int .i64 x76))])) ∧ (∀ m77 : M, ((m77 = (M.set m73 (m53.nxt + 0) (AO.cells 2 [(C.int .i64 (0 : Int)), 
 (C.int .i64 (0 : Int))] false))) → (((ldA m77 (C.ptr m.nxt 0) 6) = (some [(C.int .i64 x58), 
 (C.int .i64 x59), (C.int .i64 x60), (C.int .i64 x61), (C.int .i64 x62), 
 (C.int .i64 x63)])) ∧ (∃ m78 : M, (((stC m77 (C.ptr (m53.nxt + 0) 0) 2 [(C.int .i64 x74), 
 (C.int .i64 x75)]) = (some m78)) ∧ (∀ m79 : M, ((m79 = (mGrow m78 1)) → 
 (Wc prog tbl 19 [(V.c a100)] m79 (fun v80 m81 => (∃ c82 : C, ((v80 = (V.c c82)) ∧ 
 (∃ x83 : Int, (∃ x84 : Int, (∃ x85 : Int, (∃ x86 : Int, (∃ x87 : Int, (∃ x88 : Int, 
 (((ldA m81 (C.ptr (m8.nxt + 0) 0) 6) = (some [(C.int .i64 x83), 
 (C.int .i64 x84), (C.int .i64 x85), (C.int .i64 x86), (C.int .i64 x87), 
 (C.int .i64 x88)])) ∧ (((ldA m79 (C.ptr (m8.nxt + 0) 0) 6) = (some [(C.int .i64 x83), 
 (C.int .i64 x84), (C.int .i64 x85), (C.int .i64 x86), (C.int .i64 x87), 
 (C.int .i64 x88)])) ∧ (Wc prog tbl 26 [(V.agg 6 [(C.int .i64 x83), 
 (C.int .i64 x84), (C.int .i64 x85), (C.int .i64 x86), (C.int .i64 x87), 
 (C.int .i64 x88)])] m81 (fun v89 m90 => (∃ x91 : Int, (∃ x92 : Int, (∃ x93 : Int, 
 (∃ x94 : Int, (∃ x95 : Int, (∃ x96 : Int, ((v89 = (V.agg 6 [(C.int .i64 x91), 
 (C.int .i64 x92), (C.int .i64 x93), (C.int .i64 x94), (C.int .i64 x95), 
 (C.int .i64 x96)])) ∧ (Wc prog tbl 32 [(V.c c82), (V.agg 6 [(C.int .i64 x91), 
 (C.int .i64 x92), (C.int .i64 x93), (C.int .i64 x94), (C.int .i64 x95), 
 (C.int .i64 x96)])] m90 (fun v97 m98 => (∃ x99 : Int, (∃ x100 : Int, (∃ x101 : Int, 
 ((v97 = (V.tup [(U.agg 2 [(C.int .i64 x99), (C.int .i64 x100)]), 
 (U.c (C.int .i64 x101))])) ∧ (∀ m102 : M, ((m102 = (M.set m98 (m78.nxt + 0) (AO.cells 2 [(C.int .i64 (0 : Int)), 
 (C.int .i64 (0 : Int))] false))) → (((ldA m102 (C.ptr (m8.nxt + 0) 0) 6) = (some [(C.int .i64 x83), 
 (C.int .i64 x84), (C.int .i64 x85), (C.int .i64 x86), (C.int .i64 x87), 
 (C.int .i64 x88)])) ∧ (∃ m103 : M, (((stC m102 (C.ptr (m78.nxt + 0) 0) 2 [(C.int .i64 x99), 
 (C.int .i64 x100)]) = (some m103)) ∧ (Wc prog tbl 19 [(V.c a100)] m103 (fun v104 m105 => 
 (∃ c106 : C, ((v104 = (V.c c106)) ∧ (∃ x107 : Int, (∃ x108 : Int, (∃ x109 : Int, 
 (∃ x110 : Int, (∃ x111 : Int, (∃ x112 : Int, (((ldA m105 (C.ptr m.nxt 0) 6) = (some [(C.int .i64 x107), 
 (C.int .i64 x108), (C.int .i64 x109), (C.int .i64 x110), 
 (C.int .i64 x111), (C.int .i64 x112)])) ∧ (((ldA m103 (C.ptr m.nxt 0) 6) = (some [(C.int .i64 x107), 
 (C.int .i64 x108), (C.int .i64 x109), (C.int .i64 x110), 
 (C.int .i64 x111), (C.int .i64 x112)])) ∧ (Wc prog tbl 26 [(V.agg 6 [(C.int .i64 x107), 
 (C.int .i64 x108), (C.int .i64 x109), (C.int .i64 x110), 
 (C.int .i64 x111), (C.int .i64 x112)])] m105 (fun v113 m114 => 
 (∃ x115 : Int, (∃ x116 : Int, (∃ x117 : Int, (∃ x118 : Int, (∃ x119 : Int, (∃ x120 : Int, 
 ((v113 = (V.agg 6 [(C.int .i64 x115), (C.int .i64 x116), (C.int .i64 x117), 
 (C.int .i64 x118), (C.int .i64 x119), (C.int .i64 x120)])) ∧ 
 (∃ x121 : Int, (∃ x122 : Int, (((ldA m114 (C.ptr m43.nxt 0) 2) = (some [(C.int .i64 x121), 
 (C.int .i64 x122)])) ∧ (((ldA m105 (C.ptr m43.nxt 0) 2) = (some [(C.int .i64 x121), 
 (C.int .i64 x122)])) ∧ (((ldA m103 (C.ptr m43.nxt 0) 2) = (some [(C.int .i64 x121), 
 (C.int .i64 x122)])) ∧ (Wc prog tbl 27 [(V.agg 2 [(C.int .i64 x121), 
 (C.int .i64 x122)])] m114 (fun v123 m124 => (∃ x125 : Int, (∃ x126 : Int, 
 ((v123 = (V.agg 2 [(C.int .i64 x125), (C.int .i64 x126)])) ∧ (Wc prog tbl 25 [(V.c c106), 
 (V.agg 6 [(C.int .i64 x115), (C.int .i64 x116), (C.int .i64 x117), 
 (C.int .i64 x118), (C.int .i64 x119), (C.int .i64 x120)]), 
 (V.agg 2 [(C.int .i64 x125), (C.int .i64 x126)])] m124 (fun v127 m128 => 
 (∃ x129 : Int, (∃ x130 : Int, ((v127 = (V.tup [(U.c (C.int .i64 x129)), 
 (U.c (C.int .i64 x130))])) ∧ (ifB (!decide (x76 = (0 : Int))) (Q (V.c (C.bool false)) m128) (ifB (!decide (x101 = (0 : Int))) (Q (V.c (C.bool false)) m128) (ifB (!decide (x130 = (0 : Int))) (Q (V.c (C.bool false)) m128) (∃ x131 : Int, 
 (∃ x132 : Int, (((ldA m128 (C.ptr (m78.nxt + 0) 0) 2) = (some [(C.int .i64 x131), 
 (C.int .i64 x132)])) ∧ (Wc prog tbl 46 [(V.c (C.int .i64 x129)), 
 (V.c (C.int .i64 x129))] m128 (fun v133 m134 => (∃ x135 : Int, (∃ x136 : Int, 
 ((v133 = (V.agg 2 [(C.int .i64 x135), (C.int .i64 x136)])) ∧ (((ldA m134 (C.ptr (m78.nxt + 0) 0) 2) = (some [(C.int .i64 x131), 
 (C.int .i64 x132)])) ∧ (fitsP .i64 x131 ∧ (fitsP .i64 x135 ∧ 
 (fitsP .i64 x132 ∧ (fitsP .i64 x136 ∧ (ifB (!((decide (x131 = x135)) && (decide (x132 = x136)))) (Q (V.c (C.bool false)) m134) (isPt (C.ptr (m78.nxt + 0) 0) ∧ 
 (∃ x137 : Int, (((ldC m134 (C.ptr (m78.nxt + 0) 0)) = (some (C.int .i64 x137))) ∧ 
 (isPt (C.ptr (m53.nxt + 0) 0) ∧ (∃ x138 : Int, (((ldC m134 (C.ptr (m53.nxt + 0) 0)) = (some (C.int .i64 x138))) ∧ 
 (ifB (decide (x137 < x138)) (Q (V.c (C.bool false)) m134) (isPt (C.ptr (m78.nxt + 0) 0) ∧ 
 (∃ x139 : Int, (((ldC m134 (C.ptr (m78.nxt + 0) 1)) = (some (C.int .i64 x139))) ∧ 
 (isPt (C.ptr (m53.nxt + 0) 0) ∧ (∃ x140 : Int, (((ldC m134 (C.ptr (m53.nxt + 0) 1)) = (some (C.int .i64 x140))) ∧ 
 (ifB (decide (x140 < x139)) (Q (V.c (C.bool false)) m134) (∃ x141 : Int, (∃ x142 : Int, 
 (∃ x143 : Int, (∃ x144 : Int, (∃ x145 : Int, (∃ x146 : Int, (((ldA m134 (C.ptr m13.nxt 0) 6) = (some [(C.int .i64 x141), 
 (C.int .i64 x142), (C.int .i64 x143), (C.int .i64 x144), 
 (C.int .i64 x145), (C.int .i64 x146)])) ∧ (Wc prog tbl 47 [(V.c a100), 
 (V.agg 6 [(C.int .i64 x141), (C.int .i64 x142), (C.int .i64 x143), 
 (C.int .i64 x144), (C.int .i64 x145), (C.int .i64 x146)])] m134 (fun v147 m148 => 
 (∃ b149 : Bool, ((v147 = (V.c (C.bool b149))) ∧ (ifB (!b149) (Wc prog tbl 17 [] m148 (fun v150 m151 => 
 (∃ b152 : Bool, ((v150 = (V.c (C.bool b152))) ∧ (Q (V.c (C.bool b152)) m151))))) (∀ m153 : M, 
 ((m153 = (mGrow m148 1)) → (Wc prog tbl 19 [(V.c a100)] m153 (fun v154 m155 => 
 (∃ c156 : C, ((v154 = (V.c c156)) ∧ (∃ x157 : Int, (∃ x158 : Int, (∃ x159 : Int, 
 (∃ x160 : Int, (∃ x161 : Int, (∃ x162 : Int, (((ldA m155 (C.ptr m13.nxt 0) 6) = (some [(C.int .i64 x157), 
 (C.int .i64 x158), (C.int .i64 x159), (C.int .i64 x160), 
 (C.int .i64 x161), (C.int .i64 x162)])) ∧ (((ldA m153 (C.ptr m13.nxt 0) 6) = (some [(C.int .i64 x157), 
 (C.int .i64 x158), (C.int .i64 x159), (C.int .i64 x160), 
 (C.int .i64 x161), (C.int .i64 x162)])) ∧ (Wc prog tbl 26 [(V.agg 6 [(C.int .i64 x157), 
 (C.int .i64 x158), (C.int .i64 x159), (C.int .i64 x160), 
 (C.int .i64 x161), (C.int .i64 x162)])] m155 (fun v163 m164 => 
 (∃ x165 : Int, (∃ x166 : Int, (∃ x167 : Int, (∃ x168 : Int, (∃ x169 : Int, (∃ x170 : Int, 
 ((v163 = (V.agg 6 [(C.int .i64 x165), (C.int .i64 x166), (C.int .i64 x167), 
 (C.int .i64 x168), (C.int .i64 x169), (C.int .i64 x170)])) ∧ 
 (Wc prog tbl 32 [(V.c c156), (V.agg 6 [(C.int .i64 x165), (C.int .i64 x166), 
 (C.int .i64 x167), (C.int .i64 x168), (C.int .i64 x169), 
 (C.int .i64 x170)])] m164 (fun v171 m172 => (∃ x173 : Int, (∃ x174 : Int, 
 (∃ x175 : Int, ((v171 = (V.tup [(U.agg 2 [(C.int .i64 x173), (C.int .i64 x174)]), 
 (U.c (C.int .i64 x175))])) ∧ (∀ m176 : M, ((m176 = (M.set m172 (m148.nxt + 0) (AO.cells 2 [(C.int .i64 (0 : Int)), 
 (C.int .i64 (0 : Int))] false))) → (((ldA m176 (C.ptr m13.nxt 0) 6) = (some [(C.int .i64 x157), 
 (C.int .i64 x158), (C.int .i64 x159), (C.int .i64 x160), 
 (C.int .i64 x161), (C.int .i64 x162)])) ∧ (∃ m177 : M, (((stC m176 (C.ptr (m148.nxt + 0) 0) 2 [(C.int .i64 x173), 
 (C.int .i64 x174)]) = (some m177)) ∧ (ifB (decide (x175 = (0 : Int))) (isPt (C.ptr (m148.nxt + 0) 0) ∧ 
 (∃ x178 : Int, (((ldC m177 (C.ptr (m148.nxt + 0) 0)) = (some (C.int .i64 x178))) ∧ 
 (isPt (C.ptr (m53.nxt + 0) 0) ∧ (∃ x179 : Int, (((ldC m177 (C.ptr (m53.nxt + 0) 0)) = (some (C.int .i64 x179))) ∧ 
 (ifB (decide (x178 ≤ x179)) (isPt (C.ptr (m53.nxt + 0) 0) ∧ (∃ x180 : Int, 
 (((ldC m177 (C.ptr (m53.nxt + 0) 1)) = (some (C.int .i64 x180))) ∧ 
 (isPt (C.ptr (m148.nxt + 0) 0) ∧ (∃ x181 : Int, (((ldC m177 (C.ptr (m148.nxt + 0) 1)) = (some (C.int .i64 x181))) ∧ 
 (ifB (decide (x180 ≤ x181)) (Wc prog tbl 17 [] m177 (fun v182 m183 => (∃ b184 : Bool, 
 ((v182 = (V.c (C.bool b184))) ∧ (Q (V.c (C.bool b184)) m183))))) (Q (V.c (C.bool false)) m177)))))))) (Q (V.c (C.bool false)) m177)))))))) (Q (V.c (C.bool false)) m177)))))))))))))))))))))))))))))))))))))))))))))))))))))))))))))))))))))))))))))))))))))))))))))))))))))))))))))))))))))))))))))))))))))))))))))))))))))))))))))))))))))))))))))))))))))))))))))))))))))))))))))))))))))))))))))))))))))))))))))))))))))))))))))))))))))))))))))))))))))))))))))))))))))))))))))))))))))) : Wc prog tbl 14 [(V.c a100), (V.agg 6 [(C.int .i64 a200), (C.int .i64 a201), (C.int .i64 a202), (C.int .i64 a203), (C.int .i64 a204), (C.int .i64 a205)]), (V.c (C.int .u8 a300)), (V.c (C.int .u8 a400)), (V.c (C.int .u8 a500))] m Q :=
 wc_eq (n := 5) rfl (by kernel_rfl) (by kernel_rfl) h
theorem w21 {a100 : C} {m : M} {Q : V → M → Prop} (h :
 (Wc prog tbl 60 [(V.c a100)] m (fun v0 m1 => (∃ b2 : Bool, ((v0 = (V.c (C.bool b2))) ∧ (ifB b2 (Q (V.c (C.int .i64 (3 : Int))) m1) (Wc prog tbl 61 [(V.c a100)] m1 (fun v3 m4 => 
 (∃ b5 : Bool, ((v3 = (V.c (C.bool b5))) ∧ (ifB (!b5) (Q (V.c (C.int .i64 (1 : Int))) m4) (Q (V.c (C.int .i64 (0 : Int))) m4)))))))))))) : Wc prog tbl 21 [(V.c a100)] m Q :=
 wc_eq (n := 1) rfl (by kernel_rfl) (by kernel_rfl) h
theorem w27 {a100 : Int} {a101 : Int} {m : M} {Q : V → M → Prop} (h :
 (∀ m0 : M, ((m0 = (M.new m (AO.cells 2 [(C.int .i64 a100), (C.int .i64 a101)] false))) → (∀ m1 : M, 
 ((m1 = (M.new m0 (AO.cells 2 [(C.int .i64 (0 : Int)), (C.int .i64 (0 : Int))] false))) → (isPt (C.ptr m.nxt 0) ∧ 
 (∃ x2 : Int, (((ldC m1 (C.ptr m.nxt 0)) = (some (C.int .i64 x2))) ∧ (isPt (C.ptr m.nxt 0) ∧ 
 (∃ x3 : Int, (((ldC m1 (C.ptr m.nxt 1)) = (some (C.int .i64 x3))) ∧ (∃ m4 : M, (((stC m1 (C.ptr m0.nxt 0) 2 [(C.int .i64 x2), 
 (C.int .i64 x3)]) = (some m4)) ∧ (∃ x5 : Int, (∃ x6 : Int, (((ldA m4 (C.ptr m0.nxt 0) 2) = (some [(C.int .i64 x5), 
 (C.int .i64 x6)])) ∧ (Q (V.agg 2 [(C.int .i64 x5), (C.int .i64 x6)]) m4))))))))))))))))) : Wc prog tbl 27 [(V.agg 2 [(C.int .i64 a100), (C.int .i64 a101)])] m Q :=
 wc_eq (n := 1) rfl (by kernel_rfl) (by kernel_rfl) h
theorem w36 {a100 : Int} {a101 : Int} {m : M} {Q : V → M → Prop} (h :
 (∀ m0 : M, ((m0 = (M.new m (AO.cells 2 [(C.int .i64 a100), (C.int .i64 a101)] false))) → (∀ m1 : M, 
 ((m1 = (M.new m0 (AO.cells 2 [(C.int .i64 (0 : Int)), (C.int .i64 (0 : Int))] false))) → (isPt (C.ptr m.nxt 0) ∧ 
 (∃ x2 : Int, (((ldC m1 (C.ptr m.nxt 0)) = (some (C.int .i64 x2))) ∧ (isPt (C.ptr m.nxt 0) ∧ 
 (∃ x3 : Int, (((ldC m1 (C.ptr m.nxt 1)) = (some (C.int .i64 x3))) ∧ (∃ m4 : M, (((stC m1 (C.ptr m0.nxt 0) 2 [(C.int .i64 x2), 
 (C.int .i64 x3)]) = (some m4)) ∧ (∃ x5 : Int, (∃ x6 : Int, (((ldA m4 (C.ptr m0.nxt 0) 2) = (some [(C.int .i64 x5), 
 (C.int .i64 x6)])) ∧ (Q (V.agg 2 [(C.int .i64 x5), (C.int .i64 x6)]) m4))))))))))))))))) : Wc prog tbl 36 [(V.agg 2 [(C.int .i64 a100), (C.int .i64 a101)])] m Q :=
 wc_eq (n := 1) rfl (by kernel_rfl) (by kernel_rfl) h
theorem w48 {a100 : Int} {a101 : Int} {a102 : Int} {a103 : Int} {a104 : Int} {a105 : Int} {a200 : Int} {a300 : Int} {m : M} {Q : V → M → Prop} (h :
 (∀ m0 : M, ((m0 = (M.new m (AO.cells 6 [(C.int .i64 a100), (C.int .i64 a101), (C.int .i64 a102), 
 (C.int .i64 a103), (C.int .i64 a104), (C.int .i64 a105)] false))) → (∀ m1 : M, ((m1 = (M.new m0 (AO.cells 2 [(C.int .i64 (0 : Int)), 
 (C.int .i64 (0 : Int))] false))) → (isPt (C.ptr m.nxt 0) ∧ (isPt (C.ptr m.nxt 2) ∧ (∃ x2 : Int, 
 (((ldC m1 (C.ptr m.nxt 2)) = (some (C.int .i64 x2))) ∧ (isPt (C.ptr m.nxt 0) ∧ (isPt (C.ptr m.nxt 2) ∧ 
 (∃ x3 : Int, (((ldC m1 (C.ptr m.nxt 3)) = (some (C.int .i64 x3))) ∧ (isPt (C.ptr m.nxt 0) ∧ 
 (isPt (C.ptr m.nxt 2) ∧ (∃ x4 : Int, (((ldC m1 (C.ptr m.nxt 2)) = (some (C.int .i64 x4))) ∧ 
 (fitsP .i64 (x3 - x4) ∧ (fitsP .i64 ((x3 - x4) + (1 : Int)) ∧ (((0 : Int) ≤ (wrapZ .i64 a200)) ∧ 
 (((0 : Int) < ((x3 - x4) + (1 : Int))) ∧ (fitsP .i64 ((wrapZ .i64 a200) % ((x3 - x4) + (1 : Int))) ∧ 
 (fitsP .i64 (x2 + ((wrapZ .i64 a200) % ((x3 - x4) + (1 : Int)))) ∧ (isPt (C.ptr m.nxt 0) ∧ 
 (isPt (C.ptr m.nxt 4) ∧ (∃ x5 : Int, (((ldC m1 (C.ptr m.nxt 4)) = (some (C.int .i64 x5))) ∧ 
 (isPt (C.ptr m.nxt 0) ∧ (isPt (C.ptr m.nxt 4) ∧ (∃ x6 : Int, (((ldC m1 (C.ptr m.nxt 5)) = (some (C.int .i64 x6))) ∧ 
 (isPt (C.ptr m.nxt 0) ∧ (isPt (C.ptr m.nxt 4) ∧ (∃ x7 : Int, (((ldC m1 (C.ptr m.nxt 4)) = (some (C.int .i64 x7))) ∧ 
 (fitsP .i64 (x6 - x7) ∧ (fitsP .i64 ((x6 - x7) + (1 : Int)) ∧ (((0 : Int) ≤ (wrapZ .i64 a300)) ∧ 
 (((0 : Int) < ((x6 - x7) + (1 : Int))) ∧ (fitsP .i64 ((wrapZ .i64 a300) % ((x6 - x7) + (1 : Int))) ∧ 
 (fitsP .i64 (x5 + ((wrapZ .i64 a300) % ((x6 - x7) + (1 : Int)))) ∧ 
 (∃ m8 : M, (((stC m1 (C.ptr m0.nxt 0) 2 [(C.int .i64 (x2 + ((wrapZ .i64 a200) % ((x3 - x4) + (1 : Int))))), 
 (C.int .i64 (x5 + ((wrapZ .i64 a300) % ((x6 - x7) + (1 : Int)))))]) = (some m8)) ∧ 
 (∃ x9 : Int, (∃ x10 : Int, (((ldA m8 (C.ptr m0.nxt 0) 2) = (some [(C.int .i64 x9), 
 (C.int .i64 x10)])) ∧ (Q (V.agg 2 [(C.int .i64 x9), (C.int .i64 x10)]) m8))))))))))))))))))))))))))))))))))))))))))))))) : Wc prog tbl 48 [(V.agg 6 [(C.int .i64 a100), (C.int .i64 a101), (C.int .i64 a102), (C.int .i64 a103), (C.int .i64 a104), (C.int .i64 a105)]), (V.c (C.int .u8 a200)), (V.c (C.int .u8 a300))] m Q :=
 wc_eq (n := 3) rfl (by kernel_rfl) (by kernel_rfl) h
theorem w54 {a100 : C} {a200 : Int} {m : M} {Q : V → M → Prop} (h :
 (∃ n0 : Nat, (((0 : Int) = ((n0 : Nat) : Int)) ∧ ((n0 < (slLen a100)) ∧ (isPt (slAt a100 (n0 * 6)) ∧ (∃ c1 : C, 
 (((ldC m (ptAdd (slAt a100 (n0 * 6)) 5)) = (some c1)) ∧ (isSl c1 ∧ (Wc prog tbl 77 [(V.c (C.int .i64 a200)), 
 (V.c (C.int .i64 (((slLen c1) : Nat) : Int)))] m (fun v2 m3 => (∃ b4 : Bool, ((v2 = (V.c (C.bool b4))) ∧ 
 (Q (V.c (C.bool b4)) m3))))))))))))) : Wc prog tbl 54 [(V.c a100), (V.c (C.int .i64 a200))] m Q :=
 wc_eq (n := 2) rfl (by kernel_rfl) (by kernel_rfl) h
theorem w57 {a100 : C} {a101 : C} {a200 : Int} {a201 : Int} {a202 : Int} {m : M} {Q : V → M → Prop} (h :
 (∀ m0 : M, ((m0 = (M.new m (AO.cells 2 [a100, a101] false))) → (∀ m1 : M, ((m1 = (M.new m0 (AO.cells 3 [(C.int .i64 a200), 
 (C.int .i64 a201), (C.int .i64 a202)] false))) → (isPt (C.ptr m.nxt 0) ∧ (∃ c2 : C, 
 (((ldC m1 (C.ptr m.nxt 1)) = (some c2)) ∧ (∃ x3 : Int, (∃ x4 : Int, (∃ x5 : Int, (((ldA m1 (C.ptr m0.nxt 0) 3) = (some [(C.int .i64 x3), 
 (C.int .i64 x4), (C.int .i64 x5)])) ∧ (∃ y6 : Option U, (((lkM prog 103 m1 c2 (V.agg 3 [(C.int .i64 x3), 
 (C.int .i64 x4), (C.int .i64 x5)])) = (some y6)) ∧ (((y6 = Option.none) → 
 (isPt (C.ptr m.nxt 0) ∧ (∃ c7 : C, (((ldC m1 (C.ptr m.nxt 0)) = (some c7)) ∧ (isPt (C.ptr m0.nxt 0) ∧ 
 (isPt (C.ptr m0.nxt 0) ∧ (∃ x8 : Int, (((ldC m1 (C.ptr m0.nxt 0)) = (some (C.int .i64 x8))) ∧ 
 (Wc prog tbl 79 [(V.c c7), (V.c (C.int .i64 x8))] m1 (fun v9 m10 => (∃ x11 : Int, 
 (∃ b12 : Bool, (∃ x13 : Int, (∃ c14 : C, (∃ c15 : C, (∃ c16 : C, ((v9 = (V.agg 6 [(C.int .i64 x11), 
 (C.bool b12), (C.int .i64 x13), c14, c15, c16])) ∧ (∃ x17 : Int, (∃ x18 : Int, 
 (∃ x19 : Int, (((ldA m10 (C.ptr m0.nxt 0) 3) = (some [(C.int .i64 x17), 
 (C.int .i64 x18), (C.int .i64 x19)])) ∧ (((ldA m1 (C.ptr m0.nxt 0) 3) = (some [(C.int .i64 x17), 
 (C.int .i64 x18), (C.int .i64 x19)])) ∧ (Wc prog tbl 80 [(V.agg 6 [(C.int .i64 x11), 
 (C.bool b12), (C.int .i64 x13), c14, c15, c16]), (V.agg 3 [(C.int .i64 x17), 
 (C.int .i64 x18), (C.int .i64 x19)])] m10 (fun v20 m21 => (∃ x22 : Int, 
 ((v20 = (V.c (C.int .i64 x22))) ∧ (isPt (C.ptr m.nxt 0) ∧ (∃ c23 : C, 
 (((ldC m21 (C.ptr m.nxt 1)) = (some c23)) ∧ (∃ x24 : Int, (∃ x25 : Int, 
 (∃ x26 : Int, (((ldA m21 (C.ptr m0.nxt 0) 3) = (some [(C.int .i64 x24), 
 (C.int .i64 x25), (C.int .i64 x26)])) ∧ (∃ m27 : M, (((upM prog 103 m21 c23 (V.agg 3 [(C.int .i64 x24), 
 (C.int .i64 x25), (C.int .i64 x26)]) (V.c (C.int .i64 x22))) = (some m27)) ∧ 
 (Q (V.c (C.int .i64 x22)) m27)))))))))))))))))))))))))))))))))))) ∧ (∀ u28 : U, 
 ((y6 = (some u28)) → (∃ x29 : Int, ((u28 = (U.c (C.int .i64 x29))) ∧ (Q (V.c (C.int .i64 x29)) m1)))))))))))))))))))) : Wc prog tbl 57 [(V.agg 2 [a100, a101]), (V.agg 3 [(C.int .i64 a200), (C.int .i64 a201), (C.int .i64 a202)])] m Q :=
 wc_eq (n := 2) rfl (by kernel_rfl) (by kernel_rfl) h
theorem w60 {a100 : C} {m : M} {Q : V → M → Prop} (h :
 (isSl a100 ∧ (ifB (decide ((3 : Int) < (((slLen a100) : Nat) : Int))) (Q (V.c (C.bool true)) m) (Wc prog tbl 82 [(V.c a100), 
 (V.c (C.fn (Fn.func 83) [] []))] m (fun v0 m1 => (∃ b2 : Bool, ((v0 = (V.c (C.bool b2))) ∧ (Q (V.c (C.bool b2)) m1)))))))) : Wc prog tbl 60 [(V.c a100)] m Q :=
 wc_eq (n := 1) rfl (by kernel_rfl) (by kernel_rfl) h
theorem w63 {a100 : C} {a200 : C} {m : M} {Q : V → M → Prop} (h :
 (∀ m0 : M, ((m0 = (M.new m (AO.cells 2 [C.sl0, C.map0] false))) → (Wc prog tbl 53 [(V.c a100)] m0 (fun v1 m2 => 
 (∃ c3 : C, (∃ c4 : C, (∃ x5 : Int, ((v1 = (V.tup [(U.agg 2 [c3, c4]), (U.c (C.int .i64 x5))])) ∧ 
 (∀ m6 : M, ((m6 = (M.new m2 (AO.cells 2 [C.sl0, C.map0] false))) → (∃ m7 : M, (((stC m6 (C.ptr m2.nxt 0) 2 [c3, 
 c4]) = (some m7)) ∧ (ifB (!decide (x5 = (0 : Int))) (∃ m8 : M, (((stC m7 (C.ptr m.nxt 0) 2 [C.sl0, 
 C.map0]) = (some m8)) ∧ (∃ c9 : C, (∃ c10 : C, (((ldA m8 (C.ptr m.nxt 0) 2) = (some [c9, 
 c10])) ∧ (Q (V.tup [(U.agg 2 [c9, c10]), (U.c (C.int .i64 x5))]) m8)))))) (isSl a200 ∧ 
 (ifB (decide ((5 : Int) < (((slLen a200) : Nat) : Int))) (∃ m11 : M, (((stC m7 (C.ptr m.nxt 0) 2 [C.sl0, 
 C.map0]) = (some m11)) ∧ (∃ c12 : C, (∃ c13 : C, (((ldA m11 (C.ptr m.nxt 0) 2) = (some [c12, 
 c13])) ∧ (Q (V.tup [(U.agg 2 [c12, c13]), (U.c (C.int .i64 (3 : Int)))]) m11)))))) (isPt (C.ptr m2.nxt 0) ∧ 
 (∃ c14 : C, (((ldC m7 (C.ptr m2.nxt 0)) = (some c14)) ∧ (optB (mapO vW [(V.c c14)]) False fun l15 => 
 (Wc prog tbl 89 [(V.c a200), (V.c (C.fn (Fn.func 90) l15 []))] m7 (fun v16 m17 => (∃ b18 : Bool, 
 ((v16 = (V.c (C.bool b18))) ∧ (ifB (!b18) (∃ m19 : M, (((stC m17 (C.ptr m.nxt 0) 2 [C.sl0, 
 C.map0]) = (some m19)) ∧ (∃ c20 : C, (∃ c21 : C, (((ldA m19 (C.ptr m.nxt 0) 2) = (some [c20, 
 c21])) ∧ (Q (V.tup [(U.agg 2 [c20, c21]), (U.c (C.int .i64 (2 : Int)))]) m19)))))) (∃ c22 : C, 
 (∃ c23 : C, (((ldA m17 (C.ptr m2.nxt 0) 2) = (some [c22, c23])) ∧ (∃ m24 : M, 
 (((stC m17 (C.ptr m.nxt 0) 2 [c22, c23]) = (some m24)) ∧ (∃ c25 : C, (∃ c26 : C, 
 (((ldA m24 (C.ptr m.nxt 0) 2) = (some [c25, c26])) ∧ (Q (V.tup [(U.agg 2 [c25, 
 c26]), (U.c (C.int .i64 (0 : Int)))]) m24)))))))))))))))))))))))))))))))))) : Wc prog tbl 63 [(V.c a100), (V.c a200)] m Q :=
 wc_eq (n := 2) rfl (by kernel_rfl) (by kernel_rfl) h
theorem w66 {a100 : C} {a200 : Int} {a201 : Int} {a202 : Int} {a203 : Int} {a204 : Int} {a205 : Int} {m : M} {Q : V → M → Prop} (h :
 (∀ m0 : M, ((m0 = (M.new m (AO.cells 6 [(C.int .i64 a200), (C.int .i64 a201), (C.int .i64 a202), 
 (C.int .i64 a203), (C.int .i64 a204), (C.int .i64 a205)] false))) → (isPt (C.ptr m.nxt 0) ∧ 
 (∃ x1 : Int, (((ldC m0 (C.ptr m.nxt 0)) = (some (C.int .i64 x1))) ∧ (Wc prog tbl 23 [(V.c a100)] m0 (fun v2 m3 => 
 (∃ x4 : Int, ((v2 = (V.c (C.int .i64 x4))) ∧ (((ldC m3 (C.ptr m.nxt 0)) = (some (C.int .i64 x1))) ∧ 
 (fitsP .i64 (x4 - (1 : Int)) ∧ (Wc prog tbl 22 [(V.c (C.int .i64 x1)), (V.c (C.int .i64 (0 : Int))), 
 (V.c (C.int .i64 (x4 - (1 : Int))))] m3 (fun v5 m6 => (∃ b7 : Bool, ((v5 = (V.c (C.bool b7))) ∧ 
 (ifB b7 (isPt (C.ptr m.nxt 0) ∧ (∃ x8 : Int, (((ldC m6 (C.ptr m.nxt 1)) = (some (C.int .i64 x8))) ∧ 
 (Wc prog tbl 22 [(V.c (C.int .i64 x8)), (V.c (C.int .i64 (0 : Int))), (V.c (C.int .i64 (100000 : Int)))] m6 (fun v9 m10 => 
 (∃ b11 : Bool, ((v9 = (V.c (C.bool b11))) ∧ (ifB b11 (isPt (C.ptr m.nxt 0) ∧ (isPt (C.ptr m.nxt 2) ∧ 
 (∃ x12 : Int, (((ldC m10 (C.ptr m.nxt 2)) = (some (C.int .i64 x12))) ∧ 
 (ifB (decide ((0 : Int) ≤ x12)) (isPt (C.ptr m.nxt 0) ∧ (isPt (C.ptr m.nxt 2) ∧ 
 (∃ x13 : Int, (((ldC m10 (C.ptr m.nxt 2)) = (some (C.int .i64 x13))) ∧ 
 (isPt (C.ptr m.nxt 0) ∧ (isPt (C.ptr m.nxt 2) ∧ (∃ x14 : Int, (((ldC m10 (C.ptr m.nxt 3)) = (some (C.int .i64 x14))) ∧ 
 (ifB (decide (x13 ≤ x14)) (isPt (C.ptr m.nxt 0) ∧ (isPt (C.ptr m.nxt 2) ∧ 
 (∃ x15 : Int, (((ldC m10 (C.ptr m.nxt 3)) = (some (C.int .i64 x15))) ∧ 
 (ifB (decide (x15 ≤ (120 : Int))) (isPt (C.ptr m.nxt 0) ∧ (isPt (C.ptr m.nxt 2) ∧ 
 (∃ x16 : Int, (((ldC m10 (C.ptr m.nxt 3)) = (some (C.int .i64 x16))) ∧ 
 (isPt (C.ptr m.nxt 0) ∧ (isPt (C.ptr m.nxt 2) ∧ (∃ x17 : Int, (((ldC m10 (C.ptr m.nxt 2)) = (some (C.int .i64 x17))) ∧ 
 (fitsP .i64 (x16 - x17) ∧ (ifB (decide ((x16 - x17) ≤ (10 : Int))) (isPt (C.ptr m.nxt 0) ∧ 
 (isPt (C.ptr m.nxt 4) ∧ (∃ x18 : Int, (((ldC m10 (C.ptr m.nxt 4)) = (some (C.int .i64 x18))) ∧ 
 (ifB (decide ((0 : Int) ≤ x18)) (isPt (C.ptr m.nxt 0) ∧ (isPt (C.ptr m.nxt 4) ∧ 
 (∃ x19 : Int, (((ldC m10 (C.ptr m.nxt 4)) = (some (C.int .i64 x19))) ∧ 
 (isPt (C.ptr m.nxt 0) ∧ (isPt (C.ptr m.nxt 4) ∧ (∃ x20 : Int, (((ldC m10 (C.ptr m.nxt 5)) = (some (C.int .i64 x20))) ∧ 
 (ifB (decide (x19 ≤ x20)) (isPt (C.ptr m.nxt 0) ∧ (isPt (C.ptr m.nxt 4) ∧ 
 (∃ x21 : Int, (((ldC m10 (C.ptr m.nxt 5)) = (some (C.int .i64 x21))) ∧ 
 (Q (V.c (C.bool (decide (x21 ≤ (100 : Int))))) m10))))) (Q (V.c (C.bool false)) m10)))))))))) (Q (V.c (C.bool false)) m10)))))) (Q (V.c (C.bool false)) m10))))))))))) (Q (V.c (C.bool false)) m10)))))) (Q (V.c (C.bool false)) m10)))))))))) (Q (V.c (C.bool false)) m10)))))) (Q (V.c (C.bool false)) m10))))))))) (Q (V.c (C.bool false)) m6)))))))))))))))))) : Wc prog tbl 66 [(V.c a100), (V.agg 6 [(C.int .i64 a200), (C.int .i64 a201), (C.int .i64 a202), (C.int .i64 a203), (C.int .i64 a204), (C.int .i64 a205)])] m Q :=
 wc_eq (n := 2) rfl (by kernel_rfl) (by kernel_rfl) h
theorem w69 {a100 : Int} {a101 : Int} {a102 : Int} {a103 : Int} {a104 : Int} {a105 : Int} {m : M} {Q : V → M → Prop} (h :
 (∀ m0 : M, ((m0 = (M.new m (AO.cells 6 [(C.int .i64 a100), (C.int .i64 a101), (C.int .i64 a102), 
 (C.int .i64 a103), (C.int .i64 a104), (C.int .i64 a105)] false))) → (Q (V.c (C.fn (Fn.func 94) [] [(W.c (C0.ptr m.nxt 0))])) m0)))) : Wc prog tbl 69 [(V.agg 6 [(C.int .i64 a100), (C.int .i64 a101), (C.int .i64 a102), (C.int .i64 a103), (C.int .i64 a104), (C.int .i64 a105)])] m Q :=
 wc_eq (n := 1) rfl (by kernel_rfl) (by kernel_rfl) h
theorem w78 {a100 : Int} {a101 : Int} {a200 : Int} {m : M} {Q : V → M → Prop} (h :
 (∀ m0 : M, ((m0 = (M.new m (AO.cells 2 [(C.int .i64 a100), (C.int .i64 a101)] false))) → (isPt (C.ptr m.nxt 0) ∧ 
 (∃ x1 : Int, (((ldC m0 (C.ptr m.nxt 0)) = (some (C.int .i64 x1))) ∧ (ifB (decide (x1 ≤ a200)) (isPt (C.ptr m.nxt 0) ∧ 
 (∃ x2 : Int, (((ldC m0 (C.ptr m.nxt 1)) = (some (C.int .i64 x2))) ∧ (Q (V.c (C.bool (decide (a200 ≤ x2)))) m0)))) (Q (V.c (C.bool false)) m0)))))))) : Wc prog tbl 78 [(V.agg 2 [(C.int .i64 a100), (C.int .i64 a101)]), (V.c (C.int .i64 a200))] m Q :=
 wc_eq (n := 2) rfl (by kernel_rfl) (by kernel_rfl) h
theorem w81 {a100 : Int} {a101 : Bool} {a102 : Int} {a103 : C} {a104 : C} {a105 : C} {m : M} {Q : V → M → Prop} (h :
 (∀ m0 : M, ((m0 = (M.new m (AO.cells 6 [(C.int .i64 a100), (C.bool a101), (C.int .i64 a102), a103, 
 a104, a105] false))) → (isPt (C.ptr m.nxt 0) ∧ (∃ x1 : Int, (((ldC m0 (C.ptr m.nxt 0)) = (some (C.int .i64 x1))) ∧ 
 (Wc prog tbl 22 [(V.c (C.int .i64 x1)), (V.c (C.int .i64 (0 : Int))), (V.c (C.int .i64 (120 : Int)))] m0 (fun v2 m3 => 
 (∃ b4 : Bool, ((v2 = (V.c (C.bool b4))) ∧ (ifB (!b4) (Q (V.c (C.bool false)) m3) (isPt (C.ptr m.nxt 0) ∧ 
 (∃ x5 : Int, (((ldC m3 (C.ptr m.nxt 2)) = (some (C.int .i64 x5))) ∧ (Wc prog tbl 22 [(V.c (C.int .i64 x5)), 
 (V.c (C.int .i64 (0 : Int))), (V.c (C.int .i64 (100 : Int)))] m3 (fun v6 m7 => 
 (∃ b8 : Bool, ((v6 = (V.c (C.bool b8))) ∧ (ifB (!b8) (Q (V.c (C.bool false)) m7) (isPt (C.ptr m.nxt 0) ∧ 
 (∃ c9 : C, (((ldC m7 (C.ptr m.nxt 3)) = (some c9)) ∧ (Wc prog tbl 101 [(V.c c9), 
 (V.c (C.int .i64 (120 : Int)))] m7 (fun v10 m11 => (∃ b12 : Bool, ((v10 = (V.c (C.bool b12))) ∧ 
 (ifB (!b12) (Q (V.c (C.bool false)) m11) (isPt (C.ptr m.nxt 0) ∧ (∃ c13 : C, (((ldC m11 (C.ptr m.nxt 4)) = (some c13)) ∧ 
 (Wc prog tbl 101 [(V.c c13), (V.c (C.int .i64 (100 : Int)))] m11 (fun v14 m15 => 
 (∃ b16 : Bool, ((v14 = (V.c (C.bool b16))) ∧ (ifB (!b16) (Q (V.c (C.bool false)) m15) (isPt (C.ptr m.nxt 0) ∧ 
 (∃ c17 : C, (((ldC m15 (C.ptr m.nxt 4)) = (some c17)) ∧ (isPt (C.ptr m.nxt 0) ∧ 
 (∃ c18 : C, (((ldC m15 (C.ptr m.nxt 4)) = (some c18)) ∧ (isSl c18 ∧ 
 (fitsP .i64 ((((slLen c18) : Nat) : Int) - (1 : Int)) ∧ (∃ n19 : Nat, 
 ((((((slLen c18) : Nat) : Int) - (1 : Int)) = ((n19 : Nat) : Int)) ∧ ((n19 < (slLen c17)) ∧ 
 (∃ x20 : Int, (((ldC m15 (slAt c17 (n19 * 1))) = (some (C.int .i64 x20))) ∧ 
 (ifB (!decide (x20 = (100 : Int))) (Q (V.c (C.bool false)) m15) (isPt (C.ptr m.nxt 0) ∧ 
 (∃ c21 : C, (((ldC m15 (C.ptr m.nxt 5)) = (some c21)) ∧ (isSl c21 ∧ 
 (ifB (decide ((((slLen c21) : Nat) : Int) = (0 : Int))) (Q (V.c (C.bool false)) m15) (∀ R22 : List V → 
 M → Prop, ((∀ b23 : Bool, (∀ b24 : Bool, (∀ b25 : Bool, (∀ x26 : Int, (∀ m27 : M, 
 ((isPt (C.ptr m.nxt 0) ∧ (∃ c28 : C, (((ldC m27 (C.ptr m.nxt 5)) = (some c28)) ∧ 
 (isSl c28 ∧ (ifB (decide (x26 < (((slLen c28) : Nat) : Int))) (isPt (C.ptr m.nxt 0) ∧ 
 (∃ c29 : C, (((ldC m27 (C.ptr m.nxt 5)) = (some c29)) ∧ (∃ n30 : Nat, 
 ((x26 = ((n30 : Nat) : Int)) ∧ ((n30 < (slLen c29)) ∧ (∃ c31 : C, (((ldC m27 (slAt c29 (n30 * 1))) = (some c31)) ∧ 
 (isSl c31 ∧ (isPt (C.ptr m.nxt 0) ∧ (∃ c32 : C, (((ldC m27 (C.ptr m.nxt 3)) = (some c32)) ∧ 
 (isSl c32 ∧ (ifB (!decide ((((slLen c31) : Nat) : Int) = (((slLen c32) : Nat) : Int))) (Q (V.c (C.bool false)) m27) (∀ R33 : List V → 
 M → Prop, ((∀ b34 : Bool, (∀ b35 : Bool, (∀ x36 : Int, (∀ m37 : M, ((isPt (C.ptr m.nxt 0) ∧ 
 (∃ c38 : C, (((ldC m37 (C.ptr m.nxt 3)) = (some c38)) ∧ (isSl c38 ∧ 
 (ifB (decide (x36 < (((slLen c38) : Nat) : Int))) (isPt (C.ptr m.nxt 0) ∧ (∃ c39 : C, 
 (((ldC m37 (C.ptr m.nxt 5)) = (some c39)) ∧ (∃ n40 : Nat, ((x26 = ((n40 : Nat) : Int)) ∧ 
 ((n40 < (slLen c39)) ∧ (∃ c41 : C, (((ldC m37 (slAt c39 (n40 * 1))) = (some c41)) ∧ 
 (∃ n42 : Nat, ((x36 = ((n42 : Nat) : Int)) ∧ ((n42 < (slLen c41)) ∧ (∃ c43 : C, 
 (((ldC m37 (slAt c41 (n42 * 1))) = (some c43)) ∧ (isSl c43 ∧ (isPt (C.ptr m.nxt 0) ∧ 
 (∃ c44 : C, (((ldC m37 (C.ptr m.nxt 4)) = (some c44)) ∧ (isSl c44 ∧ 
 (ifB (!decide ((((slLen c43) : Nat) : Int) = (((slLen c44) : Nat) : Int))) (Q (V.c (C.bool false)) m37) (∀ R45 : List V → 
 M → Prop, ((∀ b46 : Bool, (∀ x47 : Int, (∀ m48 : M, ((isPt (C.ptr m.nxt 0) ∧ 
 (∃ c49 : C, (((ldC m48 (C.ptr m.nxt 4)) = (some c49)) ∧ (isSl c49 ∧ 
 (ifB (decide (x47 < (((slLen c49) : Nat) : Int))) (isPt (C.ptr m.nxt 0) ∧ (∃ c50 : C, 
 (((ldC m48 (C.ptr m.nxt 5)) = (some c50)) ∧ (∃ n51 : Nat, ((x26 = ((n51 : Nat) : Int)) ∧ 
 ((n51 < (slLen c50)) ∧ (∃ c52 : C, (((ldC m48 (slAt c50 (n51 * 1))) = (some c52)) ∧ 
 (∃ n53 : Nat, ((x36 = ((n53 : Nat) : Int)) ∧ ((n53 < (slLen c52)) ∧ (∃ c54 : C, 
 (((ldC m48 (slAt c52 (n53 * 1))) = (some c54)) ∧ (∃ n55 : Nat, ((x47 = ((n55 : Nat) : Int)) ∧ 
 ((n55 < (slLen c54)) ∧ (∃ x56 : Int, (((ldC m48 (slAt c54 (n55 * 1))) = (some (C.int .i64 x56))) ∧ 
 (Wc prog tbl 22 [(V.c (C.int .i64 x56)), (V.c (C.int .i64 (0 : Int))), 
 (V.c (C.int .i64 (100 : Int)))] m48 (fun v57 m58 => (∃ b59 : Bool, ((v57 = (V.c (C.bool b59))) ∧ 
 (ifB (!b59) (Q (V.c (C.bool false)) m58) (fitsP .i64 (x47 + (1 : Int)) ∧ 
 (R45 [(V.c (C.bool b46)), (V.c (C.int .i64 (x47 + (1 : Int))))] m58))))))))))))))))))))))))) (fitsP .i64 (x36 + (1 : Int)) ∧ 
 (R33 [(V.c (C.bool b46)), (V.c (C.bool b46)), (V.c (C.int .i64 (x36 + (1 : Int))))] m48))))))) → 
 (R45 [(V.c (C.bool b46)), (V.c (C.int .i64 x47))] m48))))) → (R45 [(V.c (C.bool b34)), 
 (V.c (C.int .i64 (0 : Int)))] m37)))))))))))))))))))))) (fitsP .i64 (x26 + (1 : Int)) ∧ 
 (R22 [(V.c (C.bool b34)), (V.c (C.bool b34)), (V.c (C.bool b34)), (V.c (C.int .i64 (x26 + (1 : Int))))] m37))))))) → 
 (R33 [(V.c (C.bool b34)), (V.c (C.bool b35)), (V.c (C.int .i64 x36))] m37)))))) → 
 (R33 [(V.c (C.bool b23)), (V.c (C.bool b23)), (V.c (C.int .i64 (0 : Int)))] m27))))))))))))))))) (Q (V.c (C.bool true)) m27)))))) → 
 (R22 [(V.c (C.bool b23)), (V.c (C.bool b24)), (V.c (C.bool b25)), (V.c (C.int .i64 x26))] m27))))))) → 
 (R22 [(V.c (C.bool false)), (V.c (C.bool false)), (V.c (C.bool false)), (V.c (C.int .i64 (0 : Int)))] m15))))))))))))))))))))))))))))))))))))))))))))))))))))))))) : Wc prog tbl 81 [(V.agg 6 [(C.int .i64 a100), (C.bool a101), (C.int .i64 a102), a103, a104, a105])] m Q :=
 wc_eq (n := 1) rfl (by kernel_rfl) (by kernel_rfl) h
theorem w84 {a100 : C} {a200 : C} {m : M} {Q : V → M → Prop} (h :
 (∀ m0 : M, ((m0 = (M.new m (AO.cells 1 [a200] false))) → (Wc prog tbl 103 [(V.c a100), (V.c (C.fn (Fn.func 104) [] [(W.c (C0.ptr m.nxt 0))]))] m0 (fun v1 m2 => 
 (∃ b3 : Bool, ((v1 = (V.c (C.bool b3))) ∧ (Q (V.c (C.bool (!b3))) m2)))))))) : Wc prog tbl 84 [(V.c a100), (V.c a200)] m Q :=
 wc_eq (n := 2) rfl (by kernel_rfl) (by kernel_rfl) h
theorem w87 {a100 : C} {m : M} {Q : V → M → Prop} (h :
 (isSl a100 ∧ (∀ R0 : List V → M → Prop, ((∀ c1 : C, (∀ x2 : Int, (∀ m3 : M, ((ifB (decide (x2 < (((slLen a100) : Nat) : Int))) (∃ n4 : Nat, 
 ((x2 = ((n4 : Nat) : Int)) ∧ ((n4 < (slLen a100)) ∧ (∃ x5 : Int, (∃ b6 : Bool, (∃ x7 : Int, (∃ c8 : C, 
 (∃ c9 : C, (∃ c10 : C, (((ldA m3 (slAt a100 (n4 * 6)) 6) = (some [(C.int .i64 x5), 
 (C.bool b6), (C.int .i64 x7), c8, c9, c10])) ∧ (∀ m11 : M, ((m11 = (M.new m3 (AO.cells 6 [(C.int .i64 (0 : Int)), 
 (C.bool false), (C.int .i64 (0 : Int)), C.sl0, C.sl0, C.sl0] false))) → (∃ m12 : M, 
 (((stC m11 (C.ptr m3.nxt 0) 6 [(C.int .i64 x5), (C.bool b6), (C.int .i64 x7), 
 c8, c9, c10]) = (some m12)) ∧ (isPt (C.ptr m3.nxt 0) ∧ (∃ x13 : Int, (((ldC m12 (C.ptr m3.nxt 0)) = (some (C.int .i64 x13))) ∧ 
 (∀ m14 : M, ((m14 = (M.new m12 (AO.cells 1 [(C.int .i64 x13)] false))) → (∃ c15 : C, 
 (∃ m16 : M, ((ApR prog 73 m14 c1 (C.sl m12.nxt 0 1 0 (some 1)) c15 m16) ∧ 
 (fitsP .i64 (x2 + (1 : Int)) ∧ (R0 [(V.c c15), (V.c (C.int .i64 (x2 + (1 : Int))))] m16)))))))))))))))))))))))) (Q (V.c c1) m3)) → 
 (R0 [(V.c c1), (V.c (C.int .i64 x2))] m3))))) → (R0 [(V.c C.sl0), (V.c (C.int .i64 (0 : Int)))] m))))) : Wc prog tbl 87 [(V.c a100)] m Q :=
 wc_eq (n := 1) rfl (by kernel_rfl) (by kernel_rfl) h
theorem w90 {a100 : C} {a200 : Int} {a201 : Int} {a202 : Int} {a203 : Int} {a204 : Int} {a205 : Int} {m : M} {Q : V → M → Prop} (h :
 (∀ m0 : M, ((m0 = (M.new m (AO.cells 6 [(C.int .i64 a200), (C.int .i64 a201), (C.int .i64 a202), 
 (C.int .i64 a203), (C.int .i64 a204), (C.int .i64 a205)] false))) → (isPt (C.ptr m.nxt 0) ∧ 
 (∃ x1 : Int, (((ldC m0 (C.ptr m.nxt 0)) = (some (C.int .i64 x1))) ∧ (Wc prog tbl 54 [(V.c a100), 
 (V.c (C.int .i64 x1))] m0 (fun v2 m3 => (∃ b4 : Bool, ((v2 = (V.c (C.bool b4))) ∧ (ifB b4 (isPt (C.ptr m.nxt 0) ∧ 
 (∃ x5 : Int, (((ldC m3 (C.ptr m.nxt 1)) = (some (C.int .i64 x5))) ∧ (Wc prog tbl 78 [(V.agg 2 [(C.int .i64 (0 : Int)), 
 (C.int .i64 (100000 : Int))]), (V.c (C.int .i64 x5))] m3 (fun v6 m7 => (∃ b8 : Bool, 
 ((v6 = (V.c (C.bool b8))) ∧ (ifB b8 (isPt (C.ptr m.nxt 0) ∧ (∃ x9 : Int, (∃ x10 : Int, (((ldA m7 (C.ptr m.nxt 2) 2) = (some [(C.int .i64 x9), 
 (C.int .i64 x10)])) ∧ (Wc prog tbl 111 [(V.agg 2 [(C.int .i64 x9), (C.int .i64 x10)]), 
 (V.c (C.fn (Fn.func 55) [] []))] m7 (fun v11 m12 => (∃ b13 : Bool, ((v11 = (V.c (C.bool b13))) ∧ 
 (ifB b13 (isPt (C.ptr m.nxt 0) ∧ (isPt (C.ptr m.nxt 2) ∧ (∃ x14 : Int, (((ldC m12 (C.ptr m.nxt 3)) = (some (C.int .i64 x14))) ∧ 
 (isPt (C.ptr m.nxt 0) ∧ (isPt (C.ptr m.nxt 2) ∧ (∃ x15 : Int, (((ldC m12 (C.ptr m.nxt 2)) = (some (C.int .i64 x15))) ∧ 
 (fitsP .i64 (x14 - x15) ∧ (ifB (decide ((x14 - x15) ≤ (10 : Int))) (isPt (C.ptr m.nxt 0) ∧ 
 (∃ x16 : Int, (∃ x17 : Int, (((ldA m12 (C.ptr m.nxt 4) 2) = (some [(C.int .i64 x16), 
 (C.int .i64 x17)])) ∧ (Wc prog tbl 111 [(V.agg 2 [(C.int .i64 x16), 
 (C.int .i64 x17)]), (V.c (C.fn (Fn.func 56) [] []))] m12 (fun v18 m19 => 
 (∃ b20 : Bool, ((v18 = (V.c (C.bool b20))) ∧ (Q (V.c (C.bool b20)) m19))))))))) (Q (V.c (C.bool false)) m12))))))))))) (Q (V.c (C.bool false)) m12)))))))))) (Q (V.c (C.bool false)) m7))))))))) (Q (V.c (C.bool false)) m3)))))))))))) : Wc prog tbl 90 [(V.c a100), (V.agg 6 [(C.int .i64 a200), (C.int .i64 a201), (C.int .i64 a202), (C.int .i64 a203), (C.int .i64 a204), (C.int .i64 a205)])] m Q :=
 wc_eq (n := 2) rfl (by kernel_rfl) (by kernel_rfl) h
theorem w99 {a100 : Int} {a101 : Bool} {a102 : Int} {a103 : C} {a104 : C} {a105 : C} {a200 : Int} {a201 : Int} {a202 : Int} {m : M} {Q : V → M → Prop} (h :
 (∀ m0 : M, ((m0 = (M.new m (AO.cells 6 [(C.int .i64 a100), (C.bool a101), (C.int .i64 a102), a103, 
 a104, a105] false))) → (∀ m1 : M, ((m1 = (M.new m0 (AO.cells 3 [(C.int .i64 a200), (C.int .i64 a201), 
 (C.int .i64 a202)] false))) → (isPt (C.ptr m.nxt 0) ∧ (∃ c2 : C, (((ldC m1 (C.ptr m.nxt 5)) = (some c2)) ∧ 
 (isPt (C.ptr m0.nxt 0) ∧ (∃ x3 : Int, (((ldC m1 (C.ptr m0.nxt 2)) = (some (C.int .i64 x3))) ∧ 
 (∃ n4 : Nat, ((x3 = ((n4 : Nat) : Int)) ∧ ((n4 < (slLen c2)) ∧ (∃ c5 : C, (((ldC m1 (slAt c2 (n4 * 1))) = (some c5)) ∧ 
 (isPt (C.ptr m.nxt 0) ∧ (∃ c6 : C, (((ldC m1 (C.ptr m.nxt 3)) = (some c6)) ∧ (isPt (C.ptr m0.nxt 0) ∧ 
 (isPt (C.ptr m0.nxt 0) ∧ (∃ x7 : Int, (((ldC m1 (C.ptr m0.nxt 0)) = (some (C.int .i64 x7))) ∧ 
 (Wc prog tbl 98 [(V.c c6), (V.c (C.int .i64 x7))] m1 (fun v8 m9 => (∃ x10 : Int, 
 ((v8 = (V.c (C.int .i64 x10))) ∧ ((ifB (noFnC c5) ((ldC m9 (slAt c2 (n4 * 1))) = (some c5)) False) ∧ 
 (((ldC m9 (C.ptr m0.nxt 2)) = (some (C.int .i64 x3))) ∧ ((ifB (noFnC c2) ((ldC m9 (C.ptr m.nxt 5)) = (some c2)) False) ∧ 
 (∃ n11 : Nat, ((x10 = ((n11 : Nat) : Int)) ∧ ((n11 < (slLen c5)) ∧ (∃ c12 : C, 
 (((ldC m9 (slAt c5 (n11 * 1))) = (some c12)) ∧ (isPt (C.ptr m.nxt 0) ∧ 
 (∃ c13 : C, (((ldC m9 (C.ptr m.nxt 4)) = (some c13)) ∧ (isPt (C.ptr m0.nxt 0) ∧ 
 (isPt (C.ptr m0.nxt 0) ∧ (∃ x14 : Int, (((ldC m9 (C.ptr m0.nxt 1)) = (some (C.int .i64 x14))) ∧ 
 (Wc prog tbl 116 [(V.c c13), (V.c (C.int .i64 x14))] m9 (fun v15 m16 => 
 (∃ x17 : Int, (∃ b18 : Bool, ((v15 = (V.tup [(U.c (C.int .i64 x17)), (U.c (C.bool b18))])) ∧ 
 (ifB b18 (∃ n19 : Nat, ((x17 = ((n19 : Nat) : Int)) ∧ ((n19 < (slLen c12)) ∧ 
 (∃ x20 : Int, (((ldC m16 (slAt c12 (n19 * 1))) = (some (C.int .i64 x20))) ∧ 
 (Q (V.c (C.int .i64 x20)) m16)))))) (isPt (C.ptr m.nxt 0) ∧ (∃ c21 : C, 
 (((ldC m16 (C.ptr m.nxt 4)) = (some c21)) ∧ (fitsP .i64 (x17 - (1 : Int)) ∧ 
 (∃ n22 : Nat, (((x17 - (1 : Int)) = ((n22 : Nat) : Int)) ∧ ((n22 < (slLen c21)) ∧ 
 (∃ x23 : Int, (((ldC m16 (slAt c21 (n22 * 1))) = (some (C.int .i64 x23))) ∧ 
 (isPt (C.ptr m.nxt 0) ∧ (∃ c24 : C, (((ldC m16 (C.ptr m.nxt 4)) = (some c24)) ∧ 
 (∃ n25 : Nat, ((x17 = ((n25 : Nat) : Int)) ∧ ((n25 < (slLen c24)) ∧ (∃ x26 : Int, 
 (((ldC m16 (slAt c24 (n25 * 1))) = (some (C.int .i64 x26))) ∧ (fitsP .i64 (x17 - (1 : Int)) ∧ 
 (∃ n27 : Nat, (((x17 - (1 : Int)) = ((n27 : Nat) : Int)) ∧ ((n27 < (slLen c12)) ∧ 
 (∃ x28 : Int, (((ldC m16 (slAt c12 (n27 * 1))) = (some (C.int .i64 x28))) ∧ 
 (isPt (C.ptr m0.nxt 0) ∧ (isPt (C.ptr m0.nxt 0) ∧ (∃ x29 : Int, (((ldC m16 (C.ptr m0.nxt 1)) = (some (C.int .i64 x29))) ∧ 
 (fitsP .i64 (x26 - x29) ∧ (((0 : Int) ≤ x28) ∧ (((0 : Int) ≤ (x26 - x29)) ∧ 
 (fitsP .i64 (x28 * (x26 - x29)) ∧ (∃ n30 : Nat, ((x17 = ((n30 : Nat) : Int)) ∧ 
 ((n30 < (slLen c12)) ∧ (∃ x31 : Int, (((ldC m16 (slAt c12 (n30 * 1))) = (some (C.int .i64 x31))) ∧ 
 (isPt (C.ptr m0.nxt 0) ∧ (isPt (C.ptr m0.nxt 0) ∧ (∃ x32 : Int, (((ldC m16 (C.ptr m0.nxt 1)) = (some (C.int .i64 x32))) ∧ 
 (fitsP .i64 (x32 - x23) ∧ (((0 : Int) ≤ x31) ∧ (((0 : Int) ≤ (x32 - x23)) ∧ 
 (fitsP .i64 (x31 * (x32 - x23)) ∧ (fitsP .i64 ((x28 * (x26 - x29)) + (x31 * (x32 - x23))) ∧ 
 (fitsP .i64 (x26 - x23) ∧ (((0 : Int) ≤ ((x28 * (x26 - x29)) + (x31 * (x32 - x23)))) ∧ 
 (((0 : Int) < (x26 - x23)) ∧ (fitsP .i64 (((x28 * (x26 - x29)) + (x31 * (x32 - x23))) / (x26 - x23)) ∧ 
 (Q (V.c (C.int .i64 (((x28 * (x26 - x29)) + (x31 * (x32 - x23))) / (x26 - x23)))) m16)))))))))))))))))))))))))))))))))))))))))))))))))))))))))))))))))))))))))))))))))))))))))))))))))) : Wc prog tbl 99 [(V.agg 6 [(C.int .i64 a100), (C.bool a101), (C.int .i64 a102), a103, a104, a105]), (V.agg 3 [(C.int .i64 a200), (C.int .i64 a201), (C.int .i64 a202)])] m Q :=
 wc_eq (n := 2) rfl (by kernel_rfl) (by kernel_rfl) h
theorem w102 {a100 : C} {a200 : C} {m : M} {Q : V → M → Prop} (h :
 (isSl a100 ∧ (∀ R0 : List V → M → Prop, ((∀ x1 : Int, (∀ x2 : Int, (∀ m3 : M, ((ifB (decide (x2 < (((slLen a100) : Nat) : Int))) (∃ n4 : Nat, 
 ((x2 = ((n4 : Nat) : Int)) ∧ ((n4 < (slLen a100)) ∧ (∃ x5 : Int, (∃ b6 : Bool, (∃ x7 : Int, (∃ c8 : C, 
 (∃ c9 : C, (∃ c10 : C, (((ldA m3 (slAt a100 (n4 * 6)) 6) = (some [(C.int .i64 x5), 
 (C.bool b6), (C.int .i64 x7), c8, c9, c10])) ∧ (callP prog tbl [(V.agg 6 [(C.int .i64 x5), 
 (C.bool b6), (C.int .i64 x7), c8, c9, c10])] a200 m3 (fun v11 m12 => (∃ b13 : Bool, 
 ((v11 = (V.c (C.bool b13))) ∧ (ifB b13 (Q (V.c (C.int .i64 x2)) m12) (fitsP .i64 (x2 + (1 : Int)) ∧ 
 (R0 [(V.c (C.int .i64 x1)), (V.c (C.int .i64 (x2 + (1 : Int))))] m12))))))))))))))))) (Q (V.c (C.int .i64 (-1 : Int))) m3)) → 
 (R0 [(V.c (C.int .i64 x1)), (V.c (C.int .i64 x2))] m3))))) → (R0 [(V.c (C.int .i64 (0 : Int))), 
 (V.c (C.int .i64 (0 : Int)))] m))))) : Wc prog tbl 102 [(V.c a100), (V.c a200)] m Q :=
 wc_eq (n := 2) rfl (by kernel_rfl) (by kernel_rfl) h
theorem w105 {a100 : Int} {m : M} {Q : V → M → Prop} (h :
 (Wc prog tbl 78 [(V.agg 2 [(C.int .i64 (0 : Int)), (C.int .i64 (100 : Int))]), (V.c (C.int .i64 a100))] m (fun v0 m1 => 
 (∃ b2 : Bool, ((v0 = (V.c (C.bool b2))) ∧ (Q (V.c (C.bool b2)) m1)))))) : Wc prog tbl 105 [(V.c (C.int .i64 a100))] m Q :=
 wc_eq (n := 1) rfl (by kernel_rfl) (by kernel_rfl) h
theorem w108 {a100 : Int} {a101 : Bool} {a102 : Int} {a103 : C} {a104 : C} {a105 : C} {a200 : C} {m : M} {Q : V → M → Prop} (h :
 (∀ m0 : M, ((m0 = (M.new m (AO.cells 6 [(C.int .i64 a100), (C.bool a101), (C.int .i64 a102), a103, 
 a104, a105] false))) → (isSl a200 ∧ (isPt (C.ptr m.nxt 0) ∧ (∃ c1 : C, (((ldC m0 (C.ptr m.nxt 3)) = (some c1)) ∧ 
 (isSl c1 ∧ (ifB (decide ((((slLen a200) : Nat) : Int) = (((slLen c1) : Nat) : Int))) (∃ x2 : Int, (∃ b3 : Bool, 
 (∃ x4 : Int, (∃ c5 : C, (∃ c6 : C, (∃ c7 : C, (((ldA m0 (C.ptr m.nxt 0) 6) = (some [(C.int .i64 x2), 
 (C.bool b3), (C.int .i64 x4), c5, c6, c7])) ∧ (optB (mapO vW [(V.agg 6 [(C.int .i64 x2), 
 (C.bool b3), (C.int .i64 x4), c5, c6, c7])]) False fun l8 => (Wc prog tbl 124 [(V.c a200), 
 (V.c (C.fn (Fn.func 125) l8 []))] m0 (fun v9 m10 => (∃ b11 : Bool, ((v9 = (V.c (C.bool b11))) ∧ 
 (Q (V.c (C.bool b11)) m10))))))))))))) (Q (V.c (C.bool false)) m0)))))))))) : Wc prog tbl 108 [(V.agg 6 [(C.int .i64 a100), (C.bool a101), (C.int .i64 a102), a103, a104, a105]), (V.c a200)] m Q :=
 wc_eq (n := 2) rfl (by kernel_rfl) (by kernel_rfl) h
theorem w111 {a100 : Int} {a101 : Int} {a200 : C} {m : M} {Q : V → M → Prop} (h :
 (∀ m0 : M, ((m0 = (M.new m (AO.cells 2 [(C.int .i64 a100), (C.int .i64 a101)] false))) → (isPt (C.ptr m.nxt 0) ∧ 
 (∃ x1 : Int, (((ldC m0 (C.ptr m.nxt 0)) = (some (C.int .i64 x1))) ∧ (isPt (C.ptr m.nxt 0) ∧ 
 (∃ x2 : Int, (((ldC m0 (C.ptr m.nxt 1)) = (some (C.int .i64 x2))) ∧ (ifB (decide (x1 ≤ x2)) (isPt (C.ptr m.nxt 0) ∧ 
 (∃ x3 : Int, (((ldC m0 (C.ptr m.nxt 0)) = (some (C.int .i64 x3))) ∧ (callP prog tbl [(V.c (C.int .i64 x3))] a200 m0 (fun v4 m5 => 
 (∃ b6 : Bool, ((v4 = (V.c (C.bool b6))) ∧ (ifB b6 (isPt (C.ptr m.nxt 0) ∧ (∃ x7 : Int, (((ldC m5 (C.ptr m.nxt 1)) = (some (C.int .i64 x7))) ∧ 
 (callP prog tbl [(V.c (C.int .i64 x7))] a200 m5 (fun v8 m9 => (∃ b10 : Bool, ((v8 = (V.c (C.bool b10))) ∧ 
 (Q (V.c (C.bool b10)) m9)))))))) (Q (V.c (C.bool false)) m5))))))))) (Q (V.c (C.bool false)) m0))))))))))) : Wc prog tbl 111 [(V.agg 2 [(C.int .i64 a100), (C.int .i64 a101)]), (V.c a200)] m Q :=
 wc_eq (n := 2) rfl (by kernel_rfl) (by kernel_rfl) h
theorem w117 {a100 : Int} {a101 : Bool} {a102 : Int} {a103 : C} {a104 : C} {a105 : C} {a200 : Int} {m : M} {Q : V → M → Prop} (h :
 (∀ m0 : M, ((m0 = (M.new m (AO.cells 6 [(C.int .i64 a100), (C.bool a101), (C.int .i64 a102), a103, 
 a104, a105] false))) → (Q (V.c (C.int .i64 a200)) m0)))) : Wc prog tbl 117 [(V.agg 6 [(C.int .i64 a100), (C.bool a101), (C.int .i64 a102), a103, a104, a105]), (V.c (C.int .i64 a200))] m Q :=
 wc_eq (n := 2) rfl (by kernel_rfl) (by kernel_rfl) h
theorem w120 {a100 : C} {a200 : C} {m : M} {Q : V → M → Prop} (h :
 (Wc prog tbl 131 [(V.c a100), (V.c a200)] m (fun v0 m1 => (∃ x2 : Int, ((v0 = (V.c (C.int .i64 x2))) ∧ (Q (V.c (C.bool (decide ((0 : Int) ≤ x2)))) m1)))))) : Wc prog tbl 120 [(V.c a100), (V.c a200)] m Q :=
 wc_eq (n := 2) rfl (by kernel_rfl) (by kernel_rfl) h
theorem w126 {a100 : C} {a200 : C} {m : M} {Q : V → M → Prop} (h :
 (isSl a100 ∧ (∀ R0 : List V → M → Prop, ((∀ x1 : Int, (∀ x2 : Int, (∀ m3 : M, ((ifB (decide (x2 < (((slLen a100) : Nat) : Int))) (∃ n4 : Nat, 
 ((x2 = ((n4 : Nat) : Int)) ∧ ((n4 < (slLen a100)) ∧ (∃ x5 : Int, (∃ x6 : Int, (∃ x7 : Int, (∃ x8 : Int, 
 (∃ x9 : Int, (∃ x10 : Int, (((ldA m3 (slAt a100 (n4 * 6)) 6) = (some [(C.int .i64 x5), 
 (C.int .i64 x6), (C.int .i64 x7), (C.int .i64 x8), (C.int .i64 x9), 
 (C.int .i64 x10)])) ∧ (callP prog tbl [(V.agg 6 [(C.int .i64 x5), (C.int .i64 x6), 
 (C.int .i64 x7), (C.int .i64 x8), (C.int .i64 x9), (C.int .i64 x10)])] a200 m3 (fun v11 m12 => 
 (∃ b13 : Bool, ((v11 = (V.c (C.bool b13))) ∧ (ifB b13 (Q (V.c (C.int .i64 x2)) m12) (fitsP .i64 (x2 + (1 : Int)) ∧ 
 (R0 [(V.c (C.int .i64 x1)), (V.c (C.int .i64 (x2 + (1 : Int))))] m12))))))))))))))))) (Q (V.c (C.int .i64 (-1 : Int))) m3)) → 
 (R0 [(V.c (C.int .i64 x1)), (V.c (C.int .i64 x2))] m3))))) → (R0 [(V.c (C.int .i64 (0 : Int))), 
 (V.c (C.int .i64 (0 : Int)))] m))))) : Wc prog tbl 126 [(V.c a100), (V.c a200)] m Q :=
 wc_eq (n := 2) rfl (by kernel_rfl) (by kernel_rfl) h
theorem w129 {a100 : Int} {a200 : Int} {m : M} {Q : V → M → Prop} (h :
 (Wc prog tbl 95 [(V.c (C.int .i64 a100))] m (fun v0 m1 => (∃ b2 : Bool, ((v0 = (V.c (C.bool b2))) ∧ (ifB b2 (Wc prog tbl 95 [(V.c (C.int .i64 a200))] m1 (fun v3 m4 => 
 (∃ b5 : Bool, ((v3 = (V.c (C.bool b5))) ∧ (ifB (!b5) (Q (V.c (C.bool true)) m4) (Q (V.c (C.bool (decide (a100 < a200)))) m4)))))) (Q (V.c (C.bool (decide (a100 < a200)))) m1))))))) : Wc prog tbl 129 [(V.c (C.int .i64 a100)), (V.c (C.int .i64 a200))] m Q :=
 wc_eq (n := 2) rfl (by kernel_rfl) (by kernel_rfl) h
theorem w132 {a100 : C} {a200 : C} {m : M} {Q : V → M → Prop} (h :
 (isSl a100 ∧ (∀ R0 : List V → M → Prop, ((∀ x1 : Int, (∀ x2 : Int, (∀ m3 : M, ((ifB (decide (x2 < (((slLen a100) : Nat) : Int))) (∃ n4 : Nat, 
 ((x2 = ((n4 : Nat) : Int)) ∧ ((n4 < (slLen a100)) ∧ (∃ c5 : C, (((ldC m3 (slAt a100 (n4 * 1))) = (some c5)) ∧ 
 (callP prog tbl [(V.c c5)] a200 m3 (fun v6 m7 => (∃ b8 : Bool, ((v6 = (V.c (C.bool b8))) ∧ (ifB b8 (Q (V.c (C.int .i64 x2)) m7) (fitsP .i64 (x2 + (1 : Int)) ∧ 
 (R0 [(V.c (C.int .i64 x1)), (V.c (C.int .i64 (x2 + (1 : Int))))] m7)))))))))))) (Q (V.c (C.int .i64 (-1 : Int))) m3)) → 
 (R0 [(V.c (C.int .i64 x1)), (V.c (C.int .i64 x2))] m3))))) → (R0 [(V.c (C.int .i64 (0 : Int))), 
 (V.c (C.int .i64 (0 : Int)))] m))))) : Wc prog tbl 132 [(V.c a100), (V.c a200)] m Q :=
 wc_eq (n := 2) rfl (by kernel_rfl) (by kernel_rfl) h
theorem w135 {a100 : C} {a200 : C} {m : M} {Q : V → M → Prop} (h :
 (isSl a100 ∧ (∀ R0 : List V → M → Prop, ((∀ x1 : Int, (∀ x2 : Int, (∀ m3 : M, ((ifB (decide (x2 < (((slLen a100) : Nat) : Int))) (∃ n4 : Nat, 
 ((x2 = ((n4 : Nat) : Int)) ∧ ((n4 < (slLen a100)) ∧ (∃ c5 : C, (((ldC m3 (slAt a100 (n4 * 1))) = (some c5)) ∧ 
 (callP prog tbl [(V.c c5)] a200 m3 (fun v6 m7 => (∃ b8 : Bool, ((v6 = (V.c (C.bool b8))) ∧ (ifB b8 (Q (V.c (C.int .i64 x2)) m7) (fitsP .i64 (x2 + (1 : Int)) ∧ 
 (R0 [(V.c (C.int .i64 x1)), (V.c (C.int .i64 (x2 + (1 : Int))))] m7)))))))))))) (Q (V.c (C.int .i64 (-1 : Int))) m3)) → 
 (R0 [(V.c (C.int .i64 x1)), (V.c (C.int .i64 x2))] m3))))) → (R0 [(V.c (C.int .i64 (0 : Int))), 
 (V.c (C.int .i64 (0 : Int)))] m))))) : Wc prog tbl 135 [(V.c a100), (V.c a200)] m Q :=
 wc_eq (n := 2) rfl (by kernel_rfl) (by kernel_rfl) h
end
end Go.Proofs.Ytbhdgedghfibcaa

namespace Go.Proofs.Ytbhdgedghfibcaa
open _root_.Go.Proofs.Try
open Go.Abs
set_option maxRecDepth 100000
noncomputable section
theorem w19 {a100 : C} {m : M} {Q : V → M → Prop} (h :
 (∀ R0 : List V → M → Prop, ((∀ c1 : C, (∀ x2 : Int, (∀ m3 : M, ((isSl a100 ∧ (ifB (decide (x2 < (((slLen a100) : Nat) : Int))) (∀ m4 : M, 
 ((m4 = (mGrow m3 1)) → (∃ n5 : Nat, ((x2 = ((n5 : Nat) : Int)) ∧ ((n5 < (slLen a100)) ∧ (isPt (slAt a100 (n5 * 6)) ∧ 
 (∃ x6 : Int, (((ldC m4 (ptAdd (slAt a100 (n5 * 6)) 0)) = (some (C.int .i64 x6))) ∧ 
 (∃ n7 : Nat, ((x2 = ((n7 : Nat) : Int)) ∧ ((n7 < (slLen a100)) ∧ (isPt (slAt a100 (n7 * 6)) ∧ 
 (∃ b8 : Bool, (((ldC m4 (ptAdd (slAt a100 (n7 * 6)) 1)) = (some (C.bool b8))) ∧ 
 (∃ n9 : Nat, ((x2 = ((n9 : Nat) : Int)) ∧ ((n9 < (slLen a100)) ∧ (isPt (slAt a100 (n9 * 6)) ∧ 
 (∃ x10 : Int, (((ldC m4 (ptAdd (slAt a100 (n9 * 6)) 2)) = (some (C.int .i64 x10))) ∧ 
 (∃ n11 : Nat, ((x2 = ((n11 : Nat) : Int)) ∧ ((n11 < (slLen a100)) ∧ (isPt (slAt a100 (n11 * 6)) ∧ 
 (∃ c12 : C, (((ldC m4 (ptAdd (slAt a100 (n11 * 6)) 3)) = (some c12)) ∧ 
 (Wc prog tbl 58 [(V.c c12)] m4 (fun v13 m14 => (∃ c15 : C, ((v13 = (V.c c15)) ∧ 
 (((ldC m14 (ptAdd (slAt a100 (n9 * 6)) 2)) = (some (C.int .i64 x10))) ∧ 
 (((ldC m14 (ptAdd (slAt a100 (n7 * 6)) 1)) = (some (C.bool b8))) ∧ (((ldC m14 (ptAdd (slAt a100 (n5 * 6)) 0)) = (some (C.int .i64 x6))) ∧ 
 (∃ n16 : Nat, ((x2 = ((n16 : Nat) : Int)) ∧ ((n16 < (slLen a100)) ∧ (isPt (slAt a100 (n16 * 6)) ∧ 
 (∃ c17 : C, (((ldC m14 (ptAdd (slAt a100 (n16 * 6)) 4)) = (some c17)) ∧ 
 ((ifB (noFnC c17) ((ldC m4 (ptAdd (slAt a100 (n16 * 6)) 4)) = (some c17)) False) ∧ 
 (Wc prog tbl 58 [(V.c c17)] m14 (fun v18 m19 => (∃ c20 : C, ((v18 = (V.c c20)) ∧ 
 (((ldC m19 (ptAdd (slAt a100 (n9 * 6)) 2)) = (some (C.int .i64 x10))) ∧ 
 (((ldC m19 (ptAdd (slAt a100 (n7 * 6)) 1)) = (some (C.bool b8))) ∧ (((ldC m19 (ptAdd (slAt a100 (n5 * 6)) 0)) = (some (C.int .i64 x6))) ∧ 
 (∀ m21 : M, ((m21 = (M.set m19 (m3.nxt + 0) (AO.cells 6 [(C.int .i64 (0 : Int)), 
 (C.bool false), (C.int .i64 (0 : Int)), C.sl0, C.sl0, C.sl0] false))) → 
 ((ifB (noFnC c17) ((ldC m21 (ptAdd (slAt a100 (n16 * 6)) 4)) = (some c17)) False) ∧ 
 ((ifB (noFnC c12) ((ldC m21 (ptAdd (slAt a100 (n11 * 6)) 3)) = (some c12)) False) ∧ 
 (((ldC m21 (ptAdd (slAt a100 (n9 * 6)) 2)) = (some (C.int .i64 x10))) ∧ 
 (((ldC m21 (ptAdd (slAt a100 (n7 * 6)) 1)) = (some (C.bool b8))) ∧ (((ldC m21 (ptAdd (slAt a100 (n5 * 6)) 0)) = (some (C.int .i64 x6))) ∧ 
 (∃ m22 : M, (((stC m21 (C.ptr (m3.nxt + 0) 0) 6 [(C.int .i64 x6), (C.bool b8), 
 (C.int .i64 x10), c15, c20, C.sl0]) = (some m22)) ∧ (∀ R23 : List V → 
 M → Prop, ((∀ x24 : Int, (∀ m25 : M, ((∃ n26 : Nat, ((x2 = ((n26 : Nat) : Int)) ∧ 
 ((n26 < (slLen a100)) ∧ (isPt (slAt a100 (n26 * 6)) ∧ (∃ c27 : C, (((ldC m25 (ptAdd (slAt a100 (n26 * 6)) 5)) = (some c27)) ∧ 
 (isSl c27 ∧ (ifB (decide (x24 < (((slLen c27) : Nat) : Int))) (∀ R28 : List V → 
 M → Prop, ((∀ c29 : C, (∀ x30 : Int, (∀ m31 : M, ((∃ n32 : Nat, ((x2 = ((n32 : Nat) : Int)) ∧ 
 ((n32 < (slLen a100)) ∧ (isPt (slAt a100 (n32 * 6)) ∧ (∃ c33 : C, (((ldC m31 (ptAdd (slAt a100 (n32 * 6)) 5)) = (some c33)) ∧ 
 (∃ n34 : Nat, ((x24 = ((n34 : Nat) : Int)) ∧ ((n34 < (slLen c33)) ∧ (∃ c35 : C, 
 (((ldC m31 (slAt c33 (n34 * 1))) = (some c35)) ∧ (isSl c35 ∧ (ifB (decide (x30 < (((slLen c35) : Nat) : Int))) (∃ n36 : Nat, 
 ((x2 = ((n36 : Nat) : Int)) ∧ ((n36 < (slLen a100)) ∧ (isPt (slAt a100 (n36 * 6)) ∧ 
 (∃ c37 : C, (((ldC m31 (ptAdd (slAt a100 (n36 * 6)) 5)) = (some c37)) ∧ 
 (∃ n38 : Nat, ((x24 = ((n38 : Nat) : Int)) ∧ ((n38 < (slLen c37)) ∧ (∃ c39 : C, 
 (((ldC m31 (slAt c37 (n38 * 1))) = (some c39)) ∧ (∃ n40 : Nat, ((x30 = ((n40 : Nat) : Int)) ∧ 
 ((n40 < (slLen c39)) ∧ (∃ c41 : C, (((ldC m31 (slAt c39 (n40 * 1))) = (some c41)) ∧ 
 (Wc prog tbl 58 [(V.c c41)] m31 (fun v42 m43 => (∃ c44 : C, ((v42 = (V.c c44)) ∧ 
 (∀ m45 : M, ((m45 = (M.new m43 (AO.cells 1 [c44] false))) → (∃ c46 : C, (∃ m47 : M, 
 ((ApR prog 77 m45 c29 (C.sl m43.nxt 0 1 0 (some 1)) c46 m47) ∧ (fitsP .i64 (x30 + (1 : Int)) ∧ 
 (R28 [(V.c c46), (V.c (C.int .i64 (x30 + (1 : Int))))] m47))))))))))))))))))))))))))) (isPt (C.ptr (m3.nxt + 0) 0) ∧ 
 (∃ c48 : C, (((ldC m31 (C.ptr (m3.nxt + 0) 5)) = (some c48)) ∧ (∀ m49 : M, 
 ((m49 = (M.new m31 (AO.cells 1 [c29] false))) → (∃ c50 : C, (∃ m51 : M, ((ApR prog 74 m49 c48 (C.sl m31.nxt 0 1 0 (some 1)) c50 m51) ∧ 
 (isPt (C.ptr (m3.nxt + 0) 0) ∧ (∃ m52 : M, (((stC m51 (C.ptr (m3.nxt + 0) 5) 1 [c50]) = (some m52)) ∧ 
 (fitsP .i64 (x24 + (1 : Int)) ∧ (R23 [(V.c (C.int .i64 (x24 + (1 : Int))))] m52)))))))))))))))))))))))))) → 
 (R28 [(V.c c29), (V.c (C.int .i64 x30))] m31))))) → (R28 [(V.c C.sl0), 
 (V.c (C.int .i64 (0 : Int)))] m25))) (∃ x53 : Int, (∃ b54 : Bool, (∃ x55 : Int, 
 (∃ c56 : C, (∃ c57 : C, (∃ c58 : C, (((ldA m25 (C.ptr (m3.nxt + 0) 0) 6) = (some [(C.int .i64 x53), 
 (C.bool b54), (C.int .i64 x55), c56, c57, c58])) ∧ (∀ m59 : M, ((m59 = (M.new m25 (AO.cells 6 [(C.int .i64 x53), 
 (C.bool b54), (C.int .i64 x55), c56, c57, c58] false))) → (∃ c60 : C, 
 (∃ m61 : M, ((ApR prog 28 m59 c1 (C.sl m25.nxt 0 1 0 (some 1)) c60 m61) ∧ 
 (fitsP .i64 (x2 + (1 : Int)) ∧ (R0 [(V.c c60), (V.c (C.int .i64 (x2 + (1 : Int))))] m61)))))))))))))))))))))) → 
 (R23 [(V.c (C.int .i64 x24))] m25)))) → (R23 [(V.c (C.int .i64 (0 : Int)))] m22))))))))))))))))))))))))))))))))))))))))))))))))))))))))))) (Q (V.c c1) m3))) → 
 (R0 [(V.c c1), (V.c (C.int .i64 x2))] m3))))) → (R0 [(V.c C.sl0), (V.c (C.int .i64 (0 : Int)))] m)))) : Wc prog tbl 19 [(V.c a100)] m Q :=
 wc_eq (n := 1) rfl (by kernel_rfl) (by kernel_rfl) h
theorem w22 {a100 : Int} {a200 : Int} {a300 : Int} {m : M} {Q : V → M → Prop} (h :
 (ifB (decide (a200 ≤ a100)) (Q (V.c (C.bool (decide (a100 ≤ a300)))) m) (Q (V.c (C.bool false)) m))) : Wc prog tbl 22 [(V.c (C.int .i64 a100)), (V.c (C.int .i64 a200)), (V.c (C.int .i64 a300))] m Q :=
 wc_eq (n := 3) rfl (by kernel_rfl) (by kernel_rfl) h
theorem w25 {a100 : C} {a200 : Int} {a201 : Int} {a202 : Int} {a203 : Int} {a204 : Int} {a205 : Int} {a300 : Int} {a301 : Int} {m : M} {Q : V → M → Prop} (h :
 (∀ m0 : M, ((m0 = (M.new m (AO.cells 6 [(C.int .i64 a200), (C.int .i64 a201), (C.int .i64 a202), 
 (C.int .i64 a203), (C.int .i64 a204), (C.int .i64 a205)] false))) → (∀ m1 : M, ((m1 = (M.new m0 (AO.cells 2 [(C.int .i64 a300), 
 (C.int .i64 a301)] false))) → (∃ x2 : Int, (∃ x3 : Int, (∃ x4 : Int, (∃ x5 : Int, (∃ x6 : Int, 
 (∃ x7 : Int, (((ldA m1 (C.ptr m.nxt 0) 6) = (some [(C.int .i64 x2), (C.int .i64 x3), 
 (C.int .i64 x4), (C.int .i64 x5), (C.int .i64 x6), (C.int .i64 x7)])) ∧ 
 (∀ m8 : M, ((m8 = (M.new m1 (AO.cells 6 [(C.int .i64 x2), (C.int .i64 x3), (C.int .i64 x4), 
 (C.int .i64 x5), (C.int .i64 x6), (C.int .i64 x7)] false))) → (Wc prog tbl 63 [(V.c a100), 
 (V.c (C.sl m1.nxt 0 1 0 (some 1)))] m8 (fun v9 m10 => (∃ c11 : C, (∃ c12 : C, (∃ x13 : Int, 
 ((v9 = (V.tup [(U.agg 2 [c11, c12]), (U.c (C.int .i64 x13))])) ∧ (∀ m14 : M, ((m14 = (M.new m10 (AO.cells 2 [C.sl0, 
 C.map0] false))) → (∃ m15 : M, (((stC m14 (C.ptr m10.nxt 0) 2 [c11, c12]) = (some m15)) ∧ 
 (ifB (!decide (x13 = (0 : Int))) (Q (V.tup [(U.c (C.int .i64 (0 : Int))), (U.c (C.int .i64 x13))]) m15) (∃ x16 : Int, 
 (∃ x17 : Int, (∃ x18 : Int, (∃ x19 : Int, (∃ x20 : Int, (∃ x21 : Int, (((ldA m15 (C.ptr m.nxt 0) 6) = (some [(C.int .i64 x16), 
 (C.int .i64 x17), (C.int .i64 x18), (C.int .i64 x19), (C.int .i64 x20), 
 (C.int .i64 x21)])) ∧ (∃ x22 : Int, (∃ x23 : Int, (((ldA m15 (C.ptr m0.nxt 0) 2) = (some [(C.int .i64 x22), 
 (C.int .i64 x23)])) ∧ (Wc prog tbl 64 [(V.agg 6 [(C.int .i64 x16), 
 (C.int .i64 x17), (C.int .i64 x18), (C.int .i64 x19), (C.int .i64 x20), 
 (C.int .i64 x21)]), (V.agg 2 [(C.int .i64 x22), (C.int .i64 x23)])] m15 (fun v24 m25 => 
 (∃ b26 : Bool, ((v24 = (V.c (C.bool b26))) ∧ (ifB (!b26) (Q (V.tup [(U.c (C.int .i64 (0 : Int))), 
 (U.c (C.int .i64 (2 : Int)))]) m25) (∃ c27 : C, (∃ c28 : C, (((ldA m25 (C.ptr m10.nxt 0) 2) = (some [c27, 
 c28])) ∧ (∃ x29 : Int, (∃ x30 : Int, (∃ x31 : Int, (∃ x32 : Int, (∃ x33 : Int, 
 (∃ x34 : Int, (((ldA m25 (C.ptr m.nxt 0) 6) = (some [(C.int .i64 x29), 
 (C.int .i64 x30), (C.int .i64 x31), (C.int .i64 x32), (C.int .i64 x33), 
 (C.int .i64 x34)])) ∧ (∃ x35 : Int, (∃ x36 : Int, (((ldA m25 (C.ptr m0.nxt 0) 2) = (some [(C.int .i64 x35), 
 (C.int .i64 x36)])) ∧ (Wc prog tbl 65 [(V.agg 2 [c27, c28]), (V.agg 6 [(C.int .i64 x29), 
 (C.int .i64 x30), (C.int .i64 x31), (C.int .i64 x32), (C.int .i64 x33), 
 (C.int .i64 x34)]), (V.agg 2 [(C.int .i64 x35), (C.int .i64 x36)])] m25 (fun v37 m38 => 
 (∃ x39 : Int, ((v37 = (V.c (C.int .i64 x39))) ∧ (Q (V.tup [(U.c (C.int .i64 x39)), 
 (U.c (C.int .i64 (0 : Int)))]) m38)))))))))))))))))))))))))))))))))))))))))))))))))))))))))) : Wc prog tbl 25 [(V.c a100), (V.agg 6 [(C.int .i64 a200), (C.int .i64 a201), (C.int .i64 a202), (C.int .i64 a203), (C.int .i64 a204), (C.int .i64 a205)]), (V.agg 2 [(C.int .i64 a300), (C.int .i64 a301)])] m Q :=
 wc_eq (n := 3) rfl (by kernel_rfl) (by kernel_rfl) h
theorem w46 {a100 : Int} {a200 : Int} {m : M} {Q : V → M → Prop} (h :
 (∀ m0 : M, ((m0 = (M.new m (AO.cells 2 [(C.int .i64 (0 : Int)), (C.int .i64 (0 : Int))] false))) → 
 (∃ m1 : M, (((stC m0 (C.ptr m.nxt 0) 2 [(C.int .i64 a100), (C.int .i64 a200)]) = (some m1)) ∧ 
 (∃ x2 : Int, (∃ x3 : Int, (((ldA m1 (C.ptr m.nxt 0) 2) = (some [(C.int .i64 x2), (C.int .i64 x3)])) ∧ 
 (Q (V.agg 2 [(C.int .i64 x2), (C.int .i64 x3)]) m1))))))))) : Wc prog tbl 46 [(V.c (C.int .i64 a100)), (V.c (C.int .i64 a200))] m Q :=
 wc_eq (n := 2) rfl (by kernel_rfl) (by kernel_rfl) h
theorem w55 {a100 : Int} {m : M} {Q : V → M → Prop} (h :
 (Wc prog tbl 78 [(V.agg 2 [(C.int .i64 (0 : Int)), (C.int .i64 (120 : Int))]), (V.c (C.int .i64 a100))] m (fun v0 m1 => 
 (∃ b2 : Bool, ((v0 = (V.c (C.bool b2))) ∧ (Q (V.c (C.bool b2)) m1)))))) : Wc prog tbl 55 [(V.c (C.int .i64 a100))] m Q :=
 wc_eq (n := 1) rfl (by kernel_rfl) (by kernel_rfl) h
theorem w58 {a100 : C} {m : M} {Q : V → M → Prop} (h :
 (∀ m0 : M, ((m0 = (M.new m (AO.cells 0 [] false))) → (∃ c1 : C, (∃ m2 : M, ((ApR prog 73 m0 (C.sl m.nxt 0 0 0 (some 0)) a100 c1 m2) ∧ 
 (Q (V.c c1) m2))))))) : Wc prog tbl 58 [(V.c a100)] m Q :=
 wc_eq (n := 1) rfl (by kernel_rfl) (by kernel_rfl) h
theorem w61 {a100 : C} {m : M} {Q : V → M → Prop} (h :
 (Wc prog tbl 84 [(V.c a100), (V.c (C.fn (Fn.func 85) [] []))] m (fun v0 m1 => (∃ b2 : Bool, ((v0 = (V.c (C.bool b2))) ∧ 
 (ifB b2 (Wc prog tbl 87 [(V.c a100)] m1 (fun v3 m4 => (∃ c5 : C, ((v3 = (V.c c5)) ∧ (Wc prog tbl 86 [(V.c c5)] m4 (fun v6 m7 => 
 (∃ b8 : Bool, ((v6 = (V.c (C.bool b8))) ∧ (ifB b8 (optB (mapO vW [(V.c a100)]) False fun l9 => (Wc prog tbl 84 [(V.c a100), 
 (V.c (C.fn (Fn.func 88) l9 []))] m7 (fun v10 m11 => (∃ b12 : Bool, ((v10 = (V.c (C.bool b12))) ∧ 
 (Q (V.c (C.bool b12)) m11)))))) (Q (V.c (C.bool false)) m7)))))))))) (Q (V.c (C.bool false)) m1))))))) : Wc prog tbl 61 [(V.c a100)] m Q :=
 wc_eq (n := 1) rfl (by kernel_rfl) (by kernel_rfl) h
theorem w64 {a100 : Int} {a101 : Int} {a102 : Int} {a103 : Int} {a104 : Int} {a105 : Int} {a200 : Int} {a201 : Int} {m : M} {Q : V → M → Prop} (h :
 (∀ m0 : M, ((m0 = (M.new m (AO.cells 6 [(C.int .i64 a100), (C.int .i64 a101), (C.int .i64 a102), 
 (C.int .i64 a103), (C.int .i64 a104), (C.int .i64 a105)] false))) → (∀ m1 : M, ((m1 = (M.new m0 (AO.cells 2 [(C.int .i64 a200), 
 (C.int .i64 a201)] false))) → (isPt (C.ptr m.nxt 0) ∧ (∃ x2 : Int, (∃ x3 : Int, (((ldA m1 (C.ptr m.nxt 2) 2) = (some [(C.int .i64 x2), 
 (C.int .i64 x3)])) ∧ (isPt (C.ptr m0.nxt 0) ∧ (∃ x4 : Int, (((ldC m1 (C.ptr m0.nxt 0)) = (some (C.int .i64 x4))) ∧ 
 (Wc prog tbl 78 [(V.agg 2 [(C.int .i64 x2), (C.int .i64 x3)]), (V.c (C.int .i64 x4))] m1 (fun v5 m6 => 
 (∃ b7 : Bool, ((v5 = (V.c (C.bool b7))) ∧ (ifB b7 (isPt (C.ptr m.nxt 0) ∧ (∃ x8 : Int, (∃ x9 : Int, 
 (((ldA m6 (C.ptr m.nxt 4) 2) = (some [(C.int .i64 x8), (C.int .i64 x9)])) ∧ 
 (isPt (C.ptr m0.nxt 0) ∧ (∃ x10 : Int, (((ldC m6 (C.ptr m0.nxt 1)) = (some (C.int .i64 x10))) ∧ 
 (Wc prog tbl 78 [(V.agg 2 [(C.int .i64 x8), (C.int .i64 x9)]), (V.c (C.int .i64 x10))] m6 (fun v11 m12 => 
 (∃ b13 : Bool, ((v11 = (V.c (C.bool b13))) ∧ (Q (V.c (C.bool b13)) m12)))))))))))) (Q (V.c (C.bool false)) m6)))))))))))))))))) : Wc prog tbl 64 [(V.agg 6 [(C.int .i64 a100), (C.int .i64 a101), (C.int .i64 a102), (C.int .i64 a103), (C.int .i64 a104), (C.int .i64 a105)]), (V.agg 2 [(C.int .i64 a200), (C.int .i64 a201)])] m Q :=
 wc_eq (n := 2) rfl (by kernel_rfl) (by kernel_rfl) h
theorem w67 {a100 : C} {a101 : C} {a200 : Int} {a201 : Int} {a202 : Int} {a203 : Int} {a204 : Int} {a205 : Int} {m : M} {Q : V → M → Prop} (h :
 (∀ m0 : M, ((m0 = (M.new m (AO.cells 2 [a100, a101] false))) → (∀ m1 : M, ((m1 = (M.new m0 (AO.cells 6 [(C.int .i64 a200), 
 (C.int .i64 a201), (C.int .i64 a202), (C.int .i64 a203), (C.int .i64 a204), 
 (C.int .i64 a205)] false))) → (∀ m2 : M, ((m2 = (M.new m1 (AO.cells 2 [(C.int .i64 (0 : Int)), 
 (C.int .i64 (0 : Int))] false))) → (∀ m3 : M, ((m3 = (M.new m2 (AO.cells 1 [C.sl0] false))) → 
 (∃ x4 : Int, (∃ x5 : Int, (∃ x6 : Int, (∃ x7 : Int, (∃ x8 : Int, (∃ x9 : Int, (((ldA m3 (C.ptr m0.nxt 0) 6) = (some [(C.int .i64 x4), 
 (C.int .i64 x5), (C.int .i64 x6), (C.int .i64 x7), (C.int .i64 x8), 
 (C.int .i64 x9)])) ∧ (Wc prog tbl 69 [(V.agg 6 [(C.int .i64 x4), (C.int .i64 x5), 
 (C.int .i64 x6), (C.int .i64 x7), (C.int .i64 x8), (C.int .i64 x9)])] m3 (fun v10 m11 => 
 (∃ c12 : C, ((v10 = (V.c c12)) ∧ (rangeP prog tbl c12 m11 (fun l13 m14 R15 R16 => (∃ x17 : Int, 
 (∃ x18 : Int, ((l13 = [(V.agg 2 [(C.int .i64 x17), (C.int .i64 x18)])]) ∧ 
 (∀ m19 : M, ((m19 = (M.new m14 (AO.cells 2 [(C.int .i64 (0 : Int)), (C.int .i64 (0 : Int))] false))) → 
 (∃ m20 : M, (((stC m19 (C.ptr m14.nxt 0) 2 [(C.int .i64 x17), (C.int .i64 x18)]) = (some m20)) ∧ 
 (R15 m20 (fun m21 => (∃ c22 : C, (((ldC m21 (C.ptr m2.nxt 0)) = (some c22)) ∧ 
 (∃ c23 : C, (∃ c24 : C, (((ldA m21 (C.ptr m.nxt 0) 2) = (some [c23, 
 c24])) ∧ (∃ x25 : Int, (∃ x26 : Int, (∃ x27 : Int, (∃ x28 : Int, (∃ x29 : Int, 
 (∃ x30 : Int, (((ldA m21 (C.ptr m0.nxt 0) 6) = (some [(C.int .i64 x25), 
 (C.int .i64 x26), (C.int .i64 x27), (C.int .i64 x28), (C.int .i64 x29), 
 (C.int .i64 x30)])) ∧ (∃ x31 : Int, (∃ x32 : Int, (((ldA m21 (C.ptr m14.nxt 0) 2) = (some [(C.int .i64 x31), 
 (C.int .i64 x32)])) ∧ (Wc prog tbl 65 [(V.agg 2 [c23, c24]), (V.agg 6 [(C.int .i64 x25), 
 (C.int .i64 x26), (C.int .i64 x27), (C.int .i64 x28), (C.int .i64 x29), 
 (C.int .i64 x30)]), (V.agg 2 [(C.int .i64 x31), (C.int .i64 x32)])] m21 (fun v33 m34 => 
 (∃ x35 : Int, ((v33 = (V.c (C.int .i64 x35))) ∧ ((ifB (noFnC c22) ((ldC m34 (C.ptr m2.nxt 0)) = (some c22)) False) ∧ 
 (∀ m36 : M, ((m36 = (M.new m34 (AO.cells 1 [(C.int .i64 x35)] false))) → 
 ((ifB (noFnC c22) ((ldC m36 (C.ptr m2.nxt 0)) = (some c22)) False) ∧ 
 (∃ c37 : C, (∃ m38 : M, ((ApR prog 73 m36 c22 (C.sl m34.nxt 0 1 0 (some 1)) c37 m38) ∧ 
 (∃ m39 : M, (((stC m38 (C.ptr m2.nxt 0) 1 [c37]) = (some m39)) ∧ (R16 Ex.nrm m39))))))))))))))))))))))))))))))))))))))) (After.mk (fun m40 => 
 (∃ c41 : C, (((ldC m40 (C.ptr m2.nxt 0)) = (some c41)) ∧ (Wc prog tbl 91 [(V.c c41)] m40 (fun v42 m43 => 
 (∃ x44 : Int, ((v42 = (V.c (C.int .i64 x44))) ∧ (∃ c45 : C, (((ldC m43 (C.ptr m2.nxt 0)) = (some c45)) ∧ 
 ((ifB (noFnC c45) ((ldC m40 (C.ptr m2.nxt 0)) = (some c45)) False) ∧ 
 (Wc prog tbl 92 [(V.c c45)] m43 (fun v46 m47 => (∃ x48 : Int, ((v46 = (V.c (C.int .i64 x48))) ∧ 
 (∃ m49 : M, (((stC m47 (C.ptr m1.nxt 0) 2 [(C.int .i64 x44), (C.int .i64 x48)]) = (some m49)) ∧ 
 (∃ x50 : Int, (∃ x51 : Int, (((ldA m49 (C.ptr m1.nxt 0) 2) = (some [(C.int .i64 x50), 
 (C.int .i64 x51)])) ∧ (Q (V.agg 2 [(C.int .i64 x50), (C.int .i64 x51)]) m49)))))))))))))))))))) [] (fun m52 => 
 (∃ x53 : Int, (∃ x54 : Int, (((ldA m52 (C.ptr m1.nxt 0) 2) = (some [(C.int .i64 x53), 
 (C.int .i64 x54)])) ∧ (Q (V.agg 2 [(C.int .i64 x53), (C.int .i64 x54)]) m52))))))))))))))))))))))))))) : Wc prog tbl 67 [(V.agg 2 [a100, a101]), (V.agg 6 [(C.int .i64 a200), (C.int .i64 a201), (C.int .i64 a202), (C.int .i64 a203), (C.int .i64 a204), (C.int .i64 a205)])] m Q :=
 wc_eq (n := 2) rfl (by kernel_rfl) (by kernel_rfl) h
theorem w79 {a100 : C} {a200 : Int} {m : M} {Q : V → M → Prop} (h :
 (∀ m0 : M, ((m0 = (M.new m (AO.cells 6 [(C.int .i64 (0 : Int)), (C.bool false), (C.int .i64 (0 : Int)), 
 C.sl0, C.sl0, C.sl0] false))) → (Wc prog tbl 87 [(V.c a100)] m0 (fun v1 m2 => (∃ c3 : C, ((v1 = (V.c c3)) ∧ 
 (Wc prog tbl 98 [(V.c c3), (V.c (C.int .i64 a200))] m2 (fun v4 m5 => (∃ x6 : Int, ((v4 = (V.c (C.int .i64 x6))) ∧ 
 (∃ n7 : Nat, ((x6 = ((n7 : Nat) : Int)) ∧ ((n7 < (slLen a100)) ∧ (∃ x8 : Int, (∃ b9 : Bool, (∃ x10 : Int, 
 (∃ c11 : C, (∃ c12 : C, (∃ c13 : C, (((ldA m5 (slAt a100 (n7 * 6)) 6) = (some [(C.int .i64 x8), 
 (C.bool b9), (C.int .i64 x10), c11, c12, c13])) ∧ (∃ m14 : M, (((stC m5 (C.ptr m.nxt 0) 6 [(C.int .i64 x8), 
 (C.bool b9), (C.int .i64 x10), c11, c12, c13]) = (some m14)) ∧ (∃ x15 : Int, 
 (∃ b16 : Bool, (∃ x17 : Int, (∃ c18 : C, (∃ c19 : C, (∃ c20 : C, (((ldA m14 (C.ptr m.nxt 0) 6) = (some [(C.int .i64 x15), 
 (C.bool b16), (C.int .i64 x17), c18, c19, c20])) ∧ (Q (V.agg 6 [(C.int .i64 x15), 
 (C.bool b16), (C.int .i64 x17), c18, c19, c20]) m14))))))))))))))))))))))))))))))) : Wc prog tbl 79 [(V.c a100), (V.c (C.int .i64 a200))] m Q :=
 wc_eq (n := 2) rfl (by kernel_rfl) (by kernel_rfl) h
theorem w82 {a100 : C} {a200 : C} {m : M} {Q : V → M → Prop} (h :
 (Wc prog tbl 102 [(V.c a100), (V.c a200)] m (fun v0 m1 => (∃ x2 : Int, ((v0 = (V.c (C.int .i64 x2))) ∧ (Q (V.c (C.bool (decide ((0 : Int) ≤ x2)))) m1)))))) : Wc prog tbl 82 [(V.c a100), (V.c a200)] m Q :=
 wc_eq (n := 2) rfl (by kernel_rfl) (by kernel_rfl) h
theorem w85 {a100 : Int} {a101 : Bool} {a102 : Int} {a103 : C} {a104 : C} {a105 : C} {m : M} {Q : V → M → Prop} (h :
 (∀ m0 : M, ((m0 = (M.new m (AO.cells 6 [(C.int .i64 a100), (C.bool a101), (C.int .i64 a102), a103, 
 a104, a105] false))) → (isPt (C.ptr m.nxt 0) ∧ (∃ x1 : Int, (((ldC m0 (C.ptr m.nxt 0)) = (some (C.int .i64 x1))) ∧ 
 (Wc prog tbl 55 [(V.c (C.int .i64 x1))] m0 (fun v2 m3 => (∃ b4 : Bool, ((v2 = (V.c (C.bool b4))) ∧ 
 (ifB b4 (isPt (C.ptr m.nxt 0) ∧ (∃ x5 : Int, (((ldC m3 (C.ptr m.nxt 2)) = (some (C.int .i64 x5))) ∧ 
 (Wc prog tbl 105 [(V.c (C.int .i64 x5))] m3 (fun v6 m7 => (∃ b8 : Bool, ((v6 = (V.c (C.bool b8))) ∧ 
 (ifB b8 (isPt (C.ptr m.nxt 0) ∧ (∃ c9 : C, (((ldC m7 (C.ptr m.nxt 3)) = (some c9)) ∧ 
 (Wc prog tbl 86 [(V.c c9)] m7 (fun v10 m11 => (∃ b12 : Bool, ((v10 = (V.c (C.bool b12))) ∧ 
 (ifB b12 (isPt (C.ptr m.nxt 0) ∧ (∃ c13 : C, (((ldC m11 (C.ptr m.nxt 3)) = (some c13)) ∧ 
 (Wc prog tbl 106 [(V.c c13), (V.c (C.fn (Fn.func 55) [] []))] m11 (fun v14 m15 => 
 (∃ b16 : Bool, ((v14 = (V.c (C.bool b16))) ∧ (ifB b16 (isPt (C.ptr m.nxt 0) ∧ 
 (∃ c17 : C, (((ldC m15 (C.ptr m.nxt 4)) = (some c17)) ∧ (Wc prog tbl 86 [(V.c c17)] m15 (fun v18 m19 => 
 (∃ b20 : Bool, ((v18 = (V.c (C.bool b20))) ∧ (ifB b20 (isPt (C.ptr m.nxt 0) ∧ 
 (∃ c21 : C, (((ldC m19 (C.ptr m.nxt 4)) = (some c21)) ∧ (isPt (C.ptr m.nxt 0) ∧ 
 (∃ c22 : C, (((ldC m19 (C.ptr m.nxt 4)) = (some c22)) ∧ (isSl c22 ∧ 
 (fitsP .i64 ((((slLen c22) : Nat) : Int) - (1 : Int)) ∧ (∃ n23 : Nat, 
 ((((((slLen c22) : Nat) : Int) - (1 : Int)) = ((n23 : Nat) : Int)) ∧ ((n23 < (slLen c21)) ∧ 
 (∃ x24 : Int, (((ldC m19 (slAt c21 (n23 * 1))) = (some (C.int .i64 x24))) ∧ 
 (ifB (decide (x24 = (100 : Int))) (isPt (C.ptr m.nxt 0) ∧ (∃ c25 : C, (((ldC m19 (C.ptr m.nxt 5)) = (some c25)) ∧ 
 (isSl c25 ∧ (ifB (decide ((0 : Int) < (((slLen c25) : Nat) : Int))) (isPt (C.ptr m.nxt 0) ∧ 
 (∃ c26 : C, (((ldC m19 (C.ptr m.nxt 5)) = (some c26)) ∧ (∃ x27 : Int, 
 (∃ b28 : Bool, (∃ x29 : Int, (∃ c30 : C, (∃ c31 : C, (∃ c32 : C, (((ldA m19 (C.ptr m.nxt 0) 6) = (some [(C.int .i64 x27), 
 (C.bool b28), (C.int .i64 x29), c30, c31, c32])) ∧ (optB (mapO vW [(V.agg 6 [(C.int .i64 x27), 
 (C.bool b28), (C.int .i64 x29), c30, c31, c32])]) False fun l33 => (Wc prog tbl 107 [(V.c c26), 
 (V.c (C.fn (Fn.func 108) l33 []))] m19 (fun v34 m35 => (∃ b36 : Bool, ((v34 = (V.c (C.bool b36))) ∧ 
 (Q (V.c (C.bool b36)) m35)))))))))))))))) (Q (V.c (C.bool false)) m19)))))) (Q (V.c (C.bool false)) m19))))))))))))))) (Q (V.c (C.bool false)) m19))))))))) (Q (V.c (C.bool false)) m15))))))))) (Q (V.c (C.bool false)) m11))))))))) (Q (V.c (C.bool false)) m7))))))))) (Q (V.c (C.bool false)) m3)))))))))))) : Wc prog tbl 85 [(V.agg 6 [(C.int .i64 a100), (C.bool a101), (C.int .i64 a102), a103, a104, a105])] m Q :=
 wc_eq (n := 1) rfl (by kernel_rfl) (by kernel_rfl) h
theorem w88 {a100 : C} {a200 : Int} {a201 : Bool} {a202 : Int} {a203 : C} {a204 : C} {a205 : C} {m : M} {Q : V → M → Prop} (h :
 (∀ m0 : M, ((m0 = (M.new m (AO.cells 6 [(C.int .i64 a200), (C.bool a201), (C.int .i64 a202), a203, 
 a204, a205] false))) → (isPt (C.ptr m.nxt 0) ∧ (∃ c1 : C, (((ldC m0 (C.ptr m.nxt 5)) = (some c1)) ∧ 
 (isSl c1 ∧ (∃ n2 : Nat, (((0 : Int) = ((n2 : Nat) : Int)) ∧ ((n2 < (slLen a100)) ∧ (isPt (slAt a100 (n2 * 6)) ∧ 
 (∃ c3 : C, (((ldC m0 (ptAdd (slAt a100 (n2 * 6)) 5)) = (some c3)) ∧ (isSl c3 ∧ (Q (V.c (C.bool (decide ((((slLen c1) : Nat) : Int) = (((slLen c3) : Nat) : Int))))) m0))))))))))))))) : Wc prog tbl 88 [(V.c a100), (V.agg 6 [(C.int .i64 a200), (C.bool a201), (C.int .i64 a202), a203, a204, a205])] m Q :=
 wc_eq (n := 2) rfl (by kernel_rfl) (by kernel_rfl) h
theorem w91 {a100 : C} {m : M} {Q : V → M → Prop} (h :
 (isSl a100 ∧ (ifB (decide ((((slLen a100) : Nat) : Int) = (0 : Int))) (Q (V.c (C.int .i64 (0 : Int))) m) (∃ n0 : Nat, 
 (((0 : Int) = ((n0 : Nat) : Int)) ∧ ((n0 < (slLen a100)) ∧ (∃ x1 : Int, (((ldC m (slAt a100 (n0 * 1))) = (some (C.int .i64 x1))) ∧ 
 (isSl a100 ∧ (∀ R2 : List V → M → Prop, ((∀ x3 : Int, (∀ x4 : Int, (∀ m5 : M, ((ifB (decide (x4 < (((slLen a100) : Nat) : Int))) (∃ n6 : Nat, 
 ((x4 = ((n6 : Nat) : Int)) ∧ ((n6 < (slLen a100)) ∧ (∃ x7 : Int, (((ldC m5 (slAt a100 (n6 * 1))) = (some (C.int .i64 x7))) ∧ 
 (ifB (decide (x7 < x3)) (fitsP .i64 (x4 + (1 : Int)) ∧ (R2 [(V.c (C.int .i64 x7)), 
 (V.c (C.int .i64 (x4 + (1 : Int))))] m5)) (fitsP .i64 (x4 + (1 : Int)) ∧ 
 (R2 [(V.c (C.int .i64 x3)), (V.c (C.int .i64 (x4 + (1 : Int))))] m5)))))))) (Q (V.c (C.int .i64 x3)) m5)) → 
 (R2 [(V.c (C.int .i64 x3)), (V.c (C.int .i64 x4))] m5))))) → (R2 [(V.c (C.int .i64 x1)), 
 (V.c (C.int .i64 (0 : Int)))] m)))))))))))) : Wc prog tbl 91 [(V.c a100)] m Q :=
 wc_eq (n := 1) rfl (by kernel_rfl) (by kernel_rfl) h
theorem w100 {a100 : Int} {a101 : Bool} {a102 : Int} {a103 : C} {a104 : C} {a105 : C} {m : M} {Q : V → M → Prop} (h :
 (∀ m0 : M, ((m0 = (M.new m (AO.cells 6 [(C.int .i64 a100), (C.bool a101), (C.int .i64 a102), a103, 
 a104, a105] false))) → (∀ m1 : M, ((m1 = (M.new m0 (AO.cells 1 [C.nilFn] false))) → (isPt (C.ptr m.nxt 0) ∧ 
 (∃ b2 : Bool, (((ldC m1 (C.ptr m.nxt 1)) = (some (C.bool b2))) ∧ (ifB b2 (∃ m3 : M, (((stC m1 (C.ptr m0.nxt 0) 1 [(C.fn (Fn.func 117) [] [])]) = (some m3)) ∧ 
 (∃ c4 : C, (((ldA m3 (C.ptr m0.nxt 0) 1) = (some [c4])) ∧ (Q (V.agg 1 [c4]) m3))))) (∃ m5 : M, 
 (((stC m1 (C.ptr m0.nxt 0) 1 [(C.fn (Fn.func 118) [] [])]) = (some m5)) ∧ (∃ c6 : C, (((ldA m5 (C.ptr m0.nxt 0) 1) = (some [c6])) ∧ 
 (Q (V.agg 1 [c6]) m5)))))))))))))) : Wc prog tbl 100 [(V.agg 6 [(C.int .i64 a100), (C.bool a101), (C.int .i64 a102), a103, a104, a105])] m Q :=
 wc_eq (n := 1) rfl (by kernel_rfl) (by kernel_rfl) h
theorem w103 {a100 : C} {a200 : C} {m : M} {Q : V → M → Prop} (h :
 (Wc prog tbl 119 [(V.c a100), (V.c a200)] m (fun v0 m1 => (∃ x2 : Int, ((v0 = (V.c (C.int .i64 x2))) ∧ (Q (V.c (C.bool (decide ((0 : Int) ≤ x2)))) m1)))))) : Wc prog tbl 103 [(V.c a100), (V.c a200)] m Q :=
 wc_eq (n := 2) rfl (by kernel_rfl) (by kernel_rfl) h
theorem w106 {a100 : C} {a200 : C} {m : M} {Q : V → M → Prop} (h :
 (∀ m0 : M, ((m0 = (M.new m (AO.cells 1 [a200] false))) → (Wc prog tbl 120 [(V.c a100), (V.c (C.fn (Fn.func 121) [] [(W.c (C0.ptr m.nxt 0))]))] m0 (fun v1 m2 => 
 (∃ b3 : Bool, ((v1 = (V.c (C.bool b3))) ∧ (Q (V.c (C.bool (!b3))) m2)))))))) : Wc prog tbl 106 [(V.c a100), (V.c a200)] m Q :=
 wc_eq (n := 2) rfl (by kernel_rfl) (by kernel_rfl) h
theorem w109 {a100 : C} {a200 : C} {m : M} {Q : V → M → Prop} (h :
 (Wc prog tbl 126 [(V.c a100), (V.c a200)] m (fun v0 m1 => (∃ x2 : Int, ((v0 = (V.c (C.int .i64 x2))) ∧ (Q (V.c (C.bool (decide ((0 : Int) ≤ x2)))) m1)))))) : Wc prog tbl 109 [(V.c a100), (V.c a200)] m Q :=
 wc_eq (n := 2) rfl (by kernel_rfl) (by kernel_rfl) h
theorem w118 {a100 : Int} {a101 : Bool} {a102 : Int} {a103 : C} {a104 : C} {a105 : C} {a200 : Int} {m : M} {Q : V → M → Prop} (h :
 (∀ m0 : M, ((m0 = (M.new m (AO.cells 6 [(C.int .i64 a100), (C.bool a101), (C.int .i64 a102), a103, 
 a104, a105] false))) → (isPt (C.ptr m.nxt 0) ∧ (∃ x1 : Int, (((ldC m0 (C.ptr m.nxt 2)) = (some (C.int .i64 x1))) ∧ 
 (fitsP .i64 (a200 - x1) ∧ (Q (V.c (C.int .i64 (a200 - x1))) m0)))))))) : Wc prog tbl 118 [(V.agg 6 [(C.int .i64 a100), (C.bool a101), (C.int .i64 a102), a103, a104, a105]), (V.c (C.int .i64 a200))] m Q :=
 wc_eq (n := 2) rfl (by kernel_rfl) (by kernel_rfl) h
theorem w124 {a100 : C} {a200 : C} {m : M} {Q : V → M → Prop} (h :
 (∀ m0 : M, ((m0 = (M.new m (AO.cells 1 [a200] false))) → (Wc prog tbl 133 [(V.c a100), (V.c (C.fn (Fn.func 134) [] [(W.c (C0.ptr m.nxt 0))]))] m0 (fun v1 m2 => 
 (∃ b3 : Bool, ((v1 = (V.c (C.bool b3))) ∧ (Q (V.c (C.bool (!b3))) m2)))))))) : Wc prog tbl 124 [(V.c a100), (V.c a200)] m Q :=
 wc_eq (n := 2) rfl (by kernel_rfl) (by kernel_rfl) h
theorem w130 {a100 : Int} {m : M} {Q : V → M → Prop} (h :
 (Q (V.c (C.bool (!decide (a100 = a100)))) m)) : Wc prog tbl 130 [(V.c (C.int .i64 a100))] m Q :=
 wc_eq (n := 1) rfl (by kernel_rfl) (by kernel_rfl) h
theorem w133 {a100 : C} {a200 : C} {m : M} {Q : V → M → Prop} (h :
 (Wc prog tbl 135 [(V.c a100), (V.c a200)] m (fun v0 m1 => (∃ x2 : Int, ((v0 = (V.c (C.int .i64 x2))) ∧ (Q (V.c (C.bool (decide ((0 : Int) ≤ x2)))) m1)))))) : Wc prog tbl 133 [(V.c a100), (V.c a200)] m Q :=
 wc_eq (n := 2) rfl (by kernel_rfl) (by kernel_rfl) h
end
end Go.Proofs.Ytbhdgedghfibcaa

