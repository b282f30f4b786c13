/- An evaluator of the code of a program, its soundness, what calls ask, memory, and what functions of the program do. Condition: none; a lemma text of this claim. -/
import Derived.Test.YtbnfnhfanooplaaStG

namespace Go.Proofs.Ytbnfnhfanooplaa
open _root_.Go.Proofs.Try
open Go.Abs
set_option maxRecDepth 100000
noncomputable section
theorem w12 {a100 : Int} {a101 : Int} {a102 : Int} {a103 : Int} {a104 : Int} {a105 : Int} {a106 : Int} {a107 : Int} {a108 : Int} {a109 : Int} {a110 : Int} {a111 : C} {a200 : Int} {m : M} {Q : V → M → Prop} (h :
 (∀ m0 : M, (m0 = (M.new m (AO.cells 12 [(Il a100), (Il a101), (Il a102), 
 (Il a103), (Il a104), (Il a105), (Il a106), 
 (Il a107), (Il a108), (Il a109), (Il a110), 
 a111] false))) → ∃ x1, ∃ x2, ∃ x3, ∃ x4, ∃ x5, ∃ x6, ∃ x7, 
 ∃ x8, ∃ x9, ∃ x10, ∃ x11, ∃ c12 : C, ((ldA m0 (C.ptr m.nxt 0) 12) = (some [(Il x1), 
 (Il x2), (Il x3), (Il x4), (Il x5), 
 (Il x6), (Il x7), (Il x8), (Il x9), 
 (Il x10), (Il x11), c12])) ∧ Wc prog tbl 49 [(V.agg 12 [(Il x1), 
 (Il x2), (Il x3), (Il x4), (Il x5), 
 (Il x6), (Il x7), (Il x8), (Il x9), 
 (Il x10), (Il x11), c12])] m0 (fun v13 m14 => ∃ b15 : Bool, 
 (v13 = (V.c (C.bool b15))) ∧ ifB (!b15) (Wc prog tbl 17 [] m14 (fun v16 m17 => ∃ b18 : Bool, 
 (v16 = (V.c (C.bool b18))) ∧ Q (V.c (C.bool b18)) m17)) (∃ x19, ∃ x20, 
 ∃ x21, ∃ x22, ∃ x23, ∃ x24, ∃ x25, ∃ x26, ∃ x27, 
 ∃ x28, ∃ x29, ∃ c30 : C, ((ldA m14 (C.ptr m.nxt 0) 12) = (some [(Il x19), 
 (Il x20), (Il x21), (Il x22), (Il x23), 
 (Il x24), (Il x25), (Il x26), (Il x27), 
 (Il x28), (Il x29), c30])) ∧ Wc prog tbl 19 [(V.agg 12 [(Il x19), 
 (Il x20), (Il x21), (Il x22), (Il x23), 
 (Il x24), (Il x25), (Il x26), (Il x27), 
 (Il x28), (Il x29), c30])] m14 (fun v31 m32 => 
 ∃ x33, ∃ x34, ∃ x35, ∃ x36, ∃ x37, ∃ x38, 
 ∃ x39, ∃ x40, ∃ x41, ∃ x42, ∃ x43, ∃ c44 : C, 
 (v31 = (V.agg 12 [(Il x33), (Il x34), (Il x35), 
 (Il x36), (Il x37), (Il x38), (Il x39), 
 (Il x40), (Il x41), (Il x42), (Il x43), 
 c44])) ∧ Wc prog tbl 36 [(V.agg 12 [(Il x33), (Il x34), 
 (Il x35), (Il x36), (Il x37), (Il x38), 
 (Il x39), (Il x40), (Il x41), (Il x42), 
 (Il x43), c44])] m32 (fun v45 m46 => ∃ c47 : C, ∃ x48, 
 (v45 = (V.tup [(U.c c47), (U.c (Il x48))])) ∧ isPt (C.ptr m.nxt 0) ∧ 
 ∃ c49 : C, ((ldC m46 (C.ptr m.nxt 11)) = (some c49)) ∧ isSl c49 ∧ 
 Wc prog tbl 59 [(V.c c47), (V.c (Il (((slLen c49) : Nat) : Int)))] m46 (fun v50 m51 => 
 ∃ x52, ∃ b53 : Bool, (v50 = (V.tup [(U.c (Il x52)), (U.c (C.bool b53))])) ∧ 
 ifB (!decide (x48 = 0)) (Q (V.c (C.bool false)) m51) (ifB (!b53) (Q (V.c (C.bool false)) m51) (∃ x54, 
 ∃ x55, ∃ x56, ∃ x57, ∃ x58, ∃ x59, ∃ x60, 
 ∃ x61, ∃ x62, ∃ x63, ∃ x64, ∃ c65 : C, ((ldA m51 (C.ptr m.nxt 0) 12) = (some [(Il x54), 
 (Il x55), (Il x56), (Il x57), (Il x58), 
 (Il x59), (Il x60), (Il x61), (Il x62), 
 (Il x63), (Il x64), c65])) ∧ Wc prog tbl 58 [(V.agg 12 [(Il x54), 
 (Il x55), (Il x56), (Il x57), (Il x58), 
 (Il x59), (Il x60), (Il x61), (Il x62), 
 (Il x63), (Il x64), c65])] m51 (fun v66 m67 => 
 ∃ x68, (v66 = (V.c (Il x68))) ∧ ((0 : Int) ≤ (wrapZ .i64 a200)) ∧ 
 ((0 : Int) ≤ x68) ∧ fitsP .i64 (wrapZ .i64 a200) ∧ fitsP .i64 x68 ∧ 
 fitsP .i64 (((Nat.land (Int.toNat (wrapZ .i64 a200)) (Int.toNat x68)) : Nat) : Int) ∧ 
 ∃ x69, ∃ x70, ∃ x71, ∃ x72, ∃ x73, ∃ x74, 
 ∃ x75, ∃ x76, ∃ x77, ∃ x78, ∃ x79, ∃ c80 : C, 
 ((ldA m67 (C.ptr m.nxt 0) 12) = (some [(Il x69), (Il x70), 
 (Il x71), (Il x72), (Il x73), (Il x74), 
 (Il x75), (Il x76), (Il x77), (Il x78), 
 (Il x79), c80])) ∧ ∃ x81, ∃ x82, ∃ x83, ∃ x84, 
 ∃ x85, ∃ x86, ∃ x87, ∃ x88, ∃ x89, ∃ x90, 
 ∃ x91, ∃ c92 : C, ((ldA m67 (C.ptr m.nxt 0) 12) = (some [(Il x81), 
 (Il x82), (Il x83), (Il x84), (Il x85), 
 (Il x86), (Il x87), (Il x88), (Il x89), 
 (Il x90), (Il x91), c92])) ∧ Wc prog tbl 58 [(V.agg 12 [(Il x81), 
 (Il x82), (Il x83), (Il x84), (Il x85), 
 (Il x86), (Il x87), (Il x88), (Il x89), 
 (Il x90), (Il x91), c92])] m67 (fun v93 m94 => 
 ∃ x95, (v93 = (V.c (Il x95))) ∧ (ifB (allS cmC [(Il x69), 
 (Il x70), (Il x71), (Il x72), (Il x73), 
 (Il x74), (Il x75), (Il x76), (Il x77), 
 (Il x78), (Il x79), c80]) ((ldA m94 (C.ptr m.nxt 0) 12) = (some [(Il x69), 
 (Il x70), (Il x71), (Il x72), (Il x73), 
 (Il x74), (Il x75), (Il x76), (Il x77), 
 (Il x78), (Il x79), c80])) False) ∧ ((0 : Int) ≤ x95) ∧ 
 ((0 : Int) ≤ x52) ∧ fitsP .i64 x95 ∧ fitsP .i64 x52 ∧ fitsP .i64 (((Nat.xor (Int.toNat x95) (Nat.land (Int.toNat x95) (Int.toNat x52))) : Nat) : Int) ∧ 
 Wc prog tbl 57 [(V.agg 12 [(Il x69), (Il x70), 
 (Il x71), (Il x72), (Il x73), (Il x74), 
 (Il x75), (Il x76), (Il x77), (Il x78), 
 (Il x79), c80]), (V.c (Il (((Nat.xor (Int.toNat x95) (Nat.land (Int.toNat x95) (Int.toNat x52))) : Nat) : Int)))] m94 (fun v96 m97 => 
 ∃ b98 : Bool, ∃ b99 : Bool, (v96 = (V.tup [(U.c (C.bool b98)), (U.c (C.bool b99))])) ∧ 
 ∃ x100, ∃ x101, ∃ x102, ∃ x103, ∃ x104, ∃ x105, 
 ∃ x106, ∃ x107, ∃ x108, ∃ x109, ∃ x110, ∃ c111 : C, 
 ((ldA m97 (C.ptr m.nxt 0) 12) = (some [(Il x100), (Il x101), 
 (Il x102), (Il x103), (Il x104), 
 (Il x105), (Il x106), (Il x107), 
 (Il x108), (Il x109), (Il x110), 
 c111])) ∧ ∃ x112, ∃ x113, ∃ x114, ∃ x115, ∃ x116, 
 ∃ x117, ∃ x118, ∃ x119, ∃ x120, ∃ x121, ∃ x122, 
 ∃ c123 : C, ((ldA m97 (C.ptr m.nxt 0) 12) = (some [(Il x112), 
 (Il x113), (Il x114), (Il x115), 
 (Il x116), (Il x117), (Il x118), 
 (Il x119), (Il x120), (Il x121), 
 (Il x122), c123])) ∧ Wc prog tbl 58 [(V.agg 12 [(Il x112), 
 (Il x113), (Il x114), (Il x115), 
 (Il x116), (Il x117), (Il x118), 
 (Il x119), (Il x120), (Il x121), 
 (Il x122), c123])] m97 (fun v124 m125 => ∃ x126, (v124 = (V.c (Il x126))) ∧ 
 (ifB (allS cmC [(Il x100), (Il x101), (Il x102), 
 (Il x103), (Il x104), (Il x105), 
 (Il x106), (Il x107), (Il x108), 
 (Il x109), (Il x110), c111]) ((ldA m125 (C.ptr m.nxt 0) 12) = (some [(Il x100), 
 (Il x101), (Il x102), (Il x103), 
 (Il x104), (Il x105), (Il x106), 
 (Il x107), (Il x108), (Il x109), 
 (Il x110), c111])) False) ∧ ((0 : Int) ≤ x126) ∧ ((0 : Int) ≤ (((Nat.land (Int.toNat (wrapZ .i64 a200)) (Int.toNat x68)) : Nat) : Int)) ∧ 
 fitsP .i64 x126 ∧ fitsP .i64 (((Nat.land (Int.toNat (wrapZ .i64 a200)) (Int.toNat x68)) : Nat) : Int) ∧ 
 fitsP .i64 (((Nat.xor (Int.toNat x126) (Nat.land (Int.toNat x126) (Int.toNat (((Nat.land (Int.toNat (wrapZ .i64 a200)) (Int.toNat x68)) : Nat) : Int)))) : Nat) : Int) ∧ 
 Wc prog tbl 57 [(V.agg 12 [(Il x100), (Il x101), 
 (Il x102), (Il x103), (Il x104), 
 (Il x105), (Il x106), (Il x107), 
 (Il x108), (Il x109), (Il x110), 
 c111]), (V.c (Il (((Nat.xor (Int.toNat x126) (Nat.land (Int.toNat x126) (Int.toNat (((Nat.land (Int.toNat (wrapZ .i64 a200)) (Int.toNat x68)) : Nat) : Int)))) : Nat) : Int)))] m125 (fun v127 m128 => 
 ∃ b129 : Bool, ∃ b130 : Bool, (v127 = (V.tup [(U.c (C.bool b129)), (U.c (C.bool b130))])) ∧ 
 ifB b98 (ifB b99 (ifB b130 (ifB (!b129) (Wc prog tbl 17 [] m128 (fun v131 m132 => 
 ∃ b133 : Bool, (v131 = (V.c (C.bool b133))) ∧ Q (V.c (C.bool b133)) m132)) (Wc prog tbl 61 [(V.c (Il (((Nat.land (Int.toNat (wrapZ .i64 a200)) (Int.toNat x68)) : Nat) : Int)))] m128 (fun v134 m135 => 
 ∃ c136 : C, (v134 = (V.c c136)) ∧ Wc prog tbl 60 [(V.c c136), (V.c c47)] m135 (fun v137 m138 => 
 ∃ b139 : Bool, (v137 = (V.c (C.bool b139))) ∧ ifB (!b139) (Wc prog tbl 17 [] m138 (fun v140 m141 => 
 ∃ b142 : Bool, (v140 = (V.c (C.bool b142))) ∧ Q (V.c (C.bool b142)) m141)) (Q (V.c (C.bool false)) m138))))) (Q (V.c (C.bool false)) m128)) (Q (V.c (C.bool false)) m128)) (Q (V.c (C.bool false)) m128))))))))))))))) : Wc prog tbl 12 [(V.agg 12 [(Il a100), (Il a101), (Il a102), (Il a103), (Il a104), (Il a105), (Il a106), (Il a107), (Il a108), (Il a109), (Il a110), a111]), (V.c (C.int .u8 a200))] m Q :=
 wc_eq (n := 2) rfl (by kernel_rfl) (by kernel_rfl) h
theorem w19 {a100 : Int} {a101 : Int} {a102 : Int} {a103 : Int} {a104 : Int} {a105 : Int} {a106 : Int} {a107 : Int} {a108 : Int} {a109 : Int} {a110 : Int} {a111 : C} {m : M} {Q : V → M → Prop} (h :
 (∀ m0 : M, (m0 = (M.new m (AO.cells 12 [(Il a100), (Il a101), (Il a102), 
 (Il a103), (Il a104), (Il a105), (Il a106), 
 (Il a107), (Il a108), (Il a109), (Il a110), 
 a111] false))) → ∀ m1 : M, (m1 = (M.new m0 (AO.cells 12 [(Il 0), (Il 0), 
 (Il 0), (Il 0), (Il 0), (Il 0), 
 (Il 0), (Il 0), (Il 0), (Il 0), 
 (Il 0), C.sl0] false))) → ∀ m2 : M, (m2 = (mGrow m1 1)) → isPt (C.ptr m.nxt 0) ∧ 
 ∃ x3, ((ldC m2 (C.ptr m.nxt 0)) = (some (Il x3))) ∧ isPt (C.ptr m.nxt 0) ∧ 
 ∃ x4, ((ldC m2 (C.ptr m.nxt 1)) = (some (Il x4))) ∧ isPt (C.ptr m.nxt 0) ∧ 
 ∃ x5, ((ldC m2 (C.ptr m.nxt 2)) = (some (Il x5))) ∧ isPt (C.ptr m.nxt 0) ∧ 
 ∃ x6, ∃ x7, ((ldA m2 (C.ptr m.nxt 3) 2) = (some [(Il x6), 
 (Il x7)])) ∧ Wc prog tbl 32 [(V.agg 2 [(Il x6), (Il x7)])] m2 (fun v8 m9 => 
 ∃ x10, ∃ x11, (v8 = (V.agg 2 [(Il x10), (Il x11)])) ∧ 
 ((ldC m9 (C.ptr m.nxt 2)) = (some (Il x5))) ∧ ((ldC m9 (C.ptr m.nxt 1)) = (some (Il x4))) ∧ 
 ((ldC m9 (C.ptr m.nxt 0)) = (some (Il x3))) ∧ isPt (C.ptr m.nxt 0) ∧ 
 ∃ x12, ∃ x13, ((ldA m9 (C.ptr m.nxt 5) 2) = (some [(Il x12), 
 (Il x13)])) ∧ ((ldA m2 (C.ptr m.nxt 5) 2) = (some [(Il x12), 
 (Il x13)])) ∧ Wc prog tbl 32 [(V.agg 2 [(Il x12), 
 (Il x13)])] m9 (fun v14 m15 => ∃ x16, ∃ x17, (v14 = (V.agg 2 [(Il x16), 
 (Il x17)])) ∧ ((ldC m15 (C.ptr m.nxt 2)) = (some (Il x5))) ∧ 
 ((ldC m15 (C.ptr m.nxt 1)) = (some (Il x4))) ∧ ((ldC m15 (C.ptr m.nxt 0)) = (some (Il x3))) ∧ 
 isPt (C.ptr m.nxt 0) ∧ ∃ x18, ∃ x19, ((ldA m15 (C.ptr m.nxt 7) 2) = (some [(Il x18), 
 (Il x19)])) ∧ ((ldA m9 (C.ptr m.nxt 7) 2) = (some [(Il x18), 
 (Il x19)])) ∧ ((ldA m2 (C.ptr m.nxt 7) 2) = (some [(Il x18), 
 (Il x19)])) ∧ Wc prog tbl 32 [(V.agg 2 [(Il x18), 
 (Il x19)])] m15 (fun v20 m21 => ∃ x22, ∃ x23, (v20 = (V.agg 2 [(Il x22), 
 (Il x23)])) ∧ ((ldC m21 (C.ptr m.nxt 2)) = (some (Il x5))) ∧ 
 ((ldC m21 (C.ptr m.nxt 1)) = (some (Il x4))) ∧ ((ldC m21 (C.ptr m.nxt 0)) = (some (Il x3))) ∧ 
 isPt (C.ptr m.nxt 0) ∧ ∃ x24, ∃ x25, ((ldA m21 (C.ptr m.nxt 9) 2) = (some [(Il x24), 
 (Il x25)])) ∧ ((ldA m15 (C.ptr m.nxt 9) 2) = (some [(Il x24), 
 (Il x25)])) ∧ ((ldA m9 (C.ptr m.nxt 9) 2) = (some [(Il x24), 
 (Il x25)])) ∧ ((ldA m2 (C.ptr m.nxt 9) 2) = (some [(Il x24), 
 (Il x25)])) ∧ Wc prog tbl 32 [(V.agg 2 [(Il x24), 
 (Il x25)])] m21 (fun v26 m27 => ∃ x28, ∃ x29, (v26 = (V.agg 2 [(Il x28), 
 (Il x29)])) ∧ ((ldC m27 (C.ptr m.nxt 2)) = (some (Il x5))) ∧ 
 ((ldC m27 (C.ptr m.nxt 1)) = (some (Il x4))) ∧ ((ldC m27 (C.ptr m.nxt 0)) = (some (Il x3))) ∧ 
 ∀ m30 : M, (m30 = (M.set m27 (m1.nxt + 0) (AO.cells 12 [(Il 0), 
 (Il 0), (Il 0), (Il 0), 
 (Il 0), (Il 0), (Il 0), 
 (Il 0), (Il 0), (Il 0), 
 (Il 0), C.sl0] false))) → ((ldA m30 (C.ptr m.nxt 9) 2) = (some [(Il x24), 
 (Il x25)])) ∧ ((ldA m30 (C.ptr m.nxt 7) 2) = (some [(Il x18), 
 (Il x19)])) ∧ ((ldA m30 (C.ptr m.nxt 5) 2) = (some [(Il x12), 
 (Il x13)])) ∧ ((ldA m30 (C.ptr m.nxt 3) 2) = (some [(Il x6), 
 (Il x7)])) ∧ ((ldC m30 (C.ptr m.nxt 2)) = (some (Il x5))) ∧ 
 ((ldC m30 (C.ptr m.nxt 1)) = (some (Il x4))) ∧ ((ldC m30 (C.ptr m.nxt 0)) = (some (Il x3))) ∧ 
 ∃ m31 : M, ((stC m30 (C.ptr (m1.nxt + 0) 0) 12 [(Il x3), (Il x4), 
 (Il x5), (Il x10), (Il x11), (Il x16), 
 (Il x17), (Il x22), (Il x23), (Il x28), 
 (Il x29), C.sl0]) = (some m31)) ∧ ∀ R32 : List V → M → 
 Prop, (∀ x33 : Int, ∀ m34 : M, (isPt (C.ptr m.nxt 0) ∧ ∃ c35 : C, ((ldC m34 (C.ptr m.nxt 11)) = (some c35)) ∧ 
 isSl c35 ∧ ifB (decide (x33 < (((slLen c35) : Nat) : Int))) (isPt (C.ptr m.nxt 0) ∧ 
 ∃ c36 : C, ((ldC m34 (C.ptr m.nxt 11)) = (some c36)) ∧ ∃ n37 : Nat, 
 (x33 = ((n37 : Nat) : Int)) ∧ (n37 < (slLen c36)) ∧ ∃ x38, ∃ x39, 
 ∃ x40, ∃ x41, ∃ b42 : Bool, ∃ x43, ∃ x44, ((ldA m34 (slAt c36 (n37 * 7)) 7) = (some [(Il x38), 
 (Il x39), (Il x40), (Il x41), (C.bool b42), 
 (Il x43), (Il x44)])) ∧ ∀ m45 : M, (m45 = (M.new m34 (AO.cells 7 [(Il 0), 
 (Il 0), (Il 0), (Il 0), 
 (C.bool false), (Il 0), (Il 0)] false))) → 
 ∃ m46 : M, ((stC m45 (C.ptr m34.nxt 0) 7 [(Il x38), (Il x39), 
 (Il x40), (Il x41), (C.bool b42), (Il x43), 
 (Il x44)]) = (some m46)) ∧ isPt (C.ptr (m1.nxt + 0) 0) ∧ 
 ∃ c47 : C, ((ldC m46 (C.ptr (m1.nxt + 0) 11)) = (some c47)) ∧ isPt (C.ptr m34.nxt 0) ∧ 
 ∃ x48, ∃ x49, ((ldA m46 (C.ptr m34.nxt 0) 2) = (some [(Il x48), 
 (Il x49)])) ∧ Wc prog tbl 32 [(V.agg 2 [(Il x48), 
 (Il x49)])] m46 (fun v50 m51 => ∃ x52, ∃ x53, (v50 = (V.agg 2 [(Il x52), 
 (Il x53)])) ∧ (ifB (cmC c47) ((ldC m51 (C.ptr (m1.nxt + 0) 11)) = (some c47)) False) ∧ 
 isPt (C.ptr m34.nxt 0) ∧ ∃ x54, ∃ x55, ((ldA m51 (C.ptr m34.nxt 2) 2) = (some [(Il x54), 
 (Il x55)])) ∧ ((ldA m46 (C.ptr m34.nxt 2) 2) = (some [(Il x54), 
 (Il x55)])) ∧ Wc prog tbl 32 [(V.agg 2 [(Il x54), 
 (Il x55)])] m51 (fun v56 m57 => ∃ x58, ∃ x59, (v56 = (V.agg 2 [(Il x58), 
 (Il x59)])) ∧ (ifB (cmC c47) ((ldC m57 (C.ptr (m1.nxt + 0) 11)) = (some c47)) False) ∧ 
 isPt (C.ptr m34.nxt 0) ∧ ∃ b60 : Bool, ((ldC m57 (C.ptr m34.nxt 4)) = (some (C.bool b60))) ∧ 
 ((ldC m51 (C.ptr m34.nxt 4)) = (some (C.bool b60))) ∧ ((ldC m46 (C.ptr m34.nxt 4)) = (some (C.bool b60))) ∧ 
 isPt (C.ptr m34.nxt 0) ∧ ∃ x61, ∃ x62, ((ldA m57 (C.ptr m34.nxt 5) 2) = (some [(Il x61), 
 (Il x62)])) ∧ ((ldA m51 (C.ptr m34.nxt 5) 2) = (some [(Il x61), 
 (Il x62)])) ∧ ((ldA m46 (C.ptr m34.nxt 5) 2) = (some [(Il x61), 
 (Il x62)])) ∧ Wc prog tbl 32 [(V.agg 2 [(Il x61), 
 (Il x62)])] m57 (fun v63 m64 => ∃ x65, ∃ x66, (v63 = (V.agg 2 [(Il x65), 
 (Il x66)])) ∧ ((ldC m64 (C.ptr m34.nxt 4)) = (some (C.bool b60))) ∧ 
 (ifB (cmC c47) ((ldC m64 (C.ptr (m1.nxt + 0) 11)) = (some c47)) False) ∧ 
 ∀ m67 : M, (m67 = (M.new m64 (AO.cells 7 [(Il x52), (Il x53), 
 (Il x58), (Il x59), (C.bool b60), (Il x65), 
 (Il x66)] false))) → (ifB (cmC c47) ((ldC m67 (C.ptr (m1.nxt + 0) 11)) = (some c47)) False) ∧ 
 ∃ c68 : C, ∃ m69 : M, (ApR prog 35 m67 c47 (C.sl m64.nxt 0 1 0 (some 1)) c68 m69) ∧ 
 isPt (C.ptr (m1.nxt + 0) 0) ∧ ∃ m70 : M, ((stC m69 (C.ptr (m1.nxt + 0) 11) 1 [c68]) = (some m70)) ∧ 
 fitsP .i64 (x33 + 1) ∧ R32 [(V.c (Il (x33 + 1)))] m70)))) (∃ x71, 
 ∃ x72, ∃ x73, ∃ x74, ∃ x75, ∃ x76, ∃ x77, 
 ∃ x78, ∃ x79, ∃ x80, ∃ x81, ∃ c82 : C, ((ldA m34 (C.ptr (m1.nxt + 0) 0) 12) = (some [(Il x71), 
 (Il x72), (Il x73), (Il x74), (Il x75), 
 (Il x76), (Il x77), (Il x78), (Il x79), 
 (Il x80), (Il x81), c82])) ∧ ∃ m83 : M, ((stC m34 (C.ptr m0.nxt 0) 12 [(Il x71), 
 (Il x72), (Il x73), (Il x74), (Il x75), 
 (Il x76), (Il x77), (Il x78), (Il x79), 
 (Il x80), (Il x81), c82]) = (some m83)) ∧ 
 ∃ x84, ∃ x85, ∃ x86, ∃ x87, ∃ x88, ∃ x89, 
 ∃ x90, ∃ x91, ∃ x92, ∃ x93, ∃ x94, ∃ c95 : C, 
 ((ldA m83 (C.ptr m0.nxt 0) 12) = (some [(Il x84), (Il x85), 
 (Il x86), (Il x87), (Il x88), (Il x89), 
 (Il x90), (Il x91), (Il x92), (Il x93), 
 (Il x94), c95])) ∧ Q (V.agg 12 [(Il x84), (Il x85), 
 (Il x86), (Il x87), (Il x88), (Il x89), 
 (Il x90), (Il x91), (Il x92), (Il x93), 
 (Il x94), c95]) m83)) → R32 [(V.c (Il x33))] m34) → 
 R32 [(V.c (Il 0))] m31)))))) : Wc prog tbl 19 [(V.agg 12 [(Il a100), (Il a101), (Il a102), (Il a103), (Il a104), (Il a105), (Il a106), (Il a107), (Il a108), (Il a109), (Il a110), a111])] m Q :=
 wc_eq (n := 1) rfl (by kernel_rfl) (by kernel_rfl) h
theorem w31 {a100 : Int} {a200 : Int} {a300 : Int} {m : M} {Q : V → M → Prop} (h :
 (ifB (decide (a200 ≤ a100)) (Q (V.c (C.bool (decide (a100 ≤ a300)))) m) (Q (V.c (C.bool false)) m))) : Wc prog tbl 31 [(V.c (Il a100)), (V.c (Il a200)), (V.c (Il a300))] m Q :=
 wc_eq (n := 3) rfl (by kernel_rfl) (by kernel_rfl) h
theorem w49 {a100 : Int} {a101 : Int} {a102 : Int} {a103 : Int} {a104 : Int} {a105 : Int} {a106 : Int} {a107 : Int} {a108 : Int} {a109 : Int} {a110 : Int} {a111 : C} {m : M} {Q : V → M → Prop} (h :
 (∀ m0 : M, (m0 = (M.new m (AO.cells 12 [(Il a100), (Il a101), (Il a102), 
 (Il a103), (Il a104), (Il a105), (Il a106), 
 (Il a107), (Il a108), (Il a109), (Il a110), 
 a111] false))) → ∃ x1, ∃ x2, ∃ x3, ∃ x4, ∃ x5, ∃ x6, ∃ x7, 
 ∃ x8, ∃ x9, ∃ x10, ∃ x11, ∃ c12 : C, ((ldA m0 (C.ptr m.nxt 0) 12) = (some [(Il x1), 
 (Il x2), (Il x3), (Il x4), (Il x5), 
 (Il x6), (Il x7), (Il x8), (Il x9), 
 (Il x10), (Il x11), c12])) ∧ Wc prog tbl 16 [(V.agg 12 [(Il x1), 
 (Il x2), (Il x3), (Il x4), (Il x5), 
 (Il x6), (Il x7), (Il x8), (Il x9), 
 (Il x10), (Il x11), c12])] m0 (fun v13 m14 => ∃ b15 : Bool, 
 (v13 = (V.c (C.bool b15))) ∧ ifB b15 (∃ x16, ∃ x17, ∃ x18, ∃ x19, 
 ∃ x20, ∃ x21, ∃ x22, ∃ x23, ∃ x24, ∃ x25, 
 ∃ x26, ∃ c27 : C, ((ldA m14 (C.ptr m.nxt 0) 12) = (some [(Il x16), 
 (Il x17), (Il x18), (Il x19), (Il x20), 
 (Il x21), (Il x22), (Il x23), (Il x24), 
 (Il x25), (Il x26), c27])) ∧ Wc prog tbl 66 [(V.agg 12 [(Il x16), 
 (Il x17), (Il x18), (Il x19), (Il x20), 
 (Il x21), (Il x22), (Il x23), (Il x24), 
 (Il x25), (Il x26), c27])] m14 (fun v28 m29 => 
 ∃ x30, (v28 = (V.c (Il x30))) ∧ Q (V.c (C.bool (decide (x30 = 0)))) m29)) (Q (V.c (C.bool false)) m14)))) : Wc prog tbl 49 [(V.agg 12 [(Il a100), (Il a101), (Il a102), (Il a103), (Il a104), (Il a105), (Il a106), (Il a107), (Il a108), (Il a109), (Il a110), a111])] m Q :=
 wc_eq (n := 1) rfl (by kernel_rfl) (by kernel_rfl) h
theorem w58 {a100 : Int} {a101 : Int} {a102 : Int} {a103 : Int} {a104 : Int} {a105 : Int} {a106 : Int} {a107 : Int} {a108 : Int} {a109 : Int} {a110 : Int} {a111 : C} {m : M} {Q : V → M → Prop} (h :
 (∀ m0 : M, (m0 = (M.new m (AO.cells 12 [(Il a100), (Il a101), (Il a102), 
 (Il a103), (Il a104), (Il a105), (Il a106), 
 (Il a107), (Il a108), (Il a109), (Il a110), 
 a111] false))) → isPt (C.ptr m.nxt 0) ∧ ∃ c1 : C, ((ldC m0 (C.ptr m.nxt 11)) = (some c1)) ∧ 
 isSl c1 ∧ ((0 : Int) ≤ (1 : Int)) ∧ ((0 : Int) ≤ (wrapZ .u64 (((slLen c1) : Nat) : Int))) ∧ 
 ((wrapZ .u64 (((slLen c1) : Nat) : Int)) ≤ (64 : Int)) ∧ fitsP .i64 ((1 : Int) * ((2 : Int) ^ (Int.toNat (wrapZ .u64 (((slLen c1) : Nat) : Int))))) ∧ 
 fitsP .i64 (((1 : Int) * ((2 : Int) ^ (Int.toNat (wrapZ .u64 (((slLen c1) : Nat) : Int))))) - (1 : Int)) ∧ 
 Q (V.c (Il (((1 : Int) * ((2 : Int) ^ (Int.toNat (wrapZ .u64 (((slLen c1) : Nat) : Int))))) - (1 : Int)))) m0)) : Wc prog tbl 58 [(V.agg 12 [(Il a100), (Il a101), (Il a102), (Il a103), (Il a104), (Il a105), (Il a106), (Il a107), (Il a108), (Il a109), (Il a110), a111])] m Q :=
 wc_eq (n := 1) rfl (by kernel_rfl) (by kernel_rfl) h
theorem w61 {a100 : Int} {m : M} {Q : V → M → Prop} (h :
 (∀ R0 : List V → M → Prop, (∀ c1 : C, ∀ x2 : Int, ∀ m3 : M, (((0 : Int) ≤ a100) ∧ ((0 : Int) ≤ (wrapZ .u64 x2)) ∧ 
 ((wrapZ .u64 x2) ≤ (64 : Int)) ∧ fitsP .i64 (a100 / ((2 : Int) ^ (Int.toNat (wrapZ .u64 x2)))) ∧ 
 ifB (decide ((0 : Int) < (a100 / ((2 : Int) ^ (Int.toNat (wrapZ .u64 x2)))))) (((0 : Int) ≤ a100) ∧ 
 ((0 : Int) ≤ (wrapZ .u64 x2)) ∧ ((wrapZ .u64 x2) ≤ (64 : Int)) ∧ fitsP .i64 (a100 / ((2 : Int) ^ (Int.toNat (wrapZ .u64 x2)))) ∧ 
 ((0 : Int) ≤ (a100 / ((2 : Int) ^ (Int.toNat (wrapZ .u64 x2))))) ∧ ((0 : Int) < (2 : Int)) ∧ 
 fitsP .i64 ((a100 / ((2 : Int) ^ (Int.toNat (wrapZ .u64 x2)))) % (2 : Int)) ∧ 
 ifB (decide (((a100 / ((2 : Int) ^ (Int.toNat (wrapZ .u64 x2)))) % (2 : Int)) = (1 : Int))) (∀ m4 : M, 
 (m4 = (M.new m3 (AO.cells 1 [(Il x2)] false))) → ∃ c5 : C, ∃ m6 : M, 
 (ApR prog 69 m4 c1 (C.sl m3.nxt 0 1 0 (some 1)) c5 m6) ∧ fitsP .i64 (x2 + 1) ∧ 
 R0 [(V.c c5), (V.c (Il (x2 + 1)))] m6) (fitsP .i64 (x2 + 1) ∧ 
 R0 [(V.c c1), (V.c (Il (x2 + 1)))] m3)) (Q (V.c c1) m3)) → 
 R0 [(V.c c1), (V.c (Il x2))] m3) → R0 [(V.c C.sl0), (V.c (Il 0))] m)) : Wc prog tbl 61 [(V.c (Il a100))] m Q :=
 wc_eq (n := 1) rfl (by kernel_rfl) (by kernel_rfl) h
theorem w67 {a100 : Int} {a101 : Int} {a102 : Int} {a103 : Int} {a104 : Int} {a105 : Int} {a106 : Int} {a107 : Int} {a108 : Int} {a109 : Int} {a110 : Int} {a111 : C} {m : M} {Q : V → M → Prop} (h :
 (∀ m0 : M, (m0 = (M.new m (AO.cells 12 [(Il a100), (Il a101), (Il a102), 
 (Il a103), (Il a104), (Il a105), (Il a106), 
 (Il a107), (Il a108), (Il a109), (Il a110), 
 a111] false))) → isPt (C.ptr m.nxt 0) ∧ ∃ x1, ∃ x2, ((ldA m0 (C.ptr m.nxt 3) 2) = (some [(Il x1), 
 (Il x2)])) ∧ Wc prog tbl 62 [(V.agg 2 [(Il x1), (Il x2)])] m0 (fun v3 m4 => 
 ∃ x5, (v3 = (V.c (Il x5))) ∧ isPt (C.ptr m.nxt 0) ∧ ∃ x6, ∃ x7, 
 ((ldA m4 (C.ptr m.nxt 5) 2) = (some [(Il x6), (Il x7)])) ∧ 
 ((ldA m0 (C.ptr m.nxt 5) 2) = (some [(Il x6), (Il x7)])) ∧ 
 Wc prog tbl 62 [(V.agg 2 [(Il x6), (Il x7)])] m4 (fun v8 m9 => 
 ∃ x10, (v8 = (V.c (Il x10))) ∧ ((0 : Int) ≤ x5) ∧ ((0 : Int) ≤ x10) ∧ 
 fitsP .i64 (x5 * x10) ∧ isPt (C.ptr m.nxt 0) ∧ ∃ x11, ∃ x12, 
 ((ldA m9 (C.ptr m.nxt 7) 2) = (some [(Il x11), (Il x12)])) ∧ 
 ((ldA m4 (C.ptr m.nxt 7) 2) = (some [(Il x11), (Il x12)])) ∧ 
 ((ldA m0 (C.ptr m.nxt 7) 2) = (some [(Il x11), (Il x12)])) ∧ 
 Wc prog tbl 62 [(V.agg 2 [(Il x11), (Il x12)])] m9 (fun v13 m14 => 
 ∃ x15, (v13 = (V.c (Il x15))) ∧ ((0 : Int) ≤ (x5 * x10)) ∧ 
 ((0 : Int) ≤ x15) ∧ fitsP .i64 ((x5 * x10) * x15) ∧ isPt (C.ptr m.nxt 0) ∧ 
 ∃ x16, ∃ x17, ((ldA m14 (C.ptr m.nxt 9) 2) = (some [(Il x16), 
 (Il x17)])) ∧ ((ldA m9 (C.ptr m.nxt 9) 2) = (some [(Il x16), 
 (Il x17)])) ∧ ((ldA m4 (C.ptr m.nxt 9) 2) = (some [(Il x16), 
 (Il x17)])) ∧ ((ldA m0 (C.ptr m.nxt 9) 2) = (some [(Il x16), 
 (Il x17)])) ∧ Wc prog tbl 62 [(V.agg 2 [(Il x16), 
 (Il x17)])] m14 (fun v18 m19 => ∃ x20, (v18 = (V.c (Il x20))) ∧ 
 ((0 : Int) ≤ ((x5 * x10) * x15)) ∧ ((0 : Int) ≤ x20) ∧ fitsP .i64 (((x5 * x10) * x15) * x20) ∧ 
 Q (V.c (Il (((x5 * x10) * x15) * x20))) m19)))))) : Wc prog tbl 67 [(V.agg 12 [(Il a100), (Il a101), (Il a102), (Il a103), (Il a104), (Il a105), (Il a106), (Il a107), (Il a108), (Il a109), (Il a110), a111])] m Q :=
 wc_eq (n := 1) rfl (by kernel_rfl) (by kernel_rfl) h
theorem w70 {a100 : Int} {a101 : Int} {a200 : Int} {a300 : Int} {m : M} {Q : V → M → Prop} (h :
 (∀ m0 : M, (m0 = (M.new m (AO.cells 2 [(Il a100), (Il a101)] false))) → isPt (C.ptr m.nxt 0) ∧ 
 ∃ x1, ((ldC m0 (C.ptr m.nxt 0)) = (some (Il x1))) ∧ ifB (decide (a200 ≤ x1)) (isPt (C.ptr m.nxt 0) ∧ 
 ∃ x2, ((ldC m0 (C.ptr m.nxt 0)) = (some (Il x2))) ∧ isPt (C.ptr m.nxt 0) ∧ 
 ∃ x3, ((ldC m0 (C.ptr m.nxt 1)) = (some (Il x3))) ∧ ifB (decide (x2 ≤ x3)) (isPt (C.ptr m.nxt 0) ∧ 
 ∃ x4, ((ldC m0 (C.ptr m.nxt 1)) = (some (Il x4))) ∧ Q (V.c (C.bool (decide (x4 ≤ a300)))) m0) (Q (V.c (C.bool false)) m0)) (Q (V.c (C.bool false)) m0))) : Wc prog tbl 70 [(V.agg 2 [(Il a100), (Il a101)]), (V.c (Il a200)), (V.c (Il a300))] m Q :=
 wc_eq (n := 3) rfl (by kernel_rfl) (by kernel_rfl) h
theorem w73 {a100 : Int} {a101 : Int} {a102 : Int} {a103 : Int} {a104 : Int} {a105 : Int} {a106 : Int} {a107 : Int} {a108 : Int} {a109 : Int} {a110 : Int} {a111 : C} {a112 : C} {a200 : C} {m : M} {Q : V → M → Prop} (h :
 (∀ m0 : M, (m0 = (M.new m (AO.cells 13 [(Il a100), (Il a101), (Il a102), 
 (Il a103), (Il a104), (Il a105), (Il a106), 
 (Il a107), (Il a108), (Il a109), (Il a110), 
 a111, a112] false))) → ∀ m1 : M, (m1 = (M.new m0 (AO.cells 1 [a200] false))) → ∀ m2 : M, (m2 = (M.new m1 (AO.cells 2 [(Il 0), 
 (Il 0)] false))) → ∀ m3 : M, (m3 = (M.new m2 (AO.cells 1 [C.sl0] false))) → 
 ∃ x4, ∃ x5, ∃ x6, ∃ x7, ∃ x8, ∃ x9, ∃ x10, ∃ x11, 
 ∃ x12, ∃ x13, ∃ x14, ∃ c15 : C, ∃ c16 : C, ((ldA m3 (C.ptr m.nxt 0) 13) = (some [(Il x4), 
 (Il x5), (Il x6), (Il x7), (Il x8), 
 (Il x9), (Il x10), (Il x11), (Il x12), 
 (Il x13), (Il x14), c15, c16])) ∧ Wc prog tbl 108 [(V.agg 13 [(Il x4), 
 (Il x5), (Il x6), (Il x7), (Il x8), 
 (Il x9), (Il x10), (Il x11), (Il x12), 
 (Il x13), (Il x14), c15, c16])] m3 (fun v17 m18 => 
 ∃ c19 : C, (v17 = (V.c c19)) ∧ rangeP prog tbl c19 m18 (fun l20 m21 R22 R23 => ∃ x24, 
 ∃ x25, ∃ x26, ∃ x27, (l20 = [(V.agg 4 [(Il x24), 
 (Il x25), (Il x26), (Il x27)])]) ∧ 
 ∀ m28 : M, (m28 = (M.new m21 (AO.cells 4 [(Il 0), (Il 0), 
 (Il 0), (Il 0)] false))) → ∃ m29 : M, 
 ((stC m28 (C.ptr m21.nxt 0) 4 [(Il x24), (Il x25), 
 (Il x26), (Il x27)]) = (some m29)) ∧ R22 m29 (fun m30 => 
 ∃ c31 : C, ((ldC m30 (C.ptr m2.nxt 0)) = (some c31)) ∧ ∃ c32 : C, 
 ((ldC m30 (C.ptr m0.nxt 0)) = (some c32)) ∧ ∃ x33, ∃ x34, 
 ∃ x35, ∃ x36, ((ldA m30 (C.ptr m21.nxt 0) 4) = (some [(Il x33), 
 (Il x34), (Il x35), (Il x36)])) ∧ 
 callP prog tbl [(V.agg 4 [(Il x33), (Il x34), 
 (Il x35), (Il x36)])] c32 m30 (fun v37 m38 => ∃ x39, 
 (v37 = (V.c (Il x39))) ∧ (ifB (cmC c31) ((ldC m38 (C.ptr m2.nxt 0)) = (some c31)) False) ∧ 
 ∀ m40 : M, (m40 = (M.new m38 (AO.cells 1 [(Il x39)] false))) → 
 (ifB (cmC c31) ((ldC m40 (C.ptr m2.nxt 0)) = (some c31)) False) ∧ ∃ c41 : C, 
 ∃ m42 : M, (ApR prog 69 m40 c31 (C.sl m38.nxt 0 1 0 (some 1)) c41 m42) ∧ 
 ∃ m43 : M, ((stC m42 (C.ptr m2.nxt 0) 1 [c41]) = (some m43)) ∧ R23 Ex.nrm m43))) (After.mk (fun m44 => 
 ∃ c45 : C, ((ldC m44 (C.ptr m2.nxt 0)) = (some c45)) ∧ Wc prog tbl 110 [(V.c c45)] m44 (fun v46 m47 => 
 ∃ x48, (v46 = (V.c (Il x48))) ∧ ∃ c49 : C, ((ldC m47 (C.ptr m2.nxt 0)) = (some c49)) ∧ 
 (ifB (cmC c49) ((ldC m44 (C.ptr m2.nxt 0)) = (some c49)) False) ∧ Wc prog tbl 111 [(V.c c49)] m47 (fun v50 m51 => 
 ∃ x52, (v50 = (V.c (Il x52))) ∧ ∃ m53 : M, ((stC m51 (C.ptr m1.nxt 0) 2 [(Il x48), 
 (Il x52)]) = (some m53)) ∧ ∃ x54, ∃ x55, 
 ((ldA m53 (C.ptr m1.nxt 0) 2) = (some [(Il x54), (Il x55)])) ∧ 
 Q (V.agg 2 [(Il x54), (Il x55)]) m53))) [] (fun m56 => 
 ∃ x57, ∃ x58, ((ldA m56 (C.ptr m1.nxt 0) 2) = (some [(Il x57), 
 (Il x58)])) ∧ Q (V.agg 2 [(Il x57), (Il x58)]) m56))))) : Wc prog tbl 73 [(V.agg 13 [(Il a100), (Il a101), (Il a102), (Il a103), (Il a104), (Il a105), (Il a106), (Il a107), (Il a108), (Il a109), (Il a110), a111, a112]), (V.c a200)] m Q :=
 wc_eq (n := 2) rfl (by kernel_rfl) (by kernel_rfl) h
theorem w83 {a100 : Int} {m : M} {Q : V → M → Prop} (h :
 (∀ m0 : M, (m0 = (M.new m (AO.cells 6 [(C.bool false), (C.bool false), (C.bool false), (C.bool false), (C.bool false), 
 (C.bool false)] false))) → ∀ m1 : M, (m1 = (M.new m0 (AO.cells 6 [(C.bool false), (C.bool false), (C.bool false), 
 (C.bool false), (C.bool false), (C.bool false)] false))) → fitsP .i64 (a100 + 1) ∧ 
 ∀ R2 : List V → M → Prop, (∀ x3 : Int, ∀ m4 : M, (ifB (decide (x3 < (a100 + 1))) (isPt (C.ptr m0.nxt 0) ∧ 
 ∃ n5 : Nat, (x3 = ((n5 : Nat) : Int)) ∧ (n5 < 6) ∧ ∃ m6 : M, ((stC m4 (C.ptr m0.nxt (0 + (n5 * 1))) 1 [(C.bool true)]) = (some m6)) ∧ 
 fitsP .i64 (x3 + 1) ∧ R2 [(V.c (Il (x3 + 1)))] m6) (∃ b7 : Bool, 
 ∃ b8 : Bool, ∃ b9 : Bool, ∃ b10 : Bool, ∃ b11 : Bool, ∃ b12 : Bool, ((ldA m4 (C.ptr m0.nxt 0) 6) = (some [(C.bool b7), 
 (C.bool b8), (C.bool b9), (C.bool b10), (C.bool b11), (C.bool b12)])) ∧ ∃ m13 : M, ((stC m4 (C.ptr m.nxt 0) 6 [(C.bool b7), 
 (C.bool b8), (C.bool b9), (C.bool b10), (C.bool b11), (C.bool b12)]) = (some m13)) ∧ 
 ∃ b14 : Bool, ∃ b15 : Bool, ∃ b16 : Bool, ∃ b17 : Bool, ∃ b18 : Bool, ∃ b19 : Bool, 
 ((ldA m13 (C.ptr m.nxt 0) 6) = (some [(C.bool b14), (C.bool b15), (C.bool b16), 
 (C.bool b17), (C.bool b18), (C.bool b19)])) ∧ Q (V.agg 6 [(C.bool b14), (C.bool b15), 
 (C.bool b16), (C.bool b17), (C.bool b18), (C.bool b19)]) m13)) → 
 R2 [(V.c (Il x3))] m4) → R2 [(V.c (Il 0))] m1)) : Wc prog tbl 83 [(V.c (Il a100))] m Q :=
 wc_eq (n := 1) rfl (by kernel_rfl) (by kernel_rfl) h
theorem w86 {a100 : Int} {a101 : Int} {a102 : Int} {a103 : Int} {a104 : Int} {a105 : Int} {a106 : Int} {a107 : Int} {a108 : Int} {a109 : Int} {a110 : Int} {a111 : C} {a112 : C} {m : M} {Q : V → M → Prop} (h :
 (∀ m0 : M, (m0 = (M.new m (AO.cells 13 [(Il a100), (Il a101), (Il a102), 
 (Il a103), (Il a104), (Il a105), (Il a106), 
 (Il a107), (Il a108), (Il a109), (Il a110), 
 a111, a112] false))) → ∃ x1, ∃ x2, ∃ x3, ∃ x4, ∃ x5, ∃ x6, 
 ∃ x7, ∃ x8, ∃ x9, ∃ x10, ∃ x11, ∃ c12 : C, ∃ c13 : C, ((ldA m0 (C.ptr m.nxt 0) 13) = (some [(Il x1), 
 (Il x2), (Il x3), (Il x4), (Il x5), 
 (Il x6), (Il x7), (Il x8), (Il x9), 
 (Il x10), (Il x11), c12, c13])) ∧ ∃ x14, ∃ x15, 
 ∃ x16, ∃ x17, ∃ x18, ∃ x19, ∃ x20, ∃ x21, ∃ x22, 
 ∃ x23, ∃ x24, ∃ c25 : C, ∃ c26 : C, ((ldA m0 (C.ptr m.nxt 0) 13) = (some [(Il x14), 
 (Il x15), (Il x16), (Il x17), (Il x18), 
 (Il x19), (Il x20), (Il x21), (Il x22), 
 (Il x23), (Il x24), c25, c26])) ∧ Wc prog tbl 92 [(V.agg 13 [(Il x14), 
 (Il x15), (Il x16), (Il x17), (Il x18), 
 (Il x19), (Il x20), (Il x21), (Il x22), 
 (Il x23), (Il x24), c25, c26])] m0 (fun v27 m28 => 
 ∃ b29 : Bool, ∃ b30 : Bool, ∃ b31 : Bool, ∃ b32 : Bool, ∃ b33 : Bool, ∃ b34 : Bool, 
 (v27 = (V.agg 6 [(C.bool b29), (C.bool b30), (C.bool b31), (C.bool b32), (C.bool b33), 
 (C.bool b34)])) ∧ (ifB (allS cmC [(Il x1), (Il x2), 
 (Il x3), (Il x4), (Il x5), (Il x6), 
 (Il x7), (Il x8), (Il x9), (Il x10), 
 (Il x11), c12, c13]) ((ldA m28 (C.ptr m.nxt 0) 13) = (some [(Il x1), 
 (Il x2), (Il x3), (Il x4), (Il x5), 
 (Il x6), (Il x7), (Il x8), (Il x9), 
 (Il x10), (Il x11), c12, c13])) False) ∧ Wc prog tbl 82 [(V.agg 13 [(Il x1), 
 (Il x2), (Il x3), (Il x4), (Il x5), 
 (Il x6), (Il x7), (Il x8), (Il x9), 
 (Il x10), (Il x11), c12, c13]), (V.agg 6 [(C.bool b29), 
 (C.bool b30), (C.bool b31), (C.bool b32), (C.bool b33), (C.bool b34)])] m28 (fun v35 m36 => 
 ∃ b37 : Bool, (v35 = (V.c (C.bool b37))) ∧ Q (V.c (C.bool b37)) m36)))) : Wc prog tbl 86 [(V.agg 13 [(Il a100), (Il a101), (Il a102), (Il a103), (Il a104), (Il a105), (Il a106), (Il a107), (Il a108), (Il a109), (Il a110), a111, a112])] m Q :=
 wc_eq (n := 1) rfl (by kernel_rfl) (by kernel_rfl) h
theorem w92 {a100 : Int} {a101 : Int} {a102 : Int} {a103 : Int} {a104 : Int} {a105 : Int} {a106 : Int} {a107 : Int} {a108 : Int} {a109 : Int} {a110 : Int} {a111 : C} {a112 : C} {m : M} {Q : V → M → Prop} (h :
 (∀ m0 : M, (m0 = (M.new m (AO.cells 13 [(Il a100), (Il a101), (Il a102), 
 (Il a103), (Il a104), (Il a105), (Il a106), 
 (Il a107), (Il a108), (Il a109), (Il a110), 
 a111, a112] false))) → ∀ m1 : M, (m1 = (M.new m0 (AO.cells 6 [(C.bool false), (C.bool false), (C.bool false), 
 (C.bool false), (C.bool false), (C.bool false)] false))) → isPt (C.ptr m.nxt 0) ∧ isPt (C.ptr m.nxt 0) ∧ 
 ∃ c2 : C, ((ldC m1 (C.ptr m.nxt 11)) = (some c2)) ∧ isSl c2 ∧ fitsP .i64 ((((slLen c2) : Nat) : Int) - (1 : Int)) ∧ 
 Wc prog tbl 83 [(V.c (Il ((((slLen c2) : Nat) : Int) - (1 : Int))))] m1 (fun v3 m4 => 
 ∃ b5 : Bool, ∃ b6 : Bool, ∃ b7 : Bool, ∃ b8 : Bool, ∃ b9 : Bool, ∃ b10 : Bool, (v3 = (V.agg 6 [(C.bool b5), 
 (C.bool b6), (C.bool b7), (C.bool b8), (C.bool b9), (C.bool b10)])) ∧ ∃ m11 : M, ((stC m4 (C.ptr m0.nxt 0) 6 [(C.bool b5), 
 (C.bool b6), (C.bool b7), (C.bool b8), (C.bool b9), (C.bool b10)]) = (some m11)) ∧ 
 ∃ b12 : Bool, ∃ b13 : Bool, ∃ b14 : Bool, ∃ b15 : Bool, ∃ b16 : Bool, ∃ b17 : Bool, 
 ((ldA m11 (C.ptr m0.nxt 0) 6) = (some [(C.bool b12), (C.bool b13), (C.bool b14), 
 (C.bool b15), (C.bool b16), (C.bool b17)])) ∧ Q (V.agg 6 [(C.bool b12), (C.bool b13), 
 (C.bool b14), (C.bool b15), (C.bool b16), (C.bool b17)]) m11))) : Wc prog tbl 92 [(V.agg 13 [(Il a100), (Il a101), (Il a102), (Il a103), (Il a104), (Il a105), (Il a106), (Il a107), (Il a108), (Il a109), (Il a110), a111, a112])] m Q :=
 wc_eq (n := 1) rfl (by kernel_rfl) (by kernel_rfl) h
theorem w95 {a100 : Int} {a101 : Int} {a102 : Int} {a103 : Int} {m : M} {Q : V → M → Prop} (h :
 (∀ m0 : M, (m0 = (M.new m (AO.cells 4 [(Il a100), (Il a101), (Il a102), 
 (Il a103)] false))) → isPt (C.ptr m.nxt 0) ∧ ∃ x1, ((ldC m0 (C.ptr m.nxt 2)) = (some (Il x1))) ∧ 
 Q (V.c (Il x1)) m0)) : Wc prog tbl 95 [(V.agg 4 [(Il a100), (Il a101), (Il a102), (Il a103)])] m Q :=
 wc_eq (n := 1) rfl (by kernel_rfl) (by kernel_rfl) h
theorem w98 {a100 : Int} {a101 : Int} {a102 : Int} {a103 : Int} {a104 : Int} {a105 : Int} {a106 : Int} {a107 : Int} {a108 : Int} {a109 : Int} {a110 : Int} {a111 : C} {m : M} {Q : V → M → Prop} (h :
 (∀ m0 : M, (m0 = (M.new m (AO.cells 12 [(Il a100), (Il a101), (Il a102), 
 (Il a103), (Il a104), (Il a105), (Il a106), 
 (Il a107), (Il a108), (Il a109), (Il a110), 
 a111] false))) → isPt (C.ptr m.nxt 0) ∧ ∃ x1, ((ldC m0 (C.ptr m.nxt 0)) = (some (Il x1))) ∧ 
 ifB (decide ((12 : Int) < x1)) (Q (V.c (C.bool true)) m0) (isPt (C.ptr m.nxt 0) ∧ ∃ x2, ((ldC m0 (C.ptr m.nxt 1)) = (some (Il x2))) ∧ 
 ifB (decide ((12 : Int) < x2)) (Q (V.c (C.bool true)) m0) (isPt (C.ptr m.nxt 0) ∧ ∃ c3 : C, ((ldC m0 (C.ptr m.nxt 11)) = (some c3)) ∧ 
 isSl c3 ∧ Q (V.c (C.bool (decide ((6 : Int) < (((slLen c3) : Nat) : Int))))) m0)))) : Wc prog tbl 98 [(V.agg 12 [(Il a100), (Il a101), (Il a102), (Il a103), (Il a104), (Il a105), (Il a106), (Il a107), (Il a108), (Il a109), (Il a110), a111])] m Q :=
 wc_eq (n := 1) rfl (by kernel_rfl) (by kernel_rfl) h
theorem w104 {a100 : C} {a200 : C} {m : M} {Q : V → M → Prop} (h :
 (∀ R0 : List V → M → Prop, (∀ b1 : Bool, ∀ x2 : Int, ∀ m3 : M, (isSl a100 ∧ ifB (decide (x2 < (((slLen a100) : Nat) : Int))) (isSl a200 ∧ 
 ifB (decide (x2 < (((slLen a200) : Nat) : Int))) (∃ n4 : Nat, (x2 = ((n4 : Nat) : Int)) ∧ (n4 < (slLen a100)) ∧ 
 ∃ x5, ((ldC m3 (slAt a100 (n4 * 1))) = (some (Il x5))) ∧ ∃ n6 : Nat, 
 (x2 = ((n6 : Nat) : Int)) ∧ (n6 < (slLen a200)) ∧ ∃ x7, ((ldC m3 (slAt a200 (n6 * 1))) = (some (Il x7))) ∧ 
 ifB (!decide (x5 = x7)) (∃ n8 : Nat, (x2 = ((n8 : Nat) : Int)) ∧ (n8 < (slLen a100)) ∧ 
 ∃ x9, ((ldC m3 (slAt a100 (n8 * 1))) = (some (Il x9))) ∧ 
 ∃ n10 : Nat, (x2 = ((n10 : Nat) : Int)) ∧ (n10 < (slLen a200)) ∧ ∃ x11, 
 ((ldC m3 (slAt a200 (n10 * 1))) = (some (Il x11))) ∧ Q (V.c (C.bool (decide (x9 < x11)))) m3) (fitsP .i64 (x2 + 1) ∧ 
 R0 [(V.c (C.bool b1)), (V.c (Il (x2 + 1)))] m3)) (isSl a100 ∧ 
 isSl a200 ∧ Q (V.c (C.bool (decide ((((slLen a100) : Nat) : Int) < (((slLen a200) : Nat) : Int))))) m3)) (isSl a100 ∧ 
 isSl a200 ∧ Q (V.c (C.bool (decide ((((slLen a100) : Nat) : Int) < (((slLen a200) : Nat) : Int))))) m3)) → 
 R0 [(V.c (C.bool b1)), (V.c (Il x2))] m3) → R0 [(V.c (C.bool false)), (V.c (Il 0))] m)) : Wc prog tbl 104 [(V.c a100), (V.c a200)] m Q :=
 wc_eq (n := 2) rfl (by kernel_rfl) (by kernel_rfl) h
theorem w107 {a100 : Int} {a101 : Int} {a102 : Int} {a103 : Int} {a104 : Int} {a105 : Int} {a106 : Int} {a107 : Int} {a108 : Int} {a109 : Int} {a110 : Int} {a111 : C} {a200 : Int} {a201 : Int} {a202 : Int} {a203 : Int} {m : M} {Q : V → M → Prop} (h :
 (∀ m0 : M, (m0 = (M.new m (AO.cells 12 [(Il a100), (Il a101), (Il a102), 
 (Il a103), (Il a104), (Il a105), (Il a106), 
 (Il a107), (Il a108), (Il a109), (Il a110), 
 a111] false))) → ∀ m1 : M, (m1 = (M.new m0 (AO.cells 4 [(Il a200), (Il a201), 
 (Il a202), (Il a203)] false))) → isPt (C.ptr m0.nxt 0) ∧ ∃ x2, 
 ∃ x3, ((ldA m1 (C.ptr m0.nxt 0) 2) = (some [(Il x2), (Il x3)])) ∧ 
 isPt (C.ptr m.nxt 0) ∧ ∃ x4, ((ldC m1 (C.ptr m.nxt 0)) = (some (Il x4))) ∧ 
 fitsP .i64 (x4 - 1) ∧ Wc prog tbl 122 [(V.agg 2 [(Il x2), (Il x3)]), 
 (V.c (Il 0)), (V.c (Il (x4 - 1)))] m1 (fun v5 m6 => 
 ∃ b7 : Bool, (v5 = (V.c (C.bool b7))) ∧ ifB b7 (isPt (C.ptr m0.nxt 0) ∧ ∃ x8, ∃ x9, 
 ((ldA m6 (C.ptr m0.nxt 2) 2) = (some [(Il x8), (Il x9)])) ∧ 
 isPt (C.ptr m.nxt 0) ∧ ∃ x10, ((ldC m6 (C.ptr m.nxt 1)) = (some (Il x10))) ∧ 
 fitsP .i64 (x10 - 1) ∧ Wc prog tbl 122 [(V.agg 2 [(Il x8), 
 (Il x9)]), (V.c (Il 0)), (V.c (Il (x10 - 1)))] m6 (fun v11 m12 => 
 ∃ b13 : Bool, (v11 = (V.c (C.bool b13))) ∧ Q (V.c (C.bool b13)) m12)) (Q (V.c (C.bool false)) m6)))) : Wc prog tbl 107 [(V.agg 12 [(Il a100), (Il a101), (Il a102), (Il a103), (Il a104), (Il a105), (Il a106), (Il a107), (Il a108), (Il a109), (Il a110), a111]), (V.agg 4 [(Il a200), (Il a201), (Il a202), (Il a203)])] m Q :=
 wc_eq (n := 2) rfl (by kernel_rfl) (by kernel_rfl) h
theorem w110 {a100 : C} {m : M} {Q : V → M → Prop} (h :
 (isSl a100 ∧ ifB (decide ((((slLen a100) : Nat) : Int) = (0 : Int))) (Q (V.c (Il 0)) m) (∃ n0 : Nat, 
 ((0 : Int) = ((n0 : Nat) : Int)) ∧ (n0 < (slLen a100)) ∧ ∃ x1, ((ldC m (slAt a100 (n0 * 1))) = (some (Il x1))) ∧ 
 isSl a100 ∧ ∀ R2 : List V → M → Prop, (∀ x3 : Int, ∀ x4 : Int, ∀ m5 : M, (ifB (decide (x4 < (((slLen a100) : Nat) : Int))) (∃ n6 : Nat, 
 (x4 = ((n6 : Nat) : Int)) ∧ (n6 < (slLen a100)) ∧ ∃ x7, ((ldC m5 (slAt a100 (n6 * 1))) = (some (Il x7))) ∧ 
 ifB (decide (x7 < x3)) (fitsP .i64 (x4 + 1) ∧ R2 [(V.c (Il x7)), 
 (V.c (Il (x4 + 1)))] m5) (fitsP .i64 (x4 + 1) ∧ 
 R2 [(V.c (Il x3)), (V.c (Il (x4 + 1)))] m5)) (Q (V.c (Il x3)) m5)) → 
 R2 [(V.c (Il x3)), (V.c (Il x4))] m5) → R2 [(V.c (Il x1)), 
 (V.c (Il 0))] m))) : Wc prog tbl 110 [(V.c a100)] m Q :=
 wc_eq (n := 1) rfl (by kernel_rfl) (by kernel_rfl) h
theorem w113 {a100 : Int} {a101 : Int} {a102 : Int} {a103 : Int} {a104 : Int} {a105 : Int} {a106 : Int} {a107 : Int} {a108 : Int} {a109 : Int} {a110 : Int} {a111 : C} {a200 : Int} {a201 : Int} {a202 : Int} {a203 : Int} {a300 : Int} {a400 : Int} {m : M} {Q : V → M → Prop} (h :
 (∀ m0 : M, (m0 = (M.new m (AO.cells 12 [(Il a100), (Il a101), (Il a102), 
 (Il a103), (Il a104), (Il a105), (Il a106), 
 (Il a107), (Il a108), (Il a109), (Il a110), 
 a111] false))) → ∀ m1 : M, (m1 = (M.new m0 (AO.cells 4 [(Il a200), (Il a201), 
 (Il a202), (Il a203)] false))) → isPt (C.ptr m.nxt 0) ∧ ∃ x2, 
 ((ldC m1 (C.ptr m.nxt 0)) = (some (Il x2))) ∧ fitsP .i64 (x2 - 1) ∧ 
 ((0 : Int) ≤ (x2 - 1)) ∧ ((0 : Int) ≤ a400) ∧ fitsP .i64 ((x2 - 1) * a400) ∧ 
 isPt (C.ptr m0.nxt 0) ∧ ∃ x3, ((ldC m1 (C.ptr m0.nxt 0)) = (some (Il x3))) ∧ 
 fitsP .i64 ((x2 - 1) - a300) ∧ ((0 : Int) ≤ x3) ∧ ((0 : Int) ≤ ((x2 - 1) - a300)) ∧ 
 fitsP .i64 (x3 * ((x2 - 1) - a300)) ∧ isPt (C.ptr m0.nxt 0) ∧ ∃ x4, 
 ((ldC m1 (C.ptr m0.nxt 1)) = (some (Il x4))) ∧ ((0 : Int) ≤ x4) ∧ 
 ((0 : Int) ≤ a300) ∧ fitsP .i64 (x4 * a300) ∧ fitsP .i64 ((x3 * ((x2 - 1) - a300)) + (x4 * a300)) ∧ 
 fitsP .i64 (((x2 - 1) * a400) - ((x3 * ((x2 - 1) - a300)) + (x4 * a300))) ∧ 
 fitsP .i64 ((0 : Int) - (((x2 - 1) * a400) - ((x3 * ((x2 - 1) - a300)) + (x4 * a300)))) ∧ 
 Q (V.c (Il (Max.max (((x2 - 1) * a400) - ((x3 * ((x2 - 1) - a300)) + (x4 * a300))) ((0 : Int) - (((x2 - 1) * a400) - ((x3 * ((x2 - 1) - a300)) + (x4 * a300))))))) m1)) : Wc prog tbl 113 [(V.agg 12 [(Il a100), (Il a101), (Il a102), (Il a103), (Il a104), (Il a105), (Il a106), (Il a107), (Il a108), (Il a109), (Il a110), a111]), (V.agg 4 [(Il a200), (Il a201), (Il a202), (Il a203)]), (V.c (Il a300)), (V.c (Il a400))] m Q :=
 wc_eq (n := 4) rfl (by kernel_rfl) (by kernel_rfl) h
theorem w117 {a100 : Bool} {a101 : Bool} {a102 : Bool} {a103 : Bool} {a104 : Bool} {a105 : Bool} {a200 : Bool} {a201 : Bool} {a202 : Bool} {a203 : Bool} {a204 : Bool} {a205 : Bool} {m : M} {Q : V → M → Prop} (h :
 (∀ m0 : M, (m0 = (M.new m (AO.cells 6 [(C.bool a100), (C.bool a101), (C.bool a102), (C.bool a103), (C.bool a104), 
 (C.bool a105)] false))) → ∀ m1 : M, (m1 = (M.new m0 (AO.cells 6 [(C.bool a200), (C.bool a201), (C.bool a202), 
 (C.bool a203), (C.bool a204), (C.bool a205)] false))) → ∀ m2 : M, (m2 = (M.new m1 (AO.cells 6 [(C.bool false), 
 (C.bool false), (C.bool false), (C.bool false), (C.bool false), (C.bool false)] false))) → ∀ R3 : List V → 
 M → Prop, (∀ x4 : Int, ∀ m5 : M, (ifB (decide (x4 < 6)) (isPt (C.ptr m0.nxt 0) ∧ ∃ n6 : Nat, 
 (x4 = ((n6 : Nat) : Int)) ∧ (n6 < 6) ∧ ∃ b7 : Bool, ((ldC m5 (C.ptr m0.nxt (0 + (n6 * 1)))) = (some (C.bool b7))) ∧ 
 ifB b7 (isPt (C.ptr m.nxt 0) ∧ ∃ n8 : Nat, (x4 = ((n8 : Nat) : Int)) ∧ (n8 < 6) ∧ ∃ b9 : Bool, 
 ((ldC m5 (C.ptr m.nxt (0 + (n8 * 1)))) = (some (C.bool b9))) ∧ isPt (C.ptr m0.nxt 0) ∧ 
 ∃ n10 : Nat, (x4 = ((n10 : Nat) : Int)) ∧ (n10 < 6) ∧ ∃ m11 : M, ((stC m5 (C.ptr m0.nxt (0 + (n10 * 1))) 1 [(C.bool b9)]) = (some m11)) ∧ 
 fitsP .i64 (x4 + 1) ∧ R3 [(V.c (Il (x4 + 1)))] m11) (isPt (C.ptr m0.nxt 0) ∧ 
 ∃ n12 : Nat, (x4 = ((n12 : Nat) : Int)) ∧ (n12 < 6) ∧ ∃ m13 : M, ((stC m5 (C.ptr m0.nxt (0 + (n12 * 1))) 1 [(C.bool false)]) = (some m13)) ∧ 
 fitsP .i64 (x4 + 1) ∧ R3 [(V.c (Il (x4 + 1)))] m13)) (∃ b14 : Bool, 
 ∃ b15 : Bool, ∃ b16 : Bool, ∃ b17 : Bool, ∃ b18 : Bool, ∃ b19 : Bool, ((ldA m5 (C.ptr m0.nxt 0) 6) = (some [(C.bool b14), 
 (C.bool b15), (C.bool b16), (C.bool b17), (C.bool b18), (C.bool b19)])) ∧ ∃ m20 : M, 
 ((stC m5 (C.ptr m1.nxt 0) 6 [(C.bool b14), (C.bool b15), (C.bool b16), (C.bool b17), 
 (C.bool b18), (C.bool b19)]) = (some m20)) ∧ ∃ b21 : Bool, ∃ b22 : Bool, ∃ b23 : Bool, 
 ∃ b24 : Bool, ∃ b25 : Bool, ∃ b26 : Bool, ((ldA m20 (C.ptr m1.nxt 0) 6) = (some [(C.bool b21), 
 (C.bool b22), (C.bool b23), (C.bool b24), (C.bool b25), (C.bool b26)])) ∧ Q (V.agg 6 [(C.bool b21), 
 (C.bool b22), (C.bool b23), (C.bool b24), (C.bool b25), (C.bool b26)]) m20)) → 
 R3 [(V.c (Il x4))] m5) → R3 [(V.c (Il 0))] m2)) : Wc prog tbl 117 [(V.agg 6 [(C.bool a100), (C.bool a101), (C.bool a102), (C.bool a103), (C.bool a104), (C.bool a105)]), (V.agg 6 [(C.bool a200), (C.bool a201), (C.bool a202), (C.bool a203), (C.bool a204), (C.bool a205)])] m Q :=
 wc_eq (n := 2) rfl (by kernel_rfl) (by kernel_rfl) h
theorem w121 {a100 : Int} {a101 : Int} {a102 : Int} {a103 : Int} {a104 : Int} {a105 : Int} {a106 : Int} {a107 : Int} {a108 : Int} {a109 : Int} {a110 : Int} {a111 : C} {a200 : Int} {a201 : Int} {a202 : Int} {a203 : Int} {a204 : Bool} {a205 : Int} {a206 : Int} {a300 : Int} {a301 : Int} {a302 : Int} {a303 : Int} {m : M} {Q : V → M → Prop} (h :
 (∀ m0 : M, (m0 = (M.new m (AO.cells 12 [(Il a100), (Il a101), (Il a102), 
 (Il a103), (Il a104), (Il a105), (Il a106), 
 (Il a107), (Il a108), (Il a109), (Il a110), 
 a111] false))) → ∀ m1 : M, (m1 = (M.new m0 (AO.cells 7 [(Il a200), (Il a201), 
 (Il a202), (Il a203), (C.bool a204), (Il a205), (Il a206)] false))) → 
 ∀ m2 : M, (m2 = (M.new m1 (AO.cells 4 [(Il a300), (Il a301), (Il a302), 
 (Il a303)] false))) → ∀ m3 : M, (m3 = (M.new m2 (AO.cells 1 [(C.bool false)] false))) → 
 ∃ x4, ∃ x5, ∃ x6, ∃ x7, ∃ b8 : Bool, ∃ x9, ∃ x10, ((ldA m3 (C.ptr m0.nxt 0) 7) = (some [(Il x4), 
 (Il x5), (Il x6), (Il x7), (C.bool b8), (Il x9), 
 (Il x10)])) ∧ Wc prog tbl 133 [(V.agg 7 [(Il x4), (Il x5), 
 (Il x6), (Il x7), (C.bool b8), (Il x9), (Il x10)])] m3 (fun v11 m12 => 
 ∃ x13, ∃ x14, ∃ x15, ∃ x16, (v11 = (V.agg 4 [(Il x13), 
 (Il x14), (Il x15), (Il x16)])) ∧ Wc prog tbl 78 [(V.agg 4 [(Il x13), 
 (Il x14), (Il x15), (Il x16)])] m12 (fun v17 m18 => 
 ∃ c19 : C, (v17 = (V.c c19)) ∧ rangeP prog tbl c19 m18 (fun l20 m21 R22 R23 => 
 ∃ x24, ∃ x25, (l20 = [(V.c (Il x24)), (V.c (Il x25))]) ∧ 
 R22 m21 (fun m26 => ∃ x27, ∃ x28, ∃ x29, ∃ x30, 
 ∃ x31, ∃ x32, ∃ x33, ∃ x34, ∃ x35, ∃ x36, 
 ∃ x37, ∃ c38 : C, ((ldA m26 (C.ptr m.nxt 0) 12) = (some [(Il x27), 
 (Il x28), (Il x29), (Il x30), (Il x31), 
 (Il x32), (Il x33), (Il x34), (Il x35), 
 (Il x36), (Il x37), c38])) ∧ ∃ x39, ∃ x40, 
 ∃ x41, ∃ x42, ((ldA m26 (C.ptr m1.nxt 0) 4) = (some [(Il x39), 
 (Il x40), (Il x41), (Il x42)])) ∧ 
 Wc prog tbl 112 [(V.agg 12 [(Il x27), (Il x28), 
 (Il x29), (Il x30), (Il x31), (Il x32), 
 (Il x33), (Il x34), (Il x35), (Il x36), 
 (Il x37), c38]), (V.agg 4 [(Il x39), (Il x40), 
 (Il x41), (Il x42)]), (V.c (Il x24)), 
 (V.c (Il x25))] m26 (fun v43 m44 => ∃ b45 : Bool, (v43 = (V.c (C.bool b45))) ∧ 
 isPt (C.ptr m0.nxt 0) ∧ ∃ b46 : Bool, ((ldC m44 (C.ptr m0.nxt 4)) = (some (C.bool b46))) ∧ 
 ((ldC m26 (C.ptr m0.nxt 4)) = (some (C.bool b46))) ∧ ifB (b45 == b46) (isPt (C.ptr m0.nxt 0) ∧ 
 ∃ x47, ∃ x48, ((ldA m44 (C.ptr m0.nxt 5) 2) = (some [(Il x47), 
 (Il x48)])) ∧ ∃ x49, ∃ x50, ∃ x51, ∃ x52, 
 ∃ x53, ∃ x54, ∃ x55, ∃ x56, ∃ x57, ∃ x58, 
 ∃ x59, ∃ c60 : C, ((ldA m44 (C.ptr m.nxt 0) 12) = (some [(Il x49), 
 (Il x50), (Il x51), (Il x52), (Il x53), 
 (Il x54), (Il x55), (Il x56), (Il x57), 
 (Il x58), (Il x59), c60])) ∧ ∃ x61, ∃ x62, 
 ∃ x63, ∃ x64, ((ldA m44 (C.ptr m1.nxt 0) 4) = (some [(Il x61), 
 (Il x62), (Il x63), (Il x64)])) ∧ 
 Wc prog tbl 75 [(V.agg 12 [(Il x49), (Il x50), 
 (Il x51), (Il x52), (Il x53), (Il x54), 
 (Il x55), (Il x56), (Il x57), (Il x58), 
 (Il x59), c60]), (V.agg 4 [(Il x61), (Il x62), 
 (Il x63), (Il x64)]), (V.c (Il x24)), 
 (V.c (Il x25))] m44 (fun v65 m66 => ∃ x67, (v65 = (V.c (Il x67))) ∧ 
 ((ldA m66 (C.ptr m0.nxt 5) 2) = (some [(Il x47), (Il x48)])) ∧ 
 Wc prog tbl 120 [(V.agg 2 [(Il x47), (Il x48)]), 
 (V.c (Il x67))] m66 (fun v68 m69 => ∃ b70 : Bool, (v68 = (V.c (C.bool b70))) ∧ 
 ifB b70 (∃ m71 : M, ((stC m69 (C.ptr m2.nxt 0) 1 [(C.bool true)]) = (some m71)) ∧ 
 R23 Ex.ret m71) (R23 Ex.nrm m69)))) (R23 Ex.nrm m44)))) (After.mk (fun m72 => 
 ∃ m73 : M, ((stC m72 (C.ptr m2.nxt 0) 1 [(C.bool false)]) = (some m73)) ∧ 
 ∃ b74 : Bool, ((ldC m73 (C.ptr m2.nxt 0)) = (some (C.bool b74))) ∧ 
 Q (V.c (C.bool b74)) m73) [] (fun m75 => ∃ b76 : Bool, ((ldC m75 (C.ptr m2.nxt 0)) = (some (C.bool b76))) ∧ 
 Q (V.c (C.bool b76)) m75)))))) : Wc prog tbl 121 [(V.agg 12 [(Il a100), (Il a101), (Il a102), (Il a103), (Il a104), (Il a105), (Il a106), (Il a107), (Il a108), (Il a109), (Il a110), a111]), (V.agg 7 [(Il a200), (Il a201), (Il a202), (Il a203), (C.bool a204), (Il a205), (Il a206)]), (V.agg 4 [(Il a300), (Il a301), (Il a302), (Il a303)])] m Q :=
 wc_eq (n := 3) rfl (by kernel_rfl) (by kernel_rfl) h
theorem w124 {a100 : Int} {a101 : Int} {a102 : Int} {a103 : Int} {a104 : Int} {a105 : Int} {a106 : Int} {a107 : Int} {a108 : Int} {a109 : Int} {a110 : Int} {a111 : C} {a112 : C} {a200 : Int} {a201 : Int} {a202 : Int} {a203 : Int} {a204 : Bool} {a205 : Int} {a206 : Int} {m : M} {Q : V → M → Prop} (h :
 (∀ m0 : M, (m0 = (M.new m (AO.cells 13 [(Il a100), (Il a101), (Il a102), 
 (Il a103), (Il a104), (Il a105), (Il a106), 
 (Il a107), (Il a108), (Il a109), (Il a110), 
 a111, a112] false))) → ∀ m1 : M, (m1 = (M.new m0 (AO.cells 7 [(Il a200), (Il a201), 
 (Il a202), (Il a203), (C.bool a204), (Il a205), (Il a206)] false))) → 
 isPt (C.ptr m.nxt 0) ∧ ∃ x2, ∃ x3, ∃ x4, ∃ x5, ∃ x6, ∃ x7, 
 ∃ x8, ∃ x9, ∃ x10, ∃ x11, ∃ x12, ∃ c13 : C, ((ldA m1 (C.ptr m.nxt 0) 12) = (some [(Il x2), 
 (Il x3), (Il x4), (Il x5), (Il x6), 
 (Il x7), (Il x8), (Il x9), (Il x10), 
 (Il x11), (Il x12), c13])) ∧ ∃ x14, ∃ x15, 
 ∃ x16, ∃ x17, ∃ b18 : Bool, ∃ x19, ∃ x20, ((ldA m1 (C.ptr m0.nxt 0) 7) = (some [(Il x14), 
 (Il x15), (Il x16), (Il x17), (C.bool b18), 
 (Il x19), (Il x20)])) ∧ Wc prog tbl 133 [(V.agg 7 [(Il x14), 
 (Il x15), (Il x16), (Il x17), (C.bool b18), 
 (Il x19), (Il x20)])] m1 (fun v21 m22 => ∃ x23, 
 ∃ x24, ∃ x25, ∃ x26, (v21 = (V.agg 4 [(Il x23), 
 (Il x24), (Il x25), (Il x26)])) ∧ 
 (ifB (allS cmC [(Il x2), (Il x3), (Il x4), 
 (Il x5), (Il x6), (Il x7), (Il x8), 
 (Il x9), (Il x10), (Il x11), (Il x12), 
 c13]) ((ldA m22 (C.ptr m.nxt 0) 12) = (some [(Il x2), 
 (Il x3), (Il x4), (Il x5), (Il x6), 
 (Il x7), (Il x8), (Il x9), (Il x10), 
 (Il x11), (Il x12), c13])) False) ∧ Wc prog tbl 107 [(V.agg 12 [(Il x2), 
 (Il x3), (Il x4), (Il x5), (Il x6), 
 (Il x7), (Il x8), (Il x9), (Il x10), 
 (Il x11), (Il x12), c13]), (V.agg 4 [(Il x23), 
 (Il x24), (Il x25), (Il x26)])] m22 (fun v27 m28 => 
 ∃ b29 : Bool, (v27 = (V.c (C.bool b29))) ∧ ifB (!b29) (Q (V.c (C.bool false)) m28) (isPt (C.ptr m0.nxt 0) ∧ 
 ∃ x30, ∃ x31, ((ldA m28 (C.ptr m0.nxt 5) 2) = (some [(Il x30), 
 (Il x31)])) ∧ Wc prog tbl 122 [(V.agg 2 [(Il x30), 
 (Il x31)]), (V.c (Il 0)), (V.c (Il (9 : Int)))] m28 (fun v32 m33 => 
 ∃ b34 : Bool, (v32 = (V.c (C.bool b34))) ∧ ifB (!b34) (Q (V.c (C.bool false)) m33) (isPt (C.ptr m0.nxt 0) ∧ 
 ∃ b35 : Bool, ((ldC m33 (C.ptr m0.nxt 4)) = (some (C.bool b35))) ∧ 
 ifB b35 (Q (V.c (C.bool true)) m33) (isPt (C.ptr m0.nxt 0) ∧ ∃ x36, 
 ∃ x37, ((ldA m33 (C.ptr m0.nxt 5) 2) = (some [(Il x36), 
 (Il x37)])) ∧ fitsP .i64 x36 ∧ fitsP .i64 (0 : Int) ∧ 
 fitsP .i64 x37 ∧ fitsP .i64 (0 : Int) ∧ Q (V.c (C.bool ((decide (x36 = 0)) && (decide (x37 = 0))))) m33)))))))) : Wc prog tbl 124 [(V.agg 13 [(Il a100), (Il a101), (Il a102), (Il a103), (Il a104), (Il a105), (Il a106), (Il a107), (Il a108), (Il a109), (Il a110), a111, a112]), (V.agg 7 [(Il a200), (Il a201), (Il a202), (Il a203), (C.bool a204), (Il a205), (Il a206)])] m Q :=
 wc_eq (n := 2) rfl (by kernel_rfl) (by kernel_rfl) h
theorem w131 {a100 : Int} {a200 : Int} {m : M} {Q : V → M → Prop} (h :
 (∀ m0 : M, (m0 = (M.new m (AO.cells 1 [(Il a100)] false))) → ∀ m1 : M, (m1 = (M.new m0 (AO.cells 1 [(Il a200)] false))) → 
 Q (V.c (C.fn (Fn.func 137) [] [(W.c (C0.ptr m0.nxt 0)), (W.c (C0.ptr m.nxt 0))])) m1)) : Wc prog tbl 131 [(V.c (Il a100)), (V.c (Il a200))] m Q :=
 wc_eq (n := 2) rfl (by kernel_rfl) (by kernel_rfl) h
theorem w134 {a100 : C} {a200 : C} {m : M} {Q : V → M → Prop} (h :
 (Wc prog tbl 139 [(V.c a100), (V.c a200)] m (fun v0 m1 => ∃ x2, (v0 = (V.c (Il x2))) ∧ Q (V.c (C.bool (decide ((0 : Int) ≤ x2)))) m1))) : Wc prog tbl 134 [(V.c a100), (V.c a200)] m Q :=
 wc_eq (n := 2) rfl (by kernel_rfl) (by kernel_rfl) h
end
end Go.Proofs.Ytbnfnhfanooplaa

namespace Go.Proofs.Ytbnfnhfanooplaa
open _root_.Go.Proofs.Try
open Go.Abs
set_option maxRecDepth 100000
noncomputable section
theorem w137 (y : C) (b b2 : Nat) {m : M} {Q : V → M → Prop} (h :
 (∀ m0 : M, (m0 = (M.new m (AO.cells 1 [y] false))) → ∃ x1, ((ldC m0 (C.ptr b 0)) = (some (Il x1))) ∧ 
 ∃ n2 : Nat, ∃ n3 : Nat, (x1 = ((n2 : Nat) : Int)) ∧ (x1 = ((n3 : Nat) : Int)) ∧ (n2 ≤ n3) ∧ (n3 ≤ 4096) ∧ 
 ∀ m4 : M, (m4 = (M.new m0 (AO.cells (n3 * 1) (repeatS [(Il 0)] n3) false))) → 
 ∀ m5 : M, (m5 = (M.new m4 (AO.cells 1 [C.sl0] false))) → ∃ m6 : M, ((stC m5 (C.ptr m4.nxt 0) 1 [(C.sl m0.nxt 0 n2 0 (some n3))]) = (some m6)) ∧ 
 ∀ m7 : M, (m7 = (M.new m6 (AO.cells 1 [C.nilFn] false))) → ∃ m8 : M, ((stC m7 (C.ptr m6.nxt 0) 1 [(C.fn (Fn.func 138) [] [(W.c (C0.ptr b 0)), 
 (W.c (C0.ptr m.nxt 0)), (W.c (C0.ptr m4.nxt 0)), (W.c (C0.ptr b2 0)), (W.c (C0.ptr m6.nxt 0))])]) = (some m8)) ∧ 
 ∃ c9 : C, ((ldC m8 (C.ptr m6.nxt 0)) = (some c9)) ∧ callP prog tbl [(V.c (Il 0)), 
 (V.c (Il 0))] c9 m8 (fun v10 m11 => ∃ b12 : Bool, (v10 = (V.c (C.bool b12))) ∧ 
 Q (V.tup []) m11))) : Wc prog tbl 137 [.c y, .c (.ptr b 0), .c (.ptr b2 0)] m Q :=
 wc_eq (n := 3) rfl (by kernel_rfl) (by kernel_rfl) h
theorem w138 (at' from' : Int) (b k h2 b2 cv : Nat) {m : M} {Q : V → M → Prop} (h :
 (∃ x0, ((ldC m (C.ptr b 0)) = (some (Il x0))) ∧ ifB (decide (at' = x0)) (∃ c1 : C, 
 ((ldC m (C.ptr k 0)) = (some c1)) ∧ ∃ c2 : C, ((ldC m (C.ptr h2 0)) = (some c2)) ∧ callP prog tbl [(V.c c2)] c1 m (fun v3 m4 => 
 ∃ b5 : Bool, (v3 = (V.c (C.bool b5))) ∧ Q (V.c (C.bool b5)) m4)) (∀ R6 : List V → M → Prop, 
 (∀ b7 : Bool, ∀ x8 : Int, ∀ m9 : M, (∃ x10, ((ldC m9 (C.ptr b2 0)) = (some (Il x10))) ∧ 
 ifB (decide (x8 < x10)) (∃ c11 : C, ((ldC m9 (C.ptr h2 0)) = (some c11)) ∧ ∃ n12 : Nat, 
 (at' = ((n12 : Nat) : Int)) ∧ (n12 < (slLen c11)) ∧ ∃ m13 : M, ((stC m9 (slAt c11 (n12 * 1)) 1 [(Il x8)]) = (some m13)) ∧ 
 ∃ c14 : C, ((ldC m13 (C.ptr cv 0)) = (some c14)) ∧ fitsP .i64 (at' + (1 : Int)) ∧ 
 fitsP .i64 (x8 + 1) ∧ callP prog tbl [(V.c (Il (at' + (1 : Int)))), 
 (V.c (Il (x8 + 1)))] c14 m13 (fun v15 m16 => ∃ b17 : Bool, 
 (v15 = (V.c (C.bool b17))) ∧ ifB (!b17) (Q (V.c (C.bool false)) m16) (fitsP .i64 (x8 + 1) ∧ 
 R6 [(V.c (C.bool b7)), (V.c (Il (x8 + 1)))] m16))) (Q (V.c (C.bool true)) m9)) → 
 R6 [(V.c (C.bool b7)), (V.c (Il x8))] m9) → R6 [(V.c (C.bool false)), (V.c (Il from'))] m))) : Wc prog tbl 138 [.c (Il at'), .c (Il from'), .c (.ptr b 0), .c (.ptr k 0), .c (.ptr h2 0), .c (.ptr b2 0), .c (.ptr cv 0)] m Q :=
 wc_eq (n := 7) rfl (by kernel_rfl) (by kernel_rfl) h
end
end Go.Proofs.Ytbnfnhfanooplaa

namespace Go.Proofs.Ytbnfnhfanooplaa
open _root_.Go.Proofs.Try
open Go.Abs
set_option maxRecDepth 100000
noncomputable section
theorem t22 : tk prog 69 = .sl 3 := by kernel_rfl
theorem g3 : growOk prog 3 = true := by kernel_rfl
theorem z3 : prog.cellsOf 3 = 1 := by kernel_rfl
theorem take_set {P : List Int} {p : Nat} (hp : p < P.length) (n : Int) : (P.set p n).take (p + 1) = P.take p ++ [n] := by
 rw [List.take_add_one, List.getElem?_set_self hp, List.take_set_of_le (Nat.le_refl _)]; rfl
theorem _root_.Go.Abs.Chg.trans {S S1 : Nat → Prop} {T : Nat → Prop} {m m1 m2 : M} (h1 : Chg (fun b => S b ∨ T b) m m1) (h2 : Chg (fun b => S1 b ∨ T b) m1 m2) (ho : Own S m S1) : Chg (fun b => S b ∨ T b) m m2 :=
 ⟨Nat.le_trans h1.nxt h2.nxt, fun b hb hS => by
  rw [h2.g b (Nat.lt_of_lt_of_le hb h1.nxt) fun h => h.elim (fun h3 => (ho b h3).elim (fun h4 => hS (.inl h4)) fun h4 => by omega) fun h3 => hS (.inr h3)]
  exact h1.g b hb hS, h2.vw.trans h1.vw⟩
theorem _root_.Go.Abs.Own.refl (S : Nat → Prop) (m : M) : Own S m S := fun _ hb => .inl hb
theorem _root_.Go.Abs.Own.trans {S S1 S2 : Nat → Prop} {m m1 : M} (h1 : Own S m S1) (h2 : Own S1 m1 S2) (hn : m.nxt ≤ m1.nxt) : Own S m S2 := fun b hb => (h2 b hb).elim (h1 b) fun h => .inr (by omega)
theorem _root_.Go.Abs.Chg.or {S T : Nat → Prop} {m m' : M} (h : Chg S m m') : Chg (fun b => S b ∨ T b) m m' := ⟨h.nxt, fun b hb hS => h.g b hb fun h2 => hS (.inl h2), h.vw⟩
theorem ints_set (L : List Int) (i : Nat) (v : Int) : (ints L).set i (.int .i64 v) = ints (L.set i v) := by unfold ints; rw [List.map_set]
theorem fits_small {n : Int} (h1 : -1000000 ≤ n) (h2 : n ≤ 1000000) : fitsP .i64 n := by simp only [fitsP]; omega
theorem mem_rests {α : Type} (g : Nat → List α) (a : α) : ∀ (e n : Nat), a ∈ rests g e n ↔ ∃ j, n ≤ j ∧ j < n + e ∧ a ∈ g j
 | 0, n => ⟨fun h => (by cases h), fun ⟨j, h1, h2, _⟩ => by omega⟩
 | e + 1, n => by
  show a ∈ g n ++ rests g e (n + 1) ↔ _
  rw [List.mem_append, mem_rests g a e (n + 1)]
  constructor
  ·rintro (h | ⟨j, h1, h2, h3⟩)
   ·exact ⟨n, Nat.le_refl _, by omega, h⟩
   ·exact ⟨j, by omega, by omega, h3⟩
  ·rintro ⟨j, h1, h2, h3⟩
   by_cases hj : j = n
   ·subst hj; exact .inl h3
   ·exact .inr ⟨j, by omega, by omega, h3⟩
def hdr (bl size : Nat) : C := .sl bl 0 size 0 (some size)
def flC (b k h2 b2 cv : Nat) : C := .fn (.func 138) [] [.c (.ptr b 0), .c (.ptr k 0), .c (.ptr h2 0), .c (.ptr b2 0), .c (.ptr cv 0)]
def VsL (all : List (List Int)) (n1 i : Nat) (x : List V) (m : M) : Prop := ∃ L c, all[i]? = some L ∧ x = [.c c] ∧ Li m c L ∧ (isNilC c = false ∧ slOk c 1 L.length) ∧ ∀ b o n s d, c = .sl b o n s d → n1 ≤ b
theorem _root_.Go.Abs.Bk.st1n {m : M} {b n : Nat} {vs : List C} (h : Bk m b n vs) {k : Nat} (c : C) (hk : k < vs.length) (hn : vs.length = n) : stC m (.ptr b (0 + k * 1)) 1 [c] = some (m.set b (.cells n (vs.set k c) false)) := by
 rw [show 0 + k * 1 = k by omega]
 by_cases h1 : n = 1
 ·subst h1
  have hk0 : k = 0 := by omega
  subst hk0
  have : vs.set 0 c = [c] := by
   match vs, hn with
   | [a], _ => rfl
  rw [this]
  exact stC_of h.g [c]
 ·exact stC_at h.g c hk hn h1
theorem rep0 (n : Nat) : repeatS [C.int .i64 0] n = ints (List.replicate n 0) := by rw [repeatS_eq]; simp [ints]
structure SlF (n size b b2 l k h2 bl cv : Nat) (S : Nat → Prop) (m : M) (P : List Int) : Prop where
 bb : Bk m b 1 [.int .i64 (size : Int)]
 nn : Bk m b2 1 [.int .i64 (n : Int)]
 kk : Bk m k 1 [.fn (.yield l) [] []]
 hh : Bk m h2 1 [hdr bl size]
 ll : Bk m bl size (ints P)
 cc : Bk m cv 1 [flC b k h2 b2 cv]
 ss : ∀ b', S b' → b' ≠ b ∧ b' ≠ b2 ∧ b' ≠ k ∧ b' ≠ h2 ∧ b' ≠ bl ∧ b' ≠ cv
 ne : b ≠ bl ∧ b2 ≠ bl ∧ k ≠ bl ∧ h2 ≠ bl ∧ cv ≠ bl
variable {n size b b2 l k h2 bl cv : Nat}
theorem SlF.to {S S' : Nat → Prop} {m m' : M} {P : List Int} (h : SlF n size b b2 l k h2 bl cv S m P) (hn : Chg S m m') (ho : Own S m S') : SlF n size b b2 l k h2 bl cv S' m' P := by
 have tr : ∀ {b' j : Nat} {vs : List C}, Bk m b' j vs → ¬ S b' → Bk m' b' j vs := fun hb hS => ⟨(hn.g _ hb.lt hS).trans hb.g, Nat.lt_of_lt_of_le hb.lt hn.nxt⟩
 refine ⟨tr h.bb fun h1 => (h.ss _ h1).1 rfl, tr h.nn fun h1 => (h.ss _ h1).2.1 rfl, tr h.kk fun h1 => (h.ss _ h1).2.2.1 rfl, tr h.hh fun h1 => (h.ss _ h1).2.2.2.1 rfl, tr h.ll fun h1 => (h.ss _ h1).2.2.2.2.1 rfl, tr h.cc fun h1 => (h.ss _ h1).2.2.2.2.2 rfl, fun b' hb => ?_, h.ne⟩
 rcases ho b' hb with h1 | h1
 ·exact h.ss b' h1
 ·have := h.bb.lt; have := h.nn.lt; have := h.kk.lt; have := h.hh.lt; have := h.ll.lt; have := h.cc.lt
  omega
theorem SlF.set {S : Nat → Prop} {m : M} {P : List Int} (h : SlF n size b b2 l k h2 bl cv S m P) (P' : List Int) : SlF n size b b2 l k h2 bl cv S (m.set bl (.cells size (ints P') false)) P' :=
 ⟨h.bb.setNe h.ne.1 _, h.nn.setNe h.ne.2.1 _, h.kk.setNe h.ne.2.2.1 _, h.hh.setNe h.ne.2.2.2.1 _, h.ll.set _, h.cc.setNe h.ne.2.2.2.2 _, h.ss, h.ne⟩
theorem SlF.li {S : Nat → Prop} {m : M} {P : List Int} (h : SlF n size b b2 l k h2 bl cv S m P) (hP : P.length = size) : Li m (hdr bl size) P := by
 refine ⟨by rw [ints_len]; omega, .inr ⟨bl, 0, 0, some size, by rw [hP]; rfl, h.ll.lt, fun _ => .inl ⟨size, ints P, false, h.ll.g, by rw [ints_len]; exact hP, by rw [ints_len]; omega, by rw [List.drop_zero, List.take_length]⟩⟩⟩
theorem sFill {n0 n1 : Nat} (hn : n ≤ 1000) (hsz : size ≤ 1000) (hn0 : n0 ≤ bl) (hn1 : n1 ≤ bl) {all : List (List Int)} {I : Nat → (Nat → Prop) → M → Prop} {E : (Nat → Prop) → M → Prop} (hcl : ClientV prog tbl n0 l (VsL all n1) I E) :
  ∀ (d p : Nat), d + p = size → ∀ (i fr : Nat) (S : Nat → Prop) (m : M) (P : List Int) (Q : V → M → Prop), SlF n size b b2 l k h2 bl cv S m P → P.length = size →
   (∀ j L, (combs n d (P.take p) fr)[j]? = some L → all[i + j]? = some L) → I i S m →
   (∀ S' m' P', Own S m S' → Chg (fun b' => S b' ∨ b' = bl) m m' → SlF n size b b2 l k h2 bl cv S' m' P' → P'.length = size → P'.take p = P.take p → I (i + (combs n d (P.take p) fr).length) S' m' → Q (.c (.bool true)) m') →
   (∀ S' m', Own S m S' → Chg (fun b' => S b' ∨ b' = bl) m m' → E S' m' → Q (.c (.bool false)) m') →
   Wc prog tbl 138 [.c (.int .i64 (p : Int)), .c (.int .i64 (fr : Int)), .c (.ptr b 0), .c (.ptr k 0), .c (.ptr h2 0), .c (.ptr b2 0), .c (.ptr cv 0)] m Q := by
 intro d
 induction d with
 | zero =>
  intro p hp i fr S m P Q hst hP hxs hI hT hF
  refine w138 (p : Int) (fr : Int) b k h2 b2 cv ⟨_, hst.bb.rc rfl, ?_⟩
  rw [ifB_dec]
  refine ⟨fun _ => ⟨_, hst.kk.rc rfl, _, hst.hh.rc rfl, ?_⟩, fun h1 => absurd (by omega) h1⟩
  have hx0 := hxs 0 (P.take p) rfl
  rw [List.take_of_length_le (by omega), Nat.add_zero] at hx0
  show Wy prog tbl l [.c (hdr bl size)] m _
  refine hcl.yield i _ S m ⟨P, hdr bl size, hx0, rfl, hst.li hP, ⟨rfl, .inr (.inl ⟨bl, 0, 0, size, by rw [hP]; rfl, by omega⟩)⟩, fun b' o n' s d h => by cases h; exact hn1⟩ hI _ (fun S' m' ho hch hI' => ⟨_, rfl, ?_⟩) fun S' m' ho hch hE => ⟨_, rfl, hF S' m' ho (Chg.or hch) hE⟩
  exact hT S' m' P ho (Chg.or hch) (hst.to hch ho) hP rfl hI'
 | succ d ih =>
  intro p hp i fr S m P Q hst hP hxs hI hT hF
  refine w138 (p : Int) (fr : Int) b k h2 b2 cv ⟨_, hst.bb.rc rfl, ?_⟩
  rw [ifB_dec]
  refine ⟨fun h1 => by omega, fun _ R6 hstep => ?_⟩
  let g : Nat → List (List Int) := fun x => combs n d (P.take p ++ [(x : Int)]) (x + 1)
  have hex : combs n (d + 1) (P.take p) fr = rests g (n - fr) fr := rfl
  rw [hex] at hxs hT
  have hgo : ∀ (e x : Nat) (b7 : Bool) (m9 : M) (S1 : Nat → Prop) (P1 : List Int) (i1 : Nat), n - x = e → Own S m S1 → Chg (fun b' => S b' ∨ b' = bl) m m9 → SlF n size b b2 l k h2 bl cv S1 m9 P1 → P1.length = size → P1.take p = P.take p → I i1 S1 m9 →
    i1 + (rests g e x).length = i + (rests g (n - fr) fr).length → (∀ j L, (rests g e x)[j]? = some L → all[i1 + j]? = some L) → R6 [.c (.bool b7), .c (.int .i64 (x : Int))] m9 := by
   intro e
   induction e with
   | zero =>
    intro x b7 m9 S1 P1 i1 hen ho hch hst1 hP1 htk hI1 hlen hxs1
    refine hstep _ _ _ ⟨_, hst1.nn.rc rfl, ?_⟩
    rw [ifB_dec]
    refine ⟨fun h1 => by omega, fun _ => hT S1 m9 P1 ho hch hst1 hP1 htk ?_⟩
    have : i1 + 0 = _ := hlen
    rw [← this, Nat.add_zero]; exact hI1
   | succ e ihe =>
    intro x b7 m9 S1 P1 i1 hen ho hch hst1 hP1 htk hI1 hlen hxs1
    refine hstep _ _ _ ⟨_, hst1.nn.rc rfl, ?_⟩
    rw [ifB_dec]
    refine ⟨fun _ => ?_, fun h1 => absurd (by omega) h1⟩
    have hp9 : p < P1.length := by omega
    refine ⟨_, hst1.hh.rc rfl, p, rfl, (by show p < size; omega), _, hst1.ll.st1n _ (by rw [ints_len]; exact hp9) (by rw [ints_len]; exact hP1), ?_⟩
    rw [ints_set]
    have hst2 := hst1.set (P1.set p (x : Int))
    have hch2 : Chg (fun b' => S1 b' ∨ b' = bl) m9 (m9.set bl (.cells size (ints (P1.set p (x : Int))) false)) := ⟨Nat.le_refl _, fun b' _ hS => by rw [M.g_set, if_neg fun h1 => hS (.inr h1)], rfl⟩
    have hI2 : I i1 S1 (m9.set bl (.cells size (ints (P1.set p (x : Int))) false)) := (hcl.li i1).st _ _ _ hI1 (Nat.le_refl _) rfl (fun b' hb => by rw [M.g_set, if_neg (hst1.ss b' hb).2.2.2.2.1]) (fun b' hb => by rw [M.g_set, if_neg (by omega)])
    have hchm := Chg.trans (T := fun b' => b' = bl) hch hch2 ho
    generalize m9.set bl (.cells size (ints (P1.set p (x : Int))) false) = m13 at hst2 hch2 hI2 hchm
    have hP2 : (P1.set p (x : Int)).length = size := by rw [List.length_set]; exact hP1
    have htk2 : (P1.set p (x : Int)).take (p + 1) = P.take p ++ [(x : Int)] := by rw [take_set hp9, htk]
    have htk3 : (P1.set p (x : Int)).take p = P.take p := by rw [List.take_set_of_le (Nat.le_refl _), htk]
    generalize P1.set p (x : Int) = P2 at hst2 htk2 htk3 hP2
    have hge : rests g (e + 1) x = g x ++ rests g e (x + 1) := rfl
    have hg : g x = combs n d (P2.take (p + 1)) (x + 1) := by rw [htk2]
    rw [hge, hg] at hlen hxs1
    rw [List.length_append] at hlen
    refine ⟨_, hst2.cc.rc rfl, fits_small (by omega) (by omega), fits_small (by omega) (by omega), ?_⟩
    show Wc prog tbl 138 [.c (.int .i64 ((p + 1 : Nat) : Int)), .c (.int .i64 ((x + 1 : Nat) : Int)), .c (.ptr b 0), .c (.ptr k 0), .c (.ptr h2 0), .c (.ptr b2 0), .c (.ptr cv 0)] m13 _
    refine ih (p + 1) (by omega) i1 (x + 1) S1 m13 P2 _ hst2 hP2 (fun j H hj => hxs1 j H (by rw [List.getElem?_append_left (List.getElem?_eq_some_iff.1 hj).1]; exact hj)) hI2 (fun S' m' P' ho' hch' hst' hP' htk' hI' => ⟨_, rfl, ?_⟩) fun S' m' ho' hch' hE => ⟨_, rfl, ?_⟩
    ·have htk4 : P'.take p = P.take p := by
      have h1 := congrArg (List.take p) htk'
      rw [List.take_take, List.take_take, Nat.min_eq_left (by omega)] at h1
      rw [h1, htk3]
     refine ⟨fits_small (by omega) (by omega), ihe (x + 1) b7 m' S' P' _ (by omega) (Own.trans ho ho' hchm.nxt) (Chg.trans (T := fun b' => b' = bl) hchm hch' ho) hst' hP' htk4 hI' (by omega) fun j H hj => ?_⟩
     rw [Nat.add_assoc]
     exact hxs1 _ H (by rw [List.getElem?_append_right (by omega), Nat.add_sub_cancel_left]; exact hj)
    ·exact hF S' m' (Own.trans ho ho' hchm.nxt) (Chg.trans (T := fun b' => b' = bl) hchm hch' ho) hE
  exact hgo (n - fr) fr false m S P i rfl (Own.refl S m) ⟨Nat.le_refl _, fun _ _ _ => rfl, rfl⟩ hst hP rfl hI rfl hxs
theorem lists_iter (hn : n ≤ 1000) (hsz : size ≤ 1000) : IterV prog tbl (.fn (.func 137) [] [.c (.ptr b 0), .c (.ptr b2 0)]) (combs n size [] 0).length (VsL (combs n size [] 0)) (fun b' => b' = b ∨ b' = b2) (fun m => Bk m b 1 [.int .i64 (size : Int)] ∧ Bk m b2 1 [.int .i64 (n : Int)]) := by
 refine ⟨fun m m' h hn' hv hg => ⟨⟨(hg b (.inl rfl)).trans h.1.g, Nat.lt_of_lt_of_le h.1.lt hn'⟩, ⟨(hg b2 (.inr rfl)).trans h.2.g, Nat.lt_of_lt_of_le h.2.lt hn'⟩⟩, fun m h b' hb => hb.elim (fun h1 => h1 ▸ h.1.lt) fun h1 => h1 ▸ h.2.lt, fun n0' l I E S m hcl hn0' hI hR hSD Q hQ => ?_⟩
 have hSlt := (hcl.li 0).lt _ _ hI
 have hb := hR.1.lt
 have hb2 := hR.2.lt
 show Wc prog tbl 137 [.c (.fn (.yield l) [] []), .c (.ptr b 0), .c (.ptr b2 0)] m Q
 refine w137 _ b b2 fun m0 e0 => ?_
 obtain ⟨b0, x0⟩ := Bk.new e0
 refine ⟨_, (hR.1.ext x0).rc rfl, size, size, rfl, rfl, Nat.le_refl _, by omega, fun m4 e4 m5 e5 => ?_⟩
 rw [rep0, Nat.mul_one] at e4
 obtain ⟨b4, x4⟩ := Bk.new e4
 obtain ⟨b5, x5⟩ := Bk.new e5
 have n0 : m0.nxt = m.nxt + 1 := by rw [e0]; rfl
 have n4 : m4.nxt = m.nxt + 2 := by rw [e4]; show m0.nxt + 1 = _; omega
 have n5 : m5.nxt = m.nxt + 3 := by rw [e5]; show m4.nxt + 1 = _; omega
 refine ⟨_, b5.st _, fun m7 e7 => ?_⟩
 have k6 := b5.set [C.sl m0.nxt 0 size 0 (some size)]
 have x6 : Ext m (m5.set m4.nxt (.cells 1 [C.sl m0.nxt 0 size 0 (some size)] false)) := ((x0.trans x4).trans x5).setR (by omega) _
 have k0 : Bk (m5.set m4.nxt (.cells 1 [C.sl m0.nxt 0 size 0 (some size)] false)) m.nxt 1 [.fn (.yield l) [] []] := ((b0.ext x4).ext x5).setNe (by omega) _
 have k4 : Bk (m5.set m4.nxt (.cells 1 [C.sl m0.nxt 0 size 0 (some size)] false)) m0.nxt size (ints (List.replicate size 0)) := (b4.ext x5).setNe (by omega) _
 have n6 : (m5.set m4.nxt (.cells 1 [C.sl m0.nxt 0 size 0 (some size)] false)).nxt = m.nxt + 3 := n5
 have e7' : m7 = (m5.set m4.nxt (.cells 1 [C.sl m0.nxt 0 size 0 (some size)] false)).new (.cells 1 [.nilFn] false) := e7
 clear e7
 generalize m5.set m4.nxt (.cells 1 [C.sl m0.nxt 0 size 0 (some size)] false) = m6 at k6 x6 k0 k4 n6 e7' ⊢
 obtain ⟨b7, x7⟩ := Bk.new e7'
 have n7 : m7.nxt = m.nxt + 4 := by rw [e7']; show m6.nxt + 1 = _; omega
 refine ⟨_, b7.st _, _, (b7.set _).rc rfl, ?_⟩
 have k8 := b7.set [flC b m.nxt m4.nxt b2 m6.nxt]
 have x8 : Ext m (m7.set m6.nxt (.cells 1 [flC b m.nxt m4.nxt b2 m6.nxt] false)) := (x6.trans x7).setR (by omega) _
 have j0 := (k0.ext x7).setNe (c := m6.nxt) (by omega) (.cells 1 [flC b m.nxt m4.nxt b2 m6.nxt] false)
 have j4 := (k4.ext x7).setNe (c := m6.nxt) (by omega) (.cells 1 [flC b m.nxt m4.nxt b2 m6.nxt] false)
 have j6 := (k6.ext x7).setNe (c := m6.nxt) (by omega) (.cells 1 [flC b m.nxt m4.nxt b2 m6.nxt] false)
 show callP prog tbl _ (flC b m.nxt m4.nxt b2 m6.nxt) (m7.set m6.nxt (.cells 1 [flC b m.nxt m4.nxt b2 m6.nxt] false)) _
 generalize m7.set m6.nxt (.cells 1 [flC b m.nxt m4.nxt b2 m6.nxt] false) = m8 at k8 x8 j0 j4 j6
 have hI8 : I 0 S m8 := (hcl.li 0).st _ _ _ hI x8.nxt x8.vw (fun b' hb => x8.g b' (hSlt b' hb)) (fun b' hb => x8.g b' (by omega))
 have hSl : SlF n size b b2 l m.nxt m4.nxt m0.nxt m6.nxt S m8 (List.replicate size 0) := ⟨hR.1.ext x8, hR.2.ext x8, j0, j6, j4, k8, fun b' hb' => by
  have h1 := hSlt b' hb'
  have h2 := hSD b' hb'
  exact ⟨fun h => h2 (.inl h), fun h => h2 (.inr h), by omega, by omega, by omega, by omega⟩, by omega⟩
 have hchg : ∀ {m' : M}, Chg (fun b' => S b' ∨ b' = m0.nxt) m8 m' → Chg S m m' := fun {m'} h => ⟨Nat.le_trans x8.nxt h.nxt, fun b' hb hSb => by
  rw [h.g b' (Nat.lt_of_lt_of_le hb x8.nxt) fun h3 => h3.elim hSb fun h4 => by omega]
  exact x8.g b' hb, h.vw.trans x8.vw⟩
 show Wc prog tbl 138 [.c (.int .i64 ((0 : Nat) : Int)), .c (.int .i64 ((0 : Nat) : Int)), .c (.ptr b 0), .c (.ptr m.nxt 0), .c (.ptr m4.nxt 0), .c (.ptr b2 0), .c (.ptr m6.nxt 0)] m8 _
 refine sFill hn hsz (n0 := n0') (n1 := m.nxt) (by omega) (by omega) hcl size 0 (by omega) 0 0 S m8 _ _ hSl (by simp) (fun j L hj => by rw [Nat.zero_add]; exact hj) hI8 (fun S' m' P' ho hch hst' _ _ hI' => ⟨_, rfl, ?_⟩) fun S' m' ho hch hE => ⟨_, rfl, ?_⟩
 ·rw [Nat.zero_add] at hI'
  exact hQ _ S' m' (Own.trans (Own.refl S m) ho x8.nxt) (hchg hch) (.inl hI')
 ·exact hQ _ S' m' (Own.trans (Own.refl S m) ho x8.nxt) (hchg hch) (.inr hE)
theorem isNil_ne {m : M} {z : C} {L : List Int} (hz : Li m z L) (hn : isNilC z = false) : ∃ b o n s c, z = .sl b o n s c := by
 rcases hz.val with ⟨rfl, _⟩ | ⟨b, o, s, c, rfl, _⟩
 ·cases hn
 ·exact ⟨_, _, _, _, _, rfl⟩
theorem sClone {z : C} {L : List Int} {m : M} {Q : V → M → Prop} (hz : Li m z L) (hn : isNilC z = false) (hL : L.length ≤ 1000) (h : ∀ z' m', Ext m m' → Li m' z' L → Fr m z' → slOk z' 1 L.length → Q (.c z') m') : Wc prog tbl 132 [.c z] m Q := by
 obtain ⟨b, o, n, s, c, rfl⟩ := isNil_ne hz hn
 refine w132 ⟨trivial, trivial, trivial, rfl, ?_⟩
 show ∀ m0 : M, _
 intro m0 e0
 obtain ⟨b0, x0⟩ := Bk.new e0
 have ho : Own1 m0 1 (.sl m.nxt 0 0 0 (some 0)) [] 0 := ⟨rfl, .lit _ b0.g b0.lt⟩
 by_cases h0 : L.length = 0
 ·have hL0 : L = [] := List.eq_nil_of_length_eq_zero h0
  subst hL0
  exact ⟨_, _, ap_none t22 g3 z3 ho (hz.ext x0), h _ _ x0 ho.ls (fun b o n s d hq => by cases hq; exact Nat.le_refl _) (.inr (.inl ⟨_, _, _, _, rfl, Nat.le_refl _⟩))⟩
 ·obtain ⟨m', q1, q2, q3, q4, q5⟩ := ap_own t22 g3 z3 ho (hz.ext x0) (by omega) (by omega) (by omega)
  have n0 : m0.nxt = m.nxt + 1 := by rw [e0]; rfl
  refine ⟨_, m', q1, h _ _ ⟨by omega, fun b' hb => ?_, q4.trans x0.vw⟩ ?_ (fun b o n s d hq => by cases hq; omega) (.inr (.inr ⟨_, _, by rw [Nat.zero_add]⟩))⟩
  ·rw [q5 b' (by omega) (by intro hq; cases hq)]; exact x0.g b' hb
  ·have := q2.ls
   rw [List.nil_append] at this
   have e : 0 + L.length = L.length := Nat.zero_add _
   rw [e] at this ⊢
   exact this
theorem rests_split {α : Type} (g : Nat → List α) (p : α → Bool) : ∀ e x, (rests g (e + 1) x).find? p = ((g x).find? p).or ((rests g e (x + 1)).find? p) := fun e x => by
 show (g x ++ rests g e (x + 1)).find? p = _
 rw [List.find?_append]
def Tests (n : Nat) (m : M) (fnc : C) (t : List Int → Bool) : Prop :=
 ∀ m' z L, Ext m m' → Li m' z L → slOk z 1 L.length → L ∈ allL n → ∀ Q : V → M → Prop, (∀ m'', Ext m' m'' → Q (.c (.bool (t L))) m'') → callP prog tbl [.c z] fnc m' Q
theorem drop_find {l : List (List Int)} {i : Nat} {a : List Int} (h : l[i]? = some a) (p : List Int → Bool) : (l.drop i).find? p = if p a then some a else (l.drop (i + 1)).find? p := by
 obtain ⟨hi, ha⟩ := List.getElem?_eq_some_iff.1 h
 rw [List.drop_eq_getElem_cons hi, ha, List.find?_cons]
 cases p a <;> rfl
theorem combs_len {n : Nat} {L : List Int} : ∀ {d : Nat} {pre : List Int} {fr : Nat}, L ∈ combs n d pre fr → L.length = pre.length + d
 | 0, pre, fr, h => by
  have : L = pre := List.mem_singleton.1 h
  rw [this]; rfl
 | d + 1, pre, fr, h => by
  obtain ⟨x, _, _, h3⟩ := (mem_rests _ _ _ _).1 h
  have := combs_len h3
  rw [List.length_append] at this
  simp only [List.length_cons, List.length_nil] at this
  omega
theorem sShort {n : Nat} {fnc : C} {t : List Int → Bool} {m : M} {Q : V → M → Prop} (hn : n ≤ 100) (ht : Tests n m fnc t) (h : ∀ z m', Ext m m' → Li m' z (shortL n t) → slOk z 1 (shortL n t).length → (∀ b o n' s d, z = .sl b o n' s d → m.nxt ≤ b) → Q (.c z) m') : Wc prog tbl 118 [.c (.int .i64 (n : Int)), .c fnc] m Q := by
 refine w118 fun m0 e0 m1 e1 => ?_
 obtain ⟨b0, x0⟩ := Bk.new e0
 obtain ⟨b1, x1⟩ := Bk.new e1
 have x01 := x0.trans x1
 have n0 : m0.nxt = m.nxt + 1 := by rw [e0]; rfl
 refine ⟨fits_small (by omega) (by omega), fun R2 hstep => ?_⟩
 let G : Nat → List (List Int) := fun s => combs n s [] 0
 have hgo : ∀ (e s : Nat) (m4 : M), e + s = n + 1 → Ext m m4 → Bk m4 m.nxt 1 [fnc] → Bk m4 m0.nxt 1 [.sl0] → (rests G e s).find? t = (allL n).find? t → R2 [.c (.int .i64 (s : Int))] m4 := by
  intro e
  induction e with
  | zero =>
   intro s m4 hes x4 k0 k1 hfind
   refine hstep _ _ ?_
   rw [ifB_dec]
   refine ⟨fun h1 => by omega, fun _ => ⟨_, k1.rc rfl, ?_⟩⟩
   have : shortL n t = [] := by unfold shortL; rw [← hfind]; rfl
   refine h _ _ x4 ?_ ?_ fun _ _ _ _ _ h9 => by cases h9
   ·rw [this]; exact Ls.nil m4 1
   ·rw [this]; exact .inl ⟨rfl, rfl⟩
  | succ e ih =>
   intro s m4 hes x4 k0 k1 hfind
   refine hstep _ _ ?_
   rw [ifB_dec]
   refine ⟨fun _ => ?_, fun h1 => absurd (by omega) h1⟩
   refine w131 fun m5 e5 m6 e6 => ?_
   obtain ⟨b5, x5⟩ := Bk.new e5
   obtain ⟨b6, x6⟩ := Bk.new e6
   have x56 := x5.trans x6
   refine ⟨_, rfl, ?_⟩
   have hk0 := k0.lt
   have hk1 := k1.lt
   have n5 : m5.nxt = m4.nxt + 1 := by rw [e5]; rfl
   have x46 := x4.trans x56
   have k06 := k0.ext x56
   have k16 := k1.ext x56
   rw [rests_split] at hfind
   refine range_iterV (lists_iter (b := m5.nxt) (b2 := m4.nxt) (n := n) (size := s) (by omega) (by omega)) ⟨b6, b5.ext x6⟩
    (J := fun i S ma => (∀ b', S b' ↔ b' = m0.nxt) ∧ Bk ma m0.nxt 1 [.sl0] ∧ ((G s).drop i).find? t = (G s).find? t ∧ m6.nxt ≤ ma.nxt ∧ ma.vw = m6.vw ∧ ∀ b', b' < m6.nxt → b' ≠ m0.nxt → ma.g b' = m6.g b')
    (X := fun ex S ma => ex = .exit 0 ∧ ∃ z L, (∀ b', S b' ↔ b' = m0.nxt ∨ ∃ o n s d, z = .sl b' o n s d) ∧ Bk ma m0.nxt 1 [z] ∧ Li ma z L ∧ (∀ b' o n s d, z = .sl b' o n s d → m.nxt ≤ b' ∧ b' < ma.nxt) ∧ ((G s).find? t = some L ∧ slOk z 1 L.length) ∧ m6.nxt ≤ ma.nxt ∧ ma.vw = m6.vw ∧ ∀ b', b' < m6.nxt → b' ≠ m0.nxt → ma.g b' = m6.g b')
    (fun i => ⟨fun S ma mb hj hn' hv hg hlow => ⟨hj.1, ⟨(hg _ ((hj.1 _).2 rfl)).trans hj.2.1.g, Nat.lt_of_lt_of_le hj.2.1.lt hn'⟩, hj.2.2.1, Nat.le_trans hj.2.2.2.1 hn', hv.trans hj.2.2.2.2.1, fun b' hb' hne => (hlow b' hb').trans (hj.2.2.2.2.2 b' hb' hne)⟩, fun S ma hj b' hb' => by rw [(hj.1 b').1 hb']; exact hj.2.1.lt⟩)
    (fun ex => ⟨fun S ma mb hj hn' hv hg hlow => ?_, fun S ma hj b' hb' => ?_⟩) (S0 := fun b' => b' = m0.nxt) ⟨fun _ => Iff.rfl, k16, rfl, Nat.le_refl _, rfl, fun _ _ _ => rfl⟩ (fun b' hb' hd => by rcases hd with hd | hd <;> omega) ?_ ?_ ?_ ?_
   ·obtain ⟨h1, z, L, h2, h3, h4, h5, h6, h7, h8, h9⟩ := hj
    refine ⟨h1, z, L, h2, ⟨(hg _ ((h2 _).2 (.inl rfl))).trans h3.g, Nat.lt_of_lt_of_le h3.lt hn'⟩, h4.to hn' (fun b' _ hx' => ?_) hv, fun b' o n s d hz => ⟨(h5 b' o n s d hz).1, Nat.lt_of_lt_of_le (h5 b' o n s d hz).2 hn'⟩, h6, Nat.le_trans h7 hn', hv.trans h8, fun b' hb' hne => (hlow b' hb').trans (h9 b' hb' hne)⟩
    obtain ⟨o, s', d, hx'⟩ := hx'
    exact hg b' ((h2 b').2 (.inr ⟨_, _, _, _, hx'⟩))
   ·obtain ⟨h1, z, L, h2, h3, h4, h5, h6, _⟩ := hj
    rcases (h2 b').1 hb' with rfl | ⟨o, n', s', d, hz⟩
    ·exact h3.lt
    ·exact (h5 _ _ _ _ _ hz).2
   ·intro i xv S ma B' enter K hxv hj hlt hSl hown henter hK
    obtain ⟨L, z, hL, rfl, hz, hnil, hfr⟩ := hxv
    obtain ⟨hS, hkb, hf, hn6, hv6, hg6⟩ := hj
    refine ⟨z, rfl, henter ma _ rfl fun m15 hn15 hv15 hg15 hB15 => ?_⟩
    have hne0 : m0.nxt ≠ m6.nxt := by have := k16.lt; omega
    have hl15 : Li m15 z L := hz.to (by omega) (fun b' _ hx' => by obtain ⟨o, s', d, hx'⟩ := hx'; exact hg15 b' (by have := hfr b' _ _ _ _ hx'; omega)) hv15
    have kk15 : Bk m15 m0.nxt 1 [.sl0] := ⟨(hg15 _ hne0).trans hkb.g, by rw [hn15]; exact hkb.lt⟩
    have hold : ∀ b', b' < m6.nxt → b' ≠ m0.nxt → m15.g b' = m6.g b' := fun b' hb' hne => (hg15 b' (by omega)).trans (hg6 b' hb' hne)
    have x15 : Ext m m15 := ⟨by rw [hn15]; exact Nat.le_trans x46.nxt hn6, fun b' hb' => by rw [hold b' (Nat.lt_of_lt_of_le hb' x46.nxt) (by omega)]; exact x46.g b' hb', by rw [hv15, hv6]; exact x46.vw⟩
    have kf15 : Bk m15 m.nxt 1 [fnc] := ⟨(hold _ k06.lt (by omega)).trans k06.g, by rw [hn15]; exact Nat.lt_of_lt_of_le k06.lt hn6⟩
    have hLm : L ∈ combs n s [] 0 := List.mem_of_getElem? hL
    have hmem : L ∈ allL n := (mem_rests _ _ _ _).2 ⟨s, Nat.zero_le _, by omega, hLm⟩
    have hlen := combs_len hLm
    simp only [List.length_nil] at hlen
    refine ⟨fnc, kf15.rc rfl, ht m15 z L x15 hl15 hnil.2 hmem _ fun m18 e18 => ⟨_, rfl, ?_⟩⟩
    have kk18 := kk15.ext e18
    have hg18 : ∀ b', b' < ma.nxt → b' ≠ m6.nxt → m18.g b' = ma.g b' := fun b' hb' hne => by rw [e18.g b' (by omega)]; exact hg15 b' hne
    have hn18 : ma.nxt ≤ m18.nxt := by rw [← hn15]; exact e18.nxt
    have hv18 : m18.vw = ma.vw := e18.vw.trans hv15
    have hB18 : m18.g m6.nxt = m15.g m6.nxt := e18.g _ (by omega)
    rw [ifB_iff]
    refine ⟨fun htl => ?_, fun htl => ?_⟩
    ·refine sClone (hl15.ext e18) hnil.1 (by omega) fun z' m21 e21 hz' hfr' hok' => ⟨z', rfl, _, (kk18.ext e21).st _, ?_⟩
     have hzne : ∀ b' o n s d, z' = .sl b' o n s d → b' ≠ m0.nxt := fun b' o n s d hq => by have := hfr' b' o n s d hq; have := kk18.lt; omega
     refine hK (.exit 0) (fun b' => b' = m0.nxt ∨ ∃ o n s d, z' = .sl b' o n s d) _ (hB15 _ ?_) (Nat.le_trans hn18 e21.nxt) (e21.vw.trans hv18) (fun b' hb' hSb hbl => ?_) (fun b' hb' => ?_) ⟨rfl, z', L, fun _ => Iff.rfl, (kk18.ext e21).set _, hz'.setNe hzne _, fun b' o n s d hq => ?_, ?_, ?_, ?_, fun b' hb' hne => ?_⟩
     ·rw [M.g_set, if_neg (by omega), e21.g _ (by omega)]; exact hB18
     ·rw [M.g_set, if_neg fun h0 => hSb ((hS b').2 h0), e21.g b' (by omega)]; exact hg18 b' hb' hbl
     ·rcases hb' with h0 | ⟨o, n', s', d, hq⟩
      ·exact .inl ((hS b').2 h0)
      ·exact .inr (by have := hfr' _ _ _ _ _ hq; omega)
     ·have hmm : m.nxt ≤ b' := by have := hfr' _ _ _ _ _ hq; have := x15.nxt; have := e18.nxt; omega
      refine ⟨hmm, ?_⟩
      subst hq
      rcases hz'.val with ⟨h0, _⟩ | ⟨b3, o3, s3, c3, h0, h1, _⟩
      ·cases h0
      ·cases h0; exact h1
     ·exact ⟨by rw [← hf, drop_find hL, if_pos htl], hok'⟩
     ·exact Nat.le_trans hn6 (Nat.le_trans hn18 e21.nxt)
     ·exact (e21.vw.trans hv18).trans hv6
     ·rw [M.g_set, if_neg hne, e21.g b' (by omega), hg18 b' (by omega) (by omega)]; exact hg6 b' hb' hne
    ·refine hK .nrm S _ (hB15 _ hB18) hn18 hv18 (fun b' hb' _ hbl => hg18 b' hb' hbl) (Own.refl S ma) ⟨hS, kk18, ?_, Nat.le_trans hn6 hn18, hv18.trans hv6, fun b' hb' hne => by rw [hg18 b' (by omega) (by omega)]; exact hg6 b' hb' hne⟩
     rw [← hf, drop_find hL, if_neg (by rw [htl]; decide)]
   ·intro S' m5' hown hlt hv hg hj
    obtain ⟨hS, hkb, hf, hn6, hv6, hg6⟩ := hj
    have hnone : (G s).find? t = none := by rw [← hf, List.drop_eq_nil_of_le (Nat.le_refl _)]; rfl
    rw [hnone] at hfind
    refine ⟨fits_small (by omega) (by omega), ih (s + 1) m5' (by omega) ⟨Nat.le_trans x46.nxt hn6, fun b' hb' => by rw [hg6 b' (Nat.lt_of_lt_of_le hb' x46.nxt) (by omega)]; exact x46.g b' hb', hv6.trans x46.vw⟩ ⟨(hg6 _ k06.lt (by omega)).trans k06.g, Nat.lt_of_lt_of_le k06.lt hn6⟩ hkb hfind⟩
   ·intro id S' m5' hown hlt hv hg hj
    obtain ⟨h1, z, L, h2, h3, h4, h5, h6, hn6, hv6, hg6⟩ := hj
    cases h1
    refine ⟨z, h3.rc rfl, h z m5' ⟨Nat.le_trans x46.nxt hn6, fun b' hb' => by rw [hg6 b' (Nat.lt_of_lt_of_le hb' x46.nxt) (by omega)]; exact x46.g b' hb', hv6.trans x46.vw⟩ ?_ ?_ fun b o n' s d hz => (h5 b o n' s d hz).1⟩ <;> rw [show shortL n t = L from by unfold shortL; rw [← hfind, h6.1]; rfl]
    ·exact h4
    ·exact h6.2
   ·intro S' m5' hown hlt hv hg hj
    exact absurd hj.1 (by intro h; cases h)
 exact hgo (n + 1) 0 m1 (by omega) x01 (b0.ext x1) b1 rfl
end
end Go.Proofs.Ytbnfnhfanooplaa

namespace Go.Proofs.Ytbnfnhfanooplaa
open _root_.Go.Proofs.Try
open Go.Abs
set_option maxRecDepth 100000
noncomputable section
def Fv_LInt_Bool (f : M) (x : C) (g : List Int → Option (Bool)) : Prop := ∀ (f' m : M) (a0 : List Int) (c0 : C) (r : Bool) (Q : V → M → Prop), Sub f f' → Pre f' m → Sl f' c0 a0 → g a0 = some r → (∀ m', Ext m m' → Q (.c (.bool r)) m') → callP prog tbl [.c c0] x m Q
theorem cat_ints {f : M} : ∀ (l : List Int), Cat f (ints l) l
 | [] => rfl
 | a :: l => ⟨[.int .i64 a], ints l, rfl, rfl, cat_ints l⟩
def asM (m : M) : M := { nxt := m.nxt, g := fun b => if b < m.nxt then m.g b else none, vw := m.vw }
theorem asM_sub (m : M) : Sub (asM m) m := ⟨Nat.le_refl _, rfl, fun _b hb _ => (if_pos hb).symm⟩
theorem asM_of {f m m' : M} (h : Sub f m) (e : Ext m m') : Sub f (asM m') := ⟨Nat.le_trans h.nxt e.nxt, e.vw.trans h.vw, fun b hb hd => by
 have := Nat.lt_of_lt_of_le hb h.nxt
 have := e.nxt
 show (if b < m'.nxt then m'.g b else none) = _
 rw [if_pos (by omega), e.g b (by omega)]
 exact h.g b hb hd⟩
theorem asM_pre {f m m' : M} (h : Pre f m) (e : Ext m m') : Pre (asM m') m' := ⟨asM_sub m', fun b hb => if_neg (by have hb : m'.nxt ≤ b := hb; omega), fun b hb => by
 have hb : m'.nxt ≤ b := hb
 show m'.vw b = none
 rw [e.vw, h.sub.vw]
 exact h.fv b (Nat.le_trans h.sub.nxt (Nat.le_trans e.nxt hb))⟩
theorem sl_of {m : M} {z : C} {L : List Int} (h : Li m z L) (hok : slOk z 1 L.length) : Sl (asM m) z L := by
 refine ⟨ints L, ⟨h.len, ?_⟩, cat_ints L, hok⟩
 rcases h.val with h1 | ⟨b, o, t, c, h1, h2, h3⟩
 ·exact .inl h1
 ·refine .inr ⟨b, o, t, c, h1, h2, fun h0 => (h3 h0).to' ?_ rfl⟩
  exact if_pos h2
def grM (f m m' : M) : M := { nxt := m'.nxt, g := fun b => if b < m.nxt then f.g b else if b < m'.nxt then m'.g b else none, vw := f.vw }
theorem grM_pre {f m m' : M} (h : Pre f m) (e : Ext m m') : Pre (grM f m m') m' := by
 have hn := h.sub.nxt
 have he := e.nxt
 refine ⟨⟨Nat.le_refl _, by show m'.vw = f.vw; rw [e.vw, h.sub.vw], fun b hb hd => ?_⟩, fun b hb => ?_, fun b hb => h.fv b (by have hb : m'.nxt ≤ b := hb; omega)⟩
 ·show m'.g b = (if b < m.nxt then f.g b else if b < m'.nxt then m'.g b else none)
  have hb : b < m'.nxt := hb
  by_cases hbm : b < m.nxt
  ·rw [if_pos hbm]
   have hd : (if b < m.nxt then f.g b else if b < m'.nxt then m'.g b else none) ≠ none ∨ f.vw b ≠ none := hd
   rw [if_pos hbm] at hd
   have hbf : b < f.nxt := by
    rcases Nat.lt_or_ge b f.nxt with h1 | h1
    ·exact h1
    ·exact (hd.elim (fun h2 => h2 (h.fz b h1)) fun h2 => h2 (h.fv b h1)).elim
   rw [e.g b hbm]; exact h.sub.g b hbf hd
  ·rw [if_neg hbm, if_pos hb]
 ·have hb : m'.nxt ≤ b := hb
  show (if b < m.nxt then f.g b else if b < m'.nxt then m'.g b else none) = none
  rw [if_neg (by omega), if_neg (by omega)]
theorem s_shortest {n : Int} {passes : List Int → Option Bool} {c2 : C} {m f : M} {Q : V → M → Prop} {rz : List Int} (hS : Pre f m) (hF : Fv_LInt_Bool f c2 passes) (hp : pshortest n passes = some rz) (hq : ∀ m' f' c0, Grw m f m' f' → Sl f' c0 rz → Q (.c c0) m') : Wc prog tbl 118 [.c (Il n), .c c2] m Q := by
 obtain ⟨⟨p, q, i⟩, hp⟩ := gd_some hp
 obtain rfl := Option.some.inj hp
 have hn : n = ((n.toNat : Nat) : Int) := by omega
 rw [hn]
 refine sShort (n := n.toNat) (t := fun L => (passes L).getD false) (by omega) (fun m' z L e hz hok hL Q' hQ' => ?_) fun z m' e hz hok hfr => ?_
 ·have hs := i L hL
  cases hpl : passes L with
  | none => rw [hpl] at hs; cases hs
  | some b =>
   refine hF (asM m') m' L z b Q' (asM_of hS.sub e) (asM_pre hS e) (sl_of hz hok) hpl fun m'' e' => ?_
   have d : Q' (V.c (C.bool ((passes L).getD false))) m'' := hQ' m'' e'
   rw [hpl] at d
   exact d
 ·refine hq m' (grM f m m') z ⟨e, ⟨Nat.le_trans hS.sub.nxt e.nxt, rfl, fun b hb _ => if_pos (Nat.lt_of_lt_of_le hb hS.sub.nxt)⟩, grM_pre hS e, fun b hb => if_pos hb⟩ ?_
  refine ⟨ints _, ⟨hz.len, ?_⟩, cat_ints _, hok⟩
  rcases hz.val with a | ⟨b, o, t, c, a, h, j⟩
  ·exact .inl a
  ·refine .inr ⟨b, o, t, c, a, h, fun l => (j l).to' ?_ ?_⟩
   ·have d := hfr _ _ _ _ _ a
    show (if b < m.nxt then f.g b else if b < m'.nxt then m'.g b else none) = _
    rw [if_neg (by omega), if_pos h]
   ·show f.vw b = m'.vw b
    rw [e.vw, hS.sub.vw]
end
end Go.Proofs.Ytbnfnhfanooplaa

