/- An evaluator of the code of a program, its soundness, what calls ask, memory, and what functions of the program do. Condition: none; a lemma text of this claim. -/
import Derived.Test.YtbnfnhfanooplaaSuG

namespace Go.Proofs.Ytbnfnhfanooplaa
open _root_.Go.Proofs.Try
open Go.Abs
set_option maxRecDepth 100000
noncomputable section
theorem w19 {a100 : Int} {a101 : Int} {a102 : Int} {a103 : Int} {a104 : Int} {a105 : Int} {a106 : Int} {a107 : Int} {a108 : Int} {a109 : Int} {a110 : Int} {a111 : C} {m : M} {Q : V → M → Prop} (h :
 (∀ m0 : M, (m0 = (M.new m (AO.cells 12 [(Il a100), (Il a101), (Il a102), 
 (Il a103), (Il a104), (Il a105), (Il a106), 
 (Il a107), (Il a108), (Il a109), (Il a110), 
 a111] false))) → ∀ m1 : M, (m1 = (M.new m0 (AO.cells 12 [(Il 0), (Il 0), 
 (Il 0), (Il 0), (Il 0), (Il 0), 
 (Il 0), (Il 0), (Il 0), (Il 0), 
 (Il 0), C.sl0] false))) → ∀ m2 : M, (m2 = (mGrow m1 1)) → isPt (C.ptr m.nxt 0) ∧ 
 ∃ x3, ((ldC m2 (C.ptr m.nxt 0)) = (some (Il x3))) ∧ isPt (C.ptr m.nxt 0) ∧ 
 ∃ x4, ((ldC m2 (C.ptr m.nxt 1)) = (some (Il x4))) ∧ isPt (C.ptr m.nxt 0) ∧ 
 ∃ x5, ((ldC m2 (C.ptr m.nxt 2)) = (some (Il x5))) ∧ isPt (C.ptr m.nxt 0) ∧ 
 ∃ x6, ∃ x7, ((ldA m2 (C.ptr m.nxt 3) 2) = (some [(Il x6), 
 (Il x7)])) ∧ Wc prog tbl 32 [(V.agg 2 [(Il x6), (Il x7)])] m2 (fun v8 m9 => 
 ∃ x10, ∃ x11, (v8 = (V.agg 2 [(Il x10), (Il x11)])) ∧ 
 ((ldC m9 (C.ptr m.nxt 2)) = (some (Il x5))) ∧ ((ldC m9 (C.ptr m.nxt 1)) = (some (Il x4))) ∧ 
 ((ldC m9 (C.ptr m.nxt 0)) = (some (Il x3))) ∧ isPt (C.ptr m.nxt 0) ∧ 
 ∃ x12, ∃ x13, ((ldA m9 (C.ptr m.nxt 5) 2) = (some [(Il x12), 
 (Il x13)])) ∧ ((ldA m2 (C.ptr m.nxt 5) 2) = (some [(Il x12), 
 (Il x13)])) ∧ Wc prog tbl 32 [(V.agg 2 [(Il x12), 
 (Il x13)])] m9 (fun v14 m15 => ∃ x16, ∃ x17, (v14 = (V.agg 2 [(Il x16), 
 (Il x17)])) ∧ ((ldC m15 (C.ptr m.nxt 2)) = (some (Il x5))) ∧ 
 ((ldC m15 (C.ptr m.nxt 1)) = (some (Il x4))) ∧ ((ldC m15 (C.ptr m.nxt 0)) = (some (Il x3))) ∧ 
 isPt (C.ptr m.nxt 0) ∧ ∃ x18, ∃ x19, ((ldA m15 (C.ptr m.nxt 7) 2) = (some [(Il x18), 
 (Il x19)])) ∧ ((ldA m9 (C.ptr m.nxt 7) 2) = (some [(Il x18), 
 (Il x19)])) ∧ ((ldA m2 (C.ptr m.nxt 7) 2) = (some [(Il x18), 
 (Il x19)])) ∧ Wc prog tbl 32 [(V.agg 2 [(Il x18), 
 (Il x19)])] m15 (fun v20 m21 => ∃ x22, ∃ x23, (v20 = (V.agg 2 [(Il x22), 
 (Il x23)])) ∧ ((ldC m21 (C.ptr m.nxt 2)) = (some (Il x5))) ∧ 
 ((ldC m21 (C.ptr m.nxt 1)) = (some (Il x4))) ∧ ((ldC m21 (C.ptr m.nxt 0)) = (some (Il x3))) ∧ 
 isPt (C.ptr m.nxt 0) ∧ ∃ x24, ∃ x25, ((ldA m21 (C.ptr m.nxt 9) 2) = (some [(Il x24), 
 (Il x25)])) ∧ ((ldA m15 (C.ptr m.nxt 9) 2) = (some [(Il x24), 
 (Il x25)])) ∧ ((ldA m9 (C.ptr m.nxt 9) 2) = (some [(Il x24), 
 (Il x25)])) ∧ ((ldA m2 (C.ptr m.nxt 9) 2) = (some [(Il x24), 
 (Il x25)])) ∧ Wc prog tbl 32 [(V.agg 2 [(Il x24), 
 (Il x25)])] m21 (fun v26 m27 => ∃ x28, ∃ x29, (v26 = (V.agg 2 [(Il x28), 
 (Il x29)])) ∧ ((ldC m27 (C.ptr m.nxt 2)) = (some (Il x5))) ∧ 
 ((ldC m27 (C.ptr m.nxt 1)) = (some (Il x4))) ∧ ((ldC m27 (C.ptr m.nxt 0)) = (some (Il x3))) ∧ 
 ∀ m30 : M, (m30 = (M.set m27 (m1.nxt + 0) (AO.cells 12 [(Il 0), 
 (Il 0), (Il 0), (Il 0), 
 (Il 0), (Il 0), (Il 0), 
 (Il 0), (Il 0), (Il 0), 
 (Il 0), C.sl0] false))) → ((ldA m30 (C.ptr m.nxt 9) 2) = (some [(Il x24), 
 (Il x25)])) ∧ ((ldA m30 (C.ptr m.nxt 7) 2) = (some [(Il x18), 
 (Il x19)])) ∧ ((ldA m30 (C.ptr m.nxt 5) 2) = (some [(Il x12), 
 (Il x13)])) ∧ ((ldA m30 (C.ptr m.nxt 3) 2) = (some [(Il x6), 
 (Il x7)])) ∧ ((ldC m30 (C.ptr m.nxt 2)) = (some (Il x5))) ∧ 
 ((ldC m30 (C.ptr m.nxt 1)) = (some (Il x4))) ∧ ((ldC m30 (C.ptr m.nxt 0)) = (some (Il x3))) ∧ 
 ∃ m31 : M, ((stC m30 (C.ptr (m1.nxt + 0) 0) 12 [(Il x3), (Il x4), 
 (Il x5), (Il x10), (Il x11), (Il x16), 
 (Il x17), (Il x22), (Il x23), (Il x28), 
 (Il x29), C.sl0]) = (some m31)) ∧ ∀ R32 : List V → M → 
 Prop, (∀ x33 : Int, ∀ m34 : M, (isPt (C.ptr m.nxt 0) ∧ ∃ c35 : C, ((ldC m34 (C.ptr m.nxt 11)) = (some c35)) ∧ 
 isSl c35 ∧ ifB (decide (x33 < (((slLen c35) : Nat) : Int))) (isPt (C.ptr m.nxt 0) ∧ 
 ∃ c36 : C, ((ldC m34 (C.ptr m.nxt 11)) = (some c36)) ∧ ∃ n37 : Nat, 
 (x33 = ((n37 : Nat) : Int)) ∧ (n37 < (slLen c36)) ∧ ∃ x38, ∃ x39, 
 ∃ x40, ∃ x41, ∃ b42 : Bool, ∃ x43, ∃ x44, ((ldA m34 (slAt c36 (n37 * 7)) 7) = (some [(Il x38), 
 (Il x39), (Il x40), (Il x41), (C.bool b42), 
 (Il x43), (Il x44)])) ∧ ∀ m45 : M, (m45 = (M.new m34 (AO.cells 7 [(Il 0), 
 (Il 0), (Il 0), (Il 0), 
 (C.bool false), (Il 0), (Il 0)] false))) → 
 ∃ m46 : M, ((stC m45 (C.ptr m34.nxt 0) 7 [(Il x38), (Il x39), 
 (Il x40), (Il x41), (C.bool b42), (Il x43), 
 (Il x44)]) = (some m46)) ∧ isPt (C.ptr (m1.nxt + 0) 0) ∧ 
 ∃ c47 : C, ((ldC m46 (C.ptr (m1.nxt + 0) 11)) = (some c47)) ∧ isPt (C.ptr m34.nxt 0) ∧ 
 ∃ x48, ∃ x49, ((ldA m46 (C.ptr m34.nxt 0) 2) = (some [(Il x48), 
 (Il x49)])) ∧ Wc prog tbl 32 [(V.agg 2 [(Il x48), 
 (Il x49)])] m46 (fun v50 m51 => ∃ x52, ∃ x53, (v50 = (V.agg 2 [(Il x52), 
 (Il x53)])) ∧ (ifB (cmC c47) ((ldC m51 (C.ptr (m1.nxt + 0) 11)) = (some c47)) False) ∧ 
 isPt (C.ptr m34.nxt 0) ∧ ∃ x54, ∃ x55, ((ldA m51 (C.ptr m34.nxt 2) 2) = (some [(Il x54), 
 (Il x55)])) ∧ ((ldA m46 (C.ptr m34.nxt 2) 2) = (some [(Il x54), 
 (Il x55)])) ∧ Wc prog tbl 32 [(V.agg 2 [(Il x54), 
 (Il x55)])] m51 (fun v56 m57 => ∃ x58, ∃ x59, (v56 = (V.agg 2 [(Il x58), 
 (Il x59)])) ∧ (ifB (cmC c47) ((ldC m57 (C.ptr (m1.nxt + 0) 11)) = (some c47)) False) ∧ 
 isPt (C.ptr m34.nxt 0) ∧ ∃ b60 : Bool, ((ldC m57 (C.ptr m34.nxt 4)) = (some (C.bool b60))) ∧ 
 ((ldC m51 (C.ptr m34.nxt 4)) = (some (C.bool b60))) ∧ ((ldC m46 (C.ptr m34.nxt 4)) = (some (C.bool b60))) ∧ 
 isPt (C.ptr m34.nxt 0) ∧ ∃ x61, ∃ x62, ((ldA m57 (C.ptr m34.nxt 5) 2) = (some [(Il x61), 
 (Il x62)])) ∧ ((ldA m51 (C.ptr m34.nxt 5) 2) = (some [(Il x61), 
 (Il x62)])) ∧ ((ldA m46 (C.ptr m34.nxt 5) 2) = (some [(Il x61), 
 (Il x62)])) ∧ Wc prog tbl 32 [(V.agg 2 [(Il x61), 
 (Il x62)])] m57 (fun v63 m64 => ∃ x65, ∃ x66, (v63 = (V.agg 2 [(Il x65), 
 (Il x66)])) ∧ ((ldC m64 (C.ptr m34.nxt 4)) = (some (C.bool b60))) ∧ 
 (ifB (cmC c47) ((ldC m64 (C.ptr (m1.nxt + 0) 11)) = (some c47)) False) ∧ 
 ∀ m67 : M, (m67 = (M.new m64 (AO.cells 7 [(Il x52), (Il x53), 
 (Il x58), (Il x59), (C.bool b60), (Il x65), 
 (Il x66)] false))) → (ifB (cmC c47) ((ldC m67 (C.ptr (m1.nxt + 0) 11)) = (some c47)) False) ∧ 
 ∃ c68 : C, ∃ m69 : M, (ApR prog 35 m67 c47 (C.sl m64.nxt 0 1 0 (some 1)) c68 m69) ∧ 
 isPt (C.ptr (m1.nxt + 0) 0) ∧ ∃ m70 : M, ((stC m69 (C.ptr (m1.nxt + 0) 11) 1 [c68]) = (some m70)) ∧ 
 fitsP .i64 (x33 + 1) ∧ R32 [(V.c (Il (x33 + 1)))] m70)))) (∃ x71, 
 ∃ x72, ∃ x73, ∃ x74, ∃ x75, ∃ x76, ∃ x77, 
 ∃ x78, ∃ x79, ∃ x80, ∃ x81, ∃ c82 : C, ((ldA m34 (C.ptr (m1.nxt + 0) 0) 12) = (some [(Il x71), 
 (Il x72), (Il x73), (Il x74), (Il x75), 
 (Il x76), (Il x77), (Il x78), (Il x79), 
 (Il x80), (Il x81), c82])) ∧ ∃ m83 : M, ((stC m34 (C.ptr m0.nxt 0) 12 [(Il x71), 
 (Il x72), (Il x73), (Il x74), (Il x75), 
 (Il x76), (Il x77), (Il x78), (Il x79), 
 (Il x80), (Il x81), c82]) = (some m83)) ∧ 
 ∃ x84, ∃ x85, ∃ x86, ∃ x87, ∃ x88, ∃ x89, 
 ∃ x90, ∃ x91, ∃ x92, ∃ x93, ∃ x94, ∃ c95 : C, 
 ((ldA m83 (C.ptr m0.nxt 0) 12) = (some [(Il x84), (Il x85), 
 (Il x86), (Il x87), (Il x88), (Il x89), 
 (Il x90), (Il x91), (Il x92), (Il x93), 
 (Il x94), c95])) ∧ Q (V.agg 12 [(Il x84), (Il x85), 
 (Il x86), (Il x87), (Il x88), (Il x89), 
 (Il x90), (Il x91), (Il x92), (Il x93), 
 (Il x94), c95]) m83)) → R32 [(V.c (Il x33))] m34) → 
 R32 [(V.c (Il 0))] m31)))))) : Wc prog tbl 19 [(V.agg 12 [(Il a100), (Il a101), (Il a102), (Il a103), (Il a104), (Il a105), (Il a106), (Il a107), (Il a108), (Il a109), (Il a110), a111])] m Q :=
 wc_eq (n := 1) rfl (by kernel_rfl) (by kernel_rfl) h
theorem w22 {a100 : Int} {a101 : Int} {a102 : Int} {a103 : Int} {a104 : Int} {a105 : Int} {a106 : Int} {a107 : Int} {a108 : Int} {a109 : Int} {a110 : Int} {a111 : C} {m : M} {Q : V → M → Prop} (h :
 (∀ m0 : M, (m0 = (M.new m (AO.cells 12 [(Il a100), (Il a101), (Il a102), 
 (Il a103), (Il a104), (Il a105), (Il a106), 
 (Il a107), (Il a108), (Il a109), (Il a110), 
 a111] false))) → ∃ x1, ∃ x2, ∃ x3, ∃ x4, ∃ x5, ∃ x6, ∃ x7, 
 ∃ x8, ∃ x9, ∃ x10, ∃ x11, ∃ c12 : C, ((ldA m0 (C.ptr m.nxt 0) 12) = (some [(Il x1), 
 (Il x2), (Il x3), (Il x4), (Il x5), 
 (Il x6), (Il x7), (Il x8), (Il x9), 
 (Il x10), (Il x11), c12])) ∧ Wc prog tbl 23 [(V.agg 12 [(Il x1), 
 (Il x2), (Il x3), (Il x4), (Il x5), 
 (Il x6), (Il x7), (Il x8), (Il x9), 
 (Il x10), (Il x11), c12])] m0 (fun v13 m14 => ∃ x15, 
 (v13 = (V.c (Il x15))) ∧ ifB (!decide (x15 = 0)) (Q (V.tup [(U.c C.sl0), 
 (U.c (Il x15))]) m14) (∃ x16, ∃ x17, ∃ x18, ∃ x19, 
 ∃ x20, ∃ x21, ∃ x22, ∃ x23, ∃ x24, ∃ x25, 
 ∃ x26, ∃ c27 : C, ((ldA m14 (C.ptr m.nxt 0) 12) = (some [(Il x16), 
 (Il x17), (Il x18), (Il x19), (Il x20), 
 (Il x21), (Il x22), (Il x23), (Il x24), 
 (Il x25), (Il x26), c27])) ∧ Wc prog tbl 63 [(V.agg 12 [(Il x16), 
 (Il x17), (Il x18), (Il x19), (Il x20), 
 (Il x21), (Il x22), (Il x23), (Il x24), 
 (Il x25), (Il x26), c27])] m14 (fun v28 m29 => 
 ∃ c30 : C, (v28 = (V.c c30)) ∧ isSl c30 ∧ ifB (decide ((((slLen c30) : Nat) : Int) = (0 : Int))) (Q (V.tup [(U.c C.sl0), 
 (U.c (Il (11 : Int)))]) m29) (Q (V.tup [(U.c c30), (U.c (Il 0))]) m29)))))) : Wc prog tbl 22 [(V.agg 12 [(Il a100), (Il a101), (Il a102), (Il a103), (Il a104), (Il a105), (Il a106), (Il a107), (Il a108), (Il a109), (Il a110), a111])] m Q :=
 wc_eq (n := 1) rfl (by kernel_rfl) (by kernel_rfl) h
theorem w31 {a100 : Int} {a200 : Int} {a300 : Int} {m : M} {Q : V → M → Prop} (h :
 (ifB (decide (a200 ≤ a100)) (Q (V.c (C.bool (decide (a100 ≤ a300)))) m) (Q (V.c (C.bool false)) m))) : Wc prog tbl 31 [(V.c (Il a100)), (V.c (Il a200)), (V.c (Il a300))] m Q :=
 wc_eq (n := 3) rfl (by kernel_rfl) (by kernel_rfl) h
theorem w34 {a100 : Int} {a101 : Int} {a102 : Int} {a103 : Int} {a104 : Int} {a105 : Int} {a106 : Int} {a107 : Int} {a108 : Int} {a109 : Int} {a110 : Int} {a111 : C} {a200 : C} {m : M} {Q : V → M → Prop} (h :
 (∀ m0 : M, (m0 = (M.new m (AO.cells 12 [(Il a100), (Il a101), (Il a102), 
 (Il a103), (Il a104), (Il a105), (Il a106), 
 (Il a107), (Il a108), (Il a109), (Il a110), 
 a111] false))) → isSl a200 ∧ fitsP .i64 ((((slLen a200) : Nat) : Int) + (1 : Int)) ∧ ∀ R1 : List V → 
 M → Prop, (∀ x2 : Int, ∀ x3 : Int, ∀ x4 : Int, ∀ x5 : Int, ∀ m6 : M, (isPt (C.ptr m.nxt 0) ∧ ∃ x7, 
 ((ldC m6 (C.ptr m.nxt 0)) = (some (Il x7))) ∧ ifB (decide (x5 < x7)) (∀ R8 : List V → 
 M → Prop, (∀ x9 : Int, ∀ x10 : Int, ∀ x11 : Int, ∀ x12 : Int, ∀ m13 : M, (isPt (C.ptr m.nxt 0) ∧ 
 ∃ x14, ((ldC m13 (C.ptr m.nxt 1)) = (some (Il x14))) ∧ 
 ifB (decide (x12 < x14)) (∃ x15, ∃ x16, ∃ x17, ∃ x18, 
 ∃ x19, ∃ x20, ∃ x21, ∃ x22, ∃ x23, ∃ x24, 
 ∃ x25, ∃ c26 : C, ((ldA m13 (C.ptr m.nxt 0) 12) = (some [(Il x15), 
 (Il x16), (Il x17), (Il x18), (Il x19), 
 (Il x20), (Il x21), (Il x22), (Il x23), 
 (Il x24), (Il x25), c26])) ∧ Wc prog tbl 64 [(V.agg 12 [(Il x15), 
 (Il x16), (Il x17), (Il x18), (Il x19), 
 (Il x20), (Il x21), (Il x22), (Il x23), 
 (Il x24), (Il x25), c26]), (V.c a200), (V.c (Il x5)), 
 (V.c (Il x12))] m13 (fun v27 m28 => ∃ x29, (v27 = (V.c (Il x29))) ∧ 
 ifB (decide (x29 < x11)) (fitsP .i64 (x12 + 1) ∧ R8 [(V.c (Il x5)), 
 (V.c (Il x12)), (V.c (Il x29)), (V.c (Il (x12 + 1)))] m28) (fitsP .i64 (x12 + 1) ∧ 
 R8 [(V.c (Il x9)), (V.c (Il x10)), (V.c (Il x11)), 
 (V.c (Il (x12 + 1)))] m28))) (fitsP .i64 (x5 + 1) ∧ 
 R1 [(V.c (Il x9)), (V.c (Il x10)), (V.c (Il x11)), 
 (V.c (Il (x5 + 1)))] m13)) → R8 [(V.c (Il x9)), 
 (V.c (Il x10)), (V.c (Il x11)), (V.c (Il x12))] m13) → 
 R8 [(V.c (Il x2)), (V.c (Il x3)), (V.c (Il x4)), 
 (V.c (Il 0))] m6) (Q (V.tup [(U.c (Il x2)), (U.c (Il x3)), 
 (U.c (Il x4))]) m6)) → R1 [(V.c (Il x2)), (V.c (Il x3)), 
 (V.c (Il x4)), (V.c (Il x5))] m6) → R1 [(V.c (Il 0)), 
 (V.c (Il 0)), (V.c (Il ((((slLen a200) : Nat) : Int) + (1 : Int)))), 
 (V.c (Il 0))] m0)) : Wc prog tbl 34 [(V.agg 12 [(Il a100), (Il a101), (Il a102), (Il a103), (Il a104), (Il a105), (Il a106), (Il a107), (Il a108), (Il a109), (Il a110), a111]), (V.c a200)] m Q :=
 wc_eq (n := 2) rfl (by kernel_rfl) (by kernel_rfl) h
theorem w58 {a100 : Int} {a101 : Int} {a102 : Int} {a103 : Int} {a104 : Int} {a105 : Int} {a106 : Int} {a107 : Int} {a108 : Int} {a109 : Int} {a110 : Int} {a111 : C} {m : M} {Q : V → M → Prop} (h :
 (∀ m0 : M, (m0 = (M.new m (AO.cells 12 [(Il a100), (Il a101), (Il a102), 
 (Il a103), (Il a104), (Il a105), (Il a106), 
 (Il a107), (Il a108), (Il a109), (Il a110), 
 a111] false))) → isPt (C.ptr m.nxt 0) ∧ ∃ c1 : C, ((ldC m0 (C.ptr m.nxt 11)) = (some c1)) ∧ 
 isSl c1 ∧ ((0 : Int) ≤ (1 : Int)) ∧ ((0 : Int) ≤ (wrapZ .u64 (((slLen c1) : Nat) : Int))) ∧ 
 ((wrapZ .u64 (((slLen c1) : Nat) : Int)) ≤ (64 : Int)) ∧ fitsP .i64 ((1 : Int) * ((2 : Int) ^ (Int.toNat (wrapZ .u64 (((slLen c1) : Nat) : Int))))) ∧ 
 fitsP .i64 (((1 : Int) * ((2 : Int) ^ (Int.toNat (wrapZ .u64 (((slLen c1) : Nat) : Int))))) - (1 : Int)) ∧ 
 Q (V.c (Il (((1 : Int) * ((2 : Int) ^ (Int.toNat (wrapZ .u64 (((slLen c1) : Nat) : Int))))) - (1 : Int)))) m0)) : Wc prog tbl 58 [(V.agg 12 [(Il a100), (Il a101), (Il a102), (Il a103), (Il a104), (Il a105), (Il a106), (Il a107), (Il a108), (Il a109), (Il a110), a111])] m Q :=
 wc_eq (n := 1) rfl (by kernel_rfl) (by kernel_rfl) h
theorem w64 {a100 : Int} {a101 : Int} {a102 : Int} {a103 : Int} {a104 : Int} {a105 : Int} {a106 : Int} {a107 : Int} {a108 : Int} {a109 : Int} {a110 : Int} {a111 : C} {a200 : C} {a300 : Int} {a400 : Int} {m : M} {Q : V → M → Prop} (h :
 (∀ m0 : M, (m0 = (M.new m (AO.cells 12 [(Il a100), (Il a101), (Il a102), 
 (Il a103), (Il a104), (Il a105), (Il a106), 
 (Il a107), (Il a108), (Il a109), (Il a110), 
 a111] false))) → ∀ R1 : List V → M → Prop, (∀ x2 : Int, ∀ x3 : Int, ∀ m4 : M, (isSl a200 ∧ ifB (decide (x3 < (((slLen a200) : Nat) : Int))) (∃ x5, 
 ∃ x6, ∃ x7, ∃ x8, ∃ x9, ∃ x10, ∃ x11, ∃ x12, ∃ x13, 
 ∃ x14, ∃ x15, ∃ c16 : C, ((ldA m4 (C.ptr m.nxt 0) 12) = (some [(Il x5), 
 (Il x6), (Il x7), (Il x8), (Il x9), 
 (Il x10), (Il x11), (Il x12), (Il x13), 
 (Il x14), (Il x15), c16])) ∧ ∃ n17 : Nat, (x3 = ((n17 : Nat) : Int)) ∧ 
 (n17 < (slLen a200)) ∧ ∃ x18, ∃ x19, ∃ x20, ∃ x21, ((ldA m4 (slAt a200 (n17 * 4)) 4) = (some [(Il x18), 
 (Il x19), (Il x20), (Il x21)])) ∧ 
 Wc prog tbl 71 [(V.agg 12 [(Il x5), (Il x6), (Il x7), 
 (Il x8), (Il x9), (Il x10), (Il x11), 
 (Il x12), (Il x13), (Il x14), (Il x15), 
 c16]), (V.agg 4 [(Il x18), (Il x19), (Il x20), 
 (Il x21)]), (V.c (Il a300)), (V.c (Il a400))] m4 (fun v22 m23 => 
 ∃ b24 : Bool, (v22 = (V.c (C.bool b24))) ∧ ifB b24 (fitsP .i64 (x2 + 1) ∧ 
 fitsP .i64 (x3 + 1) ∧ R1 [(V.c (Il (x2 + 1))), 
 (V.c (Il (x3 + 1)))] m23) (fitsP .i64 (x3 + 1) ∧ 
 R1 [(V.c (Il x2)), (V.c (Il (x3 + 1)))] m23))) (isSl a200 ∧ 
 fitsP .i64 ((((slLen a200) : Nat) : Int) - x2) ∧ Q (V.c (Il (Max.max x2 ((((slLen a200) : Nat) : Int) - x2)))) m4)) → 
 R1 [(V.c (Il x2)), (V.c (Il x3))] m4) → R1 [(V.c (Il 0)), 
 (V.c (Il 0))] m0)) : Wc prog tbl 64 [(V.agg 12 [(Il a100), (Il a101), (Il a102), (Il a103), (Il a104), (Il a105), (Il a106), (Il a107), (Il a108), (Il a109), (Il a110), a111]), (V.c a200), (V.c (Il a300)), (V.c (Il a400))] m Q :=
 wc_eq (n := 4) rfl (by kernel_rfl) (by kernel_rfl) h
theorem w67 {a100 : Int} {a101 : Int} {a102 : Int} {a103 : Int} {a104 : Int} {a105 : Int} {a106 : Int} {a107 : Int} {a108 : Int} {a109 : Int} {a110 : Int} {a111 : C} {m : M} {Q : V → M → Prop} (h :
 (∀ m0 : M, (m0 = (M.new m (AO.cells 12 [(Il a100), (Il a101), (Il a102), 
 (Il a103), (Il a104), (Il a105), (Il a106), 
 (Il a107), (Il a108), (Il a109), (Il a110), 
 a111] false))) → isPt (C.ptr m.nxt 0) ∧ ∃ x1, ∃ x2, ((ldA m0 (C.ptr m.nxt 3) 2) = (some [(Il x1), 
 (Il x2)])) ∧ Wc prog tbl 62 [(V.agg 2 [(Il x1), (Il x2)])] m0 (fun v3 m4 => 
 ∃ x5, (v3 = (V.c (Il x5))) ∧ isPt (C.ptr m.nxt 0) ∧ ∃ x6, ∃ x7, 
 ((ldA m4 (C.ptr m.nxt 5) 2) = (some [(Il x6), (Il x7)])) ∧ 
 ((ldA m0 (C.ptr m.nxt 5) 2) = (some [(Il x6), (Il x7)])) ∧ 
 Wc prog tbl 62 [(V.agg 2 [(Il x6), (Il x7)])] m4 (fun v8 m9 => 
 ∃ x10, (v8 = (V.c (Il x10))) ∧ ((0 : Int) ≤ x5) ∧ ((0 : Int) ≤ x10) ∧ 
 fitsP .i64 (x5 * x10) ∧ isPt (C.ptr m.nxt 0) ∧ ∃ x11, ∃ x12, 
 ((ldA m9 (C.ptr m.nxt 7) 2) = (some [(Il x11), (Il x12)])) ∧ 
 ((ldA m4 (C.ptr m.nxt 7) 2) = (some [(Il x11), (Il x12)])) ∧ 
 ((ldA m0 (C.ptr m.nxt 7) 2) = (some [(Il x11), (Il x12)])) ∧ 
 Wc prog tbl 62 [(V.agg 2 [(Il x11), (Il x12)])] m9 (fun v13 m14 => 
 ∃ x15, (v13 = (V.c (Il x15))) ∧ ((0 : Int) ≤ (x5 * x10)) ∧ 
 ((0 : Int) ≤ x15) ∧ fitsP .i64 ((x5 * x10) * x15) ∧ isPt (C.ptr m.nxt 0) ∧ 
 ∃ x16, ∃ x17, ((ldA m14 (C.ptr m.nxt 9) 2) = (some [(Il x16), 
 (Il x17)])) ∧ ((ldA m9 (C.ptr m.nxt 9) 2) = (some [(Il x16), 
 (Il x17)])) ∧ ((ldA m4 (C.ptr m.nxt 9) 2) = (some [(Il x16), 
 (Il x17)])) ∧ ((ldA m0 (C.ptr m.nxt 9) 2) = (some [(Il x16), 
 (Il x17)])) ∧ Wc prog tbl 62 [(V.agg 2 [(Il x16), 
 (Il x17)])] m14 (fun v18 m19 => ∃ x20, (v18 = (V.c (Il x20))) ∧ 
 ((0 : Int) ≤ ((x5 * x10) * x15)) ∧ ((0 : Int) ≤ x20) ∧ fitsP .i64 (((x5 * x10) * x15) * x20) ∧ 
 Q (V.c (Il (((x5 * x10) * x15) * x20))) m19)))))) : Wc prog tbl 67 [(V.agg 12 [(Il a100), (Il a101), (Il a102), (Il a103), (Il a104), (Il a105), (Il a106), (Il a107), (Il a108), (Il a109), (Il a110), a111])] m Q :=
 wc_eq (n := 1) rfl (by kernel_rfl) (by kernel_rfl) h
theorem w70 {a100 : Int} {a101 : Int} {a200 : Int} {a300 : Int} {m : M} {Q : V → M → Prop} (h :
 (∀ m0 : M, (m0 = (M.new m (AO.cells 2 [(Il a100), (Il a101)] false))) → isPt (C.ptr m.nxt 0) ∧ 
 ∃ x1, ((ldC m0 (C.ptr m.nxt 0)) = (some (Il x1))) ∧ ifB (decide (a200 ≤ x1)) (isPt (C.ptr m.nxt 0) ∧ 
 ∃ x2, ((ldC m0 (C.ptr m.nxt 0)) = (some (Il x2))) ∧ isPt (C.ptr m.nxt 0) ∧ 
 ∃ x3, ((ldC m0 (C.ptr m.nxt 1)) = (some (Il x3))) ∧ ifB (decide (x2 ≤ x3)) (isPt (C.ptr m.nxt 0) ∧ 
 ∃ x4, ((ldC m0 (C.ptr m.nxt 1)) = (some (Il x4))) ∧ Q (V.c (C.bool (decide (x4 ≤ a300)))) m0) (Q (V.c (C.bool false)) m0)) (Q (V.c (C.bool false)) m0))) : Wc prog tbl 70 [(V.agg 2 [(Il a100), (Il a101)]), (V.c (Il a200)), (V.c (Il a300))] m Q :=
 wc_eq (n := 3) rfl (by kernel_rfl) (by kernel_rfl) h
theorem w73 {a100 : Int} {a101 : Int} {a102 : Int} {a103 : Int} {a104 : Int} {a105 : Int} {a106 : Int} {a107 : Int} {a108 : Int} {a109 : Int} {a110 : Int} {a111 : C} {a112 : C} {a200 : C} {m : M} {Q : V → M → Prop} (h :
 (∀ m0 : M, (m0 = (M.new m (AO.cells 13 [(Il a100), (Il a101), (Il a102), 
 (Il a103), (Il a104), (Il a105), (Il a106), 
 (Il a107), (Il a108), (Il a109), (Il a110), 
 a111, a112] false))) → ∀ m1 : M, (m1 = (M.new m0 (AO.cells 1 [a200] false))) → ∀ m2 : M, (m2 = (M.new m1 (AO.cells 2 [(Il 0), 
 (Il 0)] false))) → ∀ m3 : M, (m3 = (M.new m2 (AO.cells 1 [C.sl0] false))) → 
 ∃ x4, ∃ x5, ∃ x6, ∃ x7, ∃ x8, ∃ x9, ∃ x10, ∃ x11, 
 ∃ x12, ∃ x13, ∃ x14, ∃ c15 : C, ∃ c16 : C, ((ldA m3 (C.ptr m.nxt 0) 13) = (some [(Il x4), 
 (Il x5), (Il x6), (Il x7), (Il x8), 
 (Il x9), (Il x10), (Il x11), (Il x12), 
 (Il x13), (Il x14), c15, c16])) ∧ Wc prog tbl 108 [(V.agg 13 [(Il x4), 
 (Il x5), (Il x6), (Il x7), (Il x8), 
 (Il x9), (Il x10), (Il x11), (Il x12), 
 (Il x13), (Il x14), c15, c16])] m3 (fun v17 m18 => 
 ∃ c19 : C, (v17 = (V.c c19)) ∧ rangeP prog tbl c19 m18 (fun l20 m21 R22 R23 => ∃ x24, 
 ∃ x25, ∃ x26, ∃ x27, (l20 = [(V.agg 4 [(Il x24), 
 (Il x25), (Il x26), (Il x27)])]) ∧ 
 ∀ m28 : M, (m28 = (M.new m21 (AO.cells 4 [(Il 0), (Il 0), 
 (Il 0), (Il 0)] false))) → ∃ m29 : M, 
 ((stC m28 (C.ptr m21.nxt 0) 4 [(Il x24), (Il x25), 
 (Il x26), (Il x27)]) = (some m29)) ∧ R22 m29 (fun m30 => 
 ∃ c31 : C, ((ldC m30 (C.ptr m2.nxt 0)) = (some c31)) ∧ ∃ c32 : C, 
 ((ldC m30 (C.ptr m0.nxt 0)) = (some c32)) ∧ ∃ x33, ∃ x34, 
 ∃ x35, ∃ x36, ((ldA m30 (C.ptr m21.nxt 0) 4) = (some [(Il x33), 
 (Il x34), (Il x35), (Il x36)])) ∧ 
 callP prog tbl [(V.agg 4 [(Il x33), (Il x34), 
 (Il x35), (Il x36)])] c32 m30 (fun v37 m38 => ∃ x39, 
 (v37 = (V.c (Il x39))) ∧ (ifB (cmC c31) ((ldC m38 (C.ptr m2.nxt 0)) = (some c31)) False) ∧ 
 ∀ m40 : M, (m40 = (M.new m38 (AO.cells 1 [(Il x39)] false))) → 
 (ifB (cmC c31) ((ldC m40 (C.ptr m2.nxt 0)) = (some c31)) False) ∧ ∃ c41 : C, 
 ∃ m42 : M, (ApR prog 69 m40 c31 (C.sl m38.nxt 0 1 0 (some 1)) c41 m42) ∧ 
 ∃ m43 : M, ((stC m42 (C.ptr m2.nxt 0) 1 [c41]) = (some m43)) ∧ R23 Ex.nrm m43))) (After.mk (fun m44 => 
 ∃ c45 : C, ((ldC m44 (C.ptr m2.nxt 0)) = (some c45)) ∧ Wc prog tbl 110 [(V.c c45)] m44 (fun v46 m47 => 
 ∃ x48, (v46 = (V.c (Il x48))) ∧ ∃ c49 : C, ((ldC m47 (C.ptr m2.nxt 0)) = (some c49)) ∧ 
 (ifB (cmC c49) ((ldC m44 (C.ptr m2.nxt 0)) = (some c49)) False) ∧ Wc prog tbl 111 [(V.c c49)] m47 (fun v50 m51 => 
 ∃ x52, (v50 = (V.c (Il x52))) ∧ ∃ m53 : M, ((stC m51 (C.ptr m1.nxt 0) 2 [(Il x48), 
 (Il x52)]) = (some m53)) ∧ ∃ x54, ∃ x55, 
 ((ldA m53 (C.ptr m1.nxt 0) 2) = (some [(Il x54), (Il x55)])) ∧ 
 Q (V.agg 2 [(Il x54), (Il x55)]) m53))) [] (fun m56 => 
 ∃ x57, ∃ x58, ((ldA m56 (C.ptr m1.nxt 0) 2) = (some [(Il x57), 
 (Il x58)])) ∧ Q (V.agg 2 [(Il x57), (Il x58)]) m56))))) : Wc prog tbl 73 [(V.agg 13 [(Il a100), (Il a101), (Il a102), (Il a103), (Il a104), (Il a105), (Il a106), (Il a107), (Il a108), (Il a109), (Il a110), a111, a112]), (V.c a200)] m Q :=
 wc_eq (n := 2) rfl (by kernel_rfl) (by kernel_rfl) h
theorem w77 {a100 : Int} {a101 : Int} {a102 : Int} {a103 : Int} {a104 : Int} {a105 : Int} {a106 : Int} {a107 : Int} {a108 : Int} {a109 : Int} {a110 : Int} {a111 : C} {m : M} {Q : V → M → Prop} (h :
 (∀ m0 : M, (m0 = (M.new m (AO.cells 12 [(Il a100), (Il a101), (Il a102), 
 (Il a103), (Il a104), (Il a105), (Il a106), 
 (Il a107), (Il a108), (Il a109), (Il a110), 
 a111] false))) → ∀ m1 : M, (m1 = (M.new m0 (AO.cells 4 [(Il 0), (Il 0), 
 (Il 0), (Il 0)] false))) → isPt (C.ptr m.nxt 0) ∧ 
 ∃ x2, ((ldC m1 (C.ptr m.nxt 0)) = (some (Il x2))) ∧ fitsP .i64 (x2 - 1) ∧ 
 isPt (C.ptr m.nxt 0) ∧ ∃ x3, ((ldC m1 (C.ptr m.nxt 1)) = (some (Il x3))) ∧ 
 fitsP .i64 (x3 - 1) ∧ ∃ m4 : M, ((stC m1 (C.ptr m0.nxt 0) 4 [(Il 0), 
 (Il (x2 - 1)), (Il 0), (Il (x3 - 1))]) = (some m4)) ∧ 
 ∃ x5, ∃ x6, ∃ x7, ∃ x8, ((ldA m4 (C.ptr m0.nxt 0) 4) = (some [(Il x5), 
 (Il x6), (Il x7), (Il x8)])) ∧ Q (V.agg 4 [(Il x5), 
 (Il x6), (Il x7), (Il x8)]) m4)) : Wc prog tbl 77 [(V.agg 12 [(Il a100), (Il a101), (Il a102), (Il a103), (Il a104), (Il a105), (Il a106), (Il a107), (Il a108), (Il a109), (Il a110), a111])] m Q :=
 wc_eq (n := 1) rfl (by kernel_rfl) (by kernel_rfl) h
theorem w80 {a100 : Int} {a101 : Int} {a200 : Int} {m : M} {Q : V → M → Prop} (h :
 (∀ m0 : M, (m0 = (M.new m (AO.cells 2 [(Il a100), (Il a101)] false))) → ∀ m1 : M, 
 (m1 = (M.new m0 (AO.cells 2 [(Il 0), (Il 0)] false))) → isPt (C.ptr m.nxt 0) ∧ 
 ∃ x2, ((ldC m1 (C.ptr m.nxt 0)) = (some (Il x2))) ∧ isPt (C.ptr m.nxt 0) ∧ 
 ∃ x3, ((ldC m1 (C.ptr m.nxt 1)) = (some (Il x3))) ∧ ∃ m4 : M, ((stC m1 (C.ptr m0.nxt 0) 2 [(Il (Min.min x2 a200)), 
 (Il (Max.max x3 a200))]) = (some m4)) ∧ ∃ x5, ∃ x6, ((ldA m4 (C.ptr m0.nxt 0) 2) = (some [(Il x5), 
 (Il x6)])) ∧ Q (V.agg 2 [(Il x5), (Il x6)]) m4)) : Wc prog tbl 80 [(V.agg 2 [(Il a100), (Il a101)]), (V.c (Il a200))] m Q :=
 wc_eq (n := 2) rfl (by kernel_rfl) (by kernel_rfl) h
theorem w83 {a100 : Int} {m : M} {Q : V → M → Prop} (h :
 (∀ m0 : M, (m0 = (M.new m (AO.cells 6 [(C.bool false), (C.bool false), (C.bool false), (C.bool false), (C.bool false), 
 (C.bool false)] false))) → ∀ m1 : M, (m1 = (M.new m0 (AO.cells 6 [(C.bool false), (C.bool false), (C.bool false), 
 (C.bool false), (C.bool false), (C.bool false)] false))) → fitsP .i64 (a100 + 1) ∧ 
 ∀ R2 : List V → M → Prop, (∀ x3 : Int, ∀ m4 : M, (ifB (decide (x3 < (a100 + 1))) (isPt (C.ptr m0.nxt 0) ∧ 
 ∃ n5 : Nat, (x3 = ((n5 : Nat) : Int)) ∧ (n5 < 6) ∧ ∃ m6 : M, ((stC m4 (C.ptr m0.nxt (0 + (n5 * 1))) 1 [(C.bool true)]) = (some m6)) ∧ 
 fitsP .i64 (x3 + 1) ∧ R2 [(V.c (Il (x3 + 1)))] m6) (∃ b7 : Bool, 
 ∃ b8 : Bool, ∃ b9 : Bool, ∃ b10 : Bool, ∃ b11 : Bool, ∃ b12 : Bool, ((ldA m4 (C.ptr m0.nxt 0) 6) = (some [(C.bool b7), 
 (C.bool b8), (C.bool b9), (C.bool b10), (C.bool b11), (C.bool b12)])) ∧ ∃ m13 : M, ((stC m4 (C.ptr m.nxt 0) 6 [(C.bool b7), 
 (C.bool b8), (C.bool b9), (C.bool b10), (C.bool b11), (C.bool b12)]) = (some m13)) ∧ 
 ∃ b14 : Bool, ∃ b15 : Bool, ∃ b16 : Bool, ∃ b17 : Bool, ∃ b18 : Bool, ∃ b19 : Bool, 
 ((ldA m13 (C.ptr m.nxt 0) 6) = (some [(C.bool b14), (C.bool b15), (C.bool b16), 
 (C.bool b17), (C.bool b18), (C.bool b19)])) ∧ Q (V.agg 6 [(C.bool b14), (C.bool b15), 
 (C.bool b16), (C.bool b17), (C.bool b18), (C.bool b19)]) m13)) → 
 R2 [(V.c (Il x3))] m4) → R2 [(V.c (Il 0))] m1)) : Wc prog tbl 83 [(V.c (Il a100))] m Q :=
 wc_eq (n := 1) rfl (by kernel_rfl) (by kernel_rfl) h
theorem w86 {a100 : Int} {a101 : Int} {a102 : Int} {a103 : Int} {a104 : Int} {a105 : Int} {a106 : Int} {a107 : Int} {a108 : Int} {a109 : Int} {a110 : Int} {a111 : C} {a112 : C} {m : M} {Q : V → M → Prop} (h :
 (∀ m0 : M, (m0 = (M.new m (AO.cells 13 [(Il a100), (Il a101), (Il a102), 
 (Il a103), (Il a104), (Il a105), (Il a106), 
 (Il a107), (Il a108), (Il a109), (Il a110), 
 a111, a112] false))) → ∃ x1, ∃ x2, ∃ x3, ∃ x4, ∃ x5, ∃ x6, 
 ∃ x7, ∃ x8, ∃ x9, ∃ x10, ∃ x11, ∃ c12 : C, ∃ c13 : C, ((ldA m0 (C.ptr m.nxt 0) 13) = (some [(Il x1), 
 (Il x2), (Il x3), (Il x4), (Il x5), 
 (Il x6), (Il x7), (Il x8), (Il x9), 
 (Il x10), (Il x11), c12, c13])) ∧ ∃ x14, ∃ x15, 
 ∃ x16, ∃ x17, ∃ x18, ∃ x19, ∃ x20, ∃ x21, ∃ x22, 
 ∃ x23, ∃ x24, ∃ c25 : C, ∃ c26 : C, ((ldA m0 (C.ptr m.nxt 0) 13) = (some [(Il x14), 
 (Il x15), (Il x16), (Il x17), (Il x18), 
 (Il x19), (Il x20), (Il x21), (Il x22), 
 (Il x23), (Il x24), c25, c26])) ∧ Wc prog tbl 92 [(V.agg 13 [(Il x14), 
 (Il x15), (Il x16), (Il x17), (Il x18), 
 (Il x19), (Il x20), (Il x21), (Il x22), 
 (Il x23), (Il x24), c25, c26])] m0 (fun v27 m28 => 
 ∃ b29 : Bool, ∃ b30 : Bool, ∃ b31 : Bool, ∃ b32 : Bool, ∃ b33 : Bool, ∃ b34 : Bool, 
 (v27 = (V.agg 6 [(C.bool b29), (C.bool b30), (C.bool b31), (C.bool b32), (C.bool b33), 
 (C.bool b34)])) ∧ (ifB (allS cmC [(Il x1), (Il x2), 
 (Il x3), (Il x4), (Il x5), (Il x6), 
 (Il x7), (Il x8), (Il x9), (Il x10), 
 (Il x11), c12, c13]) ((ldA m28 (C.ptr m.nxt 0) 13) = (some [(Il x1), 
 (Il x2), (Il x3), (Il x4), (Il x5), 
 (Il x6), (Il x7), (Il x8), (Il x9), 
 (Il x10), (Il x11), c12, c13])) False) ∧ Wc prog tbl 82 [(V.agg 13 [(Il x1), 
 (Il x2), (Il x3), (Il x4), (Il x5), 
 (Il x6), (Il x7), (Il x8), (Il x9), 
 (Il x10), (Il x11), c12, c13]), (V.agg 6 [(C.bool b29), 
 (C.bool b30), (C.bool b31), (C.bool b32), (C.bool b33), (C.bool b34)])] m28 (fun v35 m36 => 
 ∃ b37 : Bool, (v35 = (V.c (C.bool b37))) ∧ Q (V.c (C.bool b37)) m36)))) : Wc prog tbl 86 [(V.agg 13 [(Il a100), (Il a101), (Il a102), (Il a103), (Il a104), (Il a105), (Il a106), (Il a107), (Il a108), (Il a109), (Il a110), a111, a112])] m Q :=
 wc_eq (n := 1) rfl (by kernel_rfl) (by kernel_rfl) h
theorem w92 {a100 : Int} {a101 : Int} {a102 : Int} {a103 : Int} {a104 : Int} {a105 : Int} {a106 : Int} {a107 : Int} {a108 : Int} {a109 : Int} {a110 : Int} {a111 : C} {a112 : C} {m : M} {Q : V → M → Prop} (h :
 (∀ m0 : M, (m0 = (M.new m (AO.cells 13 [(Il a100), (Il a101), (Il a102), 
 (Il a103), (Il a104), (Il a105), (Il a106), 
 (Il a107), (Il a108), (Il a109), (Il a110), 
 a111, a112] false))) → ∀ m1 : M, (m1 = (M.new m0 (AO.cells 6 [(C.bool false), (C.bool false), (C.bool false), 
 (C.bool false), (C.bool false), (C.bool false)] false))) → isPt (C.ptr m.nxt 0) ∧ isPt (C.ptr m.nxt 0) ∧ 
 ∃ c2 : C, ((ldC m1 (C.ptr m.nxt 11)) = (some c2)) ∧ isSl c2 ∧ fitsP .i64 ((((slLen c2) : Nat) : Int) - (1 : Int)) ∧ 
 Wc prog tbl 83 [(V.c (Il ((((slLen c2) : Nat) : Int) - (1 : Int))))] m1 (fun v3 m4 => 
 ∃ b5 : Bool, ∃ b6 : Bool, ∃ b7 : Bool, ∃ b8 : Bool, ∃ b9 : Bool, ∃ b10 : Bool, (v3 = (V.agg 6 [(C.bool b5), 
 (C.bool b6), (C.bool b7), (C.bool b8), (C.bool b9), (C.bool b10)])) ∧ ∃ m11 : M, ((stC m4 (C.ptr m0.nxt 0) 6 [(C.bool b5), 
 (C.bool b6), (C.bool b7), (C.bool b8), (C.bool b9), (C.bool b10)]) = (some m11)) ∧ 
 ∃ b12 : Bool, ∃ b13 : Bool, ∃ b14 : Bool, ∃ b15 : Bool, ∃ b16 : Bool, ∃ b17 : Bool, 
 ((ldA m11 (C.ptr m0.nxt 0) 6) = (some [(C.bool b12), (C.bool b13), (C.bool b14), 
 (C.bool b15), (C.bool b16), (C.bool b17)])) ∧ Q (V.agg 6 [(C.bool b12), (C.bool b13), 
 (C.bool b14), (C.bool b15), (C.bool b16), (C.bool b17)]) m11))) : Wc prog tbl 92 [(V.agg 13 [(Il a100), (Il a101), (Il a102), (Il a103), (Il a104), (Il a105), (Il a106), (Il a107), (Il a108), (Il a109), (Il a110), a111, a112])] m Q :=
 wc_eq (n := 1) rfl (by kernel_rfl) (by kernel_rfl) h
theorem w98 {a100 : Int} {a101 : Int} {a102 : Int} {a103 : Int} {a104 : Int} {a105 : Int} {a106 : Int} {a107 : Int} {a108 : Int} {a109 : Int} {a110 : Int} {a111 : C} {m : M} {Q : V → M → Prop} (h :
 (∀ m0 : M, (m0 = (M.new m (AO.cells 12 [(Il a100), (Il a101), (Il a102), 
 (Il a103), (Il a104), (Il a105), (Il a106), 
 (Il a107), (Il a108), (Il a109), (Il a110), 
 a111] false))) → isPt (C.ptr m.nxt 0) ∧ ∃ x1, ((ldC m0 (C.ptr m.nxt 0)) = (some (Il x1))) ∧ 
 ifB (decide ((12 : Int) < x1)) (Q (V.c (C.bool true)) m0) (isPt (C.ptr m.nxt 0) ∧ ∃ x2, ((ldC m0 (C.ptr m.nxt 1)) = (some (Il x2))) ∧ 
 ifB (decide ((12 : Int) < x2)) (Q (V.c (C.bool true)) m0) (isPt (C.ptr m.nxt 0) ∧ ∃ c3 : C, ((ldC m0 (C.ptr m.nxt 11)) = (some c3)) ∧ 
 isSl c3 ∧ Q (V.c (C.bool (decide ((6 : Int) < (((slLen c3) : Nat) : Int))))) m0)))) : Wc prog tbl 98 [(V.agg 12 [(Il a100), (Il a101), (Il a102), (Il a103), (Il a104), (Il a105), (Il a106), (Il a107), (Il a108), (Il a109), (Il a110), a111])] m Q :=
 wc_eq (n := 1) rfl (by kernel_rfl) (by kernel_rfl) h
theorem w107 {a100 : Int} {a101 : Int} {a102 : Int} {a103 : Int} {a104 : Int} {a105 : Int} {a106 : Int} {a107 : Int} {a108 : Int} {a109 : Int} {a110 : Int} {a111 : C} {a200 : Int} {a201 : Int} {a202 : Int} {a203 : Int} {m : M} {Q : V → M → Prop} (h :
 (∀ m0 : M, (m0 = (M.new m (AO.cells 12 [(Il a100), (Il a101), (Il a102), 
 (Il a103), (Il a104), (Il a105), (Il a106), 
 (Il a107), (Il a108), (Il a109), (Il a110), 
 a111] false))) → ∀ m1 : M, (m1 = (M.new m0 (AO.cells 4 [(Il a200), (Il a201), 
 (Il a202), (Il a203)] false))) → isPt (C.ptr m0.nxt 0) ∧ ∃ x2, 
 ∃ x3, ((ldA m1 (C.ptr m0.nxt 0) 2) = (some [(Il x2), (Il x3)])) ∧ 
 isPt (C.ptr m.nxt 0) ∧ ∃ x4, ((ldC m1 (C.ptr m.nxt 0)) = (some (Il x4))) ∧ 
 fitsP .i64 (x4 - 1) ∧ Wc prog tbl 122 [(V.agg 2 [(Il x2), (Il x3)]), 
 (V.c (Il 0)), (V.c (Il (x4 - 1)))] m1 (fun v5 m6 => 
 ∃ b7 : Bool, (v5 = (V.c (C.bool b7))) ∧ ifB b7 (isPt (C.ptr m0.nxt 0) ∧ ∃ x8, ∃ x9, 
 ((ldA m6 (C.ptr m0.nxt 2) 2) = (some [(Il x8), (Il x9)])) ∧ 
 isPt (C.ptr m.nxt 0) ∧ ∃ x10, ((ldC m6 (C.ptr m.nxt 1)) = (some (Il x10))) ∧ 
 fitsP .i64 (x10 - 1) ∧ Wc prog tbl 122 [(V.agg 2 [(Il x8), 
 (Il x9)]), (V.c (Il 0)), (V.c (Il (x10 - 1)))] m6 (fun v11 m12 => 
 ∃ b13 : Bool, (v11 = (V.c (C.bool b13))) ∧ Q (V.c (C.bool b13)) m12)) (Q (V.c (C.bool false)) m6)))) : Wc prog tbl 107 [(V.agg 12 [(Il a100), (Il a101), (Il a102), (Il a103), (Il a104), (Il a105), (Il a106), (Il a107), (Il a108), (Il a109), (Il a110), a111]), (V.agg 4 [(Il a200), (Il a201), (Il a202), (Il a203)])] m Q :=
 wc_eq (n := 2) rfl (by kernel_rfl) (by kernel_rfl) h
theorem w110 {a100 : C} {m : M} {Q : V → M → Prop} (h :
 (isSl a100 ∧ ifB (decide ((((slLen a100) : Nat) : Int) = (0 : Int))) (Q (V.c (Il 0)) m) (∃ n0 : Nat, 
 ((0 : Int) = ((n0 : Nat) : Int)) ∧ (n0 < (slLen a100)) ∧ ∃ x1, ((ldC m (slAt a100 (n0 * 1))) = (some (Il x1))) ∧ 
 isSl a100 ∧ ∀ R2 : List V → M → Prop, (∀ x3 : Int, ∀ x4 : Int, ∀ m5 : M, (ifB (decide (x4 < (((slLen a100) : Nat) : Int))) (∃ n6 : Nat, 
 (x4 = ((n6 : Nat) : Int)) ∧ (n6 < (slLen a100)) ∧ ∃ x7, ((ldC m5 (slAt a100 (n6 * 1))) = (some (Il x7))) ∧ 
 ifB (decide (x7 < x3)) (fitsP .i64 (x4 + 1) ∧ R2 [(V.c (Il x7)), 
 (V.c (Il (x4 + 1)))] m5) (fitsP .i64 (x4 + 1) ∧ 
 R2 [(V.c (Il x3)), (V.c (Il (x4 + 1)))] m5)) (Q (V.c (Il x3)) m5)) → 
 R2 [(V.c (Il x3)), (V.c (Il x4))] m5) → R2 [(V.c (Il x1)), 
 (V.c (Il 0))] m))) : Wc prog tbl 110 [(V.c a100)] m Q :=
 wc_eq (n := 1) rfl (by kernel_rfl) (by kernel_rfl) h
theorem w113 {a100 : Int} {a101 : Int} {a102 : Int} {a103 : Int} {a104 : Int} {a105 : Int} {a106 : Int} {a107 : Int} {a108 : Int} {a109 : Int} {a110 : Int} {a111 : C} {a200 : Int} {a201 : Int} {a202 : Int} {a203 : Int} {a300 : Int} {a400 : Int} {m : M} {Q : V → M → Prop} (h :
 (∀ m0 : M, (m0 = (M.new m (AO.cells 12 [(Il a100), (Il a101), (Il a102), 
 (Il a103), (Il a104), (Il a105), (Il a106), 
 (Il a107), (Il a108), (Il a109), (Il a110), 
 a111] false))) → ∀ m1 : M, (m1 = (M.new m0 (AO.cells 4 [(Il a200), (Il a201), 
 (Il a202), (Il a203)] false))) → isPt (C.ptr m.nxt 0) ∧ ∃ x2, 
 ((ldC m1 (C.ptr m.nxt 0)) = (some (Il x2))) ∧ fitsP .i64 (x2 - 1) ∧ 
 ((0 : Int) ≤ (x2 - 1)) ∧ ((0 : Int) ≤ a400) ∧ fitsP .i64 ((x2 - 1) * a400) ∧ 
 isPt (C.ptr m0.nxt 0) ∧ ∃ x3, ((ldC m1 (C.ptr m0.nxt 0)) = (some (Il x3))) ∧ 
 fitsP .i64 ((x2 - 1) - a300) ∧ ((0 : Int) ≤ x3) ∧ ((0 : Int) ≤ ((x2 - 1) - a300)) ∧ 
 fitsP .i64 (x3 * ((x2 - 1) - a300)) ∧ isPt (C.ptr m0.nxt 0) ∧ ∃ x4, 
 ((ldC m1 (C.ptr m0.nxt 1)) = (some (Il x4))) ∧ ((0 : Int) ≤ x4) ∧ 
 ((0 : Int) ≤ a300) ∧ fitsP .i64 (x4 * a300) ∧ fitsP .i64 ((x3 * ((x2 - 1) - a300)) + (x4 * a300)) ∧ 
 fitsP .i64 (((x2 - 1) * a400) - ((x3 * ((x2 - 1) - a300)) + (x4 * a300))) ∧ 
 fitsP .i64 ((0 : Int) - (((x2 - 1) * a400) - ((x3 * ((x2 - 1) - a300)) + (x4 * a300)))) ∧ 
 Q (V.c (Il (Max.max (((x2 - 1) * a400) - ((x3 * ((x2 - 1) - a300)) + (x4 * a300))) ((0 : Int) - (((x2 - 1) * a400) - ((x3 * ((x2 - 1) - a300)) + (x4 * a300))))))) m1)) : Wc prog tbl 113 [(V.agg 12 [(Il a100), (Il a101), (Il a102), (Il a103), (Il a104), (Il a105), (Il a106), (Il a107), (Il a108), (Il a109), (Il a110), a111]), (V.agg 4 [(Il a200), (Il a201), (Il a202), (Il a203)]), (V.c (Il a300)), (V.c (Il a400))] m Q :=
 wc_eq (n := 4) rfl (by kernel_rfl) (by kernel_rfl) h
theorem w117 {a100 : Bool} {a101 : Bool} {a102 : Bool} {a103 : Bool} {a104 : Bool} {a105 : Bool} {a200 : Bool} {a201 : Bool} {a202 : Bool} {a203 : Bool} {a204 : Bool} {a205 : Bool} {m : M} {Q : V → M → Prop} (h :
 (∀ m0 : M, (m0 = (M.new m (AO.cells 6 [(C.bool a100), (C.bool a101), (C.bool a102), (C.bool a103), (C.bool a104), 
 (C.bool a105)] false))) → ∀ m1 : M, (m1 = (M.new m0 (AO.cells 6 [(C.bool a200), (C.bool a201), (C.bool a202), 
 (C.bool a203), (C.bool a204), (C.bool a205)] false))) → ∀ m2 : M, (m2 = (M.new m1 (AO.cells 6 [(C.bool false), 
 (C.bool false), (C.bool false), (C.bool false), (C.bool false), (C.bool false)] false))) → ∀ R3 : List V → 
 M → Prop, (∀ x4 : Int, ∀ m5 : M, (ifB (decide (x4 < 6)) (isPt (C.ptr m0.nxt 0) ∧ ∃ n6 : Nat, 
 (x4 = ((n6 : Nat) : Int)) ∧ (n6 < 6) ∧ ∃ b7 : Bool, ((ldC m5 (C.ptr m0.nxt (0 + (n6 * 1)))) = (some (C.bool b7))) ∧ 
 ifB b7 (isPt (C.ptr m.nxt 0) ∧ ∃ n8 : Nat, (x4 = ((n8 : Nat) : Int)) ∧ (n8 < 6) ∧ ∃ b9 : Bool, 
 ((ldC m5 (C.ptr m.nxt (0 + (n8 * 1)))) = (some (C.bool b9))) ∧ isPt (C.ptr m0.nxt 0) ∧ 
 ∃ n10 : Nat, (x4 = ((n10 : Nat) : Int)) ∧ (n10 < 6) ∧ ∃ m11 : M, ((stC m5 (C.ptr m0.nxt (0 + (n10 * 1))) 1 [(C.bool b9)]) = (some m11)) ∧ 
 fitsP .i64 (x4 + 1) ∧ R3 [(V.c (Il (x4 + 1)))] m11) (isPt (C.ptr m0.nxt 0) ∧ 
 ∃ n12 : Nat, (x4 = ((n12 : Nat) : Int)) ∧ (n12 < 6) ∧ ∃ m13 : M, ((stC m5 (C.ptr m0.nxt (0 + (n12 * 1))) 1 [(C.bool false)]) = (some m13)) ∧ 
 fitsP .i64 (x4 + 1) ∧ R3 [(V.c (Il (x4 + 1)))] m13)) (∃ b14 : Bool, 
 ∃ b15 : Bool, ∃ b16 : Bool, ∃ b17 : Bool, ∃ b18 : Bool, ∃ b19 : Bool, ((ldA m5 (C.ptr m0.nxt 0) 6) = (some [(C.bool b14), 
 (C.bool b15), (C.bool b16), (C.bool b17), (C.bool b18), (C.bool b19)])) ∧ ∃ m20 : M, 
 ((stC m5 (C.ptr m1.nxt 0) 6 [(C.bool b14), (C.bool b15), (C.bool b16), (C.bool b17), 
 (C.bool b18), (C.bool b19)]) = (some m20)) ∧ ∃ b21 : Bool, ∃ b22 : Bool, ∃ b23 : Bool, 
 ∃ b24 : Bool, ∃ b25 : Bool, ∃ b26 : Bool, ((ldA m20 (C.ptr m1.nxt 0) 6) = (some [(C.bool b21), 
 (C.bool b22), (C.bool b23), (C.bool b24), (C.bool b25), (C.bool b26)])) ∧ Q (V.agg 6 [(C.bool b21), 
 (C.bool b22), (C.bool b23), (C.bool b24), (C.bool b25), (C.bool b26)]) m20)) → 
 R3 [(V.c (Il x4))] m5) → R3 [(V.c (Il 0))] m2)) : Wc prog tbl 117 [(V.agg 6 [(C.bool a100), (C.bool a101), (C.bool a102), (C.bool a103), (C.bool a104), (C.bool a105)]), (V.agg 6 [(C.bool a200), (C.bool a201), (C.bool a202), (C.bool a203), (C.bool a204), (C.bool a205)])] m Q :=
 wc_eq (n := 2) rfl (by kernel_rfl) (by kernel_rfl) h
theorem w121 {a100 : Int} {a101 : Int} {a102 : Int} {a103 : Int} {a104 : Int} {a105 : Int} {a106 : Int} {a107 : Int} {a108 : Int} {a109 : Int} {a110 : Int} {a111 : C} {a200 : Int} {a201 : Int} {a202 : Int} {a203 : Int} {a204 : Bool} {a205 : Int} {a206 : Int} {a300 : Int} {a301 : Int} {a302 : Int} {a303 : Int} {m : M} {Q : V → M → Prop} (h :
 (∀ m0 : M, (m0 = (M.new m (AO.cells 12 [(Il a100), (Il a101), (Il a102), 
 (Il a103), (Il a104), (Il a105), (Il a106), 
 (Il a107), (Il a108), (Il a109), (Il a110), 
 a111] false))) → ∀ m1 : M, (m1 = (M.new m0 (AO.cells 7 [(Il a200), (Il a201), 
 (Il a202), (Il a203), (C.bool a204), (Il a205), (Il a206)] false))) → 
 ∀ m2 : M, (m2 = (M.new m1 (AO.cells 4 [(Il a300), (Il a301), (Il a302), 
 (Il a303)] false))) → ∀ m3 : M, (m3 = (M.new m2 (AO.cells 1 [(C.bool false)] false))) → 
 ∃ x4, ∃ x5, ∃ x6, ∃ x7, ∃ b8 : Bool, ∃ x9, ∃ x10, ((ldA m3 (C.ptr m0.nxt 0) 7) = (some [(Il x4), 
 (Il x5), (Il x6), (Il x7), (C.bool b8), (Il x9), 
 (Il x10)])) ∧ Wc prog tbl 133 [(V.agg 7 [(Il x4), (Il x5), 
 (Il x6), (Il x7), (C.bool b8), (Il x9), (Il x10)])] m3 (fun v11 m12 => 
 ∃ x13, ∃ x14, ∃ x15, ∃ x16, (v11 = (V.agg 4 [(Il x13), 
 (Il x14), (Il x15), (Il x16)])) ∧ Wc prog tbl 78 [(V.agg 4 [(Il x13), 
 (Il x14), (Il x15), (Il x16)])] m12 (fun v17 m18 => 
 ∃ c19 : C, (v17 = (V.c c19)) ∧ rangeP prog tbl c19 m18 (fun l20 m21 R22 R23 => 
 ∃ x24, ∃ x25, (l20 = [(V.c (Il x24)), (V.c (Il x25))]) ∧ 
 R22 m21 (fun m26 => ∃ x27, ∃ x28, ∃ x29, ∃ x30, 
 ∃ x31, ∃ x32, ∃ x33, ∃ x34, ∃ x35, ∃ x36, 
 ∃ x37, ∃ c38 : C, ((ldA m26 (C.ptr m.nxt 0) 12) = (some [(Il x27), 
 (Il x28), (Il x29), (Il x30), (Il x31), 
 (Il x32), (Il x33), (Il x34), (Il x35), 
 (Il x36), (Il x37), c38])) ∧ ∃ x39, ∃ x40, 
 ∃ x41, ∃ x42, ((ldA m26 (C.ptr m1.nxt 0) 4) = (some [(Il x39), 
 (Il x40), (Il x41), (Il x42)])) ∧ 
 Wc prog tbl 112 [(V.agg 12 [(Il x27), (Il x28), 
 (Il x29), (Il x30), (Il x31), (Il x32), 
 (Il x33), (Il x34), (Il x35), (Il x36), 
 (Il x37), c38]), (V.agg 4 [(Il x39), (Il x40), 
 (Il x41), (Il x42)]), (V.c (Il x24)), 
 (V.c (Il x25))] m26 (fun v43 m44 => ∃ b45 : Bool, (v43 = (V.c (C.bool b45))) ∧ 
 isPt (C.ptr m0.nxt 0) ∧ ∃ b46 : Bool, ((ldC m44 (C.ptr m0.nxt 4)) = (some (C.bool b46))) ∧ 
 ((ldC m26 (C.ptr m0.nxt 4)) = (some (C.bool b46))) ∧ ifB (b45 == b46) (isPt (C.ptr m0.nxt 0) ∧ 
 ∃ x47, ∃ x48, ((ldA m44 (C.ptr m0.nxt 5) 2) = (some [(Il x47), 
 (Il x48)])) ∧ ∃ x49, ∃ x50, ∃ x51, ∃ x52, 
 ∃ x53, ∃ x54, ∃ x55, ∃ x56, ∃ x57, ∃ x58, 
 ∃ x59, ∃ c60 : C, ((ldA m44 (C.ptr m.nxt 0) 12) = (some [(Il x49), 
 (Il x50), (Il x51), (Il x52), (Il x53), 
 (Il x54), (Il x55), (Il x56), (Il x57), 
 (Il x58), (Il x59), c60])) ∧ ∃ x61, ∃ x62, 
 ∃ x63, ∃ x64, ((ldA m44 (C.ptr m1.nxt 0) 4) = (some [(Il x61), 
 (Il x62), (Il x63), (Il x64)])) ∧ 
 Wc prog tbl 75 [(V.agg 12 [(Il x49), (Il x50), 
 (Il x51), (Il x52), (Il x53), (Il x54), 
 (Il x55), (Il x56), (Il x57), (Il x58), 
 (Il x59), c60]), (V.agg 4 [(Il x61), (Il x62), 
 (Il x63), (Il x64)]), (V.c (Il x24)), 
 (V.c (Il x25))] m44 (fun v65 m66 => ∃ x67, (v65 = (V.c (Il x67))) ∧ 
 ((ldA m66 (C.ptr m0.nxt 5) 2) = (some [(Il x47), (Il x48)])) ∧ 
 Wc prog tbl 120 [(V.agg 2 [(Il x47), (Il x48)]), 
 (V.c (Il x67))] m66 (fun v68 m69 => ∃ b70 : Bool, (v68 = (V.c (C.bool b70))) ∧ 
 ifB b70 (∃ m71 : M, ((stC m69 (C.ptr m2.nxt 0) 1 [(C.bool true)]) = (some m71)) ∧ 
 R23 Ex.ret m71) (R23 Ex.nrm m69)))) (R23 Ex.nrm m44)))) (After.mk (fun m72 => 
 ∃ m73 : M, ((stC m72 (C.ptr m2.nxt 0) 1 [(C.bool false)]) = (some m73)) ∧ 
 ∃ b74 : Bool, ((ldC m73 (C.ptr m2.nxt 0)) = (some (C.bool b74))) ∧ 
 Q (V.c (C.bool b74)) m73) [] (fun m75 => ∃ b76 : Bool, ((ldC m75 (C.ptr m2.nxt 0)) = (some (C.bool b76))) ∧ 
 Q (V.c (C.bool b76)) m75)))))) : Wc prog tbl 121 [(V.agg 12 [(Il a100), (Il a101), (Il a102), (Il a103), (Il a104), (Il a105), (Il a106), (Il a107), (Il a108), (Il a109), (Il a110), a111]), (V.agg 7 [(Il a200), (Il a201), (Il a202), (Il a203), (C.bool a204), (Il a205), (Il a206)]), (V.agg 4 [(Il a300), (Il a301), (Il a302), (Il a303)])] m Q :=
 wc_eq (n := 3) rfl (by kernel_rfl) (by kernel_rfl) h
theorem w124 {a100 : Int} {a101 : Int} {a102 : Int} {a103 : Int} {a104 : Int} {a105 : Int} {a106 : Int} {a107 : Int} {a108 : Int} {a109 : Int} {a110 : Int} {a111 : C} {a112 : C} {a200 : Int} {a201 : Int} {a202 : Int} {a203 : Int} {a204 : Bool} {a205 : Int} {a206 : Int} {m : M} {Q : V → M → Prop} (h :
 (∀ m0 : M, (m0 = (M.new m (AO.cells 13 [(Il a100), (Il a101), (Il a102), 
 (Il a103), (Il a104), (Il a105), (Il a106), 
 (Il a107), (Il a108), (Il a109), (Il a110), 
 a111, a112] false))) → ∀ m1 : M, (m1 = (M.new m0 (AO.cells 7 [(Il a200), (Il a201), 
 (Il a202), (Il a203), (C.bool a204), (Il a205), (Il a206)] false))) → 
 isPt (C.ptr m.nxt 0) ∧ ∃ x2, ∃ x3, ∃ x4, ∃ x5, ∃ x6, ∃ x7, 
 ∃ x8, ∃ x9, ∃ x10, ∃ x11, ∃ x12, ∃ c13 : C, ((ldA m1 (C.ptr m.nxt 0) 12) = (some [(Il x2), 
 (Il x3), (Il x4), (Il x5), (Il x6), 
 (Il x7), (Il x8), (Il x9), (Il x10), 
 (Il x11), (Il x12), c13])) ∧ ∃ x14, ∃ x15, 
 ∃ x16, ∃ x17, ∃ b18 : Bool, ∃ x19, ∃ x20, ((ldA m1 (C.ptr m0.nxt 0) 7) = (some [(Il x14), 
 (Il x15), (Il x16), (Il x17), (C.bool b18), 
 (Il x19), (Il x20)])) ∧ Wc prog tbl 133 [(V.agg 7 [(Il x14), 
 (Il x15), (Il x16), (Il x17), (C.bool b18), 
 (Il x19), (Il x20)])] m1 (fun v21 m22 => ∃ x23, 
 ∃ x24, ∃ x25, ∃ x26, (v21 = (V.agg 4 [(Il x23), 
 (Il x24), (Il x25), (Il x26)])) ∧ 
 (ifB (allS cmC [(Il x2), (Il x3), (Il x4), 
 (Il x5), (Il x6), (Il x7), (Il x8), 
 (Il x9), (Il x10), (Il x11), (Il x12), 
 c13]) ((ldA m22 (C.ptr m.nxt 0) 12) = (some [(Il x2), 
 (Il x3), (Il x4), (Il x5), (Il x6), 
 (Il x7), (Il x8), (Il x9), (Il x10), 
 (Il x11), (Il x12), c13])) False) ∧ Wc prog tbl 107 [(V.agg 12 [(Il x2), 
 (Il x3), (Il x4), (Il x5), (Il x6), 
 (Il x7), (Il x8), (Il x9), (Il x10), 
 (Il x11), (Il x12), c13]), (V.agg 4 [(Il x23), 
 (Il x24), (Il x25), (Il x26)])] m22 (fun v27 m28 => 
 ∃ b29 : Bool, (v27 = (V.c (C.bool b29))) ∧ ifB (!b29) (Q (V.c (C.bool false)) m28) (isPt (C.ptr m0.nxt 0) ∧ 
 ∃ x30, ∃ x31, ((ldA m28 (C.ptr m0.nxt 5) 2) = (some [(Il x30), 
 (Il x31)])) ∧ Wc prog tbl 122 [(V.agg 2 [(Il x30), 
 (Il x31)]), (V.c (Il 0)), (V.c (Il (9 : Int)))] m28 (fun v32 m33 => 
 ∃ b34 : Bool, (v32 = (V.c (C.bool b34))) ∧ ifB (!b34) (Q (V.c (C.bool false)) m33) (isPt (C.ptr m0.nxt 0) ∧ 
 ∃ b35 : Bool, ((ldC m33 (C.ptr m0.nxt 4)) = (some (C.bool b35))) ∧ 
 ifB b35 (Q (V.c (C.bool true)) m33) (isPt (C.ptr m0.nxt 0) ∧ ∃ x36, 
 ∃ x37, ((ldA m33 (C.ptr m0.nxt 5) 2) = (some [(Il x36), 
 (Il x37)])) ∧ fitsP .i64 x36 ∧ fitsP .i64 (0 : Int) ∧ 
 fitsP .i64 x37 ∧ fitsP .i64 (0 : Int) ∧ Q (V.c (C.bool ((decide (x36 = 0)) && (decide (x37 = 0))))) m33)))))))) : Wc prog tbl 124 [(V.agg 13 [(Il a100), (Il a101), (Il a102), (Il a103), (Il a104), (Il a105), (Il a106), (Il a107), (Il a108), (Il a109), (Il a110), a111, a112]), (V.agg 7 [(Il a200), (Il a201), (Il a202), (Il a203), (C.bool a204), (Il a205), (Il a206)])] m Q :=
 wc_eq (n := 2) rfl (by kernel_rfl) (by kernel_rfl) h
theorem w134 {a100 : C} {a200 : C} {m : M} {Q : V → M → Prop} (h :
 (Wc prog tbl 139 [(V.c a100), (V.c a200)] m (fun v0 m1 => ∃ x2, (v0 = (V.c (Il x2))) ∧ Q (V.c (C.bool (decide ((0 : Int) ≤ x2)))) m1))) : Wc prog tbl 134 [(V.c a100), (V.c a200)] m Q :=
 wc_eq (n := 2) rfl (by kernel_rfl) (by kernel_rfl) h
end
end Go.Proofs.Ytbnfnhfanooplaa

