/- What functions of the program ask and do. Condition: none; a lemma text of this claim. -/
import Derived.Test.YtgkjfhkjgdiodaaTrA

namespace Go.Proofs.Ytgkjfhkjgdiodaa
open _root_.Go.Proofs.Try
open Go.Abs
set_option maxRecDepth 100000
noncomputable section
theorem w33 {a100 : Int} {a101 : Int} {a102 : C} {a103 : Int} {a104 : C} {m : M} {Q : V → M → Prop} (h :
 (∀ m0 : M, ((m0 = (M.new m (AO.cells 5 [(C.int IntKind.i64 a100), (C.int IntKind.i64 a101), a102, (C.int IntKind.i64 a103), 
 a104] false))) → (∀ m1 : M, ((m1 = (M.new m0 (AO.cells 5 [(C.int IntKind.i64 (0 : Int)), (C.int IntKind.i64 (0 : Int)), 
 C.sl0, (C.int IntKind.i64 (0 : Int)), C.sl0] false))) → (isPt (C.ptr (m).nxt 0) ∧ (∃ x2 : Int, (∃ x3 : Int, 
 (∃ c4 : C, (((ldA m1 (C.ptr (m).nxt 0) 3) = (Option.some [(C.int IntKind.i64 x2), (C.int IntKind.i64 x3), 
 c4])) ∧ (Wc prog tbl 22 [(V.agg 3 [(C.int IntKind.i64 x2), (C.int IntKind.i64 x3), c4])] m1 (fun v5 m6 => 
 (∃ x7 : Int, (∃ x8 : Int, (∃ c9 : C, ((v5 = (V.agg 3 [(C.int IntKind.i64 x7), (C.int IntKind.i64 x8), 
 c9])) ∧ (isPt (C.ptr (m).nxt 0) ∧ (∃ x10 : Int, (((ldC m6 (C.ptr (m).nxt 3)) = (Option.some (C.int IntKind.i64 x10))) ∧ 
 (((ldC m1 (C.ptr (m).nxt 3)) = (Option.some (C.int IntKind.i64 x10))) ∧ (isPt (C.ptr (m).nxt 0) ∧ 
 (∃ c11 : C, (((ldC m6 (C.ptr (m).nxt 4)) = (Option.some c11)) ∧ ((ifB (noFnC c11) ((ldC m1 (C.ptr (m).nxt 4)) = (Option.some c11)) False) ∧ 
 (Wc prog tbl 25 [(V.c c11)] m6 (fun v12 m13 => (∃ c14 : C, ((v12 = (V.c c14)) ∧ (((ldC m13 (C.ptr (m).nxt 3)) = (Option.some (C.int IntKind.i64 x10))) ∧ 
 (∃ m15 : M, (((stC m13 (C.ptr (m0).nxt 0) 5 [(C.int IntKind.i64 x7), (C.int IntKind.i64 x8), 
 c9, (C.int IntKind.i64 x10), c14]) = (Option.some m15)) ∧ (∃ x16 : Int, (∃ x17 : Int, 
 (∃ c18 : C, (∃ x19 : Int, (∃ c20 : C, (((ldA m15 (C.ptr (m0).nxt 0) 5) = (Option.some [(C.int IntKind.i64 x16), 
 (C.int IntKind.i64 x17), c18, (C.int IntKind.i64 x19), c20])) ∧ (Q (V.agg 5 [(C.int IntKind.i64 x16), 
 (C.int IntKind.i64 x17), c18, (C.int IntKind.i64 x19), c20]) m15)))))))))))))))))))))))))))))))))))))) : Wc prog tbl 33 [(V.agg 5 [(C.int IntKind.i64 a100), (C.int IntKind.i64 a101), a102, (C.int IntKind.i64 a103), a104])] m Q :=
 wc_eq (n := 1) rfl (by kernel_rfl) (by kernel_rfl) h
theorem w36 {a100 : Int} {a101 : Int} {a102 : C} {a103 : Int} {a104 : C} {m : M} {Q : V → M → Prop} (h :
 (∀ m0 : M, ((m0 = (M.new m (AO.cells 5 [(C.int IntKind.i64 a100), (C.int IntKind.i64 a101), a102, (C.int IntKind.i64 a103), 
 a104] false))) → (∃ x1 : Int, (∃ x2 : Int, (∃ c3 : C, (∃ x4 : Int, (∃ c5 : C, (((ldA m0 (C.ptr (m).nxt 0) 5) = (Option.some [(C.int IntKind.i64 x1), 
 (C.int IntKind.i64 x2), c3, (C.int IntKind.i64 x4), c5])) ∧ (Wc prog tbl 78 [(V.agg 5 [(C.int IntKind.i64 x1), 
 (C.int IntKind.i64 x2), c3, (C.int IntKind.i64 x4), c5])] m0 (fun v6 m7 => (∃ x8 : Int, ((v6 = (V.c (C.int IntKind.i64 x8))) ∧ 
 (Q (V.c (C.int IntKind.i64 x8)) m7)))))))))))))) : Wc prog tbl 36 [(V.agg 5 [(C.int IntKind.i64 a100), (C.int IntKind.i64 a101), a102, (C.int IntKind.i64 a103), a104])] m Q :=
 wc_eq (n := 1) rfl (by kernel_rfl) (by kernel_rfl) h
theorem w38 {a100 : Int} {a101 : Int} {a102 : C} {a103 : Int} {a104 : C} {a200 : C} {a300 : Int} {m : M} {Q : V → M → Prop} (h :
 (∀ m0 : M, ((m0 = (M.new m (AO.cells 5 [(C.int IntKind.i64 a100), (C.int IntKind.i64 a101), a102, (C.int IntKind.i64 a103), 
 a104] false))) → (isPt (C.ptr (m).nxt 0) ∧ (∃ x1 : Int, (∃ x2 : Int, (∃ c3 : C, (((ldA m0 (C.ptr (m).nxt 0) 3) = (Option.some [(C.int IntKind.i64 x1), 
 (C.int IntKind.i64 x2), c3])) ∧ (Wc prog tbl 39 [(V.agg 3 [(C.int IntKind.i64 x1), (C.int IntKind.i64 x2), 
 c3]), (V.c a200)] m0 (fun v4 m5 => (∃ b6 : Bool, ((v4 = (V.c (C.bool b6))) ∧ (ifB (!b6) (Q (V.c (C.bool false)) m5) (∀ R7 : List V → 
 M → Prop, ((∀ b8 : Bool, (∀ x9 : Int, (∀ m10 : M, ((isSl a200 ∧ (ifB (decide (x9 < (((slLen a200) : Nat) : Int))) (fitsP IntKind.i64 (x9 + (1 : Int)) ∧ 
 (∀ R11 : List V → M → Prop, ((∀ b12 : Bool, (∀ x13 : Int, (∀ m14 : M, ((isSl a200 ∧ (ifB (decide (x13 < (((slLen a200) : Nat) : Int))) (isPt (C.ptr (m).nxt 0) ∧ 
 (isPt (C.ptr (m).nxt 0) ∧ (∃ x15 : Int, (((ldC m14 (C.ptr (m).nxt 1)) = (Option.some (C.int IntKind.i64 x15))) ∧ 
 (((0 : Int) ≤ x9) ∧ (((0 : Int) < x15) ∧ (fitsP IntKind.i64 (x9 / x15) ∧ (isPt (C.ptr (m).nxt 0) ∧ 
 (isPt (C.ptr (m).nxt 0) ∧ (∃ x16 : Int, (((ldC m14 (C.ptr (m).nxt 1)) = (Option.some (C.int IntKind.i64 x16))) ∧ 
 (((0 : Int) ≤ x13) ∧ (((0 : Int) < x16) ∧ (fitsP IntKind.i64 (x13 / x16) ∧ (ifB (decide ((x9 / x15) = (x13 / x16))) (fitsP IntKind.i64 (x9 + (1 : Int)) ∧ 
 (isPt (C.ptr (m).nxt 0) ∧ (isPt (C.ptr (m).nxt 0) ∧ (∃ x17 : Int, (((ldC m14 (C.ptr (m).nxt 1)) = (Option.some (C.int IntKind.i64 x17))) ∧ 
 (fitsP IntKind.i64 (x9 + x17) ∧ (ifB (decide (x13 = (x9 + (1 : Int)))) (∃ n18 : Nat, 
 ((x9 = ((n18 : Nat) : Int)) ∧ ((n18 < (slLen a200)) ∧ (∃ x19 : Int, (((ldC m14 (slAt a200 (n18 * 1))) = (Option.some (C.int IntKind.i64 x19))) ∧ 
 (∃ n20 : Nat, ((x13 = ((n20 : Nat) : Int)) ∧ ((n20 < (slLen a200)) ∧ (∃ x21 : Int, 
 (((ldC m14 (slAt a200 (n20 * 1))) = (Option.some (C.int IntKind.i64 x21))) ∧ 
 (fitsP IntKind.i64 (x19 - x21) ∧ (isPt (C.ptr (m).nxt 0) ∧ (∃ x22 : Int, (((ldC m14 (C.ptr (m).nxt 3)) = (Option.some (C.int IntKind.i64 x22))) ∧ 
 (fitsP IntKind.i64 ((0 : Int) - x22) ∧ (isPt (C.ptr (m).nxt 0) ∧ (∃ x23 : Int, 
 (((ldC m14 (C.ptr (m).nxt 3)) = (Option.some (C.int IntKind.i64 x23))) ∧ (Wc prog tbl 44 [(V.c (C.int IntKind.i64 (x19 - x21))), 
 (V.c (C.int IntKind.i64 ((0 : Int) - x22))), (V.c (C.int IntKind.i64 x23))] m14 (fun v24 m25 => 
 (∃ b26 : Bool, ((v24 = (V.c (C.bool b26))) ∧ (ifB (!b26) (Q (V.c (C.bool false)) m25) (fitsP IntKind.i64 (x13 + (1 : Int)) ∧ 
 (R11 [(V.c (C.bool b12)), (V.c (C.int IntKind.i64 (x13 + (1 : Int))))] m25))))))))))))))))))))))))) (ifB (decide (x13 = (x9 + x17))) (∃ n27 : Nat, 
 ((x9 = ((n27 : Nat) : Int)) ∧ ((n27 < (slLen a200)) ∧ (∃ x28 : Int, (((ldC m14 (slAt a200 (n27 * 1))) = (Option.some (C.int IntKind.i64 x28))) ∧ 
 (∃ n29 : Nat, ((x13 = ((n29 : Nat) : Int)) ∧ ((n29 < (slLen a200)) ∧ (∃ x30 : Int, 
 (((ldC m14 (slAt a200 (n29 * 1))) = (Option.some (C.int IntKind.i64 x30))) ∧ 
 (fitsP IntKind.i64 (x28 - x30) ∧ (isPt (C.ptr (m).nxt 0) ∧ (∃ x31 : Int, (((ldC m14 (C.ptr (m).nxt 3)) = (Option.some (C.int IntKind.i64 x31))) ∧ 
 (fitsP IntKind.i64 ((0 : Int) - x31) ∧ (isPt (C.ptr (m).nxt 0) ∧ (∃ x32 : Int, 
 (((ldC m14 (C.ptr (m).nxt 3)) = (Option.some (C.int IntKind.i64 x32))) ∧ (Wc prog tbl 44 [(V.c (C.int IntKind.i64 (x28 - x30))), 
 (V.c (C.int IntKind.i64 ((0 : Int) - x31))), (V.c (C.int IntKind.i64 x32))] m14 (fun v33 m34 => 
 (∃ b35 : Bool, ((v33 = (V.c (C.bool b35))) ∧ (ifB (!b35) (Q (V.c (C.bool false)) m34) (fitsP IntKind.i64 (x13 + (1 : Int)) ∧ 
 (R11 [(V.c (C.bool b12)), (V.c (C.int IntKind.i64 (x13 + (1 : Int))))] m34))))))))))))))))))))))))) (fitsP IntKind.i64 (x13 + (1 : Int)) ∧ 
 (R11 [(V.c (C.bool b12)), (V.c (C.int IntKind.i64 (x13 + (1 : Int))))] m14)))))))))) (isPt (C.ptr (m).nxt 0) ∧ 
 (isPt (C.ptr (m).nxt 0) ∧ (∃ x36 : Int, (((ldC m14 (C.ptr (m).nxt 1)) = (Option.some (C.int IntKind.i64 x36))) ∧ 
 (fitsP IntKind.i64 (x9 + x36) ∧ (ifB (decide (x13 = (x9 + x36))) (∃ n37 : Nat, 
 ((x9 = ((n37 : Nat) : Int)) ∧ ((n37 < (slLen a200)) ∧ (∃ x38 : Int, (((ldC m14 (slAt a200 (n37 * 1))) = (Option.some (C.int IntKind.i64 x38))) ∧ 
 (∃ n39 : Nat, ((x13 = ((n39 : Nat) : Int)) ∧ ((n39 < (slLen a200)) ∧ (∃ x40 : Int, 
 (((ldC m14 (slAt a200 (n39 * 1))) = (Option.some (C.int IntKind.i64 x40))) ∧ 
 (fitsP IntKind.i64 (x38 - x40) ∧ (isPt (C.ptr (m).nxt 0) ∧ (∃ x41 : Int, (((ldC m14 (C.ptr (m).nxt 3)) = (Option.some (C.int IntKind.i64 x41))) ∧ 
 (fitsP IntKind.i64 ((0 : Int) - x41) ∧ (isPt (C.ptr (m).nxt 0) ∧ (∃ x42 : Int, 
 (((ldC m14 (C.ptr (m).nxt 3)) = (Option.some (C.int IntKind.i64 x42))) ∧ (Wc prog tbl 44 [(V.c (C.int IntKind.i64 (x38 - x40))), 
 (V.c (C.int IntKind.i64 ((0 : Int) - x41))), (V.c (C.int IntKind.i64 x42))] m14 (fun v43 m44 => 
 (∃ b45 : Bool, ((v43 = (V.c (C.bool b45))) ∧ (ifB (!b45) (Q (V.c (C.bool false)) m44) (fitsP IntKind.i64 (x13 + (1 : Int)) ∧ 
 (R11 [(V.c (C.bool b12)), (V.c (C.int IntKind.i64 (x13 + (1 : Int))))] m44))))))))))))))))))))))))) (fitsP IntKind.i64 (x13 + (1 : Int)) ∧ 
 (R11 [(V.c (C.bool b12)), (V.c (C.int IntKind.i64 (x13 + (1 : Int))))] m14))))))))))))))))))))))) (fitsP IntKind.i64 (x9 + (1 : Int)) ∧ 
 (R7 [(V.c (C.bool b12)), (V.c (C.int IntKind.i64 (x9 + (1 : Int))))] m14)))) → 
 (R11 [(V.c (C.bool b12)), (V.c (C.int IntKind.i64 x13))] m14))))) → (R11 [(V.c (C.bool b8)), 
 (V.c (C.int IntKind.i64 (x9 + (1 : Int))))] m10)))) (∀ R46 : List V → M → Prop, ((∀ b47 : Bool, 
 (∀ x48 : Int, (∀ m49 : M, ((isPt (C.ptr (m).nxt 0) ∧ (∃ c50 : C, (((ldC m49 (C.ptr (m).nxt 4)) = (Option.some c50)) ∧ 
 (isSl c50 ∧ (ifB (decide (x48 < (((slLen c50) : Nat) : Int))) (isPt (C.ptr (m).nxt 0) ∧ 
 (∃ c51 : C, (((ldC m49 (C.ptr (m).nxt 4)) = (Option.some c51)) ∧ (∃ n52 : Nat, 
 ((x48 = ((n52 : Nat) : Int)) ∧ ((n52 < (slLen c51)) ∧ (∃ x53 : Int, (∃ x54 : Int, 
 (∃ x55 : Int, (∃ b56 : Bool, (((ldA m49 (slAt c51 (n52 * 4)) 4) = (Option.some [(C.int IntKind.i64 x53), 
 (C.int IntKind.i64 x54), (C.int IntKind.i64 x55), (C.bool b56)])) ∧ (∀ m57 : M, 
 ((m57 = (M.new m49 (AO.cells 4 [(C.int IntKind.i64 (0 : Int)), (C.int IntKind.i64 (0 : Int)), 
 (C.int IntKind.i64 (0 : Int)), (C.bool false)] false))) → (∃ m58 : M, (((stC m57 (C.ptr (m49).nxt 0) 4 [(C.int IntKind.i64 x53), 
 (C.int IntKind.i64 x54), (C.int IntKind.i64 x55), (C.bool b56)]) = (Option.some m58)) ∧ 
 (isPt (C.ptr (m49).nxt 0) ∧ (∃ b59 : Bool, (((ldC m58 (C.ptr (m49).nxt 3)) = (Option.some (C.bool b59))) ∧ 
 (ifB (!b59) (((0 : Int) ≤ a300) ∧ (((0 : Int) ≤ (wrapZ IntKind.u64 x48)) ∧ (((wrapZ IntKind.u64 x48) ≤ (64 : Int)) ∧ 
 (fitsP IntKind.i64 (a300 / ((2 : Int) ^ (Int.toNat (wrapZ IntKind.u64 x48)))) ∧ 
 (((0 : Int) ≤ (a300 / ((2 : Int) ^ (Int.toNat (wrapZ IntKind.u64 x48))))) ∧ (((0 : Int) < (2 : Int)) ∧ 
 (fitsP IntKind.i64 ((a300 / ((2 : Int) ^ (Int.toNat (wrapZ IntKind.u64 x48)))) % (2 : Int)) ∧ 
 (ifB (decide (((a300 / ((2 : Int) ^ (Int.toNat (wrapZ IntKind.u64 x48)))) % (2 : Int)) = (0 : Int))) (isPt (C.ptr (m49).nxt 0) ∧ 
 (∃ x60 : Int, (((ldC m58 (C.ptr (m49).nxt 0)) = (Option.some (C.int IntKind.i64 x60))) ∧ 
 (∃ n61 : Nat, ((x60 = ((n61 : Nat) : Int)) ∧ ((n61 < (slLen a200)) ∧ (∃ x62 : Int, 
 (((ldC m58 (slAt a200 (n61 * 1))) = (Option.some (C.int IntKind.i64 x62))) ∧ 
 (isPt (C.ptr (m49).nxt 0) ∧ (isPt (C.ptr (m49).nxt 1) ∧ (∃ x63 : Int, (((ldC m58 (C.ptr (m49).nxt 1)) = (Option.some (C.int IntKind.i64 x63))) ∧ 
 (isPt (C.ptr (m49).nxt 0) ∧ (isPt (C.ptr (m49).nxt 1) ∧ (∃ x64 : Int, (((ldC m58 (C.ptr (m49).nxt 2)) = (Option.some (C.int IntKind.i64 x64))) ∧ 
 (Wc prog tbl 44 [(V.c (C.int IntKind.i64 x62)), (V.c (C.int IntKind.i64 x63)), 
 (V.c (C.int IntKind.i64 x64))] m58 (fun v65 m66 => (∃ b67 : Bool, ((v65 = (V.c (C.bool b67))) ∧ 
 (ifB (!b67) (Q (V.c (C.bool false)) m66) (fitsP IntKind.i64 (x48 + (1 : Int)) ∧ 
 (R46 [(V.c (C.bool b47)), (V.c (C.int IntKind.i64 (x48 + (1 : Int))))] m66))))))))))))))))))))))) (fitsP IntKind.i64 (x48 + (1 : Int)) ∧ 
 (R46 [(V.c (C.bool b47)), (V.c (C.int IntKind.i64 (x48 + (1 : Int))))] m58)))))))))) (fitsP IntKind.i64 (x48 + (1 : Int)) ∧ 
 (R46 [(V.c (C.bool b47)), (V.c (C.int IntKind.i64 (x48 + (1 : Int))))] m58))))))))))))))))))))) (Q (V.c (C.bool true)) m49)))))) → 
 (R46 [(V.c (C.bool b47)), (V.c (C.int IntKind.i64 x48))] m49))))) → (R46 [(V.c (C.bool b8)), 
 (V.c (C.int IntKind.i64 (0 : Int)))] m10))))) → (R7 [(V.c (C.bool b8)), (V.c (C.int IntKind.i64 x9))] m10))))) → 
 (R7 [(V.c (C.bool false)), (V.c (C.int IntKind.i64 (0 : Int)))] m5)))))))))))))))) : Wc prog tbl 38 [(V.agg 5 [(C.int IntKind.i64 a100), (C.int IntKind.i64 a101), a102, (C.int IntKind.i64 a103), a104]), (V.c a200), (V.c (C.int IntKind.i64 a300))] m Q :=
 wc_eq (n := 3) rfl (by kernel_rfl) (by kernel_rfl) h
theorem w74 {a100 : Int} {a101 : Int} {a102 : C} {a200 : C} {m : M} {Q : V → M → Prop} (h :
 (∀ m0 : M, ((m0 = (M.new m (AO.cells 3 [(C.int IntKind.i64 a100), (C.int IntKind.i64 a101), a102] false))) → (∀ m1 : M, 
 ((m1 = (M.new m0 (AO.cells 9 [(C.int IntKind.i64 (0 : Int)), (C.int IntKind.i64 (0 : Int)), (C.int IntKind.i64 (0 : Int)), 
 (C.int IntKind.i64 (0 : Int)), (C.int IntKind.i64 (0 : Int)), (C.int IntKind.i64 (0 : Int)), (C.int IntKind.i64 (0 : Int)), 
 (C.int IntKind.i64 (0 : Int)), (C.int IntKind.i64 (0 : Int))] false))) → (isSl a200 ∧ (∃ x2 : Int, 
 (∃ x3 : Int, (∃ c4 : C, (((ldA m1 (C.ptr (m).nxt 0) 3) = (Option.some [(C.int IntKind.i64 x2), (C.int IntKind.i64 x3), 
 c4])) ∧ (Wc prog tbl 88 [(V.agg 3 [(C.int IntKind.i64 x2), (C.int IntKind.i64 x3), c4])] m1 (fun v5 m6 => 
 (∃ x7 : Int, ((v5 = (V.c (C.int IntKind.i64 x7))) ∧ (ifB (!decide ((((slLen a200) : Nat) : Int) = x7)) (∃ m8 : M, 
 (((stC m6 (C.ptr (m0).nxt 0) 9 [(C.int IntKind.i64 (0 : Int)), (C.int IntKind.i64 (0 : Int)), 
 (C.int IntKind.i64 (0 : Int)), (C.int IntKind.i64 (0 : Int)), (C.int IntKind.i64 (0 : Int)), 
 (C.int IntKind.i64 (0 : Int)), (C.int IntKind.i64 (0 : Int)), (C.int IntKind.i64 (0 : Int)), 
 (C.int IntKind.i64 (0 : Int))]) = (Option.some m8)) ∧ (∃ x9 : Int, (∃ x10 : Int, (∃ x11 : Int, 
 (∃ x12 : Int, (∃ x13 : Int, (∃ x14 : Int, (∃ x15 : Int, (∃ x16 : Int, (∃ x17 : Int, (((ldA m8 (C.ptr (m0).nxt 0) 9) = (Option.some [(C.int IntKind.i64 x9), 
 (C.int IntKind.i64 x10), (C.int IntKind.i64 x11), (C.int IntKind.i64 x12), (C.int IntKind.i64 x13), 
 (C.int IntKind.i64 x14), (C.int IntKind.i64 x15), (C.int IntKind.i64 x16), (C.int IntKind.i64 x17)])) ∧ 
 (Q (V.tup [(U.agg 9 [(C.int IntKind.i64 x9), (C.int IntKind.i64 x10), (C.int IntKind.i64 x11), 
 (C.int IntKind.i64 x12), (C.int IntKind.i64 x13), (C.int IntKind.i64 x14), (C.int IntKind.i64 x15), 
 (C.int IntKind.i64 x16), (C.int IntKind.i64 x17)]), (U.c (C.bool false))]) m8))))))))))))) (∀ m18 : M, 
 ((m18 = (M.new m6 (AO.cells 9 [(C.int IntKind.i64 (0 : Int)), (C.int IntKind.i64 (0 : Int)), 
 (C.int IntKind.i64 (0 : Int)), (C.int IntKind.i64 (0 : Int)), (C.int IntKind.i64 (0 : Int)), 
 (C.int IntKind.i64 (0 : Int)), (C.int IntKind.i64 (0 : Int)), (C.int IntKind.i64 (0 : Int)), 
 (C.int IntKind.i64 (0 : Int))] false))) → (isSl a200 ∧ (∀ R19 : List V → M → Prop, ((∀ b20 : Bool, 
 (∀ x21 : Int, (∀ m22 : M, ((ifB (decide (x21 < (((slLen a200) : Nat) : Int))) (∃ n23 : Nat, 
 ((x21 = ((n23 : Nat) : Int)) ∧ ((n23 < (slLen a200)) ∧ (∃ x24 : Int, (((ldC m22 (slAt a200 (n23 * 1))) = (Option.some (C.int IntKind.i64 x24))) ∧ 
 (ifB (decide (x24 < (0 : Int))) (∃ m25 : M, (((stC m22 (C.ptr (m0).nxt 0) 9 [(C.int IntKind.i64 (0 : Int)), 
 (C.int IntKind.i64 (0 : Int)), (C.int IntKind.i64 (0 : Int)), (C.int IntKind.i64 (0 : Int)), 
 (C.int IntKind.i64 (0 : Int)), (C.int IntKind.i64 (0 : Int)), (C.int IntKind.i64 (0 : Int)), 
 (C.int IntKind.i64 (0 : Int)), (C.int IntKind.i64 (0 : Int))]) = (Option.some m25)) ∧ 
 (∃ x26 : Int, (∃ x27 : Int, (∃ x28 : Int, (∃ x29 : Int, (∃ x30 : Int, (∃ x31 : Int, 
 (∃ x32 : Int, (∃ x33 : Int, (∃ x34 : Int, (((ldA m25 (C.ptr (m0).nxt 0) 9) = (Option.some [(C.int IntKind.i64 x26), 
 (C.int IntKind.i64 x27), (C.int IntKind.i64 x28), (C.int IntKind.i64 x29), (C.int IntKind.i64 x30), 
 (C.int IntKind.i64 x31), (C.int IntKind.i64 x32), (C.int IntKind.i64 x33), (C.int IntKind.i64 x34)])) ∧ 
 (Q (V.tup [(U.agg 9 [(C.int IntKind.i64 x26), (C.int IntKind.i64 x27), (C.int IntKind.i64 x28), 
 (C.int IntKind.i64 x29), (C.int IntKind.i64 x30), (C.int IntKind.i64 x31), (C.int IntKind.i64 x32), 
 (C.int IntKind.i64 x33), (C.int IntKind.i64 x34)]), (U.c (C.bool false))]) m25))))))))))))) (isPt (C.ptr (m).nxt 0) ∧ 
 (∃ c35 : C, (((ldC m22 (C.ptr (m).nxt 2)) = (Option.some c35)) ∧ (∃ n36 : Nat, 
 ((x21 = ((n36 : Nat) : Int)) ∧ ((n36 < (slLen c35)) ∧ (∃ x37 : Int, (((ldC m22 (slAt c35 (n36 * 1))) = (Option.some (C.int IntKind.i64 x37))) ∧ 
 (ifB (decide (x37 < x24)) (∃ m38 : M, (((stC m22 (C.ptr (m0).nxt 0) 9 [(C.int IntKind.i64 (0 : Int)), 
 (C.int IntKind.i64 (0 : Int)), (C.int IntKind.i64 (0 : Int)), (C.int IntKind.i64 (0 : Int)), 
 (C.int IntKind.i64 (0 : Int)), (C.int IntKind.i64 (0 : Int)), (C.int IntKind.i64 (0 : Int)), 
 (C.int IntKind.i64 (0 : Int)), (C.int IntKind.i64 (0 : Int))]) = (Option.some m38)) ∧ 
 (∃ x39 : Int, (∃ x40 : Int, (∃ x41 : Int, (∃ x42 : Int, (∃ x43 : Int, (∃ x44 : Int, 
 (∃ x45 : Int, (∃ x46 : Int, (∃ x47 : Int, (((ldA m38 (C.ptr (m0).nxt 0) 9) = (Option.some [(C.int IntKind.i64 x39), 
 (C.int IntKind.i64 x40), (C.int IntKind.i64 x41), (C.int IntKind.i64 x42), (C.int IntKind.i64 x43), 
 (C.int IntKind.i64 x44), (C.int IntKind.i64 x45), (C.int IntKind.i64 x46), (C.int IntKind.i64 x47)])) ∧ 
 (Q (V.tup [(U.agg 9 [(C.int IntKind.i64 x39), (C.int IntKind.i64 x40), (C.int IntKind.i64 x41), 
 (C.int IntKind.i64 x42), (C.int IntKind.i64 x43), (C.int IntKind.i64 x44), (C.int IntKind.i64 x45), 
 (C.int IntKind.i64 x46), (C.int IntKind.i64 x47)]), (U.c (C.bool false))]) m38))))))))))))) (isPt (C.ptr (m6).nxt 0) ∧ 
 (∃ n48 : Nat, ((x21 = ((n48 : Nat) : Int)) ∧ ((n48 < 9) ∧ (∃ m49 : M, (((stC m22 (C.ptr (m6).nxt (0 + (n48 * 1))) 1 [(C.int IntKind.i64 x24)]) = (Option.some m49)) ∧ 
 (fitsP IntKind.i64 (x21 + (1 : Int)) ∧ (R19 [(V.c (C.bool b20)), (V.c (C.int IntKind.i64 (x21 + (1 : Int))))] m49))))))))))))))))))))))) (∃ x50 : Int, 
 (∃ x51 : Int, (∃ x52 : Int, (∃ x53 : Int, (∃ x54 : Int, (∃ x55 : Int, (∃ x56 : Int, 
 (∃ x57 : Int, (∃ x58 : Int, (((ldA m22 (C.ptr (m6).nxt 0) 9) = (Option.some [(C.int IntKind.i64 x50), 
 (C.int IntKind.i64 x51), (C.int IntKind.i64 x52), (C.int IntKind.i64 x53), (C.int IntKind.i64 x54), 
 (C.int IntKind.i64 x55), (C.int IntKind.i64 x56), (C.int IntKind.i64 x57), (C.int IntKind.i64 x58)])) ∧ 
 (∃ m59 : M, (((stC m22 (C.ptr (m0).nxt 0) 9 [(C.int IntKind.i64 x50), (C.int IntKind.i64 x51), 
 (C.int IntKind.i64 x52), (C.int IntKind.i64 x53), (C.int IntKind.i64 x54), (C.int IntKind.i64 x55), 
 (C.int IntKind.i64 x56), (C.int IntKind.i64 x57), (C.int IntKind.i64 x58)]) = (Option.some m59)) ∧ 
 (∃ x60 : Int, (∃ x61 : Int, (∃ x62 : Int, (∃ x63 : Int, (∃ x64 : Int, (∃ x65 : Int, 
 (∃ x66 : Int, (∃ x67 : Int, (∃ x68 : Int, (((ldA m59 (C.ptr (m0).nxt 0) 9) = (Option.some [(C.int IntKind.i64 x60), 
 (C.int IntKind.i64 x61), (C.int IntKind.i64 x62), (C.int IntKind.i64 x63), (C.int IntKind.i64 x64), 
 (C.int IntKind.i64 x65), (C.int IntKind.i64 x66), (C.int IntKind.i64 x67), (C.int IntKind.i64 x68)])) ∧ 
 (Q (V.tup [(U.agg 9 [(C.int IntKind.i64 x60), (C.int IntKind.i64 x61), (C.int IntKind.i64 x62), 
 (C.int IntKind.i64 x63), (C.int IntKind.i64 x64), (C.int IntKind.i64 x65), (C.int IntKind.i64 x66), 
 (C.int IntKind.i64 x67), (C.int IntKind.i64 x68)]), (U.c (C.bool true))]) m59)))))))))))))))))))))))) → 
 (R19 [(V.c (C.bool b20)), (V.c (C.int IntKind.i64 x21))] m22))))) → (R19 [(V.c (C.bool false)), 
 (V.c (C.int IntKind.i64 (0 : Int)))] m18))))))))))))))))))))) : Wc prog tbl 74 [(V.agg 3 [(C.int IntKind.i64 a100), (C.int IntKind.i64 a101), a102]), (V.c a200)] m Q :=
 wc_eq (n := 2) rfl (by kernel_rfl) (by kernel_rfl) h
theorem w76 {a100 : Int} {a101 : Int} {a102 : C} {a103 : Int} {a104 : C} {m : M} {Q : V → M → Prop} (h :
 (∀ m0 : M, ((m0 = (M.new m (AO.cells 5 [(C.int IntKind.i64 a100), (C.int IntKind.i64 a101), a102, (C.int IntKind.i64 a103), 
 a104] false))) → (∀ m1 : M, ((m1 = (M.new m0 (AO.cells 6 [(C.int IntKind.i64 (0 : Int)), (C.int IntKind.i64 (0 : Int)), 
 C.sl0, (C.int IntKind.i64 (0 : Int)), C.sl0, C.map0] false))) → (∃ x2 : Int, (∃ x3 : Int, (∃ c4 : C, 
 (∃ x5 : Int, (∃ c6 : C, (((ldA m1 (C.ptr (m).nxt 0) 5) = (Option.some [(C.int IntKind.i64 x2), (C.int IntKind.i64 x3), 
 c4, (C.int IntKind.i64 x5), c6])) ∧ (∀ m7 : M, ((m7 = (M.new m1 (AO.map [] 0))) → (∀ m8 : M, ((m8 = (M.new m7 (AO.cells 6 [(C.int IntKind.i64 (0 : Int)), 
 (C.int IntKind.i64 (0 : Int)), C.sl0, (C.int IntKind.i64 (0 : Int)), C.sl0, C.map0] false))) → 
 (∃ m9 : M, (((stC m8 (C.ptr (m7).nxt 0) 6 [(C.int IntKind.i64 x2), (C.int IntKind.i64 x3), c4, 
 (C.int IntKind.i64 x5), c6, (C.map (m1).nxt)]) = (Option.some m9)) ∧ (isPt (C.ptr (m).nxt 0) ∧ 
 (∃ c10 : C, (((ldC m9 (C.ptr (m).nxt 4)) = (Option.some c10)) ∧ (isSl c10 ∧ (∀ R11 : List V → 
 M → Prop, ((∀ x12 : Int, (∀ m13 : M, ((ifB (decide (x12 < (((slLen c10) : Nat) : Int))) (∃ n14 : Nat, 
 ((x12 = ((n14 : Nat) : Int)) ∧ ((n14 < (slLen c10)) ∧ (∃ x15 : Int, (∃ x16 : Int, 
 (∃ x17 : Int, (∃ b18 : Bool, (((ldA m13 (slAt c10 (n14 * 4)) 4) = (Option.some [(C.int IntKind.i64 x15), 
 (C.int IntKind.i64 x16), (C.int IntKind.i64 x17), (C.bool b18)])) ∧ (∀ m19 : M, 
 ((m19 = (M.new m13 (AO.cells 4 [(C.int IntKind.i64 (0 : Int)), (C.int IntKind.i64 (0 : Int)), 
 (C.int IntKind.i64 (0 : Int)), (C.bool false)] false))) → (∃ m20 : M, (((stC m19 (C.ptr (m13).nxt 0) 4 [(C.int IntKind.i64 x15), 
 (C.int IntKind.i64 x16), (C.int IntKind.i64 x17), (C.bool b18)]) = (Option.some m20)) ∧ 
 (isPt (C.ptr (m).nxt 0) ∧ (isPt (C.ptr (m).nxt 0) ∧ (∃ c21 : C, (((ldC m20 (C.ptr (m).nxt 2)) = (Option.some c21)) ∧ 
 (isPt (C.ptr (m13).nxt 0) ∧ (∃ x22 : Int, (((ldC m20 (C.ptr (m13).nxt 0)) = (Option.some (C.int IntKind.i64 x22))) ∧ 
 (∃ n23 : Nat, ((x22 = ((n23 : Nat) : Int)) ∧ ((n23 < (slLen c21)) ∧ (∃ x24 : Int, 
 (((ldC m20 (slAt c21 (n23 * 1))) = (Option.some (C.int IntKind.i64 x24))) ∧ (fitsP IntKind.i64 (x24 + (1 : Int)) ∧ 
 (∀ R25 : List V → M → Prop, ((∀ x26 : Int, (∀ m27 : M, ((ifB (decide (x26 < (x24 + (1 : Int)))) (isPt (C.ptr (m13).nxt 0) ∧ 
 (∃ x28 : Int, (((ldC m27 (C.ptr (m13).nxt 0)) = (Option.some (C.int IntKind.i64 x28))) ∧ 
 (∀ m29 : M, ((m29 = (M.new m27 (AO.cells 2 [(C.int IntKind.i64 (0 : Int)), (C.int IntKind.i64 (0 : Int))] false))) → 
 (∃ m30 : M, (((stC m29 (C.ptr (m27).nxt 0) 2 [(C.int IntKind.i64 x28), (C.int IntKind.i64 x26)]) = (Option.some m30)) ∧ 
 (isPt (C.ptr (m7).nxt 0) ∧ (∃ c31 : C, (((ldC m30 (C.ptr (m7).nxt 5)) = (Option.some c31)) ∧ 
 (∃ x32 : Int, (∃ x33 : Int, (((ldA m30 (C.ptr (m27).nxt 0) 2) = (Option.some [(C.int IntKind.i64 x32), 
 (C.int IntKind.i64 x33)])) ∧ (∃ y34 : Option U, (((lkM prog 138 m30 c31 (V.agg 2 [(C.int IntKind.i64 x32), 
 (C.int IntKind.i64 x33)])) = (Option.some y34)) ∧ (((y34 = Option.none) → (∀ m35 : M, 
 ((m35 = (M.new m30 (AO.cells 6 [(C.bool false), (C.bool false), (C.bool false), 
 (C.bool false), (C.bool false), (C.bool false)] false))) → (∃ m36 : M, (((stC m35 (C.ptr (m30).nxt 0) 6 [(C.bool false), 
 (C.bool false), (C.bool false), (C.bool false), (C.bool false), (C.bool false)]) = (Option.some m36)) ∧ 
 (isPt (C.ptr (m13).nxt 0) ∧ (∃ b37 : Bool, (((ldC m36 (C.ptr (m13).nxt 3)) = (Option.some (C.bool b37))) ∧ 
 (ifB (!b37) (isPt (C.ptr (m13).nxt 0) ∧ (∃ x38 : Int, (∃ x39 : Int, (((ldA m36 (C.ptr (m13).nxt 1) 2) = (Option.some [(C.int IntKind.i64 x38), 
 (C.int IntKind.i64 x39)])) ∧ (Wc prog tbl 92 [(V.agg 2 [(C.int IntKind.i64 x38), 
 (C.int IntKind.i64 x39)]), (V.c (C.int IntKind.i64 x26))] m36 (fun v40 m41 => 
 (∃ b42 : Bool, ((v40 = (V.c (C.bool b42))) ∧ (isPt (C.ptr (m30).nxt 0) ∧ (∃ n43 : Nat, 
 ((x12 = ((n43 : Nat) : Int)) ∧ ((n43 < 6) ∧ (∃ m44 : M, (((stC m41 (C.ptr (m30).nxt (0 + (n43 * 1))) 1 [(C.bool (!b42))]) = (Option.some m44)) ∧ 
 (isPt (C.ptr (m7).nxt 0) ∧ (∃ c45 : C, (((ldC m44 (C.ptr (m7).nxt 5)) = (Option.some c45)) ∧ 
 (∃ x46 : Int, (∃ x47 : Int, (((ldA m44 (C.ptr (m27).nxt 0) 2) = (Option.some [(C.int IntKind.i64 x46), 
 (C.int IntKind.i64 x47)])) ∧ (∃ b48 : Bool, (∃ b49 : Bool, (∃ b50 : Bool, (∃ b51 : Bool, 
 (∃ b52 : Bool, (∃ b53 : Bool, (((ldA m44 (C.ptr (m30).nxt 0) 6) = (Option.some [(C.bool b48), 
 (C.bool b49), (C.bool b50), (C.bool b51), (C.bool b52), (C.bool b53)])) ∧ (∃ m54 : M, 
 (((upM prog 138 m44 c45 (V.agg 2 [(C.int IntKind.i64 x46), (C.int IntKind.i64 x47)]) (V.agg 6 [(C.bool b48), 
 (C.bool b49), (C.bool b50), (C.bool b51), (C.bool b52), (C.bool b53)])) = (Option.some m54)) ∧ 
 (fitsP IntKind.i64 (x26 + (1 : Int)) ∧ (R25 [(V.c (C.int IntKind.i64 (x26 + (1 : Int))))] m54))))))))))))))))))))))))))))))) (isPt (C.ptr (m30).nxt 0) ∧ 
 (∃ n55 : Nat, ((x12 = ((n55 : Nat) : Int)) ∧ ((n55 < 6) ∧ (∃ m56 : M, (((stC m36 (C.ptr (m30).nxt (0 + (n55 * 1))) 1 [(C.bool false)]) = (Option.some m56)) ∧ 
 (isPt (C.ptr (m7).nxt 0) ∧ (∃ c57 : C, (((ldC m56 (C.ptr (m7).nxt 5)) = (Option.some c57)) ∧ 
 (∃ x58 : Int, (∃ x59 : Int, (((ldA m56 (C.ptr (m27).nxt 0) 2) = (Option.some [(C.int IntKind.i64 x58), 
 (C.int IntKind.i64 x59)])) ∧ (∃ b60 : Bool, (∃ b61 : Bool, (∃ b62 : Bool, (∃ b63 : Bool, 
 (∃ b64 : Bool, (∃ b65 : Bool, (((ldA m56 (C.ptr (m30).nxt 0) 6) = (Option.some [(C.bool b60), 
 (C.bool b61), (C.bool b62), (C.bool b63), (C.bool b64), (C.bool b65)])) ∧ (∃ m66 : M, 
 (((upM prog 138 m56 c57 (V.agg 2 [(C.int IntKind.i64 x58), (C.int IntKind.i64 x59)]) (V.agg 6 [(C.bool b60), 
 (C.bool b61), (C.bool b62), (C.bool b63), (C.bool b64), (C.bool b65)])) = (Option.some m66)) ∧ 
 (fitsP IntKind.i64 (x26 + (1 : Int)) ∧ (R25 [(V.c (C.int IntKind.i64 (x26 + (1 : Int))))] m66)))))))))))))))))))))))))))))))) ∧ 
 (∀ u67 : U, ((y34 = (Option.some u67)) → (∃ b68 : Bool, (∃ b69 : Bool, (∃ b70 : Bool, 
 (∃ b71 : Bool, (∃ b72 : Bool, (∃ b73 : Bool, ((u67 = (U.agg 6 [(C.bool b68), 
 (C.bool b69), (C.bool b70), (C.bool b71), (C.bool b72), (C.bool b73)])) ∧ (∀ m74 : M, 
 ((m74 = (M.new m30 (AO.cells 6 [(C.bool false), (C.bool false), (C.bool false), 
 (C.bool false), (C.bool false), (C.bool false)] false))) → (∃ m75 : M, (((stC m74 (C.ptr (m30).nxt 0) 6 [(C.bool b68), 
 (C.bool b69), (C.bool b70), (C.bool b71), (C.bool b72), (C.bool b73)]) = (Option.some m75)) ∧ 
 (isPt (C.ptr (m13).nxt 0) ∧ (∃ b76 : Bool, (((ldC m75 (C.ptr (m13).nxt 3)) = (Option.some (C.bool b76))) ∧ 
 (ifB (!b76) (isPt (C.ptr (m13).nxt 0) ∧ (∃ x77 : Int, (∃ x78 : Int, (((ldA m75 (C.ptr (m13).nxt 1) 2) = (Option.some [(C.int IntKind.i64 x77), 
 (C.int IntKind.i64 x78)])) ∧ (Wc prog tbl 92 [(V.agg 2 [(C.int IntKind.i64 x77), 
 (C.int IntKind.i64 x78)]), (V.c (C.int IntKind.i64 x26))] m75 (fun v79 m80 => 
 (∃ b81 : Bool, ((v79 = (V.c (C.bool b81))) ∧ (isPt (C.ptr (m30).nxt 0) ∧ (∃ n82 : Nat, 
 ((x12 = ((n82 : Nat) : Int)) ∧ ((n82 < 6) ∧ (∃ m83 : M, (((stC m80 (C.ptr (m30).nxt (0 + (n82 * 1))) 1 [(C.bool (!b81))]) = (Option.some m83)) ∧ 
 (isPt (C.ptr (m7).nxt 0) ∧ (∃ c84 : C, (((ldC m83 (C.ptr (m7).nxt 5)) = (Option.some c84)) ∧ 
 (∃ x85 : Int, (∃ x86 : Int, (((ldA m83 (C.ptr (m27).nxt 0) 2) = (Option.some [(C.int IntKind.i64 x85), 
 (C.int IntKind.i64 x86)])) ∧ (∃ b87 : Bool, (∃ b88 : Bool, (∃ b89 : Bool, (∃ b90 : Bool, 
 (∃ b91 : Bool, (∃ b92 : Bool, (((ldA m83 (C.ptr (m30).nxt 0) 6) = (Option.some [(C.bool b87), 
 (C.bool b88), (C.bool b89), (C.bool b90), (C.bool b91), (C.bool b92)])) ∧ (∃ m93 : M, 
 (((upM prog 138 m83 c84 (V.agg 2 [(C.int IntKind.i64 x85), (C.int IntKind.i64 x86)]) (V.agg 6 [(C.bool b87), 
 (C.bool b88), (C.bool b89), (C.bool b90), (C.bool b91), (C.bool b92)])) = (Option.some m93)) ∧ 
 (fitsP IntKind.i64 (x26 + (1 : Int)) ∧ (R25 [(V.c (C.int IntKind.i64 (x26 + (1 : Int))))] m93))))))))))))))))))))))))))))))) (isPt (C.ptr (m30).nxt 0) ∧ 
 (∃ n94 : Nat, ((x12 = ((n94 : Nat) : Int)) ∧ ((n94 < 6) ∧ (∃ m95 : M, (((stC m75 (C.ptr (m30).nxt (0 + (n94 * 1))) 1 [(C.bool false)]) = (Option.some m95)) ∧ 
 (isPt (C.ptr (m7).nxt 0) ∧ (∃ c96 : C, (((ldC m95 (C.ptr (m7).nxt 5)) = (Option.some c96)) ∧ 
 (∃ x97 : Int, (∃ x98 : Int, (((ldA m95 (C.ptr (m27).nxt 0) 2) = (Option.some [(C.int IntKind.i64 x97), 
 (C.int IntKind.i64 x98)])) ∧ (∃ b99 : Bool, (∃ b100 : Bool, (∃ b101 : Bool, (∃ b102 : Bool, 
 (∃ b103 : Bool, (∃ b104 : Bool, (((ldA m95 (C.ptr (m30).nxt 0) 6) = (Option.some [(C.bool b99), 
 (C.bool b100), (C.bool b101), (C.bool b102), (C.bool b103), (C.bool b104)])) ∧ 
 (∃ m105 : M, (((upM prog 138 m95 c96 (V.agg 2 [(C.int IntKind.i64 x97), (C.int IntKind.i64 x98)]) (V.agg 6 [(C.bool b99), 
 (C.bool b100), (C.bool b101), (C.bool b102), (C.bool b103), (C.bool b104)])) = (Option.some m105)) ∧ 
 (fitsP IntKind.i64 (x26 + (1 : Int)) ∧ (R25 [(V.c (C.int IntKind.i64 (x26 + (1 : Int))))] m105)))))))))))))))))))))))))))))))))))))))))))))))))))))))) (fitsP IntKind.i64 (x12 + (1 : Int)) ∧ 
 (R11 [(V.c (C.int IntKind.i64 (x12 + (1 : Int))))] m27))) → (R25 [(V.c (C.int IntKind.i64 x26))] m27)))) → 
 (R25 [(V.c (C.int IntKind.i64 (0 : Int)))] m20)))))))))))))))))))))))))))) (∃ x106 : Int, 
 (∃ x107 : Int, (∃ c108 : C, (∃ x109 : Int, (∃ c110 : C, (∃ c111 : C, (((ldA m13 (C.ptr (m7).nxt 0) 6) = (Option.some [(C.int IntKind.i64 x106), 
 (C.int IntKind.i64 x107), c108, (C.int IntKind.i64 x109), c110, c111])) ∧ (∃ m112 : M, 
 (((stC m13 (C.ptr (m0).nxt 0) 6 [(C.int IntKind.i64 x106), (C.int IntKind.i64 x107), 
 c108, (C.int IntKind.i64 x109), c110, c111]) = (Option.some m112)) ∧ (∃ x113 : Int, 
 (∃ x114 : Int, (∃ c115 : C, (∃ x116 : Int, (∃ c117 : C, (∃ c118 : C, (((ldA m112 (C.ptr (m0).nxt 0) 6) = (Option.some [(C.int IntKind.i64 x113), 
 (C.int IntKind.i64 x114), c115, (C.int IntKind.i64 x116), c117, c118])) ∧ (Q (V.agg 6 [(C.int IntKind.i64 x113), 
 (C.int IntKind.i64 x114), c115, (C.int IntKind.i64 x116), c117, c118]) m112)))))))))))))))))) → 
 (R11 [(V.c (C.int IntKind.i64 x12))] m13)))) → (R11 [(V.c (C.int IntKind.i64 (0 : Int)))] m9)))))))))))))))))))))))) : Wc prog tbl 76 [(V.agg 5 [(C.int IntKind.i64 a100), (C.int IntKind.i64 a101), a102, (C.int IntKind.i64 a103), a104])] m Q :=
 wc_eq (n := 1) rfl (by kernel_rfl) (by kernel_rfl) h
theorem w78 {a100 : Int} {a101 : Int} {a102 : C} {a103 : Int} {a104 : C} {m : M} {Q : V → M → Prop} (h :
 (∀ m0 : M, ((m0 = (M.new m (AO.cells 5 [(C.int IntKind.i64 a100), (C.int IntKind.i64 a101), a102, (C.int IntKind.i64 a103), 
 a104] false))) → (isPt (C.ptr (m).nxt 0) ∧ (∃ c1 : C, (((ldC m0 (C.ptr (m).nxt 4)) = (Option.some c1)) ∧ 
 (isSl c1 ∧ (ifB (decide ((6 : Int) < (((slLen c1) : Nat) : Int))) (Q (V.c (C.int IntKind.i64 (3 : Int))) m0) (isPt (C.ptr (m).nxt 0) ∧ 
 (∃ x2 : Int, (∃ x3 : Int, (∃ c4 : C, (((ldA m0 (C.ptr (m).nxt 0) 3) = (Option.some [(C.int IntKind.i64 x2), 
 (C.int IntKind.i64 x3), c4])) ∧ (Wc prog tbl 26 [(V.agg 3 [(C.int IntKind.i64 x2), (C.int IntKind.i64 x3), 
 c4])] m0 (fun v5 m6 => (∃ b7 : Bool, ((v5 = (V.c (C.bool b7))) ∧ (ifB (!b7) (Q (V.c (C.int IntKind.i64 (1 : Int))) m6) (isPt (C.ptr (m).nxt 0) ∧ 
 (∃ x8 : Int, (((ldC m6 (C.ptr (m).nxt 3)) = (Option.some (C.int IntKind.i64 x8))) ∧ (Wc prog tbl 44 [(V.c (C.int IntKind.i64 x8)), 
 (V.c (C.int IntKind.i64 (0 : Int))), (V.c (C.int IntKind.i64 (9 : Int)))] m6 (fun v9 m10 => 
 (∃ b11 : Bool, ((v9 = (V.c (C.bool b11))) ∧ (ifB (!b11) (Q (V.c (C.int IntKind.i64 (1 : Int))) m10) (∀ R12 : List V → 
 M → Prop, ((∀ x13 : Int, (∀ x14 : Int, (∀ m15 : M, ((isPt (C.ptr (m).nxt 0) ∧ (∃ c16 : C, 
 (((ldC m15 (C.ptr (m).nxt 4)) = (Option.some c16)) ∧ (isSl c16 ∧ (ifB (decide (x14 < (((slLen c16) : Nat) : Int))) (isPt (C.ptr (m).nxt 0) ∧ 
 (∃ c17 : C, (((ldC m15 (C.ptr (m).nxt 4)) = (Option.some c17)) ∧ (∃ n18 : Nat, 
 ((x14 = ((n18 : Nat) : Int)) ∧ ((n18 < (slLen c17)) ∧ (∃ x19 : Int, (∃ x20 : Int, 
 (∃ x21 : Int, (∃ b22 : Bool, (((ldA m15 (slAt c17 (n18 * 4)) 4) = (Option.some [(C.int IntKind.i64 x19), 
 (C.int IntKind.i64 x20), (C.int IntKind.i64 x21), (C.bool b22)])) ∧ (∀ m23 : M, 
 ((m23 = (M.new m15 (AO.cells 4 [(C.int IntKind.i64 (0 : Int)), (C.int IntKind.i64 (0 : Int)), 
 (C.int IntKind.i64 (0 : Int)), (C.bool false)] false))) → (∃ m24 : M, (((stC m23 (C.ptr (m15).nxt 0) 4 [(C.int IntKind.i64 x19), 
 (C.int IntKind.i64 x20), (C.int IntKind.i64 x21), (C.bool b22)]) = (Option.some m24)) ∧ 
 (isPt (C.ptr (m15).nxt 0) ∧ (∃ x25 : Int, (((ldC m24 (C.ptr (m15).nxt 0)) = (Option.some (C.int IntKind.i64 x25))) ∧ 
 (isPt (C.ptr (m).nxt 0) ∧ (isPt (C.ptr (m).nxt 0) ∧ (∃ c26 : C, (((ldC m24 (C.ptr (m).nxt 2)) = (Option.some c26)) ∧ 
 (isSl c26 ∧ (fitsP IntKind.i64 ((((slLen c26) : Nat) : Int) - (1 : Int)) ∧ (Wc prog tbl 44 [(V.c (C.int IntKind.i64 x25)), 
 (V.c (C.int IntKind.i64 (0 : Int))), (V.c (C.int IntKind.i64 ((((slLen c26) : Nat) : Int) - (1 : Int))))] m24 (fun v27 m28 => 
 (∃ b29 : Bool, ((v27 = (V.c (C.bool b29))) ∧ (ifB (!b29) (Q (V.c (C.int IntKind.i64 (1 : Int))) m28) (isPt (C.ptr (m15).nxt 0) ∧ 
 (isPt (C.ptr (m15).nxt 1) ∧ (∃ x30 : Int, (((ldC m28 (C.ptr (m15).nxt 1)) = (Option.some (C.int IntKind.i64 x30))) ∧ 
 (isPt (C.ptr (m15).nxt 0) ∧ (isPt (C.ptr (m15).nxt 1) ∧ (∃ x31 : Int, (((ldC m28 (C.ptr (m15).nxt 2)) = (Option.some (C.int IntKind.i64 x31))) ∧ 
 (Wc prog tbl 44 [(V.c (C.int IntKind.i64 x30)), (V.c (C.int IntKind.i64 (0 : Int))), 
 (V.c (C.int IntKind.i64 x31))] m28 (fun v32 m33 => (∃ b34 : Bool, ((v32 = (V.c (C.bool b34))) ∧ 
 (ifB (!b34) (Q (V.c (C.int IntKind.i64 (1 : Int))) m33) (isPt (C.ptr (m15).nxt 0) ∧ 
 (isPt (C.ptr (m15).nxt 1) ∧ (∃ x35 : Int, (((ldC m33 (C.ptr (m15).nxt 2)) = (Option.some (C.int IntKind.i64 x35))) ∧ 
 (ifB (decide ((9 : Int) < x35)) (Q (V.c (C.int IntKind.i64 (1 : Int))) m33) (fitsP IntKind.i64 (x14 + (1 : Int)) ∧ 
 (R12 [(V.c (C.int IntKind.i64 x13)), (V.c (C.int IntKind.i64 (x14 + (1 : Int))))] m33))))))))))))))))))))))))))))))))))))))))))))))))) (isPt (C.ptr (m).nxt 0) ∧ 
 (∃ x36 : Int, (∃ x37 : Int, (∃ c38 : C, (((ldA m15 (C.ptr (m).nxt 0) 3) = (Option.some [(C.int IntKind.i64 x36), 
 (C.int IntKind.i64 x37), c38])) ∧ (Wc prog tbl 60 [(V.agg 3 [(C.int IntKind.i64 x36), 
 (C.int IntKind.i64 x37), c38])] m15 (fun v39 m40 => (∃ x41 : Int, ((v39 = (V.c (C.int IntKind.i64 x41))) ∧ 
 (ifB (decide ((2000 : Int) < x41)) (Q (V.c (C.int IntKind.i64 (3 : Int))) m40) (Q (V.c (C.int IntKind.i64 (0 : Int))) m40)))))))))))))))) → 
 (R12 [(V.c (C.int IntKind.i64 x13)), (V.c (C.int IntKind.i64 x14))] m15))))) → 
 (R12 [(V.c (C.int IntKind.i64 (0 : Int))), (V.c (C.int IntKind.i64 (0 : Int)))] m10))))))))))))))))))))))))))))) : Wc prog tbl 78 [(V.agg 5 [(C.int IntKind.i64 a100), (C.int IntKind.i64 a101), a102, (C.int IntKind.i64 a103), a104])] m Q :=
 wc_eq (n := 1) rfl (by kernel_rfl) (by kernel_rfl) h
theorem w80 {a100 : Int} {a101 : Int} {a102 : C} {m : M} {Q : V → M → Prop} (h :
 (∀ m0 : M, ((m0 = (M.new m (AO.cells 3 [(C.int IntKind.i64 a100), (C.int IntKind.i64 a101), a102] false))) → (isPt (C.ptr (m).nxt 0) ∧ 
 (∃ c1 : C, (((ldC m0 (C.ptr (m).nxt 2)) = (Option.some c1)) ∧ (isSl c1 ∧ (∀ R2 : List V → M → Prop, ((∀ x3 : Int, 
 (∀ x4 : Int, (∀ m5 : M, ((ifB (decide (x4 < (((slLen c1) : Nat) : Int))) (∃ n6 : Nat, ((x4 = ((n6 : Nat) : Int)) ∧ 
 ((n6 < (slLen c1)) ∧ (∃ x7 : Int, (((ldC m5 (slAt c1 (n6 * 1))) = (Option.some (C.int IntKind.i64 x7))) ∧ 
 (fitsP IntKind.i64 (x7 + (1 : Int)) ∧ (((0 : Int) ≤ x3) ∧ (((0 : Int) ≤ (x7 + (1 : Int))) ∧ 
 (fitsP IntKind.i64 (x3 * (x7 + (1 : Int))) ∧ (fitsP IntKind.i64 (x4 + (1 : Int)) ∧ (R2 [(V.c (C.int IntKind.i64 (x3 * (x7 + (1 : Int))))), 
 (V.c (C.int IntKind.i64 (x4 + (1 : Int))))] m5))))))))))) (Q (V.c (C.int IntKind.i64 x3)) m5)) → 
 (R2 [(V.c (C.int IntKind.i64 x3)), (V.c (C.int IntKind.i64 x4))] m5))))) → (R2 [(V.c (C.int IntKind.i64 (1 : Int))), 
 (V.c (C.int IntKind.i64 (0 : Int)))] m0)))))))))) : Wc prog tbl 80 [(V.agg 3 [(C.int IntKind.i64 a100), (C.int IntKind.i64 a101), a102])] m Q :=
 wc_eq (n := 1) rfl (by kernel_rfl) (by kernel_rfl) h
theorem w96 {a100 : C} {m : M} {Q : V → M → Prop} (h :
 (isSl a100 ∧ (∀ R0 : List V → M → Prop, ((∀ x1 : Int, (∀ x2 : Int, (∀ m3 : M, ((ifB (decide (x2 < (((slLen a100) : Nat) : Int))) (∃ n4 : Nat, 
 ((x2 = ((n4 : Nat) : Int)) ∧ ((n4 < (slLen a100)) ∧ (∃ x5 : Int, (((ldC m3 (slAt a100 (n4 * 1))) = (Option.some (C.int IntKind.i64 x5))) ∧ 
 (fitsP IntKind.i64 (x1 + x5) ∧ (fitsP IntKind.i64 (x2 + (1 : Int)) ∧ (R0 [(V.c (C.int IntKind.i64 (x1 + x5))), 
 (V.c (C.int IntKind.i64 (x2 + (1 : Int))))] m3)))))))) (Q (V.c (C.int IntKind.i64 x1)) m3)) → 
 (R0 [(V.c (C.int IntKind.i64 x1)), (V.c (C.int IntKind.i64 x2))] m3))))) → (R0 [(V.c (C.int IntKind.i64 (0 : Int))), 
 (V.c (C.int IntKind.i64 (0 : Int)))] m))))) : Wc prog tbl 96 [(V.c a100)] m Q :=
 wc_eq (n := 1) rfl (by kernel_rfl) (by kernel_rfl) h
theorem w98 {a100 : C} {a200 : C} {m : M} {Q : V → M → Prop} (h :
 (∀ m0 : M, ((m0 = (M.new m (AO.cells 1 [a200] false))) → (Wc prog tbl 114 [(V.c a100), (V.c (C.fn (Fn.func 115) [] [(W.c (C0.ptr (m).nxt 0))]))] m0 (fun v1 m2 => 
 (∃ b3 : Bool, ((v1 = (V.c (C.bool b3))) ∧ (Q (V.c (C.bool (!b3))) m2)))))))) : Wc prog tbl 98 [(V.c a100), (V.c a200)] m Q :=
 wc_eq (n := 2) rfl (by kernel_rfl) (by kernel_rfl) h
theorem w112 {a100 : Int} {a101 : Int} {a102 : C} {a103 : Int} {a104 : C} {a200 : Int} {a201 : Int} {a202 : Int} {a203 : Int} {a204 : Int} {a205 : Int} {a206 : Int} {a207 : Int} {a208 : Int} {a300 : Int} {m : M} {Q : V → M → Prop} (h :
 (∀ m0 : M, ((m0 = (M.new m (AO.cells 5 [(C.int IntKind.i64 a100), (C.int IntKind.i64 a101), a102, (C.int IntKind.i64 a103), 
 a104] false))) → (∀ m1 : M, ((m1 = (M.new m0 (AO.cells 9 [(C.int IntKind.i64 a200), (C.int IntKind.i64 a201), 
 (C.int IntKind.i64 a202), (C.int IntKind.i64 a203), (C.int IntKind.i64 a204), (C.int IntKind.i64 a205), 
 (C.int IntKind.i64 a206), (C.int IntKind.i64 a207), (C.int IntKind.i64 a208)] false))) → (fitsP IntKind.i64 (a300 - (1 : Int)) ∧ 
 (isPt (C.ptr (m).nxt 0) ∧ (isPt (C.ptr (m).nxt 0) ∧ (∃ x2 : Int, (((ldC m1 (C.ptr (m).nxt 1)) = (Option.some (C.int IntKind.i64 x2))) ∧ 
 (fitsP IntKind.i64 (a300 - x2) ∧ (isPt (C.ptr (m).nxt 0) ∧ (isPt (C.ptr (m).nxt 0) ∧ (∃ x3 : Int, 
 (((ldC m1 (C.ptr (m).nxt 1)) = (Option.some (C.int IntKind.i64 x3))) ∧ (((0 : Int) ≤ a300) ∧ (((0 : Int) < x3) ∧ 
 (fitsP IntKind.i64 (a300 % x3) ∧ (ifB (decide ((0 : Int) < (a300 % x3))) (∃ x4 : Int, (∃ x5 : Int, 
 (∃ c6 : C, (∃ x7 : Int, (∃ c8 : C, (((ldA m1 (C.ptr (m).nxt 0) 5) = (Option.some [(C.int IntKind.i64 x4), 
 (C.int IntKind.i64 x5), c6, (C.int IntKind.i64 x7), c8])) ∧ (isPt (C.ptr (m0).nxt 0) ∧ 
 (∃ n9 : Nat, ((a300 = ((n9 : Nat) : Int)) ∧ ((n9 < 9) ∧ (∃ x10 : Int, (((ldC m1 (C.ptr (m0).nxt (0 + (n9 * 1)))) = (Option.some (C.int IntKind.i64 x10))) ∧ 
 (isPt (C.ptr (m0).nxt 0) ∧ (∃ n11 : Nat, (((a300 - (1 : Int)) = ((n11 : Nat) : Int)) ∧ 
 ((n11 < 9) ∧ (∃ x12 : Int, (((ldC m1 (C.ptr (m0).nxt (0 + (n11 * 1)))) = (Option.some (C.int IntKind.i64 x12))) ∧ 
 (Wc prog tbl 123 [(V.agg 5 [(C.int IntKind.i64 x4), (C.int IntKind.i64 x5), c6, 
 (C.int IntKind.i64 x7), c8]), (V.c (C.int IntKind.i64 x10)), (V.c (C.int IntKind.i64 x12))] m1 (fun v13 m14 => 
 (∃ b15 : Bool, ((v13 = (V.c (C.bool b15))) ∧ (ifB b15 (Q (V.c (C.bool true)) m14) (ifB (decide ((0 : Int) ≤ (a300 - x2))) (∃ x16 : Int, 
 (∃ x17 : Int, (∃ c18 : C, (∃ x19 : Int, (∃ c20 : C, (((ldA m14 (C.ptr (m).nxt 0) 5) = (Option.some [(C.int IntKind.i64 x16), 
 (C.int IntKind.i64 x17), c18, (C.int IntKind.i64 x19), c20])) ∧ (isPt (C.ptr (m0).nxt 0) ∧ 
 (∃ n21 : Nat, ((a300 = ((n21 : Nat) : Int)) ∧ ((n21 < 9) ∧ (∃ x22 : Int, (((ldC m14 (C.ptr (m0).nxt (0 + (n21 * 1)))) = (Option.some (C.int IntKind.i64 x22))) ∧ 
 (isPt (C.ptr (m0).nxt 0) ∧ (∃ n23 : Nat, (((a300 - x2) = ((n23 : Nat) : Int)) ∧ 
 ((n23 < 9) ∧ (∃ x24 : Int, (((ldC m14 (C.ptr (m0).nxt (0 + (n23 * 1)))) = (Option.some (C.int IntKind.i64 x24))) ∧ 
 (Wc prog tbl 123 [(V.agg 5 [(C.int IntKind.i64 x16), (C.int IntKind.i64 x17), 
 c18, (C.int IntKind.i64 x19), c20]), (V.c (C.int IntKind.i64 x22)), (V.c (C.int IntKind.i64 x24))] m14 (fun v25 m26 => 
 (∃ b27 : Bool, ((v25 = (V.c (C.bool b27))) ∧ (Q (V.c (C.bool b27)) m26))))))))))))))))))))))) (Q (V.c (C.bool false)) m14))))))))))))))))))))))))) (ifB (decide ((0 : Int) ≤ (a300 - x2))) (∃ x28 : Int, 
 (∃ x29 : Int, (∃ c30 : C, (∃ x31 : Int, (∃ c32 : C, (((ldA m1 (C.ptr (m).nxt 0) 5) = (Option.some [(C.int IntKind.i64 x28), 
 (C.int IntKind.i64 x29), c30, (C.int IntKind.i64 x31), c32])) ∧ (isPt (C.ptr (m0).nxt 0) ∧ 
 (∃ n33 : Nat, ((a300 = ((n33 : Nat) : Int)) ∧ ((n33 < 9) ∧ (∃ x34 : Int, (((ldC m1 (C.ptr (m0).nxt (0 + (n33 * 1)))) = (Option.some (C.int IntKind.i64 x34))) ∧ 
 (isPt (C.ptr (m0).nxt 0) ∧ (∃ n35 : Nat, (((a300 - x2) = ((n35 : Nat) : Int)) ∧ 
 ((n35 < 9) ∧ (∃ x36 : Int, (((ldC m1 (C.ptr (m0).nxt (0 + (n35 * 1)))) = (Option.some (C.int IntKind.i64 x36))) ∧ 
 (Wc prog tbl 123 [(V.agg 5 [(C.int IntKind.i64 x28), (C.int IntKind.i64 x29), 
 c30, (C.int IntKind.i64 x31), c32]), (V.c (C.int IntKind.i64 x34)), (V.c (C.int IntKind.i64 x36))] m1 (fun v37 m38 => 
 (∃ b39 : Bool, ((v37 = (V.c (C.bool b39))) ∧ (Q (V.c (C.bool b39)) m38))))))))))))))))))))))) (Q (V.c (C.bool false)) m1))))))))))))))))))))) : Wc prog tbl 112 [(V.agg 5 [(C.int IntKind.i64 a100), (C.int IntKind.i64 a101), a102, (C.int IntKind.i64 a103), a104]), (V.agg 9 [(C.int IntKind.i64 a200), (C.int IntKind.i64 a201), (C.int IntKind.i64 a202), (C.int IntKind.i64 a203), (C.int IntKind.i64 a204), (C.int IntKind.i64 a205), (C.int IntKind.i64 a206), (C.int IntKind.i64 a207), (C.int IntKind.i64 a208)]), (V.c (C.int IntKind.i64 a300))] m Q :=
 wc_eq (n := 3) rfl (by kernel_rfl) (by kernel_rfl) h
theorem w114 {a100 : C} {a200 : C} {m : M} {Q : V → M → Prop} (h :
 (Wc prog tbl 124 [(V.c a100), (V.c a200)] m (fun v0 m1 => (∃ x2 : Int, ((v0 = (V.c (C.int IntKind.i64 x2))) ∧ (Q (V.c (C.bool (decide ((0 : Int) ≤ x2)))) m1)))))) : Wc prog tbl 114 [(V.c a100), (V.c a200)] m Q :=
 wc_eq (n := 2) rfl (by kernel_rfl) (by kernel_rfl) h
theorem w124 {a100 : C} {a200 : C} {m : M} {Q : V → M → Prop} (h :
 (isSl a100 ∧ (∀ R0 : List V → M → Prop, ((∀ x1 : Int, (∀ x2 : Int, (∀ m3 : M, ((ifB (decide (x2 < (((slLen a100) : Nat) : Int))) (∃ n4 : Nat, 
 ((x2 = ((n4 : Nat) : Int)) ∧ ((n4 < (slLen a100)) ∧ (∃ x5 : Int, (∃ x6 : Int, (∃ x7 : Int, (∃ b8 : Bool, 
 (((ldA m3 (slAt a100 (n4 * 4)) 4) = (Option.some [(C.int IntKind.i64 x5), (C.int IntKind.i64 x6), 
 (C.int IntKind.i64 x7), (C.bool b8)])) ∧ (callP prog tbl [(V.agg 4 [(C.int IntKind.i64 x5), 
 (C.int IntKind.i64 x6), (C.int IntKind.i64 x7), (C.bool b8)])] a200 m3 (fun v9 m10 => (∃ b11 : Bool, 
 ((v9 = (V.c (C.bool b11))) ∧ (ifB b11 (Q (V.c (C.int IntKind.i64 x2)) m10) (fitsP IntKind.i64 (x2 + (1 : Int)) ∧ 
 (R0 [(V.c (C.int IntKind.i64 x1)), (V.c (C.int IntKind.i64 (x2 + (1 : Int))))] m10))))))))))))))) (Q (V.c (C.int IntKind.i64 (-1 : Int))) m3)) → 
 (R0 [(V.c (C.int IntKind.i64 x1)), (V.c (C.int IntKind.i64 x2))] m3))))) → (R0 [(V.c (C.int IntKind.i64 (0 : Int))), 
 (V.c (C.int IntKind.i64 (0 : Int)))] m))))) : Wc prog tbl 124 [(V.c a100), (V.c a200)] m Q :=
 wc_eq (n := 2) rfl (by kernel_rfl) (by kernel_rfl) h
end
end Go.Proofs.Ytgkjfhkjgdiodaa

namespace Go.Proofs.Ytgkjfhkjgdiodaa
open _root_.Go.Proofs.Try
open Go.Abs
set_option maxRecDepth 100000
noncomputable section
theorem w32 {a100 : Int} {a101 : Int} {a102 : C} {a103 : Int} {a104 : C} {a200 : C} {m : M} {Q : V → M → Prop} (h :
 (∀ m0 : M, ((m0 = (M.new m (AO.cells 5 [(C.int IntKind.i64 a100), (C.int IntKind.i64 a101), a102, (C.int IntKind.i64 a103), 
 a104] false))) → (∃ x1 : Int, (∃ x2 : Int, (∃ c3 : C, (∃ x4 : Int, (∃ c5 : C, (((ldA m0 (C.ptr (m).nxt 0) 5) = (Option.some [(C.int IntKind.i64 x1), 
 (C.int IntKind.i64 x2), c3, (C.int IntKind.i64 x4), c5])) ∧ (Wc prog tbl 37 [(V.agg 5 [(C.int IntKind.i64 x1), 
 (C.int IntKind.i64 x2), c3, (C.int IntKind.i64 x4), c5])] m0 (fun v6 m7 => (∃ x8 : Int, ((v6 = (V.c (C.int IntKind.i64 x8))) ∧ 
 (ifB (!decide (x8 = (0 : Int))) (Q (V.tup [(U.c (C.int IntKind.i64 (0 : Int))), (U.c (C.int IntKind.i64 x8))]) m7) (isPt (C.ptr (m).nxt 0) ∧ 
 (∃ x9 : Int, (∃ x10 : Int, (∃ c11 : C, (((ldA m7 (C.ptr (m).nxt 0) 3) = (Option.some [(C.int IntKind.i64 x9), 
 (C.int IntKind.i64 x10), c11])) ∧ (Wc prog tbl 74 [(V.agg 3 [(C.int IntKind.i64 x9), (C.int IntKind.i64 x10), 
 c11]), (V.c a200)] m7 (fun v12 m13 => (∃ x14 : Int, (∃ x15 : Int, (∃ x16 : Int, (∃ x17 : Int, 
 (∃ x18 : Int, (∃ x19 : Int, (∃ x20 : Int, (∃ x21 : Int, (∃ x22 : Int, (∃ b23 : Bool, 
 ((v12 = (V.tup [(U.agg 9 [(C.int IntKind.i64 x14), (C.int IntKind.i64 x15), (C.int IntKind.i64 x16), 
 (C.int IntKind.i64 x17), (C.int IntKind.i64 x18), (C.int IntKind.i64 x19), (C.int IntKind.i64 x20), 
 (C.int IntKind.i64 x21), (C.int IntKind.i64 x22)]), (U.c (C.bool b23))])) ∧ (∀ m24 : M, 
 ((m24 = (M.new m13 (AO.cells 9 [(C.int IntKind.i64 (0 : Int)), (C.int IntKind.i64 (0 : Int)), 
 (C.int IntKind.i64 (0 : Int)), (C.int IntKind.i64 (0 : Int)), (C.int IntKind.i64 (0 : Int)), 
 (C.int IntKind.i64 (0 : Int)), (C.int IntKind.i64 (0 : Int)), (C.int IntKind.i64 (0 : Int)), 
 (C.int IntKind.i64 (0 : Int))] false))) → (∃ m25 : M, (((stC m24 (C.ptr (m13).nxt 0) 9 [(C.int IntKind.i64 x14), 
 (C.int IntKind.i64 x15), (C.int IntKind.i64 x16), (C.int IntKind.i64 x17), (C.int IntKind.i64 x18), 
 (C.int IntKind.i64 x19), (C.int IntKind.i64 x20), (C.int IntKind.i64 x21), (C.int IntKind.i64 x22)]) = (Option.some m25)) ∧ 
 (ifB (!b23) (Q (V.tup [(U.c (C.int IntKind.i64 (0 : Int))), (U.c (C.int IntKind.i64 (2 : Int)))]) m25) (∃ x26 : Int, 
 (∃ x27 : Int, (∃ c28 : C, (∃ x29 : Int, (∃ c30 : C, (((ldA m25 (C.ptr (m).nxt 0) 5) = (Option.some [(C.int IntKind.i64 x26), 
 (C.int IntKind.i64 x27), c28, (C.int IntKind.i64 x29), c30])) ∧ (∃ x31 : Int, 
 (∃ x32 : Int, (∃ x33 : Int, (∃ x34 : Int, (∃ x35 : Int, (∃ x36 : Int, (∃ x37 : Int, 
 (∃ x38 : Int, (∃ x39 : Int, (((ldA m25 (C.ptr (m13).nxt 0) 9) = (Option.some [(C.int IntKind.i64 x31), 
 (C.int IntKind.i64 x32), (C.int IntKind.i64 x33), (C.int IntKind.i64 x34), (C.int IntKind.i64 x35), 
 (C.int IntKind.i64 x36), (C.int IntKind.i64 x37), (C.int IntKind.i64 x38), (C.int IntKind.i64 x39)])) ∧ 
 (Wc prog tbl 75 [(V.agg 5 [(C.int IntKind.i64 x26), (C.int IntKind.i64 x27), 
 c28, (C.int IntKind.i64 x29), c30]), (V.agg 9 [(C.int IntKind.i64 x31), (C.int IntKind.i64 x32), 
 (C.int IntKind.i64 x33), (C.int IntKind.i64 x34), (C.int IntKind.i64 x35), (C.int IntKind.i64 x36), 
 (C.int IntKind.i64 x37), (C.int IntKind.i64 x38), (C.int IntKind.i64 x39)])] m25 (fun v40 m41 => 
 (∃ x42 : Int, ((v40 = (V.c (C.int IntKind.i64 x42))) ∧ (Q (V.tup [(U.c (C.int IntKind.i64 x42)), 
 (U.c (C.int IntKind.i64 (0 : Int)))]) m41)))))))))))))))))))))))))))))))))))))))))))))))))))))))))) : Wc prog tbl 32 [(V.agg 5 [(C.int IntKind.i64 a100), (C.int IntKind.i64 a101), a102, (C.int IntKind.i64 a103), a104]), (V.c a200)] m Q :=
 wc_eq (n := 2) rfl (by kernel_rfl) (by kernel_rfl) h
theorem w35 {a100 : Int} {a101 : Int} {a102 : C} {a103 : Int} {a104 : C} {a200 : C} {m : M} {Q : V → M → Prop} (h :
 (∀ m0 : M, ((m0 = (M.new m (AO.cells 5 [(C.int IntKind.i64 a100), (C.int IntKind.i64 a101), a102, (C.int IntKind.i64 a103), 
 a104] false))) → (∃ x1 : Int, (∃ x2 : Int, (∃ c3 : C, (∃ x4 : Int, (∃ c5 : C, (((ldA m0 (C.ptr (m).nxt 0) 5) = (Option.some [(C.int IntKind.i64 x1), 
 (C.int IntKind.i64 x2), c3, (C.int IntKind.i64 x4), c5])) ∧ (Wc prog tbl 37 [(V.agg 5 [(C.int IntKind.i64 x1), 
 (C.int IntKind.i64 x2), c3, (C.int IntKind.i64 x4), c5])] m0 (fun v6 m7 => (∃ x8 : Int, ((v6 = (V.c (C.int IntKind.i64 x8))) ∧ 
 (ifB (!decide (x8 = (0 : Int))) (Q (V.c (C.bool false)) m7) (isPt (C.ptr (m).nxt 0) ∧ (∃ x9 : Int, 
 (∃ x10 : Int, (∃ c11 : C, (((ldA m7 (C.ptr (m).nxt 0) 3) = (Option.some [(C.int IntKind.i64 x9), 
 (C.int IntKind.i64 x10), c11])) ∧ (Wc prog tbl 74 [(V.agg 3 [(C.int IntKind.i64 x9), (C.int IntKind.i64 x10), 
 c11]), (V.c a200)] m7 (fun v12 m13 => (∃ x14 : Int, (∃ x15 : Int, (∃ x16 : Int, (∃ x17 : Int, 
 (∃ x18 : Int, (∃ x19 : Int, (∃ x20 : Int, (∃ x21 : Int, (∃ x22 : Int, (∃ b23 : Bool, 
 ((v12 = (V.tup [(U.agg 9 [(C.int IntKind.i64 x14), (C.int IntKind.i64 x15), (C.int IntKind.i64 x16), 
 (C.int IntKind.i64 x17), (C.int IntKind.i64 x18), (C.int IntKind.i64 x19), (C.int IntKind.i64 x20), 
 (C.int IntKind.i64 x21), (C.int IntKind.i64 x22)]), (U.c (C.bool b23))])) ∧ (∀ m24 : M, 
 ((m24 = (M.new m13 (AO.cells 9 [(C.int IntKind.i64 (0 : Int)), (C.int IntKind.i64 (0 : Int)), 
 (C.int IntKind.i64 (0 : Int)), (C.int IntKind.i64 (0 : Int)), (C.int IntKind.i64 (0 : Int)), 
 (C.int IntKind.i64 (0 : Int)), (C.int IntKind.i64 (0 : Int)), (C.int IntKind.i64 (0 : Int)), 
 (C.int IntKind.i64 (0 : Int))] false))) → (∃ m25 : M, (((stC m24 (C.ptr (m13).nxt 0) 9 [(C.int IntKind.i64 x14), 
 (C.int IntKind.i64 x15), (C.int IntKind.i64 x16), (C.int IntKind.i64 x17), (C.int IntKind.i64 x18), 
 (C.int IntKind.i64 x19), (C.int IntKind.i64 x20), (C.int IntKind.i64 x21), (C.int IntKind.i64 x22)]) = (Option.some m25)) ∧ 
 (ifB b23 (∃ x26 : Int, (∃ x27 : Int, (∃ c28 : C, (∃ x29 : Int, (∃ c30 : C, (((ldA m25 (C.ptr (m).nxt 0) 5) = (Option.some [(C.int IntKind.i64 x26), 
 (C.int IntKind.i64 x27), c28, (C.int IntKind.i64 x29), c30])) ∧ (Wc prog tbl 76 [(V.agg 5 [(C.int IntKind.i64 x26), 
 (C.int IntKind.i64 x27), c28, (C.int IntKind.i64 x29), c30])] m25 (fun v31 m32 => 
 (∃ x33 : Int, (∃ x34 : Int, (∃ c35 : C, (∃ x36 : Int, (∃ c37 : C, (∃ c38 : C, 
 ((v31 = (V.agg 6 [(C.int IntKind.i64 x33), (C.int IntKind.i64 x34), c35, (C.int IntKind.i64 x36), 
 c37, c38])) ∧ (∃ x39 : Int, (∃ x40 : Int, (∃ x41 : Int, (∃ x42 : Int, (∃ x43 : Int, 
 (∃ x44 : Int, (∃ x45 : Int, (∃ x46 : Int, (∃ x47 : Int, (((ldA m32 (C.ptr (m13).nxt 0) 9) = (Option.some [(C.int IntKind.i64 x39), 
 (C.int IntKind.i64 x40), (C.int IntKind.i64 x41), (C.int IntKind.i64 x42), (C.int IntKind.i64 x43), 
 (C.int IntKind.i64 x44), (C.int IntKind.i64 x45), (C.int IntKind.i64 x46), (C.int IntKind.i64 x47)])) ∧ 
 (((ldA m25 (C.ptr (m13).nxt 0) 9) = (Option.some [(C.int IntKind.i64 x39), (C.int IntKind.i64 x40), 
 (C.int IntKind.i64 x41), (C.int IntKind.i64 x42), (C.int IntKind.i64 x43), (C.int IntKind.i64 x44), 
 (C.int IntKind.i64 x45), (C.int IntKind.i64 x46), (C.int IntKind.i64 x47)])) ∧ 
 (Wc prog tbl 77 [(V.agg 6 [(C.int IntKind.i64 x33), (C.int IntKind.i64 x34), 
 c35, (C.int IntKind.i64 x36), c37, c38]), (V.agg 9 [(C.int IntKind.i64 x39), 
 (C.int IntKind.i64 x40), (C.int IntKind.i64 x41), (C.int IntKind.i64 x42), (C.int IntKind.i64 x43), 
 (C.int IntKind.i64 x44), (C.int IntKind.i64 x45), (C.int IntKind.i64 x46), (C.int IntKind.i64 x47)])] m32 (fun v48 m49 => 
 (∃ b50 : Bool, ((v48 = (V.c (C.bool b50))) ∧ (Q (V.c (C.bool b50)) m49))))))))))))))))))))))))))))))) (Q (V.c (C.bool false)) m25)))))))))))))))))))))))))))))))))))))) : Wc prog tbl 35 [(V.agg 5 [(C.int IntKind.i64 a100), (C.int IntKind.i64 a101), a102, (C.int IntKind.i64 a103), a104]), (V.c a200)] m Q :=
 wc_eq (n := 2) rfl (by kernel_rfl) (by kernel_rfl) h
theorem w37 {a100 : Int} {a101 : Int} {a102 : C} {a103 : Int} {a104 : C} {m : M} {Q : V → M → Prop} (h :
 (∀ m0 : M, ((m0 = (M.new m (AO.cells 5 [(C.int IntKind.i64 a100), (C.int IntKind.i64 a101), a102, (C.int IntKind.i64 a103), 
 a104] false))) → (isPt (C.ptr (m).nxt 0) ∧ (∃ c1 : C, (((ldC m0 (C.ptr (m).nxt 4)) = (Option.some c1)) ∧ 
 (isSl c1 ∧ (ifB (decide ((6 : Int) < (((slLen c1) : Nat) : Int))) (Q (V.c (C.int IntKind.i64 (3 : Int))) m0) (∃ x2 : Int, 
 (∃ x3 : Int, (∃ c4 : C, (∃ x5 : Int, (∃ c6 : C, (((ldA m0 (C.ptr (m).nxt 0) 5) = (Option.some [(C.int IntKind.i64 x2), 
 (C.int IntKind.i64 x3), c4, (C.int IntKind.i64 x5), c6])) ∧ (Wc prog tbl 79 [(V.agg 5 [(C.int IntKind.i64 x2), 
 (C.int IntKind.i64 x3), c4, (C.int IntKind.i64 x5), c6])] m0 (fun v7 m8 => (∃ b9 : Bool, ((v7 = (V.c (C.bool b9))) ∧ 
 (ifB (!b9) (Q (V.c (C.int IntKind.i64 (1 : Int))) m8) (isPt (C.ptr (m).nxt 0) ∧ (∃ x10 : Int, 
 (∃ x11 : Int, (∃ c12 : C, (((ldA m8 (C.ptr (m).nxt 0) 3) = (Option.some [(C.int IntKind.i64 x10), 
 (C.int IntKind.i64 x11), c12])) ∧ (Wc prog tbl 80 [(V.agg 3 [(C.int IntKind.i64 x10), 
 (C.int IntKind.i64 x11), c12])] m8 (fun v13 m14 => (∃ x15 : Int, ((v13 = (V.c (C.int IntKind.i64 x15))) ∧ 
 (ifB (decide ((2000 : Int) < x15)) (Q (V.c (C.int IntKind.i64 (3 : Int))) m14) (Q (V.c (C.int IntKind.i64 (0 : Int))) m14)))))))))))))))))))))))))))))) : Wc prog tbl 37 [(V.agg 5 [(C.int IntKind.i64 a100), (C.int IntKind.i64 a101), a102, (C.int IntKind.i64 a103), a104])] m Q :=
 wc_eq (n := 1) rfl (by kernel_rfl) (by kernel_rfl) h
theorem w39 {a100 : Int} {a101 : Int} {a102 : C} {a200 : C} {m : M} {Q : V → M → Prop} (h :
 (∀ m0 : M, ((m0 = (M.new m (AO.cells 3 [(C.int IntKind.i64 a100), (C.int IntKind.i64 a101), a102] false))) → (isSl a200 ∧ 
 (isPt (C.ptr (m).nxt 0) ∧ (∃ c1 : C, (((ldC m0 (C.ptr (m).nxt 2)) = (Option.some c1)) ∧ (isSl c1 ∧ (ifB (!decide ((((slLen a200) : Nat) : Int) = (((slLen c1) : Nat) : Int))) (Q (V.c (C.bool false)) m0) (∀ R2 : List V → 
 M → Prop, ((∀ b3 : Bool, (∀ x4 : Int, (∀ m5 : M, ((isSl a200 ∧ (ifB (decide (x4 < (((slLen a200) : Nat) : Int))) (∃ n6 : Nat, 
 ((x4 = ((n6 : Nat) : Int)) ∧ ((n6 < (slLen a200)) ∧ (∃ x7 : Int, (((ldC m5 (slAt a200 (n6 * 1))) = (Option.some (C.int IntKind.i64 x7))) ∧ 
 (isPt (C.ptr (m).nxt 0) ∧ (∃ c8 : C, (((ldC m5 (C.ptr (m).nxt 2)) = (Option.some c8)) ∧ 
 (∃ n9 : Nat, ((x4 = ((n9 : Nat) : Int)) ∧ ((n9 < (slLen c8)) ∧ (∃ x10 : Int, (((ldC m5 (slAt c8 (n9 * 1))) = (Option.some (C.int IntKind.i64 x10))) ∧ 
 (Wc prog tbl 44 [(V.c (C.int IntKind.i64 x7)), (V.c (C.int IntKind.i64 (0 : Int))), 
 (V.c (C.int IntKind.i64 x10))] m5 (fun v11 m12 => (∃ b13 : Bool, ((v11 = (V.c (C.bool b13))) ∧ 
 (ifB (!b13) (Q (V.c (C.bool false)) m12) (fitsP IntKind.i64 (x4 + (1 : Int)) ∧ 
 (R2 [(V.c (C.bool b3)), (V.c (C.int IntKind.i64 (x4 + (1 : Int))))] m12)))))))))))))))))))) (Q (V.c (C.bool true)) m5))) → 
 (R2 [(V.c (C.bool b3)), (V.c (C.int IntKind.i64 x4))] m5))))) → (R2 [(V.c (C.bool false)), (V.c (C.int IntKind.i64 (0 : Int)))] m0)))))))))))) : Wc prog tbl 39 [(V.agg 3 [(C.int IntKind.i64 a100), (C.int IntKind.i64 a101), a102]), (V.c a200)] m Q :=
 wc_eq (n := 2) rfl (by kernel_rfl) (by kernel_rfl) h
theorem w60 {a100 : Int} {a101 : Int} {a102 : C} {m : M} {Q : V → M → Prop} (h :
 (∀ m0 : M, ((m0 = (M.new m (AO.cells 3 [(C.int IntKind.i64 a100), (C.int IntKind.i64 a101), a102] false))) → (∀ R1 : List V → 
 M → Prop, ((∀ x2 : Int, (∀ x3 : Int, (∀ m4 : M, ((isPt (C.ptr (m).nxt 0) ∧ (∃ c5 : C, (((ldC m4 (C.ptr (m).nxt 2)) = (Option.some c5)) ∧ 
 (isSl c5 ∧ (ifB (decide (x3 < (((slLen c5) : Nat) : Int))) (isPt (C.ptr (m).nxt 0) ∧ (∃ c6 : C, 
 (((ldC m4 (C.ptr (m).nxt 2)) = (Option.some c6)) ∧ (∃ n7 : Nat, ((x3 = ((n7 : Nat) : Int)) ∧ 
 ((n7 < (slLen c6)) ∧ (∃ x8 : Int, (((ldC m4 (slAt c6 (n7 * 1))) = (Option.some (C.int IntKind.i64 x8))) ∧ 
 (fitsP IntKind.i64 (x8 + (1 : Int)) ∧ (((0 : Int) ≤ x2) ∧ (((0 : Int) ≤ (x8 + (1 : Int))) ∧ 
 (fitsP IntKind.i64 (x2 * (x8 + (1 : Int))) ∧ (fitsP IntKind.i64 (x3 + (1 : Int)) ∧ 
 (R1 [(V.c (C.int IntKind.i64 (Min.min (4000 : Int) (x2 * (x8 + (1 : Int)))))), (V.c (C.int IntKind.i64 (x3 + (1 : Int))))] m4)))))))))))))) (Q (V.c (C.int IntKind.i64 x2)) m4)))))) → 
 (R1 [(V.c (C.int IntKind.i64 x2)), (V.c (C.int IntKind.i64 x3))] m4))))) → (R1 [(V.c (C.int IntKind.i64 (1 : Int))), 
 (V.c (C.int IntKind.i64 (0 : Int)))] m0)))))) : Wc prog tbl 60 [(V.agg 3 [(C.int IntKind.i64 a100), (C.int IntKind.i64 a101), a102])] m Q :=
 wc_eq (n := 1) rfl (by kernel_rfl) (by kernel_rfl) h
theorem w75 {a100 : Int} {a101 : Int} {a102 : C} {a103 : Int} {a104 : C} {a200 : Int} {a201 : Int} {a202 : Int} {a203 : Int} {a204 : Int} {a205 : Int} {a206 : Int} {a207 : Int} {a208 : Int} {m : M} {Q : V → M → Prop} (h :
 (∀ m0 : M, ((m0 = (M.new m (AO.cells 5 [(C.int IntKind.i64 a100), (C.int IntKind.i64 a101), a102, (C.int IntKind.i64 a103), 
 a104] false))) → (∀ m1 : M, ((m1 = (M.new m0 (AO.cells 9 [(C.int IntKind.i64 a200), (C.int IntKind.i64 a201), 
 (C.int IntKind.i64 a202), (C.int IntKind.i64 a203), (C.int IntKind.i64 a204), (C.int IntKind.i64 a205), 
 (C.int IntKind.i64 a206), (C.int IntKind.i64 a207), (C.int IntKind.i64 a208)] false))) → (isPt (C.ptr (m).nxt 0) ∧ 
 (isPt (C.ptr (m).nxt 0) ∧ (∃ c2 : C, (((ldC m1 (C.ptr (m).nxt 2)) = (Option.some c2)) ∧ (Wc prog tbl 96 [(V.c c2)] m1 (fun v3 m4 => 
 (∃ x5 : Int, ((v3 = (V.c (C.int IntKind.i64 x5))) ∧ (ifB (decide (x5 = (0 : Int))) (Q (V.c (C.int IntKind.i64 (0 : Int))) m4) (∃ n6 : Nat, 
 (∃ n7 : Nat, ((n6 = 0) ∧ ((n7 = 9) ∧ (∃ c8 : C, (((arC 1 9 (C.ptr (m0).nxt 0) n6 n7) = (Option.some c8)) ∧ 
 (Wc prog tbl 96 [(V.c c8)] m4 (fun v9 m10 => (∃ x11 : Int, ((v9 = (V.c (C.int IntKind.i64 x11))) ∧ 
 (((0 : Int) ≤ x11) ∧ (((0 : Int) ≤ (100 : Int)) ∧ (fitsP IntKind.i64 (x11 * (100 : Int)) ∧ 
 (((0 : Int) ≤ (x11 * (100 : Int))) ∧ (((0 : Int) < x5) ∧ (fitsP IntKind.i64 ((x11 * (100 : Int)) / x5) ∧ 
 (Q (V.c (C.int IntKind.i64 ((x11 * (100 : Int)) / x5))) m10))))))))))))))))))))))))))))))) : Wc prog tbl 75 [(V.agg 5 [(C.int IntKind.i64 a100), (C.int IntKind.i64 a101), a102, (C.int IntKind.i64 a103), a104]), (V.agg 9 [(C.int IntKind.i64 a200), (C.int IntKind.i64 a201), (C.int IntKind.i64 a202), (C.int IntKind.i64 a203), (C.int IntKind.i64 a204), (C.int IntKind.i64 a205), (C.int IntKind.i64 a206), (C.int IntKind.i64 a207), (C.int IntKind.i64 a208)])] m Q :=
 wc_eq (n := 2) rfl (by kernel_rfl) (by kernel_rfl) h
theorem w77 {a100 : Int} {a101 : Int} {a102 : C} {a103 : Int} {a104 : C} {a105 : C} {a200 : Int} {a201 : Int} {a202 : Int} {a203 : Int} {a204 : Int} {a205 : Int} {a206 : Int} {a207 : Int} {a208 : Int} {m : M} {Q : V → M → Prop} (h :
 (∀ m0 : M, ((m0 = (M.new m (AO.cells 6 [(C.int IntKind.i64 a100), (C.int IntKind.i64 a101), a102, (C.int IntKind.i64 a103), 
 a104, a105] false))) → (∀ m1 : M, ((m1 = (M.new m0 (AO.cells 9 [(C.int IntKind.i64 a200), (C.int IntKind.i64 a201), 
 (C.int IntKind.i64 a202), (C.int IntKind.i64 a203), (C.int IntKind.i64 a204), (C.int IntKind.i64 a205), 
 (C.int IntKind.i64 a206), (C.int IntKind.i64 a207), (C.int IntKind.i64 a208)] false))) → (isPt (C.ptr (m).nxt 0) ∧ 
 (isPt (C.ptr (m).nxt 0) ∧ (∃ x2 : Int, (∃ x3 : Int, (∃ c4 : C, (((ldA m1 (C.ptr (m).nxt 0) 3) = (Option.some [(C.int IntKind.i64 x2), 
 (C.int IntKind.i64 x3), c4])) ∧ (Wc prog tbl 88 [(V.agg 3 [(C.int IntKind.i64 x2), (C.int IntKind.i64 x3), 
 c4])] m1 (fun v5 m6 => (∃ x7 : Int, ((v5 = (V.c (C.int IntKind.i64 x7))) ∧ (∀ R8 : List V → M → 
 Prop, ((∀ b9 : Bool, (∀ x10 : Int, (∀ m11 : M, ((ifB (decide (x10 < x7)) (∃ x12 : Int, (∃ x13 : Int, 
 (∃ c14 : C, (∃ x15 : Int, (∃ c16 : C, (∃ c17 : C, (((ldA m11 (C.ptr (m).nxt 0) 6) = (Option.some [(C.int IntKind.i64 x12), 
 (C.int IntKind.i64 x13), c14, (C.int IntKind.i64 x15), c16, c17])) ∧ (∃ x18 : Int, 
 (∃ x19 : Int, (∃ x20 : Int, (∃ x21 : Int, (∃ x22 : Int, (∃ x23 : Int, (∃ x24 : Int, 
 (∃ x25 : Int, (∃ x26 : Int, (((ldA m11 (C.ptr (m0).nxt 0) 9) = (Option.some [(C.int IntKind.i64 x18), 
 (C.int IntKind.i64 x19), (C.int IntKind.i64 x20), (C.int IntKind.i64 x21), (C.int IntKind.i64 x22), 
 (C.int IntKind.i64 x23), (C.int IntKind.i64 x24), (C.int IntKind.i64 x25), (C.int IntKind.i64 x26)])) ∧ 
 (Wc prog tbl 97 [(V.agg 6 [(C.int IntKind.i64 x12), (C.int IntKind.i64 x13), 
 c14, (C.int IntKind.i64 x15), c16, c17]), (V.agg 9 [(C.int IntKind.i64 x18), 
 (C.int IntKind.i64 x19), (C.int IntKind.i64 x20), (C.int IntKind.i64 x21), (C.int IntKind.i64 x22), 
 (C.int IntKind.i64 x23), (C.int IntKind.i64 x24), (C.int IntKind.i64 x25), (C.int IntKind.i64 x26)]), 
 (V.c (C.int IntKind.i64 x10)), (V.agg 6 [(C.bool false), (C.bool false), (C.bool false), 
 (C.bool false), (C.bool false), (C.bool false)])] m11 (fun v27 m28 => (∃ b29 : Bool, 
 ((v27 = (V.c (C.bool b29))) ∧ (ifB (!b29) (Q (V.c (C.bool false)) m28) (fitsP IntKind.i64 (x10 + (1 : Int)) ∧ 
 (R8 [(V.c (C.bool b9)), (V.c (C.int IntKind.i64 (x10 + (1 : Int))))] m28)))))))))))))))))))))))) (Q (V.c (C.bool true)) m11)) → 
 (R8 [(V.c (C.bool b9)), (V.c (C.int IntKind.i64 x10))] m11))))) → (R8 [(V.c (C.bool false)), 
 (V.c (C.int IntKind.i64 (0 : Int)))] m6)))))))))))))))))) : Wc prog tbl 77 [(V.agg 6 [(C.int IntKind.i64 a100), (C.int IntKind.i64 a101), a102, (C.int IntKind.i64 a103), a104, a105]), (V.agg 9 [(C.int IntKind.i64 a200), (C.int IntKind.i64 a201), (C.int IntKind.i64 a202), (C.int IntKind.i64 a203), (C.int IntKind.i64 a204), (C.int IntKind.i64 a205), (C.int IntKind.i64 a206), (C.int IntKind.i64 a207), (C.int IntKind.i64 a208)])] m Q :=
 wc_eq (n := 2) rfl (by kernel_rfl) (by kernel_rfl) h
theorem w79 {a100 : Int} {a101 : Int} {a102 : C} {a103 : Int} {a104 : C} {m : M} {Q : V → M → Prop} (h :
 (∀ m0 : M, ((m0 = (M.new m (AO.cells 5 [(C.int IntKind.i64 a100), (C.int IntKind.i64 a101), a102, (C.int IntKind.i64 a103), 
 a104] false))) → (isPt (C.ptr (m).nxt 0) ∧ (∃ x1 : Int, (∃ x2 : Int, (∃ c3 : C, (((ldA m0 (C.ptr (m).nxt 0) 3) = (Option.some [(C.int IntKind.i64 x1), 
 (C.int IntKind.i64 x2), c3])) ∧ (Wc prog tbl 72 [(V.agg 3 [(C.int IntKind.i64 x1), (C.int IntKind.i64 x2), 
 c3])] m0 (fun v4 m5 => (∃ b6 : Bool, ((v4 = (V.c (C.bool b6))) ∧ (ifB b6 (isPt (C.ptr (m).nxt 0) ∧ 
 (∃ x7 : Int, (((ldC m5 (C.ptr (m).nxt 3)) = (Option.some (C.int IntKind.i64 x7))) ∧ (Wc prog tbl 95 [(V.c (C.int IntKind.i64 x7))] m5 (fun v8 m9 => 
 (∃ b10 : Bool, ((v8 = (V.c (C.bool b10))) ∧ (ifB b10 (isPt (C.ptr (m).nxt 0) ∧ (∃ c11 : C, 
 (((ldC m9 (C.ptr (m).nxt 4)) = (Option.some c11)) ∧ (∃ x12 : Int, (∃ x13 : Int, (∃ c14 : C, 
 (∃ x15 : Int, (∃ c16 : C, (((ldA m9 (C.ptr (m).nxt 0) 5) = (Option.some [(C.int IntKind.i64 x12), 
 (C.int IntKind.i64 x13), c14, (C.int IntKind.i64 x15), c16])) ∧ (optB (mapO vW [(V.agg 5 [(C.int IntKind.i64 x12), 
 (C.int IntKind.i64 x13), c14, (C.int IntKind.i64 x15), c16])]) False fun l17 => 
 (Wc prog tbl 98 [(V.c c11), (V.c (C.fn (Fn.func 99) l17 []))] m9 (fun v18 m19 => 
 (∃ b20 : Bool, ((v18 = (V.c (C.bool b20))) ∧ (Q (V.c (C.bool b20)) m19))))))))))))))) (Q (V.c (C.bool false)) m9))))))))) (Q (V.c (C.bool false)) m5)))))))))))))) : Wc prog tbl 79 [(V.agg 5 [(C.int IntKind.i64 a100), (C.int IntKind.i64 a101), a102, (C.int IntKind.i64 a103), a104])] m Q :=
 wc_eq (n := 1) rfl (by kernel_rfl) (by kernel_rfl) h
theorem w84 {a100 : Int} {a101 : Int} {a102 : C} {a200 : Int} {m : M} {Q : V → M → Prop} (h :
 (∀ m0 : M, ((m0 = (M.new m (AO.cells 3 [(C.int IntKind.i64 a100), (C.int IntKind.i64 a101), a102] false))) → (∃ x1 : Int, 
 (∃ x2 : Int, (∃ c3 : C, (((ldA m0 (C.ptr (m).nxt 0) 3) = (Option.some [(C.int IntKind.i64 x1), (C.int IntKind.i64 x2), 
 c3])) ∧ (Wc prog tbl 88 [(V.agg 3 [(C.int IntKind.i64 x1), (C.int IntKind.i64 x2), c3])] m0 (fun v4 m5 => 
 (∃ x6 : Int, ((v4 = (V.c (C.int IntKind.i64 x6))) ∧ (fitsP IntKind.i64 (x6 - (1 : Int)) ∧ (Wc prog tbl 92 [(V.agg 2 [(C.int IntKind.i64 (0 : Int)), 
 (C.int IntKind.i64 (x6 - (1 : Int)))]), (V.c (C.int IntKind.i64 a200))] m5 (fun v7 m8 => (∃ b9 : Bool, 
 ((v7 = (V.c (C.bool b9))) ∧ (Q (V.c (C.bool b9)) m8))))))))))))))))) : Wc prog tbl 84 [(V.agg 3 [(C.int IntKind.i64 a100), (C.int IntKind.i64 a101), a102]), (V.c (C.int IntKind.i64 a200))] m Q :=
 wc_eq (n := 2) rfl (by kernel_rfl) (by kernel_rfl) h
theorem w97 {a100 : Int} {a101 : Int} {a102 : C} {a103 : Int} {a104 : C} {a105 : C} {a200 : Int} {a201 : Int} {a202 : Int} {a203 : Int} {a204 : Int} {a205 : Int} {a206 : Int} {a207 : Int} {a208 : Int} {a300 : Int} {a400 : Bool} {a401 : Bool} {a402 : Bool} {a403 : Bool} {a404 : Bool} {a405 : Bool} {m : M} {Q : V → M → Prop} (h :
 (∀ m0 : M, ((m0 = (M.new m (AO.cells 6 [(C.int IntKind.i64 a100), (C.int IntKind.i64 a101), a102, (C.int IntKind.i64 a103), 
 a104, a105] false))) → (∀ m1 : M, ((m1 = (M.new m0 (AO.cells 9 [(C.int IntKind.i64 a200), (C.int IntKind.i64 a201), 
 (C.int IntKind.i64 a202), (C.int IntKind.i64 a203), (C.int IntKind.i64 a204), (C.int IntKind.i64 a205), 
 (C.int IntKind.i64 a206), (C.int IntKind.i64 a207), (C.int IntKind.i64 a208)] false))) → (∀ m2 : M, 
 ((m2 = (M.new m1 (AO.cells 6 [(C.bool a400), (C.bool a401), (C.bool a402), (C.bool a403), (C.bool a404), 
 (C.bool a405)] false))) → (isPt (C.ptr (m).nxt 0) ∧ (∃ x3 : Int, (∃ x4 : Int, (∃ c5 : C, (∃ x6 : Int, 
 (∃ c7 : C, (((ldA m2 (C.ptr (m).nxt 0) 5) = (Option.some [(C.int IntKind.i64 x3), (C.int IntKind.i64 x4), 
 c5, (C.int IntKind.i64 x6), c7])) ∧ (∃ x8 : Int, (∃ x9 : Int, (∃ x10 : Int, (∃ x11 : Int, (∃ x12 : Int, 
 (∃ x13 : Int, (∃ x14 : Int, (∃ x15 : Int, (∃ x16 : Int, (((ldA m2 (C.ptr (m0).nxt 0) 9) = (Option.some [(C.int IntKind.i64 x8), 
 (C.int IntKind.i64 x9), (C.int IntKind.i64 x10), (C.int IntKind.i64 x11), (C.int IntKind.i64 x12), 
 (C.int IntKind.i64 x13), (C.int IntKind.i64 x14), (C.int IntKind.i64 x15), (C.int IntKind.i64 x16)])) ∧ 
 (Wc prog tbl 112 [(V.agg 5 [(C.int IntKind.i64 x3), (C.int IntKind.i64 x4), c5, (C.int IntKind.i64 x6), 
 c7]), (V.agg 9 [(C.int IntKind.i64 x8), (C.int IntKind.i64 x9), (C.int IntKind.i64 x10), 
 (C.int IntKind.i64 x11), (C.int IntKind.i64 x12), (C.int IntKind.i64 x13), (C.int IntKind.i64 x14), 
 (C.int IntKind.i64 x15), (C.int IntKind.i64 x16)]), (V.c (C.int IntKind.i64 a300))] m2 (fun v17 m18 => 
 (∃ b19 : Bool, ((v17 = (V.c (C.bool b19))) ∧ (ifB (!b19) (isPt (C.ptr (m).nxt 0) ∧ 
 (∃ c20 : C, (((ldC m18 (C.ptr (m).nxt 5)) = (Option.some c20)) ∧ (isPt (C.ptr (m0).nxt 0) ∧ 
 (∃ n21 : Nat, ((a300 = ((n21 : Nat) : Int)) ∧ ((n21 < 9) ∧ (∃ x22 : Int, (((ldC m18 (C.ptr (m0).nxt (0 + (n21 * 1)))) = (Option.some (C.int IntKind.i64 x22))) ∧ 
 (∃ y23 : Option U, (((lkM prog 138 m18 c20 (V.agg 2 [(C.int IntKind.i64 a300), 
 (C.int IntKind.i64 x22)])) = (Option.some y23)) ∧ (((y23 = Option.none) → (∃ b24 : Bool, 
 (∃ b25 : Bool, (∃ b26 : Bool, (∃ b27 : Bool, (∃ b28 : Bool, (∃ b29 : Bool, (((ldA m18 (C.ptr (m1).nxt 0) 6) = (Option.some [(C.bool b24), 
 (C.bool b25), (C.bool b26), (C.bool b27), (C.bool b28), (C.bool b29)])) ∧ (Wc prog tbl 113 [(V.agg 6 [(C.bool false), 
 (C.bool false), (C.bool false), (C.bool false), (C.bool false), (C.bool false)]), 
 (V.agg 6 [(C.bool b24), (C.bool b25), (C.bool b26), (C.bool b27), (C.bool b28), 
 (C.bool b29)])] m18 (fun v30 m31 => (∃ b32 : Bool, ((v30 = (V.c (C.bool b32))) ∧ 
 (Q (V.c (C.bool b32)) m31))))))))))))) ∧ (∀ u33 : U, ((y23 = (Option.some u33)) → 
 (∃ b34 : Bool, (∃ b35 : Bool, (∃ b36 : Bool, (∃ b37 : Bool, (∃ b38 : Bool, (∃ b39 : Bool, 
 ((u33 = (U.agg 6 [(C.bool b34), (C.bool b35), (C.bool b36), (C.bool b37), (C.bool b38), 
 (C.bool b39)])) ∧ (∃ b40 : Bool, (∃ b41 : Bool, (∃ b42 : Bool, (∃ b43 : Bool, 
 (∃ b44 : Bool, (∃ b45 : Bool, (((ldA m18 (C.ptr (m1).nxt 0) 6) = (Option.some [(C.bool b40), 
 (C.bool b41), (C.bool b42), (C.bool b43), (C.bool b44), (C.bool b45)])) ∧ (Wc prog tbl 113 [(V.agg 6 [(C.bool b34), 
 (C.bool b35), (C.bool b36), (C.bool b37), (C.bool b38), (C.bool b39)]), (V.agg 6 [(C.bool b40), 
 (C.bool b41), (C.bool b42), (C.bool b43), (C.bool b44), (C.bool b45)])] m18 (fun v46 m47 => 
 (∃ b48 : Bool, ((v46 = (V.c (C.bool b48))) ∧ (Q (V.c (C.bool b48)) m47))))))))))))))))))))))))))))))))) (Q (V.c (C.bool false)) m18)))))))))))))))))))))))))))))) : Wc prog tbl 97 [(V.agg 6 [(C.int IntKind.i64 a100), (C.int IntKind.i64 a101), a102, (C.int IntKind.i64 a103), a104, a105]), (V.agg 9 [(C.int IntKind.i64 a200), (C.int IntKind.i64 a201), (C.int IntKind.i64 a202), (C.int IntKind.i64 a203), (C.int IntKind.i64 a204), (C.int IntKind.i64 a205), (C.int IntKind.i64 a206), (C.int IntKind.i64 a207), (C.int IntKind.i64 a208)]), (V.c (C.int IntKind.i64 a300)), (V.agg 6 [(C.bool a400), (C.bool a401), (C.bool a402), (C.bool a403), (C.bool a404), (C.bool a405)])] m Q :=
 wc_eq (n := 4) rfl (by kernel_rfl) (by kernel_rfl) h
theorem w99 {a100 : Int} {a101 : Int} {a102 : C} {a103 : Int} {a104 : C} {a200 : Int} {a201 : Int} {a202 : Int} {a203 : Bool} {m : M} {Q : V → M → Prop} (h :
 (∀ m0 : M, ((m0 = (M.new m (AO.cells 5 [(C.int IntKind.i64 a100), (C.int IntKind.i64 a101), a102, (C.int IntKind.i64 a103), 
 a104] false))) → (∀ m1 : M, ((m1 = (M.new m0 (AO.cells 4 [(C.int IntKind.i64 a200), (C.int IntKind.i64 a201), 
 (C.int IntKind.i64 a202), (C.bool a203)] false))) → (isPt (C.ptr (m).nxt 0) ∧ (∃ x2 : Int, (∃ x3 : Int, 
 (∃ c4 : C, (((ldA m1 (C.ptr (m).nxt 0) 3) = (Option.some [(C.int IntKind.i64 x2), (C.int IntKind.i64 x3), 
 c4])) ∧ (isPt (C.ptr (m0).nxt 0) ∧ (∃ x5 : Int, (((ldC m1 (C.ptr (m0).nxt 0)) = (Option.some (C.int IntKind.i64 x5))) ∧ 
 (Wc prog tbl 84 [(V.agg 3 [(C.int IntKind.i64 x2), (C.int IntKind.i64 x3), c4]), (V.c (C.int IntKind.i64 x5))] m1 (fun v6 m7 => 
 (∃ b8 : Bool, ((v6 = (V.c (C.bool b8))) ∧ (ifB b8 (isPt (C.ptr (m0).nxt 0) ∧ (isPt (C.ptr (m0).nxt 1) ∧ 
 (∃ x9 : Int, (((ldC m7 (C.ptr (m0).nxt 1)) = (Option.some (C.int IntKind.i64 x9))) ∧ (isPt (C.ptr (m0).nxt 0) ∧ 
 (isPt (C.ptr (m0).nxt 1) ∧ (∃ x10 : Int, (((ldC m7 (C.ptr (m0).nxt 2)) = (Option.some (C.int IntKind.i64 x10))) ∧ 
 (ifB (decide (x9 ≤ x10)) (isPt (C.ptr (m0).nxt 0) ∧ (isPt (C.ptr (m0).nxt 1) ∧ (∃ x11 : Int, 
 (((ldC m7 (C.ptr (m0).nxt 1)) = (Option.some (C.int IntKind.i64 x11))) ∧ (Wc prog tbl 95 [(V.c (C.int IntKind.i64 x11))] m7 (fun v12 m13 => 
 (∃ b14 : Bool, ((v12 = (V.c (C.bool b14))) ∧ (ifB b14 (isPt (C.ptr (m0).nxt 0) ∧ 
 (isPt (C.ptr (m0).nxt 1) ∧ (∃ x15 : Int, (((ldC m13 (C.ptr (m0).nxt 2)) = (Option.some (C.int IntKind.i64 x15))) ∧ 
 (Wc prog tbl 95 [(V.c (C.int IntKind.i64 x15))] m13 (fun v16 m17 => (∃ b18 : Bool, 
 ((v16 = (V.c (C.bool b18))) ∧ (Q (V.c (C.bool b18)) m17))))))))) (Q (V.c (C.bool false)) m13)))))))))) (Q (V.c (C.bool false)) m7)))))))))) (Q (V.c (C.bool false)) m7))))))))))))))))))) : Wc prog tbl 99 [(V.agg 5 [(C.int IntKind.i64 a100), (C.int IntKind.i64 a101), a102, (C.int IntKind.i64 a103), a104]), (V.agg 4 [(C.int IntKind.i64 a200), (C.int IntKind.i64 a201), (C.int IntKind.i64 a202), (C.bool a203)])] m Q :=
 wc_eq (n := 2) rfl (by kernel_rfl) (by kernel_rfl) h
theorem w113 {a100 : Bool} {a101 : Bool} {a102 : Bool} {a103 : Bool} {a104 : Bool} {a105 : Bool} {a200 : Bool} {a201 : Bool} {a202 : Bool} {a203 : Bool} {a204 : Bool} {a205 : Bool} {m : M} {Q : V → M → Prop} (h :
 (∀ m0 : M, ((m0 = (M.new m (AO.cells 6 [(C.bool a100), (C.bool a101), (C.bool a102), (C.bool a103), (C.bool a104), 
 (C.bool a105)] false))) → (∀ m1 : M, ((m1 = (M.new m0 (AO.cells 6 [(C.bool a200), (C.bool a201), (C.bool a202), 
 (C.bool a203), (C.bool a204), (C.bool a205)] false))) → (∀ R2 : List V → M → Prop, ((∀ b3 : Bool, (∀ x4 : Int, 
 (∀ m5 : M, ((ifB (decide (x4 < (6 : Int))) (isPt (C.ptr (m).nxt 0) ∧ (∃ n6 : Nat, ((x4 = ((n6 : Nat) : Int)) ∧ 
 ((n6 < 6) ∧ (∃ b7 : Bool, (((ldC m5 (C.ptr (m).nxt (0 + (n6 * 1)))) = (Option.some (C.bool b7))) ∧ 
 (ifB b7 (isPt (C.ptr (m0).nxt 0) ∧ (∃ n8 : Nat, ((x4 = ((n8 : Nat) : Int)) ∧ ((n8 < 6) ∧ (∃ b9 : Bool, 
 (((ldC m5 (C.ptr (m0).nxt (0 + (n8 * 1)))) = (Option.some (C.bool b9))) ∧ (ifB (!b9) (Q (V.c (C.bool false)) m5) (fitsP IntKind.i64 (x4 + (1 : Int)) ∧ 
 (R2 [(V.c (C.bool b3)), (V.c (C.int IntKind.i64 (x4 + (1 : Int))))] m5))))))))) (fitsP IntKind.i64 (x4 + (1 : Int)) ∧ 
 (R2 [(V.c (C.bool b3)), (V.c (C.int IntKind.i64 (x4 + (1 : Int))))] m5))))))))) (Q (V.c (C.bool true)) m5)) → 
 (R2 [(V.c (C.bool b3)), (V.c (C.int IntKind.i64 x4))] m5))))) → (R2 [(V.c (C.bool false)), (V.c (C.int IntKind.i64 (0 : Int)))] m1)))))))) : Wc prog tbl 113 [(V.agg 6 [(C.bool a100), (C.bool a101), (C.bool a102), (C.bool a103), (C.bool a104), (C.bool a105)]), (V.agg 6 [(C.bool a200), (C.bool a201), (C.bool a202), (C.bool a203), (C.bool a204), (C.bool a205)])] m Q :=
 wc_eq (n := 2) rfl (by kernel_rfl) (by kernel_rfl) h
theorem w123 {a100 : Int} {a101 : Int} {a102 : C} {a103 : Int} {a104 : C} {a200 : Int} {a300 : Int} {m : M} {Q : V → M → Prop} (h :
 (∀ m0 : M, ((m0 = (M.new m (AO.cells 5 [(C.int IntKind.i64 a100), (C.int IntKind.i64 a101), a102, (C.int IntKind.i64 a103), 
 a104] false))) → (fitsP IntKind.i64 (a200 - a300) ∧ (fitsP IntKind.i64 (a300 - a200) ∧ (isPt (C.ptr (m).nxt 0) ∧ 
 (∃ x1 : Int, (((ldC m0 (C.ptr (m).nxt 3)) = (Option.some (C.int IntKind.i64 x1))) ∧ (Q (V.c (C.bool (decide (x1 < (Max.max (a200 - a300) (a300 - a200)))))) m0))))))))) : Wc prog tbl 123 [(V.agg 5 [(C.int IntKind.i64 a100), (C.int IntKind.i64 a101), a102, (C.int IntKind.i64 a103), a104]), (V.c (C.int IntKind.i64 a200)), (V.c (C.int IntKind.i64 a300))] m Q :=
 wc_eq (n := 3) rfl (by kernel_rfl) (by kernel_rfl) h
end
end Go.Proofs.Ytgkjfhkjgdiodaa

namespace Go.Proofs.Ytgkjfhkjgdiodaa
open _root_.Go.Proofs.Try
open Go.Abs
set_option maxRecDepth 100000
noncomputable section
theorem c115 (p lo hi : Int) (l : Bool) (b : Nat) {m : M} {Q : V → M → Prop} (h :
 (∀ m0 : M, ((m0 = (M.new m (AO.cells 4 [(C.int IntKind.i64 p), (C.int IntKind.i64 lo), (C.int IntKind.i64 hi), 
 (C.bool l)] false))) → (∃ c1 : C, (((ldC m0 (C.ptr b 0)) = (Option.some c1)) ∧ (∃ x2 : Int, (∃ x3 : Int, 
 (∃ x4 : Int, (∃ b5 : Bool, (((ldA m0 (C.ptr (m).nxt 0) 4) = (Option.some [(C.int IntKind.i64 x2), (C.int IntKind.i64 x3), 
 (C.int IntKind.i64 x4), (C.bool b5)])) ∧ (callP prog tbl [(V.agg 4 [(C.int IntKind.i64 x2), (C.int IntKind.i64 x3), 
 (C.int IntKind.i64 x4), (C.bool b5)])] c1 m0 (fun v6 m7 => (∃ b8 : Bool, ((v6 = (V.c (C.bool b8))) ∧ 
 (Q (V.c (C.bool (!b8))) m7))))))))))))))) : Wc prog tbl 115 [.agg 4 [.int .i64 p, .int .i64 lo, .int .i64 hi, .bool l], .c (.ptr b 0)] m Q :=
 wc_eq (n := 2) rfl (by kernel_rfl) (by kernel_rfl) h
/-- the field's sides are few -/
structure Sides (r c : Int) : Prop where
  r1 : 1 ≤ r
  r4 : r ≤ 4
  c1 : 1 ≤ c
  c4 : c ≤ 4
theorem Sides.mul {r c : Int} (h : Sides r c) : 0 ≤ r * c ∧ r * c ≤ 16 := mul_small h.r1 h.r4 h.c1 h.c4
theorem s84 {r c p : Int} {x : C} {m : M} {Q : V → M → Prop} (hS : Sides r c) (h : ∀ m', Ext m m' → Q (.c (.bool (decide (0 ≤ p ∧ p ≤ r * c - 1)))) m') : Wc prog tbl 84 [.agg 3 [.int .i64 r, .int .i64 c, x], .c (.int .i64 p)] m Q := by
  refine w84 fun m0 e0 => ?_
  obtain ⟨b0, x0⟩ := Bk.new e0
  have hm := hS.mul
  have := hS.r1
  have := hS.c1
  exact ⟨r, c, x, b0.ra, s88 (by omega) (by omega) (fits_small (by omega) (by omega)) fun m5 e5 => ⟨_, rfl, fits_small (by omega) (by omega), s92 fun m8 e8 => ⟨_, rfl, h m8 ((x0.trans e5).trans e8)⟩⟩⟩
def okCnt (k : Int) (n : Cnt) : Bool := decide ((0 ≤ n.p ∧ n.p ≤ k - 1) ∧ 0 ≤ n.lo ∧ n.lo ≤ n.hi ∧ n.hi ≤ 9)
theorem s99 {r c sm : Int} {x y : C} {n : Cnt} {m : M} {Q : V → M → Prop} (hS : Sides r c) (h : ∀ m', Ext m m' → Q (.c (.bool (okCnt (r * c) n))) m') : Wc prog tbl 99 [.agg 5 [.int .i64 r, .int .i64 c, x, .int .i64 sm, y], .agg 4 [.int .i64 n.p, .int .i64 n.lo, .int .i64 n.hi, .bool n.late]] m Q := by
  refine w99 fun m0 e0 m1 e1 => ?_
  obtain ⟨b0, x0⟩ := Bk.new e0
  obtain ⟨b1, x1⟩ := Bk.new e1
  have b0' := b0.ext x1
  have x01 := x0.trans x1
  have hA3 : ldA m1 (.ptr m.nxt 0) 3 = some [.int .i64 r, .int .i64 c, x] := b0'.rp (k := 0) (j := 3) rfl (by omega)
  refine ⟨trivial, r, c, x, hA3, trivial, n.p, b1.rc rfl, s84 hS fun m7 e7 => ⟨_, rfl, ?_⟩⟩
  have hfalse : ∀ m', Ext m1 m' → okCnt (r * c) n = false → Q (.c (.bool false)) m' := fun m' e hf => by
    have := h m' (x01.trans e); rw [hf] at this; exact this
  have l7 := b1.ext e7
  rw [ifB_dec]
  refine ⟨fun h1 => ⟨trivial, trivial, n.lo, l7.rc rfl, trivial, trivial, n.hi, l7.rc rfl, ?_⟩, fun h1 => hfalse m7 e7 (decide_eq_false fun h2 => h1 h2.1)⟩
  rw [ifB_dec]
  refine ⟨fun h2 => ⟨trivial, trivial, n.lo, l7.rc rfl, s95 fun m13 e13 => ⟨_, rfl, ?_⟩⟩, fun h2 => hfalse m7 e7 (decide_eq_false fun h3 => h2 h3.2.2.1)⟩
  have e13' := e7.trans e13
  rw [ifB_dec]
  refine ⟨fun h3 => ⟨trivial, trivial, n.hi, (l7.ext e13).rc rfl, s95 fun m17 e17 => ⟨_, rfl, ?_⟩⟩, fun h3 => hfalse m13 e13' (decide_eq_false fun h4 => h3 ⟨h4.2.1, by have := h4.2.2; omega⟩)⟩
  have hq := h m17 (x01.trans (e13'.trans e17))
  have : okCnt (r * c) n = decide (0 ≤ n.hi ∧ n.hi ≤ 9) := by
    unfold okCnt
    by_cases hv : 0 ≤ n.hi ∧ n.hi ≤ 9
    · rw [decide_eq_true hv, decide_eq_true ⟨h1, h3.1, h2, hv.2⟩]
    · rw [decide_eq_false hv, decide_eq_false fun h => hv ⟨by have := h.2; omega, h.2.2.2⟩]
  rw [this] at hq
  exact hq
/-- a slice as what a function value keeps -/
theorem keepC {m : M} {k n : Nat} {x : C} {vs : List C} (h : Ls m k x vs n) : ∃ x0 : C0, cC0 x = some x0 ∧ c0C x0 = x := by
  rcases h.val with ⟨rfl, _⟩ | ⟨b, o, s, c, rfl, _⟩
  · exact ⟨.sl0, rfl, rfl⟩
  · exact ⟨.sl b o n s c, rfl, rfl⟩
/-- all counts are valid -/
theorem s98 {r c sm : Int} {x y : C} {x0 y0 : C0} (hx0 : c0C x0 = x) (hy0 : c0C y0 = y) {N : List Cnt} {m : M} {Q : V → M → Prop} (hS : Sides r c) (hy : Lc m y N) (hN : N.length ≤ 1000)
    (h : ∀ m', Ext m m' → Q (.c (.bool (decide (∀ n ∈ N, okCnt (r * c) n = true)))) m') : Wc prog tbl 98 [.c y, .c (.fn (.func 99) [.agg 5 [.int .i64 r, .int .i64 c, x0, .int .i64 sm, y0]] [])] m Q := by
  refine w98 fun m0 e0 => ?_
  obtain ⟨b0, xe0⟩ := Bk.new e0
  have key : ∀ (v : Int) (m' : M), Ext m0 m' → (0 ≤ v ↔ ¬ ∀ n ∈ N, okCnt (r * c) n = true) → Q (.c (.bool (!decide (0 ≤ v)))) m' := fun v m' e hv => by
    have h1 := h m' (xe0.trans e)
    by_cases hc : ∀ n ∈ N, okCnt (r * c) n = true
    · have : ¬ 0 ≤ v := fun h2 => (hv.1 h2) hc
      simpa [this, decide_eq_true hc] using h1
    · have h2 := hv.2 hc
      simpa [h2, decide_eq_false hc] using h1
  refine w114 (w124 ⟨hy.isSl, fun R0 hstep => ?_⟩)
  have hgo : ∀ (d i : Nat) (b : Int) (m1 : M), d + i = N.length → (∀ n ∈ N.take i, okCnt (r * c) n = true) → Ext m0 m1 → R0 [.c (.int .i64 b), .c (.int .i64 (i : Int))] m1 := by
    intro d
    induction d with
    | zero =>
      intro i b m1 hd hn he
      refine hstep _ _ _ ?_
      rw [hy.slLen, ifB_dec]
      refine ⟨fun h1 => by omega, fun _ => ⟨_, rfl, _, rfl, key _ m1 he ?_⟩⟩
      refine ⟨fun h1 => by omega, fun h1 => absurd (fun v hv => hn v (by rw [List.take_of_length_le (by omega)]; exact hv)) h1⟩
    | succ d ih =>
      intro i b m1 hd hn he
      refine hstep _ _ _ ?_
      rw [hy.slLen, ifB_dec]
      refine ⟨fun _ => ?_, fun h1 => by omega⟩
      have hi : i < N.length := by omega
      have hc := List.getElem?_eq_getElem hi
      have hy1 := (hy.ext xe0).ext he
      refine ⟨i, rfl, hi, N[i].p, N[i].lo, N[i].hi, N[i].late, ?_, ?_⟩
      · rw [Ls.rds hy1 (by omega) (cnts_room hi (by omega)), cnts_all hc]; rfl
      show Wc prog tbl 115 _ m1 _
      refine c115 N[i].p N[i].lo N[i].hi N[i].late m.nxt fun m2 e2 => ?_
      obtain ⟨b2, x2⟩ := Bk.new e2
      refine ⟨_, ((b0.ext he).ext x2).rc rfl, N[i].p, N[i].lo, N[i].hi, N[i].late, b2.ra, ?_⟩
      show Wc prog tbl 99 [.agg 5 [.int .i64 r, .int .i64 c, c0C x0, .int .i64 sm, c0C y0], .agg 4 [.int .i64 N[i].p, .int .i64 N[i].lo, .int .i64 N[i].hi, .bool N[i].late]] m2 _
      rw [hx0, hy0]
      refine s99 hS fun m3 e3 => ⟨_, rfl, _, rfl, ?_⟩
      have e03 := (he.trans x2).trans e3
      cases hok : okCnt (r * c) N[i] with
      | false => exact ⟨_, rfl, _, rfl, key _ m3 e03 ⟨fun _ h2 => (by have := h2 _ (List.getElem_mem hi); rw [hok] at this; cases this), fun _ => Int.natCast_nonneg i⟩⟩
      | true =>
        refine ⟨by simp only [fitsP]; omega, ih (i + 1) b m3 (by omega) (fun v hv => ?_) e03⟩
        rw [List.take_add_one, hc] at hv
        rcases List.mem_append.1 hv with h2 | h2
        · exact hn v h2
        · have : v = N[i] := by simpa using h2
          rw [this]; exact hok
  exact hgo N.length 0 0 m0 (by omega) (by simp) (.refl m0)
/-- the survey is valid, but for how many counts and choices there are -/
def isSv (r c : Int) (L : List Int) (sm : Int) (N : List Cnt) : Bool := isField r c L && decide (0 ≤ sm ∧ sm ≤ 9) && decide (∀ n ∈ N, okCnt (r * c) n = true)
theorem sides_of {r c : Int} {L : List Int} (h : isField r c L = true) : Sides r c := by
  have h1 : (1 ≤ r ∧ r ≤ 4) ∧ (1 ≤ c ∧ c ≤ 4) ∧ _ := of_decide_eq_true h
  exact ⟨h1.1.1, h1.1.2, h1.2.1.1, h1.2.1.2⟩
theorem s79 {r c sm : Int} {x y : C} {L : List Int} {N : List Cnt} {m : M} {Q : V → M → Prop} (hx : Li m x L) (hL : L.length ≤ 1048576) (hy : Lc m y N) (hN : N.length ≤ 1000) (h : ∀ m', Ext m m' → Q (.c (.bool (isSv r c L sm N))) m') :
    Wc prog tbl 79 [.agg 5 [.int .i64 r, .int .i64 c, x, .int .i64 sm, y]] m Q := by
  refine w79 fun m0 e0 => ?_
  obtain ⟨b0, x0⟩ := Bk.new e0
  have hA3 : ldA m0 (.ptr m.nxt 0) 3 = some [.int .i64 r, .int .i64 c, x] := b0.rp (k := 0) (j := 3) rfl (by omega)
  have hfalse : ∀ m', Ext m0 m' → isSv r c L sm N = false → Q (.c (.bool false)) m' := fun m' e hf => by
    have := h m' (x0.trans e); rw [hf] at this; exact this
  refine ⟨trivial, r, c, x, hA3, s72 (hx.ext x0) hL fun m5 e5 => ⟨_, rfl, ?_⟩⟩
  cases hf : isField r c L with
  | false => exact hfalse m5 e5 (by unfold isSv; rw [hf]; rfl)
  | true =>
    rw [ifB_true]
    refine ⟨trivial, sm, (b0.ext e5).rc rfl, s95 fun m9 e9 => ⟨_, rfl, ?_⟩⟩
    rw [ifB_dec]
    refine ⟨fun h1 => ?_, fun h1 => hfalse m9 (e5.trans e9) (by unfold isSv; rw [hf, decide_eq_false h1]; rfl)⟩
    obtain ⟨xc, hxc, hxc'⟩ := keepC hx
    obtain ⟨yc, hyc, hyc'⟩ := keepC hy
    refine ⟨trivial, y, ((b0.ext e5).ext e9).rc rfl, r, c, x, sm, y, ((b0.ext e5).ext e9).ra, ?_⟩
    have hvw : mapO vW [V.agg 5 [.int .i64 r, .int .i64 c, x, .int .i64 sm, y]] = some [.agg 5 [.int .i64 r, .int .i64 c, xc, .int .i64 sm, yc]] := by
      show optB (optB (optB (some (C0.int .i64 r)) none fun a => optB (optB (some (C0.int .i64 c)) none fun b => optB (optB (cC0 x) none fun c' => optB (optB (some (C0.int .i64 sm)) none fun d => optB (optB (cC0 y) none fun e => some [e]) none fun l => some (d :: l)) none fun l => some (c' :: l)) none fun l => some (b :: l)) none fun l => some (a :: l)) none fun xs => some (W.agg 5 xs)) none (fun w => some [w]) = _
      rw [hxc, hyc]; rfl
    rw [hvw, optB_some]
    refine s98 hxc' hyc' (sides_of hf) (hy.ext ((x0.trans e5).trans e9)) hN fun m19 e19 => ⟨_, rfl, ?_⟩
    have hq := h m19 (((x0.trans e5).trans e9).trans e19)
    have : isSv r c L sm N = decide (∀ n ∈ N, okCnt (r * c) n = true) := by unfold isSv; rw [hf, decide_eq_true h1]; rfl
    rw [this] at hq
    exact hq
end
end Go.Proofs.Ytgkjfhkjgdiodaa

namespace Go.Proofs.Ytgkjfhkjgdiodaa
open _root_.Go.Proofs.Try
open Go.Abs
set_option maxRecDepth 100000
noncomputable section
def manyL (a : Int) : List Int → Int
  | [] => a
  | v :: L => manyL (min 4000 (a * (v + 1))) L
def mulL (a : Int) : List Int → Int
  | [] => a
  | v :: L => mulL (a * (v + 1)) L
def Small (L : List Int) : Prop := ∀ v ∈ L, 0 ≤ v ∧ v ≤ 9
theorem mul_le {a b : Int} (ha : 0 ≤ a) (hb : 1 ≤ b) : a ≤ a * b := by
  have := Int.mul_le_mul_of_nonneg_left hb ha
  omega
theorem mulL_ge : ∀ {L : List Int} {a : Int}, Small L → 0 ≤ a → a ≤ mulL a L
  | [], a, _, _ => Int.le_refl _
  | v :: L, a, h, ha => by
    have hv := h v (List.mem_cons_self ..)
    have h1 := mul_le ha (b := v + 1) (by omega)
    exact Int.le_trans h1 (mulL_ge (fun w hw => h w (List.mem_cons_of_mem _ hw)) (by omega))
theorem manyL_ge : ∀ {L : List Int} {a : Int}, Small L → 0 ≤ a → a ≤ 4000 → a ≤ manyL a L
  | [], a, _, _, _ => Int.le_refl _
  | v :: L, a, h, ha, h4 => by
    have hv := h v (List.mem_cons_self ..)
    have h1 := mul_le ha (b := v + 1) (by omega)
    have h2 := manyL_ge (L := L) (a := min 4000 (a * (v + 1))) (fun w hw => h w (List.mem_cons_of_mem _ hw)) (by omega) (by omega)
    show a ≤ manyL (min 4000 (a * (v + 1))) L
    omega
/-- both say whether there are too many -/
theorem many_iff : ∀ {L : List Int} {a : Int}, Small L → 0 ≤ a → a ≤ 4000 → (2000 < manyL a L ↔ 2000 < mulL a L)
  | [], a, _, _, _ => Iff.rfl
  | v :: L, a, h, ha, h4 => by
    have hv := h v (List.mem_cons_self ..)
    have hL : Small L := fun w hw => h w (List.mem_cons_of_mem _ hw)
    have h1 := mul_le ha (b := v + 1) (by omega)
    show 2000 < manyL (min 4000 (a * (v + 1))) L ↔ 2000 < mulL (a * (v + 1)) L
    by_cases hq : a * (v + 1) ≤ 4000
    · rw [Int.min_eq_right hq]
      exact many_iff hL (by omega) hq
    · have h2 := manyL_ge (L := L) (a := min 4000 (a * (v + 1))) hL (by omega) (by omega)
      have h3 := mulL_ge (L := L) (a := a * (v + 1)) hL (by omega)
      omega
theorem ten_pos : ∀ k : Nat, (1 : Int) ≤ 10 ^ k
  | 0 => by simp
  | k + 1 => by rw [Int.pow_succ]; have := ten_pos k; omega
theorem ten_mono (i : Nat) : ∀ j : Nat, (10 : Int) ^ i ≤ 10 ^ (i + j)
  | 0 => Int.le_refl _
  | j + 1 => by rw [← Nat.add_assoc, Int.pow_succ]; have := ten_mono i j; have := ten_pos i; omega
theorem small_at {L : List Int} (h : Small L) {i : Nat} (hi : i < L.length) : 0 ≤ L[i] ∧ L[i] ≤ 9 := h _ (List.getElem_mem hi)
theorem mulL_step {L : List Int} {i : Nat} (hi : i < L.length) (a : Int) : mulL a (L.drop i) = mulL (a * (L[i] + 1)) (L.drop (i + 1)) := by rw [List.drop_eq_getElem_cons hi]; rfl
theorem manyL_step {L : List Int} {i : Nat} (hi : i < L.length) (a : Int) : manyL a (L.drop i) = manyL (min 4000 (a * (L[i] + 1))) (L.drop (i + 1)) := by rw [List.drop_eq_getElem_cons hi]; rfl
theorem s80 {r c : Int} {x : C} {L : List Int} {m : M} {Q : V → M → Prop} (hx : Li m x L) (hS : Small L) (hL : L.length ≤ 9) (h : ∀ m', Ext m m' → Q (.c (.int .i64 (mulL 1 L))) m') : Wc prog tbl 80 [.agg 3 [.int .i64 r, .int .i64 c, x]] m Q := by
  refine w80 fun m0 e0 => ?_
  obtain ⟨b0, x0⟩ := Bk.new e0
  refine ⟨trivial, x, b0.rc rfl, hx.isSl, fun R2 hstep => ?_⟩
  have hgo : ∀ (d i : Nat) (a : Int), d + i = L.length → 0 ≤ a → a ≤ 10 ^ i → mulL a (L.drop i) = mulL 1 L → R2 [.c (.int .i64 a), .c (.int .i64 (i : Int))] m0 := by
    intro d
    induction d with
    | zero =>
      intro i a hd h0 ha heq
      refine hstep _ _ _ ?_
      rw [hx.slLen, ifB_dec]
      refine ⟨fun h1 => by omega, fun _ => ?_⟩
      rw [List.drop_eq_nil_of_le (by omega)] at heq
      have hq := h m0 x0
      rw [← heq] at hq
      exact hq
    | succ d ih =>
      intro i a hd h0 ha heq
      refine hstep _ _ _ ?_
      rw [hx.slLen, ifB_dec]
      refine ⟨fun _ => ?_, fun h1 => by omega⟩
      have hi : i < L.length := by omega
      have hv := small_at hS hi
      have h1 : a * (L[i] + 1) ≤ a * 10 := Int.mul_le_mul_of_nonneg_left (by omega) h0
      have h2 : a * 10 ≤ 10 ^ (i + 1) := by rw [Int.pow_succ]; exact Int.mul_le_mul_of_nonneg_right ha (by omega)
      have h3 : (10 : Int) ^ (i + 1) ≤ 10 ^ 9 := by have := ten_mono (i + 1) (8 - i); rw [show i + 1 + (8 - i) = 9 by omega] at this; exact this
      have h4 : (10 : Int) ^ 9 = 1000000000 := by decide
      have h5 : 0 ≤ a * (L[i] + 1) := Int.mul_nonneg h0 (by omega)
      refine ⟨i, rfl, hi, L[i], Li.rd (hx.ext x0) (List.getElem?_eq_getElem hi), fits_small (by omega) (by omega), h0, by omega, by simp only [fitsP]; omega, fits_small (by omega) (by omega), ?_⟩
      exact ih (i + 1) _ (by omega) h5 (by omega) (by rw [← mulL_step hi]; exact heq)
  exact hgo L.length 0 1 (by omega) (by omega) (by simp) rfl
theorem s60 {r c : Int} {x : C} {L : List Int} {m : M} {Q : V → M → Prop} (hx : Li m x L) (hS : Small L) (hL : L.length ≤ 1000) (h : ∀ m', Ext m m' → Q (.c (.int .i64 (manyL 1 L))) m') : Wc prog tbl 60 [.agg 3 [.int .i64 r, .int .i64 c, x]] m Q := by
  refine w60 fun m0 e0 R1 hstep => ?_
  obtain ⟨b0, x0⟩ := Bk.new e0
  have hgo : ∀ (d i : Nat) (a : Int), d + i = L.length → 0 ≤ a → a ≤ 4000 → manyL a (L.drop i) = manyL 1 L → R1 [.c (.int .i64 a), .c (.int .i64 (i : Int))] m0 := by
    intro d
    induction d with
    | zero =>
      intro i a hd h0 ha heq
      refine hstep _ _ _ ⟨trivial, x, b0.rc rfl, hx.isSl, ?_⟩
      rw [hx.slLen, ifB_dec]
      refine ⟨fun h1 => by omega, fun _ => ?_⟩
      rw [List.drop_eq_nil_of_le (by omega)] at heq
      have hq := h m0 x0
      rw [← heq] at hq
      exact hq
    | succ d ih =>
      intro i a hd h0 ha heq
      refine hstep _ _ _ ⟨trivial, x, b0.rc rfl, hx.isSl, ?_⟩
      rw [hx.slLen, ifB_dec]
      refine ⟨fun _ => ?_, fun h1 => by omega⟩
      have hi : i < L.length := by omega
      have hv := small_at hS hi
      have h1 : a * (L[i] + 1) ≤ a * 10 := Int.mul_le_mul_of_nonneg_left (by omega) h0
      have h5 : 0 ≤ a * (L[i] + 1) := Int.mul_nonneg h0 (by omega)
      refine ⟨trivial, x, b0.rc rfl, i, rfl, by rw [hx.slLen]; exact hi, L[i], Li.rd (hx.ext x0) (List.getElem?_eq_getElem hi), fits_small (by omega) (by omega), h0, by omega, fits_small (by omega) (by omega), fits_small (by omega) (by omega), ?_⟩
      exact ih (i + 1) _ (by omega) (by omega) (by omega) (by rw [← manyL_step hi]; exact heq)
  exact hgo L.length 0 1 (by omega) (by omega) (by omega) rfl
/-- the error of a survey -/
def svErr (r c : Int) (L : List Int) (sm : Int) (N : List Cnt) : Int := if N.length ≤ 6 then if isSv r c L sm N then if mulL 1 L ≤ 2000 then 0 else 3 else 1 else 3
theorem field_of {r c : Int} {L : List Int} (h : isField r c L = true) : Small L ∧ L.length ≤ 9 ∧ (L.length : Int) = r * c := by
  have h1 : (1 ≤ r ∧ r ≤ 4) ∧ (1 ≤ c ∧ c ≤ 4) ∧ r * c ≤ 9 ∧ (L.length : Int) = r * c ∧ ∀ v ∈ L, 0 ≤ v ∧ v ≤ 9 := of_decide_eq_true h
  exact ⟨h1.2.2.2.2, by omega, h1.2.2.2.1⟩
theorem sv_field {r c : Int} {L : List Int} {sm : Int} {N : List Cnt} (h : isSv r c L sm N = true) : isField r c L = true ∧ (0 ≤ sm ∧ sm ≤ 9) ∧ ∀ n ∈ N, okCnt (r * c) n = true := by
  unfold isSv at h
  rw [Bool.and_eq_true, Bool.and_eq_true] at h
  exact ⟨h.1.1, of_decide_eq_true h.1.2, of_decide_eq_true h.2⟩
theorem s37 {r c sm : Int} {x y : C} {L : List Int} {N : List Cnt} {m : M} {Q : V → M → Prop} (hx : Li m x L) (hL : L.length ≤ 1048576) (hy : Lc m y N) (hN : N.length ≤ 1000) (h : ∀ m', Ext m m' → Q (.c (.int .i64 (svErr r c L sm N))) m') :
    Wc prog tbl 37 [.agg 5 [.int .i64 r, .int .i64 c, x, .int .i64 sm, y]] m Q := by
  refine w37 fun m0 e0 => ?_
  obtain ⟨b0, x0⟩ := Bk.new e0
  have hval : ∀ {v : Int} {m'}, Ext m0 m' → svErr r c L sm N = v → Q (.c (.int .i64 v)) m' := fun {v m'} e hv => by
    have := h m' (x0.trans e); rw [hv] at this; exact this
  refine ⟨trivial, y, b0.rc rfl, hy.isSl, ?_⟩
  rw [hy.slLen, ifB_dec]
  refine ⟨fun h1 => hval (.refl _) (by unfold svErr; rw [if_neg (by omega)]), fun h1 => ?_⟩
  refine ⟨r, c, x, sm, y, b0.ra, s79 (hx.ext x0) hL (hy.ext x0) hN fun m8 e8 => ⟨_, rfl, ?_⟩⟩
  cases hs : isSv r c L sm N with
  | false => exact hval e8 (by unfold svErr; rw [if_pos (by omega), hs]; simp)
  | true =>
    obtain ⟨hf, hsm, hcs⟩ := sv_field hs
    obtain ⟨f1, f2, f3⟩ := field_of hf
    show ifB false _ _
    rw [ifB_false]
    refine ⟨trivial, r, c, x, (b0.ext e8).rp (k := 0) (j := 3) rfl (by omega), s80 (hx.ext (x0.trans e8)) f1 f2 fun m14 e14 => ⟨_, rfl, ?_⟩⟩
    rw [ifB_dec]
    exact ⟨fun h2 => hval (e8.trans e14) (by unfold svErr; rw [if_pos (by omega), hs, if_pos rfl, if_neg (by omega)]), fun h2 => hval (e8.trans e14) (by unfold svErr; rw [if_pos (by omega), hs, if_pos rfl, if_pos (by omega)])⟩
theorem s78 {r c sm : Int} {x y : C} {L : List Int} {N : List Cnt} {m : M} {Q : V → M → Prop} (hx : Li m x L) (hL : L.length ≤ 1048576) (hy : Lc m y N) (hN : N.length ≤ 1000) (h : ∀ m', Ext m m' → Q (.c (.int .i64 (svErr r c L sm N))) m') :
    Wc prog tbl 78 [.agg 5 [.int .i64 r, .int .i64 c, x, .int .i64 sm, y]] m Q := by
  refine w78 fun m0 e0 => ?_
  obtain ⟨b0, x0⟩ := Bk.new e0
  have hval : ∀ {v : Int} {m'}, Ext m0 m' → svErr r c L sm N = v → Q (.c (.int .i64 v)) m' := fun {v m'} e hv => by
    have := h m' (x0.trans e); rw [hv] at this; exact this
  refine ⟨trivial, y, b0.rc rfl, hy.isSl, ?_⟩
  rw [hy.slLen, ifB_dec]
  refine ⟨fun h1 => hval (.refl _) (by unfold svErr; rw [if_neg (by omega)]), fun h1 => ?_⟩
  have hbad : ∀ {m'}, Ext m0 m' → isSv r c L sm N = false → Q (.c (.int .i64 1)) m' := fun e hs => hval e (by unfold svErr; rw [if_pos (by omega), hs]; simp)
  refine ⟨trivial, r, c, x, b0.rp (k := 0) (j := 3) rfl (by omega), s26 (hx.ext x0) hL fun m6 e6 => ⟨_, rfl, ?_⟩⟩
  cases hf : isField r c L with
  | false => exact hbad e6 (by unfold isSv; rw [hf]; rfl)
  | true =>
  obtain ⟨f1, f2, f3⟩ := field_of hf
  show ifB false _ _
  rw [ifB_false]
  refine ⟨trivial, sm, (b0.ext e6).rc rfl, s44 ⟨_, rfl, ?_⟩⟩
  rw [ifB_ndec]
  refine ⟨fun h2 => hbad e6 (by unfold isSv; rw [hf, decide_eq_false h2]; rfl), fun h2 R12 hstep => ?_⟩
  have hgo : ∀ (d i : Nat) (b : Int) (m15 : M), d + i = N.length → (∀ n ∈ N.take i, okCnt (r * c) n = true) → Ext m0 m15 → R12 [.c (.int .i64 b), .c (.int .i64 (i : Int))] m15 := by
    intro d
    induction d with
    | zero =>
      intro i b m15 hd hn he
      refine hstep _ _ _ ⟨trivial, y, (b0.ext he).rc rfl, hy.isSl, ?_⟩
      rw [hy.slLen, ifB_dec]
      refine ⟨fun h1 => by omega, fun _ => ⟨trivial, r, c, x, (b0.ext he).rp (k := 0) (j := 3) rfl (by omega), s60 (hx.ext (x0.trans he)) f1 (by omega) fun m40 e40 => ⟨_, rfl, ?_⟩⟩⟩
      have hs : isSv r c L sm N = true := by
        unfold isSv
        rw [hf, decide_eq_true h2, decide_eq_true fun n hn' => hn n (by rw [List.take_of_length_le (by omega)]; exact hn')]; rfl
      have hmi := many_iff f1 (a := 1) (by omega) (by omega)
      rw [ifB_dec]
      exact ⟨fun h3 => hval (he.trans e40) (by unfold svErr; rw [if_pos (by omega), hs, if_pos rfl, if_neg (by omega)]), fun h3 => hval (he.trans e40) (by unfold svErr; rw [if_pos (by omega), hs, if_pos rfl, if_pos (by omega)])⟩
    | succ d ih =>
      intro i b m15 hd hn he
      refine hstep _ _ _ ⟨trivial, y, (b0.ext he).rc rfl, hy.isSl, ?_⟩
      rw [hy.slLen, ifB_dec]
      refine ⟨fun _ => ?_, fun h1 => by omega⟩
      have hi : i < N.length := by omega
      have hc := List.getElem?_eq_getElem hi
      have hy1 := (hy.ext x0).ext he
      have hnot : okCnt (r * c) N[i] = false → isSv r c L sm N = false := fun hk => by
        unfold isSv
        rw [show decide (∀ n ∈ N, okCnt (r * c) n = true) = false from decide_eq_false fun h => (by have := h _ (List.getElem_mem hi); rw [hk] at this; cases this), Bool.and_false]
      refine ⟨trivial, y, (b0.ext he).rc rfl, i, rfl, by rw [hy.slLen]; exact hi, N[i].p, N[i].lo, N[i].hi, N[i].late, ?_, fun m23 h23 => ?_⟩
      · rw [Ls.rds hy1 (by omega) (cnts_room hi (by omega)), cnts_all hc]; rfl
      obtain ⟨b23, x23⟩ := Bk.new h23
      have k24 := b23.set [.int .i64 N[i].p, .int .i64 N[i].lo, .int .i64 N[i].hi, .bool N[i].late]
      have e24 : Ext m15 (m23.set m15.nxt (.cells 4 [.int .i64 N[i].p, .int .i64 N[i].lo, .int .i64 N[i].hi, .bool N[i].late] false)) := x23.setR (Nat.le_refl _) _
      refine ⟨_, b23.st _, trivial, N[i].p, k24.rc rfl, trivial, trivial, x, ?_⟩
      generalize m23.set m15.nxt (.cells 4 [.int .i64 N[i].p, .int .i64 N[i].lo, .int .i64 N[i].hi, .bool N[i].late] false) = m24 at k24 e24
      have he24 := he.trans e24
      refine ⟨(b0.ext he24).rc rfl, hx.isSl, by rw [hx.slLen]; exact fits_small (by omega) (by omega), s44 ⟨_, rfl, ?_⟩⟩
      rw [hx.slLen, f3, ifB_ndec]
      refine ⟨fun h3 => hbad he24 (hnot (decide_eq_false fun h4 => h3 h4.1)), fun h3 => ⟨trivial, trivial, N[i].lo, k24.rc rfl, trivial, trivial, N[i].hi, k24.rc rfl, s44 ⟨_, rfl, ?_⟩⟩⟩
      rw [ifB_ndec]
      refine ⟨fun h4 => hbad he24 (hnot (decide_eq_false fun h5 => h4 ⟨h5.2.1, h5.2.2.1⟩)), fun h4 => ⟨trivial, trivial, N[i].hi, k24.rc rfl, ?_⟩⟩
      rw [ifB_dec]
      refine ⟨fun h5 => hbad he24 (hnot (decide_eq_false fun h6 => by have := h6.2.2.2; omega)), fun h5 => ⟨by simp only [fitsP]; omega, ih (i + 1) b m24 (by omega) (fun v hv => ?_) he24⟩⟩
      rw [List.take_add_one, hc] at hv
      rcases List.mem_append.1 hv with h6 | h6
      · exact hn v h6
      · have : v = N[i] := by simpa using h6
        rw [this]; exact decide_eq_true ⟨h3, h4.1, h4.2, by omega⟩
  exact hgo N.length 0 0 m6 (by omega) (by simp) e6
theorem s36 {r c sm : Int} {x y : C} {L : List Int} {N : List Cnt} {m : M} {Q : V → M → Prop} (hx : Li m x L) (hL : L.length ≤ 1048576) (hy : Lc m y N) (hN : N.length ≤ 1000) (h : ∀ m', Ext m m' → Q (.c (.int .i64 (svErr r c L sm N))) m') :
    Wc prog tbl 36 [.agg 5 [.int .i64 r, .int .i64 c, x, .int .i64 sm, y]] m Q := by
  refine w36 fun m0 e0 => ?_
  obtain ⟨b0, x0⟩ := Bk.new e0
  exact ⟨r, c, x, sm, y, b0.ra, s78 (hx.ext x0) hL (hy.ext x0) hN fun m7 e7 => ⟨_, rfl, h m7 (x0.trans e7)⟩⟩
end
end Go.Proofs.Ytgkjfhkjgdiodaa

namespace Go.Proofs.Ytgkjfhkjgdiodaa
open _root_.Go.Proofs.Try
open Go.Abs
set_option maxRecDepth 100000
noncomputable section
def sumA (a : Int) : List Int → Int
  | [] => a
  | v :: L => sumA (a + v) L
theorem sumA_step {L : List Int} {i : Nat} (hi : i < L.length) (a : Int) : sumA a (L.drop i) = sumA (a + L[i]) (L.drop (i + 1)) := by rw [List.drop_eq_getElem_cons hi]; rfl
theorem sumA_app : ∀ (L R : List Int) (a : Int), sumA a (L ++ R) = sumA (sumA a L) R
  | [], _, _ => rfl
  | v :: L, R, a => sumA_app L R (a + v)
theorem sumA_zero : ∀ (n : Nat) (a : Int), sumA a (List.replicate n 0) = a
  | 0, _ => rfl
  | n + 1, a => by rw [List.replicate_succ]; show sumA (a + 0) _ = a; rw [Int.add_zero]; exact sumA_zero n a
theorem sumA_ge {L : List Int} (h : ∀ v ∈ L, 0 ≤ v) : ∀ {a : Int}, 0 ≤ a → 0 ≤ sumA a L := by
  induction L with
  | nil => exact fun h => h
  | cons v L ih => exact fun {a} ha => ih (fun w hw => h w (List.mem_cons_of_mem _ hw)) (by have := h v (List.mem_cons_self ..); omega)
theorem sumA_le {L : List Int} (h : ∀ v ∈ L, v ≤ 9) : ∀ {a : Int}, sumA a L ≤ a + 9 * (L.length : Int) := by
  induction L with
  | nil => intro a; show a ≤ _; simp
  | cons v L ih =>
    intro a
    have h1 := ih (fun w hw => h w (List.mem_cons_of_mem _ hw)) (a := a + v)
    have h2 := h v (List.mem_cons_self ..)
    show sumA (a + v) L ≤ _
    rw [List.length_cons]; omega
theorem s96 {x : C} {L : List Int} {m : M} {Q : V → M → Prop} (hx : Li m x L) (hS : Small L) (hL : L.length ≤ 1000) (h : Q (.c (.int .i64 (sumA 0 L))) m) : Wc prog tbl 96 [.c x] m Q := by
  refine w96 ⟨hx.isSl, fun R0 hstep => ?_⟩
  have hgo : ∀ (d i : Nat) (a : Int), d + i = L.length → 0 ≤ a → a ≤ 9 * i → sumA a (L.drop i) = sumA 0 L → R0 [.c (.int .i64 a), .c (.int .i64 (i : Int))] m := by
    intro d
    induction d with
    | zero =>
      intro i a hd h0 ha heq
      refine hstep _ _ _ ?_
      rw [hx.slLen, ifB_dec]
      refine ⟨fun h1 => by omega, fun _ => ?_⟩
      rw [List.drop_eq_nil_of_le (by omega)] at heq
      rw [← heq] at h
      exact h
    | succ d ih =>
      intro i a hd h0 ha heq
      refine hstep _ _ _ ?_
      rw [hx.slLen, ifB_dec]
      refine ⟨fun _ => ?_, fun h1 => by omega⟩
      have hi : i < L.length := by omega
      have hv := small_at hS hi
      exact ⟨i, rfl, hi, L[i], Li.rd hx (List.getElem?_eq_getElem hi), fits_small (by omega) (by omega), fits_small (by omega) (by omega), ih (i + 1) _ (by omega) (by omega) (by omega) (by rw [← sumA_step hi]; exact heq)⟩
  exact hgo L.length 0 0 (by omega) (by omega) (by omega) rfl
theorem nine {H : List Int} (h : H.length = 9) : ∃ a0 a1 a2 a3 a4 a5 a6 a7 a8, H = [a0, a1, a2, a3, a4, a5, a6, a7, a8] := by
  match H, h with
  | [a0, a1, a2, a3, a4, a5, a6, a7, a8], _ => exact ⟨a0, a1, a2, a3, a4, a5, a6, a7, a8, rfl⟩
/-- the hits, with 0 beyond the places there are -/
def pad (H : List Int) : List Int := H ++ List.replicate (9 - H.length) 0
theorem pad_len {H : List Int} (h : H.length ≤ 9) : (pad H).length = 9 := by unfold pad; rw [List.length_append, List.length_replicate]; omega
theorem sum_pad (H : List Int) (a : Int) : sumA a (pad H) = sumA a H := by unfold pad; rw [sumA_app, sumA_zero]
theorem small_pad {H : List Int} (h : Small H) : Small (pad H) := fun v hv => by
  rcases List.mem_append.1 hv with h1 | h1
  · exact h v h1
  · have := (List.mem_replicate.1 h1).2; omega
def shareOf (L H : List Int) : Int := if sumA 0 L = 0 then 0 else sumA 0 H * 100 / sumA 0 L
theorem s75 {r c sm : Int} {x y : C} {L H : List Int} {m : M} {Q : V → M → Prop} (hx : Li m x L) (hS : Small L) (hL : L.length ≤ 9) (hH : H.length = 9) (hHS : Small H) (h : ∀ m', Ext m m' → Q (.c (.int .i64 (shareOf L H))) m') :
    Wc prog tbl 75 [.agg 5 [.int .i64 r, .int .i64 c, x, .int .i64 sm, y], .agg 9 (ints H)] m Q := by
  have hb0 := sumA_ge (L := L) (fun v hv => (hS v hv).1) (a := 0) (by omega)
  have hb1 := sumA_le (L := L) (fun v hv => (hS v hv).2) (a := 0)
  have hh0 := sumA_ge (L := H) (fun v hv => (hHS v hv).1) (a := 0) (by omega)
  have hh1 := sumA_le (L := H) (fun v hv => (hHS v hv).2) (a := 0)
  unfold shareOf at h
  obtain ⟨a0, a1, a2, a3, a4, a5, a6, a7, a8, rfl⟩ := nine hH
  refine w75 fun m0 e0 m1 e1 => ?_
  obtain ⟨b0, x0⟩ := Bk.new e0
  obtain ⟨b1, x1⟩ := Bk.new e1
  have b0' := b0.ext x1
  have x01 := x0.trans x1
  refine ⟨trivial, trivial, x, b0'.rc rfl, s96 (hx.ext x01) hS (by omega) ⟨_, rfl, ?_⟩⟩
  rw [ifB_dec]
  refine ⟨fun h0 => ?_, fun h0 => ?_⟩
  · have hq := h m1 x01
    rw [if_pos h0] at hq
    exact hq
  · have hsl : Li m1 (.sl m0.nxt 0 9 0 (some 9)) [a0, a1, a2, a3, a4, a5, a6, a7, a8] := ⟨rfl, .inr ⟨m0.nxt, 0, 0, some 9, rfl, b1.lt, fun _ => .inl ⟨9, _, false, b1.g, rfl, by simp [ints], rfl⟩⟩⟩
    refine ⟨0, 9, rfl, rfl, _, rfl, s96 hsl hHS (by simp) ⟨_, rfl, ?_⟩⟩
    have h1 : sumA 0 [a0, a1, a2, a3, a4, a5, a6, a7, a8] ≤ 81 := by simp only [List.length_cons, List.length_nil] at hh1; omega
    have h2 : 0 ≤ sumA 0 [a0, a1, a2, a3, a4, a5, a6, a7, a8] * 100 := by omega
    have h3 := Int.ediv_nonneg h2 hb0
    have h4 := Int.ediv_le_self (sumA 0 L) h2
    have hq := h m1 x01
    rw [if_neg h0] at hq
    exact ⟨hh0, by omega, fits_small (by omega) (by omega), h2, by omega, fits_small (by omega) (by omega), hq⟩
/-- the list has the hits of each place -/
def listed (L H : List Int) : Bool := decide (H.length = L.length ∧ ∀ i : Nat, i < L.length → 0 ≤ H[i]! ∧ H[i]! ≤ L[i]!)
theorem s39 {r c : Int} {x y : C} {L H : List Int} {m : M} {Q : V → M → Prop} (hx : Li m x L) (hL : L.length ≤ 1000) (hy : Li m y H) (h : ∀ m', Ext m m' → Q (.c (.bool (listed L H))) m') :
    Wc prog tbl 39 [.agg 3 [.int .i64 r, .int .i64 c, x], .c y] m Q := by
  refine w39 fun m0 e0 => ?_
  obtain ⟨b0, x0⟩ := Bk.new e0
  have hy0 := hy.ext x0
  have hfalse : listed L H = false → Q (.c (.bool false)) m0 := fun hf => by
    have := h m0 x0; rw [hf] at this; exact this
  refine ⟨hy.isSl, trivial, x, b0.rc rfl, hx.isSl, ?_⟩
  rw [hy.slLen, hx.slLen, ifB_ndec]
  refine ⟨fun h1 => hfalse (decide_eq_false fun h2 => h1 (by rw [h2.1])), fun h1 R2 hstep => ?_⟩
  have hl : H.length = L.length := by omega
  have hgo : ∀ (d i : Nat) (b : Bool), d + i = L.length → (∀ j : Nat, j < i → 0 ≤ H[j]! ∧ H[j]! ≤ L[j]!) → R2 [.c (.bool b), .c (.int .i64 (i : Int))] m0 := by
    intro d
    induction d with
    | zero =>
      intro i b hd hn
      refine hstep _ _ _ ⟨hy.isSl, ?_⟩
      rw [ifB_dec]
      refine ⟨fun h1 => by omega, fun _ => ?_⟩
      have hq := h m0 x0
      rw [show listed L H = true from decide_eq_true ⟨hl, fun i hi => hn i (by omega)⟩] at hq
      exact hq
    | succ d ih =>
      intro i b hd hn
      refine hstep _ _ _ ⟨hy.isSl, ?_⟩
      rw [ifB_dec]
      refine ⟨fun _ => ?_, fun h1 => by omega⟩
      have hi : i < L.length := by omega
      have hi2 : i < H.length := by omega
      have e1 : H[i]! = H[i] := getElem!_pos H i hi2
      have e2 : L[i]! = L[i] := getElem!_pos L i hi
      refine ⟨i, rfl, hi2, H[i], Li.rd hy0 (List.getElem?_eq_getElem hi2), trivial, x, b0.rc rfl, i, rfl, by rw [hx.slLen]; exact hi, L[i], Li.rd (hx.ext x0) (List.getElem?_eq_getElem hi), s44 ⟨_, rfl, ?_⟩⟩
      rw [ifB_ndec]
      refine ⟨fun h2 => hfalse (decide_eq_false fun h3 => h2 (by have := h3.2 i hi; rw [e1, e2] at this; exact this)), fun h2 => ⟨fits_small (by omega) (by omega), ih (i + 1) b (by omega) fun j hj => ?_⟩⟩
      by_cases hji : j = i
      · subst hji; rw [e1, e2]; exact h2
      · exact hn j (by omega)
  exact hgo L.length 0 false (by omega) (by intro j hj; omega)
end
end Go.Proofs.Ytgkjfhkjgdiodaa

namespace Go.Proofs.Ytgkjfhkjgdiodaa
open _root_.Go.Proofs.Try
open Go.Abs
set_option maxRecDepth 100000
noncomputable section
theorem get9 {m : M} {b : Nat} {P : List Int} (hb : Bk m b 9 (ints P)) (hP : P.length = 9) (T : List C → Prop) (h : T (ints P)) :
    ∃ x0 x1 x2 x3 x4 x5 x6 x7 x8 : Int, ldA m (.ptr b 0) 9 = some [.int .i64 x0, .int .i64 x1, .int .i64 x2, .int .i64 x3, .int .i64 x4, .int .i64 x5, .int .i64 x6, .int .i64 x7, .int .i64 x8] ∧ T [.int .i64 x0, .int .i64 x1, .int .i64 x2, .int .i64 x3, .int .i64 x4, .int .i64 x5, .int .i64 x6, .int .i64 x7, .int .i64 x8] := by
  obtain ⟨a0, a1, a2, a3, a4, a5, a6, a7, a8, rfl⟩ := nine hP
  exact ⟨a0, a1, a2, a3, a4, a5, a6, a7, a8, hb.ra, h⟩
theorem pad_at {H : List Int} {i : Nat} (hi : i < H.length) (h9 : H.length ≤ 9) : (pad H)[i]? = some H[i] := by
  unfold pad; rw [List.getElem?_append_left hi]; exact List.getElem?_eq_getElem hi
theorem pad_set {H : List Int} {i : Nat} (hi : i < H.length) (h9 : H.length ≤ 9) : (pad (H.take i)).set i H[i] = pad (H.take (i + 1)) := by
  unfold pad
  rw [List.length_take, List.length_take, Nat.min_eq_left (by omega), Nat.min_eq_left (by omega), List.take_add_one, List.getElem?_eq_getElem hi]
  rw [show 9 - i = (9 - (i + 1)) + 1 by omega, List.replicate_succ, List.set_append_right _ _ (by rw [List.length_take]; omega)]
  rw [List.length_take, Nat.min_eq_left (by omega), Nat.sub_self, List.append_assoc]
  rfl
theorem ints_set (L : List Int) (i : Nat) (v : Int) : (ints L).set i (.int .i64 v) = ints (L.set i v) := by unfold ints; rw [List.map_set]
def zero9 : List Int := List.replicate 9 0
def hitsV (L H : List Int) : List Int := if listed L H then pad H else zero9
theorem listed_len {L H : List Int} (h : listed L H = true) : H.length = L.length := (of_decide_eq_true h).1
theorem listed_at {L H : List Int} (h : listed L H = true) {i : Nat} (hi : i < L.length) (hi2 : i < H.length) : 0 ≤ H[i] ∧ H[i] ≤ L[i] := by
  have h1 := (of_decide_eq_true h).2 i hi
  rw [getElem!_pos H i hi2, getElem!_pos L i hi] at h1
  exact h1
theorem small_listed {L H : List Int} (hS : Small L) (h : listed L H = true) : Small H := fun v hv => by
  obtain ⟨i, hi, rfl⟩ := List.getElem_of_mem hv
  have hi2 : i < L.length := by rw [← listed_len h]; exact hi
  have := listed_at h hi2 hi
  have := hS _ (List.getElem_mem hi2)
  omega
def Ret9 (Q : V → M → Prop) (b : Bool) (a : Nat) (m8 : M) : Prop := ∃ x9 x10 x11 x12 x13 x14 x15 x16 x17 : Int, ldA m8 (.ptr a 0) 9 = some [.int .i64 x9, .int .i64 x10, .int .i64 x11, .int .i64 x12, .int .i64 x13, .int .i64 x14, .int .i64 x15, .int .i64 x16, .int .i64 x17] ∧ Q (.tup [.agg 9 [.int .i64 x9, .int .i64 x10, .int .i64 x11, .int .i64 x12, .int .i64 x13, .int .i64 x14, .int .i64 x15, .int .i64 x16, .int .i64 x17], .c (.bool b)]) m8
/-- hitsOf -/
theorem s74 {r c : Int} {x y : C} {L H : List Int} {m : M} {Q : V → M → Prop} (hx : Li m x L) (hf : isField r c L = true) (hH : H.length ≤ 1000) (hy : Li m y H)
    (h : ∀ m', Ext m m' → Q (.tup [.agg 9 (ints (hitsV L H)), .c (.bool (listed L H))]) m') : Wc prog tbl 74 [.agg 3 [.int .i64 r, .int .i64 c, x], .c y] m Q := by
  obtain ⟨hS, hL, hrc⟩ := field_of hf
  have hsd := sides_of hf
  have hm := hsd.mul
  refine w74 fun m0 e0 m1 e1 => ?_
  obtain ⟨b0, x0⟩ := Bk.new e0
  obtain ⟨b1, x1⟩ := Bk.new e1
  have b0' := b0.ext x1
  have x01 := x0.trans x1
  refine ⟨hy.isSl, r, c, x, b0'.ra, s88 (by have := hsd.r1; omega) (by have := hsd.c1; omega) (fits_small (by omega) (by omega)) fun m6 e6 => ⟨_, rfl, ?_⟩⟩
  have x06 := x01.trans e6
  have hset : ∀ {m22 : M} (vs : List C), Ext m m22 → m.nxt < m0.nxt → Ext m (m22.set m0.nxt (.cells 9 vs false)) := fun vs e hlt => e.setR (Nat.le_of_lt hlt) _
  have hlt : m.nxt < m0.nxt := b0.lt
  have hfalse : ∀ {m22 : M}, Ext m m22 → Bk m22 m0.nxt 9 (ints zero9) → listed L H = false → (∃ m8 : M, stC m22 (.ptr m0.nxt 0) 9 (ints zero9) = some m8 ∧ Ret9 Q false m0.nxt m8) := fun {m22} e hb hl => by
    refine ⟨_, hb.st _, get9 (hb.set _) rfl (fun l => Q (.tup [.agg 9 l, .c (.bool false)]) _) ?_⟩
    have hq := h _ (hset (ints zero9) e hlt)
    unfold hitsV at hq
    rw [hl] at hq
    exact hq
  rw [hy.slLen, ifB_ndec]
  refine ⟨fun h1 => hfalse x06 (b1.ext e6) (decide_eq_false fun h2 => h1 (by rw [h2.1]; exact hrc)), fun h1 m18 h18 => ⟨hy.isSl, fun R19 hstep => ?_⟩⟩
  have hl : H.length = L.length := by omega
  obtain ⟨b18, x18⟩ := Bk.new h18
  have hgo : ∀ (d i : Nat) (b : Bool) (m22 : M), d + i = L.length → (∀ j : Nat, j < i → 0 ≤ H[j]! ∧ H[j]! ≤ L[j]!) → Ext m6 m22 → Bk m22 m6.nxt 9 (ints (pad (H.take i))) → R19 [.c (.bool b), .c (.int .i64 (i : Int))] m22 := by
    intro d
    induction d with
    | zero =>
      intro i b m22 hd hn he hbk
      refine hstep _ _ _ ?_
      rw [ifB_dec]
      refine ⟨fun h1 => by omega, fun _ => ?_⟩
      have hlt : listed L H = true := decide_eq_true ⟨hl, fun j hj => hn j (by omega)⟩
      have hbk' : Bk m22 m6.nxt 9 (ints (pad H)) := by rw [List.take_of_length_le (by omega)] at hbk; exact hbk
      have b1' := (b1.ext e6).ext he
      refine get9 hbk' (pad_len (by omega)) (fun l => ∃ m59, stC m22 (.ptr m0.nxt 0) 9 l = some m59 ∧ Ret9 Q true m0.nxt m59) ⟨_, b1'.st _, get9 (b1'.set _) (pad_len (by omega)) (fun l => Q (.tup [.agg 9 l, .c (.bool true)]) _) ?_⟩
      have hq := h _ (hset (ints (pad H)) (x06.trans he) b0.lt)
      unfold hitsV at hq
      rw [hlt] at hq
      exact hq
    | succ d ih =>
      intro i b m22 hd hn he hbk
      refine hstep _ _ _ ?_
      rw [ifB_dec]
      refine ⟨fun _ => ?_, fun h1 => by omega⟩
      have hi : i < L.length := by omega
      have hi2 : i < H.length := by omega
      have ex := x06.trans he
      have e1 : H[i]! = H[i] := getElem!_pos H i hi2
      have e2 : L[i]! = L[i] := getElem!_pos L i hi
      have b1' := (b1.ext e6).ext he
      refine ⟨i, rfl, hi2, H[i], Li.rd (hy.ext ex) (List.getElem?_eq_getElem hi2), ?_⟩
      rw [ifB_dec]
      refine ⟨fun h2 => hfalse ex b1' (decide_eq_false fun h3 => by have := h3.2 i hi; rw [e1] at this; omega), fun h2 => ⟨trivial, x, ((b0'.ext e6).ext he).rc rfl, i, rfl, by rw [hx.slLen]; exact hi, L[i], Li.rd (hx.ext ex) (List.getElem?_eq_getElem hi), ?_⟩⟩
      rw [ifB_dec]
      refine ⟨fun h3 => hfalse ex b1' (decide_eq_false fun h4 => by have := h4.2 i hi; rw [e1, e2] at this; omega), fun h3 => ⟨trivial, i, rfl, by omega, ?_⟩⟩
      have hat := stC_at hbk.g (k := 0 + i * 1) (.int .i64 H[i]) (by rw [ints_len, pad_len (by rw [List.length_take]; omega)]; omega) (by rw [ints_len, pad_len (by rw [List.length_take]; omega)]) (by omega)
      refine ⟨_, hat, fits_small (by omega) (by omega), ih (i + 1) b _ (by omega) (fun j hj => ?_) (he.setR (Nat.le_refl _) _) ?_⟩
      · by_cases hji : j = i
        · subst hji; rw [e1, e2]; omega
        · exact hn j (by omega)
      · rw [ints_set, show 0 + i * 1 = i by omega, pad_set hi2 (by omega)]
        exact hbk.set _
  exact hgo L.length 0 false m18 (by omega) (by intro j hj; omega) x18 b18
end
end Go.Proofs.Ytgkjfhkjgdiodaa

namespace Go.Proofs.Ytgkjfhkjgdiodaa
open _root_.Go.Proofs.Try
open Go.Abs
set_option maxRecDepth 100000
noncomputable section
def at' (P : List Int) (k : Int) : Int := P[k.toNat]!
theorem at_rc {m : M} {b : Nat} {P : List Int} (hb : Bk m b 9 (ints P)) {k : Nat} (hk : k < P.length) : ldC m (.ptr b (0 + k * 1)) = some (.int .i64 (at' P (k : Int))) := by
  have h1 : at' P (k : Int) = P[k] := getElem!_pos P k hk
  rw [h1, show 0 + k * 1 = k by omega]
  exact hb.rc (ints_at (List.getElem?_eq_getElem hk))
theorem at_small {P : List Int} (hS : Small P) (k : Int) (hk : k.toNat < P.length) : 0 ≤ at' P k ∧ at' P k ≤ 9 := by
  have h1 : at' P k = P[k.toNat] := getElem!_pos P k.toNat hk
  rw [h1]; exact small_at hS hk
def dif (a b : Int) : Int := max (a - b) (b - a)
theorem s123 {r c sm a b : Int} {x y : C} {m : M} {Q : V → M → Prop} (ha : 0 ≤ a ∧ a ≤ 9) (hb : 0 ≤ b ∧ b ≤ 9) (h : ∀ m', Ext m m' → Q (.c (.bool (decide (sm < dif a b)))) m') :
    Wc prog tbl 123 [.agg 5 [.int .i64 r, .int .i64 c, x, .int .i64 sm, y], .c (.int .i64 a), .c (.int .i64 b)] m Q := by
  refine w123 fun m0 e0 => ?_
  obtain ⟨b0, x0⟩ := Bk.new e0
  exact ⟨fits_small (by omega) (by omega), fits_small (by omega) (by omega), trivial, sm, b0.rc rfl, h m0 x0⟩
def jumpsB (c sm : Int) (P : List Int) (i : Int) : Bool := decide ((0 < i % c ∧ sm < dif (at' P i) (at' P (i - 1))) ∨ (0 ≤ i - c ∧ sm < dif (at' P i) (at' P (i - c))))
theorem s112 {r c sm : Int} {x y : C} {P : List Int} {i : Nat} {m : M} {Q : V → M → Prop} (hP : P.length = 9) (hS : Small P) (hc : 1 ≤ c) (hc4 : c ≤ 4) (hi : i < 9) (h : ∀ m', Ext m m' → Q (.c (.bool (jumpsB c sm P i))) m') :
    Wc prog tbl 112 [.agg 5 [.int .i64 r, .int .i64 c, x, .int .i64 sm, y], .agg 9 (ints P), .c (.int .i64 (i : Int))] m Q := by
  have hsm : ∀ k : Int, 0 ≤ k → k < 9 → 0 ≤ at' P k ∧ at' P k ≤ 9 := fun k h0 h9 => at_small hS k (by omega)
  have hrc : ∀ {m' : M} {b : Nat} {k : Nat}, Bk m' b 9 (ints P) → k < 9 → ldC m' (.ptr b (0 + k * 1)) = some (.int .i64 (at' P (k : Int))) := fun hb hk => at_rc hb (by omega)
  have hmod : 0 ≤ (i : Int) % c := Int.emod_nonneg _ (by omega)
  have hmod2 : (i : Int) % c < c := Int.emod_lt_of_pos _ (by omega)
  have hcol : ∀ {m0 m14 : M}, Ext m m14 → Bk m14 m.nxt 5 [.int .i64 r, .int .i64 c, x, .int .i64 sm, y] → Bk m14 m0.nxt 9 (ints P) → ¬ (0 < (i : Int) % c ∧ sm < dif (at' P i) (at' P ((i : Int) - 1))) →
      ifB (decide ((0 : Int) ≤ ((i : Int) - c))) (∃ x16 : Int, (∃ x17 : Int, (∃ c18 : C, (∃ x19 : Int, (∃ c20 : C, (((ldA m14 (C.ptr (m).nxt 0) 5) = (Option.some [(C.int IntKind.i64 x16), (C.int IntKind.i64 x17), c18, (C.int IntKind.i64 x19), c20])) ∧ (isPt (C.ptr (m0).nxt 0) ∧
        (∃ n21 : Nat, (((i : Int) = ((n21 : Nat) : Int)) ∧ ((n21 < 9) ∧ (∃ x22 : Int, (((ldC m14 (C.ptr (m0).nxt (0 + (n21 * 1)))) = (Option.some (C.int IntKind.i64 x22))) ∧
        (isPt (C.ptr (m0).nxt 0) ∧ (∃ n23 : Nat, ((((i : Int) - c) = ((n23 : Nat) : Int)) ∧ ((n23 < 9) ∧ (∃ x24 : Int, (((ldC m14 (C.ptr (m0).nxt (0 + (n23 * 1)))) = (Option.some (C.int IntKind.i64 x24))) ∧
        (Wc prog tbl 123 [(V.agg 5 [(C.int IntKind.i64 x16), (C.int IntKind.i64 x17), c18, (C.int IntKind.i64 x19), c20]), (V.c (C.int IntKind.i64 x22)), (V.c (C.int IntKind.i64 x24))] m14 (fun v25 m26 =>
        (∃ b27 : Bool, ((v25 = (V.c (C.bool b27))) ∧ (Q (V.c (C.bool b27)) m26))))))))))))))))))))))) (Q (V.c (C.bool false)) m14) := fun {m0 m14} e hb hb1 hno => by
    rw [ifB_dec]
    refine ⟨fun h0 => ?_, fun h0 => ?_⟩
    · obtain ⟨k, hk⟩ : ∃ k : Nat, (i : Int) - c = (k : Int) := ⟨((i : Int) - c).toNat, by omega⟩
      refine ⟨r, c, x, sm, y, hb.ra, trivial, i, rfl, hi, at' P i, hrc hb1 hi, trivial, k, hk, by omega, at' P k, hrc hb1 (by omega), s123 (hsm _ (by omega) (by omega)) (hsm _ (by omega) (by omega)) fun m26 e26 => ⟨_, rfl, ?_⟩⟩
      have hq := h m26 (e.trans e26)
      have : jumpsB c sm P i = decide (sm < dif (at' P i) (at' P k)) := by
        unfold jumpsB
        rw [hk]
        exact decide_eq_decide.2 ⟨fun h1 => h1.elim (fun h2 => absurd h2 hno) fun h2 => h2.2, fun h1 => .inr ⟨by omega, h1⟩⟩
      rw [this] at hq
      exact hq
    · have hq := h m14 e
      have : jumpsB c sm P i = false := decide_eq_false fun h1 => h1.elim hno fun h2 => h0 h2.1
      rw [this] at hq
      exact hq
  obtain ⟨a0, a1, a2, a3, a4, a5, a6, a7, a8, hPe⟩ := nine hP
  rw [show ints P = ints [a0, a1, a2, a3, a4, a5, a6, a7, a8] by rw [← hPe]]
  refine w112 fun m0 e0 m1 e1 => ?_
  obtain ⟨b0, x0⟩ := Bk.new e0
  obtain ⟨b1', x1⟩ := Bk.new e1
  have b1 : Bk m1 m0.nxt 9 (ints P) := by rw [hPe]; exact b1'
  have b0' := b0.ext x1
  have x01 := x0.trans x1
  refine ⟨fits_small (by omega) (by omega), trivial, trivial, c, b0'.rc rfl, fits_small (by omega) (by omega), trivial, trivial, c, b0'.rc rfl, by omega, by omega, fits_small (by omega) (by omega), ?_⟩
  rw [ifB_dec]
  refine ⟨fun h0 => ?_, fun h0 => hcol x01 b0' b1 fun h1 => h0 h1.1⟩
  have hi1 : 1 ≤ i := by
    rcases Nat.eq_zero_or_pos i with rfl | h1
    · simp at h0
    · exact h1
  obtain ⟨k, hk⟩ : ∃ k : Nat, (i : Int) - 1 = (k : Int) := ⟨i - 1, by omega⟩
  refine ⟨r, c, x, sm, y, b0'.ra, trivial, i, rfl, hi, at' P i, hrc b1 hi, trivial, k, hk, by omega, at' P k, hrc b1 (by omega), s123 (hsm _ (by omega) (by omega)) (hsm _ (by omega) (by omega)) fun m14 e14 => ⟨_, rfl, ?_⟩⟩
  have xe := x01.trans e14
  rw [ifB_dec]
  refine ⟨fun h1 => ?_, fun h1 => hcol xe (b0'.ext e14) (b1.ext e14) fun h2 => h1 (by rw [← hk]; exact h2.2)⟩
  have hq := h m14 xe
  have : jumpsB c sm P i = true := decide_eq_true (.inl ⟨h0, by rw [hk]; exact h1⟩)
  rw [this] at hq
  exact hq
end
end Go.Proofs.Ytgkjfhkjgdiodaa

namespace Go.Abs
set_option maxRecDepth 100000
noncomputable section
open Classical
variable {P : Program} {kt : TypeId} {κ : Type} {enc : κ → U}
/-- the keys of a map are like a type of ours -/
structure KeyLike (P : Program) (kt : TypeId) (enc : κ → U) : Prop where
  plain : ∃ ks, plainK P kt = some ks
  eq : ∀ a b : κ, eqV P kt (uV (enc a)) (uV (enc b)) = some (decide (a = b))
def Keys (enc : κ → U) (es : List E) : Prop := ∀ e ∈ es, ∃ a, e.k = enc a
def look (enc : κ → U) (es : List E) (a : κ) : Option U :=
  match es with
  | [] => none
  | e :: es => if e.k = enc a then some e.v else look enc es a
theorem KeyLike.inj (h : KeyLike P kt enc) {a b : κ} (he : enc a = enc b) : a = b := by
  have h1 := h.eq a b
  rw [he, h.eq b b] at h1
  simpa using h1
theorem vU_uV (u : U) : vU (uV u) = some u := by cases u <;> rfl
theorem find_look (h : KeyLike P kt enc) (a : κ) : ∀ {es : List E} (i : Nat), Keys enc es → ∃ r, findE P kt (uV (enc a)) es i = some r ∧ optB r none (fun q => some q.2) = look enc es a ∧
    ∀ yu : U, ∀ clock : Nat, Keys enc (optB r (appS es [{ k := enc a, v := yu, born := clock }]) fun q => setEntry (enc a) yu es (q.1 - i)) ∧
      (∀ b, look enc (optB r (appS es [{ k := enc a, v := yu, born := clock }]) fun q => setEntry (enc a) yu es (q.1 - i)) b = if b = a then some yu else look enc es b) ∧ (∀ q, r = some q → i ≤ q.1)
  | [], i, _ => by
    refine ⟨none, rfl, rfl, fun yu clock => ⟨?_, fun b => ?_, fun q hq => by cases hq⟩⟩
    · intro e he
      have : e = { k := enc a, v := yu, born := clock } := by simpa [appS, optB] using he
      exact ⟨a, by rw [this]⟩
    · show look enc [_] b = _
      unfold look
      by_cases hb : b = a
      · rw [if_pos hb, if_pos (by rw [hb])]
      · rw [if_neg hb, if_neg fun he => hb (h.inj he).symm]; rfl
  | e :: es, i, hk => by
    obtain ⟨a', ha'⟩ := hk e (List.mem_cons_self ..)
    have hk' : Keys enc es := fun e he => hk e (List.mem_cons_of_mem _ he)
    obtain ⟨r, hr, hl, hu⟩ := find_look h a (i + 1) hk'
    have he : findE P kt (uV (enc a)) (e :: es) i = optB (eqV P kt (uV (enc a)) (uV e.k)) none fun b => ifB b (some (some (i, e.v))) (findE P kt (uV (enc a)) es (i + 1)) := rfl
    rw [ha', h.eq] at he
    by_cases haa : a = a'
    · have he2 : findE P kt (uV (enc a)) (e :: es) i = some (some (i, e.v)) := by rw [he, decide_eq_true haa]; rfl
      refine ⟨_, he2, ?_, fun yu clock => ⟨?_, fun b => ?_, fun q hq => ?_⟩⟩
      · show some e.v = if e.k = enc a then some e.v else look enc es a
        rw [if_pos (by rw [ha', haa])]
      · show Keys enc (setEntry (enc a) yu (e :: es) (i - i))
        rw [Nat.sub_self]
        intro e' he'
        rcases List.mem_cons.1 he' with rfl | h2
        · exact ⟨a, rfl⟩
        · exact hk' _ h2
      · show look enc (setEntry (enc a) yu (e :: es) (i - i)) b = _
        rw [Nat.sub_self]
        show (if enc a = enc b then some yu else look enc es b) = if b = a then some yu else if e.k = enc b then some e.v else look enc es b
        by_cases hb : b = a
        · rw [if_pos hb, if_pos (by rw [hb])]
        · rw [if_neg hb, if_neg fun he => hb (h.inj he).symm, if_neg fun he => hb (by rw [ha'] at he; rw [haa]; exact (h.inj he).symm)]
      · cases hq; exact Nat.le_refl _
    · have he2 : findE P kt (uV (enc a)) (e :: es) i = some r := by rw [he, decide_eq_false haa]; exact hr
      refine ⟨r, he2, ?_, fun yu clock => ?_⟩
      · rw [hl]
        show look enc es a = if e.k = enc a then some e.v else look enc es a
        rw [if_neg fun h2 => haa (by rw [ha'] at h2; exact (h.inj h2).symm)]
      · obtain ⟨u1, u2, u3⟩ := hu yu clock
        have hcons : (optB r (appS (e :: es) [{ k := enc a, v := yu, born := clock }]) fun q => setEntry (enc a) yu (e :: es) (q.1 - i)) = e :: (optB r (appS es [{ k := enc a, v := yu, born := clock }]) fun q => setEntry (enc a) yu es (q.1 - (i + 1))) := by
          cases r with
          | none =>
            show consS e _ = _
            exact consS_eq e _
          | some q =>
            have := u3 q rfl
            show setEntry (enc a) yu (e :: es) (q.1 - i) = e :: setEntry (enc a) yu es (q.1 - (i + 1))
            rw [show q.1 - i = (q.1 - (i + 1)) + 1 by omega]
            show consS e _ = _
            exact consS_eq e _
        rw [hcons]
        refine ⟨fun e' he' => ?_, fun b => ?_, fun q hq => by have := u3 q hq; omega⟩
        · rcases List.mem_cons.1 he' with rfl | h2
          · exact ⟨a', ha'⟩
          · exact u1 _ h2
        · show (if e.k = enc b then some e.v else look enc _ b) = if b = a then some yu else if e.k = enc b then some e.v else look enc es b
          rw [u2]
          by_cases h3 : e.k = enc b
          · rw [if_pos h3, if_pos h3, if_neg fun h4 => haa (by rw [h4, ha'] at h3; exact (h.inj h3).symm)]
          · rw [if_neg h3, if_neg h3]
/-- a map's block -/
structure Mp (enc : κ → U) (m : M) (b : Nat) (f : κ → Option U) : Prop where
  ex : ∃ es clock, m.g b = some (.map es clock) ∧ Keys enc es ∧ ∀ a, look enc es a = f a
  lt : b < m.nxt
theorem Mp.new {m m0 : M} (h : m0 = m.new (.map [] 0)) : Mp enc m0 m.nxt (fun _ => none) ∧ Ext m m0 := by
  subst h
  exact ⟨⟨⟨[], 0, by rw [M.g_new, if_pos rfl], fun e he => (by cases he), fun _ => rfl⟩, by rw [M.nxt_new]; omega⟩, Ext.new m _⟩
theorem Mp.ext {m m' : M} {b : Nat} {f : κ → Option U} (h : Mp enc m b f) (e : Ext m m') : Mp enc m' b f := by
  obtain ⟨es, clock, h1, h2⟩ := h.ex
  exact ⟨⟨es, clock, (e.g b h.lt).trans h1, h2⟩, Nat.lt_of_lt_of_le h.lt e.nxt⟩
theorem Mp.setNe {m : M} {b c : Nat} {f : κ → Option U} (h : Mp enc m b f) (hc : b ≠ c) (o : AO) : Mp enc (m.set c o) b f := by
  obtain ⟨es, clock, h1, h2⟩ := h.ex
  exact ⟨⟨es, clock, by rw [M.g_set, if_neg hc]; exact h1, h2⟩, h.lt⟩
theorem Mp.lk (hK : KeyLike P kt enc) {m : M} {b : Nat} {f : κ → Option U} (h : Mp enc m b f) (a : κ) {k : V} (hk : k = uV (enc a)) : lkM P kt m (.map b) k = some (f a) := by
  subst hk
  obtain ⟨es, clock, h1, h2, h3⟩ := h.ex
  obtain ⟨ks, hp⟩ := hK.plain
  obtain ⟨r, hr, hl, _⟩ := find_look hK a 0 h2
  unfold lkM
  rw [hp, optB_some, hK.eq, optB_some, ← h3 a, ← hl]
  simp only [h1]
  rw [hr]; rfl
theorem Mp.up (hK : KeyLike P kt enc) {m : M} {b : Nat} {f : κ → Option U} (h : Mp enc m b f) (a : κ) (y : U) {k yv : V} (hk : k = uV (enc a)) (hy : yv = uV y) :
    ∃ o, upM P kt m (.map b) k yv = some (m.set b o) ∧ Mp enc (m.set b o) b (fun b => if b = a then some y else f b) := by
  subst hk hy
  obtain ⟨es, clock, h1, h2, h3⟩ := h.ex
  obtain ⟨ks, hp⟩ := hK.plain
  obtain ⟨r, hr, _, hu⟩ := find_look hK a 0 h2
  obtain ⟨u1, u2, _⟩ := hu y clock
  unfold upM
  rw [hp, optB_some]
  simp only [h1]
  rw [vU_uV, optB_some, vU_uV, optB_some, hK.eq, optB_some, hr, optB_some]
  cases r with
  | none => exact ⟨_, rfl, ⟨_, _, (by rw [M.g_set, if_pos rfl]; rfl), u1, fun b => by rw [u2, h3]⟩, h.lt⟩
  | some q => exact ⟨_, rfl, ⟨_, _, (by rw [M.g_set, if_pos rfl]; rfl), u1, fun b => by have := u2 b; rw [h3] at this; exact this⟩, h.lt⟩
end
end Go.Abs

namespace Go.Proofs.Ytgkjfhkjgdiodaa
open _root_.Go.Proofs.Try
open Go.Abs
set_option maxRecDepth 100000
noncomputable section
def bls (B : List Bool) : List C := B.map C.bool
theorem bls_len (B : List Bool) : (bls B).length = B.length := by simp [bls]
theorem bls_at {B : List Bool} {i : Nat} (h : i < B.length) : (bls B)[i]? = some (.bool B[i]) := by simp [bls, h]
theorem bls_set (B : List Bool) (i : Nat) (v : Bool) : (bls B).set i (.bool v) = bls (B.set i v) := by unfold bls; rw [List.map_set]
theorem six {H : List Bool} (h : H.length = 6) : ∃ a0 a1 a2 a3 a4 a5, H = [a0, a1, a2, a3, a4, a5] := by
  match H, h with
  | [a0, a1, a2, a3, a4, a5], _ => exact ⟨a0, a1, a2, a3, a4, a5, rfl⟩
theorem bls_rc {m : M} {b : Nat} {B : List Bool} (hb : Bk m b 6 (bls B)) {k : Nat} (hk : k < B.length) : ldC m (.ptr b (0 + k * 1)) = some (.bool B[k]) := by
  rw [show 0 + k * 1 = k by omega]
  exact hb.rc (bls_at hk)
def within (B O : List Bool) : Bool := decide (∀ i : Nat, i < 6 → B[i]! = true → O[i]! = true)
theorem s113 {B O : List Bool} {m : M} {Q : V → M → Prop} (hB : B.length = 6) (hO : O.length = 6) (h : ∀ m', Ext m m' → Q (.c (.bool (within B O))) m') :
    Wc prog tbl 113 [.agg 6 (bls B), .agg 6 (bls O)] m Q := by
  obtain ⟨a0, a1, a2, a3, a4, a5, hBe⟩ := six hB
  obtain ⟨o0, o1, o2, o3, o4, o5, hOe⟩ := six hO
  rw [show bls B = bls [a0, a1, a2, a3, a4, a5] by rw [← hBe], show bls O = bls [o0, o1, o2, o3, o4, o5] by rw [← hOe]]
  refine w113 fun m0 e0 m1 e1 R2 hstep => ?_
  obtain ⟨b0', x0⟩ := Bk.new e0
  obtain ⟨b1', x1⟩ := Bk.new e1
  have b0 : Bk m1 m.nxt 6 (bls B) := by rw [hBe]; exact b0'.ext x1
  have b1 : Bk m1 m0.nxt 6 (bls O) := by rw [hOe]; exact b1'
  have x01 := x0.trans x1
  have hgo : ∀ (d i : Nat) (b : Bool), d + i = 6 → (∀ j : Nat, j < i → B[j]! = true → O[j]! = true) → R2 [.c (.bool b), .c (.int .i64 (i : Int))] m1 := by
    intro d
    induction d with
    | zero =>
      intro i b hd hn
      refine hstep _ _ _ ?_
      rw [ifB_dec]
      refine ⟨fun h1 => by omega, fun _ => ?_⟩
      have hq := h m1 x01
      rw [show within B O = true from decide_eq_true fun j hj => hn j (by omega)] at hq
      exact hq
    | succ d ih =>
      intro i b hd hn
      refine hstep _ _ _ ?_
      rw [ifB_dec]
      refine ⟨fun _ => ?_, fun h1 => by omega⟩
      have hi : i < B.length := by omega
      have hi2 : i < O.length := by omega
      have e1 : B[i]! = B[i] := getElem!_pos B i hi
      have e2 : O[i]! = O[i] := getElem!_pos O i hi2
      have hnext : (B[i] = true → O[i] = true) → R2 [.c (.bool b), .c (.int .i64 ((i + 1 : Nat) : Int))] m1 := fun hh => ih (i + 1) b (by omega) fun j hj => by
        by_cases hji : j = i
        · subst hji; rw [e1, e2]; exact hh
        · exact hn j (by omega)
      refine ⟨trivial, i, rfl, by omega, B[i], bls_rc b0 hi, ?_⟩
      rw [ifB_iff]
      refine ⟨fun h2 => ⟨trivial, i, rfl, by omega, O[i], bls_rc b1 hi2, ?_⟩, fun h2 => ⟨fits_small (by omega) (by omega), hnext fun h3 => by rw [h2] at h3; cases h3⟩⟩
      rw [ifB_iff]
      refine ⟨fun h3 => ?_, fun h3 => ⟨fits_small (by omega) (by omega), hnext fun _ => by simpa using h3⟩⟩
      have hq := h m1 x01
      rw [show within B O = false from decide_eq_false fun h4 => by have := h4 i (by omega); rw [e1, e2, h2] at this; rw [this rfl] at h3; cases h3] at hq
      exact hq
  exact hgo 6 0 false (by omega) (by intro j hj; omega)
abbrev Spot := Fin 16 × Fin 16
def encS (a : Spot) : U := .agg 2 [.int .i64 (a.1.val : Int), .int .i64 (a.2.val : Int)]
theorem eqK_int {a b : Int} (ha : fitsP .i64 a) (hb : fitsP .i64 b) : eqK (.int .i64) (.int .i64 a) (.int .i64 b) = some (decide (a = b)) := by
  show ifB (Go.Abs.fits .i64 a) (ifB (Go.Abs.fits .i64 b) (some (intEq a b)) none) none = _
  rw [fits_of ha, fits_of hb, intEq_eq]; rfl
theorem keyS : KeyLike prog 138 encS := by
  have hpl : plainK prog 138 = some [.int .i64, .int .i64] := by kernel_rfl
  have hag : isAggT prog 138 = true := by kernel_rfl
  refine ⟨⟨_, hpl⟩, fun a b => ?_⟩
  unfold eqV
  rw [hpl, optB_some]
  show optB (ifB (isAggT prog 138) (some [.int .i64 (a.1.val : Int), .int .i64 (a.2.val : Int)]) none) none (fun xs => optB (ifB (isAggT prog 138) (some [.int .i64 (b.1.val : Int), .int .i64 (b.2.val : Int)]) none) none fun ys => eqKs [.int .i64, .int .i64] xs ys) = _
  rw [hag]
  have f1 : ∀ n : Fin 16, fitsP .i64 (n.val : Int) := fun n => fits_small (by omega) (by omega)
  show optB (eqK (.int .i64) (.int .i64 (a.1.val : Int)) (.int .i64 (b.1.val : Int))) none (fun b1 => optB (optB (eqK (.int .i64) (.int .i64 (a.2.val : Int)) (.int .i64 (b.2.val : Int))) none fun b2 => optB (some true) none fun r => some (ifB b2 r false)) none fun r => some (ifB b1 r false)) = _
  rw [eqK_int (f1 _) (f1 _), eqK_int (f1 _) (f1 _)]
  show some (ifB (decide ((a.1.val : Int) = b.1.val)) (ifB (decide ((a.2.val : Int) = b.2.val)) true false) false) = _
  congr 1
  refine Eq.trans (b := decide ((a.1.val : Int) = b.1.val ∧ (a.2.val : Int) = b.2.val)) ?_ (decide_eq_decide.2 ⟨fun h => Prod.ext (Fin.ext (by omega)) (Fin.ext (by omega)), fun h => by rw [h]; exact ⟨rfl, rfl⟩⟩)
  rw [Bool.decide_and]
  generalize decide ((a.1.val : Int) = b.1.val) = u
  generalize decide ((a.2.val : Int) = b.2.val) = v
  cases u <;> cases v <;> rfl
end
end Go.Proofs.Ytgkjfhkjgdiodaa

namespace Go.Proofs.Ytgkjfhkjgdiodaa
open _root_.Go.Proofs.Try
open Go.Abs
set_option maxRecDepth 100000
noncomputable section
def bad (N : List Cnt) (p n j : Nat) : Bool := match N[j]? with
  | none => false
  | some c => decide (c.p = (p : Int)) && !c.late && !decide (c.lo ≤ (n : Int) ∧ (n : Int) ≤ c.hi)
def stB (N : List Cnt) (i k p n j : Nat) : Bool := bad N p n j && (decide (j < i) || (decide (j = i) && decide (n < k)))
def stL (N : List Cnt) (i k p n : Nat) : List Bool := (List.range 6).map (stB N i k p n)
def false6 : List Bool := [false, false, false, false, false, false]
def mkOf (o : Option U) : U := o.getD (.agg 6 (bls false6))
def MapSt (L : List Int) (N : List Cnt) (i k : Nat) (f : Spot → Option U) : Prop := ∀ a : Spot, a.1.val < L.length → (a.2.val : Int) ≤ L[a.1.val]! → mkOf (f a) = .agg 6 (bls (stL N i k a.1.val a.2.val))
theorem stL_len (N : List Cnt) (i k p n : Nat) : (stL N i k p n).length = 6 := by simp [stL]
theorem stL_at {N : List Cnt} {i k p n j : Nat} (hj : j < (stL N i k p n).length) : (stL N i k p n)[j] = stB N i k p n j := by simp [stL]
theorem stL_zero {N : List Cnt} (p n : Nat) : stL N 0 0 p n = false6 := by
  have : stB N 0 0 p n = fun _ => false := by funext j; simp [stB]
  unfold stL; rw [this]; rfl
theorem stL_set {N : List Cnt} {i p k : Nat} (hi : i < 6) : (stL N i k p k).set i (bad N p k i) = stL N i (k + 1) p k := by
  apply List.ext_getElem (by rw [List.length_set, stL_len, stL_len])
  intro j h1 h2
  rw [List.getElem_set, stL_at, stL_at]
  by_cases h3 : i = j
  · subst h3
    rw [if_pos rfl]
    unfold stB
    simp
  · rw [if_neg h3]
    unfold stB
    have : ¬ j = i := fun h => h3 h.symm
    simp [this]
theorem stL_other {N : List Cnt} {i p k p' n' : Nat} {q : Cnt} (hc : N[i]? = some q) (hp : q.p = (p : Int)) (hne : ¬ (p' = p ∧ n' = k)) : stL N i k p' n' = stL N i (k + 1) p' n' := by
  unfold stL
  congr 1
  funext j
  unfold stB
  by_cases hj : j = i
  · subst hj
    by_cases hpp : p' = p
    · have : n' ≠ k := fun h => hne ⟨hpp, h⟩
      congr 2
      simp only [decide_true, Bool.true_and]
      exact decide_eq_decide.2 (by omega)
    · have : bad N p' n' j = false := by
        unfold bad; rw [hc]
        show (decide (q.p = (p' : Int)) && !q.late && _) = false
        rw [decide_eq_false (by omega)]; simp
      rw [this]; simp
  · simp [hj]
theorem stL_roll {L : List Int} {N : List Cnt} {i p p' n' : Nat} {q : Cnt} (hc : N[i]? = some q) (hp : q.p = (p : Int)) (hn : p' = p → (n' : Int) ≤ L[p]!) {k : Nat} (hk : (k : Int) = L[p]! + 1) : stL N i k p' n' = stL N (i + 1) 0 p' n' := by
  unfold stL
  congr 1
  funext j
  unfold stB
  by_cases hj : j = i
  · subst hj
    by_cases hpp : p' = p
    · have h1 := hn hpp
      have h2 : n' < k := by omega
      simp [h2]
    · have : bad N p' n' j = false := by
        unfold bad; rw [hc]
        show (decide (q.p = (p' : Int)) && !q.late && _) = false
        rw [decide_eq_false (by omega)]; simp
      rw [this]; simp
  · have : (j < i + 1) ↔ j < i := by omega
    simp [hj, this]
theorem MapSt.step {L : List Int} {N : List Cnt} {i k p : Nat} {f : Spot → Option U} {q : Cnt} (h : MapSt L N i k f) (hc : N[i]? = some q) (hp : q.p = (p : Int)) (hi : i < 6) (s : Spot) (hs1 : s.1.val = p) (hs2 : s.2.val = k) {u : U}
    (hu : u = .agg 6 (bls ((stL N i k p k).set i (bad N p k i)))) : MapSt L N i (k + 1) (fun b => @ite _ (b = s) (Classical.propDecidable _) (some u) (f b)) := by
  intro a h1 h2
  by_cases has : a = s
  · subst has
    show mkOf (@ite _ (a = a) (Classical.propDecidable _) (some u) (f a)) = _
    rw [if_pos rfl, hs1, hs2, ← stL_set hi]
    exact hu
  · show mkOf (@ite _ (a = s) (Classical.propDecidable _) (some u) (f a)) = _
    rw [if_neg has, h a h1 h2, stL_other hc hp fun h3 => has (Prod.ext (Fin.ext (by omega)) (Fin.ext (by omega)))]
theorem MapSt.roll {L : List Int} {N : List Cnt} {i k p : Nat} {f : Spot → Option U} {q : Cnt} (h : MapSt L N i k f) (hc : N[i]? = some q) (hp : q.p = (p : Int)) (hk : (k : Int) = L[p]! + 1) : MapSt L N (i + 1) 0 f := by
  intro a h1 h2
  rw [h a h1 h2, stL_roll hc hp (fun h3 => by rw [← h3]; exact h2) hk]
end
end Go.Proofs.Ytgkjfhkjgdiodaa

namespace Go.Proofs.Ytgkjfhkjgdiodaa
open _root_.Go.Proofs.Try
open Go.Abs
set_option maxRecDepth 100000
noncomputable section
def Tail7 (R25 : List V → M → Prop) (b7 : Nat) (m27 m30 m44 : M) (x26 : Int) : Prop :=
  isPt (C.ptr b7 0) ∧ (∃ c45 : C, (((ldC m44 (C.ptr b7 5)) = (Option.some c45)) ∧ (∃ x46 : Int, (∃ x47 : Int, (((ldA m44 (C.ptr (m27).nxt 0) 2) = (Option.some [(C.int IntKind.i64 x46), (C.int IntKind.i64 x47)])) ∧
   (∃ b48 : Bool, (∃ b49 : Bool, (∃ b50 : Bool, (∃ b51 : Bool, (∃ b52 : Bool, (∃ b53 : Bool, (((ldA m44 (C.ptr (m30).nxt 0) 6) = (Option.some [(C.bool b48), (C.bool b49), (C.bool b50), (C.bool b51), (C.bool b52), (C.bool b53)])) ∧ (∃ m54 : M,
   (((upM prog 138 m44 c45 (V.agg 2 [(C.int IntKind.i64 x46), (C.int IntKind.i64 x47)]) (V.agg 6 [(C.bool b48), (C.bool b49), (C.bool b50), (C.bool b51), (C.bool b52), (C.bool b53)])) = (Option.some m54)) ∧
   (fitsP IntKind.i64 (x26 + (1 : Int)) ∧ (R25 [(V.c (C.int IntKind.i64 (x26 + (1 : Int))))] m54))))))))))))))))
def Rest7 (R25 : List V → M → Prop) (b7 : Nat) (m13 m27 m30 m36 : M) (x12 x26 : Int) : Prop :=
  isPt (C.ptr m13.nxt 0) ∧ ∃ b37 : Bool, ldC m36 (C.ptr m13.nxt 3) = some (C.bool b37) ∧
    ifB (!b37)
      (isPt (C.ptr m13.nxt 0) ∧ ∃ x38 x39 : Int, ldA m36 (C.ptr m13.nxt 1) 2 = some [C.int IntKind.i64 x38, C.int IntKind.i64 x39] ∧
        Wc prog tbl 92 [V.agg 2 [C.int IntKind.i64 x38, C.int IntKind.i64 x39], V.c (C.int IntKind.i64 x26)] m36 fun v40 m41 =>
          ∃ b42 : Bool, v40 = V.c (C.bool b42) ∧ isPt (C.ptr m30.nxt 0) ∧ ∃ n43 : Nat, x12 = (n43 : Int) ∧ n43 < 6 ∧ ∃ m44 : M, stC m41 (C.ptr m30.nxt (0 + n43 * 1)) 1 [C.bool (!b42)] = some m44 ∧ Tail7 R25 b7 m27 m30 m44 x26)
      (isPt (C.ptr m30.nxt 0) ∧ ∃ n55 : Nat, x12 = (n55 : Int) ∧ n55 < 6 ∧ ∃ m56 : M, stC m36 (C.ptr m30.nxt (0 + n55 * 1)) 1 [C.bool false] = some m56 ∧ Tail7 R25 b7 m27 m30 m56 x26)
theorem get6 {m : M} {b : Nat} {P : List Bool} (hb : Bk m b 6 (bls P)) (hP : P.length = 6) (T : List C → Prop) (h : T (bls P)) :
    ∃ x0 x1 x2 x3 x4 x5 : Bool, ldA m (.ptr b 0) 6 = some [.bool x0, .bool x1, .bool x2, .bool x3, .bool x4, .bool x5] ∧ T [.bool x0, .bool x1, .bool x2, .bool x3, .bool x4, .bool x5] := by
  obtain ⟨a0, a1, a2, a3, a4, a5, rfl⟩ := six hP
  exact ⟨a0, a1, a2, a3, a4, a5, hb.ra, h⟩
/-- what the loops of open keep -/
structure Op (m m13 : M) (bm b7 : Nat) (A W Z : List C) (f : Spot → Option U) : Prop where
  ext : Ext m m13
  a : Bk m13 m.nxt 5 A
  w : Bk m13 b7 6 W
  z : Bk m13 (m.nxt + 1) 6 Z
  mp : Mp encS m13 bm f
theorem Op.to {m m13 m' : M} {bm b7 : Nat} {A W Z : List C} {f : Spot → Option U} (h : Op m m13 bm b7 A W Z f) (e : Ext m13 m') : Op m m' bm b7 A W Z f := ⟨h.ext.trans e, h.a.ext e, h.w.ext e, h.z.ext e, h.mp.ext e⟩
/-- a survey that is valid, as far as open asks -/
structure Okay (r c : Int) (L : List Int) (N : List Cnt) : Prop where
  f : isField r c L = true
  n : N.length ≤ 6
  v : ∀ n ∈ N, okCnt (r * c) n = true
theorem s76 {r c sm : Int} {x y : C} {L : List Int} {N : List Cnt} {m : M} {Q : V → M → Prop} (hx : Li m x L) (hy : Lc m y N) (hO : Okay r c L N)
    (h : ∀ m' mb f, Ext m m' → Mp encS m' mb f → MapSt L N N.length 0 f → Q (.agg 6 [.int .i64 r, .int .i64 c, x, .int .i64 sm, y, .map mb]) m') :
    Wc prog tbl 76 [.agg 5 [.int .i64 r, .int .i64 c, x, .int .i64 sm, y]] m Q := by
  obtain ⟨hS, hL, hrc⟩ := field_of hO.f
  have hn6 := hO.n
  refine w76 fun m0 e0 m1 e1 => ?_
  obtain ⟨b0, x0⟩ := Bk.new e0
  obtain ⟨b1, x1⟩ := Bk.new e1
  have n0 : m0.nxt = m.nxt + 1 := by rw [e0]; rfl
  refine ⟨r, c, x, sm, y, (b0.ext x1).ra, fun m7 e7 m8 e8 => ?_⟩
  obtain ⟨p7, x7⟩ := Mp.new (enc := encS) e7
  obtain ⟨b8, x8⟩ := Bk.new e8
  have n1 : m1.nxt = m.nxt + 2 := by rw [e1]; show m0.nxt + 1 = _; omega
  have n7 : m7.nxt = m.nxt + 3 := by rw [e7]; show m1.nxt + 1 = _; omega
  refine ⟨_, b8.st _, trivial, ?_⟩
  have b9 := b8.set [.int .i64 r, .int .i64 c, x, .int .i64 sm, y, .map m1.nxt]
  have x79 : Ext m7 (m8.set m7.nxt (.cells 6 [.int .i64 r, .int .i64 c, x, .int .i64 sm, y, .map m1.nxt] false)) := x8.setR (Nat.le_refl _) _
  generalize m8.set m7.nxt (.cells 6 [.int .i64 r, .int .i64 c, x, .int .i64 sm, y, .map m1.nxt] false) = m9 at b9 x79
  have o9 : Op m m9 m1.nxt m7.nxt [.int .i64 r, .int .i64 c, x, .int .i64 sm, y] [.int .i64 r, .int .i64 c, x, .int .i64 sm, y, .map m1.nxt] [.int .i64 0, .int .i64 0, .sl0, .int .i64 0, .sl0, .map0] (fun _ => none) :=
    ⟨((x0.trans x1).trans x7).trans x79, ((b0.ext x1).ext x7).ext x79, b9, by rw [← n0]; exact (b1.ext x7).ext x79, p7.ext x79⟩
  have hmap0 : MapSt L N 0 0 (fun _ => none) := fun a _ _ => by rw [stL_zero]; rfl
  clear e0 e1 e7 e8 b0 b1 b8 b9 p7 x0 x1 x7 x8 x79
  generalize m1.nxt = bm at n1 o9
  generalize hb7 : m7.nxt = b7 at n7 o9
  refine ⟨y, o9.a.rc rfl, hy.isSl, fun R11 hstep => ?_⟩
  have hgo : ∀ (d i : Nat) (m13 : M) (f : Spot → Option U), d + i = N.length → Op m m13 bm b7 [.int .i64 r, .int .i64 c, x, .int .i64 sm, y] [.int .i64 r, .int .i64 c, x, .int .i64 sm, y, .map bm] [.int .i64 0, .int .i64 0, .sl0, .int .i64 0, .sl0, .map0] f → MapSt L N i 0 f → R11 [.c (.int .i64 (i : Int))] m13 := by
    intro d
    induction d with
    | zero =>
      intro i m13 f hd ho hm
      refine hstep _ _ ?_
      rw [hy.slLen, ifB_dec]
      refine ⟨fun h1 => by omega, fun _ => ?_⟩
      refine ⟨r, c, x, sm, y, .map bm, ho.w.ra, _, by rw [n0]; exact ho.z.st _, r, c, x, sm, y, .map bm, by rw [n0]; exact (ho.z.set _).ra, ?_⟩
      have hi : i = N.length := by omega
      subst hi
      exact h _ bm f (ho.ext.setR (by omega) _) (ho.mp.setNe (by omega) _) hm
    | succ d ih =>
      intro i m13 f hd ho hm
      refine hstep _ _ ?_
      rw [hy.slLen, ifB_dec]
      refine ⟨fun _ => ?_, fun h1 => by omega⟩
      have hi : i < N.length := by omega
      have hc := List.getElem?_eq_getElem hi
      have hok : (0 ≤ N[i].p ∧ N[i].p ≤ r * c - 1) ∧ 0 ≤ N[i].lo ∧ N[i].lo ≤ N[i].hi ∧ N[i].hi ≤ 9 := of_decide_eq_true (hO.v _ (List.getElem_mem hi))
      obtain ⟨p, hp⟩ : ∃ p : Nat, N[i].p = (p : Int) := ⟨N[i].p.toNat, by omega⟩
      have hpL : p < L.length := by omega
      have hLp : L[p]! = L[p] := getElem!_pos L p hpL
      have hLs := small_at hS hpL
      obtain ⟨l, hl⟩ : ∃ l : Nat, L[p] = (l : Int) := ⟨L[p].toNat, by omega⟩
      have hy1 := hy.ext ho.ext
      refine ⟨i, rfl, hi, N[i].p, N[i].lo, N[i].hi, N[i].late, ?_, fun m19 h19 => ?_⟩
      · rw [Ls.rds hy1 (by omega) (cnts_room hi (by omega)), cnts_all hc]; rfl
      obtain ⟨b19, x19⟩ := Bk.new h19
      have k20 := b19.set [.int .i64 N[i].p, .int .i64 N[i].lo, .int .i64 N[i].hi, .bool N[i].late]
      have e20 : Ext m13 (m19.set m13.nxt (.cells 4 [.int .i64 N[i].p, .int .i64 N[i].lo, .int .i64 N[i].hi, .bool N[i].late] false)) := x19.setR (Nat.le_refl _) _
      refine ⟨_, b19.st _, trivial, trivial, x, ?_⟩
      generalize m19.set m13.nxt (.cells 4 [.int .i64 N[i].p, .int .i64 N[i].lo, .int .i64 N[i].hi, .bool N[i].late] false) = m20 at k20 e20
      have o20 := ho.to e20
      refine ⟨o20.a.rc rfl, trivial, N[i].p, k20.rc rfl, p, hp, by rw [hx.slLen]; exact hpL, L[p], Li.rd (hx.ext o20.ext) (List.getElem?_eq_getElem hpL), fits_small (by omega) (by omega), fun R25 hstep2 => ?_⟩
      have hblt : bm < m13.nxt := ho.mp.lt
      have h7lt : b7 < m13.nxt := ho.w.lt
      have hgo2 : ∀ (d2 k : Nat) (m27 : M) (f : Spot → Option U), d2 + k = l + 1 → m13.nxt < m27.nxt → Op m m27 bm b7 [.int .i64 r, .int .i64 c, x, .int .i64 sm, y] [.int .i64 r, .int .i64 c, x, .int .i64 sm, y, .map bm] [.int .i64 0, .int .i64 0, .sl0, .int .i64 0, .sl0, .map0] f →
          Bk m27 m13.nxt 4 [.int .i64 N[i].p, .int .i64 N[i].lo, .int .i64 N[i].hi, .bool N[i].late] → MapSt L N i k f → R25 [.c (.int .i64 (k : Int))] m27 := by
        intro d2
        induction d2 with
        | zero =>
          intro k m27 f hd2 hlt2 ho2 hb2 hm2
          refine hstep2 _ _ ?_
          rw [ifB_dec]
          refine ⟨fun h1 => by omega, fun _ => ⟨fits_small (by omega) (by omega), ih (i + 1) m27 f (by omega) ho2 (hm2.roll hc hp (by rw [hLp]; omega))⟩⟩
        | succ d2 ih2 =>
          intro k m27 f hd2 hlt2 ho2 hb2 hm2
          refine hstep2 _ _ ?_
          rw [ifB_dec]
          refine ⟨fun _ => ?_, fun h1 => by omega⟩
          refine ⟨trivial, N[i].p, hb2.rc rfl, fun m29 h29 => ?_⟩
          obtain ⟨b29, x29⟩ := Bk.new h29
          have n29 : m29.nxt = m27.nxt + 1 := by rw [h29]; rfl
          have k30 := b29.set [.int .i64 N[i].p, .int .i64 (k : Int)]
          have e30 : Ext m27 (m29.set m27.nxt (.cells 2 [.int .i64 N[i].p, .int .i64 (k : Int)] false)) := x29.setR (Nat.le_refl _) _
          have n30 : (m29.set m27.nxt (.cells 2 [.int .i64 N[i].p, .int .i64 (k : Int)] false)).nxt = m27.nxt + 1 := n29
          refine ⟨_, b29.st _, trivial, .map bm, ?_⟩
          generalize m29.set m27.nxt (.cells 2 [.int .i64 N[i].p, .int .i64 (k : Int)] false) = m30 at k30 e30 n30
          have o30 := ho2.to e30
          let s : Spot := (⟨p, by omega⟩, ⟨k, by omega⟩)
          have hks : V.agg 2 [.int .i64 N[i].p, .int .i64 (k : Int)] = uV (encS s) := by rw [hp]; rfl
          refine ⟨o30.w.rc rfl, N[i].p, (k : Int), k30.ra, f s, o30.mp.lk keyS s hks, ?_⟩
          have hfs := hm2 s hpL (by show (k : Int) ≤ L[p]!; omega)
          -- what is done with the marks
          have key : ∀ m36 : M, Ext m30 m36 → Bk m36 m30.nxt 6 (bls (stL N i k p k)) → Rest7 R25 b7 m13 m27 m30 m36 (i : Int) (k : Int) := by
            intro m36 e36 b36
            have o36 := o30.to e36
            have hcb := (hb2.ext e30).ext e36
            have k36 := k30.ext e36
            have tail : ∀ (m44 : M) (v : Bool), Op m m44 bm b7 [.int .i64 r, .int .i64 c, x, .int .i64 sm, y] [.int .i64 r, .int .i64 c, x, .int .i64 sm, y, .map bm] [.int .i64 0, .int .i64 0, .sl0, .int .i64 0, .sl0, .map0] f →
                Bk m44 m13.nxt 4 [.int .i64 N[i].p, .int .i64 N[i].lo, .int .i64 N[i].hi, .bool N[i].late] → Bk m44 m27.nxt 2 [.int .i64 N[i].p, .int .i64 (k : Int)] → Bk m44 m30.nxt 6 (bls ((stL N i k p k).set i v)) → v = bad N p k i → Tail7 R25 b7 m27 m30 m44 (k : Int) := by
              intro m44 v o44 c44 k44 b44 hv
              refine ⟨trivial, .map bm, o44.w.rc rfl, N[i].p, (k : Int), k44.ra, get6 b44 (by rw [List.length_set, stL_len]) (fun l6 => ∃ m54 : M, upM prog 138 m44 (.map bm) (V.agg 2 [.int .i64 N[i].p, .int .i64 (k : Int)]) (V.agg 6 l6) = some m54 ∧ fitsP .i64 ((k : Int) + 1) ∧ R25 [.c (.int .i64 ((k : Int) + 1))] m54) ?_⟩
              obtain ⟨o, hup, hmp⟩ := o44.mp.up keyS s (.agg 6 (bls ((stL N i k p k).set i v))) hks rfl
              have hext : Ext m (m44.set bm o) := o44.ext.setR (by omega) _
              exact ⟨_, hup, fits_small (by omega) (by omega), ih2 (k + 1) _ _ (by omega) (by show m13.nxt < m44.nxt; exact c44.lt) ⟨hext, o44.a.setNe (by omega) _, o44.w.setNe (by omega) _, o44.z.setNe (by omega) _, hmp⟩ (c44.setNe (by omega) _) (hm2.step hc hp (by omega) s rfl rfl (u := .agg 6 (bls ((stL N i k p k).set i v))) (by rw [hv]))⟩
            have hst : ∀ (m41 : M) (v : Bool), Ext m36 m41 → v = bad N p k i → ∃ m44 : M, stC m41 (.ptr m30.nxt (0 + i * 1)) 1 [.bool v] = some m44 ∧ Tail7 R25 b7 m27 m30 m44 (k : Int) := by
              intro m41 v e41 hv
              have b41 := b36.ext e41
              have hat := stC_at b41.g (k := 0 + i * 1) (.bool v) (by rw [bls_len, stL_len]; omega) (by rw [bls_len, stL_len]) (by omega)
              refine ⟨_, hat, ?_⟩
              have ne1 : bm ≠ m30.nxt := by omega
              have ne2 : b7 ≠ m30.nxt := by omega
              have o41 := o36.to e41
              have hmm : m.nxt ≤ m30.nxt := by omega
              refine tail _ v ⟨o41.ext.setR hmm _, o41.a.setNe (by omega) _, o41.w.setNe ne2 _, o41.z.setNe (by omega) _, o41.mp.setNe ne1 _⟩ ((hcb.ext e41).setNe (by omega) _) ((k36.ext e41).setNe (by omega) _) ?_ hv
              rw [bls_set, show 0 + i * 1 = i by omega]
              exact b41.set _
            have hbad : bad N p k i = (!N[i].late && !decide (N[i].lo ≤ (k : Int) ∧ (k : Int) ≤ N[i].hi)) := by
              unfold bad; rw [hc]
              show (decide (N[i].p = (p : Int)) && !N[i].late && _) = _
              rw [decide_eq_true hp, Bool.true_and]
            refine ⟨trivial, N[i].late, hcb.rc rfl, ?_⟩
            cases hlate : N[i].late with
            | false =>
              show _ ∧ _
              refine ⟨trivial, N[i].lo, N[i].hi, hcb.rp rfl (by omega), s92 fun m41 e41 => ⟨_, rfl, trivial, i, rfl, by omega, hst m41 _ e41 ?_⟩⟩
              rw [hbad, hlate]; rfl
            | true =>
              show _ ∧ _
              refine ⟨trivial, i, rfl, by omega, hst m36 _ (.refl _) ?_⟩
              rw [hbad, hlate]; rfl
          refine ⟨fun hnone m35 h35 => ?_, fun u hu => ?_⟩
          · obtain ⟨b35, x35⟩ := Bk.new h35
            have h1 := b35.set (bls false6)
            have h2 : bls (stL N i k p k) = bls false6 := by
              rw [hnone] at hfs
              have : U.agg 6 (bls false6) = U.agg 6 (bls (stL N i k p k)) := hfs
              injection this with _ h3; exact h3.symm
            have hk := key (m35.set m30.nxt (.cells 6 (bls false6) false)) (x35.setR (Nat.le_refl _) _) (by rw [h2]; exact h1)
            exact ⟨_, b35.st _, hk⟩
          · rw [hu] at hfs
            have hue : u = .agg 6 (bls (stL N i k p k)) := hfs
            obtain ⟨a0, a1, a2, a3, a4, a5, hs6⟩ := six (stL_len N i k p k)
            refine ⟨a0, a1, a2, a3, a4, a5, by rw [hue, hs6]; rfl, fun m74 h74 => ?_⟩
            obtain ⟨b74, x74⟩ := Bk.new h74
            have hk := key (m74.set m30.nxt (.cells 6 (bls [a0, a1, a2, a3, a4, a5]) false)) (x74.setR (Nat.le_refl _) _) (by rw [hs6]; exact b74.set _)
            exact ⟨_, b74.st _, hk⟩
      exact hgo2 (l + 1) 0 m20 f (by omega) k20.lt o20 k20 hm
  exact hgo N.length 0 m9 _ (by omega) o9 hmap0
end
end Go.Proofs.Ytgkjfhkjgdiodaa

namespace Go.Proofs.Ytgkjfhkjgdiodaa
open _root_.Go.Proofs.Try
open Go.Abs
set_option maxRecDepth 100000
noncomputable section
def fitsB (c sm : Int) (N : List Cnt) (P : List Int) (O : List Bool) (i : Nat) : Bool := !jumpsB c sm P i && within (stL N N.length 0 i (at' P i).toNat) O
/-- a survey at work -/
structure Wk (m : M) (L : List Int) (N : List Cnt) (mb : Nat) (f : Spot → Option U) : Prop where
  mp : Mp encS m mb f
  st : MapSt L N N.length 0 f
theorem Wk.ext {m m' : M} {L : List Int} {N : List Cnt} {mb : Nat} {f : Spot → Option U} (h : Wk m L N mb f) (e : Ext m m') : Wk m' L N mb f := ⟨h.mp.ext e, h.st⟩
theorem s97 {r c sm : Int} {x y : C} {L P : List Int} {N : List Cnt} {O : List Bool} {mb : Nat} {f : Spot → Option U} {i : Nat} {m : M} {Q : V → M → Prop} (hw : Wk m L N mb f) (hf : isField r c L = true) (hP : P.length = 9) (hS : Small P) (hO : O.length = 6)
    (hi : i < L.length) (hiP : at' P i ≤ L[i]!) (h : ∀ m', Ext m m' → Q (.c (.bool (fitsB c sm N P O i))) m') :
    Wc prog tbl 97 [.agg 6 [.int .i64 r, .int .i64 c, x, .int .i64 sm, y, .map mb], .agg 9 (ints P), .c (.int .i64 (i : Int)), .agg 6 (bls O)] m Q := by
  obtain ⟨_, hL, _⟩ := field_of hf
  have hsd := sides_of hf
  obtain ⟨a0, a1, a2, a3, a4, a5, a6, a7, a8, hPe⟩ := nine hP
  obtain ⟨o0, o1, o2, o3, o4, o5, hOe⟩ := six hO
  rw [show ints P = ints [a0, a1, a2, a3, a4, a5, a6, a7, a8] by rw [← hPe], show bls O = bls [o0, o1, o2, o3, o4, o5] by rw [← hOe]]
  refine w97 fun m0 e0 m1 e1 m2 e2 => ?_
  obtain ⟨b0, x0⟩ := Bk.new e0
  obtain ⟨b1', x1⟩ := Bk.new e1
  obtain ⟨b2', x2⟩ := Bk.new e2
  have b1 : Bk m2 m0.nxt 9 (ints P) := by rw [hPe]; exact b1'.ext x2
  have b2 : Bk m2 m1.nxt 6 (bls O) := by rw [hOe]; exact b2'
  have b0' := (b0.ext x1).ext x2
  have x02 := (x0.trans x1).trans x2
  clear e0 e1 e2 b0 b1' b2' x0 x1 x2
  refine ⟨trivial, r, c, x, sm, y, b0'.rp (k := 0) (j := 5) rfl (by omega), get9 b1 hP (fun l => Wc prog tbl 112 [.agg 5 [.int .i64 r, .int .i64 c, x, .int .i64 sm, y], .agg 9 l, .c (.int .i64 (i : Int))] m2 _) ?_⟩
  refine s112 hP hS hsd.c1 hsd.c4 (by omega) fun m18 e18 => ⟨_, rfl, ?_⟩
  have x18 := x02.trans e18
  cases hj : jumpsB c sm P i with
  | true =>
    have hq := h m18 x18
    rw [show fitsB c sm N P O i = false by unfold fitsB; rw [hj]; rfl] at hq
    exact hq
  | false =>
    show _ ∧ _
    have hsmall := at_small hS (i : Int) (by omega)
    obtain ⟨n, hn⟩ : ∃ n : Nat, at' P (i : Int) = (n : Int) := ⟨(at' P (i : Int)).toNat, by omega⟩
    let s : Spot := (⟨i, by omega⟩, ⟨n, by omega⟩)
    have hks : V.agg 2 [.int .i64 (i : Int), .int .i64 (at' P (i : Int))] = uV (encS s) := by rw [hn]; rfl
    have w18 := hw.ext x18
    have hfs := w18.st s hi (by show (n : Int) ≤ L[i]!; omega)
    have hres : fitsB c sm N P O i = within (stL N N.length 0 i n) O := by unfold fitsB; rw [hj, hn]; rfl
    have hfs' : mkOf (f s) = .agg 6 (bls (stL N N.length 0 i n)) := hfs
    have hw113 : Wc prog tbl 113 [.agg 6 (bls (stL N N.length 0 i n)), .agg 6 (bls O)] m18 (fun v30 m31 => ∃ b32 : Bool, v30 = .c (.bool b32) ∧ Q (.c (.bool b32)) m31) :=
      s113 (stL_len ..) hO fun m31 e31 => ⟨_, rfl, by have hq := h m31 (x18.trans e31); rw [hres] at hq; exact hq⟩
    have b2o := b2.ext e18
    refine ⟨trivial, .map mb, (b0'.ext e18).rc rfl, trivial, i, rfl, by omega, at' P (i : Int), at_rc (b1.ext e18) (by omega), f s, w18.mp.lk keyS s hks, fun hnone => ?_, fun u hu => ?_⟩
    · refine get6 b2o hO (fun l => Wc prog tbl 113 [.agg 6 (bls false6), .agg 6 l] m18 _) ?_
      have h2 : bls (stL N N.length 0 i n) = bls false6 := by
        rw [hnone] at hfs'
        have : U.agg 6 (bls false6) = U.agg 6 (bls (stL N N.length 0 i n)) := hfs'
        injection this with _ h3; exact h3.symm
      rw [h2] at hw113
      exact hw113
    · rw [hu] at hfs'
      have hue : u = .agg 6 (bls (stL N N.length 0 i n)) := hfs'
      obtain ⟨d0, d1, d2, d3, d4, d5, hs6⟩ := six (stL_len N N.length 0 i n)
      refine ⟨d0, d1, d2, d3, d4, d5, by rw [hue, hs6]; rfl, get6 b2o hO (fun l => Wc prog tbl 113 [.agg 6 (bls [d0, d1, d2, d3, d4, d5]), .agg 6 l] m18 _) ?_⟩
      rw [hs6] at hw113
      exact hw113
def truthB (c sm : Int) (L : List Int) (N : List Cnt) (P : List Int) : Bool := decide (∀ i : Nat, i < L.length → fitsB c sm N P false6 i = true)
theorem s77 {r c sm : Int} {x y : C} {L P : List Int} {N : List Cnt} {mb : Nat} {f : Spot → Option U} {m : M} {Q : V → M → Prop} (hw : Wk m L N mb f) (hf : isField r c L = true) (hP : P.length = 9) (hS : Small P)
    (hiP : ∀ i : Nat, i < L.length → at' P i ≤ L[i]!) (h : ∀ m', Ext m m' → Q (.c (.bool (truthB c sm L N P))) m') :
    Wc prog tbl 77 [.agg 6 [.int .i64 r, .int .i64 c, x, .int .i64 sm, y, .map mb], .agg 9 (ints P)] m Q := by
  obtain ⟨_, hL, hrc⟩ := field_of hf
  have hsd := sides_of hf
  have hm := hsd.mul
  obtain ⟨a0, a1, a2, a3, a4, a5, a6, a7, a8, hPe⟩ := nine hP
  rw [show ints P = ints [a0, a1, a2, a3, a4, a5, a6, a7, a8] by rw [← hPe]]
  refine w77 fun m0 e0 m1 e1 => ?_
  obtain ⟨b0, x0⟩ := Bk.new e0
  obtain ⟨b1', x1⟩ := Bk.new e1
  have b1 : Bk m1 m0.nxt 9 (ints P) := by rw [hPe]; exact b1'
  have b0' := b0.ext x1
  have x01 := x0.trans x1
  clear e0 e1 b0 b1' x0 x1
  refine ⟨trivial, trivial, r, c, x, b0'.rp (k := 0) (j := 3) rfl (by omega), s88 (by have := hsd.r1; omega) (by have := hsd.c1; omega) (fits_small (by omega) (by omega)) fun m6 e6 => ⟨_, rfl, fun R8 hstep => ?_⟩⟩
  have hgo : ∀ (d i : Nat) (b : Bool) (m11 : M), d + i = L.length → (∀ j : Nat, j < i → fitsB c sm N P false6 j = true) → Ext m1 m11 → R8 [.c (.bool b), .c (.int .i64 (i : Int))] m11 := by
    intro d
    induction d with
    | zero =>
      intro i b m11 hd hn he
      refine hstep _ _ _ ?_
      rw [ifB_dec]
      refine ⟨fun h1 => by omega, fun _ => ?_⟩
      have hq := h m11 (x01.trans he)
      rw [show truthB c sm L N P = true from decide_eq_true fun j hj => hn j (by omega)] at hq
      exact hq
    | succ d ih =>
      intro i b m11 hd hn he
      refine hstep _ _ _ ?_
      rw [ifB_dec]
      refine ⟨fun _ => ?_, fun h1 => by omega⟩
      have hi : i < L.length := by omega
      refine ⟨r, c, x, sm, y, .map mb, (b0'.ext he).ra, get9 (b1.ext he) hP (fun l => Wc prog tbl 97 [.agg 6 [.int .i64 r, .int .i64 c, x, .int .i64 sm, y, .map mb], .agg 9 l, .c (.int .i64 (i : Int)), .agg 6 (bls false6)] m11 _) ?_⟩
      refine s97 (hw.ext (x01.trans he)) hf hP hS rfl hi (hiP i hi) fun m28 e28 => ⟨_, rfl, ?_⟩
      rw [ifB_iff]
      refine ⟨fun h1 => ?_, fun h1 => ⟨fits_small (by omega) (by omega), ih (i + 1) b m28 (by omega) (fun j hj => ?_) (he.trans e28)⟩⟩
      · have hq := h m28 ((x01.trans he).trans e28)
        rw [show truthB c sm L N P = false from decide_eq_false fun h2 => by have := h2 i hi; rw [this] at h1; cases h1] at hq
        exact hq
      · by_cases hji : j = i
        · subst hji; simpa using h1
        · exact hn j (by omega)
  exact hgo L.length 0 false m6 (by omega) (by intro j hj; omega) e6
end
end Go.Proofs.Ytgkjfhkjgdiodaa

namespace Go.Proofs.Ytgkjfhkjgdiodaa
open _root_.Go.Proofs.Try
open Go.Abs
set_option maxRecDepth 100000
noncomputable section
def shareRes (r c : Int) (L : List Int) (sm : Int) (N : List Cnt) (H : List Int) : Int × Int :=
  if svErr r c L sm N = 0 then (if listed L H then (shareOf L H, 0) else (0, 2)) else (0, svErr r c L sm N)
theorem okay_of {r c sm : Int} {L : List Int} {N : List Cnt} (h : svErr r c L sm N = 0) : Okay r c L N ∧ 0 ≤ sm ∧ sm ≤ 9 := by
  unfold svErr at h
  by_cases h1 : N.length ≤ 6
  · rw [if_pos h1] at h
    cases hs : isSv r c L sm N with
    | false => rw [hs] at h; simp at h
    | true =>
      obtain ⟨hf, hsm, hc⟩ := sv_field hs
      exact ⟨⟨hf, h1, hc⟩, hsm⟩
  · rw [if_neg h1] at h; simp at h
theorem hitsV_len (L H : List Int) (hL : L.length ≤ 9) : (hitsV L H).length = 9 := by
  unfold hitsV
  cases hl : listed L H with
  | true => exact pad_len (by have := listed_len hl; omega)
  | false => rfl
theorem shareOf_pad (L H : List Int) : shareOf L (pad H) = shareOf L H := by unfold shareOf; rw [sum_pad]
theorem s32 {r c sm : Int} {x y z : C} {L H : List Int} {N : List Cnt} {m : M} {Q : V → M → Prop} (hx : Li m x L) (hL : L.length ≤ 1048576) (hy : Lc m y N) (hN : N.length ≤ 1000) (hz : Li m z H) (hH : H.length ≤ 1000)
    (h : ∀ m', Ext m m' → Q (.tup [.c (.int .i64 (shareRes r c L sm N H).1), .c (.int .i64 (shareRes r c L sm N H).2)]) m') : Wc prog tbl 32 [.agg 5 [.int .i64 r, .int .i64 c, x, .int .i64 sm, y], .c z] m Q := by
  refine w32 fun m0 e0 => ?_
  obtain ⟨b0, x0⟩ := Bk.new e0
  refine ⟨r, c, x, sm, y, b0.ra, s37 (hx.ext x0) hL (hy.ext x0) hN fun m7 e7 => ⟨_, rfl, ?_⟩⟩
  have x7 := x0.trans e7
  have b7 := b0.ext e7
  rw [ifB_ndec]
  refine ⟨fun h1 => ?_, fun h1 => ?_⟩
  · have hq := h m7 x7
    unfold shareRes at hq
    rw [if_neg h1] at hq
    exact hq
  obtain ⟨hO, _⟩ := okay_of h1
  obtain ⟨hS, hL9, hrc⟩ := field_of hO.f
  refine ⟨trivial, r, c, x, b7.rp (k := 0) (j := 3) rfl (by omega), s74 (hx.ext x7) hO.f hH (hz.ext x7) fun m13 e13 => ?_⟩
  have hlenV := hitsV_len L H hL9
  have x13 := x7.trans e13
  obtain ⟨a0, a1, a2, a3, a4, a5, a6, a7, a8, hVe⟩ := nine hlenV
  refine ⟨a0, a1, a2, a3, a4, a5, a6, a7, a8, listed L H, by rw [hVe]; rfl, fun m24 h24 => ?_⟩
  obtain ⟨b24, x24⟩ := Bk.new h24
  have e25 : Ext m13 (m24.set m13.nxt (.cells 9 (ints [a0, a1, a2, a3, a4, a5, a6, a7, a8]) false)) := x24.setR (Nat.le_refl _) _
  have b25 := b24.set (ints [a0, a1, a2, a3, a4, a5, a6, a7, a8])
  refine ⟨_, b24.st _, ?_⟩
  have x25 := x13.trans e25
  cases hl : listed L H with
  | false =>
    have hq := h _ x25
    unfold shareRes at hq
    rw [if_pos h1, hl] at hq
    exact hq
  | true =>
    have hVp : hitsV L H = pad H := by unfold hitsV; rw [hl]; rfl
    have hpe : pad H = [a0, a1, a2, a3, a4, a5, a6, a7, a8] := hVp.symm.trans hVe
    refine ⟨r, c, x, sm, y, ((b7.ext e13).ext e25).ra, a0, a1, a2, a3, a4, a5, a6, a7, a8, b25.ra, s75 (H := [a0, a1, a2, a3, a4, a5, a6, a7, a8]) (hx.ext x25) hS hL9 rfl (by rw [← hpe]; exact small_pad (small_listed hS hl)) fun m41 e41 => ⟨_, rfl, ?_⟩⟩
    have hq := h m41 (x25.trans e41)
    unfold shareRes at hq
    rw [if_pos h1, hl, ← shareOf_pad, hpe] at hq
    exact hq
def proveB (r c : Int) (L : List Int) (sm : Int) (N : List Cnt) (H : List Int) : Bool := decide (svErr r c L sm N = 0) && listed L H && truthB c sm L N (pad H)
theorem s35 {r c sm : Int} {x y z : C} {L H : List Int} {N : List Cnt} {m : M} {Q : V → M → Prop} (hx : Li m x L) (hL : L.length ≤ 1048576) (hy : Lc m y N) (hN : N.length ≤ 1000) (hz : Li m z H) (hH : H.length ≤ 1000)
    (h : ∀ m', Ext m m' → Q (.c (.bool (proveB r c L sm N H))) m') : Wc prog tbl 35 [.agg 5 [.int .i64 r, .int .i64 c, x, .int .i64 sm, y], .c z] m Q := by
  refine w35 fun m0 e0 => ?_
  obtain ⟨b0, x0⟩ := Bk.new e0
  refine ⟨r, c, x, sm, y, b0.ra, s37 (hx.ext x0) hL (hy.ext x0) hN fun m7 e7 => ⟨_, rfl, ?_⟩⟩
  have x7 := x0.trans e7
  have b7 := b0.ext e7
  rw [ifB_ndec]
  refine ⟨fun h1 => ?_, fun h1 => ?_⟩
  · have hq := h m7 x7
    rw [show proveB r c L sm N H = false by unfold proveB; rw [decide_eq_false h1]; rfl] at hq
    exact hq
  obtain ⟨hO, _⟩ := okay_of h1
  obtain ⟨hS, hL9, hrc⟩ := field_of hO.f
  refine ⟨trivial, r, c, x, b7.rp (k := 0) (j := 3) rfl (by omega), s74 (hx.ext x7) hO.f hH (hz.ext x7) fun m13 e13 => ?_⟩
  have hlenV := hitsV_len L H hL9
  have x13 := x7.trans e13
  obtain ⟨a0, a1, a2, a3, a4, a5, a6, a7, a8, hVe⟩ := nine hlenV
  refine ⟨a0, a1, a2, a3, a4, a5, a6, a7, a8, listed L H, by rw [hVe]; rfl, fun m24 h24 => ?_⟩
  obtain ⟨b24, x24⟩ := Bk.new h24
  have e25 : Ext m13 (m24.set m13.nxt (.cells 9 (ints [a0, a1, a2, a3, a4, a5, a6, a7, a8]) false)) := x24.setR (Nat.le_refl _) _
  have b25 := b24.set (ints [a0, a1, a2, a3, a4, a5, a6, a7, a8])
  refine ⟨_, b24.st _, ?_⟩
  have x25 := x13.trans e25
  cases hl : listed L H with
  | false =>
    have hq := h _ x25
    rw [show proveB r c L sm N H = false by unfold proveB; rw [hl]; simp] at hq
    exact hq
  | true =>
    have hVp : hitsV L H = pad H := by unfold hitsV; rw [hl]; rfl
    have hpe : pad H = [a0, a1, a2, a3, a4, a5, a6, a7, a8] := hVp.symm.trans hVe
    refine ⟨r, c, x, sm, y, ((b7.ext e13).ext e25).ra, s76 (hx.ext x25) (hy.ext x25) hO fun m32 mb f e32 hmp hst => ⟨r, c, x, sm, y, .map mb, rfl, a0, a1, a2, a3, a4, a5, a6, a7, a8, (b25.ext e32).ra, b25.ra, s77 (P := [a0, a1, a2, a3, a4, a5, a6, a7, a8]) ⟨hmp, hst⟩ hO.f rfl (by rw [← hpe]; exact small_pad (small_listed hS hl)) (fun i hi => ?_) fun m49 e49 => ⟨_, rfl, ?_⟩⟩⟩
    · have hi2 : i < H.length := by rw [listed_len hl]; exact hi
      rw [← hpe]
      have h2 := listed_at hl hi hi2
      have h3 : at' (pad H) (i : Int) = H[i] := by
        show (pad H)[i]! = H[i]
        have := pad_at hi2 (by have := listed_len hl; omega)
        rw [List.getElem!_eq_getElem?_getD, this]; rfl
      rw [h3, getElem!_pos L i hi]; exact h2.2
    · have hq := h m49 ((x25.trans e32).trans e49)
      rw [show proveB r c L sm N H = truthB c sm L N (pad H) by unfold proveB; rw [decide_eq_true h1, hl]; rfl, hpe] at hq
      exact hq
end
end Go.Proofs.Ytgkjfhkjgdiodaa

namespace Go.Proofs.Ytgkjfhkjgdiodaa
open _root_.Go.Proofs.Try
open Go.Abs
set_option maxRecDepth 100000
noncomputable section
theorem s33 {r c sm : Int} {x y : C} {L : List Int} {N : List Cnt} {m : M} {Q : V → M → Prop} (hx : Li m x L) (hL : L.length ≤ 1048576) (hy : Lc m y N) (hN : N.length ≤ 1000000)
    (h : ∀ x' y' m', Ext m m' → Li m' x' L → Lc m' y' N → Q (.agg 5 [.int .i64 r, .int .i64 c, x', .int .i64 sm, y']) m') : Wc prog tbl 33 [.agg 5 [.int .i64 r, .int .i64 c, x, .int .i64 sm, y]] m Q := by
  refine w33 fun m0 e0 m1 e1 => ?_
  obtain ⟨b0, x0⟩ := Bk.new e0
  obtain ⟨b1, x1⟩ := Bk.new e1
  have b0' := b0.ext x1
  have x01 := x0.trans x1
  have hlt : m.nxt ≤ m0.nxt := Nat.le_of_lt b0.lt
  refine ⟨trivial, r, c, x, b0'.rp (k := 0) (j := 3) rfl (by omega), s22 (hx.ext x01) hL fun x' m6 e6 hx' hfr' => ⟨r, c, x', rfl, trivial, sm, (b0'.ext e6).rc rfl, b0'.rc rfl, trivial, y, (b0'.ext e6).rc rfl, ?_, ?_⟩⟩
  · rw [hy.noFn]; exact b0'.rc rfl
  refine s25 (hy.ext (x01.trans e6)) hN fun y' m13 e13 hy' hfr => ⟨y', rfl, ((b0'.ext e6).ext e13).rc rfl, _, ((b1.ext e6).ext e13).st _, r, c, x', sm, y', (((b1.ext e6).ext e13).set _).ra, ?_⟩
  have x13 := (x01.trans e6).trans e13
  refine h x' y' _ (x13.setR hlt _) ((hx'.ext e13).setNe (fun b o n s d hq => ?_) _) (hy'.setNe (fun b o n s d hq => ?_) _)
  · have := hfr' b o n s d hq
    have := b1.lt
    omega
  · have := hfr b o n s d hq
    have := e6.nxt
    have := b1.lt
    omega
def pairR (c sm : Int) (H : List Int) (a b : Nat) : Prop := (((a : Int) / c = (b : Int) / c ∧ b = a + 1) ∨ (b : Int) = a + c) → -sm ≤ H[a]! - H[b]! ∧ H[a]! - H[b]! ≤ sm
def cntR (H : List Int) (n : Cnt) : Prop := n.late = false → n.lo ≤ H[n.p.toNat]! ∧ H[n.p.toNat]! ≤ n.hi
def TruthR (c sm : Int) (L : List Int) (N : List Cnt) (H : List Int) : Prop := listed L H = true ∧ (∀ a b : Nat, a < b → b < H.length → pairR c sm H a b) ∧ ∀ n ∈ N, cntR H n
open Classical in
def truthR (c sm : Int) (L : List Int) (N : List Cnt) (H : List Int) : Bool := decide (TruthR c sm L N H)
theorem truthR_false {c sm : Int} {L : List Int} {N : List Cnt} {H : List Int} (h : ¬ TruthR c sm L N H) : truthR c sm L N H = false := by unfold truthR; classical exact decide_eq_false h
theorem truthR_true {c sm : Int} {L : List Int} {N : List Cnt} {H : List Int} (h : TruthR c sm L N H) : truthR c sm L N H = true := by unfold truthR; classical exact decide_eq_true h
theorem wrap_small {n : Int} (h0 : 0 ≤ n) (h1 : n ≤ 1000) : wrapZ .u64 n = n := by
  unfold wrapZ
  rw [Go.Abs.fits_of (k := .u64) (n := n) (by simp only [fitsP]; omega)]; rfl
def Cmp38 (Q : V → M → Prop) (R11 : List V → M → Prop) (m m14 : M) (y : C) (len : Nat) (b12 : Bool) (x9 x13 : Int) : Prop :=
  ∃ n18 : Nat, x9 = (n18 : Int) ∧ n18 < len ∧ ∃ x19 : Int, ldC m14 (slAt y (n18 * 1)) = some (C.int IntKind.i64 x19) ∧
    ∃ n20 : Nat, x13 = (n20 : Int) ∧ n20 < len ∧ ∃ x21 : Int, ldC m14 (slAt y (n20 * 1)) = some (C.int IntKind.i64 x21) ∧
      fitsP IntKind.i64 (x19 - x21) ∧ isPt (C.ptr m.nxt 0) ∧ ∃ x22 : Int, ldC m14 (C.ptr m.nxt 3) = some (C.int IntKind.i64 x22) ∧ fitsP IntKind.i64 ((0 : Int) - x22) ∧ isPt (C.ptr m.nxt 0) ∧
        ∃ x23 : Int, ldC m14 (C.ptr m.nxt 3) = some (C.int IntKind.i64 x23) ∧ Wc prog tbl 44 [V.c (C.int IntKind.i64 (x19 - x21)), V.c (C.int IntKind.i64 ((0 : Int) - x22)), V.c (C.int IntKind.i64 x23)] m14 fun v24 m25 =>
          ∃ b26 : Bool, v24 = V.c (C.bool b26) ∧ ifB (!b26) (Q (V.c (C.bool false)) m25) (fitsP IntKind.i64 (x13 + (1 : Int)) ∧ R11 [V.c (C.bool b12), V.c (C.int IntKind.i64 (x13 + (1 : Int)))] m25)
theorem s38 {r c sm : Int} {x y z : C} {L H : List Int} {N : List Cnt} {m : M} {Q : V → M → Prop} (hx : Li m x L) (hz : Lc m z N) (hO : Okay r c L N) (hsm : 0 ≤ sm ∧ sm ≤ 9) (hy : Li m y H) (hH : H.length ≤ 1000)
    (h : ∀ m', Ext m m' → Q (.c (.bool (truthR c sm L N H))) m') : Wc prog tbl 38 [.agg 5 [.int .i64 r, .int .i64 c, x, .int .i64 sm, z], .c y, .c (.int .i64 0)] m Q := by
  obtain ⟨hS, hL, hrc⟩ := field_of hO.f
  have hsd := sides_of hO.f
  have hn6 := hO.n
  refine w38 fun m0 e0 => ?_
  obtain ⟨b0, x0⟩ := Bk.new e0
  refine ⟨trivial, r, c, x, b0.rp (k := 0) (j := 3) rfl (by omega), s39 (hx.ext x0) (by omega) (hy.ext x0) fun m5 e5 => ⟨_, rfl, ?_⟩⟩
  have x5 := x0.trans e5
  have hfalse : ∀ {m'}, Ext m5 m' → ¬ TruthR c sm L N H → Q (.c (.bool false)) m' := fun e hf => by
    have := h _ (x5.trans e); rw [truthR_false hf] at this; exact this
  cases hl : listed L H with
  | false => exact hfalse (.refl _) fun h1 => by rw [h1.1] at hl; cases hl
  | true =>
  show ifB false _ _
  rw [ifB_false]
  have hlen := listed_len hl
  have hSH := small_listed hS hl
  intro R7 hstep
  have b5 := b0.ext e5
  have hy5 := hy.ext x5
  have hz5 := hz.ext x5
  have hgo7 : ∀ (d i : Nat) (b8 : Bool), d + i = H.length → (∀ a b : Nat, a < i → a < b → b < H.length → pairR c sm H a b) → R7 [.c (.bool b8), .c (.int .i64 (i : Int))] m5 := by
    intro d
    induction d with
    | zero =>
      intro i b8 hd hn
      refine hstep _ _ _ ⟨hy.isSl, ?_⟩
      rw [hy.slLen, ifB_dec]
      refine ⟨fun h1 => by omega, fun _ R46 hstep4 => ?_⟩
      have hcts : ∀ (d i : Nat) (b : Bool) (m49 : M), d + i = N.length → (∀ n ∈ N.take i, cntR H n) → Ext m5 m49 → R46 [.c (.bool b), .c (.int .i64 (i : Int))] m49 := by
        intro d
        induction d with
        | zero =>
          intro k b m49 hd2 hk he
          have b49 := b5.ext he
          refine hstep4 _ _ _ ⟨trivial, z, b49.rc rfl, hz.isSl, ?_⟩
          rw [hz.slLen, ifB_dec]
          refine ⟨fun h1 => by omega, fun _ => ?_⟩
          have hq := h m49 (x5.trans he)
          rw [truthR_true ⟨hl, fun a b hab hb => hn a b (by omega) hab hb, fun n hn' => hk n (by rw [List.take_of_length_le (by omega)]; exact hn')⟩] at hq
          exact hq
        | succ d ih2 =>
          intro k b m49 hd2 hk he
          have b49 := b5.ext he
          refine hstep4 _ _ _ ⟨trivial, z, b49.rc rfl, hz.isSl, ?_⟩
          rw [hz.slLen, ifB_dec]
          refine ⟨fun _ => ?_, fun h1 => by omega⟩
          have hk6 : k < N.length := by omega
          have hc := List.getElem?_eq_getElem hk6
          have hok : (0 ≤ N[k].p ∧ N[k].p ≤ r * c - 1) ∧ 0 ≤ N[k].lo ∧ N[k].lo ≤ N[k].hi ∧ N[k].hi ≤ 9 := of_decide_eq_true (hO.v _ (List.getElem_mem hk6))
          obtain ⟨p, hp⟩ : ∃ p : Nat, N[k].p = (p : Int) := ⟨N[k].p.toNat, by omega⟩
          have hpH : p < H.length := by omega
          refine ⟨trivial, z, b49.rc rfl, k, rfl, by rw [hz.slLen]; exact hk6, N[k].p, N[k].lo, N[k].hi, N[k].late, ?_, fun m57 h57 => ?_⟩
          · rw [Ls.rds (hz5.ext he) (by omega) (cnts_room hk6 (by omega)), cnts_all hc]; rfl
          obtain ⟨b57, x57⟩ := Bk.new h57
          have k58 := b57.set [.int .i64 N[k].p, .int .i64 N[k].lo, .int .i64 N[k].hi, .bool N[k].late]
          have e58 : Ext m49 (m57.set m49.nxt (.cells 4 [.int .i64 N[k].p, .int .i64 N[k].lo, .int .i64 N[k].hi, .bool N[k].late] false)) := x57.setR (Nat.le_refl _) _
          refine ⟨_, b57.st _, trivial, N[k].late, k58.rc rfl, ?_⟩
          generalize m57.set m49.nxt (.cells 4 [.int .i64 N[k].p, .int .i64 N[k].lo, .int .i64 N[k].hi, .bool N[k].late] false) = m58 at k58 e58
          have he58 := he.trans e58
          have hnext : cntR H N[k] → fitsP .i64 ((k : Int) + 1) ∧ R46 [.c (.bool b), .c (.int .i64 ((k + 1 : Nat) : Int))] m58 := fun hck => ⟨fits_small (by omega) (by omega), ih2 (k + 1) b m58 (by omega) (fun v hv => by
            rw [List.take_add_one, hc] at hv
            rcases List.mem_append.1 hv with h6 | h6
            · exact hk v h6
            · have : v = N[k] := by simpa using h6
              rw [this]; exact hck) he58⟩
          rw [ifB_iff]
          refine ⟨fun hlate => ?_, fun hlate => hnext fun h1 => by rw [h1] at hlate; cases hlate⟩
          have hlate' : N[k].late = false := by simpa using hlate
          rw [wrap_small (by omega) (by omega)]
          have hz0 : (0 : Int) / 2 ^ (k : Int).toNat = 0 := Int.zero_ediv _
          rw [hz0]
          refine ⟨by omega, by omega, by omega, fits_small (by omega) (by omega), by omega, by omega, fits_small (by omega) (by omega), ?_⟩
          show ifB (decide ((0 : Int) % 2 = 0)) _ _
          rw [ifB_dec]
          refine ⟨fun _ => ?_, fun h1 => absurd rfl h1⟩
          have hHp : H[N[k].p.toNat]! = H[p] := by rw [hp]; exact getElem!_pos H p hpH
          refine ⟨trivial, N[k].p, k58.rc rfl, p, hp, hpH, H[p], Li.rd (hy5.ext he58) (List.getElem?_eq_getElem hpH), trivial, trivial, N[k].lo, k58.rc rfl, trivial, trivial, N[k].hi, k58.rc rfl, s44 ⟨_, rfl, ?_⟩⟩
          rw [ifB_ndec]
          have hck : TruthR c sm L N H → N[k].lo ≤ H[p] ∧ H[p] ≤ N[k].hi := fun hT => by
            have := hT.2.2 _ (List.getElem_mem hk6) hlate'
            rw [hHp] at this
            exact this
          exact ⟨fun h1 => hfalse he58 fun hT => h1 (hck hT), fun h1 => hnext fun _ => by rw [hHp]; exact h1⟩
      exact hcts N.length 0 b8 m5 (by omega) (by simp) (.refl _)
    | succ d ih =>
      intro i b8 hd hn
      refine hstep _ _ _ ⟨hy.isSl, ?_⟩
      rw [hy.slLen, ifB_dec]
      refine ⟨fun _ => ⟨fits_small (by omega) (by omega), fun R11 hstep2 => ?_⟩, fun h1 => (h1 (by omega)).elim⟩
      have hi : i < H.length := by omega
      have hgo11 : ∀ (d2 j : Nat), d2 + j = H.length → i < j → (∀ b : Nat, i < b → b < j → pairR c sm H i b) → R11 [.c (.bool b8), .c (.int .i64 (j : Int))] m5 := by
        intro d2
        induction d2 with
        | zero =>
          intro j hd2 hij hn2
          refine hstep2 _ _ _ ⟨hy.isSl, ?_⟩
          rw [ifB_dec]
          refine ⟨fun h1 => by omega, fun _ => ⟨fits_small (by omega) (by omega), ih (i + 1) b8 (by omega) fun a b ha hab hb => ?_⟩⟩
          by_cases hai : a = i
          · subst hai; exact hn2 b hab (by omega)
          · exact hn a b (by omega) hab hb
        | succ d2 ih2 =>
          intro j hd2 hij hn2
          have hj : j < H.length := by omega
          have hdi := Int.ediv_nonneg (a := (i : Int)) (b := c) (by omega) (by have := hsd.c1; omega)
          have hdi2 := Int.ediv_le_self c (a := (i : Int)) (by omega)
          have hdj := Int.ediv_nonneg (a := (j : Int)) (b := c) (by omega) (by have := hsd.c1; omega)
          have hdj2 := Int.ediv_le_self c (a := (j : Int)) (by omega)
          have hc1 := hsd.c1
          have hc4 := hsd.c4
          have hi' := small_at hSH hi
          have hj' := small_at hSH hj
          have eI : H[i]! = H[i] := getElem!_pos H i hi
          have eJ : H[j]! = H[j] := getElem!_pos H j hj
          have next : pairR c sm H i j → fitsP .i64 ((j : Int) + 1) ∧ R11 [.c (.bool b8), .c (.int .i64 ((j + 1 : Nat) : Int))] m5 := fun hp => ⟨fits_small (by omega) (by omega), ih2 (j + 1) (by omega) (by omega) fun b hb1 hb2 => by
            by_cases hbj : b = j
            · subst hbj; exact hp
            · exact hn2 b hb1 (by omega)⟩
          have cmp : ((((i : Int) / c = (j : Int) / c ∧ j = i + 1) ∨ (j : Int) = i + c)) → Cmp38 Q R11 m m5 y H.length b8 (i : Int) (j : Int) := fun hcond => by
            refine ⟨i, rfl, hi, H[i], Li.rd hy5 (List.getElem?_eq_getElem hi), j, rfl, hj, H[j], Li.rd hy5 (List.getElem?_eq_getElem hj), fits_small (by omega) (by omega), trivial, sm, b5.rc rfl, fits_small (by omega) (by omega), trivial, sm, b5.rc rfl, s44 ⟨_, rfl, ?_⟩⟩
            rw [ifB_ndec]
            have hck : TruthR c sm L N H → 0 - sm ≤ H[i] - H[j] ∧ H[i] - H[j] ≤ sm := fun hT => by
              have := hT.2.1 i j hij hj hcond
              rw [eI, eJ] at this
              omega
            exact ⟨fun h1 => hfalse (.refl _) fun hT => h1 (hck hT), fun h1 => next fun _ => by rw [eI, eJ]; omega⟩
          refine hstep2 _ _ _ ⟨hy.isSl, ?_⟩
          rw [ifB_dec]
          refine ⟨fun _ => ?_, fun h1 => by omega⟩
          refine ⟨trivial, trivial, c, b5.rc rfl, by omega, by omega, fits_small (by omega) (by omega), trivial, trivial, c, b5.rc rfl, by omega, by omega, fits_small (by omega) (by omega), ?_⟩
          rw [ifB_dec]
          refine ⟨fun h1 => ⟨fits_small (by omega) (by omega), trivial, trivial, c, b5.rc rfl, fits_small (by omega) (by omega), ?_⟩, fun h1 => ⟨trivial, trivial, c, b5.rc rfl, fits_small (by omega) (by omega), ?_⟩⟩
          · rw [ifB_dec]
            refine ⟨fun h2 => cmp (.inl ⟨h1, by omega⟩), fun h2 => ?_⟩
            rw [ifB_dec]
            exact ⟨fun h3 => cmp (.inr h3), fun h3 => next fun h4 => h4.elim (fun h5 => absurd (by omega : (j : Int) = (i : Int) + 1) h2) fun h5 => absurd h5 h3⟩
          · rw [ifB_dec]
            exact ⟨fun h3 => cmp (.inr h3), fun h3 => next fun h4 => h4.elim (fun h5 => absurd h5.1 h1) fun h5 => absurd h5 h3⟩
      exact hgo11 (H.length - (i + 1)) (i + 1) (by omega) (by omega) fun b hb1 hb2 => by omega
  exact hgo7 H.length 0 false (by omega) fun a b ha => by omega
end
end Go.Proofs.Ytgkjfhkjgdiodaa

