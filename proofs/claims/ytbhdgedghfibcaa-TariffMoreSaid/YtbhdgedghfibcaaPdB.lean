/- What functions of the program ask and do. Condition: none; a lemma text of this claim. -/
import Derived.Test.YtbhdgedghfibcaaPdA

namespace Go.Proofs.Ytbhdgedghfibcaa
open _root_.Go.Proofs.Try
open Go.Abs
set_option maxRecDepth 100000
noncomputable section
theorem w19 {a100 : C} {m : M} {Q : V → M → Prop} (h :
 (∀ R0 : List V → M → Prop, ((∀ c1 : C, (∀ x2 : Int, (∀ m3 : M, ((isSl a100 ∧ (ifB (decide (x2 < (((slLen a100) : Nat) : Int))) (∀ m4 : M, 
 ((m4 = (mGrow m3 1)) → (∃ n5 : Nat, ((x2 = ((n5 : Nat) : Int)) ∧ ((n5 < (slLen a100)) ∧ (isPt (slAt a100 (n5 * 6)) ∧ 
 (∃ x6 : Int, (((ldC m4 (ptAdd (slAt a100 (n5 * 6)) 0)) = (some (C.int .i64 x6))) ∧ 
 (∃ n7 : Nat, ((x2 = ((n7 : Nat) : Int)) ∧ ((n7 < (slLen a100)) ∧ (isPt (slAt a100 (n7 * 6)) ∧ 
 (∃ b8 : Bool, (((ldC m4 (ptAdd (slAt a100 (n7 * 6)) 1)) = (some (C.bool b8))) ∧ 
 (∃ n9 : Nat, ((x2 = ((n9 : Nat) : Int)) ∧ ((n9 < (slLen a100)) ∧ (isPt (slAt a100 (n9 * 6)) ∧ 
 (∃ x10 : Int, (((ldC m4 (ptAdd (slAt a100 (n9 * 6)) 2)) = (some (C.int .i64 x10))) ∧ 
 (∃ n11 : Nat, ((x2 = ((n11 : Nat) : Int)) ∧ ((n11 < (slLen a100)) ∧ (isPt (slAt a100 (n11 * 6)) ∧ 
 (∃ c12 : C, (((ldC m4 (ptAdd (slAt a100 (n11 * 6)) 3)) = (some c12)) ∧ 
 (Wc prog tbl 58 [(V.c c12)] m4 (fun v13 m14 => (∃ c15 : C, ((v13 = (V.c c15)) ∧ 
 (((ldC m14 (ptAdd (slAt a100 (n9 * 6)) 2)) = (some (C.int .i64 x10))) ∧ 
 (((ldC m14 (ptAdd (slAt a100 (n7 * 6)) 1)) = (some (C.bool b8))) ∧ (((ldC m14 (ptAdd (slAt a100 (n5 * 6)) 0)) = (some (C.int .i64 x6))) ∧ 
 (∃ n16 : Nat, ((x2 = ((n16 : Nat) : Int)) ∧ ((n16 < (slLen a100)) ∧ (isPt (slAt a100 (n16 * 6)) ∧ 
 (∃ c17 : C, (((ldC m14 (ptAdd (slAt a100 (n16 * 6)) 4)) = (some c17)) ∧ 
 ((ifB (noFnC c17) ((ldC m4 (ptAdd (slAt a100 (n16 * 6)) 4)) = (some c17)) False) ∧ 
 (Wc prog tbl 58 [(V.c c17)] m14 (fun v18 m19 => (∃ c20 : C, ((v18 = (V.c c20)) ∧ 
 (((ldC m19 (ptAdd (slAt a100 (n9 * 6)) 2)) = (some (C.int .i64 x10))) ∧ 
 (((ldC m19 (ptAdd (slAt a100 (n7 * 6)) 1)) = (some (C.bool b8))) ∧ (((ldC m19 (ptAdd (slAt a100 (n5 * 6)) 0)) = (some (C.int .i64 x6))) ∧ 
 (∀ m21 : M, ((m21 = (M.set m19 (m3.nxt + 0) (AO.cells 6 [(C.int .i64 (0 : Int)), 
 (C.bool false), (C.int .i64 (0 : Int)), C.sl0, C.sl0, C.sl0] false))) → 
 ((ifB (noFnC c17) ((ldC m21 (ptAdd (slAt a100 (n16 * 6)) 4)) = (some c17)) False) ∧ 
 ((ifB (noFnC c12) ((ldC m21 (ptAdd (slAt a100 (n11 * 6)) 3)) = (some c12)) False) ∧ 
 (((ldC m21 (ptAdd (slAt a100 (n9 * 6)) 2)) = (some (C.int .i64 x10))) ∧ 
 (((ldC m21 (ptAdd (slAt a100 (n7 * 6)) 1)) = (some (C.bool b8))) ∧ (((ldC m21 (ptAdd (slAt a100 (n5 * 6)) 0)) = (some (C.int .i64 x6))) ∧ 
 (∃ m22 : M, (((stC m21 (C.ptr (m3.nxt + 0) 0) 6 [(C.int .i64 x6), (C.bool b8), 
 (C.int .i64 x10), c15, c20, C.sl0]) = (some m22)) ∧ (∀ R23 : List V → 
 M → Prop, ((∀ x24 : Int, (∀ m25 : M, ((∃ n26 : Nat, ((x2 = ((n26 : Nat) : Int)) ∧ 
 ((n26 < (slLen a100)) ∧ (isPt (slAt a100 (n26 * 6)) ∧ (∃ c27 : C, (((ldC m25 (ptAdd (slAt a100 (n26 * 6)) 5)) = (some c27)) ∧ 
 (isSl c27 ∧ (ifB (decide (x24 < (((slLen c27) : Nat) : Int))) (∀ R28 : List V → 
 M → Prop, ((∀ c29 : C, (∀ x30 : Int, (∀ m31 : M, ((∃ n32 : Nat, ((x2 = ((n32 : Nat) : Int)) ∧ 
 ((n32 < (slLen a100)) ∧ (isPt (slAt a100 (n32 * 6)) ∧ (∃ c33 : C, (((ldC m31 (ptAdd (slAt a100 (n32 * 6)) 5)) = (some c33)) ∧ 
 (∃ n34 : Nat, ((x24 = ((n34 : Nat) : Int)) ∧ ((n34 < (slLen c33)) ∧ (∃ c35 : C, 
 (((ldC m31 (slAt c33 (n34 * 1))) = (some c35)) ∧ (isSl c35 ∧ (ifB (decide (x30 < (((slLen c35) : Nat) : Int))) (∃ n36 : Nat, 
 ((x2 = ((n36 : Nat) : Int)) ∧ ((n36 < (slLen a100)) ∧ (isPt (slAt a100 (n36 * 6)) ∧ 
 (∃ c37 : C, (((ldC m31 (ptAdd (slAt a100 (n36 * 6)) 5)) = (some c37)) ∧ 
 (∃ n38 : Nat, ((x24 = ((n38 : Nat) : Int)) ∧ ((n38 < (slLen c37)) ∧ (∃ c39 : C, 
 (((ldC m31 (slAt c37 (n38 * 1))) = (some c39)) ∧ (∃ n40 : Nat, ((x30 = ((n40 : Nat) : Int)) ∧ 
 ((n40 < (slLen c39)) ∧ (∃ c41 : C, (((ldC m31 (slAt c39 (n40 * 1))) = (some c41)) ∧ 
 (Wc prog tbl 58 [(V.c c41)] m31 (fun v42 m43 => (∃ c44 : C, ((v42 = (V.c c44)) ∧ 
 (∀ m45 : M, ((m45 = (M.new m43 (AO.cells 1 [c44] false))) → (∃ c46 : C, (∃ m47 : M, 
 ((ApR prog 77 m45 c29 (C.sl m43.nxt 0 1 0 (some 1)) c46 m47) ∧ (fitsP .i64 (x30 + (1 : Int)) ∧ 
 (R28 [(V.c c46), (V.c (C.int .i64 (x30 + (1 : Int))))] m47))))))))))))))))))))))))))) (isPt (C.ptr (m3.nxt + 0) 0) ∧ 
 (∃ c48 : C, (((ldC m31 (C.ptr (m3.nxt + 0) 5)) = (some c48)) ∧ (∀ m49 : M, 
 ((m49 = (M.new m31 (AO.cells 1 [c29] false))) → (∃ c50 : C, (∃ m51 : M, ((ApR prog 74 m49 c48 (C.sl m31.nxt 0 1 0 (some 1)) c50 m51) ∧ 
 (isPt (C.ptr (m3.nxt + 0) 0) ∧ (∃ m52 : M, (((stC m51 (C.ptr (m3.nxt + 0) 5) 1 [c50]) = (some m52)) ∧ 
 (fitsP .i64 (x24 + (1 : Int)) ∧ (R23 [(V.c (C.int .i64 (x24 + (1 : Int))))] m52)))))))))))))))))))))))))) → 
 (R28 [(V.c c29), (V.c (C.int .i64 x30))] m31))))) → (R28 [(V.c C.sl0), 
 (V.c (C.int .i64 (0 : Int)))] m25))) (∃ x53 : Int, (∃ b54 : Bool, (∃ x55 : Int, 
 (∃ c56 : C, (∃ c57 : C, (∃ c58 : C, (((ldA m25 (C.ptr (m3.nxt + 0) 0) 6) = (some [(C.int .i64 x53), 
 (C.bool b54), (C.int .i64 x55), c56, c57, c58])) ∧ (∀ m59 : M, ((m59 = (M.new m25 (AO.cells 6 [(C.int .i64 x53), 
 (C.bool b54), (C.int .i64 x55), c56, c57, c58] false))) → (∃ c60 : C, 
 (∃ m61 : M, ((ApR prog 28 m59 c1 (C.sl m25.nxt 0 1 0 (some 1)) c60 m61) ∧ 
 (fitsP .i64 (x2 + (1 : Int)) ∧ (R0 [(V.c c60), (V.c (C.int .i64 (x2 + (1 : Int))))] m61)))))))))))))))))))))) → 
 (R23 [(V.c (C.int .i64 x24))] m25)))) → (R23 [(V.c (C.int .i64 (0 : Int)))] m22))))))))))))))))))))))))))))))))))))))))))))))))))))))))))) (Q (V.c c1) m3))) → 
 (R0 [(V.c c1), (V.c (C.int .i64 x2))] m3))))) → (R0 [(V.c C.sl0), (V.c (C.int .i64 (0 : Int)))] m)))) : Wc prog tbl 19 [(V.c a100)] m Q :=
 wc_eq (n := 1) rfl (by kernel_rfl) (by kernel_rfl) h
theorem w22 {a100 : Int} {a200 : Int} {a300 : Int} {m : M} {Q : V → M → Prop} (h :
 (ifB (decide (a200 ≤ a100)) (Q (V.c (C.bool (decide (a100 ≤ a300)))) m) (Q (V.c (C.bool false)) m))) : Wc prog tbl 22 [(V.c (C.int .i64 a100)), (V.c (C.int .i64 a200)), (V.c (C.int .i64 a300))] m Q :=
 wc_eq (n := 3) rfl (by kernel_rfl) (by kernel_rfl) h
theorem w49 {a100 : C} {m : M} {Q : V → M → Prop} (h :
 (Wc prog tbl 16 [(V.c a100)] m (fun v0 m1 => (∃ b2 : Bool, ((v0 = (V.c (C.bool b2))) ∧ (ifB b2 (Wc prog tbl 20 [(V.c a100)] m1 (fun v3 m4 => 
 (∃ x5 : Int, ((v3 = (V.c (C.int .i64 x5))) ∧ (Q (V.c (C.bool (decide (x5 = (0 : Int))))) m4))))) (Q (V.c (C.bool false)) m1))))))) : Wc prog tbl 49 [(V.c a100)] m Q :=
 wc_eq (n := 1) rfl (by kernel_rfl) (by kernel_rfl) h
theorem w52 {a100 : C} {a200 : Int} {m : M} {Q : V → M → Prop} (h :
 (∀ R0 : List V → M → Prop, ((∀ x1 : Int, (∀ m2 : M, ((fitsP .i64 (x1 + (1 : Int)) ∧ (isSl a100 ∧ (ifB (decide ((x1 + (1 : Int)) < (((slLen a100) : Nat) : Int))) (fitsP .i64 (x1 + (1 : Int)) ∧ 
 (∃ n3 : Nat, (((x1 + (1 : Int)) = ((n3 : Nat) : Int)) ∧ ((n3 < (slLen a100)) ∧ (∃ x4 : Int, (((ldC m2 (slAt a100 (n3 * 1))) = (some (C.int .i64 x4))) ∧ 
 (ifB (decide (x4 ≤ a200)) (fitsP .i64 (x1 + (1 : Int)) ∧ (R0 [(V.c (C.int .i64 (x1 + (1 : Int))))] m2)) (Q (V.c (C.int .i64 x1)) m2)))))))) (Q (V.c (C.int .i64 x1)) m2)))) → 
 (R0 [(V.c (C.int .i64 x1))] m2)))) → (R0 [(V.c (C.int .i64 (0 : Int)))] m)))) : Wc prog tbl 52 [(V.c a100), (V.c (C.int .i64 a200))] m Q :=
 wc_eq (n := 2) rfl (by kernel_rfl) (by kernel_rfl) h
theorem w55 {a100 : Int} {m : M} {Q : V → M → Prop} (h :
 (Wc prog tbl 78 [(V.agg 2 [(C.int .i64 (0 : Int)), (C.int .i64 (120 : Int))]), (V.c (C.int .i64 a100))] m (fun v0 m1 => 
 (∃ b2 : Bool, ((v0 = (V.c (C.bool b2))) ∧ (Q (V.c (C.bool b2)) m1)))))) : Wc prog tbl 55 [(V.c (C.int .i64 a100))] m Q :=
 wc_eq (n := 1) rfl (by kernel_rfl) (by kernel_rfl) h
theorem w58 {a100 : C} {m : M} {Q : V → M → Prop} (h :
 (∀ m0 : M, ((m0 = (M.new m (AO.cells 0 [] false))) → (∃ c1 : C, (∃ m2 : M, ((ApR prog 73 m0 (C.sl m.nxt 0 0 0 (some 0)) a100 c1 m2) ∧ 
 (Q (V.c c1) m2))))))) : Wc prog tbl 58 [(V.c a100)] m Q :=
 wc_eq (n := 1) rfl (by kernel_rfl) (by kernel_rfl) h
theorem w61 {a100 : C} {m : M} {Q : V → M → Prop} (h :
 (Wc prog tbl 84 [(V.c a100), (V.c (C.fn (Fn.func 85) [] []))] m (fun v0 m1 => (∃ b2 : Bool, ((v0 = (V.c (C.bool b2))) ∧ 
 (ifB b2 (Wc prog tbl 87 [(V.c a100)] m1 (fun v3 m4 => (∃ c5 : C, ((v3 = (V.c c5)) ∧ (Wc prog tbl 86 [(V.c c5)] m4 (fun v6 m7 => 
 (∃ b8 : Bool, ((v6 = (V.c (C.bool b8))) ∧ (ifB b8 (optB (mapO vW [(V.c a100)]) False fun l9 => (Wc prog tbl 84 [(V.c a100), 
 (V.c (C.fn (Fn.func 88) l9 []))] m7 (fun v10 m11 => (∃ b12 : Bool, ((v10 = (V.c (C.bool b12))) ∧ 
 (Q (V.c (C.bool b12)) m11)))))) (Q (V.c (C.bool false)) m7)))))))))) (Q (V.c (C.bool false)) m1))))))) : Wc prog tbl 61 [(V.c a100)] m Q :=
 wc_eq (n := 1) rfl (by kernel_rfl) (by kernel_rfl) h
theorem w79 {a100 : C} {a200 : Int} {m : M} {Q : V → M → Prop} (h :
 (∀ m0 : M, ((m0 = (M.new m (AO.cells 6 [(C.int .i64 (0 : Int)), (C.bool false), (C.int .i64 (0 : Int)), 
 C.sl0, C.sl0, C.sl0] false))) → (Wc prog tbl 87 [(V.c a100)] m0 (fun v1 m2 => (∃ c3 : C, ((v1 = (V.c c3)) ∧ 
 (Wc prog tbl 98 [(V.c c3), (V.c (C.int .i64 a200))] m2 (fun v4 m5 => (∃ x6 : Int, ((v4 = (V.c (C.int .i64 x6))) ∧ 
 (∃ n7 : Nat, ((x6 = ((n7 : Nat) : Int)) ∧ ((n7 < (slLen a100)) ∧ (∃ x8 : Int, (∃ b9 : Bool, (∃ x10 : Int, 
 (∃ c11 : C, (∃ c12 : C, (∃ c13 : C, (((ldA m5 (slAt a100 (n7 * 6)) 6) = (some [(C.int .i64 x8), 
 (C.bool b9), (C.int .i64 x10), c11, c12, c13])) ∧ (∃ m14 : M, (((stC m5 (C.ptr m.nxt 0) 6 [(C.int .i64 x8), 
 (C.bool b9), (C.int .i64 x10), c11, c12, c13]) = (some m14)) ∧ (∃ x15 : Int, 
 (∃ b16 : Bool, (∃ x17 : Int, (∃ c18 : C, (∃ c19 : C, (∃ c20 : C, (((ldA m14 (C.ptr m.nxt 0) 6) = (some [(C.int .i64 x15), 
 (C.bool b16), (C.int .i64 x17), c18, c19, c20])) ∧ (Q (V.agg 6 [(C.int .i64 x15), 
 (C.bool b16), (C.int .i64 x17), c18, c19, c20]) m14))))))))))))))))))))))))))))))) : Wc prog tbl 79 [(V.c a100), (V.c (C.int .i64 a200))] m Q :=
 wc_eq (n := 2) rfl (by kernel_rfl) (by kernel_rfl) h
theorem w82 {a100 : C} {a200 : C} {m : M} {Q : V → M → Prop} (h :
 (Wc prog tbl 102 [(V.c a100), (V.c a200)] m (fun v0 m1 => (∃ x2 : Int, ((v0 = (V.c (C.int .i64 x2))) ∧ (Q (V.c (C.bool (decide ((0 : Int) ≤ x2)))) m1)))))) : Wc prog tbl 82 [(V.c a100), (V.c a200)] m Q :=
 wc_eq (n := 2) rfl (by kernel_rfl) (by kernel_rfl) h
theorem w85 {a100 : Int} {a101 : Bool} {a102 : Int} {a103 : C} {a104 : C} {a105 : C} {m : M} {Q : V → M → Prop} (h :
 (∀ m0 : M, ((m0 = (M.new m (AO.cells 6 [(C.int .i64 a100), (C.bool a101), (C.int .i64 a102), a103, 
 a104, a105] false))) → (isPt (C.ptr m.nxt 0) ∧ (∃ x1 : Int, (((ldC m0 (C.ptr m.nxt 0)) = (some (C.int .i64 x1))) ∧ 
 (Wc prog tbl 55 [(V.c (C.int .i64 x1))] m0 (fun v2 m3 => (∃ b4 : Bool, ((v2 = (V.c (C.bool b4))) ∧ 
 (ifB b4 (isPt (C.ptr m.nxt 0) ∧ (∃ x5 : Int, (((ldC m3 (C.ptr m.nxt 2)) = (some (C.int .i64 x5))) ∧ 
 (Wc prog tbl 105 [(V.c (C.int .i64 x5))] m3 (fun v6 m7 => (∃ b8 : Bool, ((v6 = (V.c (C.bool b8))) ∧ 
 (ifB b8 (isPt (C.ptr m.nxt 0) ∧ (∃ c9 : C, (((ldC m7 (C.ptr m.nxt 3)) = (some c9)) ∧ 
 (Wc prog tbl 86 [(V.c c9)] m7 (fun v10 m11 => (∃ b12 : Bool, ((v10 = (V.c (C.bool b12))) ∧ 
 (ifB b12 (isPt (C.ptr m.nxt 0) ∧ (∃ c13 : C, (((ldC m11 (C.ptr m.nxt 3)) = (some c13)) ∧ 
 (Wc prog tbl 106 [(V.c c13), (V.c (C.fn (Fn.func 55) [] []))] m11 (fun v14 m15 => 
 (∃ b16 : Bool, ((v14 = (V.c (C.bool b16))) ∧ (ifB b16 (isPt (C.ptr m.nxt 0) ∧ 
 (∃ c17 : C, (((ldC m15 (C.ptr m.nxt 4)) = (some c17)) ∧ (Wc prog tbl 86 [(V.c c17)] m15 (fun v18 m19 => 
 (∃ b20 : Bool, ((v18 = (V.c (C.bool b20))) ∧ (ifB b20 (isPt (C.ptr m.nxt 0) ∧ 
 (∃ c21 : C, (((ldC m19 (C.ptr m.nxt 4)) = (some c21)) ∧ (isPt (C.ptr m.nxt 0) ∧ 
 (∃ c22 : C, (((ldC m19 (C.ptr m.nxt 4)) = (some c22)) ∧ (isSl c22 ∧ 
 (fitsP .i64 ((((slLen c22) : Nat) : Int) - (1 : Int)) ∧ (∃ n23 : Nat, 
 ((((((slLen c22) : Nat) : Int) - (1 : Int)) = ((n23 : Nat) : Int)) ∧ ((n23 < (slLen c21)) ∧ 
 (∃ x24 : Int, (((ldC m19 (slAt c21 (n23 * 1))) = (some (C.int .i64 x24))) ∧ 
 (ifB (decide (x24 = (100 : Int))) (isPt (C.ptr m.nxt 0) ∧ (∃ c25 : C, (((ldC m19 (C.ptr m.nxt 5)) = (some c25)) ∧ 
 (isSl c25 ∧ (ifB (decide ((0 : Int) < (((slLen c25) : Nat) : Int))) (isPt (C.ptr m.nxt 0) ∧ 
 (∃ c26 : C, (((ldC m19 (C.ptr m.nxt 5)) = (some c26)) ∧ (∃ x27 : Int, 
 (∃ b28 : Bool, (∃ x29 : Int, (∃ c30 : C, (∃ c31 : C, (∃ c32 : C, (((ldA m19 (C.ptr m.nxt 0) 6) = (some [(C.int .i64 x27), 
 (C.bool b28), (C.int .i64 x29), c30, c31, c32])) ∧ (optB (mapO vW [(V.agg 6 [(C.int .i64 x27), 
 (C.bool b28), (C.int .i64 x29), c30, c31, c32])]) False fun l33 => (Wc prog tbl 107 [(V.c c26), 
 (V.c (C.fn (Fn.func 108) l33 []))] m19 (fun v34 m35 => (∃ b36 : Bool, ((v34 = (V.c (C.bool b36))) ∧ 
 (Q (V.c (C.bool b36)) m35)))))))))))))))) (Q (V.c (C.bool false)) m19)))))) (Q (V.c (C.bool false)) m19))))))))))))))) (Q (V.c (C.bool false)) m19))))))))) (Q (V.c (C.bool false)) m15))))))))) (Q (V.c (C.bool false)) m11))))))))) (Q (V.c (C.bool false)) m7))))))))) (Q (V.c (C.bool false)) m3)))))))))))) : Wc prog tbl 85 [(V.agg 6 [(C.int .i64 a100), (C.bool a101), (C.int .i64 a102), a103, a104, a105])] m Q :=
 wc_eq (n := 1) rfl (by kernel_rfl) (by kernel_rfl) h
theorem w88 {a100 : C} {a200 : Int} {a201 : Bool} {a202 : Int} {a203 : C} {a204 : C} {a205 : C} {m : M} {Q : V → M → Prop} (h :
 (∀ m0 : M, ((m0 = (M.new m (AO.cells 6 [(C.int .i64 a200), (C.bool a201), (C.int .i64 a202), a203, 
 a204, a205] false))) → (isPt (C.ptr m.nxt 0) ∧ (∃ c1 : C, (((ldC m0 (C.ptr m.nxt 5)) = (some c1)) ∧ 
 (isSl c1 ∧ (∃ n2 : Nat, (((0 : Int) = ((n2 : Nat) : Int)) ∧ ((n2 < (slLen a100)) ∧ (isPt (slAt a100 (n2 * 6)) ∧ 
 (∃ c3 : C, (((ldC m0 (ptAdd (slAt a100 (n2 * 6)) 5)) = (some c3)) ∧ (isSl c3 ∧ (Q (V.c (C.bool (decide ((((slLen c1) : Nat) : Int) = (((slLen c3) : Nat) : Int))))) m0))))))))))))))) : Wc prog tbl 88 [(V.c a100), (V.agg 6 [(C.int .i64 a200), (C.bool a201), (C.int .i64 a202), a203, a204, a205])] m Q :=
 wc_eq (n := 2) rfl (by kernel_rfl) (by kernel_rfl) h
theorem w100 {a100 : Int} {a101 : Bool} {a102 : Int} {a103 : C} {a104 : C} {a105 : C} {m : M} {Q : V → M → Prop} (h :
 (∀ m0 : M, ((m0 = (M.new m (AO.cells 6 [(C.int .i64 a100), (C.bool a101), (C.int .i64 a102), a103, 
 a104, a105] false))) → (∀ m1 : M, ((m1 = (M.new m0 (AO.cells 1 [C.nilFn] false))) → (isPt (C.ptr m.nxt 0) ∧ 
 (∃ b2 : Bool, (((ldC m1 (C.ptr m.nxt 1)) = (some (C.bool b2))) ∧ (ifB b2 (∃ m3 : M, (((stC m1 (C.ptr m0.nxt 0) 1 [(C.fn (Fn.func 117) [] [])]) = (some m3)) ∧ 
 (∃ c4 : C, (((ldA m3 (C.ptr m0.nxt 0) 1) = (some [c4])) ∧ (Q (V.agg 1 [c4]) m3))))) (∃ m5 : M, 
 (((stC m1 (C.ptr m0.nxt 0) 1 [(C.fn (Fn.func 118) [] [])]) = (some m5)) ∧ (∃ c6 : C, (((ldA m5 (C.ptr m0.nxt 0) 1) = (some [c6])) ∧ 
 (Q (V.agg 1 [c6]) m5)))))))))))))) : Wc prog tbl 100 [(V.agg 6 [(C.int .i64 a100), (C.bool a101), (C.int .i64 a102), a103, a104, a105])] m Q :=
 wc_eq (n := 1) rfl (by kernel_rfl) (by kernel_rfl) h
theorem w103 {a100 : C} {a200 : C} {m : M} {Q : V → M → Prop} (h :
 (Wc prog tbl 119 [(V.c a100), (V.c a200)] m (fun v0 m1 => (∃ x2 : Int, ((v0 = (V.c (C.int .i64 x2))) ∧ (Q (V.c (C.bool (decide ((0 : Int) ≤ x2)))) m1)))))) : Wc prog tbl 103 [(V.c a100), (V.c a200)] m Q :=
 wc_eq (n := 2) rfl (by kernel_rfl) (by kernel_rfl) h
theorem w106 {a100 : C} {a200 : C} {m : M} {Q : V → M → Prop} (h :
 (∀ m0 : M, ((m0 = (M.new m (AO.cells 1 [a200] false))) → (Wc prog tbl 120 [(V.c a100), (V.c (C.fn (Fn.func 121) [] [(W.c (C0.ptr m.nxt 0))]))] m0 (fun v1 m2 => 
 (∃ b3 : Bool, ((v1 = (V.c (C.bool b3))) ∧ (Q (V.c (C.bool (!b3))) m2)))))))) : Wc prog tbl 106 [(V.c a100), (V.c a200)] m Q :=
 wc_eq (n := 2) rfl (by kernel_rfl) (by kernel_rfl) h
theorem w118 {a100 : Int} {a101 : Bool} {a102 : Int} {a103 : C} {a104 : C} {a105 : C} {a200 : Int} {m : M} {Q : V → M → Prop} (h :
 (∀ m0 : M, ((m0 = (M.new m (AO.cells 6 [(C.int .i64 a100), (C.bool a101), (C.int .i64 a102), a103, 
 a104, a105] false))) → (isPt (C.ptr m.nxt 0) ∧ (∃ x1 : Int, (((ldC m0 (C.ptr m.nxt 2)) = (some (C.int .i64 x1))) ∧ 
 (fitsP .i64 (a200 - x1) ∧ (Q (V.c (C.int .i64 (a200 - x1))) m0)))))))) : Wc prog tbl 118 [(V.agg 6 [(C.int .i64 a100), (C.bool a101), (C.int .i64 a102), a103, a104, a105]), (V.c (C.int .i64 a200))] m Q :=
 wc_eq (n := 2) rfl (by kernel_rfl) (by kernel_rfl) h
theorem w124 {a100 : C} {a200 : C} {m : M} {Q : V → M → Prop} (h :
 (∀ m0 : M, ((m0 = (M.new m (AO.cells 1 [a200] false))) → (Wc prog tbl 133 [(V.c a100), (V.c (C.fn (Fn.func 134) [] [(W.c (C0.ptr m.nxt 0))]))] m0 (fun v1 m2 => 
 (∃ b3 : Bool, ((v1 = (V.c (C.bool b3))) ∧ (Q (V.c (C.bool (!b3))) m2)))))))) : Wc prog tbl 124 [(V.c a100), (V.c a200)] m Q :=
 wc_eq (n := 2) rfl (by kernel_rfl) (by kernel_rfl) h
theorem w130 {a100 : Int} {m : M} {Q : V → M → Prop} (h :
 (Q (V.c (C.bool (!decide (a100 = a100)))) m)) : Wc prog tbl 130 [(V.c (C.int .i64 a100))] m Q :=
 wc_eq (n := 1) rfl (by kernel_rfl) (by kernel_rfl) h
theorem w133 {a100 : C} {a200 : C} {m : M} {Q : V → M → Prop} (h :
 (Wc prog tbl 135 [(V.c a100), (V.c a200)] m (fun v0 m1 => (∃ x2 : Int, ((v0 = (V.c (C.int .i64 x2))) ∧ (Q (V.c (C.bool (decide ((0 : Int) ≤ x2)))) m1)))))) : Wc prog tbl 133 [(V.c a100), (V.c a200)] m Q :=
 wc_eq (n := 2) rfl (by kernel_rfl) (by kernel_rfl) h
end
end Go.Proofs.Ytbhdgedghfibcaa

