/- What functions of the program ask and do. Condition: none; a lemma text of this claim. -/
import Derived.Test.YtbhdgedghfibcaaPiA

namespace Go.Proofs.Ytbhdgedghfibcaa
open _root_.Go.Proofs.Try
open Go.Abs
set_option maxRecDepth 100000
noncomputable section
theorem w21 {a100 : C} {m : M} {Q : V → M → Prop} (h :
 (Wc prog tbl 60 [(V.c a100)] m (fun v0 m1 => (∃ b2 : Bool, ((v0 = (V.c (C.bool b2))) ∧ (ifB b2 (Q (V.c (C.int .i64 (3 : Int))) m1) (Wc prog tbl 61 [(V.c a100)] m1 (fun v3 m4 => 
 (∃ b5 : Bool, ((v3 = (V.c (C.bool b5))) ∧ (ifB (!b5) (Q (V.c (C.int .i64 (1 : Int))) m4) (Q (V.c (C.int .i64 (0 : Int))) m4)))))))))))) : Wc prog tbl 21 [(V.c a100)] m Q :=
 wc_eq (n := 1) rfl (by kernel_rfl) (by kernel_rfl) h
theorem w36 {a100 : Int} {a101 : Int} {m : M} {Q : V → M → Prop} (h :
 (∀ m0 : M, ((m0 = (M.new m (AO.cells 2 [(C.int .i64 a100), (C.int .i64 a101)] false))) → (∀ m1 : M, 
 ((m1 = (M.new m0 (AO.cells 2 [(C.int .i64 (0 : Int)), (C.int .i64 (0 : Int))] false))) → (isPt (C.ptr m.nxt 0) ∧ 
 (∃ x2 : Int, (((ldC m1 (C.ptr m.nxt 0)) = (some (C.int .i64 x2))) ∧ (isPt (C.ptr m.nxt 0) ∧ 
 (∃ x3 : Int, (((ldC m1 (C.ptr m.nxt 1)) = (some (C.int .i64 x3))) ∧ (∃ m4 : M, (((stC m1 (C.ptr m0.nxt 0) 2 [(C.int .i64 x2), 
 (C.int .i64 x3)]) = (some m4)) ∧ (∃ x5 : Int, (∃ x6 : Int, (((ldA m4 (C.ptr m0.nxt 0) 2) = (some [(C.int .i64 x5), 
 (C.int .i64 x6)])) ∧ (Q (V.agg 2 [(C.int .i64 x5), (C.int .i64 x6)]) m4))))))))))))))))) : Wc prog tbl 36 [(V.agg 2 [(C.int .i64 a100), (C.int .i64 a101)])] m Q :=
 wc_eq (n := 1) rfl (by kernel_rfl) (by kernel_rfl) h
theorem w39 {a100 : C} {a200 : C} {m : M} {Q : V → M → Prop} (h :
 (∀ m0 : M, ((m0 = (M.new m (AO.cells 2 [(C.int .i64 (0 : Int)), (C.int .i64 (0 : Int))] false))) → 
 (Wc prog tbl 63 [(V.c a100), (V.c a200)] m0 (fun v1 m2 => (∃ c3 : C, (∃ c4 : C, (∃ x5 : Int, ((v1 = (V.tup [(U.agg 2 [c3, 
 c4]), (U.c (C.int .i64 x5))])) ∧ (∀ m6 : M, ((m6 = (M.new m2 (AO.cells 2 [C.sl0, C.map0] false))) → 
 (∃ m7 : M, (((stC m6 (C.ptr m2.nxt 0) 2 [c3, c4]) = (some m7)) ∧ (ifB (!decide (x5 = (0 : Int))) (∃ m8 : M, 
 (((stC m7 (C.ptr m.nxt 0) 2 [(C.int .i64 (0 : Int)), (C.int .i64 (0 : Int))]) = (some m8)) ∧ 
 (∃ x9 : Int, (∃ x10 : Int, (((ldA m8 (C.ptr m.nxt 0) 2) = (some [(C.int .i64 x9), 
 (C.int .i64 x10)])) ∧ (Q (V.tup [(U.agg 2 [(C.int .i64 x9), (C.int .i64 x10)]), 
 (U.c (C.int .i64 x5))]) m8)))))) (∀ m11 : M, ((m11 = (M.new m7 (AO.cells 2 [(C.int .i64 (0 : Int)), 
 (C.int .i64 (0 : Int))] false))) → (isSl a200 ∧ (∀ R12 : List V → M → Prop, ((∀ x13 : Int, 
 (∀ m14 : M, ((ifB (decide (x13 < (((slLen a200) : Nat) : Int))) (∃ n15 : Nat, ((x13 = ((n15 : Nat) : Int)) ∧ 
 ((n15 < (slLen a200)) ∧ (∃ x16 : Int, (∃ x17 : Int, (∃ x18 : Int, (∃ x19 : Int, (∃ x20 : Int, 
 (∃ x21 : Int, (((ldA m14 (slAt a200 (n15 * 6)) 6) = (some [(C.int .i64 x16), 
 (C.int .i64 x17), (C.int .i64 x18), (C.int .i64 x19), (C.int .i64 x20), 
 (C.int .i64 x21)])) ∧ (∀ m22 : M, ((m22 = (M.new m14 (AO.cells 6 [(C.int .i64 (0 : Int)), 
 (C.int .i64 (0 : Int)), (C.int .i64 (0 : Int)), (C.int .i64 (0 : Int)), 
 (C.int .i64 (0 : Int)), (C.int .i64 (0 : Int))] false))) → (∃ m23 : M, 
 (((stC m22 (C.ptr m14.nxt 0) 6 [(C.int .i64 x16), (C.int .i64 x17), 
 (C.int .i64 x18), (C.int .i64 x19), (C.int .i64 x20), (C.int .i64 x21)]) = (some m23)) ∧ 
 (∃ c24 : C, (∃ c25 : C, (((ldA m23 (C.ptr m2.nxt 0) 2) = (some [c24, 
 c25])) ∧ (∃ x26 : Int, (∃ x27 : Int, (∃ x28 : Int, (∃ x29 : Int, (∃ x30 : Int, 
 (∃ x31 : Int, (((ldA m23 (C.ptr m14.nxt 0) 6) = (some [(C.int .i64 x26), 
 (C.int .i64 x27), (C.int .i64 x28), (C.int .i64 x29), (C.int .i64 x30), 
 (C.int .i64 x31)])) ∧ (Wc prog tbl 67 [(V.agg 2 [c24, c25]), (V.agg 6 [(C.int .i64 x26), 
 (C.int .i64 x27), (C.int .i64 x28), (C.int .i64 x29), (C.int .i64 x30), 
 (C.int .i64 x31)])] m23 (fun v32 m33 => (∃ x34 : Int, (∃ x35 : Int, ((v32 = (V.agg 2 [(C.int .i64 x34), 
 (C.int .i64 x35)])) ∧ (∀ m36 : M, ((m36 = (M.new m33 (AO.cells 2 [(C.int .i64 (0 : Int)), 
 (C.int .i64 (0 : Int))] false))) → (∃ m37 : M, (((stC m36 (C.ptr m33.nxt 0) 2 [(C.int .i64 x34), 
 (C.int .i64 x35)]) = (some m37)) ∧ (isPt (C.ptr m7.nxt 0) ∧ (∃ x38 : Int, 
 (((ldC m37 (C.ptr m7.nxt 0)) = (some (C.int .i64 x38))) ∧ (isPt (C.ptr m33.nxt 0) ∧ 
 (∃ x39 : Int, (((ldC m37 (C.ptr m33.nxt 0)) = (some (C.int .i64 x39))) ∧ 
 (fitsP .i64 (x38 + x39) ∧ (isPt (C.ptr m7.nxt 0) ∧ (∃ m40 : M, (((stC m37 (C.ptr m7.nxt 0) 1 [(C.int .i64 (x38 + x39))]) = (some m40)) ∧ 
 (isPt (C.ptr m7.nxt 0) ∧ (∃ x41 : Int, (((ldC m40 (C.ptr m7.nxt 1)) = (some (C.int .i64 x41))) ∧ 
 (isPt (C.ptr m33.nxt 0) ∧ (∃ x42 : Int, (((ldC m40 (C.ptr m33.nxt 1)) = (some (C.int .i64 x42))) ∧ 
 (fitsP .i64 (x41 + x42) ∧ (isPt (C.ptr m7.nxt 0) ∧ (∃ m43 : M, (((stC m40 (C.ptr m7.nxt 1) 1 [(C.int .i64 (x41 + x42))]) = (some m43)) ∧ 
 (fitsP .i64 (x13 + (1 : Int)) ∧ (R12 [(V.c (C.int .i64 (x13 + (1 : Int))))] m43))))))))))))))))))))))))))))))))))))))))))))))))))))))) (∃ x44 : Int, 
 (∃ x45 : Int, (((ldA m14 (C.ptr m7.nxt 0) 2) = (some [(C.int .i64 x44), 
 (C.int .i64 x45)])) ∧ (∃ m46 : M, (((stC m14 (C.ptr m.nxt 0) 2 [(C.int .i64 x44), 
 (C.int .i64 x45)]) = (some m46)) ∧ (∃ x47 : Int, (∃ x48 : Int, 
 (((ldA m46 (C.ptr m.nxt 0) 2) = (some [(C.int .i64 x47), (C.int .i64 x48)])) ∧ 
 (Q (V.tup [(U.agg 2 [(C.int .i64 x47), (C.int .i64 x48)]), (U.c (C.int .i64 (0 : Int)))]) m46)))))))))) → 
 (R12 [(V.c (C.int .i64 x13))] m14)))) → (R12 [(V.c (C.int .i64 (0 : Int)))] m11)))))))))))))))))))) : Wc prog tbl 39 [(V.c a100), (V.c a200)] m Q :=
 wc_eq (n := 2) rfl (by kernel_rfl) (by kernel_rfl) h
theorem w54 {a100 : C} {a200 : Int} {m : M} {Q : V → M → Prop} (h :
 (∃ n0 : Nat, (((0 : Int) = ((n0 : Nat) : Int)) ∧ ((n0 < (slLen a100)) ∧ (isPt (slAt a100 (n0 * 6)) ∧ (∃ c1 : C, 
 (((ldC m (ptAdd (slAt a100 (n0 * 6)) 5)) = (some c1)) ∧ (isSl c1 ∧ (Wc prog tbl 77 [(V.c (C.int .i64 a200)), 
 (V.c (C.int .i64 (((slLen c1) : Nat) : Int)))] m (fun v2 m3 => (∃ b4 : Bool, ((v2 = (V.c (C.bool b4))) ∧ 
 (Q (V.c (C.bool b4)) m3))))))))))))) : Wc prog tbl 54 [(V.c a100), (V.c (C.int .i64 a200))] m Q :=
 wc_eq (n := 2) rfl (by kernel_rfl) (by kernel_rfl) h
theorem w57 {a100 : C} {a101 : C} {a200 : Int} {a201 : Int} {a202 : Int} {m : M} {Q : V → M → Prop} (h :
 (∀ m0 : M, ((m0 = (M.new m (AO.cells 2 [a100, a101] false))) → (∀ m1 : M, ((m1 = (M.new m0 (AO.cells 3 [(C.int .i64 a200), 
 (C.int .i64 a201), (C.int .i64 a202)] false))) → (isPt (C.ptr m.nxt 0) ∧ (∃ c2 : C, 
 (((ldC m1 (C.ptr m.nxt 1)) = (some c2)) ∧ (∃ x3 : Int, (∃ x4 : Int, (∃ x5 : Int, (((ldA m1 (C.ptr m0.nxt 0) 3) = (some [(C.int .i64 x3), 
 (C.int .i64 x4), (C.int .i64 x5)])) ∧ (∃ y6 : Option U, (((lkM prog 103 m1 c2 (V.agg 3 [(C.int .i64 x3), 
 (C.int .i64 x4), (C.int .i64 x5)])) = (some y6)) ∧ (((y6 = Option.none) → 
 (isPt (C.ptr m.nxt 0) ∧ (∃ c7 : C, (((ldC m1 (C.ptr m.nxt 0)) = (some c7)) ∧ (isPt (C.ptr m0.nxt 0) ∧ 
 (isPt (C.ptr m0.nxt 0) ∧ (∃ x8 : Int, (((ldC m1 (C.ptr m0.nxt 0)) = (some (C.int .i64 x8))) ∧ 
 (Wc prog tbl 79 [(V.c c7), (V.c (C.int .i64 x8))] m1 (fun v9 m10 => (∃ x11 : Int, 
 (∃ b12 : Bool, (∃ x13 : Int, (∃ c14 : C, (∃ c15 : C, (∃ c16 : C, ((v9 = (V.agg 6 [(C.int .i64 x11), 
 (C.bool b12), (C.int .i64 x13), c14, c15, c16])) ∧ (∃ x17 : Int, (∃ x18 : Int, 
 (∃ x19 : Int, (((ldA m10 (C.ptr m0.nxt 0) 3) = (some [(C.int .i64 x17), 
 (C.int .i64 x18), (C.int .i64 x19)])) ∧ (((ldA m1 (C.ptr m0.nxt 0) 3) = (some [(C.int .i64 x17), 
 (C.int .i64 x18), (C.int .i64 x19)])) ∧ (Wc prog tbl 80 [(V.agg 6 [(C.int .i64 x11), 
 (C.bool b12), (C.int .i64 x13), c14, c15, c16]), (V.agg 3 [(C.int .i64 x17), 
 (C.int .i64 x18), (C.int .i64 x19)])] m10 (fun v20 m21 => (∃ x22 : Int, 
 ((v20 = (V.c (C.int .i64 x22))) ∧ (isPt (C.ptr m.nxt 0) ∧ (∃ c23 : C, 
 (((ldC m21 (C.ptr m.nxt 1)) = (some c23)) ∧ (∃ x24 : Int, (∃ x25 : Int, 
 (∃ x26 : Int, (((ldA m21 (C.ptr m0.nxt 0) 3) = (some [(C.int .i64 x24), 
 (C.int .i64 x25), (C.int .i64 x26)])) ∧ (∃ m27 : M, (((upM prog 103 m21 c23 (V.agg 3 [(C.int .i64 x24), 
 (C.int .i64 x25), (C.int .i64 x26)]) (V.c (C.int .i64 x22))) = (some m27)) ∧ 
 (Q (V.c (C.int .i64 x22)) m27)))))))))))))))))))))))))))))))))))) ∧ (∀ u28 : U, 
 ((y6 = (some u28)) → (∃ x29 : Int, ((u28 = (U.c (C.int .i64 x29))) ∧ (Q (V.c (C.int .i64 x29)) m1)))))))))))))))))))) : Wc prog tbl 57 [(V.agg 2 [a100, a101]), (V.agg 3 [(C.int .i64 a200), (C.int .i64 a201), (C.int .i64 a202)])] m Q :=
 wc_eq (n := 2) rfl (by kernel_rfl) (by kernel_rfl) h
theorem w60 {a100 : C} {m : M} {Q : V → M → Prop} (h :
 (isSl a100 ∧ (ifB (decide ((3 : Int) < (((slLen a100) : Nat) : Int))) (Q (V.c (C.bool true)) m) (Wc prog tbl 82 [(V.c a100), 
 (V.c (C.fn (Fn.func 83) [] []))] m (fun v0 m1 => (∃ b2 : Bool, ((v0 = (V.c (C.bool b2))) ∧ (Q (V.c (C.bool b2)) m1)))))))) : Wc prog tbl 60 [(V.c a100)] m Q :=
 wc_eq (n := 1) rfl (by kernel_rfl) (by kernel_rfl) h
theorem w63 {a100 : C} {a200 : C} {m : M} {Q : V → M → Prop} (h :
 (∀ m0 : M, ((m0 = (M.new m (AO.cells 2 [C.sl0, C.map0] false))) → (Wc prog tbl 53 [(V.c a100)] m0 (fun v1 m2 => 
 (∃ c3 : C, (∃ c4 : C, (∃ x5 : Int, ((v1 = (V.tup [(U.agg 2 [c3, c4]), (U.c (C.int .i64 x5))])) ∧ 
 (∀ m6 : M, ((m6 = (M.new m2 (AO.cells 2 [C.sl0, C.map0] false))) → (∃ m7 : M, (((stC m6 (C.ptr m2.nxt 0) 2 [c3, 
 c4]) = (some m7)) ∧ (ifB (!decide (x5 = (0 : Int))) (∃ m8 : M, (((stC m7 (C.ptr m.nxt 0) 2 [C.sl0, 
 C.map0]) = (some m8)) ∧ (∃ c9 : C, (∃ c10 : C, (((ldA m8 (C.ptr m.nxt 0) 2) = (some [c9, 
 c10])) ∧ (Q (V.tup [(U.agg 2 [c9, c10]), (U.c (C.int .i64 x5))]) m8)))))) (isSl a200 ∧ 
 (ifB (decide ((5 : Int) < (((slLen a200) : Nat) : Int))) (∃ m11 : M, (((stC m7 (C.ptr m.nxt 0) 2 [C.sl0, 
 C.map0]) = (some m11)) ∧ (∃ c12 : C, (∃ c13 : C, (((ldA m11 (C.ptr m.nxt 0) 2) = (some [c12, 
 c13])) ∧ (Q (V.tup [(U.agg 2 [c12, c13]), (U.c (C.int .i64 (3 : Int)))]) m11)))))) (isPt (C.ptr m2.nxt 0) ∧ 
 (∃ c14 : C, (((ldC m7 (C.ptr m2.nxt 0)) = (some c14)) ∧ (optB (mapO vW [(V.c c14)]) False fun l15 => 
 (Wc prog tbl 89 [(V.c a200), (V.c (C.fn (Fn.func 90) l15 []))] m7 (fun v16 m17 => (∃ b18 : Bool, 
 ((v16 = (V.c (C.bool b18))) ∧ (ifB (!b18) (∃ m19 : M, (((stC m17 (C.ptr m.nxt 0) 2 [C.sl0, 
 C.map0]) = (some m19)) ∧ (∃ c20 : C, (∃ c21 : C, (((ldA m19 (C.ptr m.nxt 0) 2) = (some [c20, 
 c21])) ∧ (Q (V.tup [(U.agg 2 [c20, c21]), (U.c (C.int .i64 (2 : Int)))]) m19)))))) (∃ c22 : C, 
 (∃ c23 : C, (((ldA m17 (C.ptr m2.nxt 0) 2) = (some [c22, c23])) ∧ (∃ m24 : M, 
 (((stC m17 (C.ptr m.nxt 0) 2 [c22, c23]) = (some m24)) ∧ (∃ c25 : C, (∃ c26 : C, 
 (((ldA m24 (C.ptr m.nxt 0) 2) = (some [c25, c26])) ∧ (Q (V.tup [(U.agg 2 [c25, 
 c26]), (U.c (C.int .i64 (0 : Int)))]) m24)))))))))))))))))))))))))))))))))) : Wc prog tbl 63 [(V.c a100), (V.c a200)] m Q :=
 wc_eq (n := 2) rfl (by kernel_rfl) (by kernel_rfl) h
theorem w66 {a100 : C} {a200 : Int} {a201 : Int} {a202 : Int} {a203 : Int} {a204 : Int} {a205 : Int} {m : M} {Q : V → M → Prop} (h :
 (∀ m0 : M, ((m0 = (M.new m (AO.cells 6 [(C.int .i64 a200), (C.int .i64 a201), (C.int .i64 a202), 
 (C.int .i64 a203), (C.int .i64 a204), (C.int .i64 a205)] false))) → (isPt (C.ptr m.nxt 0) ∧ 
 (∃ x1 : Int, (((ldC m0 (C.ptr m.nxt 0)) = (some (C.int .i64 x1))) ∧ (Wc prog tbl 23 [(V.c a100)] m0 (fun v2 m3 => 
 (∃ x4 : Int, ((v2 = (V.c (C.int .i64 x4))) ∧ (((ldC m3 (C.ptr m.nxt 0)) = (some (C.int .i64 x1))) ∧ 
 (fitsP .i64 (x4 - (1 : Int)) ∧ (Wc prog tbl 22 [(V.c (C.int .i64 x1)), (V.c (C.int .i64 (0 : Int))), 
 (V.c (C.int .i64 (x4 - (1 : Int))))] m3 (fun v5 m6 => (∃ b7 : Bool, ((v5 = (V.c (C.bool b7))) ∧ 
 (ifB b7 (isPt (C.ptr m.nxt 0) ∧ (∃ x8 : Int, (((ldC m6 (C.ptr m.nxt 1)) = (some (C.int .i64 x8))) ∧ 
 (Wc prog tbl 22 [(V.c (C.int .i64 x8)), (V.c (C.int .i64 (0 : Int))), (V.c (C.int .i64 (100000 : Int)))] m6 (fun v9 m10 => 
 (∃ b11 : Bool, ((v9 = (V.c (C.bool b11))) ∧ (ifB b11 (isPt (C.ptr m.nxt 0) ∧ (isPt (C.ptr m.nxt 2) ∧ 
 (∃ x12 : Int, (((ldC m10 (C.ptr m.nxt 2)) = (some (C.int .i64 x12))) ∧ 
 (ifB (decide ((0 : Int) ≤ x12)) (isPt (C.ptr m.nxt 0) ∧ (isPt (C.ptr m.nxt 2) ∧ 
 (∃ x13 : Int, (((ldC m10 (C.ptr m.nxt 2)) = (some (C.int .i64 x13))) ∧ 
 (isPt (C.ptr m.nxt 0) ∧ (isPt (C.ptr m.nxt 2) ∧ (∃ x14 : Int, (((ldC m10 (C.ptr m.nxt 3)) = (some (C.int .i64 x14))) ∧ 
 (ifB (decide (x13 ≤ x14)) (isPt (C.ptr m.nxt 0) ∧ (isPt (C.ptr m.nxt 2) ∧ 
 (∃ x15 : Int, (((ldC m10 (C.ptr m.nxt 3)) = (some (C.int .i64 x15))) ∧ 
 (ifB (decide (x15 ≤ (120 : Int))) (isPt (C.ptr m.nxt 0) ∧ (isPt (C.ptr m.nxt 2) ∧ 
 (∃ x16 : Int, (((ldC m10 (C.ptr m.nxt 3)) = (some (C.int .i64 x16))) ∧ 
 (isPt (C.ptr m.nxt 0) ∧ (isPt (C.ptr m.nxt 2) ∧ (∃ x17 : Int, (((ldC m10 (C.ptr m.nxt 2)) = (some (C.int .i64 x17))) ∧ 
 (fitsP .i64 (x16 - x17) ∧ (ifB (decide ((x16 - x17) ≤ (10 : Int))) (isPt (C.ptr m.nxt 0) ∧ 
 (isPt (C.ptr m.nxt 4) ∧ (∃ x18 : Int, (((ldC m10 (C.ptr m.nxt 4)) = (some (C.int .i64 x18))) ∧ 
 (ifB (decide ((0 : Int) ≤ x18)) (isPt (C.ptr m.nxt 0) ∧ (isPt (C.ptr m.nxt 4) ∧ 
 (∃ x19 : Int, (((ldC m10 (C.ptr m.nxt 4)) = (some (C.int .i64 x19))) ∧ 
 (isPt (C.ptr m.nxt 0) ∧ (isPt (C.ptr m.nxt 4) ∧ (∃ x20 : Int, (((ldC m10 (C.ptr m.nxt 5)) = (some (C.int .i64 x20))) ∧ 
 (ifB (decide (x19 ≤ x20)) (isPt (C.ptr m.nxt 0) ∧ (isPt (C.ptr m.nxt 4) ∧ 
 (∃ x21 : Int, (((ldC m10 (C.ptr m.nxt 5)) = (some (C.int .i64 x21))) ∧ 
 (Q (V.c (C.bool (decide (x21 ≤ (100 : Int))))) m10))))) (Q (V.c (C.bool false)) m10)))))))))) (Q (V.c (C.bool false)) m10)))))) (Q (V.c (C.bool false)) m10))))))))))) (Q (V.c (C.bool false)) m10)))))) (Q (V.c (C.bool false)) m10)))))))))) (Q (V.c (C.bool false)) m10)))))) (Q (V.c (C.bool false)) m10))))))))) (Q (V.c (C.bool false)) m6)))))))))))))))))) : Wc prog tbl 66 [(V.c a100), (V.agg 6 [(C.int .i64 a200), (C.int .i64 a201), (C.int .i64 a202), (C.int .i64 a203), (C.int .i64 a204), (C.int .i64 a205)])] m Q :=
 wc_eq (n := 2) rfl (by kernel_rfl) (by kernel_rfl) h
theorem w69 {a100 : Int} {a101 : Int} {a102 : Int} {a103 : Int} {a104 : Int} {a105 : Int} {m : M} {Q : V → M → Prop} (h :
 (∀ m0 : M, ((m0 = (M.new m (AO.cells 6 [(C.int .i64 a100), (C.int .i64 a101), (C.int .i64 a102), 
 (C.int .i64 a103), (C.int .i64 a104), (C.int .i64 a105)] false))) → (Q (V.c (C.fn (Fn.func 94) [] [(W.c (C0.ptr m.nxt 0))])) m0)))) : Wc prog tbl 69 [(V.agg 6 [(C.int .i64 a100), (C.int .i64 a101), (C.int .i64 a102), (C.int .i64 a103), (C.int .i64 a104), (C.int .i64 a105)])] m Q :=
 wc_eq (n := 1) rfl (by kernel_rfl) (by kernel_rfl) h
theorem w78 {a100 : Int} {a101 : Int} {a200 : Int} {m : M} {Q : V → M → Prop} (h :
 (∀ m0 : M, ((m0 = (M.new m (AO.cells 2 [(C.int .i64 a100), (C.int .i64 a101)] false))) → (isPt (C.ptr m.nxt 0) ∧ 
 (∃ x1 : Int, (((ldC m0 (C.ptr m.nxt 0)) = (some (C.int .i64 x1))) ∧ (ifB (decide (x1 ≤ a200)) (isPt (C.ptr m.nxt 0) ∧ 
 (∃ x2 : Int, (((ldC m0 (C.ptr m.nxt 1)) = (some (C.int .i64 x2))) ∧ (Q (V.c (C.bool (decide (a200 ≤ x2)))) m0)))) (Q (V.c (C.bool false)) m0)))))))) : Wc prog tbl 78 [(V.agg 2 [(C.int .i64 a100), (C.int .i64 a101)]), (V.c (C.int .i64 a200))] m Q :=
 wc_eq (n := 2) rfl (by kernel_rfl) (by kernel_rfl) h
theorem w81 {a100 : Int} {a101 : Bool} {a102 : Int} {a103 : C} {a104 : C} {a105 : C} {m : M} {Q : V → M → Prop} (h :
 (∀ m0 : M, ((m0 = (M.new m (AO.cells 6 [(C.int .i64 a100), (C.bool a101), (C.int .i64 a102), a103, 
 a104, a105] false))) → (isPt (C.ptr m.nxt 0) ∧ (∃ x1 : Int, (((ldC m0 (C.ptr m.nxt 0)) = (some (C.int .i64 x1))) ∧ 
 (Wc prog tbl 22 [(V.c (C.int .i64 x1)), (V.c (C.int .i64 (0 : Int))), (V.c (C.int .i64 (120 : Int)))] m0 (fun v2 m3 => 
 (∃ b4 : Bool, ((v2 = (V.c (C.bool b4))) ∧ (ifB (!b4) (Q (V.c (C.bool false)) m3) (isPt (C.ptr m.nxt 0) ∧ 
 (∃ x5 : Int, (((ldC m3 (C.ptr m.nxt 2)) = (some (C.int .i64 x5))) ∧ (Wc prog tbl 22 [(V.c (C.int .i64 x5)), 
 (V.c (C.int .i64 (0 : Int))), (V.c (C.int .i64 (100 : Int)))] m3 (fun v6 m7 => 
 (∃ b8 : Bool, ((v6 = (V.c (C.bool b8))) ∧ (ifB (!b8) (Q (V.c (C.bool false)) m7) (isPt (C.ptr m.nxt 0) ∧ 
 (∃ c9 : C, (((ldC m7 (C.ptr m.nxt 3)) = (some c9)) ∧ (Wc prog tbl 101 [(V.c c9), 
 (V.c (C.int .i64 (120 : Int)))] m7 (fun v10 m11 => (∃ b12 : Bool, ((v10 = (V.c (C.bool b12))) ∧ 
 (ifB (!b12) (Q (V.c (C.bool false)) m11) (isPt (C.ptr m.nxt 0) ∧ (∃ c13 : C, (((ldC m11 (C.ptr m.nxt 4)) = (some c13)) ∧ 
 (Wc prog tbl 101 [(V.c c13), (V.c (C.int .i64 (100 : Int)))] m11 (fun v14 m15 => 
 (∃ b16 : Bool, ((v14 = (V.c (C.bool b16))) ∧ (ifB (!b16) (Q (V.c (C.bool false)) m15) (isPt (C.ptr m.nxt 0) ∧ 
 (∃ c17 : C, (((ldC m15 (C.ptr m.nxt 4)) = (some c17)) ∧ (isPt (C.ptr m.nxt 0) ∧ 
 (∃ c18 : C, (((ldC m15 (C.ptr m.nxt 4)) = (some c18)) ∧ (isSl c18 ∧ 
 (fitsP .i64 ((((slLen c18) : Nat) : Int) - (1 : Int)) ∧ (∃ n19 : Nat, 
 ((((((slLen c18) : Nat) : Int) - (1 : Int)) = ((n19 : Nat) : Int)) ∧ ((n19 < (slLen c17)) ∧ 
 (∃ x20 : Int, (((ldC m15 (slAt c17 (n19 * 1))) = (some (C.int .i64 x20))) ∧ 
 (ifB (!decide (x20 = (100 : Int))) (Q (V.c (C.bool false)) m15) (isPt (C.ptr m.nxt 0) ∧ 
 (∃ c21 : C, (((ldC m15 (C.ptr m.nxt 5)) = (some c21)) ∧ (isSl c21 ∧ 
 (ifB (decide ((((slLen c21) : Nat) : Int) = (0 : Int))) (Q (V.c (C.bool false)) m15) (∀ R22 : List V → 
 M → Prop, ((∀ b23 : Bool, (∀ b24 : Bool, (∀ b25 : Bool, (∀ x26 : Int, (∀ m27 : M, 
 ((isPt (C.ptr m.nxt 0) ∧ (∃ c28 : C, (((ldC m27 (C.ptr m.nxt 5)) = (some c28)) ∧ 
 (isSl c28 ∧ (ifB (decide (x26 < (((slLen c28) : Nat) : Int))) (isPt (C.ptr m.nxt 0) ∧ 
 (∃ c29 : C, (((ldC m27 (C.ptr m.nxt 5)) = (some c29)) ∧ (∃ n30 : Nat, 
 ((x26 = ((n30 : Nat) : Int)) ∧ ((n30 < (slLen c29)) ∧ (∃ c31 : C, (((ldC m27 (slAt c29 (n30 * 1))) = (some c31)) ∧ 
 (isSl c31 ∧ (isPt (C.ptr m.nxt 0) ∧ (∃ c32 : C, (((ldC m27 (C.ptr m.nxt 3)) = (some c32)) ∧ 
 (isSl c32 ∧ (ifB (!decide ((((slLen c31) : Nat) : Int) = (((slLen c32) : Nat) : Int))) (Q (V.c (C.bool false)) m27) (∀ R33 : List V → 
 M → Prop, ((∀ b34 : Bool, (∀ b35 : Bool, (∀ x36 : Int, (∀ m37 : M, ((isPt (C.ptr m.nxt 0) ∧ 
 (∃ c38 : C, (((ldC m37 (C.ptr m.nxt 3)) = (some c38)) ∧ (isSl c38 ∧ 
 (ifB (decide (x36 < (((slLen c38) : Nat) : Int))) (isPt (C.ptr m.nxt 0) ∧ (∃ c39 : C, 
 (((ldC m37 (C.ptr m.nxt 5)) = (some c39)) ∧ (∃ n40 : Nat, ((x26 = ((n40 : Nat) : Int)) ∧ 
 ((n40 < (slLen c39)) ∧ (∃ c41 : C, (((ldC m37 (slAt c39 (n40 * 1))) = (some c41)) ∧ 
 (∃ n42 : Nat, ((x36 = ((n42 : Nat) : Int)) ∧ ((n42 < (slLen c41)) ∧ (∃ c43 : C, 
 (((ldC m37 (slAt c41 (n42 * 1))) = (some c43)) ∧ (isSl c43 ∧ (isPt (C.ptr m.nxt 0) ∧ 
 (∃ c44 : C, (((ldC m37 (C.ptr m.nxt 4)) = (some c44)) ∧ (isSl c44 ∧ 
 (ifB (!decide ((((slLen c43) : Nat) : Int) = (((slLen c44) : Nat) : Int))) (Q (V.c (C.bool false)) m37) (∀ R45 : List V → 
 M → Prop, ((∀ b46 : Bool, (∀ x47 : Int, (∀ m48 : M, ((isPt (C.ptr m.nxt 0) ∧ 
 (∃ c49 : C, (((ldC m48 (C.ptr m.nxt 4)) = (some c49)) ∧ (isSl c49 ∧ 
 (ifB (decide (x47 < (((slLen c49) : Nat) : Int))) (isPt (C.ptr m.nxt 0) ∧ (∃ c50 : C, 
 (((ldC m48 (C.ptr m.nxt 5)) = (some c50)) ∧ (∃ n51 : Nat, ((x26 = ((n51 : Nat) : Int)) ∧ 
 ((n51 < (slLen c50)) ∧ (∃ c52 : C, (((ldC m48 (slAt c50 (n51 * 1))) = (some c52)) ∧ 
 (∃ n53 : Nat, ((x36 = ((n53 : Nat) : Int)) ∧ ((n53 < (slLen c52)) ∧ (∃ c54 : C, 
 (((ldC m48 (slAt c52 (n53 * 1))) = (some c54)) ∧ (∃ n55 : Nat, ((x47 = ((n55 : Nat) : Int)) ∧ 
 ((n55 < (slLen c54)) ∧ (∃ x56 : Int, (((ldC m48 (slAt c54 (n55 * 1))) = (some (C.int .i64 x56))) ∧ 
 (Wc prog tbl 22 [(V.c (C.int .i64 x56)), (V.c (C.int .i64 (0 : Int))), 
 (V.c (C.int .i64 (100 : Int)))] m48 (fun v57 m58 => (∃ b59 : Bool, ((v57 = (V.c (C.bool b59))) ∧ 
 (ifB (!b59) (Q (V.c (C.bool false)) m58) (fitsP .i64 (x47 + (1 : Int)) ∧ 
 (R45 [(V.c (C.bool b46)), (V.c (C.int .i64 (x47 + (1 : Int))))] m58))))))))))))))))))))))))) (fitsP .i64 (x36 + (1 : Int)) ∧ 
 (R33 [(V.c (C.bool b46)), (V.c (C.bool b46)), (V.c (C.int .i64 (x36 + (1 : Int))))] m48))))))) → 
 (R45 [(V.c (C.bool b46)), (V.c (C.int .i64 x47))] m48))))) → (R45 [(V.c (C.bool b34)), 
 (V.c (C.int .i64 (0 : Int)))] m37)))))))))))))))))))))) (fitsP .i64 (x26 + (1 : Int)) ∧ 
 (R22 [(V.c (C.bool b34)), (V.c (C.bool b34)), (V.c (C.bool b34)), (V.c (C.int .i64 (x26 + (1 : Int))))] m37))))))) → 
 (R33 [(V.c (C.bool b34)), (V.c (C.bool b35)), (V.c (C.int .i64 x36))] m37)))))) → 
 (R33 [(V.c (C.bool b23)), (V.c (C.bool b23)), (V.c (C.int .i64 (0 : Int)))] m27))))))))))))))))) (Q (V.c (C.bool true)) m27)))))) → 
 (R22 [(V.c (C.bool b23)), (V.c (C.bool b24)), (V.c (C.bool b25)), (V.c (C.int .i64 x26))] m27))))))) → 
 (R22 [(V.c (C.bool false)), (V.c (C.bool false)), (V.c (C.bool false)), (V.c (C.int .i64 (0 : Int)))] m15))))))))))))))))))))))))))))))))))))))))))))))))))))))))) : Wc prog tbl 81 [(V.agg 6 [(C.int .i64 a100), (C.bool a101), (C.int .i64 a102), a103, a104, a105])] m Q :=
 wc_eq (n := 1) rfl (by kernel_rfl) (by kernel_rfl) h
theorem w84 {a100 : C} {a200 : C} {m : M} {Q : V → M → Prop} (h :
 (∀ m0 : M, ((m0 = (M.new m (AO.cells 1 [a200] false))) → (Wc prog tbl 103 [(V.c a100), (V.c (C.fn (Fn.func 104) [] [(W.c (C0.ptr m.nxt 0))]))] m0 (fun v1 m2 => 
 (∃ b3 : Bool, ((v1 = (V.c (C.bool b3))) ∧ (Q (V.c (C.bool (!b3))) m2)))))))) : Wc prog tbl 84 [(V.c a100), (V.c a200)] m Q :=
 wc_eq (n := 2) rfl (by kernel_rfl) (by kernel_rfl) h
theorem w87 {a100 : C} {m : M} {Q : V → M → Prop} (h :
 (isSl a100 ∧ (∀ R0 : List V → M → Prop, ((∀ c1 : C, (∀ x2 : Int, (∀ m3 : M, ((ifB (decide (x2 < (((slLen a100) : Nat) : Int))) (∃ n4 : Nat, 
 ((x2 = ((n4 : Nat) : Int)) ∧ ((n4 < (slLen a100)) ∧ (∃ x5 : Int, (∃ b6 : Bool, (∃ x7 : Int, (∃ c8 : C, 
 (∃ c9 : C, (∃ c10 : C, (((ldA m3 (slAt a100 (n4 * 6)) 6) = (some [(C.int .i64 x5), 
 (C.bool b6), (C.int .i64 x7), c8, c9, c10])) ∧ (∀ m11 : M, ((m11 = (M.new m3 (AO.cells 6 [(C.int .i64 (0 : Int)), 
 (C.bool false), (C.int .i64 (0 : Int)), C.sl0, C.sl0, C.sl0] false))) → (∃ m12 : M, 
 (((stC m11 (C.ptr m3.nxt 0) 6 [(C.int .i64 x5), (C.bool b6), (C.int .i64 x7), 
 c8, c9, c10]) = (some m12)) ∧ (isPt (C.ptr m3.nxt 0) ∧ (∃ x13 : Int, (((ldC m12 (C.ptr m3.nxt 0)) = (some (C.int .i64 x13))) ∧ 
 (∀ m14 : M, ((m14 = (M.new m12 (AO.cells 1 [(C.int .i64 x13)] false))) → (∃ c15 : C, 
 (∃ m16 : M, ((ApR prog 73 m14 c1 (C.sl m12.nxt 0 1 0 (some 1)) c15 m16) ∧ 
 (fitsP .i64 (x2 + (1 : Int)) ∧ (R0 [(V.c c15), (V.c (C.int .i64 (x2 + (1 : Int))))] m16)))))))))))))))))))))))) (Q (V.c c1) m3)) → 
 (R0 [(V.c c1), (V.c (C.int .i64 x2))] m3))))) → (R0 [(V.c C.sl0), (V.c (C.int .i64 (0 : Int)))] m))))) : Wc prog tbl 87 [(V.c a100)] m Q :=
 wc_eq (n := 1) rfl (by kernel_rfl) (by kernel_rfl) h
theorem w90 {a100 : C} {a200 : Int} {a201 : Int} {a202 : Int} {a203 : Int} {a204 : Int} {a205 : Int} {m : M} {Q : V → M → Prop} (h :
 (∀ m0 : M, ((m0 = (M.new m (AO.cells 6 [(C.int .i64 a200), (C.int .i64 a201), (C.int .i64 a202), 
 (C.int .i64 a203), (C.int .i64 a204), (C.int .i64 a205)] false))) → (isPt (C.ptr m.nxt 0) ∧ 
 (∃ x1 : Int, (((ldC m0 (C.ptr m.nxt 0)) = (some (C.int .i64 x1))) ∧ (Wc prog tbl 54 [(V.c a100), 
 (V.c (C.int .i64 x1))] m0 (fun v2 m3 => (∃ b4 : Bool, ((v2 = (V.c (C.bool b4))) ∧ (ifB b4 (isPt (C.ptr m.nxt 0) ∧ 
 (∃ x5 : Int, (((ldC m3 (C.ptr m.nxt 1)) = (some (C.int .i64 x5))) ∧ (Wc prog tbl 78 [(V.agg 2 [(C.int .i64 (0 : Int)), 
 (C.int .i64 (100000 : Int))]), (V.c (C.int .i64 x5))] m3 (fun v6 m7 => (∃ b8 : Bool, 
 ((v6 = (V.c (C.bool b8))) ∧ (ifB b8 (isPt (C.ptr m.nxt 0) ∧ (∃ x9 : Int, (∃ x10 : Int, (((ldA m7 (C.ptr m.nxt 2) 2) = (some [(C.int .i64 x9), 
 (C.int .i64 x10)])) ∧ (Wc prog tbl 111 [(V.agg 2 [(C.int .i64 x9), (C.int .i64 x10)]), 
 (V.c (C.fn (Fn.func 55) [] []))] m7 (fun v11 m12 => (∃ b13 : Bool, ((v11 = (V.c (C.bool b13))) ∧ 
 (ifB b13 (isPt (C.ptr m.nxt 0) ∧ (isPt (C.ptr m.nxt 2) ∧ (∃ x14 : Int, (((ldC m12 (C.ptr m.nxt 3)) = (some (C.int .i64 x14))) ∧ 
 (isPt (C.ptr m.nxt 0) ∧ (isPt (C.ptr m.nxt 2) ∧ (∃ x15 : Int, (((ldC m12 (C.ptr m.nxt 2)) = (some (C.int .i64 x15))) ∧ 
 (fitsP .i64 (x14 - x15) ∧ (ifB (decide ((x14 - x15) ≤ (10 : Int))) (isPt (C.ptr m.nxt 0) ∧ 
 (∃ x16 : Int, (∃ x17 : Int, (((ldA m12 (C.ptr m.nxt 4) 2) = (some [(C.int .i64 x16), 
 (C.int .i64 x17)])) ∧ (Wc prog tbl 111 [(V.agg 2 [(C.int .i64 x16), 
 (C.int .i64 x17)]), (V.c (C.fn (Fn.func 56) [] []))] m12 (fun v18 m19 => 
 (∃ b20 : Bool, ((v18 = (V.c (C.bool b20))) ∧ (Q (V.c (C.bool b20)) m19))))))))) (Q (V.c (C.bool false)) m12))))))))))) (Q (V.c (C.bool false)) m12)))))))))) (Q (V.c (C.bool false)) m7))))))))) (Q (V.c (C.bool false)) m3)))))))))))) : Wc prog tbl 90 [(V.c a100), (V.agg 6 [(C.int .i64 a200), (C.int .i64 a201), (C.int .i64 a202), (C.int .i64 a203), (C.int .i64 a204), (C.int .i64 a205)])] m Q :=
 wc_eq (n := 2) rfl (by kernel_rfl) (by kernel_rfl) h
theorem w99 {a100 : Int} {a101 : Bool} {a102 : Int} {a103 : C} {a104 : C} {a105 : C} {a200 : Int} {a201 : Int} {a202 : Int} {m : M} {Q : V → M → Prop} (h :
 (∀ m0 : M, ((m0 = (M.new m (AO.cells 6 [(C.int .i64 a100), (C.bool a101), (C.int .i64 a102), a103, 
 a104, a105] false))) → (∀ m1 : M, ((m1 = (M.new m0 (AO.cells 3 [(C.int .i64 a200), (C.int .i64 a201), 
 (C.int .i64 a202)] false))) → (isPt (C.ptr m.nxt 0) ∧ (∃ c2 : C, (((ldC m1 (C.ptr m.nxt 5)) = (some c2)) ∧ 
 (isPt (C.ptr m0.nxt 0) ∧ (∃ x3 : Int, (((ldC m1 (C.ptr m0.nxt 2)) = (some (C.int .i64 x3))) ∧ 
 (∃ n4 : Nat, ((x3 = ((n4 : Nat) : Int)) ∧ ((n4 < (slLen c2)) ∧ (∃ c5 : C, (((ldC m1 (slAt c2 (n4 * 1))) = (some c5)) ∧ 
 (isPt (C.ptr m.nxt 0) ∧ (∃ c6 : C, (((ldC m1 (C.ptr m.nxt 3)) = (some c6)) ∧ (isPt (C.ptr m0.nxt 0) ∧ 
 (isPt (C.ptr m0.nxt 0) ∧ (∃ x7 : Int, (((ldC m1 (C.ptr m0.nxt 0)) = (some (C.int .i64 x7))) ∧ 
 (Wc prog tbl 98 [(V.c c6), (V.c (C.int .i64 x7))] m1 (fun v8 m9 => (∃ x10 : Int, 
 ((v8 = (V.c (C.int .i64 x10))) ∧ ((ifB (noFnC c5) ((ldC m9 (slAt c2 (n4 * 1))) = (some c5)) False) ∧ 
 (((ldC m9 (C.ptr m0.nxt 2)) = (some (C.int .i64 x3))) ∧ ((ifB (noFnC c2) ((ldC m9 (C.ptr m.nxt 5)) = (some c2)) False) ∧ 
 (∃ n11 : Nat, ((x10 = ((n11 : Nat) : Int)) ∧ ((n11 < (slLen c5)) ∧ (∃ c12 : C, 
 (((ldC m9 (slAt c5 (n11 * 1))) = (some c12)) ∧ (isPt (C.ptr m.nxt 0) ∧ 
 (∃ c13 : C, (((ldC m9 (C.ptr m.nxt 4)) = (some c13)) ∧ (isPt (C.ptr m0.nxt 0) ∧ 
 (isPt (C.ptr m0.nxt 0) ∧ (∃ x14 : Int, (((ldC m9 (C.ptr m0.nxt 1)) = (some (C.int .i64 x14))) ∧ 
 (Wc prog tbl 116 [(V.c c13), (V.c (C.int .i64 x14))] m9 (fun v15 m16 => 
 (∃ x17 : Int, (∃ b18 : Bool, ((v15 = (V.tup [(U.c (C.int .i64 x17)), (U.c (C.bool b18))])) ∧ 
 (ifB b18 (∃ n19 : Nat, ((x17 = ((n19 : Nat) : Int)) ∧ ((n19 < (slLen c12)) ∧ 
 (∃ x20 : Int, (((ldC m16 (slAt c12 (n19 * 1))) = (some (C.int .i64 x20))) ∧ 
 (Q (V.c (C.int .i64 x20)) m16)))))) (isPt (C.ptr m.nxt 0) ∧ (∃ c21 : C, 
 (((ldC m16 (C.ptr m.nxt 4)) = (some c21)) ∧ (fitsP .i64 (x17 - (1 : Int)) ∧ 
 (∃ n22 : Nat, (((x17 - (1 : Int)) = ((n22 : Nat) : Int)) ∧ ((n22 < (slLen c21)) ∧ 
 (∃ x23 : Int, (((ldC m16 (slAt c21 (n22 * 1))) = (some (C.int .i64 x23))) ∧ 
 (isPt (C.ptr m.nxt 0) ∧ (∃ c24 : C, (((ldC m16 (C.ptr m.nxt 4)) = (some c24)) ∧ 
 (∃ n25 : Nat, ((x17 = ((n25 : Nat) : Int)) ∧ ((n25 < (slLen c24)) ∧ (∃ x26 : Int, 
 (((ldC m16 (slAt c24 (n25 * 1))) = (some (C.int .i64 x26))) ∧ (fitsP .i64 (x17 - (1 : Int)) ∧ 
 (∃ n27 : Nat, (((x17 - (1 : Int)) = ((n27 : Nat) : Int)) ∧ ((n27 < (slLen c12)) ∧ 
 (∃ x28 : Int, (((ldC m16 (slAt c12 (n27 * 1))) = (some (C.int .i64 x28))) ∧ 
 (isPt (C.ptr m0.nxt 0) ∧ (isPt (C.ptr m0.nxt 0) ∧ (∃ x29 : Int, (((ldC m16 (C.ptr m0.nxt 1)) = (some (C.int .i64 x29))) ∧ 
 (fitsP .i64 (x26 - x29) ∧ (((0 : Int) ≤ x28) ∧ (((0 : Int) ≤ (x26 - x29)) ∧ 
 (fitsP .i64 (x28 * (x26 - x29)) ∧ (∃ n30 : Nat, ((x17 = ((n30 : Nat) : Int)) ∧ 
 ((n30 < (slLen c12)) ∧ (∃ x31 : Int, (((ldC m16 (slAt c12 (n30 * 1))) = (some (C.int .i64 x31))) ∧ 
 (isPt (C.ptr m0.nxt 0) ∧ (isPt (C.ptr m0.nxt 0) ∧ (∃ x32 : Int, (((ldC m16 (C.ptr m0.nxt 1)) = (some (C.int .i64 x32))) ∧ 
 (fitsP .i64 (x32 - x23) ∧ (((0 : Int) ≤ x31) ∧ (((0 : Int) ≤ (x32 - x23)) ∧ 
 (fitsP .i64 (x31 * (x32 - x23)) ∧ (fitsP .i64 ((x28 * (x26 - x29)) + (x31 * (x32 - x23))) ∧ 
 (fitsP .i64 (x26 - x23) ∧ (((0 : Int) ≤ ((x28 * (x26 - x29)) + (x31 * (x32 - x23)))) ∧ 
 (((0 : Int) < (x26 - x23)) ∧ (fitsP .i64 (((x28 * (x26 - x29)) + (x31 * (x32 - x23))) / (x26 - x23)) ∧ 
 (Q (V.c (C.int .i64 (((x28 * (x26 - x29)) + (x31 * (x32 - x23))) / (x26 - x23)))) m16)))))))))))))))))))))))))))))))))))))))))))))))))))))))))))))))))))))))))))))))))))))))))))))))))) : Wc prog tbl 99 [(V.agg 6 [(C.int .i64 a100), (C.bool a101), (C.int .i64 a102), a103, a104, a105]), (V.agg 3 [(C.int .i64 a200), (C.int .i64 a201), (C.int .i64 a202)])] m Q :=
 wc_eq (n := 2) rfl (by kernel_rfl) (by kernel_rfl) h
theorem w102 {a100 : C} {a200 : C} {m : M} {Q : V → M → Prop} (h :
 (isSl a100 ∧ (∀ R0 : List V → M → Prop, ((∀ x1 : Int, (∀ x2 : Int, (∀ m3 : M, ((ifB (decide (x2 < (((slLen a100) : Nat) : Int))) (∃ n4 : Nat, 
 ((x2 = ((n4 : Nat) : Int)) ∧ ((n4 < (slLen a100)) ∧ (∃ x5 : Int, (∃ b6 : Bool, (∃ x7 : Int, (∃ c8 : C, 
 (∃ c9 : C, (∃ c10 : C, (((ldA m3 (slAt a100 (n4 * 6)) 6) = (some [(C.int .i64 x5), 
 (C.bool b6), (C.int .i64 x7), c8, c9, c10])) ∧ (callP prog tbl [(V.agg 6 [(C.int .i64 x5), 
 (C.bool b6), (C.int .i64 x7), c8, c9, c10])] a200 m3 (fun v11 m12 => (∃ b13 : Bool, 
 ((v11 = (V.c (C.bool b13))) ∧ (ifB b13 (Q (V.c (C.int .i64 x2)) m12) (fitsP .i64 (x2 + (1 : Int)) ∧ 
 (R0 [(V.c (C.int .i64 x1)), (V.c (C.int .i64 (x2 + (1 : Int))))] m12))))))))))))))))) (Q (V.c (C.int .i64 (-1 : Int))) m3)) → 
 (R0 [(V.c (C.int .i64 x1)), (V.c (C.int .i64 x2))] m3))))) → (R0 [(V.c (C.int .i64 (0 : Int))), 
 (V.c (C.int .i64 (0 : Int)))] m))))) : Wc prog tbl 102 [(V.c a100), (V.c a200)] m Q :=
 wc_eq (n := 2) rfl (by kernel_rfl) (by kernel_rfl) h
theorem w105 {a100 : Int} {m : M} {Q : V → M → Prop} (h :
 (Wc prog tbl 78 [(V.agg 2 [(C.int .i64 (0 : Int)), (C.int .i64 (100 : Int))]), (V.c (C.int .i64 a100))] m (fun v0 m1 => 
 (∃ b2 : Bool, ((v0 = (V.c (C.bool b2))) ∧ (Q (V.c (C.bool b2)) m1)))))) : Wc prog tbl 105 [(V.c (C.int .i64 a100))] m Q :=
 wc_eq (n := 1) rfl (by kernel_rfl) (by kernel_rfl) h
theorem w108 {a100 : Int} {a101 : Bool} {a102 : Int} {a103 : C} {a104 : C} {a105 : C} {a200 : C} {m : M} {Q : V → M → Prop} (h :
 (∀ m0 : M, ((m0 = (M.new m (AO.cells 6 [(C.int .i64 a100), (C.bool a101), (C.int .i64 a102), a103, 
 a104, a105] false))) → (isSl a200 ∧ (isPt (C.ptr m.nxt 0) ∧ (∃ c1 : C, (((ldC m0 (C.ptr m.nxt 3)) = (some c1)) ∧ 
 (isSl c1 ∧ (ifB (decide ((((slLen a200) : Nat) : Int) = (((slLen c1) : Nat) : Int))) (∃ x2 : Int, (∃ b3 : Bool, 
 (∃ x4 : Int, (∃ c5 : C, (∃ c6 : C, (∃ c7 : C, (((ldA m0 (C.ptr m.nxt 0) 6) = (some [(C.int .i64 x2), 
 (C.bool b3), (C.int .i64 x4), c5, c6, c7])) ∧ (optB (mapO vW [(V.agg 6 [(C.int .i64 x2), 
 (C.bool b3), (C.int .i64 x4), c5, c6, c7])]) False fun l8 => (Wc prog tbl 124 [(V.c a200), 
 (V.c (C.fn (Fn.func 125) l8 []))] m0 (fun v9 m10 => (∃ b11 : Bool, ((v9 = (V.c (C.bool b11))) ∧ 
 (Q (V.c (C.bool b11)) m10))))))))))))) (Q (V.c (C.bool false)) m0)))))))))) : Wc prog tbl 108 [(V.agg 6 [(C.int .i64 a100), (C.bool a101), (C.int .i64 a102), a103, a104, a105]), (V.c a200)] m Q :=
 wc_eq (n := 2) rfl (by kernel_rfl) (by kernel_rfl) h
theorem w111 {a100 : Int} {a101 : Int} {a200 : C} {m : M} {Q : V → M → Prop} (h :
 (∀ m0 : M, ((m0 = (M.new m (AO.cells 2 [(C.int .i64 a100), (C.int .i64 a101)] false))) → (isPt (C.ptr m.nxt 0) ∧ 
 (∃ x1 : Int, (((ldC m0 (C.ptr m.nxt 0)) = (some (C.int .i64 x1))) ∧ (isPt (C.ptr m.nxt 0) ∧ 
 (∃ x2 : Int, (((ldC m0 (C.ptr m.nxt 1)) = (some (C.int .i64 x2))) ∧ (ifB (decide (x1 ≤ x2)) (isPt (C.ptr m.nxt 0) ∧ 
 (∃ x3 : Int, (((ldC m0 (C.ptr m.nxt 0)) = (some (C.int .i64 x3))) ∧ (callP prog tbl [(V.c (C.int .i64 x3))] a200 m0 (fun v4 m5 => 
 (∃ b6 : Bool, ((v4 = (V.c (C.bool b6))) ∧ (ifB b6 (isPt (C.ptr m.nxt 0) ∧ (∃ x7 : Int, (((ldC m5 (C.ptr m.nxt 1)) = (some (C.int .i64 x7))) ∧ 
 (callP prog tbl [(V.c (C.int .i64 x7))] a200 m5 (fun v8 m9 => (∃ b10 : Bool, ((v8 = (V.c (C.bool b10))) ∧ 
 (Q (V.c (C.bool b10)) m9)))))))) (Q (V.c (C.bool false)) m5))))))))) (Q (V.c (C.bool false)) m0))))))))))) : Wc prog tbl 111 [(V.agg 2 [(C.int .i64 a100), (C.int .i64 a101)]), (V.c a200)] m Q :=
 wc_eq (n := 2) rfl (by kernel_rfl) (by kernel_rfl) h
theorem w117 {a100 : Int} {a101 : Bool} {a102 : Int} {a103 : C} {a104 : C} {a105 : C} {a200 : Int} {m : M} {Q : V → M → Prop} (h :
 (∀ m0 : M, ((m0 = (M.new m (AO.cells 6 [(C.int .i64 a100), (C.bool a101), (C.int .i64 a102), a103, 
 a104, a105] false))) → (Q (V.c (C.int .i64 a200)) m0)))) : Wc prog tbl 117 [(V.agg 6 [(C.int .i64 a100), (C.bool a101), (C.int .i64 a102), a103, a104, a105]), (V.c (C.int .i64 a200))] m Q :=
 wc_eq (n := 2) rfl (by kernel_rfl) (by kernel_rfl) h
theorem w120 {a100 : C} {a200 : C} {m : M} {Q : V → M → Prop} (h :
 (Wc prog tbl 131 [(V.c a100), (V.c a200)] m (fun v0 m1 => (∃ x2 : Int, ((v0 = (V.c (C.int .i64 x2))) ∧ (Q (V.c (C.bool (decide ((0 : Int) ≤ x2)))) m1)))))) : Wc prog tbl 120 [(V.c a100), (V.c a200)] m Q :=
 wc_eq (n := 2) rfl (by kernel_rfl) (by kernel_rfl) h
theorem w126 {a100 : C} {a200 : C} {m : M} {Q : V → M → Prop} (h :
 (isSl a100 ∧ (∀ R0 : List V → M → Prop, ((∀ x1 : Int, (∀ x2 : Int, (∀ m3 : M, ((ifB (decide (x2 < (((slLen a100) : Nat) : Int))) (∃ n4 : Nat, 
 ((x2 = ((n4 : Nat) : Int)) ∧ ((n4 < (slLen a100)) ∧ (∃ x5 : Int, (∃ x6 : Int, (∃ x7 : Int, (∃ x8 : Int, 
 (∃ x9 : Int, (∃ x10 : Int, (((ldA m3 (slAt a100 (n4 * 6)) 6) = (some [(C.int .i64 x5), 
 (C.int .i64 x6), (C.int .i64 x7), (C.int .i64 x8), (C.int .i64 x9), 
 (C.int .i64 x10)])) ∧ (callP prog tbl [(V.agg 6 [(C.int .i64 x5), (C.int .i64 x6), 
 (C.int .i64 x7), (C.int .i64 x8), (C.int .i64 x9), (C.int .i64 x10)])] a200 m3 (fun v11 m12 => 
 (∃ b13 : Bool, ((v11 = (V.c (C.bool b13))) ∧ (ifB b13 (Q (V.c (C.int .i64 x2)) m12) (fitsP .i64 (x2 + (1 : Int)) ∧ 
 (R0 [(V.c (C.int .i64 x1)), (V.c (C.int .i64 (x2 + (1 : Int))))] m12))))))))))))))))) (Q (V.c (C.int .i64 (-1 : Int))) m3)) → 
 (R0 [(V.c (C.int .i64 x1)), (V.c (C.int .i64 x2))] m3))))) → (R0 [(V.c (C.int .i64 (0 : Int))), 
 (V.c (C.int .i64 (0 : Int)))] m))))) : Wc prog tbl 126 [(V.c a100), (V.c a200)] m Q :=
 wc_eq (n := 2) rfl (by kernel_rfl) (by kernel_rfl) h
theorem w129 {a100 : Int} {a200 : Int} {m : M} {Q : V → M → Prop} (h :
 (Wc prog tbl 95 [(V.c (C.int .i64 a100))] m (fun v0 m1 => (∃ b2 : Bool, ((v0 = (V.c (C.bool b2))) ∧ (ifB b2 (Wc prog tbl 95 [(V.c (C.int .i64 a200))] m1 (fun v3 m4 => 
 (∃ b5 : Bool, ((v3 = (V.c (C.bool b5))) ∧ (ifB (!b5) (Q (V.c (C.bool true)) m4) (Q (V.c (C.bool (decide (a100 < a200)))) m4)))))) (Q (V.c (C.bool (decide (a100 < a200)))) m1))))))) : Wc prog tbl 129 [(V.c (C.int .i64 a100)), (V.c (C.int .i64 a200))] m Q :=
 wc_eq (n := 2) rfl (by kernel_rfl) (by kernel_rfl) h
theorem w132 {a100 : C} {a200 : C} {m : M} {Q : V → M → Prop} (h :
 (isSl a100 ∧ (∀ R0 : List V → M → Prop, ((∀ x1 : Int, (∀ x2 : Int, (∀ m3 : M, ((ifB (decide (x2 < (((slLen a100) : Nat) : Int))) (∃ n4 : Nat, 
 ((x2 = ((n4 : Nat) : Int)) ∧ ((n4 < (slLen a100)) ∧ (∃ c5 : C, (((ldC m3 (slAt a100 (n4 * 1))) = (some c5)) ∧ 
 (callP prog tbl [(V.c c5)] a200 m3 (fun v6 m7 => (∃ b8 : Bool, ((v6 = (V.c (C.bool b8))) ∧ (ifB b8 (Q (V.c (C.int .i64 x2)) m7) (fitsP .i64 (x2 + (1 : Int)) ∧ 
 (R0 [(V.c (C.int .i64 x1)), (V.c (C.int .i64 (x2 + (1 : Int))))] m7)))))))))))) (Q (V.c (C.int .i64 (-1 : Int))) m3)) → 
 (R0 [(V.c (C.int .i64 x1)), (V.c (C.int .i64 x2))] m3))))) → (R0 [(V.c (C.int .i64 (0 : Int))), 
 (V.c (C.int .i64 (0 : Int)))] m))))) : Wc prog tbl 132 [(V.c a100), (V.c a200)] m Q :=
 wc_eq (n := 2) rfl (by kernel_rfl) (by kernel_rfl) h
theorem w135 {a100 : C} {a200 : C} {m : M} {Q : V → M → Prop} (h :
 (isSl a100 ∧ (∀ R0 : List V → M → Prop, ((∀ x1 : Int, (∀ x2 : Int, (∀ m3 : M, ((ifB (decide (x2 < (((slLen a100) : Nat) : Int))) (∃ n4 : Nat, 
 ((x2 = ((n4 : Nat) : Int)) ∧ ((n4 < (slLen a100)) ∧ (∃ c5 : C, (((ldC m3 (slAt a100 (n4 * 1))) = (some c5)) ∧ 
 (callP prog tbl [(V.c c5)] a200 m3 (fun v6 m7 => (∃ b8 : Bool, ((v6 = (V.c (C.bool b8))) ∧ (ifB b8 (Q (V.c (C.int .i64 x2)) m7) (fitsP .i64 (x2 + (1 : Int)) ∧ 
 (R0 [(V.c (C.int .i64 x1)), (V.c (C.int .i64 (x2 + (1 : Int))))] m7)))))))))))) (Q (V.c (C.int .i64 (-1 : Int))) m3)) → 
 (R0 [(V.c (C.int .i64 x1)), (V.c (C.int .i64 x2))] m3))))) → (R0 [(V.c (C.int .i64 (0 : Int))), 
 (V.c (C.int .i64 (0 : Int)))] m))))) : Wc prog tbl 135 [(V.c a100), (V.c a200)] m Q :=
 wc_eq (n := 2) rfl (by kernel_rfl) (by kernel_rfl) h
end
end Go.Proofs.Ytbhdgedghfibcaa

namespace Go.Proofs.Ytbhdgedghfibcaa
open _root_.Go.Proofs.Try
open Go.Abs
set_option maxRecDepth 100000
noncomputable section
theorem w15 {a100 : C} {a200 : C} {a300 : Int} {a301 : Int} {a302 : Int} {a303 : Int} {a304 : Int} {a305 : Int} {a400 : Int} {m : M} {Q : V → M → Prop} (h :
 (∀ m0 : M, ((m0 = (M.new m (AO.cells 6 [(C.int .i64 a300), (C.int .i64 a301), (C.int .i64 a302), 
 (C.int .i64 a303), (C.int .i64 a304), (C.int .i64 a305)] false))) → (∃ x1 : Int, 
 (∃ x2 : Int, (∃ x3 : Int, (∃ x4 : Int, (∃ x5 : Int, (∃ x6 : Int, (((ldA m0 (C.ptr m.nxt 0) 6) = (some [(C.int .i64 x1), 
 (C.int .i64 x2), (C.int .i64 x3), (C.int .i64 x4), (C.int .i64 x5), 
 (C.int .i64 x6)])) ∧ (Wc prog tbl 47 [(V.c a100), (V.agg 6 [(C.int .i64 x1), (C.int .i64 x2), 
 (C.int .i64 x3), (C.int .i64 x4), (C.int .i64 x5), (C.int .i64 x6)])] m0 (fun v7 m8 => 
 (∃ b9 : Bool, ((v7 = (V.c (C.bool b9))) ∧ (ifB (!b9) (Wc prog tbl 17 [] m8 (fun v10 m11 => (∃ b12 : Bool, 
 ((v10 = (V.c (C.bool b12))) ∧ (Q (V.c (C.bool b12)) m11))))) (isSl a200 ∧ (ifB (decide ((4 : Int) < (((slLen a200) : Nat) : Int))) (Wc prog tbl 17 [] m8 (fun v13 m14 => 
 (∃ b15 : Bool, ((v13 = (V.c (C.bool b15))) ∧ (Q (V.c (C.bool b15)) m14))))) (∀ R16 : List V → 
 M → Prop, ((∀ b17 : Bool, (∀ x18 : Int, (∀ m19 : M, ((isSl a200 ∧ (ifB (decide (x18 < (((slLen a200) : Nat) : Int))) (∃ n20 : Nat, 
 ((x18 = ((n20 : Nat) : Int)) ∧ ((n20 < (slLen a200)) ∧ (∃ x21 : Int, (∃ x22 : Int, 
 (∃ x23 : Int, (∃ x24 : Int, (∃ x25 : Int, (∃ x26 : Int, (((ldA m19 (slAt a200 (n20 * 6)) 6) = (some [(C.int .i64 x21), 
 (C.int .i64 x22), (C.int .i64 x23), (C.int .i64 x24), (C.int .i64 x25), 
 (C.int .i64 x26)])) ∧ (Wc prog tbl 47 [(V.c a100), (V.agg 6 [(C.int .i64 x21), 
 (C.int .i64 x22), (C.int .i64 x23), (C.int .i64 x24), (C.int .i64 x25), 
 (C.int .i64 x26)])] m19 (fun v27 m28 => (∃ b29 : Bool, ((v27 = (V.c (C.bool b29))) ∧ 
 (ifB (!b29) (Wc prog tbl 17 [] m28 (fun v30 m31 => (∃ b32 : Bool, ((v30 = (V.c (C.bool b32))) ∧ 
 (Q (V.c (C.bool b32)) m31))))) (fitsP .i64 (x18 + (1 : Int)) ∧ (R16 [(V.c (C.bool b17)), 
 (V.c (C.int .i64 (x18 + (1 : Int))))] m28))))))))))))))))) (∀ R33 : List V → 
 M → Prop, ((∀ c34 : C, (∀ x35 : Int, (∀ m36 : M, ((isSl a200 ∧ (ifB (decide (x35 < (((slLen a200) : Nat) : Int))) (fitsP .i64 (x35 + (wrapZ .i64 a400)) ∧ 
 (isSl a200 ∧ (((0 : Int) ≤ (x35 + (wrapZ .i64 a400))) ∧ (((0 : Int) < (((slLen a200) : Nat) : Int)) ∧ 
 (fitsP .i64 ((x35 + (wrapZ .i64 a400)) % (((slLen a200) : Nat) : Int)) ∧ 
 (∃ n37 : Nat, ((((x35 + (wrapZ .i64 a400)) % (((slLen a200) : Nat) : Int)) = ((n37 : Nat) : Int)) ∧ 
 ((n37 < (slLen a200)) ∧ (∃ x38 : Int, (∃ x39 : Int, (∃ x40 : Int, (∃ x41 : Int, 
 (∃ x42 : Int, (∃ x43 : Int, (((ldA m36 (slAt a200 (n37 * 6)) 6) = (some [(C.int .i64 x38), 
 (C.int .i64 x39), (C.int .i64 x40), (C.int .i64 x41), (C.int .i64 x42), 
 (C.int .i64 x43)])) ∧ (∀ m44 : M, ((m44 = (M.new m36 (AO.cells 6 [(C.int .i64 x38), 
 (C.int .i64 x39), (C.int .i64 x40), (C.int .i64 x41), (C.int .i64 x42), 
 (C.int .i64 x43)] false))) → (∃ c45 : C, (∃ m46 : M, ((ApR prog 64 m44 c34 (C.sl m36.nxt 0 1 0 (some 1)) c45 m46) ∧ 
 (fitsP .i64 (x35 + (1 : Int)) ∧ (R33 [(V.c c45), (V.c (C.int .i64 (x35 + (1 : Int))))] m46)))))))))))))))))))))) (Wc prog tbl 19 [(V.c a100)] m36 (fun v47 m48 => 
 (∃ c49 : C, ((v47 = (V.c c49)) ∧ (Wc prog tbl 40 [(V.c a200)] m48 (fun v50 m51 => 
 (∃ c52 : C, ((v50 = (V.c c52)) ∧ (Wc prog tbl 39 [(V.c c49), (V.c c52)] m51 (fun v53 m54 => 
 (∃ x55 : Int, (∃ x56 : Int, (∃ x57 : Int, ((v53 = (V.tup [(U.agg 2 [(C.int .i64 x55), 
 (C.int .i64 x56)]), (U.c (C.int .i64 x57))])) ∧ (∀ m58 : M, ((m58 = (M.new m54 (AO.cells 2 [(C.int .i64 (0 : Int)), 
 (C.int .i64 (0 : Int))] false))) → (∃ m59 : M, (((stC m58 (C.ptr m54.nxt 0) 2 [(C.int .i64 x55), 
 (C.int .i64 x56)]) = (some m59)) ∧ (Wc prog tbl 19 [(V.c a100)] m59 (fun v60 m61 => 
 (∃ c62 : C, ((v60 = (V.c c62)) ∧ (Wc prog tbl 40 [(V.c c34)] m61 (fun v63 m64 => 
 (∃ c65 : C, ((v63 = (V.c c65)) ∧ (Wc prog tbl 39 [(V.c c62), (V.c c65)] m64 (fun v66 m67 => 
 (∃ x68 : Int, (∃ x69 : Int, (∃ x70 : Int, ((v66 = (V.tup [(U.agg 2 [(C.int .i64 x68), 
 (C.int .i64 x69)]), (U.c (C.int .i64 x70))])) ∧ (∀ m71 : M, ((m71 = (M.new m67 (AO.cells 2 [(C.int .i64 (0 : Int)), 
 (C.int .i64 (0 : Int))] false))) → (∃ m72 : M, (((stC m71 (C.ptr m67.nxt 0) 2 [(C.int .i64 x68), 
 (C.int .i64 x69)]) = (some m72)) ∧ (∀ m73 : M, ((m73 = (mGrow m72 1)) → 
 (Wc prog tbl 19 [(V.c a100)] m73 (fun v74 m75 => (∃ c76 : C, ((v74 = (V.c c76)) ∧ 
 (∃ x77 : Int, (∃ x78 : Int, (∃ x79 : Int, (∃ x80 : Int, (∃ x81 : Int, (∃ x82 : Int, 
 (((ldA m75 (C.ptr m.nxt 0) 6) = (some [(C.int .i64 x77), (C.int .i64 x78), 
 (C.int .i64 x79), (C.int .i64 x80), (C.int .i64 x81), (C.int .i64 x82)])) ∧ 
 (((ldA m73 (C.ptr m.nxt 0) 6) = (some [(C.int .i64 x77), (C.int .i64 x78), 
 (C.int .i64 x79), (C.int .i64 x80), (C.int .i64 x81), (C.int .i64 x82)])) ∧ 
 (Wc prog tbl 26 [(V.agg 6 [(C.int .i64 x77), (C.int .i64 x78), 
 (C.int .i64 x79), (C.int .i64 x80), (C.int .i64 x81), (C.int .i64 x82)])] m75 (fun v83 m84 => 
 (∃ x85 : Int, (∃ x86 : Int, (∃ x87 : Int, (∃ x88 : Int, (∃ x89 : Int, (∃ x90 : Int, 
 ((v83 = (V.agg 6 [(C.int .i64 x85), (C.int .i64 x86), (C.int .i64 x87), 
 (C.int .i64 x88), (C.int .i64 x89), (C.int .i64 x90)])) ∧ 
 (Wc prog tbl 32 [(V.c c76), (V.agg 6 [(C.int .i64 x85), (C.int .i64 x86), 
 (C.int .i64 x87), (C.int .i64 x88), (C.int .i64 x89), (C.int .i64 x90)])] m84 (fun v91 m92 => 
 (∃ x93 : Int, (∃ x94 : Int, (∃ x95 : Int, ((v91 = (V.tup [(U.agg 2 [(C.int .i64 x93), 
 (C.int .i64 x94)]), (U.c (C.int .i64 x95))])) ∧ (∀ m96 : M, ((m96 = (M.set m92 (m72.nxt + 0) (AO.cells 2 [(C.int .i64 (0 : Int)), 
 (C.int .i64 (0 : Int))] false))) → (((ldA m96 (C.ptr m.nxt 0) 6) = (some [(C.int .i64 x77), 
 (C.int .i64 x78), (C.int .i64 x79), (C.int .i64 x80), (C.int .i64 x81), 
 (C.int .i64 x82)])) ∧ (∃ m97 : M, (((stC m96 (C.ptr (m72.nxt + 0) 0) 2 [(C.int .i64 x93), 
 (C.int .i64 x94)]) = (some m97)) ∧ (∀ m98 : M, ((m98 = (mGrow m97 2)) → 
 (Wc prog tbl 19 [(V.c a100)] m98 (fun v99 m100 => (∃ c101 : C, ((v99 = (V.c c101)) ∧ 
 (∃ x102 : Int, (∃ x103 : Int, (∃ x104 : Int, (∃ x105 : Int, (∃ x106 : Int, (∃ x107 : Int, 
 (((ldA m100 (C.ptr m.nxt 0) 6) = (some [(C.int .i64 x102), (C.int .i64 x103), 
 (C.int .i64 x104), (C.int .i64 x105), (C.int .i64 x106), 
 (C.int .i64 x107)])) ∧ (((ldA m98 (C.ptr m.nxt 0) 6) = (some [(C.int .i64 x102), 
 (C.int .i64 x103), (C.int .i64 x104), (C.int .i64 x105), 
 (C.int .i64 x106), (C.int .i64 x107)])) ∧ (∀ m108 : M, ((m108 = (M.set m100 (m97.nxt + 0) (AO.cells 6 [(C.int .i64 x102), 
 (C.int .i64 x103), (C.int .i64 x104), (C.int .i64 x105), 
 (C.int .i64 x106), (C.int .i64 x107)] false))) → (∃ c109 : C, (∃ m110 : M, 
 ((ApR prog 64 m108 c34 (C.sl (m97.nxt + 0) 0 1 0 (some 1)) c109 m110) ∧ 
 (Wc prog tbl 40 [(V.c c109)] m110 (fun v111 m112 => (∃ c113 : C, ((v111 = (V.c c113)) ∧ 
 (Wc prog tbl 39 [(V.c c101), (V.c c113)] m112 (fun v114 m115 => (∃ x116 : Int, 
 (∃ x117 : Int, (∃ x118 : Int, ((v114 = (V.tup [(U.agg 2 [(C.int .i64 x116), 
 (C.int .i64 x117)]), (U.c (C.int .i64 x118))])) ∧ (∀ m119 : M, 
 ((m119 = (M.set m115 (m97.nxt + 1) (AO.cells 2 [(C.int .i64 (0 : Int)), 
 (C.int .i64 (0 : Int))] false))) → (((ldA m119 (C.ptr m.nxt 0) 6) = (some [(C.int .i64 x102), 
 (C.int .i64 x103), (C.int .i64 x104), (C.int .i64 x105), 
 (C.int .i64 x106), (C.int .i64 x107)])) ∧ (∃ m120 : M, (((stC m119 (C.ptr (m97.nxt + 1) 0) 2 [(C.int .i64 x116), 
 (C.int .i64 x117)]) = (some m120)) ∧ (ifB (decide (x57 = (0 : Int))) (ifB (decide (x70 = (0 : Int))) (ifB (decide (x95 = (0 : Int))) (ifB (decide (x118 = (0 : Int))) (∃ x121 : Int, 
 (∃ x122 : Int, (((ldA m120 (C.ptr m54.nxt 0) 2) = (some [(C.int .i64 x121), 
 (C.int .i64 x122)])) ∧ (∃ x123 : Int, (∃ x124 : Int, (((ldA m120 (C.ptr m67.nxt 0) 2) = (some [(C.int .i64 x123), 
 (C.int .i64 x124)])) ∧ (fitsP .i64 x121 ∧ (fitsP .i64 x123 ∧ 
 (fitsP .i64 x122 ∧ (fitsP .i64 x124 ∧ (ifB ((decide (x121 = x123)) && (decide (x122 = x124))) (∃ x125 : Int, 
 (∃ x126 : Int, (((ldA m120 (C.ptr (m97.nxt + 1) 0) 2) = (some [(C.int .i64 x125), 
 (C.int .i64 x126)])) ∧ (isPt (C.ptr m54.nxt 0) ∧ (∃ x127 : Int, (((ldC m120 (C.ptr m54.nxt 0)) = (some (C.int .i64 x127))) ∧ 
 (isPt (C.ptr (m72.nxt + 0) 0) ∧ (∃ x128 : Int, (((ldC m120 (C.ptr (m72.nxt + 0) 0)) = (some (C.int .i64 x128))) ∧ 
 (fitsP .i64 (x127 + x128) ∧ (isPt (C.ptr m54.nxt 0) ∧ (∃ x129 : Int, 
 (((ldC m120 (C.ptr m54.nxt 1)) = (some (C.int .i64 x129))) ∧ 
 (isPt (C.ptr (m72.nxt + 0) 0) ∧ (∃ x130 : Int, (((ldC m120 (C.ptr (m72.nxt + 0) 1)) = (some (C.int .i64 x130))) ∧ 
 (fitsP .i64 (x129 + x130) ∧ (Wc prog tbl 46 [(V.c (C.int .i64 (x127 + x128))), 
 (V.c (C.int .i64 (x129 + x130)))] m120 (fun v131 m132 => (∃ x133 : Int, 
 (∃ x134 : Int, ((v131 = (V.agg 2 [(C.int .i64 x133), (C.int .i64 x134)])) ∧ 
 (((ldA m132 (C.ptr (m97.nxt + 1) 0) 2) = (some [(C.int .i64 x125), 
 (C.int .i64 x126)])) ∧ (fitsP .i64 x125 ∧ (fitsP .i64 x133 ∧ 
 (fitsP .i64 x126 ∧ (fitsP .i64 x134 ∧ (ifB ((decide (x125 = x133)) && (decide (x126 = x134))) (isSl a200 ∧ 
 (ifB (decide ((0 : Int) < (((slLen a200) : Nat) : Int))) (Wc prog tbl 17 [] m132 (fun v135 m136 => 
 (∃ b137 : Bool, ((v135 = (V.c (C.bool b137))) ∧ (Q (V.c (C.bool b137)) m136))))) (∃ x138 : Int, 
 (∃ x139 : Int, (((ldA m132 (C.ptr m54.nxt 0) 2) = (some [(C.int .i64 x138), 
 (C.int .i64 x139)])) ∧ (fitsP .i64 x138 ∧ (fitsP .i64 (0 : Int) ∧ 
 (fitsP .i64 x139 ∧ (fitsP .i64 (0 : Int) ∧ (ifB ((decide (x138 = (0 : Int))) && (decide (x139 = (0 : Int)))) (Wc prog tbl 17 [] m132 (fun v140 m141 => 
 (∃ b142 : Bool, ((v140 = (V.c (C.bool b142))) ∧ (Q (V.c (C.bool b142)) m141))))) (Q (V.c (C.bool false)) m132))))))))))) (Q (V.c (C.bool false)) m132))))))))))))))))))))))))))))) (Q (V.c (C.bool false)) m120)))))))))))) (Q (V.c (C.bool false)) m120)) (Q (V.c (C.bool false)) m120)) (Q (V.c (C.bool false)) m120)) (Q (V.c (C.bool false)) m120)))))))))))))))))))))))))))))))))))))))))))))))))))))))))))))))))))))))))))))))))))))))))))))))))))))))))))) → 
 (R33 [(V.c c34), (V.c (C.int .i64 x35))] m36))))) → (R33 [(V.c C.sl0), 
 (V.c (C.int .i64 (0 : Int)))] m19))))) → (R16 [(V.c (C.bool b17)), (V.c (C.int .i64 x18))] m19))))) → 
 (R16 [(V.c (C.bool false)), (V.c (C.int .i64 (0 : Int)))] m8)))))))))))))))))))) : Wc prog tbl 15 [(V.c a100), (V.c a200), (V.agg 6 [(C.int .i64 a300), (C.int .i64 a301), (C.int .i64 a302), (C.int .i64 a303), (C.int .i64 a304), (C.int .i64 a305)]), (V.c (C.int .u8 a400))] m Q :=
 wc_eq (n := 4) rfl (by kernel_rfl) (by kernel_rfl) h
theorem w19 {a100 : C} {m : M} {Q : V → M → Prop} (h :
 (∀ R0 : List V → M → Prop, ((∀ c1 : C, (∀ x2 : Int, (∀ m3 : M, ((isSl a100 ∧ (ifB (decide (x2 < (((slLen a100) : Nat) : Int))) (∀ m4 : M, 
 ((m4 = (mGrow m3 1)) → (∃ n5 : Nat, ((x2 = ((n5 : Nat) : Int)) ∧ ((n5 < (slLen a100)) ∧ (isPt (slAt a100 (n5 * 6)) ∧ 
 (∃ x6 : Int, (((ldC m4 (ptAdd (slAt a100 (n5 * 6)) 0)) = (some (C.int .i64 x6))) ∧ 
 (∃ n7 : Nat, ((x2 = ((n7 : Nat) : Int)) ∧ ((n7 < (slLen a100)) ∧ (isPt (slAt a100 (n7 * 6)) ∧ 
 (∃ b8 : Bool, (((ldC m4 (ptAdd (slAt a100 (n7 * 6)) 1)) = (some (C.bool b8))) ∧ 
 (∃ n9 : Nat, ((x2 = ((n9 : Nat) : Int)) ∧ ((n9 < (slLen a100)) ∧ (isPt (slAt a100 (n9 * 6)) ∧ 
 (∃ x10 : Int, (((ldC m4 (ptAdd (slAt a100 (n9 * 6)) 2)) = (some (C.int .i64 x10))) ∧ 
 (∃ n11 : Nat, ((x2 = ((n11 : Nat) : Int)) ∧ ((n11 < (slLen a100)) ∧ (isPt (slAt a100 (n11 * 6)) ∧ 
 (∃ c12 : C, (((ldC m4 (ptAdd (slAt a100 (n11 * 6)) 3)) = (some c12)) ∧ 
 (Wc prog tbl 58 [(V.c c12)] m4 (fun v13 m14 => (∃ c15 : C, ((v13 = (V.c c15)) ∧ 
 (((ldC m14 (ptAdd (slAt a100 (n9 * 6)) 2)) = (some (C.int .i64 x10))) ∧ 
 (((ldC m14 (ptAdd (slAt a100 (n7 * 6)) 1)) = (some (C.bool b8))) ∧ (((ldC m14 (ptAdd (slAt a100 (n5 * 6)) 0)) = (some (C.int .i64 x6))) ∧ 
 (∃ n16 : Nat, ((x2 = ((n16 : Nat) : Int)) ∧ ((n16 < (slLen a100)) ∧ (isPt (slAt a100 (n16 * 6)) ∧ 
 (∃ c17 : C, (((ldC m14 (ptAdd (slAt a100 (n16 * 6)) 4)) = (some c17)) ∧ 
 ((ifB (noFnC c17) ((ldC m4 (ptAdd (slAt a100 (n16 * 6)) 4)) = (some c17)) False) ∧ 
 (Wc prog tbl 58 [(V.c c17)] m14 (fun v18 m19 => (∃ c20 : C, ((v18 = (V.c c20)) ∧ 
 (((ldC m19 (ptAdd (slAt a100 (n9 * 6)) 2)) = (some (C.int .i64 x10))) ∧ 
 (((ldC m19 (ptAdd (slAt a100 (n7 * 6)) 1)) = (some (C.bool b8))) ∧ (((ldC m19 (ptAdd (slAt a100 (n5 * 6)) 0)) = (some (C.int .i64 x6))) ∧ 
 (∀ m21 : M, ((m21 = (M.set m19 (m3.nxt + 0) (AO.cells 6 [(C.int .i64 (0 : Int)), 
 (C.bool false), (C.int .i64 (0 : Int)), C.sl0, C.sl0, C.sl0] false))) → 
 ((ifB (noFnC c17) ((ldC m21 (ptAdd (slAt a100 (n16 * 6)) 4)) = (some c17)) False) ∧ 
 ((ifB (noFnC c12) ((ldC m21 (ptAdd (slAt a100 (n11 * 6)) 3)) = (some c12)) False) ∧ 
 (((ldC m21 (ptAdd (slAt a100 (n9 * 6)) 2)) = (some (C.int .i64 x10))) ∧ 
 (((ldC m21 (ptAdd (slAt a100 (n7 * 6)) 1)) = (some (C.bool b8))) ∧ (((ldC m21 (ptAdd (slAt a100 (n5 * 6)) 0)) = (some (C.int .i64 x6))) ∧ 
 (∃ m22 : M, (((stC m21 (C.ptr (m3.nxt + 0) 0) 6 [(C.int .i64 x6), (C.bool b8), 
 (C.int .i64 x10), c15, c20, C.sl0]) = (some m22)) ∧ (∀ R23 : List V → 
 M → Prop, ((∀ x24 : Int, (∀ m25 : M, ((∃ n26 : Nat, ((x2 = ((n26 : Nat) : Int)) ∧ 
 ((n26 < (slLen a100)) ∧ (isPt (slAt a100 (n26 * 6)) ∧ (∃ c27 : C, (((ldC m25 (ptAdd (slAt a100 (n26 * 6)) 5)) = (some c27)) ∧ 
 (isSl c27 ∧ (ifB (decide (x24 < (((slLen c27) : Nat) : Int))) (∀ R28 : List V → 
 M → Prop, ((∀ c29 : C, (∀ x30 : Int, (∀ m31 : M, ((∃ n32 : Nat, ((x2 = ((n32 : Nat) : Int)) ∧ 
 ((n32 < (slLen a100)) ∧ (isPt (slAt a100 (n32 * 6)) ∧ (∃ c33 : C, (((ldC m31 (ptAdd (slAt a100 (n32 * 6)) 5)) = (some c33)) ∧ 
 (∃ n34 : Nat, ((x24 = ((n34 : Nat) : Int)) ∧ ((n34 < (slLen c33)) ∧ (∃ c35 : C, 
 (((ldC m31 (slAt c33 (n34 * 1))) = (some c35)) ∧ (isSl c35 ∧ (ifB (decide (x30 < (((slLen c35) : Nat) : Int))) (∃ n36 : Nat, 
 ((x2 = ((n36 : Nat) : Int)) ∧ ((n36 < (slLen a100)) ∧ (isPt (slAt a100 (n36 * 6)) ∧ 
 (∃ c37 : C, (((ldC m31 (ptAdd (slAt a100 (n36 * 6)) 5)) = (some c37)) ∧ 
 (∃ n38 : Nat, ((x24 = ((n38 : Nat) : Int)) ∧ ((n38 < (slLen c37)) ∧ (∃ c39 : C, 
 (((ldC m31 (slAt c37 (n38 * 1))) = (some c39)) ∧ (∃ n40 : Nat, ((x30 = ((n40 : Nat) : Int)) ∧ 
 ((n40 < (slLen c39)) ∧ (∃ c41 : C, (((ldC m31 (slAt c39 (n40 * 1))) = (some c41)) ∧ 
 (Wc prog tbl 58 [(V.c c41)] m31 (fun v42 m43 => (∃ c44 : C, ((v42 = (V.c c44)) ∧ 
 (∀ m45 : M, ((m45 = (M.new m43 (AO.cells 1 [c44] false))) → (∃ c46 : C, (∃ m47 : M, 
 ((ApR prog 77 m45 c29 (C.sl m43.nxt 0 1 0 (some 1)) c46 m47) ∧ (fitsP .i64 (x30 + (1 : Int)) ∧ 
 (R28 [(V.c c46), (V.c (C.int .i64 (x30 + (1 : Int))))] m47))))))))))))))))))))))))))) (isPt (C.ptr (m3.nxt + 0) 0) ∧ 
 (∃ c48 : C, (((ldC m31 (C.ptr (m3.nxt + 0) 5)) = (some c48)) ∧ (∀ m49 : M, 
 ((m49 = (M.new m31 (AO.cells 1 [c29] false))) → (∃ c50 : C, (∃ m51 : M, ((ApR prog 74 m49 c48 (C.sl m31.nxt 0 1 0 (some 1)) c50 m51) ∧ 
 (isPt (C.ptr (m3.nxt + 0) 0) ∧ (∃ m52 : M, (((stC m51 (C.ptr (m3.nxt + 0) 5) 1 [c50]) = (some m52)) ∧ 
 (fitsP .i64 (x24 + (1 : Int)) ∧ (R23 [(V.c (C.int .i64 (x24 + (1 : Int))))] m52)))))))))))))))))))))))))) → 
 (R28 [(V.c c29), (V.c (C.int .i64 x30))] m31))))) → (R28 [(V.c C.sl0), 
 (V.c (C.int .i64 (0 : Int)))] m25))) (∃ x53 : Int, (∃ b54 : Bool, (∃ x55 : Int, 
 (∃ c56 : C, (∃ c57 : C, (∃ c58 : C, (((ldA m25 (C.ptr (m3.nxt + 0) 0) 6) = (some [(C.int .i64 x53), 
 (C.bool b54), (C.int .i64 x55), c56, c57, c58])) ∧ (∀ m59 : M, ((m59 = (M.new m25 (AO.cells 6 [(C.int .i64 x53), 
 (C.bool b54), (C.int .i64 x55), c56, c57, c58] false))) → (∃ c60 : C, 
 (∃ m61 : M, ((ApR prog 28 m59 c1 (C.sl m25.nxt 0 1 0 (some 1)) c60 m61) ∧ 
 (fitsP .i64 (x2 + (1 : Int)) ∧ (R0 [(V.c c60), (V.c (C.int .i64 (x2 + (1 : Int))))] m61)))))))))))))))))))))) → 
 (R23 [(V.c (C.int .i64 x24))] m25)))) → (R23 [(V.c (C.int .i64 (0 : Int)))] m22))))))))))))))))))))))))))))))))))))))))))))))))))))))))))) (Q (V.c c1) m3))) → 
 (R0 [(V.c c1), (V.c (C.int .i64 x2))] m3))))) → (R0 [(V.c C.sl0), (V.c (C.int .i64 (0 : Int)))] m)))) : Wc prog tbl 19 [(V.c a100)] m Q :=
 wc_eq (n := 1) rfl (by kernel_rfl) (by kernel_rfl) h
theorem w22 {a100 : Int} {a200 : Int} {a300 : Int} {m : M} {Q : V → M → Prop} (h :
 (ifB (decide (a200 ≤ a100)) (Q (V.c (C.bool (decide (a100 ≤ a300)))) m) (Q (V.c (C.bool false)) m))) : Wc prog tbl 22 [(V.c (C.int .i64 a100)), (V.c (C.int .i64 a200)), (V.c (C.int .i64 a300))] m Q :=
 wc_eq (n := 3) rfl (by kernel_rfl) (by kernel_rfl) h
theorem w40 {a100 : C} {m : M} {Q : V → M → Prop} (h :
 (∀ R0 : List V → M → Prop, ((∀ c1 : C, (∀ x2 : Int, (∀ m3 : M, ((isSl a100 ∧ (ifB (decide (x2 < (((slLen a100) : Nat) : Int))) (∃ n4 : Nat, 
 ((x2 = ((n4 : Nat) : Int)) ∧ ((n4 < (slLen a100)) ∧ (∃ x5 : Int, (∃ x6 : Int, (∃ x7 : Int, (∃ x8 : Int, 
 (∃ x9 : Int, (∃ x10 : Int, (((ldA m3 (slAt a100 (n4 * 6)) 6) = (some [(C.int .i64 x5), 
 (C.int .i64 x6), (C.int .i64 x7), (C.int .i64 x8), (C.int .i64 x9), 
 (C.int .i64 x10)])) ∧ (Wc prog tbl 26 [(V.agg 6 [(C.int .i64 x5), (C.int .i64 x6), 
 (C.int .i64 x7), (C.int .i64 x8), (C.int .i64 x9), (C.int .i64 x10)])] m3 (fun v11 m12 => 
 (∃ x13 : Int, (∃ x14 : Int, (∃ x15 : Int, (∃ x16 : Int, (∃ x17 : Int, (∃ x18 : Int, ((v11 = (V.agg 6 [(C.int .i64 x13), 
 (C.int .i64 x14), (C.int .i64 x15), (C.int .i64 x16), (C.int .i64 x17), 
 (C.int .i64 x18)])) ∧ (∀ m19 : M, ((m19 = (M.new m12 (AO.cells 6 [(C.int .i64 x13), 
 (C.int .i64 x14), (C.int .i64 x15), (C.int .i64 x16), (C.int .i64 x17), 
 (C.int .i64 x18)] false))) → (∃ c20 : C, (∃ m21 : M, ((ApR prog 67 m19 c1 (C.sl m12.nxt 0 1 0 (some 1)) c20 m21) ∧ 
 (fitsP .i64 (x2 + (1 : Int)) ∧ (R0 [(V.c c20), (V.c (C.int .i64 (x2 + (1 : Int))))] m21)))))))))))))))))))))))))) (Q (V.c c1) m3))) → 
 (R0 [(V.c c1), (V.c (C.int .i64 x2))] m3))))) → (R0 [(V.c C.sl0), (V.c (C.int .i64 (0 : Int)))] m)))) : Wc prog tbl 40 [(V.c a100)] m Q :=
 wc_eq (n := 1) rfl (by kernel_rfl) (by kernel_rfl) h
theorem w46 {a100 : Int} {a200 : Int} {m : M} {Q : V → M → Prop} (h :
 (∀ m0 : M, ((m0 = (M.new m (AO.cells 2 [(C.int .i64 (0 : Int)), (C.int .i64 (0 : Int))] false))) → 
 (∃ m1 : M, (((stC m0 (C.ptr m.nxt 0) 2 [(C.int .i64 a100), (C.int .i64 a200)]) = (some m1)) ∧ 
 (∃ x2 : Int, (∃ x3 : Int, (((ldA m1 (C.ptr m.nxt 0) 2) = (some [(C.int .i64 x2), (C.int .i64 x3)])) ∧ 
 (Q (V.agg 2 [(C.int .i64 x2), (C.int .i64 x3)]) m1))))))))) : Wc prog tbl 46 [(V.c (C.int .i64 a100)), (V.c (C.int .i64 a200))] m Q :=
 wc_eq (n := 2) rfl (by kernel_rfl) (by kernel_rfl) h
theorem w55 {a100 : Int} {m : M} {Q : V → M → Prop} (h :
 (Wc prog tbl 78 [(V.agg 2 [(C.int .i64 (0 : Int)), (C.int .i64 (120 : Int))]), (V.c (C.int .i64 a100))] m (fun v0 m1 => 
 (∃ b2 : Bool, ((v0 = (V.c (C.bool b2))) ∧ (Q (V.c (C.bool b2)) m1)))))) : Wc prog tbl 55 [(V.c (C.int .i64 a100))] m Q :=
 wc_eq (n := 1) rfl (by kernel_rfl) (by kernel_rfl) h
theorem w58 {a100 : C} {m : M} {Q : V → M → Prop} (h :
 (∀ m0 : M, ((m0 = (M.new m (AO.cells 0 [] false))) → (∃ c1 : C, (∃ m2 : M, ((ApR prog 73 m0 (C.sl m.nxt 0 0 0 (some 0)) a100 c1 m2) ∧ 
 (Q (V.c c1) m2))))))) : Wc prog tbl 58 [(V.c a100)] m Q :=
 wc_eq (n := 1) rfl (by kernel_rfl) (by kernel_rfl) h
theorem w61 {a100 : C} {m : M} {Q : V → M → Prop} (h :
 (Wc prog tbl 84 [(V.c a100), (V.c (C.fn (Fn.func 85) [] []))] m (fun v0 m1 => (∃ b2 : Bool, ((v0 = (V.c (C.bool b2))) ∧ 
 (ifB b2 (Wc prog tbl 87 [(V.c a100)] m1 (fun v3 m4 => (∃ c5 : C, ((v3 = (V.c c5)) ∧ (Wc prog tbl 86 [(V.c c5)] m4 (fun v6 m7 => 
 (∃ b8 : Bool, ((v6 = (V.c (C.bool b8))) ∧ (ifB b8 (optB (mapO vW [(V.c a100)]) False fun l9 => (Wc prog tbl 84 [(V.c a100), 
 (V.c (C.fn (Fn.func 88) l9 []))] m7 (fun v10 m11 => (∃ b12 : Bool, ((v10 = (V.c (C.bool b12))) ∧ 
 (Q (V.c (C.bool b12)) m11)))))) (Q (V.c (C.bool false)) m7)))))))))) (Q (V.c (C.bool false)) m1))))))) : Wc prog tbl 61 [(V.c a100)] m Q :=
 wc_eq (n := 1) rfl (by kernel_rfl) (by kernel_rfl) h
theorem w67 {a100 : C} {a101 : C} {a200 : Int} {a201 : Int} {a202 : Int} {a203 : Int} {a204 : Int} {a205 : Int} {m : M} {Q : V → M → Prop} (h :
 (∀ m0 : M, ((m0 = (M.new m (AO.cells 2 [a100, a101] false))) → (∀ m1 : M, ((m1 = (M.new m0 (AO.cells 6 [(C.int .i64 a200), 
 (C.int .i64 a201), (C.int .i64 a202), (C.int .i64 a203), (C.int .i64 a204), 
 (C.int .i64 a205)] false))) → (∀ m2 : M, ((m2 = (M.new m1 (AO.cells 2 [(C.int .i64 (0 : Int)), 
 (C.int .i64 (0 : Int))] false))) → (∀ m3 : M, ((m3 = (M.new m2 (AO.cells 1 [C.sl0] false))) → 
 (∃ x4 : Int, (∃ x5 : Int, (∃ x6 : Int, (∃ x7 : Int, (∃ x8 : Int, (∃ x9 : Int, (((ldA m3 (C.ptr m0.nxt 0) 6) = (some [(C.int .i64 x4), 
 (C.int .i64 x5), (C.int .i64 x6), (C.int .i64 x7), (C.int .i64 x8), 
 (C.int .i64 x9)])) ∧ (Wc prog tbl 69 [(V.agg 6 [(C.int .i64 x4), (C.int .i64 x5), 
 (C.int .i64 x6), (C.int .i64 x7), (C.int .i64 x8), (C.int .i64 x9)])] m3 (fun v10 m11 => 
 (∃ c12 : C, ((v10 = (V.c c12)) ∧ (rangeP prog tbl c12 m11 (fun l13 m14 R15 R16 => (∃ x17 : Int, 
 (∃ x18 : Int, ((l13 = [(V.agg 2 [(C.int .i64 x17), (C.int .i64 x18)])]) ∧ 
 (∀ m19 : M, ((m19 = (M.new m14 (AO.cells 2 [(C.int .i64 (0 : Int)), (C.int .i64 (0 : Int))] false))) → 
 (∃ m20 : M, (((stC m19 (C.ptr m14.nxt 0) 2 [(C.int .i64 x17), (C.int .i64 x18)]) = (some m20)) ∧ 
 (R15 m20 (fun m21 => (∃ c22 : C, (((ldC m21 (C.ptr m2.nxt 0)) = (some c22)) ∧ 
 (∃ c23 : C, (∃ c24 : C, (((ldA m21 (C.ptr m.nxt 0) 2) = (some [c23, 
 c24])) ∧ (∃ x25 : Int, (∃ x26 : Int, (∃ x27 : Int, (∃ x28 : Int, (∃ x29 : Int, 
 (∃ x30 : Int, (((ldA m21 (C.ptr m0.nxt 0) 6) = (some [(C.int .i64 x25), 
 (C.int .i64 x26), (C.int .i64 x27), (C.int .i64 x28), (C.int .i64 x29), 
 (C.int .i64 x30)])) ∧ (∃ x31 : Int, (∃ x32 : Int, (((ldA m21 (C.ptr m14.nxt 0) 2) = (some [(C.int .i64 x31), 
 (C.int .i64 x32)])) ∧ (Wc prog tbl 65 [(V.agg 2 [c23, c24]), (V.agg 6 [(C.int .i64 x25), 
 (C.int .i64 x26), (C.int .i64 x27), (C.int .i64 x28), (C.int .i64 x29), 
 (C.int .i64 x30)]), (V.agg 2 [(C.int .i64 x31), (C.int .i64 x32)])] m21 (fun v33 m34 => 
 (∃ x35 : Int, ((v33 = (V.c (C.int .i64 x35))) ∧ ((ifB (noFnC c22) ((ldC m34 (C.ptr m2.nxt 0)) = (some c22)) False) ∧ 
 (∀ m36 : M, ((m36 = (M.new m34 (AO.cells 1 [(C.int .i64 x35)] false))) → 
 ((ifB (noFnC c22) ((ldC m36 (C.ptr m2.nxt 0)) = (some c22)) False) ∧ 
 (∃ c37 : C, (∃ m38 : M, ((ApR prog 73 m36 c22 (C.sl m34.nxt 0 1 0 (some 1)) c37 m38) ∧ 
 (∃ m39 : M, (((stC m38 (C.ptr m2.nxt 0) 1 [c37]) = (some m39)) ∧ (R16 Ex.nrm m39))))))))))))))))))))))))))))))))))))))) (After.mk (fun m40 => 
 (∃ c41 : C, (((ldC m40 (C.ptr m2.nxt 0)) = (some c41)) ∧ (Wc prog tbl 91 [(V.c c41)] m40 (fun v42 m43 => 
 (∃ x44 : Int, ((v42 = (V.c (C.int .i64 x44))) ∧ (∃ c45 : C, (((ldC m43 (C.ptr m2.nxt 0)) = (some c45)) ∧ 
 ((ifB (noFnC c45) ((ldC m40 (C.ptr m2.nxt 0)) = (some c45)) False) ∧ 
 (Wc prog tbl 92 [(V.c c45)] m43 (fun v46 m47 => (∃ x48 : Int, ((v46 = (V.c (C.int .i64 x48))) ∧ 
 (∃ m49 : M, (((stC m47 (C.ptr m1.nxt 0) 2 [(C.int .i64 x44), (C.int .i64 x48)]) = (some m49)) ∧ 
 (∃ x50 : Int, (∃ x51 : Int, (((ldA m49 (C.ptr m1.nxt 0) 2) = (some [(C.int .i64 x50), 
 (C.int .i64 x51)])) ∧ (Q (V.agg 2 [(C.int .i64 x50), (C.int .i64 x51)]) m49)))))))))))))))))))) [] (fun m52 => 
 (∃ x53 : Int, (∃ x54 : Int, (((ldA m52 (C.ptr m1.nxt 0) 2) = (some [(C.int .i64 x53), 
 (C.int .i64 x54)])) ∧ (Q (V.agg 2 [(C.int .i64 x53), (C.int .i64 x54)]) m52))))))))))))))))))))))))))) : Wc prog tbl 67 [(V.agg 2 [a100, a101]), (V.agg 6 [(C.int .i64 a200), (C.int .i64 a201), (C.int .i64 a202), (C.int .i64 a203), (C.int .i64 a204), (C.int .i64 a205)])] m Q :=
 wc_eq (n := 2) rfl (by kernel_rfl) (by kernel_rfl) h
theorem w79 {a100 : C} {a200 : Int} {m : M} {Q : V → M → Prop} (h :
 (∀ m0 : M, ((m0 = (M.new m (AO.cells 6 [(C.int .i64 (0 : Int)), (C.bool false), (C.int .i64 (0 : Int)), 
 C.sl0, C.sl0, C.sl0] false))) → (Wc prog tbl 87 [(V.c a100)] m0 (fun v1 m2 => (∃ c3 : C, ((v1 = (V.c c3)) ∧ 
 (Wc prog tbl 98 [(V.c c3), (V.c (C.int .i64 a200))] m2 (fun v4 m5 => (∃ x6 : Int, ((v4 = (V.c (C.int .i64 x6))) ∧ 
 (∃ n7 : Nat, ((x6 = ((n7 : Nat) : Int)) ∧ ((n7 < (slLen a100)) ∧ (∃ x8 : Int, (∃ b9 : Bool, (∃ x10 : Int, 
 (∃ c11 : C, (∃ c12 : C, (∃ c13 : C, (((ldA m5 (slAt a100 (n7 * 6)) 6) = (some [(C.int .i64 x8), 
 (C.bool b9), (C.int .i64 x10), c11, c12, c13])) ∧ (∃ m14 : M, (((stC m5 (C.ptr m.nxt 0) 6 [(C.int .i64 x8), 
 (C.bool b9), (C.int .i64 x10), c11, c12, c13]) = (some m14)) ∧ (∃ x15 : Int, 
 (∃ b16 : Bool, (∃ x17 : Int, (∃ c18 : C, (∃ c19 : C, (∃ c20 : C, (((ldA m14 (C.ptr m.nxt 0) 6) = (some [(C.int .i64 x15), 
 (C.bool b16), (C.int .i64 x17), c18, c19, c20])) ∧ (Q (V.agg 6 [(C.int .i64 x15), 
 (C.bool b16), (C.int .i64 x17), c18, c19, c20]) m14))))))))))))))))))))))))))))))) : Wc prog tbl 79 [(V.c a100), (V.c (C.int .i64 a200))] m Q :=
 wc_eq (n := 2) rfl (by kernel_rfl) (by kernel_rfl) h
theorem w82 {a100 : C} {a200 : C} {m : M} {Q : V → M → Prop} (h :
 (Wc prog tbl 102 [(V.c a100), (V.c a200)] m (fun v0 m1 => (∃ x2 : Int, ((v0 = (V.c (C.int .i64 x2))) ∧ (Q (V.c (C.bool (decide ((0 : Int) ≤ x2)))) m1)))))) : Wc prog tbl 82 [(V.c a100), (V.c a200)] m Q :=
 wc_eq (n := 2) rfl (by kernel_rfl) (by kernel_rfl) h
theorem w85 {a100 : Int} {a101 : Bool} {a102 : Int} {a103 : C} {a104 : C} {a105 : C} {m : M} {Q : V → M → Prop} (h :
 (∀ m0 : M, ((m0 = (M.new m (AO.cells 6 [(C.int .i64 a100), (C.bool a101), (C.int .i64 a102), a103, 
 a104, a105] false))) → (isPt (C.ptr m.nxt 0) ∧ (∃ x1 : Int, (((ldC m0 (C.ptr m.nxt 0)) = (some (C.int .i64 x1))) ∧ 
 (Wc prog tbl 55 [(V.c (C.int .i64 x1))] m0 (fun v2 m3 => (∃ b4 : Bool, ((v2 = (V.c (C.bool b4))) ∧ 
 (ifB b4 (isPt (C.ptr m.nxt 0) ∧ (∃ x5 : Int, (((ldC m3 (C.ptr m.nxt 2)) = (some (C.int .i64 x5))) ∧ 
 (Wc prog tbl 105 [(V.c (C.int .i64 x5))] m3 (fun v6 m7 => (∃ b8 : Bool, ((v6 = (V.c (C.bool b8))) ∧ 
 (ifB b8 (isPt (C.ptr m.nxt 0) ∧ (∃ c9 : C, (((ldC m7 (C.ptr m.nxt 3)) = (some c9)) ∧ 
 (Wc prog tbl 86 [(V.c c9)] m7 (fun v10 m11 => (∃ b12 : Bool, ((v10 = (V.c (C.bool b12))) ∧ 
 (ifB b12 (isPt (C.ptr m.nxt 0) ∧ (∃ c13 : C, (((ldC m11 (C.ptr m.nxt 3)) = (some c13)) ∧ 
 (Wc prog tbl 106 [(V.c c13), (V.c (C.fn (Fn.func 55) [] []))] m11 (fun v14 m15 => 
 (∃ b16 : Bool, ((v14 = (V.c (C.bool b16))) ∧ (ifB b16 (isPt (C.ptr m.nxt 0) ∧ 
 (∃ c17 : C, (((ldC m15 (C.ptr m.nxt 4)) = (some c17)) ∧ (Wc prog tbl 86 [(V.c c17)] m15 (fun v18 m19 => 
 (∃ b20 : Bool, ((v18 = (V.c (C.bool b20))) ∧ (ifB b20 (isPt (C.ptr m.nxt 0) ∧ 
 (∃ c21 : C, (((ldC m19 (C.ptr m.nxt 4)) = (some c21)) ∧ (isPt (C.ptr m.nxt 0) ∧ 
 (∃ c22 : C, (((ldC m19 (C.ptr m.nxt 4)) = (some c22)) ∧ (isSl c22 ∧ 
 (fitsP .i64 ((((slLen c22) : Nat) : Int) - (1 : Int)) ∧ (∃ n23 : Nat, 
 ((((((slLen c22) : Nat) : Int) - (1 : Int)) = ((n23 : Nat) : Int)) ∧ ((n23 < (slLen c21)) ∧ 
 (∃ x24 : Int, (((ldC m19 (slAt c21 (n23 * 1))) = (some (C.int .i64 x24))) ∧ 
 (ifB (decide (x24 = (100 : Int))) (isPt (C.ptr m.nxt 0) ∧ (∃ c25 : C, (((ldC m19 (C.ptr m.nxt 5)) = (some c25)) ∧ 
 (isSl c25 ∧ (ifB (decide ((0 : Int) < (((slLen c25) : Nat) : Int))) (isPt (C.ptr m.nxt 0) ∧ 
 (∃ c26 : C, (((ldC m19 (C.ptr m.nxt 5)) = (some c26)) ∧ (∃ x27 : Int, 
 (∃ b28 : Bool, (∃ x29 : Int, (∃ c30 : C, (∃ c31 : C, (∃ c32 : C, (((ldA m19 (C.ptr m.nxt 0) 6) = (some [(C.int .i64 x27), 
 (C.bool b28), (C.int .i64 x29), c30, c31, c32])) ∧ (optB (mapO vW [(V.agg 6 [(C.int .i64 x27), 
 (C.bool b28), (C.int .i64 x29), c30, c31, c32])]) False fun l33 => (Wc prog tbl 107 [(V.c c26), 
 (V.c (C.fn (Fn.func 108) l33 []))] m19 (fun v34 m35 => (∃ b36 : Bool, ((v34 = (V.c (C.bool b36))) ∧ 
 (Q (V.c (C.bool b36)) m35)))))))))))))))) (Q (V.c (C.bool false)) m19)))))) (Q (V.c (C.bool false)) m19))))))))))))))) (Q (V.c (C.bool false)) m19))))))))) (Q (V.c (C.bool false)) m15))))))))) (Q (V.c (C.bool false)) m11))))))))) (Q (V.c (C.bool false)) m7))))))))) (Q (V.c (C.bool false)) m3)))))))))))) : Wc prog tbl 85 [(V.agg 6 [(C.int .i64 a100), (C.bool a101), (C.int .i64 a102), a103, a104, a105])] m Q :=
 wc_eq (n := 1) rfl (by kernel_rfl) (by kernel_rfl) h
theorem w88 {a100 : C} {a200 : Int} {a201 : Bool} {a202 : Int} {a203 : C} {a204 : C} {a205 : C} {m : M} {Q : V → M → Prop} (h :
 (∀ m0 : M, ((m0 = (M.new m (AO.cells 6 [(C.int .i64 a200), (C.bool a201), (C.int .i64 a202), a203, 
 a204, a205] false))) → (isPt (C.ptr m.nxt 0) ∧ (∃ c1 : C, (((ldC m0 (C.ptr m.nxt 5)) = (some c1)) ∧ 
 (isSl c1 ∧ (∃ n2 : Nat, (((0 : Int) = ((n2 : Nat) : Int)) ∧ ((n2 < (slLen a100)) ∧ (isPt (slAt a100 (n2 * 6)) ∧ 
 (∃ c3 : C, (((ldC m0 (ptAdd (slAt a100 (n2 * 6)) 5)) = (some c3)) ∧ (isSl c3 ∧ (Q (V.c (C.bool (decide ((((slLen c1) : Nat) : Int) = (((slLen c3) : Nat) : Int))))) m0))))))))))))))) : Wc prog tbl 88 [(V.c a100), (V.agg 6 [(C.int .i64 a200), (C.bool a201), (C.int .i64 a202), a203, a204, a205])] m Q :=
 wc_eq (n := 2) rfl (by kernel_rfl) (by kernel_rfl) h
theorem w91 {a100 : C} {m : M} {Q : V → M → Prop} (h :
 (isSl a100 ∧ (ifB (decide ((((slLen a100) : Nat) : Int) = (0 : Int))) (Q (V.c (C.int .i64 (0 : Int))) m) (∃ n0 : Nat, 
 (((0 : Int) = ((n0 : Nat) : Int)) ∧ ((n0 < (slLen a100)) ∧ (∃ x1 : Int, (((ldC m (slAt a100 (n0 * 1))) = (some (C.int .i64 x1))) ∧ 
 (isSl a100 ∧ (∀ R2 : List V → M → Prop, ((∀ x3 : Int, (∀ x4 : Int, (∀ m5 : M, ((ifB (decide (x4 < (((slLen a100) : Nat) : Int))) (∃ n6 : Nat, 
 ((x4 = ((n6 : Nat) : Int)) ∧ ((n6 < (slLen a100)) ∧ (∃ x7 : Int, (((ldC m5 (slAt a100 (n6 * 1))) = (some (C.int .i64 x7))) ∧ 
 (ifB (decide (x7 < x3)) (fitsP .i64 (x4 + (1 : Int)) ∧ (R2 [(V.c (C.int .i64 x7)), 
 (V.c (C.int .i64 (x4 + (1 : Int))))] m5)) (fitsP .i64 (x4 + (1 : Int)) ∧ 
 (R2 [(V.c (C.int .i64 x3)), (V.c (C.int .i64 (x4 + (1 : Int))))] m5)))))))) (Q (V.c (C.int .i64 x3)) m5)) → 
 (R2 [(V.c (C.int .i64 x3)), (V.c (C.int .i64 x4))] m5))))) → (R2 [(V.c (C.int .i64 x1)), 
 (V.c (C.int .i64 (0 : Int)))] m)))))))))))) : Wc prog tbl 91 [(V.c a100)] m Q :=
 wc_eq (n := 1) rfl (by kernel_rfl) (by kernel_rfl) h
theorem w100 {a100 : Int} {a101 : Bool} {a102 : Int} {a103 : C} {a104 : C} {a105 : C} {m : M} {Q : V → M → Prop} (h :
 (∀ m0 : M, ((m0 = (M.new m (AO.cells 6 [(C.int .i64 a100), (C.bool a101), (C.int .i64 a102), a103, 
 a104, a105] false))) → (∀ m1 : M, ((m1 = (M.new m0 (AO.cells 1 [C.nilFn] false))) → (isPt (C.ptr m.nxt 0) ∧ 
 (∃ b2 : Bool, (((ldC m1 (C.ptr m.nxt 1)) = (some (C.bool b2))) ∧ (ifB b2 (∃ m3 : M, (((stC m1 (C.ptr m0.nxt 0) 1 [(C.fn (Fn.func 117) [] [])]) = (some m3)) ∧ 
 (∃ c4 : C, (((ldA m3 (C.ptr m0.nxt 0) 1) = (some [c4])) ∧ (Q (V.agg 1 [c4]) m3))))) (∃ m5 : M, 
 (((stC m1 (C.ptr m0.nxt 0) 1 [(C.fn (Fn.func 118) [] [])]) = (some m5)) ∧ (∃ c6 : C, (((ldA m5 (C.ptr m0.nxt 0) 1) = (some [c6])) ∧ 
 (Q (V.agg 1 [c6]) m5)))))))))))))) : Wc prog tbl 100 [(V.agg 6 [(C.int .i64 a100), (C.bool a101), (C.int .i64 a102), a103, a104, a105])] m Q :=
 wc_eq (n := 1) rfl (by kernel_rfl) (by kernel_rfl) h
theorem w103 {a100 : C} {a200 : C} {m : M} {Q : V → M → Prop} (h :
 (Wc prog tbl 119 [(V.c a100), (V.c a200)] m (fun v0 m1 => (∃ x2 : Int, ((v0 = (V.c (C.int .i64 x2))) ∧ (Q (V.c (C.bool (decide ((0 : Int) ≤ x2)))) m1)))))) : Wc prog tbl 103 [(V.c a100), (V.c a200)] m Q :=
 wc_eq (n := 2) rfl (by kernel_rfl) (by kernel_rfl) h
theorem w106 {a100 : C} {a200 : C} {m : M} {Q : V → M → Prop} (h :
 (∀ m0 : M, ((m0 = (M.new m (AO.cells 1 [a200] false))) → (Wc prog tbl 120 [(V.c a100), (V.c (C.fn (Fn.func 121) [] [(W.c (C0.ptr m.nxt 0))]))] m0 (fun v1 m2 => 
 (∃ b3 : Bool, ((v1 = (V.c (C.bool b3))) ∧ (Q (V.c (C.bool (!b3))) m2)))))))) : Wc prog tbl 106 [(V.c a100), (V.c a200)] m Q :=
 wc_eq (n := 2) rfl (by kernel_rfl) (by kernel_rfl) h
theorem w109 {a100 : C} {a200 : C} {m : M} {Q : V → M → Prop} (h :
 (Wc prog tbl 126 [(V.c a100), (V.c a200)] m (fun v0 m1 => (∃ x2 : Int, ((v0 = (V.c (C.int .i64 x2))) ∧ (Q (V.c (C.bool (decide ((0 : Int) ≤ x2)))) m1)))))) : Wc prog tbl 109 [(V.c a100), (V.c a200)] m Q :=
 wc_eq (n := 2) rfl (by kernel_rfl) (by kernel_rfl) h
theorem w118 {a100 : Int} {a101 : Bool} {a102 : Int} {a103 : C} {a104 : C} {a105 : C} {a200 : Int} {m : M} {Q : V → M → Prop} (h :
 (∀ m0 : M, ((m0 = (M.new m (AO.cells 6 [(C.int .i64 a100), (C.bool a101), (C.int .i64 a102), a103, 
 a104, a105] false))) → (isPt (C.ptr m.nxt 0) ∧ (∃ x1 : Int, (((ldC m0 (C.ptr m.nxt 2)) = (some (C.int .i64 x1))) ∧ 
 (fitsP .i64 (a200 - x1) ∧ (Q (V.c (C.int .i64 (a200 - x1))) m0)))))))) : Wc prog tbl 118 [(V.agg 6 [(C.int .i64 a100), (C.bool a101), (C.int .i64 a102), a103, a104, a105]), (V.c (C.int .i64 a200))] m Q :=
 wc_eq (n := 2) rfl (by kernel_rfl) (by kernel_rfl) h
theorem w124 {a100 : C} {a200 : C} {m : M} {Q : V → M → Prop} (h :
 (∀ m0 : M, ((m0 = (M.new m (AO.cells 1 [a200] false))) → (Wc prog tbl 133 [(V.c a100), (V.c (C.fn (Fn.func 134) [] [(W.c (C0.ptr m.nxt 0))]))] m0 (fun v1 m2 => 
 (∃ b3 : Bool, ((v1 = (V.c (C.bool b3))) ∧ (Q (V.c (C.bool (!b3))) m2)))))))) : Wc prog tbl 124 [(V.c a100), (V.c a200)] m Q :=
 wc_eq (n := 2) rfl (by kernel_rfl) (by kernel_rfl) h
theorem w130 {a100 : Int} {m : M} {Q : V → M → Prop} (h :
 (Q (V.c (C.bool (!decide (a100 = a100)))) m)) : Wc prog tbl 130 [(V.c (C.int .i64 a100))] m Q :=
 wc_eq (n := 1) rfl (by kernel_rfl) (by kernel_rfl) h
theorem w133 {a100 : C} {a200 : C} {m : M} {Q : V → M → Prop} (h :
 (Wc prog tbl 135 [(V.c a100), (V.c a200)] m (fun v0 m1 => (∃ x2 : Int, ((v0 = (V.c (C.int .i64 x2))) ∧ (Q (V.c (C.bool (decide ((0 : Int) ≤ x2)))) m1)))))) : Wc prog tbl 133 [(V.c a100), (V.c a200)] m Q :=
 wc_eq (n := 2) rfl (by kernel_rfl) (by kernel_rfl) h
end
end Go.Proofs.Ytbhdgedghfibcaa

