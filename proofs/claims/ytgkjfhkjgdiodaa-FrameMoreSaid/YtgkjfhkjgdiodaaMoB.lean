/- What functions of the program ask and do. Condition: none; a lemma text of this claim. -/
import Derived.Test.YtgkjfhkjgdiodaaMoA

namespace Go.Proofs.Ytgkjfhkjgdiodaa
open _root_.Go.Proofs.Try
open Go.Abs
set_option maxRecDepth 100000
noncomputable section
theorem w37 {a100 : Int} {a101 : Int} {a102 : C} {a103 : Int} {a104 : C} {m : M} {Q : V → M → Prop} (h :
 (∀ m0 : M, ((m0 = (M.new m (AO.cells 5 [(C.int .i64 a100), (C.int .i64 a101), a102, (C.int .i64 a103), 
 a104] false))) → (isPt (C.ptr m.nxt 0) ∧ (∃ c1 : C, (((ldC m0 (C.ptr m.nxt 4)) = (some c1)) ∧ 
 (isSl c1 ∧ (ifB (decide ((6 : Int) < (((slLen c1) : Nat) : Int))) (Q (V.c (C.int .i64 (3 : Int))) m0) (∃ x2 : Int, 
 (∃ x3 : Int, (∃ c4 : C, (∃ x5 : Int, (∃ c6 : C, (((ldA m0 (C.ptr m.nxt 0) 5) = (some [(C.int .i64 x2), 
 (C.int .i64 x3), c4, (C.int .i64 x5), c6])) ∧ (Wc prog tbl 79 [(V.agg 5 [(C.int .i64 x2), 
 (C.int .i64 x3), c4, (C.int .i64 x5), c6])] m0 (fun v7 m8 => (∃ b9 : Bool, ((v7 = (V.c (C.bool b9))) ∧ 
 (ifB (!b9) (Q (V.c (C.int .i64 (1 : Int))) m8) (isPt (C.ptr m.nxt 0) ∧ (∃ x10 : Int, 
 (∃ x11 : Int, (∃ c12 : C, (((ldA m8 (C.ptr m.nxt 0) 3) = (some [(C.int .i64 x10), 
 (C.int .i64 x11), c12])) ∧ (Wc prog tbl 80 [(V.agg 3 [(C.int .i64 x10), 
 (C.int .i64 x11), c12])] m8 (fun v13 m14 => (∃ x15 : Int, ((v13 = (V.c (C.int .i64 x15))) ∧ 
 (ifB (decide ((2000 : Int) < x15)) (Q (V.c (C.int .i64 (3 : Int))) m14) (Q (V.c (C.int .i64 (0 : Int))) m14)))))))))))))))))))))))))))))) : Wc prog tbl 37 [(V.agg 5 [(C.int .i64 a100), (C.int .i64 a101), a102, (C.int .i64 a103), a104])] m Q :=
 wc_eq (n := 1) rfl (by kernel_rfl) (by kernel_rfl) h
theorem w39 {a100 : Int} {a101 : Int} {a102 : C} {a200 : C} {m : M} {Q : V → M → Prop} (h :
 (∀ m0 : M, ((m0 = (M.new m (AO.cells 3 [(C.int .i64 a100), (C.int .i64 a101), a102] false))) → (isSl a200 ∧ 
 (isPt (C.ptr m.nxt 0) ∧ (∃ c1 : C, (((ldC m0 (C.ptr m.nxt 2)) = (some c1)) ∧ (isSl c1 ∧ (ifB (!decide ((((slLen a200) : Nat) : Int) = (((slLen c1) : Nat) : Int))) (Q (V.c (C.bool false)) m0) (∀ R2 : List V → 
 M → Prop, ((∀ b3 : Bool, (∀ x4 : Int, (∀ m5 : M, ((isSl a200 ∧ (ifB (decide (x4 < (((slLen a200) : Nat) : Int))) (∃ n6 : Nat, 
 ((x4 = ((n6 : Nat) : Int)) ∧ ((n6 < (slLen a200)) ∧ (∃ x7 : Int, (((ldC m5 (slAt a200 (n6 * 1))) = (some (C.int .i64 x7))) ∧ 
 (isPt (C.ptr m.nxt 0) ∧ (∃ c8 : C, (((ldC m5 (C.ptr m.nxt 2)) = (some c8)) ∧ 
 (∃ n9 : Nat, ((x4 = ((n9 : Nat) : Int)) ∧ ((n9 < (slLen c8)) ∧ (∃ x10 : Int, (((ldC m5 (slAt c8 (n9 * 1))) = (some (C.int .i64 x10))) ∧ 
 (Wc prog tbl 44 [(V.c (C.int .i64 x7)), (V.c (C.int .i64 (0 : Int))), 
 (V.c (C.int .i64 x10))] m5 (fun v11 m12 => (∃ b13 : Bool, ((v11 = (V.c (C.bool b13))) ∧ 
 (ifB (!b13) (Q (V.c (C.bool false)) m12) (fitsP .i64 (x4 + (1 : Int)) ∧ 
 (R2 [(V.c (C.bool b3)), (V.c (C.int .i64 (x4 + (1 : Int))))] m12)))))))))))))))))))) (Q (V.c (C.bool true)) m5))) → 
 (R2 [(V.c (C.bool b3)), (V.c (C.int .i64 x4))] m5))))) → (R2 [(V.c (C.bool false)), (V.c (C.int .i64 (0 : Int)))] m0)))))))))))) : Wc prog tbl 39 [(V.agg 3 [(C.int .i64 a100), (C.int .i64 a101), a102]), (V.c a200)] m Q :=
 wc_eq (n := 2) rfl (by kernel_rfl) (by kernel_rfl) h
theorem w60 {a100 : Int} {a101 : Int} {a102 : C} {m : M} {Q : V → M → Prop} (h :
 (∀ m0 : M, ((m0 = (M.new m (AO.cells 3 [(C.int .i64 a100), (C.int .i64 a101), a102] false))) → (∀ R1 : List V → 
 M → Prop, ((∀ x2 : Int, (∀ x3 : Int, (∀ m4 : M, ((isPt (C.ptr m.nxt 0) ∧ (∃ c5 : C, (((ldC m4 (C.ptr m.nxt 2)) = (some c5)) ∧ 
 (isSl c5 ∧ (ifB (decide (x3 < (((slLen c5) : Nat) : Int))) (isPt (C.ptr m.nxt 0) ∧ (∃ c6 : C, 
 (((ldC m4 (C.ptr m.nxt 2)) = (some c6)) ∧ (∃ n7 : Nat, ((x3 = ((n7 : Nat) : Int)) ∧ 
 ((n7 < (slLen c6)) ∧ (∃ x8 : Int, (((ldC m4 (slAt c6 (n7 * 1))) = (some (C.int .i64 x8))) ∧ 
 (fitsP .i64 (x8 + (1 : Int)) ∧ (((0 : Int) ≤ x2) ∧ (((0 : Int) ≤ (x8 + (1 : Int))) ∧ 
 (fitsP .i64 (x2 * (x8 + (1 : Int))) ∧ (fitsP .i64 (x3 + (1 : Int)) ∧ 
 (R1 [(V.c (C.int .i64 (Min.min (4000 : Int) (x2 * (x8 + (1 : Int)))))), (V.c (C.int .i64 (x3 + (1 : Int))))] m4)))))))))))))) (Q (V.c (C.int .i64 x2)) m4)))))) → 
 (R1 [(V.c (C.int .i64 x2)), (V.c (C.int .i64 x3))] m4))))) → (R1 [(V.c (C.int .i64 (1 : Int))), 
 (V.c (C.int .i64 (0 : Int)))] m0)))))) : Wc prog tbl 60 [(V.agg 3 [(C.int .i64 a100), (C.int .i64 a101), a102])] m Q :=
 wc_eq (n := 1) rfl (by kernel_rfl) (by kernel_rfl) h
theorem w75 {a100 : Int} {a101 : Int} {a102 : C} {a103 : Int} {a104 : C} {a200 : Int} {a201 : Int} {a202 : Int} {a203 : Int} {a204 : Int} {a205 : Int} {a206 : Int} {a207 : Int} {a208 : Int} {m : M} {Q : V → M → Prop} (h :
 (∀ m0 : M, ((m0 = (M.new m (AO.cells 5 [(C.int .i64 a100), (C.int .i64 a101), a102, (C.int .i64 a103), 
 a104] false))) → (∀ m1 : M, ((m1 = (M.new m0 (AO.cells 9 [(C.int .i64 a200), (C.int .i64 a201), 
 (C.int .i64 a202), (C.int .i64 a203), (C.int .i64 a204), (C.int .i64 a205), 
 (C.int .i64 a206), (C.int .i64 a207), (C.int .i64 a208)] false))) → (isPt (C.ptr m.nxt 0) ∧ 
 (isPt (C.ptr m.nxt 0) ∧ (∃ c2 : C, (((ldC m1 (C.ptr m.nxt 2)) = (some c2)) ∧ (Wc prog tbl 96 [(V.c c2)] m1 (fun v3 m4 => 
 (∃ x5 : Int, ((v3 = (V.c (C.int .i64 x5))) ∧ (ifB (decide (x5 = (0 : Int))) (Q (V.c (C.int .i64 (0 : Int))) m4) (∃ n6 : Nat, 
 (∃ n7 : Nat, ((n6 = 0) ∧ ((n7 = 9) ∧ (∃ c8 : C, (((arC 1 9 (C.ptr m0.nxt 0) n6 n7) = (some c8)) ∧ 
 (Wc prog tbl 96 [(V.c c8)] m4 (fun v9 m10 => (∃ x11 : Int, ((v9 = (V.c (C.int .i64 x11))) ∧ 
 (((0 : Int) ≤ x11) ∧ (((0 : Int) ≤ (100 : Int)) ∧ (fitsP .i64 (x11 * (100 : Int)) ∧ 
 (((0 : Int) ≤ (x11 * (100 : Int))) ∧ (((0 : Int) < x5) ∧ (fitsP .i64 ((x11 * (100 : Int)) / x5) ∧ 
 (Q (V.c (C.int .i64 ((x11 * (100 : Int)) / x5))) m10))))))))))))))))))))))))))))))) : Wc prog tbl 75 [(V.agg 5 [(C.int .i64 a100), (C.int .i64 a101), a102, (C.int .i64 a103), a104]), (V.agg 9 [(C.int .i64 a200), (C.int .i64 a201), (C.int .i64 a202), (C.int .i64 a203), (C.int .i64 a204), (C.int .i64 a205), (C.int .i64 a206), (C.int .i64 a207), (C.int .i64 a208)])] m Q :=
 wc_eq (n := 2) rfl (by kernel_rfl) (by kernel_rfl) h
theorem w79 {a100 : Int} {a101 : Int} {a102 : C} {a103 : Int} {a104 : C} {m : M} {Q : V → M → Prop} (h :
 (∀ m0 : M, ((m0 = (M.new m (AO.cells 5 [(C.int .i64 a100), (C.int .i64 a101), a102, (C.int .i64 a103), 
 a104] false))) → (isPt (C.ptr m.nxt 0) ∧ (∃ x1 : Int, (∃ x2 : Int, (∃ c3 : C, (((ldA m0 (C.ptr m.nxt 0) 3) = (some [(C.int .i64 x1), 
 (C.int .i64 x2), c3])) ∧ (Wc prog tbl 72 [(V.agg 3 [(C.int .i64 x1), (C.int .i64 x2), 
 c3])] m0 (fun v4 m5 => (∃ b6 : Bool, ((v4 = (V.c (C.bool b6))) ∧ (ifB b6 (isPt (C.ptr m.nxt 0) ∧ 
 (∃ x7 : Int, (((ldC m5 (C.ptr m.nxt 3)) = (some (C.int .i64 x7))) ∧ (Wc prog tbl 95 [(V.c (C.int .i64 x7))] m5 (fun v8 m9 => 
 (∃ b10 : Bool, ((v8 = (V.c (C.bool b10))) ∧ (ifB b10 (isPt (C.ptr m.nxt 0) ∧ (∃ c11 : C, 
 (((ldC m9 (C.ptr m.nxt 4)) = (some c11)) ∧ (∃ x12 : Int, (∃ x13 : Int, (∃ c14 : C, 
 (∃ x15 : Int, (∃ c16 : C, (((ldA m9 (C.ptr m.nxt 0) 5) = (some [(C.int .i64 x12), 
 (C.int .i64 x13), c14, (C.int .i64 x15), c16])) ∧ (optB (mapO vW [(V.agg 5 [(C.int .i64 x12), 
 (C.int .i64 x13), c14, (C.int .i64 x15), c16])]) False fun l17 => 
 (Wc prog tbl 98 [(V.c c11), (V.c (C.fn (Fn.func 99) l17 []))] m9 (fun v18 m19 => 
 (∃ b20 : Bool, ((v18 = (V.c (C.bool b20))) ∧ (Q (V.c (C.bool b20)) m19))))))))))))))) (Q (V.c (C.bool false)) m9))))))))) (Q (V.c (C.bool false)) m5)))))))))))))) : Wc prog tbl 79 [(V.agg 5 [(C.int .i64 a100), (C.int .i64 a101), a102, (C.int .i64 a103), a104])] m Q :=
 wc_eq (n := 1) rfl (by kernel_rfl) (by kernel_rfl) h
theorem w84 {a100 : Int} {a101 : Int} {a102 : C} {a200 : Int} {m : M} {Q : V → M → Prop} (h :
 (∀ m0 : M, ((m0 = (M.new m (AO.cells 3 [(C.int .i64 a100), (C.int .i64 a101), a102] false))) → (∃ x1 : Int, 
 (∃ x2 : Int, (∃ c3 : C, (((ldA m0 (C.ptr m.nxt 0) 3) = (some [(C.int .i64 x1), (C.int .i64 x2), 
 c3])) ∧ (Wc prog tbl 88 [(V.agg 3 [(C.int .i64 x1), (C.int .i64 x2), c3])] m0 (fun v4 m5 => 
 (∃ x6 : Int, ((v4 = (V.c (C.int .i64 x6))) ∧ (fitsP .i64 (x6 - (1 : Int)) ∧ (Wc prog tbl 92 [(V.agg 2 [(C.int .i64 (0 : Int)), 
 (C.int .i64 (x6 - (1 : Int)))]), (V.c (C.int .i64 a200))] m5 (fun v7 m8 => (∃ b9 : Bool, 
 ((v7 = (V.c (C.bool b9))) ∧ (Q (V.c (C.bool b9)) m8))))))))))))))))) : Wc prog tbl 84 [(V.agg 3 [(C.int .i64 a100), (C.int .i64 a101), a102]), (V.c (C.int .i64 a200))] m Q :=
 wc_eq (n := 2) rfl (by kernel_rfl) (by kernel_rfl) h
theorem w97 {a100 : Int} {a101 : Int} {a102 : C} {a103 : Int} {a104 : C} {a105 : C} {a200 : Int} {a201 : Int} {a202 : Int} {a203 : Int} {a204 : Int} {a205 : Int} {a206 : Int} {a207 : Int} {a208 : Int} {a300 : Int} {a400 : Bool} {a401 : Bool} {a402 : Bool} {a403 : Bool} {a404 : Bool} {a405 : Bool} {m : M} {Q : V → M → Prop} (h :
 (∀ m0 : M, ((m0 = (M.new m (AO.cells 6 [(C.int .i64 a100), (C.int .i64 a101), a102, (C.int .i64 a103), 
 a104, a105] false))) → (∀ m1 : M, ((m1 = (M.new m0 (AO.cells 9 [(C.int .i64 a200), (C.int .i64 a201), 
 (C.int .i64 a202), (C.int .i64 a203), (C.int .i64 a204), (C.int .i64 a205), 
 (C.int .i64 a206), (C.int .i64 a207), (C.int .i64 a208)] false))) → (∀ m2 : M, 
 ((m2 = (M.new m1 (AO.cells 6 [(C.bool a400), (C.bool a401), (C.bool a402), (C.bool a403), (C.bool a404), 
 (C.bool a405)] false))) → (isPt (C.ptr m.nxt 0) ∧ (∃ x3 : Int, (∃ x4 : Int, (∃ c5 : C, (∃ x6 : Int, 
 (∃ c7 : C, (((ldA m2 (C.ptr m.nxt 0) 5) = (some [(C.int .i64 x3), (C.int .i64 x4), 
 c5, (C.int .i64 x6), c7])) ∧ (∃ x8 : Int, (∃ x9 : Int, (∃ x10 : Int, (∃ x11 : Int, (∃ x12 : Int, 
 (∃ x13 : Int, (∃ x14 : Int, (∃ x15 : Int, (∃ x16 : Int, (((ldA m2 (C.ptr m0.nxt 0) 9) = (some [(C.int .i64 x8), 
 (C.int .i64 x9), (C.int .i64 x10), (C.int .i64 x11), (C.int .i64 x12), 
 (C.int .i64 x13), (C.int .i64 x14), (C.int .i64 x15), (C.int .i64 x16)])) ∧ 
 (Wc prog tbl 112 [(V.agg 5 [(C.int .i64 x3), (C.int .i64 x4), c5, (C.int .i64 x6), 
 c7]), (V.agg 9 [(C.int .i64 x8), (C.int .i64 x9), (C.int .i64 x10), 
 (C.int .i64 x11), (C.int .i64 x12), (C.int .i64 x13), (C.int .i64 x14), 
 (C.int .i64 x15), (C.int .i64 x16)]), (V.c (C.int .i64 a300))] m2 (fun v17 m18 => 
 (∃ b19 : Bool, ((v17 = (V.c (C.bool b19))) ∧ (ifB (!b19) (isPt (C.ptr m.nxt 0) ∧ 
 (∃ c20 : C, (((ldC m18 (C.ptr m.nxt 5)) = (some c20)) ∧ (isPt (C.ptr m0.nxt 0) ∧ 
 (∃ n21 : Nat, ((a300 = ((n21 : Nat) : Int)) ∧ ((n21 < 9) ∧ (∃ x22 : Int, (((ldC m18 (C.ptr m0.nxt (0 + (n21 * 1)))) = (some (C.int .i64 x22))) ∧ 
 (∃ y23 : Option U, (((lkM prog 138 m18 c20 (V.agg 2 [(C.int .i64 a300), 
 (C.int .i64 x22)])) = (some y23)) ∧ (((y23 = Option.none) → (∃ b24 : Bool, 
 (∃ b25 : Bool, (∃ b26 : Bool, (∃ b27 : Bool, (∃ b28 : Bool, (∃ b29 : Bool, (((ldA m18 (C.ptr m1.nxt 0) 6) = (some [(C.bool b24), 
 (C.bool b25), (C.bool b26), (C.bool b27), (C.bool b28), (C.bool b29)])) ∧ (Wc prog tbl 113 [(V.agg 6 [(C.bool false), 
 (C.bool false), (C.bool false), (C.bool false), (C.bool false), (C.bool false)]), 
 (V.agg 6 [(C.bool b24), (C.bool b25), (C.bool b26), (C.bool b27), (C.bool b28), 
 (C.bool b29)])] m18 (fun v30 m31 => (∃ b32 : Bool, ((v30 = (V.c (C.bool b32))) ∧ 
 (Q (V.c (C.bool b32)) m31))))))))))))) ∧ (∀ u33 : U, ((y23 = (some u33)) → 
 (∃ b34 : Bool, (∃ b35 : Bool, (∃ b36 : Bool, (∃ b37 : Bool, (∃ b38 : Bool, (∃ b39 : Bool, 
 ((u33 = (U.agg 6 [(C.bool b34), (C.bool b35), (C.bool b36), (C.bool b37), (C.bool b38), 
 (C.bool b39)])) ∧ (∃ b40 : Bool, (∃ b41 : Bool, (∃ b42 : Bool, (∃ b43 : Bool, 
 (∃ b44 : Bool, (∃ b45 : Bool, (((ldA m18 (C.ptr m1.nxt 0) 6) = (some [(C.bool b40), 
 (C.bool b41), (C.bool b42), (C.bool b43), (C.bool b44), (C.bool b45)])) ∧ (Wc prog tbl 113 [(V.agg 6 [(C.bool b34), 
 (C.bool b35), (C.bool b36), (C.bool b37), (C.bool b38), (C.bool b39)]), (V.agg 6 [(C.bool b40), 
 (C.bool b41), (C.bool b42), (C.bool b43), (C.bool b44), (C.bool b45)])] m18 (fun v46 m47 => 
 (∃ b48 : Bool, ((v46 = (V.c (C.bool b48))) ∧ (Q (V.c (C.bool b48)) m47))))))))))))))))))))))))))))))))) (Q (V.c (C.bool false)) m18)))))))))))))))))))))))))))))) : Wc prog tbl 97 [(V.agg 6 [(C.int .i64 a100), (C.int .i64 a101), a102, (C.int .i64 a103), a104, a105]), (V.agg 9 [(C.int .i64 a200), (C.int .i64 a201), (C.int .i64 a202), (C.int .i64 a203), (C.int .i64 a204), (C.int .i64 a205), (C.int .i64 a206), (C.int .i64 a207), (C.int .i64 a208)]), (V.c (C.int .i64 a300)), (V.agg 6 [(C.bool a400), (C.bool a401), (C.bool a402), (C.bool a403), (C.bool a404), (C.bool a405)])] m Q :=
 wc_eq (n := 4) rfl (by kernel_rfl) (by kernel_rfl) h
theorem w99 {a100 : Int} {a101 : Int} {a102 : C} {a103 : Int} {a104 : C} {a200 : Int} {a201 : Int} {a202 : Int} {a203 : Bool} {m : M} {Q : V → M → Prop} (h :
 (∀ m0 : M, ((m0 = (M.new m (AO.cells 5 [(C.int .i64 a100), (C.int .i64 a101), a102, (C.int .i64 a103), 
 a104] false))) → (∀ m1 : M, ((m1 = (M.new m0 (AO.cells 4 [(C.int .i64 a200), (C.int .i64 a201), 
 (C.int .i64 a202), (C.bool a203)] false))) → (isPt (C.ptr m.nxt 0) ∧ (∃ x2 : Int, (∃ x3 : Int, 
 (∃ c4 : C, (((ldA m1 (C.ptr m.nxt 0) 3) = (some [(C.int .i64 x2), (C.int .i64 x3), 
 c4])) ∧ (isPt (C.ptr m0.nxt 0) ∧ (∃ x5 : Int, (((ldC m1 (C.ptr m0.nxt 0)) = (some (C.int .i64 x5))) ∧ 
 (Wc prog tbl 84 [(V.agg 3 [(C.int .i64 x2), (C.int .i64 x3), c4]), (V.c (C.int .i64 x5))] m1 (fun v6 m7 => 
 (∃ b8 : Bool, ((v6 = (V.c (C.bool b8))) ∧ (ifB b8 (isPt (C.ptr m0.nxt 0) ∧ (isPt (C.ptr m0.nxt 1) ∧ 
 (∃ x9 : Int, (((ldC m7 (C.ptr m0.nxt 1)) = (some (C.int .i64 x9))) ∧ (isPt (C.ptr m0.nxt 0) ∧ 
 (isPt (C.ptr m0.nxt 1) ∧ (∃ x10 : Int, (((ldC m7 (C.ptr m0.nxt 2)) = (some (C.int .i64 x10))) ∧ 
 (ifB (decide (x9 ≤ x10)) (isPt (C.ptr m0.nxt 0) ∧ (isPt (C.ptr m0.nxt 1) ∧ (∃ x11 : Int, 
 (((ldC m7 (C.ptr m0.nxt 1)) = (some (C.int .i64 x11))) ∧ (Wc prog tbl 95 [(V.c (C.int .i64 x11))] m7 (fun v12 m13 => 
 (∃ b14 : Bool, ((v12 = (V.c (C.bool b14))) ∧ (ifB b14 (isPt (C.ptr m0.nxt 0) ∧ 
 (isPt (C.ptr m0.nxt 1) ∧ (∃ x15 : Int, (((ldC m13 (C.ptr m0.nxt 2)) = (some (C.int .i64 x15))) ∧ 
 (Wc prog tbl 95 [(V.c (C.int .i64 x15))] m13 (fun v16 m17 => (∃ b18 : Bool, 
 ((v16 = (V.c (C.bool b18))) ∧ (Q (V.c (C.bool b18)) m17))))))))) (Q (V.c (C.bool false)) m13)))))))))) (Q (V.c (C.bool false)) m7)))))))))) (Q (V.c (C.bool false)) m7))))))))))))))))))) : Wc prog tbl 99 [(V.agg 5 [(C.int .i64 a100), (C.int .i64 a101), a102, (C.int .i64 a103), a104]), (V.agg 4 [(C.int .i64 a200), (C.int .i64 a201), (C.int .i64 a202), (C.bool a203)])] m Q :=
 wc_eq (n := 2) rfl (by kernel_rfl) (by kernel_rfl) h
theorem w113 {a100 : Bool} {a101 : Bool} {a102 : Bool} {a103 : Bool} {a104 : Bool} {a105 : Bool} {a200 : Bool} {a201 : Bool} {a202 : Bool} {a203 : Bool} {a204 : Bool} {a205 : Bool} {m : M} {Q : V → M → Prop} (h :
 (∀ m0 : M, ((m0 = (M.new m (AO.cells 6 [(C.bool a100), (C.bool a101), (C.bool a102), (C.bool a103), (C.bool a104), 
 (C.bool a105)] false))) → (∀ m1 : M, ((m1 = (M.new m0 (AO.cells 6 [(C.bool a200), (C.bool a201), (C.bool a202), 
 (C.bool a203), (C.bool a204), (C.bool a205)] false))) → (∀ R2 : List V → M → Prop, ((∀ b3 : Bool, (∀ x4 : Int, 
 (∀ m5 : M, ((ifB (decide (x4 < (6 : Int))) (isPt (C.ptr m.nxt 0) ∧ (∃ n6 : Nat, ((x4 = ((n6 : Nat) : Int)) ∧ 
 ((n6 < 6) ∧ (∃ b7 : Bool, (((ldC m5 (C.ptr m.nxt (0 + (n6 * 1)))) = (some (C.bool b7))) ∧ 
 (ifB b7 (isPt (C.ptr m0.nxt 0) ∧ (∃ n8 : Nat, ((x4 = ((n8 : Nat) : Int)) ∧ ((n8 < 6) ∧ (∃ b9 : Bool, 
 (((ldC m5 (C.ptr m0.nxt (0 + (n8 * 1)))) = (some (C.bool b9))) ∧ (ifB (!b9) (Q (V.c (C.bool false)) m5) (fitsP .i64 (x4 + (1 : Int)) ∧ 
 (R2 [(V.c (C.bool b3)), (V.c (C.int .i64 (x4 + (1 : Int))))] m5))))))))) (fitsP .i64 (x4 + (1 : Int)) ∧ 
 (R2 [(V.c (C.bool b3)), (V.c (C.int .i64 (x4 + (1 : Int))))] m5))))))))) (Q (V.c (C.bool true)) m5)) → 
 (R2 [(V.c (C.bool b3)), (V.c (C.int .i64 x4))] m5))))) → (R2 [(V.c (C.bool false)), (V.c (C.int .i64 (0 : Int)))] m1)))))))) : Wc prog tbl 113 [(V.agg 6 [(C.bool a100), (C.bool a101), (C.bool a102), (C.bool a103), (C.bool a104), (C.bool a105)]), (V.agg 6 [(C.bool a200), (C.bool a201), (C.bool a202), (C.bool a203), (C.bool a204), (C.bool a205)])] m Q :=
 wc_eq (n := 2) rfl (by kernel_rfl) (by kernel_rfl) h
theorem w123 {a100 : Int} {a101 : Int} {a102 : C} {a103 : Int} {a104 : C} {a200 : Int} {a300 : Int} {m : M} {Q : V → M → Prop} (h :
 (∀ m0 : M, ((m0 = (M.new m (AO.cells 5 [(C.int .i64 a100), (C.int .i64 a101), a102, (C.int .i64 a103), 
 a104] false))) → (fitsP .i64 (a200 - a300) ∧ (fitsP .i64 (a300 - a200) ∧ (isPt (C.ptr m.nxt 0) ∧ 
 (∃ x1 : Int, (((ldC m0 (C.ptr m.nxt 3)) = (some (C.int .i64 x1))) ∧ (Q (V.c (C.bool (decide (x1 < (Max.max (a200 - a300) (a300 - a200)))))) m0))))))))) : Wc prog tbl 123 [(V.agg 5 [(C.int .i64 a100), (C.int .i64 a101), a102, (C.int .i64 a103), a104]), (V.c (C.int .i64 a200)), (V.c (C.int .i64 a300))] m Q :=
 wc_eq (n := 3) rfl (by kernel_rfl) (by kernel_rfl) h
end
end Go.Proofs.Ytgkjfhkjgdiodaa

namespace Go.Proofs.Ytgkjfhkjgdiodaa
open _root_.Go.Proofs.Try
open Go.Abs
set_option maxRecDepth 100000
noncomputable section
theorem c115 (p lo hi : Int) (l : Bool) (b : Nat) {m : M} {Q : V → M → Prop} (h :
 (∀ m0 : M, ((m0 = (M.new m (AO.cells 4 [(C.int .i64 p), (C.int .i64 lo), (C.int .i64 hi), 
 (C.bool l)] false))) → (∃ c1 : C, (((ldC m0 (C.ptr b 0)) = (some c1)) ∧ (∃ x2 : Int, (∃ x3 : Int, 
 (∃ x4 : Int, (∃ b5 : Bool, (((ldA m0 (C.ptr m.nxt 0) 4) = (some [(C.int .i64 x2), (C.int .i64 x3), 
 (C.int .i64 x4), (C.bool b5)])) ∧ (callP prog tbl [(V.agg 4 [(C.int .i64 x2), (C.int .i64 x3), 
 (C.int .i64 x4), (C.bool b5)])] c1 m0 (fun v6 m7 => (∃ b8 : Bool, ((v6 = (V.c (C.bool b8))) ∧ 
 (Q (V.c (C.bool (!b8))) m7))))))))))))))) : Wc prog tbl 115 [.agg 4 [.int .i64 p, .int .i64 lo, .int .i64 hi, .bool l], .c (.ptr b 0)] m Q :=
 wc_eq (n := 2) rfl (by kernel_rfl) (by kernel_rfl) h
/-- the field's sides are few -/
structure Sides (r c : Int) : Prop where
  r1 : 1 ≤ r
  r4 : r ≤ 4
  c1 : 1 ≤ c
  c4 : c ≤ 4
theorem Sides.mul {r c : Int} (h : Sides r c) : 0 ≤ r * c ∧ r * c ≤ 16 := mul_small h.r1 h.r4 h.c1 h.c4
theorem s84 {r c p : Int} {x : C} {m : M} {Q : V → M → Prop} (hS : Sides r c) (h : ∀ m', Ext m m' → Q (.c (.bool (decide (0 ≤ p ∧ p ≤ r * c - 1)))) m') : Wc prog tbl 84 [.agg 3 [.int .i64 r, .int .i64 c, x], .c (.int .i64 p)] m Q := by
  refine w84 fun m0 e0 => ?_
  obtain ⟨b0, x0⟩ := Bk.new e0
  have hm := hS.mul
  have := hS.r1
  have := hS.c1
  exact ⟨r, c, x, b0.ra, s88 (by omega) (by omega) (fits_small (by omega) (by omega)) fun m5 e5 => ⟨_, rfl, fits_small (by omega) (by omega), s92 fun m8 e8 => ⟨_, rfl, h m8 ((x0.trans e5).trans e8)⟩⟩⟩
def okCnt (k : Int) (n : Cnt) : Bool := decide ((0 ≤ n.p ∧ n.p ≤ k - 1) ∧ 0 ≤ n.lo ∧ n.lo ≤ n.hi ∧ n.hi ≤ 9)
theorem s99 {r c sm : Int} {x y : C} {n : Cnt} {m : M} {Q : V → M → Prop} (hS : Sides r c) (h : ∀ m', Ext m m' → Q (.c (.bool (okCnt (r * c) n))) m') : Wc prog tbl 99 [.agg 5 [.int .i64 r, .int .i64 c, x, .int .i64 sm, y], .agg 4 [.int .i64 n.p, .int .i64 n.lo, .int .i64 n.hi, .bool n.late]] m Q := by
  refine w99 fun m0 e0 m1 e1 => ?_
  obtain ⟨b0, x0⟩ := Bk.new e0
  obtain ⟨b1, x1⟩ := Bk.new e1
  have b0' := b0.ext x1
  have x01 := x0.trans x1
  have hA3 : ldA m1 (.ptr m.nxt 0) 3 = some [.int .i64 r, .int .i64 c, x] := b0'.rp (k := 0) (j := 3) rfl (by omega)
  refine ⟨trivial, r, c, x, hA3, trivial, n.p, b1.rc rfl, s84 hS fun m7 e7 => ⟨_, rfl, ?_⟩⟩
  have hfalse : ∀ m', Ext m1 m' → okCnt (r * c) n = false → Q (.c (.bool false)) m' := fun m' e hf => by
    have := h m' (x01.trans e); rw [hf] at this; exact this
  have l7 := b1.ext e7
  rw [ifB_dec]
  refine ⟨fun h1 => ⟨trivial, trivial, n.lo, l7.rc rfl, trivial, trivial, n.hi, l7.rc rfl, ?_⟩, fun h1 => hfalse m7 e7 (decide_eq_false fun h2 => h1 h2.1)⟩
  rw [ifB_dec]
  refine ⟨fun h2 => ⟨trivial, trivial, n.lo, l7.rc rfl, s95 fun m13 e13 => ⟨_, rfl, ?_⟩⟩, fun h2 => hfalse m7 e7 (decide_eq_false fun h3 => h2 h3.2.2.1)⟩
  have e13' := e7.trans e13
  rw [ifB_dec]
  refine ⟨fun h3 => ⟨trivial, trivial, n.hi, (l7.ext e13).rc rfl, s95 fun m17 e17 => ⟨_, rfl, ?_⟩⟩, fun h3 => hfalse m13 e13' (decide_eq_false fun h4 => h3 ⟨h4.2.1, by have := h4.2.2; omega⟩)⟩
  have hq := h m17 (x01.trans (e13'.trans e17))
  have : okCnt (r * c) n = decide (0 ≤ n.hi ∧ n.hi ≤ 9) := by
    unfold okCnt
    by_cases hv : 0 ≤ n.hi ∧ n.hi ≤ 9
    · rw [decide_eq_true hv, decide_eq_true ⟨h1, h3.1, h2, hv.2⟩]
    · rw [decide_eq_false hv, decide_eq_false fun h => hv ⟨by have := h.2; omega, h.2.2.2⟩]
  rw [this] at hq
  exact hq
/-- a slice as what a function value keeps -/
theorem keepC {m : M} {k n : Nat} {x : C} {vs : List C} (h : Ls m k x vs n) : ∃ x0 : C0, cC0 x = some x0 ∧ c0C x0 = x := by
  rcases h.val with ⟨rfl, _⟩ | ⟨b, o, s, c, rfl, _⟩
  · exact ⟨.sl0, rfl, rfl⟩
  · exact ⟨.sl b o n s c, rfl, rfl⟩
/-- all counts are valid -/
theorem s98 {r c sm : Int} {x y : C} {x0 y0 : C0} (hx0 : c0C x0 = x) (hy0 : c0C y0 = y) {N : List Cnt} {m : M} {Q : V → M → Prop} (hS : Sides r c) (hy : Lc m y N) (hN : N.length ≤ 1000)
    (h : ∀ m', Ext m m' → Q (.c (.bool (decide (∀ n ∈ N, okCnt (r * c) n = true)))) m') : Wc prog tbl 98 [.c y, .c (.fn (.func 99) [.agg 5 [.int .i64 r, .int .i64 c, x0, .int .i64 sm, y0]] [])] m Q := by
  refine w98 fun m0 e0 => ?_
  obtain ⟨b0, xe0⟩ := Bk.new e0
  have key : ∀ (v : Int) (m' : M), Ext m0 m' → (0 ≤ v ↔ ¬ ∀ n ∈ N, okCnt (r * c) n = true) → Q (.c (.bool (!decide (0 ≤ v)))) m' := fun v m' e hv => by
    have h1 := h m' (xe0.trans e)
    by_cases hc : ∀ n ∈ N, okCnt (r * c) n = true
    · have : ¬ 0 ≤ v := fun h2 => (hv.1 h2) hc
      simpa [this, decide_eq_true hc] using h1
    · have h2 := hv.2 hc
      simpa [h2, decide_eq_false hc] using h1
  refine w114 (w124 ⟨hy.isSl, fun R0 hstep => ?_⟩)
  have hgo : ∀ (d i : Nat) (b : Int) (m1 : M), d + i = N.length → (∀ n ∈ N.take i, okCnt (r * c) n = true) → Ext m0 m1 → R0 [.c (.int .i64 b), .c (.int .i64 (i : Int))] m1 := by
    intro d
    induction d with
    | zero =>
      intro i b m1 hd hn he
      refine hstep _ _ _ ?_
      rw [hy.slLen, ifB_dec]
      refine ⟨fun h1 => by omega, fun _ => ⟨_, rfl, _, rfl, key _ m1 he ?_⟩⟩
      refine ⟨fun h1 => by omega, fun h1 => absurd (fun v hv => hn v (by rw [List.take_of_length_le (by omega)]; exact hv)) h1⟩
    | succ d ih =>
      intro i b m1 hd hn he
      refine hstep _ _ _ ?_
      rw [hy.slLen, ifB_dec]
      refine ⟨fun _ => ?_, fun h1 => by omega⟩
      have hi : i < N.length := by omega
      have hc := List.getElem?_eq_getElem hi
      have hy1 := (hy.ext xe0).ext he
      refine ⟨i, rfl, hi, N[i].p, N[i].lo, N[i].hi, N[i].late, ?_, ?_⟩
      · rw [Ls.rds hy1 (by omega) (cnts_room hi (by omega)), cnts_all hc]; rfl
      show Wc prog tbl 115 _ m1 _
      refine c115 N[i].p N[i].lo N[i].hi N[i].late m.nxt fun m2 e2 => ?_
      obtain ⟨b2, x2⟩ := Bk.new e2
      refine ⟨_, ((b0.ext he).ext x2).rc rfl, N[i].p, N[i].lo, N[i].hi, N[i].late, b2.ra, ?_⟩
      show Wc prog tbl 99 [.agg 5 [.int .i64 r, .int .i64 c, c0C x0, .int .i64 sm, c0C y0], .agg 4 [.int .i64 N[i].p, .int .i64 N[i].lo, .int .i64 N[i].hi, .bool N[i].late]] m2 _
      rw [hx0, hy0]
      refine s99 hS fun m3 e3 => ⟨_, rfl, _, rfl, ?_⟩
      have e03 := (he.trans x2).trans e3
      cases hok : okCnt (r * c) N[i] with
      | false => exact ⟨_, rfl, _, rfl, key _ m3 e03 ⟨fun _ h2 => (by have := h2 _ (List.getElem_mem hi); rw [hok] at this; cases this), fun _ => Int.natCast_nonneg i⟩⟩
      | true =>
        refine ⟨by simp only [fitsP]; omega, ih (i + 1) b m3 (by omega) (fun v hv => ?_) e03⟩
        rw [List.take_add_one, hc] at hv
        rcases List.mem_append.1 hv with h2 | h2
        · exact hn v h2
        · have : v = N[i] := by simpa using h2
          rw [this]; exact hok
  exact hgo N.length 0 0 m0 (by omega) (by simp) (.refl m0)
/-- the survey is valid, but for how many counts and choices there are -/
def isSv (r c : Int) (L : List Int) (sm : Int) (N : List Cnt) : Bool := isField r c L && decide (0 ≤ sm ∧ sm ≤ 9) && decide (∀ n ∈ N, okCnt (r * c) n = true)
theorem sides_of {r c : Int} {L : List Int} (h : isField r c L = true) : Sides r c := by
  have h1 : (1 ≤ r ∧ r ≤ 4) ∧ (1 ≤ c ∧ c ≤ 4) ∧ _ := of_decide_eq_true h
  exact ⟨h1.1.1, h1.1.2, h1.2.1.1, h1.2.1.2⟩
theorem s79 {r c sm : Int} {x y : C} {L : List Int} {N : List Cnt} {m : M} {Q : V → M → Prop} (hx : Li m x L) (hL : L.length ≤ 1048576) (hy : Lc m y N) (hN : N.length ≤ 1000) (h : ∀ m', Ext m m' → Q (.c (.bool (isSv r c L sm N))) m') :
    Wc prog tbl 79 [.agg 5 [.int .i64 r, .int .i64 c, x, .int .i64 sm, y]] m Q := by
  refine w79 fun m0 e0 => ?_
  obtain ⟨b0, x0⟩ := Bk.new e0
  have hA3 : ldA m0 (.ptr m.nxt 0) 3 = some [.int .i64 r, .int .i64 c, x] := b0.rp (k := 0) (j := 3) rfl (by omega)
  have hfalse : ∀ m', Ext m0 m' → isSv r c L sm N = false → Q (.c (.bool false)) m' := fun m' e hf => by
    have := h m' (x0.trans e); rw [hf] at this; exact this
  refine ⟨trivial, r, c, x, hA3, s72 (hx.ext x0) hL fun m5 e5 => ⟨_, rfl, ?_⟩⟩
  cases hf : isField r c L with
  | false => exact hfalse m5 e5 (by unfold isSv; rw [hf]; rfl)
  | true =>
    rw [ifB_true]
    refine ⟨trivial, sm, (b0.ext e5).rc rfl, s95 fun m9 e9 => ⟨_, rfl, ?_⟩⟩
    rw [ifB_dec]
    refine ⟨fun h1 => ?_, fun h1 => hfalse m9 (e5.trans e9) (by unfold isSv; rw [hf, decide_eq_false h1]; rfl)⟩
    obtain ⟨xc, hxc, hxc'⟩ := keepC hx
    obtain ⟨yc, hyc, hyc'⟩ := keepC hy
    refine ⟨trivial, y, ((b0.ext e5).ext e9).rc rfl, r, c, x, sm, y, ((b0.ext e5).ext e9).ra, ?_⟩
    have hvw : mapO vW [V.agg 5 [.int .i64 r, .int .i64 c, x, .int .i64 sm, y]] = some [.agg 5 [.int .i64 r, .int .i64 c, xc, .int .i64 sm, yc]] := by
      show optB (optB (optB (some (C0.int .i64 r)) none fun a => optB (optB (some (C0.int .i64 c)) none fun b => optB (optB (cC0 x) none fun c' => optB (optB (some (C0.int .i64 sm)) none fun d => optB (optB (cC0 y) none fun e => some [e]) none fun l => some (d :: l)) none fun l => some (c' :: l)) none fun l => some (b :: l)) none fun l => some (a :: l)) none fun xs => some (W.agg 5 xs)) none (fun w => some [w]) = _
      rw [hxc, hyc]; rfl
    rw [hvw, optB_some]
    refine s98 hxc' hyc' (sides_of hf) (hy.ext ((x0.trans e5).trans e9)) hN fun m19 e19 => ⟨_, rfl, ?_⟩
    have hq := h m19 (((x0.trans e5).trans e9).trans e19)
    have : isSv r c L sm N = decide (∀ n ∈ N, okCnt (r * c) n = true) := by unfold isSv; rw [hf, decide_eq_true h1]; rfl
    rw [this] at hq
    exact hq
end
end Go.Proofs.Ytgkjfhkjgdiodaa

namespace Go.Proofs.Ytgkjfhkjgdiodaa
open _root_.Go.Proofs.Try
open Go.Abs
set_option maxRecDepth 100000
noncomputable section
def manyL (a : Int) : List Int → Int
  | [] => a
  | v :: L => manyL (min 4000 (a * (v + 1))) L
def mulL (a : Int) : List Int → Int
  | [] => a
  | v :: L => mulL (a * (v + 1)) L
def Small (L : List Int) : Prop := ∀ v ∈ L, 0 ≤ v ∧ v ≤ 9
theorem mul_le {a b : Int} (ha : 0 ≤ a) (hb : 1 ≤ b) : a ≤ a * b := by
  have := Int.mul_le_mul_of_nonneg_left hb ha
  omega
theorem mulL_ge : ∀ {L : List Int} {a : Int}, Small L → 0 ≤ a → a ≤ mulL a L
  | [], a, _, _ => Int.le_refl _
  | v :: L, a, h, ha => by
    have hv := h v (List.mem_cons_self ..)
    have h1 := mul_le ha (b := v + 1) (by omega)
    exact Int.le_trans h1 (mulL_ge (fun w hw => h w (List.mem_cons_of_mem _ hw)) (by omega))
theorem manyL_ge : ∀ {L : List Int} {a : Int}, Small L → 0 ≤ a → a ≤ 4000 → a ≤ manyL a L
  | [], a, _, _, _ => Int.le_refl _
  | v :: L, a, h, ha, h4 => by
    have hv := h v (List.mem_cons_self ..)
    have h1 := mul_le ha (b := v + 1) (by omega)
    have h2 := manyL_ge (L := L) (a := min 4000 (a * (v + 1))) (fun w hw => h w (List.mem_cons_of_mem _ hw)) (by omega) (by omega)
    show a ≤ manyL (min 4000 (a * (v + 1))) L
    omega
/-- both say whether there are too many -/
theorem many_iff : ∀ {L : List Int} {a : Int}, Small L → 0 ≤ a → a ≤ 4000 → (2000 < manyL a L ↔ 2000 < mulL a L)
  | [], a, _, _, _ => Iff.rfl
  | v :: L, a, h, ha, h4 => by
    have hv := h v (List.mem_cons_self ..)
    have hL : Small L := fun w hw => h w (List.mem_cons_of_mem _ hw)
    have h1 := mul_le ha (b := v + 1) (by omega)
    show 2000 < manyL (min 4000 (a * (v + 1))) L ↔ 2000 < mulL (a * (v + 1)) L
    by_cases hq : a * (v + 1) ≤ 4000
    · rw [Int.min_eq_right hq]
      exact many_iff hL (by omega) hq
    · have h2 := manyL_ge (L := L) (a := min 4000 (a * (v + 1))) hL (by omega) (by omega)
      have h3 := mulL_ge (L := L) (a := a * (v + 1)) hL (by omega)
      omega
theorem ten_pos : ∀ k : Nat, (1 : Int) ≤ 10 ^ k
  | 0 => by simp
  | k + 1 => by rw [Int.pow_succ]; have := ten_pos k; omega
theorem ten_mono (i : Nat) : ∀ j : Nat, (10 : Int) ^ i ≤ 10 ^ (i + j)
  | 0 => Int.le_refl _
  | j + 1 => by rw [← Nat.add_assoc, Int.pow_succ]; have := ten_mono i j; have := ten_pos i; omega
theorem small_at {L : List Int} (h : Small L) {i : Nat} (hi : i < L.length) : 0 ≤ L[i] ∧ L[i] ≤ 9 := h _ (List.getElem_mem hi)
theorem mulL_step {L : List Int} {i : Nat} (hi : i < L.length) (a : Int) : mulL a (L.drop i) = mulL (a * (L[i] + 1)) (L.drop (i + 1)) := by rw [List.drop_eq_getElem_cons hi]; rfl
theorem manyL_step {L : List Int} {i : Nat} (hi : i < L.length) (a : Int) : manyL a (L.drop i) = manyL (min 4000 (a * (L[i] + 1))) (L.drop (i + 1)) := by rw [List.drop_eq_getElem_cons hi]; rfl
theorem s80 {r c : Int} {x : C} {L : List Int} {m : M} {Q : V → M → Prop} (hx : Li m x L) (hS : Small L) (hL : L.length ≤ 9) (h : ∀ m', Ext m m' → Q (.c (.int .i64 (mulL 1 L))) m') : Wc prog tbl 80 [.agg 3 [.int .i64 r, .int .i64 c, x]] m Q := by
  refine w80 fun m0 e0 => ?_
  obtain ⟨b0, x0⟩ := Bk.new e0
  refine ⟨trivial, x, b0.rc rfl, hx.isSl, fun R2 hstep => ?_⟩
  have hgo : ∀ (d i : Nat) (a : Int), d + i = L.length → 0 ≤ a → a ≤ 10 ^ i → mulL a (L.drop i) = mulL 1 L → R2 [.c (.int .i64 a), .c (.int .i64 (i : Int))] m0 := by
    intro d
    induction d with
    | zero =>
      intro i a hd h0 ha heq
      refine hstep _ _ _ ?_
      rw [hx.slLen, ifB_dec]
      refine ⟨fun h1 => by omega, fun _ => ?_⟩
      rw [List.drop_eq_nil_of_le (by omega)] at heq
      have hq := h m0 x0
      rw [← heq] at hq
      exact hq
    | succ d ih =>
      intro i a hd h0 ha heq
      refine hstep _ _ _ ?_
      rw [hx.slLen, ifB_dec]
      refine ⟨fun _ => ?_, fun h1 => by omega⟩
      have hi : i < L.length := by omega
      have hv := small_at hS hi
      have h1 : a * (L[i] + 1) ≤ a * 10 := Int.mul_le_mul_of_nonneg_left (by omega) h0
      have h2 : a * 10 ≤ 10 ^ (i + 1) := by rw [Int.pow_succ]; exact Int.mul_le_mul_of_nonneg_right ha (by omega)
      have h3 : (10 : Int) ^ (i + 1) ≤ 10 ^ 9 := by have := ten_mono (i + 1) (8 - i); rw [show i + 1 + (8 - i) = 9 by omega] at this; exact this
      have h4 : (10 : Int) ^ 9 = 1000000000 := by decide
      have h5 : 0 ≤ a * (L[i] + 1) := Int.mul_nonneg h0 (by omega)
      refine ⟨i, rfl, hi, L[i], Li.rd (hx.ext x0) (List.getElem?_eq_getElem hi), fits_small (by omega) (by omega), h0, by omega, by simp only [fitsP]; omega, fits_small (by omega) (by omega), ?_⟩
      exact ih (i + 1) _ (by omega) h5 (by omega) (by rw [← mulL_step hi]; exact heq)
  exact hgo L.length 0 1 (by omega) (by omega) (by simp) rfl
theorem s60 {r c : Int} {x : C} {L : List Int} {m : M} {Q : V → M → Prop} (hx : Li m x L) (hS : Small L) (hL : L.length ≤ 1000) (h : ∀ m', Ext m m' → Q (.c (.int .i64 (manyL 1 L))) m') : Wc prog tbl 60 [.agg 3 [.int .i64 r, .int .i64 c, x]] m Q := by
  refine w60 fun m0 e0 R1 hstep => ?_
  obtain ⟨b0, x0⟩ := Bk.new e0
  have hgo : ∀ (d i : Nat) (a : Int), d + i = L.length → 0 ≤ a → a ≤ 4000 → manyL a (L.drop i) = manyL 1 L → R1 [.c (.int .i64 a), .c (.int .i64 (i : Int))] m0 := by
    intro d
    induction d with
    | zero =>
      intro i a hd h0 ha heq
      refine hstep _ _ _ ⟨trivial, x, b0.rc rfl, hx.isSl, ?_⟩
      rw [hx.slLen, ifB_dec]
      refine ⟨fun h1 => by omega, fun _ => ?_⟩
      rw [List.drop_eq_nil_of_le (by omega)] at heq
      have hq := h m0 x0
      rw [← heq] at hq
      exact hq
    | succ d ih =>
      intro i a hd h0 ha heq
      refine hstep _ _ _ ⟨trivial, x, b0.rc rfl, hx.isSl, ?_⟩
      rw [hx.slLen, ifB_dec]
      refine ⟨fun _ => ?_, fun h1 => by omega⟩
      have hi : i < L.length := by omega
      have hv := small_at hS hi
      have h1 : a * (L[i] + 1) ≤ a * 10 := Int.mul_le_mul_of_nonneg_left (by omega) h0
      have h5 : 0 ≤ a * (L[i] + 1) := Int.mul_nonneg h0 (by omega)
      refine ⟨trivial, x, b0.rc rfl, i, rfl, by rw [hx.slLen]; exact hi, L[i], Li.rd (hx.ext x0) (List.getElem?_eq_getElem hi), fits_small (by omega) (by omega), h0, by omega, fits_small (by omega) (by omega), fits_small (by omega) (by omega), ?_⟩
      exact ih (i + 1) _ (by omega) (by omega) (by omega) (by rw [← manyL_step hi]; exact heq)
  exact hgo L.length 0 1 (by omega) (by omega) (by omega) rfl
/-- the error of a survey -/
def svErr (r c : Int) (L : List Int) (sm : Int) (N : List Cnt) : Int := if N.length ≤ 6 then if isSv r c L sm N then if mulL 1 L ≤ 2000 then 0 else 3 else 1 else 3
theorem field_of {r c : Int} {L : List Int} (h : isField r c L = true) : Small L ∧ L.length ≤ 9 ∧ (L.length : Int) = r * c := by
  have h1 : (1 ≤ r ∧ r ≤ 4) ∧ (1 ≤ c ∧ c ≤ 4) ∧ r * c ≤ 9 ∧ (L.length : Int) = r * c ∧ ∀ v ∈ L, 0 ≤ v ∧ v ≤ 9 := of_decide_eq_true h
  exact ⟨h1.2.2.2.2, by omega, h1.2.2.2.1⟩
theorem sv_field {r c : Int} {L : List Int} {sm : Int} {N : List Cnt} (h : isSv r c L sm N = true) : isField r c L = true ∧ (0 ≤ sm ∧ sm ≤ 9) ∧ ∀ n ∈ N, okCnt (r * c) n = true := by
  unfold isSv at h
  rw [Bool.and_eq_true, Bool.and_eq_true] at h
  exact ⟨h.1.1, of_decide_eq_true h.1.2, of_decide_eq_true h.2⟩
theorem s37 {r c sm : Int} {x y : C} {L : List Int} {N : List Cnt} {m : M} {Q : V → M → Prop} (hx : Li m x L) (hL : L.length ≤ 1048576) (hy : Lc m y N) (hN : N.length ≤ 1000) (h : ∀ m', Ext m m' → Q (.c (.int .i64 (svErr r c L sm N))) m') :
    Wc prog tbl 37 [.agg 5 [.int .i64 r, .int .i64 c, x, .int .i64 sm, y]] m Q := by
  refine w37 fun m0 e0 => ?_
  obtain ⟨b0, x0⟩ := Bk.new e0
  have hval : ∀ {v : Int} {m'}, Ext m0 m' → svErr r c L sm N = v → Q (.c (.int .i64 v)) m' := fun {v m'} e hv => by
    have := h m' (x0.trans e); rw [hv] at this; exact this
  refine ⟨trivial, y, b0.rc rfl, hy.isSl, ?_⟩
  rw [hy.slLen, ifB_dec]
  refine ⟨fun h1 => hval (.refl _) (by unfold svErr; rw [if_neg (by omega)]), fun h1 => ?_⟩
  refine ⟨r, c, x, sm, y, b0.ra, s79 (hx.ext x0) hL (hy.ext x0) hN fun m8 e8 => ⟨_, rfl, ?_⟩⟩
  cases hs : isSv r c L sm N with
  | false => exact hval e8 (by unfold svErr; rw [if_pos (by omega), hs]; simp)
  | true =>
    obtain ⟨hf, hsm, hcs⟩ := sv_field hs
    obtain ⟨f1, f2, f3⟩ := field_of hf
    show ifB false _ _
    rw [ifB_false]
    refine ⟨trivial, r, c, x, (b0.ext e8).rp (k := 0) (j := 3) rfl (by omega), s80 (hx.ext (x0.trans e8)) f1 f2 fun m14 e14 => ⟨_, rfl, ?_⟩⟩
    rw [ifB_dec]
    exact ⟨fun h2 => hval (e8.trans e14) (by unfold svErr; rw [if_pos (by omega), hs, if_pos rfl, if_neg (by omega)]), fun h2 => hval (e8.trans e14) (by unfold svErr; rw [if_pos (by omega), hs, if_pos rfl, if_pos (by omega)])⟩
theorem s78 {r c sm : Int} {x y : C} {L : List Int} {N : List Cnt} {m : M} {Q : V → M → Prop} (hx : Li m x L) (hL : L.length ≤ 1048576) (hy : Lc m y N) (hN : N.length ≤ 1000) (h : ∀ m', Ext m m' → Q (.c (.int .i64 (svErr r c L sm N))) m') :
    Wc prog tbl 78 [.agg 5 [.int .i64 r, .int .i64 c, x, .int .i64 sm, y]] m Q := by
  refine w78 fun m0 e0 => ?_
  obtain ⟨b0, x0⟩ := Bk.new e0
  have hval : ∀ {v : Int} {m'}, Ext m0 m' → svErr r c L sm N = v → Q (.c (.int .i64 v)) m' := fun {v m'} e hv => by
    have := h m' (x0.trans e); rw [hv] at this; exact this
  refine ⟨trivial, y, b0.rc rfl, hy.isSl, ?_⟩
  rw [hy.slLen, ifB_dec]
  refine ⟨fun h1 => hval (.refl _) (by unfold svErr; rw [if_neg (by omega)]), fun h1 => ?_⟩
  have hbad : ∀ {m'}, Ext m0 m' → isSv r c L sm N = false → Q (.c (.int .i64 1)) m' := fun e hs => hval e (by unfold svErr; rw [if_pos (by omega), hs]; simp)
  refine ⟨trivial, r, c, x, b0.rp (k := 0) (j := 3) rfl (by omega), s26 (hx.ext x0) hL fun m6 e6 => ⟨_, rfl, ?_⟩⟩
  cases hf : isField r c L with
  | false => exact hbad e6 (by unfold isSv; rw [hf]; rfl)
  | true =>
  obtain ⟨f1, f2, f3⟩ := field_of hf
  show ifB false _ _
  rw [ifB_false]
  refine ⟨trivial, sm, (b0.ext e6).rc rfl, s44 ⟨_, rfl, ?_⟩⟩
  rw [ifB_ndec]
  refine ⟨fun h2 => hbad e6 (by unfold isSv; rw [hf, decide_eq_false h2]; rfl), fun h2 R12 hstep => ?_⟩
  have hgo : ∀ (d i : Nat) (b : Int) (m15 : M), d + i = N.length → (∀ n ∈ N.take i, okCnt (r * c) n = true) → Ext m0 m15 → R12 [.c (.int .i64 b), .c (.int .i64 (i : Int))] m15 := by
    intro d
    induction d with
    | zero =>
      intro i b m15 hd hn he
      refine hstep _ _ _ ⟨trivial, y, (b0.ext he).rc rfl, hy.isSl, ?_⟩
      rw [hy.slLen, ifB_dec]
      refine ⟨fun h1 => by omega, fun _ => ⟨trivial, r, c, x, (b0.ext he).rp (k := 0) (j := 3) rfl (by omega), s60 (hx.ext (x0.trans he)) f1 (by omega) fun m40 e40 => ⟨_, rfl, ?_⟩⟩⟩
      have hs : isSv r c L sm N = true := by
        unfold isSv
        rw [hf, decide_eq_true h2, decide_eq_true fun n hn' => hn n (by rw [List.take_of_length_le (by omega)]; exact hn')]; rfl
      have hmi := many_iff f1 (a := 1) (by omega) (by omega)
      rw [ifB_dec]
      exact ⟨fun h3 => hval (he.trans e40) (by unfold svErr; rw [if_pos (by omega), hs, if_pos rfl, if_neg (by omega)]), fun h3 => hval (he.trans e40) (by unfold svErr; rw [if_pos (by omega), hs, if_pos rfl, if_pos (by omega)])⟩
    | succ d ih =>
      intro i b m15 hd hn he
      refine hstep _ _ _ ⟨trivial, y, (b0.ext he).rc rfl, hy.isSl, ?_⟩
      rw [hy.slLen, ifB_dec]
      refine ⟨fun _ => ?_, fun h1 => by omega⟩
      have hi : i < N.length := by omega
      have hc := List.getElem?_eq_getElem hi
      have hy1 := (hy.ext x0).ext he
      have hnot : okCnt (r * c) N[i] = false → isSv r c L sm N = false := fun hk => by
        unfold isSv
        rw [show decide (∀ n ∈ N, okCnt (r * c) n = true) = false from decide_eq_false fun h => (by have := h _ (List.getElem_mem hi); rw [hk] at this; cases this), Bool.and_false]
      refine ⟨trivial, y, (b0.ext he).rc rfl, i, rfl, by rw [hy.slLen]; exact hi, N[i].p, N[i].lo, N[i].hi, N[i].late, ?_, fun m23 h23 => ?_⟩
      · rw [Ls.rds hy1 (by omega) (cnts_room hi (by omega)), cnts_all hc]; rfl
      obtain ⟨b23, x23⟩ := Bk.new h23
      have k24 := b23.set [.int .i64 N[i].p, .int .i64 N[i].lo, .int .i64 N[i].hi, .bool N[i].late]
      have e24 : Ext m15 (m23.set m15.nxt (.cells 4 [.int .i64 N[i].p, .int .i64 N[i].lo, .int .i64 N[i].hi, .bool N[i].late] false)) := x23.setR (Nat.le_refl _) _
      refine ⟨_, b23.st _, trivial, N[i].p, k24.rc rfl, trivial, trivial, x, ?_⟩
      generalize m23.set m15.nxt (.cells 4 [.int .i64 N[i].p, .int .i64 N[i].lo, .int .i64 N[i].hi, .bool N[i].late] false) = m24 at k24 e24
      have he24 := he.trans e24
      refine ⟨(b0.ext he24).rc rfl, hx.isSl, by rw [hx.slLen]; exact fits_small (by omega) (by omega), s44 ⟨_, rfl, ?_⟩⟩
      rw [hx.slLen, f3, ifB_ndec]
      refine ⟨fun h3 => hbad he24 (hnot (decide_eq_false fun h4 => h3 h4.1)), fun h3 => ⟨trivial, trivial, N[i].lo, k24.rc rfl, trivial, trivial, N[i].hi, k24.rc rfl, s44 ⟨_, rfl, ?_⟩⟩⟩
      rw [ifB_ndec]
      refine ⟨fun h4 => hbad he24 (hnot (decide_eq_false fun h5 => h4 ⟨h5.2.1, h5.2.2.1⟩)), fun h4 => ⟨trivial, trivial, N[i].hi, k24.rc rfl, ?_⟩⟩
      rw [ifB_dec]
      refine ⟨fun h5 => hbad he24 (hnot (decide_eq_false fun h6 => by have := h6.2.2.2; omega)), fun h5 => ⟨by simp only [fitsP]; omega, ih (i + 1) b m24 (by omega) (fun v hv => ?_) he24⟩⟩
      rw [List.take_add_one, hc] at hv
      rcases List.mem_append.1 hv with h6 | h6
      · exact hn v h6
      · have : v = N[i] := by simpa using h6
        rw [this]; exact decide_eq_true ⟨h3, h4.1, h4.2, by omega⟩
  exact hgo N.length 0 0 m6 (by omega) (by simp) e6
theorem s36 {r c sm : Int} {x y : C} {L : List Int} {N : List Cnt} {m : M} {Q : V → M → Prop} (hx : Li m x L) (hL : L.length ≤ 1048576) (hy : Lc m y N) (hN : N.length ≤ 1000) (h : ∀ m', Ext m m' → Q (.c (.int .i64 (svErr r c L sm N))) m') :
    Wc prog tbl 36 [.agg 5 [.int .i64 r, .int .i64 c, x, .int .i64 sm, y]] m Q := by
  refine w36 fun m0 e0 => ?_
  obtain ⟨b0, x0⟩ := Bk.new e0
  exact ⟨r, c, x, sm, y, b0.ra, s78 (hx.ext x0) hL (hy.ext x0) hN fun m7 e7 => ⟨_, rfl, h m7 (x0.trans e7)⟩⟩
end
end Go.Proofs.Ytgkjfhkjgdiodaa

namespace Go.Proofs.Ytgkjfhkjgdiodaa
open _root_.Go.Proofs.Try
open Go.Abs
set_option maxRecDepth 100000
noncomputable section
def sumA (a : Int) : List Int → Int
  | [] => a
  | v :: L => sumA (a + v) L
theorem sumA_step {L : List Int} {i : Nat} (hi : i < L.length) (a : Int) : sumA a (L.drop i) = sumA (a + L[i]) (L.drop (i + 1)) := by rw [List.drop_eq_getElem_cons hi]; rfl
theorem sumA_app : ∀ (L R : List Int) (a : Int), sumA a (L ++ R) = sumA (sumA a L) R
  | [], _, _ => rfl
  | v :: L, R, a => sumA_app L R (a + v)
theorem sumA_zero : ∀ (n : Nat) (a : Int), sumA a (List.replicate n 0) = a
  | 0, _ => rfl
  | n + 1, a => by rw [List.replicate_succ]; show sumA (a + 0) _ = a; rw [Int.add_zero]; exact sumA_zero n a
theorem sumA_ge {L : List Int} (h : ∀ v ∈ L, 0 ≤ v) : ∀ {a : Int}, 0 ≤ a → 0 ≤ sumA a L := by
  induction L with
  | nil => exact fun h => h
  | cons v L ih => exact fun {a} ha => ih (fun w hw => h w (List.mem_cons_of_mem _ hw)) (by have := h v (List.mem_cons_self ..); omega)
theorem sumA_le {L : List Int} (h : ∀ v ∈ L, v ≤ 9) : ∀ {a : Int}, sumA a L ≤ a + 9 * (L.length : Int) := by
  induction L with
  | nil => intro a; show a ≤ _; simp
  | cons v L ih =>
    intro a
    have h1 := ih (fun w hw => h w (List.mem_cons_of_mem _ hw)) (a := a + v)
    have h2 := h v (List.mem_cons_self ..)
    show sumA (a + v) L ≤ _
    rw [List.length_cons]; omega
theorem s96 {x : C} {L : List Int} {m : M} {Q : V → M → Prop} (hx : Li m x L) (hS : Small L) (hL : L.length ≤ 1000) (h : Q (.c (.int .i64 (sumA 0 L))) m) : Wc prog tbl 96 [.c x] m Q := by
  refine w96 ⟨hx.isSl, fun R0 hstep => ?_⟩
  have hgo : ∀ (d i : Nat) (a : Int), d + i = L.length → 0 ≤ a → a ≤ 9 * i → sumA a (L.drop i) = sumA 0 L → R0 [.c (.int .i64 a), .c (.int .i64 (i : Int))] m := by
    intro d
    induction d with
    | zero =>
      intro i a hd h0 ha heq
      refine hstep _ _ _ ?_
      rw [hx.slLen, ifB_dec]
      refine ⟨fun h1 => by omega, fun _ => ?_⟩
      rw [List.drop_eq_nil_of_le (by omega)] at heq
      rw [← heq] at h
      exact h
    | succ d ih =>
      intro i a hd h0 ha heq
      refine hstep _ _ _ ?_
      rw [hx.slLen, ifB_dec]
      refine ⟨fun _ => ?_, fun h1 => by omega⟩
      have hi : i < L.length := by omega
      have hv := small_at hS hi
      exact ⟨i, rfl, hi, L[i], Li.rd hx (List.getElem?_eq_getElem hi), fits_small (by omega) (by omega), fits_small (by omega) (by omega), ih (i + 1) _ (by omega) (by omega) (by omega) (by rw [← sumA_step hi]; exact heq)⟩
  exact hgo L.length 0 0 (by omega) (by omega) (by omega) rfl
theorem nine {H : List Int} (h : H.length = 9) : ∃ a0 a1 a2 a3 a4 a5 a6 a7 a8, H = [a0, a1, a2, a3, a4, a5, a6, a7, a8] := by
  match H, h with
  | [a0, a1, a2, a3, a4, a5, a6, a7, a8], _ => exact ⟨a0, a1, a2, a3, a4, a5, a6, a7, a8, rfl⟩
/-- the hits, with 0 beyond the places there are -/
def pad (H : List Int) : List Int := H ++ List.replicate (9 - H.length) 0
theorem pad_len {H : List Int} (h : H.length ≤ 9) : (pad H).length = 9 := by unfold pad; rw [List.length_append, List.length_replicate]; omega
theorem sum_pad (H : List Int) (a : Int) : sumA a (pad H) = sumA a H := by unfold pad; rw [sumA_app, sumA_zero]
theorem small_pad {H : List Int} (h : Small H) : Small (pad H) := fun v hv => by
  rcases List.mem_append.1 hv with h1 | h1
  · exact h v h1
  · have := (List.mem_replicate.1 h1).2; omega
def shareOf (L H : List Int) : Int := if sumA 0 L = 0 then 0 else sumA 0 H * 100 / sumA 0 L
theorem s75 {r c sm : Int} {x y : C} {L H : List Int} {m : M} {Q : V → M → Prop} (hx : Li m x L) (hS : Small L) (hL : L.length ≤ 9) (hH : H.length = 9) (hHS : Small H) (h : ∀ m', Ext m m' → Q (.c (.int .i64 (shareOf L H))) m') :
    Wc prog tbl 75 [.agg 5 [.int .i64 r, .int .i64 c, x, .int .i64 sm, y], .agg 9 (ints H)] m Q := by
  have hb0 := sumA_ge (L := L) (fun v hv => (hS v hv).1) (a := 0) (by omega)
  have hb1 := sumA_le (L := L) (fun v hv => (hS v hv).2) (a := 0)
  have hh0 := sumA_ge (L := H) (fun v hv => (hHS v hv).1) (a := 0) (by omega)
  have hh1 := sumA_le (L := H) (fun v hv => (hHS v hv).2) (a := 0)
  unfold shareOf at h
  obtain ⟨a0, a1, a2, a3, a4, a5, a6, a7, a8, rfl⟩ := nine hH
  refine w75 fun m0 e0 m1 e1 => ?_
  obtain ⟨b0, x0⟩ := Bk.new e0
  obtain ⟨b1, x1⟩ := Bk.new e1
  have b0' := b0.ext x1
  have x01 := x0.trans x1
  refine ⟨trivial, trivial, x, b0'.rc rfl, s96 (hx.ext x01) hS (by omega) ⟨_, rfl, ?_⟩⟩
  rw [ifB_dec]
  refine ⟨fun h0 => ?_, fun h0 => ?_⟩
  · have hq := h m1 x01
    rw [if_pos h0] at hq
    exact hq
  · have hsl : Li m1 (.sl m0.nxt 0 9 0 (some 9)) [a0, a1, a2, a3, a4, a5, a6, a7, a8] := ⟨rfl, .inr ⟨m0.nxt, 0, 0, some 9, rfl, b1.lt, fun _ => .inl ⟨9, _, false, b1.g, rfl, by simp [ints], rfl⟩⟩⟩
    refine ⟨0, 9, rfl, rfl, _, rfl, s96 hsl hHS (by simp) ⟨_, rfl, ?_⟩⟩
    have h1 : sumA 0 [a0, a1, a2, a3, a4, a5, a6, a7, a8] ≤ 81 := by simp only [List.length_cons, List.length_nil] at hh1; omega
    have h2 : 0 ≤ sumA 0 [a0, a1, a2, a3, a4, a5, a6, a7, a8] * 100 := by omega
    have h3 := Int.ediv_nonneg h2 hb0
    have h4 := Int.ediv_le_self (sumA 0 L) h2
    have hq := h m1 x01
    rw [if_neg h0] at hq
    exact ⟨hh0, by omega, fits_small (by omega) (by omega), h2, by omega, fits_small (by omega) (by omega), hq⟩
/-- the list has the hits of each place -/
def listed (L H : List Int) : Bool := decide (H.length = L.length ∧ ∀ i : Nat, i < L.length → 0 ≤ H[i]! ∧ H[i]! ≤ L[i]!)
theorem s39 {r c : Int} {x y : C} {L H : List Int} {m : M} {Q : V → M → Prop} (hx : Li m x L) (hL : L.length ≤ 1000) (hy : Li m y H) (h : ∀ m', Ext m m' → Q (.c (.bool (listed L H))) m') :
    Wc prog tbl 39 [.agg 3 [.int .i64 r, .int .i64 c, x], .c y] m Q := by
  refine w39 fun m0 e0 => ?_
  obtain ⟨b0, x0⟩ := Bk.new e0
  have hy0 := hy.ext x0
  have hfalse : listed L H = false → Q (.c (.bool false)) m0 := fun hf => by
    have := h m0 x0; rw [hf] at this; exact this
  refine ⟨hy.isSl, trivial, x, b0.rc rfl, hx.isSl, ?_⟩
  rw [hy.slLen, hx.slLen, ifB_ndec]
  refine ⟨fun h1 => hfalse (decide_eq_false fun h2 => h1 (by rw [h2.1])), fun h1 R2 hstep => ?_⟩
  have hl : H.length = L.length := by omega
  have hgo : ∀ (d i : Nat) (b : Bool), d + i = L.length → (∀ j : Nat, j < i → 0 ≤ H[j]! ∧ H[j]! ≤ L[j]!) → R2 [.c (.bool b), .c (.int .i64 (i : Int))] m0 := by
    intro d
    induction d with
    | zero =>
      intro i b hd hn
      refine hstep _ _ _ ⟨hy.isSl, ?_⟩
      rw [ifB_dec]
      refine ⟨fun h1 => by omega, fun _ => ?_⟩
      have hq := h m0 x0
      rw [show listed L H = true from decide_eq_true ⟨hl, fun i hi => hn i (by omega)⟩] at hq
      exact hq
    | succ d ih =>
      intro i b hd hn
      refine hstep _ _ _ ⟨hy.isSl, ?_⟩
      rw [ifB_dec]
      refine ⟨fun _ => ?_, fun h1 => by omega⟩
      have hi : i < L.length := by omega
      have hi2 : i < H.length := by omega
      have e1 : H[i]! = H[i] := getElem!_pos H i hi2
      have e2 : L[i]! = L[i] := getElem!_pos L i hi
      refine ⟨i, rfl, hi2, H[i], Li.rd hy0 (List.getElem?_eq_getElem hi2), trivial, x, b0.rc rfl, i, rfl, by rw [hx.slLen]; exact hi, L[i], Li.rd (hx.ext x0) (List.getElem?_eq_getElem hi), s44 ⟨_, rfl, ?_⟩⟩
      rw [ifB_ndec]
      refine ⟨fun h2 => hfalse (decide_eq_false fun h3 => h2 (by have := h3.2 i hi; rw [e1, e2] at this; exact this)), fun h2 => ⟨fits_small (by omega) (by omega), ih (i + 1) b (by omega) fun j hj => ?_⟩⟩
      by_cases hji : j = i
      · subst hji; rw [e1, e2]; exact h2
      · exact hn j (by omega)
  exact hgo L.length 0 false (by omega) (by intro j hj; omega)
end
end Go.Proofs.Ytgkjfhkjgdiodaa

namespace Go.Proofs.Ytgkjfhkjgdiodaa
open _root_.Go.Proofs.Try
open Go.Abs
set_option maxRecDepth 100000
noncomputable section
theorem get9 {m : M} {b : Nat} {P : List Int} (hb : Bk m b 9 (ints P)) (hP : P.length = 9) (T : List C → Prop) (h : T (ints P)) :
    ∃ x0 x1 x2 x3 x4 x5 x6 x7 x8 : Int, ldA m (.ptr b 0) 9 = some [.int .i64 x0, .int .i64 x1, .int .i64 x2, .int .i64 x3, .int .i64 x4, .int .i64 x5, .int .i64 x6, .int .i64 x7, .int .i64 x8] ∧ T [.int .i64 x0, .int .i64 x1, .int .i64 x2, .int .i64 x3, .int .i64 x4, .int .i64 x5, .int .i64 x6, .int .i64 x7, .int .i64 x8] := by
  obtain ⟨a0, a1, a2, a3, a4, a5, a6, a7, a8, rfl⟩ := nine hP
  exact ⟨a0, a1, a2, a3, a4, a5, a6, a7, a8, hb.ra, h⟩
theorem pad_at {H : List Int} {i : Nat} (hi : i < H.length) (h9 : H.length ≤ 9) : (pad H)[i]? = some H[i] := by
  unfold pad; rw [List.getElem?_append_left hi]; exact List.getElem?_eq_getElem hi
theorem ints_set (L : List Int) (i : Nat) (v : Int) : (ints L).set i (.int .i64 v) = ints (L.set i v) := by unfold ints; rw [List.map_set]
theorem listed_len {L H : List Int} (h : listed L H = true) : H.length = L.length := (of_decide_eq_true h).1
theorem listed_at {L H : List Int} (h : listed L H = true) {i : Nat} (hi : i < L.length) (hi2 : i < H.length) : 0 ≤ H[i] ∧ H[i] ≤ L[i] := by
  have h1 := (of_decide_eq_true h).2 i hi
  rw [getElem!_pos H i hi2, getElem!_pos L i hi] at h1
  exact h1
theorem small_listed {L H : List Int} (hS : Small L) (h : listed L H = true) : Small H := fun v hv => by
  obtain ⟨i, hi, rfl⟩ := List.getElem_of_mem hv
  have hi2 : i < L.length := by rw [← listed_len h]; exact hi
  have := listed_at h hi2 hi
  have := hS _ (List.getElem_mem hi2)
  omega
end
end Go.Proofs.Ytgkjfhkjgdiodaa

namespace Go.Proofs.Ytgkjfhkjgdiodaa
open _root_.Go.Proofs.Try
open Go.Abs
set_option maxRecDepth 100000
noncomputable section
def at' (P : List Int) (k : Int) : Int := P[k.toNat]!
theorem at_rc {m : M} {b : Nat} {P : List Int} (hb : Bk m b 9 (ints P)) {k : Nat} (hk : k < P.length) : ldC m (.ptr b (0 + k * 1)) = some (.int .i64 (at' P (k : Int))) := by
  have h1 : at' P (k : Int) = P[k] := getElem!_pos P k hk
  rw [h1, show 0 + k * 1 = k by omega]
  exact hb.rc (ints_at (List.getElem?_eq_getElem hk))
theorem at_small {P : List Int} (hS : Small P) (k : Int) (hk : k.toNat < P.length) : 0 ≤ at' P k ∧ at' P k ≤ 9 := by
  have h1 : at' P k = P[k.toNat] := getElem!_pos P k.toNat hk
  rw [h1]; exact small_at hS hk
def dif (a b : Int) : Int := max (a - b) (b - a)
theorem s123 {r c sm a b : Int} {x y : C} {m : M} {Q : V → M → Prop} (ha : 0 ≤ a ∧ a ≤ 9) (hb : 0 ≤ b ∧ b ≤ 9) (h : ∀ m', Ext m m' → Q (.c (.bool (decide (sm < dif a b)))) m') :
    Wc prog tbl 123 [.agg 5 [.int .i64 r, .int .i64 c, x, .int .i64 sm, y], .c (.int .i64 a), .c (.int .i64 b)] m Q := by
  refine w123 fun m0 e0 => ?_
  obtain ⟨b0, x0⟩ := Bk.new e0
  exact ⟨fits_small (by omega) (by omega), fits_small (by omega) (by omega), trivial, sm, b0.rc rfl, h m0 x0⟩
def jumpsB (c sm : Int) (P : List Int) (i : Int) : Bool := decide ((0 < i % c ∧ sm < dif (at' P i) (at' P (i - 1))) ∨ (0 ≤ i - c ∧ sm < dif (at' P i) (at' P (i - c))))
theorem s112 {r c sm : Int} {x y : C} {P : List Int} {i : Nat} {m : M} {Q : V → M → Prop} (hP : P.length = 9) (hS : Small P) (hc : 1 ≤ c) (hc4 : c ≤ 4) (hi : i < 9) (h : ∀ m', Ext m m' → Q (.c (.bool (jumpsB c sm P i))) m') :
    Wc prog tbl 112 [.agg 5 [.int .i64 r, .int .i64 c, x, .int .i64 sm, y], .agg 9 (ints P), .c (.int .i64 (i : Int))] m Q := by
  have hsm : ∀ k : Int, 0 ≤ k → k < 9 → 0 ≤ at' P k ∧ at' P k ≤ 9 := fun k h0 h9 => at_small hS k (by omega)
  have hrc : ∀ {m' : M} {b : Nat} {k : Nat}, Bk m' b 9 (ints P) → k < 9 → ldC m' (.ptr b (0 + k * 1)) = some (.int .i64 (at' P (k : Int))) := fun hb hk => at_rc hb (by omega)
  have hmod : 0 ≤ (i : Int) % c := Int.emod_nonneg _ (by omega)
  have hmod2 : (i : Int) % c < c := Int.emod_lt_of_pos _ (by omega)
  have hcol : ∀ {m0 m14 : M}, Ext m m14 → Bk m14 m.nxt 5 [.int .i64 r, .int .i64 c, x, .int .i64 sm, y] → Bk m14 m0.nxt 9 (ints P) → ¬ (0 < (i : Int) % c ∧ sm < dif (at' P i) (at' P ((i : Int) - 1))) →
      ifB (decide ((0 : Int) ≤ ((i : Int) - c))) (∃ x16 : Int, (∃ x17 : Int, (∃ c18 : C, (∃ x19 : Int, (∃ c20 : C, (((ldA m14 (C.ptr (m).nxt 0) 5) = (Option.some [(C.int IntKind.i64 x16), (C.int IntKind.i64 x17), c18, (C.int IntKind.i64 x19), c20])) ∧ (isPt (C.ptr (m0).nxt 0) ∧
        (∃ n21 : Nat, (((i : Int) = ((n21 : Nat) : Int)) ∧ ((n21 < 9) ∧ (∃ x22 : Int, (((ldC m14 (C.ptr (m0).nxt (0 + (n21 * 1)))) = (Option.some (C.int IntKind.i64 x22))) ∧
        (isPt (C.ptr (m0).nxt 0) ∧ (∃ n23 : Nat, ((((i : Int) - c) = ((n23 : Nat) : Int)) ∧ ((n23 < 9) ∧ (∃ x24 : Int, (((ldC m14 (C.ptr (m0).nxt (0 + (n23 * 1)))) = (Option.some (C.int IntKind.i64 x24))) ∧
        (Wc prog tbl 123 [(V.agg 5 [(C.int IntKind.i64 x16), (C.int IntKind.i64 x17), c18, (C.int IntKind.i64 x19), c20]), (V.c (C.int IntKind.i64 x22)), (V.c (C.int IntKind.i64 x24))] m14 (fun v25 m26 =>
        (∃ b27 : Bool, ((v25 = (V.c (C.bool b27))) ∧ (Q (V.c (C.bool b27)) m26))))))))))))))))))))))) (Q (V.c (C.bool false)) m14) := fun {m0 m14} e hb hb1 hno => by
    rw [ifB_dec]
    refine ⟨fun h0 => ?_, fun h0 => ?_⟩
    · obtain ⟨k, hk⟩ : ∃ k : Nat, (i : Int) - c = (k : Int) := ⟨((i : Int) - c).toNat, by omega⟩
      refine ⟨r, c, x, sm, y, hb.ra, trivial, i, rfl, hi, at' P i, hrc hb1 hi, trivial, k, hk, by omega, at' P k, hrc hb1 (by omega), s123 (hsm _ (by omega) (by omega)) (hsm _ (by omega) (by omega)) fun m26 e26 => ⟨_, rfl, ?_⟩⟩
      have hq := h m26 (e.trans e26)
      have : jumpsB c sm P i = decide (sm < dif (at' P i) (at' P k)) := by
        unfold jumpsB
        rw [hk]
        exact decide_eq_decide.2 ⟨fun h1 => h1.elim (fun h2 => absurd h2 hno) fun h2 => h2.2, fun h1 => .inr ⟨by omega, h1⟩⟩
      rw [this] at hq
      exact hq
    · have hq := h m14 e
      have : jumpsB c sm P i = false := decide_eq_false fun h1 => h1.elim hno fun h2 => h0 h2.1
      rw [this] at hq
      exact hq
  obtain ⟨a0, a1, a2, a3, a4, a5, a6, a7, a8, hPe⟩ := nine hP
  rw [show ints P = ints [a0, a1, a2, a3, a4, a5, a6, a7, a8] by rw [← hPe]]
  refine w112 fun m0 e0 m1 e1 => ?_
  obtain ⟨b0, x0⟩ := Bk.new e0
  obtain ⟨b1', x1⟩ := Bk.new e1
  have b1 : Bk m1 m0.nxt 9 (ints P) := by rw [hPe]; exact b1'
  have b0' := b0.ext x1
  have x01 := x0.trans x1
  refine ⟨fits_small (by omega) (by omega), trivial, trivial, c, b0'.rc rfl, fits_small (by omega) (by omega), trivial, trivial, c, b0'.rc rfl, by omega, by omega, fits_small (by omega) (by omega), ?_⟩
  rw [ifB_dec]
  refine ⟨fun h0 => ?_, fun h0 => hcol x01 b0' b1 fun h1 => h0 h1.1⟩
  have hi1 : 1 ≤ i := by
    rcases Nat.eq_zero_or_pos i with rfl | h1
    · simp at h0
    · exact h1
  obtain ⟨k, hk⟩ : ∃ k : Nat, (i : Int) - 1 = (k : Int) := ⟨i - 1, by omega⟩
  refine ⟨r, c, x, sm, y, b0'.ra, trivial, i, rfl, hi, at' P i, hrc b1 hi, trivial, k, hk, by omega, at' P k, hrc b1 (by omega), s123 (hsm _ (by omega) (by omega)) (hsm _ (by omega) (by omega)) fun m14 e14 => ⟨_, rfl, ?_⟩⟩
  have xe := x01.trans e14
  rw [ifB_dec]
  refine ⟨fun h1 => ?_, fun h1 => hcol xe (b0'.ext e14) (b1.ext e14) fun h2 => h1 (by rw [← hk]; exact h2.2)⟩
  have hq := h m14 xe
  have : jumpsB c sm P i = true := decide_eq_true (.inl ⟨h0, by rw [hk]; exact h1⟩)
  rw [this] at hq
  exact hq
end
end Go.Proofs.Ytgkjfhkjgdiodaa

namespace Go.Abs
set_option maxRecDepth 100000
noncomputable section
open Classical
variable {P : Program} {kt : TypeId} {κ : Type} {enc : κ → U}
/-- the keys of a map are like a type of ours -/
structure KeyLike (P : Program) (kt : TypeId) (enc : κ → U) : Prop where
  plain : ∃ ks, plainK P kt = some ks
  eq : ∀ a b : κ, eqV P kt (uV (enc a)) (uV (enc b)) = some (decide (a = b))
def Keys (enc : κ → U) (es : List E) : Prop := ∀ e ∈ es, ∃ a, e.k = enc a
def look (enc : κ → U) (es : List E) (a : κ) : Option U :=
  match es with
  | [] => none
  | e :: es => if e.k = enc a then some e.v else look enc es a
theorem KeyLike.inj (h : KeyLike P kt enc) {a b : κ} (he : enc a = enc b) : a = b := by
  have h1 := h.eq a b
  rw [he, h.eq b b] at h1
  simpa using h1
theorem vU_uV (u : U) : vU (uV u) = some u := by cases u <;> rfl
theorem find_look (h : KeyLike P kt enc) (a : κ) : ∀ {es : List E} (i : Nat), Keys enc es → ∃ r, findE P kt (uV (enc a)) es i = some r ∧ optB r none (fun q => some q.2) = look enc es a ∧
    ∀ yu : U, ∀ clock : Nat, Keys enc (optB r (appS es [{ k := enc a, v := yu, born := clock }]) fun q => setEntry (enc a) yu es (q.1 - i)) ∧
      (∀ b, look enc (optB r (appS es [{ k := enc a, v := yu, born := clock }]) fun q => setEntry (enc a) yu es (q.1 - i)) b = if b = a then some yu else look enc es b) ∧ (∀ q, r = some q → i ≤ q.1)
  | [], i, _ => by
    refine ⟨none, rfl, rfl, fun yu clock => ⟨?_, fun b => ?_, fun q hq => by cases hq⟩⟩
    · intro e he
      have : e = { k := enc a, v := yu, born := clock } := by simpa [appS, optB] using he
      exact ⟨a, by rw [this]⟩
    · show look enc [_] b = _
      unfold look
      by_cases hb : b = a
      · rw [if_pos hb, if_pos (by rw [hb])]
      · rw [if_neg hb, if_neg fun he => hb (h.inj he).symm]; rfl
  | e :: es, i, hk => by
    obtain ⟨a', ha'⟩ := hk e (List.mem_cons_self ..)
    have hk' : Keys enc es := fun e he => hk e (List.mem_cons_of_mem _ he)
    obtain ⟨r, hr, hl, hu⟩ := find_look h a (i + 1) hk'
    have he : findE P kt (uV (enc a)) (e :: es) i = optB (eqV P kt (uV (enc a)) (uV e.k)) none fun b => ifB b (some (some (i, e.v))) (findE P kt (uV (enc a)) es (i + 1)) := rfl
    rw [ha', h.eq] at he
    by_cases haa : a = a'
    · have he2 : findE P kt (uV (enc a)) (e :: es) i = some (some (i, e.v)) := by rw [he, decide_eq_true haa]; rfl
      refine ⟨_, he2, ?_, fun yu clock => ⟨?_, fun b => ?_, fun q hq => ?_⟩⟩
      · show some e.v = if e.k = enc a then some e.v else look enc es a
        rw [if_pos (by rw [ha', haa])]
      · show Keys enc (setEntry (enc a) yu (e :: es) (i - i))
        rw [Nat.sub_self]
        intro e' he'
        rcases List.mem_cons.1 he' with rfl | h2
        · exact ⟨a, rfl⟩
        · exact hk' _ h2
      · show look enc (setEntry (enc a) yu (e :: es) (i - i)) b = _
        rw [Nat.sub_self]
        show (if enc a = enc b then some yu else look enc es b) = if b = a then some yu else if e.k = enc b then some e.v else look enc es b
        by_cases hb : b = a
        · rw [if_pos hb, if_pos (by rw [hb])]
        · rw [if_neg hb, if_neg fun he => hb (h.inj he).symm, if_neg fun he => hb (by rw [ha'] at he; rw [haa]; exact (h.inj he).symm)]
      · cases hq; exact Nat.le_refl _
    · have he2 : findE P kt (uV (enc a)) (e :: es) i = some r := by rw [he, decide_eq_false haa]; exact hr
      refine ⟨r, he2, ?_, fun yu clock => ?_⟩
      · rw [hl]
        show look enc es a = if e.k = enc a then some e.v else look enc es a
        rw [if_neg fun h2 => haa (by rw [ha'] at h2; exact (h.inj h2).symm)]
      · obtain ⟨u1, u2, u3⟩ := hu yu clock
        have hcons : (optB r (appS (e :: es) [{ k := enc a, v := yu, born := clock }]) fun q => setEntry (enc a) yu (e :: es) (q.1 - i)) = e :: (optB r (appS es [{ k := enc a, v := yu, born := clock }]) fun q => setEntry (enc a) yu es (q.1 - (i + 1))) := by
          cases r with
          | none =>
            show consS e _ = _
            exact consS_eq e _
          | some q =>
            have := u3 q rfl
            show setEntry (enc a) yu (e :: es) (q.1 - i) = e :: setEntry (enc a) yu es (q.1 - (i + 1))
            rw [show q.1 - i = (q.1 - (i + 1)) + 1 by omega]
            show consS e _ = _
            exact consS_eq e _
        rw [hcons]
        refine ⟨fun e' he' => ?_, fun b => ?_, fun q hq => by have := u3 q hq; omega⟩
        · rcases List.mem_cons.1 he' with rfl | h2
          · exact ⟨a', ha'⟩
          · exact u1 _ h2
        · show (if e.k = enc b then some e.v else look enc _ b) = if b = a then some yu else if e.k = enc b then some e.v else look enc es b
          rw [u2]
          by_cases h3 : e.k = enc b
          · rw [if_pos h3, if_pos h3, if_neg fun h4 => haa (by rw [h4, ha'] at h3; exact (h.inj h3).symm)]
          · rw [if_neg h3, if_neg h3]
/-- a map's block -/
structure Mp (enc : κ → U) (m : M) (b : Nat) (f : κ → Option U) : Prop where
  ex : ∃ es clock, m.g b = some (.map es clock) ∧ Keys enc es ∧ ∀ a, look enc es a = f a
  lt : b < m.nxt
theorem Mp.new {m m0 : M} (h : m0 = m.new (.map [] 0)) : Mp enc m0 m.nxt (fun _ => none) ∧ Ext m m0 := by
  subst h
  exact ⟨⟨⟨[], 0, by rw [M.g_new, if_pos rfl], fun e he => (by cases he), fun _ => rfl⟩, by rw [M.nxt_new]; omega⟩, Ext.new m _⟩
theorem Mp.ext {m m' : M} {b : Nat} {f : κ → Option U} (h : Mp enc m b f) (e : Ext m m') : Mp enc m' b f := by
  obtain ⟨es, clock, h1, h2⟩ := h.ex
  exact ⟨⟨es, clock, (e.g b h.lt).trans h1, h2⟩, Nat.lt_of_lt_of_le h.lt e.nxt⟩
theorem Mp.setNe {m : M} {b c : Nat} {f : κ → Option U} (h : Mp enc m b f) (hc : b ≠ c) (o : AO) : Mp enc (m.set c o) b f := by
  obtain ⟨es, clock, h1, h2⟩ := h.ex
  exact ⟨⟨es, clock, by rw [M.g_set, if_neg hc]; exact h1, h2⟩, h.lt⟩
theorem Mp.lk (hK : KeyLike P kt enc) {m : M} {b : Nat} {f : κ → Option U} (h : Mp enc m b f) (a : κ) {k : V} (hk : k = uV (enc a)) : lkM P kt m (.map b) k = some (f a) := by
  subst hk
  obtain ⟨es, clock, h1, h2, h3⟩ := h.ex
  obtain ⟨ks, hp⟩ := hK.plain
  obtain ⟨r, hr, hl, _⟩ := find_look hK a 0 h2
  unfold lkM
  rw [hp, optB_some, hK.eq, optB_some, ← h3 a, ← hl]
  simp only [h1]
  rw [hr]; rfl
theorem Mp.up (hK : KeyLike P kt enc) {m : M} {b : Nat} {f : κ → Option U} (h : Mp enc m b f) (a : κ) (y : U) {k yv : V} (hk : k = uV (enc a)) (hy : yv = uV y) :
    ∃ o, upM P kt m (.map b) k yv = some (m.set b o) ∧ Mp enc (m.set b o) b (fun b => if b = a then some y else f b) := by
  subst hk hy
  obtain ⟨es, clock, h1, h2, h3⟩ := h.ex
  obtain ⟨ks, hp⟩ := hK.plain
  obtain ⟨r, hr, _, hu⟩ := find_look hK a 0 h2
  obtain ⟨u1, u2, _⟩ := hu y clock
  unfold upM
  rw [hp, optB_some]
  simp only [h1]
  rw [vU_uV, optB_some, vU_uV, optB_some, hK.eq, optB_some, hr, optB_some]
  cases r with
  | none => exact ⟨_, rfl, ⟨_, _, (by rw [M.g_set, if_pos rfl]; rfl), u1, fun b => by rw [u2, h3]⟩, h.lt⟩
  | some q => exact ⟨_, rfl, ⟨_, _, (by rw [M.g_set, if_pos rfl]; rfl), u1, fun b => by have := u2 b; rw [h3] at this; exact this⟩, h.lt⟩
end
end Go.Abs

namespace Go.Proofs.Ytgkjfhkjgdiodaa
open _root_.Go.Proofs.Try
open Go.Abs
set_option maxRecDepth 100000
noncomputable section
def bls (B : List Bool) : List C := B.map C.bool
theorem bls_len (B : List Bool) : (bls B).length = B.length := by simp [bls]
theorem bls_at {B : List Bool} {i : Nat} (h : i < B.length) : (bls B)[i]? = some (.bool B[i]) := by simp [bls, h]
theorem bls_set (B : List Bool) (i : Nat) (v : Bool) : (bls B).set i (.bool v) = bls (B.set i v) := by unfold bls; rw [List.map_set]
theorem six {H : List Bool} (h : H.length = 6) : ∃ a0 a1 a2 a3 a4 a5, H = [a0, a1, a2, a3, a4, a5] := by
  match H, h with
  | [a0, a1, a2, a3, a4, a5], _ => exact ⟨a0, a1, a2, a3, a4, a5, rfl⟩
theorem bls_rc {m : M} {b : Nat} {B : List Bool} (hb : Bk m b 6 (bls B)) {k : Nat} (hk : k < B.length) : ldC m (.ptr b (0 + k * 1)) = some (.bool B[k]) := by
  rw [show 0 + k * 1 = k by omega]
  exact hb.rc (bls_at hk)
def within (B O : List Bool) : Bool := decide (∀ i : Nat, i < 6 → B[i]! = true → O[i]! = true)
theorem s113 {B O : List Bool} {m : M} {Q : V → M → Prop} (hB : B.length = 6) (hO : O.length = 6) (h : ∀ m', Ext m m' → Q (.c (.bool (within B O))) m') :
    Wc prog tbl 113 [.agg 6 (bls B), .agg 6 (bls O)] m Q := by
  obtain ⟨a0, a1, a2, a3, a4, a5, hBe⟩ := six hB
  obtain ⟨o0, o1, o2, o3, o4, o5, hOe⟩ := six hO
  rw [show bls B = bls [a0, a1, a2, a3, a4, a5] by rw [← hBe], show bls O = bls [o0, o1, o2, o3, o4, o5] by rw [← hOe]]
  refine w113 fun m0 e0 m1 e1 R2 hstep => ?_
  obtain ⟨b0', x0⟩ := Bk.new e0
  obtain ⟨b1', x1⟩ := Bk.new e1
  have b0 : Bk m1 m.nxt 6 (bls B) := by rw [hBe]; exact b0'.ext x1
  have b1 : Bk m1 m0.nxt 6 (bls O) := by rw [hOe]; exact b1'
  have x01 := x0.trans x1
  have hgo : ∀ (d i : Nat) (b : Bool), d + i = 6 → (∀ j : Nat, j < i → B[j]! = true → O[j]! = true) → R2 [.c (.bool b), .c (.int .i64 (i : Int))] m1 := by
    intro d
    induction d with
    | zero =>
      intro i b hd hn
      refine hstep _ _ _ ?_
      rw [ifB_dec]
      refine ⟨fun h1 => by omega, fun _ => ?_⟩
      have hq := h m1 x01
      rw [show within B O = true from decide_eq_true fun j hj => hn j (by omega)] at hq
      exact hq
    | succ d ih =>
      intro i b hd hn
      refine hstep _ _ _ ?_
      rw [ifB_dec]
      refine ⟨fun _ => ?_, fun h1 => by omega⟩
      have hi : i < B.length := by omega
      have hi2 : i < O.length := by omega
      have e1 : B[i]! = B[i] := getElem!_pos B i hi
      have e2 : O[i]! = O[i] := getElem!_pos O i hi2
      have hnext : (B[i] = true → O[i] = true) → R2 [.c (.bool b), .c (.int .i64 ((i + 1 : Nat) : Int))] m1 := fun hh => ih (i + 1) b (by omega) fun j hj => by
        by_cases hji : j = i
        · subst hji; rw [e1, e2]; exact hh
        · exact hn j (by omega)
      refine ⟨trivial, i, rfl, by omega, B[i], bls_rc b0 hi, ?_⟩
      rw [ifB_iff]
      refine ⟨fun h2 => ⟨trivial, i, rfl, by omega, O[i], bls_rc b1 hi2, ?_⟩, fun h2 => ⟨fits_small (by omega) (by omega), hnext fun h3 => by rw [h2] at h3; cases h3⟩⟩
      rw [ifB_iff]
      refine ⟨fun h3 => ?_, fun h3 => ⟨fits_small (by omega) (by omega), hnext fun _ => by simpa using h3⟩⟩
      have hq := h m1 x01
      rw [show within B O = false from decide_eq_false fun h4 => by have := h4 i (by omega); rw [e1, e2, h2] at this; rw [this rfl] at h3; cases h3] at hq
      exact hq
  exact hgo 6 0 false (by omega) (by intro j hj; omega)
abbrev Spot := Fin 16 × Fin 16
def encS (a : Spot) : U := .agg 2 [.int .i64 (a.1.val : Int), .int .i64 (a.2.val : Int)]
theorem eqK_int {a b : Int} (ha : fitsP .i64 a) (hb : fitsP .i64 b) : eqK (.int .i64) (.int .i64 a) (.int .i64 b) = some (decide (a = b)) := by
  show ifB (Go.Abs.fits .i64 a) (ifB (Go.Abs.fits .i64 b) (some (intEq a b)) none) none = _
  rw [fits_of ha, fits_of hb, intEq_eq]; rfl
theorem keyS : KeyLike prog 138 encS := by
  have hpl : plainK prog 138 = some [.int .i64, .int .i64] := by kernel_rfl
  have hag : isAggT prog 138 = true := by kernel_rfl
  refine ⟨⟨_, hpl⟩, fun a b => ?_⟩
  unfold eqV
  rw [hpl, optB_some]
  show optB (ifB (isAggT prog 138) (some [.int .i64 (a.1.val : Int), .int .i64 (a.2.val : Int)]) none) none (fun xs => optB (ifB (isAggT prog 138) (some [.int .i64 (b.1.val : Int), .int .i64 (b.2.val : Int)]) none) none fun ys => eqKs [.int .i64, .int .i64] xs ys) = _
  rw [hag]
  have f1 : ∀ n : Fin 16, fitsP .i64 (n.val : Int) := fun n => fits_small (by omega) (by omega)
  show optB (eqK (.int .i64) (.int .i64 (a.1.val : Int)) (.int .i64 (b.1.val : Int))) none (fun b1 => optB (optB (eqK (.int .i64) (.int .i64 (a.2.val : Int)) (.int .i64 (b.2.val : Int))) none fun b2 => optB (some true) none fun r => some (ifB b2 r false)) none fun r => some (ifB b1 r false)) = _
  rw [eqK_int (f1 _) (f1 _), eqK_int (f1 _) (f1 _)]
  show some (ifB (decide ((a.1.val : Int) = b.1.val)) (ifB (decide ((a.2.val : Int) = b.2.val)) true false) false) = _
  congr 1
  refine Eq.trans (b := decide ((a.1.val : Int) = b.1.val ∧ (a.2.val : Int) = b.2.val)) ?_ (decide_eq_decide.2 ⟨fun h => Prod.ext (Fin.ext (by omega)) (Fin.ext (by omega)), fun h => by rw [h]; exact ⟨rfl, rfl⟩⟩)
  rw [Bool.decide_and]
  generalize decide ((a.1.val : Int) = b.1.val) = u
  generalize decide ((a.2.val : Int) = b.2.val) = v
  cases u <;> cases v <;> rfl
end
end Go.Proofs.Ytgkjfhkjgdiodaa

namespace Go.Proofs.Ytgkjfhkjgdiodaa
open _root_.Go.Proofs.Try
open Go.Abs
set_option maxRecDepth 100000
noncomputable section
def bad (N : List Cnt) (p n j : Nat) : Bool := match N[j]? with
  | none => false
  | some c => decide (c.p = (p : Int)) && !c.late && !decide (c.lo ≤ (n : Int) ∧ (n : Int) ≤ c.hi)
def stB (N : List Cnt) (i k p n j : Nat) : Bool := bad N p n j && (decide (j < i) || (decide (j = i) && decide (n < k)))
def stL (N : List Cnt) (i k p n : Nat) : List Bool := (List.range 6).map (stB N i k p n)
def false6 : List Bool := [false, false, false, false, false, false]
def mkOf (o : Option U) : U := o.getD (.agg 6 (bls false6))
def MapSt (L : List Int) (N : List Cnt) (i k : Nat) (f : Spot → Option U) : Prop := ∀ a : Spot, a.1.val < L.length → (a.2.val : Int) ≤ L[a.1.val]! → mkOf (f a) = .agg 6 (bls (stL N i k a.1.val a.2.val))
theorem stL_len (N : List Cnt) (i k p n : Nat) : (stL N i k p n).length = 6 := by simp [stL]
theorem stL_at {N : List Cnt} {i k p n j : Nat} (hj : j < (stL N i k p n).length) : (stL N i k p n)[j] = stB N i k p n j := by simp [stL]
theorem stL_zero {N : List Cnt} (p n : Nat) : stL N 0 0 p n = false6 := by
  have : stB N 0 0 p n = fun _ => false := by funext j; simp [stB]
  unfold stL; rw [this]; rfl
theorem stL_set {N : List Cnt} {i p k : Nat} (hi : i < 6) : (stL N i k p k).set i (bad N p k i) = stL N i (k + 1) p k := by
  apply List.ext_getElem (by rw [List.length_set, stL_len, stL_len])
  intro j h1 h2
  rw [List.getElem_set, stL_at, stL_at]
  by_cases h3 : i = j
  · subst h3
    rw [if_pos rfl]
    unfold stB
    simp
  · rw [if_neg h3]
    unfold stB
    have : ¬ j = i := fun h => h3 h.symm
    simp [this]
theorem stL_other {N : List Cnt} {i p k p' n' : Nat} {q : Cnt} (hc : N[i]? = some q) (hp : q.p = (p : Int)) (hne : ¬ (p' = p ∧ n' = k)) : stL N i k p' n' = stL N i (k + 1) p' n' := by
  unfold stL
  congr 1
  funext j
  unfold stB
  by_cases hj : j = i
  · subst hj
    by_cases hpp : p' = p
    · have : n' ≠ k := fun h => hne ⟨hpp, h⟩
      congr 2
      simp only [decide_true, Bool.true_and]
      exact decide_eq_decide.2 (by omega)
    · have : bad N p' n' j = false := by
        unfold bad; rw [hc]
        show (decide (q.p = (p' : Int)) && !q.late && _) = false
        rw [decide_eq_false (by omega)]; simp
      rw [this]; simp
  · simp [hj]
theorem stL_roll {L : List Int} {N : List Cnt} {i p p' n' : Nat} {q : Cnt} (hc : N[i]? = some q) (hp : q.p = (p : Int)) (hn : p' = p → (n' : Int) ≤ L[p]!) {k : Nat} (hk : (k : Int) = L[p]! + 1) : stL N i k p' n' = stL N (i + 1) 0 p' n' := by
  unfold stL
  congr 1
  funext j
  unfold stB
  by_cases hj : j = i
  · subst hj
    by_cases hpp : p' = p
    · have h1 := hn hpp
      have h2 : n' < k := by omega
      simp [h2]
    · have : bad N p' n' j = false := by
        unfold bad; rw [hc]
        show (decide (q.p = (p' : Int)) && !q.late && _) = false
        rw [decide_eq_false (by omega)]; simp
      rw [this]; simp
  · have : (j < i + 1) ↔ j < i := by omega
    simp [hj, this]
theorem MapSt.step {L : List Int} {N : List Cnt} {i k p : Nat} {f : Spot → Option U} {q : Cnt} (h : MapSt L N i k f) (hc : N[i]? = some q) (hp : q.p = (p : Int)) (hi : i < 6) (s : Spot) (hs1 : s.1.val = p) (hs2 : s.2.val = k) {u : U}
    (hu : u = .agg 6 (bls ((stL N i k p k).set i (bad N p k i)))) : MapSt L N i (k + 1) (fun b => @ite _ (b = s) (Classical.propDecidable _) (some u) (f b)) := by
  intro a h1 h2
  by_cases has : a = s
  · subst has
    show mkOf (@ite _ (a = a) (Classical.propDecidable _) (some u) (f a)) = _
    rw [if_pos rfl, hs1, hs2, ← stL_set hi]
    exact hu
  · show mkOf (@ite _ (a = s) (Classical.propDecidable _) (some u) (f a)) = _
    rw [if_neg has, h a h1 h2, stL_other hc hp fun h3 => has (Prod.ext (Fin.ext (by omega)) (Fin.ext (by omega)))]
theorem MapSt.roll {L : List Int} {N : List Cnt} {i k p : Nat} {f : Spot → Option U} {q : Cnt} (h : MapSt L N i k f) (hc : N[i]? = some q) (hp : q.p = (p : Int)) (hk : (k : Int) = L[p]! + 1) : MapSt L N (i + 1) 0 f := by
  intro a h1 h2
  rw [h a h1 h2, stL_roll hc hp (fun h3 => by rw [← h3]; exact h2) hk]
end
end Go.Proofs.Ytgkjfhkjgdiodaa

namespace Go.Proofs.Ytgkjfhkjgdiodaa
open _root_.Go.Proofs.Try
open Go.Abs
set_option maxRecDepth 100000
noncomputable section
def Tail7 (R25 : List V → M → Prop) (b7 : Nat) (m27 m30 m44 : M) (x26 : Int) : Prop :=
  isPt (C.ptr b7 0) ∧ (∃ c45 : C, (((ldC m44 (C.ptr b7 5)) = (Option.some c45)) ∧ (∃ x46 : Int, (∃ x47 : Int, (((ldA m44 (C.ptr (m27).nxt 0) 2) = (Option.some [(C.int IntKind.i64 x46), (C.int IntKind.i64 x47)])) ∧
   (∃ b48 : Bool, (∃ b49 : Bool, (∃ b50 : Bool, (∃ b51 : Bool, (∃ b52 : Bool, (∃ b53 : Bool, (((ldA m44 (C.ptr (m30).nxt 0) 6) = (Option.some [(C.bool b48), (C.bool b49), (C.bool b50), (C.bool b51), (C.bool b52), (C.bool b53)])) ∧ (∃ m54 : M,
   (((upM prog 138 m44 c45 (V.agg 2 [(C.int IntKind.i64 x46), (C.int IntKind.i64 x47)]) (V.agg 6 [(C.bool b48), (C.bool b49), (C.bool b50), (C.bool b51), (C.bool b52), (C.bool b53)])) = (Option.some m54)) ∧
   (fitsP IntKind.i64 (x26 + (1 : Int)) ∧ (R25 [(V.c (C.int IntKind.i64 (x26 + (1 : Int))))] m54))))))))))))))))
def Rest7 (R25 : List V → M → Prop) (b7 : Nat) (m13 m27 m30 m36 : M) (x12 x26 : Int) : Prop :=
  isPt (C.ptr m13.nxt 0) ∧ ∃ b37 : Bool, ldC m36 (C.ptr m13.nxt 3) = some (C.bool b37) ∧
    ifB (!b37)
      (isPt (C.ptr m13.nxt 0) ∧ ∃ x38 x39 : Int, ldA m36 (C.ptr m13.nxt 1) 2 = some [C.int IntKind.i64 x38, C.int IntKind.i64 x39] ∧
        Wc prog tbl 92 [V.agg 2 [C.int IntKind.i64 x38, C.int IntKind.i64 x39], V.c (C.int IntKind.i64 x26)] m36 fun v40 m41 =>
          ∃ b42 : Bool, v40 = V.c (C.bool b42) ∧ isPt (C.ptr m30.nxt 0) ∧ ∃ n43 : Nat, x12 = (n43 : Int) ∧ n43 < 6 ∧ ∃ m44 : M, stC m41 (C.ptr m30.nxt (0 + n43 * 1)) 1 [C.bool (!b42)] = some m44 ∧ Tail7 R25 b7 m27 m30 m44 x26)
      (isPt (C.ptr m30.nxt 0) ∧ ∃ n55 : Nat, x12 = (n55 : Int) ∧ n55 < 6 ∧ ∃ m56 : M, stC m36 (C.ptr m30.nxt (0 + n55 * 1)) 1 [C.bool false] = some m56 ∧ Tail7 R25 b7 m27 m30 m56 x26)
theorem get6 {m : M} {b : Nat} {P : List Bool} (hb : Bk m b 6 (bls P)) (hP : P.length = 6) (T : List C → Prop) (h : T (bls P)) :
    ∃ x0 x1 x2 x3 x4 x5 : Bool, ldA m (.ptr b 0) 6 = some [.bool x0, .bool x1, .bool x2, .bool x3, .bool x4, .bool x5] ∧ T [.bool x0, .bool x1, .bool x2, .bool x3, .bool x4, .bool x5] := by
  obtain ⟨a0, a1, a2, a3, a4, a5, rfl⟩ := six hP
  exact ⟨a0, a1, a2, a3, a4, a5, hb.ra, h⟩
/-- what the loops of open keep -/
structure Op (m m13 : M) (bm b7 : Nat) (A W Z : List C) (f : Spot → Option U) : Prop where
  ext : Ext m m13
  a : Bk m13 m.nxt 5 A
  w : Bk m13 b7 6 W
  z : Bk m13 (m.nxt + 1) 6 Z
  mp : Mp encS m13 bm f
theorem Op.to {m m13 m' : M} {bm b7 : Nat} {A W Z : List C} {f : Spot → Option U} (h : Op m m13 bm b7 A W Z f) (e : Ext m13 m') : Op m m' bm b7 A W Z f := ⟨h.ext.trans e, h.a.ext e, h.w.ext e, h.z.ext e, h.mp.ext e⟩
/-- a survey that is valid, as far as open asks -/
structure Okay (r c : Int) (L : List Int) (N : List Cnt) : Prop where
  f : isField r c L = true
  n : N.length ≤ 6
  v : ∀ n ∈ N, okCnt (r * c) n = true
theorem s76 {r c sm : Int} {x y : C} {L : List Int} {N : List Cnt} {m : M} {Q : V → M → Prop} (hx : Li m x L) (hy : Lc m y N) (hO : Okay r c L N)
    (h : ∀ m' mb f, Ext m m' → Mp encS m' mb f → MapSt L N N.length 0 f → Q (.agg 6 [.int .i64 r, .int .i64 c, x, .int .i64 sm, y, .map mb]) m') :
    Wc prog tbl 76 [.agg 5 [.int .i64 r, .int .i64 c, x, .int .i64 sm, y]] m Q := by
  obtain ⟨hS, hL, hrc⟩ := field_of hO.f
  have hn6 := hO.n
  refine w76 fun m0 e0 m1 e1 => ?_
  obtain ⟨b0, x0⟩ := Bk.new e0
  obtain ⟨b1, x1⟩ := Bk.new e1
  have n0 : m0.nxt = m.nxt + 1 := by rw [e0]; rfl
  refine ⟨r, c, x, sm, y, (b0.ext x1).ra, fun m7 e7 m8 e8 => ?_⟩
  obtain ⟨p7, x7⟩ := Mp.new (enc := encS) e7
  obtain ⟨b8, x8⟩ := Bk.new e8
  have n1 : m1.nxt = m.nxt + 2 := by rw [e1]; show m0.nxt + 1 = _; omega
  have n7 : m7.nxt = m.nxt + 3 := by rw [e7]; show m1.nxt + 1 = _; omega
  refine ⟨_, b8.st _, trivial, ?_⟩
  have b9 := b8.set [.int .i64 r, .int .i64 c, x, .int .i64 sm, y, .map m1.nxt]
  have x79 : Ext m7 (m8.set m7.nxt (.cells 6 [.int .i64 r, .int .i64 c, x, .int .i64 sm, y, .map m1.nxt] false)) := x8.setR (Nat.le_refl _) _
  generalize m8.set m7.nxt (.cells 6 [.int .i64 r, .int .i64 c, x, .int .i64 sm, y, .map m1.nxt] false) = m9 at b9 x79
  have o9 : Op m m9 m1.nxt m7.nxt [.int .i64 r, .int .i64 c, x, .int .i64 sm, y] [.int .i64 r, .int .i64 c, x, .int .i64 sm, y, .map m1.nxt] [.int .i64 0, .int .i64 0, .sl0, .int .i64 0, .sl0, .map0] (fun _ => none) :=
    ⟨((x0.trans x1).trans x7).trans x79, ((b0.ext x1).ext x7).ext x79, b9, by rw [← n0]; exact (b1.ext x7).ext x79, p7.ext x79⟩
  have hmap0 : MapSt L N 0 0 (fun _ => none) := fun a _ _ => by rw [stL_zero]; rfl
  clear e0 e1 e7 e8 b0 b1 b8 b9 p7 x0 x1 x7 x8 x79
  generalize m1.nxt = bm at n1 o9
  generalize hb7 : m7.nxt = b7 at n7 o9
  refine ⟨y, o9.a.rc rfl, hy.isSl, fun R11 hstep => ?_⟩
  have hgo : ∀ (d i : Nat) (m13 : M) (f : Spot → Option U), d + i = N.length → Op m m13 bm b7 [.int .i64 r, .int .i64 c, x, .int .i64 sm, y] [.int .i64 r, .int .i64 c, x, .int .i64 sm, y, .map bm] [.int .i64 0, .int .i64 0, .sl0, .int .i64 0, .sl0, .map0] f → MapSt L N i 0 f → R11 [.c (.int .i64 (i : Int))] m13 := by
    intro d
    induction d with
    | zero =>
      intro i m13 f hd ho hm
      refine hstep _ _ ?_
      rw [hy.slLen, ifB_dec]
      refine ⟨fun h1 => by omega, fun _ => ?_⟩
      refine ⟨r, c, x, sm, y, .map bm, ho.w.ra, _, by rw [n0]; exact ho.z.st _, r, c, x, sm, y, .map bm, by rw [n0]; exact (ho.z.set _).ra, ?_⟩
      have hi : i = N.length := by omega
      subst hi
      exact h _ bm f (ho.ext.setR (by omega) _) (ho.mp.setNe (by omega) _) hm
    | succ d ih =>
      intro i m13 f hd ho hm
      refine hstep _ _ ?_
      rw [hy.slLen, ifB_dec]
      refine ⟨fun _ => ?_, fun h1 => by omega⟩
      have hi : i < N.length := by omega
      have hc := List.getElem?_eq_getElem hi
      have hok : (0 ≤ N[i].p ∧ N[i].p ≤ r * c - 1) ∧ 0 ≤ N[i].lo ∧ N[i].lo ≤ N[i].hi ∧ N[i].hi ≤ 9 := of_decide_eq_true (hO.v _ (List.getElem_mem hi))
      obtain ⟨p, hp⟩ : ∃ p : Nat, N[i].p = (p : Int) := ⟨N[i].p.toNat, by omega⟩
      have hpL : p < L.length := by omega
      have hLp : L[p]! = L[p] := getElem!_pos L p hpL
      have hLs := small_at hS hpL
      obtain ⟨l, hl⟩ : ∃ l : Nat, L[p] = (l : Int) := ⟨L[p].toNat, by omega⟩
      have hy1 := hy.ext ho.ext
      refine ⟨i, rfl, hi, N[i].p, N[i].lo, N[i].hi, N[i].late, ?_, fun m19 h19 => ?_⟩
      · rw [Ls.rds hy1 (by omega) (cnts_room hi (by omega)), cnts_all hc]; rfl
      obtain ⟨b19, x19⟩ := Bk.new h19
      have k20 := b19.set [.int .i64 N[i].p, .int .i64 N[i].lo, .int .i64 N[i].hi, .bool N[i].late]
      have e20 : Ext m13 (m19.set m13.nxt (.cells 4 [.int .i64 N[i].p, .int .i64 N[i].lo, .int .i64 N[i].hi, .bool N[i].late] false)) := x19.setR (Nat.le_refl _) _
      refine ⟨_, b19.st _, trivial, trivial, x, ?_⟩
      generalize m19.set m13.nxt (.cells 4 [.int .i64 N[i].p, .int .i64 N[i].lo, .int .i64 N[i].hi, .bool N[i].late] false) = m20 at k20 e20
      have o20 := ho.to e20
      refine ⟨o20.a.rc rfl, trivial, N[i].p, k20.rc rfl, p, hp, by rw [hx.slLen]; exact hpL, L[p], Li.rd (hx.ext o20.ext) (List.getElem?_eq_getElem hpL), fits_small (by omega) (by omega), fun R25 hstep2 => ?_⟩
      have hblt : bm < m13.nxt := ho.mp.lt
      have h7lt : b7 < m13.nxt := ho.w.lt
      have hgo2 : ∀ (d2 k : Nat) (m27 : M) (f : Spot → Option U), d2 + k = l + 1 → m13.nxt < m27.nxt → Op m m27 bm b7 [.int .i64 r, .int .i64 c, x, .int .i64 sm, y] [.int .i64 r, .int .i64 c, x, .int .i64 sm, y, .map bm] [.int .i64 0, .int .i64 0, .sl0, .int .i64 0, .sl0, .map0] f →
          Bk m27 m13.nxt 4 [.int .i64 N[i].p, .int .i64 N[i].lo, .int .i64 N[i].hi, .bool N[i].late] → MapSt L N i k f → R25 [.c (.int .i64 (k : Int))] m27 := by
        intro d2
        induction d2 with
        | zero =>
          intro k m27 f hd2 hlt2 ho2 hb2 hm2
          refine hstep2 _ _ ?_
          rw [ifB_dec]
          refine ⟨fun h1 => by omega, fun _ => ⟨fits_small (by omega) (by omega), ih (i + 1) m27 f (by omega) ho2 (hm2.roll hc hp (by rw [hLp]; omega))⟩⟩
        | succ d2 ih2 =>
          intro k m27 f hd2 hlt2 ho2 hb2 hm2
          refine hstep2 _ _ ?_
          rw [ifB_dec]
          refine ⟨fun _ => ?_, fun h1 => by omega⟩
          refine ⟨trivial, N[i].p, hb2.rc rfl, fun m29 h29 => ?_⟩
          obtain ⟨b29, x29⟩ := Bk.new h29
          have n29 : m29.nxt = m27.nxt + 1 := by rw [h29]; rfl
          have k30 := b29.set [.int .i64 N[i].p, .int .i64 (k : Int)]
          have e30 : Ext m27 (m29.set m27.nxt (.cells 2 [.int .i64 N[i].p, .int .i64 (k : Int)] false)) := x29.setR (Nat.le_refl _) _
          have n30 : (m29.set m27.nxt (.cells 2 [.int .i64 N[i].p, .int .i64 (k : Int)] false)).nxt = m27.nxt + 1 := n29
          refine ⟨_, b29.st _, trivial, .map bm, ?_⟩
          generalize m29.set m27.nxt (.cells 2 [.int .i64 N[i].p, .int .i64 (k : Int)] false) = m30 at k30 e30 n30
          have o30 := ho2.to e30
          let s : Spot := (⟨p, by omega⟩, ⟨k, by omega⟩)
          have hks : V.agg 2 [.int .i64 N[i].p, .int .i64 (k : Int)] = uV (encS s) := by rw [hp]; rfl
          refine ⟨o30.w.rc rfl, N[i].p, (k : Int), k30.ra, f s, o30.mp.lk keyS s hks, ?_⟩
          have hfs := hm2 s hpL (by show (k : Int) ≤ L[p]!; omega)
          -- what is done with the marks
          have key : ∀ m36 : M, Ext m30 m36 → Bk m36 m30.nxt 6 (bls (stL N i k p k)) → Rest7 R25 b7 m13 m27 m30 m36 (i : Int) (k : Int) := by
            intro m36 e36 b36
            have o36 := o30.to e36
            have hcb := (hb2.ext e30).ext e36
            have k36 := k30.ext e36
            have tail : ∀ (m44 : M) (v : Bool), Op m m44 bm b7 [.int .i64 r, .int .i64 c, x, .int .i64 sm, y] [.int .i64 r, .int .i64 c, x, .int .i64 sm, y, .map bm] [.int .i64 0, .int .i64 0, .sl0, .int .i64 0, .sl0, .map0] f →
                Bk m44 m13.nxt 4 [.int .i64 N[i].p, .int .i64 N[i].lo, .int .i64 N[i].hi, .bool N[i].late] → Bk m44 m27.nxt 2 [.int .i64 N[i].p, .int .i64 (k : Int)] → Bk m44 m30.nxt 6 (bls ((stL N i k p k).set i v)) → v = bad N p k i → Tail7 R25 b7 m27 m30 m44 (k : Int) := by
              intro m44 v o44 c44 k44 b44 hv
              refine ⟨trivial, .map bm, o44.w.rc rfl, N[i].p, (k : Int), k44.ra, get6 b44 (by rw [List.length_set, stL_len]) (fun l6 => ∃ m54 : M, upM prog 138 m44 (.map bm) (V.agg 2 [.int .i64 N[i].p, .int .i64 (k : Int)]) (V.agg 6 l6) = some m54 ∧ fitsP .i64 ((k : Int) + 1) ∧ R25 [.c (.int .i64 ((k : Int) + 1))] m54) ?_⟩
              obtain ⟨o, hup, hmp⟩ := o44.mp.up keyS s (.agg 6 (bls ((stL N i k p k).set i v))) hks rfl
              have hext : Ext m (m44.set bm o) := o44.ext.setR (by omega) _
              exact ⟨_, hup, fits_small (by omega) (by omega), ih2 (k + 1) _ _ (by omega) (by show m13.nxt < m44.nxt; exact c44.lt) ⟨hext, o44.a.setNe (by omega) _, o44.w.setNe (by omega) _, o44.z.setNe (by omega) _, hmp⟩ (c44.setNe (by omega) _) (hm2.step hc hp (by omega) s rfl rfl (u := .agg 6 (bls ((stL N i k p k).set i v))) (by rw [hv]))⟩
            have hst : ∀ (m41 : M) (v : Bool), Ext m36 m41 → v = bad N p k i → ∃ m44 : M, stC m41 (.ptr m30.nxt (0 + i * 1)) 1 [.bool v] = some m44 ∧ Tail7 R25 b7 m27 m30 m44 (k : Int) := by
              intro m41 v e41 hv
              have b41 := b36.ext e41
              have hat := stC_at b41.g (k := 0 + i * 1) (.bool v) (by rw [bls_len, stL_len]; omega) (by rw [bls_len, stL_len]) (by omega)
              refine ⟨_, hat, ?_⟩
              have ne1 : bm ≠ m30.nxt := by omega
              have ne2 : b7 ≠ m30.nxt := by omega
              have o41 := o36.to e41
              have hmm : m.nxt ≤ m30.nxt := by omega
              refine tail _ v ⟨o41.ext.setR hmm _, o41.a.setNe (by omega) _, o41.w.setNe ne2 _, o41.z.setNe (by omega) _, o41.mp.setNe ne1 _⟩ ((hcb.ext e41).setNe (by omega) _) ((k36.ext e41).setNe (by omega) _) ?_ hv
              rw [bls_set, show 0 + i * 1 = i by omega]
              exact b41.set _
            have hbad : bad N p k i = (!N[i].late && !decide (N[i].lo ≤ (k : Int) ∧ (k : Int) ≤ N[i].hi)) := by
              unfold bad; rw [hc]
              show (decide (N[i].p = (p : Int)) && !N[i].late && _) = _
              rw [decide_eq_true hp, Bool.true_and]
            refine ⟨trivial, N[i].late, hcb.rc rfl, ?_⟩
            cases hlate : N[i].late with
            | false =>
              show _ ∧ _
              refine ⟨trivial, N[i].lo, N[i].hi, hcb.rp rfl (by omega), s92 fun m41 e41 => ⟨_, rfl, trivial, i, rfl, by omega, hst m41 _ e41 ?_⟩⟩
              rw [hbad, hlate]; rfl
            | true =>
              show _ ∧ _
              refine ⟨trivial, i, rfl, by omega, hst m36 _ (.refl _) ?_⟩
              rw [hbad, hlate]; rfl
          refine ⟨fun hnone m35 h35 => ?_, fun u hu => ?_⟩
          · obtain ⟨b35, x35⟩ := Bk.new h35
            have h1 := b35.set (bls false6)
            have h2 : bls (stL N i k p k) = bls false6 := by
              rw [hnone] at hfs
              have : U.agg 6 (bls false6) = U.agg 6 (bls (stL N i k p k)) := hfs
              injection this with _ h3; exact h3.symm
            have hk := key (m35.set m30.nxt (.cells 6 (bls false6) false)) (x35.setR (Nat.le_refl _) _) (by rw [h2]; exact h1)
            exact ⟨_, b35.st _, hk⟩
          · rw [hu] at hfs
            have hue : u = .agg 6 (bls (stL N i k p k)) := hfs
            obtain ⟨a0, a1, a2, a3, a4, a5, hs6⟩ := six (stL_len N i k p k)
            refine ⟨a0, a1, a2, a3, a4, a5, by rw [hue, hs6]; rfl, fun m74 h74 => ?_⟩
            obtain ⟨b74, x74⟩ := Bk.new h74
            have hk := key (m74.set m30.nxt (.cells 6 (bls [a0, a1, a2, a3, a4, a5]) false)) (x74.setR (Nat.le_refl _) _) (by rw [hs6]; exact b74.set _)
            exact ⟨_, b74.st _, hk⟩
      exact hgo2 (l + 1) 0 m20 f (by omega) k20.lt o20 k20 hm
  exact hgo N.length 0 m9 _ (by omega) o9 hmap0
end
end Go.Proofs.Ytgkjfhkjgdiodaa

namespace Go.Proofs.Ytgkjfhkjgdiodaa
open _root_.Go.Proofs.Try
open Go.Abs
set_option maxRecDepth 100000
noncomputable section
def fitsB (c sm : Int) (N : List Cnt) (P : List Int) (O : List Bool) (i : Nat) : Bool := !jumpsB c sm P i && within (stL N N.length 0 i (at' P i).toNat) O
/-- a survey at work -/
structure Wk (m : M) (L : List Int) (N : List Cnt) (mb : Nat) (f : Spot → Option U) : Prop where
  mp : Mp encS m mb f
  st : MapSt L N N.length 0 f
theorem Wk.ext {m m' : M} {L : List Int} {N : List Cnt} {mb : Nat} {f : Spot → Option U} (h : Wk m L N mb f) (e : Ext m m') : Wk m' L N mb f := ⟨h.mp.ext e, h.st⟩
theorem s97 {r c sm : Int} {x y : C} {L P : List Int} {N : List Cnt} {O : List Bool} {mb : Nat} {f : Spot → Option U} {i : Nat} {m : M} {Q : V → M → Prop} (hw : Wk m L N mb f) (hf : isField r c L = true) (hP : P.length = 9) (hS : Small P) (hO : O.length = 6)
    (hi : i < L.length) (hiP : at' P i ≤ L[i]!) (h : ∀ m', Ext m m' → Q (.c (.bool (fitsB c sm N P O i))) m') :
    Wc prog tbl 97 [.agg 6 [.int .i64 r, .int .i64 c, x, .int .i64 sm, y, .map mb], .agg 9 (ints P), .c (.int .i64 (i : Int)), .agg 6 (bls O)] m Q := by
  obtain ⟨_, hL, _⟩ := field_of hf
  have hsd := sides_of hf
  obtain ⟨a0, a1, a2, a3, a4, a5, a6, a7, a8, hPe⟩ := nine hP
  obtain ⟨o0, o1, o2, o3, o4, o5, hOe⟩ := six hO
  rw [show ints P = ints [a0, a1, a2, a3, a4, a5, a6, a7, a8] by rw [← hPe], show bls O = bls [o0, o1, o2, o3, o4, o5] by rw [← hOe]]
  refine w97 fun m0 e0 m1 e1 m2 e2 => ?_
  obtain ⟨b0, x0⟩ := Bk.new e0
  obtain ⟨b1', x1⟩ := Bk.new e1
  obtain ⟨b2', x2⟩ := Bk.new e2
  have b1 : Bk m2 m0.nxt 9 (ints P) := by rw [hPe]; exact b1'.ext x2
  have b2 : Bk m2 m1.nxt 6 (bls O) := by rw [hOe]; exact b2'
  have b0' := (b0.ext x1).ext x2
  have x02 := (x0.trans x1).trans x2
  clear e0 e1 e2 b0 b1' b2' x0 x1 x2
  refine ⟨trivial, r, c, x, sm, y, b0'.rp (k := 0) (j := 5) rfl (by omega), get9 b1 hP (fun l => Wc prog tbl 112 [.agg 5 [.int .i64 r, .int .i64 c, x, .int .i64 sm, y], .agg 9 l, .c (.int .i64 (i : Int))] m2 _) ?_⟩
  refine s112 hP hS hsd.c1 hsd.c4 (by omega) fun m18 e18 => ⟨_, rfl, ?_⟩
  have x18 := x02.trans e18
  cases hj : jumpsB c sm P i with
  | true =>
    have hq := h m18 x18
    rw [show fitsB c sm N P O i = false by unfold fitsB; rw [hj]; rfl] at hq
    exact hq
  | false =>
    show _ ∧ _
    have hsmall := at_small hS (i : Int) (by omega)
    obtain ⟨n, hn⟩ : ∃ n : Nat, at' P (i : Int) = (n : Int) := ⟨(at' P (i : Int)).toNat, by omega⟩
    let s : Spot := (⟨i, by omega⟩, ⟨n, by omega⟩)
    have hks : V.agg 2 [.int .i64 (i : Int), .int .i64 (at' P (i : Int))] = uV (encS s) := by rw [hn]; rfl
    have w18 := hw.ext x18
    have hfs := w18.st s hi (by show (n : Int) ≤ L[i]!; omega)
    have hres : fitsB c sm N P O i = within (stL N N.length 0 i n) O := by unfold fitsB; rw [hj, hn]; rfl
    have hfs' : mkOf (f s) = .agg 6 (bls (stL N N.length 0 i n)) := hfs
    have hw113 : Wc prog tbl 113 [.agg 6 (bls (stL N N.length 0 i n)), .agg 6 (bls O)] m18 (fun v30 m31 => ∃ b32 : Bool, v30 = .c (.bool b32) ∧ Q (.c (.bool b32)) m31) :=
      s113 (stL_len ..) hO fun m31 e31 => ⟨_, rfl, by have hq := h m31 (x18.trans e31); rw [hres] at hq; exact hq⟩
    have b2o := b2.ext e18
    refine ⟨trivial, .map mb, (b0'.ext e18).rc rfl, trivial, i, rfl, by omega, at' P (i : Int), at_rc (b1.ext e18) (by omega), f s, w18.mp.lk keyS s hks, fun hnone => ?_, fun u hu => ?_⟩
    · refine get6 b2o hO (fun l => Wc prog tbl 113 [.agg 6 (bls false6), .agg 6 l] m18 _) ?_
      have h2 : bls (stL N N.length 0 i n) = bls false6 := by
        rw [hnone] at hfs'
        have : U.agg 6 (bls false6) = U.agg 6 (bls (stL N N.length 0 i n)) := hfs'
        injection this with _ h3; exact h3.symm
      rw [h2] at hw113
      exact hw113
    · rw [hu] at hfs'
      have hue : u = .agg 6 (bls (stL N N.length 0 i n)) := hfs'
      obtain ⟨d0, d1, d2, d3, d4, d5, hs6⟩ := six (stL_len N N.length 0 i n)
      refine ⟨d0, d1, d2, d3, d4, d5, by rw [hue, hs6]; rfl, get6 b2o hO (fun l => Wc prog tbl 113 [.agg 6 (bls [d0, d1, d2, d3, d4, d5]), .agg 6 l] m18 _) ?_⟩
      rw [hs6] at hw113
      exact hw113
def truthB (c sm : Int) (L : List Int) (N : List Cnt) (P : List Int) : Bool := decide (∀ i : Nat, i < L.length → fitsB c sm N P false6 i = true)
end
end Go.Proofs.Ytgkjfhkjgdiodaa

namespace Go.Proofs.Ytgkjfhkjgdiodaa
open _root_.Go.Proofs.Try
open Go.Abs
set_option maxRecDepth 100000
noncomputable section
theorem okay_of {r c sm : Int} {L : List Int} {N : List Cnt} (h : svErr r c L sm N = 0) : Okay r c L N ∧ 0 ≤ sm ∧ sm ≤ 9 := by
  unfold svErr at h
  by_cases h1 : N.length ≤ 6
  · rw [if_pos h1] at h
    cases hs : isSv r c L sm N with
    | false => rw [hs] at h; simp at h
    | true =>
      obtain ⟨hf, hsm, hc⟩ := sv_field hs
      exact ⟨⟨hf, h1, hc⟩, hsm⟩
  · rw [if_neg h1] at h; simp at h
theorem shareOf_pad (L H : List Int) : shareOf L (pad H) = shareOf L H := by unfold shareOf; rw [sum_pad]
end
end Go.Proofs.Ytgkjfhkjgdiodaa

namespace Go.Proofs.Ytgkjfhkjgdiodaa
open _root_.Go.Proofs.Try
open Go.Abs
set_option maxRecDepth 100000
noncomputable section
theorem s33 {r c sm : Int} {x y : C} {L : List Int} {N : List Cnt} {m : M} {Q : V → M → Prop} (hx : Li m x L) (hL : L.length ≤ 1048576) (hy : Lc m y N) (hN : N.length ≤ 1000000)
    (h : ∀ x' y' m', Ext m m' → Li m' x' L → Lc m' y' N → Q (.agg 5 [.int .i64 r, .int .i64 c, x', .int .i64 sm, y']) m') : Wc prog tbl 33 [.agg 5 [.int .i64 r, .int .i64 c, x, .int .i64 sm, y]] m Q := by
  refine w33 fun m0 e0 m1 e1 => ?_
  obtain ⟨b0, x0⟩ := Bk.new e0
  obtain ⟨b1, x1⟩ := Bk.new e1
  have b0' := b0.ext x1
  have x01 := x0.trans x1
  have hlt : m.nxt ≤ m0.nxt := Nat.le_of_lt b0.lt
  refine ⟨trivial, r, c, x, b0'.rp (k := 0) (j := 3) rfl (by omega), s22 (hx.ext x01) hL fun x' m6 e6 hx' hfr' => ⟨r, c, x', rfl, trivial, sm, (b0'.ext e6).rc rfl, b0'.rc rfl, trivial, y, (b0'.ext e6).rc rfl, ?_, ?_⟩⟩
  · rw [hy.noFn]; exact b0'.rc rfl
  refine s25 (hy.ext (x01.trans e6)) hN fun y' m13 e13 hy' hfr => ⟨y', rfl, ((b0'.ext e6).ext e13).rc rfl, _, ((b1.ext e6).ext e13).st _, r, c, x', sm, y', (((b1.ext e6).ext e13).set _).ra, ?_⟩
  have x13 := (x01.trans e6).trans e13
  refine h x' y' _ (x13.setR hlt _) ((hx'.ext e13).setNe (fun b o n s d hq => ?_) _) (hy'.setNe (fun b o n s d hq => ?_) _)
  · have := hfr' b o n s d hq
    have := b1.lt
    omega
  · have := hfr b o n s d hq
    have := e6.nxt
    have := b1.lt
    omega
def pairR (c sm : Int) (H : List Int) (a b : Nat) : Prop := (((a : Int) / c = (b : Int) / c ∧ b = a + 1) ∨ (b : Int) = a + c) → -sm ≤ H[a]! - H[b]! ∧ H[a]! - H[b]! ≤ sm
def cntR (H : List Int) (n : Cnt) : Prop := n.late = false → n.lo ≤ H[n.p.toNat]! ∧ H[n.p.toNat]! ≤ n.hi
def TruthR (c sm : Int) (L : List Int) (N : List Cnt) (H : List Int) : Prop := listed L H = true ∧ (∀ a b : Nat, a < b → b < H.length → pairR c sm H a b) ∧ ∀ n ∈ N, cntR H n
open Classical in
def truthR (c sm : Int) (L : List Int) (N : List Cnt) (H : List Int) : Bool := decide (TruthR c sm L N H)
theorem truthR_false {c sm : Int} {L : List Int} {N : List Cnt} {H : List Int} (h : ¬ TruthR c sm L N H) : truthR c sm L N H = false := by unfold truthR; classical exact decide_eq_false h
theorem truthR_true {c sm : Int} {L : List Int} {N : List Cnt} {H : List Int} (h : TruthR c sm L N H) : truthR c sm L N H = true := by unfold truthR; classical exact decide_eq_true h
theorem wrap_small {n : Int} (h0 : 0 ≤ n) (h1 : n ≤ 1000) : wrapZ .u64 n = n := by
  unfold wrapZ
  rw [Go.Abs.fits_of (k := .u64) (n := n) (by simp only [fitsP]; omega)]; rfl
def Cmp38 (Q : V → M → Prop) (R11 : List V → M → Prop) (m m14 : M) (y : C) (len : Nat) (b12 : Bool) (x9 x13 : Int) : Prop :=
  ∃ n18 : Nat, x9 = (n18 : Int) ∧ n18 < len ∧ ∃ x19 : Int, ldC m14 (slAt y (n18 * 1)) = some (C.int IntKind.i64 x19) ∧
    ∃ n20 : Nat, x13 = (n20 : Int) ∧ n20 < len ∧ ∃ x21 : Int, ldC m14 (slAt y (n20 * 1)) = some (C.int IntKind.i64 x21) ∧
      fitsP IntKind.i64 (x19 - x21) ∧ isPt (C.ptr m.nxt 0) ∧ ∃ x22 : Int, ldC m14 (C.ptr m.nxt 3) = some (C.int IntKind.i64 x22) ∧ fitsP IntKind.i64 ((0 : Int) - x22) ∧ isPt (C.ptr m.nxt 0) ∧
        ∃ x23 : Int, ldC m14 (C.ptr m.nxt 3) = some (C.int IntKind.i64 x23) ∧ Wc prog tbl 44 [V.c (C.int IntKind.i64 (x19 - x21)), V.c (C.int IntKind.i64 ((0 : Int) - x22)), V.c (C.int IntKind.i64 x23)] m14 fun v24 m25 =>
          ∃ b26 : Bool, v24 = V.c (C.bool b26) ∧ ifB (!b26) (Q (V.c (C.bool false)) m25) (fitsP IntKind.i64 (x13 + (1 : Int)) ∧ R11 [V.c (C.bool b12), V.c (C.int IntKind.i64 (x13 + (1 : Int)))] m25)
theorem s38 {r c sm : Int} {x y z : C} {L H : List Int} {N : List Cnt} {m : M} {Q : V → M → Prop} (hx : Li m x L) (hz : Lc m z N) (hO : Okay r c L N) (hsm : 0 ≤ sm ∧ sm ≤ 9) (hy : Li m y H) (hH : H.length ≤ 1000)
    (h : ∀ m', Ext m m' → Q (.c (.bool (truthR c sm L N H))) m') : Wc prog tbl 38 [.agg 5 [.int .i64 r, .int .i64 c, x, .int .i64 sm, z], .c y, .c (.int .i64 0)] m Q := by
  obtain ⟨hS, hL, hrc⟩ := field_of hO.f
  have hsd := sides_of hO.f
  have hn6 := hO.n
  refine w38 fun m0 e0 => ?_
  obtain ⟨b0, x0⟩ := Bk.new e0
  refine ⟨trivial, r, c, x, b0.rp (k := 0) (j := 3) rfl (by omega), s39 (hx.ext x0) (by omega) (hy.ext x0) fun m5 e5 => ⟨_, rfl, ?_⟩⟩
  have x5 := x0.trans e5
  have hfalse : ∀ {m'}, Ext m5 m' → ¬ TruthR c sm L N H → Q (.c (.bool false)) m' := fun e hf => by
    have := h _ (x5.trans e); rw [truthR_false hf] at this; exact this
  cases hl : listed L H with
  | false => exact hfalse (.refl _) fun h1 => by rw [h1.1] at hl; cases hl
  | true =>
  show ifB false _ _
  rw [ifB_false]
  have hlen := listed_len hl
  have hSH := small_listed hS hl
  intro R7 hstep
  have b5 := b0.ext e5
  have hy5 := hy.ext x5
  have hz5 := hz.ext x5
  have hgo7 : ∀ (d i : Nat) (b8 : Bool), d + i = H.length → (∀ a b : Nat, a < i → a < b → b < H.length → pairR c sm H a b) → R7 [.c (.bool b8), .c (.int .i64 (i : Int))] m5 := by
    intro d
    induction d with
    | zero =>
      intro i b8 hd hn
      refine hstep _ _ _ ⟨hy.isSl, ?_⟩
      rw [hy.slLen, ifB_dec]
      refine ⟨fun h1 => by omega, fun _ R46 hstep4 => ?_⟩
      have hcts : ∀ (d i : Nat) (b : Bool) (m49 : M), d + i = N.length → (∀ n ∈ N.take i, cntR H n) → Ext m5 m49 → R46 [.c (.bool b), .c (.int .i64 (i : Int))] m49 := by
        intro d
        induction d with
        | zero =>
          intro k b m49 hd2 hk he
          have b49 := b5.ext he
          refine hstep4 _ _ _ ⟨trivial, z, b49.rc rfl, hz.isSl, ?_⟩
          rw [hz.slLen, ifB_dec]
          refine ⟨fun h1 => by omega, fun _ => ?_⟩
          have hq := h m49 (x5.trans he)
          rw [truthR_true ⟨hl, fun a b hab hb => hn a b (by omega) hab hb, fun n hn' => hk n (by rw [List.take_of_length_le (by omega)]; exact hn')⟩] at hq
          exact hq
        | succ d ih2 =>
          intro k b m49 hd2 hk he
          have b49 := b5.ext he
          refine hstep4 _ _ _ ⟨trivial, z, b49.rc rfl, hz.isSl, ?_⟩
          rw [hz.slLen, ifB_dec]
          refine ⟨fun _ => ?_, fun h1 => by omega⟩
          have hk6 : k < N.length := by omega
          have hc := List.getElem?_eq_getElem hk6
          have hok : (0 ≤ N[k].p ∧ N[k].p ≤ r * c - 1) ∧ 0 ≤ N[k].lo ∧ N[k].lo ≤ N[k].hi ∧ N[k].hi ≤ 9 := of_decide_eq_true (hO.v _ (List.getElem_mem hk6))
          obtain ⟨p, hp⟩ : ∃ p : Nat, N[k].p = (p : Int) := ⟨N[k].p.toNat, by omega⟩
          have hpH : p < H.length := by omega
          refine ⟨trivial, z, b49.rc rfl, k, rfl, by rw [hz.slLen]; exact hk6, N[k].p, N[k].lo, N[k].hi, N[k].late, ?_, fun m57 h57 => ?_⟩
          · rw [Ls.rds (hz5.ext he) (by omega) (cnts_room hk6 (by omega)), cnts_all hc]; rfl
          obtain ⟨b57, x57⟩ := Bk.new h57
          have k58 := b57.set [.int .i64 N[k].p, .int .i64 N[k].lo, .int .i64 N[k].hi, .bool N[k].late]
          have e58 : Ext m49 (m57.set m49.nxt (.cells 4 [.int .i64 N[k].p, .int .i64 N[k].lo, .int .i64 N[k].hi, .bool N[k].late] false)) := x57.setR (Nat.le_refl _) _
          refine ⟨_, b57.st _, trivial, N[k].late, k58.rc rfl, ?_⟩
          generalize m57.set m49.nxt (.cells 4 [.int .i64 N[k].p, .int .i64 N[k].lo, .int .i64 N[k].hi, .bool N[k].late] false) = m58 at k58 e58
          have he58 := he.trans e58
          have hnext : cntR H N[k] → fitsP .i64 ((k : Int) + 1) ∧ R46 [.c (.bool b), .c (.int .i64 ((k + 1 : Nat) : Int))] m58 := fun hck => ⟨fits_small (by omega) (by omega), ih2 (k + 1) b m58 (by omega) (fun v hv => by
            rw [List.take_add_one, hc] at hv
            rcases List.mem_append.1 hv with h6 | h6
            · exact hk v h6
            · have : v = N[k] := by simpa using h6
              rw [this]; exact hck) he58⟩
          rw [ifB_iff]
          refine ⟨fun hlate => ?_, fun hlate => hnext fun h1 => by rw [h1] at hlate; cases hlate⟩
          have hlate' : N[k].late = false := by simpa using hlate
          rw [wrap_small (by omega) (by omega)]
          have hz0 : (0 : Int) / 2 ^ (k : Int).toNat = 0 := Int.zero_ediv _
          rw [hz0]
          refine ⟨by omega, by omega, by omega, fits_small (by omega) (by omega), by omega, by omega, fits_small (by omega) (by omega), ?_⟩
          show ifB (decide ((0 : Int) % 2 = 0)) _ _
          rw [ifB_dec]
          refine ⟨fun _ => ?_, fun h1 => absurd rfl h1⟩
          have hHp : H[N[k].p.toNat]! = H[p] := by rw [hp]; exact getElem!_pos H p hpH
          refine ⟨trivial, N[k].p, k58.rc rfl, p, hp, hpH, H[p], Li.rd (hy5.ext he58) (List.getElem?_eq_getElem hpH), trivial, trivial, N[k].lo, k58.rc rfl, trivial, trivial, N[k].hi, k58.rc rfl, s44 ⟨_, rfl, ?_⟩⟩
          rw [ifB_ndec]
          have hck : TruthR c sm L N H → N[k].lo ≤ H[p] ∧ H[p] ≤ N[k].hi := fun hT => by
            have := hT.2.2 _ (List.getElem_mem hk6) hlate'
            rw [hHp] at this
            exact this
          exact ⟨fun h1 => hfalse he58 fun hT => h1 (hck hT), fun h1 => hnext fun _ => by rw [hHp]; exact h1⟩
      exact hcts N.length 0 b8 m5 (by omega) (by simp) (.refl _)
    | succ d ih =>
      intro i b8 hd hn
      refine hstep _ _ _ ⟨hy.isSl, ?_⟩
      rw [hy.slLen, ifB_dec]
      refine ⟨fun _ => ⟨fits_small (by omega) (by omega), fun R11 hstep2 => ?_⟩, fun h1 => (h1 (by omega)).elim⟩
      have hi : i < H.length := by omega
      have hgo11 : ∀ (d2 j : Nat), d2 + j = H.length → i < j → (∀ b : Nat, i < b → b < j → pairR c sm H i b) → R11 [.c (.bool b8), .c (.int .i64 (j : Int))] m5 := by
        intro d2
        induction d2 with
        | zero =>
          intro j hd2 hij hn2
          refine hstep2 _ _ _ ⟨hy.isSl, ?_⟩
          rw [ifB_dec]
          refine ⟨fun h1 => by omega, fun _ => ⟨fits_small (by omega) (by omega), ih (i + 1) b8 (by omega) fun a b ha hab hb => ?_⟩⟩
          by_cases hai : a = i
          · subst hai; exact hn2 b hab (by omega)
          · exact hn a b (by omega) hab hb
        | succ d2 ih2 =>
          intro j hd2 hij hn2
          have hj : j < H.length := by omega
          have hdi := Int.ediv_nonneg (a := (i : Int)) (b := c) (by omega) (by have := hsd.c1; omega)
          have hdi2 := Int.ediv_le_self c (a := (i : Int)) (by omega)
          have hdj := Int.ediv_nonneg (a := (j : Int)) (b := c) (by omega) (by have := hsd.c1; omega)
          have hdj2 := Int.ediv_le_self c (a := (j : Int)) (by omega)
          have hc1 := hsd.c1
          have hc4 := hsd.c4
          have hi' := small_at hSH hi
          have hj' := small_at hSH hj
          have eI : H[i]! = H[i] := getElem!_pos H i hi
          have eJ : H[j]! = H[j] := getElem!_pos H j hj
          have next : pairR c sm H i j → fitsP .i64 ((j : Int) + 1) ∧ R11 [.c (.bool b8), .c (.int .i64 ((j + 1 : Nat) : Int))] m5 := fun hp => ⟨fits_small (by omega) (by omega), ih2 (j + 1) (by omega) (by omega) fun b hb1 hb2 => by
            by_cases hbj : b = j
            · subst hbj; exact hp
            · exact hn2 b hb1 (by omega)⟩
          have cmp : ((((i : Int) / c = (j : Int) / c ∧ j = i + 1) ∨ (j : Int) = i + c)) → Cmp38 Q R11 m m5 y H.length b8 (i : Int) (j : Int) := fun hcond => by
            refine ⟨i, rfl, hi, H[i], Li.rd hy5 (List.getElem?_eq_getElem hi), j, rfl, hj, H[j], Li.rd hy5 (List.getElem?_eq_getElem hj), fits_small (by omega) (by omega), trivial, sm, b5.rc rfl, fits_small (by omega) (by omega), trivial, sm, b5.rc rfl, s44 ⟨_, rfl, ?_⟩⟩
            rw [ifB_ndec]
            have hck : TruthR c sm L N H → 0 - sm ≤ H[i] - H[j] ∧ H[i] - H[j] ≤ sm := fun hT => by
              have := hT.2.1 i j hij hj hcond
              rw [eI, eJ] at this
              omega
            exact ⟨fun h1 => hfalse (.refl _) fun hT => h1 (hck hT), fun h1 => next fun _ => by rw [eI, eJ]; omega⟩
          refine hstep2 _ _ _ ⟨hy.isSl, ?_⟩
          rw [ifB_dec]
          refine ⟨fun _ => ?_, fun h1 => by omega⟩
          refine ⟨trivial, trivial, c, b5.rc rfl, by omega, by omega, fits_small (by omega) (by omega), trivial, trivial, c, b5.rc rfl, by omega, by omega, fits_small (by omega) (by omega), ?_⟩
          rw [ifB_dec]
          refine ⟨fun h1 => ⟨fits_small (by omega) (by omega), trivial, trivial, c, b5.rc rfl, fits_small (by omega) (by omega), ?_⟩, fun h1 => ⟨trivial, trivial, c, b5.rc rfl, fits_small (by omega) (by omega), ?_⟩⟩
          · rw [ifB_dec]
            refine ⟨fun h2 => cmp (.inl ⟨h1, by omega⟩), fun h2 => ?_⟩
            rw [ifB_dec]
            exact ⟨fun h3 => cmp (.inr h3), fun h3 => next fun h4 => h4.elim (fun h5 => absurd (by omega : (j : Int) = (i : Int) + 1) h2) fun h5 => absurd h5 h3⟩
          · rw [ifB_dec]
            exact ⟨fun h3 => cmp (.inr h3), fun h3 => next fun h4 => h4.elim (fun h5 => absurd h5.1 h1) fun h5 => absurd h5 h3⟩
      exact hgo11 (H.length - (i + 1)) (i + 1) (by omega) (by omega) fun b hb1 hb2 => by omega
  exact hgo7 H.length 0 false (by omega) fun a b ha => by omega
end
end Go.Proofs.Ytgkjfhkjgdiodaa

namespace Go.Proofs.Ytgkjfhkjgdiodaa
open _root_.Go.Proofs.Try
open Go.Abs
set_option maxRecDepth 100000
noncomputable section
theorem at_pad {H : List Int} (h9 : H.length ≤ 9) {k : Nat} (hk : k < H.length) : at' (pad H) (k : Int) = H[k]! := by
  show (pad H)[k]! = H[k]!
  rw [List.getElem!_eq_getElem?_getD, pad_at hk h9, getElem!_pos H k hk]; rfl
theorem within_false {B : List Bool} (h : B.length = 6) : within B false6 = true ↔ ∀ j : Nat, j < 6 → B[j]! = false := by
  unfold within
  rw [decide_eq_true_eq]
  have hf : ∀ j : Nat, j < 6 → false6[j]! = false := fun j hj => by
    rcases (by omega : j = 0 ∨ j = 1 ∨ j = 2 ∨ j = 3 ∨ j = 4 ∨ j = 5) with rfl | rfl | rfl | rfl | rfl | rfl <;> rfl
  constructor
  · intro h1 j hj
    have := h1 j hj
    rw [hf j hj] at this
    simpa using this
  · intro h1 j hj h2
    rw [h1 j hj] at h2; cases h2
theorem stL_get {N : List Cnt} {i k p n j : Nat} (hj : j < 6) : (stL N i k p n)[j]! = stB N i k p n j := by
  rw [getElem!_pos (stL N i k p n) j (by rw [stL_len]; exact hj), stL_at]
theorem truth_eq {r c sm : Int} {L H : List Int} {N : List Cnt} (hO : Okay r c L N) (hsm : 0 ≤ sm) (hl : listed L H = true) : truthB c sm L N (pad H) = truthR c sm L N H := by
  obtain ⟨hS, hL, hrc⟩ := field_of hO.f
  have hsd := sides_of hO.f
  have hc1 := hsd.c1
  have hc4 := hsd.c4
  have hlen := listed_len hl
  have hSH := small_listed hS hl
  have hn6 := hO.n
  have key : (∀ i : Nat, i < L.length → fitsB c sm N (pad H) false6 i = true) ↔ TruthR c sm L N H := by
    constructor
    · intro h
      refine ⟨hl, fun a b hab hb hp => ?_, fun n hn hlate => ?_⟩
      · have h1 := h b (by omega)
        unfold fitsB at h1
        rw [Bool.and_eq_true] at h1
        have h2 : ¬ _ := of_decide_eq_false (by simpa using h1.1 : jumpsB c sm (pad H) b = false)
        rcases hp with ⟨hrow, hnext⟩ | hcol
        · have hmod : 0 < (b : Int) % c := by
            rcases (by omega : c = 1 ∨ c = 2 ∨ c = 3 ∨ c = 4) with rfl | rfl | rfl | rfl <;> omega
          have h3 : ¬ sm < dif (at' (pad H) b) (at' (pad H) ((b : Int) - 1)) := fun h4 => h2 (.inl ⟨hmod, h4⟩)
          rw [show (b : Int) - 1 = (a : Int) by omega, at_pad (by omega) hb, at_pad (by omega) (by omega : a < H.length)] at h3
          unfold dif at h3
          omega
        · have h3 : ¬ sm < dif (at' (pad H) b) (at' (pad H) ((b : Int) - c)) := fun h4 => h2 (.inr ⟨by omega, h4⟩)
          rw [show (b : Int) - c = (a : Int) by omega, at_pad (by omega) hb, at_pad (by omega) (by omega : a < H.length)] at h3
          unfold dif at h3
          omega
      · obtain ⟨j, hj, rfl⟩ := List.getElem_of_mem hn
        have hok : (0 ≤ N[j].p ∧ N[j].p ≤ r * c - 1) ∧ 0 ≤ N[j].lo ∧ N[j].lo ≤ N[j].hi ∧ N[j].hi ≤ 9 := of_decide_eq_true (hO.v _ hn)
        obtain ⟨p, hp⟩ : ∃ p : Nat, N[j].p = (p : Int) := ⟨N[j].p.toNat, by omega⟩
        have hpL : p < L.length := by omega
        have h1 := h p hpL
        unfold fitsB at h1
        rw [Bool.and_eq_true] at h1
        have h2 := (within_false (stL_len ..)).1 h1.2 j (by omega)
        rw [stL_get (by omega), at_pad (by omega) (by omega : p < H.length)] at h2
        have hsmall := small_at hSH (by omega : p < H.length)
        have hHp : H[p]! = H[p] := getElem!_pos H p (by omega)
        have h3 : bad N p (H[p]!).toNat j = false := by
          unfold stB at h2
          simpa [hj] using h2
        unfold bad at h3
        rw [List.getElem?_eq_getElem hj] at h3
        have h4 : (decide (N[j].p = (p : Int)) && !N[j].late && !decide (N[j].lo ≤ ((H[p]!).toNat : Int) ∧ ((H[p]!).toNat : Int) ≤ N[j].hi)) = false := h3
        rw [decide_eq_true hp, hlate] at h4
        have h5 : N[j].lo ≤ ((H[p]!).toNat : Int) ∧ ((H[p]!).toNat : Int) ≤ N[j].hi := by simpa using h4
        have h6 : ((H[p]!).toNat : Int) = H[p]! := by rw [hHp]; omega
        rw [h6] at h5
        rw [hp]; exact h5
    · intro hT i hi
      have hiH : i < H.length := by omega
      unfold fitsB
      rw [Bool.and_eq_true]
      constructor
      · have : jumpsB c sm (pad H) i = false := by
          refine decide_eq_false fun h1 => ?_
          rcases h1 with ⟨hmod, h4⟩ | ⟨hge, h4⟩
          · have hi1 : 1 ≤ i := by
              rcases Nat.eq_zero_or_pos i with rfl | h1
              · simp at hmod
              · exact h1
            have hrow : ((i - 1 : Nat) : Int) / c = (i : Int) / c := by
              rcases (by omega : c = 1 ∨ c = 2 ∨ c = 3 ∨ c = 4) with rfl | rfl | rfl | rfl <;> omega
            have h5 := hT.2.1 (i - 1) i (by omega) hiH (.inl ⟨hrow, by omega⟩)
            rw [show (i : Int) - 1 = ((i - 1 : Nat) : Int) by omega, at_pad (by omega) hiH, at_pad (by omega) (by omega : i - 1 < H.length)] at h4
            unfold dif at h4
            omega
          · obtain ⟨a, ha⟩ : ∃ a : Nat, (i : Int) - c = (a : Int) := ⟨((i : Int) - c).toNat, by omega⟩
            have h5 := hT.2.1 a i (by omega) hiH (.inr (by omega))
            rw [ha, at_pad (by omega) hiH, at_pad (by omega) (by omega : a < H.length)] at h4
            unfold dif at h4
            omega
        rw [this]; rfl
      · refine (within_false (stL_len ..)).2 fun j hj => ?_
        rw [stL_get hj, at_pad (by omega) hiH]
        have hsmall := small_at hSH hiH
        have hHi : H[i]! = H[i] := getElem!_pos H i hiH
        have h6 : ((H[i]!).toNat : Int) = H[i]! := by rw [hHi]; omega
        unfold stB
        have : bad N i (H[i]!).toNat j = false := by
          unfold bad
          cases hc : N[j]? with
          | none => rfl
          | some q =>
            show (decide (q.p = (i : Int)) && !q.late && !decide (q.lo ≤ ((H[i]!).toNat : Int) ∧ ((H[i]!).toNat : Int) ≤ q.hi)) = false
            by_cases hqp : q.p = (i : Int)
            · cases hlate : q.late with
              | true => simp
              | false =>
                have h7 := hT.2.2 q (List.mem_of_getElem? hc) hlate
                rw [hqp] at h7
                have h8 : q.lo ≤ ((H[i]!).toNat : Int) ∧ ((H[i]!).toNat : Int) ≤ q.hi := by rw [h6]; exact h7
                rw [decide_eq_true h8]; simp
            · rw [decide_eq_false hqp]; rfl
        rw [this]; rfl
  by_cases hT : TruthR c sm L N H
  · rw [truthR_true hT]; exact decide_eq_true (key.2 hT)
  · rw [truthR_false hT]; exact decide_eq_false fun h => hT (key.1 h)
end
end Go.Proofs.Ytgkjfhkjgdiodaa

namespace Go.Proofs.Ytgkjfhkjgdiodaa
open _root_.Go.Proofs.Try
open Go.Abs
set_option maxRecDepth 100000
noncomputable section
theorem w120 (y : C) (b b2 : Nat) {m : M} {Q : V → M → Prop} (h :
 (∀ m0 : M, ((m0 = (M.new m (AO.cells 1 [y] false))) → (∀ m1 : M, ((m1 = (M.new m0 (AO.cells 9 [(C.int .i64 (0 : Int)), 
 (C.int .i64 (0 : Int)), (C.int .i64 (0 : Int)), (C.int .i64 (0 : Int)), (C.int .i64 (0 : Int)), 
 (C.int .i64 (0 : Int)), (C.int .i64 (0 : Int)), (C.int .i64 (0 : Int)), (C.int .i64 (0 : Int))] false))) → 
 (∀ m2 : M, ((m2 = (M.new m1 (AO.cells 1 [C.nilFn] false))) → (∃ m3 : M, (((stC m2 (C.ptr m1.nxt 0) 1 [(C.fn (Fn.func 121) [] [(W.c (C0.ptr b 0)), 
 (W.c (C0.ptr m.nxt 0)), (W.c (C0.ptr m0.nxt 0)), (W.c (C0.ptr b2 0)), (W.c (C0.ptr m1.nxt 0))])]) = (some m3)) ∧ 
 (∃ c4 : C, (((ldC m3 (C.ptr m1.nxt 0)) = (some c4)) ∧ (callP prog tbl [(V.c (C.int .i64 (0 : Int)))] c4 m3 (fun v5 m6 => 
 (∃ b7 : Bool, ((v5 = (V.c (C.bool b7))) ∧ (Q (V.tup []) m6)))))))))))))))) : Wc prog tbl 120 [.c y, .c (.ptr b 0), .c (.ptr b2 0)] m Q :=
 wc_eq (n := 3) rfl (by kernel_rfl) (by kernel_rfl) h
theorem w121 (p : Int) (b k h2 b2 cv : Nat) {m : M} {Q : V → M → Prop} (h :
 (isPt (C.ptr b 0) ∧ (isPt (C.ptr b 0) ∧ (∃ x0 : Int, (∃ x1 : Int, (∃ c2 : C, (((ldA m (C.ptr b 0) 3) = (some [(C.int .i64 x0), 
 (C.int .i64 x1), c2])) ∧ (Wc prog tbl 88 [(V.agg 3 [(C.int .i64 x0), (C.int .i64 x1), 
 c2])] m (fun v3 m4 => (∃ x5 : Int, ((v3 = (V.c (C.int .i64 x5))) ∧ (ifB (decide (p = x5)) (∃ c6 : C, 
 (((ldC m4 (C.ptr k 0)) = (some c6)) ∧ (∃ x7 : Int, (∃ x8 : Int, (∃ x9 : Int, (∃ x10 : Int, 
 (∃ x11 : Int, (∃ x12 : Int, (∃ x13 : Int, (∃ x14 : Int, (∃ x15 : Int, (((ldA m4 (C.ptr h2 0) 9) = (some [(C.int .i64 x7), 
 (C.int .i64 x8), (C.int .i64 x9), (C.int .i64 x10), (C.int .i64 x11), 
 (C.int .i64 x12), (C.int .i64 x13), (C.int .i64 x14), (C.int .i64 x15)])) ∧ 
 (callP prog tbl [(V.agg 9 [(C.int .i64 x7), (C.int .i64 x8), (C.int .i64 x9), 
 (C.int .i64 x10), (C.int .i64 x11), (C.int .i64 x12), (C.int .i64 x13), 
 (C.int .i64 x14), (C.int .i64 x15)])] c6 m4 (fun v16 m17 => (∃ b18 : Bool, 
 ((v16 = (V.c (C.bool b18))) ∧ (Q (V.c (C.bool b18)) m17))))))))))))))))) (isPt (C.ptr b 0) ∧ 
 (isPt (C.ptr b 0) ∧ (isPt (C.ptr b 0) ∧ (∃ c19 : C, (((ldC m4 (C.ptr b 2)) = (some c19)) ∧ 
 (∃ n20 : Nat, ((p = ((n20 : Nat) : Int)) ∧ ((n20 < (slLen c19)) ∧ (∃ x21 : Int, (((ldC m4 (slAt c19 (n20 * 1))) = (some (C.int .i64 x21))) ∧ 
 (fitsP .i64 (x21 + (1 : Int)) ∧ (∀ R22 : List V → M → Prop, ((∀ b23 : Bool, (∀ x24 : Int, 
 (∀ m25 : M, ((ifB (decide (x24 < (x21 + (1 : Int)))) (isPt (C.ptr h2 0) ∧ (∃ n26 : Nat, 
 ((p = ((n26 : Nat) : Int)) ∧ ((n26 < 9) ∧ (∃ m27 : M, (((stC m25 (C.ptr h2 (0 + (n26 * 1))) 1 [(C.int .i64 x24)]) = (some m27)) ∧ 
 (∃ x28 : Int, (∃ x29 : Int, (∃ c30 : C, (∃ x31 : Int, (∃ c32 : C, (∃ c33 : C, 
 (((ldA m27 (C.ptr b 0) 6) = (some [(C.int .i64 x28), (C.int .i64 x29), 
 c30, (C.int .i64 x31), c32, c33])) ∧ (∃ x34 : Int, (∃ x35 : Int, (∃ x36 : Int, 
 (∃ x37 : Int, (∃ x38 : Int, (∃ x39 : Int, (∃ x40 : Int, (∃ x41 : Int, (∃ x42 : Int, 
 (((ldA m27 (C.ptr h2 0) 9) = (some [(C.int .i64 x34), (C.int .i64 x35), 
 (C.int .i64 x36), (C.int .i64 x37), (C.int .i64 x38), (C.int .i64 x39), 
 (C.int .i64 x40), (C.int .i64 x41), (C.int .i64 x42)])) ∧ 
 (∃ b43 : Bool, (∃ b44 : Bool, (∃ b45 : Bool, (∃ b46 : Bool, (∃ b47 : Bool, (∃ b48 : Bool, 
 (((ldA m27 (C.ptr b2 0) 6) = (some [(C.bool b43), (C.bool b44), (C.bool b45), 
 (C.bool b46), (C.bool b47), (C.bool b48)])) ∧ (Wc prog tbl 97 [(V.agg 6 [(C.int .i64 x28), 
 (C.int .i64 x29), c30, (C.int .i64 x31), c32, c33]), (V.agg 9 [(C.int .i64 x34), 
 (C.int .i64 x35), (C.int .i64 x36), (C.int .i64 x37), (C.int .i64 x38), 
 (C.int .i64 x39), (C.int .i64 x40), (C.int .i64 x41), (C.int .i64 x42)]), 
 (V.c (C.int .i64 p)), (V.agg 6 [(C.bool b43), (C.bool b44), (C.bool b45), 
 (C.bool b46), (C.bool b47), (C.bool b48)])] m27 (fun v49 m50 => (∃ b51 : Bool, 
 ((v49 = (V.c (C.bool b51))) ∧ (ifB b51 (∃ c52 : C, (((ldC m50 (C.ptr cv 0)) = (some c52)) ∧ 
 (fitsP .i64 (p + (1 : Int)) ∧ (callP prog tbl [(V.c (C.int .i64 (p + (1 : Int))))] c52 m50 (fun v53 m54 => 
 (∃ b55 : Bool, ((v53 = (V.c (C.bool b55))) ∧ (ifB (!b55) (Q (V.c (C.bool false)) m54) (fitsP .i64 (x24 + (1 : Int)) ∧ 
 (R22 [(V.c (C.bool b23)), (V.c (C.int .i64 (x24 + (1 : Int))))] m54)))))))))) (fitsP .i64 (x24 + (1 : Int)) ∧ 
 (R22 [(V.c (C.bool b23)), (V.c (C.int .i64 (x24 + (1 : Int))))] m50))))))))))))))))))))))))))))))))))))) (Q (V.c (C.bool true)) m25)) → 
 (R22 [(V.c (C.bool b23)), (V.c (C.int .i64 x24))] m25))))) → (R22 [(V.c (C.bool false)), 
 (V.c (C.int .i64 (0 : Int)))] m4)))))))))))))))))))))))))) : Wc prog tbl 121 [.c (.int .i64 p), .c (.ptr b 0), .c (.ptr k 0), .c (.ptr h2 0), .c (.ptr b2 0), .c (.ptr cv 0)] m Q :=
 wc_eq (n := 6) rfl (by kernel_rfl) (by kernel_rfl) h
end
end Go.Proofs.Ytgkjfhkjgdiodaa

namespace Go.Abs
noncomputable section
variable {P : Program} {T : List (Nat × Bool)}
/-- all is kept but S and what is new -/
structure Chg (S : Nat → Prop) (m m' : M) : Prop where
  nxt : m.nxt ≤ m'.nxt
  g : ∀ b, b < m.nxt → ¬ S b → m'.g b = m.g b
  vw : m'.vw = m.vw
/-- blocks that are owned: those of before, and new ones -/
def Own (S : Nat → Prop) (m : M) (S' : Nat → Prop) : Prop := ∀ b, S' b → S b ∨ m.nxt ≤ b
/-- what is said of memory speaks of blocks of S alone -/
structure Local (n0 : Nat) (I : (Nat → Prop) → M → Prop) : Prop where
  st : ∀ S m m', I S m → m.nxt ≤ m'.nxt → m'.vw = m.vw → (∀ b, S b → m'.g b = m.g b) → (∀ b, b < n0 → m'.g b = m.g b) → I S m'
  lt : ∀ S m, I S m → ∀ b, S b → b < m.nxt
/-- calls of the body of the loop l: I i: i values have been handed out; E: no more are wanted -/
structure Client (P : Program) (T : List (Nat × Bool)) (n0 l : Nat) (xs : List (List V)) (I : Nat → (Nat → Prop) → M → Prop) (E : (Nat → Prop) → M → Prop) : Prop where
  li : ∀ i, Local n0 (I i)
  le : Local n0 E
  yield : ∀ i x S m, xs[i]? = some x → I i S m → ∀ Q : V → M → Prop, (∀ S' m', Own S m S' → Chg S m m' → I (i + 1) S' m' → Q (.c (.bool true)) m') → (∀ S' m', Own S m S' → Chg S m m' → E S' m' → Q (.c (.bool false)) m') → Wy P T l x m Q
/-- the function value hands out xs; it reads blocks of D, of which R holds -/
structure Iter (P : Program) (T : List (Nat × Bool)) (x : C) (xs : List (List V)) (D : Nat → Prop) (R : M → Prop) : Prop where
  st : ∀ m m', R m → m.nxt ≤ m'.nxt → m'.vw = m.vw → (∀ b, D b → m'.g b = m.g b) → R m'
  lt : ∀ m, R m → ∀ b, D b → b < m.nxt
  run : ∀ n0 l I E, Client P T n0 l xs I E → ∀ S m, n0 ≤ m.nxt → I 0 S m → R m → (∀ b, S b → ¬ D b) → ∀ Q : V → M → Prop, (∀ v S' m', Own S m S' → Chg S m m' → I xs.length S' m' ∨ E S' m' → Q v m') → callP P T [.c (.fn (.yield l) [] [])] x m Q
/-- A LOOP OVER WHAT IS HANDED OUT: J i: i rounds have been gone; X: the body has been left -/
theorem range_iter {g : FuncId} {a b : List W} {xs : List (List V)} {D : Nat → Prop} {R : M → Prop} (hi : Iter P T (.fn (.func g) a b) xs D R) {m : M} (hR : R m) {round : Round} {after : After}
    (J : Nat → (Nat → Prop) → M → Prop) (X : Ex → (Nat → Prop) → M → Prop) (hJ : ∀ i, Local m.nxt (J i)) (hX : ∀ ex, Local m.nxt (X ex)) {S0 : Nat → Prop} (h0 : J 0 S0 m) (hS0 : ∀ b, S0 b → ¬ D b)
    (hround : ∀ i x S m1 (B : M → Prop) (enter : M → (M → Prop) → Prop) (K : Ex → M → Prop), xs[i]? = some x → J i S m1 → m.nxt < m1.nxt → ¬ S m.nxt → Own S0 m S →
      (∀ m2 k, m2.g m.nxt = m1.g m.nxt → (∀ m3, m3.nxt = m2.nxt → m3.vw = m2.vw → (∀ b, b ≠ m.nxt → m3.g b = m2.g b) → (∀ m4 : M, m4.g m.nxt = m3.g m.nxt → B m4) → k m3) → enter m2 k) →
      (∀ ex S' m4, B m4 → m1.nxt ≤ m4.nxt → m4.vw = m1.vw → (∀ b, b < m1.nxt → ¬ S b → b ≠ m.nxt → m4.g b = m1.g b) → Own S m1 S' → (match ex with | .nrm => J (i + 1) S' m4 | .val _ => False | ex => X ex S' m4) → K ex m4) → round x m1 enter K)
    (hend : ∀ S' m5, Own S0 m S' → m.nxt < m5.nxt → m5.vw = m.vw → (∀ b, b < m.nxt → ¬ S0 b → m5.g b = m.g b) → J xs.length S' m5 → after.nrm m5)
    (hexit : ∀ id S' m5, Own S0 m S' → m.nxt < m5.nxt → m5.vw = m.vw → (∀ b, b < m.nxt → ¬ S0 b → m5.g b = m.g b) → X (.exit id) S' m5 → exitP id m5 after.exits)
    (hret : ∀ S' m5, Own S0 m S' → m.nxt < m5.nxt → m5.vw = m.vw → (∀ b, b < m.nxt → ¬ S0 b → m5.g b = m.g b) → X .ret S' m5 → after.ret m5) :
    rangeP P T (.fn (.func g) a b) m round after := by
  intro mk hy
  have hlt0 := (hJ 0).lt _ _ h0
  -- the client: the record of the loop is its own, too
  let I : Nat → (Nat → Prop) → M → Prop := fun i S m1 => ∃ SJ, (∀ b, S b ↔ SJ b ∨ b = m.nxt) ∧ ¬ SJ m.nxt ∧ m1.g m.nxt = some (mk .ready none) ∧ J i SJ m1 ∧ m.nxt < m1.nxt ∧ Own S0 m SJ
  let E : (Nat → Prop) → M → Prop := fun S m1 => ∃ SJ, (∀ b, S b ↔ SJ b ∨ b = m.nxt) ∧ ¬ SJ m.nxt ∧ m.nxt < m1.nxt ∧ Own S0 m SJ ∧ ((∃ id, m1.g m.nxt = some (mk .done (some (.exit id))) ∧ X (.exit id) SJ m1) ∨ (m1.g m.nxt = some (mk .done (some .ret)) ∧ X .ret SJ m1))
  have hc : Client P T m.nxt m.nxt xs I E := by
    refine ⟨fun i => ⟨fun S m1 m2 h hn hw hs h0' => ?_, fun S m1 h b hb => ?_⟩, ⟨fun S m1 m2 h hn hw hs h0' => ?_, fun S m1 h b hb => ?_⟩, fun i x S m1 hx h Q hT hF => ?_⟩
    · obtain ⟨SJ, q1, q2, q3, q4, q5, q6⟩ := h
      exact ⟨SJ, q1, q2, by rw [hs _ ((q1 _).2 (.inr rfl))]; exact q3, (hJ i).st _ _ _ q4 hn hw (fun b hb => hs b ((q1 b).2 (.inl hb))) h0', by omega, q6⟩
    · obtain ⟨SJ, q1, q2, q3, q4, q5, q6⟩ := h
      rcases (q1 b).1 hb with hb | hb
      · exact (hJ i).lt _ _ q4 b hb
      · omega
    · obtain ⟨SJ, q1, q2, q5, q6, q7⟩ := h
      refine ⟨SJ, q1, q2, by omega, q6, ?_⟩
      have hl : m2.g m.nxt = m1.g m.nxt := hs _ ((q1 _).2 (.inr rfl))
      rcases q7 with ⟨id, q8, q9⟩ | ⟨q8, q9⟩
      · exact .inl ⟨id, by rw [hl]; exact q8, (hX _).st _ _ _ q9 hn hw (fun b hb => hs b ((q1 b).2 (.inl hb))) h0'⟩
      · exact .inr ⟨by rw [hl]; exact q8, (hX _).st _ _ _ q9 hn hw (fun b hb => hs b ((q1 b).2 (.inl hb))) h0'⟩
    · obtain ⟨SJ, q1, q2, q5, q6, q7⟩ := h
      rcases (q1 b).1 hb with hb | hb
      · rcases q7 with ⟨id, q8, q9⟩ | ⟨q8, q9⟩
        · exact (hX _).lt _ _ q9 b hb
        · exact (hX _).lt _ _ q9 b hb
      · omega
    · obtain ⟨SJ, q1, q2, q3, q4, q5, q6⟩ := h
      refine hy x m1 Q q3 (hround i x SJ m1 (fun m4 => m4.g m.nxt = some (mk .busy none)) _ _ hx q4 q5 q2 q6 (fun m2 k hm2 hk => ⟨by rw [hm2]; exact q3, hk _ (M.nxt_set ..) rfl (fun b hb => by rw [M.g_set, if_neg hb]) fun m4 hm4 => by rw [hm4, M.g_set, if_pos rfl]⟩) fun ex S' m4 hB hn hvw hfr hown hres => ?_)
      have hS'l : ¬ S' m.nxt := fun h => by
        rcases hown _ h with h | h
        · exact q2 h
        · omega
      have hown2 : Own S m1 (fun b => S' b ∨ b = m.nxt) := fun b hb => by
        rcases hb with hb | hb
        · exact (hown b hb).imp (fun h => (q1 b).2 (.inl h)) id
        · exact .inl ((q1 b).2 (.inr hb))
      have hown3 : Own S0 m S' := fun b hb => by
        rcases hown b hb with h | h
        · exact q6 b h
        · exact .inr (by omega)
      have hchg : ∀ o, Chg S m1 (m4.set m.nxt o) := fun o => ⟨hn, fun b hb hSb => by
        have hbl : b ≠ m.nxt := fun h => hSb ((q1 b).2 (.inr h))
        rw [M.g_set, if_neg hbl]
        exact hfr b hb (fun h => hSb ((q1 b).2 (.inl h))) hbl, hvw⟩
      have hset : ∀ o b, S' b → (m4.set m.nxt o).g b = m4.g b := fun o b hb => by
        rw [M.g_set, if_neg fun h => hS'l (by rw [← h]; exact hb)]
      have hlow : ∀ o b, b < m.nxt → (m4.set m.nxt o).g b = m4.g b := fun o b hb => by rw [M.g_set, if_neg (by omega)]
      refine ⟨⟨_, _, hB⟩, ?_⟩
      cases ex with
      | nrm => exact hT _ _ hown2 (hchg _) ⟨S', fun b => Iff.rfl, hS'l, by rw [M.g_set, if_pos rfl], (hJ _).st _ _ _ hres (Nat.le_refl _) rfl (hset _) (hlow _), by show m.nxt < m4.nxt; omega, hown3⟩
      | exit id => exact hF _ _ hown2 (hchg _) ⟨S', fun b => Iff.rfl, hS'l, by show m.nxt < m4.nxt; omega, hown3, .inl ⟨id, by rw [M.g_set, if_pos rfl], (hX _).st _ _ _ hres (Nat.le_refl _) rfl (hset _) (hlow _)⟩⟩
      | ret => exact hF _ _ hown2 (hchg _) ⟨S', fun b => Iff.rfl, hS'l, by show m.nxt < m4.nxt; omega, hown3, .inr ⟨by rw [M.g_set, if_pos rfl], (hX _).st _ _ _ hres (Nat.le_refl _) rfl (hset _) (hlow _)⟩⟩
      | val v => exact hres.elim
  have hDlt := hi.lt _ hR
  have hRn : R (m.new (mk .ready none)) := hi.st _ _ hR (Nat.le_succ _) rfl fun b hb => by rw [M.g_new, if_neg (by have := hDlt b hb; omega)]
  have hI0 : I 0 (fun b => S0 b ∨ b = m.nxt) (m.new (mk .ready none)) := ⟨S0, fun b => Iff.rfl, fun h => by have := hlt0 _ h; omega, by rw [M.g_new, if_pos rfl], (hJ 0).st _ _ _ h0 (Nat.le_succ _) rfl (fun b hb => by rw [M.g_new, if_neg (by have := hlt0 b hb; omega)]) (fun b hb => by rw [M.g_new, if_neg (by omega)]), Nat.lt_succ_self _, fun b hb => .inl hb⟩
  refine hi.run m.nxt m.nxt I E hc _ _ (Nat.le_succ _) hI0 hRn (fun b hb hD => ?_) _ fun v S' m5 hown hchg hfin => ?_
  · rcases hb with hb | hb
    · exact hS0 b hb hD
    · have := hDlt b hD; omega
  · have hvw5 : (m5.del m.nxt).vw = m.vw := hchg.vw
    have hfr : ∀ b, b < m.nxt → ¬ S0 b → (m5.del m.nxt).g b = m.g b := fun b hb hS => by
      rw [M.g_del, if_neg (by omega), hchg.g b (by show b < m.nxt + 1; omega) (fun h => h.elim hS fun h => by omega), M.g_new, if_neg (by omega)]
    have hlowd : ∀ b, b < m.nxt → (m5.del m.nxt).g b = m5.g b := fun b hb => by rw [M.g_del, if_neg (by omega)]
    have hdel : ∀ SJ : Nat → Prop, ¬ SJ m.nxt → ∀ b, SJ b → (m5.del m.nxt).g b = m5.g b := fun SJ hl b hb => by rw [M.g_del, if_neg fun h => hl (by rw [← h]; exact hb)]
    rcases hfin with ⟨SJ, q1, q2, q3, q4, q5, q6⟩ | ⟨SJ, q1, q2, q5, q6, q7⟩
    · exact ⟨_, _, q3, (fun h => by cases h), hend SJ _ q6 q5 hvw5 hfr ((hJ _).st _ _ _ q4 (Nat.le_refl _) rfl (hdel SJ q2) hlowd)⟩
    · rcases q7 with ⟨id, q8, q9⟩ | ⟨q8, q9⟩
      · exact ⟨_, _, q8, (fun h => by cases h), hexit id SJ _ q6 q5 hvw5 hfr ((hX _).st _ _ _ q9 (Nat.le_refl _) rfl (hdel SJ q2) hlowd)⟩
      · exact ⟨_, _, q8, (fun h => by cases h), hret SJ _ q6 q5 hvw5 hfr ((hX _).st _ _ _ q9 (Nat.le_refl _) rfl (hdel SJ q2) hlowd)⟩
end
end Go.Abs

namespace Go.Proofs.Ytgkjfhkjgdiodaa
open _root_.Go.Proofs.Try
open Go.Abs
set_option maxRecDepth 100000
noncomputable section
theorem Chg.trans {S S1 : Nat → Prop} {T : Nat → Prop} {m m1 m2 : M} (h1 : Chg (fun b => S b ∨ T b) m m1) (h2 : Chg (fun b => S1 b ∨ T b) m1 m2) (ho : Own S m S1) : Chg (fun b => S b ∨ T b) m m2 :=
  ⟨Nat.le_trans h1.nxt h2.nxt, fun b hb hS => by
    rw [h2.g b (Nat.lt_of_lt_of_le hb h1.nxt) fun h => h.elim (fun h3 => (ho b h3).elim (fun h4 => hS (.inl h4)) fun h4 => by omega) fun h3 => hS (.inr h3)]
    exact h1.g b hb hS, h2.vw.trans h1.vw⟩
theorem Own.trans {S S1 S2 : Nat → Prop} {m m1 : M} (h1 : Own S m S1) (h2 : Own S1 m1 S2) (hn : m.nxt ≤ m1.nxt) : Own S m S2 := fun b hb => (h2 b hb).elim (h1 b) fun h => .inr (by omega)
theorem Own.refl (S : Nat → Prop) (m : M) : Own S m S := fun _ hb => .inl hb
theorem Chg.of_ext {S : Nat → Prop} {m m' : M} (e : Ext m m') : Chg S m m' := ⟨e.nxt, fun b hb _ => e.g b hb, e.vw⟩
theorem Chg.or {S T : Nat → Prop} {m m' : M} (h : Chg S m m') : Chg (fun b => S b ∨ T b) m m' := ⟨h.nxt, fun b hb hS => h.g b hb fun h2 => hS (.inl h2), h.vw⟩
def rests {α : Type} (g : Nat → List α) : Nat → Nat → List α
  | 0, _ => []
  | e + 1, n => g n ++ rests g e (n + 1)
/-- all lists of hits that go on as far as all places -/
def exts (c sm : Int) (L : List Int) (N : List Cnt) (O : List Bool) : Nat → List Int → List (List Int)
  | 0, pre => [pre]
  | d + 1, pre => rests (fun n => if fitsB c sm N (pad (pre ++ [(n : Int)])) O pre.length then exts c sm L N O d (pre ++ [(n : Int)]) else []) (L[pre.length]!.toNat + 1) 0
theorem at_take {P : List Int} (h9 : P.length = 9) {p : Nat} (hp : p < 9) {k : Int} (hk : k.toNat ≤ p) : at' (pad (P.take (p + 1))) k = at' P k := by
  have h1 : k.toNat < (P.take (p + 1)).length := by rw [List.length_take]; omega
  show (pad (P.take (p + 1)))[k.toNat]! = P[k.toNat]!
  rw [List.getElem!_eq_getElem?_getD, pad_at h1 (by rw [List.length_take]; omega), getElem!_pos P k.toNat (by omega), List.getElem_take]; rfl
theorem fits_take {c sm : Int} {N : List Cnt} {P : List Int} {O : List Bool} {p : Nat} (hc : 1 ≤ c) (h9 : P.length = 9) (hp : p < 9) : fitsB c sm N (pad (P.take (p + 1))) O p = fitsB c sm N P O p := by
  unfold fitsB jumpsB
  rw [at_take h9 hp (by omega), at_take h9 hp (by omega), at_take h9 hp (by omega)]
/-- what the closures of without read -/
structure Rd (r c sm : Int) (x y : C) (L : List Int) (N : List Cnt) (mb : Nat) (f : Spot → Option U) (O : List Bool) (b b2 : Nat) (m : M) : Prop where
  w : Bk m b 6 [.int .i64 r, .int .i64 c, x, .int .i64 sm, y, .map mb]
  o : Bk m b2 6 (bls O)
  k : Wk m L N mb f
  x : Li m x L
def Ds (x : C) (mb b b2 : Nat) (b' : Nat) : Prop := b' = b ∨ b' = b2 ∨ b' = mb ∨ ∃ o n s d, x = .sl b' o n s d
variable {r c sm : Int} {x y : C} {L : List Int} {N : List Cnt} {mb : Nat} {f : Spot → Option U} {O : List Bool} {b b2 : Nat}
theorem Rd.to {m m' : M} (h : Rd r c sm x y L N mb f O b b2 m) (hn : m.nxt ≤ m'.nxt) (hv : m'.vw = m.vw) (hg : ∀ b', Ds x mb b b2 b' → m'.g b' = m.g b') : Rd r c sm x y L N mb f O b b2 m' := by
  refine ⟨⟨(hg b (.inl rfl)).trans h.w.g, Nat.lt_of_lt_of_le h.w.lt hn⟩, ⟨(hg b2 (.inr (.inl rfl))).trans h.o.g, Nat.lt_of_lt_of_le h.o.lt hn⟩, ⟨?_, h.k.st⟩, h.x.to hn (fun b' _ hx => ?_) hv⟩
  · obtain ⟨es, clock, h1, h2⟩ := h.k.mp.ex
    exact ⟨⟨es, clock, (hg mb (.inr (.inr (.inl rfl)))).trans h1, h2⟩, Nat.lt_of_lt_of_le h.k.mp.lt hn⟩
  · obtain ⟨o, s, d, hx⟩ := hx
    exact hg b' (.inr (.inr (.inr ⟨o, _, s, d, hx⟩)))
theorem Rd.lt {m : M} (h : Rd r c sm x y L N mb f O b b2 m) {b' : Nat} (hb : Ds x mb b b2 b') : b' < m.nxt := by
  rcases hb with rfl | rfl | rfl | ⟨o, n, s, d, hx⟩
  · exact h.w.lt
  · exact h.o.lt
  · exact h.k.mp.lt
  · rcases h.x.val with ⟨hx2, _⟩ | ⟨b3, o3, s3, c3, hx2, hlt, _⟩
    · rw [hx] at hx2; cases hx2
    · rw [hx] at hx2; cases hx2; exact hlt
theorem Rd.ext {m m' : M} (h : Rd r c sm x y L N mb f O b b2 m) (e : Ext m m') : Rd r c sm x y L N mb f O b b2 m' := h.to e.nxt e.vw fun _ hb => e.g _ (h.lt hb)
def chC (b k h2 b2 cv : Nat) : C := .fn (.func 121) [] [.c (.ptr b 0), .c (.ptr k 0), .c (.ptr h2 0), .c (.ptr b2 0), .c (.ptr cv 0)]
/-- choose at work -/
structure St (r c sm : Int) (x y : C) (L : List Int) (N : List Cnt) (mb : Nat) (f : Spot → Option U) (O : List Bool) (b b2 l k h2 cv : Nat) (S : Nat → Prop) (m : M) (P : List Int) : Prop where
  rr : Rd r c sm x y L N mb f O b b2 m
  kk : Bk m k 1 [.fn (.yield l) [] []]
  hh : Bk m h2 9 (ints P)
  cc : Bk m cv 1 [chC b k h2 b2 cv]
  ss : ∀ b', S b' → b' ≠ k ∧ b' ≠ h2 ∧ b' ≠ cv ∧ ¬ Ds x mb b b2 b'
variable {l k h2 cv : Nat}
theorem St.to {S S' : Nat → Prop} {m m' : M} {P : List Int} (h : St r c sm x y L N mb f O b b2 l k h2 cv S m P) (hn : Chg S m m') (ho : Own S m S') : St r c sm x y L N mb f O b b2 l k h2 cv S' m' P := by
  have hk : ¬ S k := fun h1 => (h.ss _ h1).1 rfl
  have hh : ¬ S h2 := fun h1 => (h.ss _ h1).2.1 rfl
  have hc : ¬ S cv := fun h1 => (h.ss _ h1).2.2.1 rfl
  refine ⟨h.rr.to hn.nxt hn.vw fun b' hb => hn.g b' (h.rr.lt hb) fun h1 => (h.ss _ h1).2.2.2 hb, ⟨(hn.g k h.kk.lt hk).trans h.kk.g, Nat.lt_of_lt_of_le h.kk.lt hn.nxt⟩, ⟨(hn.g h2 h.hh.lt hh).trans h.hh.g, Nat.lt_of_lt_of_le h.hh.lt hn.nxt⟩, ⟨(hn.g cv h.cc.lt hc).trans h.cc.g, Nat.lt_of_lt_of_le h.cc.lt hn.nxt⟩, fun b' hb => ?_⟩
  rcases ho b' hb with h1 | h1
  · exact h.ss b' h1
  · refine ⟨fun h3 => ?_, fun h3 => ?_, fun h3 => ?_, fun h3 => ?_⟩
    · have := h.kk.lt; omega
    · have := h.hh.lt; omega
    · have := h.cc.lt; omega
    · have := h.rr.lt h3; omega
theorem St.set {S : Nat → Prop} {m : M} {P : List Int} (h : St r c sm x y L N mb f O b b2 l k h2 cv S m P) (hD : ¬ Ds x mb b b2 h2) (hk : k ≠ h2) (hc : cv ≠ h2) (P' : List Int) : St r c sm x y L N mb f O b b2 l k h2 cv S (m.set h2 (.cells 9 (ints P') false)) P' :=
  ⟨h.rr.to (Nat.le_refl _) rfl fun b' hb => by rw [M.g_set, if_neg fun h1 => hD (by rw [← h1]; exact hb)], h.kk.setNe hk _, h.hh.set _, h.cc.setNe hc _, h.ss⟩
end
end Go.Proofs.Ytgkjfhkjgdiodaa

namespace Go.Proofs.Ytgkjfhkjgdiodaa
open _root_.Go.Proofs.Try
open Go.Abs
set_option maxRecDepth 100000
noncomputable section
variable {r c sm : Int} {x y : C} {L : List Int} {N : List Cnt} {mb : Nat} {f : Spot → Option U} {O : List Bool} {b b2 : Nat} {l k h2 cv : Nat}
/-- hits at work -/
structure Hw (L P : List Int) : Prop where
  len : P.length = 9
  small : Small P
  rest : P.drop L.length = List.replicate (9 - L.length) 0
theorem Hw.set {P : List Int} (h : Hw L P) {p : Nat} (hp : p < L.length) {n : Int} (hn : 0 ≤ n ∧ n ≤ 9) : Hw L (P.set p n) :=
  ⟨by rw [List.length_set]; exact h.len, fun v hv => by
    rcases List.mem_or_eq_of_mem_set hv with h1 | h1
    · exact h.small v h1
    · rw [h1]; exact hn, by rw [List.drop_set_of_lt hp]; exact h.rest⟩
theorem Hw.hpad {P : List Int} (h : Hw L P) (hL : L.length ≤ 9) : pad (P.take L.length) = P := by
  unfold pad
  rw [List.length_take, h.len, Nat.min_eq_left hL, ← h.rest, List.take_append_drop]
theorem take_set {P : List Int} {p : Nat} (hp : p < P.length) (n : Int) : (P.set p n).take (p + 1) = P.take p ++ [n] := by
  rw [List.take_add_one, List.getElem?_set_self hp, List.take_set_of_le (Nat.le_refl _)]; rfl
theorem s121 (hf : isField r c L = true) (hO : O.length = 6) (hD : ¬ Ds x mb b b2 h2) (hk : k ≠ h2) (hcv : cv ≠ h2) {n0 : Nat} (hn0 : n0 ≤ h2) {xs : List (List V)} {I : Nat → (Nat → Prop) → M → Prop} {E : (Nat → Prop) → M → Prop} (hcl : Client prog tbl n0 l xs I E) :
    ∀ (d p : Nat), d + p = L.length → ∀ (i : Nat) (S : Nat → Prop) (m : M) (P : List Int) (Q : V → M → Prop), St r c sm x y L N mb f O b b2 l k h2 cv S m P → Hw L P →
      (∀ j H, (exts c sm L N O d (P.take p))[j]? = some H → xs[i + j]? = some [.agg 9 (ints (pad H))]) → I i S m →
      (∀ S' m' P', Own S m S' → Chg (fun b' => S b' ∨ b' = h2) m m' → St r c sm x y L N mb f O b b2 l k h2 cv S' m' P' → Hw L P' → P'.take p = P.take p → I (i + (exts c sm L N O d (P.take p)).length) S' m' → Q (.c (.bool true)) m') →
      (∀ S' m', Own S m S' → Chg (fun b' => S b' ∨ b' = h2) m m' → E S' m' → Q (.c (.bool false)) m') →
      Wc prog tbl 121 [.c (.int .i64 (p : Int)), .c (.ptr b 0), .c (.ptr k 0), .c (.ptr h2 0), .c (.ptr b2 0), .c (.ptr cv 0)] m Q := by
  obtain ⟨hS, hL, hrc⟩ := field_of hf
  have hsd := sides_of hf
  have hm := hsd.mul
  intro d
  induction d with
  | zero =>
    intro p hp i S m P Q hst hw hxs hI hT hF
    refine w121 (p : Int) b k h2 b2 cv ⟨trivial, trivial, r, c, x, hst.rr.w.rp (k := 0) (j := 3) rfl (by omega), s88 (by have := hsd.r1; omega) (by have := hsd.c1; omega) (fits_small (by omega) (by omega)) fun m4 e4 => ⟨_, rfl, ?_⟩⟩
    rw [ifB_dec]
    refine ⟨fun _ => ?_, fun h1 => absurd (by omega) h1⟩
    have hst4 := hst.to (Chg.of_ext e4) (Own.refl S m)
    refine ⟨_, hst4.kk.rc rfl, get9 hst4.hh hw.len (fun l9 => callP prog tbl [.agg 9 l9] (.fn (.yield l) [] []) m4 _) ?_⟩
    have hpl : p = L.length := by omega
    subst hpl
    have hx0 := hxs 0 (P.take L.length) rfl
    rw [hw.hpad hL, Nat.add_zero] at hx0
    have hI4 : I i S m4 := (hcl.li i).st _ _ _ hI e4.nxt e4.vw (fun b' hb => e4.g b' ((hcl.li i).lt _ _ hI b' hb)) (fun b' hb => e4.g b' (by have := hst.hh.lt; omega))
    show Wy prog tbl l [.agg 9 (ints P)] m4 _
    refine hcl.yield i _ S m4 hx0 hI4 _ (fun S' m' ho hch hI' => ⟨_, rfl, ?_⟩) fun S' m' ho hch hE => ⟨_, rfl, ?_⟩
    · exact hT S' m' P (Own.trans (Own.refl S m) ho e4.nxt) (Chg.trans (T := fun b' => b' = h2) (Chg.of_ext e4) (Chg.or hch) (Own.refl S m)) (hst4.to hch ho) hw rfl hI'
    · exact hF S' m' (Own.trans (Own.refl S m) ho e4.nxt) (Chg.trans (T := fun b' => b' = h2) (Chg.of_ext e4) (Chg.or hch) (Own.refl S m)) hE
  | succ d ih =>
    intro p hp i S m P Q hst hw hxs hI hT hF
    refine w121 (p : Int) b k h2 b2 cv ⟨trivial, trivial, r, c, x, hst.rr.w.rp (k := 0) (j := 3) rfl (by omega), s88 (by have := hsd.r1; omega) (by have := hsd.c1; omega) (fits_small (by omega) (by omega)) fun m4 e4 => ⟨_, rfl, ?_⟩⟩
    rw [ifB_dec]
    refine ⟨fun h1 => by omega, fun _ => ?_⟩
    have hst4 := hst.to (Chg.of_ext e4) (Own.refl S m)
    have hI4 : I i S m4 := (hcl.li i).st _ _ _ hI e4.nxt e4.vw (fun b' hb => e4.g b' ((hcl.li i).lt _ _ hI b' hb)) (fun b' hb => e4.g b' (by have := hst.hh.lt; omega))
    have hpL : p < L.length := by omega
    have hlp := small_at hS hpL
    have hLp : L[p]! = L[p] := getElem!_pos L p hpL
    obtain ⟨t, ht⟩ : ∃ t : Nat, L[p] = (t : Int) := ⟨L[p].toNat, by omega⟩
    have hpl : (P.take p).length = p := by rw [List.length_take, hw.len]; omega
    let g : Nat → List (List Int) := fun n => if fitsB c sm N (pad (P.take p ++ [(n : Int)])) O p then exts c sm L N O d (P.take p ++ [(n : Int)]) else []
    have hex : exts c sm L N O (d + 1) (P.take p) = rests g (t + 1) 0 := by
      show rests (fun n => if fitsB c sm N (pad (P.take p ++ [(n : Int)])) O (P.take p).length then exts c sm L N O d (P.take p ++ [(n : Int)]) else []) (L[(P.take p).length]!.toNat + 1) 0 = _
      rw [hpl, hLp, ht]; rfl
    rw [hex] at hxs hT
    refine ⟨trivial, trivial, trivial, x, hst4.rr.w.rc rfl, p, rfl, by rw [hst4.rr.x.slLen]; exact hpL, L[p], Li.rd hst4.rr.x (List.getElem?_eq_getElem hpL), fits_small (by omega) (by omega), fun R22 hstep => ?_⟩
    have hgo : ∀ (e n : Nat) (b23 : Bool) (m25 : M) (S1 : Nat → Prop) (P1 : List Int) (i1 : Nat), e + n = t + 1 → Own S m S1 → Chg (fun b' => S b' ∨ b' = h2) m m25 → St r c sm x y L N mb f O b b2 l k h2 cv S1 m25 P1 → Hw L P1 → P1.take p = P.take p → I i1 S1 m25 →
        i1 + (rests g e n).length = i + (rests g (t + 1) 0).length → (∀ j H, (rests g e n)[j]? = some H → xs[i1 + j]? = some [.agg 9 (ints (pad H))]) → R22 [.c (.bool b23), .c (.int .i64 (n : Int))] m25 := by
      intro e
      induction e with
      | zero =>
        intro n b23 m25 S1 P1 i1 hen ho hch hst1 hw1 htk hI1 hlen hxs1
        refine hstep _ _ _ ?_
        rw [ifB_dec]
        refine ⟨fun h1 => by omega, fun _ => hT S1 m25 P1 ho hch hst1 hw1 htk ?_⟩
        have : i1 + 0 = _ := hlen
        rw [← this, Nat.add_zero]; exact hI1
      | succ e ihe =>
        intro n b23 m25 S1 P1 i1 hen ho hch hst1 hw1 htk hI1 hlen hxs1
        refine hstep _ _ _ ?_
        rw [ifB_dec]
        refine ⟨fun _ => ?_, fun h1 => absurd (by omega) h1⟩
        have hn9 : (0 : Int) ≤ (n : Int) ∧ (n : Int) ≤ 9 := by omega
        have hp9 : p < P1.length := by rw [hw1.len]; omega
        have hat := stC_at hst1.hh.g (k := 0 + p * 1) (.int .i64 (n : Int)) (by rw [ints_len, hw1.len]; omega) (by rw [ints_len, hw1.len]) (by omega)
        refine ⟨trivial, p, rfl, by omega, _, hat, ?_⟩
        rw [ints_set, show 0 + p * 1 = p by omega]
        have hst2 := hst1.set hD hk hcv (P1.set p (n : Int))
        have hw2 := hw1.set hpL hn9
        have hch2 : Chg (fun b' => S1 b' ∨ b' = h2) m25 (m25.set h2 (.cells 9 (ints (P1.set p (n : Int))) false)) := ⟨Nat.le_refl _, fun b' _ hS => by rw [M.g_set, if_neg fun h1 => hS (.inr h1)], rfl⟩
        have hI2 : I i1 S1 (m25.set h2 (.cells 9 (ints (P1.set p (n : Int))) false)) := (hcl.li i1).st _ _ _ hI1 (Nat.le_refl _) rfl (fun b' hb => by rw [M.g_set, if_neg fun h1 => (hst1.ss b' hb).2.1 h1]) (fun b' hb => by rw [M.g_set, if_neg (by omega)])
        have hchm := Chg.trans (T := fun b' => b' = h2) hch hch2 ho
        generalize m25.set h2 (.cells 9 (ints (P1.set p (n : Int))) false) = m27 at hst2 hch2 hI2 hchm
        have htk2 : (P1.set p (n : Int)).take (p + 1) = P.take p ++ [(n : Int)] := by rw [take_set hp9, htk]
        have htk3 : (P1.set p (n : Int)).take p = P.take p := by rw [List.take_set_of_le (Nat.le_refl _), htk]
        have hfit : fitsB c sm N (P1.set p (n : Int)) O p = fitsB c sm N (pad (P.take p ++ [(n : Int)])) O p := by rw [← htk2, fits_take hsd.c1 hw2.len (by omega)]
        have hatp : at' (P1.set p (n : Int)) (p : Int) ≤ L[p]! := by
          show (P1.set p (n : Int))[p]! ≤ _
          rw [getElem!_pos _ p (by rw [List.length_set]; exact hp9), List.getElem_set_self, hLp]; omega
        generalize P1.set p (n : Int) = P2 at hst2 hw2 htk2 htk3 hfit hatp
        refine ⟨r, c, x, sm, y, .map mb, hst2.rr.w.ra, get9 hst2.hh hw2.len (fun l9 => ∃ b43 b44 b45 b46 b47 b48 : Bool, ldA m27 (C.ptr b2 0) 6 = some [.bool b43, .bool b44, .bool b45, .bool b46, .bool b47, .bool b48] ∧ Wc prog tbl 97 [.agg 6 [.int .i64 r, .int .i64 c, x, .int .i64 sm, y, .map mb], .agg 9 l9, .c (.int .i64 (p : Int)), .agg 6 [.bool b43, .bool b44, .bool b45, .bool b46, .bool b47, .bool b48]] m27 _)
          (get6 hst2.rr.o hO (fun l6 => Wc prog tbl 97 [.agg 6 [.int .i64 r, .int .i64 c, x, .int .i64 sm, y, .map mb], .agg 9 (ints P2), .c (.int .i64 (p : Int)), .agg 6 l6] m27 _) ?_)⟩
        refine s97 hst2.rr.k hf hw2.len hw2.small hO hpL hatp fun m50 e50 => ⟨_, rfl, ?_⟩
        have hst5 := hst2.to (Chg.of_ext e50) (Own.refl S1 m27)
        have hI5 : I i1 S1 m50 := (hcl.li i1).st _ _ _ hI2 e50.nxt e50.vw (fun b' hb => e50.g b' ((hcl.li i1).lt _ _ hI2 b' hb)) (fun b' hb => e50.g b' (by have := hst2.hh.lt; omega))
        have hch5 : Chg (fun b' => S b' ∨ b' = h2) m m50 := Chg.trans (T := fun b' => b' = h2) hchm (Chg.of_ext e50) ho
        have hge : rests g (e + 1) n = g n ++ rests g e (n + 1) := rfl
        rw [hge] at hlen hxs1
        rw [List.length_append] at hlen
        have hxr : ∀ j H, (rests g e (n + 1))[j]? = some H → xs[i1 + (g n).length + j]? = some [.agg 9 (ints (pad H))] := fun j H hj => by
          rw [Nat.add_assoc]
          exact hxs1 _ H (by rw [List.getElem?_append_right (by omega), Nat.add_sub_cancel_left]; exact hj)
        rw [hfit]
        cases hb : fitsB c sm N (pad (P.take p ++ [(n : Int)])) O p with
        | false =>
          have hg : g n = [] := by show (if _ then _ else _) = _; rw [hb]; rfl
          rw [hg] at hxr hlen
          exact ⟨fits_small (by omega) (by omega), ihe (n + 1) b23 m50 S1 P2 i1 (by omega) ho hch5 hst5 hw2 htk3 hI5 (by simpa using hlen) (by simpa using hxr)⟩
        | true =>
          have hg : g n = exts c sm L N O d (P2.take (p + 1)) := by show (if _ then _ else _) = _; rw [hb, htk2]; rfl
          rw [hg] at hxr hlen hxs1
          refine ⟨_, hst5.cc.rc rfl, fits_small (by omega) (by omega), ?_⟩
          show Wc prog tbl 121 [.c (.int .i64 ((p + 1 : Nat) : Int)), .c (.ptr b 0), .c (.ptr k 0), .c (.ptr h2 0), .c (.ptr b2 0), .c (.ptr cv 0)] m50 _
          refine ih (p + 1) (by omega) i1 S1 m50 P2 _ hst5 hw2 (fun j H hj => hxs1 j H (by rw [List.getElem?_append_left (List.getElem?_eq_some_iff.1 hj).1]; exact hj)) hI5 (fun S' m' P' ho' hch' hst' hw' htk' hI' => ⟨_, rfl, ?_⟩) fun S' m' ho' hch' hE => ⟨_, rfl, ?_⟩
          · have htk4 : P'.take p = P.take p := by
              have h1 := congrArg (List.take p) htk'
              rw [List.take_take, List.take_take, Nat.min_eq_left (by omega)] at h1
              rw [h1, htk3]
            exact ⟨fits_small (by omega) (by omega), ihe (n + 1) b23 m' S' P' _ (by omega) (Own.trans ho ho' hch5.nxt) (Chg.trans (T := fun b' => b' = h2) hch5 hch' ho) hst' hw' htk4 hI' (by omega) hxr⟩
          · exact hF S' m' (Own.trans ho ho' hch5.nxt) (Chg.trans (T := fun b' => b' = h2) hch5 hch' ho) hE
    exact hgo (t + 1) 0 false m4 S P i (by omega) (Own.refl S m) (Chg.of_ext e4) hst4 hw rfl hI4 rfl hxs
end
end Go.Proofs.Ytgkjfhkjgdiodaa

namespace Go.Proofs.Ytgkjfhkjgdiodaa
open _root_.Go.Proofs.Try
open Go.Abs
set_option maxRecDepth 100000
noncomputable section
theorem w49 {a100 : Int} {a101 : Int} {a102 : C} {a103 : Int} {a104 : C} {a200 : Int} {m : M} {Q : V → M → Prop} (h :
 (∀ m0 : M, ((m0 = (M.new m (AO.cells 5 [(C.int .i64 a100), (C.int .i64 a101), a102, (C.int .i64 a103), 
 a104] false))) → (∃ x1 : Int, (∃ x2 : Int, (∃ c3 : C, (∃ x4 : Int, (∃ c5 : C, (((ldA m0 (C.ptr m.nxt 0) 5) = (some [(C.int .i64 x1), 
 (C.int .i64 x2), c3, (C.int .i64 x4), c5])) ∧ (Wc prog tbl 83 [(V.agg 5 [(C.int .i64 x1), 
 (C.int .i64 x2), c3, (C.int .i64 x4), c5]), (V.c (C.int .i64 a200)), (V.c (C.fn (Fn.func 86) [] []))] m0 (fun v6 m7 => 
 (∃ x8 : Int, (∃ x9 : Int, (∃ c10 : C, (∃ x11 : Int, (∃ c12 : C, (∃ c13 : C, (∃ x14 : Int, ((v6 = (V.tup [(U.agg 6 [(C.int .i64 x8), 
 (C.int .i64 x9), c10, (C.int .i64 x11), c12, c13]), (U.c (C.int .i64 x14))])) ∧ 
 (∀ m15 : M, ((m15 = (M.new m7 (AO.cells 6 [(C.int .i64 (0 : Int)), (C.int .i64 (0 : Int)), 
 C.sl0, (C.int .i64 (0 : Int)), C.sl0, C.map0] false))) → (∃ m16 : M, (((stC m15 (C.ptr m7.nxt 0) 6 [(C.int .i64 x8), 
 (C.int .i64 x9), c10, (C.int .i64 x11), c12, c13]) = (some m16)) ∧ 
 (ifB (!decide (x14 = (0 : Int))) (Q (V.tup [(U.c C.sl0), (U.c (C.int .i64 x14))]) m16) (isPt (C.ptr m7.nxt 0) ∧ 
 (isPt (C.ptr m7.nxt 0) ∧ (∃ x17 : Int, (∃ x18 : Int, (∃ c19 : C, (((ldA m16 (C.ptr m7.nxt 0) 3) = (some [(C.int .i64 x17), 
 (C.int .i64 x18), c19])) ∧ (Wc prog tbl 88 [(V.agg 3 [(C.int .i64 x17), 
 (C.int .i64 x18), c19])] m16 (fun v20 m21 => (∃ x22 : Int, ((v20 = (V.c (C.int .i64 x22))) ∧ 
 (∃ x23 : Int, (∃ x24 : Int, (∃ c25 : C, (∃ x26 : Int, (∃ c27 : C, (∃ c28 : C, 
 (((ldA m21 (C.ptr m7.nxt 0) 6) = (some [(C.int .i64 x23), (C.int .i64 x24), 
 c25, (C.int .i64 x26), c27, c28])) ∧ ((ifB (allS noFnC [(C.int .i64 x23), 
 (C.int .i64 x24), c25, (C.int .i64 x26), c27, c28]) ((ldA m16 (C.ptr m7.nxt 0) 6) = (some [(C.int .i64 x23), 
 (C.int .i64 x24), c25, (C.int .i64 x26), c27, c28])) False) ∧ (Wc prog tbl 89 [(V.agg 6 [(C.int .i64 x23), 
 (C.int .i64 x24), c25, (C.int .i64 x26), c27, c28]), (V.c (C.int .i64 a200))] m21 (fun v29 m30 => 
 (∃ c31 : C, (∃ c32 : C, ((v29 = (V.agg 2 [c31, c32])) ∧ (optB (mapO vW [(V.agg 2 [c31, 
 c32])]) False fun l33 => (Wc prog tbl 87 [(V.c (C.int .i64 x22)), (V.c (C.fn (Fn.func 90) l33 []))] m30 (fun v34 m35 => 
 (∃ c36 : C, ((v34 = (V.c c36)) ∧ (Q (V.tup [(U.c c36), (U.c (C.int .i64 (0 : Int)))]) m35))))))))))))))))))))))))))))))))))))))))))))))))))))) : Wc prog tbl 49 [(V.agg 5 [(C.int .i64 a100), (C.int .i64 a101), a102, (C.int .i64 a103), a104]), (V.c (C.int .i64 a200))] m Q :=
 wc_eq (n := 2) rfl (by kernel_rfl) (by kernel_rfl) h
theorem w52 {a100 : Int} {a101 : Int} {a102 : C} {a103 : Int} {a104 : C} {m : M} {Q : V → M → Prop} (h :
 (∀ m0 : M, ((m0 = (M.new m (AO.cells 5 [(C.int .i64 a100), (C.int .i64 a101), a102, (C.int .i64 a103), 
 a104] false))) → (∃ x1 : Int, (∃ x2 : Int, (∃ c3 : C, (∃ x4 : Int, (∃ c5 : C, (((ldA m0 (C.ptr m.nxt 0) 5) = (some [(C.int .i64 x1), 
 (C.int .i64 x2), c3, (C.int .i64 x4), c5])) ∧ (Wc prog tbl 37 [(V.agg 5 [(C.int .i64 x1), 
 (C.int .i64 x2), c3, (C.int .i64 x4), c5])] m0 (fun v6 m7 => (∃ x8 : Int, ((v6 = (V.c (C.int .i64 x8))) ∧ 
 (ifB (!decide (x8 = (0 : Int))) (Q (V.tup [(U.c C.sl0), (U.c (C.int .i64 x8))]) m7) (isPt (C.ptr m.nxt 0) ∧ 
 (∃ c9 : C, (((ldC m7 (C.ptr m.nxt 4)) = (some c9)) ∧ (isSl c9 ∧ (∃ x10 : Int, (∃ x11 : Int, 
 (∃ c12 : C, (∃ x13 : Int, (∃ c14 : C, (((ldA m7 (C.ptr m.nxt 0) 5) = (some [(C.int .i64 x10), 
 (C.int .i64 x11), c12, (C.int .i64 x13), c14])) ∧ (Wc prog tbl 76 [(V.agg 5 [(C.int .i64 x10), 
 (C.int .i64 x11), c12, (C.int .i64 x13), c14])] m7 (fun v15 m16 => 
 (∃ x17 : Int, (∃ x18 : Int, (∃ c19 : C, (∃ x20 : Int, (∃ c21 : C, (∃ c22 : C, ((v15 = (V.agg 6 [(C.int .i64 x17), 
 (C.int .i64 x18), c19, (C.int .i64 x20), c21, c22])) ∧ ((isSl c9 ∧ 
 ((V.c (C.int .i64 (((slLen c9) : Nat) : Int))) = (V.c (C.int .i64 (((slLen c9) : Nat) : Int))))) ∧ 
 ((ifB (noFnC c9) ((ldC m16 (C.ptr m.nxt 4)) = (some c9)) False) ∧ (optB (mapO vW [(V.agg 6 [(C.int .i64 x17), 
 (C.int .i64 x18), c19, (C.int .i64 x20), c21, c22])]) False fun l23 => 
 (Wc prog tbl 87 [(V.c (C.int .i64 (((slLen c9) : Nat) : Int))), (V.c (C.fn (Fn.func 91) l23 []))] m16 (fun v24 m25 => 
 (∃ c26 : C, ((v24 = (V.c c26)) ∧ (Q (V.tup [(U.c c26), (U.c (C.int .i64 (0 : Int)))]) m25))))))))))))))))))))))))))))))))))))))))) : Wc prog tbl 52 [(V.agg 5 [(C.int .i64 a100), (C.int .i64 a101), a102, (C.int .i64 a103), a104])] m Q :=
 wc_eq (n := 1) rfl (by kernel_rfl) (by kernel_rfl) h
theorem w87 {a100 : Int} {a200 : C} {m : M} {Q : V → M → Prop} (h :
 (∀ m0 : M, ((m0 = (M.new m (AO.cells 1 [a200] false))) → (∀ m1 : M, ((m1 = (M.new m0 (AO.cells 1 [C.sl0] false))) → 
 (fitsP .i64 (a100 + (1 : Int)) ∧ (∀ R2 : List V → M → Prop, ((∀ x3 : Int, (∀ m4 : M, ((ifB (decide (x3 < (a100 + (1 : Int)))) (Wc prog tbl 103 [(V.c (C.int .i64 a100)), 
 (V.c (C.int .i64 x3))] m4 (fun v5 m6 => (∃ c7 : C, ((v5 = (V.c c7)) ∧ (rangeP prog tbl c7 m6 (fun l10 m11 R12 R13 => 
 (∃ c14 : C, ((l10 = [(V.c c14)]) ∧ (R12 m11 (fun m15 => (∃ c16 : C, (((ldC m15 (C.ptr m.nxt 0)) = (some c16)) ∧ 
 (callP prog tbl [(V.c c14)] c16 m15 (fun v17 m18 => (∃ b19 : Bool, ((v17 = (V.c (C.bool b19))) ∧ 
 (ifB b19 (Wc prog tbl 104 [(V.c c14)] m18 (fun v20 m21 => (∃ c22 : C, ((v20 = (V.c c22)) ∧ 
 (∃ m23 : M, (((stC m21 (C.ptr m0.nxt 0) 1 [c22]) = (some m23)) ∧ (R13 (Ex.exit 0) m23))))))) (R13 Ex.nrm m18))))))))))))) (After.mk (fun m24 => 
 (fitsP .i64 (x3 + (1 : Int)) ∧ (R2 [(V.c (C.int .i64 (x3 + (1 : Int))))] m24))) [(0, 
 (fun m8 => (∃ c9 : C, (((ldC m8 (C.ptr m0.nxt 0)) = (some c9)) ∧ (Q (V.c c9) m8)))))] (fun m25 => 
 (Q (V.c C.sl0) m25)))))))) (∃ c26 : C, (((ldC m4 (C.ptr m0.nxt 0)) = (some c26)) ∧ 
 (Q (V.c c26) m4)))) → (R2 [(V.c (C.int .i64 x3))] m4)))) → (R2 [(V.c (C.int .i64 (0 : Int)))] m1))))))))) : Wc prog tbl 87 [(V.c (C.int .i64 a100)), (V.c a200)] m Q :=
 wc_eq (n := 2) rfl (by kernel_rfl) (by kernel_rfl) h
theorem w89 {a100 : Int} {a101 : Int} {a102 : C} {a103 : Int} {a104 : C} {a105 : C} {a200 : Int} {m : M} {Q : V → M → Prop} (h :
 (∀ m0 : M, ((m0 = (M.new m (AO.cells 6 [(C.int .i64 a100), (C.int .i64 a101), a102, (C.int .i64 a103), 
 a104, a105] false))) → (∀ m1 : M, ((m1 = (M.new m0 (AO.cells 1 [(C.int .i64 a200)] false))) → 
 (∀ m2 : M, ((m2 = (M.new m1 (AO.cells 2 [C.sl0, C.sl0] false))) → (∀ m3 : M, ((m3 = (M.new m2 (AO.cells 2 [C.sl0, 
 C.sl0] false))) → (∃ x4 : Int, (∃ x5 : Int, (∃ c6 : C, (∃ x7 : Int, (∃ c8 : C, (∃ c9 : C, (((ldA m3 (C.ptr m.nxt 0) 6) = (some [(C.int .i64 x4), 
 (C.int .i64 x5), c6, (C.int .i64 x7), c8, c9])) ∧ (Wc prog tbl 100 [(V.agg 6 [(C.int .i64 x4), 
 (C.int .i64 x5), c6, (C.int .i64 x7), c8, c9])] m3 (fun v10 m11 => (∃ c12 : C, 
 ((v10 = (V.c c12)) ∧ (rangeP prog tbl c12 m11 (fun l13 m14 R15 R16 => (∃ x17 : Int, (∃ x18 : Int, 
 (∃ x19 : Int, (∃ x20 : Int, (∃ x21 : Int, (∃ x22 : Int, (∃ x23 : Int, (∃ x24 : Int, 
 (∃ x25 : Int, ((l13 = [(V.agg 9 [(C.int .i64 x17), (C.int .i64 x18), 
 (C.int .i64 x19), (C.int .i64 x20), (C.int .i64 x21), (C.int .i64 x22), 
 (C.int .i64 x23), (C.int .i64 x24), (C.int .i64 x25)])]) ∧ 
 (∀ m26 : M, ((m26 = (M.new m14 (AO.cells 9 [(C.int .i64 (0 : Int)), (C.int .i64 (0 : Int)), 
 (C.int .i64 (0 : Int)), (C.int .i64 (0 : Int)), (C.int .i64 (0 : Int)), 
 (C.int .i64 (0 : Int)), (C.int .i64 (0 : Int)), (C.int .i64 (0 : Int)), 
 (C.int .i64 (0 : Int))] false))) → (∃ m27 : M, (((stC m26 (C.ptr m14.nxt 0) 9 [(C.int .i64 x17), 
 (C.int .i64 x18), (C.int .i64 x19), (C.int .i64 x20), (C.int .i64 x21), 
 (C.int .i64 x22), (C.int .i64 x23), (C.int .i64 x24), (C.int .i64 x25)]) = (some m27)) ∧ 
 (R15 m27 (fun m28 => (isPt (C.ptr m.nxt 0) ∧ (∃ x29 : Int, (∃ x30 : Int, (∃ c31 : C, 
 (∃ x32 : Int, (∃ c33 : C, (((ldA m28 (C.ptr m.nxt 0) 5) = (some [(C.int .i64 x29), 
 (C.int .i64 x30), c31, (C.int .i64 x32), c33])) ∧ (∃ x34 : Int, 
 (∃ x35 : Int, (∃ x36 : Int, (∃ x37 : Int, (∃ x38 : Int, (∃ x39 : Int, (∃ x40 : Int, 
 (∃ x41 : Int, (∃ x42 : Int, (((ldA m28 (C.ptr m14.nxt 0) 9) = (some [(C.int .i64 x34), 
 (C.int .i64 x35), (C.int .i64 x36), (C.int .i64 x37), (C.int .i64 x38), 
 (C.int .i64 x39), (C.int .i64 x40), (C.int .i64 x41), (C.int .i64 x42)])) ∧ 
 (Wc prog tbl 75 [(V.agg 5 [(C.int .i64 x29), (C.int .i64 x30), 
 c31, (C.int .i64 x32), c33]), (V.agg 9 [(C.int .i64 x34), (C.int .i64 x35), 
 (C.int .i64 x36), (C.int .i64 x37), (C.int .i64 x38), (C.int .i64 x39), 
 (C.int .i64 x40), (C.int .i64 x41), (C.int .i64 x42)])] m28 (fun v43 m44 => 
 (∃ x45 : Int, ((v43 = (V.c (C.int .i64 x45))) ∧ (∃ x46 : Int, (((ldC m44 (C.ptr m0.nxt 0)) = (some (C.int .i64 x46))) ∧ 
 (((ldC m28 (C.ptr m0.nxt 0)) = (some (C.int .i64 x46))) ∧ (ifB (decide (x46 ≤ x45)) (isPt (C.ptr m2.nxt 0) ∧ 
 (∃ c47 : C, (((ldC m44 (C.ptr m2.nxt 0)) = (some c47)) ∧ (∃ x48 : Int, 
 (∃ x49 : Int, (∃ x50 : Int, (∃ x51 : Int, (∃ x52 : Int, (∃ x53 : Int, (∃ x54 : Int, 
 (∃ x55 : Int, (∃ x56 : Int, (((ldA m44 (C.ptr m14.nxt 0) 9) = (some [(C.int .i64 x48), 
 (C.int .i64 x49), (C.int .i64 x50), (C.int .i64 x51), (C.int .i64 x52), 
 (C.int .i64 x53), (C.int .i64 x54), (C.int .i64 x55), (C.int .i64 x56)])) ∧ 
 (∀ m57 : M, ((m57 = (M.new m44 (AO.cells 9 [(C.int .i64 x48), (C.int .i64 x49), 
 (C.int .i64 x50), (C.int .i64 x51), (C.int .i64 x52), (C.int .i64 x53), 
 (C.int .i64 x54), (C.int .i64 x55), (C.int .i64 x56)] false))) → 
 (∃ c58 : C, (∃ m59 : M, ((ApR prog 129 m57 c47 (C.sl m44.nxt 0 1 0 (some 1)) c58 m59) ∧ 
 (isPt (C.ptr m2.nxt 0) ∧ (∃ m60 : M, (((stC m59 (C.ptr m2.nxt 0) 1 [c58]) = (some m60)) ∧ 
 (R16 Ex.nrm m60)))))))))))))))))))))) (isPt (C.ptr m2.nxt 0) ∧ (∃ c61 : C, 
 (((ldC m44 (C.ptr m2.nxt 1)) = (some c61)) ∧ (∃ x62 : Int, (∃ x63 : Int, 
 (∃ x64 : Int, (∃ x65 : Int, (∃ x66 : Int, (∃ x67 : Int, (∃ x68 : Int, (∃ x69 : Int, 
 (∃ x70 : Int, (((ldA m44 (C.ptr m14.nxt 0) 9) = (some [(C.int .i64 x62), 
 (C.int .i64 x63), (C.int .i64 x64), (C.int .i64 x65), (C.int .i64 x66), 
 (C.int .i64 x67), (C.int .i64 x68), (C.int .i64 x69), (C.int .i64 x70)])) ∧ 
 (∀ m71 : M, ((m71 = (M.new m44 (AO.cells 9 [(C.int .i64 x62), (C.int .i64 x63), 
 (C.int .i64 x64), (C.int .i64 x65), (C.int .i64 x66), (C.int .i64 x67), 
 (C.int .i64 x68), (C.int .i64 x69), (C.int .i64 x70)] false))) → 
 (∃ c72 : C, (∃ m73 : M, ((ApR prog 129 m71 c61 (C.sl m44.nxt 0 1 0 (some 1)) c72 m73) ∧ 
 (isPt (C.ptr m2.nxt 0) ∧ (∃ m74 : M, (((stC m73 (C.ptr m2.nxt 1) 1 [c72]) = (some m74)) ∧ 
 (R16 Ex.nrm m74)))))))))))))))))))))))))))))))))))))))))))))))))))))))))))))))) (After.mk (fun m75 => 
 (∃ c76 : C, (∃ c77 : C, (((ldA m75 (C.ptr m2.nxt 0) 2) = (some [c76, c77])) ∧ 
 (∃ m78 : M, (((stC m75 (C.ptr m1.nxt 0) 2 [c76, c77]) = (some m78)) ∧ (∃ c79 : C, 
 (∃ c80 : C, (((ldA m78 (C.ptr m1.nxt 0) 2) = (some [c79, c80])) ∧ (Q (V.agg 2 [c79, 
 c80]) m78)))))))))) [] (fun m81 => (∃ c82 : C, (∃ c83 : C, (((ldA m81 (C.ptr m1.nxt 0) 2) = (some [c82, 
 c83])) ∧ (Q (V.agg 2 [c82, c83]) m81))))))))))))))))))))))))))) : Wc prog tbl 89 [(V.agg 6 [(C.int .i64 a100), (C.int .i64 a101), a102, (C.int .i64 a103), a104, a105]), (V.c (C.int .i64 a200))] m Q :=
 wc_eq (n := 2) rfl (by kernel_rfl) (by kernel_rfl) h
theorem w90 {a100 : C} {a101 : C} {a200 : C} {m : M} {Q : V → M → Prop} (h :
 (∀ m0 : M, ((m0 = (M.new m (AO.cells 2 [a100, a101] false))) → (∀ m1 : M, ((m1 = (M.new m0 (AO.cells 1 [a200] false))) → 
 (∀ m2 : M, ((m2 = (M.new m1 (AO.map [] 0))) → (∀ m3 : M, ((m3 = (M.new m2 (AO.cells 1 [C.map0] false))) → 
 (∃ m4 : M, (((stC m3 (C.ptr m2.nxt 0) 1 [(C.map m1.nxt)]) = (some m4)) ∧ (isPt (C.ptr m.nxt 0) ∧ 
 (∃ c5 : C, (((ldC m4 (C.ptr m.nxt 0)) = (some c5)) ∧ (isSl c5 ∧ (∀ R6 : List V → M → Prop, 
 ((∀ x7 : Int, (∀ m8 : M, ((ifB (decide (x7 < (((slLen c5) : Nat) : Int))) (∃ n9 : Nat, ((x7 = ((n9 : Nat) : Int)) ∧ 
 ((n9 < (slLen c5)) ∧ (∃ x10 : Int, (∃ x11 : Int, (∃ x12 : Int, (∃ x13 : Int, (∃ x14 : Int, 
 (∃ x15 : Int, (∃ x16 : Int, (∃ x17 : Int, (∃ x18 : Int, (((ldA m8 (slAt c5 (n9 * 9)) 9) = (some [(C.int .i64 x10), 
 (C.int .i64 x11), (C.int .i64 x12), (C.int .i64 x13), (C.int .i64 x14), 
 (C.int .i64 x15), (C.int .i64 x16), (C.int .i64 x17), (C.int .i64 x18)])) ∧ 
 (∀ m19 : M, ((m19 = (M.new m8 (AO.cells 9 [(C.int .i64 (0 : Int)), (C.int .i64 (0 : Int)), 
 (C.int .i64 (0 : Int)), (C.int .i64 (0 : Int)), (C.int .i64 (0 : Int)), 
 (C.int .i64 (0 : Int)), (C.int .i64 (0 : Int)), (C.int .i64 (0 : Int)), 
 (C.int .i64 (0 : Int))] false))) → (∃ m20 : M, (((stC m19 (C.ptr m8.nxt 0) 9 [(C.int .i64 x10), 
 (C.int .i64 x11), (C.int .i64 x12), (C.int .i64 x13), (C.int .i64 x14), 
 (C.int .i64 x15), (C.int .i64 x16), (C.int .i64 x17), (C.int .i64 x18)]) = (some m20)) ∧ 
 (∃ c21 : C, (((ldC m20 (C.ptr m2.nxt 0)) = (some c21)) ∧ (∃ x22 : Int, 
 (∃ x23 : Int, (∃ x24 : Int, (∃ x25 : Int, (∃ x26 : Int, (∃ x27 : Int, (∃ x28 : Int, 
 (∃ x29 : Int, (∃ x30 : Int, (((ldA m20 (C.ptr m8.nxt 0) 9) = (some [(C.int .i64 x22), 
 (C.int .i64 x23), (C.int .i64 x24), (C.int .i64 x25), (C.int .i64 x26), 
 (C.int .i64 x27), (C.int .i64 x28), (C.int .i64 x29), (C.int .i64 x30)])) ∧ 
 (∃ c31 : C, (((ldC m20 (C.ptr m0.nxt 0)) = (some c31)) ∧ (Wc prog tbl 105 [(V.agg 9 [(C.int .i64 x22), 
 (C.int .i64 x23), (C.int .i64 x24), (C.int .i64 x25), (C.int .i64 x26), 
 (C.int .i64 x27), (C.int .i64 x28), (C.int .i64 x29), (C.int .i64 x30)]), 
 (V.c c31)] m20 (fun v32 m33 => (∃ x34 : Int, (∃ x35 : Int, (∃ x36 : Int, (∃ x37 : Int, 
 (∃ x38 : Int, (∃ x39 : Int, (∃ x40 : Int, (∃ x41 : Int, (∃ x42 : Int, ((v32 = (V.agg 9 [(C.int .i64 x34), 
 (C.int .i64 x35), (C.int .i64 x36), (C.int .i64 x37), (C.int .i64 x38), 
 (C.int .i64 x39), (C.int .i64 x40), (C.int .i64 x41), (C.int .i64 x42)])) ∧ 
 ((ifB (noFnC c21) ((ldC m33 (C.ptr m2.nxt 0)) = (some c21)) False) ∧ 
 (∃ m43 : M, (((upM prog 108 m33 c21 (V.agg 9 [(C.int .i64 x34), (C.int .i64 x35), 
 (C.int .i64 x36), (C.int .i64 x37), (C.int .i64 x38), (C.int .i64 x39), 
 (C.int .i64 x40), (C.int .i64 x41), (C.int .i64 x42)]) (V.c (C.bool true))) = (some m43)) ∧ 
 (fitsP .i64 (x7 + (1 : Int)) ∧ (R6 [(V.c (C.int .i64 (x7 + (1 : Int))))] m43)))))))))))))))))))))))))))))))))))))))))))))))) (isPt (C.ptr m.nxt 0) ∧ 
 (∃ c44 : C, (((ldC m8 (C.ptr m.nxt 1)) = (some c44)) ∧ (Wc prog tbl 106 [(V.c c44), 
 (V.c (C.fn (Fn.func 107) [] [(W.c (C0.ptr m2.nxt 0)), (W.c (C0.ptr m0.nxt 0))]))] m8 (fun v45 m46 => 
 (∃ b47 : Bool, ((v45 = (V.c (C.bool b47))) ∧ (Q (V.c (C.bool b47)) m46))))))))) → 
 (R6 [(V.c (C.int .i64 x7))] m8)))) → (R6 [(V.c (C.int .i64 (0 : Int)))] m4)))))))))))))))))) : Wc prog tbl 90 [(V.agg 2 [a100, a101]), (V.c a200)] m Q :=
 wc_eq (n := 2) rfl (by kernel_rfl) (by kernel_rfl) h
theorem w103 {a100 : Int} {a200 : Int} {m : M} {Q : V → M → Prop} (h :
 (∀ m0 : M, ((m0 = (M.new m (AO.cells 1 [(C.int .i64 a100)] false))) → (∀ m1 : M, ((m1 = (M.new m0 (AO.cells 1 [(C.int .i64 a200)] false))) → 
 (Q (V.c (C.fn (Fn.func 116) [] [(W.c (C0.ptr m0.nxt 0)), (W.c (C0.ptr m.nxt 0))])) m1)))))) : Wc prog tbl 103 [(V.c (C.int .i64 a100)), (V.c (C.int .i64 a200))] m Q :=
 wc_eq (n := 2) rfl (by kernel_rfl) (by kernel_rfl) h
theorem w104 {a100 : C} {m : M} {Q : V → M → Prop} (h :
 (okN (TK.sl 3) a100 ∧ (okN (TK.sl 3) a100 ∧ (okN (TK.sl 3) C.sl0 ∧ ((((isNilC a100) || true) = true) ∧ (ifB ((isNilC a100) && true) (Q (V.c C.sl0) m) (∀ m0 : M, 
 ((m0 = (M.new m (AO.cells 0 [] false))) → (∃ c1 : C, (∃ m2 : M, ((ApR prog 22 m0 (C.sl m.nxt 0 0 0 (some 0)) a100 c1 m2) ∧ 
 (Q (V.c c1) m2)))))))))))) : Wc prog tbl 104 [(V.c a100)] m Q :=
 wc_eq (n := 1) rfl (by kernel_rfl) (by kernel_rfl) h
theorem w105 {a100 : Int} {a101 : Int} {a102 : Int} {a103 : Int} {a104 : Int} {a105 : Int} {a106 : Int} {a107 : Int} {a108 : Int} {a200 : C} {m : M} {Q : V → M → Prop} (h :
 (∀ m0 : M, ((m0 = (M.new m (AO.cells 9 [(C.int .i64 a100), (C.int .i64 a101), (C.int .i64 a102), 
 (C.int .i64 a103), (C.int .i64 a104), (C.int .i64 a105), (C.int .i64 a106), 
 (C.int .i64 a107), (C.int .i64 a108)] false))) → (∀ m1 : M, ((m1 = (M.new m0 (AO.cells 9 [(C.int .i64 (0 : Int)), 
 (C.int .i64 (0 : Int)), (C.int .i64 (0 : Int)), (C.int .i64 (0 : Int)), (C.int .i64 (0 : Int)), 
 (C.int .i64 (0 : Int)), (C.int .i64 (0 : Int)), (C.int .i64 (0 : Int)), (C.int .i64 (0 : Int))] false))) → 
 (∀ m2 : M, ((m2 = (M.new m1 (AO.cells 9 [(C.int .i64 (0 : Int)), (C.int .i64 (0 : Int)), 
 (C.int .i64 (0 : Int)), (C.int .i64 (0 : Int)), (C.int .i64 (0 : Int)), (C.int .i64 (0 : Int)), 
 (C.int .i64 (0 : Int)), (C.int .i64 (0 : Int)), (C.int .i64 (0 : Int))] false))) → 
 (isSl a200 ∧ (∀ R3 : List V → M → Prop, ((∀ x4 : Int, (∀ m5 : M, ((ifB (decide (x4 < (((slLen a200) : Nat) : Int))) (∃ n6 : Nat, 
 ((x4 = ((n6 : Nat) : Int)) ∧ ((n6 < (slLen a200)) ∧ (∃ x7 : Int, (((ldC m5 (slAt a200 (n6 * 1))) = (some (C.int .i64 x7))) ∧ 
 (isPt (C.ptr m.nxt 0) ∧ (∃ n8 : Nat, ((x7 = ((n8 : Nat) : Int)) ∧ ((n8 < 9) ∧ (∃ x9 : Int, 
 (((ldC m5 (C.ptr m.nxt (0 + (n8 * 1)))) = (some (C.int .i64 x9))) ∧ 
 (isPt (C.ptr m1.nxt 0) ∧ (∃ n10 : Nat, ((x7 = ((n10 : Nat) : Int)) ∧ ((n10 < 9) ∧ 
 (∃ m11 : M, (((stC m5 (C.ptr m1.nxt (0 + (n10 * 1))) 1 [(C.int .i64 x9)]) = (some m11)) ∧ 
 (fitsP .i64 (x4 + (1 : Int)) ∧ (R3 [(V.c (C.int .i64 (x4 + (1 : Int))))] m11))))))))))))))))))) (∃ x12 : Int, 
 (∃ x13 : Int, (∃ x14 : Int, (∃ x15 : Int, (∃ x16 : Int, (∃ x17 : Int, (∃ x18 : Int, (∃ x19 : Int, 
 (∃ x20 : Int, (((ldA m5 (C.ptr m1.nxt 0) 9) = (some [(C.int .i64 x12), 
 (C.int .i64 x13), (C.int .i64 x14), (C.int .i64 x15), (C.int .i64 x16), 
 (C.int .i64 x17), (C.int .i64 x18), (C.int .i64 x19), (C.int .i64 x20)])) ∧ 
 (∃ m21 : M, (((stC m5 (C.ptr m0.nxt 0) 9 [(C.int .i64 x12), (C.int .i64 x13), 
 (C.int .i64 x14), (C.int .i64 x15), (C.int .i64 x16), (C.int .i64 x17), 
 (C.int .i64 x18), (C.int .i64 x19), (C.int .i64 x20)]) = (some m21)) ∧ 
 (∃ x22 : Int, (∃ x23 : Int, (∃ x24 : Int, (∃ x25 : Int, (∃ x26 : Int, (∃ x27 : Int, 
 (∃ x28 : Int, (∃ x29 : Int, (∃ x30 : Int, (((ldA m21 (C.ptr m0.nxt 0) 9) = (some [(C.int .i64 x22), 
 (C.int .i64 x23), (C.int .i64 x24), (C.int .i64 x25), (C.int .i64 x26), 
 (C.int .i64 x27), (C.int .i64 x28), (C.int .i64 x29), (C.int .i64 x30)])) ∧ 
 (Q (V.agg 9 [(C.int .i64 x22), (C.int .i64 x23), (C.int .i64 x24), 
 (C.int .i64 x25), (C.int .i64 x26), (C.int .i64 x27), (C.int .i64 x28), 
 (C.int .i64 x29), (C.int .i64 x30)]) m21)))))))))))))))))))))))) → 
 (R3 [(V.c (C.int .i64 x4))] m5)))) → (R3 [(V.c (C.int .i64 (0 : Int)))] m2))))))))))) : Wc prog tbl 105 [(V.agg 9 [(C.int .i64 a100), (C.int .i64 a101), (C.int .i64 a102), (C.int .i64 a103), (C.int .i64 a104), (C.int .i64 a105), (C.int .i64 a106), (C.int .i64 a107), (C.int .i64 a108)]), (V.c a200)] m Q :=
 wc_eq (n := 2) rfl (by kernel_rfl) (by kernel_rfl) h
theorem w106 {a100 : C} {a200 : C} {m : M} {Q : V → M → Prop} (h :
 (∀ m0 : M, ((m0 = (M.new m (AO.cells 1 [a200] false))) → (Wc prog tbl 118 [(V.c a100), (V.c (C.fn (Fn.func 119) [] [(W.c (C0.ptr m.nxt 0))]))] m0 (fun v1 m2 => 
 (∃ b3 : Bool, ((v1 = (V.c (C.bool b3))) ∧ (Q (V.c (C.bool (!b3))) m2)))))))) : Wc prog tbl 106 [(V.c a100), (V.c a200)] m Q :=
 wc_eq (n := 2) rfl (by kernel_rfl) (by kernel_rfl) h
theorem w118 {a100 : C} {a200 : C} {m : M} {Q : V → M → Prop} (h :
 (Wc prog tbl 125 [(V.c a100), (V.c a200)] m (fun v0 m1 => (∃ x2 : Int, ((v0 = (V.c (C.int .i64 x2))) ∧ (Q (V.c (C.bool (decide ((0 : Int) ≤ x2)))) m1)))))) : Wc prog tbl 118 [(V.c a100), (V.c a200)] m Q :=
 wc_eq (n := 2) rfl (by kernel_rfl) (by kernel_rfl) h
theorem w125 {a100 : C} {a200 : C} {m : M} {Q : V → M → Prop} (h :
 (isSl a100 ∧ (∀ R0 : List V → M → Prop, ((∀ x1 : Int, (∀ x2 : Int, (∀ m3 : M, ((ifB (decide (x2 < (((slLen a100) : Nat) : Int))) (∃ n4 : Nat, 
 ((x2 = ((n4 : Nat) : Int)) ∧ ((n4 < (slLen a100)) ∧ (∃ x5 : Int, (∃ x6 : Int, (∃ x7 : Int, (∃ x8 : Int, 
 (∃ x9 : Int, (∃ x10 : Int, (∃ x11 : Int, (∃ x12 : Int, (∃ x13 : Int, (((ldA m3 (slAt a100 (n4 * 9)) 9) = (some [(C.int .i64 x5), 
 (C.int .i64 x6), (C.int .i64 x7), (C.int .i64 x8), (C.int .i64 x9), 
 (C.int .i64 x10), (C.int .i64 x11), (C.int .i64 x12), (C.int .i64 x13)])) ∧ 
 (callP prog tbl [(V.agg 9 [(C.int .i64 x5), (C.int .i64 x6), (C.int .i64 x7), 
 (C.int .i64 x8), (C.int .i64 x9), (C.int .i64 x10), (C.int .i64 x11), 
 (C.int .i64 x12), (C.int .i64 x13)])] a200 m3 (fun v14 m15 => (∃ b16 : Bool, 
 ((v14 = (V.c (C.bool b16))) ∧ (ifB b16 (Q (V.c (C.int .i64 x2)) m15) (fitsP .i64 (x2 + (1 : Int)) ∧ 
 (R0 [(V.c (C.int .i64 x1)), (V.c (C.int .i64 (x2 + (1 : Int))))] m15)))))))))))))))))))) (Q (V.c (C.int .i64 (-1 : Int))) m3)) → 
 (R0 [(V.c (C.int .i64 x1)), (V.c (C.int .i64 x2))] m3))))) → (R0 [(V.c (C.int .i64 (0 : Int))), 
 (V.c (C.int .i64 (0 : Int)))] m))))) : Wc prog tbl 125 [(V.c a100), (V.c a200)] m Q :=
 wc_eq (n := 2) rfl (by kernel_rfl) (by kernel_rfl) h
end
end Go.Proofs.Ytgkjfhkjgdiodaa

namespace Go.Proofs.Ytgkjfhkjgdiodaa
open _root_.Go.Proofs.Try
open Go.Abs
set_option maxRecDepth 100000
noncomputable section
theorem w116 (y : C) (b b2 : Nat) {m : M} {Q : V → M → Prop} (h :
 (∀ m0 : M, ((m0 = (M.new m (AO.cells 1 [y] false))) → (∃ x1 : Int, (((ldC m0 (C.ptr b 0)) = (some (C.int .i64 x1))) ∧ 
 (∃ n2 : Nat, (∃ n3 : Nat, ((x1 = ((n2 : Nat) : Int)) ∧ ((x1 = ((n3 : Nat) : Int)) ∧ ((n2 ≤ n3) ∧ ((n3 ≤ 4096) ∧ 
 (∀ m4 : M, ((m4 = (M.new m0 (AO.cells (n3 * 1) (repeatS [(C.int .i64 (0 : Int))] n3) false))) → 
 (∀ m5 : M, ((m5 = (M.new m4 (AO.cells 1 [C.sl0] false))) → (∃ m6 : M, (((stC m5 (C.ptr m4.nxt 0) 1 [(C.sl m0.nxt 0 n2 0 (some n3))]) = (some m6)) ∧ 
 (∀ m7 : M, ((m7 = (M.new m6 (AO.cells 1 [C.nilFn] false))) → (∃ m8 : M, (((stC m7 (C.ptr m6.nxt 0) 1 [(C.fn (Fn.func 117) [] [(W.c (C0.ptr b 0)), 
 (W.c (C0.ptr m.nxt 0)), (W.c (C0.ptr m4.nxt 0)), (W.c (C0.ptr b2 0)), (W.c (C0.ptr m6.nxt 0))])]) = (some m8)) ∧ 
 (∃ c9 : C, (((ldC m8 (C.ptr m6.nxt 0)) = (some c9)) ∧ (callP prog tbl [(V.c (C.int .i64 (0 : Int))), 
 (V.c (C.int .i64 (0 : Int)))] c9 m8 (fun v10 m11 => (∃ b12 : Bool, ((v10 = (V.c (C.bool b12))) ∧ 
 (Q (V.tup []) m11)))))))))))))))))))))))))))) : Wc prog tbl 116 [.c y, .c (.ptr b 0), .c (.ptr b2 0)] m Q :=
 wc_eq (n := 3) rfl (by kernel_rfl) (by kernel_rfl) h
theorem w117 (at' from' : Int) (b k h2 b2 cv : Nat) {m : M} {Q : V → M → Prop} (h :
 (∃ x0 : Int, (((ldC m (C.ptr b 0)) = (some (C.int .i64 x0))) ∧ (ifB (decide (at' = x0)) (∃ c1 : C, 
 (((ldC m (C.ptr k 0)) = (some c1)) ∧ (∃ c2 : C, (((ldC m (C.ptr h2 0)) = (some c2)) ∧ (callP prog tbl [(V.c c2)] c1 m (fun v3 m4 => 
 (∃ b5 : Bool, ((v3 = (V.c (C.bool b5))) ∧ (Q (V.c (C.bool b5)) m4))))))))) (∀ R6 : List V → M → Prop, 
 ((∀ b7 : Bool, (∀ x8 : Int, (∀ m9 : M, ((∃ x10 : Int, (((ldC m9 (C.ptr b2 0)) = (some (C.int .i64 x10))) ∧ 
 (ifB (decide (x8 < x10)) (∃ c11 : C, (((ldC m9 (C.ptr h2 0)) = (some c11)) ∧ (∃ n12 : Nat, 
 ((at' = ((n12 : Nat) : Int)) ∧ ((n12 < (slLen c11)) ∧ (∃ m13 : M, (((stC m9 (slAt c11 (n12 * 1)) 1 [(C.int .i64 x8)]) = (some m13)) ∧ 
 (∃ c14 : C, (((ldC m13 (C.ptr cv 0)) = (some c14)) ∧ (fitsP .i64 (at' + (1 : Int)) ∧ 
 (fitsP .i64 (x8 + (1 : Int)) ∧ (callP prog tbl [(V.c (C.int .i64 (at' + (1 : Int)))), 
 (V.c (C.int .i64 (x8 + (1 : Int))))] c14 m13 (fun v15 m16 => (∃ b17 : Bool, 
 ((v15 = (V.c (C.bool b17))) ∧ (ifB (!b17) (Q (V.c (C.bool false)) m16) (fitsP .i64 (x8 + (1 : Int)) ∧ 
 (R6 [(V.c (C.bool b7)), (V.c (C.int .i64 (x8 + (1 : Int))))] m16)))))))))))))))))) (Q (V.c (C.bool true)) m9)))) → 
 (R6 [(V.c (C.bool b7)), (V.c (C.int .i64 x8))] m9))))) → (R6 [(V.c (C.bool false)), (V.c (C.int .i64 from'))] m))))))) : Wc prog tbl 117 [.c (.int .i64 at'), .c (.int .i64 from'), .c (.ptr b 0), .c (.ptr k 0), .c (.ptr h2 0), .c (.ptr b2 0), .c (.ptr cv 0)] m Q :=
 wc_eq (n := 7) rfl (by kernel_rfl) (by kernel_rfl) h
end
end Go.Proofs.Ytgkjfhkjgdiodaa

namespace Go.Abs
noncomputable section
variable {P : Program} {T : List (Nat × Bool)}
/-- calls of the body of the loop l: I i: i values have been handed out; E: no more are wanted -/
structure ClientV (P : Program) (T : List (Nat × Bool)) (n0 l : Nat) (Vs : Nat → List V → M → Prop) (I : Nat → (Nat → Prop) → M → Prop) (E : (Nat → Prop) → M → Prop) : Prop where
  li : ∀ i, Local n0 (I i)
  le : Local n0 E
  yield : ∀ i x S m, Vs i x m → I i S m → ∀ Q : V → M → Prop, (∀ S' m', Own S m S' → Chg S m m' → I (i + 1) S' m' → Q (.c (.bool true)) m') → (∀ S' m', Own S m S' → Chg S m m' → E S' m' → Q (.c (.bool false)) m') → Wy P T l x m Q
/-- the function value hands out len values; Vs n i: what is said of the one with number i, in blocks from n on; it reads blocks of D, of which R holds -/
structure IterV (P : Program) (T : List (Nat × Bool)) (x : C) (len : Nat) (Vs : Nat → Nat → List V → M → Prop) (D : Nat → Prop) (R : M → Prop) : Prop where
  st : ∀ m m', R m → m.nxt ≤ m'.nxt → m'.vw = m.vw → (∀ b, D b → m'.g b = m.g b) → R m'
  lt : ∀ m, R m → ∀ b, D b → b < m.nxt
  run : ∀ n0 l I E S m, ClientV P T n0 l (Vs m.nxt) I E → n0 ≤ m.nxt → I 0 S m → R m → (∀ b, S b → ¬ D b) → ∀ Q : V → M → Prop, (∀ v S' m', Own S m S' → Chg S m m' → I len S' m' ∨ E S' m' → Q v m') → callP P T [.c (.fn (.yield l) [] [])] x m Q
/-- A LOOP OVER WHAT IS HANDED OUT: J i: i rounds have been gone; X: the body has been left -/
theorem range_iterV {g : FuncId} {a b : List W} {len : Nat} {Vs : Nat → Nat → List V → M → Prop} {D : Nat → Prop} {R : M → Prop} (hi : IterV P T (.fn (.func g) a b) len Vs D R) {m : M} (hR : R m) {round : Round} {after : After}
    (J : Nat → (Nat → Prop) → M → Prop) (X : Ex → (Nat → Prop) → M → Prop) (hJ : ∀ i, Local m.nxt (J i)) (hX : ∀ ex, Local m.nxt (X ex)) {S0 : Nat → Prop} (h0 : J 0 S0 m) (hS0 : ∀ b, S0 b → ¬ D b)
    (hround : ∀ i x S m1 (B : M → Prop) (enter : M → (M → Prop) → Prop) (K : Ex → M → Prop), Vs (m.nxt + 1) i x m1 → J i S m1 → m.nxt < m1.nxt → ¬ S m.nxt → Own S0 m S →
      (∀ m2 k, m2.g m.nxt = m1.g m.nxt → (∀ m3, m3.nxt = m2.nxt → m3.vw = m2.vw → (∀ b, b ≠ m.nxt → m3.g b = m2.g b) → (∀ m4 : M, m4.g m.nxt = m3.g m.nxt → B m4) → k m3) → enter m2 k) →
      (∀ ex S' m4, B m4 → m1.nxt ≤ m4.nxt → m4.vw = m1.vw → (∀ b, b < m1.nxt → ¬ S b → b ≠ m.nxt → m4.g b = m1.g b) → Own S m1 S' → (match ex with | .nrm => J (i + 1) S' m4 | .val _ => False | ex => X ex S' m4) → K ex m4) → round x m1 enter K)
    (hend : ∀ S' m5, Own S0 m S' → m.nxt < m5.nxt → m5.vw = m.vw → (∀ b, b < m.nxt → ¬ S0 b → m5.g b = m.g b) → J len S' m5 → after.nrm m5)
    (hexit : ∀ id S' m5, Own S0 m S' → m.nxt < m5.nxt → m5.vw = m.vw → (∀ b, b < m.nxt → ¬ S0 b → m5.g b = m.g b) → X (.exit id) S' m5 → exitP id m5 after.exits)
    (hret : ∀ S' m5, Own S0 m S' → m.nxt < m5.nxt → m5.vw = m.vw → (∀ b, b < m.nxt → ¬ S0 b → m5.g b = m.g b) → X .ret S' m5 → after.ret m5) :
    rangeP P T (.fn (.func g) a b) m round after := by
  intro mk hy
  have hlt0 := (hJ 0).lt _ _ h0
  -- the client: the record of the loop is its own, too
  let I : Nat → (Nat → Prop) → M → Prop := fun i S m1 => ∃ SJ, (∀ b, S b ↔ SJ b ∨ b = m.nxt) ∧ ¬ SJ m.nxt ∧ m1.g m.nxt = some (mk .ready none) ∧ J i SJ m1 ∧ m.nxt < m1.nxt ∧ Own S0 m SJ
  let E : (Nat → Prop) → M → Prop := fun S m1 => ∃ SJ, (∀ b, S b ↔ SJ b ∨ b = m.nxt) ∧ ¬ SJ m.nxt ∧ m.nxt < m1.nxt ∧ Own S0 m SJ ∧ ((∃ id, m1.g m.nxt = some (mk .done (some (.exit id))) ∧ X (.exit id) SJ m1) ∨ (m1.g m.nxt = some (mk .done (some .ret)) ∧ X .ret SJ m1))
  have hc : ClientV P T m.nxt m.nxt (Vs (m.nxt + 1)) I E := by
    refine ⟨fun i => ⟨fun S m1 m2 h hn hw hs h0' => ?_, fun S m1 h b hb => ?_⟩, ⟨fun S m1 m2 h hn hw hs h0' => ?_, fun S m1 h b hb => ?_⟩, fun i x S m1 hx h Q hT hF => ?_⟩
    · obtain ⟨SJ, q1, q2, q3, q4, q5, q6⟩ := h
      exact ⟨SJ, q1, q2, by rw [hs _ ((q1 _).2 (.inr rfl))]; exact q3, (hJ i).st _ _ _ q4 hn hw (fun b hb => hs b ((q1 b).2 (.inl hb))) h0', by omega, q6⟩
    · obtain ⟨SJ, q1, q2, q3, q4, q5, q6⟩ := h
      rcases (q1 b).1 hb with hb | hb
      · exact (hJ i).lt _ _ q4 b hb
      · omega
    · obtain ⟨SJ, q1, q2, q5, q6, q7⟩ := h
      refine ⟨SJ, q1, q2, by omega, q6, ?_⟩
      have hl : m2.g m.nxt = m1.g m.nxt := hs _ ((q1 _).2 (.inr rfl))
      rcases q7 with ⟨id, q8, q9⟩ | ⟨q8, q9⟩
      · exact .inl ⟨id, by rw [hl]; exact q8, (hX _).st _ _ _ q9 hn hw (fun b hb => hs b ((q1 b).2 (.inl hb))) h0'⟩
      · exact .inr ⟨by rw [hl]; exact q8, (hX _).st _ _ _ q9 hn hw (fun b hb => hs b ((q1 b).2 (.inl hb))) h0'⟩
    · obtain ⟨SJ, q1, q2, q5, q6, q7⟩ := h
      rcases (q1 b).1 hb with hb | hb
      · rcases q7 with ⟨id, q8, q9⟩ | ⟨q8, q9⟩
        · exact (hX _).lt _ _ q9 b hb
        · exact (hX _).lt _ _ q9 b hb
      · omega
    · obtain ⟨SJ, q1, q2, q3, q4, q5, q6⟩ := h
      refine hy x m1 Q q3 (hround i x SJ m1 (fun m4 => m4.g m.nxt = some (mk .busy none)) _ _ hx q4 q5 q2 q6 (fun m2 k hm2 hk => ⟨by rw [hm2]; exact q3, hk _ (M.nxt_set ..) rfl (fun b hb => by rw [M.g_set, if_neg hb]) fun m4 hm4 => by rw [hm4, M.g_set, if_pos rfl]⟩) fun ex S' m4 hB hn hvw hfr hown hres => ?_)
      have hS'l : ¬ S' m.nxt := fun h => by
        rcases hown _ h with h | h
        · exact q2 h
        · omega
      have hown2 : Own S m1 (fun b => S' b ∨ b = m.nxt) := fun b hb => by
        rcases hb with hb | hb
        · exact (hown b hb).imp (fun h => (q1 b).2 (.inl h)) id
        · exact .inl ((q1 b).2 (.inr hb))
      have hown3 : Own S0 m S' := fun b hb => by
        rcases hown b hb with h | h
        · exact q6 b h
        · exact .inr (by omega)
      have hchg : ∀ o, Chg S m1 (m4.set m.nxt o) := fun o => ⟨hn, fun b hb hSb => by
        have hbl : b ≠ m.nxt := fun h => hSb ((q1 b).2 (.inr h))
        rw [M.g_set, if_neg hbl]
        exact hfr b hb (fun h => hSb ((q1 b).2 (.inl h))) hbl, hvw⟩
      have hset : ∀ o b, S' b → (m4.set m.nxt o).g b = m4.g b := fun o b hb => by
        rw [M.g_set, if_neg fun h => hS'l (by rw [← h]; exact hb)]
      have hlow : ∀ o b, b < m.nxt → (m4.set m.nxt o).g b = m4.g b := fun o b hb => by rw [M.g_set, if_neg (by omega)]
      refine ⟨⟨_, _, hB⟩, ?_⟩
      cases ex with
      | nrm => exact hT _ _ hown2 (hchg _) ⟨S', fun b => Iff.rfl, hS'l, by rw [M.g_set, if_pos rfl], (hJ _).st _ _ _ hres (Nat.le_refl _) rfl (hset _) (hlow _), by show m.nxt < m4.nxt; omega, hown3⟩
      | exit id => exact hF _ _ hown2 (hchg _) ⟨S', fun b => Iff.rfl, hS'l, by show m.nxt < m4.nxt; omega, hown3, .inl ⟨id, by rw [M.g_set, if_pos rfl], (hX _).st _ _ _ hres (Nat.le_refl _) rfl (hset _) (hlow _)⟩⟩
      | ret => exact hF _ _ hown2 (hchg _) ⟨S', fun b => Iff.rfl, hS'l, by show m.nxt < m4.nxt; omega, hown3, .inr ⟨by rw [M.g_set, if_pos rfl], (hX _).st _ _ _ hres (Nat.le_refl _) rfl (hset _) (hlow _)⟩⟩
      | val v => exact hres.elim
  have hDlt := hi.lt _ hR
  have hRn : R (m.new (mk .ready none)) := hi.st _ _ hR (Nat.le_succ _) rfl fun b hb => by rw [M.g_new, if_neg (by have := hDlt b hb; omega)]
  have hI0 : I 0 (fun b => S0 b ∨ b = m.nxt) (m.new (mk .ready none)) := ⟨S0, fun b => Iff.rfl, fun h => by have := hlt0 _ h; omega, by rw [M.g_new, if_pos rfl], (hJ 0).st _ _ _ h0 (Nat.le_succ _) rfl (fun b hb => by rw [M.g_new, if_neg (by have := hlt0 b hb; omega)]) (fun b hb => by rw [M.g_new, if_neg (by omega)]), Nat.lt_succ_self _, fun b hb => .inl hb⟩
  refine hi.run m.nxt m.nxt I E _ (m.new (mk .ready none)) hc (Nat.le_succ _) hI0 hRn (fun b hb hD => ?_) _ fun v S' m5 hown hchg hfin => ?_
  · rcases hb with hb | hb
    · exact hS0 b hb hD
    · have := hDlt b hD; omega
  · have hvw5 : (m5.del m.nxt).vw = m.vw := hchg.vw
    have hfr : ∀ b, b < m.nxt → ¬ S0 b → (m5.del m.nxt).g b = m.g b := fun b hb hS => by
      rw [M.g_del, if_neg (by omega), hchg.g b (by show b < m.nxt + 1; omega) (fun h => h.elim hS fun h => by omega), M.g_new, if_neg (by omega)]
    have hlowd : ∀ b, b < m.nxt → (m5.del m.nxt).g b = m5.g b := fun b hb => by rw [M.g_del, if_neg (by omega)]
    have hdel : ∀ SJ : Nat → Prop, ¬ SJ m.nxt → ∀ b, SJ b → (m5.del m.nxt).g b = m5.g b := fun SJ hl b hb => by rw [M.g_del, if_neg fun h => hl (by rw [← h]; exact hb)]
    rcases hfin with ⟨SJ, q1, q2, q3, q4, q5, q6⟩ | ⟨SJ, q1, q2, q5, q6, q7⟩
    · exact ⟨_, _, q3, (fun h => by cases h), hend SJ _ q6 q5 hvw5 hfr ((hJ _).st _ _ _ q4 (Nat.le_refl _) rfl (hdel SJ q2) hlowd)⟩
    · rcases q7 with ⟨id, q8, q9⟩ | ⟨q8, q9⟩
      · exact ⟨_, _, q8, (fun h => by cases h), hexit id SJ _ q6 q5 hvw5 hfr ((hX _).st _ _ _ q9 (Nat.le_refl _) rfl (hdel SJ q2) hlowd)⟩
      · exact ⟨_, _, q8, (fun h => by cases h), hret SJ _ q6 q5 hvw5 hfr ((hX _).st _ _ _ q9 (Nat.le_refl _) rfl (hdel SJ q2) hlowd)⟩
end
end Go.Abs

