/- An evaluator of the code of a program, its soundness, what calls ask, memory, and what functions of the program do. Condition: none; a lemma text of this claim. -/
import Derived.Test.YtbhdgedghfibcaaTqF

namespace Go.Proofs.Ytbhdgedghfibcaa
open _root_.Go.Proofs.Try
open Go.Abs
set_option maxRecDepth 100000
noncomputable section
theorem w16 {a100 : C} {m : M} {Q : V → M → Prop} (h :
 (isSl a100 ∧ ifB (decide ((5 : Int) < (((slLen a100) : Nat) : Int))) (Q (V.c (C.bool false)) m) (∀ R0 : List V → 
 M → Prop, (∀ b1 : Bool, ∀ b2 : Bool, ∀ b3 : Bool, ∀ x4 : Int, ∀ m5 : M, (isSl a100 ∧ ifB (decide (x4 < (((slLen a100) : Nat) : Int))) (∃ n6 : Nat, 
 (x4 = ((n6 : Nat) : Int)) ∧ (n6 < (slLen a100)) ∧ isPt (slAt a100 (n6 * 6)) ∧ ∃ c7 : C, ((ldC m5 (ptAdd (slAt a100 (n6 * 6)) 3)) = (some c7)) ∧ 
 isSl c7 ∧ ifB (decide ((7 : Int) < (((slLen c7) : Nat) : Int))) (Q (V.c (C.bool false)) m5) (∃ n8 : Nat, 
 (x4 = ((n8 : Nat) : Int)) ∧ (n8 < (slLen a100)) ∧ isPt (slAt a100 (n8 * 6)) ∧ ∃ c9 : C, 
 ((ldC m5 (ptAdd (slAt a100 (n8 * 6)) 4)) = (some c9)) ∧ isSl c9 ∧ ifB (decide ((7 : Int) < (((slLen c9) : Nat) : Int))) (Q (V.c (C.bool false)) m5) (∃ n10 : Nat, 
 (x4 = ((n10 : Nat) : Int)) ∧ (n10 < (slLen a100)) ∧ isPt (slAt a100 (n10 * 6)) ∧ 
 ∃ c11 : C, ((ldC m5 (ptAdd (slAt a100 (n10 * 6)) 5)) = (some c11)) ∧ 
 isSl c11 ∧ ifB (decide ((5 : Int) < (((slLen c11) : Nat) : Int))) (Q (V.c (C.bool false)) m5) (∀ R12 : List V → 
 M → Prop, (∀ b13 : Bool, ∀ b14 : Bool, ∀ x15 : Int, ∀ m16 : M, (∃ n17 : Nat, 
 (x4 = ((n17 : Nat) : Int)) ∧ (n17 < (slLen a100)) ∧ isPt (slAt a100 (n17 * 6)) ∧ 
 ∃ c18 : C, ((ldC m16 (ptAdd (slAt a100 (n17 * 6)) 5)) = (some c18)) ∧ 
 isSl c18 ∧ ifB (decide (x15 < (((slLen c18) : Nat) : Int))) (∃ n19 : Nat, (x4 = ((n19 : Nat) : Int)) ∧ 
 (n19 < (slLen a100)) ∧ isPt (slAt a100 (n19 * 6)) ∧ ∃ c20 : C, ((ldC m16 (ptAdd (slAt a100 (n19 * 6)) 5)) = (some c20)) ∧ 
 ∃ n21 : Nat, (x15 = ((n21 : Nat) : Int)) ∧ (n21 < (slLen c20)) ∧ ∃ c22 : C, 
 ((ldC m16 (slAt c20 (n21 * 1))) = (some c22)) ∧ isSl c22 ∧ ifB (decide ((7 : Int) < (((slLen c22) : Nat) : Int))) (Q (V.c (C.bool false)) m16) (∀ R23 : List V → 
 M → Prop, (∀ b24 : Bool, ∀ x25 : Int, ∀ m26 : M, (∃ n27 : Nat, (x4 = ((n27 : Nat) : Int)) ∧ 
 (n27 < (slLen a100)) ∧ isPt (slAt a100 (n27 * 6)) ∧ ∃ c28 : C, ((ldC m26 (ptAdd (slAt a100 (n27 * 6)) 5)) = (some c28)) ∧ 
 ∃ n29 : Nat, (x15 = ((n29 : Nat) : Int)) ∧ (n29 < (slLen c28)) ∧ ∃ c30 : C, 
 ((ldC m26 (slAt c28 (n29 * 1))) = (some c30)) ∧ isSl c30 ∧ ifB (decide (x25 < (((slLen c30) : Nat) : Int))) (∃ n31 : Nat, 
 (x4 = ((n31 : Nat) : Int)) ∧ (n31 < (slLen a100)) ∧ isPt (slAt a100 (n31 * 6)) ∧ 
 ∃ c32 : C, ((ldC m26 (ptAdd (slAt a100 (n31 * 6)) 5)) = (some c32)) ∧ 
 ∃ n33 : Nat, (x15 = ((n33 : Nat) : Int)) ∧ (n33 < (slLen c32)) ∧ ∃ c34 : C, 
 ((ldC m26 (slAt c32 (n33 * 1))) = (some c34)) ∧ ∃ n35 : Nat, (x25 = ((n35 : Nat) : Int)) ∧ 
 (n35 < (slLen c34)) ∧ ∃ c36 : C, ((ldC m26 (slAt c34 (n35 * 1))) = (some c36)) ∧ 
 isSl c36 ∧ ifB (decide ((7 : Int) < (((slLen c36) : Nat) : Int))) (Q (V.c (C.bool false)) m26) (fitsP .i64 (x25 + 1) ∧ 
 R23 [(V.c (C.bool b24)), (V.c (Il (x25 + 1)))] m26)) (fitsP .i64 (x15 + 1) ∧ 
 R12 [(V.c (C.bool b24)), (V.c (C.bool b24)), (V.c (Il (x15 + 1)))] m26)) → 
 R23 [(V.c (C.bool b24)), (V.c (Il x25))] m26) → R23 [(V.c (C.bool b13)), 
 (V.c (Il 0))] m16)) (fitsP .i64 (x4 + 1) ∧ 
 R0 [(V.c (C.bool b13)), (V.c (C.bool b13)), (V.c (C.bool b13)), (V.c (Il (x4 + 1)))] m16)) → 
 R12 [(V.c (C.bool b13)), (V.c (C.bool b14)), (V.c (Il x15))] m16) → 
 R12 [(V.c (C.bool b1)), (V.c (C.bool b1)), (V.c (Il 0))] m5)))) (Q (V.c (C.bool true)) m5)) → 
 R0 [(V.c (C.bool b1)), (V.c (C.bool b2)), (V.c (C.bool b3)), (V.c (Il x4))] m5) → 
 R0 [(V.c (C.bool false)), (V.c (C.bool false)), (V.c (C.bool false)), (V.c (Il 0))] m))) : Wc prog tbl 16 [(V.c a100)] m Q :=
 wc_eq (n := 1) rfl (by kernel_rfl) (by kernel_rfl) h
theorem w20 {a100 : C} {m : M} {Q : V → M → Prop} (h :
 (Wc prog tbl 59 [(V.c a100)] m (fun v0 m1 => ∃ x2, (v0 = (V.c (Il x2))) ∧ Q (V.c (Il x2)) m1))) : Wc prog tbl 20 [(V.c a100)] m Q :=
 wc_eq (n := 1) rfl (by kernel_rfl) (by kernel_rfl) h
theorem w23 {a100 : C} {m : M} {Q : V → M → Prop} (h :
 (∃ n0 : Nat, ((0 : Int) = ((n0 : Nat) : Int)) ∧ (n0 < (slLen a100)) ∧ isPt (slAt a100 (n0 * 6)) ∧ ∃ c1 : C, 
 ((ldC m (ptAdd (slAt a100 (n0 * 6)) 5)) = (some c1)) ∧ isSl c1 ∧ Q (V.c (Il (((slLen c1) : Nat) : Int))) m)) : Wc prog tbl 23 [(V.c a100)] m Q :=
 wc_eq (n := 1) rfl (by kernel_rfl) (by kernel_rfl) h
theorem w26 {a100 : Int} {a101 : Int} {a102 : Int} {a103 : Int} {a104 : Int} {a105 : Int} {m : M} {Q : V → M → Prop} (h :
 (∀ m0 : M, (m0 = (M.new m (AO.cells 6 [(Il a100), (Il a101), (Il a102), 
 (Il a103), (Il a104), (Il a105)] false))) → ∀ m1 : M, (m1 = (M.new m0 (AO.cells 6 [(Il 0), 
 (Il 0), (Il 0), (Il 0), (Il 0), 
 (Il 0)] false))) → isPt (C.ptr m.nxt 0) ∧ ∃ x2, ((ldC m1 (C.ptr m.nxt 0)) = (some (Il x2))) ∧ 
 isPt (C.ptr m.nxt 0) ∧ ∃ x3, ((ldC m1 (C.ptr m.nxt 1)) = (some (Il x3))) ∧ 
 isPt (C.ptr m.nxt 0) ∧ ∃ x4, ∃ x5, ((ldA m1 (C.ptr m.nxt 2) 2) = (some [(Il x4), 
 (Il x5)])) ∧ Wc prog tbl 36 [(V.agg 2 [(Il x4), (Il x5)])] m1 (fun v6 m7 => 
 ∃ x8, ∃ x9, (v6 = (V.agg 2 [(Il x8), (Il x9)])) ∧ 
 ((ldC m7 (C.ptr m.nxt 1)) = (some (Il x3))) ∧ ((ldC m7 (C.ptr m.nxt 0)) = (some (Il x2))) ∧ 
 isPt (C.ptr m.nxt 0) ∧ ∃ x10, ∃ x11, ((ldA m7 (C.ptr m.nxt 4) 2) = (some [(Il x10), 
 (Il x11)])) ∧ ((ldA m1 (C.ptr m.nxt 4) 2) = (some [(Il x10), 
 (Il x11)])) ∧ Wc prog tbl 36 [(V.agg 2 [(Il x10), 
 (Il x11)])] m7 (fun v12 m13 => ∃ x14, ∃ x15, (v12 = (V.agg 2 [(Il x14), 
 (Il x15)])) ∧ ((ldC m13 (C.ptr m.nxt 1)) = (some (Il x3))) ∧ 
 ((ldC m13 (C.ptr m.nxt 0)) = (some (Il x2))) ∧ ∃ m16 : M, 
 ((stC m13 (C.ptr m0.nxt 0) 6 [(Il x2), (Il x3), 
 (Il x8), (Il x9), (Il x14), (Il x15)]) = (some m16)) ∧ 
 ∃ x17, ∃ x18, ∃ x19, ∃ x20, ∃ x21, ∃ x22, 
 ((ldA m16 (C.ptr m0.nxt 0) 6) = (some [(Il x17), (Il x18), 
 (Il x19), (Il x20), (Il x21), (Il x22)])) ∧ 
 Q (V.agg 6 [(Il x17), (Il x18), (Il x19), 
 (Il x20), (Il x21), (Il x22)]) m16)))) : Wc prog tbl 26 [(V.agg 6 [(Il a100), (Il a101), (Il a102), (Il a103), (Il a104), (Il a105)])] m Q :=
 wc_eq (n := 1) rfl (by kernel_rfl) (by kernel_rfl) h
theorem w29 {a100 : C} {a200 : Int} {a201 : Int} {a202 : Int} {a203 : Int} {a204 : Int} {a205 : Int} {m : M} {Q : V → M → Prop} (h :
 (∀ m0 : M, (m0 = (M.new m (AO.cells 6 [(Il a200), (Il a201), (Il a202), 
 (Il a203), (Il a204), (Il a205)] false))) → Wc prog tbl 20 [(V.c a100)] m0 (fun v1 m2 => 
 ∃ x3, (v1 = (V.c (Il x3))) ∧ ifB (!decide (x3 = 0)) (Q (V.c (Il x3)) m2) (∃ x4, 
 ∃ x5, ∃ x6, ∃ x7, ∃ x8, ∃ x9, ((ldA m2 (C.ptr m.nxt 0) 6) = (some [(Il x4), 
 (Il x5), (Il x6), (Il x7), (Il x8), 
 (Il x9)])) ∧ Wc prog tbl 66 [(V.c a100), (V.agg 6 [(Il x4), 
 (Il x5), (Il x6), (Il x7), (Il x8), 
 (Il x9)])] m2 (fun v10 m11 => ∃ b12 : Bool, (v10 = (V.c (C.bool b12))) ∧ 
 ifB (!b12) (Q (V.c (Il (2 : Int))) m11) (Q (V.c (Il 0)) m11)))))) : Wc prog tbl 29 [(V.c a100), (V.agg 6 [(Il a200), (Il a201), (Il a202), (Il a203), (Il a204), (Il a205)])] m Q :=
 wc_eq (n := 2) rfl (by kernel_rfl) (by kernel_rfl) h
theorem w35 {a100 : C} {a200 : Int} {a201 : Int} {a202 : Int} {a203 : Int} {a204 : Int} {a205 : Int} {m : M} {Q : V → M → Prop} (h :
 (∀ m0 : M, (m0 = (M.new m (AO.cells 6 [(Il a200), (Il a201), (Il a202), 
 (Il a203), (Il a204), (Il a205)] false))) → ∀ m1 : M, (m1 = (M.new m0 (AO.cells 2 [(Il 0), 
 (Il 0)] false))) → ∀ m2 : M, (m2 = (M.new m1 (AO.cells 2 [(Il 0), 
 (Il 0)] false))) → ∀ m3 : M, (m3 = (M.new m2 (AO.cells 2 [(Il 0), 
 (Il 0)] false))) → ∀ m4 : M, (m4 = (M.new m3 (AO.cells 2 [(Il 0), 
 (Il 0)] false))) → ∃ m5 : M, ((stC m4 (C.ptr m3.nxt 0) 2 [(Il (1099511627776 : Int)), 
 (Il (-1 : Int))]) = (some m5)) ∧ ∀ m6 : M, (m6 = (M.new m5 (AO.cells 2 [(Il 0), 
 (Il 0)] false))) → ∀ m7 : M, (m7 = (M.new m6 (AO.cells 2 [(Il 0), 
 (Il 0)] false))) → isPt (C.ptr m.nxt 0) ∧ isPt (C.ptr m.nxt 2) ∧ 
 ∃ x8, ((ldC m7 (C.ptr m.nxt 2)) = (some (Il x8))) ∧ ∀ R9 : List V → 
 M → Prop, (∀ x10 : Int, ∀ m11 : M, (isPt (C.ptr m.nxt 0) ∧ isPt (C.ptr m.nxt 2) ∧ 
 ∃ x12, ((ldC m11 (C.ptr m.nxt 3)) = (some (Il x12))) ∧ 
 ifB (decide (x10 ≤ x12)) (isPt (C.ptr m.nxt 0) ∧ isPt (C.ptr m.nxt 4) ∧ 
 ∃ x13, ((ldC m11 (C.ptr m.nxt 4)) = (some (Il x13))) ∧ 
 ∀ R14 : List V → M → Prop, (∀ x15 : Int, ∀ m16 : M, (isPt (C.ptr m.nxt 0) ∧ 
 isPt (C.ptr m.nxt 4) ∧ ∃ x17, ((ldC m16 (C.ptr m.nxt 5)) = (some (Il x17))) ∧ 
 ifB (decide (x15 ≤ x17)) (∀ m18 : M, (m18 = (M.new m16 (AO.cells 2 [(Il 0), 
 (Il 0)] false))) → ∃ m19 : M, ((stC m18 (C.ptr m16.nxt 0) 2 [(Il x10), 
 (Il x15)]) = (some m19)) ∧ ∃ x20, ∃ x21, 
 ∃ x22, ∃ x23, ∃ x24, ∃ x25, ((ldA m19 (C.ptr m.nxt 0) 6) = (some [(Il x20), 
 (Il x21), (Il x22), (Il x23), (Il x24), 
 (Il x25)])) ∧ ∃ x26, ∃ x27, ((ldA m19 (C.ptr m16.nxt 0) 2) = (some [(Il x26), 
 (Il x27)])) ∧ Wc prog tbl 31 [(V.c a100), (V.agg 6 [(Il x20), 
 (Il x21), (Il x22), (Il x23), (Il x24), 
 (Il x25)]), (V.agg 2 [(Il x26), (Il x27)])] m19 (fun v28 m29 => 
 ∃ x30, (v28 = (V.c (Il x30))) ∧ isPt (C.ptr m3.nxt 0) ∧ 
 ∃ x31, ((ldC m29 (C.ptr m3.nxt 0)) = (some (Il x31))) ∧ 
 ifB (decide (x30 < x31)) (∃ x32, ∃ x33, ((ldA m29 (C.ptr m16.nxt 0) 2) = (some [(Il x32), 
 (Il x33)])) ∧ isPt (C.ptr m3.nxt 0) ∧ ∃ m34 : M, ((stC m29 (C.ptr m3.nxt 0) 1 [(Il x30)]) = (some m34)) ∧ 
 ((ldA m34 (C.ptr m16.nxt 0) 2) = (some [(Il x32), (Il x33)])) ∧ 
 ∃ m35 : M, ((stC m34 (C.ptr m5.nxt 0) 2 [(Il x32), (Il x33)]) = (some m35)) ∧ 
 isPt (C.ptr m3.nxt 0) ∧ ∃ x36, ((ldC m35 (C.ptr m3.nxt 1)) = (some (Il x36))) ∧ 
 ifB (decide (x36 < x30)) (∃ x37, ∃ x38, ((ldA m35 (C.ptr m16.nxt 0) 2) = (some [(Il x37), 
 (Il x38)])) ∧ isPt (C.ptr m3.nxt 0) ∧ ∃ m39 : M, ((stC m35 (C.ptr m3.nxt 1) 1 [(Il x30)]) = (some m39)) ∧ 
 ((ldA m39 (C.ptr m16.nxt 0) 2) = (some [(Il x37), (Il x38)])) ∧ 
 ∃ m40 : M, ((stC m39 (C.ptr m6.nxt 0) 2 [(Il x37), (Il x38)]) = (some m40)) ∧ 
 fitsP .i64 (x15 + 1) ∧ R14 [(V.c (Il (x15 + 1)))] m40) (fitsP .i64 (x15 + 1) ∧ 
 R14 [(V.c (Il (x15 + 1)))] m35)) (isPt (C.ptr m3.nxt 0) ∧ 
 ∃ x41, ((ldC m29 (C.ptr m3.nxt 1)) = (some (Il x41))) ∧ 
 ifB (decide (x41 < x30)) (∃ x42, ∃ x43, ((ldA m29 (C.ptr m16.nxt 0) 2) = (some [(Il x42), 
 (Il x43)])) ∧ isPt (C.ptr m3.nxt 0) ∧ ∃ m44 : M, ((stC m29 (C.ptr m3.nxt 1) 1 [(Il x30)]) = (some m44)) ∧ 
 ((ldA m44 (C.ptr m16.nxt 0) 2) = (some [(Il x42), (Il x43)])) ∧ 
 ∃ m45 : M, ((stC m44 (C.ptr m6.nxt 0) 2 [(Il x42), (Il x43)]) = (some m45)) ∧ 
 fitsP .i64 (x15 + 1) ∧ R14 [(V.c (Il (x15 + 1)))] m45) (fitsP .i64 (x15 + 1) ∧ 
 R14 [(V.c (Il (x15 + 1)))] m29)))) (fitsP .i64 (x10 + 1) ∧ 
 R9 [(V.c (Il (x10 + 1)))] m16)) → R14 [(V.c (Il x15))] m16) → 
 R14 [(V.c (Il x13))] m11) (∃ x46, ∃ x47, ((ldA m11 (C.ptr m3.nxt 0) 2) = (some [(Il x46), 
 (Il x47)])) ∧ ∃ x48, ∃ x49, ((ldA m11 (C.ptr m5.nxt 0) 2) = (some [(Il x48), 
 (Il x49)])) ∧ ∃ x50, ∃ x51, ((ldA m11 (C.ptr m6.nxt 0) 2) = (some [(Il x50), 
 (Il x51)])) ∧ ∃ m52 : M, ((stC m11 (C.ptr m0.nxt 0) 2 [(Il x46), 
 (Il x47)]) = (some m52)) ∧ ((ldA m52 (C.ptr m6.nxt 0) 2) = (some [(Il x50), 
 (Il x51)])) ∧ ((ldA m52 (C.ptr m5.nxt 0) 2) = (some [(Il x48), 
 (Il x49)])) ∧ ∃ m53 : M, ((stC m52 (C.ptr m1.nxt 0) 2 [(Il x48), 
 (Il x49)]) = (some m53)) ∧ ((ldA m53 (C.ptr m6.nxt 0) 2) = (some [(Il x50), 
 (Il x51)])) ∧ ∃ m54 : M, ((stC m53 (C.ptr m2.nxt 0) 2 [(Il x50), 
 (Il x51)]) = (some m54)) ∧ ∃ x55, ∃ x56, 
 ((ldA m54 (C.ptr m0.nxt 0) 2) = (some [(Il x55), (Il x56)])) ∧ 
 ∃ x57, ∃ x58, ((ldA m54 (C.ptr m1.nxt 0) 2) = (some [(Il x57), 
 (Il x58)])) ∧ ∃ x59, ∃ x60, ((ldA m54 (C.ptr m2.nxt 0) 2) = (some [(Il x59), 
 (Il x60)])) ∧ Q (V.tup [(U.agg 2 [(Il x55), (Il x56)]), 
 (U.agg 2 [(Il x57), (Il x58)]), (U.agg 2 [(Il x59), 
 (Il x60)])]) m54)) → R9 [(V.c (Il x10))] m11) → 
 R9 [(V.c (Il x8))] m7)) : Wc prog tbl 35 [(V.c a100), (V.agg 6 [(Il a200), (Il a201), (Il a202), (Il a203), (Il a204), (Il a205)])] m Q :=
 wc_eq (n := 2) rfl (by kernel_rfl) (by kernel_rfl) h
theorem w38 {a100 : C} {a200 : Int} {a300 : Int} {m : M} {Q : V → M → Prop} (h :
 (Wc prog tbl 53 [(V.c a100)] m (fun v0 m1 => ∃ c2 : C, ∃ c3 : C, ∃ x4, (v0 = (V.tup [(U.agg 2 [c2, c3]), 
 (U.c (Il x4))])) ∧ ∀ m5 : M, (m5 = (M.new m1 (AO.cells 2 [C.sl0, C.map0] false))) → 
 ∃ m6 : M, ((stC m5 (C.ptr m1.nxt 0) 2 [c2, c3]) = (some m6)) ∧ ifB (!decide (x4 = 0)) (Q (V.tup [(U.c (Il 0)), 
 (U.c (Il x4))]) m6) (isPt (C.ptr m1.nxt 0) ∧ ∃ c7 : C, ((ldC m6 (C.ptr m1.nxt 0)) = (some c7)) ∧ 
 Wc prog tbl 54 [(V.c c7), (V.c (Il a200))] m6 (fun v8 m9 => ∃ b10 : Bool, (v8 = (V.c (C.bool b10))) ∧ 
 ifB (!b10) (Q (V.tup [(U.c (Il 0)), (U.c (Il (2 : Int)))]) m9) (Wc prog tbl 55 [(V.c (Il a300))] m9 (fun v11 m12 => 
 ∃ b13 : Bool, (v11 = (V.c (C.bool b13))) ∧ ifB (!b13) (Q (V.tup [(U.c (Il 0)), 
 (U.c (Il (2 : Int)))]) m12) (∀ R14 : List V → M → Prop, (∀ x15 : Int, 
 ∀ x16 : Int, ∀ x17 : Int, ∀ m18 : M, (ifB (decide (x17 < 101)) (∃ c19 : C, 
 ∃ c20 : C, ((ldA m18 (C.ptr m1.nxt 0) 2) = (some [c19, c20])) ∧ Wc prog tbl 57 [(V.agg 2 [c19, 
 c20]), (V.agg 3 [(Il a300), (Il x17), (Il a200)])] m18 (fun v21 m22 => 
 ∃ x23, (v21 = (V.c (Il x23))) ∧ ifB (decide ((0 : Int) < x23)) (Q (V.tup [(U.c (Il x17)), 
 (U.c (Il 0))]) m22) (fitsP .i64 (x17 + 1) ∧ 
 R14 [(V.c (Il x15)), (V.c (Il x16)), (V.c (Il (x17 + 1)))] m22))) (Q (V.tup [(U.c (Il 0)), 
 (U.c (Il (7 : Int)))]) m18)) → R14 [(V.c (Il x15)), 
 (V.c (Il x16)), (V.c (Il x17))] m18) → R14 [(V.c (Il 0)), 
 (V.c (Il 0)), (V.c (Il 0))] m12)))))))) : Wc prog tbl 38 [(V.c a100), (V.c (Il a200)), (V.c (Il a300))] m Q :=
 wc_eq (n := 3) rfl (by kernel_rfl) (by kernel_rfl) h
theorem w41 {a100 : C} {a200 : Int} {a300 : Int} {m : M} {Q : V → M → Prop} (h :
 (∀ R0 : List V → M → Prop, (∀ x1 : Int, ∀ x2 : Int, ∀ m3 : M, (ifB (decide (x2 ≤ 100)) (Wc prog tbl 24 [(V.c a100), 
 (V.c (Il a200)), (V.c (Il a300)), (V.c (Il x2))] m3 (fun v4 m5 => 
 ∃ x6, (v4 = (V.c (Il x6))) ∧ ifB (decide ((0 : Int) < x6)) (Q (V.c (Il x2)) m5) (fitsP .i64 (x2 + 1) ∧ 
 R0 [(V.c (Il x1)), (V.c (Il (x2 + 1)))] m5))) (Q (V.c (Il (-1 : Int))) m3)) → 
 R0 [(V.c (Il x1)), (V.c (Il x2))] m3) → R0 [(V.c (Il 0)), 
 (V.c (Il 0))] m)) : Wc prog tbl 41 [(V.c a100), (V.c (Il a200)), (V.c (Il a300))] m Q :=
 wc_eq (n := 3) rfl (by kernel_rfl) (by kernel_rfl) h
theorem w50 {a100 : C} {a200 : Int} {m : M} {Q : V → M → Prop} (h :
 (∀ m0 : M, (m0 = (M.new m (AO.cells 6 [(Il 0), (C.bool false), (Il 0), 
 C.sl0, C.sl0, C.sl0] false))) → ∀ R1 : List V → M → Prop, (∀ c2 : C, ∀ x3 : Int, ∀ m4 : M, (isSl a100 ∧ 
 ifB (decide (x3 < (((slLen a100) : Nat) : Int))) (∃ n5 : Nat, (x3 = ((n5 : Nat) : Int)) ∧ (n5 < (slLen a100)) ∧ 
 isPt (slAt a100 (n5 * 6)) ∧ ∃ x6, ((ldC m4 (ptAdd (slAt a100 (n5 * 6)) 0)) = (some (Il x6))) ∧ 
 ∀ m7 : M, (m7 = (M.new m4 (AO.cells 1 [(Il x6)] false))) → ∃ c8 : C, ∃ m9 : M, 
 (ApR prog 73 m7 c2 (C.sl m4.nxt 0 1 0 (some 1)) c8 m9) ∧ fitsP .i64 (x3 + 1) ∧ 
 R1 [(V.c c8), (V.c (Il (x3 + 1)))] m9) (Wc prog tbl 52 [(V.c c2), 
 (V.c (Il a200))] m4 (fun v10 m11 => ∃ x12, (v10 = (V.c (Il x12))) ∧ 
 ∃ n13 : Nat, (x12 = ((n13 : Nat) : Int)) ∧ (n13 < (slLen a100)) ∧ ∃ x14, ∃ b15 : Bool, 
 ∃ x16, ∃ c17 : C, ∃ c18 : C, ∃ c19 : C, ((ldA m11 (slAt a100 (n13 * 6)) 6) = (some [(Il x14), 
 (C.bool b15), (Il x16), c17, c18, c19])) ∧ ∃ m20 : M, ((stC m11 (C.ptr m.nxt 0) 6 [(Il x14), 
 (C.bool b15), (Il x16), c17, c18, c19]) = (some m20)) ∧ 
 ∃ x21, ∃ b22 : Bool, ∃ x23, ∃ c24 : C, ∃ c25 : C, ∃ c26 : C, ((ldA m20 (C.ptr m.nxt 0) 6) = (some [(Il x21), 
 (C.bool b22), (Il x23), c24, c25, c26])) ∧ Q (V.agg 6 [(Il x21), 
 (C.bool b22), (Il x23), c24, c25, c26]) m20))) → 
 R1 [(V.c c2), (V.c (Il x3))] m4) → R1 [(V.c C.sl0), (V.c (Il 0))] m0)) : Wc prog tbl 50 [(V.c a100), (V.c (Il a200))] m Q :=
 wc_eq (n := 2) rfl (by kernel_rfl) (by kernel_rfl) h
theorem w53 {a100 : C} {m : M} {Q : V → M → Prop} (h :
 (∀ m0 : M, (m0 = (M.new m (AO.cells 2 [C.sl0, C.map0] false))) → Wc prog tbl 21 [(V.c a100)] m0 (fun v1 m2 => 
 ∃ x3, (v1 = (V.c (Il x3))) ∧ ifB (!decide (x3 = 0)) (∃ m4 : M, ((stC m2 (C.ptr m.nxt 0) 2 [C.sl0, 
 C.map0]) = (some m4)) ∧ ∃ c5 : C, ∃ c6 : C, ((ldA m4 (C.ptr m.nxt 0) 2) = (some [c5, 
 c6])) ∧ Q (V.tup [(U.agg 2 [c5, c6]), (U.c (Il x3))]) m4) (∀ m7 : M, (m7 = (M.new m2 (AO.map [] 0))) → 
 ∃ m8 : M, ((stC m7 (C.ptr m.nxt 0) 2 [a100, (C.map m2.nxt)]) = (some m8)) ∧ ∃ c9 : C, 
 ∃ c10 : C, ((ldA m8 (C.ptr m.nxt 0) 2) = (some [c9, c10])) ∧ Q (V.tup [(U.agg 2 [c9, 
 c10]), (U.c (Il 0))]) m8)))) : Wc prog tbl 53 [(V.c a100)] m Q :=
 wc_eq (n := 1) rfl (by kernel_rfl) (by kernel_rfl) h
theorem w56 {a100 : Int} {m : M} {Q : V → M → Prop} (h :
 (Wc prog tbl 78 [(V.agg 2 [(Il 0), (Il (100 : Int))]), (V.c (Il a100))] m (fun v0 m1 => 
 ∃ b2 : Bool, (v0 = (V.c (C.bool b2))) ∧ Q (V.c (C.bool b2)) m1))) : Wc prog tbl 56 [(V.c (Il a100))] m Q :=
 wc_eq (n := 1) rfl (by kernel_rfl) (by kernel_rfl) h
theorem w59 {a100 : C} {m : M} {Q : V → M → Prop} (h :
 (isSl a100 ∧ ifB (decide ((3 : Int) < (((slLen a100) : Nat) : Int))) (Q (V.c (Il (3 : Int))) m) (∀ R0 : List V → 
 M → Prop, (∀ x1 : Int, ∀ x2 : Int, ∀ m3 : M, (isSl a100 ∧ ifB (decide (x2 < (((slLen a100) : Nat) : Int))) (∃ n4 : Nat, 
 (x2 = ((n4 : Nat) : Int)) ∧ (n4 < (slLen a100)) ∧ isPt (slAt a100 (n4 * 6)) ∧ ∃ c5 : C, ((ldC m3 (ptAdd (slAt a100 (n4 * 6)) 3)) = (some c5)) ∧ 
 isSl c5 ∧ ifB (decide ((4 : Int) < (((slLen c5) : Nat) : Int))) (Q (V.c (Il (3 : Int))) m3) (∃ n6 : Nat, 
 (x2 = ((n6 : Nat) : Int)) ∧ (n6 < (slLen a100)) ∧ isPt (slAt a100 (n6 * 6)) ∧ ∃ c7 : C, 
 ((ldC m3 (ptAdd (slAt a100 (n6 * 6)) 4)) = (some c7)) ∧ isSl c7 ∧ ifB (decide ((5 : Int) < (((slLen c7) : Nat) : Int))) (Q (V.c (Il (3 : Int))) m3) (∃ n8 : Nat, 
 (x2 = ((n8 : Nat) : Int)) ∧ (n8 < (slLen a100)) ∧ isPt (slAt a100 (n8 * 6)) ∧ 
 ∃ c9 : C, ((ldC m3 (ptAdd (slAt a100 (n8 * 6)) 5)) = (some c9)) ∧ isSl c9 ∧ 
 ifB (decide ((3 : Int) < (((slLen c9) : Nat) : Int))) (Q (V.c (Il (3 : Int))) m3) (fitsP .i64 (x2 + 1) ∧ 
 R0 [(V.c (Il x1)), (V.c (Il (x2 + 1)))] m3)))) (∀ R10 : List V → 
 M → Prop, (∀ x11 : Int, ∀ x12 : Int, ∀ m13 : M, (isSl a100 ∧ ifB (decide (x12 < (((slLen a100) : Nat) : Int))) (∃ n14 : Nat, 
 (x12 = ((n14 : Nat) : Int)) ∧ (n14 < (slLen a100)) ∧ ∃ x15, ∃ b16 : Bool, ∃ x17, 
 ∃ c18 : C, ∃ c19 : C, ∃ c20 : C, ((ldA m13 (slAt a100 (n14 * 6)) 6) = (some [(Il x15), 
 (C.bool b16), (Il x17), c18, c19, c20])) ∧ Wc prog tbl 81 [(V.agg 6 [(Il x15), 
 (C.bool b16), (Il x17), c18, c19, c20])] m13 (fun v21 m22 => ∃ b23 : Bool, 
 (v21 = (V.c (C.bool b23))) ∧ ifB (!b23) (Q (V.c (Il (1 : Int))) m22) (∃ n24 : Nat, 
 (x12 = ((n24 : Nat) : Int)) ∧ (n24 < (slLen a100)) ∧ isPt (slAt a100 (n24 * 6)) ∧ 
 ∃ c25 : C, ((ldC m22 (ptAdd (slAt a100 (n24 * 6)) 5)) = (some c25)) ∧ 
 isSl c25 ∧ ∃ n26 : Nat, ((0 : Int) = ((n26 : Nat) : Int)) ∧ (n26 < (slLen a100)) ∧ 
 isPt (slAt a100 (n26 * 6)) ∧ ∃ c27 : C, ((ldC m22 (ptAdd (slAt a100 (n26 * 6)) 5)) = (some c27)) ∧ 
 isSl c27 ∧ ifB (!decide ((((slLen c25) : Nat) : Int) = (((slLen c27) : Nat) : Int))) (Q (V.c (Il (1 : Int))) m22) (ifB (decide (x12 = 0)) (∃ n28 : Nat, 
 (x12 = ((n28 : Nat) : Int)) ∧ (n28 < (slLen a100)) ∧ isPt (slAt a100 (n28 * 6)) ∧ 
 ∃ x29, ((ldC m22 (ptAdd (slAt a100 (n28 * 6)) 0)) = (some (Il x29))) ∧ 
 ifB (!decide (x29 = 0)) (Q (V.c (Il (1 : Int))) m22) (ifB (decide ((0 : Int) < x12)) (∃ n30 : Nat, 
 (x12 = ((n30 : Nat) : Int)) ∧ (n30 < (slLen a100)) ∧ isPt (slAt a100 (n30 * 6)) ∧ 
 ∃ x31, ((ldC m22 (ptAdd (slAt a100 (n30 * 6)) 0)) = (some (Il x31))) ∧ 
 fitsP .i64 (x12 - 1) ∧ ∃ n32 : Nat, ((x12 - 1) = ((n32 : Nat) : Int)) ∧ 
 (n32 < (slLen a100)) ∧ isPt (slAt a100 (n32 * 6)) ∧ ∃ x33, ((ldC m22 (ptAdd (slAt a100 (n32 * 6)) 0)) = (some (Il x33))) ∧ 
 ifB (decide (x31 ≤ x33)) (Q (V.c (Il (1 : Int))) m22) (fitsP .i64 (x12 + 1) ∧ 
 R10 [(V.c (Il x11)), (V.c (Il (x12 + 1)))] m22)) (fitsP .i64 (x12 + 1) ∧ 
 R10 [(V.c (Il x11)), (V.c (Il (x12 + 1)))] m22))) (ifB (decide ((0 : Int) < x12)) (∃ n34 : Nat, 
 (x12 = ((n34 : Nat) : Int)) ∧ (n34 < (slLen a100)) ∧ isPt (slAt a100 (n34 * 6)) ∧ 
 ∃ x35, ((ldC m22 (ptAdd (slAt a100 (n34 * 6)) 0)) = (some (Il x35))) ∧ 
 fitsP .i64 (x12 - 1) ∧ ∃ n36 : Nat, ((x12 - 1) = ((n36 : Nat) : Int)) ∧ 
 (n36 < (slLen a100)) ∧ isPt (slAt a100 (n36 * 6)) ∧ ∃ x37, ((ldC m22 (ptAdd (slAt a100 (n36 * 6)) 0)) = (some (Il x37))) ∧ 
 ifB (decide (x35 ≤ x37)) (Q (V.c (Il (1 : Int))) m22) (fitsP .i64 (x12 + 1) ∧ 
 R10 [(V.c (Il x11)), (V.c (Il (x12 + 1)))] m22)) (fitsP .i64 (x12 + 1) ∧ 
 R10 [(V.c (Il x11)), (V.c (Il (x12 + 1)))] m22)))))) (isSl a100 ∧ 
 ifB (decide ((((slLen a100) : Nat) : Int) = (0 : Int))) (Q (V.c (Il (1 : Int))) m13) (Q (V.c (Il 0)) m13))) → 
 R10 [(V.c (Il x11)), (V.c (Il x12))] m13) → R10 [(V.c (Il x1)), 
 (V.c (Il 0))] m3)) → R0 [(V.c (Il x1)), (V.c (Il x2))] m3) → 
 R0 [(V.c (Il 0)), (V.c (Il 0))] m))) : Wc prog tbl 59 [(V.c a100)] m Q :=
 wc_eq (n := 1) rfl (by kernel_rfl) (by kernel_rfl) h
theorem w62 {a100 : Int} {a101 : Bool} {a102 : Int} {a103 : C} {a104 : C} {a105 : C} {a200 : Int} {a300 : Int} {a400 : Int} {m : M} {Q : V → M → Prop} (h :
 (∀ m0 : M, (m0 = (M.new m (AO.cells 6 [(Il a100), (C.bool a101), (Il a102), a103, 
 a104, a105] false))) → isPt (C.ptr m.nxt 0) ∧ ∃ c1 : C, ((ldC m0 (C.ptr m.nxt 5)) = (some c1)) ∧ 
 ∃ n2 : Nat, (a200 = ((n2 : Nat) : Int)) ∧ (n2 < (slLen c1)) ∧ ∃ c3 : C, ((ldC m0 (slAt c1 (n2 * 1))) = (some c3)) ∧ 
 isPt (C.ptr m.nxt 0) ∧ ∃ c4 : C, ((ldC m0 (C.ptr m.nxt 3)) = (some c4)) ∧ Wc prog tbl 52 [(V.c c4), 
 (V.c (Il a300))] m0 (fun v5 m6 => ∃ x7, (v5 = (V.c (Il x7))) ∧ 
 (ifB (noFnC c3) ((ldC m6 (slAt c1 (n2 * 1))) = (some c3)) False) ∧ (ifB (noFnC c1) ((ldC m6 (C.ptr m.nxt 5)) = (some c1)) False) ∧ 
 ∃ n8 : Nat, (x7 = ((n8 : Nat) : Int)) ∧ (n8 < (slLen c3)) ∧ ∃ c9 : C, ((ldC m6 (slAt c3 (n8 * 1))) = (some c9)) ∧ 
 isPt (C.ptr m.nxt 0) ∧ ∃ c10 : C, ((ldC m6 (C.ptr m.nxt 4)) = (some c10)) ∧ 
 Wc prog tbl 52 [(V.c c10), (V.c (Il a400))] m6 (fun v11 m12 => ∃ x13, 
 (v11 = (V.c (Il x13))) ∧ isPt (C.ptr m.nxt 0) ∧ ∃ c14 : C, 
 ((ldC m12 (C.ptr m.nxt 4)) = (some c14)) ∧ ∃ n15 : Nat, (x13 = ((n15 : Nat) : Int)) ∧ 
 (n15 < (slLen c14)) ∧ ∃ x16, ((ldC m12 (slAt c14 (n15 * 1))) = (some (Il x16))) ∧ 
 ifB (decide (x16 = a400)) (∃ n17 : Nat, (x13 = ((n17 : Nat) : Int)) ∧ (n17 < (slLen c9)) ∧ 
 ∃ x18, ((ldC m12 (slAt c9 (n17 * 1))) = (some (Il x18))) ∧ 
 Q (V.c (Il x18)) m12) (isPt (C.ptr m.nxt 0) ∧ ∃ c19 : C, 
 ((ldC m12 (C.ptr m.nxt 4)) = (some c19)) ∧ fitsP .i64 (x13 + 1) ∧ 
 ∃ n20 : Nat, ((x13 + 1) = ((n20 : Nat) : Int)) ∧ (n20 < (slLen c19)) ∧ 
 ∃ x21, ((ldC m12 (slAt c19 (n20 * 1))) = (some (Il x21))) ∧ 
 ∃ n22 : Nat, (x13 = ((n22 : Nat) : Int)) ∧ (n22 < (slLen c9)) ∧ ∃ x23, 
 ((ldC m12 (slAt c9 (n22 * 1))) = (some (Il x23))) ∧ fitsP .i64 (x21 - a400) ∧ 
 ((0 : Int) ≤ x23) ∧ ((0 : Int) ≤ (x21 - a400)) ∧ fitsP .i64 (x23 * (x21 - a400)) ∧ 
 fitsP .i64 (x13 + 1) ∧ ∃ n24 : Nat, ((x13 + 1) = ((n24 : Nat) : Int)) ∧ 
 (n24 < (slLen c9)) ∧ ∃ x25, ((ldC m12 (slAt c9 (n24 * 1))) = (some (Il x25))) ∧ 
 fitsP .i64 (a400 - x16) ∧ ((0 : Int) ≤ x25) ∧ ((0 : Int) ≤ (a400 - x16)) ∧ 
 fitsP .i64 (x25 * (a400 - x16)) ∧ fitsP .i64 ((x23 * (x21 - a400)) + (x25 * (a400 - x16))) ∧ 
 fitsP .i64 (x21 - x16) ∧ ((0 : Int) ≤ ((x23 * (x21 - a400)) + (x25 * (a400 - x16)))) ∧ 
 ((0 : Int) < (x21 - x16)) ∧ fitsP .i64 (((x23 * (x21 - a400)) + (x25 * (a400 - x16))) / (x21 - x16)) ∧ 
 Q (V.c (Il (((x23 * (x21 - a400)) + (x25 * (a400 - x16))) / (x21 - x16)))) m12))))) : Wc prog tbl 62 [(V.agg 6 [(Il a100), (C.bool a101), (Il a102), a103, a104, a105]), (V.c (Il a200)), (V.c (Il a300)), (V.c (Il a400))] m Q :=
 wc_eq (n := 4) rfl (by kernel_rfl) (by kernel_rfl) h
theorem w65 {a100 : C} {a101 : C} {a200 : Int} {a201 : Int} {a202 : Int} {a203 : Int} {a204 : Int} {a205 : Int} {a300 : Int} {a301 : Int} {m : M} {Q : V → M → Prop} (h :
 (∀ m0 : M, (m0 = (M.new m (AO.cells 2 [a100, a101] false))) → ∀ m1 : M, (m1 = (M.new m0 (AO.cells 6 [(Il a200), 
 (Il a201), (Il a202), (Il a203), (Il a204), 
 (Il a205)] false))) → ∀ m2 : M, (m2 = (M.new m1 (AO.cells 2 [(Il a300), 
 (Il a301)] false))) → isPt (C.ptr m0.nxt 0) ∧ ∃ x3, ((ldC m2 (C.ptr m0.nxt 1)) = (some (Il x3))) ∧ 
 ∃ c4 : C, ∃ c5 : C, ((ldA m2 (C.ptr m.nxt 0) 2) = (some [c4, c5])) ∧ ∃ x6, ∃ x7, 
 ((ldA m2 (C.ptr m1.nxt 0) 2) = (some [(Il x6), (Il x7)])) ∧ 
 isPt (C.ptr m0.nxt 0) ∧ ∃ x8, ((ldC m2 (C.ptr m0.nxt 0)) = (some (Il x8))) ∧ 
 Wc prog tbl 57 [(V.agg 2 [c4, c5]), (V.agg 3 [(Il x6), (Il x7), 
 (Il x8)])] m2 (fun v9 m10 => ∃ x11, (v9 = (V.c (Il x11))) ∧ 
 ((ldC m10 (C.ptr m0.nxt 1)) = (some (Il x3))) ∧ ((0 : Int) ≤ x3) ∧ 
 ((0 : Int) ≤ x11) ∧ fitsP .i64 (x3 * x11) ∧ ((0 : Int) ≤ (x3 * x11)) ∧ ((0 : Int) < (100 : Int)) ∧ 
 fitsP .i64 ((x3 * x11) / (100 : Int)) ∧ Q (V.c (Il ((x3 * x11) / (100 : Int)))) m10))) : Wc prog tbl 65 [(V.agg 2 [a100, a101]), (V.agg 6 [(Il a200), (Il a201), (Il a202), (Il a203), (Il a204), (Il a205)]), (V.agg 2 [(Il a300), (Il a301)])] m Q :=
 wc_eq (n := 3) rfl (by kernel_rfl) (by kernel_rfl) h
theorem w78 {a100 : Int} {a101 : Int} {a200 : Int} {m : M} {Q : V → M → Prop} (h :
 (∀ m0 : M, (m0 = (M.new m (AO.cells 2 [(Il a100), (Il a101)] false))) → isPt (C.ptr m.nxt 0) ∧ 
 ∃ x1, ((ldC m0 (C.ptr m.nxt 0)) = (some (Il x1))) ∧ ifB (decide (x1 ≤ a200)) (isPt (C.ptr m.nxt 0) ∧ 
 ∃ x2, ((ldC m0 (C.ptr m.nxt 1)) = (some (Il x2))) ∧ Q (V.c (C.bool (decide (a200 ≤ x2)))) m0) (Q (V.c (C.bool false)) m0))) : Wc prog tbl 78 [(V.agg 2 [(Il a100), (Il a101)]), (V.c (Il a200))] m Q :=
 wc_eq (n := 2) rfl (by kernel_rfl) (by kernel_rfl) h
theorem w81 {a100 : Int} {a101 : Bool} {a102 : Int} {a103 : C} {a104 : C} {a105 : C} {m : M} {Q : V → M → Prop} (h :
 (∀ m0 : M, (m0 = (M.new m (AO.cells 6 [(Il a100), (C.bool a101), (Il a102), a103, 
 a104, a105] false))) → isPt (C.ptr m.nxt 0) ∧ ∃ x1, ((ldC m0 (C.ptr m.nxt 0)) = (some (Il x1))) ∧ 
 Wc prog tbl 22 [(V.c (Il x1)), (V.c (Il 0)), (V.c (Il (120 : Int)))] m0 (fun v2 m3 => 
 ∃ b4 : Bool, (v2 = (V.c (C.bool b4))) ∧ ifB (!b4) (Q (V.c (C.bool false)) m3) (isPt (C.ptr m.nxt 0) ∧ 
 ∃ x5, ((ldC m3 (C.ptr m.nxt 2)) = (some (Il x5))) ∧ Wc prog tbl 22 [(V.c (Il x5)), 
 (V.c (Il 0)), (V.c (Il (100 : Int)))] m3 (fun v6 m7 => 
 ∃ b8 : Bool, (v6 = (V.c (C.bool b8))) ∧ ifB (!b8) (Q (V.c (C.bool false)) m7) (isPt (C.ptr m.nxt 0) ∧ 
 ∃ c9 : C, ((ldC m7 (C.ptr m.nxt 3)) = (some c9)) ∧ Wc prog tbl 101 [(V.c c9), 
 (V.c (Il (120 : Int)))] m7 (fun v10 m11 => ∃ b12 : Bool, (v10 = (V.c (C.bool b12))) ∧ 
 ifB (!b12) (Q (V.c (C.bool false)) m11) (isPt (C.ptr m.nxt 0) ∧ ∃ c13 : C, ((ldC m11 (C.ptr m.nxt 4)) = (some c13)) ∧ 
 Wc prog tbl 101 [(V.c c13), (V.c (Il (100 : Int)))] m11 (fun v14 m15 => 
 ∃ b16 : Bool, (v14 = (V.c (C.bool b16))) ∧ ifB (!b16) (Q (V.c (C.bool false)) m15) (isPt (C.ptr m.nxt 0) ∧ 
 ∃ c17 : C, ((ldC m15 (C.ptr m.nxt 4)) = (some c17)) ∧ isPt (C.ptr m.nxt 0) ∧ 
 ∃ c18 : C, ((ldC m15 (C.ptr m.nxt 4)) = (some c18)) ∧ isSl c18 ∧ 
 fitsP .i64 ((((slLen c18) : Nat) : Int) - (1 : Int)) ∧ ∃ n19 : Nat, 
 (((((slLen c18) : Nat) : Int) - (1 : Int)) = ((n19 : Nat) : Int)) ∧ (n19 < (slLen c17)) ∧ 
 ∃ x20, ((ldC m15 (slAt c17 (n19 * 1))) = (some (Il x20))) ∧ 
 ifB (!decide (x20 = 100)) (Q (V.c (C.bool false)) m15) (isPt (C.ptr m.nxt 0) ∧ 
 ∃ c21 : C, ((ldC m15 (C.ptr m.nxt 5)) = (some c21)) ∧ isSl c21 ∧ 
 ifB (decide ((((slLen c21) : Nat) : Int) = (0 : Int))) (Q (V.c (C.bool false)) m15) (∀ R22 : List V → 
 M → Prop, (∀ b23 : Bool, ∀ b24 : Bool, ∀ b25 : Bool, ∀ x26 : Int, ∀ m27 : M, 
 (isPt (C.ptr m.nxt 0) ∧ ∃ c28 : C, ((ldC m27 (C.ptr m.nxt 5)) = (some c28)) ∧ 
 isSl c28 ∧ ifB (decide (x26 < (((slLen c28) : Nat) : Int))) (isPt (C.ptr m.nxt 0) ∧ 
 ∃ c29 : C, ((ldC m27 (C.ptr m.nxt 5)) = (some c29)) ∧ ∃ n30 : Nat, 
 (x26 = ((n30 : Nat) : Int)) ∧ (n30 < (slLen c29)) ∧ ∃ c31 : C, ((ldC m27 (slAt c29 (n30 * 1))) = (some c31)) ∧ 
 isSl c31 ∧ isPt (C.ptr m.nxt 0) ∧ ∃ c32 : C, ((ldC m27 (C.ptr m.nxt 3)) = (some c32)) ∧ 
 isSl c32 ∧ ifB (!decide ((((slLen c31) : Nat) : Int) = (((slLen c32) : Nat) : Int))) (Q (V.c (C.bool false)) m27) (∀ R33 : List V → 
 M → Prop, (∀ b34 : Bool, ∀ b35 : Bool, ∀ x36 : Int, ∀ m37 : M, (isPt (C.ptr m.nxt 0) ∧ 
 ∃ c38 : C, ((ldC m37 (C.ptr m.nxt 3)) = (some c38)) ∧ isSl c38 ∧ 
 ifB (decide (x36 < (((slLen c38) : Nat) : Int))) (isPt (C.ptr m.nxt 0) ∧ ∃ c39 : C, 
 ((ldC m37 (C.ptr m.nxt 5)) = (some c39)) ∧ ∃ n40 : Nat, (x26 = ((n40 : Nat) : Int)) ∧ 
 (n40 < (slLen c39)) ∧ ∃ c41 : C, ((ldC m37 (slAt c39 (n40 * 1))) = (some c41)) ∧ 
 ∃ n42 : Nat, (x36 = ((n42 : Nat) : Int)) ∧ (n42 < (slLen c41)) ∧ ∃ c43 : C, 
 ((ldC m37 (slAt c41 (n42 * 1))) = (some c43)) ∧ isSl c43 ∧ isPt (C.ptr m.nxt 0) ∧ 
 ∃ c44 : C, ((ldC m37 (C.ptr m.nxt 4)) = (some c44)) ∧ isSl c44 ∧ 
 ifB (!decide ((((slLen c43) : Nat) : Int) = (((slLen c44) : Nat) : Int))) (Q (V.c (C.bool false)) m37) (∀ R45 : List V → 
 M → Prop, (∀ b46 : Bool, ∀ x47 : Int, ∀ m48 : M, (isPt (C.ptr m.nxt 0) ∧ 
 ∃ c49 : C, ((ldC m48 (C.ptr m.nxt 4)) = (some c49)) ∧ isSl c49 ∧ 
 ifB (decide (x47 < (((slLen c49) : Nat) : Int))) (isPt (C.ptr m.nxt 0) ∧ ∃ c50 : C, 
 ((ldC m48 (C.ptr m.nxt 5)) = (some c50)) ∧ ∃ n51 : Nat, (x26 = ((n51 : Nat) : Int)) ∧ 
 (n51 < (slLen c50)) ∧ ∃ c52 : C, ((ldC m48 (slAt c50 (n51 * 1))) = (some c52)) ∧ 
 ∃ n53 : Nat, (x36 = ((n53 : Nat) : Int)) ∧ (n53 < (slLen c52)) ∧ ∃ c54 : C, 
 ((ldC m48 (slAt c52 (n53 * 1))) = (some c54)) ∧ ∃ n55 : Nat, (x47 = ((n55 : Nat) : Int)) ∧ 
 (n55 < (slLen c54)) ∧ ∃ x56, ((ldC m48 (slAt c54 (n55 * 1))) = (some (Il x56))) ∧ 
 Wc prog tbl 22 [(V.c (Il x56)), (V.c (Il 0)), 
 (V.c (Il (100 : Int)))] m48 (fun v57 m58 => ∃ b59 : Bool, (v57 = (V.c (C.bool b59))) ∧ 
 ifB (!b59) (Q (V.c (C.bool false)) m58) (fitsP .i64 (x47 + 1) ∧ 
 R45 [(V.c (C.bool b46)), (V.c (Il (x47 + 1)))] m58))) (fitsP .i64 (x36 + 1) ∧ 
 R33 [(V.c (C.bool b46)), (V.c (C.bool b46)), (V.c (Il (x36 + 1)))] m48)) → 
 R45 [(V.c (C.bool b46)), (V.c (Il x47))] m48) → R45 [(V.c (C.bool b34)), 
 (V.c (Il 0))] m37)) (fitsP .i64 (x26 + 1) ∧ 
 R22 [(V.c (C.bool b34)), (V.c (C.bool b34)), (V.c (C.bool b34)), (V.c (Il (x26 + 1)))] m37)) → 
 R33 [(V.c (C.bool b34)), (V.c (C.bool b35)), (V.c (Il x36))] m37) → 
 R33 [(V.c (C.bool b23)), (V.c (C.bool b23)), (V.c (Il 0))] m27)) (Q (V.c (C.bool true)) m27)) → 
 R22 [(V.c (C.bool b23)), (V.c (C.bool b24)), (V.c (C.bool b25)), (V.c (Il x26))] m27) → 
 R22 [(V.c (C.bool false)), (V.c (C.bool false)), (V.c (C.bool false)), (V.c (Il 0))] m15)))))))))))) : Wc prog tbl 81 [(V.agg 6 [(Il a100), (C.bool a101), (Il a102), a103, a104, a105])] m Q :=
 wc_eq (n := 1) rfl (by kernel_rfl) (by kernel_rfl) h
theorem w84 {a100 : C} {a200 : C} {m : M} {Q : V → M → Prop} (h :
 (∀ m0 : M, (m0 = (M.new m (AO.cells 1 [a200] false))) → Wc prog tbl 103 [(V.c a100), (V.c (C.fn (Fn.func 104) [] [(W.c (C0.ptr m.nxt 0))]))] m0 (fun v1 m2 => 
 ∃ b3 : Bool, (v1 = (V.c (C.bool b3))) ∧ Q (V.c (C.bool (!b3))) m2))) : Wc prog tbl 84 [(V.c a100), (V.c a200)] m Q :=
 wc_eq (n := 2) rfl (by kernel_rfl) (by kernel_rfl) h
theorem w87 {a100 : C} {m : M} {Q : V → M → Prop} (h :
 (isSl a100 ∧ ∀ R0 : List V → M → Prop, (∀ c1 : C, ∀ x2 : Int, ∀ m3 : M, (ifB (decide (x2 < (((slLen a100) : Nat) : Int))) (∃ n4 : Nat, 
 (x2 = ((n4 : Nat) : Int)) ∧ (n4 < (slLen a100)) ∧ ∃ x5, ∃ b6 : Bool, ∃ x7, ∃ c8 : C, 
 ∃ c9 : C, ∃ c10 : C, ((ldA m3 (slAt a100 (n4 * 6)) 6) = (some [(Il x5), 
 (C.bool b6), (Il x7), c8, c9, c10])) ∧ ∀ m11 : M, (m11 = (M.new m3 (AO.cells 6 [(Il 0), 
 (C.bool false), (Il 0), C.sl0, C.sl0, C.sl0] false))) → ∃ m12 : M, 
 ((stC m11 (C.ptr m3.nxt 0) 6 [(Il x5), (C.bool b6), (Il x7), 
 c8, c9, c10]) = (some m12)) ∧ isPt (C.ptr m3.nxt 0) ∧ ∃ x13, ((ldC m12 (C.ptr m3.nxt 0)) = (some (Il x13))) ∧ 
 ∀ m14 : M, (m14 = (M.new m12 (AO.cells 1 [(Il x13)] false))) → ∃ c15 : C, 
 ∃ m16 : M, (ApR prog 73 m14 c1 (C.sl m12.nxt 0 1 0 (some 1)) c15 m16) ∧ 
 fitsP .i64 (x2 + 1) ∧ R0 [(V.c c15), (V.c (Il (x2 + 1)))] m16) (Q (V.c c1) m3)) → 
 R0 [(V.c c1), (V.c (Il x2))] m3) → R0 [(V.c C.sl0), (V.c (Il 0))] m)) : Wc prog tbl 87 [(V.c a100)] m Q :=
 wc_eq (n := 1) rfl (by kernel_rfl) (by kernel_rfl) h
theorem w90 {a100 : C} {a200 : Int} {a201 : Int} {a202 : Int} {a203 : Int} {a204 : Int} {a205 : Int} {m : M} {Q : V → M → Prop} (h :
 (∀ m0 : M, (m0 = (M.new m (AO.cells 6 [(Il a200), (Il a201), (Il a202), 
 (Il a203), (Il a204), (Il a205)] false))) → isPt (C.ptr m.nxt 0) ∧ 
 ∃ x1, ((ldC m0 (C.ptr m.nxt 0)) = (some (Il x1))) ∧ Wc prog tbl 54 [(V.c a100), 
 (V.c (Il x1))] m0 (fun v2 m3 => ∃ b4 : Bool, (v2 = (V.c (C.bool b4))) ∧ ifB b4 (isPt (C.ptr m.nxt 0) ∧ 
 ∃ x5, ((ldC m3 (C.ptr m.nxt 1)) = (some (Il x5))) ∧ Wc prog tbl 78 [(V.agg 2 [(Il 0), 
 (Il (100000 : Int))]), (V.c (Il x5))] m3 (fun v6 m7 => ∃ b8 : Bool, 
 (v6 = (V.c (C.bool b8))) ∧ ifB b8 (isPt (C.ptr m.nxt 0) ∧ ∃ x9, ∃ x10, ((ldA m7 (C.ptr m.nxt 2) 2) = (some [(Il x9), 
 (Il x10)])) ∧ Wc prog tbl 111 [(V.agg 2 [(Il x9), (Il x10)]), 
 (V.c (C.fn (Fn.func 55) [] []))] m7 (fun v11 m12 => ∃ b13 : Bool, (v11 = (V.c (C.bool b13))) ∧ 
 ifB b13 (isPt (C.ptr m.nxt 0) ∧ isPt (C.ptr m.nxt 2) ∧ ∃ x14, ((ldC m12 (C.ptr m.nxt 3)) = (some (Il x14))) ∧ 
 isPt (C.ptr m.nxt 0) ∧ isPt (C.ptr m.nxt 2) ∧ ∃ x15, ((ldC m12 (C.ptr m.nxt 2)) = (some (Il x15))) ∧ 
 fitsP .i64 (x14 - x15) ∧ ifB (decide ((x14 - x15) ≤ (10 : Int))) (isPt (C.ptr m.nxt 0) ∧ 
 ∃ x16, ∃ x17, ((ldA m12 (C.ptr m.nxt 4) 2) = (some [(Il x16), 
 (Il x17)])) ∧ Wc prog tbl 111 [(V.agg 2 [(Il x16), 
 (Il x17)]), (V.c (C.fn (Fn.func 56) [] []))] m12 (fun v18 m19 => 
 ∃ b20 : Bool, (v18 = (V.c (C.bool b20))) ∧ Q (V.c (C.bool b20)) m19)) (Q (V.c (C.bool false)) m12)) (Q (V.c (C.bool false)) m12))) (Q (V.c (C.bool false)) m7))) (Q (V.c (C.bool false)) m3)))) : Wc prog tbl 90 [(V.c a100), (V.agg 6 [(Il a200), (Il a201), (Il a202), (Il a203), (Il a204), (Il a205)])] m Q :=
 wc_eq (n := 2) rfl (by kernel_rfl) (by kernel_rfl) h
theorem w100 {a100 : Int} {a101 : Bool} {a102 : Int} {a103 : C} {a104 : C} {a105 : C} {m : M} {Q : V → M → Prop} (h :
 (∀ m0 : M, (m0 = (M.new m (AO.cells 6 [(Il a100), (C.bool a101), (Il a102), a103, 
 a104, a105] false))) → ∀ m1 : M, (m1 = (M.new m0 (AO.cells 1 [C.nilFn] false))) → isPt (C.ptr m.nxt 0) ∧ 
 ∃ b2 : Bool, ((ldC m1 (C.ptr m.nxt 1)) = (some (C.bool b2))) ∧ ifB b2 (∃ m3 : M, ((stC m1 (C.ptr m0.nxt 0) 1 [(C.fn (Fn.func 117) [] [])]) = (some m3)) ∧ 
 ∃ c4 : C, ((ldA m3 (C.ptr m0.nxt 0) 1) = (some [c4])) ∧ Q (V.agg 1 [c4]) m3) (∃ m5 : M, 
 ((stC m1 (C.ptr m0.nxt 0) 1 [(C.fn (Fn.func 118) [] [])]) = (some m5)) ∧ ∃ c6 : C, ((ldA m5 (C.ptr m0.nxt 0) 1) = (some [c6])) ∧ 
 Q (V.agg 1 [c6]) m5))) : Wc prog tbl 100 [(V.agg 6 [(Il a100), (C.bool a101), (Il a102), a103, a104, a105])] m Q :=
 wc_eq (n := 1) rfl (by kernel_rfl) (by kernel_rfl) h
theorem w103 {a100 : C} {a200 : C} {m : M} {Q : V → M → Prop} (h :
 (Wc prog tbl 119 [(V.c a100), (V.c a200)] m (fun v0 m1 => ∃ x2, (v0 = (V.c (Il x2))) ∧ Q (V.c (C.bool (decide ((0 : Int) ≤ x2)))) m1))) : Wc prog tbl 103 [(V.c a100), (V.c a200)] m Q :=
 wc_eq (n := 2) rfl (by kernel_rfl) (by kernel_rfl) h
theorem w107 {a100 : C} {a200 : C} {m : M} {Q : V → M → Prop} (h :
 (∀ m0 : M, (m0 = (M.new m (AO.cells 1 [a200] false))) → Wc prog tbl 122 [(V.c a100), (V.c (C.fn (Fn.func 123) [] [(W.c (C0.ptr m.nxt 0))]))] m0 (fun v1 m2 => 
 ∃ b3 : Bool, (v1 = (V.c (C.bool b3))) ∧ Q (V.c (C.bool (!b3))) m2))) : Wc prog tbl 107 [(V.c a100), (V.c a200)] m Q :=
 wc_eq (n := 2) rfl (by kernel_rfl) (by kernel_rfl) h
theorem w111 {a100 : Int} {a101 : Int} {a200 : C} {m : M} {Q : V → M → Prop} (h :
 (∀ m0 : M, (m0 = (M.new m (AO.cells 2 [(Il a100), (Il a101)] false))) → isPt (C.ptr m.nxt 0) ∧ 
 ∃ x1, ((ldC m0 (C.ptr m.nxt 0)) = (some (Il x1))) ∧ isPt (C.ptr m.nxt 0) ∧ 
 ∃ x2, ((ldC m0 (C.ptr m.nxt 1)) = (some (Il x2))) ∧ ifB (decide (x1 ≤ x2)) (isPt (C.ptr m.nxt 0) ∧ 
 ∃ x3, ((ldC m0 (C.ptr m.nxt 0)) = (some (Il x3))) ∧ callP prog tbl [(V.c (Il x3))] a200 m0 (fun v4 m5 => 
 ∃ b6 : Bool, (v4 = (V.c (C.bool b6))) ∧ ifB b6 (isPt (C.ptr m.nxt 0) ∧ ∃ x7, ((ldC m5 (C.ptr m.nxt 1)) = (some (Il x7))) ∧ 
 callP prog tbl [(V.c (Il x7))] a200 m5 (fun v8 m9 => ∃ b10 : Bool, (v8 = (V.c (C.bool b10))) ∧ 
 Q (V.c (C.bool b10)) m9)) (Q (V.c (C.bool false)) m5))) (Q (V.c (C.bool false)) m0))) : Wc prog tbl 111 [(V.agg 2 [(Il a100), (Il a101)]), (V.c a200)] m Q :=
 wc_eq (n := 2) rfl (by kernel_rfl) (by kernel_rfl) h
theorem w117 {a100 : Int} {a101 : Bool} {a102 : Int} {a103 : C} {a104 : C} {a105 : C} {a200 : Int} {m : M} {Q : V → M → Prop} (h :
 (∀ m0 : M, (m0 = (M.new m (AO.cells 6 [(Il a100), (C.bool a101), (Il a102), a103, 
 a104, a105] false))) → Q (V.c (Il a200)) m0)) : Wc prog tbl 117 [(V.agg 6 [(Il a100), (C.bool a101), (Il a102), a103, a104, a105]), (V.c (Il a200))] m Q :=
 wc_eq (n := 2) rfl (by kernel_rfl) (by kernel_rfl) h
theorem w120 {a100 : C} {a200 : C} {m : M} {Q : V → M → Prop} (h :
 (Wc prog tbl 131 [(V.c a100), (V.c a200)] m (fun v0 m1 => ∃ x2, (v0 = (V.c (Il x2))) ∧ Q (V.c (C.bool (decide ((0 : Int) ≤ x2)))) m1))) : Wc prog tbl 120 [(V.c a100), (V.c a200)] m Q :=
 wc_eq (n := 2) rfl (by kernel_rfl) (by kernel_rfl) h
theorem w125 {a100 : Int} {a101 : Bool} {a102 : Int} {a103 : C} {a104 : C} {a105 : C} {a200 : C} {m : M} {Q : V → M → Prop} (h :
 (∀ m0 : M, (m0 = (M.new m (AO.cells 6 [(Il a100), (C.bool a101), (Il a102), a103, 
 a104, a105] false))) → isSl a200 ∧ isPt (C.ptr m.nxt 0) ∧ ∃ c1 : C, ((ldC m0 (C.ptr m.nxt 4)) = (some c1)) ∧ 
 isSl c1 ∧ ifB (decide ((((slLen a200) : Nat) : Int) = (((slLen c1) : Nat) : Int))) (Wc prog tbl 106 [(V.c a200), 
 (V.c (C.fn (Fn.func 105) [] []))] m0 (fun v2 m3 => ∃ b4 : Bool, (v2 = (V.c (C.bool b4))) ∧ Q (V.c (C.bool b4)) m3)) (Q (V.c (C.bool false)) m0))) : Wc prog tbl 125 [(V.agg 6 [(Il a100), (C.bool a101), (Il a102), a103, a104, a105]), (V.c a200)] m Q :=
 wc_eq (n := 2) rfl (by kernel_rfl) (by kernel_rfl) h
theorem w130 {a100 : Int} {m : M} {Q : V → M → Prop} (h :
 (Q (V.c (C.bool (!decide (a100 = a100)))) m)) : Wc prog tbl 130 [(V.c (Il a100))] m Q :=
 wc_eq (n := 1) rfl (by kernel_rfl) (by kernel_rfl) h
theorem w133 {a100 : C} {a200 : C} {m : M} {Q : V → M → Prop} (h :
 (Wc prog tbl 135 [(V.c a100), (V.c a200)] m (fun v0 m1 => ∃ x2, (v0 = (V.c (Il x2))) ∧ Q (V.c (C.bool (decide ((0 : Int) ≤ x2)))) m1))) : Wc prog tbl 133 [(V.c a100), (V.c a200)] m Q :=
 wc_eq (n := 2) rfl (by kernel_rfl) (by kernel_rfl) h
end
end Go.Proofs.Ytbhdgedghfibcaa

namespace Go.Proofs.Ytbhdgedghfibcaa
open _root_.Go.Proofs.Try
open Go.Abs
set_option maxRecDepth 100000
noncomputable section
theorem w21 {a100 : C} {m : M} {Q : V → M → Prop} (h :
 (Wc prog tbl 60 [(V.c a100)] m (fun v0 m1 => ∃ b2 : Bool, (v0 = (V.c (C.bool b2))) ∧ ifB b2 (Q (V.c (Il (3 : Int))) m1) (Wc prog tbl 61 [(V.c a100)] m1 (fun v3 m4 => 
 ∃ b5 : Bool, (v3 = (V.c (C.bool b5))) ∧ ifB (!b5) (Q (V.c (Il (1 : Int))) m4) (Q (V.c (Il 0)) m4)))))) : Wc prog tbl 21 [(V.c a100)] m Q :=
 wc_eq (n := 1) rfl (by kernel_rfl) (by kernel_rfl) h
theorem w24 {a100 : C} {a200 : Int} {a300 : Int} {a400 : Int} {m : M} {Q : V → M → Prop} (h :
 (Wc prog tbl 50 [(V.c a100), (V.c (Il a300))] m (fun v0 m1 => ∃ x2, ∃ b3 : Bool, ∃ x4, 
 ∃ c5 : C, ∃ c6 : C, ∃ c7 : C, (v0 = (V.agg 6 [(Il x2), (C.bool b3), (Il x4), 
 c5, c6, c7])) ∧ ∀ m8 : M, (m8 = (M.new m1 (AO.cells 6 [(Il 0), (C.bool false), 
 (Il 0), C.sl0, C.sl0, C.sl0] false))) → ∃ m9 : M, ((stC m8 (C.ptr m1.nxt 0) 6 [(Il x2), 
 (C.bool b3), (Il x4), c5, c6, c7]) = (some m9)) ∧ ∃ x10, ∃ b11 : Bool, 
 ∃ x12, ∃ c13 : C, ∃ c14 : C, ∃ c15 : C, ((ldA m9 (C.ptr m1.nxt 0) 6) = (some [(Il x10), 
 (C.bool b11), (Il x12), c13, c14, c15])) ∧ Wc prog tbl 62 [(V.agg 6 [(Il x10), 
 (C.bool b11), (Il x12), c13, c14, c15]), (V.c (Il a200)), 
 (V.c (Il a300)), (V.c (Il a400))] m9 (fun v16 m17 => ∃ x18, 
 (v16 = (V.c (Il x18))) ∧ isPt (C.ptr m1.nxt 0) ∧ ∃ x19, ((ldC m17 (C.ptr m1.nxt 2)) = (some (Il x19))) ∧ 
 ifB (decide (x18 < x19)) (Q (V.c (Il 0)) m17) (isPt (C.ptr m1.nxt 0) ∧ 
 ∃ b20 : Bool, ((ldC m17 (C.ptr m1.nxt 1)) = (some (C.bool b20))) ∧ 
 ifB b20 (Q (V.c (Il x18)) m17) (isPt (C.ptr m1.nxt 0) ∧ ∃ x21, 
 ((ldC m17 (C.ptr m1.nxt 2)) = (some (Il x21))) ∧ fitsP .i64 (x18 - x21) ∧ 
 Q (V.c (Il (x18 - x21))) m17)))))) : Wc prog tbl 24 [(V.c a100), (V.c (Il a200)), (V.c (Il a300)), (V.c (Il a400))] m Q :=
 wc_eq (n := 4) rfl (by kernel_rfl) (by kernel_rfl) h
theorem w36 {a100 : Int} {a101 : Int} {m : M} {Q : V → M → Prop} (h :
 (∀ m0 : M, (m0 = (M.new m (AO.cells 2 [(Il a100), (Il a101)] false))) → ∀ m1 : M, 
 (m1 = (M.new m0 (AO.cells 2 [(Il 0), (Il 0)] false))) → isPt (C.ptr m.nxt 0) ∧ 
 ∃ x2, ((ldC m1 (C.ptr m.nxt 0)) = (some (Il x2))) ∧ isPt (C.ptr m.nxt 0) ∧ 
 ∃ x3, ((ldC m1 (C.ptr m.nxt 1)) = (some (Il x3))) ∧ ∃ m4 : M, ((stC m1 (C.ptr m0.nxt 0) 2 [(Il x2), 
 (Il x3)]) = (some m4)) ∧ ∃ x5, ∃ x6, ((ldA m4 (C.ptr m0.nxt 0) 2) = (some [(Il x5), 
 (Il x6)])) ∧ Q (V.agg 2 [(Il x5), (Il x6)]) m4)) : Wc prog tbl 36 [(V.agg 2 [(Il a100), (Il a101)])] m Q :=
 wc_eq (n := 1) rfl (by kernel_rfl) (by kernel_rfl) h
theorem w39 {a100 : C} {a200 : C} {m : M} {Q : V → M → Prop} (h :
 (∀ m0 : M, (m0 = (M.new m (AO.cells 2 [(Il 0), (Il 0)] false))) → 
 Wc prog tbl 63 [(V.c a100), (V.c a200)] m0 (fun v1 m2 => ∃ c3 : C, ∃ c4 : C, ∃ x5, (v1 = (V.tup [(U.agg 2 [c3, 
 c4]), (U.c (Il x5))])) ∧ ∀ m6 : M, (m6 = (M.new m2 (AO.cells 2 [C.sl0, C.map0] false))) → 
 ∃ m7 : M, ((stC m6 (C.ptr m2.nxt 0) 2 [c3, c4]) = (some m7)) ∧ ifB (!decide (x5 = 0)) (∃ m8 : M, 
 ((stC m7 (C.ptr m.nxt 0) 2 [(Il 0), (Il 0)]) = (some m8)) ∧ 
 ∃ x9, ∃ x10, ((ldA m8 (C.ptr m.nxt 0) 2) = (some [(Il x9), 
 (Il x10)])) ∧ Q (V.tup [(U.agg 2 [(Il x9), (Il x10)]), 
 (U.c (Il x5))]) m8) (∀ m11 : M, (m11 = (M.new m7 (AO.cells 2 [(Il 0), 
 (Il 0)] false))) → isSl a200 ∧ ∀ R12 : List V → M → Prop, (∀ x13 : Int, 
 ∀ m14 : M, (ifB (decide (x13 < (((slLen a200) : Nat) : Int))) (∃ n15 : Nat, (x13 = ((n15 : Nat) : Int)) ∧ 
 (n15 < (slLen a200)) ∧ ∃ x16, ∃ x17, ∃ x18, ∃ x19, ∃ x20, 
 ∃ x21, ((ldA m14 (slAt a200 (n15 * 6)) 6) = (some [(Il x16), 
 (Il x17), (Il x18), (Il x19), (Il x20), 
 (Il x21)])) ∧ ∀ m22 : M, (m22 = (M.new m14 (AO.cells 6 [(Il 0), 
 (Il 0), (Il 0), (Il 0), 
 (Il 0), (Il 0)] false))) → ∃ m23 : M, 
 ((stC m22 (C.ptr m14.nxt 0) 6 [(Il x16), (Il x17), 
 (Il x18), (Il x19), (Il x20), (Il x21)]) = (some m23)) ∧ 
 ∃ c24 : C, ∃ c25 : C, ((ldA m23 (C.ptr m2.nxt 0) 2) = (some [c24, 
 c25])) ∧ ∃ x26, ∃ x27, ∃ x28, ∃ x29, ∃ x30, 
 ∃ x31, ((ldA m23 (C.ptr m14.nxt 0) 6) = (some [(Il x26), 
 (Il x27), (Il x28), (Il x29), (Il x30), 
 (Il x31)])) ∧ Wc prog tbl 67 [(V.agg 2 [c24, c25]), (V.agg 6 [(Il x26), 
 (Il x27), (Il x28), (Il x29), (Il x30), 
 (Il x31)])] m23 (fun v32 m33 => ∃ x34, ∃ x35, (v32 = (V.agg 2 [(Il x34), 
 (Il x35)])) ∧ ∀ m36 : M, (m36 = (M.new m33 (AO.cells 2 [(Il 0), 
 (Il 0)] false))) → ∃ m37 : M, ((stC m36 (C.ptr m33.nxt 0) 2 [(Il x34), 
 (Il x35)]) = (some m37)) ∧ isPt (C.ptr m7.nxt 0) ∧ ∃ x38, 
 ((ldC m37 (C.ptr m7.nxt 0)) = (some (Il x38))) ∧ isPt (C.ptr m33.nxt 0) ∧ 
 ∃ x39, ((ldC m37 (C.ptr m33.nxt 0)) = (some (Il x39))) ∧ 
 fitsP .i64 (x38 + x39) ∧ isPt (C.ptr m7.nxt 0) ∧ ∃ m40 : M, ((stC m37 (C.ptr m7.nxt 0) 1 [(Il (x38 + x39))]) = (some m40)) ∧ 
 isPt (C.ptr m7.nxt 0) ∧ ∃ x41, ((ldC m40 (C.ptr m7.nxt 1)) = (some (Il x41))) ∧ 
 isPt (C.ptr m33.nxt 0) ∧ ∃ x42, ((ldC m40 (C.ptr m33.nxt 1)) = (some (Il x42))) ∧ 
 fitsP .i64 (x41 + x42) ∧ isPt (C.ptr m7.nxt 0) ∧ ∃ m43 : M, ((stC m40 (C.ptr m7.nxt 1) 1 [(Il (x41 + x42))]) = (some m43)) ∧ 
 fitsP .i64 (x13 + 1) ∧ R12 [(V.c (Il (x13 + 1)))] m43)) (∃ x44, 
 ∃ x45, ((ldA m14 (C.ptr m7.nxt 0) 2) = (some [(Il x44), 
 (Il x45)])) ∧ ∃ m46 : M, ((stC m14 (C.ptr m.nxt 0) 2 [(Il x44), 
 (Il x45)]) = (some m46)) ∧ ∃ x47, ∃ x48, 
 ((ldA m46 (C.ptr m.nxt 0) 2) = (some [(Il x47), (Il x48)])) ∧ 
 Q (V.tup [(U.agg 2 [(Il x47), (Il x48)]), (U.c (Il 0))]) m46)) → 
 R12 [(V.c (Il x13))] m14) → R12 [(V.c (Il 0))] m11)))) : Wc prog tbl 39 [(V.c a100), (V.c a200)] m Q :=
 wc_eq (n := 2) rfl (by kernel_rfl) (by kernel_rfl) h
theorem w54 {a100 : C} {a200 : Int} {m : M} {Q : V → M → Prop} (h :
 (∃ n0 : Nat, ((0 : Int) = ((n0 : Nat) : Int)) ∧ (n0 < (slLen a100)) ∧ isPt (slAt a100 (n0 * 6)) ∧ ∃ c1 : C, 
 ((ldC m (ptAdd (slAt a100 (n0 * 6)) 5)) = (some c1)) ∧ isSl c1 ∧ Wc prog tbl 77 [(V.c (Il a200)), 
 (V.c (Il (((slLen c1) : Nat) : Int)))] m (fun v2 m3 => ∃ b4 : Bool, (v2 = (V.c (C.bool b4))) ∧ 
 Q (V.c (C.bool b4)) m3))) : Wc prog tbl 54 [(V.c a100), (V.c (Il a200))] m Q :=
 wc_eq (n := 2) rfl (by kernel_rfl) (by kernel_rfl) h
theorem w57 {a100 : C} {a101 : C} {a200 : Int} {a201 : Int} {a202 : Int} {m : M} {Q : V → M → Prop} (h :
 (∀ m0 : M, (m0 = (M.new m (AO.cells 2 [a100, a101] false))) → ∀ m1 : M, (m1 = (M.new m0 (AO.cells 3 [(Il a200), 
 (Il a201), (Il a202)] false))) → isPt (C.ptr m.nxt 0) ∧ ∃ c2 : C, 
 ((ldC m1 (C.ptr m.nxt 1)) = (some c2)) ∧ ∃ x3, ∃ x4, ∃ x5, ((ldA m1 (C.ptr m0.nxt 0) 3) = (some [(Il x3), 
 (Il x4), (Il x5)])) ∧ ∃ y6 : Option U, ((lkM prog 103 m1 c2 (V.agg 3 [(Il x3), 
 (Il x4), (Il x5)])) = (some y6)) ∧ ((y6 = Option.none) → 
 isPt (C.ptr m.nxt 0) ∧ ∃ c7 : C, ((ldC m1 (C.ptr m.nxt 0)) = (some c7)) ∧ isPt (C.ptr m0.nxt 0) ∧ 
 isPt (C.ptr m0.nxt 0) ∧ ∃ x8, ((ldC m1 (C.ptr m0.nxt 0)) = (some (Il x8))) ∧ 
 Wc prog tbl 79 [(V.c c7), (V.c (Il x8))] m1 (fun v9 m10 => ∃ x11, 
 ∃ b12 : Bool, ∃ x13, ∃ c14 : C, ∃ c15 : C, ∃ c16 : C, (v9 = (V.agg 6 [(Il x11), 
 (C.bool b12), (Il x13), c14, c15, c16])) ∧ ∃ x17, ∃ x18, 
 ∃ x19, ((ldA m10 (C.ptr m0.nxt 0) 3) = (some [(Il x17), 
 (Il x18), (Il x19)])) ∧ ((ldA m1 (C.ptr m0.nxt 0) 3) = (some [(Il x17), 
 (Il x18), (Il x19)])) ∧ Wc prog tbl 80 [(V.agg 6 [(Il x11), 
 (C.bool b12), (Il x13), c14, c15, c16]), (V.agg 3 [(Il x17), 
 (Il x18), (Il x19)])] m10 (fun v20 m21 => ∃ x22, 
 (v20 = (V.c (Il x22))) ∧ isPt (C.ptr m.nxt 0) ∧ ∃ c23 : C, 
 ((ldC m21 (C.ptr m.nxt 1)) = (some c23)) ∧ ∃ x24, ∃ x25, 
 ∃ x26, ((ldA m21 (C.ptr m0.nxt 0) 3) = (some [(Il x24), 
 (Il x25), (Il x26)])) ∧ ∃ m27 : M, ((upM prog 103 m21 c23 (V.agg 3 [(Il x24), 
 (Il x25), (Il x26)]) (V.c (Il x22))) = (some m27)) ∧ 
 Q (V.c (Il x22)) m27))) ∧ ∀ u28 : U, 
 (y6 = (some u28)) → ∃ x29, (u28 = (U.c (Il x29))) ∧ Q (V.c (Il x29)) m1)) : Wc prog tbl 57 [(V.agg 2 [a100, a101]), (V.agg 3 [(Il a200), (Il a201), (Il a202)])] m Q :=
 wc_eq (n := 2) rfl (by kernel_rfl) (by kernel_rfl) h
theorem w60 {a100 : C} {m : M} {Q : V → M → Prop} (h :
 (isSl a100 ∧ ifB (decide ((3 : Int) < (((slLen a100) : Nat) : Int))) (Q (V.c (C.bool true)) m) (Wc prog tbl 82 [(V.c a100), 
 (V.c (C.fn (Fn.func 83) [] []))] m (fun v0 m1 => ∃ b2 : Bool, (v0 = (V.c (C.bool b2))) ∧ Q (V.c (C.bool b2)) m1)))) : Wc prog tbl 60 [(V.c a100)] m Q :=
 wc_eq (n := 1) rfl (by kernel_rfl) (by kernel_rfl) h
theorem w63 {a100 : C} {a200 : C} {m : M} {Q : V → M → Prop} (h :
 (∀ m0 : M, (m0 = (M.new m (AO.cells 2 [C.sl0, C.map0] false))) → Wc prog tbl 53 [(V.c a100)] m0 (fun v1 m2 => 
 ∃ c3 : C, ∃ c4 : C, ∃ x5, (v1 = (V.tup [(U.agg 2 [c3, c4]), (U.c (Il x5))])) ∧ 
 ∀ m6 : M, (m6 = (M.new m2 (AO.cells 2 [C.sl0, C.map0] false))) → ∃ m7 : M, ((stC m6 (C.ptr m2.nxt 0) 2 [c3, 
 c4]) = (some m7)) ∧ ifB (!decide (x5 = 0)) (∃ m8 : M, ((stC m7 (C.ptr m.nxt 0) 2 [C.sl0, 
 C.map0]) = (some m8)) ∧ ∃ c9 : C, ∃ c10 : C, ((ldA m8 (C.ptr m.nxt 0) 2) = (some [c9, 
 c10])) ∧ Q (V.tup [(U.agg 2 [c9, c10]), (U.c (Il x5))]) m8) (isSl a200 ∧ 
 ifB (decide ((5 : Int) < (((slLen a200) : Nat) : Int))) (∃ m11 : M, ((stC m7 (C.ptr m.nxt 0) 2 [C.sl0, 
 C.map0]) = (some m11)) ∧ ∃ c12 : C, ∃ c13 : C, ((ldA m11 (C.ptr m.nxt 0) 2) = (some [c12, 
 c13])) ∧ Q (V.tup [(U.agg 2 [c12, c13]), (U.c (Il (3 : Int)))]) m11) (isPt (C.ptr m2.nxt 0) ∧ 
 ∃ c14 : C, ((ldC m7 (C.ptr m2.nxt 0)) = (some c14)) ∧ optB (mapO vW [(V.c c14)]) False fun l15 => 
 Wc prog tbl 89 [(V.c a200), (V.c (C.fn (Fn.func 90) l15 []))] m7 (fun v16 m17 => ∃ b18 : Bool, 
 (v16 = (V.c (C.bool b18))) ∧ ifB (!b18) (∃ m19 : M, ((stC m17 (C.ptr m.nxt 0) 2 [C.sl0, 
 C.map0]) = (some m19)) ∧ ∃ c20 : C, ∃ c21 : C, ((ldA m19 (C.ptr m.nxt 0) 2) = (some [c20, 
 c21])) ∧ Q (V.tup [(U.agg 2 [c20, c21]), (U.c (Il (2 : Int)))]) m19) (∃ c22 : C, 
 ∃ c23 : C, ((ldA m17 (C.ptr m2.nxt 0) 2) = (some [c22, c23])) ∧ ∃ m24 : M, 
 ((stC m17 (C.ptr m.nxt 0) 2 [c22, c23]) = (some m24)) ∧ ∃ c25 : C, ∃ c26 : C, 
 ((ldA m24 (C.ptr m.nxt 0) 2) = (some [c25, c26])) ∧ Q (V.tup [(U.agg 2 [c25, 
 c26]), (U.c (Il 0))]) m24))))))) : Wc prog tbl 63 [(V.c a100), (V.c a200)] m Q :=
 wc_eq (n := 2) rfl (by kernel_rfl) (by kernel_rfl) h
theorem w66 {a100 : C} {a200 : Int} {a201 : Int} {a202 : Int} {a203 : Int} {a204 : Int} {a205 : Int} {m : M} {Q : V → M → Prop} (h :
 (∀ m0 : M, (m0 = (M.new m (AO.cells 6 [(Il a200), (Il a201), (Il a202), 
 (Il a203), (Il a204), (Il a205)] false))) → isPt (C.ptr m.nxt 0) ∧ 
 ∃ x1, ((ldC m0 (C.ptr m.nxt 0)) = (some (Il x1))) ∧ Wc prog tbl 23 [(V.c a100)] m0 (fun v2 m3 => 
 ∃ x4, (v2 = (V.c (Il x4))) ∧ ((ldC m3 (C.ptr m.nxt 0)) = (some (Il x1))) ∧ 
 fitsP .i64 (x4 - 1) ∧ Wc prog tbl 22 [(V.c (Il x1)), (V.c (Il 0)), 
 (V.c (Il (x4 - 1)))] m3 (fun v5 m6 => ∃ b7 : Bool, (v5 = (V.c (C.bool b7))) ∧ 
 ifB b7 (isPt (C.ptr m.nxt 0) ∧ ∃ x8, ((ldC m6 (C.ptr m.nxt 1)) = (some (Il x8))) ∧ 
 Wc prog tbl 22 [(V.c (Il x8)), (V.c (Il 0)), (V.c (Il (100000 : Int)))] m6 (fun v9 m10 => 
 ∃ b11 : Bool, (v9 = (V.c (C.bool b11))) ∧ ifB b11 (isPt (C.ptr m.nxt 0) ∧ isPt (C.ptr m.nxt 2) ∧ 
 ∃ x12, ((ldC m10 (C.ptr m.nxt 2)) = (some (Il x12))) ∧ 
 ifB (decide ((0 : Int) ≤ x12)) (isPt (C.ptr m.nxt 0) ∧ isPt (C.ptr m.nxt 2) ∧ 
 ∃ x13, ((ldC m10 (C.ptr m.nxt 2)) = (some (Il x13))) ∧ 
 isPt (C.ptr m.nxt 0) ∧ isPt (C.ptr m.nxt 2) ∧ ∃ x14, ((ldC m10 (C.ptr m.nxt 3)) = (some (Il x14))) ∧ 
 ifB (decide (x13 ≤ x14)) (isPt (C.ptr m.nxt 0) ∧ isPt (C.ptr m.nxt 2) ∧ 
 ∃ x15, ((ldC m10 (C.ptr m.nxt 3)) = (some (Il x15))) ∧ 
 ifB (decide (x15 ≤ 120)) (isPt (C.ptr m.nxt 0) ∧ isPt (C.ptr m.nxt 2) ∧ 
 ∃ x16, ((ldC m10 (C.ptr m.nxt 3)) = (some (Il x16))) ∧ 
 isPt (C.ptr m.nxt 0) ∧ isPt (C.ptr m.nxt 2) ∧ ∃ x17, ((ldC m10 (C.ptr m.nxt 2)) = (some (Il x17))) ∧ 
 fitsP .i64 (x16 - x17) ∧ ifB (decide ((x16 - x17) ≤ (10 : Int))) (isPt (C.ptr m.nxt 0) ∧ 
 isPt (C.ptr m.nxt 4) ∧ ∃ x18, ((ldC m10 (C.ptr m.nxt 4)) = (some (Il x18))) ∧ 
 ifB (decide ((0 : Int) ≤ x18)) (isPt (C.ptr m.nxt 0) ∧ isPt (C.ptr m.nxt 4) ∧ 
 ∃ x19, ((ldC m10 (C.ptr m.nxt 4)) = (some (Il x19))) ∧ 
 isPt (C.ptr m.nxt 0) ∧ isPt (C.ptr m.nxt 4) ∧ ∃ x20, ((ldC m10 (C.ptr m.nxt 5)) = (some (Il x20))) ∧ 
 ifB (decide (x19 ≤ x20)) (isPt (C.ptr m.nxt 0) ∧ isPt (C.ptr m.nxt 4) ∧ 
 ∃ x21, ((ldC m10 (C.ptr m.nxt 5)) = (some (Il x21))) ∧ 
 Q (V.c (C.bool (decide (x21 ≤ 100)))) m10) (Q (V.c (C.bool false)) m10)) (Q (V.c (C.bool false)) m10)) (Q (V.c (C.bool false)) m10)) (Q (V.c (C.bool false)) m10)) (Q (V.c (C.bool false)) m10)) (Q (V.c (C.bool false)) m10)) (Q (V.c (C.bool false)) m10))) (Q (V.c (C.bool false)) m6))))) : Wc prog tbl 66 [(V.c a100), (V.agg 6 [(Il a200), (Il a201), (Il a202), (Il a203), (Il a204), (Il a205)])] m Q :=
 wc_eq (n := 2) rfl (by kernel_rfl) (by kernel_rfl) h
theorem w69 {a100 : Int} {a101 : Int} {a102 : Int} {a103 : Int} {a104 : Int} {a105 : Int} {m : M} {Q : V → M → Prop} (h :
 (∀ m0 : M, (m0 = (M.new m (AO.cells 6 [(Il a100), (Il a101), (Il a102), 
 (Il a103), (Il a104), (Il a105)] false))) → Q (V.c (C.fn (Fn.func 94) [] [(W.c (C0.ptr m.nxt 0))])) m0)) : Wc prog tbl 69 [(V.agg 6 [(Il a100), (Il a101), (Il a102), (Il a103), (Il a104), (Il a105)])] m Q :=
 wc_eq (n := 1) rfl (by kernel_rfl) (by kernel_rfl) h
theorem w79 {a100 : C} {a200 : Int} {m : M} {Q : V → M → Prop} (h :
 (∀ m0 : M, (m0 = (M.new m (AO.cells 6 [(Il 0), (C.bool false), (Il 0), 
 C.sl0, C.sl0, C.sl0] false))) → Wc prog tbl 87 [(V.c a100)] m0 (fun v1 m2 => ∃ c3 : C, (v1 = (V.c c3)) ∧ 
 Wc prog tbl 98 [(V.c c3), (V.c (Il a200))] m2 (fun v4 m5 => ∃ x6, (v4 = (V.c (Il x6))) ∧ 
 ∃ n7 : Nat, (x6 = ((n7 : Nat) : Int)) ∧ (n7 < (slLen a100)) ∧ ∃ x8, ∃ b9 : Bool, ∃ x10, 
 ∃ c11 : C, ∃ c12 : C, ∃ c13 : C, ((ldA m5 (slAt a100 (n7 * 6)) 6) = (some [(Il x8), 
 (C.bool b9), (Il x10), c11, c12, c13])) ∧ ∃ m14 : M, ((stC m5 (C.ptr m.nxt 0) 6 [(Il x8), 
 (C.bool b9), (Il x10), c11, c12, c13]) = (some m14)) ∧ ∃ x15, 
 ∃ b16 : Bool, ∃ x17, ∃ c18 : C, ∃ c19 : C, ∃ c20 : C, ((ldA m14 (C.ptr m.nxt 0) 6) = (some [(Il x15), 
 (C.bool b16), (Il x17), c18, c19, c20])) ∧ Q (V.agg 6 [(Il x15), 
 (C.bool b16), (Il x17), c18, c19, c20]) m14)))) : Wc prog tbl 79 [(V.c a100), (V.c (Il a200))] m Q :=
 wc_eq (n := 2) rfl (by kernel_rfl) (by kernel_rfl) h
theorem w82 {a100 : C} {a200 : C} {m : M} {Q : V → M → Prop} (h :
 (Wc prog tbl 102 [(V.c a100), (V.c a200)] m (fun v0 m1 => ∃ x2, (v0 = (V.c (Il x2))) ∧ Q (V.c (C.bool (decide ((0 : Int) ≤ x2)))) m1))) : Wc prog tbl 82 [(V.c a100), (V.c a200)] m Q :=
 wc_eq (n := 2) rfl (by kernel_rfl) (by kernel_rfl) h
theorem w85 {a100 : Int} {a101 : Bool} {a102 : Int} {a103 : C} {a104 : C} {a105 : C} {m : M} {Q : V → M → Prop} (h :
 (∀ m0 : M, (m0 = (M.new m (AO.cells 6 [(Il a100), (C.bool a101), (Il a102), a103, 
 a104, a105] false))) → isPt (C.ptr m.nxt 0) ∧ ∃ x1, ((ldC m0 (C.ptr m.nxt 0)) = (some (Il x1))) ∧ 
 Wc prog tbl 55 [(V.c (Il x1))] m0 (fun v2 m3 => ∃ b4 : Bool, (v2 = (V.c (C.bool b4))) ∧ 
 ifB b4 (isPt (C.ptr m.nxt 0) ∧ ∃ x5, ((ldC m3 (C.ptr m.nxt 2)) = (some (Il x5))) ∧ 
 Wc prog tbl 105 [(V.c (Il x5))] m3 (fun v6 m7 => ∃ b8 : Bool, (v6 = (V.c (C.bool b8))) ∧ 
 ifB b8 (isPt (C.ptr m.nxt 0) ∧ ∃ c9 : C, ((ldC m7 (C.ptr m.nxt 3)) = (some c9)) ∧ 
 Wc prog tbl 86 [(V.c c9)] m7 (fun v10 m11 => ∃ b12 : Bool, (v10 = (V.c (C.bool b12))) ∧ 
 ifB b12 (isPt (C.ptr m.nxt 0) ∧ ∃ c13 : C, ((ldC m11 (C.ptr m.nxt 3)) = (some c13)) ∧ 
 Wc prog tbl 106 [(V.c c13), (V.c (C.fn (Fn.func 55) [] []))] m11 (fun v14 m15 => 
 ∃ b16 : Bool, (v14 = (V.c (C.bool b16))) ∧ ifB b16 (isPt (C.ptr m.nxt 0) ∧ 
 ∃ c17 : C, ((ldC m15 (C.ptr m.nxt 4)) = (some c17)) ∧ Wc prog tbl 86 [(V.c c17)] m15 (fun v18 m19 => 
 ∃ b20 : Bool, (v18 = (V.c (C.bool b20))) ∧ ifB b20 (isPt (C.ptr m.nxt 0) ∧ 
 ∃ c21 : C, ((ldC m19 (C.ptr m.nxt 4)) = (some c21)) ∧ isPt (C.ptr m.nxt 0) ∧ 
 ∃ c22 : C, ((ldC m19 (C.ptr m.nxt 4)) = (some c22)) ∧ isSl c22 ∧ 
 fitsP .i64 ((((slLen c22) : Nat) : Int) - (1 : Int)) ∧ ∃ n23 : Nat, 
 (((((slLen c22) : Nat) : Int) - (1 : Int)) = ((n23 : Nat) : Int)) ∧ (n23 < (slLen c21)) ∧ 
 ∃ x24, ((ldC m19 (slAt c21 (n23 * 1))) = (some (Il x24))) ∧ 
 ifB (decide (x24 = 100)) (isPt (C.ptr m.nxt 0) ∧ ∃ c25 : C, ((ldC m19 (C.ptr m.nxt 5)) = (some c25)) ∧ 
 isSl c25 ∧ ifB (decide ((0 : Int) < (((slLen c25) : Nat) : Int))) (isPt (C.ptr m.nxt 0) ∧ 
 ∃ c26 : C, ((ldC m19 (C.ptr m.nxt 5)) = (some c26)) ∧ ∃ x27, 
 ∃ b28 : Bool, ∃ x29, ∃ c30 : C, ∃ c31 : C, ∃ c32 : C, ((ldA m19 (C.ptr m.nxt 0) 6) = (some [(Il x27), 
 (C.bool b28), (Il x29), c30, c31, c32])) ∧ optB (mapO vW [(V.agg 6 [(Il x27), 
 (C.bool b28), (Il x29), c30, c31, c32])]) False fun l33 => Wc prog tbl 107 [(V.c c26), 
 (V.c (C.fn (Fn.func 108) l33 []))] m19 (fun v34 m35 => ∃ b36 : Bool, (v34 = (V.c (C.bool b36))) ∧ 
 Q (V.c (C.bool b36)) m35)) (Q (V.c (C.bool false)) m19)) (Q (V.c (C.bool false)) m19)) (Q (V.c (C.bool false)) m19))) (Q (V.c (C.bool false)) m15))) (Q (V.c (C.bool false)) m11))) (Q (V.c (C.bool false)) m7))) (Q (V.c (C.bool false)) m3)))) : Wc prog tbl 85 [(V.agg 6 [(Il a100), (C.bool a101), (Il a102), a103, a104, a105])] m Q :=
 wc_eq (n := 1) rfl (by kernel_rfl) (by kernel_rfl) h
theorem w88 {a100 : C} {a200 : Int} {a201 : Bool} {a202 : Int} {a203 : C} {a204 : C} {a205 : C} {m : M} {Q : V → M → Prop} (h :
 (∀ m0 : M, (m0 = (M.new m (AO.cells 6 [(Il a200), (C.bool a201), (Il a202), a203, 
 a204, a205] false))) → isPt (C.ptr m.nxt 0) ∧ ∃ c1 : C, ((ldC m0 (C.ptr m.nxt 5)) = (some c1)) ∧ 
 isSl c1 ∧ ∃ n2 : Nat, ((0 : Int) = ((n2 : Nat) : Int)) ∧ (n2 < (slLen a100)) ∧ isPt (slAt a100 (n2 * 6)) ∧ 
 ∃ c3 : C, ((ldC m0 (ptAdd (slAt a100 (n2 * 6)) 5)) = (some c3)) ∧ isSl c3 ∧ Q (V.c (C.bool (decide ((((slLen c1) : Nat) : Int) = (((slLen c3) : Nat) : Int))))) m0)) : Wc prog tbl 88 [(V.c a100), (V.agg 6 [(Il a200), (C.bool a201), (Il a202), a203, a204, a205])] m Q :=
 wc_eq (n := 2) rfl (by kernel_rfl) (by kernel_rfl) h
theorem w91 {a100 : C} {m : M} {Q : V → M → Prop} (h :
 (isSl a100 ∧ ifB (decide ((((slLen a100) : Nat) : Int) = (0 : Int))) (Q (V.c (Il 0)) m) (∃ n0 : Nat, 
 ((0 : Int) = ((n0 : Nat) : Int)) ∧ (n0 < (slLen a100)) ∧ ∃ x1, ((ldC m (slAt a100 (n0 * 1))) = (some (Il x1))) ∧ 
 isSl a100 ∧ ∀ R2 : List V → M → Prop, (∀ x3 : Int, ∀ x4 : Int, ∀ m5 : M, (ifB (decide (x4 < (((slLen a100) : Nat) : Int))) (∃ n6 : Nat, 
 (x4 = ((n6 : Nat) : Int)) ∧ (n6 < (slLen a100)) ∧ ∃ x7, ((ldC m5 (slAt a100 (n6 * 1))) = (some (Il x7))) ∧ 
 ifB (decide (x7 < x3)) (fitsP .i64 (x4 + 1) ∧ R2 [(V.c (Il x7)), 
 (V.c (Il (x4 + 1)))] m5) (fitsP .i64 (x4 + 1) ∧ 
 R2 [(V.c (Il x3)), (V.c (Il (x4 + 1)))] m5)) (Q (V.c (Il x3)) m5)) → 
 R2 [(V.c (Il x3)), (V.c (Il x4))] m5) → R2 [(V.c (Il x1)), 
 (V.c (Il 0))] m))) : Wc prog tbl 91 [(V.c a100)] m Q :=
 wc_eq (n := 1) rfl (by kernel_rfl) (by kernel_rfl) h
theorem w95 {a100 : Int} {m : M} {Q : V → M → Prop} (h :
 (Q (V.c (C.bool (!decide (a100 = a100)))) m)) : Wc prog tbl 95 [(V.c (Il a100))] m Q :=
 wc_eq (n := 1) rfl (by kernel_rfl) (by kernel_rfl) h
theorem w98 {a100 : C} {a200 : Int} {m : M} {Q : V → M → Prop} (h :
 (fitsP .i64 (a200 + 1) ∧ Wc prog tbl 116 [(V.c a100), (V.c (Il (a200 + 1)))] m (fun v0 m1 => 
 ∃ x2, ∃ b3 : Bool, (v0 = (V.tup [(U.c (Il x2)), (U.c (C.bool b3))])) ∧ fitsP .i64 (x2 - 1) ∧ 
 Q (V.c (Il (x2 - 1))) m1))) : Wc prog tbl 98 [(V.c a100), (V.c (Il a200))] m Q :=
 wc_eq (n := 2) rfl (by kernel_rfl) (by kernel_rfl) h
theorem w101 {a100 : C} {a200 : Int} {m : M} {Q : V → M → Prop} (h :
 (∀ R0 : List V → M → Prop, (∀ b1 : Bool, ∀ x2 : Int, ∀ m3 : M, (isSl a100 ∧ ifB (decide (x2 < (((slLen a100) : Nat) : Int))) (∃ n4 : Nat, 
 (x2 = ((n4 : Nat) : Int)) ∧ (n4 < (slLen a100)) ∧ ∃ x5, ((ldC m3 (slAt a100 (n4 * 1))) = (some (Il x5))) ∧ 
 Wc prog tbl 22 [(V.c (Il x5)), (V.c (Il 0)), (V.c (Il a200))] m3 (fun v6 m7 => 
 ∃ b8 : Bool, (v6 = (V.c (C.bool b8))) ∧ ifB (!b8) (Q (V.c (C.bool false)) m7) (ifB (decide ((0 : Int) < x2)) (∃ n9 : Nat, 
 (x2 = ((n9 : Nat) : Int)) ∧ (n9 < (slLen a100)) ∧ ∃ x10, ((ldC m7 (slAt a100 (n9 * 1))) = (some (Il x10))) ∧ 
 fitsP .i64 (x2 - 1) ∧ ∃ n11 : Nat, ((x2 - 1) = ((n11 : Nat) : Int)) ∧ 
 (n11 < (slLen a100)) ∧ ∃ x12, ((ldC m7 (slAt a100 (n11 * 1))) = (some (Il x12))) ∧ 
 ifB (decide (x10 ≤ x12)) (Q (V.c (C.bool false)) m7) (fitsP .i64 (x2 + 1) ∧ 
 R0 [(V.c (C.bool b1)), (V.c (Il (x2 + 1)))] m7)) (fitsP .i64 (x2 + 1) ∧ 
 R0 [(V.c (C.bool b1)), (V.c (Il (x2 + 1)))] m7)))) (isSl a100 ∧ 
 ifB (decide ((0 : Int) < (((slLen a100) : Nat) : Int))) (∃ n13 : Nat, ((0 : Int) = ((n13 : Nat) : Int)) ∧ 
 (n13 < (slLen a100)) ∧ ∃ x14, ((ldC m3 (slAt a100 (n13 * 1))) = (some (Il x14))) ∧ 
 Q (V.c (C.bool (decide (x14 = 0)))) m3) (Q (V.c (C.bool false)) m3))) → R0 [(V.c (C.bool b1)), 
 (V.c (Il x2))] m3) → R0 [(V.c (C.bool false)), (V.c (Il 0))] m)) : Wc prog tbl 101 [(V.c a100), (V.c (Il a200))] m Q :=
 wc_eq (n := 2) rfl (by kernel_rfl) (by kernel_rfl) h
theorem w105 {a100 : Int} {m : M} {Q : V → M → Prop} (h :
 (Wc prog tbl 78 [(V.agg 2 [(Il 0), (Il (100 : Int))]), (V.c (Il a100))] m (fun v0 m1 => 
 ∃ b2 : Bool, (v0 = (V.c (C.bool b2))) ∧ Q (V.c (C.bool b2)) m1))) : Wc prog tbl 105 [(V.c (Il a100))] m Q :=
 wc_eq (n := 1) rfl (by kernel_rfl) (by kernel_rfl) h
theorem w108 {a100 : Int} {a101 : Bool} {a102 : Int} {a103 : C} {a104 : C} {a105 : C} {a200 : C} {m : M} {Q : V → M → Prop} (h :
 (∀ m0 : M, (m0 = (M.new m (AO.cells 6 [(Il a100), (C.bool a101), (Il a102), a103, 
 a104, a105] false))) → isSl a200 ∧ isPt (C.ptr m.nxt 0) ∧ ∃ c1 : C, ((ldC m0 (C.ptr m.nxt 3)) = (some c1)) ∧ 
 isSl c1 ∧ ifB (decide ((((slLen a200) : Nat) : Int) = (((slLen c1) : Nat) : Int))) (∃ x2, ∃ b3 : Bool, 
 ∃ x4, ∃ c5 : C, ∃ c6 : C, ∃ c7 : C, ((ldA m0 (C.ptr m.nxt 0) 6) = (some [(Il x2), 
 (C.bool b3), (Il x4), c5, c6, c7])) ∧ optB (mapO vW [(V.agg 6 [(Il x2), 
 (C.bool b3), (Il x4), c5, c6, c7])]) False fun l8 => Wc prog tbl 124 [(V.c a200), 
 (V.c (C.fn (Fn.func 125) l8 []))] m0 (fun v9 m10 => ∃ b11 : Bool, (v9 = (V.c (C.bool b11))) ∧ 
 Q (V.c (C.bool b11)) m10)) (Q (V.c (C.bool false)) m0))) : Wc prog tbl 108 [(V.agg 6 [(Il a100), (C.bool a101), (Il a102), a103, a104, a105]), (V.c a200)] m Q :=
 wc_eq (n := 2) rfl (by kernel_rfl) (by kernel_rfl) h
theorem w118 {a100 : Int} {a101 : Bool} {a102 : Int} {a103 : C} {a104 : C} {a105 : C} {a200 : Int} {m : M} {Q : V → M → Prop} (h :
 (∀ m0 : M, (m0 = (M.new m (AO.cells 6 [(Il a100), (C.bool a101), (Il a102), a103, 
 a104, a105] false))) → isPt (C.ptr m.nxt 0) ∧ ∃ x1, ((ldC m0 (C.ptr m.nxt 2)) = (some (Il x1))) ∧ 
 fitsP .i64 (a200 - x1) ∧ Q (V.c (Il (a200 - x1))) m0)) : Wc prog tbl 118 [(V.agg 6 [(Il a100), (C.bool a101), (Il a102), a103, a104, a105]), (V.c (Il a200))] m Q :=
 wc_eq (n := 2) rfl (by kernel_rfl) (by kernel_rfl) h
theorem w122 {a100 : C} {a200 : C} {m : M} {Q : V → M → Prop} (h :
 (Wc prog tbl 132 [(V.c a100), (V.c a200)] m (fun v0 m1 => ∃ x2, (v0 = (V.c (Il x2))) ∧ Q (V.c (C.bool (decide ((0 : Int) ≤ x2)))) m1))) : Wc prog tbl 122 [(V.c a100), (V.c a200)] m Q :=
 wc_eq (n := 2) rfl (by kernel_rfl) (by kernel_rfl) h
theorem w126 {a100 : C} {a200 : C} {m : M} {Q : V → M → Prop} (h :
 (isSl a100 ∧ ∀ R0 : List V → M → Prop, (∀ x1 : Int, ∀ x2 : Int, ∀ m3 : M, (ifB (decide (x2 < (((slLen a100) : Nat) : Int))) (∃ n4 : Nat, 
 (x2 = ((n4 : Nat) : Int)) ∧ (n4 < (slLen a100)) ∧ ∃ x5, ∃ x6, ∃ x7, ∃ x8, 
 ∃ x9, ∃ x10, ((ldA m3 (slAt a100 (n4 * 6)) 6) = (some [(Il x5), 
 (Il x6), (Il x7), (Il x8), (Il x9), 
 (Il x10)])) ∧ callP prog tbl [(V.agg 6 [(Il x5), (Il x6), 
 (Il x7), (Il x8), (Il x9), (Il x10)])] a200 m3 (fun v11 m12 => 
 ∃ b13 : Bool, (v11 = (V.c (C.bool b13))) ∧ ifB b13 (Q (V.c (Il x2)) m12) (fitsP .i64 (x2 + 1) ∧ 
 R0 [(V.c (Il x1)), (V.c (Il (x2 + 1)))] m12))) (Q (V.c (Il (-1 : Int))) m3)) → 
 R0 [(V.c (Il x1)), (V.c (Il x2))] m3) → R0 [(V.c (Il 0)), 
 (V.c (Il 0))] m)) : Wc prog tbl 126 [(V.c a100), (V.c a200)] m Q :=
 wc_eq (n := 2) rfl (by kernel_rfl) (by kernel_rfl) h
theorem w131 {a100 : C} {a200 : C} {m : M} {Q : V → M → Prop} (h :
 (isSl a100 ∧ ∀ R0 : List V → M → Prop, (∀ x1 : Int, ∀ x2 : Int, ∀ m3 : M, (ifB (decide (x2 < (((slLen a100) : Nat) : Int))) (∃ n4 : Nat, 
 (x2 = ((n4 : Nat) : Int)) ∧ (n4 < (slLen a100)) ∧ ∃ x5, ((ldC m3 (slAt a100 (n4 * 1))) = (some (Il x5))) ∧ 
 callP prog tbl [(V.c (Il x5))] a200 m3 (fun v6 m7 => ∃ b8 : Bool, (v6 = (V.c (C.bool b8))) ∧ 
 ifB b8 (Q (V.c (Il x2)) m7) (fitsP .i64 (x2 + 1) ∧ R0 [(V.c (Il x1)), 
 (V.c (Il (x2 + 1)))] m7))) (Q (V.c (Il (-1 : Int))) m3)) → 
 R0 [(V.c (Il x1)), (V.c (Il x2))] m3) → R0 [(V.c (Il 0)), 
 (V.c (Il 0))] m)) : Wc prog tbl 131 [(V.c a100), (V.c a200)] m Q :=
 wc_eq (n := 2) rfl (by kernel_rfl) (by kernel_rfl) h
end
end Go.Proofs.Ytbhdgedghfibcaa

namespace Go.Proofs.Ytbhdgedghfibcaa
open _root_.Go.Proofs.Try
open Go.Abs
set_option maxRecDepth 100000
noncomputable section
theorem w19 {a100 : C} {m : M} {Q : V → M → Prop} (h :
 (∀ R0 : List V → M → Prop, (∀ c1 : C, ∀ x2 : Int, ∀ m3 : M, (isSl a100 ∧ ifB (decide (x2 < (((slLen a100) : Nat) : Int))) (∀ m4 : M, 
 (m4 = (mGrow m3 1)) → ∃ n5 : Nat, (x2 = ((n5 : Nat) : Int)) ∧ (n5 < (slLen a100)) ∧ isPt (slAt a100 (n5 * 6)) ∧ 
 ∃ x6, ((ldC m4 (ptAdd (slAt a100 (n5 * 6)) 0)) = (some (Il x6))) ∧ 
 ∃ n7 : Nat, (x2 = ((n7 : Nat) : Int)) ∧ (n7 < (slLen a100)) ∧ isPt (slAt a100 (n7 * 6)) ∧ 
 ∃ b8 : Bool, ((ldC m4 (ptAdd (slAt a100 (n7 * 6)) 1)) = (some (C.bool b8))) ∧ 
 ∃ n9 : Nat, (x2 = ((n9 : Nat) : Int)) ∧ (n9 < (slLen a100)) ∧ isPt (slAt a100 (n9 * 6)) ∧ 
 ∃ x10, ((ldC m4 (ptAdd (slAt a100 (n9 * 6)) 2)) = (some (Il x10))) ∧ 
 ∃ n11 : Nat, (x2 = ((n11 : Nat) : Int)) ∧ (n11 < (slLen a100)) ∧ isPt (slAt a100 (n11 * 6)) ∧ 
 ∃ c12 : C, ((ldC m4 (ptAdd (slAt a100 (n11 * 6)) 3)) = (some c12)) ∧ 
 Wc prog tbl 58 [(V.c c12)] m4 (fun v13 m14 => ∃ c15 : C, (v13 = (V.c c15)) ∧ 
 ((ldC m14 (ptAdd (slAt a100 (n9 * 6)) 2)) = (some (Il x10))) ∧ 
 ((ldC m14 (ptAdd (slAt a100 (n7 * 6)) 1)) = (some (C.bool b8))) ∧ ((ldC m14 (ptAdd (slAt a100 (n5 * 6)) 0)) = (some (Il x6))) ∧ 
 ∃ n16 : Nat, (x2 = ((n16 : Nat) : Int)) ∧ (n16 < (slLen a100)) ∧ isPt (slAt a100 (n16 * 6)) ∧ 
 ∃ c17 : C, ((ldC m14 (ptAdd (slAt a100 (n16 * 6)) 4)) = (some c17)) ∧ 
 (ifB (noFnC c17) ((ldC m4 (ptAdd (slAt a100 (n16 * 6)) 4)) = (some c17)) False) ∧ 
 Wc prog tbl 58 [(V.c c17)] m14 (fun v18 m19 => ∃ c20 : C, (v18 = (V.c c20)) ∧ 
 ((ldC m19 (ptAdd (slAt a100 (n9 * 6)) 2)) = (some (Il x10))) ∧ 
 ((ldC m19 (ptAdd (slAt a100 (n7 * 6)) 1)) = (some (C.bool b8))) ∧ ((ldC m19 (ptAdd (slAt a100 (n5 * 6)) 0)) = (some (Il x6))) ∧ 
 ∀ m21 : M, (m21 = (M.set m19 (m3.nxt + 0) (AO.cells 6 [(Il 0), 
 (C.bool false), (Il 0), C.sl0, C.sl0, C.sl0] false))) → 
 (ifB (noFnC c17) ((ldC m21 (ptAdd (slAt a100 (n16 * 6)) 4)) = (some c17)) False) ∧ 
 (ifB (noFnC c12) ((ldC m21 (ptAdd (slAt a100 (n11 * 6)) 3)) = (some c12)) False) ∧ 
 ((ldC m21 (ptAdd (slAt a100 (n9 * 6)) 2)) = (some (Il x10))) ∧ 
 ((ldC m21 (ptAdd (slAt a100 (n7 * 6)) 1)) = (some (C.bool b8))) ∧ ((ldC m21 (ptAdd (slAt a100 (n5 * 6)) 0)) = (some (Il x6))) ∧ 
 ∃ m22 : M, ((stC m21 (C.ptr (m3.nxt + 0) 0) 6 [(Il x6), (C.bool b8), 
 (Il x10), c15, c20, C.sl0]) = (some m22)) ∧ ∀ R23 : List V → 
 M → Prop, (∀ x24 : Int, ∀ m25 : M, (∃ n26 : Nat, (x2 = ((n26 : Nat) : Int)) ∧ 
 (n26 < (slLen a100)) ∧ isPt (slAt a100 (n26 * 6)) ∧ ∃ c27 : C, ((ldC m25 (ptAdd (slAt a100 (n26 * 6)) 5)) = (some c27)) ∧ 
 isSl c27 ∧ ifB (decide (x24 < (((slLen c27) : Nat) : Int))) (∀ R28 : List V → 
 M → Prop, (∀ c29 : C, ∀ x30 : Int, ∀ m31 : M, (∃ n32 : Nat, (x2 = ((n32 : Nat) : Int)) ∧ 
 (n32 < (slLen a100)) ∧ isPt (slAt a100 (n32 * 6)) ∧ ∃ c33 : C, ((ldC m31 (ptAdd (slAt a100 (n32 * 6)) 5)) = (some c33)) ∧ 
 ∃ n34 : Nat, (x24 = ((n34 : Nat) : Int)) ∧ (n34 < (slLen c33)) ∧ ∃ c35 : C, 
 ((ldC m31 (slAt c33 (n34 * 1))) = (some c35)) ∧ isSl c35 ∧ ifB (decide (x30 < (((slLen c35) : Nat) : Int))) (∃ n36 : Nat, 
 (x2 = ((n36 : Nat) : Int)) ∧ (n36 < (slLen a100)) ∧ isPt (slAt a100 (n36 * 6)) ∧ 
 ∃ c37 : C, ((ldC m31 (ptAdd (slAt a100 (n36 * 6)) 5)) = (some c37)) ∧ 
 ∃ n38 : Nat, (x24 = ((n38 : Nat) : Int)) ∧ (n38 < (slLen c37)) ∧ ∃ c39 : C, 
 ((ldC m31 (slAt c37 (n38 * 1))) = (some c39)) ∧ ∃ n40 : Nat, (x30 = ((n40 : Nat) : Int)) ∧ 
 (n40 < (slLen c39)) ∧ ∃ c41 : C, ((ldC m31 (slAt c39 (n40 * 1))) = (some c41)) ∧ 
 Wc prog tbl 58 [(V.c c41)] m31 (fun v42 m43 => ∃ c44 : C, (v42 = (V.c c44)) ∧ 
 ∀ m45 : M, (m45 = (M.new m43 (AO.cells 1 [c44] false))) → ∃ c46 : C, ∃ m47 : M, 
 (ApR prog 77 m45 c29 (C.sl m43.nxt 0 1 0 (some 1)) c46 m47) ∧ fitsP .i64 (x30 + 1) ∧ 
 R28 [(V.c c46), (V.c (Il (x30 + 1)))] m47)) (isPt (C.ptr (m3.nxt + 0) 0) ∧ 
 ∃ c48 : C, ((ldC m31 (C.ptr (m3.nxt + 0) 5)) = (some c48)) ∧ ∀ m49 : M, 
 (m49 = (M.new m31 (AO.cells 1 [c29] false))) → ∃ c50 : C, ∃ m51 : M, (ApR prog 74 m49 c48 (C.sl m31.nxt 0 1 0 (some 1)) c50 m51) ∧ 
 isPt (C.ptr (m3.nxt + 0) 0) ∧ ∃ m52 : M, ((stC m51 (C.ptr (m3.nxt + 0) 5) 1 [c50]) = (some m52)) ∧ 
 fitsP .i64 (x24 + 1) ∧ R23 [(V.c (Il (x24 + 1)))] m52)) → 
 R28 [(V.c c29), (V.c (Il x30))] m31) → R28 [(V.c C.sl0), 
 (V.c (Il 0))] m25) (∃ x53, ∃ b54 : Bool, ∃ x55, 
 ∃ c56 : C, ∃ c57 : C, ∃ c58 : C, ((ldA m25 (C.ptr (m3.nxt + 0) 0) 6) = (some [(Il x53), 
 (C.bool b54), (Il x55), c56, c57, c58])) ∧ ∀ m59 : M, (m59 = (M.new m25 (AO.cells 6 [(Il x53), 
 (C.bool b54), (Il x55), c56, c57, c58] false))) → ∃ c60 : C, 
 ∃ m61 : M, (ApR prog 28 m59 c1 (C.sl m25.nxt 0 1 0 (some 1)) c60 m61) ∧ 
 fitsP .i64 (x2 + 1) ∧ R0 [(V.c c60), (V.c (Il (x2 + 1)))] m61)) → 
 R23 [(V.c (Il x24))] m25) → R23 [(V.c (Il 0))] m22))) (Q (V.c c1) m3)) → 
 R0 [(V.c c1), (V.c (Il x2))] m3) → R0 [(V.c C.sl0), (V.c (Il 0))] m)) : Wc prog tbl 19 [(V.c a100)] m Q :=
 wc_eq (n := 1) rfl (by kernel_rfl) (by kernel_rfl) h
theorem w22 {a100 : Int} {a200 : Int} {a300 : Int} {m : M} {Q : V → M → Prop} (h :
 (ifB (decide (a200 ≤ a100)) (Q (V.c (C.bool (decide (a100 ≤ a300)))) m) (Q (V.c (C.bool false)) m))) : Wc prog tbl 22 [(V.c (Il a100)), (V.c (Il a200)), (V.c (Il a300))] m Q :=
 wc_eq (n := 3) rfl (by kernel_rfl) (by kernel_rfl) h
theorem w31 {a100 : C} {a200 : Int} {a201 : Int} {a202 : Int} {a203 : Int} {a204 : Int} {a205 : Int} {a300 : Int} {a301 : Int} {m : M} {Q : V → M → Prop} (h :
 (∀ m0 : M, (m0 = (M.new m (AO.cells 6 [(Il a200), (Il a201), (Il a202), 
 (Il a203), (Il a204), (Il a205)] false))) → ∀ m1 : M, (m1 = (M.new m0 (AO.cells 2 [(Il a300), 
 (Il a301)] false))) → isPt (C.ptr m.nxt 0) ∧ ∃ x2, ((ldC m1 (C.ptr m.nxt 1)) = (some (Il x2))) ∧ 
 isPt (C.ptr m.nxt 0) ∧ ∃ x3, ((ldC m1 (C.ptr m.nxt 0)) = (some (Il x3))) ∧ 
 isPt (C.ptr m0.nxt 0) ∧ ∃ x4, ((ldC m1 (C.ptr m0.nxt 0)) = (some (Il x4))) ∧ 
 isPt (C.ptr m0.nxt 0) ∧ ∃ x5, ((ldC m1 (C.ptr m0.nxt 1)) = (some (Il x5))) ∧ 
 Wc prog tbl 24 [(V.c a100), (V.c (Il x3)), (V.c (Il x4)), (V.c (Il x5))] m1 (fun v6 m7 => 
 ∃ x8, (v6 = (V.c (Il x8))) ∧ ((ldC m7 (C.ptr m.nxt 1)) = (some (Il x2))) ∧ 
 ((0 : Int) ≤ x2) ∧ ((0 : Int) ≤ x8) ∧ fitsP .i64 (x2 * x8) ∧ ((0 : Int) ≤ (x2 * x8)) ∧ 
 ((0 : Int) < (100 : Int)) ∧ fitsP .i64 ((x2 * x8) / (100 : Int)) ∧ Q (V.c (Il ((x2 * x8) / (100 : Int)))) m7))) : Wc prog tbl 31 [(V.c a100), (V.agg 6 [(Il a200), (Il a201), (Il a202), (Il a203), (Il a204), (Il a205)]), (V.agg 2 [(Il a300), (Il a301)])] m Q :=
 wc_eq (n := 3) rfl (by kernel_rfl) (by kernel_rfl) h
theorem w40 {a100 : C} {m : M} {Q : V → M → Prop} (h :
 (∀ R0 : List V → M → Prop, (∀ c1 : C, ∀ x2 : Int, ∀ m3 : M, (isSl a100 ∧ ifB (decide (x2 < (((slLen a100) : Nat) : Int))) (∃ n4 : Nat, 
 (x2 = ((n4 : Nat) : Int)) ∧ (n4 < (slLen a100)) ∧ ∃ x5, ∃ x6, ∃ x7, ∃ x8, 
 ∃ x9, ∃ x10, ((ldA m3 (slAt a100 (n4 * 6)) 6) = (some [(Il x5), 
 (Il x6), (Il x7), (Il x8), (Il x9), 
 (Il x10)])) ∧ Wc prog tbl 26 [(V.agg 6 [(Il x5), (Il x6), 
 (Il x7), (Il x8), (Il x9), (Il x10)])] m3 (fun v11 m12 => 
 ∃ x13, ∃ x14, ∃ x15, ∃ x16, ∃ x17, ∃ x18, (v11 = (V.agg 6 [(Il x13), 
 (Il x14), (Il x15), (Il x16), (Il x17), 
 (Il x18)])) ∧ ∀ m19 : M, (m19 = (M.new m12 (AO.cells 6 [(Il x13), 
 (Il x14), (Il x15), (Il x16), (Il x17), 
 (Il x18)] false))) → ∃ c20 : C, ∃ m21 : M, (ApR prog 67 m19 c1 (C.sl m12.nxt 0 1 0 (some 1)) c20 m21) ∧ 
 fitsP .i64 (x2 + 1) ∧ R0 [(V.c c20), (V.c (Il (x2 + 1)))] m21)) (Q (V.c c1) m3)) → 
 R0 [(V.c c1), (V.c (Il x2))] m3) → R0 [(V.c C.sl0), (V.c (Il 0))] m)) : Wc prog tbl 40 [(V.c a100)] m Q :=
 wc_eq (n := 1) rfl (by kernel_rfl) (by kernel_rfl) h
theorem w52 {a100 : C} {a200 : Int} {m : M} {Q : V → M → Prop} (h :
 (∀ R0 : List V → M → Prop, (∀ x1 : Int, ∀ m2 : M, (fitsP .i64 (x1 + 1) ∧ isSl a100 ∧ ifB (decide ((x1 + 1) < (((slLen a100) : Nat) : Int))) (fitsP .i64 (x1 + 1) ∧ 
 ∃ n3 : Nat, ((x1 + 1) = ((n3 : Nat) : Int)) ∧ (n3 < (slLen a100)) ∧ ∃ x4, ((ldC m2 (slAt a100 (n3 * 1))) = (some (Il x4))) ∧ 
 ifB (decide (x4 ≤ a200)) (fitsP .i64 (x1 + 1) ∧ R0 [(V.c (Il (x1 + 1)))] m2) (Q (V.c (Il x1)) m2)) (Q (V.c (Il x1)) m2)) → 
 R0 [(V.c (Il x1))] m2) → R0 [(V.c (Il 0))] m)) : Wc prog tbl 52 [(V.c a100), (V.c (Il a200))] m Q :=
 wc_eq (n := 2) rfl (by kernel_rfl) (by kernel_rfl) h
theorem w55 {a100 : Int} {m : M} {Q : V → M → Prop} (h :
 (Wc prog tbl 78 [(V.agg 2 [(Il 0), (Il (120 : Int))]), (V.c (Il a100))] m (fun v0 m1 => 
 ∃ b2 : Bool, (v0 = (V.c (C.bool b2))) ∧ Q (V.c (C.bool b2)) m1))) : Wc prog tbl 55 [(V.c (Il a100))] m Q :=
 wc_eq (n := 1) rfl (by kernel_rfl) (by kernel_rfl) h
theorem w58 {a100 : C} {m : M} {Q : V → M → Prop} (h :
 (∀ m0 : M, (m0 = (M.new m (AO.cells 0 [] false))) → ∃ c1 : C, ∃ m2 : M, (ApR prog 73 m0 (C.sl m.nxt 0 0 0 (some 0)) a100 c1 m2) ∧ 
 Q (V.c c1) m2)) : Wc prog tbl 58 [(V.c a100)] m Q :=
 wc_eq (n := 1) rfl (by kernel_rfl) (by kernel_rfl) h
theorem w61 {a100 : C} {m : M} {Q : V → M → Prop} (h :
 (Wc prog tbl 84 [(V.c a100), (V.c (C.fn (Fn.func 85) [] []))] m (fun v0 m1 => ∃ b2 : Bool, (v0 = (V.c (C.bool b2))) ∧ 
 ifB b2 (Wc prog tbl 87 [(V.c a100)] m1 (fun v3 m4 => ∃ c5 : C, (v3 = (V.c c5)) ∧ Wc prog tbl 86 [(V.c c5)] m4 (fun v6 m7 => 
 ∃ b8 : Bool, (v6 = (V.c (C.bool b8))) ∧ ifB b8 (optB (mapO vW [(V.c a100)]) False fun l9 => Wc prog tbl 84 [(V.c a100), 
 (V.c (C.fn (Fn.func 88) l9 []))] m7 (fun v10 m11 => ∃ b12 : Bool, (v10 = (V.c (C.bool b12))) ∧ 
 Q (V.c (C.bool b12)) m11)) (Q (V.c (C.bool false)) m7)))) (Q (V.c (C.bool false)) m1)))) : Wc prog tbl 61 [(V.c a100)] m Q :=
 wc_eq (n := 1) rfl (by kernel_rfl) (by kernel_rfl) h
theorem w67 {a100 : C} {a101 : C} {a200 : Int} {a201 : Int} {a202 : Int} {a203 : Int} {a204 : Int} {a205 : Int} {m : M} {Q : V → M → Prop} (h :
 (∀ m0 : M, (m0 = (M.new m (AO.cells 2 [a100, a101] false))) → ∀ m1 : M, (m1 = (M.new m0 (AO.cells 6 [(Il a200), 
 (Il a201), (Il a202), (Il a203), (Il a204), 
 (Il a205)] false))) → ∀ m2 : M, (m2 = (M.new m1 (AO.cells 2 [(Il 0), 
 (Il 0)] false))) → ∀ m3 : M, (m3 = (M.new m2 (AO.cells 1 [C.sl0] false))) → 
 ∃ x4, ∃ x5, ∃ x6, ∃ x7, ∃ x8, ∃ x9, ((ldA m3 (C.ptr m0.nxt 0) 6) = (some [(Il x4), 
 (Il x5), (Il x6), (Il x7), (Il x8), 
 (Il x9)])) ∧ Wc prog tbl 69 [(V.agg 6 [(Il x4), (Il x5), 
 (Il x6), (Il x7), (Il x8), (Il x9)])] m3 (fun v10 m11 => 
 ∃ c12 : C, (v10 = (V.c c12)) ∧ rangeP prog tbl c12 m11 (fun l13 m14 R15 R16 => ∃ x17, 
 ∃ x18, (l13 = [(V.agg 2 [(Il x17), (Il x18)])]) ∧ 
 ∀ m19 : M, (m19 = (M.new m14 (AO.cells 2 [(Il 0), (Il 0)] false))) → 
 ∃ m20 : M, ((stC m19 (C.ptr m14.nxt 0) 2 [(Il x17), (Il x18)]) = (some m20)) ∧ 
 R15 m20 (fun m21 => ∃ c22 : C, ((ldC m21 (C.ptr m2.nxt 0)) = (some c22)) ∧ 
 ∃ c23 : C, ∃ c24 : C, ((ldA m21 (C.ptr m.nxt 0) 2) = (some [c23, 
 c24])) ∧ ∃ x25, ∃ x26, ∃ x27, ∃ x28, ∃ x29, 
 ∃ x30, ((ldA m21 (C.ptr m0.nxt 0) 6) = (some [(Il x25), 
 (Il x26), (Il x27), (Il x28), (Il x29), 
 (Il x30)])) ∧ ∃ x31, ∃ x32, ((ldA m21 (C.ptr m14.nxt 0) 2) = (some [(Il x31), 
 (Il x32)])) ∧ Wc prog tbl 65 [(V.agg 2 [c23, c24]), (V.agg 6 [(Il x25), 
 (Il x26), (Il x27), (Il x28), (Il x29), 
 (Il x30)]), (V.agg 2 [(Il x31), (Il x32)])] m21 (fun v33 m34 => 
 ∃ x35, (v33 = (V.c (Il x35))) ∧ (ifB (noFnC c22) ((ldC m34 (C.ptr m2.nxt 0)) = (some c22)) False) ∧ 
 ∀ m36 : M, (m36 = (M.new m34 (AO.cells 1 [(Il x35)] false))) → 
 (ifB (noFnC c22) ((ldC m36 (C.ptr m2.nxt 0)) = (some c22)) False) ∧ 
 ∃ c37 : C, ∃ m38 : M, (ApR prog 73 m36 c22 (C.sl m34.nxt 0 1 0 (some 1)) c37 m38) ∧ 
 ∃ m39 : M, ((stC m38 (C.ptr m2.nxt 0) 1 [c37]) = (some m39)) ∧ R16 Ex.nrm m39))) (After.mk (fun m40 => 
 ∃ c41 : C, ((ldC m40 (C.ptr m2.nxt 0)) = (some c41)) ∧ Wc prog tbl 91 [(V.c c41)] m40 (fun v42 m43 => 
 ∃ x44, (v42 = (V.c (Il x44))) ∧ ∃ c45 : C, ((ldC m43 (C.ptr m2.nxt 0)) = (some c45)) ∧ 
 (ifB (noFnC c45) ((ldC m40 (C.ptr m2.nxt 0)) = (some c45)) False) ∧ 
 Wc prog tbl 92 [(V.c c45)] m43 (fun v46 m47 => ∃ x48, (v46 = (V.c (Il x48))) ∧ 
 ∃ m49 : M, ((stC m47 (C.ptr m1.nxt 0) 2 [(Il x44), (Il x48)]) = (some m49)) ∧ 
 ∃ x50, ∃ x51, ((ldA m49 (C.ptr m1.nxt 0) 2) = (some [(Il x50), 
 (Il x51)])) ∧ Q (V.agg 2 [(Il x50), (Il x51)]) m49))) [] (fun m52 => 
 ∃ x53, ∃ x54, ((ldA m52 (C.ptr m1.nxt 0) 2) = (some [(Il x53), 
 (Il x54)])) ∧ Q (V.agg 2 [(Il x53), (Il x54)]) m52))))) : Wc prog tbl 67 [(V.agg 2 [a100, a101]), (V.agg 6 [(Il a200), (Il a201), (Il a202), (Il a203), (Il a204), (Il a205)])] m Q :=
 wc_eq (n := 2) rfl (by kernel_rfl) (by kernel_rfl) h
theorem w77 {a100 : Int} {a200 : Int} {m : M} {Q : V → M → Prop} (h :
 (fitsP .i64 (a200 - 1) ∧ Wc prog tbl 78 [(V.agg 2 [(Il 0), (Il (a200 - 1))]), 
 (V.c (Il a100))] m (fun v0 m1 => ∃ b2 : Bool, (v0 = (V.c (C.bool b2))) ∧ Q (V.c (C.bool b2)) m1))) : Wc prog tbl 77 [(V.c (Il a100)), (V.c (Il a200))] m Q :=
 wc_eq (n := 2) rfl (by kernel_rfl) (by kernel_rfl) h
theorem w80 {a100 : Int} {a101 : Bool} {a102 : Int} {a103 : C} {a104 : C} {a105 : C} {a200 : Int} {a201 : Int} {a202 : Int} {m : M} {Q : V → M → Prop} (h :
 (∀ m0 : M, (m0 = (M.new m (AO.cells 6 [(Il a100), (C.bool a101), (Il a102), a103, 
 a104, a105] false))) → ∀ m1 : M, (m1 = (M.new m0 (AO.cells 3 [(Il a200), (Il a201), 
 (Il a202)] false))) → ∃ x2, ∃ b3 : Bool, ∃ x4, ∃ c5 : C, ∃ c6 : C, 
 ∃ c7 : C, ((ldA m1 (C.ptr m.nxt 0) 6) = (some [(Il x2), (C.bool b3), (Il x4), 
 c5, c6, c7])) ∧ ∃ x8, ∃ x9, ∃ x10, ((ldA m1 (C.ptr m0.nxt 0) 3) = (some [(Il x8), 
 (Il x9), (Il x10)])) ∧ Wc prog tbl 99 [(V.agg 6 [(Il x2), 
 (C.bool b3), (Il x4), c5, c6, c7]), (V.agg 3 [(Il x8), (Il x9), 
 (Il x10)])] m1 (fun v11 m12 => ∃ x13, (v11 = (V.c (Il x13))) ∧ 
 isPt (C.ptr m.nxt 0) ∧ ∃ x14, ((ldC m12 (C.ptr m.nxt 2)) = (some (Il x14))) ∧ 
 ifB (decide (x13 < x14)) (Q (V.c (Il 0)) m12) (∃ x15, ∃ b16 : Bool, 
 ∃ x17, ∃ c18 : C, ∃ c19 : C, ∃ c20 : C, ((ldA m12 (C.ptr m.nxt 0) 6) = (some [(Il x15), 
 (C.bool b16), (Il x17), c18, c19, c20])) ∧ Wc prog tbl 100 [(V.agg 6 [(Il x15), 
 (C.bool b16), (Il x17), c18, c19, c20])] m12 (fun v21 m22 => ∃ c23 : C, 
 (v21 = (V.agg 1 [c23])) ∧ ∃ x24, ∃ b25 : Bool, ∃ x26, ∃ c27 : C, 
 ∃ c28 : C, ∃ c29 : C, ((ldA m22 (C.ptr m.nxt 0) 6) = (some [(Il x24), 
 (C.bool b25), (Il x26), c27, c28, c29])) ∧ (ifB (allS noFnC [(Il x24), 
 (C.bool b25), (Il x26), c27, c28, c29]) ((ldA m12 (C.ptr m.nxt 0) 6) = (some [(Il x24), 
 (C.bool b25), (Il x26), c27, c28, c29])) False) ∧ callP prog tbl [(V.agg 6 [(Il x24), 
 (C.bool b25), (Il x26), c27, c28, c29]), (V.c (Il x13))] c23 m22 (fun v30 m31 => 
 ∃ x32, (v30 = (V.c (Il x32))) ∧ Q (V.c (Il x32)) m31)))))) : Wc prog tbl 80 [(V.agg 6 [(Il a100), (C.bool a101), (Il a102), a103, a104, a105]), (V.agg 3 [(Il a200), (Il a201), (Il a202)])] m Q :=
 wc_eq (n := 2) rfl (by kernel_rfl) (by kernel_rfl) h
theorem w83 {a100 : Int} {a101 : Bool} {a102 : Int} {a103 : C} {a104 : C} {a105 : C} {m : M} {Q : V → M → Prop} (h :
 (∀ m0 : M, (m0 = (M.new m (AO.cells 6 [(Il a100), (C.bool a101), (Il a102), a103, 
 a104, a105] false))) → isPt (C.ptr m.nxt 0) ∧ ∃ c1 : C, ((ldC m0 (C.ptr m.nxt 3)) = (some c1)) ∧ 
 isSl c1 ∧ ifB (decide ((4 : Int) < (((slLen c1) : Nat) : Int))) (Q (V.c (C.bool true)) m0) (isPt (C.ptr m.nxt 0) ∧ 
 ∃ c2 : C, ((ldC m0 (C.ptr m.nxt 4)) = (some c2)) ∧ isSl c2 ∧ ifB (decide ((5 : Int) < (((slLen c2) : Nat) : Int))) (Q (V.c (C.bool true)) m0) (isPt (C.ptr m.nxt 0) ∧ 
 ∃ c3 : C, ((ldC m0 (C.ptr m.nxt 5)) = (some c3)) ∧ isSl c3 ∧ Q (V.c (C.bool (decide ((3 : Int) < (((slLen c3) : Nat) : Int))))) m0)))) : Wc prog tbl 83 [(V.agg 6 [(Il a100), (C.bool a101), (Il a102), a103, a104, a105])] m Q :=
 wc_eq (n := 1) rfl (by kernel_rfl) (by kernel_rfl) h
theorem w86 {a100 : C} {m : M} {Q : V → M → Prop} (h :
 (isSl a100 ∧ ∀ R0 : List V → M → Prop, (∀ b1 : Bool, ∀ x2 : Int, ∀ m3 : M, (ifB (decide (x2 < (((slLen a100) : Nat) : Int))) (∃ n4 : Nat, 
 (x2 = ((n4 : Nat) : Int)) ∧ (n4 < (slLen a100)) ∧ ∃ x5, ((ldC m3 (slAt a100 (n4 * 1))) = (some (Il x5))) ∧ 
 ifB (decide ((0 : Int) < x2)) (fitsP .i64 (x2 - 1) ∧ ∃ n6 : Nat, ((x2 - 1) = ((n6 : Nat) : Int)) ∧ 
 (n6 < (slLen a100)) ∧ ∃ x7, ((ldC m3 (slAt a100 (n6 * 1))) = (some (Il x7))) ∧ 
 ifB (decide (x5 ≤ x7)) (Q (V.c (C.bool false)) m3) (fitsP .i64 (x2 + 1) ∧ 
 R0 [(V.c (C.bool b1)), (V.c (Il (x2 + 1)))] m3)) (fitsP .i64 (x2 + 1) ∧ 
 R0 [(V.c (C.bool b1)), (V.c (Il (x2 + 1)))] m3)) (isSl a100 ∧ 
 ifB (decide ((0 : Int) < (((slLen a100) : Nat) : Int))) (∃ n8 : Nat, ((0 : Int) = ((n8 : Nat) : Int)) ∧ 
 (n8 < (slLen a100)) ∧ ∃ x9, ((ldC m3 (slAt a100 (n8 * 1))) = (some (Il x9))) ∧ 
 Q (V.c (C.bool (decide (x9 = 0)))) m3) (Q (V.c (C.bool false)) m3))) → R0 [(V.c (C.bool b1)), 
 (V.c (Il x2))] m3) → R0 [(V.c (C.bool false)), (V.c (Il 0))] m)) : Wc prog tbl 86 [(V.c a100)] m Q :=
 wc_eq (n := 1) rfl (by kernel_rfl) (by kernel_rfl) h
theorem w89 {a100 : C} {a200 : C} {m : M} {Q : V → M → Prop} (h :
 (∀ m0 : M, (m0 = (M.new m (AO.cells 1 [a200] false))) → Wc prog tbl 109 [(V.c a100), (V.c (C.fn (Fn.func 110) [] [(W.c (C0.ptr m.nxt 0))]))] m0 (fun v1 m2 => 
 ∃ b3 : Bool, (v1 = (V.c (C.bool b3))) ∧ Q (V.c (C.bool (!b3))) m2))) : Wc prog tbl 89 [(V.c a100), (V.c a200)] m Q :=
 wc_eq (n := 2) rfl (by kernel_rfl) (by kernel_rfl) h
theorem w92 {a100 : C} {m : M} {Q : V → M → Prop} (h :
 (isSl a100 ∧ ifB (decide ((((slLen a100) : Nat) : Int) < (1 : Int))) False (∃ n0 : Nat, ((0 : Int) = ((n0 : Nat) : Int)) ∧ 
 (n0 < (slLen a100)) ∧ ∃ x1, ((ldC m (slAt a100 (n0 * 1))) = (some (Il x1))) ∧ 
 ∀ R2 : List V → M → Prop, (∀ x3 : Int, ∀ x4 : Int, ∀ m5 : M, (isSl a100 ∧ ifB (decide (x4 < (((slLen a100) : Nat) : Int))) (∃ n6 : Nat, 
 (x4 = ((n6 : Nat) : Int)) ∧ (n6 < (slLen a100)) ∧ ∃ x7, ((ldC m5 (slAt a100 (n6 * 1))) = (some (Il x7))) ∧ 
 fitsP .i64 (x4 + 1) ∧ R2 [(V.c (Il (Max.max x3 x7))), (V.c (Il (x4 + 1)))] m5) (Q (V.c (Il x3)) m5)) → 
 R2 [(V.c (Il x3)), (V.c (Il x4))] m5) → R2 [(V.c (Il x1)), 
 (V.c (Il (1 : Int)))] m))) : Wc prog tbl 92 [(V.c a100)] m Q :=
 wc_eq (n := 1) rfl (by kernel_rfl) (by kernel_rfl) h
theorem w99 {a100 : Int} {a101 : Bool} {a102 : Int} {a103 : C} {a104 : C} {a105 : C} {a200 : Int} {a201 : Int} {a202 : Int} {m : M} {Q : V → M → Prop} (h :
 (∀ m0 : M, (m0 = (M.new m (AO.cells 6 [(Il a100), (C.bool a101), (Il a102), a103, 
 a104, a105] false))) → ∀ m1 : M, (m1 = (M.new m0 (AO.cells 3 [(Il a200), (Il a201), 
 (Il a202)] false))) → isPt (C.ptr m.nxt 0) ∧ ∃ c2 : C, ((ldC m1 (C.ptr m.nxt 5)) = (some c2)) ∧ 
 isPt (C.ptr m0.nxt 0) ∧ ∃ x3, ((ldC m1 (C.ptr m0.nxt 2)) = (some (Il x3))) ∧ 
 ∃ n4 : Nat, (x3 = ((n4 : Nat) : Int)) ∧ (n4 < (slLen c2)) ∧ ∃ c5 : C, ((ldC m1 (slAt c2 (n4 * 1))) = (some c5)) ∧ 
 isPt (C.ptr m.nxt 0) ∧ ∃ c6 : C, ((ldC m1 (C.ptr m.nxt 3)) = (some c6)) ∧ isPt (C.ptr m0.nxt 0) ∧ 
 isPt (C.ptr m0.nxt 0) ∧ ∃ x7, ((ldC m1 (C.ptr m0.nxt 0)) = (some (Il x7))) ∧ 
 Wc prog tbl 98 [(V.c c6), (V.c (Il x7))] m1 (fun v8 m9 => ∃ x10, 
 (v8 = (V.c (Il x10))) ∧ (ifB (noFnC c5) ((ldC m9 (slAt c2 (n4 * 1))) = (some c5)) False) ∧ 
 ((ldC m9 (C.ptr m0.nxt 2)) = (some (Il x3))) ∧ (ifB (noFnC c2) ((ldC m9 (C.ptr m.nxt 5)) = (some c2)) False) ∧ 
 ∃ n11 : Nat, (x10 = ((n11 : Nat) : Int)) ∧ (n11 < (slLen c5)) ∧ ∃ c12 : C, 
 ((ldC m9 (slAt c5 (n11 * 1))) = (some c12)) ∧ isPt (C.ptr m.nxt 0) ∧ 
 ∃ c13 : C, ((ldC m9 (C.ptr m.nxt 4)) = (some c13)) ∧ isPt (C.ptr m0.nxt 0) ∧ 
 isPt (C.ptr m0.nxt 0) ∧ ∃ x14, ((ldC m9 (C.ptr m0.nxt 1)) = (some (Il x14))) ∧ 
 Wc prog tbl 116 [(V.c c13), (V.c (Il x14))] m9 (fun v15 m16 => 
 ∃ x17, ∃ b18 : Bool, (v15 = (V.tup [(U.c (Il x17)), (U.c (C.bool b18))])) ∧ 
 ifB b18 (∃ n19 : Nat, (x17 = ((n19 : Nat) : Int)) ∧ (n19 < (slLen c12)) ∧ 
 ∃ x20, ((ldC m16 (slAt c12 (n19 * 1))) = (some (Il x20))) ∧ 
 Q (V.c (Il x20)) m16) (isPt (C.ptr m.nxt 0) ∧ ∃ c21 : C, 
 ((ldC m16 (C.ptr m.nxt 4)) = (some c21)) ∧ fitsP .i64 (x17 - 1) ∧ 
 ∃ n22 : Nat, ((x17 - 1) = ((n22 : Nat) : Int)) ∧ (n22 < (slLen c21)) ∧ 
 ∃ x23, ((ldC m16 (slAt c21 (n22 * 1))) = (some (Il x23))) ∧ 
 isPt (C.ptr m.nxt 0) ∧ ∃ c24 : C, ((ldC m16 (C.ptr m.nxt 4)) = (some c24)) ∧ 
 ∃ n25 : Nat, (x17 = ((n25 : Nat) : Int)) ∧ (n25 < (slLen c24)) ∧ ∃ x26, 
 ((ldC m16 (slAt c24 (n25 * 1))) = (some (Il x26))) ∧ fitsP .i64 (x17 - 1) ∧ 
 ∃ n27 : Nat, ((x17 - 1) = ((n27 : Nat) : Int)) ∧ (n27 < (slLen c12)) ∧ 
 ∃ x28, ((ldC m16 (slAt c12 (n27 * 1))) = (some (Il x28))) ∧ 
 isPt (C.ptr m0.nxt 0) ∧ isPt (C.ptr m0.nxt 0) ∧ ∃ x29, ((ldC m16 (C.ptr m0.nxt 1)) = (some (Il x29))) ∧ 
 fitsP .i64 (x26 - x29) ∧ ((0 : Int) ≤ x28) ∧ ((0 : Int) ≤ (x26 - x29)) ∧ 
 fitsP .i64 (x28 * (x26 - x29)) ∧ ∃ n30 : Nat, (x17 = ((n30 : Nat) : Int)) ∧ 
 (n30 < (slLen c12)) ∧ ∃ x31, ((ldC m16 (slAt c12 (n30 * 1))) = (some (Il x31))) ∧ 
 isPt (C.ptr m0.nxt 0) ∧ isPt (C.ptr m0.nxt 0) ∧ ∃ x32, ((ldC m16 (C.ptr m0.nxt 1)) = (some (Il x32))) ∧ 
 fitsP .i64 (x32 - x23) ∧ ((0 : Int) ≤ x31) ∧ ((0 : Int) ≤ (x32 - x23)) ∧ 
 fitsP .i64 (x31 * (x32 - x23)) ∧ fitsP .i64 ((x28 * (x26 - x29)) + (x31 * (x32 - x23))) ∧ 
 fitsP .i64 (x26 - x23) ∧ ((0 : Int) ≤ ((x28 * (x26 - x29)) + (x31 * (x32 - x23)))) ∧ 
 ((0 : Int) < (x26 - x23)) ∧ fitsP .i64 (((x28 * (x26 - x29)) + (x31 * (x32 - x23))) / (x26 - x23)) ∧ 
 Q (V.c (Il (((x28 * (x26 - x29)) + (x31 * (x32 - x23))) / (x26 - x23)))) m16))))) : Wc prog tbl 99 [(V.agg 6 [(Il a100), (C.bool a101), (Il a102), a103, a104, a105]), (V.agg 3 [(Il a200), (Il a201), (Il a202)])] m Q :=
 wc_eq (n := 2) rfl (by kernel_rfl) (by kernel_rfl) h
theorem w102 {a100 : C} {a200 : C} {m : M} {Q : V → M → Prop} (h :
 (isSl a100 ∧ ∀ R0 : List V → M → Prop, (∀ x1 : Int, ∀ x2 : Int, ∀ m3 : M, (ifB (decide (x2 < (((slLen a100) : Nat) : Int))) (∃ n4 : Nat, 
 (x2 = ((n4 : Nat) : Int)) ∧ (n4 < (slLen a100)) ∧ ∃ x5, ∃ b6 : Bool, ∃ x7, ∃ c8 : C, 
 ∃ c9 : C, ∃ c10 : C, ((ldA m3 (slAt a100 (n4 * 6)) 6) = (some [(Il x5), 
 (C.bool b6), (Il x7), c8, c9, c10])) ∧ callP prog tbl [(V.agg 6 [(Il x5), 
 (C.bool b6), (Il x7), c8, c9, c10])] a200 m3 (fun v11 m12 => ∃ b13 : Bool, 
 (v11 = (V.c (C.bool b13))) ∧ ifB b13 (Q (V.c (Il x2)) m12) (fitsP .i64 (x2 + 1) ∧ 
 R0 [(V.c (Il x1)), (V.c (Il (x2 + 1)))] m12))) (Q (V.c (Il (-1 : Int))) m3)) → 
 R0 [(V.c (Il x1)), (V.c (Il x2))] m3) → R0 [(V.c (Il 0)), 
 (V.c (Il 0))] m)) : Wc prog tbl 102 [(V.c a100), (V.c a200)] m Q :=
 wc_eq (n := 2) rfl (by kernel_rfl) (by kernel_rfl) h
theorem w106 {a100 : C} {a200 : C} {m : M} {Q : V → M → Prop} (h :
 (∀ m0 : M, (m0 = (M.new m (AO.cells 1 [a200] false))) → Wc prog tbl 120 [(V.c a100), (V.c (C.fn (Fn.func 121) [] [(W.c (C0.ptr m.nxt 0))]))] m0 (fun v1 m2 => 
 ∃ b3 : Bool, (v1 = (V.c (C.bool b3))) ∧ Q (V.c (C.bool (!b3))) m2))) : Wc prog tbl 106 [(V.c a100), (V.c a200)] m Q :=
 wc_eq (n := 2) rfl (by kernel_rfl) (by kernel_rfl) h
theorem w109 {a100 : C} {a200 : C} {m : M} {Q : V → M → Prop} (h :
 (Wc prog tbl 126 [(V.c a100), (V.c a200)] m (fun v0 m1 => ∃ x2, (v0 = (V.c (Il x2))) ∧ Q (V.c (C.bool (decide ((0 : Int) ≤ x2)))) m1))) : Wc prog tbl 109 [(V.c a100), (V.c a200)] m Q :=
 wc_eq (n := 2) rfl (by kernel_rfl) (by kernel_rfl) h
theorem w116 {a100 : C} {a200 : Int} {m : M} {Q : V → M → Prop} (h :
 (isSl a100 ∧ ∀ R0 : List V → M → Prop, (∀ x1 : Int, ∀ x2 : Int, ∀ m3 : M, (ifB (decide (x1 < x2)) (fitsP .i64 (x1 + x2) ∧ 
 ((0 : Int) ≤ (wrapZ .u64 (x1 + x2))) ∧ ((0 : Int) ≤ (1 : Int)) ∧ ((1 : Int) ≤ (64 : Int)) ∧ 
 fitsP .u64 ((wrapZ .u64 (x1 + x2)) / (2 : Int)) ∧ ∃ n4 : Nat, ((wrapZ .i64 ((wrapZ .u64 (x1 + x2)) / (2 : Int))) = ((n4 : Nat) : Int)) ∧ 
 (n4 < (slLen a100)) ∧ ∃ x5, ((ldC m3 (slAt a100 (n4 * 1))) = (some (Il x5))) ∧ 
 Wc prog tbl 129 [(V.c (Il x5)), (V.c (Il a200))] m3 (fun v6 m7 => 
 ∃ b8 : Bool, (v6 = (V.c (C.bool b8))) ∧ ifB b8 (fitsP .i64 ((wrapZ .i64 ((wrapZ .u64 (x1 + x2)) / (2 : Int))) + (1 : Int)) ∧ 
 R0 [(V.c (Il ((wrapZ .i64 ((wrapZ .u64 (x1 + x2)) / (2 : Int))) + (1 : Int)))), 
 (V.c (Il x2))] m7) (R0 [(V.c (Il x1)), (V.c (Il (wrapZ .i64 ((wrapZ .u64 (x1 + x2)) / (2 : Int)))))] m7))) (ifB (decide (x1 < (((slLen a100) : Nat) : Int))) (∃ n9 : Nat, 
 (x1 = ((n9 : Nat) : Int)) ∧ (n9 < (slLen a100)) ∧ ∃ x10, ((ldC m3 (slAt a100 (n9 * 1))) = (some (Il x10))) ∧ 
 ifB (decide (x10 = a200)) (Q (V.tup [(U.c (Il x1)), (U.c (C.bool true))]) m3) (∃ n11 : Nat, 
 (x1 = ((n11 : Nat) : Int)) ∧ (n11 < (slLen a100)) ∧ ∃ x12, ((ldC m3 (slAt a100 (n11 * 1))) = (some (Il x12))) ∧ 
 Wc prog tbl 130 [(V.c (Il x12))] m3 (fun v13 m14 => ∃ b15 : Bool, (v13 = (V.c (C.bool b15))) ∧ 
 ifB b15 (Wc prog tbl 130 [(V.c (Il a200))] m14 (fun v16 m17 => ∃ b18 : Bool, 
 (v16 = (V.c (C.bool b18))) ∧ Q (V.tup [(U.c (Il x1)), (U.c (C.bool b18))]) m17)) (Q (V.tup [(U.c (Il x1)), 
 (U.c (C.bool false))]) m14)))) (Q (V.tup [(U.c (Il x1)), 
 (U.c (C.bool false))]) m3))) → R0 [(V.c (Il x1)), (V.c (Il x2))] m3) → 
 R0 [(V.c (Il 0)), (V.c (Il (((slLen a100) : Nat) : Int)))] m)) : Wc prog tbl 116 [(V.c a100), (V.c (Il a200))] m Q :=
 wc_eq (n := 2) rfl (by kernel_rfl) (by kernel_rfl) h
theorem w119 {a100 : C} {a200 : C} {m : M} {Q : V → M → Prop} (h :
 (isSl a100 ∧ ∀ R0 : List V → M → Prop, (∀ x1 : Int, ∀ x2 : Int, ∀ m3 : M, (ifB (decide (x2 < (((slLen a100) : Nat) : Int))) (∃ n4 : Nat, 
 (x2 = ((n4 : Nat) : Int)) ∧ (n4 < (slLen a100)) ∧ ∃ x5, ∃ b6 : Bool, ∃ x7, ∃ c8 : C, 
 ∃ c9 : C, ∃ c10 : C, ((ldA m3 (slAt a100 (n4 * 6)) 6) = (some [(Il x5), 
 (C.bool b6), (Il x7), c8, c9, c10])) ∧ callP prog tbl [(V.agg 6 [(Il x5), 
 (C.bool b6), (Il x7), c8, c9, c10])] a200 m3 (fun v11 m12 => ∃ b13 : Bool, 
 (v11 = (V.c (C.bool b13))) ∧ ifB b13 (Q (V.c (Il x2)) m12) (fitsP .i64 (x2 + 1) ∧ 
 R0 [(V.c (Il x1)), (V.c (Il (x2 + 1)))] m12))) (Q (V.c (Il (-1 : Int))) m3)) → 
 R0 [(V.c (Il x1)), (V.c (Il x2))] m3) → R0 [(V.c (Il 0)), 
 (V.c (Il 0))] m)) : Wc prog tbl 119 [(V.c a100), (V.c a200)] m Q :=
 wc_eq (n := 2) rfl (by kernel_rfl) (by kernel_rfl) h
theorem w124 {a100 : C} {a200 : C} {m : M} {Q : V → M → Prop} (h :
 (∀ m0 : M, (m0 = (M.new m (AO.cells 1 [a200] false))) → Wc prog tbl 133 [(V.c a100), (V.c (C.fn (Fn.func 134) [] [(W.c (C0.ptr m.nxt 0))]))] m0 (fun v1 m2 => 
 ∃ b3 : Bool, (v1 = (V.c (C.bool b3))) ∧ Q (V.c (C.bool (!b3))) m2))) : Wc prog tbl 124 [(V.c a100), (V.c a200)] m Q :=
 wc_eq (n := 2) rfl (by kernel_rfl) (by kernel_rfl) h
theorem w129 {a100 : Int} {a200 : Int} {m : M} {Q : V → M → Prop} (h :
 (Wc prog tbl 95 [(V.c (Il a100))] m (fun v0 m1 => ∃ b2 : Bool, (v0 = (V.c (C.bool b2))) ∧ ifB b2 (Wc prog tbl 95 [(V.c (Il a200))] m1 (fun v3 m4 => 
 ∃ b5 : Bool, (v3 = (V.c (C.bool b5))) ∧ ifB (!b5) (Q (V.c (C.bool true)) m4) (Q (V.c (C.bool (decide (a100 < a200)))) m4))) (Q (V.c (C.bool (decide (a100 < a200)))) m1)))) : Wc prog tbl 129 [(V.c (Il a100)), (V.c (Il a200))] m Q :=
 wc_eq (n := 2) rfl (by kernel_rfl) (by kernel_rfl) h
theorem w132 {a100 : C} {a200 : C} {m : M} {Q : V → M → Prop} (h :
 (isSl a100 ∧ ∀ R0 : List V → M → Prop, (∀ x1 : Int, ∀ x2 : Int, ∀ m3 : M, (ifB (decide (x2 < (((slLen a100) : Nat) : Int))) (∃ n4 : Nat, 
 (x2 = ((n4 : Nat) : Int)) ∧ (n4 < (slLen a100)) ∧ ∃ c5 : C, ((ldC m3 (slAt a100 (n4 * 1))) = (some c5)) ∧ 
 callP prog tbl [(V.c c5)] a200 m3 (fun v6 m7 => ∃ b8 : Bool, (v6 = (V.c (C.bool b8))) ∧ ifB b8 (Q (V.c (Il x2)) m7) (fitsP .i64 (x2 + 1) ∧ 
 R0 [(V.c (Il x1)), (V.c (Il (x2 + 1)))] m7))) (Q (V.c (Il (-1 : Int))) m3)) → 
 R0 [(V.c (Il x1)), (V.c (Il x2))] m3) → R0 [(V.c (Il 0)), 
 (V.c (Il 0))] m)) : Wc prog tbl 132 [(V.c a100), (V.c a200)] m Q :=
 wc_eq (n := 2) rfl (by kernel_rfl) (by kernel_rfl) h
end
end Go.Proofs.Ytbhdgedghfibcaa

namespace Go.Proofs.Ytbhdgedghfibcaa
open _root_.Go.Proofs.Try
open Go.Abs
set_option maxRecDepth 100000
noncomputable section
theorem w135 {a100 : C} {a200 : C} {m : M} {Q : V → M → Prop} (h :
 (isSl a100 ∧ ∀ R0 : List V → M → Prop, (∀ x1 : Int, ∀ x2 : Int, ∀ m3 : M, (ifB (decide (x2 < (((slLen a100) : Nat) : Int))) (∃ n4 : Nat, 
 (x2 = ((n4 : Nat) : Int)) ∧ (n4 < (slLen a100)) ∧ ∃ c5 : C, ((ldC m3 (slAt a100 (n4 * 1))) = (some c5)) ∧ 
 callP prog tbl [(V.c c5)] a200 m3 (fun v6 m7 => ∃ b8 : Bool, (v6 = (V.c (C.bool b8))) ∧ ifB b8 (Q (V.c (Il x2)) m7) (fitsP .i64 (x2 + 1) ∧ 
 R0 [(V.c (Il x1)), (V.c (Il (x2 + 1)))] m7))) (Q (V.c (Il (-1 : Int))) m3)) → 
 R0 [(V.c (Il x1)), (V.c (Il x2))] m3) → R0 [(V.c (Il 0)), 
 (V.c (Il 0))] m)) : Wc prog tbl 135 [(V.c a100), (V.c a200)] m Q :=
 wc_eq (n := 2) rfl (by kernel_rfl) (by kernel_rfl) h
end
end Go.Proofs.Ytbhdgedghfibcaa

