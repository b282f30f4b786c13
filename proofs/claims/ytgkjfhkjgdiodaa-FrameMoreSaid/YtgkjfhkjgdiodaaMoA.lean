/- What functions of the program ask and do. Condition: none; a lemma text of this claim. -/
import Derived.Test.YtgkjfhkjgdiodaaTab
import Derived.KernelRfl
import Derived.ProofKit
import Derived.SizedLaws

namespace Go.Proofs.Ytgkjfhkjgdiodaa
open _root_.Go.Proofs.Try
open Go.Abs
set_option maxRecDepth 100000
noncomputable section
theorem w3 {a100 : Int} {a101 : Int} {a102 : C} {a200 : Int} {a201 : Int} {a202 : Int} {a300 : C} {m : M} {Q : V → M → Prop} (h :
 (∀ m0 : M, ((m0 = (M.new m (AO.cells 3 [(C.int .i64 a100), (C.int .i64 a101), a102] false))) → (∀ m1 : M, 
 ((m1 = (M.new m0 (AO.cells 3 [(C.int .i64 a200), (C.int .i64 a201), (C.int .i64 a202)] false))) → 
 (∃ x2 : Int, (∃ x3 : Int, (∃ c4 : C, (((ldA m1 (C.ptr m.nxt 0) 3) = (some [(C.int .i64 x2), 
 (C.int .i64 x3), c4])) ∧ (Wc prog tbl 19 [(V.agg 5 [(C.int .i64 x2), (C.int .i64 x3), 
 c4, (C.int .i64 (0 : Int)), a300])] m1 (fun v5 m6 => (∃ b7 : Bool, ((v5 = (V.c (C.bool b7))) ∧ 
 (ifB (!b7) (Wc prog tbl 20 [] m6 (fun v8 m9 => (∃ b10 : Bool, ((v8 = (V.c (C.bool b10))) ∧ (Q (V.c (C.bool b10)) m9))))) (∃ x11 : Int, 
 (∃ x12 : Int, (∃ c13 : C, (((ldA m6 (C.ptr m.nxt 0) 3) = (some [(C.int .i64 x11), 
 (C.int .i64 x12), c13])) ∧ (Wc prog tbl 22 [(V.agg 3 [(C.int .i64 x11), (C.int .i64 x12), 
 c13])] m6 (fun v14 m15 => (∃ x16 : Int, (∃ x17 : Int, (∃ c18 : C, ((v14 = (V.agg 3 [(C.int .i64 x16), 
 (C.int .i64 x17), c18])) ∧ (∃ x19 : Int, (∃ x20 : Int, (∃ x21 : Int, (((ldA m15 (C.ptr m0.nxt 0) 3) = (some [(C.int .i64 x19), 
 (C.int .i64 x20), (C.int .i64 x21)])) ∧ (((ldA m6 (C.ptr m0.nxt 0) 3) = (some [(C.int .i64 x19), 
 (C.int .i64 x20), (C.int .i64 x21)])) ∧ (Wc prog tbl 23 [(V.agg 3 [(C.int .i64 x19), 
 (C.int .i64 x20), (C.int .i64 x21)])] m15 (fun v22 m23 => (∃ x24 : Int, 
 (∃ x25 : Int, (∃ x26 : Int, ((v22 = (V.agg 3 [(C.int .i64 x24), (C.int .i64 x25), 
 (C.int .i64 x26)])) ∧ (Wc prog tbl 21 [(V.agg 3 [(C.int .i64 x16), 
 (C.int .i64 x17), c18]), (V.agg 3 [(C.int .i64 x24), (C.int .i64 x25), 
 (C.int .i64 x26)])] m23 (fun v27 m28 => (∃ c29 : C, (∃ x30 : Int, ((v27 = (V.tup [(U.c c29), 
 (U.c (C.int .i64 x30))])) ∧ (∃ x31 : Int, (∃ x32 : Int, (∃ c33 : C, (((ldA m28 (C.ptr m.nxt 0) 3) = (some [(C.int .i64 x31), 
 (C.int .i64 x32), c33])) ∧ (Wc prog tbl 22 [(V.agg 3 [(C.int .i64 x31), 
 (C.int .i64 x32), c33])] m28 (fun v34 m35 => (∃ x36 : Int, (∃ x37 : Int, 
 (∃ c38 : C, ((v34 = (V.agg 3 [(C.int .i64 x36), (C.int .i64 x37), 
 c38])) ∧ (∃ x39 : Int, (∃ x40 : Int, (∃ x41 : Int, (((ldA m35 (C.ptr m0.nxt 0) 3) = (some [(C.int .i64 x39), 
 (C.int .i64 x40), (C.int .i64 x41)])) ∧ (((ldA m28 (C.ptr m0.nxt 0) 3) = (some [(C.int .i64 x39), 
 (C.int .i64 x40), (C.int .i64 x41)])) ∧ (Wc prog tbl 23 [(V.agg 3 [(C.int .i64 x39), 
 (C.int .i64 x40), (C.int .i64 x41)])] m35 (fun v42 m43 => (∃ x44 : Int, 
 (∃ x45 : Int, (∃ x46 : Int, ((v42 = (V.agg 3 [(C.int .i64 x44), (C.int .i64 x45), 
 (C.int .i64 x46)])) ∧ (Wc prog tbl 25 [(V.c a300)] m43 (fun v47 m48 => 
 (∃ c49 : C, ((v47 = (V.c c49)) ∧ (Wc prog tbl 24 [(V.agg 3 [(C.int .i64 x36), 
 (C.int .i64 x37), c38]), (V.agg 3 [(C.int .i64 x44), (C.int .i64 x45), 
 (C.int .i64 x46)]), (V.c c49)] m48 (fun v50 m51 => (∃ c52 : C, (∃ x53 : Int, 
 ((v50 = (V.tup [(U.c c52), (U.c (C.int .i64 x53))])) ∧ (∃ x54 : Int, (∃ x55 : Int, 
 (∃ c56 : C, (((ldA m51 (C.ptr m.nxt 0) 3) = (some [(C.int .i64 x54), 
 (C.int .i64 x55), c56])) ∧ (Wc prog tbl 26 [(V.agg 3 [(C.int .i64 x54), 
 (C.int .i64 x55), c56])] m51 (fun v57 m58 => (∃ b59 : Bool, ((v57 = (V.c (C.bool b59))) ∧ 
 (ifB (!b59) (∃ x60 : Int, (∃ x61 : Int, (∃ c62 : C, (((ldA m58 (C.ptr m.nxt 0) 3) = (some [(C.int .i64 x60), 
 (C.int .i64 x61), c62])) ∧ (Wc prog tbl 22 [(V.agg 3 [(C.int .i64 x60), 
 (C.int .i64 x61), c62])] m58 (fun v63 m64 => (∃ x65 : Int, (∃ x66 : Int, 
 (∃ c67 : C, ((v63 = (V.agg 3 [(C.int .i64 x65), (C.int .i64 x66), 
 c67])) ∧ (Wc prog tbl 27 [(V.agg 3 [(C.int .i64 x65), (C.int .i64 x66), 
 c67])] m64 (fun v68 m69 => (∃ x70 : Int, ((v68 = (V.c (C.int .i64 x70))) ∧ 
 (ifB (!decide (x70 = (1 : Int))) (Q (V.c (C.bool false)) m69) (ifB (decide (x30 = (1 : Int))) (ifB (decide (x53 = (1 : Int))) (isSl c29 ∧ 
 (isSl c52 ∧ (fitsP .i64 ((((slLen c29) : Nat) : Int) + (((slLen c52) : Nat) : Int)) ∧ 
 (ifB (decide (((((slLen c29) : Nat) : Int) + (((slLen c52) : Nat) : Int)) = (0 : Int))) (Wc prog tbl 20 [] m69 (fun v71 m72 => 
 (∃ b73 : Bool, ((v71 = (V.c (C.bool b73))) ∧ (Q (V.c (C.bool b73)) m72))))) (Q (V.c (C.bool false)) m69))))) (Q (V.c (C.bool false)) m69)) (Q (V.c (C.bool false)) m69))))))))))))))))) (∃ x74 : Int, 
 (∃ x75 : Int, (∃ c76 : C, (((ldA m58 (C.ptr m.nxt 0) 3) = (some [(C.int .i64 x74), 
 (C.int .i64 x75), c76])) ∧ (Wc prog tbl 22 [(V.agg 3 [(C.int .i64 x74), 
 (C.int .i64 x75), c76])] m58 (fun v77 m78 => (∃ x79 : Int, (∃ x80 : Int, 
 (∃ c81 : C, ((v77 = (V.agg 3 [(C.int .i64 x79), (C.int .i64 x80), 
 c81])) ∧ (Wc prog tbl 27 [(V.agg 3 [(C.int .i64 x79), (C.int .i64 x80), 
 c81])] m78 (fun v82 m83 => (∃ x84 : Int, ((v82 = (V.c (C.int .i64 x84))) ∧ 
 (ifB (!decide (x84 = (0 : Int))) (Q (V.c (C.bool false)) m83) (∃ x85 : Int, (∃ x86 : Int, 
 (∃ c87 : C, (((ldA m83 (C.ptr m.nxt 0) 3) = (some [(C.int .i64 x85), 
 (C.int .i64 x86), c87])) ∧ (∃ x88 : Int, (∃ x89 : Int, (∃ x90 : Int, (((ldA m83 (C.ptr m0.nxt 0) 3) = (some [(C.int .i64 x88), 
 (C.int .i64 x89), (C.int .i64 x90)])) ∧ (Wc prog tbl 28 [(V.agg 3 [(C.int .i64 x85), 
 (C.int .i64 x86), c87]), (V.agg 3 [(C.int .i64 x88), (C.int .i64 x89), 
 (C.int .i64 x90)])] m83 (fun v91 m92 => (∃ b93 : Bool, ((v91 = (V.c (C.bool b93))) ∧ 
 (ifB (!b93) (ifB (decide (x30 = (2 : Int))) (ifB (decide (x53 = (2 : Int))) (isSl c29 ∧ 
 (isSl c52 ∧ (fitsP .i64 ((((slLen c29) : Nat) : Int) + (((slLen c52) : Nat) : Int)) ∧ 
 (ifB (decide (((((slLen c29) : Nat) : Int) + (((slLen c52) : Nat) : Int)) = (0 : Int))) (Wc prog tbl 20 [] m92 (fun v94 m95 => 
 (∃ b96 : Bool, ((v94 = (V.c (C.bool b96))) ∧ (Q (V.c (C.bool b96)) m95))))) (Q (V.c (C.bool false)) m92))))) (Q (V.c (C.bool false)) m92)) (Q (V.c (C.bool false)) m92)) (ifB (!decide (x30 = (0 : Int))) (Q (V.c (C.bool false)) m92) (∃ x97 : Int, 
 (∃ x98 : Int, (∃ c99 : C, (((ldA m92 (C.ptr m.nxt 0) 3) = (some [(C.int .i64 x97), 
 (C.int .i64 x98), c99])) ∧ (∃ x100 : Int, (∃ x101 : Int, (∃ x102 : Int, 
 (((ldA m92 (C.ptr m0.nxt 0) 3) = (some [(C.int .i64 x100), (C.int .i64 x101), 
 (C.int .i64 x102)])) ∧ (Wc prog tbl 30 [(V.agg 3 [(C.int .i64 x97), 
 (C.int .i64 x98), c99]), (V.agg 3 [(C.int .i64 x100), (C.int .i64 x101), 
 (C.int .i64 x102)])] m92 (fun v103 m104 => (∃ c105 : C, ((v103 = (V.c c105)) ∧ 
 (Wc prog tbl 29 [(V.c c29), (V.c c105)] m104 (fun v106 m107 => (∃ b108 : Bool, 
 ((v106 = (V.c (C.bool b108))) ∧ (ifB (!b108) (Q (V.c (C.bool false)) m107) (isSl a300 ∧ 
 (ifB (decide ((6 : Int) < (((slLen a300) : Nat) : Int))) (ifB (decide (x53 = (3 : Int))) (isSl c52 ∧ 
 (ifB (decide ((((slLen c52) : Nat) : Int) = (0 : Int))) (Wc prog tbl 20 [] m107 (fun v109 m110 => 
 (∃ b111 : Bool, ((v109 = (V.c (C.bool b111))) ∧ (Q (V.c (C.bool b111)) m110))))) (Q (V.c (C.bool false)) m107))) (Q (V.c (C.bool false)) m107)) (ifB (decide (x53 = (0 : Int))) (∃ x112 : Int, 
 (∃ x113 : Int, (∃ c114 : C, (((ldA m107 (C.ptr m.nxt 0) 3) = (some [(C.int .i64 x112), 
 (C.int .i64 x113), c114])) ∧ (∃ x115 : Int, (∃ x116 : Int, (∃ x117 : Int, 
 (((ldA m107 (C.ptr m0.nxt 0) 3) = (some [(C.int .i64 x115), (C.int .i64 x116), 
 (C.int .i64 x117)])) ∧ (Wc prog tbl 31 [(V.agg 3 [(C.int .i64 x112), 
 (C.int .i64 x113), c114]), (V.agg 3 [(C.int .i64 x115), (C.int .i64 x116), 
 (C.int .i64 x117)]), (V.c a300)] m107 (fun v118 m119 => (∃ c120 : C, ((v118 = (V.c c120)) ∧ 
 (Wc prog tbl 29 [(V.c c52), (V.c c120)] m119 (fun v121 m122 => (∃ b123 : Bool, 
 ((v121 = (V.c (C.bool b123))) ∧ (ifB b123 (Wc prog tbl 20 [] m122 (fun v124 m125 => 
 (∃ b126 : Bool, ((v124 = (V.c (C.bool b126))) ∧ (Q (V.c (C.bool b126)) m125))))) (Q (V.c (C.bool false)) m122)))))))))))))))))) (Q (V.c (C.bool false)) m107))))))))))))))))))))))))))))))))))))))))))))))))))))))))))))))))))))))))))))))))))))))))))))))))))))))))))))))))))))))))))))))))) : Wc prog tbl 3 [(V.agg 3 [(C.int .i64 a100), (C.int .i64 a101), a102]), (V.agg 3 [(C.int .i64 a200), (C.int .i64 a201), (C.int .i64 a202)]), (V.c a300)] m Q :=
 wc_eq (n := 3) rfl (by kernel_rfl) (by kernel_rfl) h
theorem w21 {a100 : Int} {a101 : Int} {a102 : C} {a200 : Int} {a201 : Int} {a202 : Int} {m : M} {Q : V → M → Prop} (h :
 (∀ m0 : M, ((m0 = (M.new m (AO.cells 3 [(C.int .i64 a100), (C.int .i64 a101), a102] false))) → (∀ m1 : M, 
 ((m1 = (M.new m0 (AO.cells 3 [(C.int .i64 a200), (C.int .i64 a201), (C.int .i64 a202)] false))) → 
 (∃ x2 : Int, (∃ x3 : Int, (∃ c4 : C, (((ldA m1 (C.ptr m.nxt 0) 3) = (some [(C.int .i64 x2), 
 (C.int .i64 x3), c4])) ∧ (∃ x5 : Int, (∃ x6 : Int, (∃ x7 : Int, (((ldA m1 (C.ptr m0.nxt 0) 3) = (some [(C.int .i64 x5), 
 (C.int .i64 x6), (C.int .i64 x7)])) ∧ (Wc prog tbl 69 [(V.agg 3 [(C.int .i64 x2), 
 (C.int .i64 x3), c4]), (V.agg 3 [(C.int .i64 x5), (C.int .i64 x6), (C.int .i64 x7)])] m1 (fun v8 m9 => 
 (∃ x10 : Int, ((v8 = (V.c (C.int .i64 x10))) ∧ (ifB (!decide (x10 = (0 : Int))) (Q (V.tup [(U.c C.sl0), 
 (U.c (C.int .i64 x10))]) m9) (∃ x11 : Int, (∃ x12 : Int, (∃ c13 : C, (((ldA m9 (C.ptr m.nxt 0) 3) = (some [(C.int .i64 x11), 
 (C.int .i64 x12), c13])) ∧ (∃ x14 : Int, (∃ x15 : Int, (∃ x16 : Int, (((ldA m9 (C.ptr m0.nxt 0) 3) = (some [(C.int .i64 x14), 
 (C.int .i64 x15), (C.int .i64 x16)])) ∧ (Wc prog tbl 70 [(V.agg 3 [(C.int .i64 x11), 
 (C.int .i64 x12), c13]), (V.agg 3 [(C.int .i64 x14), (C.int .i64 x15), 
 (C.int .i64 x16)])] m9 (fun v17 m18 => (∃ c19 : C, ((v17 = (V.c c19)) ∧ 
 (Q (V.tup [(U.c c19), (U.c (C.int .i64 (0 : Int)))]) m18))))))))))))))))))))))))))))))) : Wc prog tbl 21 [(V.agg 3 [(C.int .i64 a100), (C.int .i64 a101), a102]), (V.agg 3 [(C.int .i64 a200), (C.int .i64 a201), (C.int .i64 a202)])] m Q :=
 wc_eq (n := 2) rfl (by kernel_rfl) (by kernel_rfl) h
theorem w23 {a100 : Int} {a101 : Int} {a102 : Int} {m : M} {Q : V → M → Prop} (h :
 (∀ m0 : M, ((m0 = (M.new m (AO.cells 3 [(C.int .i64 a100), (C.int .i64 a101), (C.int .i64 a102)] false))) → 
 (∀ m1 : M, ((m1 = (M.new m0 (AO.cells 3 [(C.int .i64 (0 : Int)), (C.int .i64 (0 : Int)), (C.int .i64 (0 : Int))] false))) → 
 (isPt (C.ptr m.nxt 0) ∧ (∃ x2 : Int, (((ldC m1 (C.ptr m.nxt 0)) = (some (C.int .i64 x2))) ∧ 
 (isPt (C.ptr m.nxt 0) ∧ (∃ x3 : Int, (((ldC m1 (C.ptr m.nxt 1)) = (some (C.int .i64 x3))) ∧ 
 (isPt (C.ptr m.nxt 0) ∧ (∃ x4 : Int, (((ldC m1 (C.ptr m.nxt 2)) = (some (C.int .i64 x4))) ∧ 
 (∃ m5 : M, (((stC m1 (C.ptr m0.nxt 0) 3 [(C.int .i64 x2), (C.int .i64 x3), (C.int .i64 x4)]) = (some m5)) ∧ 
 (∃ x6 : Int, (∃ x7 : Int, (∃ x8 : Int, (((ldA m5 (C.ptr m0.nxt 0) 3) = (some [(C.int .i64 x6), 
 (C.int .i64 x7), (C.int .i64 x8)])) ∧ (Q (V.agg 3 [(C.int .i64 x6), 
 (C.int .i64 x7), (C.int .i64 x8)]) m5))))))))))))))))))))) : Wc prog tbl 23 [(V.agg 3 [(C.int .i64 a100), (C.int .i64 a101), (C.int .i64 a102)])] m Q :=
 wc_eq (n := 1) rfl (by kernel_rfl) (by kernel_rfl) h
theorem w25 {a100 : C} {m : M} {Q : V → M → Prop} (h :
 (∀ R0 : List V → M → Prop, ((∀ c1 : C, (∀ x2 : Int, (∀ m3 : M, ((isSl a100 ∧ (ifB (decide (x2 < (((slLen a100) : Nat) : Int))) (∃ n4 : Nat, 
 ((x2 = ((n4 : Nat) : Int)) ∧ ((n4 < (slLen a100)) ∧ (isPt (slAt a100 (n4 * 4)) ∧ (∃ x5 : Int, (((ldC m3 (ptAdd (slAt a100 (n4 * 4)) 0)) = (some (C.int .i64 x5))) ∧ 
 (∃ n6 : Nat, ((x2 = ((n6 : Nat) : Int)) ∧ ((n6 < (slLen a100)) ∧ (isPt (slAt a100 (n6 * 4)) ∧ 
 (∃ x7 : Int, (∃ x8 : Int, (((ldA m3 (ptAdd (slAt a100 (n6 * 4)) 1) 2) = (some [(C.int .i64 x7), 
 (C.int .i64 x8)])) ∧ (Wc prog tbl 45 [(V.agg 2 [(C.int .i64 x7), (C.int .i64 x8)])] m3 (fun v9 m10 => 
 (∃ x11 : Int, (∃ x12 : Int, ((v9 = (V.agg 2 [(C.int .i64 x11), (C.int .i64 x12)])) ∧ 
 (((ldC m10 (ptAdd (slAt a100 (n4 * 4)) 0)) = (some (C.int .i64 x5))) ∧ 
 (∃ n13 : Nat, ((x2 = ((n13 : Nat) : Int)) ∧ ((n13 < (slLen a100)) ∧ (isPt (slAt a100 (n13 * 4)) ∧ 
 (∃ b14 : Bool, (((ldC m10 (ptAdd (slAt a100 (n13 * 4)) 3)) = (some (C.bool b14))) ∧ 
 (((ldC m3 (ptAdd (slAt a100 (n13 * 4)) 3)) = (some (C.bool b14))) ∧ (∀ m15 : M, 
 ((m15 = (M.new m10 (AO.cells 4 [(C.int .i64 x5), (C.int .i64 x11), 
 (C.int .i64 x12), (C.bool b14)] false))) → (∃ c16 : C, (∃ m17 : M, ((ApR prog 40 m15 c1 (C.sl m10.nxt 0 1 0 (some 1)) c16 m17) ∧ 
 (fitsP .i64 (x2 + (1 : Int)) ∧ (R0 [(V.c c16), (V.c (C.int .i64 (x2 + (1 : Int))))] m17))))))))))))))))))))))))))))))))) (Q (V.c c1) m3))) → 
 (R0 [(V.c c1), (V.c (C.int .i64 x2))] m3))))) → (R0 [(V.c C.sl0), (V.c (C.int .i64 (0 : Int)))] m)))) : Wc prog tbl 25 [(V.c a100)] m Q :=
 wc_eq (n := 1) rfl (by kernel_rfl) (by kernel_rfl) h
theorem w27 {a100 : Int} {a101 : Int} {a102 : C} {m : M} {Q : V → M → Prop} (h :
 (∀ m0 : M, ((m0 = (M.new m (AO.cells 3 [(C.int .i64 a100), (C.int .i64 a101), a102] false))) → (∃ x1 : Int, 
 (∃ x2 : Int, (∃ c3 : C, (((ldA m0 (C.ptr m.nxt 0) 3) = (some [(C.int .i64 x1), (C.int .i64 x2), 
 c3])) ∧ (Wc prog tbl 72 [(V.agg 3 [(C.int .i64 x1), (C.int .i64 x2), c3])] m0 (fun v4 m5 => 
 (∃ b6 : Bool, ((v4 = (V.c (C.bool b6))) ∧ (ifB (!b6) (Q (V.c (C.int .i64 (1 : Int))) m5) (Q (V.c (C.int .i64 (0 : Int))) m5))))))))))))) : Wc prog tbl 27 [(V.agg 3 [(C.int .i64 a100), (C.int .i64 a101), a102])] m Q :=
 wc_eq (n := 1) rfl (by kernel_rfl) (by kernel_rfl) h
theorem w29 {a100 : C} {a200 : C} {m : M} {Q : V → M → Prop} (h :
 (isSl a100 ∧ (isSl a200 ∧ (ifB (decide ((((slLen a100) : Nat) : Int) = (((slLen a200) : Nat) : Int))) (Wc prog tbl 73 [(V.c a100), 
 (V.c a200)] m (fun v0 m1 => (∃ b2 : Bool, ((v0 = (V.c (C.bool b2))) ∧ (ifB (!b2) (Wc prog tbl 73 [(V.c a200), 
 (V.c a100)] m1 (fun v3 m4 => (∃ b5 : Bool, ((v3 = (V.c (C.bool b5))) ∧ (Q (V.c (C.bool (!b5))) m4))))) (Q (V.c (C.bool false)) m1)))))) (Q (V.c (C.bool false)) m))))) : Wc prog tbl 29 [(V.c a100), (V.c a200)] m Q :=
 wc_eq (n := 2) rfl (by kernel_rfl) (by kernel_rfl) h
theorem w31 {a100 : Int} {a101 : Int} {a102 : C} {a200 : Int} {a201 : Int} {a202 : Int} {a300 : C} {m : M} {Q : V → M → Prop} (h :
 (∀ m0 : M, ((m0 = (M.new m (AO.cells 3 [(C.int .i64 a100), (C.int .i64 a101), a102] false))) → (∀ m1 : M, 
 ((m1 = (M.new m0 (AO.cells 3 [(C.int .i64 a200), (C.int .i64 a201), (C.int .i64 a202)] false))) → 
 (∃ x2 : Int, (∃ x3 : Int, (∃ c4 : C, (((ldA m1 (C.ptr m.nxt 0) 3) = (some [(C.int .i64 x2), 
 (C.int .i64 x3), c4])) ∧ (∃ x5 : Int, (∃ x6 : Int, (∃ x7 : Int, (((ldA m1 (C.ptr m0.nxt 0) 3) = (some [(C.int .i64 x5), 
 (C.int .i64 x6), (C.int .i64 x7)])) ∧ (Wc prog tbl 30 [(V.agg 3 [(C.int .i64 x2), 
 (C.int .i64 x3), c4]), (V.agg 3 [(C.int .i64 x5), (C.int .i64 x6), (C.int .i64 x7)])] m1 (fun v8 m9 => 
 (∃ c10 : C, ((v8 = (V.c c10)) ∧ (∀ R11 : List V → M → Prop, ((∀ c12 : C, (∀ c13 : C, (∀ x14 : Int, 
 (∀ m15 : M, ((isSl a300 ∧ (ifB (decide (x14 < (((slLen a300) : Nat) : Int))) (∃ n16 : Nat, 
 ((x14 = ((n16 : Nat) : Int)) ∧ ((n16 < (slLen a300)) ∧ (isPt (slAt a300 (n16 * 4)) ∧ 
 (∃ x17 : Int, (((ldC m15 (ptAdd (slAt a300 (n16 * 4)) 0)) = (some (C.int .i64 x17))) ∧ 
 (Wc prog tbl 61 [(V.c c10), (V.c (C.int .i64 x17))] m15 (fun v18 m19 => 
 (∃ b20 : Bool, ((v18 = (V.c (C.bool b20))) ∧ (ifB (!b20) (∀ m21 : M, ((m21 = (M.new m19 (AO.cells 1 [(C.int .i64 x14)] false))) → 
 (∃ c22 : C, (∃ m23 : M, ((ApR prog 22 m21 c12 (C.sl m19.nxt 0 1 0 (some 1)) c22 m23) ∧ 
 (∀ m24 : M, ((m24 = (M.new m23 (AO.cells 1 [(C.int .i64 x17)] false))) → 
 (∃ c25 : C, (∃ m26 : M, ((ApR prog 22 m24 c13 (C.sl m23.nxt 0 1 0 (some 1)) c25 m26) ∧ 
 (fitsP .i64 (x14 + (1 : Int)) ∧ (R11 [(V.c c22), (V.c c25), (V.c (C.int .i64 (x14 + (1 : Int))))] m26)))))))))))) (Wc prog tbl 61 [(V.c c13), 
 (V.c (C.int .i64 x17))] m19 (fun v27 m28 => (∃ b29 : Bool, ((v27 = (V.c (C.bool b29))) ∧ 
 (ifB b29 (∀ m30 : M, ((m30 = (M.new m28 (AO.cells 1 [(C.int .i64 x14)] false))) → 
 (∃ c31 : C, (∃ m32 : M, ((ApR prog 22 m30 c12 (C.sl m28.nxt 0 1 0 (some 1)) c31 m32) ∧ 
 (∀ m33 : M, ((m33 = (M.new m32 (AO.cells 1 [(C.int .i64 x17)] false))) → 
 (∃ c34 : C, (∃ m35 : M, ((ApR prog 22 m33 c13 (C.sl m32.nxt 0 1 0 (some 1)) c34 m35) ∧ 
 (fitsP .i64 (x14 + (1 : Int)) ∧ (R11 [(V.c c31), (V.c c34), (V.c (C.int .i64 (x14 + (1 : Int))))] m35)))))))))))) (∀ m36 : M, 
 ((m36 = (M.new m28 (AO.cells 1 [(C.int .i64 x17)] false))) → (∃ c37 : C, 
 (∃ m38 : M, ((ApR prog 22 m36 c13 (C.sl m28.nxt 0 1 0 (some 1)) c37 m38) ∧ 
 (fitsP .i64 (x14 + (1 : Int)) ∧ (R11 [(V.c c12), (V.c c37), (V.c (C.int .i64 (x14 + (1 : Int))))] m38))))))))))))))))))))))) (Q (V.c c12) m15))) → 
 (R11 [(V.c c12), (V.c c13), (V.c (C.int .i64 x14))] m15)))))) → (R11 [(V.c C.sl0), 
 (V.c C.sl0), (V.c (C.int .i64 (0 : Int)))] m9)))))))))))))))))))) : Wc prog tbl 31 [(V.agg 3 [(C.int .i64 a100), (C.int .i64 a101), a102]), (V.agg 3 [(C.int .i64 a200), (C.int .i64 a201), (C.int .i64 a202)]), (V.c a300)] m Q :=
 wc_eq (n := 3) rfl (by kernel_rfl) (by kernel_rfl) h
theorem w44 {a100 : Int} {a200 : Int} {a300 : Int} {m : M} {Q : V → M → Prop} (h :
 (ifB (decide (a200 ≤ a100)) (Q (V.c (C.bool (decide (a100 ≤ a300)))) m) (Q (V.c (C.bool false)) m))) : Wc prog tbl 44 [(V.c (C.int .i64 a100)), (V.c (C.int .i64 a200)), (V.c (C.int .i64 a300))] m Q :=
 wc_eq (n := 3) rfl (by kernel_rfl) (by kernel_rfl) h
theorem w61 {a100 : C} {a200 : Int} {m : M} {Q : V → M → Prop} (h :
 (∀ R0 : List V → M → Prop, ((∀ b1 : Bool, (∀ x2 : Int, (∀ m3 : M, ((isSl a100 ∧ (ifB (decide (x2 < (((slLen a100) : Nat) : Int))) (∃ n4 : Nat, 
 ((x2 = ((n4 : Nat) : Int)) ∧ ((n4 < (slLen a100)) ∧ (∃ x5 : Int, (((ldC m3 (slAt a100 (n4 * 1))) = (some (C.int .i64 x5))) ∧ 
 (ifB (decide (x5 = a200)) (Q (V.c (C.bool true)) m3) (fitsP .i64 (x2 + (1 : Int)) ∧ (R0 [(V.c (C.bool b1)), 
 (V.c (C.int .i64 (x2 + (1 : Int))))] m3)))))))) (Q (V.c (C.bool false)) m3))) → (R0 [(V.c (C.bool b1)), 
 (V.c (C.int .i64 x2))] m3))))) → (R0 [(V.c (C.bool false)), (V.c (C.int .i64 (0 : Int)))] m)))) : Wc prog tbl 61 [(V.c a100), (V.c (C.int .i64 a200))] m Q :=
 wc_eq (n := 2) rfl (by kernel_rfl) (by kernel_rfl) h
theorem w70 {a100 : Int} {a101 : Int} {a102 : C} {a200 : Int} {a201 : Int} {a202 : Int} {m : M} {Q : V → M → Prop} (h :
 (∀ m0 : M, ((m0 = (M.new m (AO.cells 3 [(C.int .i64 a100), (C.int .i64 a101), a102] false))) → (∀ m1 : M, 
 ((m1 = (M.new m0 (AO.cells 3 [(C.int .i64 a200), (C.int .i64 a201), (C.int .i64 a202)] false))) → 
 (isPt (C.ptr m0.nxt 0) ∧ (∃ x2 : Int, (((ldC m1 (C.ptr m0.nxt 0)) = (some (C.int .i64 x2))) ∧ 
 (isPt (C.ptr m0.nxt 0) ∧ (∃ x3 : Int, (((ldC m1 (C.ptr m0.nxt 2)) = (some (C.int .i64 x3))) ∧ 
 (∀ R4 : List V → M → Prop, ((∀ x5 : Int, (∀ c6 : C, (∀ x7 : Int, (∀ m8 : M, ((ifB (decide (x7 < x3)) (((0 : Int) ≤ (31 : Int)) ∧ 
 (((0 : Int) ≤ x5) ∧ (fitsP .i64 ((31 : Int) * x5) ∧ (isPt (C.ptr m0.nxt 0) ∧ (∃ x9 : Int, 
 (((ldC m8 (C.ptr m0.nxt 1)) = (some (C.int .i64 x9))) ∧ (fitsP .i64 (((31 : Int) * x5) + x9) ∧ 
 (fitsP .i64 ((((31 : Int) * x5) + x9) + x7) ∧ (((0 : Int) ≤ ((((31 : Int) * x5) + x9) + x7)) ∧ 
 (((0 : Int) < (9973 : Int)) ∧ (fitsP .i64 (((((31 : Int) * x5) + x9) + x7) % (9973 : Int)) ∧ 
 (∃ x10 : Int, (∃ x11 : Int, (∃ c12 : C, (((ldA m8 (C.ptr m.nxt 0) 3) = (some [(C.int .i64 x10), 
 (C.int .i64 x11), c12])) ∧ (Wc prog tbl 88 [(V.agg 3 [(C.int .i64 x10), 
 (C.int .i64 x11), c12])] m8 (fun v13 m14 => (∃ x15 : Int, ((v13 = (V.c (C.int .i64 x15))) ∧ 
 (((0 : Int) ≤ (((((31 : Int) * x5) + x9) + x7) % (9973 : Int))) ∧ (((0 : Int) < x15) ∧ 
 (fitsP .i64 ((((((31 : Int) * x5) + x9) + x7) % (9973 : Int)) % x15) ∧ 
 (∀ R16 : List V → M → Prop, ((∀ x17 : Int, (∀ m18 : M, ((Wc prog tbl 93 [(V.c c6), 
 (V.c (C.int .i64 x17))] m18 (fun v19 m20 => (∃ b21 : Bool, ((v19 = (V.c (C.bool b21))) ∧ 
 (ifB b21 (fitsP .i64 (x17 + (1 : Int)) ∧ (∃ x22 : Int, (∃ x23 : Int, (∃ c24 : C, 
 (((ldA m20 (C.ptr m.nxt 0) 3) = (some [(C.int .i64 x22), (C.int .i64 x23), 
 c24])) ∧ (Wc prog tbl 88 [(V.agg 3 [(C.int .i64 x22), (C.int .i64 x23), 
 c24])] m20 (fun v25 m26 => (∃ x27 : Int, ((v25 = (V.c (C.int .i64 x27))) ∧ 
 (((0 : Int) ≤ (x17 + (1 : Int))) ∧ (((0 : Int) < x27) ∧ (fitsP .i64 ((x17 + (1 : Int)) % x27) ∧ 
 (R16 [(V.c (C.int .i64 ((x17 + (1 : Int)) % x27)))] m26))))))))))))) (∀ m28 : M, 
 ((m28 = (M.new m20 (AO.cells 1 [(C.int .i64 x17)] false))) → (∃ c29 : C, 
 (∃ m30 : M, ((ApR prog 22 m28 c6 (C.sl m20.nxt 0 1 0 (some 1)) c29 m30) ∧ 
 (fitsP .i64 (x7 + (1 : Int)) ∧ (R4 [(V.c (C.int .i64 (((((31 : Int) * x5) + x9) + x7) % (9973 : Int)))), 
 (V.c c29), (V.c (C.int .i64 (x7 + (1 : Int))))] m30)))))))))))) → (R16 [(V.c (C.int .i64 x17))] m18)))) → 
 (R16 [(V.c (C.int .i64 ((((((31 : Int) * x5) + x9) + x7) % (9973 : Int)) % x15)))] m14))))))))))))))))))))))))) (Q (V.c c6) m8)) → 
 (R4 [(V.c (C.int .i64 x5)), (V.c c6), (V.c (C.int .i64 x7))] m8)))))) → (R4 [(V.c (C.int .i64 x2)), 
 (V.c C.sl0), (V.c (C.int .i64 (0 : Int)))] m1)))))))))))))) : Wc prog tbl 70 [(V.agg 3 [(C.int .i64 a100), (C.int .i64 a101), a102]), (V.agg 3 [(C.int .i64 a200), (C.int .i64 a201), (C.int .i64 a202)])] m Q :=
 wc_eq (n := 2) rfl (by kernel_rfl) (by kernel_rfl) h
theorem w72 {a100 : Int} {a101 : Int} {a102 : C} {m : M} {Q : V → M → Prop} (h :
 (∀ m0 : M, ((m0 = (M.new m (AO.cells 3 [(C.int .i64 a100), (C.int .i64 a101), a102] false))) → (∀ m1 : M, 
 ((m1 = (M.new m0 (AO.cells 2 [(C.int .i64 (0 : Int)), (C.int .i64 (0 : Int))] false))) → (∃ m2 : M, 
 (((stC m1 (C.ptr m0.nxt 0) 2 [(C.int .i64 (1 : Int)), (C.int .i64 (4 : Int))]) = (some m2)) ∧ 
 (∃ x3 : Int, (∃ x4 : Int, (((ldA m2 (C.ptr m0.nxt 0) 2) = (some [(C.int .i64 x3), (C.int .i64 x4)])) ∧ 
 (isPt (C.ptr m.nxt 0) ∧ (∃ x5 : Int, (((ldC m2 (C.ptr m.nxt 0)) = (some (C.int .i64 x5))) ∧ 
 (Wc prog tbl 92 [(V.agg 2 [(C.int .i64 x3), (C.int .i64 x4)]), (V.c (C.int .i64 x5))] m2 (fun v6 m7 => 
 (∃ b8 : Bool, ((v6 = (V.c (C.bool b8))) ∧ (ifB b8 (∃ x9 : Int, (∃ x10 : Int, (((ldA m7 (C.ptr m0.nxt 0) 2) = (some [(C.int .i64 x9), 
 (C.int .i64 x10)])) ∧ (isPt (C.ptr m.nxt 0) ∧ (∃ x11 : Int, (((ldC m7 (C.ptr m.nxt 1)) = (some (C.int .i64 x11))) ∧ 
 (Wc prog tbl 92 [(V.agg 2 [(C.int .i64 x9), (C.int .i64 x10)]), (V.c (C.int .i64 x11))] m7 (fun v12 m13 => 
 (∃ b14 : Bool, ((v12 = (V.c (C.bool b14))) ∧ (ifB b14 (∃ x15 : Int, (∃ x16 : Int, 
 (∃ c17 : C, (((ldA m13 (C.ptr m.nxt 0) 3) = (some [(C.int .i64 x15), 
 (C.int .i64 x16), c17])) ∧ (Wc prog tbl 88 [(V.agg 3 [(C.int .i64 x15), 
 (C.int .i64 x16), c17])] m13 (fun v18 m19 => (∃ x20 : Int, ((v18 = (V.c (C.int .i64 x20))) ∧ 
 (ifB (decide (x20 ≤ (9 : Int))) (isPt (C.ptr m.nxt 0) ∧ (∃ c21 : C, (((ldC m19 (C.ptr m.nxt 2)) = (some c21)) ∧ 
 (isSl c21 ∧ (∃ x22 : Int, (∃ x23 : Int, (∃ c24 : C, (((ldA m19 (C.ptr m.nxt 0) 3) = (some [(C.int .i64 x22), 
 (C.int .i64 x23), c24])) ∧ (Wc prog tbl 88 [(V.agg 3 [(C.int .i64 x22), 
 (C.int .i64 x23), c24])] m19 (fun v25 m26 => (∃ x27 : Int, ((v25 = (V.c (C.int .i64 x27))) ∧ 
 ((isSl c21 ∧ ((V.c (C.int .i64 (((slLen c21) : Nat) : Int))) = (V.c (C.int .i64 (((slLen c21) : Nat) : Int))))) ∧ 
 ((ifB (noFnC c21) ((ldC m26 (C.ptr m.nxt 2)) = (some c21)) False) ∧ 
 (ifB (decide ((((slLen c21) : Nat) : Int) = x27)) (isPt (C.ptr m.nxt 0) ∧ (∃ c28 : C, 
 (((ldC m26 (C.ptr m.nxt 2)) = (some c28)) ∧ (Wc prog tbl 94 [(V.c c28), 
 (V.c (C.fn (Fn.func 95) [] []))] m26 (fun v29 m30 => (∃ b31 : Bool, ((v29 = (V.c (C.bool b31))) ∧ 
 (Q (V.c (C.bool b31)) m30)))))))) (Q (V.c (C.bool false)) m26)))))))))))))))) (Q (V.c (C.bool false)) m19)))))))))) (Q (V.c (C.bool false)) m13)))))))))))) (Q (V.c (C.bool false)) m7))))))))))))))))))) : Wc prog tbl 72 [(V.agg 3 [(C.int .i64 a100), (C.int .i64 a101), a102])] m Q :=
 wc_eq (n := 1) rfl (by kernel_rfl) (by kernel_rfl) h
theorem w92 {a100 : Int} {a101 : Int} {a200 : Int} {m : M} {Q : V → M → Prop} (h :
 (∀ m0 : M, ((m0 = (M.new m (AO.cells 2 [(C.int .i64 a100), (C.int .i64 a101)] false))) → (isPt (C.ptr m.nxt 0) ∧ 
 (∃ x1 : Int, (((ldC m0 (C.ptr m.nxt 0)) = (some (C.int .i64 x1))) ∧ (ifB (decide (x1 ≤ a200)) (isPt (C.ptr m.nxt 0) ∧ 
 (∃ x2 : Int, (((ldC m0 (C.ptr m.nxt 1)) = (some (C.int .i64 x2))) ∧ (Q (V.c (C.bool (decide (a200 ≤ x2)))) m0)))) (Q (V.c (C.bool false)) m0)))))))) : Wc prog tbl 92 [(V.agg 2 [(C.int .i64 a100), (C.int .i64 a101)]), (V.c (C.int .i64 a200))] m Q :=
 wc_eq (n := 2) rfl (by kernel_rfl) (by kernel_rfl) h
theorem w94 {a100 : C} {a200 : C} {m : M} {Q : V → M → Prop} (h :
 (∀ m0 : M, ((m0 = (M.new m (AO.cells 1 [a200] false))) → (Wc prog tbl 110 [(V.c a100), (V.c (C.fn (Fn.func 111) [] [(W.c (C0.ptr m.nxt 0))]))] m0 (fun v1 m2 => 
 (∃ b3 : Bool, ((v1 = (V.c (C.bool b3))) ∧ (Q (V.c (C.bool (!b3))) m2)))))))) : Wc prog tbl 94 [(V.c a100), (V.c a200)] m Q :=
 wc_eq (n := 2) rfl (by kernel_rfl) (by kernel_rfl) h
theorem w109 {a100 : C} {a200 : Int} {m : M} {Q : V → M → Prop} (h :
 (isSl a100 ∧ (∀ R0 : List V → M → Prop, ((∀ x1 : Int, (∀ x2 : Int, (∀ m3 : M, ((ifB (decide (x2 < (((slLen a100) : Nat) : Int))) (∃ n4 : Nat, 
 ((x2 = ((n4 : Nat) : Int)) ∧ ((n4 < (slLen a100)) ∧ (∃ x5 : Int, (((ldC m3 (slAt a100 (n4 * 1))) = (some (C.int .i64 x5))) ∧ 
 (ifB (decide (a200 = x5)) (Q (V.c (C.int .i64 x2)) m3) (fitsP .i64 (x2 + (1 : Int)) ∧ 
 (R0 [(V.c (C.int .i64 x1)), (V.c (C.int .i64 (x2 + (1 : Int))))] m3)))))))) (Q (V.c (C.int .i64 (-1 : Int))) m3)) → 
 (R0 [(V.c (C.int .i64 x1)), (V.c (C.int .i64 x2))] m3))))) → (R0 [(V.c (C.int .i64 (0 : Int))), 
 (V.c (C.int .i64 (0 : Int)))] m))))) : Wc prog tbl 109 [(V.c a100), (V.c (C.int .i64 a200))] m Q :=
 wc_eq (n := 2) rfl (by kernel_rfl) (by kernel_rfl) h
theorem w122 {a100 : C} {a200 : C} {m : M} {Q : V → M → Prop} (h :
 (isSl a100 ∧ (∀ R0 : List V → M → Prop, ((∀ x1 : Int, (∀ x2 : Int, (∀ m3 : M, ((ifB (decide (x2 < (((slLen a100) : Nat) : Int))) (∃ n4 : Nat, 
 ((x2 = ((n4 : Nat) : Int)) ∧ ((n4 < (slLen a100)) ∧ (∃ x5 : Int, (((ldC m3 (slAt a100 (n4 * 1))) = (some (C.int .i64 x5))) ∧ 
 (callP prog tbl [(V.c (C.int .i64 x5))] a200 m3 (fun v6 m7 => (∃ b8 : Bool, ((v6 = (V.c (C.bool b8))) ∧ 
 (ifB b8 (Q (V.c (C.int .i64 x2)) m7) (fitsP .i64 (x2 + (1 : Int)) ∧ (R0 [(V.c (C.int .i64 x1)), 
 (V.c (C.int .i64 (x2 + (1 : Int))))] m7)))))))))))) (Q (V.c (C.int .i64 (-1 : Int))) m3)) → 
 (R0 [(V.c (C.int .i64 x1)), (V.c (C.int .i64 x2))] m3))))) → (R0 [(V.c (C.int .i64 (0 : Int))), 
 (V.c (C.int .i64 (0 : Int)))] m))))) : Wc prog tbl 122 [(V.c a100), (V.c a200)] m Q :=
 wc_eq (n := 2) rfl (by kernel_rfl) (by kernel_rfl) h
end
end Go.Proofs.Ytgkjfhkjgdiodaa

namespace Go.Proofs.Ytgkjfhkjgdiodaa
open _root_.Go.Proofs.Try
open Go.Abs
set_option maxRecDepth 100000
noncomputable section
theorem w19 {a100 : Int} {a101 : Int} {a102 : C} {a103 : Int} {a104 : C} {m : M} {Q : V → M → Prop} (h :
 (∀ m0 : M, ((m0 = (M.new m (AO.cells 5 [(C.int .i64 a100), (C.int .i64 a101), a102, (C.int .i64 a103), 
 a104] false))) → (isPt (C.ptr m.nxt 0) ∧ (isPt (C.ptr m.nxt 0) ∧ (∃ c1 : C, (((ldC m0 (C.ptr m.nxt 2)) = (some c1)) ∧ 
 (isSl c1 ∧ (ifB (decide ((((slLen c1) : Nat) : Int) ≤ (12 : Int))) (isPt (C.ptr m.nxt 0) ∧ (∃ c2 : C, 
 (((ldC m0 (C.ptr m.nxt 4)) = (some c2)) ∧ (isSl c2 ∧ (Q (V.c (C.bool (decide ((((slLen c2) : Nat) : Int) ≤ (9 : Int))))) m0))))) (Q (V.c (C.bool false)) m0)))))))))) : Wc prog tbl 19 [(V.agg 5 [(C.int .i64 a100), (C.int .i64 a101), a102, (C.int .i64 a103), a104])] m Q :=
 wc_eq (n := 1) rfl (by kernel_rfl) (by kernel_rfl) h
theorem w22 {a100 : Int} {a101 : Int} {a102 : C} {m : M} {Q : V → M → Prop} (h :
 (∀ m0 : M, ((m0 = (M.new m (AO.cells 3 [(C.int .i64 a100), (C.int .i64 a101), a102] false))) → (∀ m1 : M, 
 ((m1 = (M.new m0 (AO.cells 3 [(C.int .i64 (0 : Int)), (C.int .i64 (0 : Int)), C.sl0] false))) → 
 (isPt (C.ptr m.nxt 0) ∧ (∃ x2 : Int, (((ldC m1 (C.ptr m.nxt 0)) = (some (C.int .i64 x2))) ∧ 
 (isPt (C.ptr m.nxt 0) ∧ (∃ x3 : Int, (((ldC m1 (C.ptr m.nxt 1)) = (some (C.int .i64 x3))) ∧ 
 (isPt (C.ptr m.nxt 0) ∧ (∃ c4 : C, (((ldC m1 (C.ptr m.nxt 2)) = (some c4)) ∧ (Wc prog tbl 34 [(V.c c4)] m1 (fun v5 m6 => 
 (∃ c7 : C, ((v5 = (V.c c7)) ∧ (((ldC m6 (C.ptr m.nxt 1)) = (some (C.int .i64 x3))) ∧ 
 (((ldC m6 (C.ptr m.nxt 0)) = (some (C.int .i64 x2))) ∧ (∃ m8 : M, (((stC m6 (C.ptr m0.nxt 0) 3 [(C.int .i64 x2), 
 (C.int .i64 x3), c7]) = (some m8)) ∧ (∃ x9 : Int, (∃ x10 : Int, (∃ c11 : C, 
 (((ldA m8 (C.ptr m0.nxt 0) 3) = (some [(C.int .i64 x9), (C.int .i64 x10), 
 c11])) ∧ (Q (V.agg 3 [(C.int .i64 x9), (C.int .i64 x10), c11]) m8))))))))))))))))))))))))))) : Wc prog tbl 22 [(V.agg 3 [(C.int .i64 a100), (C.int .i64 a101), a102])] m Q :=
 wc_eq (n := 1) rfl (by kernel_rfl) (by kernel_rfl) h
theorem w24 {a100 : Int} {a101 : Int} {a102 : C} {a200 : Int} {a201 : Int} {a202 : Int} {a300 : C} {m : M} {Q : V → M → Prop} (h :
 (∀ m0 : M, ((m0 = (M.new m (AO.cells 3 [(C.int .i64 a100), (C.int .i64 a101), a102] false))) → (∀ m1 : M, 
 ((m1 = (M.new m0 (AO.cells 3 [(C.int .i64 a200), (C.int .i64 a201), (C.int .i64 a202)] false))) → 
 (∃ x2 : Int, (∃ x3 : Int, (∃ c4 : C, (((ldA m1 (C.ptr m.nxt 0) 3) = (some [(C.int .i64 x2), 
 (C.int .i64 x3), c4])) ∧ (∃ x5 : Int, (∃ x6 : Int, (∃ x7 : Int, (((ldA m1 (C.ptr m0.nxt 0) 3) = (some [(C.int .i64 x5), 
 (C.int .i64 x6), (C.int .i64 x7)])) ∧ (Wc prog tbl 69 [(V.agg 3 [(C.int .i64 x2), 
 (C.int .i64 x3), c4]), (V.agg 3 [(C.int .i64 x5), (C.int .i64 x6), (C.int .i64 x7)])] m1 (fun v8 m9 => 
 (∃ x10 : Int, ((v8 = (V.c (C.int .i64 x10))) ∧ (ifB (!decide (x10 = (0 : Int))) (Q (V.tup [(U.c C.sl0), 
 (U.c (C.int .i64 x10))]) m9) (isSl a300 ∧ (ifB (decide ((6 : Int) < (((slLen a300) : Nat) : Int))) (Q (V.tup [(U.c C.sl0), 
 (U.c (C.int .i64 (3 : Int)))]) m9) (∃ x11 : Int, (∃ x12 : Int, (∃ c13 : C, (((ldA m9 (C.ptr m.nxt 0) 3) = (some [(C.int .i64 x11), 
 (C.int .i64 x12), c13])) ∧ (∃ x14 : Int, (∃ x15 : Int, (∃ x16 : Int, (((ldA m9 (C.ptr m0.nxt 0) 3) = (some [(C.int .i64 x14), 
 (C.int .i64 x15), (C.int .i64 x16)])) ∧ (Wc prog tbl 70 [(V.agg 3 [(C.int .i64 x11), 
 (C.int .i64 x12), c13]), (V.agg 3 [(C.int .i64 x14), (C.int .i64 x15), 
 (C.int .i64 x16)])] m9 (fun v17 m18 => (∃ c19 : C, ((v17 = (V.c c19)) ∧ 
 (Wc prog tbl 71 [(V.c c19), (V.c a300)] m18 (fun v20 m21 => (∃ c22 : C, ((v20 = (V.c c22)) ∧ 
 (Q (V.tup [(U.c c22), (U.c (C.int .i64 (0 : Int)))]) m21))))))))))))))))))))))))))))))))))))) : Wc prog tbl 24 [(V.agg 3 [(C.int .i64 a100), (C.int .i64 a101), a102]), (V.agg 3 [(C.int .i64 a200), (C.int .i64 a201), (C.int .i64 a202)]), (V.c a300)] m Q :=
 wc_eq (n := 3) rfl (by kernel_rfl) (by kernel_rfl) h
theorem w26 {a100 : Int} {a101 : Int} {a102 : C} {m : M} {Q : V → M → Prop} (h :
 (∀ m0 : M, ((m0 = (M.new m (AO.cells 3 [(C.int .i64 a100), (C.int .i64 a101), a102] false))) → (isPt (C.ptr m.nxt 0) ∧ 
 (∃ x1 : Int, (((ldC m0 (C.ptr m.nxt 0)) = (some (C.int .i64 x1))) ∧ (Wc prog tbl 44 [(V.c (C.int .i64 x1)), 
 (V.c (C.int .i64 (1 : Int))), (V.c (C.int .i64 (4 : Int)))] m0 (fun v2 m3 => (∃ b4 : Bool, 
 ((v2 = (V.c (C.bool b4))) ∧ (ifB (!b4) (Q (V.c (C.bool false)) m3) (isPt (C.ptr m.nxt 0) ∧ (∃ x5 : Int, 
 (((ldC m3 (C.ptr m.nxt 1)) = (some (C.int .i64 x5))) ∧ (Wc prog tbl 44 [(V.c (C.int .i64 x5)), 
 (V.c (C.int .i64 (1 : Int))), (V.c (C.int .i64 (4 : Int)))] m3 (fun v6 m7 => (∃ b8 : Bool, 
 ((v6 = (V.c (C.bool b8))) ∧ (ifB (!b8) (Q (V.c (C.bool false)) m7) (isPt (C.ptr m.nxt 0) ∧ 
 (∃ x9 : Int, (((ldC m7 (C.ptr m.nxt 0)) = (some (C.int .i64 x9))) ∧ (isPt (C.ptr m.nxt 0) ∧ 
 (∃ x10 : Int, (((ldC m7 (C.ptr m.nxt 1)) = (some (C.int .i64 x10))) ∧ 
 (((0 : Int) ≤ x9) ∧ (((0 : Int) ≤ x10) ∧ (fitsP .i64 (x9 * x10) ∧ (ifB (decide ((9 : Int) < (x9 * x10))) (Q (V.c (C.bool false)) m7) (isPt (C.ptr m.nxt 0) ∧ 
 (∃ c11 : C, (((ldC m7 (C.ptr m.nxt 2)) = (some c11)) ∧ (isSl c11 ∧ (isPt (C.ptr m.nxt 0) ∧ 
 (∃ x12 : Int, (((ldC m7 (C.ptr m.nxt 0)) = (some (C.int .i64 x12))) ∧ 
 (isPt (C.ptr m.nxt 0) ∧ (∃ x13 : Int, (((ldC m7 (C.ptr m.nxt 1)) = (some (C.int .i64 x13))) ∧ 
 (((0 : Int) ≤ x12) ∧ (((0 : Int) ≤ x13) ∧ (fitsP .i64 (x12 * x13) ∧ (ifB (!decide ((((slLen c11) : Nat) : Int) = (x12 * x13))) (Q (V.c (C.bool false)) m7) (∀ R14 : List V → 
 M → Prop, ((∀ b15 : Bool, (∀ x16 : Int, (∀ m17 : M, ((isPt (C.ptr m.nxt 0) ∧ 
 (∃ c18 : C, (((ldC m17 (C.ptr m.nxt 2)) = (some c18)) ∧ (isSl c18 ∧ 
 (ifB (decide (x16 < (((slLen c18) : Nat) : Int))) (isPt (C.ptr m.nxt 0) ∧ (∃ c19 : C, 
 (((ldC m17 (C.ptr m.nxt 2)) = (some c19)) ∧ (∃ n20 : Nat, ((x16 = ((n20 : Nat) : Int)) ∧ 
 ((n20 < (slLen c19)) ∧ (∃ x21 : Int, (((ldC m17 (slAt c19 (n20 * 1))) = (some (C.int .i64 x21))) ∧ 
 (Wc prog tbl 44 [(V.c (C.int .i64 x21)), (V.c (C.int .i64 (0 : Int))), 
 (V.c (C.int .i64 (9 : Int)))] m17 (fun v22 m23 => (∃ b24 : Bool, ((v22 = (V.c (C.bool b24))) ∧ 
 (ifB (!b24) (Q (V.c (C.bool false)) m23) (fitsP .i64 (x16 + (1 : Int)) ∧ 
 (R14 [(V.c (C.bool b15)), (V.c (C.int .i64 (x16 + (1 : Int))))] m23))))))))))))))) (Q (V.c (C.bool true)) m17)))))) → 
 (R14 [(V.c (C.bool b15)), (V.c (C.int .i64 x16))] m17))))) → (R14 [(V.c (C.bool false)), 
 (V.c (C.int .i64 (0 : Int)))] m7)))))))))))))))))))))))))))))))))))))))))))))) : Wc prog tbl 26 [(V.agg 3 [(C.int .i64 a100), (C.int .i64 a101), a102])] m Q :=
 wc_eq (n := 1) rfl (by kernel_rfl) (by kernel_rfl) h
theorem w28 {a100 : Int} {a101 : Int} {a102 : C} {a200 : Int} {a201 : Int} {a202 : Int} {m : M} {Q : V → M → Prop} (h :
 (∀ m0 : M, ((m0 = (M.new m (AO.cells 3 [(C.int .i64 a100), (C.int .i64 a101), a102] false))) → (∀ m1 : M, 
 ((m1 = (M.new m0 (AO.cells 3 [(C.int .i64 a200), (C.int .i64 a201), (C.int .i64 a202)] false))) → 
 (isPt (C.ptr m0.nxt 0) ∧ (∃ x2 : Int, (((ldC m1 (C.ptr m0.nxt 0)) = (some (C.int .i64 x2))) ∧ 
 (Wc prog tbl 44 [(V.c (C.int .i64 x2)), (V.c (C.int .i64 (0 : Int))), (V.c (C.int .i64 (9999 : Int)))] m1 (fun v3 m4 => 
 (∃ b5 : Bool, ((v3 = (V.c (C.bool b5))) ∧ (ifB b5 (isPt (C.ptr m0.nxt 0) ∧ (∃ x6 : Int, (((ldC m4 (C.ptr m0.nxt 1)) = (some (C.int .i64 x6))) ∧ 
 (Wc prog tbl 44 [(V.c (C.int .i64 x6)), (V.c (C.int .i64 (0 : Int))), (V.c (C.int .i64 (9999 : Int)))] m4 (fun v7 m8 => 
 (∃ b9 : Bool, ((v7 = (V.c (C.bool b9))) ∧ (ifB b9 (isPt (C.ptr m0.nxt 0) ∧ (∃ x10 : Int, 
 (((ldC m8 (C.ptr m0.nxt 2)) = (some (C.int .i64 x10))) ∧ (Wc prog tbl 44 [(V.c (C.int .i64 x10)), 
 (V.c (C.int .i64 (0 : Int))), (V.c (C.int .i64 (6 : Int)))] m8 (fun v11 m12 => 
 (∃ b13 : Bool, ((v11 = (V.c (C.bool b13))) ∧ (ifB b13 (isPt (C.ptr m0.nxt 0) ∧ (∃ x14 : Int, 
 (((ldC m12 (C.ptr m0.nxt 2)) = (some (C.int .i64 x14))) ∧ (isPt (C.ptr m.nxt 0) ∧ 
 (∃ c15 : C, (((ldC m12 (C.ptr m.nxt 2)) = (some c15)) ∧ (isSl c15 ∧ 
 (Q (V.c (C.bool (decide (x14 ≤ (((slLen c15) : Nat) : Int))))) m12)))))))) (Q (V.c (C.bool false)) m12))))))))) (Q (V.c (C.bool false)) m8))))))))) (Q (V.c (C.bool false)) m4)))))))))))))) : Wc prog tbl 28 [(V.agg 3 [(C.int .i64 a100), (C.int .i64 a101), a102]), (V.agg 3 [(C.int .i64 a200), (C.int .i64 a201), (C.int .i64 a202)])] m Q :=
 wc_eq (n := 2) rfl (by kernel_rfl) (by kernel_rfl) h
theorem w30 {a100 : Int} {a101 : Int} {a102 : C} {a200 : Int} {a201 : Int} {a202 : Int} {m : M} {Q : V → M → Prop} (h :
 (∀ m0 : M, ((m0 = (M.new m (AO.cells 3 [(C.int .i64 a100), (C.int .i64 a101), a102] false))) → (∀ m1 : M, 
 ((m1 = (M.new m0 (AO.cells 3 [(C.int .i64 a200), (C.int .i64 a201), (C.int .i64 a202)] false))) → 
 (∀ m2 : M, ((m2 = (M.new m1 (AO.cells 9 [(C.bool false), (C.bool false), (C.bool false), (C.bool false), 
 (C.bool false), (C.bool false), (C.bool false), (C.bool false), (C.bool false)] false))) → (isPt (C.ptr m0.nxt 0) ∧ 
 (∃ x3 : Int, (((ldC m2 (C.ptr m0.nxt 0)) = (some (C.int .i64 x3))) ∧ (∀ R4 : List V → 
 M → Prop, ((∀ x5 : Int, (∀ c6 : C, (∀ x7 : Int, (∀ m8 : M, ((isPt (C.ptr m0.nxt 0) ∧ (∃ x9 : Int, 
 (((ldC m8 (C.ptr m0.nxt 2)) = (some (C.int .i64 x9))) ∧ (ifB (decide (x7 < x9)) (((0 : Int) ≤ (31 : Int)) ∧ 
 (((0 : Int) ≤ x5) ∧ (fitsP .i64 ((31 : Int) * x5) ∧ (isPt (C.ptr m0.nxt 0) ∧ 
 (∃ x10 : Int, (((ldC m8 (C.ptr m0.nxt 1)) = (some (C.int .i64 x10))) ∧ 
 (fitsP .i64 (((31 : Int) * x5) + x10) ∧ (fitsP .i64 ((((31 : Int) * x5) + x10) + x7) ∧ 
 (((0 : Int) ≤ ((((31 : Int) * x5) + x10) + x7)) ∧ (((0 : Int) < (9973 : Int)) ∧ 
 (fitsP .i64 (((((31 : Int) * x5) + x10) + x7) % (9973 : Int)) ∧ (isPt (C.ptr m.nxt 0) ∧ 
 (∃ c11 : C, (((ldC m8 (C.ptr m.nxt 2)) = (some c11)) ∧ (isSl c11 ∧ (((0 : Int) ≤ (((((31 : Int) * x5) + x10) + x7) % (9973 : Int))) ∧ 
 (((0 : Int) < (((slLen c11) : Nat) : Int)) ∧ (fitsP .i64 ((((((31 : Int) * x5) + x10) + x7) % (9973 : Int)) % (((slLen c11) : Nat) : Int)) ∧ 
 (∀ R12 : List V → M → Prop, ((∀ x13 : Int, (∀ x14 : Int, (∀ m15 : M, ((isPt (C.ptr m1.nxt 0) ∧ 
 (∃ n16 : Nat, ((x13 = ((n16 : Nat) : Int)) ∧ ((n16 < 9) ∧ (∃ b17 : Bool, (((ldC m15 (C.ptr m1.nxt (0 + (n16 * 1)))) = (some (C.bool b17))) ∧ 
 (ifB b17 (fitsP .i64 (x13 + (1 : Int)) ∧ (isPt (C.ptr m.nxt 0) ∧ (∃ c18 : C, 
 (((ldC m15 (C.ptr m.nxt 2)) = (some c18)) ∧ (isSl c18 ∧ (ifB (decide ((x13 + (1 : Int)) = (((slLen c18) : Nat) : Int))) (R12 [(V.c (C.int .i64 (0 : Int))), 
 (V.c (C.int .i64 (0 : Int)))] m15) (R12 [(V.c (C.int .i64 (x13 + (1 : Int)))), 
 (V.c (C.int .i64 (x13 + (1 : Int))))] m15))))))) (isPt (C.ptr m1.nxt 0) ∧ 
 (∃ n19 : Nat, ((x13 = ((n19 : Nat) : Int)) ∧ ((n19 < 9) ∧ (∃ m20 : M, (((stC m15 (C.ptr m1.nxt (0 + (n19 * 1))) 1 [(C.bool true)]) = (some m20)) ∧ 
 (∀ m21 : M, ((m21 = (M.new m20 (AO.cells 1 [(C.int .i64 x13)] false))) → 
 (∃ c22 : C, (∃ m23 : M, ((ApR prog 22 m21 c6 (C.sl m20.nxt 0 1 0 (some 1)) c22 m23) ∧ 
 (fitsP .i64 (x7 + (1 : Int)) ∧ (R4 [(V.c (C.int .i64 (((((31 : Int) * x5) + x10) + x7) % (9973 : Int)))), 
 (V.c c22), (V.c (C.int .i64 (x7 + (1 : Int))))] m23)))))))))))))))))))) → 
 (R12 [(V.c (C.int .i64 x13)), (V.c (C.int .i64 x14))] m15))))) → 
 (R12 [(V.c (C.int .i64 ((((((31 : Int) * x5) + x10) + x7) % (9973 : Int)) % (((slLen c11) : Nat) : Int)))), 
 (V.c (C.int .i64 ((((((31 : Int) * x5) + x10) + x7) % (9973 : Int)) % (((slLen c11) : Nat) : Int))))] m8))))))))))))))))))))) (Q (V.c c6) m8))))) → 
 (R4 [(V.c (C.int .i64 x5)), (V.c c6), (V.c (C.int .i64 x7))] m8)))))) → (R4 [(V.c (C.int .i64 x3)), 
 (V.c C.sl0), (V.c (C.int .i64 (0 : Int)))] m2))))))))))))) : Wc prog tbl 30 [(V.agg 3 [(C.int .i64 a100), (C.int .i64 a101), a102]), (V.agg 3 [(C.int .i64 a200), (C.int .i64 a201), (C.int .i64 a202)])] m Q :=
 wc_eq (n := 2) rfl (by kernel_rfl) (by kernel_rfl) h
theorem w34 {a100 : C} {m : M} {Q : V → M → Prop} (h :
 (∀ m0 : M, ((m0 = (M.new m (AO.cells 0 [] false))) → (∃ c1 : C, (∃ m2 : M, ((ApR prog 22 m0 (C.sl m.nxt 0 0 0 (some 0)) a100 c1 m2) ∧ 
 (Q (V.c c1) m2))))))) : Wc prog tbl 34 [(V.c a100)] m Q :=
 wc_eq (n := 1) rfl (by kernel_rfl) (by kernel_rfl) h
theorem w45 {a100 : Int} {a101 : Int} {m : M} {Q : V → M → Prop} (h :
 (∀ m0 : M, ((m0 = (M.new m (AO.cells 2 [(C.int .i64 a100), (C.int .i64 a101)] false))) → (∀ m1 : M, 
 ((m1 = (M.new m0 (AO.cells 2 [(C.int .i64 (0 : Int)), (C.int .i64 (0 : Int))] false))) → (isPt (C.ptr m.nxt 0) ∧ 
 (∃ x2 : Int, (((ldC m1 (C.ptr m.nxt 0)) = (some (C.int .i64 x2))) ∧ (isPt (C.ptr m.nxt 0) ∧ 
 (∃ x3 : Int, (((ldC m1 (C.ptr m.nxt 1)) = (some (C.int .i64 x3))) ∧ (∃ m4 : M, (((stC m1 (C.ptr m0.nxt 0) 2 [(C.int .i64 x2), 
 (C.int .i64 x3)]) = (some m4)) ∧ (∃ x5 : Int, (∃ x6 : Int, (((ldA m4 (C.ptr m0.nxt 0) 2) = (some [(C.int .i64 x5), 
 (C.int .i64 x6)])) ∧ (Q (V.agg 2 [(C.int .i64 x5), (C.int .i64 x6)]) m4))))))))))))))))) : Wc prog tbl 45 [(V.agg 2 [(C.int .i64 a100), (C.int .i64 a101)])] m Q :=
 wc_eq (n := 1) rfl (by kernel_rfl) (by kernel_rfl) h
theorem w69 {a100 : Int} {a101 : Int} {a102 : C} {a200 : Int} {a201 : Int} {a202 : Int} {m : M} {Q : V → M → Prop} (h :
 (∀ m0 : M, ((m0 = (M.new m (AO.cells 3 [(C.int .i64 a100), (C.int .i64 a101), a102] false))) → (∀ m1 : M, 
 ((m1 = (M.new m0 (AO.cells 3 [(C.int .i64 a200), (C.int .i64 a201), (C.int .i64 a202)] false))) → 
 (∃ x2 : Int, (∃ x3 : Int, (∃ c4 : C, (((ldA m1 (C.ptr m.nxt 0) 3) = (some [(C.int .i64 x2), 
 (C.int .i64 x3), c4])) ∧ (Wc prog tbl 27 [(V.agg 3 [(C.int .i64 x2), (C.int .i64 x3), 
 c4])] m1 (fun v5 m6 => (∃ x7 : Int, ((v5 = (V.c (C.int .i64 x7))) ∧ (ifB (!decide (x7 = (0 : Int))) (Q (V.c (C.int .i64 x7)) m6) (∀ m8 : M, 
 ((m8 = (M.new m6 (AO.cells 2 [(C.int .i64 (0 : Int)), (C.int .i64 (0 : Int))] false))) → 
 (∃ m9 : M, (((stC m8 (C.ptr m6.nxt 0) 2 [(C.int .i64 (0 : Int)), (C.int .i64 (9999 : Int))]) = (some m9)) ∧ 
 (∃ x10 : Int, (∃ x11 : Int, (((ldA m9 (C.ptr m6.nxt 0) 2) = (some [(C.int .i64 x10), 
 (C.int .i64 x11)])) ∧ (isPt (C.ptr m0.nxt 0) ∧ (∃ x12 : Int, (((ldC m9 (C.ptr m0.nxt 0)) = (some (C.int .i64 x12))) ∧ 
 (Wc prog tbl 92 [(V.agg 2 [(C.int .i64 x10), (C.int .i64 x11)]), (V.c (C.int .i64 x12))] m9 (fun v13 m14 => 
 (∃ b15 : Bool, ((v13 = (V.c (C.bool b15))) ∧ (ifB (!b15) (Q (V.c (C.int .i64 (2 : Int))) m14) (∃ x16 : Int, 
 (∃ x17 : Int, (((ldA m14 (C.ptr m6.nxt 0) 2) = (some [(C.int .i64 x16), 
 (C.int .i64 x17)])) ∧ (isPt (C.ptr m0.nxt 0) ∧ (∃ x18 : Int, (((ldC m14 (C.ptr m0.nxt 1)) = (some (C.int .i64 x18))) ∧ 
 (Wc prog tbl 92 [(V.agg 2 [(C.int .i64 x16), (C.int .i64 x17)]), 
 (V.c (C.int .i64 x18))] m14 (fun v19 m20 => (∃ b21 : Bool, ((v19 = (V.c (C.bool b21))) ∧ 
 (ifB (!b21) (Q (V.c (C.int .i64 (2 : Int))) m20) (isPt (C.ptr m0.nxt 0) ∧ 
 (∃ x22 : Int, (((ldC m20 (C.ptr m0.nxt 2)) = (some (C.int .i64 x22))) ∧ 
 (ifB (decide (x22 < (0 : Int))) (Q (V.c (C.int .i64 (2 : Int))) m20) (isPt (C.ptr m0.nxt 0) ∧ 
 (∃ x23 : Int, (((ldC m20 (C.ptr m0.nxt 2)) = (some (C.int .i64 x23))) ∧ 
 (∃ x24 : Int, (∃ x25 : Int, (∃ c26 : C, (((ldA m20 (C.ptr m.nxt 0) 3) = (some [(C.int .i64 x24), 
 (C.int .i64 x25), c26])) ∧ (Wc prog tbl 88 [(V.agg 3 [(C.int .i64 x24), 
 (C.int .i64 x25), c26])] m20 (fun v27 m28 => (∃ x29 : Int, ((v27 = (V.c (C.int .i64 x29))) ∧ 
 (((ldC m28 (C.ptr m0.nxt 2)) = (some (C.int .i64 x23))) ∧ (ifB (decide ((Min.min (6 : Int) x29) < x23)) (Q (V.c (C.int .i64 (2 : Int))) m28) (Q (V.c (C.int .i64 (0 : Int))) m28)))))))))))))))))))))))))))))))))))))))))))))))))))))))))) : Wc prog tbl 69 [(V.agg 3 [(C.int .i64 a100), (C.int .i64 a101), a102]), (V.agg 3 [(C.int .i64 a200), (C.int .i64 a201), (C.int .i64 a202)])] m Q :=
 wc_eq (n := 2) rfl (by kernel_rfl) (by kernel_rfl) h
theorem w71 {a100 : C} {a200 : C} {m : M} {Q : V → M → Prop} (h :
 (∀ m0 : M, ((m0 = (M.new m (AO.map [] 0))) → (isSl a200 ∧ (∀ R1 : List V → M → Prop, ((∀ c2 : C, (∀ x3 : Int, (∀ m4 : M, 
 ((ifB (decide (x3 < (((slLen a200) : Nat) : Int))) (∃ n5 : Nat, ((x3 = ((n5 : Nat) : Int)) ∧ ((n5 < (slLen a200)) ∧ 
 (∃ x6 : Int, (∃ x7 : Int, (∃ x8 : Int, (∃ b9 : Bool, (((ldA m4 (slAt a200 (n5 * 4)) 4) = (some [(C.int .i64 x6), 
 (C.int .i64 x7), (C.int .i64 x8), (C.bool b9)])) ∧ (∀ m10 : M, ((m10 = (M.new m4 (AO.cells 4 [(C.int .i64 (0 : Int)), 
 (C.int .i64 (0 : Int)), (C.int .i64 (0 : Int)), (C.bool false)] false))) → 
 (∃ m11 : M, (((stC m10 (C.ptr m4.nxt 0) 4 [(C.int .i64 x6), (C.int .i64 x7), 
 (C.int .i64 x8), (C.bool b9)]) = (some m11)) ∧ (isPt (C.ptr m4.nxt 0) ∧ 
 (∃ x12 : Int, (((ldC m11 (C.ptr m4.nxt 0)) = (some (C.int .i64 x12))) ∧ 
 (∃ y13 : Option U, (((lkM prog 3 m11 (C.map m.nxt) (V.c (C.int .i64 x12))) = (some y13)) ∧ 
 (((y13 = Option.none) → (isPt (C.ptr m4.nxt 0) ∧ (∃ x14 : Int, (((ldC m11 (C.ptr m4.nxt 0)) = (some (C.int .i64 x14))) ∧ 
 (Wc prog tbl 93 [(V.c a100), (V.c (C.int .i64 x14))] m11 (fun v15 m16 => 
 (∃ b17 : Bool, ((v15 = (V.c (C.bool b17))) ∧ (ifB (!b17) (∀ m18 : M, ((m18 = (M.new m16 (AO.cells 1 [(C.int .i64 x3)] false))) → 
 (∃ c19 : C, (∃ m20 : M, ((ApR prog 22 m18 c2 (C.sl m16.nxt 0 1 0 (some 1)) c19 m20) ∧ 
 (isPt (C.ptr m4.nxt 0) ∧ (∃ x21 : Int, (((ldC m20 (C.ptr m4.nxt 0)) = (some (C.int .i64 x21))) ∧ 
 (∃ m22 : M, (((upM prog 3 m20 (C.map m.nxt) (V.c (C.int .i64 x21)) (V.c (C.bool true))) = (some m22)) ∧ 
 (fitsP .i64 (x3 + (1 : Int)) ∧ (R1 [(V.c c19), (V.c (C.int .i64 (x3 + (1 : Int))))] m22)))))))))))) (isPt (C.ptr m4.nxt 0) ∧ 
 (∃ x23 : Int, (((ldC m16 (C.ptr m4.nxt 0)) = (some (C.int .i64 x23))) ∧ 
 (∃ m24 : M, (((upM prog 3 m16 (C.map m.nxt) (V.c (C.int .i64 x23)) (V.c (C.bool true))) = (some m24)) ∧ 
 (fitsP .i64 (x3 + (1 : Int)) ∧ (R1 [(V.c c2), (V.c (C.int .i64 (x3 + (1 : Int))))] m24)))))))))))))))) ∧ 
 (∀ u25 : U, ((y13 = (some u25)) → (∃ b26 : Bool, ((u25 = (U.c (C.bool b26))) ∧ 
 (ifB b26 (∀ m27 : M, ((m27 = (M.new m11 (AO.cells 1 [(C.int .i64 x3)] false))) → 
 (∃ c28 : C, (∃ m29 : M, ((ApR prog 22 m27 c2 (C.sl m11.nxt 0 1 0 (some 1)) c28 m29) ∧ 
 (isPt (C.ptr m4.nxt 0) ∧ (∃ x30 : Int, (((ldC m29 (C.ptr m4.nxt 0)) = (some (C.int .i64 x30))) ∧ 
 (∃ m31 : M, (((upM prog 3 m29 (C.map m.nxt) (V.c (C.int .i64 x30)) (V.c (C.bool true))) = (some m31)) ∧ 
 (fitsP .i64 (x3 + (1 : Int)) ∧ (R1 [(V.c c28), (V.c (C.int .i64 (x3 + (1 : Int))))] m31)))))))))))) (isPt (C.ptr m4.nxt 0) ∧ 
 (∃ x32 : Int, (((ldC m11 (C.ptr m4.nxt 0)) = (some (C.int .i64 x32))) ∧ 
 (Wc prog tbl 93 [(V.c a100), (V.c (C.int .i64 x32))] m11 (fun v33 m34 => 
 (∃ b35 : Bool, ((v33 = (V.c (C.bool b35))) ∧ (ifB (!b35) (∀ m36 : M, ((m36 = (M.new m34 (AO.cells 1 [(C.int .i64 x3)] false))) → 
 (∃ c37 : C, (∃ m38 : M, ((ApR prog 22 m36 c2 (C.sl m34.nxt 0 1 0 (some 1)) c37 m38) ∧ 
 (isPt (C.ptr m4.nxt 0) ∧ (∃ x39 : Int, (((ldC m38 (C.ptr m4.nxt 0)) = (some (C.int .i64 x39))) ∧ 
 (∃ m40 : M, (((upM prog 3 m38 (C.map m.nxt) (V.c (C.int .i64 x39)) (V.c (C.bool true))) = (some m40)) ∧ 
 (fitsP .i64 (x3 + (1 : Int)) ∧ (R1 [(V.c c37), (V.c (C.int .i64 (x3 + (1 : Int))))] m40)))))))))))) (isPt (C.ptr m4.nxt 0) ∧ 
 (∃ x41 : Int, (((ldC m34 (C.ptr m4.nxt 0)) = (some (C.int .i64 x41))) ∧ 
 (∃ m42 : M, (((upM prog 3 m34 (C.map m.nxt) (V.c (C.int .i64 x41)) (V.c (C.bool true))) = (some m42)) ∧ 
 (fitsP .i64 (x3 + (1 : Int)) ∧ (R1 [(V.c c2), (V.c (C.int .i64 (x3 + (1 : Int))))] m42)))))))))))))))))))))))))))))))))))))) (Q (V.c c2) m4)) → 
 (R1 [(V.c c2), (V.c (C.int .i64 x3))] m4))))) → (R1 [(V.c C.sl0), (V.c (C.int .i64 (0 : Int)))] m0))))))) : Wc prog tbl 71 [(V.c a100), (V.c a200)] m Q :=
 wc_eq (n := 2) rfl (by kernel_rfl) (by kernel_rfl) h
theorem w88 {a100 : Int} {a101 : Int} {a102 : C} {m : M} {Q : V → M → Prop} (h :
 (∀ m0 : M, ((m0 = (M.new m (AO.cells 3 [(C.int .i64 a100), (C.int .i64 a101), a102] false))) → (isPt (C.ptr m.nxt 0) ∧ 
 (∃ x1 : Int, (((ldC m0 (C.ptr m.nxt 0)) = (some (C.int .i64 x1))) ∧ (isPt (C.ptr m.nxt 0) ∧ 
 (∃ x2 : Int, (((ldC m0 (C.ptr m.nxt 1)) = (some (C.int .i64 x2))) ∧ (((0 : Int) ≤ x1) ∧ 
 (((0 : Int) ≤ x2) ∧ (fitsP .i64 (x1 * x2) ∧ (Q (V.c (C.int .i64 (x1 * x2))) m0))))))))))))) : Wc prog tbl 88 [(V.agg 3 [(C.int .i64 a100), (C.int .i64 a101), a102])] m Q :=
 wc_eq (n := 1) rfl (by kernel_rfl) (by kernel_rfl) h
theorem w93 {a100 : C} {a200 : Int} {m : M} {Q : V → M → Prop} (h :
 (Wc prog tbl 109 [(V.c a100), (V.c (C.int .i64 a200))] m (fun v0 m1 => (∃ x2 : Int, ((v0 = (V.c (C.int .i64 x2))) ∧ 
 (Q (V.c (C.bool (decide ((0 : Int) ≤ x2)))) m1)))))) : Wc prog tbl 93 [(V.c a100), (V.c (C.int .i64 a200))] m Q :=
 wc_eq (n := 2) rfl (by kernel_rfl) (by kernel_rfl) h
theorem w95 {a100 : Int} {m : M} {Q : V → M → Prop} (h :
 (Wc prog tbl 92 [(V.agg 2 [(C.int .i64 (0 : Int)), (C.int .i64 (9 : Int))]), (V.c (C.int .i64 a100))] m (fun v0 m1 => 
 (∃ b2 : Bool, ((v0 = (V.c (C.bool b2))) ∧ (Q (V.c (C.bool b2)) m1)))))) : Wc prog tbl 95 [(V.c (C.int .i64 a100))] m Q :=
 wc_eq (n := 1) rfl (by kernel_rfl) (by kernel_rfl) h
theorem w110 {a100 : C} {a200 : C} {m : M} {Q : V → M → Prop} (h :
 (Wc prog tbl 122 [(V.c a100), (V.c a200)] m (fun v0 m1 => (∃ x2 : Int, ((v0 = (V.c (C.int .i64 x2))) ∧ (Q (V.c (C.bool (decide ((0 : Int) ≤ x2)))) m1)))))) : Wc prog tbl 110 [(V.c a100), (V.c a200)] m Q :=
 wc_eq (n := 2) rfl (by kernel_rfl) (by kernel_rfl) h
end
end Go.Proofs.Ytgkjfhkjgdiodaa

namespace Go.Proofs.Ytgkjfhkjgdiodaa
open _root_.Go.Proofs.Try
open Go.Abs
set_option maxRecDepth 100000
noncomputable section
theorem w73 {a100 : C} {a200 : C} {m : M} {Q : V → M → Prop} (h :
 (∀ R0 : List V → M → Prop, ((∀ b1 : Bool, (∀ x2 : Int, (∀ m3 : M, ((isSl a100 ∧ (ifB (decide (x2 < (((slLen a100) : Nat) : Int))) (isSl a200 ∧ 
 (ifB (decide (x2 < (((slLen a200) : Nat) : Int))) (∃ n4 : Nat, ((x2 = ((n4 : Nat) : Int)) ∧ ((n4 < (slLen a100)) ∧ 
 (∃ x5 : Int, (((ldC m3 (slAt a100 (n4 * 1))) = (some (C.int .i64 x5))) ∧ (∃ n6 : Nat, 
 ((x2 = ((n6 : Nat) : Int)) ∧ ((n6 < (slLen a200)) ∧ (∃ x7 : Int, (((ldC m3 (slAt a200 (n6 * 1))) = (some (C.int .i64 x7))) ∧ 
 (ifB (!decide (x5 = x7)) (∃ n8 : Nat, ((x2 = ((n8 : Nat) : Int)) ∧ ((n8 < (slLen a100)) ∧ 
 (∃ x9 : Int, (((ldC m3 (slAt a100 (n8 * 1))) = (some (C.int .i64 x9))) ∧ 
 (∃ n10 : Nat, ((x2 = ((n10 : Nat) : Int)) ∧ ((n10 < (slLen a200)) ∧ (∃ x11 : Int, 
 (((ldC m3 (slAt a200 (n10 * 1))) = (some (C.int .i64 x11))) ∧ (Q (V.c (C.bool (decide (x9 < x11)))) m3))))))))))) (fitsP .i64 (x2 + (1 : Int)) ∧ 
 (R0 [(V.c (C.bool b1)), (V.c (C.int .i64 (x2 + (1 : Int))))] m3))))))))))))) (isSl a100 ∧ 
 (isSl a200 ∧ (Q (V.c (C.bool (decide ((((slLen a100) : Nat) : Int) < (((slLen a200) : Nat) : Int))))) m3))))) (isSl a100 ∧ 
 (isSl a200 ∧ (Q (V.c (C.bool (decide ((((slLen a100) : Nat) : Int) < (((slLen a200) : Nat) : Int))))) m3))))) → 
 (R0 [(V.c (C.bool b1)), (V.c (C.int .i64 x2))] m3))))) → (R0 [(V.c (C.bool false)), (V.c (C.int .i64 (0 : Int)))] m)))) : Wc prog tbl 73 [(V.c a100), (V.c a200)] m Q :=
 wc_eq (n := 2) rfl (by kernel_rfl) (by kernel_rfl) h
end
end Go.Proofs.Ytgkjfhkjgdiodaa

namespace Go.Proofs.Ytgkjfhkjgdiodaa
open _root_.Go.Proofs.Try
open Go.Abs
set_option maxRecDepth 100000
noncomputable section
theorem c111 (n : Int) (b : Nat) {m : M} {Q : V → M → Prop} (h :
 (∃ c0 : C, (((ldC m (C.ptr b 0)) = (some c0)) ∧ (callP prog tbl [(V.c (C.int .i64 n))] c0 m (fun v1 m2 => 
 (∃ b3 : Bool, ((v1 = (V.c (C.bool b3))) ∧ (Q (V.c (C.bool (!b3))) m2)))))))) : Wc prog tbl 111 [.c (.int .i64 n), .c (.ptr b 0)] m Q :=
 wc_eq (n := 2) rfl (by kernel_rfl) (by kernel_rfl) h
/-- the field is valid -/
def isField (r c : Int) (L : List Int) : Bool := decide ((1 ≤ r ∧ r ≤ 4) ∧ (1 ≤ c ∧ c ≤ 4) ∧ r * c ≤ 9 ∧ (L.length : Int) = r * c ∧ ∀ v ∈ L, 0 ≤ v ∧ v ≤ 9)
def isLot (s t d : Int) (k : Nat) : Bool := decide ((0 ≤ s ∧ s ≤ 9999) ∧ (0 ≤ t ∧ t ≤ 9999) ∧ (0 ≤ d ∧ d ≤ 6) ∧ d ≤ (k : Int))
theorem mul_small {r c : Int} (h1 : 1 ≤ r) (h2 : r ≤ 4) (h3 : 1 ≤ c) (h4 : c ≤ 4) : 0 ≤ r * c ∧ r * c ≤ 16 := by
  have : r = 1 ∨ r = 2 ∨ r = 3 ∨ r = 4 := by omega
  rcases this with rfl | rfl | rfl | rfl <;> omega
theorem s44 {n lo hi : Int} {m : M} {Q : V → M → Prop} (h : Q (.c (.bool (decide (lo ≤ n ∧ n ≤ hi)))) m) : Wc prog tbl 44 [.c (.int .i64 n), .c (.int .i64 lo), .c (.int .i64 hi)] m Q := by
  refine w44 ?_
  rw [ifB_dec]
  exact ⟨fun h1 => by simpa [h1] using h, fun h1 => by simpa [h1] using h⟩
theorem s92 {n lo hi : Int} {m : M} {Q : V → M → Prop} (h : ∀ m', Ext m m' → Q (.c (.bool (decide (lo ≤ n ∧ n ≤ hi)))) m') : Wc prog tbl 92 [.agg 2 [.int .i64 lo, .int .i64 hi], .c (.int .i64 n)] m Q := by
  refine w92 fun m0 e0 => ?_
  obtain ⟨b0, x0⟩ := Bk.new e0
  refine ⟨trivial, lo, b0.rc rfl, ?_⟩
  rw [ifB_dec]
  exact ⟨fun h1 => ⟨trivial, hi, b0.rc rfl, by simpa [h1] using h m0 x0⟩, fun h1 => by simpa [h1] using h m0 x0⟩
theorem s95 {n : Int} {m : M} {Q : V → M → Prop} (h : ∀ m', Ext m m' → Q (.c (.bool (decide (0 ≤ n ∧ n ≤ 9)))) m') : Wc prog tbl 95 [.c (.int .i64 n)] m Q :=
  w95 (s92 fun m' e => ⟨_, rfl, h m' e⟩)
theorem s88 {r c : Int} {x : C} {m : M} {Q : V → M → Prop} (h0 : 0 ≤ r) (h1 : 0 ≤ c) (h2 : fitsP .i64 (r * c)) (h : ∀ m', Ext m m' → Q (.c (.int .i64 (r * c))) m') : Wc prog tbl 88 [.agg 3 [.int .i64 r, .int .i64 c, x]] m Q := by
  refine w88 fun m0 e0 => ?_
  obtain ⟨b0, x0⟩ := Bk.new e0
  exact ⟨trivial, r, b0.rc rfl, trivial, c, b0.rc rfl, h0, h1, h2, h m0 x0⟩
/-- a search through numbers -/
theorem s61 {x : C} {L : List Int} {a : Int} {m : M} {Q : V → M → Prop} (hx : Li m x L) (hL : L.length ≤ 1048576) (h : Q (.c (.bool (decide (a ∈ L)))) m) : Wc prog tbl 61 [.c x, .c (.int .i64 a)] m Q := by
  refine w61 fun R0 hstep => ?_
  have hgo : ∀ (d i : Nat) (b : Bool), d + i = L.length → (∀ v ∈ L.take i, v ≠ a) → R0 [.c (.bool b), .c (.int .i64 (i : Int))] m := by
    intro d
    induction d with
    | zero =>
      intro i b hd hn
      refine hstep _ _ _ ⟨hx.isSl, ?_⟩
      rw [hx.slLen, ifB_dec]
      refine ⟨fun h1 => by omega, fun _ => ?_⟩
      have : ¬ a ∈ L := fun h2 => hn a (by rw [List.take_of_length_le (by omega)]; exact h2) rfl
      simpa [this] using h
    | succ d ih =>
      intro i b hd hn
      refine hstep _ _ _ ⟨hx.isSl, ?_⟩
      rw [hx.slLen, ifB_dec]
      refine ⟨fun _ => ?_, fun h1 => by omega⟩
      have hi : i < L.length := by omega
      refine ⟨i, rfl, hi, L[i], hx.rd (List.getElem?_eq_getElem hi), ?_⟩
      rw [ifB_dec]
      refine ⟨fun h1 => ?_, fun h1 => ⟨by simp only [fitsP]; omega, ?_⟩⟩
      · have : a ∈ L := by rw [← h1]; exact List.getElem_mem hi
        simpa [this] using h
      · exact ih (i + 1) b (by omega) fun v hv => by
          rw [List.take_add_one, List.getElem?_eq_getElem hi] at hv
          rcases List.mem_append.1 hv with h2 | h2
          · exact hn v h2
          · have : v = L[i] := by simpa using h2
            rw [this]; exact h1
  exact hgo L.length 0 false (by omega) (by simp)
theorem s109 {x : C} {L : List Int} {a : Int} {m : M} {Q : V → M → Prop} (hx : Li m x L) (hL : L.length ≤ 1048576) (h : ∀ r : Int, (0 ≤ r ↔ a ∈ L) → Q (.c (.int .i64 r)) m) : Wc prog tbl 109 [.c x, .c (.int .i64 a)] m Q := by
  refine w109 ⟨hx.isSl, fun R0 hstep => ?_⟩
  have hgo : ∀ (d i : Nat) (b : Int), d + i = L.length → (∀ v ∈ L.take i, v ≠ a) → R0 [.c (.int .i64 b), .c (.int .i64 (i : Int))] m := by
    intro d
    induction d with
    | zero =>
      intro i b hd hn
      refine hstep _ _ _ ?_
      rw [hx.slLen, ifB_dec]
      refine ⟨fun h1 => by omega, fun _ => h _ ?_⟩
      have : ¬ a ∈ L := fun h2 => hn a (by rw [List.take_of_length_le (by omega)]; exact h2) rfl
      exact ⟨fun h1 => by omega, fun h1 => absurd h1 this⟩
    | succ d ih =>
      intro i b hd hn
      refine hstep _ _ _ ?_
      rw [hx.slLen, ifB_dec]
      refine ⟨fun _ => ?_, fun h1 => by omega⟩
      have hi : i < L.length := by omega
      refine ⟨i, rfl, hi, L[i], hx.rd (List.getElem?_eq_getElem hi), ?_⟩
      rw [ifB_dec]
      refine ⟨fun h1 => ?_, fun h1 => ⟨by simp only [fitsP]; omega, ?_⟩⟩
      · have : a ∈ L := by rw [h1]; exact List.getElem_mem hi
        exact h _ ⟨fun _ => this, fun _ => Int.natCast_nonneg i⟩
      · exact ih (i + 1) b (by omega) fun v hv => by
          rw [List.take_add_one, List.getElem?_eq_getElem hi] at hv
          rcases List.mem_append.1 hv with h2 | h2
          · exact hn v h2
          · have : v = L[i] := by simpa using h2
            rw [this]; exact fun h => h1 h.symm
  exact hgo L.length 0 0 (by omega) (by simp)
theorem s93 {x : C} {L : List Int} {a : Int} {m : M} {Q : V → M → Prop} (hx : Li m x L) (hL : L.length ≤ 1048576) (h : Q (.c (.bool (decide (a ∈ L)))) m) : Wc prog tbl 93 [.c x, .c (.int .i64 a)] m Q :=
  w93 (s109 hx hL fun r hr => ⟨r, rfl, by simpa [hr] using h⟩)
/-- all numbers of a list are from 0 to 9 -/
theorem s94 {x : C} {L : List Int} {m : M} {Q : V → M → Prop} (hx : Li m x L) (hL : L.length ≤ 1048576) (h : ∀ m', Ext m m' → Q (.c (.bool (decide (∀ v ∈ L, 0 ≤ v ∧ v ≤ 9)))) m') : Wc prog tbl 94 [.c x, .c (.fn (.func 95) [] [])] m Q := by
  refine w94 fun m0 e0 => ?_
  obtain ⟨b0, x0⟩ := Bk.new e0
  have key : ∀ (r : Int) (m' : M), Ext m0 m' → (0 ≤ r ↔ ¬ ∀ v ∈ L, 0 ≤ v ∧ v ≤ 9) → Q (.c (.bool (!decide (0 ≤ r)))) m' := fun r m' e hr => by
    have h1 := h m' (x0.trans e)
    by_cases hc : ∀ v ∈ L, 0 ≤ v ∧ v ≤ 9
    · have : ¬ 0 ≤ r := fun h2 => (hr.1 h2) hc
      simpa [this, decide_eq_true hc] using h1
    · have h2 := hr.2 hc
      simpa [h2, decide_eq_false hc] using h1
  refine w110 (w122 ⟨(hx.ext x0).isSl, fun R0 hstep => ?_⟩)
  have hgo : ∀ (d i : Nat) (b : Int) (m1 : M), d + i = L.length → (∀ v ∈ L.take i, 0 ≤ v ∧ v ≤ 9) → Ext m0 m1 → R0 [.c (.int .i64 b), .c (.int .i64 (i : Int))] m1 := by
    intro d
    induction d with
    | zero =>
      intro i b m1 hd hn he
      refine hstep _ _ _ ?_
      rw [hx.slLen, ifB_dec]
      refine ⟨fun h1 => by omega, fun _ => ⟨_, rfl, _, rfl, key _ m1 he ?_⟩⟩
      refine ⟨fun h1 => by omega, fun h1 => absurd (fun v hv => hn v (by rw [List.take_of_length_le (by omega)]; exact hv)) h1⟩
    | succ d ih =>
      intro i b m1 hd hn he
      refine hstep _ _ _ ?_
      rw [hx.slLen, ifB_dec]
      refine ⟨fun _ => ?_, fun h1 => by omega⟩
      have hi : i < L.length := by omega
      refine ⟨i, rfl, hi, L[i], Li.rd ((hx.ext x0).ext he) (List.getElem?_eq_getElem hi), ?_⟩
      show Wc prog tbl 111 _ m1 _
      refine c111 L[i] m.nxt ⟨_, (b0.ext he).rc rfl, ?_⟩
      show Wc prog tbl 95 _ m1 _
      refine s95 fun m2 e2 => ⟨_, rfl, _, rfl, ?_⟩
      rw [ifB_ndec]
      refine ⟨fun h1 => ⟨_, rfl, _, rfl, key _ m2 (he.trans e2) ⟨fun _ h2 => h1 (h2 _ (List.getElem_mem hi)), fun _ => Int.natCast_nonneg i⟩⟩, fun h1 => ⟨by simp only [fitsP]; omega, ?_⟩⟩
      exact ih (i + 1) b m2 (by omega) (fun v hv => by
          rw [List.take_add_one, List.getElem?_eq_getElem hi] at hv
          rcases List.mem_append.1 hv with h2 | h2
          · exact hn v h2
          · have : v = L[i] := by simpa using h2
            rw [this]; exact h1) (he.trans e2)
  exact hgo L.length 0 0 m0 (by omega) (by simp) (.refl m0)
end
end Go.Proofs.Ytgkjfhkjgdiodaa

namespace Go.Proofs.Ytgkjfhkjgdiodaa
open _root_.Go.Proofs.Try
open Go.Abs
set_option maxRecDepth 100000
noncomputable section
theorem fits_small {n : Int} (h1 : -1000000 ≤ n) (h2 : n ≤ 1000000) : fitsP .i64 n := by simp only [fitsP]; omega
theorem s72 {r c : Int} {x : C} {L : List Int} {m : M} {Q : V → M → Prop} (hx : Li m x L) (hL : L.length ≤ 1048576) (h : ∀ m', Ext m m' → Q (.c (.bool (isField r c L))) m') : Wc prog tbl 72 [.agg 3 [.int .i64 r, .int .i64 c, x]] m Q := by
  refine w72 fun m0 e0 m1 e1 => ?_
  obtain ⟨b0, x0⟩ := Bk.new e0
  obtain ⟨b1, x1⟩ := Bk.new e1
  have b0' := b0.ext x1
  have hne : m.nxt ≠ m0.nxt := by have := b0.lt; omega
  have hb0 := b0'.setNe (c := m0.nxt) hne (.cells 2 [.int .i64 1, .int .i64 4] false)
  have hb1 := b1.set [.int .i64 1, .int .i64 4]
  have hx2 : Ext m (m1.set m0.nxt (.cells 2 [.int .i64 1, .int .i64 4] false)) := (x0.trans x1).setR x0.nxt _
  refine ⟨_, b1.st _, 1, 4, hb1.ra, trivial, r, hb0.rc rfl, s92 fun m7 e7 => ⟨_, rfl, ?_⟩⟩
  generalize hm2 : m1.set m0.nxt (.cells 2 [.int .i64 1, .int .i64 4] false) = m2 at hb0 hb1 hx2 e7
  have hfalse : ∀ m', Ext m2 m' → isField r c L = false → Q (.c (.bool false)) m' := fun m' e hf => by
    have := h m' (hx2.trans e); rw [hf] at this; exact this
  rw [ifB_dec]
  refine ⟨fun h1 => ?_, fun h1 => hfalse m7 e7 (decide_eq_false fun h2 => h1 h2.1)⟩
  refine ⟨1, 4, (hb1.ext e7).ra, trivial, c, (hb0.ext e7).rc rfl, s92 fun m13 e13 => ⟨_, rfl, ?_⟩⟩
  have e13' := e7.trans e13
  rw [ifB_dec]
  refine ⟨fun h2 => ?_, fun h2 => hfalse m13 e13' (decide_eq_false fun h3 => h2 h3.2.1)⟩
  have hs := mul_small h1.1 h1.2 h2.1 h2.2
  refine ⟨r, c, x, (hb0.ext e13').ra, s88 (by omega) (by omega) (fits_small (by omega) (by omega)) fun m19 e19 => ⟨_, rfl, ?_⟩⟩
  have e19' := e13'.trans e19
  rw [ifB_dec]
  refine ⟨fun h3 => ?_, fun h3 => hfalse m19 e19' (decide_eq_false fun h4 => h3 h4.2.2.1)⟩
  refine ⟨trivial, x, (hb0.ext e19').rc rfl, hx.isSl, r, c, x, (hb0.ext e19').ra, s88 (by omega) (by omega) (fits_small (by omega) (by omega)) fun m26 e26 => ⟨_, rfl, ⟨hx.isSl, rfl⟩, ?_⟩⟩
  have e26' := e19'.trans e26
  rw [hx.noFn, hx.slLen]
  refine ⟨(hb0.ext e26').rc rfl, ?_⟩
  rw [ifB_dec]
  refine ⟨fun h4 => ?_, fun h4 => hfalse m26 e26' (decide_eq_false fun h5 => h4 h5.2.2.2.1)⟩
  refine ⟨trivial, x, (hb0.ext e26').rc rfl, s94 (hx.ext (hx2.trans e26')) hL fun m30 e30 => ⟨_, rfl, ?_⟩⟩
  have hq := h m30 ((hx2.trans e26').trans e30)
  have : isField r c L = decide (∀ v ∈ L, 0 ≤ v ∧ v ≤ 9) := by
    unfold isField
    by_cases hv : ∀ v ∈ L, 0 ≤ v ∧ v ≤ 9
    · rw [decide_eq_true hv, decide_eq_true ⟨h1, h2, h3, h4, hv⟩]
    · rw [decide_eq_false hv, decide_eq_false fun h => hv h.2.2.2.2]
  rw [this] at hq
  exact hq
theorem s27 {r c : Int} {x : C} {L : List Int} {m : M} {Q : V → M → Prop} (hx : Li m x L) (hL : L.length ≤ 1048576) (h : ∀ m', Ext m m' → Q (.c (.int .i64 (if isField r c L then 0 else 1))) m') : Wc prog tbl 27 [.agg 3 [.int .i64 r, .int .i64 c, x]] m Q := by
  refine w27 fun m0 e0 => ?_
  obtain ⟨b0, x0⟩ := Bk.new e0
  refine ⟨r, c, x, b0.ra, s72 (hx.ext x0) hL fun m5 e5 => ⟨_, rfl, ?_⟩⟩
  have hq := h m5 (x0.trans e5)
  cases hf : isField r c L with
  | true => rw [hf] at hq; exact hq
  | false => rw [hf] at hq; exact hq
theorem s26 {r c : Int} {x : C} {L : List Int} {m : M} {Q : V → M → Prop} (hx : Li m x L) (hL : L.length ≤ 1048576) (h : ∀ m', Ext m m' → Q (.c (.bool (isField r c L))) m') : Wc prog tbl 26 [.agg 3 [.int .i64 r, .int .i64 c, x]] m Q := by
  refine w26 fun m0 e0 => ?_
  obtain ⟨b0, x0⟩ := Bk.new e0
  have hx0 := hx.ext x0
  have hfalse : isField r c L = false → Q (.c (.bool false)) m0 := fun hf => by
    have := h m0 x0; rw [hf] at this; exact this
  refine ⟨trivial, r, b0.rc rfl, s44 ⟨_, rfl, ?_⟩⟩
  rw [ifB_ndec]
  refine ⟨fun h1 => hfalse (decide_eq_false fun h2 => h1 h2.1), fun h1 => ⟨trivial, c, b0.rc rfl, s44 ⟨_, rfl, ?_⟩⟩⟩
  rw [ifB_ndec]
  refine ⟨fun h2 => hfalse (decide_eq_false fun h3 => h2 h3.2.1), fun h2 => ?_⟩
  have hs := mul_small h1.1 h1.2 h2.1 h2.2
  refine ⟨trivial, r, b0.rc rfl, trivial, c, b0.rc rfl, by omega, by omega, fits_small (by omega) (by omega), ?_⟩
  rw [ifB_dec]
  refine ⟨fun h3 => hfalse (decide_eq_false fun h4 => by have := h4.2.2.1; omega), fun h3 => ⟨trivial, x, b0.rc rfl, hx.isSl, trivial, r, b0.rc rfl, trivial, c, b0.rc rfl, by omega, by omega, fits_small (by omega) (by omega), ?_⟩⟩
  rw [hx.slLen, ifB_ndec]
  refine ⟨fun h4 => hfalse (decide_eq_false fun h5 => h4 h5.2.2.2.1), fun h4 R0 hstep => ?_⟩
  have hgo : ∀ (d i : Nat) (b : Bool), d + i = L.length → (∀ v ∈ L.take i, 0 ≤ v ∧ v ≤ 9) → R0 [.c (.bool b), .c (.int .i64 (i : Int))] m0 := by
    intro d
    induction d with
    | zero =>
      intro i b hd hn
      refine hstep _ _ _ ⟨trivial, x, b0.rc rfl, hx.isSl, ?_⟩
      rw [hx.slLen, ifB_dec]
      refine ⟨fun h1 => by omega, fun _ => ?_⟩
      have : isField r c L = true := decide_eq_true ⟨h1, h2, by omega, h4, fun v hv => hn v (by rw [List.take_of_length_le (by omega)]; exact hv)⟩
      have hq := h m0 x0
      rw [this] at hq; exact hq
    | succ d ih =>
      intro i b hd hn
      refine hstep _ _ _ ⟨trivial, x, b0.rc rfl, hx.isSl, ?_⟩
      rw [hx.slLen, ifB_dec]
      refine ⟨fun _ => ?_, fun h1 => by omega⟩
      have hi : i < L.length := by omega
      refine ⟨trivial, x, b0.rc rfl, i, rfl, by rw [hx.slLen]; exact hi, L[i], Li.rd hx0 (List.getElem?_eq_getElem hi), s44 ⟨_, rfl, ?_⟩⟩
      rw [ifB_ndec]
      refine ⟨fun h5 => hfalse (decide_eq_false fun h6 => h5 (h6.2.2.2.2 _ (List.getElem_mem hi))), fun h5 => ⟨by simp only [fitsP]; omega, ?_⟩⟩
      exact ih (i + 1) b (by omega) fun v hv => by
        rw [List.take_add_one, List.getElem?_eq_getElem hi] at hv
        rcases List.mem_append.1 hv with h2 | h2
        · exact hn v h2
        · have : v = L[i] := by simpa using h2
          rw [this]; exact h5
  exact hgo L.length 0 false (by omega) (by simp)
theorem s28 {r c s t d : Int} {x : C} {L : List Int} {m : M} {Q : V → M → Prop} (hx : Li m x L) (h : ∀ m', Ext m m' → Q (.c (.bool (isLot s t d L.length))) m') : Wc prog tbl 28 [.agg 3 [.int .i64 r, .int .i64 c, x], .agg 3 [.int .i64 s, .int .i64 t, .int .i64 d]] m Q := by
  refine w28 fun m0 e0 m1 e1 => ?_
  obtain ⟨b0, x0⟩ := Bk.new e0
  obtain ⟨b1, x1⟩ := Bk.new e1
  have b0' := b0.ext x1
  have hfalse : isLot s t d L.length = false → Q (.c (.bool false)) m1 := fun hf => by
    have := h m1 (x0.trans x1); rw [hf] at this; exact this
  refine ⟨trivial, s, b1.rc rfl, s44 ⟨_, rfl, ?_⟩⟩
  rw [ifB_dec]
  refine ⟨fun h1 => ⟨trivial, t, b1.rc rfl, s44 ⟨_, rfl, ?_⟩⟩, fun h1 => hfalse (decide_eq_false fun h2 => h1 h2.1)⟩
  rw [ifB_dec]
  refine ⟨fun h2 => ⟨trivial, d, b1.rc rfl, s44 ⟨_, rfl, ?_⟩⟩, fun h2 => hfalse (decide_eq_false fun h3 => h2 h3.2.1)⟩
  rw [ifB_dec]
  refine ⟨fun h3 => ⟨trivial, d, b1.rc rfl, trivial, x, b0'.rc rfl, hx.isSl, ?_⟩, fun h3 => hfalse (decide_eq_false fun h4 => h3 h4.2.2.1)⟩
  rw [hx.slLen]
  have hq := h m1 (x0.trans x1)
  have : isLot s t d L.length = decide (d ≤ (L.length : Int)) := by
    unfold isLot
    by_cases hv : d ≤ (L.length : Int)
    · rw [decide_eq_true hv, decide_eq_true ⟨h1, h2, h3, hv⟩]
    · rw [decide_eq_false hv, decide_eq_false fun h => hv h.2.2.2]
  rw [this] at hq
  exact hq
end
end Go.Proofs.Ytgkjfhkjgdiodaa

namespace Go.Proofs.Ytgkjfhkjgdiodaa
open _root_.Go.Proofs.Try
open Go.Abs
set_option maxRecDepth 100000
noncomputable section
theorem t22 : tk prog 22 = .sl 3 := by kernel_rfl
theorem g3 : growOk prog 3 = true := by kernel_rfl
theorem z3 : prog.cellsOf 3 = 1 := by kernel_rfl
theorem s69 {r c s t d : Int} {x : C} {L : List Int} {m : M} {Q : V → M → Prop} (hx : Li m x L) (hL : L.length ≤ 1048576) (h : ∀ m', Ext m m' → Q (.c (.int .i64 (if isField r c L then if isLot s t d L.length then 0 else 2 else 1))) m') :
    Wc prog tbl 69 [.agg 3 [.int .i64 r, .int .i64 c, x], .agg 3 [.int .i64 s, .int .i64 t, .int .i64 d]] m Q := by
  refine w69 fun m0 e0 m1 e1 => ?_
  obtain ⟨b0, x0⟩ := Bk.new e0
  obtain ⟨b1, x1⟩ := Bk.new e1
  have b0' := b0.ext x1
  have x01 := x0.trans x1
  refine ⟨r, c, x, b0'.ra, s27 (hx.ext x01) hL fun m6 e6 => ⟨_, rfl, ?_⟩⟩
  cases hf : isField r c L with
  | false =>
    simp only [hf] at h
    rw [ifB_ndec]
    exact ⟨fun _ => h m6 (x01.trans e6), fun h1 => absurd h1 (by decide)⟩
  | true =>
    simp only [hf, if_true] at h
    rw [ifB_ndec]
    refine ⟨fun h1 => absurd rfl h1, fun _ m8 e8 => ?_⟩
    obtain ⟨b8, x8⟩ := Bk.new e8
    have hfd : (1 ≤ r ∧ r ≤ 4) ∧ (1 ≤ c ∧ c ≤ 4) ∧ r * c ≤ 9 ∧ (L.length : Int) = r * c ∧ ∀ v ∈ L, 0 ≤ v ∧ v ≤ 9 := of_decide_eq_true hf
    have hs := mul_small hfd.1.1 hfd.1.2 hfd.2.1.1 hfd.2.1.2
    have ex8 := (x01.trans e6).trans x8
    have c0 := ((b0'.ext e6).ext x8)
    have c1 := ((b1.ext e6).ext x8)
    have n0 : m.nxt < m6.nxt := Nat.lt_of_lt_of_le b0'.lt e6.nxt
    have n1 : m0.nxt < m6.nxt := Nat.lt_of_lt_of_le b1.lt e6.nxt
    have d0 := c0.setNe (c := m6.nxt) (by omega) (.cells 2 [.int .i64 0, .int .i64 9999] false)
    have d1 := c1.setNe (c := m6.nxt) (by omega) (.cells 2 [.int .i64 0, .int .i64 9999] false)
    have d8 := b8.set [.int .i64 0, .int .i64 9999]
    have hx9 : Ext m (m8.set m6.nxt (.cells 2 [.int .i64 0, .int .i64 9999] false)) := ex8.setR (x01.trans e6).nxt _
    refine ⟨_, b8.st _, 0, 9999, d8.ra, trivial, s, d1.rc rfl, s92 fun m14 e14 => ⟨_, rfl, ?_⟩⟩
    generalize hm9 : m8.set m6.nxt (.cells 2 [.int .i64 0, .int .i64 9999] false) = m9 at d0 d1 d8 hx9 e14
    have hfalse : ∀ m', Ext m9 m' → isLot s t d L.length = false → Q (.c (.int .i64 2)) m' := fun m' e hf => by
      have := h m' (hx9.trans e); rw [hf] at this; exact this
    rw [ifB_ndec]
    refine ⟨fun h1 => hfalse m14 e14 (decide_eq_false fun h2 => h1 h2.1), fun h1 => ?_⟩
    refine ⟨0, 9999, (d8.ext e14).ra, trivial, t, (d1.ext e14).rc rfl, s92 fun m20 e20 => ⟨_, rfl, ?_⟩⟩
    have e20' := e14.trans e20
    rw [ifB_ndec]
    refine ⟨fun h2 => hfalse m20 e20' (decide_eq_false fun h3 => h2 h3.2.1), fun h2 => ⟨trivial, d, (d1.ext e20').rc rfl, ?_⟩⟩
    rw [ifB_dec]
    refine ⟨fun h3 => hfalse m20 e20' (decide_eq_false fun h4 => by have := h4.2.2.1.1; omega), fun h3 => ?_⟩
    refine ⟨trivial, d, (d1.ext e20').rc rfl, r, c, x, (d0.ext e20').ra, s88 (by omega) (by omega) (fits_small (by omega) (by omega)) fun m28 e28 => ⟨_, rfl, ((d1.ext e20').ext e28).rc rfl, ?_⟩⟩
    have e28' := e20'.trans e28
    rw [ifB_dec]
    have hmin : min (6 : Int) (r * c) < d ↔ (6 < d ∨ (L.length : Int) < d) := by rw [hfd.2.2.2.1]; omega
    refine ⟨fun h4 => hfalse m28 e28' (decide_eq_false fun h5 => ?_), fun h4 => ?_⟩
    · have := h5.2.2.1.2
      have := h5.2.2.2
      have := hmin.1 h4
      omega
    · have hq := h m28 (hx9.trans e28')
      have : isLot s t d L.length = true := decide_eq_true ⟨h1, h2, ⟨by omega, by
        have := fun h => h4 (hmin.2 (.inl h)); omega⟩, by have := fun h => h4 (hmin.2 (.inr h)); omega⟩
      rw [this] at hq
      exact hq
/-- numbers are copied -/
theorem s34 {x : C} {L : List Int} {m : M} {Q : V → M → Prop} (hx : Li m x L) (hL : L.length ≤ 1048576) (h : ∀ y m', Ext m m' → Own1 m' 1 y (ints L) L.length → Fr m y → Q (.c y) m') : Wc prog tbl 34 [.c x] m Q := by
  refine w34 fun m0 e0 => ?_
  obtain ⟨b0, x0⟩ := Bk.new e0
  have ho : Own1 m0 1 (.sl m.nxt 0 0 0 (some 0)) [] 0 := ⟨by simp, .lit m.nxt b0.g b0.lt⟩
  have hx0 := hx.ext x0
  cases L with
  | nil => exact ⟨_, m0, ap_none t22 g3 z3 ho hx0, h _ m0 x0 ho fun b o n s d he => by cases he; omega⟩
  | cons v L =>
    obtain ⟨m', h1, h2, h3, h4, h5⟩ := ap_own t22 g3 z3 ho hx0 (by simp) (by omega) (by simp at hL ⊢; omega)
    refine ⟨_, m', h1, h _ m' ⟨?_, fun b hb => ?_, by rw [h4]; exact x0.vw⟩ ?_ fun b o n s d he => by cases he; exact x0.nxt⟩
    · have := x0.nxt; omega
    · have := x0.nxt
      rw [h5 b (by omega) (by intro h; cases h)]; exact x0.g b hb
    · simp only [List.nil_append, Nat.zero_add] at h2 ⊢
      exact h2
theorem s22 {r c : Int} {x : C} {L : List Int} {m : M} {Q : V → M → Prop} (hx : Li m x L) (hL : L.length ≤ 1048576) (h : ∀ y m', Ext m m' → Li m' y L → Fr m y → Q (.agg 3 [.int .i64 r, .int .i64 c, y]) m') : Wc prog tbl 22 [.agg 3 [.int .i64 r, .int .i64 c, x]] m Q := by
  refine w22 fun m0 e0 m1 e1 => ?_
  obtain ⟨b0, x0⟩ := Bk.new e0
  obtain ⟨b1, x1⟩ := Bk.new e1
  have b0' := b0.ext x1
  have x01 := x0.trans x1
  refine ⟨trivial, r, b0'.rc rfl, trivial, c, b0'.rc rfl, trivial, x, b0'.rc rfl, s34 (hx.ext x01) hL fun y m6 e6 hy hf => ⟨y, rfl, (b0'.ext e6).rc rfl, (b0'.ext e6).rc rfl, _, (b1.ext e6).st _, r, c, y, ((b1.ext e6).set _).ra, ?_⟩⟩
  refine h y _ ((x01.trans e6).setR x0.nxt _) (hy.ls.setNe (fun b o n s d he => ?_) _) (hf.mono x01.nxt)
  have := hf b o n s d he
  have := b1.lt
  omega
theorem s23 {s t d : Int} {m : M} {Q : V → M → Prop} (h : ∀ m', Ext m m' → Q (.agg 3 [.int .i64 s, .int .i64 t, .int .i64 d]) m') : Wc prog tbl 23 [.agg 3 [.int .i64 s, .int .i64 t, .int .i64 d]] m Q := by
  refine w23 fun m0 e0 m1 e1 => ?_
  obtain ⟨b0, x0⟩ := Bk.new e0
  obtain ⟨b1, x1⟩ := Bk.new e1
  have b0' := b0.ext x1
  exact ⟨trivial, s, b0'.rc rfl, trivial, t, b0'.rc rfl, trivial, d, b0'.rc rfl, _, b1.st _, s, t, d, (b1.set _).ra, h _ ((x0.trans x1).setR x0.nxt _)⟩
theorem s45 {a b : Int} {m : M} {Q : V → M → Prop} (h : ∀ m', Ext m m' → Q (.agg 2 [.int .i64 a, .int .i64 b]) m') : Wc prog tbl 45 [.agg 2 [.int .i64 a, .int .i64 b]] m Q := by
  refine w45 fun m0 e0 m1 e1 => ?_
  obtain ⟨b0, x0⟩ := Bk.new e0
  obtain ⟨b1, x1⟩ := Bk.new e1
  have b0' := b0.ext x1
  exact ⟨trivial, a, b0'.rc rfl, trivial, b, b0'.rc rfl, _, b1.st _, a, b, (b1.set _).ra, h _ ((x0.trans x1).setR x0.nxt _)⟩
theorem s19 {r c t : Int} {x y : C} {k1 k2 n1 n2 : Nat} {v1 v2 : List C} {m : M} {Q : V → M → Prop} (hx : Ls m k1 x v1 n1) (hy : Ls m k2 y v2 n2) (h : ∀ m', Ext m m' → Q (.c (.bool (decide (n1 ≤ 12 ∧ n2 ≤ 9)))) m') :
    Wc prog tbl 19 [.agg 5 [.int .i64 r, .int .i64 c, x, .int .i64 t, y]] m Q := by
  refine w19 fun m0 e0 => ?_
  obtain ⟨b0, x0⟩ := Bk.new e0
  refine ⟨trivial, trivial, x, b0.rc rfl, hx.isSl, ?_⟩
  rw [hx.slLen, ifB_dec]
  refine ⟨fun h1 => ⟨trivial, y, b0.rc rfl, hy.isSl, ?_⟩, fun h1 => ?_⟩
  · have hq := h m0 x0
    have : decide (n1 ≤ 12 ∧ n2 ≤ 9) = decide ((n2 : Int) ≤ 9) := by
      by_cases h2 : n2 ≤ 9
      · rw [decide_eq_true (show n1 ≤ 12 ∧ n2 ≤ 9 from ⟨by omega, h2⟩), decide_eq_true (show (n2 : Int) ≤ 9 by omega)]
      · rw [decide_eq_false (show ¬ (n1 ≤ 12 ∧ n2 ≤ 9) by omega), decide_eq_false (show ¬ (n2 : Int) ≤ 9 by omega)]
    rw [this] at hq
    rw [hy.slLen]; exact hq
  · have hq := h m0 x0
    rw [decide_eq_false (show ¬ (n1 ≤ 12 ∧ n2 ≤ 9) by omega)] at hq
    exact hq
/-- equal lists: neither is before the other -/
theorem s73 {x y : C} {L : List Int} {m : M} {Q : V → M → Prop} (hx : Li m x L) (hy : Li m y L) (hL : L.length ≤ 1048576) (h : Q (.c (.bool false)) m) : Wc prog tbl 73 [.c x, .c y] m Q := by
  refine w73 fun R0 hstep => ?_
  have hgo : ∀ (d i : Nat) (b : Bool), d + i = L.length → R0 [.c (.bool b), .c (.int .i64 (i : Int))] m := by
    intro d
    induction d with
    | zero =>
      intro i b hd
      refine hstep _ _ _ ⟨hx.isSl, ?_⟩
      rw [hx.slLen, hy.slLen, ifB_dec]
      refine ⟨fun h1 => by omega, fun _ => ⟨hx.isSl, hy.isSl, ?_⟩⟩
      rw [decide_eq_false (by omega)]
      exact h
    | succ d ih =>
      intro i b hd
      refine hstep _ _ _ ⟨hx.isSl, ?_⟩
      rw [hx.slLen, hy.slLen, ifB_dec]
      refine ⟨fun _ => ⟨hy.isSl, ?_⟩, fun h1 => by omega⟩
      rw [ifB_dec]
      refine ⟨fun _ => ?_, fun h1 => by omega⟩
      have hi : i < L.length := by omega
      refine ⟨i, rfl, hi, L[i], Li.rd hx (List.getElem?_eq_getElem hi), i, rfl, hi, L[i], Li.rd hy (List.getElem?_eq_getElem hi), ?_⟩
      rw [ifB_ndec]
      exact ⟨fun h1 => absurd rfl h1, fun _ => ⟨by simp only [fitsP]; omega, ih (i + 1) b (by omega)⟩⟩
  exact hgo L.length 0 false (by omega)
theorem s29 {x y : C} {L : List Int} {m : M} {Q : V → M → Prop} (hx : Li m x L) (hy : Li m y L) (hL : L.length ≤ 1048576) (h : Q (.c (.bool true)) m) : Wc prog tbl 29 [.c x, .c y] m Q := by
  refine w29 ⟨hx.isSl, hy.isSl, ?_⟩
  rw [hx.slLen, hy.slLen, ifB_dec]
  refine ⟨fun _ => s73 hx hy hL ⟨_, rfl, ?_⟩, fun h1 => absurd rfl h1⟩
  exact s73 hy hx hL ⟨_, rfl, h⟩
end
end Go.Proofs.Ytgkjfhkjgdiodaa

namespace Go.Proofs.Ytgkjfhkjgdiodaa
open _root_.Go.Proofs.Try
open Go.Abs
/-- the first number from n on, around, that is not in D -/
def nf (k : Nat) (D : List Int) : Nat → Int → Int
  | 0, n => n
  | f + 1, n => if n ∈ D then nf k D f ((n + 1) % k) else n
def drawL (k : Nat) (t : Int) : Nat → Int → Int → List Int → List Int
  | 0, _, _, D => D
  | n + 1, i, x, D => drawL k t n (i + 1) ((31 * x + t + i) % 9973) (D ++ [nf k D k (((31 * x + t + i) % 9973) % k)])
theorem nodup_sub {l r : List Int} (hl : l.Nodup) (h : ∀ v ∈ l, v ∈ r) : l.length ≤ r.length := by
  induction l generalizing r with
  | nil => simp
  | cons a l ih =>
    rw [List.nodup_cons] at hl
    have ha := h a (List.mem_cons_self ..)
    have h1 : ∀ v ∈ l, v ∈ r.erase a := fun v hv => by
      have hne : v ≠ a := fun he => hl.1 (he ▸ hv)
      exact (List.mem_erase_of_ne hne).2 (h v (List.mem_cons_of_mem _ hv))
    have h2 := ih hl.2 h1
    rw [List.length_erase_of_mem ha] at h2
    have := List.length_pos_of_mem ha
    simp; omega
/-- some place is free -/
theorem free_in {k : Nat} {D : List Int} {n : Int} (hD : D.length < k) (h0 : 0 ≤ n) (hn : n < k) : ∃ j, j < k ∧ ((n + (j : Int)) % k) ∉ D := by
  refine Classical.byContradiction fun hc => ?_
  have hall : ∀ j : Nat, j < k → ((n + (j : Int)) % k) ∈ D := fun j hj => Classical.byContradiction fun h => hc ⟨j, hj, h⟩
  have h1 : ((List.range k).map fun j : Nat => (n + (j : Int)) % (k : Int)).Nodup := by
    unfold List.Nodup
    rw [List.pairwise_map]
    refine List.Pairwise.imp_of_mem ?_ List.nodup_range
    intro a b ha hb hab h
    rw [List.mem_range] at ha hb
    have e1 : (n + (a : Int)) % k = if n + a < k then n + a else n + a - k := by
      split
      · exact Int.emod_eq_of_lt (by omega) (by omega)
      · rw [← Int.sub_emod_right, Int.emod_eq_of_lt (by omega) (by omega)]
    have e2 : (n + (b : Int)) % k = if n + b < k then n + b else n + b - k := by
      split
      · exact Int.emod_eq_of_lt (by omega) (by omega)
      · rw [← Int.sub_emod_right, Int.emod_eq_of_lt (by omega) (by omega)]
    have h' : (n + (a : Int)) % k = (n + (b : Int)) % k := h
    rw [e1, e2] at h'
    split at h' <;> split at h' <;> omega
  have h2 := nodup_sub h1 (r := D) fun v hv => by
    obtain ⟨j, hj, rfl⟩ := List.mem_map.1 hv
    exact hall j (List.mem_range.1 hj)
  simp at h2
  omega
theorem mod_step {k : Nat} {n : Int} (j : Nat) : ((n + 1) % (k : Int) + (j : Int)) % k = (n + ((j + 1 : Nat) : Int)) % k := by
  rw [Int.emod_add_emod]
  congr 1
  omega
theorem next_in {k : Nat} {n : Int} (h0 : 0 ≤ n) (hk : 0 < k) : 0 ≤ (n + 1) % (k : Int) ∧ (n + 1) % (k : Int) < k :=
  ⟨Int.emod_nonneg _ (by omega), Int.emod_lt_of_pos _ (by omega)⟩
/-- the search ends at a free place -/
theorem nf_ok {k : Nat} {D : List Int} (hk : 0 < k) : ∀ (f : Nat) {n : Int}, 0 ≤ n → n < k → (∃ j, j < f ∧ ((n + (j : Int)) % k) ∉ D) → nf k D f n ∉ D ∧ 0 ≤ nf k D f n ∧ nf k D f n < k
  | 0, n, _, _, h => by obtain ⟨j, hj, _⟩ := h; omega
  | f + 1, n, h0, hn, h => by
    unfold nf
    by_cases hm : n ∈ D
    · rw [if_pos hm]
      obtain ⟨j, hj, h1⟩ := h
      cases j with
      | zero => exact absurd hm (by rw [show (n + ((0 : Nat) : Int)) % (k : Int) = n from by rw [Int.emod_eq_of_lt (by omega) (by omega)]; omega] at h1; exact h1)
      | succ j =>
        obtain ⟨q1, q2⟩ := next_in (n := n) h0 hk
        exact nf_ok hk f q1 q2 ⟨j, by omega, by rw [mod_step]; exact h1⟩
    · rw [if_neg hm]; exact ⟨hm, h0, hn⟩
/-- what has been drawn -/
structure Drawn (k : Nat) (D : List Int) : Prop where
  nd : D.Nodup
  rg : ∀ v ∈ D, 0 ≤ v ∧ v < k
theorem Drawn.push {k : Nat} {D : List Int} (h : Drawn k D) (hk : 0 < k) (hD : D.length < k) {n : Int} (h0 : 0 ≤ n) (hn : n < k) : Drawn k (D ++ [nf k D k n]) := by
  obtain ⟨h1, h2, h3⟩ := nf_ok hk k h0 hn (free_in hD h0 hn)
  refine ⟨?_, fun v hv => ?_⟩
  · rw [List.nodup_append]
    refine ⟨h.nd, by simp, fun a ha b hb hab => ?_⟩
    have : b = nf k D k n := by simpa using hb
    rw [← this, ← hab] at h1
    exact h1 ha
  · rcases List.mem_append.1 hv with h4 | h4
    · exact h.rg v h4
    · have : v = nf k D k n := by simpa using h4
      rw [this]; exact ⟨h2, h3⟩
theorem drawL_ok {k : Nat} {t : Int} (hk : 0 < k) : ∀ (n : Nat) (i x : Int) (D : List Int), Drawn k D → D.length + n ≤ k → Drawn k (drawL k t n i x D) ∧ (drawL k t n i x D).length = D.length + n
  | 0, i, x, D, h, _ => ⟨h, rfl⟩
  | n + 1, i, x, D, h, hn => by
    have h0 : 0 ≤ ((31 * x + t + i) % 9973) % (k : Int) := Int.emod_nonneg _ (by omega)
    have h1 : ((31 * x + t + i) % 9973) % (k : Int) < k := Int.emod_lt_of_pos _ (by omega)
    obtain ⟨q1, q2⟩ := drawL_ok (t := t) hk n (i + 1) ((31 * x + t + i) % 9973) (D ++ [nf k D k (((31 * x + t + i) % 9973) % k)]) (h.push hk (by omega) h0 h1) (by simp; omega)
    exact ⟨q1, q2.trans (by simp; omega)⟩
end Go.Proofs.Ytgkjfhkjgdiodaa

namespace Go.Proofs.Ytgkjfhkjgdiodaa
open _root_.Go.Proofs.Try
open Go.Abs
set_option maxRecDepth 100000
noncomputable section
theorem ints_push (D : List Int) (n : Int) : ints D ++ [C.int .i64 n] = ints (D ++ [n]) := by simp [ints]
theorem s70 {r c s t : Int} {d : Nat} {x : C} {m : M} {Q : V → M → Prop} {k : Nat} (hk : r * c = (k : Int)) (hr : 0 ≤ r) (hc : 0 ≤ c) (hk0 : 0 < k) (hk9 : k ≤ 9) (hs : 0 ≤ s ∧ s ≤ 9999) (ht : 0 ≤ t ∧ t ≤ 9999) (hd : d ≤ 6) (hdk : d ≤ k)
    (h : ∀ y m', Ext m m' → Own1 m' 1 y (ints (drawL k t d 0 s [])) (drawL k t d 0 s []).length → Fr m y → Q (.c y) m') :
    Wc prog tbl 70 [.agg 3 [.int .i64 r, .int .i64 c, x], .agg 3 [.int .i64 s, .int .i64 t, .int .i64 (d : Int)]] m Q := by
  refine w70 fun m0 e0 m1 e1 => ?_
  obtain ⟨b0, x0⟩ := Bk.new e0
  obtain ⟨b1, x1⟩ := Bk.new e1
  have b0' := b0.ext x1
  have x01 := x0.trans x1
  refine ⟨trivial, s, b1.rc rfl, trivial, (d : Int), b1.rc rfl, fun R4 hstep => ?_⟩
  have hgo : ∀ (n i : Nat) (z : Int) (D : List Int) (c6 : C) (m8 : M), n + i = d → 0 ≤ z → z ≤ 9999 → Own1 m8 1 c6 (ints D) D.length → Fr m1 c6 → Ext m1 m8 → Drawn k D → D.length = i → drawL k t n i z D = drawL k t d 0 s [] → R4 [.c (.int .i64 z), .c c6, .c (.int .i64 (i : Int))] m8 := by
    intro n
    induction n with
    | zero =>
      intro i z D c6 m8 hni hz0 hz1 ho hf he hD hl heq
      refine hstep _ _ _ _ ?_
      rw [ifB_dec]
      refine ⟨fun h1 => by omega, fun _ => ?_⟩
      have hq := h c6 m8 (x01.trans he)
      rw [← heq] at hq
      exact hq ho (hf.mono x01.nxt)
    | succ n ih =>
      intro i z D c6 m8 hni hz0 hz1 ho hf he hD hl heq
      refine hstep _ _ _ _ ?_
      rw [ifB_dec]
      refine ⟨fun _ => ?_, fun h1 => by omega⟩
      have c0 := b0'.ext he
      have c1 := b1.ext he
      have hy0 : 0 ≤ (31 * z + t + (i : Int)) % 9973 := Int.emod_nonneg _ (by omega)
      have hy1 : (31 * z + t + (i : Int)) % 9973 < 9973 := Int.emod_lt_of_pos _ (by omega)
      refine ⟨by omega, hz0, fits_small (by omega) (by omega), trivial, t, c1.rc rfl, fits_small (by omega) (by omega), fits_small (by omega) (by omega), by omega, by omega, fits_small (by omega) (by omega), r, c, x, c0.ra, s88 hr hc (fits_small (by omega) (by omega)) fun m14 e14 => ⟨_, rfl, hy0, by omega, ?_⟩⟩
      rw [hk]
      generalize hyd : (31 * z + t + (i : Int)) % 9973 = y at hy0 hy1
      have hp0 : 0 ≤ y % (k : Int) := Int.emod_nonneg _ (by omega)
      have hp1 : y % (k : Int) < k := Int.emod_lt_of_pos _ (by omega)
      refine ⟨fits_small (by omega) (by omega), fun R16 hin => ?_⟩
      have heq2 : drawL k t n ((i : Int) + 1) y (D ++ [nf k D k (y % k)]) = drawL k t d 0 s [] := by rw [← heq, ← hyd]; rfl
      have hinner : ∀ (f : Nat) (p : Int) (m18 : M), Ext m8 m18 → 0 ≤ p → p < k → (∃ j, j < f ∧ ((p + (j : Int)) % k) ∉ D) → nf k D f p = nf k D k (y % k) → R16 [.c (.int .i64 p)] m18 := by
        intro f
        induction f with
        | zero => intro p m18 _ _ _ hj _; obtain ⟨j, hj, _⟩ := hj; omega
        | succ f ihf =>
          intro p m18 e18 p0 p1 hj hnf
          have ho18 := ho.ext e18
          have he18 := he.trans e18
          refine hin _ _ (s93 (L := D) ho18.ls (by omega) ⟨_, rfl, ?_⟩)
          rw [ifB_dec]
          refine ⟨fun hm => ?_, fun hm => ?_⟩
          · refine ⟨fits_small (by omega) (by omega), r, c, x, (c0.ext e18).ra, s88 hr hc (fits_small (by omega) (by omega)) fun m26 e26 => ⟨_, rfl, by omega, by omega, ?_⟩⟩
            rw [hk]
            obtain ⟨q1, q2⟩ := next_in (n := p) p0 hk0
            refine ⟨fits_small (by omega) (by omega), ihf _ _ (e18.trans e26) q1 q2 ?_ ?_⟩
            · obtain ⟨j, hj1, hj2⟩ := hj
              cases j with
              | zero =>
                rw [show (p + ((0 : Nat) : Int)) % (k : Int) = p from by rw [Int.emod_eq_of_lt (by omega) (by omega)]; omega] at hj2
                exact absurd hm hj2
              | succ j => exact ⟨j, by omega, by rw [mod_step]; exact hj2⟩
            · rw [← hnf]
              show _ = if p ∈ D then nf k D f ((p + 1) % k) else p
              rw [if_pos hm]
          · intro m28 h28
            have hpn : p = nf k D k (y % k) := by
              rw [← hnf]
              show _ = if p ∈ D then nf k D f ((p + 1) % k) else p
              rw [if_neg hm]
            obtain ⟨c29, m30, q1, q2, q3, q4, q5, q6⟩ := ap_step t22 g3 z3 (by omega) ho18 hf he18 (ws := [C.int .i64 p]) rfl (by omega) h28
            refine ⟨c29, m30, q1, fits_small (by omega) (by omega), ?_⟩
            rw [ints_push] at q2
            have hih := ih (i + 1) y (D ++ [p]) c29 m30 (by omega) hy0 (by omega) (by simpa using q2) q3 q4 (by rw [hpn]; exact hD.push hk0 (by omega) hp0 hp1) (by simp; omega) (by rw [hpn]; exact heq2)
            exact hih
      exact hinner k _ _ e14 hp0 hp1 (free_in (by omega) hp0 hp1) rfl
  exact hgo d 0 s [] .sl0 m1 (by omega) hs.1 hs.2 (Own1.nil' _ _) (Fr.nil _) (.refl _) ⟨List.nodup_nil, by simp⟩ rfl rfl
end
end Go.Proofs.Ytgkjfhkjgdiodaa

namespace Go.Proofs.Ytgkjfhkjgdiodaa
open _root_.Go.Proofs.Try
open Go.Abs
set_option maxRecDepth 100000
noncomputable section
def flags (D : List Int) : List C := (List.range 9).map fun j => C.bool (decide (((j : Nat) : Int) ∈ D))
theorem flags_at {D : List Int} {n : Nat} (hn : n < 9) : (flags D)[n]? = some (.bool (decide ((n : Int) ∈ D))) := by
  unfold flags
  rw [List.getElem?_map, List.getElem?_range hn]; rfl
theorem flags_len (D : List Int) : (flags D).length = 9 := by simp [flags]
theorem flags_set {D : List Int} {n : Nat} (hn : n < 9) : (flags D).set n (.bool true) = flags (D ++ [(n : Int)]) := by
  apply List.ext_getElem?
  intro i
  by_cases hi : i < 9
  · rw [flags_at hi, List.getElem?_set]
    by_cases hin : n = i
    · subst hin
      rw [if_pos rfl, if_pos (by rw [flags_len]; exact hn), decide_eq_true (by simp)]
    · rw [if_neg hin, flags_at hi]
      congr 2
      have : ((i : Int) ∈ D ++ [(n : Int)]) ↔ (i : Int) ∈ D := by
        rw [List.mem_append]
        exact ⟨fun h => h.elim id fun h => absurd (by simpa using h) (by omega : ¬ (i : Int) = n), .inl⟩
      simp only [this]
  · rw [List.getElem?_eq_none (by rw [List.length_set, flags_len]; omega), List.getElem?_eq_none (by rw [flags_len]; omega)]
theorem s30 {r c s t : Int} {d : Nat} {x : C} {L : List Int} {m : M} {Q : V → M → Prop} (hx : Li m x L) (hk0 : 0 < L.length) (hk9 : L.length ≤ 9) (hs : 0 ≤ s ∧ s ≤ 9999) (ht : 0 ≤ t ∧ t ≤ 9999) (hd : d ≤ 6) (hdk : d ≤ L.length)
    (h : ∀ y m', Ext m m' → Own1 m' 1 y (ints (drawL L.length t d 0 s [])) (drawL L.length t d 0 s []).length → Fr m y → Q (.c y) m') :
    Wc prog tbl 30 [.agg 3 [.int .i64 r, .int .i64 c, x], .agg 3 [.int .i64 s, .int .i64 t, .int .i64 (d : Int)]] m Q := by
  refine w30 fun m0 e0 m1 e1 m2 e2 => ?_
  obtain ⟨b0, x0⟩ := Bk.new e0
  obtain ⟨b1, x1⟩ := Bk.new e1
  obtain ⟨b2, x2⟩ := Bk.new e2
  have x02 := (x0.trans x1).trans x2
  have n0 : m.nxt < m1.nxt := by have := b0.lt; have := b1.lt; omega
  have n1 : m0.nxt < m1.nxt := b1.lt
  have n2 : m1.nxt < m2.nxt := b2.lt
  generalize hkd : L.length = k at hk0 hk9 hdk h
  refine ⟨trivial, s, (b1.ext x2).rc rfl, fun R4 hstep => ?_⟩
  have hgo : ∀ (n i : Nat) (z : Int) (D : List Int) (c6 : C) (m8 : M), n + i = d → 0 ≤ z → z ≤ 9999 → Own1 m8 1 c6 (ints D) D.length → Fr m2 c6 → Ext m m8 → m2.nxt ≤ m8.nxt → Bk m8 m.nxt 3 [.int .i64 r, .int .i64 c, x] → Bk m8 m0.nxt 3 [.int .i64 s, .int .i64 t, .int .i64 (d : Int)] → Bk m8 m1.nxt 9 (flags D) →
      Drawn k D → D.length = i → drawL k t n i z D = drawL k t d 0 s [] → R4 [.c (.int .i64 z), .c c6, .c (.int .i64 (i : Int))] m8 := by
    intro n
    induction n with
    | zero =>
      intro i z D c6 m8 hni hz0 hz1 ho hf he hn8 c0 c1 c2 hD hl heq
      refine hstep _ _ _ _ ⟨trivial, (d : Int), c1.rc rfl, ?_⟩
      rw [ifB_dec]
      refine ⟨fun h1 => by omega, fun _ => ?_⟩
      have hq := h c6 m8 he
      rw [← heq] at hq
      exact hq ho (hf.mono x02.nxt)
    | succ n ih =>
      intro i z D c6 m8 hni hz0 hz1 ho hf he hn8 c0 c1 c2 hD hl heq
      refine hstep _ _ _ _ ⟨trivial, (d : Int), c1.rc rfl, ?_⟩
      rw [ifB_dec]
      refine ⟨fun _ => ?_, fun h1 => by omega⟩
      have hy0 : 0 ≤ (31 * z + t + (i : Int)) % 9973 := Int.emod_nonneg _ (by omega)
      have hy1 : (31 * z + t + (i : Int)) % 9973 < 9973 := Int.emod_lt_of_pos _ (by omega)
      refine ⟨by omega, hz0, fits_small (by omega) (by omega), trivial, t, c1.rc rfl, fits_small (by omega) (by omega), fits_small (by omega) (by omega), by omega, by omega, fits_small (by omega) (by omega), trivial, x, c0.rc rfl, hx.isSl, hy0, by rw [hx.slLen]; omega, ?_⟩
      rw [hx.slLen, hkd]
      generalize hyd : (31 * z + t + (i : Int)) % 9973 = y at hy0 hy1
      have hp0 : 0 ≤ y % (k : Int) := Int.emod_nonneg _ (by omega)
      have hp1 : y % (k : Int) < k := Int.emod_lt_of_pos _ (by omega)
      refine ⟨fits_small (by omega) (by omega), fun R12 hin => ?_⟩
      have heq2 : drawL k t n ((i : Int) + 1) y (D ++ [nf k D k (y % k)]) = drawL k t d 0 s [] := by rw [← heq, ← hyd]; rfl
      have hinner : ∀ (f : Nat) (p q : Int), 0 ≤ p → p < k → (∃ j, j < f ∧ ((p + (j : Int)) % k) ∉ D) → nf k D f p = nf k D k (y % k) → R12 [.c (.int .i64 p), .c (.int .i64 q)] m8 := by
        intro f
        induction f with
        | zero => intro p q _ _ hj _; obtain ⟨j, hj, _⟩ := hj; omega
        | succ f ihf =>
          intro p q p0 p1 hj hnf
          obtain ⟨pn, rfl⟩ : ∃ pn : Nat, p = (pn : Int) := ⟨p.toNat, by omega⟩
          have hpn9 : pn < 9 := by omega
          refine hin _ _ _ ⟨trivial, pn, rfl, hpn9, _, c2.rc (by rw [show 0 + pn * 1 = pn by omega]; exact flags_at hpn9), ?_⟩
          rw [ifB_dec]
          refine ⟨fun hm => ⟨fits_small (by omega) (by omega), trivial, x, c0.rc rfl, hx.isSl, ?_⟩, fun hm => ⟨trivial, pn, rfl, hpn9, ?_⟩⟩
          · rw [hx.slLen, hkd, ifB_dec]
            have hnext : ∀ q', ((pn : Int) + 1) % (k : Int) = q' → R12 [.c (.int .i64 q'), .c (.int .i64 q')] m8 := fun q' hq' => by
              obtain ⟨q1, q2⟩ := next_in (n := (pn : Int)) p0 hk0
              rw [hq'] at q1 q2
              refine ihf _ _ q1 q2 ?_ ?_
              · obtain ⟨j, hj1, hj2⟩ := hj
                cases j with
                | zero =>
                  rw [show ((pn : Int) + ((0 : Nat) : Int)) % (k : Int) = pn from by rw [Int.emod_eq_of_lt (by omega) (by omega)]; omega] at hj2
                  exact absurd hm hj2
                | succ j => exact ⟨j, by omega, by rw [← hq', mod_step]; exact hj2⟩
              · rw [← hnf, ← hq']
                show _ = if (pn : Int) ∈ D then nf k D f (((pn : Int) + 1) % k) else (pn : Int)
                rw [if_pos hm]
            refine ⟨fun h1 => hnext 0 (by rw [h1]; exact Int.emod_self), fun h1 => hnext _ (Int.emod_eq_of_lt (by omega) (by omega))⟩
          · have hpn : (pn : Int) = nf k D k (y % k) := by
              rw [← hnf]
              show _ = if (pn : Int) ∈ D then nf k D f (((pn : Int) + 1) % k) else (pn : Int)
              rw [if_neg hm]
            have hst := stC_at c2.g (k := pn) (.bool true) (by rw [flags_len]; exact hpn9) (flags_len D) (by omega)
            rw [show 0 + pn * 1 = pn by omega]
            refine ⟨_, hst, fun m21 h21 => ?_⟩
            rw [flags_set hpn9] at h21
            have ne6 : ∀ b o n s d, c6 = .sl b o n s d → b ≠ m1.nxt := fun b o n s d hb => by have := hf b o n s d hb; omega
            have ho20 : Own1 (m8.set m1.nxt (.cells 9 (flags (D ++ [(pn : Int)])) false)) 1 c6 (ints D) D.length := ho.to (Nat.le_refl _) fun b _ hb => by
              obtain ⟨s', d', hb⟩ := hb
              rw [M.g_set, if_neg (ne6 _ _ _ _ _ hb)]
            have k0 := c0.setNe (c := m1.nxt) (by omega) (.cells 9 (flags (D ++ [(pn : Int)])) false)
            have k1 := c1.setNe (c := m1.nxt) (by omega) (.cells 9 (flags (D ++ [(pn : Int)])) false)
            have k2 := c2.set (flags (D ++ [(pn : Int)]))
            have ex20 : Ext m (m8.set m1.nxt (.cells 9 (flags (D ++ [(pn : Int)])) false)) := he.setR (by omega) _
            have nx20 : m2.nxt ≤ (m8.set m1.nxt (.cells 9 (flags (D ++ [(pn : Int)])) false)).nxt := hn8
            rw [flags_set hpn9]
            generalize m8.set m1.nxt (.cells 9 (flags (D ++ [(pn : Int)])) false) = m20 at ho20 k0 k1 k2 ex20 nx20 h21 ⊢
            obtain ⟨c29, m30, q1, q2, q3, q4, q5, q6⟩ := ap_one t22 g3 z3 (by omega) ho20 (ws := [C.int .i64 (pn : Int)]) rfl (by omega) h21
            refine ⟨c29, m30, q1, fits_small (by omega) (by omega), ?_⟩
            rw [ints_push] at q2
            have hfm : ∀ {b : Nat}, b < m2.nxt → ∀ b' o n' s' d, c6 = .sl b' o n' s' d → b' ≠ b := fun hb b' o n' s' d hx => by have := hf b' o n' s' d hx; omega
            exact ih (i + 1) y (D ++ [(pn : Int)]) c29 m30 (by omega) hy0 (by omega) (by simpa using q2) (q3.mono nx20) (ex20.keep (hf.mono x02.nxt) q4 q5 q6) (by omega)
              (k0.keep q4 q6 (hfm (by omega))) (k1.keep q4 q6 (hfm (by omega))) (k2.keep q4 q6 (hfm n2)) (by rw [hpn]; exact hD.push hk0 (by omega) hp0 hp1) (by simp; omega) (by rw [hpn]; exact heq2)
      exact hinner k _ _ hp0 hp1 (free_in (by omega) hp0 hp1) rfl
  exact hgo d 0 s [] .sl0 m2 (by omega) hs.1 hs.2 (Own1.nil' _ _) (Fr.nil _) x02 (Nat.le_refl _) ((b0.ext x1).ext x2) (b1.ext x2) b2 ⟨List.nodup_nil, by simp⟩ rfl rfl
end
end Go.Proofs.Ytgkjfhkjgdiodaa

namespace Go.Proofs.Ytgkjfhkjgdiodaa
open _root_.Go.Proofs.Try
open Go.Abs
set_option maxRecDepth 100000
noncomputable section
structure Cnt where
  p : Int
  lo : Int
  hi : Int
  late : Bool
def Cnt.cs (c : Cnt) : List C := [.int .i64 c.p, .int .i64 c.lo, .int .i64 c.hi, .bool c.late]
def cnts (L : List Cnt) : List C := L.flatMap Cnt.cs
theorem cnts_len (L : List Cnt) : (cnts L).length = L.length * 4 := by
  induction L with
  | nil => rfl
  | cons c L ih => show (c.cs ++ cnts L).length = _; rw [List.length_append, ih]; show 4 + _ = _; simp; omega
theorem cnts_drop {L : List Cnt} : ∀ {i : Nat} {c : Cnt}, L[i]? = some c → ∃ r, (cnts L).drop (i * 4) = c.cs ++ r := by
  induction L with
  | nil => intro i c h; simp at h
  | cons a L ih =>
    intro i c h
    cases i with
    | zero => simp at h; subst h; exact ⟨cnts L, rfl⟩
    | succ i =>
      obtain ⟨r, hr⟩ := ih (i := i) (c := c) (by simpa using h)
      refine ⟨r, ?_⟩
      show (a.cs ++ cnts L).drop ((i + 1) * 4) = _
      rw [← hr, show (i + 1) * 4 = a.cs.length + i * 4 by show _ = 4 + i * 4; omega, List.drop_append, List.drop_eq_nil_of_le (by omega), Nat.add_sub_cancel_left, List.nil_append]
theorem cnts_at {L : List Cnt} {i j : Nat} {c : Cnt} {x : C} (h : L[i]? = some c) (hx : c.cs[j]? = some x) : (cnts L)[i * 4 + j]? = some x := by
  obtain ⟨r, hr⟩ := cnts_drop h
  rw [← List.getElem?_drop, hr, List.getElem?_append_left (List.getElem?_eq_some_iff.1 hx).1]
  exact hx
theorem cnts_all {L : List Cnt} {i : Nat} {c : Cnt} (h : L[i]? = some c) : ((cnts L).drop (i * 4)).take 4 = c.cs := by
  obtain ⟨r, hr⟩ := cnts_drop h
  rw [hr]; rfl
theorem cnts_mid {L : List Cnt} {i : Nat} {c : Cnt} (h : L[i]? = some c) : ((cnts L).drop (i * 4 + 1)).take 2 = [.int .i64 c.lo, .int .i64 c.hi] := by
  obtain ⟨r, hr⟩ := cnts_drop h
  rw [← List.drop_drop, hr]; rfl
theorem cnts_room {L : List Cnt} {i : Nat} (h : i < L.length) {j : Nat} (hj : j ≤ 4) : i * 4 + j ≤ (cnts L).length := by rw [cnts_len]; omega
theorem cnts_app (L : List Cnt) (c : Cnt) : cnts L ++ c.cs = cnts (L ++ [c]) := by simp [cnts]
abbrev Lc (m : M) (x : C) (L : List Cnt) : Prop := Ls m 4 x (cnts L) L.length
theorem t40 : tk prog 40 = .sl 84 := by kernel_rfl
theorem g84 : growOk prog 84 = true := by kernel_rfl
theorem z84 : prog.cellsOf 84 = 4 := by kernel_rfl
theorem s25 {x : C} {L : List Cnt} {m : M} {Q : V → M → Prop} (hx : Lc m x L) (hL : L.length ≤ 1000000) (h : ∀ y m', Ext m m' → Lc m' y L → Fr m y → Q (.c y) m') : Wc prog tbl 25 [.c x] m Q := by
  refine w25 fun R0 hstep => ?_
  have hgo : ∀ (d i : Nat) (c1 : C) (m3 : M), d + i = L.length → Own1 m3 4 c1 (cnts (L.take i)) i → Fr m c1 → Ext m m3 → R0 [.c c1, .c (.int .i64 (i : Int))] m3 := by
    intro d
    induction d with
    | zero =>
      intro i c1 m3 hd ho hf he
      refine hstep _ _ _ ⟨hx.isSl, ?_⟩
      rw [hx.slLen, ifB_dec]
      refine ⟨fun h1 => by omega, fun _ => h c1 m3 he ?_ hf⟩
      have hi : i = L.length := by omega
      subst hi
      have := ho.ls
      rw [List.take_of_length_le (Nat.le_refl _)] at this
      exact this
    | succ d ih =>
      intro i c1 m3 hd ho hf he
      refine hstep _ _ _ ⟨hx.isSl, ?_⟩
      rw [hx.slLen, ifB_dec]
      refine ⟨fun _ => ?_, fun h1 => by omega⟩
      have hi : i < L.length := by omega
      have hx3 := hx.ext he
      have h0 : L.length ≠ 0 := by omega
      have hc := List.getElem?_eq_getElem hi
      refine ⟨i, rfl, hi, hx3.isPt h0 _, L[i].p, ?_, i, rfl, hi, hx3.isPt h0 _, L[i].lo, L[i].hi, ?_, s45 fun m10 e10 => ?_⟩
      · rw [hx3.add h0]; exact Ls.rd hx3 (cnts_at hc rfl)
      · rw [hx3.add h0, Ls.rds hx3 (by omega) (by have := cnts_room hi (j := 3) (by omega); omega), cnts_mid hc]
      · have hx10 := hx3.ext e10
        refine ⟨L[i].lo, L[i].hi, rfl, ?_, i, rfl, hi, hx3.isPt h0 _, L[i].late, ?_, ?_, fun m15 h15 => ?_⟩
        · rw [hx10.add h0]; exact Ls.rd hx10 (cnts_at hc rfl)
        · rw [hx10.add h0]; exact Ls.rd hx10 (cnts_at hc rfl)
        · rw [hx3.add h0]; exact Ls.rd hx3 (cnts_at hc rfl)
        · obtain ⟨c, m17, q1, q2, q3, q4, q5, q6⟩ := ap_one t40 g84 z84 (by omega) (ho.ext e10) (ws := L[i].cs) rfl (by omega) h15
          refine ⟨c, m17, q1, by simp only [fitsP]; omega, ?_⟩
          have he10 := he.trans e10
          refine ih (i + 1) c m17 (by omega) ?_ (q3.mono he10.nxt) (he10.keep hf q4 q5 q6)
          rw [cnts_app] at q2
          rw [List.take_add_one, hc]
          exact q2
  exact hgo L.length 0 .sl0 m (by omega) (Own1.nil' _ _) (Fr.nil _) (.refl _)
theorem k3 : plainK prog 3 = some [CK.int .i64] := by kernel_rfl
theorem a3 : isAggT prog 3 = false := by kernel_rfl
theorem fits_of {n : Int} (h : fitsP .i64 n) : Go.Abs.fits .i64 n = true := by
  have h1 : -9223372036854775808 ≤ n ∧ n < 9223372036854775808 := h
  cases n with
  | ofNat a =>
    show ltN a 9223372036854775808 = true
    exact Nat.ble_eq_true_of_le (show a + 1 ≤ 9223372036854775808 by have := h1.2; simp at this; omega)
  | negSucc a =>
    show ltN a 9223372036854775808 = true
    exact Nat.ble_eq_true_of_le (show a + 1 ≤ 9223372036854775808 by have := h1.1; omega)
theorem eq3 {a b : Int} (ha : fitsP .i64 a) (hb : fitsP .i64 b) : eqV prog 3 (.c (.int .i64 a)) (.c (.int .i64 b)) = some (decide (a = b)) := by
  unfold eqV shaped
  rw [k3, optB_some, a3]
  show optB (ifB (kindEq .i64 .i64) (ifB (kindEq .i64 .i64) (ifB (Go.Abs.fits .i64 a) (ifB (Go.Abs.fits .i64 b) (some (intEq a b)) none) none) none) none) none (fun b' => optB (some true) none fun r => some (ifB b' r false)) = _
  rw [fits_of ha, fits_of hb]
  show some (ifB (intEq a b) true false) = _
  have : intEq a b = decide (a = b) := by
    cases a <;> cases b
    · rename_i x y
      show Nat.beq x y = _
      cases hq : Nat.beq x y with
      | true => rw [Nat.eq_of_beq_eq_true hq]; simp
      | false =>
        have : x ≠ y := fun h => by rw [h, Nat.beq_refl] at hq; cases hq
        rw [decide_eq_false fun h => this (Int.ofNat.inj h)]
    · exact (decide_eq_false (by simp)).symm
    · exact (decide_eq_false (by simp)).symm
    · rename_i x y
      show Nat.beq x y = _
      cases hq : Nat.beq x y with
      | true => rw [Nat.eq_of_beq_eq_true hq]; simp
      | false =>
        have : x ≠ y := fun h => by rw [h, Nat.beq_refl] at hq; cases hq
        rw [decide_eq_false (by simpa using this)]
  rw [this]
  cases decide (a = b) <;> rfl
structure Keys (es : List E) (S : List Int) : Prop where
  sub : ∀ e ∈ es, ∃ v, e.k = .c (.int .i64 v) ∧ e.v = .c (.bool true) ∧ fitsP .i64 v ∧ v ∈ S
  all : ∀ v ∈ S, ∃ e ∈ es, e.k = .c (.int .i64 v)
theorem find_key {a : Int} (ha : fitsP .i64 a) : ∀ {es : List E} (i : Nat), (∀ e ∈ es, ∃ v, e.k = .c (.int .i64 v) ∧ e.v = .c (.bool true) ∧ fitsP .i64 v) →
    (findE prog 3 (.c (.int .i64 a)) es i = some none ∧ ∀ e ∈ es, e.k ≠ .c (.int .i64 a)) ∨ ∃ j e, es[j]? = some e ∧ e.k = .c (.int .i64 a) ∧ findE prog 3 (.c (.int .i64 a)) es i = some (some (i + j, .c (.bool true)))
  | [], i, _ => .inl ⟨rfl, by simp⟩
  | e :: es, i, h => by
    obtain ⟨v, h1, h2, h3⟩ := h e (List.mem_cons_self ..)
    have h4 : findE prog 3 (.c (.int .i64 a)) (e :: es) i = ifB (decide (a = v)) (some (some (i, e.v))) (findE prog 3 (.c (.int .i64 a)) es (i + 1)) := by
      show optB (eqV prog 3 (.c (.int .i64 a)) (uV e.k)) none _ = _
      rw [h1]
      show optB (eqV prog 3 (.c (.int .i64 a)) (.c (.int .i64 v))) none _ = _
      rw [eq3 ha h3]; rfl
    by_cases hav : a = v
    · subst hav
      rw [decide_eq_true rfl] at h4
      exact .inr ⟨0, e, rfl, h1, by rw [h4, h2]; rfl⟩
    · rw [decide_eq_false hav] at h4
      rcases find_key ha (i + 1) (fun e' he' => h e' (List.mem_cons_of_mem _ he')) with ⟨q1, q2⟩ | ⟨j, e', q1, q2, q3⟩
      · refine .inl ⟨by rw [h4]; exact q1, fun e' he' => ?_⟩
        rcases List.mem_cons.1 he' with rfl | he'
        · rw [h1]; intro h; injection h with h; injection h with _ h; exact hav h.symm
        · exact q2 e' he'
      · exact .inr ⟨j + 1, e', by simpa using q1, q2, by rw [h4]; show findE _ _ _ _ _ = _; rw [q3, show i + 1 + j = i + (j + 1) by omega]⟩
theorem setEntry_eq {k v : U} : ∀ {es : List E} {j : Nat} {e : E}, es[j]? = some e → setEntry k v es j = es.set j { k := k, v := v, born := e.born }
  | [], j, e, h => by simp at h
  | x :: es, 0, e, h => by simp at h; subst h; rfl
  | x :: es, j + 1, e, h => by
    show consS x (setEntry k v es j) = _
    rw [setEntry_eq (e := e) (by simpa using h), consS_eq]; rfl
/-- a map that holds just these numbers, with true -/
def MapIs (m : M) (b : Nat) (S : List Int) : Prop := b < m.nxt ∧ ∃ es clock, m.g b = some (.map es clock) ∧ Keys es S
theorem MapIs.keep {m m' : M} {b : Nat} {S : List Int} (h : MapIs m b S) (hn : m.nxt ≤ m'.nxt) (hg : m'.g b = m.g b) : MapIs m' b S := by
  obtain ⟨h1, es, clock, h2, h3⟩ := h
  exact ⟨by omega, es, clock, by rw [hg]; exact h2, h3⟩
theorem MapIs.lk {m : M} {b : Nat} {S : List Int} (h : MapIs m b S) {a : Int} (ha : fitsP .i64 a) : lkM prog 3 m (.map b) (.c (.int .i64 a)) = some (if a ∈ S then some (.c (.bool true)) else none) := by
  obtain ⟨_, es, clock, h2, h3⟩ := h
  unfold lkM
  rw [k3, optB_some, eq3 ha ha, optB_some]
  show (match m.g b with | some (.map es _) => optB (findE prog 3 (.c (.int .i64 a)) es 0) none fun f => some (optB f none fun q => some q.2) | _ => none) = _
  rw [h2]
  show optB (findE prog 3 (.c (.int .i64 a)) es 0) none _ = _
  rcases find_key ha 0 (fun e he => let ⟨v, q1, q2, q3, _⟩ := h3.sub e he; ⟨v, q1, q2, q3⟩) with ⟨q1, q2⟩ | ⟨j, e, q1, q2, q3⟩
  · have : a ∉ S := fun hm => by
      obtain ⟨e, he, hk⟩ := h3.all a hm
      exact q2 e he hk
    rw [q1, if_neg this]; rfl
  · have : a ∈ S := by
      obtain ⟨v, r1, _, _, r4⟩ := h3.sub e (List.mem_of_getElem? q1)
      rw [q2] at r1
      injection r1 with r1; injection r1 with _ r1
      rw [r1]; exact r4
    rw [q3, if_pos this]; rfl
theorem MapIs.up {m : M} {b : Nat} {S : List Int} (h : MapIs m b S) {a : Int} (ha : fitsP .i64 a) : ∃ o, upM prog 3 m (.map b) (.c (.int .i64 a)) (.c (.bool true)) = some (m.set b o) ∧ MapIs (m.set b o) b (S ++ [a]) := by
  obtain ⟨hb, es, clock, h2, h3⟩ := h
  have hu : upM prog 3 m (.map b) (.c (.int .i64 a)) (.c (.bool true)) = optB (findE prog 3 (.c (.int .i64 a)) es 0) none fun f =>
      some (optB f (m.set b (.map (appS es [{ k := .c (.int .i64 a), v := .c (.bool true), born := clock }]) (Nat.succ clock))) fun q => m.set b (.map (setEntry (.c (.int .i64 a)) (.c (.bool true)) es q.1) clock)) := by
    unfold upM
    rw [k3, optB_some]
    show (match m.g b with
      | some (.map es clock) => optB (vU (.c (.int .i64 a))) none fun ku => optB (vU (.c (.bool true))) none fun yu => optB (eqV prog 3 (.c (.int .i64 a)) (.c (.int .i64 a))) none fun _ => optB (findE prog 3 (.c (.int .i64 a)) es 0) none fun f =>
        some (optB f (m.set b (.map (appS es [{ k := ku, v := yu, born := clock }]) (Nat.succ clock))) fun q => m.set b (.map (setEntry ku yu es q.1) clock))
      | _ => none) = _
    rw [h2]
    show optB (eqV prog 3 (.c (.int .i64 a)) (.c (.int .i64 a))) none _ = _
    rw [eq3 ha ha]; rfl
  rcases find_key ha 0 (fun e he => let ⟨v, q1, q2, q3, _⟩ := h3.sub e he; ⟨v, q1, q2, q3⟩) with ⟨q1, q2⟩ | ⟨j, e, q1, q2, q3⟩
  · rw [q1] at hu
    refine ⟨_, hu, hb, _, _, by rw [M.g_set, if_pos rfl], fun e he => ?_, fun v hv => ?_⟩
    · rw [appS_eq] at he
      rcases List.mem_append.1 he with he | he
      · obtain ⟨v, r1, r2, r3, r4⟩ := h3.sub e he
        exact ⟨v, r1, r2, r3, List.mem_append_left _ r4⟩
      · have : e = _ := List.mem_singleton.1 he
        subst this
        exact ⟨a, rfl, rfl, ha, by simp⟩
    · rw [appS_eq]
      rcases List.mem_append.1 hv with hv | hv
      · obtain ⟨e, he, hk⟩ := h3.all v hv
        exact ⟨e, List.mem_append_left _ he, hk⟩
      · have : v = a := List.mem_singleton.1 hv
        subst this
        exact ⟨_, List.mem_append_right _ (List.mem_singleton.2 rfl), rfl⟩
  · rw [q3] at hu
    refine ⟨_, hu, hb, _, _, by rw [M.g_set, if_pos rfl], fun e' he => ?_, fun v hv => ?_⟩
    · have he : e' ∈ setEntry (.c (.int .i64 a)) (.c (.bool true)) es (0 + j) := he
      rw [Nat.zero_add, setEntry_eq q1] at he
      rcases List.mem_or_eq_of_mem_set he with he | rfl
      · obtain ⟨v, r1, r2, r3, r4⟩ := h3.sub e' he
        exact ⟨v, r1, r2, r3, List.mem_append_left _ r4⟩
      · exact ⟨a, rfl, rfl, ha, by simp⟩
    · show ∃ e' ∈ setEntry (.c (.int .i64 a)) (.c (.bool true)) es (0 + j), _
      rw [Nat.zero_add, setEntry_eq q1]
      have hj := (List.getElem?_eq_some_iff.1 q1).1
      have hnew : v = a → ∃ e' ∈ es.set j { k := .c (.int .i64 a), v := .c (.bool true), born := e.born }, e'.k = .c (.int .i64 v) := fun hva => ⟨_, List.mem_of_getElem? (i := j) (by rw [List.getElem?_set, if_pos rfl, if_pos hj]), by rw [hva]⟩
      rcases List.mem_append.1 hv with hv | hv
      · obtain ⟨e', he, hk⟩ := h3.all v hv
        obtain ⟨i, hi⟩ := List.mem_iff_getElem?.1 he
        by_cases hij : j = i
        · subst hij
          rw [q1] at hi; cases hi
          rw [q2] at hk
          injection hk with hk; injection hk with _ hk
          exact hnew hk.symm
        · exact ⟨e', List.mem_of_getElem? (i := i) (by rw [List.getElem?_set, if_neg hij]; exact hi), hk⟩
      · exact hnew (List.mem_singleton.1 hv)
end
end Go.Proofs.Ytgkjfhkjgdiodaa

namespace Go.Proofs.Ytgkjfhkjgdiodaa
open _root_.Go.Proofs.Try
open Go.Abs
set_option maxRecDepth 100000
noncomputable section
/-- the counts that are foreign -/
def forL (D : List Int) : List Cnt → Int → List Int → List Int
  | [], _, _ => []
  | c :: L, i, B => if c.p ∈ B ∨ c.p ∉ D then i :: forL D L (i + 1) (B ++ [c.p]) else forL D L (i + 1) (B ++ [c.p])
def ps (L : List Cnt) : List Int := L.map Cnt.p
theorem ps_take {L : List Cnt} {i : Nat} (h : i < L.length) : ps (L.take (i + 1)) = ps (L.take i) ++ [L[i].p] := by
  unfold ps
  rw [List.take_add_one, List.getElem?_eq_getElem h, List.map_append]; rfl
theorem forL_step {D : List Int} {L : List Cnt} {i : Nat} (h : i < L.length) : forL D (L.drop i) (i : Int) (ps (L.take i)) =
    (if L[i].p ∈ ps (L.take i) ∨ L[i].p ∉ D then [(i : Int)] else []) ++ forL D (L.drop (i + 1)) ((i + 1 : Nat) : Int) (ps (L.take (i + 1))) := by
  rw [List.drop_eq_getElem_cons h]
  rw [ps_take h]
  show (if _ then _ else _) = _
  split <;> simp
theorem forL_len {D : List Int} : ∀ (L : List Cnt) (i : Int) (B : List Int), (forL D L i B).length ≤ L.length
  | [], _, _ => by simp [forL]
  | c :: L, i, B => by
    have := forL_len (D := D) L (i + 1) (B ++ [c.p])
    unfold forL
    split <;> (simp; omega)
theorem ps_len (L : List Cnt) : (ps L).length = L.length := by simp [ps]
/-- the places of counts are numbers that fit -/
def PsFit (L : List Cnt) : Prop := ∀ c ∈ L, fitsP .i64 c.p
theorem s71 {x y : C} {D : List Int} {L : List Cnt} {m : M} {Q : V → M → Prop} (hx : Li m x D) (hD : D.length ≤ 1000) (hy : Lc m y L) (hL : L.length ≤ 1000) (hf : PsFit L) (h : ∀ z m', Ext m m' → Own1 m' 1 z (ints (forL D L 0 [])) (forL D L 0 []).length → Fr m z → Q (.c z) m') : Wc prog tbl 71 [.c x, .c y] m Q := by
  refine w71 fun m0 e0 => ?_
  have x0 : Ext m m0 := by rw [e0]; exact .new m _
  have n0 : m0.nxt = m.nxt + 1 := by rw [e0]; rfl
  have hm0 : MapIs m0 m.nxt [] := ⟨by omega, [], 0, by rw [e0, M.g_new, if_pos rfl], ⟨by simp, by simp⟩⟩
  refine ⟨hy.isSl, fun R1 hstep => ?_⟩
  have hgo : ∀ (d i : Nat) (A : List Int) (c2 : C) (m4 : M), d + i = L.length → A.length ≤ i → Own1 m4 1 c2 (ints A) A.length → Fr m0 c2 → Ext m m4 → m0.nxt ≤ m4.nxt → MapIs m4 m.nxt (ps (L.take i)) → A ++ forL D (L.drop i) (i : Int) (ps (L.take i)) = forL D L 0 [] → R1 [.c c2, .c (.int .i64 (i : Int))] m4 := by
    intro d
    induction d with
    | zero =>
      intro i A c2 m4 hd hA ho hfr he hn hm heq
      refine hstep _ _ _ ?_
      rw [hy.slLen, ifB_dec]
      refine ⟨fun h1 => by omega, fun _ => ?_⟩
      have hi : L.drop i = [] := List.drop_eq_nil_of_le (by omega)
      rw [hi] at heq
      have heq' : A = forL D L 0 [] := by rw [← heq]; show A = A ++ []; simp
      have hq := h c2 m4 he
      rw [← heq'] at hq
      exact hq ho (hfr.mono x0.nxt)
    | succ d ih =>
      intro i A c2 m4 hd hA ho hfr he hn hm heq
      refine hstep _ _ _ ?_
      rw [hy.slLen, ifB_dec]
      refine ⟨fun _ => ?_, fun h1 => by omega⟩
      have hi : i < L.length := by omega
      have hc := List.getElem?_eq_getElem hi
      have hpf := hf _ (List.getElem_mem hi)
      have hy4 := hy.ext he
      rw [forL_step hi] at heq
      refine ⟨i, rfl, hi, L[i].p, L[i].lo, L[i].hi, L[i].late, ?_, fun m10 h10 => ?_⟩
      · rw [Ls.rds hy4 (by omega) (cnts_room hi (by omega)), cnts_all hc]; rfl
      · obtain ⟨b10, x10⟩ := Bk.new h10
        have k11 := b10.set [.int .i64 L[i].p, .int .i64 L[i].lo, .int .i64 L[i].hi, .bool L[i].late]
        have hml : m.nxt < m4.nxt := hm.1
        have x11 : Ext m (m10.set m4.nxt (.cells 4 [.int .i64 L[i].p, .int .i64 L[i].lo, .int .i64 L[i].hi, .bool L[i].late] false)) := (he.trans x10).setR he.nxt _
        have y11 : Ext m4 (m10.set m4.nxt (.cells 4 [.int .i64 L[i].p, .int .i64 L[i].lo, .int .i64 L[i].hi, .bool L[i].late] false)) := x10.setR (Nat.le_refl _) _
        refine ⟨_, b10.st _, ?_⟩
        generalize m10.set m4.nxt (.cells 4 [.int .i64 L[i].p, .int .i64 L[i].lo, .int .i64 L[i].hi, .bool L[i].late] false) = m11 at k11 x11 y11
        have hm11 : MapIs m11 m.nxt (ps (L.take i)) := hm.keep y11.nxt (y11.g _ hml)
        have ho11 := ho.ext y11
        have hps : ps (L.take i) ++ [L[i].p] = ps (L.take (i + 1)) := (ps_take hi).symm
        refine ⟨trivial, L[i].p, k11.rc rfl, _, hm11.lk hpf, ?_⟩
        -- a number is listed
        have happ : (L[i].p ∈ ps (L.take i) ∨ L[i].p ∉ D) → ∀ m18 : M, m18 = m11.new (.cells 1 [.int .i64 (i : Int)] false) → ∃ c19 m20, ApR prog 22 m18 c2 (.sl m11.nxt 0 1 0 (some 1)) c19 m20 ∧ isPt (.ptr m4.nxt 0) ∧ ∃ x21 : Int, ldC m20 (.ptr m4.nxt 0) = some (.int .i64 x21) ∧
            ∃ m22, upM prog 3 m20 (.map m.nxt) (.c (.int .i64 x21)) (.c (.bool true)) = some m22 ∧ fitsP .i64 ((i : Int) + 1) ∧ R1 [.c c19, .c (.int .i64 ((i : Int) + 1))] m22 := fun hor m18 h18 => by
          rw [if_pos hor] at heq
          obtain ⟨c19, m20, q1, q2, q3, q4, q5, q6⟩ := ap_one t22 g3 z3 (by omega) ho11 (ws := [C.int .i64 (i : Int)]) rfl (by omega) h18
          rw [ints_push] at q2
          have hm4 : m4.nxt < m11.nxt := k11.lt
          have kp : ∀ {b : Nat}, b < m0.nxt → b < m11.nxt → m20.g b = m11.g b := fun h1 h2 => q6 _ h2 (hfr.ne h1)
          have ne4 : slB c2 ≠ some m4.nxt := fun hsb => by
            cases ho.own with
            | nil => cases hsb
            | grown b' hg hb' => have h2 : some b' = some m4.nxt := hsb; cases h2; omega
            | lit b' hg hb' => cases hsb
          have hk20 : m20.g m4.nxt = m11.g m4.nxt := q6 _ hm4 ne4
          have hm20 : MapIs m20 m.nxt (ps (L.take i)) := hm11.keep q4 (kp (by omega) (by have := hm11.1; omega))
          obtain ⟨o, u1, u2⟩ := hm20.up hpf
          rw [hps] at u2
          refine ⟨c19, m20, q1, trivial, L[i].p, ldC_of (hk20.trans k11.g) rfl, _, u1, by simp only [fitsP]; omega, ?_⟩
          have x20 : Ext m m20 := x11.keep (hfr.mono x0.nxt) q4 q5 q6
          have f19 : Fr m0 c19 := q3.mono (Nat.le_trans hn y11.nxt)
          refine ih (i + 1) (A ++ [(i : Int)]) c19 _ (by omega) (by simp; omega) ?_ f19 (x20.setR (Nat.le_refl _) _) (Nat.le_trans (Nat.le_trans hn y11.nxt) q4) u2 (by rw [← heq]; simp)
          have := q2.to (m' := m20.set m.nxt o) (Nat.le_refl _) (fun b _ hb => by
            obtain ⟨s', d', hb⟩ := hb
            have := f19 _ _ _ _ _ hb
            rw [M.g_set, if_neg (by omega)])
          simpa using this
        have hskip : ¬ (L[i].p ∈ ps (L.take i) ∨ L[i].p ∉ D) → isPt (.ptr m4.nxt 0) ∧ ∃ x23 : Int, ldC m11 (.ptr m4.nxt 0) = some (.int .i64 x23) ∧ ∃ m24, upM prog 3 m11 (.map m.nxt) (.c (.int .i64 x23)) (.c (.bool true)) = some m24 ∧ fitsP .i64 ((i : Int) + 1) ∧ R1 [.c c2, .c (.int .i64 ((i : Int) + 1))] m24 := fun hor => by
          rw [if_neg hor] at heq
          obtain ⟨o, u1, u2⟩ := hm11.up hpf
          rw [hps] at u2
          refine ⟨trivial, L[i].p, k11.rc rfl, _, u1, by simp only [fitsP]; omega, ?_⟩
          refine ih (i + 1) A c2 _ (by omega) (by omega) (ho11.to (Nat.le_refl _) fun b _ hb => ?_) hfr (x11.setR (Nat.le_refl _) _) (Nat.le_trans hn y11.nxt) u2 (by rw [← heq]; simp)
          obtain ⟨s', d', hb⟩ := hb
          have := hfr _ _ _ _ _ hb
          rw [M.g_set, if_neg (by omega)]
        refine ⟨fun hnone => ?_, fun u hu => ?_⟩
        · have hns : L[i].p ∉ ps (L.take i) := fun hm => by rw [if_pos hm] at hnone; cases hnone
          refine ⟨trivial, L[i].p, k11.rc rfl, s93 (hx.ext x11) (by omega) ⟨_, rfl, ?_⟩⟩
          rw [ifB_ndec]
          exact ⟨fun hd => happ (.inr hd), fun hd => hskip fun h => h.elim hns fun h => h hd⟩
        · by_cases hs : L[i].p ∈ ps (L.take i)
          · rw [if_pos hs] at hu
            cases hu
            exact ⟨true, rfl, happ (.inl hs)⟩
          · rw [if_neg hs] at hu; cases hu
  exact hgo L.length 0 [] .sl0 m0 (by omega) (by simp) (Own1.nil' _ _) (Fr.nil _) x0 (Nat.le_refl _) hm0 rfl
end
end Go.Proofs.Ytgkjfhkjgdiodaa

namespace Go.Proofs.Ytgkjfhkjgdiodaa
open _root_.Go.Proofs.Try
open Go.Abs
set_option maxRecDepth 100000
noncomputable section
theorem s31 {r c s t : Int} {d : Nat} {x y : C} {L : List Int} {N : List Cnt} {m : M} {Q : V → M → Prop} (hx : Li m x L) (hk0 : 0 < L.length) (hk9 : L.length ≤ 9) (hs : 0 ≤ s ∧ s ≤ 9999) (ht : 0 ≤ t ∧ t ≤ 9999) (hd : d ≤ 6) (hdk : d ≤ L.length)
    (hy : Lc m y N) (hN : N.length ≤ 1000)
    (h : ∀ z m', Ext m m' → Own1 m' 1 z (ints (forL (drawL L.length t d 0 s []) N 0 [])) (forL (drawL L.length t d 0 s []) N 0 []).length → Fr m z → Q (.c z) m') :
    Wc prog tbl 31 [.agg 3 [.int .i64 r, .int .i64 c, x], .agg 3 [.int .i64 s, .int .i64 t, .int .i64 (d : Int)], .c y] m Q := by
  refine w31 fun m0 e0 m1 e1 => ?_
  obtain ⟨b0, x0⟩ := Bk.new e0
  obtain ⟨b1, x1⟩ := Bk.new e1
  have x01 := x0.trans x1
  have hDl : (drawL L.length t d 0 s []).length ≤ 1000 := by
    rw [(drawL_ok (t := t) hk0 d 0 s [] ⟨List.nodup_nil, by simp⟩ (by simpa using hdk)).2]; simp; omega
  refine ⟨r, c, x, (b0.ext x1).ra, s, t, (d : Int), b1.ra, s30 (hx.ext x01) hk0 hk9 hs ht hd hdk fun c10 m9 e9 o10 f10 => ⟨_, rfl, fun R11 hstep => ?_⟩⟩
  generalize drawL L.length t d 0 s [] = D at h hDl o10
  have x9 := x01.trans e9
  have hgo : ∀ (k i : Nat) (A : List Int) (c2 c3 : C) (m4 : M), k + i = N.length → A.length ≤ i → Own1 m4 1 c2 (ints A) A.length → Own1 m4 1 c3 (ints (ps (N.take i))) (ps (N.take i)).length → Sep c2 c3 → Fr m9 c2 → Fr m9 c3 → Ext m9 m4 → A ++ forL D (N.drop i) (i : Int) (ps (N.take i)) = forL D N 0 [] →
      R11 [.c c2, .c c3, .c (.int .i64 (i : Int))] m4 := by
    intro k
    induction k with
    | zero =>
      intro i A c2 c3 m4 hd hA ho ho3 hsep hf2 hf3 he heq
      refine hstep _ _ _ _ ⟨hy.isSl, ?_⟩
      rw [hy.slLen, ifB_dec]
      refine ⟨fun h1 => by omega, fun _ => ?_⟩
      have hi : N.drop i = [] := List.drop_eq_nil_of_le (by omega)
      rw [hi] at heq
      have heq' : A = forL D N 0 [] := by rw [← heq]; show A = A ++ []; simp
      have hq := h c2 m4 (x9.trans he)
      rw [← heq'] at hq
      exact hq ho (hf2.mono x9.nxt)
    | succ k ih =>
      intro i A c2 c3 m4 hd hA ho ho3 hsep hf2 hf3 he heq
      refine hstep _ _ _ _ ⟨hy.isSl, ?_⟩
      rw [hy.slLen, ifB_dec]
      refine ⟨fun _ => ?_, fun h1 => by omega⟩
      have hi : i < N.length := by omega
      have hc := List.getElem?_eq_getElem hi
      have hy4 := hy.ext (x9.trans he)
      have h0 : N.length ≠ 0 := by omega
      have hpl : (ps (N.take i)).length ≤ i := by rw [ps_len, List.length_take]; omega
      have hpl2 : (ps (N.take i)).length + 1 = (ps (N.take (i + 1))).length := by rw [ps_len, ps_len, List.length_take, List.length_take]; omega
      rw [forL_step hi] at heq
      -- both lists grow
      have hboth : (N[i].p ∈ ps (N.take i) ∨ N[i].p ∉ D) → ∀ m21 : M, m21 = m4.new (.cells 1 [.int .i64 (i : Int)] false) → ∃ c22 m23, ApR prog 22 m21 c2 (.sl m4.nxt 0 1 0 (some 1)) c22 m23 ∧ ∀ m24 : M, m24 = m23.new (.cells 1 [.int .i64 N[i].p] false) →
          ∃ c25 m26, ApR prog 22 m24 c3 (.sl m23.nxt 0 1 0 (some 1)) c25 m26 ∧ fitsP .i64 ((i : Int) + 1) ∧ R11 [.c c22, .c c25, .c (.int .i64 ((i : Int) + 1))] m26 := fun hor m21 h21 => by
        rw [if_pos hor] at heq
        obtain ⟨c22, m23, q1, q2, q3, q4, q5, q6⟩ := ap_one t22 g3 z3 (by omega) ho (ws := [C.int .i64 (i : Int)]) rfl (by omega) h21
        rw [ints_push] at q2
        have ho3' := ho3.keep q4 q6 hsep
        have hsep2 : Sep c22 c3 := Sep.fresh q3 ho3
        refine ⟨c22, m23, q1, fun m24 h24 => ?_⟩
        obtain ⟨c25, m26, r1, r2, r3, r4, r5, r6⟩ := ap_one t22 g3 z3 (by omega) ho3' (ws := [C.int .i64 N[i].p]) rfl (by omega) h24
        rw [ints_push, ← ps_take hi, hpl2] at r2
        have q2' := q2.keep r4 r6 hsep2.symm
        have x23 := he.keep hf2 q4 q5 q6
        refine ⟨c25, m26, r1, by simp only [fitsP]; omega, ?_⟩
        exact ih (i + 1) (A ++ [(i : Int)]) c22 c25 m26 (by omega) (by simp; omega) (by simpa using q2') r2 (Sep.fresh r3 q2).symm (q3.mono he.nxt) (r3.mono x23.nxt) (x23.keep hf3 r4 r5 r6) (by rw [← heq]; simp)
      refine ⟨i, rfl, hi, hy4.isPt h0 _, N[i].p, ?_, s61 (L := D) (o10.ext he).ls (by omega) ⟨_, rfl, ?_⟩⟩
      · rw [hy4.add h0]; exact Ls.rd hy4 (cnts_at hc rfl)
      · rw [ifB_ndec]
        refine ⟨fun hnd => hboth (.inr hnd), fun hin => s61 (L := ps (N.take i)) ho3.ls (by omega) ⟨_, rfl, ?_⟩⟩
        rw [ifB_dec]
        refine ⟨fun hb => hboth (.inl hb), fun hb m36 h36 => ?_⟩
        rw [if_neg fun h => h.elim hb fun h => h hin] at heq
        obtain ⟨c25, m26, r1, r2, r3, r4, r5, r6⟩ := ap_one t22 g3 z3 (by omega) ho3 (ws := [C.int .i64 N[i].p]) rfl (by omega) h36
        rw [ints_push, ← ps_take hi, hpl2] at r2
        have q2' := ho.keep r4 r6 hsep.symm
        refine ⟨c25, m26, r1, by simp only [fitsP]; omega, ?_⟩
        exact ih (i + 1) A c2 c25 m26 (by omega) (by omega) q2' r2 (Sep.fresh r3 ho).symm hf2 (r3.mono he.nxt) (he.keep hf3 r4 r5 r6) (by rw [← heq]; simp)
  exact hgo N.length 0 [] .sl0 .sl0 m9 (by omega) (by simp) (Own1.nil' _ _) (Own1.nil' _ _) (fun _ _ _ _ _ _ _ _ _ _ h => by cases h) (Fr.nil _) (Fr.nil _) (.refl _) rfl
/-- the error of a lot -/
def lotErr (r c : Int) (L : List Int) (s t d : Int) : Int := if isField r c L then if isLot s t d L.length then 0 else 2 else 1
theorem lotErr_ok {r c : Int} {L : List Int} {s t d : Int} (h : lotErr r c L s t d = 0) : ((1 ≤ r ∧ r ≤ 4) ∧ (1 ≤ c ∧ c ≤ 4) ∧ r * c ≤ 9 ∧ (L.length : Int) = r * c ∧ ∀ v ∈ L, 0 ≤ v ∧ v ≤ 9) ∧ (0 ≤ s ∧ s ≤ 9999) ∧ (0 ≤ t ∧ t ≤ 9999) ∧ (0 ≤ d ∧ d ≤ 6) ∧ d ≤ (L.length : Int) := by
  unfold lotErr at h
  cases h1 : isField r c L with
  | false => rw [h1] at h; simp at h
  | true =>
    cases h2 : isLot s t d L.length with
    | false => rw [h1, h2] at h; simp at h
    | true => exact ⟨of_decide_eq_true h1, of_decide_eq_true h2⟩
/-- the places that are drawn, or none -/
def drawnOf (r c : Int) (L : List Int) (s t d : Int) : List Int := if lotErr r c L s t d = 0 then drawL L.length t d.toNat 0 s [] else []
theorem s21 {r c s t d : Int} {x : C} {L : List Int} {m : M} {Q : V → M → Prop} (hx : Li m x L) (hL : L.length ≤ 1000) (h : ∀ y m', Ext m m' → Own1 m' 1 y (ints (drawnOf r c L s t d)) (drawnOf r c L s t d).length → Q (.tup [.c y, .c (.int .i64 (lotErr r c L s t d))]) m') :
    Wc prog tbl 21 [.agg 3 [.int .i64 r, .int .i64 c, x], .agg 3 [.int .i64 s, .int .i64 t, .int .i64 d]] m Q := by
  refine w21 fun m0 e0 m1 e1 => ?_
  obtain ⟨b0, x0⟩ := Bk.new e0
  obtain ⟨b1, x1⟩ := Bk.new e1
  have b0' := b0.ext x1
  have x01 := x0.trans x1
  refine ⟨r, c, x, b0'.ra, s, t, d, b1.ra, s69 (hx.ext x01) (by omega) fun m9 e9 => ⟨_, rfl, ?_⟩⟩
  change ifB (!decide (lotErr r c L s t d = 0)) (Q (.tup [.c .sl0, .c (.int .i64 (lotErr r c L s t d))]) m9) _
  rw [ifB_ndec]
  refine ⟨fun h1 => h _ m9 (x01.trans e9) ?_, fun h1 => ?_⟩
  · unfold drawnOf; rw [if_neg h1]; exact Own1.nil' _ _
  · obtain ⟨⟨hr, hc, hrc, hl, _⟩, hs, ht, hd, hdk⟩ := lotErr_ok h1
    have hms := mul_small hr.1 hr.2 hc.1 hc.2
    obtain ⟨dn, rfl⟩ : ∃ dn : Nat, d = (dn : Int) := ⟨d.toNat, by omega⟩
    have hpos : 0 < r * c := Int.mul_pos (by omega) (by omega)
    refine ⟨r, c, x, (b0'.ext e9).ra, s, t, _, (b1.ext e9).ra, s70 (k := L.length) hl.symm (by omega) (by omega) (by omega) (by omega) hs ht (by omega) (by omega) fun y m18 e18 o18 f18 => ⟨y, rfl, ?_⟩⟩
    have hq := h y m18 ((x01.trans e9).trans e18)
    unfold drawnOf at hq
    rw [if_pos h1, h1] at hq
    exact hq o18
def forErr (r c : Int) (L : List Int) (s t d : Int) (n : Nat) : Int := if lotErr r c L s t d = 0 then if n ≤ 6 then 0 else 3 else lotErr r c L s t d
def forOf (r c : Int) (L : List Int) (s t d : Int) (N : List Cnt) : List Int := if forErr r c L s t d N.length = 0 then forL (drawnOf r c L s t d) N 0 [] else []
theorem s24 {r c s t d : Int} {x y : C} {L : List Int} {N : List Cnt} {m : M} {Q : V → M → Prop} (hx : Li m x L) (hL : L.length ≤ 1000) (hy : Lc m y N) (hN : N.length ≤ 1000) (hf : PsFit N)
    (h : ∀ z m', Ext m m' → Li m' z (forOf r c L s t d N) → Q (.tup [.c z, .c (.int .i64 (forErr r c L s t d N.length))]) m') :
    Wc prog tbl 24 [.agg 3 [.int .i64 r, .int .i64 c, x], .agg 3 [.int .i64 s, .int .i64 t, .int .i64 d], .c y] m Q := by
  refine w24 fun m0 e0 m1 e1 => ?_
  obtain ⟨b0, x0⟩ := Bk.new e0
  obtain ⟨b1, x1⟩ := Bk.new e1
  have b0' := b0.ext x1
  have x01 := x0.trans x1
  refine ⟨r, c, x, b0'.ra, s, t, d, b1.ra, s69 (hx.ext x01) (by omega) fun m9 e9 => ⟨_, rfl, ?_⟩⟩
  change ifB (!decide (lotErr r c L s t d = 0)) (Q (.tup [.c .sl0, .c (.int .i64 (lotErr r c L s t d))]) m9) _
  have hne : ∀ {v : Int}, forErr r c L s t d N.length = v → v ≠ 0 → Li m9 .sl0 (forOf r c L s t d N) := fun hv h0 => by
    unfold forOf; rw [hv, if_neg h0]; exact Ls.nil _ _
  rw [ifB_ndec]
  refine ⟨fun h1 => ?_, fun h1 => ⟨hy.isSl, ?_⟩⟩
  · have hv : forErr r c L s t d N.length = lotErr r c L s t d := by unfold forErr; rw [if_neg h1]
    have hq := h .sl0 m9 (x01.trans e9) (hne hv h1)
    rw [hv] at hq
    exact hq
  · rw [hy.slLen, ifB_dec]
    refine ⟨fun h2 => ?_, fun h2 => ?_⟩
    · have hv : forErr r c L s t d N.length = 3 := by unfold forErr; rw [if_pos h1, if_neg (by omega)]
      have hq := h .sl0 m9 (x01.trans e9) (hne hv (by omega))
      rw [hv] at hq
      exact hq
    · have hv : forErr r c L s t d N.length = 0 := by unfold forErr; rw [if_pos h1, if_pos (by omega)]
      obtain ⟨⟨hr, hc, hrc, hl, _⟩, hs, ht, hd, hdk⟩ := lotErr_ok h1
      have hms := mul_small hr.1 hr.2 hc.1 hc.2
      obtain ⟨dn, rfl⟩ : ∃ dn : Nat, d = (dn : Int) := ⟨d.toNat, by omega⟩
      have hpos : 0 < r * c := Int.mul_pos (by omega) (by omega)
      have hdl := (drawL_ok (t := t) (k := L.length) (by omega) dn 0 s [] ⟨List.nodup_nil, by simp⟩ (by simp; omega)).2
      refine ⟨r, c, x, (b0'.ext e9).ra, s, t, _, (b1.ext e9).ra, s70 (k := L.length) hl.symm (by omega) (by omega) (by omega) (by omega) hs ht (by omega) (by omega) fun u m18 e18 o18 f18 => ⟨u, rfl, ?_⟩⟩
      refine s71 o18.ls (by rw [hdl]; simp; omega) (hy.ext ((x01.trans e9).trans e18)) hN hf fun z m21 e21 o21 f21 => ⟨z, rfl, ?_⟩
      have hq := h z m21 (((x01.trans e9).trans e18).trans e21)
      rw [hv] at hq
      refine hq ?_
      unfold forOf
      rw [hv, if_pos rfl]
      unfold drawnOf
      rw [if_pos h1]
      exact o21.ls
end
end Go.Proofs.Ytgkjfhkjgdiodaa

namespace Go.Proofs.Ytgkjfhkjgdiodaa
open _root_.Go.Proofs.Try
open Go.Abs
set_option maxRecDepth 100000
noncomputable section
theorem s20 {m : M} {Q : V → M → Prop} (h : Q (.c (.bool true)) m) : Wc prog tbl 20 [] m Q := call_known (show findT tbl 20 = some true from rfl) h
theorem s3 {r c s t d : Int} {x y : C} {L : List Int} {N : List Cnt} {m : M} {Q : V → M → Prop} (hx : Li m x L) (hy : Lc m y N) (hf : PsFit N) (h : ∀ m', Q (.c (.bool true)) m') :
    Wc prog tbl 3 [.agg 3 [.int .i64 r, .int .i64 c, x], .agg 3 [.int .i64 s, .int .i64 t, .int .i64 d], .c y] m Q := by
  refine w3 fun m0 e0 m1 e1 => ?_
  obtain ⟨b0, x0⟩ := Bk.new e0
  obtain ⟨b1, x1⟩ := Bk.new e1
  have b0' := b0.ext x1
  have x01 := x0.trans x1
  refine ⟨r, c, x, b0'.ra, s19 (hx.ext x01) (hy.ext x01) fun m6 e6 => ⟨_, rfl, ?_⟩⟩
  rw [ifB_ndec]
  refine ⟨fun _ => s20 ⟨_, rfl, h _⟩, fun hthin => ?_⟩
  have hL : L.length ≤ 12 := hthin.1
  have hN : N.length ≤ 9 := hthin.2
  have x6 := x01.trans e6
  have f6 := b0'.ext e6
  have l6 := b1.ext e6
  refine ⟨r, c, x, f6.ra, s22 (hx.ext x6) (by omega) fun y1 m15 e15 hy1 _ => ⟨r, c, y1, rfl, s, t, d, (l6.ext e15).ra, l6.ra, s23 fun m23 e23 => ⟨s, t, d, rfl, ?_⟩⟩⟩
  have x23 := (x6.trans e15).trans e23
  have f23 := (f6.ext e15).ext e23
  have l23 := (l6.ext e15).ext e23
  refine s21 (L := L) (hy1.ext e23) (by omega) fun c29 m28 e28 o29 => ⟨c29, _, rfl, ?_⟩
  have h29 := o29.ls
  have x28 := x23.trans e28
  have f28 := f23.ext e28
  have l28 := l23.ext e28
  refine ⟨r, c, x, f28.ra, s22 (hx.ext x28) (by omega) fun y2 m35 e35 hy2 _ => ⟨r, c, y2, rfl, s, t, d, (l28.ext e35).ra, l28.ra, s23 fun m43 e43 => ⟨s, t, d, rfl, ?_⟩⟩⟩
  have x43 := (x28.trans e35).trans e43
  have f43 := (f28.ext e35).ext e43
  have l43 := (l28.ext e35).ext e43
  have h43 := (h29.ext e35).ext e43
  refine s25 (hy.ext x43) (by omega) fun y3 m48 e48 hy3 _ => ⟨y3, rfl, ?_⟩
  refine s24 (L := L) (N := N) ((hy2.ext e43).ext e48) (by omega) hy3 (by omega) hf fun c52 m51 e51 h52 => ⟨c52, _, rfl, ?_⟩
  have x51 := (x43.trans e48).trans e51
  have f51 := (f43.ext e48).ext e51
  have l51 := (l43.ext e48).ext e51
  have h51 := (h43.ext e48).ext e51
  refine ⟨r, c, x, f51.ra, s26 (hx.ext x51) (by omega) fun m58 e58 => ⟨_, rfl, ?_⟩⟩
  have x58 := x51.trans e58
  have f58 := f51.ext e58
  have l58 := l51.ext e58
  -- the lengths of what is returned with an error
  have hlen : ∀ (e : Int), e ≠ 0 → lotErr r c L s t d = e → slLen c29 = 0 ∧ slLen c52 = 0 ∧ forErr r c L s t d N.length = e := fun e he hl => by
    have h1 : drawnOf r c L s t d = [] := by unfold drawnOf; rw [hl, if_neg he]
    have h2 : forErr r c L s t d N.length = e := by unfold forErr; rw [hl, if_neg he]
    have h3 : forOf r c L s t d N = [] := by unfold forOf; rw [h2, if_neg he]
    refine ⟨by rw [h29.slLen, h1]; rfl, by rw [h52.slLen, h3]; rfl, h2⟩
  cases hfd : isField r c L with
  | false =>
    have hl : lotErr r c L s t d = 1 := by unfold lotErr; rw [hfd]; simp
    obtain ⟨q1, q2, q3⟩ := hlen 1 (by omega) hl
    show ifB true _ _
    rw [ifB_true]
    refine ⟨r, c, x, f58.ra, s22 (hx.ext x58) (by omega) fun y4 m64 e64 hy4 _ => ⟨r, c, y4, rfl, s27 hy4 (by omega) fun m69 e69 => ⟨_, rfl, ?_⟩⟩⟩
    rw [hfd, hl, q3, q1, q2]
    show ifB (!decide ((1 : Int) = 1)) _ _
    rw [ifB_ndec]
    refine ⟨fun h1 => absurd rfl h1, fun _ => ?_⟩
    rw [ifB_dec]
    refine ⟨fun _ => ?_, fun h1 => absurd rfl h1⟩
    rw [ifB_dec]
    refine ⟨fun _ => ⟨h29.isSl, h52.isSl, fits_small (by simp) (by simp), ?_⟩, fun h1 => absurd rfl h1⟩
    rw [ifB_dec]
    exact ⟨fun _ => s20 ⟨_, rfl, h _⟩, fun h1 => absurd rfl h1⟩
  | true =>
    show ifB false _ _
    rw [ifB_false]
    refine ⟨r, c, x, f58.ra, s22 (hx.ext x58) (by omega) fun y4 m78 e78 hy4 _ => ⟨r, c, y4, rfl, s27 hy4 (by omega) fun m83 e83 => ⟨_, rfl, ?_⟩⟩⟩
    have x83 := (x58.trans e78).trans e83
    have f83 := (f58.ext e78).ext e83
    have l83 := (l58.ext e78).ext e83
    rw [hfd]
    show ifB (!decide ((0 : Int) = 0)) _ _
    rw [ifB_ndec]
    refine ⟨fun h1 => absurd rfl h1, fun _ => ⟨r, c, x, f83.ra, s, t, d, l83.ra, s28 (hx.ext x83) fun m92 e92 => ⟨_, rfl, ?_⟩⟩⟩
    have x92 := x83.trans e92
    have f92 := f83.ext e92
    have l92 := l83.ext e92
    cases hlt : isLot s t d L.length with
    | false =>
      have hl : lotErr r c L s t d = 2 := by unfold lotErr; rw [hfd, hlt]; simp
      obtain ⟨q1, q2, q3⟩ := hlen 2 (by omega) hl
      rw [hl, q3, q1, q2]
      show ifB true _ _
      rw [ifB_true, ifB_dec]
      refine ⟨fun _ => ?_, fun h1 => absurd rfl h1⟩
      rw [ifB_dec]
      refine ⟨fun _ => ⟨h29.isSl, h52.isSl, fits_small (by simp) (by simp), ?_⟩, fun h1 => absurd rfl h1⟩
      rw [ifB_dec]
      exact ⟨fun _ => s20 ⟨_, rfl, h _⟩, fun h1 => absurd rfl h1⟩
    | true =>
      have hl : lotErr r c L s t d = 0 := by unfold lotErr; rw [hfd, hlt]; simp
      obtain ⟨⟨hr, hc, hrc, hll, _⟩, hs, ht, hd, hdk⟩ := lotErr_ok hl
      have hms := mul_small hr.1 hr.2 hc.1 hc.2
      obtain ⟨dn, rfl⟩ : ∃ dn : Nat, d = (dn : Int) := ⟨d.toNat, by omega⟩
      have hpos : 0 < r * c := Int.mul_pos (by omega) (by omega)
      have hDd : drawnOf r c L s t dn = drawL L.length t dn 0 s [] := by unfold drawnOf; rw [if_pos hl]; rfl
      have hDl : (drawL L.length t dn 0 s []).length ≤ 1000 := by
        rw [(drawL_ok (t := t) (k := L.length) (by omega) dn 0 s [] ⟨List.nodup_nil, by simp⟩ (by simp; omega)).2]; simp; omega
      show ifB false _ _
      rw [ifB_false, hl]
      rw [ifB_ndec]
      refine ⟨fun h1 => absurd rfl h1, fun _ => ⟨r, c, x, f92.ra, s, t, _, l92.ra, s30 (hx.ext x92) (by omega) (by omega) hs ht (by omega) (by omega) fun c105 m104 e104 o105 _ => ⟨c105, rfl, ?_⟩⟩⟩
      have x104 := x92.trans e104
      have h29' := ((((h51.ext e58).ext e78).ext e83).ext e92).ext e104
      rw [hDd] at h29'
      refine s29 h29' o105.ls (by omega) ⟨_, rfl, ?_⟩
      show ifB (!decide (true = true)) _ _
      rw [ifB_ndec]
      refine ⟨fun h1 => absurd rfl h1, fun _ => ⟨hy.isSl, ?_⟩⟩
      rw [hy.slLen, ifB_dec]
      refine ⟨fun h6 => ?_, fun h6 => ?_⟩
      · have hv : forErr r c L s t dn N.length = 3 := by unfold forErr; rw [if_pos hl, if_neg (by omega)]
        have h3 : forOf r c L s t dn N = [] := by unfold forOf; rw [hv, if_neg (by omega)]
        rw [hv, ifB_dec]
        refine ⟨fun _ => ⟨h52.isSl, ?_⟩, fun h1 => absurd rfl h1⟩
        rw [h52.slLen, h3, ifB_dec]
        exact ⟨fun _ => s20 ⟨_, rfl, h _⟩, fun h1 => absurd rfl h1⟩
      · have hv : forErr r c L s t dn N.length = 0 := by unfold forErr; rw [if_pos hl, if_pos (by omega)]
        have h3 : forOf r c L s t dn N = forL (drawL L.length t dn 0 s []) N 0 [] := by unfold forOf; rw [hv, if_pos rfl, hDd]
        rw [hv, ifB_dec]
        refine ⟨fun _ => ⟨r, c, x, (f92.ext e104).ra, s, t, _, (l92.ext e104).ra, s31 (hx.ext x104) (by omega) (by omega) hs ht (by omega) (by omega) (hy.ext x104) (by omega) fun c120 m119 e119 o120 _ => ⟨c120, rfl, ?_⟩⟩, fun h1 => absurd rfl h1⟩
        have h52' := (((((h52.ext e58).ext e78).ext e83).ext e92).ext e104).ext e119
        rw [h3] at h52'
        have := forL_len (D := drawL L.length t dn 0 s []) N 0 []
        refine s29 h52' o120.ls (by omega) ⟨_, rfl, ?_⟩
        show ifB (decide (true = true)) _ _
        rw [ifB_dec]
        exact ⟨fun _ => s20 ⟨_, rfl, h _⟩, fun h1 => absurd rfl h1⟩
end
end Go.Proofs.Ytgkjfhkjgdiodaa

namespace Go.Proofs.Ytgkjfhkjgdiodaa
open _root_.Go.Proofs.Try
open Go.Abs
set_option maxRecDepth 100000
noncomputable section
theorem w33 {a100 : Int} {a101 : Int} {a102 : C} {a103 : Int} {a104 : C} {m : M} {Q : V → M → Prop} (h :
 (∀ m0 : M, ((m0 = (M.new m (AO.cells 5 [(C.int .i64 a100), (C.int .i64 a101), a102, (C.int .i64 a103), 
 a104] false))) → (∀ m1 : M, ((m1 = (M.new m0 (AO.cells 5 [(C.int .i64 (0 : Int)), (C.int .i64 (0 : Int)), 
 C.sl0, (C.int .i64 (0 : Int)), C.sl0] false))) → (isPt (C.ptr m.nxt 0) ∧ (∃ x2 : Int, (∃ x3 : Int, 
 (∃ c4 : C, (((ldA m1 (C.ptr m.nxt 0) 3) = (some [(C.int .i64 x2), (C.int .i64 x3), 
 c4])) ∧ (Wc prog tbl 22 [(V.agg 3 [(C.int .i64 x2), (C.int .i64 x3), c4])] m1 (fun v5 m6 => 
 (∃ x7 : Int, (∃ x8 : Int, (∃ c9 : C, ((v5 = (V.agg 3 [(C.int .i64 x7), (C.int .i64 x8), 
 c9])) ∧ (isPt (C.ptr m.nxt 0) ∧ (∃ x10 : Int, (((ldC m6 (C.ptr m.nxt 3)) = (some (C.int .i64 x10))) ∧ 
 (((ldC m1 (C.ptr m.nxt 3)) = (some (C.int .i64 x10))) ∧ (isPt (C.ptr m.nxt 0) ∧ 
 (∃ c11 : C, (((ldC m6 (C.ptr m.nxt 4)) = (some c11)) ∧ ((ifB (noFnC c11) ((ldC m1 (C.ptr m.nxt 4)) = (some c11)) False) ∧ 
 (Wc prog tbl 25 [(V.c c11)] m6 (fun v12 m13 => (∃ c14 : C, ((v12 = (V.c c14)) ∧ (((ldC m13 (C.ptr m.nxt 3)) = (some (C.int .i64 x10))) ∧ 
 (∃ m15 : M, (((stC m13 (C.ptr m0.nxt 0) 5 [(C.int .i64 x7), (C.int .i64 x8), 
 c9, (C.int .i64 x10), c14]) = (some m15)) ∧ (∃ x16 : Int, (∃ x17 : Int, 
 (∃ c18 : C, (∃ x19 : Int, (∃ c20 : C, (((ldA m15 (C.ptr m0.nxt 0) 5) = (some [(C.int .i64 x16), 
 (C.int .i64 x17), c18, (C.int .i64 x19), c20])) ∧ (Q (V.agg 5 [(C.int .i64 x16), 
 (C.int .i64 x17), c18, (C.int .i64 x19), c20]) m15)))))))))))))))))))))))))))))))))))))) : Wc prog tbl 33 [(V.agg 5 [(C.int .i64 a100), (C.int .i64 a101), a102, (C.int .i64 a103), a104])] m Q :=
 wc_eq (n := 1) rfl (by kernel_rfl) (by kernel_rfl) h
theorem w36 {a100 : Int} {a101 : Int} {a102 : C} {a103 : Int} {a104 : C} {m : M} {Q : V → M → Prop} (h :
 (∀ m0 : M, ((m0 = (M.new m (AO.cells 5 [(C.int .i64 a100), (C.int .i64 a101), a102, (C.int .i64 a103), 
 a104] false))) → (∃ x1 : Int, (∃ x2 : Int, (∃ c3 : C, (∃ x4 : Int, (∃ c5 : C, (((ldA m0 (C.ptr m.nxt 0) 5) = (some [(C.int .i64 x1), 
 (C.int .i64 x2), c3, (C.int .i64 x4), c5])) ∧ (Wc prog tbl 78 [(V.agg 5 [(C.int .i64 x1), 
 (C.int .i64 x2), c3, (C.int .i64 x4), c5])] m0 (fun v6 m7 => (∃ x8 : Int, ((v6 = (V.c (C.int .i64 x8))) ∧ 
 (Q (V.c (C.int .i64 x8)) m7)))))))))))))) : Wc prog tbl 36 [(V.agg 5 [(C.int .i64 a100), (C.int .i64 a101), a102, (C.int .i64 a103), a104])] m Q :=
 wc_eq (n := 1) rfl (by kernel_rfl) (by kernel_rfl) h
theorem w38 {a100 : Int} {a101 : Int} {a102 : C} {a103 : Int} {a104 : C} {a200 : C} {a300 : Int} {m : M} {Q : V → M → Prop} (h :
 (∀ m0 : M, ((m0 = (M.new m (AO.cells 5 [(C.int .i64 a100), (C.int .i64 a101), a102, (C.int .i64 a103), 
 a104] false))) → (isPt (C.ptr m.nxt 0) ∧ (∃ x1 : Int, (∃ x2 : Int, (∃ c3 : C, (((ldA m0 (C.ptr m.nxt 0) 3) = (some [(C.int .i64 x1), 
 (C.int .i64 x2), c3])) ∧ (Wc prog tbl 39 [(V.agg 3 [(C.int .i64 x1), (C.int .i64 x2), 
 c3]), (V.c a200)] m0 (fun v4 m5 => (∃ b6 : Bool, ((v4 = (V.c (C.bool b6))) ∧ (ifB (!b6) (Q (V.c (C.bool false)) m5) (∀ R7 : List V → 
 M → Prop, ((∀ b8 : Bool, (∀ x9 : Int, (∀ m10 : M, ((isSl a200 ∧ (ifB (decide (x9 < (((slLen a200) : Nat) : Int))) (fitsP .i64 (x9 + (1 : Int)) ∧ 
 (∀ R11 : List V → M → Prop, ((∀ b12 : Bool, (∀ x13 : Int, (∀ m14 : M, ((isSl a200 ∧ (ifB (decide (x13 < (((slLen a200) : Nat) : Int))) (isPt (C.ptr m.nxt 0) ∧ 
 (isPt (C.ptr m.nxt 0) ∧ (∃ x15 : Int, (((ldC m14 (C.ptr m.nxt 1)) = (some (C.int .i64 x15))) ∧ 
 (((0 : Int) ≤ x9) ∧ (((0 : Int) < x15) ∧ (fitsP .i64 (x9 / x15) ∧ (isPt (C.ptr m.nxt 0) ∧ 
 (isPt (C.ptr m.nxt 0) ∧ (∃ x16 : Int, (((ldC m14 (C.ptr m.nxt 1)) = (some (C.int .i64 x16))) ∧ 
 (((0 : Int) ≤ x13) ∧ (((0 : Int) < x16) ∧ (fitsP .i64 (x13 / x16) ∧ (ifB (decide ((x9 / x15) = (x13 / x16))) (fitsP .i64 (x9 + (1 : Int)) ∧ 
 (isPt (C.ptr m.nxt 0) ∧ (isPt (C.ptr m.nxt 0) ∧ (∃ x17 : Int, (((ldC m14 (C.ptr m.nxt 1)) = (some (C.int .i64 x17))) ∧ 
 (fitsP .i64 (x9 + x17) ∧ (ifB (decide (x13 = (x9 + (1 : Int)))) (∃ n18 : Nat, 
 ((x9 = ((n18 : Nat) : Int)) ∧ ((n18 < (slLen a200)) ∧ (∃ x19 : Int, (((ldC m14 (slAt a200 (n18 * 1))) = (some (C.int .i64 x19))) ∧ 
 (∃ n20 : Nat, ((x13 = ((n20 : Nat) : Int)) ∧ ((n20 < (slLen a200)) ∧ (∃ x21 : Int, 
 (((ldC m14 (slAt a200 (n20 * 1))) = (some (C.int .i64 x21))) ∧ 
 (fitsP .i64 (x19 - x21) ∧ (isPt (C.ptr m.nxt 0) ∧ (∃ x22 : Int, (((ldC m14 (C.ptr m.nxt 3)) = (some (C.int .i64 x22))) ∧ 
 (fitsP .i64 ((0 : Int) - x22) ∧ (isPt (C.ptr m.nxt 0) ∧ (∃ x23 : Int, 
 (((ldC m14 (C.ptr m.nxt 3)) = (some (C.int .i64 x23))) ∧ (Wc prog tbl 44 [(V.c (C.int .i64 (x19 - x21))), 
 (V.c (C.int .i64 ((0 : Int) - x22))), (V.c (C.int .i64 x23))] m14 (fun v24 m25 => 
 (∃ b26 : Bool, ((v24 = (V.c (C.bool b26))) ∧ (ifB (!b26) (Q (V.c (C.bool false)) m25) (fitsP .i64 (x13 + (1 : Int)) ∧ 
 (R11 [(V.c (C.bool b12)), (V.c (C.int .i64 (x13 + (1 : Int))))] m25))))))))))))))))))))))))) (ifB (decide (x13 = (x9 + x17))) (∃ n27 : Nat, 
 ((x9 = ((n27 : Nat) : Int)) ∧ ((n27 < (slLen a200)) ∧ (∃ x28 : Int, (((ldC m14 (slAt a200 (n27 * 1))) = (some (C.int .i64 x28))) ∧ 
 (∃ n29 : Nat, ((x13 = ((n29 : Nat) : Int)) ∧ ((n29 < (slLen a200)) ∧ (∃ x30 : Int, 
 (((ldC m14 (slAt a200 (n29 * 1))) = (some (C.int .i64 x30))) ∧ 
 (fitsP .i64 (x28 - x30) ∧ (isPt (C.ptr m.nxt 0) ∧ (∃ x31 : Int, (((ldC m14 (C.ptr m.nxt 3)) = (some (C.int .i64 x31))) ∧ 
 (fitsP .i64 ((0 : Int) - x31) ∧ (isPt (C.ptr m.nxt 0) ∧ (∃ x32 : Int, 
 (((ldC m14 (C.ptr m.nxt 3)) = (some (C.int .i64 x32))) ∧ (Wc prog tbl 44 [(V.c (C.int .i64 (x28 - x30))), 
 (V.c (C.int .i64 ((0 : Int) - x31))), (V.c (C.int .i64 x32))] m14 (fun v33 m34 => 
 (∃ b35 : Bool, ((v33 = (V.c (C.bool b35))) ∧ (ifB (!b35) (Q (V.c (C.bool false)) m34) (fitsP .i64 (x13 + (1 : Int)) ∧ 
 (R11 [(V.c (C.bool b12)), (V.c (C.int .i64 (x13 + (1 : Int))))] m34))))))))))))))))))))))))) (fitsP .i64 (x13 + (1 : Int)) ∧ 
 (R11 [(V.c (C.bool b12)), (V.c (C.int .i64 (x13 + (1 : Int))))] m14)))))))))) (isPt (C.ptr m.nxt 0) ∧ 
 (isPt (C.ptr m.nxt 0) ∧ (∃ x36 : Int, (((ldC m14 (C.ptr m.nxt 1)) = (some (C.int .i64 x36))) ∧ 
 (fitsP .i64 (x9 + x36) ∧ (ifB (decide (x13 = (x9 + x36))) (∃ n37 : Nat, 
 ((x9 = ((n37 : Nat) : Int)) ∧ ((n37 < (slLen a200)) ∧ (∃ x38 : Int, (((ldC m14 (slAt a200 (n37 * 1))) = (some (C.int .i64 x38))) ∧ 
 (∃ n39 : Nat, ((x13 = ((n39 : Nat) : Int)) ∧ ((n39 < (slLen a200)) ∧ (∃ x40 : Int, 
 (((ldC m14 (slAt a200 (n39 * 1))) = (some (C.int .i64 x40))) ∧ 
 (fitsP .i64 (x38 - x40) ∧ (isPt (C.ptr m.nxt 0) ∧ (∃ x41 : Int, (((ldC m14 (C.ptr m.nxt 3)) = (some (C.int .i64 x41))) ∧ 
 (fitsP .i64 ((0 : Int) - x41) ∧ (isPt (C.ptr m.nxt 0) ∧ (∃ x42 : Int, 
 (((ldC m14 (C.ptr m.nxt 3)) = (some (C.int .i64 x42))) ∧ (Wc prog tbl 44 [(V.c (C.int .i64 (x38 - x40))), 
 (V.c (C.int .i64 ((0 : Int) - x41))), (V.c (C.int .i64 x42))] m14 (fun v43 m44 => 
 (∃ b45 : Bool, ((v43 = (V.c (C.bool b45))) ∧ (ifB (!b45) (Q (V.c (C.bool false)) m44) (fitsP .i64 (x13 + (1 : Int)) ∧ 
 (R11 [(V.c (C.bool b12)), (V.c (C.int .i64 (x13 + (1 : Int))))] m44))))))))))))))))))))))))) (fitsP .i64 (x13 + (1 : Int)) ∧ 
 (R11 [(V.c (C.bool b12)), (V.c (C.int .i64 (x13 + (1 : Int))))] m14))))))))))))))))))))))) (fitsP .i64 (x9 + (1 : Int)) ∧ 
 (R7 [(V.c (C.bool b12)), (V.c (C.int .i64 (x9 + (1 : Int))))] m14)))) → 
 (R11 [(V.c (C.bool b12)), (V.c (C.int .i64 x13))] m14))))) → (R11 [(V.c (C.bool b8)), 
 (V.c (C.int .i64 (x9 + (1 : Int))))] m10)))) (∀ R46 : List V → M → Prop, ((∀ b47 : Bool, 
 (∀ x48 : Int, (∀ m49 : M, ((isPt (C.ptr m.nxt 0) ∧ (∃ c50 : C, (((ldC m49 (C.ptr m.nxt 4)) = (some c50)) ∧ 
 (isSl c50 ∧ (ifB (decide (x48 < (((slLen c50) : Nat) : Int))) (isPt (C.ptr m.nxt 0) ∧ 
 (∃ c51 : C, (((ldC m49 (C.ptr m.nxt 4)) = (some c51)) ∧ (∃ n52 : Nat, 
 ((x48 = ((n52 : Nat) : Int)) ∧ ((n52 < (slLen c51)) ∧ (∃ x53 : Int, (∃ x54 : Int, 
 (∃ x55 : Int, (∃ b56 : Bool, (((ldA m49 (slAt c51 (n52 * 4)) 4) = (some [(C.int .i64 x53), 
 (C.int .i64 x54), (C.int .i64 x55), (C.bool b56)])) ∧ (∀ m57 : M, 
 ((m57 = (M.new m49 (AO.cells 4 [(C.int .i64 (0 : Int)), (C.int .i64 (0 : Int)), 
 (C.int .i64 (0 : Int)), (C.bool false)] false))) → (∃ m58 : M, (((stC m57 (C.ptr m49.nxt 0) 4 [(C.int .i64 x53), 
 (C.int .i64 x54), (C.int .i64 x55), (C.bool b56)]) = (some m58)) ∧ 
 (isPt (C.ptr m49.nxt 0) ∧ (∃ b59 : Bool, (((ldC m58 (C.ptr m49.nxt 3)) = (some (C.bool b59))) ∧ 
 (ifB (!b59) (((0 : Int) ≤ a300) ∧ (((0 : Int) ≤ (wrapZ .u64 x48)) ∧ (((wrapZ .u64 x48) ≤ (64 : Int)) ∧ 
 (fitsP .i64 (a300 / ((2 : Int) ^ (Int.toNat (wrapZ .u64 x48)))) ∧ 
 (((0 : Int) ≤ (a300 / ((2 : Int) ^ (Int.toNat (wrapZ .u64 x48))))) ∧ (((0 : Int) < (2 : Int)) ∧ 
 (fitsP .i64 ((a300 / ((2 : Int) ^ (Int.toNat (wrapZ .u64 x48)))) % (2 : Int)) ∧ 
 (ifB (decide (((a300 / ((2 : Int) ^ (Int.toNat (wrapZ .u64 x48)))) % (2 : Int)) = (0 : Int))) (isPt (C.ptr m49.nxt 0) ∧ 
 (∃ x60 : Int, (((ldC m58 (C.ptr m49.nxt 0)) = (some (C.int .i64 x60))) ∧ 
 (∃ n61 : Nat, ((x60 = ((n61 : Nat) : Int)) ∧ ((n61 < (slLen a200)) ∧ (∃ x62 : Int, 
 (((ldC m58 (slAt a200 (n61 * 1))) = (some (C.int .i64 x62))) ∧ 
 (isPt (C.ptr m49.nxt 0) ∧ (isPt (C.ptr m49.nxt 1) ∧ (∃ x63 : Int, (((ldC m58 (C.ptr m49.nxt 1)) = (some (C.int .i64 x63))) ∧ 
 (isPt (C.ptr m49.nxt 0) ∧ (isPt (C.ptr m49.nxt 1) ∧ (∃ x64 : Int, (((ldC m58 (C.ptr m49.nxt 2)) = (some (C.int .i64 x64))) ∧ 
 (Wc prog tbl 44 [(V.c (C.int .i64 x62)), (V.c (C.int .i64 x63)), 
 (V.c (C.int .i64 x64))] m58 (fun v65 m66 => (∃ b67 : Bool, ((v65 = (V.c (C.bool b67))) ∧ 
 (ifB (!b67) (Q (V.c (C.bool false)) m66) (fitsP .i64 (x48 + (1 : Int)) ∧ 
 (R46 [(V.c (C.bool b47)), (V.c (C.int .i64 (x48 + (1 : Int))))] m66))))))))))))))))))))))) (fitsP .i64 (x48 + (1 : Int)) ∧ 
 (R46 [(V.c (C.bool b47)), (V.c (C.int .i64 (x48 + (1 : Int))))] m58)))))))))) (fitsP .i64 (x48 + (1 : Int)) ∧ 
 (R46 [(V.c (C.bool b47)), (V.c (C.int .i64 (x48 + (1 : Int))))] m58))))))))))))))))))))) (Q (V.c (C.bool true)) m49)))))) → 
 (R46 [(V.c (C.bool b47)), (V.c (C.int .i64 x48))] m49))))) → (R46 [(V.c (C.bool b8)), 
 (V.c (C.int .i64 (0 : Int)))] m10))))) → (R7 [(V.c (C.bool b8)), (V.c (C.int .i64 x9))] m10))))) → 
 (R7 [(V.c (C.bool false)), (V.c (C.int .i64 (0 : Int)))] m5)))))))))))))))) : Wc prog tbl 38 [(V.agg 5 [(C.int .i64 a100), (C.int .i64 a101), a102, (C.int .i64 a103), a104]), (V.c a200), (V.c (C.int .i64 a300))] m Q :=
 wc_eq (n := 3) rfl (by kernel_rfl) (by kernel_rfl) h
theorem w76 {a100 : Int} {a101 : Int} {a102 : C} {a103 : Int} {a104 : C} {m : M} {Q : V → M → Prop} (h :
 (∀ m0 : M, ((m0 = (M.new m (AO.cells 5 [(C.int .i64 a100), (C.int .i64 a101), a102, (C.int .i64 a103), 
 a104] false))) → (∀ m1 : M, ((m1 = (M.new m0 (AO.cells 6 [(C.int .i64 (0 : Int)), (C.int .i64 (0 : Int)), 
 C.sl0, (C.int .i64 (0 : Int)), C.sl0, C.map0] false))) → (∃ x2 : Int, (∃ x3 : Int, (∃ c4 : C, 
 (∃ x5 : Int, (∃ c6 : C, (((ldA m1 (C.ptr m.nxt 0) 5) = (some [(C.int .i64 x2), (C.int .i64 x3), 
 c4, (C.int .i64 x5), c6])) ∧ (∀ m7 : M, ((m7 = (M.new m1 (AO.map [] 0))) → (∀ m8 : M, ((m8 = (M.new m7 (AO.cells 6 [(C.int .i64 (0 : Int)), 
 (C.int .i64 (0 : Int)), C.sl0, (C.int .i64 (0 : Int)), C.sl0, C.map0] false))) → 
 (∃ m9 : M, (((stC m8 (C.ptr m7.nxt 0) 6 [(C.int .i64 x2), (C.int .i64 x3), c4, 
 (C.int .i64 x5), c6, (C.map m1.nxt)]) = (some m9)) ∧ (isPt (C.ptr m.nxt 0) ∧ 
 (∃ c10 : C, (((ldC m9 (C.ptr m.nxt 4)) = (some c10)) ∧ (isSl c10 ∧ (∀ R11 : List V → 
 M → Prop, ((∀ x12 : Int, (∀ m13 : M, ((ifB (decide (x12 < (((slLen c10) : Nat) : Int))) (∃ n14 : Nat, 
 ((x12 = ((n14 : Nat) : Int)) ∧ ((n14 < (slLen c10)) ∧ (∃ x15 : Int, (∃ x16 : Int, 
 (∃ x17 : Int, (∃ b18 : Bool, (((ldA m13 (slAt c10 (n14 * 4)) 4) = (some [(C.int .i64 x15), 
 (C.int .i64 x16), (C.int .i64 x17), (C.bool b18)])) ∧ (∀ m19 : M, 
 ((m19 = (M.new m13 (AO.cells 4 [(C.int .i64 (0 : Int)), (C.int .i64 (0 : Int)), 
 (C.int .i64 (0 : Int)), (C.bool false)] false))) → (∃ m20 : M, (((stC m19 (C.ptr m13.nxt 0) 4 [(C.int .i64 x15), 
 (C.int .i64 x16), (C.int .i64 x17), (C.bool b18)]) = (some m20)) ∧ 
 (isPt (C.ptr m.nxt 0) ∧ (isPt (C.ptr m.nxt 0) ∧ (∃ c21 : C, (((ldC m20 (C.ptr m.nxt 2)) = (some c21)) ∧ 
 (isPt (C.ptr m13.nxt 0) ∧ (∃ x22 : Int, (((ldC m20 (C.ptr m13.nxt 0)) = (some (C.int .i64 x22))) ∧ 
 (∃ n23 : Nat, ((x22 = ((n23 : Nat) : Int)) ∧ ((n23 < (slLen c21)) ∧ (∃ x24 : Int, 
 (((ldC m20 (slAt c21 (n23 * 1))) = (some (C.int .i64 x24))) ∧ (fitsP .i64 (x24 + (1 : Int)) ∧ 
 (∀ R25 : List V → M → Prop, ((∀ x26 : Int, (∀ m27 : M, ((ifB (decide (x26 < (x24 + (1 : Int)))) (isPt (C.ptr m13.nxt 0) ∧ 
 (∃ x28 : Int, (((ldC m27 (C.ptr m13.nxt 0)) = (some (C.int .i64 x28))) ∧ 
 (∀ m29 : M, ((m29 = (M.new m27 (AO.cells 2 [(C.int .i64 (0 : Int)), (C.int .i64 (0 : Int))] false))) → 
 (∃ m30 : M, (((stC m29 (C.ptr m27.nxt 0) 2 [(C.int .i64 x28), (C.int .i64 x26)]) = (some m30)) ∧ 
 (isPt (C.ptr m7.nxt 0) ∧ (∃ c31 : C, (((ldC m30 (C.ptr m7.nxt 5)) = (some c31)) ∧ 
 (∃ x32 : Int, (∃ x33 : Int, (((ldA m30 (C.ptr m27.nxt 0) 2) = (some [(C.int .i64 x32), 
 (C.int .i64 x33)])) ∧ (∃ y34 : Option U, (((lkM prog 138 m30 c31 (V.agg 2 [(C.int .i64 x32), 
 (C.int .i64 x33)])) = (some y34)) ∧ (((y34 = Option.none) → (∀ m35 : M, 
 ((m35 = (M.new m30 (AO.cells 6 [(C.bool false), (C.bool false), (C.bool false), 
 (C.bool false), (C.bool false), (C.bool false)] false))) → (∃ m36 : M, (((stC m35 (C.ptr m30.nxt 0) 6 [(C.bool false), 
 (C.bool false), (C.bool false), (C.bool false), (C.bool false), (C.bool false)]) = (some m36)) ∧ 
 (isPt (C.ptr m13.nxt 0) ∧ (∃ b37 : Bool, (((ldC m36 (C.ptr m13.nxt 3)) = (some (C.bool b37))) ∧ 
 (ifB (!b37) (isPt (C.ptr m13.nxt 0) ∧ (∃ x38 : Int, (∃ x39 : Int, (((ldA m36 (C.ptr m13.nxt 1) 2) = (some [(C.int .i64 x38), 
 (C.int .i64 x39)])) ∧ (Wc prog tbl 92 [(V.agg 2 [(C.int .i64 x38), 
 (C.int .i64 x39)]), (V.c (C.int .i64 x26))] m36 (fun v40 m41 => 
 (∃ b42 : Bool, ((v40 = (V.c (C.bool b42))) ∧ (isPt (C.ptr m30.nxt 0) ∧ (∃ n43 : Nat, 
 ((x12 = ((n43 : Nat) : Int)) ∧ ((n43 < 6) ∧ (∃ m44 : M, (((stC m41 (C.ptr m30.nxt (0 + (n43 * 1))) 1 [(C.bool (!b42))]) = (some m44)) ∧ 
 (isPt (C.ptr m7.nxt 0) ∧ (∃ c45 : C, (((ldC m44 (C.ptr m7.nxt 5)) = (some c45)) ∧ 
 (∃ x46 : Int, (∃ x47 : Int, (((ldA m44 (C.ptr m27.nxt 0) 2) = (some [(C.int .i64 x46), 
 (C.int .i64 x47)])) ∧ (∃ b48 : Bool, (∃ b49 : Bool, (∃ b50 : Bool, (∃ b51 : Bool, 
 (∃ b52 : Bool, (∃ b53 : Bool, (((ldA m44 (C.ptr m30.nxt 0) 6) = (some [(C.bool b48), 
 (C.bool b49), (C.bool b50), (C.bool b51), (C.bool b52), (C.bool b53)])) ∧ (∃ m54 : M, 
 (((upM prog 138 m44 c45 (V.agg 2 [(C.int .i64 x46), (C.int .i64 x47)]) (V.agg 6 [(C.bool b48), 
 (C.bool b49), (C.bool b50), (C.bool b51), (C.bool b52), (C.bool b53)])) = (some m54)) ∧ 
 (fitsP .i64 (x26 + (1 : Int)) ∧ (R25 [(V.c (C.int .i64 (x26 + (1 : Int))))] m54))))))))))))))))))))))))))))))) (isPt (C.ptr m30.nxt 0) ∧ 
 (∃ n55 : Nat, ((x12 = ((n55 : Nat) : Int)) ∧ ((n55 < 6) ∧ (∃ m56 : M, (((stC m36 (C.ptr m30.nxt (0 + (n55 * 1))) 1 [(C.bool false)]) = (some m56)) ∧ 
 (isPt (C.ptr m7.nxt 0) ∧ (∃ c57 : C, (((ldC m56 (C.ptr m7.nxt 5)) = (some c57)) ∧ 
 (∃ x58 : Int, (∃ x59 : Int, (((ldA m56 (C.ptr m27.nxt 0) 2) = (some [(C.int .i64 x58), 
 (C.int .i64 x59)])) ∧ (∃ b60 : Bool, (∃ b61 : Bool, (∃ b62 : Bool, (∃ b63 : Bool, 
 (∃ b64 : Bool, (∃ b65 : Bool, (((ldA m56 (C.ptr m30.nxt 0) 6) = (some [(C.bool b60), 
 (C.bool b61), (C.bool b62), (C.bool b63), (C.bool b64), (C.bool b65)])) ∧ (∃ m66 : M, 
 (((upM prog 138 m56 c57 (V.agg 2 [(C.int .i64 x58), (C.int .i64 x59)]) (V.agg 6 [(C.bool b60), 
 (C.bool b61), (C.bool b62), (C.bool b63), (C.bool b64), (C.bool b65)])) = (some m66)) ∧ 
 (fitsP .i64 (x26 + (1 : Int)) ∧ (R25 [(V.c (C.int .i64 (x26 + (1 : Int))))] m66)))))))))))))))))))))))))))))))) ∧ 
 (∀ u67 : U, ((y34 = (some u67)) → (∃ b68 : Bool, (∃ b69 : Bool, (∃ b70 : Bool, 
 (∃ b71 : Bool, (∃ b72 : Bool, (∃ b73 : Bool, ((u67 = (U.agg 6 [(C.bool b68), 
 (C.bool b69), (C.bool b70), (C.bool b71), (C.bool b72), (C.bool b73)])) ∧ (∀ m74 : M, 
 ((m74 = (M.new m30 (AO.cells 6 [(C.bool false), (C.bool false), (C.bool false), 
 (C.bool false), (C.bool false), (C.bool false)] false))) → (∃ m75 : M, (((stC m74 (C.ptr m30.nxt 0) 6 [(C.bool b68), 
 (C.bool b69), (C.bool b70), (C.bool b71), (C.bool b72), (C.bool b73)]) = (some m75)) ∧ 
 (isPt (C.ptr m13.nxt 0) ∧ (∃ b76 : Bool, (((ldC m75 (C.ptr m13.nxt 3)) = (some (C.bool b76))) ∧ 
 (ifB (!b76) (isPt (C.ptr m13.nxt 0) ∧ (∃ x77 : Int, (∃ x78 : Int, (((ldA m75 (C.ptr m13.nxt 1) 2) = (some [(C.int .i64 x77), 
 (C.int .i64 x78)])) ∧ (Wc prog tbl 92 [(V.agg 2 [(C.int .i64 x77), 
 (C.int .i64 x78)]), (V.c (C.int .i64 x26))] m75 (fun v79 m80 => 
 (∃ b81 : Bool, ((v79 = (V.c (C.bool b81))) ∧ (isPt (C.ptr m30.nxt 0) ∧ (∃ n82 : Nat, 
 ((x12 = ((n82 : Nat) : Int)) ∧ ((n82 < 6) ∧ (∃ m83 : M, (((stC m80 (C.ptr m30.nxt (0 + (n82 * 1))) 1 [(C.bool (!b81))]) = (some m83)) ∧ 
 (isPt (C.ptr m7.nxt 0) ∧ (∃ c84 : C, (((ldC m83 (C.ptr m7.nxt 5)) = (some c84)) ∧ 
 (∃ x85 : Int, (∃ x86 : Int, (((ldA m83 (C.ptr m27.nxt 0) 2) = (some [(C.int .i64 x85), 
 (C.int .i64 x86)])) ∧ (∃ b87 : Bool, (∃ b88 : Bool, (∃ b89 : Bool, (∃ b90 : Bool, 
 (∃ b91 : Bool, (∃ b92 : Bool, (((ldA m83 (C.ptr m30.nxt 0) 6) = (some [(C.bool b87), 
 (C.bool b88), (C.bool b89), (C.bool b90), (C.bool b91), (C.bool b92)])) ∧ (∃ m93 : M, 
 (((upM prog 138 m83 c84 (V.agg 2 [(C.int .i64 x85), (C.int .i64 x86)]) (V.agg 6 [(C.bool b87), 
 (C.bool b88), (C.bool b89), (C.bool b90), (C.bool b91), (C.bool b92)])) = (some m93)) ∧ 
 (fitsP .i64 (x26 + (1 : Int)) ∧ (R25 [(V.c (C.int .i64 (x26 + (1 : Int))))] m93))))))))))))))))))))))))))))))) (isPt (C.ptr m30.nxt 0) ∧ 
 (∃ n94 : Nat, ((x12 = ((n94 : Nat) : Int)) ∧ ((n94 < 6) ∧ (∃ m95 : M, (((stC m75 (C.ptr m30.nxt (0 + (n94 * 1))) 1 [(C.bool false)]) = (some m95)) ∧ 
 (isPt (C.ptr m7.nxt 0) ∧ (∃ c96 : C, (((ldC m95 (C.ptr m7.nxt 5)) = (some c96)) ∧ 
 (∃ x97 : Int, (∃ x98 : Int, (((ldA m95 (C.ptr m27.nxt 0) 2) = (some [(C.int .i64 x97), 
 (C.int .i64 x98)])) ∧ (∃ b99 : Bool, (∃ b100 : Bool, (∃ b101 : Bool, (∃ b102 : Bool, 
 (∃ b103 : Bool, (∃ b104 : Bool, (((ldA m95 (C.ptr m30.nxt 0) 6) = (some [(C.bool b99), 
 (C.bool b100), (C.bool b101), (C.bool b102), (C.bool b103), (C.bool b104)])) ∧ 
 (∃ m105 : M, (((upM prog 138 m95 c96 (V.agg 2 [(C.int .i64 x97), (C.int .i64 x98)]) (V.agg 6 [(C.bool b99), 
 (C.bool b100), (C.bool b101), (C.bool b102), (C.bool b103), (C.bool b104)])) = (some m105)) ∧ 
 (fitsP .i64 (x26 + (1 : Int)) ∧ (R25 [(V.c (C.int .i64 (x26 + (1 : Int))))] m105)))))))))))))))))))))))))))))))))))))))))))))))))))))))) (fitsP .i64 (x12 + (1 : Int)) ∧ 
 (R11 [(V.c (C.int .i64 (x12 + (1 : Int))))] m27))) → (R25 [(V.c (C.int .i64 x26))] m27)))) → 
 (R25 [(V.c (C.int .i64 (0 : Int)))] m20)))))))))))))))))))))))))))) (∃ x106 : Int, 
 (∃ x107 : Int, (∃ c108 : C, (∃ x109 : Int, (∃ c110 : C, (∃ c111 : C, (((ldA m13 (C.ptr m7.nxt 0) 6) = (some [(C.int .i64 x106), 
 (C.int .i64 x107), c108, (C.int .i64 x109), c110, c111])) ∧ (∃ m112 : M, 
 (((stC m13 (C.ptr m0.nxt 0) 6 [(C.int .i64 x106), (C.int .i64 x107), 
 c108, (C.int .i64 x109), c110, c111]) = (some m112)) ∧ (∃ x113 : Int, 
 (∃ x114 : Int, (∃ c115 : C, (∃ x116 : Int, (∃ c117 : C, (∃ c118 : C, (((ldA m112 (C.ptr m0.nxt 0) 6) = (some [(C.int .i64 x113), 
 (C.int .i64 x114), c115, (C.int .i64 x116), c117, c118])) ∧ (Q (V.agg 6 [(C.int .i64 x113), 
 (C.int .i64 x114), c115, (C.int .i64 x116), c117, c118]) m112)))))))))))))))))) → 
 (R11 [(V.c (C.int .i64 x12))] m13)))) → (R11 [(V.c (C.int .i64 (0 : Int)))] m9)))))))))))))))))))))))) : Wc prog tbl 76 [(V.agg 5 [(C.int .i64 a100), (C.int .i64 a101), a102, (C.int .i64 a103), a104])] m Q :=
 wc_eq (n := 1) rfl (by kernel_rfl) (by kernel_rfl) h
theorem w78 {a100 : Int} {a101 : Int} {a102 : C} {a103 : Int} {a104 : C} {m : M} {Q : V → M → Prop} (h :
 (∀ m0 : M, ((m0 = (M.new m (AO.cells 5 [(C.int .i64 a100), (C.int .i64 a101), a102, (C.int .i64 a103), 
 a104] false))) → (isPt (C.ptr m.nxt 0) ∧ (∃ c1 : C, (((ldC m0 (C.ptr m.nxt 4)) = (some c1)) ∧ 
 (isSl c1 ∧ (ifB (decide ((6 : Int) < (((slLen c1) : Nat) : Int))) (Q (V.c (C.int .i64 (3 : Int))) m0) (isPt (C.ptr m.nxt 0) ∧ 
 (∃ x2 : Int, (∃ x3 : Int, (∃ c4 : C, (((ldA m0 (C.ptr m.nxt 0) 3) = (some [(C.int .i64 x2), 
 (C.int .i64 x3), c4])) ∧ (Wc prog tbl 26 [(V.agg 3 [(C.int .i64 x2), (C.int .i64 x3), 
 c4])] m0 (fun v5 m6 => (∃ b7 : Bool, ((v5 = (V.c (C.bool b7))) ∧ (ifB (!b7) (Q (V.c (C.int .i64 (1 : Int))) m6) (isPt (C.ptr m.nxt 0) ∧ 
 (∃ x8 : Int, (((ldC m6 (C.ptr m.nxt 3)) = (some (C.int .i64 x8))) ∧ (Wc prog tbl 44 [(V.c (C.int .i64 x8)), 
 (V.c (C.int .i64 (0 : Int))), (V.c (C.int .i64 (9 : Int)))] m6 (fun v9 m10 => 
 (∃ b11 : Bool, ((v9 = (V.c (C.bool b11))) ∧ (ifB (!b11) (Q (V.c (C.int .i64 (1 : Int))) m10) (∀ R12 : List V → 
 M → Prop, ((∀ x13 : Int, (∀ x14 : Int, (∀ m15 : M, ((isPt (C.ptr m.nxt 0) ∧ (∃ c16 : C, 
 (((ldC m15 (C.ptr m.nxt 4)) = (some c16)) ∧ (isSl c16 ∧ (ifB (decide (x14 < (((slLen c16) : Nat) : Int))) (isPt (C.ptr m.nxt 0) ∧ 
 (∃ c17 : C, (((ldC m15 (C.ptr m.nxt 4)) = (some c17)) ∧ (∃ n18 : Nat, 
 ((x14 = ((n18 : Nat) : Int)) ∧ ((n18 < (slLen c17)) ∧ (∃ x19 : Int, (∃ x20 : Int, 
 (∃ x21 : Int, (∃ b22 : Bool, (((ldA m15 (slAt c17 (n18 * 4)) 4) = (some [(C.int .i64 x19), 
 (C.int .i64 x20), (C.int .i64 x21), (C.bool b22)])) ∧ (∀ m23 : M, 
 ((m23 = (M.new m15 (AO.cells 4 [(C.int .i64 (0 : Int)), (C.int .i64 (0 : Int)), 
 (C.int .i64 (0 : Int)), (C.bool false)] false))) → (∃ m24 : M, (((stC m23 (C.ptr m15.nxt 0) 4 [(C.int .i64 x19), 
 (C.int .i64 x20), (C.int .i64 x21), (C.bool b22)]) = (some m24)) ∧ 
 (isPt (C.ptr m15.nxt 0) ∧ (∃ x25 : Int, (((ldC m24 (C.ptr m15.nxt 0)) = (some (C.int .i64 x25))) ∧ 
 (isPt (C.ptr m.nxt 0) ∧ (isPt (C.ptr m.nxt 0) ∧ (∃ c26 : C, (((ldC m24 (C.ptr m.nxt 2)) = (some c26)) ∧ 
 (isSl c26 ∧ (fitsP .i64 ((((slLen c26) : Nat) : Int) - (1 : Int)) ∧ (Wc prog tbl 44 [(V.c (C.int .i64 x25)), 
 (V.c (C.int .i64 (0 : Int))), (V.c (C.int .i64 ((((slLen c26) : Nat) : Int) - (1 : Int))))] m24 (fun v27 m28 => 
 (∃ b29 : Bool, ((v27 = (V.c (C.bool b29))) ∧ (ifB (!b29) (Q (V.c (C.int .i64 (1 : Int))) m28) (isPt (C.ptr m15.nxt 0) ∧ 
 (isPt (C.ptr m15.nxt 1) ∧ (∃ x30 : Int, (((ldC m28 (C.ptr m15.nxt 1)) = (some (C.int .i64 x30))) ∧ 
 (isPt (C.ptr m15.nxt 0) ∧ (isPt (C.ptr m15.nxt 1) ∧ (∃ x31 : Int, (((ldC m28 (C.ptr m15.nxt 2)) = (some (C.int .i64 x31))) ∧ 
 (Wc prog tbl 44 [(V.c (C.int .i64 x30)), (V.c (C.int .i64 (0 : Int))), 
 (V.c (C.int .i64 x31))] m28 (fun v32 m33 => (∃ b34 : Bool, ((v32 = (V.c (C.bool b34))) ∧ 
 (ifB (!b34) (Q (V.c (C.int .i64 (1 : Int))) m33) (isPt (C.ptr m15.nxt 0) ∧ 
 (isPt (C.ptr m15.nxt 1) ∧ (∃ x35 : Int, (((ldC m33 (C.ptr m15.nxt 2)) = (some (C.int .i64 x35))) ∧ 
 (ifB (decide ((9 : Int) < x35)) (Q (V.c (C.int .i64 (1 : Int))) m33) (fitsP .i64 (x14 + (1 : Int)) ∧ 
 (R12 [(V.c (C.int .i64 x13)), (V.c (C.int .i64 (x14 + (1 : Int))))] m33))))))))))))))))))))))))))))))))))))))))))))))))) (isPt (C.ptr m.nxt 0) ∧ 
 (∃ x36 : Int, (∃ x37 : Int, (∃ c38 : C, (((ldA m15 (C.ptr m.nxt 0) 3) = (some [(C.int .i64 x36), 
 (C.int .i64 x37), c38])) ∧ (Wc prog tbl 60 [(V.agg 3 [(C.int .i64 x36), 
 (C.int .i64 x37), c38])] m15 (fun v39 m40 => (∃ x41 : Int, ((v39 = (V.c (C.int .i64 x41))) ∧ 
 (ifB (decide ((2000 : Int) < x41)) (Q (V.c (C.int .i64 (3 : Int))) m40) (Q (V.c (C.int .i64 (0 : Int))) m40)))))))))))))))) → 
 (R12 [(V.c (C.int .i64 x13)), (V.c (C.int .i64 x14))] m15))))) → 
 (R12 [(V.c (C.int .i64 (0 : Int))), (V.c (C.int .i64 (0 : Int)))] m10))))))))))))))))))))))))))))) : Wc prog tbl 78 [(V.agg 5 [(C.int .i64 a100), (C.int .i64 a101), a102, (C.int .i64 a103), a104])] m Q :=
 wc_eq (n := 1) rfl (by kernel_rfl) (by kernel_rfl) h
theorem w80 {a100 : Int} {a101 : Int} {a102 : C} {m : M} {Q : V → M → Prop} (h :
 (∀ m0 : M, ((m0 = (M.new m (AO.cells 3 [(C.int .i64 a100), (C.int .i64 a101), a102] false))) → (isPt (C.ptr m.nxt 0) ∧ 
 (∃ c1 : C, (((ldC m0 (C.ptr m.nxt 2)) = (some c1)) ∧ (isSl c1 ∧ (∀ R2 : List V → M → Prop, ((∀ x3 : Int, 
 (∀ x4 : Int, (∀ m5 : M, ((ifB (decide (x4 < (((slLen c1) : Nat) : Int))) (∃ n6 : Nat, ((x4 = ((n6 : Nat) : Int)) ∧ 
 ((n6 < (slLen c1)) ∧ (∃ x7 : Int, (((ldC m5 (slAt c1 (n6 * 1))) = (some (C.int .i64 x7))) ∧ 
 (fitsP .i64 (x7 + (1 : Int)) ∧ (((0 : Int) ≤ x3) ∧ (((0 : Int) ≤ (x7 + (1 : Int))) ∧ 
 (fitsP .i64 (x3 * (x7 + (1 : Int))) ∧ (fitsP .i64 (x4 + (1 : Int)) ∧ (R2 [(V.c (C.int .i64 (x3 * (x7 + (1 : Int))))), 
 (V.c (C.int .i64 (x4 + (1 : Int))))] m5))))))))))) (Q (V.c (C.int .i64 x3)) m5)) → 
 (R2 [(V.c (C.int .i64 x3)), (V.c (C.int .i64 x4))] m5))))) → (R2 [(V.c (C.int .i64 (1 : Int))), 
 (V.c (C.int .i64 (0 : Int)))] m0)))))))))) : Wc prog tbl 80 [(V.agg 3 [(C.int .i64 a100), (C.int .i64 a101), a102])] m Q :=
 wc_eq (n := 1) rfl (by kernel_rfl) (by kernel_rfl) h
theorem w96 {a100 : C} {m : M} {Q : V → M → Prop} (h :
 (isSl a100 ∧ (∀ R0 : List V → M → Prop, ((∀ x1 : Int, (∀ x2 : Int, (∀ m3 : M, ((ifB (decide (x2 < (((slLen a100) : Nat) : Int))) (∃ n4 : Nat, 
 ((x2 = ((n4 : Nat) : Int)) ∧ ((n4 < (slLen a100)) ∧ (∃ x5 : Int, (((ldC m3 (slAt a100 (n4 * 1))) = (some (C.int .i64 x5))) ∧ 
 (fitsP .i64 (x1 + x5) ∧ (fitsP .i64 (x2 + (1 : Int)) ∧ (R0 [(V.c (C.int .i64 (x1 + x5))), 
 (V.c (C.int .i64 (x2 + (1 : Int))))] m3)))))))) (Q (V.c (C.int .i64 x1)) m3)) → 
 (R0 [(V.c (C.int .i64 x1)), (V.c (C.int .i64 x2))] m3))))) → (R0 [(V.c (C.int .i64 (0 : Int))), 
 (V.c (C.int .i64 (0 : Int)))] m))))) : Wc prog tbl 96 [(V.c a100)] m Q :=
 wc_eq (n := 1) rfl (by kernel_rfl) (by kernel_rfl) h
theorem w98 {a100 : C} {a200 : C} {m : M} {Q : V → M → Prop} (h :
 (∀ m0 : M, ((m0 = (M.new m (AO.cells 1 [a200] false))) → (Wc prog tbl 114 [(V.c a100), (V.c (C.fn (Fn.func 115) [] [(W.c (C0.ptr m.nxt 0))]))] m0 (fun v1 m2 => 
 (∃ b3 : Bool, ((v1 = (V.c (C.bool b3))) ∧ (Q (V.c (C.bool (!b3))) m2)))))))) : Wc prog tbl 98 [(V.c a100), (V.c a200)] m Q :=
 wc_eq (n := 2) rfl (by kernel_rfl) (by kernel_rfl) h
theorem w112 {a100 : Int} {a101 : Int} {a102 : C} {a103 : Int} {a104 : C} {a200 : Int} {a201 : Int} {a202 : Int} {a203 : Int} {a204 : Int} {a205 : Int} {a206 : Int} {a207 : Int} {a208 : Int} {a300 : Int} {m : M} {Q : V → M → Prop} (h :
 (∀ m0 : M, ((m0 = (M.new m (AO.cells 5 [(C.int .i64 a100), (C.int .i64 a101), a102, (C.int .i64 a103), 
 a104] false))) → (∀ m1 : M, ((m1 = (M.new m0 (AO.cells 9 [(C.int .i64 a200), (C.int .i64 a201), 
 (C.int .i64 a202), (C.int .i64 a203), (C.int .i64 a204), (C.int .i64 a205), 
 (C.int .i64 a206), (C.int .i64 a207), (C.int .i64 a208)] false))) → (fitsP .i64 (a300 - (1 : Int)) ∧ 
 (isPt (C.ptr m.nxt 0) ∧ (isPt (C.ptr m.nxt 0) ∧ (∃ x2 : Int, (((ldC m1 (C.ptr m.nxt 1)) = (some (C.int .i64 x2))) ∧ 
 (fitsP .i64 (a300 - x2) ∧ (isPt (C.ptr m.nxt 0) ∧ (isPt (C.ptr m.nxt 0) ∧ (∃ x3 : Int, 
 (((ldC m1 (C.ptr m.nxt 1)) = (some (C.int .i64 x3))) ∧ (((0 : Int) ≤ a300) ∧ (((0 : Int) < x3) ∧ 
 (fitsP .i64 (a300 % x3) ∧ (ifB (decide ((0 : Int) < (a300 % x3))) (∃ x4 : Int, (∃ x5 : Int, 
 (∃ c6 : C, (∃ x7 : Int, (∃ c8 : C, (((ldA m1 (C.ptr m.nxt 0) 5) = (some [(C.int .i64 x4), 
 (C.int .i64 x5), c6, (C.int .i64 x7), c8])) ∧ (isPt (C.ptr m0.nxt 0) ∧ 
 (∃ n9 : Nat, ((a300 = ((n9 : Nat) : Int)) ∧ ((n9 < 9) ∧ (∃ x10 : Int, (((ldC m1 (C.ptr m0.nxt (0 + (n9 * 1)))) = (some (C.int .i64 x10))) ∧ 
 (isPt (C.ptr m0.nxt 0) ∧ (∃ n11 : Nat, (((a300 - (1 : Int)) = ((n11 : Nat) : Int)) ∧ 
 ((n11 < 9) ∧ (∃ x12 : Int, (((ldC m1 (C.ptr m0.nxt (0 + (n11 * 1)))) = (some (C.int .i64 x12))) ∧ 
 (Wc prog tbl 123 [(V.agg 5 [(C.int .i64 x4), (C.int .i64 x5), c6, 
 (C.int .i64 x7), c8]), (V.c (C.int .i64 x10)), (V.c (C.int .i64 x12))] m1 (fun v13 m14 => 
 (∃ b15 : Bool, ((v13 = (V.c (C.bool b15))) ∧ (ifB b15 (Q (V.c (C.bool true)) m14) (ifB (decide ((0 : Int) ≤ (a300 - x2))) (∃ x16 : Int, 
 (∃ x17 : Int, (∃ c18 : C, (∃ x19 : Int, (∃ c20 : C, (((ldA m14 (C.ptr m.nxt 0) 5) = (some [(C.int .i64 x16), 
 (C.int .i64 x17), c18, (C.int .i64 x19), c20])) ∧ (isPt (C.ptr m0.nxt 0) ∧ 
 (∃ n21 : Nat, ((a300 = ((n21 : Nat) : Int)) ∧ ((n21 < 9) ∧ (∃ x22 : Int, (((ldC m14 (C.ptr m0.nxt (0 + (n21 * 1)))) = (some (C.int .i64 x22))) ∧ 
 (isPt (C.ptr m0.nxt 0) ∧ (∃ n23 : Nat, (((a300 - x2) = ((n23 : Nat) : Int)) ∧ 
 ((n23 < 9) ∧ (∃ x24 : Int, (((ldC m14 (C.ptr m0.nxt (0 + (n23 * 1)))) = (some (C.int .i64 x24))) ∧ 
 (Wc prog tbl 123 [(V.agg 5 [(C.int .i64 x16), (C.int .i64 x17), 
 c18, (C.int .i64 x19), c20]), (V.c (C.int .i64 x22)), (V.c (C.int .i64 x24))] m14 (fun v25 m26 => 
 (∃ b27 : Bool, ((v25 = (V.c (C.bool b27))) ∧ (Q (V.c (C.bool b27)) m26))))))))))))))))))))))) (Q (V.c (C.bool false)) m14))))))))))))))))))))))))) (ifB (decide ((0 : Int) ≤ (a300 - x2))) (∃ x28 : Int, 
 (∃ x29 : Int, (∃ c30 : C, (∃ x31 : Int, (∃ c32 : C, (((ldA m1 (C.ptr m.nxt 0) 5) = (some [(C.int .i64 x28), 
 (C.int .i64 x29), c30, (C.int .i64 x31), c32])) ∧ (isPt (C.ptr m0.nxt 0) ∧ 
 (∃ n33 : Nat, ((a300 = ((n33 : Nat) : Int)) ∧ ((n33 < 9) ∧ (∃ x34 : Int, (((ldC m1 (C.ptr m0.nxt (0 + (n33 * 1)))) = (some (C.int .i64 x34))) ∧ 
 (isPt (C.ptr m0.nxt 0) ∧ (∃ n35 : Nat, (((a300 - x2) = ((n35 : Nat) : Int)) ∧ 
 ((n35 < 9) ∧ (∃ x36 : Int, (((ldC m1 (C.ptr m0.nxt (0 + (n35 * 1)))) = (some (C.int .i64 x36))) ∧ 
 (Wc prog tbl 123 [(V.agg 5 [(C.int .i64 x28), (C.int .i64 x29), 
 c30, (C.int .i64 x31), c32]), (V.c (C.int .i64 x34)), (V.c (C.int .i64 x36))] m1 (fun v37 m38 => 
 (∃ b39 : Bool, ((v37 = (V.c (C.bool b39))) ∧ (Q (V.c (C.bool b39)) m38))))))))))))))))))))))) (Q (V.c (C.bool false)) m1))))))))))))))))))))) : Wc prog tbl 112 [(V.agg 5 [(C.int .i64 a100), (C.int .i64 a101), a102, (C.int .i64 a103), a104]), (V.agg 9 [(C.int .i64 a200), (C.int .i64 a201), (C.int .i64 a202), (C.int .i64 a203), (C.int .i64 a204), (C.int .i64 a205), (C.int .i64 a206), (C.int .i64 a207), (C.int .i64 a208)]), (V.c (C.int .i64 a300))] m Q :=
 wc_eq (n := 3) rfl (by kernel_rfl) (by kernel_rfl) h
theorem w114 {a100 : C} {a200 : C} {m : M} {Q : V → M → Prop} (h :
 (Wc prog tbl 124 [(V.c a100), (V.c a200)] m (fun v0 m1 => (∃ x2 : Int, ((v0 = (V.c (C.int .i64 x2))) ∧ (Q (V.c (C.bool (decide ((0 : Int) ≤ x2)))) m1)))))) : Wc prog tbl 114 [(V.c a100), (V.c a200)] m Q :=
 wc_eq (n := 2) rfl (by kernel_rfl) (by kernel_rfl) h
theorem w124 {a100 : C} {a200 : C} {m : M} {Q : V → M → Prop} (h :
 (isSl a100 ∧ (∀ R0 : List V → M → Prop, ((∀ x1 : Int, (∀ x2 : Int, (∀ m3 : M, ((ifB (decide (x2 < (((slLen a100) : Nat) : Int))) (∃ n4 : Nat, 
 ((x2 = ((n4 : Nat) : Int)) ∧ ((n4 < (slLen a100)) ∧ (∃ x5 : Int, (∃ x6 : Int, (∃ x7 : Int, (∃ b8 : Bool, 
 (((ldA m3 (slAt a100 (n4 * 4)) 4) = (some [(C.int .i64 x5), (C.int .i64 x6), 
 (C.int .i64 x7), (C.bool b8)])) ∧ (callP prog tbl [(V.agg 4 [(C.int .i64 x5), 
 (C.int .i64 x6), (C.int .i64 x7), (C.bool b8)])] a200 m3 (fun v9 m10 => (∃ b11 : Bool, 
 ((v9 = (V.c (C.bool b11))) ∧ (ifB b11 (Q (V.c (C.int .i64 x2)) m10) (fitsP .i64 (x2 + (1 : Int)) ∧ 
 (R0 [(V.c (C.int .i64 x1)), (V.c (C.int .i64 (x2 + (1 : Int))))] m10))))))))))))))) (Q (V.c (C.int .i64 (-1 : Int))) m3)) → 
 (R0 [(V.c (C.int .i64 x1)), (V.c (C.int .i64 x2))] m3))))) → (R0 [(V.c (C.int .i64 (0 : Int))), 
 (V.c (C.int .i64 (0 : Int)))] m))))) : Wc prog tbl 124 [(V.c a100), (V.c a200)] m Q :=
 wc_eq (n := 2) rfl (by kernel_rfl) (by kernel_rfl) h
end
end Go.Proofs.Ytgkjfhkjgdiodaa

