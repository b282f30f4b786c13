/- What functions of the program ask and do. Condition: none; a lemma text of this claim. -/
import Derived.Test.YtgkjfhkjgdiodaaTab
import Derived.KernelRfl
namespace Go.Proofs.Ytgkjfhkjgdiodaa
open _root_.Go.Proofs.Try
open Go.Abs
set_option maxRecDepth 100000
noncomputable section
theorem w3 {a100 : Int} {a101 : Int} {a102 : C} {a200 : Int} {a201 : Int} {a202 : Int} {a300 : C} {m : M} {Q : V → M → Prop} (h :
    (∀ m0 : M, ((m0 = (M.new m (AO.cells 3 [(C.int IntKind.i64 a100), (C.int IntKind.i64 a101), a102] false))) → (∀ m1 : M, 
       ((m1 = (M.new m0 (AO.cells 3 [(C.int IntKind.i64 a200), (C.int IntKind.i64 a201), (C.int IntKind.i64 a202)] false))) → 
        (∃ x2 : Int, (∃ x3 : Int, (∃ c4 : C, (((ldA m1 (C.ptr (m).nxt 0) 3) = (Option.some [(C.int IntKind.i64 x2), 
               (C.int IntKind.i64 x3), c4])) ∧ (Wc prog tbl 19 [(V.agg 5 [(C.int IntKind.i64 x2), (C.int IntKind.i64 x3), 
                c4, (C.int IntKind.i64 (0 : Int)), a300])] m1 (fun v5 m6 => (∃ b7 : Bool, ((v5 = (V.c (C.bool b7))) ∧ 
                (ifB (!b7) (Wc prog tbl 20 [] m6 (fun v8 m9 => (∃ b10 : Bool, ((v8 = (V.c (C.bool b10))) ∧ (Q (V.c (C.bool b10)) m9))))) (∃ x11 : Int, 
                  (∃ x12 : Int, (∃ c13 : C, (((ldA m6 (C.ptr (m).nxt 0) 3) = (Option.some [(C.int IntKind.i64 x11), 
                        (C.int IntKind.i64 x12), c13])) ∧ (Wc prog tbl 22 [(V.agg 3 [(C.int IntKind.i64 x11), (C.int IntKind.i64 x12), 
                         c13])] m6 (fun v14 m15 => (∃ x16 : Int, (∃ x17 : Int, (∃ c18 : C, ((v14 = (V.agg 3 [(C.int IntKind.i64 x16), 
                              (C.int IntKind.i64 x17), c18])) ∧ (∃ x19 : Int, (∃ x20 : Int, (∃ x21 : Int, (((ldA m15 (C.ptr (m0).nxt 0) 3) = (Option.some [(C.int IntKind.i64 x19), 
                                  (C.int IntKind.i64 x20), (C.int IntKind.i64 x21)])) ∧ (((ldA m6 (C.ptr (m0).nxt 0) 3) = (Option.some [(C.int IntKind.i64 x19), 
                                  (C.int IntKind.i64 x20), (C.int IntKind.i64 x21)])) ∧ (Wc prog tbl 23 [(V.agg 3 [(C.int IntKind.i64 x19), 
                                  (C.int IntKind.i64 x20), (C.int IntKind.i64 x21)])] m15 (fun v22 m23 => (∃ x24 : Int, 
                                  (∃ x25 : Int, (∃ x26 : Int, ((v22 = (V.agg 3 [(C.int IntKind.i64 x24), (C.int IntKind.i64 x25), 
                                  (C.int IntKind.i64 x26)])) ∧ (Wc prog tbl 21 [(V.agg 3 [(C.int IntKind.i64 x16), 
                                  (C.int IntKind.i64 x17), c18]), (V.agg 3 [(C.int IntKind.i64 x24), (C.int IntKind.i64 x25), 
                                  (C.int IntKind.i64 x26)])] m23 (fun v27 m28 => (∃ c29 : C, (∃ x30 : Int, ((v27 = (V.tup [(U.c c29), 
                                  (U.c (C.int IntKind.i64 x30))])) ∧ (∃ x31 : Int, (∃ x32 : Int, (∃ c33 : C, (((ldA m28 (C.ptr (m).nxt 0) 3) = (Option.some [(C.int IntKind.i64 x31), 
                                  (C.int IntKind.i64 x32), c33])) ∧ (Wc prog tbl 22 [(V.agg 3 [(C.int IntKind.i64 x31), 
                                  (C.int IntKind.i64 x32), c33])] m28 (fun v34 m35 => (∃ x36 : Int, (∃ x37 : Int, 
                                  (∃ c38 : C, ((v34 = (V.agg 3 [(C.int IntKind.i64 x36), (C.int IntKind.i64 x37), 
                                  c38])) ∧ (∃ x39 : Int, (∃ x40 : Int, (∃ x41 : Int, (((ldA m35 (C.ptr (m0).nxt 0) 3) = (Option.some [(C.int IntKind.i64 x39), 
                                  (C.int IntKind.i64 x40), (C.int IntKind.i64 x41)])) ∧ (((ldA m28 (C.ptr (m0).nxt 0) 3) = (Option.some [(C.int IntKind.i64 x39), 
                                  (C.int IntKind.i64 x40), (C.int IntKind.i64 x41)])) ∧ (Wc prog tbl 23 [(V.agg 3 [(C.int IntKind.i64 x39), 
                                  (C.int IntKind.i64 x40), (C.int IntKind.i64 x41)])] m35 (fun v42 m43 => (∃ x44 : Int, 
                                  (∃ x45 : Int, (∃ x46 : Int, ((v42 = (V.agg 3 [(C.int IntKind.i64 x44), (C.int IntKind.i64 x45), 
                                  (C.int IntKind.i64 x46)])) ∧ (Wc prog tbl 25 [(V.c a300)] m43 (fun v47 m48 => 
                                  (∃ c49 : C, ((v47 = (V.c c49)) ∧ (Wc prog tbl 24 [(V.agg 3 [(C.int IntKind.i64 x36), 
                                  (C.int IntKind.i64 x37), c38]), (V.agg 3 [(C.int IntKind.i64 x44), (C.int IntKind.i64 x45), 
                                  (C.int IntKind.i64 x46)]), (V.c c49)] m48 (fun v50 m51 => (∃ c52 : C, (∃ x53 : Int, 
                                  ((v50 = (V.tup [(U.c c52), (U.c (C.int IntKind.i64 x53))])) ∧ (∃ x54 : Int, (∃ x55 : Int, 
                                  (∃ c56 : C, (((ldA m51 (C.ptr (m).nxt 0) 3) = (Option.some [(C.int IntKind.i64 x54), 
                                  (C.int IntKind.i64 x55), c56])) ∧ (Wc prog tbl 26 [(V.agg 3 [(C.int IntKind.i64 x54), 
                                  (C.int IntKind.i64 x55), c56])] m51 (fun v57 m58 => (∃ b59 : Bool, ((v57 = (V.c (C.bool b59))) ∧ 
                                  (ifB (!b59) (∃ x60 : Int, (∃ x61 : Int, (∃ c62 : C, (((ldA m58 (C.ptr (m).nxt 0) 3) = (Option.some [(C.int IntKind.i64 x60), 
                                  (C.int IntKind.i64 x61), c62])) ∧ (Wc prog tbl 22 [(V.agg 3 [(C.int IntKind.i64 x60), 
                                  (C.int IntKind.i64 x61), c62])] m58 (fun v63 m64 => (∃ x65 : Int, (∃ x66 : Int, 
                                  (∃ c67 : C, ((v63 = (V.agg 3 [(C.int IntKind.i64 x65), (C.int IntKind.i64 x66), 
                                  c67])) ∧ (Wc prog tbl 27 [(V.agg 3 [(C.int IntKind.i64 x65), (C.int IntKind.i64 x66), 
                                  c67])] m64 (fun v68 m69 => (∃ x70 : Int, ((v68 = (V.c (C.int IntKind.i64 x70))) ∧ 
                                  (ifB (!decide (x70 = (1 : Int))) (Q (V.c (C.bool false)) m69) (ifB (decide (x30 = (1 : Int))) (ifB (decide (x53 = (1 : Int))) (isSl c29 ∧ 
                                  (isSl c52 ∧ (fitsP IntKind.i64 ((((slLen c29) : Nat) : Int) + (((slLen c52) : Nat) : Int)) ∧ 
                                  (ifB (decide (((((slLen c29) : Nat) : Int) + (((slLen c52) : Nat) : Int)) = (0 : Int))) (Wc prog tbl 20 [] m69 (fun v71 m72 => 
                                  (∃ b73 : Bool, ((v71 = (V.c (C.bool b73))) ∧ (Q (V.c (C.bool b73)) m72))))) (Q (V.c (C.bool false)) m69))))) (Q (V.c (C.bool false)) m69)) (Q (V.c (C.bool false)) m69))))))))))))))))) (∃ x74 : Int, 
                                  (∃ x75 : Int, (∃ c76 : C, (((ldA m58 (C.ptr (m).nxt 0) 3) = (Option.some [(C.int IntKind.i64 x74), 
                                  (C.int IntKind.i64 x75), c76])) ∧ (Wc prog tbl 22 [(V.agg 3 [(C.int IntKind.i64 x74), 
                                  (C.int IntKind.i64 x75), c76])] m58 (fun v77 m78 => (∃ x79 : Int, (∃ x80 : Int, 
                                  (∃ c81 : C, ((v77 = (V.agg 3 [(C.int IntKind.i64 x79), (C.int IntKind.i64 x80), 
                                  c81])) ∧ (Wc prog tbl 27 [(V.agg 3 [(C.int IntKind.i64 x79), (C.int IntKind.i64 x80), 
                                  c81])] m78 (fun v82 m83 => (∃ x84 : Int, ((v82 = (V.c (C.int IntKind.i64 x84))) ∧ 
                                  (ifB (!decide (x84 = (0 : Int))) (Q (V.c (C.bool false)) m83) (∃ x85 : Int, (∃ x86 : Int, 
                                  (∃ c87 : C, (((ldA m83 (C.ptr (m).nxt 0) 3) = (Option.some [(C.int IntKind.i64 x85), 
                                  (C.int IntKind.i64 x86), c87])) ∧ (∃ x88 : Int, (∃ x89 : Int, (∃ x90 : Int, (((ldA m83 (C.ptr (m0).nxt 0) 3) = (Option.some [(C.int IntKind.i64 x88), 
                                  (C.int IntKind.i64 x89), (C.int IntKind.i64 x90)])) ∧ (Wc prog tbl 28 [(V.agg 3 [(C.int IntKind.i64 x85), 
                                  (C.int IntKind.i64 x86), c87]), (V.agg 3 [(C.int IntKind.i64 x88), (C.int IntKind.i64 x89), 
                                  (C.int IntKind.i64 x90)])] m83 (fun v91 m92 => (∃ b93 : Bool, ((v91 = (V.c (C.bool b93))) ∧ 
                                  (ifB (!b93) (ifB (decide (x30 = (2 : Int))) (ifB (decide (x53 = (2 : Int))) (isSl c29 ∧ 
                                  (isSl c52 ∧ (fitsP IntKind.i64 ((((slLen c29) : Nat) : Int) + (((slLen c52) : Nat) : Int)) ∧ 
                                  (ifB (decide (((((slLen c29) : Nat) : Int) + (((slLen c52) : Nat) : Int)) = (0 : Int))) (Wc prog tbl 20 [] m92 (fun v94 m95 => 
                                  (∃ b96 : Bool, ((v94 = (V.c (C.bool b96))) ∧ (Q (V.c (C.bool b96)) m95))))) (Q (V.c (C.bool false)) m92))))) (Q (V.c (C.bool false)) m92)) (Q (V.c (C.bool false)) m92)) (ifB (!decide (x30 = (0 : Int))) (Q (V.c (C.bool false)) m92) (∃ x97 : Int, 
                                  (∃ x98 : Int, (∃ c99 : C, (((ldA m92 (C.ptr (m).nxt 0) 3) = (Option.some [(C.int IntKind.i64 x97), 
                                  (C.int IntKind.i64 x98), c99])) ∧ (∃ x100 : Int, (∃ x101 : Int, (∃ x102 : Int, 
                                  (((ldA m92 (C.ptr (m0).nxt 0) 3) = (Option.some [(C.int IntKind.i64 x100), (C.int IntKind.i64 x101), 
                                  (C.int IntKind.i64 x102)])) ∧ (Wc prog tbl 30 [(V.agg 3 [(C.int IntKind.i64 x97), 
                                  (C.int IntKind.i64 x98), c99]), (V.agg 3 [(C.int IntKind.i64 x100), (C.int IntKind.i64 x101), 
                                  (C.int IntKind.i64 x102)])] m92 (fun v103 m104 => (∃ c105 : C, ((v103 = (V.c c105)) ∧ 
                                  (Wc prog tbl 29 [(V.c c29), (V.c c105)] m104 (fun v106 m107 => (∃ b108 : Bool, 
                                  ((v106 = (V.c (C.bool b108))) ∧ (ifB (!b108) (Q (V.c (C.bool false)) m107) (isSl a300 ∧ 
                                  (ifB (decide ((6 : Int) < (((slLen a300) : Nat) : Int))) (ifB (decide (x53 = (3 : Int))) (isSl c52 ∧ 
                                  (ifB (decide ((((slLen c52) : Nat) : Int) = (0 : Int))) (Wc prog tbl 20 [] m107 (fun v109 m110 => 
                                  (∃ b111 : Bool, ((v109 = (V.c (C.bool b111))) ∧ (Q (V.c (C.bool b111)) m110))))) (Q (V.c (C.bool false)) m107))) (Q (V.c (C.bool false)) m107)) (ifB (decide (x53 = (0 : Int))) (∃ x112 : Int, 
                                  (∃ x113 : Int, (∃ c114 : C, (((ldA m107 (C.ptr (m).nxt 0) 3) = (Option.some [(C.int IntKind.i64 x112), 
                                  (C.int IntKind.i64 x113), c114])) ∧ (∃ x115 : Int, (∃ x116 : Int, (∃ x117 : Int, 
                                  (((ldA m107 (C.ptr (m0).nxt 0) 3) = (Option.some [(C.int IntKind.i64 x115), (C.int IntKind.i64 x116), 
                                  (C.int IntKind.i64 x117)])) ∧ (Wc prog tbl 31 [(V.agg 3 [(C.int IntKind.i64 x112), 
                                  (C.int IntKind.i64 x113), c114]), (V.agg 3 [(C.int IntKind.i64 x115), (C.int IntKind.i64 x116), 
                                  (C.int IntKind.i64 x117)]), (V.c a300)] m107 (fun v118 m119 => (∃ c120 : C, ((v118 = (V.c c120)) ∧ 
                                  (Wc prog tbl 29 [(V.c c52), (V.c c120)] m119 (fun v121 m122 => (∃ b123 : Bool, 
                                  ((v121 = (V.c (C.bool b123))) ∧ (ifB b123 (Wc prog tbl 20 [] m122 (fun v124 m125 => 
                                  (∃ b126 : Bool, ((v124 = (V.c (C.bool b126))) ∧ (Q (V.c (C.bool b126)) m125))))) (Q (V.c (C.bool false)) m122)))))))))))))))))) (Q (V.c (C.bool false)) m107))))))))))))))))))))))))))))))))))))))))))))))))))))))))))))))))))))))))))))))))))))))))))))))))))))))))))))))))))))))))))))))))) : Wc prog tbl 3 [(V.agg 3 [(C.int IntKind.i64 a100), (C.int IntKind.i64 a101), a102]), (V.agg 3 [(C.int IntKind.i64 a200), (C.int IntKind.i64 a201), (C.int IntKind.i64 a202)]), (V.c a300)] m Q :=
  wc_eq (n := 3) rfl (by kernel_rfl) (by kernel_rfl) h
theorem w21 {a100 : Int} {a101 : Int} {a102 : C} {a200 : Int} {a201 : Int} {a202 : Int} {m : M} {Q : V → M → Prop} (h :
    (∀ m0 : M, ((m0 = (M.new m (AO.cells 3 [(C.int IntKind.i64 a100), (C.int IntKind.i64 a101), a102] false))) → (∀ m1 : M, 
       ((m1 = (M.new m0 (AO.cells 3 [(C.int IntKind.i64 a200), (C.int IntKind.i64 a201), (C.int IntKind.i64 a202)] false))) → 
        (∃ x2 : Int, (∃ x3 : Int, (∃ c4 : C, (((ldA m1 (C.ptr (m).nxt 0) 3) = (Option.some [(C.int IntKind.i64 x2), 
               (C.int IntKind.i64 x3), c4])) ∧ (∃ x5 : Int, (∃ x6 : Int, (∃ x7 : Int, (((ldA m1 (C.ptr (m0).nxt 0) 3) = (Option.some [(C.int IntKind.i64 x5), 
                   (C.int IntKind.i64 x6), (C.int IntKind.i64 x7)])) ∧ (Wc prog tbl 69 [(V.agg 3 [(C.int IntKind.i64 x2), 
                    (C.int IntKind.i64 x3), c4]), (V.agg 3 [(C.int IntKind.i64 x5), (C.int IntKind.i64 x6), (C.int IntKind.i64 x7)])] m1 (fun v8 m9 => 
                  (∃ x10 : Int, ((v8 = (V.c (C.int IntKind.i64 x10))) ∧ (ifB (!decide (x10 = (0 : Int))) (Q (V.tup [(U.c C.sl0), 
                        (U.c (C.int IntKind.i64 x10))]) m9) (∃ x11 : Int, (∃ x12 : Int, (∃ c13 : C, (((ldA m9 (C.ptr (m).nxt 0) 3) = (Option.some [(C.int IntKind.i64 x11), 
                            (C.int IntKind.i64 x12), c13])) ∧ (∃ x14 : Int, (∃ x15 : Int, (∃ x16 : Int, (((ldA m9 (C.ptr (m0).nxt 0) 3) = (Option.some [(C.int IntKind.i64 x14), 
                                (C.int IntKind.i64 x15), (C.int IntKind.i64 x16)])) ∧ (Wc prog tbl 70 [(V.agg 3 [(C.int IntKind.i64 x11), 
                                 (C.int IntKind.i64 x12), c13]), (V.agg 3 [(C.int IntKind.i64 x14), (C.int IntKind.i64 x15), 
                                 (C.int IntKind.i64 x16)])] m9 (fun v17 m18 => (∃ c19 : C, ((v17 = (V.c c19)) ∧ 
                                 (Q (V.tup [(U.c c19), (U.c (C.int IntKind.i64 (0 : Int)))]) m18))))))))))))))))))))))))))))))) : Wc prog tbl 21 [(V.agg 3 [(C.int IntKind.i64 a100), (C.int IntKind.i64 a101), a102]), (V.agg 3 [(C.int IntKind.i64 a200), (C.int IntKind.i64 a201), (C.int IntKind.i64 a202)])] m Q :=
  wc_eq (n := 2) rfl (by kernel_rfl) (by kernel_rfl) h
theorem w23 {a100 : Int} {a101 : Int} {a102 : Int} {m : M} {Q : V → M → Prop} (h :
    (∀ m0 : M, ((m0 = (M.new m (AO.cells 3 [(C.int IntKind.i64 a100), (C.int IntKind.i64 a101), (C.int IntKind.i64 a102)] false))) → 
      (∀ m1 : M, ((m1 = (M.new m0 (AO.cells 3 [(C.int IntKind.i64 (0 : Int)), (C.int IntKind.i64 (0 : Int)), (C.int IntKind.i64 (0 : Int))] false))) → 
        (isPt (C.ptr (m).nxt 0) ∧ (∃ x2 : Int, (((ldC m1 (C.ptr (m).nxt 0)) = (Option.some (C.int IntKind.i64 x2))) ∧ 
           (isPt (C.ptr (m).nxt 0) ∧ (∃ x3 : Int, (((ldC m1 (C.ptr (m).nxt 1)) = (Option.some (C.int IntKind.i64 x3))) ∧ 
              (isPt (C.ptr (m).nxt 0) ∧ (∃ x4 : Int, (((ldC m1 (C.ptr (m).nxt 2)) = (Option.some (C.int IntKind.i64 x4))) ∧ 
                 (∃ m5 : M, (((stC m1 (C.ptr (m0).nxt 0) 3 [(C.int IntKind.i64 x2), (C.int IntKind.i64 x3), (C.int IntKind.i64 x4)]) = (Option.some m5)) ∧ 
                   (∃ x6 : Int, (∃ x7 : Int, (∃ x8 : Int, (((ldA m5 (C.ptr (m0).nxt 0) 3) = (Option.some [(C.int IntKind.i64 x6), 
                          (C.int IntKind.i64 x7), (C.int IntKind.i64 x8)])) ∧ (Q (V.agg 3 [(C.int IntKind.i64 x6), 
                          (C.int IntKind.i64 x7), (C.int IntKind.i64 x8)]) m5))))))))))))))))))))) : Wc prog tbl 23 [(V.agg 3 [(C.int IntKind.i64 a100), (C.int IntKind.i64 a101), (C.int IntKind.i64 a102)])] m Q :=
  wc_eq (n := 1) rfl (by kernel_rfl) (by kernel_rfl) h
theorem w25 {a100 : C} {m : M} {Q : V → M → Prop} (h :
    (∀ R0 : List V → M → Prop, ((∀ c1 : C, (∀ x2 : Int, (∀ m3 : M, ((isSl a100 ∧ (ifB (decide (x2 < (((slLen a100) : Nat) : Int))) (∃ n4 : Nat, 
             ((x2 = ((n4 : Nat) : Int)) ∧ ((n4 < (slLen a100)) ∧ (isPt (slAt a100 (n4 * 4)) ∧ (∃ x5 : Int, (((ldC m3 (ptAdd (slAt a100 (n4 * 4)) 0)) = (Option.some (C.int IntKind.i64 x5))) ∧ 
                  (∃ n6 : Nat, ((x2 = ((n6 : Nat) : Int)) ∧ ((n6 < (slLen a100)) ∧ (isPt (slAt a100 (n6 * 4)) ∧ 
                      (∃ x7 : Int, (∃ x8 : Int, (((ldA m3 (ptAdd (slAt a100 (n6 * 4)) 1) 2) = (Option.some [(C.int IntKind.i64 x7), 
                            (C.int IntKind.i64 x8)])) ∧ (Wc prog tbl 45 [(V.agg 2 [(C.int IntKind.i64 x7), (C.int IntKind.i64 x8)])] m3 (fun v9 m10 => 
                           (∃ x11 : Int, (∃ x12 : Int, ((v9 = (V.agg 2 [(C.int IntKind.i64 x11), (C.int IntKind.i64 x12)])) ∧ 
                              (((ldC m10 (ptAdd (slAt a100 (n4 * 4)) 0)) = (Option.some (C.int IntKind.i64 x5))) ∧ 
                               (∃ n13 : Nat, ((x2 = ((n13 : Nat) : Int)) ∧ ((n13 < (slLen a100)) ∧ (isPt (slAt a100 (n13 * 4)) ∧ 
                                  (∃ b14 : Bool, (((ldC m10 (ptAdd (slAt a100 (n13 * 4)) 3)) = (Option.some (C.bool b14))) ∧ 
                                  (((ldC m3 (ptAdd (slAt a100 (n13 * 4)) 3)) = (Option.some (C.bool b14))) ∧ (∀ m15 : M, 
                                  ((m15 = (M.new m10 (AO.cells 4 [(C.int IntKind.i64 x5), (C.int IntKind.i64 x11), 
                                  (C.int IntKind.i64 x12), (C.bool b14)] false))) → (∃ c16 : C, (∃ m17 : M, ((ApR prog 40 m15 c1 (C.sl (m10).nxt 0 1 0 (Option.some 1)) c16 m17) ∧ 
                                  (fitsP IntKind.i64 (x2 + (1 : Int)) ∧ (R0 [(V.c c16), (V.c (C.int IntKind.i64 (x2 + (1 : Int))))] m17))))))))))))))))))))))))))))))))) (Q (V.c c1) m3))) → 
          (R0 [(V.c c1), (V.c (C.int IntKind.i64 x2))] m3))))) → (R0 [(V.c C.sl0), (V.c (C.int IntKind.i64 (0 : Int)))] m)))) : Wc prog tbl 25 [(V.c a100)] m Q :=
  wc_eq (n := 1) rfl (by kernel_rfl) (by kernel_rfl) h
theorem w27 {a100 : Int} {a101 : Int} {a102 : C} {m : M} {Q : V → M → Prop} (h :
    (∀ m0 : M, ((m0 = (M.new m (AO.cells 3 [(C.int IntKind.i64 a100), (C.int IntKind.i64 a101), a102] false))) → (∃ x1 : Int, 
       (∃ x2 : Int, (∃ c3 : C, (((ldA m0 (C.ptr (m).nxt 0) 3) = (Option.some [(C.int IntKind.i64 x1), (C.int IntKind.i64 x2), 
             c3])) ∧ (Wc prog tbl 72 [(V.agg 3 [(C.int IntKind.i64 x1), (C.int IntKind.i64 x2), c3])] m0 (fun v4 m5 => 
            (∃ b6 : Bool, ((v4 = (V.c (C.bool b6))) ∧ (ifB (!b6) (Q (V.c (C.int IntKind.i64 (1 : Int))) m5) (Q (V.c (C.int IntKind.i64 (0 : Int))) m5))))))))))))) : Wc prog tbl 27 [(V.agg 3 [(C.int IntKind.i64 a100), (C.int IntKind.i64 a101), a102])] m Q :=
  wc_eq (n := 1) rfl (by kernel_rfl) (by kernel_rfl) h
theorem w29 {a100 : C} {a200 : C} {m : M} {Q : V → M → Prop} (h :
    (isSl a100 ∧ (isSl a200 ∧ (ifB (decide ((((slLen a100) : Nat) : Int) = (((slLen a200) : Nat) : Int))) (Wc prog tbl 73 [(V.c a100), 
         (V.c a200)] m (fun v0 m1 => (∃ b2 : Bool, ((v0 = (V.c (C.bool b2))) ∧ (ifB (!b2) (Wc prog tbl 73 [(V.c a200), 
              (V.c a100)] m1 (fun v3 m4 => (∃ b5 : Bool, ((v3 = (V.c (C.bool b5))) ∧ (Q (V.c (C.bool (!b5))) m4))))) (Q (V.c (C.bool false)) m1)))))) (Q (V.c (C.bool false)) m))))) : Wc prog tbl 29 [(V.c a100), (V.c a200)] m Q :=
  wc_eq (n := 2) rfl (by kernel_rfl) (by kernel_rfl) h
theorem w31 {a100 : Int} {a101 : Int} {a102 : C} {a200 : Int} {a201 : Int} {a202 : Int} {a300 : C} {m : M} {Q : V → M → Prop} (h :
    (∀ m0 : M, ((m0 = (M.new m (AO.cells 3 [(C.int IntKind.i64 a100), (C.int IntKind.i64 a101), a102] false))) → (∀ m1 : M, 
       ((m1 = (M.new m0 (AO.cells 3 [(C.int IntKind.i64 a200), (C.int IntKind.i64 a201), (C.int IntKind.i64 a202)] false))) → 
        (∃ x2 : Int, (∃ x3 : Int, (∃ c4 : C, (((ldA m1 (C.ptr (m).nxt 0) 3) = (Option.some [(C.int IntKind.i64 x2), 
               (C.int IntKind.i64 x3), c4])) ∧ (∃ x5 : Int, (∃ x6 : Int, (∃ x7 : Int, (((ldA m1 (C.ptr (m0).nxt 0) 3) = (Option.some [(C.int IntKind.i64 x5), 
                   (C.int IntKind.i64 x6), (C.int IntKind.i64 x7)])) ∧ (Wc prog tbl 30 [(V.agg 3 [(C.int IntKind.i64 x2), 
                    (C.int IntKind.i64 x3), c4]), (V.agg 3 [(C.int IntKind.i64 x5), (C.int IntKind.i64 x6), (C.int IntKind.i64 x7)])] m1 (fun v8 m9 => 
                  (∃ c10 : C, ((v8 = (V.c c10)) ∧ (∀ R11 : List V → M → Prop, ((∀ c12 : C, (∀ c13 : C, (∀ x14 : Int, 
                         (∀ m15 : M, ((isSl a300 ∧ (ifB (decide (x14 < (((slLen a300) : Nat) : Int))) (∃ n16 : Nat, 
                              ((x14 = ((n16 : Nat) : Int)) ∧ ((n16 < (slLen a300)) ∧ (isPt (slAt a300 (n16 * 4)) ∧ 
                                 (∃ x17 : Int, (((ldC m15 (ptAdd (slAt a300 (n16 * 4)) 0)) = (Option.some (C.int IntKind.i64 x17))) ∧ 
                                  (Wc prog tbl 61 [(V.c c10), (V.c (C.int IntKind.i64 x17))] m15 (fun v18 m19 => 
                                  (∃ b20 : Bool, ((v18 = (V.c (C.bool b20))) ∧ (ifB (!b20) (∀ m21 : M, ((m21 = (M.new m19 (AO.cells 1 [(C.int IntKind.i64 x14)] false))) → 
                                  (∃ c22 : C, (∃ m23 : M, ((ApR prog 22 m21 c12 (C.sl (m19).nxt 0 1 0 (Option.some 1)) c22 m23) ∧ 
                                  (∀ m24 : M, ((m24 = (M.new m23 (AO.cells 1 [(C.int IntKind.i64 x17)] false))) → 
                                  (∃ c25 : C, (∃ m26 : M, ((ApR prog 22 m24 c13 (C.sl (m23).nxt 0 1 0 (Option.some 1)) c25 m26) ∧ 
                                  (fitsP IntKind.i64 (x14 + (1 : Int)) ∧ (R11 [(V.c c22), (V.c c25), (V.c (C.int IntKind.i64 (x14 + (1 : Int))))] m26)))))))))))) (Wc prog tbl 61 [(V.c c13), 
                                  (V.c (C.int IntKind.i64 x17))] m19 (fun v27 m28 => (∃ b29 : Bool, ((v27 = (V.c (C.bool b29))) ∧ 
                                  (ifB b29 (∀ m30 : M, ((m30 = (M.new m28 (AO.cells 1 [(C.int IntKind.i64 x14)] false))) → 
                                  (∃ c31 : C, (∃ m32 : M, ((ApR prog 22 m30 c12 (C.sl (m28).nxt 0 1 0 (Option.some 1)) c31 m32) ∧ 
                                  (∀ m33 : M, ((m33 = (M.new m32 (AO.cells 1 [(C.int IntKind.i64 x17)] false))) → 
                                  (∃ c34 : C, (∃ m35 : M, ((ApR prog 22 m33 c13 (C.sl (m32).nxt 0 1 0 (Option.some 1)) c34 m35) ∧ 
                                  (fitsP IntKind.i64 (x14 + (1 : Int)) ∧ (R11 [(V.c c31), (V.c c34), (V.c (C.int IntKind.i64 (x14 + (1 : Int))))] m35)))))))))))) (∀ m36 : M, 
                                  ((m36 = (M.new m28 (AO.cells 1 [(C.int IntKind.i64 x17)] false))) → (∃ c37 : C, 
                                  (∃ m38 : M, ((ApR prog 22 m36 c13 (C.sl (m28).nxt 0 1 0 (Option.some 1)) c37 m38) ∧ 
                                  (fitsP IntKind.i64 (x14 + (1 : Int)) ∧ (R11 [(V.c c12), (V.c c37), (V.c (C.int IntKind.i64 (x14 + (1 : Int))))] m38))))))))))))))))))))))) (Q (V.c c12) m15))) → 
                           (R11 [(V.c c12), (V.c c13), (V.c (C.int IntKind.i64 x14))] m15)))))) → (R11 [(V.c C.sl0), 
                        (V.c C.sl0), (V.c (C.int IntKind.i64 (0 : Int)))] m9)))))))))))))))))))) : Wc prog tbl 31 [(V.agg 3 [(C.int IntKind.i64 a100), (C.int IntKind.i64 a101), a102]), (V.agg 3 [(C.int IntKind.i64 a200), (C.int IntKind.i64 a201), (C.int IntKind.i64 a202)]), (V.c a300)] m Q :=
  wc_eq (n := 3) rfl (by kernel_rfl) (by kernel_rfl) h
theorem w44 {a100 : Int} {a200 : Int} {a300 : Int} {m : M} {Q : V → M → Prop} (h :
    (ifB (decide (a200 ≤ a100)) (Q (V.c (C.bool (decide (a100 ≤ a300)))) m) (Q (V.c (C.bool false)) m))) : Wc prog tbl 44 [(V.c (C.int IntKind.i64 a100)), (V.c (C.int IntKind.i64 a200)), (V.c (C.int IntKind.i64 a300))] m Q :=
  wc_eq (n := 3) rfl (by kernel_rfl) (by kernel_rfl) h
theorem w61 {a100 : C} {a200 : Int} {m : M} {Q : V → M → Prop} (h :
    (∀ R0 : List V → M → Prop, ((∀ b1 : Bool, (∀ x2 : Int, (∀ m3 : M, ((isSl a100 ∧ (ifB (decide (x2 < (((slLen a100) : Nat) : Int))) (∃ n4 : Nat, 
             ((x2 = ((n4 : Nat) : Int)) ∧ ((n4 < (slLen a100)) ∧ (∃ x5 : Int, (((ldC m3 (slAt a100 (n4 * 1))) = (Option.some (C.int IntKind.i64 x5))) ∧ 
                 (ifB (decide (x5 = a200)) (Q (V.c (C.bool true)) m3) (fitsP IntKind.i64 (x2 + (1 : Int)) ∧ (R0 [(V.c (C.bool b1)), 
                     (V.c (C.int IntKind.i64 (x2 + (1 : Int))))] m3)))))))) (Q (V.c (C.bool false)) m3))) → (R0 [(V.c (C.bool b1)), 
            (V.c (C.int IntKind.i64 x2))] m3))))) → (R0 [(V.c (C.bool false)), (V.c (C.int IntKind.i64 (0 : Int)))] m)))) : Wc prog tbl 61 [(V.c a100), (V.c (C.int IntKind.i64 a200))] m Q :=
  wc_eq (n := 2) rfl (by kernel_rfl) (by kernel_rfl) h
theorem w70 {a100 : Int} {a101 : Int} {a102 : C} {a200 : Int} {a201 : Int} {a202 : Int} {m : M} {Q : V → M → Prop} (h :
    (∀ m0 : M, ((m0 = (M.new m (AO.cells 3 [(C.int IntKind.i64 a100), (C.int IntKind.i64 a101), a102] false))) → (∀ m1 : M, 
       ((m1 = (M.new m0 (AO.cells 3 [(C.int IntKind.i64 a200), (C.int IntKind.i64 a201), (C.int IntKind.i64 a202)] false))) → 
        (isPt (C.ptr (m0).nxt 0) ∧ (∃ x2 : Int, (((ldC m1 (C.ptr (m0).nxt 0)) = (Option.some (C.int IntKind.i64 x2))) ∧ 
           (isPt (C.ptr (m0).nxt 0) ∧ (∃ x3 : Int, (((ldC m1 (C.ptr (m0).nxt 2)) = (Option.some (C.int IntKind.i64 x3))) ∧ 
              (∀ R4 : List V → M → Prop, ((∀ x5 : Int, (∀ c6 : C, (∀ x7 : Int, (∀ m8 : M, ((ifB (decide (x7 < x3)) (((0 : Int) ≤ (31 : Int)) ∧ 
                       (((0 : Int) ≤ x5) ∧ (fitsP IntKind.i64 ((31 : Int) * x5) ∧ (isPt (C.ptr (m0).nxt 0) ∧ (∃ x9 : Int, 
                           (((ldC m8 (C.ptr (m0).nxt 1)) = (Option.some (C.int IntKind.i64 x9))) ∧ (fitsP IntKind.i64 (((31 : Int) * x5) + x9) ∧ 
                             (fitsP IntKind.i64 ((((31 : Int) * x5) + x9) + x7) ∧ (((0 : Int) ≤ ((((31 : Int) * x5) + x9) + x7)) ∧ 
                               (((0 : Int) < (9973 : Int)) ∧ (fitsP IntKind.i64 (((((31 : Int) * x5) + x9) + x7) % (9973 : Int)) ∧ 
                                 (∃ x10 : Int, (∃ x11 : Int, (∃ c12 : C, (((ldA m8 (C.ptr (m).nxt 0) 3) = (Option.some [(C.int IntKind.i64 x10), 
                                  (C.int IntKind.i64 x11), c12])) ∧ (Wc prog tbl 88 [(V.agg 3 [(C.int IntKind.i64 x10), 
                                  (C.int IntKind.i64 x11), c12])] m8 (fun v13 m14 => (∃ x15 : Int, ((v13 = (V.c (C.int IntKind.i64 x15))) ∧ 
                                  (((0 : Int) ≤ (((((31 : Int) * x5) + x9) + x7) % (9973 : Int))) ∧ (((0 : Int) < x15) ∧ 
                                  (fitsP IntKind.i64 ((((((31 : Int) * x5) + x9) + x7) % (9973 : Int)) % x15) ∧ 
                                  (∀ R16 : List V → M → Prop, ((∀ x17 : Int, (∀ m18 : M, ((Wc prog tbl 93 [(V.c c6), 
                                  (V.c (C.int IntKind.i64 x17))] m18 (fun v19 m20 => (∃ b21 : Bool, ((v19 = (V.c (C.bool b21))) ∧ 
                                  (ifB b21 (fitsP IntKind.i64 (x17 + (1 : Int)) ∧ (∃ x22 : Int, (∃ x23 : Int, (∃ c24 : C, 
                                  (((ldA m20 (C.ptr (m).nxt 0) 3) = (Option.some [(C.int IntKind.i64 x22), (C.int IntKind.i64 x23), 
                                  c24])) ∧ (Wc prog tbl 88 [(V.agg 3 [(C.int IntKind.i64 x22), (C.int IntKind.i64 x23), 
                                  c24])] m20 (fun v25 m26 => (∃ x27 : Int, ((v25 = (V.c (C.int IntKind.i64 x27))) ∧ 
                                  (((0 : Int) ≤ (x17 + (1 : Int))) ∧ (((0 : Int) < x27) ∧ (fitsP IntKind.i64 ((x17 + (1 : Int)) % x27) ∧ 
                                  (R16 [(V.c (C.int IntKind.i64 ((x17 + (1 : Int)) % x27)))] m26))))))))))))) (∀ m28 : M, 
                                  ((m28 = (M.new m20 (AO.cells 1 [(C.int IntKind.i64 x17)] false))) → (∃ c29 : C, 
                                  (∃ m30 : M, ((ApR prog 22 m28 c6 (C.sl (m20).nxt 0 1 0 (Option.some 1)) c29 m30) ∧ 
                                  (fitsP IntKind.i64 (x7 + (1 : Int)) ∧ (R4 [(V.c (C.int IntKind.i64 (((((31 : Int) * x5) + x9) + x7) % (9973 : Int)))), 
                                  (V.c c29), (V.c (C.int IntKind.i64 (x7 + (1 : Int))))] m30)))))))))))) → (R16 [(V.c (C.int IntKind.i64 x17))] m18)))) → 
                                  (R16 [(V.c (C.int IntKind.i64 ((((((31 : Int) * x5) + x9) + x7) % (9973 : Int)) % x15)))] m14))))))))))))))))))))))))) (Q (V.c c6) m8)) → 
                     (R4 [(V.c (C.int IntKind.i64 x5)), (V.c c6), (V.c (C.int IntKind.i64 x7))] m8)))))) → (R4 [(V.c (C.int IntKind.i64 x2)), 
                  (V.c C.sl0), (V.c (C.int IntKind.i64 (0 : Int)))] m1)))))))))))))) : Wc prog tbl 70 [(V.agg 3 [(C.int IntKind.i64 a100), (C.int IntKind.i64 a101), a102]), (V.agg 3 [(C.int IntKind.i64 a200), (C.int IntKind.i64 a201), (C.int IntKind.i64 a202)])] m Q :=
  wc_eq (n := 2) rfl (by kernel_rfl) (by kernel_rfl) h
theorem w72 {a100 : Int} {a101 : Int} {a102 : C} {m : M} {Q : V → M → Prop} (h :
    (∀ m0 : M, ((m0 = (M.new m (AO.cells 3 [(C.int IntKind.i64 a100), (C.int IntKind.i64 a101), a102] false))) → (∀ m1 : M, 
       ((m1 = (M.new m0 (AO.cells 2 [(C.int IntKind.i64 (0 : Int)), (C.int IntKind.i64 (0 : Int))] false))) → (∃ m2 : M, 
         (((stC m1 (C.ptr (m0).nxt 0) 2 [(C.int IntKind.i64 (1 : Int)), (C.int IntKind.i64 (4 : Int))]) = (Option.some m2)) ∧ 
          (∃ x3 : Int, (∃ x4 : Int, (((ldA m2 (C.ptr (m0).nxt 0) 2) = (Option.some [(C.int IntKind.i64 x3), (C.int IntKind.i64 x4)])) ∧ 
             (isPt (C.ptr (m).nxt 0) ∧ (∃ x5 : Int, (((ldC m2 (C.ptr (m).nxt 0)) = (Option.some (C.int IntKind.i64 x5))) ∧ 
                (Wc prog tbl 92 [(V.agg 2 [(C.int IntKind.i64 x3), (C.int IntKind.i64 x4)]), (V.c (C.int IntKind.i64 x5))] m2 (fun v6 m7 => 
                  (∃ b8 : Bool, ((v6 = (V.c (C.bool b8))) ∧ (ifB b8 (∃ x9 : Int, (∃ x10 : Int, (((ldA m7 (C.ptr (m0).nxt 0) 2) = (Option.some [(C.int IntKind.i64 x9), 
                           (C.int IntKind.i64 x10)])) ∧ (isPt (C.ptr (m).nxt 0) ∧ (∃ x11 : Int, (((ldC m7 (C.ptr (m).nxt 1)) = (Option.some (C.int IntKind.i64 x11))) ∧ 
                           (Wc prog tbl 92 [(V.agg 2 [(C.int IntKind.i64 x9), (C.int IntKind.i64 x10)]), (V.c (C.int IntKind.i64 x11))] m7 (fun v12 m13 => 
                             (∃ b14 : Bool, ((v12 = (V.c (C.bool b14))) ∧ (ifB b14 (∃ x15 : Int, (∃ x16 : Int, 
                                  (∃ c17 : C, (((ldA m13 (C.ptr (m).nxt 0) 3) = (Option.some [(C.int IntKind.i64 x15), 
                                  (C.int IntKind.i64 x16), c17])) ∧ (Wc prog tbl 88 [(V.agg 3 [(C.int IntKind.i64 x15), 
                                  (C.int IntKind.i64 x16), c17])] m13 (fun v18 m19 => (∃ x20 : Int, ((v18 = (V.c (C.int IntKind.i64 x20))) ∧ 
                                  (ifB (decide (x20 ≤ (9 : Int))) (isPt (C.ptr (m).nxt 0) ∧ (∃ c21 : C, (((ldC m19 (C.ptr (m).nxt 2)) = (Option.some c21)) ∧ 
                                  (isSl c21 ∧ (∃ x22 : Int, (∃ x23 : Int, (∃ c24 : C, (((ldA m19 (C.ptr (m).nxt 0) 3) = (Option.some [(C.int IntKind.i64 x22), 
                                  (C.int IntKind.i64 x23), c24])) ∧ (Wc prog tbl 88 [(V.agg 3 [(C.int IntKind.i64 x22), 
                                  (C.int IntKind.i64 x23), c24])] m19 (fun v25 m26 => (∃ x27 : Int, ((v25 = (V.c (C.int IntKind.i64 x27))) ∧ 
                                  ((isSl c21 ∧ ((V.c (C.int IntKind.i64 (((slLen c21) : Nat) : Int))) = (V.c (C.int IntKind.i64 (((slLen c21) : Nat) : Int))))) ∧ 
                                  ((ifB (noFnC c21) ((ldC m26 (C.ptr (m).nxt 2)) = (Option.some c21)) False) ∧ 
                                  (ifB (decide ((((slLen c21) : Nat) : Int) = x27)) (isPt (C.ptr (m).nxt 0) ∧ (∃ c28 : C, 
                                  (((ldC m26 (C.ptr (m).nxt 2)) = (Option.some c28)) ∧ (Wc prog tbl 94 [(V.c c28), 
                                  (V.c (C.fn (Fn.func 95) [] []))] m26 (fun v29 m30 => (∃ b31 : Bool, ((v29 = (V.c (C.bool b31))) ∧ 
                                  (Q (V.c (C.bool b31)) m30)))))))) (Q (V.c (C.bool false)) m26)))))))))))))))) (Q (V.c (C.bool false)) m19)))))))))) (Q (V.c (C.bool false)) m13)))))))))))) (Q (V.c (C.bool false)) m7))))))))))))))))))) : Wc prog tbl 72 [(V.agg 3 [(C.int IntKind.i64 a100), (C.int IntKind.i64 a101), a102])] m Q :=
  wc_eq (n := 1) rfl (by kernel_rfl) (by kernel_rfl) h
theorem w92 {a100 : Int} {a101 : Int} {a200 : Int} {m : M} {Q : V → M → Prop} (h :
    (∀ m0 : M, ((m0 = (M.new m (AO.cells 2 [(C.int IntKind.i64 a100), (C.int IntKind.i64 a101)] false))) → (isPt (C.ptr (m).nxt 0) ∧ 
       (∃ x1 : Int, (((ldC m0 (C.ptr (m).nxt 0)) = (Option.some (C.int IntKind.i64 x1))) ∧ (ifB (decide (x1 ≤ a200)) (isPt (C.ptr (m).nxt 0) ∧ 
           (∃ x2 : Int, (((ldC m0 (C.ptr (m).nxt 1)) = (Option.some (C.int IntKind.i64 x2))) ∧ (Q (V.c (C.bool (decide (a200 ≤ x2)))) m0)))) (Q (V.c (C.bool false)) m0)))))))) : Wc prog tbl 92 [(V.agg 2 [(C.int IntKind.i64 a100), (C.int IntKind.i64 a101)]), (V.c (C.int IntKind.i64 a200))] m Q :=
  wc_eq (n := 2) rfl (by kernel_rfl) (by kernel_rfl) h
theorem w94 {a100 : C} {a200 : C} {m : M} {Q : V → M → Prop} (h :
    (∀ m0 : M, ((m0 = (M.new m (AO.cells 1 [a200] false))) → (Wc prog tbl 110 [(V.c a100), (V.c (C.fn (Fn.func 111) [] [(W.c (C0.ptr (m).nxt 0))]))] m0 (fun v1 m2 => 
        (∃ b3 : Bool, ((v1 = (V.c (C.bool b3))) ∧ (Q (V.c (C.bool (!b3))) m2)))))))) : Wc prog tbl 94 [(V.c a100), (V.c a200)] m Q :=
  wc_eq (n := 2) rfl (by kernel_rfl) (by kernel_rfl) h
theorem w109 {a100 : C} {a200 : Int} {m : M} {Q : V → M → Prop} (h :
    (isSl a100 ∧ (∀ R0 : List V → M → Prop, ((∀ x1 : Int, (∀ x2 : Int, (∀ m3 : M, ((ifB (decide (x2 < (((slLen a100) : Nat) : Int))) (∃ n4 : Nat, 
             ((x2 = ((n4 : Nat) : Int)) ∧ ((n4 < (slLen a100)) ∧ (∃ x5 : Int, (((ldC m3 (slAt a100 (n4 * 1))) = (Option.some (C.int IntKind.i64 x5))) ∧ 
                 (ifB (decide (a200 = x5)) (Q (V.c (C.int IntKind.i64 x2)) m3) (fitsP IntKind.i64 (x2 + (1 : Int)) ∧ 
                   (R0 [(V.c (C.int IntKind.i64 x1)), (V.c (C.int IntKind.i64 (x2 + (1 : Int))))] m3)))))))) (Q (V.c (C.int IntKind.i64 (-1 : Int))) m3)) → 
           (R0 [(V.c (C.int IntKind.i64 x1)), (V.c (C.int IntKind.i64 x2))] m3))))) → (R0 [(V.c (C.int IntKind.i64 (0 : Int))), 
         (V.c (C.int IntKind.i64 (0 : Int)))] m))))) : Wc prog tbl 109 [(V.c a100), (V.c (C.int IntKind.i64 a200))] m Q :=
  wc_eq (n := 2) rfl (by kernel_rfl) (by kernel_rfl) h
theorem w122 {a100 : C} {a200 : C} {m : M} {Q : V → M → Prop} (h :
    (isSl a100 ∧ (∀ R0 : List V → M → Prop, ((∀ x1 : Int, (∀ x2 : Int, (∀ m3 : M, ((ifB (decide (x2 < (((slLen a100) : Nat) : Int))) (∃ n4 : Nat, 
             ((x2 = ((n4 : Nat) : Int)) ∧ ((n4 < (slLen a100)) ∧ (∃ x5 : Int, (((ldC m3 (slAt a100 (n4 * 1))) = (Option.some (C.int IntKind.i64 x5))) ∧ 
                 (callP prog tbl [(V.c (C.int IntKind.i64 x5))] a200 m3 (fun v6 m7 => (∃ b8 : Bool, ((v6 = (V.c (C.bool b8))) ∧ 
                     (ifB b8 (Q (V.c (C.int IntKind.i64 x2)) m7) (fitsP IntKind.i64 (x2 + (1 : Int)) ∧ (R0 [(V.c (C.int IntKind.i64 x1)), 
                         (V.c (C.int IntKind.i64 (x2 + (1 : Int))))] m7)))))))))))) (Q (V.c (C.int IntKind.i64 (-1 : Int))) m3)) → 
           (R0 [(V.c (C.int IntKind.i64 x1)), (V.c (C.int IntKind.i64 x2))] m3))))) → (R0 [(V.c (C.int IntKind.i64 (0 : Int))), 
         (V.c (C.int IntKind.i64 (0 : Int)))] m))))) : Wc prog tbl 122 [(V.c a100), (V.c a200)] m Q :=
  wc_eq (n := 2) rfl (by kernel_rfl) (by kernel_rfl) h

end
end Go.Proofs.Ytgkjfhkjgdiodaa

namespace Go.Proofs.Ytgkjfhkjgdiodaa
open _root_.Go.Proofs.Try
open Go.Abs
set_option maxRecDepth 100000
noncomputable section
theorem w19 {a100 : Int} {a101 : Int} {a102 : C} {a103 : Int} {a104 : C} {m : M} {Q : V → M → Prop} (h :
    (∀ m0 : M, ((m0 = (M.new m (AO.cells 5 [(C.int IntKind.i64 a100), (C.int IntKind.i64 a101), a102, (C.int IntKind.i64 a103), 
          a104] false))) → (isPt (C.ptr (m).nxt 0) ∧ (isPt (C.ptr (m).nxt 0) ∧ (∃ c1 : C, (((ldC m0 (C.ptr (m).nxt 2)) = (Option.some c1)) ∧ 
          (isSl c1 ∧ (ifB (decide ((((slLen c1) : Nat) : Int) ≤ (12 : Int))) (isPt (C.ptr (m).nxt 0) ∧ (∃ c2 : C, 
              (((ldC m0 (C.ptr (m).nxt 4)) = (Option.some c2)) ∧ (isSl c2 ∧ (Q (V.c (C.bool (decide ((((slLen c2) : Nat) : Int) ≤ (9 : Int))))) m0))))) (Q (V.c (C.bool false)) m0)))))))))) : Wc prog tbl 19 [(V.agg 5 [(C.int IntKind.i64 a100), (C.int IntKind.i64 a101), a102, (C.int IntKind.i64 a103), a104])] m Q :=
  wc_eq (n := 1) rfl (by kernel_rfl) (by kernel_rfl) h
theorem w22 {a100 : Int} {a101 : Int} {a102 : C} {m : M} {Q : V → M → Prop} (h :
    (∀ m0 : M, ((m0 = (M.new m (AO.cells 3 [(C.int IntKind.i64 a100), (C.int IntKind.i64 a101), a102] false))) → (∀ m1 : M, 
       ((m1 = (M.new m0 (AO.cells 3 [(C.int IntKind.i64 (0 : Int)), (C.int IntKind.i64 (0 : Int)), C.sl0] false))) → 
        (isPt (C.ptr (m).nxt 0) ∧ (∃ x2 : Int, (((ldC m1 (C.ptr (m).nxt 0)) = (Option.some (C.int IntKind.i64 x2))) ∧ 
           (isPt (C.ptr (m).nxt 0) ∧ (∃ x3 : Int, (((ldC m1 (C.ptr (m).nxt 1)) = (Option.some (C.int IntKind.i64 x3))) ∧ 
              (isPt (C.ptr (m).nxt 0) ∧ (∃ c4 : C, (((ldC m1 (C.ptr (m).nxt 2)) = (Option.some c4)) ∧ (Wc prog tbl 34 [(V.c c4)] m1 (fun v5 m6 => 
                   (∃ c7 : C, ((v5 = (V.c c7)) ∧ (((ldC m6 (C.ptr (m).nxt 1)) = (Option.some (C.int IntKind.i64 x3))) ∧ 
                      (((ldC m6 (C.ptr (m).nxt 0)) = (Option.some (C.int IntKind.i64 x2))) ∧ (∃ m8 : M, (((stC m6 (C.ptr (m0).nxt 0) 3 [(C.int IntKind.i64 x2), 
                            (C.int IntKind.i64 x3), c7]) = (Option.some m8)) ∧ (∃ x9 : Int, (∃ x10 : Int, (∃ c11 : C, 
                            (((ldA m8 (C.ptr (m0).nxt 0) 3) = (Option.some [(C.int IntKind.i64 x9), (C.int IntKind.i64 x10), 
                                c11])) ∧ (Q (V.agg 3 [(C.int IntKind.i64 x9), (C.int IntKind.i64 x10), c11]) m8))))))))))))))))))))))))))) : Wc prog tbl 22 [(V.agg 3 [(C.int IntKind.i64 a100), (C.int IntKind.i64 a101), a102])] m Q :=
  wc_eq (n := 1) rfl (by kernel_rfl) (by kernel_rfl) h
theorem w24 {a100 : Int} {a101 : Int} {a102 : C} {a200 : Int} {a201 : Int} {a202 : Int} {a300 : C} {m : M} {Q : V → M → Prop} (h :
    (∀ m0 : M, ((m0 = (M.new m (AO.cells 3 [(C.int IntKind.i64 a100), (C.int IntKind.i64 a101), a102] false))) → (∀ m1 : M, 
       ((m1 = (M.new m0 (AO.cells 3 [(C.int IntKind.i64 a200), (C.int IntKind.i64 a201), (C.int IntKind.i64 a202)] false))) → 
        (∃ x2 : Int, (∃ x3 : Int, (∃ c4 : C, (((ldA m1 (C.ptr (m).nxt 0) 3) = (Option.some [(C.int IntKind.i64 x2), 
               (C.int IntKind.i64 x3), c4])) ∧ (∃ x5 : Int, (∃ x6 : Int, (∃ x7 : Int, (((ldA m1 (C.ptr (m0).nxt 0) 3) = (Option.some [(C.int IntKind.i64 x5), 
                   (C.int IntKind.i64 x6), (C.int IntKind.i64 x7)])) ∧ (Wc prog tbl 69 [(V.agg 3 [(C.int IntKind.i64 x2), 
                    (C.int IntKind.i64 x3), c4]), (V.agg 3 [(C.int IntKind.i64 x5), (C.int IntKind.i64 x6), (C.int IntKind.i64 x7)])] m1 (fun v8 m9 => 
                  (∃ x10 : Int, ((v8 = (V.c (C.int IntKind.i64 x10))) ∧ (ifB (!decide (x10 = (0 : Int))) (Q (V.tup [(U.c C.sl0), 
                        (U.c (C.int IntKind.i64 x10))]) m9) (isSl a300 ∧ (ifB (decide ((6 : Int) < (((slLen a300) : Nat) : Int))) (Q (V.tup [(U.c C.sl0), 
                          (U.c (C.int IntKind.i64 (3 : Int)))]) m9) (∃ x11 : Int, (∃ x12 : Int, (∃ c13 : C, (((ldA m9 (C.ptr (m).nxt 0) 3) = (Option.some [(C.int IntKind.i64 x11), 
                              (C.int IntKind.i64 x12), c13])) ∧ (∃ x14 : Int, (∃ x15 : Int, (∃ x16 : Int, (((ldA m9 (C.ptr (m0).nxt 0) 3) = (Option.some [(C.int IntKind.i64 x14), 
                                  (C.int IntKind.i64 x15), (C.int IntKind.i64 x16)])) ∧ (Wc prog tbl 70 [(V.agg 3 [(C.int IntKind.i64 x11), 
                                  (C.int IntKind.i64 x12), c13]), (V.agg 3 [(C.int IntKind.i64 x14), (C.int IntKind.i64 x15), 
                                  (C.int IntKind.i64 x16)])] m9 (fun v17 m18 => (∃ c19 : C, ((v17 = (V.c c19)) ∧ 
                                  (Wc prog tbl 71 [(V.c c19), (V.c a300)] m18 (fun v20 m21 => (∃ c22 : C, ((v20 = (V.c c22)) ∧ 
                                  (Q (V.tup [(U.c c22), (U.c (C.int IntKind.i64 (0 : Int)))]) m21))))))))))))))))))))))))))))))))))))) : Wc prog tbl 24 [(V.agg 3 [(C.int IntKind.i64 a100), (C.int IntKind.i64 a101), a102]), (V.agg 3 [(C.int IntKind.i64 a200), (C.int IntKind.i64 a201), (C.int IntKind.i64 a202)]), (V.c a300)] m Q :=
  wc_eq (n := 3) rfl (by kernel_rfl) (by kernel_rfl) h
theorem w26 {a100 : Int} {a101 : Int} {a102 : C} {m : M} {Q : V → M → Prop} (h :
    (∀ m0 : M, ((m0 = (M.new m (AO.cells 3 [(C.int IntKind.i64 a100), (C.int IntKind.i64 a101), a102] false))) → (isPt (C.ptr (m).nxt 0) ∧ 
       (∃ x1 : Int, (((ldC m0 (C.ptr (m).nxt 0)) = (Option.some (C.int IntKind.i64 x1))) ∧ (Wc prog tbl 44 [(V.c (C.int IntKind.i64 x1)), 
           (V.c (C.int IntKind.i64 (1 : Int))), (V.c (C.int IntKind.i64 (4 : Int)))] m0 (fun v2 m3 => (∃ b4 : Bool, 
            ((v2 = (V.c (C.bool b4))) ∧ (ifB (!b4) (Q (V.c (C.bool false)) m3) (isPt (C.ptr (m).nxt 0) ∧ (∃ x5 : Int, 
                (((ldC m3 (C.ptr (m).nxt 1)) = (Option.some (C.int IntKind.i64 x5))) ∧ (Wc prog tbl 44 [(V.c (C.int IntKind.i64 x5)), 
                   (V.c (C.int IntKind.i64 (1 : Int))), (V.c (C.int IntKind.i64 (4 : Int)))] m3 (fun v6 m7 => (∃ b8 : Bool, 
                    ((v6 = (V.c (C.bool b8))) ∧ (ifB (!b8) (Q (V.c (C.bool false)) m7) (isPt (C.ptr (m).nxt 0) ∧ 
                       (∃ x9 : Int, (((ldC m7 (C.ptr (m).nxt 0)) = (Option.some (C.int IntKind.i64 x9))) ∧ (isPt (C.ptr (m).nxt 0) ∧ 
                          (∃ x10 : Int, (((ldC m7 (C.ptr (m).nxt 1)) = (Option.some (C.int IntKind.i64 x10))) ∧ 
                            (((0 : Int) ≤ x9) ∧ (((0 : Int) ≤ x10) ∧ (fitsP IntKind.i64 (x9 * x10) ∧ (ifB (decide ((9 : Int) < (x9 * x10))) (Q (V.c (C.bool false)) m7) (isPt (C.ptr (m).nxt 0) ∧ 
                                 (∃ c11 : C, (((ldC m7 (C.ptr (m).nxt 2)) = (Option.some c11)) ∧ (isSl c11 ∧ (isPt (C.ptr (m).nxt 0) ∧ 
                                  (∃ x12 : Int, (((ldC m7 (C.ptr (m).nxt 0)) = (Option.some (C.int IntKind.i64 x12))) ∧ 
                                  (isPt (C.ptr (m).nxt 0) ∧ (∃ x13 : Int, (((ldC m7 (C.ptr (m).nxt 1)) = (Option.some (C.int IntKind.i64 x13))) ∧ 
                                  (((0 : Int) ≤ x12) ∧ (((0 : Int) ≤ x13) ∧ (fitsP IntKind.i64 (x12 * x13) ∧ (ifB (!decide ((((slLen c11) : Nat) : Int) = (x12 * x13))) (Q (V.c (C.bool false)) m7) (∀ R14 : List V → 
                                  M → Prop, ((∀ b15 : Bool, (∀ x16 : Int, (∀ m17 : M, ((isPt (C.ptr (m).nxt 0) ∧ 
                                  (∃ c18 : C, (((ldC m17 (C.ptr (m).nxt 2)) = (Option.some c18)) ∧ (isSl c18 ∧ 
                                  (ifB (decide (x16 < (((slLen c18) : Nat) : Int))) (isPt (C.ptr (m).nxt 0) ∧ (∃ c19 : C, 
                                  (((ldC m17 (C.ptr (m).nxt 2)) = (Option.some c19)) ∧ (∃ n20 : Nat, ((x16 = ((n20 : Nat) : Int)) ∧ 
                                  ((n20 < (slLen c19)) ∧ (∃ x21 : Int, (((ldC m17 (slAt c19 (n20 * 1))) = (Option.some (C.int IntKind.i64 x21))) ∧ 
                                  (Wc prog tbl 44 [(V.c (C.int IntKind.i64 x21)), (V.c (C.int IntKind.i64 (0 : Int))), 
                                  (V.c (C.int IntKind.i64 (9 : Int)))] m17 (fun v22 m23 => (∃ b24 : Bool, ((v22 = (V.c (C.bool b24))) ∧ 
                                  (ifB (!b24) (Q (V.c (C.bool false)) m23) (fitsP IntKind.i64 (x16 + (1 : Int)) ∧ 
                                  (R14 [(V.c (C.bool b15)), (V.c (C.int IntKind.i64 (x16 + (1 : Int))))] m23))))))))))))))) (Q (V.c (C.bool true)) m17)))))) → 
                                  (R14 [(V.c (C.bool b15)), (V.c (C.int IntKind.i64 x16))] m17))))) → (R14 [(V.c (C.bool false)), 
                                  (V.c (C.int IntKind.i64 (0 : Int)))] m7)))))))))))))))))))))))))))))))))))))))))))))) : Wc prog tbl 26 [(V.agg 3 [(C.int IntKind.i64 a100), (C.int IntKind.i64 a101), a102])] m Q :=
  wc_eq (n := 1) rfl (by kernel_rfl) (by kernel_rfl) h
theorem w28 {a100 : Int} {a101 : Int} {a102 : C} {a200 : Int} {a201 : Int} {a202 : Int} {m : M} {Q : V → M → Prop} (h :
    (∀ m0 : M, ((m0 = (M.new m (AO.cells 3 [(C.int IntKind.i64 a100), (C.int IntKind.i64 a101), a102] false))) → (∀ m1 : M, 
       ((m1 = (M.new m0 (AO.cells 3 [(C.int IntKind.i64 a200), (C.int IntKind.i64 a201), (C.int IntKind.i64 a202)] false))) → 
        (isPt (C.ptr (m0).nxt 0) ∧ (∃ x2 : Int, (((ldC m1 (C.ptr (m0).nxt 0)) = (Option.some (C.int IntKind.i64 x2))) ∧ 
           (Wc prog tbl 44 [(V.c (C.int IntKind.i64 x2)), (V.c (C.int IntKind.i64 (0 : Int))), (V.c (C.int IntKind.i64 (9999 : Int)))] m1 (fun v3 m4 => 
             (∃ b5 : Bool, ((v3 = (V.c (C.bool b5))) ∧ (ifB b5 (isPt (C.ptr (m0).nxt 0) ∧ (∃ x6 : Int, (((ldC m4 (C.ptr (m0).nxt 1)) = (Option.some (C.int IntKind.i64 x6))) ∧ 
                   (Wc prog tbl 44 [(V.c (C.int IntKind.i64 x6)), (V.c (C.int IntKind.i64 (0 : Int))), (V.c (C.int IntKind.i64 (9999 : Int)))] m4 (fun v7 m8 => 
                     (∃ b9 : Bool, ((v7 = (V.c (C.bool b9))) ∧ (ifB b9 (isPt (C.ptr (m0).nxt 0) ∧ (∃ x10 : Int, 
                          (((ldC m8 (C.ptr (m0).nxt 2)) = (Option.some (C.int IntKind.i64 x10))) ∧ (Wc prog tbl 44 [(V.c (C.int IntKind.i64 x10)), 
                             (V.c (C.int IntKind.i64 (0 : Int))), (V.c (C.int IntKind.i64 (6 : Int)))] m8 (fun v11 m12 => 
                             (∃ b13 : Bool, ((v11 = (V.c (C.bool b13))) ∧ (ifB b13 (isPt (C.ptr (m0).nxt 0) ∧ (∃ x14 : Int, 
                                  (((ldC m12 (C.ptr (m0).nxt 2)) = (Option.some (C.int IntKind.i64 x14))) ∧ (isPt (C.ptr (m).nxt 0) ∧ 
                                  (∃ c15 : C, (((ldC m12 (C.ptr (m).nxt 2)) = (Option.some c15)) ∧ (isSl c15 ∧ 
                                  (Q (V.c (C.bool (decide (x14 ≤ (((slLen c15) : Nat) : Int))))) m12)))))))) (Q (V.c (C.bool false)) m12))))))))) (Q (V.c (C.bool false)) m8))))))))) (Q (V.c (C.bool false)) m4)))))))))))))) : Wc prog tbl 28 [(V.agg 3 [(C.int IntKind.i64 a100), (C.int IntKind.i64 a101), a102]), (V.agg 3 [(C.int IntKind.i64 a200), (C.int IntKind.i64 a201), (C.int IntKind.i64 a202)])] m Q :=
  wc_eq (n := 2) rfl (by kernel_rfl) (by kernel_rfl) h
theorem w30 {a100 : Int} {a101 : Int} {a102 : C} {a200 : Int} {a201 : Int} {a202 : Int} {m : M} {Q : V → M → Prop} (h :
    (∀ m0 : M, ((m0 = (M.new m (AO.cells 3 [(C.int IntKind.i64 a100), (C.int IntKind.i64 a101), a102] false))) → (∀ m1 : M, 
       ((m1 = (M.new m0 (AO.cells 3 [(C.int IntKind.i64 a200), (C.int IntKind.i64 a201), (C.int IntKind.i64 a202)] false))) → 
        (∀ m2 : M, ((m2 = (M.new m1 (AO.cells 9 [(C.bool false), (C.bool false), (C.bool false), (C.bool false), 
              (C.bool false), (C.bool false), (C.bool false), (C.bool false), (C.bool false)] false))) → (isPt (C.ptr (m0).nxt 0) ∧ 
           (∃ x3 : Int, (((ldC m2 (C.ptr (m0).nxt 0)) = (Option.some (C.int IntKind.i64 x3))) ∧ (∀ R4 : List V → 
              M → Prop, ((∀ x5 : Int, (∀ c6 : C, (∀ x7 : Int, (∀ m8 : M, ((isPt (C.ptr (m0).nxt 0) ∧ (∃ x9 : Int, 
                      (((ldC m8 (C.ptr (m0).nxt 2)) = (Option.some (C.int IntKind.i64 x9))) ∧ (ifB (decide (x7 < x9)) (((0 : Int) ≤ (31 : Int)) ∧ 
                         (((0 : Int) ≤ x5) ∧ (fitsP IntKind.i64 ((31 : Int) * x5) ∧ (isPt (C.ptr (m0).nxt 0) ∧ 
                            (∃ x10 : Int, (((ldC m8 (C.ptr (m0).nxt 1)) = (Option.some (C.int IntKind.i64 x10))) ∧ 
                              (fitsP IntKind.i64 (((31 : Int) * x5) + x10) ∧ (fitsP IntKind.i64 ((((31 : Int) * x5) + x10) + x7) ∧ 
                                (((0 : Int) ≤ ((((31 : Int) * x5) + x10) + x7)) ∧ (((0 : Int) < (9973 : Int)) ∧ 
                                  (fitsP IntKind.i64 (((((31 : Int) * x5) + x10) + x7) % (9973 : Int)) ∧ (isPt (C.ptr (m).nxt 0) ∧ 
                                  (∃ c11 : C, (((ldC m8 (C.ptr (m).nxt 2)) = (Option.some c11)) ∧ (isSl c11 ∧ (((0 : Int) ≤ (((((31 : Int) * x5) + x10) + x7) % (9973 : Int))) ∧ 
                                  (((0 : Int) < (((slLen c11) : Nat) : Int)) ∧ (fitsP IntKind.i64 ((((((31 : Int) * x5) + x10) + x7) % (9973 : Int)) % (((slLen c11) : Nat) : Int)) ∧ 
                                  (∀ R12 : List V → M → Prop, ((∀ x13 : Int, (∀ x14 : Int, (∀ m15 : M, ((isPt (C.ptr (m1).nxt 0) ∧ 
                                  (∃ n16 : Nat, ((x13 = ((n16 : Nat) : Int)) ∧ ((n16 < 9) ∧ (∃ b17 : Bool, (((ldC m15 (C.ptr (m1).nxt (0 + (n16 * 1)))) = (Option.some (C.bool b17))) ∧ 
                                  (ifB b17 (fitsP IntKind.i64 (x13 + (1 : Int)) ∧ (isPt (C.ptr (m).nxt 0) ∧ (∃ c18 : C, 
                                  (((ldC m15 (C.ptr (m).nxt 2)) = (Option.some c18)) ∧ (isSl c18 ∧ (ifB (decide ((x13 + (1 : Int)) = (((slLen c18) : Nat) : Int))) (R12 [(V.c (C.int IntKind.i64 (0 : Int))), 
                                  (V.c (C.int IntKind.i64 (0 : Int)))] m15) (R12 [(V.c (C.int IntKind.i64 (x13 + (1 : Int)))), 
                                  (V.c (C.int IntKind.i64 (x13 + (1 : Int))))] m15))))))) (isPt (C.ptr (m1).nxt 0) ∧ 
                                  (∃ n19 : Nat, ((x13 = ((n19 : Nat) : Int)) ∧ ((n19 < 9) ∧ (∃ m20 : M, (((stC m15 (C.ptr (m1).nxt (0 + (n19 * 1))) 1 [(C.bool true)]) = (Option.some m20)) ∧ 
                                  (∀ m21 : M, ((m21 = (M.new m20 (AO.cells 1 [(C.int IntKind.i64 x13)] false))) → 
                                  (∃ c22 : C, (∃ m23 : M, ((ApR prog 22 m21 c6 (C.sl (m20).nxt 0 1 0 (Option.some 1)) c22 m23) ∧ 
                                  (fitsP IntKind.i64 (x7 + (1 : Int)) ∧ (R4 [(V.c (C.int IntKind.i64 (((((31 : Int) * x5) + x10) + x7) % (9973 : Int)))), 
                                  (V.c c22), (V.c (C.int IntKind.i64 (x7 + (1 : Int))))] m23)))))))))))))))))))) → 
                                  (R12 [(V.c (C.int IntKind.i64 x13)), (V.c (C.int IntKind.i64 x14))] m15))))) → 
                                  (R12 [(V.c (C.int IntKind.i64 ((((((31 : Int) * x5) + x10) + x7) % (9973 : Int)) % (((slLen c11) : Nat) : Int)))), 
                                  (V.c (C.int IntKind.i64 ((((((31 : Int) * x5) + x10) + x7) % (9973 : Int)) % (((slLen c11) : Nat) : Int))))] m8))))))))))))))))))))) (Q (V.c c6) m8))))) → 
                    (R4 [(V.c (C.int IntKind.i64 x5)), (V.c c6), (V.c (C.int IntKind.i64 x7))] m8)))))) → (R4 [(V.c (C.int IntKind.i64 x3)), 
                 (V.c C.sl0), (V.c (C.int IntKind.i64 (0 : Int)))] m2))))))))))))) : Wc prog tbl 30 [(V.agg 3 [(C.int IntKind.i64 a100), (C.int IntKind.i64 a101), a102]), (V.agg 3 [(C.int IntKind.i64 a200), (C.int IntKind.i64 a201), (C.int IntKind.i64 a202)])] m Q :=
  wc_eq (n := 2) rfl (by kernel_rfl) (by kernel_rfl) h
theorem w34 {a100 : C} {m : M} {Q : V → M → Prop} (h :
    (∀ m0 : M, ((m0 = (M.new m (AO.cells 0 [] false))) → (∃ c1 : C, (∃ m2 : M, ((ApR prog 22 m0 (C.sl (m).nxt 0 0 0 (Option.some 0)) a100 c1 m2) ∧ 
         (Q (V.c c1) m2))))))) : Wc prog tbl 34 [(V.c a100)] m Q :=
  wc_eq (n := 1) rfl (by kernel_rfl) (by kernel_rfl) h
theorem w45 {a100 : Int} {a101 : Int} {m : M} {Q : V → M → Prop} (h :
    (∀ m0 : M, ((m0 = (M.new m (AO.cells 2 [(C.int IntKind.i64 a100), (C.int IntKind.i64 a101)] false))) → (∀ m1 : M, 
       ((m1 = (M.new m0 (AO.cells 2 [(C.int IntKind.i64 (0 : Int)), (C.int IntKind.i64 (0 : Int))] false))) → (isPt (C.ptr (m).nxt 0) ∧ 
         (∃ x2 : Int, (((ldC m1 (C.ptr (m).nxt 0)) = (Option.some (C.int IntKind.i64 x2))) ∧ (isPt (C.ptr (m).nxt 0) ∧ 
            (∃ x3 : Int, (((ldC m1 (C.ptr (m).nxt 1)) = (Option.some (C.int IntKind.i64 x3))) ∧ (∃ m4 : M, (((stC m1 (C.ptr (m0).nxt 0) 2 [(C.int IntKind.i64 x2), 
                   (C.int IntKind.i64 x3)]) = (Option.some m4)) ∧ (∃ x5 : Int, (∃ x6 : Int, (((ldA m4 (C.ptr (m0).nxt 0) 2) = (Option.some [(C.int IntKind.i64 x5), 
                      (C.int IntKind.i64 x6)])) ∧ (Q (V.agg 2 [(C.int IntKind.i64 x5), (C.int IntKind.i64 x6)]) m4))))))))))))))))) : Wc prog tbl 45 [(V.agg 2 [(C.int IntKind.i64 a100), (C.int IntKind.i64 a101)])] m Q :=
  wc_eq (n := 1) rfl (by kernel_rfl) (by kernel_rfl) h
theorem w69 {a100 : Int} {a101 : Int} {a102 : C} {a200 : Int} {a201 : Int} {a202 : Int} {m : M} {Q : V → M → Prop} (h :
    (∀ m0 : M, ((m0 = (M.new m (AO.cells 3 [(C.int IntKind.i64 a100), (C.int IntKind.i64 a101), a102] false))) → (∀ m1 : M, 
       ((m1 = (M.new m0 (AO.cells 3 [(C.int IntKind.i64 a200), (C.int IntKind.i64 a201), (C.int IntKind.i64 a202)] false))) → 
        (∃ x2 : Int, (∃ x3 : Int, (∃ c4 : C, (((ldA m1 (C.ptr (m).nxt 0) 3) = (Option.some [(C.int IntKind.i64 x2), 
               (C.int IntKind.i64 x3), c4])) ∧ (Wc prog tbl 27 [(V.agg 3 [(C.int IntKind.i64 x2), (C.int IntKind.i64 x3), 
                c4])] m1 (fun v5 m6 => (∃ x7 : Int, ((v5 = (V.c (C.int IntKind.i64 x7))) ∧ (ifB (!decide (x7 = (0 : Int))) (Q (V.c (C.int IntKind.i64 x7)) m6) (∀ m8 : M, 
                  ((m8 = (M.new m6 (AO.cells 2 [(C.int IntKind.i64 (0 : Int)), (C.int IntKind.i64 (0 : Int))] false))) → 
                   (∃ m9 : M, (((stC m8 (C.ptr (m6).nxt 0) 2 [(C.int IntKind.i64 (0 : Int)), (C.int IntKind.i64 (9999 : Int))]) = (Option.some m9)) ∧ 
                     (∃ x10 : Int, (∃ x11 : Int, (((ldA m9 (C.ptr (m6).nxt 0) 2) = (Option.some [(C.int IntKind.i64 x10), 
                           (C.int IntKind.i64 x11)])) ∧ (isPt (C.ptr (m0).nxt 0) ∧ (∃ x12 : Int, (((ldC m9 (C.ptr (m0).nxt 0)) = (Option.some (C.int IntKind.i64 x12))) ∧ 
                           (Wc prog tbl 92 [(V.agg 2 [(C.int IntKind.i64 x10), (C.int IntKind.i64 x11)]), (V.c (C.int IntKind.i64 x12))] m9 (fun v13 m14 => 
                             (∃ b15 : Bool, ((v13 = (V.c (C.bool b15))) ∧ (ifB (!b15) (Q (V.c (C.int IntKind.i64 (2 : Int))) m14) (∃ x16 : Int, 
                                 (∃ x17 : Int, (((ldA m14 (C.ptr (m6).nxt 0) 2) = (Option.some [(C.int IntKind.i64 x16), 
                                  (C.int IntKind.i64 x17)])) ∧ (isPt (C.ptr (m0).nxt 0) ∧ (∃ x18 : Int, (((ldC m14 (C.ptr (m0).nxt 1)) = (Option.some (C.int IntKind.i64 x18))) ∧ 
                                  (Wc prog tbl 92 [(V.agg 2 [(C.int IntKind.i64 x16), (C.int IntKind.i64 x17)]), 
                                  (V.c (C.int IntKind.i64 x18))] m14 (fun v19 m20 => (∃ b21 : Bool, ((v19 = (V.c (C.bool b21))) ∧ 
                                  (ifB (!b21) (Q (V.c (C.int IntKind.i64 (2 : Int))) m20) (isPt (C.ptr (m0).nxt 0) ∧ 
                                  (∃ x22 : Int, (((ldC m20 (C.ptr (m0).nxt 2)) = (Option.some (C.int IntKind.i64 x22))) ∧ 
                                  (ifB (decide (x22 < (0 : Int))) (Q (V.c (C.int IntKind.i64 (2 : Int))) m20) (isPt (C.ptr (m0).nxt 0) ∧ 
                                  (∃ x23 : Int, (((ldC m20 (C.ptr (m0).nxt 2)) = (Option.some (C.int IntKind.i64 x23))) ∧ 
                                  (∃ x24 : Int, (∃ x25 : Int, (∃ c26 : C, (((ldA m20 (C.ptr (m).nxt 0) 3) = (Option.some [(C.int IntKind.i64 x24), 
                                  (C.int IntKind.i64 x25), c26])) ∧ (Wc prog tbl 88 [(V.agg 3 [(C.int IntKind.i64 x24), 
                                  (C.int IntKind.i64 x25), c26])] m20 (fun v27 m28 => (∃ x29 : Int, ((v27 = (V.c (C.int IntKind.i64 x29))) ∧ 
                                  (((ldC m28 (C.ptr (m0).nxt 2)) = (Option.some (C.int IntKind.i64 x23))) ∧ (ifB (decide ((Min.min (6 : Int) x29) < x23)) (Q (V.c (C.int IntKind.i64 (2 : Int))) m28) (Q (V.c (C.int IntKind.i64 (0 : Int))) m28)))))))))))))))))))))))))))))))))))))))))))))))))))))))))) : Wc prog tbl 69 [(V.agg 3 [(C.int IntKind.i64 a100), (C.int IntKind.i64 a101), a102]), (V.agg 3 [(C.int IntKind.i64 a200), (C.int IntKind.i64 a201), (C.int IntKind.i64 a202)])] m Q :=
  wc_eq (n := 2) rfl (by kernel_rfl) (by kernel_rfl) h
theorem w71 {a100 : C} {a200 : C} {m : M} {Q : V → M → Prop} (h :
    (∀ m0 : M, ((m0 = (M.new m (AO.map [] 0))) → (isSl a200 ∧ (∀ R1 : List V → M → Prop, ((∀ c2 : C, (∀ x3 : Int, (∀ m4 : M, 
            ((ifB (decide (x3 < (((slLen a200) : Nat) : Int))) (∃ n5 : Nat, ((x3 = ((n5 : Nat) : Int)) ∧ ((n5 < (slLen a200)) ∧ 
                 (∃ x6 : Int, (∃ x7 : Int, (∃ x8 : Int, (∃ b9 : Bool, (((ldA m4 (slAt a200 (n5 * 4)) 4) = (Option.some [(C.int IntKind.i64 x6), 
                         (C.int IntKind.i64 x7), (C.int IntKind.i64 x8), (C.bool b9)])) ∧ (∀ m10 : M, ((m10 = (M.new m4 (AO.cells 4 [(C.int IntKind.i64 (0 : Int)), 
                            (C.int IntKind.i64 (0 : Int)), (C.int IntKind.i64 (0 : Int)), (C.bool false)] false))) → 
                        (∃ m11 : M, (((stC m10 (C.ptr (m4).nxt 0) 4 [(C.int IntKind.i64 x6), (C.int IntKind.i64 x7), 
                             (C.int IntKind.i64 x8), (C.bool b9)]) = (Option.some m11)) ∧ (isPt (C.ptr (m4).nxt 0) ∧ 
                           (∃ x12 : Int, (((ldC m11 (C.ptr (m4).nxt 0)) = (Option.some (C.int IntKind.i64 x12))) ∧ 
                             (∃ y13 : Option U, (((lkM prog 3 m11 (C.map (m).nxt) (V.c (C.int IntKind.i64 x12))) = (Option.some y13)) ∧ 
                               (((y13 = Option.none) → (isPt (C.ptr (m4).nxt 0) ∧ (∃ x14 : Int, (((ldC m11 (C.ptr (m4).nxt 0)) = (Option.some (C.int IntKind.i64 x14))) ∧ 
                                  (Wc prog tbl 93 [(V.c a100), (V.c (C.int IntKind.i64 x14))] m11 (fun v15 m16 => 
                                  (∃ b17 : Bool, ((v15 = (V.c (C.bool b17))) ∧ (ifB (!b17) (∀ m18 : M, ((m18 = (M.new m16 (AO.cells 1 [(C.int IntKind.i64 x3)] false))) → 
                                  (∃ c19 : C, (∃ m20 : M, ((ApR prog 22 m18 c2 (C.sl (m16).nxt 0 1 0 (Option.some 1)) c19 m20) ∧ 
                                  (isPt (C.ptr (m4).nxt 0) ∧ (∃ x21 : Int, (((ldC m20 (C.ptr (m4).nxt 0)) = (Option.some (C.int IntKind.i64 x21))) ∧ 
                                  (∃ m22 : M, (((upM prog 3 m20 (C.map (m).nxt) (V.c (C.int IntKind.i64 x21)) (V.c (C.bool true))) = (Option.some m22)) ∧ 
                                  (fitsP IntKind.i64 (x3 + (1 : Int)) ∧ (R1 [(V.c c19), (V.c (C.int IntKind.i64 (x3 + (1 : Int))))] m22)))))))))))) (isPt (C.ptr (m4).nxt 0) ∧ 
                                  (∃ x23 : Int, (((ldC m16 (C.ptr (m4).nxt 0)) = (Option.some (C.int IntKind.i64 x23))) ∧ 
                                  (∃ m24 : M, (((upM prog 3 m16 (C.map (m).nxt) (V.c (C.int IntKind.i64 x23)) (V.c (C.bool true))) = (Option.some m24)) ∧ 
                                  (fitsP IntKind.i64 (x3 + (1 : Int)) ∧ (R1 [(V.c c2), (V.c (C.int IntKind.i64 (x3 + (1 : Int))))] m24)))))))))))))))) ∧ 
                                (∀ u25 : U, ((y13 = (Option.some u25)) → (∃ b26 : Bool, ((u25 = (U.c (C.bool b26))) ∧ 
                                  (ifB b26 (∀ m27 : M, ((m27 = (M.new m11 (AO.cells 1 [(C.int IntKind.i64 x3)] false))) → 
                                  (∃ c28 : C, (∃ m29 : M, ((ApR prog 22 m27 c2 (C.sl (m11).nxt 0 1 0 (Option.some 1)) c28 m29) ∧ 
                                  (isPt (C.ptr (m4).nxt 0) ∧ (∃ x30 : Int, (((ldC m29 (C.ptr (m4).nxt 0)) = (Option.some (C.int IntKind.i64 x30))) ∧ 
                                  (∃ m31 : M, (((upM prog 3 m29 (C.map (m).nxt) (V.c (C.int IntKind.i64 x30)) (V.c (C.bool true))) = (Option.some m31)) ∧ 
                                  (fitsP IntKind.i64 (x3 + (1 : Int)) ∧ (R1 [(V.c c28), (V.c (C.int IntKind.i64 (x3 + (1 : Int))))] m31)))))))))))) (isPt (C.ptr (m4).nxt 0) ∧ 
                                  (∃ x32 : Int, (((ldC m11 (C.ptr (m4).nxt 0)) = (Option.some (C.int IntKind.i64 x32))) ∧ 
                                  (Wc prog tbl 93 [(V.c a100), (V.c (C.int IntKind.i64 x32))] m11 (fun v33 m34 => 
                                  (∃ b35 : Bool, ((v33 = (V.c (C.bool b35))) ∧ (ifB (!b35) (∀ m36 : M, ((m36 = (M.new m34 (AO.cells 1 [(C.int IntKind.i64 x3)] false))) → 
                                  (∃ c37 : C, (∃ m38 : M, ((ApR prog 22 m36 c2 (C.sl (m34).nxt 0 1 0 (Option.some 1)) c37 m38) ∧ 
                                  (isPt (C.ptr (m4).nxt 0) ∧ (∃ x39 : Int, (((ldC m38 (C.ptr (m4).nxt 0)) = (Option.some (C.int IntKind.i64 x39))) ∧ 
                                  (∃ m40 : M, (((upM prog 3 m38 (C.map (m).nxt) (V.c (C.int IntKind.i64 x39)) (V.c (C.bool true))) = (Option.some m40)) ∧ 
                                  (fitsP IntKind.i64 (x3 + (1 : Int)) ∧ (R1 [(V.c c37), (V.c (C.int IntKind.i64 (x3 + (1 : Int))))] m40)))))))))))) (isPt (C.ptr (m4).nxt 0) ∧ 
                                  (∃ x41 : Int, (((ldC m34 (C.ptr (m4).nxt 0)) = (Option.some (C.int IntKind.i64 x41))) ∧ 
                                  (∃ m42 : M, (((upM prog 3 m34 (C.map (m).nxt) (V.c (C.int IntKind.i64 x41)) (V.c (C.bool true))) = (Option.some m42)) ∧ 
                                  (fitsP IntKind.i64 (x3 + (1 : Int)) ∧ (R1 [(V.c c2), (V.c (C.int IntKind.i64 (x3 + (1 : Int))))] m42)))))))))))))))))))))))))))))))))))))) (Q (V.c c2) m4)) → 
             (R1 [(V.c c2), (V.c (C.int IntKind.i64 x3))] m4))))) → (R1 [(V.c C.sl0), (V.c (C.int IntKind.i64 (0 : Int)))] m0))))))) : Wc prog tbl 71 [(V.c a100), (V.c a200)] m Q :=
  wc_eq (n := 2) rfl (by kernel_rfl) (by kernel_rfl) h
theorem w88 {a100 : Int} {a101 : Int} {a102 : C} {m : M} {Q : V → M → Prop} (h :
    (∀ m0 : M, ((m0 = (M.new m (AO.cells 3 [(C.int IntKind.i64 a100), (C.int IntKind.i64 a101), a102] false))) → (isPt (C.ptr (m).nxt 0) ∧ 
       (∃ x1 : Int, (((ldC m0 (C.ptr (m).nxt 0)) = (Option.some (C.int IntKind.i64 x1))) ∧ (isPt (C.ptr (m).nxt 0) ∧ 
          (∃ x2 : Int, (((ldC m0 (C.ptr (m).nxt 1)) = (Option.some (C.int IntKind.i64 x2))) ∧ (((0 : Int) ≤ x1) ∧ 
             (((0 : Int) ≤ x2) ∧ (fitsP IntKind.i64 (x1 * x2) ∧ (Q (V.c (C.int IntKind.i64 (x1 * x2))) m0))))))))))))) : Wc prog tbl 88 [(V.agg 3 [(C.int IntKind.i64 a100), (C.int IntKind.i64 a101), a102])] m Q :=
  wc_eq (n := 1) rfl (by kernel_rfl) (by kernel_rfl) h
theorem w93 {a100 : C} {a200 : Int} {m : M} {Q : V → M → Prop} (h :
    (Wc prog tbl 109 [(V.c a100), (V.c (C.int IntKind.i64 a200))] m (fun v0 m1 => (∃ x2 : Int, ((v0 = (V.c (C.int IntKind.i64 x2))) ∧ 
        (Q (V.c (C.bool (decide ((0 : Int) ≤ x2)))) m1)))))) : Wc prog tbl 93 [(V.c a100), (V.c (C.int IntKind.i64 a200))] m Q :=
  wc_eq (n := 2) rfl (by kernel_rfl) (by kernel_rfl) h
theorem w95 {a100 : Int} {m : M} {Q : V → M → Prop} (h :
    (Wc prog tbl 92 [(V.agg 2 [(C.int IntKind.i64 (0 : Int)), (C.int IntKind.i64 (9 : Int))]), (V.c (C.int IntKind.i64 a100))] m (fun v0 m1 => 
      (∃ b2 : Bool, ((v0 = (V.c (C.bool b2))) ∧ (Q (V.c (C.bool b2)) m1)))))) : Wc prog tbl 95 [(V.c (C.int IntKind.i64 a100))] m Q :=
  wc_eq (n := 1) rfl (by kernel_rfl) (by kernel_rfl) h
theorem w110 {a100 : C} {a200 : C} {m : M} {Q : V → M → Prop} (h :
    (Wc prog tbl 122 [(V.c a100), (V.c a200)] m (fun v0 m1 => (∃ x2 : Int, ((v0 = (V.c (C.int IntKind.i64 x2))) ∧ (Q (V.c (C.bool (decide ((0 : Int) ≤ x2)))) m1)))))) : Wc prog tbl 110 [(V.c a100), (V.c a200)] m Q :=
  wc_eq (n := 2) rfl (by kernel_rfl) (by kernel_rfl) h

end
end Go.Proofs.Ytgkjfhkjgdiodaa

namespace Go.Proofs.Ytgkjfhkjgdiodaa
open _root_.Go.Proofs.Try
open Go.Abs
set_option maxRecDepth 100000
noncomputable section
theorem w73 {a100 : C} {a200 : C} {m : M} {Q : V → M → Prop} (h :
    (∀ R0 : List V → M → Prop, ((∀ b1 : Bool, (∀ x2 : Int, (∀ m3 : M, ((isSl a100 ∧ (ifB (decide (x2 < (((slLen a100) : Nat) : Int))) (isSl a200 ∧ 
             (ifB (decide (x2 < (((slLen a200) : Nat) : Int))) (∃ n4 : Nat, ((x2 = ((n4 : Nat) : Int)) ∧ ((n4 < (slLen a100)) ∧ 
                 (∃ x5 : Int, (((ldC m3 (slAt a100 (n4 * 1))) = (Option.some (C.int IntKind.i64 x5))) ∧ (∃ n6 : Nat, 
                    ((x2 = ((n6 : Nat) : Int)) ∧ ((n6 < (slLen a200)) ∧ (∃ x7 : Int, (((ldC m3 (slAt a200 (n6 * 1))) = (Option.some (C.int IntKind.i64 x7))) ∧ 
                        (ifB (!decide (x5 = x7)) (∃ n8 : Nat, ((x2 = ((n8 : Nat) : Int)) ∧ ((n8 < (slLen a100)) ∧ 
                            (∃ x9 : Int, (((ldC m3 (slAt a100 (n8 * 1))) = (Option.some (C.int IntKind.i64 x9))) ∧ 
                              (∃ n10 : Nat, ((x2 = ((n10 : Nat) : Int)) ∧ ((n10 < (slLen a200)) ∧ (∃ x11 : Int, 
                                  (((ldC m3 (slAt a200 (n10 * 1))) = (Option.some (C.int IntKind.i64 x11))) ∧ (Q (V.c (C.bool (decide (x9 < x11)))) m3))))))))))) (fitsP IntKind.i64 (x2 + (1 : Int)) ∧ 
                          (R0 [(V.c (C.bool b1)), (V.c (C.int IntKind.i64 (x2 + (1 : Int))))] m3))))))))))))) (isSl a100 ∧ 
               (isSl a200 ∧ (Q (V.c (C.bool (decide ((((slLen a100) : Nat) : Int) < (((slLen a200) : Nat) : Int))))) m3))))) (isSl a100 ∧ 
             (isSl a200 ∧ (Q (V.c (C.bool (decide ((((slLen a100) : Nat) : Int) < (((slLen a200) : Nat) : Int))))) m3))))) → 
          (R0 [(V.c (C.bool b1)), (V.c (C.int IntKind.i64 x2))] m3))))) → (R0 [(V.c (C.bool false)), (V.c (C.int IntKind.i64 (0 : Int)))] m)))) : Wc prog tbl 73 [(V.c a100), (V.c a200)] m Q :=
  wc_eq (n := 2) rfl (by kernel_rfl) (by kernel_rfl) h

end
end Go.Proofs.Ytgkjfhkjgdiodaa
