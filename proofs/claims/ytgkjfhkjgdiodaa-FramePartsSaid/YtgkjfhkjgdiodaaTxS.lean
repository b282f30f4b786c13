/- What functions of the program ask and do. Condition: none; a lemma text of this claim. -/
import Derived.Test.YtgkjfhkjgdiodaaSyM
import Derived.KernelRfl
namespace Go.Proofs.Ytgkjfhkjgdiodaa
open _root_.Go.Proofs.Try
open Go.Abs
set_option maxRecDepth 100000
noncomputable section
theorem w4 {a100 : Int} {a101 : Int} {a102 : C} {a103 : Int} {a104 : C} {a200 : C} {m : M} {Q : V → M → Prop} (h :
    (∀ m0 : M, ((m0 = (M.new m (AO.cells 5 [(C.int IntKind.i64 a100), (C.int IntKind.i64 a101), a102, (C.int IntKind.i64 a103), 
          a104] false))) → (∃ x1 : Int, (∃ x2 : Int, (∃ c3 : C, (∃ x4 : Int, (∃ c5 : C, (((ldA m0 (C.ptr (m).nxt 0) 5) = (Option.some [(C.int IntKind.i64 x1), 
               (C.int IntKind.i64 x2), c3, (C.int IntKind.i64 x4), c5])) ∧ (Wc prog tbl 19 [(V.agg 5 [(C.int IntKind.i64 x1), 
                (C.int IntKind.i64 x2), c3, (C.int IntKind.i64 x4), c5])] m0 (fun v6 m7 => (∃ b8 : Bool, ((v6 = (V.c (C.bool b8))) ∧ 
                (ifB (!b8) (Wc prog tbl 20 [] m7 (fun v9 m10 => (∃ b11 : Bool, ((v9 = (V.c (C.bool b11))) ∧ (Q (V.c (C.bool b11)) m10))))) (isSl a200 ∧ 
                  (ifB (decide ((12 : Int) < (((slLen a200) : Nat) : Int))) (Wc prog tbl 20 [] m7 (fun v12 m13 => 
                     (∃ b14 : Bool, ((v12 = (V.c (C.bool b14))) ∧ (Q (V.c (C.bool b14)) m13))))) (∃ x15 : Int, 
                    (∃ x16 : Int, (∃ c17 : C, (∃ x18 : Int, (∃ c19 : C, (((ldA m7 (C.ptr (m).nxt 0) 5) = (Option.some [(C.int IntKind.i64 x15), 
                            (C.int IntKind.i64 x16), c17, (C.int IntKind.i64 x18), c19])) ∧ (Wc prog tbl 33 [(V.agg 5 [(C.int IntKind.i64 x15), 
                             (C.int IntKind.i64 x16), c17, (C.int IntKind.i64 x18), c19])] m7 (fun v20 m21 => (∃ x22 : Int, 
                            (∃ x23 : Int, (∃ c24 : C, (∃ x25 : Int, (∃ c26 : C, ((v20 = (V.agg 5 [(C.int IntKind.i64 x22), 
                                  (C.int IntKind.i64 x23), c24, (C.int IntKind.i64 x25), c26])) ∧ (Wc prog tbl 34 [(V.c a200)] m21 (fun v27 m28 => 
                                  (∃ c29 : C, ((v27 = (V.c c29)) ∧ (Wc prog tbl 32 [(V.agg 5 [(C.int IntKind.i64 x22), 
                                  (C.int IntKind.i64 x23), c24, (C.int IntKind.i64 x25), c26]), (V.c c29)] m28 (fun v30 m31 => 
                                  (∃ x32 : Int, (∃ x33 : Int, ((v30 = (V.tup [(U.c (C.int IntKind.i64 x32)), (U.c (C.int IntKind.i64 x33))])) ∧ 
                                  (∃ x34 : Int, (∃ x35 : Int, (∃ c36 : C, (∃ x37 : Int, (∃ c38 : C, (((ldA m31 (C.ptr (m).nxt 0) 5) = (Option.some [(C.int IntKind.i64 x34), 
                                  (C.int IntKind.i64 x35), c36, (C.int IntKind.i64 x37), c38])) ∧ (Wc prog tbl 33 [(V.agg 5 [(C.int IntKind.i64 x34), 
                                  (C.int IntKind.i64 x35), c36, (C.int IntKind.i64 x37), c38])] m31 (fun v39 m40 => 
                                  (∃ x41 : Int, (∃ x42 : Int, (∃ c43 : C, (∃ x44 : Int, (∃ c45 : C, ((v39 = (V.agg 5 [(C.int IntKind.i64 x41), 
                                  (C.int IntKind.i64 x42), c43, (C.int IntKind.i64 x44), c45])) ∧ (Wc prog tbl 34 [(V.c a200)] m40 (fun v46 m47 => 
                                  (∃ c48 : C, ((v46 = (V.c c48)) ∧ (Wc prog tbl 35 [(V.agg 5 [(C.int IntKind.i64 x41), 
                                  (C.int IntKind.i64 x42), c43, (C.int IntKind.i64 x44), c45]), (V.c c48)] m47 (fun v49 m50 => 
                                  (∃ b51 : Bool, ((v49 = (V.c (C.bool b51))) ∧ (∃ x52 : Int, (∃ x53 : Int, (∃ c54 : C, 
                                  (∃ x55 : Int, (∃ c56 : C, (((ldA m50 (C.ptr (m).nxt 0) 5) = (Option.some [(C.int IntKind.i64 x52), 
                                  (C.int IntKind.i64 x53), c54, (C.int IntKind.i64 x55), c56])) ∧ (Wc prog tbl 36 [(V.agg 5 [(C.int IntKind.i64 x52), 
                                  (C.int IntKind.i64 x53), c54, (C.int IntKind.i64 x55), c56])] m50 (fun v57 m58 => 
                                  (∃ x59 : Int, ((v57 = (V.c (C.int IntKind.i64 x59))) ∧ (∃ x60 : Int, (∃ x61 : Int, 
                                  (∃ c62 : C, (∃ x63 : Int, (∃ c64 : C, (((ldA m58 (C.ptr (m).nxt 0) 5) = (Option.some [(C.int IntKind.i64 x60), 
                                  (C.int IntKind.i64 x61), c62, (C.int IntKind.i64 x63), c64])) ∧ (Wc prog tbl 33 [(V.agg 5 [(C.int IntKind.i64 x60), 
                                  (C.int IntKind.i64 x61), c62, (C.int IntKind.i64 x63), c64])] m58 (fun v65 m66 => 
                                  (∃ x67 : Int, (∃ x68 : Int, (∃ c69 : C, (∃ x70 : Int, (∃ c71 : C, ((v65 = (V.agg 5 [(C.int IntKind.i64 x67), 
                                  (C.int IntKind.i64 x68), c69, (C.int IntKind.i64 x70), c71])) ∧ (Wc prog tbl 37 [(V.agg 5 [(C.int IntKind.i64 x67), 
                                  (C.int IntKind.i64 x68), c69, (C.int IntKind.i64 x70), c71])] m66 (fun v72 m73 => 
                                  (∃ x74 : Int, ((v72 = (V.c (C.int IntKind.i64 x74))) ∧ (ifB (!decide (x74 = x59)) (Q (V.c (C.bool false)) m73) (ifB (decide (x59 = (0 : Int))) (∃ x75 : Int, 
                                  (∃ x76 : Int, (∃ c77 : C, (∃ x78 : Int, (∃ c79 : C, (((ldA m73 (C.ptr (m).nxt 0) 5) = (Option.some [(C.int IntKind.i64 x75), 
                                  (C.int IntKind.i64 x76), c77, (C.int IntKind.i64 x78), c79])) ∧ (Wc prog tbl 38 [(V.agg 5 [(C.int IntKind.i64 x75), 
                                  (C.int IntKind.i64 x76), c77, (C.int IntKind.i64 x78), c79]), (V.c a200), (V.c (C.int IntKind.i64 (0 : Int)))] m73 (fun v80 m81 => 
                                  (∃ b82 : Bool, ((v80 = (V.c (C.bool b82))) ∧ (ifB (!(b51 == b82)) (Q (V.c (C.bool false)) m81) (ifB (decide (x59 = (0 : Int))) (isPt (C.ptr (m).nxt 0) ∧ 
                                  (∃ x83 : Int, (∃ x84 : Int, (∃ c85 : C, (((ldA m81 (C.ptr (m).nxt 0) 3) = (Option.some [(C.int IntKind.i64 x83), 
                                  (C.int IntKind.i64 x84), c85])) ∧ (Wc prog tbl 39 [(V.agg 3 [(C.int IntKind.i64 x83), 
                                  (C.int IntKind.i64 x84), c85]), (V.c a200)] m81 (fun v86 m87 => (∃ b88 : Bool, 
                                  ((v86 = (V.c (C.bool b88))) ∧ (ifB (!b88) (ifB (decide (x33 = (2 : Int))) (ifB (decide (x32 = (0 : Int))) (Wc prog tbl 20 [] m87 (fun v89 m90 => 
                                  (∃ b91 : Bool, ((v89 = (V.c (C.bool b91))) ∧ (Q (V.c (C.bool b91)) m90))))) (Q (V.c (C.bool false)) m87)) (Q (V.c (C.bool false)) m87)) (ifB (!decide (x59 = (0 : Int))) (ifB (decide (x33 = x59)) (ifB (decide (x32 = (0 : Int))) (Wc prog tbl 20 [] m87 (fun v92 m93 => 
                                  (∃ b94 : Bool, ((v92 = (V.c (C.bool b94))) ∧ (Q (V.c (C.bool b94)) m93))))) (Q (V.c (C.bool false)) m87)) (Q (V.c (C.bool false)) m87)) (ifB (decide (x33 = (0 : Int))) (isPt (C.ptr (m).nxt 0) ∧ 
                                  (∃ x95 : Int, (∃ x96 : Int, (∃ c97 : C, (((ldA m87 (C.ptr (m).nxt 0) 3) = (Option.some [(C.int IntKind.i64 x95), 
                                  (C.int IntKind.i64 x96), c97])) ∧ (Wc prog tbl 40 [(V.agg 3 [(C.int IntKind.i64 x95), 
                                  (C.int IntKind.i64 x96), c97]), (V.c a200)] m87 (fun v98 m99 => (∃ x100 : Int, 
                                  ((v98 = (V.c (C.int IntKind.i64 x100))) ∧ (ifB (decide (x32 = x100)) (Wc prog tbl 20 [] m99 (fun v101 m102 => 
                                  (∃ b103 : Bool, ((v101 = (V.c (C.bool b103))) ∧ (Q (V.c (C.bool b103)) m102))))) (Q (V.c (C.bool false)) m99))))))))))) (Q (V.c (C.bool false)) m87))))))))))))) (ifB (!decide (x59 = (0 : Int))) (ifB (decide (x33 = x59)) (ifB (decide (x32 = (0 : Int))) (Wc prog tbl 20 [] m81 (fun v104 m105 => 
                                  (∃ b106 : Bool, ((v104 = (V.c (C.bool b106))) ∧ (Q (V.c (C.bool b106)) m105))))) (Q (V.c (C.bool false)) m81)) (Q (V.c (C.bool false)) m81)) (ifB (decide (x33 = (0 : Int))) (isPt (C.ptr (m).nxt 0) ∧ 
                                  (∃ x107 : Int, (∃ x108 : Int, (∃ c109 : C, (((ldA m81 (C.ptr (m).nxt 0) 3) = (Option.some [(C.int IntKind.i64 x107), 
                                  (C.int IntKind.i64 x108), c109])) ∧ (Wc prog tbl 40 [(V.agg 3 [(C.int IntKind.i64 x107), 
                                  (C.int IntKind.i64 x108), c109]), (V.c a200)] m81 (fun v110 m111 => (∃ x112 : Int, 
                                  ((v110 = (V.c (C.int IntKind.i64 x112))) ∧ (ifB (decide (x32 = x112)) (Wc prog tbl 20 [] m111 (fun v113 m114 => 
                                  (∃ b115 : Bool, ((v113 = (V.c (C.bool b115))) ∧ (Q (V.c (C.bool b115)) m114))))) (Q (V.c (C.bool false)) m111))))))))))) (Q (V.c (C.bool false)) m81))))))))))))))) (ifB (!(b51 == false)) (Q (V.c (C.bool false)) m73) (ifB (decide (x59 = (0 : Int))) (isPt (C.ptr (m).nxt 0) ∧ 
                                  (∃ x116 : Int, (∃ x117 : Int, (∃ c118 : C, (((ldA m73 (C.ptr (m).nxt 0) 3) = (Option.some [(C.int IntKind.i64 x116), 
                                  (C.int IntKind.i64 x117), c118])) ∧ (Wc prog tbl 39 [(V.agg 3 [(C.int IntKind.i64 x116), 
                                  (C.int IntKind.i64 x117), c118]), (V.c a200)] m73 (fun v119 m120 => (∃ b121 : Bool, 
                                  ((v119 = (V.c (C.bool b121))) ∧ (ifB (!b121) (ifB (decide (x33 = (2 : Int))) (ifB (decide (x32 = (0 : Int))) (Wc prog tbl 20 [] m120 (fun v122 m123 => 
                                  (∃ b124 : Bool, ((v122 = (V.c (C.bool b124))) ∧ (Q (V.c (C.bool b124)) m123))))) (Q (V.c (C.bool false)) m120)) (Q (V.c (C.bool false)) m120)) (ifB (!decide (x59 = (0 : Int))) (ifB (decide (x33 = x59)) (ifB (decide (x32 = (0 : Int))) (Wc prog tbl 20 [] m120 (fun v125 m126 => 
                                  (∃ b127 : Bool, ((v125 = (V.c (C.bool b127))) ∧ (Q (V.c (C.bool b127)) m126))))) (Q (V.c (C.bool false)) m120)) (Q (V.c (C.bool false)) m120)) (ifB (decide (x33 = (0 : Int))) (isPt (C.ptr (m).nxt 0) ∧ 
                                  (∃ x128 : Int, (∃ x129 : Int, (∃ c130 : C, (((ldA m120 (C.ptr (m).nxt 0) 3) = (Option.some [(C.int IntKind.i64 x128), 
                                  (C.int IntKind.i64 x129), c130])) ∧ (Wc prog tbl 40 [(V.agg 3 [(C.int IntKind.i64 x128), 
                                  (C.int IntKind.i64 x129), c130]), (V.c a200)] m120 (fun v131 m132 => (∃ x133 : Int, 
                                  ((v131 = (V.c (C.int IntKind.i64 x133))) ∧ (ifB (decide (x32 = x133)) (Wc prog tbl 20 [] m132 (fun v134 m135 => 
                                  (∃ b136 : Bool, ((v134 = (V.c (C.bool b136))) ∧ (Q (V.c (C.bool b136)) m135))))) (Q (V.c (C.bool false)) m132))))))))))) (Q (V.c (C.bool false)) m120))))))))))))) (ifB (!decide (x59 = (0 : Int))) (ifB (decide (x33 = x59)) (ifB (decide (x32 = (0 : Int))) (Wc prog tbl 20 [] m73 (fun v137 m138 => 
                                  (∃ b139 : Bool, ((v137 = (V.c (C.bool b139))) ∧ (Q (V.c (C.bool b139)) m138))))) (Q (V.c (C.bool false)) m73)) (Q (V.c (C.bool false)) m73)) (ifB (decide (x33 = (0 : Int))) (isPt (C.ptr (m).nxt 0) ∧ 
                                  (∃ x140 : Int, (∃ x141 : Int, (∃ c142 : C, (((ldA m73 (C.ptr (m).nxt 0) 3) = (Option.some [(C.int IntKind.i64 x140), 
                                  (C.int IntKind.i64 x141), c142])) ∧ (Wc prog tbl 40 [(V.agg 3 [(C.int IntKind.i64 x140), 
                                  (C.int IntKind.i64 x141), c142]), (V.c a200)] m73 (fun v143 m144 => (∃ x145 : Int, 
                                  ((v143 = (V.c (C.int IntKind.i64 x145))) ∧ (ifB (decide (x32 = x145)) (Wc prog tbl 20 [] m144 (fun v146 m147 => 
                                  (∃ b148 : Bool, ((v146 = (V.c (C.bool b148))) ∧ (Q (V.c (C.bool b148)) m147))))) (Q (V.c (C.bool false)) m144))))))))))) (Q (V.c (C.bool false)) m73)))))))))))))))))))))))))))))))))))))))))))))))))))))))))))))))))))))))))))))))))))))))))))))))) : Wc prog tbl 4 [(V.agg 5 [(C.int IntKind.i64 a100), (C.int IntKind.i64 a101), a102, (C.int IntKind.i64 a103), a104]), (V.c a200)] m Q :=
  wc_eq (n := 2) rfl (by kernel_rfl) (by kernel_rfl) h
theorem w33 {a100 : Int} {a101 : Int} {a102 : C} {a103 : Int} {a104 : C} {m : M} {Q : V → M → Prop} (h :
    (∀ m0 : M, ((m0 = (M.new m (AO.cells 5 [(C.int IntKind.i64 a100), (C.int IntKind.i64 a101), a102, (C.int IntKind.i64 a103), 
          a104] false))) → (∀ m1 : M, ((m1 = (M.new m0 (AO.cells 5 [(C.int IntKind.i64 (0 : Int)), (C.int IntKind.i64 (0 : Int)), 
            C.sl0, (C.int IntKind.i64 (0 : Int)), C.sl0] false))) → (isPt (C.ptr (m).nxt 0) ∧ (∃ x2 : Int, (∃ x3 : Int, 
           (∃ c4 : C, (((ldA m1 (C.ptr (m).nxt 0) 3) = (Option.some [(C.int IntKind.i64 x2), (C.int IntKind.i64 x3), 
                c4])) ∧ (Wc prog tbl 22 [(V.agg 3 [(C.int IntKind.i64 x2), (C.int IntKind.i64 x3), c4])] m1 (fun v5 m6 => 
               (∃ x7 : Int, (∃ x8 : Int, (∃ c9 : C, ((v5 = (V.agg 3 [(C.int IntKind.i64 x7), (C.int IntKind.i64 x8), 
                      c9])) ∧ (isPt (C.ptr (m).nxt 0) ∧ (∃ x10 : Int, (((ldC m6 (C.ptr (m).nxt 3)) = (Option.some (C.int IntKind.i64 x10))) ∧ 
                      (((ldC m1 (C.ptr (m).nxt 3)) = (Option.some (C.int IntKind.i64 x10))) ∧ (isPt (C.ptr (m).nxt 0) ∧ 
                        (∃ c11 : C, (((ldC m6 (C.ptr (m).nxt 4)) = (Option.some c11)) ∧ ((ifB (noFnC c11) ((ldC m1 (C.ptr (m).nxt 4)) = (Option.some c11)) False) ∧ 
                           (Wc prog tbl 25 [(V.c c11)] m6 (fun v12 m13 => (∃ c14 : C, ((v12 = (V.c c14)) ∧ (((ldC m13 (C.ptr (m).nxt 3)) = (Option.some (C.int IntKind.i64 x10))) ∧ 
                                (∃ m15 : M, (((stC m13 (C.ptr (m0).nxt 0) 5 [(C.int IntKind.i64 x7), (C.int IntKind.i64 x8), 
                                  c9, (C.int IntKind.i64 x10), c14]) = (Option.some m15)) ∧ (∃ x16 : Int, (∃ x17 : Int, 
                                  (∃ c18 : C, (∃ x19 : Int, (∃ c20 : C, (((ldA m15 (C.ptr (m0).nxt 0) 5) = (Option.some [(C.int IntKind.i64 x16), 
                                  (C.int IntKind.i64 x17), c18, (C.int IntKind.i64 x19), c20])) ∧ (Q (V.agg 5 [(C.int IntKind.i64 x16), 
                                  (C.int IntKind.i64 x17), c18, (C.int IntKind.i64 x19), c20]) m15)))))))))))))))))))))))))))))))))))))) : Wc prog tbl 33 [(V.agg 5 [(C.int IntKind.i64 a100), (C.int IntKind.i64 a101), a102, (C.int IntKind.i64 a103), a104])] m Q :=
  wc_eq (n := 1) rfl (by kernel_rfl) (by kernel_rfl) h
theorem w36 {a100 : Int} {a101 : Int} {a102 : C} {a103 : Int} {a104 : C} {m : M} {Q : V → M → Prop} (h :
    (∀ m0 : M, ((m0 = (M.new m (AO.cells 5 [(C.int IntKind.i64 a100), (C.int IntKind.i64 a101), a102, (C.int IntKind.i64 a103), 
          a104] false))) → (∃ x1 : Int, (∃ x2 : Int, (∃ c3 : C, (∃ x4 : Int, (∃ c5 : C, (((ldA m0 (C.ptr (m).nxt 0) 5) = (Option.some [(C.int IntKind.i64 x1), 
               (C.int IntKind.i64 x2), c3, (C.int IntKind.i64 x4), c5])) ∧ (Wc prog tbl 78 [(V.agg 5 [(C.int IntKind.i64 x1), 
                (C.int IntKind.i64 x2), c3, (C.int IntKind.i64 x4), c5])] m0 (fun v6 m7 => (∃ x8 : Int, ((v6 = (V.c (C.int IntKind.i64 x8))) ∧ 
                (Q (V.c (C.int IntKind.i64 x8)) m7)))))))))))))) : Wc prog tbl 36 [(V.agg 5 [(C.int IntKind.i64 a100), (C.int IntKind.i64 a101), a102, (C.int IntKind.i64 a103), a104])] m Q :=
  wc_eq (n := 1) rfl (by kernel_rfl) (by kernel_rfl) h
theorem w38 {a100 : Int} {a101 : Int} {a102 : C} {a103 : Int} {a104 : C} {a200 : C} {a300 : Int} {m : M} {Q : V → M → Prop} (h :
    (∀ m0 : M, ((m0 = (M.new m (AO.cells 5 [(C.int IntKind.i64 a100), (C.int IntKind.i64 a101), a102, (C.int IntKind.i64 a103), 
          a104] false))) → (isPt (C.ptr (m).nxt 0) ∧ (∃ x1 : Int, (∃ x2 : Int, (∃ c3 : C, (((ldA m0 (C.ptr (m).nxt 0) 3) = (Option.some [(C.int IntKind.i64 x1), 
              (C.int IntKind.i64 x2), c3])) ∧ (Wc prog tbl 39 [(V.agg 3 [(C.int IntKind.i64 x1), (C.int IntKind.i64 x2), 
               c3]), (V.c a200)] m0 (fun v4 m5 => (∃ b6 : Bool, ((v4 = (V.c (C.bool b6))) ∧ (ifB (!b6) (Q (V.c (C.bool false)) m5) (∀ R7 : List V → 
                 M → Prop, ((∀ b8 : Bool, (∀ x9 : Int, (∀ m10 : M, ((isSl a200 ∧ (ifB (decide (x9 < (((slLen a200) : Nat) : Int))) (fitsP IntKind.i64 (x9 + (1 : Int)) ∧ 
                         (∀ R11 : List V → M → Prop, ((∀ b12 : Bool, (∀ x13 : Int, (∀ m14 : M, ((isSl a200 ∧ (ifB (decide (x13 < (((slLen a200) : Nat) : Int))) (isPt (C.ptr (m).nxt 0) ∧ 
                                  (isPt (C.ptr (m).nxt 0) ∧ (∃ x15 : Int, (((ldC m14 (C.ptr (m).nxt 1)) = (Option.some (C.int IntKind.i64 x15))) ∧ 
                                  (((0 : Int) ≤ x9) ∧ (((0 : Int) < x15) ∧ (fitsP IntKind.i64 (x9 / x15) ∧ (isPt (C.ptr (m).nxt 0) ∧ 
                                  (isPt (C.ptr (m).nxt 0) ∧ (∃ x16 : Int, (((ldC m14 (C.ptr (m).nxt 1)) = (Option.some (C.int IntKind.i64 x16))) ∧ 
                                  (((0 : Int) ≤ x13) ∧ (((0 : Int) < x16) ∧ (fitsP IntKind.i64 (x13 / x16) ∧ (ifB (decide ((x9 / x15) = (x13 / x16))) (fitsP IntKind.i64 (x9 + (1 : Int)) ∧ 
                                  (isPt (C.ptr (m).nxt 0) ∧ (isPt (C.ptr (m).nxt 0) ∧ (∃ x17 : Int, (((ldC m14 (C.ptr (m).nxt 1)) = (Option.some (C.int IntKind.i64 x17))) ∧ 
                                  (fitsP IntKind.i64 (x9 + x17) ∧ (ifB (decide (x13 = (x9 + (1 : Int)))) (∃ n18 : Nat, 
                                  ((x9 = ((n18 : Nat) : Int)) ∧ ((n18 < (slLen a200)) ∧ (∃ x19 : Int, (((ldC m14 (slAt a200 (n18 * 1))) = (Option.some (C.int IntKind.i64 x19))) ∧ 
                                  (∃ n20 : Nat, ((x13 = ((n20 : Nat) : Int)) ∧ ((n20 < (slLen a200)) ∧ (∃ x21 : Int, 
                                  (((ldC m14 (slAt a200 (n20 * 1))) = (Option.some (C.int IntKind.i64 x21))) ∧ 
                                  (fitsP IntKind.i64 (x19 - x21) ∧ (isPt (C.ptr (m).nxt 0) ∧ (∃ x22 : Int, (((ldC m14 (C.ptr (m).nxt 3)) = (Option.some (C.int IntKind.i64 x22))) ∧ 
                                  (fitsP IntKind.i64 ((0 : Int) - x22) ∧ (isPt (C.ptr (m).nxt 0) ∧ (∃ x23 : Int, 
                                  (((ldC m14 (C.ptr (m).nxt 3)) = (Option.some (C.int IntKind.i64 x23))) ∧ (Wc prog tbl 44 [(V.c (C.int IntKind.i64 (x19 - x21))), 
                                  (V.c (C.int IntKind.i64 ((0 : Int) - x22))), (V.c (C.int IntKind.i64 x23))] m14 (fun v24 m25 => 
                                  (∃ b26 : Bool, ((v24 = (V.c (C.bool b26))) ∧ (ifB (!b26) (Q (V.c (C.bool false)) m25) (fitsP IntKind.i64 (x13 + (1 : Int)) ∧ 
                                  (R11 [(V.c (C.bool b12)), (V.c (C.int IntKind.i64 (x13 + (1 : Int))))] m25))))))))))))))))))))))))) (ifB (decide (x13 = (x9 + x17))) (∃ n27 : Nat, 
                                  ((x9 = ((n27 : Nat) : Int)) ∧ ((n27 < (slLen a200)) ∧ (∃ x28 : Int, (((ldC m14 (slAt a200 (n27 * 1))) = (Option.some (C.int IntKind.i64 x28))) ∧ 
                                  (∃ n29 : Nat, ((x13 = ((n29 : Nat) : Int)) ∧ ((n29 < (slLen a200)) ∧ (∃ x30 : Int, 
                                  (((ldC m14 (slAt a200 (n29 * 1))) = (Option.some (C.int IntKind.i64 x30))) ∧ 
                                  (fitsP IntKind.i64 (x28 - x30) ∧ (isPt (C.ptr (m).nxt 0) ∧ (∃ x31 : Int, (((ldC m14 (C.ptr (m).nxt 3)) = (Option.some (C.int IntKind.i64 x31))) ∧ 
                                  (fitsP IntKind.i64 ((0 : Int) - x31) ∧ (isPt (C.ptr (m).nxt 0) ∧ (∃ x32 : Int, 
                                  (((ldC m14 (C.ptr (m).nxt 3)) = (Option.some (C.int IntKind.i64 x32))) ∧ (Wc prog tbl 44 [(V.c (C.int IntKind.i64 (x28 - x30))), 
                                  (V.c (C.int IntKind.i64 ((0 : Int) - x31))), (V.c (C.int IntKind.i64 x32))] m14 (fun v33 m34 => 
                                  (∃ b35 : Bool, ((v33 = (V.c (C.bool b35))) ∧ (ifB (!b35) (Q (V.c (C.bool false)) m34) (fitsP IntKind.i64 (x13 + (1 : Int)) ∧ 
                                  (R11 [(V.c (C.bool b12)), (V.c (C.int IntKind.i64 (x13 + (1 : Int))))] m34))))))))))))))))))))))))) (fitsP IntKind.i64 (x13 + (1 : Int)) ∧ 
                                  (R11 [(V.c (C.bool b12)), (V.c (C.int IntKind.i64 (x13 + (1 : Int))))] m14)))))))))) (isPt (C.ptr (m).nxt 0) ∧ 
                                  (isPt (C.ptr (m).nxt 0) ∧ (∃ x36 : Int, (((ldC m14 (C.ptr (m).nxt 1)) = (Option.some (C.int IntKind.i64 x36))) ∧ 
                                  (fitsP IntKind.i64 (x9 + x36) ∧ (ifB (decide (x13 = (x9 + x36))) (∃ n37 : Nat, 
                                  ((x9 = ((n37 : Nat) : Int)) ∧ ((n37 < (slLen a200)) ∧ (∃ x38 : Int, (((ldC m14 (slAt a200 (n37 * 1))) = (Option.some (C.int IntKind.i64 x38))) ∧ 
                                  (∃ n39 : Nat, ((x13 = ((n39 : Nat) : Int)) ∧ ((n39 < (slLen a200)) ∧ (∃ x40 : Int, 
                                  (((ldC m14 (slAt a200 (n39 * 1))) = (Option.some (C.int IntKind.i64 x40))) ∧ 
                                  (fitsP IntKind.i64 (x38 - x40) ∧ (isPt (C.ptr (m).nxt 0) ∧ (∃ x41 : Int, (((ldC m14 (C.ptr (m).nxt 3)) = (Option.some (C.int IntKind.i64 x41))) ∧ 
                                  (fitsP IntKind.i64 ((0 : Int) - x41) ∧ (isPt (C.ptr (m).nxt 0) ∧ (∃ x42 : Int, 
                                  (((ldC m14 (C.ptr (m).nxt 3)) = (Option.some (C.int IntKind.i64 x42))) ∧ (Wc prog tbl 44 [(V.c (C.int IntKind.i64 (x38 - x40))), 
                                  (V.c (C.int IntKind.i64 ((0 : Int) - x41))), (V.c (C.int IntKind.i64 x42))] m14 (fun v43 m44 => 
                                  (∃ b45 : Bool, ((v43 = (V.c (C.bool b45))) ∧ (ifB (!b45) (Q (V.c (C.bool false)) m44) (fitsP IntKind.i64 (x13 + (1 : Int)) ∧ 
                                  (R11 [(V.c (C.bool b12)), (V.c (C.int IntKind.i64 (x13 + (1 : Int))))] m44))))))))))))))))))))))))) (fitsP IntKind.i64 (x13 + (1 : Int)) ∧ 
                                  (R11 [(V.c (C.bool b12)), (V.c (C.int IntKind.i64 (x13 + (1 : Int))))] m14))))))))))))))))))))))) (fitsP IntKind.i64 (x9 + (1 : Int)) ∧ 
                                  (R7 [(V.c (C.bool b12)), (V.c (C.int IntKind.i64 (x9 + (1 : Int))))] m14)))) → 
                               (R11 [(V.c (C.bool b12)), (V.c (C.int IntKind.i64 x13))] m14))))) → (R11 [(V.c (C.bool b8)), 
                             (V.c (C.int IntKind.i64 (x9 + (1 : Int))))] m10)))) (∀ R46 : List V → M → Prop, ((∀ b47 : Bool, 
                           (∀ x48 : Int, (∀ m49 : M, ((isPt (C.ptr (m).nxt 0) ∧ (∃ c50 : C, (((ldC m49 (C.ptr (m).nxt 4)) = (Option.some c50)) ∧ 
                                 (isSl c50 ∧ (ifB (decide (x48 < (((slLen c50) : Nat) : Int))) (isPt (C.ptr (m).nxt 0) ∧ 
                                  (∃ c51 : C, (((ldC m49 (C.ptr (m).nxt 4)) = (Option.some c51)) ∧ (∃ n52 : Nat, 
                                  ((x48 = ((n52 : Nat) : Int)) ∧ ((n52 < (slLen c51)) ∧ (∃ x53 : Int, (∃ x54 : Int, 
                                  (∃ x55 : Int, (∃ b56 : Bool, (((ldA m49 (slAt c51 (n52 * 4)) 4) = (Option.some [(C.int IntKind.i64 x53), 
                                  (C.int IntKind.i64 x54), (C.int IntKind.i64 x55), (C.bool b56)])) ∧ (∀ m57 : M, 
                                  ((m57 = (M.new m49 (AO.cells 4 [(C.int IntKind.i64 (0 : Int)), (C.int IntKind.i64 (0 : Int)), 
                                  (C.int IntKind.i64 (0 : Int)), (C.bool false)] false))) → (∃ m58 : M, (((stC m57 (C.ptr (m49).nxt 0) 4 [(C.int IntKind.i64 x53), 
                                  (C.int IntKind.i64 x54), (C.int IntKind.i64 x55), (C.bool b56)]) = (Option.some m58)) ∧ 
                                  (isPt (C.ptr (m49).nxt 0) ∧ (∃ b59 : Bool, (((ldC m58 (C.ptr (m49).nxt 3)) = (Option.some (C.bool b59))) ∧ 
                                  (ifB (!b59) (((0 : Int) ≤ a300) ∧ (((0 : Int) ≤ (wrapZ IntKind.u64 x48)) ∧ (((wrapZ IntKind.u64 x48) ≤ (64 : Int)) ∧ 
                                  (fitsP IntKind.i64 (a300 / ((2 : Int) ^ (Int.toNat (wrapZ IntKind.u64 x48)))) ∧ 
                                  (((0 : Int) ≤ (a300 / ((2 : Int) ^ (Int.toNat (wrapZ IntKind.u64 x48))))) ∧ (((0 : Int) < (2 : Int)) ∧ 
                                  (fitsP IntKind.i64 ((a300 / ((2 : Int) ^ (Int.toNat (wrapZ IntKind.u64 x48)))) % (2 : Int)) ∧ 
                                  (ifB (decide (((a300 / ((2 : Int) ^ (Int.toNat (wrapZ IntKind.u64 x48)))) % (2 : Int)) = (0 : Int))) (isPt (C.ptr (m49).nxt 0) ∧ 
                                  (∃ x60 : Int, (((ldC m58 (C.ptr (m49).nxt 0)) = (Option.some (C.int IntKind.i64 x60))) ∧ 
                                  (∃ n61 : Nat, ((x60 = ((n61 : Nat) : Int)) ∧ ((n61 < (slLen a200)) ∧ (∃ x62 : Int, 
                                  (((ldC m58 (slAt a200 (n61 * 1))) = (Option.some (C.int IntKind.i64 x62))) ∧ 
                                  (isPt (C.ptr (m49).nxt 0) ∧ (isPt (C.ptr (m49).nxt 1) ∧ (∃ x63 : Int, (((ldC m58 (C.ptr (m49).nxt 1)) = (Option.some (C.int IntKind.i64 x63))) ∧ 
                                  (isPt (C.ptr (m49).nxt 0) ∧ (isPt (C.ptr (m49).nxt 1) ∧ (∃ x64 : Int, (((ldC m58 (C.ptr (m49).nxt 2)) = (Option.some (C.int IntKind.i64 x64))) ∧ 
                                  (Wc prog tbl 44 [(V.c (C.int IntKind.i64 x62)), (V.c (C.int IntKind.i64 x63)), 
                                  (V.c (C.int IntKind.i64 x64))] m58 (fun v65 m66 => (∃ b67 : Bool, ((v65 = (V.c (C.bool b67))) ∧ 
                                  (ifB (!b67) (Q (V.c (C.bool false)) m66) (fitsP IntKind.i64 (x48 + (1 : Int)) ∧ 
                                  (R46 [(V.c (C.bool b47)), (V.c (C.int IntKind.i64 (x48 + (1 : Int))))] m66))))))))))))))))))))))) (fitsP IntKind.i64 (x48 + (1 : Int)) ∧ 
                                  (R46 [(V.c (C.bool b47)), (V.c (C.int IntKind.i64 (x48 + (1 : Int))))] m58)))))))))) (fitsP IntKind.i64 (x48 + (1 : Int)) ∧ 
                                  (R46 [(V.c (C.bool b47)), (V.c (C.int IntKind.i64 (x48 + (1 : Int))))] m58))))))))))))))))))))) (Q (V.c (C.bool true)) m49)))))) → 
                              (R46 [(V.c (C.bool b47)), (V.c (C.int IntKind.i64 x48))] m49))))) → (R46 [(V.c (C.bool b8)), 
                            (V.c (C.int IntKind.i64 (0 : Int)))] m10))))) → (R7 [(V.c (C.bool b8)), (V.c (C.int IntKind.i64 x9))] m10))))) → 
                  (R7 [(V.c (C.bool false)), (V.c (C.int IntKind.i64 (0 : Int)))] m5)))))))))))))))) : Wc prog tbl 38 [(V.agg 5 [(C.int IntKind.i64 a100), (C.int IntKind.i64 a101), a102, (C.int IntKind.i64 a103), a104]), (V.c a200), (V.c (C.int IntKind.i64 a300))] m Q :=
  wc_eq (n := 3) rfl (by kernel_rfl) (by kernel_rfl) h
theorem w40 {a100 : Int} {a101 : Int} {a102 : C} {a200 : C} {m : M} {Q : V → M → Prop} (h :
    (∀ m0 : M, ((m0 = (M.new m (AO.cells 3 [(C.int IntKind.i64 a100), (C.int IntKind.i64 a101), a102] false))) → (∀ R1 : List V → 
       M → Prop, ((∀ x2 : Int, (∀ x3 : Int, (∀ x4 : Int, (∀ m5 : M, ((isSl a200 ∧ (ifB (decide (x4 < (((slLen a200) : Nat) : Int))) (∃ n6 : Nat, 
                ((x4 = ((n6 : Nat) : Int)) ∧ ((n6 < (slLen a200)) ∧ (∃ x7 : Int, (((ldC m5 (slAt a200 (n6 * 1))) = (Option.some (C.int IntKind.i64 x7))) ∧ 
                    (fitsP IntKind.i64 (x2 + x7) ∧ (isPt (C.ptr (m).nxt 0) ∧ (∃ c8 : C, (((ldC m5 (C.ptr (m).nxt 2)) = (Option.some c8)) ∧ 
                        (∃ n9 : Nat, ((x4 = ((n9 : Nat) : Int)) ∧ ((n9 < (slLen c8)) ∧ (∃ x10 : Int, (((ldC m5 (slAt c8 (n9 * 1))) = (Option.some (C.int IntKind.i64 x10))) ∧ 
                             (fitsP IntKind.i64 (x3 + x10) ∧ (fitsP IntKind.i64 (x4 + (1 : Int)) ∧ (R1 [(V.c (C.int IntKind.i64 (x2 + x7))), 
                                 (V.c (C.int IntKind.i64 (x3 + x10))), (V.c (C.int IntKind.i64 (x4 + (1 : Int))))] m5))))))))))))))))) (ifB (decide (x3 = (0 : Int))) (Q (V.c (C.int IntKind.i64 (0 : Int))) m5) (((0 : Int) ≤ x2) ∧ 
                 (((0 : Int) ≤ (100 : Int)) ∧ (fitsP IntKind.i64 (x2 * (100 : Int)) ∧ (((0 : Int) ≤ (x2 * (100 : Int))) ∧ 
                    (((0 : Int) < x3) ∧ (fitsP IntKind.i64 ((x2 * (100 : Int)) / x3) ∧ (Q (V.c (C.int IntKind.i64 ((x2 * (100 : Int)) / x3))) m5)))))))))) → 
             (R1 [(V.c (C.int IntKind.i64 x2)), (V.c (C.int IntKind.i64 x3)), (V.c (C.int IntKind.i64 x4))] m5)))))) → 
        (R1 [(V.c (C.int IntKind.i64 (0 : Int))), (V.c (C.int IntKind.i64 (0 : Int))), (V.c (C.int IntKind.i64 (0 : Int)))] m0)))))) : Wc prog tbl 40 [(V.agg 3 [(C.int IntKind.i64 a100), (C.int IntKind.i64 a101), a102]), (V.c a200)] m Q :=
  wc_eq (n := 2) rfl (by kernel_rfl) (by kernel_rfl) h
theorem w74 {a100 : Int} {a101 : Int} {a102 : C} {a200 : C} {m : M} {Q : V → M → Prop} (h :
    (∀ m0 : M, ((m0 = (M.new m (AO.cells 3 [(C.int IntKind.i64 a100), (C.int IntKind.i64 a101), a102] false))) → (∀ m1 : M, 
       ((m1 = (M.new m0 (AO.cells 9 [(C.int IntKind.i64 (0 : Int)), (C.int IntKind.i64 (0 : Int)), (C.int IntKind.i64 (0 : Int)), 
            (C.int IntKind.i64 (0 : Int)), (C.int IntKind.i64 (0 : Int)), (C.int IntKind.i64 (0 : Int)), (C.int IntKind.i64 (0 : Int)), 
            (C.int IntKind.i64 (0 : Int)), (C.int IntKind.i64 (0 : Int))] false))) → (isSl a200 ∧ (∃ x2 : Int, 
          (∃ x3 : Int, (∃ c4 : C, (((ldA m1 (C.ptr (m).nxt 0) 3) = (Option.some [(C.int IntKind.i64 x2), (C.int IntKind.i64 x3), 
                c4])) ∧ (Wc prog tbl 88 [(V.agg 3 [(C.int IntKind.i64 x2), (C.int IntKind.i64 x3), c4])] m1 (fun v5 m6 => 
               (∃ x7 : Int, ((v5 = (V.c (C.int IntKind.i64 x7))) ∧ (ifB (!decide ((((slLen a200) : Nat) : Int) = x7)) (∃ m8 : M, 
                   (((stC m6 (C.ptr (m0).nxt 0) 9 [(C.int IntKind.i64 (0 : Int)), (C.int IntKind.i64 (0 : Int)), 
                       (C.int IntKind.i64 (0 : Int)), (C.int IntKind.i64 (0 : Int)), (C.int IntKind.i64 (0 : Int)), 
                       (C.int IntKind.i64 (0 : Int)), (C.int IntKind.i64 (0 : Int)), (C.int IntKind.i64 (0 : Int)), 
                       (C.int IntKind.i64 (0 : Int))]) = (Option.some m8)) ∧ (∃ x9 : Int, (∃ x10 : Int, (∃ x11 : Int, 
                       (∃ x12 : Int, (∃ x13 : Int, (∃ x14 : Int, (∃ x15 : Int, (∃ x16 : Int, (∃ x17 : Int, (((ldA m8 (C.ptr (m0).nxt 0) 9) = (Option.some [(C.int IntKind.i64 x9), 
                                 (C.int IntKind.i64 x10), (C.int IntKind.i64 x11), (C.int IntKind.i64 x12), (C.int IntKind.i64 x13), 
                                 (C.int IntKind.i64 x14), (C.int IntKind.i64 x15), (C.int IntKind.i64 x16), (C.int IntKind.i64 x17)])) ∧ 
                              (Q (V.tup [(U.agg 9 [(C.int IntKind.i64 x9), (C.int IntKind.i64 x10), (C.int IntKind.i64 x11), 
                                  (C.int IntKind.i64 x12), (C.int IntKind.i64 x13), (C.int IntKind.i64 x14), (C.int IntKind.i64 x15), 
                                  (C.int IntKind.i64 x16), (C.int IntKind.i64 x17)]), (U.c (C.bool false))]) m8))))))))))))) (∀ m18 : M, 
                   ((m18 = (M.new m6 (AO.cells 9 [(C.int IntKind.i64 (0 : Int)), (C.int IntKind.i64 (0 : Int)), 
                        (C.int IntKind.i64 (0 : Int)), (C.int IntKind.i64 (0 : Int)), (C.int IntKind.i64 (0 : Int)), 
                        (C.int IntKind.i64 (0 : Int)), (C.int IntKind.i64 (0 : Int)), (C.int IntKind.i64 (0 : Int)), 
                        (C.int IntKind.i64 (0 : Int))] false))) → (isSl a200 ∧ (∀ R19 : List V → M → Prop, ((∀ b20 : Bool, 
                        (∀ x21 : Int, (∀ m22 : M, ((ifB (decide (x21 < (((slLen a200) : Nat) : Int))) (∃ n23 : Nat, 
                             ((x21 = ((n23 : Nat) : Int)) ∧ ((n23 < (slLen a200)) ∧ (∃ x24 : Int, (((ldC m22 (slAt a200 (n23 * 1))) = (Option.some (C.int IntKind.i64 x24))) ∧ 
                                 (ifB (decide (x24 < (0 : Int))) (∃ m25 : M, (((stC m22 (C.ptr (m0).nxt 0) 9 [(C.int IntKind.i64 (0 : Int)), 
                                  (C.int IntKind.i64 (0 : Int)), (C.int IntKind.i64 (0 : Int)), (C.int IntKind.i64 (0 : Int)), 
                                  (C.int IntKind.i64 (0 : Int)), (C.int IntKind.i64 (0 : Int)), (C.int IntKind.i64 (0 : Int)), 
                                  (C.int IntKind.i64 (0 : Int)), (C.int IntKind.i64 (0 : Int))]) = (Option.some m25)) ∧ 
                                  (∃ x26 : Int, (∃ x27 : Int, (∃ x28 : Int, (∃ x29 : Int, (∃ x30 : Int, (∃ x31 : Int, 
                                  (∃ x32 : Int, (∃ x33 : Int, (∃ x34 : Int, (((ldA m25 (C.ptr (m0).nxt 0) 9) = (Option.some [(C.int IntKind.i64 x26), 
                                  (C.int IntKind.i64 x27), (C.int IntKind.i64 x28), (C.int IntKind.i64 x29), (C.int IntKind.i64 x30), 
                                  (C.int IntKind.i64 x31), (C.int IntKind.i64 x32), (C.int IntKind.i64 x33), (C.int IntKind.i64 x34)])) ∧ 
                                  (Q (V.tup [(U.agg 9 [(C.int IntKind.i64 x26), (C.int IntKind.i64 x27), (C.int IntKind.i64 x28), 
                                  (C.int IntKind.i64 x29), (C.int IntKind.i64 x30), (C.int IntKind.i64 x31), (C.int IntKind.i64 x32), 
                                  (C.int IntKind.i64 x33), (C.int IntKind.i64 x34)]), (U.c (C.bool false))]) m25))))))))))))) (isPt (C.ptr (m).nxt 0) ∧ 
                                  (∃ c35 : C, (((ldC m22 (C.ptr (m).nxt 2)) = (Option.some c35)) ∧ (∃ n36 : Nat, 
                                  ((x21 = ((n36 : Nat) : Int)) ∧ ((n36 < (slLen c35)) ∧ (∃ x37 : Int, (((ldC m22 (slAt c35 (n36 * 1))) = (Option.some (C.int IntKind.i64 x37))) ∧ 
                                  (ifB (decide (x37 < x24)) (∃ m38 : M, (((stC m22 (C.ptr (m0).nxt 0) 9 [(C.int IntKind.i64 (0 : Int)), 
                                  (C.int IntKind.i64 (0 : Int)), (C.int IntKind.i64 (0 : Int)), (C.int IntKind.i64 (0 : Int)), 
                                  (C.int IntKind.i64 (0 : Int)), (C.int IntKind.i64 (0 : Int)), (C.int IntKind.i64 (0 : Int)), 
                                  (C.int IntKind.i64 (0 : Int)), (C.int IntKind.i64 (0 : Int))]) = (Option.some m38)) ∧ 
                                  (∃ x39 : Int, (∃ x40 : Int, (∃ x41 : Int, (∃ x42 : Int, (∃ x43 : Int, (∃ x44 : Int, 
                                  (∃ x45 : Int, (∃ x46 : Int, (∃ x47 : Int, (((ldA m38 (C.ptr (m0).nxt 0) 9) = (Option.some [(C.int IntKind.i64 x39), 
                                  (C.int IntKind.i64 x40), (C.int IntKind.i64 x41), (C.int IntKind.i64 x42), (C.int IntKind.i64 x43), 
                                  (C.int IntKind.i64 x44), (C.int IntKind.i64 x45), (C.int IntKind.i64 x46), (C.int IntKind.i64 x47)])) ∧ 
                                  (Q (V.tup [(U.agg 9 [(C.int IntKind.i64 x39), (C.int IntKind.i64 x40), (C.int IntKind.i64 x41), 
                                  (C.int IntKind.i64 x42), (C.int IntKind.i64 x43), (C.int IntKind.i64 x44), (C.int IntKind.i64 x45), 
                                  (C.int IntKind.i64 x46), (C.int IntKind.i64 x47)]), (U.c (C.bool false))]) m38))))))))))))) (isPt (C.ptr (m6).nxt 0) ∧ 
                                  (∃ n48 : Nat, ((x21 = ((n48 : Nat) : Int)) ∧ ((n48 < 9) ∧ (∃ m49 : M, (((stC m22 (C.ptr (m6).nxt (0 + (n48 * 1))) 1 [(C.int IntKind.i64 x24)]) = (Option.some m49)) ∧ 
                                  (fitsP IntKind.i64 (x21 + (1 : Int)) ∧ (R19 [(V.c (C.bool b20)), (V.c (C.int IntKind.i64 (x21 + (1 : Int))))] m49))))))))))))))))))))))) (∃ x50 : Int, 
                             (∃ x51 : Int, (∃ x52 : Int, (∃ x53 : Int, (∃ x54 : Int, (∃ x55 : Int, (∃ x56 : Int, 
                                  (∃ x57 : Int, (∃ x58 : Int, (((ldA m22 (C.ptr (m6).nxt 0) 9) = (Option.some [(C.int IntKind.i64 x50), 
                                  (C.int IntKind.i64 x51), (C.int IntKind.i64 x52), (C.int IntKind.i64 x53), (C.int IntKind.i64 x54), 
                                  (C.int IntKind.i64 x55), (C.int IntKind.i64 x56), (C.int IntKind.i64 x57), (C.int IntKind.i64 x58)])) ∧ 
                                  (∃ m59 : M, (((stC m22 (C.ptr (m0).nxt 0) 9 [(C.int IntKind.i64 x50), (C.int IntKind.i64 x51), 
                                  (C.int IntKind.i64 x52), (C.int IntKind.i64 x53), (C.int IntKind.i64 x54), (C.int IntKind.i64 x55), 
                                  (C.int IntKind.i64 x56), (C.int IntKind.i64 x57), (C.int IntKind.i64 x58)]) = (Option.some m59)) ∧ 
                                  (∃ x60 : Int, (∃ x61 : Int, (∃ x62 : Int, (∃ x63 : Int, (∃ x64 : Int, (∃ x65 : Int, 
                                  (∃ x66 : Int, (∃ x67 : Int, (∃ x68 : Int, (((ldA m59 (C.ptr (m0).nxt 0) 9) = (Option.some [(C.int IntKind.i64 x60), 
                                  (C.int IntKind.i64 x61), (C.int IntKind.i64 x62), (C.int IntKind.i64 x63), (C.int IntKind.i64 x64), 
                                  (C.int IntKind.i64 x65), (C.int IntKind.i64 x66), (C.int IntKind.i64 x67), (C.int IntKind.i64 x68)])) ∧ 
                                  (Q (V.tup [(U.agg 9 [(C.int IntKind.i64 x60), (C.int IntKind.i64 x61), (C.int IntKind.i64 x62), 
                                  (C.int IntKind.i64 x63), (C.int IntKind.i64 x64), (C.int IntKind.i64 x65), (C.int IntKind.i64 x66), 
                                  (C.int IntKind.i64 x67), (C.int IntKind.i64 x68)]), (U.c (C.bool true))]) m59)))))))))))))))))))))))) → 
                           (R19 [(V.c (C.bool b20)), (V.c (C.int IntKind.i64 x21))] m22))))) → (R19 [(V.c (C.bool false)), 
                         (V.c (C.int IntKind.i64 (0 : Int)))] m18))))))))))))))))))))) : Wc prog tbl 74 [(V.agg 3 [(C.int IntKind.i64 a100), (C.int IntKind.i64 a101), a102]), (V.c a200)] m Q :=
  wc_eq (n := 2) rfl (by kernel_rfl) (by kernel_rfl) h
theorem w76 {a100 : Int} {a101 : Int} {a102 : C} {a103 : Int} {a104 : C} {m : M} {Q : V → M → Prop} (h :
    (∀ m0 : M, ((m0 = (M.new m (AO.cells 5 [(C.int IntKind.i64 a100), (C.int IntKind.i64 a101), a102, (C.int IntKind.i64 a103), 
          a104] false))) → (∀ m1 : M, ((m1 = (M.new m0 (AO.cells 6 [(C.int IntKind.i64 (0 : Int)), (C.int IntKind.i64 (0 : Int)), 
            C.sl0, (C.int IntKind.i64 (0 : Int)), C.sl0, C.map0] false))) → (∃ x2 : Int, (∃ x3 : Int, (∃ c4 : C, 
           (∃ x5 : Int, (∃ c6 : C, (((ldA m1 (C.ptr (m).nxt 0) 5) = (Option.some [(C.int IntKind.i64 x2), (C.int IntKind.i64 x3), 
                 c4, (C.int IntKind.i64 x5), c6])) ∧ (∀ m7 : M, ((m7 = (M.new m1 (AO.map [] 0))) → (∀ m8 : M, ((m8 = (M.new m7 (AO.cells 6 [(C.int IntKind.i64 (0 : Int)), 
                      (C.int IntKind.i64 (0 : Int)), C.sl0, (C.int IntKind.i64 (0 : Int)), C.sl0, C.map0] false))) → 
                  (∃ m9 : M, (((stC m8 (C.ptr (m7).nxt 0) 6 [(C.int IntKind.i64 x2), (C.int IntKind.i64 x3), c4, 
                       (C.int IntKind.i64 x5), c6, (C.map (m1).nxt)]) = (Option.some m9)) ∧ (isPt (C.ptr (m).nxt 0) ∧ 
                     (∃ c10 : C, (((ldC m9 (C.ptr (m).nxt 4)) = (Option.some c10)) ∧ (isSl c10 ∧ (∀ R11 : List V → 
                         M → Prop, ((∀ x12 : Int, (∀ m13 : M, ((ifB (decide (x12 < (((slLen c10) : Nat) : Int))) (∃ n14 : Nat, 
                               ((x12 = ((n14 : Nat) : Int)) ∧ ((n14 < (slLen c10)) ∧ (∃ x15 : Int, (∃ x16 : Int, 
                                  (∃ x17 : Int, (∃ b18 : Bool, (((ldA m13 (slAt c10 (n14 * 4)) 4) = (Option.some [(C.int IntKind.i64 x15), 
                                  (C.int IntKind.i64 x16), (C.int IntKind.i64 x17), (C.bool b18)])) ∧ (∀ m19 : M, 
                                  ((m19 = (M.new m13 (AO.cells 4 [(C.int IntKind.i64 (0 : Int)), (C.int IntKind.i64 (0 : Int)), 
                                  (C.int IntKind.i64 (0 : Int)), (C.bool false)] false))) → (∃ m20 : M, (((stC m19 (C.ptr (m13).nxt 0) 4 [(C.int IntKind.i64 x15), 
                                  (C.int IntKind.i64 x16), (C.int IntKind.i64 x17), (C.bool b18)]) = (Option.some m20)) ∧ 
                                  (isPt (C.ptr (m).nxt 0) ∧ (isPt (C.ptr (m).nxt 0) ∧ (∃ c21 : C, (((ldC m20 (C.ptr (m).nxt 2)) = (Option.some c21)) ∧ 
                                  (isPt (C.ptr (m13).nxt 0) ∧ (∃ x22 : Int, (((ldC m20 (C.ptr (m13).nxt 0)) = (Option.some (C.int IntKind.i64 x22))) ∧ 
                                  (∃ n23 : Nat, ((x22 = ((n23 : Nat) : Int)) ∧ ((n23 < (slLen c21)) ∧ (∃ x24 : Int, 
                                  (((ldC m20 (slAt c21 (n23 * 1))) = (Option.some (C.int IntKind.i64 x24))) ∧ (fitsP IntKind.i64 (x24 + (1 : Int)) ∧ 
                                  (∀ R25 : List V → M → Prop, ((∀ x26 : Int, (∀ m27 : M, ((ifB (decide (x26 < (x24 + (1 : Int)))) (isPt (C.ptr (m13).nxt 0) ∧ 
                                  (∃ x28 : Int, (((ldC m27 (C.ptr (m13).nxt 0)) = (Option.some (C.int IntKind.i64 x28))) ∧ 
                                  (∀ m29 : M, ((m29 = (M.new m27 (AO.cells 2 [(C.int IntKind.i64 (0 : Int)), (C.int IntKind.i64 (0 : Int))] false))) → 
                                  (∃ m30 : M, (((stC m29 (C.ptr (m27).nxt 0) 2 [(C.int IntKind.i64 x28), (C.int IntKind.i64 x26)]) = (Option.some m30)) ∧ 
                                  (isPt (C.ptr (m7).nxt 0) ∧ (∃ c31 : C, (((ldC m30 (C.ptr (m7).nxt 5)) = (Option.some c31)) ∧ 
                                  (∃ x32 : Int, (∃ x33 : Int, (((ldA m30 (C.ptr (m27).nxt 0) 2) = (Option.some [(C.int IntKind.i64 x32), 
                                  (C.int IntKind.i64 x33)])) ∧ (∃ y34 : Option U, (((lkM prog 138 m30 c31 (V.agg 2 [(C.int IntKind.i64 x32), 
                                  (C.int IntKind.i64 x33)])) = (Option.some y34)) ∧ (((y34 = Option.none) → (∀ m35 : M, 
                                  ((m35 = (M.new m30 (AO.cells 6 [(C.bool false), (C.bool false), (C.bool false), 
                                  (C.bool false), (C.bool false), (C.bool false)] false))) → (∃ m36 : M, (((stC m35 (C.ptr (m30).nxt 0) 6 [(C.bool false), 
                                  (C.bool false), (C.bool false), (C.bool false), (C.bool false), (C.bool false)]) = (Option.some m36)) ∧ 
                                  (isPt (C.ptr (m13).nxt 0) ∧ (∃ b37 : Bool, (((ldC m36 (C.ptr (m13).nxt 3)) = (Option.some (C.bool b37))) ∧ 
                                  (ifB (!b37) (isPt (C.ptr (m13).nxt 0) ∧ (∃ x38 : Int, (∃ x39 : Int, (((ldA m36 (C.ptr (m13).nxt 1) 2) = (Option.some [(C.int IntKind.i64 x38), 
                                  (C.int IntKind.i64 x39)])) ∧ (Wc prog tbl 92 [(V.agg 2 [(C.int IntKind.i64 x38), 
                                  (C.int IntKind.i64 x39)]), (V.c (C.int IntKind.i64 x26))] m36 (fun v40 m41 => 
                                  (∃ b42 : Bool, ((v40 = (V.c (C.bool b42))) ∧ (isPt (C.ptr (m30).nxt 0) ∧ (∃ n43 : Nat, 
                                  ((x12 = ((n43 : Nat) : Int)) ∧ ((n43 < 6) ∧ (∃ m44 : M, (((stC m41 (C.ptr (m30).nxt (0 + (n43 * 1))) 1 [(C.bool (!b42))]) = (Option.some m44)) ∧ 
                                  (isPt (C.ptr (m7).nxt 0) ∧ (∃ c45 : C, (((ldC m44 (C.ptr (m7).nxt 5)) = (Option.some c45)) ∧ 
                                  (∃ x46 : Int, (∃ x47 : Int, (((ldA m44 (C.ptr (m27).nxt 0) 2) = (Option.some [(C.int IntKind.i64 x46), 
                                  (C.int IntKind.i64 x47)])) ∧ (∃ b48 : Bool, (∃ b49 : Bool, (∃ b50 : Bool, (∃ b51 : Bool, 
                                  (∃ b52 : Bool, (∃ b53 : Bool, (((ldA m44 (C.ptr (m30).nxt 0) 6) = (Option.some [(C.bool b48), 
                                  (C.bool b49), (C.bool b50), (C.bool b51), (C.bool b52), (C.bool b53)])) ∧ (∃ m54 : M, 
                                  (((upM prog 138 m44 c45 (V.agg 2 [(C.int IntKind.i64 x46), (C.int IntKind.i64 x47)]) (V.agg 6 [(C.bool b48), 
                                  (C.bool b49), (C.bool b50), (C.bool b51), (C.bool b52), (C.bool b53)])) = (Option.some m54)) ∧ 
                                  (fitsP IntKind.i64 (x26 + (1 : Int)) ∧ (R25 [(V.c (C.int IntKind.i64 (x26 + (1 : Int))))] m54))))))))))))))))))))))))))))))) (isPt (C.ptr (m30).nxt 0) ∧ 
                                  (∃ n55 : Nat, ((x12 = ((n55 : Nat) : Int)) ∧ ((n55 < 6) ∧ (∃ m56 : M, (((stC m36 (C.ptr (m30).nxt (0 + (n55 * 1))) 1 [(C.bool false)]) = (Option.some m56)) ∧ 
                                  (isPt (C.ptr (m7).nxt 0) ∧ (∃ c57 : C, (((ldC m56 (C.ptr (m7).nxt 5)) = (Option.some c57)) ∧ 
                                  (∃ x58 : Int, (∃ x59 : Int, (((ldA m56 (C.ptr (m27).nxt 0) 2) = (Option.some [(C.int IntKind.i64 x58), 
                                  (C.int IntKind.i64 x59)])) ∧ (∃ b60 : Bool, (∃ b61 : Bool, (∃ b62 : Bool, (∃ b63 : Bool, 
                                  (∃ b64 : Bool, (∃ b65 : Bool, (((ldA m56 (C.ptr (m30).nxt 0) 6) = (Option.some [(C.bool b60), 
                                  (C.bool b61), (C.bool b62), (C.bool b63), (C.bool b64), (C.bool b65)])) ∧ (∃ m66 : M, 
                                  (((upM prog 138 m56 c57 (V.agg 2 [(C.int IntKind.i64 x58), (C.int IntKind.i64 x59)]) (V.agg 6 [(C.bool b60), 
                                  (C.bool b61), (C.bool b62), (C.bool b63), (C.bool b64), (C.bool b65)])) = (Option.some m66)) ∧ 
                                  (fitsP IntKind.i64 (x26 + (1 : Int)) ∧ (R25 [(V.c (C.int IntKind.i64 (x26 + (1 : Int))))] m66)))))))))))))))))))))))))))))))) ∧ 
                                  (∀ u67 : U, ((y34 = (Option.some u67)) → (∃ b68 : Bool, (∃ b69 : Bool, (∃ b70 : Bool, 
                                  (∃ b71 : Bool, (∃ b72 : Bool, (∃ b73 : Bool, ((u67 = (U.agg 6 [(C.bool b68), 
                                  (C.bool b69), (C.bool b70), (C.bool b71), (C.bool b72), (C.bool b73)])) ∧ (∀ m74 : M, 
                                  ((m74 = (M.new m30 (AO.cells 6 [(C.bool false), (C.bool false), (C.bool false), 
                                  (C.bool false), (C.bool false), (C.bool false)] false))) → (∃ m75 : M, (((stC m74 (C.ptr (m30).nxt 0) 6 [(C.bool b68), 
                                  (C.bool b69), (C.bool b70), (C.bool b71), (C.bool b72), (C.bool b73)]) = (Option.some m75)) ∧ 
                                  (isPt (C.ptr (m13).nxt 0) ∧ (∃ b76 : Bool, (((ldC m75 (C.ptr (m13).nxt 3)) = (Option.some (C.bool b76))) ∧ 
                                  (ifB (!b76) (isPt (C.ptr (m13).nxt 0) ∧ (∃ x77 : Int, (∃ x78 : Int, (((ldA m75 (C.ptr (m13).nxt 1) 2) = (Option.some [(C.int IntKind.i64 x77), 
                                  (C.int IntKind.i64 x78)])) ∧ (Wc prog tbl 92 [(V.agg 2 [(C.int IntKind.i64 x77), 
                                  (C.int IntKind.i64 x78)]), (V.c (C.int IntKind.i64 x26))] m75 (fun v79 m80 => 
                                  (∃ b81 : Bool, ((v79 = (V.c (C.bool b81))) ∧ (isPt (C.ptr (m30).nxt 0) ∧ (∃ n82 : Nat, 
                                  ((x12 = ((n82 : Nat) : Int)) ∧ ((n82 < 6) ∧ (∃ m83 : M, (((stC m80 (C.ptr (m30).nxt (0 + (n82 * 1))) 1 [(C.bool (!b81))]) = (Option.some m83)) ∧ 
                                  (isPt (C.ptr (m7).nxt 0) ∧ (∃ c84 : C, (((ldC m83 (C.ptr (m7).nxt 5)) = (Option.some c84)) ∧ 
                                  (∃ x85 : Int, (∃ x86 : Int, (((ldA m83 (C.ptr (m27).nxt 0) 2) = (Option.some [(C.int IntKind.i64 x85), 
                                  (C.int IntKind.i64 x86)])) ∧ (∃ b87 : Bool, (∃ b88 : Bool, (∃ b89 : Bool, (∃ b90 : Bool, 
                                  (∃ b91 : Bool, (∃ b92 : Bool, (((ldA m83 (C.ptr (m30).nxt 0) 6) = (Option.some [(C.bool b87), 
                                  (C.bool b88), (C.bool b89), (C.bool b90), (C.bool b91), (C.bool b92)])) ∧ (∃ m93 : M, 
                                  (((upM prog 138 m83 c84 (V.agg 2 [(C.int IntKind.i64 x85), (C.int IntKind.i64 x86)]) (V.agg 6 [(C.bool b87), 
                                  (C.bool b88), (C.bool b89), (C.bool b90), (C.bool b91), (C.bool b92)])) = (Option.some m93)) ∧ 
                                  (fitsP IntKind.i64 (x26 + (1 : Int)) ∧ (R25 [(V.c (C.int IntKind.i64 (x26 + (1 : Int))))] m93))))))))))))))))))))))))))))))) (isPt (C.ptr (m30).nxt 0) ∧ 
                                  (∃ n94 : Nat, ((x12 = ((n94 : Nat) : Int)) ∧ ((n94 < 6) ∧ (∃ m95 : M, (((stC m75 (C.ptr (m30).nxt (0 + (n94 * 1))) 1 [(C.bool false)]) = (Option.some m95)) ∧ 
                                  (isPt (C.ptr (m7).nxt 0) ∧ (∃ c96 : C, (((ldC m95 (C.ptr (m7).nxt 5)) = (Option.some c96)) ∧ 
                                  (∃ x97 : Int, (∃ x98 : Int, (((ldA m95 (C.ptr (m27).nxt 0) 2) = (Option.some [(C.int IntKind.i64 x97), 
                                  (C.int IntKind.i64 x98)])) ∧ (∃ b99 : Bool, (∃ b100 : Bool, (∃ b101 : Bool, (∃ b102 : Bool, 
                                  (∃ b103 : Bool, (∃ b104 : Bool, (((ldA m95 (C.ptr (m30).nxt 0) 6) = (Option.some [(C.bool b99), 
                                  (C.bool b100), (C.bool b101), (C.bool b102), (C.bool b103), (C.bool b104)])) ∧ 
                                  (∃ m105 : M, (((upM prog 138 m95 c96 (V.agg 2 [(C.int IntKind.i64 x97), (C.int IntKind.i64 x98)]) (V.agg 6 [(C.bool b99), 
                                  (C.bool b100), (C.bool b101), (C.bool b102), (C.bool b103), (C.bool b104)])) = (Option.some m105)) ∧ 
                                  (fitsP IntKind.i64 (x26 + (1 : Int)) ∧ (R25 [(V.c (C.int IntKind.i64 (x26 + (1 : Int))))] m105)))))))))))))))))))))))))))))))))))))))))))))))))))))))) (fitsP IntKind.i64 (x12 + (1 : Int)) ∧ 
                                  (R11 [(V.c (C.int IntKind.i64 (x12 + (1 : Int))))] m27))) → (R25 [(V.c (C.int IntKind.i64 x26))] m27)))) → 
                                  (R25 [(V.c (C.int IntKind.i64 (0 : Int)))] m20)))))))))))))))))))))))))))) (∃ x106 : Int, 
                               (∃ x107 : Int, (∃ c108 : C, (∃ x109 : Int, (∃ c110 : C, (∃ c111 : C, (((ldA m13 (C.ptr (m7).nxt 0) 6) = (Option.some [(C.int IntKind.i64 x106), 
                                  (C.int IntKind.i64 x107), c108, (C.int IntKind.i64 x109), c110, c111])) ∧ (∃ m112 : M, 
                                  (((stC m13 (C.ptr (m0).nxt 0) 6 [(C.int IntKind.i64 x106), (C.int IntKind.i64 x107), 
                                  c108, (C.int IntKind.i64 x109), c110, c111]) = (Option.some m112)) ∧ (∃ x113 : Int, 
                                  (∃ x114 : Int, (∃ c115 : C, (∃ x116 : Int, (∃ c117 : C, (∃ c118 : C, (((ldA m112 (C.ptr (m0).nxt 0) 6) = (Option.some [(C.int IntKind.i64 x113), 
                                  (C.int IntKind.i64 x114), c115, (C.int IntKind.i64 x116), c117, c118])) ∧ (Q (V.agg 6 [(C.int IntKind.i64 x113), 
                                  (C.int IntKind.i64 x114), c115, (C.int IntKind.i64 x116), c117, c118]) m112)))))))))))))))))) → 
                             (R11 [(V.c (C.int IntKind.i64 x12))] m13)))) → (R11 [(V.c (C.int IntKind.i64 (0 : Int)))] m9)))))))))))))))))))))))) : Wc prog tbl 76 [(V.agg 5 [(C.int IntKind.i64 a100), (C.int IntKind.i64 a101), a102, (C.int IntKind.i64 a103), a104])] m Q :=
  wc_eq (n := 1) rfl (by kernel_rfl) (by kernel_rfl) h
theorem w78 {a100 : Int} {a101 : Int} {a102 : C} {a103 : Int} {a104 : C} {m : M} {Q : V → M → Prop} (h :
    (∀ m0 : M, ((m0 = (M.new m (AO.cells 5 [(C.int IntKind.i64 a100), (C.int IntKind.i64 a101), a102, (C.int IntKind.i64 a103), 
          a104] false))) → (isPt (C.ptr (m).nxt 0) ∧ (∃ c1 : C, (((ldC m0 (C.ptr (m).nxt 4)) = (Option.some c1)) ∧ 
         (isSl c1 ∧ (ifB (decide ((6 : Int) < (((slLen c1) : Nat) : Int))) (Q (V.c (C.int IntKind.i64 (3 : Int))) m0) (isPt (C.ptr (m).nxt 0) ∧ 
            (∃ x2 : Int, (∃ x3 : Int, (∃ c4 : C, (((ldA m0 (C.ptr (m).nxt 0) 3) = (Option.some [(C.int IntKind.i64 x2), 
                   (C.int IntKind.i64 x3), c4])) ∧ (Wc prog tbl 26 [(V.agg 3 [(C.int IntKind.i64 x2), (C.int IntKind.i64 x3), 
                    c4])] m0 (fun v5 m6 => (∃ b7 : Bool, ((v5 = (V.c (C.bool b7))) ∧ (ifB (!b7) (Q (V.c (C.int IntKind.i64 (1 : Int))) m6) (isPt (C.ptr (m).nxt 0) ∧ 
                      (∃ x8 : Int, (((ldC m6 (C.ptr (m).nxt 3)) = (Option.some (C.int IntKind.i64 x8))) ∧ (Wc prog tbl 44 [(V.c (C.int IntKind.i64 x8)), 
                          (V.c (C.int IntKind.i64 (0 : Int))), (V.c (C.int IntKind.i64 (9 : Int)))] m6 (fun v9 m10 => 
                          (∃ b11 : Bool, ((v9 = (V.c (C.bool b11))) ∧ (ifB (!b11) (Q (V.c (C.int IntKind.i64 (1 : Int))) m10) (∀ R12 : List V → 
                              M → Prop, ((∀ x13 : Int, (∀ x14 : Int, (∀ m15 : M, ((isPt (C.ptr (m).nxt 0) ∧ (∃ c16 : C, 
                                  (((ldC m15 (C.ptr (m).nxt 4)) = (Option.some c16)) ∧ (isSl c16 ∧ (ifB (decide (x14 < (((slLen c16) : Nat) : Int))) (isPt (C.ptr (m).nxt 0) ∧ 
                                  (∃ c17 : C, (((ldC m15 (C.ptr (m).nxt 4)) = (Option.some c17)) ∧ (∃ n18 : Nat, 
                                  ((x14 = ((n18 : Nat) : Int)) ∧ ((n18 < (slLen c17)) ∧ (∃ x19 : Int, (∃ x20 : Int, 
                                  (∃ x21 : Int, (∃ b22 : Bool, (((ldA m15 (slAt c17 (n18 * 4)) 4) = (Option.some [(C.int IntKind.i64 x19), 
                                  (C.int IntKind.i64 x20), (C.int IntKind.i64 x21), (C.bool b22)])) ∧ (∀ m23 : M, 
                                  ((m23 = (M.new m15 (AO.cells 4 [(C.int IntKind.i64 (0 : Int)), (C.int IntKind.i64 (0 : Int)), 
                                  (C.int IntKind.i64 (0 : Int)), (C.bool false)] false))) → (∃ m24 : M, (((stC m23 (C.ptr (m15).nxt 0) 4 [(C.int IntKind.i64 x19), 
                                  (C.int IntKind.i64 x20), (C.int IntKind.i64 x21), (C.bool b22)]) = (Option.some m24)) ∧ 
                                  (isPt (C.ptr (m15).nxt 0) ∧ (∃ x25 : Int, (((ldC m24 (C.ptr (m15).nxt 0)) = (Option.some (C.int IntKind.i64 x25))) ∧ 
                                  (isPt (C.ptr (m).nxt 0) ∧ (isPt (C.ptr (m).nxt 0) ∧ (∃ c26 : C, (((ldC m24 (C.ptr (m).nxt 2)) = (Option.some c26)) ∧ 
                                  (isSl c26 ∧ (fitsP IntKind.i64 ((((slLen c26) : Nat) : Int) - (1 : Int)) ∧ (Wc prog tbl 44 [(V.c (C.int IntKind.i64 x25)), 
                                  (V.c (C.int IntKind.i64 (0 : Int))), (V.c (C.int IntKind.i64 ((((slLen c26) : Nat) : Int) - (1 : Int))))] m24 (fun v27 m28 => 
                                  (∃ b29 : Bool, ((v27 = (V.c (C.bool b29))) ∧ (ifB (!b29) (Q (V.c (C.int IntKind.i64 (1 : Int))) m28) (isPt (C.ptr (m15).nxt 0) ∧ 
                                  (isPt (C.ptr (m15).nxt 1) ∧ (∃ x30 : Int, (((ldC m28 (C.ptr (m15).nxt 1)) = (Option.some (C.int IntKind.i64 x30))) ∧ 
                                  (isPt (C.ptr (m15).nxt 0) ∧ (isPt (C.ptr (m15).nxt 1) ∧ (∃ x31 : Int, (((ldC m28 (C.ptr (m15).nxt 2)) = (Option.some (C.int IntKind.i64 x31))) ∧ 
                                  (Wc prog tbl 44 [(V.c (C.int IntKind.i64 x30)), (V.c (C.int IntKind.i64 (0 : Int))), 
                                  (V.c (C.int IntKind.i64 x31))] m28 (fun v32 m33 => (∃ b34 : Bool, ((v32 = (V.c (C.bool b34))) ∧ 
                                  (ifB (!b34) (Q (V.c (C.int IntKind.i64 (1 : Int))) m33) (isPt (C.ptr (m15).nxt 0) ∧ 
                                  (isPt (C.ptr (m15).nxt 1) ∧ (∃ x35 : Int, (((ldC m33 (C.ptr (m15).nxt 2)) = (Option.some (C.int IntKind.i64 x35))) ∧ 
                                  (ifB (decide ((9 : Int) < x35)) (Q (V.c (C.int IntKind.i64 (1 : Int))) m33) (fitsP IntKind.i64 (x14 + (1 : Int)) ∧ 
                                  (R12 [(V.c (C.int IntKind.i64 x13)), (V.c (C.int IntKind.i64 (x14 + (1 : Int))))] m33))))))))))))))))))))))))))))))))))))))))))))))))) (isPt (C.ptr (m).nxt 0) ∧ 
                                  (∃ x36 : Int, (∃ x37 : Int, (∃ c38 : C, (((ldA m15 (C.ptr (m).nxt 0) 3) = (Option.some [(C.int IntKind.i64 x36), 
                                  (C.int IntKind.i64 x37), c38])) ∧ (Wc prog tbl 60 [(V.agg 3 [(C.int IntKind.i64 x36), 
                                  (C.int IntKind.i64 x37), c38])] m15 (fun v39 m40 => (∃ x41 : Int, ((v39 = (V.c (C.int IntKind.i64 x41))) ∧ 
                                  (ifB (decide ((2000 : Int) < x41)) (Q (V.c (C.int IntKind.i64 (3 : Int))) m40) (Q (V.c (C.int IntKind.i64 (0 : Int))) m40)))))))))))))))) → 
                                  (R12 [(V.c (C.int IntKind.i64 x13)), (V.c (C.int IntKind.i64 x14))] m15))))) → 
                               (R12 [(V.c (C.int IntKind.i64 (0 : Int))), (V.c (C.int IntKind.i64 (0 : Int)))] m10))))))))))))))))))))))))))))) : Wc prog tbl 78 [(V.agg 5 [(C.int IntKind.i64 a100), (C.int IntKind.i64 a101), a102, (C.int IntKind.i64 a103), a104])] m Q :=
  wc_eq (n := 1) rfl (by kernel_rfl) (by kernel_rfl) h
theorem w80 {a100 : Int} {a101 : Int} {a102 : C} {m : M} {Q : V → M → Prop} (h :
    (∀ m0 : M, ((m0 = (M.new m (AO.cells 3 [(C.int IntKind.i64 a100), (C.int IntKind.i64 a101), a102] false))) → (isPt (C.ptr (m).nxt 0) ∧ 
       (∃ c1 : C, (((ldC m0 (C.ptr (m).nxt 2)) = (Option.some c1)) ∧ (isSl c1 ∧ (∀ R2 : List V → M → Prop, ((∀ x3 : Int, 
             (∀ x4 : Int, (∀ m5 : M, ((ifB (decide (x4 < (((slLen c1) : Nat) : Int))) (∃ n6 : Nat, ((x4 = ((n6 : Nat) : Int)) ∧ 
                   ((n6 < (slLen c1)) ∧ (∃ x7 : Int, (((ldC m5 (slAt c1 (n6 * 1))) = (Option.some (C.int IntKind.i64 x7))) ∧ 
                      (fitsP IntKind.i64 (x7 + (1 : Int)) ∧ (((0 : Int) ≤ x3) ∧ (((0 : Int) ≤ (x7 + (1 : Int))) ∧ 
                         (fitsP IntKind.i64 (x3 * (x7 + (1 : Int))) ∧ (fitsP IntKind.i64 (x4 + (1 : Int)) ∧ (R2 [(V.c (C.int IntKind.i64 (x3 * (x7 + (1 : Int))))), 
                             (V.c (C.int IntKind.i64 (x4 + (1 : Int))))] m5))))))))))) (Q (V.c (C.int IntKind.i64 x3)) m5)) → 
                (R2 [(V.c (C.int IntKind.i64 x3)), (V.c (C.int IntKind.i64 x4))] m5))))) → (R2 [(V.c (C.int IntKind.i64 (1 : Int))), 
              (V.c (C.int IntKind.i64 (0 : Int)))] m0)))))))))) : Wc prog tbl 80 [(V.agg 3 [(C.int IntKind.i64 a100), (C.int IntKind.i64 a101), a102])] m Q :=
  wc_eq (n := 1) rfl (by kernel_rfl) (by kernel_rfl) h
theorem w96 {a100 : C} {m : M} {Q : V → M → Prop} (h :
    (isSl a100 ∧ (∀ R0 : List V → M → Prop, ((∀ x1 : Int, (∀ x2 : Int, (∀ m3 : M, ((ifB (decide (x2 < (((slLen a100) : Nat) : Int))) (∃ n4 : Nat, 
             ((x2 = ((n4 : Nat) : Int)) ∧ ((n4 < (slLen a100)) ∧ (∃ x5 : Int, (((ldC m3 (slAt a100 (n4 * 1))) = (Option.some (C.int IntKind.i64 x5))) ∧ 
                 (fitsP IntKind.i64 (x1 + x5) ∧ (fitsP IntKind.i64 (x2 + (1 : Int)) ∧ (R0 [(V.c (C.int IntKind.i64 (x1 + x5))), 
                     (V.c (C.int IntKind.i64 (x2 + (1 : Int))))] m3)))))))) (Q (V.c (C.int IntKind.i64 x1)) m3)) → 
           (R0 [(V.c (C.int IntKind.i64 x1)), (V.c (C.int IntKind.i64 x2))] m3))))) → (R0 [(V.c (C.int IntKind.i64 (0 : Int))), 
         (V.c (C.int IntKind.i64 (0 : Int)))] m))))) : Wc prog tbl 96 [(V.c a100)] m Q :=
  wc_eq (n := 1) rfl (by kernel_rfl) (by kernel_rfl) h
theorem w98 {a100 : C} {a200 : C} {m : M} {Q : V → M → Prop} (h :
    (∀ m0 : M, ((m0 = (M.new m (AO.cells 1 [a200] false))) → (Wc prog tbl 114 [(V.c a100), (V.c (C.fn (Fn.func 115) [] [(W.c (C0.ptr (m).nxt 0))]))] m0 (fun v1 m2 => 
        (∃ b3 : Bool, ((v1 = (V.c (C.bool b3))) ∧ (Q (V.c (C.bool (!b3))) m2)))))))) : Wc prog tbl 98 [(V.c a100), (V.c a200)] m Q :=
  wc_eq (n := 2) rfl (by kernel_rfl) (by kernel_rfl) h
theorem w112 {a100 : Int} {a101 : Int} {a102 : C} {a103 : Int} {a104 : C} {a200 : Int} {a201 : Int} {a202 : Int} {a203 : Int} {a204 : Int} {a205 : Int} {a206 : Int} {a207 : Int} {a208 : Int} {a300 : Int} {m : M} {Q : V → M → Prop} (h :
    (∀ m0 : M, ((m0 = (M.new m (AO.cells 5 [(C.int IntKind.i64 a100), (C.int IntKind.i64 a101), a102, (C.int IntKind.i64 a103), 
          a104] false))) → (∀ m1 : M, ((m1 = (M.new m0 (AO.cells 9 [(C.int IntKind.i64 a200), (C.int IntKind.i64 a201), 
            (C.int IntKind.i64 a202), (C.int IntKind.i64 a203), (C.int IntKind.i64 a204), (C.int IntKind.i64 a205), 
            (C.int IntKind.i64 a206), (C.int IntKind.i64 a207), (C.int IntKind.i64 a208)] false))) → (fitsP IntKind.i64 (a300 - (1 : Int)) ∧ 
         (isPt (C.ptr (m).nxt 0) ∧ (isPt (C.ptr (m).nxt 0) ∧ (∃ x2 : Int, (((ldC m1 (C.ptr (m).nxt 1)) = (Option.some (C.int IntKind.i64 x2))) ∧ 
             (fitsP IntKind.i64 (a300 - x2) ∧ (isPt (C.ptr (m).nxt 0) ∧ (isPt (C.ptr (m).nxt 0) ∧ (∃ x3 : Int, 
                 (((ldC m1 (C.ptr (m).nxt 1)) = (Option.some (C.int IntKind.i64 x3))) ∧ (((0 : Int) ≤ a300) ∧ (((0 : Int) < x3) ∧ 
                    (fitsP IntKind.i64 (a300 % x3) ∧ (ifB (decide ((0 : Int) < (a300 % x3))) (∃ x4 : Int, (∃ x5 : Int, 
                        (∃ c6 : C, (∃ x7 : Int, (∃ c8 : C, (((ldA m1 (C.ptr (m).nxt 0) 5) = (Option.some [(C.int IntKind.i64 x4), 
                               (C.int IntKind.i64 x5), c6, (C.int IntKind.i64 x7), c8])) ∧ (isPt (C.ptr (m0).nxt 0) ∧ 
                             (∃ n9 : Nat, ((a300 = ((n9 : Nat) : Int)) ∧ ((n9 < 9) ∧ (∃ x10 : Int, (((ldC m1 (C.ptr (m0).nxt (0 + (n9 * 1)))) = (Option.some (C.int IntKind.i64 x10))) ∧ 
                                  (isPt (C.ptr (m0).nxt 0) ∧ (∃ n11 : Nat, (((a300 - (1 : Int)) = ((n11 : Nat) : Int)) ∧ 
                                  ((n11 < 9) ∧ (∃ x12 : Int, (((ldC m1 (C.ptr (m0).nxt (0 + (n11 * 1)))) = (Option.some (C.int IntKind.i64 x12))) ∧ 
                                  (Wc prog tbl 123 [(V.agg 5 [(C.int IntKind.i64 x4), (C.int IntKind.i64 x5), c6, 
                                  (C.int IntKind.i64 x7), c8]), (V.c (C.int IntKind.i64 x10)), (V.c (C.int IntKind.i64 x12))] m1 (fun v13 m14 => 
                                  (∃ b15 : Bool, ((v13 = (V.c (C.bool b15))) ∧ (ifB b15 (Q (V.c (C.bool true)) m14) (ifB (decide ((0 : Int) ≤ (a300 - x2))) (∃ x16 : Int, 
                                  (∃ x17 : Int, (∃ c18 : C, (∃ x19 : Int, (∃ c20 : C, (((ldA m14 (C.ptr (m).nxt 0) 5) = (Option.some [(C.int IntKind.i64 x16), 
                                  (C.int IntKind.i64 x17), c18, (C.int IntKind.i64 x19), c20])) ∧ (isPt (C.ptr (m0).nxt 0) ∧ 
                                  (∃ n21 : Nat, ((a300 = ((n21 : Nat) : Int)) ∧ ((n21 < 9) ∧ (∃ x22 : Int, (((ldC m14 (C.ptr (m0).nxt (0 + (n21 * 1)))) = (Option.some (C.int IntKind.i64 x22))) ∧ 
                                  (isPt (C.ptr (m0).nxt 0) ∧ (∃ n23 : Nat, (((a300 - x2) = ((n23 : Nat) : Int)) ∧ 
                                  ((n23 < 9) ∧ (∃ x24 : Int, (((ldC m14 (C.ptr (m0).nxt (0 + (n23 * 1)))) = (Option.some (C.int IntKind.i64 x24))) ∧ 
                                  (Wc prog tbl 123 [(V.agg 5 [(C.int IntKind.i64 x16), (C.int IntKind.i64 x17), 
                                  c18, (C.int IntKind.i64 x19), c20]), (V.c (C.int IntKind.i64 x22)), (V.c (C.int IntKind.i64 x24))] m14 (fun v25 m26 => 
                                  (∃ b27 : Bool, ((v25 = (V.c (C.bool b27))) ∧ (Q (V.c (C.bool b27)) m26))))))))))))))))))))))) (Q (V.c (C.bool false)) m14))))))))))))))))))))))))) (ifB (decide ((0 : Int) ≤ (a300 - x2))) (∃ x28 : Int, 
                        (∃ x29 : Int, (∃ c30 : C, (∃ x31 : Int, (∃ c32 : C, (((ldA m1 (C.ptr (m).nxt 0) 5) = (Option.some [(C.int IntKind.i64 x28), 
                                (C.int IntKind.i64 x29), c30, (C.int IntKind.i64 x31), c32])) ∧ (isPt (C.ptr (m0).nxt 0) ∧ 
                              (∃ n33 : Nat, ((a300 = ((n33 : Nat) : Int)) ∧ ((n33 < 9) ∧ (∃ x34 : Int, (((ldC m1 (C.ptr (m0).nxt (0 + (n33 * 1)))) = (Option.some (C.int IntKind.i64 x34))) ∧ 
                                  (isPt (C.ptr (m0).nxt 0) ∧ (∃ n35 : Nat, (((a300 - x2) = ((n35 : Nat) : Int)) ∧ 
                                  ((n35 < 9) ∧ (∃ x36 : Int, (((ldC m1 (C.ptr (m0).nxt (0 + (n35 * 1)))) = (Option.some (C.int IntKind.i64 x36))) ∧ 
                                  (Wc prog tbl 123 [(V.agg 5 [(C.int IntKind.i64 x28), (C.int IntKind.i64 x29), 
                                  c30, (C.int IntKind.i64 x31), c32]), (V.c (C.int IntKind.i64 x34)), (V.c (C.int IntKind.i64 x36))] m1 (fun v37 m38 => 
                                  (∃ b39 : Bool, ((v37 = (V.c (C.bool b39))) ∧ (Q (V.c (C.bool b39)) m38))))))))))))))))))))))) (Q (V.c (C.bool false)) m1))))))))))))))))))))) : Wc prog tbl 112 [(V.agg 5 [(C.int IntKind.i64 a100), (C.int IntKind.i64 a101), a102, (C.int IntKind.i64 a103), a104]), (V.agg 9 [(C.int IntKind.i64 a200), (C.int IntKind.i64 a201), (C.int IntKind.i64 a202), (C.int IntKind.i64 a203), (C.int IntKind.i64 a204), (C.int IntKind.i64 a205), (C.int IntKind.i64 a206), (C.int IntKind.i64 a207), (C.int IntKind.i64 a208)]), (V.c (C.int IntKind.i64 a300))] m Q :=
  wc_eq (n := 3) rfl (by kernel_rfl) (by kernel_rfl) h
theorem w114 {a100 : C} {a200 : C} {m : M} {Q : V → M → Prop} (h :
    (Wc prog tbl 124 [(V.c a100), (V.c a200)] m (fun v0 m1 => (∃ x2 : Int, ((v0 = (V.c (C.int IntKind.i64 x2))) ∧ (Q (V.c (C.bool (decide ((0 : Int) ≤ x2)))) m1)))))) : Wc prog tbl 114 [(V.c a100), (V.c a200)] m Q :=
  wc_eq (n := 2) rfl (by kernel_rfl) (by kernel_rfl) h
theorem w124 {a100 : C} {a200 : C} {m : M} {Q : V → M → Prop} (h :
    (isSl a100 ∧ (∀ R0 : List V → M → Prop, ((∀ x1 : Int, (∀ x2 : Int, (∀ m3 : M, ((ifB (decide (x2 < (((slLen a100) : Nat) : Int))) (∃ n4 : Nat, 
             ((x2 = ((n4 : Nat) : Int)) ∧ ((n4 < (slLen a100)) ∧ (∃ x5 : Int, (∃ x6 : Int, (∃ x7 : Int, (∃ b8 : Bool, 
                   (((ldA m3 (slAt a100 (n4 * 4)) 4) = (Option.some [(C.int IntKind.i64 x5), (C.int IntKind.i64 x6), 
                       (C.int IntKind.i64 x7), (C.bool b8)])) ∧ (callP prog tbl [(V.agg 4 [(C.int IntKind.i64 x5), 
                        (C.int IntKind.i64 x6), (C.int IntKind.i64 x7), (C.bool b8)])] a200 m3 (fun v9 m10 => (∃ b11 : Bool, 
                       ((v9 = (V.c (C.bool b11))) ∧ (ifB b11 (Q (V.c (C.int IntKind.i64 x2)) m10) (fitsP IntKind.i64 (x2 + (1 : Int)) ∧ 
                          (R0 [(V.c (C.int IntKind.i64 x1)), (V.c (C.int IntKind.i64 (x2 + (1 : Int))))] m10))))))))))))))) (Q (V.c (C.int IntKind.i64 (-1 : Int))) m3)) → 
           (R0 [(V.c (C.int IntKind.i64 x1)), (V.c (C.int IntKind.i64 x2))] m3))))) → (R0 [(V.c (C.int IntKind.i64 (0 : Int))), 
         (V.c (C.int IntKind.i64 (0 : Int)))] m))))) : Wc prog tbl 124 [(V.c a100), (V.c a200)] m Q :=
  wc_eq (n := 2) rfl (by kernel_rfl) (by kernel_rfl) h

end
end Go.Proofs.Ytgkjfhkjgdiodaa

namespace Go.Proofs.Ytgkjfhkjgdiodaa
open _root_.Go.Proofs.Try
open Go.Abs
set_option maxRecDepth 100000
noncomputable section
theorem w32 {a100 : Int} {a101 : Int} {a102 : C} {a103 : Int} {a104 : C} {a200 : C} {m : M} {Q : V → M → Prop} (h :
    (∀ m0 : M, ((m0 = (M.new m (AO.cells 5 [(C.int IntKind.i64 a100), (C.int IntKind.i64 a101), a102, (C.int IntKind.i64 a103), 
          a104] false))) → (∃ x1 : Int, (∃ x2 : Int, (∃ c3 : C, (∃ x4 : Int, (∃ c5 : C, (((ldA m0 (C.ptr (m).nxt 0) 5) = (Option.some [(C.int IntKind.i64 x1), 
               (C.int IntKind.i64 x2), c3, (C.int IntKind.i64 x4), c5])) ∧ (Wc prog tbl 37 [(V.agg 5 [(C.int IntKind.i64 x1), 
                (C.int IntKind.i64 x2), c3, (C.int IntKind.i64 x4), c5])] m0 (fun v6 m7 => (∃ x8 : Int, ((v6 = (V.c (C.int IntKind.i64 x8))) ∧ 
                (ifB (!decide (x8 = (0 : Int))) (Q (V.tup [(U.c (C.int IntKind.i64 (0 : Int))), (U.c (C.int IntKind.i64 x8))]) m7) (isPt (C.ptr (m).nxt 0) ∧ 
                  (∃ x9 : Int, (∃ x10 : Int, (∃ c11 : C, (((ldA m7 (C.ptr (m).nxt 0) 3) = (Option.some [(C.int IntKind.i64 x9), 
                         (C.int IntKind.i64 x10), c11])) ∧ (Wc prog tbl 74 [(V.agg 3 [(C.int IntKind.i64 x9), (C.int IntKind.i64 x10), 
                          c11]), (V.c a200)] m7 (fun v12 m13 => (∃ x14 : Int, (∃ x15 : Int, (∃ x16 : Int, (∃ x17 : Int, 
                            (∃ x18 : Int, (∃ x19 : Int, (∃ x20 : Int, (∃ x21 : Int, (∃ x22 : Int, (∃ b23 : Bool, 
                                  ((v12 = (V.tup [(U.agg 9 [(C.int IntKind.i64 x14), (C.int IntKind.i64 x15), (C.int IntKind.i64 x16), 
                                  (C.int IntKind.i64 x17), (C.int IntKind.i64 x18), (C.int IntKind.i64 x19), (C.int IntKind.i64 x20), 
                                  (C.int IntKind.i64 x21), (C.int IntKind.i64 x22)]), (U.c (C.bool b23))])) ∧ (∀ m24 : M, 
                                  ((m24 = (M.new m13 (AO.cells 9 [(C.int IntKind.i64 (0 : Int)), (C.int IntKind.i64 (0 : Int)), 
                                  (C.int IntKind.i64 (0 : Int)), (C.int IntKind.i64 (0 : Int)), (C.int IntKind.i64 (0 : Int)), 
                                  (C.int IntKind.i64 (0 : Int)), (C.int IntKind.i64 (0 : Int)), (C.int IntKind.i64 (0 : Int)), 
                                  (C.int IntKind.i64 (0 : Int))] false))) → (∃ m25 : M, (((stC m24 (C.ptr (m13).nxt 0) 9 [(C.int IntKind.i64 x14), 
                                  (C.int IntKind.i64 x15), (C.int IntKind.i64 x16), (C.int IntKind.i64 x17), (C.int IntKind.i64 x18), 
                                  (C.int IntKind.i64 x19), (C.int IntKind.i64 x20), (C.int IntKind.i64 x21), (C.int IntKind.i64 x22)]) = (Option.some m25)) ∧ 
                                  (ifB (!b23) (Q (V.tup [(U.c (C.int IntKind.i64 (0 : Int))), (U.c (C.int IntKind.i64 (2 : Int)))]) m25) (∃ x26 : Int, 
                                  (∃ x27 : Int, (∃ c28 : C, (∃ x29 : Int, (∃ c30 : C, (((ldA m25 (C.ptr (m).nxt 0) 5) = (Option.some [(C.int IntKind.i64 x26), 
                                  (C.int IntKind.i64 x27), c28, (C.int IntKind.i64 x29), c30])) ∧ (∃ x31 : Int, 
                                  (∃ x32 : Int, (∃ x33 : Int, (∃ x34 : Int, (∃ x35 : Int, (∃ x36 : Int, (∃ x37 : Int, 
                                  (∃ x38 : Int, (∃ x39 : Int, (((ldA m25 (C.ptr (m13).nxt 0) 9) = (Option.some [(C.int IntKind.i64 x31), 
                                  (C.int IntKind.i64 x32), (C.int IntKind.i64 x33), (C.int IntKind.i64 x34), (C.int IntKind.i64 x35), 
                                  (C.int IntKind.i64 x36), (C.int IntKind.i64 x37), (C.int IntKind.i64 x38), (C.int IntKind.i64 x39)])) ∧ 
                                  (Wc prog tbl 75 [(V.agg 5 [(C.int IntKind.i64 x26), (C.int IntKind.i64 x27), 
                                  c28, (C.int IntKind.i64 x29), c30]), (V.agg 9 [(C.int IntKind.i64 x31), (C.int IntKind.i64 x32), 
                                  (C.int IntKind.i64 x33), (C.int IntKind.i64 x34), (C.int IntKind.i64 x35), (C.int IntKind.i64 x36), 
                                  (C.int IntKind.i64 x37), (C.int IntKind.i64 x38), (C.int IntKind.i64 x39)])] m25 (fun v40 m41 => 
                                  (∃ x42 : Int, ((v40 = (V.c (C.int IntKind.i64 x42))) ∧ (Q (V.tup [(U.c (C.int IntKind.i64 x42)), 
                                  (U.c (C.int IntKind.i64 (0 : Int)))]) m41)))))))))))))))))))))))))))))))))))))))))))))))))))))))))) : Wc prog tbl 32 [(V.agg 5 [(C.int IntKind.i64 a100), (C.int IntKind.i64 a101), a102, (C.int IntKind.i64 a103), a104]), (V.c a200)] m Q :=
  wc_eq (n := 2) rfl (by kernel_rfl) (by kernel_rfl) h
theorem w35 {a100 : Int} {a101 : Int} {a102 : C} {a103 : Int} {a104 : C} {a200 : C} {m : M} {Q : V → M → Prop} (h :
    (∀ m0 : M, ((m0 = (M.new m (AO.cells 5 [(C.int IntKind.i64 a100), (C.int IntKind.i64 a101), a102, (C.int IntKind.i64 a103), 
          a104] false))) → (∃ x1 : Int, (∃ x2 : Int, (∃ c3 : C, (∃ x4 : Int, (∃ c5 : C, (((ldA m0 (C.ptr (m).nxt 0) 5) = (Option.some [(C.int IntKind.i64 x1), 
               (C.int IntKind.i64 x2), c3, (C.int IntKind.i64 x4), c5])) ∧ (Wc prog tbl 37 [(V.agg 5 [(C.int IntKind.i64 x1), 
                (C.int IntKind.i64 x2), c3, (C.int IntKind.i64 x4), c5])] m0 (fun v6 m7 => (∃ x8 : Int, ((v6 = (V.c (C.int IntKind.i64 x8))) ∧ 
                (ifB (!decide (x8 = (0 : Int))) (Q (V.c (C.bool false)) m7) (isPt (C.ptr (m).nxt 0) ∧ (∃ x9 : Int, 
                   (∃ x10 : Int, (∃ c11 : C, (((ldA m7 (C.ptr (m).nxt 0) 3) = (Option.some [(C.int IntKind.i64 x9), 
                         (C.int IntKind.i64 x10), c11])) ∧ (Wc prog tbl 74 [(V.agg 3 [(C.int IntKind.i64 x9), (C.int IntKind.i64 x10), 
                          c11]), (V.c a200)] m7 (fun v12 m13 => (∃ x14 : Int, (∃ x15 : Int, (∃ x16 : Int, (∃ x17 : Int, 
                            (∃ x18 : Int, (∃ x19 : Int, (∃ x20 : Int, (∃ x21 : Int, (∃ x22 : Int, (∃ b23 : Bool, 
                                  ((v12 = (V.tup [(U.agg 9 [(C.int IntKind.i64 x14), (C.int IntKind.i64 x15), (C.int IntKind.i64 x16), 
                                  (C.int IntKind.i64 x17), (C.int IntKind.i64 x18), (C.int IntKind.i64 x19), (C.int IntKind.i64 x20), 
                                  (C.int IntKind.i64 x21), (C.int IntKind.i64 x22)]), (U.c (C.bool b23))])) ∧ (∀ m24 : M, 
                                  ((m24 = (M.new m13 (AO.cells 9 [(C.int IntKind.i64 (0 : Int)), (C.int IntKind.i64 (0 : Int)), 
                                  (C.int IntKind.i64 (0 : Int)), (C.int IntKind.i64 (0 : Int)), (C.int IntKind.i64 (0 : Int)), 
                                  (C.int IntKind.i64 (0 : Int)), (C.int IntKind.i64 (0 : Int)), (C.int IntKind.i64 (0 : Int)), 
                                  (C.int IntKind.i64 (0 : Int))] false))) → (∃ m25 : M, (((stC m24 (C.ptr (m13).nxt 0) 9 [(C.int IntKind.i64 x14), 
                                  (C.int IntKind.i64 x15), (C.int IntKind.i64 x16), (C.int IntKind.i64 x17), (C.int IntKind.i64 x18), 
                                  (C.int IntKind.i64 x19), (C.int IntKind.i64 x20), (C.int IntKind.i64 x21), (C.int IntKind.i64 x22)]) = (Option.some m25)) ∧ 
                                  (ifB b23 (∃ x26 : Int, (∃ x27 : Int, (∃ c28 : C, (∃ x29 : Int, (∃ c30 : C, (((ldA m25 (C.ptr (m).nxt 0) 5) = (Option.some [(C.int IntKind.i64 x26), 
                                  (C.int IntKind.i64 x27), c28, (C.int IntKind.i64 x29), c30])) ∧ (Wc prog tbl 76 [(V.agg 5 [(C.int IntKind.i64 x26), 
                                  (C.int IntKind.i64 x27), c28, (C.int IntKind.i64 x29), c30])] m25 (fun v31 m32 => 
                                  (∃ x33 : Int, (∃ x34 : Int, (∃ c35 : C, (∃ x36 : Int, (∃ c37 : C, (∃ c38 : C, 
                                  ((v31 = (V.agg 6 [(C.int IntKind.i64 x33), (C.int IntKind.i64 x34), c35, (C.int IntKind.i64 x36), 
                                  c37, c38])) ∧ (∃ x39 : Int, (∃ x40 : Int, (∃ x41 : Int, (∃ x42 : Int, (∃ x43 : Int, 
                                  (∃ x44 : Int, (∃ x45 : Int, (∃ x46 : Int, (∃ x47 : Int, (((ldA m32 (C.ptr (m13).nxt 0) 9) = (Option.some [(C.int IntKind.i64 x39), 
                                  (C.int IntKind.i64 x40), (C.int IntKind.i64 x41), (C.int IntKind.i64 x42), (C.int IntKind.i64 x43), 
                                  (C.int IntKind.i64 x44), (C.int IntKind.i64 x45), (C.int IntKind.i64 x46), (C.int IntKind.i64 x47)])) ∧ 
                                  (((ldA m25 (C.ptr (m13).nxt 0) 9) = (Option.some [(C.int IntKind.i64 x39), (C.int IntKind.i64 x40), 
                                  (C.int IntKind.i64 x41), (C.int IntKind.i64 x42), (C.int IntKind.i64 x43), (C.int IntKind.i64 x44), 
                                  (C.int IntKind.i64 x45), (C.int IntKind.i64 x46), (C.int IntKind.i64 x47)])) ∧ 
                                  (Wc prog tbl 77 [(V.agg 6 [(C.int IntKind.i64 x33), (C.int IntKind.i64 x34), 
                                  c35, (C.int IntKind.i64 x36), c37, c38]), (V.agg 9 [(C.int IntKind.i64 x39), 
                                  (C.int IntKind.i64 x40), (C.int IntKind.i64 x41), (C.int IntKind.i64 x42), (C.int IntKind.i64 x43), 
                                  (C.int IntKind.i64 x44), (C.int IntKind.i64 x45), (C.int IntKind.i64 x46), (C.int IntKind.i64 x47)])] m32 (fun v48 m49 => 
                                  (∃ b50 : Bool, ((v48 = (V.c (C.bool b50))) ∧ (Q (V.c (C.bool b50)) m49))))))))))))))))))))))))))))))) (Q (V.c (C.bool false)) m25)))))))))))))))))))))))))))))))))))))) : Wc prog tbl 35 [(V.agg 5 [(C.int IntKind.i64 a100), (C.int IntKind.i64 a101), a102, (C.int IntKind.i64 a103), a104]), (V.c a200)] m Q :=
  wc_eq (n := 2) rfl (by kernel_rfl) (by kernel_rfl) h
theorem w37 {a100 : Int} {a101 : Int} {a102 : C} {a103 : Int} {a104 : C} {m : M} {Q : V → M → Prop} (h :
    (∀ m0 : M, ((m0 = (M.new m (AO.cells 5 [(C.int IntKind.i64 a100), (C.int IntKind.i64 a101), a102, (C.int IntKind.i64 a103), 
          a104] false))) → (isPt (C.ptr (m).nxt 0) ∧ (∃ c1 : C, (((ldC m0 (C.ptr (m).nxt 4)) = (Option.some c1)) ∧ 
         (isSl c1 ∧ (ifB (decide ((6 : Int) < (((slLen c1) : Nat) : Int))) (Q (V.c (C.int IntKind.i64 (3 : Int))) m0) (∃ x2 : Int, 
            (∃ x3 : Int, (∃ c4 : C, (∃ x5 : Int, (∃ c6 : C, (((ldA m0 (C.ptr (m).nxt 0) 5) = (Option.some [(C.int IntKind.i64 x2), 
                    (C.int IntKind.i64 x3), c4, (C.int IntKind.i64 x5), c6])) ∧ (Wc prog tbl 79 [(V.agg 5 [(C.int IntKind.i64 x2), 
                     (C.int IntKind.i64 x3), c4, (C.int IntKind.i64 x5), c6])] m0 (fun v7 m8 => (∃ b9 : Bool, ((v7 = (V.c (C.bool b9))) ∧ 
                     (ifB (!b9) (Q (V.c (C.int IntKind.i64 (1 : Int))) m8) (isPt (C.ptr (m).nxt 0) ∧ (∃ x10 : Int, 
                        (∃ x11 : Int, (∃ c12 : C, (((ldA m8 (C.ptr (m).nxt 0) 3) = (Option.some [(C.int IntKind.i64 x10), 
                              (C.int IntKind.i64 x11), c12])) ∧ (Wc prog tbl 80 [(V.agg 3 [(C.int IntKind.i64 x10), 
                               (C.int IntKind.i64 x11), c12])] m8 (fun v13 m14 => (∃ x15 : Int, ((v13 = (V.c (C.int IntKind.i64 x15))) ∧ 
                               (ifB (decide ((2000 : Int) < x15)) (Q (V.c (C.int IntKind.i64 (3 : Int))) m14) (Q (V.c (C.int IntKind.i64 (0 : Int))) m14)))))))))))))))))))))))))))))) : Wc prog tbl 37 [(V.agg 5 [(C.int IntKind.i64 a100), (C.int IntKind.i64 a101), a102, (C.int IntKind.i64 a103), a104])] m Q :=
  wc_eq (n := 1) rfl (by kernel_rfl) (by kernel_rfl) h
theorem w39 {a100 : Int} {a101 : Int} {a102 : C} {a200 : C} {m : M} {Q : V → M → Prop} (h :
    (∀ m0 : M, ((m0 = (M.new m (AO.cells 3 [(C.int IntKind.i64 a100), (C.int IntKind.i64 a101), a102] false))) → (isSl a200 ∧ 
       (isPt (C.ptr (m).nxt 0) ∧ (∃ c1 : C, (((ldC m0 (C.ptr (m).nxt 2)) = (Option.some c1)) ∧ (isSl c1 ∧ (ifB (!decide ((((slLen a200) : Nat) : Int) = (((slLen c1) : Nat) : Int))) (Q (V.c (C.bool false)) m0) (∀ R2 : List V → 
             M → Prop, ((∀ b3 : Bool, (∀ x4 : Int, (∀ m5 : M, ((isSl a200 ∧ (ifB (decide (x4 < (((slLen a200) : Nat) : Int))) (∃ n6 : Nat, 
                     ((x4 = ((n6 : Nat) : Int)) ∧ ((n6 < (slLen a200)) ∧ (∃ x7 : Int, (((ldC m5 (slAt a200 (n6 * 1))) = (Option.some (C.int IntKind.i64 x7))) ∧ 
                         (isPt (C.ptr (m).nxt 0) ∧ (∃ c8 : C, (((ldC m5 (C.ptr (m).nxt 2)) = (Option.some c8)) ∧ 
                            (∃ n9 : Nat, ((x4 = ((n9 : Nat) : Int)) ∧ ((n9 < (slLen c8)) ∧ (∃ x10 : Int, (((ldC m5 (slAt c8 (n9 * 1))) = (Option.some (C.int IntKind.i64 x10))) ∧ 
                                 (Wc prog tbl 44 [(V.c (C.int IntKind.i64 x7)), (V.c (C.int IntKind.i64 (0 : Int))), 
                                  (V.c (C.int IntKind.i64 x10))] m5 (fun v11 m12 => (∃ b13 : Bool, ((v11 = (V.c (C.bool b13))) ∧ 
                                  (ifB (!b13) (Q (V.c (C.bool false)) m12) (fitsP IntKind.i64 (x4 + (1 : Int)) ∧ 
                                  (R2 [(V.c (C.bool b3)), (V.c (C.int IntKind.i64 (x4 + (1 : Int))))] m12)))))))))))))))))))) (Q (V.c (C.bool true)) m5))) → 
                  (R2 [(V.c (C.bool b3)), (V.c (C.int IntKind.i64 x4))] m5))))) → (R2 [(V.c (C.bool false)), (V.c (C.int IntKind.i64 (0 : Int)))] m0)))))))))))) : Wc prog tbl 39 [(V.agg 3 [(C.int IntKind.i64 a100), (C.int IntKind.i64 a101), a102]), (V.c a200)] m Q :=
  wc_eq (n := 2) rfl (by kernel_rfl) (by kernel_rfl) h
theorem w60 {a100 : Int} {a101 : Int} {a102 : C} {m : M} {Q : V → M → Prop} (h :
    (∀ m0 : M, ((m0 = (M.new m (AO.cells 3 [(C.int IntKind.i64 a100), (C.int IntKind.i64 a101), a102] false))) → (∀ R1 : List V → 
       M → Prop, ((∀ x2 : Int, (∀ x3 : Int, (∀ m4 : M, ((isPt (C.ptr (m).nxt 0) ∧ (∃ c5 : C, (((ldC m4 (C.ptr (m).nxt 2)) = (Option.some c5)) ∧ 
               (isSl c5 ∧ (ifB (decide (x3 < (((slLen c5) : Nat) : Int))) (isPt (C.ptr (m).nxt 0) ∧ (∃ c6 : C, 
                   (((ldC m4 (C.ptr (m).nxt 2)) = (Option.some c6)) ∧ (∃ n7 : Nat, ((x3 = ((n7 : Nat) : Int)) ∧ 
                      ((n7 < (slLen c6)) ∧ (∃ x8 : Int, (((ldC m4 (slAt c6 (n7 * 1))) = (Option.some (C.int IntKind.i64 x8))) ∧ 
                         (fitsP IntKind.i64 (x8 + (1 : Int)) ∧ (((0 : Int) ≤ x2) ∧ (((0 : Int) ≤ (x8 + (1 : Int))) ∧ 
                            (fitsP IntKind.i64 (x2 * (x8 + (1 : Int))) ∧ (fitsP IntKind.i64 (x3 + (1 : Int)) ∧ 
                              (R1 [(V.c (C.int IntKind.i64 (Min.min (4000 : Int) (x2 * (x8 + (1 : Int)))))), (V.c (C.int IntKind.i64 (x3 + (1 : Int))))] m4)))))))))))))) (Q (V.c (C.int IntKind.i64 x2)) m4)))))) → 
            (R1 [(V.c (C.int IntKind.i64 x2)), (V.c (C.int IntKind.i64 x3))] m4))))) → (R1 [(V.c (C.int IntKind.i64 (1 : Int))), 
          (V.c (C.int IntKind.i64 (0 : Int)))] m0)))))) : Wc prog tbl 60 [(V.agg 3 [(C.int IntKind.i64 a100), (C.int IntKind.i64 a101), a102])] m Q :=
  wc_eq (n := 1) rfl (by kernel_rfl) (by kernel_rfl) h
theorem w75 {a100 : Int} {a101 : Int} {a102 : C} {a103 : Int} {a104 : C} {a200 : Int} {a201 : Int} {a202 : Int} {a203 : Int} {a204 : Int} {a205 : Int} {a206 : Int} {a207 : Int} {a208 : Int} {m : M} {Q : V → M → Prop} (h :
    (∀ m0 : M, ((m0 = (M.new m (AO.cells 5 [(C.int IntKind.i64 a100), (C.int IntKind.i64 a101), a102, (C.int IntKind.i64 a103), 
          a104] false))) → (∀ m1 : M, ((m1 = (M.new m0 (AO.cells 9 [(C.int IntKind.i64 a200), (C.int IntKind.i64 a201), 
            (C.int IntKind.i64 a202), (C.int IntKind.i64 a203), (C.int IntKind.i64 a204), (C.int IntKind.i64 a205), 
            (C.int IntKind.i64 a206), (C.int IntKind.i64 a207), (C.int IntKind.i64 a208)] false))) → (isPt (C.ptr (m).nxt 0) ∧ 
         (isPt (C.ptr (m).nxt 0) ∧ (∃ c2 : C, (((ldC m1 (C.ptr (m).nxt 2)) = (Option.some c2)) ∧ (Wc prog tbl 96 [(V.c c2)] m1 (fun v3 m4 => 
              (∃ x5 : Int, ((v3 = (V.c (C.int IntKind.i64 x5))) ∧ (ifB (decide (x5 = (0 : Int))) (Q (V.c (C.int IntKind.i64 (0 : Int))) m4) (∃ n6 : Nat, 
                  (∃ n7 : Nat, ((n6 = 0) ∧ ((n7 = 9) ∧ (∃ c8 : C, (((arC 1 9 (C.ptr (m0).nxt 0) n6 n7) = (Option.some c8)) ∧ 
                       (Wc prog tbl 96 [(V.c c8)] m4 (fun v9 m10 => (∃ x11 : Int, ((v9 = (V.c (C.int IntKind.i64 x11))) ∧ 
                           (((0 : Int) ≤ x11) ∧ (((0 : Int) ≤ (100 : Int)) ∧ (fitsP IntKind.i64 (x11 * (100 : Int)) ∧ 
                              (((0 : Int) ≤ (x11 * (100 : Int))) ∧ (((0 : Int) < x5) ∧ (fitsP IntKind.i64 ((x11 * (100 : Int)) / x5) ∧ 
                                 (Q (V.c (C.int IntKind.i64 ((x11 * (100 : Int)) / x5))) m10))))))))))))))))))))))))))))))) : Wc prog tbl 75 [(V.agg 5 [(C.int IntKind.i64 a100), (C.int IntKind.i64 a101), a102, (C.int IntKind.i64 a103), a104]), (V.agg 9 [(C.int IntKind.i64 a200), (C.int IntKind.i64 a201), (C.int IntKind.i64 a202), (C.int IntKind.i64 a203), (C.int IntKind.i64 a204), (C.int IntKind.i64 a205), (C.int IntKind.i64 a206), (C.int IntKind.i64 a207), (C.int IntKind.i64 a208)])] m Q :=
  wc_eq (n := 2) rfl (by kernel_rfl) (by kernel_rfl) h
theorem w77 {a100 : Int} {a101 : Int} {a102 : C} {a103 : Int} {a104 : C} {a105 : C} {a200 : Int} {a201 : Int} {a202 : Int} {a203 : Int} {a204 : Int} {a205 : Int} {a206 : Int} {a207 : Int} {a208 : Int} {m : M} {Q : V → M → Prop} (h :
    (∀ m0 : M, ((m0 = (M.new m (AO.cells 6 [(C.int IntKind.i64 a100), (C.int IntKind.i64 a101), a102, (C.int IntKind.i64 a103), 
          a104, a105] false))) → (∀ m1 : M, ((m1 = (M.new m0 (AO.cells 9 [(C.int IntKind.i64 a200), (C.int IntKind.i64 a201), 
            (C.int IntKind.i64 a202), (C.int IntKind.i64 a203), (C.int IntKind.i64 a204), (C.int IntKind.i64 a205), 
            (C.int IntKind.i64 a206), (C.int IntKind.i64 a207), (C.int IntKind.i64 a208)] false))) → (isPt (C.ptr (m).nxt 0) ∧ 
         (isPt (C.ptr (m).nxt 0) ∧ (∃ x2 : Int, (∃ x3 : Int, (∃ c4 : C, (((ldA m1 (C.ptr (m).nxt 0) 3) = (Option.some [(C.int IntKind.i64 x2), 
                 (C.int IntKind.i64 x3), c4])) ∧ (Wc prog tbl 88 [(V.agg 3 [(C.int IntKind.i64 x2), (C.int IntKind.i64 x3), 
                  c4])] m1 (fun v5 m6 => (∃ x7 : Int, ((v5 = (V.c (C.int IntKind.i64 x7))) ∧ (∀ R8 : List V → M → 
                   Prop, ((∀ b9 : Bool, (∀ x10 : Int, (∀ m11 : M, ((ifB (decide (x10 < x7)) (∃ x12 : Int, (∃ x13 : Int, 
                           (∃ c14 : C, (∃ x15 : Int, (∃ c16 : C, (∃ c17 : C, (((ldA m11 (C.ptr (m).nxt 0) 6) = (Option.some [(C.int IntKind.i64 x12), 
                                  (C.int IntKind.i64 x13), c14, (C.int IntKind.i64 x15), c16, c17])) ∧ (∃ x18 : Int, 
                                 (∃ x19 : Int, (∃ x20 : Int, (∃ x21 : Int, (∃ x22 : Int, (∃ x23 : Int, (∃ x24 : Int, 
                                  (∃ x25 : Int, (∃ x26 : Int, (((ldA m11 (C.ptr (m0).nxt 0) 9) = (Option.some [(C.int IntKind.i64 x18), 
                                  (C.int IntKind.i64 x19), (C.int IntKind.i64 x20), (C.int IntKind.i64 x21), (C.int IntKind.i64 x22), 
                                  (C.int IntKind.i64 x23), (C.int IntKind.i64 x24), (C.int IntKind.i64 x25), (C.int IntKind.i64 x26)])) ∧ 
                                  (Wc prog tbl 97 [(V.agg 6 [(C.int IntKind.i64 x12), (C.int IntKind.i64 x13), 
                                  c14, (C.int IntKind.i64 x15), c16, c17]), (V.agg 9 [(C.int IntKind.i64 x18), 
                                  (C.int IntKind.i64 x19), (C.int IntKind.i64 x20), (C.int IntKind.i64 x21), (C.int IntKind.i64 x22), 
                                  (C.int IntKind.i64 x23), (C.int IntKind.i64 x24), (C.int IntKind.i64 x25), (C.int IntKind.i64 x26)]), 
                                  (V.c (C.int IntKind.i64 x10)), (V.agg 6 [(C.bool false), (C.bool false), (C.bool false), 
                                  (C.bool false), (C.bool false), (C.bool false)])] m11 (fun v27 m28 => (∃ b29 : Bool, 
                                  ((v27 = (V.c (C.bool b29))) ∧ (ifB (!b29) (Q (V.c (C.bool false)) m28) (fitsP IntKind.i64 (x10 + (1 : Int)) ∧ 
                                  (R8 [(V.c (C.bool b9)), (V.c (C.int IntKind.i64 (x10 + (1 : Int))))] m28)))))))))))))))))))))))) (Q (V.c (C.bool true)) m11)) → 
                        (R8 [(V.c (C.bool b9)), (V.c (C.int IntKind.i64 x10))] m11))))) → (R8 [(V.c (C.bool false)), 
                      (V.c (C.int IntKind.i64 (0 : Int)))] m6)))))))))))))))))) : Wc prog tbl 77 [(V.agg 6 [(C.int IntKind.i64 a100), (C.int IntKind.i64 a101), a102, (C.int IntKind.i64 a103), a104, a105]), (V.agg 9 [(C.int IntKind.i64 a200), (C.int IntKind.i64 a201), (C.int IntKind.i64 a202), (C.int IntKind.i64 a203), (C.int IntKind.i64 a204), (C.int IntKind.i64 a205), (C.int IntKind.i64 a206), (C.int IntKind.i64 a207), (C.int IntKind.i64 a208)])] m Q :=
  wc_eq (n := 2) rfl (by kernel_rfl) (by kernel_rfl) h
theorem w79 {a100 : Int} {a101 : Int} {a102 : C} {a103 : Int} {a104 : C} {m : M} {Q : V → M → Prop} (h :
    (∀ m0 : M, ((m0 = (M.new m (AO.cells 5 [(C.int IntKind.i64 a100), (C.int IntKind.i64 a101), a102, (C.int IntKind.i64 a103), 
          a104] false))) → (isPt (C.ptr (m).nxt 0) ∧ (∃ x1 : Int, (∃ x2 : Int, (∃ c3 : C, (((ldA m0 (C.ptr (m).nxt 0) 3) = (Option.some [(C.int IntKind.i64 x1), 
              (C.int IntKind.i64 x2), c3])) ∧ (Wc prog tbl 72 [(V.agg 3 [(C.int IntKind.i64 x1), (C.int IntKind.i64 x2), 
               c3])] m0 (fun v4 m5 => (∃ b6 : Bool, ((v4 = (V.c (C.bool b6))) ∧ (ifB b6 (isPt (C.ptr (m).nxt 0) ∧ 
                 (∃ x7 : Int, (((ldC m5 (C.ptr (m).nxt 3)) = (Option.some (C.int IntKind.i64 x7))) ∧ (Wc prog tbl 95 [(V.c (C.int IntKind.i64 x7))] m5 (fun v8 m9 => 
                     (∃ b10 : Bool, ((v8 = (V.c (C.bool b10))) ∧ (ifB b10 (isPt (C.ptr (m).nxt 0) ∧ (∃ c11 : C, 
                          (((ldC m9 (C.ptr (m).nxt 4)) = (Option.some c11)) ∧ (∃ x12 : Int, (∃ x13 : Int, (∃ c14 : C, 
                              (∃ x15 : Int, (∃ c16 : C, (((ldA m9 (C.ptr (m).nxt 0) 5) = (Option.some [(C.int IntKind.i64 x12), 
                                  (C.int IntKind.i64 x13), c14, (C.int IntKind.i64 x15), c16])) ∧ (optB (mapO vW [(V.agg 5 [(C.int IntKind.i64 x12), 
                                  (C.int IntKind.i64 x13), c14, (C.int IntKind.i64 x15), c16])]) False fun l17 => 
                                  (Wc prog tbl 98 [(V.c c11), (V.c (C.fn (Fn.func 99) l17 []))] m9 (fun v18 m19 => 
                                  (∃ b20 : Bool, ((v18 = (V.c (C.bool b20))) ∧ (Q (V.c (C.bool b20)) m19))))))))))))))) (Q (V.c (C.bool false)) m9))))))))) (Q (V.c (C.bool false)) m5)))))))))))))) : Wc prog tbl 79 [(V.agg 5 [(C.int IntKind.i64 a100), (C.int IntKind.i64 a101), a102, (C.int IntKind.i64 a103), a104])] m Q :=
  wc_eq (n := 1) rfl (by kernel_rfl) (by kernel_rfl) h
theorem w84 {a100 : Int} {a101 : Int} {a102 : C} {a200 : Int} {m : M} {Q : V → M → Prop} (h :
    (∀ m0 : M, ((m0 = (M.new m (AO.cells 3 [(C.int IntKind.i64 a100), (C.int IntKind.i64 a101), a102] false))) → (∃ x1 : Int, 
       (∃ x2 : Int, (∃ c3 : C, (((ldA m0 (C.ptr (m).nxt 0) 3) = (Option.some [(C.int IntKind.i64 x1), (C.int IntKind.i64 x2), 
             c3])) ∧ (Wc prog tbl 88 [(V.agg 3 [(C.int IntKind.i64 x1), (C.int IntKind.i64 x2), c3])] m0 (fun v4 m5 => 
            (∃ x6 : Int, ((v4 = (V.c (C.int IntKind.i64 x6))) ∧ (fitsP IntKind.i64 (x6 - (1 : Int)) ∧ (Wc prog tbl 92 [(V.agg 2 [(C.int IntKind.i64 (0 : Int)), 
                   (C.int IntKind.i64 (x6 - (1 : Int)))]), (V.c (C.int IntKind.i64 a200))] m5 (fun v7 m8 => (∃ b9 : Bool, 
                  ((v7 = (V.c (C.bool b9))) ∧ (Q (V.c (C.bool b9)) m8))))))))))))))))) : Wc prog tbl 84 [(V.agg 3 [(C.int IntKind.i64 a100), (C.int IntKind.i64 a101), a102]), (V.c (C.int IntKind.i64 a200))] m Q :=
  wc_eq (n := 2) rfl (by kernel_rfl) (by kernel_rfl) h
theorem w97 {a100 : Int} {a101 : Int} {a102 : C} {a103 : Int} {a104 : C} {a105 : C} {a200 : Int} {a201 : Int} {a202 : Int} {a203 : Int} {a204 : Int} {a205 : Int} {a206 : Int} {a207 : Int} {a208 : Int} {a300 : Int} {a400 : Bool} {a401 : Bool} {a402 : Bool} {a403 : Bool} {a404 : Bool} {a405 : Bool} {m : M} {Q : V → M → Prop} (h :
    (∀ m0 : M, ((m0 = (M.new m (AO.cells 6 [(C.int IntKind.i64 a100), (C.int IntKind.i64 a101), a102, (C.int IntKind.i64 a103), 
          a104, a105] false))) → (∀ m1 : M, ((m1 = (M.new m0 (AO.cells 9 [(C.int IntKind.i64 a200), (C.int IntKind.i64 a201), 
            (C.int IntKind.i64 a202), (C.int IntKind.i64 a203), (C.int IntKind.i64 a204), (C.int IntKind.i64 a205), 
            (C.int IntKind.i64 a206), (C.int IntKind.i64 a207), (C.int IntKind.i64 a208)] false))) → (∀ m2 : M, 
         ((m2 = (M.new m1 (AO.cells 6 [(C.bool a400), (C.bool a401), (C.bool a402), (C.bool a403), (C.bool a404), 
              (C.bool a405)] false))) → (isPt (C.ptr (m).nxt 0) ∧ (∃ x3 : Int, (∃ x4 : Int, (∃ c5 : C, (∃ x6 : Int, 
               (∃ c7 : C, (((ldA m2 (C.ptr (m).nxt 0) 5) = (Option.some [(C.int IntKind.i64 x3), (C.int IntKind.i64 x4), 
                    c5, (C.int IntKind.i64 x6), c7])) ∧ (∃ x8 : Int, (∃ x9 : Int, (∃ x10 : Int, (∃ x11 : Int, (∃ x12 : Int, 
                      (∃ x13 : Int, (∃ x14 : Int, (∃ x15 : Int, (∃ x16 : Int, (((ldA m2 (C.ptr (m0).nxt 0) 9) = (Option.some [(C.int IntKind.i64 x8), 
                              (C.int IntKind.i64 x9), (C.int IntKind.i64 x10), (C.int IntKind.i64 x11), (C.int IntKind.i64 x12), 
                              (C.int IntKind.i64 x13), (C.int IntKind.i64 x14), (C.int IntKind.i64 x15), (C.int IntKind.i64 x16)])) ∧ 
                           (Wc prog tbl 112 [(V.agg 5 [(C.int IntKind.i64 x3), (C.int IntKind.i64 x4), c5, (C.int IntKind.i64 x6), 
                               c7]), (V.agg 9 [(C.int IntKind.i64 x8), (C.int IntKind.i64 x9), (C.int IntKind.i64 x10), 
                               (C.int IntKind.i64 x11), (C.int IntKind.i64 x12), (C.int IntKind.i64 x13), (C.int IntKind.i64 x14), 
                               (C.int IntKind.i64 x15), (C.int IntKind.i64 x16)]), (V.c (C.int IntKind.i64 a300))] m2 (fun v17 m18 => 
                             (∃ b19 : Bool, ((v17 = (V.c (C.bool b19))) ∧ (ifB (!b19) (isPt (C.ptr (m).nxt 0) ∧ 
                                 (∃ c20 : C, (((ldC m18 (C.ptr (m).nxt 5)) = (Option.some c20)) ∧ (isPt (C.ptr (m0).nxt 0) ∧ 
                                  (∃ n21 : Nat, ((a300 = ((n21 : Nat) : Int)) ∧ ((n21 < 9) ∧ (∃ x22 : Int, (((ldC m18 (C.ptr (m0).nxt (0 + (n21 * 1)))) = (Option.some (C.int IntKind.i64 x22))) ∧ 
                                  (∃ y23 : Option U, (((lkM prog 138 m18 c20 (V.agg 2 [(C.int IntKind.i64 a300), 
                                  (C.int IntKind.i64 x22)])) = (Option.some y23)) ∧ (((y23 = Option.none) → (∃ b24 : Bool, 
                                  (∃ b25 : Bool, (∃ b26 : Bool, (∃ b27 : Bool, (∃ b28 : Bool, (∃ b29 : Bool, (((ldA m18 (C.ptr (m1).nxt 0) 6) = (Option.some [(C.bool b24), 
                                  (C.bool b25), (C.bool b26), (C.bool b27), (C.bool b28), (C.bool b29)])) ∧ (Wc prog tbl 113 [(V.agg 6 [(C.bool false), 
                                  (C.bool false), (C.bool false), (C.bool false), (C.bool false), (C.bool false)]), 
                                  (V.agg 6 [(C.bool b24), (C.bool b25), (C.bool b26), (C.bool b27), (C.bool b28), 
                                  (C.bool b29)])] m18 (fun v30 m31 => (∃ b32 : Bool, ((v30 = (V.c (C.bool b32))) ∧ 
                                  (Q (V.c (C.bool b32)) m31))))))))))))) ∧ (∀ u33 : U, ((y23 = (Option.some u33)) → 
                                  (∃ b34 : Bool, (∃ b35 : Bool, (∃ b36 : Bool, (∃ b37 : Bool, (∃ b38 : Bool, (∃ b39 : Bool, 
                                  ((u33 = (U.agg 6 [(C.bool b34), (C.bool b35), (C.bool b36), (C.bool b37), (C.bool b38), 
                                  (C.bool b39)])) ∧ (∃ b40 : Bool, (∃ b41 : Bool, (∃ b42 : Bool, (∃ b43 : Bool, 
                                  (∃ b44 : Bool, (∃ b45 : Bool, (((ldA m18 (C.ptr (m1).nxt 0) 6) = (Option.some [(C.bool b40), 
                                  (C.bool b41), (C.bool b42), (C.bool b43), (C.bool b44), (C.bool b45)])) ∧ (Wc prog tbl 113 [(V.agg 6 [(C.bool b34), 
                                  (C.bool b35), (C.bool b36), (C.bool b37), (C.bool b38), (C.bool b39)]), (V.agg 6 [(C.bool b40), 
                                  (C.bool b41), (C.bool b42), (C.bool b43), (C.bool b44), (C.bool b45)])] m18 (fun v46 m47 => 
                                  (∃ b48 : Bool, ((v46 = (V.c (C.bool b48))) ∧ (Q (V.c (C.bool b48)) m47))))))))))))))))))))))))))))))))) (Q (V.c (C.bool false)) m18)))))))))))))))))))))))))))))) : Wc prog tbl 97 [(V.agg 6 [(C.int IntKind.i64 a100), (C.int IntKind.i64 a101), a102, (C.int IntKind.i64 a103), a104, a105]), (V.agg 9 [(C.int IntKind.i64 a200), (C.int IntKind.i64 a201), (C.int IntKind.i64 a202), (C.int IntKind.i64 a203), (C.int IntKind.i64 a204), (C.int IntKind.i64 a205), (C.int IntKind.i64 a206), (C.int IntKind.i64 a207), (C.int IntKind.i64 a208)]), (V.c (C.int IntKind.i64 a300)), (V.agg 6 [(C.bool a400), (C.bool a401), (C.bool a402), (C.bool a403), (C.bool a404), (C.bool a405)])] m Q :=
  wc_eq (n := 4) rfl (by kernel_rfl) (by kernel_rfl) h
theorem w99 {a100 : Int} {a101 : Int} {a102 : C} {a103 : Int} {a104 : C} {a200 : Int} {a201 : Int} {a202 : Int} {a203 : Bool} {m : M} {Q : V → M → Prop} (h :
    (∀ m0 : M, ((m0 = (M.new m (AO.cells 5 [(C.int IntKind.i64 a100), (C.int IntKind.i64 a101), a102, (C.int IntKind.i64 a103), 
          a104] false))) → (∀ m1 : M, ((m1 = (M.new m0 (AO.cells 4 [(C.int IntKind.i64 a200), (C.int IntKind.i64 a201), 
            (C.int IntKind.i64 a202), (C.bool a203)] false))) → (isPt (C.ptr (m).nxt 0) ∧ (∃ x2 : Int, (∃ x3 : Int, 
           (∃ c4 : C, (((ldA m1 (C.ptr (m).nxt 0) 3) = (Option.some [(C.int IntKind.i64 x2), (C.int IntKind.i64 x3), 
                c4])) ∧ (isPt (C.ptr (m0).nxt 0) ∧ (∃ x5 : Int, (((ldC m1 (C.ptr (m0).nxt 0)) = (Option.some (C.int IntKind.i64 x5))) ∧ 
                (Wc prog tbl 84 [(V.agg 3 [(C.int IntKind.i64 x2), (C.int IntKind.i64 x3), c4]), (V.c (C.int IntKind.i64 x5))] m1 (fun v6 m7 => 
                  (∃ b8 : Bool, ((v6 = (V.c (C.bool b8))) ∧ (ifB b8 (isPt (C.ptr (m0).nxt 0) ∧ (isPt (C.ptr (m0).nxt 1) ∧ 
                       (∃ x9 : Int, (((ldC m7 (C.ptr (m0).nxt 1)) = (Option.some (C.int IntKind.i64 x9))) ∧ (isPt (C.ptr (m0).nxt 0) ∧ 
                          (isPt (C.ptr (m0).nxt 1) ∧ (∃ x10 : Int, (((ldC m7 (C.ptr (m0).nxt 2)) = (Option.some (C.int IntKind.i64 x10))) ∧ 
                             (ifB (decide (x9 ≤ x10)) (isPt (C.ptr (m0).nxt 0) ∧ (isPt (C.ptr (m0).nxt 1) ∧ (∃ x11 : Int, 
                                 (((ldC m7 (C.ptr (m0).nxt 1)) = (Option.some (C.int IntKind.i64 x11))) ∧ (Wc prog tbl 95 [(V.c (C.int IntKind.i64 x11))] m7 (fun v12 m13 => 
                                  (∃ b14 : Bool, ((v12 = (V.c (C.bool b14))) ∧ (ifB b14 (isPt (C.ptr (m0).nxt 0) ∧ 
                                  (isPt (C.ptr (m0).nxt 1) ∧ (∃ x15 : Int, (((ldC m13 (C.ptr (m0).nxt 2)) = (Option.some (C.int IntKind.i64 x15))) ∧ 
                                  (Wc prog tbl 95 [(V.c (C.int IntKind.i64 x15))] m13 (fun v16 m17 => (∃ b18 : Bool, 
                                  ((v16 = (V.c (C.bool b18))) ∧ (Q (V.c (C.bool b18)) m17))))))))) (Q (V.c (C.bool false)) m13)))))))))) (Q (V.c (C.bool false)) m7)))))))))) (Q (V.c (C.bool false)) m7))))))))))))))))))) : Wc prog tbl 99 [(V.agg 5 [(C.int IntKind.i64 a100), (C.int IntKind.i64 a101), a102, (C.int IntKind.i64 a103), a104]), (V.agg 4 [(C.int IntKind.i64 a200), (C.int IntKind.i64 a201), (C.int IntKind.i64 a202), (C.bool a203)])] m Q :=
  wc_eq (n := 2) rfl (by kernel_rfl) (by kernel_rfl) h
theorem w113 {a100 : Bool} {a101 : Bool} {a102 : Bool} {a103 : Bool} {a104 : Bool} {a105 : Bool} {a200 : Bool} {a201 : Bool} {a202 : Bool} {a203 : Bool} {a204 : Bool} {a205 : Bool} {m : M} {Q : V → M → Prop} (h :
    (∀ m0 : M, ((m0 = (M.new m (AO.cells 6 [(C.bool a100), (C.bool a101), (C.bool a102), (C.bool a103), (C.bool a104), 
          (C.bool a105)] false))) → (∀ m1 : M, ((m1 = (M.new m0 (AO.cells 6 [(C.bool a200), (C.bool a201), (C.bool a202), 
            (C.bool a203), (C.bool a204), (C.bool a205)] false))) → (∀ R2 : List V → M → Prop, ((∀ b3 : Bool, (∀ x4 : Int, 
            (∀ m5 : M, ((ifB (decide (x4 < (6 : Int))) (isPt (C.ptr (m).nxt 0) ∧ (∃ n6 : Nat, ((x4 = ((n6 : Nat) : Int)) ∧ 
                  ((n6 < 6) ∧ (∃ b7 : Bool, (((ldC m5 (C.ptr (m).nxt (0 + (n6 * 1)))) = (Option.some (C.bool b7))) ∧ 
                     (ifB b7 (isPt (C.ptr (m0).nxt 0) ∧ (∃ n8 : Nat, ((x4 = ((n8 : Nat) : Int)) ∧ ((n8 < 6) ∧ (∃ b9 : Bool, 
                           (((ldC m5 (C.ptr (m0).nxt (0 + (n8 * 1)))) = (Option.some (C.bool b9))) ∧ (ifB (!b9) (Q (V.c (C.bool false)) m5) (fitsP IntKind.i64 (x4 + (1 : Int)) ∧ 
                              (R2 [(V.c (C.bool b3)), (V.c (C.int IntKind.i64 (x4 + (1 : Int))))] m5))))))))) (fitsP IntKind.i64 (x4 + (1 : Int)) ∧ 
                       (R2 [(V.c (C.bool b3)), (V.c (C.int IntKind.i64 (x4 + (1 : Int))))] m5))))))))) (Q (V.c (C.bool true)) m5)) → 
              (R2 [(V.c (C.bool b3)), (V.c (C.int IntKind.i64 x4))] m5))))) → (R2 [(V.c (C.bool false)), (V.c (C.int IntKind.i64 (0 : Int)))] m1)))))))) : Wc prog tbl 113 [(V.agg 6 [(C.bool a100), (C.bool a101), (C.bool a102), (C.bool a103), (C.bool a104), (C.bool a105)]), (V.agg 6 [(C.bool a200), (C.bool a201), (C.bool a202), (C.bool a203), (C.bool a204), (C.bool a205)])] m Q :=
  wc_eq (n := 2) rfl (by kernel_rfl) (by kernel_rfl) h
theorem w123 {a100 : Int} {a101 : Int} {a102 : C} {a103 : Int} {a104 : C} {a200 : Int} {a300 : Int} {m : M} {Q : V → M → Prop} (h :
    (∀ m0 : M, ((m0 = (M.new m (AO.cells 5 [(C.int IntKind.i64 a100), (C.int IntKind.i64 a101), a102, (C.int IntKind.i64 a103), 
          a104] false))) → (fitsP IntKind.i64 (a200 - a300) ∧ (fitsP IntKind.i64 (a300 - a200) ∧ (isPt (C.ptr (m).nxt 0) ∧ 
         (∃ x1 : Int, (((ldC m0 (C.ptr (m).nxt 3)) = (Option.some (C.int IntKind.i64 x1))) ∧ (Q (V.c (C.bool (decide (x1 < (Max.max (a200 - a300) (a300 - a200)))))) m0))))))))) : Wc prog tbl 123 [(V.agg 5 [(C.int IntKind.i64 a100), (C.int IntKind.i64 a101), a102, (C.int IntKind.i64 a103), a104]), (V.c (C.int IntKind.i64 a200)), (V.c (C.int IntKind.i64 a300))] m Q :=
  wc_eq (n := 3) rfl (by kernel_rfl) (by kernel_rfl) h

end
end Go.Proofs.Ytgkjfhkjgdiodaa
