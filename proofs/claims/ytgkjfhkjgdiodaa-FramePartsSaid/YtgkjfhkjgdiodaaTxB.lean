/- What functions of the program ask and do. Condition: none; a lemma text of this claim. -/
import Derived.Test.YtgkjfhkjgdiodaaSyN
import Derived.KernelRfl
namespace Go.Proofs.Ytgkjfhkjgdiodaa
open _root_.Go.Proofs.Try
open Go.Abs
set_option maxRecDepth 100000
noncomputable section
theorem w120 (y : C) (b b2 : Nat) {m : M} {Q : V → M → Prop} (h :
    (∀ m0 : M, ((m0 = (M.new m (AO.cells 1 [y] false))) → (∀ m1 : M, ((m1 = (M.new m0 (AO.cells 9 [(C.int IntKind.i64 (0 : Int)), 
            (C.int IntKind.i64 (0 : Int)), (C.int IntKind.i64 (0 : Int)), (C.int IntKind.i64 (0 : Int)), (C.int IntKind.i64 (0 : Int)), 
            (C.int IntKind.i64 (0 : Int)), (C.int IntKind.i64 (0 : Int)), (C.int IntKind.i64 (0 : Int)), (C.int IntKind.i64 (0 : Int))] false))) → 
        (∀ m2 : M, ((m2 = (M.new m1 (AO.cells 1 [C.nilFn] false))) → (∃ m3 : M, (((stC m2 (C.ptr (m1).nxt 0) 1 [(C.fn (Fn.func 121) [] [(W.c (C0.ptr b 0)), 
                 (W.c (C0.ptr (m).nxt 0)), (W.c (C0.ptr (m0).nxt 0)), (W.c (C0.ptr b2 0)), (W.c (C0.ptr (m1).nxt 0))])]) = (Option.some m3)) ∧ 
            (∃ c4 : C, (((ldC m3 (C.ptr (m1).nxt 0)) = (Option.some c4)) ∧ (callP prog tbl [(V.c (C.int IntKind.i64 (0 : Int)))] c4 m3 (fun v5 m6 => 
                (∃ b7 : Bool, ((v5 = (V.c (C.bool b7))) ∧ (Q (V.tup []) m6)))))))))))))))) : Wc prog tbl 120 [.c y, .c (.ptr b 0), .c (.ptr b2 0)] m Q :=
  wc_eq (n := 3) rfl (by kernel_rfl) (by kernel_rfl) h
theorem w121 (p : Int) (b k h2 b2 cv : Nat) {m : M} {Q : V → M → Prop} (h :
    (isPt (C.ptr b 0) ∧ (isPt (C.ptr b 0) ∧ (∃ x0 : Int, (∃ x1 : Int, (∃ c2 : C, (((ldA m (C.ptr b 0) 3) = (Option.some [(C.int IntKind.i64 x0), 
             (C.int IntKind.i64 x1), c2])) ∧ (Wc prog tbl 88 [(V.agg 3 [(C.int IntKind.i64 x0), (C.int IntKind.i64 x1), 
              c2])] m (fun v3 m4 => (∃ x5 : Int, ((v3 = (V.c (C.int IntKind.i64 x5))) ∧ (ifB (decide (p = x5)) (∃ c6 : C, 
                (((ldC m4 (C.ptr k 0)) = (Option.some c6)) ∧ (∃ x7 : Int, (∃ x8 : Int, (∃ x9 : Int, (∃ x10 : Int, 
                     (∃ x11 : Int, (∃ x12 : Int, (∃ x13 : Int, (∃ x14 : Int, (∃ x15 : Int, (((ldA m4 (C.ptr h2 0) 9) = (Option.some [(C.int IntKind.i64 x7), 
                              (C.int IntKind.i64 x8), (C.int IntKind.i64 x9), (C.int IntKind.i64 x10), (C.int IntKind.i64 x11), 
                              (C.int IntKind.i64 x12), (C.int IntKind.i64 x13), (C.int IntKind.i64 x14), (C.int IntKind.i64 x15)])) ∧ 
                           (callP prog tbl [(V.agg 9 [(C.int IntKind.i64 x7), (C.int IntKind.i64 x8), (C.int IntKind.i64 x9), 
                               (C.int IntKind.i64 x10), (C.int IntKind.i64 x11), (C.int IntKind.i64 x12), (C.int IntKind.i64 x13), 
                               (C.int IntKind.i64 x14), (C.int IntKind.i64 x15)])] c6 m4 (fun v16 m17 => (∃ b18 : Bool, 
                              ((v16 = (V.c (C.bool b18))) ∧ (Q (V.c (C.bool b18)) m17))))))))))))))))) (isPt (C.ptr b 0) ∧ 
                (isPt (C.ptr b 0) ∧ (isPt (C.ptr b 0) ∧ (∃ c19 : C, (((ldC m4 (C.ptr b 2)) = (Option.some c19)) ∧ 
                    (∃ n20 : Nat, ((p = ((n20 : Nat) : Int)) ∧ ((n20 < (slLen c19)) ∧ (∃ x21 : Int, (((ldC m4 (slAt c19 (n20 * 1))) = (Option.some (C.int IntKind.i64 x21))) ∧ 
                         (fitsP IntKind.i64 (x21 + (1 : Int)) ∧ (∀ R22 : List V → M → Prop, ((∀ b23 : Bool, (∀ x24 : Int, 
                              (∀ m25 : M, ((ifB (decide (x24 < (x21 + (1 : Int)))) (isPt (C.ptr h2 0) ∧ (∃ n26 : Nat, 
                                  ((p = ((n26 : Nat) : Int)) ∧ ((n26 < 9) ∧ (∃ m27 : M, (((stC m25 (C.ptr h2 (0 + (n26 * 1))) 1 [(C.int IntKind.i64 x24)]) = (Option.some m27)) ∧ 
                                  (∃ x28 : Int, (∃ x29 : Int, (∃ c30 : C, (∃ x31 : Int, (∃ c32 : C, (∃ c33 : C, 
                                  (((ldA m27 (C.ptr b 0) 6) = (Option.some [(C.int IntKind.i64 x28), (C.int IntKind.i64 x29), 
                                  c30, (C.int IntKind.i64 x31), c32, c33])) ∧ (∃ x34 : Int, (∃ x35 : Int, (∃ x36 : Int, 
                                  (∃ x37 : Int, (∃ x38 : Int, (∃ x39 : Int, (∃ x40 : Int, (∃ x41 : Int, (∃ x42 : Int, 
                                  (((ldA m27 (C.ptr h2 0) 9) = (Option.some [(C.int IntKind.i64 x34), (C.int IntKind.i64 x35), 
                                  (C.int IntKind.i64 x36), (C.int IntKind.i64 x37), (C.int IntKind.i64 x38), (C.int IntKind.i64 x39), 
                                  (C.int IntKind.i64 x40), (C.int IntKind.i64 x41), (C.int IntKind.i64 x42)])) ∧ 
                                  (∃ b43 : Bool, (∃ b44 : Bool, (∃ b45 : Bool, (∃ b46 : Bool, (∃ b47 : Bool, (∃ b48 : Bool, 
                                  (((ldA m27 (C.ptr b2 0) 6) = (Option.some [(C.bool b43), (C.bool b44), (C.bool b45), 
                                  (C.bool b46), (C.bool b47), (C.bool b48)])) ∧ (Wc prog tbl 97 [(V.agg 6 [(C.int IntKind.i64 x28), 
                                  (C.int IntKind.i64 x29), c30, (C.int IntKind.i64 x31), c32, c33]), (V.agg 9 [(C.int IntKind.i64 x34), 
                                  (C.int IntKind.i64 x35), (C.int IntKind.i64 x36), (C.int IntKind.i64 x37), (C.int IntKind.i64 x38), 
                                  (C.int IntKind.i64 x39), (C.int IntKind.i64 x40), (C.int IntKind.i64 x41), (C.int IntKind.i64 x42)]), 
                                  (V.c (C.int IntKind.i64 p)), (V.agg 6 [(C.bool b43), (C.bool b44), (C.bool b45), 
                                  (C.bool b46), (C.bool b47), (C.bool b48)])] m27 (fun v49 m50 => (∃ b51 : Bool, 
                                  ((v49 = (V.c (C.bool b51))) ∧ (ifB b51 (∃ c52 : C, (((ldC m50 (C.ptr cv 0)) = (Option.some c52)) ∧ 
                                  (fitsP IntKind.i64 (p + (1 : Int)) ∧ (callP prog tbl [(V.c (C.int IntKind.i64 (p + (1 : Int))))] c52 m50 (fun v53 m54 => 
                                  (∃ b55 : Bool, ((v53 = (V.c (C.bool b55))) ∧ (ifB (!b55) (Q (V.c (C.bool false)) m54) (fitsP IntKind.i64 (x24 + (1 : Int)) ∧ 
                                  (R22 [(V.c (C.bool b23)), (V.c (C.int IntKind.i64 (x24 + (1 : Int))))] m54)))))))))) (fitsP IntKind.i64 (x24 + (1 : Int)) ∧ 
                                  (R22 [(V.c (C.bool b23)), (V.c (C.int IntKind.i64 (x24 + (1 : Int))))] m50))))))))))))))))))))))))))))))))))))) (Q (V.c (C.bool true)) m25)) → 
                                (R22 [(V.c (C.bool b23)), (V.c (C.int IntKind.i64 x24))] m25))))) → (R22 [(V.c (C.bool false)), 
                              (V.c (C.int IntKind.i64 (0 : Int)))] m4)))))))))))))))))))))))))) : Wc prog tbl 121 [.c (.int .i64 p), .c (.ptr b 0), .c (.ptr k 0), .c (.ptr h2 0), .c (.ptr b2 0), .c (.ptr cv 0)] m Q :=
  wc_eq (n := 6) rfl (by kernel_rfl) (by kernel_rfl) h
end
end Go.Proofs.Ytgkjfhkjgdiodaa

namespace Go.Proofs.Ytgkjfhkjgdiodaa
open _root_.Go.Proofs.Try
open Go.Abs
set_option maxRecDepth 100000
noncomputable section
theorem c85 (r c sm a0 a1 a2 a3 a4 a5 a6 a7 a8 : Int) (x y z : C) (k : Nat) {m : M} {Q : V → M → Prop} (h :
    (∀ m0 : M, ((m0 = (M.new m (AO.cells 6 [(C.int IntKind.i64 r), (C.int IntKind.i64 c), x, (C.int IntKind.i64 sm), 
          y, z] false))) → (∀ m1 : M, ((m1 = (M.new m0 (AO.cells 9 [(C.int IntKind.i64 a0), (C.int IntKind.i64 a1), 
            (C.int IntKind.i64 a2), (C.int IntKind.i64 a3), (C.int IntKind.i64 a4), (C.int IntKind.i64 a5), (C.int IntKind.i64 a6), 
            (C.int IntKind.i64 a7), (C.int IntKind.i64 a8)] false))) → (∃ x2 : Int, (((ldC m1 (C.ptr k 0)) = (Option.some (C.int IntKind.i64 x2))) ∧ 
          (isPt (C.ptr (m0).nxt 0) ∧ (∃ n3 : Nat, ((x2 = ((n3 : Nat) : Int)) ∧ ((n3 < 9) ∧ (∃ x4 : Int, (((ldC m1 (C.ptr (m0).nxt (0 + (n3 * 1)))) = (Option.some (C.int IntKind.i64 x4))) ∧ 
                (Q (V.c (C.int IntKind.i64 x4)) m1)))))))))))))) : Wc prog tbl 85 [.agg 6 [.int .i64 r, .int .i64 c, x, .int .i64 sm, y, z], .agg 9 [.int .i64 a0, .int .i64 a1, .int .i64 a2, .int .i64 a3, .int .i64 a4, .int .i64 a5, .int .i64 a6, .int .i64 a7, .int .i64 a8], .c (.ptr k 0)] m Q :=
  wc_eq (n := 3) rfl (by kernel_rfl) (by kernel_rfl) h
end
end Go.Proofs.Ytgkjfhkjgdiodaa

namespace Go.Proofs.Ytgkjfhkjgdiodaa
open _root_.Go.Proofs.Try
open Go.Abs
set_option maxRecDepth 100000
noncomputable section
theorem w42 {a100 : Int} {a101 : Int} {a102 : C} {a103 : Int} {a104 : C} {a200 : Int} {m : M} {Q : V → M → Prop} (h :
    (∀ m0 : M, ((m0 = (M.new m (AO.cells 5 [(C.int IntKind.i64 a100), (C.int IntKind.i64 a101), a102, (C.int IntKind.i64 a103), 
          a104] false))) → (∀ m1 : M, ((m1 = (M.new m0 (AO.cells 1 [(C.int IntKind.i64 a200)] false))) → (∀ m2 : M, 
         ((m2 = (M.new m1 (AO.cells 2 [(C.int IntKind.i64 (0 : Int)), (C.int IntKind.i64 (0 : Int))] false))) → 
          (∃ x3 : Int, (∃ x4 : Int, (∃ c5 : C, (∃ x6 : Int, (∃ c7 : C, (((ldA m2 (C.ptr (m).nxt 0) 5) = (Option.some [(C.int IntKind.i64 x3), 
                   (C.int IntKind.i64 x4), c5, (C.int IntKind.i64 x6), c7])) ∧ (∃ x8 : Int, (((ldC m2 (C.ptr (m0).nxt 0)) = (Option.some (C.int IntKind.i64 x8))) ∧ 
                  (isPt (C.ptr (m).nxt 0) ∧ (∃ x9 : Int, (∃ x10 : Int, (∃ c11 : C, (((ldA m2 (C.ptr (m).nxt 0) 3) = (Option.some [(C.int IntKind.i64 x9), 
                          (C.int IntKind.i64 x10), c11])) ∧ (optB (mapO vW [(V.agg 3 [(C.int IntKind.i64 x9), (C.int IntKind.i64 x10), 
                            c11])]) False fun l12 => (Wc prog tbl 83 [(V.agg 5 [(C.int IntKind.i64 x3), (C.int IntKind.i64 x4), 
                            c5, (C.int IntKind.i64 x6), c7]), (V.c (C.int IntKind.i64 x8)), (V.c (C.fn (Fn.func 84) l12 []))] m2 (fun v13 m14 => 
                          (∃ x15 : Int, (∃ x16 : Int, (∃ c17 : C, (∃ x18 : Int, (∃ c19 : C, (∃ c20 : C, (∃ x21 : Int, 
                                 ((v13 = (V.tup [(U.agg 6 [(C.int IntKind.i64 x15), (C.int IntKind.i64 x16), c17, 
                                  (C.int IntKind.i64 x18), c19, c20]), (U.c (C.int IntKind.i64 x21))])) ∧ (∀ m22 : M, 
                                  ((m22 = (M.new m14 (AO.cells 6 [(C.int IntKind.i64 (0 : Int)), (C.int IntKind.i64 (0 : Int)), 
                                  C.sl0, (C.int IntKind.i64 (0 : Int)), C.sl0, C.map0] false))) → (∃ m23 : M, (((stC m22 (C.ptr (m14).nxt 0) 6 [(C.int IntKind.i64 x15), 
                                  (C.int IntKind.i64 x16), c17, (C.int IntKind.i64 x18), c19, c20]) = (Option.some m23)) ∧ 
                                  (ifB (!decide (x21 = (0 : Int))) (∃ m24 : M, (((stC m23 (C.ptr (m1).nxt 0) 2 [(C.int IntKind.i64 (0 : Int)), 
                                  (C.int IntKind.i64 (0 : Int))]) = (Option.some m24)) ∧ (∃ x25 : Int, (∃ x26 : Int, 
                                  (((ldA m24 (C.ptr (m1).nxt 0) 2) = (Option.some [(C.int IntKind.i64 x25), (C.int IntKind.i64 x26)])) ∧ 
                                  (Q (V.tup [(U.agg 2 [(C.int IntKind.i64 x25), (C.int IntKind.i64 x26)]), (U.c (C.int IntKind.i64 x21))]) m24)))))) (∃ x27 : Int, 
                                  (∃ x28 : Int, (∃ c29 : C, (∃ x30 : Int, (∃ c31 : C, (∃ c32 : C, (((ldA m23 (C.ptr (m14).nxt 0) 6) = (Option.some [(C.int IntKind.i64 x27), 
                                  (C.int IntKind.i64 x28), c29, (C.int IntKind.i64 x30), c31, c32])) ∧ (Wc prog tbl 82 [(V.agg 6 [(C.int IntKind.i64 x27), 
                                  (C.int IntKind.i64 x28), c29, (C.int IntKind.i64 x30), c31, c32]), (V.agg 1 [(C.fn (Fn.func 85) [] [(W.c (C0.ptr (m0).nxt 0))])])] m23 (fun v33 m34 => 
                                  (∃ x35 : Int, (∃ x36 : Int, ((v33 = (V.agg 2 [(C.int IntKind.i64 x35), (C.int IntKind.i64 x36)])) ∧ 
                                  (∃ m37 : M, (((stC m34 (C.ptr (m1).nxt 0) 2 [(C.int IntKind.i64 x35), (C.int IntKind.i64 x36)]) = (Option.some m37)) ∧ 
                                  (∃ x38 : Int, (∃ x39 : Int, (((ldA m37 (C.ptr (m1).nxt 0) 2) = (Option.some [(C.int IntKind.i64 x38), 
                                  (C.int IntKind.i64 x39)])) ∧ (Q (V.tup [(U.agg 2 [(C.int IntKind.i64 x38), (C.int IntKind.i64 x39)]), 
                                  (U.c (C.int IntKind.i64 (0 : Int)))]) m37)))))))))))))))))))))))))))))))))))))))))))))))))))))) : Wc prog tbl 42 [(V.agg 5 [(C.int IntKind.i64 a100), (C.int IntKind.i64 a101), a102, (C.int IntKind.i64 a103), a104]), (V.c (C.int IntKind.i64 a200))] m Q :=
  wc_eq (n := 2) rfl (by kernel_rfl) (by kernel_rfl) h
theorem w46 {a100 : Int} {a101 : Int} {a102 : C} {a103 : Int} {a104 : C} {a200 : C} {m : M} {Q : V → M → Prop} (h :
    (∀ m0 : M, ((m0 = (M.new m (AO.cells 5 [(C.int IntKind.i64 a100), (C.int IntKind.i64 a101), a102, (C.int IntKind.i64 a103), 
          a104] false))) → (∀ m1 : M, ((m1 = (M.new m0 (AO.cells 2 [(C.int IntKind.i64 (0 : Int)), (C.int IntKind.i64 (0 : Int))] false))) → 
        (∀ m2 : M, ((m2 = (M.new m1 (AO.cells 2 [(C.int IntKind.i64 (0 : Int)), (C.int IntKind.i64 (0 : Int))] false))) → 
          (∃ m3 : M, (((stC m2 (C.ptr (m1).nxt 0) 2 [(C.int IntKind.i64 (1099511627776 : Int)), (C.int IntKind.i64 (-1 : Int))]) = (Option.some m3)) ∧ 
            (∀ R4 : List V → M → Prop, ((∀ x5 : Int, (∀ m6 : M, ((isSl a200 ∧ (ifB (decide (x5 < (((slLen a200) : Nat) : Int))) (isPt (C.ptr (m).nxt 0) ∧ 
                    (∃ x7 : Int, (∃ x8 : Int, (∃ c9 : C, (((ldA m6 (C.ptr (m).nxt 0) 3) = (Option.some [(C.int IntKind.i64 x7), 
                           (C.int IntKind.i64 x8), c9])) ∧ (isPt (C.ptr (m).nxt 0) ∧ (∃ x10 : Int, (∃ x11 : Int, 
                           (∃ c12 : C, (((ldA m6 (C.ptr (m).nxt 0) 3) = (Option.some [(C.int IntKind.i64 x10), 
                                (C.int IntKind.i64 x11), c12])) ∧ (∃ n13 : Nat, ((x5 = ((n13 : Nat) : Int)) ∧ ((n13 < (slLen a200)) ∧ 
                                (∃ x14 : Int, (((ldC m6 (slAt a200 (n13 * 1))) = (Option.some (C.int IntKind.i64 x14))) ∧ 
                                  (Wc prog tbl 67 [(V.agg 3 [(C.int IntKind.i64 x10), (C.int IntKind.i64 x11), 
                                  c12]), (V.c (C.int IntKind.i64 x14))] m6 (fun v15 m16 => (∃ c17 : C, ((v15 = (V.c c17)) ∧ 
                                  ((ifB (allS noFnC [(C.int IntKind.i64 x7), (C.int IntKind.i64 x8), c9]) ((ldA m16 (C.ptr (m).nxt 0) 3) = (Option.some [(C.int IntKind.i64 x7), 
                                  (C.int IntKind.i64 x8), c9])) False) ∧ (Wc prog tbl 40 [(V.agg 3 [(C.int IntKind.i64 x7), 
                                  (C.int IntKind.i64 x8), c9]), (V.c c17)] m16 (fun v18 m19 => (∃ x20 : Int, ((v18 = (V.c (C.int IntKind.i64 x20))) ∧ 
                                  (isPt (C.ptr (m1).nxt 0) ∧ (∃ x21 : Int, (((ldC m19 (C.ptr (m1).nxt 0)) = (Option.some (C.int IntKind.i64 x21))) ∧ 
                                  (isPt (C.ptr (m1).nxt 0) ∧ (∃ x22 : Int, (((ldC m19 (C.ptr (m1).nxt 1)) = (Option.some (C.int IntKind.i64 x22))) ∧ 
                                  (∃ m23 : M, (((stC m19 (C.ptr (m1).nxt 0) 2 [(C.int IntKind.i64 (Min.min x21 x20)), 
                                  (C.int IntKind.i64 (Max.max x22 x20))]) = (Option.some m23)) ∧ (fitsP IntKind.i64 (x5 + (1 : Int)) ∧ 
                                  (R4 [(V.c (C.int IntKind.i64 (x5 + (1 : Int))))] m23)))))))))))))))))))))))))))))))))) (∃ x24 : Int, 
                    (∃ x25 : Int, (((ldA m6 (C.ptr (m1).nxt 0) 2) = (Option.some [(C.int IntKind.i64 x24), (C.int IntKind.i64 x25)])) ∧ 
                      (∃ m26 : M, (((stC m6 (C.ptr (m0).nxt 0) 2 [(C.int IntKind.i64 x24), (C.int IntKind.i64 x25)]) = (Option.some m26)) ∧ 
                        (∃ x27 : Int, (∃ x28 : Int, (((ldA m26 (C.ptr (m0).nxt 0) 2) = (Option.some [(C.int IntKind.i64 x27), 
                              (C.int IntKind.i64 x28)])) ∧ (Q (V.agg 2 [(C.int IntKind.i64 x27), (C.int IntKind.i64 x28)]) m26))))))))))) → 
                 (R4 [(V.c (C.int IntKind.i64 x5))] m6)))) → (R4 [(V.c (C.int IntKind.i64 (0 : Int)))] m3)))))))))))) : Wc prog tbl 46 [(V.agg 5 [(C.int IntKind.i64 a100), (C.int IntKind.i64 a101), a102, (C.int IntKind.i64 a103), a104]), (V.c a200)] m Q :=
  wc_eq (n := 2) rfl (by kernel_rfl) (by kernel_rfl) h
theorem w58 {a100 : Int} {a101 : Int} {a102 : C} {a103 : Int} {a104 : C} {m : M} {Q : V → M → Prop} (h :
    (∀ m0 : M, ((m0 = (M.new m (AO.cells 5 [(C.int IntKind.i64 a100), (C.int IntKind.i64 a101), a102, (C.int IntKind.i64 a103), 
          a104] false))) → (∃ x1 : Int, (∃ x2 : Int, (∃ c3 : C, (∃ x4 : Int, (∃ c5 : C, (((ldA m0 (C.ptr (m).nxt 0) 5) = (Option.some [(C.int IntKind.i64 x1), 
               (C.int IntKind.i64 x2), c3, (C.int IntKind.i64 x4), c5])) ∧ (Wc prog tbl 19 [(V.agg 5 [(C.int IntKind.i64 x1), 
                (C.int IntKind.i64 x2), c3, (C.int IntKind.i64 x4), c5])] m0 (fun v6 m7 => (∃ b8 : Bool, ((v6 = (V.c (C.bool b8))) ∧ 
                (ifB b8 (∃ x9 : Int, (∃ x10 : Int, (∃ c11 : C, (∃ x12 : Int, (∃ c13 : C, (((ldA m7 (C.ptr (m).nxt 0) 5) = (Option.some [(C.int IntKind.i64 x9), 
                          (C.int IntKind.i64 x10), c11, (C.int IntKind.i64 x12), c13])) ∧ (Wc prog tbl 36 [(V.agg 5 [(C.int IntKind.i64 x9), 
                           (C.int IntKind.i64 x10), c11, (C.int IntKind.i64 x12), c13])] m7 (fun v14 m15 => (∃ x16 : Int, 
                          ((v14 = (V.c (C.int IntKind.i64 x16))) ∧ (Q (V.c (C.bool (decide (x16 = (0 : Int))))) m15))))))))))) (Q (V.c (C.bool false)) m7))))))))))))))) : Wc prog tbl 58 [(V.agg 5 [(C.int IntKind.i64 a100), (C.int IntKind.i64 a101), a102, (C.int IntKind.i64 a103), a104])] m Q :=
  wc_eq (n := 1) rfl (by kernel_rfl) (by kernel_rfl) h
theorem w62 {a100 : Int} {a101 : Int} {a102 : C} {a103 : Int} {a104 : C} {m : M} {Q : V → M → Prop} (h :
    (∀ m0 : M, ((m0 = (M.new m (AO.cells 5 [(C.int IntKind.i64 a100), (C.int IntKind.i64 a101), a102, (C.int IntKind.i64 a103), 
          a104] false))) → (∃ x1 : Int, (∃ x2 : Int, (∃ c3 : C, (∃ x4 : Int, (∃ c5 : C, (((ldA m0 (C.ptr (m).nxt 0) 5) = (Option.some [(C.int IntKind.i64 x1), 
               (C.int IntKind.i64 x2), c3, (C.int IntKind.i64 x4), c5])) ∧ (Wc prog tbl 58 [(V.agg 5 [(C.int IntKind.i64 x1), 
                (C.int IntKind.i64 x2), c3, (C.int IntKind.i64 x4), c5])] m0 (fun v6 m7 => (∃ b8 : Bool, ((v6 = (V.c (C.bool b8))) ∧ 
                (ifB b8 (∃ x9 : Int, (∃ x10 : Int, (∃ c11 : C, (∃ x12 : Int, (∃ c13 : C, (((ldA m7 (C.ptr (m).nxt 0) 5) = (Option.some [(C.int IntKind.i64 x9), 
                          (C.int IntKind.i64 x10), c11, (C.int IntKind.i64 x12), c13])) ∧ (Wc prog tbl 68 [(V.agg 5 [(C.int IntKind.i64 x9), 
                           (C.int IntKind.i64 x10), c11, (C.int IntKind.i64 x12), c13]), (V.c (C.int IntKind.i64 (0 : Int)))] m7 (fun v14 m15 => 
                         (∃ b16 : Bool, ((v14 = (V.c (C.bool b16))) ∧ (Q (V.c (C.bool b16)) m15))))))))))) (Q (V.c (C.bool false)) m7))))))))))))))) : Wc prog tbl 62 [(V.agg 5 [(C.int IntKind.i64 a100), (C.int IntKind.i64 a101), a102, (C.int IntKind.i64 a103), a104])] m Q :=
  wc_eq (n := 1) rfl (by kernel_rfl) (by kernel_rfl) h
theorem w67 {a100 : Int} {a101 : Int} {a102 : C} {a200 : Int} {m : M} {Q : V → M → Prop} (h :
    (∀ m0 : M, ((m0 = (M.new m (AO.cells 3 [(C.int IntKind.i64 a100), (C.int IntKind.i64 a101), a102] false))) → (∀ R1 : List V → 
       M → Prop, ((∀ c2 : C, (∀ x3 : Int, (∀ x4 : Int, (∀ m5 : M, ((isPt (C.ptr (m).nxt 0) ∧ (∃ c6 : C, (((ldC m5 (C.ptr (m).nxt 2)) = (Option.some c6)) ∧ 
                (isSl c6 ∧ (ifB (decide (x4 < (((slLen c6) : Nat) : Int))) (isPt (C.ptr (m).nxt 0) ∧ (∃ c7 : C, 
                    (((ldC m5 (C.ptr (m).nxt 2)) = (Option.some c7)) ∧ (∃ n8 : Nat, ((x4 = ((n8 : Nat) : Int)) ∧ 
                       ((n8 < (slLen c7)) ∧ (∃ x9 : Int, (((ldC m5 (slAt c7 (n8 * 1))) = (Option.some (C.int IntKind.i64 x9))) ∧ 
                          (fitsP IntKind.i64 (x9 + (1 : Int)) ∧ (((0 : Int) ≤ x3) ∧ (((0 : Int) < (x9 + (1 : Int))) ∧ 
                             (fitsP IntKind.i64 (x3 % (x9 + (1 : Int))) ∧ (∀ m10 : M, ((m10 = (M.new m5 (AO.cells 1 [(C.int IntKind.i64 (x3 % (x9 + (1 : Int))))] false))) → 
                                (∃ c11 : C, (∃ m12 : M, ((ApR prog 22 m10 c2 (C.sl (m5).nxt 0 1 0 (Option.some 1)) c11 m12) ∧ 
                                  (isPt (C.ptr (m).nxt 0) ∧ (∃ c13 : C, (((ldC m12 (C.ptr (m).nxt 2)) = (Option.some c13)) ∧ 
                                  (∃ n14 : Nat, ((x4 = ((n14 : Nat) : Int)) ∧ ((n14 < (slLen c13)) ∧ (∃ x15 : Int, 
                                  (((ldC m12 (slAt c13 (n14 * 1))) = (Option.some (C.int IntKind.i64 x15))) ∧ (fitsP IntKind.i64 (x15 + (1 : Int)) ∧ 
                                  (((0 : Int) ≤ x3) ∧ (((0 : Int) < (x15 + (1 : Int))) ∧ (fitsP IntKind.i64 (x3 / (x15 + (1 : Int))) ∧ 
                                  (fitsP IntKind.i64 (x4 + (1 : Int)) ∧ (R1 [(V.c c11), (V.c (C.int IntKind.i64 (x3 / (x15 + (1 : Int))))), 
                                  (V.c (C.int IntKind.i64 (x4 + (1 : Int))))] m12))))))))))))))))))))))))))))))) (Q (V.c c2) m5)))))) → 
             (R1 [(V.c c2), (V.c (C.int IntKind.i64 x3)), (V.c (C.int IntKind.i64 x4))] m5)))))) → (R1 [(V.c C.sl0), 
          (V.c (C.int IntKind.i64 a200)), (V.c (C.int IntKind.i64 (0 : Int)))] m0)))))) : Wc prog tbl 67 [(V.agg 3 [(C.int IntKind.i64 a100), (C.int IntKind.i64 a101), a102]), (V.c (C.int IntKind.i64 a200))] m Q :=
  wc_eq (n := 2) rfl (by kernel_rfl) (by kernel_rfl) h
theorem w81 {a100 : Int} {a101 : Int} {a102 : C} {a103 : Int} {a104 : C} {m : M} {Q : V → M → Prop} (h :
    (∀ m0 : M, ((m0 = (M.new m (AO.cells 5 [(C.int IntKind.i64 a100), (C.int IntKind.i64 a101), a102, (C.int IntKind.i64 a103), 
          a104] false))) → (∀ m1 : M, ((m1 = (M.new m0 (AO.cells 6 [(C.int IntKind.i64 (0 : Int)), (C.int IntKind.i64 (0 : Int)), 
            C.sl0, (C.int IntKind.i64 (0 : Int)), C.sl0, C.map0] false))) → (∃ x2 : Int, (∃ x3 : Int, (∃ c4 : C, 
           (∃ x5 : Int, (∃ c6 : C, (((ldA m1 (C.ptr (m).nxt 0) 5) = (Option.some [(C.int IntKind.i64 x2), (C.int IntKind.i64 x3), 
                 c4, (C.int IntKind.i64 x5), c6])) ∧ (Wc prog tbl 37 [(V.agg 5 [(C.int IntKind.i64 x2), (C.int IntKind.i64 x3), 
                  c4, (C.int IntKind.i64 x5), c6])] m1 (fun v7 m8 => (∃ x9 : Int, ((v7 = (V.c (C.int IntKind.i64 x9))) ∧ 
                  (ifB (!decide (x9 = (0 : Int))) (∃ m10 : M, (((stC m8 (C.ptr (m0).nxt 0) 6 [(C.int IntKind.i64 (0 : Int)), 
                        (C.int IntKind.i64 (0 : Int)), C.sl0, (C.int IntKind.i64 (0 : Int)), C.sl0, C.map0]) = (Option.some m10)) ∧ 
                     (∃ x11 : Int, (∃ x12 : Int, (∃ c13 : C, (∃ x14 : Int, (∃ c15 : C, (∃ c16 : C, (((ldA m10 (C.ptr (m0).nxt 0) 6) = (Option.some [(C.int IntKind.i64 x11), 
                               (C.int IntKind.i64 x12), c13, (C.int IntKind.i64 x14), c15, c16])) ∧ (Q (V.tup [(U.agg 6 [(C.int IntKind.i64 x11), 
                                 (C.int IntKind.i64 x12), c13, (C.int IntKind.i64 x14), c15, c16]), (U.c (C.int IntKind.i64 x9))]) m10)))))))))) (∃ x17 : Int, 
                    (∃ x18 : Int, (∃ c19 : C, (∃ x20 : Int, (∃ c21 : C, (((ldA m8 (C.ptr (m).nxt 0) 5) = (Option.some [(C.int IntKind.i64 x17), 
                            (C.int IntKind.i64 x18), c19, (C.int IntKind.i64 x20), c21])) ∧ (Wc prog tbl 76 [(V.agg 5 [(C.int IntKind.i64 x17), 
                             (C.int IntKind.i64 x18), c19, (C.int IntKind.i64 x20), c21])] m8 (fun v22 m23 => (∃ x24 : Int, 
                            (∃ x25 : Int, (∃ c26 : C, (∃ x27 : Int, (∃ c28 : C, (∃ c29 : C, ((v22 = (V.agg 6 [(C.int IntKind.i64 x24), 
                                  (C.int IntKind.i64 x25), c26, (C.int IntKind.i64 x27), c28, c29])) ∧ (∀ m30 : M, 
                                  ((m30 = (M.new m23 (AO.cells 6 [(C.int IntKind.i64 (0 : Int)), (C.int IntKind.i64 (0 : Int)), 
                                  C.sl0, (C.int IntKind.i64 (0 : Int)), C.sl0, C.map0] false))) → (∃ m31 : M, (((stC m30 (C.ptr (m23).nxt 0) 6 [(C.int IntKind.i64 x24), 
                                  (C.int IntKind.i64 x25), c26, (C.int IntKind.i64 x27), c28, c29]) = (Option.some m31)) ∧ 
                                  (∃ x32 : Int, (∃ x33 : Int, (∃ c34 : C, (∃ x35 : Int, (∃ c36 : C, (∃ c37 : C, 
                                  (((ldA m31 (C.ptr (m23).nxt 0) 6) = (Option.some [(C.int IntKind.i64 x32), (C.int IntKind.i64 x33), 
                                  c34, (C.int IntKind.i64 x35), c36, c37])) ∧ (Wc prog tbl 91 [(V.agg 6 [(C.int IntKind.i64 x32), 
                                  (C.int IntKind.i64 x33), c34, (C.int IntKind.i64 x35), c36, c37]), (V.c C.sl0)] m31 (fun v38 m39 => 
                                  (∃ b40 : Bool, ((v38 = (V.c (C.bool b40))) ∧ (ifB (!b40) (∃ m41 : M, (((stC m39 (C.ptr (m0).nxt 0) 6 [(C.int IntKind.i64 (0 : Int)), 
                                  (C.int IntKind.i64 (0 : Int)), C.sl0, (C.int IntKind.i64 (0 : Int)), C.sl0, C.map0]) = (Option.some m41)) ∧ 
                                  (∃ x42 : Int, (∃ x43 : Int, (∃ c44 : C, (∃ x45 : Int, (∃ c46 : C, (∃ c47 : C, 
                                  (((ldA m41 (C.ptr (m0).nxt 0) 6) = (Option.some [(C.int IntKind.i64 x42), (C.int IntKind.i64 x43), 
                                  c44, (C.int IntKind.i64 x45), c46, c47])) ∧ (Q (V.tup [(U.agg 6 [(C.int IntKind.i64 x42), 
                                  (C.int IntKind.i64 x43), c44, (C.int IntKind.i64 x45), c46, c47]), (U.c (C.int IntKind.i64 (9 : Int)))]) m41)))))))))) (∃ x48 : Int, 
                                  (∃ x49 : Int, (∃ c50 : C, (∃ x51 : Int, (∃ c52 : C, (∃ c53 : C, (((ldA m39 (C.ptr (m23).nxt 0) 6) = (Option.some [(C.int IntKind.i64 x48), 
                                  (C.int IntKind.i64 x49), c50, (C.int IntKind.i64 x51), c52, c53])) ∧ (∃ m54 : M, 
                                  (((stC m39 (C.ptr (m0).nxt 0) 6 [(C.int IntKind.i64 x48), (C.int IntKind.i64 x49), 
                                  c50, (C.int IntKind.i64 x51), c52, c53]) = (Option.some m54)) ∧ (∃ x55 : Int, 
                                  (∃ x56 : Int, (∃ c57 : C, (∃ x58 : Int, (∃ c59 : C, (∃ c60 : C, (((ldA m54 (C.ptr (m0).nxt 0) 6) = (Option.some [(C.int IntKind.i64 x55), 
                                  (C.int IntKind.i64 x56), c57, (C.int IntKind.i64 x58), c59, c60])) ∧ (Q (V.tup [(U.agg 6 [(C.int IntKind.i64 x55), 
                                  (C.int IntKind.i64 x56), c57, (C.int IntKind.i64 x58), c59, c60]), (U.c (C.int IntKind.i64 (0 : Int)))]) m54)))))))))))))))))))))))))))))))))))))))))))))))))))))))))))))))) : Wc prog tbl 81 [(V.agg 5 [(C.int IntKind.i64 a100), (C.int IntKind.i64 a101), a102, (C.int IntKind.i64 a103), a104])] m Q :=
  wc_eq (n := 1) rfl (by kernel_rfl) (by kernel_rfl) h
theorem w83 {a100 : Int} {a101 : Int} {a102 : C} {a103 : Int} {a104 : C} {a200 : Int} {a300 : C} {m : M} {Q : V → M → Prop} (h :
    (∀ m0 : M, ((m0 = (M.new m (AO.cells 5 [(C.int IntKind.i64 a100), (C.int IntKind.i64 a101), a102, (C.int IntKind.i64 a103), 
          a104] false))) → (∀ m1 : M, ((m1 = (M.new m0 (AO.cells 6 [(C.int IntKind.i64 (0 : Int)), (C.int IntKind.i64 (0 : Int)), 
            C.sl0, (C.int IntKind.i64 (0 : Int)), C.sl0, C.map0] false))) → (∃ x2 : Int, (∃ x3 : Int, (∃ c4 : C, 
           (∃ x5 : Int, (∃ c6 : C, (((ldA m1 (C.ptr (m).nxt 0) 5) = (Option.some [(C.int IntKind.i64 x2), (C.int IntKind.i64 x3), 
                 c4, (C.int IntKind.i64 x5), c6])) ∧ (Wc prog tbl 37 [(V.agg 5 [(C.int IntKind.i64 x2), (C.int IntKind.i64 x3), 
                  c4, (C.int IntKind.i64 x5), c6])] m1 (fun v7 m8 => (∃ x9 : Int, ((v7 = (V.c (C.int IntKind.i64 x9))) ∧ 
                  (ifB (!decide (x9 = (0 : Int))) (∃ m10 : M, (((stC m8 (C.ptr (m0).nxt 0) 6 [(C.int IntKind.i64 (0 : Int)), 
                        (C.int IntKind.i64 (0 : Int)), C.sl0, (C.int IntKind.i64 (0 : Int)), C.sl0, C.map0]) = (Option.some m10)) ∧ 
                     (∃ x11 : Int, (∃ x12 : Int, (∃ c13 : C, (∃ x14 : Int, (∃ c15 : C, (∃ c16 : C, (((ldA m10 (C.ptr (m0).nxt 0) 6) = (Option.some [(C.int IntKind.i64 x11), 
                               (C.int IntKind.i64 x12), c13, (C.int IntKind.i64 x14), c15, c16])) ∧ (Q (V.tup [(U.agg 6 [(C.int IntKind.i64 x11), 
                                 (C.int IntKind.i64 x12), c13, (C.int IntKind.i64 x14), c15, c16]), (U.c (C.int IntKind.i64 x9))]) m10)))))))))) (callP prog tbl [(V.c (C.int IntKind.i64 a200))] a300 m8 (fun v17 m18 => 
                     (∃ b19 : Bool, ((v17 = (V.c (C.bool b19))) ∧ (ifB (!b19) (∃ m20 : M, (((stC m18 (C.ptr (m0).nxt 0) 6 [(C.int IntKind.i64 (0 : Int)), 
                             (C.int IntKind.i64 (0 : Int)), C.sl0, (C.int IntKind.i64 (0 : Int)), C.sl0, C.map0]) = (Option.some m20)) ∧ 
                          (∃ x21 : Int, (∃ x22 : Int, (∃ c23 : C, (∃ x24 : Int, (∃ c25 : C, (∃ c26 : C, (((ldA m20 (C.ptr (m0).nxt 0) 6) = (Option.some [(C.int IntKind.i64 x21), 
                                  (C.int IntKind.i64 x22), c23, (C.int IntKind.i64 x24), c25, c26])) ∧ (Q (V.tup [(U.agg 6 [(C.int IntKind.i64 x21), 
                                  (C.int IntKind.i64 x22), c23, (C.int IntKind.i64 x24), c25, c26]), (U.c (C.int IntKind.i64 (2 : Int)))]) m20)))))))))) (∃ x27 : Int, 
                         (∃ x28 : Int, (∃ c29 : C, (∃ x30 : Int, (∃ c31 : C, (((ldA m18 (C.ptr (m).nxt 0) 5) = (Option.some [(C.int IntKind.i64 x27), 
                                 (C.int IntKind.i64 x28), c29, (C.int IntKind.i64 x30), c31])) ∧ (Wc prog tbl 81 [(V.agg 5 [(C.int IntKind.i64 x27), 
                                  (C.int IntKind.i64 x28), c29, (C.int IntKind.i64 x30), c31])] m18 (fun v32 m33 => 
                                (∃ x34 : Int, (∃ x35 : Int, (∃ c36 : C, (∃ x37 : Int, (∃ c38 : C, (∃ c39 : C, (∃ x40 : Int, 
                                  ((v32 = (V.tup [(U.agg 6 [(C.int IntKind.i64 x34), (C.int IntKind.i64 x35), c36, 
                                  (C.int IntKind.i64 x37), c38, c39]), (U.c (C.int IntKind.i64 x40))])) ∧ (∃ m41 : M, 
                                  (((stC m33 (C.ptr (m0).nxt 0) 6 [(C.int IntKind.i64 x34), (C.int IntKind.i64 x35), 
                                  c36, (C.int IntKind.i64 x37), c38, c39]) = (Option.some m41)) ∧ (∃ x42 : Int, 
                                  (∃ x43 : Int, (∃ c44 : C, (∃ x45 : Int, (∃ c46 : C, (∃ c47 : C, (((ldA m41 (C.ptr (m0).nxt 0) 6) = (Option.some [(C.int IntKind.i64 x42), 
                                  (C.int IntKind.i64 x43), c44, (C.int IntKind.i64 x45), c46, c47])) ∧ (Q (V.tup [(U.agg 6 [(C.int IntKind.i64 x42), 
                                  (C.int IntKind.i64 x43), c44, (C.int IntKind.i64 x45), c46, c47]), (U.c (C.int IntKind.i64 x40))]) m41))))))))))))))))))))))))))))))))))))))))))))))) : Wc prog tbl 83 [(V.agg 5 [(C.int IntKind.i64 a100), (C.int IntKind.i64 a101), a102, (C.int IntKind.i64 a103), a104]), (V.c (C.int IntKind.i64 a200)), (V.c a300)] m Q :=
  wc_eq (n := 3) rfl (by kernel_rfl) (by kernel_rfl) h
theorem w86 {a100 : Int} {m : M} {Q : V → M → Prop} (h :
    (Wc prog tbl 92 [(V.agg 2 [(C.int IntKind.i64 (0 : Int)), (C.int IntKind.i64 (100 : Int))]), (V.c (C.int IntKind.i64 a100))] m (fun v0 m1 => 
      (∃ b2 : Bool, ((v0 = (V.c (C.bool b2))) ∧ (Q (V.c (C.bool b2)) m1)))))) : Wc prog tbl 86 [(V.c (C.int IntKind.i64 a100))] m Q :=
  wc_eq (n := 1) rfl (by kernel_rfl) (by kernel_rfl) h
theorem w100 {a100 : Int} {a101 : Int} {a102 : C} {a103 : Int} {a104 : C} {a105 : C} {m : M} {Q : V → M → Prop} (h :
    (∀ m0 : M, ((m0 = (M.new m (AO.cells 6 [(C.int IntKind.i64 a100), (C.int IntKind.i64 a101), a102, (C.int IntKind.i64 a103), 
          a104, a105] false))) → (∃ x1 : Int, (∃ x2 : Int, (∃ c3 : C, (∃ x4 : Int, (∃ c5 : C, (∃ c6 : C, (((ldA m0 (C.ptr (m).nxt 0) 6) = (Option.some [(C.int IntKind.i64 x1), 
                (C.int IntKind.i64 x2), c3, (C.int IntKind.i64 x4), c5, c6])) ∧ (Wc prog tbl 108 [(V.agg 6 [(C.int IntKind.i64 x1), 
                 (C.int IntKind.i64 x2), c3, (C.int IntKind.i64 x4), c5, c6]), (V.agg 6 [(C.bool false), (C.bool false), 
                 (C.bool false), (C.bool false), (C.bool false), (C.bool false)])] m0 (fun v7 m8 => (∃ c9 : C, 
                ((v7 = (V.c c9)) ∧ (Q (V.c c9) m8))))))))))))))) : Wc prog tbl 100 [(V.agg 6 [(C.int IntKind.i64 a100), (C.int IntKind.i64 a101), a102, (C.int IntKind.i64 a103), a104, a105])] m Q :=
  wc_eq (n := 1) rfl (by kernel_rfl) (by kernel_rfl) h
theorem w102 {a100 : C} {m : M} {Q : V → M → Prop} (h :
    (isSl a100 ∧ (ifB (decide ((((slLen a100) : Nat) : Int) < (1 : Int))) False (∃ n0 : Nat, (((0 : Int) = ((n0 : Nat) : Int)) ∧ 
        ((n0 < (slLen a100)) ∧ (∃ x1 : Int, (((ldC m (slAt a100 (n0 * 1))) = (Option.some (C.int IntKind.i64 x1))) ∧ 
           (∀ R2 : List V → M → Prop, ((∀ x3 : Int, (∀ x4 : Int, (∀ m5 : M, ((isSl a100 ∧ (ifB (decide (x4 < (((slLen a100) : Nat) : Int))) (∃ n6 : Nat, 
                    ((x4 = ((n6 : Nat) : Int)) ∧ ((n6 < (slLen a100)) ∧ (∃ x7 : Int, (((ldC m5 (slAt a100 (n6 * 1))) = (Option.some (C.int IntKind.i64 x7))) ∧ 
                        (fitsP IntKind.i64 (x4 + (1 : Int)) ∧ (R2 [(V.c (C.int IntKind.i64 (Max.max x3 x7))), (V.c (C.int IntKind.i64 (x4 + (1 : Int))))] m5))))))) (Q (V.c (C.int IntKind.i64 x3)) m5))) → 
                 (R2 [(V.c (C.int IntKind.i64 x3)), (V.c (C.int IntKind.i64 x4))] m5))))) → (R2 [(V.c (C.int IntKind.i64 x1)), 
               (V.c (C.int IntKind.i64 (1 : Int)))] m))))))))))) : Wc prog tbl 102 [(V.c a100)] m Q :=
  wc_eq (n := 1) rfl (by kernel_rfl) (by kernel_rfl) h

end
end Go.Proofs.Ytgkjfhkjgdiodaa

namespace Go.Proofs.Ytgkjfhkjgdiodaa
open _root_.Go.Proofs.Try
open Go.Abs
set_option maxRecDepth 100000
noncomputable section
theorem w43 {a100 : Int} {a101 : Int} {a102 : C} {a103 : Int} {a104 : C} {m : M} {Q : V → M → Prop} (h :
    (∀ m0 : M, ((m0 = (M.new m (AO.cells 5 [(C.int IntKind.i64 a100), (C.int IntKind.i64 a101), a102, (C.int IntKind.i64 a103), 
          a104] false))) → (∃ x1 : Int, (∃ x2 : Int, (∃ c3 : C, (∃ x4 : Int, (∃ c5 : C, (((ldA m0 (C.ptr (m).nxt 0) 5) = (Option.some [(C.int IntKind.i64 x1), 
               (C.int IntKind.i64 x2), c3, (C.int IntKind.i64 x4), c5])) ∧ (Wc prog tbl 36 [(V.agg 5 [(C.int IntKind.i64 x1), 
                (C.int IntKind.i64 x2), c3, (C.int IntKind.i64 x4), c5])] m0 (fun v6 m7 => (∃ x8 : Int, ((v6 = (V.c (C.int IntKind.i64 x8))) ∧ 
                (ifB (!decide (x8 = (0 : Int))) (Q (V.tup [(U.c C.sl0), (U.c (C.int IntKind.i64 x8))]) m7) (∃ x9 : Int, 
                  (∃ x10 : Int, (∃ c11 : C, (∃ x12 : Int, (∃ c13 : C, (((ldA m7 (C.ptr (m).nxt 0) 5) = (Option.some [(C.int IntKind.i64 x9), 
                          (C.int IntKind.i64 x10), c11, (C.int IntKind.i64 x12), c13])) ∧ (Wc prog tbl 63 [(V.agg 5 [(C.int IntKind.i64 x9), 
                           (C.int IntKind.i64 x10), c11, (C.int IntKind.i64 x12), c13]), (V.c (C.int IntKind.i64 (0 : Int)))] m7 (fun v14 m15 => 
                         (∃ c16 : C, ((v14 = (V.c c16)) ∧ (isSl c16 ∧ (ifB (decide ((((slLen c16) : Nat) : Int) = (0 : Int))) (Q (V.tup [(U.c C.sl0), 
                                (U.c (C.int IntKind.i64 (9 : Int)))]) m15) (Q (V.tup [(U.c c16), (U.c (C.int IntKind.i64 (0 : Int)))]) m15))))))))))))))))))))))))))) : Wc prog tbl 43 [(V.agg 5 [(C.int IntKind.i64 a100), (C.int IntKind.i64 a101), a102, (C.int IntKind.i64 a103), a104])] m Q :=
  wc_eq (n := 1) rfl (by kernel_rfl) (by kernel_rfl) h
theorem w47 {a100 : Int} {a101 : Int} {a102 : C} {a103 : Int} {a104 : C} {a200 : C} {a300 : Int} {m : M} {Q : V → M → Prop} (h :
    (∀ m0 : M, ((m0 = (M.new m (AO.cells 5 [(C.int IntKind.i64 a100), (C.int IntKind.i64 a101), a102, (C.int IntKind.i64 a103), 
          a104] false))) → (∀ m1 : M, ((m1 = (M.new m0 (AO.cells 2 [(C.int IntKind.i64 (0 : Int)), (C.int IntKind.i64 (0 : Int))] false))) → 
        (∀ m2 : M, ((m2 = (M.new m1 (AO.cells 2 [(C.int IntKind.i64 (0 : Int)), (C.int IntKind.i64 (0 : Int))] false))) → 
          (∃ m3 : M, (((stC m2 (C.ptr (m1).nxt 0) 2 [(C.int IntKind.i64 (1099511627776 : Int)), (C.int IntKind.i64 (-1 : Int))]) = (Option.some m3)) ∧ 
            (∀ R4 : List V → M → Prop, ((∀ x5 : Int, (∀ m6 : M, ((isSl a200 ∧ (ifB (decide (x5 < (((slLen a200) : Nat) : Int))) (isPt (C.ptr (m).nxt 0) ∧ 
                    (∃ x7 : Int, (∃ x8 : Int, (∃ c9 : C, (((ldA m6 (C.ptr (m).nxt 0) 3) = (Option.some [(C.int IntKind.i64 x7), 
                           (C.int IntKind.i64 x8), c9])) ∧ (∃ n10 : Nat, ((x5 = ((n10 : Nat) : Int)) ∧ ((n10 < (slLen a200)) ∧ 
                           (∃ x11 : Int, (((ldC m6 (slAt a200 (n10 * 1))) = (Option.some (C.int IntKind.i64 x11))) ∧ 
                             (Wc prog tbl 67 [(V.agg 3 [(C.int IntKind.i64 x7), (C.int IntKind.i64 x8), c9]), (V.c (C.int IntKind.i64 x11))] m6 (fun v12 m13 => 
                               (∃ c14 : C, ((v12 = (V.c c14)) ∧ (∃ n15 : Nat, ((a300 = ((n15 : Nat) : Int)) ∧ ((n15 < (slLen c14)) ∧ 
                                  (∃ x16 : Int, (((ldC m13 (slAt c14 (n15 * 1))) = (Option.some (C.int IntKind.i64 x16))) ∧ 
                                  (isPt (C.ptr (m1).nxt 0) ∧ (∃ x17 : Int, (((ldC m13 (C.ptr (m1).nxt 0)) = (Option.some (C.int IntKind.i64 x17))) ∧ 
                                  (isPt (C.ptr (m1).nxt 0) ∧ (∃ x18 : Int, (((ldC m13 (C.ptr (m1).nxt 1)) = (Option.some (C.int IntKind.i64 x18))) ∧ 
                                  (∃ m19 : M, (((stC m13 (C.ptr (m1).nxt 0) 2 [(C.int IntKind.i64 (Min.min x17 x16)), 
                                  (C.int IntKind.i64 (Max.max x18 x16))]) = (Option.some m19)) ∧ (fitsP IntKind.i64 (x5 + (1 : Int)) ∧ 
                                  (R4 [(V.c (C.int IntKind.i64 (x5 + (1 : Int))))] m19))))))))))))))))))))))))))))) (∃ x20 : Int, 
                    (∃ x21 : Int, (((ldA m6 (C.ptr (m1).nxt 0) 2) = (Option.some [(C.int IntKind.i64 x20), (C.int IntKind.i64 x21)])) ∧ 
                      (∃ m22 : M, (((stC m6 (C.ptr (m0).nxt 0) 2 [(C.int IntKind.i64 x20), (C.int IntKind.i64 x21)]) = (Option.some m22)) ∧ 
                        (∃ x23 : Int, (∃ x24 : Int, (((ldA m22 (C.ptr (m0).nxt 0) 2) = (Option.some [(C.int IntKind.i64 x23), 
                              (C.int IntKind.i64 x24)])) ∧ (Q (V.agg 2 [(C.int IntKind.i64 x23), (C.int IntKind.i64 x24)]) m22))))))))))) → 
                 (R4 [(V.c (C.int IntKind.i64 x5))] m6)))) → (R4 [(V.c (C.int IntKind.i64 (0 : Int)))] m3)))))))))))) : Wc prog tbl 47 [(V.agg 5 [(C.int IntKind.i64 a100), (C.int IntKind.i64 a101), a102, (C.int IntKind.i64 a103), a104]), (V.c a200), (V.c (C.int IntKind.i64 a300))] m Q :=
  wc_eq (n := 3) rfl (by kernel_rfl) (by kernel_rfl) h
theorem w59 {a100 : Int} {a101 : Int} {a102 : C} {a103 : Int} {a104 : C} {a200 : Int} {m : M} {Q : V → M → Prop} (h :
    (∀ m0 : M, ((m0 = (M.new m (AO.cells 5 [(C.int IntKind.i64 a100), (C.int IntKind.i64 a101), a102, (C.int IntKind.i64 a103), 
          a104] false))) → (isPt (C.ptr (m).nxt 0) ∧ (∃ x1 : Int, (∃ x2 : Int, (∃ c3 : C, (((ldA m0 (C.ptr (m).nxt 0) 3) = (Option.some [(C.int IntKind.i64 x1), 
              (C.int IntKind.i64 x2), c3])) ∧ (isPt (C.ptr (m).nxt 0) ∧ (∃ x4 : Int, (∃ x5 : Int, (∃ c6 : C, (((ldA m0 (C.ptr (m).nxt 0) 3) = (Option.some [(C.int IntKind.i64 x4), 
                   (C.int IntKind.i64 x5), c6])) ∧ (Wc prog tbl 60 [(V.agg 3 [(C.int IntKind.i64 x4), (C.int IntKind.i64 x5), 
                    c6])] m0 (fun v7 m8 => (∃ x9 : Int, ((v7 = (V.c (C.int IntKind.i64 x9))) ∧ ((ifB (allS noFnC [(C.int IntKind.i64 x1), 
                        (C.int IntKind.i64 x2), c3]) ((ldA m8 (C.ptr (m).nxt 0) 3) = (Option.some [(C.int IntKind.i64 x1), 
                         (C.int IntKind.i64 x2), c3])) False) ∧ (((0 : Int) ≤ a200) ∧ (((0 : Int) < x9) ∧ (fitsP IntKind.i64 (a200 % x9) ∧ 
                        (Wc prog tbl 67 [(V.agg 3 [(C.int IntKind.i64 x1), (C.int IntKind.i64 x2), c3]), (V.c (C.int IntKind.i64 (a200 % x9)))] m8 (fun v10 m11 => 
                          (∃ c12 : C, ((v10 = (V.c c12)) ∧ (∃ x13 : Int, (∃ x14 : Int, (∃ c15 : C, (∃ x16 : Int, 
                                (∃ c17 : C, (((ldA m11 (C.ptr (m).nxt 0) 5) = (Option.some [(C.int IntKind.i64 x13), 
                                  (C.int IntKind.i64 x14), c15, (C.int IntKind.i64 x16), c17])) ∧ (Wc prog tbl 38 [(V.agg 5 [(C.int IntKind.i64 x13), 
                                  (C.int IntKind.i64 x14), c15, (C.int IntKind.i64 x16), c17]), (V.c c12), (V.c (C.int IntKind.i64 (0 : Int)))] m11 (fun v18 m19 => 
                                  (∃ b20 : Bool, ((v18 = (V.c (C.bool b20))) ∧ (Q (V.tup [(U.c c12), (U.c (C.bool b20))]) m19)))))))))))))))))))))))))))))))))))) : Wc prog tbl 59 [(V.agg 5 [(C.int IntKind.i64 a100), (C.int IntKind.i64 a101), a102, (C.int IntKind.i64 a103), a104]), (V.c (C.int IntKind.i64 a200))] m Q :=
  wc_eq (n := 2) rfl (by kernel_rfl) (by kernel_rfl) h
theorem w63 {a100 : Int} {a101 : Int} {a102 : C} {a103 : Int} {a104 : C} {a200 : Int} {m : M} {Q : V → M → Prop} (h :
    (∀ m0 : M, ((m0 = (M.new m (AO.cells 5 [(C.int IntKind.i64 a100), (C.int IntKind.i64 a101), a102, (C.int IntKind.i64 a103), 
          a104] false))) → (∀ R1 : List V → M → Prop, ((∀ c2 : C, (∀ x3 : Int, (∀ m4 : M, ((isPt (C.ptr (m).nxt 0) ∧ 
             (∃ x5 : Int, (∃ x6 : Int, (∃ c7 : C, (((ldA m4 (C.ptr (m).nxt 0) 3) = (Option.some [(C.int IntKind.i64 x5), 
                    (C.int IntKind.i64 x6), c7])) ∧ (Wc prog tbl 60 [(V.agg 3 [(C.int IntKind.i64 x5), (C.int IntKind.i64 x6), 
                     c7])] m4 (fun v8 m9 => (∃ x10 : Int, ((v8 = (V.c (C.int IntKind.i64 x10))) ∧ (ifB (decide (x3 < x10)) (∃ x11 : Int, 
                       (∃ x12 : Int, (∃ c13 : C, (∃ x14 : Int, (∃ c15 : C, (((ldA m9 (C.ptr (m).nxt 0) 5) = (Option.some [(C.int IntKind.i64 x11), 
                               (C.int IntKind.i64 x12), c13, (C.int IntKind.i64 x14), c15])) ∧ (isPt (C.ptr (m).nxt 0) ∧ 
                             (∃ x16 : Int, (∃ x17 : Int, (∃ c18 : C, (((ldA m9 (C.ptr (m).nxt 0) 3) = (Option.some [(C.int IntKind.i64 x16), 
                                  (C.int IntKind.i64 x17), c18])) ∧ (Wc prog tbl 67 [(V.agg 3 [(C.int IntKind.i64 x16), 
                                  (C.int IntKind.i64 x17), c18]), (V.c (C.int IntKind.i64 x3))] m9 (fun v19 m20 => 
                                  (∃ c21 : C, ((v19 = (V.c c21)) ∧ ((ifB (allS noFnC [(C.int IntKind.i64 x11), 
                                  (C.int IntKind.i64 x12), c13, (C.int IntKind.i64 x14), c15]) ((ldA m20 (C.ptr (m).nxt 0) 5) = (Option.some [(C.int IntKind.i64 x11), 
                                  (C.int IntKind.i64 x12), c13, (C.int IntKind.i64 x14), c15])) False) ∧ (Wc prog tbl 38 [(V.agg 5 [(C.int IntKind.i64 x11), 
                                  (C.int IntKind.i64 x12), c13, (C.int IntKind.i64 x14), c15]), (V.c c21), (V.c (C.int IntKind.i64 a200))] m20 (fun v22 m23 => 
                                  (∃ b24 : Bool, ((v22 = (V.c (C.bool b24))) ∧ (ifB b24 (∀ m25 : M, ((m25 = (M.new m23 (AO.cells 1 [(C.int IntKind.i64 x3)] false))) → 
                                  (∃ c26 : C, (∃ m27 : M, ((ApR prog 22 m25 c2 (C.sl (m23).nxt 0 1 0 (Option.some 1)) c26 m27) ∧ 
                                  (fitsP IntKind.i64 (x3 + (1 : Int)) ∧ (R1 [(V.c c26), (V.c (C.int IntKind.i64 (x3 + (1 : Int))))] m27))))))) (fitsP IntKind.i64 (x3 + (1 : Int)) ∧ 
                                  (R1 [(V.c c2), (V.c (C.int IntKind.i64 (x3 + (1 : Int))))] m23))))))))))))))))))))))) (Q (V.c c2) m9))))))))))) → 
            (R1 [(V.c c2), (V.c (C.int IntKind.i64 x3))] m4))))) → (R1 [(V.c C.sl0), (V.c (C.int IntKind.i64 (0 : Int)))] m0)))))) : Wc prog tbl 63 [(V.agg 5 [(C.int IntKind.i64 a100), (C.int IntKind.i64 a101), a102, (C.int IntKind.i64 a103), a104]), (V.c (C.int IntKind.i64 a200))] m Q :=
  wc_eq (n := 2) rfl (by kernel_rfl) (by kernel_rfl) h
theorem w68 {a100 : Int} {a101 : Int} {a102 : C} {a103 : Int} {a104 : C} {a200 : Int} {m : M} {Q : V → M → Prop} (h :
    (∀ m0 : M, ((m0 = (M.new m (AO.cells 5 [(C.int IntKind.i64 a100), (C.int IntKind.i64 a101), a102, (C.int IntKind.i64 a103), 
          a104] false))) → (∀ R1 : List V → M → Prop, ((∀ b2 : Bool, (∀ x3 : Int, (∀ m4 : M, ((isPt (C.ptr (m).nxt 0) ∧ 
             (∃ x5 : Int, (∃ x6 : Int, (∃ c7 : C, (((ldA m4 (C.ptr (m).nxt 0) 3) = (Option.some [(C.int IntKind.i64 x5), 
                    (C.int IntKind.i64 x6), c7])) ∧ (Wc prog tbl 60 [(V.agg 3 [(C.int IntKind.i64 x5), (C.int IntKind.i64 x6), 
                     c7])] m4 (fun v8 m9 => (∃ x10 : Int, ((v8 = (V.c (C.int IntKind.i64 x10))) ∧ (ifB (decide (x3 < x10)) (∃ x11 : Int, 
                       (∃ x12 : Int, (∃ c13 : C, (∃ x14 : Int, (∃ c15 : C, (((ldA m9 (C.ptr (m).nxt 0) 5) = (Option.some [(C.int IntKind.i64 x11), 
                               (C.int IntKind.i64 x12), c13, (C.int IntKind.i64 x14), c15])) ∧ (isPt (C.ptr (m).nxt 0) ∧ 
                             (∃ x16 : Int, (∃ x17 : Int, (∃ c18 : C, (((ldA m9 (C.ptr (m).nxt 0) 3) = (Option.some [(C.int IntKind.i64 x16), 
                                  (C.int IntKind.i64 x17), c18])) ∧ (Wc prog tbl 67 [(V.agg 3 [(C.int IntKind.i64 x16), 
                                  (C.int IntKind.i64 x17), c18]), (V.c (C.int IntKind.i64 x3))] m9 (fun v19 m20 => 
                                  (∃ c21 : C, ((v19 = (V.c c21)) ∧ ((ifB (allS noFnC [(C.int IntKind.i64 x11), 
                                  (C.int IntKind.i64 x12), c13, (C.int IntKind.i64 x14), c15]) ((ldA m20 (C.ptr (m).nxt 0) 5) = (Option.some [(C.int IntKind.i64 x11), 
                                  (C.int IntKind.i64 x12), c13, (C.int IntKind.i64 x14), c15])) False) ∧ (Wc prog tbl 38 [(V.agg 5 [(C.int IntKind.i64 x11), 
                                  (C.int IntKind.i64 x12), c13, (C.int IntKind.i64 x14), c15]), (V.c c21), (V.c (C.int IntKind.i64 a200))] m20 (fun v22 m23 => 
                                  (∃ b24 : Bool, ((v22 = (V.c (C.bool b24))) ∧ (ifB b24 (Q (V.c (C.bool true)) m23) (fitsP IntKind.i64 (x3 + (1 : Int)) ∧ 
                                  (R1 [(V.c (C.bool b2)), (V.c (C.int IntKind.i64 (x3 + (1 : Int))))] m23))))))))))))))))))))))) (Q (V.c (C.bool false)) m9))))))))))) → 
            (R1 [(V.c (C.bool b2)), (V.c (C.int IntKind.i64 x3))] m4))))) → (R1 [(V.c (C.bool false)), (V.c (C.int IntKind.i64 (0 : Int)))] m0)))))) : Wc prog tbl 68 [(V.agg 5 [(C.int IntKind.i64 a100), (C.int IntKind.i64 a101), a102, (C.int IntKind.i64 a103), a104]), (V.c (C.int IntKind.i64 a200))] m Q :=
  wc_eq (n := 2) rfl (by kernel_rfl) (by kernel_rfl) h
theorem w82 {a100 : Int} {a101 : Int} {a102 : C} {a103 : Int} {a104 : C} {a105 : C} {a200 : C} {m : M} {Q : V → M → Prop} (h :
    (∀ m0 : M, ((m0 = (M.new m (AO.cells 6 [(C.int IntKind.i64 a100), (C.int IntKind.i64 a101), a102, (C.int IntKind.i64 a103), 
          a104, a105] false))) → (∀ m1 : M, ((m1 = (M.new m0 (AO.cells 1 [a200] false))) → (∀ m2 : M, ((m2 = (M.new m1 (AO.cells 2 [(C.int IntKind.i64 (0 : Int)), 
              (C.int IntKind.i64 (0 : Int))] false))) → (∀ m3 : M, ((m3 = (M.new m2 (AO.cells 1 [C.sl0] false))) → 
            (∃ x4 : Int, (∃ x5 : Int, (∃ c6 : C, (∃ x7 : Int, (∃ c8 : C, (∃ c9 : C, (((ldA m3 (C.ptr (m).nxt 0) 6) = (Option.some [(C.int IntKind.i64 x4), 
                      (C.int IntKind.i64 x5), c6, (C.int IntKind.i64 x7), c8, c9])) ∧ (Wc prog tbl 100 [(V.agg 6 [(C.int IntKind.i64 x4), 
                       (C.int IntKind.i64 x5), c6, (C.int IntKind.i64 x7), c8, c9])] m3 (fun v10 m11 => (∃ c12 : C, 
                      ((v10 = (V.c c12)) ∧ (rangeP prog tbl c12 m11 (fun l13 m14 R15 R16 => (∃ x17 : Int, (∃ x18 : Int, 
                           (∃ x19 : Int, (∃ x20 : Int, (∃ x21 : Int, (∃ x22 : Int, (∃ x23 : Int, (∃ x24 : Int, 
                                 (∃ x25 : Int, ((l13 = [(V.agg 9 [(C.int IntKind.i64 x17), (C.int IntKind.i64 x18), 
                                  (C.int IntKind.i64 x19), (C.int IntKind.i64 x20), (C.int IntKind.i64 x21), (C.int IntKind.i64 x22), 
                                  (C.int IntKind.i64 x23), (C.int IntKind.i64 x24), (C.int IntKind.i64 x25)])]) ∧ 
                                  (∀ m26 : M, ((m26 = (M.new m14 (AO.cells 9 [(C.int IntKind.i64 (0 : Int)), (C.int IntKind.i64 (0 : Int)), 
                                  (C.int IntKind.i64 (0 : Int)), (C.int IntKind.i64 (0 : Int)), (C.int IntKind.i64 (0 : Int)), 
                                  (C.int IntKind.i64 (0 : Int)), (C.int IntKind.i64 (0 : Int)), (C.int IntKind.i64 (0 : Int)), 
                                  (C.int IntKind.i64 (0 : Int))] false))) → (∃ m27 : M, (((stC m26 (C.ptr (m14).nxt 0) 9 [(C.int IntKind.i64 x17), 
                                  (C.int IntKind.i64 x18), (C.int IntKind.i64 x19), (C.int IntKind.i64 x20), (C.int IntKind.i64 x21), 
                                  (C.int IntKind.i64 x22), (C.int IntKind.i64 x23), (C.int IntKind.i64 x24), (C.int IntKind.i64 x25)]) = (Option.some m27)) ∧ 
                                  (R15 m27 (fun m28 => (∃ c29 : C, (((ldC m28 (C.ptr (m2).nxt 0)) = (Option.some c29)) ∧ 
                                  (isPt (C.ptr (m0).nxt 0) ∧ (∃ c30 : C, (((ldC m28 (C.ptr (m0).nxt 0)) = (Option.some c30)) ∧ 
                                  (∃ x31 : Int, (∃ x32 : Int, (∃ c33 : C, (∃ x34 : Int, (∃ c35 : C, (∃ c36 : C, 
                                  (((ldA m28 (C.ptr (m).nxt 0) 6) = (Option.some [(C.int IntKind.i64 x31), (C.int IntKind.i64 x32), 
                                  c33, (C.int IntKind.i64 x34), c35, c36])) ∧ (∃ x37 : Int, (∃ x38 : Int, (∃ x39 : Int, 
                                  (∃ x40 : Int, (∃ x41 : Int, (∃ x42 : Int, (∃ x43 : Int, (∃ x44 : Int, (∃ x45 : Int, 
                                  (((ldA m28 (C.ptr (m14).nxt 0) 9) = (Option.some [(C.int IntKind.i64 x37), (C.int IntKind.i64 x38), 
                                  (C.int IntKind.i64 x39), (C.int IntKind.i64 x40), (C.int IntKind.i64 x41), (C.int IntKind.i64 x42), 
                                  (C.int IntKind.i64 x43), (C.int IntKind.i64 x44), (C.int IntKind.i64 x45)])) ∧ 
                                  (callP prog tbl [(V.agg 6 [(C.int IntKind.i64 x31), (C.int IntKind.i64 x32), 
                                  c33, (C.int IntKind.i64 x34), c35, c36]), (V.agg 9 [(C.int IntKind.i64 x37), 
                                  (C.int IntKind.i64 x38), (C.int IntKind.i64 x39), (C.int IntKind.i64 x40), (C.int IntKind.i64 x41), 
                                  (C.int IntKind.i64 x42), (C.int IntKind.i64 x43), (C.int IntKind.i64 x44), (C.int IntKind.i64 x45)])] c30 m28 (fun v46 m47 => 
                                  (∃ x48 : Int, ((v46 = (V.c (C.int IntKind.i64 x48))) ∧ ((ifB (noFnC c29) ((ldC m47 (C.ptr (m2).nxt 0)) = (Option.some c29)) False) ∧ 
                                  (∀ m49 : M, ((m49 = (M.new m47 (AO.cells 1 [(C.int IntKind.i64 x48)] false))) → 
                                  ((ifB (noFnC c29) ((ldC m49 (C.ptr (m2).nxt 0)) = (Option.some c29)) False) ∧ 
                                  (∃ c50 : C, (∃ m51 : M, ((ApR prog 22 m49 c29 (C.sl (m47).nxt 0 1 0 (Option.some 1)) c50 m51) ∧ 
                                  (∃ m52 : M, (((stC m51 (C.ptr (m2).nxt 0) 1 [c50]) = (Option.some m52)) ∧ (R16 Ex.nrm m52))))))))))))))))))))))))))))))))))))))))))))))))))))) (After.mk (fun m53 => 
                          (∃ c54 : C, (((ldC m53 (C.ptr (m2).nxt 0)) = (Option.some c54)) ∧ (Wc prog tbl 101 [(V.c c54)] m53 (fun v55 m56 => 
                              (∃ x57 : Int, ((v55 = (V.c (C.int IntKind.i64 x57))) ∧ (∃ c58 : C, (((ldC m56 (C.ptr (m2).nxt 0)) = (Option.some c58)) ∧ 
                                  ((ifB (noFnC c58) ((ldC m53 (C.ptr (m2).nxt 0)) = (Option.some c58)) False) ∧ 
                                  (Wc prog tbl 102 [(V.c c58)] m56 (fun v59 m60 => (∃ x61 : Int, ((v59 = (V.c (C.int IntKind.i64 x61))) ∧ 
                                  (∃ m62 : M, (((stC m60 (C.ptr (m1).nxt 0) 2 [(C.int IntKind.i64 x57), (C.int IntKind.i64 x61)]) = (Option.some m62)) ∧ 
                                  (∃ x63 : Int, (∃ x64 : Int, (((ldA m62 (C.ptr (m1).nxt 0) 2) = (Option.some [(C.int IntKind.i64 x63), 
                                  (C.int IntKind.i64 x64)])) ∧ (Q (V.agg 2 [(C.int IntKind.i64 x63), (C.int IntKind.i64 x64)]) m62)))))))))))))))))))) [] (fun m65 => 
                          (∃ x66 : Int, (∃ x67 : Int, (((ldA m65 (C.ptr (m1).nxt 0) 2) = (Option.some [(C.int IntKind.i64 x66), 
                                (C.int IntKind.i64 x67)])) ∧ (Q (V.agg 2 [(C.int IntKind.i64 x66), (C.int IntKind.i64 x67)]) m65))))))))))))))))))))))))))) : Wc prog tbl 82 [(V.agg 6 [(C.int IntKind.i64 a100), (C.int IntKind.i64 a101), a102, (C.int IntKind.i64 a103), a104, a105]), (V.agg 1 [a200])] m Q :=
  wc_eq (n := 2) rfl (by kernel_rfl) (by kernel_rfl) h
theorem w85 {a100 : Int} {a101 : Int} {a102 : C} {a103 : Int} {a104 : C} {a105 : C} {a200 : Int} {a201 : Int} {a202 : Int} {a203 : Int} {a204 : Int} {a205 : Int} {a206 : Int} {a207 : Int} {a208 : Int} {m : M} {Q : V → M → Prop} (h :
    (∀ m0 : M, ((m0 = (M.new m (AO.cells 6 [(C.int IntKind.i64 a100), (C.int IntKind.i64 a101), a102, (C.int IntKind.i64 a103), 
          a104, a105] false))) → (∀ m1 : M, ((m1 = (M.new m0 (AO.cells 9 [(C.int IntKind.i64 a200), (C.int IntKind.i64 a201), 
            (C.int IntKind.i64 a202), (C.int IntKind.i64 a203), (C.int IntKind.i64 a204), (C.int IntKind.i64 a205), 
            (C.int IntKind.i64 a206), (C.int IntKind.i64 a207), (C.int IntKind.i64 a208)] false))) → False))))) : Wc prog tbl 85 [(V.agg 6 [(C.int IntKind.i64 a100), (C.int IntKind.i64 a101), a102, (C.int IntKind.i64 a103), a104, a105]), (V.agg 9 [(C.int IntKind.i64 a200), (C.int IntKind.i64 a201), (C.int IntKind.i64 a202), (C.int IntKind.i64 a203), (C.int IntKind.i64 a204), (C.int IntKind.i64 a205), (C.int IntKind.i64 a206), (C.int IntKind.i64 a207), (C.int IntKind.i64 a208)])] m Q :=
  wc_eq (n := 2) rfl (by kernel_rfl) (by kernel_rfl) h
theorem w91 {a100 : Int} {a101 : Int} {a102 : C} {a103 : Int} {a104 : C} {a105 : C} {a200 : C} {m : M} {Q : V → M → Prop} (h :
    (∀ m0 : M, ((m0 = (M.new m (AO.cells 6 [(C.int IntKind.i64 a100), (C.int IntKind.i64 a101), a102, (C.int IntKind.i64 a103), 
          a104, a105] false))) → (∀ m1 : M, ((m1 = (M.new m0 (AO.cells 1 [(C.bool false)] false))) → (∀ m2 : M, 
         ((m2 = (M.new m1 (AO.cells 6 [(C.bool false), (C.bool false), (C.bool false), (C.bool false), (C.bool false), 
              (C.bool false)] false))) → (isSl a200 ∧ (∀ R3 : List V → M → Prop, ((∀ x4 : Int, (∀ m5 : M, ((ifB (decide (x4 < (((slLen a200) : Nat) : Int))) (∃ n6 : Nat, 
                  ((x4 = ((n6 : Nat) : Int)) ∧ ((n6 < (slLen a200)) ∧ (∃ x7 : Int, (((ldC m5 (slAt a200 (n6 * 1))) = (Option.some (C.int IntKind.i64 x7))) ∧ 
                      (isPt (C.ptr (m1).nxt 0) ∧ (∃ n8 : Nat, ((x7 = ((n8 : Nat) : Int)) ∧ ((n8 < 6) ∧ (∃ m9 : M, 
                           (((stC m5 (C.ptr (m1).nxt (0 + (n8 * 1))) 1 [(C.bool true)]) = (Option.some m9)) ∧ (fitsP IntKind.i64 (x4 + (1 : Int)) ∧ 
                             (R3 [(V.c (C.int IntKind.i64 (x4 + (1 : Int))))] m9))))))))))))) (∃ x10 : Int, (∃ x11 : Int, 
                   (∃ c12 : C, (∃ x13 : Int, (∃ c14 : C, (∃ c15 : C, (((ldA m5 (C.ptr (m).nxt 0) 6) = (Option.some [(C.int IntKind.i64 x10), 
                           (C.int IntKind.i64 x11), c12, (C.int IntKind.i64 x13), c14, c15])) ∧ (∃ b16 : Bool, 
                         (∃ b17 : Bool, (∃ b18 : Bool, (∃ b19 : Bool, (∃ b20 : Bool, (∃ b21 : Bool, (((ldA m5 (C.ptr (m1).nxt 0) 6) = (Option.some [(C.bool b16), 
                                  (C.bool b17), (C.bool b18), (C.bool b19), (C.bool b20), (C.bool b21)])) ∧ (Wc prog tbl 108 [(V.agg 6 [(C.int IntKind.i64 x10), 
                                  (C.int IntKind.i64 x11), c12, (C.int IntKind.i64 x13), c14, c15]), (V.agg 6 [(C.bool b16), 
                                  (C.bool b17), (C.bool b18), (C.bool b19), (C.bool b20), (C.bool b21)])] m5 (fun v22 m23 => 
                                 (∃ c24 : C, ((v22 = (V.c c24)) ∧ (rangeP prog tbl c24 m23 (fun l25 m26 R27 R28 => 
                                  (∃ x29 : Int, (∃ x30 : Int, (∃ x31 : Int, (∃ x32 : Int, (∃ x33 : Int, (∃ x34 : Int, 
                                  (∃ x35 : Int, (∃ x36 : Int, (∃ x37 : Int, ((l25 = [(V.agg 9 [(C.int IntKind.i64 x29), 
                                  (C.int IntKind.i64 x30), (C.int IntKind.i64 x31), (C.int IntKind.i64 x32), (C.int IntKind.i64 x33), 
                                  (C.int IntKind.i64 x34), (C.int IntKind.i64 x35), (C.int IntKind.i64 x36), (C.int IntKind.i64 x37)])]) ∧ 
                                  (R27 m26 (fun m38 => (∃ m39 : M, (((stC m38 (C.ptr (m0).nxt 0) 1 [(C.bool true)]) = (Option.some m39)) ∧ 
                                  (R28 Ex.ret m39)))))))))))))))) (After.mk (fun m40 => (∃ m41 : M, (((stC m40 (C.ptr (m0).nxt 0) 1 [(C.bool false)]) = (Option.some m41)) ∧ 
                                  (∃ b42 : Bool, (((ldC m41 (C.ptr (m0).nxt 0)) = (Option.some (C.bool b42))) ∧ 
                                  (Q (V.c (C.bool b42)) m41)))))) [] (fun m43 => (∃ b44 : Bool, (((ldC m43 (C.ptr (m0).nxt 0)) = (Option.some (C.bool b44))) ∧ 
                                  (Q (V.c (C.bool b44)) m43))))))))))))))))))))))))) → (R3 [(V.c (C.int IntKind.i64 x4))] m5)))) → 
             (R3 [(V.c (C.int IntKind.i64 (0 : Int)))] m2))))))))))) : Wc prog tbl 91 [(V.agg 6 [(C.int IntKind.i64 a100), (C.int IntKind.i64 a101), a102, (C.int IntKind.i64 a103), a104, a105]), (V.c a200)] m Q :=
  wc_eq (n := 2) rfl (by kernel_rfl) (by kernel_rfl) h
theorem w101 {a100 : C} {m : M} {Q : V → M → Prop} (h :
    (isSl a100 ∧ (ifB (decide ((((slLen a100) : Nat) : Int) = (0 : Int))) (Q (V.c (C.int IntKind.i64 (0 : Int))) m) (∃ n0 : Nat, 
       (((0 : Int) = ((n0 : Nat) : Int)) ∧ ((n0 < (slLen a100)) ∧ (∃ x1 : Int, (((ldC m (slAt a100 (n0 * 1))) = (Option.some (C.int IntKind.i64 x1))) ∧ 
           (isSl a100 ∧ (∀ R2 : List V → M → Prop, ((∀ x3 : Int, (∀ x4 : Int, (∀ m5 : M, ((ifB (decide (x4 < (((slLen a100) : Nat) : Int))) (∃ n6 : Nat, 
                    ((x4 = ((n6 : Nat) : Int)) ∧ ((n6 < (slLen a100)) ∧ (∃ x7 : Int, (((ldC m5 (slAt a100 (n6 * 1))) = (Option.some (C.int IntKind.i64 x7))) ∧ 
                        (ifB (decide (x7 < x3)) (fitsP IntKind.i64 (x4 + (1 : Int)) ∧ (R2 [(V.c (C.int IntKind.i64 x7)), 
                            (V.c (C.int IntKind.i64 (x4 + (1 : Int))))] m5)) (fitsP IntKind.i64 (x4 + (1 : Int)) ∧ 
                          (R2 [(V.c (C.int IntKind.i64 x3)), (V.c (C.int IntKind.i64 (x4 + (1 : Int))))] m5)))))))) (Q (V.c (C.int IntKind.i64 x3)) m5)) → 
                  (R2 [(V.c (C.int IntKind.i64 x3)), (V.c (C.int IntKind.i64 x4))] m5))))) → (R2 [(V.c (C.int IntKind.i64 x1)), 
                (V.c (C.int IntKind.i64 (0 : Int)))] m)))))))))))) : Wc prog tbl 101 [(V.c a100)] m Q :=
  wc_eq (n := 1) rfl (by kernel_rfl) (by kernel_rfl) h
theorem w108 {a100 : Int} {a101 : Int} {a102 : C} {a103 : Int} {a104 : C} {a105 : C} {a200 : Bool} {a201 : Bool} {a202 : Bool} {a203 : Bool} {a204 : Bool} {a205 : Bool} {m : M} {Q : V → M → Prop} (h :
    (∀ m0 : M, ((m0 = (M.new m (AO.cells 6 [(C.int IntKind.i64 a100), (C.int IntKind.i64 a101), a102, (C.int IntKind.i64 a103), 
          a104, a105] false))) → (∀ m1 : M, ((m1 = (M.new m0 (AO.cells 6 [(C.bool a200), (C.bool a201), (C.bool a202), 
            (C.bool a203), (C.bool a204), (C.bool a205)] false))) → (Q (V.c (C.fn (Fn.func 120) [] [(W.c (C0.ptr (m).nxt 0)), 
            (W.c (C0.ptr (m0).nxt 0))])) m1)))))) : Wc prog tbl 108 [(V.agg 6 [(C.int IntKind.i64 a100), (C.int IntKind.i64 a101), a102, (C.int IntKind.i64 a103), a104, a105]), (V.agg 6 [(C.bool a200), (C.bool a201), (C.bool a202), (C.bool a203), (C.bool a204), (C.bool a205)])] m Q :=
  wc_eq (n := 2) rfl (by kernel_rfl) (by kernel_rfl) h

end
end Go.Proofs.Ytgkjfhkjgdiodaa

namespace Go.Proofs.Ytgkjfhkjgdiodaa
open _root_.Go.Proofs.Try
open Go.Abs
set_option maxRecDepth 100000
noncomputable section
theorem w41 {a100 : Int} {a101 : Int} {a102 : C} {a103 : Int} {a104 : C} {m : M} {Q : V → M → Prop} (h :
    (∀ m0 : M, ((m0 = (M.new m (AO.cells 5 [(C.int IntKind.i64 a100), (C.int IntKind.i64 a101), a102, (C.int IntKind.i64 a103), 
          a104] false))) → (∀ m1 : M, ((m1 = (M.new m0 (AO.cells 2 [(C.int IntKind.i64 (0 : Int)), (C.int IntKind.i64 (0 : Int))] false))) → 
        (∃ x2 : Int, (∃ x3 : Int, (∃ c4 : C, (∃ x5 : Int, (∃ c6 : C, (((ldA m1 (C.ptr (m).nxt 0) 5) = (Option.some [(C.int IntKind.i64 x2), 
                 (C.int IntKind.i64 x3), c4, (C.int IntKind.i64 x5), c6])) ∧ (Wc prog tbl 81 [(V.agg 5 [(C.int IntKind.i64 x2), 
                  (C.int IntKind.i64 x3), c4, (C.int IntKind.i64 x5), c6])] m1 (fun v7 m8 => (∃ x9 : Int, (∃ x10 : Int, 
                  (∃ c11 : C, (∃ x12 : Int, (∃ c13 : C, (∃ c14 : C, (∃ x15 : Int, ((v7 = (V.tup [(U.agg 6 [(C.int IntKind.i64 x9), 
                             (C.int IntKind.i64 x10), c11, (C.int IntKind.i64 x12), c13, c14]), (U.c (C.int IntKind.i64 x15))])) ∧ 
                        (∀ m16 : M, ((m16 = (M.new m8 (AO.cells 6 [(C.int IntKind.i64 (0 : Int)), (C.int IntKind.i64 (0 : Int)), 
                              C.sl0, (C.int IntKind.i64 (0 : Int)), C.sl0, C.map0] false))) → (∃ m17 : M, (((stC m16 (C.ptr (m8).nxt 0) 6 [(C.int IntKind.i64 x9), 
                               (C.int IntKind.i64 x10), c11, (C.int IntKind.i64 x12), c13, c14]) = (Option.some m17)) ∧ 
                            (ifB (!decide (x15 = (0 : Int))) (∃ m18 : M, (((stC m17 (C.ptr (m0).nxt 0) 2 [(C.int IntKind.i64 (0 : Int)), 
                                  (C.int IntKind.i64 (0 : Int))]) = (Option.some m18)) ∧ (∃ x19 : Int, (∃ x20 : Int, 
                                 (((ldA m18 (C.ptr (m0).nxt 0) 2) = (Option.some [(C.int IntKind.i64 x19), (C.int IntKind.i64 x20)])) ∧ 
                                  (Q (V.tup [(U.agg 2 [(C.int IntKind.i64 x19), (C.int IntKind.i64 x20)]), (U.c (C.int IntKind.i64 x15))]) m18)))))) (∃ x21 : Int, 
                              (∃ x22 : Int, (∃ c23 : C, (∃ x24 : Int, (∃ c25 : C, (∃ c26 : C, (((ldA m17 (C.ptr (m8).nxt 0) 6) = (Option.some [(C.int IntKind.i64 x21), 
                                  (C.int IntKind.i64 x22), c23, (C.int IntKind.i64 x24), c25, c26])) ∧ (Wc prog tbl 82 [(V.agg 6 [(C.int IntKind.i64 x21), 
                                  (C.int IntKind.i64 x22), c23, (C.int IntKind.i64 x24), c25, c26]), (V.agg 1 [(C.fn (Fn.methodOf 114 "hailstone/frame.share") [] [])])] m17 (fun v27 m28 => 
                                  (∃ x29 : Int, (∃ x30 : Int, ((v27 = (V.agg 2 [(C.int IntKind.i64 x29), (C.int IntKind.i64 x30)])) ∧ 
                                  (∃ m31 : M, (((stC m28 (C.ptr (m0).nxt 0) 2 [(C.int IntKind.i64 x29), (C.int IntKind.i64 x30)]) = (Option.some m31)) ∧ 
                                  (∃ x32 : Int, (∃ x33 : Int, (((ldA m31 (C.ptr (m0).nxt 0) 2) = (Option.some [(C.int IntKind.i64 x32), 
                                  (C.int IntKind.i64 x33)])) ∧ (Q (V.tup [(U.agg 2 [(C.int IntKind.i64 x32), (C.int IntKind.i64 x33)]), 
                                  (U.c (C.int IntKind.i64 (0 : Int)))]) m31)))))))))))))))))))))))))))))))))))))))))))) : Wc prog tbl 41 [(V.agg 5 [(C.int IntKind.i64 a100), (C.int IntKind.i64 a101), a102, (C.int IntKind.i64 a103), a104])] m Q :=
  wc_eq (n := 1) rfl (by kernel_rfl) (by kernel_rfl) h
theorem w48 {a100 : Int} {a101 : Int} {a102 : C} {a103 : Int} {a104 : C} {a200 : Int} {m : M} {Q : V → M → Prop} (h :
    (∀ m0 : M, ((m0 = (M.new m (AO.cells 5 [(C.int IntKind.i64 a100), (C.int IntKind.i64 a101), a102, (C.int IntKind.i64 a103), 
          a104] false))) → (∃ x1 : Int, (∃ x2 : Int, (∃ c3 : C, (∃ x4 : Int, (∃ c5 : C, (((ldA m0 (C.ptr (m).nxt 0) 5) = (Option.some [(C.int IntKind.i64 x1), 
               (C.int IntKind.i64 x2), c3, (C.int IntKind.i64 x4), c5])) ∧ (Wc prog tbl 83 [(V.agg 5 [(C.int IntKind.i64 x1), 
                (C.int IntKind.i64 x2), c3, (C.int IntKind.i64 x4), c5]), (V.c (C.int IntKind.i64 a200)), (V.c (C.fn (Fn.func 86) [] []))] m0 (fun v6 m7 => 
              (∃ x8 : Int, (∃ x9 : Int, (∃ c10 : C, (∃ x11 : Int, (∃ c12 : C, (∃ c13 : C, (∃ x14 : Int, ((v6 = (V.tup [(U.agg 6 [(C.int IntKind.i64 x8), 
                           (C.int IntKind.i64 x9), c10, (C.int IntKind.i64 x11), c12, c13]), (U.c (C.int IntKind.i64 x14))])) ∧ 
                      (∀ m15 : M, ((m15 = (M.new m7 (AO.cells 6 [(C.int IntKind.i64 (0 : Int)), (C.int IntKind.i64 (0 : Int)), 
                            C.sl0, (C.int IntKind.i64 (0 : Int)), C.sl0, C.map0] false))) → (∃ m16 : M, (((stC m15 (C.ptr (m7).nxt 0) 6 [(C.int IntKind.i64 x8), 
                             (C.int IntKind.i64 x9), c10, (C.int IntKind.i64 x11), c12, c13]) = (Option.some m16)) ∧ 
                          (ifB (!decide (x14 = (0 : Int))) (Q (V.tup [(U.c (C.int IntKind.i64 (0 : Int))), (U.c (C.int IntKind.i64 x14))]) m16) (∃ x17 : Int, 
                            (∃ x18 : Int, (∃ c19 : C, (∃ x20 : Int, (∃ c21 : C, (∃ c22 : C, (((ldA m16 (C.ptr (m7).nxt 0) 6) = (Option.some [(C.int IntKind.i64 x17), 
                                  (C.int IntKind.i64 x18), c19, (C.int IntKind.i64 x20), c21, c22])) ∧ (Wc prog tbl 82 [(V.agg 6 [(C.int IntKind.i64 x17), 
                                  (C.int IntKind.i64 x18), c19, (C.int IntKind.i64 x20), c21, c22]), (V.agg 1 [(C.fn (Fn.methodOf 114 "hailstone/frame.share") [] [])])] m16 (fun v23 m24 => 
                                  (∃ x25 : Int, (∃ x26 : Int, ((v23 = (V.agg 2 [(C.int IntKind.i64 x25), (C.int IntKind.i64 x26)])) ∧ 
                                  (∀ m27 : M, ((m27 = (M.new m24 (AO.cells 2 [(C.int IntKind.i64 (0 : Int)), (C.int IntKind.i64 (0 : Int))] false))) → 
                                  (∃ m28 : M, (((stC m27 (C.ptr (m24).nxt 0) 2 [(C.int IntKind.i64 x25), (C.int IntKind.i64 x26)]) = (Option.some m28)) ∧ 
                                  (isPt (C.ptr (m24).nxt 0) ∧ (∃ x29 : Int, (((ldC m28 (C.ptr (m24).nxt 0)) = (Option.some (C.int IntKind.i64 x29))) ∧ 
                                  (ifB (decide (a200 ≤ x29)) (Q (V.tup [(U.c (C.int IntKind.i64 (1 : Int))), (U.c (C.int IntKind.i64 (0 : Int)))]) m28) (isPt (C.ptr (m24).nxt 0) ∧ 
                                  (∃ x30 : Int, (((ldC m28 (C.ptr (m24).nxt 1)) = (Option.some (C.int IntKind.i64 x30))) ∧ 
                                  (ifB (decide (x30 < a200)) (Q (V.tup [(U.c (C.int IntKind.i64 (2 : Int))), (U.c (C.int IntKind.i64 (0 : Int)))]) m28) (Q (V.tup [(U.c (C.int IntKind.i64 (3 : Int))), 
                                  (U.c (C.int IntKind.i64 (0 : Int)))]) m28))))))))))))))))))))))))))))))))))))))))))))))))) : Wc prog tbl 48 [(V.agg 5 [(C.int IntKind.i64 a100), (C.int IntKind.i64 a101), a102, (C.int IntKind.i64 a103), a104]), (V.c (C.int IntKind.i64 a200))] m Q :=
  wc_eq (n := 2) rfl (by kernel_rfl) (by kernel_rfl) h
theorem w5 {a100 : Int} {a101 : Int} {a102 : C} {a103 : Int} {a104 : C} {a200 : Int} {m : M} {Q : V → M → Prop} (h :
    (∀ m0 : M, ((m0 = (M.new m (AO.cells 5 [(C.int IntKind.i64 a100), (C.int IntKind.i64 a101), a102, (C.int IntKind.i64 a103), 
          a104] false))) → (∃ x1 : Int, (∃ x2 : Int, (∃ c3 : C, (∃ x4 : Int, (∃ c5 : C, (((ldA m0 (C.ptr (m).nxt 0) 5) = (Option.some [(C.int IntKind.i64 x1), 
               (C.int IntKind.i64 x2), c3, (C.int IntKind.i64 x4), c5])) ∧ (Wc prog tbl 19 [(V.agg 5 [(C.int IntKind.i64 x1), 
                (C.int IntKind.i64 x2), c3, (C.int IntKind.i64 x4), c5])] m0 (fun v6 m7 => (∃ b8 : Bool, ((v6 = (V.c (C.bool b8))) ∧ 
                (ifB (!b8) (Wc prog tbl 20 [] m7 (fun v9 m10 => (∃ b11 : Bool, ((v9 = (V.c (C.bool b11))) ∧ (Q (V.c (C.bool b11)) m10))))) (∃ x12 : Int, 
                  (∃ x13 : Int, (∃ c14 : C, (∃ x15 : Int, (∃ c16 : C, (((ldA m7 (C.ptr (m).nxt 0) 5) = (Option.some [(C.int IntKind.i64 x12), 
                          (C.int IntKind.i64 x13), c14, (C.int IntKind.i64 x15), c16])) ∧ (Wc prog tbl 33 [(V.agg 5 [(C.int IntKind.i64 x12), 
                           (C.int IntKind.i64 x13), c14, (C.int IntKind.i64 x15), c16])] m7 (fun v17 m18 => (∃ x19 : Int, 
                          (∃ x20 : Int, (∃ c21 : C, (∃ x22 : Int, (∃ c23 : C, ((v17 = (V.agg 5 [(C.int IntKind.i64 x19), 
                                  (C.int IntKind.i64 x20), c21, (C.int IntKind.i64 x22), c23])) ∧ (Wc prog tbl 41 [(V.agg 5 [(C.int IntKind.i64 x19), 
                                  (C.int IntKind.i64 x20), c21, (C.int IntKind.i64 x22), c23])] m18 (fun v24 m25 => 
                                 (∃ x26 : Int, (∃ x27 : Int, (∃ x28 : Int, ((v24 = (V.tup [(U.agg 2 [(C.int IntKind.i64 x26), 
                                  (C.int IntKind.i64 x27)]), (U.c (C.int IntKind.i64 x28))])) ∧ (∀ m29 : M, ((m29 = (M.new m25 (AO.cells 2 [(C.int IntKind.i64 (0 : Int)), 
                                  (C.int IntKind.i64 (0 : Int))] false))) → (∃ m30 : M, (((stC m29 (C.ptr (m25).nxt 0) 2 [(C.int IntKind.i64 x26), 
                                  (C.int IntKind.i64 x27)]) = (Option.some m30)) ∧ (∃ x31 : Int, (∃ x32 : Int, 
                                  (∃ c33 : C, (∃ x34 : Int, (∃ c35 : C, (((ldA m30 (C.ptr (m).nxt 0) 5) = (Option.some [(C.int IntKind.i64 x31), 
                                  (C.int IntKind.i64 x32), c33, (C.int IntKind.i64 x34), c35])) ∧ (Wc prog tbl 33 [(V.agg 5 [(C.int IntKind.i64 x31), 
                                  (C.int IntKind.i64 x32), c33, (C.int IntKind.i64 x34), c35])] m30 (fun v36 m37 => 
                                  (∃ x38 : Int, (∃ x39 : Int, (∃ c40 : C, (∃ x41 : Int, (∃ c42 : C, ((v36 = (V.agg 5 [(C.int IntKind.i64 x38), 
                                  (C.int IntKind.i64 x39), c40, (C.int IntKind.i64 x41), c42])) ∧ (Wc prog tbl 42 [(V.agg 5 [(C.int IntKind.i64 x38), 
                                  (C.int IntKind.i64 x39), c40, (C.int IntKind.i64 x41), c42]), (V.c (C.int IntKind.i64 a200))] m37 (fun v43 m44 => 
                                  (∃ x45 : Int, (∃ x46 : Int, (∃ x47 : Int, ((v43 = (V.tup [(U.agg 2 [(C.int IntKind.i64 x45), 
                                  (C.int IntKind.i64 x46)]), (U.c (C.int IntKind.i64 x47))])) ∧ (∀ m48 : M, ((m48 = (M.new m44 (AO.cells 2 [(C.int IntKind.i64 (0 : Int)), 
                                  (C.int IntKind.i64 (0 : Int))] false))) → (∃ m49 : M, (((stC m48 (C.ptr (m44).nxt 0) 2 [(C.int IntKind.i64 x45), 
                                  (C.int IntKind.i64 x46)]) = (Option.some m49)) ∧ (∃ x50 : Int, (∃ x51 : Int, 
                                  (∃ c52 : C, (∃ x53 : Int, (∃ c54 : C, (((ldA m49 (C.ptr (m).nxt 0) 5) = (Option.some [(C.int IntKind.i64 x50), 
                                  (C.int IntKind.i64 x51), c52, (C.int IntKind.i64 x53), c54])) ∧ (Wc prog tbl 43 [(V.agg 5 [(C.int IntKind.i64 x50), 
                                  (C.int IntKind.i64 x51), c52, (C.int IntKind.i64 x53), c54])] m49 (fun v55 m56 => 
                                  (∃ c57 : C, (∃ x58 : Int, ((v55 = (V.tup [(U.c c57), (U.c (C.int IntKind.i64 x58))])) ∧ 
                                  (∃ x59 : Int, (∃ x60 : Int, (∃ c61 : C, (∃ x62 : Int, (∃ c63 : C, (((ldA m56 (C.ptr (m).nxt 0) 5) = (Option.some [(C.int IntKind.i64 x59), 
                                  (C.int IntKind.i64 x60), c61, (C.int IntKind.i64 x62), c63])) ∧ (Wc prog tbl 36 [(V.agg 5 [(C.int IntKind.i64 x59), 
                                  (C.int IntKind.i64 x60), c61, (C.int IntKind.i64 x62), c63])] m56 (fun v64 m65 => 
                                  (∃ x66 : Int, ((v64 = (V.c (C.int IntKind.i64 x66))) ∧ (ifB (decide (x66 = (0 : Int))) (isPt (C.ptr (m).nxt 0) ∧ 
                                  (isPt (C.ptr (m).nxt 0) ∧ (∃ c67 : C, (((ldC m65 (C.ptr (m).nxt 2)) = (Option.some c67)) ∧ 
                                  (isSl c67 ∧ (fitsP IntKind.i64 ((((slLen c67) : Nat) : Int) - (1 : Int)) ∧ (Wc prog tbl 44 [(V.c (C.int IntKind.i64 a200)), 
                                  (V.c (C.int IntKind.i64 (0 : Int))), (V.c (C.int IntKind.i64 ((((slLen c67) : Nat) : Int) - (1 : Int))))] m65 (fun v68 m69 => 
                                  (∃ b70 : Bool, ((v68 = (V.c (C.bool b70))) ∧ (ifB (!b70) (ifB (!decide (x28 = x58)) (Q (V.c (C.bool false)) m69) (ifB (!decide (x47 = (2 : Int))) (Q (V.c (C.bool false)) m69) (ifB (decide (x58 = (0 : Int))) (∃ x71 : Int, 
                                  (∃ x72 : Int, (((ldA m69 (C.ptr (m25).nxt 0) 2) = (Option.some [(C.int IntKind.i64 x71), 
                                  (C.int IntKind.i64 x72)])) ∧ (∃ x73 : Int, (∃ x74 : Int, (∃ c75 : C, (∃ x76 : Int, 
                                  (∃ c77 : C, (((ldA m69 (C.ptr (m).nxt 0) 5) = (Option.some [(C.int IntKind.i64 x73), 
                                  (C.int IntKind.i64 x74), c75, (C.int IntKind.i64 x76), c77])) ∧ (Wc prog tbl 46 [(V.agg 5 [(C.int IntKind.i64 x73), 
                                  (C.int IntKind.i64 x74), c75, (C.int IntKind.i64 x76), c77]), (V.c c57)] m69 (fun v78 m79 => 
                                  (∃ x80 : Int, (∃ x81 : Int, ((v78 = (V.agg 2 [(C.int IntKind.i64 x80), (C.int IntKind.i64 x81)])) ∧ 
                                  (((ldA m79 (C.ptr (m25).nxt 0) 2) = (Option.some [(C.int IntKind.i64 x71), (C.int IntKind.i64 x72)])) ∧ 
                                  (Wc prog tbl 45 [(V.agg 2 [(C.int IntKind.i64 x80), (C.int IntKind.i64 x81)])] m79 (fun v82 m83 => 
                                  (∃ x84 : Int, (∃ x85 : Int, ((v82 = (V.agg 2 [(C.int IntKind.i64 x84), (C.int IntKind.i64 x85)])) ∧ 
                                  (((ldA m83 (C.ptr (m25).nxt 0) 2) = (Option.some [(C.int IntKind.i64 x71), (C.int IntKind.i64 x72)])) ∧ 
                                  (fitsP IntKind.i64 x71 ∧ (fitsP IntKind.i64 x84 ∧ (fitsP IntKind.i64 x72 ∧ (fitsP IntKind.i64 x85 ∧ 
                                  (ifB (!((decide (x71 = x84)) && (decide (x72 = x85)))) (Q (V.c (C.bool false)) m83) (ifB (!decide (x58 = (0 : Int))) (∃ x86 : Int, 
                                  (∃ x87 : Int, (((ldA m83 (C.ptr (m25).nxt 0) 2) = (Option.some [(C.int IntKind.i64 x86), 
                                  (C.int IntKind.i64 x87)])) ∧ (fitsP IntKind.i64 x86 ∧ (fitsP IntKind.i64 (0 : Int) ∧ 
                                  (fitsP IntKind.i64 x87 ∧ (fitsP IntKind.i64 (0 : Int) ∧ (ifB (!((decide (x86 = (0 : Int))) && (decide (x87 = (0 : Int))))) (Q (V.c (C.bool false)) m83) (∃ x88 : Int, 
                                  (∃ x89 : Int, (((ldA m83 (C.ptr (m44).nxt 0) 2) = (Option.some [(C.int IntKind.i64 x88), 
                                  (C.int IntKind.i64 x89)])) ∧ (fitsP IntKind.i64 x88 ∧ (fitsP IntKind.i64 (0 : Int) ∧ 
                                  (fitsP IntKind.i64 x89 ∧ (fitsP IntKind.i64 (0 : Int) ∧ (ifB ((decide (x88 = (0 : Int))) && (decide (x89 = (0 : Int)))) (Wc prog tbl 20 [] m83 (fun v90 m91 => 
                                  (∃ b92 : Bool, ((v90 = (V.c (C.bool b92))) ∧ (Q (V.c (C.bool b92)) m91))))) (Q (V.c (C.bool false)) m83))))))))))))))))) (∃ x93 : Int, 
                                  (∃ x94 : Int, (((ldA m83 (C.ptr (m44).nxt 0) 2) = (Option.some [(C.int IntKind.i64 x93), 
                                  (C.int IntKind.i64 x94)])) ∧ (fitsP IntKind.i64 x93 ∧ (fitsP IntKind.i64 (0 : Int) ∧ 
                                  (fitsP IntKind.i64 x94 ∧ (fitsP IntKind.i64 (0 : Int) ∧ (ifB ((decide (x93 = (0 : Int))) && (decide (x94 = (0 : Int)))) (Wc prog tbl 20 [] m83 (fun v95 m96 => 
                                  (∃ b97 : Bool, ((v95 = (V.c (C.bool b97))) ∧ (Q (V.c (C.bool b97)) m96))))) (Q (V.c (C.bool false)) m83)))))))))))))))))))))))))))))))))))) (ifB (!decide (x58 = (0 : Int))) (∃ x98 : Int, 
                                  (∃ x99 : Int, (((ldA m69 (C.ptr (m25).nxt 0) 2) = (Option.some [(C.int IntKind.i64 x98), 
                                  (C.int IntKind.i64 x99)])) ∧ (fitsP IntKind.i64 x98 ∧ (fitsP IntKind.i64 (0 : Int) ∧ 
                                  (fitsP IntKind.i64 x99 ∧ (fitsP IntKind.i64 (0 : Int) ∧ (ifB (!((decide (x98 = (0 : Int))) && (decide (x99 = (0 : Int))))) (Q (V.c (C.bool false)) m69) (∃ x100 : Int, 
                                  (∃ x101 : Int, (((ldA m69 (C.ptr (m44).nxt 0) 2) = (Option.some [(C.int IntKind.i64 x100), 
                                  (C.int IntKind.i64 x101)])) ∧ (fitsP IntKind.i64 x100 ∧ (fitsP IntKind.i64 (0 : Int) ∧ 
                                  (fitsP IntKind.i64 x101 ∧ (fitsP IntKind.i64 (0 : Int) ∧ (ifB ((decide (x100 = (0 : Int))) && (decide (x101 = (0 : Int)))) (Wc prog tbl 20 [] m69 (fun v102 m103 => 
                                  (∃ b104 : Bool, ((v102 = (V.c (C.bool b104))) ∧ (Q (V.c (C.bool b104)) m103))))) (Q (V.c (C.bool false)) m69))))))))))))))))) (∃ x105 : Int, 
                                  (∃ x106 : Int, (((ldA m69 (C.ptr (m44).nxt 0) 2) = (Option.some [(C.int IntKind.i64 x105), 
                                  (C.int IntKind.i64 x106)])) ∧ (fitsP IntKind.i64 x105 ∧ (fitsP IntKind.i64 (0 : Int) ∧ 
                                  (fitsP IntKind.i64 x106 ∧ (fitsP IntKind.i64 (0 : Int) ∧ (ifB ((decide (x105 = (0 : Int))) && (decide (x106 = (0 : Int)))) (Wc prog tbl 20 [] m69 (fun v107 m108 => 
                                  (∃ b109 : Bool, ((v107 = (V.c (C.bool b109))) ∧ (Q (V.c (C.bool b109)) m108))))) (Q (V.c (C.bool false)) m69))))))))))))) (ifB (!decide (x28 = x58)) (Q (V.c (C.bool false)) m69) (ifB (!decide (x47 = x58)) (Q (V.c (C.bool false)) m69) (ifB (decide (x58 = (0 : Int))) (∃ x110 : Int, 
                                  (∃ x111 : Int, (((ldA m69 (C.ptr (m25).nxt 0) 2) = (Option.some [(C.int IntKind.i64 x110), 
                                  (C.int IntKind.i64 x111)])) ∧ (∃ x112 : Int, (∃ x113 : Int, (∃ c114 : C, (∃ x115 : Int, 
                                  (∃ c116 : C, (((ldA m69 (C.ptr (m).nxt 0) 5) = (Option.some [(C.int IntKind.i64 x112), 
                                  (C.int IntKind.i64 x113), c114, (C.int IntKind.i64 x115), c116])) ∧ (Wc prog tbl 46 [(V.agg 5 [(C.int IntKind.i64 x112), 
                                  (C.int IntKind.i64 x113), c114, (C.int IntKind.i64 x115), c116]), (V.c c57)] m69 (fun v117 m118 => 
                                  (∃ x119 : Int, (∃ x120 : Int, ((v117 = (V.agg 2 [(C.int IntKind.i64 x119), (C.int IntKind.i64 x120)])) ∧ 
                                  (((ldA m118 (C.ptr (m25).nxt 0) 2) = (Option.some [(C.int IntKind.i64 x110), 
                                  (C.int IntKind.i64 x111)])) ∧ (Wc prog tbl 45 [(V.agg 2 [(C.int IntKind.i64 x119), 
                                  (C.int IntKind.i64 x120)])] m118 (fun v121 m122 => (∃ x123 : Int, (∃ x124 : Int, 
                                  ((v121 = (V.agg 2 [(C.int IntKind.i64 x123), (C.int IntKind.i64 x124)])) ∧ (((ldA m122 (C.ptr (m25).nxt 0) 2) = (Option.some [(C.int IntKind.i64 x110), 
                                  (C.int IntKind.i64 x111)])) ∧ (fitsP IntKind.i64 x110 ∧ (fitsP IntKind.i64 x123 ∧ 
                                  (fitsP IntKind.i64 x111 ∧ (fitsP IntKind.i64 x124 ∧ (ifB (!((decide (x110 = x123)) && (decide (x111 = x124)))) (Q (V.c (C.bool false)) m122) (ifB (!decide (x58 = (0 : Int))) (∃ x125 : Int, 
                                  (∃ x126 : Int, (((ldA m122 (C.ptr (m25).nxt 0) 2) = (Option.some [(C.int IntKind.i64 x125), 
                                  (C.int IntKind.i64 x126)])) ∧ (fitsP IntKind.i64 x125 ∧ (fitsP IntKind.i64 (0 : Int) ∧ 
                                  (fitsP IntKind.i64 x126 ∧ (fitsP IntKind.i64 (0 : Int) ∧ (ifB (!((decide (x125 = (0 : Int))) && (decide (x126 = (0 : Int))))) (Q (V.c (C.bool false)) m122) (ifB (!decide (x58 = (0 : Int))) (∃ x127 : Int, 
                                  (∃ x128 : Int, (((ldA m122 (C.ptr (m44).nxt 0) 2) = (Option.some [(C.int IntKind.i64 x127), 
                                  (C.int IntKind.i64 x128)])) ∧ (fitsP IntKind.i64 x127 ∧ (fitsP IntKind.i64 (0 : Int) ∧ 
                                  (fitsP IntKind.i64 x128 ∧ (fitsP IntKind.i64 (0 : Int) ∧ (ifB ((decide (x127 = (0 : Int))) && (decide (x128 = (0 : Int)))) (Wc prog tbl 20 [] m122 (fun v129 m130 => 
                                  (∃ b131 : Bool, ((v129 = (V.c (C.bool b131))) ∧ (Q (V.c (C.bool b131)) m130))))) (Q (V.c (C.bool false)) m122))))))))) (∃ x132 : Int, 
                                  (∃ x133 : Int, (((ldA m122 (C.ptr (m44).nxt 0) 2) = (Option.some [(C.int IntKind.i64 x132), 
                                  (C.int IntKind.i64 x133)])) ∧ (∃ x134 : Int, (∃ x135 : Int, (∃ c136 : C, (∃ x137 : Int, 
                                  (∃ c138 : C, (((ldA m122 (C.ptr (m).nxt 0) 5) = (Option.some [(C.int IntKind.i64 x134), 
                                  (C.int IntKind.i64 x135), c136, (C.int IntKind.i64 x137), c138])) ∧ (Wc prog tbl 47 [(V.agg 5 [(C.int IntKind.i64 x134), 
                                  (C.int IntKind.i64 x135), c136, (C.int IntKind.i64 x137), c138]), (V.c c57), 
                                  (V.c (C.int IntKind.i64 a200))] m122 (fun v139 m140 => (∃ x141 : Int, (∃ x142 : Int, 
                                  ((v139 = (V.agg 2 [(C.int IntKind.i64 x141), (C.int IntKind.i64 x142)])) ∧ (((ldA m140 (C.ptr (m44).nxt 0) 2) = (Option.some [(C.int IntKind.i64 x132), 
                                  (C.int IntKind.i64 x133)])) ∧ (Wc prog tbl 45 [(V.agg 2 [(C.int IntKind.i64 x141), 
                                  (C.int IntKind.i64 x142)])] m140 (fun v143 m144 => (∃ x145 : Int, (∃ x146 : Int, 
                                  ((v143 = (V.agg 2 [(C.int IntKind.i64 x145), (C.int IntKind.i64 x146)])) ∧ (((ldA m144 (C.ptr (m44).nxt 0) 2) = (Option.some [(C.int IntKind.i64 x132), 
                                  (C.int IntKind.i64 x133)])) ∧ (fitsP IntKind.i64 x132 ∧ (fitsP IntKind.i64 x145 ∧ 
                                  (fitsP IntKind.i64 x133 ∧ (fitsP IntKind.i64 x146 ∧ (ifB ((decide (x132 = x145)) && (decide (x133 = x146))) (Wc prog tbl 20 [] m144 (fun v147 m148 => 
                                  (∃ b149 : Bool, ((v147 = (V.c (C.bool b149))) ∧ (Q (V.c (C.bool b149)) m148))))) (Q (V.c (C.bool false)) m144)))))))))))))))))))))))))))))))))))) (ifB (!decide (x58 = (0 : Int))) (∃ x150 : Int, 
                                  (∃ x151 : Int, (((ldA m122 (C.ptr (m44).nxt 0) 2) = (Option.some [(C.int IntKind.i64 x150), 
                                  (C.int IntKind.i64 x151)])) ∧ (fitsP IntKind.i64 x150 ∧ (fitsP IntKind.i64 (0 : Int) ∧ 
                                  (fitsP IntKind.i64 x151 ∧ (fitsP IntKind.i64 (0 : Int) ∧ (ifB ((decide (x150 = (0 : Int))) && (decide (x151 = (0 : Int)))) (Wc prog tbl 20 [] m122 (fun v152 m153 => 
                                  (∃ b154 : Bool, ((v152 = (V.c (C.bool b154))) ∧ (Q (V.c (C.bool b154)) m153))))) (Q (V.c (C.bool false)) m122))))))))) (∃ x155 : Int, 
                                  (∃ x156 : Int, (((ldA m122 (C.ptr (m44).nxt 0) 2) = (Option.some [(C.int IntKind.i64 x155), 
                                  (C.int IntKind.i64 x156)])) ∧ (∃ x157 : Int, (∃ x158 : Int, (∃ c159 : C, (∃ x160 : Int, 
                                  (∃ c161 : C, (((ldA m122 (C.ptr (m).nxt 0) 5) = (Option.some [(C.int IntKind.i64 x157), 
                                  (C.int IntKind.i64 x158), c159, (C.int IntKind.i64 x160), c161])) ∧ (Wc prog tbl 47 [(V.agg 5 [(C.int IntKind.i64 x157), 
                                  (C.int IntKind.i64 x158), c159, (C.int IntKind.i64 x160), c161]), (V.c c57), 
                                  (V.c (C.int IntKind.i64 a200))] m122 (fun v162 m163 => (∃ x164 : Int, (∃ x165 : Int, 
                                  ((v162 = (V.agg 2 [(C.int IntKind.i64 x164), (C.int IntKind.i64 x165)])) ∧ (((ldA m163 (C.ptr (m44).nxt 0) 2) = (Option.some [(C.int IntKind.i64 x155), 
                                  (C.int IntKind.i64 x156)])) ∧ (Wc prog tbl 45 [(V.agg 2 [(C.int IntKind.i64 x164), 
                                  (C.int IntKind.i64 x165)])] m163 (fun v166 m167 => (∃ x168 : Int, (∃ x169 : Int, 
                                  ((v166 = (V.agg 2 [(C.int IntKind.i64 x168), (C.int IntKind.i64 x169)])) ∧ (((ldA m167 (C.ptr (m44).nxt 0) 2) = (Option.some [(C.int IntKind.i64 x155), 
                                  (C.int IntKind.i64 x156)])) ∧ (fitsP IntKind.i64 x155 ∧ (fitsP IntKind.i64 x168 ∧ 
                                  (fitsP IntKind.i64 x156 ∧ (fitsP IntKind.i64 x169 ∧ (ifB ((decide (x155 = x168)) && (decide (x156 = x169))) (Wc prog tbl 20 [] m167 (fun v170 m171 => 
                                  (∃ b172 : Bool, ((v170 = (V.c (C.bool b172))) ∧ (Q (V.c (C.bool b172)) m171))))) (Q (V.c (C.bool false)) m167))))))))))))))))))))))))))))))))))))))))))))))))))))))) (ifB (!decide (x58 = (0 : Int))) (∃ x173 : Int, 
                                  (∃ x174 : Int, (((ldA m69 (C.ptr (m25).nxt 0) 2) = (Option.some [(C.int IntKind.i64 x173), 
                                  (C.int IntKind.i64 x174)])) ∧ (fitsP IntKind.i64 x173 ∧ (fitsP IntKind.i64 (0 : Int) ∧ 
                                  (fitsP IntKind.i64 x174 ∧ (fitsP IntKind.i64 (0 : Int) ∧ (ifB (!((decide (x173 = (0 : Int))) && (decide (x174 = (0 : Int))))) (Q (V.c (C.bool false)) m69) (ifB (!decide (x58 = (0 : Int))) (∃ x175 : Int, 
                                  (∃ x176 : Int, (((ldA m69 (C.ptr (m44).nxt 0) 2) = (Option.some [(C.int IntKind.i64 x175), 
                                  (C.int IntKind.i64 x176)])) ∧ (fitsP IntKind.i64 x175 ∧ (fitsP IntKind.i64 (0 : Int) ∧ 
                                  (fitsP IntKind.i64 x176 ∧ (fitsP IntKind.i64 (0 : Int) ∧ (ifB ((decide (x175 = (0 : Int))) && (decide (x176 = (0 : Int)))) (Wc prog tbl 20 [] m69 (fun v177 m178 => 
                                  (∃ b179 : Bool, ((v177 = (V.c (C.bool b179))) ∧ (Q (V.c (C.bool b179)) m178))))) (Q (V.c (C.bool false)) m69))))))))) (∃ x180 : Int, 
                                  (∃ x181 : Int, (((ldA m69 (C.ptr (m44).nxt 0) 2) = (Option.some [(C.int IntKind.i64 x180), 
                                  (C.int IntKind.i64 x181)])) ∧ (∃ x182 : Int, (∃ x183 : Int, (∃ c184 : C, (∃ x185 : Int, 
                                  (∃ c186 : C, (((ldA m69 (C.ptr (m).nxt 0) 5) = (Option.some [(C.int IntKind.i64 x182), 
                                  (C.int IntKind.i64 x183), c184, (C.int IntKind.i64 x185), c186])) ∧ (Wc prog tbl 47 [(V.agg 5 [(C.int IntKind.i64 x182), 
                                  (C.int IntKind.i64 x183), c184, (C.int IntKind.i64 x185), c186]), (V.c c57), 
                                  (V.c (C.int IntKind.i64 a200))] m69 (fun v187 m188 => (∃ x189 : Int, (∃ x190 : Int, 
                                  ((v187 = (V.agg 2 [(C.int IntKind.i64 x189), (C.int IntKind.i64 x190)])) ∧ (((ldA m188 (C.ptr (m44).nxt 0) 2) = (Option.some [(C.int IntKind.i64 x180), 
                                  (C.int IntKind.i64 x181)])) ∧ (Wc prog tbl 45 [(V.agg 2 [(C.int IntKind.i64 x189), 
                                  (C.int IntKind.i64 x190)])] m188 (fun v191 m192 => (∃ x193 : Int, (∃ x194 : Int, 
                                  ((v191 = (V.agg 2 [(C.int IntKind.i64 x193), (C.int IntKind.i64 x194)])) ∧ (((ldA m192 (C.ptr (m44).nxt 0) 2) = (Option.some [(C.int IntKind.i64 x180), 
                                  (C.int IntKind.i64 x181)])) ∧ (fitsP IntKind.i64 x180 ∧ (fitsP IntKind.i64 x193 ∧ 
                                  (fitsP IntKind.i64 x181 ∧ (fitsP IntKind.i64 x194 ∧ (ifB ((decide (x180 = x193)) && (decide (x181 = x194))) (Wc prog tbl 20 [] m192 (fun v195 m196 => 
                                  (∃ b197 : Bool, ((v195 = (V.c (C.bool b197))) ∧ (Q (V.c (C.bool b197)) m196))))) (Q (V.c (C.bool false)) m192)))))))))))))))))))))))))))))))))))) (ifB (!decide (x58 = (0 : Int))) (∃ x198 : Int, 
                                  (∃ x199 : Int, (((ldA m69 (C.ptr (m44).nxt 0) 2) = (Option.some [(C.int IntKind.i64 x198), 
                                  (C.int IntKind.i64 x199)])) ∧ (fitsP IntKind.i64 x198 ∧ (fitsP IntKind.i64 (0 : Int) ∧ 
                                  (fitsP IntKind.i64 x199 ∧ (fitsP IntKind.i64 (0 : Int) ∧ (ifB ((decide (x198 = (0 : Int))) && (decide (x199 = (0 : Int)))) (Wc prog tbl 20 [] m69 (fun v200 m201 => 
                                  (∃ b202 : Bool, ((v200 = (V.c (C.bool b202))) ∧ (Q (V.c (C.bool b202)) m201))))) (Q (V.c (C.bool false)) m69))))))))) (∃ x203 : Int, 
                                  (∃ x204 : Int, (((ldA m69 (C.ptr (m44).nxt 0) 2) = (Option.some [(C.int IntKind.i64 x203), 
                                  (C.int IntKind.i64 x204)])) ∧ (∃ x205 : Int, (∃ x206 : Int, (∃ c207 : C, (∃ x208 : Int, 
                                  (∃ c209 : C, (((ldA m69 (C.ptr (m).nxt 0) 5) = (Option.some [(C.int IntKind.i64 x205), 
                                  (C.int IntKind.i64 x206), c207, (C.int IntKind.i64 x208), c209])) ∧ (Wc prog tbl 47 [(V.agg 5 [(C.int IntKind.i64 x205), 
                                  (C.int IntKind.i64 x206), c207, (C.int IntKind.i64 x208), c209]), (V.c c57), 
                                  (V.c (C.int IntKind.i64 a200))] m69 (fun v210 m211 => (∃ x212 : Int, (∃ x213 : Int, 
                                  ((v210 = (V.agg 2 [(C.int IntKind.i64 x212), (C.int IntKind.i64 x213)])) ∧ (((ldA m211 (C.ptr (m44).nxt 0) 2) = (Option.some [(C.int IntKind.i64 x203), 
                                  (C.int IntKind.i64 x204)])) ∧ (Wc prog tbl 45 [(V.agg 2 [(C.int IntKind.i64 x212), 
                                  (C.int IntKind.i64 x213)])] m211 (fun v214 m215 => (∃ x216 : Int, (∃ x217 : Int, 
                                  ((v214 = (V.agg 2 [(C.int IntKind.i64 x216), (C.int IntKind.i64 x217)])) ∧ (((ldA m215 (C.ptr (m44).nxt 0) 2) = (Option.some [(C.int IntKind.i64 x203), 
                                  (C.int IntKind.i64 x204)])) ∧ (fitsP IntKind.i64 x203 ∧ (fitsP IntKind.i64 x216 ∧ 
                                  (fitsP IntKind.i64 x204 ∧ (fitsP IntKind.i64 x217 ∧ (ifB ((decide (x203 = x216)) && (decide (x204 = x217))) (Wc prog tbl 20 [] m215 (fun v218 m219 => 
                                  (∃ b220 : Bool, ((v218 = (V.c (C.bool b220))) ∧ (Q (V.c (C.bool b220)) m219))))) (Q (V.c (C.bool false)) m215))))))))))))))))))))))))))))))))))))))))))) (ifB (!decide (x28 = x58)) (Q (V.c (C.bool false)) m65) (ifB (!decide (x47 = x58)) (Q (V.c (C.bool false)) m65) (ifB (decide (x58 = (0 : Int))) (∃ x221 : Int, 
                                  (∃ x222 : Int, (((ldA m65 (C.ptr (m25).nxt 0) 2) = (Option.some [(C.int IntKind.i64 x221), 
                                  (C.int IntKind.i64 x222)])) ∧ (∃ x223 : Int, (∃ x224 : Int, (∃ c225 : C, (∃ x226 : Int, 
                                  (∃ c227 : C, (((ldA m65 (C.ptr (m).nxt 0) 5) = (Option.some [(C.int IntKind.i64 x223), 
                                  (C.int IntKind.i64 x224), c225, (C.int IntKind.i64 x226), c227])) ∧ (Wc prog tbl 46 [(V.agg 5 [(C.int IntKind.i64 x223), 
                                  (C.int IntKind.i64 x224), c225, (C.int IntKind.i64 x226), c227]), (V.c c57)] m65 (fun v228 m229 => 
                                  (∃ x230 : Int, (∃ x231 : Int, ((v228 = (V.agg 2 [(C.int IntKind.i64 x230), (C.int IntKind.i64 x231)])) ∧ 
                                  (((ldA m229 (C.ptr (m25).nxt 0) 2) = (Option.some [(C.int IntKind.i64 x221), 
                                  (C.int IntKind.i64 x222)])) ∧ (Wc prog tbl 45 [(V.agg 2 [(C.int IntKind.i64 x230), 
                                  (C.int IntKind.i64 x231)])] m229 (fun v232 m233 => (∃ x234 : Int, (∃ x235 : Int, 
                                  ((v232 = (V.agg 2 [(C.int IntKind.i64 x234), (C.int IntKind.i64 x235)])) ∧ (((ldA m233 (C.ptr (m25).nxt 0) 2) = (Option.some [(C.int IntKind.i64 x221), 
                                  (C.int IntKind.i64 x222)])) ∧ (fitsP IntKind.i64 x221 ∧ (fitsP IntKind.i64 x234 ∧ 
                                  (fitsP IntKind.i64 x222 ∧ (fitsP IntKind.i64 x235 ∧ (ifB (!((decide (x221 = x234)) && (decide (x222 = x235)))) (Q (V.c (C.bool false)) m233) (ifB (!decide (x58 = (0 : Int))) (∃ x236 : Int, 
                                  (∃ x237 : Int, (((ldA m233 (C.ptr (m25).nxt 0) 2) = (Option.some [(C.int IntKind.i64 x236), 
                                  (C.int IntKind.i64 x237)])) ∧ (fitsP IntKind.i64 x236 ∧ (fitsP IntKind.i64 (0 : Int) ∧ 
                                  (fitsP IntKind.i64 x237 ∧ (fitsP IntKind.i64 (0 : Int) ∧ (ifB (!((decide (x236 = (0 : Int))) && (decide (x237 = (0 : Int))))) (Q (V.c (C.bool false)) m233) (ifB (!decide (x58 = (0 : Int))) (∃ x238 : Int, 
                                  (∃ x239 : Int, (((ldA m233 (C.ptr (m44).nxt 0) 2) = (Option.some [(C.int IntKind.i64 x238), 
                                  (C.int IntKind.i64 x239)])) ∧ (fitsP IntKind.i64 x238 ∧ (fitsP IntKind.i64 (0 : Int) ∧ 
                                  (fitsP IntKind.i64 x239 ∧ (fitsP IntKind.i64 (0 : Int) ∧ (ifB ((decide (x238 = (0 : Int))) && (decide (x239 = (0 : Int)))) (Wc prog tbl 20 [] m233 (fun v240 m241 => 
                                  (∃ b242 : Bool, ((v240 = (V.c (C.bool b242))) ∧ (Q (V.c (C.bool b242)) m241))))) (Q (V.c (C.bool false)) m233))))))))) (∃ x243 : Int, 
                                  (∃ x244 : Int, (((ldA m233 (C.ptr (m44).nxt 0) 2) = (Option.some [(C.int IntKind.i64 x243), 
                                  (C.int IntKind.i64 x244)])) ∧ (∃ x245 : Int, (∃ x246 : Int, (∃ c247 : C, (∃ x248 : Int, 
                                  (∃ c249 : C, (((ldA m233 (C.ptr (m).nxt 0) 5) = (Option.some [(C.int IntKind.i64 x245), 
                                  (C.int IntKind.i64 x246), c247, (C.int IntKind.i64 x248), c249])) ∧ (Wc prog tbl 47 [(V.agg 5 [(C.int IntKind.i64 x245), 
                                  (C.int IntKind.i64 x246), c247, (C.int IntKind.i64 x248), c249]), (V.c c57), 
                                  (V.c (C.int IntKind.i64 a200))] m233 (fun v250 m251 => (∃ x252 : Int, (∃ x253 : Int, 
                                  ((v250 = (V.agg 2 [(C.int IntKind.i64 x252), (C.int IntKind.i64 x253)])) ∧ (((ldA m251 (C.ptr (m44).nxt 0) 2) = (Option.some [(C.int IntKind.i64 x243), 
                                  (C.int IntKind.i64 x244)])) ∧ (Wc prog tbl 45 [(V.agg 2 [(C.int IntKind.i64 x252), 
                                  (C.int IntKind.i64 x253)])] m251 (fun v254 m255 => (∃ x256 : Int, (∃ x257 : Int, 
                                  ((v254 = (V.agg 2 [(C.int IntKind.i64 x256), (C.int IntKind.i64 x257)])) ∧ (((ldA m255 (C.ptr (m44).nxt 0) 2) = (Option.some [(C.int IntKind.i64 x243), 
                                  (C.int IntKind.i64 x244)])) ∧ (fitsP IntKind.i64 x243 ∧ (fitsP IntKind.i64 x256 ∧ 
                                  (fitsP IntKind.i64 x244 ∧ (fitsP IntKind.i64 x257 ∧ (ifB ((decide (x243 = x256)) && (decide (x244 = x257))) (Wc prog tbl 20 [] m255 (fun v258 m259 => 
                                  (∃ b260 : Bool, ((v258 = (V.c (C.bool b260))) ∧ (Q (V.c (C.bool b260)) m259))))) (Q (V.c (C.bool false)) m255)))))))))))))))))))))))))))))))))))) (ifB (!decide (x58 = (0 : Int))) (∃ x261 : Int, 
                                  (∃ x262 : Int, (((ldA m233 (C.ptr (m44).nxt 0) 2) = (Option.some [(C.int IntKind.i64 x261), 
                                  (C.int IntKind.i64 x262)])) ∧ (fitsP IntKind.i64 x261 ∧ (fitsP IntKind.i64 (0 : Int) ∧ 
                                  (fitsP IntKind.i64 x262 ∧ (fitsP IntKind.i64 (0 : Int) ∧ (ifB ((decide (x261 = (0 : Int))) && (decide (x262 = (0 : Int)))) (Wc prog tbl 20 [] m233 (fun v263 m264 => 
                                  (∃ b265 : Bool, ((v263 = (V.c (C.bool b265))) ∧ (Q (V.c (C.bool b265)) m264))))) (Q (V.c (C.bool false)) m233))))))))) (∃ x266 : Int, 
                                  (∃ x267 : Int, (((ldA m233 (C.ptr (m44).nxt 0) 2) = (Option.some [(C.int IntKind.i64 x266), 
                                  (C.int IntKind.i64 x267)])) ∧ (∃ x268 : Int, (∃ x269 : Int, (∃ c270 : C, (∃ x271 : Int, 
                                  (∃ c272 : C, (((ldA m233 (C.ptr (m).nxt 0) 5) = (Option.some [(C.int IntKind.i64 x268), 
                                  (C.int IntKind.i64 x269), c270, (C.int IntKind.i64 x271), c272])) ∧ (Wc prog tbl 47 [(V.agg 5 [(C.int IntKind.i64 x268), 
                                  (C.int IntKind.i64 x269), c270, (C.int IntKind.i64 x271), c272]), (V.c c57), 
                                  (V.c (C.int IntKind.i64 a200))] m233 (fun v273 m274 => (∃ x275 : Int, (∃ x276 : Int, 
                                  ((v273 = (V.agg 2 [(C.int IntKind.i64 x275), (C.int IntKind.i64 x276)])) ∧ (((ldA m274 (C.ptr (m44).nxt 0) 2) = (Option.some [(C.int IntKind.i64 x266), 
                                  (C.int IntKind.i64 x267)])) ∧ (Wc prog tbl 45 [(V.agg 2 [(C.int IntKind.i64 x275), 
                                  (C.int IntKind.i64 x276)])] m274 (fun v277 m278 => (∃ x279 : Int, (∃ x280 : Int, 
                                  ((v277 = (V.agg 2 [(C.int IntKind.i64 x279), (C.int IntKind.i64 x280)])) ∧ (((ldA m278 (C.ptr (m44).nxt 0) 2) = (Option.some [(C.int IntKind.i64 x266), 
                                  (C.int IntKind.i64 x267)])) ∧ (fitsP IntKind.i64 x266 ∧ (fitsP IntKind.i64 x279 ∧ 
                                  (fitsP IntKind.i64 x267 ∧ (fitsP IntKind.i64 x280 ∧ (ifB ((decide (x266 = x279)) && (decide (x267 = x280))) (Wc prog tbl 20 [] m278 (fun v281 m282 => 
                                  (∃ b283 : Bool, ((v281 = (V.c (C.bool b283))) ∧ (Q (V.c (C.bool b283)) m282))))) (Q (V.c (C.bool false)) m278))))))))))))))))))))))))))))))))))))))))))))))))))))))) (ifB (!decide (x58 = (0 : Int))) (∃ x284 : Int, 
                                  (∃ x285 : Int, (((ldA m65 (C.ptr (m25).nxt 0) 2) = (Option.some [(C.int IntKind.i64 x284), 
                                  (C.int IntKind.i64 x285)])) ∧ (fitsP IntKind.i64 x284 ∧ (fitsP IntKind.i64 (0 : Int) ∧ 
                                  (fitsP IntKind.i64 x285 ∧ (fitsP IntKind.i64 (0 : Int) ∧ (ifB (!((decide (x284 = (0 : Int))) && (decide (x285 = (0 : Int))))) (Q (V.c (C.bool false)) m65) (ifB (!decide (x58 = (0 : Int))) (∃ x286 : Int, 
                                  (∃ x287 : Int, (((ldA m65 (C.ptr (m44).nxt 0) 2) = (Option.some [(C.int IntKind.i64 x286), 
                                  (C.int IntKind.i64 x287)])) ∧ (fitsP IntKind.i64 x286 ∧ (fitsP IntKind.i64 (0 : Int) ∧ 
                                  (fitsP IntKind.i64 x287 ∧ (fitsP IntKind.i64 (0 : Int) ∧ (ifB ((decide (x286 = (0 : Int))) && (decide (x287 = (0 : Int)))) (Wc prog tbl 20 [] m65 (fun v288 m289 => 
                                  (∃ b290 : Bool, ((v288 = (V.c (C.bool b290))) ∧ (Q (V.c (C.bool b290)) m289))))) (Q (V.c (C.bool false)) m65))))))))) (∃ x291 : Int, 
                                  (∃ x292 : Int, (((ldA m65 (C.ptr (m44).nxt 0) 2) = (Option.some [(C.int IntKind.i64 x291), 
                                  (C.int IntKind.i64 x292)])) ∧ (∃ x293 : Int, (∃ x294 : Int, (∃ c295 : C, (∃ x296 : Int, 
                                  (∃ c297 : C, (((ldA m65 (C.ptr (m).nxt 0) 5) = (Option.some [(C.int IntKind.i64 x293), 
                                  (C.int IntKind.i64 x294), c295, (C.int IntKind.i64 x296), c297])) ∧ (Wc prog tbl 47 [(V.agg 5 [(C.int IntKind.i64 x293), 
                                  (C.int IntKind.i64 x294), c295, (C.int IntKind.i64 x296), c297]), (V.c c57), 
                                  (V.c (C.int IntKind.i64 a200))] m65 (fun v298 m299 => (∃ x300 : Int, (∃ x301 : Int, 
                                  ((v298 = (V.agg 2 [(C.int IntKind.i64 x300), (C.int IntKind.i64 x301)])) ∧ (((ldA m299 (C.ptr (m44).nxt 0) 2) = (Option.some [(C.int IntKind.i64 x291), 
                                  (C.int IntKind.i64 x292)])) ∧ (Wc prog tbl 45 [(V.agg 2 [(C.int IntKind.i64 x300), 
                                  (C.int IntKind.i64 x301)])] m299 (fun v302 m303 => (∃ x304 : Int, (∃ x305 : Int, 
                                  ((v302 = (V.agg 2 [(C.int IntKind.i64 x304), (C.int IntKind.i64 x305)])) ∧ (((ldA m303 (C.ptr (m44).nxt 0) 2) = (Option.some [(C.int IntKind.i64 x291), 
                                  (C.int IntKind.i64 x292)])) ∧ (fitsP IntKind.i64 x291 ∧ (fitsP IntKind.i64 x304 ∧ 
                                  (fitsP IntKind.i64 x292 ∧ (fitsP IntKind.i64 x305 ∧ (ifB ((decide (x291 = x304)) && (decide (x292 = x305))) (Wc prog tbl 20 [] m303 (fun v306 m307 => 
                                  (∃ b308 : Bool, ((v306 = (V.c (C.bool b308))) ∧ (Q (V.c (C.bool b308)) m307))))) (Q (V.c (C.bool false)) m303)))))))))))))))))))))))))))))))))))) (ifB (!decide (x58 = (0 : Int))) (∃ x309 : Int, 
                                  (∃ x310 : Int, (((ldA m65 (C.ptr (m44).nxt 0) 2) = (Option.some [(C.int IntKind.i64 x309), 
                                  (C.int IntKind.i64 x310)])) ∧ (fitsP IntKind.i64 x309 ∧ (fitsP IntKind.i64 (0 : Int) ∧ 
                                  (fitsP IntKind.i64 x310 ∧ (fitsP IntKind.i64 (0 : Int) ∧ (ifB ((decide (x309 = (0 : Int))) && (decide (x310 = (0 : Int)))) (Wc prog tbl 20 [] m65 (fun v311 m312 => 
                                  (∃ b313 : Bool, ((v311 = (V.c (C.bool b313))) ∧ (Q (V.c (C.bool b313)) m312))))) (Q (V.c (C.bool false)) m65))))))))) (∃ x314 : Int, 
                                  (∃ x315 : Int, (((ldA m65 (C.ptr (m44).nxt 0) 2) = (Option.some [(C.int IntKind.i64 x314), 
                                  (C.int IntKind.i64 x315)])) ∧ (∃ x316 : Int, (∃ x317 : Int, (∃ c318 : C, (∃ x319 : Int, 
                                  (∃ c320 : C, (((ldA m65 (C.ptr (m).nxt 0) 5) = (Option.some [(C.int IntKind.i64 x316), 
                                  (C.int IntKind.i64 x317), c318, (C.int IntKind.i64 x319), c320])) ∧ (Wc prog tbl 47 [(V.agg 5 [(C.int IntKind.i64 x316), 
                                  (C.int IntKind.i64 x317), c318, (C.int IntKind.i64 x319), c320]), (V.c c57), 
                                  (V.c (C.int IntKind.i64 a200))] m65 (fun v321 m322 => (∃ x323 : Int, (∃ x324 : Int, 
                                  ((v321 = (V.agg 2 [(C.int IntKind.i64 x323), (C.int IntKind.i64 x324)])) ∧ (((ldA m322 (C.ptr (m44).nxt 0) 2) = (Option.some [(C.int IntKind.i64 x314), 
                                  (C.int IntKind.i64 x315)])) ∧ (Wc prog tbl 45 [(V.agg 2 [(C.int IntKind.i64 x323), 
                                  (C.int IntKind.i64 x324)])] m322 (fun v325 m326 => (∃ x327 : Int, (∃ x328 : Int, 
                                  ((v325 = (V.agg 2 [(C.int IntKind.i64 x327), (C.int IntKind.i64 x328)])) ∧ (((ldA m326 (C.ptr (m44).nxt 0) 2) = (Option.some [(C.int IntKind.i64 x314), 
                                  (C.int IntKind.i64 x315)])) ∧ (fitsP IntKind.i64 x314 ∧ (fitsP IntKind.i64 x327 ∧ 
                                  (fitsP IntKind.i64 x315 ∧ (fitsP IntKind.i64 x328 ∧ (ifB ((decide (x314 = x327)) && (decide (x315 = x328))) (Wc prog tbl 20 [] m326 (fun v329 m330 => 
                                  (∃ b331 : Bool, ((v329 = (V.c (C.bool b331))) ∧ (Q (V.c (C.bool b331)) m330))))) (Q (V.c (C.bool false)) m326)))))))))))))))))))))))))))))))))))))))))))))))))))))))))))))))))))))))))))))))))))))))))))))))))))))))))))))))))))) : Wc prog tbl 5 [(V.agg 5 [(C.int IntKind.i64 a100), (C.int IntKind.i64 a101), a102, (C.int IntKind.i64 a103), a104]), (V.c (C.int IntKind.i64 a200))] m Q :=
  wc_eq (n := 2) rfl (by kernel_rfl) (by kernel_rfl) h
theorem w16 {a100 : Int} {a101 : Int} {a102 : C} {a103 : Int} {a104 : C} {a200 : Int} {a300 : Int} {m : M} {Q : V → M → Prop} (h :
    (∀ m0 : M, ((m0 = (M.new m (AO.cells 5 [(C.int IntKind.i64 a100), (C.int IntKind.i64 a101), a102, (C.int IntKind.i64 a103), 
          a104] false))) → (∃ x1 : Int, (∃ x2 : Int, (∃ c3 : C, (∃ x4 : Int, (∃ c5 : C, (((ldA m0 (C.ptr (m).nxt 0) 5) = (Option.some [(C.int IntKind.i64 x1), 
               (C.int IntKind.i64 x2), c3, (C.int IntKind.i64 x4), c5])) ∧ (Wc prog tbl 62 [(V.agg 5 [(C.int IntKind.i64 x1), 
                (C.int IntKind.i64 x2), c3, (C.int IntKind.i64 x4), c5])] m0 (fun v6 m7 => (∃ b8 : Bool, ((v6 = (V.c (C.bool b8))) ∧ 
                (ifB (!b8) (Wc prog tbl 20 [] m7 (fun v9 m10 => (∃ b11 : Bool, ((v9 = (V.c (C.bool b11))) ∧ (Q (V.c (C.bool b11)) m10))))) (((0 : Int) ≤ (wrapZ IntKind.i64 a200)) ∧ 
                  (((0 : Int) < (101 : Int)) ∧ (fitsP IntKind.i64 ((wrapZ IntKind.i64 a200) % (101 : Int)) ∧ (((0 : Int) ≤ (wrapZ IntKind.i64 a300)) ∧ 
                     (((0 : Int) < (30 : Int)) ∧ (fitsP IntKind.i64 ((wrapZ IntKind.i64 a300) % (30 : Int)) ∧ (fitsP IntKind.i64 (((wrapZ IntKind.i64 a200) % (101 : Int)) + ((wrapZ IntKind.i64 a300) % (30 : Int))) ∧ 
                        (∃ x12 : Int, (∃ x13 : Int, (∃ c14 : C, (∃ x15 : Int, (∃ c16 : C, (((ldA m7 (C.ptr (m).nxt 0) 5) = (Option.some [(C.int IntKind.i64 x12), 
                                 (C.int IntKind.i64 x13), c14, (C.int IntKind.i64 x15), c16])) ∧ (Wc prog tbl 33 [(V.agg 5 [(C.int IntKind.i64 x12), 
                                  (C.int IntKind.i64 x13), c14, (C.int IntKind.i64 x15), c16])] m7 (fun v17 m18 => 
                                (∃ x19 : Int, (∃ x20 : Int, (∃ c21 : C, (∃ x22 : Int, (∃ c23 : C, ((v17 = (V.agg 5 [(C.int IntKind.i64 x19), 
                                  (C.int IntKind.i64 x20), c21, (C.int IntKind.i64 x22), c23])) ∧ (Wc prog tbl 48 [(V.agg 5 [(C.int IntKind.i64 x19), 
                                  (C.int IntKind.i64 x20), c21, (C.int IntKind.i64 x22), c23]), (V.c (C.int IntKind.i64 ((wrapZ IntKind.i64 a200) % (101 : Int))))] m18 (fun v24 m25 => 
                                  (∃ x26 : Int, (∃ x27 : Int, ((v24 = (V.tup [(U.c (C.int IntKind.i64 x26)), (U.c (C.int IntKind.i64 x27))])) ∧ 
                                  (∃ x28 : Int, (∃ x29 : Int, (∃ c30 : C, (∃ x31 : Int, (∃ c32 : C, (((ldA m25 (C.ptr (m).nxt 0) 5) = (Option.some [(C.int IntKind.i64 x28), 
                                  (C.int IntKind.i64 x29), c30, (C.int IntKind.i64 x31), c32])) ∧ (Wc prog tbl 33 [(V.agg 5 [(C.int IntKind.i64 x28), 
                                  (C.int IntKind.i64 x29), c30, (C.int IntKind.i64 x31), c32])] m25 (fun v33 m34 => 
                                  (∃ x35 : Int, (∃ x36 : Int, (∃ c37 : C, (∃ x38 : Int, (∃ c39 : C, ((v33 = (V.agg 5 [(C.int IntKind.i64 x35), 
                                  (C.int IntKind.i64 x36), c37, (C.int IntKind.i64 x38), c39])) ∧ (Wc prog tbl 48 [(V.agg 5 [(C.int IntKind.i64 x35), 
                                  (C.int IntKind.i64 x36), c37, (C.int IntKind.i64 x38), c39]), (V.c (C.int IntKind.i64 (Min.min (100 : Int) (((wrapZ IntKind.i64 a200) % (101 : Int)) + ((wrapZ IntKind.i64 a300) % (30 : Int))))))] m34 (fun v40 m41 => 
                                  (∃ x42 : Int, (∃ x43 : Int, ((v40 = (V.tup [(U.c (C.int IntKind.i64 x42)), (U.c (C.int IntKind.i64 x43))])) ∧ 
                                  (∃ x44 : Int, (∃ x45 : Int, (∃ c46 : C, (∃ x47 : Int, (∃ c48 : C, (((ldA m41 (C.ptr (m).nxt 0) 5) = (Option.some [(C.int IntKind.i64 x44), 
                                  (C.int IntKind.i64 x45), c46, (C.int IntKind.i64 x47), c48])) ∧ (Wc prog tbl 33 [(V.agg 5 [(C.int IntKind.i64 x44), 
                                  (C.int IntKind.i64 x45), c46, (C.int IntKind.i64 x47), c48])] m41 (fun v49 m50 => 
                                  (∃ x51 : Int, (∃ x52 : Int, (∃ c53 : C, (∃ x54 : Int, (∃ c55 : C, ((v49 = (V.agg 5 [(C.int IntKind.i64 x51), 
                                  (C.int IntKind.i64 x52), c53, (C.int IntKind.i64 x54), c55])) ∧ (Wc prog tbl 48 [(V.agg 5 [(C.int IntKind.i64 x51), 
                                  (C.int IntKind.i64 x52), c53, (C.int IntKind.i64 x54), c55]), (V.c (C.int IntKind.i64 (0 : Int)))] m50 (fun v56 m57 => 
                                  (∃ x58 : Int, (∃ x59 : Int, ((v56 = (V.tup [(U.c (C.int IntKind.i64 x58)), (U.c (C.int IntKind.i64 x59))])) ∧ 
                                  (ifB (decide (x27 = (0 : Int))) (ifB (decide (x43 = (0 : Int))) (ifB (decide (x59 = (0 : Int))) (ifB (decide (x58 = (1 : Int))) (ifB (!decide (x42 = (1 : Int))) (ifB (!decide (x26 = (2 : Int))) (Wc prog tbl 20 [] m57 (fun v60 m61 => 
                                  (∃ b62 : Bool, ((v60 = (V.c (C.bool b62))) ∧ (Q (V.c (C.bool b62)) m61))))) (ifB (decide (x42 = (2 : Int))) (Wc prog tbl 20 [] m57 (fun v63 m64 => 
                                  (∃ b65 : Bool, ((v63 = (V.c (C.bool b65))) ∧ (Q (V.c (C.bool b65)) m64))))) (Q (V.c (C.bool false)) m57))) (ifB (decide (x26 = (1 : Int))) (ifB (!decide (x26 = (2 : Int))) (Wc prog tbl 20 [] m57 (fun v66 m67 => 
                                  (∃ b68 : Bool, ((v66 = (V.c (C.bool b68))) ∧ (Q (V.c (C.bool b68)) m67))))) (ifB (decide (x42 = (2 : Int))) (Wc prog tbl 20 [] m57 (fun v69 m70 => 
                                  (∃ b71 : Bool, ((v69 = (V.c (C.bool b71))) ∧ (Q (V.c (C.bool b71)) m70))))) (Q (V.c (C.bool false)) m57))) (Q (V.c (C.bool false)) m57))) (Q (V.c (C.bool false)) m57)) (Q (V.c (C.bool false)) m57)) (Q (V.c (C.bool false)) m57)) (Q (V.c (C.bool false)) m57)))))))))))))))))))))))))))))))))))))))))))))))))))))))))))))))))))))))))))))))) : Wc prog tbl 16 [(V.agg 5 [(C.int IntKind.i64 a100), (C.int IntKind.i64 a101), a102, (C.int IntKind.i64 a103), a104]), (V.c (C.int IntKind.u8 a200)), (V.c (C.int IntKind.u8 a300))] m Q :=
  wc_eq (n := 3) rfl (by kernel_rfl) (by kernel_rfl) h

end
end Go.Proofs.Ytgkjfhkjgdiodaa
