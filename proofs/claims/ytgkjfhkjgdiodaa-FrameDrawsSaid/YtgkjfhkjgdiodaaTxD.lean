/- What functions of the program ask and do. Condition: none; a lemma text of this claim. -/
import Derived.Test.YtgkjfhkjgdiodaaSpC
import Derived.KernelRfl
namespace Go.Proofs.Ytgkjfhkjgdiodaa
open _root_.Go.Proofs.Try
open Go.Abs
set_option maxRecDepth 100000
noncomputable section
theorem w11 {a100 : Int} {a101 : Int} {a102 : C} {a200 : Int} {a201 : Int} {a202 : Int} {m : M} {Q : V → M → Prop} (h :
    (∀ m0 : M, ((m0 = (M.new m (AO.cells 3 [(C.int IntKind.i64 a100), (C.int IntKind.i64 a101), a102] false))) → (∀ m1 : M, 
       ((m1 = (M.new m0 (AO.cells 3 [(C.int IntKind.i64 a200), (C.int IntKind.i64 a201), (C.int IntKind.i64 a202)] false))) → 
        (isPt (C.ptr (m).nxt 0) ∧ (∃ c2 : C, (((ldC m1 (C.ptr (m).nxt 2)) = (Option.some c2)) ∧ (isSl c2 ∧ (ifB (decide ((12 : Int) < (((slLen c2) : Nat) : Int))) (Wc prog tbl 20 [] m1 (fun v3 m4 => 
               (∃ b5 : Bool, ((v3 = (V.c (C.bool b5))) ∧ (Q (V.c (C.bool b5)) m4))))) (∃ x6 : Int, (∃ x7 : Int, 
               (∃ c8 : C, (((ldA m1 (C.ptr (m).nxt 0) 3) = (Option.some [(C.int IntKind.i64 x6), (C.int IntKind.i64 x7), 
                    c8])) ∧ (Wc prog tbl 26 [(V.agg 3 [(C.int IntKind.i64 x6), (C.int IntKind.i64 x7), c8])] m1 (fun v9 m10 => 
                   (∃ b11 : Bool, ((v9 = (V.c (C.bool b11))) ∧ (ifB (!b11) (Wc prog tbl 20 [] m10 (fun v12 m13 => 
                        (∃ b14 : Bool, ((v12 = (V.c (C.bool b14))) ∧ (Q (V.c (C.bool b14)) m13))))) (∃ x15 : Int, 
                       (∃ x16 : Int, (∃ c17 : C, (((ldA m10 (C.ptr (m).nxt 0) 3) = (Option.some [(C.int IntKind.i64 x15), 
                             (C.int IntKind.i64 x16), c17])) ∧ (∃ x18 : Int, (∃ x19 : Int, (∃ x20 : Int, (((ldA m10 (C.ptr (m0).nxt 0) 3) = (Option.some [(C.int IntKind.i64 x18), 
                                 (C.int IntKind.i64 x19), (C.int IntKind.i64 x20)])) ∧ (Wc prog tbl 28 [(V.agg 3 [(C.int IntKind.i64 x15), 
                                  (C.int IntKind.i64 x16), c17]), (V.agg 3 [(C.int IntKind.i64 x18), (C.int IntKind.i64 x19), 
                                  (C.int IntKind.i64 x20)])] m10 (fun v21 m22 => (∃ b23 : Bool, ((v21 = (V.c (C.bool b23))) ∧ 
                                  (ifB (!b23) (Wc prog tbl 20 [] m22 (fun v24 m25 => (∃ b26 : Bool, ((v24 = (V.c (C.bool b26))) ∧ 
                                  (Q (V.c (C.bool b26)) m25))))) (isPt (C.ptr (m0).nxt 0) ∧ (∃ x27 : Int, (((ldC m22 (C.ptr (m0).nxt 2)) = (Option.some (C.int IntKind.i64 x27))) ∧ 
                                  (ifB (decide (x27 = (0 : Int))) (Wc prog tbl 20 [] m22 (fun v28 m29 => (∃ b30 : Bool, 
                                  ((v28 = (V.c (C.bool b30))) ∧ (Q (V.c (C.bool b30)) m29))))) (∃ x31 : Int, (∃ x32 : Int, 
                                  (∃ c33 : C, (((ldA m22 (C.ptr (m).nxt 0) 3) = (Option.some [(C.int IntKind.i64 x31), 
                                  (C.int IntKind.i64 x32), c33])) ∧ (Wc prog tbl 22 [(V.agg 3 [(C.int IntKind.i64 x31), 
                                  (C.int IntKind.i64 x32), c33])] m22 (fun v34 m35 => (∃ x36 : Int, (∃ x37 : Int, 
                                  (∃ c38 : C, ((v34 = (V.agg 3 [(C.int IntKind.i64 x36), (C.int IntKind.i64 x37), 
                                  c38])) ∧ (∃ x39 : Int, (∃ x40 : Int, (∃ x41 : Int, (((ldA m35 (C.ptr (m0).nxt 0) 3) = (Option.some [(C.int IntKind.i64 x39), 
                                  (C.int IntKind.i64 x40), (C.int IntKind.i64 x41)])) ∧ (((ldA m22 (C.ptr (m0).nxt 0) 3) = (Option.some [(C.int IntKind.i64 x39), 
                                  (C.int IntKind.i64 x40), (C.int IntKind.i64 x41)])) ∧ (Wc prog tbl 23 [(V.agg 3 [(C.int IntKind.i64 x39), 
                                  (C.int IntKind.i64 x40), (C.int IntKind.i64 x41)])] m35 (fun v42 m43 => (∃ x44 : Int, 
                                  (∃ x45 : Int, (∃ x46 : Int, ((v42 = (V.agg 3 [(C.int IntKind.i64 x44), (C.int IntKind.i64 x45), 
                                  (C.int IntKind.i64 x46)])) ∧ (Wc prog tbl 21 [(V.agg 3 [(C.int IntKind.i64 x36), 
                                  (C.int IntKind.i64 x37), c38]), (V.agg 3 [(C.int IntKind.i64 x44), (C.int IntKind.i64 x45), 
                                  (C.int IntKind.i64 x46)])] m43 (fun v47 m48 => (∃ c49 : C, (∃ x50 : Int, ((v47 = (V.tup [(U.c c49), 
                                  (U.c (C.int IntKind.i64 x50))])) ∧ (∃ x51 : Int, (∃ x52 : Int, (∃ x53 : Int, 
                                  (((ldA m48 (C.ptr (m0).nxt 0) 3) = (Option.some [(C.int IntKind.i64 x51), (C.int IntKind.i64 x52), 
                                  (C.int IntKind.i64 x53)])) ∧ (∀ m54 : M, ((m54 = (M.new m48 (AO.cells 3 [(C.int IntKind.i64 (0 : Int)), 
                                  (C.int IntKind.i64 (0 : Int)), (C.int IntKind.i64 (0 : Int))] false))) → (∃ m55 : M, 
                                  (((stC m54 (C.ptr (m48).nxt 0) 3 [(C.int IntKind.i64 x51), (C.int IntKind.i64 x52), 
                                  (C.int IntKind.i64 x53)]) = (Option.some m55)) ∧ (isPt (C.ptr (m48).nxt 0) ∧ 
                                  (∃ x56 : Int, (((ldC m55 (C.ptr (m48).nxt 2)) = (Option.some (C.int IntKind.i64 x56))) ∧ 
                                  (fitsP IntKind.i64 (x56 - (1 : Int)) ∧ (isPt (C.ptr (m48).nxt 0) ∧ (∃ m57 : M, 
                                  (((stC m55 (C.ptr (m48).nxt 2) 1 [(C.int IntKind.i64 (x56 - (1 : Int)))]) = (Option.some m57)) ∧ 
                                  (∃ x58 : Int, (∃ x59 : Int, (∃ c60 : C, (((ldA m57 (C.ptr (m).nxt 0) 3) = (Option.some [(C.int IntKind.i64 x58), 
                                  (C.int IntKind.i64 x59), c60])) ∧ (Wc prog tbl 22 [(V.agg 3 [(C.int IntKind.i64 x58), 
                                  (C.int IntKind.i64 x59), c60])] m57 (fun v61 m62 => (∃ x63 : Int, (∃ x64 : Int, 
                                  (∃ c65 : C, ((v61 = (V.agg 3 [(C.int IntKind.i64 x63), (C.int IntKind.i64 x64), 
                                  c65])) ∧ (∃ x66 : Int, (∃ x67 : Int, (∃ x68 : Int, (((ldA m62 (C.ptr (m48).nxt 0) 3) = (Option.some [(C.int IntKind.i64 x66), 
                                  (C.int IntKind.i64 x67), (C.int IntKind.i64 x68)])) ∧ (((ldA m57 (C.ptr (m48).nxt 0) 3) = (Option.some [(C.int IntKind.i64 x66), 
                                  (C.int IntKind.i64 x67), (C.int IntKind.i64 x68)])) ∧ (Wc prog tbl 23 [(V.agg 3 [(C.int IntKind.i64 x66), 
                                  (C.int IntKind.i64 x67), (C.int IntKind.i64 x68)])] m62 (fun v69 m70 => (∃ x71 : Int, 
                                  (∃ x72 : Int, (∃ x73 : Int, ((v69 = (V.agg 3 [(C.int IntKind.i64 x71), (C.int IntKind.i64 x72), 
                                  (C.int IntKind.i64 x73)])) ∧ (Wc prog tbl 21 [(V.agg 3 [(C.int IntKind.i64 x63), 
                                  (C.int IntKind.i64 x64), c65]), (V.agg 3 [(C.int IntKind.i64 x71), (C.int IntKind.i64 x72), 
                                  (C.int IntKind.i64 x73)])] m70 (fun v74 m75 => (∃ c76 : C, (∃ x77 : Int, ((v74 = (V.tup [(U.c c76), 
                                  (U.c (C.int IntKind.i64 x77))])) ∧ (ifB (!decide (x50 = (0 : Int))) (Q (V.c (C.bool false)) m75) (ifB (!decide (x77 = (0 : Int))) (Q (V.c (C.bool false)) m75) (isSl c49 ∧ 
                                  (isPt (C.ptr (m0).nxt 0) ∧ (∃ x78 : Int, (((ldC m75 (C.ptr (m0).nxt 2)) = (Option.some (C.int IntKind.i64 x78))) ∧ 
                                  (ifB (!decide ((((slLen c49) : Nat) : Int) = x78)) (Q (V.c (C.bool false)) m75) (isSl c76 ∧ 
                                  (isPt (C.ptr (m48).nxt 0) ∧ (∃ x79 : Int, (((ldC m75 (C.ptr (m48).nxt 2)) = (Option.some (C.int IntKind.i64 x79))) ∧ 
                                  (ifB (!decide ((((slLen c76) : Nat) : Int) = x79)) (Q (V.c (C.bool false)) m75) (isSl c76 ∧ 
                                  (∃ n80 : Nat, (∃ n81 : Nat, ((n80 = 0) ∧ (((((slLen c76) : Nat) : Int) = ((n81 : Nat) : Int)) ∧ 
                                  (∃ c82 : C, (((subC 1 c49 n80 n81) = (Option.some c82)) ∧ (Wc prog tbl 29 [(V.c c82), 
                                  (V.c c76)] m75 (fun v83 m84 => (∃ b85 : Bool, ((v83 = (V.c (C.bool b85))) ∧ (ifB (!b85) (Q (V.c (C.bool false)) m84) (∀ R86 : List V → 
                                  M → Prop, ((∀ b87 : Bool, (∀ c88 : C, (∀ x89 : Int, (∀ m90 : M, ((isSl c49 ∧ 
                                  (ifB (decide (x89 < (((slLen c49) : Nat) : Int))) (∃ n91 : Nat, ((x89 = ((n91 : Nat) : Int)) ∧ 
                                  ((n91 < (slLen c49)) ∧ (∃ x92 : Int, (((ldC m90 (slAt c49 (n91 * 1))) = (Option.some (C.int IntKind.i64 x92))) ∧ 
                                  (isPt (C.ptr (m).nxt 0) ∧ (∃ c93 : C, (((ldC m90 (C.ptr (m).nxt 2)) = (Option.some c93)) ∧ 
                                  (isSl c93 ∧ (fitsP IntKind.i64 ((((slLen c93) : Nat) : Int) - (1 : Int)) ∧ (Wc prog tbl 44 [(V.c (C.int IntKind.i64 x92)), 
                                  (V.c (C.int IntKind.i64 (0 : Int))), (V.c (C.int IntKind.i64 ((((slLen c93) : Nat) : Int) - (1 : Int))))] m90 (fun v94 m95 => 
                                  (∃ b96 : Bool, ((v94 = (V.c (C.bool b96))) ∧ (ifB (!b96) (Q (V.c (C.bool false)) m95) (∃ n97 : Nat, 
                                  (∃ n98 : Nat, ((n97 = 0) ∧ ((x89 = ((n98 : Nat) : Int)) ∧ (∃ c99 : C, (((subC 1 c49 n97 n98) = (Option.some c99)) ∧ 
                                  (∃ n100 : Nat, ((x89 = ((n100 : Nat) : Int)) ∧ ((n100 < (slLen c49)) ∧ (∃ x101 : Int, 
                                  (((ldC m95 (slAt c49 (n100 * 1))) = (Option.some (C.int IntKind.i64 x101))) ∧ 
                                  (Wc prog tbl 61 [(V.c c99), (V.c (C.int IntKind.i64 x101))] m95 (fun v102 m103 => 
                                  (∃ b104 : Bool, ((v102 = (V.c (C.bool b104))) ∧ (ifB b104 (Q (V.c (C.bool false)) m103) (ifB (decide (x89 < (5 : Int))) (∃ n105 : Nat, 
                                  ((x89 = ((n105 : Nat) : Int)) ∧ ((n105 < (slLen c49)) ∧ (∃ x106 : Int, (((ldC m103 (slAt c49 (n105 * 1))) = (Option.some (C.int IntKind.i64 x106))) ∧ 
                                  (∀ m107 : M, ((m107 = (M.new m103 (AO.cells 4 [(C.int IntKind.i64 x106), (C.int IntKind.i64 (0 : Int)), 
                                  (C.int IntKind.i64 (0 : Int)), (C.bool false)] false))) → (∃ c108 : C, (∃ m109 : M, 
                                  ((ApR prog 27 m107 c88 (C.sl (m103).nxt 0 1 0 (Option.some 1)) c108 m109) ∧ (fitsP IntKind.i64 (x89 + (1 : Int)) ∧ 
                                  (R86 [(V.c (C.bool b87)), (V.c c108), (V.c (C.int IntKind.i64 (x89 + (1 : Int))))] m109)))))))))))) (fitsP IntKind.i64 (x89 + (1 : Int)) ∧ 
                                  (R86 [(V.c (C.bool b87)), (V.c c88), (V.c (C.int IntKind.i64 (x89 + (1 : Int))))] m103)))))))))))))))))))))))))))))))))) (∃ x110 : Int, 
                                  (∃ x111 : Int, (∃ c112 : C, (((ldA m90 (C.ptr (m).nxt 0) 3) = (Option.some [(C.int IntKind.i64 x110), 
                                  (C.int IntKind.i64 x111), c112])) ∧ (Wc prog tbl 22 [(V.agg 3 [(C.int IntKind.i64 x110), 
                                  (C.int IntKind.i64 x111), c112])] m90 (fun v113 m114 => (∃ x115 : Int, (∃ x116 : Int, 
                                  (∃ c117 : C, ((v113 = (V.agg 3 [(C.int IntKind.i64 x115), (C.int IntKind.i64 x116), 
                                  c117])) ∧ (∃ x118 : Int, (∃ x119 : Int, (∃ x120 : Int, (((ldA m114 (C.ptr (m0).nxt 0) 3) = (Option.some [(C.int IntKind.i64 x118), 
                                  (C.int IntKind.i64 x119), (C.int IntKind.i64 x120)])) ∧ (((ldA m90 (C.ptr (m0).nxt 0) 3) = (Option.some [(C.int IntKind.i64 x118), 
                                  (C.int IntKind.i64 x119), (C.int IntKind.i64 x120)])) ∧ (Wc prog tbl 23 [(V.agg 3 [(C.int IntKind.i64 x118), 
                                  (C.int IntKind.i64 x119), (C.int IntKind.i64 x120)])] m114 (fun v121 m122 => 
                                  (∃ x123 : Int, (∃ x124 : Int, (∃ x125 : Int, ((v121 = (V.agg 3 [(C.int IntKind.i64 x123), 
                                  (C.int IntKind.i64 x124), (C.int IntKind.i64 x125)])) ∧ (Wc prog tbl 25 [(V.c c88)] m122 (fun v126 m127 => 
                                  (∃ c128 : C, ((v126 = (V.c c128)) ∧ (Wc prog tbl 24 [(V.agg 3 [(C.int IntKind.i64 x115), 
                                  (C.int IntKind.i64 x116), c117]), (V.agg 3 [(C.int IntKind.i64 x123), (C.int IntKind.i64 x124), 
                                  (C.int IntKind.i64 x125)]), (V.c c128)] m127 (fun v129 m130 => (∃ c131 : C, (∃ x132 : Int, 
                                  ((v129 = (V.tup [(U.c c131), (U.c (C.int IntKind.i64 x132))])) ∧ (∀ m133 : M, 
                                  ((m133 = (mGrow m130 2)) → (∃ x134 : Int, (∃ x135 : Int, (∃ c136 : C, (((ldA m133 (C.ptr (m).nxt 0) 3) = (Option.some [(C.int IntKind.i64 x134), 
                                  (C.int IntKind.i64 x135), c136])) ∧ (Wc prog tbl 22 [(V.agg 3 [(C.int IntKind.i64 x134), 
                                  (C.int IntKind.i64 x135), c136])] m133 (fun v137 m138 => (∃ x139 : Int, (∃ x140 : Int, 
                                  (∃ c141 : C, ((v137 = (V.agg 3 [(C.int IntKind.i64 x139), (C.int IntKind.i64 x140), 
                                  c141])) ∧ (∃ x142 : Int, (∃ x143 : Int, (∃ x144 : Int, (((ldA m138 (C.ptr (m0).nxt 0) 3) = (Option.some [(C.int IntKind.i64 x142), 
                                  (C.int IntKind.i64 x143), (C.int IntKind.i64 x144)])) ∧ (((ldA m133 (C.ptr (m0).nxt 0) 3) = (Option.some [(C.int IntKind.i64 x142), 
                                  (C.int IntKind.i64 x143), (C.int IntKind.i64 x144)])) ∧ (Wc prog tbl 23 [(V.agg 3 [(C.int IntKind.i64 x142), 
                                  (C.int IntKind.i64 x143), (C.int IntKind.i64 x144)])] m138 (fun v145 m146 => 
                                  (∃ x147 : Int, (∃ x148 : Int, (∃ x149 : Int, ((v145 = (V.agg 3 [(C.int IntKind.i64 x147), 
                                  (C.int IntKind.i64 x148), (C.int IntKind.i64 x149)])) ∧ (∀ m150 : M, ((m150 = (M.set m146 ((m130).nxt + 0) (AO.cells 0 [] false))) → 
                                  (((ldA m150 (C.ptr (m0).nxt 0) 3) = (Option.some [(C.int IntKind.i64 x142), (C.int IntKind.i64 x143), 
                                  (C.int IntKind.i64 x144)])) ∧ ((ifB (allS noFnC [(C.int IntKind.i64 x134), (C.int IntKind.i64 x135), 
                                  c136]) ((ldA m150 (C.ptr (m).nxt 0) 3) = (Option.some [(C.int IntKind.i64 x134), 
                                  (C.int IntKind.i64 x135), c136])) False) ∧ (∃ c151 : C, (∃ m152 : M, ((ApR prog 27 m150 (C.sl ((m130).nxt + 0) 0 0 0 (Option.some 0)) c88 c151 m152) ∧ 
                                  (∃ n153 : Nat, (((0 : Int) = ((n153 : Nat) : Int)) ∧ ((n153 < (slLen c88)) ∧ 
                                  (∃ x154 : Int, (∃ x155 : Int, (∃ x156 : Int, (∃ b157 : Bool, (((ldA m152 (slAt c88 (n153 * 4)) 4) = (Option.some [(C.int IntKind.i64 x154), 
                                  (C.int IntKind.i64 x155), (C.int IntKind.i64 x156), (C.bool b157)])) ∧ (((ldA m150 (slAt c88 (n153 * 4)) 4) = (Option.some [(C.int IntKind.i64 x154), 
                                  (C.int IntKind.i64 x155), (C.int IntKind.i64 x156), (C.bool b157)])) ∧ (((ldA m146 (slAt c88 (n153 * 4)) 4) = (Option.some [(C.int IntKind.i64 x154), 
                                  (C.int IntKind.i64 x155), (C.int IntKind.i64 x156), (C.bool b157)])) ∧ (((ldA m138 (slAt c88 (n153 * 4)) 4) = (Option.some [(C.int IntKind.i64 x154), 
                                  (C.int IntKind.i64 x155), (C.int IntKind.i64 x156), (C.bool b157)])) ∧ (((ldA m133 (slAt c88 (n153 * 4)) 4) = (Option.some [(C.int IntKind.i64 x154), 
                                  (C.int IntKind.i64 x155), (C.int IntKind.i64 x156), (C.bool b157)])) ∧ (∀ m158 : M, 
                                  ((m158 = (M.set m152 ((m130).nxt + 1) (AO.cells 4 [(C.int IntKind.i64 x154), 
                                  (C.int IntKind.i64 x155), (C.int IntKind.i64 x156), (C.bool b157)] false))) → 
                                  (((ldA m158 (C.ptr (m0).nxt 0) 3) = (Option.some [(C.int IntKind.i64 x142), (C.int IntKind.i64 x143), 
                                  (C.int IntKind.i64 x144)])) ∧ ((ifB (allS noFnC [(C.int IntKind.i64 x134), (C.int IntKind.i64 x135), 
                                  c136]) ((ldA m158 (C.ptr (m).nxt 0) 3) = (Option.some [(C.int IntKind.i64 x134), 
                                  (C.int IntKind.i64 x135), c136])) False) ∧ (∃ c159 : C, (∃ m160 : M, ((ApR prog 27 m158 c151 (C.sl ((m130).nxt + 1) 0 1 0 (Option.some 1)) c159 m160) ∧ 
                                  (Wc prog tbl 25 [(V.c c159)] m160 (fun v161 m162 => (∃ c163 : C, ((v161 = (V.c c163)) ∧ 
                                  (Wc prog tbl 24 [(V.agg 3 [(C.int IntKind.i64 x139), (C.int IntKind.i64 x140), 
                                  c141]), (V.agg 3 [(C.int IntKind.i64 x147), (C.int IntKind.i64 x148), (C.int IntKind.i64 x149)]), 
                                  (V.c c163)] m162 (fun v164 m165 => (∃ c166 : C, (∃ x167 : Int, ((v164 = (V.tup [(U.c c166), 
                                  (U.c (C.int IntKind.i64 x167))])) ∧ (ifB (decide (x132 = (0 : Int))) (isSl c131 ∧ 
                                  (ifB (decide ((((slLen c131) : Nat) : Int) = (0 : Int))) (ifB (decide (x167 = (0 : Int))) (isSl c88 ∧ 
                                  (∀ m168 : M, ((m168 = (M.new m165 (AO.cells 1 [(C.int IntKind.i64 (((slLen c88) : Nat) : Int))] false))) → 
                                  (Wc prog tbl 29 [(V.c c166), (V.c (C.sl (m165).nxt 0 1 0 (Option.some 1)))] m168 (fun v169 m170 => 
                                  (∃ b171 : Bool, ((v169 = (V.c (C.bool b171))) ∧ (ifB b171 (Wc prog tbl 20 [] m170 (fun v172 m173 => 
                                  (∃ b174 : Bool, ((v172 = (V.c (C.bool b174))) ∧ (Q (V.c (C.bool b174)) m173))))) (Q (V.c (C.bool false)) m170))))))))) (Q (V.c (C.bool false)) m165)) (Q (V.c (C.bool false)) m165))) (Q (V.c (C.bool false)) m165)))))))))))))))))))))))))))))))))))))))))))))))))))))))))))))))))))))))))))))))))))))))))))) → 
                                  (R86 [(V.c (C.bool b87)), (V.c c88), (V.c (C.int IntKind.i64 x89))] m90)))))) → 
                                  (R86 [(V.c (C.bool false)), (V.c C.sl0), (V.c (C.int IntKind.i64 (0 : Int)))] m84)))))))))))))))))))))))))))))))))))))))))))))))))))))))))))))))))))))))))))))))))))))))))))))))))))))))))))))))))))))))))))))))))) : Wc prog tbl 11 [(V.agg 3 [(C.int IntKind.i64 a100), (C.int IntKind.i64 a101), a102]), (V.agg 3 [(C.int IntKind.i64 a200), (C.int IntKind.i64 a201), (C.int IntKind.i64 a202)])] m Q :=
  wc_eq (n := 2) rfl (by kernel_rfl) (by kernel_rfl) h

end
end Go.Proofs.Ytgkjfhkjgdiodaa
