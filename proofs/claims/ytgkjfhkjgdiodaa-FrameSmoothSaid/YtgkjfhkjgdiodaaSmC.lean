/- FrameSmooth, for all that it can be called with, returns true. Condition: none. -/
import Derived.Test.YtgkjfhkjgdiodaaSmB
import Derived.KernelRfl
import Derived.ProofKit
import Derived.Test.YtgkjfhkjgdiodaaRows

namespace Go.Proofs.Ytgkjfhkjgdiodaa
open _root_.Go.Proofs.Try
open Go.Abs
set_option maxRecDepth 100000
noncomputable section
theorem w68 {a100 : Int} {a101 : Int} {a102 : C} {a103 : Int} {a104 : C} {a200 : Int} {m : M} {Q : V → M → Prop} (h :
 (∀ m0 : M, ((m0 = (M.new m (AO.cells 5 [(C.int IntKind.i64 a100), (C.int IntKind.i64 a101), a102, (C.int IntKind.i64 a103), 
 a104] false))) → (∀ R1 : List V → M → Prop, ((∀ b2 : Bool, (∀ x3 : Int, (∀ m4 : M, ((isPt (C.ptr (m).nxt 0) ∧ 
 (∃ x5 : Int, (∃ x6 : Int, (∃ c7 : C, (((ldA m4 (C.ptr (m).nxt 0) 3) = (Option.some [(C.int IntKind.i64 x5), 
 (C.int IntKind.i64 x6), c7])) ∧ (Wc prog tbl 60 [(V.agg 3 [(C.int IntKind.i64 x5), (C.int IntKind.i64 x6), 
 c7])] m4 (fun v8 m9 => (∃ x10 : Int, ((v8 = (V.c (C.int IntKind.i64 x10))) ∧ (ifB (decide (x3 < x10)) (∃ x11 : Int, 
 (∃ x12 : Int, (∃ c13 : C, (∃ x14 : Int, (∃ c15 : C, (((ldA m9 (C.ptr (m).nxt 0) 5) = (Option.some [(C.int IntKind.i64 x11), 
 (C.int IntKind.i64 x12), c13, (C.int IntKind.i64 x14), c15])) ∧ (isPt (C.ptr (m).nxt 0) ∧ 
 (∃ x16 : Int, (∃ x17 : Int, (∃ c18 : C, (((ldA m9 (C.ptr (m).nxt 0) 3) = (Option.some [(C.int IntKind.i64 x16), 
 (C.int IntKind.i64 x17), c18])) ∧ (Wc prog tbl 67 [(V.agg 3 [(C.int IntKind.i64 x16), 
 (C.int IntKind.i64 x17), c18]), (V.c (C.int IntKind.i64 x3))] m9 (fun v19 m20 => 
 (∃ c21 : C, ((v19 = (V.c c21)) ∧ ((ifB (allS noFnC [(C.int IntKind.i64 x11), 
 (C.int IntKind.i64 x12), c13, (C.int IntKind.i64 x14), c15]) ((ldA m20 (C.ptr (m).nxt 0) 5) = (Option.some [(C.int IntKind.i64 x11), 
 (C.int IntKind.i64 x12), c13, (C.int IntKind.i64 x14), c15])) False) ∧ (Wc prog tbl 38 [(V.agg 5 [(C.int IntKind.i64 x11), 
 (C.int IntKind.i64 x12), c13, (C.int IntKind.i64 x14), c15]), (V.c c21), (V.c (C.int IntKind.i64 a200))] m20 (fun v22 m23 => 
 (∃ b24 : Bool, ((v22 = (V.c (C.bool b24))) ∧ (ifB b24 (Q (V.c (C.bool true)) m23) (fitsP IntKind.i64 (x3 + (1 : Int)) ∧ 
 (R1 [(V.c (C.bool b2)), (V.c (C.int IntKind.i64 (x3 + (1 : Int))))] m23))))))))))))))))))))))) (Q (V.c (C.bool false)) m9))))))))))) → 
 (R1 [(V.c (C.bool b2)), (V.c (C.int IntKind.i64 x3))] m4))))) → (R1 [(V.c (C.bool false)), (V.c (C.int IntKind.i64 (0 : Int)))] m0)))))) : Wc prog tbl 68 [(V.agg 5 [(C.int IntKind.i64 a100), (C.int IntKind.i64 a101), a102, (C.int IntKind.i64 a103), a104]), (V.c (C.int IntKind.i64 a200))] m Q :=
 wc_eq (n := 2) rfl (by kernel_rfl) (by kernel_rfl) h
theorem w82 {a100 : Int} {a101 : Int} {a102 : C} {a103 : Int} {a104 : C} {a105 : C} {a200 : C} {m : M} {Q : V → M → Prop} (h :
 (∀ m0 : M, ((m0 = (M.new m (AO.cells 6 [(C.int IntKind.i64 a100), (C.int IntKind.i64 a101), a102, (C.int IntKind.i64 a103), 
 a104, a105] false))) → (∀ m1 : M, ((m1 = (M.new m0 (AO.cells 1 [a200] false))) → (∀ m2 : M, ((m2 = (M.new m1 (AO.cells 2 [(C.int IntKind.i64 (0 : Int)), 
 (C.int IntKind.i64 (0 : Int))] false))) → (∀ m3 : M, ((m3 = (M.new m2 (AO.cells 1 [C.sl0] false))) → 
 (∃ x4 : Int, (∃ x5 : Int, (∃ c6 : C, (∃ x7 : Int, (∃ c8 : C, (∃ c9 : C, (((ldA m3 (C.ptr (m).nxt 0) 6) = (Option.some [(C.int IntKind.i64 x4), 
 (C.int IntKind.i64 x5), c6, (C.int IntKind.i64 x7), c8, c9])) ∧ (Wc prog tbl 100 [(V.agg 6 [(C.int IntKind.i64 x4), 
 (C.int IntKind.i64 x5), c6, (C.int IntKind.i64 x7), c8, c9])] m3 (fun v10 m11 => (∃ c12 : C, 
 ((v10 = (V.c c12)) ∧ (rangeP prog tbl c12 m11 (fun l13 m14 R15 R16 => (∃ x17 : Int, (∃ x18 : Int, 
 (∃ x19 : Int, (∃ x20 : Int, (∃ x21 : Int, (∃ x22 : Int, (∃ x23 : Int, (∃ x24 : Int, 
 (∃ x25 : Int, ((l13 = [(V.agg 9 [(C.int IntKind.i64 x17), (C.int IntKind.i64 x18), 
 (C.int IntKind.i64 x19), (C.int IntKind.i64 x20), (C.int IntKind.i64 x21), (C.int IntKind.i64 x22), 
 (C.int IntKind.i64 x23), (C.int IntKind.i64 x24), (C.int IntKind.i64 x25)])]) ∧ 
 (∀ m26 : M, ((m26 = (M.new m14 (AO.cells 9 [(C.int IntKind.i64 (0 : Int)), (C.int IntKind.i64 (0 : Int)), 
 (C.int IntKind.i64 (0 : Int)), (C.int IntKind.i64 (0 : Int)), (C.int IntKind.i64 (0 : Int)), 
 (C.int IntKind.i64 (0 : Int)), (C.int IntKind.i64 (0 : Int)), (C.int IntKind.i64 (0 : Int)), 
 (C.int IntKind.i64 (0 : Int))] false))) → (∃ m27 : M, (((stC m26 (C.ptr (m14).nxt 0) 9 [(C.int IntKind.i64 x17), 
 (C.int IntKind.i64 x18), (C.int IntKind.i64 x19), (C.int IntKind.i64 x20), (C.int IntKind.i64 x21), 
 (C.int IntKind.i64 x22), (C.int IntKind.i64 x23), (C.int IntKind.i64 x24), (C.int IntKind.i64 x25)]) = (Option.some m27)) ∧ 
 (R15 m27 (fun m28 => (∃ c29 : C, (((ldC m28 (C.ptr (m2).nxt 0)) = (Option.some c29)) ∧ 
 (isPt (C.ptr (m0).nxt 0) ∧ (∃ c30 : C, (((ldC m28 (C.ptr (m0).nxt 0)) = (Option.some c30)) ∧ 
 (∃ x31 : Int, (∃ x32 : Int, (∃ c33 : C, (∃ x34 : Int, (∃ c35 : C, (∃ c36 : C, 
 (((ldA m28 (C.ptr (m).nxt 0) 6) = (Option.some [(C.int IntKind.i64 x31), (C.int IntKind.i64 x32), 
 c33, (C.int IntKind.i64 x34), c35, c36])) ∧ (∃ x37 : Int, (∃ x38 : Int, (∃ x39 : Int, 
 (∃ x40 : Int, (∃ x41 : Int, (∃ x42 : Int, (∃ x43 : Int, (∃ x44 : Int, (∃ x45 : Int, 
 (((ldA m28 (C.ptr (m14).nxt 0) 9) = (Option.some [(C.int IntKind.i64 x37), (C.int IntKind.i64 x38), 
 (C.int IntKind.i64 x39), (C.int IntKind.i64 x40), (C.int IntKind.i64 x41), (C.int IntKind.i64 x42), 
 (C.int IntKind.i64 x43), (C.int IntKind.i64 x44), (C.int IntKind.i64 x45)])) ∧ 
 (callP prog tbl [(V.agg 6 [(C.int IntKind.i64 x31), (C.int IntKind.i64 x32), 
 c33, (C.int IntKind.i64 x34), c35, c36]), (V.agg 9 [(C.int IntKind.i64 x37), 
 (C.int IntKind.i64 x38), (C.int IntKind.i64 x39), (C.int IntKind.i64 x40), (C.int IntKind.i64 x41), 
 (C.int IntKind.i64 x42), (C.int IntKind.i64 x43), (C.int IntKind.i64 x44), (C.int IntKind.i64 x45)])] c30 m28 (fun v46 m47 => 
 (∃ x48 : Int, ((v46 = (V.c (C.int IntKind.i64 x48))) ∧ ((ifB (noFnC c29) ((ldC m47 (C.ptr (m2).nxt 0)) = (Option.some c29)) False) ∧ 
 (∀ m49 : M, ((m49 = (M.new m47 (AO.cells 1 [(C.int IntKind.i64 x48)] false))) → 
 ((ifB (noFnC c29) ((ldC m49 (C.ptr (m2).nxt 0)) = (Option.some c29)) False) ∧ 
 (∃ c50 : C, (∃ m51 : M, ((ApR prog 22 m49 c29 (C.sl (m47).nxt 0 1 0 (Option.some 1)) c50 m51) ∧ 
 (∃ m52 : M, (((stC m51 (C.ptr (m2).nxt 0) 1 [c50]) = (Option.some m52)) ∧ (R16 Ex.nrm m52))))))))))))))))))))))))))))))))))))))))))))))))))))) (After.mk (fun m53 => 
 (∃ c54 : C, (((ldC m53 (C.ptr (m2).nxt 0)) = (Option.some c54)) ∧ (Wc prog tbl 101 [(V.c c54)] m53 (fun v55 m56 => 
 (∃ x57 : Int, ((v55 = (V.c (C.int IntKind.i64 x57))) ∧ (∃ c58 : C, (((ldC m56 (C.ptr (m2).nxt 0)) = (Option.some c58)) ∧ 
 ((ifB (noFnC c58) ((ldC m53 (C.ptr (m2).nxt 0)) = (Option.some c58)) False) ∧ 
 (Wc prog tbl 102 [(V.c c58)] m56 (fun v59 m60 => (∃ x61 : Int, ((v59 = (V.c (C.int IntKind.i64 x61))) ∧ 
 (∃ m62 : M, (((stC m60 (C.ptr (m1).nxt 0) 2 [(C.int IntKind.i64 x57), (C.int IntKind.i64 x61)]) = (Option.some m62)) ∧ 
 (∃ x63 : Int, (∃ x64 : Int, (((ldA m62 (C.ptr (m1).nxt 0) 2) = (Option.some [(C.int IntKind.i64 x63), 
 (C.int IntKind.i64 x64)])) ∧ (Q (V.agg 2 [(C.int IntKind.i64 x63), (C.int IntKind.i64 x64)]) m62)))))))))))))))))))) [] (fun m65 => 
 (∃ x66 : Int, (∃ x67 : Int, (((ldA m65 (C.ptr (m1).nxt 0) 2) = (Option.some [(C.int IntKind.i64 x66), 
 (C.int IntKind.i64 x67)])) ∧ (Q (V.agg 2 [(C.int IntKind.i64 x66), (C.int IntKind.i64 x67)]) m65))))))))))))))))))))))))))) : Wc prog tbl 82 [(V.agg 6 [(C.int IntKind.i64 a100), (C.int IntKind.i64 a101), a102, (C.int IntKind.i64 a103), a104, a105]), (V.agg 1 [a200])] m Q :=
 wc_eq (n := 2) rfl (by kernel_rfl) (by kernel_rfl) h
theorem w91 {a100 : Int} {a101 : Int} {a102 : C} {a103 : Int} {a104 : C} {a105 : C} {a200 : C} {m : M} {Q : V → M → Prop} (h :
 (∀ m0 : M, ((m0 = (M.new m (AO.cells 6 [(C.int IntKind.i64 a100), (C.int IntKind.i64 a101), a102, (C.int IntKind.i64 a103), 
 a104, a105] false))) → (∀ m1 : M, ((m1 = (M.new m0 (AO.cells 1 [(C.bool false)] false))) → (∀ m2 : M, 
 ((m2 = (M.new m1 (AO.cells 6 [(C.bool false), (C.bool false), (C.bool false), (C.bool false), (C.bool false), 
 (C.bool false)] false))) → (isSl a200 ∧ (∀ R3 : List V → M → Prop, ((∀ x4 : Int, (∀ m5 : M, ((ifB (decide (x4 < (((slLen a200) : Nat) : Int))) (∃ n6 : Nat, 
 ((x4 = ((n6 : Nat) : Int)) ∧ ((n6 < (slLen a200)) ∧ (∃ x7 : Int, (((ldC m5 (slAt a200 (n6 * 1))) = (Option.some (C.int IntKind.i64 x7))) ∧ 
 (isPt (C.ptr (m1).nxt 0) ∧ (∃ n8 : Nat, ((x7 = ((n8 : Nat) : Int)) ∧ ((n8 < 6) ∧ (∃ m9 : M, 
 (((stC m5 (C.ptr (m1).nxt (0 + (n8 * 1))) 1 [(C.bool true)]) = (Option.some m9)) ∧ (fitsP IntKind.i64 (x4 + (1 : Int)) ∧ 
 (R3 [(V.c (C.int IntKind.i64 (x4 + (1 : Int))))] m9))))))))))))) (∃ x10 : Int, (∃ x11 : Int, 
 (∃ c12 : C, (∃ x13 : Int, (∃ c14 : C, (∃ c15 : C, (((ldA m5 (C.ptr (m).nxt 0) 6) = (Option.some [(C.int IntKind.i64 x10), 
 (C.int IntKind.i64 x11), c12, (C.int IntKind.i64 x13), c14, c15])) ∧ (∃ b16 : Bool, 
 (∃ b17 : Bool, (∃ b18 : Bool, (∃ b19 : Bool, (∃ b20 : Bool, (∃ b21 : Bool, (((ldA m5 (C.ptr (m1).nxt 0) 6) = (Option.some [(C.bool b16), 
 (C.bool b17), (C.bool b18), (C.bool b19), (C.bool b20), (C.bool b21)])) ∧ (Wc prog tbl 108 [(V.agg 6 [(C.int IntKind.i64 x10), 
 (C.int IntKind.i64 x11), c12, (C.int IntKind.i64 x13), c14, c15]), (V.agg 6 [(C.bool b16), 
 (C.bool b17), (C.bool b18), (C.bool b19), (C.bool b20), (C.bool b21)])] m5 (fun v22 m23 => 
 (∃ c24 : C, ((v22 = (V.c c24)) ∧ (rangeP prog tbl c24 m23 (fun l25 m26 R27 R28 => 
 (∃ x29 : Int, (∃ x30 : Int, (∃ x31 : Int, (∃ x32 : Int, (∃ x33 : Int, (∃ x34 : Int, 
 (∃ x35 : Int, (∃ x36 : Int, (∃ x37 : Int, ((l25 = [(V.agg 9 [(C.int IntKind.i64 x29), 
 (C.int IntKind.i64 x30), (C.int IntKind.i64 x31), (C.int IntKind.i64 x32), (C.int IntKind.i64 x33), 
 (C.int IntKind.i64 x34), (C.int IntKind.i64 x35), (C.int IntKind.i64 x36), (C.int IntKind.i64 x37)])]) ∧ 
 (R27 m26 (fun m38 => (∃ m39 : M, (((stC m38 (C.ptr (m0).nxt 0) 1 [(C.bool true)]) = (Option.some m39)) ∧ 
 (R28 Ex.ret m39)))))))))))))))) (After.mk (fun m40 => (∃ m41 : M, (((stC m40 (C.ptr (m0).nxt 0) 1 [(C.bool false)]) = (Option.some m41)) ∧ 
 (∃ b42 : Bool, (((ldC m41 (C.ptr (m0).nxt 0)) = (Option.some (C.bool b42))) ∧ 
 (Q (V.c (C.bool b42)) m41)))))) [] (fun m43 => (∃ b44 : Bool, (((ldC m43 (C.ptr (m0).nxt 0)) = (Option.some (C.bool b44))) ∧ 
 (Q (V.c (C.bool b44)) m43))))))))))))))))))))))))) → (R3 [(V.c (C.int IntKind.i64 x4))] m5)))) → 
 (R3 [(V.c (C.int IntKind.i64 (0 : Int)))] m2))))))))))) : Wc prog tbl 91 [(V.agg 6 [(C.int IntKind.i64 a100), (C.int IntKind.i64 a101), a102, (C.int IntKind.i64 a103), a104, a105]), (V.c a200)] m Q :=
 wc_eq (n := 2) rfl (by kernel_rfl) (by kernel_rfl) h
theorem w101 {a100 : C} {m : M} {Q : V → M → Prop} (h :
 (isSl a100 ∧ (ifB (decide ((((slLen a100) : Nat) : Int) = (0 : Int))) (Q (V.c (C.int IntKind.i64 (0 : Int))) m) (∃ n0 : Nat, 
 (((0 : Int) = ((n0 : Nat) : Int)) ∧ ((n0 < (slLen a100)) ∧ (∃ x1 : Int, (((ldC m (slAt a100 (n0 * 1))) = (Option.some (C.int IntKind.i64 x1))) ∧ 
 (isSl a100 ∧ (∀ R2 : List V → M → Prop, ((∀ x3 : Int, (∀ x4 : Int, (∀ m5 : M, ((ifB (decide (x4 < (((slLen a100) : Nat) : Int))) (∃ n6 : Nat, 
 ((x4 = ((n6 : Nat) : Int)) ∧ ((n6 < (slLen a100)) ∧ (∃ x7 : Int, (((ldC m5 (slAt a100 (n6 * 1))) = (Option.some (C.int IntKind.i64 x7))) ∧ 
 (ifB (decide (x7 < x3)) (fitsP IntKind.i64 (x4 + (1 : Int)) ∧ (R2 [(V.c (C.int IntKind.i64 x7)), 
 (V.c (C.int IntKind.i64 (x4 + (1 : Int))))] m5)) (fitsP IntKind.i64 (x4 + (1 : Int)) ∧ 
 (R2 [(V.c (C.int IntKind.i64 x3)), (V.c (C.int IntKind.i64 (x4 + (1 : Int))))] m5)))))))) (Q (V.c (C.int IntKind.i64 x3)) m5)) → 
 (R2 [(V.c (C.int IntKind.i64 x3)), (V.c (C.int IntKind.i64 x4))] m5))))) → (R2 [(V.c (C.int IntKind.i64 x1)), 
 (V.c (C.int IntKind.i64 (0 : Int)))] m)))))))))))) : Wc prog tbl 101 [(V.c a100)] m Q :=
 wc_eq (n := 1) rfl (by kernel_rfl) (by kernel_rfl) h
theorem w108 {a100 : Int} {a101 : Int} {a102 : C} {a103 : Int} {a104 : C} {a105 : C} {a200 : Bool} {a201 : Bool} {a202 : Bool} {a203 : Bool} {a204 : Bool} {a205 : Bool} {m : M} {Q : V → M → Prop} (h :
 (∀ m0 : M, ((m0 = (M.new m (AO.cells 6 [(C.int IntKind.i64 a100), (C.int IntKind.i64 a101), a102, (C.int IntKind.i64 a103), 
 a104, a105] false))) → (∀ m1 : M, ((m1 = (M.new m0 (AO.cells 6 [(C.bool a200), (C.bool a201), (C.bool a202), 
 (C.bool a203), (C.bool a204), (C.bool a205)] false))) → (Q (V.c (C.fn (Fn.func 120) [] [(W.c (C0.ptr (m).nxt 0)), 
 (W.c (C0.ptr (m0).nxt 0))])) m1)))))) : Wc prog tbl 108 [(V.agg 6 [(C.int IntKind.i64 a100), (C.int IntKind.i64 a101), a102, (C.int IntKind.i64 a103), a104, a105]), (V.agg 6 [(C.bool a200), (C.bool a201), (C.bool a202), (C.bool a203), (C.bool a204), (C.bool a205)])] m Q :=
 wc_eq (n := 2) rfl (by kernel_rfl) (by kernel_rfl) h
end
end Go.Proofs.Ytgkjfhkjgdiodaa

namespace Go.Proofs.Ytgkjfhkjgdiodaa
open _root_.Go.Proofs.Try
open Go.Abs
set_option maxRecDepth 100000
noncomputable section
/-- the marks of a list -/
def marksL (B : List Bool) : List Int → List Bool
  | [] => B
  | v :: D => marksL (B.set v.toNat true) D
theorem marksL_step {D : List Int} {i : Nat} (hi : i < D.length) (B : List Bool) : marksL B (D.drop i) = marksL (B.set D[i].toNat true) (D.drop (i + 1)) := by rw [List.drop_eq_getElem_cons hi]; rfl
theorem s108 {r c sm : Int} {x y : C} {L : List Int} {N : List Cnt} {mb : Nat} {f : Spot → Option U} {O : List Bool} {m : M} {Q : V → M → Prop} (hw : Wk m L N mb f) (hx : Li m x L) (hO : O.length = 6)
    (h : ∀ m' b b2, Ext m m' → Rd r c sm x y L N mb f O b b2 m' → m.nxt ≤ b → m.nxt ≤ b2 → Q (.c (.fn (.func 120) [] [.c (.ptr b 0), .c (.ptr b2 0)])) m') :
    Wc prog tbl 108 [.agg 6 [.int .i64 r, .int .i64 c, x, .int .i64 sm, y, .map mb], .agg 6 (bls O)] m Q := by
  obtain ⟨a0, a1, a2, a3, a4, a5, rfl⟩ := six hO
  refine w108 fun m0 e0 m1 e1 => ?_
  obtain ⟨b0, x0⟩ := Bk.new e0
  obtain ⟨b1, x1⟩ := Bk.new e1
  have x01 := x0.trans x1
  exact h m1 m.nxt m0.nxt x01 ⟨b0.ext x1, b1, hw.ext x01, hx.ext x01⟩ (Nat.le_refl _) x0.nxt
theorem ds_old {x : C} {L : List Int} {mb b b2 : Nat} {m : M} {N : List Cnt} {f : Spot → Option U} (hw : Wk m L N mb f) (hx : Li m x L) {b' : Nat} (h : Ds x mb b b2 b') : b' = b ∨ b' = b2 ∨ b' < m.nxt := by
  rcases h with h | h | rfl | ⟨o, n, s, d, hq⟩
  · exact .inl h
  · exact .inr (.inl h)
  · exact .inr (.inr hw.mp.lt)
  · rcases hx.val with ⟨hx2, _⟩ | ⟨b3, o3, s3, c3, hx2, hlt, _⟩
    · rw [hq] at hx2; cases hx2
    · rw [hq] at hx2; cases hx2; exact .inr (.inr hlt)
theorem s91 {r c sm : Int} {x y z : C} {L D : List Int} {N : List Cnt} {mb : Nat} {f : Spot → Option U} {m : M} {Q : V → M → Prop} (hw : Wk m L N mb f) (hx : Li m x L) (hf : isField r c L = true) (hz : Li m z D) (hD : D.length ≤ 1000) (hD6 : ∀ v ∈ D, 0 ≤ v ∧ v < 6)
    (h : ∀ m', Ext m m' → Q (.c (.bool (!(truthsV c sm L N (marksL false6 D)).isEmpty))) m') :
    Wc prog tbl 91 [.agg 6 [.int .i64 r, .int .i64 c, x, .int .i64 sm, y, .map mb], .c z] m Q := by
  refine w91 fun m0 e0 m1 e1 m2 e2 => ?_
  obtain ⟨b0, x0⟩ := Bk.new e0
  obtain ⟨b1, x1⟩ := Bk.new e1
  obtain ⟨b2, x2⟩ := Bk.new e2
  have n0 : m0.nxt = m.nxt + 1 := by rw [e0]; rfl
  have n1 : m1.nxt = m.nxt + 2 := by rw [e1]; show m0.nxt + 1 = _; omega
  have n2 : m2.nxt = m.nxt + 3 := by rw [e2]; show m1.nxt + 1 = _; omega
  refine ⟨hz.isSl, fun R3 hstep => ?_⟩
  have hgo : ∀ (d i : Nat) (m5 : M) (B : List Bool), d + i = D.length → Ext m m5 → Bk m5 m.nxt 6 [.int .i64 r, .int .i64 c, x, .int .i64 sm, y, .map mb] → Bk m5 m0.nxt 1 [.bool false] → Bk m5 m1.nxt 6 (bls B) → B.length = 6 →
      marksL B (D.drop i) = marksL false6 D → R3 [.c (.int .i64 (i : Int))] m5 := by
    intro d
    induction d with
    | zero =>
      intro i m5 B hd e5 k0 k1 k2 hB hm
      refine hstep _ _ ?_
      rw [hz.slLen, ifB_dec]
      refine ⟨fun h1 => by omega, fun _ => ?_⟩
      rw [List.drop_eq_nil_of_le (by omega)] at hm
      have hBe : B = marksL false6 D := hm
      refine ⟨r, c, x, sm, y, .map mb, k0.ra, get6 k2 hB (fun l6 => Wc prog tbl 108 [.agg 6 [.int .i64 r, .int .i64 c, x, .int .i64 sm, y, .map mb], .agg 6 l6] m5 _) ?_⟩
      refine s108 (hw.ext e5) (hx.ext e5) hB fun m23 b b2 e23 hR hb hb2 => ⟨_, rfl, ?_⟩
      have k1' := k1.ext e23
      have hflag : ∀ b', b' = m0.nxt → ¬ Ds x mb b b2 b' := fun b' hb' hds => by
        rcases ds_old (m := m) hw hx hds with h1 | h1 | h1
        · have := k1.lt; omega
        · have := k1.lt; omega
        · omega
      have e523 : Ext m m23 := e5.trans e23
      refine range_iter (without_iter hf hB) hR (J := fun i S m => i = 0 ∧ (∀ b', S b' ↔ b' = m0.nxt) ∧ Bk m m0.nxt 1 [.bool false]) (X := fun ex S m => ex = .ret ∧ truthsV c sm L N B ≠ [] ∧ (∀ b', S b' ↔ b' = m0.nxt) ∧ Bk m m0.nxt 1 [.bool true])
        (fun i => ⟨fun S ma mb' hj hn hv hg _ => ⟨hj.1, hj.2.1, (hg m0.nxt ((hj.2.1 _).2 rfl)).trans hj.2.2.g, Nat.lt_of_lt_of_le hj.2.2.lt hn⟩, fun S ma hj b' hb' => by rw [(hj.2.1 b').1 hb']; exact hj.2.2.lt⟩)
        (fun ex => ⟨fun S ma mb' hj hn hv hg _ => ⟨hj.1, hj.2.1, hj.2.2.1, (hg m0.nxt ((hj.2.2.1 _).2 rfl)).trans hj.2.2.2.g, Nat.lt_of_lt_of_le hj.2.2.2.lt hn⟩, fun S ma hj b' hb' => by rw [(hj.2.2.1 b').1 hb']; exact hj.2.2.2.lt⟩)
        (S0 := fun b' => b' = m0.nxt) ⟨rfl, fun _ => Iff.rfl, k1'⟩ (fun b' hb' => hflag b' hb') ?_ ?_ ?_ ?_
      · intro i xv S ma B' enter K hxv hj hlt hSl hown henter hK
        obtain ⟨hi0, hS, hkb⟩ := hj
        subst hi0
        have hne : truthsV c sm L N B ≠ [] := fun h0 => by rw [h0] at hxv; cases hxv
        have hxv' := hxv
        unfold truthsV at hxv'
        rw [List.getElem?_map] at hxv'
        cases hH : (exts c sm L N B L.length [])[0]? with
        | none => rw [hH] at hxv'; cases hxv'
        | some H =>
          rw [hH] at hxv'
          have hxe : [V.agg 9 (ints (pad H))] = xv := by injection hxv'
          have hlenH : H.length = L.length := ((mem_exts hf H L.length 0 [] (by omega) rfl).1 (List.mem_of_getElem? hH)).1
          obtain ⟨_, hL9, _⟩ := field_of hf
          obtain ⟨p0, p1, p2, p3, p4, p5, p6, p7, p8, hp⟩ := nine (pad_len (H := H) (by omega))
          refine ⟨p0, p1, p2, p3, p4, p5, p6, p7, p8, by rw [← hxe, hp]; rfl, henter ma _ rfl fun m3 hn3 hv3 hg3 hB3 => ?_⟩
          have hne0 : m0.nxt ≠ m23.nxt := by have := k1'.lt; omega
          have k3 : Bk m3 m0.nxt 1 [.bool false] := ⟨(hg3 _ hne0).trans hkb.g, by rw [hn3]; exact hkb.lt⟩
          refine ⟨_, k3.st _, hK .ret S _ (hB3 _ (by rw [M.g_set, if_neg (by omega)])) (by show ma.nxt ≤ m3.nxt; omega) hv3 (fun b' hb' hSb hbl => ?_) (Own.refl S ma) ⟨rfl, hne, hS, k3.set _⟩⟩
          rw [M.g_set, if_neg fun h0 => hSb ((hS b').2 h0)]
          exact hg3 b' hbl
      · intro S' m5' hown hlt hv hg hj
        obtain ⟨hx0, hS, hkb⟩ := hj
        have hemp : (truthsV c sm L N B).isEmpty = true := by simpa using hx0
        refine ⟨_, hkb.st _, false, (hkb.set _).rc rfl, ?_⟩
        have hext : Ext m (m5'.set m0.nxt (.cells 1 [.bool false] false)) := Ext.setR (m' := m5') ⟨Nat.le_trans e523.nxt (Nat.le_of_lt hlt), fun b' hb' => by rw [hg b' (Nat.lt_of_lt_of_le hb' e523.nxt) (by omega)]; exact e523.g b' hb', hv.trans e523.vw⟩ (by omega) _
        have hq := h _ hext
        rw [← hBe, hemp] at hq
        exact hq
      · intro id S' m5' hown hlt hv hg hj
        cases hj.1
      · intro S' m5' hown hlt hv hg hj
        obtain ⟨_, hne, hS, hkb⟩ := hj
        have hemp : (truthsV c sm L N B).isEmpty = false := by
          cases ht : truthsV c sm L N B with
          | nil => exact absurd ht hne
          | cons a l => rfl
        refine ⟨true, hkb.rc rfl, ?_⟩
        have hext : Ext m m5' := ⟨Nat.le_trans e523.nxt (Nat.le_of_lt hlt), fun b' hb' => by rw [hg b' (Nat.lt_of_lt_of_le hb' e523.nxt) (by omega)]; exact e523.g b' hb', hv.trans e523.vw⟩
        have hq := h _ hext
        rw [← hBe, hemp] at hq
        exact hq
    | succ d ih =>
      intro i m5 B hd e5 k0 k1 k2 hB hm
      refine hstep _ _ ?_
      rw [hz.slLen, ifB_dec]
      refine ⟨fun _ => ?_, fun h1 => absurd (by omega) h1⟩
      have hi : i < D.length := by omega
      have hv := hD6 _ (List.getElem_mem hi)
      obtain ⟨v, hve⟩ : ∃ v : Nat, D[i] = (v : Int) := ⟨D[i].toNat, by omega⟩
      have hat := stC_at k2.g (k := 0 + v * 1) (.bool true) (by rw [bls_len, hB]; omega) (by rw [bls_len, hB]) (by omega)
      refine ⟨i, rfl, hi, D[i], Li.rd (hz.ext e5) (List.getElem?_eq_getElem hi), trivial, v, hve, by omega, _, hat, fits_small (by omega) (by omega), ?_⟩
      refine ih (i + 1) _ (B.set v true) (by omega) (e5.setR (by omega) _) (k0.setNe (by omega) _) (k1.setNe (by omega) _) ?_ (by rw [List.length_set]; exact hB) ?_
      · rw [bls_set, show 0 + v * 1 = v by omega]; exact k2.set _
      · rw [← hm, marksL_step hi, hve]; rfl
  exact hgo D.length 0 m2 false6 (by omega) ((x0.trans x1).trans x2) ((b0.ext x1).ext x2) (b1.ext x2) b2 rfl rfl
end
end Go.Proofs.Ytgkjfhkjgdiodaa

namespace Go.Proofs.Ytgkjfhkjgdiodaa
open _root_.Go.Proofs.Try
open Go.Abs
set_option maxRecDepth 100000
noncomputable section
def truthsP (c sm : Int) (L : List Int) (N : List Cnt) : List (List Int) := exts c sm L N false6 L.length []
def trueErr (r c : Int) (L : List Int) (sm : Int) (N : List Cnt) : Int := if svErr r c L sm N = 0 then (if (truthsP c sm L N).isEmpty then 9 else 0) else svErr r c L sm N
theorem truthsV_emp (c sm : Int) (L : List Int) (N : List Cnt) : (truthsV c sm L N (marksL false6 [])).isEmpty = (truthsP c sm L N).isEmpty := by
  show (truthsV c sm L N false6).isEmpty = _
  unfold truthsV truthsP
  cases exts c sm L N false6 L.length [] <;> rfl
/-- openTrue -/
theorem s81 {r c sm : Int} {x y : C} {L : List Int} {N : List Cnt} {m : M} {Q : V → M → Prop} (hx : Li m x L) (hL : L.length ≤ 1048576) (hy : Lc m y N) (hN : N.length ≤ 1000)
    (hbad : trueErr r c L sm N ≠ 0 → ∀ m', Ext m m' → Q (.tup [.agg 6 [.int .i64 0, .int .i64 0, .sl0, .int .i64 0, .sl0, .map0], .c (.int .i64 (trueErr r c L sm N))]) m')
    (hgood : trueErr r c L sm N = 0 → ∀ m' mb f, Ext m m' → Wk m' L N mb f → Q (.tup [.agg 6 [.int .i64 r, .int .i64 c, x, .int .i64 sm, y, .map mb], .c (.int .i64 0)]) m') :
    Wc prog tbl 81 [.agg 5 [.int .i64 r, .int .i64 c, x, .int .i64 sm, y]] m Q := by
  refine w81 fun m0 e0 m1 e1 => ?_
  obtain ⟨b0, x0⟩ := Bk.new e0
  obtain ⟨b1, x1⟩ := Bk.new e1
  have x01 := x0.trans x1
  have n0 : m0.nxt = m.nxt + 1 := by rw [e0]; rfl
  refine ⟨r, c, x, sm, y, (b0.ext x1).ra, s37 (hx.ext x01) hL (hy.ext x01) hN fun m8 e8 => ⟨_, rfl, ?_⟩⟩
  have x8 := x01.trans e8
  have k0 := (b0.ext x1).ext e8
  have k1 := b1.ext e8
  rw [ifB_ndec]
  refine ⟨fun h1 => ?_, fun h1 => ?_⟩
  · have ht : trueErr r c L sm N = svErr r c L sm N := by unfold trueErr; rw [if_neg h1]
    refine ⟨_, k1.st _, 0, 0, .sl0, 0, .sl0, .map0, (k1.set _).ra, ?_⟩
    have hq := hbad (by rw [ht]; exact h1) _ (x8.setR (b := m0.nxt) (by omega) (.cells 6 [.int .i64 0, .int .i64 0, .sl0, .int .i64 0, .sl0, .map0] false))
    rw [ht] at hq
    exact hq
  obtain ⟨hO, hsm⟩ := okay_of h1
  refine ⟨r, c, x, sm, y, k0.ra, s76 (hx.ext x8) (hy.ext x8) hO fun m23 mb f e23 hmp hms => ⟨r, c, x, sm, y, .map mb, rfl, fun m30 h30 => ?_⟩⟩
  obtain ⟨b30, x30⟩ := Bk.new h30
  have k31 := b30.set [.int .i64 r, .int .i64 c, x, .int .i64 sm, y, .map mb]
  have e31 : Ext m23 (m30.set m23.nxt (.cells 6 [.int .i64 r, .int .i64 c, x, .int .i64 sm, y, .map mb] false)) := x30.setR (Nat.le_refl _) _
  refine ⟨_, b30.st _, r, c, x, sm, y, .map mb, k31.ra, ?_⟩
  generalize m30.set m23.nxt (.cells 6 [.int .i64 r, .int .i64 c, x, .int .i64 sm, y, .map mb] false) = m31 at k31 e31
  have x31 := (x8.trans e23).trans e31
  have hw31 : Wk m31 L N mb f := ⟨hmp.ext e31, hms⟩
  refine s91 hw31 (hx.ext x31) hO.f (D := []) (Ls.nil m31 1) (by simp) (by simp) fun m39 e39 => ⟨_, rfl, ?_⟩
  have x39 := x31.trans e39
  have k1' := ((k1.ext e23).ext e31).ext e39
  rw [truthsV_emp, Bool.not_not, ifB_iff]
  refine ⟨fun h2 => ?_, fun h2 => ?_⟩
  · have ht : trueErr r c L sm N = 9 := by unfold trueErr; rw [if_pos h1, h2]; rfl
    refine ⟨_, k1'.st _, 0, 0, .sl0, 0, .sl0, .map0, (k1'.set _).ra, ?_⟩
    have hq := hbad (by rw [ht]; decide) _ (x39.setR (b := m0.nxt) (by omega) (.cells 6 [.int .i64 0, .int .i64 0, .sl0, .int .i64 0, .sl0, .map0] false))
    rw [ht] at hq
    exact hq
  · have ht : trueErr r c L sm N = 0 := by unfold trueErr; rw [if_pos h1, h2]; rfl
    refine ⟨r, c, x, sm, y, .map mb, (k31.ext e39).ra, _, k1'.st _, r, c, x, sm, y, .map mb, (k1'.set _).ra, ?_⟩
    have hne : mb ≠ m0.nxt := fun h3 => by
      obtain ⟨es, clock, hg, _⟩ := (hw31.ext e39).mp.ex
      rw [h3, k1'.g] at hg
      cases hg
    exact hgood ht _ mb f (x39.setR (by omega) _) ⟨((hw31.ext e39).mp.setNe hne _), hms⟩
end
end Go.Proofs.Ytgkjfhkjgdiodaa

namespace Go.Proofs.Ytgkjfhkjgdiodaa
open _root_.Go.Proofs.Try
open Go.Abs
set_option maxRecDepth 100000
noncomputable section
def minR (a : Int) : List Int → Int
  | [] => a
  | v :: D => minR (if v < a then v else a) D
def maxR (a : Int) : List Int → Int
  | [] => a
  | v :: D => maxR (max a v) D
theorem minR_step {D : List Int} {i : Nat} (hi : i < D.length) (a : Int) : minR a (D.drop i) = minR (if D[i] < a then D[i] else a) (D.drop (i + 1)) := by rw [List.drop_eq_getElem_cons hi]; rfl
theorem maxR_step {D : List Int} {i : Nat} (hi : i < D.length) (a : Int) : maxR a (D.drop i) = maxR (max a D[i]) (D.drop (i + 1)) := by rw [List.drop_eq_getElem_cons hi]; rfl
def loOf : List Int → Int
  | [] => 0
  | v :: D => minR v (v :: D)
def hiOf : List Int → Int
  | [] => 0
  | v :: D => maxR v D
theorem s101 {z : C} {D : List Int} {m : M} {Q : V → M → Prop} (hz : Li m z D) (hD : D.length ≤ 100000) (h : Q (.c (.int .i64 (loOf D))) m) : Wc prog tbl 101 [.c z] m Q := by
  refine w101 ⟨hz.isSl, ?_⟩
  rw [hz.slLen, ifB_dec]
  refine ⟨fun h0 => ?_, fun h0 => ?_⟩
  · have : D = [] := List.eq_nil_of_length_eq_zero (by omega)
    subst this; exact h
  · have h1 : 0 < D.length := by omega
    refine ⟨0, rfl, h1, D[0], Li.rd hz (List.getElem?_eq_getElem h1), hz.isSl, fun R2 hstep => ?_⟩
    have hlo : loOf D = minR D[0] (D.drop 0) := by
      cases D with
      | nil => simp at h1
      | cons v D => rfl
    have hgo : ∀ (d i : Nat) (a : Int), d + i = D.length → minR a (D.drop i) = loOf D → R2 [.c (.int .i64 a), .c (.int .i64 (i : Int))] m := by
      intro d
      induction d with
      | zero =>
        intro i a hd heq
        refine hstep _ _ _ ?_
        rw [ifB_dec]
        refine ⟨fun h1 => by omega, fun _ => ?_⟩
        rw [List.drop_eq_nil_of_le (by omega)] at heq
        rw [← heq] at h
        exact h
      | succ d ih =>
        intro i a hd heq
        refine hstep _ _ _ ?_
        rw [ifB_dec]
        refine ⟨fun _ => ?_, fun h1 => absurd (by omega) h1⟩
        have hi : i < D.length := by omega
        rw [minR_step hi] at heq
        refine ⟨i, rfl, hi, D[i], Li.rd hz (List.getElem?_eq_getElem hi), ?_⟩
        rw [ifB_dec]
        refine ⟨fun h2 => ⟨fits_small (by omega) (by omega), ih (i + 1) _ (by omega) (by rw [if_pos h2] at heq; exact heq)⟩, fun h2 => ⟨fits_small (by omega) (by omega), ih (i + 1) _ (by omega) (by rw [if_neg h2] at heq; exact heq)⟩⟩
    exact hgo D.length 0 D[0] (by omega) hlo.symm
theorem s102 {z : C} {D : List Int} {m : M} {Q : V → M → Prop} (hz : Li m z D) (hD : D.length ≤ 100000) (h1 : 0 < D.length) (h : Q (.c (.int .i64 (hiOf D))) m) : Wc prog tbl 102 [.c z] m Q := by
  refine w102 ⟨hz.isSl, ?_⟩
  rw [hz.slLen, ifB_dec]
  refine ⟨fun h0 => by omega, fun h0 => ?_⟩
  refine ⟨0, rfl, h1, D[0], Li.rd hz (List.getElem?_eq_getElem h1), fun R2 hstep => ?_⟩
  have hlo : hiOf D = maxR D[0] (D.drop 1) := by
    cases D with
    | nil => simp at h1
    | cons v D => rfl
  have hgo : ∀ (d i : Nat) (a : Int), d + i = D.length → maxR a (D.drop i) = hiOf D → R2 [.c (.int .i64 a), .c (.int .i64 (i : Int))] m := by
    intro d
    induction d with
    | zero =>
      intro i a hd heq
      refine hstep _ _ _ ⟨hz.isSl, ?_⟩
      rw [ifB_dec]
      refine ⟨fun h1 => by omega, fun _ => ?_⟩
      rw [List.drop_eq_nil_of_le (by omega)] at heq
      rw [← heq] at h
      exact h
    | succ d ih =>
      intro i a hd heq
      refine hstep _ _ _ ⟨hz.isSl, ?_⟩
      rw [ifB_dec]
      refine ⟨fun _ => ?_, fun h1 => absurd (by omega) h1⟩
      have hi : i < D.length := by omega
      rw [maxR_step hi] at heq
      exact ⟨i, rfl, hi, D[i], Li.rd hz (List.getElem?_eq_getElem hi), fits_small (by omega) (by omega), ih (i + 1) _ (by omega) heq⟩
  exact hgo (D.length - 1) 1 D[0] (by omega) hlo.symm
theorem s100 {r c sm : Int} {x y : C} {L : List Int} {N : List Cnt} {mb : Nat} {f : Spot → Option U} {m : M} {Q : V → M → Prop} (hw : Wk m L N mb f) (hx : Li m x L)
    (h : ∀ m' b b2, Ext m m' → Rd r c sm x y L N mb f false6 b b2 m' → m.nxt ≤ b → m.nxt ≤ b2 → Q (.c (.fn (.func 120) [] [.c (.ptr b 0), .c (.ptr b2 0)])) m') :
    Wc prog tbl 100 [.agg 6 [.int .i64 r, .int .i64 c, x, .int .i64 sm, y, .map mb]] m Q := by
  refine w100 fun m0 e0 => ?_
  obtain ⟨b0, x0⟩ := Bk.new e0
  exact ⟨r, c, x, sm, y, .map mb, b0.ra, s108 (O := false6) (hw.ext x0) (hx.ext x0) rfl fun m' b b2 e hR h1 h2 => ⟨_, rfl, h m' b b2 (x0.trans e) hR (Nat.le_trans x0.nxt h1) (Nat.le_trans x0.nxt h2)⟩⟩
/-- a function value gives a number for each truth -/
def NumOf (r c sm : Int) (x y : C) (mb : Nat) (m : M) (T : List (List Int)) (fnc : C) (num : List Int → Int) : Prop :=
  ∀ m' H, H ∈ T → Ext m m' → ∀ Q : V → M → Prop, (∀ m'', Ext m' m'' → Q (.c (.int .i64 (num H))) m'') → callP prog tbl [.agg 6 [.int .i64 r, .int .i64 c, x, .int .i64 sm, y, .map mb], .agg 9 (ints (pad H))] fnc m' Q
theorem s82 {r c sm : Int} {x y : C} {L : List Int} {N : List Cnt} {mb : Nat} {f : Spot → Option U} {fnc : C} {num : List Int → Int} {m : M} {Q : V → M → Prop} (hw : Wk m L N mb f) (hx : Li m x L) (hf : isField r c L = true)
    (hne : 0 < (truthsP c sm L N).length) (hle : (truthsP c sm L N).length ≤ 100000) (hnum : NumOf r c sm x y mb m (truthsP c sm L N) fnc num)
    (h : ∀ m', Ext m m' → Q (.agg 2 [.int .i64 (loOf ((truthsP c sm L N).map num)), .int .i64 (hiOf ((truthsP c sm L N).map num))]) m') :
    Wc prog tbl 82 [.agg 6 [.int .i64 r, .int .i64 c, x, .int .i64 sm, y, .map mb], .agg 1 [fnc]] m Q := by
  obtain ⟨_, hL9, _⟩ := field_of hf
  refine w82 fun m0 e0 m1 e1 m2 e2 m3 e3 => ?_
  obtain ⟨b0, x0⟩ := Bk.new e0
  obtain ⟨b1, x1⟩ := Bk.new e1
  obtain ⟨b2, x2⟩ := Bk.new e2
  obtain ⟨b3, x3⟩ := Bk.new e3
  have n0 : m0.nxt = m.nxt + 1 := by rw [e0]; rfl
  have n1 : m1.nxt = m.nxt + 2 := by rw [e1]; show m0.nxt + 1 = _; omega
  have n2 : m2.nxt = m.nxt + 3 := by rw [e2]; show m1.nxt + 1 = _; omega
  have n3 : m3.nxt = m.nxt + 4 := by rw [e3]; show m2.nxt + 1 = _; omega
  have x03 := ((x0.trans x1).trans x2).trans x3
  refine ⟨r, c, x, sm, y, .map mb, (((b0.ext x1).ext x2).ext x3).ra, s100 (hw.ext x03) (hx.ext x03) fun mL bb bb2 eL hR hbb hbb2 => ⟨_, rfl, ?_⟩⟩
  have kw := (((b0.ext x1).ext x2).ext x3).ext eL
  have kq := ((b1.ext x2).ext x3).ext eL
  have kr := (b2.ext x3).ext eL
  have kn := b3.ext eL
  have xL := x03.trans eL
  clear e0 e1 e2 e3 b0 b1 b2 b3 x0 x1 x2 x3
  generalize hnb : m2.nxt = nb at n2 kn
  have hnbL := kn.lt
  have hflag : ∀ b', b' = nb → ¬ Ds x mb bb bb2 b' := fun b' hb' hds => by
    rcases ds_old (m := m) hw hx hds with h1 | h1 | h1
    · omega
    · omega
    · omega
  have hlen : (truthsV c sm L N false6).length = (truthsP c sm L N).length := by unfold truthsV truthsP; rw [List.length_map]
  refine range_iter (without_iter hf rfl) hR
    (J := fun i S ma => ∃ s : C, (∀ b', S b' ↔ b' = nb ∨ ∃ o n s' d, s = .sl b' o n s' d) ∧ (∀ b' o n s' d, s = .sl b' o n s' d → mL.nxt ≤ b') ∧ Bk ma nb 1 [s] ∧ Own1 ma 1 s (ints (((truthsP c sm L N).map num).take i)) i ∧ mL.nxt ≤ ma.nxt ∧ ma.vw = mL.vw ∧ ∀ b', b' < mL.nxt → b' ≠ nb → ma.g b' = mL.g b')
    (X := fun _ _ _ => False) (fun i => ⟨fun S ma mb' hj hn hv hg hlow => ?_, fun S ma hj b' hb' => ?_⟩) (fun ex => ⟨fun _ _ _ hj _ _ _ _ => hj, fun _ _ hj => hj.elim⟩) (S0 := fun b' => b' = nb) ?_ (fun b' hb' => hflag b' hb') ?_ ?_ (fun _ _ _ _ _ _ _ hj => hj.elim) (fun _ _ _ _ _ _ hj => hj.elim)
  · obtain ⟨s, q1, q2, q3, q4, q5, q6, q7⟩ := hj
    exact ⟨s, q1, q2, ⟨(hg nb ((q1 nb).2 (.inl rfl))).trans q3.g, Nat.lt_of_lt_of_le q3.lt hn⟩, q4.to hn (fun b' _ hx' => by obtain ⟨s', d, hx'⟩ := hx'; exact hg b' ((q1 b').2 (.inr ⟨_, _, s', d, hx'⟩))), Nat.le_trans q5 hn, hv.trans q6, fun b' hb' hne' => (hlow b' hb').trans (q7 b' hb' hne')⟩
  · obtain ⟨s, q1, q2, q3, q4, q5, q6, q7⟩ := hj
    rcases (q1 b').1 hb' with rfl | ⟨o, n, s', d, hx'⟩
    · exact q3.lt
    · exact q4.lt hx'
  · exact ⟨.sl0, fun b' => ⟨fun h => .inl h, fun h => h.elim id fun ⟨_, _, _, _, h2⟩ => (by cases h2)⟩, fun _ _ _ _ _ h => (by cases h), kn, Own1.nil' _ _, Nat.le_refl _, rfl, fun _ _ _ => rfl⟩
  · intro i xv S ma B' enter K hxv hj hlt hSl hown henter hK
    obtain ⟨s, q1, q2, q3, q4, q5, q6, q7⟩ := hj
    have hxv' := hxv
    unfold truthsV at hxv'
    rw [List.getElem?_map] at hxv'
    cases hH : (exts c sm L N false6 L.length [])[i]? with
    | none => rw [hH] at hxv'; cases hxv'
    | some H =>
    rw [hH] at hxv'
    have hxe : [V.agg 9 (ints (pad H))] = xv := by injection hxv'
    have hmem : H ∈ truthsP c sm L N := List.mem_of_getElem? hH
    have hlenH : H.length = L.length := ((mem_exts hf H L.length 0 [] (by omega) rfl).1 hmem).1
    have hiT : i < (truthsP c sm L N).length := (List.getElem?_eq_some_iff.1 hH).1
    obtain ⟨p0, p1, p2, p3, p4, p5, p6, p7, p8, hp⟩ := nine (pad_len (H := H) (by omega))
    refine ⟨p0, p1, p2, p3, p4, p5, p6, p7, p8, by rw [← hxe, hp]; rfl, fun m26 h26 => ?_⟩
    obtain ⟨b26, x26⟩ := Bk.new h26
    refine ⟨_, b26.st _, ?_⟩
    have k27 := b26.set (ints [p0, p1, p2, p3, p4, p5, p6, p7, p8])
    have e27 : Ext ma (m26.set ma.nxt (.cells 9 (ints [p0, p1, p2, p3, p4, p5, p6, p7, p8]) false)) := x26.setR (Nat.le_refl _) _
    show enter (m26.set ma.nxt (.cells 9 (ints [p0, p1, p2, p3, p4, p5, p6, p7, p8]) false)) _
    generalize m26.set ma.nxt (.cells 9 (ints [p0, p1, p2, p3, p4, p5, p6, p7, p8]) false) = m27 at k27 e27
    refine henter m27 _ (e27.g _ hlt) fun m28 hn28 hv28 hg28 hB28 => ?_
    -- memory, but for the loop's record
    have hsne : ∀ b' o n s' d, s = .sl b' o n s' d → b' ≠ mL.nxt := fun b' o n s' d hs he => hSl ((q1 _).2 (.inr ⟨o, n, s', d, by rw [← he]; exact hs⟩))
    have hold : ∀ b', b' < mL.nxt → b' ≠ nb → m28.g b' = mL.g b' := fun b' hb' hne' => by rw [hg28 b' (by omega), e27.g b' (by omega)]; exact q7 b' hb' hne'
    have hx28 : Ext m m28 := ⟨by rw [hn28]; exact Nat.le_trans xL.nxt (Nat.le_trans q5 e27.nxt), fun b' hb' => by rw [hold b' (Nat.lt_of_lt_of_le hb' xL.nxt) (by omega)]; exact xL.g b' hb', by rw [hv28, e27.vw, q6]; exact xL.vw⟩
    have bk28 : ∀ {b' n : Nat} {vs : List C}, b' ≠ nb → Bk mL b' n vs → Bk m28 b' n vs := fun hne' hb => ⟨(hold _ hb.lt hne').trans hb.g, by rw [hn28]; exact Nat.lt_of_lt_of_le hb.lt (Nat.le_trans q5 e27.nxt)⟩
    have kn28 : Bk m28 nb 1 [s] := ⟨by rw [hg28 nb (by omega), e27.g nb q3.lt]; exact q3.g, by rw [hn28]; exact Nat.lt_of_lt_of_le q3.lt e27.nxt⟩
    have ho28 : Own1 m28 1 s (ints (((truthsP c sm L N).map num).take i)) i := q4.to (by rw [hn28]; exact e27.nxt) fun b' hb' hx' => by
      obtain ⟨s', d, hx'⟩ := hx'
      rw [hg28 b' (hsne b' _ _ _ _ hx')]; exact e27.g b' hb'
    have kh28 : Bk m28 ma.nxt 9 (ints [p0, p1, p2, p3, p4, p5, p6, p7, p8]) := ⟨by rw [hg28 _ (by omega)]; exact k27.g, by rw [hn28]; exact k27.lt⟩
    have hnf : noFnC s = true := ho28.ls.noFn
    refine ⟨s, kn28.rc rfl, trivial, fnc, (bk28 (by omega) kq).rc rfl, r, c, x, sm, y, .map mb, (bk28 (by omega) kw).ra, p0, p1, p2, p3, p4, p5, p6, p7, p8, kh28.ra, ?_⟩
    have hcall := hnum m28 H hmem hx28
    rw [hp] at hcall
    refine hcall _ fun m47 e47 => ⟨_, rfl, ?_, fun m49 h49 => ⟨?_, ?_⟩⟩
    · rw [hnf]; exact (kn28.ext e47).rc rfl
    · obtain ⟨_, x49⟩ := Bk.new h49
      rw [hnf]; exact ((kn28.ext e47).ext x49).rc rfl
    obtain ⟨c50, m51, a1, a2, a3, a4, a4v, a5⟩ := ap_one t22 g3 z3 (by omega) (ho28.ext e47) (ws := [.int .i64 (num H)]) rfl (by omega) h49
    have hsnb : ∀ b' o n s' d, s = .sl b' o n s' d → b' ≠ nb := fun b' o n s' d hs he => by have := q2 b' o n s' d hs; omega
    have kn51 : Bk m51 nb 1 [s] := Bk.keep (kn28.ext e47) a4 a5 hsnb
    have hslB : ∀ b', (∀ o n s' d, s ≠ .sl b' o n s' d) → slB s ≠ some b' := fun b' hb' hsb => by
      cases s with
      | sl b3 o n s' d =>
        cases d with
        | none =>
          have h2 : some b3 = some b' := hsb
          cases h2; exact hb' _ _ _ _ rfl
        | some d => cases hsb
      | _ => cases hsb
    have hL47 : mL.nxt < m47.nxt := Nat.lt_of_lt_of_le (Nat.lt_of_lt_of_le hlt (by rw [hn28]; exact e27.nxt)) e47.nxt
    have ha47 : ma.nxt ≤ m47.nxt := Nat.le_trans (by rw [hn28]; exact e27.nxt) e47.nxt
    have g51 : ∀ b', b' < ma.nxt → (∀ o n s' d, s ≠ .sl b' o n s' d) → b' ≠ mL.nxt → m51.g b' = ma.g b' := fun b' hb' hs hl => by
      rw [a5 b' (by omega) (hslB b' hs), e47.g b' (by rw [hn28]; exact Nat.lt_of_lt_of_le hb' e27.nxt), hg28 b' hl]; exact e27.g b' hb'
    refine ⟨c50, m51, a1, _, kn51.st [c50], hK .nrm (fun b' => b' = nb ∨ ∃ o n s' d, c50 = .sl b' o n s' d) _ (hB28 _ ?_) ?_ ?_ ?_ ?_ ⟨c50, fun b' => Iff.rfl, ?_, kn51.set [c50], ?_, ?_, ?_, ?_⟩⟩
    · rw [M.g_set, if_neg (by omega), a5 _ hL47 (hslB _ fun o n s' d hs => hsne _ o n s' d hs rfl), e47.g _ (by rw [hn28]; exact Nat.lt_of_lt_of_le hlt e27.nxt)]
    · exact Nat.le_trans ha47 a4
    · show m51.vw = ma.vw
      rw [a4v, e47.vw, hv28, e27.vw]
    · intro b' hb' hSb hbl
      rw [M.g_set, if_neg fun h0 => hSb ((q1 b').2 (.inl h0))]
      exact g51 b' hb' (fun o n s' d hs => hSb ((q1 b').2 (.inr ⟨o, n, s', d, hs⟩))) hbl
    · intro b' hb'
      rcases hb' with h0 | ⟨o, n, s', d, hs⟩
      · exact .inl ((q1 b').2 (.inl h0))
      · exact .inr (Nat.le_trans ha47 (a3 b' o n s' d hs))
    · intro b' o n s' d hs
      exact Nat.le_trans (Nat.le_of_lt hL47) (a3 b' o n s' d hs)
    · have h1 : ints (((truthsP c sm L N).map num).take i) ++ [.int .i64 (num H)] = ints (((truthsP c sm L N).map num).take (i + 1)) := by
        rw [List.take_add_one, List.getElem?_map]
        have hHi : (truthsP c sm L N)[i]? = some H := hH
        rw [hHi]
        show _ = ints (_ ++ [num H])
        rw [← ints_app]; rfl
      rw [h1] at a2
      exact a2.to (Nat.le_refl _) fun b' _ hx' => by
        obtain ⟨s', d, hx'⟩ := hx'
        rw [M.g_set, if_neg (by have := a3 b' _ _ _ _ hx'; omega)]
    · exact Nat.le_trans (Nat.le_of_lt hL47) a4
    · show m51.vw = mL.vw
      rw [a4v, e47.vw, hv28, e27.vw, q6]
    · intro b' hb' hne'
      rw [M.g_set, if_neg hne', g51 b' (by omega) (fun o n s' d hs => by have := q2 b' o n s' d hs; omega) (by omega)]
      exact q7 b' hb' hne'
  · intro S' m5 hown hlt hv hg hj
    obtain ⟨s, q1, q2, q3, q4, q5, q6, q7⟩ := hj
    rw [hlen] at q4
    have hT : (((truthsP c sm L N).map num).take (truthsP c sm L N).length) = (truthsP c sm L N).map num := List.take_of_length_le (by rw [List.length_map]; omega)
    rw [hT] at q4
    have hz : Li m5 s ((truthsP c sm L N).map num) := by
      have := q4.ls
      unfold Li
      rw [List.length_map]; exact this
    have kr5 : Bk m5 m1.nxt 2 [.int .i64 0, .int .i64 0] := ⟨(q7 _ kr.lt (by omega)).trans kr.g, Nat.lt_of_lt_of_le kr.lt q5⟩
    have hext : Ext m m5 := ⟨Nat.le_trans xL.nxt q5, fun b' hb' => by rw [q7 b' (Nat.lt_of_lt_of_le hb' xL.nxt) (by omega)]; exact xL.g b' hb', q6.trans xL.vw⟩
    have hlm : ((truthsP c sm L N).map num).length = (truthsP c sm L N).length := List.length_map _
    refine ⟨s, q3.rc rfl, s101 hz (by omega) ⟨_, rfl, s, q3.rc rfl, ?_, s102 hz (by omega) (by omega) ⟨_, rfl, _, kr5.st _, _, _, (kr5.set _).ra, h _ (hext.setR (by omega) _)⟩⟩⟩
    rw [q4.ls.noFn]; exact q3.rc rfl
end
end Go.Proofs.Ytgkjfhkjgdiodaa

namespace Go.Proofs.Ytgkjfhkjgdiodaa
open _root_.Go.Proofs.Try
open Go.Abs
set_option maxRecDepth 100000
noncomputable section
theorem c85 (r c sm a0 a1 a2 a3 a4 a5 a6 a7 a8 : Int) (x y z : C) (k : Nat) {m : M} {Q : V → M → Prop} (h :
 (∀ m0 : M, ((m0 = (M.new m (AO.cells 6 [(C.int IntKind.i64 r), (C.int IntKind.i64 c), x, (C.int IntKind.i64 sm), 
 y, z] false))) → (∀ m1 : M, ((m1 = (M.new m0 (AO.cells 9 [(C.int IntKind.i64 a0), (C.int IntKind.i64 a1), 
 (C.int IntKind.i64 a2), (C.int IntKind.i64 a3), (C.int IntKind.i64 a4), (C.int IntKind.i64 a5), (C.int IntKind.i64 a6), 
 (C.int IntKind.i64 a7), (C.int IntKind.i64 a8)] false))) → (∃ x2 : Int, (((ldC m1 (C.ptr k 0)) = (Option.some (C.int IntKind.i64 x2))) ∧ 
 (isPt (C.ptr (m0).nxt 0) ∧ (∃ n3 : Nat, ((x2 = ((n3 : Nat) : Int)) ∧ ((n3 < 9) ∧ (∃ x4 : Int, (((ldC m1 (C.ptr (m0).nxt (0 + (n3 * 1)))) = (Option.some (C.int IntKind.i64 x4))) ∧ 
 (Q (V.c (C.int IntKind.i64 x4)) m1)))))))))))))) : Wc prog tbl 85 [.agg 6 [.int .i64 r, .int .i64 c, x, .int .i64 sm, y, z], .agg 9 [.int .i64 a0, .int .i64 a1, .int .i64 a2, .int .i64 a3, .int .i64 a4, .int .i64 a5, .int .i64 a6, .int .i64 a7, .int .i64 a8], .c (.ptr k 0)] m Q :=
 wc_eq (n := 3) rfl (by kernel_rfl) (by kernel_rfl) h
end
end Go.Proofs.Ytgkjfhkjgdiodaa

namespace Go.Proofs.Ytgkjfhkjgdiodaa
open _root_.Go.Proofs.Try
open Go.Abs
set_option maxRecDepth 100000
noncomputable section
theorem w41 {a100 : Int} {a101 : Int} {a102 : C} {a103 : Int} {a104 : C} {m : M} {Q : V → M → Prop} (h :
 (∀ m0 : M, ((m0 = (M.new m (AO.cells 5 [(C.int IntKind.i64 a100), (C.int IntKind.i64 a101), a102, (C.int IntKind.i64 a103), 
 a104] false))) → (∀ m1 : M, ((m1 = (M.new m0 (AO.cells 2 [(C.int IntKind.i64 (0 : Int)), (C.int IntKind.i64 (0 : Int))] false))) → 
 (∃ x2 : Int, (∃ x3 : Int, (∃ c4 : C, (∃ x5 : Int, (∃ c6 : C, (((ldA m1 (C.ptr (m).nxt 0) 5) = (Option.some [(C.int IntKind.i64 x2), 
 (C.int IntKind.i64 x3), c4, (C.int IntKind.i64 x5), c6])) ∧ (Wc prog tbl 81 [(V.agg 5 [(C.int IntKind.i64 x2), 
 (C.int IntKind.i64 x3), c4, (C.int IntKind.i64 x5), c6])] m1 (fun v7 m8 => (∃ x9 : Int, (∃ x10 : Int, 
 (∃ c11 : C, (∃ x12 : Int, (∃ c13 : C, (∃ c14 : C, (∃ x15 : Int, ((v7 = (V.tup [(U.agg 6 [(C.int IntKind.i64 x9), 
 (C.int IntKind.i64 x10), c11, (C.int IntKind.i64 x12), c13, c14]), (U.c (C.int IntKind.i64 x15))])) ∧ 
 (∀ m16 : M, ((m16 = (M.new m8 (AO.cells 6 [(C.int IntKind.i64 (0 : Int)), (C.int IntKind.i64 (0 : Int)), 
 C.sl0, (C.int IntKind.i64 (0 : Int)), C.sl0, C.map0] false))) → (∃ m17 : M, (((stC m16 (C.ptr (m8).nxt 0) 6 [(C.int IntKind.i64 x9), 
 (C.int IntKind.i64 x10), c11, (C.int IntKind.i64 x12), c13, c14]) = (Option.some m17)) ∧ 
 (ifB (!decide (x15 = (0 : Int))) (∃ m18 : M, (((stC m17 (C.ptr (m0).nxt 0) 2 [(C.int IntKind.i64 (0 : Int)), 
 (C.int IntKind.i64 (0 : Int))]) = (Option.some m18)) ∧ (∃ x19 : Int, (∃ x20 : Int, 
 (((ldA m18 (C.ptr (m0).nxt 0) 2) = (Option.some [(C.int IntKind.i64 x19), (C.int IntKind.i64 x20)])) ∧ 
 (Q (V.tup [(U.agg 2 [(C.int IntKind.i64 x19), (C.int IntKind.i64 x20)]), (U.c (C.int IntKind.i64 x15))]) m18)))))) (∃ x21 : Int, 
 (∃ x22 : Int, (∃ c23 : C, (∃ x24 : Int, (∃ c25 : C, (∃ c26 : C, (((ldA m17 (C.ptr (m8).nxt 0) 6) = (Option.some [(C.int IntKind.i64 x21), 
 (C.int IntKind.i64 x22), c23, (C.int IntKind.i64 x24), c25, c26])) ∧ (Wc prog tbl 82 [(V.agg 6 [(C.int IntKind.i64 x21), 
 (C.int IntKind.i64 x22), c23, (C.int IntKind.i64 x24), c25, c26]), (V.agg 1 [(C.fn (Fn.methodOf 114 "hailstone/frame.share") [] [])])] m17 (fun v27 m28 => 
 (∃ x29 : Int, (∃ x30 : Int, ((v27 = (V.agg 2 [(C.int IntKind.i64 x29), (C.int IntKind.i64 x30)])) ∧ 
 (∃ m31 : M, (((stC m28 (C.ptr (m0).nxt 0) 2 [(C.int IntKind.i64 x29), (C.int IntKind.i64 x30)]) = (Option.some m31)) ∧ 
 (∃ x32 : Int, (∃ x33 : Int, (((ldA m31 (C.ptr (m0).nxt 0) 2) = (Option.some [(C.int IntKind.i64 x32), 
 (C.int IntKind.i64 x33)])) ∧ (Q (V.tup [(U.agg 2 [(C.int IntKind.i64 x32), (C.int IntKind.i64 x33)]), 
 (U.c (C.int IntKind.i64 (0 : Int)))]) m31)))))))))))))))))))))))))))))))))))))))))))) : Wc prog tbl 41 [(V.agg 5 [(C.int IntKind.i64 a100), (C.int IntKind.i64 a101), a102, (C.int IntKind.i64 a103), a104])] m Q :=
 wc_eq (n := 1) rfl (by kernel_rfl) (by kernel_rfl) h
end
end Go.Proofs.Ytgkjfhkjgdiodaa

namespace Go.Proofs.Ytgkjfhkjgdiodaa
open _root_.Go.Proofs.Try
open Go.Abs
set_option maxRecDepth 100000
noncomputable section
theorem truth_of {r c sm : Int} {L H : List Int} {N : List Cnt} (hf : isField r c L = true) (h : H ∈ truthsP c sm L N) : listed L H = true := by
  have := (mem_exts hf H L.length 0 [] (by omega) rfl).1 h
  exact decide_eq_true ⟨this.1, fun i hi => (this.2.2 i (by omega) hi).1⟩
theorem num_share {r c sm : Int} {x y : C} {L : List Int} {N : List Cnt} {mb : Nat} {m : M} (hx : Li m x L) (hf : isField r c L = true) :
    NumOf r c sm x y mb m (truthsP c sm L N) (.fn (.methodOf 114 "hailstone/frame.share") [] []) (shareOf L) := by
  obtain ⟨hS, hL9, hrc⟩ := field_of hf
  intro m' H hH e Q h
  have hl := truth_of hf hH
  show Wc prog tbl 75 [.agg 5 [.int .i64 r, .int .i64 c, x, .int .i64 sm, y], .agg 9 (ints (pad H))] m' Q
  refine s75 (hx.ext e) hS hL9 (pad_len (by have := listed_len hl; omega)) (small_pad (small_listed hS hl)) fun m'' e'' => ?_
  have := h m'' e''
  rw [← shareOf_pad] at this
  exact this
theorem num_hits {r c sm : Int} {x y : C} {L : List Int} {N : List Cnt} {mb k p : Nat} {m : M} (hf : isField r c L = true) (hp : p < L.length) (hk : Bk m k 1 [.int .i64 (p : Int)]) :
    NumOf r c sm x y mb m (truthsP c sm L N) (.fn (.func 85) [] [.c (.ptr k 0)]) (fun H => H[p]!) := by
  obtain ⟨hS, hL9, hrc⟩ := field_of hf
  intro m' H hH e Q h
  have hl := truth_of hf hH
  have hlen := listed_len hl
  have hpl := pad_len (H := H) (by omega)
  obtain ⟨p0, p1, p2, p3, p4, p5, p6, p7, p8, hpe⟩ := nine hpl
  rw [hpe]
  show Wc prog tbl 85 [.agg 6 [.int .i64 r, .int .i64 c, x, .int .i64 sm, y, .map mb], .agg 9 [.int .i64 p0, .int .i64 p1, .int .i64 p2, .int .i64 p3, .int .i64 p4, .int .i64 p5, .int .i64 p6, .int .i64 p7, .int .i64 p8], .c (.ptr k 0)] m' Q
  refine c85 r c sm p0 p1 p2 p3 p4 p5 p6 p7 p8 x y (.map mb) k fun m0 e0 m1 e1 => ?_
  obtain ⟨b0, x0⟩ := Bk.new e0
  obtain ⟨b1', x1⟩ := Bk.new e1
  have b1 : Bk m1 m0.nxt 9 (ints (pad H)) := by rw [hpe]; exact b1'
  refine ⟨_, (((hk.ext e).ext x0).ext x1).rc rfl, trivial, p, rfl, by omega, _, at_rc b1 (by omega), ?_⟩
  rw [at_pad (by omega) (by omega)]
  exact h m1 (x0.trans x1)
theorem rests_len {α : Type} (g : Nat → List α) (B : Nat) (h : ∀ n, (g n).length ≤ B) : ∀ e n, (rests g e n).length ≤ e * B
  | 0, _ => by show 0 ≤ _; omega
  | e + 1, n => by
    show (g n ++ rests g e (n + 1)).length ≤ _
    rw [List.length_append, Nat.succ_mul]
    have := h n
    have := rests_len g B h e (n + 1)
    omega
def prodN : List Int → Nat
  | [] => 1
  | v :: L => (v.toNat + 1) * prodN L
theorem exts_len {c sm : Int} {L : List Int} {N : List Cnt} {O : List Bool} : ∀ (d p : Nat) (pre : List Int), d + p = L.length → pre.length = p → (exts c sm L N O d pre).length ≤ prodN (L.drop p)
  | 0, p, pre, hd, hpre => by
    rw [List.drop_eq_nil_of_le (by omega)]; exact Nat.le_refl _
  | d + 1, p, pre, hd, hpre => by
    have hpL : p < L.length := by omega
    rw [List.drop_eq_getElem_cons hpL]
    show (rests _ (L[pre.length]!.toNat + 1) 0).length ≤ (L[p].toNat + 1) * prodN (L.drop (p + 1))
    rw [hpre, getElem!_pos L p hpL]
    refine rests_len _ _ (fun n => ?_) _ _
    split
    · exact exts_len d (p + 1) _ (by omega) (by simp [hpre])
    · exact Nat.zero_le _
theorem mulL_prod : ∀ (L : List Int) (a : Int), Small L → mulL a L = a * (prodN L : Int)
  | [], a, _ => by show a = a * ((1 : Nat) : Int); omega
  | v :: L, a, h => by
    have hv := h v (List.mem_cons_self ..)
    show mulL (a * (v + 1)) L = a * (((v.toNat + 1) * prodN L : Nat) : Int)
    rw [mulL_prod L _ fun w hw => h w (List.mem_cons_of_mem _ hw), Int.natCast_mul, show ((v.toNat + 1 : Nat) : Int) = v + 1 by omega, Int.mul_assoc]
theorem few_truths {r c sm : Int} {L : List Int} {N : List Cnt} (hv : svErr r c L sm N = 0) : prodN L ≤ 2000 := by
  obtain ⟨hO, _⟩ := okay_of hv
  obtain ⟨hS, _, _⟩ := field_of hO.f
  have hm : mulL 1 L ≤ 2000 := by
    unfold svErr at hv
    rw [if_pos hO.n] at hv
    by_cases hs : isSv r c L sm N = true
    · rw [if_pos hs] at hv
      by_cases hm : mulL 1 L ≤ 2000
      · exact hm
      · rw [if_neg hm] at hv; simp at hv
    · rw [if_neg hs] at hv; simp at hv
  rw [mulL_prod L 1 hS] at hm
  omega
theorem truths_len {r c sm : Int} {L : List Int} {N : List Cnt} (hv : svErr r c L sm N = 0) : (truthsP c sm L N).length ≤ 2000 :=
  Nat.le_trans (exts_len L.length 0 [] (by omega) rfl) (few_truths hv)
theorem true_sv {r c sm : Int} {L : List Int} {N : List Cnt} (h : trueErr r c L sm N = 0) : svErr r c L sm N = 0 ∧ 0 < (truthsP c sm L N).length := by
  unfold trueErr at h
  by_cases hv : svErr r c L sm N = 0
  · rw [if_pos hv] at h
    refine ⟨hv, ?_⟩
    cases ht : truthsP c sm L N with
    | nil => rw [ht] at h; simp at h
    | cons a l => simp
  · rw [if_neg hv] at h; exact absurd h hv
def boundsOf (r c : Int) (L : List Int) (sm : Int) (N : List Cnt) (err : Int) (num : List Int → Int) : Int × Int := if err = 0 then (loOf ((truthsP c sm L N).map num), hiOf ((truthsP c sm L N).map num)) else (0, 0)
/-- Bounds -/
theorem s41 {r c sm : Int} {x y : C} {L : List Int} {N : List Cnt} {m : M} {Q : V → M → Prop} (hx : Li m x L) (hL : L.length ≤ 1048576) (hy : Lc m y N) (hN : N.length ≤ 1000)
    (h : ∀ m', Ext m m' → Q (.tup [.agg 2 [.int .i64 (boundsOf r c L sm N (trueErr r c L sm N) (shareOf L)).1, .int .i64 (boundsOf r c L sm N (trueErr r c L sm N) (shareOf L)).2], .c (.int .i64 (trueErr r c L sm N))]) m') :
    Wc prog tbl 41 [.agg 5 [.int .i64 r, .int .i64 c, x, .int .i64 sm, y]] m Q := by
  refine w41 fun m0 e0 m1 e1 => ?_
  obtain ⟨b0, x0⟩ := Bk.new e0
  obtain ⟨b1, x1⟩ := Bk.new e1
  have x01 := x0.trans x1
  have n0 : m0.nxt = m.nxt + 1 := by rw [e0]; rfl
  refine ⟨r, c, x, sm, y, (b0.ext x1).ra, s81 (hx.ext x01) hL (hy.ext x01) hN (fun hne m8 e8 => ⟨0, 0, .sl0, 0, .sl0, .map0, trueErr r c L sm N, rfl, fun m16 h16 => ?_⟩) fun hz m8 mb f e8 hw => ⟨r, c, x, sm, y, .map mb, 0, rfl, fun m16 h16 => ?_⟩⟩
  · obtain ⟨b16, x16⟩ := Bk.new h16
    have e17 : Ext m8 (m16.set m8.nxt (.cells 6 [.int .i64 0, .int .i64 0, .sl0, .int .i64 0, .sl0, .map0] false)) := x16.setR (Nat.le_refl _) _
    refine ⟨_, b16.st _, ?_⟩
    generalize m16.set m8.nxt (.cells 6 [.int .i64 0, .int .i64 0, .sl0, .int .i64 0, .sl0, .map0] false) = m17 at e17
    rw [ifB_ndec]
    refine ⟨fun _ => ?_, fun h1 => absurd h1 hne⟩
    have k1 := (b1.ext e8).ext e17
    refine ⟨_, k1.st _, 0, 0, (k1.set _).ra, ?_⟩
    have hq := h _ (((x01.trans e8).trans e17).setR (b := m0.nxt) (by omega) (.cells 2 [.int .i64 0, .int .i64 0] false))
    unfold boundsOf at hq
    rw [if_neg hne] at hq
    exact hq
  · obtain ⟨b16, x16⟩ := Bk.new h16
    have k17 := b16.set [.int .i64 r, .int .i64 c, x, .int .i64 sm, y, .map mb]
    have e17 : Ext m8 (m16.set m8.nxt (.cells 6 [.int .i64 r, .int .i64 c, x, .int .i64 sm, y, .map mb] false)) := x16.setR (Nat.le_refl _) _
    refine ⟨_, b16.st _, ?_⟩
    generalize m16.set m8.nxt (.cells 6 [.int .i64 r, .int .i64 c, x, .int .i64 sm, y, .map mb] false) = m17 at e17 k17
    obtain ⟨hv, hpos⟩ := true_sv hz
    obtain ⟨hO, _⟩ := okay_of hv
    have x17 := (x01.trans e8).trans e17
    rw [ifB_ndec]
    refine ⟨fun h1 => absurd rfl h1, fun _ => ⟨r, c, x, sm, y, .map mb, k17.ra, s82 (hw.ext e17) (hx.ext x17) hO.f hpos (by have := truths_len hv; omega) (num_share (hx.ext x17) hO.f) fun m28 e28 => ⟨_, _, rfl, ?_⟩⟩⟩
    have k1 := ((b1.ext e8).ext e17).ext e28
    refine ⟨_, k1.st _, _, _, (k1.set _).ra, ?_⟩
    have hq := h _ ((x17.trans e28).setR (b := m0.nxt) (by omega) (.cells 2 [.int .i64 (loOf ((truthsP c sm L N).map (shareOf L))), .int .i64 (hiOf ((truthsP c sm L N).map (shareOf L)))] false))
    unfold boundsOf at hq
    rw [if_pos hz, hz] at hq
    exact hq
end
end Go.Proofs.Ytgkjfhkjgdiodaa

namespace Go.Proofs.Ytgkjfhkjgdiodaa
open _root_.Go.Proofs.Try
open Go.Abs
set_option maxRecDepth 100000
noncomputable section
def askErr (r c : Int) (L : List Int) (sm : Int) (N : List Cnt) (inr : Bool) : Int := if svErr r c L sm N = 0 then (if inr then trueErr r c L sm N else 2) else svErr r c L sm N
theorem ask_zero {r c sm : Int} {L : List Int} {N : List Cnt} {inr : Bool} (h : askErr r c L sm N inr = 0) : inr = true ∧ trueErr r c L sm N = 0 := by
  unfold askErr at h
  by_cases hv : svErr r c L sm N = 0
  · rw [if_pos hv] at h
    cases inr with
    | true => exact ⟨rfl, h⟩
    | false => simp at h
  · rw [if_neg hv] at h; exact absurd h hv
/-- openAsked -/
theorem s83 {r c sm n : Int} {x y fnc : C} {inr : Bool} {L : List Int} {N : List Cnt} {m : M} {Q : V → M → Prop} (hx : Li m x L) (hL : L.length ≤ 1048576) (hy : Lc m y N) (hN : N.length ≤ 1000)
    (hin : svErr r c L sm N = 0 → ∀ m', Ext m m' → ∀ Q' : V → M → Prop, (∀ m'', Ext m' m'' → Q' (.c (.bool inr)) m'') → callP prog tbl [.c (.int .i64 n)] fnc m' Q')
    (hbad : askErr r c L sm N inr ≠ 0 → ∀ m', Ext m m' → Q (.tup [.agg 6 [.int .i64 0, .int .i64 0, .sl0, .int .i64 0, .sl0, .map0], .c (.int .i64 (askErr r c L sm N inr))]) m')
    (hgood : askErr r c L sm N inr = 0 → ∀ m' mb f, Ext m m' → Wk m' L N mb f → Q (.tup [.agg 6 [.int .i64 r, .int .i64 c, x, .int .i64 sm, y, .map mb], .c (.int .i64 0)]) m') :
    Wc prog tbl 83 [.agg 5 [.int .i64 r, .int .i64 c, x, .int .i64 sm, y], .c (.int .i64 n), .c fnc] m Q := by
  refine w83 fun m0 e0 m1 e1 => ?_
  obtain ⟨b0, x0⟩ := Bk.new e0
  obtain ⟨b1, x1⟩ := Bk.new e1
  have x01 := x0.trans x1
  have n0 : m0.nxt = m.nxt + 1 := by rw [e0]; rfl
  refine ⟨r, c, x, sm, y, (b0.ext x1).ra, s37 (hx.ext x01) hL (hy.ext x01) hN fun m8 e8 => ⟨_, rfl, ?_⟩⟩
  have x8 := x01.trans e8
  have k0 := (b0.ext x1).ext e8
  have k1 := b1.ext e8
  rw [ifB_ndec]
  refine ⟨fun h1 => ?_, fun h1 => ?_⟩
  · have ht : askErr r c L sm N inr = svErr r c L sm N := by unfold askErr; rw [if_neg h1]
    refine ⟨_, k1.st _, 0, 0, .sl0, 0, .sl0, .map0, (k1.set _).ra, ?_⟩
    have hq := hbad (by rw [ht]; exact h1) _ (x8.setR (b := m0.nxt) (by omega) (.cells 6 [.int .i64 0, .int .i64 0, .sl0, .int .i64 0, .sl0, .map0] false))
    rw [ht] at hq
    exact hq
  refine hin h1 m8 x8 _ fun m18 e18 => ⟨_, rfl, ?_⟩
  have x18 := x8.trans e18
  have k1' := k1.ext e18
  rw [ifB_iff]
  refine ⟨fun h2 => ?_, fun h2 => ?_⟩
  · have h3 : inr = false := by simpa using h2
    have ht : askErr r c L sm N inr = 2 := by unfold askErr; rw [if_pos h1, h3]; rfl
    refine ⟨_, k1'.st _, 0, 0, .sl0, 0, .sl0, .map0, (k1'.set _).ra, ?_⟩
    have hq := hbad (by rw [ht]; decide) _ (x18.setR (b := m0.nxt) (by omega) (.cells 6 [.int .i64 0, .int .i64 0, .sl0, .int .i64 0, .sl0, .map0] false))
    rw [ht] at hq
    exact hq
  have h3 : inr = true := by simpa using h2
  have ht : askErr r c L sm N inr = trueErr r c L sm N := by unfold askErr; rw [if_pos h1, h3]; rfl
  refine ⟨r, c, x, sm, y, (k0.ext e18).ra, s81 (hx.ext x18) hL (hy.ext x18) hN (fun hne m33 e33 => ⟨0, 0, .sl0, 0, .sl0, .map0, trueErr r c L sm N, rfl, ?_⟩) fun hz m33 mb f e33 hw => ⟨r, c, x, sm, y, .map mb, 0, rfl, ?_⟩⟩
  · refine ⟨_, (k1'.ext e33).st _, 0, 0, .sl0, 0, .sl0, .map0, ((k1'.ext e33).set _).ra, ?_⟩
    have hq := hbad (by rw [ht]; exact hne) _ ((x18.trans e33).setR (b := m0.nxt) (by omega) (.cells 6 [.int .i64 0, .int .i64 0, .sl0, .int .i64 0, .sl0, .map0] false))
    rw [ht] at hq
    exact hq
  · refine ⟨_, (k1'.ext e33).st _, r, c, x, sm, y, .map mb, ((k1'.ext e33).set _).ra, ?_⟩
    have hne : mb ≠ m0.nxt := fun h3 => by
      obtain ⟨es, clock, hg, _⟩ := hw.mp.ex
      rw [h3, (k1'.ext e33).g] at hg
      cases hg
    exact hgood (by rw [ht]; exact hz) _ mb f ((x18.trans e33).setR (by omega) _) ⟨hw.mp.setNe hne _, hw.st⟩
/-- Hits -/
theorem s42 {r c sm p : Int} {x y : C} {L : List Int} {N : List Cnt} {m : M} {Q : V → M → Prop} (hx : Li m x L) (hL : L.length ≤ 1048576) (hy : Lc m y N) (hN : N.length ≤ 1000)
    (h : ∀ m', Ext m m' → Q (.tup [.agg 2 [.int .i64 (boundsOf r c L sm N (askErr r c L sm N (decide (0 ≤ p ∧ p ≤ r * c - 1))) (fun H => H[p.toNat]!)).1, .int .i64 (boundsOf r c L sm N (askErr r c L sm N (decide (0 ≤ p ∧ p ≤ r * c - 1))) (fun H => H[p.toNat]!)).2], .c (.int .i64 (askErr r c L sm N (decide (0 ≤ p ∧ p ≤ r * c - 1))))]) m') :
    Wc prog tbl 42 [.agg 5 [.int .i64 r, .int .i64 c, x, .int .i64 sm, y], .c (.int .i64 p)] m Q := by
  refine w42 fun m0 e0 m1 e1 m2 e2 => ?_
  obtain ⟨b0, x0⟩ := Bk.new e0
  obtain ⟨b1, x1⟩ := Bk.new e1
  obtain ⟨b2, x2⟩ := Bk.new e2
  have x02 := (x0.trans x1).trans x2
  have n0 : m0.nxt = m.nxt + 1 := by rw [e0]; rfl
  have n1 : m1.nxt = m.nxt + 2 := by rw [e1]; show m0.nxt + 1 = _; omega
  have k0 := (b0.ext x1).ext x2
  have kp := b1.ext x2
  obtain ⟨xc, hxc, hxc'⟩ := keepC hx
  refine ⟨r, c, x, sm, y, k0.ra, p, kp.rc rfl, trivial, r, c, x, k0.rp (k := 0) (j := 3) rfl (by omega), ?_⟩
  have hvw : mapO vW [V.agg 3 [.int .i64 r, .int .i64 c, x]] = some [.agg 3 [.int .i64 r, .int .i64 c, xc]] := by
    show optB (optB (optB (some (C0.int .i64 r)) none fun a => optB (optB (some (C0.int .i64 c)) none fun b => optB (optB (cC0 x) none fun c' => some [c']) none fun l => some (b :: l)) none fun l => some (a :: l)) none fun xs => some (W.agg 3 xs)) none (fun w => some [w]) = _
    rw [hxc]; rfl
  rw [hvw, optB_some]
  refine s83 (inr := decide (0 ≤ p ∧ p ≤ r * c - 1)) (hx.ext x02) hL (hy.ext x02) hN (fun hv m' e' Q' hq' => ?_) (fun hne m14 e14 => ⟨0, 0, .sl0, 0, .sl0, .map0, _, rfl, fun m22 h22 => ?_⟩) fun hz m14 mb f e14 hw => ⟨r, c, x, sm, y, .map mb, 0, rfl, fun m22 h22 => ?_⟩
  · obtain ⟨hO, _⟩ := okay_of hv
    show Wc prog tbl 84 [.agg 3 [.int .i64 r, .int .i64 c, c0C xc], .c (.int .i64 p)] m' Q'
    rw [hxc']
    exact s84 (sides_of hO.f) hq'
  · obtain ⟨b22, x22⟩ := Bk.new h22
    have e23 : Ext m14 (m22.set m14.nxt (.cells 6 [.int .i64 0, .int .i64 0, .sl0, .int .i64 0, .sl0, .map0] false)) := x22.setR (Nat.le_refl _) _
    refine ⟨_, b22.st _, ?_⟩
    generalize m22.set m14.nxt (.cells 6 [.int .i64 0, .int .i64 0, .sl0, .int .i64 0, .sl0, .map0] false) = m23 at e23
    rw [ifB_ndec]
    refine ⟨fun _ => ?_, fun h1 => absurd h1 hne⟩
    have k2 := (b2.ext e14).ext e23
    refine ⟨_, k2.st _, 0, 0, (k2.set _).ra, ?_⟩
    have hq := h _ (((x02.trans e14).trans e23).setR (b := m1.nxt) (by omega) (.cells 2 [.int .i64 0, .int .i64 0] false))
    unfold boundsOf at hq
    rw [if_neg hne] at hq
    exact hq
  · obtain ⟨b22, x22⟩ := Bk.new h22
    have k23 := b22.set [.int .i64 r, .int .i64 c, x, .int .i64 sm, y, .map mb]
    have e23 : Ext m14 (m22.set m14.nxt (.cells 6 [.int .i64 r, .int .i64 c, x, .int .i64 sm, y, .map mb] false)) := x22.setR (Nat.le_refl _) _
    refine ⟨_, b22.st _, ?_⟩
    generalize m22.set m14.nxt (.cells 6 [.int .i64 r, .int .i64 c, x, .int .i64 sm, y, .map mb] false) = m23 at e23 k23
    obtain ⟨hin, ht⟩ := ask_zero hz
    obtain ⟨hv, hpos⟩ := true_sv ht
    obtain ⟨hO, _⟩ := okay_of hv
    obtain ⟨_, _, hrc⟩ := field_of hO.f
    have hpr : 0 ≤ p ∧ p ≤ r * c - 1 := of_decide_eq_true hin
    have x23 := (x02.trans e14).trans e23
    have kp23 : Bk m23 m0.nxt 1 [.int .i64 ((p.toNat : Nat) : Int)] := by
      rw [show ((p.toNat : Nat) : Int) = p by omega]; exact (kp.ext e14).ext e23
    rw [ifB_ndec]
    refine ⟨fun h1 => absurd rfl h1, fun _ => ⟨r, c, x, sm, y, .map mb, k23.ra, s82 (hw.ext e23) (hx.ext x23) hO.f hpos (by have := truths_len hv; omega) (num_hits hO.f (by omega) kp23) fun m34 e34 => ⟨_, _, rfl, ?_⟩⟩⟩
    have k2 := ((b2.ext e14).ext e23).ext e34
    refine ⟨_, k2.st _, _, _, (k2.set _).ra, ?_⟩
    have hq := h _ ((x23.trans e34).setR (b := m1.nxt) (by omega) (.cells 2 [.int .i64 (loOf ((truthsP c sm L N).map fun H => H[p.toNat]!)), .int .i64 (hiOf ((truthsP c sm L N).map fun H => H[p.toNat]!))] false))
    unfold boundsOf at hq
    rw [if_pos hz, hz] at hq
    exact hq
end
end Go.Proofs.Ytgkjfhkjgdiodaa

namespace Go.Proofs.Ytgkjfhkjgdiodaa
open _root_.Go.Proofs.Try
open Go.Abs
set_option maxRecDepth 100000
noncomputable section
def nthL : List Int → Int → List Int
  | [], _ => []
  | v :: L, n => n % (v + 1) :: nthL L (n / (v + 1))
theorem nthL_len : ∀ (L : List Int) (n : Int), (nthL L n).length = L.length
  | [], _ => rfl
  | v :: L, n => by show (nthL L _).length + 1 = _; rw [nthL_len L]; rfl
theorem s67 {r c n : Int} {x : C} {L : List Int} {m : M} {Q : V → M → Prop} (hx : Li m x L) (hS : Small L) (hL : L.length ≤ 1000) (hn : 0 ≤ n ∧ n ≤ 100000) (h : ∀ z m', Ext m m' → Li m' z (nthL L n) → Fr m z → Q (.c z) m') :
    Wc prog tbl 67 [.agg 3 [.int .i64 r, .int .i64 c, x], .c (.int .i64 n)] m Q := by
  refine w67 fun m0 e0 R1 hstep => ?_
  obtain ⟨b0, x0⟩ := Bk.new e0
  have hgo : ∀ (d i : Nat) (s : C) (a : Int) (m5 : M) (A : List Int), d + i = L.length → Own1 m5 1 s (ints A) i → Fr m0 s → Ext m0 m5 → 0 ≤ a ∧ a ≤ 100000 → A ++ nthL (L.drop i) a = nthL L n → R1 [.c s, .c (.int .i64 a), .c (.int .i64 (i : Int))] m5 := by
    intro d
    induction d with
    | zero =>
      intro i s a m5 A hd ho hf he ha heq
      refine hstep _ _ _ _ ⟨trivial, x, (b0.ext he).rc rfl, hx.isSl, ?_⟩
      rw [hx.slLen, ifB_dec]
      refine ⟨fun h1 => by omega, fun _ => ?_⟩
      rw [List.drop_eq_nil_of_le (by omega)] at heq
      have hA : A = nthL L n := by rw [← heq]; exact (List.append_nil A).symm
      refine h s m5 (x0.trans he) ?_ (hf.mono x0.nxt)
      have := ho.ls
      rw [hA] at this
      have hl : i = (nthL L n).length := by rw [nthL_len]; omega
      rw [hl] at this
      exact this
    | succ d ih =>
      intro i s a m5 A hd ho hf he ha heq
      refine hstep _ _ _ _ ⟨trivial, x, (b0.ext he).rc rfl, hx.isSl, ?_⟩
      rw [hx.slLen, ifB_dec]
      refine ⟨fun _ => ?_, fun h1 => absurd (by omega) h1⟩
      have hi : i < L.length := by omega
      have hv := small_at hS hi
      have hxe := (hx.ext x0).ext he
      have hm0 := Int.emod_nonneg a (b := L[i] + 1) (by omega)
      have hm1 := Int.emod_lt_of_pos a (b := L[i] + 1) (by omega)
      have hd0 := Int.ediv_nonneg (a := a) (b := L[i] + 1) ha.1 (by omega)
      have hd1 := Int.ediv_le_self (L[i] + 1) ha.1
      refine ⟨trivial, x, (b0.ext he).rc rfl, i, rfl, by rw [hx.slLen]; exact hi, L[i], Li.rd hxe (List.getElem?_eq_getElem hi), fits_small (by omega) (by omega), ha.1, by omega, fits_small (by omega) (by omega), fun m10 h10 => ?_⟩
      obtain ⟨c11, m12, a1, a2, a3, a4, a5, a6⟩ := ap_step t22 g3 z3 (by omega) ho hf he (ws := [.int .i64 (a % (L[i] + 1))]) rfl (by omega) h10
      refine ⟨c11, m12, a1, trivial, x, (b0.ext a4).rc rfl, i, rfl, by rw [hx.slLen]; exact hi, L[i], Li.rd ((hx.ext x0).ext a4) (List.getElem?_eq_getElem hi), fits_small (by omega) (by omega), ha.1, by omega, fits_small (by omega) (by omega), fits_small (by omega) (by omega), ?_⟩
      refine ih (i + 1) c11 _ m12 (A ++ [a % (L[i] + 1)]) (by omega) (by rw [← ints_app]; exact a2) a3 a4 ⟨hd0, by omega⟩ ?_
      rw [← heq, List.drop_eq_getElem_cons hi, List.append_assoc]; rfl
  exact hgo L.length 0 .sl0 n m0 [] (by omega) (Own1.nil' _ _) (Fr.nil _) (.refl _) hn rfl
theorem many_eq : ∀ {L : List Int} {a : Int}, Small L → 0 ≤ a → mulL a L ≤ 4000 → manyL a L = mulL a L
  | [], a, _, _, _ => rfl
  | v :: L, a, h, ha, h4 => by
    have hv := h v (List.mem_cons_self ..)
    have hL : Small L := fun w hw => h w (List.mem_cons_of_mem _ hw)
    have h1 : 0 ≤ a * (v + 1) := Int.mul_nonneg ha (by omega)
    have h2 : a * (v + 1) ≤ mulL (a * (v + 1)) L := mulL_ge hL h1
    have h3 : mulL (a * (v + 1)) L ≤ 4000 := h4
    show manyL (min 4000 (a * (v + 1))) L = mulL (a * (v + 1)) L
    rw [Int.min_eq_right (by omega)]
    exact many_eq hL h1 h3
theorem many_prod {L : List Int} (hS : Small L) (h : prodN L ≤ 2000) : manyL 1 L = (prodN L : Int) := by
  have h1 := mulL_prod L 1 hS
  rw [many_eq hS (by omega) (by omega), h1]; omega
def trN (p : Int → Bool) : Nat → List Int
  | 0 => []
  | n + 1 => trN p n ++ (if p (n : Int) then [(n : Int)] else [])
theorem mem_trN (p : Int → Bool) (a : Int) : ∀ n : Nat, a ∈ trN p n ↔ 0 ≤ a ∧ a < (n : Int) ∧ p a = true
  | 0 => ⟨fun h => (by cases h), fun h => by omega⟩
  | n + 1 => by
    show a ∈ trN p n ++ _ ↔ _
    rw [List.mem_append, mem_trN p a n]
    constructor
    · rintro (h | h)
      · exact ⟨h.1, by omega, h.2.2⟩
      · by_cases hp : p (n : Int) = true
        · rw [if_pos hp, List.mem_singleton] at h
          rw [h]; exact ⟨by omega, by omega, hp⟩
        · rw [if_neg hp] at h; cases h
    · rintro ⟨h1, h2, h3⟩
      by_cases ha : a = (n : Int)
      · subst ha; rw [if_pos h3]; exact .inr (List.mem_singleton.2 rfl)
      · exact .inl ⟨h1, by omega, h3⟩
theorem allNF {r c sm : Int} {x y : C} (h1 : noFnC x = true) (h2 : noFnC y = true) : allS noFnC [.int .i64 r, .int .i64 c, x, .int .i64 sm, y] = true := by
  show ifB true (ifB true (ifB (noFnC x) (ifB true (ifB (noFnC y) true false) false) false) false) false = true
  rw [h1, h2]; rfl
def truN (c sm : Int) (L : List Int) (N : List Cnt) : List Int := trN (fun n => truthR c sm L N (nthL L n)) (prodN L)
end
end Go.Proofs.Ytgkjfhkjgdiodaa

namespace Go.Proofs.Ytgkjfhkjgdiodaa
open _root_.Go.Proofs.Try
open Go.Abs
set_option maxRecDepth 100000
noncomputable section
def sureErr (r c : Int) (L : List Int) (sm : Int) (N : List Cnt) : Int := if svErr r c L sm N = 0 then (if (truN c sm L N).length = 0 then 9 else 0) else svErr r c L sm N
end
end Go.Proofs.Ytgkjfhkjgdiodaa

namespace Go.Proofs.Ytgkjfhkjgdiodaa
open _root_.Go.Proofs.Try
open Go.Abs
set_option maxRecDepth 100000
noncomputable section
def lst : List Int → List Int → Prop
  | [], [] => True
  | v :: L, w :: H => (0 ≤ w ∧ w ≤ v) ∧ lst L H
  | _, _ => False
theorem lst_iff : ∀ {L H : List Int}, lst L H ↔ H.length = L.length ∧ ∀ i : Nat, i < L.length → 0 ≤ H[i]! ∧ H[i]! ≤ L[i]!
  | [], [] => ⟨fun _ => ⟨rfl, fun i hi => by simp at hi⟩, fun _ => trivial⟩
  | [], w :: H => ⟨fun h => h.elim, fun h => by simp at h⟩
  | v :: L, [] => ⟨fun h => h.elim, fun h => by simp at h⟩
  | v :: L, w :: H => by
    show (0 ≤ w ∧ w ≤ v) ∧ lst L H ↔ _
    rw [lst_iff]
    constructor
    · rintro ⟨h1, h2, h3⟩
      refine ⟨by simp [h2], fun i hi => ?_⟩
      cases i with
      | zero => exact h1
      | succ i => exact h3 i (by simpa using hi)
    · rintro ⟨h2, h3⟩
      exact ⟨h3 0 (by simp), by simpa using h2, fun i hi => h3 (i + 1) (by simpa using hi)⟩
theorem listed_lst {L H : List Int} : listed L H = true ↔ lst L H := by rw [lst_iff]; exact decide_eq_true_iff
theorem nth_surj : ∀ {L H : List Int}, Small L → lst L H → ∃ n : Int, 0 ≤ n ∧ n < (prodN L : Int) ∧ nthL L n = H
  | [], [], _, _ => ⟨0, by omega, by show (0 : Int) < ((1 : Nat) : Int); omega, rfl⟩
  | [], _ :: _, _, h => h.elim
  | _ :: _, [], _, h => h.elim
  | v :: L, w :: H, hS, h => by
    have hv := hS v (List.mem_cons_self ..)
    obtain ⟨hw, hr⟩ : (0 ≤ w ∧ w ≤ v) ∧ lst L H := h
    obtain ⟨n, h0, h1, h2⟩ := nth_surj (fun u hu => hS u (List.mem_cons_of_mem _ hu)) hr
    have hpos : 0 ≤ (v + 1) * n := Int.mul_nonneg (by omega) h0
    have hlt : (v + 1) * (n + 1) ≤ (v + 1) * (prodN L : Int) := Int.mul_le_mul_of_nonneg_left (by omega) (by omega)
    rw [Int.mul_add, Int.mul_one] at hlt
    refine ⟨w + (v + 1) * n, by omega, ?_, ?_⟩
    · show _ < (((v.toNat + 1) * prodN L : Nat) : Int)
      rw [Int.natCast_mul, show ((v.toNat + 1 : Nat) : Int) = v + 1 by omega]; omega
    · show (w + (v + 1) * n) % (v + 1) :: nthL L ((w + (v + 1) * n) / (v + 1)) = w :: H
      rw [Int.add_mul_emod_self_left, Int.emod_eq_of_lt hw.1 (by omega), Int.add_mul_ediv_left _ _ (by omega), Int.ediv_eq_zero_of_lt hw.1 (by omega), Int.zero_add, h2]
theorem mem_truN {c sm : Int} {L : List Int} {N : List Cnt} {a : Int} : a ∈ truN c sm L N ↔ 0 ≤ a ∧ a < (prodN L : Int) ∧ truthR c sm L N (nthL L a) = true := mem_trN _ _ _
theorem truthR_listed {c sm : Int} {L H : List Int} {N : List Cnt} (h : truthR c sm L N H = true) : listed L H = true := by
  by_cases hT : TruthR c sm L N H
  · exact hT.1
  · rw [truthR_false hT] at h; cases h
theorem same_nums {r c sm : Int} {L : List Int} {N : List Cnt} (hv : svErr r c L sm N = 0) (num : List Int → Int) (v : Int) : v ∈ (truN c sm L N).map (fun a => num (nthL L a)) ↔ v ∈ (truthsP c sm L N).map num := by
  obtain ⟨hO, hsm⟩ := okay_of hv
  obtain ⟨hS, _, _⟩ := field_of hO.f
  rw [List.mem_map, List.mem_map]
  constructor
  · rintro ⟨a, h1, h2⟩
    exact ⟨nthL L a, (mem_truths hO hsm.1).2 (mem_truN.1 h1).2.2, h2⟩
  · rintro ⟨H, h1, h2⟩
    have ht := (mem_truths hO hsm.1).1 h1
    obtain ⟨n, q1, q2, q3⟩ := nth_surj hS (listed_lst.1 (truthR_listed ht))
    exact ⟨n, mem_truN.2 ⟨q1, q2, by rw [q3]; exact ht⟩, by rw [q3]; exact h2⟩
theorem sure_true {r c sm : Int} {L : List Int} {N : List Cnt} : sureErr r c L sm N = trueErr r c L sm N := by
  unfold sureErr trueErr
  by_cases hv : svErr r c L sm N = 0
  · rw [if_pos hv, if_pos hv]
    have hs := same_nums hv (fun _ => 0) 0
    cases h1 : truN c sm L N with
    | nil =>
      cases h2 : truthsP c sm L N with
      | nil => rfl
      | cons H T => rw [h1, h2] at hs; simp at hs
    | cons a A =>
      cases h2 : truthsP c sm L N with
      | nil => rw [h1, h2] at hs; simp at hs
      | cons H T => rfl
  · rw [if_neg hv, if_neg hv]
theorem minR_spec : ∀ (D : List Int) (a : Int), (minR a D = a ∨ minR a D ∈ D) ∧ minR a D ≤ a ∧ ∀ v ∈ D, minR a D ≤ v
  | [], a => ⟨.inl rfl, Int.le_refl _, fun v hv => by cases hv⟩
  | u :: D, a => by
    obtain ⟨h1, h2, h3⟩ := minR_spec D (if u < a then u else a)
    show (minR (if u < a then u else a) D = a ∨ minR (if u < a then u else a) D ∈ u :: D) ∧ minR (if u < a then u else a) D ≤ a ∧ ∀ v ∈ u :: D, minR (if u < a then u else a) D ≤ v
    generalize minR (if u < a then u else a) D = w at h1 h2 h3
    refine ⟨?_, ?_, fun v hv => ?_⟩
    · rcases h1 with h1 | h1
      · split at h1
        · exact .inr (by rw [h1]; exact List.mem_cons_self ..)
        · exact .inl h1
      · exact .inr (List.mem_cons_of_mem _ h1)
    · split at h2 <;> omega
    · rcases List.mem_cons.1 hv with rfl | h4
      · split at h2 <;> omega
      · exact h3 v h4
theorem maxR_spec : ∀ (D : List Int) (a : Int), (maxR a D = a ∨ maxR a D ∈ D) ∧ a ≤ maxR a D ∧ ∀ v ∈ D, v ≤ maxR a D
  | [], a => ⟨.inl rfl, Int.le_refl _, fun v hv => by cases hv⟩
  | u :: D, a => by
    obtain ⟨h1, h2, h3⟩ := maxR_spec D (max a u)
    show (maxR (max a u) D = a ∨ maxR (max a u) D ∈ u :: D) ∧ a ≤ maxR (max a u) D ∧ ∀ v ∈ u :: D, v ≤ maxR (max a u) D
    generalize maxR (max a u) D = w at h1 h2 h3
    refine ⟨?_, by omega, fun v hv => ?_⟩
    · rcases h1 with h1 | h1
      · rcases (by omega : max a u = a ∨ max a u = u) with h4 | h4
        · exact .inl (by rw [h1, h4])
        · exact .inr (by rw [h1, h4]; exact List.mem_cons_self ..)
      · exact .inr (List.mem_cons_of_mem _ h1)
    · rcases List.mem_cons.1 hv with rfl | h4
      · omega
      · exact h3 v h4
theorem lo_spec {D : List Int} (h : 0 < D.length) : loOf D ∈ D ∧ ∀ v ∈ D, loOf D ≤ v := by
  cases D with
  | nil => simp at h
  | cons u D =>
    obtain ⟨h1, h2, h3⟩ := minR_spec (u :: D) u
    exact ⟨h1.elim (fun h4 => by show minR u (u :: D) ∈ _; rw [h4]; exact List.mem_cons_self ..) id, h3⟩
theorem hi_spec {D : List Int} (h : 0 < D.length) : hiOf D ∈ D ∧ ∀ v ∈ D, v ≤ hiOf D := by
  cases D with
  | nil => simp at h
  | cons u D =>
    obtain ⟨h1, h2, h3⟩ := maxR_spec D u
    refine ⟨h1.elim (fun h4 => by show maxR u D ∈ _; rw [h4]; exact List.mem_cons_self ..) fun h4 => List.mem_cons_of_mem _ h4, fun v hv => ?_⟩
    rcases List.mem_cons.1 hv with rfl | h5
    · exact h2
    · exact h3 v h5
end
end Go.Proofs.Ytgkjfhkjgdiodaa

namespace Go.Proofs.Ytgkjfhkjgdiodaa
open _root_.Go.Proofs.Try
open Go.Abs
set_option maxRecDepth 100000
noncomputable section
theorem s58 {r c sm : Int} {x y : C} {L : List Int} {N : List Cnt} {m : M} {Q : V → M → Prop} (hx : Li m x L) (hy : Lc m y N)
    (h : ∀ m', Ext m m' → Q (.c (.bool (decide (svErr r c L sm N = 0)))) m') : Wc prog tbl 58 [.agg 5 [.int .i64 r, .int .i64 c, x, .int .i64 sm, y]] m Q := by
  refine w58 fun m0 e0 => ?_
  obtain ⟨b0, x0⟩ := Bk.new e0
  refine ⟨r, c, x, sm, y, b0.ra, s19 (hx.ext x0) (hy.ext x0) fun m7 e7 => ⟨_, rfl, ?_⟩⟩
  rw [ifB_dec]
  refine ⟨fun h1 => ⟨r, c, x, sm, y, (b0.ext e7).ra, s36 (hx.ext (x0.trans e7)) (by omega) (hy.ext (x0.trans e7)) (by omega) fun m15 e15 => ⟨_, rfl, h m15 ((x0.trans e7).trans e15)⟩⟩, fun h1 => ?_⟩
  have hq := h m7 (x0.trans e7)
  rw [decide_eq_false fun hv => h1 ?_] at hq
  · exact hq
  · obtain ⟨hO, _⟩ := okay_of hv
    obtain ⟨_, h9, _⟩ := field_of hO.f
    have := hO.n
    exact ⟨by omega, by omega⟩
theorem s68 {r c sm : Int} {x y : C} {L : List Int} {N : List Cnt} {m : M} {Q : V → M → Prop} (hx : Li m x L) (hy : Lc m y N) (hv : svErr r c L sm N = 0)
    (h : ∀ m', Ext m m' → Q (.c (.bool (decide (0 < (truN c sm L N).length)))) m') : Wc prog tbl 68 [.agg 5 [.int .i64 r, .int .i64 c, x, .int .i64 sm, y], .c (.int .i64 0)] m Q := by
  obtain ⟨hO, hsm⟩ := okay_of hv
  obtain ⟨hS, hL, hrc⟩ := field_of hO.f
  have hP := few_truths hv
  refine w68 fun m0 e0 R1 hstep => ?_
  obtain ⟨b0, x0⟩ := Bk.new e0
  have hgo : ∀ (d i : Nat) (b : Bool) (m4 : M), d + i = prodN L → trN (fun n => truthR c sm L N (nthL L n)) i = [] → Ext m0 m4 → R1 [.c (.bool b), .c (.int .i64 (i : Int))] m4 := by
    intro d
    induction d with
    | zero =>
      intro i b m4 hd hnil he
      have hi : i = prodN L := by omega
      subst hi
      refine hstep _ _ _ ⟨trivial, r, c, x, (b0.ext he).rp (k := 0) (j := 3) rfl (by omega), s60 ((hx.ext x0).ext he) hS (by omega) fun m9 e9 => ⟨_, rfl, ?_⟩⟩
      rw [many_prod hS hP, ifB_dec]
      refine ⟨fun h1 => by omega, fun _ => ?_⟩
      have hq := h m9 ((x0.trans he).trans e9)
      rw [show truN c sm L N = [] from hnil] at hq
      exact hq
    | succ d ih =>
      intro i b m4 hd hnil he
      refine hstep _ _ _ ⟨trivial, r, c, x, (b0.ext he).rp (k := 0) (j := 3) rfl (by omega), s60 ((hx.ext x0).ext he) hS (by omega) fun m9 e9 => ⟨_, rfl, ?_⟩⟩
      rw [many_prod hS hP, ifB_dec]
      refine ⟨fun _ => ?_, fun h1 => absurd (by omega) h1⟩
      have he9 := he.trans e9
      refine ⟨r, c, x, sm, y, (b0.ext he9).ra, trivial, r, c, x, (b0.ext he9).rp (k := 0) (j := 3) rfl (by omega), s67 ((hx.ext x0).ext he9) hS (by omega) ⟨by omega, by omega⟩ fun z m20 e20 hz _ => ⟨z, rfl, ?_, ?_⟩⟩
      · rw [allNF hx.noFn hy.noFn]; exact (b0.ext (he9.trans e20)).ra
      have he20 := he9.trans e20
      refine s38 ((hx.ext x0).ext he20) ((hy.ext x0).ext he20) hO hsm hz (by rw [nthL_len]; omega) fun m23 e23 => ⟨_, rfl, ?_⟩
      have he23 := he20.trans e23
      cases hb : truthR c sm L N (nthL L (i : Int)) with
      | true =>
        have hq := h m23 (x0.trans he23)
        have hmem : (i : Int) ∈ truN c sm L N := mem_truN.2 ⟨by omega, by omega, hb⟩
        rw [decide_eq_true (List.length_pos_of_mem hmem)] at hq
        exact hq
      | false =>
        refine ⟨fits_small (by omega) (by omega), ih (i + 1) b m23 (by omega) ?_ he23⟩
        show trN (fun n => truthR c sm L N (nthL L n)) i ++ (if truthR c sm L N (nthL L (i : Int)) = true then [(i : Int)] else []) = []
        rw [hnil, hb]; rfl
  exact hgo (prodN L) 0 false m0 (by omega) rfl (.refl _)
theorem s62 {r c sm : Int} {x y : C} {L : List Int} {N : List Cnt} {m : M} {Q : V → M → Prop} (hx : Li m x L) (hy : Lc m y N)
    (h : ∀ m', Ext m m' → Q (.c (.bool (decide (trueErr r c L sm N = 0)))) m') : Wc prog tbl 62 [.agg 5 [.int .i64 r, .int .i64 c, x, .int .i64 sm, y]] m Q := by
  refine w62 fun m0 e0 => ?_
  obtain ⟨b0, x0⟩ := Bk.new e0
  refine ⟨r, c, x, sm, y, b0.ra, s58 (hx.ext x0) (hy.ext x0) fun m7 e7 => ⟨_, rfl, ?_⟩⟩
  have x7 := x0.trans e7
  rw [ifB_dec]
  refine ⟨fun hv => ⟨r, c, x, sm, y, (b0.ext e7).ra, s68 (hx.ext x7) (hy.ext x7) hv fun m15 e15 => ⟨_, rfl, ?_⟩⟩, fun hv => ?_⟩
  · have hq := h m15 (x7.trans e15)
    have : decide (trueErr r c L sm N = 0) = decide (0 < (truN c sm L N).length) := by
      rw [← sure_true]
      unfold sureErr
      rw [if_pos hv]
      refine decide_eq_decide.2 ⟨fun h1 => ?_, fun h1 => by rw [if_neg (by omega)]⟩
      by_cases h2 : (truN c sm L N).length = 0
      · rw [if_pos h2] at h1; simp at h1
      · omega
    rw [this] at hq
    exact hq
  · have hq := h m7 x7
    rw [decide_eq_false fun ht => hv (true_sv ht).1] at hq
    exact hq
theorem wrap_small' {n : Int} (h0 : 0 ≤ n) (h1 : n ≤ 1000) : wrapZ .i64 n = n := by
  unfold wrapZ
  rw [Go.Abs.fits_of (k := .i64) (n := n) (by simp only [fitsP]; omega)]; rfl
end
end Go.Proofs.Ytgkjfhkjgdiodaa

namespace Go.Proofs.Ytgkjfhkjgdiodaa
open _root_.Go.Proofs.Try
open Go.Abs
set_option maxRecDepth 100000
noncomputable section
/-- a law's call of Bounds, and the block that takes what it returns -/
theorem cBounds {r c sm : Int} {x y : C} {L : List Int} {N : List Cnt} {a : Nat} {m : M} {R : Int → Int → Int → M → M → Prop} (hx : Li m x L) (hL : L.length ≤ 1000) (hy : Lc m y N) (hN : N.length ≤ 1000) (ka : Bk m a 5 [.int .i64 r, .int .i64 c, x, .int .i64 sm, y])
    (h : ∀ m1 m2, Ext m m1 → Ext m1 m2 → Bk m2 m1.nxt 2 [.int .i64 (boundsOf r c L sm N (trueErr r c L sm N) (shareOf L)).1, .int .i64 (boundsOf r c L sm N (trueErr r c L sm N) (shareOf L)).2] → R (boundsOf r c L sm N (trueErr r c L sm N) (shareOf L)).1 (boundsOf r c L sm N (trueErr r c L sm N) (shareOf L)).2 (trueErr r c L sm N) m1 m2) :
    ∃ x1 x2 : Int, ∃ c3 : C, ∃ x4 : Int, ∃ c5 : C, ldA m (C.ptr a 0) 5 = some [C.int .i64 x1, C.int .i64 x2, c3, C.int .i64 x4, c5] ∧ Wc prog tbl 33 [V.agg 5 [C.int .i64 x1, C.int .i64 x2, c3, C.int .i64 x4, c5]] m fun v6 m7 => ∃ x8 x9 : Int, ∃ c10 : C, ∃ x11 : Int, ∃ c12 : C, v6 = V.agg 5 [C.int .i64 x8, C.int .i64 x9, c10, C.int .i64 x11, c12] ∧
      Wc prog tbl 41 [V.agg 5 [C.int .i64 x8, C.int .i64 x9, c10, C.int .i64 x11, c12]] m7 fun v13 m14 => ∃ x15 x16 x17 : Int, v13 = V.tup [U.agg 2 [C.int .i64 x15, C.int .i64 x16], U.c (C.int .i64 x17)] ∧ ∀ m18 : M, m18 = M.new m14 (AO.cells 2 [C.int .i64 0, C.int .i64 0] false) → ∃ m19 : M, stC m18 (C.ptr m14.nxt 0) 2 [C.int .i64 x15, C.int .i64 x16] = some m19 ∧ R x15 x16 x17 m14 m19 := by
  refine ⟨r, c, x, sm, y, ka.ra, s33 hx (by omega) hy (by omega) fun xa ya m7 e7 hxa hya => ⟨r, c, xa, sm, ya, rfl, s41 hxa (by omega) hya (by omega) fun m14 e14 => ⟨_, _, _, rfl, fun m18 h18 => ?_⟩⟩⟩
  obtain ⟨b18, x18⟩ := Bk.new h18
  exact ⟨_, b18.st _, h m14 _ (e7.trans e14) (x18.setR (Nat.le_refl _) _) (b18.set _)⟩
theorem cHits {r c sm p : Int} {x y : C} {L : List Int} {N : List Cnt} {a : Nat} {m : M} {R : Int → Int → Int → M → M → Prop} (hx : Li m x L) (hL : L.length ≤ 1000) (hy : Lc m y N) (hN : N.length ≤ 1000) (ka : Bk m a 5 [.int .i64 r, .int .i64 c, x, .int .i64 sm, y])
    (h : ∀ m1 m2, Ext m m1 → Ext m1 m2 → Bk m2 m1.nxt 2 [.int .i64 (boundsOf r c L sm N (askErr r c L sm N (decide (0 ≤ p ∧ p ≤ r * c - 1))) (fun H => H[p.toNat]!)).1, .int .i64 (boundsOf r c L sm N (askErr r c L sm N (decide (0 ≤ p ∧ p ≤ r * c - 1))) (fun H => H[p.toNat]!)).2] → R (boundsOf r c L sm N (askErr r c L sm N (decide (0 ≤ p ∧ p ≤ r * c - 1))) (fun H => H[p.toNat]!)).1 (boundsOf r c L sm N (askErr r c L sm N (decide (0 ≤ p ∧ p ≤ r * c - 1))) (fun H => H[p.toNat]!)).2 (askErr r c L sm N (decide (0 ≤ p ∧ p ≤ r * c - 1))) m1 m2) :
    ∃ x1 x2 : Int, ∃ c3 : C, ∃ x4 : Int, ∃ c5 : C, ldA m (C.ptr a 0) 5 = some [C.int .i64 x1, C.int .i64 x2, c3, C.int .i64 x4, c5] ∧ Wc prog tbl 33 [V.agg 5 [C.int .i64 x1, C.int .i64 x2, c3, C.int .i64 x4, c5]] m fun v6 m7 => ∃ x8 x9 : Int, ∃ c10 : C, ∃ x11 : Int, ∃ c12 : C, v6 = V.agg 5 [C.int .i64 x8, C.int .i64 x9, c10, C.int .i64 x11, c12] ∧
      Wc prog tbl 42 [V.agg 5 [C.int .i64 x8, C.int .i64 x9, c10, C.int .i64 x11, c12], V.c (C.int .i64 p)] m7 fun v13 m14 => ∃ x15 x16 x17 : Int, v13 = V.tup [U.agg 2 [C.int .i64 x15, C.int .i64 x16], U.c (C.int .i64 x17)] ∧ ∀ m18 : M, m18 = M.new m14 (AO.cells 2 [C.int .i64 0, C.int .i64 0] false) → ∃ m19 : M, stC m18 (C.ptr m14.nxt 0) 2 [C.int .i64 x15, C.int .i64 x16] = some m19 ∧ R x15 x16 x17 m14 m19 := by
  refine ⟨r, c, x, sm, y, ka.ra, s33 hx (by omega) hy (by omega) fun xa ya m7 e7 hxa hya => ⟨r, c, xa, sm, ya, rfl, s42 hxa (by omega) hya (by omega) fun m14 e14 => ⟨_, _, _, rfl, fun m18 h18 => ?_⟩⟩⟩
  obtain ⟨b18, x18⟩ := Bk.new h18
  exact ⟨_, b18.st _, h m14 _ (e7.trans e14) (x18.setR (Nat.le_refl _) _) (b18.set _)⟩
end
end Go.Proofs.Ytgkjfhkjgdiodaa

namespace Go.Proofs.Ytgkjfhkjgdiodaa
open _root_.Go.Proofs.Try
open Go.Abs
set_option maxRecDepth 100000
noncomputable section
theorem truthR_iff {c sm : Int} {L H : List Int} {N : List Cnt} : truthR c sm L N H = true ↔ TruthR c sm L N H :=
  ⟨fun h => by
    by_cases hT : TruthR c sm L N H
    · exact hT
    · rw [truthR_false hT] at h; exact absurd h (by decide), truthR_true⟩
theorem sv_ok {r c sm : Int} {L : List Int} {N : List Cnt} (hO : Okay r c L N) (hsm : 0 ≤ sm ∧ sm ≤ 9) (hP : prodN L ≤ 2000) : svErr r c L sm N = 0 := by
  obtain ⟨hS, _, _⟩ := field_of hO.f
  unfold svErr
  rw [if_pos hO.n, if_pos (show isSv r c L sm N = true from by unfold isSv; rw [hO.f, decide_eq_true hsm, decide_eq_true hO.v]; rfl), if_pos (by rw [mulL_prod L 1 hS]; omega)]
theorem mem_P {r c sm : Int} {L H : List Int} {N : List Cnt} (hv : svErr r c L sm N = 0) : H ∈ truthsP c sm L N ↔ TruthR c sm L N H := by
  obtain ⟨hO, hsm⟩ := okay_of hv
  rw [← truthR_iff]
  exact mem_truths hO hsm.1
theorem true_ex {r c sm : Int} {L : List Int} {N : List Cnt} (hv : svErr r c L sm N = 0) : trueErr r c L sm N = 0 ↔ ∃ H, TruthR c sm L N H := by
  constructor
  · intro h
    obtain ⟨_, hp⟩ := true_sv h
    exact ⟨_, (mem_P hv).1 (List.getElem_mem hp)⟩
  · rintro ⟨H, h⟩
    have := (mem_P hv).2 h
    unfold trueErr
    rw [if_pos hv]
    cases ht : truthsP c sm L N with
    | nil => rw [ht] at this; cases this
    | cons a l => rfl
theorem lo_mono {D E : List Int} (hD : 0 < D.length) (h : ∀ v ∈ D, v ∈ E) : loOf E ≤ loOf D ∧ hiOf D ≤ hiOf E := by
  have hE : 0 < E.length := List.length_pos_of_mem (h _ (lo_spec hD).1)
  exact ⟨(lo_spec hE).2 _ (h _ (lo_spec hD).1), (hi_spec hE).2 _ (h _ (hi_spec hD).1)⟩
theorem bd_mono {r c sm r' c' sm' : Int} {L L' : List Int} {N N' : List Cnt} (hv : svErr r c L sm N = 0) (hv' : svErr r' c' L' sm' N' = 0) (ht : trueErr r c L sm N = 0) (num num' : List Int → Int)
    (h : ∀ H, TruthR c sm L N H → ∃ H', TruthR c' sm' L' N' H' ∧ num' H' = num H) :
    trueErr r' c' L' sm' N' = 0 ∧ loOf ((truthsP c' sm' L' N').map num') ≤ loOf ((truthsP c sm L N).map num) ∧ hiOf ((truthsP c sm L N).map num) ≤ hiOf ((truthsP c' sm' L' N').map num') := by
  obtain ⟨_, hp⟩ := true_sv ht
  refine ⟨(true_ex hv').2 ?_, lo_mono (by rw [List.length_map]; exact hp) fun v hv1 => ?_⟩
  · obtain ⟨H, hH⟩ := (true_ex hv).1 ht
    obtain ⟨H', h1, _⟩ := h H hH
    exact ⟨H', h1⟩
  · obtain ⟨H, h1, rfl⟩ := List.mem_map.1 hv1
    obtain ⟨H', h2, h3⟩ := h H ((mem_P hv).1 h1)
    exact List.mem_map.2 ⟨H', (mem_P hv').2 h2, h3⟩
theorem smooth_mono {c sm sm' : Int} {L H : List Int} {N : List Cnt} (hs : sm ≤ sm') (h : TruthR c sm L N H) : TruthR c sm' L N H :=
  ⟨h.1, fun a b h1 h2 h3 => by have := h.2.1 a b h1 h2 h3; omega, h.2.2⟩
theorem set_get {H : List Int} {p i : Nat} {v : Int} (hp : p < H.length) : (H.set p v)[i]! = if i = p then v else H[i]! := by
  by_cases hi : i < H.length
  · rw [getElem!_pos _ i (by rw [List.length_set]; exact hi), getElem!_pos H i hi, List.getElem_set]
    by_cases h : p = i
    · rw [if_pos h, if_pos h.symm]
    · rw [if_neg h, if_neg fun h' => h h'.symm]
  · rw [if_neg (by omega), getElem!_neg _ i (by rw [List.length_set]; exact hi), getElem!_neg H i hi]
/-- the range of hits that stems and counts leave a place -/
def dueF (p : Int) : Int × Int → List Cnt → Int × Int
  | a, [] => a
  | a, n :: N => dueF p (if n.p = p ∧ n.late = false then (max a.1 n.lo, min a.2 n.hi) else a) N
theorem dueF_step {p : Int} {N : List Cnt} {i : Nat} (hi : i < N.length) (a : Int × Int) : dueF p a (N.drop i) = dueF p (if N[i].p = p ∧ N[i].late = false then (max a.1 N[i].lo, min a.2 N[i].hi) else a) (N.drop (i + 1)) := by rw [List.drop_eq_getElem_cons hi]; rfl
theorem dueF_spec {p v : Int} : ∀ {N : List Cnt} {a : Int × Int}, ((dueF p a N).1 ≤ v ∧ v ≤ (dueF p a N).2) ↔ (a.1 ≤ v ∧ v ≤ a.2) ∧ ∀ n ∈ N, n.p = p → n.late = false → n.lo ≤ v ∧ v ≤ n.hi
  | [], a => ⟨fun h => ⟨h, fun n hn => by cases hn⟩, fun h => h.1⟩
  | n :: N, a => by
    show ((dueF p _ N).1 ≤ v ∧ v ≤ (dueF p _ N).2) ↔ _
    rw [dueF_spec]
    by_cases hn : n.p = p ∧ n.late = false
    · rw [if_pos hn]
      constructor
      · rintro ⟨⟨h1, h2⟩, h3⟩
        have h1' : max a.1 n.lo ≤ v := h1
        have h2' : v ≤ min a.2 n.hi := h2
        refine ⟨by omega, fun k hk h4 h5 => ?_⟩
        rcases List.mem_cons.1 hk with rfl | hk
        · omega
        · exact h3 k hk h4 h5
      · rintro ⟨h1, h2⟩
        have := h2 n (List.mem_cons_self ..) hn.1 hn.2
        exact ⟨⟨by show max a.1 n.lo ≤ v; omega, by show v ≤ min a.2 n.hi; omega⟩, fun k hk => h2 k (List.mem_cons_of_mem _ hk)⟩
    · rw [if_neg hn]
      refine ⟨fun h => ⟨h.1, fun k hk h4 h5 => ?_⟩, fun h => ⟨h.1, fun k hk => h.2 k (List.mem_cons_of_mem _ hk)⟩⟩
      rcases List.mem_cons.1 hk with rfl | hk
      · exact absurd ⟨h4, h5⟩ hn
      · exact h.2 k hk h4 h5
/-- hits of neighbours can't differ by more than 9 -/
theorem smooth9 {r c : Int} {L : List Int} {N : List Cnt} {p : Nat} (hv : svErr r c L 9 N = 0) (ht : trueErr r c L 9 N = 0) (hp : p < L.length) :
    loOf ((truthsP c 9 L N).map fun H => H[p]!) = (dueF p (0, L[p]!) N).1 ∧ hiOf ((truthsP c 9 L N).map fun H => H[p]!) = (dueF p (0, L[p]!) N).2 := by
  obtain ⟨hO, hsm⟩ := okay_of hv
  obtain ⟨hS, hL9, hrc⟩ := field_of hO.f
  obtain ⟨_, hpos⟩ := true_sv ht
  have hmem : ∀ v, v ∈ (truthsP c 9 L N).map (fun H => H[p]!) ↔ (dueF p (0, L[p]!) N).1 ≤ v ∧ v ≤ (dueF p (0, L[p]!) N).2 := fun v => by
    rw [dueF_spec, List.mem_map]
    constructor
    · rintro ⟨H, h1, rfl⟩
      have hT := (mem_P hv).1 h1
      refine ⟨(of_decide_eq_true hT.1).2 p hp, fun n hn h2 h3 => ?_⟩
      have := hT.2.2 n hn h3
      rw [h2, Int.toNat_natCast] at this
      exact this
    · rintro ⟨h1, h2⟩
      obtain ⟨H, hT⟩ := (true_ex hv).1 ht
      have hl := (of_decide_eq_true hT.1).1
      have hpH : p < H.length := by omega
      refine ⟨H.set p v, (mem_P hv).2 ?_, by rw [set_get hpH, if_pos rfl]⟩
      have hlist : listed L (H.set p v) = true := decide_eq_true ⟨by rw [List.length_set]; exact hl, fun i hi => by
        rw [set_get hpH]
        by_cases h3 : i = p
        · rw [if_pos h3, h3]; exact h1
        · rw [if_neg h3]; exact (of_decide_eq_true hT.1).2 i hi⟩
      refine ⟨hlist, fun a b h3 h4 _ => ?_, fun n hn h3 => ?_⟩
      · have hSm := small_listed hS hlist
        have ha := hSm _ (List.getElem_mem (l := H.set p v) (n := a) (Nat.lt_trans h3 h4))
        have hb := hSm _ (List.getElem_mem (l := H.set p v) (n := b) h4)
        rw [getElem!_pos (H.set p v) a (Nat.lt_trans h3 h4), getElem!_pos (H.set p v) b h4]
        omega
      · rw [set_get hpH]
        have h5 : 0 ≤ n.p := (of_decide_eq_true (hO.v n hn)).1.1
        by_cases h4 : n.p.toNat = p
        · rw [if_pos h4]; exact h2 n hn (by omega) h3
        · rw [if_neg h4]; exact hT.2.2 n hn h3
  have hlp : 0 < ((truthsP c 9 L N).map fun H => H[p]!).length := by rw [List.length_map]; exact hpos
  obtain ⟨l1, l2⟩ := lo_spec hlp
  obtain ⟨g1, g2⟩ := hi_spec hlp
  have a1 := (hmem _).1 l1
  have a2 := (hmem _).1 g1
  have a3 := l2 _ ((hmem _).2 ⟨Int.le_refl _, by omega⟩)
  have a4 := g2 _ ((hmem _).2 ⟨by omega, Int.le_refl _⟩)
  constructor <;> omega
end
end Go.Proofs.Ytgkjfhkjgdiodaa

namespace Go.Proofs.Ytgkjfhkjgdiodaa
open _root_.Go.Proofs.Try
open Go.Abs
set_option maxRecDepth 100000
noncomputable section
theorem w18 {a100 : Int} {a101 : Int} {a102 : C} {a103 : Int} {a104 : C} {a200 : Int} {m : M} {Q : V → M → Prop} (h :
 (∀ m0 : M, ((m0 = (M.new m (AO.cells 5 [(C.int IntKind.i64 a100), (C.int IntKind.i64 a101), a102, (C.int IntKind.i64 a103), 
 a104] false))) → (∃ x1 : Int, (∃ x2 : Int, (∃ c3 : C, (∃ x4 : Int, (∃ c5 : C, (((ldA m0 (C.ptr (m).nxt 0) 5) = (Option.some [(C.int IntKind.i64 x1), 
 (C.int IntKind.i64 x2), c3, (C.int IntKind.i64 x4), c5])) ∧ (Wc prog tbl 58 [(V.agg 5 [(C.int IntKind.i64 x1), 
 (C.int IntKind.i64 x2), c3, (C.int IntKind.i64 x4), c5])] m0 (fun v6 m7 => (∃ b8 : Bool, ((v6 = (V.c (C.bool b8))) ∧ 
 (ifB (!b8) (Wc prog tbl 20 [] m7 (fun v9 m10 => (∃ b11 : Bool, ((v9 = (V.c (C.bool b11))) ∧ (Q (V.c (C.bool b11)) m10))))) (isPt (C.ptr (m).nxt 0) ∧ 
 (∃ c12 : C, (((ldC m7 (C.ptr (m).nxt 4)) = (Option.some c12)) ∧ (isSl c12 ∧ (ifB (decide ((((slLen c12) : Nat) : Int) = (0 : Int))) (Wc prog tbl 20 [] m7 (fun v13 m14 => 
 (∃ b15 : Bool, ((v13 = (V.c (C.bool b15))) ∧ (Q (V.c (C.bool b15)) m14))))) (isPt (C.ptr (m).nxt 0) ∧ 
 (∃ c16 : C, (((ldC m7 (C.ptr (m).nxt 4)) = (Option.some c16)) ∧ (isSl c16 ∧ (((0 : Int) ≤ (wrapZ IntKind.i64 a200)) ∧ 
 (((0 : Int) < (((slLen c16) : Nat) : Int)) ∧ (fitsP IntKind.i64 ((wrapZ IntKind.i64 a200) % (((slLen c16) : Nat) : Int)) ∧ 
 (∀ m17 : M, ((m17 = (mGrow m7 2)) → (∃ x18 : Int, (∃ x19 : Int, (∃ c20 : C, (∃ x21 : Int, 
 (∃ c22 : C, (((ldA m17 (C.ptr (m).nxt 0) 5) = (Option.some [(C.int IntKind.i64 x18), 
 (C.int IntKind.i64 x19), c20, (C.int IntKind.i64 x21), c22])) ∧ (∃ x23 : Int, 
 (∃ x24 : Int, (∃ c25 : C, (∃ x26 : Int, (∃ c27 : C, (((ldA m17 (C.ptr (m).nxt 0) 5) = (Option.some [(C.int IntKind.i64 x23), 
 (C.int IntKind.i64 x24), c25, (C.int IntKind.i64 x26), c27])) ∧ (∃ x28 : Int, 
 (∃ x29 : Int, (∃ c30 : C, (∃ x31 : Int, (∃ c32 : C, (((ldA m17 (C.ptr (m).nxt 0) 5) = (Option.some [(C.int IntKind.i64 x28), 
 (C.int IntKind.i64 x29), c30, (C.int IntKind.i64 x31), c32])) ∧ (∀ m33 : M, ((m33 = (M.new m17 (AO.cells 5 [(C.int IntKind.i64 (0 : Int)), 
 (C.int IntKind.i64 (0 : Int)), C.sl0, (C.int IntKind.i64 (0 : Int)), C.sl0] false))) → 
 ((ifB (allS noFnC [(C.int IntKind.i64 x28), (C.int IntKind.i64 x29), c30, (C.int IntKind.i64 x31), 
 c32]) ((ldA m33 (C.ptr (m).nxt 0) 5) = (Option.some [(C.int IntKind.i64 x28), 
 (C.int IntKind.i64 x29), c30, (C.int IntKind.i64 x31), c32])) False) ∧ ((ifB (allS noFnC [(C.int IntKind.i64 x23), 
 (C.int IntKind.i64 x24), c25, (C.int IntKind.i64 x26), c27]) ((ldA m33 (C.ptr (m).nxt 0) 5) = (Option.some [(C.int IntKind.i64 x23), 
 (C.int IntKind.i64 x24), c25, (C.int IntKind.i64 x26), c27])) False) ∧ ((ifB (allS noFnC [(C.int IntKind.i64 x18), 
 (C.int IntKind.i64 x19), c20, (C.int IntKind.i64 x21), c22]) ((ldA m33 (C.ptr (m).nxt 0) 5) = (Option.some [(C.int IntKind.i64 x18), 
 (C.int IntKind.i64 x19), c20, (C.int IntKind.i64 x21), c22])) False) ∧ (∀ m34 : M, 
 ((m34 = (M.set m33 ((m7).nxt + 0) (AO.cells 5 [(C.int IntKind.i64 (0 : Int)), 
 (C.int IntKind.i64 (0 : Int)), C.sl0, (C.int IntKind.i64 (0 : Int)), C.sl0] false))) → 
 ((ifB (allS noFnC [(C.int IntKind.i64 x28), (C.int IntKind.i64 x29), c30, (C.int IntKind.i64 x31), 
 c32]) ((ldA m34 (C.ptr (m).nxt 0) 5) = (Option.some [(C.int IntKind.i64 x28), 
 (C.int IntKind.i64 x29), c30, (C.int IntKind.i64 x31), c32])) False) ∧ ((ifB (allS noFnC [(C.int IntKind.i64 x23), 
 (C.int IntKind.i64 x24), c25, (C.int IntKind.i64 x26), c27]) ((ldA m34 (C.ptr (m).nxt 0) 5) = (Option.some [(C.int IntKind.i64 x23), 
 (C.int IntKind.i64 x24), c25, (C.int IntKind.i64 x26), c27])) False) ∧ ((ifB (allS noFnC [(C.int IntKind.i64 x18), 
 (C.int IntKind.i64 x19), c20, (C.int IntKind.i64 x21), c22]) ((ldA m34 (C.ptr (m).nxt 0) 5) = (Option.some [(C.int IntKind.i64 x18), 
 (C.int IntKind.i64 x19), c20, (C.int IntKind.i64 x21), c22])) False) ∧ (∀ m35 : M, 
 ((m35 = (M.set m34 ((m7).nxt + 1) (AO.cells 5 [(C.int IntKind.i64 (0 : Int)), 
 (C.int IntKind.i64 (0 : Int)), C.sl0, (C.int IntKind.i64 (0 : Int)), C.sl0] false))) → 
 ((ifB (allS noFnC [(C.int IntKind.i64 x28), (C.int IntKind.i64 x29), c30, (C.int IntKind.i64 x31), 
 c32]) ((ldA m35 (C.ptr (m).nxt 0) 5) = (Option.some [(C.int IntKind.i64 x28), 
 (C.int IntKind.i64 x29), c30, (C.int IntKind.i64 x31), c32])) False) ∧ ((ifB (allS noFnC [(C.int IntKind.i64 x23), 
 (C.int IntKind.i64 x24), c25, (C.int IntKind.i64 x26), c27]) ((ldA m35 (C.ptr (m).nxt 0) 5) = (Option.some [(C.int IntKind.i64 x23), 
 (C.int IntKind.i64 x24), c25, (C.int IntKind.i64 x26), c27])) False) ∧ ((ifB (allS noFnC [(C.int IntKind.i64 x18), 
 (C.int IntKind.i64 x19), c20, (C.int IntKind.i64 x21), c22]) ((ldA m35 (C.ptr (m).nxt 0) 5) = (Option.some [(C.int IntKind.i64 x18), 
 (C.int IntKind.i64 x19), c20, (C.int IntKind.i64 x21), c22])) False) ∧ (∃ m36 : M, 
 (((stC m35 (C.ptr (m17).nxt 0) 5 [(C.int IntKind.i64 x18), (C.int IntKind.i64 x19), 
 c20, (C.int IntKind.i64 x21), c22]) = (Option.some m36)) ∧ ((ifB (allS noFnC [(C.int IntKind.i64 x28), 
 (C.int IntKind.i64 x29), c30, (C.int IntKind.i64 x31), c32]) ((ldA m36 (C.ptr (m).nxt 0) 5) = (Option.some [(C.int IntKind.i64 x28), 
 (C.int IntKind.i64 x29), c30, (C.int IntKind.i64 x31), c32])) False) ∧ ((ifB (allS noFnC [(C.int IntKind.i64 x23), 
 (C.int IntKind.i64 x24), c25, (C.int IntKind.i64 x26), c27]) ((ldA m36 (C.ptr (m).nxt 0) 5) = (Option.some [(C.int IntKind.i64 x23), 
 (C.int IntKind.i64 x24), c25, (C.int IntKind.i64 x26), c27])) False) ∧ (∃ m37 : M, 
 (((stC m36 (C.ptr ((m7).nxt + 0) 0) 5 [(C.int IntKind.i64 x23), (C.int IntKind.i64 x24), 
 c25, (C.int IntKind.i64 x26), c27]) = (Option.some m37)) ∧ ((ifB (allS noFnC [(C.int IntKind.i64 x28), 
 (C.int IntKind.i64 x29), c30, (C.int IntKind.i64 x31), c32]) ((ldA m37 (C.ptr (m).nxt 0) 5) = (Option.some [(C.int IntKind.i64 x28), 
 (C.int IntKind.i64 x29), c30, (C.int IntKind.i64 x31), c32])) False) ∧ (∃ m38 : M, 
 (((stC m37 (C.ptr ((m7).nxt + 1) 0) 5 [(C.int IntKind.i64 x28), (C.int IntKind.i64 x29), 
 c30, (C.int IntKind.i64 x31), c32]) = (Option.some m38)) ∧ (∀ m39 : M, ((m39 = (mGrow m38 1)) → 
 (∀ m40 : M, ((m40 = (M.new m39 (AO.cells 0 [] false))) → (isPt (C.ptr (m).nxt 0) ∧ 
 (∃ c41 : C, (((ldC m40 (C.ptr (m).nxt 4)) = (Option.some c41)) ∧ ((ifB (noFnC c41) ((ldC m39 (C.ptr (m).nxt 4)) = (Option.some c41)) False) ∧ 
 (∃ c42 : C, (∃ m43 : M, ((ApR prog 27 m40 (C.sl (m39).nxt 0 0 0 (Option.some 0)) c41 c42 m43) ∧ 
 (∀ m44 : M, ((m44 = (M.set m43 ((m38).nxt + 0) (AO.cells 0 [] false))) → ((ifB (noFnC c41) ((ldC m44 (C.ptr (m).nxt 4)) = (Option.some c41)) False) ∧ 
 (isPt (C.ptr (m).nxt 0) ∧ (∃ c45 : C, (((ldC m44 (C.ptr (m).nxt 4)) = (Option.some c45)) ∧ 
 ((ifB (noFnC c45) ((ldC m43 (C.ptr (m).nxt 4)) = (Option.some c45)) False) ∧ 
 ((ifB (noFnC c45) ((ldC m40 (C.ptr (m).nxt 4)) = (Option.some c45)) False) ∧ 
 ((ifB (noFnC c45) ((ldC m39 (C.ptr (m).nxt 4)) = (Option.some c45)) False) ∧ 
 (∃ c46 : C, (∃ m47 : M, ((ApR prog 27 m44 (C.sl ((m38).nxt + 0) 0 0 0 (Option.some 0)) c45 c46 m47) ∧ 
 (isPt (C.ptr (m17).nxt 0) ∧ (∃ m48 : M, (((stC m47 (C.ptr (m17).nxt 4) 1 [c42]) = (Option.some m48)) ∧ 
 (isPt (C.ptr ((m7).nxt + 1) 0) ∧ (∃ m49 : M, (((stC m48 (C.ptr ((m7).nxt + 1) 4) 1 [c46]) = (Option.some m49)) ∧ 
 (isPt (C.ptr (m17).nxt 0) ∧ (∃ c50 : C, (((ldC m49 (C.ptr (m17).nxt 4)) = (Option.some c50)) ∧ 
 (isPt (C.ptr ((m7).nxt + 1) 0) ∧ (∃ c51 : C, (((ldC m49 (C.ptr ((m7).nxt + 1) 4)) = (Option.some c51)) ∧ 
 (∃ n52 : Nat, ((((wrapZ IntKind.i64 a200) % (((slLen c16) : Nat) : Int)) = ((n52 : Nat) : Int)) ∧ 
 ((n52 < (slLen c50)) ∧ (isPt (slAt c50 (n52 * 4)) ∧ (∃ m53 : M, (((stC m49 (ptAdd (slAt c50 (n52 * 4)) 3) 1 [(C.bool true)]) = (Option.some m53)) ∧ 
 ((ifB (noFnC c51) ((ldC m53 (C.ptr ((m7).nxt + 1) 4)) = (Option.some c51)) False) ∧ 
 (∃ n54 : Nat, ((((wrapZ IntKind.i64 a200) % (((slLen c16) : Nat) : Int)) = ((n54 : Nat) : Int)) ∧ 
 ((n54 < (slLen c51)) ∧ (isPt (slAt c51 (n54 * 4)) ∧ (∃ m55 : M, (((stC m53 (ptAdd (slAt c51 (n54 * 4)) 3) 1 [(C.bool false)]) = (Option.some m55)) ∧ 
 (∀ m56 : M, ((m56 = (M.new m55 (AO.cells 0 [] false))) → (isPt (C.ptr (m).nxt 0) ∧ 
 (∃ c57 : C, (((ldC m56 (C.ptr (m).nxt 4)) = (Option.some c57)) ∧ ((ifB (noFnC c57) ((ldC m55 (C.ptr (m).nxt 4)) = (Option.some c57)) False) ∧ 
 (∃ n58 : Nat, (∃ n59 : Nat, ((n58 = 0) ∧ ((((wrapZ IntKind.i64 a200) % (((slLen c16) : Nat) : Int)) = ((n59 : Nat) : Int)) ∧ 
 (∃ c60 : C, (((subC 4 c57 n58 n59) = (Option.some c60)) ∧ (∃ c61 : C, (∃ m62 : M, 
 ((ApR prog 27 m56 (C.sl (m55).nxt 0 0 0 (Option.some 0)) c60 c61 m62) ∧ (isPt (C.ptr (m).nxt 0) ∧ 
 (∃ c63 : C, (((ldC m62 (C.ptr (m).nxt 4)) = (Option.some c63)) ∧ ((ifB (noFnC c63) ((ldC m56 (C.ptr (m).nxt 4)) = (Option.some c63)) False) ∧ 
 ((ifB (noFnC c63) ((ldC m55 (C.ptr (m).nxt 4)) = (Option.some c63)) False) ∧ 
 (fitsP IntKind.i64 (((wrapZ IntKind.i64 a200) % (((slLen c16) : Nat) : Int)) + (1 : Int)) ∧ 
 (∃ n64 : Nat, (∃ n65 : Nat, (((((wrapZ IntKind.i64 a200) % (((slLen c16) : Nat) : Int)) + (1 : Int)) = ((n64 : Nat) : Int)) ∧ 
 ((n65 = (slLen c63)) ∧ (∃ c66 : C, (((subC 4 c63 n64 n65) = (Option.some c66)) ∧ 
 (∃ c67 : C, (∃ m68 : M, ((ApR prog 27 m62 c61 c66 c67 m68) ∧ (isPt (C.ptr ((m7).nxt + 0) 0) ∧ 
 (∃ m69 : M, (((stC m68 (C.ptr ((m7).nxt + 0) 4) 1 [c67]) = (Option.some m69)) ∧ 
 (∃ x70 : Int, (∃ x71 : Int, (∃ c72 : C, (∃ x73 : Int, (∃ c74 : C, (((ldA m69 (C.ptr (m17).nxt 0) 5) = (Option.some [(C.int IntKind.i64 x70), 
 (C.int IntKind.i64 x71), c72, (C.int IntKind.i64 x73), c74])) ∧ (Wc prog tbl 33 [(V.agg 5 [(C.int IntKind.i64 x70), 
 (C.int IntKind.i64 x71), c72, (C.int IntKind.i64 x73), c74])] m69 (fun v75 m76 => 
 (∃ x77 : Int, (∃ x78 : Int, (∃ c79 : C, (∃ x80 : Int, (∃ c81 : C, ((v75 = (V.agg 5 [(C.int IntKind.i64 x77), 
 (C.int IntKind.i64 x78), c79, (C.int IntKind.i64 x80), c81])) ∧ (Wc prog tbl 41 [(V.agg 5 [(C.int IntKind.i64 x77), 
 (C.int IntKind.i64 x78), c79, (C.int IntKind.i64 x80), c81])] m76 (fun v82 m83 => 
 (∃ x84 : Int, (∃ x85 : Int, (∃ x86 : Int, ((v82 = (V.tup [(U.agg 2 [(C.int IntKind.i64 x84), 
 (C.int IntKind.i64 x85)]), (U.c (C.int IntKind.i64 x86))])) ∧ (∀ m87 : M, ((m87 = (M.new m83 (AO.cells 2 [(C.int IntKind.i64 (0 : Int)), 
 (C.int IntKind.i64 (0 : Int))] false))) → (∃ m88 : M, (((stC m87 (C.ptr (m83).nxt 0) 2 [(C.int IntKind.i64 x84), 
 (C.int IntKind.i64 x85)]) = (Option.some m88)) ∧ (∃ x89 : Int, (∃ x90 : Int, 
 (∃ c91 : C, (∃ x92 : Int, (∃ c93 : C, (((ldA m88 (C.ptr ((m7).nxt + 0) 0) 5) = (Option.some [(C.int IntKind.i64 x89), 
 (C.int IntKind.i64 x90), c91, (C.int IntKind.i64 x92), c93])) ∧ (Wc prog tbl 33 [(V.agg 5 [(C.int IntKind.i64 x89), 
 (C.int IntKind.i64 x90), c91, (C.int IntKind.i64 x92), c93])] m88 (fun v94 m95 => 
 (∃ x96 : Int, (∃ x97 : Int, (∃ c98 : C, (∃ x99 : Int, (∃ c100 : C, ((v94 = (V.agg 5 [(C.int IntKind.i64 x96), 
 (C.int IntKind.i64 x97), c98, (C.int IntKind.i64 x99), c100])) ∧ (Wc prog tbl 41 [(V.agg 5 [(C.int IntKind.i64 x96), 
 (C.int IntKind.i64 x97), c98, (C.int IntKind.i64 x99), c100])] m95 (fun v101 m102 => 
 (∃ x103 : Int, (∃ x104 : Int, (∃ x105 : Int, ((v101 = (V.tup [(U.agg 2 [(C.int IntKind.i64 x103), 
 (C.int IntKind.i64 x104)]), (U.c (C.int IntKind.i64 x105))])) ∧ (∀ m106 : M, 
 ((m106 = (M.new m102 (AO.cells 2 [(C.int IntKind.i64 (0 : Int)), (C.int IntKind.i64 (0 : Int))] false))) → 
 (∃ m107 : M, (((stC m106 (C.ptr (m102).nxt 0) 2 [(C.int IntKind.i64 x103), (C.int IntKind.i64 x104)]) = (Option.some m107)) ∧ 
 (∃ x108 : Int, (∃ x109 : Int, (∃ c110 : C, (∃ x111 : Int, (∃ c112 : C, (((ldA m107 (C.ptr ((m7).nxt + 1) 0) 5) = (Option.some [(C.int IntKind.i64 x108), 
 (C.int IntKind.i64 x109), c110, (C.int IntKind.i64 x111), c112])) ∧ (Wc prog tbl 33 [(V.agg 5 [(C.int IntKind.i64 x108), 
 (C.int IntKind.i64 x109), c110, (C.int IntKind.i64 x111), c112])] m107 (fun v113 m114 => 
 (∃ x115 : Int, (∃ x116 : Int, (∃ c117 : C, (∃ x118 : Int, (∃ c119 : C, ((v113 = (V.agg 5 [(C.int IntKind.i64 x115), 
 (C.int IntKind.i64 x116), c117, (C.int IntKind.i64 x118), c119])) ∧ (Wc prog tbl 41 [(V.agg 5 [(C.int IntKind.i64 x115), 
 (C.int IntKind.i64 x116), c117, (C.int IntKind.i64 x118), c119])] m114 (fun v120 m121 => 
 (∃ x122 : Int, (∃ x123 : Int, (∃ x124 : Int, ((v120 = (V.tup [(U.agg 2 [(C.int IntKind.i64 x122), 
 (C.int IntKind.i64 x123)]), (U.c (C.int IntKind.i64 x124))])) ∧ (∀ m125 : M, 
 ((m125 = (M.new m121 (AO.cells 2 [(C.int IntKind.i64 (0 : Int)), (C.int IntKind.i64 (0 : Int))] false))) → 
 (∃ m126 : M, (((stC m125 (C.ptr (m121).nxt 0) 2 [(C.int IntKind.i64 x122), (C.int IntKind.i64 x123)]) = (Option.some m126)) ∧ 
 (ifB (!decide (x86 = x105)) (Q (V.c (C.bool false)) m126) (∃ x127 : Int, (∃ x128 : Int, 
 (((ldA m126 (C.ptr (m83).nxt 0) 2) = (Option.some [(C.int IntKind.i64 x127), 
 (C.int IntKind.i64 x128)])) ∧ (∃ x129 : Int, (∃ x130 : Int, (((ldA m126 (C.ptr (m102).nxt 0) 2) = (Option.some [(C.int IntKind.i64 x129), 
 (C.int IntKind.i64 x130)])) ∧ (fitsP IntKind.i64 x127 ∧ (fitsP IntKind.i64 x129 ∧ 
 (fitsP IntKind.i64 x128 ∧ (fitsP IntKind.i64 x130 ∧ (ifB (!((decide (x127 = x129)) && (decide (x128 = x130)))) (Q (V.c (C.bool false)) m126) (ifB (!decide (x86 = (0 : Int))) (ifB (!decide (x86 = (9 : Int))) (Q (V.c (C.bool false)) m126) (ifB (!decide (x124 = (9 : Int))) (Q (V.c (C.bool false)) m126) (ifB (!decide (x124 = (0 : Int))) (ifB (decide (x124 = (9 : Int))) (Wc prog tbl 20 [] m126 (fun v131 m132 => 
 (∃ b133 : Bool, ((v131 = (V.c (C.bool b133))) ∧ (Q (V.c (C.bool b133)) m132))))) (Q (V.c (C.bool false)) m126)) (isPt (C.ptr (m121).nxt 0) ∧ 
 (∃ x134 : Int, (((ldC m126 (C.ptr (m121).nxt 0)) = (Option.some (C.int IntKind.i64 x134))) ∧ 
 (isPt (C.ptr (m83).nxt 0) ∧ (∃ x135 : Int, (((ldC m126 (C.ptr (m83).nxt 0)) = (Option.some (C.int IntKind.i64 x135))) ∧ 
 (ifB (decide (x135 ≤ x134)) (isPt (C.ptr (m121).nxt 0) ∧ (∃ x136 : Int, (((ldC m126 (C.ptr (m121).nxt 1)) = (Option.some (C.int IntKind.i64 x136))) ∧ 
 (isPt (C.ptr (m83).nxt 0) ∧ (∃ x137 : Int, (((ldC m126 (C.ptr (m83).nxt 1)) = (Option.some (C.int IntKind.i64 x137))) ∧ 
 (ifB (decide (x136 ≤ x137)) (Wc prog tbl 20 [] m126 (fun v138 m139 => (∃ b140 : Bool, 
 ((v138 = (V.c (C.bool b140))) ∧ (Q (V.c (C.bool b140)) m139))))) (Q (V.c (C.bool false)) m126)))))))) (Q (V.c (C.bool false)) m126))))))))))) (ifB (!decide (x124 = (0 : Int))) (ifB (decide (x124 = (9 : Int))) (Wc prog tbl 20 [] m126 (fun v141 m142 => 
 (∃ b143 : Bool, ((v141 = (V.c (C.bool b143))) ∧ (Q (V.c (C.bool b143)) m142))))) (Q (V.c (C.bool false)) m126)) (isPt (C.ptr (m121).nxt 0) ∧ 
 (∃ x144 : Int, (((ldC m126 (C.ptr (m121).nxt 0)) = (Option.some (C.int IntKind.i64 x144))) ∧ 
 (isPt (C.ptr (m83).nxt 0) ∧ (∃ x145 : Int, (((ldC m126 (C.ptr (m83).nxt 0)) = (Option.some (C.int IntKind.i64 x145))) ∧ 
 (ifB (decide (x145 ≤ x144)) (isPt (C.ptr (m121).nxt 0) ∧ (∃ x146 : Int, (((ldC m126 (C.ptr (m121).nxt 1)) = (Option.some (C.int IntKind.i64 x146))) ∧ 
 (isPt (C.ptr (m83).nxt 0) ∧ (∃ x147 : Int, (((ldC m126 (C.ptr (m83).nxt 1)) = (Option.some (C.int IntKind.i64 x147))) ∧ 
 (ifB (decide (x146 ≤ x147)) (Wc prog tbl 20 [] m126 (fun v148 m149 => (∃ b150 : Bool, 
 ((v148 = (V.c (C.bool b150))) ∧ (Q (V.c (C.bool b150)) m149))))) (Q (V.c (C.bool false)) m126)))))))) (Q (V.c (C.bool false)) m126))))))))))))))))))))))))))))))))))))))))))))))))))))))))))))))))))))))))))))))))))))))))))))))))))))))))))))))))))))))))))))))))))))))))))))))))))))))))))))))))))))))))))))))))))))))))))))))))))))))))))))))))))))))))))))))))))))))))))))))))))))) : Wc prog tbl 18 [(V.agg 5 [(C.int IntKind.i64 a100), (C.int IntKind.i64 a101), a102, (C.int IntKind.i64 a103), a104]), (V.c (C.int IntKind.u8 a200))] m Q :=
 wc_eq (n := 2) rfl (by kernel_rfl) (by kernel_rfl) h
theorem w14 {a100 : Int} {a101 : Int} {a102 : C} {a103 : Int} {a104 : C} {a200 : Int} {a300 : Int} {m : M} {Q : V → M → Prop} (h :
 (∀ m0 : M, ((m0 = (M.new m (AO.cells 5 [(C.int IntKind.i64 a100), (C.int IntKind.i64 a101), a102, (C.int IntKind.i64 a103), 
 a104] false))) → (∃ x1 : Int, (∃ x2 : Int, (∃ c3 : C, (∃ x4 : Int, (∃ c5 : C, (((ldA m0 (C.ptr (m).nxt 0) 5) = (Option.some [(C.int IntKind.i64 x1), 
 (C.int IntKind.i64 x2), c3, (C.int IntKind.i64 x4), c5])) ∧ (Wc prog tbl 58 [(V.agg 5 [(C.int IntKind.i64 x1), 
 (C.int IntKind.i64 x2), c3, (C.int IntKind.i64 x4), c5])] m0 (fun v6 m7 => (∃ b8 : Bool, ((v6 = (V.c (C.bool b8))) ∧ 
 (ifB (!b8) (Wc prog tbl 20 [] m7 (fun v9 m10 => (∃ b11 : Bool, ((v9 = (V.c (C.bool b11))) ∧ (Q (V.c (C.bool b11)) m10))))) (∀ m12 : M, 
 ((m12 = (mGrow m7 1)) → (∃ x13 : Int, (∃ x14 : Int, (∃ c15 : C, (∃ x16 : Int, (∃ c17 : C, (((ldA m12 (C.ptr (m).nxt 0) 5) = (Option.some [(C.int IntKind.i64 x13), 
 (C.int IntKind.i64 x14), c15, (C.int IntKind.i64 x16), c17])) ∧ (∃ x18 : Int, (∃ x19 : Int, 
 (∃ c20 : C, (∃ x21 : Int, (∃ c22 : C, (((ldA m12 (C.ptr (m).nxt 0) 5) = (Option.some [(C.int IntKind.i64 x18), 
 (C.int IntKind.i64 x19), c20, (C.int IntKind.i64 x21), c22])) ∧ (∀ m23 : M, ((m23 = (M.new m12 (AO.cells 5 [(C.int IntKind.i64 (0 : Int)), 
 (C.int IntKind.i64 (0 : Int)), C.sl0, (C.int IntKind.i64 (0 : Int)), C.sl0] false))) → 
 ((ifB (allS noFnC [(C.int IntKind.i64 x18), (C.int IntKind.i64 x19), c20, (C.int IntKind.i64 x21), 
 c22]) ((ldA m23 (C.ptr (m).nxt 0) 5) = (Option.some [(C.int IntKind.i64 x18), 
 (C.int IntKind.i64 x19), c20, (C.int IntKind.i64 x21), c22])) False) ∧ ((ifB (allS noFnC [(C.int IntKind.i64 x13), 
 (C.int IntKind.i64 x14), c15, (C.int IntKind.i64 x16), c17]) ((ldA m23 (C.ptr (m).nxt 0) 5) = (Option.some [(C.int IntKind.i64 x13), 
 (C.int IntKind.i64 x14), c15, (C.int IntKind.i64 x16), c17])) False) ∧ (∀ m24 : M, 
 ((m24 = (M.set m23 ((m7).nxt + 0) (AO.cells 5 [(C.int IntKind.i64 (0 : Int)), 
 (C.int IntKind.i64 (0 : Int)), C.sl0, (C.int IntKind.i64 (0 : Int)), C.sl0] false))) → 
 ((ifB (allS noFnC [(C.int IntKind.i64 x18), (C.int IntKind.i64 x19), c20, (C.int IntKind.i64 x21), 
 c22]) ((ldA m24 (C.ptr (m).nxt 0) 5) = (Option.some [(C.int IntKind.i64 x18), 
 (C.int IntKind.i64 x19), c20, (C.int IntKind.i64 x21), c22])) False) ∧ ((ifB (allS noFnC [(C.int IntKind.i64 x13), 
 (C.int IntKind.i64 x14), c15, (C.int IntKind.i64 x16), c17]) ((ldA m24 (C.ptr (m).nxt 0) 5) = (Option.some [(C.int IntKind.i64 x13), 
 (C.int IntKind.i64 x14), c15, (C.int IntKind.i64 x16), c17])) False) ∧ (∃ m25 : M, 
 (((stC m24 (C.ptr (m12).nxt 0) 5 [(C.int IntKind.i64 x13), (C.int IntKind.i64 x14), 
 c15, (C.int IntKind.i64 x16), c17]) = (Option.some m25)) ∧ ((ifB (allS noFnC [(C.int IntKind.i64 x18), 
 (C.int IntKind.i64 x19), c20, (C.int IntKind.i64 x21), c22]) ((ldA m25 (C.ptr (m).nxt 0) 5) = (Option.some [(C.int IntKind.i64 x18), 
 (C.int IntKind.i64 x19), c20, (C.int IntKind.i64 x21), c22])) False) ∧ (∃ m26 : M, 
 (((stC m25 (C.ptr ((m7).nxt + 0) 0) 5 [(C.int IntKind.i64 x18), (C.int IntKind.i64 x19), 
 c20, (C.int IntKind.i64 x21), c22]) = (Option.some m26)) ∧ (isPt (C.ptr (m).nxt 0) ∧ 
 (∃ x27 : Int, (((ldC m26 (C.ptr (m).nxt 3)) = (Option.some (C.int IntKind.i64 x27))) ∧ 
 (((0 : Int) ≤ (wrapZ IntKind.i64 a200)) ∧ (((0 : Int) < (4 : Int)) ∧ (fitsP IntKind.i64 ((wrapZ IntKind.i64 a200) % (4 : Int)) ∧ 
 (fitsP IntKind.i64 (x27 + ((wrapZ IntKind.i64 a200) % (4 : Int))) ∧ (isPt (C.ptr (m12).nxt 0) ∧ 
 (∃ m28 : M, (((stC m26 (C.ptr (m12).nxt 3) 1 [(C.int IntKind.i64 (Min.min (9 : Int) (x27 + ((wrapZ IntKind.i64 a200) % (4 : Int)))))]) = (Option.some m28)) ∧ 
 (isPt (C.ptr ((m7).nxt + 0) 0) ∧ (∃ m29 : M, (((stC m28 (C.ptr ((m7).nxt + 0) 3) 1 [(C.int IntKind.i64 (9 : Int))]) = (Option.some m29)) ∧ 
 (isPt (C.ptr (m).nxt 0) ∧ (isPt (C.ptr (m).nxt 0) ∧ (∃ c30 : C, (((ldC m29 (C.ptr (m).nxt 2)) = (Option.some c30)) ∧ 
 (isSl c30 ∧ (((0 : Int) ≤ (wrapZ IntKind.i64 a300)) ∧ (((0 : Int) < (((slLen c30) : Nat) : Int)) ∧ 
 (fitsP IntKind.i64 ((wrapZ IntKind.i64 a300) % (((slLen c30) : Nat) : Int)) ∧ 
 (isPt (C.ptr (m).nxt 0) ∧ (isPt (C.ptr (m).nxt 0) ∧ (∃ c31 : C, (((ldC m29 (C.ptr (m).nxt 2)) = (Option.some c31)) ∧ 
 (∃ n32 : Nat, ((((wrapZ IntKind.i64 a300) % (((slLen c30) : Nat) : Int)) = ((n32 : Nat) : Int)) ∧ 
 ((n32 < (slLen c31)) ∧ (∃ x33 : Int, (((ldC m29 (slAt c31 (n32 * 1))) = (Option.some (C.int IntKind.i64 x33))) ∧ 
 (∀ m34 : M, ((m34 = (M.new m29 (AO.cells 2 [(C.int IntKind.i64 (0 : Int)), (C.int IntKind.i64 (0 : Int))] false))) → 
 (∃ m35 : M, (((stC m34 (C.ptr (m29).nxt 0) 2 [(C.int IntKind.i64 (0 : Int)), 
 (C.int IntKind.i64 x33)]) = (Option.some m35)) ∧ (∀ R36 : List V → M → Prop, 
 ((∀ x37 : Int, (∀ m38 : M, ((isPt (C.ptr (m).nxt 0) ∧ (∃ c39 : C, (((ldC m38 (C.ptr (m).nxt 4)) = (Option.some c39)) ∧ 
 (isSl c39 ∧ (ifB (decide (x37 < (((slLen c39) : Nat) : Int))) (isPt (C.ptr (m).nxt 0) ∧ 
 (∃ c40 : C, (((ldC m38 (C.ptr (m).nxt 4)) = (Option.some c40)) ∧ (∃ n41 : Nat, 
 ((x37 = ((n41 : Nat) : Int)) ∧ ((n41 < (slLen c40)) ∧ (∃ x42 : Int, (∃ x43 : Int, 
 (∃ x44 : Int, (∃ b45 : Bool, (((ldA m38 (slAt c40 (n41 * 4)) 4) = (Option.some [(C.int IntKind.i64 x42), 
 (C.int IntKind.i64 x43), (C.int IntKind.i64 x44), (C.bool b45)])) ∧ (∀ m46 : M, 
 ((m46 = (M.new m38 (AO.cells 4 [(C.int IntKind.i64 (0 : Int)), (C.int IntKind.i64 (0 : Int)), 
 (C.int IntKind.i64 (0 : Int)), (C.bool false)] false))) → (∃ m47 : M, (((stC m46 (C.ptr (m38).nxt 0) 4 [(C.int IntKind.i64 x42), 
 (C.int IntKind.i64 x43), (C.int IntKind.i64 x44), (C.bool b45)]) = (Option.some m47)) ∧ 
 (isPt (C.ptr (m38).nxt 0) ∧ (∃ x48 : Int, (((ldC m47 (C.ptr (m38).nxt 0)) = (Option.some (C.int IntKind.i64 x48))) ∧ 
 (ifB (decide (x48 = ((wrapZ IntKind.i64 a300) % (((slLen c30) : Nat) : Int)))) (isPt (C.ptr (m38).nxt 0) ∧ 
 (∃ b49 : Bool, (((ldC m47 (C.ptr (m38).nxt 3)) = (Option.some (C.bool b49))) ∧ 
 (ifB (!b49) (isPt (C.ptr (m29).nxt 0) ∧ (∃ x50 : Int, (((ldC m47 (C.ptr (m29).nxt 0)) = (Option.some (C.int IntKind.i64 x50))) ∧ 
 (isPt (C.ptr (m38).nxt 0) ∧ (isPt (C.ptr (m38).nxt 1) ∧ (∃ x51 : Int, (((ldC m47 (C.ptr (m38).nxt 1)) = (Option.some (C.int IntKind.i64 x51))) ∧ 
 (isPt (C.ptr (m29).nxt 0) ∧ (∃ x52 : Int, (((ldC m47 (C.ptr (m29).nxt 1)) = (Option.some (C.int IntKind.i64 x52))) ∧ 
 (isPt (C.ptr (m38).nxt 0) ∧ (isPt (C.ptr (m38).nxt 1) ∧ (∃ x53 : Int, (((ldC m47 (C.ptr (m38).nxt 2)) = (Option.some (C.int IntKind.i64 x53))) ∧ 
 (Wc prog tbl 56 [(V.c (C.int IntKind.i64 (Max.max x50 x51))), (V.c (C.int IntKind.i64 (Min.min x52 x53)))] m47 (fun v54 m55 => 
 (∃ x56 : Int, (∃ x57 : Int, ((v54 = (V.agg 2 [(C.int IntKind.i64 x56), (C.int IntKind.i64 x57)])) ∧ 
 (∃ m58 : M, (((stC m55 (C.ptr (m29).nxt 0) 2 [(C.int IntKind.i64 x56), (C.int IntKind.i64 x57)]) = (Option.some m58)) ∧ 
 (fitsP IntKind.i64 (x37 + (1 : Int)) ∧ (R36 [(V.c (C.int IntKind.i64 (x37 + (1 : Int))))] m58))))))))))))))))))))))) (fitsP IntKind.i64 (x37 + (1 : Int)) ∧ 
 (R36 [(V.c (C.int IntKind.i64 (x37 + (1 : Int))))] m47)))))) (fitsP IntKind.i64 (x37 + (1 : Int)) ∧ 
 (R36 [(V.c (C.int IntKind.i64 (x37 + (1 : Int))))] m47))))))))))))))))))))) (∃ x59 : Int, 
 (∃ x60 : Int, (∃ c61 : C, (∃ x62 : Int, (∃ c63 : C, (((ldA m38 (C.ptr ((m7).nxt + 0) 0) 5) = (Option.some [(C.int IntKind.i64 x59), 
 (C.int IntKind.i64 x60), c61, (C.int IntKind.i64 x62), c63])) ∧ (Wc prog tbl 62 [(V.agg 5 [(C.int IntKind.i64 x59), 
 (C.int IntKind.i64 x60), c61, (C.int IntKind.i64 x62), c63])] m38 (fun v64 m65 => 
 (∃ b66 : Bool, ((v64 = (V.c (C.bool b66))) ∧ (ifB b66 (∃ x67 : Int, (∃ x68 : Int, 
 (∃ c69 : C, (∃ x70 : Int, (∃ c71 : C, (((ldA m65 (C.ptr ((m7).nxt + 0) 0) 5) = (Option.some [(C.int IntKind.i64 x67), 
 (C.int IntKind.i64 x68), c69, (C.int IntKind.i64 x70), c71])) ∧ (Wc prog tbl 33 [(V.agg 5 [(C.int IntKind.i64 x67), 
 (C.int IntKind.i64 x68), c69, (C.int IntKind.i64 x70), c71])] m65 (fun v72 m73 => 
 (∃ x74 : Int, (∃ x75 : Int, (∃ c76 : C, (∃ x77 : Int, (∃ c78 : C, ((v72 = (V.agg 5 [(C.int IntKind.i64 x74), 
 (C.int IntKind.i64 x75), c76, (C.int IntKind.i64 x77), c78])) ∧ (Wc prog tbl 42 [(V.agg 5 [(C.int IntKind.i64 x74), 
 (C.int IntKind.i64 x75), c76, (C.int IntKind.i64 x77), c78]), (V.c (C.int IntKind.i64 ((wrapZ IntKind.i64 a300) % (((slLen c30) : Nat) : Int))))] m73 (fun v79 m80 => 
 (∃ x81 : Int, (∃ x82 : Int, (∃ x83 : Int, ((v79 = (V.tup [(U.agg 2 [(C.int IntKind.i64 x81), 
 (C.int IntKind.i64 x82)]), (U.c (C.int IntKind.i64 x83))])) ∧ (∀ m84 : M, ((m84 = (M.new m80 (AO.cells 2 [(C.int IntKind.i64 (0 : Int)), 
 (C.int IntKind.i64 (0 : Int))] false))) → (∃ m85 : M, (((stC m84 (C.ptr (m80).nxt 0) 2 [(C.int IntKind.i64 x81), 
 (C.int IntKind.i64 x82)]) = (Option.some m85)) ∧ (ifB (!decide (x83 = (0 : Int))) (Q (V.c (C.bool false)) m85) (∃ x86 : Int, 
 (∃ x87 : Int, (((ldA m85 (C.ptr (m80).nxt 0) 2) = (Option.some [(C.int IntKind.i64 x86), 
 (C.int IntKind.i64 x87)])) ∧ (∃ x88 : Int, (∃ x89 : Int, (((ldA m85 (C.ptr (m29).nxt 0) 2) = (Option.some [(C.int IntKind.i64 x88), 
 (C.int IntKind.i64 x89)])) ∧ (fitsP IntKind.i64 x86 ∧ (fitsP IntKind.i64 x88 ∧ 
 (fitsP IntKind.i64 x87 ∧ (fitsP IntKind.i64 x89 ∧ (ifB (!((decide (x86 = x88)) && (decide (x87 = x89)))) (Q (V.c (C.bool false)) m85) (∃ x90 : Int, 
 (∃ x91 : Int, (∃ c92 : C, (∃ x93 : Int, (∃ c94 : C, (((ldA m85 (C.ptr (m).nxt 0) 5) = (Option.some [(C.int IntKind.i64 x90), 
 (C.int IntKind.i64 x91), c92, (C.int IntKind.i64 x93), c94])) ∧ (Wc prog tbl 62 [(V.agg 5 [(C.int IntKind.i64 x90), 
 (C.int IntKind.i64 x91), c92, (C.int IntKind.i64 x93), c94])] m85 (fun v95 m96 => 
 (∃ b97 : Bool, ((v95 = (V.c (C.bool b97))) ∧ (ifB (!b97) (Wc prog tbl 20 [] m96 (fun v98 m99 => 
 (∃ b100 : Bool, ((v98 = (V.c (C.bool b100))) ∧ (Q (V.c (C.bool b100)) m99))))) (∃ x101 : Int, 
 (∃ x102 : Int, (∃ c103 : C, (∃ x104 : Int, (∃ c105 : C, (((ldA m96 (C.ptr (m).nxt 0) 5) = (Option.some [(C.int IntKind.i64 x101), 
 (C.int IntKind.i64 x102), c103, (C.int IntKind.i64 x104), c105])) ∧ (Wc prog tbl 33 [(V.agg 5 [(C.int IntKind.i64 x101), 
 (C.int IntKind.i64 x102), c103, (C.int IntKind.i64 x104), c105])] m96 (fun v106 m107 => 
 (∃ x108 : Int, (∃ x109 : Int, (∃ c110 : C, (∃ x111 : Int, (∃ c112 : C, ((v106 = (V.agg 5 [(C.int IntKind.i64 x108), 
 (C.int IntKind.i64 x109), c110, (C.int IntKind.i64 x111), c112])) ∧ (Wc prog tbl 41 [(V.agg 5 [(C.int IntKind.i64 x108), 
 (C.int IntKind.i64 x109), c110, (C.int IntKind.i64 x111), c112])] m107 (fun v113 m114 => 
 (∃ x115 : Int, (∃ x116 : Int, (∃ x117 : Int, ((v113 = (V.tup [(U.agg 2 [(C.int IntKind.i64 x115), 
 (C.int IntKind.i64 x116)]), (U.c (C.int IntKind.i64 x117))])) ∧ (∀ m118 : M, 
 ((m118 = (M.new m114 (AO.cells 2 [(C.int IntKind.i64 (0 : Int)), (C.int IntKind.i64 (0 : Int))] false))) → 
 (∃ m119 : M, (((stC m118 (C.ptr (m114).nxt 0) 2 [(C.int IntKind.i64 x115), (C.int IntKind.i64 x116)]) = (Option.some m119)) ∧ 
 (∃ x120 : Int, (∃ x121 : Int, (∃ c122 : C, (∃ x123 : Int, (∃ c124 : C, (((ldA m119 (C.ptr (m12).nxt 0) 5) = (Option.some [(C.int IntKind.i64 x120), 
 (C.int IntKind.i64 x121), c122, (C.int IntKind.i64 x123), c124])) ∧ (Wc prog tbl 33 [(V.agg 5 [(C.int IntKind.i64 x120), 
 (C.int IntKind.i64 x121), c122, (C.int IntKind.i64 x123), c124])] m119 (fun v125 m126 => 
 (∃ x127 : Int, (∃ x128 : Int, (∃ c129 : C, (∃ x130 : Int, (∃ c131 : C, ((v125 = (V.agg 5 [(C.int IntKind.i64 x127), 
 (C.int IntKind.i64 x128), c129, (C.int IntKind.i64 x130), c131])) ∧ (Wc prog tbl 41 [(V.agg 5 [(C.int IntKind.i64 x127), 
 (C.int IntKind.i64 x128), c129, (C.int IntKind.i64 x130), c131])] m126 (fun v132 m133 => 
 (∃ x134 : Int, (∃ x135 : Int, (∃ x136 : Int, ((v132 = (V.tup [(U.agg 2 [(C.int IntKind.i64 x134), 
 (C.int IntKind.i64 x135)]), (U.c (C.int IntKind.i64 x136))])) ∧ (∀ m137 : M, 
 ((m137 = (M.new m133 (AO.cells 2 [(C.int IntKind.i64 (0 : Int)), (C.int IntKind.i64 (0 : Int))] false))) → 
 (∃ m138 : M, (((stC m137 (C.ptr (m133).nxt 0) 2 [(C.int IntKind.i64 x134), (C.int IntKind.i64 x135)]) = (Option.some m138)) ∧ 
 (∃ x139 : Int, (∃ x140 : Int, (∃ c141 : C, (∃ x142 : Int, (∃ c143 : C, (((ldA m138 (C.ptr (m).nxt 0) 5) = (Option.some [(C.int IntKind.i64 x139), 
 (C.int IntKind.i64 x140), c141, (C.int IntKind.i64 x142), c143])) ∧ (Wc prog tbl 33 [(V.agg 5 [(C.int IntKind.i64 x139), 
 (C.int IntKind.i64 x140), c141, (C.int IntKind.i64 x142), c143])] m138 (fun v144 m145 => 
 (∃ x146 : Int, (∃ x147 : Int, (∃ c148 : C, (∃ x149 : Int, (∃ c150 : C, ((v144 = (V.agg 5 [(C.int IntKind.i64 x146), 
 (C.int IntKind.i64 x147), c148, (C.int IntKind.i64 x149), c150])) ∧ (Wc prog tbl 42 [(V.agg 5 [(C.int IntKind.i64 x146), 
 (C.int IntKind.i64 x147), c148, (C.int IntKind.i64 x149), c150]), (V.c (C.int IntKind.i64 ((wrapZ IntKind.i64 a300) % (((slLen c30) : Nat) : Int))))] m145 (fun v151 m152 => 
 (∃ x153 : Int, (∃ x154 : Int, (∃ x155 : Int, ((v151 = (V.tup [(U.agg 2 [(C.int IntKind.i64 x153), 
 (C.int IntKind.i64 x154)]), (U.c (C.int IntKind.i64 x155))])) ∧ (∀ m156 : M, 
 ((m156 = (M.new m152 (AO.cells 2 [(C.int IntKind.i64 (0 : Int)), (C.int IntKind.i64 (0 : Int))] false))) → 
 (∃ m157 : M, (((stC m156 (C.ptr (m152).nxt 0) 2 [(C.int IntKind.i64 x153), (C.int IntKind.i64 x154)]) = (Option.some m157)) ∧ 
 (∃ x158 : Int, (∃ x159 : Int, (∃ c160 : C, (∃ x161 : Int, (∃ c162 : C, (((ldA m157 (C.ptr (m12).nxt 0) 5) = (Option.some [(C.int IntKind.i64 x158), 
 (C.int IntKind.i64 x159), c160, (C.int IntKind.i64 x161), c162])) ∧ (Wc prog tbl 33 [(V.agg 5 [(C.int IntKind.i64 x158), 
 (C.int IntKind.i64 x159), c160, (C.int IntKind.i64 x161), c162])] m157 (fun v163 m164 => 
 (∃ x165 : Int, (∃ x166 : Int, (∃ c167 : C, (∃ x168 : Int, (∃ c169 : C, ((v163 = (V.agg 5 [(C.int IntKind.i64 x165), 
 (C.int IntKind.i64 x166), c167, (C.int IntKind.i64 x168), c169])) ∧ (Wc prog tbl 42 [(V.agg 5 [(C.int IntKind.i64 x165), 
 (C.int IntKind.i64 x166), c167, (C.int IntKind.i64 x168), c169]), (V.c (C.int IntKind.i64 ((wrapZ IntKind.i64 a300) % (((slLen c30) : Nat) : Int))))] m164 (fun v170 m171 => 
 (∃ x172 : Int, (∃ x173 : Int, (∃ x174 : Int, ((v170 = (V.tup [(U.agg 2 [(C.int IntKind.i64 x172), 
 (C.int IntKind.i64 x173)]), (U.c (C.int IntKind.i64 x174))])) ∧ (∀ m175 : M, 
 ((m175 = (M.new m171 (AO.cells 2 [(C.int IntKind.i64 (0 : Int)), (C.int IntKind.i64 (0 : Int))] false))) → 
 (∃ m176 : M, (((stC m175 (C.ptr (m171).nxt 0) 2 [(C.int IntKind.i64 x172), (C.int IntKind.i64 x173)]) = (Option.some m176)) ∧ 
 (ifB (decide (x117 = (0 : Int))) (ifB (decide (x136 = (0 : Int))) (ifB (decide (x155 = (0 : Int))) (ifB (decide (x174 = (0 : Int))) (isPt (C.ptr (m133).nxt 0) ∧ 
 (∃ x177 : Int, (((ldC m176 (C.ptr (m133).nxt 0)) = (Option.some (C.int IntKind.i64 x177))) ∧ 
 (isPt (C.ptr (m114).nxt 0) ∧ (∃ x178 : Int, (((ldC m176 (C.ptr (m114).nxt 0)) = (Option.some (C.int IntKind.i64 x178))) ∧ 
 (ifB (decide (x177 ≤ x178)) (isPt (C.ptr (m114).nxt 0) ∧ (∃ x179 : Int, (((ldC m176 (C.ptr (m114).nxt 1)) = (Option.some (C.int IntKind.i64 x179))) ∧ 
 (isPt (C.ptr (m133).nxt 0) ∧ (∃ x180 : Int, (((ldC m176 (C.ptr (m133).nxt 1)) = (Option.some (C.int IntKind.i64 x180))) ∧ 
 (ifB (decide (x179 ≤ x180)) (isPt (C.ptr (m171).nxt 0) ∧ (∃ x181 : Int, (((ldC m176 (C.ptr (m171).nxt 0)) = (Option.some (C.int IntKind.i64 x181))) ∧ 
 (isPt (C.ptr (m152).nxt 0) ∧ (∃ x182 : Int, (((ldC m176 (C.ptr (m152).nxt 0)) = (Option.some (C.int IntKind.i64 x182))) ∧ 
 (ifB (decide (x181 ≤ x182)) (isPt (C.ptr (m152).nxt 0) ∧ (∃ x183 : Int, (((ldC m176 (C.ptr (m152).nxt 1)) = (Option.some (C.int IntKind.i64 x183))) ∧ 
 (isPt (C.ptr (m171).nxt 0) ∧ (∃ x184 : Int, (((ldC m176 (C.ptr (m171).nxt 1)) = (Option.some (C.int IntKind.i64 x184))) ∧ 
 (ifB (decide (x183 ≤ x184)) (Wc prog tbl 20 [] m176 (fun v185 m186 => (∃ b187 : Bool, 
 ((v185 = (V.c (C.bool b187))) ∧ (Q (V.c (C.bool b187)) m186))))) (Q (V.c (C.bool false)) m176)))))))) (Q (V.c (C.bool false)) m176)))))))) (Q (V.c (C.bool false)) m176)))))))) (Q (V.c (C.bool false)) m176)))))))) (Q (V.c (C.bool false)) m176)) (Q (V.c (C.bool false)) m176)) (Q (V.c (C.bool false)) m176)) (Q (V.c (C.bool false)) m176))))))))))))))))))))))))))))))))))))))))))))))))))))))))))))))))))))))))))))))))))))))))))))))))))))))))))))))))))))))))))))))))))))))))))))))))) (∃ x188 : Int, 
 (∃ x189 : Int, (∃ c190 : C, (∃ x191 : Int, (∃ c192 : C, (((ldA m65 (C.ptr (m).nxt 0) 5) = (Option.some [(C.int IntKind.i64 x188), 
 (C.int IntKind.i64 x189), c190, (C.int IntKind.i64 x191), c192])) ∧ (Wc prog tbl 62 [(V.agg 5 [(C.int IntKind.i64 x188), 
 (C.int IntKind.i64 x189), c190, (C.int IntKind.i64 x191), c192])] m65 (fun v193 m194 => 
 (∃ b195 : Bool, ((v193 = (V.c (C.bool b195))) ∧ (ifB (!b195) (Wc prog tbl 20 [] m194 (fun v196 m197 => 
 (∃ b198 : Bool, ((v196 = (V.c (C.bool b198))) ∧ (Q (V.c (C.bool b198)) m197))))) (∃ x199 : Int, 
 (∃ x200 : Int, (∃ c201 : C, (∃ x202 : Int, (∃ c203 : C, (((ldA m194 (C.ptr (m).nxt 0) 5) = (Option.some [(C.int IntKind.i64 x199), 
 (C.int IntKind.i64 x200), c201, (C.int IntKind.i64 x202), c203])) ∧ (Wc prog tbl 33 [(V.agg 5 [(C.int IntKind.i64 x199), 
 (C.int IntKind.i64 x200), c201, (C.int IntKind.i64 x202), c203])] m194 (fun v204 m205 => 
 (∃ x206 : Int, (∃ x207 : Int, (∃ c208 : C, (∃ x209 : Int, (∃ c210 : C, ((v204 = (V.agg 5 [(C.int IntKind.i64 x206), 
 (C.int IntKind.i64 x207), c208, (C.int IntKind.i64 x209), c210])) ∧ (Wc prog tbl 41 [(V.agg 5 [(C.int IntKind.i64 x206), 
 (C.int IntKind.i64 x207), c208, (C.int IntKind.i64 x209), c210])] m205 (fun v211 m212 => 
 (∃ x213 : Int, (∃ x214 : Int, (∃ x215 : Int, ((v211 = (V.tup [(U.agg 2 [(C.int IntKind.i64 x213), 
 (C.int IntKind.i64 x214)]), (U.c (C.int IntKind.i64 x215))])) ∧ (∀ m216 : M, 
 ((m216 = (M.new m212 (AO.cells 2 [(C.int IntKind.i64 (0 : Int)), (C.int IntKind.i64 (0 : Int))] false))) → 
 (∃ m217 : M, (((stC m216 (C.ptr (m212).nxt 0) 2 [(C.int IntKind.i64 x213), (C.int IntKind.i64 x214)]) = (Option.some m217)) ∧ 
 (∃ x218 : Int, (∃ x219 : Int, (∃ c220 : C, (∃ x221 : Int, (∃ c222 : C, (((ldA m217 (C.ptr (m12).nxt 0) 5) = (Option.some [(C.int IntKind.i64 x218), 
 (C.int IntKind.i64 x219), c220, (C.int IntKind.i64 x221), c222])) ∧ (Wc prog tbl 33 [(V.agg 5 [(C.int IntKind.i64 x218), 
 (C.int IntKind.i64 x219), c220, (C.int IntKind.i64 x221), c222])] m217 (fun v223 m224 => 
 (∃ x225 : Int, (∃ x226 : Int, (∃ c227 : C, (∃ x228 : Int, (∃ c229 : C, ((v223 = (V.agg 5 [(C.int IntKind.i64 x225), 
 (C.int IntKind.i64 x226), c227, (C.int IntKind.i64 x228), c229])) ∧ (Wc prog tbl 41 [(V.agg 5 [(C.int IntKind.i64 x225), 
 (C.int IntKind.i64 x226), c227, (C.int IntKind.i64 x228), c229])] m224 (fun v230 m231 => 
 (∃ x232 : Int, (∃ x233 : Int, (∃ x234 : Int, ((v230 = (V.tup [(U.agg 2 [(C.int IntKind.i64 x232), 
 (C.int IntKind.i64 x233)]), (U.c (C.int IntKind.i64 x234))])) ∧ (∀ m235 : M, 
 ((m235 = (M.new m231 (AO.cells 2 [(C.int IntKind.i64 (0 : Int)), (C.int IntKind.i64 (0 : Int))] false))) → 
 (∃ m236 : M, (((stC m235 (C.ptr (m231).nxt 0) 2 [(C.int IntKind.i64 x232), (C.int IntKind.i64 x233)]) = (Option.some m236)) ∧ 
 (∃ x237 : Int, (∃ x238 : Int, (∃ c239 : C, (∃ x240 : Int, (∃ c241 : C, (((ldA m236 (C.ptr (m).nxt 0) 5) = (Option.some [(C.int IntKind.i64 x237), 
 (C.int IntKind.i64 x238), c239, (C.int IntKind.i64 x240), c241])) ∧ (Wc prog tbl 33 [(V.agg 5 [(C.int IntKind.i64 x237), 
 (C.int IntKind.i64 x238), c239, (C.int IntKind.i64 x240), c241])] m236 (fun v242 m243 => 
 (∃ x244 : Int, (∃ x245 : Int, (∃ c246 : C, (∃ x247 : Int, (∃ c248 : C, ((v242 = (V.agg 5 [(C.int IntKind.i64 x244), 
 (C.int IntKind.i64 x245), c246, (C.int IntKind.i64 x247), c248])) ∧ (Wc prog tbl 42 [(V.agg 5 [(C.int IntKind.i64 x244), 
 (C.int IntKind.i64 x245), c246, (C.int IntKind.i64 x247), c248]), (V.c (C.int IntKind.i64 ((wrapZ IntKind.i64 a300) % (((slLen c30) : Nat) : Int))))] m243 (fun v249 m250 => 
 (∃ x251 : Int, (∃ x252 : Int, (∃ x253 : Int, ((v249 = (V.tup [(U.agg 2 [(C.int IntKind.i64 x251), 
 (C.int IntKind.i64 x252)]), (U.c (C.int IntKind.i64 x253))])) ∧ (∀ m254 : M, 
 ((m254 = (M.new m250 (AO.cells 2 [(C.int IntKind.i64 (0 : Int)), (C.int IntKind.i64 (0 : Int))] false))) → 
 (∃ m255 : M, (((stC m254 (C.ptr (m250).nxt 0) 2 [(C.int IntKind.i64 x251), (C.int IntKind.i64 x252)]) = (Option.some m255)) ∧ 
 (∃ x256 : Int, (∃ x257 : Int, (∃ c258 : C, (∃ x259 : Int, (∃ c260 : C, (((ldA m255 (C.ptr (m12).nxt 0) 5) = (Option.some [(C.int IntKind.i64 x256), 
 (C.int IntKind.i64 x257), c258, (C.int IntKind.i64 x259), c260])) ∧ (Wc prog tbl 33 [(V.agg 5 [(C.int IntKind.i64 x256), 
 (C.int IntKind.i64 x257), c258, (C.int IntKind.i64 x259), c260])] m255 (fun v261 m262 => 
 (∃ x263 : Int, (∃ x264 : Int, (∃ c265 : C, (∃ x266 : Int, (∃ c267 : C, ((v261 = (V.agg 5 [(C.int IntKind.i64 x263), 
 (C.int IntKind.i64 x264), c265, (C.int IntKind.i64 x266), c267])) ∧ (Wc prog tbl 42 [(V.agg 5 [(C.int IntKind.i64 x263), 
 (C.int IntKind.i64 x264), c265, (C.int IntKind.i64 x266), c267]), (V.c (C.int IntKind.i64 ((wrapZ IntKind.i64 a300) % (((slLen c30) : Nat) : Int))))] m262 (fun v268 m269 => 
 (∃ x270 : Int, (∃ x271 : Int, (∃ x272 : Int, ((v268 = (V.tup [(U.agg 2 [(C.int IntKind.i64 x270), 
 (C.int IntKind.i64 x271)]), (U.c (C.int IntKind.i64 x272))])) ∧ (∀ m273 : M, 
 ((m273 = (M.new m269 (AO.cells 2 [(C.int IntKind.i64 (0 : Int)), (C.int IntKind.i64 (0 : Int))] false))) → 
 (∃ m274 : M, (((stC m273 (C.ptr (m269).nxt 0) 2 [(C.int IntKind.i64 x270), (C.int IntKind.i64 x271)]) = (Option.some m274)) ∧ 
 (ifB (decide (x215 = (0 : Int))) (ifB (decide (x234 = (0 : Int))) (ifB (decide (x253 = (0 : Int))) (ifB (decide (x272 = (0 : Int))) (isPt (C.ptr (m231).nxt 0) ∧ 
 (∃ x275 : Int, (((ldC m274 (C.ptr (m231).nxt 0)) = (Option.some (C.int IntKind.i64 x275))) ∧ 
 (isPt (C.ptr (m212).nxt 0) ∧ (∃ x276 : Int, (((ldC m274 (C.ptr (m212).nxt 0)) = (Option.some (C.int IntKind.i64 x276))) ∧ 
 (ifB (decide (x275 ≤ x276)) (isPt (C.ptr (m212).nxt 0) ∧ (∃ x277 : Int, (((ldC m274 (C.ptr (m212).nxt 1)) = (Option.some (C.int IntKind.i64 x277))) ∧ 
 (isPt (C.ptr (m231).nxt 0) ∧ (∃ x278 : Int, (((ldC m274 (C.ptr (m231).nxt 1)) = (Option.some (C.int IntKind.i64 x278))) ∧ 
 (ifB (decide (x277 ≤ x278)) (isPt (C.ptr (m269).nxt 0) ∧ (∃ x279 : Int, (((ldC m274 (C.ptr (m269).nxt 0)) = (Option.some (C.int IntKind.i64 x279))) ∧ 
 (isPt (C.ptr (m250).nxt 0) ∧ (∃ x280 : Int, (((ldC m274 (C.ptr (m250).nxt 0)) = (Option.some (C.int IntKind.i64 x280))) ∧ 
 (ifB (decide (x279 ≤ x280)) (isPt (C.ptr (m250).nxt 0) ∧ (∃ x281 : Int, (((ldC m274 (C.ptr (m250).nxt 1)) = (Option.some (C.int IntKind.i64 x281))) ∧ 
 (isPt (C.ptr (m269).nxt 0) ∧ (∃ x282 : Int, (((ldC m274 (C.ptr (m269).nxt 1)) = (Option.some (C.int IntKind.i64 x282))) ∧ 
 (ifB (decide (x281 ≤ x282)) (Wc prog tbl 20 [] m274 (fun v283 m284 => (∃ b285 : Bool, 
 ((v283 = (V.c (C.bool b285))) ∧ (Q (V.c (C.bool b285)) m284))))) (Q (V.c (C.bool false)) m274)))))))) (Q (V.c (C.bool false)) m274)))))))) (Q (V.c (C.bool false)) m274)))))))) (Q (V.c (C.bool false)) m274)))))))) (Q (V.c (C.bool false)) m274)) (Q (V.c (C.bool false)) m274)) (Q (V.c (C.bool false)) m274)) (Q (V.c (C.bool false)) m274))))))))))))))))))))))))))))))))))))))))))))))))))))))))))))))))))))))))))))))))))))))))))))))))))))))))))))))))))))))))))))) → 
 (R36 [(V.c (C.int IntKind.i64 x37))] m38)))) → (R36 [(V.c (C.int IntKind.i64 (0 : Int)))] m35)))))))))))))))))))))))))))))))))))))))))))))))))))))))))))))))))))))))))))))) : Wc prog tbl 14 [(V.agg 5 [(C.int IntKind.i64 a100), (C.int IntKind.i64 a101), a102, (C.int IntKind.i64 a103), a104]), (V.c (C.int IntKind.u8 a200)), (V.c (C.int IntKind.u8 a300))] m Q :=
 wc_eq (n := 3) rfl (by kernel_rfl) (by kernel_rfl) h
end
end Go.Proofs.Ytgkjfhkjgdiodaa

namespace Go.Proofs.Ytgkjfhkjgdiodaa
open _root_.Go.Proofs.Try
open Go.Abs
set_option maxRecDepth 100000
noncomputable section
theorem w56 {a100 : Int} {a200 : Int} {m : M} {Q : V → M → Prop} (h :
 (∀ m0 : M, ((m0 = (M.new m (AO.cells 2 [(C.int IntKind.i64 (0 : Int)), (C.int IntKind.i64 (0 : Int))] false))) → 
 (∃ m1 : M, (((stC m0 (C.ptr (m).nxt 0) 2 [(C.int IntKind.i64 a100), (C.int IntKind.i64 a200)]) = (Option.some m1)) ∧ 
 (∃ x2 : Int, (∃ x3 : Int, (((ldA m1 (C.ptr (m).nxt 0) 2) = (Option.some [(C.int IntKind.i64 x2), (C.int IntKind.i64 x3)])) ∧ 
 (Q (V.agg 2 [(C.int IntKind.i64 x2), (C.int IntKind.i64 x3)]) m1))))))))) : Wc prog tbl 56 [(V.c (C.int IntKind.i64 a100)), (V.c (C.int IntKind.i64 a200))] m Q :=
 wc_eq (n := 2) rfl (by kernel_rfl) (by kernel_rfl) h
end
end Go.Proofs.Ytgkjfhkjgdiodaa

namespace Go.Proofs.Ytgkjfhkjgdiodaa
open _root_.Go.Proofs.Try
open Go.Abs
set_option maxRecDepth 100000
noncomputable section
theorem s56 {a b : Int} {m : M} {Q : V → M → Prop} (h : ∀ m', Ext m m' → Q (.agg 2 [.int .i64 a, .int .i64 b]) m') : Wc prog tbl 56 [.c (.int .i64 a), .c (.int .i64 b)] m Q := by
  refine w56 fun m0 e0 => ?_
  obtain ⟨b0, x0⟩ := Bk.new e0
  exact ⟨_, b0.st _, _, _, (b0.set _).ra, h _ (x0.setR (Nat.le_refl _) _)⟩
theorem mGrow_ext (m : M) (k : Nat) : Ext m (mGrow m k) := ⟨Nat.le_add_right _ _, fun _ _ => rfl, rfl⟩
theorem _root_.Go.Abs.Bk.st1 {m : M} {b n : Nat} {vs : List C} (h : Bk m b n vs) {k : Nat} (c : C) (hk : k < vs.length) (hn : vs.length = n) (h1 : n ≠ 1) : stC m (.ptr b k) 1 [c] = some (m.set b (.cells n (vs.set k c) false)) := stC_at h.g c hk hn h1
theorem s14 {r c sm a a' : Int} {x y : C} {L : List Int} {N : List Cnt} {m : M} {Q : V → M → Prop} (hx : Li m x L) (hy : Lc m y N) (ha : 0 ≤ a ∧ a ≤ 255) (ha' : 0 ≤ a' ∧ a' ≤ 255) (h : ∀ m', Q (.c (.bool true)) m') :
    Wc prog tbl 14 [.agg 5 [.int .i64 r, .int .i64 c, x, .int .i64 sm, y], .c (.int .u8 a), .c (.int .u8 a')] m Q := by
  have aw : ∀ m' : M, Wc prog tbl 20 [] m' (fun v m1 => ∃ b : Bool, v = .c (.bool b) ∧ Q (.c (.bool b)) m1) := fun m' => s20 ⟨_, rfl, h _⟩
  refine w14 fun m0 e0 => ?_
  obtain ⟨b0, x0⟩ := Bk.new e0
  refine ⟨r, c, x, sm, y, b0.ra, s58 (hx.ext x0) (hy.ext x0) fun m7 e7 => ⟨_, rfl, ?_⟩⟩
  have x7 := x0.trans e7
  have b7 := b0.ext e7
  rw [ifB_ndec]
  refine ⟨fun _ => aw _, fun hv => ?_⟩
  obtain ⟨hO, hsm⟩ := okay_of hv
  obtain ⟨hS, hL, hrc⟩ := field_of hO.f
  have hsd := sides_of hO.f
  have hN := hO.n
  have hP := few_truths hv
  have hL0 : 0 < L.length := by have := hsd.mul; have := hsd.r1; have := hsd.c1; have := Int.mul_pos (a := r) (b := c) (by omega) (by omega); omega
  intro m12 h12
  have x12 : Ext m7 m12 := by rw [h12]; exact mGrow_ext _ _
  have n12 : m12.nxt = m7.nxt + 1 := by rw [h12]; rfl
  have b12 := b7.ext x12
  refine ⟨r, c, x, sm, y, b12.ra, r, c, x, sm, y, b12.ra, fun m23 h23 => ?_⟩
  obtain ⟨k23, x23⟩ := Bk.new h23
  have b23 := b12.ext x23
  have hb7 : m.nxt < m7.nxt := b7.lt
  rw [allNF hx.noFn hy.noFn]
  simp only [ifB_true]
  refine ⟨b23.ra, b23.ra, fun m24 h24 => ?_⟩
  have n23 : m23.nxt = m7.nxt + 2 := by rw [h23]; show m12.nxt + 1 = _; omega
  have k24 : Bk m24 m7.nxt 5 [.int .i64 0, .int .i64 0, .sl0, .int .i64 0, .sl0] := ⟨by rw [h24, M.g_set, if_pos (by omega)], by rw [h24]; show _ < m23.nxt; omega⟩
  have k24' : Bk m24 m12.nxt 5 [.int .i64 0, .int .i64 0, .sl0, .int .i64 0, .sl0] := by rw [h24]; exact k23.setNe (by omega) _
  have b24 : Bk m24 m.nxt 5 [.int .i64 r, .int .i64 c, x, .int .i64 sm, y] := by rw [h24]; exact b23.setNe (by omega) _
  have x24 : Ext m7 m24 := by rw [h24]; exact (x12.trans x23).setR (by omega) _
  refine ⟨b24.ra, b24.ra, _, k24'.st _, (b24.setNe (by omega) _).ra, ?_⟩
  have k25' := k24'.set [.int .i64 r, .int .i64 c, x, .int .i64 sm, y]
  have k25 := k24.setNe (c := m12.nxt) (by omega) (.cells 5 [.int .i64 r, .int .i64 c, x, .int .i64 sm, y] false)
  have b25 := b24.setNe (c := m12.nxt) (by omega) (.cells 5 [.int .i64 r, .int .i64 c, x, .int .i64 sm, y] false)
  have x25 := x24.setR (b := m12.nxt) (by omega) (.cells 5 [.int .i64 r, .int .i64 c, x, .int .i64 sm, y] false)
  generalize m24.set m12.nxt (.cells 5 [.int .i64 r, .int .i64 c, x, .int .i64 sm, y] false) = m25 at k25 k25' b25 x25
  refine ⟨_, k25.st _, ?_⟩
  have k26 := k25.set [.int .i64 r, .int .i64 c, x, .int .i64 sm, y]
  have k26' := k25'.setNe (c := m7.nxt) (by omega) (.cells 5 [.int .i64 r, .int .i64 c, x, .int .i64 sm, y] false)
  have b26 := b25.setNe (c := m7.nxt) (by omega) (.cells 5 [.int .i64 r, .int .i64 c, x, .int .i64 sm, y] false)
  have x26 := x25.setR (b := m7.nxt) (by omega) (.cells 5 [.int .i64 r, .int .i64 c, x, .int .i64 sm, y] false)
  show isPt (C.ptr m.nxt 0) ∧ ∃ x27 : Int, ldC (m25.set m7.nxt (.cells 5 [.int .i64 r, .int .i64 c, x, .int .i64 sm, y] false)) _ = _ ∧ _
  generalize m25.set m7.nxt (.cells 5 [.int .i64 r, .int .i64 c, x, .int .i64 sm, y] false) = m26 at k26 k26' b26 x26
  rw [wrap_small' ha.1 (by omega), wrap_small' ha'.1 (by omega)]
  have q1 : 0 ≤ a % 4 ∧ a % 4 < 4 := ⟨Int.emod_nonneg _ (by omega), Int.emod_lt_of_pos _ (by omega)⟩
  generalize a % 4 = d at q1
  refine ⟨trivial, sm, b26.rc (k := 3) rfl, ha.1, by omega, fits_small (by omega) (by omega), fits_small (by omega) (by omega), trivial, _, k26'.st1 _ (by show 3 < 5; omega) rfl (by omega), trivial, ?_⟩
  have hle : sm ≤ min 9 (sm + d) := by omega
  have hs2 : 0 ≤ min 9 (sm + d) ∧ min 9 (sm + d) ≤ 9 := by omega
  generalize min 9 (sm + d) = s2 at hle hs2
  have k28' : Bk (m26.set m12.nxt (.cells 5 ([C.int .i64 r, .int .i64 c, x, .int .i64 sm, y].set 3 (.int .i64 s2)) false)) m12.nxt 5 [.int .i64 r, .int .i64 c, x, .int .i64 s2, y] := k26'.set _
  have k28 := k26.setNe (c := m12.nxt) (by omega) (.cells 5 ([C.int .i64 r, .int .i64 c, x, .int .i64 sm, y].set 3 (.int .i64 s2)) false)
  have b28 := b26.setNe (c := m12.nxt) (by omega) (.cells 5 ([C.int .i64 r, .int .i64 c, x, .int .i64 sm, y].set 3 (.int .i64 s2)) false)
  have x28 := x26.setR (b := m12.nxt) (by omega) (.cells 5 ([C.int .i64 r, .int .i64 c, x, .int .i64 sm, y].set 3 (.int .i64 s2)) false)
  generalize m26.set m12.nxt (.cells 5 ([C.int .i64 r, .int .i64 c, x, .int .i64 sm, y].set 3 (.int .i64 s2)) false) = m28 at k28 k28' b28 x28
  refine ⟨_, k28.st1 _ (k := 3) (by show 3 < 5; omega) rfl (by omega), ?_⟩
  have k29 : Bk (m28.set m7.nxt (.cells 5 ([C.int .i64 r, .int .i64 c, x, .int .i64 sm, y].set 3 (.int .i64 9)) false)) m7.nxt 5 [.int .i64 r, .int .i64 c, x, .int .i64 9, y] := k28.set _
  have k29' := k28'.setNe (c := m7.nxt) (by omega) (.cells 5 ([C.int .i64 r, .int .i64 c, x, .int .i64 sm, y].set 3 (.int .i64 9)) false)
  have b29 := b28.setNe (c := m7.nxt) (by omega) (.cells 5 ([C.int .i64 r, .int .i64 c, x, .int .i64 sm, y].set 3 (.int .i64 9)) false)
  have x29 := x28.setR (b := m7.nxt) (by omega) (.cells 5 ([C.int .i64 r, .int .i64 c, x, .int .i64 sm, y].set 3 (.int .i64 9)) false)
  show isPt (C.ptr m.nxt 0) ∧ isPt (C.ptr m.nxt 0) ∧ ∃ c30 : C, ldC (m28.set m7.nxt (.cells 5 ([C.int .i64 r, .int .i64 c, x, .int .i64 sm, y].set 3 (.int .i64 9)) false)) _ = _ ∧ _
  generalize m28.set m7.nxt (.cells 5 ([C.int .i64 r, .int .i64 c, x, .int .i64 sm, y].set 3 (.int .i64 9)) false) = m29 at k29 k29' b29 x29
  clear b24 b25 b26 b28 k24 k24' k25 k25' k26 k26' k28 k28' x24 x25 x26 x28 h12 h23 h24 k23 x23 b23
  refine ⟨trivial, trivial, x, b29.rc (k := 2) rfl, hx.isSl, ?_⟩
  rw [hx.slLen]
  have q0 := Int.emod_nonneg a' (b := (L.length : Int)) (by omega)
  have q1' := Int.emod_lt_of_pos a' (b := (L.length : Int)) (by omega)
  obtain ⟨k, hk⟩ : ∃ k : Nat, a' % (L.length : Int) = (k : Int) := ⟨(a' % (L.length : Int)).toNat, by omega⟩
  rw [hk] at q0 q1' ⊢
  have hkL : k < L.length := by omega
  have hxx := x7.trans x29
  refine ⟨ha'.1, by omega, fits_small (by omega) (by omega), trivial, trivial, x, b29.rc (k := 2) rfl, k, rfl, by rw [hx.slLen]; exact hkL, L[k], Li.rd (hx.ext hxx) (List.getElem?_eq_getElem hkL), fun m34 h34 => ?_⟩
  obtain ⟨k34, x34⟩ := Bk.new h34
  refine ⟨_, k34.st _, fun R36 hstep => ?_⟩
  have k35 := k34.set [.int .i64 0, .int .i64 L[k]]
  have x35 := x34.setR (Nat.le_refl _) (.cells 2 [.int .i64 0, .int .i64 L[k]] false)
  have hvx : svErr r c L s2 N = 0 := sv_ok hO hs2 hP
  have hvy : svErr r c L 9 N = 0 := sv_ok hO (by omega) hP
  have hask : ∀ {u : Int}, svErr r c L u N = 0 → askErr r c L u N (decide (0 ≤ (k : Int) ∧ (k : Int) ≤ r * c - 1)) = trueErr r c L u N := fun hvu => by unfold askErr; rw [if_pos hvu, decide_eq_true ⟨by omega, by omega⟩]; rfl
  have hgo : ∀ (d i : Nat) (lo hi : Int) (m38 : M), d + i = N.length → Ext m29 m38 → Bk m38 m29.nxt 2 [.int .i64 lo, .int .i64 hi] → dueF k (lo, hi) (N.drop i) = dueF k (0, L[k]) N → R36 [.c (.int .i64 (i : Int))] m38 := by
    intro d
    induction d with
    | zero =>
      intro i lo hi m38 hd e38 k38 hdue
      rw [List.drop_eq_nil_of_le (by omega)] at hdue
      have hdue' : (lo, hi) = dueF k (0, L[k]!) N := by rw [getElem!_pos L k hkL]; exact hdue
      have b38 := b29.ext e38
      have x38 := hxx.trans e38
      refine hstep _ _ ⟨trivial, y, b38.rc (k := 4) rfl, hy.isSl, ?_⟩
      rw [hy.slLen, ifB_dec]
      refine ⟨fun h1 => by omega, fun _ => ⟨r, c, x, 9, y, (k29.ext e38).ra, s62 (hx.ext x38) (hy.ext x38) fun m65 e65 => ⟨_, rfl, ?_⟩⟩⟩
      have x65 := x38.trans e65
      have b65 := b38.ext e65
      have E65 : Ext m m65 ∧ Bk m65 m.nxt 5 [.int .i64 r, .int .i64 c, x, .int .i64 sm, y] ∧ Bk m65 m12.nxt 5 [.int .i64 r, .int .i64 c, x, .int .i64 s2, y] := ⟨x65, b65, (k29'.ext e38).ext e65⟩
      rw [ifB_dec]
      refine ⟨fun hty => ?_, fun _ => ?_⟩
      · refine cHits (hx.ext x65) (by omega) (hy.ext x65) (by omega) ((k29.ext e38).ext e65) fun m80 m85 e80 e85 kR => ?_
        rw [hask hvy, hty] at kR ⊢
        have kD := ((k38.ext e65).ext e80).ext e85
        have E85 : Ext m m85 ∧ Bk m85 m.nxt 5 [.int .i64 r, .int .i64 c, x, .int .i64 sm, y] ∧ Bk m85 m12.nxt 5 [.int .i64 r, .int .i64 c, x, .int .i64 s2, y] := ⟨(x65.trans e80).trans e85, (b65.ext e80).ext e85, (E65.2.2.ext e80).ext e85⟩
        have hbd : boundsOf r c L 9 N 0 (fun H => H[(k : Int).toNat]!) = (lo, hi) := by
          rw [hdue']
          have h9 := smooth9 hvy hty hkL
          unfold boundsOf
          rw [if_pos rfl, Int.toNat_natCast, h9.1, h9.2]
        rw [hbd] at kR
        have hlo : 0 ≤ lo ∧ lo ≤ 100 ∧ 0 ≤ hi ∧ hi ≤ 100 := by
          obtain ⟨_, hpos⟩ := true_sv hty
          have hlp : 0 < ((truthsP c 9 L N).map fun H => H[k]!).length := by rw [List.length_map]; exact hpos
          have h9 := smooth9 hvy hty hkL
          have hD : ∀ v ∈ (truthsP c 9 L N).map (fun H => H[k]!), 0 ≤ v ∧ v ≤ 9 := fun v hv' => by
            obtain ⟨H, h1, rfl⟩ := List.mem_map.1 hv'
            have hl := truth_of hO.f h1
            have hkH : k < H.length := by rw [listed_len hl]; exact hkL
            have := small_at (small_listed hS hl) hkH
            show 0 ≤ H[k]! ∧ H[k]! ≤ _
            rw [getElem!_pos H k hkH]; omega
          have d1 := hD _ (lo_spec hlp).1
          have d2 := hD _ (hi_spec hlp).1
          rw [h9.1, ← hdue'] at d1
          rw [h9.2, ← hdue'] at d2
          exact ⟨d1.1, by show lo ≤ 100; have := d1.2; have : lo ≤ 9 := this; omega, d2.1, by have : hi ≤ 9 := d2.2; omega⟩
        rw [ifB_ndec]
        refine ⟨fun h1 => absurd rfl h1, fun _ => ⟨_, _, kR.ra, _, _, kD.ra, fits_small (by show _ ≤ lo; omega) (by show lo ≤ _; omega), fits_small (by omega) (by omega), fits_small (by show _ ≤ hi; omega) (by show hi ≤ _; omega), fits_small (by omega) (by omega), ?_⟩⟩
        show ifB (!(decide (lo = lo) && decide (hi = hi))) _ _
        rw [decide_eq_true rfl, decide_eq_true rfl]
        show ∃ x90 : Int, _
        obtain ⟨x85, b85, kx85⟩ := E85
        refine ⟨r, c, x, sm, y, b85.ra, s62 (hx.ext x85) (hy.ext x85) fun n1 f1 => ⟨_, rfl, ?_⟩⟩
        rw [ifB_ndec]
        refine ⟨fun _ => aw _, fun hts => ?_⟩
        have y1 := x85.trans f1
        refine cBounds (hx.ext y1) (by omega) (hy.ext y1) (by omega) (b85.ext f1) fun p1 q1 g1 g1' kA => ?_
        have y2 := (y1.trans g1).trans g1'
        refine cBounds (hx.ext y2) (by omega) (hy.ext y2) (by omega) (((kx85.ext f1).ext g1).ext g1') fun p2 q2 g2 g2' kB => ?_
        have y3 := (y2.trans g2).trans g2'
        refine cHits (hx.ext y3) (by omega) (hy.ext y3) (by omega) (((((b85.ext f1).ext g1).ext g1').ext g2).ext g2') fun p3 q3 g3 g3' kC => ?_
        have y4 := (y3.trans g3).trans g3'
        refine cHits (hx.ext y4) (by omega) (hy.ext y4) (by omega) (((((((kx85.ext f1).ext g1).ext g1').ext g2).ext g2').ext g3).ext g3') fun p4 q4 g4 g4' kD => ?_
        have hk := bd_mono hv hvx hts (shareOf L) (shareOf L) fun H hH => ⟨H, smooth_mono hle hH, rfl⟩
        have hk' := bd_mono hv hvx hts (fun H => H[k]!) (fun H => H[k]!) fun H hH => ⟨H, smooth_mono hle hH, rfl⟩
        rw [hask hv, hask hvx, hts, hk.1]
        rw [hts] at kA; rw [hk.1] at kB; rw [hask hv, hts] at kC; rw [hask hvx, hk.1] at kD
        have A1 := (((((kA.ext g2).ext g2').ext g3).ext g3').ext g4).ext g4'
        have B1 := (((kB.ext g3).ext g3').ext g4).ext g4'
        have C1 := (kC.ext g4).ext g4'
        unfold boundsOf at A1 B1 C1 kD
        simp only [if_true, Int.toNat_natCast] at A1 B1 C1 kD
        show ifB true (ifB true (ifB true (ifB true _ _) _) _) _
        simp only [ifB_true]
        refine ⟨trivial, _, B1.rc (k := 0) rfl, trivial, _, A1.rc (k := 0) rfl, ?_⟩
        rw [ifB_dec]
        refine ⟨fun _ => ⟨trivial, _, A1.rc (k := 1) rfl, trivial, _, B1.rc (k := 1) rfl, ?_⟩, fun h1 => absurd hk.2.1 h1⟩
        rw [ifB_dec]
        refine ⟨fun _ => ⟨trivial, _, kD.rc (k := 0) rfl, trivial, _, C1.rc (k := 0) rfl, ?_⟩, fun h1 => absurd hk.2.2 h1⟩
        rw [ifB_dec]
        refine ⟨fun _ => ⟨trivial, _, C1.rc (k := 1) rfl, trivial, _, kD.rc (k := 1) rfl, ?_⟩, fun h1 => absurd hk'.2.1 h1⟩
        rw [ifB_dec]
        exact ⟨fun _ => aw _, fun h1 => absurd hk'.2.2 h1⟩
      · clear x65 b65
        obtain ⟨x65, b65, kx65⟩ := E65
        refine ⟨r, c, x, sm, y, b65.ra, s62 (hx.ext x65) (hy.ext x65) fun n1 f1 => ⟨_, rfl, ?_⟩⟩
        rw [ifB_ndec]
        refine ⟨fun _ => aw _, fun hts => ?_⟩
        have y1 := x65.trans f1
        refine cBounds (hx.ext y1) (by omega) (hy.ext y1) (by omega) (b65.ext f1) fun p1 q1 g1 g1' kA => ?_
        have y2 := (y1.trans g1).trans g1'
        refine cBounds (hx.ext y2) (by omega) (hy.ext y2) (by omega) (((kx65.ext f1).ext g1).ext g1') fun p2 q2 g2 g2' kB => ?_
        have y3 := (y2.trans g2).trans g2'
        refine cHits (hx.ext y3) (by omega) (hy.ext y3) (by omega) (((((b65.ext f1).ext g1).ext g1').ext g2).ext g2') fun p3 q3 g3 g3' kC => ?_
        have y4 := (y3.trans g3).trans g3'
        refine cHits (hx.ext y4) (by omega) (hy.ext y4) (by omega) (((((((kx65.ext f1).ext g1).ext g1').ext g2).ext g2').ext g3).ext g3') fun p4 q4 g4 g4' kD => ?_
        have hk := bd_mono hv hvx hts (shareOf L) (shareOf L) fun H hH => ⟨H, smooth_mono hle hH, rfl⟩
        have hk' := bd_mono hv hvx hts (fun H => H[k]!) (fun H => H[k]!) fun H hH => ⟨H, smooth_mono hle hH, rfl⟩
        rw [hask hv, hask hvx, hts, hk.1]
        rw [hts] at kA; rw [hk.1] at kB; rw [hask hv, hts] at kC; rw [hask hvx, hk.1] at kD
        have A1 := (((((kA.ext g2).ext g2').ext g3).ext g3').ext g4).ext g4'
        have B1 := (((kB.ext g3).ext g3').ext g4).ext g4'
        have C1 := (kC.ext g4).ext g4'
        unfold boundsOf at A1 B1 C1 kD
        simp only [if_true, Int.toNat_natCast] at A1 B1 C1 kD
        show ifB true (ifB true (ifB true (ifB true _ _) _) _) _
        simp only [ifB_true]
        refine ⟨trivial, _, B1.rc (k := 0) rfl, trivial, _, A1.rc (k := 0) rfl, ?_⟩
        rw [ifB_dec]
        refine ⟨fun _ => ⟨trivial, _, A1.rc (k := 1) rfl, trivial, _, B1.rc (k := 1) rfl, ?_⟩, fun h1 => absurd hk.2.1 h1⟩
        rw [ifB_dec]
        refine ⟨fun _ => ⟨trivial, _, kD.rc (k := 0) rfl, trivial, _, C1.rc (k := 0) rfl, ?_⟩, fun h1 => absurd hk.2.2 h1⟩
        rw [ifB_dec]
        refine ⟨fun _ => ⟨trivial, _, C1.rc (k := 1) rfl, trivial, _, kD.rc (k := 1) rfl, ?_⟩, fun h1 => absurd hk'.2.1 h1⟩
        rw [ifB_dec]
        exact ⟨fun _ => aw _, fun h1 => absurd hk'.2.2 h1⟩
    | succ d ih =>
      intro i lo hi m38 hd e38 k38 hdue
      have b38 := b29.ext e38
      have x38 := hxx.trans e38
      have hi' : i < N.length := by omega
      have hc := hO.v _ (List.getElem_mem hi')
      have hc' := of_decide_eq_true hc
      refine hstep _ _ ⟨trivial, y, b38.rc (k := 4) rfl, hy.isSl, ?_⟩
      rw [hy.slLen, ifB_dec]
      refine ⟨fun _ => ?_, fun h1 => absurd (by omega) h1⟩
      have hf : fitsP .i64 ((i : Int) + 1) := fits_small (by omega) (by omega)
      have hrd : ldA m38 (slAt y (i * 4)) 4 = some N[i].cs := by
        have := Ls.rds (hy.ext x38) (i := i * 4) (j := 4) (by omega) (cnts_room hi' (by omega))
        rw [cnts_all (List.getElem?_eq_getElem hi')] at this
        exact this
      refine ⟨trivial, y, b38.rc (k := 4) rfl, i, rfl, by rw [hy.slLen]; exact hi', N[i].p, N[i].lo, N[i].hi, N[i].late, hrd, fun m46 h46 => ?_⟩
      obtain ⟨k46, x46⟩ := Bk.new h46
      refine ⟨_, k46.st _, ?_⟩
      have k47 := k46.set [C.int .i64 N[i].p, .int .i64 N[i].lo, .int .i64 N[i].hi, .bool N[i].late]
      have x47 := x46.setR (Nat.le_refl _) (.cells 4 [C.int .i64 N[i].p, .int .i64 N[i].lo, .int .i64 N[i].hi, .bool N[i].late] false)
      generalize m46.set m38.nxt (.cells 4 [C.int .i64 N[i].p, .int .i64 N[i].lo, .int .i64 N[i].hi, .bool N[i].late] false) = m47 at k47 x47
      have e47 := e38.trans x47
      have kd := k38.ext x47
      rw [dueF_step hi'] at hdue
      refine ⟨trivial, _, k47.rc (k := 0) rfl, ?_⟩
      rw [ifB_dec]
      refine ⟨fun h1 => ⟨trivial, _, k47.rc (k := 3) rfl, ?_⟩, fun h1 => ⟨hf, ih (i + 1) lo hi m47 (by omega) e47 kd (by rw [if_neg fun h2 => h1 h2.1] at hdue; exact hdue)⟩⟩
      rw [ifB_iff]
      refine ⟨fun h2 => ?_, fun h2 => ⟨hf, ih (i + 1) lo hi m47 (by omega) e47 kd (by rw [if_neg fun h3 => by rw [h3.2] at h2; exact absurd h2 (by decide)] at hdue; exact hdue)⟩⟩
      refine ⟨trivial, lo, kd.rc (k := 0) rfl, trivial, trivial, _, k47.rc (k := 1) rfl, trivial, hi, kd.rc (k := 1) rfl, trivial, trivial, _, k47.rc (k := 2) rfl, s56 fun m55 e55 => ⟨_, _, rfl, _, (kd.ext e55).st _, hf, ?_⟩⟩
      rw [if_pos ⟨h1, by simpa using h2⟩] at hdue
      exact ih (i + 1) _ _ _ (by omega) ((e47.trans e55).setR (Nat.le_refl _) _) ((kd.ext e55).set _) hdue
  exact hgo N.length 0 0 L[k] _ (by omega) x35 k35 rfl
end
end Go.Proofs.Ytgkjfhkjgdiodaa

namespace Go.Proofs.Ytgkjfhkjgdiodaa
open _root_.Go.Proofs.Try
open Go.ChangeShapes Go.WideShapes Go.ChangeAt Go.RowKit Go.Abs
set_option maxRecDepth 100000
theorem els_cnts {els : List (List C)} (h : ∀ el ∈ els, All2 PkC [.int .i64, .int .i64, .int .i64, .bool] el) : ∃ N : List Cnt, els = N.map Cnt.cs ∧ PsFit N := by
  induction els with
  | nil => exact ⟨[], rfl, fun c hc => by cases hc⟩
  | cons e es ih =>
    obtain ⟨N, h1, h2⟩ := ih fun el hel => h el (List.mem_cons_of_mem _ hel)
    have he := h e (List.mem_cons_self ..)
    cases he with
    | cons q1 q2 =>
      cases q2 with
      | cons r1 r2 =>
        cases r2 with
        | cons s1 s2 =>
          cases s2 with
          | cons t1 t2 =>
            cases t2
            obtain ⟨p, rfl, hf⟩ := pk_int q1
            obtain ⟨lo, rfl, _⟩ := pk_int r1
            obtain ⟨hi, rfl, _⟩ := pk_int s1
            obtain ⟨b, rfl⟩ := pk_bool t1
            exact ⟨⟨p, lo, hi, b⟩ :: N, by rw [h1]; rfl, fun c hc => (List.mem_cons.1 hc).elim (fun h => h ▸ hf) (h2 c)⟩
/-- a slice of counts that a law is called with -/
theorem lc_of {all : List X} {i : Nat} {x : X} (hi : all[i]? = some x) (hk : XK (.sl [.int .i64, .int .i64, .int .i64, .bool]) x) : ∃ N : List Cnt, Lc (memOf all) (cOf i x) N ∧ PsFit N := by
  obtain ⟨hs, he⟩ := xk_sl hk
  obtain ⟨N, h1, h2⟩ := els_cnts he
  have := ls_of hi hs (k := 4) fun el hel => (he el hel).length.symm
  rw [h1, List.length_map] at this
  exact ⟨N, this, h2⟩
theorem get_mid {A B E : List X} {j : Nat} {x : X} (hx : B[j]? = some x) : (A ++ B ++ E)[A.length + j]? = some x := by
  rw [List.append_assoc, List.getElem?_append_right (by omega), Nat.add_sub_cancel_left, List.getElem?_append_left (List.getElem?_eq_some_iff.1 hx).1]; exact hx
theorem kk30 : kindsOf prog 9 30 = some [.pl (.int .i64), .pl (.int .i64), .sl [.int .i64], .pl (.int .i64), .sl [.int .i64, .int .i64, .int .i64, .bool]] := by kernel_rfl
theorem kk5 : kindsOf prog 9 5 = some [.pl (.int .u8)] := by kernel_rfl
theorem laid : laidOutB prog = true := by kernel_rfl
theorem ownNone : ownKnob prog.godebug = none := by kernel_rfl
theorem smooth_lifted (os : Os) (started : os.Started) (H : Type) (enc : TypeId × Value → H) :
    ReturnsInHanded {} Try.checked os 14 .any (Rows.frameSmoothSpec.pre6 enc Try.prog Try.f14 Rows.frameSmoothRow.domain false) (Rows.frameSmoothSpec.post enc Try.prog Try.f14 false true false false) := by
  refine returnsInHanded_of_change (C := Try.checked) ownNone started (by kernel_rfl) Try.func14
    (ChangeSpec.witness6 (enc := enc) (C := Try.checked) false ⟨#[], #[.agg #[.int .i64 0, .int .i64 0, .slice none 0 0, .int .i64 0, .slice none 0 0], .int .u8 0, .int .u8 0], []⟩ 8 (by kernel_rfl) (by kernel_rfl) (by kernel_rfl) (by kernel_rfl)) ?_
  intro W base args ds gs before hval0 hW hcnd _
  have hval : ∀ (j : Nat) t v, Try.f14.params[j]? = some t → args[j]? = some v → Value.okWide Try.prog W .any base t v := hval0
  have hW' := hW
  obtain ⟨p, q, hA0, hV, rfl, hfz, hnd⟩ := hW
  have hA : DataW.TrodAll enc Try.prog W 0 (fun _ => true) true Try.f14.params.toList args.toList ds p := hA0
  rw [Try.params14] at hA hval
  obtain ⟨v0, v1, v2, d0, d1, d2, p0, p1, p2, rfl, rfl, rfl, h0, h1, h2⟩ := trodAll_three hA
  obtain ⟨rfl, rfl⟩ := trodVars_none hV
  obtain ⟨n1, hv1⟩ := okWide_int Try.underlying5 (hval 1 5 v1 rfl rfl)
  obtain ⟨n2, hv2⟩ := okWide_int Try.underlying5 (hval 2 5 v2 rfl rfl)
  have hlt : ∀ x ∈ p0 ++ p1 ++ p2, x.block < W.heap.size := fun x hx => by simpa using hW'.lt x (by simpa using hx)
  obtain ⟨fu0, hf0⟩ := id h0
  obtain ⟨fu1, hf1⟩ := id h1
  obtain ⟨fu2, hf2⟩ := id h2
  clear hA0 hval0
  obtain ⟨xs0, x0, y0⟩ := open_trod 9 kk30 hf0
  obtain ⟨xs1, x1, y1⟩ := open_trod 9 kk5 hf1
  obtain ⟨xs2, x2, y2⟩ := open_trod 9 kk5 hf2
  obtain ⟨cs0, rfl, z0⟩ := agg_of x0 (by rw [← y0.length]; decide)
  have z1 := x1
  have z2 := x2
  have hall := ((z0.app z1).app z2)
  have c0 := crs_of (W := W) (all := xs0 ++ xs1 ++ xs2) (i := ([] : List X).length) (xs := xs0) (fun j x hx => by rw [show xs0 ++ xs1 ++ xs2 = ([]) ++ xs0 ++ (xs1 ++ xs2) from by simp only [List.append_assoc, List.nil_append, List.append_nil]]; exact get_mid hx) z0
  have c1 := crs_of (W := W) (all := xs0 ++ xs1 ++ xs2) (i := (xs0 : List X).length) (xs := xs1) (fun j x hx => by rw [show xs0 ++ xs1 ++ xs2 = (xs0) ++ xs1 ++ (xs2) from by simp only [List.append_assoc, List.nil_append, List.append_nil]]; exact get_mid hx) z1
  have c2 := crs_of (W := W) (all := xs0 ++ xs1 ++ xs2) (i := (xs0 ++ xs1 : List X).length) (xs := xs2) (fun j x hx => by rw [show xs0 ++ xs1 ++ xs2 = (xs0 ++ xs1) ++ xs2 ++ ([]) from by simp only [List.append_assoc, List.nil_append, List.append_nil]]; exact get_mid hx) z2
  have hr := hr_of (W := W) (all := xs0 ++ xs1 ++ xs2) (xr_some hall)
  cases y0 with
  | cons q0 y0 =>
  cases y0 with
  | cons q1 y0 =>
  cases y0 with
  | cons q2 y0 =>
  cases y0 with
  | cons q3 y0 =>
  cases y0 with
  | cons q4 y0 =>
  cases y0
  cases y1 with
  | cons q5 y1 =>
  cases y1
  cases y2 with
  | cons q6 y2 =>
  cases y2
  obtain ⟨r0, rfl⟩ := xk_int q0
  obtain ⟨c0', rfl⟩ := xk_int q1
  obtain ⟨t0, rfl⟩ := xk_int q3
  obtain ⟨a1, rfl⟩ := xk_int q5
  obtain ⟨a2, rfl⟩ := xk_int q6
  rename_i s0a s0b
  obtain ⟨L0, hL0, _⟩ := li_of (all := [.int .i64 r0, .int .i64 c0', s0a, .int .i64 t0, s0b] ++ [.int .u8 a1] ++ [.int .u8 a2]) (i := 2) rfl q2
  obtain ⟨N0, hN0, hP0⟩ := lc_of (all := [.int .i64 r0, .int .i64 c0', s0a, .int .i64 t0, s0b] ++ [.int .u8 a1] ++ [.int .u8 a2]) (i := 4) rfl q4
  subst hv1 hv2
  have fa1 : fitsP .u8 a1 := by
    cases x1 with
    | cons e1 e2 => exact e1.2
  simp only [fitsP] at fa1
  have fa2 : fitsP .u8 a2 := by
    cases x2 with
    | cons e1 e2 => exact e1.2
  simp only [fitsP] at fa2
  have hargs : All2 (VR (envOf W ([.int .i64 r0, .int .i64 c0', s0a, .int .i64 t0, s0b] ++ [.int .u8 a1] ++ [.int .u8 a2]))) [.agg 5 [.int .i64 r0, .int .i64 c0', cOf 2 s0a, .int .i64 t0, cOf 4 s0b], .c (.int .u8 a1), .c (.int .u8 a2)] [.agg cs0, .int .u8 n1, .int .u8 n2] := by
    cases c1 with
    | cons g1 g1' =>
    cases c2 with
    | cons g2 g2' =>
    exact .cons ⟨cs0, rfl, c0, rfl⟩ (.cons g1 (.cons g2 (.nil)))
  refine (callsIn_wide.1 (call_of fits htab (s14 (Q := fun v _ => v = .c (.bool true)) hL0 hN0 ⟨by omega, by omega⟩ ⟨by omega, by omega⟩ fun _ => rfl) hr (args' := #[.agg cs0, .int .u8 n1, .int .u8 n2]) hargs 0)).mono fun en W' hp => ?_
  obtain ⟨v, v', e', m', rfl, hst, hvr, rfl⟩ := hp
  have hv' : v' = .bool true := hvr
  subst hv'
  have hbelow := below_of hst
  refine ⟨_, rfl, [d0, d1, d2], [], p0 ++ p1 ++ p2, [], p0 ++ (p1 ++ p2), [], by simpa using hW', trodAll_mk1 (shut_bool Try.underlying4 _),
    trodAll_mk3 (Below.trod laid (by kernel_rfl) (of_decide_eq_true (by kernel_rfl)) h0 hbelow fun x hx => hlt x (by simp [hx])) (Below.trod laid (by kernel_rfl) (of_decide_eq_true (by kernel_rfl)) h1 hbelow fun x hx => hlt x (by simp [hx])) (Below.trod laid (by kernel_rfl) (of_decide_eq_true (by kernel_rfl)) h2 hbelow fun x hx => hlt x (by simp [hx])), rfl, kept_of hst _, fun hc => by cases hc⟩
theorem smooth_holds : Rows.FrameSmoothSaid :=
  OpenClaim.holds_of_wide 14 Try.f14 rfl rfl rfl rfl rfl rfl rfl ⟨rfl, rfl, rfl, rfl, rfl⟩ rfl rfl rfl rfl rfl (by kernel_rfl) Try.func14 (by kernel_rfl)
    (of_decide_eq_true (by kernel_rfl)) (by unfold Func.isWrapper; first | (rw [if_pos (by decide +kernel)]; kernel_rfl) | (rw [if_neg (by decide +kernel)]; exact ⟨rfl, rfl⟩))
    (fun os started H enc _ => smooth_lifted os started H enc)
end Go.Proofs.Ytgkjfhkjgdiodaa

