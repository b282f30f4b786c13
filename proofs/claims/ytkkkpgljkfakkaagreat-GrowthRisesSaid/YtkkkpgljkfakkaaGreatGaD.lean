/- What the evaluator asks of a program, of this one; and function 5, run in pieces: it returns true. Condition: none; a lemma text of this claim. -/
import Derived.Test.YtkkkpgljkfakkaaGreatGaC
import Derived.Test.YtkkkpgljkfakkaaGreatProg
import Derived.KernelRfl
namespace Go.Proofs.YtkkkpgljkfakkaaGreat
theorem fits : Go.Abs.Fits Go.Proofs.Tryz.prog := ⟨by decide +kernel, by kernel_rfl⟩
abbrev Il (n : Int) : Go.Abs.C := .int .i64 n
open Go.Abs
noncomputable section
/-! ### function 5, piece by piece -/
def f5F : Func := fnAt Go.Proofs.Tryz.prog 5
def f5T : List (Nat × Bool) := []
def f5R : Rec := tab f5T (ev Go.Proofs.Tryz.prog 100000)
theorem f5S : Sound Go.Proofs.Tryz.prog f5R := tab_sound (fun _ hx => by cases hx) (ev_sound fits 100000)
theorem f5K : okAt Go.Proofs.Tryz.prog 5 = true := by kernel_rfl
def f5C0 : Code := bodyAt Go.Proofs.Tryz.prog 5
def f5L0 : List (Nat × V) := []
def f5M0 : List (Nat × AO) := []
def f5C1 : Code := seqR f5C0
def f5L1 : List (Nat × V) := [(0, .c (.bool false))]
def f5M1 : List (Nat × AO) := []
def f5C2 : Code := seqR f5C1
def f5L2 : List (Nat × V) := [(0, .c (.bool false)), (1, .c (.sl 3609 0 1 8 none)), (2, .c (.int .i64 (.ofNat 0)))]
def f5M2 : List (Nat × AO) := [(3609, .cells 8 [.int .i64 (.ofNat 1), .int .i64 (.ofNat 2), .int .i64 (.ofNat 45), .int .i64 (.ofNat 60), .int .i64 (.ofNat 5), .int .i64 (.ofNat 5), .int .i64 (.ofNat 33), .int .i64 (.ofNat 36)] true)]
def f5C3 : Code := seqR f5C2
def f5L3 : List (Nat × V) := [(0, .c (.bool false)), (1, .c (.sl 3609 0 1 8 none)), (2, .c (.int .i64 (.ofNat 0))), (3, .c (.ptr 5054 0)), (4, .c (.int .i64 (.ofNat 0)))]
def f5M3 : List (Nat × AO) := [(5054, .cells 2 [.int .i64 (.ofNat 38), .int .i64 (.ofNat 41)] false), (3609, .cells 8 [.int .i64 (.ofNat 1), .int .i64 (.ofNat 2), .int .i64 (.ofNat 45), .int .i64 (.ofNat 60), .int .i64 (.ofNat 5), .int .i64 (.ofNat 5), .int .i64 (.ofNat 33), .int .i64 (.ofNat 36)] true)]
def f5C4 : Code := seqR f5C3
def f5L4 : List (Nat × V) := [(0, .c (.bool false)), (1, .c (.sl 3609 0 1 8 none)), (2, .c (.int .i64 (.ofNat 0))), (3, .c (.ptr 5054 0)), (4, .c (.int .i64 (.ofNat 0))), (5, .c (.int .i64 (.ofNat 3))), (6, .c (.int .i64 (.ofNat 0)))]
def f5M4 : List (Nat × AO) := [(5054, .cells 2 [.int .i64 (.ofNat 38), .int .i64 (.ofNat 41)] false), (3609, .cells 8 [.int .i64 (.ofNat 1), .int .i64 (.ofNat 2), .int .i64 (.ofNat 45), .int .i64 (.ofNat 60), .int .i64 (.ofNat 5), .int .i64 (.ofNat 5), .int .i64 (.ofNat 33), .int .i64 (.ofNat 36)] true)]
def f5C5 : Code := seqR f5C4
def f5L5 : List (Nat × V) := [(0, .c (.bool false)), (1, .c (.sl 3609 0 1 8 none)), (2, .c (.int .i64 (.ofNat 0))), (3, .c (.ptr 5054 0)), (4, .c (.int .i64 (.ofNat 0))), (5, .c (.int .i64 (.ofNat 3))), (6, .c (.int .i64 (.ofNat 0))), (7, .c (.int .i64 (.ofNat 2))), (8, .c (.int .i64 (.ofNat 0)))]
def f5M5 : List (Nat × AO) := [(5054, .cells 2 [.int .i64 (.ofNat 38), .int .i64 (.ofNat 41)] false), (3609, .cells 8 [.int .i64 (.ofNat 1), .int .i64 (.ofNat 2), .int .i64 (.ofNat 45), .int .i64 (.ofNat 60), .int .i64 (.ofNat 5), .int .i64 (.ofNat 5), .int .i64 (.ofNat 33), .int .i64 (.ofNat 36)] true)]
def f5C6 : Code := seqR f5C5
def f5L6 : List (Nat × V) := [(0, .c (.bool false)), (1, .c (.sl 3609 0 1 8 none)), (2, .c (.int .i64 (.ofNat 0))), (3, .c (.ptr 5054 0)), (4, .c (.int .i64 (.ofNat 0))), (5, .c (.int .i64 (.ofNat 3))), (6, .c (.int .i64 (.ofNat 0))), (7, .c (.int .i64 (.ofNat 2))), (8, .c (.int .i64 (.ofNat 0))), (9, .c (.sl 9625 0 5 1 none)), (10, .c (.int .i64 (.ofNat 0)))]
def f5M6 : List (Nat × AO) := [(9625, .cells 5 [.int .i64 (.ofNat 2), .int .i64 (.ofNat 3), .int .i64 (.ofNat 4), .int .i64 (.ofNat 5), .int .i64 (.ofNat 6)] true), (5054, .cells 2 [.int .i64 (.ofNat 38), .int .i64 (.ofNat 41)] false), (3609, .cells 8 [.int .i64 (.ofNat 1), .int .i64 (.ofNat 2), .int .i64 (.ofNat 45), .int .i64 (.ofNat 60), .int .i64 (.ofNat 5), .int .i64 (.ofNat 5), .int .i64 (.ofNat 33), .int .i64 (.ofNat 36)] true)]
def f5C7 : Code := seqR f5C6
def f5L7 : List (Nat × V) := [(0, .c (.bool false)), (1, .c (.sl 3609 0 1 8 none)), (2, .c (.int .i64 (.ofNat 0))), (3, .c (.ptr 5054 0)), (4, .c (.int .i64 (.ofNat 0))), (5, .c (.int .i64 (.ofNat 3))), (6, .c (.int .i64 (.ofNat 0))), (7, .c (.int .i64 (.ofNat 2))), (8, .c (.int .i64 (.ofNat 0))), (9, .c (.sl 9625 0 5 1 none)), (10, .c (.int .i64 (.ofNat 0))), (11, .c (.int .i64 (.ofNat 1))), (12, .c (.int .i64 (.ofNat 0)))]
def f5M7 : List (Nat × AO) := [(9625, .cells 5 [.int .i64 (.ofNat 2), .int .i64 (.ofNat 3), .int .i64 (.ofNat 4), .int .i64 (.ofNat 5), .int .i64 (.ofNat 6)] true), (5054, .cells 2 [.int .i64 (.ofNat 38), .int .i64 (.ofNat 41)] false), (3609, .cells 8 [.int .i64 (.ofNat 1), .int .i64 (.ofNat 2), .int .i64 (.ofNat 45), .int .i64 (.ofNat 60), .int .i64 (.ofNat 5), .int .i64 (.ofNat 5), .int .i64 (.ofNat 33), .int .i64 (.ofNat 36)] true)]
def f5C8 : Code := seqR f5C7
def f5L8 : List (Nat × V) := [(0, .c (.bool false)), (1, .c (.sl 3609 0 1 8 none)), (2, .c (.int .i64 (.ofNat 0))), (3, .c (.ptr 5054 0)), (4, .c (.int .i64 (.ofNat 0))), (5, .c (.int .i64 (.ofNat 3))), (6, .c (.int .i64 (.ofNat 0))), (7, .c (.int .i64 (.ofNat 2))), (8, .c (.int .i64 (.ofNat 0))), (9, .c (.sl 9625 0 5 1 none)), (10, .c (.int .i64 (.ofNat 0))), (11, .c (.int .i64 (.ofNat 1))), (12, .c (.int .i64 (.ofNat 0))), (13, .c (.sl 12198 0 1 1 none)), (14, .c (.int .i64 (.ofNat 0)))]
def f5M8 : List (Nat × AO) := [(12198, .cells 1 [.int .i64 (.ofNat 0)] true), (9625, .cells 5 [.int .i64 (.ofNat 2), .int .i64 (.ofNat 3), .int .i64 (.ofNat 4), .int .i64 (.ofNat 5), .int .i64 (.ofNat 6)] true), (5054, .cells 2 [.int .i64 (.ofNat 38), .int .i64 (.ofNat 41)] false), (3609, .cells 8 [.int .i64 (.ofNat 1), .int .i64 (.ofNat 2), .int .i64 (.ofNat 45), .int .i64 (.ofNat 60), .int .i64 (.ofNat 5), .int .i64 (.ofNat 5), .int .i64 (.ofNat 33), .int .i64 (.ofNat 36)] true)]
def f5C9 : Code := seqR f5C8
def f5L9 : List (Nat × V) := [(0, .c (.bool true))]
def f5M9 : List (Nat × AO) := []
theorem f5Q0 : isSeq f5C0 = true := by kernel_rfl
theorem f5A0 : Go.Abs.covers f5L1 0 f5M1 (codeA Go.Proofs.Tryz.prog f5R (seqL f5C0) (tmOf f5L0) (hpOf 0 f5M0)) = true := by kernel_rfl
theorem f5Q1 : isSeq f5C1 = true := by kernel_rfl
theorem f5A1 : Go.Abs.covers f5L2 3610 f5M2 (codeA Go.Proofs.Tryz.prog f5R (seqL f5C1) (tmOf f5L1) (hpOf 0 f5M1)) = true := by kernel_rfl
theorem f5Q2 : isSeq f5C2 = true := by kernel_rfl
theorem f5A2 : Go.Abs.covers f5L3 5055 f5M3 (codeA Go.Proofs.Tryz.prog f5R (seqL f5C2) (tmOf f5L2) (hpOf 3610 f5M2)) = true := by kernel_rfl
theorem f5Q3 : isSeq f5C3 = true := by kernel_rfl
theorem f5A3 : Go.Abs.covers f5L4 6485 f5M4 (codeA Go.Proofs.Tryz.prog f5R (seqL f5C3) (tmOf f5L3) (hpOf 5055 f5M3)) = true := by kernel_rfl
theorem f5Q4 : isSeq f5C4 = true := by kernel_rfl
theorem f5A4 : Go.Abs.covers f5L5 7931 f5M5 (codeA Go.Proofs.Tryz.prog f5R (seqL f5C4) (tmOf f5L4) (hpOf 6485 f5M4)) = true := by kernel_rfl
theorem f5Q5 : isSeq f5C5 = true := by kernel_rfl
theorem f5A5 : Go.Abs.covers f5L6 9626 f5M6 (codeA Go.Proofs.Tryz.prog f5R (seqL f5C5) (tmOf f5L5) (hpOf 7931 f5M5)) = true := by kernel_rfl
theorem f5Q6 : isSeq f5C6 = true := by kernel_rfl
theorem f5A6 : Go.Abs.covers f5L7 11026 f5M7 (codeA Go.Proofs.Tryz.prog f5R (seqL f5C6) (tmOf f5L6) (hpOf 9626 f5M6)) = true := by kernel_rfl
theorem f5Q7 : isSeq f5C7 = true := by kernel_rfl
theorem f5A7 : Go.Abs.covers f5L8 12199 f5M8 (codeA Go.Proofs.Tryz.prog f5R (seqL f5C7) (tmOf f5L7) (hpOf 11026 f5M7)) = true := by kernel_rfl
theorem f5Q8 : isSeq f5C8 = true := by kernel_rfl
theorem f5A8 : Go.Abs.covers f5L9 12269 f5M9 (codeA Go.Proofs.Tryz.prog f5R (seqL f5C8) (tmOf f5L8) (hpOf 12199 f5M8)) = true := by kernel_rfl
theorem f5E : Go.Abs.endsIn (.c (.bool true)) (Go.Abs.bind (codeA Go.Proofs.Tryz.prog f5R f5C9 (tmOf f5L9) (hpOf 12269 f5M9)) (finishCall Go.Proofs.Tryz.prog f5F)) = true := by kernel_rfl
theorem f5G9 (hso : slotsOk f5F.ntmps f5C9 = true) : Go.Abs.Good Go.Proofs.Tryz.prog f5F (.c (.bool true)) f5C9 (tmOf f5L9) (hpOf 12269 f5M9) := good_end fits f5S hso f5E
theorem f5G8 (hso : slotsOk f5F.ntmps f5C8 = true) : Go.Abs.Good Go.Proofs.Tryz.prog f5F (.c (.bool true)) f5C8 (tmOf f5L8) (hpOf 12199 f5M8) := good_piece fits f5S f5Q8 hso f5A8 f5G9
theorem f5G7 (hso : slotsOk f5F.ntmps f5C7 = true) : Go.Abs.Good Go.Proofs.Tryz.prog f5F (.c (.bool true)) f5C7 (tmOf f5L7) (hpOf 11026 f5M7) := good_piece fits f5S f5Q7 hso f5A7 f5G8
theorem f5G6 (hso : slotsOk f5F.ntmps f5C6 = true) : Go.Abs.Good Go.Proofs.Tryz.prog f5F (.c (.bool true)) f5C6 (tmOf f5L6) (hpOf 9626 f5M6) := good_piece fits f5S f5Q6 hso f5A6 f5G7
theorem f5G5 (hso : slotsOk f5F.ntmps f5C5 = true) : Go.Abs.Good Go.Proofs.Tryz.prog f5F (.c (.bool true)) f5C5 (tmOf f5L5) (hpOf 7931 f5M5) := good_piece fits f5S f5Q5 hso f5A5 f5G6
theorem f5G4 (hso : slotsOk f5F.ntmps f5C4 = true) : Go.Abs.Good Go.Proofs.Tryz.prog f5F (.c (.bool true)) f5C4 (tmOf f5L4) (hpOf 6485 f5M4) := good_piece fits f5S f5Q4 hso f5A4 f5G5
theorem f5G3 (hso : slotsOk f5F.ntmps f5C3 = true) : Go.Abs.Good Go.Proofs.Tryz.prog f5F (.c (.bool true)) f5C3 (tmOf f5L3) (hpOf 5055 f5M3) := good_piece fits f5S f5Q3 hso f5A3 f5G4
theorem f5G2 (hso : slotsOk f5F.ntmps f5C2 = true) : Go.Abs.Good Go.Proofs.Tryz.prog f5F (.c (.bool true)) f5C2 (tmOf f5L2) (hpOf 3610 f5M2) := good_piece fits f5S f5Q2 hso f5A2 f5G3
theorem f5G1 (hso : slotsOk f5F.ntmps f5C1 = true) : Go.Abs.Good Go.Proofs.Tryz.prog f5F (.c (.bool true)) f5C1 (tmOf f5L1) (hpOf 0 f5M1) := good_piece fits f5S f5Q1 hso f5A1 f5G2
theorem f5G0 (hso : slotsOk f5F.ntmps f5C0 = true) : Go.Abs.Good Go.Proofs.Tryz.prog f5F (.c (.bool true)) f5C0 (tmOf f5L0) (hpOf 0 f5M0) := good_piece fits f5S f5Q0 hso f5A0 f5G1
theorem f5Closed : Closed Go.Proofs.Tryz.prog 5 true := closed_of f5K (f5G0 (okAt_eq f5K).2.2.1)

def tbl : List (Nat × Bool) := [(5, true)]
theorem htab : TabOk Go.Proofs.Tryz.prog tbl := fun x (hx : x ∈ [((5 : Nat), true)]) => by
  rcases List.mem_cons.1 hx with rfl | hx
  · exact ⟨f5K, f5Closed⟩
  · cases hx

end
end Go.Proofs.YtkkkpgljkfakkaaGreat

