/- What the evaluator asks of a program, of this one; and function 12, run in pieces: it returns true. Condition: none; a lemma text of this claim. -/
import Derived.Test.YtmlaphekbnanjaaGreatGeC
import Derived.Test.YtmlaphekbnanjaaGreatProg
import Derived.KernelRfl
namespace Go.Proofs.YtmlaphekbnanjaaGreat
theorem fits : Go.Abs.Fits Go.Proofs.Tryz.prog := ⟨by decide +kernel, by kernel_rfl⟩
abbrev Il (n : Int) : Go.Abs.C := .int .i64 n
open Go.Abs
noncomputable section
/-! ### function 12, piece by piece -/
def f12F : Func := fnAt Go.Proofs.Tryz.prog 12
def f12T : List (Nat × Bool) := []
def f12R : Rec := tab f12T (ev Go.Proofs.Tryz.prog 100000)
theorem f12S : Sound Go.Proofs.Tryz.prog f12R := tab_sound (fun _ hx => by cases hx) (ev_sound fits 100000)
theorem f12K : okAt Go.Proofs.Tryz.prog 12 = true := by kernel_rfl
def f12C0 : Code := bodyAt Go.Proofs.Tryz.prog 12
def f12L0 : List (Nat × V) := []
def f12M0 : List (Nat × AO) := []
def f12C1 : Code := seqR f12C0
def f12L1 : List (Nat × V) := [(0, .c (.bool false))]
def f12M1 : List (Nat × AO) := []
def f12C2 : Code := seqR f12C1
def f12L2 : List (Nat × V) := [(0, .c (.bool false)), (1, .c (.sl 3609 0 1 8 none)), (2, .c (.int .i64 (.ofNat 0)))]
def f12M2 : List (Nat × AO) := [(3609, .cells 8 [.int .i64 (.ofNat 1), .int .i64 (.ofNat 2), .int .i64 (.ofNat 45), .int .i64 (.ofNat 60), .int .i64 (.ofNat 5), .int .i64 (.ofNat 5), .int .i64 (.ofNat 33), .int .i64 (.ofNat 36)] true)]
def f12C3 : Code := seqR f12C2
def f12L3 : List (Nat × V) := [(0, .c (.bool false)), (1, .c (.sl 3609 0 1 8 none)), (2, .c (.int .i64 (.ofNat 0))), (3, .c (.ptr 5054 0)), (4, .c (.int .i64 (.ofNat 0)))]
def f12M3 : List (Nat × AO) := [(5054, .cells 2 [.int .i64 (.ofNat 38), .int .i64 (.ofNat 41)] false), (3609, .cells 8 [.int .i64 (.ofNat 1), .int .i64 (.ofNat 2), .int .i64 (.ofNat 45), .int .i64 (.ofNat 60), .int .i64 (.ofNat 5), .int .i64 (.ofNat 5), .int .i64 (.ofNat 33), .int .i64 (.ofNat 36)] true)]
def f12C4 : Code := seqR f12C3
def f12L4 : List (Nat × V) := [(0, .c (.bool false)), (1, .c (.sl 3609 0 1 8 none)), (2, .c (.int .i64 (.ofNat 0))), (3, .c (.ptr 5054 0)), (4, .c (.int .i64 (.ofNat 0))), (5, .c (.int .i64 (.ofNat 3))), (6, .c (.int .i64 (.ofNat 0)))]
def f12M4 : List (Nat × AO) := [(5054, .cells 2 [.int .i64 (.ofNat 38), .int .i64 (.ofNat 41)] false), (3609, .cells 8 [.int .i64 (.ofNat 1), .int .i64 (.ofNat 2), .int .i64 (.ofNat 45), .int .i64 (.ofNat 60), .int .i64 (.ofNat 5), .int .i64 (.ofNat 5), .int .i64 (.ofNat 33), .int .i64 (.ofNat 36)] true)]
def f12C5 : Code := seqR f12C4
def f12L5 : List (Nat × V) := [(0, .c (.bool false)), (1, .c (.sl 3609 0 1 8 none)), (2, .c (.int .i64 (.ofNat 0))), (3, .c (.ptr 5054 0)), (4, .c (.int .i64 (.ofNat 0))), (5, .c (.int .i64 (.ofNat 3))), (6, .c (.int .i64 (.ofNat 0))), (7, .c (.int .i64 (.ofNat 2))), (8, .c (.int .i64 (.ofNat 0)))]
def f12M5 : List (Nat × AO) := [(5054, .cells 2 [.int .i64 (.ofNat 38), .int .i64 (.ofNat 41)] false), (3609, .cells 8 [.int .i64 (.ofNat 1), .int .i64 (.ofNat 2), .int .i64 (.ofNat 45), .int .i64 (.ofNat 60), .int .i64 (.ofNat 5), .int .i64 (.ofNat 5), .int .i64 (.ofNat 33), .int .i64 (.ofNat 36)] true)]
def f12C6 : Code := seqR f12C5
def f12L6 : List (Nat × V) := [(0, .c (.bool false)), (1, .c (.sl 3609 0 1 8 none)), (2, .c (.int .i64 (.ofNat 0))), (3, .c (.ptr 5054 0)), (4, .c (.int .i64 (.ofNat 0))), (5, .c (.int .i64 (.ofNat 3))), (6, .c (.int .i64 (.ofNat 0))), (7, .c (.int .i64 (.ofNat 2))), (8, .c (.int .i64 (.ofNat 0))), (9, .c (.sl 9625 0 5 1 none)), (10, .c (.int .i64 (.ofNat 0)))]
def f12M6 : List (Nat × AO) := [(9625, .cells 5 [.int .i64 (.ofNat 2), .int .i64 (.ofNat 3), .int .i64 (.ofNat 4), .int .i64 (.ofNat 5), .int .i64 (.ofNat 6)] true), (5054, .cells 2 [.int .i64 (.ofNat 38), .int .i64 (.ofNat 41)] false), (3609, .cells 8 [.int .i64 (.ofNat 1), .int .i64 (.ofNat 2), .int .i64 (.ofNat 45), .int .i64 (.ofNat 60), .int .i64 (.ofNat 5), .int .i64 (.ofNat 5), .int .i64 (.ofNat 33), .int .i64 (.ofNat 36)] true)]
def f12C7 : Code := seqR f12C6
def f12L7 : List (Nat × V) := [(0, .c (.bool false)), (1, .c (.sl 3609 0 1 8 none)), (2, .c (.int .i64 (.ofNat 0))), (3, .c (.ptr 5054 0)), (4, .c (.int .i64 (.ofNat 0))), (5, .c (.int .i64 (.ofNat 3))), (6, .c (.int .i64 (.ofNat 0))), (7, .c (.int .i64 (.ofNat 2))), (8, .c (.int .i64 (.ofNat 0))), (9, .c (.sl 9625 0 5 1 none)), (10, .c (.int .i64 (.ofNat 0))), (11, .c (.int .i64 (.ofNat 1))), (12, .c (.int .i64 (.ofNat 0)))]
def f12M7 : List (Nat × AO) := [(9625, .cells 5 [.int .i64 (.ofNat 2), .int .i64 (.ofNat 3), .int .i64 (.ofNat 4), .int .i64 (.ofNat 5), .int .i64 (.ofNat 6)] true), (5054, .cells 2 [.int .i64 (.ofNat 38), .int .i64 (.ofNat 41)] false), (3609, .cells 8 [.int .i64 (.ofNat 1), .int .i64 (.ofNat 2), .int .i64 (.ofNat 45), .int .i64 (.ofNat 60), .int .i64 (.ofNat 5), .int .i64 (.ofNat 5), .int .i64 (.ofNat 33), .int .i64 (.ofNat 36)] true)]
def f12C8 : Code := seqR f12C7
def f12L8 : List (Nat × V) := [(0, .c (.bool false)), (1, .c (.sl 3609 0 1 8 none)), (2, .c (.int .i64 (.ofNat 0))), (3, .c (.ptr 5054 0)), (4, .c (.int .i64 (.ofNat 0))), (5, .c (.int .i64 (.ofNat 3))), (6, .c (.int .i64 (.ofNat 0))), (7, .c (.int .i64 (.ofNat 2))), (8, .c (.int .i64 (.ofNat 0))), (9, .c (.sl 9625 0 5 1 none)), (10, .c (.int .i64 (.ofNat 0))), (11, .c (.int .i64 (.ofNat 1))), (12, .c (.int .i64 (.ofNat 0))), (13, .c (.sl 12198 0 1 1 none)), (14, .c (.int .i64 (.ofNat 0)))]
def f12M8 : List (Nat × AO) := [(12198, .cells 1 [.int .i64 (.ofNat 0)] true), (9625, .cells 5 [.int .i64 (.ofNat 2), .int .i64 (.ofNat 3), .int .i64 (.ofNat 4), .int .i64 (.ofNat 5), .int .i64 (.ofNat 6)] true), (5054, .cells 2 [.int .i64 (.ofNat 38), .int .i64 (.ofNat 41)] false), (3609, .cells 8 [.int .i64 (.ofNat 1), .int .i64 (.ofNat 2), .int .i64 (.ofNat 45), .int .i64 (.ofNat 60), .int .i64 (.ofNat 5), .int .i64 (.ofNat 5), .int .i64 (.ofNat 33), .int .i64 (.ofNat 36)] true)]
def f12C9 : Code := seqR f12C8
def f12L9 : List (Nat × V) := [(0, .c (.bool true))]
def f12M9 : List (Nat × AO) := []
theorem f12Q0 : isSeq f12C0 = true := by kernel_rfl
theorem f12A0 : Go.Abs.covers f12L1 0 f12M1 (codeA Go.Proofs.Tryz.prog f12R (seqL f12C0) (tmOf f12L0) (hpOf 0 f12M0)) = true := by kernel_rfl
theorem f12Q1 : isSeq f12C1 = true := by kernel_rfl
theorem f12A1 : Go.Abs.covers f12L2 3610 f12M2 (codeA Go.Proofs.Tryz.prog f12R (seqL f12C1) (tmOf f12L1) (hpOf 0 f12M1)) = true := by kernel_rfl
theorem f12Q2 : isSeq f12C2 = true := by kernel_rfl
theorem f12A2 : Go.Abs.covers f12L3 5055 f12M3 (codeA Go.Proofs.Tryz.prog f12R (seqL f12C2) (tmOf f12L2) (hpOf 3610 f12M2)) = true := by kernel_rfl
theorem f12Q3 : isSeq f12C3 = true := by kernel_rfl
theorem f12A3 : Go.Abs.covers f12L4 6485 f12M4 (codeA Go.Proofs.Tryz.prog f12R (seqL f12C3) (tmOf f12L3) (hpOf 5055 f12M3)) = true := by kernel_rfl
theorem f12Q4 : isSeq f12C4 = true := by kernel_rfl
theorem f12A4 : Go.Abs.covers f12L5 7931 f12M5 (codeA Go.Proofs.Tryz.prog f12R (seqL f12C4) (tmOf f12L4) (hpOf 6485 f12M4)) = true := by kernel_rfl
theorem f12Q5 : isSeq f12C5 = true := by kernel_rfl
theorem f12A5 : Go.Abs.covers f12L6 9626 f12M6 (codeA Go.Proofs.Tryz.prog f12R (seqL f12C5) (tmOf f12L5) (hpOf 7931 f12M5)) = true := by kernel_rfl
theorem f12Q6 : isSeq f12C6 = true := by kernel_rfl
theorem f12A6 : Go.Abs.covers f12L7 11026 f12M7 (codeA Go.Proofs.Tryz.prog f12R (seqL f12C6) (tmOf f12L6) (hpOf 9626 f12M6)) = true := by kernel_rfl
theorem f12Q7 : isSeq f12C7 = true := by kernel_rfl
theorem f12A7 : Go.Abs.covers f12L8 12199 f12M8 (codeA Go.Proofs.Tryz.prog f12R (seqL f12C7) (tmOf f12L7) (hpOf 11026 f12M7)) = true := by kernel_rfl
theorem f12Q8 : isSeq f12C8 = true := by kernel_rfl
theorem f12A8 : Go.Abs.covers f12L9 12269 f12M9 (codeA Go.Proofs.Tryz.prog f12R (seqL f12C8) (tmOf f12L8) (hpOf 12199 f12M8)) = true := by kernel_rfl
theorem f12E : Go.Abs.endsIn (.c (.bool true)) (Go.Abs.bind (codeA Go.Proofs.Tryz.prog f12R f12C9 (tmOf f12L9) (hpOf 12269 f12M9)) (finishCall Go.Proofs.Tryz.prog f12F)) = true := by kernel_rfl
theorem f12G9 (hso : slotsOk f12F.ntmps f12C9 = true) : Go.Abs.Good Go.Proofs.Tryz.prog f12F (.c (.bool true)) f12C9 (tmOf f12L9) (hpOf 12269 f12M9) := good_end fits f12S hso f12E
theorem f12G8 (hso : slotsOk f12F.ntmps f12C8 = true) : Go.Abs.Good Go.Proofs.Tryz.prog f12F (.c (.bool true)) f12C8 (tmOf f12L8) (hpOf 12199 f12M8) := good_piece fits f12S f12Q8 hso f12A8 f12G9
theorem f12G7 (hso : slotsOk f12F.ntmps f12C7 = true) : Go.Abs.Good Go.Proofs.Tryz.prog f12F (.c (.bool true)) f12C7 (tmOf f12L7) (hpOf 11026 f12M7) := good_piece fits f12S f12Q7 hso f12A7 f12G8
theorem f12G6 (hso : slotsOk f12F.ntmps f12C6 = true) : Go.Abs.Good Go.Proofs.Tryz.prog f12F (.c (.bool true)) f12C6 (tmOf f12L6) (hpOf 9626 f12M6) := good_piece fits f12S f12Q6 hso f12A6 f12G7
theorem f12G5 (hso : slotsOk f12F.ntmps f12C5 = true) : Go.Abs.Good Go.Proofs.Tryz.prog f12F (.c (.bool true)) f12C5 (tmOf f12L5) (hpOf 7931 f12M5) := good_piece fits f12S f12Q5 hso f12A5 f12G6
theorem f12G4 (hso : slotsOk f12F.ntmps f12C4 = true) : Go.Abs.Good Go.Proofs.Tryz.prog f12F (.c (.bool true)) f12C4 (tmOf f12L4) (hpOf 6485 f12M4) := good_piece fits f12S f12Q4 hso f12A4 f12G5
theorem f12G3 (hso : slotsOk f12F.ntmps f12C3 = true) : Go.Abs.Good Go.Proofs.Tryz.prog f12F (.c (.bool true)) f12C3 (tmOf f12L3) (hpOf 5055 f12M3) := good_piece fits f12S f12Q3 hso f12A3 f12G4
theorem f12G2 (hso : slotsOk f12F.ntmps f12C2 = true) : Go.Abs.Good Go.Proofs.Tryz.prog f12F (.c (.bool true)) f12C2 (tmOf f12L2) (hpOf 3610 f12M2) := good_piece fits f12S f12Q2 hso f12A2 f12G3
theorem f12G1 (hso : slotsOk f12F.ntmps f12C1 = true) : Go.Abs.Good Go.Proofs.Tryz.prog f12F (.c (.bool true)) f12C1 (tmOf f12L1) (hpOf 0 f12M1) := good_piece fits f12S f12Q1 hso f12A1 f12G2
theorem f12G0 (hso : slotsOk f12F.ntmps f12C0 = true) : Go.Abs.Good Go.Proofs.Tryz.prog f12F (.c (.bool true)) f12C0 (tmOf f12L0) (hpOf 0 f12M0) := good_piece fits f12S f12Q0 hso f12A0 f12G1
theorem f12Closed : Closed Go.Proofs.Tryz.prog 12 true := closed_of f12K (f12G0 (okAt_eq f12K).2.2.1)

def tbl : List (Nat × Bool) := [(12, true)]
theorem htab : TabOk Go.Proofs.Tryz.prog tbl := fun x (hx : x ∈ [((12 : Nat), true)]) => by
  rcases List.mem_cons.1 hx with rfl | hx
  · exact ⟨f12K, f12Closed⟩
  · cases hx

end
end Go.Proofs.YtmlaphekbnanjaaGreat

