/- What the evaluator asks of a program, of this one; and function 21, run in pieces: it returns true. Condition: none; a lemma text of this claim. -/
import Derived.Test.YtmlaphekbnanjaaGtC
import Derived.Test.YtmlaphekbnanjaaProg
import Derived.KernelRfl
namespace Go.Proofs.Ytmlaphekbnanjaa
theorem fits : Go.Abs.Fits Go.Proofs.Try.prog := ⟨by decide +kernel, by kernel_rfl⟩
abbrev Il (n : Int) : Go.Abs.C := .int .i64 n
open Go.Abs
noncomputable section

/-! ### function 21, piece by piece -/
def f21F : Func := fnAt Go.Proofs.Try.prog 21
def f21T : List (Nat × Bool) := []
def f21R : Rec := tab f21T (ev Go.Proofs.Try.prog 100000)
theorem f21S : Sound Go.Proofs.Try.prog f21R := tab_sound (fun _ hx => by cases hx) (ev_sound fits 100000)
theorem f21K : okAt Go.Proofs.Try.prog 21 = true := by kernel_rfl
def f21C0 : Code := bodyAt Go.Proofs.Try.prog 21
def f21L0 : List (Nat × V) := []
def f21M0 : List (Nat × AO) := []
def f21C1 : Code := seqR f21C0
def f21L1 : List (Nat × V) := [(0, .c (.bool false))]
def f21M1 : List (Nat × AO) := []
def f21C2 : Code := seqR f21C1
def f21L2 : List (Nat × V) := [(0, .c (.bool false)), (1, .c (.sl 3609 0 1 8 none)), (2, .c (.int .i64 (.ofNat 0)))]
def f21M2 : List (Nat × AO) := [(3609, .cells 8 [.int .i64 (.ofNat 1), .int .i64 (.ofNat 2), .int .i64 (.ofNat 45), .int .i64 (.ofNat 60), .int .i64 (.ofNat 5), .int .i64 (.ofNat 5), .int .i64 (.ofNat 33), .int .i64 (.ofNat 36)] true)]
def f21C3 : Code := seqR f21C2
def f21L3 : List (Nat × V) := [(0, .c (.bool false)), (1, .c (.sl 3609 0 1 8 none)), (2, .c (.int .i64 (.ofNat 0))), (3, .c (.ptr 5054 0)), (4, .c (.int .i64 (.ofNat 0)))]
def f21M3 : List (Nat × AO) := [(5054, .cells 2 [.int .i64 (.ofNat 38), .int .i64 (.ofNat 41)] false), (3609, .cells 8 [.int .i64 (.ofNat 1), .int .i64 (.ofNat 2), .int .i64 (.ofNat 45), .int .i64 (.ofNat 60), .int .i64 (.ofNat 5), .int .i64 (.ofNat 5), .int .i64 (.ofNat 33), .int .i64 (.ofNat 36)] true)]
def f21C4 : Code := seqR f21C3
def f21L4 : List (Nat × V) := [(0, .c (.bool false)), (1, .c (.sl 3609 0 1 8 none)), (2, .c (.int .i64 (.ofNat 0))), (3, .c (.ptr 5054 0)), (4, .c (.int .i64 (.ofNat 0))), (5, .c (.int .i64 (.ofNat 3))), (6, .c (.int .i64 (.ofNat 0)))]
def f21M4 : List (Nat × AO) := [(5054, .cells 2 [.int .i64 (.ofNat 38), .int .i64 (.ofNat 41)] false), (3609, .cells 8 [.int .i64 (.ofNat 1), .int .i64 (.ofNat 2), .int .i64 (.ofNat 45), .int .i64 (.ofNat 60), .int .i64 (.ofNat 5), .int .i64 (.ofNat 5), .int .i64 (.ofNat 33), .int .i64 (.ofNat 36)] true)]
def f21C5 : Code := seqR f21C4
def f21L5 : List (Nat × V) := [(0, .c (.bool false)), (1, .c (.sl 3609 0 1 8 none)), (2, .c (.int .i64 (.ofNat 0))), (3, .c (.ptr 5054 0)), (4, .c (.int .i64 (.ofNat 0))), (5, .c (.int .i64 (.ofNat 3))), (6, .c (.int .i64 (.ofNat 0))), (7, .c (.int .i64 (.ofNat 2))), (8, .c (.int .i64 (.ofNat 0)))]
def f21M5 : List (Nat × AO) := [(5054, .cells 2 [.int .i64 (.ofNat 38), .int .i64 (.ofNat 41)] false), (3609, .cells 8 [.int .i64 (.ofNat 1), .int .i64 (.ofNat 2), .int .i64 (.ofNat 45), .int .i64 (.ofNat 60), .int .i64 (.ofNat 5), .int .i64 (.ofNat 5), .int .i64 (.ofNat 33), .int .i64 (.ofNat 36)] true)]
def f21C6 : Code := seqR f21C5
def f21L6 : List (Nat × V) := [(0, .c (.bool false)), (1, .c (.sl 3609 0 1 8 none)), (2, .c (.int .i64 (.ofNat 0))), (3, .c (.ptr 5054 0)), (4, .c (.int .i64 (.ofNat 0))), (5, .c (.int .i64 (.ofNat 3))), (6, .c (.int .i64 (.ofNat 0))), (7, .c (.int .i64 (.ofNat 2))), (8, .c (.int .i64 (.ofNat 0))), (9, .c (.sl 9625 0 5 1 none)), (10, .c (.int .i64 (.ofNat 0)))]
def f21M6 : List (Nat × AO) := [(9625, .cells 5 [.int .i64 (.ofNat 2), .int .i64 (.ofNat 3), .int .i64 (.ofNat 4), .int .i64 (.ofNat 5), .int .i64 (.ofNat 6)] true), (5054, .cells 2 [.int .i64 (.ofNat 38), .int .i64 (.ofNat 41)] false), (3609, .cells 8 [.int .i64 (.ofNat 1), .int .i64 (.ofNat 2), .int .i64 (.ofNat 45), .int .i64 (.ofNat 60), .int .i64 (.ofNat 5), .int .i64 (.ofNat 5), .int .i64 (.ofNat 33), .int .i64 (.ofNat 36)] true)]
def f21C7 : Code := seqR f21C6
def f21L7 : List (Nat × V) := [(0, .c (.bool false)), (1, .c (.sl 3609 0 1 8 none)), (2, .c (.int .i64 (.ofNat 0))), (3, .c (.ptr 5054 0)), (4, .c (.int .i64 (.ofNat 0))), (5, .c (.int .i64 (.ofNat 3))), (6, .c (.int .i64 (.ofNat 0))), (7, .c (.int .i64 (.ofNat 2))), (8, .c (.int .i64 (.ofNat 0))), (9, .c (.sl 9625 0 5 1 none)), (10, .c (.int .i64 (.ofNat 0))), (11, .c (.int .i64 (.ofNat 1))), (12, .c (.int .i64 (.ofNat 0)))]
def f21M7 : List (Nat × AO) := [(9625, .cells 5 [.int .i64 (.ofNat 2), .int .i64 (.ofNat 3), .int .i64 (.ofNat 4), .int .i64 (.ofNat 5), .int .i64 (.ofNat 6)] true), (5054, .cells 2 [.int .i64 (.ofNat 38), .int .i64 (.ofNat 41)] false), (3609, .cells 8 [.int .i64 (.ofNat 1), .int .i64 (.ofNat 2), .int .i64 (.ofNat 45), .int .i64 (.ofNat 60), .int .i64 (.ofNat 5), .int .i64 (.ofNat 5), .int .i64 (.ofNat 33), .int .i64 (.ofNat 36)] true)]
def f21C8 : Code := seqR f21C7
def f21L8 : List (Nat × V) := [(0, .c (.bool false)), (1, .c (.sl 3609 0 1 8 none)), (2, .c (.int .i64 (.ofNat 0))), (3, .c (.ptr 5054 0)), (4, .c (.int .i64 (.ofNat 0))), (5, .c (.int .i64 (.ofNat 3))), (6, .c (.int .i64 (.ofNat 0))), (7, .c (.int .i64 (.ofNat 2))), (8, .c (.int .i64 (.ofNat 0))), (9, .c (.sl 9625 0 5 1 none)), (10, .c (.int .i64 (.ofNat 0))), (11, .c (.int .i64 (.ofNat 1))), (12, .c (.int .i64 (.ofNat 0))), (13, .c (.sl 12198 0 1 1 none)), (14, .c (.int .i64 (.ofNat 0)))]
def f21M8 : List (Nat × AO) := [(12198, .cells 1 [.int .i64 (.ofNat 0)] true), (9625, .cells 5 [.int .i64 (.ofNat 2), .int .i64 (.ofNat 3), .int .i64 (.ofNat 4), .int .i64 (.ofNat 5), .int .i64 (.ofNat 6)] true), (5054, .cells 2 [.int .i64 (.ofNat 38), .int .i64 (.ofNat 41)] false), (3609, .cells 8 [.int .i64 (.ofNat 1), .int .i64 (.ofNat 2), .int .i64 (.ofNat 45), .int .i64 (.ofNat 60), .int .i64 (.ofNat 5), .int .i64 (.ofNat 5), .int .i64 (.ofNat 33), .int .i64 (.ofNat 36)] true)]
def f21C9 : Code := seqR f21C8
def f21L9 : List (Nat × V) := [(0, .c (.bool true))]
def f21M9 : List (Nat × AO) := []
theorem f21Q0 : isSeq f21C0 = true := by kernel_rfl
theorem f21A0 : Go.Abs.covers f21L1 0 f21M1 (codeA Go.Proofs.Try.prog f21R (seqL f21C0) (tmOf f21L0) (hpOf 0 f21M0)) = true := by kernel_rfl
theorem f21Q1 : isSeq f21C1 = true := by kernel_rfl
theorem f21A1 : Go.Abs.covers f21L2 3610 f21M2 (codeA Go.Proofs.Try.prog f21R (seqL f21C1) (tmOf f21L1) (hpOf 0 f21M1)) = true := by kernel_rfl
theorem f21Q2 : isSeq f21C2 = true := by kernel_rfl
theorem f21A2 : Go.Abs.covers f21L3 5055 f21M3 (codeA Go.Proofs.Try.prog f21R (seqL f21C2) (tmOf f21L2) (hpOf 3610 f21M2)) = true := by kernel_rfl
theorem f21Q3 : isSeq f21C3 = true := by kernel_rfl
theorem f21A3 : Go.Abs.covers f21L4 6485 f21M4 (codeA Go.Proofs.Try.prog f21R (seqL f21C3) (tmOf f21L3) (hpOf 5055 f21M3)) = true := by kernel_rfl
theorem f21Q4 : isSeq f21C4 = true := by kernel_rfl
theorem f21A4 : Go.Abs.covers f21L5 7931 f21M5 (codeA Go.Proofs.Try.prog f21R (seqL f21C4) (tmOf f21L4) (hpOf 6485 f21M4)) = true := by kernel_rfl
theorem f21Q5 : isSeq f21C5 = true := by kernel_rfl
theorem f21A5 : Go.Abs.covers f21L6 9626 f21M6 (codeA Go.Proofs.Try.prog f21R (seqL f21C5) (tmOf f21L5) (hpOf 7931 f21M5)) = true := by kernel_rfl
theorem f21Q6 : isSeq f21C6 = true := by kernel_rfl
theorem f21A6 : Go.Abs.covers f21L7 11026 f21M7 (codeA Go.Proofs.Try.prog f21R (seqL f21C6) (tmOf f21L6) (hpOf 9626 f21M6)) = true := by kernel_rfl
theorem f21Q7 : isSeq f21C7 = true := by kernel_rfl
theorem f21A7 : Go.Abs.covers f21L8 12199 f21M8 (codeA Go.Proofs.Try.prog f21R (seqL f21C7) (tmOf f21L7) (hpOf 11026 f21M7)) = true := by kernel_rfl
theorem f21Q8 : isSeq f21C8 = true := by kernel_rfl
theorem f21A8 : Go.Abs.covers f21L9 12269 f21M9 (codeA Go.Proofs.Try.prog f21R (seqL f21C8) (tmOf f21L8) (hpOf 12199 f21M8)) = true := by kernel_rfl
theorem f21E : Go.Abs.endsIn (.c (.bool true)) (Go.Abs.bind (codeA Go.Proofs.Try.prog f21R f21C9 (tmOf f21L9) (hpOf 12269 f21M9)) (finishCall Go.Proofs.Try.prog f21F)) = true := by kernel_rfl
theorem f21G9 (hso : slotsOk f21F.ntmps f21C9 = true) : Go.Abs.Good Go.Proofs.Try.prog f21F (.c (.bool true)) f21C9 (tmOf f21L9) (hpOf 12269 f21M9) := good_end fits f21S hso f21E
theorem f21G8 (hso : slotsOk f21F.ntmps f21C8 = true) : Go.Abs.Good Go.Proofs.Try.prog f21F (.c (.bool true)) f21C8 (tmOf f21L8) (hpOf 12199 f21M8) := good_piece fits f21S f21Q8 hso f21A8 f21G9
theorem f21G7 (hso : slotsOk f21F.ntmps f21C7 = true) : Go.Abs.Good Go.Proofs.Try.prog f21F (.c (.bool true)) f21C7 (tmOf f21L7) (hpOf 11026 f21M7) := good_piece fits f21S f21Q7 hso f21A7 f21G8
theorem f21G6 (hso : slotsOk f21F.ntmps f21C6 = true) : Go.Abs.Good Go.Proofs.Try.prog f21F (.c (.bool true)) f21C6 (tmOf f21L6) (hpOf 9626 f21M6) := good_piece fits f21S f21Q6 hso f21A6 f21G7
theorem f21G5 (hso : slotsOk f21F.ntmps f21C5 = true) : Go.Abs.Good Go.Proofs.Try.prog f21F (.c (.bool true)) f21C5 (tmOf f21L5) (hpOf 7931 f21M5) := good_piece fits f21S f21Q5 hso f21A5 f21G6
theorem f21G4 (hso : slotsOk f21F.ntmps f21C4 = true) : Go.Abs.Good Go.Proofs.Try.prog f21F (.c (.bool true)) f21C4 (tmOf f21L4) (hpOf 6485 f21M4) := good_piece fits f21S f21Q4 hso f21A4 f21G5
theorem f21G3 (hso : slotsOk f21F.ntmps f21C3 = true) : Go.Abs.Good Go.Proofs.Try.prog f21F (.c (.bool true)) f21C3 (tmOf f21L3) (hpOf 5055 f21M3) := good_piece fits f21S f21Q3 hso f21A3 f21G4
theorem f21G2 (hso : slotsOk f21F.ntmps f21C2 = true) : Go.Abs.Good Go.Proofs.Try.prog f21F (.c (.bool true)) f21C2 (tmOf f21L2) (hpOf 3610 f21M2) := good_piece fits f21S f21Q2 hso f21A2 f21G3
theorem f21G1 (hso : slotsOk f21F.ntmps f21C1 = true) : Go.Abs.Good Go.Proofs.Try.prog f21F (.c (.bool true)) f21C1 (tmOf f21L1) (hpOf 0 f21M1) := good_piece fits f21S f21Q1 hso f21A1 f21G2
theorem f21G0 (hso : slotsOk f21F.ntmps f21C0 = true) : Go.Abs.Good Go.Proofs.Try.prog f21F (.c (.bool true)) f21C0 (tmOf f21L0) (hpOf 0 f21M0) := good_piece fits f21S f21Q0 hso f21A0 f21G1
theorem f21Closed : Closed Go.Proofs.Try.prog 21 true := closed_of f21K (f21G0 (okAt_eq f21K).2.2.1)

def tbl : List (Nat × Bool) := [(21, true)]
theorem htab : TabOk Go.Proofs.Try.prog tbl := fun x (hx : x ∈ [((21 : Nat), true)]) => by
  rcases List.mem_cons.1 hx with rfl | hx
  · exact ⟨f21K, f21Closed⟩
  · cases hx

end
end Go.Proofs.Ytmlaphekbnanjaa

