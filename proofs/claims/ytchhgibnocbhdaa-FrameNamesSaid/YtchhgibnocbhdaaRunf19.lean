/- Function 19, run in pieces: it returns true. Condition: none; a lemma text of this claim. -/
import Derived.Test.YtchhgibnocbhdaaFits
namespace Go.Proofs.Ytchhgibnocbhdaa
open Go.Abs
noncomputable section
/-! ### function 19, piece by piece -/
def f19F : Func := fnAt Go.Proofs.Try.prog 19
def f19T : List (Nat × Bool) := []
def f19R : Rec := tab f19T (ev Go.Proofs.Try.prog 100000)
theorem f19S : Sound Go.Proofs.Try.prog f19R := tab_sound (fun _ hx => by cases hx) (ev_sound fits 100000)
theorem f19K : okAt Go.Proofs.Try.prog 19 = true := by kernel_rfl
def f19C0 : Code := bodyAt Go.Proofs.Try.prog 19
def f19L0 : List (Nat × V) := []
def f19M0 : List (Nat × AO) := []
def f19C1 : Code := seqR f19C0
def f19L1 : List (Nat × V) := [(0, .c (.bool false))]
def f19M1 : List (Nat × AO) := []
def f19C2 : Code := seqR f19C1
def f19L2 : List (Nat × V) := [(0, .c (.bool false)), (1, .c (.sl 37 0 3 1 none)), (2, .c (.int .i64 (.ofNat 0)))]
def f19M2 : List (Nat × AO) := [(37, .cells 3 [.int .i64 (.ofNat 2), .int .i64 (.ofNat 3), .int .i64 (.ofNat 0)] true)]
def f19C3 : Code := seqR f19C2
def f19L3 : List (Nat × V) := [(0, .c (.bool false)), (1, .c (.sl 37 0 3 1 none)), (2, .c (.int .i64 (.ofNat 0))), (3, .c (.int .i64 (.ofNat 62))), (4, .c (.int .i64 (.ofNat 0)))]
def f19M3 : List (Nat × AO) := [(37, .cells 3 [.int .i64 (.ofNat 2), .int .i64 (.ofNat 3), .int .i64 (.ofNat 0)] true)]
def f19C4 : Code := seqR f19C3
def f19L4 : List (Nat × V) := [(0, .c (.bool false)), (1, .c (.sl 37 0 3 1 none)), (2, .c (.int .i64 (.ofNat 0))), (3, .c (.int .i64 (.ofNat 62))), (4, .c (.int .i64 (.ofNat 0))), (5, .c (.ptr 1005 0)), (6, .c (.int .i64 (.ofNat 0)))]
def f19M4 : List (Nat × AO) := [(1005, .cells 2 [.int .i64 (.ofNat 37), .int .i64 (.ofNat 75)] false), (37, .cells 3 [.int .i64 (.ofNat 2), .int .i64 (.ofNat 3), .int .i64 (.ofNat 0)] true)]
def f19C5 : Code := seqR f19C4
def f19L5 : List (Nat × V) := [(0, .c (.bool false)), (1, .c (.sl 37 0 3 1 none)), (2, .c (.int .i64 (.ofNat 0))), (3, .c (.int .i64 (.ofNat 62))), (4, .c (.int .i64 (.ofNat 0))), (5, .c (.ptr 1005 0)), (6, .c (.int .i64 (.ofNat 0))), (7, .c (.int .i64 (.ofNat 3))), (8, .c (.int .i64 (.ofNat 0)))]
def f19M5 : List (Nat × AO) := [(1005, .cells 2 [.int .i64 (.ofNat 37), .int .i64 (.ofNat 75)] false), (37, .cells 3 [.int .i64 (.ofNat 2), .int .i64 (.ofNat 3), .int .i64 (.ofNat 0)] true)]
def f19C6 : Code := seqR f19C5
def f19L6 : List (Nat × V) := [(0, .c (.bool false)), (1, .c (.sl 37 0 3 1 none)), (2, .c (.int .i64 (.ofNat 0))), (3, .c (.int .i64 (.ofNat 62))), (4, .c (.int .i64 (.ofNat 0))), (5, .c (.ptr 1005 0)), (6, .c (.int .i64 (.ofNat 0))), (7, .c (.int .i64 (.ofNat 3))), (8, .c (.int .i64 (.ofNat 0))), (9, .c (.sl 3668 0 2 1 none)), (10, .c (.int .i64 (.ofNat 0)))]
def f19M6 : List (Nat × AO) := [(3668, .cells 2 [.int .i64 (.ofNat 2), .int .i64 (.ofNat 3)] true), (1005, .cells 2 [.int .i64 (.ofNat 37), .int .i64 (.ofNat 75)] false), (37, .cells 3 [.int .i64 (.ofNat 2), .int .i64 (.ofNat 3), .int .i64 (.ofNat 0)] true)]
def f19C7 : Code := seqR f19C6
def f19L7 : List (Nat × V) := [(0, .c (.bool false)), (1, .c (.sl 37 0 3 1 none)), (2, .c (.int .i64 (.ofNat 0))), (3, .c (.int .i64 (.ofNat 62))), (4, .c (.int .i64 (.ofNat 0))), (5, .c (.ptr 1005 0)), (6, .c (.int .i64 (.ofNat 0))), (7, .c (.int .i64 (.ofNat 3))), (8, .c (.int .i64 (.ofNat 0))), (9, .c (.sl 3668 0 2 1 none)), (10, .c (.int .i64 (.ofNat 0))), (11, .c (.sl 3923 0 1 1 none)), (12, .c (.int .i64 (.ofNat 0)))]
def f19M7 : List (Nat × AO) := [(3923, .cells 1 [.int .i64 (.ofNat 0)] true), (3668, .cells 2 [.int .i64 (.ofNat 2), .int .i64 (.ofNat 3)] true), (1005, .cells 2 [.int .i64 (.ofNat 37), .int .i64 (.ofNat 75)] false), (37, .cells 3 [.int .i64 (.ofNat 2), .int .i64 (.ofNat 3), .int .i64 (.ofNat 0)] true)]
def f19C8 : Code := seqR f19C7
def f19L8 : List (Nat × V) := [(0, .c (.bool true))]
def f19M8 : List (Nat × AO) := []
theorem f19Q0 : isSeq f19C0 = true := by kernel_rfl
theorem f19A0 : Go.Abs.covers f19L1 0 f19M1 (codeA Go.Proofs.Try.prog f19R (seqL f19C0) (tmOf f19L0) (hpOf 0 f19M0)) = true := by kernel_rfl
theorem f19Q1 : isSeq f19C1 = true := by kernel_rfl
theorem f19A1 : Go.Abs.covers f19L2 38 f19M2 (codeA Go.Proofs.Try.prog f19R (seqL f19C1) (tmOf f19L1) (hpOf 0 f19M1)) = true := by kernel_rfl
theorem f19Q2 : isSeq f19C2 = true := by kernel_rfl
theorem f19A2 : Go.Abs.covers f19L3 84 f19M3 (codeA Go.Proofs.Try.prog f19R (seqL f19C2) (tmOf f19L2) (hpOf 38 f19M2)) = true := by kernel_rfl
theorem f19Q3 : isSeq f19C3 = true := by kernel_rfl
theorem f19A3 : Go.Abs.covers f19L4 1006 f19M4 (codeA Go.Proofs.Try.prog f19R (seqL f19C3) (tmOf f19L3) (hpOf 84 f19M3)) = true := by kernel_rfl
theorem f19Q4 : isSeq f19C4 = true := by kernel_rfl
theorem f19A4 : Go.Abs.covers f19L5 1962 f19M5 (codeA Go.Proofs.Try.prog f19R (seqL f19C4) (tmOf f19L4) (hpOf 1006 f19M4)) = true := by kernel_rfl
theorem f19Q5 : isSeq f19C5 = true := by kernel_rfl
theorem f19A5 : Go.Abs.covers f19L6 3669 f19M6 (codeA Go.Proofs.Try.prog f19R (seqL f19C5) (tmOf f19L5) (hpOf 1962 f19M5)) = true := by kernel_rfl
theorem f19Q6 : isSeq f19C6 = true := by kernel_rfl
theorem f19A6 : Go.Abs.covers f19L7 3924 f19M7 (codeA Go.Proofs.Try.prog f19R (seqL f19C6) (tmOf f19L6) (hpOf 3669 f19M6)) = true := by kernel_rfl
theorem f19Q7 : isSeq f19C7 = true := by kernel_rfl
theorem f19A7 : Go.Abs.covers f19L8 3928 f19M8 (codeA Go.Proofs.Try.prog f19R (seqL f19C7) (tmOf f19L7) (hpOf 3924 f19M7)) = true := by kernel_rfl
theorem f19E : Go.Abs.endsIn (.c (.bool true)) (Go.Abs.bind (codeA Go.Proofs.Try.prog f19R f19C8 (tmOf f19L8) (hpOf 3928 f19M8)) (finishCall Go.Proofs.Try.prog f19F)) = true := by kernel_rfl
theorem f19G8 (hso : slotsOk f19F.ntmps f19C8 = true) : Go.Abs.Good Go.Proofs.Try.prog f19F (.c (.bool true)) f19C8 (tmOf f19L8) (hpOf 3928 f19M8) := good_end fits f19S hso f19E
theorem f19G7 (hso : slotsOk f19F.ntmps f19C7 = true) : Go.Abs.Good Go.Proofs.Try.prog f19F (.c (.bool true)) f19C7 (tmOf f19L7) (hpOf 3924 f19M7) := good_piece fits f19S f19Q7 hso f19A7 f19G8
theorem f19G6 (hso : slotsOk f19F.ntmps f19C6 = true) : Go.Abs.Good Go.Proofs.Try.prog f19F (.c (.bool true)) f19C6 (tmOf f19L6) (hpOf 3669 f19M6) := good_piece fits f19S f19Q6 hso f19A6 f19G7
theorem f19G5 (hso : slotsOk f19F.ntmps f19C5 = true) : Go.Abs.Good Go.Proofs.Try.prog f19F (.c (.bool true)) f19C5 (tmOf f19L5) (hpOf 1962 f19M5) := good_piece fits f19S f19Q5 hso f19A5 f19G6
theorem f19G4 (hso : slotsOk f19F.ntmps f19C4 = true) : Go.Abs.Good Go.Proofs.Try.prog f19F (.c (.bool true)) f19C4 (tmOf f19L4) (hpOf 1006 f19M4) := good_piece fits f19S f19Q4 hso f19A4 f19G5
theorem f19G3 (hso : slotsOk f19F.ntmps f19C3 = true) : Go.Abs.Good Go.Proofs.Try.prog f19F (.c (.bool true)) f19C3 (tmOf f19L3) (hpOf 84 f19M3) := good_piece fits f19S f19Q3 hso f19A3 f19G4
theorem f19G2 (hso : slotsOk f19F.ntmps f19C2 = true) : Go.Abs.Good Go.Proofs.Try.prog f19F (.c (.bool true)) f19C2 (tmOf f19L2) (hpOf 38 f19M2) := good_piece fits f19S f19Q2 hso f19A2 f19G3
theorem f19G1 (hso : slotsOk f19F.ntmps f19C1 = true) : Go.Abs.Good Go.Proofs.Try.prog f19F (.c (.bool true)) f19C1 (tmOf f19L1) (hpOf 0 f19M1) := good_piece fits f19S f19Q1 hso f19A1 f19G2
theorem f19G0 (hso : slotsOk f19F.ntmps f19C0 = true) : Go.Abs.Good Go.Proofs.Try.prog f19F (.c (.bool true)) f19C0 (tmOf f19L0) (hpOf 0 f19M0) := good_piece fits f19S f19Q0 hso f19A0 f19G1
theorem f19Closed : Closed Go.Proofs.Try.prog 19 true := closed_of f19K (f19G0 (okAt_eq f19K).2.2.1)

end
end Go.Proofs.Ytchhgibnocbhdaa
