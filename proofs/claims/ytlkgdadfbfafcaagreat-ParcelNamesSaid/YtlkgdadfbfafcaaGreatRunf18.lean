/- Function 18, run in pieces: it returns true. Condition: none; a lemma text of this claim. -/
import Derived.Test.YtlkgdadfbfafcaaGreatFits
namespace Go.Proofs.YtlkgdadfbfafcaaGreat
open Go.Abs
noncomputable section
/-! ### function 18, piece by piece -/
def f18F : Func := fnAt Go.Proofs.Tryz.prog 18
def f18T : List (Nat × Bool) := []
def f18R : Rec := tab f18T (ev Go.Proofs.Tryz.prog 100000)
theorem f18S : Sound Go.Proofs.Tryz.prog f18R := tab_sound (fun _ hx => by cases hx) (ev_sound fits 100000)
theorem f18K : okAt Go.Proofs.Tryz.prog 18 = true := by kernel_rfl
def f18C0 : Code := bodyAt Go.Proofs.Tryz.prog 18
def f18L0 : List (Nat × V) := []
def f18M0 : List (Nat × AO) := []
def f18C1 : Code := seqR f18C0
def f18L1 : List (Nat × V) := [(0, .c (.bool false))]
def f18M1 : List (Nat × AO) := []
def f18C2 : Code := seqR f18C1
def f18L2 : List (Nat × V) := [(0, .c (.bool false)), (1, .c (.sl 795 0 2 1 none)), (2, .c (.int .i64 (.ofNat 0)))]
def f18M2 : List (Nat × AO) := [(795, .cells 2 [.int .i64 (.ofNat 0), .int .i64 (.ofNat 2)] true)]
def f18C3 : Code := seqR f18C2
def f18L3 : List (Nat × V) := [(0, .c (.bool false)), (1, .c (.sl 795 0 2 1 none)), (2, .c (.int .i64 (.ofNat 0))), (3, .c (.sl 1588 0 1 1 none)), (4, .c (.int .i64 (.ofNat 0)))]
def f18M3 : List (Nat × AO) := [(1588, .cells 1 [.int .i64 (.ofNat 1)] true), (795, .cells 2 [.int .i64 (.ofNat 0), .int .i64 (.ofNat 2)] true)]
def f18C4 : Code := seqR f18C3
def f18L4 : List (Nat × V) := [(0, .c (.bool false)), (1, .c (.sl 795 0 2 1 none)), (2, .c (.int .i64 (.ofNat 0))), (3, .c (.sl 1588 0 1 1 none)), (4, .c (.int .i64 (.ofNat 0))), (5, .c (.int .i64 (.ofNat 3))), (6, .c (.int .i64 (.ofNat 0)))]
def f18M4 : List (Nat × AO) := [(1588, .cells 1 [.int .i64 (.ofNat 1)] true), (795, .cells 2 [.int .i64 (.ofNat 0), .int .i64 (.ofNat 2)] true)]
def f18C5 : Code := seqR f18C4
def f18L5 : List (Nat × V) := [(0, .c (.bool false)), (1, .c (.sl 795 0 2 1 none)), (2, .c (.int .i64 (.ofNat 0))), (3, .c (.sl 1588 0 1 1 none)), (4, .c (.int .i64 (.ofNat 0))), (5, .c (.int .i64 (.ofNat 3))), (6, .c (.int .i64 (.ofNat 0))), (7, .c (.ptr 3276 0)), (8, .c (.int .i64 (.ofNat 0)))]
def f18M5 : List (Nat × AO) := [(3276, .cells 2 [.int .i64 (.ofNat 0), .int .i64 (.ofNat 100)] false), (1588, .cells 1 [.int .i64 (.ofNat 1)] true), (795, .cells 2 [.int .i64 (.ofNat 0), .int .i64 (.ofNat 2)] true)]
def f18C6 : Code := seqR f18C5
def f18L6 : List (Nat × V) := [(0, .c (.bool false)), (1, .c (.sl 795 0 2 1 none)), (2, .c (.int .i64 (.ofNat 0))), (3, .c (.sl 1588 0 1 1 none)), (4, .c (.int .i64 (.ofNat 0))), (5, .c (.int .i64 (.ofNat 3))), (6, .c (.int .i64 (.ofNat 0))), (7, .c (.ptr 3276 0)), (8, .c (.int .i64 (.ofNat 0))), (9, .c (.ptr 4093 0)), (10, .c (.int .i64 (.ofNat 0)))]
def f18M6 : List (Nat × AO) := [(4093, .cells 2 [.int .i64 (.ofNat 4), .int .i64 (.ofNat 6)] false), (3276, .cells 2 [.int .i64 (.ofNat 0), .int .i64 (.ofNat 100)] false), (1588, .cells 1 [.int .i64 (.ofNat 1)] true), (795, .cells 2 [.int .i64 (.ofNat 0), .int .i64 (.ofNat 2)] true)]
def f18C7 : Code := seqR f18C6
def f18L7 : List (Nat × V) := [(0, .c (.bool false)), (1, .c (.sl 795 0 2 1 none)), (2, .c (.int .i64 (.ofNat 0))), (3, .c (.sl 1588 0 1 1 none)), (4, .c (.int .i64 (.ofNat 0))), (5, .c (.int .i64 (.ofNat 3))), (6, .c (.int .i64 (.ofNat 0))), (7, .c (.ptr 3276 0)), (8, .c (.int .i64 (.ofNat 0))), (9, .c (.ptr 4093 0)), (10, .c (.int .i64 (.ofNat 0))), (11, .c (.int .i64 (.ofNat 4))), (12, .c (.int .i64 (.ofNat 0)))]
def f18M7 : List (Nat × AO) := [(4093, .cells 2 [.int .i64 (.ofNat 4), .int .i64 (.ofNat 6)] false), (3276, .cells 2 [.int .i64 (.ofNat 0), .int .i64 (.ofNat 100)] false), (1588, .cells 1 [.int .i64 (.ofNat 1)] true), (795, .cells 2 [.int .i64 (.ofNat 0), .int .i64 (.ofNat 2)] true)]
def f18C8 : Code := seqR f18C7
def f18L8 : List (Nat × V) := [(0, .c (.bool false)), (1, .c (.sl 795 0 2 1 none)), (2, .c (.int .i64 (.ofNat 0))), (3, .c (.sl 1588 0 1 1 none)), (4, .c (.int .i64 (.ofNat 0))), (5, .c (.int .i64 (.ofNat 3))), (6, .c (.int .i64 (.ofNat 0))), (7, .c (.ptr 3276 0)), (8, .c (.int .i64 (.ofNat 0))), (9, .c (.ptr 4093 0)), (10, .c (.int .i64 (.ofNat 0))), (11, .c (.int .i64 (.ofNat 4))), (12, .c (.int .i64 (.ofNat 0))), (13, .c (.sl 7588 0 1 1 none)), (14, .c (.int .i64 (.ofNat 0)))]
def f18M8 : List (Nat × AO) := [(7588, .cells 1 [.int .i64 (.ofNat 4)] true), (4093, .cells 2 [.int .i64 (.ofNat 4), .int .i64 (.ofNat 6)] false), (3276, .cells 2 [.int .i64 (.ofNat 0), .int .i64 (.ofNat 100)] false), (1588, .cells 1 [.int .i64 (.ofNat 1)] true), (795, .cells 2 [.int .i64 (.ofNat 0), .int .i64 (.ofNat 2)] true)]
def f18C9 : Code := seqR f18C8
def f18L9 : List (Nat × V) := [(0, .c (.bool true))]
def f18M9 : List (Nat × AO) := []
theorem f18Q0 : isSeq f18C0 = true := by kernel_rfl
theorem f18A0 : Go.Abs.covers f18L1 0 f18M1 (codeA Go.Proofs.Tryz.prog f18R (seqL f18C0) (tmOf f18L0) (hpOf 0 f18M0)) = true := by kernel_rfl
theorem f18Q1 : isSeq f18C1 = true := by kernel_rfl
theorem f18A1 : Go.Abs.covers f18L2 796 f18M2 (codeA Go.Proofs.Tryz.prog f18R (seqL f18C1) (tmOf f18L1) (hpOf 0 f18M1)) = true := by kernel_rfl
theorem f18Q2 : isSeq f18C2 = true := by kernel_rfl
theorem f18A2 : Go.Abs.covers f18L3 1589 f18M3 (codeA Go.Proofs.Tryz.prog f18R (seqL f18C2) (tmOf f18L2) (hpOf 796 f18M2)) = true := by kernel_rfl
theorem f18Q3 : isSeq f18C3 = true := by kernel_rfl
theorem f18A3 : Go.Abs.covers f18L4 2379 f18M4 (codeA Go.Proofs.Tryz.prog f18R (seqL f18C3) (tmOf f18L3) (hpOf 1589 f18M3)) = true := by kernel_rfl
theorem f18Q4 : isSeq f18C4 = true := by kernel_rfl
theorem f18A4 : Go.Abs.covers f18L5 3277 f18M5 (codeA Go.Proofs.Tryz.prog f18R (seqL f18C4) (tmOf f18L4) (hpOf 2379 f18M4)) = true := by kernel_rfl
theorem f18Q5 : isSeq f18C5 = true := by kernel_rfl
theorem f18A5 : Go.Abs.covers f18L6 4094 f18M6 (codeA Go.Proofs.Tryz.prog f18R (seqL f18C5) (tmOf f18L5) (hpOf 3277 f18M5)) = true := by kernel_rfl
theorem f18Q6 : isSeq f18C6 = true := by kernel_rfl
theorem f18A6 : Go.Abs.covers f18L7 5160 f18M7 (codeA Go.Proofs.Tryz.prog f18R (seqL f18C6) (tmOf f18L6) (hpOf 4094 f18M6)) = true := by kernel_rfl
theorem f18Q7 : isSeq f18C7 = true := by kernel_rfl
theorem f18A7 : Go.Abs.covers f18L8 7589 f18M8 (codeA Go.Proofs.Tryz.prog f18R (seqL f18C7) (tmOf f18L7) (hpOf 5160 f18M7)) = true := by kernel_rfl
theorem f18Q8 : isSeq f18C8 = true := by kernel_rfl
theorem f18A8 : Go.Abs.covers f18L9 7594 f18M9 (codeA Go.Proofs.Tryz.prog f18R (seqL f18C8) (tmOf f18L8) (hpOf 7589 f18M8)) = true := by kernel_rfl
theorem f18E : Go.Abs.endsIn (.c (.bool true)) (Go.Abs.bind (codeA Go.Proofs.Tryz.prog f18R f18C9 (tmOf f18L9) (hpOf 7594 f18M9)) (finishCall Go.Proofs.Tryz.prog f18F)) = true := by kernel_rfl
theorem f18G9 (hso : slotsOk f18F.ntmps f18C9 = true) : Go.Abs.Good Go.Proofs.Tryz.prog f18F (.c (.bool true)) f18C9 (tmOf f18L9) (hpOf 7594 f18M9) := good_end fits f18S hso f18E
theorem f18G8 (hso : slotsOk f18F.ntmps f18C8 = true) : Go.Abs.Good Go.Proofs.Tryz.prog f18F (.c (.bool true)) f18C8 (tmOf f18L8) (hpOf 7589 f18M8) := good_piece fits f18S f18Q8 hso f18A8 f18G9
theorem f18G7 (hso : slotsOk f18F.ntmps f18C7 = true) : Go.Abs.Good Go.Proofs.Tryz.prog f18F (.c (.bool true)) f18C7 (tmOf f18L7) (hpOf 5160 f18M7) := good_piece fits f18S f18Q7 hso f18A7 f18G8
theorem f18G6 (hso : slotsOk f18F.ntmps f18C6 = true) : Go.Abs.Good Go.Proofs.Tryz.prog f18F (.c (.bool true)) f18C6 (tmOf f18L6) (hpOf 4094 f18M6) := good_piece fits f18S f18Q6 hso f18A6 f18G7
theorem f18G5 (hso : slotsOk f18F.ntmps f18C5 = true) : Go.Abs.Good Go.Proofs.Tryz.prog f18F (.c (.bool true)) f18C5 (tmOf f18L5) (hpOf 3277 f18M5) := good_piece fits f18S f18Q5 hso f18A5 f18G6
theorem f18G4 (hso : slotsOk f18F.ntmps f18C4 = true) : Go.Abs.Good Go.Proofs.Tryz.prog f18F (.c (.bool true)) f18C4 (tmOf f18L4) (hpOf 2379 f18M4) := good_piece fits f18S f18Q4 hso f18A4 f18G5
theorem f18G3 (hso : slotsOk f18F.ntmps f18C3 = true) : Go.Abs.Good Go.Proofs.Tryz.prog f18F (.c (.bool true)) f18C3 (tmOf f18L3) (hpOf 1589 f18M3) := good_piece fits f18S f18Q3 hso f18A3 f18G4
theorem f18G2 (hso : slotsOk f18F.ntmps f18C2 = true) : Go.Abs.Good Go.Proofs.Tryz.prog f18F (.c (.bool true)) f18C2 (tmOf f18L2) (hpOf 796 f18M2) := good_piece fits f18S f18Q2 hso f18A2 f18G3
theorem f18G1 (hso : slotsOk f18F.ntmps f18C1 = true) : Go.Abs.Good Go.Proofs.Tryz.prog f18F (.c (.bool true)) f18C1 (tmOf f18L1) (hpOf 0 f18M1) := good_piece fits f18S f18Q1 hso f18A1 f18G2
theorem f18G0 (hso : slotsOk f18F.ntmps f18C0 = true) : Go.Abs.Good Go.Proofs.Tryz.prog f18F (.c (.bool true)) f18C0 (tmOf f18L0) (hpOf 0 f18M0) := good_piece fits f18S f18Q0 hso f18A0 f18G1
theorem f18Closed : Closed Go.Proofs.Tryz.prog 18 true := closed_of f18K (f18G0 (okAt_eq f18K).2.2.1)

end
end Go.Proofs.YtlkgdadfbfafcaaGreat
