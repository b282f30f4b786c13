/- What the evaluator asks of a program, of this one; and function 17, run in pieces: it returns true. Condition: none; a lemma text of this claim. -/
import Derived.Test.YtbnfnhfanooplaaSuC
import Derived.Test.YtbnfnhfanooplaaProg
import Derived.KernelRfl
namespace Go.Proofs.Ytbnfnhfanooplaa
theorem fits : Go.Abs.Fits Go.Proofs.Try.prog := ⟨by decide +kernel, by kernel_rfl⟩
abbrev Il (n : Int) : Go.Abs.C := .int .i64 n
open Go.Abs
noncomputable section

/-! ### function 17, piece by piece -/
def f17F : Func := fnAt Go.Proofs.Try.prog 17
def f17T : List (Nat × Bool) := []
def f17R : Rec := tab f17T (ev Go.Proofs.Try.prog 100000)
theorem f17S : Sound Go.Proofs.Try.prog f17R := tab_sound (fun _ hx => by cases hx) (ev_sound fits 100000)
theorem f17K : okAt Go.Proofs.Try.prog 17 = true := by kernel_rfl
def f17C0 : Code := bodyAt Go.Proofs.Try.prog 17
def f17L0 : List (Nat × V) := []
def f17M0 : List (Nat × AO) := []
def f17C1 : Code := seqR f17C0
def f17L1 : List (Nat × V) := [(0, .c (.bool false))]
def f17M1 : List (Nat × AO) := []
def f17C2 : Code := seqR f17C1
def f17L2 : List (Nat × V) := [(0, .c (.bool false)), (1, .c (.ptr 3524 0)), (2, .c (.int .i64 (.ofNat 0)))]
def f17M2 : List (Nat × AO) := [(3524, .cells 12 [.int .i64 (.ofNat 5), .int .i64 (.ofNat 5), .int .i64 (.ofNat 1), .int .i64 (.ofNat 1), .int .i64 (.ofNat 1), .int .i64 (.ofNat 2), .int .i64 (.ofNat 2), .int .i64 (.ofNat 1), .int .i64 (.ofNat 1), .int .i64 (.ofNat 3), .int .i64 (.ofNat 3), .sl 3523 0 3 7 none] false), (3523, .cells 21 [.int .i64 (.ofNat 0), .int .i64 (.ofNat 0), .int .i64 (.ofNat 1), .int .i64 (.ofNat 1), .bool true, .int .i64 (.ofNat 3), .int .i64 (.ofNat 3), .int .i64 (.ofNat 4), .int .i64 (.ofNat 4), .int .i64 (.ofNat 3), .int .i64 (.ofNat 3), .bool true, .int .i64 (.ofNat 2), .int .i64 (.ofNat 3), .int .i64 (.ofNat 2), .int .i64 (.ofNat 2), .int .i64 (.ofNat 3), .int .i64 (.ofNat 3), .bool false, .int .i64 (.ofNat 0), .int .i64 (.ofNat 0)] true)]
def f17C3 : Code := seqR f17C2
def f17L3 : List (Nat × V) := [(0, .c (.bool false)), (1, .c (.ptr 3524 0)), (2, .c (.int .i64 (.ofNat 0))), (3, .c (.int .i64 (.ofNat 1))), (4, .c (.int .i64 (.ofNat 0)))]
def f17M3 : List (Nat × AO) := [(3524, .cells 12 [.int .i64 (.ofNat 5), .int .i64 (.ofNat 5), .int .i64 (.ofNat 1), .int .i64 (.ofNat 1), .int .i64 (.ofNat 1), .int .i64 (.ofNat 2), .int .i64 (.ofNat 2), .int .i64 (.ofNat 1), .int .i64 (.ofNat 1), .int .i64 (.ofNat 3), .int .i64 (.ofNat 3), .sl 3523 0 3 7 none] false), (3523, .cells 21 [.int .i64 (.ofNat 0), .int .i64 (.ofNat 0), .int .i64 (.ofNat 1), .int .i64 (.ofNat 1), .bool true, .int .i64 (.ofNat 3), .int .i64 (.ofNat 3), .int .i64 (.ofNat 4), .int .i64 (.ofNat 4), .int .i64 (.ofNat 3), .int .i64 (.ofNat 3), .bool true, .int .i64 (.ofNat 2), .int .i64 (.ofNat 3), .int .i64 (.ofNat 2), .int .i64 (.ofNat 2), .int .i64 (.ofNat 3), .int .i64 (.ofNat 3), .bool false, .int .i64 (.ofNat 0), .int .i64 (.ofNat 0)] true)]
def f17C4 : Code := seqR f17C3
def f17L4 : List (Nat × V) := [(0, .c (.bool false)), (1, .c (.ptr 3524 0)), (2, .c (.int .i64 (.ofNat 0))), (3, .c (.int .i64 (.ofNat 1))), (4, .c (.int .i64 (.ofNat 0))), (5, .c (.int .i64 (.ofNat 2))), (6, .c (.int .i64 (.ofNat 0)))]
def f17M4 : List (Nat × AO) := [(3524, .cells 12 [.int .i64 (.ofNat 5), .int .i64 (.ofNat 5), .int .i64 (.ofNat 1), .int .i64 (.ofNat 1), .int .i64 (.ofNat 1), .int .i64 (.ofNat 2), .int .i64 (.ofNat 2), .int .i64 (.ofNat 1), .int .i64 (.ofNat 1), .int .i64 (.ofNat 3), .int .i64 (.ofNat 3), .sl 3523 0 3 7 none] false), (3523, .cells 21 [.int .i64 (.ofNat 0), .int .i64 (.ofNat 0), .int .i64 (.ofNat 1), .int .i64 (.ofNat 1), .bool true, .int .i64 (.ofNat 3), .int .i64 (.ofNat 3), .int .i64 (.ofNat 4), .int .i64 (.ofNat 4), .int .i64 (.ofNat 3), .int .i64 (.ofNat 3), .bool true, .int .i64 (.ofNat 2), .int .i64 (.ofNat 3), .int .i64 (.ofNat 2), .int .i64 (.ofNat 2), .int .i64 (.ofNat 3), .int .i64 (.ofNat 3), .bool false, .int .i64 (.ofNat 0), .int .i64 (.ofNat 0)] true)]
def f17C5 : Code := seqR f17C4
def f17L5 : List (Nat × V) := [(0, .c (.bool false)), (1, .c (.ptr 3524 0)), (2, .c (.int .i64 (.ofNat 0))), (3, .c (.int .i64 (.ofNat 1))), (4, .c (.int .i64 (.ofNat 0))), (5, .c (.int .i64 (.ofNat 2))), (6, .c (.int .i64 (.ofNat 0))), (7, .c (.ptr 11918 0)), (8, .c (.int .i64 (.ofNat 0)))]
def f17M5 : List (Nat × AO) := [(11918, .cells 2 [.int .i64 (.ofNat 2), .int .i64 (.ofNat 2)] false), (3524, .cells 12 [.int .i64 (.ofNat 5), .int .i64 (.ofNat 5), .int .i64 (.ofNat 1), .int .i64 (.ofNat 1), .int .i64 (.ofNat 1), .int .i64 (.ofNat 2), .int .i64 (.ofNat 2), .int .i64 (.ofNat 1), .int .i64 (.ofNat 1), .int .i64 (.ofNat 3), .int .i64 (.ofNat 3), .sl 3523 0 3 7 none] false), (3523, .cells 21 [.int .i64 (.ofNat 0), .int .i64 (.ofNat 0), .int .i64 (.ofNat 1), .int .i64 (.ofNat 1), .bool true, .int .i64 (.ofNat 3), .int .i64 (.ofNat 3), .int .i64 (.ofNat 4), .int .i64 (.ofNat 4), .int .i64 (.ofNat 3), .int .i64 (.ofNat 3), .bool true, .int .i64 (.ofNat 2), .int .i64 (.ofNat 3), .int .i64 (.ofNat 2), .int .i64 (.ofNat 2), .int .i64 (.ofNat 3), .int .i64 (.ofNat 3), .bool false, .int .i64 (.ofNat 0), .int .i64 (.ofNat 0)] true)]
def f17C6 : Code := seqR f17C5
def f17L6 : List (Nat × V) := [(0, .c (.bool false)), (1, .c (.ptr 3524 0)), (2, .c (.int .i64 (.ofNat 0))), (3, .c (.int .i64 (.ofNat 1))), (4, .c (.int .i64 (.ofNat 0))), (5, .c (.int .i64 (.ofNat 2))), (6, .c (.int .i64 (.ofNat 0))), (7, .c (.ptr 11918 0)), (8, .c (.int .i64 (.ofNat 0))), (9, .c (.int .i64 (.ofNat 3))), (10, .c (.int .i64 (.ofNat 0)))]
def f17M6 : List (Nat × AO) := [(11918, .cells 2 [.int .i64 (.ofNat 2), .int .i64 (.ofNat 2)] false), (3524, .cells 12 [.int .i64 (.ofNat 5), .int .i64 (.ofNat 5), .int .i64 (.ofNat 1), .int .i64 (.ofNat 1), .int .i64 (.ofNat 1), .int .i64 (.ofNat 2), .int .i64 (.ofNat 2), .int .i64 (.ofNat 1), .int .i64 (.ofNat 1), .int .i64 (.ofNat 3), .int .i64 (.ofNat 3), .sl 3523 0 3 7 none] false), (3523, .cells 21 [.int .i64 (.ofNat 0), .int .i64 (.ofNat 0), .int .i64 (.ofNat 1), .int .i64 (.ofNat 1), .bool true, .int .i64 (.ofNat 3), .int .i64 (.ofNat 3), .int .i64 (.ofNat 4), .int .i64 (.ofNat 4), .int .i64 (.ofNat 3), .int .i64 (.ofNat 3), .bool true, .int .i64 (.ofNat 2), .int .i64 (.ofNat 3), .int .i64 (.ofNat 2), .int .i64 (.ofNat 2), .int .i64 (.ofNat 3), .int .i64 (.ofNat 3), .bool false, .int .i64 (.ofNat 0), .int .i64 (.ofNat 0)] true)]
def f17C7 : Code := seqR f17C6
def f17L7 : List (Nat × V) := [(0, .c (.bool false)), (1, .c (.ptr 3524 0)), (2, .c (.int .i64 (.ofNat 0))), (3, .c (.int .i64 (.ofNat 1))), (4, .c (.int .i64 (.ofNat 0))), (5, .c (.int .i64 (.ofNat 2))), (6, .c (.int .i64 (.ofNat 0))), (7, .c (.ptr 11918 0)), (8, .c (.int .i64 (.ofNat 0))), (9, .c (.int .i64 (.ofNat 3))), (10, .c (.int .i64 (.ofNat 0))), (11, .c (.sl 19170 0 1 1 none)), (12, .c (.int .i64 (.ofNat 0)))]
def f17M7 : List (Nat × AO) := [(19170, .cells 1 [.int .i64 (.ofNat 1)] true), (11918, .cells 2 [.int .i64 (.ofNat 2), .int .i64 (.ofNat 2)] false), (3524, .cells 12 [.int .i64 (.ofNat 5), .int .i64 (.ofNat 5), .int .i64 (.ofNat 1), .int .i64 (.ofNat 1), .int .i64 (.ofNat 1), .int .i64 (.ofNat 2), .int .i64 (.ofNat 2), .int .i64 (.ofNat 1), .int .i64 (.ofNat 1), .int .i64 (.ofNat 3), .int .i64 (.ofNat 3), .sl 3523 0 3 7 none] false), (3523, .cells 21 [.int .i64 (.ofNat 0), .int .i64 (.ofNat 0), .int .i64 (.ofNat 1), .int .i64 (.ofNat 1), .bool true, .int .i64 (.ofNat 3), .int .i64 (.ofNat 3), .int .i64 (.ofNat 4), .int .i64 (.ofNat 4), .int .i64 (.ofNat 3), .int .i64 (.ofNat 3), .bool true, .int .i64 (.ofNat 2), .int .i64 (.ofNat 3), .int .i64 (.ofNat 2), .int .i64 (.ofNat 2), .int .i64 (.ofNat 3), .int .i64 (.ofNat 3), .bool false, .int .i64 (.ofNat 0), .int .i64 (.ofNat 0)] true)]
def f17C8 : Code := seqR f17C7
def f17L8 : List (Nat × V) := [(0, .c (.bool false)), (1, .c (.ptr 3524 0)), (2, .c (.int .i64 (.ofNat 0))), (3, .c (.int .i64 (.ofNat 1))), (4, .c (.int .i64 (.ofNat 0))), (5, .c (.int .i64 (.ofNat 2))), (6, .c (.int .i64 (.ofNat 0))), (7, .c (.ptr 11918 0)), (8, .c (.int .i64 (.ofNat 0))), (9, .c (.int .i64 (.ofNat 3))), (10, .c (.int .i64 (.ofNat 0))), (11, .c (.sl 19170 0 1 1 none)), (12, .c (.int .i64 (.ofNat 0))), (13, .c (.sl 23757 0 3 1 none)), (14, .c (.int .i64 (.ofNat 0)))]
def f17M8 : List (Nat × AO) := [(23757, .cells 3 [.int .i64 (.ofNat 0), .int .i64 (.ofNat 1), .int .i64 (.ofNat 3)] true), (19170, .cells 1 [.int .i64 (.ofNat 1)] true), (11918, .cells 2 [.int .i64 (.ofNat 2), .int .i64 (.ofNat 2)] false), (3524, .cells 12 [.int .i64 (.ofNat 5), .int .i64 (.ofNat 5), .int .i64 (.ofNat 1), .int .i64 (.ofNat 1), .int .i64 (.ofNat 1), .int .i64 (.ofNat 2), .int .i64 (.ofNat 2), .int .i64 (.ofNat 1), .int .i64 (.ofNat 1), .int .i64 (.ofNat 3), .int .i64 (.ofNat 3), .sl 3523 0 3 7 none] false), (3523, .cells 21 [.int .i64 (.ofNat 0), .int .i64 (.ofNat 0), .int .i64 (.ofNat 1), .int .i64 (.ofNat 1), .bool true, .int .i64 (.ofNat 3), .int .i64 (.ofNat 3), .int .i64 (.ofNat 4), .int .i64 (.ofNat 4), .int .i64 (.ofNat 3), .int .i64 (.ofNat 3), .bool true, .int .i64 (.ofNat 2), .int .i64 (.ofNat 3), .int .i64 (.ofNat 2), .int .i64 (.ofNat 2), .int .i64 (.ofNat 3), .int .i64 (.ofNat 3), .bool false, .int .i64 (.ofNat 0), .int .i64 (.ofNat 0)] true)]
def f17C9 : Code := seqR f17C8
def f17L9 : List (Nat × V) := [(0, .c (.bool false)), (1, .c (.ptr 3524 0)), (2, .c (.int .i64 (.ofNat 0))), (3, .c (.int .i64 (.ofNat 1))), (4, .c (.int .i64 (.ofNat 0))), (5, .c (.int .i64 (.ofNat 2))), (6, .c (.int .i64 (.ofNat 0))), (7, .c (.ptr 11918 0)), (8, .c (.int .i64 (.ofNat 0))), (9, .c (.int .i64 (.ofNat 3))), (10, .c (.int .i64 (.ofNat 0))), (11, .c (.sl 19170 0 1 1 none)), (12, .c (.int .i64 (.ofNat 0))), (13, .c (.sl 23757 0 3 1 none)), (14, .c (.int .i64 (.ofNat 0))), (15, .c (.int .i64 (.ofNat 2))), (16, .c (.int .i64 (.ofNat 1))), (17, .c (.int .i64 (.ofNat 2))), (18, .c (.int .i64 (.ofNat 0)))]
def f17M9 : List (Nat × AO) := [(23757, .cells 3 [.int .i64 (.ofNat 0), .int .i64 (.ofNat 1), .int .i64 (.ofNat 3)] true), (19170, .cells 1 [.int .i64 (.ofNat 1)] true), (11918, .cells 2 [.int .i64 (.ofNat 2), .int .i64 (.ofNat 2)] false), (3524, .cells 12 [.int .i64 (.ofNat 5), .int .i64 (.ofNat 5), .int .i64 (.ofNat 1), .int .i64 (.ofNat 1), .int .i64 (.ofNat 1), .int .i64 (.ofNat 2), .int .i64 (.ofNat 2), .int .i64 (.ofNat 1), .int .i64 (.ofNat 1), .int .i64 (.ofNat 3), .int .i64 (.ofNat 3), .sl 3523 0 3 7 none] false), (3523, .cells 21 [.int .i64 (.ofNat 0), .int .i64 (.ofNat 0), .int .i64 (.ofNat 1), .int .i64 (.ofNat 1), .bool true, .int .i64 (.ofNat 3), .int .i64 (.ofNat 3), .int .i64 (.ofNat 4), .int .i64 (.ofNat 4), .int .i64 (.ofNat 3), .int .i64 (.ofNat 3), .bool true, .int .i64 (.ofNat 2), .int .i64 (.ofNat 3), .int .i64 (.ofNat 2), .int .i64 (.ofNat 2), .int .i64 (.ofNat 3), .int .i64 (.ofNat 3), .bool false, .int .i64 (.ofNat 0), .int .i64 (.ofNat 0)] true)]
def f17C10 : Code := seqR f17C9
def f17L10 : List (Nat × V) := [(0, .c (.bool true))]
def f17M10 : List (Nat × AO) := []
theorem f17Q0 : isSeq f17C0 = true := by kernel_rfl
theorem f17A0 : Go.Abs.covers f17L1 0 f17M1 (codeA Go.Proofs.Try.prog f17R (seqL f17C0) (tmOf f17L0) (hpOf 0 f17M0)) = true := by kernel_rfl
theorem f17Q1 : isSeq f17C1 = true := by kernel_rfl
theorem f17A1 : Go.Abs.covers f17L2 3525 f17M2 (codeA Go.Proofs.Try.prog f17R (seqL f17C1) (tmOf f17L1) (hpOf 0 f17M1)) = true := by kernel_rfl
theorem f17Q2 : isSeq f17C2 = true := by kernel_rfl
theorem f17A2 : Go.Abs.covers f17L3 6281 f17M3 (codeA Go.Proofs.Try.prog f17R (seqL f17C2) (tmOf f17L2) (hpOf 3525 f17M2)) = true := by kernel_rfl
theorem f17Q3 : isSeq f17C3 = true := by kernel_rfl
theorem f17A3 : Go.Abs.covers f17L4 9181 f17M4 (codeA Go.Proofs.Try.prog f17R (seqL f17C3) (tmOf f17L3) (hpOf 6281 f17M3)) = true := by kernel_rfl
theorem f17Q4 : isSeq f17C4 = true := by kernel_rfl
theorem f17A4 : Go.Abs.covers f17L5 11919 f17M5 (codeA Go.Proofs.Try.prog f17R (seqL f17C4) (tmOf f17L4) (hpOf 9181 f17M4)) = true := by kernel_rfl
theorem f17Q5 : isSeq f17C5 = true := by kernel_rfl
theorem f17A5 : Go.Abs.covers f17L6 15479 f17M6 (codeA Go.Proofs.Try.prog f17R (seqL f17C5) (tmOf f17L5) (hpOf 11919 f17M5)) = true := by kernel_rfl
theorem f17Q6 : isSeq f17C6 = true := by kernel_rfl
theorem f17A6 : Go.Abs.covers f17L7 19171 f17M7 (codeA Go.Proofs.Try.prog f17R (seqL f17C6) (tmOf f17L6) (hpOf 15479 f17M6)) = true := by kernel_rfl
theorem f17Q7 : isSeq f17C7 = true := by kernel_rfl
theorem f17A7 : Go.Abs.covers f17L8 23758 f17M8 (codeA Go.Proofs.Try.prog f17R (seqL f17C7) (tmOf f17L7) (hpOf 19171 f17M7)) = true := by kernel_rfl
theorem f17Q8 : isSeq f17C8 = true := by kernel_rfl
theorem f17A8 : Go.Abs.covers f17L9 26288 f17M9 (codeA Go.Proofs.Try.prog f17R (seqL f17C8) (tmOf f17L8) (hpOf 23758 f17M8)) = true := by kernel_rfl
theorem f17Q9 : isSeq f17C9 = true := by kernel_rfl
theorem f17A9 : Go.Abs.covers f17L10 26295 f17M10 (codeA Go.Proofs.Try.prog f17R (seqL f17C9) (tmOf f17L9) (hpOf 26288 f17M9)) = true := by kernel_rfl
theorem f17E : Go.Abs.endsIn (.c (.bool true)) (Go.Abs.bind (codeA Go.Proofs.Try.prog f17R f17C10 (tmOf f17L10) (hpOf 26295 f17M10)) (finishCall Go.Proofs.Try.prog f17F)) = true := by kernel_rfl
theorem f17G10 (hso : slotsOk f17F.ntmps f17C10 = true) : Go.Abs.Good Go.Proofs.Try.prog f17F (.c (.bool true)) f17C10 (tmOf f17L10) (hpOf 26295 f17M10) := good_end fits f17S hso f17E
theorem f17G9 (hso : slotsOk f17F.ntmps f17C9 = true) : Go.Abs.Good Go.Proofs.Try.prog f17F (.c (.bool true)) f17C9 (tmOf f17L9) (hpOf 26288 f17M9) := good_piece fits f17S f17Q9 hso f17A9 f17G10
theorem f17G8 (hso : slotsOk f17F.ntmps f17C8 = true) : Go.Abs.Good Go.Proofs.Try.prog f17F (.c (.bool true)) f17C8 (tmOf f17L8) (hpOf 23758 f17M8) := good_piece fits f17S f17Q8 hso f17A8 f17G9
theorem f17G7 (hso : slotsOk f17F.ntmps f17C7 = true) : Go.Abs.Good Go.Proofs.Try.prog f17F (.c (.bool true)) f17C7 (tmOf f17L7) (hpOf 19171 f17M7) := good_piece fits f17S f17Q7 hso f17A7 f17G8
theorem f17G6 (hso : slotsOk f17F.ntmps f17C6 = true) : Go.Abs.Good Go.Proofs.Try.prog f17F (.c (.bool true)) f17C6 (tmOf f17L6) (hpOf 15479 f17M6) := good_piece fits f17S f17Q6 hso f17A6 f17G7
theorem f17G5 (hso : slotsOk f17F.ntmps f17C5 = true) : Go.Abs.Good Go.Proofs.Try.prog f17F (.c (.bool true)) f17C5 (tmOf f17L5) (hpOf 11919 f17M5) := good_piece fits f17S f17Q5 hso f17A5 f17G6
theorem f17G4 (hso : slotsOk f17F.ntmps f17C4 = true) : Go.Abs.Good Go.Proofs.Try.prog f17F (.c (.bool true)) f17C4 (tmOf f17L4) (hpOf 9181 f17M4) := good_piece fits f17S f17Q4 hso f17A4 f17G5
theorem f17G3 (hso : slotsOk f17F.ntmps f17C3 = true) : Go.Abs.Good Go.Proofs.Try.prog f17F (.c (.bool true)) f17C3 (tmOf f17L3) (hpOf 6281 f17M3) := good_piece fits f17S f17Q3 hso f17A3 f17G4
theorem f17G2 (hso : slotsOk f17F.ntmps f17C2 = true) : Go.Abs.Good Go.Proofs.Try.prog f17F (.c (.bool true)) f17C2 (tmOf f17L2) (hpOf 3525 f17M2) := good_piece fits f17S f17Q2 hso f17A2 f17G3
theorem f17G1 (hso : slotsOk f17F.ntmps f17C1 = true) : Go.Abs.Good Go.Proofs.Try.prog f17F (.c (.bool true)) f17C1 (tmOf f17L1) (hpOf 0 f17M1) := good_piece fits f17S f17Q1 hso f17A1 f17G2
theorem f17G0 (hso : slotsOk f17F.ntmps f17C0 = true) : Go.Abs.Good Go.Proofs.Try.prog f17F (.c (.bool true)) f17C0 (tmOf f17L0) (hpOf 0 f17M0) := good_piece fits f17S f17Q0 hso f17A0 f17G1
theorem f17Closed : Closed Go.Proofs.Try.prog 17 true := closed_of f17K (f17G0 (okAt_eq f17K).2.2.1)

def tbl : List (Nat × Bool) := [(17, true)]
theorem htab : TabOk Go.Proofs.Try.prog tbl := fun x (hx : x ∈ [((17 : Nat), true)]) => by
  rcases List.mem_cons.1 hx with rfl | hx
  · exact ⟨f17K, f17Closed⟩
  · cases hx

end
end Go.Proofs.Ytbnfnhfanooplaa

