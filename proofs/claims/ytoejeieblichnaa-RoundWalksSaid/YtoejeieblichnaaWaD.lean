/- What the evaluator asks of a program, of this one; and function 16, run in pieces: it returns true. Condition: none; a lemma text of this claim. -/
import Derived.Test.YtoejeieblichnaaWaC
import Derived.Test.YtoejeieblichnaaProg
import Derived.KernelRfl
namespace Go.Proofs.Ytoejeieblichnaa
theorem fits : Go.Abs.Fits Go.Proofs.Try.prog := ⟨by decide +kernel, by kernel_rfl⟩
abbrev Il (n : Int) : Go.Abs.C := .int .i64 n
open Go.Abs
noncomputable section

/-! ### function 16, piece by piece -/
def f16F : Func := fnAt Go.Proofs.Try.prog 16
def f16T : List (Nat × Bool) := []
def f16R : Rec := tab f16T (ev Go.Proofs.Try.prog 100000)
theorem f16S : Sound Go.Proofs.Try.prog f16R := tab_sound (fun _ hx => by cases hx) (ev_sound fits 100000)
theorem f16K : okAt Go.Proofs.Try.prog 16 = true := by kernel_rfl
def f16C0 : Code := bodyAt Go.Proofs.Try.prog 16
def f16L0 : List (Nat × V) := []
def f16M0 : List (Nat × AO) := []
def f16C1 : Code := seqR f16C0
def f16L1 : List (Nat × V) := [(0, .c (.bool false))]
def f16M1 : List (Nat × AO) := []
def f16C2 : Code := seqR f16C1
def f16L2 : List (Nat × V) := [(0, .c (.bool false)), (1, .c (.sl 168 0 2 1 none)), (2, .c (.int .i64 (.ofNat 12))), (3, .c (.int .i64 (.ofNat 0)))]
def f16M2 : List (Nat × AO) := [(168, .cells 2 [.int .i64 (.ofNat 0), .int .i64 (.ofNat 1)] true)]
def f16C3 : Code := seqR f16C2
def f16L3 : List (Nat × V) := [(0, .c (.bool false)), (1, .c (.sl 168 0 2 1 none)), (2, .c (.int .i64 (.ofNat 12))), (3, .c (.int .i64 (.ofNat 0))), (4, .c (.sl 565 0 3 2 none)), (5, .c (.int .i64 (.ofNat 0)))]
def f16M3 : List (Nat × AO) := [(565, .cells 6 [.int .i64 (.ofNat 0), .int .i64 (.ofNat 0), .int .i64 (.ofNat 0), .int .i64 (.ofNat 0), .int .i64 (.ofNat 0), .int .i64 (.ofNat 1)] true), (168, .cells 2 [.int .i64 (.ofNat 0), .int .i64 (.ofNat 1)] true)]
def f16C4 : Code := seqR f16C3
def f16L4 : List (Nat × V) := [(0, .c (.bool false)), (1, .c (.sl 168 0 2 1 none)), (2, .c (.int .i64 (.ofNat 12))), (3, .c (.int .i64 (.ofNat 0))), (4, .c (.sl 565 0 3 2 none)), (5, .c (.int .i64 (.ofNat 0))), (6, .c (.sl 1238 0 1 1 none)), (7, .c (.int .i64 (.ofNat 0)))]
def f16M4 : List (Nat × AO) := [(1238, .cells 1 [.int .i64 (.ofNat 0)] true), (565, .cells 6 [.int .i64 (.ofNat 0), .int .i64 (.ofNat 0), .int .i64 (.ofNat 0), .int .i64 (.ofNat 0), .int .i64 (.ofNat 0), .int .i64 (.ofNat 1)] true), (168, .cells 2 [.int .i64 (.ofNat 0), .int .i64 (.ofNat 1)] true)]
def f16C5 : Code := seqR f16C4
def f16L5 : List (Nat × V) := [(0, .c (.bool false)), (1, .c (.sl 168 0 2 1 none)), (2, .c (.int .i64 (.ofNat 12))), (3, .c (.int .i64 (.ofNat 0))), (4, .c (.sl 565 0 3 2 none)), (5, .c (.int .i64 (.ofNat 0))), (6, .c (.sl 1238 0 1 1 none)), (7, .c (.int .i64 (.ofNat 0))), (8, .c (.bool true)), (9, .c (.int .i64 (.ofNat 0)))]
def f16M5 : List (Nat × AO) := [(1238, .cells 1 [.int .i64 (.ofNat 0)] true), (565, .cells 6 [.int .i64 (.ofNat 0), .int .i64 (.ofNat 0), .int .i64 (.ofNat 0), .int .i64 (.ofNat 0), .int .i64 (.ofNat 0), .int .i64 (.ofNat 1)] true), (168, .cells 2 [.int .i64 (.ofNat 0), .int .i64 (.ofNat 1)] true)]
def f16C6 : Code := seqR f16C5
def f16L6 : List (Nat × V) := [(0, .c (.bool false)), (1, .c (.sl 168 0 2 1 none)), (2, .c (.int .i64 (.ofNat 12))), (3, .c (.int .i64 (.ofNat 0))), (4, .c (.sl 565 0 3 2 none)), (5, .c (.int .i64 (.ofNat 0))), (6, .c (.sl 1238 0 1 1 none)), (7, .c (.int .i64 (.ofNat 0))), (8, .c (.bool true)), (9, .c (.int .i64 (.ofNat 0))), (10, .c (.int .i64 (.ofNat 2))), (11, .c (.int .i64 (.ofNat 0)))]
def f16M6 : List (Nat × AO) := [(1238, .cells 1 [.int .i64 (.ofNat 0)] true), (565, .cells 6 [.int .i64 (.ofNat 0), .int .i64 (.ofNat 0), .int .i64 (.ofNat 0), .int .i64 (.ofNat 0), .int .i64 (.ofNat 0), .int .i64 (.ofNat 1)] true), (168, .cells 2 [.int .i64 (.ofNat 0), .int .i64 (.ofNat 1)] true)]
def f16C7 : Code := seqR f16C6
def f16L7 : List (Nat × V) := [(0, .c (.bool false)), (1, .c (.sl 168 0 2 1 none)), (2, .c (.int .i64 (.ofNat 12))), (3, .c (.int .i64 (.ofNat 0))), (4, .c (.sl 565 0 3 2 none)), (5, .c (.int .i64 (.ofNat 0))), (6, .c (.sl 1238 0 1 1 none)), (7, .c (.int .i64 (.ofNat 0))), (8, .c (.bool true)), (9, .c (.int .i64 (.ofNat 0))), (10, .c (.int .i64 (.ofNat 2))), (11, .c (.int .i64 (.ofNat 0))), (12, .c (.sl 3506 0 1 1 none)), (13, .c (.int .i64 (.ofNat 0)))]
def f16M7 : List (Nat × AO) := [(3506, .cells 1 [.int .i64 (.ofNat 1)] true), (1238, .cells 1 [.int .i64 (.ofNat 0)] true), (565, .cells 6 [.int .i64 (.ofNat 0), .int .i64 (.ofNat 0), .int .i64 (.ofNat 0), .int .i64 (.ofNat 0), .int .i64 (.ofNat 0), .int .i64 (.ofNat 1)] true), (168, .cells 2 [.int .i64 (.ofNat 0), .int .i64 (.ofNat 1)] true)]
def f16C8 : Code := seqR f16C7
def f16L8 : List (Nat × V) := [(0, .c (.bool false)), (1, .c (.sl 168 0 2 1 none)), (2, .c (.int .i64 (.ofNat 12))), (3, .c (.int .i64 (.ofNat 0))), (4, .c (.sl 565 0 3 2 none)), (5, .c (.int .i64 (.ofNat 0))), (6, .c (.sl 1238 0 1 1 none)), (7, .c (.int .i64 (.ofNat 0))), (8, .c (.bool true)), (9, .c (.int .i64 (.ofNat 0))), (10, .c (.int .i64 (.ofNat 2))), (11, .c (.int .i64 (.ofNat 0))), (12, .c (.sl 3506 0 1 1 none)), (13, .c (.int .i64 (.ofNat 0))), (14, .c (.sl 5294 0 3 1 none)), (15, .c (.int .i64 (.ofNat 0)))]
def f16M8 : List (Nat × AO) := [(5294, .cells 3 [.int .i64 (.ofNat 1), .int .i64 (.ofNat 2), .int .i64 (.ofNat 3)] true), (3506, .cells 1 [.int .i64 (.ofNat 1)] true), (1238, .cells 1 [.int .i64 (.ofNat 0)] true), (565, .cells 6 [.int .i64 (.ofNat 0), .int .i64 (.ofNat 0), .int .i64 (.ofNat 0), .int .i64 (.ofNat 0), .int .i64 (.ofNat 0), .int .i64 (.ofNat 1)] true), (168, .cells 2 [.int .i64 (.ofNat 0), .int .i64 (.ofNat 1)] true)]
def f16C9 : Code := seqR f16C8
def f16L9 : List (Nat × V) := [(0, .c (.bool true))]
def f16M9 : List (Nat × AO) := []
theorem f16Q0 : isSeq f16C0 = true := by kernel_rfl
theorem f16A0 : Go.Abs.covers f16L1 0 f16M1 (codeA Go.Proofs.Try.prog f16R (seqL f16C0) (tmOf f16L0) (hpOf 0 f16M0)) = true := by kernel_rfl
theorem f16Q1 : isSeq f16C1 = true := by kernel_rfl
theorem f16A1 : Go.Abs.covers f16L2 169 f16M2 (codeA Go.Proofs.Try.prog f16R (seqL f16C1) (tmOf f16L1) (hpOf 0 f16M1)) = true := by kernel_rfl
theorem f16Q2 : isSeq f16C2 = true := by kernel_rfl
theorem f16A2 : Go.Abs.covers f16L3 566 f16M3 (codeA Go.Proofs.Try.prog f16R (seqL f16C2) (tmOf f16L2) (hpOf 169 f16M2)) = true := by kernel_rfl
theorem f16Q3 : isSeq f16C3 = true := by kernel_rfl
theorem f16A3 : Go.Abs.covers f16L4 1239 f16M4 (codeA Go.Proofs.Try.prog f16R (seqL f16C3) (tmOf f16L3) (hpOf 566 f16M3)) = true := by kernel_rfl
theorem f16Q4 : isSeq f16C4 = true := by kernel_rfl
theorem f16A4 : Go.Abs.covers f16L5 1720 f16M5 (codeA Go.Proofs.Try.prog f16R (seqL f16C4) (tmOf f16L4) (hpOf 1239 f16M4)) = true := by kernel_rfl
theorem f16Q5 : isSeq f16C5 = true := by kernel_rfl
theorem f16A5 : Go.Abs.covers f16L6 2528 f16M6 (codeA Go.Proofs.Try.prog f16R (seqL f16C5) (tmOf f16L5) (hpOf 1720 f16M5)) = true := by kernel_rfl
theorem f16Q6 : isSeq f16C6 = true := by kernel_rfl
theorem f16A6 : Go.Abs.covers f16L7 3507 f16M7 (codeA Go.Proofs.Try.prog f16R (seqL f16C6) (tmOf f16L6) (hpOf 2528 f16M6)) = true := by kernel_rfl
theorem f16Q7 : isSeq f16C7 = true := by kernel_rfl
theorem f16A7 : Go.Abs.covers f16L8 5295 f16M8 (codeA Go.Proofs.Try.prog f16R (seqL f16C7) (tmOf f16L7) (hpOf 3507 f16M7)) = true := by kernel_rfl
theorem f16Q8 : isSeq f16C8 = true := by kernel_rfl
theorem f16A8 : Go.Abs.covers f16L9 5610 f16M9 (codeA Go.Proofs.Try.prog f16R (seqL f16C8) (tmOf f16L8) (hpOf 5295 f16M8)) = true := by kernel_rfl
theorem f16E : Go.Abs.endsIn (.c (.bool true)) (Go.Abs.bind (codeA Go.Proofs.Try.prog f16R f16C9 (tmOf f16L9) (hpOf 5610 f16M9)) (finishCall Go.Proofs.Try.prog f16F)) = true := by kernel_rfl
theorem f16G9 (hso : slotsOk f16F.ntmps f16C9 = true) : Go.Abs.Good Go.Proofs.Try.prog f16F (.c (.bool true)) f16C9 (tmOf f16L9) (hpOf 5610 f16M9) := good_end fits f16S hso f16E
theorem f16G8 (hso : slotsOk f16F.ntmps f16C8 = true) : Go.Abs.Good Go.Proofs.Try.prog f16F (.c (.bool true)) f16C8 (tmOf f16L8) (hpOf 5295 f16M8) := good_piece fits f16S f16Q8 hso f16A8 f16G9
theorem f16G7 (hso : slotsOk f16F.ntmps f16C7 = true) : Go.Abs.Good Go.Proofs.Try.prog f16F (.c (.bool true)) f16C7 (tmOf f16L7) (hpOf 3507 f16M7) := good_piece fits f16S f16Q7 hso f16A7 f16G8
theorem f16G6 (hso : slotsOk f16F.ntmps f16C6 = true) : Go.Abs.Good Go.Proofs.Try.prog f16F (.c (.bool true)) f16C6 (tmOf f16L6) (hpOf 2528 f16M6) := good_piece fits f16S f16Q6 hso f16A6 f16G7
theorem f16G5 (hso : slotsOk f16F.ntmps f16C5 = true) : Go.Abs.Good Go.Proofs.Try.prog f16F (.c (.bool true)) f16C5 (tmOf f16L5) (hpOf 1720 f16M5) := good_piece fits f16S f16Q5 hso f16A5 f16G6
theorem f16G4 (hso : slotsOk f16F.ntmps f16C4 = true) : Go.Abs.Good Go.Proofs.Try.prog f16F (.c (.bool true)) f16C4 (tmOf f16L4) (hpOf 1239 f16M4) := good_piece fits f16S f16Q4 hso f16A4 f16G5
theorem f16G3 (hso : slotsOk f16F.ntmps f16C3 = true) : Go.Abs.Good Go.Proofs.Try.prog f16F (.c (.bool true)) f16C3 (tmOf f16L3) (hpOf 566 f16M3) := good_piece fits f16S f16Q3 hso f16A3 f16G4
theorem f16G2 (hso : slotsOk f16F.ntmps f16C2 = true) : Go.Abs.Good Go.Proofs.Try.prog f16F (.c (.bool true)) f16C2 (tmOf f16L2) (hpOf 169 f16M2) := good_piece fits f16S f16Q2 hso f16A2 f16G3
theorem f16G1 (hso : slotsOk f16F.ntmps f16C1 = true) : Go.Abs.Good Go.Proofs.Try.prog f16F (.c (.bool true)) f16C1 (tmOf f16L1) (hpOf 0 f16M1) := good_piece fits f16S f16Q1 hso f16A1 f16G2
theorem f16G0 (hso : slotsOk f16F.ntmps f16C0 = true) : Go.Abs.Good Go.Proofs.Try.prog f16F (.c (.bool true)) f16C0 (tmOf f16L0) (hpOf 0 f16M0) := good_piece fits f16S f16Q0 hso f16A0 f16G1
theorem f16Closed : Closed Go.Proofs.Try.prog 16 true := closed_of f16K (f16G0 (okAt_eq f16K).2.2.1)

def tbl : List (Nat × Bool) := [(16, true)]
theorem htab : TabOk Go.Proofs.Try.prog tbl := fun x (hx : x ∈ [((16 : Nat), true)]) => by
  rcases List.mem_cons.1 hx with rfl | hx
  · exact ⟨f16K, f16Closed⟩
  · cases hx

end
end Go.Proofs.Ytoejeieblichnaa

