/- What the evaluator asks of a program, of this one; and function 6, run in pieces: it returns true. Condition: none; a lemma text of this claim. -/
import Derived.Test.YtbhdgedghfibcaaGreatMbD
import Derived.Test.YtbhdgedghfibcaaGreatProg
import Derived.KernelRfl
namespace Go.Proofs.YtbhdgedghfibcaaGreat
theorem fits : Go.Abs.Fits Go.Proofs.Tryz.prog := ⟨by decide +kernel, by kernel_rfl⟩
open Go.Abs
noncomputable section
/-! ### function 6, piece by piece -/
def f6F : Func := fnAt Go.Proofs.Tryz.prog 6
def f6T : List (Nat × Bool) := []
def f6R : Rec := tab f6T (ev Go.Proofs.Tryz.prog 100000)
theorem f6S : Sound Go.Proofs.Tryz.prog f6R := tab_sound (fun _ hx => by cases hx) (ev_sound fits 100000)
theorem f6K : okAt Go.Proofs.Tryz.prog 6 = true := by kernel_rfl
def f6C0 : Code := bodyAt Go.Proofs.Tryz.prog 6
def f6L0 : List (Nat × V) := []
def f6M0 : List (Nat × AO) := []
def f6C1 : Code := seqR f6C0
def f6L1 : List (Nat × V) := [(0, .c (.bool false))]
def f6M1 : List (Nat × AO) := []
def f6C2 : Code := seqR f6C1
def f6L2 : List (Nat × V) := [(0, .c (.bool false)), (1, .c (.int .i64 (.ofNat 8))), (2, .c (.int .i64 (.ofNat 0)))]
def f6M2 : List (Nat × AO) := []
def f6C3 : Code := seqR f6C2
def f6L3 : List (Nat × V) := [(0, .c (.bool false)), (1, .c (.int .i64 (.ofNat 8))), (2, .c (.int .i64 (.ofNat 0))), (3, .c (.int .i64 (.ofNat 35))), (4, .c (.int .i64 (.ofNat 0)))]
def f6M3 : List (Nat × AO) := []
def f6C4 : Code := seqR f6C3
def f6L4 : List (Nat × V) := [(0, .c (.bool false)), (1, .c (.int .i64 (.ofNat 8))), (2, .c (.int .i64 (.ofNat 0))), (3, .c (.int .i64 (.ofNat 35))), (4, .c (.int .i64 (.ofNat 0))), (5, .c (.ptr 777 0)), (6, .c (.int .i64 (.ofNat 0)))]
def f6M4 : List (Nat × AO) := [(777, .cells 2 [.int .i64 (.ofNat 105), .int .i64 (.ofNat 210)] false)]
def f6C5 : Code := seqR f6C4
def f6L5 : List (Nat × V) := [(0, .c (.bool false)), (1, .c (.int .i64 (.ofNat 8))), (2, .c (.int .i64 (.ofNat 0))), (3, .c (.int .i64 (.ofNat 35))), (4, .c (.int .i64 (.ofNat 0))), (5, .c (.ptr 777 0)), (6, .c (.int .i64 (.ofNat 0))), (7, .c (.ptr 1548 0)), (8, .c (.int .i64 (.ofNat 0)))]
def f6M5 : List (Nat × AO) := [(1548, .cells 2 [.int .i64 (.ofNat 10), .int .i64 (.ofNat 20)] false), (777, .cells 2 [.int .i64 (.ofNat 105), .int .i64 (.ofNat 210)] false)]
def f6C6 : Code := seqR f6C5
def f6L6 : List (Nat × V) := [(0, .c (.bool false)), (1, .c (.int .i64 (.ofNat 8))), (2, .c (.int .i64 (.ofNat 0))), (3, .c (.int .i64 (.ofNat 35))), (4, .c (.int .i64 (.ofNat 0))), (5, .c (.ptr 777 0)), (6, .c (.int .i64 (.ofNat 0))), (7, .c (.ptr 1548 0)), (8, .c (.int .i64 (.ofNat 0))), (9, .c (.int .i64 (.ofNat 1))), (10, .c (.int .i64 (.ofNat 0)))]
def f6M6 : List (Nat × AO) := [(1548, .cells 2 [.int .i64 (.ofNat 10), .int .i64 (.ofNat 20)] false), (777, .cells 2 [.int .i64 (.ofNat 105), .int .i64 (.ofNat 210)] false)]
def f6C7 : Code := seqR f6C6
def f6L7 : List (Nat × V) := [(0, .c (.bool false)), (1, .c (.int .i64 (.ofNat 8))), (2, .c (.int .i64 (.ofNat 0))), (3, .c (.int .i64 (.ofNat 35))), (4, .c (.int .i64 (.ofNat 0))), (5, .c (.ptr 777 0)), (6, .c (.int .i64 (.ofNat 0))), (7, .c (.ptr 1548 0)), (8, .c (.int .i64 (.ofNat 0))), (9, .c (.int .i64 (.ofNat 1))), (10, .c (.int .i64 (.ofNat 0))), (11, .c (.int .i64 (.ofNat 13))), (12, .c (.int .i64 (.ofNat 0)))]
def f6M7 : List (Nat × AO) := [(1548, .cells 2 [.int .i64 (.ofNat 10), .int .i64 (.ofNat 20)] false), (777, .cells 2 [.int .i64 (.ofNat 105), .int .i64 (.ofNat 210)] false)]
def f6C8 : Code := seqR f6C7
def f6L8 : List (Nat × V) := [(0, .c (.bool true))]
def f6M8 : List (Nat × AO) := []
theorem f6Q0 : isSeq f6C0 = true := by kernel_rfl
theorem f6A0 : Go.Abs.covers f6L1 0 f6M1 (codeA Go.Proofs.Tryz.prog f6R (seqL f6C0) (tmOf f6L0) (hpOf 0 f6M0)) = true := by kernel_rfl
theorem f6Q1 : isSeq f6C1 = true := by kernel_rfl
theorem f6A1 : Go.Abs.covers f6L2 81 f6M2 (codeA Go.Proofs.Tryz.prog f6R (seqL f6C1) (tmOf f6L1) (hpOf 0 f6M1)) = true := by kernel_rfl
theorem f6Q2 : isSeq f6C2 = true := by kernel_rfl
theorem f6A2 : Go.Abs.covers f6L3 162 f6M3 (codeA Go.Proofs.Tryz.prog f6R (seqL f6C2) (tmOf f6L2) (hpOf 81 f6M2)) = true := by kernel_rfl
theorem f6Q3 : isSeq f6C3 = true := by kernel_rfl
theorem f6A3 : Go.Abs.covers f6L4 778 f6M4 (codeA Go.Proofs.Tryz.prog f6R (seqL f6C3) (tmOf f6L3) (hpOf 162 f6M3)) = true := by kernel_rfl
theorem f6Q4 : isSeq f6C4 = true := by kernel_rfl
theorem f6A4 : Go.Abs.covers f6L5 1549 f6M5 (codeA Go.Proofs.Tryz.prog f6R (seqL f6C4) (tmOf f6L4) (hpOf 778 f6M4)) = true := by kernel_rfl
theorem f6Q5 : isSeq f6C5 = true := by kernel_rfl
theorem f6A5 : Go.Abs.covers f6L6 2166 f6M6 (codeA Go.Proofs.Tryz.prog f6R (seqL f6C5) (tmOf f6L5) (hpOf 1549 f6M5)) = true := by kernel_rfl
theorem f6Q6 : isSeq f6C6 = true := by kernel_rfl
theorem f6A6 : Go.Abs.covers f6L7 2418 f6M7 (codeA Go.Proofs.Tryz.prog f6R (seqL f6C6) (tmOf f6L6) (hpOf 2166 f6M6)) = true := by kernel_rfl
theorem f6Q7 : isSeq f6C7 = true := by kernel_rfl
theorem f6A7 : Go.Abs.covers f6L8 2419 f6M8 (codeA Go.Proofs.Tryz.prog f6R (seqL f6C7) (tmOf f6L7) (hpOf 2418 f6M7)) = true := by kernel_rfl
theorem f6E : Go.Abs.endsIn (.c (.bool true)) (Go.Abs.bind (codeA Go.Proofs.Tryz.prog f6R f6C8 (tmOf f6L8) (hpOf 2419 f6M8)) (finishCall Go.Proofs.Tryz.prog f6F)) = true := by kernel_rfl
theorem f6G8 (hso : slotsOk f6F.ntmps f6C8 = true) : Go.Abs.Good Go.Proofs.Tryz.prog f6F (.c (.bool true)) f6C8 (tmOf f6L8) (hpOf 2419 f6M8) := good_end fits f6S hso f6E
theorem f6G7 (hso : slotsOk f6F.ntmps f6C7 = true) : Go.Abs.Good Go.Proofs.Tryz.prog f6F (.c (.bool true)) f6C7 (tmOf f6L7) (hpOf 2418 f6M7) := good_piece fits f6S f6Q7 hso f6A7 f6G8
theorem f6G6 (hso : slotsOk f6F.ntmps f6C6 = true) : Go.Abs.Good Go.Proofs.Tryz.prog f6F (.c (.bool true)) f6C6 (tmOf f6L6) (hpOf 2166 f6M6) := good_piece fits f6S f6Q6 hso f6A6 f6G7
theorem f6G5 (hso : slotsOk f6F.ntmps f6C5 = true) : Go.Abs.Good Go.Proofs.Tryz.prog f6F (.c (.bool true)) f6C5 (tmOf f6L5) (hpOf 1549 f6M5) := good_piece fits f6S f6Q5 hso f6A5 f6G6
theorem f6G4 (hso : slotsOk f6F.ntmps f6C4 = true) : Go.Abs.Good Go.Proofs.Tryz.prog f6F (.c (.bool true)) f6C4 (tmOf f6L4) (hpOf 778 f6M4) := good_piece fits f6S f6Q4 hso f6A4 f6G5
theorem f6G3 (hso : slotsOk f6F.ntmps f6C3 = true) : Go.Abs.Good Go.Proofs.Tryz.prog f6F (.c (.bool true)) f6C3 (tmOf f6L3) (hpOf 162 f6M3) := good_piece fits f6S f6Q3 hso f6A3 f6G4
theorem f6G2 (hso : slotsOk f6F.ntmps f6C2 = true) : Go.Abs.Good Go.Proofs.Tryz.prog f6F (.c (.bool true)) f6C2 (tmOf f6L2) (hpOf 81 f6M2) := good_piece fits f6S f6Q2 hso f6A2 f6G3
theorem f6G1 (hso : slotsOk f6F.ntmps f6C1 = true) : Go.Abs.Good Go.Proofs.Tryz.prog f6F (.c (.bool true)) f6C1 (tmOf f6L1) (hpOf 0 f6M1) := good_piece fits f6S f6Q1 hso f6A1 f6G2
theorem f6G0 (hso : slotsOk f6F.ntmps f6C0 = true) : Go.Abs.Good Go.Proofs.Tryz.prog f6F (.c (.bool true)) f6C0 (tmOf f6L0) (hpOf 0 f6M0) := good_piece fits f6S f6Q0 hso f6A0 f6G1
theorem f6Closed : Closed Go.Proofs.Tryz.prog 6 true := closed_of f6K (f6G0 (okAt_eq f6K).2.2.1)

def tbl : List (Nat × Bool) := [(6, true)]
theorem htab : TabOk Go.Proofs.Tryz.prog tbl := fun x (hx : x ∈ [((6 : Nat), true)]) => by
  rcases List.mem_cons.1 hx with rfl | hx
  · exact ⟨f6K, f6Closed⟩
  · cases hx

end
end Go.Proofs.YtbhdgedghfibcaaGreat

