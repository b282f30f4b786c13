/- Function 20, run in pieces: it returns true. Condition: none; a lemma text of this claim. -/
import Derived.Test.YtgkjfhkjgdiodaaFits
namespace Go.Proofs.Ytgkjfhkjgdiodaa
open Go.Abs
noncomputable section
/-! ### function 20, piece by piece -/
def f20F : Func := fnAt Go.Proofs.Try.prog 20
def f20T : List (Nat × Bool) := []
def f20R : Rec := tab f20T (ev Go.Proofs.Try.prog 100000)
theorem f20S : Sound Go.Proofs.Try.prog f20R := tab_sound (fun _ hx => by cases hx) (ev_sound fits 100000)
theorem f20K : okAt Go.Proofs.Try.prog 20 = true := by kernel_rfl
def f20C0 : Code := bodyAt Go.Proofs.Try.prog 20
def f20L0 : List (Nat × V) := []
def f20M0 : List (Nat × AO) := []
def f20C1 : Code := seqR f20C0
def f20L1 : List (Nat × V) := [(0, .c (.bool false))]
def f20M1 : List (Nat × AO) := []
def f20C2 : Code := seqR f20C1
def f20L2 : List (Nat × V) := [(0, .c (.bool false)), (1, .c (.sl 37 0 3 1 none)), (2, .c (.int .i64 (.ofNat 0)))]
def f20M2 : List (Nat × AO) := [(37, .cells 3 [.int .i64 (.ofNat 2), .int .i64 (.ofNat 3), .int .i64 (.ofNat 0)] true)]
def f20C3 : Code := seqR f20C2
def f20L3 : List (Nat × V) := [(0, .c (.bool false)), (1, .c (.sl 37 0 3 1 none)), (2, .c (.int .i64 (.ofNat 0))), (3, .c (.int .i64 (.ofNat 62))), (4, .c (.int .i64 (.ofNat 0)))]
def f20M3 : List (Nat × AO) := [(37, .cells 3 [.int .i64 (.ofNat 2), .int .i64 (.ofNat 3), .int .i64 (.ofNat 0)] true)]
def f20C4 : Code := seqR f20C3
def f20L4 : List (Nat × V) := [(0, .c (.bool false)), (1, .c (.sl 37 0 3 1 none)), (2, .c (.int .i64 (.ofNat 0))), (3, .c (.int .i64 (.ofNat 62))), (4, .c (.int .i64 (.ofNat 0))), (5, .c (.ptr 1005 0)), (6, .c (.int .i64 (.ofNat 0)))]
def f20M4 : List (Nat × AO) := [(1005, .cells 2 [.int .i64 (.ofNat 37), .int .i64 (.ofNat 75)] false), (37, .cells 3 [.int .i64 (.ofNat 2), .int .i64 (.ofNat 3), .int .i64 (.ofNat 0)] true)]
def f20C5 : Code := seqR f20C4
def f20L5 : List (Nat × V) := [(0, .c (.bool false)), (1, .c (.sl 37 0 3 1 none)), (2, .c (.int .i64 (.ofNat 0))), (3, .c (.int .i64 (.ofNat 62))), (4, .c (.int .i64 (.ofNat 0))), (5, .c (.ptr 1005 0)), (6, .c (.int .i64 (.ofNat 0))), (7, .c (.int .i64 (.ofNat 3))), (8, .c (.int .i64 (.ofNat 0)))]
def f20M5 : List (Nat × AO) := [(1005, .cells 2 [.int .i64 (.ofNat 37), .int .i64 (.ofNat 75)] false), (37, .cells 3 [.int .i64 (.ofNat 2), .int .i64 (.ofNat 3), .int .i64 (.ofNat 0)] true)]
def f20C6 : Code := seqR f20C5
def f20L6 : List (Nat × V) := [(0, .c (.bool false)), (1, .c (.sl 37 0 3 1 none)), (2, .c (.int .i64 (.ofNat 0))), (3, .c (.int .i64 (.ofNat 62))), (4, .c (.int .i64 (.ofNat 0))), (5, .c (.ptr 1005 0)), (6, .c (.int .i64 (.ofNat 0))), (7, .c (.int .i64 (.ofNat 3))), (8, .c (.int .i64 (.ofNat 0))), (9, .c (.sl 3668 0 2 1 none)), (10, .c (.int .i64 (.ofNat 0)))]
def f20M6 : List (Nat × AO) := [(3668, .cells 2 [.int .i64 (.ofNat 2), .int .i64 (.ofNat 3)] true), (1005, .cells 2 [.int .i64 (.ofNat 37), .int .i64 (.ofNat 75)] false), (37, .cells 3 [.int .i64 (.ofNat 2), .int .i64 (.ofNat 3), .int .i64 (.ofNat 0)] true)]
def f20C7 : Code := seqR f20C6
def f20L7 : List (Nat × V) := [(0, .c (.bool false)), (1, .c (.sl 37 0 3 1 none)), (2, .c (.int .i64 (.ofNat 0))), (3, .c (.int .i64 (.ofNat 62))), (4, .c (.int .i64 (.ofNat 0))), (5, .c (.ptr 1005 0)), (6, .c (.int .i64 (.ofNat 0))), (7, .c (.int .i64 (.ofNat 3))), (8, .c (.int .i64 (.ofNat 0))), (9, .c (.sl 3668 0 2 1 none)), (10, .c (.int .i64 (.ofNat 0))), (11, .c (.sl 3923 0 1 1 none)), (12, .c (.int .i64 (.ofNat 0)))]
def f20M7 : List (Nat × AO) := [(3923, .cells 1 [.int .i64 (.ofNat 0)] true), (3668, .cells 2 [.int .i64 (.ofNat 2), .int .i64 (.ofNat 3)] true), (1005, .cells 2 [.int .i64 (.ofNat 37), .int .i64 (.ofNat 75)] false), (37, .cells 3 [.int .i64 (.ofNat 2), .int .i64 (.ofNat 3), .int .i64 (.ofNat 0)] true)]
def f20C8 : Code := seqR f20C7
def f20L8 : List (Nat × V) := [(0, .c (.bool true))]
def f20M8 : List (Nat × AO) := []
theorem f20Q0 : isSeq f20C0 = true := by kernel_rfl
theorem f20A0 : Go.Abs.covers f20L1 0 f20M1 (codeA Go.Proofs.Try.prog f20R (seqL f20C0) (tmOf f20L0) (hpOf 0 f20M0)) = true := by kernel_rfl
theorem f20Q1 : isSeq f20C1 = true := by kernel_rfl
theorem f20A1 : Go.Abs.covers f20L2 38 f20M2 (codeA Go.Proofs.Try.prog f20R (seqL f20C1) (tmOf f20L1) (hpOf 0 f20M1)) = true := by kernel_rfl
theorem f20Q2 : isSeq f20C2 = true := by kernel_rfl
theorem f20A2 : Go.Abs.covers f20L3 84 f20M3 (codeA Go.Proofs.Try.prog f20R (seqL f20C2) (tmOf f20L2) (hpOf 38 f20M2)) = true := by kernel_rfl
theorem f20Q3 : isSeq f20C3 = true := by kernel_rfl
theorem f20A3 : Go.Abs.covers f20L4 1006 f20M4 (codeA Go.Proofs.Try.prog f20R (seqL f20C3) (tmOf f20L3) (hpOf 84 f20M3)) = true := by kernel_rfl
theorem f20Q4 : isSeq f20C4 = true := by kernel_rfl
theorem f20A4 : Go.Abs.covers f20L5 1962 f20M5 (codeA Go.Proofs.Try.prog f20R (seqL f20C4) (tmOf f20L4) (hpOf 1006 f20M4)) = true := by kernel_rfl
theorem f20Q5 : isSeq f20C5 = true := by kernel_rfl
theorem f20A5 : Go.Abs.covers f20L6 3669 f20M6 (codeA Go.Proofs.Try.prog f20R (seqL f20C5) (tmOf f20L5) (hpOf 1962 f20M5)) = true := by kernel_rfl
theorem f20Q6 : isSeq f20C6 = true := by kernel_rfl
theorem f20A6 : Go.Abs.covers f20L7 3924 f20M7 (codeA Go.Proofs.Try.prog f20R (seqL f20C6) (tmOf f20L6) (hpOf 3669 f20M6)) = true := by kernel_rfl
theorem f20Q7 : isSeq f20C7 = true := by kernel_rfl
theorem f20A7 : Go.Abs.covers f20L8 3928 f20M8 (codeA Go.Proofs.Try.prog f20R (seqL f20C7) (tmOf f20L7) (hpOf 3924 f20M7)) = true := by kernel_rfl
theorem f20E : Go.Abs.endsIn (.c (.bool true)) (Go.Abs.bind (codeA Go.Proofs.Try.prog f20R f20C8 (tmOf f20L8) (hpOf 3928 f20M8)) (finishCall Go.Proofs.Try.prog f20F)) = true := by kernel_rfl
theorem f20G8 (hso : slotsOk f20F.ntmps f20C8 = true) : Go.Abs.Good Go.Proofs.Try.prog f20F (.c (.bool true)) f20C8 (tmOf f20L8) (hpOf 3928 f20M8) := good_end fits f20S hso f20E
theorem f20G7 (hso : slotsOk f20F.ntmps f20C7 = true) : Go.Abs.Good Go.Proofs.Try.prog f20F (.c (.bool true)) f20C7 (tmOf f20L7) (hpOf 3924 f20M7) := good_piece fits f20S f20Q7 hso f20A7 f20G8
theorem f20G6 (hso : slotsOk f20F.ntmps f20C6 = true) : Go.Abs.Good Go.Proofs.Try.prog f20F (.c (.bool true)) f20C6 (tmOf f20L6) (hpOf 3669 f20M6) := good_piece fits f20S f20Q6 hso f20A6 f20G7
theorem f20G5 (hso : slotsOk f20F.ntmps f20C5 = true) : Go.Abs.Good Go.Proofs.Try.prog f20F (.c (.bool true)) f20C5 (tmOf f20L5) (hpOf 1962 f20M5) := good_piece fits f20S f20Q5 hso f20A5 f20G6
theorem f20G4 (hso : slotsOk f20F.ntmps f20C4 = true) : Go.Abs.Good Go.Proofs.Try.prog f20F (.c (.bool true)) f20C4 (tmOf f20L4) (hpOf 1006 f20M4) := good_piece fits f20S f20Q4 hso f20A4 f20G5
theorem f20G3 (hso : slotsOk f20F.ntmps f20C3 = true) : Go.Abs.Good Go.Proofs.Try.prog f20F (.c (.bool true)) f20C3 (tmOf f20L3) (hpOf 84 f20M3) := good_piece fits f20S f20Q3 hso f20A3 f20G4
theorem f20G2 (hso : slotsOk f20F.ntmps f20C2 = true) : Go.Abs.Good Go.Proofs.Try.prog f20F (.c (.bool true)) f20C2 (tmOf f20L2) (hpOf 38 f20M2) := good_piece fits f20S f20Q2 hso f20A2 f20G3
theorem f20G1 (hso : slotsOk f20F.ntmps f20C1 = true) : Go.Abs.Good Go.Proofs.Try.prog f20F (.c (.bool true)) f20C1 (tmOf f20L1) (hpOf 0 f20M1) := good_piece fits f20S f20Q1 hso f20A1 f20G2
theorem f20G0 (hso : slotsOk f20F.ntmps f20C0 = true) : Go.Abs.Good Go.Proofs.Try.prog f20F (.c (.bool true)) f20C0 (tmOf f20L0) (hpOf 0 f20M0) := good_piece fits f20S f20Q0 hso f20A0 f20G1
theorem f20Closed : Closed Go.Proofs.Try.prog 20 true := closed_of f20K (f20G0 (okAt_eq f20K).2.2.1)
def tbl : List (Nat × Bool) := [(20, true)]
theorem htab : TabOk Go.Proofs.Try.prog tbl := fun x (hx : x ∈ [((20 : Nat), true)]) => by
  rcases List.mem_cons.1 hx with rfl | hx
  · exact ⟨f20K, f20Closed⟩
  · cases hx

end
end Go.Proofs.Ytgkjfhkjgdiodaa
