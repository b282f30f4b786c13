/- The function awake, run in pieces: it returns true. Condition: none; a lemma text of this claim. -/
import Derived.Test.YthodopijfambiaaGreatFits
namespace Go.Proofs.YthodopijfambiaaGreat
open Go.Abs
noncomputable section
/-! ### function 17, piece by piece -/
def awakeF : Func := fnAt Tryz.prog 17
def awakeT : List (Nat × Bool) := []
def awakeR : Rec := tab awakeT (ev Tryz.prog 100000)
theorem awakeS : Sound Tryz.prog awakeR := tab_sound (fun _ hx => by cases hx) (ev_sound fits 100000)
theorem awakeK : okAt Tryz.prog 17 = true := by kernel_rfl
def awakeC0 : Code := bodyAt Tryz.prog 17
def awakeL0 : List (Nat × V) := []
def awakeM0 : List (Nat × AO) := []
def awakeC1 : Code := seqR awakeC0
def awakeL1 : List (Nat × V) := [(0, .c (.bool false))]
def awakeM1 : List (Nat × AO) := []
def awakeC2 : Code := seqR awakeC1
def awakeL2 : List (Nat × V) := [(0, .c (.bool false)), (1, .c (.sl 794 0 2 1 none)), (2, .c (.int .i64 (.ofNat 0)))]
def awakeM2 : List (Nat × AO) := [(794, .cells 2 [.int .i64 (.ofNat 0), .int .i64 (.ofNat 2)] true)]
def awakeC3 : Code := seqR awakeC2
def awakeL3 : List (Nat × V) := [(0, .c (.bool false)), (1, .c (.sl 794 0 2 1 none)), (2, .c (.int .i64 (.ofNat 0))), (3, .c (.sl 1586 0 1 1 none)), (4, .c (.int .i64 (.ofNat 0)))]
def awakeM3 : List (Nat × AO) := [(1586, .cells 1 [.int .i64 (.ofNat 1)] true), (794, .cells 2 [.int .i64 (.ofNat 0), .int .i64 (.ofNat 2)] true)]
def awakeC4 : Code := seqR awakeC3
def awakeL4 : List (Nat × V) := [(0, .c (.bool false)), (1, .c (.sl 794 0 2 1 none)), (2, .c (.int .i64 (.ofNat 0))), (3, .c (.sl 1586 0 1 1 none)), (4, .c (.int .i64 (.ofNat 0))), (5, .c (.int .i64 (.ofNat 3))), (6, .c (.int .i64 (.ofNat 0)))]
def awakeM4 : List (Nat × AO) := [(1586, .cells 1 [.int .i64 (.ofNat 1)] true), (794, .cells 2 [.int .i64 (.ofNat 0), .int .i64 (.ofNat 2)] true)]
def awakeC5 : Code := seqR awakeC4
def awakeL5 : List (Nat × V) := [(0, .c (.bool false)), (1, .c (.sl 794 0 2 1 none)), (2, .c (.int .i64 (.ofNat 0))), (3, .c (.sl 1586 0 1 1 none)), (4, .c (.int .i64 (.ofNat 0))), (5, .c (.int .i64 (.ofNat 3))), (6, .c (.int .i64 (.ofNat 0))), (7, .c (.ptr 3272 0)), (8, .c (.int .i64 (.ofNat 0)))]
def awakeM5 : List (Nat × AO) := [(3272, .cells 2 [.int .i64 (.ofNat 0), .int .i64 (.ofNat 100)] false), (1586, .cells 1 [.int .i64 (.ofNat 1)] true), (794, .cells 2 [.int .i64 (.ofNat 0), .int .i64 (.ofNat 2)] true)]
def awakeC6 : Code := seqR awakeC5
def awakeL6 : List (Nat × V) := [(0, .c (.bool false)), (1, .c (.sl 794 0 2 1 none)), (2, .c (.int .i64 (.ofNat 0))), (3, .c (.sl 1586 0 1 1 none)), (4, .c (.int .i64 (.ofNat 0))), (5, .c (.int .i64 (.ofNat 3))), (6, .c (.int .i64 (.ofNat 0))), (7, .c (.ptr 3272 0)), (8, .c (.int .i64 (.ofNat 0))), (9, .c (.ptr 4088 0)), (10, .c (.int .i64 (.ofNat 0)))]
def awakeM6 : List (Nat × AO) := [(4088, .cells 2 [.int .i64 (.ofNat 4), .int .i64 (.ofNat 6)] false), (3272, .cells 2 [.int .i64 (.ofNat 0), .int .i64 (.ofNat 100)] false), (1586, .cells 1 [.int .i64 (.ofNat 1)] true), (794, .cells 2 [.int .i64 (.ofNat 0), .int .i64 (.ofNat 2)] true)]
def awakeC7 : Code := seqR awakeC6
def awakeL7 : List (Nat × V) := [(0, .c (.bool false)), (1, .c (.sl 794 0 2 1 none)), (2, .c (.int .i64 (.ofNat 0))), (3, .c (.sl 1586 0 1 1 none)), (4, .c (.int .i64 (.ofNat 0))), (5, .c (.int .i64 (.ofNat 3))), (6, .c (.int .i64 (.ofNat 0))), (7, .c (.ptr 3272 0)), (8, .c (.int .i64 (.ofNat 0))), (9, .c (.ptr 4088 0)), (10, .c (.int .i64 (.ofNat 0))), (11, .c (.int .i64 (.ofNat 4))), (12, .c (.int .i64 (.ofNat 0)))]
def awakeM7 : List (Nat × AO) := [(4088, .cells 2 [.int .i64 (.ofNat 4), .int .i64 (.ofNat 6)] false), (3272, .cells 2 [.int .i64 (.ofNat 0), .int .i64 (.ofNat 100)] false), (1586, .cells 1 [.int .i64 (.ofNat 1)] true), (794, .cells 2 [.int .i64 (.ofNat 0), .int .i64 (.ofNat 2)] true)]
def awakeC8 : Code := seqR awakeC7
def awakeL8 : List (Nat × V) := [(0, .c (.bool false)), (1, .c (.sl 794 0 2 1 none)), (2, .c (.int .i64 (.ofNat 0))), (3, .c (.sl 1586 0 1 1 none)), (4, .c (.int .i64 (.ofNat 0))), (5, .c (.int .i64 (.ofNat 3))), (6, .c (.int .i64 (.ofNat 0))), (7, .c (.ptr 3272 0)), (8, .c (.int .i64 (.ofNat 0))), (9, .c (.ptr 4088 0)), (10, .c (.int .i64 (.ofNat 0))), (11, .c (.int .i64 (.ofNat 4))), (12, .c (.int .i64 (.ofNat 0))), (13, .c (.sl 7562 0 1 1 none)), (14, .c (.int .i64 (.ofNat 0)))]
def awakeM8 : List (Nat × AO) := [(7562, .cells 1 [.int .i64 (.ofNat 4)] true), (4088, .cells 2 [.int .i64 (.ofNat 4), .int .i64 (.ofNat 6)] false), (3272, .cells 2 [.int .i64 (.ofNat 0), .int .i64 (.ofNat 100)] false), (1586, .cells 1 [.int .i64 (.ofNat 1)] true), (794, .cells 2 [.int .i64 (.ofNat 0), .int .i64 (.ofNat 2)] true)]
def awakeC9 : Code := seqR awakeC8
def awakeL9 : List (Nat × V) := [(0, .c (.bool true))]
def awakeM9 : List (Nat × AO) := []
theorem awakeQ0 : isSeq awakeC0 = true := by kernel_rfl
theorem awakeA0 : Go.Abs.covers awakeL1 0 awakeM1 (codeA Tryz.prog awakeR (seqL awakeC0) (tmOf awakeL0) (hpOf 0 awakeM0)) = true := by kernel_rfl
theorem awakeQ1 : isSeq awakeC1 = true := by kernel_rfl
theorem awakeA1 : Go.Abs.covers awakeL2 795 awakeM2 (codeA Tryz.prog awakeR (seqL awakeC1) (tmOf awakeL1) (hpOf 0 awakeM1)) = true := by kernel_rfl
theorem awakeQ2 : isSeq awakeC2 = true := by kernel_rfl
theorem awakeA2 : Go.Abs.covers awakeL3 1587 awakeM3 (codeA Tryz.prog awakeR (seqL awakeC2) (tmOf awakeL2) (hpOf 795 awakeM2)) = true := by kernel_rfl
theorem awakeQ3 : isSeq awakeC3 = true := by kernel_rfl
theorem awakeA3 : Go.Abs.covers awakeL4 2376 awakeM4 (codeA Tryz.prog awakeR (seqL awakeC3) (tmOf awakeL3) (hpOf 1587 awakeM3)) = true := by kernel_rfl
theorem awakeQ4 : isSeq awakeC4 = true := by kernel_rfl
theorem awakeA4 : Go.Abs.covers awakeL5 3273 awakeM5 (codeA Tryz.prog awakeR (seqL awakeC4) (tmOf awakeL4) (hpOf 2376 awakeM4)) = true := by kernel_rfl
theorem awakeQ5 : isSeq awakeC5 = true := by kernel_rfl
theorem awakeA5 : Go.Abs.covers awakeL6 4089 awakeM6 (codeA Tryz.prog awakeR (seqL awakeC5) (tmOf awakeL5) (hpOf 3273 awakeM5)) = true := by kernel_rfl
theorem awakeQ6 : isSeq awakeC6 = true := by kernel_rfl
theorem awakeA6 : Go.Abs.covers awakeL7 5146 awakeM7 (codeA Tryz.prog awakeR (seqL awakeC6) (tmOf awakeL6) (hpOf 4089 awakeM6)) = true := by kernel_rfl
theorem awakeQ7 : isSeq awakeC7 = true := by kernel_rfl
theorem awakeA7 : Go.Abs.covers awakeL8 7563 awakeM8 (codeA Tryz.prog awakeR (seqL awakeC7) (tmOf awakeL7) (hpOf 5146 awakeM7)) = true := by kernel_rfl
theorem awakeQ8 : isSeq awakeC8 = true := by kernel_rfl
theorem awakeA8 : Go.Abs.covers awakeL9 7568 awakeM9 (codeA Tryz.prog awakeR (seqL awakeC8) (tmOf awakeL8) (hpOf 7563 awakeM8)) = true := by kernel_rfl
theorem awakeE : Go.Abs.endsIn (.c (.bool true)) (Go.Abs.bind (codeA Tryz.prog awakeR awakeC9 (tmOf awakeL9) (hpOf 7568 awakeM9)) (finishCall Tryz.prog awakeF)) = true := by kernel_rfl
theorem awakeG9 (hso : slotsOk awakeF.ntmps awakeC9 = true) : Good Tryz.prog awakeF (.c (.bool true)) awakeC9 (tmOf awakeL9) (hpOf 7568 awakeM9) := good_end fits awakeS hso awakeE
theorem awakeG8 (hso : slotsOk awakeF.ntmps awakeC8 = true) : Good Tryz.prog awakeF (.c (.bool true)) awakeC8 (tmOf awakeL8) (hpOf 7563 awakeM8) := good_piece fits awakeS awakeQ8 hso awakeA8 awakeG9
theorem awakeG7 (hso : slotsOk awakeF.ntmps awakeC7 = true) : Good Tryz.prog awakeF (.c (.bool true)) awakeC7 (tmOf awakeL7) (hpOf 5146 awakeM7) := good_piece fits awakeS awakeQ7 hso awakeA7 awakeG8
theorem awakeG6 (hso : slotsOk awakeF.ntmps awakeC6 = true) : Good Tryz.prog awakeF (.c (.bool true)) awakeC6 (tmOf awakeL6) (hpOf 4089 awakeM6) := good_piece fits awakeS awakeQ6 hso awakeA6 awakeG7
theorem awakeG5 (hso : slotsOk awakeF.ntmps awakeC5 = true) : Good Tryz.prog awakeF (.c (.bool true)) awakeC5 (tmOf awakeL5) (hpOf 3273 awakeM5) := good_piece fits awakeS awakeQ5 hso awakeA5 awakeG6
theorem awakeG4 (hso : slotsOk awakeF.ntmps awakeC4 = true) : Good Tryz.prog awakeF (.c (.bool true)) awakeC4 (tmOf awakeL4) (hpOf 2376 awakeM4) := good_piece fits awakeS awakeQ4 hso awakeA4 awakeG5
theorem awakeG3 (hso : slotsOk awakeF.ntmps awakeC3 = true) : Good Tryz.prog awakeF (.c (.bool true)) awakeC3 (tmOf awakeL3) (hpOf 1587 awakeM3) := good_piece fits awakeS awakeQ3 hso awakeA3 awakeG4
theorem awakeG2 (hso : slotsOk awakeF.ntmps awakeC2 = true) : Good Tryz.prog awakeF (.c (.bool true)) awakeC2 (tmOf awakeL2) (hpOf 795 awakeM2) := good_piece fits awakeS awakeQ2 hso awakeA2 awakeG3
theorem awakeG1 (hso : slotsOk awakeF.ntmps awakeC1 = true) : Good Tryz.prog awakeF (.c (.bool true)) awakeC1 (tmOf awakeL1) (hpOf 0 awakeM1) := good_piece fits awakeS awakeQ1 hso awakeA1 awakeG2
theorem awakeG0 (hso : slotsOk awakeF.ntmps awakeC0 = true) : Good Tryz.prog awakeF (.c (.bool true)) awakeC0 (tmOf awakeL0) (hpOf 0 awakeM0) := good_piece fits awakeS awakeQ0 hso awakeA0 awakeG1
theorem awakeClosed : Closed Tryz.prog 17 true := closed_of awakeK (awakeG0 (okAt_eq awakeK).2.2.1)
end
end Go.Proofs.YthodopijfambiaaGreat
