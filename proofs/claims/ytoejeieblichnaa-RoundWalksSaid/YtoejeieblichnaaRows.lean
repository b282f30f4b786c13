/-
  No cell of these rows narrows 'for every input' (looked for: loops, veiled, ifaces, maps, wideKeys, modest, calm, conditions, laid).
  DERIVED. THE GIVEN ROWS OF THIS SEAT. 13 by the template 'for every input the law returns true; each argument reads behind the call as it read before'; 0 by the template 'total and deterministic' (their statements: YtoejeieblichnaaTotals.lean).
  GIVEN WITH THE SEED: the statements are not yours to turn. If you find one false, say at which input.
  Laid BY PROGRAM, IN A SANDBOX (cutbox-rows.mjs): the forced cells as the released guide's own fill.sh prints them over the translation 1ff365d9f4c776d2… (all of the seat's roots in one cut). By AI agents, Wed Nov 11 2026. No macro, syntax, notation, axiom, sorry.
-/
import Derived.Test.YtoejeieblichnaaChecked
import GoSem.Claim
import GoSem.ClaimJoined
import GoSem.ClaimMapViews
import Derived.JoinedTies
import Derived.KernelRfl
namespace Go.Proofs.Ytoejeieblichnaa
/- THE CELL 'sum', in the pinned program and in every row, IS THE sha256 OF THE DUMP (.gsa) THAT YtoejeieblichnaaProg.lean LOADS. Nothing in Lean hashes anything: it is a label: what it is worth is what the hold of that sum in a sandbox is worth. -/
noncomputable def Try.pinned : Pinned := { name := "ytoejeieblichnaa", sum := "1ff365d9f4c776d27d61524dbdec9a3d74b5d8e5da503d4179901d982be5504c", checked := Try.checked }
namespace Rows
def none {H : Type} : Left H := { results := [], args := [] }

/-- 'hailstonelaw06.RoundWalks': WHATEVER THE INPUT: true; the input reads as it did. -/
def roundWalksSpec : ChangeSpec := { name := "roundWalks", fn := fun _ => fun
  | [d1, d2] => { results := [.lit (.bool true)], args := [d1, d2] }
  | _ => none }
def roundWalksRow : OpenClaim := { program := "ytoejeieblichnaa", sum := "1ff365d9f4c776d27d61524dbdec9a3d74b5d8e5da503d4179901d982be5504c", func := "hailstone/hailstonelaw06.RoundWalks", spec := "roundWalks", unfollowed := true, recurses := true, plainKeys := false, apart := false }
def RoundWalksSaid : Prop := roundWalksRow.holds Try.pinned (OpenSpec.ofChange roundWalksSpec)

/-- ITS FALSE NEIGHBOUR: 'it returns false'. Refute it at one input. -/
def roundWalksWrong : ChangeSpec := { name := "roundWalks", fn := fun _ => fun
  | [d1, d2] => { results := [.lit (.bool false)], args := [d1, d2] }
  | _ => none }
def RoundWalksWrongFalsely : Prop := roundWalksRow.holds Try.pinned (OpenSpec.ofChange roundWalksWrong)

/-- 'hailstonelaw06.RoundPlans': WHATEVER THE INPUT: true; the input reads as it did. -/
def roundPlansSpec : ChangeSpec := { name := "roundPlans", fn := fun _ => fun
  | [d1, d2] => { results := [.lit (.bool true)], args := [d1, d2] }
  | _ => none }
def roundPlansRow : OpenClaim := { program := "ytoejeieblichnaa", sum := "1ff365d9f4c776d27d61524dbdec9a3d74b5d8e5da503d4179901d982be5504c", func := "hailstone/hailstonelaw06.RoundPlans", spec := "roundPlans", unfollowed := true, recurses := true, plainKeys := false, apart := false }
def RoundPlansSaid : Prop := roundPlansRow.holds Try.pinned (OpenSpec.ofChange roundPlansSpec)

/-- ITS FALSE NEIGHBOUR: 'it returns false'. Refute it at one input. -/
def roundPlansWrong : ChangeSpec := { name := "roundPlans", fn := fun _ => fun
  | [d1, d2] => { results := [.lit (.bool false)], args := [d1, d2] }
  | _ => none }
def RoundPlansWrongFalsely : Prop := roundPlansRow.holds Try.pinned (OpenSpec.ofChange roundPlansWrong)

/-- 'hailstonelaw06.RoundDays': WHATEVER THE INPUT: true; the input reads as it did. -/
def roundDaysSpec : ChangeSpec := { name := "roundDays", fn := fun _ => fun
  | [d1, d2, d3] => { results := [.lit (.bool true)], args := [d1, d2, d3] }
  | _ => none }
def roundDaysRow : OpenClaim := { program := "ytoejeieblichnaa", sum := "1ff365d9f4c776d27d61524dbdec9a3d74b5d8e5da503d4179901d982be5504c", func := "hailstone/hailstonelaw06.RoundDays", spec := "roundDays", unfollowed := true, recurses := true, plainKeys := false, apart := false }
def RoundDaysSaid : Prop := roundDaysRow.holds Try.pinned (OpenSpec.ofChange roundDaysSpec)

/-- ITS FALSE NEIGHBOUR: 'it returns false'. Refute it at one input. -/
def roundDaysWrong : ChangeSpec := { name := "roundDays", fn := fun _ => fun
  | [d1, d2, d3] => { results := [.lit (.bool false)], args := [d1, d2, d3] }
  | _ => none }
def RoundDaysWrongFalsely : Prop := roundDaysRow.holds Try.pinned (OpenSpec.ofChange roundDaysWrong)

/-- 'hailstonelaw06.RoundLeaves': WHATEVER THE INPUT: true; the input reads as it did. -/
def roundLeavesSpec : ChangeSpec := { name := "roundLeaves", fn := fun _ => fun
  | [d1, d2] => { results := [.lit (.bool true)], args := [d1, d2] }
  | _ => none }
def roundLeavesRow : OpenClaim := { program := "ytoejeieblichnaa", sum := "1ff365d9f4c776d27d61524dbdec9a3d74b5d8e5da503d4179901d982be5504c", func := "hailstone/hailstonelaw06.RoundLeaves", spec := "roundLeaves", unfollowed := true, recurses := true, plainKeys := false, apart := false }
def RoundLeavesSaid : Prop := roundLeavesRow.holds Try.pinned (OpenSpec.ofChange roundLeavesSpec)

/-- ITS FALSE NEIGHBOUR: 'it returns false'. Refute it at one input. -/
def roundLeavesWrong : ChangeSpec := { name := "roundLeaves", fn := fun _ => fun
  | [d1, d2] => { results := [.lit (.bool false)], args := [d1, d2] }
  | _ => none }
def RoundLeavesWrongFalsely : Prop := roundLeavesRow.holds Try.pinned (OpenSpec.ofChange roundLeavesWrong)

/-- 'hailstonelaw06.RoundNames': WHATEVER THE INPUT: true; the input reads as it did. -/
def roundNamesSpec : ChangeSpec := { name := "roundNames", fn := fun _ => fun
  | [] => { results := [.lit (.bool true)], args := [] }
  | _ => none }
def roundNamesRow : OpenClaim := { program := "ytoejeieblichnaa", sum := "1ff365d9f4c776d27d61524dbdec9a3d74b5d8e5da503d4179901d982be5504c", func := "hailstone/hailstonelaw06.RoundNames", spec := "roundNames", unfollowed := true, recurses := true, plainKeys := false, apart := false }
def RoundNamesSaid : Prop := roundNamesRow.holds Try.pinned (OpenSpec.ofChange roundNamesSpec)

/-- ITS FALSE NEIGHBOUR: 'it returns false'. Refute it at one input. -/
def roundNamesWrong : ChangeSpec := { name := "roundNames", fn := fun _ => fun
  | [] => { results := [.lit (.bool false)], args := [] }
  | _ => none }
def RoundNamesWrongFalsely : Prop := roundNamesRow.holds Try.pinned (OpenSpec.ofChange roundNamesWrong)

/-- 'hailstonelaw06.RoundShown': WHATEVER THE INPUT: true; the input reads as it did. -/
def roundShownSpec : ChangeSpec := { name := "roundShown", fn := fun _ => fun
  | [d] => { results := [.lit (.bool true)], args := [d] }
  | _ => none }
def roundShownRow : OpenClaim := { program := "ytoejeieblichnaa", sum := "1ff365d9f4c776d27d61524dbdec9a3d74b5d8e5da503d4179901d982be5504c", func := "hailstone/hailstonelaw06.RoundShown", spec := "roundShown", unfollowed := true, recurses := true, plainKeys := false, apart := false }
def RoundShownSaid : Prop := roundShownRow.holds Try.pinned (OpenSpec.ofChange roundShownSpec)

/-- ITS FALSE NEIGHBOUR: 'it returns false'. Refute it at one input. -/
def roundShownWrong : ChangeSpec := { name := "roundShown", fn := fun _ => fun
  | [d] => { results := [.lit (.bool false)], args := [d] }
  | _ => none }
def RoundShownWrongFalsely : Prop := roundShownRow.holds Try.pinned (OpenSpec.ofChange roundShownWrong)

/-- 'hailstonelaw06.RoundLengths': WHATEVER THE INPUT: true; the input reads as it did. -/
def roundLengthsSpec : ChangeSpec := { name := "roundLengths", fn := fun _ => fun
  | [d1, d2, d3] => { results := [.lit (.bool true)], args := [d1, d2, d3] }
  | _ => none }
def roundLengthsRow : OpenClaim := { program := "ytoejeieblichnaa", sum := "1ff365d9f4c776d27d61524dbdec9a3d74b5d8e5da503d4179901d982be5504c", func := "hailstone/hailstonelaw06.RoundLengths", spec := "roundLengths", unfollowed := true, recurses := true, plainKeys := false, apart := false }
def RoundLengthsSaid : Prop := roundLengthsRow.holds Try.pinned (OpenSpec.ofChange roundLengthsSpec)

/-- ITS FALSE NEIGHBOUR: 'it returns false'. Refute it at one input. -/
def roundLengthsWrong : ChangeSpec := { name := "roundLengths", fn := fun _ => fun
  | [d1, d2, d3] => { results := [.lit (.bool false)], args := [d1, d2, d3] }
  | _ => none }
def RoundLengthsWrongFalsely : Prop := roundLengthsRow.holds Try.pinned (OpenSpec.ofChange roundLengthsWrong)

/-- 'hailstonelaw06.RoundMore': WHATEVER THE INPUT: true; the input reads as it did. -/
def roundMoreSpec : ChangeSpec := { name := "roundMore", fn := fun _ => fun
  | [d1, d2, d3, d4, d5] => { results := [.lit (.bool true)], args := [d1, d2, d3, d4, d5] }
  | _ => none }
def roundMoreRow : OpenClaim := { program := "ytoejeieblichnaa", sum := "1ff365d9f4c776d27d61524dbdec9a3d74b5d8e5da503d4179901d982be5504c", func := "hailstone/hailstonelaw06.RoundMore", spec := "roundMore", unfollowed := true, recurses := true, plainKeys := false, apart := false }
def RoundMoreSaid : Prop := roundMoreRow.holds Try.pinned (OpenSpec.ofChange roundMoreSpec)

/-- ITS FALSE NEIGHBOUR: 'it returns false'. Refute it at one input. -/
def roundMoreWrong : ChangeSpec := { name := "roundMore", fn := fun _ => fun
  | [d1, d2, d3, d4, d5] => { results := [.lit (.bool false)], args := [d1, d2, d3, d4, d5] }
  | _ => none }
def RoundMoreWrongFalsely : Prop := roundMoreRow.holds Try.pinned (OpenSpec.ofChange roundMoreWrong)

/-- 'hailstonelaw06.RoundFarm': WHATEVER THE INPUT: true; the input reads as it did. -/
def roundFarmSpec : ChangeSpec := { name := "roundFarm", fn := fun _ => fun
  | [d1, d2, d3] => { results := [.lit (.bool true)], args := [d1, d2, d3] }
  | _ => none }
def roundFarmRow : OpenClaim := { program := "ytoejeieblichnaa", sum := "1ff365d9f4c776d27d61524dbdec9a3d74b5d8e5da503d4179901d982be5504c", func := "hailstone/hailstonelaw06.RoundFarm", spec := "roundFarm", unfollowed := true, recurses := true, plainKeys := false, apart := false }
def RoundFarmSaid : Prop := roundFarmRow.holds Try.pinned (OpenSpec.ofChange roundFarmSpec)

/-- ITS FALSE NEIGHBOUR: 'it returns false'. Refute it at one input. -/
def roundFarmWrong : ChangeSpec := { name := "roundFarm", fn := fun _ => fun
  | [d1, d2, d3] => { results := [.lit (.bool false)], args := [d1, d2, d3] }
  | _ => none }
def RoundFarmWrongFalsely : Prop := roundFarmRow.holds Try.pinned (OpenSpec.ofChange roundFarmWrong)

/-- 'hailstonelaw06.RoundLeft': WHATEVER THE INPUT: true; the input reads as it did. -/
def roundLeftSpec : ChangeSpec := { name := "roundLeft", fn := fun _ => fun
  | [d1, d2] => { results := [.lit (.bool true)], args := [d1, d2] }
  | _ => none }
def roundLeftRow : OpenClaim := { program := "ytoejeieblichnaa", sum := "1ff365d9f4c776d27d61524dbdec9a3d74b5d8e5da503d4179901d982be5504c", func := "hailstone/hailstonelaw06.RoundLeft", spec := "roundLeft", unfollowed := true, recurses := true, plainKeys := false, apart := false }
def RoundLeftSaid : Prop := roundLeftRow.holds Try.pinned (OpenSpec.ofChange roundLeftSpec)

/-- ITS FALSE NEIGHBOUR: 'it returns false'. Refute it at one input. -/
def roundLeftWrong : ChangeSpec := { name := "roundLeft", fn := fun _ => fun
  | [d1, d2] => { results := [.lit (.bool false)], args := [d1, d2] }
  | _ => none }
def RoundLeftWrongFalsely : Prop := roundLeftRow.holds Try.pinned (OpenSpec.ofChange roundLeftWrong)

/-- 'hailstonelaw06.RoundProofs': WHATEVER THE INPUT: true; the input reads as it did. -/
def roundProofsSpec : ChangeSpec := { name := "roundProofs", fn := fun _ => fun
  | [d1, d2] => { results := [.lit (.bool true)], args := [d1, d2] }
  | _ => none }
def roundProofsRow : OpenClaim := { program := "ytoejeieblichnaa", sum := "1ff365d9f4c776d27d61524dbdec9a3d74b5d8e5da503d4179901d982be5504c", func := "hailstone/hailstonelaw06.RoundProofs", spec := "roundProofs", unfollowed := true, recurses := true, plainKeys := false, apart := false }
def RoundProofsSaid : Prop := roundProofsRow.holds Try.pinned (OpenSpec.ofChange roundProofsSpec)

/-- ITS FALSE NEIGHBOUR: 'it returns false'. Refute it at one input. -/
def roundProofsWrong : ChangeSpec := { name := "roundProofs", fn := fun _ => fun
  | [d1, d2] => { results := [.lit (.bool false)], args := [d1, d2] }
  | _ => none }
def RoundProofsWrongFalsely : Prop := roundProofsRow.holds Try.pinned (OpenSpec.ofChange roundProofsWrong)

/-- 'hailstonelaw06.RoundSure': WHATEVER THE INPUT: true; the input reads as it did. -/
def roundSureSpec : ChangeSpec := { name := "roundSure", fn := fun _ => fun
  | [d1, d2, d3] => { results := [.lit (.bool true)], args := [d1, d2, d3] }
  | _ => none }
def roundSureRow : OpenClaim := { program := "ytoejeieblichnaa", sum := "1ff365d9f4c776d27d61524dbdec9a3d74b5d8e5da503d4179901d982be5504c", func := "hailstone/hailstonelaw06.RoundSure", spec := "roundSure", unfollowed := true, recurses := true, plainKeys := false, apart := false }
def RoundSureSaid : Prop := roundSureRow.holds Try.pinned (OpenSpec.ofChange roundSureSpec)

/-- ITS FALSE NEIGHBOUR: 'it returns false'. Refute it at one input. -/
def roundSureWrong : ChangeSpec := { name := "roundSure", fn := fun _ => fun
  | [d1, d2, d3] => { results := [.lit (.bool false)], args := [d1, d2, d3] }
  | _ => none }
def RoundSureWrongFalsely : Prop := roundSureRow.holds Try.pinned (OpenSpec.ofChange roundSureWrong)

/-- 'hailstonelaw06.RoundMoved': WHATEVER THE INPUT: true; the input reads as it did. -/
def roundMovedSpec : ChangeSpec := { name := "roundMoved", fn := fun _ => fun
  | [d1, d2, d3, d4] => { results := [.lit (.bool true)], args := [d1, d2, d3, d4] }
  | _ => none }
def roundMovedRow : OpenClaim := { program := "ytoejeieblichnaa", sum := "1ff365d9f4c776d27d61524dbdec9a3d74b5d8e5da503d4179901d982be5504c", func := "hailstone/hailstonelaw06.RoundMoved", spec := "roundMoved", unfollowed := true, recurses := true, plainKeys := false, apart := false }
def RoundMovedSaid : Prop := roundMovedRow.holds Try.pinned (OpenSpec.ofChange roundMovedSpec)

/-- ITS FALSE NEIGHBOUR: 'it returns false'. Refute it at one input. -/
def roundMovedWrong : ChangeSpec := { name := "roundMoved", fn := fun _ => fun
  | [d1, d2, d3, d4] => { results := [.lit (.bool false)], args := [d1, d2, d3, d4] }
  | _ => none }
def RoundMovedWrongFalsely : Prop := roundMovedRow.holds Try.pinned (OpenSpec.ofChange roundMovedWrong)

/- THE SECOND FORM. 'bulk': how many values and letters a reading holds, each counted each time it is reached (what is shared counts as often as it is met; a slice's spare places count too). A statement '..UptoSaid' is the law's where the arguments, and the package variables that the reading takes, are together of bulk at most 1048576: NARROWER than '..Said'. Prove '..Said' where nothing that the law and all that it calls make is longer than what came in: it says more and counts as full. Else prove '..UptoSaid'. A law counts once. -/
mutual
def uptoBulk {H : Type} : DataW H → Nat
  | .lit (.string bytes) => bytes.length + 1
  | .lit _ => 1
  | .nil => 1
  | .ptr d => uptoBulk d + 1
  | .slice elems spare => uptoBulkAll elems + uptoBulkAll spare + 1
  | .agg parts => uptoBulkAll parts + 1
  | .iface _ d => uptoBulk d + 1
  | .map entries => uptoBulkEntries entries + 1
  | .held _ => 1
def uptoBulkAll {H : Type} : List (DataW H) → Nat
  | [] => 0
  | d :: r => uptoBulk d + uptoBulkAll r
def uptoBulkEntries {H : Type} : List (Lit × DataW H) → Nat
  | [] => 0
  | x :: r => uptoBulkEntry x + uptoBulkEntries r
def uptoBulkEntry {H : Type} : Lit × DataW H → Nat
  | (.string bytes, d) => bytes.length + uptoBulk d + 1
  | (_, d) => uptoBulk d + 1
 end
def uptoSmall : (H : Type) → List (DataW H) → Bool := fun _ ds => decide (uptoBulkAll ds ≤ 1048576)
def OpenSpec.upto (s : _root_.Go.ChangeSpec) : _root_.Go.OpenSpec := { _root_.Go.OpenSpec.ofChange s with cond := some uptoSmall }

/-- 'hailstonelaw06.RoundWalks', WHERE WHAT IT READS IS OF BULK AT MOST 1048576: true; the input reads as it did. -/
def roundWalksUptoRow : OpenClaim := { program := "ytoejeieblichnaa", sum := "1ff365d9f4c776d27d61524dbdec9a3d74b5d8e5da503d4179901d982be5504c", func := "hailstone/hailstonelaw06.RoundWalks", spec := "roundWalks", unfollowed := true, recurses := true, plainKeys := false, apart := false, narrowed := true }
def RoundWalksUptoSaid : Prop := roundWalksUptoRow.holds Try.pinned (OpenSpec.upto roundWalksSpec)

/-- 'hailstonelaw06.RoundPlans', WHERE WHAT IT READS IS OF BULK AT MOST 1048576: true; the input reads as it did. -/
def roundPlansUptoRow : OpenClaim := { program := "ytoejeieblichnaa", sum := "1ff365d9f4c776d27d61524dbdec9a3d74b5d8e5da503d4179901d982be5504c", func := "hailstone/hailstonelaw06.RoundPlans", spec := "roundPlans", unfollowed := true, recurses := true, plainKeys := false, apart := false, narrowed := true }
def RoundPlansUptoSaid : Prop := roundPlansUptoRow.holds Try.pinned (OpenSpec.upto roundPlansSpec)

/-- 'hailstonelaw06.RoundDays', WHERE WHAT IT READS IS OF BULK AT MOST 1048576: true; the input reads as it did. -/
def roundDaysUptoRow : OpenClaim := { program := "ytoejeieblichnaa", sum := "1ff365d9f4c776d27d61524dbdec9a3d74b5d8e5da503d4179901d982be5504c", func := "hailstone/hailstonelaw06.RoundDays", spec := "roundDays", unfollowed := true, recurses := true, plainKeys := false, apart := false, narrowed := true }
def RoundDaysUptoSaid : Prop := roundDaysUptoRow.holds Try.pinned (OpenSpec.upto roundDaysSpec)

/-- 'hailstonelaw06.RoundLeaves', WHERE WHAT IT READS IS OF BULK AT MOST 1048576: true; the input reads as it did. -/
def roundLeavesUptoRow : OpenClaim := { program := "ytoejeieblichnaa", sum := "1ff365d9f4c776d27d61524dbdec9a3d74b5d8e5da503d4179901d982be5504c", func := "hailstone/hailstonelaw06.RoundLeaves", spec := "roundLeaves", unfollowed := true, recurses := true, plainKeys := false, apart := false, narrowed := true }
def RoundLeavesUptoSaid : Prop := roundLeavesUptoRow.holds Try.pinned (OpenSpec.upto roundLeavesSpec)

/-- 'hailstonelaw06.RoundNames', WHERE WHAT IT READS IS OF BULK AT MOST 1048576: true; the input reads as it did. -/
def roundNamesUptoRow : OpenClaim := { program := "ytoejeieblichnaa", sum := "1ff365d9f4c776d27d61524dbdec9a3d74b5d8e5da503d4179901d982be5504c", func := "hailstone/hailstonelaw06.RoundNames", spec := "roundNames", unfollowed := true, recurses := true, plainKeys := false, apart := false, narrowed := true }
def RoundNamesUptoSaid : Prop := roundNamesUptoRow.holds Try.pinned (OpenSpec.upto roundNamesSpec)

/-- 'hailstonelaw06.RoundShown', WHERE WHAT IT READS IS OF BULK AT MOST 1048576: true; the input reads as it did. -/
def roundShownUptoRow : OpenClaim := { program := "ytoejeieblichnaa", sum := "1ff365d9f4c776d27d61524dbdec9a3d74b5d8e5da503d4179901d982be5504c", func := "hailstone/hailstonelaw06.RoundShown", spec := "roundShown", unfollowed := true, recurses := true, plainKeys := false, apart := false, narrowed := true }
def RoundShownUptoSaid : Prop := roundShownUptoRow.holds Try.pinned (OpenSpec.upto roundShownSpec)

/-- 'hailstonelaw06.RoundLengths', WHERE WHAT IT READS IS OF BULK AT MOST 1048576: true; the input reads as it did. -/
def roundLengthsUptoRow : OpenClaim := { program := "ytoejeieblichnaa", sum := "1ff365d9f4c776d27d61524dbdec9a3d74b5d8e5da503d4179901d982be5504c", func := "hailstone/hailstonelaw06.RoundLengths", spec := "roundLengths", unfollowed := true, recurses := true, plainKeys := false, apart := false, narrowed := true }
def RoundLengthsUptoSaid : Prop := roundLengthsUptoRow.holds Try.pinned (OpenSpec.upto roundLengthsSpec)

/-- 'hailstonelaw06.RoundMore', WHERE WHAT IT READS IS OF BULK AT MOST 1048576: true; the input reads as it did. -/
def roundMoreUptoRow : OpenClaim := { program := "ytoejeieblichnaa", sum := "1ff365d9f4c776d27d61524dbdec9a3d74b5d8e5da503d4179901d982be5504c", func := "hailstone/hailstonelaw06.RoundMore", spec := "roundMore", unfollowed := true, recurses := true, plainKeys := false, apart := false, narrowed := true }
def RoundMoreUptoSaid : Prop := roundMoreUptoRow.holds Try.pinned (OpenSpec.upto roundMoreSpec)

/-- 'hailstonelaw06.RoundFarm', WHERE WHAT IT READS IS OF BULK AT MOST 1048576: true; the input reads as it did. -/
def roundFarmUptoRow : OpenClaim := { program := "ytoejeieblichnaa", sum := "1ff365d9f4c776d27d61524dbdec9a3d74b5d8e5da503d4179901d982be5504c", func := "hailstone/hailstonelaw06.RoundFarm", spec := "roundFarm", unfollowed := true, recurses := true, plainKeys := false, apart := false, narrowed := true }
def RoundFarmUptoSaid : Prop := roundFarmUptoRow.holds Try.pinned (OpenSpec.upto roundFarmSpec)

/-- 'hailstonelaw06.RoundLeft', WHERE WHAT IT READS IS OF BULK AT MOST 1048576: true; the input reads as it did. -/
def roundLeftUptoRow : OpenClaim := { program := "ytoejeieblichnaa", sum := "1ff365d9f4c776d27d61524dbdec9a3d74b5d8e5da503d4179901d982be5504c", func := "hailstone/hailstonelaw06.RoundLeft", spec := "roundLeft", unfollowed := true, recurses := true, plainKeys := false, apart := false, narrowed := true }
def RoundLeftUptoSaid : Prop := roundLeftUptoRow.holds Try.pinned (OpenSpec.upto roundLeftSpec)

/-- 'hailstonelaw06.RoundProofs', WHERE WHAT IT READS IS OF BULK AT MOST 1048576: true; the input reads as it did. -/
def roundProofsUptoRow : OpenClaim := { program := "ytoejeieblichnaa", sum := "1ff365d9f4c776d27d61524dbdec9a3d74b5d8e5da503d4179901d982be5504c", func := "hailstone/hailstonelaw06.RoundProofs", spec := "roundProofs", unfollowed := true, recurses := true, plainKeys := false, apart := false, narrowed := true }
def RoundProofsUptoSaid : Prop := roundProofsUptoRow.holds Try.pinned (OpenSpec.upto roundProofsSpec)

/-- 'hailstonelaw06.RoundSure', WHERE WHAT IT READS IS OF BULK AT MOST 1048576: true; the input reads as it did. -/
def roundSureUptoRow : OpenClaim := { program := "ytoejeieblichnaa", sum := "1ff365d9f4c776d27d61524dbdec9a3d74b5d8e5da503d4179901d982be5504c", func := "hailstone/hailstonelaw06.RoundSure", spec := "roundSure", unfollowed := true, recurses := true, plainKeys := false, apart := false, narrowed := true }
def RoundSureUptoSaid : Prop := roundSureUptoRow.holds Try.pinned (OpenSpec.upto roundSureSpec)

/-- 'hailstonelaw06.RoundMoved', WHERE WHAT IT READS IS OF BULK AT MOST 1048576: true; the input reads as it did. -/
def roundMovedUptoRow : OpenClaim := { program := "ytoejeieblichnaa", sum := "1ff365d9f4c776d27d61524dbdec9a3d74b5d8e5da503d4179901d982be5504c", func := "hailstone/hailstonelaw06.RoundMoved", spec := "roundMoved", unfollowed := true, recurses := true, plainKeys := false, apart := false, narrowed := true }
def RoundMovedUptoSaid : Prop := roundMovedUptoRow.holds Try.pinned (OpenSpec.upto roundMovedSpec)

end Rows
end Go.Proofs.Ytoejeieblichnaa
