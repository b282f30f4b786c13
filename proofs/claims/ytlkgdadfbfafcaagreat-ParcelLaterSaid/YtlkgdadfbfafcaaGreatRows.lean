/-
  No cell of these rows narrows 'for every input' (looked for: loops, veiled, ifaces, maps, wideKeys, modest, calm, conditions, laid).
  DERIVED. THE GIVEN ROWS OF THIS SEAT. 14 by the template 'for every input the law returns true; each argument reads behind the call as it read before'; 0 by the template 'total and deterministic' (their statements: YtlkgdadfbfafcaaGreatTotals.lean).
  GIVEN WITH THE SEED: the statements are not yours to turn. If you find one false, say at which input.
  Laid BY PROGRAM, IN A SANDBOX (cutbox-rows.mjs): the forced cells as the released guide's own fill.sh prints them over the translation e92edbd30931e019… (all of the seat's roots in one cut). By AI agents, Wed Nov 11 2026. No macro, syntax, notation, axiom, sorry.
-/
import Derived.Test.YtlkgdadfbfafcaaGreatChecked
import GoSem.Claim
import GoSem.ClaimJoined
import GoSem.ClaimMapViews
import Derived.JoinedTies
import Derived.KernelRfl
namespace Go.Proofs.YtlkgdadfbfafcaaGreat
/- THE CELL 'sum', in the pinned program and in every row, IS THE sha256 OF THE DUMP (.gsa) THAT YtlkgdadfbfafcaaGreatProg.lean LOADS. Nothing in Lean hashes anything: it is a label: what it is worth is what the hold of that sum in a sandbox is worth. -/
noncomputable def Tryz.pinned : Pinned := { name := "ytlkgdadfbfafcaagreat", sum := "e92edbd30931e0195eea2dd16afd6ded413b37f2358cda4572ed83b469242a07", checked := Tryz.checked }
namespace Rows
def none {H : Type} : Left H := { results := [], args := [] }

/-- 'hailstonelaw01.ParcelPlays': WHATEVER THE INPUT: true; the input reads as it did. -/
def parcelPlaysSpec : ChangeSpec := { name := "parcelPlays", fn := fun _ => fun
  | [d1, d2, d3] => { results := [.lit (.bool true)], args := [d1, d2, d3] }
  | _ => none }
def parcelPlaysRow : OpenClaim := { program := "ytlkgdadfbfafcaagreat", sum := "e92edbd30931e0195eea2dd16afd6ded413b37f2358cda4572ed83b469242a07", func := "hailstone/hailstonelaw01.ParcelPlays", spec := "parcelPlays", unfollowed := true, recurses := true, plainKeys := false, apart := false }
def ParcelPlaysSaid : Prop := parcelPlaysRow.holds Tryz.pinned (OpenSpec.ofChange parcelPlaysSpec)

/-- ITS FALSE NEIGHBOUR: 'it returns false'. Refute it at one input. -/
def parcelPlaysWrong : ChangeSpec := { name := "parcelPlays", fn := fun _ => fun
  | [d1, d2, d3] => { results := [.lit (.bool false)], args := [d1, d2, d3] }
  | _ => none }
def ParcelPlaysWrongFalsely : Prop := parcelPlaysRow.holds Tryz.pinned (OpenSpec.ofChange parcelPlaysWrong)

/-- 'hailstonelaw01.ParcelOwners': WHATEVER THE INPUT: true; the input reads as it did. -/
def parcelOwnersSpec : ChangeSpec := { name := "parcelOwners", fn := fun _ => fun
  | [d1, d2, d3] => { results := [.lit (.bool true)], args := [d1, d2, d3] }
  | _ => none }
def parcelOwnersRow : OpenClaim := { program := "ytlkgdadfbfafcaagreat", sum := "e92edbd30931e0195eea2dd16afd6ded413b37f2358cda4572ed83b469242a07", func := "hailstone/hailstonelaw01.ParcelOwners", spec := "parcelOwners", unfollowed := true, recurses := true, plainKeys := false, apart := false }
def ParcelOwnersSaid : Prop := parcelOwnersRow.holds Tryz.pinned (OpenSpec.ofChange parcelOwnersSpec)

/-- ITS FALSE NEIGHBOUR: 'it returns false'. Refute it at one input. -/
def parcelOwnersWrong : ChangeSpec := { name := "parcelOwners", fn := fun _ => fun
  | [d1, d2, d3] => { results := [.lit (.bool false)], args := [d1, d2, d3] }
  | _ => none }
def ParcelOwnersWrongFalsely : Prop := parcelOwnersRow.holds Tryz.pinned (OpenSpec.ofChange parcelOwnersWrong)

/-- 'hailstonelaw01.ParcelWorths': WHATEVER THE INPUT: true; the input reads as it did. -/
def parcelWorthsSpec : ChangeSpec := { name := "parcelWorths", fn := fun _ => fun
  | [d1, d2, d3, d4] => { results := [.lit (.bool true)], args := [d1, d2, d3, d4] }
  | _ => none }
def parcelWorthsRow : OpenClaim := { program := "ytlkgdadfbfafcaagreat", sum := "e92edbd30931e0195eea2dd16afd6ded413b37f2358cda4572ed83b469242a07", func := "hailstone/hailstonelaw01.ParcelWorths", spec := "parcelWorths", unfollowed := true, recurses := true, plainKeys := false, apart := false }
def ParcelWorthsSaid : Prop := parcelWorthsRow.holds Tryz.pinned (OpenSpec.ofChange parcelWorthsSpec)

/-- ITS FALSE NEIGHBOUR: 'it returns false'. Refute it at one input. -/
def parcelWorthsWrong : ChangeSpec := { name := "parcelWorths", fn := fun _ => fun
  | [d1, d2, d3, d4] => { results := [.lit (.bool false)], args := [d1, d2, d3, d4] }
  | _ => none }
def ParcelWorthsWrongFalsely : Prop := parcelWorthsRow.holds Tryz.pinned (OpenSpec.ofChange parcelWorthsWrong)

/-- 'hailstonelaw01.ParcelLeaves': WHATEVER THE INPUT: true; the input reads as it did. -/
def parcelLeavesSpec : ChangeSpec := { name := "parcelLeaves", fn := fun _ => fun
  | [d] => { results := [.lit (.bool true)], args := [d] }
  | _ => none }
def parcelLeavesRow : OpenClaim := { program := "ytlkgdadfbfafcaagreat", sum := "e92edbd30931e0195eea2dd16afd6ded413b37f2358cda4572ed83b469242a07", func := "hailstone/hailstonelaw01.ParcelLeaves", spec := "parcelLeaves", unfollowed := true, recurses := true, plainKeys := false, apart := false }
def ParcelLeavesSaid : Prop := parcelLeavesRow.holds Tryz.pinned (OpenSpec.ofChange parcelLeavesSpec)

/-- ITS FALSE NEIGHBOUR: 'it returns false'. Refute it at one input. -/
def parcelLeavesWrong : ChangeSpec := { name := "parcelLeaves", fn := fun _ => fun
  | [d] => { results := [.lit (.bool false)], args := [d] }
  | _ => none }
def ParcelLeavesWrongFalsely : Prop := parcelLeavesRow.holds Tryz.pinned (OpenSpec.ofChange parcelLeavesWrong)

/-- 'hailstonelaw01.ParcelNames': WHATEVER THE INPUT: true; the input reads as it did. -/
def parcelNamesSpec : ChangeSpec := { name := "parcelNames", fn := fun _ => fun
  | [] => { results := [.lit (.bool true)], args := [] }
  | _ => none }
def parcelNamesRow : OpenClaim := { program := "ytlkgdadfbfafcaagreat", sum := "e92edbd30931e0195eea2dd16afd6ded413b37f2358cda4572ed83b469242a07", func := "hailstone/hailstonelaw01.ParcelNames", spec := "parcelNames", unfollowed := true, recurses := true, plainKeys := false, apart := false }
def ParcelNamesSaid : Prop := parcelNamesRow.holds Tryz.pinned (OpenSpec.ofChange parcelNamesSpec)

/-- ITS FALSE NEIGHBOUR: 'it returns false'. Refute it at one input. -/
def parcelNamesWrong : ChangeSpec := { name := "parcelNames", fn := fun _ => fun
  | [] => { results := [.lit (.bool false)], args := [] }
  | _ => none }
def ParcelNamesWrongFalsely : Prop := parcelNamesRow.holds Tryz.pinned (OpenSpec.ofChange parcelNamesWrong)

/-- 'hailstonelaw01.ParcelTruth': WHATEVER THE INPUT: true; the input reads as it did. -/
def parcelTruthSpec : ChangeSpec := { name := "parcelTruth", fn := fun _ => fun
  | [d1, d2, d3] => { results := [.lit (.bool true)], args := [d1, d2, d3] }
  | _ => none }
def parcelTruthRow : OpenClaim := { program := "ytlkgdadfbfafcaagreat", sum := "e92edbd30931e0195eea2dd16afd6ded413b37f2358cda4572ed83b469242a07", func := "hailstone/hailstonelaw01.ParcelTruth", spec := "parcelTruth", unfollowed := true, recurses := true, plainKeys := false, apart := false }
def ParcelTruthSaid : Prop := parcelTruthRow.holds Tryz.pinned (OpenSpec.ofChange parcelTruthSpec)

/-- ITS FALSE NEIGHBOUR: 'it returns false'. Refute it at one input. -/
def parcelTruthWrong : ChangeSpec := { name := "parcelTruth", fn := fun _ => fun
  | [d1, d2, d3] => { results := [.lit (.bool false)], args := [d1, d2, d3] }
  | _ => none }
def ParcelTruthWrongFalsely : Prop := parcelTruthRow.holds Tryz.pinned (OpenSpec.ofChange parcelTruthWrong)

/-- 'hailstonelaw01.ParcelEnds': WHATEVER THE INPUT: true; the input reads as it did. -/
def parcelEndsSpec : ChangeSpec := { name := "parcelEnds", fn := fun _ => fun
  | [d1, d2, d3, d4, d5] => { results := [.lit (.bool true)], args := [d1, d2, d3, d4, d5] }
  | _ => none }
def parcelEndsRow : OpenClaim := { program := "ytlkgdadfbfafcaagreat", sum := "e92edbd30931e0195eea2dd16afd6ded413b37f2358cda4572ed83b469242a07", func := "hailstone/hailstonelaw01.ParcelEnds", spec := "parcelEnds", unfollowed := true, recurses := true, plainKeys := false, apart := false }
def ParcelEndsSaid : Prop := parcelEndsRow.holds Tryz.pinned (OpenSpec.ofChange parcelEndsSpec)

/-- ITS FALSE NEIGHBOUR: 'it returns false'. Refute it at one input. -/
def parcelEndsWrong : ChangeSpec := { name := "parcelEnds", fn := fun _ => fun
  | [d1, d2, d3, d4, d5] => { results := [.lit (.bool false)], args := [d1, d2, d3, d4, d5] }
  | _ => none }
def ParcelEndsWrongFalsely : Prop := parcelEndsRow.holds Tryz.pinned (OpenSpec.ofChange parcelEndsWrong)

/-- 'hailstonelaw01.ParcelLater': WHATEVER THE INPUT: true; the input reads as it did. -/
def parcelLaterSpec : ChangeSpec := { name := "parcelLater", fn := fun _ => fun
  | [d1, d2, d3, d4] => { results := [.lit (.bool true)], args := [d1, d2, d3, d4] }
  | _ => none }
def parcelLaterRow : OpenClaim := { program := "ytlkgdadfbfafcaagreat", sum := "e92edbd30931e0195eea2dd16afd6ded413b37f2358cda4572ed83b469242a07", func := "hailstone/hailstonelaw01.ParcelLater", spec := "parcelLater", unfollowed := true, recurses := true, plainKeys := false, apart := false }
def ParcelLaterSaid : Prop := parcelLaterRow.holds Tryz.pinned (OpenSpec.ofChange parcelLaterSpec)

/-- ITS FALSE NEIGHBOUR: 'it returns false'. Refute it at one input. -/
def parcelLaterWrong : ChangeSpec := { name := "parcelLater", fn := fun _ => fun
  | [d1, d2, d3, d4] => { results := [.lit (.bool false)], args := [d1, d2, d3, d4] }
  | _ => none }
def ParcelLaterWrongFalsely : Prop := parcelLaterRow.holds Tryz.pinned (OpenSpec.ofChange parcelLaterWrong)

/-- 'hailstonelaw01.ParcelMore': WHATEVER THE INPUT: true; the input reads as it did. -/
def parcelMoreSpec : ChangeSpec := { name := "parcelMore", fn := fun _ => fun
  | [d1, d2, d3, d4] => { results := [.lit (.bool true)], args := [d1, d2, d3, d4] }
  | _ => none }
def parcelMoreRow : OpenClaim := { program := "ytlkgdadfbfafcaagreat", sum := "e92edbd30931e0195eea2dd16afd6ded413b37f2358cda4572ed83b469242a07", func := "hailstone/hailstonelaw01.ParcelMore", spec := "parcelMore", unfollowed := true, recurses := true, plainKeys := false, apart := false }
def ParcelMoreSaid : Prop := parcelMoreRow.holds Tryz.pinned (OpenSpec.ofChange parcelMoreSpec)

/-- ITS FALSE NEIGHBOUR: 'it returns false'. Refute it at one input. -/
def parcelMoreWrong : ChangeSpec := { name := "parcelMore", fn := fun _ => fun
  | [d1, d2, d3, d4] => { results := [.lit (.bool false)], args := [d1, d2, d3, d4] }
  | _ => none }
def ParcelMoreWrongFalsely : Prop := parcelMoreRow.holds Tryz.pinned (OpenSpec.ofChange parcelMoreWrong)

/-- 'hailstonelaw01.ParcelWider': WHATEVER THE INPUT: true; the input reads as it did. -/
def parcelWiderSpec : ChangeSpec := { name := "parcelWider", fn := fun _ => fun
  | [d1, d2, d3, d4, d5] => { results := [.lit (.bool true)], args := [d1, d2, d3, d4, d5] }
  | _ => none }
def parcelWiderRow : OpenClaim := { program := "ytlkgdadfbfafcaagreat", sum := "e92edbd30931e0195eea2dd16afd6ded413b37f2358cda4572ed83b469242a07", func := "hailstone/hailstonelaw01.ParcelWider", spec := "parcelWider", unfollowed := true, recurses := true, plainKeys := false, apart := false }
def ParcelWiderSaid : Prop := parcelWiderRow.holds Tryz.pinned (OpenSpec.ofChange parcelWiderSpec)

/-- ITS FALSE NEIGHBOUR: 'it returns false'. Refute it at one input. -/
def parcelWiderWrong : ChangeSpec := { name := "parcelWider", fn := fun _ => fun
  | [d1, d2, d3, d4, d5] => { results := [.lit (.bool false)], args := [d1, d2, d3, d4, d5] }
  | _ => none }
def ParcelWiderWrongFalsely : Prop := parcelWiderRow.holds Tryz.pinned (OpenSpec.ofChange parcelWiderWrong)

/-- 'hailstonelaw01.ParcelFirst': WHATEVER THE INPUT: true; the input reads as it did. -/
def parcelFirstSpec : ChangeSpec := { name := "parcelFirst", fn := fun _ => fun
  | [d] => { results := [.lit (.bool true)], args := [d] }
  | _ => none }
def parcelFirstRow : OpenClaim := { program := "ytlkgdadfbfafcaagreat", sum := "e92edbd30931e0195eea2dd16afd6ded413b37f2358cda4572ed83b469242a07", func := "hailstone/hailstonelaw01.ParcelFirst", spec := "parcelFirst", unfollowed := true, recurses := true, plainKeys := false, apart := false }
def ParcelFirstSaid : Prop := parcelFirstRow.holds Tryz.pinned (OpenSpec.ofChange parcelFirstSpec)

/-- ITS FALSE NEIGHBOUR: 'it returns false'. Refute it at one input. -/
def parcelFirstWrong : ChangeSpec := { name := "parcelFirst", fn := fun _ => fun
  | [d] => { results := [.lit (.bool false)], args := [d] }
  | _ => none }
def ParcelFirstWrongFalsely : Prop := parcelFirstRow.holds Tryz.pinned (OpenSpec.ofChange parcelFirstWrong)

/-- 'hailstonelaw01.ParcelLeft': WHATEVER THE INPUT: true; the input reads as it did. -/
def parcelLeftSpec : ChangeSpec := { name := "parcelLeft", fn := fun _ => fun
  | [d1, d2] => { results := [.lit (.bool true)], args := [d1, d2] }
  | _ => none }
def parcelLeftRow : OpenClaim := { program := "ytlkgdadfbfafcaagreat", sum := "e92edbd30931e0195eea2dd16afd6ded413b37f2358cda4572ed83b469242a07", func := "hailstone/hailstonelaw01.ParcelLeft", spec := "parcelLeft", unfollowed := true, recurses := true, plainKeys := false, apart := false }
def ParcelLeftSaid : Prop := parcelLeftRow.holds Tryz.pinned (OpenSpec.ofChange parcelLeftSpec)

/-- ITS FALSE NEIGHBOUR: 'it returns false'. Refute it at one input. -/
def parcelLeftWrong : ChangeSpec := { name := "parcelLeft", fn := fun _ => fun
  | [d1, d2] => { results := [.lit (.bool false)], args := [d1, d2] }
  | _ => none }
def ParcelLeftWrongFalsely : Prop := parcelLeftRow.holds Tryz.pinned (OpenSpec.ofChange parcelLeftWrong)

/-- 'hailstonelaw01.ParcelRenamed': WHATEVER THE INPUT: true; the input reads as it did. -/
def parcelRenamedSpec : ChangeSpec := { name := "parcelRenamed", fn := fun _ => fun
  | [d1, d2, d3, d4] => { results := [.lit (.bool true)], args := [d1, d2, d3, d4] }
  | _ => none }
def parcelRenamedRow : OpenClaim := { program := "ytlkgdadfbfafcaagreat", sum := "e92edbd30931e0195eea2dd16afd6ded413b37f2358cda4572ed83b469242a07", func := "hailstone/hailstonelaw01.ParcelRenamed", spec := "parcelRenamed", unfollowed := true, recurses := true, plainKeys := false, apart := false }
def ParcelRenamedSaid : Prop := parcelRenamedRow.holds Tryz.pinned (OpenSpec.ofChange parcelRenamedSpec)

/-- ITS FALSE NEIGHBOUR: 'it returns false'. Refute it at one input. -/
def parcelRenamedWrong : ChangeSpec := { name := "parcelRenamed", fn := fun _ => fun
  | [d1, d2, d3, d4] => { results := [.lit (.bool false)], args := [d1, d2, d3, d4] }
  | _ => none }
def ParcelRenamedWrongFalsely : Prop := parcelRenamedRow.holds Tryz.pinned (OpenSpec.ofChange parcelRenamedWrong)

/-- 'hailstonelaw01.ParcelHarvested': WHATEVER THE INPUT: true; the input reads as it did. -/
def parcelHarvestedSpec : ChangeSpec := { name := "parcelHarvested", fn := fun _ => fun
  | [d1, d2, d3] => { results := [.lit (.bool true)], args := [d1, d2, d3] }
  | _ => none }
def parcelHarvestedRow : OpenClaim := { program := "ytlkgdadfbfafcaagreat", sum := "e92edbd30931e0195eea2dd16afd6ded413b37f2358cda4572ed83b469242a07", func := "hailstone/hailstonelaw01.ParcelHarvested", spec := "parcelHarvested", unfollowed := true, recurses := true, plainKeys := false, apart := false }
def ParcelHarvestedSaid : Prop := parcelHarvestedRow.holds Tryz.pinned (OpenSpec.ofChange parcelHarvestedSpec)

/-- ITS FALSE NEIGHBOUR: 'it returns false'. Refute it at one input. -/
def parcelHarvestedWrong : ChangeSpec := { name := "parcelHarvested", fn := fun _ => fun
  | [d1, d2, d3] => { results := [.lit (.bool false)], args := [d1, d2, d3] }
  | _ => none }
def ParcelHarvestedWrongFalsely : Prop := parcelHarvestedRow.holds Tryz.pinned (OpenSpec.ofChange parcelHarvestedWrong)

/- THE SECOND FORM. 'bulk': how many values and letters a reading holds, each counted each time it is reached (what is shared counts as often as it is met; a slice's spare places count too). A statement '..UptoSaid' is the law's where the arguments, and the package variables that the reading takes, are together of bulk at most 1048576: NARROWER than '..Said'. Prove '..Said' where nothing that the law and all that it calls make is longer than what came in: it says more and counts as full. Else prove '..UptoSaid'. A law counts once. -/
mutual
def uptoBulk {H : Type} : DataW H → Nat
  | .lit (.string bytes) => bytes.length + 1
  | .lit _ => 1
  | .nil => 1
  | .ptr d => uptoBulk d + 1
  | .slice elems spare => uptoBulkAll elems + uptoBulkAll spare + 1
  | .agg parts => uptoBulkAll parts + 1
  | .iface _ d => uptoBulk d + 1
  | .map entries => uptoBulkEntries entries + 1
  | .held _ => 1
def uptoBulkAll {H : Type} : List (DataW H) → Nat
  | [] => 0
  | d :: r => uptoBulk d + uptoBulkAll r
def uptoBulkEntries {H : Type} : List (Lit × DataW H) → Nat
  | [] => 0
  | x :: r => uptoBulkEntry x + uptoBulkEntries r
def uptoBulkEntry {H : Type} : Lit × DataW H → Nat
  | (.string bytes, d) => bytes.length + uptoBulk d + 1
  | (_, d) => uptoBulk d + 1
 end
def uptoSmall : (H : Type) → List (DataW H) → Bool := fun _ ds => decide (uptoBulkAll ds ≤ 1048576)
def OpenSpec.upto (s : _root_.Go.ChangeSpec) : _root_.Go.OpenSpec := { _root_.Go.OpenSpec.ofChange s with cond := some uptoSmall }

/-- 'hailstonelaw01.ParcelPlays', WHERE WHAT IT READS IS OF BULK AT MOST 1048576: true; the input reads as it did. -/
def parcelPlaysUptoRow : OpenClaim := { program := "ytlkgdadfbfafcaagreat", sum := "e92edbd30931e0195eea2dd16afd6ded413b37f2358cda4572ed83b469242a07", func := "hailstone/hailstonelaw01.ParcelPlays", spec := "parcelPlays", unfollowed := true, recurses := true, plainKeys := false, apart := false, narrowed := true }
def ParcelPlaysUptoSaid : Prop := parcelPlaysUptoRow.holds Tryz.pinned (OpenSpec.upto parcelPlaysSpec)

/-- 'hailstonelaw01.ParcelOwners', WHERE WHAT IT READS IS OF BULK AT MOST 1048576: true; the input reads as it did. -/
def parcelOwnersUptoRow : OpenClaim := { program := "ytlkgdadfbfafcaagreat", sum := "e92edbd30931e0195eea2dd16afd6ded413b37f2358cda4572ed83b469242a07", func := "hailstone/hailstonelaw01.ParcelOwners", spec := "parcelOwners", unfollowed := true, recurses := true, plainKeys := false, apart := false, narrowed := true }
def ParcelOwnersUptoSaid : Prop := parcelOwnersUptoRow.holds Tryz.pinned (OpenSpec.upto parcelOwnersSpec)

/-- 'hailstonelaw01.ParcelWorths', WHERE WHAT IT READS IS OF BULK AT MOST 1048576: true; the input reads as it did. -/
def parcelWorthsUptoRow : OpenClaim := { program := "ytlkgdadfbfafcaagreat", sum := "e92edbd30931e0195eea2dd16afd6ded413b37f2358cda4572ed83b469242a07", func := "hailstone/hailstonelaw01.ParcelWorths", spec := "parcelWorths", unfollowed := true, recurses := true, plainKeys := false, apart := false, narrowed := true }
def ParcelWorthsUptoSaid : Prop := parcelWorthsUptoRow.holds Tryz.pinned (OpenSpec.upto parcelWorthsSpec)

/-- 'hailstonelaw01.ParcelLeaves', WHERE WHAT IT READS IS OF BULK AT MOST 1048576: true; the input reads as it did. -/
def parcelLeavesUptoRow : OpenClaim := { program := "ytlkgdadfbfafcaagreat", sum := "e92edbd30931e0195eea2dd16afd6ded413b37f2358cda4572ed83b469242a07", func := "hailstone/hailstonelaw01.ParcelLeaves", spec := "parcelLeaves", unfollowed := true, recurses := true, plainKeys := false, apart := false, narrowed := true }
def ParcelLeavesUptoSaid : Prop := parcelLeavesUptoRow.holds Tryz.pinned (OpenSpec.upto parcelLeavesSpec)

/-- 'hailstonelaw01.ParcelNames', WHERE WHAT IT READS IS OF BULK AT MOST 1048576: true; the input reads as it did. -/
def parcelNamesUptoRow : OpenClaim := { program := "ytlkgdadfbfafcaagreat", sum := "e92edbd30931e0195eea2dd16afd6ded413b37f2358cda4572ed83b469242a07", func := "hailstone/hailstonelaw01.ParcelNames", spec := "parcelNames", unfollowed := true, recurses := true, plainKeys := false, apart := false, narrowed := true }
def ParcelNamesUptoSaid : Prop := parcelNamesUptoRow.holds Tryz.pinned (OpenSpec.upto parcelNamesSpec)

/-- 'hailstonelaw01.ParcelTruth', WHERE WHAT IT READS IS OF BULK AT MOST 1048576: true; the input reads as it did. -/
def parcelTruthUptoRow : OpenClaim := { program := "ytlkgdadfbfafcaagreat", sum := "e92edbd30931e0195eea2dd16afd6ded413b37f2358cda4572ed83b469242a07", func := "hailstone/hailstonelaw01.ParcelTruth", spec := "parcelTruth", unfollowed := true, recurses := true, plainKeys := false, apart := false, narrowed := true }
def ParcelTruthUptoSaid : Prop := parcelTruthUptoRow.holds Tryz.pinned (OpenSpec.upto parcelTruthSpec)

/-- 'hailstonelaw01.ParcelEnds', WHERE WHAT IT READS IS OF BULK AT MOST 1048576: true; the input reads as it did. -/
def parcelEndsUptoRow : OpenClaim := { program := "ytlkgdadfbfafcaagreat", sum := "e92edbd30931e0195eea2dd16afd6ded413b37f2358cda4572ed83b469242a07", func := "hailstone/hailstonelaw01.ParcelEnds", spec := "parcelEnds", unfollowed := true, recurses := true, plainKeys := false, apart := false, narrowed := true }
def ParcelEndsUptoSaid : Prop := parcelEndsUptoRow.holds Tryz.pinned (OpenSpec.upto parcelEndsSpec)

/-- 'hailstonelaw01.ParcelLater', WHERE WHAT IT READS IS OF BULK AT MOST 1048576: true; the input reads as it did. -/
def parcelLaterUptoRow : OpenClaim := { program := "ytlkgdadfbfafcaagreat", sum := "e92edbd30931e0195eea2dd16afd6ded413b37f2358cda4572ed83b469242a07", func := "hailstone/hailstonelaw01.ParcelLater", spec := "parcelLater", unfollowed := true, recurses := true, plainKeys := false, apart := false, narrowed := true }
def ParcelLaterUptoSaid : Prop := parcelLaterUptoRow.holds Tryz.pinned (OpenSpec.upto parcelLaterSpec)

/-- 'hailstonelaw01.ParcelMore', WHERE WHAT IT READS IS OF BULK AT MOST 1048576: true; the input reads as it did. -/
def parcelMoreUptoRow : OpenClaim := { program := "ytlkgdadfbfafcaagreat", sum := "e92edbd30931e0195eea2dd16afd6ded413b37f2358cda4572ed83b469242a07", func := "hailstone/hailstonelaw01.ParcelMore", spec := "parcelMore", unfollowed := true, recurses := true, plainKeys := false, apart := false, narrowed := true }
def ParcelMoreUptoSaid : Prop := parcelMoreUptoRow.holds Tryz.pinned (OpenSpec.upto parcelMoreSpec)

/-- 'hailstonelaw01.ParcelWider', WHERE WHAT IT READS IS OF BULK AT MOST 1048576: true; the input reads as it did. -/
def parcelWiderUptoRow : OpenClaim := { program := "ytlkgdadfbfafcaagreat", sum := "e92edbd30931e0195eea2dd16afd6ded413b37f2358cda4572ed83b469242a07", func := "hailstone/hailstonelaw01.ParcelWider", spec := "parcelWider", unfollowed := true, recurses := true, plainKeys := false, apart := false, narrowed := true }
def ParcelWiderUptoSaid : Prop := parcelWiderUptoRow.holds Tryz.pinned (OpenSpec.upto parcelWiderSpec)

/-- 'hailstonelaw01.ParcelFirst', WHERE WHAT IT READS IS OF BULK AT MOST 1048576: true; the input reads as it did. -/
def parcelFirstUptoRow : OpenClaim := { program := "ytlkgdadfbfafcaagreat", sum := "e92edbd30931e0195eea2dd16afd6ded413b37f2358cda4572ed83b469242a07", func := "hailstone/hailstonelaw01.ParcelFirst", spec := "parcelFirst", unfollowed := true, recurses := true, plainKeys := false, apart := false, narrowed := true }
def ParcelFirstUptoSaid : Prop := parcelFirstUptoRow.holds Tryz.pinned (OpenSpec.upto parcelFirstSpec)

/-- 'hailstonelaw01.ParcelLeft', WHERE WHAT IT READS IS OF BULK AT MOST 1048576: true; the input reads as it did. -/
def parcelLeftUptoRow : OpenClaim := { program := "ytlkgdadfbfafcaagreat", sum := "e92edbd30931e0195eea2dd16afd6ded413b37f2358cda4572ed83b469242a07", func := "hailstone/hailstonelaw01.ParcelLeft", spec := "parcelLeft", unfollowed := true, recurses := true, plainKeys := false, apart := false, narrowed := true }
def ParcelLeftUptoSaid : Prop := parcelLeftUptoRow.holds Tryz.pinned (OpenSpec.upto parcelLeftSpec)

/-- 'hailstonelaw01.ParcelRenamed', WHERE WHAT IT READS IS OF BULK AT MOST 1048576: true; the input reads as it did. -/
def parcelRenamedUptoRow : OpenClaim := { program := "ytlkgdadfbfafcaagreat", sum := "e92edbd30931e0195eea2dd16afd6ded413b37f2358cda4572ed83b469242a07", func := "hailstone/hailstonelaw01.ParcelRenamed", spec := "parcelRenamed", unfollowed := true, recurses := true, plainKeys := false, apart := false, narrowed := true }
def ParcelRenamedUptoSaid : Prop := parcelRenamedUptoRow.holds Tryz.pinned (OpenSpec.upto parcelRenamedSpec)

/-- 'hailstonelaw01.ParcelHarvested', WHERE WHAT IT READS IS OF BULK AT MOST 1048576: true; the input reads as it did. -/
def parcelHarvestedUptoRow : OpenClaim := { program := "ytlkgdadfbfafcaagreat", sum := "e92edbd30931e0195eea2dd16afd6ded413b37f2358cda4572ed83b469242a07", func := "hailstone/hailstonelaw01.ParcelHarvested", spec := "parcelHarvested", unfollowed := true, recurses := true, plainKeys := false, apart := false, narrowed := true }
def ParcelHarvestedUptoSaid : Prop := parcelHarvestedUptoRow.holds Tryz.pinned (OpenSpec.upto parcelHarvestedSpec)

end Rows
end Go.Proofs.YtlkgdadfbfafcaaGreat
