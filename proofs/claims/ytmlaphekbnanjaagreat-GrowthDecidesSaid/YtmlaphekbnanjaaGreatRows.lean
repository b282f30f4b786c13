/-
  No cell of these rows narrows 'for every input' (looked for: loops, veiled, ifaces, maps, wideKeys, modest, calm, conditions, laid).
  DERIVED. THE GIVEN ROWS OF THIS SEAT. 8 by the template 'for every input the law returns true; each argument reads behind the call as it read before'; 0 by the template 'total and deterministic' (their statements: YtmlaphekbnanjaaGreatTotals.lean).
  GIVEN WITH THE SEED: the statements are not yours to turn. If you find one false, say at which input.
  Laid BY PROGRAM, IN A SANDBOX (cutbox-rows.mjs): the forced cells as the released guide's own fill.sh prints them over the translation 728441023a031efb… (all of the seat's roots in one cut). By AI agents, Wed Nov 11 2026. No macro, syntax, notation, axiom, sorry.
-/
import Derived.Test.YtmlaphekbnanjaaGreatChecked
import GoSem.Claim
import GoSem.ClaimJoined
import GoSem.ClaimMapViews
import Derived.JoinedTies
import Derived.KernelRfl
namespace Go.Proofs.YtmlaphekbnanjaaGreat
/- THE CELL 'sum', in the pinned program and in every row, IS THE sha256 OF THE DUMP (.gsa) THAT YtmlaphekbnanjaaGreatProg.lean LOADS. Nothing in Lean hashes anything: it is a label: what it is worth is what the hold of that sum in a sandbox is worth. -/
noncomputable def Tryz.pinned : Pinned := { name := "ytmlaphekbnanjaagreat", sum := "728441023a031efb3fbacaf6d6f1886163f38f2d7a3e41115cd77b5c07146a8b", checked := Tryz.checked }
namespace Rows
def none {H : Type} : Left H := { results := [], args := [] }

/-- 'hailstonelaw04.GrowthBounds': WHATEVER THE INPUT: true; the input reads as it did. -/
def growthBoundsSpec : ChangeSpec := { name := "growthBounds", fn := fun _ => fun
  | [d] => { results := [.lit (.bool true)], args := [d] }
  | _ => none }
def growthBoundsRow : OpenClaim := { program := "ytmlaphekbnanjaagreat", sum := "728441023a031efb3fbacaf6d6f1886163f38f2d7a3e41115cd77b5c07146a8b", func := "hailstone/hailstonelaw04.GrowthBounds", spec := "growthBounds", unfollowed := true, recurses := true, plainKeys := false, apart := false }
def GrowthBoundsSaid : Prop := growthBoundsRow.holds Tryz.pinned (OpenSpec.ofChange growthBoundsSpec)

/-- ITS FALSE NEIGHBOUR: 'it returns false'. Refute it at one input. -/
def growthBoundsWrong : ChangeSpec := { name := "growthBounds", fn := fun _ => fun
  | [d] => { results := [.lit (.bool false)], args := [d] }
  | _ => none }
def GrowthBoundsWrongFalsely : Prop := growthBoundsRow.holds Tryz.pinned (OpenSpec.ofChange growthBoundsWrong)

/-- 'hailstonelaw04.GrowthSees': WHATEVER THE INPUT: true; the input reads as it did. -/
def growthSeesSpec : ChangeSpec := { name := "growthSees", fn := fun _ => fun
  | [d1, d2, d3, d4] => { results := [.lit (.bool true)], args := [d1, d2, d3, d4] }
  | _ => none }
def growthSeesRow : OpenClaim := { program := "ytmlaphekbnanjaagreat", sum := "728441023a031efb3fbacaf6d6f1886163f38f2d7a3e41115cd77b5c07146a8b", func := "hailstone/hailstonelaw04.GrowthSees", spec := "growthSees", unfollowed := true, recurses := true, plainKeys := false, apart := false }
def GrowthSeesSaid : Prop := growthSeesRow.holds Tryz.pinned (OpenSpec.ofChange growthSeesSpec)

/-- ITS FALSE NEIGHBOUR: 'it returns false'. Refute it at one input. -/
def growthSeesWrong : ChangeSpec := { name := "growthSees", fn := fun _ => fun
  | [d1, d2, d3, d4] => { results := [.lit (.bool false)], args := [d1, d2, d3, d4] }
  | _ => none }
def GrowthSeesWrongFalsely : Prop := growthSeesRow.holds Tryz.pinned (OpenSpec.ofChange growthSeesWrong)

/-- 'hailstonelaw04.GrowthShows': WHATEVER THE INPUT: true; the input reads as it did. -/
def growthShowsSpec : ChangeSpec := { name := "growthShows", fn := fun _ => fun
  | [d1, d2, d3] => { results := [.lit (.bool true)], args := [d1, d2, d3] }
  | _ => none }
def growthShowsRow : OpenClaim := { program := "ytmlaphekbnanjaagreat", sum := "728441023a031efb3fbacaf6d6f1886163f38f2d7a3e41115cd77b5c07146a8b", func := "hailstone/hailstonelaw04.GrowthShows", spec := "growthShows", unfollowed := true, recurses := true, plainKeys := false, apart := false }
def GrowthShowsSaid : Prop := growthShowsRow.holds Tryz.pinned (OpenSpec.ofChange growthShowsSpec)

/-- ITS FALSE NEIGHBOUR: 'it returns false'. Refute it at one input. -/
def growthShowsWrong : ChangeSpec := { name := "growthShows", fn := fun _ => fun
  | [d1, d2, d3] => { results := [.lit (.bool false)], args := [d1, d2, d3] }
  | _ => none }
def GrowthShowsWrongFalsely : Prop := growthShowsRow.holds Tryz.pinned (OpenSpec.ofChange growthShowsWrong)

/-- 'hailstonelaw04.GrowthDecides': WHATEVER THE INPUT: true; the input reads as it did. -/
def growthDecidesSpec : ChangeSpec := { name := "growthDecides", fn := fun _ => fun
  | [d1, d2, d3] => { results := [.lit (.bool true)], args := [d1, d2, d3] }
  | _ => none }
def growthDecidesRow : OpenClaim := { program := "ytmlaphekbnanjaagreat", sum := "728441023a031efb3fbacaf6d6f1886163f38f2d7a3e41115cd77b5c07146a8b", func := "hailstone/hailstonelaw04.GrowthDecides", spec := "growthDecides", unfollowed := true, recurses := true, plainKeys := false, apart := false }
def GrowthDecidesSaid : Prop := growthDecidesRow.holds Tryz.pinned (OpenSpec.ofChange growthDecidesSpec)

/-- ITS FALSE NEIGHBOUR: 'it returns false'. Refute it at one input. -/
def growthDecidesWrong : ChangeSpec := { name := "growthDecides", fn := fun _ => fun
  | [d1, d2, d3] => { results := [.lit (.bool false)], args := [d1, d2, d3] }
  | _ => none }
def GrowthDecidesWrongFalsely : Prop := growthDecidesRow.holds Tryz.pinned (OpenSpec.ofChange growthDecidesWrong)

/-- 'hailstonelaw04.GrowthLeaves': WHATEVER THE INPUT: true; the input reads as it did. -/
def growthLeavesSpec : ChangeSpec := { name := "growthLeaves", fn := fun _ => fun
  | [d] => { results := [.lit (.bool true)], args := [d] }
  | _ => none }
def growthLeavesRow : OpenClaim := { program := "ytmlaphekbnanjaagreat", sum := "728441023a031efb3fbacaf6d6f1886163f38f2d7a3e41115cd77b5c07146a8b", func := "hailstone/hailstonelaw04.GrowthLeaves", spec := "growthLeaves", unfollowed := true, recurses := true, plainKeys := false, apart := false }
def GrowthLeavesSaid : Prop := growthLeavesRow.holds Tryz.pinned (OpenSpec.ofChange growthLeavesSpec)

/-- ITS FALSE NEIGHBOUR: 'it returns false'. Refute it at one input. -/
def growthLeavesWrong : ChangeSpec := { name := "growthLeaves", fn := fun _ => fun
  | [d] => { results := [.lit (.bool false)], args := [d] }
  | _ => none }
def GrowthLeavesWrongFalsely : Prop := growthLeavesRow.holds Tryz.pinned (OpenSpec.ofChange growthLeavesWrong)

/-- 'hailstonelaw04.GrowthTruth': WHATEVER THE INPUT: true; the input reads as it did. -/
def growthTruthSpec : ChangeSpec := { name := "growthTruth", fn := fun _ => fun
  | [d1, d2, d3, d4] => { results := [.lit (.bool true)], args := [d1, d2, d3, d4] }
  | _ => none }
def growthTruthRow : OpenClaim := { program := "ytmlaphekbnanjaagreat", sum := "728441023a031efb3fbacaf6d6f1886163f38f2d7a3e41115cd77b5c07146a8b", func := "hailstone/hailstonelaw04.GrowthTruth", spec := "growthTruth", unfollowed := true, recurses := true, plainKeys := false, apart := false }
def GrowthTruthSaid : Prop := growthTruthRow.holds Tryz.pinned (OpenSpec.ofChange growthTruthSpec)

/-- ITS FALSE NEIGHBOUR: 'it returns false'. Refute it at one input. -/
def growthTruthWrong : ChangeSpec := { name := "growthTruth", fn := fun _ => fun
  | [d1, d2, d3, d4] => { results := [.lit (.bool false)], args := [d1, d2, d3, d4] }
  | _ => none }
def GrowthTruthWrongFalsely : Prop := growthTruthRow.holds Tryz.pinned (OpenSpec.ofChange growthTruthWrong)

/-- 'hailstonelaw04.GrowthRises': WHATEVER THE INPUT: true; the input reads as it did. -/
def growthRisesSpec : ChangeSpec := { name := "growthRises", fn := fun _ => fun
  | [d1, d2, d3, d4] => { results := [.lit (.bool true)], args := [d1, d2, d3, d4] }
  | _ => none }
def growthRisesRow : OpenClaim := { program := "ytmlaphekbnanjaagreat", sum := "728441023a031efb3fbacaf6d6f1886163f38f2d7a3e41115cd77b5c07146a8b", func := "hailstone/hailstonelaw04.GrowthRises", spec := "growthRises", unfollowed := true, recurses := true, plainKeys := false, apart := false }
def GrowthRisesSaid : Prop := growthRisesRow.holds Tryz.pinned (OpenSpec.ofChange growthRisesSpec)

/-- ITS FALSE NEIGHBOUR: 'it returns false'. Refute it at one input. -/
def growthRisesWrong : ChangeSpec := { name := "growthRises", fn := fun _ => fun
  | [d1, d2, d3, d4] => { results := [.lit (.bool false)], args := [d1, d2, d3, d4] }
  | _ => none }
def GrowthRisesWrongFalsely : Prop := growthRisesRow.holds Tryz.pinned (OpenSpec.ofChange growthRisesWrong)

/-- 'hailstonelaw04.GrowthLeft': WHATEVER THE INPUT: true; the input reads as it did. -/
def growthLeftSpec : ChangeSpec := { name := "growthLeft", fn := fun _ => fun
  | [d1, d2] => { results := [.lit (.bool true)], args := [d1, d2] }
  | _ => none }
def growthLeftRow : OpenClaim := { program := "ytmlaphekbnanjaagreat", sum := "728441023a031efb3fbacaf6d6f1886163f38f2d7a3e41115cd77b5c07146a8b", func := "hailstone/hailstonelaw04.GrowthLeft", spec := "growthLeft", unfollowed := true, recurses := true, plainKeys := false, apart := false }
def GrowthLeftSaid : Prop := growthLeftRow.holds Tryz.pinned (OpenSpec.ofChange growthLeftSpec)

/-- ITS FALSE NEIGHBOUR: 'it returns false'. Refute it at one input. -/
def growthLeftWrong : ChangeSpec := { name := "growthLeft", fn := fun _ => fun
  | [d1, d2] => { results := [.lit (.bool false)], args := [d1, d2] }
  | _ => none }
def GrowthLeftWrongFalsely : Prop := growthLeftRow.holds Tryz.pinned (OpenSpec.ofChange growthLeftWrong)

/- THE SECOND FORM. 'bulk': how many values and letters a reading holds, each counted each time it is reached (what is shared counts as often as it is met; a slice's spare places count too). A statement '..UptoSaid' is the law's where the arguments, and the package variables that the reading takes, are together of bulk at most 1048576: NARROWER than '..Said'. Prove '..Said' where nothing that the law and all that it calls make is longer than what came in: it says more and counts as full. Else prove '..UptoSaid'. A law counts once. -/
mutual
def uptoBulk {H : Type} : DataW H → Nat
  | .lit (.string bytes) => bytes.length + 1
  | .lit _ => 1
  | .nil => 1
  | .ptr d => uptoBulk d + 1
  | .slice elems spare => uptoBulkAll elems + uptoBulkAll spare + 1
  | .agg parts => uptoBulkAll parts + 1
  | .iface _ d => uptoBulk d + 1
  | .map entries => uptoBulkEntries entries + 1
  | .held _ => 1
def uptoBulkAll {H : Type} : List (DataW H) → Nat
  | [] => 0
  | d :: r => uptoBulk d + uptoBulkAll r
def uptoBulkEntries {H : Type} : List (Lit × DataW H) → Nat
  | [] => 0
  | x :: r => uptoBulkEntry x + uptoBulkEntries r
def uptoBulkEntry {H : Type} : Lit × DataW H → Nat
  | (.string bytes, d) => bytes.length + uptoBulk d + 1
  | (_, d) => uptoBulk d + 1
 end
def uptoSmall : (H : Type) → List (DataW H) → Bool := fun _ ds => decide (uptoBulkAll ds ≤ 1048576)
def OpenSpec.upto (s : _root_.Go.ChangeSpec) : _root_.Go.OpenSpec := { _root_.Go.OpenSpec.ofChange s with cond := some uptoSmall }

/-- 'hailstonelaw04.GrowthBounds', WHERE WHAT IT READS IS OF BULK AT MOST 1048576: true; the input reads as it did. -/
def growthBoundsUptoRow : OpenClaim := { program := "ytmlaphekbnanjaagreat", sum := "728441023a031efb3fbacaf6d6f1886163f38f2d7a3e41115cd77b5c07146a8b", func := "hailstone/hailstonelaw04.GrowthBounds", spec := "growthBounds", unfollowed := true, recurses := true, plainKeys := false, apart := false, narrowed := true }
def GrowthBoundsUptoSaid : Prop := growthBoundsUptoRow.holds Tryz.pinned (OpenSpec.upto growthBoundsSpec)

/-- 'hailstonelaw04.GrowthSees', WHERE WHAT IT READS IS OF BULK AT MOST 1048576: true; the input reads as it did. -/
def growthSeesUptoRow : OpenClaim := { program := "ytmlaphekbnanjaagreat", sum := "728441023a031efb3fbacaf6d6f1886163f38f2d7a3e41115cd77b5c07146a8b", func := "hailstone/hailstonelaw04.GrowthSees", spec := "growthSees", unfollowed := true, recurses := true, plainKeys := false, apart := false, narrowed := true }
def GrowthSeesUptoSaid : Prop := growthSeesUptoRow.holds Tryz.pinned (OpenSpec.upto growthSeesSpec)

/-- 'hailstonelaw04.GrowthShows', WHERE WHAT IT READS IS OF BULK AT MOST 1048576: true; the input reads as it did. -/
def growthShowsUptoRow : OpenClaim := { program := "ytmlaphekbnanjaagreat", sum := "728441023a031efb3fbacaf6d6f1886163f38f2d7a3e41115cd77b5c07146a8b", func := "hailstone/hailstonelaw04.GrowthShows", spec := "growthShows", unfollowed := true, recurses := true, plainKeys := false, apart := false, narrowed := true }
def GrowthShowsUptoSaid : Prop := growthShowsUptoRow.holds Tryz.pinned (OpenSpec.upto growthShowsSpec)

/-- 'hailstonelaw04.GrowthDecides', WHERE WHAT IT READS IS OF BULK AT MOST 1048576: true; the input reads as it did. -/
def growthDecidesUptoRow : OpenClaim := { program := "ytmlaphekbnanjaagreat", sum := "728441023a031efb3fbacaf6d6f1886163f38f2d7a3e41115cd77b5c07146a8b", func := "hailstone/hailstonelaw04.GrowthDecides", spec := "growthDecides", unfollowed := true, recurses := true, plainKeys := false, apart := false, narrowed := true }
def GrowthDecidesUptoSaid : Prop := growthDecidesUptoRow.holds Tryz.pinned (OpenSpec.upto growthDecidesSpec)

/-- 'hailstonelaw04.GrowthLeaves', WHERE WHAT IT READS IS OF BULK AT MOST 1048576: true; the input reads as it did. -/
def growthLeavesUptoRow : OpenClaim := { program := "ytmlaphekbnanjaagreat", sum := "728441023a031efb3fbacaf6d6f1886163f38f2d7a3e41115cd77b5c07146a8b", func := "hailstone/hailstonelaw04.GrowthLeaves", spec := "growthLeaves", unfollowed := true, recurses := true, plainKeys := false, apart := false, narrowed := true }
def GrowthLeavesUptoSaid : Prop := growthLeavesUptoRow.holds Tryz.pinned (OpenSpec.upto growthLeavesSpec)

/-- 'hailstonelaw04.GrowthTruth', WHERE WHAT IT READS IS OF BULK AT MOST 1048576: true; the input reads as it did. -/
def growthTruthUptoRow : OpenClaim := { program := "ytmlaphekbnanjaagreat", sum := "728441023a031efb3fbacaf6d6f1886163f38f2d7a3e41115cd77b5c07146a8b", func := "hailstone/hailstonelaw04.GrowthTruth", spec := "growthTruth", unfollowed := true, recurses := true, plainKeys := false, apart := false, narrowed := true }
def GrowthTruthUptoSaid : Prop := growthTruthUptoRow.holds Tryz.pinned (OpenSpec.upto growthTruthSpec)

/-- 'hailstonelaw04.GrowthRises', WHERE WHAT IT READS IS OF BULK AT MOST 1048576: true; the input reads as it did. -/
def growthRisesUptoRow : OpenClaim := { program := "ytmlaphekbnanjaagreat", sum := "728441023a031efb3fbacaf6d6f1886163f38f2d7a3e41115cd77b5c07146a8b", func := "hailstone/hailstonelaw04.GrowthRises", spec := "growthRises", unfollowed := true, recurses := true, plainKeys := false, apart := false, narrowed := true }
def GrowthRisesUptoSaid : Prop := growthRisesUptoRow.holds Tryz.pinned (OpenSpec.upto growthRisesSpec)

/-- 'hailstonelaw04.GrowthLeft', WHERE WHAT IT READS IS OF BULK AT MOST 1048576: true; the input reads as it did. -/
def growthLeftUptoRow : OpenClaim := { program := "ytmlaphekbnanjaagreat", sum := "728441023a031efb3fbacaf6d6f1886163f38f2d7a3e41115cd77b5c07146a8b", func := "hailstone/hailstonelaw04.GrowthLeft", spec := "growthLeft", unfollowed := true, recurses := true, plainKeys := false, apart := false, narrowed := true }
def GrowthLeftUptoSaid : Prop := growthLeftUptoRow.holds Tryz.pinned (OpenSpec.upto growthLeftSpec)

end Rows
end Go.Proofs.YtmlaphekbnanjaaGreat
