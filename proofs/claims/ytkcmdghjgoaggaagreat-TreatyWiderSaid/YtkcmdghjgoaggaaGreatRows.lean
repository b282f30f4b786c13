/-
  No cell of these rows narrows 'for every input' (looked for: loops, veiled, ifaces, maps, wideKeys, modest, calm, conditions, laid).
  DERIVED. THE GIVEN ROWS OF THIS SEAT. 10 by the template 'for every input the law returns true; each argument reads behind the call as it read before'; 0 by the template 'total and deterministic' (their statements: YtkcmdghjgoaggaaGreatTotals.lean).
  GIVEN WITH THE SEED: the statements are not yours to turn. If you find one false, say at which input.
  Laid BY PROGRAM, IN A SANDBOX (cutbox-rows.mjs): the forced cells as the released guide's own fill.sh prints them over the translation 637bf63d8f7d3028… (all of the seat's roots in one cut). By AI agents, Wed Nov 11 2026. No macro, syntax, notation, axiom, sorry.
-/
import Derived.Test.YtkcmdghjgoaggaaGreatChecked
import GoSem.Claim
import GoSem.ClaimJoined
import GoSem.ClaimMapViews
import Derived.JoinedTies
import Derived.KernelRfl
namespace Go.Proofs.YtkcmdghjgoaggaaGreat
/- THE CELL 'sum', in the pinned program and in every row, IS THE sha256 OF THE DUMP (.gsa) THAT YtkcmdghjgoaggaaGreatProg.lean LOADS. Nothing in Lean hashes anything: it is a label: what it is worth is what the hold of that sum in a sandbox is worth. -/
noncomputable def Tryz.pinned : Pinned := { name := "ytkcmdghjgoaggaagreat", sum := "637bf63d8f7d302834278d084bee78b5c8124cc6c68885e8f52a4fb2008d28b9", checked := Tryz.checked }
namespace Rows
def none {H : Type} : Left H := { results := [], args := [] }

/-- 'hailstonelaw10.TreatyPlays': WHATEVER THE INPUT: true; the input reads as it did. -/
def treatyPlaysSpec : ChangeSpec := { name := "treatyPlays", fn := fun _ => fun
  | [d1, d2] => { results := [.lit (.bool true)], args := [d1, d2] }
  | _ => none }
def treatyPlaysRow : OpenClaim := { program := "ytkcmdghjgoaggaagreat", sum := "637bf63d8f7d302834278d084bee78b5c8124cc6c68885e8f52a4fb2008d28b9", func := "hailstone/hailstonelaw10.TreatyPlays", spec := "treatyPlays", unfollowed := true, recurses := true, plainKeys := false, apart := false }
def TreatyPlaysSaid : Prop := treatyPlaysRow.holds Tryz.pinned (OpenSpec.ofChange treatyPlaysSpec)

/-- ITS FALSE NEIGHBOUR: 'it returns false'. Refute it at one input. -/
def treatyPlaysWrong : ChangeSpec := { name := "treatyPlays", fn := fun _ => fun
  | [d1, d2] => { results := [.lit (.bool false)], args := [d1, d2] }
  | _ => none }
def TreatyPlaysWrongFalsely : Prop := treatyPlaysRow.holds Tryz.pinned (OpenSpec.ofChange treatyPlaysWrong)

/-- 'hailstonelaw10.TreatyBounds': WHATEVER THE INPUT: true; the input reads as it did. -/
def treatyBoundsSpec : ChangeSpec := { name := "treatyBounds", fn := fun _ => fun
  | [d] => { results := [.lit (.bool true)], args := [d] }
  | _ => none }
def treatyBoundsRow : OpenClaim := { program := "ytkcmdghjgoaggaagreat", sum := "637bf63d8f7d302834278d084bee78b5c8124cc6c68885e8f52a4fb2008d28b9", func := "hailstone/hailstonelaw10.TreatyBounds", spec := "treatyBounds", unfollowed := true, recurses := true, plainKeys := false, apart := false }
def TreatyBoundsSaid : Prop := treatyBoundsRow.holds Tryz.pinned (OpenSpec.ofChange treatyBoundsSpec)

/-- ITS FALSE NEIGHBOUR: 'it returns false'. Refute it at one input. -/
def treatyBoundsWrong : ChangeSpec := { name := "treatyBounds", fn := fun _ => fun
  | [d] => { results := [.lit (.bool false)], args := [d] }
  | _ => none }
def TreatyBoundsWrongFalsely : Prop := treatyBoundsRow.holds Tryz.pinned (OpenSpec.ofChange treatyBoundsWrong)

/-- 'hailstonelaw10.TreatyKept': WHATEVER THE INPUT: true; the input reads as it did. -/
def treatyKeptSpec : ChangeSpec := { name := "treatyKept", fn := fun _ => fun
  | [d1, d2, d3] => { results := [.lit (.bool true)], args := [d1, d2, d3] }
  | _ => none }
def treatyKeptRow : OpenClaim := { program := "ytkcmdghjgoaggaagreat", sum := "637bf63d8f7d302834278d084bee78b5c8124cc6c68885e8f52a4fb2008d28b9", func := "hailstone/hailstonelaw10.TreatyKept", spec := "treatyKept", unfollowed := true, recurses := true, plainKeys := false, apart := false }
def TreatyKeptSaid : Prop := treatyKeptRow.holds Tryz.pinned (OpenSpec.ofChange treatyKeptSpec)

/-- ITS FALSE NEIGHBOUR: 'it returns false'. Refute it at one input. -/
def treatyKeptWrong : ChangeSpec := { name := "treatyKept", fn := fun _ => fun
  | [d1, d2, d3] => { results := [.lit (.bool false)], args := [d1, d2, d3] }
  | _ => none }
def TreatyKeptWrongFalsely : Prop := treatyKeptRow.holds Tryz.pinned (OpenSpec.ofChange treatyKeptWrong)

/-- 'hailstonelaw10.TreatyCheapest': WHATEVER THE INPUT: true; the input reads as it did. -/
def treatyCheapestSpec : ChangeSpec := { name := "treatyCheapest", fn := fun _ => fun
  | [d] => { results := [.lit (.bool true)], args := [d] }
  | _ => none }
def treatyCheapestRow : OpenClaim := { program := "ytkcmdghjgoaggaagreat", sum := "637bf63d8f7d302834278d084bee78b5c8124cc6c68885e8f52a4fb2008d28b9", func := "hailstone/hailstonelaw10.TreatyCheapest", spec := "treatyCheapest", unfollowed := true, recurses := true, plainKeys := false, apart := false }
def TreatyCheapestSaid : Prop := treatyCheapestRow.holds Tryz.pinned (OpenSpec.ofChange treatyCheapestSpec)

/-- ITS FALSE NEIGHBOUR: 'it returns false'. Refute it at one input. -/
def treatyCheapestWrong : ChangeSpec := { name := "treatyCheapest", fn := fun _ => fun
  | [d] => { results := [.lit (.bool false)], args := [d] }
  | _ => none }
def TreatyCheapestWrongFalsely : Prop := treatyCheapestRow.holds Tryz.pinned (OpenSpec.ofChange treatyCheapestWrong)

/-- 'hailstonelaw10.TreatyLeaves': WHATEVER THE INPUT: true; the input reads as it did. -/
def treatyLeavesSpec : ChangeSpec := { name := "treatyLeaves", fn := fun _ => fun
  | [d] => { results := [.lit (.bool true)], args := [d] }
  | _ => none }
def treatyLeavesRow : OpenClaim := { program := "ytkcmdghjgoaggaagreat", sum := "637bf63d8f7d302834278d084bee78b5c8124cc6c68885e8f52a4fb2008d28b9", func := "hailstone/hailstonelaw10.TreatyLeaves", spec := "treatyLeaves", unfollowed := true, recurses := true, plainKeys := false, apart := false }
def TreatyLeavesSaid : Prop := treatyLeavesRow.holds Tryz.pinned (OpenSpec.ofChange treatyLeavesSpec)

/-- ITS FALSE NEIGHBOUR: 'it returns false'. Refute it at one input. -/
def treatyLeavesWrong : ChangeSpec := { name := "treatyLeaves", fn := fun _ => fun
  | [d] => { results := [.lit (.bool false)], args := [d] }
  | _ => none }
def TreatyLeavesWrongFalsely : Prop := treatyLeavesRow.holds Tryz.pinned (OpenSpec.ofChange treatyLeavesWrong)

/-- 'hailstonelaw10.TreatyTruth': WHATEVER THE INPUT: true; the input reads as it did. -/
def treatyTruthSpec : ChangeSpec := { name := "treatyTruth", fn := fun _ => fun
  | [d1, d2, d3] => { results := [.lit (.bool true)], args := [d1, d2, d3] }
  | _ => none }
def treatyTruthRow : OpenClaim := { program := "ytkcmdghjgoaggaagreat", sum := "637bf63d8f7d302834278d084bee78b5c8124cc6c68885e8f52a4fb2008d28b9", func := "hailstone/hailstonelaw10.TreatyTruth", spec := "treatyTruth", unfollowed := true, recurses := true, plainKeys := false, apart := false }
def TreatyTruthSaid : Prop := treatyTruthRow.holds Tryz.pinned (OpenSpec.ofChange treatyTruthSpec)

/-- ITS FALSE NEIGHBOUR: 'it returns false'. Refute it at one input. -/
def treatyTruthWrong : ChangeSpec := { name := "treatyTruth", fn := fun _ => fun
  | [d1, d2, d3] => { results := [.lit (.bool false)], args := [d1, d2, d3] }
  | _ => none }
def TreatyTruthWrongFalsely : Prop := treatyTruthRow.holds Tryz.pinned (OpenSpec.ofChange treatyTruthWrong)

/-- 'hailstonelaw10.TreatyEnds': WHATEVER THE INPUT: true; the input reads as it did. -/
def treatyEndsSpec : ChangeSpec := { name := "treatyEnds", fn := fun _ => fun
  | [d1, d2] => { results := [.lit (.bool true)], args := [d1, d2] }
  | _ => none }
def treatyEndsRow : OpenClaim := { program := "ytkcmdghjgoaggaagreat", sum := "637bf63d8f7d302834278d084bee78b5c8124cc6c68885e8f52a4fb2008d28b9", func := "hailstone/hailstonelaw10.TreatyEnds", spec := "treatyEnds", unfollowed := true, recurses := true, plainKeys := false, apart := false }
def TreatyEndsSaid : Prop := treatyEndsRow.holds Tryz.pinned (OpenSpec.ofChange treatyEndsSpec)

/-- ITS FALSE NEIGHBOUR: 'it returns false'. Refute it at one input. -/
def treatyEndsWrong : ChangeSpec := { name := "treatyEnds", fn := fun _ => fun
  | [d1, d2] => { results := [.lit (.bool false)], args := [d1, d2] }
  | _ => none }
def TreatyEndsWrongFalsely : Prop := treatyEndsRow.holds Tryz.pinned (OpenSpec.ofChange treatyEndsWrong)

/-- 'hailstonelaw10.TreatyWider': WHATEVER THE INPUT: true; the input reads as it did. -/
def treatyWiderSpec : ChangeSpec := { name := "treatyWider", fn := fun _ => fun
  | [d1, d2, d3, d4] => { results := [.lit (.bool true)], args := [d1, d2, d3, d4] }
  | _ => none }
def treatyWiderRow : OpenClaim := { program := "ytkcmdghjgoaggaagreat", sum := "637bf63d8f7d302834278d084bee78b5c8124cc6c68885e8f52a4fb2008d28b9", func := "hailstone/hailstonelaw10.TreatyWider", spec := "treatyWider", unfollowed := true, recurses := true, plainKeys := false, apart := false }
def TreatyWiderSaid : Prop := treatyWiderRow.holds Tryz.pinned (OpenSpec.ofChange treatyWiderSpec)

/-- ITS FALSE NEIGHBOUR: 'it returns false'. Refute it at one input. -/
def treatyWiderWrong : ChangeSpec := { name := "treatyWider", fn := fun _ => fun
  | [d1, d2, d3, d4] => { results := [.lit (.bool false)], args := [d1, d2, d3, d4] }
  | _ => none }
def TreatyWiderWrongFalsely : Prop := treatyWiderRow.holds Tryz.pinned (OpenSpec.ofChange treatyWiderWrong)

/-- 'hailstonelaw10.TreatyLeft': WHATEVER THE INPUT: true; the input reads as it did. -/
def treatyLeftSpec : ChangeSpec := { name := "treatyLeft", fn := fun _ => fun
  | [d1, d2] => { results := [.lit (.bool true)], args := [d1, d2] }
  | _ => none }
def treatyLeftRow : OpenClaim := { program := "ytkcmdghjgoaggaagreat", sum := "637bf63d8f7d302834278d084bee78b5c8124cc6c68885e8f52a4fb2008d28b9", func := "hailstone/hailstonelaw10.TreatyLeft", spec := "treatyLeft", unfollowed := true, recurses := true, plainKeys := false, apart := false }
def TreatyLeftSaid : Prop := treatyLeftRow.holds Tryz.pinned (OpenSpec.ofChange treatyLeftSpec)

/-- ITS FALSE NEIGHBOUR: 'it returns false'. Refute it at one input. -/
def treatyLeftWrong : ChangeSpec := { name := "treatyLeft", fn := fun _ => fun
  | [d1, d2] => { results := [.lit (.bool false)], args := [d1, d2] }
  | _ => none }
def TreatyLeftWrongFalsely : Prop := treatyLeftRow.holds Tryz.pinned (OpenSpec.ofChange treatyLeftWrong)

/-- 'hailstonelaw10.TreatyNoCheaper': WHATEVER THE INPUT: true; the input reads as it did. -/
def treatyNoCheaperSpec : ChangeSpec := { name := "treatyNoCheaper", fn := fun _ => fun
  | [d1, d2, d3] => { results := [.lit (.bool true)], args := [d1, d2, d3] }
  | _ => none }
def treatyNoCheaperRow : OpenClaim := { program := "ytkcmdghjgoaggaagreat", sum := "637bf63d8f7d302834278d084bee78b5c8124cc6c68885e8f52a4fb2008d28b9", func := "hailstone/hailstonelaw10.TreatyNoCheaper", spec := "treatyNoCheaper", unfollowed := true, recurses := true, plainKeys := false, apart := false }
def TreatyNoCheaperSaid : Prop := treatyNoCheaperRow.holds Tryz.pinned (OpenSpec.ofChange treatyNoCheaperSpec)

/-- ITS FALSE NEIGHBOUR: 'it returns false'. Refute it at one input. -/
def treatyNoCheaperWrong : ChangeSpec := { name := "treatyNoCheaper", fn := fun _ => fun
  | [d1, d2, d3] => { results := [.lit (.bool false)], args := [d1, d2, d3] }
  | _ => none }
def TreatyNoCheaperWrongFalsely : Prop := treatyNoCheaperRow.holds Tryz.pinned (OpenSpec.ofChange treatyNoCheaperWrong)

/- THE SECOND FORM. 'bulk': how many values and letters a reading holds, each counted each time it is reached (what is shared counts as often as it is met; a slice's spare places count too). A statement '..UptoSaid' is the law's where the arguments, and the package variables that the reading takes, are together of bulk at most 1048576: NARROWER than '..Said'. Prove '..Said' where nothing that the law and all that it calls make is longer than what came in: it says more and counts as full. Else prove '..UptoSaid'. A law counts once. -/
mutual
def uptoBulk {H : Type} : DataW H → Nat
  | .lit (.string bytes) => bytes.length + 1
  | .lit _ => 1
  | .nil => 1
  | .ptr d => uptoBulk d + 1
  | .slice elems spare => uptoBulkAll elems + uptoBulkAll spare + 1
  | .agg parts => uptoBulkAll parts + 1
  | .iface _ d => uptoBulk d + 1
  | .map entries => uptoBulkEntries entries + 1
  | .held _ => 1
def uptoBulkAll {H : Type} : List (DataW H) → Nat
  | [] => 0
  | d :: r => uptoBulk d + uptoBulkAll r
def uptoBulkEntries {H : Type} : List (Lit × DataW H) → Nat
  | [] => 0
  | x :: r => uptoBulkEntry x + uptoBulkEntries r
def uptoBulkEntry {H : Type} : Lit × DataW H → Nat
  | (.string bytes, d) => bytes.length + uptoBulk d + 1
  | (_, d) => uptoBulk d + 1
 end
def uptoSmall : (H : Type) → List (DataW H) → Bool := fun _ ds => decide (uptoBulkAll ds ≤ 1048576)
def OpenSpec.upto (s : _root_.Go.ChangeSpec) : _root_.Go.OpenSpec := { _root_.Go.OpenSpec.ofChange s with cond := some uptoSmall }

/-- 'hailstonelaw10.TreatyPlays', WHERE WHAT IT READS IS OF BULK AT MOST 1048576: true; the input reads as it did. -/
def treatyPlaysUptoRow : OpenClaim := { program := "ytkcmdghjgoaggaagreat", sum := "637bf63d8f7d302834278d084bee78b5c8124cc6c68885e8f52a4fb2008d28b9", func := "hailstone/hailstonelaw10.TreatyPlays", spec := "treatyPlays", unfollowed := true, recurses := true, plainKeys := false, apart := false, narrowed := true }
def TreatyPlaysUptoSaid : Prop := treatyPlaysUptoRow.holds Tryz.pinned (OpenSpec.upto treatyPlaysSpec)

/-- 'hailstonelaw10.TreatyBounds', WHERE WHAT IT READS IS OF BULK AT MOST 1048576: true; the input reads as it did. -/
def treatyBoundsUptoRow : OpenClaim := { program := "ytkcmdghjgoaggaagreat", sum := "637bf63d8f7d302834278d084bee78b5c8124cc6c68885e8f52a4fb2008d28b9", func := "hailstone/hailstonelaw10.TreatyBounds", spec := "treatyBounds", unfollowed := true, recurses := true, plainKeys := false, apart := false, narrowed := true }
def TreatyBoundsUptoSaid : Prop := treatyBoundsUptoRow.holds Tryz.pinned (OpenSpec.upto treatyBoundsSpec)

/-- 'hailstonelaw10.TreatyKept', WHERE WHAT IT READS IS OF BULK AT MOST 1048576: true; the input reads as it did. -/
def treatyKeptUptoRow : OpenClaim := { program := "ytkcmdghjgoaggaagreat", sum := "637bf63d8f7d302834278d084bee78b5c8124cc6c68885e8f52a4fb2008d28b9", func := "hailstone/hailstonelaw10.TreatyKept", spec := "treatyKept", unfollowed := true, recurses := true, plainKeys := false, apart := false, narrowed := true }
def TreatyKeptUptoSaid : Prop := treatyKeptUptoRow.holds Tryz.pinned (OpenSpec.upto treatyKeptSpec)

/-- 'hailstonelaw10.TreatyCheapest', WHERE WHAT IT READS IS OF BULK AT MOST 1048576: true; the input reads as it did. -/
def treatyCheapestUptoRow : OpenClaim := { program := "ytkcmdghjgoaggaagreat", sum := "637bf63d8f7d302834278d084bee78b5c8124cc6c68885e8f52a4fb2008d28b9", func := "hailstone/hailstonelaw10.TreatyCheapest", spec := "treatyCheapest", unfollowed := true, recurses := true, plainKeys := false, apart := false, narrowed := true }
def TreatyCheapestUptoSaid : Prop := treatyCheapestUptoRow.holds Tryz.pinned (OpenSpec.upto treatyCheapestSpec)

/-- 'hailstonelaw10.TreatyLeaves', WHERE WHAT IT READS IS OF BULK AT MOST 1048576: true; the input reads as it did. -/
def treatyLeavesUptoRow : OpenClaim := { program := "ytkcmdghjgoaggaagreat", sum := "637bf63d8f7d302834278d084bee78b5c8124cc6c68885e8f52a4fb2008d28b9", func := "hailstone/hailstonelaw10.TreatyLeaves", spec := "treatyLeaves", unfollowed := true, recurses := true, plainKeys := false, apart := false, narrowed := true }
def TreatyLeavesUptoSaid : Prop := treatyLeavesUptoRow.holds Tryz.pinned (OpenSpec.upto treatyLeavesSpec)

/-- 'hailstonelaw10.TreatyTruth', WHERE WHAT IT READS IS OF BULK AT MOST 1048576: true; the input reads as it did. -/
def treatyTruthUptoRow : OpenClaim := { program := "ytkcmdghjgoaggaagreat", sum := "637bf63d8f7d302834278d084bee78b5c8124cc6c68885e8f52a4fb2008d28b9", func := "hailstone/hailstonelaw10.TreatyTruth", spec := "treatyTruth", unfollowed := true, recurses := true, plainKeys := false, apart := false, narrowed := true }
def TreatyTruthUptoSaid : Prop := treatyTruthUptoRow.holds Tryz.pinned (OpenSpec.upto treatyTruthSpec)

/-- 'hailstonelaw10.TreatyEnds', WHERE WHAT IT READS IS OF BULK AT MOST 1048576: true; the input reads as it did. -/
def treatyEndsUptoRow : OpenClaim := { program := "ytkcmdghjgoaggaagreat", sum := "637bf63d8f7d302834278d084bee78b5c8124cc6c68885e8f52a4fb2008d28b9", func := "hailstone/hailstonelaw10.TreatyEnds", spec := "treatyEnds", unfollowed := true, recurses := true, plainKeys := false, apart := false, narrowed := true }
def TreatyEndsUptoSaid : Prop := treatyEndsUptoRow.holds Tryz.pinned (OpenSpec.upto treatyEndsSpec)

/-- 'hailstonelaw10.TreatyWider', WHERE WHAT IT READS IS OF BULK AT MOST 1048576: true; the input reads as it did. -/
def treatyWiderUptoRow : OpenClaim := { program := "ytkcmdghjgoaggaagreat", sum := "637bf63d8f7d302834278d084bee78b5c8124cc6c68885e8f52a4fb2008d28b9", func := "hailstone/hailstonelaw10.TreatyWider", spec := "treatyWider", unfollowed := true, recurses := true, plainKeys := false, apart := false, narrowed := true }
def TreatyWiderUptoSaid : Prop := treatyWiderUptoRow.holds Tryz.pinned (OpenSpec.upto treatyWiderSpec)

/-- 'hailstonelaw10.TreatyLeft', WHERE WHAT IT READS IS OF BULK AT MOST 1048576: true; the input reads as it did. -/
def treatyLeftUptoRow : OpenClaim := { program := "ytkcmdghjgoaggaagreat", sum := "637bf63d8f7d302834278d084bee78b5c8124cc6c68885e8f52a4fb2008d28b9", func := "hailstone/hailstonelaw10.TreatyLeft", spec := "treatyLeft", unfollowed := true, recurses := true, plainKeys := false, apart := false, narrowed := true }
def TreatyLeftUptoSaid : Prop := treatyLeftUptoRow.holds Tryz.pinned (OpenSpec.upto treatyLeftSpec)

/-- 'hailstonelaw10.TreatyNoCheaper', WHERE WHAT IT READS IS OF BULK AT MOST 1048576: true; the input reads as it did. -/
def treatyNoCheaperUptoRow : OpenClaim := { program := "ytkcmdghjgoaggaagreat", sum := "637bf63d8f7d302834278d084bee78b5c8124cc6c68885e8f52a4fb2008d28b9", func := "hailstone/hailstonelaw10.TreatyNoCheaper", spec := "treatyNoCheaper", unfollowed := true, recurses := true, plainKeys := false, apart := false, narrowed := true }
def TreatyNoCheaperUptoSaid : Prop := treatyNoCheaperUptoRow.holds Tryz.pinned (OpenSpec.upto treatyNoCheaperSpec)

end Rows
end Go.Proofs.YtkcmdghjgoaggaaGreat
