/-
  No cell of these rows narrows 'for every input' (looked for: loops, veiled, ifaces, maps, wideKeys, modest, calm, conditions, laid).
  DERIVED. THE GIVEN ROWS OF THIS SEAT. 6 by the template 'for every input the law returns true; each argument reads behind the call as it read before'; 0 by the template 'total and deterministic' (their statements: YtmlaphekbnanjaaTotals.lean).
  GIVEN WITH THE SEED: the statements are not yours to turn. If you find one false, say at which input.
  Laid BY PROGRAM, IN A SANDBOX (cutbox-rows.mjs): the forced cells as the released guide's own fill.sh prints them over the translation 1e880e33892e879e… (all of the seat's roots in one cut). By AI agents, Wed Nov 11 2026. No macro, syntax, notation, axiom, sorry.
-/
import Derived.Test.YtmlaphekbnanjaaChecked
import GoSem.Claim
import GoSem.ClaimJoined
import GoSem.ClaimMapViews
import Derived.JoinedTies
import Derived.KernelRfl
namespace Go.Proofs.Ytmlaphekbnanjaa
/- THE CELL 'sum', in the pinned program and in every row, IS THE sha256 OF THE DUMP (.gsa) THAT YtmlaphekbnanjaaProg.lean LOADS. Nothing in Lean hashes anything: it is a label: what it is worth is what the hold of that sum in a sandbox is worth. -/
noncomputable def Try.pinned : Pinned := { name := "ytmlaphekbnanjaa", sum := "1e880e33892e879ebab4c6785fbea7b59867a473e1199b75fab279a81534a155", checked := Try.checked }
namespace Rows
def none {H : Type} : Left H := { results := [], args := [] }

/-- 'hailstonelaw04.GrowthNames': WHATEVER THE INPUT: true; the input reads as it did. -/
def growthNamesSpec : ChangeSpec := { name := "growthNames", fn := fun _ => fun
  | [] => { results := [.lit (.bool true)], args := [] }
  | _ => none }
def growthNamesRow : OpenClaim := { program := "ytmlaphekbnanjaa", sum := "1e880e33892e879ebab4c6785fbea7b59867a473e1199b75fab279a81534a155", func := "hailstone/hailstonelaw04.GrowthNames", spec := "growthNames", unfollowed := true, recurses := true, plainKeys := false, apart := false }
def GrowthNamesSaid : Prop := growthNamesRow.holds Try.pinned (OpenSpec.ofChange growthNamesSpec)

/-- ITS FALSE NEIGHBOUR: 'it returns false'. Refute it at one input. -/
def growthNamesWrong : ChangeSpec := { name := "growthNames", fn := fun _ => fun
  | [] => { results := [.lit (.bool false)], args := [] }
  | _ => none }
def GrowthNamesWrongFalsely : Prop := growthNamesRow.holds Try.pinned (OpenSpec.ofChange growthNamesWrong)

/-- 'hailstonelaw04.GrowthMore': WHATEVER THE INPUT: true; the input reads as it did. -/
def growthMoreSpec : ChangeSpec := { name := "growthMore", fn := fun _ => fun
  | [d1, d2, d3, d4] => { results := [.lit (.bool true)], args := [d1, d2, d3, d4] }
  | _ => none }
def growthMoreRow : OpenClaim := { program := "ytmlaphekbnanjaa", sum := "1e880e33892e879ebab4c6785fbea7b59867a473e1199b75fab279a81534a155", func := "hailstone/hailstonelaw04.GrowthMore", spec := "growthMore", unfollowed := true, recurses := true, plainKeys := false, apart := false }
def GrowthMoreSaid : Prop := growthMoreRow.holds Try.pinned (OpenSpec.ofChange growthMoreSpec)

/-- ITS FALSE NEIGHBOUR: 'it returns false'. Refute it at one input. -/
def growthMoreWrong : ChangeSpec := { name := "growthMore", fn := fun _ => fun
  | [d1, d2, d3, d4] => { results := [.lit (.bool false)], args := [d1, d2, d3, d4] }
  | _ => none }
def GrowthMoreWrongFalsely : Prop := growthMoreRow.holds Try.pinned (OpenSpec.ofChange growthMoreWrong)

/-- 'hailstonelaw04.GrowthDecided': WHATEVER THE INPUT: true; the input reads as it did. -/
def growthDecidedSpec : ChangeSpec := { name := "growthDecided", fn := fun _ => fun
  | [d1, d2, d3, d4] => { results := [.lit (.bool true)], args := [d1, d2, d3, d4] }
  | _ => none }
def growthDecidedRow : OpenClaim := { program := "ytmlaphekbnanjaa", sum := "1e880e33892e879ebab4c6785fbea7b59867a473e1199b75fab279a81534a155", func := "hailstone/hailstonelaw04.GrowthDecided", spec := "growthDecided", unfollowed := true, recurses := true, plainKeys := false, apart := false }
def GrowthDecidedSaid : Prop := growthDecidedRow.holds Try.pinned (OpenSpec.ofChange growthDecidedSpec)

/-- ITS FALSE NEIGHBOUR: 'it returns false'. Refute it at one input. -/
def growthDecidedWrong : ChangeSpec := { name := "growthDecided", fn := fun _ => fun
  | [d1, d2, d3, d4] => { results := [.lit (.bool false)], args := [d1, d2, d3, d4] }
  | _ => none }
def GrowthDecidedWrongFalsely : Prop := growthDecidedRow.holds Try.pinned (OpenSpec.ofChange growthDecidedWrong)

/-- 'hailstonelaw04.GrowthWider': WHATEVER THE INPUT: true; the input reads as it did. -/
def growthWiderSpec : ChangeSpec := { name := "growthWider", fn := fun _ => fun
  | [d1, d2, d3] => { results := [.lit (.bool true)], args := [d1, d2, d3] }
  | _ => none }
def growthWiderRow : OpenClaim := { program := "ytmlaphekbnanjaa", sum := "1e880e33892e879ebab4c6785fbea7b59867a473e1199b75fab279a81534a155", func := "hailstone/hailstonelaw04.GrowthWider", spec := "growthWider", unfollowed := true, recurses := true, plainKeys := false, apart := false }
def GrowthWiderSaid : Prop := growthWiderRow.holds Try.pinned (OpenSpec.ofChange growthWiderSpec)

/-- ITS FALSE NEIGHBOUR: 'it returns false'. Refute it at one input. -/
def growthWiderWrong : ChangeSpec := { name := "growthWider", fn := fun _ => fun
  | [d1, d2, d3] => { results := [.lit (.bool false)], args := [d1, d2, d3] }
  | _ => none }
def GrowthWiderWrongFalsely : Prop := growthWiderRow.holds Try.pinned (OpenSpec.ofChange growthWiderWrong)

/-- 'hailstonelaw04.GrowthFirst': WHATEVER THE INPUT: true; the input reads as it did. -/
def growthFirstSpec : ChangeSpec := { name := "growthFirst", fn := fun _ => fun
  | [d] => { results := [.lit (.bool true)], args := [d] }
  | _ => none }
def growthFirstRow : OpenClaim := { program := "ytmlaphekbnanjaa", sum := "1e880e33892e879ebab4c6785fbea7b59867a473e1199b75fab279a81534a155", func := "hailstone/hailstonelaw04.GrowthFirst", spec := "growthFirst", unfollowed := true, recurses := true, plainKeys := false, apart := false }
def GrowthFirstSaid : Prop := growthFirstRow.holds Try.pinned (OpenSpec.ofChange growthFirstSpec)

/-- ITS FALSE NEIGHBOUR: 'it returns false'. Refute it at one input. -/
def growthFirstWrong : ChangeSpec := { name := "growthFirst", fn := fun _ => fun
  | [d] => { results := [.lit (.bool false)], args := [d] }
  | _ => none }
def GrowthFirstWrongFalsely : Prop := growthFirstRow.holds Try.pinned (OpenSpec.ofChange growthFirstWrong)

/-- 'hailstonelaw04.GrowthApart': WHATEVER THE INPUT: true; the input reads as it did. -/
def growthApartSpec : ChangeSpec := { name := "growthApart", fn := fun _ => fun
  | [d1, d2, d3, d4] => { results := [.lit (.bool true)], args := [d1, d2, d3, d4] }
  | _ => none }
def growthApartRow : OpenClaim := { program := "ytmlaphekbnanjaa", sum := "1e880e33892e879ebab4c6785fbea7b59867a473e1199b75fab279a81534a155", func := "hailstone/hailstonelaw04.GrowthApart", spec := "growthApart", unfollowed := true, recurses := true, plainKeys := false, apart := false }
def GrowthApartSaid : Prop := growthApartRow.holds Try.pinned (OpenSpec.ofChange growthApartSpec)

/-- ITS FALSE NEIGHBOUR: 'it returns false'. Refute it at one input. -/
def growthApartWrong : ChangeSpec := { name := "growthApart", fn := fun _ => fun
  | [d1, d2, d3, d4] => { results := [.lit (.bool false)], args := [d1, d2, d3, d4] }
  | _ => none }
def GrowthApartWrongFalsely : Prop := growthApartRow.holds Try.pinned (OpenSpec.ofChange growthApartWrong)

/- THE SECOND FORM. 'bulk': how many values and letters a reading holds, each counted each time it is reached (what is shared counts as often as it is met; a slice's spare places count too). A statement '..UptoSaid' is the law's where the arguments, and the package variables that the reading takes, are together of bulk at most 1048576: NARROWER than '..Said'. Prove '..Said' where nothing that the law and all that it calls make is longer than what came in: it says more and counts as full. Else prove '..UptoSaid'. A law counts once. -/
mutual
def uptoBulk {H : Type} : DataW H → Nat
  | .lit (.string bytes) => bytes.length + 1
  | .lit _ => 1
  | .nil => 1
  | .ptr d => uptoBulk d + 1
  | .slice elems spare => uptoBulkAll elems + uptoBulkAll spare + 1
  | .agg parts => uptoBulkAll parts + 1
  | .iface _ d => uptoBulk d + 1
  | .map entries => uptoBulkEntries entries + 1
  | .held _ => 1
def uptoBulkAll {H : Type} : List (DataW H) → Nat
  | [] => 0
  | d :: r => uptoBulk d + uptoBulkAll r
def uptoBulkEntries {H : Type} : List (Lit × DataW H) → Nat
  | [] => 0
  | x :: r => uptoBulkEntry x + uptoBulkEntries r
def uptoBulkEntry {H : Type} : Lit × DataW H → Nat
  | (.string bytes, d) => bytes.length + uptoBulk d + 1
  | (_, d) => uptoBulk d + 1
 end
def uptoSmall : (H : Type) → List (DataW H) → Bool := fun _ ds => decide (uptoBulkAll ds ≤ 1048576)
def OpenSpec.upto (s : _root_.Go.ChangeSpec) : _root_.Go.OpenSpec := { _root_.Go.OpenSpec.ofChange s with cond := some uptoSmall }

/-- 'hailstonelaw04.GrowthNames', WHERE WHAT IT READS IS OF BULK AT MOST 1048576: true; the input reads as it did. -/
def growthNamesUptoRow : OpenClaim := { program := "ytmlaphekbnanjaa", sum := "1e880e33892e879ebab4c6785fbea7b59867a473e1199b75fab279a81534a155", func := "hailstone/hailstonelaw04.GrowthNames", spec := "growthNames", unfollowed := true, recurses := true, plainKeys := false, apart := false, narrowed := true }
def GrowthNamesUptoSaid : Prop := growthNamesUptoRow.holds Try.pinned (OpenSpec.upto growthNamesSpec)

/-- 'hailstonelaw04.GrowthMore', WHERE WHAT IT READS IS OF BULK AT MOST 1048576: true; the input reads as it did. -/
def growthMoreUptoRow : OpenClaim := { program := "ytmlaphekbnanjaa", sum := "1e880e33892e879ebab4c6785fbea7b59867a473e1199b75fab279a81534a155", func := "hailstone/hailstonelaw04.GrowthMore", spec := "growthMore", unfollowed := true, recurses := true, plainKeys := false, apart := false, narrowed := true }
def GrowthMoreUptoSaid : Prop := growthMoreUptoRow.holds Try.pinned (OpenSpec.upto growthMoreSpec)

/-- 'hailstonelaw04.GrowthDecided', WHERE WHAT IT READS IS OF BULK AT MOST 1048576: true; the input reads as it did. -/
def growthDecidedUptoRow : OpenClaim := { program := "ytmlaphekbnanjaa", sum := "1e880e33892e879ebab4c6785fbea7b59867a473e1199b75fab279a81534a155", func := "hailstone/hailstonelaw04.GrowthDecided", spec := "growthDecided", unfollowed := true, recurses := true, plainKeys := false, apart := false, narrowed := true }
def GrowthDecidedUptoSaid : Prop := growthDecidedUptoRow.holds Try.pinned (OpenSpec.upto growthDecidedSpec)

/-- 'hailstonelaw04.GrowthWider', WHERE WHAT IT READS IS OF BULK AT MOST 1048576: true; the input reads as it did. -/
def growthWiderUptoRow : OpenClaim := { program := "ytmlaphekbnanjaa", sum := "1e880e33892e879ebab4c6785fbea7b59867a473e1199b75fab279a81534a155", func := "hailstone/hailstonelaw04.GrowthWider", spec := "growthWider", unfollowed := true, recurses := true, plainKeys := false, apart := false, narrowed := true }
def GrowthWiderUptoSaid : Prop := growthWiderUptoRow.holds Try.pinned (OpenSpec.upto growthWiderSpec)

/-- 'hailstonelaw04.GrowthFirst', WHERE WHAT IT READS IS OF BULK AT MOST 1048576: true; the input reads as it did. -/
def growthFirstUptoRow : OpenClaim := { program := "ytmlaphekbnanjaa", sum := "1e880e33892e879ebab4c6785fbea7b59867a473e1199b75fab279a81534a155", func := "hailstone/hailstonelaw04.GrowthFirst", spec := "growthFirst", unfollowed := true, recurses := true, plainKeys := false, apart := false, narrowed := true }
def GrowthFirstUptoSaid : Prop := growthFirstUptoRow.holds Try.pinned (OpenSpec.upto growthFirstSpec)

/-- 'hailstonelaw04.GrowthApart', WHERE WHAT IT READS IS OF BULK AT MOST 1048576: true; the input reads as it did. -/
def growthApartUptoRow : OpenClaim := { program := "ytmlaphekbnanjaa", sum := "1e880e33892e879ebab4c6785fbea7b59867a473e1199b75fab279a81534a155", func := "hailstone/hailstonelaw04.GrowthApart", spec := "growthApart", unfollowed := true, recurses := true, plainKeys := false, apart := false, narrowed := true }
def GrowthApartUptoSaid : Prop := growthApartUptoRow.holds Try.pinned (OpenSpec.upto growthApartSpec)

end Rows
end Go.Proofs.Ytmlaphekbnanjaa
