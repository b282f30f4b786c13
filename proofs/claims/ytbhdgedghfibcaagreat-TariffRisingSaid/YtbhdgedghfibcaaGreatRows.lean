/-
  No cell of these rows narrows 'for every input' (looked for: loops, veiled, ifaces, maps, wideKeys, modest, calm, conditions, laid).
  DERIVED. THE GIVEN ROWS OF THIS SEAT. 2 by the template 'for every input the law returns true; each argument reads behind the call as it read before'; 0 by the template 'total and deterministic' (their statements: YtbhdgedghfibcaaGreatTotals.lean).
  GIVEN WITH THE SEED: the statements are not yours to turn. If you find one false, say at which input.
  Laid BY PROGRAM, IN A SANDBOX (cutbox-rows.mjs): the forced cells as the released guide's own fill.sh prints them over the translation a13b7eb2ce96d60d… (all of the seat's roots in one cut). By AI agents, Wed Nov 11 2026. No macro, syntax, notation, axiom, sorry.
-/
import Derived.Test.YtbhdgedghfibcaaGreatChecked
import GoSem.Claim
import GoSem.ClaimJoined
import GoSem.ClaimMapViews
import Derived.JoinedTies
import Derived.KernelRfl
namespace Go.Proofs.YtbhdgedghfibcaaGreat
/- THE CELL 'sum', in the pinned program and in every row, IS THE sha256 OF THE DUMP (.gsa) THAT YtbhdgedghfibcaaGreatProg.lean LOADS. Nothing in Lean hashes anything: it is a label: what it is worth is what the hold of that sum in a sandbox is worth. -/
noncomputable def Tryz.pinned : Pinned := { name := "ytbhdgedghfibcaagreat", sum := "a13b7eb2ce96d60d036469412fca79fccde5d5bf2c881b1068134c3ec0beee32", checked := Tryz.checked }
namespace Rows
def none {H : Type} : Left H := { results := [], args := [] }

/-- 'hailstonelaw05.TariffMisprints': WHATEVER THE INPUT: true; the input reads as it did. -/
def tariffMisprintsSpec : ChangeSpec := { name := "tariffMisprints", fn := fun _ => fun
  | [d1, d2, d3, d4] => { results := [.lit (.bool true)], args := [d1, d2, d3, d4] }
  | _ => none }
def tariffMisprintsRow : OpenClaim := { program := "ytbhdgedghfibcaagreat", sum := "a13b7eb2ce96d60d036469412fca79fccde5d5bf2c881b1068134c3ec0beee32", func := "hailstone/hailstonelaw05.TariffMisprints", spec := "tariffMisprints", unfollowed := true, recurses := true, plainKeys := false, apart := false }
def TariffMisprintsSaid : Prop := tariffMisprintsRow.holds Tryz.pinned (OpenSpec.ofChange tariffMisprintsSpec)

/-- ITS FALSE NEIGHBOUR: 'it returns false'. Refute it at one input. -/
def tariffMisprintsWrong : ChangeSpec := { name := "tariffMisprints", fn := fun _ => fun
  | [d1, d2, d3, d4] => { results := [.lit (.bool false)], args := [d1, d2, d3, d4] }
  | _ => none }
def TariffMisprintsWrongFalsely : Prop := tariffMisprintsRow.holds Tryz.pinned (OpenSpec.ofChange tariffMisprintsWrong)

/-- 'hailstonelaw05.TariffRising': WHATEVER THE INPUT: true; the input reads as it did. -/
def tariffRisingSpec : ChangeSpec := { name := "tariffRising", fn := fun _ => fun
  | [d1, d2, d3, d4, d5] => { results := [.lit (.bool true)], args := [d1, d2, d3, d4, d5] }
  | _ => none }
def tariffRisingRow : OpenClaim := { program := "ytbhdgedghfibcaagreat", sum := "a13b7eb2ce96d60d036469412fca79fccde5d5bf2c881b1068134c3ec0beee32", func := "hailstone/hailstonelaw05.TariffRising", spec := "tariffRising", unfollowed := true, recurses := true, plainKeys := false, apart := false }
def TariffRisingSaid : Prop := tariffRisingRow.holds Tryz.pinned (OpenSpec.ofChange tariffRisingSpec)

/-- ITS FALSE NEIGHBOUR: 'it returns false'. Refute it at one input. -/
def tariffRisingWrong : ChangeSpec := { name := "tariffRising", fn := fun _ => fun
  | [d1, d2, d3, d4, d5] => { results := [.lit (.bool false)], args := [d1, d2, d3, d4, d5] }
  | _ => none }
def TariffRisingWrongFalsely : Prop := tariffRisingRow.holds Tryz.pinned (OpenSpec.ofChange tariffRisingWrong)

/- THE SECOND FORM. 'bulk': how many values and letters a reading holds, each counted each time it is reached (what is shared counts as often as it is met; a slice's spare places count too). A statement '..UptoSaid' is the law's where the arguments, and the package variables that the reading takes, are together of bulk at most 1048576: NARROWER than '..Said'. Prove '..Said' where nothing that the law and all that it calls make is longer than what came in: it says more and counts as full. Else prove '..UptoSaid'. A law counts once. -/
mutual
def uptoBulk {H : Type} : DataW H → Nat
  | .lit (.string bytes) => bytes.length + 1
  | .lit _ => 1
  | .nil => 1
  | .ptr d => uptoBulk d + 1
  | .slice elems spare => uptoBulkAll elems + uptoBulkAll spare + 1
  | .agg parts => uptoBulkAll parts + 1
  | .iface _ d => uptoBulk d + 1
  | .map entries => uptoBulkEntries entries + 1
  | .held _ => 1
def uptoBulkAll {H : Type} : List (DataW H) → Nat
  | [] => 0
  | d :: r => uptoBulk d + uptoBulkAll r
def uptoBulkEntries {H : Type} : List (Lit × DataW H) → Nat
  | [] => 0
  | x :: r => uptoBulkEntry x + uptoBulkEntries r
def uptoBulkEntry {H : Type} : Lit × DataW H → Nat
  | (.string bytes, d) => bytes.length + uptoBulk d + 1
  | (_, d) => uptoBulk d + 1
 end
def uptoSmall : (H : Type) → List (DataW H) → Bool := fun _ ds => decide (uptoBulkAll ds ≤ 1048576)
def OpenSpec.upto (s : _root_.Go.ChangeSpec) : _root_.Go.OpenSpec := { _root_.Go.OpenSpec.ofChange s with cond := some uptoSmall }

/-- 'hailstonelaw05.TariffMisprints', WHERE WHAT IT READS IS OF BULK AT MOST 1048576: true; the input reads as it did. -/
def tariffMisprintsUptoRow : OpenClaim := { program := "ytbhdgedghfibcaagreat", sum := "a13b7eb2ce96d60d036469412fca79fccde5d5bf2c881b1068134c3ec0beee32", func := "hailstone/hailstonelaw05.TariffMisprints", spec := "tariffMisprints", unfollowed := true, recurses := true, plainKeys := false, apart := false, narrowed := true }
def TariffMisprintsUptoSaid : Prop := tariffMisprintsUptoRow.holds Tryz.pinned (OpenSpec.upto tariffMisprintsSpec)

/-- 'hailstonelaw05.TariffRising', WHERE WHAT IT READS IS OF BULK AT MOST 1048576: true; the input reads as it did. -/
def tariffRisingUptoRow : OpenClaim := { program := "ytbhdgedghfibcaagreat", sum := "a13b7eb2ce96d60d036469412fca79fccde5d5bf2c881b1068134c3ec0beee32", func := "hailstone/hailstonelaw05.TariffRising", spec := "tariffRising", unfollowed := true, recurses := true, plainKeys := false, apart := false, narrowed := true }
def TariffRisingUptoSaid : Prop := tariffRisingUptoRow.holds Tryz.pinned (OpenSpec.upto tariffRisingSpec)

end Rows
end Go.Proofs.YtbhdgedghfibcaaGreat
