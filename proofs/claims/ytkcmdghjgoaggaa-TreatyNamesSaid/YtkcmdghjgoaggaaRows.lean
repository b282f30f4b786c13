/-
  No cell of these rows narrows 'for every input' (looked for: loops, veiled, ifaces, maps, wideKeys, modest, calm, conditions, laid).
  DERIVED. THE GIVEN ROWS OF THIS SEAT. 5 by the template 'for every input the law returns true; each argument reads behind the call as it read before'; 0 by the template 'total and deterministic' (their statements: YtkcmdghjgoaggaaTotals.lean).
  GIVEN WITH THE SEED: the statements are not yours to turn. If you find one false, say at which input.
  Laid BY PROGRAM, IN A SANDBOX (cutbox-rows.mjs): the forced cells as the released guide's own fill.sh prints them over the translation 5e05255e52f7983d… (all of the seat's roots in one cut). By AI agents, Wed Nov 11 2026. No macro, syntax, notation, axiom, sorry.
-/
import Derived.Test.YtkcmdghjgoaggaaChecked
import GoSem.Claim
import GoSem.ClaimJoined
import GoSem.ClaimMapViews
import Derived.JoinedTies
import Derived.KernelRfl
namespace Go.Proofs.Ytkcmdghjgoaggaa
/- THE CELL 'sum', in the pinned program and in every row, IS THE sha256 OF THE DUMP (.gsa) THAT YtkcmdghjgoaggaaProg.lean LOADS. Nothing in Lean hashes anything: it is a label: what it is worth is what the hold of that sum in a sandbox is worth. -/
noncomputable def Try.pinned : Pinned := { name := "ytkcmdghjgoaggaa", sum := "5e05255e52f7983dfaf59e37bbcabc39e13c0991ff00d944b804f20059037a56", checked := Try.checked }
namespace Rows
def none {H : Type} : Left H := { results := [], args := [] }

/-- 'hailstonelaw10.TreatyNames': WHATEVER THE INPUT: true; the input reads as it did. -/
def treatyNamesSpec : ChangeSpec := { name := "treatyNames", fn := fun _ => fun
  | [] => { results := [.lit (.bool true)], args := [] }
  | _ => none }
def treatyNamesRow : OpenClaim := { program := "ytkcmdghjgoaggaa", sum := "5e05255e52f7983dfaf59e37bbcabc39e13c0991ff00d944b804f20059037a56", func := "hailstone/hailstonelaw10.TreatyNames", spec := "treatyNames", unfollowed := true, recurses := true, plainKeys := false, apart := false }
def TreatyNamesSaid : Prop := treatyNamesRow.holds Try.pinned (OpenSpec.ofChange treatyNamesSpec)

/-- ITS FALSE NEIGHBOUR: 'it returns false'. Refute it at one input. -/
def treatyNamesWrong : ChangeSpec := { name := "treatyNames", fn := fun _ => fun
  | [] => { results := [.lit (.bool false)], args := [] }
  | _ => none }
def TreatyNamesWrongFalsely : Prop := treatyNamesRow.holds Try.pinned (OpenSpec.ofChange treatyNamesWrong)

/-- 'hailstonelaw10.TreatyQuota': WHATEVER THE INPUT: true; the input reads as it did. -/
def treatyQuotaSpec : ChangeSpec := { name := "treatyQuota", fn := fun _ => fun
  | [d1, d2, d3] => { results := [.lit (.bool true)], args := [d1, d2, d3] }
  | _ => none }
def treatyQuotaRow : OpenClaim := { program := "ytkcmdghjgoaggaa", sum := "5e05255e52f7983dfaf59e37bbcabc39e13c0991ff00d944b804f20059037a56", func := "hailstone/hailstonelaw10.TreatyQuota", spec := "treatyQuota", unfollowed := true, recurses := true, plainKeys := false, apart := false }
def TreatyQuotaSaid : Prop := treatyQuotaRow.holds Try.pinned (OpenSpec.ofChange treatyQuotaSpec)

/-- ITS FALSE NEIGHBOUR: 'it returns false'. Refute it at one input. -/
def treatyQuotaWrong : ChangeSpec := { name := "treatyQuota", fn := fun _ => fun
  | [d1, d2, d3] => { results := [.lit (.bool false)], args := [d1, d2, d3] }
  | _ => none }
def TreatyQuotaWrongFalsely : Prop := treatyQuotaRow.holds Try.pinned (OpenSpec.ofChange treatyQuotaWrong)

/-- 'hailstonelaw10.TreatyMore': WHATEVER THE INPUT: true; the input reads as it did. -/
def treatyMoreSpec : ChangeSpec := { name := "treatyMore", fn := fun _ => fun
  | [d1, d2] => { results := [.lit (.bool true)], args := [d1, d2] }
  | _ => none }
def treatyMoreRow : OpenClaim := { program := "ytkcmdghjgoaggaa", sum := "5e05255e52f7983dfaf59e37bbcabc39e13c0991ff00d944b804f20059037a56", func := "hailstone/hailstonelaw10.TreatyMore", spec := "treatyMore", unfollowed := true, recurses := true, plainKeys := false, apart := false }
def TreatyMoreSaid : Prop := treatyMoreRow.holds Try.pinned (OpenSpec.ofChange treatyMoreSpec)

/-- ITS FALSE NEIGHBOUR: 'it returns false'. Refute it at one input. -/
def treatyMoreWrong : ChangeSpec := { name := "treatyMore", fn := fun _ => fun
  | [d1, d2] => { results := [.lit (.bool false)], args := [d1, d2] }
  | _ => none }
def TreatyMoreWrongFalsely : Prop := treatyMoreRow.holds Try.pinned (OpenSpec.ofChange treatyMoreWrong)

/-- 'hailstonelaw10.TreatyFirst': WHATEVER THE INPUT: true; the input reads as it did. -/
def treatyFirstSpec : ChangeSpec := { name := "treatyFirst", fn := fun _ => fun
  | [d] => { results := [.lit (.bool true)], args := [d] }
  | _ => none }
def treatyFirstRow : OpenClaim := { program := "ytkcmdghjgoaggaa", sum := "5e05255e52f7983dfaf59e37bbcabc39e13c0991ff00d944b804f20059037a56", func := "hailstone/hailstonelaw10.TreatyFirst", spec := "treatyFirst", unfollowed := true, recurses := true, plainKeys := false, apart := false }
def TreatyFirstSaid : Prop := treatyFirstRow.holds Try.pinned (OpenSpec.ofChange treatyFirstSpec)

/-- ITS FALSE NEIGHBOUR: 'it returns false'. Refute it at one input. -/
def treatyFirstWrong : ChangeSpec := { name := "treatyFirst", fn := fun _ => fun
  | [d] => { results := [.lit (.bool false)], args := [d] }
  | _ => none }
def TreatyFirstWrongFalsely : Prop := treatyFirstRow.holds Try.pinned (OpenSpec.ofChange treatyFirstWrong)

/-- 'hailstonelaw10.TreatyOthers': WHATEVER THE INPUT: true; the input reads as it did. -/
def treatyOthersSpec : ChangeSpec := { name := "treatyOthers", fn := fun _ => fun
  | [d1, d2, d3, d4] => { results := [.lit (.bool true)], args := [d1, d2, d3, d4] }
  | _ => none }
def treatyOthersRow : OpenClaim := { program := "ytkcmdghjgoaggaa", sum := "5e05255e52f7983dfaf59e37bbcabc39e13c0991ff00d944b804f20059037a56", func := "hailstone/hailstonelaw10.TreatyOthers", spec := "treatyOthers", unfollowed := true, recurses := true, plainKeys := false, apart := false }
def TreatyOthersSaid : Prop := treatyOthersRow.holds Try.pinned (OpenSpec.ofChange treatyOthersSpec)

/-- ITS FALSE NEIGHBOUR: 'it returns false'. Refute it at one input. -/
def treatyOthersWrong : ChangeSpec := { name := "treatyOthers", fn := fun _ => fun
  | [d1, d2, d3, d4] => { results := [.lit (.bool false)], args := [d1, d2, d3, d4] }
  | _ => none }
def TreatyOthersWrongFalsely : Prop := treatyOthersRow.holds Try.pinned (OpenSpec.ofChange treatyOthersWrong)

/- THE SECOND FORM. 'bulk': how many values and letters a reading holds, each counted each time it is reached (what is shared counts as often as it is met; a slice's spare places count too). A statement '..UptoSaid' is the law's where the arguments, and the package variables that the reading takes, are together of bulk at most 1048576: NARROWER than '..Said'. Prove '..Said' where nothing that the law and all that it calls make is longer than what came in: it says more and counts as full. Else prove '..UptoSaid'. A law counts once. -/
mutual
def uptoBulk {H : Type} : DataW H → Nat
  | .lit (.string bytes) => bytes.length + 1
  | .lit _ => 1
  | .nil => 1
  | .ptr d => uptoBulk d + 1
  | .slice elems spare => uptoBulkAll elems + uptoBulkAll spare + 1
  | .agg parts => uptoBulkAll parts + 1
  | .iface _ d => uptoBulk d + 1
  | .map entries => uptoBulkEntries entries + 1
  | .held _ => 1
def uptoBulkAll {H : Type} : List (DataW H) → Nat
  | [] => 0
  | d :: r => uptoBulk d + uptoBulkAll r
def uptoBulkEntries {H : Type} : List (Lit × DataW H) → Nat
  | [] => 0
  | x :: r => uptoBulkEntry x + uptoBulkEntries r
def uptoBulkEntry {H : Type} : Lit × DataW H → Nat
  | (.string bytes, d) => bytes.length + uptoBulk d + 1
  | (_, d) => uptoBulk d + 1
 end
def uptoSmall : (H : Type) → List (DataW H) → Bool := fun _ ds => decide (uptoBulkAll ds ≤ 1048576)
def OpenSpec.upto (s : _root_.Go.ChangeSpec) : _root_.Go.OpenSpec := { _root_.Go.OpenSpec.ofChange s with cond := some uptoSmall }

/-- 'hailstonelaw10.TreatyNames', WHERE WHAT IT READS IS OF BULK AT MOST 1048576: true; the input reads as it did. -/
def treatyNamesUptoRow : OpenClaim := { program := "ytkcmdghjgoaggaa", sum := "5e05255e52f7983dfaf59e37bbcabc39e13c0991ff00d944b804f20059037a56", func := "hailstone/hailstonelaw10.TreatyNames", spec := "treatyNames", unfollowed := true, recurses := true, plainKeys := false, apart := false, narrowed := true }
def TreatyNamesUptoSaid : Prop := treatyNamesUptoRow.holds Try.pinned (OpenSpec.upto treatyNamesSpec)

/-- 'hailstonelaw10.TreatyQuota', WHERE WHAT IT READS IS OF BULK AT MOST 1048576: true; the input reads as it did. -/
def treatyQuotaUptoRow : OpenClaim := { program := "ytkcmdghjgoaggaa", sum := "5e05255e52f7983dfaf59e37bbcabc39e13c0991ff00d944b804f20059037a56", func := "hailstone/hailstonelaw10.TreatyQuota", spec := "treatyQuota", unfollowed := true, recurses := true, plainKeys := false, apart := false, narrowed := true }
def TreatyQuotaUptoSaid : Prop := treatyQuotaUptoRow.holds Try.pinned (OpenSpec.upto treatyQuotaSpec)

/-- 'hailstonelaw10.TreatyMore', WHERE WHAT IT READS IS OF BULK AT MOST 1048576: true; the input reads as it did. -/
def treatyMoreUptoRow : OpenClaim := { program := "ytkcmdghjgoaggaa", sum := "5e05255e52f7983dfaf59e37bbcabc39e13c0991ff00d944b804f20059037a56", func := "hailstone/hailstonelaw10.TreatyMore", spec := "treatyMore", unfollowed := true, recurses := true, plainKeys := false, apart := false, narrowed := true }
def TreatyMoreUptoSaid : Prop := treatyMoreUptoRow.holds Try.pinned (OpenSpec.upto treatyMoreSpec)

/-- 'hailstonelaw10.TreatyFirst', WHERE WHAT IT READS IS OF BULK AT MOST 1048576: true; the input reads as it did. -/
def treatyFirstUptoRow : OpenClaim := { program := "ytkcmdghjgoaggaa", sum := "5e05255e52f7983dfaf59e37bbcabc39e13c0991ff00d944b804f20059037a56", func := "hailstone/hailstonelaw10.TreatyFirst", spec := "treatyFirst", unfollowed := true, recurses := true, plainKeys := false, apart := false, narrowed := true }
def TreatyFirstUptoSaid : Prop := treatyFirstUptoRow.holds Try.pinned (OpenSpec.upto treatyFirstSpec)

/-- 'hailstonelaw10.TreatyOthers', WHERE WHAT IT READS IS OF BULK AT MOST 1048576: true; the input reads as it did. -/
def treatyOthersUptoRow : OpenClaim := { program := "ytkcmdghjgoaggaa", sum := "5e05255e52f7983dfaf59e37bbcabc39e13c0991ff00d944b804f20059037a56", func := "hailstone/hailstonelaw10.TreatyOthers", spec := "treatyOthers", unfollowed := true, recurses := true, plainKeys := false, apart := false, narrowed := true }
def TreatyOthersUptoSaid : Prop := treatyOthersUptoRow.holds Try.pinned (OpenSpec.upto treatyOthersSpec)

end Rows
end Go.Proofs.Ytkcmdghjgoaggaa
