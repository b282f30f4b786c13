/- What the evaluator asks of a program, of this one. Condition: none; a lemma text of this claim. -/
import Derived.Test.YtlkgdadfbfafcaaGreatEvC
import Derived.Test.YtlkgdadfbfafcaaGreatProg
import Derived.KernelRfl
namespace Go.Proofs.YtlkgdadfbfafcaaGreat

theorem fits : Go.Abs.Fits Go.Proofs.Tryz.prog := ⟨by decide +kernel, by kernel_rfl⟩
end Go.Proofs.YtlkgdadfbfafcaaGreat
