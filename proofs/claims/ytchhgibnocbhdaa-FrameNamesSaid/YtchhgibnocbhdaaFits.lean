/- What the evaluator asks of a program, of this one. Condition: none; a lemma text of this claim. -/
import Derived.Test.YtchhgibnocbhdaaEvC
import Derived.Test.YtchhgibnocbhdaaProg
import Derived.KernelRfl
namespace Go.Proofs.Ytchhgibnocbhdaa

theorem fits : Go.Abs.Fits Go.Proofs.Try.prog := ⟨by decide +kernel, by kernel_rfl⟩
end Go.Proofs.Ytchhgibnocbhdaa
