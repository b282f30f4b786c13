/- What the evaluator asks of a program, of this one. Condition: none; a lemma text of this claim. -/
import Derived.Test.YtbfaeehdlnkcnaaGreatEvC
import Derived.Test.YtbfaeehdlnkcnaaGreatProg
import Derived.KernelRfl
namespace Go.Proofs.YtbfaeehdlnkcnaaGreat

theorem fits : Go.Abs.Fits Go.Proofs.Tryz.prog := ⟨by decide +kernel, by kernel_rfl⟩
end Go.Proofs.YtbfaeehdlnkcnaaGreat
