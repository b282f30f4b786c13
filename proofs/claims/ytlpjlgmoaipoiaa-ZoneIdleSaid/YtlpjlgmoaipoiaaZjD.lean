/- What the evaluator asks of a program, of this one. Condition: none; a lemma text of this claim. -/
import Derived.Test.YtlpjlgmoaipoiaaZjC
import Derived.Test.YtlpjlgmoaipoiaaProg
import Derived.KernelRfl
namespace Go.Proofs.Ytlpjlgmoaipoiaa
theorem fits:Go.Abs.zgE Go.Proofs.Try.prog:=⟨by decide +kernel,by kernel_rfl⟩
abbrev Il(n:Int):Go.Abs.C:=.int .i64 n
open Go.Abs
noncomputable section
def tbl:List (Nat × Bool):=[]
theorem htab:zll Go.Proofs.Try.prog tbl:=fun _ hx=>by cases hx

end
end Go.Proofs.Ytlpjlgmoaipoiaa

