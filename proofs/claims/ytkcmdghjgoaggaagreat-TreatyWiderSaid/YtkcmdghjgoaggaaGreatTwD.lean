/- What the evaluator asks of a program, of this one. Condition: none; a lemma text of this claim. -/
import Derived.Test.YtkcmdghjgoaggaaGreatTwC
import Derived.Test.YtkcmdghjgoaggaaGreatProg
import Derived.KernelRfl
namespace Go.Proofs.YtkcmdghjgoaggaaGreat
theorem fits:Go.Abs.zgE Go.Proofs.Tryz.prog:=⟨by decide +kernel,by kernel_rfl⟩
abbrev Il(n:Int):Go.Abs.C:=.int .i64 n
open Go.Abs
noncomputable section
def tbl:List (Nat × Bool):=[]
theorem htab:zlm Go.Proofs.Tryz.prog tbl:=fun _ hx=>by cases hx

end
end Go.Proofs.YtkcmdghjgoaggaaGreat

