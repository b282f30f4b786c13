/- What the evaluator asks of a program, of this one; and function 18, run in pieces: it returns true. Condition: none; a lemma text of this claim. -/
import Derived.Test.YtlkgdadfbfafcaaGreatPaC
import Derived.Test.YtlkgdadfbfafcaaGreatProg
import Derived.KernelRfl
namespace Go.Proofs.YtlkgdadfbfafcaaGreat
theorem fits:Go.Abs.zgE Go.Proofs.Tryz.prog:=⟨by decide +kernel,by kernel_rfl⟩
abbrev Il(n:Int):Go.Abs.C:=.int .i64 n
open Go.Abs
noncomputable section
/-! ### function 18, piece by piece -/
def zlF:Func:=zlu Go.Proofs.Tryz.prog 18
def zlG:List (Nat × Bool):=[]
def zlH:Rec:=tab zlG (ev Go.Proofs.Tryz.prog 100000)
theorem zlI:zir Go.Proofs.Tryz.prog zlH:=zlE (fun _ hx=>by cases hx) (zk9 fits 100000)
theorem zlJ:zlw Go.Proofs.Tryz.prog 18=true:=by kernel_rfl
def zlK:Code:=zlv Go.Proofs.Tryz.prog 18
def zlL:List (Nat × V):=[]
def zlM:List (Nat × AO):=[]
def zlN:Code:=zlp zlK
def zlO:List (Nat × V):=[(0,.c (.bool false))]
def zlP:List (Nat × AO):=[]
theorem zlQ:zln zlK=true:=by kernel_rfl
theorem zlR:Go.Abs.zld zlO 0 zlP (zdN Go.Proofs.Tryz.prog zlH (zlo zlK) (zla zlL) (zlc 0 zlM))=true:=by kernel_rfl
theorem zlS:Go.Abs.zle (.c (.bool true)) (Go.Abs.bind (zdN Go.Proofs.Tryz.prog zlH zlN (zla zlO) (zlc 0 zlP)) (zdT Go.Proofs.Tryz.prog zlF))=true:=by kernel_rfl
theorem zlT(hso:slotsOk zlF.ntmps zlN=true):Go.Abs.zll Go.Proofs.Tryz.prog zlF (.c (.bool true)) zlN (zla zlO) (zlc 0 zlP):=zlm fits zlI hso zlS
theorem zlU(hso:slotsOk zlF.ntmps zlK=true):Go.Abs.zll Go.Proofs.Tryz.prog zlF (.c (.bool true)) zlK (zla zlL) (zlc 0 zlM):=zls fits zlI zlQ hso zlR zlT
theorem zlV:zly Go.Proofs.Tryz.prog 18 true:=zlA zlJ (zlU (zlx zlJ).2.2.1)

def tbl:List (Nat × Bool):=[(18,true)]
theorem htab:zlC Go.Proofs.Tryz.prog tbl:=fun x (hx:x∈[((18:Nat),true)])=>by
  rcases List.mem_cons.1 hx with rfl | hx
  · exact⟨zlJ,zlV⟩
  · cases hx

end
end Go.Proofs.YtlkgdadfbfafcaaGreat

