/- What the evaluator asks of a program, of this one; and function 18, run in pieces: it returns true. Condition: none; a lemma text of this claim. -/
import Derived.Test.YtlkgdadfbfafcaaGreatPaC
import Derived.Test.YtlkgdadfbfafcaaGreatProg
import Derived.KernelRfl
namespace Go.Proofs.YtlkgdadfbfafcaaGreat
theorem fits:Go.Abs.zgE Go.Proofs.Tryz.prog:=⟨by decide +kernel,by kernel_rfl⟩
abbrev Il(n:Int):Go.Abs.C:=.int .i64 n
open Go.Abs
noncomputable section

/-! ### function 18, piece by piece -/
def zlF:Func:=zlu Go.Proofs.Tryz.prog 18
def zlG:List (Nat × Bool):=[]
def zlH:Rec:=tab zlG (ev Go.Proofs.Tryz.prog 100000)
theorem zlI:zir Go.Proofs.Tryz.prog zlH:=zlE (fun _ hx=>by cases hx) (zk9 fits 100000)
theorem zlJ:zlw Go.Proofs.Tryz.prog 18=true:=by kernel_rfl
def zlK:Code:=zlv Go.Proofs.Tryz.prog 18
def zlL:List (Nat × V):=[]
def zlM:List (Nat × AO):=[]
def zlN:Code:=zlp zlK
def zlO:List (Nat × V):=[(0,.c (.bool false))]
def zlP:List (Nat × AO):=[]
def zlQ:Code:=zlp zlN
def zlR:List (Nat × V):=[(0,.c (.bool false)),(1,.c (.sl 795 0 2 1 none)),(2,.c (.int .i64 (.ofNat 0)))]
def zlS:List (Nat × AO):=[(795,.cells 2 [.int .i64 (.ofNat 0),.int .i64 (.ofNat 2)] true)]
def zlT:Code:=zlp zlQ
def zlU:List (Nat × V):=[(0,.c (.bool false)),(1,.c (.sl 795 0 2 1 none)),(2,.c (.int .i64 (.ofNat 0))),(3,.c (.sl 1588 0 1 1 none)),(4,.c (.int .i64 (.ofNat 0)))]
def zlV:List (Nat × AO):=[(1588,.cells 1 [.int .i64 (.ofNat 1)] true),(795,.cells 2 [.int .i64 (.ofNat 0),.int .i64 (.ofNat 2)] true)]
def zlW:Code:=zlp zlT
def zlX:List (Nat × V):=[(0,.c (.bool false)),(1,.c (.sl 795 0 2 1 none)),(2,.c (.int .i64 (.ofNat 0))),(3,.c (.sl 1588 0 1 1 none)),(4,.c (.int .i64 (.ofNat 0))),(5,.c (.int .i64 (.ofNat 3))),(6,.c (.int .i64 (.ofNat 0)))]
def zlY:List (Nat × AO):=[(1588,.cells 1 [.int .i64 (.ofNat 1)] true),(795,.cells 2 [.int .i64 (.ofNat 0),.int .i64 (.ofNat 2)] true)]
def zlZ:Code:=zlp zlW
def zl0:List (Nat × V):=[(0,.c (.bool false)),(1,.c (.sl 795 0 2 1 none)),(2,.c (.int .i64 (.ofNat 0))),(3,.c (.sl 1588 0 1 1 none)),(4,.c (.int .i64 (.ofNat 0))),(5,.c (.int .i64 (.ofNat 3))),(6,.c (.int .i64 (.ofNat 0))),(7,.c (.ptr 3276 0)),(8,.c (.int .i64 (.ofNat 0)))]
def zl1:List (Nat × AO):=[(3276,.cells 2 [.int .i64 (.ofNat 0),.int .i64 (.ofNat 100)] false),(1588,.cells 1 [.int .i64 (.ofNat 1)] true),(795,.cells 2 [.int .i64 (.ofNat 0),.int .i64 (.ofNat 2)] true)]
def zl2:Code:=zlp zlZ
def zl3:List (Nat × V):=[(0,.c (.bool false)),(1,.c (.sl 795 0 2 1 none)),(2,.c (.int .i64 (.ofNat 0))),(3,.c (.sl 1588 0 1 1 none)),(4,.c (.int .i64 (.ofNat 0))),(5,.c (.int .i64 (.ofNat 3))),(6,.c (.int .i64 (.ofNat 0))),(7,.c (.ptr 3276 0)),(8,.c (.int .i64 (.ofNat 0))),(9,.c (.ptr 4093 0)),(10,.c (.int .i64 (.ofNat 0)))]
def zl4:List (Nat × AO):=[(4093,.cells 2 [.int .i64 (.ofNat 4),.int .i64 (.ofNat 6)] false),(3276,.cells 2 [.int .i64 (.ofNat 0),.int .i64 (.ofNat 100)] false),(1588,.cells 1 [.int .i64 (.ofNat 1)] true),(795,.cells 2 [.int .i64 (.ofNat 0),.int .i64 (.ofNat 2)] true)]
def zl5:Code:=zlp zl2
def zl6:List (Nat × V):=[(0,.c (.bool false)),(1,.c (.sl 795 0 2 1 none)),(2,.c (.int .i64 (.ofNat 0))),(3,.c (.sl 1588 0 1 1 none)),(4,.c (.int .i64 (.ofNat 0))),(5,.c (.int .i64 (.ofNat 3))),(6,.c (.int .i64 (.ofNat 0))),(7,.c (.ptr 3276 0)),(8,.c (.int .i64 (.ofNat 0))),(9,.c (.ptr 4093 0)),(10,.c (.int .i64 (.ofNat 0))),(11,.c (.int .i64 (.ofNat 4))),(12,.c (.int .i64 (.ofNat 0)))]
def zl7:List (Nat × AO):=[(4093,.cells 2 [.int .i64 (.ofNat 4),.int .i64 (.ofNat 6)] false),(3276,.cells 2 [.int .i64 (.ofNat 0),.int .i64 (.ofNat 100)] false),(1588,.cells 1 [.int .i64 (.ofNat 1)] true),(795,.cells 2 [.int .i64 (.ofNat 0),.int .i64 (.ofNat 2)] true)]
def zl8:Code:=zlp zl5
def zl9:List (Nat × V):=[(0,.c (.bool false)),(1,.c (.sl 795 0 2 1 none)),(2,.c (.int .i64 (.ofNat 0))),(3,.c (.sl 1588 0 1 1 none)),(4,.c (.int .i64 (.ofNat 0))),(5,.c (.int .i64 (.ofNat 3))),(6,.c (.int .i64 (.ofNat 0))),(7,.c (.ptr 3276 0)),(8,.c (.int .i64 (.ofNat 0))),(9,.c (.ptr 4093 0)),(10,.c (.int .i64 (.ofNat 0))),(11,.c (.int .i64 (.ofNat 4))),(12,.c (.int .i64 (.ofNat 0))),(13,.c (.sl 7588 0 1 1 none)),(14,.c (.int .i64 (.ofNat 0)))]
def zma:List (Nat × AO):=[(7588,.cells 1 [.int .i64 (.ofNat 4)] true),(4093,.cells 2 [.int .i64 (.ofNat 4),.int .i64 (.ofNat 6)] false),(3276,.cells 2 [.int .i64 (.ofNat 0),.int .i64 (.ofNat 100)] false),(1588,.cells 1 [.int .i64 (.ofNat 1)] true),(795,.cells 2 [.int .i64 (.ofNat 0),.int .i64 (.ofNat 2)] true)]
def zmb:Code:=zlp zl8
def zmc:List (Nat × V):=[(0,.c (.bool true))]
def zmd:List (Nat × AO):=[]
theorem zme:zln zlK=true:=by kernel_rfl
theorem zmf:Go.Abs.zld zlO 0 zlP (zdN Go.Proofs.Tryz.prog zlH (zlo zlK) (zla zlL) (zlc 0 zlM))=true:=by kernel_rfl
theorem zmg:zln zlN=true:=by kernel_rfl
theorem zmh:Go.Abs.zld zlR 796 zlS (zdN Go.Proofs.Tryz.prog zlH (zlo zlN) (zla zlO) (zlc 0 zlP))=true:=by kernel_rfl
theorem zmi:zln zlQ=true:=by kernel_rfl
theorem zmj:Go.Abs.zld zlU 1589 zlV (zdN Go.Proofs.Tryz.prog zlH (zlo zlQ) (zla zlR) (zlc 796 zlS))=true:=by kernel_rfl
theorem zmk:zln zlT=true:=by kernel_rfl
theorem zml:Go.Abs.zld zlX 2379 zlY (zdN Go.Proofs.Tryz.prog zlH (zlo zlT) (zla zlU) (zlc 1589 zlV))=true:=by kernel_rfl
theorem zmm:zln zlW=true:=by kernel_rfl
theorem zmn:Go.Abs.zld zl0 3277 zl1 (zdN Go.Proofs.Tryz.prog zlH (zlo zlW) (zla zlX) (zlc 2379 zlY))=true:=by kernel_rfl
theorem zmo:zln zlZ=true:=by kernel_rfl
theorem zmp:Go.Abs.zld zl3 4094 zl4 (zdN Go.Proofs.Tryz.prog zlH (zlo zlZ) (zla zl0) (zlc 3277 zl1))=true:=by kernel_rfl
theorem zmq:zln zl2=true:=by kernel_rfl
theorem zmr:Go.Abs.zld zl6 5160 zl7 (zdN Go.Proofs.Tryz.prog zlH (zlo zl2) (zla zl3) (zlc 4094 zl4))=true:=by kernel_rfl
theorem zms:zln zl5=true:=by kernel_rfl
theorem zmt:Go.Abs.zld zl9 7589 zma (zdN Go.Proofs.Tryz.prog zlH (zlo zl5) (zla zl6) (zlc 5160 zl7))=true:=by kernel_rfl
theorem zmu:zln zl8=true:=by kernel_rfl
theorem zmv:Go.Abs.zld zmc 7594 zmd (zdN Go.Proofs.Tryz.prog zlH (zlo zl8) (zla zl9) (zlc 7589 zma))=true:=by kernel_rfl
theorem zmw:Go.Abs.zle (.c (.bool true)) (Go.Abs.bind (zdN Go.Proofs.Tryz.prog zlH zmb (zla zmc) (zlc 7594 zmd)) (zdT Go.Proofs.Tryz.prog zlF))=true:=by kernel_rfl
theorem zmx(hso:slotsOk zlF.ntmps zmb=true):Go.Abs.zll Go.Proofs.Tryz.prog zlF (.c (.bool true)) zmb (zla zmc) (zlc 7594 zmd):=zlm fits zlI hso zmw
theorem zmy(hso:slotsOk zlF.ntmps zl8=true):Go.Abs.zll Go.Proofs.Tryz.prog zlF (.c (.bool true)) zl8 (zla zl9) (zlc 7589 zma):=zls fits zlI zmu hso zmv zmx
theorem zmz(hso:slotsOk zlF.ntmps zl5=true):Go.Abs.zll Go.Proofs.Tryz.prog zlF (.c (.bool true)) zl5 (zla zl6) (zlc 5160 zl7):=zls fits zlI zms hso zmt zmy
theorem zmA(hso:slotsOk zlF.ntmps zl2=true):Go.Abs.zll Go.Proofs.Tryz.prog zlF (.c (.bool true)) zl2 (zla zl3) (zlc 4094 zl4):=zls fits zlI zmq hso zmr zmz
theorem zmB(hso:slotsOk zlF.ntmps zlZ=true):Go.Abs.zll Go.Proofs.Tryz.prog zlF (.c (.bool true)) zlZ (zla zl0) (zlc 3277 zl1):=zls fits zlI zmo hso zmp zmA
theorem zmC(hso:slotsOk zlF.ntmps zlW=true):Go.Abs.zll Go.Proofs.Tryz.prog zlF (.c (.bool true)) zlW (zla zlX) (zlc 2379 zlY):=zls fits zlI zmm hso zmn zmB
theorem zmD(hso:slotsOk zlF.ntmps zlT=true):Go.Abs.zll Go.Proofs.Tryz.prog zlF (.c (.bool true)) zlT (zla zlU) (zlc 1589 zlV):=zls fits zlI zmk hso zml zmC
theorem zmE(hso:slotsOk zlF.ntmps zlQ=true):Go.Abs.zll Go.Proofs.Tryz.prog zlF (.c (.bool true)) zlQ (zla zlR) (zlc 796 zlS):=zls fits zlI zmi hso zmj zmD
theorem zmF(hso:slotsOk zlF.ntmps zlN=true):Go.Abs.zll Go.Proofs.Tryz.prog zlF (.c (.bool true)) zlN (zla zlO) (zlc 0 zlP):=zls fits zlI zmg hso zmh zmE
theorem zmG(hso:slotsOk zlF.ntmps zlK=true):Go.Abs.zll Go.Proofs.Tryz.prog zlF (.c (.bool true)) zlK (zla zlL) (zlc 0 zlM):=zls fits zlI zme hso zmf zmF
theorem zmH:zly Go.Proofs.Tryz.prog 18 true:=zlA zlJ (zmG (zlx zlJ).2.2.1)

def tbl:List (Nat × Bool):=[(18,true)]
theorem htab:zlC Go.Proofs.Tryz.prog tbl:=fun x (hx:x∈[((18:Nat),true)])=>by
  rcases List.mem_cons.1 hx with rfl | hx
  · exact⟨zlJ,zmH⟩
  · cases hx

end
end Go.Proofs.YtlkgdadfbfafcaaGreat

