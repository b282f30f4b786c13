/- What the evaluator asks of a program, of this one; and function 17, run in pieces: it returns true. Condition: none; a lemma text of this claim. -/
import Derived.Test.YtdedachmfbiekaaTaC
import Derived.Test.YtdedachmfbiekaaProg
import Derived.KernelRfl
namespace Go.Proofs.Ytdedachmfbiekaa
theorem fits:Go.Abs.zgE Go.Proofs.Try.prog:=⟨by decide +kernel,by kernel_rfl⟩
abbrev Il(n:Int):Go.Abs.C:=.int .i64 n
open Go.Abs
noncomputable section
/-! ### function 17, piece by piece -/
def zlE:Func:=zlt Go.Proofs.Try.prog 17
def zlF:List (Nat × Bool):=[]
def zlG:Rec:=tab zlF (ev Go.Proofs.Try.prog 100000)
theorem zlH:zir Go.Proofs.Try.prog zlG:=zlD (fun _ hx=>by cases hx) (zk9 fits 100000)
theorem zlI:zlv Go.Proofs.Try.prog 17=true:=by kernel_rfl
def zlJ:Code:=zlu Go.Proofs.Try.prog 17
def zlK:List (Nat × V):=[]
def zlL:List (Nat × AO):=[]
def zlM:Code:=zlp zlJ
def zlN:List (Nat × V):=[(0,.c (.bool false))]
def zlO:List (Nat × AO):=[]
def zlP:Code:=zlp zlM
def zlQ:List (Nat × V):=[(0,.c (.bool false)),(1,.c (.int .i64 (.ofNat 8))),(2,.c (.int .i64 (.ofNat 0)))]
def zlR:List (Nat × AO):=[]
def zlS:Code:=zlp zlP
def zlT:List (Nat × V):=[(0,.c (.bool false)),(1,.c (.int .i64 (.ofNat 8))),(2,.c (.int .i64 (.ofNat 0))),(3,.c (.int .i64 (.ofNat 35))),(4,.c (.int .i64 (.ofNat 0)))]
def zlU:List (Nat × AO):=[]
def zlV:Code:=zlp zlS
def zlW:List (Nat × V):=[(0,.c (.bool false)),(1,.c (.int .i64 (.ofNat 8))),(2,.c (.int .i64 (.ofNat 0))),(3,.c (.int .i64 (.ofNat 35))),(4,.c (.int .i64 (.ofNat 0))),(5,.c (.ptr 777 0)),(6,.c (.int .i64 (.ofNat 0)))]
def zlX:List (Nat × AO):=[(777,.cells 2 [.int .i64 (.ofNat 105),.int .i64 (.ofNat 210)] false)]
def zlY:Code:=zlp zlV
def zlZ:List (Nat × V):=[(0,.c (.bool false)),(1,.c (.int .i64 (.ofNat 8))),(2,.c (.int .i64 (.ofNat 0))),(3,.c (.int .i64 (.ofNat 35))),(4,.c (.int .i64 (.ofNat 0))),(5,.c (.ptr 777 0)),(6,.c (.int .i64 (.ofNat 0))),(7,.c (.ptr 1548 0)),(8,.c (.int .i64 (.ofNat 0)))]
def zl0:List (Nat × AO):=[(1548,.cells 2 [.int .i64 (.ofNat 10),.int .i64 (.ofNat 20)] false),(777,.cells 2 [.int .i64 (.ofNat 105),.int .i64 (.ofNat 210)] false)]
def zl1:Code:=zlp zlY
def zl2:List (Nat × V):=[(0,.c (.bool false)),(1,.c (.int .i64 (.ofNat 8))),(2,.c (.int .i64 (.ofNat 0))),(3,.c (.int .i64 (.ofNat 35))),(4,.c (.int .i64 (.ofNat 0))),(5,.c (.ptr 777 0)),(6,.c (.int .i64 (.ofNat 0))),(7,.c (.ptr 1548 0)),(8,.c (.int .i64 (.ofNat 0))),(9,.c (.int .i64 (.ofNat 1))),(10,.c (.int .i64 (.ofNat 0)))]
def zl3:List (Nat × AO):=[(1548,.cells 2 [.int .i64 (.ofNat 10),.int .i64 (.ofNat 20)] false),(777,.cells 2 [.int .i64 (.ofNat 105),.int .i64 (.ofNat 210)] false)]
def zl4:Code:=zlp zl1
def zl5:List (Nat × V):=[(0,.c (.bool false)),(1,.c (.int .i64 (.ofNat 8))),(2,.c (.int .i64 (.ofNat 0))),(3,.c (.int .i64 (.ofNat 35))),(4,.c (.int .i64 (.ofNat 0))),(5,.c (.ptr 777 0)),(6,.c (.int .i64 (.ofNat 0))),(7,.c (.ptr 1548 0)),(8,.c (.int .i64 (.ofNat 0))),(9,.c (.int .i64 (.ofNat 1))),(10,.c (.int .i64 (.ofNat 0))),(11,.c (.int .i64 (.ofNat 13))),(12,.c (.int .i64 (.ofNat 0)))]
def zl6:List (Nat × AO):=[(1548,.cells 2 [.int .i64 (.ofNat 10),.int .i64 (.ofNat 20)] false),(777,.cells 2 [.int .i64 (.ofNat 105),.int .i64 (.ofNat 210)] false)]
def zl7:Code:=zlp zl4
def zl8:List (Nat × V):=[(0,.c (.bool true))]
def zl9:List (Nat × AO):=[]
theorem zma:zln zlJ=true:=by kernel_rfl
theorem zmb:Go.Abs.zld zlN 0 zlO (zdN Go.Proofs.Try.prog zlG (zlo zlJ) (zla zlK) (zlc 0 zlL))=true:=by kernel_rfl
theorem zmc:zln zlM=true:=by kernel_rfl
theorem zmd:Go.Abs.zld zlQ 81 zlR (zdN Go.Proofs.Try.prog zlG (zlo zlM) (zla zlN) (zlc 0 zlO))=true:=by kernel_rfl
theorem zme:zln zlP=true:=by kernel_rfl
theorem zmf:Go.Abs.zld zlT 162 zlU (zdN Go.Proofs.Try.prog zlG (zlo zlP) (zla zlQ) (zlc 81 zlR))=true:=by kernel_rfl
theorem zmg:zln zlS=true:=by kernel_rfl
theorem zmh:Go.Abs.zld zlW 778 zlX (zdN Go.Proofs.Try.prog zlG (zlo zlS) (zla zlT) (zlc 162 zlU))=true:=by kernel_rfl
theorem zmi:zln zlV=true:=by kernel_rfl
theorem zmj:Go.Abs.zld zlZ 1549 zl0 (zdN Go.Proofs.Try.prog zlG (zlo zlV) (zla zlW) (zlc 778 zlX))=true:=by kernel_rfl
theorem zmk:zln zlY=true:=by kernel_rfl
theorem zml:Go.Abs.zld zl2 2166 zl3 (zdN Go.Proofs.Try.prog zlG (zlo zlY) (zla zlZ) (zlc 1549 zl0))=true:=by kernel_rfl
theorem zmm:zln zl1=true:=by kernel_rfl
theorem zmn:Go.Abs.zld zl5 2418 zl6 (zdN Go.Proofs.Try.prog zlG (zlo zl1) (zla zl2) (zlc 2166 zl3))=true:=by kernel_rfl
theorem zmo:zln zl4=true:=by kernel_rfl
theorem zmp:Go.Abs.zld zl8 2419 zl9 (zdN Go.Proofs.Try.prog zlG (zlo zl4) (zla zl5) (zlc 2418 zl6))=true:=by kernel_rfl
theorem zmq:Go.Abs.zle (.c (.bool true)) (Go.Abs.bind (zdN Go.Proofs.Try.prog zlG zl7 (zla zl8) (zlc 2419 zl9)) (zdT Go.Proofs.Try.prog zlE))=true:=by kernel_rfl
theorem zmr(hso:slotsOk zlE.ntmps zl7=true):Go.Abs.zll Go.Proofs.Try.prog zlE (.c (.bool true)) zl7 (zla zl8) (zlc 2419 zl9):=zlm fits zlH hso zmq
theorem zms(hso:slotsOk zlE.ntmps zl4=true):Go.Abs.zll Go.Proofs.Try.prog zlE (.c (.bool true)) zl4 (zla zl5) (zlc 2418 zl6):=zlr fits zlH zmo hso zmp zmr
theorem zmt(hso:slotsOk zlE.ntmps zl1=true):Go.Abs.zll Go.Proofs.Try.prog zlE (.c (.bool true)) zl1 (zla zl2) (zlc 2166 zl3):=zlr fits zlH zmm hso zmn zms
theorem zmu(hso:slotsOk zlE.ntmps zlY=true):Go.Abs.zll Go.Proofs.Try.prog zlE (.c (.bool true)) zlY (zla zlZ) (zlc 1549 zl0):=zlr fits zlH zmk hso zml zmt
theorem zmv(hso:slotsOk zlE.ntmps zlV=true):Go.Abs.zll Go.Proofs.Try.prog zlE (.c (.bool true)) zlV (zla zlW) (zlc 778 zlX):=zlr fits zlH zmi hso zmj zmu
theorem zmw(hso:slotsOk zlE.ntmps zlS=true):Go.Abs.zll Go.Proofs.Try.prog zlE (.c (.bool true)) zlS (zla zlT) (zlc 162 zlU):=zlr fits zlH zmg hso zmh zmv
theorem zmx(hso:slotsOk zlE.ntmps zlP=true):Go.Abs.zll Go.Proofs.Try.prog zlE (.c (.bool true)) zlP (zla zlQ) (zlc 81 zlR):=zlr fits zlH zme hso zmf zmw
theorem zmy(hso:slotsOk zlE.ntmps zlM=true):Go.Abs.zll Go.Proofs.Try.prog zlE (.c (.bool true)) zlM (zla zlN) (zlc 0 zlO):=zlr fits zlH zmc hso zmd zmx
theorem zmz(hso:slotsOk zlE.ntmps zlJ=true):Go.Abs.zll Go.Proofs.Try.prog zlE (.c (.bool true)) zlJ (zla zlK) (zlc 0 zlL):=zlr fits zlH zma hso zmb zmy
theorem zmA:zlx Go.Proofs.Try.prog 17 true:=zlz zlI (zmz (zlw zlI).2.2.1)

def tbl:List (Nat × Bool):=[(17,true)]
theorem htab:zlB Go.Proofs.Try.prog tbl:=fun x (hx:x∈[((17:Nat),true)])=>by
  rcases List.mem_cons.1 hx with rfl | hx
  · exact⟨zlI,zmA⟩
  · cases hx

end
end Go.Proofs.Ytdedachmfbiekaa

