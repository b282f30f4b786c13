/- What the evaluator asks of a program, of this one; and function 17, run in pieces: it returns true. Condition: none; a lemma text of this claim. -/
import Derived.Test.YtbkokcbnbmhaoaaTaC
import Derived.Test.YtbkokcbnbmhaoaaProg
import Derived.KernelRfl
namespace Go.Proofs.Ytbkokcbnbmhaoaa
theorem fits:Go.Abs.zgB Go.Proofs.Try.prog:=⟨by decide +kernel,by kernel_rfl⟩
abbrev Il(n:Int):Go.Abs.C:=.int .i64 n
open Go.Abs
noncomputable section
/-! ### function 17, piece by piece -/
def zlz:Func:=zlo Go.Proofs.Try.prog 17
def zlA:List (Nat × Bool):=[]
def zlB:Rec:=tab zlA (ev Go.Proofs.Try.prog 100000)
theorem zlC:zik Go.Proofs.Try.prog zlB:=zly (fun _ hx=>by cases hx) (zk3 fits 100000)
theorem zlD:zlq Go.Proofs.Try.prog 17=true:=by kernel_rfl
def zlE:Code:=zlp Go.Proofs.Try.prog 17
def zlF:List (Nat × V):=[]
def zlG:List (Nat × AO):=[]
def zlH:Code:=zlj zlE
def zlI:List (Nat × V):=[(0,.c (.bool false))]
def zlJ:List (Nat × AO):=[]
def zlK:Code:=zlj zlH
def zlL:List (Nat × V):=[(0,.c (.bool false)),(1,.c (.int .i64 (.ofNat 8))),(2,.c (.int .i64 (.ofNat 0)))]
def zlM:List (Nat × AO):=[]
def zlN:Code:=zlj zlK
def zlO:List (Nat × V):=[(0,.c (.bool false)),(1,.c (.int .i64 (.ofNat 8))),(2,.c (.int .i64 (.ofNat 0))),(3,.c (.int .i64 (.ofNat 35))),(4,.c (.int .i64 (.ofNat 0)))]
def zlP:List (Nat × AO):=[]
def zlQ:Code:=zlj zlN
def zlR:List (Nat × V):=[(0,.c (.bool false)),(1,.c (.int .i64 (.ofNat 8))),(2,.c (.int .i64 (.ofNat 0))),(3,.c (.int .i64 (.ofNat 35))),(4,.c (.int .i64 (.ofNat 0))),(5,.c (.ptr 777 0)),(6,.c (.int .i64 (.ofNat 0)))]
def zlS:List (Nat × AO):=[(777,.cells 2 [.int .i64 (.ofNat 105),.int .i64 (.ofNat 210)] false)]
def zlT:Code:=zlj zlQ
def zlU:List (Nat × V):=[(0,.c (.bool false)),(1,.c (.int .i64 (.ofNat 8))),(2,.c (.int .i64 (.ofNat 0))),(3,.c (.int .i64 (.ofNat 35))),(4,.c (.int .i64 (.ofNat 0))),(5,.c (.ptr 777 0)),(6,.c (.int .i64 (.ofNat 0))),(7,.c (.ptr 1548 0)),(8,.c (.int .i64 (.ofNat 0)))]
def zlV:List (Nat × AO):=[(1548,.cells 2 [.int .i64 (.ofNat 10),.int .i64 (.ofNat 20)] false),(777,.cells 2 [.int .i64 (.ofNat 105),.int .i64 (.ofNat 210)] false)]
def zlW:Code:=zlj zlT
def zlX:List (Nat × V):=[(0,.c (.bool false)),(1,.c (.int .i64 (.ofNat 8))),(2,.c (.int .i64 (.ofNat 0))),(3,.c (.int .i64 (.ofNat 35))),(4,.c (.int .i64 (.ofNat 0))),(5,.c (.ptr 777 0)),(6,.c (.int .i64 (.ofNat 0))),(7,.c (.ptr 1548 0)),(8,.c (.int .i64 (.ofNat 0))),(9,.c (.int .i64 (.ofNat 1))),(10,.c (.int .i64 (.ofNat 0)))]
def zlY:List (Nat × AO):=[(1548,.cells 2 [.int .i64 (.ofNat 10),.int .i64 (.ofNat 20)] false),(777,.cells 2 [.int .i64 (.ofNat 105),.int .i64 (.ofNat 210)] false)]
def zlZ:Code:=zlj zlW
def zl0:List (Nat × V):=[(0,.c (.bool false)),(1,.c (.int .i64 (.ofNat 8))),(2,.c (.int .i64 (.ofNat 0))),(3,.c (.int .i64 (.ofNat 35))),(4,.c (.int .i64 (.ofNat 0))),(5,.c (.ptr 777 0)),(6,.c (.int .i64 (.ofNat 0))),(7,.c (.ptr 1548 0)),(8,.c (.int .i64 (.ofNat 0))),(9,.c (.int .i64 (.ofNat 1))),(10,.c (.int .i64 (.ofNat 0))),(11,.c (.int .i64 (.ofNat 13))),(12,.c (.int .i64 (.ofNat 0)))]
def zl1:List (Nat × AO):=[(1548,.cells 2 [.int .i64 (.ofNat 10),.int .i64 (.ofNat 20)] false),(777,.cells 2 [.int .i64 (.ofNat 105),.int .i64 (.ofNat 210)] false)]
def zl2:Code:=zlj zlZ
def zl3:List (Nat × V):=[(0,.c (.bool true))]
def zl4:List (Nat × AO):=[]
theorem zl5:zlh zlE=true:=by kernel_rfl
theorem zl6:Go.Abs.zk7 zlI 0 zlJ (zdK Go.Proofs.Try.prog zlB (zli zlE) (zk4 zlF) (zk6 0 zlG))=true:=by kernel_rfl
theorem zl7:zlh zlH=true:=by kernel_rfl
theorem zl8:Go.Abs.zk7 zlL 81 zlM (zdK Go.Proofs.Try.prog zlB (zli zlH) (zk4 zlI) (zk6 0 zlJ))=true:=by kernel_rfl
theorem zl9:zlh zlK=true:=by kernel_rfl
theorem zma:Go.Abs.zk7 zlO 162 zlP (zdK Go.Proofs.Try.prog zlB (zli zlK) (zk4 zlL) (zk6 81 zlM))=true:=by kernel_rfl
theorem zmb:zlh zlN=true:=by kernel_rfl
theorem zmc:Go.Abs.zk7 zlR 778 zlS (zdK Go.Proofs.Try.prog zlB (zli zlN) (zk4 zlO) (zk6 162 zlP))=true:=by kernel_rfl
theorem zmd:zlh zlQ=true:=by kernel_rfl
theorem zme:Go.Abs.zk7 zlU 1549 zlV (zdK Go.Proofs.Try.prog zlB (zli zlQ) (zk4 zlR) (zk6 778 zlS))=true:=by kernel_rfl
theorem zmf:zlh zlT=true:=by kernel_rfl
theorem zmg:Go.Abs.zk7 zlX 2166 zlY (zdK Go.Proofs.Try.prog zlB (zli zlT) (zk4 zlU) (zk6 1549 zlV))=true:=by kernel_rfl
theorem zmh:zlh zlW=true:=by kernel_rfl
theorem zmi:Go.Abs.zk7 zl0 2418 zl1 (zdK Go.Proofs.Try.prog zlB (zli zlW) (zk4 zlX) (zk6 2166 zlY))=true:=by kernel_rfl
theorem zmj:zlh zlZ=true:=by kernel_rfl
theorem zmk:Go.Abs.zk7 zl3 2419 zl4 (zdK Go.Proofs.Try.prog zlB (zli zlZ) (zk4 zl0) (zk6 2418 zl1))=true:=by kernel_rfl
theorem zml:Go.Abs.zk8 (.c (.bool true)) (Go.Abs.bind (zdK Go.Proofs.Try.prog zlB zl2 (zk4 zl3) (zk6 2419 zl4)) (zdQ Go.Proofs.Try.prog zlz))=true:=by kernel_rfl
theorem zmm(hso:slotsOk zlz.ntmps zl2=true):Go.Abs.zlf Go.Proofs.Try.prog zlz (.c (.bool true)) zl2 (zk4 zl3) (zk6 2419 zl4):=zlg fits zlC hso zml
theorem zmn(hso:slotsOk zlz.ntmps zlZ=true):Go.Abs.zlf Go.Proofs.Try.prog zlz (.c (.bool true)) zlZ (zk4 zl0) (zk6 2418 zl1):=zlm fits zlC zmj hso zmk zmm
theorem zmo(hso:slotsOk zlz.ntmps zlW=true):Go.Abs.zlf Go.Proofs.Try.prog zlz (.c (.bool true)) zlW (zk4 zlX) (zk6 2166 zlY):=zlm fits zlC zmh hso zmi zmn
theorem zmp(hso:slotsOk zlz.ntmps zlT=true):Go.Abs.zlf Go.Proofs.Try.prog zlz (.c (.bool true)) zlT (zk4 zlU) (zk6 1549 zlV):=zlm fits zlC zmf hso zmg zmo
theorem zmq(hso:slotsOk zlz.ntmps zlQ=true):Go.Abs.zlf Go.Proofs.Try.prog zlz (.c (.bool true)) zlQ (zk4 zlR) (zk6 778 zlS):=zlm fits zlC zmd hso zme zmp
theorem zmr(hso:slotsOk zlz.ntmps zlN=true):Go.Abs.zlf Go.Proofs.Try.prog zlz (.c (.bool true)) zlN (zk4 zlO) (zk6 162 zlP):=zlm fits zlC zmb hso zmc zmq
theorem zms(hso:slotsOk zlz.ntmps zlK=true):Go.Abs.zlf Go.Proofs.Try.prog zlz (.c (.bool true)) zlK (zk4 zlL) (zk6 81 zlM):=zlm fits zlC zl9 hso zma zmr
theorem zmt(hso:slotsOk zlz.ntmps zlH=true):Go.Abs.zlf Go.Proofs.Try.prog zlz (.c (.bool true)) zlH (zk4 zlI) (zk6 0 zlJ):=zlm fits zlC zl7 hso zl8 zms
theorem zmu(hso:slotsOk zlz.ntmps zlE=true):Go.Abs.zlf Go.Proofs.Try.prog zlz (.c (.bool true)) zlE (zk4 zlF) (zk6 0 zlG):=zlm fits zlC zl5 hso zl6 zmt
theorem zmv:zls Go.Proofs.Try.prog 17 true:=zlu zlD (zmu (zlr zlD).2.2.1)

def tbl:List (Nat × Bool):=[(17,true)]
theorem htab:zlw Go.Proofs.Try.prog tbl:=fun x (hx:x∈[((17:Nat),true)])=>by
  rcases List.mem_cons.1 hx with rfl | hx
  · exact⟨zlD,zmv⟩
  · cases hx

end
end Go.Proofs.Ytbkokcbnbmhaoaa

