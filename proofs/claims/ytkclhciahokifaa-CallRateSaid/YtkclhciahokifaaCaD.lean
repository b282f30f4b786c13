/- What the evaluator asks of a program, of this one. Condition: none; a lemma text of this claim. -/
import Derived.Test.YtkclhciahokifaaCaC
import Derived.Test.YtkclhciahokifaaProg
import Derived.KernelRfl
namespace Go.Proofs.Ytkclhciahokifaa
theorem fits:Go.Abs.zgE Go.Proofs.Try.prog:=⟨by decide +kernel,by kernel_rfl⟩
abbrev Il(n:Int):Go.Abs.C:=.int .i64 n
open Go.Abs in
abbrev yW(a:Int)(b:Int)(c:C)(d:C)(e:Int)(f:Int)(g:Int)(h:Int)(i:Int)(j:Int)(k:Int)(l:Bool)(m:Bool)(n:Bool)(o:Bool)(p:Bool)(q:Bool):List C:=[Il a,Il b,c,d,Il e,Il f,Il g,Il h,Il i,Il j,Il k,.bool l,.bool m,.bool n,.bool o,.bool p,.bool q]
open Go.Abs in
abbrev yD(a:Int)(b:Int)(c:C)(d:C)(e:Int)(f:Int)(g:Int)(h:C)(i:Int)(j:Int)(k:C)(l:C)(m:C):List C:=[Il a,Il b,c,d,Il e,Il f,Il g,h,Il i,Il j,k,l,m]
open Go.Abs in
abbrev yC(a:Int)(b:Int)(c:C)(d:C)(e:Int)(f:Int)(g:Int)(h:C)(i:Int)(j:Int)(k:C):List C:=[Il a,Il b,c,d,Il e,Il f,Il g,h,Il i,Il j,k]
open Go.Abs
noncomputable section
def tbl:List (Nat × Bool):=[]
theorem htab:zll Go.Proofs.Try.prog tbl:=fun _ hx=>by cases hx

end
end Go.Proofs.Ytkclhciahokifaa

