/- CallRates, for all that it can be called with, returns true. Condition: none. -/
import Derived.Test.YtkclhciahokifaaCaH
import GoSem.Step
import GoSem.ClaimKeys
import Derived.DeepKeys2
import Derived.RangeFuncLeaves
import Derived.OrdersIn
import Derived.Laws.World
import Derived.Laws.Sem
import Derived.RangeFuncRecord
import Derived.Laws.CopyRow
import Derived.Laws.Append
import Derived.Laws.Rows
import Derived.Laws.Slices
import Derived.Laws.Entries
import Derived.ChangeKeysEq
import Derived.IntWalk
import Derived.DeepKeys
import Derived.DeepKeys3
import Derived.Laws.StructEq
import Derived.MapKept
import Derived.Laws.AppendOwn
import Derived.ChangeArms
import Derived.ChangeOld
import Derived.Carry
import Derived.ChangeShapes
import Derived.KernelRfl
import Derived.ProofKit
import Derived.Test.YtkclhciahokifaaRows

namespace Go.Proofs.Ytkclhciahokifaa
open _root_.Go.Proofs.Try
open Go.Abs
set_option maxRecDepth 100000
noncomputable section
theorem zwK{S β:Type}{n:Nat}(F:Nat->S->Int->Option β)(st:Nat->S){fin:Option β}(hstep:∀d k,k < n->F (d+1) (st k) (k:Int)=F d (st (k+1)) ((k:Int)+1))(hend:∀d,F (d+1) (st n) (n:Int)=fin) :
  ∀d k,k<=n->n - k < d->F d (st k) (k:Int)=fin
 | 0,k,_,h=>by omega
 | d+1,k,hk,h=>by
  by_cases hkn:k=n
  ·subst hkn; exact hend d
  ·rw[hstep d k (by omega),show(k:Int)+1=((k+1:Nat):Int) by omega];exact zwK F st hstep hend d (k+1) (by omega) (by omega)
def S5(f:Nat->Int):Int:=f 0+f 1+f 2+f 3+f 4
def mk5(f:Nat->Int):P5:=⟨f 0,f 1,f 2,f 3,f 4⟩
def mkF(f:Nat->Bool):F5:=⟨f 0,f 1,f 2,f 3,f 4⟩
def l5{α:Type}(f:Nat->α):List α:=[f 0,f 1,f 2,f 3,f 4]
theorem zwL{α:Type}{f:Nat->α}{k:Nat}(hk:k < 5):(l5 f)[k]? = some (f k):=by
 match k,hk with
 | 0,_=>rfl
 | 1,_=>rfl
 | 2,_=>rfl
 | 3,_=>rfl
 | 4,_=>rfl
theorem zwM{α:Type}{f:Nat->α}{k:Nat}(hk:k < 5):idx (l5 f) (k:Int)=some (f k):=zrI (zwL hk)
theorem zwN{α:Type}(g f:Nat->α)(k j:Nat):sti (k:Int) j (g k) (if j < k then g j else f j)=if j < k+1 then g j else f j:=by
 unfold sti
 by_cases h:j=k
 ·subst h; rw[if_pos rfl,if_pos (by omega)]
 ·rw[if_neg (by omega)]
  by_cases h2:j < k
  ·rw[if_pos h2,if_pos (by omega)]
  ·rw[if_neg h2,if_neg (by omega)]
def stF{α:Type}(g f:Nat->α)(k:Nat):Nat->α:=fun j=>if j < k then g j else f j
theorem zwO{α:Type}(g f:Nat->α):stF g f 0=f:=by funext j; exact if_neg (by omega)
theorem zwP{α:Type}(g f:Nat->α)(k:Nat):stF g f k k=f k:=if_neg (by omega)
theorem zwQ{α:Type}(g f:Nat->α){k j:Nat}(h:j < k):stF g f k j=g j:=if_pos h
theorem zwR{α:Type}(g f:Nat->α)(k j:Nat):sti (k:Int) j (g k) (stF g f k j)=stF g f (k+1) j:=zwN g f k j
def part(f:Nat->Int):Nat->Int
 | 0=>0
 | k+1=>part f k+f k
theorem zwS(f:Nat->Int):part f 5=S5 f:=by show 0+f 0+f 1+f 2+f 3+f 4=_; unfold S5; omega
theorem zwT{f:Nat->Int}{B:Int}(h:∀i,i < 5->-B<=f i/\f i<=B)(hB:0<=B):∀k,k<=5->-(5 * B)<=part f k/\part f k<=5 * B
 | 0,_=>⟨by show -(5 * B)<=0; omega,by show(0:Int)<=_; omega⟩
 | 1,_=>by have:=h 0 (by omega); show -(5 * B)<=0+f 0/\0+f 0<=_; omega
 | 2,_=>by have:=h 0 (by omega); have:=h 1 (by omega); show -(5 * B)<=0+f 0+f 1/\0+f 0+f 1<=_; omega
 | 3,_=>by have:=h 0 (by omega); have:=h 1 (by omega); have:=h 2 (by omega); show -(5 * B)<=0+f 0+f 1+f 2/\0+f 0+f 1+f 2<=_; omega
 | 4,_=>by have:=h 0 (by omega); have:=h 1 (by omega); have:=h 2 (by omega); have:=h 3 (by omega); show -(5 * B)<=0+f 0+f 1+f 2+f 3/\0+f 0+f 1+f 2+f 3<=_; omega
 | 5,_=>by have:=h 0 (by omega); have:=h 1 (by omega); have:=h 2 (by omega); have:=h 3 (by omega); have:=h 4 (by omega); show -(5 * B)<=0+f 0+f 1+f 2+f 3+f 4/\0+f 0+f 1+f 2+f 3+f 4<=_; omega
 | k+6,h=>by omega
def Bd(B:Int)(f:Nat->Int):Prop:=∀i,i < 5->-B<=f i/\f i<=B
theorem zwU{f:Nat->Int}(h:Bd 1000000000000 f):ztw (mk5 f)=some (S5 f):=by
 unfold ztw
 show ztv (mk5 f) 6 (part f 0) 0=_
 refine zwK (n:=5) (fun d s x=>ztv (mk5 f) d s x) (part f) (fun d k hk=>?_) (fun d=>?_) 6 0 (by omega) (by omega)
 ·have h1:=zwT h (by omega) k (by omega);have h2:=h k hk
  show ztv (mk5 f) (d+1) _ _=_
  rw[ztv,if_pos (by omega)]
  show(idx (l5 f) (k:Int)).bind _=_
  rw[zwM hk,obs,zqr (fI (by omega)),zqr (fI (by omega))]; rfl
 ·show ztv (mk5 f) (d+1) _ _=_
  rw[ztv,if_neg (by omega),zwS]
theorem zwV{f g:Nat->Int}(hf:Bd 1000000000000 f)(hg:Bd 1000000000000 g):zty (mk5 f) (mk5 g)=some (mk5 fun i=>f i+g i):=by
 unfold zty;have key:=zwK (n:=5) (fun d s x=>ztx (mk5 g) d (s 0) (s 1) (s 2) (s 3) (s 4) x) (stF (fun i=>f i+g i) f) (fin:=some (mk5 fun i=>f i+g i)) (fun d k hk=>?_) (fun d=>?_) 6 0 (by omega) (by omega)
 ·rw[zwO] at key; exact key
 ·have h1:=hf k hk;have h2:=hg k hk
  show ztx (mk5 g) (d+1) _ _ _ _ _ _=_
  rw[ztx,if_pos (by omega)]
  show(idx (l5 g) (k:Int)).bind _=_
  rw[zwM hk,obs]
  show(idx (l5 (stF (fun i=>f i+g i) f k)) (k:Int)).bind _=_
  rw[zwM hk,obs,zwP,zqr (fI (by omega)),zqr (by omega),zqr (fI (by omega))];have e:=zwR (fun i=>f i+g i) f k
  show ztx (mk5 g) d (sti (k:Int) 0 ((fun i=>f i+g i) k) _) (sti (k:Int) 1 ((fun i=>f i+g i) k) _) (sti (k:Int) 2 ((fun i=>f i+g i) k) _) (sti (k:Int) 3 ((fun i=>f i+g i) k) _) (sti (k:Int) 4 ((fun i=>f i+g i) k) _) _=_
  rw[e 0,e 1,e 2,e 3,e 4]
 ·show ztx (mk5 g) (d+1) _ _ _ _ _ _=_
  rw[ztx,if_neg (by omega)]; rfl
theorem zwW{f g:Nat->Bool}:ztA (mkF f) (mkF g)=some (mkF fun i=>f i && !g i):=by
 unfold ztA;have key:=zwK (n:=5) (fun d s x=>ztz (mkF g) d (s 0) (s 1) (s 2) (s 3) (s 4) x) (stF (fun i=>f i && !g i) f) (fin:=some (mkF fun i=>f i && !g i)) (fun d k hk=>?_) (fun d=>?_) 6 0 (by omega) (by omega)
 ·rw[zwO] at key; exact key
 ·show ztz (mkF g) (d+1) _ _ _ _ _ _=_
  rw[ztz,if_pos (by omega)]
  show(idx (l5 g) (k:Int)).bind _=_
  rw[zwM hk,obs]
  show(idx (l5 (stF (fun i=>f i && !g i) f k)) (k:Int)).bind _=_
  rw[zwM hk,obs,zwP];have e:=zwR (fun i=>f i && !g i) f k
  cases hfk:f k with
  | true=>
   rw[if_pos rfl,zqr (by omega),zqr (fI (by omega))]
   have e0:(!g k)=(fun i=>f i && !g i) k:=by show _=(f k && !g k); rw[hfk]; rfl
   rw[e0,e 0,e 1,e 2,e 3,e 4]
  | false=>
   rw[if_neg (by decide),zqr (by omega),zqr (fI (by omega))]
   have e0:false=(fun i=>f i && !g i) k:=by show _=(f k && !g k); rw[hfk]; rfl
   rw[e0,e 0,e 1,e 2,e 3,e 4]
 ·show ztz (mkF g) (d+1) _ _ _ _ _ _=_
  rw[ztz,if_neg (by omega)]; rfl
def zwX(ms:List Mb)(of_:Nat->Bool)(num:Mb->Int):Nat->Int:=fun i=>match ms[i]? with
 | some a=>if of_ i=true then num a else 0
 | none=>0
theorem zwY{w:Wk}{of_:Nat->Bool}{number:Mb->Option Int}{num:Mb->Int}(hn:∀a∈w.s.Members,number a=some (num a))(hl:w.s.Members.length<=5):ztM w (mkF of_) number=some (mk5 (zwX w.s.Members of_ num)):=by
 unfold ztM;have key:=zwK (n:=w.s.Members.length) (fun d s x=>ztL w (mkF of_) number d (s 0) (s 1) (s 2) (s 3) (s 4) x) (stF (zwX w.s.Members of_ num) fun _=>0) (fin:=some (mk5 (zwX w.s.Members of_ num))) (fun d k hk=>?_) (fun d=>?_) (w.s.Members.length+1) 0 (by omega) (by omega)
 ·rw[zwO] at key; exact key
 ·show ztL w (mkF of_) number (d+1) _ _ _ _ _ _=_
  have hg:=List.getElem?_eq_getElem hk;rw[ztL,if_pos (by omega),zrI hg,obs]
  show(idx (l5 of_) (k:Int)).bind _=_
  rw[zwM (by omega),obs];have e:=zwR (zwX w.s.Members of_ num) (fun _=>0) k
  cases hfk:of_ k with
  | true=>
   rw[if_pos rfl,hn _ (List.getElem_mem hk),obs,zqr (by omega),zqr (fI (by omega))]
   have e0:num w.s.Members[k]=zwX w.s.Members of_ num k:=by unfold zwX; rw[hg]; show _=if _ then _ else _; rw[hfk,if_pos rfl]
   rw[e0,e 0,e 1,e 2,e 3,e 4]
  | false=>
   rw[if_neg (by decide),zqr (fI (by omega))]
   have e0:(0:Int)=zwX w.s.Members of_ num k:=by unfold zwX; rw[hg]; show _=if _ then _ else _; rw[hfk,if_neg (by decide)]
   have e1:∀j,stF (zwX w.s.Members of_ num) (fun _=>0) k j=stF (zwX w.s.Members of_ num) (fun _=>0) (k+1) j:=fun j=>by
    unfold stF
    by_cases h:j=k
    ·subst h; rw[if_neg (by omega),if_pos (by omega)]; exact e0
    ·by_cases h2:j < k
     ·rw[if_pos h2,if_pos (by omega)]
     ·rw[if_neg h2,if_neg (by omega)]
   rw[e1 0,e1 1,e1 2,e1 3,e1 4]
 ·show ztL w (mkF of_) number (d+1) _ _ _ _ _ _=_
  rw[ztL,if_neg (by omega)]
  have e1:∀j,stF (zwX w.s.Members of_ num) (fun _=>0) w.s.Members.length j=zwX w.s.Members of_ num j:=fun j=>by
   unfold stF
   by_cases h:j < w.s.Members.length
   ·rw[if_pos h]
   ·rw[if_neg h]; unfold zwX; rw[List.getElem?_eq_none (by omega)]
  rw[e1 0,e1 1,e1 2,e1 3,e1 4]; rfl
def zwZ(ms:List Mb)(sh:Nat->Bool)(pays:Nat->Int):Nat->Bool:=fun i=>match ms[i]? with
 | some a=>sh i && decide (pays i<=a.Most)
 | none=>sh i
theorem zw0{w:Wk}{sh:Nat->Bool}{pays:Nat->Int}(hl:w.s.Members.length<=5):ztQ w (mkF sh) (mk5 pays)=some (mkF (zwZ w.s.Members sh pays)):=by
 unfold ztQ;have key:=zwK (n:=w.s.Members.length) (fun d s x=>ztP w (mk5 pays) d (s 0) (s 1) (s 2) (s 3) (s 4) x) (stF (zwZ w.s.Members sh pays) sh) (fin:=some (mkF (zwZ w.s.Members sh pays))) (fun d k hk=>?_) (fun d=>?_) (w.s.Members.length+1) 0 (by omega) (by omega)
 ·rw[zwO] at key; exact key
 ·show ztP w (mk5 pays) (d+1) _ _ _ _ _ _=_
  have hg:=List.getElem?_eq_getElem hk;rw[ztP,if_pos (by omega),zrI hg,obs]
  show(idx (l5 (stF (zwZ w.s.Members sh pays) sh k)) (k:Int)).bind _=_
  rw[zwM (by omega),obs,zwP];have e:=zwR (zwZ w.s.Members sh pays) sh k
  have e00:zwZ w.s.Members sh pays k=(sh k && decide (pays k<=(w.s.Members[k]).Most)):=by unfold zwZ; rw[hg]
  cases hfk:sh k with
  | true=>
   rw[if_pos rfl]
   show(idx (l5 pays) (k:Int)).bind _=_
   rw[zwM (by omega),obs,zqr (by omega),zqr (fI (by omega))]
   have e0:decide (pays k<=(w.s.Members[k]).Most)=zwZ w.s.Members sh pays k:=by rw[e00,hfk,Bool.true_and]
   rw[e0,e 0,e 1,e 2,e 3,e 4]
  | false=>
   rw[if_neg (by decide),zqr (by omega),zqr (fI (by omega))]
   have e0:false=zwZ w.s.Members sh pays k:=by rw[e00,hfk]; rfl
   rw[e0,e 0,e 1,e 2,e 3,e 4]
 ·show ztP w (mk5 pays) (d+1) _ _ _ _ _ _=_
  rw[ztP,if_neg (by omega)]
  have e1:∀j,stF (zwZ w.s.Members sh pays) sh w.s.Members.length j=zwZ w.s.Members sh pays j:=fun j=>by
   unfold stF
   by_cases h:j < w.s.Members.length
   ·rw[if_pos h]
   ·rw[if_neg h]; unfold zwZ; rw[List.getElem?_eq_none (by omega)]
  rw[e1 0,e1 1,e1 2,e1 3,e1 4]; rfl
open Classical
theorem zw1{α:Type}:∀l:List α,∃ks:List α,ks.Nodup/\∀k,k∈ks↔k∈l
 | []=>⟨[],List.nodup_nil,fun _=>Iff.rfl⟩
 | a::l=>by
  obtain⟨ks,h1,h2⟩:=zw1 l
  by_cases h:a∈ks
  ·refine⟨ks,h1,fun k=>?_⟩;rw[h2,List.mem_cons];exact⟨.inr,fun hk=>hk.elim (fun he=>by rw[he]; exact(h2 a).1 h) id⟩
  ·exact⟨a::ks,List.nodup_cons.2 ⟨h,h1⟩,fun k=>by rw[List.mem_cons,List.mem_cons,h2]⟩
def zw2:List Int->Int
 | []=>0
 | a::l=>a+zw2 l
theorem zw3:∀a b:List Int,zw2 (a++b)=zw2 a+zw2 b
 | [],b=>by show zw2 b=0+_; omega
 | x::a,b=>by show x+zw2 (a++b)=x+zw2 a+zw2 b; rw[zw3 a b]; omega
theorem zw4(f g:Nat->Int):S5 (fun i=>f i+g i)=S5 f+S5 g:=by
 show f 0+g 0+(f 1+g 1)+(f 2+g 2)+(f 3+g 3)+(f 4+g 4)=f 0+f 1+f 2+f 3+f 4+(g 0+g 1+g 2+g 3+g 4)
 omega
theorem zw5:S5 (fun _=>0)=0:=rfl
theorem zw6{f g:Nat->Int}(h:∀i,i < 5->f i=g i):S5 f=S5 g:=by
 unfold S5; rw[h 0 (by omega),h 1 (by omega),h 2 (by omega),h 3 (by omega),h 4 (by omega)]
theorem zw7{K:Type}(g:K->Nat->Int):∀ks:List K,zw2 (ks.map fun key=>S5 (g key))=S5 (fun k=>zw2 (ks.map fun key=>g key k))
 | []=>rfl
 | a::ks=>by
  show S5 (g a)+zw2 (ks.map fun key=>S5 (g key))=S5 (fun k=>g a k+zw2 (ks.map fun key=>g key k))
  rw[zw7 g ks,zw4]
theorem zw8{K:Type}(x:K)(v:Int):∀ks:List K,ks.Nodup->zw2 (ks.map fun key=>if x=key then v else 0)=if x∈ks then v else 0
 | [],_=>by rw[if_neg (by simp)]; rfl
 | a::ks,h=>by
  obtain⟨h1,h2⟩:=List.nodup_cons.1 h
  show(if x=a then v else 0)+zw2 (ks.map fun key=>if x=key then v else 0)=_
  rw[zw8 x v ks h2]
  by_cases hx:x=a
  ·subst hx; rw[if_pos rfl,if_neg h1,if_pos (List.mem_cons_self ..)]; omega
  ·rw[if_neg hx]
   by_cases h3:x∈ks
   ·rw[if_pos h3,if_pos (List.mem_cons_of_mem _ h3)]; omega
   ·rw[if_neg h3,if_neg (by rw[List.mem_cons]; exact fun hc=>hc.elim hx h3)]; omega
def cnt(sh:Nat->Sh)(j:Nat)(key:Sh):Int:=part (fun k=>if sh k=key then 1 else 0) j
theorem zw9(sh:Nat->Sh)(key:Sh):∀j,0<=cnt sh j key/\cnt sh j key<=j
 | 0=>⟨Int.le_refl _,Int.le_refl _⟩
 | j+1=>by
  have:=zw9 sh key j
  show 0<=cnt sh j key+(if sh j=key then 1 else 0)/\cnt sh j key+(if sh j=key then 1 else 0)<=_
  split <;> omega
theorem zxa(sh:Nat->Sh)(key:Sh):∀j,cnt sh j key ≠ 0↔∃k,k < j/\sh k=key
 | 0=>⟨fun h=>absurd rfl h,fun⟨k,h,_⟩=>by omega⟩
 | j+1=>by
  have h1:=zw9 sh key j;have ih:=zxa sh key j
  show cnt sh j key+(if sh j=key then 1 else 0) ≠ 0↔_
  by_cases h:sh j=key
  ·rw[if_pos h]; exact⟨fun _=>⟨j,by omega,h⟩,fun _=>by omega⟩
  ·rw[if_neg h,show cnt sh j key+0=cnt sh j key by omega,ih]
   exact⟨fun⟨k,hk,he⟩=>⟨k,by omega,he⟩,fun⟨k,hk,he⟩=>⟨k,by rcases Nat.lt_succ_iff_lt_or_eq.1 hk with h2 | h2; exact h2; exact absurd (h2 ▸ he) h,he⟩⟩
def hM(sh:Nat->Sh)(j:Nat):Option (Sh->Option Int):=some fun key=>if cnt sh j key=0 then none else some (cnt sh j key)
theorem zxb(sh:Nat->Sh)(j:Nat)(key:Sh):zqK (hM sh j) key=if cnt sh j key=0 then none else some (cnt sh j key):=rfl
theorem zxc(sh:Nat->Sh):hM sh 0=some fun _=>none:=rfl
theorem zxd(sh:Nat->Sh)(j:Nat):zqL (hM sh j) (sh j) (cnt sh j (sh j)+1)=some (hM sh (j+1)):=by
 show some (some _)=some (some _)
 congr 2
 funext key
 have hc:cnt sh (j+1) key=cnt sh j key+if sh j=key then 1 else 0:=rfl;have hb:=zw9 sh key j
 show(if key=sh j then some (cnt sh j (sh j)+1) else if cnt sh j key=0 then none else some (cnt sh j key))=if cnt sh (j+1) key=0 then none else some (cnt sh (j+1) key)
 rw[hc]
 by_cases h:key=sh j
 ·subst h; rw[if_pos rfl,if_pos rfl,if_neg (by omega)]
 ·rw[if_neg h];have h3:¬ sh j=key:=fun h'=>h h'.symm
  simp only[if_neg h3,Int.add_zero]
def gtN(r:Nat->Int)(x:Int):Int:=S5 fun k=>if x < r k then 1 else 0
def eqN(r:Nat->Int)(x:Int)(i:Nat):Int:=part (fun k=>if r k=x then 1 else 0) i
def zxe(r:Nat->Int)(i:Nat):Int:=gtN r (r i)+eqN r (r i) i
theorem zxf(r:Nat->Int)(x:Int):0<=gtN r x/\gtN r x<=5:=by
 have h:∀k,0<=(if x < r k then (1:Int) else 0)/\(if x < r k then (1:Int) else 0)<=1:=fun k=>by split <;> omega
 have:=h 0; have:=h 1; have:=h 2; have:=h 3; have:=h 4
 show 0<=(if x < r 0 then (1:Int) else 0)+(if x < r 1 then (1:Int) else 0)+(if x < r 2 then (1:Int) else 0)+(if x < r 3 then (1:Int) else 0)+(if x < r 4 then (1:Int) else 0)/\_<=(5:Int)
 unfold gtN S5
 dsimp only
 omega
theorem zxg(r:Nat->Int)(x:Int):∀i,0<=eqN r x i/\eqN r x i<=i
 | 0=>⟨Int.le_refl _,Int.le_refl _⟩
 | i+1=>by
  have:=zxg r x i
  show 0<=eqN r x i+(if r i=x then 1 else 0)/\eqN r x i+(if r i=x then 1 else 0)<=_
  split <;> omega
def dv(sh:Nat->Sh):Dv:={ s0:=sh 0,s1:=sh 1,s2:=sh 2,s3:=sh 3,s4:=sh 4,having:=hM sh 5 }
def wK(sh:Nat->Sh)(x:Int)(key:Sh):Int:=if x < key.remainder then cnt sh 5 key else 0
theorem zxh(sh:Nat->Sh)(i:Nat)(hi:i < 5)(acc:Int)(ha:0<=acc/\acc<=5):ztB (dv sh) (i:Int) (sh i) (Int.toNat (((([(dv sh).s0,(dv sh).s1,(dv sh).s2,(dv sh).s3,(dv sh).s4]:List Sh).take (Int.toNat (i:Int))).drop (Int.toNat (0:Int))).length:Int)+1) acc (0:Int)=some (acc+eqN (fun k=>(sh k).remainder) (sh i).remainder i):=by
 have hl:((([(dv sh).s0,(dv sh).s1,(dv sh).s2,(dv sh).s3,(dv sh).s4]:List Sh).take (Int.toNat (i:Int))).drop (Int.toNat (0:Int)))=(l5 sh).take i:=rfl
 have hlen:((l5 sh).take i).length=i:=by rw[List.length_take]; show min i 5=i; omega
 rw[hl,hlen,show Int.toNat (i:Int)+1=i+1 from rfl];have key:=zwK (n:=i) (fun d s x=>ztB (dv sh) (i:Int) (sh i) d s x) (fun k=>acc+eqN (fun k=>(sh k).remainder) (sh i).remainder k) (fin:=some (acc+eqN (fun k=>(sh k).remainder) (sh i).remainder i)) (fun d k hk=>?_) (fun d=>?_) (i+1) 0 (by omega) (by omega)
 ·have e:acc+eqN (fun k=>(sh k).remainder) (sh i).remainder 0=acc:=by show acc+0=acc; omega
  rw[e] at key; exact key
 ·have hb:=zxg (fun k=>(sh k).remainder) (sh i).remainder k;have hs:eqN (fun k=>(sh k).remainder) (sh i).remainder (k+1)=eqN (fun k=>(sh k).remainder) (sh i).remainder k+if (sh k).remainder=(sh i).remainder then 1 else 0:=rfl
  show ztB (dv sh) (i:Int) (sh i) (d+1) _ _=_
  rw[ztB,hl,hlen,if_pos (by omega),zrI (show((l5 sh).take i)[k]? = some (sh k) by rw[List.getElem?_take,if_pos hk]; exact zwL (by omega)),obs]
  by_cases h:(sh k).remainder=(sh i).remainder
  ·rw[if_pos h,zqr (fI (by omega)),zqr (fI (by omega)),hs,if_pos h,Int.add_assoc]
  ·rw[if_neg h,zqr (fI (by omega)),hs,if_neg h,Int.add_zero]
 ·show ztB (dv sh) (i:Int) (sh i) (d+1) _ _=_
  rw[ztB,hl,hlen,if_neg (by omega)]
theorem zxi(sh:Nat->Sh)(i:Nat)(hi:i < 5){T:Int}(hT:T<=5):∀(d:Nat) (rem:List Sh) (acc:Int),rem.length < d->(∀a∈rem,zqK (hM sh 5) a=some (cnt sh 5 a))->0<=acc->acc+zw2 (rem.map (wK sh (sh i).remainder))=T ->
  pbefore_L0 (dv sh) (i:Int) (sh i) d acc rem=some (T+eqN (fun k=>(sh k).remainder) (sh i).remainder i)
 | 0,_,_,h,_,_,_=>by omega
 | d+1,rem,acc,h,hm,h0,hs=>by
  have hw:∀key,0<=wK sh (sh i).remainder key:=fun key=>by unfold wK; have:=zw9 sh key 5; split <;> omega
  have hsum:∀l:List Sh,0<=zw2 (l.map (wK sh (sh i).remainder)):=fun l=>by
   induction l with
   | nil=>exact Int.le_refl _
   | cons a l ih=>have:=hw a; show 0<=wK sh _ a+zw2 (l.map _); omega
  unfold pbefore_L0;refine zrt (fun l1 a l2 hr=>?_) fun hr=>?_
  ·subst hr;have hc:=zw9 sh a 5
   have hsp:zw2 ((l1++a::l2).map (wK sh (sh i).remainder))=wK sh (sh i).remainder a+zw2 ((l1++l2).map (wK sh (sh i).remainder)):=by
    rw[List.map_append,List.map_cons,zw3,List.map_append,zw3]
    show _+(wK sh _ a+_)=_; omega
   have hlen:(l1++l2).length < d:=by simp only[List.length_append,List.length_cons] at h ⊢; omega
   have hm':∀x∈l1++l2,zqK (hM sh 5) x=some (cnt sh 5 x):=fun x hx=>hm x (by
    rcases List.mem_append.1 hx with h | h
    ·exact List.mem_append_left _ h
    ·exact List.mem_append_right _ (List.mem_cons_of_mem _ h))
   have h2:=hsum (l1++l2);rw[show zqK (dv sh).having a=some (cnt sh 5 a) from hm a (by simp),obs]
   by_cases ha:(sh i).remainder < a.remainder
   ·have hwa:wK sh (sh i).remainder a=cnt sh 5 a:=if_pos ha;rw[if_pos ha,zqr (fI (by omega))];exact zxi sh i hi hT d _ _ hlen hm' (by omega) (by omega)
   ·have hwa:wK sh (sh i).remainder a=0:=if_neg ha;rw[if_neg ha];exact zxi sh i hi hT d _ _ hlen hm' h0 (by omega)
  ·subst hr
   have:acc=T:=by rw[<- hs]; show acc=acc+0; omega
   subst this;rw[zqr (by omega)];exact zxh sh i hi acc ⟨h0,hT⟩
theorem zxj{sh:Nat->Sh}(hf:∀k,k < 5->MK.fit (sh k)){i:Nat}(hi:i < 5):ztC (dv sh) (i:Int)=some (zxe (fun k=>(sh k).remainder) i):=by
 unfold ztC
 show(idx (l5 sh) (i:Int)).bind _=_
 rw[zwM hi,obs]
 have hmem:∀key,(MK.fit key/\zqK (hM sh 5) key ≠ none)↔∃k,k < 5/\sh k=key:=fun key=>by
  rw[zxb,<- zxa]
  by_cases h:cnt sh 5 key=0
  ·rw[if_pos h]; exact⟨fun h'=>absurd rfl h'.2,fun h'=>absurd h h'⟩
  ·rw[if_neg h];refine⟨fun _=>h,fun _=>⟨?_,Option.some_ne_none _⟩⟩;obtain⟨k,h1,rfl⟩:=(zxa sh key 5).1 h;exact hf k h1
 obtain⟨ks0,h1,h2⟩:=zw1 (l5 sh)
 have hl5:∀key,key∈l5 sh↔∃k,k < 5/\sh k=key:=fun key=>by
  constructor
  ·intro h;obtain⟨k,hk⟩:=List.mem_iff_getElem?.1 h;have hk5:k < 5:=(List.getElem?_eq_some_iff.1 hk).1;rw[zwL hk5] at hk;exact⟨k,hk5,oi hk⟩
  ·rintro⟨k,hk,rfl⟩; exact List.mem_of_getElem? (zwL hk)
 refine zrp (ks0:=ks0) ⟨h1,fun k=>by rw[h2,hl5]; exact(hmem k).symm⟩ fun ks hk=>?_
 have hT:zw2 (ks.map (wK sh (sh i).remainder))=gtN (fun k=>(sh k).remainder) (sh i).remainder:=by
  have e1:∀key,wK sh (sh i).remainder key=S5 (fun k=>if sh k=key then (if (sh i).remainder < (sh k).remainder then 1 else 0) else 0):=fun key=>by
   unfold wK cnt;rw[zwS]
   by_cases h:(sh i).remainder < key.remainder
   ·rw[if_pos h]
    exact zw6 fun k _=>by
     by_cases hk:sh k=key
     ·rw[if_pos hk,if_pos hk,hk,if_pos h]
     ·rw[if_neg hk,if_neg hk]
   ·rw[if_neg h]
    have:S5 (fun k=>if sh k=key then (if (sh i).remainder < (sh k).remainder then 1 else 0) else 0)=S5 fun _=>0:=zw6 fun k _=>by
     by_cases hk:sh k=key
     ·rw[if_pos hk,hk,if_neg h]
     ·rw[if_neg hk]
    rw[this]; rfl
  have e2:ks.map (wK sh (sh i).remainder)=ks.map fun key=>S5 (fun k=>if sh k=key then (if (sh i).remainder < (sh k).remainder then 1 else 0) else 0):=List.map_congr_left fun key _=>e1 key;rw[e2,zw7 (fun key k=>if sh k=key then (if (sh i).remainder < (sh k).remainder then (1:Int) else 0) else 0)];unfold gtN
  exact zw6 fun k hk5=>by
   rw[zw8 _ _ ks hk.1,if_pos ((hk.2 (sh k)).2 ((hmem (sh k)).2 ⟨k,hk5,rfl⟩))]
 have hg:=zxf (fun k=>(sh k).remainder) (sh i).remainder
 exact zxi sh i hi hg.2 _ ks 0 (by omega) (fun a ha=>by
  have:=((hk.2 a).1 ha).2;rw[show(dv sh).having=hM sh 5 from rfl,zxb] at this;rw[zxb]
  by_cases h:cnt sh 5 a=0
  ·rw[if_pos h] at this; exact absurd rfl this
  ·rw[if_neg h]) (Int.le_refl _) (by rw[hT]; omega)
end
end Go.Proofs.Ytkclhciahokifaa

namespace Go.Proofs.Ytkclhciahokifaa
open _root_.Go.Proofs.Try
open Go.Abs
set_option maxRecDepth 100000
noncomputable section
theorem zxk{a x s:Int}(hx:0<=x)(hxs:x<=s)(hs:0 < s)(ha:0<=a):0<=a * x / s/\a * x / s<=a:=by
 constructor
 ·exact Int.ediv_nonneg (Int.mul_nonneg ha hx) (Int.le_of_lt hs)
 ·have h1:a * x<=a * s:=Int.mul_le_mul_of_nonneg_left hxs ha;have h2:=Int.ediv_le_ediv hs h1
  rwa [Int.mul_ediv_cancel _ (by omega)] at h2
theorem zxl{a x A X:Int}(ha:0<=a/\a<=A)(hx:0<=x/\x<=X):0<=a * x/\a * x<=A * X:=by
 refine⟨Int.mul_nonneg ha.1 hx.1,?_⟩;have h1:a * x<=A * x:=Int.mul_le_mul_of_nonneg_right ha.2 hx.1;have h2:A * x<=A * X:=Int.mul_le_mul_of_nonneg_left hx.2 (by omega)
 omega
structure UOk (u:Nat->Int):Prop where
 bd:∀i,i < 5->0<=u i/\u i<=100000
 pos:0 < S5 u
theorem UOk.le{u:Nat->Int}(h:UOk u){i:Nat}(hi:i < 5):u i<=S5 u/\S5 u<=500000:=by
 have h0:=h.bd 0 (by omega); have h1:=h.bd 1 (by omega); have h2:=h.bd 2 (by omega); have h3:=h.bd 3 (by omega); have h4:=h.bd 4 (by omega);unfold S5
 match i,hi with
 | 0,_=>omega
 | 1,_=>omega
 | 2,_=>omega
 | 3,_=>omega
 | 4,_=>omega
def qN(N:Int)(u:Nat->Int)(k:Nat):Int:=N * u k / S5 u
def rN(N:Int)(u:Nat->Int)(k:Nat):Int:=N * u k % S5 u
def shN(N:Int)(u:Nat->Int)(k:Nat):Sh:={ pence:=qN N u k,remainder:=rN N u k }
def zxm(N:Int)(u:Nat->Int)(k:Nat):Int:=qN N u k+if zxe (rN N u) k < N - S5 (qN N u) then 1 else 0
section
variable {N:Int} {u:Nat->Int}
theorem zxn(hu:UOk u)(hN:0<=N){k:Nat}(hk:k < 5):0<=qN N u k/\qN N u k<=N:=zxk (hu.bd k hk).1 (hu.le hk).1 hu.pos hN
theorem zxo(hu:UOk u)(k:Nat):0<=rN N u k/\rN N u k < S5 u:=⟨Int.emod_nonneg _ (by have:=hu.pos; omega),Int.emod_lt_of_pos _ hu.pos⟩
theorem zxp(hu:UOk u)(hN:0<=N/\N<=1000000){k:Nat}(hk:k < 5):MK.fit (shN N u k):=by
 have h1:=zxn hu hN.1 hk;have h2:=zxo (N:=N) hu k;have h3:=(hu.le hk).2;exact⟨fI (show _/\_ by show -9223372036854775808<=qN N u k/\qN N u k < _; omega),fI (show _/\_ by show -9223372036854775808<=rN N u k/\rN N u k < _; omega),trivial⟩
theorem zxq(hu:UOk u)(hN:0<=N/\N<=1000000):ztF N (mk5 u)=some (mk5 (zxm N u)):=by
 have hbu:Bd 1000000000000 u:=fun i hi=>by have:=hu.bd i hi; omega
 have hbq:Bd 1000000000000 (qN N u):=fun i hi=>by have:=zxn hu hN.1 hi; omega
 have hU:=hu.pos;have hU2:=(hu.le (i:=0) (by omega)).2;have hq0:=zxn hu hN.1 (k:=0) (by omega); have hq1:=zxn hu hN.1 (k:=1) (by omega); have hq2:=zxn hu hN.1 (k:=2) (by omega); have hq3:=zxn hu hN.1 (k:=3) (by omega); have hq4:=zxn hu hN.1 (k:=4) (by omega)
 have hsq:0<=S5 (qN N u)/\S5 (qN N u)<=5000000:=by unfold S5; omega
 -- the second loop
 have second:ztD N (shN N u 0).pence (shN N u 0).remainder (shN N u 1).pence (shN N u 1).remainder (shN N u 2).pence (shN N u 2).remainder (shN N u 3).pence (shN N u 3).remainder (shN N u 4).pence (shN N u 4).remainder (hM (shN N u) 5) (S5 (qN N u)) (Int.toNat (5:Int)+1) (qN N u 0) (qN N u 1) (qN N u 2) (qN N u 3) (qN N u 4) (0:Int)=some (mk5 (zxm N u)):=by
  have key:=zwK (n:=5) (fun d s x=>ztD N (shN N u 0).pence (shN N u 0).remainder (shN N u 1).pence (shN N u 1).remainder (shN N u 2).pence (shN N u 2).remainder (shN N u 3).pence (shN N u 3).remainder (shN N u 4).pence (shN N u 4).remainder (hM (shN N u) 5) (S5 (qN N u)) d (s 0) (s 1) (s 2) (s 3) (s 4) x) (stF (zxm N u) (qN N u)) (fin:=some (mk5 (zxm N u))) (fun d k hk=>?_) (fun d=>?_) 6 0 (by omega) (by omega)
  ·rw[zwO] at key; exact key
  ·have hb:ztC (dv (shN N u)) (k:Int)=some (zxe (rN N u) k):=zxj (fun k hk=>zxp hu hN hk) hk;have hq:=zxn hu hN.1 hk;have e:=zwR (zxm N u) (qN N u) k
   show ztD _ _ _ _ _ _ _ _ _ _ _ _ _ (d+1) _ _ _ _ _ _=_
   rw[ztD,if_pos (by omega)]
   show(ztC (dv (shN N u)) (k:Int)).bind _=_
   rw[hb,obs]
   by_cases h:zxe (rN N u) k < N - S5 (qN N u)
   ·rw[if_pos h]
    show(idx (l5 (stF (zxm N u) (qN N u) k)) (k:Int)).bind _=_
    have ep:qN N u k+1=zxm N u k:=by unfold zxm; rw[if_pos h]
    rw[zwM hk,obs,zwP,zqr (fI (by omega)),zqr (by omega),zqr (fI (by omega)),ep,e 0,e 1,e 2,e 3,e 4]
   ·rw[if_neg h,zqr (fI (by omega))]
    have ep:qN N u k=zxm N u k:=by unfold zxm; rw[if_neg h,Int.add_zero]
    have e1:∀j,stF (zxm N u) (qN N u) k j=stF (zxm N u) (qN N u) (k+1) j:=fun j=>by
     unfold stF
     by_cases h:j=k
     ·subst h; rw[if_neg (by omega),if_pos (by omega)]; exact ep
     ·by_cases h2:j < k
      ·rw[if_pos h2,if_pos (by omega)]
      ·rw[if_neg h2,if_neg (by omega)]
    rw[e1 0,e1 1,e1 2,e1 3,e1 4]
  ·show ztD _ _ _ _ _ _ _ _ _ _ _ _ _ (d+1) _ _ _ _ _ _=_
   rw[ztD,if_neg (by omega)]; rfl
 unfold ztF;rw[zwU hbu,obs];have key:=zwK (n:=5) (fun d (s:(Nat->Int) × (Nat->Sh) × Option (Sh->Option Int)) x=>ztE N (mk5 u) (S5 u) d (s.1 0) (s.1 1) (s.1 2) (s.1 3) (s.1 4) (s.2.1 0).pence (s.2.1 0).remainder (s.2.1 1).pence (s.2.1 1).remainder (s.2.1 2).pence (s.2.1 2).remainder (s.2.1 3).pence (s.2.1 3).remainder (s.2.1 4).pence (s.2.1 4).remainder s.2.2 x) (fun k=>(stF (qN N u) (fun _=>0) k,stF (shN N u) (fun _=>⟨0,0⟩) k,hM (shN N u) k)) (fin:=some (mk5 (zxm N u))) (fun d k hk=>?_) (fun d=>?_) 6 0 (by omega) (by omega)
 ·rw[zwO,zwO,zxc] at key; exact key
 ·have hq:=zxn hu hN.1 hk;have hr:=zxo (N:=N) hu k;have huk:=hu.bd k hk;have hm:=zxl (a:=N) (x:=u k) ⟨hN.1,hN.2⟩ huk;have hc:=zw9 (shN N u) (shN N u k) k;have hset:=zxd (shN N u) k
  have fin:∀M',M'=hM (shN N u) (k+1)->ztE N (mk5 u) (S5 u) d (sti (k:Int) 0 (qN N u k) (stF (qN N u) (fun _=>0) k 0)) (sti (k:Int) 1 (qN N u k) (stF (qN N u) (fun _=>0) k 1)) (sti (k:Int) 2 (qN N u k) (stF (qN N u) (fun _=>0) k 2)) (sti (k:Int) 3 (qN N u k) (stF (qN N u) (fun _=>0) k 3)) (sti (k:Int) 4 (qN N u k) (stF (qN N u) (fun _=>0) k 4)) (sti (k:Int) 0 (shN N u k) (stF (shN N u) (fun _=>⟨0,0⟩) k 0)).pence (sti (k:Int) 0 (shN N u k) (stF (shN N u) (fun _=>⟨0,0⟩) k 0)).remainder (sti (k:Int) 1 (shN N u k) (stF (shN N u) (fun _=>⟨0,0⟩) k 1)).pence (sti (k:Int) 1 (shN N u k) (stF (shN N u) (fun _=>⟨0,0⟩) k 1)).remainder (sti (k:Int) 2 (shN N u k) (stF (shN N u) (fun _=>⟨0,0⟩) k 2)).pence (sti (k:Int) 2 (shN N u k) (stF (shN N u) (fun _=>⟨0,0⟩) k 2)).remainder (sti (k:Int) 3 (shN N u k) (stF (shN N u) (fun _=>⟨0,0⟩) k 3)).pence (sti (k:Int) 3 (shN N u k) (stF (shN N u) (fun _=>⟨0,0⟩) k 3)).remainder (sti (k:Int) 4 (shN N u k) (stF (shN N u) (fun _=>⟨0,0⟩) k 4)).pence (sti (k:Int) 4 (shN N u k) (stF (shN N u) (fun _=>⟨0,0⟩) k 4)).remainder M' ((k:Int)+1)=ztE N (mk5 u) (S5 u) d (stF (qN N u) (fun _=>0) (k+1) 0) (stF (qN N u) (fun _=>0) (k+1) 1) (stF (qN N u) (fun _=>0) (k+1) 2) (stF (qN N u) (fun _=>0) (k+1) 3) (stF (qN N u) (fun _=>0) (k+1) 4) (stF (shN N u) (fun _=>⟨0,0⟩) (k+1) 0).pence (stF (shN N u) (fun _=>⟨0,0⟩) (k+1) 0).remainder (stF (shN N u) (fun _=>⟨0,0⟩) (k+1) 1).pence (stF (shN N u) (fun _=>⟨0,0⟩) (k+1) 1).remainder (stF (shN N u) (fun _=>⟨0,0⟩) (k+1) 2).pence (stF (shN N u) (fun _=>⟨0,0⟩) (k+1) 2).remainder (stF (shN N u) (fun _=>⟨0,0⟩) (k+1) 3).pence (stF (shN N u) (fun _=>⟨0,0⟩) (k+1) 3).remainder (stF (shN N u) (fun _=>⟨0,0⟩) (k+1) 4).pence (stF (shN N u) (fun _=>⟨0,0⟩) (k+1) 4).remainder (hM (shN N u) (k+1)) ((k:Int)+1):=by
   intro M' hM';subst hM';have e:=zwR (qN N u) (fun _=>0) k;have e':=zwR (shN N u) (fun _=>(⟨0,0⟩:Sh)) k;rw[e 0,e 1,e 2,e 3,e 4,e' 0,e' 1,e' 2,e' 3,e' 4]
  show ztE _ _ _ (d+1) _ _ _ _ _ _ _ _ _ _ _ _ _ _ _ _ _=_
  rw[ztE,if_pos (by omega)]
  show(idx (l5 u) (k:Int)).bind _=_
  have hqf:zl6 .i64 (N * u k / S5 u):=fI (by unfold qN at hq; omega);have hrf:zl6 .i64 (N * u k % S5 u):=fI (by unfold rN at hr; omega);have hfit:MK.fit ({ pence:=N * u k / S5 u,remainder:=N * u k % S5 u }:Sh):=zxp hu hN hk;rw[zwM hk,obs,zqr hN.1,zqr huk.1,zqr (fI (by omega)),zqr hm.1,zqr hU,zqr hqf,zqr hN.1,zqr huk.1,zqr (fI (by omega)),zqr hm.1,zqr hU,zqr hrf,zqr (by omega),zqr hfit]
  show zqR (zqK (hM (shN N u) k) (shN N u k)) _ _=_
  by_cases h0:cnt (shN N u) k (shN N u k)=0
  ·rw[zqS (by rw[zxb,if_pos h0]),zqr (fI (by omega)),zqr hfit];rw[h0] at hset;rw[show zqL (hM (shN N u) k) ({ pence:=N * u k / S5 u,remainder:=N * u k % S5 u }:Sh) 1=some (hM (shN N u) (k+1)) from hset,obs,zqr (by omega),zqr (fI (by omega))];exact fin _ rfl
  ·rw[zqT (show zqK (hM (shN N u) k) (shN N u k)=some (cnt (shN N u) k (shN N u k)) by rw[zxb,if_neg h0]),zqr (fI (by omega)),zqr hfit];rw[show zqL (hM (shN N u) k) ({ pence:=N * u k / S5 u,remainder:=N * u k % S5 u }:Sh) (cnt (shN N u) k (shN N u k)+1)=some (hM (shN N u) (k+1)) from hset,obs,zqr (by omega),zqr (fI (by omega))];exact fin _ rfl
 ·show ztE _ _ _ (d+1) _ _ _ _ _ _ _ _ _ _ _ _ _ _ _ _ _=_
  rw[ztE,if_neg (by omega)]
  show(ztw (mk5 (qN N u))).bind _=_
  rw[zwU hbq,obs,zqr (fI (by omega))];exact second
end
end
end Go.Proofs.Ytkclhciahokifaa

namespace Go.Proofs.Ytkclhciahokifaa
open _root_.Go.Proofs.Try
open Go.Abs
set_option maxRecDepth 100000
noncomputable section
def bfc(r:Nat->Int)(k i:Nat):Int:=if r i < r k then 1 else if r k=r i/\k < i then 1 else 0
theorem zxr(f:Nat->Int){i:Nat}(hi:i<=5):part f i=S5 fun k=>if k < i then f k else 0:=by
 match i,hi with
 | 0,_=>show(0:Int)=0+0+0+0+0; omega
 | 1,_=>show 0+f 0=f 0+0+0+0+0; omega
 | 2,_=>show 0+f 0+f 1=f 0+f 1+0+0+0; omega
 | 3,_=>show 0+f 0+f 1+f 2=f 0+f 1+f 2+0+0; omega
 | 4,_=>show 0+f 0+f 1+f 2+f 3=f 0+f 1+f 2+f 3+0; omega
 | 5,_=>show 0+f 0+f 1+f 2+f 3+f 4=f 0+f 1+f 2+f 3+f 4; omega
theorem zxs(r:Nat->Int){i:Nat}(hi:i < 5):zxe r i=S5 fun k=>bfc r k i:=by
 unfold zxe gtN eqN;rw[zxr _ (by omega),<- zw4];refine zw6 fun k _=>?_;unfold bfc
 by_cases h1:r i < r k
 ·rw[if_pos h1,if_pos h1,if_neg (show ¬ r k=r i by omega)]
  by_cases h2:k < i
  ·rw[if_pos h2]; rfl
  ·rw[if_neg h2]; rfl
 ·rw[if_neg h1,if_neg h1]
  by_cases h2:k < i
  ·rw[if_pos h2]
   by_cases h3:r k=r i
   ·rw[if_pos h3,if_pos ⟨h3,h2⟩]; rfl
   ·rw[if_neg h3,if_neg fun h=>h3 h.1]; rfl
  ·rw[if_neg h2,if_neg fun h=>h2 h.2]; rfl
theorem zxt{f g:Nat->Int}(h:∀i,i < 5->f i<=g i):S5 f<=S5 g:=by
 have:=h 0 (by omega); have:=h 1 (by omega); have:=h 2 (by omega); have:=h 3 (by omega); have:=h 4 (by omega);unfold S5; omega
theorem zxu{f g:Nat->Int}(h:∀i,i < 5->f i<=g i){k:Nat}(hk:k < 5)(hlt:f k < g k):S5 f < S5 g:=by
 have:=h 0 (by omega); have:=h 1 (by omega); have:=h 2 (by omega); have:=h 3 (by omega); have:=h 4 (by omega);unfold S5
 match k,hk with
 | 0,_=>omega
 | 1,_=>omega
 | 2,_=>omega
 | 3,_=>omega
 | 4,_=>omega
theorem zxv(r:Nat->Int)(k i:Nat):0<=bfc r k i/\bfc r k i<=1:=by unfold bfc; split <;> (try split) <;> omega
theorem zxw{r:Nat->Int}{k i:Nat}:bfc r k i=1↔r i < r k\/(r k=r i/\k < i):=by
 unfold bfc
 by_cases h1:r i < r k
 ·rw[if_pos h1]; exact⟨fun _=>.inl h1,fun _=>rfl⟩
 ·rw[if_neg h1]
  by_cases h2:r k=r i/\k < i
  ·rw[if_pos h2]; exact⟨fun _=>.inr h2,fun _=>rfl⟩
  ·rw[if_neg h2]; exact⟨fun h=>by omega,fun h=>h.elim (fun h=>absurd h h1) fun h=>absurd h h2⟩
theorem zj9{r:Nat->Int}{k i:Nat}(hk:k < 5)(hi:i < 5)(h:r i < r k\/(r k=r i/\k < i)):zxe r k < zxe r i:=by
 rw[zxs r hk,zxs r hi];refine zxu (fun j _=>?_) hk ?_
 ·have h1:=zxv r j k; have h2:=zxv r j i
  by_cases hj:bfc r j k=1
  ·have:=zxw.1 hj;have:bfc r j i=1:=zxw.2 (by omega)
   omega
  ·omega
 ·have h1:bfc r k i=1:=zxw.2 h
  have h2:¬ bfc r k k=1:=fun h=>by have:=zxw.1 h; omega
  have h3:=zxv r k k
  omega
theorem zxx{r:Nat->Int}{k i:Nat}(hk:k < 5)(hi:i < 5)(h:k ≠ i):zxe r k ≠ zxe r i:=by
 by_cases h1:r i < r k\/(r k=r i/\k < i)
 ·have:=zj9 hk hi h1; omega
 ·have:=zj9 hi hk (r:=r) (by omega); omega
theorem zxy{r:Nat->Int}{k i:Nat}(hk:k < 5)(hi:i < 5):zxe r k < zxe r i↔(r i < r k\/(r k=r i/\k < i)):=by
 constructor
 ·intro h
  by_cases h1:r i < r k\/(r k=r i/\k < i)
  ·exact h1
  ·by_cases hki:k=i
   ·subst hki; omega
   ·have:=zj9 hi hk (r:=r) (by omega); omega
 ·exact zj9 hk hi
theorem zxz(r:Nat->Int){i:Nat}(hi:i < 5):0<=zxe r i/\zxe r i<=4:=by
 have h0:=zxv r 0 i; have h1:=zxv r 1 i; have h2:=zxv r 2 i; have h3:=zxv r 3 i; have h4:=zxv r 4 i
 have hii:bfc r i i=0:=by
  have:=zxv r i i
  have:¬ bfc r i i=1:=fun h=>by have:=zxw.1 h; omega
  omega
 rw[zxs r hi];unfold S5
 dsimp only
 match i,hi with
 | 0,_=>omega
 | 1,_=>omega
 | 2,_=>omega
 | 3,_=>omega
 | 4,_=>omega
theorem zxA:∀a b:Fin 5,a ≠ b->∀c:Fin 5,a ≠ c->b ≠ c->∀d:Fin 5,a ≠ d->b ≠ d->c ≠ d->∀e:Fin 5,a ≠ e->b ≠ e->c ≠ e->d ≠ e->∀L:Fin 6,
  (if a.val < L.val then 1 else 0)+(if b.val < L.val then 1 else 0)+(if c.val < L.val then 1 else 0)+(if d.val < L.val then 1 else 0)+(if e.val < L.val then 1 else 0)=L.val:=by decide +kernel
theorem zxB(r:Nat->Int){L:Int}(hL:0<=L/\L<=5):S5 (fun i=>if zxe r i < L then 1 else 0)=L:=by
 have b:∀i,i < 5->0<=zxe r i/\zxe r i<=4:=fun i hi=>zxz r hi;have b0:=b 0 (by omega); have b1:=b 1 (by omega); have b2:=b 2 (by omega); have b3:=b 3 (by omega); have b4:=b 4 (by omega)
 have ne:∀i j (hi:i < 5) (hj:j < 5),i ≠ j->(⟨(zxe r i).toNat,by have:=b i hi; omega⟩:Fin 5) ≠ ⟨(zxe r j).toNat,by have:=b j hj; omega⟩:=fun i j hi hj hij h=>by
  have h1:=Fin.mk.inj h;have:=zxx (r:=r) hi hj hij;have:=b i hi; have:=b j hj
  omega
 have key:=zxA ⟨(zxe r 0).toNat,by omega⟩ ⟨(zxe r 1).toNat,by omega⟩ (ne 0 1 (by omega) (by omega) (by omega)) ⟨(zxe r 2).toNat,by omega⟩ (ne 0 2 (by omega) (by omega) (by omega)) (ne 1 2 (by omega) (by omega) (by omega)) ⟨(zxe r 3).toNat,by omega⟩ (ne 0 3 (by omega) (by omega) (by omega)) (ne 1 3 (by omega) (by omega) (by omega)) (ne 2 3 (by omega) (by omega) (by omega)) ⟨(zxe r 4).toNat,by omega⟩ (ne 0 4 (by omega) (by omega) (by omega)) (ne 1 4 (by omega) (by omega) (by omega)) (ne 2 4 (by omega) (by omega) (by omega)) (ne 3 4 (by omega) (by omega) (by omega)) ⟨L.toNat,by omega⟩
 dsimp only at key
 have e:∀i,i < 5->(if zxe r i < L then (1:Int) else 0)=((if (zxe r i).toNat < L.toNat then 1 else 0:Nat):Int):=fun i hi=>by
  have:=b i hi
  by_cases h:zxe r i < L
  ·rw[if_pos h,if_pos (by omega)]; rfl
  ·rw[if_neg h,if_neg (by omega)]; rfl
 unfold S5
 dsimp only
 rw[e 0 (by omega),e 1 (by omega),e 2 (by omega),e 3 (by omega),e 4 (by omega)]
 omega
theorem zxC(r:Nat->Int){k:Int}(hk:0<=k/\k<=4):∃i,i < 5/\zxe r i=k:=by
 apply Classical.byContradiction
 intro hn;have h1:=zxB r (L:=k) (by omega);have h2:=zxB r (L:=k+1) (by omega)
 have h3:S5 (fun i=>if zxe r i < k+1 then (1:Int) else 0)=S5 (fun i=>if zxe r i < k then (1:Int) else 0):=zw6 fun i hi=>by
  have h4:zxe r i ≠ k:=fun h=>hn ⟨i,hi,h⟩
  by_cases h:zxe r i < k
  ·rw[if_pos h,if_pos (by omega)]
  ·rw[if_neg h,if_neg (by omega)]
 omega
section
variable {N:Int} {u:Nat->Int}
theorem zxD(N:Int)(u:Nat->Int):S5 u * (N - S5 (qN N u))=S5 (rN N u):=by
 have h:∀k,rN N u k+S5 u * qN N u k=N * u k:=fun k=>Int.emod_add_mul_ediv (N * u k) (S5 u);have h0:=h 0; have h1:=h 1; have h2:=h 2; have h3:=h 3; have h4:=h 4
 have e1:S5 u * N=N * u 0+N * u 1+N * u 2+N * u 3+N * u 4:=by
  rw[Int.mul_comm]; unfold S5; rw[Int.mul_add,Int.mul_add,Int.mul_add,Int.mul_add]
 have e2:S5 u * S5 (qN N u)=S5 u * qN N u 0+S5 u * qN N u 1+S5 u * qN N u 2+S5 u * qN N u 3+S5 u * qN N u 4:=by
  generalize S5 u=U;unfold S5; rw[Int.mul_add,Int.mul_add,Int.mul_add,Int.mul_add]
 rw[Int.mul_sub,e1,e2]
 show _=rN N u 0+rN N u 1+rN N u 2+rN N u 3+rN N u 4
 omega
theorem zxE(hu:UOk u)(N:Int):0<=N - S5 (qN N u)/\N - S5 (qN N u)<=gtN (rN N u) 0/\N - S5 (qN N u)<=4:=by
 have hU:=hu.pos;have hl:=zxD N u;have hr:=fun k=>zxo (N:=N) hu k;have r0:=hr 0; have r1:=hr 1; have r2:=hr 2; have r3:=hr 3; have r4:=hr 4;refine⟨?_,?_,?_⟩
 ·apply Classical.byContradiction
  intro hn;have:S5 u * (N - S5 (qN N u)) < 0:=Int.mul_neg_of_pos_of_neg hU (by omega);rw[hl] at this;unfold S5 at this; omega
 ·have h2:S5 (rN N u)<=S5 u * gtN (rN N u) 0:=by
   have e:S5 u * gtN (rN N u) 0=S5 (fun k=>S5 u * if 0 < rN N u k then 1 else 0):=by
    unfold gtN;generalize S5 u=U
    show U * S5 (fun k=>if 0 < rN N u k then 1 else 0)=_
    unfold S5;rw[Int.mul_add,Int.mul_add,Int.mul_add,Int.mul_add]
   rw[e];refine zxt fun k _=>?_;have:=hr k
   by_cases h:0 < rN N u k
   ·rw[if_pos h]; omega
   ·rw[if_neg h]; omega
  rw[<- hl] at h2;exact Int.le_of_mul_le_mul_left h2 hU
 ·apply Classical.byContradiction
  intro hn;have h2:S5 u * 5<=S5 u * (N - S5 (qN N u)):=Int.mul_le_mul_of_nonneg_left (by omega) (by omega);rw[hl] at h2;have h3:S5 (rN N u)=rN N u 0+rN N u 1+rN N u 2+rN N u 3+rN N u 4:=rfl
  omega
theorem zxF(hu:UOk u){k:Nat}(h0:rN N u k=0):¬ zxe (rN N u) k < N - S5 (qN N u):=by
 have h1:=(zxE hu N).2.1;have h2:=zxg (rN N u) (rN N u k) k
 have h3:zxe (rN N u) k=gtN (rN N u) 0+eqN (rN N u) (rN N u k) k:=by unfold zxe; rw[h0]
 omega
theorem zxG(hu:UOk u)(N:Int):S5 (zxm N u)=N:=by
 have h:=zxE hu N;have e:S5 (zxm N u)=S5 (qN N u)+S5 (fun i=>if zxe (rN N u) i < N - S5 (qN N u) then 1 else 0):=zw4 _ _;rw[e,zxB _ (by omega)]; omega
theorem zxH(N:Int)(u:Nat->Int)(k:Nat):qN N u k<=zxm N u k/\zxm N u k<=qN N u k+1:=by unfold zxm; split <;> omega
theorem zxI(hu:UOk u)(hN:0<=N){k:Nat}(hk:k < 5):0<=zxm N u k:=by have:=zxH N u k; have:=zxn hu hN hk; omega
theorem zxJ(hu:UOk u)(hN:0<=N){k:Nat}(hk:k < 5):zxm N u k<=N:=by
 have hs:=zxG hu N;have h:∀i,i < 5->0<=zxm N u i:=fun i hi=>zxI hu hN hi;have:=h 0 (by omega); have:=h 1 (by omega); have:=h 2 (by omega); have:=h 3 (by omega); have:=h 4 (by omega);unfold S5 at hs
 match k,hk with
 | 0,_=>omega
 | 1,_=>omega
 | 2,_=>omega
 | 3,_=>omega
 | 4,_=>omega
theorem zxK(hu:UOk u){k:Nat}(h:u k=0):zxm N u k=0:=by
 have hq:qN N u k=0:=by unfold qN; rw[h,Int.mul_zero,Int.zero_ediv]
 have hr:rN N u k=0:=by unfold rN; rw[h,Int.mul_zero,Int.zero_emod]
 unfold zxm;rw[if_neg (zxF hu hr),hq]; rfl
end
end
end Go.Proofs.Ytkclhciahokifaa

namespace Go.Proofs.Ytkclhciahokifaa
open _root_.Go.Proofs.Try
open Go.Abs
set_option maxRecDepth 100000
noncomputable section
structure zxL (a:Mb):Prop where
 sum:1<=a.Sum/\a.Sum<=1000
 cls:1<=a.Class/\a.Class<=10
 most:0<=a.Most/\a.Most<=100000
def zxM(ms:List Mb):Prop:=ms.length<=5/\∀a∈ms,zxL a
def unN(a:Mb):Int:=a.Sum * a.Class
theorem zxN{a:Mb}(h:zxL a):1<=unN a/\unN a<=10000:=by
 have h1:=zxl (a:=a.Sum) (x:=a.Class) (A:=1000) (X:=10) ⟨by have:=h.sum; omega,h.sum.2⟩ ⟨by have:=h.cls; omega,h.cls.2⟩;have h2:a.Sum * 1<=a.Sum * a.Class:=Int.mul_le_mul_of_nonneg_left h.cls.1 (by have:=h.sum; omega);have:=h.sum;unfold unN; omega
def uF(ms:List Mb)(sh:Nat->Bool):Nat->Int:=zwX ms sh unN
def mF(ms:List Mb)(sh:Nat->Bool):Nat->Int:=zwX ms sh (·.Most)
def zxO(sh:Nat->Bool):Bool:=(sh 0 == false) && ((sh 1 == false) && ((sh 2 == false) && ((sh 3 == false) && (sh 4 == false))))
def zxP(a b:Nat->Bool):Bool:=(a 0 == b 0) && ((a 1 == b 1) && ((a 2 == b 2) && ((a 3 == b 3) && (a 4 == b 4))))
def zxQ(ms:List Mb)(sh:Nat->Bool):Prop:=∀i,sh i=true->i < ms.length
def roundsN(ms:List Mb):Nat->(Nat->Bool)->Int->(Nat->Int)->(Nat->Int) × Int
 | 0,_,N,c=>(c,N)
 | d+1,sh,N,c=>if zxO sh=true then (c,N) else
   if zxP (zwZ ms sh (zxm N (uF ms sh))) sh=true then (fun i=>c i+zxm N (uF ms sh) i,0) else
    roundsN ms d (zwZ ms sh (zxm N (uF ms sh))) (N - S5 (mF ms fun i=>sh i && !zwZ ms sh (zxm N (uF ms sh)) i)) (fun i=>c i+mF ms (fun i=>sh i && !zwZ ms sh (zxm N (uF ms sh)) i) i)
def cF(sh:Nat->Bool):Nat:=(sh 0).toNat+(sh 1).toNat+(sh 2).toNat+(sh 3).toNat+(sh 4).toNat
theorem zxR{sh:Nat->Bool}:zxO sh=true↔∀i,i < 5->sh i=false:=by
 unfold zxO
 simp only[Bool.and_eq_true,beq_iff_eq]
 constructor
 ·rintro⟨h0,h1,h2,h3,h4⟩ i hi
  match i,hi with
  | 0,_=>exact h0
  | 1,_=>exact h1
  | 2,_=>exact h2
  | 3,_=>exact h3
  | 4,_=>exact h4
 ·intro h; exact⟨h 0 (by omega),h 1 (by omega),h 2 (by omega),h 3 (by omega),h 4 (by omega)⟩
theorem zxS{a b:Nat->Bool}:zxP a b=true↔∀i,i < 5->a i=b i:=by
 unfold zxP
 simp only[Bool.and_eq_true,beq_iff_eq]
 constructor
 ·rintro⟨h0,h1,h2,h3,h4⟩ i hi
  match i,hi with
  | 0,_=>exact h0
  | 1,_=>exact h1
  | 2,_=>exact h2
  | 3,_=>exact h3
  | 4,_=>exact h4
 ·intro h; exact⟨h 0 (by omega),h 1 (by omega),h 2 (by omega),h 3 (by omega),h 4 (by omega)⟩
theorem zxT{ms:List Mb}{sh:Nat->Bool}{p:Nat->Int}{i:Nat}(h:zwZ ms sh p i=true):sh i=true:=by
 unfold zwZ at h
 cases hm:ms[i]? with
 | none=>rw[hm] at h; exact h
 | some a=>rw[hm] at h; exact(Bool.and_eq_true _ _ ▸ h).1
theorem zxU{ms:List Mb}{sh:Nat->Bool}{p:Nat->Int}{i:Nat}{a:Mb}(hm:ms[i]? = some a):zwZ ms sh p i=(sh i && decide (p i<=a.Most)):=by unfold zwZ; rw[hm]
theorem zxV{ms:List Mb}{sh:Nat->Bool}{p:Nat->Int}(h:¬ zxP (zwZ ms sh p) sh=true):cF (zwZ ms sh p) < cF sh:=by
 have hle:∀i,(zwZ ms sh p i).toNat<=(sh i).toNat:=fun i=>by
  cases ha:zwZ ms sh p i with
  | false=>exact Nat.zero_le _
  | true=>rw[zxT ha]; exact Nat.le_refl _
 have hne:∃i,i < 5/\(zwZ ms sh p i).toNat ≠ (sh i).toNat:=by
  apply Classical.byContradiction
  intro hn;refine h (zxS.2 fun i hi=>?_)
  apply Classical.byContradiction
  intro h2;refine hn ⟨i,hi,fun h3=>h2 ?_⟩
  revert h3; cases zwZ ms sh p i <;> cases sh i <;> decide
 obtain⟨i,hi,h2⟩:=hne;have l0:=hle 0; have l1:=hle 1; have l2:=hle 2; have l3:=hle 3; have l4:=hle 4;unfold cF
 match i,hi with
 | 0,_=>omega
 | 1,_=>omega
 | 2,_=>omega
 | 3,_=>omega
 | 4,_=>omega
theorem zxW{ms:List Mb}{sh:Nat->Bool}{num:Mb->Int}{i:Nat}(h:sh i=false):zwX ms sh num i=0:=by
 unfold zwX
 cases ms[i]? with
 | none=>rfl
 | some a=>show(if sh i=true then num a else 0)=0; rw[h]; rfl
theorem zxX{ms:List Mb}{sh:Nat->Bool}{num:Mb->Int}{i:Nat}{a:Mb}(hm:ms[i]? = some a)(h:sh i=true):zwX ms sh num i=num a:=by
 unfold zwX; rw[hm]; show(if sh i=true then num a else 0)=_; rw[h,if_pos rfl]
theorem zxY{ms:List Mb}(hms:zxM ms)(sh:Nat->Bool)(i:Nat):0<=uF ms sh i/\uF ms sh i<=10000:=by
 unfold uF
 cases hs:sh i with
 | false=>rw[zxW hs]; omega
 | true=>
  cases hm:ms[i]? with
  | none=>unfold zwX; rw[hm]; show(0:Int)<=0/\(0:Int)<=_; omega
  | some a=>rw[zxX hm hs]; have:=zxN (hms.2 a (List.mem_of_getElem? hm)); omega
theorem zxZ{ms:List Mb}(hms:zxM ms){sh:Nat->Bool}(hs:zxQ ms sh)(hn:¬ zxO sh=true):UOk (uF ms sh):=by
 have hb:=zxY hms sh;refine⟨fun i _=>by have:=hb i; omega,?_⟩
 obtain⟨i,hi,hsi⟩:∃i,i < 5/\sh i=true:=by
  apply Classical.byContradiction
  intro h;refine hn (zxR.2 fun i hi=>?_)
  cases hq:sh i with
  | false=>rfl
  | true=>exact absurd ⟨i,hi,hq⟩ h
 have hl:=hs i hsi
 have h1:1<=uF ms sh i:=by unfold uF; rw[zxX (List.getElem?_eq_getElem hl) hsi]; exact(zxN (hms.2 _ (List.getElem_mem hl))).1
 have b0:=hb 0; have b1:=hb 1; have b2:=hb 2; have b3:=hb 3; have b4:=hb 4;unfold S5
 match i,hi with
 | 0,_=>omega
 | 1,_=>omega
 | 2,_=>omega
 | 3,_=>omega
 | 4,_=>omega
structure RI (ms:List Mb) (sh:Nat->Bool) (N:Int) (c:Nat->Int):Prop where
 sup:zxQ ms sh
 nn:0<=N/\N<=1000000
 cb:∀i,i < 5->0<=c i/\c i<=1000000
 c0:∀i,sh i=true->c i=0
section
variable {ms:List Mb} {sh:Nat->Bool} {N:Int} {c:Nat->Int}
theorem zx0(p:Nat->Int){i:Nat}:(sh i && !zwZ ms sh p i)=true↔sh i=true/\∃a,ms[i]? = some a/\a.Most < p i:=by
 cases hm:ms[i]? with
 | none=>unfold zwZ; rw[hm]; cases sh i <;> simp
 | some a=>
  rw[zxU hm]
  cases sh i with
  | false=>simp
  | true=>simp
theorem zx1(hms:zxM ms)(hs:zxQ ms sh)(hn:¬ zxO sh=true)(hN:0<=N){i:Nat}(hi:i < 5) :
  0<=mF ms (fun i=>sh i && !zwZ ms sh (zxm N (uF ms sh)) i) i/\mF ms (fun i=>sh i && !zwZ ms sh (zxm N (uF ms sh)) i) i<=qN N (uF ms sh) i:=by
 have hu:=zxZ hms hs hn;have hq:=zxn hu hN hi;unfold mF
 cases ho:(sh i && !zwZ ms sh (zxm N (uF ms sh)) i) with
 | false=>rw[zxW (by exact ho)]; omega
 | true=>
  obtain⟨h1,a,h2,h3⟩:=(zx0 _).1 ho;have hb:=(hms.2 a (List.mem_of_getElem? h2)).most;have hp:=zxH N (uF ms sh) i;rw[zxX h2 (by exact ho)]; omega
theorem RI.next(hms:zxM ms)(h:RI ms sh N c)(hn:¬ zxO sh=true):RI ms (zwZ ms sh (zxm N (uF ms sh))) (N - S5 (mF ms fun i=>sh i && !zwZ ms sh (zxm N (uF ms sh)) i)) (fun i=>c i+mF ms (fun i=>sh i && !zwZ ms sh (zxm N (uF ms sh)) i) i):=by
 have hu:=zxZ hms h.sup hn;have hm:=fun i (hi:i < 5)=>zx1 hms h.sup hn h.nn.1 hi
 have hs:S5 (mF ms fun i=>sh i && !zwZ ms sh (zxm N (uF ms sh)) i)<=S5 (zxm N (uF ms sh)):=zxt fun i hi=>by have:=hm i hi; have:=zxH N (uF ms sh) i; omega
 rw[zxG hu] at hs
 have hs0:0<=S5 (mF ms fun i=>sh i && !zwZ ms sh (zxm N (uF ms sh)) i):=by
  have:=hm 0 (by omega); have:=hm 1 (by omega); have:=hm 2 (by omega); have:=hm 3 (by omega); have:=hm 4 (by omega);unfold S5; omega
 have hnn:=h.nn;refine⟨fun i hi=>h.sup i (zxT hi),by omega,fun i hi=>?_,fun i hi=>?_⟩
 ·have h1:=hm i hi;have h2:=h.cb i hi
  have h3:mF ms (fun i=>sh i && !zwZ ms sh (zxm N (uF ms sh)) i) i<=N:=by have:=zxn hu h.nn.1 hi; omega
  show 0<=c i+_/\c i+_<=_
  cases ho:(sh i && !zwZ ms sh (zxm N (uF ms sh)) i) with
  | false=>
   have e:mF ms (fun i=>sh i && !zwZ ms sh (zxm N (uF ms sh)) i) i=0:=zxW (by exact ho);rw[e]; omega
  | true=>
   have hc:=h.c0 i ((zx0 _).1 ho).1;rw[hc]; omega
 ·have h1:=zxT hi
  show c i+_=0
  have e:mF ms (fun i=>sh i && !zwZ ms sh (zxm N (uF ms sh)) i) i=0:=zxW (by show(sh i && !zwZ ms sh _ i)=false; rw[hi]; simp);rw[h.c0 i h1,e]; rfl
theorem zx2{w:Wk}(hms:zxM w.s.Members):ztN w (mkF sh)=some (mk5 (uF w.s.Members sh)):=by
 unfold ztN;rw[zwY (num:=unN) (fun a ha=>?_) hms.1,obs]; rfl;have h:=hms.2 a ha;have:=h.sum; have:=h.cls;have hb:=zxN h;unfold unN at hb
 show ztJ a=some (unN a)
 unfold ztJ unN;rw[zqr (by omega),zqr (by omega),zqr (fI (by omega))]
theorem zx3{w:Wk}(hms:zxM w.s.Members):ztO w (mkF sh)=some (mk5 (mF w.s.Members sh)):=by
 unfold ztO;rw[zwY (number:=fun a=>ztK a) (num:=(·.Most)) (fun a _=>rfl) hms.1,obs]; rfl
theorem zx4{w:Wk}(hms:zxM w.s.Members)(need0:Int){need:Int}:∀(n D:Nat) (sh:Nat->Bool) (N:Int) (c:Nat->Int),RI w.s.Members sh N c->N+S5 c=need->need<=1000000->cF sh < n->cF sh < D ->
  ztR w need0 D need (c 0) (c 1) (c 2) (c 3) (c 4) (sh 0) (sh 1) (sh 2) (sh 3) (sh 4)=some { need:=need,calls:=mk5 (roundsN w.s.Members n sh N c).1 }
 | 0,_,_,_,_,_,_,_,h,_=>by omega
 | _+1,0,_,_,_,_,_,_,_,h=>by omega
 | n+1,D+1,sh,N,c,hr,hs,hneed,hn,hD=>by
  rw[ztR,roundsN]
  show(if zxO sh=true then _ else _)=_
  by_cases h0:zxO sh=true
  ·rw[if_pos h0,if_pos h0]; rfl
  ·rw[if_neg h0,if_neg h0];have hu:=zxZ hms hr.sup h0
   have hbc:Bd 1000000000000 c:=fun i hi=>by have:=hr.cb i hi; omega
   have hcb:=hr.cb;have hc0:=hcb 0 (by omega); have hc1:=hcb 1 (by omega); have hc2:=hcb 2 (by omega); have hc3:=hcb 3 (by omega); have hc4:=hcb 4 (by omega)
   have hsc:0<=S5 c/\S5 c<=5000000:=by unfold S5; omega
   have hNN:0<=N/\N<=1000000:=hr.nn
   have e1:ztH ({ need:=need,calls:=mk5 c }:Oc)=some N:=by
    unfold ztH
    show(ztw (mk5 c)).bind _=_
    rw[zwU hbc,obs,zqr (fI (by show -9223372036854775808<=need - S5 c/\need - S5 c < _; omega))];exact congrArg some (show need - S5 c=N by omega)
   show(ztH ({ need:=need,calls:=mk5 c }:Oc)).bind _=_
   rw[e1,obs]
   show(ztN w (mkF sh)).bind _=_
   rw[zx2 hms,obs,zxq hu hNN,obs]
   show(ztQ w (mkF sh) (mk5 (zxm N (uF w.s.Members sh)))).bind _=_
   rw[zw0 hms.1,obs]
   have hbp:Bd 1000000000000 (zxm N (uF w.s.Members sh)):=fun i hi=>by have:=zxI hu hNN.1 hi; have:=zxJ hu hNN.1 hi; omega
   show(if zxP (zwZ w.s.Members sh (zxm N (uF w.s.Members sh))) sh=true then _ else _)=_
   by_cases h1:zxP (zwZ w.s.Members sh (zxm N (uF w.s.Members sh))) sh=true
   ·rw[if_pos h1,if_pos h1]
    have e2:ztI ({ need:=need,calls:=mk5 c }:Oc) (mk5 (zxm N (uF w.s.Members sh)))=some { need:=need,calls:=mk5 fun i=>c i+zxm N (uF w.s.Members sh) i }:=by
     unfold ztI
     show(zty (mk5 c) _).bind _=_
     rw[zwV hbc hbp,obs]
    show(ztI ({ need:=need,calls:=mk5 c }:Oc) _).bind _=_
    rw[e2,obs]
   ·rw[if_neg h1,if_neg h1]
    show(ztA (mkF sh) (mkF (zwZ w.s.Members sh (zxm N (uF w.s.Members sh))))).bind _=_
    rw[zwW,obs,zx3 hms,obs];have hnext:=hr.next hms h0;have hm:=fun i (hi:i < 5)=>zx1 hms hr.sup h0 hNN.1 hi
    have hbm:Bd 1000000000000 (mF w.s.Members fun i=>sh i && !zwZ w.s.Members sh (zxm N (uF w.s.Members sh)) i):=fun i hi=>by have:=hm i hi; have:=zxn hu hNN.1 hi; omega
    have e2:ztI ({ need:=need,calls:=mk5 c }:Oc) (mk5 (mF w.s.Members fun i=>sh i && !zwZ w.s.Members sh (zxm N (uF w.s.Members sh)) i))=some { need:=need,calls:=mk5 fun i=>c i+mF w.s.Members (fun i=>sh i && !zwZ w.s.Members sh (zxm N (uF w.s.Members sh)) i) i }:=by
     unfold ztI
     show(zty (mk5 c) _).bind _=_
     rw[zwV hbc hbm,obs]
    show(ztI ({ need:=need,calls:=mk5 c }:Oc) _).bind _=_
    rw[e2,obs];have hless:=zxV h1;have e3:S5 (fun i=>c i+mF w.s.Members (fun i=>sh i && !zwZ w.s.Members sh (zxm N (uF w.s.Members sh)) i) i)=S5 c+S5 (mF w.s.Members fun i=>sh i && !zwZ w.s.Members sh (zxm N (uF w.s.Members sh)) i):=zw4 _ _
    have e4:N - S5 (mF w.s.Members fun i=>sh i && !zwZ w.s.Members sh (zxm N (uF w.s.Members sh)) i)+S5 (fun i=>c i+mF w.s.Members (fun i=>sh i && !zwZ w.s.Members sh (zxm N (uF w.s.Members sh)) i) i)=need:=by rw[e3]; omega
    exact zx4 hms need0 n D _ _ _ hnext e4 hneed (by omega) (by omega)
end
def zx5(ms:List Mb)(ask:Nat->Bool)(need:Int):(Nat->Int) × Int:=roundsN ms 6 ask need fun _=>0
theorem zx6(sh:Nat->Bool):cF sh<=5:=by
 have h:∀b:Bool,b.toNat<=1:=fun b=>by cases b <;> decide
 have:=h (sh 0); have:=h (sh 1); have:=h (sh 2); have:=h (sh 3); have:=h (sh 4);unfold cF; omega
theorem zx7{w:Wk}(hms:zxM w.s.Members){ask:Nat->Bool}(ha:w.asked=mkF ask)(hsup:zxQ w.s.Members ask){need:Int}(hn:0<=need/\need<=1000000):ztS w need=some { need:=need,calls:=mk5 (zx5 w.s.Members ask need).1 }:=by
 unfold ztS;rw[ha];have hc:=zx6 ask;exact zx4 hms need 6 1000000 ask need (fun _=>0) ⟨hsup,hn,fun _ _=>by omega,fun _ _=>rfl⟩ (by rw[zw5]; omega) hn.2 (by omega) (by omega)
end
end Go.Proofs.Ytkclhciahokifaa

namespace Go.Proofs.Ytkclhciahokifaa
open _root_.Go.Proofs.Try
open Go.Abs
set_option maxRecDepth 100000
noncomputable section
section
variable {ms:List Mb}
theorem zx8(hms:zxM ms):∀(n:Nat) (sh:Nat->Bool) (N:Int) (c:Nat->Int),RI ms sh N c->cF sh < n->S5 (roundsN ms n sh N c).1+(roundsN ms n sh N c).2=N+S5 c/\0<=(roundsN ms n sh N c).2
 | 0,_,_,_,_,h=>by omega
 | n+1,sh,N,c,hr,h=>by
  unfold roundsN
  by_cases h0:zxO sh=true
  ·rw[if_pos h0]; have:=hr.nn; exact⟨by show S5 c+N=_; omega,hr.nn.1⟩
  ·rw[if_neg h0];have hu:=zxZ hms hr.sup h0
   by_cases h1:zxP (zwZ ms sh (zxm N (uF ms sh))) sh=true
   ·rw[if_pos h1];have e:S5 (fun i=>c i+zxm N (uF ms sh) i)=S5 c+S5 (zxm N (uF ms sh)):=zw4 _ _;have hp:=zxG hu N;exact⟨by show S5 (fun i=>c i+zxm N (uF ms sh) i)+0=_; omega,Int.le_refl _⟩
   ·rw[if_neg h1];have hless:=zxV h1;have ih:=zx8 hms n _ _ _ (hr.next hms h0) (by omega);have e:S5 (fun i=>c i+mF ms (fun i=>sh i && !zwZ ms sh (zxm N (uF ms sh)) i) i)=S5 c+S5 (mF ms fun i=>sh i && !zwZ ms sh (zxm N (uF ms sh)) i):=zw4 _ _;rw[e] at ih;exact⟨by rw[ih.1]; omega,ih.2⟩
theorem zx9(hms:zxM ms):∀(n:Nat) (sh:Nat->Bool) (N:Int) (c:Nat->Int),RI ms sh N c->cF sh < n->∀i,i < 5->sh i=false->(roundsN ms n sh N c).1 i=c i
 | 0,_,_,_,_,h=>by omega
 | n+1,sh,N,c,hr,h=>fun i hi hs=>by
  unfold roundsN
  by_cases h0:zxO sh=true
  ·rw[if_pos h0]
  ·rw[if_neg h0];have hu:=zxZ hms hr.sup h0
   by_cases h1:zxP (zwZ ms sh (zxm N (uF ms sh))) sh=true
   ·rw[if_pos h1]
    show c i+_=_
    rw[zxK hu (show uF ms sh i=0 from zxW hs),Int.add_zero]
   ·rw[if_neg h1];have hless:=zxV h1
    have ha:zwZ ms sh (zxm N (uF ms sh)) i=false:=by
     cases hq:zwZ ms sh (zxm N (uF ms sh)) i with
     | false=>rfl
     | true=>rw[zxT hq] at hs; cases hs
    rw[zx9 hms n _ _ _ (hr.next hms h0) (by omega) i hi ha];have e:mF ms (fun i=>sh i && !zwZ ms sh (zxm N (uF ms sh)) i) i=0:=zxW (by show(sh i && _)=false; rw[hs]; rfl);rw[e,Int.add_zero]
theorem zya(hms:zxM ms):∀(n:Nat) (sh:Nat->Bool) (N:Int) (c:Nat->Int),RI ms sh N c->cF sh < n->∀i a,i < 5->ms[i]? = some a->sh i=true->(0<=(roundsN ms n sh N c).1 i/\(roundsN ms n sh N c).1 i<=a.Most)/\(0 < (roundsN ms n sh N c).2->(roundsN ms n sh N c).1 i=a.Most)
 | 0,_,_,_,_,h=>by omega
 | n+1,sh,N,c,hr,h=>fun i a hi hm hs=>by
  unfold roundsN
  by_cases h0:zxO sh=true
  ·have:=zxR.1 h0 i hi; rw[hs] at this; cases this
  ·rw[if_neg h0];have hu:=zxZ hms hr.sup h0;have hc:=hr.c0 i hs;have hp:=zxI hu hr.nn.1 hi
   by_cases h1:zxP (zwZ ms sh (zxm N (uF ms sh))) sh=true
   ·rw[if_pos h1];have h2:=zxS.1 h1 i hi;rw[zxU hm,hs,Bool.true_and] at h2;have h3:zxm N (uF ms sh) i<=a.Most:=of_decide_eq_true h2;exact⟨by show 0<=c i+_/\c i+_<=_; omega,fun h=>absurd h (Int.lt_irrefl _)⟩
   ·rw[if_neg h1];have hless:=zxV h1
    cases hq:zwZ ms sh (zxm N (uF ms sh)) i with
    | true=>exact zya hms n _ _ _ (hr.next hms h0) (by omega) i a hi hm hq
    | false=>
     rw[zx9 hms n _ _ _ (hr.next hms h0) (by omega) i hi hq];have e:mF ms (fun i=>sh i && !zwZ ms sh (zxm N (uF ms sh)) i) i=a.Most:=zxX hm (by show(sh i && !zwZ ms sh _ i)=true; rw[hs,hq]; rfl);have hb:=(hms.2 a (List.mem_of_getElem? hm)).most;rw[e,hc];exact⟨by omega,fun _=>by omega⟩
end
section
variable {ms:List Mb} {ask:Nat->Bool} {N:Int}
theorem RI0(hs:zxQ ms ask)(hN:0<=N/\N<=1000000):RI ms ask N fun _=>0:=⟨hs,hN,fun _ _=>by omega,fun _ _=>rfl⟩
theorem zyb(hms:zxM ms)(hs:zxQ ms ask)(hN:0<=N/\N<=1000000):S5 (zx5 ms ask N).1+(zx5 ms ask N).2=N/\0<=(zx5 ms ask N).2:=by
 have:=zx6 ask;have h:=zx8 hms 6 ask N (fun _=>0) (RI0 hs hN) (by omega);rw[zw5] at h;exact⟨by rw[Int.add_zero] at h; exact h.1,h.2⟩
theorem zyc(hms:zxM ms)(hs:zxQ ms ask)(hN:0<=N/\N<=1000000){i:Nat}(hi:i < 5)(ha:ask i=false):(zx5 ms ask N).1 i=0:=by
 have:=zx6 ask;exact zx9 hms 6 ask N (fun _=>0) (RI0 hs hN) (by omega) i hi ha
theorem zyd(hms:zxM ms)(hs:zxQ ms ask)(hN:0<=N/\N<=1000000){i:Nat}{a:Mb}(hi:i < 5)(hm:ms[i]? = some a)(ha:ask i=true):(0<=(zx5 ms ask N).1 i/\(zx5 ms ask N).1 i<=a.Most)/\(0 < (zx5 ms ask N).2->(zx5 ms ask N).1 i=a.Most):=by
 have:=zx6 ask;exact zya hms 6 ask N (fun _=>0) (RI0 hs hN) (by omega) i a hi hm ha
theorem zye(hms:zxM ms)(hs:zxQ ms ask)(hN:0<=N/\N<=1000000){i:Nat}(hi:i < 5):0<=(zx5 ms ask N).1 i/\(zx5 ms ask N).1 i<=100000:=by
 cases ha:ask i with
 | false=>rw[zyc hms hs hN hi ha]; omega
 | true=>
  have hm:=List.getElem?_eq_getElem (hs i ha);have h:=zyd hms hs hN hi hm ha;have hb:=(hms.2 _ (List.getElem_mem (hs i ha))).most
  omega
theorem zyf(hms:zxM ms)(hs:zxQ ms ask)(hN:0<=N/\N<=1000000){i:Nat}(hi:i < 5):(zx5 ms ask N).1 i<=mF ms ask i/\(0 < (zx5 ms ask N).2->(zx5 ms ask N).1 i=mF ms ask i):=by
 cases ha:ask i with
 | false=>
  have e:mF ms ask i=0:=zxW ha;rw[zyc hms hs hN hi ha,e]; exact⟨Int.le_refl _,fun _=>rfl⟩
 | true=>
  have hm:=List.getElem?_eq_getElem (hs i ha);have e:mF ms ask i=(ms[i]'(hs i ha)).Most:=zxX hm ha;have h:=zyd hms hs hN hi hm ha;rw[e]; exact⟨h.1.2,h.2⟩
theorem zyg(hms:zxM ms)(hs:zxQ ms ask)(hN:0<=N/\N<=1000000):(zx5 ms ask N).2=max 0 (N - S5 (mF ms ask)):=by
 have h1:=zyb hms hs hN;have h2:S5 (zx5 ms ask N).1<=S5 (mF ms ask):=zxt fun i hi=>(zyf hms hs hN hi).1
 by_cases h:0 < (zx5 ms ask N).2
 ·have h3:S5 (zx5 ms ask N).1=S5 (mF ms ask):=zw6 fun i hi=>(zyf hms hs hN hi).2 h
  omega
 ·omega
end
end
end Go.Proofs.Ytkclhciahokifaa

namespace Go.Proofs.Ytkclhciahokifaa
open _root_.Go.Proofs.Try
open Go.Abs
set_option maxRecDepth 100000
noncomputable section
def RgV(r:Rg):Prop:=0<=r.Lo/\r.Lo<=r.Hi/\r.Hi<=100000/\r.Hi - r.Lo<=30
instance (r:Rg):Decidable (RgV r):=by unfold RgV; infer_instance
structure zyh (s:Soc):Prop where
 pos:0 < s.Members.length
 ms:∀a∈s.Members,zxL a
 ls:∀r∈s.Losses,RgV r
 tr:RgV s.Treaty
 rs:0<=s.Reserve/\s.Reserve<=100000
structure zyi (s:Soc):Prop where
 m5:s.Members.length<=5
 l3:s.Losses.length<=3
 full:zyh s
theorem zyi.msOk{s:Soc}(h:zyi s):zxM s.Members:=⟨h.m5,h.full.ms⟩
open Classical in
def zyj(s:Soc):Int:=if 5 < s.Members.length\/3 < s.Losses.length then 3 else if zyh s then 0 else 1
theorem zyk{s:Soc}:zyj s=0↔zyi s:=by
 unfold zyj
 by_cases h:5 < s.Members.length\/3 < s.Losses.length
 ·rw[if_pos h]; exact⟨fun h=>by omega,fun h2=>by have:=h2.m5; have:=h2.l3; omega⟩
 ·rw[if_neg h]
  by_cases hf:zyh s
  ·rw[if_pos hf]; exact⟨fun _=>⟨by omega,by omega,hf⟩,fun _=>rfl⟩
  ·rw[if_neg hf]; exact⟨fun h=>by omega,fun h=>absurd h.full hf⟩
theorem zyl{r:Rg}{n:Int}:Ev (zsQ r n) (r.Lo<=n/\n<=r.Hi):=Ev.ite fun _=>Ev.dec Iff.rfl
theorem zym{n:Int}:Ev (zsR n) (0<=n/\n<=100000):=zyl.ret
theorem zyn{r:Rg}:Ev (zsS r) (RgV r):=by
 refine(zym.and fun h1=>zym.and fun h2=>Ev.ite (K:=r.Hi - r.Lo<=30) fun _=>Ev.gd (fI (by omega)) (Ev.dec Iff.rfl)).imp ?_;unfold RgV; omega
theorem zyo{a:Mb}:Ev (zsT ({ su:=({ Lo:=(1:Int),Hi:=(1000:Int) }:Rg),cl:=({ Lo:=(1:Int),Hi:=(10:Int) }:Rg),mo:=({ Lo:=(0:Int),Hi:=(100000:Int) }:Rg) }:Lm) a) (zxL a):=
 (zyl.and fun _=>zyl.and fun _=>zyl.ret).imp ⟨fun⟨h1,h2,h3⟩=>⟨h1,h2,h3⟩,fun⟨h1,h2,h3⟩=>⟨h1,h2,h3⟩⟩
theorem gM{l:List Mb}{p:Mb->Option Bool}:∀{d:Nat} {x:Int},zsV l p d x=gIdx l p d x
 | 0,_=>rfl
 | d+1,x=>by unfold zsV gIdx; simp only[gM]
theorem gR{l:List Rg}{p:Rg->Option Bool}:∀{d:Nat} {x:Int},zs0 l p d x=gIdx l p d x
 | 0,_=>rfl
 | d+1,x=>by unfold zs0 gIdx; simp only[gR]
theorem gI{l:List Int}{p:Int->Option Bool}:∀{d:Nat} {x:Int},zs5 l p d x=gIdx l p d x
 | 0,_=>rfl
 | d+1,x=>by unfold zs5 gIdx; simp only[gI]
theorem zyp{s:Soc}(h1:zrS s.Members)(h2:zrS s.Losses):Ev (ztc s) (zyh s):=by
 refine(Ev.ite fun _=>(Ev.each (q:=zxL) (fun a _=>zyo) h1.lt gM).and fun _=>(Ev.each (q:=RgV) (fun a _=>zyn) h2.lt gR).and fun _=>zyn.and fun _=>zym.ret).imp ?_;exact⟨fun⟨a,b,c,d,e⟩=>⟨by omega,b,c,d,e⟩,fun⟨a,b,c,d,e⟩=>⟨by omega,b,c,d,e⟩⟩
theorem zyq{s:Soc}:Ev (ztb s) (5 < s.Members.length\/3 < s.Losses.length):=by
 unfold ztb
 by_cases h:(5:Int) < s.Members.length
 ·rw[if_pos h]; exact Ev.tt (by omega)
 ·rw[if_neg h]; exact Ev.dec (by omega)
theorem zyr{s:Soc}(h1:zrS s.Members)(h2:zrS s.Losses):ztd s=some (zyj s):=by
 unfold ztd zyj;refine zyq.pick (fun h=>?_) fun h=>?_
 ·rw[if_pos rfl,if_pos h]
 ·rw[if_neg (by decide),if_neg h];refine(zyp h1 h2).pick (fun h=>?_) fun h=>?_
  ·rw[if_pos rfl,if_pos h]
  ·rw[if_neg (by decide),if_neg h]
theorem zys{n lo hi:Int}:Ev (zsg n lo hi) (lo<=n/\n<=hi):=Ev.ite fun _=>Ev.dec Iff.rfl
theorem zyt{r:Rg}:Ev (zsh r) (RgV r):=Ev.ite fun h1=>Ev.ite fun h2=>Ev.ite fun h3=>Ev.gd (fI (by omega)) (Ev.dec Iff.rfl)
theorem zyu{s:Soc}(h1:s.Members.length<=8)(h2:s.Losses.length<=6):zsj s=some (zyj s):=by
 unfold zsj zyj
 by_cases c1:5 < s.Members.length
 ·rw[if_pos (by omega),if_pos (.inl c1)]
 rw[if_neg (by omega)]
 by_cases c2:3 < s.Losses.length
 ·rw[if_pos (by omega),if_pos (.inr c2)]
 rw[if_neg (show ¬ (3:Int) < s.Losses.length by omega),if_neg (show ¬ (5 < s.Members.length\/3 < s.Losses.length) by omega)]
 by_cases c3:s.Members.length=0
 ·rw[if_pos (by omega),if_neg fun h:zyh s=>by have:=h.pos; omega]
 rw[if_neg (show ¬ (s.Members.length:Int)=0 by omega)]
 refine zyt.pick (fun c4=>?_) fun c4=>by rw[if_neg (by decide),if_neg fun h=>c4 h.tr]
 rw[if_pos rfl]
 refine zys.pick (fun c5=>?_) fun c5=>by rw[if_neg (by decide),if_neg fun h=>c5 h.rs]
 rw[if_pos rfl]
 have kL:=zrR (l:=s.Losses) (F:=fun d x=>prFault_L1 s d x) (ok:=RgV) (bad:=some 1) (fin:=some 0) (fun d k a hk=>by
  have hkl:=(List.getElem?_eq_some_iff.1 hk).1
  show(RgV a->prFault_L1 s (d+1) (k:Int)=_)/\_
  rw[prFault_L1,if_pos (by omega),zrI hk,obs]
  exact Ev.step zyt (by rw[if_pos rfl,zqr (fI (by omega))]) (by rw[if_neg (by decide)])) (fun d=>by show prFault_L1 s (d+1) _=_; rw[prFault_L1,if_neg (Int.lt_irrefl _)]) (d:=1000000) (by omega)
 have kM:=zrR (l:=s.Members) (F:=fun d x=>zsi s d 0 x) (ok:=zxL) (bad:=some 1) (fin:=prFault_L1 s 1000000 0) (fun d k a hk=>by
  have hkl:=(List.getElem?_eq_some_iff.1 hk).1
  show(zxL a->zsi s (d+1) 0 (k:Int)=_)/\_
  rw[zsi,if_pos (by omega),zrI hk,obs];refine⟨fun h=>?_,fun h=>?_⟩
  ·rw[zys.some_of h.sum,obs,if_pos rfl,zys.some_of h.cls,obs,if_pos rfl,zys.some_of h.most,obs,if_pos rfl,zqr (fI (by omega))]
  ·refine zys.pick (fun q1=>?_) fun q1=>by rw[if_neg (by decide)]
   rw[if_pos rfl]
   refine zys.pick (fun q2=>?_) fun q2=>by rw[if_neg (by decide)]
   rw[if_pos rfl]
   refine zys.pick (fun q3=>absurd ⟨q1,q2,q3⟩ h) fun q3=>by rw[if_neg (by decide)]) (fun d=>by show zsi s (d+1) 0 _=_; rw[zsi,if_neg (Int.lt_irrefl _)]) (d:=1000000) (by omega)
 by_cases c6:∀a∈s.Members,zxL a
 ·refine(kM.1 c6).trans ?_
  by_cases c7:∀r∈s.Losses,RgV r
  ·refine(kL.1 c7).trans ?_;rw[if_pos ⟨by omega,c6,c7,c4,c5⟩]
  ·refine(kL.2 c7).trans ?_;rw[if_neg fun h=>c7 h.ls]
 ·refine(kM.2 c6).trans ?_;rw[if_neg fun h=>c6 h.ms]
theorem zyv{s:Soc}(h1:s.Members.length<=8)(h2:s.Losses.length<=6):zum s=some (zyj s):=by unfold zum; rw[zyu h1 h2]; rfl
def zyw(n:Nat)(out:List Int):Nat->Bool:=fun i=>decide (i < n) && !decide ((i:Int)∈out)
def zyx(s:Soc)(out:List Int):Wk:={ s:=s,asked:=mkF (zyw s.Members.length out) }
def wk0:Wk:={ s:={ Members:=[],Losses:=[],Treaty:={ Lo:=0,Hi:=0 },Reserve:=0 },asked:={ b0:=false,b1:=false,b2:=false,b3:=false,b4:=false } }
theorem zyy(ms:List Mb)(out:List Int):zxQ ms (zyw ms.length out):=fun i h=>by
 unfold zyw at h
 simp at h; exact h.1
theorem zyz{l:List Int}{v:Int}(hl:zrS l):∀d (k:Nat),k<=l.length->l.length - k < d->∃r,zti l v d (k:Int)=some r/\(0<=r↔v∈l.drop k)
 | 0,k,_,h=>by omega
 | d+1,k,hk,h=>by
  unfold zrS at hl;unfold zti
  by_cases hkn:k=l.length
  ·subst hkn; rw[if_neg (Int.lt_irrefl _)]; exact⟨_,rfl,by simp⟩
  ·have hlt:k < l.length:=by omega
   rw[if_pos (by omega),zrI (List.getElem?_eq_getElem hlt),obs];have hd:=List.drop_eq_getElem_cons hlt
   by_cases hv:v=l[k]
   ·rw[if_pos hv]; exact⟨_,rfl,⟨fun _=>by rw[hd,<- hv]; exact List.mem_cons_self ..,fun _=>by omega⟩⟩
   ·rw[if_neg hv,zqr (fI (by omega)),show(k:Int)+1=((k+1:Nat):Int) by omega];obtain⟨r,h1,h2⟩:=zyz hl d (k+1) (by omega) (by omega);exact⟨r,h1,h2.trans ⟨fun h=>by rw[hd]; exact List.mem_cons_of_mem _ h,fun h=>by rw[hd] at h; exact(List.mem_cons.1 h).resolve_left hv⟩⟩
theorem zyA{l:List Int}{v:Int}(hl:zrS l):ztk l v=some (decide (v∈l)):=by
 unfold ztk ztj;obtain⟨r,h1,h2⟩:=zyz (v:=v) hl (l.length+1) 0 (Nat.zero_le _) (by omega);have h1:zti l v (l.length+1) 0=some r:=h1;rw[h1,obs];exact congrArg some (decide_eq_decide.2 (h2.trans (by rw[List.drop_zero])))
theorem zyB{s:Soc}{out:List Int}(hl:zrS out)(h5:s.Members.length<=5):ztm s out=some (zyx s out):=by
 unfold ztm;have key:=zwK (n:=s.Members.length) (fun d st x=>ztl s out d s.Treaty.Lo s.Treaty.Hi s.Reserve (st 0) (st 1) (st 2) (st 3) (st 4) x) (stF (zyw s.Members.length out) fun _=>false) (fin:=some (zyx s out)) (fun d k hk=>?_) (fun d=>?_) (s.Members.length+1) 0 (by omega) (by omega)
 ·rw[zwO] at key; exact key
 ·show ztl s out (d+1) _ _ _ _ _ _ _ _ _=_
  rw[ztl,if_pos (by omega),zyA hl,obs,zqr (by omega),zqr (fI (by omega))];have e:=zwR (zyw s.Members.length out) (fun _=>false) k
  have e0:(!decide ((k:Int)∈out))=zyw s.Members.length out k:=by unfold zyw; rw[decide_eq_true hk,Bool.true_and]
  rw[e0,e 0,e 1,e 2,e 3,e 4]
 ·show ztl s out (d+1) _ _ _ _ _ _ _ _ _=_
  rw[ztl,if_neg (by omega)]
  have e1:∀j,stF (zyw s.Members.length out) (fun _=>false) s.Members.length j=zyw s.Members.length out j:=fun j=>by
   unfold stF
   by_cases h:j < s.Members.length
   ·rw[if_pos h]
   ·rw[if_neg h]; unfold zyw; rw[decide_eq_false h]; rfl
  rw[e1 0,e1 1,e1 2,e1 3,e1 4]; rfl
def zyC(n:Nat)(l:List Int):Prop:=l.Pairwise (· < ·)/\∀v∈l,0<=v/\v<=(n:Int) - 1
theorem zyD{l:List Int}:(∀j,0 < j->j < l.length->∀a b,l[j - 1]? = some a->l[j]? = some b->a < b)↔l.Pairwise (· < ·):=by
 constructor
 ·intro h;rw[List.pairwise_iff_getElem];intro i j hi hj hij
  have key:∀d,(hd:i+d+1 < l.length)->l[i] < l[i+d+1]:=fun d=>by
   induction d with
   | zero=>intro hd; exact h (i+1) (by omega) hd _ _ (List.getElem?_eq_getElem hi) (List.getElem?_eq_getElem hd)
   | succ d ih=>
    intro hd;have h1:=ih (by omega);have h2:=h (i+(d+1)+1) (by omega) hd _ _ (List.getElem?_eq_getElem (show i+d+1 < l.length by omega)) (List.getElem?_eq_getElem hd);exact Int.lt_trans h1 h2
  have:=key (j - i - 1) (by omega)
  simpa [show i+(j - i - 1)+1=j by omega] using this
 ·intro h j h0 hj a b ha hb;obtain⟨h1,rfl⟩:=List.getElem?_eq_some_iff.1 ha;obtain⟨h2,rfl⟩:=List.getElem?_eq_some_iff.1 hb;exact List.pairwise_iff_getElem.1 h (j - 1) j h1 h2 (by omega)
theorem zyE{l:List Int}(hl:zrS l):Ev (zta l) (l.Pairwise (· < ·)):=by
 unfold zrS at hl;unfold zta
 by_cases h0:l.length=0
 ·have:l=[]:=List.eq_nil_of_length_eq_zero h0;subst this
  show Ev (zs9 [] 1 1) _
  rw[zs9,if_neg (by decide)];exact Ev.tt .nil
 ·have e:∃n,l.length=n+1:=⟨l.length - 1,by omega⟩;obtain⟨n,hn⟩:=e
  have key:=zrM (n:=n) (F:=fun d x=>zs9 l d (x+1)) (ok:=fun j=>∀a b,l[j]? = some a->l[j+1]? = some b->a < b) (bad:=some false) (fin:=some true) (fun d k hk=>by
   show(_->zs9 l (d+1) ((k:Int)+1)=_)/\_
   have ha:=List.getElem?_eq_getElem (show k < l.length by omega);have hb:=List.getElem?_eq_getElem (show k+1 < l.length by omega);rw[zs9,if_pos (by omega),zrJ (show(k:Int)+1=((k+1:Nat):Int) by omega) (show k+1 < l.length by omega),obs,zqr (fI (by omega)),zrJ (show(k:Int)+1 - 1=(k:Int) by omega) (show k < l.length by omega),obs];refine⟨fun h=>?_,fun h=>?_⟩
   ·have:=h _ _ ha hb;rw[if_neg (by omega),zqr (fI (by omega))]
   ·rw[if_pos]
    apply Classical.byContradiction
    intro h2
    exact h fun a b h3 h4=>by rw[ha] at h3; rw[hb] at h4; cases h3; cases h4; omega) (fun d=>by show zs9 l (d+1) _=_; rw[zs9,if_neg (by omega)]) (d:=((l.length:Int) - 1).toNat+1) (by omega)
  have e0:zs9 l (((l.length:Int) - 1).toNat+1) (0+1)=zs9 l (((l.length:Int) - 1).toNat+1) 1:=rfl
  have hiff:(∀j,j < n->∀a b,l[j]? = some a->l[j+1]? = some b->a < b)↔l.Pairwise (· < ·):=by
   rw[<- zyD]
   constructor
   ·intro h j h0 hj a b h1 h2;have:=h (j - 1) (by omega) a b h1;rw[show j - 1+1=j by omega] at this;exact this h2
   ·intro h j hj a b h1 h2;exact h (j+1) (by omega) (by omega) a b (by rw[Nat.add_sub_cancel]; exact h1) h2
  by_cases hq:∀j,j < n->∀a b,l[j]? = some a->l[j+1]? = some b->a < b
  ·have:=key.1 hq;exact⟨true,this,⟨fun _=>hiff.1 hq,fun _=>rfl⟩⟩
  ·have:=key.2 hq;exact⟨false,this,⟨fun h=>(by cases h),fun h=>absurd (hiff.2 h) hq⟩⟩
theorem zyF{s:Soc}{l:List Int}(hl:zrS l)(hm:zrS s.Members):Ev (zth s l) (zyC s.Members.length l):=by
 unfold zrS at hm;refine((zyE hl).and fun _=>(Ev.each (q:=fun v=>0<=v/\v<=(s.Members.length:Int) - 1) (fun v _=>?_) hl.lt gI).ret).imp Iff.rfl;exact Ev.gd (fI (by omega)) zyl.ret
theorem zyG{s:Soc}{out:List Int}(hs:zyi s)(hl:zrS out)(ho:zyC s.Members.length out):ztn s out=some (zyx s out,0):=by
 have h1:=hs.m5; have h2:=hs.l3;unfold ztn;rw[zyr (by unfold zrS; omega) (by unfold zrS; omega),obs,if_pos (zyk.2 hs),(zyF hl (by unfold zrS; omega)).some_of ho,obs,if_pos rfl,zyB hl h1,obs]
theorem zyH{s:Soc}{out:List Int}(h1:zrS s.Members)(h2:zrS s.Losses)(hf:zyj s ≠ 0):ztn s out=some (wk0,zyj s):=by
 unfold ztn;rw[zyr h1 h2,obs,if_neg hf]; rfl
theorem zyI(n:Nat):zyC n []:=⟨.nil,fun _ h=>by cases h⟩
def zyJ(lo hi:Int):List Int:=(List.range (hi - lo+1).toNat).map fun(k:Nat)=>lo+(k:Int)
theorem zyK{lo hi x:Int}:x∈zyJ lo hi↔lo<=x/\x<=hi:=by
 unfold zyJ;rw[List.mem_map]
 constructor
 ·rintro⟨k,h1,rfl⟩
  have:=List.mem_range.1 h1
  omega
 ·intro h; exact⟨(x - lo).toNat,List.mem_range.2 (by omega),by omega⟩
def zyL(g:Rg->Int)(l:List Rg):Int:=zw2 (l.map g)
theorem zyM{l:List Rg}(h:∀r∈l,RgV r):0<=zyL (·.Lo) l/\zyL (·.Lo) l<=zyL (·.Hi) l/\zyL (·.Hi) l<=100000 * l.length/\zyL (·.Hi) l<=zyL (·.Lo) l+30 * l.length:=by
 induction l with
 | nil=>exact⟨Int.le_refl _,Int.le_refl _,Int.le_refl _,Int.le_refl _⟩
 | cons r l ih=>
  have ih:=ih fun r hr=>h r (List.mem_cons_of_mem _ hr);have hr:=h r (List.mem_cons_self ..);unfold RgV at hr;have e1:zyL (·.Lo) (r::l)=r.Lo+zyL (·.Lo) l:=rfl;have e2:zyL (·.Hi) (r::l)=r.Hi+zyL (·.Hi) l:=rfl;rw[e1,e2,List.length_cons]
  omega
def loN(s:Soc):Int:=max 0 (zyL (·.Lo) s.Losses - s.Reserve - s.Treaty.Hi)
def hiN(s:Soc):Int:=max 0 (zyL (·.Hi) s.Losses - s.Reserve - s.Treaty.Lo)
theorem zyN{s:Soc}(hs:zyi s):0<=loN s/\loN s<=hiN s/\hiN s<=300000/\hiN s<=loN s+120:=by
 have h:=zyM hs.full.ls;have h1:=hs.l3;have h2:=hs.full.tr;have h3:=hs.full.rs;unfold RgV at h2;unfold loN hiN
 omega
theorem zyO{g:Rg->Int}{l:List Rg}{k:Nat}{a:Rg}(h:l[k]? = some a):zyL g (l.take (k+1))=zyL g (l.take k)+g a:=by
 unfold zyL;rw[List.take_add_one,h,List.map_append,zw3]
 show _+(g a+0)=_; omega
theorem zyP{s:Soc}{a b:Int}(h:0<=a/\a<=1000000)(hb:0<=b/\b<=1000000)(hr:0<=s.Reserve/\s.Reserve<=100000):zto s a b=some (max 0 (a - s.Reserve - b)):=by
 unfold zto;rw[zqr (fI (by omega)),zqr (fI (by omega))]
theorem zyQ{hi:Int}(hh:hi<=1000000):∀(d:Nat) (x:Int),0<=x->(hi - x+1).toNat < d->ztr hi d x=some (zyJ x hi)
 | 0,_,_,h=>by omega
 | d+1,x,hx,h=>by
  rw[ztr]
  by_cases hc:x<=hi
  ·rw[if_pos hc,zqr (fI (by omega)),zyQ hh d (x+1) (by omega) (by omega),obs]
   have e:(hi - x+1).toNat=(hi - (x+1)+1).toNat+1:=by omega
   have e2:zyJ x hi=x::zyJ (x+1) hi:=by
    unfold zyJ;rw[e,List.range_succ_eq_map,List.map_cons,List.map_map];refine congr (congrArg List.cons (by show x+((0:Nat):Int)=x; omega)) (List.map_congr_left fun k _=>?_)
    show x+((k+1:Nat):Int)=x+1+(k:Int)
    omega
   rw[e2]
  ·rw[if_neg hc]
   have e:(hi - x+1).toNat=0:=by omega
   unfold zyJ; rw[e]; rfl
theorem zyR{s:Soc}(hs:zyi s):ztu s=some (zyJ (loN s) (hiN s)):=by
 have hb:=zyM hs.full.ls;have hn:=zyN hs;have h3:=hs.l3;have htr:=hs.full.tr;unfold RgV at htr;have hrs:=hs.full.rs
 have e:ztt s=some (zyJ (loN s) (hiN s)):=by
  unfold ztt;refine zwK (n:=s.Losses.length) (fun d (st:Int × Int) x=>zts s d st.1 st.2 x) (fun k=>(zyL (·.Lo) (s.Losses.take k),zyL (·.Hi) (s.Losses.take k))) (fun d k hk=>?_) (fun d=>?_) (s.Losses.length+1) 0 (by omega) (by omega)
  ·have hg:=List.getElem?_eq_getElem hk;have h1:=zyM (l:=s.Losses.take k) fun r hr=>hs.full.ls r (List.mem_of_mem_take hr);have h2:=hs.full.ls _ (List.getElem_mem hk)
   have h4:(s.Losses.take k).length<=3:=by rw[List.length_take]; omega
   unfold RgV at h2
   show zts s (d+1) (zyL _ _) (zyL _ _) (k:Int)=zts s d (zyL _ _) (zyL _ _) _
   rw[zts,if_pos (by omega),zrI hg,obs,zqr (fI (by omega)),zqr (fI (by omega)),zqr (fI (by omega)),zyO hg,zyO hg]
  ·show zts s (d+1) (zyL _ _) (zyL _ _) _=_
   rw[zts,if_neg (Int.lt_irrefl _),List.take_length,zyP (by omega) (by omega) hrs,obs,zyP (by omega) (by omega) hrs,obs];exact zyQ (by unfold hiN at hn; omega) _ _ (by omega) (by omega)
 unfold ztu;rw[e]; rfl
end
end Go.Proofs.Ytkclhciahokifaa

namespace Go.Proofs.Ytkclhciahokifaa
open _root_.Go.Proofs.Try
open Go.Abs
set_option maxRecDepth 100000
noncomputable section
def Inc(n fr:Nat)(T:List Int):Prop:=T.Pairwise (· < ·)/\∀v∈T,(fr:Int)<=v/\v < n
theorem Inc.cons{n fr:Nat}{x:Int}{T:List Int}:Inc n fr (x::T)↔((fr:Int)<=x/\x < n)/\Inc n (x+1).toNat T:=by
 unfold Inc;rw[List.pairwise_cons]
 constructor
 ·rintro⟨⟨h1,h2⟩,h3⟩
  have hx:=h3 x (List.mem_cons_self ..);exact⟨hx,h2,fun v hv=>by have:=h1 v hv; have:=h3 v (List.mem_cons_of_mem _ hv); omega⟩
 ·rintro⟨hx,h2,h3⟩
  refine⟨⟨fun v hv=>by have:=h3 v hv; omega,h2⟩,fun v hv=>?_⟩
  rcases List.mem_cons.1 hv with rfl | hv
  ·exact hx
  ·have:=h3 v hv; omega
theorem zyS{n:Nat}{D:List Int}:∀{d:Nat} {pre:List Int} {fr:Nat},D∈zrx n d pre fr↔∃T,D=pre++T/\T.length=d/\Inc n fr T
 | 0,pre,fr=>by
  show D∈[pre]↔_
  rw[List.mem_singleton]
  constructor
  ·rintro rfl; exact⟨[],by simp,rfl,.nil,fun v hv=>by cases hv⟩
  ·rintro⟨T,h1,h2,_⟩
   rw[List.eq_nil_of_length_eq_zero h2,List.append_nil] at h1; exact h1
 | d+1,pre,fr=>by
  show D∈zrw (fun x=>zrx n d (pre++[(x:Int)]) (x+1)) (n - fr) fr↔_
  rw[zuS]
  constructor
  ·rintro⟨x,h1,h2,h3⟩
   obtain⟨T,h4,h5,h6⟩:=zyS.1 h3;refine⟨(x:Int)::T,by rw[h4]; simp,by simp[h5],Inc.cons.2 ⟨by omega,?_⟩⟩;rw[show((x:Int)+1).toNat=x+1 by omega]; exact h6
  ·rintro⟨T,h1,h2,h3⟩
   cases T with
   | nil=>simp at h2
   | cons v T=>
    obtain⟨h4,h5⟩:=Inc.cons.1 h3;refine⟨v.toNat,by omega,by omega,zyS.2 ⟨T,?_,by simpa using h2,?_⟩⟩
    ·rw[show((v.toNat:Nat):Int)=v by omega,h1]; simp
    ·rw[show v.toNat+1=(v+1).toNat by omega]; exact h5
theorem zyT{n:Nat}:∀{T:List Int} {fr:Nat},Inc n fr T->T.length<=n - fr
 | [],_,_=>Nat.zero_le _
 | v::T,fr,h=>by
  obtain⟨h1,h2⟩:=Inc.cons.1 h;have:=zyT h2
  simp only[List.length_cons]
  omega
theorem zyU{n:Nat}{D:List Int}:D∈zoh n↔Inc n 0 D:=by
 unfold zoh;rw[zuS]
 constructor
 ·rintro⟨s,_,_,h⟩
  obtain⟨T,h1,_,h2⟩:=zyS.1 h;rw[h1]; exact h2
 ·intro h;have:=zyT h;exact⟨D.length,Nat.zero_le _,by omega,zyS.2 ⟨D,rfl,rfl,h⟩⟩
def inD(D:List Int)(j:Nat):Bool:=decide ((j:Int)∈D)
def zyV(b:Nat):Nat->List Int
 | 0=>[]
 | p+1=>zyV b p++(if b.testBit p then [(p:Int)] else [])
def zyW(b:Nat):List Int:=zyV b 16
theorem zyX{b:Nat}{v:Int}:∀{p:Nat},v∈zyV b p↔0<=v/\v < p/\b.testBit v.toNat=true
 | 0=>⟨fun h=>(by cases h),fun h=>by omega⟩
 | p+1=>by
  show v∈zyV b p++_↔_
  rw[List.mem_append,zyX]
  constructor
  ·rintro (h | h)
   ·exact⟨h.1,by omega,h.2.2⟩
   ·by_cases hb:b.testBit p=true
    ·rw[if_pos hb,List.mem_singleton] at h;subst h; exact⟨by omega,by omega,hb⟩
    ·rw[if_neg hb] at h; cases h
  ·rintro⟨h1,h2,h3⟩
   by_cases hv:v=(p:Int)
   ·subst hv;have h4:b.testBit p=true:=h3;rw[if_pos h4]; exact .inr (List.mem_singleton.2 rfl)
   ·exact .inl ⟨h1,by omega,h3⟩
theorem zyY{b:Nat}:∀p:Nat,(zyV b p).Pairwise (· < ·)
 | 0=>.nil
 | p+1=>by
  show(zyV b p++_).Pairwise _
  rw[List.pairwise_append];refine⟨zyY p,?_,fun a ha c hc=>?_⟩
  ·split
   ·exact List.pairwise_singleton _ _
   ·exact .nil
  ·have:=zyX.1 ha
   split at hc
   ·rw[List.mem_singleton] at hc; omega
   ·cases hc
theorem zyZ{b p:Nat}(h:∀q,p<=q->b.testBit q=false):∀k,zyV b (p+k)=zyV b p
 | 0=>rfl
 | k+1=>by
  show zyV b (p+k)++(if b.testBit (p+k) then _ else _)=_
  rw[h (p+k) (by omega),zyZ h k]; simp
theorem zy0{b:Nat}:∀p,(zyV b p).length<=p
 | 0=>Nat.le_refl _
 | p+1=>by
  show(zyV b p++_).length<=_
  rw[List.length_append];have:=zy0 (b:=b) p
  split <;> simp <;> omega
theorem zy1(b p:Nat):(b:Int) / 2 ^ p=((b / 2 ^ p:Nat):Int):=by simp
theorem zjo{b p q:Nat}(h:b / 2 ^ p=0)(hq:p<=q):b.testBit q=false:=by
 have h1:b < 2 ^ p:=by
  rcases Nat.lt_or_ge b (2 ^ p) with h2 | h2
  ·exact h2
  ·have:=Nat.div_pos h2 (Nat.two_pow_pos p); omega
 exact Nat.testBit_lt_two_pow (Nat.lt_of_lt_of_le h1 (Nat.pow_le_pow_right (by omega) hq))
def bef:List Int->List Int->Bool
 | [],[]=>false
 | [],_::_=>true
 | _::_,[]=>false
 | x::a,y::b=>if x=y then bef a b else decide (x < y)
def shB(a b:List Int):Bool:=decide (a.length < b.length) || (decide (a.length=b.length) && bef a b)
theorem zy2:∀A:List Int,bef A A=false
 | []=>rfl
 | x::A=>by show(if x=x then bef A A else _)=_; rw[if_pos rfl,zy2 A]
theorem zy3:∀{A B:List Int},bef A B=true->bef B A=false
 | [],[],h=>by cases h
 | [],_::_,_=>rfl
 | _::_,[],h=>by cases h
 | x::A,y::B,h=>by
  have h':(if x=y then bef A B else decide (x < y))=true:=h
  show(if y=x then bef B A else decide (y < x))=false
  by_cases hxy:x=y
  ·rw[if_pos hxy] at h'; rw[if_pos hxy.symm]; exact zy3 h'
  ·rw[if_neg hxy] at h'; rw[if_neg fun h=>hxy h.symm];have:=of_decide_eq_true h';exact decide_eq_false (by omega)
theorem zy4:∀A B:List Int,A=B\/bef A B=true\/bef B A=true
 | [],[]=>.inl rfl
 | [],_::_=>.inr (.inl rfl)
 | _::_,[]=>.inr (.inr rfl)
 | x::A,y::B=>by
  show x::A=y::B\/(if x=y then bef A B else decide (x < y))=true\/(if y=x then bef B A else decide (y < x))=true
  by_cases hxy:x=y
  ·subst hxy;rw[if_pos rfl,if_pos rfl]
   rcases zy4 A B with h | h | h
   ·exact .inl (by rw[h])
   ·exact .inr (.inl h)
   ·exact .inr (.inr h)
  ·rw[if_neg hxy,if_neg fun h=>hxy h.symm]
   by_cases h:x < y
   ·exact .inr (.inl (decide_eq_true h))
   ·exact .inr (.inr (decide_eq_true (by omega)))
theorem zy5:∀{A B E:List Int},bef A B=true->bef B E=true->bef A E=true
 | [],[],_,h,_=>by cases h
 | [],_::_,[],_,h=>by cases h
 | [],_::_,_::_,_,_=>rfl
 | _::_,[],_,h,_=>by cases h
 | _::_,_::_,[],_,h=>by cases h
 | x::A,y::B,z::E,h1,h2=>by
  have h1':(if x=y then bef A B else decide (x < y))=true:=h1;have h2':(if y=z then bef B E else decide (y < z))=true:=h2
  show(if x=z then bef A E else decide (x < z))=true
  by_cases hxy:x=y
  ·rw[if_pos hxy] at h1'
   by_cases hyz:y=z
   ·rw[if_pos hyz] at h2';rw[if_pos (hxy.trans hyz)]; exact zy5 h1' h2'
   ·rw[if_neg hyz] at h2';rw[if_neg (by rw[hxy]; exact hyz)];have:=of_decide_eq_true h2';exact decide_eq_true (by omega)
  ·rw[if_neg hxy] at h1';have h3:=of_decide_eq_true h1'
   by_cases hyz:y=z
   ·rw[if_neg (by omega)]; exact decide_eq_true (by omega)
   ·rw[if_neg hyz] at h2';have:=of_decide_eq_true h2';rw[if_neg (by omega)]; exact decide_eq_true (by omega)
theorem zy6{A B:List Int}:shB A B=true↔A.length < B.length\/(A.length=B.length/\bef A B=true):=by
 unfold shB;rw[Bool.or_eq_true,Bool.and_eq_true,decide_eq_true_eq,decide_eq_true_eq]
theorem zy7{A B E:List Int}(h1:shB A B=true)(h2:shB B E=true):shB A E=true:=by
 rw[zy6] at h1 h2 ⊢
 rcases h1 with h1 | ⟨h1,h3⟩
 ·rcases h2 with h2 | ⟨h2,_⟩
  ·exact .inl (by omega)
  ·exact .inl (by omega)
 ·rcases h2 with h2 | ⟨h2,h4⟩
  ·exact .inl (by omega)
  ·exact .inr ⟨by omega,zy5 h3 h4⟩
theorem zy8(A B:List Int):A=B\/shB A B=true\/shB B A=true:=by
 rw[zy6,zy6]
 rcases Nat.lt_trichotomy A.length B.length with h | h | h
 ·exact .inr (.inl (.inl h))
 ·rcases zy4 A B with h1 | h1 | h1
  ·exact .inl h1
  ·exact .inr (.inl (.inr ⟨h,h1⟩))
  ·exact .inr (.inr (.inr ⟨h.symm,h1⟩))
 ·exact .inr (.inr (.inl h))
theorem zy9{A B:List Int}(h:shB A B=true):shB B A=false:=by
 unfold shB at h ⊢;rw[Bool.or_eq_true,Bool.and_eq_true,decide_eq_true_eq,decide_eq_true_eq] at h
 rcases h with h | ⟨h1,h2⟩
 ·rw[decide_eq_false (by omega),decide_eq_false (by omega)]; rfl
 ·rw[decide_eq_false (by omega),zy3 h2]; simp
theorem zza(x y:Int)(A B:List Int)(hxy:x < y):∀pre:List Int,bef (pre++x::A) (pre++y::B)=true
 | []=>by show(if x=y then _ else decide (x < y))=true; rw[if_neg (by omega),decide_eq_true hxy]
 | p::pre=>by show(if p=p then bef (pre++x::A) (pre++y::B) else _)=true; rw[if_pos rfl]; exact zza x y A B hxy pre
theorem zzb{α:Type}{R:α->α->Prop}(g:Nat->List α)(h1:∀x,(g x).Pairwise R)(h2:∀x y,x < y->∀a∈g x,∀b∈g y,R a b):∀e x,(zrw g e x).Pairwise R
 | 0,_=>.nil
 | e+1,x=>by
  show(g x++zrw g e (x+1)).Pairwise R
  rw[List.pairwise_append];refine⟨h1 x,zzb g h1 h2 e (x+1),fun a ha b hb=>?_⟩;obtain⟨j,h3,_,h4⟩:=(zuS g b e (x+1)).1 hb;exact h2 x j (by omega) a ha b h4
theorem zzc{n:Nat}:∀(d:Nat) (pre:List Int) (fr:Nat),(zrx n d pre fr).Pairwise fun a b=>bef a b=true
 | 0,pre,fr=>List.pairwise_singleton _ _
 | d+1,pre,fr=>zzb _ (fun x=>zzc d _ _) (fun x y hxy a ha b hb=>by
  obtain⟨T,h1,_,_⟩:=zyS.1 ha;obtain⟨T',h2,_,_⟩:=zyS.1 hb;rw[h1,h2,List.append_assoc,List.append_assoc]
  exact zza _ _ _ _ (by omega) pre) _ _
theorem zzd(n:Nat):(zoh n).Pairwise fun a b=>shB a b=true:=
 zzb _ (fun s=>(zzc s [] 0).imp_of_mem fun {a b} ha hb hab=>by
  have h1:=zu1 ha;have h2:=zu1 hb;unfold shB
  rw[hab,decide_eq_true (show a.length=b.length by omega)]; simp) (fun s s' hs a ha b hb=>by
  have h1:=zu1 ha;have h2:=zu1 hb;unfold shB
  rw[decide_eq_true (by omega)]; rfl) _ _
theorem zze{t:List Int->Bool}:∀{l:List (List Int)},l.Pairwise (fun a b=>shB a b=true)->∀{D D':List Int},l.find? t=some D->D'∈l->t D'=true->D'=D\/shB D D'=true
 | [],_,_,_,h,_,_=>by cases h
 | a::l,hp,D,D',h,hm,ht=>by
  rw[List.pairwise_cons] at hp;rw[List.find?_cons] at h
  cases hta:t a with
  | true=>
   rw[hta] at h;have:a=D:=oi h;subst this
   rcases List.mem_cons.1 hm with rfl | h1
   ·exact .inl rfl
   ·exact .inr (hp.1 _ h1)
  | false=>
   rw[hta] at h
   rcases List.mem_cons.1 hm with rfl | h1
   ·rw[hta] at ht; cases ht
   ·exact zze hp.2 h h1 ht
theorem zzf{n:Nat}{t:List Int->Bool}(h:∃D,Inc n 0 D/\t D=true):Inc n 0 (zry n t)/\t (zry n t)=true/\∀D,Inc n 0 D->t D=true->D=zry n t\/shB (zry n t) D=true:=by
 obtain⟨D0,h1,h2⟩:=h;unfold zry
 cases hf:(zoh n).find? t with
 | none=>exact absurd h2 (by have:=List.find?_eq_none.1 hf D0 (zyU.2 h1); simpa using this)
 | some D=>exact⟨zyU.1 (List.mem_of_find?_eq_some hf),List.find?_some hf,fun D' h3 h4=>zze (zzd n) hf (zyU.2 h3) h4⟩
theorem zzg:∀(n:Nat) (S:Nat->Bool),∃b,b < 2 ^ n/\∀q,q < n->b.testBit q=S q
 | 0,S=>⟨0,by decide,fun q hq=>by omega⟩
 | n+1,S=>by
  obtain⟨b,h1,h2⟩:=zzg n fun q=>S (q+1);refine⟨2 * b+(if S 0 then 1 else 0),?_,fun q hq=>?_⟩
  ·rw[Nat.pow_succ]; split <;> omega
  ·cases q with
   | zero=>
    rw[Nat.testBit_zero]
    cases S 0 with
    | true=>exact decide_eq_true (by simp only[if_true]; omega)
    | false=>exact decide_eq_false (by simp)
   | succ q=>
    rw[Nat.testBit_succ,<- h2 q (by omega)]
    congr 1
    split <;> omega
theorem zzh:∀{A B:List Int},A.Pairwise (· < ·)->B.Pairwise (· < ·)->(∀v,v∈A↔v∈B)->A=B
 | [],[],_,_,_=>rfl
 | [],b::B,_,_,h=>by have:=(h b).2 (List.mem_cons_self ..); cases this
 | a::A,[],_,_,h=>by have:=(h a).1 (List.mem_cons_self ..); cases this
 | a::A,b::B,hA,hB,h=>by
  rw[List.pairwise_cons] at hA hB
  have hab:a=b:=by
   rcases List.mem_cons.1 ((h a).1 (List.mem_cons_self ..)) with h1 | h1
   ·exact h1
   ·rcases List.mem_cons.1 ((h b).2 (List.mem_cons_self ..)) with h2 | h2
    ·exact h2.symm
    ·have:=hA.1 _ h2; have:=hB.1 _ h1; omega
  subst hab
  congr 1
  refine zzh hA.2 hB.2 fun v=>?_;have hv:=h v;rw[List.mem_cons,List.mem_cons] at hv
  constructor
  ·intro h1
   rcases hv.1 (.inr h1) with h2 | h2
   ·have:=hA.1 _ h1; omega
   ·exact h2
  ·intro h1
   rcases hv.2 (.inr h1) with h2 | h2
   ·have:=hB.1 _ h1; omega
   ·exact h2
theorem zzi{n b:Nat}(_hn:n<=16)(hb:b < 2 ^ n):Inc n 0 (zyW b):=
 ⟨zyY 16,fun v hv=>by
  obtain⟨h1,h2,h3⟩:=zyX.1 hv;refine⟨by omega,?_⟩
  by_cases h4:v < n
  ·exact h4
  ·have:=Nat.testBit_lt_two_pow (Nat.lt_of_lt_of_le hb (Nat.pow_le_pow_right (by omega) (show n<=v.toNat by omega)))
   rw[this] at h3; cases h3⟩
theorem zzj{n:Nat}{D:List Int}(hn:n<=16)(hD:Inc n 0 D):∃b,b < 2 ^ n/\zyW b=D:=by
 obtain⟨b,h1,h2⟩:=zzg n (inD D);refine⟨b,h1,zzh (zyY 16) hD.1 fun v=>?_⟩
 constructor
 ·intro hv;obtain⟨h3,h4⟩:=(zzi hn h1).2 v hv;obtain⟨_,_,h5⟩:=zyX.1 hv;rw[h2 _ (by omega)] at h5;have:=of_decide_eq_true h5
  rwa [show((v.toNat:Nat):Int)=v by omega] at this
 ·intro hv;have h3:=hD.2 v hv;refine zyX.2 ⟨by omega,by omega,?_⟩;rw[h2 _ (by omega)];exact decide_eq_true (by rw[show((v.toNat:Nat):Int)=v by omega]; exact hv)
theorem zzk{l:List Int}(h:l ≠ [])(hl:l.length<=1048577):ztW l=some (zrU l):=by
 unfold ztW
 cases l with
 | nil=>exact absurd rfl h
 | cons x l=>
  rw[if_neg (by rw[List.length_cons]; omega),zrK rfl,obs];refine(zrT (l:=x::l) (fun s a=>min s a) (fun d s k=>ztV (x::l) d s k) (fun s=>some s) (fun d k s a hk=>?_) (fun d s=>?_) _ 0 x (Nat.zero_le _) (by omega)).trans ?_
  ·have hkl:=(List.getElem?_eq_some_iff.1 hk).1
   show ztV (x::l) (d+1) s (k:Int)=_
   rw[ztV,if_pos (by omega),zrI hk,obs]
   by_cases hc:a < s
   ·rw[if_pos hc,zqr (fI (by omega)),Int.min_eq_right (by omega)]
   ·rw[if_neg hc,zqr (fI (by omega)),Int.min_eq_left (by omega)]
  ·show ztV (x::l) (d+1) s _=_
   rw[ztV,if_neg (Int.lt_irrefl _)]
  ·rw[List.drop_zero]
   show some (l.foldl min (min x x))=_
   rw[Int.min_self]; rfl
theorem zzl{l:List Int}(h:l ≠ [])(hl:l.length<=1048577):ztY l=some (zrV l):=by
 unfold ztY
 cases l with
 | nil=>exact absurd rfl h
 | cons x l=>
  rw[if_neg (by rw[List.length_cons]; omega),zrK rfl,obs];refine(zrT (l:=x::l) (fun s a=>max s a) (fun d s k=>ztX (x::l) d s k) (fun s=>some s) (fun d k s a hk=>?_) (fun d s=>?_) _ 1 x (by rw[List.length_cons]; omega) (by rw[List.length_cons]; omega)).trans ?_
  ·have hkl:=(List.getElem?_eq_some_iff.1 hk).1
   show ztX (x::l) (d+1) s (k:Int)=_
   rw[ztX,if_pos (by omega),zrI hk,obs,zqr (fI (by omega))]
  ·show ztX (x::l) (d+1) s _=_
   rw[ztX,if_neg (Int.lt_irrefl _)]
  ·rfl
theorem zzm{l:List Int}(h:l ≠ []):zrU l∈l/\∀y∈l,zrU l<=y:=by
 cases l with
 | nil=>exact absurd rfl h
 | cons x l=>
  obtain⟨h1,h2,h3⟩:=zrW l x;refine⟨?_,fun y hy=>?_⟩
  ·rcases h1 with h1 | h1
   ·show l.foldl min x∈_; rw[h1]; exact List.mem_cons_self ..
   ·exact List.mem_cons_of_mem _ h1
  ·rcases List.mem_cons.1 hy with rfl | hy
   ·exact h2
   ·exact h3 y hy
theorem zzn{l:List Int}(h:l ≠ []):zrV l∈l/\∀y∈l,y<=zrV l:=by
 cases l with
 | nil=>exact absurd rfl h
 | cons x l=>
  obtain⟨h1,h2,h3⟩:=zrX l x;refine⟨?_,fun y hy=>?_⟩
  ·rcases h1 with h1 | h1
   ·show l.foldl max x∈_; rw[h1]; exact List.mem_cons_self ..
   ·exact List.mem_cons_of_mem _ h1
  ·rcases List.mem_cons.1 hy with rfl | hy
   ·exact h2
   ·exact h3 y hy
def bnd(s:Soc)(g:Int->Int):Rg:={ Lo:=zrU ((zyJ (loN s) (hiN s)).map g),Hi:=zrV ((zyJ (loN s) (hiN s)).map g) }
def zzo(s:Soc)(out:List Int)(N:Int):Oc:={ need:=N,calls:=mk5 (zx5 s.Members (zyw s.Members.length out) N).1 }
theorem zzp{s:Soc}(hs:zyi s):(zyJ (loN s) (hiN s)).length<=121:=by
 have:=zyN hs;unfold zyJ; rw[List.length_map,List.length_range]; omega
theorem zzq{s:Soc}(hs:zyi s):zyJ (loN s) (hiN s) ≠ []:=fun h=>by
 have:=zyN hs;have:loN s∈zyJ (loN s) (hiN s):=zyK.2 (by omega)
 rw[h] at this; cases this
theorem zzr{s:Soc}(hs:zyi s)(g:Int->Int):(∃N,(loN s<=N/\N<=hiN s)/\g N=(bnd s g).Lo)/\(∃N,(loN s<=N/\N<=hiN s)/\g N=(bnd s g).Hi)/\∀N,loN s<=N/\N<=hiN s->(bnd s g).Lo<=g N/\g N<=(bnd s g).Hi:=by
 have hne:(zyJ (loN s) (hiN s)).map g ≠ []:=fun h=>zzq hs (List.map_eq_nil_iff.1 h);obtain⟨a1,a2⟩:=zzm hne;obtain⟨b1,b2⟩:=zzn hne;obtain⟨x,hx,ex⟩:=List.mem_map.1 a1;obtain⟨y,hy,ey⟩:=List.mem_map.1 b1;exact⟨⟨x,zyK.1 hx,ex⟩,⟨y,zyK.1 hy,ey⟩,fun N hN=>⟨a2 _ (List.mem_map.2 ⟨N,zyK.2 hN,rfl⟩),b2 _ (List.mem_map.2 ⟨N,zyK.2 hN,rfl⟩)⟩⟩
theorem zzs{s:Soc}(hs:zyi s):bnd s (fun N=>N)={ Lo:=loN s,Hi:=hiN s }:=by
 obtain⟨⟨x,hx,ex⟩,⟨y,hy,ey⟩,h⟩:=zzr hs fun N=>N;have hb:=zyN hs;have h1:=(h (loN s) ⟨Int.le_refl _,hb.2.1⟩).1;have h2:=(h (hiN s) ⟨hb.2.1,Int.le_refl _⟩).2
 have e1:(bnd s fun N=>N).Lo=loN s:=by omega
 have e2:(bnd s fun N=>N).Hi=hiN s:=by omega
 revert e1 e2
 generalize bnd s (fun N=>N)=r;intro e1 e2
 cases r
 exact congr (congrArg Rg.mk e1) e2
theorem zzt{s:Soc}(hs:zyi s)(out:List Int){N:Int}(hN:0<=N/\N<=1000000):ztS (zyx s out) N=some (zzo s out N):=zx7 (w:=zyx s out) hs.msOk rfl (zyy s.Members out) hN
theorem zzu{s:Soc}(hs:zyi s){out:List Int}{q:Qu}{g:Int->Int}(hg:∀N,loN s<=N->N<=hiN s->q.ask (zzo s out N)=some (g N)) :
  ∀(L:List Int) (acc:List Int),(∀N∈L,loN s<=N/\N<=hiN s)->acc.length+L.length<=1000->acc++L.map g ≠ []->ztZ (zyx s out) q L acc=some { Lo:=zrU (acc++L.map g),Hi:=zrV (acc++L.map g) }
 | [],acc,_,hl,hne=>by
  rw[List.map_nil,List.append_nil] at hne ⊢;rw[ztZ,zzk hne (by omega),obs,zzl hne (by omega),obs]
 | N::L,acc,hN,hl,hne=>by
  have h1:=hN N (List.mem_cons_self ..);have hb:=zyN hs;rw[List.length_cons] at hl;rw[ztZ,zzt hs out (by omega),obs,hg N h1.1 h1.2,obs,zqr (by omega),zzu hs hg L (acc++[g N]) (fun x hx=>hN x (List.mem_cons_of_mem _ hx)) (by rw[List.length_append]; show acc.length+1+_<=_; omega) (by simp)];rw[List.map_cons,List.append_assoc]; rfl
theorem zzv{s:Soc}(hs:zyi s){out:List Int}{q:Qu}{g:Int->Int}(hg:∀N,loN s<=N->N<=hiN s->q.ask (zzo s out N)=some (g N)):zt0 (zyx s out) q=some (bnd s g):=by
 unfold zt0;rw[show(zyx s out).s=s from rfl,zyR hs,obs];have hl:=zzp hs;exact zzu hs hg _ [] (fun N hN=>zyK.1 hN) (by show 0+_<=_; omega) (fun h=>zzq hs (List.map_eq_nil_iff.1 h))
theorem zzw{s:Soc}(hs:zyi s):zt8 s=some ({ Lo:=loN s,Hi:=hiN s },0):=by
 unfold zt8;rw[zyG hs (Nat.zero_le _) (zyI _),obs,if_pos rfl,zzv hs (g:=fun N=>N) (fun N _ _=>rfl),obs,zzs hs]
theorem zzx{s:Soc}(hs:zyi s)(out:List Int){N:Int}(hN:0<=N/\N<=1000000):ztH (zzo s out N)=some (zx5 s.Members (zyw s.Members.length out) N).2:=by
 have hsup:=zyy s.Members out;have h1:=zyb hs.msOk hsup hN
 have hb:Bd 1000000000000 (zx5 s.Members (zyw s.Members.length out) N).1:=fun i hi=>by have:=zye hs.msOk hsup hN hi; omega
 have hb5:=fun i hi=>zye hs.msOk hsup hN (i:=i) hi;have b0:=hb5 0 (by omega); have b1:=hb5 1 (by omega); have b2:=hb5 2 (by omega); have b3:=hb5 3 (by omega); have b4:=hb5 4 (by omega)
 have hS:0<=S5 (zx5 s.Members (zyw s.Members.length out) N).1/\S5 (zx5 s.Members (zyw s.Members.length out) N).1<=500000:=by unfold S5; omega
 unfold ztH
 show(ztw (mk5 (zx5 s.Members (zyw s.Members.length out) N).1)).bind _=_
 rw[zwU hb,obs,zqr (fI (by show -9223372036854775808<=N - S5 _/\N - S5 _ < _; omega))];exact congrArg some (show N - S5 (zx5 s.Members (zyw s.Members.length out) N).1=_ by omega)
def zzy(s:Soc)(out:List Int)(N:Int):List Int:=(l5 (zx5 s.Members (zyw s.Members.length out) N).1).take s.Members.length
theorem zzz{s:Soc}(out:List Int)(N:Int)(h5:s.Members.length<=5):(zzy s out N).length=s.Members.length:=by
 unfold zzy; rw[List.length_take]; show min _ 5=_; omega
theorem zzA{s:Soc}(hs:zyi s){N:Int}(hN:0<=N/\N<=300000):zua s N=some (zzy s [] N,(zx5 s.Members (zyw s.Members.length []) N).2,0):=by
 have h5:=hs.m5;unfold zua;rw[zyG hs (Nat.zero_le _) (zyI _),obs,if_pos rfl,zyl.some_of hN,obs,if_pos rfl]
 show(ztS (zyx s []) N).bind _=_
 rw[zzt hs [] (by omega),obs,zqr (by omega)]
 have e:zt9 ((([(zzo s [] N).calls.p0,(zzo s [] N).calls.p1,(zzo s [] N).calls.p2,(zzo s [] N).calls.p3,(zzo s [] N).calls.p4]:List Int).take (Int.toNat (s.Members.length:Int))).drop (Int.toNat (0:Int)))=some (zzy s [] N):=by
  have hl:=zzz [] N h5
  show zt9 (zzy s [] N)=_
  unfold zt9;rw[zqr (by rw[hl]; show 0+_<=_; omega)]; rfl
 rw[e,obs,zzx hs [] (by omega),obs]
theorem zzB{s:Soc}(hs:zyi s)(out:List Int)(N:Int){k:Nat}(hk:k < s.Members.length):ztT (zzo s out N) (k:Int)=some ((zx5 s.Members (zyw s.Members.length out) N).1 k):=by
 have h5:=hs.m5;unfold ztT
 show(idx (l5 (zx5 s.Members (zyw s.Members.length out) N).1) (k:Int)).bind _=_
 rw[zwM (by omega),obs]
def zzC(s:Soc)(out:List Int):List Rg:=(List.range s.Members.length).map fun k=>bnd s fun N=>(zx5 s.Members (zyw s.Members.length out) N).1 k
theorem zzD{s:Soc}(out:List Int):(zzC s out).length=s.Members.length:=by unfold zzC; rw[List.length_map,List.length_range]
theorem zzE{s:Soc}(out:List Int){k:Nat}(hk:k < s.Members.length):(zzC s out)[k]? = some (bnd s fun N=>(zx5 s.Members (zyw s.Members.length out) N).1 k):=by
 unfold zzC; rw[List.getElem?_map,List.getElem?_range hk]; rfl
theorem zzF{s:Soc}(hs:zyi s){out:List Int}(hl:zrS out)(ho:zyC s.Members.length out):zuc s out=some (zzC s out,0):=by
 have h5:=hs.m5;unfold zuc;rw[zyG hs hl ho,obs,if_pos rfl];refine zwK (n:=s.Members.length) (fun d acc x=>zub s (zyx s out,0) d acc x) (fun k=>(zzC s out).take k) (fun d k hk=>?_) (fun d=>?_) (s.Members.length+1) 0 (by omega) (by omega)
 ·show zub s (zyx s out,0) (d+1) _ _=_
  have hb:ztU (k:Int)=some (fun o=>ztT o (k:Int)):=rfl;rw[zub,if_pos (by omega),hb,obs]
  show(zt0 (zyx s out) _).bind _=_
  rw[zzv hs (g:=fun N=>(zx5 s.Members (zyw s.Members.length out) N).1 k) (fun N _ _=>zzB hs out N hk),obs,zqr (by rw[List.length_take]; omega),zqr (fI (by omega))];rw[List.take_add_one,zzE out hk]; rfl
 ·show zub s (zyx s out,0) (d+1) _ _=_
  rw[zub,if_neg (Int.lt_irrefl _),List.take_of_length_le (by rw[zzD]; exact Nat.le_refl _)]
theorem zzG{s:Soc}(hs:zyi s):zud s=some (zzC s [],0):=by
 unfold zud;rw[zzF hs (Nat.zero_le _) (zyI _),obs]
def zzH(s:Soc)(out:List Int)(N:Int):Int:=(zx5 s.Members (zyw s.Members.length out) N).2
theorem zzI{s:Soc}(hs:zyi s):zue s=some (bnd s (zzH s []),0):=by
 have hb:=zyN hs;unfold zue;rw[zyG hs (Nat.zero_le _) (zyI _),obs,if_pos rfl,zzv hs (g:=zzH s []) (fun N h1 h2=>zzx hs [] (by omega)),obs]
theorem zzJ{s:Soc}(hs:zyi s)(out:List Int):zt1 (zyx s out)=some (hiN s):=by
 unfold zt1;rw[zzv hs (g:=fun N=>N) (fun N _ _=>rfl),obs,zzs hs]
theorem zzK(a:Mb){r t:Int}(hu:0<=unN a)(h:r<=t):min (unN a * r / 100) a.Most<=min (unN a * t / 100) a.Most:=by
 have h1:unN a * r<=unN a * t:=Int.mul_le_mul_of_nonneg_left h hu;have h2:=Int.ediv_le_ediv (c:=100) (by omega) h1
 omega
def brN(ms:List Mb)(rate:Int):Int:=zw2 (ms.map fun a=>min (unN a * rate / 100) a.Most)
theorem zzL{ms:List Mb}(hm:∀a∈ms,zxL a){r:Int}(hr:0<=r/\r<=10000):0<=brN ms r/\brN ms r<=100000 * ms.length:=by
 induction ms with
 | nil=>exact⟨Int.le_refl _,Int.le_refl _⟩
 | cons a ms ih=>
  have ih:=ih fun a ha=>hm a (List.mem_cons_of_mem _ ha);have ha:=hm a (List.mem_cons_self ..);have hu:=zxN ha;have hmo:=ha.most;have h1:0<=unN a * r / 100:=Int.ediv_nonneg (Int.mul_nonneg (by omega) hr.1) (by omega);have e:brN (a::ms) r=min (unN a * r / 100) a.Most+brN ms r:=rfl;rw[e,List.length_cons]; omega
theorem zzM{ms:List Mb}(hm:∀a∈ms,zxL a){r t:Int}(h:r<=t):brN ms r<=brN ms t:=by
 induction ms with
 | nil=>exact Int.le_refl _
 | cons a ms ih=>
  have ih:=ih fun a ha=>hm a (List.mem_cons_of_mem _ ha);have h2:=zzK a (by have:=zxN (hm a (List.mem_cons_self ..)); omega) h
  show min _ _+brN ms r<=min _ _+brN ms t
  omega
theorem zzN{ms:List Mb}{r:Int}{k:Nat}{a:Mb}(h:ms[k]? = some a):brN (ms.take (k+1)) r=brN (ms.take k) r+min (unN a * r / 100) a.Most:=by
 unfold brN;rw[List.take_add_one,h,List.map_append,zw3]
 show _+(min (unN a * r / 100) a.Most+0)=_
 rw[Int.add_zero]
theorem zzO{s:Soc}(hs:zyi s)(out:List Int){r:Int}(hr:0<=r/\r<=10000):zt3 (zyx s out) r=some (brN s.Members r):=by
 have h5:=hs.m5;unfold zt3;refine zwK (n:=s.Members.length) (fun d acc x=>zt2 (zyx s out) r d acc x) (fun k=>brN (s.Members.take k) r) (fun d k hk=>?_) (fun d=>?_) (s.Members.length+1) 0 (by omega) (by omega)
 ·have hg:=List.getElem?_eq_getElem hk;have ha:=hs.full.ms _ (List.getElem_mem hk);have hu:=zxN ha;have hmo:=ha.most;have hb:=zzL (ms:=s.Members.take k) (fun a ha=>hs.full.ms a (List.mem_of_mem_take ha)) hr
  have hlk:(s.Members.take k).length<=5:=by rw[List.length_take]; omega
  have hm:=zxl (a:=unN s.Members[k]) (x:=r) (A:=10000) (X:=10000) (by omega) hr;have hq:0<=unN s.Members[k] * r / 100:=Int.ediv_nonneg hm.1 (by omega)
  have hun:ztJ s.Members[k]=some (unN s.Members[k]):=by
   have h1:=ha.sum; have h2:=ha.cls;unfold unN at hu;unfold ztJ unN;rw[zqr (by omega),zqr (by omega),zqr (fI (by omega))]
  show zt2 (zyx s out) r (d+1) _ _=_
  rw[zt2,if_pos (show(k:Int) < ((zyx s out).s.Members.length:Int) by show(k:Int) < (s.Members.length:Int); omega),show idx (zyx s out).s.Members (k:Int)=some s.Members[k] from zrI hg,obs,hun,obs,zqr (by omega),zqr hr.1,zqr (fI (by omega)),zqr hm.1,zqr (by omega),zqr (fI (by omega)),zqr (fI (by omega)),zqr (fI (by omega)),zzN hg]
 ·show zt2 (zyx s out) r (d+1) _ _=_
  rw[zt2,if_neg (show ¬ ((s.Members.length:Nat):Int) < ((zyx s out).s.Members.length:Int) from Int.lt_irrefl _),List.take_length]
def zzP(s:Soc)(r:Int):Bool:=decide (hiN s<=brN s.Members r)
theorem zzQ{s:Soc}(hs:zyi s){r:Int}(hr:0<=r/\r<=10000):zt4 (zyx s []) r=some (zzP s r):=by
 unfold zt4;rw[zzO hs [] hr,obs,zzJ hs,obs]; rfl
theorem zzR{p:Int->Option Bool}{f:Nat->Bool}{n:Nat}(hn:n<=1000000)(hp:∀m,m < n->p (m:Int)=some (f m))(hm:∀m k,m<=k->k < n->f m=true->f k=true):∀d (i j:Nat),i<=j->j<=n->j - i < d->(∀m,m < i->f m=false)->(∀m,j<=m->m < n->f m=true) ->
  ∃k:Nat,zt6 p d (i:Int) (j:Int)=some (k:Int)/\k<=n/\(∀m,m < k->f m=false)/\(∀m,k<=m->m < n->f m=true)
 | 0,_,_,_,_,h,_,_=>by omega
 | d+1,i,j,hij,hj,h,hlo,hhi=>by
  rw[zt6]
  by_cases hc:i < j
  ·obtain⟨md,hmd⟩:∃md:Nat,md=(i+j) / 2:=⟨_,rfl⟩
   have hf:zl6 .u64 ((i:Int)+j):=show _/\_ by constructor <;> omega
   have e:zmb .i64 (zmb .u64 ((i:Int)+j) / 2)=(md:Int):=by
    rw[wz hf,wz (fI (by omega))]; omega
   rw[if_pos (by omega),zqr (fI (by omega)),zqr (by rw[wz hf]; omega),zqr (by omega),zqr (by omega),zqr (by rw[wz hf]; exact show _/\_ by constructor <;> omega),e,hp md (by omega),obs]
   cases hq:f md with
   | true=>
    rw[if_pos rfl];exact zzR hn hp hm d i md (by omega) (by omega) (by omega) hlo fun m h1 h2=>hm md m h1 h2 hq
   | false=>
    rw[if_neg (by decide),zqr (fI (by omega)),show(md:Int)+1=((md+1:Nat):Int) by omega]
    exact zzR hn hp hm d (md+1) j (by omega) hj (by omega) (fun m h1=>by
     cases hq2:f m with
     | false=>rfl
     | true=>have:=hm m md (by omega) (by omega) hq2; rw[hq] at this; cases this) hhi
  ·rw[if_neg (by omega)];exact⟨i,rfl,by omega,hlo,fun m h1 h2=>hhi m (by omega) h2⟩
theorem zzS{s:Soc}(hs:zyi s):∃k:Nat,zt7 10001 (fun r=>zt4 (zyx s []) r)=some (k:Int)/\k<=10001/\(∀m:Nat,m < k->zzP s m=false)/\(∀m:Nat,k<=m->m < 10001->zzP s m=true):=by
 unfold zt7
 exact zzR (n:=10001) (f:=fun m=>zzP s (m:Int)) (by omega) (fun m hm=>zzQ hs (by omega)) (fun m k h1 h2 h3=>by
  have h4:hiN s<=brN s.Members (m:Int):=of_decide_eq_true h3;have h5:=zzM hs.full.ms (r:=(m:Int)) (t:=(k:Int)) (by omega)
  exact decide_eq_true (by omega)) _ 0 10001 (by omega) (by omega) (by omega) (fun m h=>by omega) (fun m h1 h2=>by omega)
theorem zzT{s:Soc}(hs:zyi s):(∃k:Nat,zuf s=some ((k:Int),0)/\k<=10000/\hiN s<=brN s.Members (k:Int)/\∀m:Nat,m < k->brN s.Members (m:Int) < hiN s)\/(zuf s=some (0,10)/\∀m:Nat,m<=10000->brN s.Members (m:Int) < hiN s):=by
 obtain⟨k,h1,h2,h3,h4⟩:=zzS hs
 have lt:∀m:Nat,zzP s (m:Int)=false->brN s.Members (m:Int) < hiN s:=fun m h=>by
  have:=of_decide_eq_false h; omega
 unfold zuf;rw[zyG hs (Nat.zero_le _) (zyI _),obs,if_pos rfl]
 show(∃k':Nat,(zt7 10001 (fun r=>zt4 (zyx s []) r)).bind _=_/\_)\/((zt7 10001 (fun r=>zt4 (zyx s []) r)).bind _=_/\_)
 rw[h1,obs]
 by_cases hk:k<=10000
 ·rw[if_neg (by omega)];exact .inl ⟨k,rfl,hk,of_decide_eq_true (h4 k (Nat.le_refl _) (by omega)),fun m hm=>lt m (h3 m hm)⟩
 ·rw[if_pos (by omega)];exact .inr ⟨rfl,fun m hm=>lt m (h3 m (by omega))⟩
def zzU(s:Soc)(l:List Int):Bool:=decide (0 < (bnd s (zzH s l)).Hi)
theorem zzV{s:Soc}(hs:zyi s)(l:List Int):zzU s l=true↔S5 (mF s.Members (zyw s.Members.length l)) < hiN s:=by
 unfold zzU;rw[decide_eq_true_iff];have hb:=zyN hs;obtain⟨_,⟨y,hy,ey⟩,h⟩:=zzr hs (zzH s l);have e:∀N,loN s<=N/\N<=hiN s->zzH s l N=max 0 (N - S5 (mF s.Members (zyw s.Members.length l))):=fun N hN=>zyg hs.msOk (zyy s.Members l) (by omega);have h1:=(h (hiN s) ⟨hb.2.1,Int.le_refl _⟩).2;rw[e _ ⟨hb.2.1,Int.le_refl _⟩] at h1;rw[e y hy] at ey
 omega
theorem zzW{s:Soc}(hs:zyi s){l:List Int}(hl:zrS l):zt5 s l=some (zzU s l):=by
 have hb:=zyN hs;unfold zt5;rw[zyB hl hs.m5,obs,zzv hs (g:=zzH s l) (fun N h1 h2=>zzx hs l (by omega)),obs]; rfl
theorem zzX{s:Soc}(hs:zyi s)(h:hiN s=0):zug s=some ([],7):=by
 unfold zug;rw[zyG hs (Nat.zero_le _) (zyI _),obs,if_pos rfl,zzJ hs,obs,if_pos h]
theorem zzY{s:Soc}(hs:zyi s)(h:hiN s ≠ 0):zug s=some (zry s.Members.length (zzU s),0):=by
 have h5:=hs.m5
 have hlen:∀L∈zoh s.Members.length,zrS L:=fun L hL=>by have:=zyT (zyU.1 hL); unfold zrS; omega
 unfold zug;rw[zyG hs (Nat.zero_le _) (zyI _),obs,if_pos rfl,zzJ hs,obs,if_neg h];unfold zrz;rw[zqr ⟨by omega,by omega,fun L hL=>by show(zt5 s L).isSome=true; rw[zzW hs (hlen L hL)]; rfl⟩,obs];refine congrArg (fun x=>some (x,(0:Int))) ?_
 have e:(zoh s.Members.length).find? (fun L=>((zt5 s L)).getD false)=(zoh s.Members.length).find? (zzU s):=by
  have:∀l:List (List Int),(∀L∈l,zrS L)->l.find? (fun L=>((zt5 s L)).getD false)=l.find? (zzU s):=by
   intro l
   induction l with
   | nil=>intro _; rfl
   | cons L l ih=>
    intro hl
    have h1:(zt5 s L).getD false=zzU s L:=by rw[zzW hs (hl L (List.mem_cons_self ..))]; rfl
    rw[List.find?_cons,List.find?_cons,h1,ih fun L hL=>hl L (List.mem_cons_of_mem _ hL)]
  exact this _ hlen
 show zry s.Members.length (fun L=>((zt5 s L)).getD false)=_
 unfold zry;rw[e]
theorem wu{n:Nat}(h:n<=64):zmb .u64 (n:Int)=(n:Int):=wz (show(0:Int)<=n/\(n:Int) < 18446744073709551616 by omega)
theorem zzZ{b:Nat}(hb:b < 65536):∀(d p:Nat) (acc:List Int),p<=16->16 - p < d->acc=zyV b p->zsI (b:Int) d acc (p:Int)=some (zyW b)
 | 0,_,_,_,h,_=>by omega
 | d+1,p,acc,hp,h,ha=>by
  have hle:b / 2 ^ p<=b:=Nat.div_le_self _ _;rw[zsI,wu (show p<=64 by omega)]
  have hq:(b:Int) / 2 ^ ((p:Int)).toNat=((b / 2 ^ p:Nat):Int):=by rw[Int.toNat_natCast]; simp
  rw[hq]
  clear hq
  have hl:=zy0 (b:=b) p;have hbit:b.testBit p=decide (b / 2 ^ p % 2=1):=Nat.testBit_eq_decide_div_mod_eq ..
  have h16:p=16->b / 2 ^ p=0:=fun he=>by subst he; exact Nat.div_eq_of_lt (by omega)
  have h0':b / 2 ^ p=0->zyV b p=zyW b:=fun h9=>by
   have:=zyZ (b:=b) (p:=p) (fun q hq=>zjo h9 hq) (16 - p);rw[show p+(16 - p)=16 by omega] at this;exact this.symm
  generalize b / 2 ^ p=q at hle hbit h16 h0' ⊢;rw[zqr (by omega),zqr (by omega),zqr (by omega),zqr (fI (by omega))]
  by_cases h0:0 < q
  ·have hp16:p < 16:=by
    rcases Nat.lt_or_ge p 16 with h1 | h1
    ·exact h1
    ·have:=h16 (by omega); omega
   rw[if_pos (by omega),zqr (by omega),zqr (by omega),zqr (by omega),zqr (fI (by omega)),zqr (by omega),zqr (by omega),zqr (fI (by omega))]
   by_cases h1:q % 2=1
   ·rw[if_pos (by omega),zqr (show acc.length < 1048576 by rw[ha]; omega),zqr (fI (by omega)),show(p:Int)+1=((p+1:Nat):Int) by omega];refine zzZ hb d (p+1) _ (by omega) (by omega) ?_
    show _=zyV b p++(if b.testBit p then [(p:Int)] else [])
    rw[ha,hbit,h1]; rfl
   ·rw[if_neg (by omega),zqr (fI (by omega)),show(p:Int)+1=((p+1:Nat):Int) by omega];refine zzZ hb d (p+1) _ (by omega) (by omega) ?_
    show _=zyV b p++(if b.testBit p then [(p:Int)] else [])
    rw[ha,hbit,decide_eq_false h1]; simp
  ·rw[if_neg (by omega),ha];exact congrArg some (h0' (by omega))
theorem zz0{b:Nat}(hb:b < 65536):zsJ (b:Int)=some (zyW b):=zzZ hb 1000000 0 [] (Nat.zero_le _) (by omega) rfl
theorem zz1{a b:List Int}(hl:a.length<=1000):∀(d k:Nat),k<=a.length->a.length - k < d->zsK a b d (k:Int)=some (bef (a.drop k) (b.drop k))
 | 0,_,_,h=>by omega
 | d+1,k,hk,h=>by
  rw[zsK]
  by_cases hka:k < a.length
  ·rw[if_pos (by omega)];have da:=List.drop_eq_getElem_cons hka;have ga:=List.getElem?_eq_getElem hka
   by_cases hkb:k < b.length
   ·have db:=List.drop_eq_getElem_cons hkb;have gb:=List.getElem?_eq_getElem hkb;rw[if_pos (by omega),zrI ga,obs,zrI gb,obs,da,db];unfold bef
    by_cases he:a[k]=b[k]
    ·rw[if_pos he,if_pos he,zqr (fI (by omega)),show(k:Int)+1=((k+1:Nat):Int) by omega];exact zz1 hl d (k+1) (by omega) (by omega)
    ·rw[if_neg he,if_neg he,obs,obs]
   ·rw[if_neg (by omega),da,List.drop_eq_nil_of_le (show b.length<=k by omega),decide_eq_false (by omega)]; rfl
  ·rw[if_neg (by omega),List.drop_eq_nil_of_le (show a.length<=k by omega)]
   by_cases hkb:k < b.length
   ·rw[List.drop_eq_getElem_cons hkb,decide_eq_true (by omega)]; rfl
   ·rw[List.drop_eq_nil_of_le (show b.length<=k by omega),decide_eq_false (by omega)]; rfl
theorem zz2{a b:List Int}(hl:a.length<=1000):zsL a b=some (bef a b):=zz1 hl (a.length+1) 0 (Nat.zero_le _) (by omega)
theorem zz3{a b:List Int}(hl:a.length<=1000):zsM a b=some (shB a b):=by
 unfold zsM shB
 by_cases h1:a.length < b.length
 ·rw[if_pos (by omega),decide_eq_true h1]; rfl
 ·rw[if_neg (by omega),decide_eq_false h1]
  by_cases h2:a.length=b.length
  ·rw[if_pos (by omega),zz2 hl,decide_eq_true h2]; simp
  ·rw[if_neg (by omega),decide_eq_false h2]; simp
theorem zz4{b:Nat}:(zyW b).length<=16:=zy0 16
theorem zz5{a b:List Int}(hl:a.length=b.length):(bef a b=false/\bef b a=false)↔a=b:=by
 constructor
 ·rintro⟨h1,h2⟩
  rcases zy4 a b with h | h | h
  ·exact h
  ·rw[h1] at h; cases h
  ·rw[h2] at h; cases h
 ·rintro rfl; exact⟨zy2 _,zy2 _⟩
theorem zz6{a b:List Int}(ha:a.length<=1000)(hb:b.length<=1000):zsP a b=some (decide (a=b)):=by
 unfold zsP
 by_cases hl:a.length=b.length
 ·rw[if_pos (by omega),zz2 ha,obs];have h:=zz5 hl
  cases h1:bef a b with
  | true=>rw[if_pos rfl,decide_eq_false fun he=>by have:=(h.2 he).1; rw[h1] at this; cases this]
  | false=>
   rw[if_neg (by decide),zz2 hb,obs]
   cases h2:bef b a with
   | true=>rw[decide_eq_false fun he=>by have:=(h.2 he).2; rw[h2] at this; cases this]; rfl
   | false=>rw[decide_eq_true (h.1 ⟨h1,h2⟩)]; rfl
 ·rw[if_neg (by omega),decide_eq_false fun he=>hl (by rw[he])]
def zz7(s:Soc):Prop:=s.Members.length<=8/\s.Losses.length<=6
theorem zz8{s:Soc}:Ev (zul s) (zz7 s):=by
 unfold zul zz7
 by_cases h:(s.Members.length:Int)<=8
 ·rw[if_pos h]; exact Ev.dec (by omega)
 ·rw[if_neg h]; exact Ev.ff (by omega)
theorem zz9{s:Soc}(h:zz7 s):zuk s=some s:=by
 unfold zuk
 show zuj s 1000000 [] [] s.Treaty.Lo s.Treaty.Hi s.Reserve 0=_
 obtain⟨h1,h2⟩:=h
 have k1:zui s s.Members 1000000 [] s.Treaty.Lo s.Treaty.Hi s.Reserve 0=some s:=by
  refine(zrO (l:=s.Losses) (fun r=>r) (F:=fun d acc x=>zui s s.Members d acc s.Treaty.Lo s.Treaty.Hi s.Reserve x) (fun acc=>some ({ Members:=s.Members,Losses:=acc,Treaty:=s.Treaty,Reserve:=s.Reserve }:Soc)) (fun d k acc a hk ha=>?_) (fun d acc=>?_) (d:=1000000) (by omega)).trans (by rw[List.map_id'])
  ·have hkl:=(List.getElem?_eq_some_iff.1 hk).1
   show zui s s.Members (d+1) _ _ _ _ _=_
   rw[zui,if_pos (by omega),zrI hk,obs]
   show(some a).bind _=_
   rw[obs,zqr (by omega),zqr (fI (by omega))]
  ·show zui s s.Members (d+1) _ _ _ _ _=_
   rw[zui,if_neg (Int.lt_irrefl _)]
 refine(zrO (l:=s.Members) (fun r=>r) (F:=fun d acc x=>zuj s d acc [] s.Treaty.Lo s.Treaty.Hi s.Reserve x) (fun acc=>zui s acc 1000000 [] s.Treaty.Lo s.Treaty.Hi s.Reserve 0) (fun d k acc a hk ha=>?_) (fun d acc=>?_) (d:=1000000) (by omega)).trans (by rw[List.map_id']; exact k1)
 ·have hkl:=(List.getElem?_eq_some_iff.1 hk).1
  show zuj s (d+1) _ _ _ _ _ _=_
  rw[zuj,if_pos (by omega),zrI hk,obs,zqr (by omega),zqr (fI (by omega))]
 ·show zuj s (d+1) _ _ _ _ _ _=_
  rw[zuj,if_neg (Int.lt_irrefl _)]
def zAa(most:Int):Soc:={ Members:=[{ Sum:=100,Class:=2,Most:=most },{ Sum:=100,Class:=1,Most:=60 },{ Sum:=50,Class:=2,Most:=most }],Losses:=[{ Lo:=200,Hi:=210 },{ Lo:=90,Hi:=90 }],Treaty:={ Lo:=20,Hi:=25 },Reserve:=30 }
theorem zAb(most:Int):zuo most=some (zAa most):=rfl
theorem zAc{most:Int}(h:0<=most/\most<=100000):zyi (zAa most):=by
 refine⟨Nat.le_of_ble_eq_true rfl,Nat.le_of_ble_eq_true rfl,Nat.le_of_ble_eq_true rfl,fun a ha=>?_,fun r hr=>?_,by show RgV ⟨20,25⟩; decide,by show(0:Int)<=30/\(30:Int)<=_; omega⟩
 ·rcases List.mem_cons.1 ha with rfl | ha
  ·exact⟨by show(1:Int)<=100/\(100:Int)<=1000; omega,by show(1:Int)<=2/\(2:Int)<=10; omega,h⟩
  rcases List.mem_cons.1 ha with rfl | ha
  ·exact⟨by decide,by decide,by decide⟩
  rcases List.mem_cons.1 ha with rfl | ha
  ·exact⟨by show(1:Int)<=50/\(50:Int)<=1000; omega,by show(1:Int)<=2/\(2:Int)<=10; omega,h⟩
  ·cases ha
 ·rcases List.mem_cons.1 hr with rfl | hr
  ·decide
  rcases List.mem_cons.1 hr with rfl | hr
  ·decide
  ·cases hr
theorem f64{n:Int}(h:-1000000<=n/\n<=1000000):zl6 .i64 n:=fI (by omega)
theorem zAd:zup=some true:=by
 have h5:zyi (zAa 500):=zAc (by omega);have h1:zyi (zAa 150):=zAc (by omega)
 have n5:zt8 (zAa 500)=some ({ Lo:=235,Hi:=250 },0):=by
  rw[zzw h5]
  have e1:loN (zAa 500)=235:=by decide +kernel
  have e2:hiN (zAa 500)=250:=by decide +kernel
  rw[e1,e2]
 have c5:zua (zAa 500) 250=some ([127,60,63],0,0):=by
  rw[zzA h5 (by omega)]
  have e1:zzy (zAa 500) [] 250=[127,60,63]:=by decide +kernel
  have e2:(zx5 (zAa 500).Members (zyw (zAa 500).Members.length []) 250).2=0:=by decide +kernel
  rw[e1,e2]
 have b5:zud (zAa 500)=some (zzC (zAa 500) [],0):=zzG h5
 have eb:zzC (zAa 500) []=[{ Lo:=117,Hi:=127 },{ Lo:=59,Hi:=60 },{ Lo:=59,Hi:=63 }]:=by
  have e1:(zzC (zAa 500) []).map (·.Lo)=[117,59,59]:=by decide +kernel
  have e2:(zzC (zAa 500) []).map (·.Hi)=[127,60,63]:=by decide +kernel
  have e3:(zzC (zAa 500) []).length=3:=zzD []
  revert e1 e2 e3
  generalize zzC (zAa 500) []=l;intro e1 e2 e3
  match l,e3 with
  | [⟨a1,a2⟩,⟨b1,b2⟩,⟨c1,c2⟩],_=>
   simp only[List.map_cons,List.map_nil,List.cons.injEq,and_true] at e1 e2
   obtain⟨rfl,rfl,rfl⟩:=e1;obtain⟨rfl,rfl,rfl⟩:=e2
   rfl
 have r5:zuf (zAa 500)=some (64,0):=by
  have m63:brN (zAa 500).Members 63 < 250:=by decide +kernel
  have m64:250<=brN (zAa 500).Members 64:=by decide +kernel
  have e2:hiN (zAa 500)=250:=by decide +kernel
  rcases zzT h5 with ⟨k,q1,q2,q3,q4⟩ | ⟨q1,q2⟩
  ·rw[e2] at q3 q4
   have hk:k=64:=by
    apply Classical.byContradiction
    intro hne
    rcases Nat.lt_or_ge k 64 with h | h
    ·have:=zzM h5.full.ms (r:=(k:Int)) (t:=63) (by omega); omega
    ·have:=q4 64 (by omega);have e:((64:Nat):Int)=64:=rfl;rw[e] at this; omega
   subst hk; exact q1
  ·have:=q2 64 (by omega);have e:((64:Nat):Int)=64:=rfl;rw[e2,e] at this; omega
 have x5:zug (zAa 500)=some ([0,2],0):=by
  rw[zzY h5 (by decide +kernel)]
  have e:zry (zAa 500).Members.length (zzU (zAa 500))=[0,2]:=by decide +kernel
  rw[e]
 have x1:zug (zAa 150)=some ([0],0):=by
  rw[zzY h1 (by decide +kernel)]
  have e:zry (zAa 150).Members.length (zzU (zAa 150))=[0]:=by decide +kernel
  rw[e]
 unfold zup;rw[zAb,obs,n5,obs,obs,c5,obs,obs,b5,obs,obs,r5,obs,obs,x5,obs,zAb,obs,x1,obs,eb];have s1:zsP [127,60,63] [127,60,63]=some true:=zz6 (by decide) (by decide);have s2:zsP [0,2] [0,2]=some true:=zz6 (by decide) (by decide);have s3:zsP [0] [0]=some true:=zz6 (by decide) (by decide);have f:∀n:Int,-1000000<=n/\n<=1000000->zl6 .i64 n:=fun n h=>f64 h
 simp only[zun,obs,zqr (f 235 (by omega)),zqr (f 250 (by omega)),zqr (f 117 (by omega)),zqr (f 127 (by omega)),zqr (f 59 (by omega)),zqr (f 60 (by omega)),zqr (f 63 (by omega)),s1,s2,s3]
 simp[idx]
 rw[zqr (f 117 (by omega)),zqr (f 127 (by omega)),zqr (f 59 (by omega)),zqr (f 60 (by omega)),zqr (f 59 (by omega)),zqr (f 63 (by omega))]
theorem awk{β:Type}{f:Bool->Option β}:(zup).bind f=f true:=by rw[zAd,obs]
theorem zAe{a:Mb}(h:zxL a):zso a=some (unN a):=by
 have h1:=h.sum; have h2:=h.cls; have hu:=zxN h;unfold unN at hu;unfold zso unN;rw[zqr (by omega),zqr (by omega),zqr (fI (by omega))]
theorem zAf{s:Soc}(hs:zyi s){r:Int}(hr:0<=r/\r<=10000):zsF s r=some (brN s.Members r):=by
 have h5:=hs.m5;unfold zsF;refine zwK (n:=s.Members.length) (fun d acc x=>zsE s r d acc x) (fun k=>brN (s.Members.take k) r) (fun d k hk=>?_) (fun d=>?_) _ 0 (by omega) (by omega)
 ·have hg:=List.getElem?_eq_getElem hk;have ha:=hs.full.ms _ (List.getElem_mem hk);have hu:=zxN ha;have hmo:=ha.most;have hb:=zzL (ms:=s.Members.take k) (fun a ha=>hs.full.ms a (List.mem_of_mem_take ha)) hr
  have hlk:(s.Members.take k).length<=5:=by rw[List.length_take]; omega
  have hm:=zxl (a:=unN s.Members[k]) (x:=r) (A:=10000) (X:=10000) (by omega) hr;have hq:0<=unN s.Members[k] * r / 100:=Int.ediv_nonneg hm.1 (by omega)
  show zsE s r (d+1) _ _=_
  rw[zsE,if_pos (by omega),zrI hg,obs,obs,zAe ha,obs,zqr (by omega),zqr hr.1,zqr (fI (by omega)),zqr hm.1,zqr (by omega),zqr (fI (by omega)),zqr (fI (by omega)),zqr (fI (by omega)),zzN hg,Int.min_comm]
 ·show zsE s r (d+1) _ _=_
  rw[zsE,if_neg (Int.lt_irrefl _),List.take_length]
structure zAg (s:Soc) (t:Tr):Prop where
 len:t.Losses.length=s.Losses.length
 at_:∀(k:Nat) (r:Rg) (x:Int),s.Losses[k]? = some r->t.Losses[k]? = some x->r.Lo<=x/\x<=r.Hi
 tr:s.Treaty.Lo<=t.Treaty/\t.Treaty<=s.Treaty.Hi
def zAh(s:Soc)(t:Tr):Int:=max 0 (zw2 t.Losses - s.Reserve - t.Treaty)
theorem zAi{s:Soc}{t:Tr}(h3:s.Losses.length<=1000):Ev (ztf s t) (zAg s t):=by
 unfold ztf
 by_cases hl:t.Losses.length=s.Losses.length
 ·rw[if_pos (by omega)];refine(Ev.loop (n:=s.Losses.length) (F:=fun d x=>zte s t d x) (ok:=fun k=>∀(r:Rg) (x:Int),s.Losses[k]? = some r->t.Losses[k]? = some x->r.Lo<=x/\x<=r.Hi) (fin:=(zsQ s.Treaty t.Treaty).bind fun r=>some r) (P:=s.Treaty.Lo<=t.Treaty/\t.Treaty<=s.Treaty.Hi) (fun d k hk=>?_) (fun d=>?_) (by omega) fun _=>zyl.ret).imp ?_
  ·have h1:=List.getElem?_eq_getElem hk;have h2:=List.getElem?_eq_getElem (show k < t.Losses.length by omega)
   show(_->zte s t (d+1) (k:Int)=_)/\_
   rw[zte,if_pos (by omega),zrI h1,obs,zrI h2,obs];have:=Ev.step (f:=fun r=>if r=true then gd (zl6 .i64 ((k:Int)+1)) (zte s t d ((k:Int)+1)) else some false) (zyl (r:=s.Losses[k]) (n:=t.Losses[k])) (by rw[if_pos rfl,zqr (fI (by omega))]) (by rw[if_neg (by decide)]);exact⟨fun h=>this.1 (h _ _ h1 h2),fun h=>this.2 fun h4=>h fun r x hr hx=>by rw[h1] at hr; rw[h2] at hx; cases hr; cases hx; exact h4⟩
  ·show zte s t (d+1) _=_
   rw[zte,if_neg (Int.lt_irrefl _)]
  ·exact⟨fun⟨h1,h2⟩=>⟨hl,fun k r x hr hx=>h1 k (List.getElem?_eq_some_iff.1 hr).1 r x hr hx,h2⟩,fun h=>⟨fun k _ r x hr hx=>h.at_ k r x hr hx,h.tr⟩⟩
 ·rw[if_neg (by omega)]; exact Ev.ff fun h=>hl h.len
theorem zAj{l:List Int}{k:Nat}{a:Int}(h:l[k]? = some a):zw2 (l.take (k+1))=zw2 (l.take k)+a:=by
 rw[List.take_add_one,h,zw3]
 show _+(a+0)=_; omega
theorem zAk{s:Soc}(hs:zyi s){t:Tr}(ht:zAg s t):∀x∈t.Losses,0<=x/\x<=100000:=fun x hx=>by
 obtain⟨k,hk⟩:=List.mem_iff_getElem?.1 hx;have hlt:=(List.getElem?_eq_some_iff.1 hk).1;have hr:=List.getElem?_eq_getElem (show k < s.Losses.length by have:=ht.len; omega);have h1:=ht.at_ k _ x hr hk;have h2:=hs.full.ls _ (List.getElem_mem (show k < s.Losses.length by have:=ht.len; omega));unfold RgV at h2; omega
theorem zAl{l:List Int}{B:Int}(h:∀x∈l,0<=x/\x<=B):0<=zw2 l/\zw2 l<=B * l.length:=by
 induction l with
 | nil=>exact⟨Int.le_refl _,by show(0:Int)<=B * ((0:Nat):Int); simp⟩
 | cons a l ih=>
  have ih:=ih fun x hx=>h x (List.mem_cons_of_mem _ hx);have:=h a (List.mem_cons_self ..)
  show 0<=a+zw2 l/\a+zw2 l<=_
  rw[List.length_cons,Int.natCast_add,Int.mul_add]
  show _/\_<=_+B * 1
  omega
theorem zAm{s:Soc}(hs:zyi s){t:Tr}(ht:zAg s t):ztq s t=some (zAh s t,0):=by
 have h1:=hs.m5; have h2:=hs.l3;have htr:=hs.full.tr;unfold RgV at htr;have htt:=ht.tr;have hb:=zAk hs ht;have hl:=ht.len;unfold ztq;rw[zyr (by unfold zrS; omega) (by unfold zrS; omega),obs,if_pos (zyk.2 hs),(zAi (by omega)).some_of ht,obs,if_pos rfl];refine zwK (n:=t.Losses.length) (fun d acc x=>ztp s t d acc x) (fun k=>zw2 (t.Losses.take k)) (fun d k hk=>?_) (fun d=>?_) _ 0 (by omega) (by omega)
 ·have hg:=List.getElem?_eq_getElem hk;have h3:=zAl (l:=t.Losses.take k) (B:=100000) fun x hx=>hb x (List.mem_of_mem_take hx);have h4:=hb _ (List.getElem_mem hk)
  have h5:(t.Losses.take k).length<=3:=by rw[List.length_take]; omega
  show ztp s t (d+1) _ _=_
  rw[ztp,if_pos (by omega),zrI hg,obs,zqr (fI (by omega)),zqr (fI (by omega)),zAj hg]
 ·have h3:=zAl (l:=t.Losses) (B:=100000) hb
  show ztp s t (d+1) _ _=_
  rw[ztp,if_neg (Int.lt_irrefl _),List.take_length,zyP (by omega) (by omega) hs.full.rs,obs]; rfl
theorem zAn{s:Soc}(hs:zyi s){t:Tr}(hl:t.Losses.length<=9)(hb:∀x∈t.Losses,0<=x/\x<=100000)(ht:0<=t.Treaty/\t.Treaty<=100000):zsl s t=some (zAh s t):=by
 have hr:=hs.full.rs;unfold zsl;rw[zqr (fI (by omega)),zqr (fI (by omega))];have key:=zwK (n:=t.Losses.length) (fun d acc x=>zsk t d acc x) (fun k=>0 - s.Reserve - t.Treaty+zw2 (t.Losses.take k)) (fin:=some (zAh s t)) (fun d k hk=>?_) (fun d=>?_) 1000000 0 (by omega) (by omega)
 ·have e:0 - s.Reserve - t.Treaty+zw2 (t.Losses.take 0)=0 - s.Reserve - t.Treaty:=by show _+0=_; omega
  rw[e] at key; exact key
 ·have hg:=List.getElem?_eq_getElem hk;have h3:=zAl (l:=t.Losses.take k) (B:=100000) fun x hx=>hb x (List.mem_of_mem_take hx);have h4:=hb _ (List.getElem_mem hk)
  have h5:(t.Losses.take k).length<=9:=by rw[List.length_take]; omega
  show zsk t (d+1) _ _=_
  rw[zsk,if_pos (by omega),zrI hg,obs,zqr (fI (by omega)),zqr (fI (by omega)),zAj hg,Int.add_assoc]
 ·show zsk t (d+1) _ _=_
  rw[zsk,if_neg (Int.lt_irrefl _),List.take_length];unfold zAh;exact congrArg some (by omega)
theorem zAo{s:Soc}(hs:zyi s):zsn s=some { Lo:=loN s,Hi:=hiN s }:=by
 have h2:=hs.l3;have htr:=hs.full.tr;unfold RgV at htr
 have hb:∀r∈s.Losses,(0<=r.Lo/\r.Lo<=100000)/\0<=r.Hi/\r.Hi<=100000:=fun r hr=>by have:=hs.full.ls r hr; unfold RgV at this; omega
 unfold zsn;refine zwK (n:=s.Losses.length) (fun d (st:List Int × List Int) x=>zsm s d st.1 s.Treaty.Hi st.2 s.Treaty.Lo x) (fun k=>((s.Losses.take k).map (·.Lo),(s.Losses.take k).map (·.Hi))) (fun d k hk=>?_) (fun d=>?_) _ 0 (by omega) (by omega)
 ·have hg:=List.getElem?_eq_getElem hk
  show zsm s (d+1) ((s.Losses.take k).map (·.Lo)) _ ((s.Losses.take k).map (·.Hi)) _ _=_
  have hl1:((s.Losses.take k).map (·.Lo)).length<=3:=by rw[List.length_map,List.length_take]; omega
  have hl2:((s.Losses.take k).map (·.Hi)).length<=3:=by rw[List.length_map,List.length_take]; omega
  rw[zsm,if_pos (by omega),zrI hg,obs,zqr (by omega),obs,zqr (by show _+1<=_; omega),zqr (fI (by omega))];rw[List.take_add_one,hg,List.map_append,List.map_append]; rfl
 ·show zsm s (d+1) ((s.Losses.take s.Losses.length).map (·.Lo)) _ ((s.Losses.take s.Losses.length).map (·.Hi)) _ _=_
  rw[zsm,if_neg (Int.lt_irrefl _),List.take_length,zAn hs (t:={ Losses:=s.Losses.map (·.Lo),Treaty:=s.Treaty.Hi }) (by rw[List.length_map]; omega) (fun x hx=>by obtain⟨r,hr,rfl⟩:=List.mem_map.1 hx; exact(hb r hr).1) (by show 0<=s.Treaty.Hi/\s.Treaty.Hi<=100000; omega),obs,zAn hs (t:={ Losses:=s.Losses.map (·.Hi),Treaty:=s.Treaty.Lo }) (by rw[List.length_map]; omega) (fun x hx=>by obtain⟨r,hr,rfl⟩:=List.mem_map.1 hx; exact(hb r hr).2) (by show 0<=s.Treaty.Lo/\s.Treaty.Lo<=100000; omega),obs]; rfl
theorem zAp(f:Nat->Int){n:Nat}(hn:n<=5)(h:∀i,n<=i->i < 5->f i=0):part f n=S5 f:=by
 rw[zxr f hn];refine zw6 fun i hi=>?_
 by_cases hin:i < n
 ·rw[if_pos hin]
 ·rw[if_neg hin,h i (by omega) hi]
theorem zAq{i:Nat}(h:i<=8):2 ^ i<=256:=Nat.le_trans (Nat.pow_le_pow_right (by omega) h) (by decide)
def zAr(n:Nat):Nat:=2 ^ n - 1
theorem zAs(n:Nat):zAr n < 2 ^ n:=by have:0 < 2 ^ n:=Nat.two_pow_pos n; unfold zAr; omega
theorem zAt{s:Soc}(h:s.Members.length<=8):zsz s=some (zAr s.Members.length:Int):=by
 have hp:=zAq h;have hp0:0 < 2 ^ s.Members.length:=Nat.two_pow_pos _;have hw:zmb .u64 (s.Members.length:Int)=(s.Members.length:Int):=wz (show(0:Int)<=s.Members.length/\(s.Members.length:Int) < 18446744073709551616 by omega)
 have hpow:(1:Int) * 2 ^ (Int.toNat (zmb .u64 (s.Members.length:Int)))=((2 ^ s.Members.length:Nat):Int):=by rw[hw,Int.toNat_natCast,Int.one_mul,Int.natCast_pow]; rfl
 unfold zsz zAr;rw[hpow,zqr (by omega),hw,zqr (by omega),zqr (by omega),zqr (fI (by omega)),zqr (fI (by omega))]
 congr 1
 omega
theorem zAu(B k:Nat):(B:Int) / 2 ^ k % 2=((B / 2 ^ k % 2:Nat):Int):=by rw[zy1]; rfl
theorem zAv{B k:Nat}:(B:Int) / 2 ^ k % 2=1↔B.testBit k=true:=by
 rw[zAu,Nat.testBit_eq_decide_div_mod_eq,decide_eq_true_eq]; omega
theorem zAw{b n:Nat}(hn:n<=5)(hb:b < 2 ^ n)(j:Nat):(j:Int)∈zyW b↔j < n/\b.testBit j=true:=by
 unfold zyW;rw[zyX]
 constructor
 ·rintro⟨_,_,h⟩
  rw[show((j:Int)).toNat=j from rfl] at h;refine⟨Nat.lt_of_not_le fun hj=>?_,h⟩
  rw[Nat.testBit_lt_two_pow (Nat.lt_of_lt_of_le hb (Nat.pow_le_pow_right (by omega) hj))] at h; cases h
 ·rintro⟨h1,h2⟩
  exact⟨by omega,by omega,h2⟩
theorem zAx{b n:Nat}(hn:n<=5)(hb:b < 2 ^ n)(j:Nat):zyw n (zyW b) j=(decide (j < n) && !b.testBit j):=by
 unfold zyw
 by_cases h:j < n
 ·have e:decide ((j:Int)∈zyW b)=b.testBit j:=by
   cases ht:b.testBit j with
   | true=>exact decide_eq_true ((zAw hn hb j).2 ⟨h,ht⟩)
   | false=>exact decide_eq_false fun hm=>by have:=((zAw hn hb j).1 hm).2; rw[ht] at this; cases this
  rw[e]
 ·rw[decide_eq_false h,Bool.false_and,Bool.false_and]
theorem zAy{s:Soc}(hs:zyi s)(h:hiN s ≠ 0):∃D,Inc s.Members.length 0 D/\zzU s D=true:=by
 have hn:=zyN hs;have hf:=zAs s.Members.length;refine⟨zyW (zAr s.Members.length),zzi (by have:=hs.m5; omega) hf,(zzV hs _).2 ?_⟩
 have:S5 (mF s.Members (zyw s.Members.length (zyW (zAr s.Members.length))))=S5 fun _=>0:=zw6 fun i _=>zxW (by
  rw[zAx hs.m5 hf]
  show(_ && !(2 ^ s.Members.length - 1).testBit i)=false
  rw[Nat.testBit_two_pow_sub_one]
  cases decide (i < s.Members.length) <;> rfl)
 rw[this]
 show(0:Int)+0+0+0+0 < _
 omega
def lN{α:Type}(n:Nat)(f:Nat->α):List α:=(List.range n).map f
theorem zAz{α:Type}{n:Nat}{f:Nat->α}:(lN n f).length=n:=by unfold lN; rw[List.length_map,List.length_range]
theorem zAA{α:Type}{n:Nat}{f:Nat->α}{k:Nat}(hk:k < n):(lN n f)[k]? = some (f k):=by
 unfold lN; rw[List.getElem?_map,List.getElem?_range hk]; rfl
theorem zAB{α:Type}{n:Nat}{f:Nat->α}{k:Nat}(hk:k < n):idx (lN n f) (k:Int)=some (f k):=zrI (zAA hk)
theorem zAC{α:Type}{n:Nat}{f g:Nat->α}(h:∀k,k < n->f k=g k):lN n f=lN n g:=List.map_congr_left fun k hk=>h k (List.mem_range.1 hk)
theorem zAD{α:Type}{n:Nat}{f:Nat->α}{k:Nat}{v:α}:(lN n f).set k v=lN n fun j=>if j=k then v else f j:=by
 refine List.ext_getElem? fun i=>?_
 by_cases hi:i < n
 ·rw[zAA hi,List.getElem?_set]
  by_cases h:k=i
  ·subst h; rw[if_pos rfl,if_pos (by rw[zAz]; exact hi),if_pos rfl]
  ·rw[if_neg h,zAA hi,if_neg fun h2=>h h2.symm]
 ·rw[List.getElem?_eq_none (by rw[List.length_set,zAz]; omega),List.getElem?_eq_none (by rw[zAz]; omega)]
theorem zAE{α:Type}{n:Nat}{g f:Nat->α}{k:Nat}:(lN n (stF g f k)).set k (g k)=lN n (stF g f (k+1)):=by
 rw[zAD];refine zAC fun j _=>?_;unfold stF
 by_cases h:j=k
 ·subst h; rw[if_pos rfl,if_pos (by omega)]
 ·rw[if_neg h]
  by_cases h2:j < k
  ·rw[if_pos h2,if_pos (by omega)]
  ·rw[if_neg h2,if_neg (by omega)]
theorem zAF{α:Type}{n:Nat}{g f:Nat->α}{k:Nat}(h:g k=f k):lN n (stF g f k)=lN n (stF g f (k+1)):=by
 refine zAC fun j _=>?_;unfold stF
 by_cases h1:j=k
 ·subst h1; rw[if_neg (by omega),if_pos (by omega),h]
 ·by_cases h2:j < k
  ·rw[if_pos h2,if_pos (by omega)]
  ·rw[if_neg h2,if_neg (by omega)]
theorem zAG{α:Type}{n:Nat}{g f:Nat->α}:lN n (stF g f n)=lN n g:=zAC fun _ h=>zwQ g f h
theorem zAH{α:Type}{n:Nat}{v:α}:List.replicate n v=lN n fun _=>v:=by
 refine List.ext_getElem? fun i=>?_
 by_cases hi:i < n
 ·rw[zAA hi,List.getElem?_replicate,if_pos hi]
 ·rw[List.getElem?_eq_none (by rw[List.length_replicate]; omega),List.getElem?_eq_none (by rw[zAz]; omega)]
def zAI(f:Nat->Bool):Nat->Nat
 | 0=>0
 | k+1=>zAI f k+if f k then 2 ^ k else 0
theorem zAJ(f:Nat->Bool):∀n,zAI f n < 2 ^ n
 | 0=>by show 0 < 1; omega
 | n+1=>by
  have:=zAJ f n
  show zAI f n+_ < _
  rw[Nat.pow_succ]
  split <;> omega
theorem zAK{f:Nat->Bool}:∀{n j:Nat},j < n->(zAI f n).testBit j=f j
 | 0,_,h=>by omega
 | n+1,j,h=>by
  have hlt:=zAJ f n
  show(zAI f n+_).testBit j=_
  by_cases hj:j=n
  ·subst hj
   cases hf:f j with
   | true=>rw[if_pos rfl,Nat.add_comm,Nat.testBit_two_pow_add_eq,Nat.testBit_lt_two_pow hlt]; rfl
   | false=>rw[if_neg (by decide),Nat.add_zero,Nat.testBit_lt_two_pow hlt]
  ·have ih:=zAK (f:=f) (n:=n) (j:=j) (by omega)
   cases hf:f n with
   | true=>rw[if_pos rfl,Nat.add_comm,Nat.testBit_two_pow_add_gt (by omega),ih]
   | false=>rw[if_neg (by decide),Nat.add_zero,ih]
theorem zAL{f g:Nat->Bool}:∀{n:Nat},(∀j,j < n->f j=g j)->zAI f n=zAI g n
 | 0,_=>rfl
 | n+1,h=>by
  show zAI f n+_=zAI g n+_
  rw[zAL (n:=n) fun j hj=>h j (by omega),h n (by omega)]
theorem zAM{f g:Nat->Bool}{n:Nat}:zAI f n=zAI g n↔∀j,j < n->f j=g j:=
 ⟨fun h j hj=>by rw[<- zAK (f:=f) hj,<- zAK (f:=g) hj,h],zAL⟩
theorem zAN{b n:Nat}(hb:b < 2 ^ n):zAI b.testBit n=b:=Nat.eq_of_testBit_eq fun i=>by
 by_cases hi:i < n
 ·exact zAK hi
 ·rw[Nat.testBit_lt_two_pow (Nat.lt_of_lt_of_le (zAJ _ n) (Nat.pow_le_pow_right (by omega) (by omega))),Nat.testBit_lt_two_pow (Nat.lt_of_lt_of_le hb (Nat.pow_le_pow_right (by omega) (by omega)))]
theorem zAO:∀n,zAI (fun _=>false) n=0
 | 0=>rfl
 | n+1=>zAO n
theorem zAP:∀n,zAI (fun _=>true) n=zAr n
 | 0=>rfl
 | n+1=>by
  have:=zAP n;have hp:0 < 2 ^ n:=Nat.two_pow_pos n
  show zAI _ n+2 ^ n=2 ^ (n+1) - 1
  rw[this,Nat.pow_succ];unfold zAr
  omega
theorem zAQ{f g:Nat->Bool}:∀{n:Nat},(∀j,j < n->g j=true->f j=true)->zAI f n=zAI g n+zAI (fun j=>f j && !g j) n
 | 0,_=>rfl
 | n+1,h=>by
  have ih:=zAQ (f:=f) (g:=g) (n:=n) fun j hj=>h j (by omega)
  show zAI f n+_=zAI g n+_+(zAI _ n+_)
  have hn:=h n (by omega);have e:(if (fun j=>f j && !g j) n=true then 2 ^ n else 0)=if (f n && !g n)=true then 2 ^ n else 0:=rfl;rw[e]
  clear e
  cases hg:g n with
  | true=>
   rw[hn hg,if_pos rfl,if_neg (by decide)]
   omega
  | false=>
   cases hf:f n with
   | true=>rw[if_pos rfl,if_neg (by decide),if_pos (by decide)]; omega
   | false=>rw[if_neg (by decide),if_neg (by decide)]; omega
theorem zAR{f:Nat->Bool}{n k:Nat}(hn:n<=5)(hk:k < n){α:Type}{A B:Option α}:(gd ((0:Int)<=(zAI f n:Int)) (gd ((0:Int)<=(zmb .u64 (k:Int))) (gd ((zmb .u64 (k:Int))<=(64:Int)) (gd (zl6 .i64 ((zAI f n:Int) / ((2:Int) ^ (Int.toNat (zmb .u64 (k:Int)))))) (gd ((0:Int)<=((zAI f n:Int) / ((2:Int) ^ (Int.toNat (zmb .u64 (k:Int)))))) (gd ((0:Int) < (2:Int)) (gd (zl6 .i64 (((zAI f n:Int) / ((2:Int) ^ (Int.toNat (zmb .u64 (k:Int))))) % (2:Int))) (if (((zAI f n:Int) / ((2:Int) ^ (Int.toNat (zmb .u64 (k:Int))))) % (2:Int))=(1:Int) then A else B))))))))=if f k=true then A else B:=by
 have hlt:=zAJ f n;have hpw:=zAq (show n<=8 by omega)
 have hq0:0<=(zAI f n:Int) / 2 ^ k:=by rw[zy1]; exact Int.natCast_nonneg _
 have hq1:(zAI f n:Int) / 2 ^ k<=zAI f n:=by rw[zy1]; exact Int.ofNat_le.2 (Nat.div_le_self _ _)
 rw[wu (by omega),zqr (by omega),zqr (by omega),zqr (by omega),Int.toNat_natCast,zqr (fI (by omega)),zqr hq0,zqr (by omega),zqr (fI (by omega))];have e:=zAv (B:=zAI f n) (k:=k);rw[zAK hk] at e
 by_cases h:f k=true
 ·rw[if_pos (e.2 h),if_pos h]
 ·rw[if_neg fun h2=>h (e.1 h2),if_neg h]
theorem zAS{n:Nat}{f:Nat->Int}{k:Nat}(hk:k < n)(hn:n<=5)(ht:∀i,i < k->f i < f k)(ht2:∀i,k < i->i < n->f i<=f k){p:Nat->Int}(hp:0<=p k/\p k<=1000000){x44:Int}(hx:0<=x44/\x44<=1000000){K:Int->List Int->List Int->Option (List Int)} :
  ∀(d b m:Nat),m<=n->b < m->n - m < d->(k < m->b=k)->zsp x44 K d (b:Int) (m:Int) (lN n p) (lN n f)=K (x44 - 1) ((lN n p).set k (p k+1)) ((lN n f).set k (-1))
 | 0,_,_,_,_,h,_=>by omega
 | d+1,b,m,hm,hb,hd,hi=>by
  rw[zsp,zAz]
  by_cases hmn:m < n
  ·have em:(m:Int)+1=((m+1:Nat):Int):=by omega
   rw[if_pos (by omega),zAB hmn,obs,zAB (by omega),obs]
   by_cases h:f b < f m
   ·rw[if_pos h,zqr (fI (by omega)),em];refine zAS hk hn ht ht2 hp hx d m (m+1) (by omega) (by omega) (by omega) fun h2=>?_
    by_cases h3:m=k
    ·exact h3
    ·have:=hi (by omega);subst this;have:=ht2 m (by omega) hmn
     omega
   ·rw[if_neg h,zqr (fI (by omega)),em];refine zAS hk hn ht ht2 hp hx d b (m+1) (by omega) (by omega) (by omega) fun h2=>?_
    by_cases h3:m=k
    ·subst h3;exact absurd (ht b hb) h
    ·exact hi (by omega)
  ·have hbk:=hi (by omega);subst hbk;rw[if_neg (by omega),zAB hk,obs,zqr (fI (by omega)),obs,zAB hk,obs,zqr (fI (by omega)),Int.toNat_natCast]
def ptF(q:Nat->Int)(r:Nat->Int)(j:Nat):Nat->Int:=fun k=>q k+if zxe r k < j then 1 else 0
def rsF(sh:Nat->Bool)(r:Nat->Int)(j:Nat):Nat->Int:=fun k=>if sh k=true then (if zxe r k < j then -1 else r k) else -1
theorem zAT{ms:List Mb}(hms:zxM ms){sh:Nat->Bool}(hs:zxQ ms sh)(h0:¬ zxO sh=true){N:Int}(hN:0<=N/\N<=1000000){L:Nat}(hL:(L:Int)=N - S5 (qN N (uF ms sh))) :
  ∀(d j:Nat),j<=L->L - j < d->zsq d ((L:Int) - j) (lN ms.length (ptF (qN N (uF ms sh)) (rN N (uF ms sh)) j)) (lN ms.length (rsF sh (rN N (uF ms sh)) j))=some (lN ms.length (zxm N (uF ms sh)))
 | 0,_,_,h=>by omega
 | d+1,j,hj,hd=>by
  have hu:=zxZ hms hs h0;have hlb:=zxE hu N;have h5:=hms.1;rw[zsq]
  by_cases hjL:j < L
  ·obtain⟨k,hk5,hk⟩:=zxC (rN N (uF ms sh)) (k:=(j:Int)) (by omega);have hrk:rN N (uF ms sh) k ≠ 0:=fun h=>zxF hu h (by omega);have hrb:=fun i=>zxo hu (N:=N) i
   have hsk:sh k=true:=by
    cases hq:sh k with
    | true=>rfl
    | false=>
     refine absurd ?_ hrk;unfold rN;rw[show uF ms sh k=0 from zxW hq,Int.mul_zero,Int.zero_emod]
   have hkn:=hs k hsk;have hq:=zxn hu hN.1 hk5
   have erk:rsF sh (rN N (uF ms sh)) j k=rN N (uF ms sh) k:=by unfold rsF; rw[if_pos hsk,if_neg (by omega)]
   have low:∀i,i < 5->i ≠ k->rsF sh (rN N (uF ms sh)) j i < rN N (uF ms sh) k\/(rsF sh (rN N (uF ms sh)) j i=rN N (uF ms sh) k/\k < i):=fun i hi hik=>by
    have:=hrb k;unfold rsF
    cases sh i with
    | false=>rw[if_neg (by decide)]; omega
    | true=>
     rw[if_pos rfl]
     by_cases h1:zxe (rN N (uF ms sh)) i < j
     ·rw[if_pos h1]; omega
     ·rw[if_neg h1];have hne:=zxx (r:=rN N (uF ms sh)) hi hk5 hik;have:=(zxy (r:=rN N (uF ms sh)) hk5 hi).1 (by omega)
      omega
   have e1:(0:Int)=((0:Nat):Int):=rfl
   have ek:(L:Int) - j - 1=(L:Int) - ((j+1:Nat):Int):=by omega
   have hpk:ptF (qN N (uF ms sh)) (rN N (uF ms sh)) j k=qN N (uF ms sh) k:=by unfold ptF; rw[if_neg (by omega),Int.add_zero]
   rw[if_pos (by omega)]
   show zsp ((L:Int) - j) (zsq d) 1000000 ((0:Nat):Int) ((1:Nat):Int) _ _=_
   rw[zAS hkn h5 (fun i hi=>by rw[erk]; have:=low i (by omega) (by omega); omega) (fun i hi hin=>by rw[erk]; have:=low i (by omega) (by omega); omega) (by rw[hpk]; omega) (by omega) 1000000 0 1 (by omega) (by omega) (by omega) (fun h=>by omega),ek,zAD,zAD]
   have e2:lN ms.length (fun i=>if i=k then ptF (qN N (uF ms sh)) (rN N (uF ms sh)) j k+1 else ptF (qN N (uF ms sh)) (rN N (uF ms sh)) j i)=lN ms.length (ptF (qN N (uF ms sh)) (rN N (uF ms sh)) (j+1)):=zAC fun i hi=>by
    by_cases hik:i=k
    ·subst hik; rw[if_pos rfl,hpk]; unfold ptF; rw[if_pos (by omega)]
    ·have hne:=zxx (r:=rN N (uF ms sh)) (show i < 5 by omega) hk5 hik;rw[if_neg hik]; unfold ptF
     by_cases h1:zxe (rN N (uF ms sh)) i < j
     ·rw[if_pos h1,if_pos (by omega)]
     ·rw[if_neg h1,if_neg (by omega)]
   have e3:lN ms.length (fun i=>if i=k then (-1:Int) else rsF sh (rN N (uF ms sh)) j i)=lN ms.length (rsF sh (rN N (uF ms sh)) (j+1)):=zAC fun i hi=>by
    by_cases hik:i=k
    ·subst hik; rw[if_pos rfl]; unfold rsF; rw[if_pos hsk,if_pos (by omega)]
    ·have hne:=zxx (r:=rN N (uF ms sh)) (show i < 5 by omega) hk5 hik;rw[if_neg hik]; unfold rsF
     by_cases h1:zxe (rN N (uF ms sh)) i < j
     ·rw[if_pos h1,if_pos (show zxe (rN N (uF ms sh)) i < ((j+1:Nat):Int) by omega)]
     ·rw[if_neg h1,if_neg (show ¬ zxe (rN N (uF ms sh)) i < ((j+1:Nat):Int) by omega)]
   rw[e2,e3];exact zAT hms hs h0 hN hL d (j+1) (by omega) (by omega)
  ·have hjL:j=L:=by omega
   subst hjL;rw[if_neg (by omega)]
   congr 1
   refine zAC fun i _=>?_;unfold ptF zxm;rw[hL]
theorem zAU{k:Nat}:∀{n:Nat},zAI (fun j=>decide (j=k)) n=if k < n then 2 ^ k else 0
 | 0=>rfl
 | n+1=>by
  show zAI (fun j=>decide (j=k)) n+(if decide (n=k)=true then 2 ^ n else 0)=_
  rw[zAU (n:=n)]
  by_cases h:n=k
  ·subst h; rw[if_neg (by omega),if_pos (decide_eq_true rfl),if_pos (by omega)]; omega
  ·have e:(if decide (n=k)=true then 2 ^ n else 0)=0:=if_neg (by rw[decide_eq_false h]; decide);rw[e,Nat.add_zero]
   by_cases h2:k < n
   ·rw[if_pos h2,if_pos (by omega)]
   ·rw[if_neg h2,if_neg (by omega)]
theorem zAV{f g:Nat->Bool}{n k:Nat}(hk:k < n)(hf:f k=true)(hg:g k=false)(h:∀j,j ≠ k->g j=f j):zAI f n=zAI g n+2 ^ k:=by
 have:=zAQ (f:=f) (g:=g) (n:=n) fun j _ hj=>by
  by_cases hjk:j=k
  ·subst hjk; exact hf
  ·rw[<- h j hjk]; exact hj
 have e:zAI (fun j=>f j && !g j) n=zAI (fun j=>decide (j=k)) n:=zAL fun j _=>by
  by_cases hjk:j=k
  ·subst hjk; show(f j && !g j)=_; rw[hf,hg,decide_eq_true rfl]; rfl
  ·show(f j && !g j)=_; rw[h j hjk,decide_eq_false hjk]; cases f j <;> rfl
 rw[this,e,zAU,if_pos hk]
section
variable {s:Soc} {sh:Nat->Bool} {N:Int}
theorem zAW(hms:zxM s.Members)(hs:zxQ s.Members sh){y1 y2:List Int}{R:Option (List Int)}(hR:zsr s (zAI sh s.Members.length:Int) N (S5 (uF s.Members sh)) 1000000 N 0 y1 y2=R) :
  ∀(d k:Nat),k<=s.Members.length->s.Members.length - k < d->zss s (zAI sh s.Members.length:Int) N d (part (uF s.Members sh) k) (k:Int) y1 y2=R
 | 0,_,_,h=>by omega
 | d+1,k,hk,hd=>by
  have h5:=hms.1;rw[zss]
  by_cases hkn:k < s.Members.length
  ·have hg:=List.getElem?_eq_getElem hkn;have hb:=zwT (f:=uF s.Members sh) (B:=10000) (fun i _=>by have:=zxY hms sh i; omega) (by omega) k (by omega);have hu:=zxY hms sh k
   have ek:(k:Int)+1=((k+1:Nat):Int):=by omega
   rw[if_pos (by omega),zAR h5 hkn]
   cases hq:sh k with
   | true=>
    have e:unN s.Members[k]=uF s.Members sh k:=(show uF s.Members sh k=unN s.Members[k] from zxX hg hq).symm;rw[if_pos rfl,zrI hg,obs,zAe (hms.2 _ (List.getElem_mem hkn)),obs,e,zqr (fI (by omega)),zqr (fI (by omega)),ek];exact zAW hms hs hR d (k+1) (by omega) (by omega)
   | false=>
    have e:part (uF s.Members sh) k=part (uF s.Members sh) (k+1):=by
     show _=part _ k+uF s.Members sh k
     rw[show uF s.Members sh k=0 from zxW hq,Int.add_zero]
    rw[if_neg (by decide),zqr (fI (by omega)),ek,e];exact zAW hms hs hR d (k+1) (by omega) (by omega)
  ·have hkn:k=s.Members.length:=by omega
   rw[if_neg (by omega)];subst hkn
   have e:part (uF s.Members sh) s.Members.length=S5 (uF s.Members sh):=zAp _ h5 fun i h1 _=>show uF s.Members sh i=0 from zxW (by
    cases hq:sh i with
    | false=>rfl
    | true=>have:=hs i hq; omega)
   rw[e];exact hR
theorem zAX(hms:zxM s.Members)(hs:zxQ s.Members sh)(h0:¬ zxO sh=true)(hN:0<=N/\N<=1000000) :
  ∀(d k:Nat),k<=s.Members.length->s.Members.length - k < d->zsr s (zAI sh s.Members.length:Int) N (S5 (uF s.Members sh)) d (N - part (qN N (uF s.Members sh)) k) (k:Int) (lN s.Members.length (stF (qN N (uF s.Members sh)) (fun _=>0) k)) (lN s.Members.length (stF (rsF sh (rN N (uF s.Members sh)) 0) (fun _=>0) k))=some (lN s.Members.length (zxm N (uF s.Members sh)))
 | 0,_,_,h=>by omega
 | d+1,k,hk,hd=>by
  have h5:=hms.1;have huo:=zxZ hms hs h0;rw[zsr]
  by_cases hkn:k < s.Members.length
  ·have hg:=List.getElem?_eq_getElem hkn;have hb:=zwT (f:=qN N (uF s.Members sh)) (B:=1000000) (fun i hi=>by have:=zxn huo hN.1 hi; omega) (by omega) k (by omega);have hqk:=zxn huo hN.1 (k:=k) (by omega);have hrk:=zxo huo (N:=N) k;have hSle:=huo.le (i:=0) (by omega);have hu:=zxY hms sh k;have hpos:=huo.pos;have hmul:=zxl (a:=N) (x:=uF s.Members sh k) hN hu
   have ek:(k:Int)+1=((k+1:Nat):Int):=by omega
   rw[if_pos (by omega),zAB hkn,obs,zAR h5 hkn]
   cases hq:sh k with
   | true=>
    have e:unN s.Members[k]=uF s.Members sh k:=(show uF s.Members sh k=unN s.Members[k] from zxX hg hq).symm;have e1:N * uF s.Members sh k / S5 (uF s.Members sh)=qN N (uF s.Members sh) k:=rfl;have e2:N * uF s.Members sh k % S5 (uF s.Members sh)=rN N (uF s.Members sh) k:=rfl
    have e3:rN N (uF s.Members sh) k=rsF sh (rN N (uF s.Members sh)) 0 k:=by
     have:=(zxz (rN N (uF s.Members sh)) (i:=k) (by omega)).1;unfold rsF; rw[if_pos hq,if_neg (by omega)]
    have e4:N - part (qN N (uF s.Members sh)) k - qN N (uF s.Members sh) k=N - part (qN N (uF s.Members sh)) (k+1):=by show _=N - (part _ k+qN N (uF s.Members sh) k); omega
    have e5:∀F:Nat->Int,idx ((lN s.Members.length F).set k (-1)) (k:Int)=some (-1):=fun F=>by rw[zAD,zAB hkn,if_pos rfl]
    rw[if_pos rfl,zrI hg,obs,zAe (hms.2 _ (List.getElem_mem hkn)),obs,e,zqr (by omega),zqr (by omega),zqr (fI (by omega)),zqr (by omega),zqr (by omega),e1,zqr (fI (by omega)),zqr (by omega),zqr (by omega),e2,zqr (fI (by omega)),zAB hkn,obs,Int.toNat_natCast,e5,obs,List.set_set,zAE,e3,zAE,zAB hkn,obs,zwQ _ _ (by omega),zqr (fI (by omega)),zqr (fI (by omega)),ek,e4];exact zAX hms hs h0 hN d (k+1) (by omega) (by omega)
   | false=>
    have hq0:qN N (uF s.Members sh) k=0:=by unfold qN; rw[show uF s.Members sh k=0 from zxW hq,Int.mul_zero,Int.zero_ediv]
    have e3:(-1:Int)=rsF sh (rN N (uF s.Members sh)) 0 k:=by unfold rsF; rw[if_neg (by rw[hq]; decide)]
    have e4:N - part (qN N (uF s.Members sh)) k=N - part (qN N (uF s.Members sh)) (k+1):=by show _=N - (part _ k+qN N (uF s.Members sh) k); omega
    rw[if_neg (by decide),zqr (fI (by omega)),ek,e4,Int.toNat_natCast,e3,zAE,zAF (g:=qN N (uF s.Members sh)) hq0];exact zAX hms hs h0 hN d (k+1) (by omega) (by omega)
  ·have hkn:k=s.Members.length:=by omega
   rw[if_neg (by omega)];subst hkn;have hlb:=zxE huo N
   have hpart:part (qN N (uF s.Members sh)) s.Members.length=S5 (qN N (uF s.Members sh)):=zAp _ h5 fun i h1 _=>by
    unfold qN
    rw[show uF s.Members sh i=0 from zxW (by cases hq:sh i with | false=>rfl | true=>have:=hs i hq; omega),Int.mul_zero,Int.zero_ediv]
   rw[hpart,zAG,zAG];have:=zAT hms hs h0 hN (L:=(N - S5 (qN N (uF s.Members sh))).toNat) (by omega) 1000000 0 (Nat.zero_le _) (by omega)
   have e1:(((N - S5 (qN N (uF s.Members sh))).toNat:Nat):Int) - ((0:Nat):Int)=N - S5 (qN N (uF s.Members sh)):=by omega
   have e2:lN s.Members.length (ptF (qN N (uF s.Members sh)) (rN N (uF s.Members sh)) 0)=lN s.Members.length (qN N (uF s.Members sh)):=zAC fun i hi=>by
    have:=(zxz (rN N (uF s.Members sh)) (i:=i) (by omega)).1;unfold ptF; rw[if_neg (by omega),Int.add_zero]
   rw[e1,e2] at this;exact this
theorem zAY(hms:zxM s.Members)(hs:zxQ s.Members sh)(h0:¬ zxO sh=true)(hN:0<=N/\N<=1000000):zst s (zAI sh s.Members.length:Int) N=some (lN s.Members.length (zxm N (uF s.Members sh))):=by
 have h5:=hms.1;unfold zst;rw[zqr (by omega),zqr (by omega),Int.toNat_natCast,zAH];refine zAW hms hs ?_ 1000000 0 (Nat.zero_le _) (by omega);have:=zAX hms hs h0 hN 1000000 0 (Nat.zero_le _) (by omega);rw[zwO,zwO] at this
 have e:N - part (qN N (uF s.Members sh)) 0=N:=by show N - 0=N; omega
 rw[e] at this;exact this
end
end
end Go.Proofs.Ytkclhciahokifaa

namespace Go.Proofs.Ytkclhciahokifaa
open _root_.Go.Proofs.Try
open Go.Abs
set_option maxRecDepth 100000
noncomputable section
section
variable {s:Soc} {sh:Nat->Bool} {N:Int}
theorem zAZ(hms:zxM s.Members){p c:Nat->Int}:∀(d k:Nat),k<=s.Members.length->s.Members.length - k < d->zsu s (zAI sh s.Members.length:Int) (lN s.Members.length p) d (k:Int) (lN s.Members.length (stF (fun i=>if sh i=true then p i else c i) c k))=some (lN s.Members.length fun i=>if sh i=true then p i else c i,0)
 | 0,_,_,h=>by omega
 | d+1,k,hk,hd=>by
  have h5:=hms.1;rw[zsu]
  by_cases hkn:k < s.Members.length
  ·have ek:(k:Int)+1=((k+1:Nat):Int):=by omega
   rw[if_pos (by omega),zAR h5 hkn]
   cases hq:sh k with
   | true=>
    have e:p k=(fun i=>if sh i=true then p i else c i) k:=(if_pos hq).symm;rw[if_pos rfl,zAB hkn,obs,zAB hkn,obs,zqr (fI (by omega)),ek,Int.toNat_natCast,e,zAE];exact zAZ hms d (k+1) (by omega) (by omega)
   | false=>
    rw[if_neg (by decide),zqr (fI (by omega)),ek,zAF (if_neg (by rw[hq]; decide))];exact zAZ hms d (k+1) (by omega) (by omega)
  ·have hkn:k=s.Members.length:=by omega
   rw[if_neg (by omega)];subst hkn;rw[zAG]
theorem zA0(hms:zxM s.Members){x9 x20:Int}{off:Nat->Bool}(hx:x9 - x20=(zAI off s.Members.length:Int)){c':Nat->Int}{K:Int->Int->List Int->Option (List Int × Int)}{g:Nat->Int}(hg:∀i,i < 5->0<=g i/\g i<=1000000)(hon:∀i,i < s.Members.length->off i=true->c' i=g i)(hoff:∀i,off i=false->g i=0)(hN:0<=N/\N<=1000000) :
  ∀(d k:Nat),k<=s.Members.length->s.Members.length - k < d->zsv s x9 x20 (lN s.Members.length c') K d (N - part g k) (k:Int)=K (N - part g s.Members.length) x20 (lN s.Members.length c')
 | 0,_,_,h=>by omega
 | d+1,k,hk,hd=>by
  have h5:=hms.1;rw[zsv,hx];have hlt:=zAJ off s.Members.length;have hpw:=zAq (show s.Members.length<=8 by omega)
  by_cases hkn:k < s.Members.length
  ·have ek:(k:Int)+1=((k+1:Nat):Int):=by omega
   have hb:=zwT (f:=g) (B:=1000000) (fun i hi=>by have:=hg i hi; omega) (by omega) k (by omega);have hgk:=hg k (by omega);rw[if_pos (by omega),zqr (fI (by omega)),zAR h5 hkn]
   cases hq:off k with
   | true=>
    have e4:N - part g k - g k=N - part g (k+1):=by show _=N - (part g k+g k); omega
    rw[if_pos rfl,zAB hkn,obs,hon k hkn hq,zqr (fI (by omega)),zqr (fI (by omega)),ek,e4];exact zA0 hms hx hg hon hoff hN d (k+1) (by omega) (by omega)
   | false=>
    have e4:N - part g k=N - part g (k+1):=by show _=N - (part g k+g k); rw[hoff k hq]; omega
    rw[if_neg (by decide),zqr (fI (by omega)),ek,e4];exact zA0 hms hx hg hon hoff hN d (k+1) (by omega) (by omega)
  ·have hkn:k=s.Members.length:=by omega
   rw[if_neg (by omega)];subst hkn
   rfl
theorem zA1(hms:zxM s.Members)(hs:zxQ s.Members sh){x8:Int}{p c:Nat->Int}{K:Int->Int->List Int->Option (List Int × Int)}(hc0:∀i,sh i=true->c i=0){R:Option (List Int × Int)}
  (hR:(if (zAI (zwZ s.Members sh p) s.Members.length:Int)=(zAI sh s.Members.length:Int) then (zsu s (zAI sh s.Members.length:Int) (lN s.Members.length p) 1000000 (0:Int) (lN s.Members.length fun i=>c i+mF s.Members (fun i=>sh i && !zwZ s.Members sh p i) i)) else (zsv s (zAI sh s.Members.length:Int) (zAI (zwZ s.Members sh p) s.Members.length:Int) (lN s.Members.length fun i=>c i+mF s.Members (fun i=>sh i && !zwZ s.Members sh p i) i) K 1000000 x8 (0:Int)))=R) :
  ∀(d k:Nat),k<=s.Members.length->s.Members.length - k < d->zsw s x8 (zAI sh s.Members.length:Int) (lN s.Members.length p) K d (zAI (stF (zwZ s.Members sh p) sh k) s.Members.length:Int) (k:Int) (lN s.Members.length (stF (fun i=>c i+mF s.Members (fun i=>sh i && !zwZ s.Members sh p i) i) c k))=R
 | 0,_,_,h=>by omega
 | d+1,k,hk,hd=>by
  have h5:=hms.1;rw[zsw]
  by_cases hkn:k < s.Members.length
  ·have hg:=List.getElem?_eq_getElem hkn
   have ek:(k:Int)+1=((k+1:Nat):Int):=by omega
   have skip:zwZ s.Members sh p k=sh k->mF s.Members (fun i=>sh i && !zwZ s.Members sh p i) k=0->zAI (stF (zwZ s.Members sh p) sh k) s.Members.length=zAI (stF (zwZ s.Members sh p) sh (k+1)) s.Members.length/\lN s.Members.length (stF (fun i=>c i+mF s.Members (fun i=>sh i && !zwZ s.Members sh p i) i) c k)=lN s.Members.length (stF (fun i=>c i+mF s.Members (fun i=>sh i && !zwZ s.Members sh p i) i) c (k+1)):=fun h1 h2=>by
    refine⟨zAL fun j _=>?_,zAF (show c k+_=c k by rw[h2,Int.add_zero])⟩;unfold stF
    by_cases h3:j=k
    ·subst h3; rw[if_neg (by omega),if_pos (by omega),h1]
    ·by_cases h4:j < k
     ·rw[if_pos h4,if_pos (by omega)]
     ·rw[if_neg h4,if_neg (by omega)]
   rw[if_pos (by omega),zAR h5 hkn]
   cases hq:sh k with
   | true=>
    rw[if_pos rfl,zAB hkn,obs,zrI hg,obs]
    by_cases hm:s.Members[k].Most < p k
    ·have hab:zwZ s.Members sh p k=false:=by rw[zxU hg,hq,Bool.true_and]; exact decide_eq_false (by omega)
     have hmF:mF s.Members (fun i=>sh i && !zwZ s.Members sh p i) k=s.Members[k].Most:=zxX hg (by show(sh k && !zwZ s.Members sh p k)=true; rw[hq,hab]; rfl);have hpw:=zAq (show k<=8 by omega);have hpw2:=zAq (show s.Members.length<=8 by omega);have hlt:=zAJ (stF (zwZ s.Members sh p) sh k) s.Members.length;have hw:zmb .u64 (k:Int)=(k:Int):=wu (by omega)
     have hpow:(1:Int) * 2 ^ (Int.toNat (zmb .u64 (k:Int)))=((2 ^ k:Nat):Int):=by rw[hw,Int.toNat_natCast,Int.one_mul,Int.natCast_pow]; rfl
     have hdrop:=zAV (f:=stF (zwZ s.Members sh p) sh k) (g:=stF (zwZ s.Members sh p) sh (k+1)) hkn (by rw[zwP]; exact hq) (by rw[zwQ _ _ (by omega)]; exact hab) fun j hj=>by
      unfold stF
      by_cases h4:j < k
      ·rw[if_pos h4,if_pos (by omega)]
      ·rw[if_neg h4,if_neg (by omega)]
     have e1:(zAI (stF (zwZ s.Members sh p) sh k) s.Members.length:Int) - ((2 ^ k:Nat):Int)=(zAI (stF (zwZ s.Members sh p) sh (k+1)) s.Members.length:Int):=by rw[hdrop]; omega
     have e2:s.Members[k].Most=(fun i=>c i+mF s.Members (fun i=>sh i && !zwZ s.Members sh p i) i) k:=by show _=c k+_; rw[hc0 k hq,hmF,Int.zero_add]
     have hb1:(0:Int)<=((2 ^ k:Nat):Int):=Int.natCast_nonneg _;rw[if_pos hm,obs,zAB hkn,obs,hpow,hw,zqr (by omega),zqr (by omega),zqr (by omega),zqr (fI (by omega)),e1,zqr (fI (by omega)),zqr (fI (by omega)),ek,Int.toNat_natCast,e2,zAE];exact zA1 hms hs hc0 hR d (k+1) (by omega) (by omega)
    ·have hab:zwZ s.Members sh p k=true:=by rw[zxU hg,hq,Bool.true_and]; exact decide_eq_true (by omega)
     obtain⟨e1,e2⟩:=skip (hab.trans hq.symm) (zxW (by show(sh k && !zwZ s.Members sh p k)=false; rw[hab]; simp));rw[if_neg hm,zqr (fI (by omega)),ek,e1,e2];exact zA1 hms hs hc0 hR d (k+1) (by omega) (by omega)
   | false=>
    have hab:zwZ s.Members sh p k=false:=by
     cases h:zwZ s.Members sh p k with
     | false=>rfl
     | true=>rw[zxT h] at hq; cases hq
    obtain⟨e1,e2⟩:=skip (hab.trans hq.symm) (zxW (by show(sh k && !zwZ s.Members sh p k)=false; rw[hq]; rfl));rw[if_neg (by decide),zqr (fI (by omega)),ek,e1,e2];exact zA1 hms hs hc0 hR d (k+1) (by omega) (by omega)
  ·have hkn:k=s.Members.length:=by omega
   rw[if_neg (by omega)];subst hkn;rw[zAL (g:=zwZ s.Members sh p) fun j hj=>zwQ _ _ hj,zAG];exact hR
end
theorem zA2{s:Soc}(hms:zxM s.Members):∀(n:Nat) (sh:Nat->Bool) (N:Int) (c:Nat->Int),RI s.Members sh N c->cF sh < n->∀d,n < d->zsx s d N (zAI sh s.Members.length:Int) (lN s.Members.length c)=some (lN s.Members.length (roundsN s.Members n sh N c).1,(roundsN s.Members n sh N c).2)
 | 0,_,_,_,_,h=>by omega
 | n+1,sh,N,c,hr,h=>fun d hd=>by
  have h5:=hms.1;obtain⟨d,rfl⟩:∃e,d=e+1:=⟨d - 1,by omega⟩;rw[zsx];unfold roundsN
  have hz:zAI sh s.Members.length=0↔zxO sh=true:=by
   rw[zxR,<- zAO s.Members.length,zAM];refine⟨fun h i hi=>?_,fun h j hj=>h j (by omega)⟩
   cases hq:sh i with
   | false=>rfl
   | true=>rw[h i (hr.sup i hq)] at hq; cases hq
  by_cases h0:zxO sh=true
  ·rw[if_pos h0,if_neg (by have:=hz.2 h0; omega)]
  ·rw[if_neg h0,if_pos (by have:¬ zAI sh s.Members.length=0:=fun h=>h0 (hz.1 h); omega),zAY hms hr.sup h0 hr.nn,obs]
   have hsame:(zAI (zwZ s.Members sh (zxm N (uF s.Members sh))) s.Members.length:Int)=(zAI sh s.Members.length:Int)↔zxP (zwZ s.Members sh (zxm N (uF s.Members sh))) sh=true:=by
    rw[zxS,Int.ofNat_inj,zAM];refine⟨fun h i hi=>?_,fun h j hj=>h j (by omega)⟩
    by_cases hn:i < s.Members.length
    ·exact h i hn
    ·have e1:sh i=false:=by
      cases hq:sh i with
      | false=>rfl
      | true=>have:=hr.sup i hq; omega
     rw[e1]
     cases hq:zwZ s.Members sh (zxm N (uF s.Members sh)) i with
     | false=>rfl
     | true=>rw[zxT hq] at e1; cases e1
   have key:=zA1 (x8:=N) (p:=zxm N (uF s.Members sh)) (K:=zsx s d) hms hr.sup hr.c0 (R:=some (lN s.Members.length (roundsN s.Members (n+1) sh N c).1,(roundsN s.Members (n+1) sh N c).2)) ?_ 1000000 0 (Nat.zero_le _) (by omega)
   ·rw[zwO,zwO] at key;refine key.trans ?_;rw[roundsN,if_neg h0]
   ·rw[roundsN,if_neg h0]
    by_cases h1:zxP (zwZ s.Members sh (zxm N (uF s.Members sh))) sh=true
    ·rw[if_pos (hsame.2 h1),if_pos h1];have h1':=zxS.1 h1
     have ec:lN s.Members.length (fun i=>c i+mF s.Members (fun i=>sh i && !zwZ s.Members sh (zxm N (uF s.Members sh)) i) i)=lN s.Members.length c:=zAC fun i hi=>by
      show c i+_=c i
      rw[show mF s.Members (fun i=>sh i && !zwZ s.Members sh (zxm N (uF s.Members sh)) i) i=0 from zxW (by show(sh i && !zwZ s.Members sh _ i)=false; rw[h1' i (by omega)]; cases sh i <;> rfl),Int.add_zero]
     have:=zAZ (sh:=sh) (p:=zxm N (uF s.Members sh)) (c:=c) hms 1000000 0 (Nat.zero_le _) (by omega);rw[zwO] at this;rw[ec];refine this.trans ?_
     congr 2
     refine zAC fun i hi=>?_
     cases hq:sh i with
     | true=>
      show _=c i+zxm N (uF s.Members sh) i
      rw[if_pos rfl,hr.c0 i hq,Int.zero_add]
     | false=>
      show _=c i+zxm N (uF s.Members sh) i
      rw[if_neg (by decide),zxK (zxZ hms hr.sup h0) (show uF s.Members sh i=0 from zxW hq),Int.add_zero]
    ·rw[if_neg fun h=>h1 (hsame.1 h),if_neg h1];have hless:=zxV h1;have hnext:=hr.next hms h0;have hsub:=zAQ (f:=sh) (g:=zwZ s.Members sh (zxm N (uF s.Members sh))) (n:=s.Members.length) fun j _ hj=>zxT hj;have hmb:=fun i (hi:i < 5)=>zx1 hms hr.sup h0 hr.nn.1 hi;have huo:=zxZ hms hr.sup h0
     have key:=zA0 (s:=s) (N:=N) (x9:=(zAI sh s.Members.length:Int)) (x20:=(zAI (zwZ s.Members sh (zxm N (uF s.Members sh))) s.Members.length:Int)) hms (off:=fun i=>sh i && !zwZ s.Members sh (zxm N (uF s.Members sh)) i) (by omega) (c':=fun i=>c i+mF s.Members (fun i=>sh i && !zwZ s.Members sh (zxm N (uF s.Members sh)) i) i) (K:=zsx s d) (g:=mF s.Members fun i=>sh i && !zwZ s.Members sh (zxm N (uF s.Members sh)) i)
      (fun i hi=>by have:=hmb i hi; have:=zxn huo hr.nn.1 hi; have:=hr.nn; omega)
      (fun i hi ho=>by
       have ho:(sh i && !zwZ s.Members sh (zxm N (uF s.Members sh)) i)=true:=ho
       show c i+_=_
       rw[hr.c0 i ((zx0 _).1 ho).1,Int.zero_add])
      (fun i ho=>zxW ho) hr.nn 1000000 0 (Nat.zero_le _) (by omega)
     have e0:N - part (mF s.Members fun i=>sh i && !zwZ s.Members sh (zxm N (uF s.Members sh)) i) 0=N:=by show N - 0=N; omega
     have e1:part (mF s.Members fun i=>sh i && !zwZ s.Members sh (zxm N (uF s.Members sh)) i) s.Members.length=S5 (mF s.Members fun i=>sh i && !zwZ s.Members sh (zxm N (uF s.Members sh)) i):=zAp _ h5 fun i h1 _=>show mF s.Members _ i=0 from by unfold mF zwX; rw[List.getElem?_eq_none h1]
     rw[e0,e1] at key;exact key.trans (zA2 hms n _ _ _ hnext (by omega) d (by omega))
theorem zA3{s:Soc}(hms:zxM s.Members){sh:Nat->Bool}(hs:zxQ s.Members sh){N:Int}(hN:0<=N/\N<=1000000):zsy s (zAI sh s.Members.length:Int) N=some (lN s.Members.length (zx5 s.Members sh N).1,(zx5 s.Members sh N).2):=by
 have h5:=hms.1;have hc:=zx6 sh;unfold zsy;rw[zqr (by omega),Int.toNat_natCast,zAH];exact zA2 hms 6 sh N _ (RI0 hs hN) (by omega) 1000000 (by omega)
end
end Go.Proofs.Ytkclhciahokifaa

namespace Go.Proofs.Ytkclhciahokifaa
open _root_.Go.Proofs.Try
open Go.Abs
set_option maxRecDepth 100000
noncomputable section
theorem zA4{α:Type}{n:Nat}{f:Nat->α}:lN (n+1) f=lN n f++[f n]:=by unfold lN; rw[List.range_succ,List.map_append]; rfl
def big:Rg:={ Lo:=1099511627776,Hi:=-1 }
def zA5(r:Rg)(x:Int):Rg:={ Lo:=min r.Lo x,Hi:=max r.Hi x }
structure Sp (g:Int->Int) (lo N:Int) (r:Rg):Prop where
 all:∀M,lo<=M->M < N->r.Lo<=g M/\g M<=r.Hi
 ex:(N=lo/\r=big)\/((∃M,(lo<=M/\M < N)/\g M=r.Lo)/\∃M,(lo<=M/\M < N)/\g M=r.Hi)
theorem Sp.zero(g:Int->Int)(lo:Int):Sp g lo lo big:=⟨fun M h1 h2=>by omega,.inl ⟨rfl,rfl⟩⟩
theorem Sp.next{g:Int->Int}{lo N:Int}{r:Rg}(h:Sp g lo N r)(hlo:lo<=N)(hg:0<=g N/\g N<=1000000):Sp g lo (N+1) (zA5 r (g N)):=by
 refine⟨fun M h1 h2=>?_,.inr ?_⟩
 ·show min r.Lo (g N)<=g M/\g M<=max r.Hi (g N)
  by_cases h3:M < N
  ·have:=h.all M h1 h3; omega
  ·have h3:M=N:=by omega
   subst h3; omega
 ·show(∃M,(lo<=M/\M < N+1)/\g M=min r.Lo (g N))/\∃M,(lo<=M/\M < N+1)/\g M=max r.Hi (g N)
  rcases h.ex with ⟨h1,h2⟩ | ⟨⟨a,ha,ea⟩,⟨b,hb,eb⟩⟩
  ·subst h2;exact⟨⟨N,by omega,by show g N=min 1099511627776 (g N); omega⟩,⟨N,by omega,by show g N=max (-1) (g N); omega⟩⟩
  ·constructor
   ·by_cases h1:r.Lo<=g N
    ·exact⟨a,by omega,by omega⟩
    ·exact⟨N,by omega,by omega⟩
   ·by_cases h1:g N<=r.Hi
    ·exact⟨b,by omega,by omega⟩
    ·exact⟨N,by omega,by omega⟩
theorem Sp.done{s:Soc}(hs:zyi s){g:Int->Int}{r:Rg}(h:Sp g (loN s) (hiN s+1) r):r=bnd s g:=by
 have hb:=zyN hs;obtain⟨⟨a,ha,ea⟩,⟨b,hb',eb⟩,hall⟩:=zzr hs g
 rcases h.ex with ⟨h1,_⟩ | ⟨⟨a',ha',ea'⟩,⟨b',hb'',eb'⟩⟩
 ·omega
 ·have h1:=h.all a (by omega) (by omega);have h2:=h.all b (by omega) (by omega);have h3:=hall a' (by omega);have h4:=hall b' (by omega);generalize bnd s g=t at ea eb h3 h4 ⊢
  cases r; cases t
  simp only at ea eb ea' eb' h1 h2 h3 h4
  congr 1 <;> omega
theorem zA6{n:Nat}(hn:n<=5){y1 y2 x25 sh:Int}(hx:0<=x25/\x25<=1000000){c:Nat->Int}{F:Nat->Rg}{K:Int->Int->Int->List Rg->Option (List Rg × Rg)} :
  ∀(d k:Nat),k<=n->n - k < d->zsA y1 y2 x25 (lN n c,sh) K d (k:Int) (lN n (stF (fun i=>zA5 (F i) (c i)) F k))=K (min y1 sh) (max y2 sh) (x25+1) (lN n fun i=>zA5 (F i) (c i))
 | 0,_,_,h=>by omega
 | d+1,k,hk,hd=>by
  rw[zsA,zAz]
  by_cases hkn:k < n
  ·have ek:(k:Int)+1=((k+1:Nat):Int):=by omega
   have e:({ Lo:=min (F k).Lo (c k),Hi:=max (F k).Hi (c k) }:Rg)=(fun i=>zA5 (F i) (c i)) k:=rfl;rw[if_pos (by omega),zAB hkn,obs,zwP]
   show(idx (lN n c) (k:Int)).bind _=_
   rw[zAB hkn,obs,obs,obs,obs,zqr (fI (by omega)),ek,Int.toNat_natCast,e,zAE];exact zA6 hn hx d (k+1) (by omega) (by omega)
  ·have hkn:k=n:=by omega
   subst hkn;rw[if_neg (by omega),zqr (fI (by omega)),zAG]
section
variable {s:Soc} {sh:Nat->Bool}
theorem zA7(hs:zyi s)(hsup:zxQ s.Members sh):∀(d:Nat) (N:Int) (r:Rg) (F:Nat->Rg),loN s<=N->N<=hiN s+1->(hiN s+1 - N).toNat < d->Sp (fun N=>(zx5 s.Members sh N).2) (loN s) N r->(∀k,k < s.Members.length->Sp (fun N=>(zx5 s.Members sh N).1 k) (loN s) N (F k)) ->
  zsB s (zAI sh s.Members.length:Int) { Lo:=loN s,Hi:=hiN s } d r.Lo r.Hi N (lN s.Members.length F)=some (lN s.Members.length fun k=>bnd s fun N=>(zx5 s.Members sh N).1 k,bnd s fun N=>(zx5 s.Members sh N).2)
 | 0,_,_,_,_,_,hd,_,_=>by omega
 | d+1,N,r,F,hlo,hhi,hd,hr,hF=>by
  have hnb:=zyN hs;have h5:=hs.m5;rw[zsB]
  by_cases hN:N<=hiN s
  ·have hsum:=zyb hs.msOk hsup (N:=N) (by omega);have hbd:=fun {i:Nat} (hi:i < 5)=>zye hs.msOk hsup (N:=N) (by omega) hi;rw[if_pos (by show N<=hiN s; exact hN),zA3 hs.msOk hsup (by omega),obs];have key:=zA6 (y1:=r.Lo) (y2:=r.Hi) (x25:=N) (sh:=(zx5 s.Members sh N).2) (c:=(zx5 s.Members sh N).1) (F:=F) (K:=zsB s (zAI sh s.Members.length:Int) { Lo:=loN s,Hi:=hiN s } d) h5 (by omega) ((lN s.Members.length (zx5 s.Members sh N).1).length+1) 0 (Nat.zero_le _) (by rw[zAz]; omega);rw[zwO] at key;refine key.trans ?_
   have hb:0<=S5 (zx5 s.Members sh N).1:=by
    have h6:S5 (fun _=>(0:Int))<=S5 (zx5 s.Members sh N).1:=zxt fun i hi=>(hbd hi).1;have h7:S5 (fun _=>(0:Int))=0:=rfl
    omega
   exact zA7 hs hsup d (N+1) (zA5 r (zx5 s.Members sh N).2) _ (by omega) (by omega) (by omega) (hr.next hlo (by show 0<=(zx5 s.Members sh N).2/\(zx5 s.Members sh N).2<=1000000; omega)) fun k hk=>(hF k hk).next hlo (by have:=hbd (i:=k) (by omega); show 0<=(zx5 s.Members sh N).1 k/\(zx5 s.Members sh N).1 k<=1000000; omega)
  ·have hN:N=hiN s+1:=by omega
   subst hN;rw[if_neg (by show ¬ hiN s+1<=hiN s; omega)];have e1:=hr.done hs;have e2:lN s.Members.length F=lN s.Members.length fun k=>bnd s fun N=>(zx5 s.Members sh N).1 k:=zAC fun k hk=>(hF k hk).done hs;rw[e2,<- e1]
theorem zA8(h5:s.Members.length<=5){who:Int}{r:Rg}:∀(d k:Nat),k<=s.Members.length->s.Members.length - k < d->zsC s who r d (lN k fun _=>big) (k:Int)=zsB s who r 1000000 big.Lo big.Hi r.Lo (lN s.Members.length fun _=>big)
 | 0,_,_,h=>by omega
 | d+1,k,hk,hd=>by
  rw[zsC]
  by_cases hkn:k < s.Members.length
  ·have ek:(k:Int)+1=((k+1:Nat):Int):=by omega
   have e:lN k (fun _=>big)++[({ Lo:=(1099511627776:Int),Hi:=(-1:Int) }:Rg)]=lN (k+1) fun _=>big:=zA4.symm;rw[if_pos (by omega),zqr (by rw[zAz]; omega),zqr (fI (by omega)),ek,e];exact zA8 h5 d (k+1) (by omega) (by omega)
  ·have hkn:k=s.Members.length:=by omega
   rw[if_neg (by omega),hkn]; rfl
theorem zA9(hs:zyi s)(hsup:zxQ s.Members sh):zsD s (zAI sh s.Members.length:Int)=some (lN s.Members.length fun k=>bnd s fun N=>(zx5 s.Members sh N).1 k,bnd s fun N=>(zx5 s.Members sh N).2):=by
 have hnb:=zyN hs;have h5:=hs.m5;unfold zsD;rw[zAo hs,obs];refine(zA8 h5 1000000 0 (Nat.zero_le _) (by omega)).trans ?_;exact zA7 hs hsup 1000000 (loN s) big _ (Int.le_refl _) (by omega) (by omega) (Sp.zero _ _) fun k _=>Sp.zero _ _
end
end
end Go.Proofs.Ytkclhciahokifaa

namespace Go.Proofs.Ytkclhciahokifaa
open _root_.Go.Proofs.Try
open Go.Abs
set_option maxRecDepth 100000
noncomputable section
theorem zBa{s:Soc}(hs:zyi s){k:Nat}(hk:k<=10000)(h1:hiN s<=brN s.Members (k:Int))(h2:∀m:Nat,m < k->brN s.Members (m:Int) < hiN s):∀(d m:Nat),m<=k->k - m < d->zsG s d (m:Int)=some (k:Int)
 | 0,_,_,h=>by omega
 | d+1,m,hm,hd=>by
  rw[zsG,if_pos (by omega),zAf hs (by omega),obs,zAo hs,obs]
  show(if hiN s<=brN s.Members (m:Int) then _ else _)=_
  by_cases hmk:m=k
  ·subst hmk; rw[if_pos h1]
  ·have:=h2 m (by omega);rw[if_neg (by omega),zqr (fI (by omega)),show(m:Int)+1=((m+1:Nat):Int) by omega];exact zBa hs hk h1 h2 d (m+1) (by omega) (by omega)
theorem zBb{s:Soc}(hs:zyi s)(h2:∀m:Nat,m<=10000->brN s.Members (m:Int) < hiN s):∀(d m:Nat),m<=10001->10001 - m < d->zsG s d (m:Int)=some (-1)
 | 0,_,_,h=>by omega
 | d+1,m,hm,hd=>by
  rw[zsG]
  by_cases hmk:m<=10000
  ·have:=h2 m hmk;rw[if_pos (by omega),zAf hs (by omega),obs,zAo hs,obs]
   show(if hiN s<=brN s.Members (m:Int) then _ else _)=_
   rw[if_neg (by omega),zqr (fI (by omega)),show(m:Int)+1=((m+1:Nat):Int) by omega];exact zBb hs h2 d (m+1) (by omega) (by omega)
  ·rw[if_neg (by omega)]
theorem zBc{s:Soc}(hs:zyi s)(h0:hiN s=0)(l:List Int):zzU s l=false:=by
 cases hq:zzU s l with
 | false=>rfl
 | true=>
  have:=(zzV hs _).1 hq
  have h6:S5 (fun _=>(0:Int))<=S5 (mF s.Members (zyw s.Members.length l)):=zxt fun i hi=>by
   have h1:=zyf hs.msOk (zyy s.Members l) (N:=0) (by omega) hi;have h2:=zye hs.msOk (zyy s.Members l) (N:=0) (by omega) hi
   omega
  have h7:S5 (fun _=>(0:Int))=0:=rfl
  omega
structure Iv (s:Soc) (x:Nat) (l:List Int) (b:Bool):Prop where
 no:b=false->∀y,y < x->zzU s (zyW y)=false
 yes:b=true->(∃y,y < x/\l=zyW y)/\zzU s l=true/\∀z,z < x->zzU s (zyW z)=true->l=zyW z\/shB l (zyW z)=true
theorem Iv.stay{s:Soc}{x:Nat}{l:List Int}{b:Bool}(h:Iv s x l b)(hx:zzU s (zyW x)=true->b=true/\(l=zyW x\/shB l (zyW x)=true)):Iv s (x+1) l b:=by
 refine⟨fun hb y hy=>?_,fun hb=>?_⟩
 ·by_cases h1:y < x
  ·exact h.no hb y h1
  ·have h1:y=x:=by omega
   subst h1
   cases hq:zzU s (zyW y) with
   | false=>rfl
   | true=>have:=(hx hq).1; rw[hb] at this; cases this
 ·obtain⟨⟨y,hy,e⟩,h2,h3⟩:=h.yes hb;refine⟨⟨y,by omega,e⟩,h2,fun z hz hm=>?_⟩
  by_cases h1:z < x
  ·exact h3 z h1 hm
  ·have h1:z=x:=by omega
   subst h1;exact(hx hm).2
theorem Iv.new{s:Soc}{x:Nat}{l:List Int}{b:Bool}(h:Iv s x l b)(hm:zzU s (zyW x)=true)(hb:b=true->shB (zyW x) l=true):Iv s (x+1) (zyW x) true where
 no:=fun h=>by cases h
 yes:=fun _=>by
  refine⟨⟨x,by omega,rfl⟩,hm,fun z hz hmz=>?_⟩
  by_cases h1:z < x
  ·cases b with
   | false=>rw[h.no rfl z h1] at hmz; cases hmz
   | true=>
    obtain⟨_,_,h3⟩:=h.yes rfl
    rcases h3 z h1 hmz with h4 | h4
    ·rw[<- h4]; exact .inr (hb rfl)
    ·exact .inr (zy7 (hb rfl) h4)
  ·have h1:z=x:=by omega
   subst h1; exact .inl rfl
theorem zBd{s:Soc}(hs:zyi s):∀(d x:Nat) (l:List Int) (b:Bool),x<=2 ^ s.Members.length->2 ^ s.Members.length - x < d->Iv s x l b->l.length<=16->∃l' b',zsN s d l b (x:Int)=some (l',b')/\Iv s (2 ^ s.Members.length) l' b'
 | 0,_,_,_,_,h,_,_=>by omega
 | d+1,x,l,b,hx,hd,hI,hl=>by
  have h5:=hs.m5;have hpw:=zAq (show s.Members.length<=8 by omega);have hfl:=zAs s.Members.length
  have hfe:zAr s.Members.length+1=2 ^ s.Members.length:=by have:0 < 2 ^ s.Members.length:=Nat.two_pow_pos _; unfold zAr; omega
  rw[zsN,zAt (by omega),obs]
  by_cases hxe:x < 2 ^ s.Members.length
  ·have ex:(x:Int)+1=((x+1:Nat):Int):=by omega
   have hlb:=zz4 (b:=x)
   have hmk:(zAr s.Members.length:Int) - (x:Int)=(zAI (zyw s.Members.length (zyW x)) s.Members.length:Int):=by
    have hsub:=zAQ (f:=fun _=>true) (g:=x.testBit) (n:=s.Members.length) fun _ _ _=>rfl;rw[zAP,zAN hxe] at hsub
    have e1:zAI (fun j=>true && !x.testBit j) s.Members.length=zAI (zyw s.Members.length (zyW x)) s.Members.length:=zAL fun j hj=>by
     rw[zAx h5 hxe,decide_eq_true hj]
    have e2:zAr s.Members.length=x+zAI (zyw s.Members.length (zyW x)) s.Members.length:=hsub.trans (congrArg (x + ·) e1);rw[e2];generalize zAI (zyw s.Members.length (zyW x)) s.Members.length=y
    omega
   have hb:zsD s (zAI (zyw s.Members.length (zyW x)) s.Members.length:Int)=some (zzC s (zyW x),bnd s (zzH s (zyW x))):=zA9 hs (zyy s.Members (zyW x));have hmlt:=zAJ (zyw s.Members.length (zyW x)) s.Members.length
   have try_:(b=true->shB (zyW x) l=true)->∃l' b',((some (zAr s.Members.length:Int)).bind fun r1462=>(gd (zl6 .i64 (r1462 - (x:Int))) ((zsD s (r1462 - (x:Int))).bind fun r1470=>(if (0:Int) < r1470.2.Hi then (gd (zl6 .i64 ((x:Int)+(1:Int))) (zsN s d (zyW x) true ((x:Int)+(1:Int)))) else (gd (zl6 .i64 ((x:Int)+(1:Int))) (zsN s d l b ((x:Int)+(1:Int))))))))=some (l',b')/\Iv s (2 ^ s.Members.length) l' b':=fun hsh=>by
    rw[obs,hmk,zqr (fI (by omega)),hb,obs]
    show ∃l' b',(if 0 < (bnd s (zzH s (zyW x))).Hi then _ else _)=_/\_
    by_cases hm:0 < (bnd s (zzH s (zyW x))).Hi
    ·rw[if_pos hm,zqr (fI (by omega)),ex];exact zBd hs d (x+1) _ _ (by omega) (by omega) (hI.new (decide_eq_true hm) hsh) hlb
    ·rw[if_neg hm,zqr (fI (by omega)),ex];exact zBd hs d (x+1) _ _ (by omega) (by omega) (hI.stay fun h=>absurd (of_decide_eq_true h) hm) hl
   rw[if_pos (by omega),zz0 (by omega),obs]
   cases b with
   | true=>
    rw[if_pos rfl,zz3 (by omega),obs]
    cases hsh:shB (zyW x) l with
    | true=>
     rw[if_pos rfl];exact try_ fun _=>hsh
    | false=>
     rw[if_neg (by decide),zqr (fI (by omega)),ex];refine zBd hs d (x+1) _ _ (by omega) (by omega) (hI.stay fun _=>⟨rfl,?_⟩) hl
     rcases zy8 l (zyW x) with h | h | h
     ·exact .inl h
     ·exact .inr h
     ·rw[h] at hsh; cases hsh
   | false=>
    rw[if_neg (by decide)]
    exact try_ fun h=>by cases h
  ·have hxe:x=2 ^ s.Members.length:=by omega
   rw[if_neg (by omega)];refine⟨l,b,rfl,?_⟩;rw[<- hxe]; exact hI
theorem zBe{s:Soc}(hs:zyi s):∃l b,zsO s=some (l,b)/\((hiN s=0/\b=false)\/(hiN s ≠ 0/\b=true/\l=zry s.Members.length (zzU s)/\l.length<=5)):=by
 have h5:=hs.m5;have hpw:=zAq (show s.Members.length<=8 by omega);obtain⟨l,b,h1,h2⟩:=zBd hs 1000000 0 [] false (Nat.zero_le _) (by omega) ⟨fun _ y hy=>by omega,fun h=>by cases h⟩ (Nat.zero_le _);refine⟨l,b,h1,?_⟩
 by_cases h0:hiN s=0
 ·refine .inl ⟨h0,?_⟩
  cases b with
  | false=>rfl
  | true=>
   have:=(h2.yes rfl).2.1
   rw[zBc hs h0] at this; cases this
 ·obtain⟨k1,k2,k3⟩:=zzf (zAy hs h0);obtain⟨z,hz1,hz2⟩:=zzj (by omega) k1;refine .inr ⟨h0,?_⟩
  cases b with
  | false=>
   have:=h2.no rfl z hz1
   rw[hz2,k2] at this; cases this
  | true=>
   obtain⟨⟨y,hy,e⟩,h3,h4⟩:=h2.yes rfl
   have hinc:Inc s.Members.length 0 l:=by rw[e]; exact zzi (by omega) hy
   have hlen:=zyT hinc;refine⟨rfl,?_,by omega⟩
   rcases h4 z hz1 (by rw[hz2]; exact k2) with h | h
   ·rw[h,hz2]
   ·rw[hz2] at h
    rcases k3 l hinc h3 with h5 | h5
    ·exact h5
    ·rw[zy9 h5] at h; cases h
theorem zBf{s:Soc}(h1:zrS s.Members)(h2:zrS s.Losses)(hf:zyj s ≠ 0):zuf s=some (0,zyj s):=by
 unfold zuf;rw[zyH h1 h2 hf,obs,if_neg hf]
theorem zBg{s:Soc}(h1:zrS s.Members)(h2:zrS s.Losses)(hf:zyj s ≠ 0):zug s=some ([],zyj s):=by
 unfold zug;rw[zyH h1 h2 hf,obs,if_neg hf]
theorem zBh{s:Soc}(hs:zyi s){r:List Int × Int}(hr:zug s=some r):((zsO s).bind fun r1835=>(if r1835.2=true then (if r.2=(0:Int) then ((zsP r.1 r1835.1).bind fun r1854=>(if r1854=true then ((zup).bind fun r1861=>(some r1861)) else (some false))) else (some false)) else (if r.2=(7:Int) then (if (r.1.length:Int)=(0:Int) then ((zup).bind fun r1847=>(some r1847)) else (some false)) else (some false))))=some true:=by
 obtain⟨l,b,h1,h2⟩:=zBe hs;rw[h1,obs]
 rcases h2 with ⟨h0,h3⟩ | ⟨h0,h3,h4,h5⟩
 ·rw[zzX hs h0] at hr
  cases hr
  subst h3;rw[if_neg (by intro h; cases h),if_pos (by rfl),if_pos (by rfl),awk]
 ·rw[zzY hs h0] at hr
  cases hr
  subst h3;rw[if_pos rfl,if_pos rfl]
  show(zsP (zry s.Members.length (zzU s)) l).bind _=_
  rw[<- h4,zz6 (by omega) (by omega),obs,if_pos (decide_eq_true rfl),awk]
theorem zBi{s:Soc}(_:zsc s):zuq s=some true:=by
 unfold zuq
 refine zz8.pick (fun ht=>?_) fun _=>by rw[if_neg (by decide),awk]
 have hM:zrS s.Members:=by have:=ht.1; unfold zrS; omega
 have hL:zrS s.Losses:=by have:=ht.2; unfold zrS; omega
 rw[if_pos rfl,zz9 ht,obs]
 by_cases hf:zyj s=0
 ·have hs:=zyk.1 hf
  obtain⟨r,hr⟩:∃r,zug s=some r:=by
   by_cases h0:hiN s=0
   ·exact⟨_,zzX hs h0⟩
   ·exact⟨_,zzY hs h0⟩
  have tail:=zBh hs hr
  rcases zzT hs with ⟨k,q1,q2,q3,q4⟩ | ⟨q1,q2⟩
  ·have hp:zsH s=some (k:Int):=zBa hs q2 q3 q4 _ 0 (Nat.zero_le _) (by show k - 0 < 10002; omega);rw[q1,obs,obs,hr,obs,zyv ht.1 ht.2,obs,if_pos hf,hp,obs,if_neg (by omega),if_pos rfl,if_pos rfl];exact tail
  ·have hp:zsH s=some (-1):=zBb hs q2 _ 0 (by omega) (by show 10001 - 0 < 10002; omega);rw[q1,obs,obs,hr,obs,zyv ht.1 ht.2,obs,if_pos hf,hp,obs,if_pos (by decide),if_pos rfl,if_pos rfl];exact tail
 ·rw[zBf hM hL hf,obs,obs,zBg hM hL hf,obs,zyv ht.1 ht.2,obs,if_neg hf,if_pos (by rfl),if_pos (by rfl),if_pos (by rfl),if_pos (by rfl),awk]
end
end Go.Proofs.Ytkclhciahokifaa

namespace Go.Proofs.Ytkclhciahokifaa
open _root_.Go.Proofs.Try
open Go.ChangeShapes Go.WideShapes Go.ChangeAt Go.RowKit Go.Abs
set_option maxRecDepth 100000
theorem op3:zrY prog 3 Int (zl6 .i64):=zrZ (by kernel_rfl)
theorem zBj:zrY prog 82 Mb zsa:=zr6 (fs:=[(3,0),(3,1),(3,2)]) (by kernel_rfl) (by kernel_rfl) (zr5 (α:=Int) (ok:=zl6 .i64) (k:=1) op3 (by kernel_rfl) rfl (zr5 (α:=Int) (ok:=zl6 .i64) (k:=1) op3 (by kernel_rfl) rfl (zr5 (α:=Int) (ok:=zl6 .i64) (k:=1) op3 (by kernel_rfl) rfl zr4))) (by kernel_rfl) fun m vs h=>by
 obtain⟨a0,c0,r0,m0,h0,p0,k0,s0,⟨a1,c1,r1,m1,h1,p1,k1,s1,⟨a2,c2,r2,m2,h2,p2,k2,s2,rfl⟩⟩⟩:=h;have p0:c0=[.int .i64 a0]:=p0; subst p0;have p1:c1=[.int .i64 a1]:=p1; subst p1;have p2:c2=[.int .i64 a2]:=p2; subst p2;subst h2 h1 h0;exact⟨⟨a0,a1,a2⟩,rfl,⟨k0,k1,k2⟩⟩
theorem zBk:zrY prog 22 (List Mb) (fun l=>l.length<=maxLen/\∀a0∈l,zsa a0):=zr1 (by kernel_rfl) (by kernel_rfl) zBj
theorem zBl:zrY prog 25 Rg zr8:=zr6 (fs:=[(3,0),(3,1)]) (by kernel_rfl) (by kernel_rfl) (zr5 (α:=Int) (ok:=zl6 .i64) (k:=1) op3 (by kernel_rfl) rfl (zr5 (α:=Int) (ok:=zl6 .i64) (k:=1) op3 (by kernel_rfl) rfl zr4)) (by kernel_rfl) fun m vs h=>by
 obtain⟨a0,c0,r0,m0,h0,p0,k0,s0,⟨a1,c1,r1,m1,h1,p1,k1,s1,rfl⟩⟩:=h;have p0:c0=[.int .i64 a0]:=p0; subst p0;have p1:c1=[.int .i64 a1]:=p1; subst p1;subst h1 h0;exact⟨⟨a0,a1⟩,rfl,⟨k0,k1⟩⟩
theorem zBm:zrY prog 23 (List Rg) (fun l=>l.length<=maxLen/\∀a0∈l,zr8 a0):=zr1 (by kernel_rfl) (by kernel_rfl) zBl
theorem zBn:zrY prog 27 Soc zsc:=zr6 (fs:=[(22,0),(23,1),(25,2),(3,4)]) (by kernel_rfl) (by kernel_rfl) (zr5 (α:=List Mb) (ok:=(fun l=>l.length<=maxLen/\∀a0∈l,zsa a0)) (k:=1) zBk (by kernel_rfl) rfl (zr5 (α:=List Rg) (ok:=(fun l=>l.length<=maxLen/\∀a0∈l,zr8 a0)) (k:=1) zBm (by kernel_rfl) rfl (zr5 (α:=Rg) (ok:=zr8) (k:=2) zBl (by kernel_rfl) rfl (zr5 (α:=Int) (ok:=zl6 .i64) (k:=1) op3 (by kernel_rfl) rfl zr4)))) (by kernel_rfl) fun m vs h=>by
 obtain⟨a0,c0,r0,m0,h0,p0,k0,s0,⟨a1,c1,r1,m1,h1,p1,k1,s1,⟨a2,c2,r2,m2,h2,p2,k2,s2,⟨a3,c3,r3,m3,h3,p3,k3,s3,rfl⟩⟩⟩⟩:=h;obtain⟨d0,rfl,p0⟩:=p0;obtain⟨d1,rfl,p1⟩:=p1;have p2:c2=[.int .i64 a2.Lo,.int .i64 a2.Hi]:=p2; subst p2;have p3:c3=[.int .i64 a3]:=p3; subst p3;subst h3 h2 h1 h0;exact⟨⟨a0,a1,a2,a3⟩,⟨_,_,rfl,p0,p1⟩,⟨k0,k1,k2,k3⟩⟩
theorem zBo:laidOutB prog=true:=by kernel_rfl
theorem zBp:ownKnob prog.godebug=none:=by kernel_rfl
theorem zBq(os:Os)(started:os.Started)(H:Type)(enc:TypeId × Value->H) :
    ReturnsInHanded {} Try.checked os 6 .any (Rows.callRatesSpec.pre6 enc Try.prog Try.f6 Rows.callRatesRow.domain false) (Rows.callRatesSpec.post enc Try.prog Try.f6 false true false false):=by
  refine returnsInHanded_of_change (C:=Try.checked) zBp started (by kernel_rfl) Try.func6
    (ChangeSpec.witness6 (enc:=enc) (C:=Try.checked) false ⟨#[],#[.agg #[.slice none 0 0,.slice none 0 0,.int .i64 0,.int .i64 0,.int .i64 0]],[]⟩ 8 (by kernel_rfl) (by kernel_rfl) (by kernel_rfl) (by kernel_rfl)) ?_
  intro W base args ds gs before hval0 hW hcnd _;have hval:∀(j:Nat) t v,Try.f6.params[j]? = some t->args[j]? = some v->Value.okWide Try.prog W .any base t v:=hval0;have hW':=hW;obtain⟨p,q,hA0,hV,rfl,hfz,hnd⟩:=hW;have hA:DataW.TrodAll enc Try.prog W 0 (fun _=>true) true Try.f6.params.toList args.toList ds p:=hA0;rw[Try.params6] at hA hval;obtain⟨v0,d0,rfl,rfl,h0⟩:=trodAll_one hA;obtain⟨rfl,rfl⟩:=trodVars_none hV
  have hlt:∀x∈p,x.block < W.heap.size:=fun x hx=>by simpa using hW'.lt x (by simpa using hx)
  obtain⟨fu0,hf0⟩:=id h0
  clear hA0 hval0
  obtain⟨e0,m0,w0,a_0,le0,sv0,lay0,cr0,zuT,ok0⟩:=zBn H enc W true _ _ _ hf0 _ _ (Lay.nil W);obtain⟨c0_0,c0_1,rfl,g0_0,g0_1⟩:=zuT
  obtain⟨cs0,hv0,cl0⟩:∃cs,v0=.agg cs/\v0.cells.toList=cs.toList:=by
    have hl:=cr0.length
    cases v0 with
    | agg cs=>exact⟨cs,rfl,rfl⟩
    | _=>exact absurd hl (by simp[Value.cells])
  subst hv0;have hargs:zeq (VR e0) [.agg 5 [c0_0,c0_1,.int .i64 a_0.Treaty.Lo,.int .i64 a_0.Treaty.Hi,.int .i64 a_0.Reserve]] [.agg cs0]:=.cons ⟨cs0,rfl,cr0,rfl⟩ .nil;refine(callsIn_wide.1 (zqC fits htab (zwJ (s:=a_0) lay0.pre g0_0 g0_1 (zBi ok0) (Q:=fun v _=>v=.c (.bool true)) fun _ _=>rfl) lay0.hr (args':=#[.agg cs0]) hargs 0)).mono fun en W' hp=>?_;obtain⟨v,v',e',m',rfl,hst,hvr,rfl⟩:=hp;have hv':v'=.bool true:=hvr;subst hv';have hbelow:=lay0.below hst
  refine⟨_,rfl,[d0],[],p,[],p,[],by simpa using hW',trodAll_mk1 (shut_bool Try.underlying4 _),
    trodAll_mk1 (Below.trod zBo (by kernel_rfl) (of_decide_eq_true (by kernel_rfl)) h0 hbelow fun x hx=>hlt x (by simp[hx])),rfl,lay0.kept hst _,fun hc=>by cases hc⟩
theorem CallRates_holds:Rows.CallRatesSaid:=
 OpenClaim.holds_of_wide 6 Try.f6 rfl rfl rfl rfl rfl rfl rfl ⟨rfl,rfl,rfl,rfl,rfl⟩ rfl rfl rfl rfl rfl (by kernel_rfl) Try.func6 (by kernel_rfl)
  (of_decide_eq_true (by kernel_rfl)) (by unfold Func.isWrapper; first | (rw[if_pos (by decide +kernel)]; kernel_rfl) | (rw[if_neg (by decide +kernel)]; exact⟨rfl,rfl⟩))
  (fun os started H enc _=>zBq os started H enc)
end Go.Proofs.Ytkclhciahokifaa

