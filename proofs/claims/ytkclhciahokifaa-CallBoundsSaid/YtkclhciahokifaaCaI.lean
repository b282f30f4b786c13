/- CallBounds, for all that it can be called with, returns true. Condition: none. -/
import Derived.Test.YtkclhciahokifaaCaH
import GoSem.Step
import GoSem.ClaimKeys
import Derived.DeepKeys2
import Derived.RangeFuncLeaves
import Derived.OrdersIn
import Derived.Laws.World
import Derived.Laws.Sem
import Derived.RangeFuncRecord
import Derived.Laws.CopyRow
import Derived.Laws.Append
import Derived.Laws.Rows
import Derived.Laws.Slices
import Derived.Laws.Entries
import Derived.ChangeKeysEq
import Derived.IntWalk
import Derived.DeepKeys
import Derived.DeepKeys3
import Derived.Laws.StructEq
import Derived.MapKept
import Derived.Laws.AppendOwn
import Derived.ChangeArms
import Derived.ChangeOld
import Derived.Carry
import Derived.ChangeShapes
import Derived.KernelRfl
import Derived.ProofKit
import Derived.Test.YtkclhciahokifaaRows

namespace Go.Proofs.Ytkclhciahokifaa
open _root_.Go.Proofs.Try
open Go.Abs
set_option maxRecDepth 100000
noncomputable section
theorem zwJ{S β:Type}{n:Nat}(F:Nat->S->Int->Option β)(st:Nat->S){fin:Option β}(hstep:∀d k,k < n->F (d+1) (st k) (k:Int)=F d (st (k+1)) ((k:Int)+1))(hend:∀d,F (d+1) (st n) (n:Int)=fin) :
  ∀d k,k<=n->n - k < d->F d (st k) (k:Int)=fin
 | 0,k,_,h=>by omega
 | d+1,k,hk,h=>by
  by_cases hkn:k=n
  ·subst hkn; exact hend d
  ·rw[hstep d k (by omega),show(k:Int)+1=((k+1:Nat):Int) by omega];exact zwJ F st hstep hend d (k+1) (by omega) (by omega)
def S5(f:Nat->Int):Int:=f 0+f 1+f 2+f 3+f 4
def mk5(f:Nat->Int):P5:=⟨f 0,f 1,f 2,f 3,f 4⟩
def mkF(f:Nat->Bool):F5:=⟨f 0,f 1,f 2,f 3,f 4⟩
def l5{α:Type}(f:Nat->α):List α:=[f 0,f 1,f 2,f 3,f 4]
theorem zwK{α:Type}{f:Nat->α}{k:Nat}(hk:k < 5):(l5 f)[k]? = some (f k):=by
 match k,hk with
 | 0,_=>rfl
 | 1,_=>rfl
 | 2,_=>rfl
 | 3,_=>rfl
 | 4,_=>rfl
theorem zwL{α:Type}{f:Nat->α}{k:Nat}(hk:k < 5):idx (l5 f) (k:Int)=some (f k):=zrI (zwK hk)
theorem zwM{α:Type}(g f:Nat->α)(k j:Nat):sti (k:Int) j (g k) (if j < k then g j else f j)=if j < k+1 then g j else f j:=by
 unfold sti
 by_cases h:j=k
 ·subst h; rw[if_pos rfl,if_pos (by omega)]
 ·rw[if_neg (by omega)]
  by_cases h2:j < k
  ·rw[if_pos h2,if_pos (by omega)]
  ·rw[if_neg h2,if_neg (by omega)]
def stF{α:Type}(g f:Nat->α)(k:Nat):Nat->α:=fun j=>if j < k then g j else f j
theorem zwN{α:Type}(g f:Nat->α):stF g f 0=f:=by funext j; exact if_neg (by omega)
theorem zwO{α:Type}(g f:Nat->α)(k:Nat):stF g f k k=f k:=if_neg (by omega)
theorem zwP{α:Type}(g f:Nat->α){k j:Nat}(h:j < k):stF g f k j=g j:=if_pos h
theorem zwQ{α:Type}(g f:Nat->α)(k j:Nat):sti (k:Int) j (g k) (stF g f k j)=stF g f (k+1) j:=zwM g f k j
def part(f:Nat->Int):Nat->Int
 | 0=>0
 | k+1=>part f k+f k
theorem zwR(f:Nat->Int):part f 5=S5 f:=by show 0+f 0+f 1+f 2+f 3+f 4=_; unfold S5; omega
theorem zwS{f:Nat->Int}{B:Int}(h:∀i,i < 5->-B<=f i/\f i<=B)(hB:0<=B):∀k,k<=5->-(5 * B)<=part f k/\part f k<=5 * B
 | 0,_=>⟨by show -(5 * B)<=0; omega,by show(0:Int)<=_; omega⟩
 | 1,_=>by have:=h 0 (by omega); show -(5 * B)<=0+f 0/\0+f 0<=_; omega
 | 2,_=>by have:=h 0 (by omega); have:=h 1 (by omega); show -(5 * B)<=0+f 0+f 1/\0+f 0+f 1<=_; omega
 | 3,_=>by have:=h 0 (by omega); have:=h 1 (by omega); have:=h 2 (by omega); show -(5 * B)<=0+f 0+f 1+f 2/\0+f 0+f 1+f 2<=_; omega
 | 4,_=>by have:=h 0 (by omega); have:=h 1 (by omega); have:=h 2 (by omega); have:=h 3 (by omega); show -(5 * B)<=0+f 0+f 1+f 2+f 3/\0+f 0+f 1+f 2+f 3<=_; omega
 | 5,_=>by have:=h 0 (by omega); have:=h 1 (by omega); have:=h 2 (by omega); have:=h 3 (by omega); have:=h 4 (by omega); show -(5 * B)<=0+f 0+f 1+f 2+f 3+f 4/\0+f 0+f 1+f 2+f 3+f 4<=_; omega
 | k+6,h=>by omega
def Bd(B:Int)(f:Nat->Int):Prop:=∀i,i < 5->-B<=f i/\f i<=B
theorem zwT{f:Nat->Int}(h:Bd 1000000000000 f):zts (mk5 f)=some (S5 f):=by
 unfold zts
 show ztr (mk5 f) 6 (part f 0) 0=_
 refine zwJ (n:=5) (fun d s x=>ztr (mk5 f) d s x) (part f) (fun d k hk=>?_) (fun d=>?_) 6 0 (by omega) (by omega)
 ·have h1:=zwS h (by omega) k (by omega);have h2:=h k hk
  show ztr (mk5 f) (d+1) _ _=_
  rw[ztr,if_pos (by omega)]
  show(idx (l5 f) (k:Int)).bind _=_
  rw[zwL hk,obs,zqr (fI (by omega)),zqr (fI (by omega))]; rfl
 ·show ztr (mk5 f) (d+1) _ _=_
  rw[ztr,if_neg (by omega),zwR]
theorem zwU{f g:Nat->Int}(hf:Bd 1000000000000 f)(hg:Bd 1000000000000 g):ztu (mk5 f) (mk5 g)=some (mk5 fun i=>f i+g i):=by
 unfold ztu;have key:=zwJ (n:=5) (fun d s x=>ztt (mk5 g) d (s 0) (s 1) (s 2) (s 3) (s 4) x) (stF (fun i=>f i+g i) f) (fin:=some (mk5 fun i=>f i+g i)) (fun d k hk=>?_) (fun d=>?_) 6 0 (by omega) (by omega)
 ·rw[zwN] at key; exact key
 ·have h1:=hf k hk;have h2:=hg k hk
  show ztt (mk5 g) (d+1) _ _ _ _ _ _=_
  rw[ztt,if_pos (by omega)]
  show(idx (l5 g) (k:Int)).bind _=_
  rw[zwL hk,obs]
  show(idx (l5 (stF (fun i=>f i+g i) f k)) (k:Int)).bind _=_
  rw[zwL hk,obs,zwO,zqr (fI (by omega)),zqr (by omega),zqr (fI (by omega))];have e:=zwQ (fun i=>f i+g i) f k
  show ztt (mk5 g) d (sti (k:Int) 0 ((fun i=>f i+g i) k) _) (sti (k:Int) 1 ((fun i=>f i+g i) k) _) (sti (k:Int) 2 ((fun i=>f i+g i) k) _) (sti (k:Int) 3 ((fun i=>f i+g i) k) _) (sti (k:Int) 4 ((fun i=>f i+g i) k) _) _=_
  rw[e 0,e 1,e 2,e 3,e 4]
 ·show ztt (mk5 g) (d+1) _ _ _ _ _ _=_
  rw[ztt,if_neg (by omega)]; rfl
theorem zwV{f g:Nat->Bool}:ztw (mkF f) (mkF g)=some (mkF fun i=>f i && !g i):=by
 unfold ztw;have key:=zwJ (n:=5) (fun d s x=>ztv (mkF g) d (s 0) (s 1) (s 2) (s 3) (s 4) x) (stF (fun i=>f i && !g i) f) (fin:=some (mkF fun i=>f i && !g i)) (fun d k hk=>?_) (fun d=>?_) 6 0 (by omega) (by omega)
 ·rw[zwN] at key; exact key
 ·show ztv (mkF g) (d+1) _ _ _ _ _ _=_
  rw[ztv,if_pos (by omega)]
  show(idx (l5 g) (k:Int)).bind _=_
  rw[zwL hk,obs]
  show(idx (l5 (stF (fun i=>f i && !g i) f k)) (k:Int)).bind _=_
  rw[zwL hk,obs,zwO];have e:=zwQ (fun i=>f i && !g i) f k
  cases hfk:f k with
  | true=>
   rw[if_pos rfl,zqr (by omega),zqr (fI (by omega))]
   have e0:(!g k)=(fun i=>f i && !g i) k:=by show _=(f k && !g k); rw[hfk]; rfl
   rw[e0,e 0,e 1,e 2,e 3,e 4]
  | false=>
   rw[if_neg (by decide),zqr (by omega),zqr (fI (by omega))]
   have e0:false=(fun i=>f i && !g i) k:=by show _=(f k && !g k); rw[hfk]; rfl
   rw[e0,e 0,e 1,e 2,e 3,e 4]
 ·show ztv (mkF g) (d+1) _ _ _ _ _ _=_
  rw[ztv,if_neg (by omega)]; rfl
def zwW(ms:List Mb)(of_:Nat->Bool)(num:Mb->Int):Nat->Int:=fun i=>match ms[i]? with
 | some a=>if of_ i=true then num a else 0
 | none=>0
theorem zwX{w:Wk}{of_:Nat->Bool}{number:Mb->Option Int}{num:Mb->Int}(hn:∀a∈w.s.Members,number a=some (num a))(hl:w.s.Members.length<=5):ztI w (mkF of_) number=some (mk5 (zwW w.s.Members of_ num)):=by
 unfold ztI;have key:=zwJ (n:=w.s.Members.length) (fun d s x=>ztH w (mkF of_) number d (s 0) (s 1) (s 2) (s 3) (s 4) x) (stF (zwW w.s.Members of_ num) fun _=>0) (fin:=some (mk5 (zwW w.s.Members of_ num))) (fun d k hk=>?_) (fun d=>?_) (w.s.Members.length+1) 0 (by omega) (by omega)
 ·rw[zwN] at key; exact key
 ·show ztH w (mkF of_) number (d+1) _ _ _ _ _ _=_
  have hg:=List.getElem?_eq_getElem hk;rw[ztH,if_pos (by omega),zrI hg,obs]
  show(idx (l5 of_) (k:Int)).bind _=_
  rw[zwL (by omega),obs];have e:=zwQ (zwW w.s.Members of_ num) (fun _=>0) k
  cases hfk:of_ k with
  | true=>
   rw[if_pos rfl,hn _ (List.getElem_mem hk),obs,zqr (by omega),zqr (fI (by omega))]
   have e0:num w.s.Members[k]=zwW w.s.Members of_ num k:=by unfold zwW; rw[hg]; show _=if _ then _ else _; rw[hfk,if_pos rfl]
   rw[e0,e 0,e 1,e 2,e 3,e 4]
  | false=>
   rw[if_neg (by decide),zqr (fI (by omega))]
   have e0:(0:Int)=zwW w.s.Members of_ num k:=by unfold zwW; rw[hg]; show _=if _ then _ else _; rw[hfk,if_neg (by decide)]
   have e1:∀j,stF (zwW w.s.Members of_ num) (fun _=>0) k j=stF (zwW w.s.Members of_ num) (fun _=>0) (k+1) j:=fun j=>by
    unfold stF
    by_cases h:j=k
    ·subst h; rw[if_neg (by omega),if_pos (by omega)]; exact e0
    ·by_cases h2:j < k
     ·rw[if_pos h2,if_pos (by omega)]
     ·rw[if_neg h2,if_neg (by omega)]
   rw[e1 0,e1 1,e1 2,e1 3,e1 4]
 ·show ztH w (mkF of_) number (d+1) _ _ _ _ _ _=_
  rw[ztH,if_neg (by omega)]
  have e1:∀j,stF (zwW w.s.Members of_ num) (fun _=>0) w.s.Members.length j=zwW w.s.Members of_ num j:=fun j=>by
   unfold stF
   by_cases h:j < w.s.Members.length
   ·rw[if_pos h]
   ·rw[if_neg h]; unfold zwW; rw[List.getElem?_eq_none (by omega)]
  rw[e1 0,e1 1,e1 2,e1 3,e1 4]; rfl
def zwY(ms:List Mb)(sh:Nat->Bool)(pays:Nat->Int):Nat->Bool:=fun i=>match ms[i]? with
 | some a=>sh i && decide (pays i<=a.Most)
 | none=>sh i
theorem zwZ{w:Wk}{sh:Nat->Bool}{pays:Nat->Int}(hl:w.s.Members.length<=5):ztM w (mkF sh) (mk5 pays)=some (mkF (zwY w.s.Members sh pays)):=by
 unfold ztM;have key:=zwJ (n:=w.s.Members.length) (fun d s x=>ztL w (mk5 pays) d (s 0) (s 1) (s 2) (s 3) (s 4) x) (stF (zwY w.s.Members sh pays) sh) (fin:=some (mkF (zwY w.s.Members sh pays))) (fun d k hk=>?_) (fun d=>?_) (w.s.Members.length+1) 0 (by omega) (by omega)
 ·rw[zwN] at key; exact key
 ·show ztL w (mk5 pays) (d+1) _ _ _ _ _ _=_
  have hg:=List.getElem?_eq_getElem hk;rw[ztL,if_pos (by omega),zrI hg,obs]
  show(idx (l5 (stF (zwY w.s.Members sh pays) sh k)) (k:Int)).bind _=_
  rw[zwL (by omega),obs,zwO];have e:=zwQ (zwY w.s.Members sh pays) sh k
  have e00:zwY w.s.Members sh pays k=(sh k && decide (pays k<=(w.s.Members[k]).Most)):=by unfold zwY; rw[hg]
  cases hfk:sh k with
  | true=>
   rw[if_pos rfl]
   show(idx (l5 pays) (k:Int)).bind _=_
   rw[zwL (by omega),obs,zqr (by omega),zqr (fI (by omega))]
   have e0:decide (pays k<=(w.s.Members[k]).Most)=zwY w.s.Members sh pays k:=by rw[e00,hfk,Bool.true_and]
   rw[e0,e 0,e 1,e 2,e 3,e 4]
  | false=>
   rw[if_neg (by decide),zqr (by omega),zqr (fI (by omega))]
   have e0:false=zwY w.s.Members sh pays k:=by rw[e00,hfk]; rfl
   rw[e0,e 0,e 1,e 2,e 3,e 4]
 ·show ztL w (mk5 pays) (d+1) _ _ _ _ _ _=_
  rw[ztL,if_neg (by omega)]
  have e1:∀j,stF (zwY w.s.Members sh pays) sh w.s.Members.length j=zwY w.s.Members sh pays j:=fun j=>by
   unfold stF
   by_cases h:j < w.s.Members.length
   ·rw[if_pos h]
   ·rw[if_neg h]; unfold zwY; rw[List.getElem?_eq_none (by omega)]
  rw[e1 0,e1 1,e1 2,e1 3,e1 4]; rfl
open Classical
theorem zw0{α:Type}:∀l:List α,∃ks:List α,ks.Nodup/\∀k,k∈ks↔k∈l
 | []=>⟨[],List.nodup_nil,fun _=>Iff.rfl⟩
 | a::l=>by
  obtain⟨ks,h1,h2⟩:=zw0 l
  by_cases h:a∈ks
  ·refine⟨ks,h1,fun k=>?_⟩;rw[h2,List.mem_cons];exact⟨.inr,fun hk=>hk.elim (fun he=>by rw[he]; exact(h2 a).1 h) id⟩
  ·exact⟨a::ks,List.nodup_cons.2 ⟨h,h1⟩,fun k=>by rw[List.mem_cons,List.mem_cons,h2]⟩
def zw1:List Int->Int
 | []=>0
 | a::l=>a+zw1 l
theorem zw2:∀a b:List Int,zw1 (a++b)=zw1 a+zw1 b
 | [],b=>by show zw1 b=0+_; omega
 | x::a,b=>by show x+zw1 (a++b)=x+zw1 a+zw1 b; rw[zw2 a b]; omega
theorem zw3(f g:Nat->Int):S5 (fun i=>f i+g i)=S5 f+S5 g:=by
 show f 0+g 0+(f 1+g 1)+(f 2+g 2)+(f 3+g 3)+(f 4+g 4)=f 0+f 1+f 2+f 3+f 4+(g 0+g 1+g 2+g 3+g 4)
 omega
theorem zw4:S5 (fun _=>0)=0:=rfl
theorem zw5{f g:Nat->Int}(h:∀i,i < 5->f i=g i):S5 f=S5 g:=by
 unfold S5; rw[h 0 (by omega),h 1 (by omega),h 2 (by omega),h 3 (by omega),h 4 (by omega)]
theorem zw6{K:Type}(g:K->Nat->Int):∀ks:List K,zw1 (ks.map fun key=>S5 (g key))=S5 (fun k=>zw1 (ks.map fun key=>g key k))
 | []=>rfl
 | a::ks=>by
  show S5 (g a)+zw1 (ks.map fun key=>S5 (g key))=S5 (fun k=>g a k+zw1 (ks.map fun key=>g key k))
  rw[zw6 g ks,zw3]
theorem zw7{K:Type}(x:K)(v:Int):∀ks:List K,ks.Nodup->zw1 (ks.map fun key=>if x=key then v else 0)=if x∈ks then v else 0
 | [],_=>by rw[if_neg (by simp)]; rfl
 | a::ks,h=>by
  obtain⟨h1,h2⟩:=List.nodup_cons.1 h
  show(if x=a then v else 0)+zw1 (ks.map fun key=>if x=key then v else 0)=_
  rw[zw7 x v ks h2]
  by_cases hx:x=a
  ·subst hx; rw[if_pos rfl,if_neg h1,if_pos (List.mem_cons_self ..)]; omega
  ·rw[if_neg hx]
   by_cases h3:x∈ks
   ·rw[if_pos h3,if_pos (List.mem_cons_of_mem _ h3)]; omega
   ·rw[if_neg h3,if_neg (by rw[List.mem_cons]; exact fun hc=>hc.elim hx h3)]; omega
def cnt(sh:Nat->Sh)(j:Nat)(key:Sh):Int:=part (fun k=>if sh k=key then 1 else 0) j
theorem zw8(sh:Nat->Sh)(key:Sh):∀j,0<=cnt sh j key/\cnt sh j key<=j
 | 0=>⟨Int.le_refl _,Int.le_refl _⟩
 | j+1=>by
  have:=zw8 sh key j
  show 0<=cnt sh j key+(if sh j=key then 1 else 0)/\cnt sh j key+(if sh j=key then 1 else 0)<=_
  split <;> omega
theorem zw9(sh:Nat->Sh)(key:Sh):∀j,cnt sh j key ≠ 0↔∃k,k < j/\sh k=key
 | 0=>⟨fun h=>absurd rfl h,fun⟨k,h,_⟩=>by omega⟩
 | j+1=>by
  have h1:=zw8 sh key j;have ih:=zw9 sh key j
  show cnt sh j key+(if sh j=key then 1 else 0) ≠ 0↔_
  by_cases h:sh j=key
  ·rw[if_pos h]; exact⟨fun _=>⟨j,by omega,h⟩,fun _=>by omega⟩
  ·rw[if_neg h,show cnt sh j key+0=cnt sh j key by omega,ih]
   exact⟨fun⟨k,hk,he⟩=>⟨k,by omega,he⟩,fun⟨k,hk,he⟩=>⟨k,by rcases Nat.lt_succ_iff_lt_or_eq.1 hk with h2 | h2; exact h2; exact absurd (h2 ▸ he) h,he⟩⟩
def hM(sh:Nat->Sh)(j:Nat):Option (Sh->Option Int):=some fun key=>if cnt sh j key=0 then none else some (cnt sh j key)
theorem zxa(sh:Nat->Sh)(j:Nat)(key:Sh):zqK (hM sh j) key=if cnt sh j key=0 then none else some (cnt sh j key):=rfl
theorem zxb(sh:Nat->Sh):hM sh 0=some fun _=>none:=rfl
theorem zxc(sh:Nat->Sh)(j:Nat):zqL (hM sh j) (sh j) (cnt sh j (sh j)+1)=some (hM sh (j+1)):=by
 show some (some _)=some (some _)
 congr 2
 funext key
 have hc:cnt sh (j+1) key=cnt sh j key+if sh j=key then 1 else 0:=rfl;have hb:=zw8 sh key j
 show(if key=sh j then some (cnt sh j (sh j)+1) else if cnt sh j key=0 then none else some (cnt sh j key))=if cnt sh (j+1) key=0 then none else some (cnt sh (j+1) key)
 rw[hc]
 by_cases h:key=sh j
 ·subst h; rw[if_pos rfl,if_pos rfl,if_neg (by omega)]
 ·rw[if_neg h];have h3:¬ sh j=key:=fun h'=>h h'.symm
  simp only[if_neg h3,Int.add_zero]
def gtN(r:Nat->Int)(x:Int):Int:=S5 fun k=>if x < r k then 1 else 0
def eqN(r:Nat->Int)(x:Int)(i:Nat):Int:=part (fun k=>if r k=x then 1 else 0) i
def zxd(r:Nat->Int)(i:Nat):Int:=gtN r (r i)+eqN r (r i) i
theorem zxe(r:Nat->Int)(x:Int):0<=gtN r x/\gtN r x<=5:=by
 have h:∀k,0<=(if x < r k then (1:Int) else 0)/\(if x < r k then (1:Int) else 0)<=1:=fun k=>by split <;> omega
 have:=h 0; have:=h 1; have:=h 2; have:=h 3; have:=h 4
 show 0<=(if x < r 0 then (1:Int) else 0)+(if x < r 1 then (1:Int) else 0)+(if x < r 2 then (1:Int) else 0)+(if x < r 3 then (1:Int) else 0)+(if x < r 4 then (1:Int) else 0)/\_<=(5:Int)
 unfold gtN S5
 dsimp only
 omega
theorem zxf(r:Nat->Int)(x:Int):∀i,0<=eqN r x i/\eqN r x i<=i
 | 0=>⟨Int.le_refl _,Int.le_refl _⟩
 | i+1=>by
  have:=zxf r x i
  show 0<=eqN r x i+(if r i=x then 1 else 0)/\eqN r x i+(if r i=x then 1 else 0)<=_
  split <;> omega
def dv(sh:Nat->Sh):Dv:={ s0:=sh 0,s1:=sh 1,s2:=sh 2,s3:=sh 3,s4:=sh 4,having:=hM sh 5 }
def wK(sh:Nat->Sh)(x:Int)(key:Sh):Int:=if x < key.remainder then cnt sh 5 key else 0
theorem zxg(sh:Nat->Sh)(i:Nat)(hi:i < 5)(acc:Int)(ha:0<=acc/\acc<=5):ztx (dv sh) (i:Int) (sh i) (Int.toNat (((([(dv sh).s0,(dv sh).s1,(dv sh).s2,(dv sh).s3,(dv sh).s4]:List Sh).take (Int.toNat (i:Int))).drop (Int.toNat (0:Int))).length:Int)+1) acc (0:Int)=some (acc+eqN (fun k=>(sh k).remainder) (sh i).remainder i):=by
 have hl:((([(dv sh).s0,(dv sh).s1,(dv sh).s2,(dv sh).s3,(dv sh).s4]:List Sh).take (Int.toNat (i:Int))).drop (Int.toNat (0:Int)))=(l5 sh).take i:=rfl
 have hlen:((l5 sh).take i).length=i:=by rw[List.length_take]; show min i 5=i; omega
 rw[hl,hlen,show Int.toNat (i:Int)+1=i+1 from rfl];have key:=zwJ (n:=i) (fun d s x=>ztx (dv sh) (i:Int) (sh i) d s x) (fun k=>acc+eqN (fun k=>(sh k).remainder) (sh i).remainder k) (fin:=some (acc+eqN (fun k=>(sh k).remainder) (sh i).remainder i)) (fun d k hk=>?_) (fun d=>?_) (i+1) 0 (by omega) (by omega)
 ·have e:acc+eqN (fun k=>(sh k).remainder) (sh i).remainder 0=acc:=by show acc+0=acc; omega
  rw[e] at key; exact key
 ·have hb:=zxf (fun k=>(sh k).remainder) (sh i).remainder k;have hs:eqN (fun k=>(sh k).remainder) (sh i).remainder (k+1)=eqN (fun k=>(sh k).remainder) (sh i).remainder k+if (sh k).remainder=(sh i).remainder then 1 else 0:=rfl
  show ztx (dv sh) (i:Int) (sh i) (d+1) _ _=_
  rw[ztx,hl,hlen,if_pos (by omega),zrI (show((l5 sh).take i)[k]? = some (sh k) by rw[List.getElem?_take,if_pos hk]; exact zwK (by omega)),obs]
  by_cases h:(sh k).remainder=(sh i).remainder
  ·rw[if_pos h,zqr (fI (by omega)),zqr (fI (by omega)),hs,if_pos h,Int.add_assoc]
  ·rw[if_neg h,zqr (fI (by omega)),hs,if_neg h,Int.add_zero]
 ·show ztx (dv sh) (i:Int) (sh i) (d+1) _ _=_
  rw[ztx,hl,hlen,if_neg (by omega)]
theorem zxh(sh:Nat->Sh)(i:Nat)(hi:i < 5){T:Int}(hT:T<=5):∀(d:Nat) (rem:List Sh) (acc:Int),rem.length < d->(∀a∈rem,zqK (hM sh 5) a=some (cnt sh 5 a))->0<=acc->acc+zw1 (rem.map (wK sh (sh i).remainder))=T ->
  pbefore_L0 (dv sh) (i:Int) (sh i) d acc rem=some (T+eqN (fun k=>(sh k).remainder) (sh i).remainder i)
 | 0,_,_,h,_,_,_=>by omega
 | d+1,rem,acc,h,hm,h0,hs=>by
  have hw:∀key,0<=wK sh (sh i).remainder key:=fun key=>by unfold wK; have:=zw8 sh key 5; split <;> omega
  have hsum:∀l:List Sh,0<=zw1 (l.map (wK sh (sh i).remainder)):=fun l=>by
   induction l with
   | nil=>exact Int.le_refl _
   | cons a l ih=>have:=hw a; show 0<=wK sh _ a+zw1 (l.map _); omega
  unfold pbefore_L0;refine zrt (fun l1 a l2 hr=>?_) fun hr=>?_
  ·subst hr;have hc:=zw8 sh a 5
   have hsp:zw1 ((l1++a::l2).map (wK sh (sh i).remainder))=wK sh (sh i).remainder a+zw1 ((l1++l2).map (wK sh (sh i).remainder)):=by
    rw[List.map_append,List.map_cons,zw2,List.map_append,zw2]
    show _+(wK sh _ a+_)=_; omega
   have hlen:(l1++l2).length < d:=by simp only[List.length_append,List.length_cons] at h ⊢; omega
   have hm':∀x∈l1++l2,zqK (hM sh 5) x=some (cnt sh 5 x):=fun x hx=>hm x (by
    rcases List.mem_append.1 hx with h | h
    ·exact List.mem_append_left _ h
    ·exact List.mem_append_right _ (List.mem_cons_of_mem _ h))
   have h2:=hsum (l1++l2);rw[show zqK (dv sh).having a=some (cnt sh 5 a) from hm a (by simp),obs]
   by_cases ha:(sh i).remainder < a.remainder
   ·have hwa:wK sh (sh i).remainder a=cnt sh 5 a:=if_pos ha;rw[if_pos ha,zqr (fI (by omega))];exact zxh sh i hi hT d _ _ hlen hm' (by omega) (by omega)
   ·have hwa:wK sh (sh i).remainder a=0:=if_neg ha;rw[if_neg ha];exact zxh sh i hi hT d _ _ hlen hm' h0 (by omega)
  ·subst hr
   have:acc=T:=by rw[<- hs]; show acc=acc+0; omega
   subst this;rw[zqr (by omega)];exact zxg sh i hi acc ⟨h0,hT⟩
theorem zxi{sh:Nat->Sh}(hf:∀k,k < 5->MK.fit (sh k)){i:Nat}(hi:i < 5):zty (dv sh) (i:Int)=some (zxd (fun k=>(sh k).remainder) i):=by
 unfold zty
 show(idx (l5 sh) (i:Int)).bind _=_
 rw[zwL hi,obs]
 have hmem:∀key,(MK.fit key/\zqK (hM sh 5) key ≠ none)↔∃k,k < 5/\sh k=key:=fun key=>by
  rw[zxa,<- zw9]
  by_cases h:cnt sh 5 key=0
  ·rw[if_pos h]; exact⟨fun h'=>absurd rfl h'.2,fun h'=>absurd h h'⟩
  ·rw[if_neg h];refine⟨fun _=>h,fun _=>⟨?_,Option.some_ne_none _⟩⟩;obtain⟨k,h1,rfl⟩:=(zw9 sh key 5).1 h;exact hf k h1
 obtain⟨ks0,h1,h2⟩:=zw0 (l5 sh)
 have hl5:∀key,key∈l5 sh↔∃k,k < 5/\sh k=key:=fun key=>by
  constructor
  ·intro h;obtain⟨k,hk⟩:=List.mem_iff_getElem?.1 h;have hk5:k < 5:=(List.getElem?_eq_some_iff.1 hk).1;rw[zwK hk5] at hk;exact⟨k,hk5,oi hk⟩
  ·rintro⟨k,hk,rfl⟩; exact List.mem_of_getElem? (zwK hk)
 refine zrp (ks0:=ks0) ⟨h1,fun k=>by rw[h2,hl5]; exact(hmem k).symm⟩ fun ks hk=>?_
 have hT:zw1 (ks.map (wK sh (sh i).remainder))=gtN (fun k=>(sh k).remainder) (sh i).remainder:=by
  have e1:∀key,wK sh (sh i).remainder key=S5 (fun k=>if sh k=key then (if (sh i).remainder < (sh k).remainder then 1 else 0) else 0):=fun key=>by
   unfold wK cnt;rw[zwR]
   by_cases h:(sh i).remainder < key.remainder
   ·rw[if_pos h]
    exact zw5 fun k _=>by
     by_cases hk:sh k=key
     ·rw[if_pos hk,if_pos hk,hk,if_pos h]
     ·rw[if_neg hk,if_neg hk]
   ·rw[if_neg h]
    have:S5 (fun k=>if sh k=key then (if (sh i).remainder < (sh k).remainder then 1 else 0) else 0)=S5 fun _=>0:=zw5 fun k _=>by
     by_cases hk:sh k=key
     ·rw[if_pos hk,hk,if_neg h]
     ·rw[if_neg hk]
    rw[this]; rfl
  have e2:ks.map (wK sh (sh i).remainder)=ks.map fun key=>S5 (fun k=>if sh k=key then (if (sh i).remainder < (sh k).remainder then 1 else 0) else 0):=List.map_congr_left fun key _=>e1 key;rw[e2,zw6 (fun key k=>if sh k=key then (if (sh i).remainder < (sh k).remainder then (1:Int) else 0) else 0)];unfold gtN
  exact zw5 fun k hk5=>by
   rw[zw7 _ _ ks hk.1,if_pos ((hk.2 (sh k)).2 ((hmem (sh k)).2 ⟨k,hk5,rfl⟩))]
 have hg:=zxe (fun k=>(sh k).remainder) (sh i).remainder
 exact zxh sh i hi hg.2 _ ks 0 (by omega) (fun a ha=>by
  have:=((hk.2 a).1 ha).2;rw[show(dv sh).having=hM sh 5 from rfl,zxa] at this;rw[zxa]
  by_cases h:cnt sh 5 a=0
  ·rw[if_pos h] at this; exact absurd rfl this
  ·rw[if_neg h]) (Int.le_refl _) (by rw[hT]; omega)
end
end Go.Proofs.Ytkclhciahokifaa

namespace Go.Proofs.Ytkclhciahokifaa
open _root_.Go.Proofs.Try
open Go.Abs
set_option maxRecDepth 100000
noncomputable section
theorem zxj{a x s:Int}(hx:0<=x)(hxs:x<=s)(hs:0 < s)(ha:0<=a):0<=a * x / s/\a * x / s<=a:=by
 constructor
 ·exact Int.ediv_nonneg (Int.mul_nonneg ha hx) (Int.le_of_lt hs)
 ·have h1:a * x<=a * s:=Int.mul_le_mul_of_nonneg_left hxs ha;have h2:=Int.ediv_le_ediv hs h1
  rwa [Int.mul_ediv_cancel _ (by omega)] at h2
theorem zxk{a x A X:Int}(ha:0<=a/\a<=A)(hx:0<=x/\x<=X):0<=a * x/\a * x<=A * X:=by
 refine⟨Int.mul_nonneg ha.1 hx.1,?_⟩;have h1:a * x<=A * x:=Int.mul_le_mul_of_nonneg_right ha.2 hx.1;have h2:A * x<=A * X:=Int.mul_le_mul_of_nonneg_left hx.2 (by omega)
 omega
structure UOk (u:Nat->Int):Prop where
 bd:∀i,i < 5->0<=u i/\u i<=100000
 pos:0 < S5 u
theorem UOk.le{u:Nat->Int}(h:UOk u){i:Nat}(hi:i < 5):u i<=S5 u/\S5 u<=500000:=by
 have h0:=h.bd 0 (by omega); have h1:=h.bd 1 (by omega); have h2:=h.bd 2 (by omega); have h3:=h.bd 3 (by omega); have h4:=h.bd 4 (by omega);unfold S5
 match i,hi with
 | 0,_=>omega
 | 1,_=>omega
 | 2,_=>omega
 | 3,_=>omega
 | 4,_=>omega
def qN(N:Int)(u:Nat->Int)(k:Nat):Int:=N * u k / S5 u
def rN(N:Int)(u:Nat->Int)(k:Nat):Int:=N * u k % S5 u
def shN(N:Int)(u:Nat->Int)(k:Nat):Sh:={ pence:=qN N u k,remainder:=rN N u k }
def zxl(N:Int)(u:Nat->Int)(k:Nat):Int:=qN N u k+if zxd (rN N u) k < N - S5 (qN N u) then 1 else 0
section
variable {N:Int} {u:Nat->Int}
theorem zxm(hu:UOk u)(hN:0<=N){k:Nat}(hk:k < 5):0<=qN N u k/\qN N u k<=N:=zxj (hu.bd k hk).1 (hu.le hk).1 hu.pos hN
theorem zxn(hu:UOk u)(k:Nat):0<=rN N u k/\rN N u k < S5 u:=⟨Int.emod_nonneg _ (by have:=hu.pos; omega),Int.emod_lt_of_pos _ hu.pos⟩
theorem zxo(hu:UOk u)(hN:0<=N/\N<=1000000){k:Nat}(hk:k < 5):MK.fit (shN N u k):=by
 have h1:=zxm hu hN.1 hk;have h2:=zxn (N:=N) hu k;have h3:=(hu.le hk).2;exact⟨fI (show _/\_ by show -9223372036854775808<=qN N u k/\qN N u k < _; omega),fI (show _/\_ by show -9223372036854775808<=rN N u k/\rN N u k < _; omega),trivial⟩
theorem zxp(hu:UOk u)(hN:0<=N/\N<=1000000):ztB N (mk5 u)=some (mk5 (zxl N u)):=by
 have hbu:Bd 1000000000000 u:=fun i hi=>by have:=hu.bd i hi; omega
 have hbq:Bd 1000000000000 (qN N u):=fun i hi=>by have:=zxm hu hN.1 hi; omega
 have hU:=hu.pos;have hU2:=(hu.le (i:=0) (by omega)).2;have hq0:=zxm hu hN.1 (k:=0) (by omega); have hq1:=zxm hu hN.1 (k:=1) (by omega); have hq2:=zxm hu hN.1 (k:=2) (by omega); have hq3:=zxm hu hN.1 (k:=3) (by omega); have hq4:=zxm hu hN.1 (k:=4) (by omega)
 have hsq:0<=S5 (qN N u)/\S5 (qN N u)<=5000000:=by unfold S5; omega
 -- the second loop
 have second:ztz N (shN N u 0).pence (shN N u 0).remainder (shN N u 1).pence (shN N u 1).remainder (shN N u 2).pence (shN N u 2).remainder (shN N u 3).pence (shN N u 3).remainder (shN N u 4).pence (shN N u 4).remainder (hM (shN N u) 5) (S5 (qN N u)) (Int.toNat (5:Int)+1) (qN N u 0) (qN N u 1) (qN N u 2) (qN N u 3) (qN N u 4) (0:Int)=some (mk5 (zxl N u)):=by
  have key:=zwJ (n:=5) (fun d s x=>ztz N (shN N u 0).pence (shN N u 0).remainder (shN N u 1).pence (shN N u 1).remainder (shN N u 2).pence (shN N u 2).remainder (shN N u 3).pence (shN N u 3).remainder (shN N u 4).pence (shN N u 4).remainder (hM (shN N u) 5) (S5 (qN N u)) d (s 0) (s 1) (s 2) (s 3) (s 4) x) (stF (zxl N u) (qN N u)) (fin:=some (mk5 (zxl N u))) (fun d k hk=>?_) (fun d=>?_) 6 0 (by omega) (by omega)
  ·rw[zwN] at key; exact key
  ·have hb:zty (dv (shN N u)) (k:Int)=some (zxd (rN N u) k):=zxi (fun k hk=>zxo hu hN hk) hk;have hq:=zxm hu hN.1 hk;have e:=zwQ (zxl N u) (qN N u) k
   show ztz _ _ _ _ _ _ _ _ _ _ _ _ _ (d+1) _ _ _ _ _ _=_
   rw[ztz,if_pos (by omega)]
   show(zty (dv (shN N u)) (k:Int)).bind _=_
   rw[hb,obs]
   by_cases h:zxd (rN N u) k < N - S5 (qN N u)
   ·rw[if_pos h]
    show(idx (l5 (stF (zxl N u) (qN N u) k)) (k:Int)).bind _=_
    have ep:qN N u k+1=zxl N u k:=by unfold zxl; rw[if_pos h]
    rw[zwL hk,obs,zwO,zqr (fI (by omega)),zqr (by omega),zqr (fI (by omega)),ep,e 0,e 1,e 2,e 3,e 4]
   ·rw[if_neg h,zqr (fI (by omega))]
    have ep:qN N u k=zxl N u k:=by unfold zxl; rw[if_neg h,Int.add_zero]
    have e1:∀j,stF (zxl N u) (qN N u) k j=stF (zxl N u) (qN N u) (k+1) j:=fun j=>by
     unfold stF
     by_cases h:j=k
     ·subst h; rw[if_neg (by omega),if_pos (by omega)]; exact ep
     ·by_cases h2:j < k
      ·rw[if_pos h2,if_pos (by omega)]
      ·rw[if_neg h2,if_neg (by omega)]
    rw[e1 0,e1 1,e1 2,e1 3,e1 4]
  ·show ztz _ _ _ _ _ _ _ _ _ _ _ _ _ (d+1) _ _ _ _ _ _=_
   rw[ztz,if_neg (by omega)]; rfl
 unfold ztB;rw[zwT hbu,obs];have key:=zwJ (n:=5) (fun d (s:(Nat->Int) × (Nat->Sh) × Option (Sh->Option Int)) x=>ztA N (mk5 u) (S5 u) d (s.1 0) (s.1 1) (s.1 2) (s.1 3) (s.1 4) (s.2.1 0).pence (s.2.1 0).remainder (s.2.1 1).pence (s.2.1 1).remainder (s.2.1 2).pence (s.2.1 2).remainder (s.2.1 3).pence (s.2.1 3).remainder (s.2.1 4).pence (s.2.1 4).remainder s.2.2 x) (fun k=>(stF (qN N u) (fun _=>0) k,stF (shN N u) (fun _=>⟨0,0⟩) k,hM (shN N u) k)) (fin:=some (mk5 (zxl N u))) (fun d k hk=>?_) (fun d=>?_) 6 0 (by omega) (by omega)
 ·rw[zwN,zwN,zxb] at key; exact key
 ·have hq:=zxm hu hN.1 hk;have hr:=zxn (N:=N) hu k;have huk:=hu.bd k hk;have hm:=zxk (a:=N) (x:=u k) ⟨hN.1,hN.2⟩ huk;have hc:=zw8 (shN N u) (shN N u k) k;have hset:=zxc (shN N u) k
  have fin:∀M',M'=hM (shN N u) (k+1)->ztA N (mk5 u) (S5 u) d (sti (k:Int) 0 (qN N u k) (stF (qN N u) (fun _=>0) k 0)) (sti (k:Int) 1 (qN N u k) (stF (qN N u) (fun _=>0) k 1)) (sti (k:Int) 2 (qN N u k) (stF (qN N u) (fun _=>0) k 2)) (sti (k:Int) 3 (qN N u k) (stF (qN N u) (fun _=>0) k 3)) (sti (k:Int) 4 (qN N u k) (stF (qN N u) (fun _=>0) k 4)) (sti (k:Int) 0 (shN N u k) (stF (shN N u) (fun _=>⟨0,0⟩) k 0)).pence (sti (k:Int) 0 (shN N u k) (stF (shN N u) (fun _=>⟨0,0⟩) k 0)).remainder (sti (k:Int) 1 (shN N u k) (stF (shN N u) (fun _=>⟨0,0⟩) k 1)).pence (sti (k:Int) 1 (shN N u k) (stF (shN N u) (fun _=>⟨0,0⟩) k 1)).remainder (sti (k:Int) 2 (shN N u k) (stF (shN N u) (fun _=>⟨0,0⟩) k 2)).pence (sti (k:Int) 2 (shN N u k) (stF (shN N u) (fun _=>⟨0,0⟩) k 2)).remainder (sti (k:Int) 3 (shN N u k) (stF (shN N u) (fun _=>⟨0,0⟩) k 3)).pence (sti (k:Int) 3 (shN N u k) (stF (shN N u) (fun _=>⟨0,0⟩) k 3)).remainder (sti (k:Int) 4 (shN N u k) (stF (shN N u) (fun _=>⟨0,0⟩) k 4)).pence (sti (k:Int) 4 (shN N u k) (stF (shN N u) (fun _=>⟨0,0⟩) k 4)).remainder M' ((k:Int)+1)=ztA N (mk5 u) (S5 u) d (stF (qN N u) (fun _=>0) (k+1) 0) (stF (qN N u) (fun _=>0) (k+1) 1) (stF (qN N u) (fun _=>0) (k+1) 2) (stF (qN N u) (fun _=>0) (k+1) 3) (stF (qN N u) (fun _=>0) (k+1) 4) (stF (shN N u) (fun _=>⟨0,0⟩) (k+1) 0).pence (stF (shN N u) (fun _=>⟨0,0⟩) (k+1) 0).remainder (stF (shN N u) (fun _=>⟨0,0⟩) (k+1) 1).pence (stF (shN N u) (fun _=>⟨0,0⟩) (k+1) 1).remainder (stF (shN N u) (fun _=>⟨0,0⟩) (k+1) 2).pence (stF (shN N u) (fun _=>⟨0,0⟩) (k+1) 2).remainder (stF (shN N u) (fun _=>⟨0,0⟩) (k+1) 3).pence (stF (shN N u) (fun _=>⟨0,0⟩) (k+1) 3).remainder (stF (shN N u) (fun _=>⟨0,0⟩) (k+1) 4).pence (stF (shN N u) (fun _=>⟨0,0⟩) (k+1) 4).remainder (hM (shN N u) (k+1)) ((k:Int)+1):=by
   intro M' hM';subst hM';have e:=zwQ (qN N u) (fun _=>0) k;have e':=zwQ (shN N u) (fun _=>(⟨0,0⟩:Sh)) k;rw[e 0,e 1,e 2,e 3,e 4,e' 0,e' 1,e' 2,e' 3,e' 4]
  show ztA _ _ _ (d+1) _ _ _ _ _ _ _ _ _ _ _ _ _ _ _ _ _=_
  rw[ztA,if_pos (by omega)]
  show(idx (l5 u) (k:Int)).bind _=_
  have hqf:zl6 .i64 (N * u k / S5 u):=fI (by unfold qN at hq; omega);have hrf:zl6 .i64 (N * u k % S5 u):=fI (by unfold rN at hr; omega);have hfit:MK.fit ({ pence:=N * u k / S5 u,remainder:=N * u k % S5 u }:Sh):=zxo hu hN hk;rw[zwL hk,obs,zqr hN.1,zqr huk.1,zqr (fI (by omega)),zqr hm.1,zqr hU,zqr hqf,zqr hN.1,zqr huk.1,zqr (fI (by omega)),zqr hm.1,zqr hU,zqr hrf,zqr (by omega),zqr hfit]
  show zqR (zqK (hM (shN N u) k) (shN N u k)) _ _=_
  by_cases h0:cnt (shN N u) k (shN N u k)=0
  ·rw[zqS (by rw[zxa,if_pos h0]),zqr (fI (by omega)),zqr hfit];rw[h0] at hset;rw[show zqL (hM (shN N u) k) ({ pence:=N * u k / S5 u,remainder:=N * u k % S5 u }:Sh) 1=some (hM (shN N u) (k+1)) from hset,obs,zqr (by omega),zqr (fI (by omega))];exact fin _ rfl
  ·rw[zqT (show zqK (hM (shN N u) k) (shN N u k)=some (cnt (shN N u) k (shN N u k)) by rw[zxa,if_neg h0]),zqr (fI (by omega)),zqr hfit];rw[show zqL (hM (shN N u) k) ({ pence:=N * u k / S5 u,remainder:=N * u k % S5 u }:Sh) (cnt (shN N u) k (shN N u k)+1)=some (hM (shN N u) (k+1)) from hset,obs,zqr (by omega),zqr (fI (by omega))];exact fin _ rfl
 ·show ztA _ _ _ (d+1) _ _ _ _ _ _ _ _ _ _ _ _ _ _ _ _ _=_
  rw[ztA,if_neg (by omega)]
  show(zts (mk5 (qN N u))).bind _=_
  rw[zwT hbq,obs,zqr (fI (by omega))];exact second
end
end
end Go.Proofs.Ytkclhciahokifaa

namespace Go.Proofs.Ytkclhciahokifaa
open _root_.Go.Proofs.Try
open Go.Abs
set_option maxRecDepth 100000
noncomputable section
def bfc(r:Nat->Int)(k i:Nat):Int:=if r i < r k then 1 else if r k=r i/\k < i then 1 else 0
theorem zxq(f:Nat->Int){i:Nat}(hi:i<=5):part f i=S5 fun k=>if k < i then f k else 0:=by
 match i,hi with
 | 0,_=>show(0:Int)=0+0+0+0+0; omega
 | 1,_=>show 0+f 0=f 0+0+0+0+0; omega
 | 2,_=>show 0+f 0+f 1=f 0+f 1+0+0+0; omega
 | 3,_=>show 0+f 0+f 1+f 2=f 0+f 1+f 2+0+0; omega
 | 4,_=>show 0+f 0+f 1+f 2+f 3=f 0+f 1+f 2+f 3+0; omega
 | 5,_=>show 0+f 0+f 1+f 2+f 3+f 4=f 0+f 1+f 2+f 3+f 4; omega
theorem zxr(r:Nat->Int){i:Nat}(hi:i < 5):zxd r i=S5 fun k=>bfc r k i:=by
 unfold zxd gtN eqN;rw[zxq _ (by omega),<- zw3];refine zw5 fun k _=>?_;unfold bfc
 by_cases h1:r i < r k
 ·rw[if_pos h1,if_pos h1,if_neg (show ¬ r k=r i by omega)]
  by_cases h2:k < i
  ·rw[if_pos h2]; rfl
  ·rw[if_neg h2]; rfl
 ·rw[if_neg h1,if_neg h1]
  by_cases h2:k < i
  ·rw[if_pos h2]
   by_cases h3:r k=r i
   ·rw[if_pos h3,if_pos ⟨h3,h2⟩]; rfl
   ·rw[if_neg h3,if_neg fun h=>h3 h.1]; rfl
  ·rw[if_neg h2,if_neg fun h=>h2 h.2]; rfl
theorem zxs{f g:Nat->Int}(h:∀i,i < 5->f i<=g i):S5 f<=S5 g:=by
 have:=h 0 (by omega); have:=h 1 (by omega); have:=h 2 (by omega); have:=h 3 (by omega); have:=h 4 (by omega);unfold S5; omega
theorem zxt{f g:Nat->Int}(h:∀i,i < 5->f i<=g i){k:Nat}(hk:k < 5)(hlt:f k < g k):S5 f < S5 g:=by
 have:=h 0 (by omega); have:=h 1 (by omega); have:=h 2 (by omega); have:=h 3 (by omega); have:=h 4 (by omega);unfold S5
 match k,hk with
 | 0,_=>omega
 | 1,_=>omega
 | 2,_=>omega
 | 3,_=>omega
 | 4,_=>omega
theorem zxu(r:Nat->Int)(k i:Nat):0<=bfc r k i/\bfc r k i<=1:=by unfold bfc; split <;> (try split) <;> omega
theorem zxv{r:Nat->Int}{k i:Nat}:bfc r k i=1↔r i < r k\/(r k=r i/\k < i):=by
 unfold bfc
 by_cases h1:r i < r k
 ·rw[if_pos h1]; exact⟨fun _=>.inl h1,fun _=>rfl⟩
 ·rw[if_neg h1]
  by_cases h2:r k=r i/\k < i
  ·rw[if_pos h2]; exact⟨fun _=>.inr h2,fun _=>rfl⟩
  ·rw[if_neg h2]; exact⟨fun h=>by omega,fun h=>h.elim (fun h=>absurd h h1) fun h=>absurd h h2⟩
theorem zj9{r:Nat->Int}{k i:Nat}(hk:k < 5)(hi:i < 5)(h:r i < r k\/(r k=r i/\k < i)):zxd r k < zxd r i:=by
 rw[zxr r hk,zxr r hi];refine zxt (fun j _=>?_) hk ?_
 ·have h1:=zxu r j k; have h2:=zxu r j i
  by_cases hj:bfc r j k=1
  ·have:=zxv.1 hj;have:bfc r j i=1:=zxv.2 (by omega)
   omega
  ·omega
 ·have h1:bfc r k i=1:=zxv.2 h
  have h2:¬ bfc r k k=1:=fun h=>by have:=zxv.1 h; omega
  have h3:=zxu r k k
  omega
theorem zxw{r:Nat->Int}{k i:Nat}(hk:k < 5)(hi:i < 5)(h:k ≠ i):zxd r k ≠ zxd r i:=by
 by_cases h1:r i < r k\/(r k=r i/\k < i)
 ·have:=zj9 hk hi h1; omega
 ·have:=zj9 hi hk (r:=r) (by omega); omega
theorem zxx{r:Nat->Int}{k i:Nat}(hk:k < 5)(hi:i < 5):zxd r k < zxd r i↔(r i < r k\/(r k=r i/\k < i)):=by
 constructor
 ·intro h
  by_cases h1:r i < r k\/(r k=r i/\k < i)
  ·exact h1
  ·by_cases hki:k=i
   ·subst hki; omega
   ·have:=zj9 hi hk (r:=r) (by omega); omega
 ·exact zj9 hk hi
theorem zxy(r:Nat->Int){i:Nat}(hi:i < 5):0<=zxd r i/\zxd r i<=4:=by
 have h0:=zxu r 0 i; have h1:=zxu r 1 i; have h2:=zxu r 2 i; have h3:=zxu r 3 i; have h4:=zxu r 4 i
 have hii:bfc r i i=0:=by
  have:=zxu r i i
  have:¬ bfc r i i=1:=fun h=>by have:=zxv.1 h; omega
  omega
 rw[zxr r hi];unfold S5
 dsimp only
 match i,hi with
 | 0,_=>omega
 | 1,_=>omega
 | 2,_=>omega
 | 3,_=>omega
 | 4,_=>omega
theorem zxz:∀a b:Fin 5,a ≠ b->∀c:Fin 5,a ≠ c->b ≠ c->∀d:Fin 5,a ≠ d->b ≠ d->c ≠ d->∀e:Fin 5,a ≠ e->b ≠ e->c ≠ e->d ≠ e->∀L:Fin 6,
  (if a.val < L.val then 1 else 0)+(if b.val < L.val then 1 else 0)+(if c.val < L.val then 1 else 0)+(if d.val < L.val then 1 else 0)+(if e.val < L.val then 1 else 0)=L.val:=by decide +kernel
theorem zxA(r:Nat->Int){L:Int}(hL:0<=L/\L<=5):S5 (fun i=>if zxd r i < L then 1 else 0)=L:=by
 have b:∀i,i < 5->0<=zxd r i/\zxd r i<=4:=fun i hi=>zxy r hi;have b0:=b 0 (by omega); have b1:=b 1 (by omega); have b2:=b 2 (by omega); have b3:=b 3 (by omega); have b4:=b 4 (by omega)
 have ne:∀i j (hi:i < 5) (hj:j < 5),i ≠ j->(⟨(zxd r i).toNat,by have:=b i hi; omega⟩:Fin 5) ≠ ⟨(zxd r j).toNat,by have:=b j hj; omega⟩:=fun i j hi hj hij h=>by
  have h1:=Fin.mk.inj h;have:=zxw (r:=r) hi hj hij;have:=b i hi; have:=b j hj
  omega
 have key:=zxz ⟨(zxd r 0).toNat,by omega⟩ ⟨(zxd r 1).toNat,by omega⟩ (ne 0 1 (by omega) (by omega) (by omega)) ⟨(zxd r 2).toNat,by omega⟩ (ne 0 2 (by omega) (by omega) (by omega)) (ne 1 2 (by omega) (by omega) (by omega)) ⟨(zxd r 3).toNat,by omega⟩ (ne 0 3 (by omega) (by omega) (by omega)) (ne 1 3 (by omega) (by omega) (by omega)) (ne 2 3 (by omega) (by omega) (by omega)) ⟨(zxd r 4).toNat,by omega⟩ (ne 0 4 (by omega) (by omega) (by omega)) (ne 1 4 (by omega) (by omega) (by omega)) (ne 2 4 (by omega) (by omega) (by omega)) (ne 3 4 (by omega) (by omega) (by omega)) ⟨L.toNat,by omega⟩
 dsimp only at key
 have e:∀i,i < 5->(if zxd r i < L then (1:Int) else 0)=((if (zxd r i).toNat < L.toNat then 1 else 0:Nat):Int):=fun i hi=>by
  have:=b i hi
  by_cases h:zxd r i < L
  ·rw[if_pos h,if_pos (by omega)]; rfl
  ·rw[if_neg h,if_neg (by omega)]; rfl
 unfold S5
 dsimp only
 rw[e 0 (by omega),e 1 (by omega),e 2 (by omega),e 3 (by omega),e 4 (by omega)]
 omega
theorem zxB(r:Nat->Int){k:Int}(hk:0<=k/\k<=4):∃i,i < 5/\zxd r i=k:=by
 apply Classical.byContradiction
 intro hn;have h1:=zxA r (L:=k) (by omega);have h2:=zxA r (L:=k+1) (by omega)
 have h3:S5 (fun i=>if zxd r i < k+1 then (1:Int) else 0)=S5 (fun i=>if zxd r i < k then (1:Int) else 0):=zw5 fun i hi=>by
  have h4:zxd r i ≠ k:=fun h=>hn ⟨i,hi,h⟩
  by_cases h:zxd r i < k
  ·rw[if_pos h,if_pos (by omega)]
  ·rw[if_neg h,if_neg (by omega)]
 omega
section
variable {N:Int} {u:Nat->Int}
theorem zxC(N:Int)(u:Nat->Int):S5 u * (N - S5 (qN N u))=S5 (rN N u):=by
 have h:∀k,rN N u k+S5 u * qN N u k=N * u k:=fun k=>Int.emod_add_mul_ediv (N * u k) (S5 u);have h0:=h 0; have h1:=h 1; have h2:=h 2; have h3:=h 3; have h4:=h 4
 have e1:S5 u * N=N * u 0+N * u 1+N * u 2+N * u 3+N * u 4:=by
  rw[Int.mul_comm]; unfold S5; rw[Int.mul_add,Int.mul_add,Int.mul_add,Int.mul_add]
 have e2:S5 u * S5 (qN N u)=S5 u * qN N u 0+S5 u * qN N u 1+S5 u * qN N u 2+S5 u * qN N u 3+S5 u * qN N u 4:=by
  generalize S5 u=U;unfold S5; rw[Int.mul_add,Int.mul_add,Int.mul_add,Int.mul_add]
 rw[Int.mul_sub,e1,e2]
 show _=rN N u 0+rN N u 1+rN N u 2+rN N u 3+rN N u 4
 omega
theorem zxD(hu:UOk u)(N:Int):0<=N - S5 (qN N u)/\N - S5 (qN N u)<=gtN (rN N u) 0/\N - S5 (qN N u)<=4:=by
 have hU:=hu.pos;have hl:=zxC N u;have hr:=fun k=>zxn (N:=N) hu k;have r0:=hr 0; have r1:=hr 1; have r2:=hr 2; have r3:=hr 3; have r4:=hr 4;refine⟨?_,?_,?_⟩
 ·apply Classical.byContradiction
  intro hn;have:S5 u * (N - S5 (qN N u)) < 0:=Int.mul_neg_of_pos_of_neg hU (by omega);rw[hl] at this;unfold S5 at this; omega
 ·have h2:S5 (rN N u)<=S5 u * gtN (rN N u) 0:=by
   have e:S5 u * gtN (rN N u) 0=S5 (fun k=>S5 u * if 0 < rN N u k then 1 else 0):=by
    unfold gtN;generalize S5 u=U
    show U * S5 (fun k=>if 0 < rN N u k then 1 else 0)=_
    unfold S5;rw[Int.mul_add,Int.mul_add,Int.mul_add,Int.mul_add]
   rw[e];refine zxs fun k _=>?_;have:=hr k
   by_cases h:0 < rN N u k
   ·rw[if_pos h]; omega
   ·rw[if_neg h]; omega
  rw[<- hl] at h2;exact Int.le_of_mul_le_mul_left h2 hU
 ·apply Classical.byContradiction
  intro hn;have h2:S5 u * 5<=S5 u * (N - S5 (qN N u)):=Int.mul_le_mul_of_nonneg_left (by omega) (by omega);rw[hl] at h2;have h3:S5 (rN N u)=rN N u 0+rN N u 1+rN N u 2+rN N u 3+rN N u 4:=rfl
  omega
theorem zxE(hu:UOk u){k:Nat}(h0:rN N u k=0):¬ zxd (rN N u) k < N - S5 (qN N u):=by
 have h1:=(zxD hu N).2.1;have h2:=zxf (rN N u) (rN N u k) k
 have h3:zxd (rN N u) k=gtN (rN N u) 0+eqN (rN N u) (rN N u k) k:=by unfold zxd; rw[h0]
 omega
theorem zxF(hu:UOk u)(N:Int):S5 (zxl N u)=N:=by
 have h:=zxD hu N;have e:S5 (zxl N u)=S5 (qN N u)+S5 (fun i=>if zxd (rN N u) i < N - S5 (qN N u) then 1 else 0):=zw3 _ _;rw[e,zxA _ (by omega)]; omega
theorem zxG(N:Int)(u:Nat->Int)(k:Nat):qN N u k<=zxl N u k/\zxl N u k<=qN N u k+1:=by unfold zxl; split <;> omega
theorem zxH(hu:UOk u)(hN:0<=N){k:Nat}(hk:k < 5):0<=zxl N u k:=by have:=zxG N u k; have:=zxm hu hN hk; omega
theorem zxI(hu:UOk u)(hN:0<=N){k:Nat}(hk:k < 5):zxl N u k<=N:=by
 have hs:=zxF hu N;have h:∀i,i < 5->0<=zxl N u i:=fun i hi=>zxH hu hN hi;have:=h 0 (by omega); have:=h 1 (by omega); have:=h 2 (by omega); have:=h 3 (by omega); have:=h 4 (by omega);unfold S5 at hs
 match k,hk with
 | 0,_=>omega
 | 1,_=>omega
 | 2,_=>omega
 | 3,_=>omega
 | 4,_=>omega
theorem zxJ(hu:UOk u){k:Nat}(h:u k=0):zxl N u k=0:=by
 have hq:qN N u k=0:=by unfold qN; rw[h,Int.mul_zero,Int.zero_ediv]
 have hr:rN N u k=0:=by unfold rN; rw[h,Int.mul_zero,Int.zero_emod]
 unfold zxl;rw[if_neg (zxE hu hr),hq]; rfl
end
end
end Go.Proofs.Ytkclhciahokifaa

namespace Go.Proofs.Ytkclhciahokifaa
open _root_.Go.Proofs.Try
open Go.Abs
set_option maxRecDepth 100000
noncomputable section
structure zxK (a:Mb):Prop where
 sum:1<=a.Sum/\a.Sum<=1000
 cls:1<=a.Class/\a.Class<=10
 most:0<=a.Most/\a.Most<=100000
def zxL(ms:List Mb):Prop:=ms.length<=5/\∀a∈ms,zxK a
def unN(a:Mb):Int:=a.Sum * a.Class
theorem zxM{a:Mb}(h:zxK a):1<=unN a/\unN a<=10000:=by
 have h1:=zxk (a:=a.Sum) (x:=a.Class) (A:=1000) (X:=10) ⟨by have:=h.sum; omega,h.sum.2⟩ ⟨by have:=h.cls; omega,h.cls.2⟩;have h2:a.Sum * 1<=a.Sum * a.Class:=Int.mul_le_mul_of_nonneg_left h.cls.1 (by have:=h.sum; omega);have:=h.sum;unfold unN; omega
def uF(ms:List Mb)(sh:Nat->Bool):Nat->Int:=zwW ms sh unN
def mF(ms:List Mb)(sh:Nat->Bool):Nat->Int:=zwW ms sh (·.Most)
def zxN(sh:Nat->Bool):Bool:=(sh 0 == false) && ((sh 1 == false) && ((sh 2 == false) && ((sh 3 == false) && (sh 4 == false))))
def zxO(a b:Nat->Bool):Bool:=(a 0 == b 0) && ((a 1 == b 1) && ((a 2 == b 2) && ((a 3 == b 3) && (a 4 == b 4))))
def zxP(ms:List Mb)(sh:Nat->Bool):Prop:=∀i,sh i=true->i < ms.length
def roundsN(ms:List Mb):Nat->(Nat->Bool)->Int->(Nat->Int)->(Nat->Int) × Int
 | 0,_,N,c=>(c,N)
 | d+1,sh,N,c=>if zxN sh=true then (c,N) else
   if zxO (zwY ms sh (zxl N (uF ms sh))) sh=true then (fun i=>c i+zxl N (uF ms sh) i,0) else
    roundsN ms d (zwY ms sh (zxl N (uF ms sh))) (N - S5 (mF ms fun i=>sh i && !zwY ms sh (zxl N (uF ms sh)) i)) (fun i=>c i+mF ms (fun i=>sh i && !zwY ms sh (zxl N (uF ms sh)) i) i)
def cF(sh:Nat->Bool):Nat:=(sh 0).toNat+(sh 1).toNat+(sh 2).toNat+(sh 3).toNat+(sh 4).toNat
theorem zxQ{sh:Nat->Bool}:zxN sh=true↔∀i,i < 5->sh i=false:=by
 unfold zxN
 simp only[Bool.and_eq_true,beq_iff_eq]
 constructor
 ·rintro⟨h0,h1,h2,h3,h4⟩ i hi
  match i,hi with
  | 0,_=>exact h0
  | 1,_=>exact h1
  | 2,_=>exact h2
  | 3,_=>exact h3
  | 4,_=>exact h4
 ·intro h; exact⟨h 0 (by omega),h 1 (by omega),h 2 (by omega),h 3 (by omega),h 4 (by omega)⟩
theorem zxR{a b:Nat->Bool}:zxO a b=true↔∀i,i < 5->a i=b i:=by
 unfold zxO
 simp only[Bool.and_eq_true,beq_iff_eq]
 constructor
 ·rintro⟨h0,h1,h2,h3,h4⟩ i hi
  match i,hi with
  | 0,_=>exact h0
  | 1,_=>exact h1
  | 2,_=>exact h2
  | 3,_=>exact h3
  | 4,_=>exact h4
 ·intro h; exact⟨h 0 (by omega),h 1 (by omega),h 2 (by omega),h 3 (by omega),h 4 (by omega)⟩
theorem zxS{ms:List Mb}{sh:Nat->Bool}{p:Nat->Int}{i:Nat}(h:zwY ms sh p i=true):sh i=true:=by
 unfold zwY at h
 cases hm:ms[i]? with
 | none=>rw[hm] at h; exact h
 | some a=>rw[hm] at h; exact(Bool.and_eq_true _ _ ▸ h).1
theorem zxT{ms:List Mb}{sh:Nat->Bool}{p:Nat->Int}{i:Nat}{a:Mb}(hm:ms[i]? = some a):zwY ms sh p i=(sh i && decide (p i<=a.Most)):=by unfold zwY; rw[hm]
theorem zxU{ms:List Mb}{sh:Nat->Bool}{p:Nat->Int}(h:¬ zxO (zwY ms sh p) sh=true):cF (zwY ms sh p) < cF sh:=by
 have hle:∀i,(zwY ms sh p i).toNat<=(sh i).toNat:=fun i=>by
  cases ha:zwY ms sh p i with
  | false=>exact Nat.zero_le _
  | true=>rw[zxS ha]; exact Nat.le_refl _
 have hne:∃i,i < 5/\(zwY ms sh p i).toNat ≠ (sh i).toNat:=by
  apply Classical.byContradiction
  intro hn;refine h (zxR.2 fun i hi=>?_)
  apply Classical.byContradiction
  intro h2;refine hn ⟨i,hi,fun h3=>h2 ?_⟩
  revert h3; cases zwY ms sh p i <;> cases sh i <;> decide
 obtain⟨i,hi,h2⟩:=hne;have l0:=hle 0; have l1:=hle 1; have l2:=hle 2; have l3:=hle 3; have l4:=hle 4;unfold cF
 match i,hi with
 | 0,_=>omega
 | 1,_=>omega
 | 2,_=>omega
 | 3,_=>omega
 | 4,_=>omega
theorem zxV{ms:List Mb}{sh:Nat->Bool}{num:Mb->Int}{i:Nat}(h:sh i=false):zwW ms sh num i=0:=by
 unfold zwW
 cases ms[i]? with
 | none=>rfl
 | some a=>show(if sh i=true then num a else 0)=0; rw[h]; rfl
theorem zxW{ms:List Mb}{sh:Nat->Bool}{num:Mb->Int}{i:Nat}{a:Mb}(hm:ms[i]? = some a)(h:sh i=true):zwW ms sh num i=num a:=by
 unfold zwW; rw[hm]; show(if sh i=true then num a else 0)=_; rw[h,if_pos rfl]
theorem zxX{ms:List Mb}(hms:zxL ms)(sh:Nat->Bool)(i:Nat):0<=uF ms sh i/\uF ms sh i<=10000:=by
 unfold uF
 cases hs:sh i with
 | false=>rw[zxV hs]; omega
 | true=>
  cases hm:ms[i]? with
  | none=>unfold zwW; rw[hm]; show(0:Int)<=0/\(0:Int)<=_; omega
  | some a=>rw[zxW hm hs]; have:=zxM (hms.2 a (List.mem_of_getElem? hm)); omega
theorem zxY{ms:List Mb}(hms:zxL ms){sh:Nat->Bool}(hs:zxP ms sh)(hn:¬ zxN sh=true):UOk (uF ms sh):=by
 have hb:=zxX hms sh;refine⟨fun i _=>by have:=hb i; omega,?_⟩
 obtain⟨i,hi,hsi⟩:∃i,i < 5/\sh i=true:=by
  apply Classical.byContradiction
  intro h;refine hn (zxQ.2 fun i hi=>?_)
  cases hq:sh i with
  | false=>rfl
  | true=>exact absurd ⟨i,hi,hq⟩ h
 have hl:=hs i hsi
 have h1:1<=uF ms sh i:=by unfold uF; rw[zxW (List.getElem?_eq_getElem hl) hsi]; exact(zxM (hms.2 _ (List.getElem_mem hl))).1
 have b0:=hb 0; have b1:=hb 1; have b2:=hb 2; have b3:=hb 3; have b4:=hb 4;unfold S5
 match i,hi with
 | 0,_=>omega
 | 1,_=>omega
 | 2,_=>omega
 | 3,_=>omega
 | 4,_=>omega
structure RI (ms:List Mb) (sh:Nat->Bool) (N:Int) (c:Nat->Int):Prop where
 sup:zxP ms sh
 nn:0<=N/\N<=1000000
 cb:∀i,i < 5->0<=c i/\c i<=1000000
 c0:∀i,sh i=true->c i=0
section
variable {ms:List Mb} {sh:Nat->Bool} {N:Int} {c:Nat->Int}
theorem zxZ(p:Nat->Int){i:Nat}:(sh i && !zwY ms sh p i)=true↔sh i=true/\∃a,ms[i]? = some a/\a.Most < p i:=by
 cases hm:ms[i]? with
 | none=>unfold zwY; rw[hm]; cases sh i <;> simp
 | some a=>
  rw[zxT hm]
  cases sh i with
  | false=>simp
  | true=>simp
theorem zx0(hms:zxL ms)(hs:zxP ms sh)(hn:¬ zxN sh=true)(hN:0<=N){i:Nat}(hi:i < 5) :
  0<=mF ms (fun i=>sh i && !zwY ms sh (zxl N (uF ms sh)) i) i/\mF ms (fun i=>sh i && !zwY ms sh (zxl N (uF ms sh)) i) i<=qN N (uF ms sh) i:=by
 have hu:=zxY hms hs hn;have hq:=zxm hu hN hi;unfold mF
 cases ho:(sh i && !zwY ms sh (zxl N (uF ms sh)) i) with
 | false=>rw[zxV (by exact ho)]; omega
 | true=>
  obtain⟨h1,a,h2,h3⟩:=(zxZ _).1 ho;have hb:=(hms.2 a (List.mem_of_getElem? h2)).most;have hp:=zxG N (uF ms sh) i;rw[zxW h2 (by exact ho)]; omega
theorem RI.next(hms:zxL ms)(h:RI ms sh N c)(hn:¬ zxN sh=true):RI ms (zwY ms sh (zxl N (uF ms sh))) (N - S5 (mF ms fun i=>sh i && !zwY ms sh (zxl N (uF ms sh)) i)) (fun i=>c i+mF ms (fun i=>sh i && !zwY ms sh (zxl N (uF ms sh)) i) i):=by
 have hu:=zxY hms h.sup hn;have hm:=fun i (hi:i < 5)=>zx0 hms h.sup hn h.nn.1 hi
 have hs:S5 (mF ms fun i=>sh i && !zwY ms sh (zxl N (uF ms sh)) i)<=S5 (zxl N (uF ms sh)):=zxs fun i hi=>by have:=hm i hi; have:=zxG N (uF ms sh) i; omega
 rw[zxF hu] at hs
 have hs0:0<=S5 (mF ms fun i=>sh i && !zwY ms sh (zxl N (uF ms sh)) i):=by
  have:=hm 0 (by omega); have:=hm 1 (by omega); have:=hm 2 (by omega); have:=hm 3 (by omega); have:=hm 4 (by omega);unfold S5; omega
 have hnn:=h.nn;refine⟨fun i hi=>h.sup i (zxS hi),by omega,fun i hi=>?_,fun i hi=>?_⟩
 ·have h1:=hm i hi;have h2:=h.cb i hi
  have h3:mF ms (fun i=>sh i && !zwY ms sh (zxl N (uF ms sh)) i) i<=N:=by have:=zxm hu h.nn.1 hi; omega
  show 0<=c i+_/\c i+_<=_
  cases ho:(sh i && !zwY ms sh (zxl N (uF ms sh)) i) with
  | false=>
   have e:mF ms (fun i=>sh i && !zwY ms sh (zxl N (uF ms sh)) i) i=0:=zxV (by exact ho);rw[e]; omega
  | true=>
   have hc:=h.c0 i ((zxZ _).1 ho).1;rw[hc]; omega
 ·have h1:=zxS hi
  show c i+_=0
  have e:mF ms (fun i=>sh i && !zwY ms sh (zxl N (uF ms sh)) i) i=0:=zxV (by show(sh i && !zwY ms sh _ i)=false; rw[hi]; simp);rw[h.c0 i h1,e]; rfl
theorem zx1{w:Wk}(hms:zxL w.s.Members):ztJ w (mkF sh)=some (mk5 (uF w.s.Members sh)):=by
 unfold ztJ;rw[zwX (num:=unN) (fun a ha=>?_) hms.1,obs]; rfl;have h:=hms.2 a ha;have:=h.sum; have:=h.cls;have hb:=zxM h;unfold unN at hb
 show ztF a=some (unN a)
 unfold ztF unN;rw[zqr (by omega),zqr (by omega),zqr (fI (by omega))]
theorem zx2{w:Wk}(hms:zxL w.s.Members):ztK w (mkF sh)=some (mk5 (mF w.s.Members sh)):=by
 unfold ztK;rw[zwX (number:=fun a=>ztG a) (num:=(·.Most)) (fun a _=>rfl) hms.1,obs]; rfl
theorem zx3{w:Wk}(hms:zxL w.s.Members)(need0:Int){need:Int}:∀(n D:Nat) (sh:Nat->Bool) (N:Int) (c:Nat->Int),RI w.s.Members sh N c->N+S5 c=need->need<=1000000->cF sh < n->cF sh < D ->
  ztN w need0 D need (c 0) (c 1) (c 2) (c 3) (c 4) (sh 0) (sh 1) (sh 2) (sh 3) (sh 4)=some { need:=need,calls:=mk5 (roundsN w.s.Members n sh N c).1 }
 | 0,_,_,_,_,_,_,_,h,_=>by omega
 | _+1,0,_,_,_,_,_,_,_,h=>by omega
 | n+1,D+1,sh,N,c,hr,hs,hneed,hn,hD=>by
  rw[ztN,roundsN]
  show(if zxN sh=true then _ else _)=_
  by_cases h0:zxN sh=true
  ·rw[if_pos h0,if_pos h0]; rfl
  ·rw[if_neg h0,if_neg h0];have hu:=zxY hms hr.sup h0
   have hbc:Bd 1000000000000 c:=fun i hi=>by have:=hr.cb i hi; omega
   have hcb:=hr.cb;have hc0:=hcb 0 (by omega); have hc1:=hcb 1 (by omega); have hc2:=hcb 2 (by omega); have hc3:=hcb 3 (by omega); have hc4:=hcb 4 (by omega)
   have hsc:0<=S5 c/\S5 c<=5000000:=by unfold S5; omega
   have hNN:0<=N/\N<=1000000:=hr.nn
   have e1:ztD ({ need:=need,calls:=mk5 c }:Oc)=some N:=by
    unfold ztD
    show(zts (mk5 c)).bind _=_
    rw[zwT hbc,obs,zqr (fI (by show -9223372036854775808<=need - S5 c/\need - S5 c < _; omega))];exact congrArg some (show need - S5 c=N by omega)
   show(ztD ({ need:=need,calls:=mk5 c }:Oc)).bind _=_
   rw[e1,obs]
   show(ztJ w (mkF sh)).bind _=_
   rw[zx1 hms,obs,zxp hu hNN,obs]
   show(ztM w (mkF sh) (mk5 (zxl N (uF w.s.Members sh)))).bind _=_
   rw[zwZ hms.1,obs]
   have hbp:Bd 1000000000000 (zxl N (uF w.s.Members sh)):=fun i hi=>by have:=zxH hu hNN.1 hi; have:=zxI hu hNN.1 hi; omega
   show(if zxO (zwY w.s.Members sh (zxl N (uF w.s.Members sh))) sh=true then _ else _)=_
   by_cases h1:zxO (zwY w.s.Members sh (zxl N (uF w.s.Members sh))) sh=true
   ·rw[if_pos h1,if_pos h1]
    have e2:ztE ({ need:=need,calls:=mk5 c }:Oc) (mk5 (zxl N (uF w.s.Members sh)))=some { need:=need,calls:=mk5 fun i=>c i+zxl N (uF w.s.Members sh) i }:=by
     unfold ztE
     show(ztu (mk5 c) _).bind _=_
     rw[zwU hbc hbp,obs]
    show(ztE ({ need:=need,calls:=mk5 c }:Oc) _).bind _=_
    rw[e2,obs]
   ·rw[if_neg h1,if_neg h1]
    show(ztw (mkF sh) (mkF (zwY w.s.Members sh (zxl N (uF w.s.Members sh))))).bind _=_
    rw[zwV,obs,zx2 hms,obs];have hnext:=hr.next hms h0;have hm:=fun i (hi:i < 5)=>zx0 hms hr.sup h0 hNN.1 hi
    have hbm:Bd 1000000000000 (mF w.s.Members fun i=>sh i && !zwY w.s.Members sh (zxl N (uF w.s.Members sh)) i):=fun i hi=>by have:=hm i hi; have:=zxm hu hNN.1 hi; omega
    have e2:ztE ({ need:=need,calls:=mk5 c }:Oc) (mk5 (mF w.s.Members fun i=>sh i && !zwY w.s.Members sh (zxl N (uF w.s.Members sh)) i))=some { need:=need,calls:=mk5 fun i=>c i+mF w.s.Members (fun i=>sh i && !zwY w.s.Members sh (zxl N (uF w.s.Members sh)) i) i }:=by
     unfold ztE
     show(ztu (mk5 c) _).bind _=_
     rw[zwU hbc hbm,obs]
    show(ztE ({ need:=need,calls:=mk5 c }:Oc) _).bind _=_
    rw[e2,obs];have hless:=zxU h1;have e3:S5 (fun i=>c i+mF w.s.Members (fun i=>sh i && !zwY w.s.Members sh (zxl N (uF w.s.Members sh)) i) i)=S5 c+S5 (mF w.s.Members fun i=>sh i && !zwY w.s.Members sh (zxl N (uF w.s.Members sh)) i):=zw3 _ _
    have e4:N - S5 (mF w.s.Members fun i=>sh i && !zwY w.s.Members sh (zxl N (uF w.s.Members sh)) i)+S5 (fun i=>c i+mF w.s.Members (fun i=>sh i && !zwY w.s.Members sh (zxl N (uF w.s.Members sh)) i) i)=need:=by rw[e3]; omega
    exact zx3 hms need0 n D _ _ _ hnext e4 hneed (by omega) (by omega)
end
def zx4(ms:List Mb)(ask:Nat->Bool)(need:Int):(Nat->Int) × Int:=roundsN ms 6 ask need fun _=>0
theorem zx5(sh:Nat->Bool):cF sh<=5:=by
 have h:∀b:Bool,b.toNat<=1:=fun b=>by cases b <;> decide
 have:=h (sh 0); have:=h (sh 1); have:=h (sh 2); have:=h (sh 3); have:=h (sh 4);unfold cF; omega
theorem zx6{w:Wk}(hms:zxL w.s.Members){ask:Nat->Bool}(ha:w.asked=mkF ask)(hsup:zxP w.s.Members ask){need:Int}(hn:0<=need/\need<=1000000):ztO w need=some { need:=need,calls:=mk5 (zx4 w.s.Members ask need).1 }:=by
 unfold ztO;rw[ha];have hc:=zx5 ask;exact zx3 hms need 6 1000000 ask need (fun _=>0) ⟨hsup,hn,fun _ _=>by omega,fun _ _=>rfl⟩ (by rw[zw4]; omega) hn.2 (by omega) (by omega)
end
end Go.Proofs.Ytkclhciahokifaa

namespace Go.Proofs.Ytkclhciahokifaa
open _root_.Go.Proofs.Try
open Go.Abs
set_option maxRecDepth 100000
noncomputable section
section
variable {ms:List Mb}
theorem zx7(hms:zxL ms):∀(n:Nat) (sh:Nat->Bool) (N:Int) (c:Nat->Int),RI ms sh N c->cF sh < n->S5 (roundsN ms n sh N c).1+(roundsN ms n sh N c).2=N+S5 c/\0<=(roundsN ms n sh N c).2
 | 0,_,_,_,_,h=>by omega
 | n+1,sh,N,c,hr,h=>by
  unfold roundsN
  by_cases h0:zxN sh=true
  ·rw[if_pos h0]; have:=hr.nn; exact⟨by show S5 c+N=_; omega,hr.nn.1⟩
  ·rw[if_neg h0];have hu:=zxY hms hr.sup h0
   by_cases h1:zxO (zwY ms sh (zxl N (uF ms sh))) sh=true
   ·rw[if_pos h1];have e:S5 (fun i=>c i+zxl N (uF ms sh) i)=S5 c+S5 (zxl N (uF ms sh)):=zw3 _ _;have hp:=zxF hu N;exact⟨by show S5 (fun i=>c i+zxl N (uF ms sh) i)+0=_; omega,Int.le_refl _⟩
   ·rw[if_neg h1];have hless:=zxU h1;have ih:=zx7 hms n _ _ _ (hr.next hms h0) (by omega);have e:S5 (fun i=>c i+mF ms (fun i=>sh i && !zwY ms sh (zxl N (uF ms sh)) i) i)=S5 c+S5 (mF ms fun i=>sh i && !zwY ms sh (zxl N (uF ms sh)) i):=zw3 _ _;rw[e] at ih;exact⟨by rw[ih.1]; omega,ih.2⟩
theorem zx8(hms:zxL ms):∀(n:Nat) (sh:Nat->Bool) (N:Int) (c:Nat->Int),RI ms sh N c->cF sh < n->∀i,i < 5->sh i=false->(roundsN ms n sh N c).1 i=c i
 | 0,_,_,_,_,h=>by omega
 | n+1,sh,N,c,hr,h=>fun i hi hs=>by
  unfold roundsN
  by_cases h0:zxN sh=true
  ·rw[if_pos h0]
  ·rw[if_neg h0];have hu:=zxY hms hr.sup h0
   by_cases h1:zxO (zwY ms sh (zxl N (uF ms sh))) sh=true
   ·rw[if_pos h1]
    show c i+_=_
    rw[zxJ hu (show uF ms sh i=0 from zxV hs),Int.add_zero]
   ·rw[if_neg h1];have hless:=zxU h1
    have ha:zwY ms sh (zxl N (uF ms sh)) i=false:=by
     cases hq:zwY ms sh (zxl N (uF ms sh)) i with
     | false=>rfl
     | true=>rw[zxS hq] at hs; cases hs
    rw[zx8 hms n _ _ _ (hr.next hms h0) (by omega) i hi ha];have e:mF ms (fun i=>sh i && !zwY ms sh (zxl N (uF ms sh)) i) i=0:=zxV (by show(sh i && _)=false; rw[hs]; rfl);rw[e,Int.add_zero]
theorem zx9(hms:zxL ms):∀(n:Nat) (sh:Nat->Bool) (N:Int) (c:Nat->Int),RI ms sh N c->cF sh < n->∀i a,i < 5->ms[i]? = some a->sh i=true->(0<=(roundsN ms n sh N c).1 i/\(roundsN ms n sh N c).1 i<=a.Most)/\(0 < (roundsN ms n sh N c).2->(roundsN ms n sh N c).1 i=a.Most)
 | 0,_,_,_,_,h=>by omega
 | n+1,sh,N,c,hr,h=>fun i a hi hm hs=>by
  unfold roundsN
  by_cases h0:zxN sh=true
  ·have:=zxQ.1 h0 i hi; rw[hs] at this; cases this
  ·rw[if_neg h0];have hu:=zxY hms hr.sup h0;have hc:=hr.c0 i hs;have hp:=zxH hu hr.nn.1 hi
   by_cases h1:zxO (zwY ms sh (zxl N (uF ms sh))) sh=true
   ·rw[if_pos h1];have h2:=zxR.1 h1 i hi;rw[zxT hm,hs,Bool.true_and] at h2;have h3:zxl N (uF ms sh) i<=a.Most:=of_decide_eq_true h2;exact⟨by show 0<=c i+_/\c i+_<=_; omega,fun h=>absurd h (Int.lt_irrefl _)⟩
   ·rw[if_neg h1];have hless:=zxU h1
    cases hq:zwY ms sh (zxl N (uF ms sh)) i with
    | true=>exact zx9 hms n _ _ _ (hr.next hms h0) (by omega) i a hi hm hq
    | false=>
     rw[zx8 hms n _ _ _ (hr.next hms h0) (by omega) i hi hq];have e:mF ms (fun i=>sh i && !zwY ms sh (zxl N (uF ms sh)) i) i=a.Most:=zxW hm (by show(sh i && !zwY ms sh _ i)=true; rw[hs,hq]; rfl);have hb:=(hms.2 a (List.mem_of_getElem? hm)).most;rw[e,hc];exact⟨by omega,fun _=>by omega⟩
end
section
variable {ms:List Mb} {ask:Nat->Bool} {N:Int}
theorem RI0(hs:zxP ms ask)(hN:0<=N/\N<=1000000):RI ms ask N fun _=>0:=⟨hs,hN,fun _ _=>by omega,fun _ _=>rfl⟩
theorem zya(hms:zxL ms)(hs:zxP ms ask)(hN:0<=N/\N<=1000000):S5 (zx4 ms ask N).1+(zx4 ms ask N).2=N/\0<=(zx4 ms ask N).2:=by
 have:=zx5 ask;have h:=zx7 hms 6 ask N (fun _=>0) (RI0 hs hN) (by omega);rw[zw4] at h;exact⟨by rw[Int.add_zero] at h; exact h.1,h.2⟩
theorem zyb(hms:zxL ms)(hs:zxP ms ask)(hN:0<=N/\N<=1000000){i:Nat}(hi:i < 5)(ha:ask i=false):(zx4 ms ask N).1 i=0:=by
 have:=zx5 ask;exact zx8 hms 6 ask N (fun _=>0) (RI0 hs hN) (by omega) i hi ha
theorem zyc(hms:zxL ms)(hs:zxP ms ask)(hN:0<=N/\N<=1000000){i:Nat}{a:Mb}(hi:i < 5)(hm:ms[i]? = some a)(ha:ask i=true):(0<=(zx4 ms ask N).1 i/\(zx4 ms ask N).1 i<=a.Most)/\(0 < (zx4 ms ask N).2->(zx4 ms ask N).1 i=a.Most):=by
 have:=zx5 ask;exact zx9 hms 6 ask N (fun _=>0) (RI0 hs hN) (by omega) i a hi hm ha
theorem zyd(hms:zxL ms)(hs:zxP ms ask)(hN:0<=N/\N<=1000000){i:Nat}(hi:i < 5):0<=(zx4 ms ask N).1 i/\(zx4 ms ask N).1 i<=100000:=by
 cases ha:ask i with
 | false=>rw[zyb hms hs hN hi ha]; omega
 | true=>
  have hm:=List.getElem?_eq_getElem (hs i ha);have h:=zyc hms hs hN hi hm ha;have hb:=(hms.2 _ (List.getElem_mem (hs i ha))).most
  omega
end
end
end Go.Proofs.Ytkclhciahokifaa

namespace Go.Proofs.Ytkclhciahokifaa
open _root_.Go.Proofs.Try
open Go.Abs
set_option maxRecDepth 100000
noncomputable section
def RgV(r:Rg):Prop:=0<=r.Lo/\r.Lo<=r.Hi/\r.Hi<=100000/\r.Hi - r.Lo<=30
instance (r:Rg):Decidable (RgV r):=by unfold RgV; infer_instance
structure zye (s:Soc):Prop where
 pos:0 < s.Members.length
 ms:∀a∈s.Members,zxK a
 ls:∀r∈s.Losses,RgV r
 tr:RgV s.Treaty
 rs:0<=s.Reserve/\s.Reserve<=100000
structure zyf (s:Soc):Prop where
 m5:s.Members.length<=5
 l3:s.Losses.length<=3
 full:zye s
theorem zyf.msOk{s:Soc}(h:zyf s):zxL s.Members:=⟨h.m5,h.full.ms⟩
open Classical in
def zyg(s:Soc):Int:=if 5 < s.Members.length\/3 < s.Losses.length then 3 else if zye s then 0 else 1
theorem zyh{s:Soc}:zyg s=0↔zyf s:=by
 unfold zyg
 by_cases h:5 < s.Members.length\/3 < s.Losses.length
 ·rw[if_pos h]; exact⟨fun h=>by omega,fun h2=>by have:=h2.m5; have:=h2.l3; omega⟩
 ·rw[if_neg h]
  by_cases hf:zye s
  ·rw[if_pos hf]; exact⟨fun _=>⟨by omega,by omega,hf⟩,fun _=>rfl⟩
  ·rw[if_neg hf]; exact⟨fun h=>by omega,fun h=>absurd h.full hf⟩
theorem zyi{r:Rg}{n:Int}:Ev (zsM r n) (r.Lo<=n/\n<=r.Hi):=Ev.ite fun _=>Ev.dec Iff.rfl
theorem zyj{n:Int}:Ev (zsN n) (0<=n/\n<=100000):=zyi.ret
theorem zyk{r:Rg}:Ev (zsO r) (RgV r):=by
 refine(zyj.and fun h1=>zyj.and fun h2=>Ev.ite (K:=r.Hi - r.Lo<=30) fun _=>Ev.gd (fI (by omega)) (Ev.dec Iff.rfl)).imp ?_;unfold RgV; omega
theorem zyl{a:Mb}:Ev (zsP ({ su:=({ Lo:=(1:Int),Hi:=(1000:Int) }:Rg),cl:=({ Lo:=(1:Int),Hi:=(10:Int) }:Rg),mo:=({ Lo:=(0:Int),Hi:=(100000:Int) }:Rg) }:Lm) a) (zxK a):=
 (zyi.and fun _=>zyi.and fun _=>zyi.ret).imp ⟨fun⟨h1,h2,h3⟩=>⟨h1,h2,h3⟩,fun⟨h1,h2,h3⟩=>⟨h1,h2,h3⟩⟩
theorem gM{l:List Mb}{p:Mb->Option Bool}:∀{d:Nat} {x:Int},zsR l p d x=gIdx l p d x
 | 0,_=>rfl
 | d+1,x=>by unfold zsR gIdx; simp only[gM]
theorem gR{l:List Rg}{p:Rg->Option Bool}:∀{d:Nat} {x:Int},zsW l p d x=gIdx l p d x
 | 0,_=>rfl
 | d+1,x=>by unfold zsW gIdx; simp only[gR]
theorem gI{l:List Int}{p:Int->Option Bool}:∀{d:Nat} {x:Int},zs1 l p d x=gIdx l p d x
 | 0,_=>rfl
 | d+1,x=>by unfold zs1 gIdx; simp only[gI]
theorem zym{s:Soc}(h1:zrS s.Members)(h2:zrS s.Losses):Ev (zs8 s) (zye s):=by
 refine(Ev.ite fun _=>(Ev.each (q:=zxK) (fun a _=>zyl) h1.lt gM).and fun _=>(Ev.each (q:=RgV) (fun a _=>zyk) h2.lt gR).and fun _=>zyk.and fun _=>zyj.ret).imp ?_;exact⟨fun⟨a,b,c,d,e⟩=>⟨by omega,b,c,d,e⟩,fun⟨a,b,c,d,e⟩=>⟨by omega,b,c,d,e⟩⟩
theorem zyn{s:Soc}:Ev (zs7 s) (5 < s.Members.length\/3 < s.Losses.length):=by
 unfold zs7
 by_cases h:(5:Int) < s.Members.length
 ·rw[if_pos h]; exact Ev.tt (by omega)
 ·rw[if_neg h]; exact Ev.dec (by omega)
theorem zyo{s:Soc}(h1:zrS s.Members)(h2:zrS s.Losses):zs9 s=some (zyg s):=by
 unfold zs9 zyg;refine zyn.pick (fun h=>?_) fun h=>?_
 ·rw[if_pos rfl,if_pos h]
 ·rw[if_neg (by decide),if_neg h];refine(zym h1 h2).pick (fun h=>?_) fun h=>?_
  ·rw[if_pos rfl,if_pos h]
  ·rw[if_neg (by decide),if_neg h]
theorem zyp{n lo hi:Int}:Ev (zsg n lo hi) (lo<=n/\n<=hi):=Ev.ite fun _=>Ev.dec Iff.rfl
theorem zyq{r:Rg}:Ev (zsh r) (RgV r):=Ev.ite fun h1=>Ev.ite fun h2=>Ev.ite fun h3=>Ev.gd (fI (by omega)) (Ev.dec Iff.rfl)
theorem zyr{s:Soc}(h1:s.Members.length<=8)(h2:s.Losses.length<=6):zsj s=some (zyg s):=by
 unfold zsj zyg
 by_cases c1:5 < s.Members.length
 ·rw[if_pos (by omega),if_pos (.inl c1)]
 rw[if_neg (by omega)]
 by_cases c2:3 < s.Losses.length
 ·rw[if_pos (by omega),if_pos (.inr c2)]
 rw[if_neg (show ¬ (3:Int) < s.Losses.length by omega),if_neg (show ¬ (5 < s.Members.length\/3 < s.Losses.length) by omega)]
 by_cases c3:s.Members.length=0
 ·rw[if_pos (by omega),if_neg fun h:zye s=>by have:=h.pos; omega]
 rw[if_neg (show ¬ (s.Members.length:Int)=0 by omega)]
 refine zyq.pick (fun c4=>?_) fun c4=>by rw[if_neg (by decide),if_neg fun h=>c4 h.tr]
 rw[if_pos rfl]
 refine zyp.pick (fun c5=>?_) fun c5=>by rw[if_neg (by decide),if_neg fun h=>c5 h.rs]
 rw[if_pos rfl]
 have kL:=zrR (l:=s.Losses) (F:=fun d x=>prFault_L1 s d x) (ok:=RgV) (bad:=some 1) (fin:=some 0) (fun d k a hk=>by
  have hkl:=(List.getElem?_eq_some_iff.1 hk).1
  show(RgV a->prFault_L1 s (d+1) (k:Int)=_)/\_
  rw[prFault_L1,if_pos (by omega),zrI hk,obs]
  exact Ev.step zyq (by rw[if_pos rfl,zqr (fI (by omega))]) (by rw[if_neg (by decide)])) (fun d=>by show prFault_L1 s (d+1) _=_; rw[prFault_L1,if_neg (Int.lt_irrefl _)]) (d:=1000000) (by omega)
 have kM:=zrR (l:=s.Members) (F:=fun d x=>zsi s d 0 x) (ok:=zxK) (bad:=some 1) (fin:=prFault_L1 s 1000000 0) (fun d k a hk=>by
  have hkl:=(List.getElem?_eq_some_iff.1 hk).1
  show(zxK a->zsi s (d+1) 0 (k:Int)=_)/\_
  rw[zsi,if_pos (by omega),zrI hk,obs];refine⟨fun h=>?_,fun h=>?_⟩
  ·rw[zyp.some_of h.sum,obs,if_pos rfl,zyp.some_of h.cls,obs,if_pos rfl,zyp.some_of h.most,obs,if_pos rfl,zqr (fI (by omega))]
  ·refine zyp.pick (fun q1=>?_) fun q1=>by rw[if_neg (by decide)]
   rw[if_pos rfl]
   refine zyp.pick (fun q2=>?_) fun q2=>by rw[if_neg (by decide)]
   rw[if_pos rfl]
   refine zyp.pick (fun q3=>absurd ⟨q1,q2,q3⟩ h) fun q3=>by rw[if_neg (by decide)]) (fun d=>by show zsi s (d+1) 0 _=_; rw[zsi,if_neg (Int.lt_irrefl _)]) (d:=1000000) (by omega)
 by_cases c6:∀a∈s.Members,zxK a
 ·refine(kM.1 c6).trans ?_
  by_cases c7:∀r∈s.Losses,RgV r
  ·refine(kL.1 c7).trans ?_;rw[if_pos ⟨by omega,c6,c7,c4,c5⟩]
  ·refine(kL.2 c7).trans ?_;rw[if_neg fun h=>c7 h.ls]
 ·refine(kM.2 c6).trans ?_;rw[if_neg fun h=>c6 h.ms]
theorem zys{s:Soc}(h1:s.Members.length<=8)(h2:s.Losses.length<=6):zuj s=some (zyg s):=by unfold zuj; rw[zyr h1 h2]; rfl
def zyt(n:Nat)(out:List Int):Nat->Bool:=fun i=>decide (i < n) && !decide ((i:Int)∈out)
def zyu(s:Soc)(out:List Int):Wk:={ s:=s,asked:=mkF (zyt s.Members.length out) }
def wk0:Wk:={ s:={ Members:=[],Losses:=[],Treaty:={ Lo:=0,Hi:=0 },Reserve:=0 },asked:={ b0:=false,b1:=false,b2:=false,b3:=false,b4:=false } }
theorem zyv(ms:List Mb)(out:List Int):zxP ms (zyt ms.length out):=fun i h=>by
 unfold zyt at h
 simp at h; exact h.1
theorem zyw{l:List Int}{v:Int}(hl:zrS l):∀d (k:Nat),k<=l.length->l.length - k < d->∃r,zte l v d (k:Int)=some r/\(0<=r↔v∈l.drop k)
 | 0,k,_,h=>by omega
 | d+1,k,hk,h=>by
  unfold zrS at hl;unfold zte
  by_cases hkn:k=l.length
  ·subst hkn; rw[if_neg (Int.lt_irrefl _)]; exact⟨_,rfl,by simp⟩
  ·have hlt:k < l.length:=by omega
   rw[if_pos (by omega),zrI (List.getElem?_eq_getElem hlt),obs];have hd:=List.drop_eq_getElem_cons hlt
   by_cases hv:v=l[k]
   ·rw[if_pos hv]; exact⟨_,rfl,⟨fun _=>by rw[hd,<- hv]; exact List.mem_cons_self ..,fun _=>by omega⟩⟩
   ·rw[if_neg hv,zqr (fI (by omega)),show(k:Int)+1=((k+1:Nat):Int) by omega];obtain⟨r,h1,h2⟩:=zyw hl d (k+1) (by omega) (by omega);exact⟨r,h1,h2.trans ⟨fun h=>by rw[hd]; exact List.mem_cons_of_mem _ h,fun h=>by rw[hd] at h; exact(List.mem_cons.1 h).resolve_left hv⟩⟩
theorem zyx{l:List Int}{v:Int}(hl:zrS l):ztg l v=some (decide (v∈l)):=by
 unfold ztg ztf;obtain⟨r,h1,h2⟩:=zyw (v:=v) hl (l.length+1) 0 (Nat.zero_le _) (by omega);have h1:zte l v (l.length+1) 0=some r:=h1;rw[h1,obs];exact congrArg some (decide_eq_decide.2 (h2.trans (by rw[List.drop_zero])))
theorem zyy{s:Soc}{out:List Int}(hl:zrS out)(h5:s.Members.length<=5):zti s out=some (zyu s out):=by
 unfold zti;have key:=zwJ (n:=s.Members.length) (fun d st x=>zth s out d s.Treaty.Lo s.Treaty.Hi s.Reserve (st 0) (st 1) (st 2) (st 3) (st 4) x) (stF (zyt s.Members.length out) fun _=>false) (fin:=some (zyu s out)) (fun d k hk=>?_) (fun d=>?_) (s.Members.length+1) 0 (by omega) (by omega)
 ·rw[zwN] at key; exact key
 ·show zth s out (d+1) _ _ _ _ _ _ _ _ _=_
  rw[zth,if_pos (by omega),zyx hl,obs,zqr (by omega),zqr (fI (by omega))];have e:=zwQ (zyt s.Members.length out) (fun _=>false) k
  have e0:(!decide ((k:Int)∈out))=zyt s.Members.length out k:=by unfold zyt; rw[decide_eq_true hk,Bool.true_and]
  rw[e0,e 0,e 1,e 2,e 3,e 4]
 ·show zth s out (d+1) _ _ _ _ _ _ _ _ _=_
  rw[zth,if_neg (by omega)]
  have e1:∀j,stF (zyt s.Members.length out) (fun _=>false) s.Members.length j=zyt s.Members.length out j:=fun j=>by
   unfold stF
   by_cases h:j < s.Members.length
   ·rw[if_pos h]
   ·rw[if_neg h]; unfold zyt; rw[decide_eq_false h]; rfl
  rw[e1 0,e1 1,e1 2,e1 3,e1 4]; rfl
def zyz(n:Nat)(l:List Int):Prop:=l.Pairwise (· < ·)/\∀v∈l,0<=v/\v<=(n:Int) - 1
theorem zyA{l:List Int}:(∀j,0 < j->j < l.length->∀a b,l[j - 1]? = some a->l[j]? = some b->a < b)↔l.Pairwise (· < ·):=by
 constructor
 ·intro h;rw[List.pairwise_iff_getElem];intro i j hi hj hij
  have key:∀d,(hd:i+d+1 < l.length)->l[i] < l[i+d+1]:=fun d=>by
   induction d with
   | zero=>intro hd; exact h (i+1) (by omega) hd _ _ (List.getElem?_eq_getElem hi) (List.getElem?_eq_getElem hd)
   | succ d ih=>
    intro hd;have h1:=ih (by omega);have h2:=h (i+(d+1)+1) (by omega) hd _ _ (List.getElem?_eq_getElem (show i+d+1 < l.length by omega)) (List.getElem?_eq_getElem hd);exact Int.lt_trans h1 h2
  have:=key (j - i - 1) (by omega)
  simpa [show i+(j - i - 1)+1=j by omega] using this
 ·intro h j h0 hj a b ha hb;obtain⟨h1,rfl⟩:=List.getElem?_eq_some_iff.1 ha;obtain⟨h2,rfl⟩:=List.getElem?_eq_some_iff.1 hb;exact List.pairwise_iff_getElem.1 h (j - 1) j h1 h2 (by omega)
theorem zyB{l:List Int}(hl:zrS l):Ev (zs6 l) (l.Pairwise (· < ·)):=by
 unfold zrS at hl;unfold zs6
 by_cases h0:l.length=0
 ·have:l=[]:=List.eq_nil_of_length_eq_zero h0;subst this
  show Ev (zs5 [] 1 1) _
  rw[zs5,if_neg (by decide)];exact Ev.tt .nil
 ·have e:∃n,l.length=n+1:=⟨l.length - 1,by omega⟩;obtain⟨n,hn⟩:=e
  have key:=zrM (n:=n) (F:=fun d x=>zs5 l d (x+1)) (ok:=fun j=>∀a b,l[j]? = some a->l[j+1]? = some b->a < b) (bad:=some false) (fin:=some true) (fun d k hk=>by
   show(_->zs5 l (d+1) ((k:Int)+1)=_)/\_
   have ha:=List.getElem?_eq_getElem (show k < l.length by omega);have hb:=List.getElem?_eq_getElem (show k+1 < l.length by omega);rw[zs5,if_pos (by omega),zrJ (show(k:Int)+1=((k+1:Nat):Int) by omega) (show k+1 < l.length by omega),obs,zqr (fI (by omega)),zrJ (show(k:Int)+1 - 1=(k:Int) by omega) (show k < l.length by omega),obs];refine⟨fun h=>?_,fun h=>?_⟩
   ·have:=h _ _ ha hb;rw[if_neg (by omega),zqr (fI (by omega))]
   ·rw[if_pos]
    apply Classical.byContradiction
    intro h2
    exact h fun a b h3 h4=>by rw[ha] at h3; rw[hb] at h4; cases h3; cases h4; omega) (fun d=>by show zs5 l (d+1) _=_; rw[zs5,if_neg (by omega)]) (d:=((l.length:Int) - 1).toNat+1) (by omega)
  have e0:zs5 l (((l.length:Int) - 1).toNat+1) (0+1)=zs5 l (((l.length:Int) - 1).toNat+1) 1:=rfl
  have hiff:(∀j,j < n->∀a b,l[j]? = some a->l[j+1]? = some b->a < b)↔l.Pairwise (· < ·):=by
   rw[<- zyA]
   constructor
   ·intro h j h0 hj a b h1 h2;have:=h (j - 1) (by omega) a b h1;rw[show j - 1+1=j by omega] at this;exact this h2
   ·intro h j hj a b h1 h2;exact h (j+1) (by omega) (by omega) a b (by rw[Nat.add_sub_cancel]; exact h1) h2
  by_cases hq:∀j,j < n->∀a b,l[j]? = some a->l[j+1]? = some b->a < b
  ·have:=key.1 hq;exact⟨true,this,⟨fun _=>hiff.1 hq,fun _=>rfl⟩⟩
  ·have:=key.2 hq;exact⟨false,this,⟨fun h=>(by cases h),fun h=>absurd (hiff.2 h) hq⟩⟩
theorem zyC{s:Soc}{l:List Int}(hl:zrS l)(hm:zrS s.Members):Ev (ztd s l) (zyz s.Members.length l):=by
 unfold zrS at hm;refine((zyB hl).and fun _=>(Ev.each (q:=fun v=>0<=v/\v<=(s.Members.length:Int) - 1) (fun v _=>?_) hl.lt gI).ret).imp Iff.rfl;exact Ev.gd (fI (by omega)) zyi.ret
theorem zyD{s:Soc}{out:List Int}(hs:zyf s)(hl:zrS out)(ho:zyz s.Members.length out):ztj s out=some (zyu s out,0):=by
 have h1:=hs.m5; have h2:=hs.l3;unfold ztj;rw[zyo (by unfold zrS; omega) (by unfold zrS; omega),obs,if_pos (zyh.2 hs),(zyC hl (by unfold zrS; omega)).some_of ho,obs,if_pos rfl,zyy hl h1,obs]
theorem zyE{s:Soc}{out:List Int}(hs:zyf s)(hl:zrS out)(ho:¬ zyz s.Members.length out):ztj s out=some (wk0,2):=by
 have h1:=hs.m5; have h2:=hs.l3;unfold ztj;rw[zyo (by unfold zrS; omega) (by unfold zrS; omega),obs,if_pos (zyh.2 hs),(zyC hl (by unfold zrS; omega)).some_not ho,obs,if_neg (by decide)]; rfl
theorem zyF{s:Soc}{out:List Int}(h1:zrS s.Members)(h2:zrS s.Losses)(hf:zyg s ≠ 0):ztj s out=some (wk0,zyg s):=by
 unfold ztj;rw[zyo h1 h2,obs,if_neg hf]; rfl
theorem zyG(n:Nat):zyz n []:=⟨.nil,fun _ h=>by cases h⟩
def zyH(lo hi:Int):List Int:=(List.range (hi - lo+1).toNat).map fun(k:Nat)=>lo+(k:Int)
theorem zyI{lo hi x:Int}:x∈zyH lo hi↔lo<=x/\x<=hi:=by
 unfold zyH;rw[List.mem_map]
 constructor
 ·rintro⟨k,h1,rfl⟩
  have:=List.mem_range.1 h1
  omega
 ·intro h; exact⟨(x - lo).toNat,List.mem_range.2 (by omega),by omega⟩
def zyJ(g:Rg->Int)(l:List Rg):Int:=zw1 (l.map g)
theorem zyK{l:List Rg}(h:∀r∈l,RgV r):0<=zyJ (·.Lo) l/\zyJ (·.Lo) l<=zyJ (·.Hi) l/\zyJ (·.Hi) l<=100000 * l.length/\zyJ (·.Hi) l<=zyJ (·.Lo) l+30 * l.length:=by
 induction l with
 | nil=>exact⟨Int.le_refl _,Int.le_refl _,Int.le_refl _,Int.le_refl _⟩
 | cons r l ih=>
  have ih:=ih fun r hr=>h r (List.mem_cons_of_mem _ hr);have hr:=h r (List.mem_cons_self ..);unfold RgV at hr;have e1:zyJ (·.Lo) (r::l)=r.Lo+zyJ (·.Lo) l:=rfl;have e2:zyJ (·.Hi) (r::l)=r.Hi+zyJ (·.Hi) l:=rfl;rw[e1,e2,List.length_cons]
  omega
def loN(s:Soc):Int:=max 0 (zyJ (·.Lo) s.Losses - s.Reserve - s.Treaty.Hi)
def hiN(s:Soc):Int:=max 0 (zyJ (·.Hi) s.Losses - s.Reserve - s.Treaty.Lo)
theorem zyL{s:Soc}(hs:zyf s):0<=loN s/\loN s<=hiN s/\hiN s<=300000/\hiN s<=loN s+120:=by
 have h:=zyK hs.full.ls;have h1:=hs.l3;have h2:=hs.full.tr;have h3:=hs.full.rs;unfold RgV at h2;unfold loN hiN
 omega
theorem zyM{g:Rg->Int}{l:List Rg}{k:Nat}{a:Rg}(h:l[k]? = some a):zyJ g (l.take (k+1))=zyJ g (l.take k)+g a:=by
 unfold zyJ;rw[List.take_add_one,h,List.map_append,zw2]
 show _+(g a+0)=_; omega
theorem zyN{s:Soc}{a b:Int}(h:0<=a/\a<=1000000)(hb:0<=b/\b<=1000000)(hr:0<=s.Reserve/\s.Reserve<=100000):ztk s a b=some (max 0 (a - s.Reserve - b)):=by
 unfold ztk;rw[zqr (fI (by omega)),zqr (fI (by omega))]
theorem zyO{hi:Int}(hh:hi<=1000000):∀(d:Nat) (x:Int),0<=x->(hi - x+1).toNat < d->ztn hi d x=some (zyH x hi)
 | 0,_,_,h=>by omega
 | d+1,x,hx,h=>by
  rw[ztn]
  by_cases hc:x<=hi
  ·rw[if_pos hc,zqr (fI (by omega)),zyO hh d (x+1) (by omega) (by omega),obs]
   have e:(hi - x+1).toNat=(hi - (x+1)+1).toNat+1:=by omega
   have e2:zyH x hi=x::zyH (x+1) hi:=by
    unfold zyH;rw[e,List.range_succ_eq_map,List.map_cons,List.map_map];refine congr (congrArg List.cons (by show x+((0:Nat):Int)=x; omega)) (List.map_congr_left fun k _=>?_)
    show x+((k+1:Nat):Int)=x+1+(k:Int)
    omega
   rw[e2]
  ·rw[if_neg hc]
   have e:(hi - x+1).toNat=0:=by omega
   unfold zyH; rw[e]; rfl
theorem zyP{s:Soc}(hs:zyf s):ztq s=some (zyH (loN s) (hiN s)):=by
 have hb:=zyK hs.full.ls;have hn:=zyL hs;have h3:=hs.l3;have htr:=hs.full.tr;unfold RgV at htr;have hrs:=hs.full.rs
 have e:ztp s=some (zyH (loN s) (hiN s)):=by
  unfold ztp;refine zwJ (n:=s.Losses.length) (fun d (st:Int × Int) x=>zto s d st.1 st.2 x) (fun k=>(zyJ (·.Lo) (s.Losses.take k),zyJ (·.Hi) (s.Losses.take k))) (fun d k hk=>?_) (fun d=>?_) (s.Losses.length+1) 0 (by omega) (by omega)
  ·have hg:=List.getElem?_eq_getElem hk;have h1:=zyK (l:=s.Losses.take k) fun r hr=>hs.full.ls r (List.mem_of_mem_take hr);have h2:=hs.full.ls _ (List.getElem_mem hk)
   have h4:(s.Losses.take k).length<=3:=by rw[List.length_take]; omega
   unfold RgV at h2
   show zto s (d+1) (zyJ _ _) (zyJ _ _) (k:Int)=zto s d (zyJ _ _) (zyJ _ _) _
   rw[zto,if_pos (by omega),zrI hg,obs,zqr (fI (by omega)),zqr (fI (by omega)),zqr (fI (by omega)),zyM hg,zyM hg]
  ·show zto s (d+1) (zyJ _ _) (zyJ _ _) _=_
   rw[zto,if_neg (Int.lt_irrefl _),List.take_length,zyN (by omega) (by omega) hrs,obs,zyN (by omega) (by omega) hrs,obs];exact zyO (by unfold hiN at hn; omega) _ _ (by omega) (by omega)
 unfold ztq;rw[e]; rfl
end
end Go.Proofs.Ytkclhciahokifaa

namespace Go.Proofs.Ytkclhciahokifaa
open _root_.Go.Proofs.Try
open Go.Abs
set_option maxRecDepth 100000
noncomputable section
def Inc(n fr:Nat)(T:List Int):Prop:=T.Pairwise (· < ·)/\∀v∈T,(fr:Int)<=v/\v < n
theorem Inc.cons{n fr:Nat}{x:Int}{T:List Int}:Inc n fr (x::T)↔((fr:Int)<=x/\x < n)/\Inc n (x+1).toNat T:=by
 unfold Inc;rw[List.pairwise_cons]
 constructor
 ·rintro⟨⟨h1,h2⟩,h3⟩
  have hx:=h3 x (List.mem_cons_self ..);exact⟨hx,h2,fun v hv=>by have:=h1 v hv; have:=h3 v (List.mem_cons_of_mem _ hv); omega⟩
 ·rintro⟨hx,h2,h3⟩
  refine⟨⟨fun v hv=>by have:=h3 v hv; omega,h2⟩,fun v hv=>?_⟩
  rcases List.mem_cons.1 hv with rfl | hv
  ·exact hx
  ·have:=h3 v hv; omega
theorem zyQ{n:Nat}{D:List Int}:∀{d:Nat} {pre:List Int} {fr:Nat},D∈zrx n d pre fr↔∃T,D=pre++T/\T.length=d/\Inc n fr T
 | 0,pre,fr=>by
  show D∈[pre]↔_
  rw[List.mem_singleton]
  constructor
  ·rintro rfl; exact⟨[],by simp,rfl,.nil,fun v hv=>by cases hv⟩
  ·rintro⟨T,h1,h2,_⟩
   rw[List.eq_nil_of_length_eq_zero h2,List.append_nil] at h1; exact h1
 | d+1,pre,fr=>by
  show D∈zrw (fun x=>zrx n d (pre++[(x:Int)]) (x+1)) (n - fr) fr↔_
  rw[zuR]
  constructor
  ·rintro⟨x,h1,h2,h3⟩
   obtain⟨T,h4,h5,h6⟩:=zyQ.1 h3;refine⟨(x:Int)::T,by rw[h4]; simp,by simp[h5],Inc.cons.2 ⟨by omega,?_⟩⟩;rw[show((x:Int)+1).toNat=x+1 by omega]; exact h6
  ·rintro⟨T,h1,h2,h3⟩
   cases T with
   | nil=>simp at h2
   | cons v T=>
    obtain⟨h4,h5⟩:=Inc.cons.1 h3;refine⟨v.toNat,by omega,by omega,zyQ.2 ⟨T,?_,by simpa using h2,?_⟩⟩
    ·rw[show((v.toNat:Nat):Int)=v by omega,h1]; simp
    ·rw[show v.toNat+1=(v+1).toNat by omega]; exact h5
theorem zyR{n:Nat}:∀{T:List Int} {fr:Nat},Inc n fr T->T.length<=n - fr
 | [],_,_=>Nat.zero_le _
 | v::T,fr,h=>by
  obtain⟨h1,h2⟩:=Inc.cons.1 h;have:=zyR h2
  simp only[List.length_cons]
  omega
theorem zyS{n:Nat}{D:List Int}:D∈zoh n↔Inc n 0 D:=by
 unfold zoh;rw[zuR]
 constructor
 ·rintro⟨s,_,_,h⟩
  obtain⟨T,h1,_,h2⟩:=zyQ.1 h;rw[h1]; exact h2
 ·intro h;have:=zyR h;exact⟨D.length,Nat.zero_le _,by omega,zyQ.2 ⟨D,rfl,rfl,h⟩⟩
def inD(D:List Int)(j:Nat):Bool:=decide ((j:Int)∈D)
def zyT(b:Nat):Nat->List Int
 | 0=>[]
 | p+1=>zyT b p++(if b.testBit p then [(p:Int)] else [])
def zyU(b:Nat):List Int:=zyT b 16
theorem zyV{b:Nat}{v:Int}:∀{p:Nat},v∈zyT b p↔0<=v/\v < p/\b.testBit v.toNat=true
 | 0=>⟨fun h=>(by cases h),fun h=>by omega⟩
 | p+1=>by
  show v∈zyT b p++_↔_
  rw[List.mem_append,zyV]
  constructor
  ·rintro (h | h)
   ·exact⟨h.1,by omega,h.2.2⟩
   ·by_cases hb:b.testBit p=true
    ·rw[if_pos hb,List.mem_singleton] at h;subst h; exact⟨by omega,by omega,hb⟩
    ·rw[if_neg hb] at h; cases h
  ·rintro⟨h1,h2,h3⟩
   by_cases hv:v=(p:Int)
   ·subst hv;have h4:b.testBit p=true:=h3;rw[if_pos h4]; exact .inr (List.mem_singleton.2 rfl)
   ·exact .inl ⟨h1,by omega,h3⟩
theorem zyW{b:Nat}:∀p:Nat,(zyT b p).Pairwise (· < ·)
 | 0=>.nil
 | p+1=>by
  show(zyT b p++_).Pairwise _
  rw[List.pairwise_append];refine⟨zyW p,?_,fun a ha c hc=>?_⟩
  ·split
   ·exact List.pairwise_singleton _ _
   ·exact .nil
  ·have:=zyV.1 ha
   split at hc
   ·rw[List.mem_singleton] at hc; omega
   ·cases hc
theorem zyX(b p:Nat):(b:Int) / 2 ^ p=((b / 2 ^ p:Nat):Int):=by simp
def bef:List Int->List Int->Bool
 | [],[]=>false
 | [],_::_=>true
 | _::_,[]=>false
 | x::a,y::b=>if x=y then bef a b else decide (x < y)
def shB(a b:List Int):Bool:=decide (a.length < b.length) || (decide (a.length=b.length) && bef a b)
theorem zyY:∀A:List Int,bef A A=false
 | []=>rfl
 | x::A=>by show(if x=x then bef A A else _)=_; rw[if_pos rfl,zyY A]
theorem zyZ:∀{A B:List Int},bef A B=true->bef B A=false
 | [],[],h=>by cases h
 | [],_::_,_=>rfl
 | _::_,[],h=>by cases h
 | x::A,y::B,h=>by
  have h':(if x=y then bef A B else decide (x < y))=true:=h
  show(if y=x then bef B A else decide (y < x))=false
  by_cases hxy:x=y
  ·rw[if_pos hxy] at h'; rw[if_pos hxy.symm]; exact zyZ h'
  ·rw[if_neg hxy] at h'; rw[if_neg fun h=>hxy h.symm];have:=of_decide_eq_true h';exact decide_eq_false (by omega)
theorem zy0:∀A B:List Int,A=B\/bef A B=true\/bef B A=true
 | [],[]=>.inl rfl
 | [],_::_=>.inr (.inl rfl)
 | _::_,[]=>.inr (.inr rfl)
 | x::A,y::B=>by
  show x::A=y::B\/(if x=y then bef A B else decide (x < y))=true\/(if y=x then bef B A else decide (y < x))=true
  by_cases hxy:x=y
  ·subst hxy;rw[if_pos rfl,if_pos rfl]
   rcases zy0 A B with h | h | h
   ·exact .inl (by rw[h])
   ·exact .inr (.inl h)
   ·exact .inr (.inr h)
  ·rw[if_neg hxy,if_neg fun h=>hxy h.symm]
   by_cases h:x < y
   ·exact .inr (.inl (decide_eq_true h))
   ·exact .inr (.inr (decide_eq_true (by omega)))
theorem zy1:∀(n:Nat) (S:Nat->Bool),∃b,b < 2 ^ n/\∀q,q < n->b.testBit q=S q
 | 0,S=>⟨0,by decide,fun q hq=>by omega⟩
 | n+1,S=>by
  obtain⟨b,h1,h2⟩:=zy1 n fun q=>S (q+1);refine⟨2 * b+(if S 0 then 1 else 0),?_,fun q hq=>?_⟩
  ·rw[Nat.pow_succ]; split <;> omega
  ·cases q with
   | zero=>
    rw[Nat.testBit_zero]
    cases S 0 with
    | true=>exact decide_eq_true (by simp only[if_true]; omega)
    | false=>exact decide_eq_false (by simp)
   | succ q=>
    rw[Nat.testBit_succ,<- h2 q (by omega)]
    congr 1
    split <;> omega
theorem zy2:∀{A B:List Int},A.Pairwise (· < ·)->B.Pairwise (· < ·)->(∀v,v∈A↔v∈B)->A=B
 | [],[],_,_,_=>rfl
 | [],b::B,_,_,h=>by have:=(h b).2 (List.mem_cons_self ..); cases this
 | a::A,[],_,_,h=>by have:=(h a).1 (List.mem_cons_self ..); cases this
 | a::A,b::B,hA,hB,h=>by
  rw[List.pairwise_cons] at hA hB
  have hab:a=b:=by
   rcases List.mem_cons.1 ((h a).1 (List.mem_cons_self ..)) with h1 | h1
   ·exact h1
   ·rcases List.mem_cons.1 ((h b).2 (List.mem_cons_self ..)) with h2 | h2
    ·exact h2.symm
    ·have:=hA.1 _ h2; have:=hB.1 _ h1; omega
  subst hab
  congr 1
  refine zy2 hA.2 hB.2 fun v=>?_;have hv:=h v;rw[List.mem_cons,List.mem_cons] at hv
  constructor
  ·intro h1
   rcases hv.1 (.inr h1) with h2 | h2
   ·have:=hA.1 _ h1; omega
   ·exact h2
  ·intro h1
   rcases hv.2 (.inr h1) with h2 | h2
   ·have:=hB.1 _ h1; omega
   ·exact h2
theorem zy3{n b:Nat}(_hn:n<=16)(hb:b < 2 ^ n):Inc n 0 (zyU b):=
 ⟨zyW 16,fun v hv=>by
  obtain⟨h1,h2,h3⟩:=zyV.1 hv;refine⟨by omega,?_⟩
  by_cases h4:v < n
  ·exact h4
  ·have:=Nat.testBit_lt_two_pow (Nat.lt_of_lt_of_le hb (Nat.pow_le_pow_right (by omega) (show n<=v.toNat by omega)))
   rw[this] at h3; cases h3⟩
theorem zy4{n:Nat}{D:List Int}(hn:n<=16)(hD:Inc n 0 D):∃b,b < 2 ^ n/\zyU b=D:=by
 obtain⟨b,h1,h2⟩:=zy1 n (inD D);refine⟨b,h1,zy2 (zyW 16) hD.1 fun v=>?_⟩
 constructor
 ·intro hv;obtain⟨h3,h4⟩:=(zy3 hn h1).2 v hv;obtain⟨_,_,h5⟩:=zyV.1 hv;rw[h2 _ (by omega)] at h5;have:=of_decide_eq_true h5
  rwa [show((v.toNat:Nat):Int)=v by omega] at this
 ·intro hv;have h3:=hD.2 v hv;refine zyV.2 ⟨by omega,by omega,?_⟩;rw[h2 _ (by omega)];exact decide_eq_true (by rw[show((v.toNat:Nat):Int)=v by omega]; exact hv)
theorem zy5{l:List Int}(h:l ≠ [])(hl:l.length<=1048577):ztS l=some (zrU l):=by
 unfold ztS
 cases l with
 | nil=>exact absurd rfl h
 | cons x l=>
  rw[if_neg (by rw[List.length_cons]; omega),zrK rfl,obs];refine(zrT (l:=x::l) (fun s a=>min s a) (fun d s k=>ztR (x::l) d s k) (fun s=>some s) (fun d k s a hk=>?_) (fun d s=>?_) _ 0 x (Nat.zero_le _) (by omega)).trans ?_
  ·have hkl:=(List.getElem?_eq_some_iff.1 hk).1
   show ztR (x::l) (d+1) s (k:Int)=_
   rw[ztR,if_pos (by omega),zrI hk,obs]
   by_cases hc:a < s
   ·rw[if_pos hc,zqr (fI (by omega)),Int.min_eq_right (by omega)]
   ·rw[if_neg hc,zqr (fI (by omega)),Int.min_eq_left (by omega)]
  ·show ztR (x::l) (d+1) s _=_
   rw[ztR,if_neg (Int.lt_irrefl _)]
  ·rw[List.drop_zero]
   show some (l.foldl min (min x x))=_
   rw[Int.min_self]; rfl
theorem zy6{l:List Int}(h:l ≠ [])(hl:l.length<=1048577):ztU l=some (zrV l):=by
 unfold ztU
 cases l with
 | nil=>exact absurd rfl h
 | cons x l=>
  rw[if_neg (by rw[List.length_cons]; omega),zrK rfl,obs];refine(zrT (l:=x::l) (fun s a=>max s a) (fun d s k=>ztT (x::l) d s k) (fun s=>some s) (fun d k s a hk=>?_) (fun d s=>?_) _ 1 x (by rw[List.length_cons]; omega) (by rw[List.length_cons]; omega)).trans ?_
  ·have hkl:=(List.getElem?_eq_some_iff.1 hk).1
   show ztT (x::l) (d+1) s (k:Int)=_
   rw[ztT,if_pos (by omega),zrI hk,obs,zqr (fI (by omega))]
  ·show ztT (x::l) (d+1) s _=_
   rw[ztT,if_neg (Int.lt_irrefl _)]
  ·rfl
theorem zy7{l:List Int}(h:l ≠ []):zrU l∈l/\∀y∈l,zrU l<=y:=by
 cases l with
 | nil=>exact absurd rfl h
 | cons x l=>
  obtain⟨h1,h2,h3⟩:=zrW l x;refine⟨?_,fun y hy=>?_⟩
  ·rcases h1 with h1 | h1
   ·show l.foldl min x∈_; rw[h1]; exact List.mem_cons_self ..
   ·exact List.mem_cons_of_mem _ h1
  ·rcases List.mem_cons.1 hy with rfl | hy
   ·exact h2
   ·exact h3 y hy
theorem zy8{l:List Int}(h:l ≠ []):zrV l∈l/\∀y∈l,y<=zrV l:=by
 cases l with
 | nil=>exact absurd rfl h
 | cons x l=>
  obtain⟨h1,h2,h3⟩:=zrX l x;refine⟨?_,fun y hy=>?_⟩
  ·rcases h1 with h1 | h1
   ·show l.foldl max x∈_; rw[h1]; exact List.mem_cons_self ..
   ·exact List.mem_cons_of_mem _ h1
  ·rcases List.mem_cons.1 hy with rfl | hy
   ·exact h2
   ·exact h3 y hy
def bnd(s:Soc)(g:Int->Int):Rg:={ Lo:=zrU ((zyH (loN s) (hiN s)).map g),Hi:=zrV ((zyH (loN s) (hiN s)).map g) }
def zy9(s:Soc)(out:List Int)(N:Int):Oc:={ need:=N,calls:=mk5 (zx4 s.Members (zyt s.Members.length out) N).1 }
theorem zza{s:Soc}(hs:zyf s):(zyH (loN s) (hiN s)).length<=121:=by
 have:=zyL hs;unfold zyH; rw[List.length_map,List.length_range]; omega
theorem zzb{s:Soc}(hs:zyf s):zyH (loN s) (hiN s) ≠ []:=fun h=>by
 have:=zyL hs;have:loN s∈zyH (loN s) (hiN s):=zyI.2 (by omega)
 rw[h] at this; cases this
theorem zzc{s:Soc}(hs:zyf s)(g:Int->Int):(∃N,(loN s<=N/\N<=hiN s)/\g N=(bnd s g).Lo)/\(∃N,(loN s<=N/\N<=hiN s)/\g N=(bnd s g).Hi)/\∀N,loN s<=N/\N<=hiN s->(bnd s g).Lo<=g N/\g N<=(bnd s g).Hi:=by
 have hne:(zyH (loN s) (hiN s)).map g ≠ []:=fun h=>zzb hs (List.map_eq_nil_iff.1 h);obtain⟨a1,a2⟩:=zy7 hne;obtain⟨b1,b2⟩:=zy8 hne;obtain⟨x,hx,ex⟩:=List.mem_map.1 a1;obtain⟨y,hy,ey⟩:=List.mem_map.1 b1;exact⟨⟨x,zyI.1 hx,ex⟩,⟨y,zyI.1 hy,ey⟩,fun N hN=>⟨a2 _ (List.mem_map.2 ⟨N,zyI.2 hN,rfl⟩),b2 _ (List.mem_map.2 ⟨N,zyI.2 hN,rfl⟩)⟩⟩
theorem zzd{s:Soc}(hs:zyf s):bnd s (fun N=>N)={ Lo:=loN s,Hi:=hiN s }:=by
 obtain⟨⟨x,hx,ex⟩,⟨y,hy,ey⟩,h⟩:=zzc hs fun N=>N;have hb:=zyL hs;have h1:=(h (loN s) ⟨Int.le_refl _,hb.2.1⟩).1;have h2:=(h (hiN s) ⟨hb.2.1,Int.le_refl _⟩).2
 have e1:(bnd s fun N=>N).Lo=loN s:=by omega
 have e2:(bnd s fun N=>N).Hi=hiN s:=by omega
 revert e1 e2
 generalize bnd s (fun N=>N)=r;intro e1 e2
 cases r
 exact congr (congrArg Rg.mk e1) e2
theorem zze{s:Soc}(hs:zyf s)(out:List Int){N:Int}(hN:0<=N/\N<=1000000):ztO (zyu s out) N=some (zy9 s out N):=zx6 (w:=zyu s out) hs.msOk rfl (zyv s.Members out) hN
theorem zzf{s:Soc}(hs:zyf s){out:List Int}{q:Qu}{g:Int->Int}(hg:∀N,loN s<=N->N<=hiN s->q.ask (zy9 s out N)=some (g N)) :
  ∀(L:List Int) (acc:List Int),(∀N∈L,loN s<=N/\N<=hiN s)->acc.length+L.length<=1000->acc++L.map g ≠ []->ztV (zyu s out) q L acc=some { Lo:=zrU (acc++L.map g),Hi:=zrV (acc++L.map g) }
 | [],acc,_,hl,hne=>by
  rw[List.map_nil,List.append_nil] at hne ⊢;rw[ztV,zy5 hne (by omega),obs,zy6 hne (by omega),obs]
 | N::L,acc,hN,hl,hne=>by
  have h1:=hN N (List.mem_cons_self ..);have hb:=zyL hs;rw[List.length_cons] at hl;rw[ztV,zze hs out (by omega),obs,hg N h1.1 h1.2,obs,zqr (by omega),zzf hs hg L (acc++[g N]) (fun x hx=>hN x (List.mem_cons_of_mem _ hx)) (by rw[List.length_append]; show acc.length+1+_<=_; omega) (by simp)];rw[List.map_cons,List.append_assoc]; rfl
theorem zzg{s:Soc}(hs:zyf s){out:List Int}{q:Qu}{g:Int->Int}(hg:∀N,loN s<=N->N<=hiN s->q.ask (zy9 s out N)=some (g N)):ztW (zyu s out) q=some (bnd s g):=by
 unfold ztW;rw[show(zyu s out).s=s from rfl,zyP hs,obs];have hl:=zza hs;exact zzf hs hg _ [] (fun N hN=>zyI.1 hN) (by show 0+_<=_; omega) (fun h=>zzb hs (List.map_eq_nil_iff.1 h))
theorem zzh{s:Soc}(hs:zyf s):zt4 s=some ({ Lo:=loN s,Hi:=hiN s },0):=by
 unfold zt4;rw[zyD hs (Nat.zero_le _) (zyG _),obs,if_pos rfl,zzg hs (g:=fun N=>N) (fun N _ _=>rfl),obs,zzd hs]
theorem zzi{s:Soc}(hs:zyf s)(out:List Int){N:Int}(hN:0<=N/\N<=1000000):ztD (zy9 s out N)=some (zx4 s.Members (zyt s.Members.length out) N).2:=by
 have hsup:=zyv s.Members out;have h1:=zya hs.msOk hsup hN
 have hb:Bd 1000000000000 (zx4 s.Members (zyt s.Members.length out) N).1:=fun i hi=>by have:=zyd hs.msOk hsup hN hi; omega
 have hb5:=fun i hi=>zyd hs.msOk hsup hN (i:=i) hi;have b0:=hb5 0 (by omega); have b1:=hb5 1 (by omega); have b2:=hb5 2 (by omega); have b3:=hb5 3 (by omega); have b4:=hb5 4 (by omega)
 have hS:0<=S5 (zx4 s.Members (zyt s.Members.length out) N).1/\S5 (zx4 s.Members (zyt s.Members.length out) N).1<=500000:=by unfold S5; omega
 unfold ztD
 show(zts (mk5 (zx4 s.Members (zyt s.Members.length out) N).1)).bind _=_
 rw[zwT hb,obs,zqr (fI (by show -9223372036854775808<=N - S5 _/\N - S5 _ < _; omega))];exact congrArg some (show N - S5 (zx4 s.Members (zyt s.Members.length out) N).1=_ by omega)
def zzj(s:Soc)(out:List Int)(N:Int):List Int:=(l5 (zx4 s.Members (zyt s.Members.length out) N).1).take s.Members.length
theorem zzk{s:Soc}(out:List Int)(N:Int)(h5:s.Members.length<=5):(zzj s out N).length=s.Members.length:=by
 unfold zzj; rw[List.length_take]; show min _ 5=_; omega
theorem zzl{s:Soc}(hs:zyf s){N:Int}(hN:0<=N/\N<=300000):zt6 s N=some (zzj s [] N,(zx4 s.Members (zyt s.Members.length []) N).2,0):=by
 have h5:=hs.m5;unfold zt6;rw[zyD hs (Nat.zero_le _) (zyG _),obs,if_pos rfl,zyi.some_of hN,obs,if_pos rfl]
 show(ztO (zyu s []) N).bind _=_
 rw[zze hs [] (by omega),obs,zqr (by omega)]
 have e:zt5 ((([(zy9 s [] N).calls.p0,(zy9 s [] N).calls.p1,(zy9 s [] N).calls.p2,(zy9 s [] N).calls.p3,(zy9 s [] N).calls.p4]:List Int).take (Int.toNat (s.Members.length:Int))).drop (Int.toNat (0:Int)))=some (zzj s [] N):=by
  have hl:=zzk [] N h5
  show zt5 (zzj s [] N)=_
  unfold zt5;rw[zqr (by rw[hl]; show 0+_<=_; omega)]; rfl
 rw[e,obs,zzi hs [] (by omega),obs]
theorem zzm{s:Soc}(hs:zyf s)(out:List Int)(N:Int){k:Nat}(hk:k < s.Members.length):ztP (zy9 s out N) (k:Int)=some ((zx4 s.Members (zyt s.Members.length out) N).1 k):=by
 have h5:=hs.m5;unfold ztP
 show(idx (l5 (zx4 s.Members (zyt s.Members.length out) N).1) (k:Int)).bind _=_
 rw[zwL (by omega),obs]
def zzn(s:Soc)(out:List Int):List Rg:=(List.range s.Members.length).map fun k=>bnd s fun N=>(zx4 s.Members (zyt s.Members.length out) N).1 k
theorem zzo{s:Soc}(out:List Int):(zzn s out).length=s.Members.length:=by unfold zzn; rw[List.length_map,List.length_range]
theorem zzp{s:Soc}(out:List Int){k:Nat}(hk:k < s.Members.length):(zzn s out)[k]? = some (bnd s fun N=>(zx4 s.Members (zyt s.Members.length out) N).1 k):=by
 unfold zzn; rw[List.getElem?_map,List.getElem?_range hk]; rfl
theorem zzq{s:Soc}(hs:zyf s){out:List Int}(hl:zrS out)(ho:zyz s.Members.length out):zt8 s out=some (zzn s out,0):=by
 have h5:=hs.m5;unfold zt8;rw[zyD hs hl ho,obs,if_pos rfl];refine zwJ (n:=s.Members.length) (fun d acc x=>zt7 s (zyu s out,0) d acc x) (fun k=>(zzn s out).take k) (fun d k hk=>?_) (fun d=>?_) (s.Members.length+1) 0 (by omega) (by omega)
 ·show zt7 s (zyu s out,0) (d+1) _ _=_
  have hb:ztQ (k:Int)=some (fun o=>ztP o (k:Int)):=rfl;rw[zt7,if_pos (by omega),hb,obs]
  show(ztW (zyu s out) _).bind _=_
  rw[zzg hs (g:=fun N=>(zx4 s.Members (zyt s.Members.length out) N).1 k) (fun N _ _=>zzm hs out N hk),obs,zqr (by rw[List.length_take]; omega),zqr (fI (by omega))];rw[List.take_add_one,zzp out hk]; rfl
 ·show zt7 s (zyu s out,0) (d+1) _ _=_
  rw[zt7,if_neg (Int.lt_irrefl _),List.take_of_length_le (by rw[zzo]; exact Nat.le_refl _)]
theorem zzr{s:Soc}(hs:zyf s){out:List Int}(hl:zrS out)(ho:¬ zyz s.Members.length out):zt8 s out=some ([],2):=by
 unfold zt8;rw[zyE hs hl ho,obs,if_neg (by decide)]
theorem zzs{s:Soc}(hs:zyf s):zt9 s=some (zzn s [],0):=by
 unfold zt9;rw[zzq hs (Nat.zero_le _) (zyG _),obs]
def zzt(s:Soc)(out:List Int)(N:Int):Int:=(zx4 s.Members (zyt s.Members.length out) N).2
theorem zzu{s:Soc}(hs:zyf s):zua s=some (bnd s (zzt s []),0):=by
 have hb:=zyL hs;unfold zua;rw[zyD hs (Nat.zero_le _) (zyG _),obs,if_pos rfl,zzg hs (g:=zzt s []) (fun N h1 h2=>zzi hs [] (by omega)),obs]
theorem zzv{s:Soc}(hs:zyf s)(out:List Int):ztX (zyu s out)=some (hiN s):=by
 unfold ztX;rw[zzg hs (g:=fun N=>N) (fun N _ _=>rfl),obs,zzd hs]
theorem zzw(a:Mb){r t:Int}(hu:0<=unN a)(h:r<=t):min (unN a * r / 100) a.Most<=min (unN a * t / 100) a.Most:=by
 have h1:unN a * r<=unN a * t:=Int.mul_le_mul_of_nonneg_left h hu;have h2:=Int.ediv_le_ediv (c:=100) (by omega) h1
 omega
def brN(ms:List Mb)(rate:Int):Int:=zw1 (ms.map fun a=>min (unN a * rate / 100) a.Most)
theorem zzx{ms:List Mb}(hm:∀a∈ms,zxK a){r:Int}(hr:0<=r/\r<=10000):0<=brN ms r/\brN ms r<=100000 * ms.length:=by
 induction ms with
 | nil=>exact⟨Int.le_refl _,Int.le_refl _⟩
 | cons a ms ih=>
  have ih:=ih fun a ha=>hm a (List.mem_cons_of_mem _ ha);have ha:=hm a (List.mem_cons_self ..);have hu:=zxM ha;have hmo:=ha.most;have h1:0<=unN a * r / 100:=Int.ediv_nonneg (Int.mul_nonneg (by omega) hr.1) (by omega);have e:brN (a::ms) r=min (unN a * r / 100) a.Most+brN ms r:=rfl;rw[e,List.length_cons]; omega
theorem zzy{ms:List Mb}(hm:∀a∈ms,zxK a){r t:Int}(h:r<=t):brN ms r<=brN ms t:=by
 induction ms with
 | nil=>exact Int.le_refl _
 | cons a ms ih=>
  have ih:=ih fun a ha=>hm a (List.mem_cons_of_mem _ ha);have h2:=zzw a (by have:=zxM (hm a (List.mem_cons_self ..)); omega) h
  show min _ _+brN ms r<=min _ _+brN ms t
  omega
theorem zzz{ms:List Mb}{r:Int}{k:Nat}{a:Mb}(h:ms[k]? = some a):brN (ms.take (k+1)) r=brN (ms.take k) r+min (unN a * r / 100) a.Most:=by
 unfold brN;rw[List.take_add_one,h,List.map_append,zw2]
 show _+(min (unN a * r / 100) a.Most+0)=_
 rw[Int.add_zero]
theorem zzA{s:Soc}(hs:zyf s)(out:List Int){r:Int}(hr:0<=r/\r<=10000):ztZ (zyu s out) r=some (brN s.Members r):=by
 have h5:=hs.m5;unfold ztZ;refine zwJ (n:=s.Members.length) (fun d acc x=>ztY (zyu s out) r d acc x) (fun k=>brN (s.Members.take k) r) (fun d k hk=>?_) (fun d=>?_) (s.Members.length+1) 0 (by omega) (by omega)
 ·have hg:=List.getElem?_eq_getElem hk;have ha:=hs.full.ms _ (List.getElem_mem hk);have hu:=zxM ha;have hmo:=ha.most;have hb:=zzx (ms:=s.Members.take k) (fun a ha=>hs.full.ms a (List.mem_of_mem_take ha)) hr
  have hlk:(s.Members.take k).length<=5:=by rw[List.length_take]; omega
  have hm:=zxk (a:=unN s.Members[k]) (x:=r) (A:=10000) (X:=10000) (by omega) hr;have hq:0<=unN s.Members[k] * r / 100:=Int.ediv_nonneg hm.1 (by omega)
  have hun:ztF s.Members[k]=some (unN s.Members[k]):=by
   have h1:=ha.sum; have h2:=ha.cls;unfold unN at hu;unfold ztF unN;rw[zqr (by omega),zqr (by omega),zqr (fI (by omega))]
  show ztY (zyu s out) r (d+1) _ _=_
  rw[ztY,if_pos (show(k:Int) < ((zyu s out).s.Members.length:Int) by show(k:Int) < (s.Members.length:Int); omega),show idx (zyu s out).s.Members (k:Int)=some s.Members[k] from zrI hg,obs,hun,obs,zqr (by omega),zqr hr.1,zqr (fI (by omega)),zqr hm.1,zqr (by omega),zqr (fI (by omega)),zqr (fI (by omega)),zqr (fI (by omega)),zzz hg]
 ·show ztY (zyu s out) r (d+1) _ _=_
  rw[ztY,if_neg (show ¬ ((s.Members.length:Nat):Int) < ((zyu s out).s.Members.length:Int) from Int.lt_irrefl _),List.take_length]
def zzB(s:Soc)(r:Int):Bool:=decide (hiN s<=brN s.Members r)
theorem zzC{s:Soc}(hs:zyf s){r:Int}(hr:0<=r/\r<=10000):zt0 (zyu s []) r=some (zzB s r):=by
 unfold zt0;rw[zzA hs [] hr,obs,zzv hs,obs]; rfl
theorem zzD{p:Int->Option Bool}{f:Nat->Bool}{n:Nat}(hn:n<=1000000)(hp:∀m,m < n->p (m:Int)=some (f m))(hm:∀m k,m<=k->k < n->f m=true->f k=true):∀d (i j:Nat),i<=j->j<=n->j - i < d->(∀m,m < i->f m=false)->(∀m,j<=m->m < n->f m=true) ->
  ∃k:Nat,zt2 p d (i:Int) (j:Int)=some (k:Int)/\k<=n/\(∀m,m < k->f m=false)/\(∀m,k<=m->m < n->f m=true)
 | 0,_,_,_,_,h,_,_=>by omega
 | d+1,i,j,hij,hj,h,hlo,hhi=>by
  rw[zt2]
  by_cases hc:i < j
  ·obtain⟨md,hmd⟩:∃md:Nat,md=(i+j) / 2:=⟨_,rfl⟩
   have hf:zl6 .u64 ((i:Int)+j):=show _/\_ by constructor <;> omega
   have e:zmb .i64 (zmb .u64 ((i:Int)+j) / 2)=(md:Int):=by
    rw[wz hf,wz (fI (by omega))]; omega
   rw[if_pos (by omega),zqr (fI (by omega)),zqr (by rw[wz hf]; omega),zqr (by omega),zqr (by omega),zqr (by rw[wz hf]; exact show _/\_ by constructor <;> omega),e,hp md (by omega),obs]
   cases hq:f md with
   | true=>
    rw[if_pos rfl];exact zzD hn hp hm d i md (by omega) (by omega) (by omega) hlo fun m h1 h2=>hm md m h1 h2 hq
   | false=>
    rw[if_neg (by decide),zqr (fI (by omega)),show(md:Int)+1=((md+1:Nat):Int) by omega]
    exact zzD hn hp hm d (md+1) j (by omega) hj (by omega) (fun m h1=>by
     cases hq2:f m with
     | false=>rfl
     | true=>have:=hm m md (by omega) (by omega) hq2; rw[hq] at this; cases this) hhi
  ·rw[if_neg (by omega)];exact⟨i,rfl,by omega,hlo,fun m h1 h2=>hhi m (by omega) h2⟩
theorem zzE{s:Soc}(hs:zyf s):∃k:Nat,zt3 10001 (fun r=>zt0 (zyu s []) r)=some (k:Int)/\k<=10001/\(∀m:Nat,m < k->zzB s m=false)/\(∀m:Nat,k<=m->m < 10001->zzB s m=true):=by
 unfold zt3
 exact zzD (n:=10001) (f:=fun m=>zzB s (m:Int)) (by omega) (fun m hm=>zzC hs (by omega)) (fun m k h1 h2 h3=>by
  have h4:hiN s<=brN s.Members (m:Int):=of_decide_eq_true h3;have h5:=zzy hs.full.ms (r:=(m:Int)) (t:=(k:Int)) (by omega)
  exact decide_eq_true (by omega)) _ 0 10001 (by omega) (by omega) (by omega) (fun m h=>by omega) (fun m h1 h2=>by omega)
theorem zzF{s:Soc}(hs:zyf s):(∃k:Nat,zub s=some ((k:Int),0)/\k<=10000/\hiN s<=brN s.Members (k:Int)/\∀m:Nat,m < k->brN s.Members (m:Int) < hiN s)\/(zub s=some (0,10)/\∀m:Nat,m<=10000->brN s.Members (m:Int) < hiN s):=by
 obtain⟨k,h1,h2,h3,h4⟩:=zzE hs
 have lt:∀m:Nat,zzB s (m:Int)=false->brN s.Members (m:Int) < hiN s:=fun m h=>by
  have:=of_decide_eq_false h; omega
 unfold zub;rw[zyD hs (Nat.zero_le _) (zyG _),obs,if_pos rfl]
 show(∃k':Nat,(zt3 10001 (fun r=>zt0 (zyu s []) r)).bind _=_/\_)\/((zt3 10001 (fun r=>zt0 (zyu s []) r)).bind _=_/\_)
 rw[h1,obs]
 by_cases hk:k<=10000
 ·rw[if_neg (by omega)];exact .inl ⟨k,rfl,hk,of_decide_eq_true (h4 k (Nat.le_refl _) (by omega)),fun m hm=>lt m (h3 m hm)⟩
 ·rw[if_pos (by omega)];exact .inr ⟨rfl,fun m hm=>lt m (h3 m (by omega))⟩
def zzG(s:Soc)(l:List Int):Bool:=decide (0 < (bnd s (zzt s l)).Hi)
theorem zzH{s:Soc}(hs:zyf s){l:List Int}(hl:zrS l):zt1 s l=some (zzG s l):=by
 have hb:=zyL hs;unfold zt1;rw[zyy hl hs.m5,obs,zzg hs (g:=zzt s l) (fun N h1 h2=>zzi hs l (by omega)),obs]; rfl
theorem zzI{s:Soc}(hs:zyf s)(h:hiN s ≠ 0):zuc s=some (zry s.Members.length (zzG s),0):=by
 have h5:=hs.m5
 have hlen:∀L∈zoh s.Members.length,zrS L:=fun L hL=>by have:=zyR (zyS.1 hL); unfold zrS; omega
 unfold zuc;rw[zyD hs (Nat.zero_le _) (zyG _),obs,if_pos rfl,zzv hs,obs,if_neg h];unfold zrz;rw[zqr ⟨by omega,by omega,fun L hL=>by show(zt1 s L).isSome=true; rw[zzH hs (hlen L hL)]; rfl⟩,obs];refine congrArg (fun x=>some (x,(0:Int))) ?_
 have e:(zoh s.Members.length).find? (fun L=>((zt1 s L)).getD false)=(zoh s.Members.length).find? (zzG s):=by
  have:∀l:List (List Int),(∀L∈l,zrS L)->l.find? (fun L=>((zt1 s L)).getD false)=l.find? (zzG s):=by
   intro l
   induction l with
   | nil=>intro _; rfl
   | cons L l ih=>
    intro hl
    have h1:(zt1 s L).getD false=zzG s L:=by rw[zzH hs (hl L (List.mem_cons_self ..))]; rfl
    rw[List.find?_cons,List.find?_cons,h1,ih fun L hL=>hl L (List.mem_cons_of_mem _ hL)]
  exact this _ hlen
 show zry s.Members.length (fun L=>((zt1 s L)).getD false)=_
 unfold zry;rw[e]
theorem wu{n:Nat}(h:n<=64):zmb .u64 (n:Int)=(n:Int):=wz (show(0:Int)<=n/\(n:Int) < 18446744073709551616 by omega)
theorem zzJ{a b:List Int}(hl:a.length<=1000):∀(d k:Nat),k<=a.length->a.length - k < d->zsI a b d (k:Int)=some (bef (a.drop k) (b.drop k))
 | 0,_,_,h=>by omega
 | d+1,k,hk,h=>by
  rw[zsI]
  by_cases hka:k < a.length
  ·rw[if_pos (by omega)];have da:=List.drop_eq_getElem_cons hka;have ga:=List.getElem?_eq_getElem hka
   by_cases hkb:k < b.length
   ·have db:=List.drop_eq_getElem_cons hkb;have gb:=List.getElem?_eq_getElem hkb;rw[if_pos (by omega),zrI ga,obs,zrI gb,obs,da,db];unfold bef
    by_cases he:a[k]=b[k]
    ·rw[if_pos he,if_pos he,zqr (fI (by omega)),show(k:Int)+1=((k+1:Nat):Int) by omega];exact zzJ hl d (k+1) (by omega) (by omega)
    ·rw[if_neg he,if_neg he,obs,obs]
   ·rw[if_neg (by omega),da,List.drop_eq_nil_of_le (show b.length<=k by omega),decide_eq_false (by omega)]; rfl
  ·rw[if_neg (by omega),List.drop_eq_nil_of_le (show a.length<=k by omega)]
   by_cases hkb:k < b.length
   ·rw[List.drop_eq_getElem_cons hkb,decide_eq_true (by omega)]; rfl
   ·rw[List.drop_eq_nil_of_le (show b.length<=k by omega),decide_eq_false (by omega)]; rfl
theorem zzK{a b:List Int}(hl:a.length<=1000):zsJ a b=some (bef a b):=zzJ hl (a.length+1) 0 (Nat.zero_le _) (by omega)
theorem zzL{a b:List Int}(hl:a.length<=1000):zsK a b=some (shB a b):=by
 unfold zsK shB
 by_cases h1:a.length < b.length
 ·rw[if_pos (by omega),decide_eq_true h1]; rfl
 ·rw[if_neg (by omega),decide_eq_false h1]
  by_cases h2:a.length=b.length
  ·rw[if_pos (by omega),zzK hl,decide_eq_true h2]; simp
  ·rw[if_neg (by omega),decide_eq_false h2]; simp
theorem zzM{a b:List Int}(hl:a.length=b.length):(bef a b=false/\bef b a=false)↔a=b:=by
 constructor
 ·rintro⟨h1,h2⟩
  rcases zy0 a b with h | h | h
  ·exact h
  ·rw[h1] at h; cases h
  ·rw[h2] at h; cases h
 ·rintro rfl; exact⟨zyY _,zyY _⟩
theorem zzN{a b:List Int}(ha:a.length<=1000)(hb:b.length<=1000):zsL a b=some (decide (a=b)):=by
 unfold zsL
 by_cases hl:a.length=b.length
 ·rw[if_pos (by omega),zzK ha,obs];have h:=zzM hl
  cases h1:bef a b with
  | true=>rw[if_pos rfl,decide_eq_false fun he=>by have:=(h.2 he).1; rw[h1] at this; cases this]
  | false=>
   rw[if_neg (by decide),zzK hb,obs]
   cases h2:bef b a with
   | true=>rw[decide_eq_false fun he=>by have:=(h.2 he).2; rw[h2] at this; cases this]; rfl
   | false=>rw[decide_eq_true (h.1 ⟨h1,h2⟩)]; rfl
 ·rw[if_neg (by omega),decide_eq_false fun he=>hl (by rw[he])]
theorem zzO{l:List Int}(h:l.length<=1000):zud l=some l:=by
 unfold zud;rw[zqr (show([]:List Int).length+l.length<=1048576 by show 0+_<=_; omega)]; rfl
def zzP(s:Soc):Prop:=s.Members.length<=8/\s.Losses.length<=6
theorem zzQ{s:Soc}:Ev (zui s) (zzP s):=by
 unfold zui zzP
 by_cases h:(s.Members.length:Int)<=8
 ·rw[if_pos h]; exact Ev.dec (by omega)
 ·rw[if_neg h]; exact Ev.ff (by omega)
theorem zzR{s:Soc}(h:zzP s):zuh s=some s:=by
 unfold zuh
 show zug s 1000000 [] [] s.Treaty.Lo s.Treaty.Hi s.Reserve 0=_
 obtain⟨h1,h2⟩:=h
 have k1:zuf s s.Members 1000000 [] s.Treaty.Lo s.Treaty.Hi s.Reserve 0=some s:=by
  refine(zrO (l:=s.Losses) (fun r=>r) (F:=fun d acc x=>zuf s s.Members d acc s.Treaty.Lo s.Treaty.Hi s.Reserve x) (fun acc=>some ({ Members:=s.Members,Losses:=acc,Treaty:=s.Treaty,Reserve:=s.Reserve }:Soc)) (fun d k acc a hk ha=>?_) (fun d acc=>?_) (d:=1000000) (by omega)).trans (by rw[List.map_id'])
  ·have hkl:=(List.getElem?_eq_some_iff.1 hk).1
   show zuf s s.Members (d+1) _ _ _ _ _=_
   rw[zuf,if_pos (by omega),zrI hk,obs]
   show(some a).bind _=_
   rw[obs,zqr (by omega),zqr (fI (by omega))]
  ·show zuf s s.Members (d+1) _ _ _ _ _=_
   rw[zuf,if_neg (Int.lt_irrefl _)]
 refine(zrO (l:=s.Members) (fun r=>r) (F:=fun d acc x=>zug s d acc [] s.Treaty.Lo s.Treaty.Hi s.Reserve x) (fun acc=>zuf s acc 1000000 [] s.Treaty.Lo s.Treaty.Hi s.Reserve 0) (fun d k acc a hk ha=>?_) (fun d acc=>?_) (d:=1000000) (by omega)).trans (by rw[List.map_id']; exact k1)
 ·have hkl:=(List.getElem?_eq_some_iff.1 hk).1
  show zug s (d+1) _ _ _ _ _ _=_
  rw[zug,if_pos (by omega),zrI hk,obs,zqr (by omega),zqr (fI (by omega))]
 ·show zug s (d+1) _ _ _ _ _ _=_
  rw[zug,if_neg (Int.lt_irrefl _)]
def zzS(most:Int):Soc:={ Members:=[{ Sum:=100,Class:=2,Most:=most },{ Sum:=100,Class:=1,Most:=60 },{ Sum:=50,Class:=2,Most:=most }],Losses:=[{ Lo:=200,Hi:=210 },{ Lo:=90,Hi:=90 }],Treaty:={ Lo:=20,Hi:=25 },Reserve:=30 }
theorem zzT(most:Int):zun most=some (zzS most):=rfl
theorem zzU{most:Int}(h:0<=most/\most<=100000):zyf (zzS most):=by
 refine⟨Nat.le_of_ble_eq_true rfl,Nat.le_of_ble_eq_true rfl,Nat.le_of_ble_eq_true rfl,fun a ha=>?_,fun r hr=>?_,by show RgV ⟨20,25⟩; decide,by show(0:Int)<=30/\(30:Int)<=_; omega⟩
 ·rcases List.mem_cons.1 ha with rfl | ha
  ·exact⟨by show(1:Int)<=100/\(100:Int)<=1000; omega,by show(1:Int)<=2/\(2:Int)<=10; omega,h⟩
  rcases List.mem_cons.1 ha with rfl | ha
  ·exact⟨by decide,by decide,by decide⟩
  rcases List.mem_cons.1 ha with rfl | ha
  ·exact⟨by show(1:Int)<=50/\(50:Int)<=1000; omega,by show(1:Int)<=2/\(2:Int)<=10; omega,h⟩
  ·cases ha
 ·rcases List.mem_cons.1 hr with rfl | hr
  ·decide
  rcases List.mem_cons.1 hr with rfl | hr
  ·decide
  ·cases hr
theorem f64{n:Int}(h:-1000000<=n/\n<=1000000):zl6 .i64 n:=fI (by omega)
theorem zzV:zuo=some true:=by
 have h5:zyf (zzS 500):=zzU (by omega);have h1:zyf (zzS 150):=zzU (by omega)
 have n5:zt4 (zzS 500)=some ({ Lo:=235,Hi:=250 },0):=by
  rw[zzh h5]
  have e1:loN (zzS 500)=235:=by decide +kernel
  have e2:hiN (zzS 500)=250:=by decide +kernel
  rw[e1,e2]
 have c5:zt6 (zzS 500) 250=some ([127,60,63],0,0):=by
  rw[zzl h5 (by omega)]
  have e1:zzj (zzS 500) [] 250=[127,60,63]:=by decide +kernel
  have e2:(zx4 (zzS 500).Members (zyt (zzS 500).Members.length []) 250).2=0:=by decide +kernel
  rw[e1,e2]
 have b5:zt9 (zzS 500)=some (zzn (zzS 500) [],0):=zzs h5
 have eb:zzn (zzS 500) []=[{ Lo:=117,Hi:=127 },{ Lo:=59,Hi:=60 },{ Lo:=59,Hi:=63 }]:=by
  have e1:(zzn (zzS 500) []).map (·.Lo)=[117,59,59]:=by decide +kernel
  have e2:(zzn (zzS 500) []).map (·.Hi)=[127,60,63]:=by decide +kernel
  have e3:(zzn (zzS 500) []).length=3:=zzo []
  revert e1 e2 e3
  generalize zzn (zzS 500) []=l;intro e1 e2 e3
  match l,e3 with
  | [⟨a1,a2⟩,⟨b1,b2⟩,⟨c1,c2⟩],_=>
   simp only[List.map_cons,List.map_nil,List.cons.injEq,and_true] at e1 e2
   obtain⟨rfl,rfl,rfl⟩:=e1;obtain⟨rfl,rfl,rfl⟩:=e2
   rfl
 have r5:zub (zzS 500)=some (64,0):=by
  have m63:brN (zzS 500).Members 63 < 250:=by decide +kernel
  have m64:250<=brN (zzS 500).Members 64:=by decide +kernel
  have e2:hiN (zzS 500)=250:=by decide +kernel
  rcases zzF h5 with ⟨k,q1,q2,q3,q4⟩ | ⟨q1,q2⟩
  ·rw[e2] at q3 q4
   have hk:k=64:=by
    apply Classical.byContradiction
    intro hne
    rcases Nat.lt_or_ge k 64 with h | h
    ·have:=zzy h5.full.ms (r:=(k:Int)) (t:=63) (by omega); omega
    ·have:=q4 64 (by omega);have e:((64:Nat):Int)=64:=rfl;rw[e] at this; omega
   subst hk; exact q1
  ·have:=q2 64 (by omega);have e:((64:Nat):Int)=64:=rfl;rw[e2,e] at this; omega
 have x5:zuc (zzS 500)=some ([0,2],0):=by
  rw[zzI h5 (by decide +kernel)]
  have e:zry (zzS 500).Members.length (zzG (zzS 500))=[0,2]:=by decide +kernel
  rw[e]
 have x1:zuc (zzS 150)=some ([0],0):=by
  rw[zzI h1 (by decide +kernel)]
  have e:zry (zzS 150).Members.length (zzG (zzS 150))=[0]:=by decide +kernel
  rw[e]
 unfold zuo;rw[zzT,obs,n5,obs,obs,c5,obs,obs,b5,obs,obs,r5,obs,obs,x5,obs,zzT,obs,x1,obs,eb];have s1:zsL [127,60,63] [127,60,63]=some true:=zzN (by decide) (by decide);have s2:zsL [0,2] [0,2]=some true:=zzN (by decide) (by decide);have s3:zsL [0] [0]=some true:=zzN (by decide) (by decide);have f:∀n:Int,-1000000<=n/\n<=1000000->zl6 .i64 n:=fun n h=>f64 h
 simp only[zum,obs,zqr (f 235 (by omega)),zqr (f 250 (by omega)),zqr (f 117 (by omega)),zqr (f 127 (by omega)),zqr (f 59 (by omega)),zqr (f 60 (by omega)),zqr (f 63 (by omega)),s1,s2,s3]
 simp[idx]
 rw[zqr (f 117 (by omega)),zqr (f 127 (by omega)),zqr (f 59 (by omega)),zqr (f 60 (by omega)),zqr (f 59 (by omega)),zqr (f 63 (by omega))]
theorem awk{β:Type}{f:Bool->Option β}:(zuo).bind f=f true:=by rw[zzV,obs]
theorem zzW{a:Mb}(h:zxK a):zso a=some (unN a):=by
 have h1:=h.sum; have h2:=h.cls; have hu:=zxM h;unfold unN at hu;unfold zso unN;rw[zqr (by omega),zqr (by omega),zqr (fI (by omega))]
structure zzX (s:Soc) (t:Tr):Prop where
 len:t.Losses.length=s.Losses.length
 at_:∀(k:Nat) (r:Rg) (x:Int),s.Losses[k]? = some r->t.Losses[k]? = some x->r.Lo<=x/\x<=r.Hi
 tr:s.Treaty.Lo<=t.Treaty/\t.Treaty<=s.Treaty.Hi
def zzY(s:Soc)(t:Tr):Int:=max 0 (zw1 t.Losses - s.Reserve - t.Treaty)
theorem zzZ{s:Soc}{t:Tr}(h3:s.Losses.length<=1000):Ev (ztb s t) (zzX s t):=by
 unfold ztb
 by_cases hl:t.Losses.length=s.Losses.length
 ·rw[if_pos (by omega)];refine(Ev.loop (n:=s.Losses.length) (F:=fun d x=>zta s t d x) (ok:=fun k=>∀(r:Rg) (x:Int),s.Losses[k]? = some r->t.Losses[k]? = some x->r.Lo<=x/\x<=r.Hi) (fin:=(zsM s.Treaty t.Treaty).bind fun r=>some r) (P:=s.Treaty.Lo<=t.Treaty/\t.Treaty<=s.Treaty.Hi) (fun d k hk=>?_) (fun d=>?_) (by omega) fun _=>zyi.ret).imp ?_
  ·have h1:=List.getElem?_eq_getElem hk;have h2:=List.getElem?_eq_getElem (show k < t.Losses.length by omega)
   show(_->zta s t (d+1) (k:Int)=_)/\_
   rw[zta,if_pos (by omega),zrI h1,obs,zrI h2,obs];have:=Ev.step (f:=fun r=>if r=true then gd (zl6 .i64 ((k:Int)+1)) (zta s t d ((k:Int)+1)) else some false) (zyi (r:=s.Losses[k]) (n:=t.Losses[k])) (by rw[if_pos rfl,zqr (fI (by omega))]) (by rw[if_neg (by decide)]);exact⟨fun h=>this.1 (h _ _ h1 h2),fun h=>this.2 fun h4=>h fun r x hr hx=>by rw[h1] at hr; rw[h2] at hx; cases hr; cases hx; exact h4⟩
  ·show zta s t (d+1) _=_
   rw[zta,if_neg (Int.lt_irrefl _)]
  ·exact⟨fun⟨h1,h2⟩=>⟨hl,fun k r x hr hx=>h1 k (List.getElem?_eq_some_iff.1 hr).1 r x hr hx,h2⟩,fun h=>⟨fun k _ r x hr hx=>h.at_ k r x hr hx,h.tr⟩⟩
 ·rw[if_neg (by omega)]; exact Ev.ff fun h=>hl h.len
theorem zz0{l:List Int}{k:Nat}{a:Int}(h:l[k]? = some a):zw1 (l.take (k+1))=zw1 (l.take k)+a:=by
 rw[List.take_add_one,h,zw2]
 show _+(a+0)=_; omega
theorem zz1{s:Soc}(hs:zyf s){t:Tr}(ht:zzX s t):∀x∈t.Losses,0<=x/\x<=100000:=fun x hx=>by
 obtain⟨k,hk⟩:=List.mem_iff_getElem?.1 hx;have hlt:=(List.getElem?_eq_some_iff.1 hk).1;have hr:=List.getElem?_eq_getElem (show k < s.Losses.length by have:=ht.len; omega);have h1:=ht.at_ k _ x hr hk;have h2:=hs.full.ls _ (List.getElem_mem (show k < s.Losses.length by have:=ht.len; omega));unfold RgV at h2; omega
theorem zz2{l:List Int}{B:Int}(h:∀x∈l,0<=x/\x<=B):0<=zw1 l/\zw1 l<=B * l.length:=by
 induction l with
 | nil=>exact⟨Int.le_refl _,by show(0:Int)<=B * ((0:Nat):Int); simp⟩
 | cons a l ih=>
  have ih:=ih fun x hx=>h x (List.mem_cons_of_mem _ hx);have:=h a (List.mem_cons_self ..)
  show 0<=a+zw1 l/\a+zw1 l<=_
  rw[List.length_cons,Int.natCast_add,Int.mul_add]
  show _/\_<=_+B * 1
  omega
theorem zz3{s:Soc}(hs:zyf s){t:Tr}(ht:zzX s t):ztm s t=some (zzY s t,0):=by
 have h1:=hs.m5; have h2:=hs.l3;have htr:=hs.full.tr;unfold RgV at htr;have htt:=ht.tr;have hb:=zz1 hs ht;have hl:=ht.len;unfold ztm;rw[zyo (by unfold zrS; omega) (by unfold zrS; omega),obs,if_pos (zyh.2 hs),(zzZ (by omega)).some_of ht,obs,if_pos rfl];refine zwJ (n:=t.Losses.length) (fun d acc x=>ztl s t d acc x) (fun k=>zw1 (t.Losses.take k)) (fun d k hk=>?_) (fun d=>?_) _ 0 (by omega) (by omega)
 ·have hg:=List.getElem?_eq_getElem hk;have h3:=zz2 (l:=t.Losses.take k) (B:=100000) fun x hx=>hb x (List.mem_of_mem_take hx);have h4:=hb _ (List.getElem_mem hk)
  have h5:(t.Losses.take k).length<=3:=by rw[List.length_take]; omega
  show ztl s t (d+1) _ _=_
  rw[ztl,if_pos (by omega),zrI hg,obs,zqr (fI (by omega)),zqr (fI (by omega)),zz0 hg]
 ·have h3:=zz2 (l:=t.Losses) (B:=100000) hb
  show ztl s t (d+1) _ _=_
  rw[ztl,if_neg (Int.lt_irrefl _),List.take_length,zyN (by omega) (by omega) hs.full.rs,obs]; rfl
theorem zz4{s:Soc}(hs:zyf s){t:Tr}(hl:t.Losses.length<=9)(hb:∀x∈t.Losses,0<=x/\x<=100000)(ht:0<=t.Treaty/\t.Treaty<=100000):zsl s t=some (zzY s t):=by
 have hr:=hs.full.rs;unfold zsl;rw[zqr (fI (by omega)),zqr (fI (by omega))];have key:=zwJ (n:=t.Losses.length) (fun d acc x=>zsk t d acc x) (fun k=>0 - s.Reserve - t.Treaty+zw1 (t.Losses.take k)) (fin:=some (zzY s t)) (fun d k hk=>?_) (fun d=>?_) 1000000 0 (by omega) (by omega)
 ·have e:0 - s.Reserve - t.Treaty+zw1 (t.Losses.take 0)=0 - s.Reserve - t.Treaty:=by show _+0=_; omega
  rw[e] at key; exact key
 ·have hg:=List.getElem?_eq_getElem hk;have h3:=zz2 (l:=t.Losses.take k) (B:=100000) fun x hx=>hb x (List.mem_of_mem_take hx);have h4:=hb _ (List.getElem_mem hk)
  have h5:(t.Losses.take k).length<=9:=by rw[List.length_take]; omega
  show zsk t (d+1) _ _=_
  rw[zsk,if_pos (by omega),zrI hg,obs,zqr (fI (by omega)),zqr (fI (by omega)),zz0 hg,Int.add_assoc]
 ·show zsk t (d+1) _ _=_
  rw[zsk,if_neg (Int.lt_irrefl _),List.take_length];unfold zzY;exact congrArg some (by omega)
theorem zz5{s:Soc}(hs:zyf s):zsn s=some { Lo:=loN s,Hi:=hiN s }:=by
 have h2:=hs.l3;have htr:=hs.full.tr;unfold RgV at htr
 have hb:∀r∈s.Losses,(0<=r.Lo/\r.Lo<=100000)/\0<=r.Hi/\r.Hi<=100000:=fun r hr=>by have:=hs.full.ls r hr; unfold RgV at this; omega
 unfold zsn;refine zwJ (n:=s.Losses.length) (fun d (st:List Int × List Int) x=>zsm s d st.1 s.Treaty.Hi st.2 s.Treaty.Lo x) (fun k=>((s.Losses.take k).map (·.Lo),(s.Losses.take k).map (·.Hi))) (fun d k hk=>?_) (fun d=>?_) _ 0 (by omega) (by omega)
 ·have hg:=List.getElem?_eq_getElem hk
  show zsm s (d+1) ((s.Losses.take k).map (·.Lo)) _ ((s.Losses.take k).map (·.Hi)) _ _=_
  have hl1:((s.Losses.take k).map (·.Lo)).length<=3:=by rw[List.length_map,List.length_take]; omega
  have hl2:((s.Losses.take k).map (·.Hi)).length<=3:=by rw[List.length_map,List.length_take]; omega
  rw[zsm,if_pos (by omega),zrI hg,obs,zqr (by omega),obs,zqr (by show _+1<=_; omega),zqr (fI (by omega))];rw[List.take_add_one,hg,List.map_append,List.map_append]; rfl
 ·show zsm s (d+1) ((s.Losses.take s.Losses.length).map (·.Lo)) _ ((s.Losses.take s.Losses.length).map (·.Hi)) _ _=_
  rw[zsm,if_neg (Int.lt_irrefl _),List.take_length,zz4 hs (t:={ Losses:=s.Losses.map (·.Lo),Treaty:=s.Treaty.Hi }) (by rw[List.length_map]; omega) (fun x hx=>by obtain⟨r,hr,rfl⟩:=List.mem_map.1 hx; exact(hb r hr).1) (by show 0<=s.Treaty.Hi/\s.Treaty.Hi<=100000; omega),obs,zz4 hs (t:={ Losses:=s.Losses.map (·.Hi),Treaty:=s.Treaty.Lo }) (by rw[List.length_map]; omega) (fun x hx=>by obtain⟨r,hr,rfl⟩:=List.mem_map.1 hx; exact(hb r hr).2) (by show 0<=s.Treaty.Lo/\s.Treaty.Lo<=100000; omega),obs]; rfl
theorem zz6(f:Nat->Int){n:Nat}(hn:n<=5)(h:∀i,n<=i->i < 5->f i=0):part f n=S5 f:=by
 rw[zxq f hn];refine zw5 fun i hi=>?_
 by_cases hin:i < n
 ·rw[if_pos hin]
 ·rw[if_neg hin,h i (by omega) hi]
section
variable {ms:List Mb} {ask:Nat->Bool} {N:Int}
end
theorem zz7{n i:Nat}:zyt n [] i=decide (i < n):=by unfold zyt; simp
end
end Go.Proofs.Ytkclhciahokifaa

namespace Go.Proofs.Ytkclhciahokifaa
open _root_.Go.Proofs.Try
open Go.Abs
set_option maxRecDepth 100000
noncomputable section
theorem zz8{i:Nat}(h:i<=8):2 ^ i<=256:=Nat.le_trans (Nat.pow_le_pow_right (by omega) h) (by decide)
def zz9(n:Nat):Nat:=2 ^ n - 1
theorem zAa(n:Nat):zz9 n < 2 ^ n:=by have:0 < 2 ^ n:=Nat.two_pow_pos n; unfold zz9; omega
theorem zAb{s:Soc}(h:s.Members.length<=8):zsz s=some (zz9 s.Members.length:Int):=by
 have hp:=zz8 h;have hp0:0 < 2 ^ s.Members.length:=Nat.two_pow_pos _;have hw:zmb .u64 (s.Members.length:Int)=(s.Members.length:Int):=wz (show(0:Int)<=s.Members.length/\(s.Members.length:Int) < 18446744073709551616 by omega)
 have hpow:(1:Int) * 2 ^ (Int.toNat (zmb .u64 (s.Members.length:Int)))=((2 ^ s.Members.length:Nat):Int):=by rw[hw,Int.toNat_natCast,Int.one_mul,Int.natCast_pow]; rfl
 unfold zsz zz9;rw[hpow,zqr (by omega),hw,zqr (by omega),zqr (by omega),zqr (fI (by omega)),zqr (fI (by omega))]
 congr 1
 omega
theorem zAc(B k:Nat):(B:Int) / 2 ^ k % 2=((B / 2 ^ k % 2:Nat):Int):=by rw[zyX]; rfl
theorem zAd{B k:Nat}:(B:Int) / 2 ^ k % 2=1↔B.testBit k=true:=by
 rw[zAc,Nat.testBit_eq_decide_div_mod_eq,decide_eq_true_eq]; omega
theorem zAe{b n:Nat}(hn:n<=5)(hb:b < 2 ^ n)(j:Nat):(j:Int)∈zyU b↔j < n/\b.testBit j=true:=by
 unfold zyU;rw[zyV]
 constructor
 ·rintro⟨_,_,h⟩
  rw[show((j:Int)).toNat=j from rfl] at h;refine⟨Nat.lt_of_not_le fun hj=>?_,h⟩
  rw[Nat.testBit_lt_two_pow (Nat.lt_of_lt_of_le hb (Nat.pow_le_pow_right (by omega) hj))] at h; cases h
 ·rintro⟨h1,h2⟩
  exact⟨by omega,by omega,h2⟩
theorem zAf{b n:Nat}(hn:n<=5)(hb:b < 2 ^ n)(j:Nat):zyt n (zyU b) j=(decide (j < n) && !b.testBit j):=by
 unfold zyt
 by_cases h:j < n
 ·have e:decide ((j:Int)∈zyU b)=b.testBit j:=by
   cases ht:b.testBit j with
   | true=>exact decide_eq_true ((zAe hn hb j).2 ⟨h,ht⟩)
   | false=>exact decide_eq_false fun hm=>by have:=((zAe hn hb j).1 hm).2; rw[ht] at this; cases this
  rw[e]
 ·rw[decide_eq_false h,Bool.false_and,Bool.false_and]
def zAg(b:Nat)(ms:List Mb):Nat->List Mb
 | 0=>[]
 | k+1=>zAg b ms k++(if b.testBit k then [] else ms[k]?.toList)
theorem zAh{b:Nat}{ms:List Mb}:∀k,(zAg b ms k).length<=k
 | 0=>Nat.le_refl _
 | k+1=>by
  have:=zAh (b:=b) (ms:=ms) k
  show(zAg b ms k++_).length<=_
  rw[List.length_append]
  have:((if b.testBit k then ([]:List Mb) else ms[k]?.toList)).length<=1:=by
   split
   ·exact Nat.zero_le _
   ·cases ms[k]? <;> simp
  omega
theorem zAi{s:Soc}{l:List Int}(h5:s.Members.length<=5)(hl:l.length<=5)(ho:zyz s.Members.length l):∀(d k:Nat),k<=l.length->l.length - k < d->zsE s l d (k:Int)=some true
 | 0,_,_,h=>by omega
 | d+1,k,hk,hd=>by
  rw[zsE]
  by_cases hkn:k < l.length
  ·have hg:=List.getElem?_eq_getElem hkn;have hv:=ho.2 _ (List.getElem_mem hkn)
   have ek:(k:Int)+1=((k+1:Nat):Int):=by omega
   rw[if_pos (by omega),zrI hg,obs,zqr (fI (by omega)),zyp.some_of hv,obs,if_pos rfl]
   by_cases h0:(0:Int) < (k:Int)
   ·have e1:(k:Int) - 1=((k - 1:Nat):Int):=by omega
    have hg2:=List.getElem?_eq_getElem (show k - 1 < l.length by omega);have hlt:=zyA.2 ho.1 k (by omega) hkn _ _ hg2 hg;rw[if_pos h0,obs,zqr (fI (by omega)),e1,zrI hg2,obs,if_neg (by omega),zqr (fI (by omega)),ek];exact zAi h5 hl ho d (k+1) (by omega) (by omega)
   ·rw[if_neg h0,zqr (fI (by omega)),ek];exact zAi h5 hl ho d (k+1) (by omega) (by omega)
  ·rw[if_neg (by omega)]
def zAj(l:List Int):Int:=zw1 (l.map fun v=>((2 ^ v.toNat:Nat):Int))
theorem zAk(b:Nat):∀p,zAj (zyT b p)=((b % 2 ^ p:Nat):Int)
 | 0=>by show(0:Int)=((b % 1:Nat):Int); rw[Nat.mod_one]; rfl
 | p+1=>by
  show zw1 ((zyT b p++_).map _)=_
  rw[List.map_append,zw2,show zw1 ((zyT b p).map fun v=>((2 ^ v.toNat:Nat):Int))=((b % 2 ^ p:Nat):Int) from zAk b p,Nat.mod_pow_succ];have hd:=Nat.testBit_eq_decide_div_mod_eq (x:=b) (i:=p)
  cases ht:b.testBit p with
  | true=>
   rw[ht] at hd;have:=of_decide_eq_true hd.symm;rw[if_pos rfl,this,Nat.mul_one]
   show _+(((2 ^ p:Nat):Int)+0)=_
   omega
  | false=>
   rw[ht] at hd;have:=of_decide_eq_false hd.symm;rw[if_neg (by decide),show b / 2 ^ p % 2=0 by omega,Nat.mul_zero]
   show _+(0:Int)=_
   omega
theorem zAl{n:Nat}{l:List Int}(h5:n<=5)(hl:l.length<=5)(ho:zyz n l){E:Int}(hE:0<=E/\E<=1000):∀(d k:Nat),k<=l.length->l.length - k < d->zsG l d (E - zAj (l.take k)) (k:Int)=some (E - zAj l)
 | 0,_,_,h=>by omega
 | d+1,k,hk,hd=>by
  rw[zsG]
  by_cases hkn:k < l.length
  ·have hg:=List.getElem?_eq_getElem hkn;have hv:=ho.2 _ (List.getElem_mem hkn)
   have ek:(k:Int)+1=((k+1:Nat):Int):=by omega
   have hw:zmb .u64 l[k]=l[k]:=wz (show(0:Int)<=l[k]/\l[k] < 18446744073709551616 by omega);have hpw:=zz8 (show l[k].toNat<=8 by omega)
   have hpow:(1:Int) * 2 ^ (Int.toNat (zmb .u64 l[k]))=((2 ^ l[k].toNat:Nat):Int):=by rw[hw,Int.one_mul,Int.natCast_pow]; rfl
   have hbd:∀j,j<=l.length->0<=zAj (l.take j)/\zAj (l.take j)<=256 * j:=fun j hj=>by
    have:=zz2 (l:=(l.take j).map fun v=>((2 ^ v.toNat:Nat):Int)) (B:=256) fun x hx=>by
     obtain⟨v,hv,rfl⟩:=List.mem_map.1 hx;have h1:=ho.2 v (List.mem_of_mem_take hv);have:=zz8 (show v.toNat<=8 by omega);exact⟨Int.natCast_nonneg _,Int.ofNat_le.2 this⟩
    rw[List.length_map,List.length_take] at this;unfold zAj
    omega
   have hb1:=hbd k (by omega);have hb2:=hbd (k+1) (by omega)
   have et:zAj (l.take (k+1))=zAj (l.take k)+((2 ^ l[k].toNat:Nat):Int):=by
    unfold zAj;rw[List.take_add_one,hg,List.map_append,zw2]
    show _+(((2 ^ l[k].toNat:Nat):Int)+0)=_
    rw[Int.add_zero]
   rw[if_pos (by omega),zrI hg,obs,hpow,hw,zqr (by omega),zqr (by omega),zqr (by omega),zqr (fI (by omega)),zqr (fI (by omega)),zqr (fI (by omega)),ek,
    show E - zAj (l.take k) - ((2 ^ l[k].toNat:Nat):Int)=E - zAj (l.take (k+1)) by rw[et]; omega]
   exact zAl h5 hl ho hE d (k+1) (by omega) (by omega)
  ·rw[if_neg (by omega),List.take_of_length_le (by omega)]
def lN{α:Type}(n:Nat)(f:Nat->α):List α:=(List.range n).map f
theorem zAm{α:Type}{n:Nat}{f:Nat->α}:(lN n f).length=n:=by unfold lN; rw[List.length_map,List.length_range]
theorem zAn{α:Type}{n:Nat}{f:Nat->α}{k:Nat}(hk:k < n):(lN n f)[k]? = some (f k):=by
 unfold lN; rw[List.getElem?_map,List.getElem?_range hk]; rfl
theorem zAo{α:Type}{n:Nat}{f:Nat->α}{k:Nat}(hk:k < n):idx (lN n f) (k:Int)=some (f k):=zrI (zAn hk)
theorem zAp{α:Type}{n:Nat}{f g:Nat->α}(h:∀k,k < n->f k=g k):lN n f=lN n g:=List.map_congr_left fun k hk=>h k (List.mem_range.1 hk)
theorem zAq{α:Type}{n:Nat}{f:Nat->α}{k:Nat}{v:α}:(lN n f).set k v=lN n fun j=>if j=k then v else f j:=by
 refine List.ext_getElem? fun i=>?_
 by_cases hi:i < n
 ·rw[zAn hi,List.getElem?_set]
  by_cases h:k=i
  ·subst h; rw[if_pos rfl,if_pos (by rw[zAm]; exact hi),if_pos rfl]
  ·rw[if_neg h,zAn hi,if_neg fun h2=>h h2.symm]
 ·rw[List.getElem?_eq_none (by rw[List.length_set,zAm]; omega),List.getElem?_eq_none (by rw[zAm]; omega)]
theorem zAr{α:Type}{n:Nat}{g f:Nat->α}{k:Nat}:(lN n (stF g f k)).set k (g k)=lN n (stF g f (k+1)):=by
 rw[zAq];refine zAp fun j _=>?_;unfold stF
 by_cases h:j=k
 ·subst h; rw[if_pos rfl,if_pos (by omega)]
 ·rw[if_neg h]
  by_cases h2:j < k
  ·rw[if_pos h2,if_pos (by omega)]
  ·rw[if_neg h2,if_neg (by omega)]
theorem zAs{α:Type}{n:Nat}{g f:Nat->α}{k:Nat}(h:g k=f k):lN n (stF g f k)=lN n (stF g f (k+1)):=by
 refine zAp fun j _=>?_;unfold stF
 by_cases h1:j=k
 ·subst h1; rw[if_neg (by omega),if_pos (by omega),h]
 ·by_cases h2:j < k
  ·rw[if_pos h2,if_pos (by omega)]
  ·rw[if_neg h2,if_neg (by omega)]
theorem zAt{α:Type}{n:Nat}{g f:Nat->α}:lN n (stF g f n)=lN n g:=zAp fun _ h=>zwP g f h
theorem zAu{α:Type}{n:Nat}{v:α}:List.replicate n v=lN n fun _=>v:=by
 refine List.ext_getElem? fun i=>?_
 by_cases hi:i < n
 ·rw[zAn hi,List.getElem?_replicate,if_pos hi]
 ·rw[List.getElem?_eq_none (by rw[List.length_replicate]; omega),List.getElem?_eq_none (by rw[zAm]; omega)]
def zAv(f:Nat->Bool):Nat->Nat
 | 0=>0
 | k+1=>zAv f k+if f k then 2 ^ k else 0
theorem zAw(f:Nat->Bool):∀n,zAv f n < 2 ^ n
 | 0=>by show 0 < 1; omega
 | n+1=>by
  have:=zAw f n
  show zAv f n+_ < _
  rw[Nat.pow_succ]
  split <;> omega
theorem zAx{f:Nat->Bool}:∀{n j:Nat},j < n->(zAv f n).testBit j=f j
 | 0,_,h=>by omega
 | n+1,j,h=>by
  have hlt:=zAw f n
  show(zAv f n+_).testBit j=_
  by_cases hj:j=n
  ·subst hj
   cases hf:f j with
   | true=>rw[if_pos rfl,Nat.add_comm,Nat.testBit_two_pow_add_eq,Nat.testBit_lt_two_pow hlt]; rfl
   | false=>rw[if_neg (by decide),Nat.add_zero,Nat.testBit_lt_two_pow hlt]
  ·have ih:=zAx (f:=f) (n:=n) (j:=j) (by omega)
   cases hf:f n with
   | true=>rw[if_pos rfl,Nat.add_comm,Nat.testBit_two_pow_add_gt (by omega),ih]
   | false=>rw[if_neg (by decide),Nat.add_zero,ih]
theorem zAy{f g:Nat->Bool}:∀{n:Nat},(∀j,j < n->f j=g j)->zAv f n=zAv g n
 | 0,_=>rfl
 | n+1,h=>by
  show zAv f n+_=zAv g n+_
  rw[zAy (n:=n) fun j hj=>h j (by omega),h n (by omega)]
theorem zAz{f g:Nat->Bool}{n:Nat}:zAv f n=zAv g n↔∀j,j < n->f j=g j:=
 ⟨fun h j hj=>by rw[<- zAx (f:=f) hj,<- zAx (f:=g) hj,h],zAy⟩
theorem zAA{b n:Nat}(hb:b < 2 ^ n):zAv b.testBit n=b:=Nat.eq_of_testBit_eq fun i=>by
 by_cases hi:i < n
 ·exact zAx hi
 ·rw[Nat.testBit_lt_two_pow (Nat.lt_of_lt_of_le (zAw _ n) (Nat.pow_le_pow_right (by omega) (by omega))),Nat.testBit_lt_two_pow (Nat.lt_of_lt_of_le hb (Nat.pow_le_pow_right (by omega) (by omega)))]
theorem zAB:∀n,zAv (fun _=>false) n=0
 | 0=>rfl
 | n+1=>zAB n
theorem zAC:∀n,zAv (fun _=>true) n=zz9 n
 | 0=>rfl
 | n+1=>by
  have:=zAC n;have hp:0 < 2 ^ n:=Nat.two_pow_pos n
  show zAv _ n+2 ^ n=2 ^ (n+1) - 1
  rw[this,Nat.pow_succ];unfold zz9
  omega
theorem zAD{f g:Nat->Bool}:∀{n:Nat},(∀j,j < n->g j=true->f j=true)->zAv f n=zAv g n+zAv (fun j=>f j && !g j) n
 | 0,_=>rfl
 | n+1,h=>by
  have ih:=zAD (f:=f) (g:=g) (n:=n) fun j hj=>h j (by omega)
  show zAv f n+_=zAv g n+_+(zAv _ n+_)
  have hn:=h n (by omega);have e:(if (fun j=>f j && !g j) n=true then 2 ^ n else 0)=if (f n && !g n)=true then 2 ^ n else 0:=rfl;rw[e]
  clear e
  cases hg:g n with
  | true=>
   rw[hn hg,if_pos rfl,if_neg (by decide)]
   omega
  | false=>
   cases hf:f n with
   | true=>rw[if_pos rfl,if_neg (by decide),if_pos (by decide)]; omega
   | false=>rw[if_neg (by decide),if_neg (by decide)]; omega
theorem zAE{f:Nat->Bool}{n k:Nat}(hn:n<=5)(hk:k < n){α:Type}{A B:Option α}:(gd ((0:Int)<=(zAv f n:Int)) (gd ((0:Int)<=(zmb .u64 (k:Int))) (gd ((zmb .u64 (k:Int))<=(64:Int)) (gd (zl6 .i64 ((zAv f n:Int) / ((2:Int) ^ (Int.toNat (zmb .u64 (k:Int)))))) (gd ((0:Int)<=((zAv f n:Int) / ((2:Int) ^ (Int.toNat (zmb .u64 (k:Int)))))) (gd ((0:Int) < (2:Int)) (gd (zl6 .i64 (((zAv f n:Int) / ((2:Int) ^ (Int.toNat (zmb .u64 (k:Int))))) % (2:Int))) (if (((zAv f n:Int) / ((2:Int) ^ (Int.toNat (zmb .u64 (k:Int))))) % (2:Int))=(1:Int) then A else B))))))))=if f k=true then A else B:=by
 have hlt:=zAw f n;have hpw:=zz8 (show n<=8 by omega)
 have hq0:0<=(zAv f n:Int) / 2 ^ k:=by rw[zyX]; exact Int.natCast_nonneg _
 have hq1:(zAv f n:Int) / 2 ^ k<=zAv f n:=by rw[zyX]; exact Int.ofNat_le.2 (Nat.div_le_self _ _)
 rw[wu (by omega),zqr (by omega),zqr (by omega),zqr (by omega),Int.toNat_natCast,zqr (fI (by omega)),zqr hq0,zqr (by omega),zqr (fI (by omega))];have e:=zAd (B:=zAv f n) (k:=k);rw[zAx hk] at e
 by_cases h:f k=true
 ·rw[if_pos (e.2 h),if_pos h]
 ·rw[if_neg fun h2=>h (e.1 h2),if_neg h]
theorem zAF{n:Nat}{f:Nat->Int}{k:Nat}(hk:k < n)(hn:n<=5)(ht:∀i,i < k->f i < f k)(ht2:∀i,k < i->i < n->f i<=f k){p:Nat->Int}(hp:0<=p k/\p k<=1000000){x44:Int}(hx:0<=x44/\x44<=1000000){K:Int->List Int->List Int->Option (List Int)} :
  ∀(d b m:Nat),m<=n->b < m->n - m < d->(k < m->b=k)->zsp x44 K d (b:Int) (m:Int) (lN n p) (lN n f)=K (x44 - 1) ((lN n p).set k (p k+1)) ((lN n f).set k (-1))
 | 0,_,_,_,_,h,_=>by omega
 | d+1,b,m,hm,hb,hd,hi=>by
  rw[zsp,zAm]
  by_cases hmn:m < n
  ·have em:(m:Int)+1=((m+1:Nat):Int):=by omega
   rw[if_pos (by omega),zAo hmn,obs,zAo (by omega),obs]
   by_cases h:f b < f m
   ·rw[if_pos h,zqr (fI (by omega)),em];refine zAF hk hn ht ht2 hp hx d m (m+1) (by omega) (by omega) (by omega) fun h2=>?_
    by_cases h3:m=k
    ·exact h3
    ·have:=hi (by omega);subst this;have:=ht2 m (by omega) hmn
     omega
   ·rw[if_neg h,zqr (fI (by omega)),em];refine zAF hk hn ht ht2 hp hx d b (m+1) (by omega) (by omega) (by omega) fun h2=>?_
    by_cases h3:m=k
    ·subst h3;exact absurd (ht b hb) h
    ·exact hi (by omega)
  ·have hbk:=hi (by omega);subst hbk;rw[if_neg (by omega),zAo hk,obs,zqr (fI (by omega)),obs,zAo hk,obs,zqr (fI (by omega)),Int.toNat_natCast]
def ptF(q:Nat->Int)(r:Nat->Int)(j:Nat):Nat->Int:=fun k=>q k+if zxd r k < j then 1 else 0
def rsF(sh:Nat->Bool)(r:Nat->Int)(j:Nat):Nat->Int:=fun k=>if sh k=true then (if zxd r k < j then -1 else r k) else -1
theorem zAG{ms:List Mb}(hms:zxL ms){sh:Nat->Bool}(hs:zxP ms sh)(h0:¬ zxN sh=true){N:Int}(hN:0<=N/\N<=1000000){L:Nat}(hL:(L:Int)=N - S5 (qN N (uF ms sh))) :
  ∀(d j:Nat),j<=L->L - j < d->zsq d ((L:Int) - j) (lN ms.length (ptF (qN N (uF ms sh)) (rN N (uF ms sh)) j)) (lN ms.length (rsF sh (rN N (uF ms sh)) j))=some (lN ms.length (zxl N (uF ms sh)))
 | 0,_,_,h=>by omega
 | d+1,j,hj,hd=>by
  have hu:=zxY hms hs h0;have hlb:=zxD hu N;have h5:=hms.1;rw[zsq]
  by_cases hjL:j < L
  ·obtain⟨k,hk5,hk⟩:=zxB (rN N (uF ms sh)) (k:=(j:Int)) (by omega);have hrk:rN N (uF ms sh) k ≠ 0:=fun h=>zxE hu h (by omega);have hrb:=fun i=>zxn hu (N:=N) i
   have hsk:sh k=true:=by
    cases hq:sh k with
    | true=>rfl
    | false=>
     refine absurd ?_ hrk;unfold rN;rw[show uF ms sh k=0 from zxV hq,Int.mul_zero,Int.zero_emod]
   have hkn:=hs k hsk;have hq:=zxm hu hN.1 hk5
   have erk:rsF sh (rN N (uF ms sh)) j k=rN N (uF ms sh) k:=by unfold rsF; rw[if_pos hsk,if_neg (by omega)]
   have low:∀i,i < 5->i ≠ k->rsF sh (rN N (uF ms sh)) j i < rN N (uF ms sh) k\/(rsF sh (rN N (uF ms sh)) j i=rN N (uF ms sh) k/\k < i):=fun i hi hik=>by
    have:=hrb k;unfold rsF
    cases sh i with
    | false=>rw[if_neg (by decide)]; omega
    | true=>
     rw[if_pos rfl]
     by_cases h1:zxd (rN N (uF ms sh)) i < j
     ·rw[if_pos h1]; omega
     ·rw[if_neg h1];have hne:=zxw (r:=rN N (uF ms sh)) hi hk5 hik;have:=(zxx (r:=rN N (uF ms sh)) hk5 hi).1 (by omega)
      omega
   have e1:(0:Int)=((0:Nat):Int):=rfl
   have ek:(L:Int) - j - 1=(L:Int) - ((j+1:Nat):Int):=by omega
   have hpk:ptF (qN N (uF ms sh)) (rN N (uF ms sh)) j k=qN N (uF ms sh) k:=by unfold ptF; rw[if_neg (by omega),Int.add_zero]
   rw[if_pos (by omega)]
   show zsp ((L:Int) - j) (zsq d) 1000000 ((0:Nat):Int) ((1:Nat):Int) _ _=_
   rw[zAF hkn h5 (fun i hi=>by rw[erk]; have:=low i (by omega) (by omega); omega) (fun i hi hin=>by rw[erk]; have:=low i (by omega) (by omega); omega) (by rw[hpk]; omega) (by omega) 1000000 0 1 (by omega) (by omega) (by omega) (fun h=>by omega),ek,zAq,zAq]
   have e2:lN ms.length (fun i=>if i=k then ptF (qN N (uF ms sh)) (rN N (uF ms sh)) j k+1 else ptF (qN N (uF ms sh)) (rN N (uF ms sh)) j i)=lN ms.length (ptF (qN N (uF ms sh)) (rN N (uF ms sh)) (j+1)):=zAp fun i hi=>by
    by_cases hik:i=k
    ·subst hik; rw[if_pos rfl,hpk]; unfold ptF; rw[if_pos (by omega)]
    ·have hne:=zxw (r:=rN N (uF ms sh)) (show i < 5 by omega) hk5 hik;rw[if_neg hik]; unfold ptF
     by_cases h1:zxd (rN N (uF ms sh)) i < j
     ·rw[if_pos h1,if_pos (by omega)]
     ·rw[if_neg h1,if_neg (by omega)]
   have e3:lN ms.length (fun i=>if i=k then (-1:Int) else rsF sh (rN N (uF ms sh)) j i)=lN ms.length (rsF sh (rN N (uF ms sh)) (j+1)):=zAp fun i hi=>by
    by_cases hik:i=k
    ·subst hik; rw[if_pos rfl]; unfold rsF; rw[if_pos hsk,if_pos (by omega)]
    ·have hne:=zxw (r:=rN N (uF ms sh)) (show i < 5 by omega) hk5 hik;rw[if_neg hik]; unfold rsF
     by_cases h1:zxd (rN N (uF ms sh)) i < j
     ·rw[if_pos h1,if_pos (show zxd (rN N (uF ms sh)) i < ((j+1:Nat):Int) by omega)]
     ·rw[if_neg h1,if_neg (show ¬ zxd (rN N (uF ms sh)) i < ((j+1:Nat):Int) by omega)]
   rw[e2,e3];exact zAG hms hs h0 hN hL d (j+1) (by omega) (by omega)
  ·have hjL:j=L:=by omega
   subst hjL;rw[if_neg (by omega)]
   congr 1
   refine zAp fun i _=>?_;unfold ptF zxl;rw[hL]
theorem zAH{k:Nat}:∀{n:Nat},zAv (fun j=>decide (j=k)) n=if k < n then 2 ^ k else 0
 | 0=>rfl
 | n+1=>by
  show zAv (fun j=>decide (j=k)) n+(if decide (n=k)=true then 2 ^ n else 0)=_
  rw[zAH (n:=n)]
  by_cases h:n=k
  ·subst h; rw[if_neg (by omega),if_pos (decide_eq_true rfl),if_pos (by omega)]; omega
  ·have e:(if decide (n=k)=true then 2 ^ n else 0)=0:=if_neg (by rw[decide_eq_false h]; decide);rw[e,Nat.add_zero]
   by_cases h2:k < n
   ·rw[if_pos h2,if_pos (by omega)]
   ·rw[if_neg h2,if_neg (by omega)]
theorem zAI{f g:Nat->Bool}{n k:Nat}(hk:k < n)(hf:f k=true)(hg:g k=false)(h:∀j,j ≠ k->g j=f j):zAv f n=zAv g n+2 ^ k:=by
 have:=zAD (f:=f) (g:=g) (n:=n) fun j _ hj=>by
  by_cases hjk:j=k
  ·subst hjk; exact hf
  ·rw[<- h j hjk]; exact hj
 have e:zAv (fun j=>f j && !g j) n=zAv (fun j=>decide (j=k)) n:=zAy fun j _=>by
  by_cases hjk:j=k
  ·subst hjk; show(f j && !g j)=_; rw[hf,hg,decide_eq_true rfl]; rfl
  ·show(f j && !g j)=_; rw[h j hjk,decide_eq_false hjk]; cases f j <;> rfl
 rw[this,e,zAH,if_pos hk]
section
variable {s:Soc} {sh:Nat->Bool} {N:Int}
theorem zAJ(hms:zxL s.Members)(hs:zxP s.Members sh){y1 y2:List Int}{R:Option (List Int)}(hR:zsr s (zAv sh s.Members.length:Int) N (S5 (uF s.Members sh)) 1000000 N 0 y1 y2=R) :
  ∀(d k:Nat),k<=s.Members.length->s.Members.length - k < d->zss s (zAv sh s.Members.length:Int) N d (part (uF s.Members sh) k) (k:Int) y1 y2=R
 | 0,_,_,h=>by omega
 | d+1,k,hk,hd=>by
  have h5:=hms.1;rw[zss]
  by_cases hkn:k < s.Members.length
  ·have hg:=List.getElem?_eq_getElem hkn;have hb:=zwS (f:=uF s.Members sh) (B:=10000) (fun i _=>by have:=zxX hms sh i; omega) (by omega) k (by omega);have hu:=zxX hms sh k
   have ek:(k:Int)+1=((k+1:Nat):Int):=by omega
   rw[if_pos (by omega),zAE h5 hkn]
   cases hq:sh k with
   | true=>
    have e:unN s.Members[k]=uF s.Members sh k:=(show uF s.Members sh k=unN s.Members[k] from zxW hg hq).symm;rw[if_pos rfl,zrI hg,obs,zzW (hms.2 _ (List.getElem_mem hkn)),obs,e,zqr (fI (by omega)),zqr (fI (by omega)),ek];exact zAJ hms hs hR d (k+1) (by omega) (by omega)
   | false=>
    have e:part (uF s.Members sh) k=part (uF s.Members sh) (k+1):=by
     show _=part _ k+uF s.Members sh k
     rw[show uF s.Members sh k=0 from zxV hq,Int.add_zero]
    rw[if_neg (by decide),zqr (fI (by omega)),ek,e];exact zAJ hms hs hR d (k+1) (by omega) (by omega)
  ·have hkn:k=s.Members.length:=by omega
   rw[if_neg (by omega)];subst hkn
   have e:part (uF s.Members sh) s.Members.length=S5 (uF s.Members sh):=zz6 _ h5 fun i h1 _=>show uF s.Members sh i=0 from zxV (by
    cases hq:sh i with
    | false=>rfl
    | true=>have:=hs i hq; omega)
   rw[e];exact hR
theorem zAK(hms:zxL s.Members)(hs:zxP s.Members sh)(h0:¬ zxN sh=true)(hN:0<=N/\N<=1000000) :
  ∀(d k:Nat),k<=s.Members.length->s.Members.length - k < d->zsr s (zAv sh s.Members.length:Int) N (S5 (uF s.Members sh)) d (N - part (qN N (uF s.Members sh)) k) (k:Int) (lN s.Members.length (stF (qN N (uF s.Members sh)) (fun _=>0) k)) (lN s.Members.length (stF (rsF sh (rN N (uF s.Members sh)) 0) (fun _=>0) k))=some (lN s.Members.length (zxl N (uF s.Members sh)))
 | 0,_,_,h=>by omega
 | d+1,k,hk,hd=>by
  have h5:=hms.1;have huo:=zxY hms hs h0;rw[zsr]
  by_cases hkn:k < s.Members.length
  ·have hg:=List.getElem?_eq_getElem hkn;have hb:=zwS (f:=qN N (uF s.Members sh)) (B:=1000000) (fun i hi=>by have:=zxm huo hN.1 hi; omega) (by omega) k (by omega);have hqk:=zxm huo hN.1 (k:=k) (by omega);have hrk:=zxn huo (N:=N) k;have hSle:=huo.le (i:=0) (by omega);have hu:=zxX hms sh k;have hpos:=huo.pos;have hmul:=zxk (a:=N) (x:=uF s.Members sh k) hN hu
   have ek:(k:Int)+1=((k+1:Nat):Int):=by omega
   rw[if_pos (by omega),zAo hkn,obs,zAE h5 hkn]
   cases hq:sh k with
   | true=>
    have e:unN s.Members[k]=uF s.Members sh k:=(show uF s.Members sh k=unN s.Members[k] from zxW hg hq).symm;have e1:N * uF s.Members sh k / S5 (uF s.Members sh)=qN N (uF s.Members sh) k:=rfl;have e2:N * uF s.Members sh k % S5 (uF s.Members sh)=rN N (uF s.Members sh) k:=rfl
    have e3:rN N (uF s.Members sh) k=rsF sh (rN N (uF s.Members sh)) 0 k:=by
     have:=(zxy (rN N (uF s.Members sh)) (i:=k) (by omega)).1;unfold rsF; rw[if_pos hq,if_neg (by omega)]
    have e4:N - part (qN N (uF s.Members sh)) k - qN N (uF s.Members sh) k=N - part (qN N (uF s.Members sh)) (k+1):=by show _=N - (part _ k+qN N (uF s.Members sh) k); omega
    have e5:∀F:Nat->Int,idx ((lN s.Members.length F).set k (-1)) (k:Int)=some (-1):=fun F=>by rw[zAq,zAo hkn,if_pos rfl]
    rw[if_pos rfl,zrI hg,obs,zzW (hms.2 _ (List.getElem_mem hkn)),obs,e,zqr (by omega),zqr (by omega),zqr (fI (by omega)),zqr (by omega),zqr (by omega),e1,zqr (fI (by omega)),zqr (by omega),zqr (by omega),e2,zqr (fI (by omega)),zAo hkn,obs,Int.toNat_natCast,e5,obs,List.set_set,zAr,e3,zAr,zAo hkn,obs,zwP _ _ (by omega),zqr (fI (by omega)),zqr (fI (by omega)),ek,e4];exact zAK hms hs h0 hN d (k+1) (by omega) (by omega)
   | false=>
    have hq0:qN N (uF s.Members sh) k=0:=by unfold qN; rw[show uF s.Members sh k=0 from zxV hq,Int.mul_zero,Int.zero_ediv]
    have e3:(-1:Int)=rsF sh (rN N (uF s.Members sh)) 0 k:=by unfold rsF; rw[if_neg (by rw[hq]; decide)]
    have e4:N - part (qN N (uF s.Members sh)) k=N - part (qN N (uF s.Members sh)) (k+1):=by show _=N - (part _ k+qN N (uF s.Members sh) k); omega
    rw[if_neg (by decide),zqr (fI (by omega)),ek,e4,Int.toNat_natCast,e3,zAr,zAs (g:=qN N (uF s.Members sh)) hq0];exact zAK hms hs h0 hN d (k+1) (by omega) (by omega)
  ·have hkn:k=s.Members.length:=by omega
   rw[if_neg (by omega)];subst hkn;have hlb:=zxD huo N
   have hpart:part (qN N (uF s.Members sh)) s.Members.length=S5 (qN N (uF s.Members sh)):=zz6 _ h5 fun i h1 _=>by
    unfold qN
    rw[show uF s.Members sh i=0 from zxV (by cases hq:sh i with | false=>rfl | true=>have:=hs i hq; omega),Int.mul_zero,Int.zero_ediv]
   rw[hpart,zAt,zAt];have:=zAG hms hs h0 hN (L:=(N - S5 (qN N (uF s.Members sh))).toNat) (by omega) 1000000 0 (Nat.zero_le _) (by omega)
   have e1:(((N - S5 (qN N (uF s.Members sh))).toNat:Nat):Int) - ((0:Nat):Int)=N - S5 (qN N (uF s.Members sh)):=by omega
   have e2:lN s.Members.length (ptF (qN N (uF s.Members sh)) (rN N (uF s.Members sh)) 0)=lN s.Members.length (qN N (uF s.Members sh)):=zAp fun i hi=>by
    have:=(zxy (rN N (uF s.Members sh)) (i:=i) (by omega)).1;unfold ptF; rw[if_neg (by omega),Int.add_zero]
   rw[e1,e2] at this;exact this
theorem zAL(hms:zxL s.Members)(hs:zxP s.Members sh)(h0:¬ zxN sh=true)(hN:0<=N/\N<=1000000):zst s (zAv sh s.Members.length:Int) N=some (lN s.Members.length (zxl N (uF s.Members sh))):=by
 have h5:=hms.1;unfold zst;rw[zqr (by omega),zqr (by omega),Int.toNat_natCast,zAu];refine zAJ hms hs ?_ 1000000 0 (Nat.zero_le _) (by omega);have:=zAK hms hs h0 hN 1000000 0 (Nat.zero_le _) (by omega);rw[zwN,zwN] at this
 have e:N - part (qN N (uF s.Members sh)) 0=N:=by show N - 0=N; omega
 rw[e] at this;exact this
end
end
end Go.Proofs.Ytkclhciahokifaa

namespace Go.Proofs.Ytkclhciahokifaa
open _root_.Go.Proofs.Try
open Go.Abs
set_option maxRecDepth 100000
noncomputable section
section
variable {s:Soc} {sh:Nat->Bool} {N:Int}
theorem zAM(hms:zxL s.Members){p c:Nat->Int}:∀(d k:Nat),k<=s.Members.length->s.Members.length - k < d->zsu s (zAv sh s.Members.length:Int) (lN s.Members.length p) d (k:Int) (lN s.Members.length (stF (fun i=>if sh i=true then p i else c i) c k))=some (lN s.Members.length fun i=>if sh i=true then p i else c i,0)
 | 0,_,_,h=>by omega
 | d+1,k,hk,hd=>by
  have h5:=hms.1;rw[zsu]
  by_cases hkn:k < s.Members.length
  ·have ek:(k:Int)+1=((k+1:Nat):Int):=by omega
   rw[if_pos (by omega),zAE h5 hkn]
   cases hq:sh k with
   | true=>
    have e:p k=(fun i=>if sh i=true then p i else c i) k:=(if_pos hq).symm;rw[if_pos rfl,zAo hkn,obs,zAo hkn,obs,zqr (fI (by omega)),ek,Int.toNat_natCast,e,zAr];exact zAM hms d (k+1) (by omega) (by omega)
   | false=>
    rw[if_neg (by decide),zqr (fI (by omega)),ek,zAs (if_neg (by rw[hq]; decide))];exact zAM hms d (k+1) (by omega) (by omega)
  ·have hkn:k=s.Members.length:=by omega
   rw[if_neg (by omega)];subst hkn;rw[zAt]
theorem zAN(hms:zxL s.Members){x9 x20:Int}{off:Nat->Bool}(hx:x9 - x20=(zAv off s.Members.length:Int)){c':Nat->Int}{K:Int->Int->List Int->Option (List Int × Int)}{g:Nat->Int}(hg:∀i,i < 5->0<=g i/\g i<=1000000)(hon:∀i,i < s.Members.length->off i=true->c' i=g i)(hoff:∀i,off i=false->g i=0)(hN:0<=N/\N<=1000000) :
  ∀(d k:Nat),k<=s.Members.length->s.Members.length - k < d->zsv s x9 x20 (lN s.Members.length c') K d (N - part g k) (k:Int)=K (N - part g s.Members.length) x20 (lN s.Members.length c')
 | 0,_,_,h=>by omega
 | d+1,k,hk,hd=>by
  have h5:=hms.1;rw[zsv,hx];have hlt:=zAw off s.Members.length;have hpw:=zz8 (show s.Members.length<=8 by omega)
  by_cases hkn:k < s.Members.length
  ·have ek:(k:Int)+1=((k+1:Nat):Int):=by omega
   have hb:=zwS (f:=g) (B:=1000000) (fun i hi=>by have:=hg i hi; omega) (by omega) k (by omega);have hgk:=hg k (by omega);rw[if_pos (by omega),zqr (fI (by omega)),zAE h5 hkn]
   cases hq:off k with
   | true=>
    have e4:N - part g k - g k=N - part g (k+1):=by show _=N - (part g k+g k); omega
    rw[if_pos rfl,zAo hkn,obs,hon k hkn hq,zqr (fI (by omega)),zqr (fI (by omega)),ek,e4];exact zAN hms hx hg hon hoff hN d (k+1) (by omega) (by omega)
   | false=>
    have e4:N - part g k=N - part g (k+1):=by show _=N - (part g k+g k); rw[hoff k hq]; omega
    rw[if_neg (by decide),zqr (fI (by omega)),ek,e4];exact zAN hms hx hg hon hoff hN d (k+1) (by omega) (by omega)
  ·have hkn:k=s.Members.length:=by omega
   rw[if_neg (by omega)];subst hkn
   rfl
theorem zAO(hms:zxL s.Members)(hs:zxP s.Members sh){x8:Int}{p c:Nat->Int}{K:Int->Int->List Int->Option (List Int × Int)}(hc0:∀i,sh i=true->c i=0){R:Option (List Int × Int)}
  (hR:(if (zAv (zwY s.Members sh p) s.Members.length:Int)=(zAv sh s.Members.length:Int) then (zsu s (zAv sh s.Members.length:Int) (lN s.Members.length p) 1000000 (0:Int) (lN s.Members.length fun i=>c i+mF s.Members (fun i=>sh i && !zwY s.Members sh p i) i)) else (zsv s (zAv sh s.Members.length:Int) (zAv (zwY s.Members sh p) s.Members.length:Int) (lN s.Members.length fun i=>c i+mF s.Members (fun i=>sh i && !zwY s.Members sh p i) i) K 1000000 x8 (0:Int)))=R) :
  ∀(d k:Nat),k<=s.Members.length->s.Members.length - k < d->zsw s x8 (zAv sh s.Members.length:Int) (lN s.Members.length p) K d (zAv (stF (zwY s.Members sh p) sh k) s.Members.length:Int) (k:Int) (lN s.Members.length (stF (fun i=>c i+mF s.Members (fun i=>sh i && !zwY s.Members sh p i) i) c k))=R
 | 0,_,_,h=>by omega
 | d+1,k,hk,hd=>by
  have h5:=hms.1;rw[zsw]
  by_cases hkn:k < s.Members.length
  ·have hg:=List.getElem?_eq_getElem hkn
   have ek:(k:Int)+1=((k+1:Nat):Int):=by omega
   have skip:zwY s.Members sh p k=sh k->mF s.Members (fun i=>sh i && !zwY s.Members sh p i) k=0->zAv (stF (zwY s.Members sh p) sh k) s.Members.length=zAv (stF (zwY s.Members sh p) sh (k+1)) s.Members.length/\lN s.Members.length (stF (fun i=>c i+mF s.Members (fun i=>sh i && !zwY s.Members sh p i) i) c k)=lN s.Members.length (stF (fun i=>c i+mF s.Members (fun i=>sh i && !zwY s.Members sh p i) i) c (k+1)):=fun h1 h2=>by
    refine⟨zAy fun j _=>?_,zAs (show c k+_=c k by rw[h2,Int.add_zero])⟩;unfold stF
    by_cases h3:j=k
    ·subst h3; rw[if_neg (by omega),if_pos (by omega),h1]
    ·by_cases h4:j < k
     ·rw[if_pos h4,if_pos (by omega)]
     ·rw[if_neg h4,if_neg (by omega)]
   rw[if_pos (by omega),zAE h5 hkn]
   cases hq:sh k with
   | true=>
    rw[if_pos rfl,zAo hkn,obs,zrI hg,obs]
    by_cases hm:s.Members[k].Most < p k
    ·have hab:zwY s.Members sh p k=false:=by rw[zxT hg,hq,Bool.true_and]; exact decide_eq_false (by omega)
     have hmF:mF s.Members (fun i=>sh i && !zwY s.Members sh p i) k=s.Members[k].Most:=zxW hg (by show(sh k && !zwY s.Members sh p k)=true; rw[hq,hab]; rfl);have hpw:=zz8 (show k<=8 by omega);have hpw2:=zz8 (show s.Members.length<=8 by omega);have hlt:=zAw (stF (zwY s.Members sh p) sh k) s.Members.length;have hw:zmb .u64 (k:Int)=(k:Int):=wu (by omega)
     have hpow:(1:Int) * 2 ^ (Int.toNat (zmb .u64 (k:Int)))=((2 ^ k:Nat):Int):=by rw[hw,Int.toNat_natCast,Int.one_mul,Int.natCast_pow]; rfl
     have hdrop:=zAI (f:=stF (zwY s.Members sh p) sh k) (g:=stF (zwY s.Members sh p) sh (k+1)) hkn (by rw[zwO]; exact hq) (by rw[zwP _ _ (by omega)]; exact hab) fun j hj=>by
      unfold stF
      by_cases h4:j < k
      ·rw[if_pos h4,if_pos (by omega)]
      ·rw[if_neg h4,if_neg (by omega)]
     have e1:(zAv (stF (zwY s.Members sh p) sh k) s.Members.length:Int) - ((2 ^ k:Nat):Int)=(zAv (stF (zwY s.Members sh p) sh (k+1)) s.Members.length:Int):=by rw[hdrop]; omega
     have e2:s.Members[k].Most=(fun i=>c i+mF s.Members (fun i=>sh i && !zwY s.Members sh p i) i) k:=by show _=c k+_; rw[hc0 k hq,hmF,Int.zero_add]
     have hb1:(0:Int)<=((2 ^ k:Nat):Int):=Int.natCast_nonneg _;rw[if_pos hm,obs,zAo hkn,obs,hpow,hw,zqr (by omega),zqr (by omega),zqr (by omega),zqr (fI (by omega)),e1,zqr (fI (by omega)),zqr (fI (by omega)),ek,Int.toNat_natCast,e2,zAr];exact zAO hms hs hc0 hR d (k+1) (by omega) (by omega)
    ·have hab:zwY s.Members sh p k=true:=by rw[zxT hg,hq,Bool.true_and]; exact decide_eq_true (by omega)
     obtain⟨e1,e2⟩:=skip (hab.trans hq.symm) (zxV (by show(sh k && !zwY s.Members sh p k)=false; rw[hab]; simp));rw[if_neg hm,zqr (fI (by omega)),ek,e1,e2];exact zAO hms hs hc0 hR d (k+1) (by omega) (by omega)
   | false=>
    have hab:zwY s.Members sh p k=false:=by
     cases h:zwY s.Members sh p k with
     | false=>rfl
     | true=>rw[zxS h] at hq; cases hq
    obtain⟨e1,e2⟩:=skip (hab.trans hq.symm) (zxV (by show(sh k && !zwY s.Members sh p k)=false; rw[hq]; rfl));rw[if_neg (by decide),zqr (fI (by omega)),ek,e1,e2];exact zAO hms hs hc0 hR d (k+1) (by omega) (by omega)
  ·have hkn:k=s.Members.length:=by omega
   rw[if_neg (by omega)];subst hkn;rw[zAy (g:=zwY s.Members sh p) fun j hj=>zwP _ _ hj,zAt];exact hR
end
theorem zAP{s:Soc}(hms:zxL s.Members):∀(n:Nat) (sh:Nat->Bool) (N:Int) (c:Nat->Int),RI s.Members sh N c->cF sh < n->∀d,n < d->zsx s d N (zAv sh s.Members.length:Int) (lN s.Members.length c)=some (lN s.Members.length (roundsN s.Members n sh N c).1,(roundsN s.Members n sh N c).2)
 | 0,_,_,_,_,h=>by omega
 | n+1,sh,N,c,hr,h=>fun d hd=>by
  have h5:=hms.1;obtain⟨d,rfl⟩:∃e,d=e+1:=⟨d - 1,by omega⟩;rw[zsx];unfold roundsN
  have hz:zAv sh s.Members.length=0↔zxN sh=true:=by
   rw[zxQ,<- zAB s.Members.length,zAz];refine⟨fun h i hi=>?_,fun h j hj=>h j (by omega)⟩
   cases hq:sh i with
   | false=>rfl
   | true=>rw[h i (hr.sup i hq)] at hq; cases hq
  by_cases h0:zxN sh=true
  ·rw[if_pos h0,if_neg (by have:=hz.2 h0; omega)]
  ·rw[if_neg h0,if_pos (by have:¬ zAv sh s.Members.length=0:=fun h=>h0 (hz.1 h); omega),zAL hms hr.sup h0 hr.nn,obs]
   have hsame:(zAv (zwY s.Members sh (zxl N (uF s.Members sh))) s.Members.length:Int)=(zAv sh s.Members.length:Int)↔zxO (zwY s.Members sh (zxl N (uF s.Members sh))) sh=true:=by
    rw[zxR,Int.ofNat_inj,zAz];refine⟨fun h i hi=>?_,fun h j hj=>h j (by omega)⟩
    by_cases hn:i < s.Members.length
    ·exact h i hn
    ·have e1:sh i=false:=by
      cases hq:sh i with
      | false=>rfl
      | true=>have:=hr.sup i hq; omega
     rw[e1]
     cases hq:zwY s.Members sh (zxl N (uF s.Members sh)) i with
     | false=>rfl
     | true=>rw[zxS hq] at e1; cases e1
   have key:=zAO (x8:=N) (p:=zxl N (uF s.Members sh)) (K:=zsx s d) hms hr.sup hr.c0 (R:=some (lN s.Members.length (roundsN s.Members (n+1) sh N c).1,(roundsN s.Members (n+1) sh N c).2)) ?_ 1000000 0 (Nat.zero_le _) (by omega)
   ·rw[zwN,zwN] at key;refine key.trans ?_;rw[roundsN,if_neg h0]
   ·rw[roundsN,if_neg h0]
    by_cases h1:zxO (zwY s.Members sh (zxl N (uF s.Members sh))) sh=true
    ·rw[if_pos (hsame.2 h1),if_pos h1];have h1':=zxR.1 h1
     have ec:lN s.Members.length (fun i=>c i+mF s.Members (fun i=>sh i && !zwY s.Members sh (zxl N (uF s.Members sh)) i) i)=lN s.Members.length c:=zAp fun i hi=>by
      show c i+_=c i
      rw[show mF s.Members (fun i=>sh i && !zwY s.Members sh (zxl N (uF s.Members sh)) i) i=0 from zxV (by show(sh i && !zwY s.Members sh _ i)=false; rw[h1' i (by omega)]; cases sh i <;> rfl),Int.add_zero]
     have:=zAM (sh:=sh) (p:=zxl N (uF s.Members sh)) (c:=c) hms 1000000 0 (Nat.zero_le _) (by omega);rw[zwN] at this;rw[ec];refine this.trans ?_
     congr 2
     refine zAp fun i hi=>?_
     cases hq:sh i with
     | true=>
      show _=c i+zxl N (uF s.Members sh) i
      rw[if_pos rfl,hr.c0 i hq,Int.zero_add]
     | false=>
      show _=c i+zxl N (uF s.Members sh) i
      rw[if_neg (by decide),zxJ (zxY hms hr.sup h0) (show uF s.Members sh i=0 from zxV hq),Int.add_zero]
    ·rw[if_neg fun h=>h1 (hsame.1 h),if_neg h1];have hless:=zxU h1;have hnext:=hr.next hms h0;have hsub:=zAD (f:=sh) (g:=zwY s.Members sh (zxl N (uF s.Members sh))) (n:=s.Members.length) fun j _ hj=>zxS hj;have hmb:=fun i (hi:i < 5)=>zx0 hms hr.sup h0 hr.nn.1 hi;have huo:=zxY hms hr.sup h0
     have key:=zAN (s:=s) (N:=N) (x9:=(zAv sh s.Members.length:Int)) (x20:=(zAv (zwY s.Members sh (zxl N (uF s.Members sh))) s.Members.length:Int)) hms (off:=fun i=>sh i && !zwY s.Members sh (zxl N (uF s.Members sh)) i) (by omega) (c':=fun i=>c i+mF s.Members (fun i=>sh i && !zwY s.Members sh (zxl N (uF s.Members sh)) i) i) (K:=zsx s d) (g:=mF s.Members fun i=>sh i && !zwY s.Members sh (zxl N (uF s.Members sh)) i)
      (fun i hi=>by have:=hmb i hi; have:=zxm huo hr.nn.1 hi; have:=hr.nn; omega)
      (fun i hi ho=>by
       have ho:(sh i && !zwY s.Members sh (zxl N (uF s.Members sh)) i)=true:=ho
       show c i+_=_
       rw[hr.c0 i ((zxZ _).1 ho).1,Int.zero_add])
      (fun i ho=>zxV ho) hr.nn 1000000 0 (Nat.zero_le _) (by omega)
     have e0:N - part (mF s.Members fun i=>sh i && !zwY s.Members sh (zxl N (uF s.Members sh)) i) 0=N:=by show N - 0=N; omega
     have e1:part (mF s.Members fun i=>sh i && !zwY s.Members sh (zxl N (uF s.Members sh)) i) s.Members.length=S5 (mF s.Members fun i=>sh i && !zwY s.Members sh (zxl N (uF s.Members sh)) i):=zz6 _ h5 fun i h1 _=>show mF s.Members _ i=0 from by unfold mF zwW; rw[List.getElem?_eq_none h1]
     rw[e0,e1] at key;exact key.trans (zAP hms n _ _ _ hnext (by omega) d (by omega))
theorem zAQ{s:Soc}(hms:zxL s.Members){sh:Nat->Bool}(hs:zxP s.Members sh){N:Int}(hN:0<=N/\N<=1000000):zsy s (zAv sh s.Members.length:Int) N=some (lN s.Members.length (zx4 s.Members sh N).1,(zx4 s.Members sh N).2):=by
 have h5:=hms.1;have hc:=zx5 sh;unfold zsy;rw[zqr (by omega),Int.toNat_natCast,zAu];exact zAP hms 6 sh N _ (RI0 hs hN) (by omega) 1000000 (by omega)
theorem zAR{n:Nat}(out:List Int)(ho:out=[]):zz9 n=zAv (zyt n out) n:=by
 rw[<- zAC]
 exact zAy fun j hj=>by rw[ho,zz7,decide_eq_true hj]
end
end Go.Proofs.Ytkclhciahokifaa

namespace Go.Proofs.Ytkclhciahokifaa
open _root_.Go.Proofs.Try
open Go.Abs
set_option maxRecDepth 100000
noncomputable section
theorem zAS{α:Type}{n:Nat}{f:Nat->α}:lN (n+1) f=lN n f++[f n]:=by unfold lN; rw[List.range_succ,List.map_append]; rfl
def big:Rg:={ Lo:=1099511627776,Hi:=-1 }
def zAT(r:Rg)(x:Int):Rg:={ Lo:=min r.Lo x,Hi:=max r.Hi x }
structure Sp (g:Int->Int) (lo N:Int) (r:Rg):Prop where
 all:∀M,lo<=M->M < N->r.Lo<=g M/\g M<=r.Hi
 ex:(N=lo/\r=big)\/((∃M,(lo<=M/\M < N)/\g M=r.Lo)/\∃M,(lo<=M/\M < N)/\g M=r.Hi)
theorem Sp.zero(g:Int->Int)(lo:Int):Sp g lo lo big:=⟨fun M h1 h2=>by omega,.inl ⟨rfl,rfl⟩⟩
theorem Sp.next{g:Int->Int}{lo N:Int}{r:Rg}(h:Sp g lo N r)(hlo:lo<=N)(hg:0<=g N/\g N<=1000000):Sp g lo (N+1) (zAT r (g N)):=by
 refine⟨fun M h1 h2=>?_,.inr ?_⟩
 ·show min r.Lo (g N)<=g M/\g M<=max r.Hi (g N)
  by_cases h3:M < N
  ·have:=h.all M h1 h3; omega
  ·have h3:M=N:=by omega
   subst h3; omega
 ·show(∃M,(lo<=M/\M < N+1)/\g M=min r.Lo (g N))/\∃M,(lo<=M/\M < N+1)/\g M=max r.Hi (g N)
  rcases h.ex with ⟨h1,h2⟩ | ⟨⟨a,ha,ea⟩,⟨b,hb,eb⟩⟩
  ·subst h2;exact⟨⟨N,by omega,by show g N=min 1099511627776 (g N); omega⟩,⟨N,by omega,by show g N=max (-1) (g N); omega⟩⟩
  ·constructor
   ·by_cases h1:r.Lo<=g N
    ·exact⟨a,by omega,by omega⟩
    ·exact⟨N,by omega,by omega⟩
   ·by_cases h1:g N<=r.Hi
    ·exact⟨b,by omega,by omega⟩
    ·exact⟨N,by omega,by omega⟩
theorem Sp.done{s:Soc}(hs:zyf s){g:Int->Int}{r:Rg}(h:Sp g (loN s) (hiN s+1) r):r=bnd s g:=by
 have hb:=zyL hs;obtain⟨⟨a,ha,ea⟩,⟨b,hb',eb⟩,hall⟩:=zzc hs g
 rcases h.ex with ⟨h1,_⟩ | ⟨⟨a',ha',ea'⟩,⟨b',hb'',eb'⟩⟩
 ·omega
 ·have h1:=h.all a (by omega) (by omega);have h2:=h.all b (by omega) (by omega);have h3:=hall a' (by omega);have h4:=hall b' (by omega);generalize bnd s g=t at ea eb h3 h4 ⊢
  cases r; cases t
  simp only at ea eb ea' eb' h1 h2 h3 h4
  congr 1 <;> omega
theorem zAU{n:Nat}(hn:n<=5){y1 y2 x25 sh:Int}(hx:0<=x25/\x25<=1000000){c:Nat->Int}{F:Nat->Rg}{K:Int->Int->Int->List Rg->Option (List Rg × Rg)} :
  ∀(d k:Nat),k<=n->n - k < d->zsA y1 y2 x25 (lN n c,sh) K d (k:Int) (lN n (stF (fun i=>zAT (F i) (c i)) F k))=K (min y1 sh) (max y2 sh) (x25+1) (lN n fun i=>zAT (F i) (c i))
 | 0,_,_,h=>by omega
 | d+1,k,hk,hd=>by
  rw[zsA,zAm]
  by_cases hkn:k < n
  ·have ek:(k:Int)+1=((k+1:Nat):Int):=by omega
   have e:({ Lo:=min (F k).Lo (c k),Hi:=max (F k).Hi (c k) }:Rg)=(fun i=>zAT (F i) (c i)) k:=rfl;rw[if_pos (by omega),zAo hkn,obs,zwO]
   show(idx (lN n c) (k:Int)).bind _=_
   rw[zAo hkn,obs,obs,obs,obs,zqr (fI (by omega)),ek,Int.toNat_natCast,e,zAr];exact zAU hn hx d (k+1) (by omega) (by omega)
  ·have hkn:k=n:=by omega
   subst hkn;rw[if_neg (by omega),zqr (fI (by omega)),zAt]
section
variable {s:Soc} {sh:Nat->Bool}
theorem zAV(hs:zyf s)(hsup:zxP s.Members sh):∀(d:Nat) (N:Int) (r:Rg) (F:Nat->Rg),loN s<=N->N<=hiN s+1->(hiN s+1 - N).toNat < d->Sp (fun N=>(zx4 s.Members sh N).2) (loN s) N r->(∀k,k < s.Members.length->Sp (fun N=>(zx4 s.Members sh N).1 k) (loN s) N (F k)) ->
  zsB s (zAv sh s.Members.length:Int) { Lo:=loN s,Hi:=hiN s } d r.Lo r.Hi N (lN s.Members.length F)=some (lN s.Members.length fun k=>bnd s fun N=>(zx4 s.Members sh N).1 k,bnd s fun N=>(zx4 s.Members sh N).2)
 | 0,_,_,_,_,_,hd,_,_=>by omega
 | d+1,N,r,F,hlo,hhi,hd,hr,hF=>by
  have hnb:=zyL hs;have h5:=hs.m5;rw[zsB]
  by_cases hN:N<=hiN s
  ·have hsum:=zya hs.msOk hsup (N:=N) (by omega);have hbd:=fun {i:Nat} (hi:i < 5)=>zyd hs.msOk hsup (N:=N) (by omega) hi;rw[if_pos (by show N<=hiN s; exact hN),zAQ hs.msOk hsup (by omega),obs];have key:=zAU (y1:=r.Lo) (y2:=r.Hi) (x25:=N) (sh:=(zx4 s.Members sh N).2) (c:=(zx4 s.Members sh N).1) (F:=F) (K:=zsB s (zAv sh s.Members.length:Int) { Lo:=loN s,Hi:=hiN s } d) h5 (by omega) ((lN s.Members.length (zx4 s.Members sh N).1).length+1) 0 (Nat.zero_le _) (by rw[zAm]; omega);rw[zwN] at key;refine key.trans ?_
   have hb:0<=S5 (zx4 s.Members sh N).1:=by
    have h6:S5 (fun _=>(0:Int))<=S5 (zx4 s.Members sh N).1:=zxs fun i hi=>(hbd hi).1;have h7:S5 (fun _=>(0:Int))=0:=rfl
    omega
   exact zAV hs hsup d (N+1) (zAT r (zx4 s.Members sh N).2) _ (by omega) (by omega) (by omega) (hr.next hlo (by show 0<=(zx4 s.Members sh N).2/\(zx4 s.Members sh N).2<=1000000; omega)) fun k hk=>(hF k hk).next hlo (by have:=hbd (i:=k) (by omega); show 0<=(zx4 s.Members sh N).1 k/\(zx4 s.Members sh N).1 k<=1000000; omega)
  ·have hN:N=hiN s+1:=by omega
   subst hN;rw[if_neg (by show ¬ hiN s+1<=hiN s; omega)];have e1:=hr.done hs;have e2:lN s.Members.length F=lN s.Members.length fun k=>bnd s fun N=>(zx4 s.Members sh N).1 k:=zAp fun k hk=>(hF k hk).done hs;rw[e2,<- e1]
theorem zAW(h5:s.Members.length<=5){who:Int}{r:Rg}:∀(d k:Nat),k<=s.Members.length->s.Members.length - k < d->zsC s who r d (lN k fun _=>big) (k:Int)=zsB s who r 1000000 big.Lo big.Hi r.Lo (lN s.Members.length fun _=>big)
 | 0,_,_,h=>by omega
 | d+1,k,hk,hd=>by
  rw[zsC]
  by_cases hkn:k < s.Members.length
  ·have ek:(k:Int)+1=((k+1:Nat):Int):=by omega
   have e:lN k (fun _=>big)++[({ Lo:=(1099511627776:Int),Hi:=(-1:Int) }:Rg)]=lN (k+1) fun _=>big:=zAS.symm;rw[if_pos (by omega),zqr (by rw[zAm]; omega),zqr (fI (by omega)),ek,e];exact zAW h5 d (k+1) (by omega) (by omega)
  ·have hkn:k=s.Members.length:=by omega
   rw[if_neg (by omega),hkn]; rfl
theorem zAX(hs:zyf s)(hsup:zxP s.Members sh):zsD s (zAv sh s.Members.length:Int)=some (lN s.Members.length fun k=>bnd s fun N=>(zx4 s.Members sh N).1 k,bnd s fun N=>(zx4 s.Members sh N).2):=by
 have hnb:=zyL hs;have h5:=hs.m5;unfold zsD;rw[zz5 hs,obs];refine(zAW h5 1000000 0 (Nat.zero_le _) (by omega)).trans ?_;exact zAV hs hsup 1000000 (loN s) big _ (Int.le_refl _) (by omega) (by omega) (Sp.zero _ _) fun k _=>Sp.zero _ _
end
theorem zAY{s:Soc}{l:List Int}(h5:s.Members.length<=8)(hl:l.length<=1000):Ev (zsF s l) (zyz s.Members.length l):=by
 unfold zsF;refine(Ev.loop (n:=l.length) (F:=fun d x=>zsE s l d x) (ok:=fun j=>(∀a,l[j]? = some a->0<=a/\a<=(s.Members.length:Int) - 1)/\(0 < j->∀a b,l[j - 1]? = some a->l[j]? = some b->a < b)) (fin:=some true) (P:=True) (fun d k hk=>?_) (fun d=>?_) (by omega) (fun _=>Ev.tt trivial)).imp ?_
 ·have hg:=List.getElem?_eq_getElem hk
  show(_->zsE s l (d+1) (k:Int)=_)/\(_->zsE s l (d+1) (k:Int)=_)
  rw[zsE,if_pos (by omega),zrI hg,obs,zqr (fI (by omega))]
  by_cases hv:0<=l[k]/\l[k]<=(s.Members.length:Int) - 1
  ·rw[zyp.some_of hv,obs,if_pos rfl]
   by_cases h0:(0:Int) < (k:Int)
   ·have e1:(k:Int) - 1=((k - 1:Nat):Int):=by omega
    have hg2:=List.getElem?_eq_getElem (show k - 1 < l.length by omega);rw[if_pos h0,obs,zqr (fI (by omega)),e1,zrI hg2,obs];refine⟨fun h=>?_,fun h=>?_⟩
    ·have:=h.2 (by omega) _ _ hg2 hg;rw[if_neg (by omega),zqr (fI (by omega))]
    ·rw[if_pos]
     apply Classical.byContradiction
     intro h2;refine h ⟨fun a ha=>by rw[hg] at ha; cases ha; exact hv,fun _ a b ha hb=>?_⟩;rw[hg2] at ha; rw[hg] at hb
     cases ha; cases hb
     omega
   ·rw[if_neg h0,zqr (fI (by omega))];refine⟨fun _=>rfl,fun h=>?_⟩;refine absurd ⟨fun a ha=>?_,fun h3=>by omega⟩ h
    rw[hg] at ha; cases ha; exact hv
  ·rw[zyp.some_not hv,obs,if_neg (by decide)];exact⟨fun h=>absurd (h.1 _ hg) hv,fun _=>rfl⟩
 ·show zsE s l (d+1) _=_
  rw[zsE,if_neg (by omega)]
 ·constructor
  ·rintro⟨h,_⟩
   refine⟨zyA.1 fun j h0 hj a b ha hb=>(h j hj).2 h0 a b ha hb,fun v hv=>?_⟩;obtain⟨j,hj,rfl⟩:=List.getElem_of_mem hv;exact(h j hj).1 _ (List.getElem?_eq_getElem hj)
  ·rintro⟨h1,h2⟩
   exact⟨fun j hj=>⟨fun a ha=>h2 a (List.mem_of_getElem? ha),fun h0 a b ha hb=>zyA.2 h1 j h0 hj a b ha hb⟩,trivial⟩
theorem zAZ{n:Nat}{l:List Int}(h:zyz n l):Inc n 0 l:=⟨h.1,fun v hv=>by have:=h.2 v hv; omega⟩
theorem zA0{s:Soc}{out:List Int}(h5:s.Members.length<=5)(ho:zyz s.Members.length out):zsH s out=some (zAv (zyt s.Members.length out) s.Members.length:Int):=by
 have hinc:=zAZ ho;have hlen:=zyR hinc;obtain⟨b,hb1,hb2⟩:=zy4 (by omega) hinc;have hpw:=zz8 (show s.Members.length<=8 by omega);have hfl:=zAa s.Members.length
 have hpb:zAj out=(b:Int):=by rw[<- hb2]; exact(zAk b 16).trans (by rw[Nat.mod_eq_of_lt (by omega)])
 have key:=zAl h5 (by omega) ho (E:=(zz9 s.Members.length:Int)) (by omega) (out.length+1) 0 (Nat.zero_le _) (by omega)
 have e0:(zz9 s.Members.length:Int) - zAj (out.take 0)=(zz9 s.Members.length:Int):=by show _ - (0:Int)=_; omega
 rw[e0] at key;unfold zsH;rw[zAb (by omega),obs];refine key.trans ?_;have hsub:=zAD (f:=fun _=>true) (g:=b.testBit) (n:=s.Members.length) fun _ _ _=>rfl;rw[zAC,zAA hb1] at hsub
 have e1:zAv (fun j=>true && !b.testBit j) s.Members.length=zAv (zyt s.Members.length out) s.Members.length:=zAy fun j hj=>by
  rw[<- hb2,zAf h5 hb1,decide_eq_true hj]
 rw[hpb];have e2:zz9 s.Members.length=b+zAv (zyt s.Members.length out) s.Members.length:=hsub.trans (congrArg (b + ·) e1);rw[e2];generalize zAv (zyt s.Members.length out) s.Members.length=x
 have e3:((b+x:Nat):Int) - (b:Int)=(x:Int):=by omega
 rw[e3]
theorem zA1{l:List Rg}(hb:∀r∈l,(0<=r.Lo/\r.Lo<=1000000)/\(0<=r.Hi/\r.Hi<=1000000))(hl:l.length<=5):∀(d k:Nat),k<=l.length->l.length - k < d->zuk l l d (k:Int)=some true
 | 0,_,_,h=>by omega
 | d+1,k,hk,hd=>by
  rw[zuk]
  by_cases hkn:k < l.length
  ·have hg:=List.getElem?_eq_getElem hkn;have h:=hb _ (List.getElem_mem hkn);rw[if_pos (by omega),zrI hg,obs,obs]
   show gd (zl6 .i64 l[k].Lo) (gd (zl6 .i64 l[k].Lo) (gd (zl6 .i64 l[k].Hi) (gd (zl6 .i64 l[k].Hi) (if (decide (l[k].Lo=l[k].Lo) && decide (l[k].Hi=l[k].Hi))=true then (gd (zl6 .i64 ((k:Int)+(1:Int))) (zuk l l d ((k:Int)+(1:Int)))) else some false))))=_
   rw[zqr (fI (by omega)),zqr (fI (by omega)),zqr (fI (by omega)),zqr (fI (by omega)),if_pos (by rw[decide_eq_true rfl,decide_eq_true rfl]; rfl),zqr (fI (by omega)),show(k:Int)+1=((k+1:Nat):Int) by omega];exact zA1 hb hl d (k+1) (by omega) (by omega)
  ·rw[if_neg (by omega)]
theorem zA2{l:List Rg}(hb:∀r∈l,(0<=r.Lo/\r.Lo<=1000000)/\(0<=r.Hi/\r.Hi<=1000000))(hl:l.length<=5):zul l l=some true:=by
 unfold zul;rw[if_pos rfl];exact zA1 hb hl (l.length+1) 0 (Nat.zero_le _) (by omega)
theorem zA3{s:Soc}(hs:zyf s){g:Int->Int}(hg:∀N,loN s<=N->N<=hiN s->0<=g N/\g N<=1000000):(0<=(bnd s g).Lo/\(bnd s g).Lo<=1000000)/\(0<=(bnd s g).Hi/\(bnd s g).Hi<=1000000):=by
 obtain⟨⟨a,ha,ea⟩,⟨b,hb,eb⟩,_⟩:=zzc hs g;rw[<- ea,<- eb];exact⟨hg a ha.1 ha.2,hg b hb.1 hb.2⟩
theorem zA4{s:Soc}(hs:zyf s)(out:List Int):∀r∈zzn s out,(0<=r.Lo/\r.Lo<=1000000)/\(0<=r.Hi/\r.Hi<=1000000):=fun r hr=>by
 have hnb:=zyL hs;have h5:=hs.m5;unfold zzn at hr;obtain⟨k,hk,rfl⟩:=List.mem_map.1 hr;have hk:=List.mem_range.1 hk
 exact zA3 hs fun N h1 h2=>by have:=zyd hs.msOk (zyv s.Members out) (N:=N) (by omega) (i:=k) (by omega); show 0<=(zx4 s.Members (zyt s.Members.length out) N).1 k/\(zx4 s.Members (zyt s.Members.length out) N).1 k<=1000000; omega
theorem zA5{s:Soc}(hs:zyf s){sh:Nat->Bool}(hsup:zxP s.Members sh)(N:Int)(hN:0<=N/\N<=1000000):0<=(zx4 s.Members sh N).2/\(zx4 s.Members sh N).2<=1000000:=by
 have hsum:=zya hs.msOk hsup (N:=N) hN;have h6:S5 (fun _=>(0:Int))<=S5 (zx4 s.Members sh N).1:=zxs fun i hi=>(zyd hs.msOk hsup hN hi).1;have h7:S5 (fun _=>(0:Int))=0:=rfl
 omega
theorem zA6{s:Soc}{out:List Int}(h1:zrS s.Members)(h2:zrS s.Losses)(hf:zyg s ≠ 0):zt8 s out=some ([],zyg s):=by
 unfold zt8;rw[zyF h1 h2 hf,obs,if_neg hf]
theorem zA7{s:Soc}(h1:zrS s.Members)(h2:zrS s.Losses)(hf:zyg s ≠ 0):zt9 s=some ([],zyg s):=by
 unfold zt9;rw[zA6 h1 h2 hf,obs]
theorem zA8{s:Soc}(h1:zrS s.Members)(h2:zrS s.Losses)(hf:zyg s ≠ 0):zua s=some ({ Lo:=0,Hi:=0 },zyg s):=by
 unfold zua;rw[zyF h1 h2 hf,obs,if_neg hf]
theorem zA9{s:Soc}{out:List Int}(_:zsc s)(_:out.length<=maxLen/\∀a∈out,zl6 .i64 a):zup s out=some true:=by
 unfold zup
 refine zzQ.pick (fun ht=>?_) fun _=>by rw[if_neg (by decide),awk]
 rw[if_pos rfl]
 by_cases h9:(9:Int) < (out.length:Int)
 ·rw[if_pos h9,awk]
 have hM:zrS s.Members:=by have:=ht.1; unfold zrS; omega
 have hL:zrS s.Losses:=by have:=ht.2; unfold zrS; omega
 have hO:zrS out:=by unfold zrS; omega
 rw[if_neg h9,zzR ht,obs]
 by_cases hf:zyg s=0
 ·have hs:=zyh.1 hf;have h5:=hs.m5;have hnb:=zyL hs;have hsb:=zA3 hs (g:=zzt s []) fun N h1 h2=>zA5 hs (zyv s.Members []) N (by omega);have hl1:=zzo (s:=s) [];have e0:(if (0:Int)=0 then (0:Int) else 1)=0:=rfl
  by_cases ho:zyz s.Members.length out
  ·have hl2:=zzo (s:=s) out;rw[zzs hs,obs,obs,zzu hs,obs,obs,zzO (by omega),obs,zzq hs hO ho,obs,zys ht.1 ht.2,obs,if_pos hf,zAb ht.1,obs,zAR (n:=s.Members.length) [] rfl,zAX hs (zyv s.Members []),obs,if_pos rfl,if_pos rfl]
   show(zul (zzn s []) (zzn s [])).bind _=_
   rw[zA2 (zA4 hs []) (by omega),obs,if_pos rfl]
   show gd (zl6 .i64 (bnd s (zzt s [])).Lo) (gd (zl6 .i64 (bnd s (zzt s [])).Lo) (gd (zl6 .i64 (bnd s (zzt s [])).Hi) (gd (zl6 .i64 (bnd s (zzt s [])).Hi) (if (decide ((bnd s (zzt s [])).Lo=(bnd s (zzt s [])).Lo) && decide ((bnd s (zzt s [])).Hi=(bnd s (zzt s [])).Hi))=true then _ else _))))=_
   rw[zqr (fI (by omega)),zqr (fI (by omega)),zqr (fI (by omega)),zqr (fI (by omega)),if_pos (by rw[decide_eq_true rfl,decide_eq_true rfl]; rfl),(zAY ht.1 (by omega)).some_of ho,obs,if_pos rfl,zA0 h5 ho,obs,zAX hs (zyv s.Members out),obs,if_pos rfl]
   show(zul (zzn s out) (zzn s out)).bind _=_
   rw[zA2 (zA4 hs out) (by omega),obs,if_pos rfl,awk]
  ·rw[zzs hs,obs,obs,zzu hs,obs,obs,zzO (by omega),obs,zzr hs hO ho,obs,zys ht.1 ht.2,obs,if_pos hf,zAb ht.1,obs,zAR (n:=s.Members.length) [] rfl,zAX hs (zyv s.Members []),obs,if_pos rfl,if_pos rfl]
   show(zul (zzn s []) (zzn s [])).bind _=_
   rw[zA2 (zA4 hs []) (by omega),obs,if_pos rfl]
   show gd (zl6 .i64 (bnd s (zzt s [])).Lo) (gd (zl6 .i64 (bnd s (zzt s [])).Lo) (gd (zl6 .i64 (bnd s (zzt s [])).Hi) (gd (zl6 .i64 (bnd s (zzt s [])).Hi) (if (decide ((bnd s (zzt s [])).Lo=(bnd s (zzt s [])).Lo) && decide ((bnd s (zzt s [])).Hi=(bnd s (zzt s [])).Hi))=true then _ else _))))=_
   rw[zqr (fI (by omega)),zqr (fI (by omega)),zqr (fI (by omega)),zqr (fI (by omega)),if_pos (by rw[decide_eq_true rfl,decide_eq_true rfl]; rfl),(zAY ht.1 (by omega)).some_not ho,obs,if_neg (by decide),if_pos (by rfl),if_pos (by rfl),awk]
 ·rw[zA7 hM hL hf,obs,obs,zA8 hM hL hf,obs,obs,zzO (by omega),obs,zA6 hM hL hf,obs,zys ht.1 ht.2,obs,if_neg hf,if_pos (by rfl),if_pos (by rfl),if_pos (by rfl)];have z0:zl6 .i64 (0:Int):=fI (by omega)
  repeat rw[zqr (by exact z0)]
  rw[if_pos (by rfl)]
  repeat rw[zqr (by exact z0)]
  rw[if_pos (by rfl),awk]
end
end Go.Proofs.Ytkclhciahokifaa

namespace Go.Proofs.Ytkclhciahokifaa
open _root_.Go.Proofs.Try
open Go.ChangeShapes Go.WideShapes Go.ChangeAt Go.RowKit Go.Abs
set_option maxRecDepth 100000
theorem op3:zrY prog 3 Int (zl6 .i64):=zrZ (by kernel_rfl)
theorem zBa:zrY prog 82 Mb zsa:=zr6 (fs:=[(3,0),(3,1),(3,2)]) (by kernel_rfl) (by kernel_rfl) (zr5 (α:=Int) (ok:=zl6 .i64) (k:=1) op3 (by kernel_rfl) rfl (zr5 (α:=Int) (ok:=zl6 .i64) (k:=1) op3 (by kernel_rfl) rfl (zr5 (α:=Int) (ok:=zl6 .i64) (k:=1) op3 (by kernel_rfl) rfl zr4))) (by kernel_rfl) fun m vs h=>by
 obtain⟨a0,c0,r0,m0,h0,p0,k0,s0,⟨a1,c1,r1,m1,h1,p1,k1,s1,⟨a2,c2,r2,m2,h2,p2,k2,s2,rfl⟩⟩⟩:=h;have p0:c0=[.int .i64 a0]:=p0; subst p0;have p1:c1=[.int .i64 a1]:=p1; subst p1;have p2:c2=[.int .i64 a2]:=p2; subst p2;subst h2 h1 h0;exact⟨⟨a0,a1,a2⟩,rfl,⟨k0,k1,k2⟩⟩
theorem zBb:zrY prog 22 (List Mb) (fun l=>l.length<=maxLen/\∀a0∈l,zsa a0):=zr1 (by kernel_rfl) (by kernel_rfl) zBa
theorem zBc:zrY prog 25 Rg zr8:=zr6 (fs:=[(3,0),(3,1)]) (by kernel_rfl) (by kernel_rfl) (zr5 (α:=Int) (ok:=zl6 .i64) (k:=1) op3 (by kernel_rfl) rfl (zr5 (α:=Int) (ok:=zl6 .i64) (k:=1) op3 (by kernel_rfl) rfl zr4)) (by kernel_rfl) fun m vs h=>by
 obtain⟨a0,c0,r0,m0,h0,p0,k0,s0,⟨a1,c1,r1,m1,h1,p1,k1,s1,rfl⟩⟩:=h;have p0:c0=[.int .i64 a0]:=p0; subst p0;have p1:c1=[.int .i64 a1]:=p1; subst p1;subst h1 h0;exact⟨⟨a0,a1⟩,rfl,⟨k0,k1⟩⟩
theorem zBd:zrY prog 23 (List Rg) (fun l=>l.length<=maxLen/\∀a0∈l,zr8 a0):=zr1 (by kernel_rfl) (by kernel_rfl) zBc
theorem zBe:zrY prog 27 Soc zsc:=zr6 (fs:=[(22,0),(23,1),(25,2),(3,4)]) (by kernel_rfl) (by kernel_rfl) (zr5 (α:=List Mb) (ok:=(fun l=>l.length<=maxLen/\∀a0∈l,zsa a0)) (k:=1) zBb (by kernel_rfl) rfl (zr5 (α:=List Rg) (ok:=(fun l=>l.length<=maxLen/\∀a0∈l,zr8 a0)) (k:=1) zBd (by kernel_rfl) rfl (zr5 (α:=Rg) (ok:=zr8) (k:=2) zBc (by kernel_rfl) rfl (zr5 (α:=Int) (ok:=zl6 .i64) (k:=1) op3 (by kernel_rfl) rfl zr4)))) (by kernel_rfl) fun m vs h=>by
 obtain⟨a0,c0,r0,m0,h0,p0,k0,s0,⟨a1,c1,r1,m1,h1,p1,k1,s1,⟨a2,c2,r2,m2,h2,p2,k2,s2,⟨a3,c3,r3,m3,h3,p3,k3,s3,rfl⟩⟩⟩⟩:=h;obtain⟨d0,rfl,p0⟩:=p0;obtain⟨d1,rfl,p1⟩:=p1;have p2:c2=[.int .i64 a2.Lo,.int .i64 a2.Hi]:=p2; subst p2;have p3:c3=[.int .i64 a3]:=p3; subst p3;subst h3 h2 h1 h0;exact⟨⟨a0,a1,a2,a3⟩,⟨_,_,rfl,p0,p1⟩,⟨k0,k1,k2,k3⟩⟩
theorem zBf:zrY prog 28 (List Int) (fun l=>l.length<=maxLen/\∀a0∈l,zl6 .i64 a0):=zr1 (by kernel_rfl) (by kernel_rfl) op3
theorem zBg:laidOutB prog=true:=by kernel_rfl
theorem zBh:ownKnob prog.godebug=none:=by kernel_rfl
theorem zBi(os:Os)(started:os.Started)(H:Type)(enc:TypeId × Value->H) :
    ReturnsInHanded {} Try.checked os 5 .any (Rows.callBoundsSpec.pre6 enc Try.prog Try.f5 Rows.callBoundsRow.domain false) (Rows.callBoundsSpec.post enc Try.prog Try.f5 false true false false):=by
  refine returnsInHanded_of_change (C:=Try.checked) zBh started (by kernel_rfl) Try.func5
    (ChangeSpec.witness6 (enc:=enc) (C:=Try.checked) false ⟨#[],#[.agg #[.slice none 0 0,.slice none 0 0,.int .i64 0,.int .i64 0,.int .i64 0],.slice none 0 0],[]⟩ 8 (by kernel_rfl) (by kernel_rfl) (by kernel_rfl) (by kernel_rfl)) ?_
  intro W base args ds gs before hval0 hW hcnd _;have hval:∀(j:Nat) t v,Try.f5.params[j]? = some t->args[j]? = some v->Value.okWide Try.prog W .any base t v:=hval0;have hW':=hW;obtain⟨p,q,hA0,hV,rfl,hfz,hnd⟩:=hW;have hA:DataW.TrodAll enc Try.prog W 0 (fun _=>true) true Try.f5.params.toList args.toList ds p:=hA0;rw[Try.params5] at hA hval;obtain⟨v0,v1,d0,d1,p0,p1,rfl,rfl,rfl,h0,h1⟩:=trodAll_two hA;obtain⟨rfl,rfl⟩:=trodVars_none hV;obtain⟨a1,len1,cap1,hv1⟩:=okWide_slice Try.underlying28 (hval 1 28 v1 rfl rfl)
  have hlt:∀x∈p0++p1,x.block < W.heap.size:=fun x hx=>by simpa using hW'.lt x (by simpa using hx)
  obtain⟨fu0,hf0⟩:=id h0;obtain⟨fu1,hf1⟩:=id h1
  clear hA0 hval0
  obtain⟨e0,m0,w0,a_0,le0,sv0,lay0,cr0,zuS,ok0⟩:=zBe H enc W true _ _ _ hf0 _ _ (Lay.nil W);obtain⟨e1,m1,w1,a_1,le1,sv1,lay1,cr1,rep1,ok1⟩:=zBf H enc W true _ _ _ hf1 e0 m0 lay0;obtain⟨c0_0,c0_1,rfl,g0_0,g0_1⟩:=zuS
  obtain⟨cs0,hv0,cl0⟩:∃cs,v0=.agg cs/\v0.cells.toList=cs.toList:=by
    have hl:=cr0.length
    cases v0 with
    | agg cs=>exact⟨cs,rfl,rfl⟩
    | _=>exact absurd hl (by simp[Value.cells])
  subst hv0;subst hv1;obtain⟨c1,rfl,rep1⟩:=rep1
  have cv1:CR e1 c1 (.slice a1 len1 cap1):=by
    cases cr1 with
    | cons h _=>exact h
  have hargs:zeq (VR e1) [.agg 5 [c0_0,c0_1,.int .i64 a_0.Treaty.Lo,.int .i64 a_0.Treaty.Hi,.int .i64 a_0.Reserve],.c c1] [.agg cs0,.slice a1 len1 cap1]:=.cons ⟨cs0,rfl,(cr0.mono fun _ _=>CR.mono le1),rfl⟩ (.cons cv1 .nil);refine(callsIn_wide.1 (zqC fits htab (zwI (s:=a_0) (out:=a_1) lay1.pre (g0_0.subv sv1) (g0_1.subv sv1) rep1 (zA9 ok0 ok1) (Q:=fun v _=>v=.c (.bool true)) fun _ _=>rfl) lay1.hr (args':=#[.agg cs0,.slice a1 len1 cap1]) hargs 0)).mono fun en W' hp=>?_;obtain⟨v,v',e',m',rfl,hst,hvr,rfl⟩:=hp;have hv':v'=.bool true:=hvr;subst hv';have hbelow:=lay1.below hst
  refine⟨_,rfl,[d0,d1],[],p0++p1,[],p0++p1,[],by simpa using hW',trodAll_mk1 (shut_bool Try.underlying4 _),
    trodAll_mk2 (Below.trod zBg (by kernel_rfl) (of_decide_eq_true (by kernel_rfl)) h0 hbelow fun x hx=>hlt x (by simp[hx])) (Below.trod zBg (by kernel_rfl) (of_decide_eq_true (by kernel_rfl)) h1 hbelow fun x hx=>hlt x (by simp[hx])),rfl,lay1.kept hst _,fun hc=>by cases hc⟩
theorem CallBounds_holds:Rows.CallBoundsSaid:=
 OpenClaim.holds_of_wide 5 Try.f5 rfl rfl rfl rfl rfl rfl rfl ⟨rfl,rfl,rfl,rfl,rfl⟩ rfl rfl rfl rfl rfl (by kernel_rfl) Try.func5 (by kernel_rfl)
  (of_decide_eq_true (by kernel_rfl)) (by unfold Func.isWrapper; first | (rw[if_pos (by decide +kernel)]; kernel_rfl) | (rw[if_neg (by decide +kernel)]; exact⟨rfl,rfl⟩))
  (fun os started H enc _=>zBi os started H enc)
end Go.Proofs.Ytkclhciahokifaa

