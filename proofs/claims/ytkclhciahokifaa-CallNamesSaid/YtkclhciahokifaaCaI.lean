/- CallNames, for all that it can be called with, returns true. Condition: none. -/
import Derived.Test.YtkclhciahokifaaCaH
import GoSem.Step
import GoSem.ClaimKeys
import Derived.DeepKeys2
import Derived.RangeFuncLeaves
import Derived.OrdersIn
import Derived.Laws.World
import Derived.Laws.Sem
import Derived.RangeFuncRecord
import Derived.Laws.CopyRow
import Derived.Laws.Append
import Derived.Laws.Rows
import Derived.Laws.Slices
import Derived.Laws.Entries
import Derived.ChangeKeysEq
import Derived.IntWalk
import Derived.DeepKeys
import Derived.DeepKeys3
import Derived.Laws.StructEq
import Derived.MapKept
import Derived.Laws.AppendOwn
import Derived.ChangeArms
import Derived.ChangeOld
import Derived.Carry
import Derived.ChangeShapes
import Derived.KernelRfl
import Derived.ProofKit
import Derived.Test.YtkclhciahokifaaRows

namespace Go.Proofs.Ytkclhciahokifaa
open _root_.Go.Proofs.Try
open Go.Abs
set_option maxRecDepth 100000
noncomputable section
open Classical
theorem zwi{α:Type}:∀l:List α,∃ks:List α,ks.Nodup/\∀k,k∈ks↔k∈l
 | []=>⟨[],List.nodup_nil,fun _=>Iff.rfl⟩
 | a::l=>by
  obtain⟨ks,h1,h2⟩:=zwi l
  by_cases h:a∈ks
  ·refine⟨ks,h1,fun k=>?_⟩;rw[h2,List.mem_cons];exact⟨.inr,fun hk=>hk.elim (fun he=>by rw[he]; exact(h2 a).1 h) id⟩
  ·exact⟨a::ks,List.nodup_cons.2 ⟨h,h1⟩,fun k=>by rw[List.mem_cons,List.mem_cons,h2]⟩
def zwj:List Int->Int
 | []=>0
 | a::l=>a+zwj l
theorem zwk:∀a b:List Int,zwj (a++b)=zwj a+zwj b
 | [],b=>by show zwj b=0+_; omega
 | x::a,b=>by show x+zwj (a++b)=x+zwj a+zwj b; rw[zwk a b]; omega
theorem zwl(f g:Nat->Int):S5 (fun i=>f i+g i)=S5 f+S5 g:=by
 show f 0+g 0+(f 1+g 1)+(f 2+g 2)+(f 3+g 3)+(f 4+g 4)=f 0+f 1+f 2+f 3+f 4+(g 0+g 1+g 2+g 3+g 4)
 omega
theorem zwm:S5 (fun _=>0)=0:=rfl
theorem zwn{f g:Nat->Int}(h:∀i,i < 5->f i=g i):S5 f=S5 g:=by
 unfold S5; rw[h 0 (by omega),h 1 (by omega),h 2 (by omega),h 3 (by omega),h 4 (by omega)]
theorem zwo{K:Type}(g:K->Nat->Int):∀ks:List K,zwj (ks.map fun key=>S5 (g key))=S5 (fun k=>zwj (ks.map fun key=>g key k))
 | []=>rfl
 | a::ks=>by
  show S5 (g a)+zwj (ks.map fun key=>S5 (g key))=S5 (fun k=>g a k+zwj (ks.map fun key=>g key k))
  rw[zwo g ks,zwl]
theorem zwp{K:Type}(x:K)(v:Int):∀ks:List K,ks.Nodup->zwj (ks.map fun key=>if x=key then v else 0)=if x∈ks then v else 0
 | [],_=>by rw[if_neg (by simp)]; rfl
 | a::ks,h=>by
  obtain⟨h1,h2⟩:=List.nodup_cons.1 h
  show(if x=a then v else 0)+zwj (ks.map fun key=>if x=key then v else 0)=_
  rw[zwp x v ks h2]
  by_cases hx:x=a
  ·subst hx; rw[if_pos rfl,if_neg h1,if_pos (List.mem_cons_self ..)]; omega
  ·rw[if_neg hx]
   by_cases h3:x∈ks
   ·rw[if_pos h3,if_pos (List.mem_cons_of_mem _ h3)]; omega
   ·rw[if_neg h3,if_neg (by rw[List.mem_cons]; exact fun hc=>hc.elim hx h3)]; omega
def cnt(sh:Nat->Sh)(j:Nat)(key:Sh):Int:=part (fun k=>if sh k=key then 1 else 0) j
theorem zwq(sh:Nat->Sh)(key:Sh):∀j,0<=cnt sh j key/\cnt sh j key<=j
 | 0=>⟨Int.le_refl _,Int.le_refl _⟩
 | j+1=>by
  have:=zwq sh key j
  show 0<=cnt sh j key+(if sh j=key then 1 else 0)/\cnt sh j key+(if sh j=key then 1 else 0)<=_
  split <;> omega
theorem zwr(sh:Nat->Sh)(key:Sh):∀j,cnt sh j key ≠ 0↔∃k,k < j/\sh k=key
 | 0=>⟨fun h=>absurd rfl h,fun⟨k,h,_⟩=>by omega⟩
 | j+1=>by
  have h1:=zwq sh key j;have ih:=zwr sh key j
  show cnt sh j key+(if sh j=key then 1 else 0) ≠ 0↔_
  by_cases h:sh j=key
  ·rw[if_pos h]; exact⟨fun _=>⟨j,by omega,h⟩,fun _=>by omega⟩
  ·rw[if_neg h,show cnt sh j key+0=cnt sh j key by omega,ih]
   exact⟨fun⟨k,hk,he⟩=>⟨k,by omega,he⟩,fun⟨k,hk,he⟩=>⟨k,by rcases Nat.lt_succ_iff_lt_or_eq.1 hk with h2 | h2; exact h2; exact absurd (h2 ▸ he) h,he⟩⟩
def hM(sh:Nat->Sh)(j:Nat):Option (Sh->Option Int):=some fun key=>if cnt sh j key=0 then none else some (cnt sh j key)
theorem zws(sh:Nat->Sh)(j:Nat)(key:Sh):zqI (hM sh j) key=if cnt sh j key=0 then none else some (cnt sh j key):=rfl
theorem zwt(sh:Nat->Sh):hM sh 0=some fun _=>none:=rfl
theorem zwu(sh:Nat->Sh)(j:Nat):zqJ (hM sh j) (sh j) (cnt sh j (sh j)+1)=some (hM sh (j+1)):=by
 show some (some _)=some (some _)
 congr 2
 funext key
 have hc:cnt sh (j+1) key=cnt sh j key+if sh j=key then 1 else 0:=rfl;have hb:=zwq sh key j
 show(if key=sh j then some (cnt sh j (sh j)+1) else if cnt sh j key=0 then none else some (cnt sh j key))=if cnt sh (j+1) key=0 then none else some (cnt sh (j+1) key)
 rw[hc]
 by_cases h:key=sh j
 ·subst h; rw[if_pos rfl,if_pos rfl,if_neg (by omega)]
 ·rw[if_neg h];have h3:¬ sh j=key:=fun h'=>h h'.symm
  simp only[if_neg h3,Int.add_zero]
def gtN(r:Nat->Int)(x:Int):Int:=S5 fun k=>if x < r k then 1 else 0
def eqN(r:Nat->Int)(x:Int)(i:Nat):Int:=part (fun k=>if r k=x then 1 else 0) i
def zwv(r:Nat->Int)(i:Nat):Int:=gtN r (r i)+eqN r (r i) i
theorem zww(r:Nat->Int)(x:Int):0<=gtN r x/\gtN r x<=5:=by
 have h:∀k,0<=(if x < r k then (1:Int) else 0)/\(if x < r k then (1:Int) else 0)<=1:=fun k=>by split <;> omega
 have:=h 0; have:=h 1; have:=h 2; have:=h 3; have:=h 4
 show 0<=(if x < r 0 then (1:Int) else 0)+(if x < r 1 then (1:Int) else 0)+(if x < r 2 then (1:Int) else 0)+(if x < r 3 then (1:Int) else 0)+(if x < r 4 then (1:Int) else 0)/\_<=(5:Int)
 unfold gtN S5
 dsimp only
 omega
theorem zwx(r:Nat->Int)(x:Int):∀i,0<=eqN r x i/\eqN r x i<=i
 | 0=>⟨Int.le_refl _,Int.le_refl _⟩
 | i+1=>by
  have:=zwx r x i
  show 0<=eqN r x i+(if r i=x then 1 else 0)/\eqN r x i+(if r i=x then 1 else 0)<=_
  split <;> omega
def dv(sh:Nat->Sh):Dv:={ s0:=sh 0,s1:=sh 1,s2:=sh 2,s3:=sh 3,s4:=sh 4,having:=hM sh 5 }
def wK(sh:Nat->Sh)(x:Int)(key:Sh):Int:=if x < key.remainder then cnt sh 5 key else 0
theorem zwy(sh:Nat->Sh)(i:Nat)(hi:i < 5)(acc:Int)(ha:0<=acc/\acc<=5):zs8 (dv sh) (i:Int) (sh i) (Int.toNat (((([(dv sh).s0,(dv sh).s1,(dv sh).s2,(dv sh).s3,(dv sh).s4]:List Sh).take (Int.toNat (i:Int))).drop (Int.toNat (0:Int))).length:Int)+1) acc (0:Int)=some (acc+eqN (fun k=>(sh k).remainder) (sh i).remainder i):=by
 have hl:((([(dv sh).s0,(dv sh).s1,(dv sh).s2,(dv sh).s3,(dv sh).s4]:List Sh).take (Int.toNat (i:Int))).drop (Int.toNat (0:Int)))=(l5 sh).take i:=rfl
 have hlen:((l5 sh).take i).length=i:=by rw[List.length_take]; show min i 5=i; omega
 rw[hl,hlen,show Int.toNat (i:Int)+1=i+1 from rfl];have key:=zv2 (n:=i) (fun d s x=>zs8 (dv sh) (i:Int) (sh i) d s x) (fun k=>acc+eqN (fun k=>(sh k).remainder) (sh i).remainder k) (fin:=some (acc+eqN (fun k=>(sh k).remainder) (sh i).remainder i)) (fun d k hk=>?_) (fun d=>?_) (i+1) 0 (by omega) (by omega)
 ·have e:acc+eqN (fun k=>(sh k).remainder) (sh i).remainder 0=acc:=by show acc+0=acc; omega
  rw[e] at key; exact key
 ·have hb:=zwx (fun k=>(sh k).remainder) (sh i).remainder k;have hs:eqN (fun k=>(sh k).remainder) (sh i).remainder (k+1)=eqN (fun k=>(sh k).remainder) (sh i).remainder k+if (sh k).remainder=(sh i).remainder then 1 else 0:=rfl
  show zs8 (dv sh) (i:Int) (sh i) (d+1) _ _=_
  rw[zs8,hl,hlen,if_pos (by omega),zrF (show((l5 sh).take i)[k]? = some (sh k) by rw[List.getElem?_take,if_pos hk]; exact zv3 (by omega)),obs]
  by_cases h:(sh k).remainder=(sh i).remainder
  ·rw[if_pos h,zqr (fI (by omega)),zqr (fI (by omega)),hs,if_pos h,Int.add_assoc]
  ·rw[if_neg h,zqr (fI (by omega)),hs,if_neg h,Int.add_zero]
 ·show zs8 (dv sh) (i:Int) (sh i) (d+1) _ _=_
  rw[zs8,hl,hlen,if_neg (by omega)]
theorem zwz(sh:Nat->Sh)(i:Nat)(hi:i < 5){T:Int}(hT:T<=5):∀(d:Nat) (rem:List Sh) (acc:Int),rem.length < d->(∀a∈rem,zqI (hM sh 5) a=some (cnt sh 5 a))->0<=acc->acc+zwj (rem.map (wK sh (sh i).remainder))=T ->
  pbefore_L0 (dv sh) (i:Int) (sh i) d acc rem=some (T+eqN (fun k=>(sh k).remainder) (sh i).remainder i)
 | 0,_,_,h,_,_,_=>by omega
 | d+1,rem,acc,h,hm,h0,hs=>by
  have hw:∀key,0<=wK sh (sh i).remainder key:=fun key=>by unfold wK; have:=zwq sh key 5; split <;> omega
  have hsum:∀l:List Sh,0<=zwj (l.map (wK sh (sh i).remainder)):=fun l=>by
   induction l with
   | nil=>exact Int.le_refl _
   | cons a l ih=>have:=hw a; show 0<=wK sh _ a+zwj (l.map _); omega
  unfold pbefore_L0;refine zrq (fun l1 a l2 hr=>?_) fun hr=>?_
  ·subst hr;have hc:=zwq sh a 5
   have hsp:zwj ((l1++a::l2).map (wK sh (sh i).remainder))=wK sh (sh i).remainder a+zwj ((l1++l2).map (wK sh (sh i).remainder)):=by
    rw[List.map_append,List.map_cons,zwk,List.map_append,zwk]
    show _+(wK sh _ a+_)=_; omega
   have hlen:(l1++l2).length < d:=by simp only[List.length_append,List.length_cons] at h ⊢; omega
   have hm':∀x∈l1++l2,zqI (hM sh 5) x=some (cnt sh 5 x):=fun x hx=>hm x (by
    rcases List.mem_append.1 hx with h | h
    ·exact List.mem_append_left _ h
    ·exact List.mem_append_right _ (List.mem_cons_of_mem _ h))
   have h2:=hsum (l1++l2);rw[show zqI (dv sh).having a=some (cnt sh 5 a) from hm a (by simp),obs]
   by_cases ha:(sh i).remainder < a.remainder
   ·have hwa:wK sh (sh i).remainder a=cnt sh 5 a:=if_pos ha;rw[if_pos ha,zqr (fI (by omega))];exact zwz sh i hi hT d _ _ hlen hm' (by omega) (by omega)
   ·have hwa:wK sh (sh i).remainder a=0:=if_neg ha;rw[if_neg ha];exact zwz sh i hi hT d _ _ hlen hm' h0 (by omega)
  ·subst hr
   have:acc=T:=by rw[<- hs]; show acc=acc+0; omega
   subst this;rw[zqr (by omega)];exact zwy sh i hi acc ⟨h0,hT⟩
theorem zwA{sh:Nat->Sh}(hf:∀k,k < 5->MK.fit (sh k)){i:Nat}(hi:i < 5):zs9 (dv sh) (i:Int)=some (zwv (fun k=>(sh k).remainder) i):=by
 unfold zs9
 show(idx (l5 sh) (i:Int)).bind _=_
 rw[zv4 hi,obs]
 have hmem:∀key,(MK.fit key/\zqI (hM sh 5) key ≠ none)↔∃k,k < 5/\sh k=key:=fun key=>by
  rw[zws,<- zwr]
  by_cases h:cnt sh 5 key=0
  ·rw[if_pos h]; exact⟨fun h'=>absurd rfl h'.2,fun h'=>absurd h h'⟩
  ·rw[if_neg h];refine⟨fun _=>h,fun _=>⟨?_,Option.some_ne_none _⟩⟩;obtain⟨k,h1,rfl⟩:=(zwr sh key 5).1 h;exact hf k h1
 obtain⟨ks0,h1,h2⟩:=zwi (l5 sh)
 have hl5:∀key,key∈l5 sh↔∃k,k < 5/\sh k=key:=fun key=>by
  constructor
  ·intro h;obtain⟨k,hk⟩:=List.mem_iff_getElem?.1 h;have hk5:k < 5:=(List.getElem?_eq_some_iff.1 hk).1;rw[zv3 hk5] at hk;exact⟨k,hk5,oi hk⟩
  ·rintro⟨k,hk,rfl⟩; exact List.mem_of_getElem? (zv3 hk)
 refine zrm (ks0:=ks0) ⟨h1,fun k=>by rw[h2,hl5]; exact(hmem k).symm⟩ fun ks hk=>?_
 have hT:zwj (ks.map (wK sh (sh i).remainder))=gtN (fun k=>(sh k).remainder) (sh i).remainder:=by
  have e1:∀key,wK sh (sh i).remainder key=S5 (fun k=>if sh k=key then (if (sh i).remainder < (sh k).remainder then 1 else 0) else 0):=fun key=>by
   unfold wK cnt;rw[zv9]
   by_cases h:(sh i).remainder < key.remainder
   ·rw[if_pos h]
    exact zwn fun k _=>by
     by_cases hk:sh k=key
     ·rw[if_pos hk,if_pos hk,hk,if_pos h]
     ·rw[if_neg hk,if_neg hk]
   ·rw[if_neg h]
    have:S5 (fun k=>if sh k=key then (if (sh i).remainder < (sh k).remainder then 1 else 0) else 0)=S5 fun _=>0:=zwn fun k _=>by
     by_cases hk:sh k=key
     ·rw[if_pos hk,hk,if_neg h]
     ·rw[if_neg hk]
    rw[this]; rfl
  have e2:ks.map (wK sh (sh i).remainder)=ks.map fun key=>S5 (fun k=>if sh k=key then (if (sh i).remainder < (sh k).remainder then 1 else 0) else 0):=List.map_congr_left fun key _=>e1 key;rw[e2,zwo (fun key k=>if sh k=key then (if (sh i).remainder < (sh k).remainder then (1:Int) else 0) else 0)];unfold gtN
  exact zwn fun k hk5=>by
   rw[zwp _ _ ks hk.1,if_pos ((hk.2 (sh k)).2 ((hmem (sh k)).2 ⟨k,hk5,rfl⟩))]
 have hg:=zww (fun k=>(sh k).remainder) (sh i).remainder
 exact zwz sh i hi hg.2 _ ks 0 (by omega) (fun a ha=>by
  have:=((hk.2 a).1 ha).2;rw[show(dv sh).having=hM sh 5 from rfl,zws] at this;rw[zws]
  by_cases h:cnt sh 5 a=0
  ·rw[if_pos h] at this; exact absurd rfl this
  ·rw[if_neg h]) (Int.le_refl _) (by rw[hT]; omega)
end
end Go.Proofs.Ytkclhciahokifaa

namespace Go.Proofs.Ytkclhciahokifaa
open _root_.Go.Proofs.Try
open Go.Abs
set_option maxRecDepth 100000
noncomputable section
theorem zwB{a x s:Int}(hx:0<=x)(hxs:x<=s)(hs:0 < s)(ha:0<=a):0<=a * x / s/\a * x / s<=a:=by
 constructor
 ·exact Int.ediv_nonneg (Int.mul_nonneg ha hx) (Int.le_of_lt hs)
 ·have h1:a * x<=a * s:=Int.mul_le_mul_of_nonneg_left hxs ha;have h2:=Int.ediv_le_ediv hs h1
  rwa [Int.mul_ediv_cancel _ (by omega)] at h2
theorem zwC{a x A X:Int}(ha:0<=a/\a<=A)(hx:0<=x/\x<=X):0<=a * x/\a * x<=A * X:=by
 refine⟨Int.mul_nonneg ha.1 hx.1,?_⟩;have h1:a * x<=A * x:=Int.mul_le_mul_of_nonneg_right ha.2 hx.1;have h2:A * x<=A * X:=Int.mul_le_mul_of_nonneg_left hx.2 (by omega)
 omega
structure UOk (u:Nat->Int):Prop where
 bd:∀i,i < 5->0<=u i/\u i<=100000
 pos:0 < S5 u
theorem UOk.le{u:Nat->Int}(h:UOk u){i:Nat}(hi:i < 5):u i<=S5 u/\S5 u<=500000:=by
 have h0:=h.bd 0 (by omega); have h1:=h.bd 1 (by omega); have h2:=h.bd 2 (by omega); have h3:=h.bd 3 (by omega); have h4:=h.bd 4 (by omega);unfold S5
 match i,hi with
 | 0,_=>omega
 | 1,_=>omega
 | 2,_=>omega
 | 3,_=>omega
 | 4,_=>omega
def qN(N:Int)(u:Nat->Int)(k:Nat):Int:=N * u k / S5 u
def rN(N:Int)(u:Nat->Int)(k:Nat):Int:=N * u k % S5 u
def shN(N:Int)(u:Nat->Int)(k:Nat):Sh:={ pence:=qN N u k,remainder:=rN N u k }
def zwD(N:Int)(u:Nat->Int)(k:Nat):Int:=qN N u k+if zwv (rN N u) k < N - S5 (qN N u) then 1 else 0
section
variable {N:Int} {u:Nat->Int}
theorem zwE(hu:UOk u)(hN:0<=N){k:Nat}(hk:k < 5):0<=qN N u k/\qN N u k<=N:=zwB (hu.bd k hk).1 (hu.le hk).1 hu.pos hN
theorem zwF(hu:UOk u)(k:Nat):0<=rN N u k/\rN N u k < S5 u:=⟨Int.emod_nonneg _ (by have:=hu.pos; omega),Int.emod_lt_of_pos _ hu.pos⟩
theorem zwG(hu:UOk u)(hN:0<=N/\N<=1000000){k:Nat}(hk:k < 5):MK.fit (shN N u k):=by
 have h1:=zwE hu hN.1 hk;have h2:=zwF (N:=N) hu k;have h3:=(hu.le hk).2;exact⟨fI (show _/\_ by show -9223372036854775808<=qN N u k/\qN N u k < _; omega),fI (show _/\_ by show -9223372036854775808<=rN N u k/\rN N u k < _; omega),trivial⟩
theorem zwH(hu:UOk u)(hN:0<=N/\N<=1000000):ztc N (mk5 u)=some (mk5 (zwD N u)):=by
 have hbu:Bd 1000000000000 u:=fun i hi=>by have:=hu.bd i hi; omega
 have hbq:Bd 1000000000000 (qN N u):=fun i hi=>by have:=zwE hu hN.1 hi; omega
 have hU:=hu.pos;have hU2:=(hu.le (i:=0) (by omega)).2;have hq0:=zwE hu hN.1 (k:=0) (by omega); have hq1:=zwE hu hN.1 (k:=1) (by omega); have hq2:=zwE hu hN.1 (k:=2) (by omega); have hq3:=zwE hu hN.1 (k:=3) (by omega); have hq4:=zwE hu hN.1 (k:=4) (by omega)
 have hsq:0<=S5 (qN N u)/\S5 (qN N u)<=5000000:=by unfold S5; omega
 -- the second loop
 have second:zta N (shN N u 0).pence (shN N u 0).remainder (shN N u 1).pence (shN N u 1).remainder (shN N u 2).pence (shN N u 2).remainder (shN N u 3).pence (shN N u 3).remainder (shN N u 4).pence (shN N u 4).remainder (hM (shN N u) 5) (S5 (qN N u)) (Int.toNat (5:Int)+1) (qN N u 0) (qN N u 1) (qN N u 2) (qN N u 3) (qN N u 4) (0:Int)=some (mk5 (zwD N u)):=by
  have key:=zv2 (n:=5) (fun d s x=>zta N (shN N u 0).pence (shN N u 0).remainder (shN N u 1).pence (shN N u 1).remainder (shN N u 2).pence (shN N u 2).remainder (shN N u 3).pence (shN N u 3).remainder (shN N u 4).pence (shN N u 4).remainder (hM (shN N u) 5) (S5 (qN N u)) d (s 0) (s 1) (s 2) (s 3) (s 4) x) (stF (zwD N u) (qN N u)) (fin:=some (mk5 (zwD N u))) (fun d k hk=>?_) (fun d=>?_) 6 0 (by omega) (by omega)
  ·rw[zv6] at key; exact key
  ·have hb:zs9 (dv (shN N u)) (k:Int)=some (zwv (rN N u) k):=zwA (fun k hk=>zwG hu hN hk) hk;have hq:=zwE hu hN.1 hk;have e:=zv8 (zwD N u) (qN N u) k
   show zta _ _ _ _ _ _ _ _ _ _ _ _ _ (d+1) _ _ _ _ _ _=_
   rw[zta,if_pos (by omega)]
   show(zs9 (dv (shN N u)) (k:Int)).bind _=_
   rw[hb,obs]
   by_cases h:zwv (rN N u) k < N - S5 (qN N u)
   ·rw[if_pos h]
    show(idx (l5 (stF (zwD N u) (qN N u) k)) (k:Int)).bind _=_
    have ep:qN N u k+1=zwD N u k:=by unfold zwD; rw[if_pos h]
    rw[zv4 hk,obs,zv7,zqr (fI (by omega)),zqr (by omega),zqr (fI (by omega)),ep,e 0,e 1,e 2,e 3,e 4]
   ·rw[if_neg h,zqr (fI (by omega))]
    have ep:qN N u k=zwD N u k:=by unfold zwD; rw[if_neg h,Int.add_zero]
    have e1:∀j,stF (zwD N u) (qN N u) k j=stF (zwD N u) (qN N u) (k+1) j:=fun j=>by
     unfold stF
     by_cases h:j=k
     ·subst h; rw[if_neg (by omega),if_pos (by omega)]; exact ep
     ·by_cases h2:j < k
      ·rw[if_pos h2,if_pos (by omega)]
      ·rw[if_neg h2,if_neg (by omega)]
    rw[e1 0,e1 1,e1 2,e1 3,e1 4]
  ·show zta _ _ _ _ _ _ _ _ _ _ _ _ _ (d+1) _ _ _ _ _ _=_
   rw[zta,if_neg (by omega)]; rfl
 unfold ztc;rw[zwb hbu,obs];have key:=zv2 (n:=5) (fun d (s:(Nat->Int) × (Nat->Sh) × Option (Sh->Option Int)) x=>ztb N (mk5 u) (S5 u) d (s.1 0) (s.1 1) (s.1 2) (s.1 3) (s.1 4) (s.2.1 0).pence (s.2.1 0).remainder (s.2.1 1).pence (s.2.1 1).remainder (s.2.1 2).pence (s.2.1 2).remainder (s.2.1 3).pence (s.2.1 3).remainder (s.2.1 4).pence (s.2.1 4).remainder s.2.2 x) (fun k=>(stF (qN N u) (fun _=>0) k,stF (shN N u) (fun _=>⟨0,0⟩) k,hM (shN N u) k)) (fin:=some (mk5 (zwD N u))) (fun d k hk=>?_) (fun d=>?_) 6 0 (by omega) (by omega)
 ·rw[zv6,zv6,zwt] at key; exact key
 ·have hq:=zwE hu hN.1 hk;have hr:=zwF (N:=N) hu k;have huk:=hu.bd k hk;have hm:=zwC (a:=N) (x:=u k) ⟨hN.1,hN.2⟩ huk;have hc:=zwq (shN N u) (shN N u k) k;have hset:=zwu (shN N u) k
  have fin:∀M',M'=hM (shN N u) (k+1)->ztb N (mk5 u) (S5 u) d (sti (k:Int) 0 (qN N u k) (stF (qN N u) (fun _=>0) k 0)) (sti (k:Int) 1 (qN N u k) (stF (qN N u) (fun _=>0) k 1)) (sti (k:Int) 2 (qN N u k) (stF (qN N u) (fun _=>0) k 2)) (sti (k:Int) 3 (qN N u k) (stF (qN N u) (fun _=>0) k 3)) (sti (k:Int) 4 (qN N u k) (stF (qN N u) (fun _=>0) k 4)) (sti (k:Int) 0 (shN N u k) (stF (shN N u) (fun _=>⟨0,0⟩) k 0)).pence (sti (k:Int) 0 (shN N u k) (stF (shN N u) (fun _=>⟨0,0⟩) k 0)).remainder (sti (k:Int) 1 (shN N u k) (stF (shN N u) (fun _=>⟨0,0⟩) k 1)).pence (sti (k:Int) 1 (shN N u k) (stF (shN N u) (fun _=>⟨0,0⟩) k 1)).remainder (sti (k:Int) 2 (shN N u k) (stF (shN N u) (fun _=>⟨0,0⟩) k 2)).pence (sti (k:Int) 2 (shN N u k) (stF (shN N u) (fun _=>⟨0,0⟩) k 2)).remainder (sti (k:Int) 3 (shN N u k) (stF (shN N u) (fun _=>⟨0,0⟩) k 3)).pence (sti (k:Int) 3 (shN N u k) (stF (shN N u) (fun _=>⟨0,0⟩) k 3)).remainder (sti (k:Int) 4 (shN N u k) (stF (shN N u) (fun _=>⟨0,0⟩) k 4)).pence (sti (k:Int) 4 (shN N u k) (stF (shN N u) (fun _=>⟨0,0⟩) k 4)).remainder M' ((k:Int)+1)=ztb N (mk5 u) (S5 u) d (stF (qN N u) (fun _=>0) (k+1) 0) (stF (qN N u) (fun _=>0) (k+1) 1) (stF (qN N u) (fun _=>0) (k+1) 2) (stF (qN N u) (fun _=>0) (k+1) 3) (stF (qN N u) (fun _=>0) (k+1) 4) (stF (shN N u) (fun _=>⟨0,0⟩) (k+1) 0).pence (stF (shN N u) (fun _=>⟨0,0⟩) (k+1) 0).remainder (stF (shN N u) (fun _=>⟨0,0⟩) (k+1) 1).pence (stF (shN N u) (fun _=>⟨0,0⟩) (k+1) 1).remainder (stF (shN N u) (fun _=>⟨0,0⟩) (k+1) 2).pence (stF (shN N u) (fun _=>⟨0,0⟩) (k+1) 2).remainder (stF (shN N u) (fun _=>⟨0,0⟩) (k+1) 3).pence (stF (shN N u) (fun _=>⟨0,0⟩) (k+1) 3).remainder (stF (shN N u) (fun _=>⟨0,0⟩) (k+1) 4).pence (stF (shN N u) (fun _=>⟨0,0⟩) (k+1) 4).remainder (hM (shN N u) (k+1)) ((k:Int)+1):=by
   intro M' hM';subst hM';have e:=zv8 (qN N u) (fun _=>0) k;have e':=zv8 (shN N u) (fun _=>(⟨0,0⟩:Sh)) k;rw[e 0,e 1,e 2,e 3,e 4,e' 0,e' 1,e' 2,e' 3,e' 4]
  show ztb _ _ _ (d+1) _ _ _ _ _ _ _ _ _ _ _ _ _ _ _ _ _=_
  rw[ztb,if_pos (by omega)]
  show(idx (l5 u) (k:Int)).bind _=_
  have hqf:zl6 .i64 (N * u k / S5 u):=fI (by unfold qN at hq; omega);have hrf:zl6 .i64 (N * u k % S5 u):=fI (by unfold rN at hr; omega);have hfit:MK.fit ({ pence:=N * u k / S5 u,remainder:=N * u k % S5 u }:Sh):=zwG hu hN hk;rw[zv4 hk,obs,zqr hN.1,zqr huk.1,zqr (fI (by omega)),zqr hm.1,zqr hU,zqr hqf,zqr hN.1,zqr huk.1,zqr (fI (by omega)),zqr hm.1,zqr hU,zqr hrf,zqr (by omega),zqr hfit]
  show zqP (zqI (hM (shN N u) k) (shN N u k)) _ _=_
  by_cases h0:cnt (shN N u) k (shN N u k)=0
  ·rw[zqQ (by rw[zws,if_pos h0]),zqr (fI (by omega)),zqr hfit];rw[h0] at hset;rw[show zqJ (hM (shN N u) k) ({ pence:=N * u k / S5 u,remainder:=N * u k % S5 u }:Sh) 1=some (hM (shN N u) (k+1)) from hset,obs,zqr (by omega),zqr (fI (by omega))];exact fin _ rfl
  ·rw[zqR (show zqI (hM (shN N u) k) (shN N u k)=some (cnt (shN N u) k (shN N u k)) by rw[zws,if_neg h0]),zqr (fI (by omega)),zqr hfit];rw[show zqJ (hM (shN N u) k) ({ pence:=N * u k / S5 u,remainder:=N * u k % S5 u }:Sh) (cnt (shN N u) k (shN N u k)+1)=some (hM (shN N u) (k+1)) from hset,obs,zqr (by omega),zqr (fI (by omega))];exact fin _ rfl
 ·show ztb _ _ _ (d+1) _ _ _ _ _ _ _ _ _ _ _ _ _ _ _ _ _=_
  rw[ztb,if_neg (by omega)]
  show(zs3 (mk5 (qN N u))).bind _=_
  rw[zwb hbq,obs,zqr (fI (by omega))];exact second
end
end
end Go.Proofs.Ytkclhciahokifaa

namespace Go.Proofs.Ytkclhciahokifaa
open _root_.Go.Proofs.Try
open Go.Abs
set_option maxRecDepth 100000
noncomputable section
def bfc(r:Nat->Int)(k i:Nat):Int:=if r i < r k then 1 else if r k=r i/\k < i then 1 else 0
theorem zwI(f:Nat->Int){i:Nat}(hi:i<=5):part f i=S5 fun k=>if k < i then f k else 0:=by
 match i,hi with
 | 0,_=>show(0:Int)=0+0+0+0+0; omega
 | 1,_=>show 0+f 0=f 0+0+0+0+0; omega
 | 2,_=>show 0+f 0+f 1=f 0+f 1+0+0+0; omega
 | 3,_=>show 0+f 0+f 1+f 2=f 0+f 1+f 2+0+0; omega
 | 4,_=>show 0+f 0+f 1+f 2+f 3=f 0+f 1+f 2+f 3+0; omega
 | 5,_=>show 0+f 0+f 1+f 2+f 3+f 4=f 0+f 1+f 2+f 3+f 4; omega
theorem zwJ(r:Nat->Int){i:Nat}(hi:i < 5):zwv r i=S5 fun k=>bfc r k i:=by
 unfold zwv gtN eqN;rw[zwI _ (by omega),<- zwl];refine zwn fun k _=>?_;unfold bfc
 by_cases h1:r i < r k
 ·rw[if_pos h1,if_pos h1,if_neg (show ¬ r k=r i by omega)]
  by_cases h2:k < i
  ·rw[if_pos h2]; rfl
  ·rw[if_neg h2]; rfl
 ·rw[if_neg h1,if_neg h1]
  by_cases h2:k < i
  ·rw[if_pos h2]
   by_cases h3:r k=r i
   ·rw[if_pos h3,if_pos ⟨h3,h2⟩]; rfl
   ·rw[if_neg h3,if_neg fun h=>h3 h.1]; rfl
  ·rw[if_neg h2,if_neg fun h=>h2 h.2]; rfl
theorem zwK{f g:Nat->Int}(h:∀i,i < 5->f i<=g i):S5 f<=S5 g:=by
 have:=h 0 (by omega); have:=h 1 (by omega); have:=h 2 (by omega); have:=h 3 (by omega); have:=h 4 (by omega);unfold S5; omega
theorem zwL{f g:Nat->Int}(h:∀i,i < 5->f i<=g i){k:Nat}(hk:k < 5)(hlt:f k < g k):S5 f < S5 g:=by
 have:=h 0 (by omega); have:=h 1 (by omega); have:=h 2 (by omega); have:=h 3 (by omega); have:=h 4 (by omega);unfold S5
 match k,hk with
 | 0,_=>omega
 | 1,_=>omega
 | 2,_=>omega
 | 3,_=>omega
 | 4,_=>omega
theorem zwM(r:Nat->Int)(k i:Nat):0<=bfc r k i/\bfc r k i<=1:=by unfold bfc; split <;> (try split) <;> omega
theorem zwN{r:Nat->Int}{k i:Nat}:bfc r k i=1↔r i < r k\/(r k=r i/\k < i):=by
 unfold bfc
 by_cases h1:r i < r k
 ·rw[if_pos h1]; exact⟨fun _=>.inl h1,fun _=>rfl⟩
 ·rw[if_neg h1]
  by_cases h2:r k=r i/\k < i
  ·rw[if_pos h2]; exact⟨fun _=>.inr h2,fun _=>rfl⟩
  ·rw[if_neg h2]; exact⟨fun h=>by omega,fun h=>h.elim (fun h=>absurd h h1) fun h=>absurd h h2⟩
theorem zj9{r:Nat->Int}{k i:Nat}(hk:k < 5)(hi:i < 5)(h:r i < r k\/(r k=r i/\k < i)):zwv r k < zwv r i:=by
 rw[zwJ r hk,zwJ r hi];refine zwL (fun j _=>?_) hk ?_
 ·have h1:=zwM r j k; have h2:=zwM r j i
  by_cases hj:bfc r j k=1
  ·have:=zwN.1 hj;have:bfc r j i=1:=zwN.2 (by omega)
   omega
  ·omega
 ·have h1:bfc r k i=1:=zwN.2 h
  have h2:¬ bfc r k k=1:=fun h=>by have:=zwN.1 h; omega
  have h3:=zwM r k k
  omega
theorem zwO{r:Nat->Int}{k i:Nat}(hk:k < 5)(hi:i < 5)(h:k ≠ i):zwv r k ≠ zwv r i:=by
 by_cases h1:r i < r k\/(r k=r i/\k < i)
 ·have:=zj9 hk hi h1; omega
 ·have:=zj9 hi hk (r:=r) (by omega); omega
theorem zwP(r:Nat->Int){i:Nat}(hi:i < 5):0<=zwv r i/\zwv r i<=4:=by
 have h0:=zwM r 0 i; have h1:=zwM r 1 i; have h2:=zwM r 2 i; have h3:=zwM r 3 i; have h4:=zwM r 4 i
 have hii:bfc r i i=0:=by
  have:=zwM r i i
  have:¬ bfc r i i=1:=fun h=>by have:=zwN.1 h; omega
  omega
 rw[zwJ r hi];unfold S5
 dsimp only
 match i,hi with
 | 0,_=>omega
 | 1,_=>omega
 | 2,_=>omega
 | 3,_=>omega
 | 4,_=>omega
theorem zwQ:∀a b:Fin 5,a ≠ b->∀c:Fin 5,a ≠ c->b ≠ c->∀d:Fin 5,a ≠ d->b ≠ d->c ≠ d->∀e:Fin 5,a ≠ e->b ≠ e->c ≠ e->d ≠ e->∀L:Fin 6,
  (if a.val < L.val then 1 else 0)+(if b.val < L.val then 1 else 0)+(if c.val < L.val then 1 else 0)+(if d.val < L.val then 1 else 0)+(if e.val < L.val then 1 else 0)=L.val:=by decide +kernel
theorem zwR(r:Nat->Int){L:Int}(hL:0<=L/\L<=5):S5 (fun i=>if zwv r i < L then 1 else 0)=L:=by
 have b:∀i,i < 5->0<=zwv r i/\zwv r i<=4:=fun i hi=>zwP r hi;have b0:=b 0 (by omega); have b1:=b 1 (by omega); have b2:=b 2 (by omega); have b3:=b 3 (by omega); have b4:=b 4 (by omega)
 have ne:∀i j (hi:i < 5) (hj:j < 5),i ≠ j->(⟨(zwv r i).toNat,by have:=b i hi; omega⟩:Fin 5) ≠ ⟨(zwv r j).toNat,by have:=b j hj; omega⟩:=fun i j hi hj hij h=>by
  have h1:=Fin.mk.inj h;have:=zwO (r:=r) hi hj hij;have:=b i hi; have:=b j hj
  omega
 have key:=zwQ ⟨(zwv r 0).toNat,by omega⟩ ⟨(zwv r 1).toNat,by omega⟩ (ne 0 1 (by omega) (by omega) (by omega)) ⟨(zwv r 2).toNat,by omega⟩ (ne 0 2 (by omega) (by omega) (by omega)) (ne 1 2 (by omega) (by omega) (by omega)) ⟨(zwv r 3).toNat,by omega⟩ (ne 0 3 (by omega) (by omega) (by omega)) (ne 1 3 (by omega) (by omega) (by omega)) (ne 2 3 (by omega) (by omega) (by omega)) ⟨(zwv r 4).toNat,by omega⟩ (ne 0 4 (by omega) (by omega) (by omega)) (ne 1 4 (by omega) (by omega) (by omega)) (ne 2 4 (by omega) (by omega) (by omega)) (ne 3 4 (by omega) (by omega) (by omega)) ⟨L.toNat,by omega⟩
 dsimp only at key
 have e:∀i,i < 5->(if zwv r i < L then (1:Int) else 0)=((if (zwv r i).toNat < L.toNat then 1 else 0:Nat):Int):=fun i hi=>by
  have:=b i hi
  by_cases h:zwv r i < L
  ·rw[if_pos h,if_pos (by omega)]; rfl
  ·rw[if_neg h,if_neg (by omega)]; rfl
 unfold S5
 dsimp only
 rw[e 0 (by omega),e 1 (by omega),e 2 (by omega),e 3 (by omega),e 4 (by omega)]
 omega
section
variable {N:Int} {u:Nat->Int}
theorem zwS(N:Int)(u:Nat->Int):S5 u * (N - S5 (qN N u))=S5 (rN N u):=by
 have h:∀k,rN N u k+S5 u * qN N u k=N * u k:=fun k=>Int.emod_add_mul_ediv (N * u k) (S5 u);have h0:=h 0; have h1:=h 1; have h2:=h 2; have h3:=h 3; have h4:=h 4
 have e1:S5 u * N=N * u 0+N * u 1+N * u 2+N * u 3+N * u 4:=by
  rw[Int.mul_comm]; unfold S5; rw[Int.mul_add,Int.mul_add,Int.mul_add,Int.mul_add]
 have e2:S5 u * S5 (qN N u)=S5 u * qN N u 0+S5 u * qN N u 1+S5 u * qN N u 2+S5 u * qN N u 3+S5 u * qN N u 4:=by
  generalize S5 u=U;unfold S5; rw[Int.mul_add,Int.mul_add,Int.mul_add,Int.mul_add]
 rw[Int.mul_sub,e1,e2]
 show _=rN N u 0+rN N u 1+rN N u 2+rN N u 3+rN N u 4
 omega
theorem zwT(hu:UOk u)(N:Int):0<=N - S5 (qN N u)/\N - S5 (qN N u)<=gtN (rN N u) 0/\N - S5 (qN N u)<=4:=by
 have hU:=hu.pos;have hl:=zwS N u;have hr:=fun k=>zwF (N:=N) hu k;have r0:=hr 0; have r1:=hr 1; have r2:=hr 2; have r3:=hr 3; have r4:=hr 4;refine⟨?_,?_,?_⟩
 ·apply Classical.byContradiction
  intro hn;have:S5 u * (N - S5 (qN N u)) < 0:=Int.mul_neg_of_pos_of_neg hU (by omega);rw[hl] at this;unfold S5 at this; omega
 ·have h2:S5 (rN N u)<=S5 u * gtN (rN N u) 0:=by
   have e:S5 u * gtN (rN N u) 0=S5 (fun k=>S5 u * if 0 < rN N u k then 1 else 0):=by
    unfold gtN;generalize S5 u=U
    show U * S5 (fun k=>if 0 < rN N u k then 1 else 0)=_
    unfold S5;rw[Int.mul_add,Int.mul_add,Int.mul_add,Int.mul_add]
   rw[e];refine zwK fun k _=>?_;have:=hr k
   by_cases h:0 < rN N u k
   ·rw[if_pos h]; omega
   ·rw[if_neg h]; omega
  rw[<- hl] at h2;exact Int.le_of_mul_le_mul_left h2 hU
 ·apply Classical.byContradiction
  intro hn;have h2:S5 u * 5<=S5 u * (N - S5 (qN N u)):=Int.mul_le_mul_of_nonneg_left (by omega) (by omega);rw[hl] at h2;have h3:S5 (rN N u)=rN N u 0+rN N u 1+rN N u 2+rN N u 3+rN N u 4:=rfl
  omega
theorem zwU(hu:UOk u){k:Nat}(h0:rN N u k=0):¬ zwv (rN N u) k < N - S5 (qN N u):=by
 have h1:=(zwT hu N).2.1;have h2:=zwx (rN N u) (rN N u k) k
 have h3:zwv (rN N u) k=gtN (rN N u) 0+eqN (rN N u) (rN N u k) k:=by unfold zwv; rw[h0]
 omega
theorem zwV(hu:UOk u)(N:Int):S5 (zwD N u)=N:=by
 have h:=zwT hu N;have e:S5 (zwD N u)=S5 (qN N u)+S5 (fun i=>if zwv (rN N u) i < N - S5 (qN N u) then 1 else 0):=zwl _ _;rw[e,zwR _ (by omega)]; omega
theorem zwW(N:Int)(u:Nat->Int)(k:Nat):qN N u k<=zwD N u k/\zwD N u k<=qN N u k+1:=by unfold zwD; split <;> omega
theorem zwX(hu:UOk u)(hN:0<=N){k:Nat}(hk:k < 5):0<=zwD N u k:=by have:=zwW N u k; have:=zwE hu hN hk; omega
theorem zwY(hu:UOk u)(hN:0<=N){k:Nat}(hk:k < 5):zwD N u k<=N:=by
 have hs:=zwV hu N;have h:∀i,i < 5->0<=zwD N u i:=fun i hi=>zwX hu hN hi;have:=h 0 (by omega); have:=h 1 (by omega); have:=h 2 (by omega); have:=h 3 (by omega); have:=h 4 (by omega);unfold S5 at hs
 match k,hk with
 | 0,_=>omega
 | 1,_=>omega
 | 2,_=>omega
 | 3,_=>omega
 | 4,_=>omega
theorem zwZ(hu:UOk u){k:Nat}(h:u k=0):zwD N u k=0:=by
 have hq:qN N u k=0:=by unfold qN; rw[h,Int.mul_zero,Int.zero_ediv]
 have hr:rN N u k=0:=by unfold rN; rw[h,Int.mul_zero,Int.zero_emod]
 unfold zwD;rw[if_neg (zwU hu hr),hq]; rfl
end
end
end Go.Proofs.Ytkclhciahokifaa

namespace Go.Proofs.Ytkclhciahokifaa
open _root_.Go.Proofs.Try
open Go.Abs
set_option maxRecDepth 100000
noncomputable section
structure zw0 (a:Mb):Prop where
 sum:1<=a.Sum/\a.Sum<=1000
 cls:1<=a.Class/\a.Class<=10
 most:0<=a.Most/\a.Most<=100000
def zw1(ms:List Mb):Prop:=ms.length<=5/\∀a∈ms,zw0 a
def unN(a:Mb):Int:=a.Sum * a.Class
theorem zw2{a:Mb}(h:zw0 a):1<=unN a/\unN a<=10000:=by
 have h1:=zwC (a:=a.Sum) (x:=a.Class) (A:=1000) (X:=10) ⟨by have:=h.sum; omega,h.sum.2⟩ ⟨by have:=h.cls; omega,h.cls.2⟩;have h2:a.Sum * 1<=a.Sum * a.Class:=Int.mul_le_mul_of_nonneg_left h.cls.1 (by have:=h.sum; omega);have:=h.sum;unfold unN; omega
def uF(ms:List Mb)(sh:Nat->Bool):Nat->Int:=zwe ms sh unN
def mF(ms:List Mb)(sh:Nat->Bool):Nat->Int:=zwe ms sh (·.Most)
def zw3(sh:Nat->Bool):Bool:=(sh 0 == false) && ((sh 1 == false) && ((sh 2 == false) && ((sh 3 == false) && (sh 4 == false))))
def zw4(a b:Nat->Bool):Bool:=(a 0 == b 0) && ((a 1 == b 1) && ((a 2 == b 2) && ((a 3 == b 3) && (a 4 == b 4))))
def zw5(ms:List Mb)(sh:Nat->Bool):Prop:=∀i,sh i=true->i < ms.length
def roundsN(ms:List Mb):Nat->(Nat->Bool)->Int->(Nat->Int)->(Nat->Int) × Int
 | 0,_,N,c=>(c,N)
 | d+1,sh,N,c=>if zw3 sh=true then (c,N) else
   if zw4 (zwg ms sh (zwD N (uF ms sh))) sh=true then (fun i=>c i+zwD N (uF ms sh) i,0) else
    roundsN ms d (zwg ms sh (zwD N (uF ms sh))) (N - S5 (mF ms fun i=>sh i && !zwg ms sh (zwD N (uF ms sh)) i)) (fun i=>c i+mF ms (fun i=>sh i && !zwg ms sh (zwD N (uF ms sh)) i) i)
def cF(sh:Nat->Bool):Nat:=(sh 0).toNat+(sh 1).toNat+(sh 2).toNat+(sh 3).toNat+(sh 4).toNat
theorem zw6{sh:Nat->Bool}:zw3 sh=true↔∀i,i < 5->sh i=false:=by
 unfold zw3
 simp only[Bool.and_eq_true,beq_iff_eq]
 constructor
 ·rintro⟨h0,h1,h2,h3,h4⟩ i hi
  match i,hi with
  | 0,_=>exact h0
  | 1,_=>exact h1
  | 2,_=>exact h2
  | 3,_=>exact h3
  | 4,_=>exact h4
 ·intro h; exact⟨h 0 (by omega),h 1 (by omega),h 2 (by omega),h 3 (by omega),h 4 (by omega)⟩
theorem zw7{a b:Nat->Bool}:zw4 a b=true↔∀i,i < 5->a i=b i:=by
 unfold zw4
 simp only[Bool.and_eq_true,beq_iff_eq]
 constructor
 ·rintro⟨h0,h1,h2,h3,h4⟩ i hi
  match i,hi with
  | 0,_=>exact h0
  | 1,_=>exact h1
  | 2,_=>exact h2
  | 3,_=>exact h3
  | 4,_=>exact h4
 ·intro h; exact⟨h 0 (by omega),h 1 (by omega),h 2 (by omega),h 3 (by omega),h 4 (by omega)⟩
theorem zw8{ms:List Mb}{sh:Nat->Bool}{p:Nat->Int}{i:Nat}(h:zwg ms sh p i=true):sh i=true:=by
 unfold zwg at h
 cases hm:ms[i]? with
 | none=>rw[hm] at h; exact h
 | some a=>rw[hm] at h; exact(Bool.and_eq_true _ _ ▸ h).1
theorem zw9{ms:List Mb}{sh:Nat->Bool}{p:Nat->Int}{i:Nat}{a:Mb}(hm:ms[i]? = some a):zwg ms sh p i=(sh i && decide (p i<=a.Most)):=by unfold zwg; rw[hm]
theorem zxa{ms:List Mb}{sh:Nat->Bool}{p:Nat->Int}(h:¬ zw4 (zwg ms sh p) sh=true):cF (zwg ms sh p) < cF sh:=by
 have hle:∀i,(zwg ms sh p i).toNat<=(sh i).toNat:=fun i=>by
  cases ha:zwg ms sh p i with
  | false=>exact Nat.zero_le _
  | true=>rw[zw8 ha]; exact Nat.le_refl _
 have hne:∃i,i < 5/\(zwg ms sh p i).toNat ≠ (sh i).toNat:=by
  apply Classical.byContradiction
  intro hn;refine h (zw7.2 fun i hi=>?_)
  apply Classical.byContradiction
  intro h2;refine hn ⟨i,hi,fun h3=>h2 ?_⟩
  revert h3; cases zwg ms sh p i <;> cases sh i <;> decide
 obtain⟨i,hi,h2⟩:=hne;have l0:=hle 0; have l1:=hle 1; have l2:=hle 2; have l3:=hle 3; have l4:=hle 4;unfold cF
 match i,hi with
 | 0,_=>omega
 | 1,_=>omega
 | 2,_=>omega
 | 3,_=>omega
 | 4,_=>omega
theorem zxb{ms:List Mb}{sh:Nat->Bool}{num:Mb->Int}{i:Nat}(h:sh i=false):zwe ms sh num i=0:=by
 unfold zwe
 cases ms[i]? with
 | none=>rfl
 | some a=>show(if sh i=true then num a else 0)=0; rw[h]; rfl
theorem zxc{ms:List Mb}{sh:Nat->Bool}{num:Mb->Int}{i:Nat}{a:Mb}(hm:ms[i]? = some a)(h:sh i=true):zwe ms sh num i=num a:=by
 unfold zwe; rw[hm]; show(if sh i=true then num a else 0)=_; rw[h,if_pos rfl]
theorem zxd{ms:List Mb}(hms:zw1 ms)(sh:Nat->Bool)(i:Nat):0<=uF ms sh i/\uF ms sh i<=10000:=by
 unfold uF
 cases hs:sh i with
 | false=>rw[zxb hs]; omega
 | true=>
  cases hm:ms[i]? with
  | none=>unfold zwe; rw[hm]; show(0:Int)<=0/\(0:Int)<=_; omega
  | some a=>rw[zxc hm hs]; have:=zw2 (hms.2 a (List.mem_of_getElem? hm)); omega
theorem zxe{ms:List Mb}(hms:zw1 ms){sh:Nat->Bool}(hs:zw5 ms sh)(hn:¬ zw3 sh=true):UOk (uF ms sh):=by
 have hb:=zxd hms sh;refine⟨fun i _=>by have:=hb i; omega,?_⟩
 obtain⟨i,hi,hsi⟩:∃i,i < 5/\sh i=true:=by
  apply Classical.byContradiction
  intro h;refine hn (zw6.2 fun i hi=>?_)
  cases hq:sh i with
  | false=>rfl
  | true=>exact absurd ⟨i,hi,hq⟩ h
 have hl:=hs i hsi
 have h1:1<=uF ms sh i:=by unfold uF; rw[zxc (List.getElem?_eq_getElem hl) hsi]; exact(zw2 (hms.2 _ (List.getElem_mem hl))).1
 have b0:=hb 0; have b1:=hb 1; have b2:=hb 2; have b3:=hb 3; have b4:=hb 4;unfold S5
 match i,hi with
 | 0,_=>omega
 | 1,_=>omega
 | 2,_=>omega
 | 3,_=>omega
 | 4,_=>omega
structure RI (ms:List Mb) (sh:Nat->Bool) (N:Int) (c:Nat->Int):Prop where
 sup:zw5 ms sh
 nn:0<=N/\N<=1000000
 cb:∀i,i < 5->0<=c i/\c i<=1000000
 c0:∀i,sh i=true->c i=0
section
variable {ms:List Mb} {sh:Nat->Bool} {N:Int} {c:Nat->Int}
theorem zxf(p:Nat->Int){i:Nat}:(sh i && !zwg ms sh p i)=true↔sh i=true/\∃a,ms[i]? = some a/\a.Most < p i:=by
 cases hm:ms[i]? with
 | none=>unfold zwg; rw[hm]; cases sh i <;> simp
 | some a=>
  rw[zw9 hm]
  cases sh i with
  | false=>simp
  | true=>simp
theorem zxg(hms:zw1 ms)(hs:zw5 ms sh)(hn:¬ zw3 sh=true)(hN:0<=N){i:Nat}(hi:i < 5) :
  0<=mF ms (fun i=>sh i && !zwg ms sh (zwD N (uF ms sh)) i) i/\mF ms (fun i=>sh i && !zwg ms sh (zwD N (uF ms sh)) i) i<=qN N (uF ms sh) i:=by
 have hu:=zxe hms hs hn;have hq:=zwE hu hN hi;unfold mF
 cases ho:(sh i && !zwg ms sh (zwD N (uF ms sh)) i) with
 | false=>rw[zxb (by exact ho)]; omega
 | true=>
  obtain⟨h1,a,h2,h3⟩:=(zxf _).1 ho;have hb:=(hms.2 a (List.mem_of_getElem? h2)).most;have hp:=zwW N (uF ms sh) i;rw[zxc h2 (by exact ho)]; omega
theorem RI.next(hms:zw1 ms)(h:RI ms sh N c)(hn:¬ zw3 sh=true):RI ms (zwg ms sh (zwD N (uF ms sh))) (N - S5 (mF ms fun i=>sh i && !zwg ms sh (zwD N (uF ms sh)) i)) (fun i=>c i+mF ms (fun i=>sh i && !zwg ms sh (zwD N (uF ms sh)) i) i):=by
 have hu:=zxe hms h.sup hn;have hm:=fun i (hi:i < 5)=>zxg hms h.sup hn h.nn.1 hi
 have hs:S5 (mF ms fun i=>sh i && !zwg ms sh (zwD N (uF ms sh)) i)<=S5 (zwD N (uF ms sh)):=zwK fun i hi=>by have:=hm i hi; have:=zwW N (uF ms sh) i; omega
 rw[zwV hu] at hs
 have hs0:0<=S5 (mF ms fun i=>sh i && !zwg ms sh (zwD N (uF ms sh)) i):=by
  have:=hm 0 (by omega); have:=hm 1 (by omega); have:=hm 2 (by omega); have:=hm 3 (by omega); have:=hm 4 (by omega);unfold S5; omega
 have hnn:=h.nn;refine⟨fun i hi=>h.sup i (zw8 hi),by omega,fun i hi=>?_,fun i hi=>?_⟩
 ·have h1:=hm i hi;have h2:=h.cb i hi
  have h3:mF ms (fun i=>sh i && !zwg ms sh (zwD N (uF ms sh)) i) i<=N:=by have:=zwE hu h.nn.1 hi; omega
  show 0<=c i+_/\c i+_<=_
  cases ho:(sh i && !zwg ms sh (zwD N (uF ms sh)) i) with
  | false=>
   have e:mF ms (fun i=>sh i && !zwg ms sh (zwD N (uF ms sh)) i) i=0:=zxb (by exact ho);rw[e]; omega
  | true=>
   have hc:=h.c0 i ((zxf _).1 ho).1;rw[hc]; omega
 ·have h1:=zw8 hi
  show c i+_=0
  have e:mF ms (fun i=>sh i && !zwg ms sh (zwD N (uF ms sh)) i) i=0:=zxb (by show(sh i && !zwg ms sh _ i)=false; rw[hi]; simp);rw[h.c0 i h1,e]; rfl
theorem zxh{w:Wk}(hms:zw1 w.s.Members):ztk w (mkF sh)=some (mk5 (uF w.s.Members sh)):=by
 unfold ztk;rw[zwf (num:=unN) (fun a ha=>?_) hms.1,obs]; rfl;have h:=hms.2 a ha;have:=h.sum; have:=h.cls;have hb:=zw2 h;unfold unN at hb
 show ztg a=some (unN a)
 unfold ztg unN;rw[zqr (by omega),zqr (by omega),zqr (fI (by omega))]
theorem zxi{w:Wk}(hms:zw1 w.s.Members):ztl w (mkF sh)=some (mk5 (mF w.s.Members sh)):=by
 unfold ztl;rw[zwf (number:=fun a=>zth a) (num:=(·.Most)) (fun a _=>rfl) hms.1,obs]; rfl
theorem zxj{w:Wk}(hms:zw1 w.s.Members)(need0:Int){need:Int}:∀(n D:Nat) (sh:Nat->Bool) (N:Int) (c:Nat->Int),RI w.s.Members sh N c->N+S5 c=need->need<=1000000->cF sh < n->cF sh < D ->
  zto w need0 D need (c 0) (c 1) (c 2) (c 3) (c 4) (sh 0) (sh 1) (sh 2) (sh 3) (sh 4)=some { need:=need,calls:=mk5 (roundsN w.s.Members n sh N c).1 }
 | 0,_,_,_,_,_,_,_,h,_=>by omega
 | _+1,0,_,_,_,_,_,_,_,h=>by omega
 | n+1,D+1,sh,N,c,hr,hs,hneed,hn,hD=>by
  rw[zto,roundsN]
  show(if zw3 sh=true then _ else _)=_
  by_cases h0:zw3 sh=true
  ·rw[if_pos h0,if_pos h0]; rfl
  ·rw[if_neg h0,if_neg h0];have hu:=zxe hms hr.sup h0
   have hbc:Bd 1000000000000 c:=fun i hi=>by have:=hr.cb i hi; omega
   have hcb:=hr.cb;have hc0:=hcb 0 (by omega); have hc1:=hcb 1 (by omega); have hc2:=hcb 2 (by omega); have hc3:=hcb 3 (by omega); have hc4:=hcb 4 (by omega)
   have hsc:0<=S5 c/\S5 c<=5000000:=by unfold S5; omega
   have hNN:0<=N/\N<=1000000:=hr.nn
   have e1:zte ({ need:=need,calls:=mk5 c }:Oc)=some N:=by
    unfold zte
    show(zs3 (mk5 c)).bind _=_
    rw[zwb hbc,obs,zqr (fI (by show -9223372036854775808<=need - S5 c/\need - S5 c < _; omega))];exact congrArg some (show need - S5 c=N by omega)
   show(zte ({ need:=need,calls:=mk5 c }:Oc)).bind _=_
   rw[e1,obs]
   show(ztk w (mkF sh)).bind _=_
   rw[zxh hms,obs,zwH hu hNN,obs]
   show(ztn w (mkF sh) (mk5 (zwD N (uF w.s.Members sh)))).bind _=_
   rw[zwh hms.1,obs]
   have hbp:Bd 1000000000000 (zwD N (uF w.s.Members sh)):=fun i hi=>by have:=zwX hu hNN.1 hi; have:=zwY hu hNN.1 hi; omega
   show(if zw4 (zwg w.s.Members sh (zwD N (uF w.s.Members sh))) sh=true then _ else _)=_
   by_cases h1:zw4 (zwg w.s.Members sh (zwD N (uF w.s.Members sh))) sh=true
   ·rw[if_pos h1,if_pos h1]
    have e2:ztf ({ need:=need,calls:=mk5 c }:Oc) (mk5 (zwD N (uF w.s.Members sh)))=some { need:=need,calls:=mk5 fun i=>c i+zwD N (uF w.s.Members sh) i }:=by
     unfold ztf
     show(zs5 (mk5 c) _).bind _=_
     rw[zwc hbc hbp,obs]
    show(ztf ({ need:=need,calls:=mk5 c }:Oc) _).bind _=_
    rw[e2,obs]
   ·rw[if_neg h1,if_neg h1]
    show(zs7 (mkF sh) (mkF (zwg w.s.Members sh (zwD N (uF w.s.Members sh))))).bind _=_
    rw[zwd,obs,zxi hms,obs];have hnext:=hr.next hms h0;have hm:=fun i (hi:i < 5)=>zxg hms hr.sup h0 hNN.1 hi
    have hbm:Bd 1000000000000 (mF w.s.Members fun i=>sh i && !zwg w.s.Members sh (zwD N (uF w.s.Members sh)) i):=fun i hi=>by have:=hm i hi; have:=zwE hu hNN.1 hi; omega
    have e2:ztf ({ need:=need,calls:=mk5 c }:Oc) (mk5 (mF w.s.Members fun i=>sh i && !zwg w.s.Members sh (zwD N (uF w.s.Members sh)) i))=some { need:=need,calls:=mk5 fun i=>c i+mF w.s.Members (fun i=>sh i && !zwg w.s.Members sh (zwD N (uF w.s.Members sh)) i) i }:=by
     unfold ztf
     show(zs5 (mk5 c) _).bind _=_
     rw[zwc hbc hbm,obs]
    show(ztf ({ need:=need,calls:=mk5 c }:Oc) _).bind _=_
    rw[e2,obs];have hless:=zxa h1;have e3:S5 (fun i=>c i+mF w.s.Members (fun i=>sh i && !zwg w.s.Members sh (zwD N (uF w.s.Members sh)) i) i)=S5 c+S5 (mF w.s.Members fun i=>sh i && !zwg w.s.Members sh (zwD N (uF w.s.Members sh)) i):=zwl _ _
    have e4:N - S5 (mF w.s.Members fun i=>sh i && !zwg w.s.Members sh (zwD N (uF w.s.Members sh)) i)+S5 (fun i=>c i+mF w.s.Members (fun i=>sh i && !zwg w.s.Members sh (zwD N (uF w.s.Members sh)) i) i)=need:=by rw[e3]; omega
    exact zxj hms need0 n D _ _ _ hnext e4 hneed (by omega) (by omega)
end
def zxk(ms:List Mb)(ask:Nat->Bool)(need:Int):(Nat->Int) × Int:=roundsN ms 6 ask need fun _=>0
theorem zxl(sh:Nat->Bool):cF sh<=5:=by
 have h:∀b:Bool,b.toNat<=1:=fun b=>by cases b <;> decide
 have:=h (sh 0); have:=h (sh 1); have:=h (sh 2); have:=h (sh 3); have:=h (sh 4);unfold cF; omega
theorem zxm{w:Wk}(hms:zw1 w.s.Members){ask:Nat->Bool}(ha:w.asked=mkF ask)(hsup:zw5 w.s.Members ask){need:Int}(hn:0<=need/\need<=1000000):ztp w need=some { need:=need,calls:=mk5 (zxk w.s.Members ask need).1 }:=by
 unfold ztp;rw[ha];have hc:=zxl ask;exact zxj hms need 6 1000000 ask need (fun _=>0) ⟨hsup,hn,fun _ _=>by omega,fun _ _=>rfl⟩ (by rw[zwm]; omega) hn.2 (by omega) (by omega)
end
end Go.Proofs.Ytkclhciahokifaa

namespace Go.Proofs.Ytkclhciahokifaa
open _root_.Go.Proofs.Try
open Go.Abs
set_option maxRecDepth 100000
noncomputable section
section
variable {ms:List Mb}
theorem zxn(hms:zw1 ms):∀(n:Nat) (sh:Nat->Bool) (N:Int) (c:Nat->Int),RI ms sh N c->cF sh < n->S5 (roundsN ms n sh N c).1+(roundsN ms n sh N c).2=N+S5 c/\0<=(roundsN ms n sh N c).2
 | 0,_,_,_,_,h=>by omega
 | n+1,sh,N,c,hr,h=>by
  unfold roundsN
  by_cases h0:zw3 sh=true
  ·rw[if_pos h0]; have:=hr.nn; exact⟨by show S5 c+N=_; omega,hr.nn.1⟩
  ·rw[if_neg h0];have hu:=zxe hms hr.sup h0
   by_cases h1:zw4 (zwg ms sh (zwD N (uF ms sh))) sh=true
   ·rw[if_pos h1];have e:S5 (fun i=>c i+zwD N (uF ms sh) i)=S5 c+S5 (zwD N (uF ms sh)):=zwl _ _;have hp:=zwV hu N;exact⟨by show S5 (fun i=>c i+zwD N (uF ms sh) i)+0=_; omega,Int.le_refl _⟩
   ·rw[if_neg h1];have hless:=zxa h1;have ih:=zxn hms n _ _ _ (hr.next hms h0) (by omega);have e:S5 (fun i=>c i+mF ms (fun i=>sh i && !zwg ms sh (zwD N (uF ms sh)) i) i)=S5 c+S5 (mF ms fun i=>sh i && !zwg ms sh (zwD N (uF ms sh)) i):=zwl _ _;rw[e] at ih;exact⟨by rw[ih.1]; omega,ih.2⟩
theorem zxo(hms:zw1 ms):∀(n:Nat) (sh:Nat->Bool) (N:Int) (c:Nat->Int),RI ms sh N c->cF sh < n->∀i,i < 5->sh i=false->(roundsN ms n sh N c).1 i=c i
 | 0,_,_,_,_,h=>by omega
 | n+1,sh,N,c,hr,h=>fun i hi hs=>by
  unfold roundsN
  by_cases h0:zw3 sh=true
  ·rw[if_pos h0]
  ·rw[if_neg h0];have hu:=zxe hms hr.sup h0
   by_cases h1:zw4 (zwg ms sh (zwD N (uF ms sh))) sh=true
   ·rw[if_pos h1]
    show c i+_=_
    rw[zwZ hu (show uF ms sh i=0 from zxb hs),Int.add_zero]
   ·rw[if_neg h1];have hless:=zxa h1
    have ha:zwg ms sh (zwD N (uF ms sh)) i=false:=by
     cases hq:zwg ms sh (zwD N (uF ms sh)) i with
     | false=>rfl
     | true=>rw[zw8 hq] at hs; cases hs
    rw[zxo hms n _ _ _ (hr.next hms h0) (by omega) i hi ha];have e:mF ms (fun i=>sh i && !zwg ms sh (zwD N (uF ms sh)) i) i=0:=zxb (by show(sh i && _)=false; rw[hs]; rfl);rw[e,Int.add_zero]
theorem zxp(hms:zw1 ms):∀(n:Nat) (sh:Nat->Bool) (N:Int) (c:Nat->Int),RI ms sh N c->cF sh < n->∀i a,i < 5->ms[i]? = some a->sh i=true->(0<=(roundsN ms n sh N c).1 i/\(roundsN ms n sh N c).1 i<=a.Most)/\(0 < (roundsN ms n sh N c).2->(roundsN ms n sh N c).1 i=a.Most)
 | 0,_,_,_,_,h=>by omega
 | n+1,sh,N,c,hr,h=>fun i a hi hm hs=>by
  unfold roundsN
  by_cases h0:zw3 sh=true
  ·have:=zw6.1 h0 i hi; rw[hs] at this; cases this
  ·rw[if_neg h0];have hu:=zxe hms hr.sup h0;have hc:=hr.c0 i hs;have hp:=zwX hu hr.nn.1 hi
   by_cases h1:zw4 (zwg ms sh (zwD N (uF ms sh))) sh=true
   ·rw[if_pos h1];have h2:=zw7.1 h1 i hi;rw[zw9 hm,hs,Bool.true_and] at h2;have h3:zwD N (uF ms sh) i<=a.Most:=of_decide_eq_true h2;exact⟨by show 0<=c i+_/\c i+_<=_; omega,fun h=>absurd h (Int.lt_irrefl _)⟩
   ·rw[if_neg h1];have hless:=zxa h1
    cases hq:zwg ms sh (zwD N (uF ms sh)) i with
    | true=>exact zxp hms n _ _ _ (hr.next hms h0) (by omega) i a hi hm hq
    | false=>
     rw[zxo hms n _ _ _ (hr.next hms h0) (by omega) i hi hq];have e:mF ms (fun i=>sh i && !zwg ms sh (zwD N (uF ms sh)) i) i=a.Most:=zxc hm (by show(sh i && !zwg ms sh _ i)=true; rw[hs,hq]; rfl);have hb:=(hms.2 a (List.mem_of_getElem? hm)).most;rw[e,hc];exact⟨by omega,fun _=>by omega⟩
end
section
variable {ms:List Mb} {ask:Nat->Bool} {N:Int}
theorem RI0(hs:zw5 ms ask)(hN:0<=N/\N<=1000000):RI ms ask N fun _=>0:=⟨hs,hN,fun _ _=>by omega,fun _ _=>rfl⟩
theorem zxq(hms:zw1 ms)(hs:zw5 ms ask)(hN:0<=N/\N<=1000000):S5 (zxk ms ask N).1+(zxk ms ask N).2=N/\0<=(zxk ms ask N).2:=by
 have:=zxl ask;have h:=zxn hms 6 ask N (fun _=>0) (RI0 hs hN) (by omega);rw[zwm] at h;exact⟨by rw[Int.add_zero] at h; exact h.1,h.2⟩
theorem zxr(hms:zw1 ms)(hs:zw5 ms ask)(hN:0<=N/\N<=1000000){i:Nat}(hi:i < 5)(ha:ask i=false):(zxk ms ask N).1 i=0:=by
 have:=zxl ask;exact zxo hms 6 ask N (fun _=>0) (RI0 hs hN) (by omega) i hi ha
theorem zxs(hms:zw1 ms)(hs:zw5 ms ask)(hN:0<=N/\N<=1000000){i:Nat}{a:Mb}(hi:i < 5)(hm:ms[i]? = some a)(ha:ask i=true):(0<=(zxk ms ask N).1 i/\(zxk ms ask N).1 i<=a.Most)/\(0 < (zxk ms ask N).2->(zxk ms ask N).1 i=a.Most):=by
 have:=zxl ask;exact zxp hms 6 ask N (fun _=>0) (RI0 hs hN) (by omega) i a hi hm ha
theorem zxt(hms:zw1 ms)(hs:zw5 ms ask)(hN:0<=N/\N<=1000000){i:Nat}(hi:i < 5):0<=(zxk ms ask N).1 i/\(zxk ms ask N).1 i<=100000:=by
 cases ha:ask i with
 | false=>rw[zxr hms hs hN hi ha]; omega
 | true=>
  have hm:=List.getElem?_eq_getElem (hs i ha);have h:=zxs hms hs hN hi hm ha;have hb:=(hms.2 _ (List.getElem_mem (hs i ha))).most
  omega
end
end
end Go.Proofs.Ytkclhciahokifaa

namespace Go.Proofs.Ytkclhciahokifaa
open _root_.Go.Proofs.Try
open Go.Abs
set_option maxRecDepth 100000
noncomputable section
def RgV(r:Rg):Prop:=0<=r.Lo/\r.Lo<=r.Hi/\r.Hi<=100000/\r.Hi - r.Lo<=30
instance (r:Rg):Decidable (RgV r):=by unfold RgV; infer_instance
structure zxu (s:Soc):Prop where
 pos:0 < s.Members.length
 ms:∀a∈s.Members,zw0 a
 ls:∀r∈s.Losses,RgV r
 tr:RgV s.Treaty
 rs:0<=s.Reserve/\s.Reserve<=100000
structure zxv (s:Soc):Prop where
 m5:s.Members.length<=5
 l3:s.Losses.length<=3
 full:zxu s
theorem zxv.msOk{s:Soc}(h:zxv s):zw1 s.Members:=⟨h.m5,h.full.ms⟩
open Classical in
def zxw(s:Soc):Int:=if 5 < s.Members.length\/3 < s.Losses.length then 3 else if zxu s then 0 else 1
theorem zxx{s:Soc}:zxw s=0↔zxv s:=by
 unfold zxw
 by_cases h:5 < s.Members.length\/3 < s.Losses.length
 ·rw[if_pos h]; exact⟨fun h=>by omega,fun h2=>by have:=h2.m5; have:=h2.l3; omega⟩
 ·rw[if_neg h]
  by_cases hf:zxu s
  ·rw[if_pos hf]; exact⟨fun _=>⟨by omega,by omega,hf⟩,fun _=>rfl⟩
  ·rw[if_neg hf]; exact⟨fun h=>by omega,fun h=>absurd h.full hf⟩
theorem zxy{r:Rg}{n:Int}:Ev (zsn r n) (r.Lo<=n/\n<=r.Hi):=Ev.ite fun _=>Ev.dec Iff.rfl
theorem zxz{n:Int}:Ev (zso n) (0<=n/\n<=100000):=zxy.ret
theorem zxA{r:Rg}:Ev (zsp r) (RgV r):=by
 refine(zxz.and fun h1=>zxz.and fun h2=>Ev.ite (K:=r.Hi - r.Lo<=30) fun _=>Ev.gd (fI (by omega)) (Ev.dec Iff.rfl)).imp ?_;unfold RgV; omega
theorem zxB{a:Mb}:Ev (zsq ({ su:=({ Lo:=(1:Int),Hi:=(1000:Int) }:Rg),cl:=({ Lo:=(1:Int),Hi:=(10:Int) }:Rg),mo:=({ Lo:=(0:Int),Hi:=(100000:Int) }:Rg) }:Lm) a) (zw0 a):=
 (zxy.and fun _=>zxy.and fun _=>zxy.ret).imp ⟨fun⟨h1,h2,h3⟩=>⟨h1,h2,h3⟩,fun⟨h1,h2,h3⟩=>⟨h1,h2,h3⟩⟩
theorem gM{l:List Mb}{p:Mb->Option Bool}:∀{d:Nat} {x:Int},zss l p d x=gIdx l p d x
 | 0,_=>rfl
 | d+1,x=>by unfold zss gIdx; simp only[gM]
theorem gR{l:List Rg}{p:Rg->Option Bool}:∀{d:Nat} {x:Int},zsx l p d x=gIdx l p d x
 | 0,_=>rfl
 | d+1,x=>by unfold zsx gIdx; simp only[gR]
theorem gI{l:List Int}{p:Int->Option Bool}:∀{d:Nat} {x:Int},zsC l p d x=gIdx l p d x
 | 0,_=>rfl
 | d+1,x=>by unfold zsC gIdx; simp only[gI]
theorem zxC{s:Soc}(h1:zrO s.Members)(h2:zrO s.Losses):Ev (zsJ s) (zxu s):=by
 refine(Ev.ite fun _=>(Ev.each (q:=zw0) (fun a _=>zxB) h1.lt gM).and fun _=>(Ev.each (q:=RgV) (fun a _=>zxA) h2.lt gR).and fun _=>zxA.and fun _=>zxz.ret).imp ?_;exact⟨fun⟨a,b,c,d,e⟩=>⟨by omega,b,c,d,e⟩,fun⟨a,b,c,d,e⟩=>⟨by omega,b,c,d,e⟩⟩
theorem zxD{s:Soc}:Ev (zsI s) (5 < s.Members.length\/3 < s.Losses.length):=by
 unfold zsI
 by_cases h:(5:Int) < s.Members.length
 ·rw[if_pos h]; exact Ev.tt (by omega)
 ·rw[if_neg h]; exact Ev.dec (by omega)
theorem zxE{s:Soc}(h1:zrO s.Members)(h2:zrO s.Losses):zsK s=some (zxw s):=by
 unfold zsK zxw;refine zxD.pick (fun h=>?_) fun h=>?_
 ·rw[if_pos rfl,if_pos h]
 ·rw[if_neg (by decide),if_neg h];refine(zxC h1 h2).pick (fun h=>?_) fun h=>?_
  ·rw[if_pos rfl,if_pos h]
  ·rw[if_neg (by decide),if_neg h]
theorem zxF{n lo hi:Int}:Ev (zr1 n lo hi) (lo<=n/\n<=hi):=Ev.ite fun _=>Ev.dec Iff.rfl
theorem zxG{r:Rg}:Ev (zr2 r) (RgV r):=Ev.ite fun h1=>Ev.ite fun h2=>Ev.ite fun h3=>Ev.gd (fI (by omega)) (Ev.dec Iff.rfl)
theorem zxH{s:Soc}(h1:s.Members.length<=8)(h2:s.Losses.length<=6):zr4 s=some (zxw s):=by
 unfold zr4 zxw
 by_cases c1:5 < s.Members.length
 ·rw[if_pos (by omega),if_pos (.inl c1)]
 rw[if_neg (by omega)]
 by_cases c2:3 < s.Losses.length
 ·rw[if_pos (by omega),if_pos (.inr c2)]
 rw[if_neg (show ¬ (3:Int) < s.Losses.length by omega),if_neg (show ¬ (5 < s.Members.length\/3 < s.Losses.length) by omega)]
 by_cases c3:s.Members.length=0
 ·rw[if_pos (by omega),if_neg fun h:zxu s=>by have:=h.pos; omega]
 rw[if_neg (show ¬ (s.Members.length:Int)=0 by omega)]
 refine zxG.pick (fun c4=>?_) fun c4=>by rw[if_neg (by decide),if_neg fun h=>c4 h.tr]
 rw[if_pos rfl]
 refine zxF.pick (fun c5=>?_) fun c5=>by rw[if_neg (by decide),if_neg fun h=>c5 h.rs]
 rw[if_pos rfl]
 have kL:=zrN (l:=s.Losses) (F:=fun d x=>prFault_L1 s d x) (ok:=RgV) (bad:=some 1) (fin:=some 0) (fun d k a hk=>by
  have hkl:=(List.getElem?_eq_some_iff.1 hk).1
  show(RgV a->prFault_L1 s (d+1) (k:Int)=_)/\_
  rw[prFault_L1,if_pos (by omega),zrF hk,obs]
  exact Ev.step zxG (by rw[if_pos rfl,zqr (fI (by omega))]) (by rw[if_neg (by decide)])) (fun d=>by show prFault_L1 s (d+1) _=_; rw[prFault_L1,if_neg (Int.lt_irrefl _)]) (d:=1000000) (by omega)
 have kM:=zrN (l:=s.Members) (F:=fun d x=>zr3 s d 0 x) (ok:=zw0) (bad:=some 1) (fin:=prFault_L1 s 1000000 0) (fun d k a hk=>by
  have hkl:=(List.getElem?_eq_some_iff.1 hk).1
  show(zw0 a->zr3 s (d+1) 0 (k:Int)=_)/\_
  rw[zr3,if_pos (by omega),zrF hk,obs];refine⟨fun h=>?_,fun h=>?_⟩
  ·rw[zxF.some_of h.sum,obs,if_pos rfl,zxF.some_of h.cls,obs,if_pos rfl,zxF.some_of h.most,obs,if_pos rfl,zqr (fI (by omega))]
  ·refine zxF.pick (fun q1=>?_) fun q1=>by rw[if_neg (by decide)]
   rw[if_pos rfl]
   refine zxF.pick (fun q2=>?_) fun q2=>by rw[if_neg (by decide)]
   rw[if_pos rfl]
   refine zxF.pick (fun q3=>absurd ⟨q1,q2,q3⟩ h) fun q3=>by rw[if_neg (by decide)]) (fun d=>by show zr3 s (d+1) 0 _=_; rw[zr3,if_neg (Int.lt_irrefl _)]) (d:=1000000) (by omega)
 by_cases c6:∀a∈s.Members,zw0 a
 ·refine(kM.1 c6).trans ?_
  by_cases c7:∀r∈s.Losses,RgV r
  ·refine(kL.1 c7).trans ?_;rw[if_pos ⟨by omega,c6,c7,c4,c5⟩]
  ·refine(kL.2 c7).trans ?_;rw[if_neg fun h=>c7 h.ls]
 ·refine(kM.2 c6).trans ?_;rw[if_neg fun h=>c6 h.ms]
def zxI(n:Nat)(out:List Int):Nat->Bool:=fun i=>decide (i < n) && !decide ((i:Int)∈out)
def zxJ(s:Soc)(out:List Int):Wk:={ s:=s,asked:=mkF (zxI s.Members.length out) }
def wk0:Wk:={ s:={ Members:=[],Losses:=[],Treaty:={ Lo:=0,Hi:=0 },Reserve:=0 },asked:={ b0:=false,b1:=false,b2:=false,b3:=false,b4:=false } }
theorem zxK(ms:List Mb)(out:List Int):zw5 ms (zxI ms.length out):=fun i h=>by
 unfold zxI at h
 simp at h; exact h.1
theorem zxL{l:List Int}{v:Int}(hl:zrO l):∀d (k:Nat),k<=l.length->l.length - k < d->∃r,zsP l v d (k:Int)=some r/\(0<=r↔v∈l.drop k)
 | 0,k,_,h=>by omega
 | d+1,k,hk,h=>by
  unfold zrO at hl;unfold zsP
  by_cases hkn:k=l.length
  ·subst hkn; rw[if_neg (Int.lt_irrefl _)]; exact⟨_,rfl,by simp⟩
  ·have hlt:k < l.length:=by omega
   rw[if_pos (by omega),zrF (List.getElem?_eq_getElem hlt),obs];have hd:=List.drop_eq_getElem_cons hlt
   by_cases hv:v=l[k]
   ·rw[if_pos hv]; exact⟨_,rfl,⟨fun _=>by rw[hd,<- hv]; exact List.mem_cons_self ..,fun _=>by omega⟩⟩
   ·rw[if_neg hv,zqr (fI (by omega)),show(k:Int)+1=((k+1:Nat):Int) by omega];obtain⟨r,h1,h2⟩:=zxL hl d (k+1) (by omega) (by omega);exact⟨r,h1,h2.trans ⟨fun h=>by rw[hd]; exact List.mem_cons_of_mem _ h,fun h=>by rw[hd] at h; exact(List.mem_cons.1 h).resolve_left hv⟩⟩
theorem zxM{l:List Int}{v:Int}(hl:zrO l):zsR l v=some (decide (v∈l)):=by
 unfold zsR zsQ;obtain⟨r,h1,h2⟩:=zxL (v:=v) hl (l.length+1) 0 (Nat.zero_le _) (by omega);have h1:zsP l v (l.length+1) 0=some r:=h1;rw[h1,obs];exact congrArg some (decide_eq_decide.2 (h2.trans (by rw[List.drop_zero])))
theorem zxN{s:Soc}{out:List Int}(hl:zrO out)(h5:s.Members.length<=5):zsT s out=some (zxJ s out):=by
 unfold zsT;have key:=zv2 (n:=s.Members.length) (fun d st x=>zsS s out d s.Treaty.Lo s.Treaty.Hi s.Reserve (st 0) (st 1) (st 2) (st 3) (st 4) x) (stF (zxI s.Members.length out) fun _=>false) (fin:=some (zxJ s out)) (fun d k hk=>?_) (fun d=>?_) (s.Members.length+1) 0 (by omega) (by omega)
 ·rw[zv6] at key; exact key
 ·show zsS s out (d+1) _ _ _ _ _ _ _ _ _=_
  rw[zsS,if_pos (by omega),zxM hl,obs,zqr (by omega),zqr (fI (by omega))];have e:=zv8 (zxI s.Members.length out) (fun _=>false) k
  have e0:(!decide ((k:Int)∈out))=zxI s.Members.length out k:=by unfold zxI; rw[decide_eq_true hk,Bool.true_and]
  rw[e0,e 0,e 1,e 2,e 3,e 4]
 ·show zsS s out (d+1) _ _ _ _ _ _ _ _ _=_
  rw[zsS,if_neg (by omega)]
  have e1:∀j,stF (zxI s.Members.length out) (fun _=>false) s.Members.length j=zxI s.Members.length out j:=fun j=>by
   unfold stF
   by_cases h:j < s.Members.length
   ·rw[if_pos h]
   ·rw[if_neg h]; unfold zxI; rw[decide_eq_false h]; rfl
  rw[e1 0,e1 1,e1 2,e1 3,e1 4]; rfl
def zxO(n:Nat)(l:List Int):Prop:=l.Pairwise (· < ·)/\∀v∈l,0<=v/\v<=(n:Int) - 1
theorem zxP{l:List Int}:(∀j,0 < j->j < l.length->∀a b,l[j - 1]? = some a->l[j]? = some b->a < b)↔l.Pairwise (· < ·):=by
 constructor
 ·intro h;rw[List.pairwise_iff_getElem];intro i j hi hj hij
  have key:∀d,(hd:i+d+1 < l.length)->l[i] < l[i+d+1]:=fun d=>by
   induction d with
   | zero=>intro hd; exact h (i+1) (by omega) hd _ _ (List.getElem?_eq_getElem hi) (List.getElem?_eq_getElem hd)
   | succ d ih=>
    intro hd;have h1:=ih (by omega);have h2:=h (i+(d+1)+1) (by omega) hd _ _ (List.getElem?_eq_getElem (show i+d+1 < l.length by omega)) (List.getElem?_eq_getElem hd);exact Int.lt_trans h1 h2
  have:=key (j - i - 1) (by omega)
  simpa [show i+(j - i - 1)+1=j by omega] using this
 ·intro h j h0 hj a b ha hb;obtain⟨h1,rfl⟩:=List.getElem?_eq_some_iff.1 ha;obtain⟨h2,rfl⟩:=List.getElem?_eq_some_iff.1 hb;exact List.pairwise_iff_getElem.1 h (j - 1) j h1 h2 (by omega)
theorem zxQ{l:List Int}(hl:zrO l):Ev (zsH l) (l.Pairwise (· < ·)):=by
 unfold zrO at hl;unfold zsH
 by_cases h0:l.length=0
 ·have:l=[]:=List.eq_nil_of_length_eq_zero h0;subst this
  show Ev (zsG [] 1 1) _
  rw[zsG,if_neg (by decide)];exact Ev.tt .nil
 ·have e:∃n,l.length=n+1:=⟨l.length - 1,by omega⟩;obtain⟨n,hn⟩:=e
  have key:=zrJ (n:=n) (F:=fun d x=>zsG l d (x+1)) (ok:=fun j=>∀a b,l[j]? = some a->l[j+1]? = some b->a < b) (bad:=some false) (fin:=some true) (fun d k hk=>by
   show(_->zsG l (d+1) ((k:Int)+1)=_)/\_
   have ha:=List.getElem?_eq_getElem (show k < l.length by omega);have hb:=List.getElem?_eq_getElem (show k+1 < l.length by omega);rw[zsG,if_pos (by omega),zrG (show(k:Int)+1=((k+1:Nat):Int) by omega) (show k+1 < l.length by omega),obs,zqr (fI (by omega)),zrG (show(k:Int)+1 - 1=(k:Int) by omega) (show k < l.length by omega),obs];refine⟨fun h=>?_,fun h=>?_⟩
   ·have:=h _ _ ha hb;rw[if_neg (by omega),zqr (fI (by omega))]
   ·rw[if_pos]
    apply Classical.byContradiction
    intro h2
    exact h fun a b h3 h4=>by rw[ha] at h3; rw[hb] at h4; cases h3; cases h4; omega) (fun d=>by show zsG l (d+1) _=_; rw[zsG,if_neg (by omega)]) (d:=((l.length:Int) - 1).toNat+1) (by omega)
  have e0:zsG l (((l.length:Int) - 1).toNat+1) (0+1)=zsG l (((l.length:Int) - 1).toNat+1) 1:=rfl
  have hiff:(∀j,j < n->∀a b,l[j]? = some a->l[j+1]? = some b->a < b)↔l.Pairwise (· < ·):=by
   rw[<- zxP]
   constructor
   ·intro h j h0 hj a b h1 h2;have:=h (j - 1) (by omega) a b h1;rw[show j - 1+1=j by omega] at this;exact this h2
   ·intro h j hj a b h1 h2;exact h (j+1) (by omega) (by omega) a b (by rw[Nat.add_sub_cancel]; exact h1) h2
  by_cases hq:∀j,j < n->∀a b,l[j]? = some a->l[j+1]? = some b->a < b
  ·have:=key.1 hq;exact⟨true,this,⟨fun _=>hiff.1 hq,fun _=>rfl⟩⟩
  ·have:=key.2 hq;exact⟨false,this,⟨fun h=>(by cases h),fun h=>absurd (hiff.2 h) hq⟩⟩
theorem zxR{s:Soc}{l:List Int}(hl:zrO l)(hm:zrO s.Members):Ev (zsO s l) (zxO s.Members.length l):=by
 unfold zrO at hm;refine((zxQ hl).and fun _=>(Ev.each (q:=fun v=>0<=v/\v<=(s.Members.length:Int) - 1) (fun v _=>?_) hl.lt gI).ret).imp Iff.rfl;exact Ev.gd (fI (by omega)) zxy.ret
theorem zxS{s:Soc}{out:List Int}(hs:zxv s)(hl:zrO out)(ho:zxO s.Members.length out):zsU s out=some (zxJ s out,0):=by
 have h1:=hs.m5; have h2:=hs.l3;unfold zsU;rw[zxE (by unfold zrO; omega) (by unfold zrO; omega),obs,if_pos (zxx.2 hs),(zxR hl (by unfold zrO; omega)).some_of ho,obs,if_pos rfl,zxN hl h1,obs]
theorem zxT{s:Soc}{out:List Int}(hs:zxv s)(hl:zrO out)(ho:¬ zxO s.Members.length out):zsU s out=some (wk0,2):=by
 have h1:=hs.m5; have h2:=hs.l3;unfold zsU;rw[zxE (by unfold zrO; omega) (by unfold zrO; omega),obs,if_pos (zxx.2 hs),(zxR hl (by unfold zrO; omega)).some_not ho,obs,if_neg (by decide)]; rfl
theorem zxU(n:Nat):zxO n []:=⟨.nil,fun _ h=>by cases h⟩
def zxV(lo hi:Int):List Int:=(List.range (hi - lo+1).toNat).map fun(k:Nat)=>lo+(k:Int)
theorem zxW{lo hi x:Int}:x∈zxV lo hi↔lo<=x/\x<=hi:=by
 unfold zxV;rw[List.mem_map]
 constructor
 ·rintro⟨k,h1,rfl⟩
  have:=List.mem_range.1 h1
  omega
 ·intro h; exact⟨(x - lo).toNat,List.mem_range.2 (by omega),by omega⟩
def zxX(g:Rg->Int)(l:List Rg):Int:=zwj (l.map g)
theorem zxY{l:List Rg}(h:∀r∈l,RgV r):0<=zxX (·.Lo) l/\zxX (·.Lo) l<=zxX (·.Hi) l/\zxX (·.Hi) l<=100000 * l.length/\zxX (·.Hi) l<=zxX (·.Lo) l+30 * l.length:=by
 induction l with
 | nil=>exact⟨Int.le_refl _,Int.le_refl _,Int.le_refl _,Int.le_refl _⟩
 | cons r l ih=>
  have ih:=ih fun r hr=>h r (List.mem_cons_of_mem _ hr);have hr:=h r (List.mem_cons_self ..);unfold RgV at hr;have e1:zxX (·.Lo) (r::l)=r.Lo+zxX (·.Lo) l:=rfl;have e2:zxX (·.Hi) (r::l)=r.Hi+zxX (·.Hi) l:=rfl;rw[e1,e2,List.length_cons]
  omega
def loN(s:Soc):Int:=max 0 (zxX (·.Lo) s.Losses - s.Reserve - s.Treaty.Hi)
def hiN(s:Soc):Int:=max 0 (zxX (·.Hi) s.Losses - s.Reserve - s.Treaty.Lo)
theorem zxZ{s:Soc}(hs:zxv s):0<=loN s/\loN s<=hiN s/\hiN s<=300000/\hiN s<=loN s+120:=by
 have h:=zxY hs.full.ls;have h1:=hs.l3;have h2:=hs.full.tr;have h3:=hs.full.rs;unfold RgV at h2;unfold loN hiN
 omega
theorem zx0{g:Rg->Int}{l:List Rg}{k:Nat}{a:Rg}(h:l[k]? = some a):zxX g (l.take (k+1))=zxX g (l.take k)+g a:=by
 unfold zxX;rw[List.take_add_one,h,List.map_append,zwk]
 show _+(g a+0)=_; omega
theorem zx1{s:Soc}{a b:Int}(h:0<=a/\a<=1000000)(hb:0<=b/\b<=1000000)(hr:0<=s.Reserve/\s.Reserve<=100000):zsV s a b=some (max 0 (a - s.Reserve - b)):=by
 unfold zsV;rw[zqr (fI (by omega)),zqr (fI (by omega))]
theorem zx2{hi:Int}(hh:hi<=1000000):∀(d:Nat) (x:Int),0<=x->(hi - x+1).toNat < d->zsY hi d x=some (zxV x hi)
 | 0,_,_,h=>by omega
 | d+1,x,hx,h=>by
  rw[zsY]
  by_cases hc:x<=hi
  ·rw[if_pos hc,zqr (fI (by omega)),zx2 hh d (x+1) (by omega) (by omega),obs]
   have e:(hi - x+1).toNat=(hi - (x+1)+1).toNat+1:=by omega
   have e2:zxV x hi=x::zxV (x+1) hi:=by
    unfold zxV;rw[e,List.range_succ_eq_map,List.map_cons,List.map_map];refine congr (congrArg List.cons (by show x+((0:Nat):Int)=x; omega)) (List.map_congr_left fun k _=>?_)
    show x+((k+1:Nat):Int)=x+1+(k:Int)
    omega
   rw[e2]
  ·rw[if_neg hc]
   have e:(hi - x+1).toNat=0:=by omega
   unfold zxV; rw[e]; rfl
theorem zx3{s:Soc}(hs:zxv s):zs1 s=some (zxV (loN s) (hiN s)):=by
 have hb:=zxY hs.full.ls;have hn:=zxZ hs;have h3:=hs.l3;have htr:=hs.full.tr;unfold RgV at htr;have hrs:=hs.full.rs
 have e:zs0 s=some (zxV (loN s) (hiN s)):=by
  unfold zs0;refine zv2 (n:=s.Losses.length) (fun d (st:Int × Int) x=>zsZ s d st.1 st.2 x) (fun k=>(zxX (·.Lo) (s.Losses.take k),zxX (·.Hi) (s.Losses.take k))) (fun d k hk=>?_) (fun d=>?_) (s.Losses.length+1) 0 (by omega) (by omega)
  ·have hg:=List.getElem?_eq_getElem hk;have h1:=zxY (l:=s.Losses.take k) fun r hr=>hs.full.ls r (List.mem_of_mem_take hr);have h2:=hs.full.ls _ (List.getElem_mem hk)
   have h4:(s.Losses.take k).length<=3:=by rw[List.length_take]; omega
   unfold RgV at h2
   show zsZ s (d+1) (zxX _ _) (zxX _ _) (k:Int)=zsZ s d (zxX _ _) (zxX _ _) _
   rw[zsZ,if_pos (by omega),zrF hg,obs,zqr (fI (by omega)),zqr (fI (by omega)),zqr (fI (by omega)),zx0 hg,zx0 hg]
  ·show zsZ s (d+1) (zxX _ _) (zxX _ _) _=_
   rw[zsZ,if_neg (Int.lt_irrefl _),List.take_length,zx1 (by omega) (by omega) hrs,obs,zx1 (by omega) (by omega) hrs,obs];exact zx2 (by unfold hiN at hn; omega) _ _ (by omega) (by omega)
 unfold zs1;rw[e]; rfl
end
end Go.Proofs.Ytkclhciahokifaa

namespace Go.Proofs.Ytkclhciahokifaa
open _root_.Go.Proofs.Try
open Go.Abs
set_option maxRecDepth 100000
noncomputable section
def Inc(n fr:Nat)(T:List Int):Prop:=T.Pairwise (· < ·)/\∀v∈T,(fr:Int)<=v/\v < n
theorem Inc.cons{n fr:Nat}{x:Int}{T:List Int}:Inc n fr (x::T)↔((fr:Int)<=x/\x < n)/\Inc n (x+1).toNat T:=by
 unfold Inc;rw[List.pairwise_cons]
 constructor
 ·rintro⟨⟨h1,h2⟩,h3⟩
  have hx:=h3 x (List.mem_cons_self ..);exact⟨hx,h2,fun v hv=>by have:=h1 v hv; have:=h3 v (List.mem_cons_of_mem _ hv); omega⟩
 ·rintro⟨hx,h2,h3⟩
  refine⟨⟨fun v hv=>by have:=h3 v hv; omega,h2⟩,fun v hv=>?_⟩
  rcases List.mem_cons.1 hv with rfl | hv
  ·exact hx
  ·have:=h3 v hv; omega
theorem zx4{n:Nat}{D:List Int}:∀{d:Nat} {pre:List Int} {fr:Nat},D∈zru n d pre fr↔∃T,D=pre++T/\T.length=d/\Inc n fr T
 | 0,pre,fr=>by
  show D∈[pre]↔_
  rw[List.mem_singleton]
  constructor
  ·rintro rfl; exact⟨[],by simp,rfl,.nil,fun v hv=>by cases hv⟩
  ·rintro⟨T,h1,h2,_⟩
   rw[List.eq_nil_of_length_eq_zero h2,List.append_nil] at h1; exact h1
 | d+1,pre,fr=>by
  show D∈zrt (fun x=>zru n d (pre++[(x:Int)]) (x+1)) (n - fr) fr↔_
  rw[zun]
  constructor
  ·rintro⟨x,h1,h2,h3⟩
   obtain⟨T,h4,h5,h6⟩:=zx4.1 h3;refine⟨(x:Int)::T,by rw[h4]; simp,by simp[h5],Inc.cons.2 ⟨by omega,?_⟩⟩;rw[show((x:Int)+1).toNat=x+1 by omega]; exact h6
  ·rintro⟨T,h1,h2,h3⟩
   cases T with
   | nil=>simp at h2
   | cons v T=>
    obtain⟨h4,h5⟩:=Inc.cons.1 h3;refine⟨v.toNat,by omega,by omega,zx4.2 ⟨T,?_,by simpa using h2,?_⟩⟩
    ·rw[show((v.toNat:Nat):Int)=v by omega,h1]; simp
    ·rw[show v.toNat+1=(v+1).toNat by omega]; exact h5
theorem zx5{n:Nat}:∀{T:List Int} {fr:Nat},Inc n fr T->T.length<=n - fr
 | [],_,_=>Nat.zero_le _
 | v::T,fr,h=>by
  obtain⟨h1,h2⟩:=Inc.cons.1 h;have:=zx5 h2
  simp only[List.length_cons]
  omega
theorem zx6{n:Nat}{D:List Int}:D∈zoh n↔Inc n 0 D:=by
 unfold zoh;rw[zun]
 constructor
 ·rintro⟨s,_,_,h⟩
  obtain⟨T,h1,_,h2⟩:=zx4.1 h;rw[h1]; exact h2
 ·intro h;have:=zx5 h;exact⟨D.length,Nat.zero_le _,by omega,zx4.2 ⟨D,rfl,rfl,h⟩⟩
def zx7(b:Nat):Nat->List Int
 | 0=>[]
 | p+1=>zx7 b p++(if b.testBit p then [(p:Int)] else [])
def zx8(b:Nat):List Int:=zx7 b 16
def bef:List Int->List Int->Bool
 | [],[]=>false
 | [],_::_=>true
 | _::_,[]=>false
 | x::a,y::b=>if x=y then bef a b else decide (x < y)
def shB(a b:List Int):Bool:=decide (a.length < b.length) || (decide (a.length=b.length) && bef a b)
theorem zx9:∀A:List Int,bef A A=false
 | []=>rfl
 | x::A=>by show(if x=x then bef A A else _)=_; rw[if_pos rfl,zx9 A]
theorem zya:∀A B:List Int,A=B\/bef A B=true\/bef B A=true
 | [],[]=>.inl rfl
 | [],_::_=>.inr (.inl rfl)
 | _::_,[]=>.inr (.inr rfl)
 | x::A,y::B=>by
  show x::A=y::B\/(if x=y then bef A B else decide (x < y))=true\/(if y=x then bef B A else decide (y < x))=true
  by_cases hxy:x=y
  ·subst hxy;rw[if_pos rfl,if_pos rfl]
   rcases zya A B with h | h | h
   ·exact .inl (by rw[h])
   ·exact .inr (.inl h)
   ·exact .inr (.inr h)
  ·rw[if_neg hxy,if_neg fun h=>hxy h.symm]
   by_cases h:x < y
   ·exact .inr (.inl (decide_eq_true h))
   ·exact .inr (.inr (decide_eq_true (by omega)))
theorem zyb:∀{A B E:List Int},bef A B=true->bef B E=true->bef A E=true
 | [],[],_,h,_=>by cases h
 | [],_::_,[],_,h=>by cases h
 | [],_::_,_::_,_,_=>rfl
 | _::_,[],_,h,_=>by cases h
 | _::_,_::_,[],_,h=>by cases h
 | x::A,y::B,z::E,h1,h2=>by
  have h1':(if x=y then bef A B else decide (x < y))=true:=h1;have h2':(if y=z then bef B E else decide (y < z))=true:=h2
  show(if x=z then bef A E else decide (x < z))=true
  by_cases hxy:x=y
  ·rw[if_pos hxy] at h1'
   by_cases hyz:y=z
   ·rw[if_pos hyz] at h2';rw[if_pos (hxy.trans hyz)]; exact zyb h1' h2'
   ·rw[if_neg hyz] at h2';rw[if_neg (by rw[hxy]; exact hyz)];have:=of_decide_eq_true h2';exact decide_eq_true (by omega)
  ·rw[if_neg hxy] at h1';have h3:=of_decide_eq_true h1'
   by_cases hyz:y=z
   ·rw[if_neg (by omega)]; exact decide_eq_true (by omega)
   ·rw[if_neg hyz] at h2';have:=of_decide_eq_true h2';rw[if_neg (by omega)]; exact decide_eq_true (by omega)
theorem zyc{A B:List Int}:shB A B=true↔A.length < B.length\/(A.length=B.length/\bef A B=true):=by
 unfold shB;rw[Bool.or_eq_true,Bool.and_eq_true,decide_eq_true_eq,decide_eq_true_eq]
theorem zyd{A B E:List Int}(h1:shB A B=true)(h2:shB B E=true):shB A E=true:=by
 rw[zyc] at h1 h2 ⊢
 rcases h1 with h1 | ⟨h1,h3⟩
 ·rcases h2 with h2 | ⟨h2,_⟩
  ·exact .inl (by omega)
  ·exact .inl (by omega)
 ·rcases h2 with h2 | ⟨h2,h4⟩
  ·exact .inl (by omega)
  ·exact .inr ⟨by omega,zyb h3 h4⟩
theorem zye{l:List Int}(h:l ≠ [])(hl:l.length<=1048577):ztt l=some (zrQ l):=by
 unfold ztt
 cases l with
 | nil=>exact absurd rfl h
 | cons x l=>
  rw[if_neg (by rw[List.length_cons]; omega),zrH rfl,obs];refine(zrP (l:=x::l) (fun s a=>min s a) (fun d s k=>zts (x::l) d s k) (fun s=>some s) (fun d k s a hk=>?_) (fun d s=>?_) _ 0 x (Nat.zero_le _) (by omega)).trans ?_
  ·have hkl:=(List.getElem?_eq_some_iff.1 hk).1
   show zts (x::l) (d+1) s (k:Int)=_
   rw[zts,if_pos (by omega),zrF hk,obs]
   by_cases hc:a < s
   ·rw[if_pos hc,zqr (fI (by omega)),Int.min_eq_right (by omega)]
   ·rw[if_neg hc,zqr (fI (by omega)),Int.min_eq_left (by omega)]
  ·show zts (x::l) (d+1) s _=_
   rw[zts,if_neg (Int.lt_irrefl _)]
  ·rw[List.drop_zero]
   show some (l.foldl min (min x x))=_
   rw[Int.min_self]; rfl
theorem zyf{l:List Int}(h:l ≠ [])(hl:l.length<=1048577):ztv l=some (zrR l):=by
 unfold ztv
 cases l with
 | nil=>exact absurd rfl h
 | cons x l=>
  rw[if_neg (by rw[List.length_cons]; omega),zrH rfl,obs];refine(zrP (l:=x::l) (fun s a=>max s a) (fun d s k=>ztu (x::l) d s k) (fun s=>some s) (fun d k s a hk=>?_) (fun d s=>?_) _ 1 x (by rw[List.length_cons]; omega) (by rw[List.length_cons]; omega)).trans ?_
  ·have hkl:=(List.getElem?_eq_some_iff.1 hk).1
   show ztu (x::l) (d+1) s (k:Int)=_
   rw[ztu,if_pos (by omega),zrF hk,obs,zqr (fI (by omega))]
  ·show ztu (x::l) (d+1) s _=_
   rw[ztu,if_neg (Int.lt_irrefl _)]
  ·rfl
theorem zyg{l:List Int}(h:l ≠ []):zrQ l∈l/\∀y∈l,zrQ l<=y:=by
 cases l with
 | nil=>exact absurd rfl h
 | cons x l=>
  obtain⟨h1,h2,h3⟩:=zrS l x;refine⟨?_,fun y hy=>?_⟩
  ·rcases h1 with h1 | h1
   ·show l.foldl min x∈_; rw[h1]; exact List.mem_cons_self ..
   ·exact List.mem_cons_of_mem _ h1
  ·rcases List.mem_cons.1 hy with rfl | hy
   ·exact h2
   ·exact h3 y hy
theorem zyh{l:List Int}(h:l ≠ []):zrR l∈l/\∀y∈l,y<=zrR l:=by
 cases l with
 | nil=>exact absurd rfl h
 | cons x l=>
  obtain⟨h1,h2,h3⟩:=zrT l x;refine⟨?_,fun y hy=>?_⟩
  ·rcases h1 with h1 | h1
   ·show l.foldl max x∈_; rw[h1]; exact List.mem_cons_self ..
   ·exact List.mem_cons_of_mem _ h1
  ·rcases List.mem_cons.1 hy with rfl | hy
   ·exact h2
   ·exact h3 y hy
def bnd(s:Soc)(g:Int->Int):Rg:={ Lo:=zrQ ((zxV (loN s) (hiN s)).map g),Hi:=zrR ((zxV (loN s) (hiN s)).map g) }
def zyi(s:Soc)(out:List Int)(N:Int):Oc:={ need:=N,calls:=mk5 (zxk s.Members (zxI s.Members.length out) N).1 }
theorem zyj{s:Soc}(hs:zxv s):(zxV (loN s) (hiN s)).length<=121:=by
 have:=zxZ hs;unfold zxV; rw[List.length_map,List.length_range]; omega
theorem zyk{s:Soc}(hs:zxv s):zxV (loN s) (hiN s) ≠ []:=fun h=>by
 have:=zxZ hs;have:loN s∈zxV (loN s) (hiN s):=zxW.2 (by omega)
 rw[h] at this; cases this
theorem zyl{s:Soc}(hs:zxv s)(g:Int->Int):(∃N,(loN s<=N/\N<=hiN s)/\g N=(bnd s g).Lo)/\(∃N,(loN s<=N/\N<=hiN s)/\g N=(bnd s g).Hi)/\∀N,loN s<=N/\N<=hiN s->(bnd s g).Lo<=g N/\g N<=(bnd s g).Hi:=by
 have hne:(zxV (loN s) (hiN s)).map g ≠ []:=fun h=>zyk hs (List.map_eq_nil_iff.1 h);obtain⟨a1,a2⟩:=zyg hne;obtain⟨b1,b2⟩:=zyh hne;obtain⟨x,hx,ex⟩:=List.mem_map.1 a1;obtain⟨y,hy,ey⟩:=List.mem_map.1 b1;exact⟨⟨x,zxW.1 hx,ex⟩,⟨y,zxW.1 hy,ey⟩,fun N hN=>⟨a2 _ (List.mem_map.2 ⟨N,zxW.2 hN,rfl⟩),b2 _ (List.mem_map.2 ⟨N,zxW.2 hN,rfl⟩)⟩⟩
theorem zym{s:Soc}(hs:zxv s):bnd s (fun N=>N)={ Lo:=loN s,Hi:=hiN s }:=by
 obtain⟨⟨x,hx,ex⟩,⟨y,hy,ey⟩,h⟩:=zyl hs fun N=>N;have hb:=zxZ hs;have h1:=(h (loN s) ⟨Int.le_refl _,hb.2.1⟩).1;have h2:=(h (hiN s) ⟨hb.2.1,Int.le_refl _⟩).2
 have e1:(bnd s fun N=>N).Lo=loN s:=by omega
 have e2:(bnd s fun N=>N).Hi=hiN s:=by omega
 revert e1 e2
 generalize bnd s (fun N=>N)=r;intro e1 e2
 cases r
 exact congr (congrArg Rg.mk e1) e2
theorem zyn{s:Soc}(hs:zxv s)(out:List Int){N:Int}(hN:0<=N/\N<=1000000):ztp (zxJ s out) N=some (zyi s out N):=zxm (w:=zxJ s out) hs.msOk rfl (zxK s.Members out) hN
theorem zyo{s:Soc}(hs:zxv s){out:List Int}{q:Qu}{g:Int->Int}(hg:∀N,loN s<=N->N<=hiN s->q.ask (zyi s out N)=some (g N)) :
  ∀(L:List Int) (acc:List Int),(∀N∈L,loN s<=N/\N<=hiN s)->acc.length+L.length<=1000->acc++L.map g ≠ []->ztw (zxJ s out) q L acc=some { Lo:=zrQ (acc++L.map g),Hi:=zrR (acc++L.map g) }
 | [],acc,_,hl,hne=>by
  rw[List.map_nil,List.append_nil] at hne ⊢;rw[ztw,zye hne (by omega),obs,zyf hne (by omega),obs]
 | N::L,acc,hN,hl,hne=>by
  have h1:=hN N (List.mem_cons_self ..);have hb:=zxZ hs;rw[List.length_cons] at hl;rw[ztw,zyn hs out (by omega),obs,hg N h1.1 h1.2,obs,zqr (by omega),zyo hs hg L (acc++[g N]) (fun x hx=>hN x (List.mem_cons_of_mem _ hx)) (by rw[List.length_append]; show acc.length+1+_<=_; omega) (by simp)];rw[List.map_cons,List.append_assoc]; rfl
theorem zyp{s:Soc}(hs:zxv s){out:List Int}{q:Qu}{g:Int->Int}(hg:∀N,loN s<=N->N<=hiN s->q.ask (zyi s out N)=some (g N)):ztx (zxJ s out) q=some (bnd s g):=by
 unfold ztx;rw[show(zxJ s out).s=s from rfl,zx3 hs,obs];have hl:=zyj hs;exact zyo hs hg _ [] (fun N hN=>zxW.1 hN) (by show 0+_<=_; omega) (fun h=>zyk hs (List.map_eq_nil_iff.1 h))
theorem zyq{s:Soc}(hs:zxv s):ztF s=some ({ Lo:=loN s,Hi:=hiN s },0):=by
 unfold ztF;rw[zxS hs (Nat.zero_le _) (zxU _),obs,if_pos rfl,zyp hs (g:=fun N=>N) (fun N _ _=>rfl),obs,zym hs]
theorem zyr{s:Soc}(hs:zxv s)(out:List Int){N:Int}(hN:0<=N/\N<=1000000):zte (zyi s out N)=some (zxk s.Members (zxI s.Members.length out) N).2:=by
 have hsup:=zxK s.Members out;have h1:=zxq hs.msOk hsup hN
 have hb:Bd 1000000000000 (zxk s.Members (zxI s.Members.length out) N).1:=fun i hi=>by have:=zxt hs.msOk hsup hN hi; omega
 have hb5:=fun i hi=>zxt hs.msOk hsup hN (i:=i) hi;have b0:=hb5 0 (by omega); have b1:=hb5 1 (by omega); have b2:=hb5 2 (by omega); have b3:=hb5 3 (by omega); have b4:=hb5 4 (by omega)
 have hS:0<=S5 (zxk s.Members (zxI s.Members.length out) N).1/\S5 (zxk s.Members (zxI s.Members.length out) N).1<=500000:=by unfold S5; omega
 unfold zte
 show(zs3 (mk5 (zxk s.Members (zxI s.Members.length out) N).1)).bind _=_
 rw[zwb hb,obs,zqr (fI (by show -9223372036854775808<=N - S5 _/\N - S5 _ < _; omega))];exact congrArg some (show N - S5 (zxk s.Members (zxI s.Members.length out) N).1=_ by omega)
def zys(s:Soc)(out:List Int)(N:Int):List Int:=(l5 (zxk s.Members (zxI s.Members.length out) N).1).take s.Members.length
theorem zyt{s:Soc}(out:List Int)(N:Int)(h5:s.Members.length<=5):(zys s out N).length=s.Members.length:=by
 unfold zys; rw[List.length_take]; show min _ 5=_; omega
theorem zyu{s:Soc}(hs:zxv s){N:Int}(hN:0<=N/\N<=300000):ztH s N=some (zys s [] N,(zxk s.Members (zxI s.Members.length []) N).2,0):=by
 have h5:=hs.m5;unfold ztH;rw[zxS hs (Nat.zero_le _) (zxU _),obs,if_pos rfl,zxy.some_of hN,obs,if_pos rfl]
 show(ztp (zxJ s []) N).bind _=_
 rw[zyn hs [] (by omega),obs,zqr (by omega)]
 have e:ztG ((([(zyi s [] N).calls.p0,(zyi s [] N).calls.p1,(zyi s [] N).calls.p2,(zyi s [] N).calls.p3,(zyi s [] N).calls.p4]:List Int).take (Int.toNat (s.Members.length:Int))).drop (Int.toNat (0:Int)))=some (zys s [] N):=by
  have hl:=zyt [] N h5
  show ztG (zys s [] N)=_
  unfold ztG;rw[zqr (by rw[hl]; show 0+_<=_; omega)]; rfl
 rw[e,obs,zyr hs [] (by omega),obs]
theorem zyv{s:Soc}(hs:zxv s){N:Int}(hN:¬ (0<=N/\N<=300000)):ztH s N=some ([],0,2):=by
 unfold ztH;rw[zxS hs (Nat.zero_le _) (zxU _),obs,if_pos rfl,zxy.some_not hN,obs,if_neg (by decide)]
theorem zyw{s:Soc}(hs:zxv s)(out:List Int)(N:Int){k:Nat}(hk:k < s.Members.length):ztq (zyi s out N) (k:Int)=some ((zxk s.Members (zxI s.Members.length out) N).1 k):=by
 have h5:=hs.m5;unfold ztq
 show(idx (l5 (zxk s.Members (zxI s.Members.length out) N).1) (k:Int)).bind _=_
 rw[zv4 (by omega),obs]
def zyx(s:Soc)(out:List Int):List Rg:=(List.range s.Members.length).map fun k=>bnd s fun N=>(zxk s.Members (zxI s.Members.length out) N).1 k
theorem zyy{s:Soc}(out:List Int):(zyx s out).length=s.Members.length:=by unfold zyx; rw[List.length_map,List.length_range]
theorem zyz{s:Soc}(out:List Int){k:Nat}(hk:k < s.Members.length):(zyx s out)[k]? = some (bnd s fun N=>(zxk s.Members (zxI s.Members.length out) N).1 k):=by
 unfold zyx; rw[List.getElem?_map,List.getElem?_range hk]; rfl
theorem zyA{s:Soc}(hs:zxv s){out:List Int}(hl:zrO out)(ho:zxO s.Members.length out):ztJ s out=some (zyx s out,0):=by
 have h5:=hs.m5;unfold ztJ;rw[zxS hs hl ho,obs,if_pos rfl];refine zv2 (n:=s.Members.length) (fun d acc x=>ztI s (zxJ s out,0) d acc x) (fun k=>(zyx s out).take k) (fun d k hk=>?_) (fun d=>?_) (s.Members.length+1) 0 (by omega) (by omega)
 ·show ztI s (zxJ s out,0) (d+1) _ _=_
  have hb:ztr (k:Int)=some (fun o=>ztq o (k:Int)):=rfl;rw[ztI,if_pos (by omega),hb,obs]
  show(ztx (zxJ s out) _).bind _=_
  rw[zyp hs (g:=fun N=>(zxk s.Members (zxI s.Members.length out) N).1 k) (fun N _ _=>zyw hs out N hk),obs,zqr (by rw[List.length_take]; omega),zqr (fI (by omega))];rw[List.take_add_one,zyz out hk]; rfl
 ·show ztI s (zxJ s out,0) (d+1) _ _=_
  rw[ztI,if_neg (Int.lt_irrefl _),List.take_of_length_le (by rw[zyy]; exact Nat.le_refl _)]
theorem zyB{s:Soc}(hs:zxv s){out:List Int}(hl:zrO out)(ho:¬ zxO s.Members.length out):ztJ s out=some ([],2):=by
 unfold ztJ;rw[zxT hs hl ho,obs,if_neg (by decide)]
theorem zyC{s:Soc}(hs:zxv s):ztK s=some (zyx s [],0):=by
 unfold ztK;rw[zyA hs (Nat.zero_le _) (zxU _),obs]
def zyD(s:Soc)(out:List Int)(N:Int):Int:=(zxk s.Members (zxI s.Members.length out) N).2
theorem zyE{s:Soc}(hs:zxv s):ztL s=some (bnd s (zyD s []),0):=by
 have hb:=zxZ hs;unfold ztL;rw[zxS hs (Nat.zero_le _) (zxU _),obs,if_pos rfl,zyp hs (g:=zyD s []) (fun N h1 h2=>zyr hs [] (by omega)),obs]
theorem zyF{s:Soc}(hs:zxv s)(out:List Int):zty (zxJ s out)=some (hiN s):=by
 unfold zty;rw[zyp hs (g:=fun N=>N) (fun N _ _=>rfl),obs,zym hs]
theorem zyG(a:Mb){r t:Int}(hu:0<=unN a)(h:r<=t):min (unN a * r / 100) a.Most<=min (unN a * t / 100) a.Most:=by
 have h1:unN a * r<=unN a * t:=Int.mul_le_mul_of_nonneg_left h hu;have h2:=Int.ediv_le_ediv (c:=100) (by omega) h1
 omega
def brN(ms:List Mb)(rate:Int):Int:=zwj (ms.map fun a=>min (unN a * rate / 100) a.Most)
theorem zyH{ms:List Mb}(hm:∀a∈ms,zw0 a){r:Int}(hr:0<=r/\r<=10000):0<=brN ms r/\brN ms r<=100000 * ms.length:=by
 induction ms with
 | nil=>exact⟨Int.le_refl _,Int.le_refl _⟩
 | cons a ms ih=>
  have ih:=ih fun a ha=>hm a (List.mem_cons_of_mem _ ha);have ha:=hm a (List.mem_cons_self ..);have hu:=zw2 ha;have hmo:=ha.most;have h1:0<=unN a * r / 100:=Int.ediv_nonneg (Int.mul_nonneg (by omega) hr.1) (by omega);have e:brN (a::ms) r=min (unN a * r / 100) a.Most+brN ms r:=rfl;rw[e,List.length_cons]; omega
theorem zyI{ms:List Mb}(hm:∀a∈ms,zw0 a){r t:Int}(h:r<=t):brN ms r<=brN ms t:=by
 induction ms with
 | nil=>exact Int.le_refl _
 | cons a ms ih=>
  have ih:=ih fun a ha=>hm a (List.mem_cons_of_mem _ ha);have h2:=zyG a (by have:=zw2 (hm a (List.mem_cons_self ..)); omega) h
  show min _ _+brN ms r<=min _ _+brN ms t
  omega
theorem zyJ{ms:List Mb}{r:Int}{k:Nat}{a:Mb}(h:ms[k]? = some a):brN (ms.take (k+1)) r=brN (ms.take k) r+min (unN a * r / 100) a.Most:=by
 unfold brN;rw[List.take_add_one,h,List.map_append,zwk]
 show _+(min (unN a * r / 100) a.Most+0)=_
 rw[Int.add_zero]
theorem zyK{s:Soc}(hs:zxv s)(out:List Int){r:Int}(hr:0<=r/\r<=10000):ztA (zxJ s out) r=some (brN s.Members r):=by
 have h5:=hs.m5;unfold ztA;refine zv2 (n:=s.Members.length) (fun d acc x=>ztz (zxJ s out) r d acc x) (fun k=>brN (s.Members.take k) r) (fun d k hk=>?_) (fun d=>?_) (s.Members.length+1) 0 (by omega) (by omega)
 ·have hg:=List.getElem?_eq_getElem hk;have ha:=hs.full.ms _ (List.getElem_mem hk);have hu:=zw2 ha;have hmo:=ha.most;have hb:=zyH (ms:=s.Members.take k) (fun a ha=>hs.full.ms a (List.mem_of_mem_take ha)) hr
  have hlk:(s.Members.take k).length<=5:=by rw[List.length_take]; omega
  have hm:=zwC (a:=unN s.Members[k]) (x:=r) (A:=10000) (X:=10000) (by omega) hr;have hq:0<=unN s.Members[k] * r / 100:=Int.ediv_nonneg hm.1 (by omega)
  have hun:ztg s.Members[k]=some (unN s.Members[k]):=by
   have h1:=ha.sum; have h2:=ha.cls;unfold unN at hu;unfold ztg unN;rw[zqr (by omega),zqr (by omega),zqr (fI (by omega))]
  show ztz (zxJ s out) r (d+1) _ _=_
  rw[ztz,if_pos (show(k:Int) < ((zxJ s out).s.Members.length:Int) by show(k:Int) < (s.Members.length:Int); omega),show idx (zxJ s out).s.Members (k:Int)=some s.Members[k] from zrF hg,obs,hun,obs,zqr (by omega),zqr hr.1,zqr (fI (by omega)),zqr hm.1,zqr (by omega),zqr (fI (by omega)),zqr (fI (by omega)),zqr (fI (by omega)),zyJ hg]
 ·show ztz (zxJ s out) r (d+1) _ _=_
  rw[ztz,if_neg (show ¬ ((s.Members.length:Nat):Int) < ((zxJ s out).s.Members.length:Int) from Int.lt_irrefl _),List.take_length]
def zyL(s:Soc)(r:Int):Bool:=decide (hiN s<=brN s.Members r)
theorem zyM{s:Soc}(hs:zxv s){r:Int}(hr:0<=r/\r<=10000):ztB (zxJ s []) r=some (zyL s r):=by
 unfold ztB;rw[zyK hs [] hr,obs,zyF hs,obs]; rfl
theorem zyN{p:Int->Option Bool}{f:Nat->Bool}{n:Nat}(hn:n<=1000000)(hp:∀m,m < n->p (m:Int)=some (f m))(hm:∀m k,m<=k->k < n->f m=true->f k=true):∀d (i j:Nat),i<=j->j<=n->j - i < d->(∀m,m < i->f m=false)->(∀m,j<=m->m < n->f m=true) ->
  ∃k:Nat,ztD p d (i:Int) (j:Int)=some (k:Int)/\k<=n/\(∀m,m < k->f m=false)/\(∀m,k<=m->m < n->f m=true)
 | 0,_,_,_,_,h,_,_=>by omega
 | d+1,i,j,hij,hj,h,hlo,hhi=>by
  rw[ztD]
  by_cases hc:i < j
  ·obtain⟨md,hmd⟩:∃md:Nat,md=(i+j) / 2:=⟨_,rfl⟩
   have hf:zl6 .u64 ((i:Int)+j):=show _/\_ by constructor <;> omega
   have e:zmb .i64 (zmb .u64 ((i:Int)+j) / 2)=(md:Int):=by
    rw[wz hf,wz (fI (by omega))]; omega
   rw[if_pos (by omega),zqr (fI (by omega)),zqr (by rw[wz hf]; omega),zqr (by omega),zqr (by omega),zqr (by rw[wz hf]; exact show _/\_ by constructor <;> omega),e,hp md (by omega),obs]
   cases hq:f md with
   | true=>
    rw[if_pos rfl];exact zyN hn hp hm d i md (by omega) (by omega) (by omega) hlo fun m h1 h2=>hm md m h1 h2 hq
   | false=>
    rw[if_neg (by decide),zqr (fI (by omega)),show(md:Int)+1=((md+1:Nat):Int) by omega]
    exact zyN hn hp hm d (md+1) j (by omega) hj (by omega) (fun m h1=>by
     cases hq2:f m with
     | false=>rfl
     | true=>have:=hm m md (by omega) (by omega) hq2; rw[hq] at this; cases this) hhi
  ·rw[if_neg (by omega)];exact⟨i,rfl,by omega,hlo,fun m h1 h2=>hhi m (by omega) h2⟩
theorem zyO{s:Soc}(hs:zxv s):∃k:Nat,ztE 10001 (fun r=>ztB (zxJ s []) r)=some (k:Int)/\k<=10001/\(∀m:Nat,m < k->zyL s m=false)/\(∀m:Nat,k<=m->m < 10001->zyL s m=true):=by
 unfold ztE
 exact zyN (n:=10001) (f:=fun m=>zyL s (m:Int)) (by omega) (fun m hm=>zyM hs (by omega)) (fun m k h1 h2 h3=>by
  have h4:hiN s<=brN s.Members (m:Int):=of_decide_eq_true h3;have h5:=zyI hs.full.ms (r:=(m:Int)) (t:=(k:Int)) (by omega)
  exact decide_eq_true (by omega)) _ 0 10001 (by omega) (by omega) (by omega) (fun m h=>by omega) (fun m h1 h2=>by omega)
theorem zyP{s:Soc}(hs:zxv s):(∃k:Nat,ztM s=some ((k:Int),0)/\k<=10000/\hiN s<=brN s.Members (k:Int)/\∀m:Nat,m < k->brN s.Members (m:Int) < hiN s)\/(ztM s=some (0,10)/\∀m:Nat,m<=10000->brN s.Members (m:Int) < hiN s):=by
 obtain⟨k,h1,h2,h3,h4⟩:=zyO hs
 have lt:∀m:Nat,zyL s (m:Int)=false->brN s.Members (m:Int) < hiN s:=fun m h=>by
  have:=of_decide_eq_false h; omega
 unfold ztM;rw[zxS hs (Nat.zero_le _) (zxU _),obs,if_pos rfl]
 show(∃k':Nat,(ztE 10001 (fun r=>ztB (zxJ s []) r)).bind _=_/\_)\/((ztE 10001 (fun r=>ztB (zxJ s []) r)).bind _=_/\_)
 rw[h1,obs]
 by_cases hk:k<=10000
 ·rw[if_neg (by omega)];exact .inl ⟨k,rfl,hk,of_decide_eq_true (h4 k (Nat.le_refl _) (by omega)),fun m hm=>lt m (h3 m hm)⟩
 ·rw[if_pos (by omega)];exact .inr ⟨rfl,fun m hm=>lt m (h3 m (by omega))⟩
def zyQ(s:Soc)(l:List Int):Bool:=decide (0 < (bnd s (zyD s l)).Hi)
theorem zyR{s:Soc}(hs:zxv s){l:List Int}(hl:zrO l):ztC s l=some (zyQ s l):=by
 have hb:=zxZ hs;unfold ztC;rw[zxN hl hs.m5,obs,zyp hs (g:=zyD s l) (fun N h1 h2=>zyr hs l (by omega)),obs]; rfl
theorem zyS{s:Soc}(hs:zxv s)(h:hiN s=0):ztN s=some ([],7):=by
 unfold ztN;rw[zxS hs (Nat.zero_le _) (zxU _),obs,if_pos rfl,zyF hs,obs,if_pos h]
theorem zyT{s:Soc}(hs:zxv s)(h:hiN s ≠ 0):ztN s=some (zrv s.Members.length (zyQ s),0):=by
 have h5:=hs.m5
 have hlen:∀L∈zoh s.Members.length,zrO L:=fun L hL=>by have:=zx5 (zx6.1 hL); unfold zrO; omega
 unfold ztN;rw[zxS hs (Nat.zero_le _) (zxU _),obs,if_pos rfl,zyF hs,obs,if_neg h];unfold zrw;rw[zqr ⟨by omega,by omega,fun L hL=>by show(ztC s L).isSome=true; rw[zyR hs (hlen L hL)]; rfl⟩,obs];refine congrArg (fun x=>some (x,(0:Int))) ?_
 have e:(zoh s.Members.length).find? (fun L=>((ztC s L)).getD false)=(zoh s.Members.length).find? (zyQ s):=by
  have:∀l:List (List Int),(∀L∈l,zrO L)->l.find? (fun L=>((ztC s L)).getD false)=l.find? (zyQ s):=by
   intro l
   induction l with
   | nil=>intro _; rfl
   | cons L l ih=>
    intro hl
    have h1:(ztC s L).getD false=zyQ s L:=by rw[zyR hs (hl L (List.mem_cons_self ..))]; rfl
    rw[List.find?_cons,List.find?_cons,h1,ih fun L hL=>hl L (List.mem_cons_of_mem _ hL)]
  exact this _ hlen
 show zrv s.Members.length (fun L=>((ztC s L)).getD false)=_
 unfold zrv;rw[e]
theorem zyU{a b:List Int}(hl:a.length<=1000):∀(d k:Nat),k<=a.length->a.length - k < d->zsj a b d (k:Int)=some (bef (a.drop k) (b.drop k))
 | 0,_,_,h=>by omega
 | d+1,k,hk,h=>by
  rw[zsj]
  by_cases hka:k < a.length
  ·rw[if_pos (by omega)];have da:=List.drop_eq_getElem_cons hka;have ga:=List.getElem?_eq_getElem hka
   by_cases hkb:k < b.length
   ·have db:=List.drop_eq_getElem_cons hkb;have gb:=List.getElem?_eq_getElem hkb;rw[if_pos (by omega),zrF ga,obs,zrF gb,obs,da,db];unfold bef
    by_cases he:a[k]=b[k]
    ·rw[if_pos he,if_pos he,zqr (fI (by omega)),show(k:Int)+1=((k+1:Nat):Int) by omega];exact zyU hl d (k+1) (by omega) (by omega)
    ·rw[if_neg he,if_neg he,obs,obs]
   ·rw[if_neg (by omega),da,List.drop_eq_nil_of_le (show b.length<=k by omega),decide_eq_false (by omega)]; rfl
  ·rw[if_neg (by omega),List.drop_eq_nil_of_le (show a.length<=k by omega)]
   by_cases hkb:k < b.length
   ·rw[List.drop_eq_getElem_cons hkb,decide_eq_true (by omega)]; rfl
   ·rw[List.drop_eq_nil_of_le (show b.length<=k by omega),decide_eq_false (by omega)]; rfl
theorem zyV{a b:List Int}(hl:a.length<=1000):zsk a b=some (bef a b):=zyU hl (a.length+1) 0 (Nat.zero_le _) (by omega)
theorem zyW{a b:List Int}(hl:a.length<=1000):zsl a b=some (shB a b):=by
 unfold zsl shB
 by_cases h1:a.length < b.length
 ·rw[if_pos (by omega),decide_eq_true h1]; rfl
 ·rw[if_neg (by omega),decide_eq_false h1]
  by_cases h2:a.length=b.length
  ·rw[if_pos (by omega),zyV hl,decide_eq_true h2]; simp
  ·rw[if_neg (by omega),decide_eq_false h2]; simp
theorem zyX{a b:List Int}(hl:a.length=b.length):(bef a b=false/\bef b a=false)↔a=b:=by
 constructor
 ·rintro⟨h1,h2⟩
  rcases zya a b with h | h | h
  ·exact h
  ·rw[h1] at h; cases h
  ·rw[h2] at h; cases h
 ·rintro rfl; exact⟨zx9 _,zx9 _⟩
theorem zyY{a b:List Int}(ha:a.length<=1000)(hb:b.length<=1000):zsm a b=some (decide (a=b)):=by
 unfold zsm
 by_cases hl:a.length=b.length
 ·rw[if_pos (by omega),zyV ha,obs];have h:=zyX hl
  cases h1:bef a b with
  | true=>rw[if_pos rfl,decide_eq_false fun he=>by have:=(h.2 he).1; rw[h1] at this; cases this]
  | false=>
   rw[if_neg (by decide),zyV hb,obs]
   cases h2:bef b a with
   | true=>rw[decide_eq_false fun he=>by have:=(h.2 he).2; rw[h2] at this; cases this]; rfl
   | false=>rw[decide_eq_true (h.1 ⟨h1,h2⟩)]; rfl
 ·rw[if_neg (by omega),decide_eq_false fun he=>hl (by rw[he])]
def zyZ(most:Int):Soc:={ Members:=[{ Sum:=100,Class:=2,Most:=most },{ Sum:=100,Class:=1,Most:=60 },{ Sum:=50,Class:=2,Most:=most }],Losses:=[{ Lo:=200,Hi:=210 },{ Lo:=90,Hi:=90 }],Treaty:={ Lo:=20,Hi:=25 },Reserve:=30 }
theorem zy0(most:Int):ztS most=some (zyZ most):=rfl
theorem zy1{most:Int}(h:0<=most/\most<=100000):zxv (zyZ most):=by
 refine⟨Nat.le_of_ble_eq_true rfl,Nat.le_of_ble_eq_true rfl,Nat.le_of_ble_eq_true rfl,fun a ha=>?_,fun r hr=>?_,by show RgV ⟨20,25⟩; decide,by show(0:Int)<=30/\(30:Int)<=_; omega⟩
 ·rcases List.mem_cons.1 ha with rfl | ha
  ·exact⟨by show(1:Int)<=100/\(100:Int)<=1000; omega,by show(1:Int)<=2/\(2:Int)<=10; omega,h⟩
  rcases List.mem_cons.1 ha with rfl | ha
  ·exact⟨by decide,by decide,by decide⟩
  rcases List.mem_cons.1 ha with rfl | ha
  ·exact⟨by show(1:Int)<=50/\(50:Int)<=1000; omega,by show(1:Int)<=2/\(2:Int)<=10; omega,h⟩
  ·cases ha
 ·rcases List.mem_cons.1 hr with rfl | hr
  ·decide
  rcases List.mem_cons.1 hr with rfl | hr
  ·decide
  ·cases hr
theorem f64{n:Int}(h:-1000000<=n/\n<=1000000):zl6 .i64 n:=fI (by omega)
theorem zy2:ztT=some true:=by
 have h5:zxv (zyZ 500):=zy1 (by omega);have h1:zxv (zyZ 150):=zy1 (by omega)
 have n5:ztF (zyZ 500)=some ({ Lo:=235,Hi:=250 },0):=by
  rw[zyq h5]
  have e1:loN (zyZ 500)=235:=by decide +kernel
  have e2:hiN (zyZ 500)=250:=by decide +kernel
  rw[e1,e2]
 have c5:ztH (zyZ 500) 250=some ([127,60,63],0,0):=by
  rw[zyu h5 (by omega)]
  have e1:zys (zyZ 500) [] 250=[127,60,63]:=by decide +kernel
  have e2:(zxk (zyZ 500).Members (zxI (zyZ 500).Members.length []) 250).2=0:=by decide +kernel
  rw[e1,e2]
 have b5:ztK (zyZ 500)=some (zyx (zyZ 500) [],0):=zyC h5
 have eb:zyx (zyZ 500) []=[{ Lo:=117,Hi:=127 },{ Lo:=59,Hi:=60 },{ Lo:=59,Hi:=63 }]:=by
  have e1:(zyx (zyZ 500) []).map (·.Lo)=[117,59,59]:=by decide +kernel
  have e2:(zyx (zyZ 500) []).map (·.Hi)=[127,60,63]:=by decide +kernel
  have e3:(zyx (zyZ 500) []).length=3:=zyy []
  revert e1 e2 e3
  generalize zyx (zyZ 500) []=l;intro e1 e2 e3
  match l,e3 with
  | [⟨a1,a2⟩,⟨b1,b2⟩,⟨c1,c2⟩],_=>
   simp only[List.map_cons,List.map_nil,List.cons.injEq,and_true] at e1 e2
   obtain⟨rfl,rfl,rfl⟩:=e1;obtain⟨rfl,rfl,rfl⟩:=e2
   rfl
 have r5:ztM (zyZ 500)=some (64,0):=by
  have m63:brN (zyZ 500).Members 63 < 250:=by decide +kernel
  have m64:250<=brN (zyZ 500).Members 64:=by decide +kernel
  have e2:hiN (zyZ 500)=250:=by decide +kernel
  rcases zyP h5 with ⟨k,q1,q2,q3,q4⟩ | ⟨q1,q2⟩
  ·rw[e2] at q3 q4
   have hk:k=64:=by
    apply Classical.byContradiction
    intro hne
    rcases Nat.lt_or_ge k 64 with h | h
    ·have:=zyI h5.full.ms (r:=(k:Int)) (t:=63) (by omega); omega
    ·have:=q4 64 (by omega);have e:((64:Nat):Int)=64:=rfl;rw[e] at this; omega
   subst hk; exact q1
  ·have:=q2 64 (by omega);have e:((64:Nat):Int)=64:=rfl;rw[e2,e] at this; omega
 have x5:ztN (zyZ 500)=some ([0,2],0):=by
  rw[zyT h5 (by decide +kernel)]
  have e:zrv (zyZ 500).Members.length (zyQ (zyZ 500))=[0,2]:=by decide +kernel
  rw[e]
 have x1:ztN (zyZ 150)=some ([0],0):=by
  rw[zyT h1 (by decide +kernel)]
  have e:zrv (zyZ 150).Members.length (zyQ (zyZ 150))=[0]:=by decide +kernel
  rw[e]
 unfold ztT;rw[zy0,obs,n5,obs,obs,c5,obs,obs,b5,obs,obs,r5,obs,obs,x5,obs,zy0,obs,x1,obs,eb];have s1:zsm [127,60,63] [127,60,63]=some true:=zyY (by decide) (by decide);have s2:zsm [0,2] [0,2]=some true:=zyY (by decide) (by decide);have s3:zsm [0] [0]=some true:=zyY (by decide) (by decide);have f:∀n:Int,-1000000<=n/\n<=1000000->zl6 .i64 n:=fun n h=>f64 h
 simp only[ztR,obs,zqr (f 235 (by omega)),zqr (f 250 (by omega)),zqr (f 117 (by omega)),zqr (f 127 (by omega)),zqr (f 59 (by omega)),zqr (f 60 (by omega)),zqr (f 63 (by omega)),s1,s2,s3]
 simp[idx]
 rw[zqr (f 117 (by omega)),zqr (f 127 (by omega)),zqr (f 59 (by omega)),zqr (f 60 (by omega)),zqr (f 59 (by omega)),zqr (f 63 (by omega))]
theorem awk{β:Type}{f:Bool->Option β}:(ztT).bind f=f true:=by rw[zy2,obs]
structure zy3 (s:Soc) (t:Tr):Prop where
 len:t.Losses.length=s.Losses.length
 at_:∀(k:Nat) (r:Rg) (x:Int),s.Losses[k]? = some r->t.Losses[k]? = some x->r.Lo<=x/\x<=r.Hi
 tr:s.Treaty.Lo<=t.Treaty/\t.Treaty<=s.Treaty.Hi
def zy4(s:Soc)(t:Tr):Int:=max 0 (zwj t.Losses - s.Reserve - t.Treaty)
theorem zy5{s:Soc}{t:Tr}(h3:s.Losses.length<=1000):Ev (zsM s t) (zy3 s t):=by
 unfold zsM
 by_cases hl:t.Losses.length=s.Losses.length
 ·rw[if_pos (by omega)];refine(Ev.loop (n:=s.Losses.length) (F:=fun d x=>zsL s t d x) (ok:=fun k=>∀(r:Rg) (x:Int),s.Losses[k]? = some r->t.Losses[k]? = some x->r.Lo<=x/\x<=r.Hi) (fin:=(zsn s.Treaty t.Treaty).bind fun r=>some r) (P:=s.Treaty.Lo<=t.Treaty/\t.Treaty<=s.Treaty.Hi) (fun d k hk=>?_) (fun d=>?_) (by omega) fun _=>zxy.ret).imp ?_
  ·have h1:=List.getElem?_eq_getElem hk;have h2:=List.getElem?_eq_getElem (show k < t.Losses.length by omega)
   show(_->zsL s t (d+1) (k:Int)=_)/\_
   rw[zsL,if_pos (by omega),zrF h1,obs,zrF h2,obs];have:=Ev.step (f:=fun r=>if r=true then gd (zl6 .i64 ((k:Int)+1)) (zsL s t d ((k:Int)+1)) else some false) (zxy (r:=s.Losses[k]) (n:=t.Losses[k])) (by rw[if_pos rfl,zqr (fI (by omega))]) (by rw[if_neg (by decide)]);exact⟨fun h=>this.1 (h _ _ h1 h2),fun h=>this.2 fun h4=>h fun r x hr hx=>by rw[h1] at hr; rw[h2] at hx; cases hr; cases hx; exact h4⟩
  ·show zsL s t (d+1) _=_
   rw[zsL,if_neg (Int.lt_irrefl _)]
  ·exact⟨fun⟨h1,h2⟩=>⟨hl,fun k r x hr hx=>h1 k (List.getElem?_eq_some_iff.1 hr).1 r x hr hx,h2⟩,fun h=>⟨fun k _ r x hr hx=>h.at_ k r x hr hx,h.tr⟩⟩
 ·rw[if_neg (by omega)]; exact Ev.ff fun h=>hl h.len
theorem zy6{l:List Int}{k:Nat}{a:Int}(h:l[k]? = some a):zwj (l.take (k+1))=zwj (l.take k)+a:=by
 rw[List.take_add_one,h,zwk]
 show _+(a+0)=_; omega
theorem zy7{s:Soc}(hs:zxv s){t:Tr}(ht:zy3 s t):∀x∈t.Losses,0<=x/\x<=100000:=fun x hx=>by
 obtain⟨k,hk⟩:=List.mem_iff_getElem?.1 hx;have hlt:=(List.getElem?_eq_some_iff.1 hk).1;have hr:=List.getElem?_eq_getElem (show k < s.Losses.length by have:=ht.len; omega);have h1:=ht.at_ k _ x hr hk;have h2:=hs.full.ls _ (List.getElem_mem (show k < s.Losses.length by have:=ht.len; omega));unfold RgV at h2; omega
theorem zy8{l:List Int}{B:Int}(h:∀x∈l,0<=x/\x<=B):0<=zwj l/\zwj l<=B * l.length:=by
 induction l with
 | nil=>exact⟨Int.le_refl _,by show(0:Int)<=B * ((0:Nat):Int); simp⟩
 | cons a l ih=>
  have ih:=ih fun x hx=>h x (List.mem_cons_of_mem _ hx);have:=h a (List.mem_cons_self ..)
  show 0<=a+zwj l/\a+zwj l<=_
  rw[List.length_cons,Int.natCast_add,Int.mul_add]
  show _/\_<=_+B * 1
  omega
theorem zy9{s:Soc}(hs:zxv s){t:Tr}(ht:zy3 s t):zsX s t=some (zy4 s t,0):=by
 have h1:=hs.m5; have h2:=hs.l3;have htr:=hs.full.tr;unfold RgV at htr;have htt:=ht.tr;have hb:=zy7 hs ht;have hl:=ht.len;unfold zsX;rw[zxE (by unfold zrO; omega) (by unfold zrO; omega),obs,if_pos (zxx.2 hs),(zy5 (by omega)).some_of ht,obs,if_pos rfl];refine zv2 (n:=t.Losses.length) (fun d acc x=>zsW s t d acc x) (fun k=>zwj (t.Losses.take k)) (fun d k hk=>?_) (fun d=>?_) _ 0 (by omega) (by omega)
 ·have hg:=List.getElem?_eq_getElem hk;have h3:=zy8 (l:=t.Losses.take k) (B:=100000) fun x hx=>hb x (List.mem_of_mem_take hx);have h4:=hb _ (List.getElem_mem hk)
  have h5:(t.Losses.take k).length<=3:=by rw[List.length_take]; omega
  show zsW s t (d+1) _ _=_
  rw[zsW,if_pos (by omega),zrF hg,obs,zqr (fI (by omega)),zqr (fI (by omega)),zy6 hg]
 ·have h3:=zy8 (l:=t.Losses) (B:=100000) hb
  show zsW s t (d+1) _ _=_
  rw[zsW,if_neg (Int.lt_irrefl _),List.take_length,zx1 (by omega) (by omega) hs.full.rs,obs]; rfl
theorem zza{s:Soc}(hs:zxv s){t:Tr}(ht:¬ zy3 s t):zsX s t=some (0,2):=by
 have h1:=hs.m5; have h2:=hs.l3;unfold zsX;rw[zxE (by unfold zrO; omega) (by unfold zrO; omega),obs,if_pos (zxx.2 hs),(zy5 (by omega)).some_not ht,obs,if_neg (by decide)]
theorem zzb{a b:List Int}(h:a.length<=1000):ztP a b=some (decide (a=b)):=by
 unfold ztP
 by_cases hl:a.length=b.length
 ·rw[if_pos (by omega)]
  have key:=zrJ (n:=a.length) (F:=fun d x=>ztO a b d x) (ok:=fun k=>a[k]? = b[k]?) (bad:=some false) (fin:=some true) (fun d k hk=>by
   have h1:=List.getElem?_eq_getElem hk;have h2:=List.getElem?_eq_getElem (show k < b.length by omega)
   show(_->ztO a b (d+1) (k:Int)=_)/\_
   rw[ztO,if_pos (by omega),zrF h1,obs,zrF h2,obs];refine⟨fun h=>?_,fun h=>?_⟩
   ·rw[h1,h2] at h; rw[if_pos (oi h),zqr (fI (by omega))]
   ·rw[if_neg fun he=>h (by rw[h1,h2,he])]) (fun d=>by show ztO a b (d+1) _=_; rw[ztO,if_neg (Int.lt_irrefl _)]) (d:=a.length+1) (by omega)
  have hiff:(∀j,j < a.length->a[j]? = b[j]?)↔a=b:=by
   constructor
   ·intro h
    apply List.ext_getElem?
    intro j
    by_cases hj:j < a.length
    ·exact h j hj
    ·rw[List.getElem?_eq_none (by omega),List.getElem?_eq_none (by omega)]
   ·rintro rfl; exact fun _ _=>rfl
  by_cases hq:a=b
  ·rw[decide_eq_true hq]; exact key.1 (hiff.2 hq)
  ·rw[decide_eq_false hq]; exact key.2 fun h=>hq (hiff.1 h)
 ·rw[if_neg (by omega),decide_eq_false fun he=>hl (by rw[he])]
theorem zzc{s:Soc}(hs:zxv s){N:Int}(hN:0<=N/\N<=300000){l:List Int}(hl:l.length<=1000):ztQ s N l=some (decide (l=zys s [] N)):=by
 unfold ztQ;rw[zyu hs hN,obs,if_pos rfl,zzb hl,obs]
def big:Rg:={ Lo:=1099511627776,Hi:=-1 }
def zzd(r:Rg)(x:Int):Rg:={ Lo:=min r.Lo x,Hi:=max r.Hi x }
structure Sp (g:Int->Int) (lo N:Int) (r:Rg):Prop where
 all:∀M,lo<=M->M < N->r.Lo<=g M/\g M<=r.Hi
 ex:(N=lo/\r=big)\/((∃M,(lo<=M/\M < N)/\g M=r.Lo)/\∃M,(lo<=M/\M < N)/\g M=r.Hi)
theorem Sp.next{g:Int->Int}{lo N:Int}{r:Rg}(h:Sp g lo N r)(hlo:lo<=N)(hg:0<=g N/\g N<=1000000):Sp g lo (N+1) (zzd r (g N)):=by
 refine⟨fun M h1 h2=>?_,.inr ?_⟩
 ·show min r.Lo (g N)<=g M/\g M<=max r.Hi (g N)
  by_cases h3:M < N
  ·have:=h.all M h1 h3; omega
  ·have h3:M=N:=by omega
   subst h3; omega
 ·show(∃M,(lo<=M/\M < N+1)/\g M=min r.Lo (g N))/\∃M,(lo<=M/\M < N+1)/\g M=max r.Hi (g N)
  rcases h.ex with ⟨h1,h2⟩ | ⟨⟨a,ha,ea⟩,⟨b,hb,eb⟩⟩
  ·subst h2;exact⟨⟨N,by omega,by show g N=min 1099511627776 (g N); omega⟩,⟨N,by omega,by show g N=max (-1) (g N); omega⟩⟩
  ·constructor
   ·by_cases h1:r.Lo<=g N
    ·exact⟨a,by omega,by omega⟩
    ·exact⟨N,by omega,by omega⟩
   ·by_cases h1:g N<=r.Hi
    ·exact⟨b,by omega,by omega⟩
    ·exact⟨N,by omega,by omega⟩
theorem Sp.done{s:Soc}(hs:zxv s){g:Int->Int}{r:Rg}(h:Sp g (loN s) (hiN s+1) r):r=bnd s g:=by
 have hb:=zxZ hs;obtain⟨⟨a,ha,ea⟩,⟨b,hb',eb⟩,hall⟩:=zyl hs g
 rcases h.ex with ⟨h1,_⟩ | ⟨⟨a',ha',ea'⟩,⟨b',hb'',eb'⟩⟩
 ·omega
 ·have h1:=h.all a (by omega) (by omega);have h2:=h.all b (by omega) (by omega);have h3:=hall a' (by omega);have h4:=hall b' (by omega);generalize bnd s g=t at ea eb h3 h4 ⊢
  cases r; cases t
  simp only at ea eb ea' eb' h1 h2 h3 h4
  congr 1 <;> omega
section
variable {s:Soc} {sh:Nat->Bool}
end
end
end Go.Proofs.Ytkclhciahokifaa

namespace Go.Proofs.Ytkclhciahokifaa
open _root_.Go.Proofs.Try
open Go.Abs
set_option maxRecDepth 100000
noncomputable section
structure Iv (s:Soc) (x:Nat) (l:List Int) (b:Bool):Prop where
 no:b=false->∀y,y < x->zyQ s (zx8 y)=false
 yes:b=true->(∃y,y < x/\l=zx8 y)/\zyQ s l=true/\∀z,z < x->zyQ s (zx8 z)=true->l=zx8 z\/shB l (zx8 z)=true
theorem Iv.new{s:Soc}{x:Nat}{l:List Int}{b:Bool}(h:Iv s x l b)(hm:zyQ s (zx8 x)=true)(hb:b=true->shB (zx8 x) l=true):Iv s (x+1) (zx8 x) true where
 no:=fun h=>by cases h
 yes:=fun _=>by
  refine⟨⟨x,by omega,rfl⟩,hm,fun z hz hmz=>?_⟩
  by_cases h1:z < x
  ·cases b with
   | false=>rw[h.no rfl z h1] at hmz; cases hmz
   | true=>
    obtain⟨_,_,h3⟩:=h.yes rfl
    rcases h3 z h1 hmz with h4 | h4
    ·rw[<- h4]; exact .inr (hb rfl)
    ·exact .inr (zyd (hb rfl) h4)
  ·have h1:z=x:=by omega
   subst h1; exact .inl rfl
def zze(most:Int):zrX:={ Members:=(zyZ most).Members,Losses:=(zyZ most).Losses,Treaty:=(zyZ most).Treaty,Reserve:=30 }
theorem t_O(most:Int):ztU most=some (zze most):=rfl
theorem co(most:Int):({ Members:=(zze most).Members,Losses:=(zze most).Losses,Treaty:=(zze most).Treaty,Reserve:=(zze most).Reserve }:Soc)=zyZ most:=rfl
theorem zzf{l:List Rg}{a b c d e f:Int}(e1:l.map (·.Lo)=[a,c,e])(e2:l.map (·.Hi)=[b,d,f]):l=[{ Lo:=a,Hi:=b },{ Lo:=c,Hi:=d },{ Lo:=e,Hi:=f }]:=by
 have e3:l.length=3:=by have:=congrArg List.length e1; rw[List.length_map] at this; exact this
 match l,e3 with
 | [⟨a1,a2⟩,⟨b1,b2⟩,⟨c1,c2⟩],_=>
  simp only[List.map_cons,List.map_nil,List.cons.injEq,and_true] at e1 e2
  obtain⟨rfl,rfl,rfl⟩:=e1;obtain⟨rfl,rfl,rfl⟩:=e2
  rfl
theorem zzg:zxv (zyZ 500):=zy1 (by omega)
theorem zzh:zxv (zyZ 80):=zy1 (by omega)
theorem zzi:ztH (zyZ 500) 200=some ([100,50,50],0,0):=by
 rw[zyu zzg (by omega)]
 have e1:zys (zyZ 500) [] 200=[100,50,50]:=by decide +kernel
 have e2:(zxk (zyZ 500).Members (zxI (zyZ 500).Members.length []) 200).2=0:=by decide +kernel
 rw[e1,e2]
theorem zzj:zys (zyZ 500) [] 201=[101,50,50]:=by decide +kernel
theorem zzk:ztH (zyZ 500) 201=some ([101,50,50],0,0):=by
 rw[zyu zzg (by omega)]
 have e2:(zxk (zyZ 500).Members (zxI (zyZ 500).Members.length []) 201).2=0:=by decide +kernel
 rw[zzj,e2]
theorem zzl:ztH (zyZ 500) 1100=some ([500,60,500],40,0):=by
 rw[zyu zzg (by omega)]
 have e1:zys (zyZ 500) [] 1100=[500,60,500]:=by decide +kernel
 have e2:(zxk (zyZ 500).Members (zxI (zyZ 500).Members.length []) 1100).2=40:=by decide +kernel
 rw[e1,e2]
theorem zzm:ztJ (zyZ 500) [1]=some ([{ Lo:=157,Hi:=167 },{ Lo:=0,Hi:=0 },{ Lo:=78,Hi:=83 }],0):=by
 have ho:zxO (zyZ 500).Members.length [1]:=⟨List.pairwise_singleton _ _,fun v hv=>by rw[List.mem_singleton.1 hv]; decide⟩;rw[zyA zzg (by unfold zrO; decide) ho]
 have e1:(zyx (zyZ 500) [1]).map (·.Lo)=[157,0,78]:=by decide +kernel
 have e2:(zyx (zyZ 500) [1]).map (·.Hi)=[167,0,83]:=by decide +kernel
 rw[zzf e1 e2]
theorem zzn:zsX (zyZ 500) { Losses:=[205,90],Treaty:=21 }=some (244,0):=by
 have ht:zy3 (zyZ 500) { Losses:=[205,90],Treaty:=21 }:=⟨rfl,fun k r x h1 h2=>(by
  match k,h1,h2 with
  | 0,h1,h2=>cases h1; cases h2; decide
  | 1,h1,h2=>cases h1; cases h2; decide
  | k+2,h1,h2=>cases h1),by show(20:Int)<=21/\(21:Int)<=25; omega⟩
 rw[zy9 zzg ht]
 have e:zy4 (zyZ 500) { Losses:=[205,90],Treaty:=21 }=244:=by decide +kernel
 rw[e]
theorem zzo:ztL (zyZ 80)=some ({ Lo:=15,Hi:=30 },0):=by
 rw[zyE zzh]
 have e1:(bnd (zyZ 80) (zyD (zyZ 80) [])).Lo=15:=by decide +kernel
 have e2:(bnd (zyZ 80) (zyD (zyZ 80) [])).Hi=30:=by decide +kernel
 generalize bnd (zyZ 80) (zyD (zyZ 80) [])=r at e1 e2
 cases r
 simp only at e1 e2
 rw[e1,e2]
theorem zzp:ztQ (zyZ 500) 201 [101,50,50]=some true:=by
 rw[zzc zzg (by omega) (by decide),zzj]; rfl
theorem zzq:ztQ (zyZ 500) 200 [101,50,50]=some false:=by
 have e1:zys (zyZ 500) [] 200=[100,50,50]:=by decide +kernel
 rw[zzc zzg (by omega) (by decide),e1]; rfl
theorem zzr:zsX (zyZ 500) { Losses:=[205],Treaty:=21 }=some (0,2):=zza zzg fun h=>by have:=h.len; cases this
theorem zzs:zsX (zyZ 500) { Losses:=[211,90],Treaty:=21 }=some (0,2):=zza zzg fun h=>by
 have:=(h.at_ 0 { Lo:=200,Hi:=210 } 211 rfl rfl).2
 revert this; decide
theorem zzt:ztH (zyZ 500) 300001=some ([],0,2):=zyv zzg (by omega)
theorem zzu:ztJ (zyZ 500) [1,1]=some ([],2):=zyB zzg (by unfold zrO; decide) fun h=>by
 have:=List.rel_of_pairwise_cons h.1 (List.mem_singleton.2 rfl)
 revert this; decide
theorem zzv:ztM (zyZ 80)=some (0,10):=by
 have e1:brN (zyZ 80).Members 10000=220:=by decide +kernel
 have e2:hiN (zyZ 80)=250:=by decide +kernel
 rcases zyP zzh with ⟨k,q1,q2,q3,q4⟩ | ⟨q1,_⟩
 ·have:=zyI zzh.full.ms (r:=(k:Int)) (t:=10000) (by omega)
  omega
 ·exact q1
def zzw:Soc:={ Members:=(zze 500).Members,Losses:=(zze 500).Losses,Treaty:=(zze 500).Treaty,Reserve:=300 }
theorem zzx:ztN zzw=some ([],7):=by
 have h:zxv zzw:=⟨zzg.m5,zzg.l3,zzg.full.pos,zzg.full.ms,zzg.full.ls,zzg.full.tr,by show(0:Int)<=300/\(300:Int)<=100000; omega⟩;exact zyS h (by decide +kernel)
theorem zzy{x:Soc}(h1:x.Members.length<=5)(h2:x.Losses.length<=3)(h3:¬ zxu x):zsK x=some 1:=by
 rw[zxE (by unfold zrO; omega) (by unfold zrO; omega)];unfold zxw;rw[if_neg (by omega),if_neg h3]
def zzz(a:Mb):Soc:={ Members:=(zze 500).Members.set (Int.toNat 0) a,Losses:=(zze 500).Losses,Treaty:=(zze 500).Treaty,Reserve:=(zze 500).Reserve }
theorem zzA{a:Mb}(h:¬ zw0 a):zsK (zzz a)=some 1:=zzy (Nat.le_of_ble_eq_true rfl) (Nat.le_of_ble_eq_true rfl) fun hf=>h (hf.ms a (.head _))
theorem zzB:zsK (zzz { Sum:=100,Class:=11,Most:=500 })=some 1:=zzA fun h=>by have:=h.cls.2; revert this; decide
theorem zzC:zsK (zzz { Sum:=0,Class:=2,Most:=500 })=some 1:=zzA fun h=>by have:=h.sum.1; revert this; decide
theorem zzD:zsK (zzz { Sum:=100,Class:=2,Most:=100001 })=some 1:=zzA fun h=>by have:=h.most.2; revert this; decide
theorem zzE:zsK { Members:=(zze 500).Members,Losses:=(zze 500).Losses,Treaty:={ Lo:=0,Hi:=31 },Reserve:=(zze 500).Reserve }=some 1:=zzy (Nat.le_of_ble_eq_true rfl) (Nat.le_of_ble_eq_true rfl) fun h=>by have:=h.tr.2.2.2; revert this; decide
theorem zzF:zsK { Members:=(zze 500).Members,Losses:=(zze 500).Losses,Treaty:=(zze 500).Treaty,Reserve:=-1 }=some 1:=zzy (Nat.le_of_ble_eq_true rfl) (Nat.le_of_ble_eq_true rfl) fun h=>by have:=h.rs.1; revert this; decide
theorem zzG:zsK { Members:=(zze 500).Members,Losses:=List.replicate (Int.toNat 4) { Lo:=0,Hi:=0 },Treaty:=(zze 500).Treaty,Reserve:=(zze 500).Reserve }=some 3:=by
 rw[zxE (by unfold zrO; decide) (by unfold zrO; decide)];unfold zxw;rw[if_pos (.inr (by decide))]
theorem zzH:zsK { Members:=[],Losses:=(zze 500).Losses,Treaty:=(zze 500).Treaty,Reserve:=(zze 500).Reserve }=some 1:=zzy (Nat.zero_le _) (Nat.le_of_ble_eq_true rfl) fun h=>by have:=h.pos; revert this; decide
theorem zzI:idx (zze 500).Members 0=some { Sum:=100,Class:=2,Most:=500 }:=rfl
theorem zzJ:ztV=some true:=by
 have s1:zsm [100,50,50] [100,50,50]=some true:=zyY (by decide) (by decide);have s2:zsm [101,50,50] [101,50,50]=some true:=zyY (by decide) (by decide);have s3:zsm [500,60,500] [500,60,500]=some true:=zyY (by decide) (by decide);have f:∀n:Int,-1000000<=n/\n<=1000000->zl6 .i64 n:=fun n h=>f64 h;unfold ztV;rw[t_O,t_O,obs,co,zzi,obs,obs,co,zzk,obs,obs,co,zzl,obs,obs,co,zzm,obs,obs,co,zzn,obs,obs,co,zzo,obs,if_pos rfl,if_pos rfl]
 show(zsm [100,50,50] [100,50,50]).bind _=_
 rw[s1,obs,if_pos rfl,if_pos rfl,if_pos rfl]
 show(zsm [101,50,50] [101,50,50]).bind _=_
 rw[s2,obs,if_pos rfl,if_pos rfl,if_pos rfl]
 show(zsm [500,60,500] [500,60,500]).bind _=_
 rw[s3,obs,if_pos rfl,if_pos rfl,if_pos (by rfl)]
 show(some ({ Lo:=157,Hi:=167 }:Rg)).bind _=_
 rw[obs]
 show(some ({ Lo:=157,Hi:=167 }:Rg)).bind _=_
 rw[obs,zqr (show zl6 .i64 157 from f _ (by omega)),zqr (show zl6 .i64 157 from f _ (by omega)),zqr (show zl6 .i64 167 from f _ (by omega)),zqr (show zl6 .i64 167 from f _ (by omega)),if_pos (by rfl)]
 show(some ({ Lo:=0,Hi:=0 }:Rg)).bind _=_
 rw[obs]
 show(some ({ Lo:=0,Hi:=0 }:Rg)).bind _=_
 rw[obs,zqr (show zl6 .i64 (0:Int) from f _ (by omega)),zqr (show zl6 .i64 (0:Int) from f _ (by omega)),zqr (show zl6 .i64 (0:Int) from f _ (by omega)),zqr (show zl6 .i64 (0:Int) from f _ (by omega)),if_pos (by rfl)]
 show(some ({ Lo:=78,Hi:=83 }:Rg)).bind _=_
 rw[obs]
 show(some ({ Lo:=78,Hi:=83 }:Rg)).bind _=_
 rw[obs,zqr (show zl6 .i64 (78:Int) from f _ (by omega)),zqr (show zl6 .i64 (78:Int) from f _ (by omega)),zqr (show zl6 .i64 (83:Int) from f _ (by omega)),zqr (show zl6 .i64 (83:Int) from f _ (by omega)),if_pos (by rfl),if_pos rfl,if_pos rfl,if_pos rfl]
 show(some ({ Lo:=15,Hi:=30 }:Rg)).bind _=_
 rw[obs,zqr (show zl6 .i64 (15:Int) from f _ (by omega)),zqr (show zl6 .i64 (15:Int) from f _ (by omega)),zqr (show zl6 .i64 (30:Int) from f _ (by omega)),zqr (show zl6 .i64 (30:Int) from f _ (by omega)),if_pos (by rfl),obs,co,zzp,obs,if_pos rfl,obs,co,zzq,obs,if_neg (by decide),obs,obs,co,zzr,obs,obs,co,zzs,obs,obs,co,zzt,obs,obs,co,zzu,obs,obs,co,zzv,obs]
 show(ztN zzw).bind _=_
 rw[zzx,obs,obs,obs,obs,obs,obs,obs,obs,zzI,obs,obs,obs]
 show(some ({ Lo:=0,Hi:=31 }:Rg)).bind _=_
 rw[obs,zqr (by omega),if_pos rfl,if_pos rfl,if_pos rfl,if_pos rfl,if_pos rfl,if_pos rfl]
 show(zsK (zzz { Sum:=100,Class:=11,Most:=500 })).bind _=_
 rw[zzB,obs,if_pos rfl]
 show(zsK (zzz { Sum:=0,Class:=2,Most:=500 })).bind _=_
 rw[zzC,obs,if_pos rfl]
 show(zsK (zzz { Sum:=100,Class:=2,Most:=100001 })).bind _=_
 rw[zzD,obs,if_pos rfl,zzE,obs,if_pos rfl,zzF,obs,if_pos rfl,zzG,obs,if_pos rfl,zzH,obs,if_pos rfl,awk]
end
end Go.Proofs.Ytkclhciahokifaa

namespace Go.Proofs.Ytkclhciahokifaa
open _root_.Go.Proofs.Try
open Go.ChangeShapes Go.WideShapes Go.ChangeAt Go.RowKit Go.Abs
set_option maxRecDepth 100000
theorem zzK:ownKnob prog.godebug=none:=by kernel_rfl
theorem zzL(os:Os)(started:os.Started)(H:Type)(enc:TypeId × Value->H) :
  ReturnsInHanded {} Try.checked os 7 .any (Rows.callNamesSpec.pre6 enc Try.prog Try.f7 Rows.callNamesRow.domain false) (Rows.callNamesSpec.post enc Try.prog Try.f7 false true false false):=by
 refine returnsInHanded_of_change (C:=Try.checked) zzK started (by kernel_rfl) Try.func7
  (ChangeSpec.witness6 (enc:=enc) (C:=Try.checked) false ⟨#[],#[],[]⟩ 8 (by kernel_rfl) (by kernel_rfl) (by kernel_rfl) (by kernel_rfl)) ?_
 intro W base args ds gs before hval0 hW hcnd _;have hW':=hW;obtain⟨p,q,hA0,hV,rfl,hfz,hnd⟩:=hW;have hA:DataW.TrodAll enc Try.prog W 0 (fun _=>true) true Try.f7.params.toList args.toList ds p:=hA0;rw[Try.params7] at hA;obtain⟨rfl,rfl,rfl⟩:=trodAll_none hA;obtain⟨rfl,rfl⟩:=trodVars_none hV
 clear hA0 hval0
 have lay9:=Lay.nil W;refine(callsIn_wide.1 (zqA fits htab (zv1 lay9.pre zzJ (Q:=fun v _=>v=.c (.bool true)) fun _ _=>rfl) lay9.hr (args':=#[]) .nil 0)).mono fun en W' hp=>?_;obtain⟨v,v',e',m',rfl,hst,hvr,rfl⟩:=hp;have hv':v'=.bool true:=hvr;subst hv';have hbelow:=lay9.below hst;refine⟨_,rfl,[],[],[],[],[],[],by simpa using hW',trodAll_mk1 (shut_bool Try.underlying4 _),trodAll_mk0,rfl,lay9.kept hst _,fun hc=>by cases hc⟩
theorem CallNames_holds:Rows.CallNamesSaid:=
 OpenClaim.holds_of_wide 7 Try.f7 rfl rfl rfl rfl rfl rfl rfl ⟨rfl,rfl,rfl,rfl,rfl⟩ rfl rfl rfl rfl rfl (by kernel_rfl) Try.func7 (by kernel_rfl)
  (of_decide_eq_true (by kernel_rfl)) (by unfold Func.isWrapper; first | (rw[if_pos (by decide +kernel)]; kernel_rfl) | (rw[if_neg (by decide +kernel)]; exact⟨rfl,rfl⟩))
  (fun os started H enc _=>zzL os started H enc)
end Go.Proofs.Ytkclhciahokifaa

