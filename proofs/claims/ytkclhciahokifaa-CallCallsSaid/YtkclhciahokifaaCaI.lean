/- CallCalls, for all that it can be called with, returns true. Condition: none. -/
import Derived.Test.YtkclhciahokifaaCaH
import GoSem.Step
import GoSem.ClaimKeys
import Derived.DeepKeys2
import Derived.RangeFuncLeaves
import Derived.OrdersIn
import Derived.Laws.World
import Derived.Laws.Sem
import Derived.RangeFuncRecord
import Derived.Laws.CopyRow
import Derived.Laws.Append
import Derived.Laws.Rows
import Derived.Laws.Slices
import Derived.Laws.Entries
import Derived.ChangeKeysEq
import Derived.IntWalk
import Derived.DeepKeys
import Derived.DeepKeys3
import Derived.Laws.StructEq
import Derived.MapKept
import Derived.Laws.AppendOwn
import Derived.ChangeArms
import Derived.ChangeOld
import Derived.Carry
import Derived.ChangeShapes
import Derived.KernelRfl
import Derived.ProofKit
import Derived.Test.YtkclhciahokifaaRows

namespace Go.Proofs.Ytkclhciahokifaa
open _root_.Go.Proofs.Try
open Go.Abs
set_option maxRecDepth 100000
noncomputable section
theorem zw2{a x s:Int}(hx:0<=x)(hxs:x<=s)(hs:0 < s)(ha:0<=a):0<=a * x / s/\a * x / s<=a:=by
 constructor
 ·exact Int.ediv_nonneg (Int.mul_nonneg ha hx) (Int.le_of_lt hs)
 ·have h1:a * x<=a * s:=Int.mul_le_mul_of_nonneg_left hxs ha;have h2:=Int.ediv_le_ediv hs h1
  rwa [Int.mul_ediv_cancel _ (by omega)] at h2
theorem zw3{a x A X:Int}(ha:0<=a/\a<=A)(hx:0<=x/\x<=X):0<=a * x/\a * x<=A * X:=by
 refine⟨Int.mul_nonneg ha.1 hx.1,?_⟩;have h1:a * x<=A * x:=Int.mul_le_mul_of_nonneg_right ha.2 hx.1;have h2:A * x<=A * X:=Int.mul_le_mul_of_nonneg_left hx.2 (by omega)
 omega
structure UOk (u:Nat->Int):Prop where
 bd:∀i,i < 5->0<=u i/\u i<=100000
 pos:0 < S5 u
theorem UOk.le{u:Nat->Int}(h:UOk u){i:Nat}(hi:i < 5):u i<=S5 u/\S5 u<=500000:=by
 have h0:=h.bd 0 (by omega); have h1:=h.bd 1 (by omega); have h2:=h.bd 2 (by omega); have h3:=h.bd 3 (by omega); have h4:=h.bd 4 (by omega);unfold S5
 match i,hi with
 | 0,_=>omega
 | 1,_=>omega
 | 2,_=>omega
 | 3,_=>omega
 | 4,_=>omega
def qN(N:Int)(u:Nat->Int)(k:Nat):Int:=N * u k / S5 u
def rN(N:Int)(u:Nat->Int)(k:Nat):Int:=N * u k % S5 u
def shN(N:Int)(u:Nat->Int)(k:Nat):Sh:={ pence:=qN N u k,remainder:=rN N u k }
def zw4(N:Int)(u:Nat->Int)(k:Nat):Int:=qN N u k+if zwW (rN N u) k < N - S5 (qN N u) then 1 else 0
section
variable {N:Int} {u:Nat->Int}
theorem zw5(hu:UOk u)(hN:0<=N){k:Nat}(hk:k < 5):0<=qN N u k/\qN N u k<=N:=zw2 (hu.bd k hk).1 (hu.le hk).1 hu.pos hN
theorem zw6(hu:UOk u)(k:Nat):0<=rN N u k/\rN N u k < S5 u:=⟨Int.emod_nonneg _ (by have:=hu.pos; omega),Int.emod_lt_of_pos _ hu.pos⟩
theorem zw7(hu:UOk u)(hN:0<=N/\N<=1000000){k:Nat}(hk:k < 5):MK.fit (shN N u k):=by
 have h1:=zw5 hu hN.1 hk;have h2:=zw6 (N:=N) hu k;have h3:=(hu.le hk).2;exact⟨fI (show _/\_ by show -9223372036854775808<=qN N u k/\qN N u k < _; omega),fI (show _/\_ by show -9223372036854775808<=rN N u k/\rN N u k < _; omega),trivial⟩
theorem zw8(hu:UOk u)(hN:0<=N/\N<=1000000):ztq N (mk5 u)=some (mk5 (zw4 N u)):=by
 have hbu:Bd 1000000000000 u:=fun i hi=>by have:=hu.bd i hi; omega
 have hbq:Bd 1000000000000 (qN N u):=fun i hi=>by have:=zw5 hu hN.1 hi; omega
 have hU:=hu.pos;have hU2:=(hu.le (i:=0) (by omega)).2;have hq0:=zw5 hu hN.1 (k:=0) (by omega); have hq1:=zw5 hu hN.1 (k:=1) (by omega); have hq2:=zw5 hu hN.1 (k:=2) (by omega); have hq3:=zw5 hu hN.1 (k:=3) (by omega); have hq4:=zw5 hu hN.1 (k:=4) (by omega)
 have hsq:0<=S5 (qN N u)/\S5 (qN N u)<=5000000:=by unfold S5; omega
 -- the second loop
 have second:zto N (shN N u 0).pence (shN N u 0).remainder (shN N u 1).pence (shN N u 1).remainder (shN N u 2).pence (shN N u 2).remainder (shN N u 3).pence (shN N u 3).remainder (shN N u 4).pence (shN N u 4).remainder (hM (shN N u) 5) (S5 (qN N u)) (Int.toNat (5:Int)+1) (qN N u 0) (qN N u 1) (qN N u 2) (qN N u 3) (qN N u 4) (0:Int)=some (mk5 (zw4 N u)):=by
  have key:=zws (n:=5) (fun d s x=>zto N (shN N u 0).pence (shN N u 0).remainder (shN N u 1).pence (shN N u 1).remainder (shN N u 2).pence (shN N u 2).remainder (shN N u 3).pence (shN N u 3).remainder (shN N u 4).pence (shN N u 4).remainder (hM (shN N u) 5) (S5 (qN N u)) d (s 0) (s 1) (s 2) (s 3) (s 4) x) (stF (zw4 N u) (qN N u)) (fin:=some (mk5 (zw4 N u))) (fun d k hk=>?_) (fun d=>?_) 6 0 (by omega) (by omega)
  ·rw[zww] at key; exact key
  ·have hb:ztn (dv (shN N u)) (k:Int)=some (zwW (rN N u) k):=zw1 (fun k hk=>zw7 hu hN hk) hk;have hq:=zw5 hu hN.1 hk;have e:=zwz (zw4 N u) (qN N u) k
   show zto _ _ _ _ _ _ _ _ _ _ _ _ _ (d+1) _ _ _ _ _ _=_
   rw[zto,if_pos (by omega)]
   show(ztn (dv (shN N u)) (k:Int)).bind _=_
   rw[hb,obs]
   by_cases h:zwW (rN N u) k < N - S5 (qN N u)
   ·rw[if_pos h]
    show(idx (l5 (stF (zw4 N u) (qN N u) k)) (k:Int)).bind _=_
    have ep:qN N u k+1=zw4 N u k:=by unfold zw4; rw[if_pos h]
    rw[zwu hk,obs,zwx,zqr (fI (by omega)),zqr (by omega),zqr (fI (by omega)),ep,e 0,e 1,e 2,e 3,e 4]
   ·rw[if_neg h,zqr (fI (by omega))]
    have ep:qN N u k=zw4 N u k:=by unfold zw4; rw[if_neg h,Int.add_zero]
    have e1:∀j,stF (zw4 N u) (qN N u) k j=stF (zw4 N u) (qN N u) (k+1) j:=fun j=>by
     unfold stF
     by_cases h:j=k
     ·subst h; rw[if_neg (by omega),if_pos (by omega)]; exact ep
     ·by_cases h2:j < k
      ·rw[if_pos h2,if_pos (by omega)]
      ·rw[if_neg h2,if_neg (by omega)]
    rw[e1 0,e1 1,e1 2,e1 3,e1 4]
  ·show zto _ _ _ _ _ _ _ _ _ _ _ _ _ (d+1) _ _ _ _ _ _=_
   rw[zto,if_neg (by omega)]; rfl
 unfold ztq;rw[zwC hbu,obs];have key:=zws (n:=5) (fun d (s:(Nat->Int) × (Nat->Sh) × Option (Sh->Option Int)) x=>ztp N (mk5 u) (S5 u) d (s.1 0) (s.1 1) (s.1 2) (s.1 3) (s.1 4) (s.2.1 0).pence (s.2.1 0).remainder (s.2.1 1).pence (s.2.1 1).remainder (s.2.1 2).pence (s.2.1 2).remainder (s.2.1 3).pence (s.2.1 3).remainder (s.2.1 4).pence (s.2.1 4).remainder s.2.2 x) (fun k=>(stF (qN N u) (fun _=>0) k,stF (shN N u) (fun _=>⟨0,0⟩) k,hM (shN N u) k)) (fin:=some (mk5 (zw4 N u))) (fun d k hk=>?_) (fun d=>?_) 6 0 (by omega) (by omega)
 ·rw[zww,zww,zwU] at key; exact key
 ·have hq:=zw5 hu hN.1 hk;have hr:=zw6 (N:=N) hu k;have huk:=hu.bd k hk;have hm:=zw3 (a:=N) (x:=u k) ⟨hN.1,hN.2⟩ huk;have hc:=zwR (shN N u) (shN N u k) k;have hset:=zwV (shN N u) k
  have fin:∀M',M'=hM (shN N u) (k+1)->ztp N (mk5 u) (S5 u) d (sti (k:Int) 0 (qN N u k) (stF (qN N u) (fun _=>0) k 0)) (sti (k:Int) 1 (qN N u k) (stF (qN N u) (fun _=>0) k 1)) (sti (k:Int) 2 (qN N u k) (stF (qN N u) (fun _=>0) k 2)) (sti (k:Int) 3 (qN N u k) (stF (qN N u) (fun _=>0) k 3)) (sti (k:Int) 4 (qN N u k) (stF (qN N u) (fun _=>0) k 4)) (sti (k:Int) 0 (shN N u k) (stF (shN N u) (fun _=>⟨0,0⟩) k 0)).pence (sti (k:Int) 0 (shN N u k) (stF (shN N u) (fun _=>⟨0,0⟩) k 0)).remainder (sti (k:Int) 1 (shN N u k) (stF (shN N u) (fun _=>⟨0,0⟩) k 1)).pence (sti (k:Int) 1 (shN N u k) (stF (shN N u) (fun _=>⟨0,0⟩) k 1)).remainder (sti (k:Int) 2 (shN N u k) (stF (shN N u) (fun _=>⟨0,0⟩) k 2)).pence (sti (k:Int) 2 (shN N u k) (stF (shN N u) (fun _=>⟨0,0⟩) k 2)).remainder (sti (k:Int) 3 (shN N u k) (stF (shN N u) (fun _=>⟨0,0⟩) k 3)).pence (sti (k:Int) 3 (shN N u k) (stF (shN N u) (fun _=>⟨0,0⟩) k 3)).remainder (sti (k:Int) 4 (shN N u k) (stF (shN N u) (fun _=>⟨0,0⟩) k 4)).pence (sti (k:Int) 4 (shN N u k) (stF (shN N u) (fun _=>⟨0,0⟩) k 4)).remainder M' ((k:Int)+1)=ztp N (mk5 u) (S5 u) d (stF (qN N u) (fun _=>0) (k+1) 0) (stF (qN N u) (fun _=>0) (k+1) 1) (stF (qN N u) (fun _=>0) (k+1) 2) (stF (qN N u) (fun _=>0) (k+1) 3) (stF (qN N u) (fun _=>0) (k+1) 4) (stF (shN N u) (fun _=>⟨0,0⟩) (k+1) 0).pence (stF (shN N u) (fun _=>⟨0,0⟩) (k+1) 0).remainder (stF (shN N u) (fun _=>⟨0,0⟩) (k+1) 1).pence (stF (shN N u) (fun _=>⟨0,0⟩) (k+1) 1).remainder (stF (shN N u) (fun _=>⟨0,0⟩) (k+1) 2).pence (stF (shN N u) (fun _=>⟨0,0⟩) (k+1) 2).remainder (stF (shN N u) (fun _=>⟨0,0⟩) (k+1) 3).pence (stF (shN N u) (fun _=>⟨0,0⟩) (k+1) 3).remainder (stF (shN N u) (fun _=>⟨0,0⟩) (k+1) 4).pence (stF (shN N u) (fun _=>⟨0,0⟩) (k+1) 4).remainder (hM (shN N u) (k+1)) ((k:Int)+1):=by
   intro M' hM';subst hM';have e:=zwz (qN N u) (fun _=>0) k;have e':=zwz (shN N u) (fun _=>(⟨0,0⟩:Sh)) k;rw[e 0,e 1,e 2,e 3,e 4,e' 0,e' 1,e' 2,e' 3,e' 4]
  show ztp _ _ _ (d+1) _ _ _ _ _ _ _ _ _ _ _ _ _ _ _ _ _=_
  rw[ztp,if_pos (by omega)]
  show(idx (l5 u) (k:Int)).bind _=_
  have hqf:zl6 .i64 (N * u k / S5 u):=fI (by unfold qN at hq; omega);have hrf:zl6 .i64 (N * u k % S5 u):=fI (by unfold rN at hr; omega);have hfit:MK.fit ({ pence:=N * u k / S5 u,remainder:=N * u k % S5 u }:Sh):=zw7 hu hN hk;rw[zwu hk,obs,zqr hN.1,zqr huk.1,zqr (fI (by omega)),zqr hm.1,zqr hU,zqr hqf,zqr hN.1,zqr huk.1,zqr (fI (by omega)),zqr hm.1,zqr hU,zqr hrf,zqr (by omega),zqr hfit]
  show zqR (zqK (hM (shN N u) k) (shN N u k)) _ _=_
  by_cases h0:cnt (shN N u) k (shN N u k)=0
  ·rw[zqS (by rw[zwT,if_pos h0]),zqr (fI (by omega)),zqr hfit];rw[h0] at hset;rw[show zqL (hM (shN N u) k) ({ pence:=N * u k / S5 u,remainder:=N * u k % S5 u }:Sh) 1=some (hM (shN N u) (k+1)) from hset,obs,zqr (by omega),zqr (fI (by omega))];exact fin _ rfl
  ·rw[zqT (show zqK (hM (shN N u) k) (shN N u k)=some (cnt (shN N u) k (shN N u k)) by rw[zwT,if_neg h0]),zqr (fI (by omega)),zqr hfit];rw[show zqL (hM (shN N u) k) ({ pence:=N * u k / S5 u,remainder:=N * u k % S5 u }:Sh) (cnt (shN N u) k (shN N u k)+1)=some (hM (shN N u) (k+1)) from hset,obs,zqr (by omega),zqr (fI (by omega))];exact fin _ rfl
 ·show ztp _ _ _ (d+1) _ _ _ _ _ _ _ _ _ _ _ _ _ _ _ _ _=_
  rw[ztp,if_neg (by omega)]
  show(zth (mk5 (qN N u))).bind _=_
  rw[zwC hbq,obs,zqr (fI (by omega))];exact second
end
end
end Go.Proofs.Ytkclhciahokifaa

namespace Go.Proofs.Ytkclhciahokifaa
open _root_.Go.Proofs.Try
open Go.Abs
set_option maxRecDepth 100000
noncomputable section
def bfc(r:Nat->Int)(k i:Nat):Int:=if r i < r k then 1 else if r k=r i/\k < i then 1 else 0
theorem zw9(f:Nat->Int){i:Nat}(hi:i<=5):part f i=S5 fun k=>if k < i then f k else 0:=by
 match i,hi with
 | 0,_=>show(0:Int)=0+0+0+0+0; omega
 | 1,_=>show 0+f 0=f 0+0+0+0+0; omega
 | 2,_=>show 0+f 0+f 1=f 0+f 1+0+0+0; omega
 | 3,_=>show 0+f 0+f 1+f 2=f 0+f 1+f 2+0+0; omega
 | 4,_=>show 0+f 0+f 1+f 2+f 3=f 0+f 1+f 2+f 3+0; omega
 | 5,_=>show 0+f 0+f 1+f 2+f 3+f 4=f 0+f 1+f 2+f 3+f 4; omega
theorem zxa(r:Nat->Int){i:Nat}(hi:i < 5):zwW r i=S5 fun k=>bfc r k i:=by
 unfold zwW gtN eqN;rw[zw9 _ (by omega),<- zwM];refine zwO fun k _=>?_;unfold bfc
 by_cases h1:r i < r k
 ·rw[if_pos h1,if_pos h1,if_neg (show ¬ r k=r i by omega)]
  by_cases h2:k < i
  ·rw[if_pos h2]; rfl
  ·rw[if_neg h2]; rfl
 ·rw[if_neg h1,if_neg h1]
  by_cases h2:k < i
  ·rw[if_pos h2]
   by_cases h3:r k=r i
   ·rw[if_pos h3,if_pos ⟨h3,h2⟩]; rfl
   ·rw[if_neg h3,if_neg fun h=>h3 h.1]; rfl
  ·rw[if_neg h2,if_neg fun h=>h2 h.2]; rfl
theorem zxb{f g:Nat->Int}(h:∀i,i < 5->f i<=g i):S5 f<=S5 g:=by
 have:=h 0 (by omega); have:=h 1 (by omega); have:=h 2 (by omega); have:=h 3 (by omega); have:=h 4 (by omega);unfold S5; omega
theorem zxc{f g:Nat->Int}(h:∀i,i < 5->f i<=g i){k:Nat}(hk:k < 5)(hlt:f k < g k):S5 f < S5 g:=by
 have:=h 0 (by omega); have:=h 1 (by omega); have:=h 2 (by omega); have:=h 3 (by omega); have:=h 4 (by omega);unfold S5
 match k,hk with
 | 0,_=>omega
 | 1,_=>omega
 | 2,_=>omega
 | 3,_=>omega
 | 4,_=>omega
theorem zxd(r:Nat->Int)(k i:Nat):0<=bfc r k i/\bfc r k i<=1:=by unfold bfc; split <;> (try split) <;> omega
theorem zxe{r:Nat->Int}{k i:Nat}:bfc r k i=1↔r i < r k\/(r k=r i/\k < i):=by
 unfold bfc
 by_cases h1:r i < r k
 ·rw[if_pos h1]; exact⟨fun _=>.inl h1,fun _=>rfl⟩
 ·rw[if_neg h1]
  by_cases h2:r k=r i/\k < i
  ·rw[if_pos h2]; exact⟨fun _=>.inr h2,fun _=>rfl⟩
  ·rw[if_neg h2]; exact⟨fun h=>by omega,fun h=>h.elim (fun h=>absurd h h1) fun h=>absurd h h2⟩
theorem zj9{r:Nat->Int}{k i:Nat}(hk:k < 5)(hi:i < 5)(h:r i < r k\/(r k=r i/\k < i)):zwW r k < zwW r i:=by
 rw[zxa r hk,zxa r hi];refine zxc (fun j _=>?_) hk ?_
 ·have h1:=zxd r j k; have h2:=zxd r j i
  by_cases hj:bfc r j k=1
  ·have:=zxe.1 hj;have:bfc r j i=1:=zxe.2 (by omega)
   omega
  ·omega
 ·have h1:bfc r k i=1:=zxe.2 h
  have h2:¬ bfc r k k=1:=fun h=>by have:=zxe.1 h; omega
  have h3:=zxd r k k
  omega
theorem zxf{r:Nat->Int}{k i:Nat}(hk:k < 5)(hi:i < 5)(h:k ≠ i):zwW r k ≠ zwW r i:=by
 by_cases h1:r i < r k\/(r k=r i/\k < i)
 ·have:=zj9 hk hi h1; omega
 ·have:=zj9 hi hk (r:=r) (by omega); omega
theorem zxg{r:Nat->Int}{k i:Nat}(hk:k < 5)(hi:i < 5):zwW r k < zwW r i↔(r i < r k\/(r k=r i/\k < i)):=by
 constructor
 ·intro h
  by_cases h1:r i < r k\/(r k=r i/\k < i)
  ·exact h1
  ·by_cases hki:k=i
   ·subst hki; omega
   ·have:=zj9 hi hk (r:=r) (by omega); omega
 ·exact zj9 hk hi
theorem zxh(r:Nat->Int){i:Nat}(hi:i < 5):0<=zwW r i/\zwW r i<=4:=by
 have h0:=zxd r 0 i; have h1:=zxd r 1 i; have h2:=zxd r 2 i; have h3:=zxd r 3 i; have h4:=zxd r 4 i
 have hii:bfc r i i=0:=by
  have:=zxd r i i
  have:¬ bfc r i i=1:=fun h=>by have:=zxe.1 h; omega
  omega
 rw[zxa r hi];unfold S5
 dsimp only
 match i,hi with
 | 0,_=>omega
 | 1,_=>omega
 | 2,_=>omega
 | 3,_=>omega
 | 4,_=>omega
theorem zxi:∀a b:Fin 5,a ≠ b->∀c:Fin 5,a ≠ c->b ≠ c->∀d:Fin 5,a ≠ d->b ≠ d->c ≠ d->∀e:Fin 5,a ≠ e->b ≠ e->c ≠ e->d ≠ e->∀L:Fin 6,
  (if a.val < L.val then 1 else 0)+(if b.val < L.val then 1 else 0)+(if c.val < L.val then 1 else 0)+(if d.val < L.val then 1 else 0)+(if e.val < L.val then 1 else 0)=L.val:=by decide +kernel
theorem zxj(r:Nat->Int){L:Int}(hL:0<=L/\L<=5):S5 (fun i=>if zwW r i < L then 1 else 0)=L:=by
 have b:∀i,i < 5->0<=zwW r i/\zwW r i<=4:=fun i hi=>zxh r hi;have b0:=b 0 (by omega); have b1:=b 1 (by omega); have b2:=b 2 (by omega); have b3:=b 3 (by omega); have b4:=b 4 (by omega)
 have ne:∀i j (hi:i < 5) (hj:j < 5),i ≠ j->(⟨(zwW r i).toNat,by have:=b i hi; omega⟩:Fin 5) ≠ ⟨(zwW r j).toNat,by have:=b j hj; omega⟩:=fun i j hi hj hij h=>by
  have h1:=Fin.mk.inj h;have:=zxf (r:=r) hi hj hij;have:=b i hi; have:=b j hj
  omega
 have key:=zxi ⟨(zwW r 0).toNat,by omega⟩ ⟨(zwW r 1).toNat,by omega⟩ (ne 0 1 (by omega) (by omega) (by omega)) ⟨(zwW r 2).toNat,by omega⟩ (ne 0 2 (by omega) (by omega) (by omega)) (ne 1 2 (by omega) (by omega) (by omega)) ⟨(zwW r 3).toNat,by omega⟩ (ne 0 3 (by omega) (by omega) (by omega)) (ne 1 3 (by omega) (by omega) (by omega)) (ne 2 3 (by omega) (by omega) (by omega)) ⟨(zwW r 4).toNat,by omega⟩ (ne 0 4 (by omega) (by omega) (by omega)) (ne 1 4 (by omega) (by omega) (by omega)) (ne 2 4 (by omega) (by omega) (by omega)) (ne 3 4 (by omega) (by omega) (by omega)) ⟨L.toNat,by omega⟩
 dsimp only at key
 have e:∀i,i < 5->(if zwW r i < L then (1:Int) else 0)=((if (zwW r i).toNat < L.toNat then 1 else 0:Nat):Int):=fun i hi=>by
  have:=b i hi
  by_cases h:zwW r i < L
  ·rw[if_pos h,if_pos (by omega)]; rfl
  ·rw[if_neg h,if_neg (by omega)]; rfl
 unfold S5
 dsimp only
 rw[e 0 (by omega),e 1 (by omega),e 2 (by omega),e 3 (by omega),e 4 (by omega)]
 omega
theorem zxk(r:Nat->Int){k:Int}(hk:0<=k/\k<=4):∃i,i < 5/\zwW r i=k:=by
 apply Classical.byContradiction
 intro hn;have h1:=zxj r (L:=k) (by omega);have h2:=zxj r (L:=k+1) (by omega)
 have h3:S5 (fun i=>if zwW r i < k+1 then (1:Int) else 0)=S5 (fun i=>if zwW r i < k then (1:Int) else 0):=zwO fun i hi=>by
  have h4:zwW r i ≠ k:=fun h=>hn ⟨i,hi,h⟩
  by_cases h:zwW r i < k
  ·rw[if_pos h,if_pos (by omega)]
  ·rw[if_neg h,if_neg (by omega)]
 omega
section
variable {N:Int} {u:Nat->Int}
theorem zxl(N:Int)(u:Nat->Int):S5 u * (N - S5 (qN N u))=S5 (rN N u):=by
 have h:∀k,rN N u k+S5 u * qN N u k=N * u k:=fun k=>Int.emod_add_mul_ediv (N * u k) (S5 u);have h0:=h 0; have h1:=h 1; have h2:=h 2; have h3:=h 3; have h4:=h 4
 have e1:S5 u * N=N * u 0+N * u 1+N * u 2+N * u 3+N * u 4:=by
  rw[Int.mul_comm]; unfold S5; rw[Int.mul_add,Int.mul_add,Int.mul_add,Int.mul_add]
 have e2:S5 u * S5 (qN N u)=S5 u * qN N u 0+S5 u * qN N u 1+S5 u * qN N u 2+S5 u * qN N u 3+S5 u * qN N u 4:=by
  generalize S5 u=U;unfold S5; rw[Int.mul_add,Int.mul_add,Int.mul_add,Int.mul_add]
 rw[Int.mul_sub,e1,e2]
 show _=rN N u 0+rN N u 1+rN N u 2+rN N u 3+rN N u 4
 omega
theorem zxm(hu:UOk u)(N:Int):0<=N - S5 (qN N u)/\N - S5 (qN N u)<=gtN (rN N u) 0/\N - S5 (qN N u)<=4:=by
 have hU:=hu.pos;have hl:=zxl N u;have hr:=fun k=>zw6 (N:=N) hu k;have r0:=hr 0; have r1:=hr 1; have r2:=hr 2; have r3:=hr 3; have r4:=hr 4;refine⟨?_,?_,?_⟩
 ·apply Classical.byContradiction
  intro hn;have:S5 u * (N - S5 (qN N u)) < 0:=Int.mul_neg_of_pos_of_neg hU (by omega);rw[hl] at this;unfold S5 at this; omega
 ·have h2:S5 (rN N u)<=S5 u * gtN (rN N u) 0:=by
   have e:S5 u * gtN (rN N u) 0=S5 (fun k=>S5 u * if 0 < rN N u k then 1 else 0):=by
    unfold gtN;generalize S5 u=U
    show U * S5 (fun k=>if 0 < rN N u k then 1 else 0)=_
    unfold S5;rw[Int.mul_add,Int.mul_add,Int.mul_add,Int.mul_add]
   rw[e];refine zxb fun k _=>?_;have:=hr k
   by_cases h:0 < rN N u k
   ·rw[if_pos h]; omega
   ·rw[if_neg h]; omega
  rw[<- hl] at h2;exact Int.le_of_mul_le_mul_left h2 hU
 ·apply Classical.byContradiction
  intro hn;have h2:S5 u * 5<=S5 u * (N - S5 (qN N u)):=Int.mul_le_mul_of_nonneg_left (by omega) (by omega);rw[hl] at h2;have h3:S5 (rN N u)=rN N u 0+rN N u 1+rN N u 2+rN N u 3+rN N u 4:=rfl
  omega
theorem zxn(hu:UOk u){k:Nat}(h0:rN N u k=0):¬ zwW (rN N u) k < N - S5 (qN N u):=by
 have h1:=(zxm hu N).2.1;have h2:=zwY (rN N u) (rN N u k) k
 have h3:zwW (rN N u) k=gtN (rN N u) 0+eqN (rN N u) (rN N u k) k:=by unfold zwW; rw[h0]
 omega
theorem zxo(hu:UOk u)(N:Int):S5 (zw4 N u)=N:=by
 have h:=zxm hu N;have e:S5 (zw4 N u)=S5 (qN N u)+S5 (fun i=>if zwW (rN N u) i < N - S5 (qN N u) then 1 else 0):=zwM _ _;rw[e,zxj _ (by omega)]; omega
theorem zxp(N:Int)(u:Nat->Int)(k:Nat):qN N u k<=zw4 N u k/\zw4 N u k<=qN N u k+1:=by unfold zw4; split <;> omega
theorem zxq(hu:UOk u)(hN:0<=N){k:Nat}(hk:k < 5):0<=zw4 N u k:=by have:=zxp N u k; have:=zw5 hu hN hk; omega
theorem zxr(hu:UOk u)(hN:0<=N){k:Nat}(hk:k < 5):zw4 N u k<=N:=by
 have hs:=zxo hu N;have h:∀i,i < 5->0<=zw4 N u i:=fun i hi=>zxq hu hN hi;have:=h 0 (by omega); have:=h 1 (by omega); have:=h 2 (by omega); have:=h 3 (by omega); have:=h 4 (by omega);unfold S5 at hs
 match k,hk with
 | 0,_=>omega
 | 1,_=>omega
 | 2,_=>omega
 | 3,_=>omega
 | 4,_=>omega
theorem zxs(hu:UOk u){k:Nat}(h:u k=0):zw4 N u k=0:=by
 have hq:qN N u k=0:=by unfold qN; rw[h,Int.mul_zero,Int.zero_ediv]
 have hr:rN N u k=0:=by unfold rN; rw[h,Int.mul_zero,Int.zero_emod]
 unfold zw4;rw[if_neg (zxn hu hr),hq]; rfl
end
end
end Go.Proofs.Ytkclhciahokifaa

namespace Go.Proofs.Ytkclhciahokifaa
open _root_.Go.Proofs.Try
open Go.Abs
set_option maxRecDepth 100000
noncomputable section
structure zxt (a:Mb):Prop where
 sum:1<=a.Sum/\a.Sum<=1000
 cls:1<=a.Class/\a.Class<=10
 most:0<=a.Most/\a.Most<=100000
def zxu(ms:List Mb):Prop:=ms.length<=5/\∀a∈ms,zxt a
def unN(a:Mb):Int:=a.Sum * a.Class
theorem zxv{a:Mb}(h:zxt a):1<=unN a/\unN a<=10000:=by
 have h1:=zw3 (a:=a.Sum) (x:=a.Class) (A:=1000) (X:=10) ⟨by have:=h.sum; omega,h.sum.2⟩ ⟨by have:=h.cls; omega,h.cls.2⟩;have h2:a.Sum * 1<=a.Sum * a.Class:=Int.mul_le_mul_of_nonneg_left h.cls.1 (by have:=h.sum; omega);have:=h.sum;unfold unN; omega
def uF(ms:List Mb)(sh:Nat->Bool):Nat->Int:=zwF ms sh unN
def mF(ms:List Mb)(sh:Nat->Bool):Nat->Int:=zwF ms sh (·.Most)
def zxw(sh:Nat->Bool):Bool:=(sh 0 == false) && ((sh 1 == false) && ((sh 2 == false) && ((sh 3 == false) && (sh 4 == false))))
def zxx(a b:Nat->Bool):Bool:=(a 0 == b 0) && ((a 1 == b 1) && ((a 2 == b 2) && ((a 3 == b 3) && (a 4 == b 4))))
def zxy(ms:List Mb)(sh:Nat->Bool):Prop:=∀i,sh i=true->i < ms.length
def roundsN(ms:List Mb):Nat->(Nat->Bool)->Int->(Nat->Int)->(Nat->Int) × Int
 | 0,_,N,c=>(c,N)
 | d+1,sh,N,c=>if zxw sh=true then (c,N) else
   if zxx (zwH ms sh (zw4 N (uF ms sh))) sh=true then (fun i=>c i+zw4 N (uF ms sh) i,0) else
    roundsN ms d (zwH ms sh (zw4 N (uF ms sh))) (N - S5 (mF ms fun i=>sh i && !zwH ms sh (zw4 N (uF ms sh)) i)) (fun i=>c i+mF ms (fun i=>sh i && !zwH ms sh (zw4 N (uF ms sh)) i) i)
def cF(sh:Nat->Bool):Nat:=(sh 0).toNat+(sh 1).toNat+(sh 2).toNat+(sh 3).toNat+(sh 4).toNat
theorem zxz{sh:Nat->Bool}:zxw sh=true↔∀i,i < 5->sh i=false:=by
 unfold zxw
 simp only[Bool.and_eq_true,beq_iff_eq]
 constructor
 ·rintro⟨h0,h1,h2,h3,h4⟩ i hi
  match i,hi with
  | 0,_=>exact h0
  | 1,_=>exact h1
  | 2,_=>exact h2
  | 3,_=>exact h3
  | 4,_=>exact h4
 ·intro h; exact⟨h 0 (by omega),h 1 (by omega),h 2 (by omega),h 3 (by omega),h 4 (by omega)⟩
theorem zxA{a b:Nat->Bool}:zxx a b=true↔∀i,i < 5->a i=b i:=by
 unfold zxx
 simp only[Bool.and_eq_true,beq_iff_eq]
 constructor
 ·rintro⟨h0,h1,h2,h3,h4⟩ i hi
  match i,hi with
  | 0,_=>exact h0
  | 1,_=>exact h1
  | 2,_=>exact h2
  | 3,_=>exact h3
  | 4,_=>exact h4
 ·intro h; exact⟨h 0 (by omega),h 1 (by omega),h 2 (by omega),h 3 (by omega),h 4 (by omega)⟩
theorem zxB{ms:List Mb}{sh:Nat->Bool}{p:Nat->Int}{i:Nat}(h:zwH ms sh p i=true):sh i=true:=by
 unfold zwH at h
 cases hm:ms[i]? with
 | none=>rw[hm] at h; exact h
 | some a=>rw[hm] at h; exact(Bool.and_eq_true _ _ ▸ h).1
theorem zxC{ms:List Mb}{sh:Nat->Bool}{p:Nat->Int}{i:Nat}{a:Mb}(hm:ms[i]? = some a):zwH ms sh p i=(sh i && decide (p i<=a.Most)):=by unfold zwH; rw[hm]
theorem zxD{ms:List Mb}{sh:Nat->Bool}{p:Nat->Int}(h:¬ zxx (zwH ms sh p) sh=true):cF (zwH ms sh p) < cF sh:=by
 have hle:∀i,(zwH ms sh p i).toNat<=(sh i).toNat:=fun i=>by
  cases ha:zwH ms sh p i with
  | false=>exact Nat.zero_le _
  | true=>rw[zxB ha]; exact Nat.le_refl _
 have hne:∃i,i < 5/\(zwH ms sh p i).toNat ≠ (sh i).toNat:=by
  apply Classical.byContradiction
  intro hn;refine h (zxA.2 fun i hi=>?_)
  apply Classical.byContradiction
  intro h2;refine hn ⟨i,hi,fun h3=>h2 ?_⟩
  revert h3; cases zwH ms sh p i <;> cases sh i <;> decide
 obtain⟨i,hi,h2⟩:=hne;have l0:=hle 0; have l1:=hle 1; have l2:=hle 2; have l3:=hle 3; have l4:=hle 4;unfold cF
 match i,hi with
 | 0,_=>omega
 | 1,_=>omega
 | 2,_=>omega
 | 3,_=>omega
 | 4,_=>omega
theorem zxE{ms:List Mb}{sh:Nat->Bool}{num:Mb->Int}{i:Nat}(h:sh i=false):zwF ms sh num i=0:=by
 unfold zwF
 cases ms[i]? with
 | none=>rfl
 | some a=>show(if sh i=true then num a else 0)=0; rw[h]; rfl
theorem zxF{ms:List Mb}{sh:Nat->Bool}{num:Mb->Int}{i:Nat}{a:Mb}(hm:ms[i]? = some a)(h:sh i=true):zwF ms sh num i=num a:=by
 unfold zwF; rw[hm]; show(if sh i=true then num a else 0)=_; rw[h,if_pos rfl]
theorem zxG{ms:List Mb}(hms:zxu ms)(sh:Nat->Bool)(i:Nat):0<=uF ms sh i/\uF ms sh i<=10000:=by
 unfold uF
 cases hs:sh i with
 | false=>rw[zxE hs]; omega
 | true=>
  cases hm:ms[i]? with
  | none=>unfold zwF; rw[hm]; show(0:Int)<=0/\(0:Int)<=_; omega
  | some a=>rw[zxF hm hs]; have:=zxv (hms.2 a (List.mem_of_getElem? hm)); omega
theorem zxH{ms:List Mb}(hms:zxu ms){sh:Nat->Bool}(hs:zxy ms sh)(hn:¬ zxw sh=true):UOk (uF ms sh):=by
 have hb:=zxG hms sh;refine⟨fun i _=>by have:=hb i; omega,?_⟩
 obtain⟨i,hi,hsi⟩:∃i,i < 5/\sh i=true:=by
  apply Classical.byContradiction
  intro h;refine hn (zxz.2 fun i hi=>?_)
  cases hq:sh i with
  | false=>rfl
  | true=>exact absurd ⟨i,hi,hq⟩ h
 have hl:=hs i hsi
 have h1:1<=uF ms sh i:=by unfold uF; rw[zxF (List.getElem?_eq_getElem hl) hsi]; exact(zxv (hms.2 _ (List.getElem_mem hl))).1
 have b0:=hb 0; have b1:=hb 1; have b2:=hb 2; have b3:=hb 3; have b4:=hb 4;unfold S5
 match i,hi with
 | 0,_=>omega
 | 1,_=>omega
 | 2,_=>omega
 | 3,_=>omega
 | 4,_=>omega
structure RI (ms:List Mb) (sh:Nat->Bool) (N:Int) (c:Nat->Int):Prop where
 sup:zxy ms sh
 nn:0<=N/\N<=1000000
 cb:∀i,i < 5->0<=c i/\c i<=1000000
 c0:∀i,sh i=true->c i=0
section
variable {ms:List Mb} {sh:Nat->Bool} {N:Int} {c:Nat->Int}
theorem zxI(p:Nat->Int){i:Nat}:(sh i && !zwH ms sh p i)=true↔sh i=true/\∃a,ms[i]? = some a/\a.Most < p i:=by
 cases hm:ms[i]? with
 | none=>unfold zwH; rw[hm]; cases sh i <;> simp
 | some a=>
  rw[zxC hm]
  cases sh i with
  | false=>simp
  | true=>simp
theorem zxJ(hms:zxu ms)(hs:zxy ms sh)(hn:¬ zxw sh=true)(hN:0<=N){i:Nat}(hi:i < 5) :
  0<=mF ms (fun i=>sh i && !zwH ms sh (zw4 N (uF ms sh)) i) i/\mF ms (fun i=>sh i && !zwH ms sh (zw4 N (uF ms sh)) i) i<=qN N (uF ms sh) i:=by
 have hu:=zxH hms hs hn;have hq:=zw5 hu hN hi;unfold mF
 cases ho:(sh i && !zwH ms sh (zw4 N (uF ms sh)) i) with
 | false=>rw[zxE (by exact ho)]; omega
 | true=>
  obtain⟨h1,a,h2,h3⟩:=(zxI _).1 ho;have hb:=(hms.2 a (List.mem_of_getElem? h2)).most;have hp:=zxp N (uF ms sh) i;rw[zxF h2 (by exact ho)]; omega
theorem RI.next(hms:zxu ms)(h:RI ms sh N c)(hn:¬ zxw sh=true):RI ms (zwH ms sh (zw4 N (uF ms sh))) (N - S5 (mF ms fun i=>sh i && !zwH ms sh (zw4 N (uF ms sh)) i)) (fun i=>c i+mF ms (fun i=>sh i && !zwH ms sh (zw4 N (uF ms sh)) i) i):=by
 have hu:=zxH hms h.sup hn;have hm:=fun i (hi:i < 5)=>zxJ hms h.sup hn h.nn.1 hi
 have hs:S5 (mF ms fun i=>sh i && !zwH ms sh (zw4 N (uF ms sh)) i)<=S5 (zw4 N (uF ms sh)):=zxb fun i hi=>by have:=hm i hi; have:=zxp N (uF ms sh) i; omega
 rw[zxo hu] at hs
 have hs0:0<=S5 (mF ms fun i=>sh i && !zwH ms sh (zw4 N (uF ms sh)) i):=by
  have:=hm 0 (by omega); have:=hm 1 (by omega); have:=hm 2 (by omega); have:=hm 3 (by omega); have:=hm 4 (by omega);unfold S5; omega
 have hnn:=h.nn;refine⟨fun i hi=>h.sup i (zxB hi),by omega,fun i hi=>?_,fun i hi=>?_⟩
 ·have h1:=hm i hi;have h2:=h.cb i hi
  have h3:mF ms (fun i=>sh i && !zwH ms sh (zw4 N (uF ms sh)) i) i<=N:=by have:=zw5 hu h.nn.1 hi; omega
  show 0<=c i+_/\c i+_<=_
  cases ho:(sh i && !zwH ms sh (zw4 N (uF ms sh)) i) with
  | false=>
   have e:mF ms (fun i=>sh i && !zwH ms sh (zw4 N (uF ms sh)) i) i=0:=zxE (by exact ho);rw[e]; omega
  | true=>
   have hc:=h.c0 i ((zxI _).1 ho).1;rw[hc]; omega
 ·have h1:=zxB hi
  show c i+_=0
  have e:mF ms (fun i=>sh i && !zwH ms sh (zw4 N (uF ms sh)) i) i=0:=zxE (by show(sh i && !zwH ms sh _ i)=false; rw[hi]; simp);rw[h.c0 i h1,e]; rfl
theorem zxK{w:Wk}(hms:zxu w.s.Members):zty w (mkF sh)=some (mk5 (uF w.s.Members sh)):=by
 unfold zty;rw[zwG (num:=unN) (fun a ha=>?_) hms.1,obs]; rfl;have h:=hms.2 a ha;have:=h.sum; have:=h.cls;have hb:=zxv h;unfold unN at hb
 show ztu a=some (unN a)
 unfold ztu unN;rw[zqr (by omega),zqr (by omega),zqr (fI (by omega))]
theorem zxL{w:Wk}(hms:zxu w.s.Members):ztz w (mkF sh)=some (mk5 (mF w.s.Members sh)):=by
 unfold ztz;rw[zwG (number:=fun a=>ztv a) (num:=(·.Most)) (fun a _=>rfl) hms.1,obs]; rfl
theorem zxM{w:Wk}(hms:zxu w.s.Members)(need0:Int){need:Int}:∀(n D:Nat) (sh:Nat->Bool) (N:Int) (c:Nat->Int),RI w.s.Members sh N c->N+S5 c=need->need<=1000000->cF sh < n->cF sh < D ->
  ztC w need0 D need (c 0) (c 1) (c 2) (c 3) (c 4) (sh 0) (sh 1) (sh 2) (sh 3) (sh 4)=some { need:=need,calls:=mk5 (roundsN w.s.Members n sh N c).1 }
 | 0,_,_,_,_,_,_,_,h,_=>by omega
 | _+1,0,_,_,_,_,_,_,_,h=>by omega
 | n+1,D+1,sh,N,c,hr,hs,hneed,hn,hD=>by
  rw[ztC,roundsN]
  show(if zxw sh=true then _ else _)=_
  by_cases h0:zxw sh=true
  ·rw[if_pos h0,if_pos h0]; rfl
  ·rw[if_neg h0,if_neg h0];have hu:=zxH hms hr.sup h0
   have hbc:Bd 1000000000000 c:=fun i hi=>by have:=hr.cb i hi; omega
   have hcb:=hr.cb;have hc0:=hcb 0 (by omega); have hc1:=hcb 1 (by omega); have hc2:=hcb 2 (by omega); have hc3:=hcb 3 (by omega); have hc4:=hcb 4 (by omega)
   have hsc:0<=S5 c/\S5 c<=5000000:=by unfold S5; omega
   have hNN:0<=N/\N<=1000000:=hr.nn
   have e1:zts ({ need:=need,calls:=mk5 c }:Oc)=some N:=by
    unfold zts
    show(zth (mk5 c)).bind _=_
    rw[zwC hbc,obs,zqr (fI (by show -9223372036854775808<=need - S5 c/\need - S5 c < _; omega))];exact congrArg some (show need - S5 c=N by omega)
   show(zts ({ need:=need,calls:=mk5 c }:Oc)).bind _=_
   rw[e1,obs]
   show(zty w (mkF sh)).bind _=_
   rw[zxK hms,obs,zw8 hu hNN,obs]
   show(ztB w (mkF sh) (mk5 (zw4 N (uF w.s.Members sh)))).bind _=_
   rw[zwI hms.1,obs]
   have hbp:Bd 1000000000000 (zw4 N (uF w.s.Members sh)):=fun i hi=>by have:=zxq hu hNN.1 hi; have:=zxr hu hNN.1 hi; omega
   show(if zxx (zwH w.s.Members sh (zw4 N (uF w.s.Members sh))) sh=true then _ else _)=_
   by_cases h1:zxx (zwH w.s.Members sh (zw4 N (uF w.s.Members sh))) sh=true
   ·rw[if_pos h1,if_pos h1]
    have e2:ztt ({ need:=need,calls:=mk5 c }:Oc) (mk5 (zw4 N (uF w.s.Members sh)))=some { need:=need,calls:=mk5 fun i=>c i+zw4 N (uF w.s.Members sh) i }:=by
     unfold ztt
     show(ztj (mk5 c) _).bind _=_
     rw[zwD hbc hbp,obs]
    show(ztt ({ need:=need,calls:=mk5 c }:Oc) _).bind _=_
    rw[e2,obs]
   ·rw[if_neg h1,if_neg h1]
    show(ztl (mkF sh) (mkF (zwH w.s.Members sh (zw4 N (uF w.s.Members sh))))).bind _=_
    rw[zwE,obs,zxL hms,obs];have hnext:=hr.next hms h0;have hm:=fun i (hi:i < 5)=>zxJ hms hr.sup h0 hNN.1 hi
    have hbm:Bd 1000000000000 (mF w.s.Members fun i=>sh i && !zwH w.s.Members sh (zw4 N (uF w.s.Members sh)) i):=fun i hi=>by have:=hm i hi; have:=zw5 hu hNN.1 hi; omega
    have e2:ztt ({ need:=need,calls:=mk5 c }:Oc) (mk5 (mF w.s.Members fun i=>sh i && !zwH w.s.Members sh (zw4 N (uF w.s.Members sh)) i))=some { need:=need,calls:=mk5 fun i=>c i+mF w.s.Members (fun i=>sh i && !zwH w.s.Members sh (zw4 N (uF w.s.Members sh)) i) i }:=by
     unfold ztt
     show(ztj (mk5 c) _).bind _=_
     rw[zwD hbc hbm,obs]
    show(ztt ({ need:=need,calls:=mk5 c }:Oc) _).bind _=_
    rw[e2,obs];have hless:=zxD h1;have e3:S5 (fun i=>c i+mF w.s.Members (fun i=>sh i && !zwH w.s.Members sh (zw4 N (uF w.s.Members sh)) i) i)=S5 c+S5 (mF w.s.Members fun i=>sh i && !zwH w.s.Members sh (zw4 N (uF w.s.Members sh)) i):=zwM _ _
    have e4:N - S5 (mF w.s.Members fun i=>sh i && !zwH w.s.Members sh (zw4 N (uF w.s.Members sh)) i)+S5 (fun i=>c i+mF w.s.Members (fun i=>sh i && !zwH w.s.Members sh (zw4 N (uF w.s.Members sh)) i) i)=need:=by rw[e3]; omega
    exact zxM hms need0 n D _ _ _ hnext e4 hneed (by omega) (by omega)
end
def zxN(ms:List Mb)(ask:Nat->Bool)(need:Int):(Nat->Int) × Int:=roundsN ms 6 ask need fun _=>0
theorem zxO(sh:Nat->Bool):cF sh<=5:=by
 have h:∀b:Bool,b.toNat<=1:=fun b=>by cases b <;> decide
 have:=h (sh 0); have:=h (sh 1); have:=h (sh 2); have:=h (sh 3); have:=h (sh 4);unfold cF; omega
theorem zxP{w:Wk}(hms:zxu w.s.Members){ask:Nat->Bool}(ha:w.asked=mkF ask)(hsup:zxy w.s.Members ask){need:Int}(hn:0<=need/\need<=1000000):ztD w need=some { need:=need,calls:=mk5 (zxN w.s.Members ask need).1 }:=by
 unfold ztD;rw[ha];have hc:=zxO ask;exact zxM hms need 6 1000000 ask need (fun _=>0) ⟨hsup,hn,fun _ _=>by omega,fun _ _=>rfl⟩ (by rw[zwN]; omega) hn.2 (by omega) (by omega)
end
end Go.Proofs.Ytkclhciahokifaa

namespace Go.Proofs.Ytkclhciahokifaa
open _root_.Go.Proofs.Try
open Go.Abs
set_option maxRecDepth 100000
noncomputable section
section
variable {ms:List Mb}
theorem zxQ(hms:zxu ms):∀(n:Nat) (sh:Nat->Bool) (N:Int) (c:Nat->Int),RI ms sh N c->cF sh < n->S5 (roundsN ms n sh N c).1+(roundsN ms n sh N c).2=N+S5 c/\0<=(roundsN ms n sh N c).2
 | 0,_,_,_,_,h=>by omega
 | n+1,sh,N,c,hr,h=>by
  unfold roundsN
  by_cases h0:zxw sh=true
  ·rw[if_pos h0]; have:=hr.nn; exact⟨by show S5 c+N=_; omega,hr.nn.1⟩
  ·rw[if_neg h0];have hu:=zxH hms hr.sup h0
   by_cases h1:zxx (zwH ms sh (zw4 N (uF ms sh))) sh=true
   ·rw[if_pos h1];have e:S5 (fun i=>c i+zw4 N (uF ms sh) i)=S5 c+S5 (zw4 N (uF ms sh)):=zwM _ _;have hp:=zxo hu N;exact⟨by show S5 (fun i=>c i+zw4 N (uF ms sh) i)+0=_; omega,Int.le_refl _⟩
   ·rw[if_neg h1];have hless:=zxD h1;have ih:=zxQ hms n _ _ _ (hr.next hms h0) (by omega);have e:S5 (fun i=>c i+mF ms (fun i=>sh i && !zwH ms sh (zw4 N (uF ms sh)) i) i)=S5 c+S5 (mF ms fun i=>sh i && !zwH ms sh (zw4 N (uF ms sh)) i):=zwM _ _;rw[e] at ih;exact⟨by rw[ih.1]; omega,ih.2⟩
theorem zxR(hms:zxu ms):∀(n:Nat) (sh:Nat->Bool) (N:Int) (c:Nat->Int),RI ms sh N c->cF sh < n->∀i,i < 5->sh i=false->(roundsN ms n sh N c).1 i=c i
 | 0,_,_,_,_,h=>by omega
 | n+1,sh,N,c,hr,h=>fun i hi hs=>by
  unfold roundsN
  by_cases h0:zxw sh=true
  ·rw[if_pos h0]
  ·rw[if_neg h0];have hu:=zxH hms hr.sup h0
   by_cases h1:zxx (zwH ms sh (zw4 N (uF ms sh))) sh=true
   ·rw[if_pos h1]
    show c i+_=_
    rw[zxs hu (show uF ms sh i=0 from zxE hs),Int.add_zero]
   ·rw[if_neg h1];have hless:=zxD h1
    have ha:zwH ms sh (zw4 N (uF ms sh)) i=false:=by
     cases hq:zwH ms sh (zw4 N (uF ms sh)) i with
     | false=>rfl
     | true=>rw[zxB hq] at hs; cases hs
    rw[zxR hms n _ _ _ (hr.next hms h0) (by omega) i hi ha];have e:mF ms (fun i=>sh i && !zwH ms sh (zw4 N (uF ms sh)) i) i=0:=zxE (by show(sh i && _)=false; rw[hs]; rfl);rw[e,Int.add_zero]
theorem zxS(hms:zxu ms):∀(n:Nat) (sh:Nat->Bool) (N:Int) (c:Nat->Int),RI ms sh N c->cF sh < n->∀i a,i < 5->ms[i]? = some a->sh i=true->(0<=(roundsN ms n sh N c).1 i/\(roundsN ms n sh N c).1 i<=a.Most)/\(0 < (roundsN ms n sh N c).2->(roundsN ms n sh N c).1 i=a.Most)
 | 0,_,_,_,_,h=>by omega
 | n+1,sh,N,c,hr,h=>fun i a hi hm hs=>by
  unfold roundsN
  by_cases h0:zxw sh=true
  ·have:=zxz.1 h0 i hi; rw[hs] at this; cases this
  ·rw[if_neg h0];have hu:=zxH hms hr.sup h0;have hc:=hr.c0 i hs;have hp:=zxq hu hr.nn.1 hi
   by_cases h1:zxx (zwH ms sh (zw4 N (uF ms sh))) sh=true
   ·rw[if_pos h1];have h2:=zxA.1 h1 i hi;rw[zxC hm,hs,Bool.true_and] at h2;have h3:zw4 N (uF ms sh) i<=a.Most:=of_decide_eq_true h2;exact⟨by show 0<=c i+_/\c i+_<=_; omega,fun h=>absurd h (Int.lt_irrefl _)⟩
   ·rw[if_neg h1];have hless:=zxD h1
    cases hq:zwH ms sh (zw4 N (uF ms sh)) i with
    | true=>exact zxS hms n _ _ _ (hr.next hms h0) (by omega) i a hi hm hq
    | false=>
     rw[zxR hms n _ _ _ (hr.next hms h0) (by omega) i hi hq];have e:mF ms (fun i=>sh i && !zwH ms sh (zw4 N (uF ms sh)) i) i=a.Most:=zxF hm (by show(sh i && !zwH ms sh _ i)=true; rw[hs,hq]; rfl);have hb:=(hms.2 a (List.mem_of_getElem? hm)).most;rw[e,hc];exact⟨by omega,fun _=>by omega⟩
end
section
variable {ms:List Mb} {ask:Nat->Bool} {N:Int}
theorem RI0(hs:zxy ms ask)(hN:0<=N/\N<=1000000):RI ms ask N fun _=>0:=⟨hs,hN,fun _ _=>by omega,fun _ _=>rfl⟩
theorem zxT(hms:zxu ms)(hs:zxy ms ask)(hN:0<=N/\N<=1000000):S5 (zxN ms ask N).1+(zxN ms ask N).2=N/\0<=(zxN ms ask N).2:=by
 have:=zxO ask;have h:=zxQ hms 6 ask N (fun _=>0) (RI0 hs hN) (by omega);rw[zwN] at h;exact⟨by rw[Int.add_zero] at h; exact h.1,h.2⟩
theorem zxU(hms:zxu ms)(hs:zxy ms ask)(hN:0<=N/\N<=1000000){i:Nat}(hi:i < 5)(ha:ask i=false):(zxN ms ask N).1 i=0:=by
 have:=zxO ask;exact zxR hms 6 ask N (fun _=>0) (RI0 hs hN) (by omega) i hi ha
theorem zxV(hms:zxu ms)(hs:zxy ms ask)(hN:0<=N/\N<=1000000){i:Nat}{a:Mb}(hi:i < 5)(hm:ms[i]? = some a)(ha:ask i=true):(0<=(zxN ms ask N).1 i/\(zxN ms ask N).1 i<=a.Most)/\(0 < (zxN ms ask N).2->(zxN ms ask N).1 i=a.Most):=by
 have:=zxO ask;exact zxS hms 6 ask N (fun _=>0) (RI0 hs hN) (by omega) i a hi hm ha
theorem zxW(hms:zxu ms)(hs:zxy ms ask)(hN:0<=N/\N<=1000000){i:Nat}(hi:i < 5):0<=(zxN ms ask N).1 i/\(zxN ms ask N).1 i<=100000:=by
 cases ha:ask i with
 | false=>rw[zxU hms hs hN hi ha]; omega
 | true=>
  have hm:=List.getElem?_eq_getElem (hs i ha);have h:=zxV hms hs hN hi hm ha;have hb:=(hms.2 _ (List.getElem_mem (hs i ha))).most
  omega
end
end
end Go.Proofs.Ytkclhciahokifaa

namespace Go.Proofs.Ytkclhciahokifaa
open _root_.Go.Proofs.Try
open Go.Abs
set_option maxRecDepth 100000
noncomputable section
def RgV(r:Rg):Prop:=0<=r.Lo/\r.Lo<=r.Hi/\r.Hi<=100000/\r.Hi - r.Lo<=30
instance (r:Rg):Decidable (RgV r):=by unfold RgV; infer_instance
structure zxX (s:Soc):Prop where
 pos:0 < s.Members.length
 ms:∀a∈s.Members,zxt a
 ls:∀r∈s.Losses,RgV r
 tr:RgV s.Treaty
 rs:0<=s.Reserve/\s.Reserve<=100000
structure zxY (s:Soc):Prop where
 m5:s.Members.length<=5
 l3:s.Losses.length<=3
 full:zxX s
theorem zxY.msOk{s:Soc}(h:zxY s):zxu s.Members:=⟨h.m5,h.full.ms⟩
open Classical in
def zxZ(s:Soc):Int:=if 5 < s.Members.length\/3 < s.Losses.length then 3 else if zxX s then 0 else 1
theorem zx0{s:Soc}:zxZ s=0↔zxY s:=by
 unfold zxZ
 by_cases h:5 < s.Members.length\/3 < s.Losses.length
 ·rw[if_pos h]; exact⟨fun h=>by omega,fun h2=>by have:=h2.m5; have:=h2.l3; omega⟩
 ·rw[if_neg h]
  by_cases hf:zxX s
  ·rw[if_pos hf]; exact⟨fun _=>⟨by omega,by omega,hf⟩,fun _=>rfl⟩
  ·rw[if_neg hf]; exact⟨fun h=>by omega,fun h=>absurd h.full hf⟩
theorem zx1{r:Rg}{n:Int}:Ev (zsF r n) (r.Lo<=n/\n<=r.Hi):=Ev.ite fun _=>Ev.dec Iff.rfl
theorem zx2{n:Int}:Ev (zsG n) (0<=n/\n<=100000):=zx1.ret
theorem zx3{r:Rg}:Ev (zsH r) (RgV r):=by
 refine(zx2.and fun h1=>zx2.and fun h2=>Ev.ite (K:=r.Hi - r.Lo<=30) fun _=>Ev.gd (fI (by omega)) (Ev.dec Iff.rfl)).imp ?_;unfold RgV; omega
theorem zx4{a:Mb}:Ev (zsI ({ su:=({ Lo:=(1:Int),Hi:=(1000:Int) }:Rg),cl:=({ Lo:=(1:Int),Hi:=(10:Int) }:Rg),mo:=({ Lo:=(0:Int),Hi:=(100000:Int) }:Rg) }:Lm) a) (zxt a):=
 (zx1.and fun _=>zx1.and fun _=>zx1.ret).imp ⟨fun⟨h1,h2,h3⟩=>⟨h1,h2,h3⟩,fun⟨h1,h2,h3⟩=>⟨h1,h2,h3⟩⟩
theorem gM{l:List Mb}{p:Mb->Option Bool}:∀{d:Nat} {x:Int},zsK l p d x=gIdx l p d x
 | 0,_=>rfl
 | d+1,x=>by unfold zsK gIdx; simp only[gM]
theorem gR{l:List Rg}{p:Rg->Option Bool}:∀{d:Nat} {x:Int},zsP l p d x=gIdx l p d x
 | 0,_=>rfl
 | d+1,x=>by unfold zsP gIdx; simp only[gR]
theorem gI{l:List Int}{p:Int->Option Bool}:∀{d:Nat} {x:Int},zsU l p d x=gIdx l p d x
 | 0,_=>rfl
 | d+1,x=>by unfold zsU gIdx; simp only[gI]
theorem zx5{s:Soc}(h1:zrU s.Members)(h2:zrU s.Losses):Ev (zs1 s) (zxX s):=by
 refine(Ev.ite fun _=>(Ev.each (q:=zxt) (fun a _=>zx4) h1.lt gM).and fun _=>(Ev.each (q:=RgV) (fun a _=>zx3) h2.lt gR).and fun _=>zx3.and fun _=>zx2.ret).imp ?_;exact⟨fun⟨a,b,c,d,e⟩=>⟨by omega,b,c,d,e⟩,fun⟨a,b,c,d,e⟩=>⟨by omega,b,c,d,e⟩⟩
theorem zx6{s:Soc}:Ev (zs0 s) (5 < s.Members.length\/3 < s.Losses.length):=by
 unfold zs0
 by_cases h:(5:Int) < s.Members.length
 ·rw[if_pos h]; exact Ev.tt (by omega)
 ·rw[if_neg h]; exact Ev.dec (by omega)
theorem zx7{s:Soc}(h1:zrU s.Members)(h2:zrU s.Losses):zs2 s=some (zxZ s):=by
 unfold zs2 zxZ;refine zx6.pick (fun h=>?_) fun h=>?_
 ·rw[if_pos rfl,if_pos h]
 ·rw[if_neg (by decide),if_neg h];refine(zx5 h1 h2).pick (fun h=>?_) fun h=>?_
  ·rw[if_pos rfl,if_pos h]
  ·rw[if_neg (by decide),if_neg h]
theorem zx8{n lo hi:Int}:Ev (zsi n lo hi) (lo<=n/\n<=hi):=Ev.ite fun _=>Ev.dec Iff.rfl
theorem zx9{r:Rg}:Ev (zsj r) (RgV r):=Ev.ite fun h1=>Ev.ite fun h2=>Ev.ite fun h3=>Ev.gd (fI (by omega)) (Ev.dec Iff.rfl)
theorem zya{s:Soc}(h1:s.Members.length<=8)(h2:s.Losses.length<=6):zsl s=some (zxZ s):=by
 unfold zsl zxZ
 by_cases c1:5 < s.Members.length
 ·rw[if_pos (by omega),if_pos (.inl c1)]
 rw[if_neg (by omega)]
 by_cases c2:3 < s.Losses.length
 ·rw[if_pos (by omega),if_pos (.inr c2)]
 rw[if_neg (show ¬ (3:Int) < s.Losses.length by omega),if_neg (show ¬ (5 < s.Members.length\/3 < s.Losses.length) by omega)]
 by_cases c3:s.Members.length=0
 ·rw[if_pos (by omega),if_neg fun h:zxX s=>by have:=h.pos; omega]
 rw[if_neg (show ¬ (s.Members.length:Int)=0 by omega)]
 refine zx9.pick (fun c4=>?_) fun c4=>by rw[if_neg (by decide),if_neg fun h=>c4 h.tr]
 rw[if_pos rfl]
 refine zx8.pick (fun c5=>?_) fun c5=>by rw[if_neg (by decide),if_neg fun h=>c5 h.rs]
 rw[if_pos rfl]
 have kL:=zrT (l:=s.Losses) (F:=fun d x=>prFault_L1 s d x) (ok:=RgV) (bad:=some 1) (fin:=some 0) (fun d k a hk=>by
  have hkl:=(List.getElem?_eq_some_iff.1 hk).1
  show(RgV a->prFault_L1 s (d+1) (k:Int)=_)/\_
  rw[prFault_L1,if_pos (by omega),zrK hk,obs]
  exact Ev.step zx9 (by rw[if_pos rfl,zqr (fI (by omega))]) (by rw[if_neg (by decide)])) (fun d=>by show prFault_L1 s (d+1) _=_; rw[prFault_L1,if_neg (Int.lt_irrefl _)]) (d:=1000000) (by omega)
 have kM:=zrT (l:=s.Members) (F:=fun d x=>zsk s d 0 x) (ok:=zxt) (bad:=some 1) (fin:=prFault_L1 s 1000000 0) (fun d k a hk=>by
  have hkl:=(List.getElem?_eq_some_iff.1 hk).1
  show(zxt a->zsk s (d+1) 0 (k:Int)=_)/\_
  rw[zsk,if_pos (by omega),zrK hk,obs];refine⟨fun h=>?_,fun h=>?_⟩
  ·rw[zx8.some_of h.sum,obs,if_pos rfl,zx8.some_of h.cls,obs,if_pos rfl,zx8.some_of h.most,obs,if_pos rfl,zqr (fI (by omega))]
  ·refine zx8.pick (fun q1=>?_) fun q1=>by rw[if_neg (by decide)]
   rw[if_pos rfl]
   refine zx8.pick (fun q2=>?_) fun q2=>by rw[if_neg (by decide)]
   rw[if_pos rfl]
   refine zx8.pick (fun q3=>absurd ⟨q1,q2,q3⟩ h) fun q3=>by rw[if_neg (by decide)]) (fun d=>by show zsk s (d+1) 0 _=_; rw[zsk,if_neg (Int.lt_irrefl _)]) (d:=1000000) (by omega)
 by_cases c6:∀a∈s.Members,zxt a
 ·refine(kM.1 c6).trans ?_
  by_cases c7:∀r∈s.Losses,RgV r
  ·refine(kL.1 c7).trans ?_;rw[if_pos ⟨by omega,c6,c7,c4,c5⟩]
  ·refine(kL.2 c7).trans ?_;rw[if_neg fun h=>c7 h.ls]
 ·refine(kM.2 c6).trans ?_;rw[if_neg fun h=>c6 h.ms]
theorem zyb{s:Soc}(h1:s.Members.length<=8)(h2:s.Losses.length<=6):zub s=some (zxZ s):=by unfold zub; rw[zya h1 h2]; rfl
def zyc(n:Nat)(out:List Int):Nat->Bool:=fun i=>decide (i < n) && !decide ((i:Int)∈out)
def zyd(s:Soc)(out:List Int):Wk:={ s:=s,asked:=mkF (zyc s.Members.length out) }
def wk0:Wk:={ s:={ Members:=[],Losses:=[],Treaty:={ Lo:=0,Hi:=0 },Reserve:=0 },asked:={ b0:=false,b1:=false,b2:=false,b3:=false,b4:=false } }
theorem zye(ms:List Mb)(out:List Int):zxy ms (zyc ms.length out):=fun i h=>by
 unfold zyc at h
 simp at h; exact h.1
theorem zyf{l:List Int}{v:Int}(hl:zrU l):∀d (k:Nat),k<=l.length->l.length - k < d->∃r,zs5 l v d (k:Int)=some r/\(0<=r↔v∈l.drop k)
 | 0,k,_,h=>by omega
 | d+1,k,hk,h=>by
  unfold zrU at hl;unfold zs5
  by_cases hkn:k=l.length
  ·subst hkn; rw[if_neg (Int.lt_irrefl _)]; exact⟨_,rfl,by simp⟩
  ·have hlt:k < l.length:=by omega
   rw[if_pos (by omega),zrK (List.getElem?_eq_getElem hlt),obs];have hd:=List.drop_eq_getElem_cons hlt
   by_cases hv:v=l[k]
   ·rw[if_pos hv]; exact⟨_,rfl,⟨fun _=>by rw[hd,<- hv]; exact List.mem_cons_self ..,fun _=>by omega⟩⟩
   ·rw[if_neg hv,zqr (fI (by omega)),show(k:Int)+1=((k+1:Nat):Int) by omega];obtain⟨r,h1,h2⟩:=zyf hl d (k+1) (by omega) (by omega);exact⟨r,h1,h2.trans ⟨fun h=>by rw[hd]; exact List.mem_cons_of_mem _ h,fun h=>by rw[hd] at h; exact(List.mem_cons.1 h).resolve_left hv⟩⟩
theorem zyg{l:List Int}{v:Int}(hl:zrU l):zs7 l v=some (decide (v∈l)):=by
 unfold zs7 zs6;obtain⟨r,h1,h2⟩:=zyf (v:=v) hl (l.length+1) 0 (Nat.zero_le _) (by omega);have h1:zs5 l v (l.length+1) 0=some r:=h1;rw[h1,obs];exact congrArg some (decide_eq_decide.2 (h2.trans (by rw[List.drop_zero])))
theorem zyh{s:Soc}{out:List Int}(hl:zrU out)(h5:s.Members.length<=5):zs9 s out=some (zyd s out):=by
 unfold zs9;have key:=zws (n:=s.Members.length) (fun d st x=>zs8 s out d s.Treaty.Lo s.Treaty.Hi s.Reserve (st 0) (st 1) (st 2) (st 3) (st 4) x) (stF (zyc s.Members.length out) fun _=>false) (fin:=some (zyd s out)) (fun d k hk=>?_) (fun d=>?_) (s.Members.length+1) 0 (by omega) (by omega)
 ·rw[zww] at key; exact key
 ·show zs8 s out (d+1) _ _ _ _ _ _ _ _ _=_
  rw[zs8,if_pos (by omega),zyg hl,obs,zqr (by omega),zqr (fI (by omega))];have e:=zwz (zyc s.Members.length out) (fun _=>false) k
  have e0:(!decide ((k:Int)∈out))=zyc s.Members.length out k:=by unfold zyc; rw[decide_eq_true hk,Bool.true_and]
  rw[e0,e 0,e 1,e 2,e 3,e 4]
 ·show zs8 s out (d+1) _ _ _ _ _ _ _ _ _=_
  rw[zs8,if_neg (by omega)]
  have e1:∀j,stF (zyc s.Members.length out) (fun _=>false) s.Members.length j=zyc s.Members.length out j:=fun j=>by
   unfold stF
   by_cases h:j < s.Members.length
   ·rw[if_pos h]
   ·rw[if_neg h]; unfold zyc; rw[decide_eq_false h]; rfl
  rw[e1 0,e1 1,e1 2,e1 3,e1 4]; rfl
def zyi(n:Nat)(l:List Int):Prop:=l.Pairwise (· < ·)/\∀v∈l,0<=v/\v<=(n:Int) - 1
theorem zyj{l:List Int}:(∀j,0 < j->j < l.length->∀a b,l[j - 1]? = some a->l[j]? = some b->a < b)↔l.Pairwise (· < ·):=by
 constructor
 ·intro h;rw[List.pairwise_iff_getElem];intro i j hi hj hij
  have key:∀d,(hd:i+d+1 < l.length)->l[i] < l[i+d+1]:=fun d=>by
   induction d with
   | zero=>intro hd; exact h (i+1) (by omega) hd _ _ (List.getElem?_eq_getElem hi) (List.getElem?_eq_getElem hd)
   | succ d ih=>
    intro hd;have h1:=ih (by omega);have h2:=h (i+(d+1)+1) (by omega) hd _ _ (List.getElem?_eq_getElem (show i+d+1 < l.length by omega)) (List.getElem?_eq_getElem hd);exact Int.lt_trans h1 h2
  have:=key (j - i - 1) (by omega)
  simpa [show i+(j - i - 1)+1=j by omega] using this
 ·intro h j h0 hj a b ha hb;obtain⟨h1,rfl⟩:=List.getElem?_eq_some_iff.1 ha;obtain⟨h2,rfl⟩:=List.getElem?_eq_some_iff.1 hb;exact List.pairwise_iff_getElem.1 h (j - 1) j h1 h2 (by omega)
theorem zyk{l:List Int}(hl:zrU l):Ev (zsZ l) (l.Pairwise (· < ·)):=by
 unfold zrU at hl;unfold zsZ
 by_cases h0:l.length=0
 ·have:l=[]:=List.eq_nil_of_length_eq_zero h0;subst this
  show Ev (zsY [] 1 1) _
  rw[zsY,if_neg (by decide)];exact Ev.tt .nil
 ·have e:∃n,l.length=n+1:=⟨l.length - 1,by omega⟩;obtain⟨n,hn⟩:=e
  have key:=zrO (n:=n) (F:=fun d x=>zsY l d (x+1)) (ok:=fun j=>∀a b,l[j]? = some a->l[j+1]? = some b->a < b) (bad:=some false) (fin:=some true) (fun d k hk=>by
   show(_->zsY l (d+1) ((k:Int)+1)=_)/\_
   have ha:=List.getElem?_eq_getElem (show k < l.length by omega);have hb:=List.getElem?_eq_getElem (show k+1 < l.length by omega);rw[zsY,if_pos (by omega),zrL (show(k:Int)+1=((k+1:Nat):Int) by omega) (show k+1 < l.length by omega),obs,zqr (fI (by omega)),zrL (show(k:Int)+1 - 1=(k:Int) by omega) (show k < l.length by omega),obs];refine⟨fun h=>?_,fun h=>?_⟩
   ·have:=h _ _ ha hb;rw[if_neg (by omega),zqr (fI (by omega))]
   ·rw[if_pos]
    apply Classical.byContradiction
    intro h2
    exact h fun a b h3 h4=>by rw[ha] at h3; rw[hb] at h4; cases h3; cases h4; omega) (fun d=>by show zsY l (d+1) _=_; rw[zsY,if_neg (by omega)]) (d:=((l.length:Int) - 1).toNat+1) (by omega)
  have e0:zsY l (((l.length:Int) - 1).toNat+1) (0+1)=zsY l (((l.length:Int) - 1).toNat+1) 1:=rfl
  have hiff:(∀j,j < n->∀a b,l[j]? = some a->l[j+1]? = some b->a < b)↔l.Pairwise (· < ·):=by
   rw[<- zyj]
   constructor
   ·intro h j h0 hj a b h1 h2;have:=h (j - 1) (by omega) a b h1;rw[show j - 1+1=j by omega] at this;exact this h2
   ·intro h j hj a b h1 h2;exact h (j+1) (by omega) (by omega) a b (by rw[Nat.add_sub_cancel]; exact h1) h2
  by_cases hq:∀j,j < n->∀a b,l[j]? = some a->l[j+1]? = some b->a < b
  ·have:=key.1 hq;exact⟨true,this,⟨fun _=>hiff.1 hq,fun _=>rfl⟩⟩
  ·have:=key.2 hq;exact⟨false,this,⟨fun h=>(by cases h),fun h=>absurd (hiff.2 h) hq⟩⟩
theorem zyl{s:Soc}{l:List Int}(hl:zrU l)(hm:zrU s.Members):Ev (zs4 s l) (zyi s.Members.length l):=by
 unfold zrU at hm;refine((zyk hl).and fun _=>(Ev.each (q:=fun v=>0<=v/\v<=(s.Members.length:Int) - 1) (fun v _=>?_) hl.lt gI).ret).imp Iff.rfl;exact Ev.gd (fI (by omega)) zx1.ret
theorem zym{s:Soc}{out:List Int}(hs:zxY s)(hl:zrU out)(ho:zyi s.Members.length out):zta s out=some (zyd s out,0):=by
 have h1:=hs.m5; have h2:=hs.l3;unfold zta;rw[zx7 (by unfold zrU; omega) (by unfold zrU; omega),obs,if_pos (zx0.2 hs),(zyl hl (by unfold zrU; omega)).some_of ho,obs,if_pos rfl,zyh hl h1,obs]
theorem zyn{s:Soc}{out:List Int}(h1:zrU s.Members)(h2:zrU s.Losses)(hf:zxZ s ≠ 0):zta s out=some (wk0,zxZ s):=by
 unfold zta;rw[zx7 h1 h2,obs,if_neg hf]; rfl
theorem zyo(n:Nat):zyi n []:=⟨.nil,fun _ h=>by cases h⟩
def zyp(lo hi:Int):List Int:=(List.range (hi - lo+1).toNat).map fun(k:Nat)=>lo+(k:Int)
theorem zyq{lo hi x:Int}:x∈zyp lo hi↔lo<=x/\x<=hi:=by
 unfold zyp;rw[List.mem_map]
 constructor
 ·rintro⟨k,h1,rfl⟩
  have:=List.mem_range.1 h1
  omega
 ·intro h; exact⟨(x - lo).toNat,List.mem_range.2 (by omega),by omega⟩
def zyr(g:Rg->Int)(l:List Rg):Int:=zwK (l.map g)
theorem zys{l:List Rg}(h:∀r∈l,RgV r):0<=zyr (·.Lo) l/\zyr (·.Lo) l<=zyr (·.Hi) l/\zyr (·.Hi) l<=100000 * l.length/\zyr (·.Hi) l<=zyr (·.Lo) l+30 * l.length:=by
 induction l with
 | nil=>exact⟨Int.le_refl _,Int.le_refl _,Int.le_refl _,Int.le_refl _⟩
 | cons r l ih=>
  have ih:=ih fun r hr=>h r (List.mem_cons_of_mem _ hr);have hr:=h r (List.mem_cons_self ..);unfold RgV at hr;have e1:zyr (·.Lo) (r::l)=r.Lo+zyr (·.Lo) l:=rfl;have e2:zyr (·.Hi) (r::l)=r.Hi+zyr (·.Hi) l:=rfl;rw[e1,e2,List.length_cons]
  omega
def loN(s:Soc):Int:=max 0 (zyr (·.Lo) s.Losses - s.Reserve - s.Treaty.Hi)
def hiN(s:Soc):Int:=max 0 (zyr (·.Hi) s.Losses - s.Reserve - s.Treaty.Lo)
theorem zyt{s:Soc}(hs:zxY s):0<=loN s/\loN s<=hiN s/\hiN s<=300000/\hiN s<=loN s+120:=by
 have h:=zys hs.full.ls;have h1:=hs.l3;have h2:=hs.full.tr;have h3:=hs.full.rs;unfold RgV at h2;unfold loN hiN
 omega
theorem zyu{g:Rg->Int}{l:List Rg}{k:Nat}{a:Rg}(h:l[k]? = some a):zyr g (l.take (k+1))=zyr g (l.take k)+g a:=by
 unfold zyr;rw[List.take_add_one,h,List.map_append,zwL]
 show _+(g a+0)=_; omega
theorem zyv{s:Soc}{a b:Int}(h:0<=a/\a<=1000000)(hb:0<=b/\b<=1000000)(hr:0<=s.Reserve/\s.Reserve<=100000):ztb s a b=some (max 0 (a - s.Reserve - b)):=by
 unfold ztb;rw[zqr (fI (by omega)),zqr (fI (by omega))]
theorem zyw{hi:Int}(hh:hi<=1000000):∀(d:Nat) (x:Int),0<=x->(hi - x+1).toNat < d->ztc hi d x=some (zyp x hi)
 | 0,_,_,h=>by omega
 | d+1,x,hx,h=>by
  rw[ztc]
  by_cases hc:x<=hi
  ·rw[if_pos hc,zqr (fI (by omega)),zyw hh d (x+1) (by omega) (by omega),obs]
   have e:(hi - x+1).toNat=(hi - (x+1)+1).toNat+1:=by omega
   have e2:zyp x hi=x::zyp (x+1) hi:=by
    unfold zyp;rw[e,List.range_succ_eq_map,List.map_cons,List.map_map];refine congr (congrArg List.cons (by show x+((0:Nat):Int)=x; omega)) (List.map_congr_left fun k _=>?_)
    show x+((k+1:Nat):Int)=x+1+(k:Int)
    omega
   rw[e2]
  ·rw[if_neg hc]
   have e:(hi - x+1).toNat=0:=by omega
   unfold zyp; rw[e]; rfl
theorem zyx{s:Soc}(hs:zxY s):ztf s=some (zyp (loN s) (hiN s)):=by
 have hb:=zys hs.full.ls;have hn:=zyt hs;have h3:=hs.l3;have htr:=hs.full.tr;unfold RgV at htr;have hrs:=hs.full.rs
 have e:zte s=some (zyp (loN s) (hiN s)):=by
  unfold zte;refine zws (n:=s.Losses.length) (fun d (st:Int × Int) x=>ztd s d st.1 st.2 x) (fun k=>(zyr (·.Lo) (s.Losses.take k),zyr (·.Hi) (s.Losses.take k))) (fun d k hk=>?_) (fun d=>?_) (s.Losses.length+1) 0 (by omega) (by omega)
  ·have hg:=List.getElem?_eq_getElem hk;have h1:=zys (l:=s.Losses.take k) fun r hr=>hs.full.ls r (List.mem_of_mem_take hr);have h2:=hs.full.ls _ (List.getElem_mem hk)
   have h4:(s.Losses.take k).length<=3:=by rw[List.length_take]; omega
   unfold RgV at h2
   show ztd s (d+1) (zyr _ _) (zyr _ _) (k:Int)=ztd s d (zyr _ _) (zyr _ _) _
   rw[ztd,if_pos (by omega),zrK hg,obs,zqr (fI (by omega)),zqr (fI (by omega)),zqr (fI (by omega)),zyu hg,zyu hg]
  ·show ztd s (d+1) (zyr _ _) (zyr _ _) _=_
   rw[ztd,if_neg (Int.lt_irrefl _),List.take_length,zyv (by omega) (by omega) hrs,obs,zyv (by omega) (by omega) hrs,obs];exact zyw (by unfold hiN at hn; omega) _ _ (by omega) (by omega)
 unfold ztf;rw[e]; rfl
end
end Go.Proofs.Ytkclhciahokifaa

namespace Go.Proofs.Ytkclhciahokifaa
open _root_.Go.Proofs.Try
open Go.Abs
set_option maxRecDepth 100000
noncomputable section
def Inc(n fr:Nat)(T:List Int):Prop:=T.Pairwise (· < ·)/\∀v∈T,(fr:Int)<=v/\v < n
theorem Inc.cons{n fr:Nat}{x:Int}{T:List Int}:Inc n fr (x::T)↔((fr:Int)<=x/\x < n)/\Inc n (x+1).toNat T:=by
 unfold Inc;rw[List.pairwise_cons]
 constructor
 ·rintro⟨⟨h1,h2⟩,h3⟩
  have hx:=h3 x (List.mem_cons_self ..);exact⟨hx,h2,fun v hv=>by have:=h1 v hv; have:=h3 v (List.mem_cons_of_mem _ hv); omega⟩
 ·rintro⟨hx,h2,h3⟩
  refine⟨⟨fun v hv=>by have:=h3 v hv; omega,h2⟩,fun v hv=>?_⟩
  rcases List.mem_cons.1 hv with rfl | hv
  ·exact hx
  ·have:=h3 v hv; omega
theorem zyy{n:Nat}{D:List Int}:∀{d:Nat} {pre:List Int} {fr:Nat},D∈zrz n d pre fr↔∃T,D=pre++T/\T.length=d/\Inc n fr T
 | 0,pre,fr=>by
  show D∈[pre]↔_
  rw[List.mem_singleton]
  constructor
  ·rintro rfl; exact⟨[],by simp,rfl,.nil,fun v hv=>by cases hv⟩
  ·rintro⟨T,h1,h2,_⟩
   rw[List.eq_nil_of_length_eq_zero h2,List.append_nil] at h1; exact h1
 | d+1,pre,fr=>by
  show D∈zry (fun x=>zrz n d (pre++[(x:Int)]) (x+1)) (n - fr) fr↔_
  rw[zuH]
  constructor
  ·rintro⟨x,h1,h2,h3⟩
   obtain⟨T,h4,h5,h6⟩:=zyy.1 h3;refine⟨(x:Int)::T,by rw[h4]; simp,by simp[h5],Inc.cons.2 ⟨by omega,?_⟩⟩;rw[show((x:Int)+1).toNat=x+1 by omega]; exact h6
  ·rintro⟨T,h1,h2,h3⟩
   cases T with
   | nil=>simp at h2
   | cons v T=>
    obtain⟨h4,h5⟩:=Inc.cons.1 h3;refine⟨v.toNat,by omega,by omega,zyy.2 ⟨T,?_,by simpa using h2,?_⟩⟩
    ·rw[show((v.toNat:Nat):Int)=v by omega,h1]; simp
    ·rw[show v.toNat+1=(v+1).toNat by omega]; exact h5
theorem zyz{n:Nat}:∀{T:List Int} {fr:Nat},Inc n fr T->T.length<=n - fr
 | [],_,_=>Nat.zero_le _
 | v::T,fr,h=>by
  obtain⟨h1,h2⟩:=Inc.cons.1 h;have:=zyz h2
  simp only[List.length_cons]
  omega
theorem zyA{n:Nat}{D:List Int}:D∈zoh n↔Inc n 0 D:=by
 unfold zoh;rw[zuH]
 constructor
 ·rintro⟨s,_,_,h⟩
  obtain⟨T,h1,_,h2⟩:=zyy.1 h;rw[h1]; exact h2
 ·intro h;have:=zyz h;exact⟨D.length,Nat.zero_le _,by omega,zyy.2 ⟨D,rfl,rfl,h⟩⟩
theorem zyB(b p:Nat):(b:Int) / 2 ^ p=((b / 2 ^ p:Nat):Int):=by simp
def bef:List Int->List Int->Bool
 | [],[]=>false
 | [],_::_=>true
 | _::_,[]=>false
 | x::a,y::b=>if x=y then bef a b else decide (x < y)
def shB(a b:List Int):Bool:=decide (a.length < b.length) || (decide (a.length=b.length) && bef a b)
theorem zyC:∀A:List Int,bef A A=false
 | []=>rfl
 | x::A=>by show(if x=x then bef A A else _)=_; rw[if_pos rfl,zyC A]
theorem zyD:∀A B:List Int,A=B\/bef A B=true\/bef B A=true
 | [],[]=>.inl rfl
 | [],_::_=>.inr (.inl rfl)
 | _::_,[]=>.inr (.inr rfl)
 | x::A,y::B=>by
  show x::A=y::B\/(if x=y then bef A B else decide (x < y))=true\/(if y=x then bef B A else decide (y < x))=true
  by_cases hxy:x=y
  ·subst hxy;rw[if_pos rfl,if_pos rfl]
   rcases zyD A B with h | h | h
   ·exact .inl (by rw[h])
   ·exact .inr (.inl h)
   ·exact .inr (.inr h)
  ·rw[if_neg hxy,if_neg fun h=>hxy h.symm]
   by_cases h:x < y
   ·exact .inr (.inl (decide_eq_true h))
   ·exact .inr (.inr (decide_eq_true (by omega)))
theorem zyE{l:List Int}(h:l ≠ [])(hl:l.length<=1048577):ztH l=some (zrW l):=by
 unfold ztH
 cases l with
 | nil=>exact absurd rfl h
 | cons x l=>
  rw[if_neg (by rw[List.length_cons]; omega),zrM rfl,obs];refine(zrV (l:=x::l) (fun s a=>min s a) (fun d s k=>ztG (x::l) d s k) (fun s=>some s) (fun d k s a hk=>?_) (fun d s=>?_) _ 0 x (Nat.zero_le _) (by omega)).trans ?_
  ·have hkl:=(List.getElem?_eq_some_iff.1 hk).1
   show ztG (x::l) (d+1) s (k:Int)=_
   rw[ztG,if_pos (by omega),zrK hk,obs]
   by_cases hc:a < s
   ·rw[if_pos hc,zqr (fI (by omega)),Int.min_eq_right (by omega)]
   ·rw[if_neg hc,zqr (fI (by omega)),Int.min_eq_left (by omega)]
  ·show ztG (x::l) (d+1) s _=_
   rw[ztG,if_neg (Int.lt_irrefl _)]
  ·rw[List.drop_zero]
   show some (l.foldl min (min x x))=_
   rw[Int.min_self]; rfl
theorem zyF{l:List Int}(h:l ≠ [])(hl:l.length<=1048577):ztJ l=some (zrX l):=by
 unfold ztJ
 cases l with
 | nil=>exact absurd rfl h
 | cons x l=>
  rw[if_neg (by rw[List.length_cons]; omega),zrM rfl,obs];refine(zrV (l:=x::l) (fun s a=>max s a) (fun d s k=>ztI (x::l) d s k) (fun s=>some s) (fun d k s a hk=>?_) (fun d s=>?_) _ 1 x (by rw[List.length_cons]; omega) (by rw[List.length_cons]; omega)).trans ?_
  ·have hkl:=(List.getElem?_eq_some_iff.1 hk).1
   show ztI (x::l) (d+1) s (k:Int)=_
   rw[ztI,if_pos (by omega),zrK hk,obs,zqr (fI (by omega))]
  ·show ztI (x::l) (d+1) s _=_
   rw[ztI,if_neg (Int.lt_irrefl _)]
  ·rfl
theorem zyG{l:List Int}(h:l ≠ []):zrW l∈l/\∀y∈l,zrW l<=y:=by
 cases l with
 | nil=>exact absurd rfl h
 | cons x l=>
  obtain⟨h1,h2,h3⟩:=zrY l x;refine⟨?_,fun y hy=>?_⟩
  ·rcases h1 with h1 | h1
   ·show l.foldl min x∈_; rw[h1]; exact List.mem_cons_self ..
   ·exact List.mem_cons_of_mem _ h1
  ·rcases List.mem_cons.1 hy with rfl | hy
   ·exact h2
   ·exact h3 y hy
theorem zyH{l:List Int}(h:l ≠ []):zrX l∈l/\∀y∈l,y<=zrX l:=by
 cases l with
 | nil=>exact absurd rfl h
 | cons x l=>
  obtain⟨h1,h2,h3⟩:=zrZ l x;refine⟨?_,fun y hy=>?_⟩
  ·rcases h1 with h1 | h1
   ·show l.foldl max x∈_; rw[h1]; exact List.mem_cons_self ..
   ·exact List.mem_cons_of_mem _ h1
  ·rcases List.mem_cons.1 hy with rfl | hy
   ·exact h2
   ·exact h3 y hy
def bnd(s:Soc)(g:Int->Int):Rg:={ Lo:=zrW ((zyp (loN s) (hiN s)).map g),Hi:=zrX ((zyp (loN s) (hiN s)).map g) }
def zyI(s:Soc)(out:List Int)(N:Int):Oc:={ need:=N,calls:=mk5 (zxN s.Members (zyc s.Members.length out) N).1 }
theorem zyJ{s:Soc}(hs:zxY s):(zyp (loN s) (hiN s)).length<=121:=by
 have:=zyt hs;unfold zyp; rw[List.length_map,List.length_range]; omega
theorem zyK{s:Soc}(hs:zxY s):zyp (loN s) (hiN s) ≠ []:=fun h=>by
 have:=zyt hs;have:loN s∈zyp (loN s) (hiN s):=zyq.2 (by omega)
 rw[h] at this; cases this
theorem zyL{s:Soc}(hs:zxY s)(g:Int->Int):(∃N,(loN s<=N/\N<=hiN s)/\g N=(bnd s g).Lo)/\(∃N,(loN s<=N/\N<=hiN s)/\g N=(bnd s g).Hi)/\∀N,loN s<=N/\N<=hiN s->(bnd s g).Lo<=g N/\g N<=(bnd s g).Hi:=by
 have hne:(zyp (loN s) (hiN s)).map g ≠ []:=fun h=>zyK hs (List.map_eq_nil_iff.1 h);obtain⟨a1,a2⟩:=zyG hne;obtain⟨b1,b2⟩:=zyH hne;obtain⟨x,hx,ex⟩:=List.mem_map.1 a1;obtain⟨y,hy,ey⟩:=List.mem_map.1 b1;exact⟨⟨x,zyq.1 hx,ex⟩,⟨y,zyq.1 hy,ey⟩,fun N hN=>⟨a2 _ (List.mem_map.2 ⟨N,zyq.2 hN,rfl⟩),b2 _ (List.mem_map.2 ⟨N,zyq.2 hN,rfl⟩)⟩⟩
theorem zyM{s:Soc}(hs:zxY s):bnd s (fun N=>N)={ Lo:=loN s,Hi:=hiN s }:=by
 obtain⟨⟨x,hx,ex⟩,⟨y,hy,ey⟩,h⟩:=zyL hs fun N=>N;have hb:=zyt hs;have h1:=(h (loN s) ⟨Int.le_refl _,hb.2.1⟩).1;have h2:=(h (hiN s) ⟨hb.2.1,Int.le_refl _⟩).2
 have e1:(bnd s fun N=>N).Lo=loN s:=by omega
 have e2:(bnd s fun N=>N).Hi=hiN s:=by omega
 revert e1 e2
 generalize bnd s (fun N=>N)=r;intro e1 e2
 cases r
 exact congr (congrArg Rg.mk e1) e2
theorem zyN{s:Soc}(hs:zxY s)(out:List Int){N:Int}(hN:0<=N/\N<=1000000):ztD (zyd s out) N=some (zyI s out N):=zxP (w:=zyd s out) hs.msOk rfl (zye s.Members out) hN
theorem zyO{s:Soc}(hs:zxY s){out:List Int}{q:Qu}{g:Int->Int}(hg:∀N,loN s<=N->N<=hiN s->q.ask (zyI s out N)=some (g N)) :
  ∀(L:List Int) (acc:List Int),(∀N∈L,loN s<=N/\N<=hiN s)->acc.length+L.length<=1000->acc++L.map g ≠ []->ztK (zyd s out) q L acc=some { Lo:=zrW (acc++L.map g),Hi:=zrX (acc++L.map g) }
 | [],acc,_,hl,hne=>by
  rw[List.map_nil,List.append_nil] at hne ⊢;rw[ztK,zyE hne (by omega),obs,zyF hne (by omega),obs]
 | N::L,acc,hN,hl,hne=>by
  have h1:=hN N (List.mem_cons_self ..);have hb:=zyt hs;rw[List.length_cons] at hl;rw[ztK,zyN hs out (by omega),obs,hg N h1.1 h1.2,obs,zqr (by omega),zyO hs hg L (acc++[g N]) (fun x hx=>hN x (List.mem_cons_of_mem _ hx)) (by rw[List.length_append]; show acc.length+1+_<=_; omega) (by simp)];rw[List.map_cons,List.append_assoc]; rfl
theorem zyP{s:Soc}(hs:zxY s){out:List Int}{q:Qu}{g:Int->Int}(hg:∀N,loN s<=N->N<=hiN s->q.ask (zyI s out N)=some (g N)):ztL (zyd s out) q=some (bnd s g):=by
 unfold ztL;rw[show(zyd s out).s=s from rfl,zyx hs,obs];have hl:=zyJ hs;exact zyO hs hg _ [] (fun N hN=>zyq.1 hN) (by show 0+_<=_; omega) (fun h=>zyK hs (List.map_eq_nil_iff.1 h))
theorem zyQ{s:Soc}(hs:zxY s):ztT s=some ({ Lo:=loN s,Hi:=hiN s },0):=by
 unfold ztT;rw[zym hs (Nat.zero_le _) (zyo _),obs,if_pos rfl,zyP hs (g:=fun N=>N) (fun N _ _=>rfl),obs,zyM hs]
theorem zyR{s:Soc}(hs:zxY s)(out:List Int){N:Int}(hN:0<=N/\N<=1000000):zts (zyI s out N)=some (zxN s.Members (zyc s.Members.length out) N).2:=by
 have hsup:=zye s.Members out;have h1:=zxT hs.msOk hsup hN
 have hb:Bd 1000000000000 (zxN s.Members (zyc s.Members.length out) N).1:=fun i hi=>by have:=zxW hs.msOk hsup hN hi; omega
 have hb5:=fun i hi=>zxW hs.msOk hsup hN (i:=i) hi;have b0:=hb5 0 (by omega); have b1:=hb5 1 (by omega); have b2:=hb5 2 (by omega); have b3:=hb5 3 (by omega); have b4:=hb5 4 (by omega)
 have hS:0<=S5 (zxN s.Members (zyc s.Members.length out) N).1/\S5 (zxN s.Members (zyc s.Members.length out) N).1<=500000:=by unfold S5; omega
 unfold zts
 show(zth (mk5 (zxN s.Members (zyc s.Members.length out) N).1)).bind _=_
 rw[zwC hb,obs,zqr (fI (by show -9223372036854775808<=N - S5 _/\N - S5 _ < _; omega))];exact congrArg some (show N - S5 (zxN s.Members (zyc s.Members.length out) N).1=_ by omega)
def zyS(s:Soc)(out:List Int)(N:Int):List Int:=(l5 (zxN s.Members (zyc s.Members.length out) N).1).take s.Members.length
theorem zyT{s:Soc}(out:List Int)(N:Int)(h5:s.Members.length<=5):(zyS s out N).length=s.Members.length:=by
 unfold zyS; rw[List.length_take]; show min _ 5=_; omega
theorem zyU{s:Soc}(out:List Int)(N:Int)(h5:s.Members.length<=5){k:Nat}(hk:k < s.Members.length):(zyS s out N)[k]? = some ((zxN s.Members (zyc s.Members.length out) N).1 k):=by
 unfold zyS; rw[List.getElem?_take,if_pos hk]; exact zwt (by omega)
theorem zyV{s:Soc}(hs:zxY s){N:Int}(hN:0<=N/\N<=300000):ztV s N=some (zyS s [] N,(zxN s.Members (zyc s.Members.length []) N).2,0):=by
 have h5:=hs.m5;unfold ztV;rw[zym hs (Nat.zero_le _) (zyo _),obs,if_pos rfl,zx1.some_of hN,obs,if_pos rfl]
 show(ztD (zyd s []) N).bind _=_
 rw[zyN hs [] (by omega),obs,zqr (by omega)]
 have e:ztU ((([(zyI s [] N).calls.p0,(zyI s [] N).calls.p1,(zyI s [] N).calls.p2,(zyI s [] N).calls.p3,(zyI s [] N).calls.p4]:List Int).take (Int.toNat (s.Members.length:Int))).drop (Int.toNat (0:Int)))=some (zyS s [] N):=by
  have hl:=zyT [] N h5
  show ztU (zyS s [] N)=_
  unfold ztU;rw[zqr (by rw[hl]; show 0+_<=_; omega)]; rfl
 rw[e,obs,zyR hs [] (by omega),obs]
theorem zyW{s:Soc}(hs:zxY s){N:Int}(hN:¬ (0<=N/\N<=300000)):ztV s N=some ([],0,2):=by
 unfold ztV;rw[zym hs (Nat.zero_le _) (zyo _),obs,if_pos rfl,zx1.some_not hN,obs,if_neg (by decide)]
theorem zyX{s:Soc}(hs:zxY s)(out:List Int)(N:Int){k:Nat}(hk:k < s.Members.length):ztE (zyI s out N) (k:Int)=some ((zxN s.Members (zyc s.Members.length out) N).1 k):=by
 have h5:=hs.m5;unfold ztE
 show(idx (l5 (zxN s.Members (zyc s.Members.length out) N).1) (k:Int)).bind _=_
 rw[zwu (by omega),obs]
def zyY(s:Soc)(out:List Int):List Rg:=(List.range s.Members.length).map fun k=>bnd s fun N=>(zxN s.Members (zyc s.Members.length out) N).1 k
theorem zyZ{s:Soc}(out:List Int):(zyY s out).length=s.Members.length:=by unfold zyY; rw[List.length_map,List.length_range]
theorem zy0{s:Soc}(out:List Int){k:Nat}(hk:k < s.Members.length):(zyY s out)[k]? = some (bnd s fun N=>(zxN s.Members (zyc s.Members.length out) N).1 k):=by
 unfold zyY; rw[List.getElem?_map,List.getElem?_range hk]; rfl
theorem zy1{s:Soc}(hs:zxY s){out:List Int}(hl:zrU out)(ho:zyi s.Members.length out):ztX s out=some (zyY s out,0):=by
 have h5:=hs.m5;unfold ztX;rw[zym hs hl ho,obs,if_pos rfl];refine zws (n:=s.Members.length) (fun d acc x=>ztW s (zyd s out,0) d acc x) (fun k=>(zyY s out).take k) (fun d k hk=>?_) (fun d=>?_) (s.Members.length+1) 0 (by omega) (by omega)
 ·show ztW s (zyd s out,0) (d+1) _ _=_
  have hb:ztF (k:Int)=some (fun o=>ztE o (k:Int)):=rfl;rw[ztW,if_pos (by omega),hb,obs]
  show(ztL (zyd s out) _).bind _=_
  rw[zyP hs (g:=fun N=>(zxN s.Members (zyc s.Members.length out) N).1 k) (fun N _ _=>zyX hs out N hk),obs,zqr (by rw[List.length_take]; omega),zqr (fI (by omega))];rw[List.take_add_one,zy0 out hk]; rfl
 ·show ztW s (zyd s out,0) (d+1) _ _=_
  rw[ztW,if_neg (Int.lt_irrefl _),List.take_of_length_le (by rw[zyZ]; exact Nat.le_refl _)]
theorem zy2{s:Soc}(hs:zxY s):ztY s=some (zyY s [],0):=by
 unfold ztY;rw[zy1 hs (Nat.zero_le _) (zyo _),obs]
def zy3(s:Soc)(out:List Int)(N:Int):Int:=(zxN s.Members (zyc s.Members.length out) N).2
theorem zy4{s:Soc}(hs:zxY s):ztZ s=some (bnd s (zy3 s []),0):=by
 have hb:=zyt hs;unfold ztZ;rw[zym hs (Nat.zero_le _) (zyo _),obs,if_pos rfl,zyP hs (g:=zy3 s []) (fun N h1 h2=>zyR hs [] (by omega)),obs]
theorem zy5{s:Soc}(hs:zxY s)(out:List Int):ztM (zyd s out)=some (hiN s):=by
 unfold ztM;rw[zyP hs (g:=fun N=>N) (fun N _ _=>rfl),obs,zyM hs]
theorem zy6(a:Mb){r t:Int}(hu:0<=unN a)(h:r<=t):min (unN a * r / 100) a.Most<=min (unN a * t / 100) a.Most:=by
 have h1:unN a * r<=unN a * t:=Int.mul_le_mul_of_nonneg_left h hu;have h2:=Int.ediv_le_ediv (c:=100) (by omega) h1
 omega
def brN(ms:List Mb)(rate:Int):Int:=zwK (ms.map fun a=>min (unN a * rate / 100) a.Most)
theorem zy7{ms:List Mb}(hm:∀a∈ms,zxt a){r:Int}(hr:0<=r/\r<=10000):0<=brN ms r/\brN ms r<=100000 * ms.length:=by
 induction ms with
 | nil=>exact⟨Int.le_refl _,Int.le_refl _⟩
 | cons a ms ih=>
  have ih:=ih fun a ha=>hm a (List.mem_cons_of_mem _ ha);have ha:=hm a (List.mem_cons_self ..);have hu:=zxv ha;have hmo:=ha.most;have h1:0<=unN a * r / 100:=Int.ediv_nonneg (Int.mul_nonneg (by omega) hr.1) (by omega);have e:brN (a::ms) r=min (unN a * r / 100) a.Most+brN ms r:=rfl;rw[e,List.length_cons]; omega
theorem zy8{ms:List Mb}(hm:∀a∈ms,zxt a){r t:Int}(h:r<=t):brN ms r<=brN ms t:=by
 induction ms with
 | nil=>exact Int.le_refl _
 | cons a ms ih=>
  have ih:=ih fun a ha=>hm a (List.mem_cons_of_mem _ ha);have h2:=zy6 a (by have:=zxv (hm a (List.mem_cons_self ..)); omega) h
  show min _ _+brN ms r<=min _ _+brN ms t
  omega
theorem zy9{ms:List Mb}{r:Int}{k:Nat}{a:Mb}(h:ms[k]? = some a):brN (ms.take (k+1)) r=brN (ms.take k) r+min (unN a * r / 100) a.Most:=by
 unfold brN;rw[List.take_add_one,h,List.map_append,zwL]
 show _+(min (unN a * r / 100) a.Most+0)=_
 rw[Int.add_zero]
theorem zza{s:Soc}(hs:zxY s)(out:List Int){r:Int}(hr:0<=r/\r<=10000):ztO (zyd s out) r=some (brN s.Members r):=by
 have h5:=hs.m5;unfold ztO;refine zws (n:=s.Members.length) (fun d acc x=>ztN (zyd s out) r d acc x) (fun k=>brN (s.Members.take k) r) (fun d k hk=>?_) (fun d=>?_) (s.Members.length+1) 0 (by omega) (by omega)
 ·have hg:=List.getElem?_eq_getElem hk;have ha:=hs.full.ms _ (List.getElem_mem hk);have hu:=zxv ha;have hmo:=ha.most;have hb:=zy7 (ms:=s.Members.take k) (fun a ha=>hs.full.ms a (List.mem_of_mem_take ha)) hr
  have hlk:(s.Members.take k).length<=5:=by rw[List.length_take]; omega
  have hm:=zw3 (a:=unN s.Members[k]) (x:=r) (A:=10000) (X:=10000) (by omega) hr;have hq:0<=unN s.Members[k] * r / 100:=Int.ediv_nonneg hm.1 (by omega)
  have hun:ztu s.Members[k]=some (unN s.Members[k]):=by
   have h1:=ha.sum; have h2:=ha.cls;unfold unN at hu;unfold ztu unN;rw[zqr (by omega),zqr (by omega),zqr (fI (by omega))]
  show ztN (zyd s out) r (d+1) _ _=_
  rw[ztN,if_pos (show(k:Int) < ((zyd s out).s.Members.length:Int) by show(k:Int) < (s.Members.length:Int); omega),show idx (zyd s out).s.Members (k:Int)=some s.Members[k] from zrK hg,obs,hun,obs,zqr (by omega),zqr hr.1,zqr (fI (by omega)),zqr hm.1,zqr (by omega),zqr (fI (by omega)),zqr (fI (by omega)),zqr (fI (by omega)),zy9 hg]
 ·show ztN (zyd s out) r (d+1) _ _=_
  rw[ztN,if_neg (show ¬ ((s.Members.length:Nat):Int) < ((zyd s out).s.Members.length:Int) from Int.lt_irrefl _),List.take_length]
def zzb(s:Soc)(r:Int):Bool:=decide (hiN s<=brN s.Members r)
theorem zzc{s:Soc}(hs:zxY s){r:Int}(hr:0<=r/\r<=10000):ztP (zyd s []) r=some (zzb s r):=by
 unfold ztP;rw[zza hs [] hr,obs,zy5 hs,obs]; rfl
theorem zzd{p:Int->Option Bool}{f:Nat->Bool}{n:Nat}(hn:n<=1000000)(hp:∀m,m < n->p (m:Int)=some (f m))(hm:∀m k,m<=k->k < n->f m=true->f k=true):∀d (i j:Nat),i<=j->j<=n->j - i < d->(∀m,m < i->f m=false)->(∀m,j<=m->m < n->f m=true) ->
  ∃k:Nat,ztR p d (i:Int) (j:Int)=some (k:Int)/\k<=n/\(∀m,m < k->f m=false)/\(∀m,k<=m->m < n->f m=true)
 | 0,_,_,_,_,h,_,_=>by omega
 | d+1,i,j,hij,hj,h,hlo,hhi=>by
  rw[ztR]
  by_cases hc:i < j
  ·obtain⟨md,hmd⟩:∃md:Nat,md=(i+j) / 2:=⟨_,rfl⟩
   have hf:zl6 .u64 ((i:Int)+j):=show _/\_ by constructor <;> omega
   have e:zmb .i64 (zmb .u64 ((i:Int)+j) / 2)=(md:Int):=by
    rw[wz hf,wz (fI (by omega))]; omega
   rw[if_pos (by omega),zqr (fI (by omega)),zqr (by rw[wz hf]; omega),zqr (by omega),zqr (by omega),zqr (by rw[wz hf]; exact show _/\_ by constructor <;> omega),e,hp md (by omega),obs]
   cases hq:f md with
   | true=>
    rw[if_pos rfl];exact zzd hn hp hm d i md (by omega) (by omega) (by omega) hlo fun m h1 h2=>hm md m h1 h2 hq
   | false=>
    rw[if_neg (by decide),zqr (fI (by omega)),show(md:Int)+1=((md+1:Nat):Int) by omega]
    exact zzd hn hp hm d (md+1) j (by omega) hj (by omega) (fun m h1=>by
     cases hq2:f m with
     | false=>rfl
     | true=>have:=hm m md (by omega) (by omega) hq2; rw[hq] at this; cases this) hhi
  ·rw[if_neg (by omega)];exact⟨i,rfl,by omega,hlo,fun m h1 h2=>hhi m (by omega) h2⟩
theorem zze{s:Soc}(hs:zxY s):∃k:Nat,ztS 10001 (fun r=>ztP (zyd s []) r)=some (k:Int)/\k<=10001/\(∀m:Nat,m < k->zzb s m=false)/\(∀m:Nat,k<=m->m < 10001->zzb s m=true):=by
 unfold ztS
 exact zzd (n:=10001) (f:=fun m=>zzb s (m:Int)) (by omega) (fun m hm=>zzc hs (by omega)) (fun m k h1 h2 h3=>by
  have h4:hiN s<=brN s.Members (m:Int):=of_decide_eq_true h3;have h5:=zy8 hs.full.ms (r:=(m:Int)) (t:=(k:Int)) (by omega)
  exact decide_eq_true (by omega)) _ 0 10001 (by omega) (by omega) (by omega) (fun m h=>by omega) (fun m h1 h2=>by omega)
theorem zzf{s:Soc}(hs:zxY s):(∃k:Nat,zt0 s=some ((k:Int),0)/\k<=10000/\hiN s<=brN s.Members (k:Int)/\∀m:Nat,m < k->brN s.Members (m:Int) < hiN s)\/(zt0 s=some (0,10)/\∀m:Nat,m<=10000->brN s.Members (m:Int) < hiN s):=by
 obtain⟨k,h1,h2,h3,h4⟩:=zze hs
 have lt:∀m:Nat,zzb s (m:Int)=false->brN s.Members (m:Int) < hiN s:=fun m h=>by
  have:=of_decide_eq_false h; omega
 unfold zt0;rw[zym hs (Nat.zero_le _) (zyo _),obs,if_pos rfl]
 show(∃k':Nat,(ztS 10001 (fun r=>ztP (zyd s []) r)).bind _=_/\_)\/((ztS 10001 (fun r=>ztP (zyd s []) r)).bind _=_/\_)
 rw[h1,obs]
 by_cases hk:k<=10000
 ·rw[if_neg (by omega)];exact .inl ⟨k,rfl,hk,of_decide_eq_true (h4 k (Nat.le_refl _) (by omega)),fun m hm=>lt m (h3 m hm)⟩
 ·rw[if_pos (by omega)];exact .inr ⟨rfl,fun m hm=>lt m (h3 m (by omega))⟩
def zzg(s:Soc)(l:List Int):Bool:=decide (0 < (bnd s (zy3 s l)).Hi)
theorem zzh{s:Soc}(hs:zxY s){l:List Int}(hl:zrU l):ztQ s l=some (zzg s l):=by
 have hb:=zyt hs;unfold ztQ;rw[zyh hl hs.m5,obs,zyP hs (g:=zy3 s l) (fun N h1 h2=>zyR hs l (by omega)),obs]; rfl
theorem zzi{s:Soc}(hs:zxY s)(h:hiN s ≠ 0):zt1 s=some (zrA s.Members.length (zzg s),0):=by
 have h5:=hs.m5
 have hlen:∀L∈zoh s.Members.length,zrU L:=fun L hL=>by have:=zyz (zyA.1 hL); unfold zrU; omega
 unfold zt1;rw[zym hs (Nat.zero_le _) (zyo _),obs,if_pos rfl,zy5 hs,obs,if_neg h];unfold zrB;rw[zqr ⟨by omega,by omega,fun L hL=>by show(ztQ s L).isSome=true; rw[zzh hs (hlen L hL)]; rfl⟩,obs];refine congrArg (fun x=>some (x,(0:Int))) ?_
 have e:(zoh s.Members.length).find? (fun L=>((ztQ s L)).getD false)=(zoh s.Members.length).find? (zzg s):=by
  have:∀l:List (List Int),(∀L∈l,zrU L)->l.find? (fun L=>((ztQ s L)).getD false)=l.find? (zzg s):=by
   intro l
   induction l with
   | nil=>intro _; rfl
   | cons L l ih=>
    intro hl
    have h1:(ztQ s L).getD false=zzg s L:=by rw[zzh hs (hl L (List.mem_cons_self ..))]; rfl
    rw[List.find?_cons,List.find?_cons,h1,ih fun L hL=>hl L (List.mem_cons_of_mem _ hL)]
  exact this _ hlen
 show zrA s.Members.length (fun L=>((ztQ s L)).getD false)=_
 unfold zrA;rw[e]
theorem wu{n:Nat}(h:n<=64):zmb .u64 (n:Int)=(n:Int):=wz (show(0:Int)<=n/\(n:Int) < 18446744073709551616 by omega)
theorem zzj{a b:List Int}(hl:a.length<=1000):∀(d k:Nat),k<=a.length->a.length - k < d->zsB a b d (k:Int)=some (bef (a.drop k) (b.drop k))
 | 0,_,_,h=>by omega
 | d+1,k,hk,h=>by
  rw[zsB]
  by_cases hka:k < a.length
  ·rw[if_pos (by omega)];have da:=List.drop_eq_getElem_cons hka;have ga:=List.getElem?_eq_getElem hka
   by_cases hkb:k < b.length
   ·have db:=List.drop_eq_getElem_cons hkb;have gb:=List.getElem?_eq_getElem hkb;rw[if_pos (by omega),zrK ga,obs,zrK gb,obs,da,db];unfold bef
    by_cases he:a[k]=b[k]
    ·rw[if_pos he,if_pos he,zqr (fI (by omega)),show(k:Int)+1=((k+1:Nat):Int) by omega];exact zzj hl d (k+1) (by omega) (by omega)
    ·rw[if_neg he,if_neg he,obs,obs]
   ·rw[if_neg (by omega),da,List.drop_eq_nil_of_le (show b.length<=k by omega),decide_eq_false (by omega)]; rfl
  ·rw[if_neg (by omega),List.drop_eq_nil_of_le (show a.length<=k by omega)]
   by_cases hkb:k < b.length
   ·rw[List.drop_eq_getElem_cons hkb,decide_eq_true (by omega)]; rfl
   ·rw[List.drop_eq_nil_of_le (show b.length<=k by omega),decide_eq_false (by omega)]; rfl
theorem zzk{a b:List Int}(hl:a.length<=1000):zsC a b=some (bef a b):=zzj hl (a.length+1) 0 (Nat.zero_le _) (by omega)
theorem zzl{a b:List Int}(hl:a.length<=1000):zsD a b=some (shB a b):=by
 unfold zsD shB
 by_cases h1:a.length < b.length
 ·rw[if_pos (by omega),decide_eq_true h1]; rfl
 ·rw[if_neg (by omega),decide_eq_false h1]
  by_cases h2:a.length=b.length
  ·rw[if_pos (by omega),zzk hl,decide_eq_true h2]; simp
  ·rw[if_neg (by omega),decide_eq_false h2]; simp
theorem zzm{a b:List Int}(hl:a.length=b.length):(bef a b=false/\bef b a=false)↔a=b:=by
 constructor
 ·rintro⟨h1,h2⟩
  rcases zyD a b with h | h | h
  ·exact h
  ·rw[h1] at h; cases h
  ·rw[h2] at h; cases h
 ·rintro rfl; exact⟨zyC _,zyC _⟩
theorem zzn{a b:List Int}(ha:a.length<=1000)(hb:b.length<=1000):zsE a b=some (decide (a=b)):=by
 unfold zsE
 by_cases hl:a.length=b.length
 ·rw[if_pos (by omega),zzk ha,obs];have h:=zzm hl
  cases h1:bef a b with
  | true=>rw[if_pos rfl,decide_eq_false fun he=>by have:=(h.2 he).1; rw[h1] at this; cases this]
  | false=>
   rw[if_neg (by decide),zzk hb,obs]
   cases h2:bef b a with
   | true=>rw[decide_eq_false fun he=>by have:=(h.2 he).2; rw[h2] at this; cases this]; rfl
   | false=>rw[decide_eq_true (h.1 ⟨h1,h2⟩)]; rfl
 ·rw[if_neg (by omega),decide_eq_false fun he=>hl (by rw[he])]
theorem zzo{l:List Int}(h:l.length<=1000):zt5 l=some l:=by
 unfold zt5;rw[zqr (show([]:List Int).length+l.length<=1048576 by show 0+_<=_; omega)]; rfl
def zzp(s:Soc):Prop:=s.Members.length<=8/\s.Losses.length<=6
theorem zzq{s:Soc}:Ev (zua s) (zzp s):=by
 unfold zua zzp
 by_cases h:(s.Members.length:Int)<=8
 ·rw[if_pos h]; exact Ev.dec (by omega)
 ·rw[if_neg h]; exact Ev.ff (by omega)
theorem zzr{s:Soc}(h:zzp s):zt9 s=some s:=by
 unfold zt9
 show zt8 s 1000000 [] [] s.Treaty.Lo s.Treaty.Hi s.Reserve 0=_
 obtain⟨h1,h2⟩:=h
 have k1:zt7 s s.Members 1000000 [] s.Treaty.Lo s.Treaty.Hi s.Reserve 0=some s:=by
  refine(zrQ (l:=s.Losses) (fun r=>r) (F:=fun d acc x=>zt7 s s.Members d acc s.Treaty.Lo s.Treaty.Hi s.Reserve x) (fun acc=>some ({ Members:=s.Members,Losses:=acc,Treaty:=s.Treaty,Reserve:=s.Reserve }:Soc)) (fun d k acc a hk ha=>?_) (fun d acc=>?_) (d:=1000000) (by omega)).trans (by rw[List.map_id'])
  ·have hkl:=(List.getElem?_eq_some_iff.1 hk).1
   show zt7 s s.Members (d+1) _ _ _ _ _=_
   rw[zt7,if_pos (by omega),zrK hk,obs]
   show(some a).bind _=_
   rw[obs,zqr (by omega),zqr (fI (by omega))]
  ·show zt7 s s.Members (d+1) _ _ _ _ _=_
   rw[zt7,if_neg (Int.lt_irrefl _)]
 refine(zrQ (l:=s.Members) (fun r=>r) (F:=fun d acc x=>zt8 s d acc [] s.Treaty.Lo s.Treaty.Hi s.Reserve x) (fun acc=>zt7 s acc 1000000 [] s.Treaty.Lo s.Treaty.Hi s.Reserve 0) (fun d k acc a hk ha=>?_) (fun d acc=>?_) (d:=1000000) (by omega)).trans (by rw[List.map_id']; exact k1)
 ·have hkl:=(List.getElem?_eq_some_iff.1 hk).1
  show zt8 s (d+1) _ _ _ _ _ _=_
  rw[zt8,if_pos (by omega),zrK hk,obs,zqr (by omega),zqr (fI (by omega))]
 ·show zt8 s (d+1) _ _ _ _ _ _=_
  rw[zt8,if_neg (Int.lt_irrefl _)]
def zzs(most:Int):Soc:={ Members:=[{ Sum:=100,Class:=2,Most:=most },{ Sum:=100,Class:=1,Most:=60 },{ Sum:=50,Class:=2,Most:=most }],Losses:=[{ Lo:=200,Hi:=210 },{ Lo:=90,Hi:=90 }],Treaty:={ Lo:=20,Hi:=25 },Reserve:=30 }
theorem zzt(most:Int):zud most=some (zzs most):=rfl
theorem zzu{most:Int}(h:0<=most/\most<=100000):zxY (zzs most):=by
 refine⟨Nat.le_of_ble_eq_true rfl,Nat.le_of_ble_eq_true rfl,Nat.le_of_ble_eq_true rfl,fun a ha=>?_,fun r hr=>?_,by show RgV ⟨20,25⟩; decide,by show(0:Int)<=30/\(30:Int)<=_; omega⟩
 ·rcases List.mem_cons.1 ha with rfl | ha
  ·exact⟨by show(1:Int)<=100/\(100:Int)<=1000; omega,by show(1:Int)<=2/\(2:Int)<=10; omega,h⟩
  rcases List.mem_cons.1 ha with rfl | ha
  ·exact⟨by decide,by decide,by decide⟩
  rcases List.mem_cons.1 ha with rfl | ha
  ·exact⟨by show(1:Int)<=50/\(50:Int)<=1000; omega,by show(1:Int)<=2/\(2:Int)<=10; omega,h⟩
  ·cases ha
 ·rcases List.mem_cons.1 hr with rfl | hr
  ·decide
  rcases List.mem_cons.1 hr with rfl | hr
  ·decide
  ·cases hr
theorem f64{n:Int}(h:-1000000<=n/\n<=1000000):zl6 .i64 n:=fI (by omega)
theorem zzv:zue=some true:=by
 have h5:zxY (zzs 500):=zzu (by omega);have h1:zxY (zzs 150):=zzu (by omega)
 have n5:ztT (zzs 500)=some ({ Lo:=235,Hi:=250 },0):=by
  rw[zyQ h5]
  have e1:loN (zzs 500)=235:=by decide +kernel
  have e2:hiN (zzs 500)=250:=by decide +kernel
  rw[e1,e2]
 have c5:ztV (zzs 500) 250=some ([127,60,63],0,0):=by
  rw[zyV h5 (by omega)]
  have e1:zyS (zzs 500) [] 250=[127,60,63]:=by decide +kernel
  have e2:(zxN (zzs 500).Members (zyc (zzs 500).Members.length []) 250).2=0:=by decide +kernel
  rw[e1,e2]
 have b5:ztY (zzs 500)=some (zyY (zzs 500) [],0):=zy2 h5
 have eb:zyY (zzs 500) []=[{ Lo:=117,Hi:=127 },{ Lo:=59,Hi:=60 },{ Lo:=59,Hi:=63 }]:=by
  have e1:(zyY (zzs 500) []).map (·.Lo)=[117,59,59]:=by decide +kernel
  have e2:(zyY (zzs 500) []).map (·.Hi)=[127,60,63]:=by decide +kernel
  have e3:(zyY (zzs 500) []).length=3:=zyZ []
  revert e1 e2 e3
  generalize zyY (zzs 500) []=l;intro e1 e2 e3
  match l,e3 with
  | [⟨a1,a2⟩,⟨b1,b2⟩,⟨c1,c2⟩],_=>
   simp only[List.map_cons,List.map_nil,List.cons.injEq,and_true] at e1 e2
   obtain⟨rfl,rfl,rfl⟩:=e1;obtain⟨rfl,rfl,rfl⟩:=e2
   rfl
 have r5:zt0 (zzs 500)=some (64,0):=by
  have m63:brN (zzs 500).Members 63 < 250:=by decide +kernel
  have m64:250<=brN (zzs 500).Members 64:=by decide +kernel
  have e2:hiN (zzs 500)=250:=by decide +kernel
  rcases zzf h5 with ⟨k,q1,q2,q3,q4⟩ | ⟨q1,q2⟩
  ·rw[e2] at q3 q4
   have hk:k=64:=by
    apply Classical.byContradiction
    intro hne
    rcases Nat.lt_or_ge k 64 with h | h
    ·have:=zy8 h5.full.ms (r:=(k:Int)) (t:=63) (by omega); omega
    ·have:=q4 64 (by omega);have e:((64:Nat):Int)=64:=rfl;rw[e] at this; omega
   subst hk; exact q1
  ·have:=q2 64 (by omega);have e:((64:Nat):Int)=64:=rfl;rw[e2,e] at this; omega
 have x5:zt1 (zzs 500)=some ([0,2],0):=by
  rw[zzi h5 (by decide +kernel)]
  have e:zrA (zzs 500).Members.length (zzg (zzs 500))=[0,2]:=by decide +kernel
  rw[e]
 have x1:zt1 (zzs 150)=some ([0],0):=by
  rw[zzi h1 (by decide +kernel)]
  have e:zrA (zzs 150).Members.length (zzg (zzs 150))=[0]:=by decide +kernel
  rw[e]
 unfold zue;rw[zzt,obs,n5,obs,obs,c5,obs,obs,b5,obs,obs,r5,obs,obs,x5,obs,zzt,obs,x1,obs,eb];have s1:zsE [127,60,63] [127,60,63]=some true:=zzn (by decide) (by decide);have s2:zsE [0,2] [0,2]=some true:=zzn (by decide) (by decide);have s3:zsE [0] [0]=some true:=zzn (by decide) (by decide);have f:∀n:Int,-1000000<=n/\n<=1000000->zl6 .i64 n:=fun n h=>f64 h
 simp only[zuc,obs,zqr (f 235 (by omega)),zqr (f 250 (by omega)),zqr (f 117 (by omega)),zqr (f 127 (by omega)),zqr (f 59 (by omega)),zqr (f 60 (by omega)),zqr (f 63 (by omega)),s1,s2,s3]
 simp[idx]
 rw[zqr (f 117 (by omega)),zqr (f 127 (by omega)),zqr (f 59 (by omega)),zqr (f 60 (by omega)),zqr (f 59 (by omega)),zqr (f 63 (by omega))]
theorem awk{β:Type}{f:Bool->Option β}:(zue).bind f=f true:=by rw[zzv,obs]
theorem zzw{a:Mb}(h:zxt a):zsm a=some (unN a):=by
 have h1:=h.sum; have h2:=h.cls; have hu:=zxv h;unfold unN at hu;unfold zsm unN;rw[zqr (by omega),zqr (by omega),zqr (fI (by omega))]
theorem zzx(f:Nat->Int){n:Nat}(hn:n<=5)(h:∀i,n<=i->i < 5->f i=0):part f n=S5 f:=by
 rw[zw9 f hn];refine zwO fun i hi=>?_
 by_cases hin:i < n
 ·rw[if_pos hin]
 ·rw[if_neg hin,h i (by omega) hi]
theorem zzy{a b:List Int}(h:a.length<=1000):zt3 a b=some (decide (a=b)):=by
 unfold zt3
 by_cases hl:a.length=b.length
 ·rw[if_pos (by omega)]
  have key:=zrO (n:=a.length) (F:=fun d x=>zt2 a b d x) (ok:=fun k=>a[k]? = b[k]?) (bad:=some false) (fin:=some true) (fun d k hk=>by
   have h1:=List.getElem?_eq_getElem hk;have h2:=List.getElem?_eq_getElem (show k < b.length by omega)
   show(_->zt2 a b (d+1) (k:Int)=_)/\_
   rw[zt2,if_pos (by omega),zrK h1,obs,zrK h2,obs];refine⟨fun h=>?_,fun h=>?_⟩
   ·rw[h1,h2] at h; rw[if_pos (oi h),zqr (fI (by omega))]
   ·rw[if_neg fun he=>h (by rw[h1,h2,he])]) (fun d=>by show zt2 a b (d+1) _=_; rw[zt2,if_neg (Int.lt_irrefl _)]) (d:=a.length+1) (by omega)
  have hiff:(∀j,j < a.length->a[j]? = b[j]?)↔a=b:=by
   constructor
   ·intro h
    apply List.ext_getElem?
    intro j
    by_cases hj:j < a.length
    ·exact h j hj
    ·rw[List.getElem?_eq_none (by omega),List.getElem?_eq_none (by omega)]
   ·rintro rfl; exact fun _ _=>rfl
  by_cases hq:a=b
  ·rw[decide_eq_true hq]; exact key.1 (hiff.2 hq)
  ·rw[decide_eq_false hq]; exact key.2 fun h=>hq (hiff.1 h)
 ·rw[if_neg (by omega),decide_eq_false fun he=>hl (by rw[he])]
theorem zzz{s:Soc}(hs:zxY s){N:Int}(hN:0<=N/\N<=300000){l:List Int}(hl:l.length<=1000):zt4 s N l=some (decide (l=zyS s [] N)):=by
 unfold zt4;rw[zyV hs hN,obs,if_pos rfl,zzy hl,obs]
theorem zzA{s:Soc}(hs:zxY s){N:Int}(hN:¬ (0<=N/\N<=300000)){l:List Int}:zt4 s N l=some false:=by
 unfold zt4;rw[zyW hs hN,obs,if_neg (by decide)]
theorem zzB{s:Soc}{N:Int}(h1:zrU s.Members)(h2:zrU s.Losses)(hf:zxZ s ≠ 0):ztV s N=some ([],0,zxZ s):=by
 unfold ztV;rw[zyn h1 h2 hf,obs,if_neg hf]
theorem zzC{s:Soc}{N:Int}(h1:zrU s.Members)(h2:zrU s.Losses)(hf:zxZ s ≠ 0){l:List Int}:zt4 s N l=some false:=by
 unfold zt4;rw[zzB h1 h2 hf,obs,if_neg hf]
section
variable {ms:List Mb} {ask:Nat->Bool} {N:Int}
end
theorem zzD{n i:Nat}:zyc n [] i=decide (i < n):=by unfold zyc; simp
end
end Go.Proofs.Ytkclhciahokifaa

namespace Go.Proofs.Ytkclhciahokifaa
open _root_.Go.Proofs.Try
open Go.Abs
set_option maxRecDepth 100000
noncomputable section
theorem zzE{i:Nat}(h:i<=8):2 ^ i<=256:=Nat.le_trans (Nat.pow_le_pow_right (by omega) h) (by decide)
def zzF(n:Nat):Nat:=2 ^ n - 1
theorem zzG{s:Soc}(h:s.Members.length<=8):zsx s=some (zzF s.Members.length:Int):=by
 have hp:=zzE h;have hp0:0 < 2 ^ s.Members.length:=Nat.two_pow_pos _;have hw:zmb .u64 (s.Members.length:Int)=(s.Members.length:Int):=wz (show(0:Int)<=s.Members.length/\(s.Members.length:Int) < 18446744073709551616 by omega)
 have hpow:(1:Int) * 2 ^ (Int.toNat (zmb .u64 (s.Members.length:Int)))=((2 ^ s.Members.length:Nat):Int):=by rw[hw,Int.toNat_natCast,Int.one_mul,Int.natCast_pow]; rfl
 unfold zsx zzF;rw[hpow,zqr (by omega),hw,zqr (by omega),zqr (by omega),zqr (fI (by omega)),zqr (fI (by omega))]
 congr 1
 omega
theorem zzH(B k:Nat):(B:Int) / 2 ^ k % 2=((B / 2 ^ k % 2:Nat):Int):=by rw[zyB]; rfl
theorem zzI{B k:Nat}:(B:Int) / 2 ^ k % 2=1↔B.testBit k=true:=by
 rw[zzH,Nat.testBit_eq_decide_div_mod_eq,decide_eq_true_eq]; omega
def lN{α:Type}(n:Nat)(f:Nat->α):List α:=(List.range n).map f
theorem zzJ{α:Type}{n:Nat}{f:Nat->α}:(lN n f).length=n:=by unfold lN; rw[List.length_map,List.length_range]
theorem zzK{α:Type}{n:Nat}{f:Nat->α}{k:Nat}(hk:k < n):(lN n f)[k]? = some (f k):=by
 unfold lN; rw[List.getElem?_map,List.getElem?_range hk]; rfl
theorem zzL{α:Type}{n:Nat}{f:Nat->α}{k:Nat}(hk:k < n):idx (lN n f) (k:Int)=some (f k):=zrK (zzK hk)
theorem zzM{α:Type}{n:Nat}{f g:Nat->α}(h:∀k,k < n->f k=g k):lN n f=lN n g:=List.map_congr_left fun k hk=>h k (List.mem_range.1 hk)
theorem zzN{α:Type}{n:Nat}{f:Nat->α}{k:Nat}{v:α}:(lN n f).set k v=lN n fun j=>if j=k then v else f j:=by
 refine List.ext_getElem? fun i=>?_
 by_cases hi:i < n
 ·rw[zzK hi,List.getElem?_set]
  by_cases h:k=i
  ·subst h; rw[if_pos rfl,if_pos (by rw[zzJ]; exact hi),if_pos rfl]
  ·rw[if_neg h,zzK hi,if_neg fun h2=>h h2.symm]
 ·rw[List.getElem?_eq_none (by rw[List.length_set,zzJ]; omega),List.getElem?_eq_none (by rw[zzJ]; omega)]
theorem zzO{α:Type}{n:Nat}{g f:Nat->α}{k:Nat}:(lN n (stF g f k)).set k (g k)=lN n (stF g f (k+1)):=by
 rw[zzN];refine zzM fun j _=>?_;unfold stF
 by_cases h:j=k
 ·subst h; rw[if_pos rfl,if_pos (by omega)]
 ·rw[if_neg h]
  by_cases h2:j < k
  ·rw[if_pos h2,if_pos (by omega)]
  ·rw[if_neg h2,if_neg (by omega)]
theorem zzP{α:Type}{n:Nat}{g f:Nat->α}{k:Nat}(h:g k=f k):lN n (stF g f k)=lN n (stF g f (k+1)):=by
 refine zzM fun j _=>?_;unfold stF
 by_cases h1:j=k
 ·subst h1; rw[if_neg (by omega),if_pos (by omega),h]
 ·by_cases h2:j < k
  ·rw[if_pos h2,if_pos (by omega)]
  ·rw[if_neg h2,if_neg (by omega)]
theorem zzQ{α:Type}{n:Nat}{g f:Nat->α}:lN n (stF g f n)=lN n g:=zzM fun _ h=>zwy g f h
theorem zzR{α:Type}{n:Nat}{v:α}:List.replicate n v=lN n fun _=>v:=by
 refine List.ext_getElem? fun i=>?_
 by_cases hi:i < n
 ·rw[zzK hi,List.getElem?_replicate,if_pos hi]
 ·rw[List.getElem?_eq_none (by rw[List.length_replicate]; omega),List.getElem?_eq_none (by rw[zzJ]; omega)]
def zzS(f:Nat->Bool):Nat->Nat
 | 0=>0
 | k+1=>zzS f k+if f k then 2 ^ k else 0
theorem zzT(f:Nat->Bool):∀n,zzS f n < 2 ^ n
 | 0=>by show 0 < 1; omega
 | n+1=>by
  have:=zzT f n
  show zzS f n+_ < _
  rw[Nat.pow_succ]
  split <;> omega
theorem zzU{f:Nat->Bool}:∀{n j:Nat},j < n->(zzS f n).testBit j=f j
 | 0,_,h=>by omega
 | n+1,j,h=>by
  have hlt:=zzT f n
  show(zzS f n+_).testBit j=_
  by_cases hj:j=n
  ·subst hj
   cases hf:f j with
   | true=>rw[if_pos rfl,Nat.add_comm,Nat.testBit_two_pow_add_eq,Nat.testBit_lt_two_pow hlt]; rfl
   | false=>rw[if_neg (by decide),Nat.add_zero,Nat.testBit_lt_two_pow hlt]
  ·have ih:=zzU (f:=f) (n:=n) (j:=j) (by omega)
   cases hf:f n with
   | true=>rw[if_pos rfl,Nat.add_comm,Nat.testBit_two_pow_add_gt (by omega),ih]
   | false=>rw[if_neg (by decide),Nat.add_zero,ih]
theorem zzV{f g:Nat->Bool}:∀{n:Nat},(∀j,j < n->f j=g j)->zzS f n=zzS g n
 | 0,_=>rfl
 | n+1,h=>by
  show zzS f n+_=zzS g n+_
  rw[zzV (n:=n) fun j hj=>h j (by omega),h n (by omega)]
theorem zzW{f g:Nat->Bool}{n:Nat}:zzS f n=zzS g n↔∀j,j < n->f j=g j:=
 ⟨fun h j hj=>by rw[<- zzU (f:=f) hj,<- zzU (f:=g) hj,h],zzV⟩
theorem zzX:∀n,zzS (fun _=>false) n=0
 | 0=>rfl
 | n+1=>zzX n
theorem zzY:∀n,zzS (fun _=>true) n=zzF n
 | 0=>rfl
 | n+1=>by
  have:=zzY n;have hp:0 < 2 ^ n:=Nat.two_pow_pos n
  show zzS _ n+2 ^ n=2 ^ (n+1) - 1
  rw[this,Nat.pow_succ];unfold zzF
  omega
theorem zzZ{f g:Nat->Bool}:∀{n:Nat},(∀j,j < n->g j=true->f j=true)->zzS f n=zzS g n+zzS (fun j=>f j && !g j) n
 | 0,_=>rfl
 | n+1,h=>by
  have ih:=zzZ (f:=f) (g:=g) (n:=n) fun j hj=>h j (by omega)
  show zzS f n+_=zzS g n+_+(zzS _ n+_)
  have hn:=h n (by omega);have e:(if (fun j=>f j && !g j) n=true then 2 ^ n else 0)=if (f n && !g n)=true then 2 ^ n else 0:=rfl;rw[e]
  clear e
  cases hg:g n with
  | true=>
   rw[hn hg,if_pos rfl,if_neg (by decide)]
   omega
  | false=>
   cases hf:f n with
   | true=>rw[if_pos rfl,if_neg (by decide),if_pos (by decide)]; omega
   | false=>rw[if_neg (by decide),if_neg (by decide)]; omega
theorem zz0{f:Nat->Bool}{n k:Nat}(hn:n<=5)(hk:k < n){α:Type}{A B:Option α}:(gd ((0:Int)<=(zzS f n:Int)) (gd ((0:Int)<=(zmb .u64 (k:Int))) (gd ((zmb .u64 (k:Int))<=(64:Int)) (gd (zl6 .i64 ((zzS f n:Int) / ((2:Int) ^ (Int.toNat (zmb .u64 (k:Int)))))) (gd ((0:Int)<=((zzS f n:Int) / ((2:Int) ^ (Int.toNat (zmb .u64 (k:Int)))))) (gd ((0:Int) < (2:Int)) (gd (zl6 .i64 (((zzS f n:Int) / ((2:Int) ^ (Int.toNat (zmb .u64 (k:Int))))) % (2:Int))) (if (((zzS f n:Int) / ((2:Int) ^ (Int.toNat (zmb .u64 (k:Int))))) % (2:Int))=(1:Int) then A else B))))))))=if f k=true then A else B:=by
 have hlt:=zzT f n;have hpw:=zzE (show n<=8 by omega)
 have hq0:0<=(zzS f n:Int) / 2 ^ k:=by rw[zyB]; exact Int.natCast_nonneg _
 have hq1:(zzS f n:Int) / 2 ^ k<=zzS f n:=by rw[zyB]; exact Int.ofNat_le.2 (Nat.div_le_self _ _)
 rw[wu (by omega),zqr (by omega),zqr (by omega),zqr (by omega),Int.toNat_natCast,zqr (fI (by omega)),zqr hq0,zqr (by omega),zqr (fI (by omega))];have e:=zzI (B:=zzS f n) (k:=k);rw[zzU hk] at e
 by_cases h:f k=true
 ·rw[if_pos (e.2 h),if_pos h]
 ·rw[if_neg fun h2=>h (e.1 h2),if_neg h]
theorem zz1{n:Nat}{f:Nat->Int}{k:Nat}(hk:k < n)(hn:n<=5)(ht:∀i,i < k->f i < f k)(ht2:∀i,k < i->i < n->f i<=f k){p:Nat->Int}(hp:0<=p k/\p k<=1000000){x44:Int}(hx:0<=x44/\x44<=1000000){K:Int->List Int->List Int->Option (List Int)} :
  ∀(d b m:Nat),m<=n->b < m->n - m < d->(k < m->b=k)->zsn x44 K d (b:Int) (m:Int) (lN n p) (lN n f)=K (x44 - 1) ((lN n p).set k (p k+1)) ((lN n f).set k (-1))
 | 0,_,_,_,_,h,_=>by omega
 | d+1,b,m,hm,hb,hd,hi=>by
  rw[zsn,zzJ]
  by_cases hmn:m < n
  ·have em:(m:Int)+1=((m+1:Nat):Int):=by omega
   rw[if_pos (by omega),zzL hmn,obs,zzL (by omega),obs]
   by_cases h:f b < f m
   ·rw[if_pos h,zqr (fI (by omega)),em];refine zz1 hk hn ht ht2 hp hx d m (m+1) (by omega) (by omega) (by omega) fun h2=>?_
    by_cases h3:m=k
    ·exact h3
    ·have:=hi (by omega);subst this;have:=ht2 m (by omega) hmn
     omega
   ·rw[if_neg h,zqr (fI (by omega)),em];refine zz1 hk hn ht ht2 hp hx d b (m+1) (by omega) (by omega) (by omega) fun h2=>?_
    by_cases h3:m=k
    ·subst h3;exact absurd (ht b hb) h
    ·exact hi (by omega)
  ·have hbk:=hi (by omega);subst hbk;rw[if_neg (by omega),zzL hk,obs,zqr (fI (by omega)),obs,zzL hk,obs,zqr (fI (by omega)),Int.toNat_natCast]
def ptF(q:Nat->Int)(r:Nat->Int)(j:Nat):Nat->Int:=fun k=>q k+if zwW r k < j then 1 else 0
def rsF(sh:Nat->Bool)(r:Nat->Int)(j:Nat):Nat->Int:=fun k=>if sh k=true then (if zwW r k < j then -1 else r k) else -1
theorem zz2{ms:List Mb}(hms:zxu ms){sh:Nat->Bool}(hs:zxy ms sh)(h0:¬ zxw sh=true){N:Int}(hN:0<=N/\N<=1000000){L:Nat}(hL:(L:Int)=N - S5 (qN N (uF ms sh))) :
  ∀(d j:Nat),j<=L->L - j < d->zso d ((L:Int) - j) (lN ms.length (ptF (qN N (uF ms sh)) (rN N (uF ms sh)) j)) (lN ms.length (rsF sh (rN N (uF ms sh)) j))=some (lN ms.length (zw4 N (uF ms sh)))
 | 0,_,_,h=>by omega
 | d+1,j,hj,hd=>by
  have hu:=zxH hms hs h0;have hlb:=zxm hu N;have h5:=hms.1;rw[zso]
  by_cases hjL:j < L
  ·obtain⟨k,hk5,hk⟩:=zxk (rN N (uF ms sh)) (k:=(j:Int)) (by omega);have hrk:rN N (uF ms sh) k ≠ 0:=fun h=>zxn hu h (by omega);have hrb:=fun i=>zw6 hu (N:=N) i
   have hsk:sh k=true:=by
    cases hq:sh k with
    | true=>rfl
    | false=>
     refine absurd ?_ hrk;unfold rN;rw[show uF ms sh k=0 from zxE hq,Int.mul_zero,Int.zero_emod]
   have hkn:=hs k hsk;have hq:=zw5 hu hN.1 hk5
   have erk:rsF sh (rN N (uF ms sh)) j k=rN N (uF ms sh) k:=by unfold rsF; rw[if_pos hsk,if_neg (by omega)]
   have low:∀i,i < 5->i ≠ k->rsF sh (rN N (uF ms sh)) j i < rN N (uF ms sh) k\/(rsF sh (rN N (uF ms sh)) j i=rN N (uF ms sh) k/\k < i):=fun i hi hik=>by
    have:=hrb k;unfold rsF
    cases sh i with
    | false=>rw[if_neg (by decide)]; omega
    | true=>
     rw[if_pos rfl]
     by_cases h1:zwW (rN N (uF ms sh)) i < j
     ·rw[if_pos h1]; omega
     ·rw[if_neg h1];have hne:=zxf (r:=rN N (uF ms sh)) hi hk5 hik;have:=(zxg (r:=rN N (uF ms sh)) hk5 hi).1 (by omega)
      omega
   have e1:(0:Int)=((0:Nat):Int):=rfl
   have ek:(L:Int) - j - 1=(L:Int) - ((j+1:Nat):Int):=by omega
   have hpk:ptF (qN N (uF ms sh)) (rN N (uF ms sh)) j k=qN N (uF ms sh) k:=by unfold ptF; rw[if_neg (by omega),Int.add_zero]
   rw[if_pos (by omega)]
   show zsn ((L:Int) - j) (zso d) 1000000 ((0:Nat):Int) ((1:Nat):Int) _ _=_
   rw[zz1 hkn h5 (fun i hi=>by rw[erk]; have:=low i (by omega) (by omega); omega) (fun i hi hin=>by rw[erk]; have:=low i (by omega) (by omega); omega) (by rw[hpk]; omega) (by omega) 1000000 0 1 (by omega) (by omega) (by omega) (fun h=>by omega),ek,zzN,zzN]
   have e2:lN ms.length (fun i=>if i=k then ptF (qN N (uF ms sh)) (rN N (uF ms sh)) j k+1 else ptF (qN N (uF ms sh)) (rN N (uF ms sh)) j i)=lN ms.length (ptF (qN N (uF ms sh)) (rN N (uF ms sh)) (j+1)):=zzM fun i hi=>by
    by_cases hik:i=k
    ·subst hik; rw[if_pos rfl,hpk]; unfold ptF; rw[if_pos (by omega)]
    ·have hne:=zxf (r:=rN N (uF ms sh)) (show i < 5 by omega) hk5 hik;rw[if_neg hik]; unfold ptF
     by_cases h1:zwW (rN N (uF ms sh)) i < j
     ·rw[if_pos h1,if_pos (by omega)]
     ·rw[if_neg h1,if_neg (by omega)]
   have e3:lN ms.length (fun i=>if i=k then (-1:Int) else rsF sh (rN N (uF ms sh)) j i)=lN ms.length (rsF sh (rN N (uF ms sh)) (j+1)):=zzM fun i hi=>by
    by_cases hik:i=k
    ·subst hik; rw[if_pos rfl]; unfold rsF; rw[if_pos hsk,if_pos (by omega)]
    ·have hne:=zxf (r:=rN N (uF ms sh)) (show i < 5 by omega) hk5 hik;rw[if_neg hik]; unfold rsF
     by_cases h1:zwW (rN N (uF ms sh)) i < j
     ·rw[if_pos h1,if_pos (show zwW (rN N (uF ms sh)) i < ((j+1:Nat):Int) by omega)]
     ·rw[if_neg h1,if_neg (show ¬ zwW (rN N (uF ms sh)) i < ((j+1:Nat):Int) by omega)]
   rw[e2,e3];exact zz2 hms hs h0 hN hL d (j+1) (by omega) (by omega)
  ·have hjL:j=L:=by omega
   subst hjL;rw[if_neg (by omega)]
   congr 1
   refine zzM fun i _=>?_;unfold ptF zw4;rw[hL]
theorem zz3{k:Nat}:∀{n:Nat},zzS (fun j=>decide (j=k)) n=if k < n then 2 ^ k else 0
 | 0=>rfl
 | n+1=>by
  show zzS (fun j=>decide (j=k)) n+(if decide (n=k)=true then 2 ^ n else 0)=_
  rw[zz3 (n:=n)]
  by_cases h:n=k
  ·subst h; rw[if_neg (by omega),if_pos (decide_eq_true rfl),if_pos (by omega)]; omega
  ·have e:(if decide (n=k)=true then 2 ^ n else 0)=0:=if_neg (by rw[decide_eq_false h]; decide);rw[e,Nat.add_zero]
   by_cases h2:k < n
   ·rw[if_pos h2,if_pos (by omega)]
   ·rw[if_neg h2,if_neg (by omega)]
theorem zz4{f g:Nat->Bool}{n k:Nat}(hk:k < n)(hf:f k=true)(hg:g k=false)(h:∀j,j ≠ k->g j=f j):zzS f n=zzS g n+2 ^ k:=by
 have:=zzZ (f:=f) (g:=g) (n:=n) fun j _ hj=>by
  by_cases hjk:j=k
  ·subst hjk; exact hf
  ·rw[<- h j hjk]; exact hj
 have e:zzS (fun j=>f j && !g j) n=zzS (fun j=>decide (j=k)) n:=zzV fun j _=>by
  by_cases hjk:j=k
  ·subst hjk; show(f j && !g j)=_; rw[hf,hg,decide_eq_true rfl]; rfl
  ·show(f j && !g j)=_; rw[h j hjk,decide_eq_false hjk]; cases f j <;> rfl
 rw[this,e,zz3,if_pos hk]
section
variable {s:Soc} {sh:Nat->Bool} {N:Int}
theorem zz5(hms:zxu s.Members)(hs:zxy s.Members sh){y1 y2:List Int}{R:Option (List Int)}(hR:zsp s (zzS sh s.Members.length:Int) N (S5 (uF s.Members sh)) 1000000 N 0 y1 y2=R) :
  ∀(d k:Nat),k<=s.Members.length->s.Members.length - k < d->zsq s (zzS sh s.Members.length:Int) N d (part (uF s.Members sh) k) (k:Int) y1 y2=R
 | 0,_,_,h=>by omega
 | d+1,k,hk,hd=>by
  have h5:=hms.1;rw[zsq]
  by_cases hkn:k < s.Members.length
  ·have hg:=List.getElem?_eq_getElem hkn;have hb:=zwB (f:=uF s.Members sh) (B:=10000) (fun i _=>by have:=zxG hms sh i; omega) (by omega) k (by omega);have hu:=zxG hms sh k
   have ek:(k:Int)+1=((k+1:Nat):Int):=by omega
   rw[if_pos (by omega),zz0 h5 hkn]
   cases hq:sh k with
   | true=>
    have e:unN s.Members[k]=uF s.Members sh k:=(show uF s.Members sh k=unN s.Members[k] from zxF hg hq).symm;rw[if_pos rfl,zrK hg,obs,zzw (hms.2 _ (List.getElem_mem hkn)),obs,e,zqr (fI (by omega)),zqr (fI (by omega)),ek];exact zz5 hms hs hR d (k+1) (by omega) (by omega)
   | false=>
    have e:part (uF s.Members sh) k=part (uF s.Members sh) (k+1):=by
     show _=part _ k+uF s.Members sh k
     rw[show uF s.Members sh k=0 from zxE hq,Int.add_zero]
    rw[if_neg (by decide),zqr (fI (by omega)),ek,e];exact zz5 hms hs hR d (k+1) (by omega) (by omega)
  ·have hkn:k=s.Members.length:=by omega
   rw[if_neg (by omega)];subst hkn
   have e:part (uF s.Members sh) s.Members.length=S5 (uF s.Members sh):=zzx _ h5 fun i h1 _=>show uF s.Members sh i=0 from zxE (by
    cases hq:sh i with
    | false=>rfl
    | true=>have:=hs i hq; omega)
   rw[e];exact hR
theorem zz6(hms:zxu s.Members)(hs:zxy s.Members sh)(h0:¬ zxw sh=true)(hN:0<=N/\N<=1000000) :
  ∀(d k:Nat),k<=s.Members.length->s.Members.length - k < d->zsp s (zzS sh s.Members.length:Int) N (S5 (uF s.Members sh)) d (N - part (qN N (uF s.Members sh)) k) (k:Int) (lN s.Members.length (stF (qN N (uF s.Members sh)) (fun _=>0) k)) (lN s.Members.length (stF (rsF sh (rN N (uF s.Members sh)) 0) (fun _=>0) k))=some (lN s.Members.length (zw4 N (uF s.Members sh)))
 | 0,_,_,h=>by omega
 | d+1,k,hk,hd=>by
  have h5:=hms.1;have huo:=zxH hms hs h0;rw[zsp]
  by_cases hkn:k < s.Members.length
  ·have hg:=List.getElem?_eq_getElem hkn;have hb:=zwB (f:=qN N (uF s.Members sh)) (B:=1000000) (fun i hi=>by have:=zw5 huo hN.1 hi; omega) (by omega) k (by omega);have hqk:=zw5 huo hN.1 (k:=k) (by omega);have hrk:=zw6 huo (N:=N) k;have hSle:=huo.le (i:=0) (by omega);have hu:=zxG hms sh k;have hpos:=huo.pos;have hmul:=zw3 (a:=N) (x:=uF s.Members sh k) hN hu
   have ek:(k:Int)+1=((k+1:Nat):Int):=by omega
   rw[if_pos (by omega),zzL hkn,obs,zz0 h5 hkn]
   cases hq:sh k with
   | true=>
    have e:unN s.Members[k]=uF s.Members sh k:=(show uF s.Members sh k=unN s.Members[k] from zxF hg hq).symm;have e1:N * uF s.Members sh k / S5 (uF s.Members sh)=qN N (uF s.Members sh) k:=rfl;have e2:N * uF s.Members sh k % S5 (uF s.Members sh)=rN N (uF s.Members sh) k:=rfl
    have e3:rN N (uF s.Members sh) k=rsF sh (rN N (uF s.Members sh)) 0 k:=by
     have:=(zxh (rN N (uF s.Members sh)) (i:=k) (by omega)).1;unfold rsF; rw[if_pos hq,if_neg (by omega)]
    have e4:N - part (qN N (uF s.Members sh)) k - qN N (uF s.Members sh) k=N - part (qN N (uF s.Members sh)) (k+1):=by show _=N - (part _ k+qN N (uF s.Members sh) k); omega
    have e5:∀F:Nat->Int,idx ((lN s.Members.length F).set k (-1)) (k:Int)=some (-1):=fun F=>by rw[zzN,zzL hkn,if_pos rfl]
    rw[if_pos rfl,zrK hg,obs,zzw (hms.2 _ (List.getElem_mem hkn)),obs,e,zqr (by omega),zqr (by omega),zqr (fI (by omega)),zqr (by omega),zqr (by omega),e1,zqr (fI (by omega)),zqr (by omega),zqr (by omega),e2,zqr (fI (by omega)),zzL hkn,obs,Int.toNat_natCast,e5,obs,List.set_set,zzO,e3,zzO,zzL hkn,obs,zwy _ _ (by omega),zqr (fI (by omega)),zqr (fI (by omega)),ek,e4];exact zz6 hms hs h0 hN d (k+1) (by omega) (by omega)
   | false=>
    have hq0:qN N (uF s.Members sh) k=0:=by unfold qN; rw[show uF s.Members sh k=0 from zxE hq,Int.mul_zero,Int.zero_ediv]
    have e3:(-1:Int)=rsF sh (rN N (uF s.Members sh)) 0 k:=by unfold rsF; rw[if_neg (by rw[hq]; decide)]
    have e4:N - part (qN N (uF s.Members sh)) k=N - part (qN N (uF s.Members sh)) (k+1):=by show _=N - (part _ k+qN N (uF s.Members sh) k); omega
    rw[if_neg (by decide),zqr (fI (by omega)),ek,e4,Int.toNat_natCast,e3,zzO,zzP (g:=qN N (uF s.Members sh)) hq0];exact zz6 hms hs h0 hN d (k+1) (by omega) (by omega)
  ·have hkn:k=s.Members.length:=by omega
   rw[if_neg (by omega)];subst hkn;have hlb:=zxm huo N
   have hpart:part (qN N (uF s.Members sh)) s.Members.length=S5 (qN N (uF s.Members sh)):=zzx _ h5 fun i h1 _=>by
    unfold qN
    rw[show uF s.Members sh i=0 from zxE (by cases hq:sh i with | false=>rfl | true=>have:=hs i hq; omega),Int.mul_zero,Int.zero_ediv]
   rw[hpart,zzQ,zzQ];have:=zz2 hms hs h0 hN (L:=(N - S5 (qN N (uF s.Members sh))).toNat) (by omega) 1000000 0 (Nat.zero_le _) (by omega)
   have e1:(((N - S5 (qN N (uF s.Members sh))).toNat:Nat):Int) - ((0:Nat):Int)=N - S5 (qN N (uF s.Members sh)):=by omega
   have e2:lN s.Members.length (ptF (qN N (uF s.Members sh)) (rN N (uF s.Members sh)) 0)=lN s.Members.length (qN N (uF s.Members sh)):=zzM fun i hi=>by
    have:=(zxh (rN N (uF s.Members sh)) (i:=i) (by omega)).1;unfold ptF; rw[if_neg (by omega),Int.add_zero]
   rw[e1,e2] at this;exact this
theorem zz7(hms:zxu s.Members)(hs:zxy s.Members sh)(h0:¬ zxw sh=true)(hN:0<=N/\N<=1000000):zsr s (zzS sh s.Members.length:Int) N=some (lN s.Members.length (zw4 N (uF s.Members sh))):=by
 have h5:=hms.1;unfold zsr;rw[zqr (by omega),zqr (by omega),Int.toNat_natCast,zzR];refine zz5 hms hs ?_ 1000000 0 (Nat.zero_le _) (by omega);have:=zz6 hms hs h0 hN 1000000 0 (Nat.zero_le _) (by omega);rw[zww,zww] at this
 have e:N - part (qN N (uF s.Members sh)) 0=N:=by show N - 0=N; omega
 rw[e] at this;exact this
end
end
end Go.Proofs.Ytkclhciahokifaa

namespace Go.Proofs.Ytkclhciahokifaa
open _root_.Go.Proofs.Try
open Go.Abs
set_option maxRecDepth 100000
noncomputable section
section
variable {s:Soc} {sh:Nat->Bool} {N:Int}
theorem zz8(hms:zxu s.Members){p c:Nat->Int}:∀(d k:Nat),k<=s.Members.length->s.Members.length - k < d->zss s (zzS sh s.Members.length:Int) (lN s.Members.length p) d (k:Int) (lN s.Members.length (stF (fun i=>if sh i=true then p i else c i) c k))=some (lN s.Members.length fun i=>if sh i=true then p i else c i,0)
 | 0,_,_,h=>by omega
 | d+1,k,hk,hd=>by
  have h5:=hms.1;rw[zss]
  by_cases hkn:k < s.Members.length
  ·have ek:(k:Int)+1=((k+1:Nat):Int):=by omega
   rw[if_pos (by omega),zz0 h5 hkn]
   cases hq:sh k with
   | true=>
    have e:p k=(fun i=>if sh i=true then p i else c i) k:=(if_pos hq).symm;rw[if_pos rfl,zzL hkn,obs,zzL hkn,obs,zqr (fI (by omega)),ek,Int.toNat_natCast,e,zzO];exact zz8 hms d (k+1) (by omega) (by omega)
   | false=>
    rw[if_neg (by decide),zqr (fI (by omega)),ek,zzP (if_neg (by rw[hq]; decide))];exact zz8 hms d (k+1) (by omega) (by omega)
  ·have hkn:k=s.Members.length:=by omega
   rw[if_neg (by omega)];subst hkn;rw[zzQ]
theorem zz9(hms:zxu s.Members){x9 x20:Int}{off:Nat->Bool}(hx:x9 - x20=(zzS off s.Members.length:Int)){c':Nat->Int}{K:Int->Int->List Int->Option (List Int × Int)}{g:Nat->Int}(hg:∀i,i < 5->0<=g i/\g i<=1000000)(hon:∀i,i < s.Members.length->off i=true->c' i=g i)(hoff:∀i,off i=false->g i=0)(hN:0<=N/\N<=1000000) :
  ∀(d k:Nat),k<=s.Members.length->s.Members.length - k < d->zst s x9 x20 (lN s.Members.length c') K d (N - part g k) (k:Int)=K (N - part g s.Members.length) x20 (lN s.Members.length c')
 | 0,_,_,h=>by omega
 | d+1,k,hk,hd=>by
  have h5:=hms.1;rw[zst,hx];have hlt:=zzT off s.Members.length;have hpw:=zzE (show s.Members.length<=8 by omega)
  by_cases hkn:k < s.Members.length
  ·have ek:(k:Int)+1=((k+1:Nat):Int):=by omega
   have hb:=zwB (f:=g) (B:=1000000) (fun i hi=>by have:=hg i hi; omega) (by omega) k (by omega);have hgk:=hg k (by omega);rw[if_pos (by omega),zqr (fI (by omega)),zz0 h5 hkn]
   cases hq:off k with
   | true=>
    have e4:N - part g k - g k=N - part g (k+1):=by show _=N - (part g k+g k); omega
    rw[if_pos rfl,zzL hkn,obs,hon k hkn hq,zqr (fI (by omega)),zqr (fI (by omega)),ek,e4];exact zz9 hms hx hg hon hoff hN d (k+1) (by omega) (by omega)
   | false=>
    have e4:N - part g k=N - part g (k+1):=by show _=N - (part g k+g k); rw[hoff k hq]; omega
    rw[if_neg (by decide),zqr (fI (by omega)),ek,e4];exact zz9 hms hx hg hon hoff hN d (k+1) (by omega) (by omega)
  ·have hkn:k=s.Members.length:=by omega
   rw[if_neg (by omega)];subst hkn
   rfl
theorem zAa(hms:zxu s.Members)(hs:zxy s.Members sh){x8:Int}{p c:Nat->Int}{K:Int->Int->List Int->Option (List Int × Int)}(hc0:∀i,sh i=true->c i=0){R:Option (List Int × Int)}
  (hR:(if (zzS (zwH s.Members sh p) s.Members.length:Int)=(zzS sh s.Members.length:Int) then (zss s (zzS sh s.Members.length:Int) (lN s.Members.length p) 1000000 (0:Int) (lN s.Members.length fun i=>c i+mF s.Members (fun i=>sh i && !zwH s.Members sh p i) i)) else (zst s (zzS sh s.Members.length:Int) (zzS (zwH s.Members sh p) s.Members.length:Int) (lN s.Members.length fun i=>c i+mF s.Members (fun i=>sh i && !zwH s.Members sh p i) i) K 1000000 x8 (0:Int)))=R) :
  ∀(d k:Nat),k<=s.Members.length->s.Members.length - k < d->zsu s x8 (zzS sh s.Members.length:Int) (lN s.Members.length p) K d (zzS (stF (zwH s.Members sh p) sh k) s.Members.length:Int) (k:Int) (lN s.Members.length (stF (fun i=>c i+mF s.Members (fun i=>sh i && !zwH s.Members sh p i) i) c k))=R
 | 0,_,_,h=>by omega
 | d+1,k,hk,hd=>by
  have h5:=hms.1;rw[zsu]
  by_cases hkn:k < s.Members.length
  ·have hg:=List.getElem?_eq_getElem hkn
   have ek:(k:Int)+1=((k+1:Nat):Int):=by omega
   have skip:zwH s.Members sh p k=sh k->mF s.Members (fun i=>sh i && !zwH s.Members sh p i) k=0->zzS (stF (zwH s.Members sh p) sh k) s.Members.length=zzS (stF (zwH s.Members sh p) sh (k+1)) s.Members.length/\lN s.Members.length (stF (fun i=>c i+mF s.Members (fun i=>sh i && !zwH s.Members sh p i) i) c k)=lN s.Members.length (stF (fun i=>c i+mF s.Members (fun i=>sh i && !zwH s.Members sh p i) i) c (k+1)):=fun h1 h2=>by
    refine⟨zzV fun j _=>?_,zzP (show c k+_=c k by rw[h2,Int.add_zero])⟩;unfold stF
    by_cases h3:j=k
    ·subst h3; rw[if_neg (by omega),if_pos (by omega),h1]
    ·by_cases h4:j < k
     ·rw[if_pos h4,if_pos (by omega)]
     ·rw[if_neg h4,if_neg (by omega)]
   rw[if_pos (by omega),zz0 h5 hkn]
   cases hq:sh k with
   | true=>
    rw[if_pos rfl,zzL hkn,obs,zrK hg,obs]
    by_cases hm:s.Members[k].Most < p k
    ·have hab:zwH s.Members sh p k=false:=by rw[zxC hg,hq,Bool.true_and]; exact decide_eq_false (by omega)
     have hmF:mF s.Members (fun i=>sh i && !zwH s.Members sh p i) k=s.Members[k].Most:=zxF hg (by show(sh k && !zwH s.Members sh p k)=true; rw[hq,hab]; rfl);have hpw:=zzE (show k<=8 by omega);have hpw2:=zzE (show s.Members.length<=8 by omega);have hlt:=zzT (stF (zwH s.Members sh p) sh k) s.Members.length;have hw:zmb .u64 (k:Int)=(k:Int):=wu (by omega)
     have hpow:(1:Int) * 2 ^ (Int.toNat (zmb .u64 (k:Int)))=((2 ^ k:Nat):Int):=by rw[hw,Int.toNat_natCast,Int.one_mul,Int.natCast_pow]; rfl
     have hdrop:=zz4 (f:=stF (zwH s.Members sh p) sh k) (g:=stF (zwH s.Members sh p) sh (k+1)) hkn (by rw[zwx]; exact hq) (by rw[zwy _ _ (by omega)]; exact hab) fun j hj=>by
      unfold stF
      by_cases h4:j < k
      ·rw[if_pos h4,if_pos (by omega)]
      ·rw[if_neg h4,if_neg (by omega)]
     have e1:(zzS (stF (zwH s.Members sh p) sh k) s.Members.length:Int) - ((2 ^ k:Nat):Int)=(zzS (stF (zwH s.Members sh p) sh (k+1)) s.Members.length:Int):=by rw[hdrop]; omega
     have e2:s.Members[k].Most=(fun i=>c i+mF s.Members (fun i=>sh i && !zwH s.Members sh p i) i) k:=by show _=c k+_; rw[hc0 k hq,hmF,Int.zero_add]
     have hb1:(0:Int)<=((2 ^ k:Nat):Int):=Int.natCast_nonneg _;rw[if_pos hm,obs,zzL hkn,obs,hpow,hw,zqr (by omega),zqr (by omega),zqr (by omega),zqr (fI (by omega)),e1,zqr (fI (by omega)),zqr (fI (by omega)),ek,Int.toNat_natCast,e2,zzO];exact zAa hms hs hc0 hR d (k+1) (by omega) (by omega)
    ·have hab:zwH s.Members sh p k=true:=by rw[zxC hg,hq,Bool.true_and]; exact decide_eq_true (by omega)
     obtain⟨e1,e2⟩:=skip (hab.trans hq.symm) (zxE (by show(sh k && !zwH s.Members sh p k)=false; rw[hab]; simp));rw[if_neg hm,zqr (fI (by omega)),ek,e1,e2];exact zAa hms hs hc0 hR d (k+1) (by omega) (by omega)
   | false=>
    have hab:zwH s.Members sh p k=false:=by
     cases h:zwH s.Members sh p k with
     | false=>rfl
     | true=>rw[zxB h] at hq; cases hq
    obtain⟨e1,e2⟩:=skip (hab.trans hq.symm) (zxE (by show(sh k && !zwH s.Members sh p k)=false; rw[hq]; rfl));rw[if_neg (by decide),zqr (fI (by omega)),ek,e1,e2];exact zAa hms hs hc0 hR d (k+1) (by omega) (by omega)
  ·have hkn:k=s.Members.length:=by omega
   rw[if_neg (by omega)];subst hkn;rw[zzV (g:=zwH s.Members sh p) fun j hj=>zwy _ _ hj,zzQ];exact hR
end
theorem zAb{s:Soc}(hms:zxu s.Members):∀(n:Nat) (sh:Nat->Bool) (N:Int) (c:Nat->Int),RI s.Members sh N c->cF sh < n->∀d,n < d->zsv s d N (zzS sh s.Members.length:Int) (lN s.Members.length c)=some (lN s.Members.length (roundsN s.Members n sh N c).1,(roundsN s.Members n sh N c).2)
 | 0,_,_,_,_,h=>by omega
 | n+1,sh,N,c,hr,h=>fun d hd=>by
  have h5:=hms.1;obtain⟨d,rfl⟩:∃e,d=e+1:=⟨d - 1,by omega⟩;rw[zsv];unfold roundsN
  have hz:zzS sh s.Members.length=0↔zxw sh=true:=by
   rw[zxz,<- zzX s.Members.length,zzW];refine⟨fun h i hi=>?_,fun h j hj=>h j (by omega)⟩
   cases hq:sh i with
   | false=>rfl
   | true=>rw[h i (hr.sup i hq)] at hq; cases hq
  by_cases h0:zxw sh=true
  ·rw[if_pos h0,if_neg (by have:=hz.2 h0; omega)]
  ·rw[if_neg h0,if_pos (by have:¬ zzS sh s.Members.length=0:=fun h=>h0 (hz.1 h); omega),zz7 hms hr.sup h0 hr.nn,obs]
   have hsame:(zzS (zwH s.Members sh (zw4 N (uF s.Members sh))) s.Members.length:Int)=(zzS sh s.Members.length:Int)↔zxx (zwH s.Members sh (zw4 N (uF s.Members sh))) sh=true:=by
    rw[zxA,Int.ofNat_inj,zzW];refine⟨fun h i hi=>?_,fun h j hj=>h j (by omega)⟩
    by_cases hn:i < s.Members.length
    ·exact h i hn
    ·have e1:sh i=false:=by
      cases hq:sh i with
      | false=>rfl
      | true=>have:=hr.sup i hq; omega
     rw[e1]
     cases hq:zwH s.Members sh (zw4 N (uF s.Members sh)) i with
     | false=>rfl
     | true=>rw[zxB hq] at e1; cases e1
   have key:=zAa (x8:=N) (p:=zw4 N (uF s.Members sh)) (K:=zsv s d) hms hr.sup hr.c0 (R:=some (lN s.Members.length (roundsN s.Members (n+1) sh N c).1,(roundsN s.Members (n+1) sh N c).2)) ?_ 1000000 0 (Nat.zero_le _) (by omega)
   ·rw[zww,zww] at key;refine key.trans ?_;rw[roundsN,if_neg h0]
   ·rw[roundsN,if_neg h0]
    by_cases h1:zxx (zwH s.Members sh (zw4 N (uF s.Members sh))) sh=true
    ·rw[if_pos (hsame.2 h1),if_pos h1];have h1':=zxA.1 h1
     have ec:lN s.Members.length (fun i=>c i+mF s.Members (fun i=>sh i && !zwH s.Members sh (zw4 N (uF s.Members sh)) i) i)=lN s.Members.length c:=zzM fun i hi=>by
      show c i+_=c i
      rw[show mF s.Members (fun i=>sh i && !zwH s.Members sh (zw4 N (uF s.Members sh)) i) i=0 from zxE (by show(sh i && !zwH s.Members sh _ i)=false; rw[h1' i (by omega)]; cases sh i <;> rfl),Int.add_zero]
     have:=zz8 (sh:=sh) (p:=zw4 N (uF s.Members sh)) (c:=c) hms 1000000 0 (Nat.zero_le _) (by omega);rw[zww] at this;rw[ec];refine this.trans ?_
     congr 2
     refine zzM fun i hi=>?_
     cases hq:sh i with
     | true=>
      show _=c i+zw4 N (uF s.Members sh) i
      rw[if_pos rfl,hr.c0 i hq,Int.zero_add]
     | false=>
      show _=c i+zw4 N (uF s.Members sh) i
      rw[if_neg (by decide),zxs (zxH hms hr.sup h0) (show uF s.Members sh i=0 from zxE hq),Int.add_zero]
    ·rw[if_neg fun h=>h1 (hsame.1 h),if_neg h1];have hless:=zxD h1;have hnext:=hr.next hms h0;have hsub:=zzZ (f:=sh) (g:=zwH s.Members sh (zw4 N (uF s.Members sh))) (n:=s.Members.length) fun j _ hj=>zxB hj;have hmb:=fun i (hi:i < 5)=>zxJ hms hr.sup h0 hr.nn.1 hi;have huo:=zxH hms hr.sup h0
     have key:=zz9 (s:=s) (N:=N) (x9:=(zzS sh s.Members.length:Int)) (x20:=(zzS (zwH s.Members sh (zw4 N (uF s.Members sh))) s.Members.length:Int)) hms (off:=fun i=>sh i && !zwH s.Members sh (zw4 N (uF s.Members sh)) i) (by omega) (c':=fun i=>c i+mF s.Members (fun i=>sh i && !zwH s.Members sh (zw4 N (uF s.Members sh)) i) i) (K:=zsv s d) (g:=mF s.Members fun i=>sh i && !zwH s.Members sh (zw4 N (uF s.Members sh)) i)
      (fun i hi=>by have:=hmb i hi; have:=zw5 huo hr.nn.1 hi; have:=hr.nn; omega)
      (fun i hi ho=>by
       have ho:(sh i && !zwH s.Members sh (zw4 N (uF s.Members sh)) i)=true:=ho
       show c i+_=_
       rw[hr.c0 i ((zxI _).1 ho).1,Int.zero_add])
      (fun i ho=>zxE ho) hr.nn 1000000 0 (Nat.zero_le _) (by omega)
     have e0:N - part (mF s.Members fun i=>sh i && !zwH s.Members sh (zw4 N (uF s.Members sh)) i) 0=N:=by show N - 0=N; omega
     have e1:part (mF s.Members fun i=>sh i && !zwH s.Members sh (zw4 N (uF s.Members sh)) i) s.Members.length=S5 (mF s.Members fun i=>sh i && !zwH s.Members sh (zw4 N (uF s.Members sh)) i):=zzx _ h5 fun i h1 _=>show mF s.Members _ i=0 from by unfold mF zwF; rw[List.getElem?_eq_none h1]
     rw[e0,e1] at key;exact key.trans (zAb hms n _ _ _ hnext (by omega) d (by omega))
theorem zAc{s:Soc}(hms:zxu s.Members){sh:Nat->Bool}(hs:zxy s.Members sh){N:Int}(hN:0<=N/\N<=1000000):zsw s (zzS sh s.Members.length:Int) N=some (lN s.Members.length (zxN s.Members sh N).1,(zxN s.Members sh N).2):=by
 have h5:=hms.1;have hc:=zxO sh;unfold zsw;rw[zqr (by omega),Int.toNat_natCast,zzR];exact zAb hms 6 sh N _ (RI0 hs hN) (by omega) 1000000 (by omega)
theorem zAd{s:Soc}(h5:s.Members.length<=5)(out:List Int)(N:Int):zyS s out N=lN s.Members.length (zxN s.Members (zyc s.Members.length out) N).1:=by
 refine List.ext_getElem? fun i=>?_
 by_cases hi:i < s.Members.length
 ·rw[zyU out N h5 hi,zzK hi]
 ·rw[List.getElem?_eq_none (by rw[zyT out N h5]; omega),List.getElem?_eq_none (by rw[zzJ]; omega)]
theorem zAe{n:Nat}(out:List Int)(ho:out=[]):zzF n=zzS (zyc n out) n:=by
 rw[<- zzY]
 exact zzV fun j hj=>by rw[ho,zzD,decide_eq_true hj]
theorem zAf{s:Soc}{need:Int}{calls:List Int}(_:zse s)(_:zl6 .i64 need)(_:calls.length<=maxLen/\∀a∈calls,zl6 .i64 a):zuf s need calls=some true:=by
 unfold zuf
 refine zzq.pick (fun ht=>?_) fun _=>by rw[if_neg (by decide),awk]
 rw[if_pos rfl]
 by_cases h9:(9:Int) < (calls.length:Int)
 ·rw[if_pos h9,awk]
 have hM:zrU s.Members:=by have:=ht.1; unfold zrU; omega
 have hL:zrU s.Losses:=by have:=ht.2; unfold zrU; omega
 rw[if_neg h9,zzr ht,obs]
 by_cases hf:zxZ s=0
 ·have hs:=zx0.1 hf;have h5:=hs.m5
  by_cases hn:0<=need/\need<=300000
  ·rw[zyV hs hn,obs,obs,zzo (by omega),obs,zzz hs hn (by omega),obs,zyb ht.1 ht.2,obs,if_pos hf,zx8.some_of hn,obs,if_pos rfl,zzG ht.1,obs,zAe (n:=s.Members.length) [] rfl,zAc hs.msOk (zye s.Members []) (by omega),obs,if_pos rfl];have hl:=zyT (s:=s) [] need h5;rw[<- zAd h5]
   show(zsE (zyS s [] need) (zyS s [] need)).bind _=_
   rw[zzn (by omega) (by omega),obs,if_pos (decide_eq_true rfl),if_pos rfl]
   show(zsE calls (zyS s [] need)).bind _=_
   rw[zzn (by omega) (by omega),obs,if_pos (by cases decide (calls=zyS s [] need) <;> rfl),awk]
  ·rw[zyW hs hn,obs,obs,zzo (by omega),obs,zzA hs hn,obs,zyb ht.1 ht.2,obs,if_pos hf,zx8.some_not hn,obs,if_neg (by decide),if_pos (by rfl),if_pos (by rfl),if_pos (by rfl),if_neg (by decide),awk]
 ·rw[zzB hM hL hf,obs,obs,zzo (by omega),obs,zzC hM hL hf,obs,zyb ht.1 ht.2,obs,if_neg hf,if_pos (by rfl),if_pos (by rfl),if_pos (by rfl),if_neg (by decide),awk]
end
end Go.Proofs.Ytkclhciahokifaa

namespace Go.Proofs.Ytkclhciahokifaa
open _root_.Go.Proofs.Try
open Go.ChangeShapes Go.WideShapes Go.ChangeAt Go.RowKit Go.Abs
set_option maxRecDepth 100000
theorem op3:zr0 prog 3 Int (zl6 .i64):=zr1 (by kernel_rfl)
theorem zAg:zr0 prog 82 Mb zsc:=zr8 (fs:=[(3,0),(3,1),(3,2)]) (by kernel_rfl) (by kernel_rfl) (zr7 (α:=Int) (ok:=zl6 .i64) (k:=1) op3 (by kernel_rfl) rfl (zr7 (α:=Int) (ok:=zl6 .i64) (k:=1) op3 (by kernel_rfl) rfl (zr7 (α:=Int) (ok:=zl6 .i64) (k:=1) op3 (by kernel_rfl) rfl zr6))) (by kernel_rfl) fun m vs h=>by
 obtain⟨a0,c0,r0,m0,h0,p0,k0,s0,⟨a1,c1,r1,m1,h1,p1,k1,s1,⟨a2,c2,r2,m2,h2,p2,k2,s2,rfl⟩⟩⟩:=h;have p0:c0=[.int .i64 a0]:=p0; subst p0;have p1:c1=[.int .i64 a1]:=p1; subst p1;have p2:c2=[.int .i64 a2]:=p2; subst p2;subst h2 h1 h0;exact⟨⟨a0,a1,a2⟩,rfl,⟨k0,k1,k2⟩⟩
theorem zAh:zr0 prog 22 (List Mb) (fun l=>l.length<=maxLen/\∀a0∈l,zsc a0):=zr3 (by kernel_rfl) (by kernel_rfl) zAg
theorem zAi:zr0 prog 25 Rg zsa:=zr8 (fs:=[(3,0),(3,1)]) (by kernel_rfl) (by kernel_rfl) (zr7 (α:=Int) (ok:=zl6 .i64) (k:=1) op3 (by kernel_rfl) rfl (zr7 (α:=Int) (ok:=zl6 .i64) (k:=1) op3 (by kernel_rfl) rfl zr6)) (by kernel_rfl) fun m vs h=>by
 obtain⟨a0,c0,r0,m0,h0,p0,k0,s0,⟨a1,c1,r1,m1,h1,p1,k1,s1,rfl⟩⟩:=h;have p0:c0=[.int .i64 a0]:=p0; subst p0;have p1:c1=[.int .i64 a1]:=p1; subst p1;subst h1 h0;exact⟨⟨a0,a1⟩,rfl,⟨k0,k1⟩⟩
theorem zAj:zr0 prog 23 (List Rg) (fun l=>l.length<=maxLen/\∀a0∈l,zsa a0):=zr3 (by kernel_rfl) (by kernel_rfl) zAi
theorem zAk:zr0 prog 27 Soc zse:=zr8 (fs:=[(22,0),(23,1),(25,2),(3,4)]) (by kernel_rfl) (by kernel_rfl) (zr7 (α:=List Mb) (ok:=(fun l=>l.length<=maxLen/\∀a0∈l,zsc a0)) (k:=1) zAh (by kernel_rfl) rfl (zr7 (α:=List Rg) (ok:=(fun l=>l.length<=maxLen/\∀a0∈l,zsa a0)) (k:=1) zAj (by kernel_rfl) rfl (zr7 (α:=Rg) (ok:=zsa) (k:=2) zAi (by kernel_rfl) rfl (zr7 (α:=Int) (ok:=zl6 .i64) (k:=1) op3 (by kernel_rfl) rfl zr6)))) (by kernel_rfl) fun m vs h=>by
 obtain⟨a0,c0,r0,m0,h0,p0,k0,s0,⟨a1,c1,r1,m1,h1,p1,k1,s1,⟨a2,c2,r2,m2,h2,p2,k2,s2,⟨a3,c3,r3,m3,h3,p3,k3,s3,rfl⟩⟩⟩⟩:=h;obtain⟨d0,rfl,p0⟩:=p0;obtain⟨d1,rfl,p1⟩:=p1;have p2:c2=[.int .i64 a2.Lo,.int .i64 a2.Hi]:=p2; subst p2;have p3:c3=[.int .i64 a3]:=p3; subst p3;subst h3 h2 h1 h0;exact⟨⟨a0,a1,a2,a3⟩,⟨_,_,rfl,p0,p1⟩,⟨k0,k1,k2,k3⟩⟩
theorem zAl:zr0 prog 28 (List Int) (fun l=>l.length<=maxLen/\∀a0∈l,zl6 .i64 a0):=zr3 (by kernel_rfl) (by kernel_rfl) op3
theorem zAm:laidOutB prog=true:=by kernel_rfl
theorem zAn:ownKnob prog.godebug=none:=by kernel_rfl
theorem zAo(os:Os)(started:os.Started)(H:Type)(enc:TypeId × Value->H) :
    ReturnsInHanded {} Try.checked os 4 .any (Rows.callCallsSpec.pre6 enc Try.prog Try.f4 Rows.callCallsRow.domain false) (Rows.callCallsSpec.post enc Try.prog Try.f4 false true false false):=by
  refine returnsInHanded_of_change (C:=Try.checked) zAn started (by kernel_rfl) Try.func4
    (ChangeSpec.witness6 (enc:=enc) (C:=Try.checked) false ⟨#[],#[.agg #[.slice none 0 0,.slice none 0 0,.int .i64 0,.int .i64 0,.int .i64 0],.int .i64 0,.slice none 0 0],[]⟩ 8 (by kernel_rfl) (by kernel_rfl) (by kernel_rfl) (by kernel_rfl)) ?_
  intro W base args ds gs before hval0 hW hcnd _;have hval:∀(j:Nat) t v,Try.f4.params[j]? = some t->args[j]? = some v->Value.okWide Try.prog W .any base t v:=hval0;have hW':=hW;obtain⟨p,q,hA0,hV,rfl,hfz,hnd⟩:=hW;have hA:DataW.TrodAll enc Try.prog W 0 (fun _=>true) true Try.f4.params.toList args.toList ds p:=hA0;rw[Try.params4] at hA hval;obtain⟨v0,v1,v2,d0,d1,d2,p0,p1,p2,rfl,rfl,rfl,h0,h1,h2⟩:=trodAll_three hA;obtain⟨rfl,rfl⟩:=trodVars_none hV;obtain⟨n1,hv1⟩:=okWide_int Try.underlying3 (hval 1 3 v1 rfl rfl);obtain⟨a2,len2,cap2,hv2⟩:=okWide_slice Try.underlying28 (hval 2 28 v2 rfl rfl)
  have hlt:∀x∈p0++p1++p2,x.block < W.heap.size:=fun x hx=>by simpa using hW'.lt x (by simpa using hx)
  obtain⟨fu0,hf0⟩:=id h0;obtain⟨fu1,hf1⟩:=id h1;obtain⟨fu2,hf2⟩:=id h2
  clear hA0 hval0
  obtain⟨e0,m0,w0,a_0,le0,sv0,lay0,cr0,zuI,ok0⟩:=zAk H enc W true _ _ _ hf0 _ _ (Lay.nil W);obtain⟨e1,m1,w1,a_1,le1,sv1,lay1,cr1,rep1,ok1⟩:=op3 H enc W true _ _ _ hf1 e0 m0 lay0;obtain⟨e2,m2,w2,a_2,le2,sv2,lay2,cr2,rep2,ok2⟩:=zAl H enc W true _ _ _ hf2 e1 m1 lay1;obtain⟨c0_0,c0_1,rfl,g0_0,g0_1⟩:=zuI
  obtain⟨cs0,hv0,cl0⟩:∃cs,v0=.agg cs/\v0.cells.toList=cs.toList:=by
    have hl:=cr0.length
    cases v0 with
    | agg cs=>exact⟨cs,rfl,rfl⟩
    | _=>exact absurd hl (by simp[Value.cells])
  subst hv0;have rep1:w1=[.int .i64 a_1]:=rep1;subst rep1 hv1
  have ha1:n1=a_1:=by
    cases cr1 with
    | cons h _=>have h:Value.int .i64 n1=.int .i64 a_1:=h; cases h; rfl
  subst ha1;subst hv2;obtain⟨c2,rfl,rep2⟩:=rep2
  have cv2:CR e2 c2 (.slice a2 len2 cap2):=by
    cases cr2 with
    | cons h _=>exact h
  have hargs:zeq (VR e2) [.agg 5 [c0_0,c0_1,.int .i64 a_0.Treaty.Lo,.int .i64 a_0.Treaty.Hi,.int .i64 a_0.Reserve],.c (.int .i64 n1),.c c2] [.agg cs0,.int .i64 n1,.slice a2 len2 cap2]:=.cons ⟨cs0,rfl,(cr0.mono fun _ _=>CR.mono (le1.trans le2)),rfl⟩ (.cons rfl (.cons cv2 .nil));refine(callsIn_wide.1 (zqC fits htab (zwr (s:=a_0) (need:=n1) (calls:=a_2) lay2.pre ((g0_0.subv sv1).subv sv2) ((g0_1.subv sv1).subv sv2) rep2 (zAf ok0 ok1 ok2) (Q:=fun v _=>v=.c (.bool true)) fun _ _=>rfl) lay2.hr (args':=#[.agg cs0,.int .i64 n1,.slice a2 len2 cap2]) hargs 0)).mono fun en W' hp=>?_;obtain⟨v,v',e',m',rfl,hst,hvr,rfl⟩:=hp;have hv':v'=.bool true:=hvr;subst hv';have hbelow:=lay2.below hst
  refine⟨_,rfl,[d0,d1,d2],[],p0++p1++p2,[],p0++(p1++p2),[],by simpa using hW',trodAll_mk1 (shut_bool Try.underlying4 _),
    trodAll_mk3 (Below.trod zAm (by kernel_rfl) (of_decide_eq_true (by kernel_rfl)) h0 hbelow fun x hx=>hlt x (by simp[hx])) (Below.trod zAm (by kernel_rfl) (of_decide_eq_true (by kernel_rfl)) h1 hbelow fun x hx=>hlt x (by simp[hx])) (Below.trod zAm (by kernel_rfl) (of_decide_eq_true (by kernel_rfl)) h2 hbelow fun x hx=>hlt x (by simp[hx])),rfl,lay2.kept hst _,fun hc=>by cases hc⟩
theorem CallCalls_holds:Rows.CallCallsSaid:=
 OpenClaim.holds_of_wide 4 Try.f4 rfl rfl rfl rfl rfl rfl rfl ⟨rfl,rfl,rfl,rfl,rfl⟩ rfl rfl rfl rfl rfl (by kernel_rfl) Try.func4 (by kernel_rfl)
  (of_decide_eq_true (by kernel_rfl)) (by unfold Func.isWrapper; first | (rw[if_pos (by decide +kernel)]; kernel_rfl) | (rw[if_neg (by decide +kernel)]; exact⟨rfl,rfl⟩))
  (fun os started H enc _=>zAo os started H enc)
end Go.Proofs.Ytkclhciahokifaa

