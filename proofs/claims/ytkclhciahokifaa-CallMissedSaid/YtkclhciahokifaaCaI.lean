/- CallMissed, for all that it can be called with, returns true. Condition: none. -/
import Derived.Test.YtkclhciahokifaaCaH
import GoSem.Step
import GoSem.ClaimKeys
import Derived.DeepKeys2
import Derived.RangeFuncLeaves
import Derived.OrdersIn
import Derived.Laws.World
import Derived.Laws.Sem
import Derived.RangeFuncRecord
import Derived.Laws.CopyRow
import Derived.Laws.Append
import Derived.Laws.Rows
import Derived.Laws.Slices
import Derived.Laws.Entries
import Derived.ChangeKeysEq
import Derived.IntWalk
import Derived.DeepKeys
import Derived.DeepKeys3
import Derived.Laws.StructEq
import Derived.MapKept
import Derived.Laws.AppendOwn
import Derived.ChangeArms
import Derived.ChangeOld
import Derived.Carry
import Derived.ChangeShapes
import Derived.KernelRfl
import Derived.ProofKit
import Derived.Test.YtkclhciahokifaaRows

namespace Go.Proofs.Ytkclhciahokifaa
open _root_.Go.Proofs.Try
open Go.Abs
set_option maxRecDepth 100000
noncomputable section
theorem zxg{a x s:Int}(hx:0<=x)(hxs:x<=s)(hs:0 < s)(ha:0<=a):0<=a * x / s/\a * x / s<=a:=by
 constructor
 ·exact Int.ediv_nonneg (Int.mul_nonneg ha hx) (Int.le_of_lt hs)
 ·have h1:a * x<=a * s:=Int.mul_le_mul_of_nonneg_left hxs ha;have h2:=Int.ediv_le_ediv hs h1
  rwa [Int.mul_ediv_cancel _ (by omega)] at h2
theorem zxh{a x A X:Int}(ha:0<=a/\a<=A)(hx:0<=x/\x<=X):0<=a * x/\a * x<=A * X:=by
 refine⟨Int.mul_nonneg ha.1 hx.1,?_⟩;have h1:a * x<=A * x:=Int.mul_le_mul_of_nonneg_right ha.2 hx.1;have h2:A * x<=A * X:=Int.mul_le_mul_of_nonneg_left hx.2 (by omega)
 omega
structure UOk (u:Nat->Int):Prop where
 bd:∀i,i < 5->0<=u i/\u i<=100000
 pos:0 < S5 u
theorem UOk.le{u:Nat->Int}(h:UOk u){i:Nat}(hi:i < 5):u i<=S5 u/\S5 u<=500000:=by
 have h0:=h.bd 0 (by omega); have h1:=h.bd 1 (by omega); have h2:=h.bd 2 (by omega); have h3:=h.bd 3 (by omega); have h4:=h.bd 4 (by omega);unfold S5
 match i,hi with
 | 0,_=>omega
 | 1,_=>omega
 | 2,_=>omega
 | 3,_=>omega
 | 4,_=>omega
def qN(N:Int)(u:Nat->Int)(k:Nat):Int:=N * u k / S5 u
def rN(N:Int)(u:Nat->Int)(k:Nat):Int:=N * u k % S5 u
def shN(N:Int)(u:Nat->Int)(k:Nat):Sh:={ pence:=qN N u k,remainder:=rN N u k }
def zxi(N:Int)(u:Nat->Int)(k:Nat):Int:=qN N u k+if zxa (rN N u) k < N - S5 (qN N u) then 1 else 0
section
variable {N:Int} {u:Nat->Int}
theorem zxj(hu:UOk u)(hN:0<=N){k:Nat}(hk:k < 5):0<=qN N u k/\qN N u k<=N:=zxg (hu.bd k hk).1 (hu.le hk).1 hu.pos hN
theorem zxk(hu:UOk u)(k:Nat):0<=rN N u k/\rN N u k < S5 u:=⟨Int.emod_nonneg _ (by have:=hu.pos; omega),Int.emod_lt_of_pos _ hu.pos⟩
theorem zxl(hu:UOk u)(hN:0<=N/\N<=1000000){k:Nat}(hk:k < 5):MK.fit (shN N u k):=by
 have h1:=zxj hu hN.1 hk;have h2:=zxk (N:=N) hu k;have h3:=(hu.le hk).2;exact⟨fI (show _/\_ by show -9223372036854775808<=qN N u k/\qN N u k < _; omega),fI (show _/\_ by show -9223372036854775808<=rN N u k/\rN N u k < _; omega),trivial⟩
theorem zxm(hu:UOk u)(hN:0<=N/\N<=1000000):ztz N (mk5 u)=some (mk5 (zxi N u)):=by
 have hbu:Bd 1000000000000 u:=fun i hi=>by have:=hu.bd i hi; omega
 have hbq:Bd 1000000000000 (qN N u):=fun i hi=>by have:=zxj hu hN.1 hi; omega
 have hU:=hu.pos;have hU2:=(hu.le (i:=0) (by omega)).2;have hq0:=zxj hu hN.1 (k:=0) (by omega); have hq1:=zxj hu hN.1 (k:=1) (by omega); have hq2:=zxj hu hN.1 (k:=2) (by omega); have hq3:=zxj hu hN.1 (k:=3) (by omega); have hq4:=zxj hu hN.1 (k:=4) (by omega)
 have hsq:0<=S5 (qN N u)/\S5 (qN N u)<=5000000:=by unfold S5; omega
 -- the second loop
 have second:ztx N (shN N u 0).pence (shN N u 0).remainder (shN N u 1).pence (shN N u 1).remainder (shN N u 2).pence (shN N u 2).remainder (shN N u 3).pence (shN N u 3).remainder (shN N u 4).pence (shN N u 4).remainder (hM (shN N u) 5) (S5 (qN N u)) (Int.toNat (5:Int)+1) (qN N u 0) (qN N u 1) (qN N u 2) (qN N u 3) (qN N u 4) (0:Int)=some (mk5 (zxi N u)):=by
  have key:=zwH (n:=5) (fun d s x=>ztx N (shN N u 0).pence (shN N u 0).remainder (shN N u 1).pence (shN N u 1).remainder (shN N u 2).pence (shN N u 2).remainder (shN N u 3).pence (shN N u 3).remainder (shN N u 4).pence (shN N u 4).remainder (hM (shN N u) 5) (S5 (qN N u)) d (s 0) (s 1) (s 2) (s 3) (s 4) x) (stF (zxi N u) (qN N u)) (fin:=some (mk5 (zxi N u))) (fun d k hk=>?_) (fun d=>?_) 6 0 (by omega) (by omega)
  ·rw[zwL] at key; exact key
  ·have hb:ztw (dv (shN N u)) (k:Int)=some (zxa (rN N u) k):=zxf (fun k hk=>zxl hu hN hk) hk;have hq:=zxj hu hN.1 hk;have e:=zwN (zxi N u) (qN N u) k
   show ztx _ _ _ _ _ _ _ _ _ _ _ _ _ (d+1) _ _ _ _ _ _=_
   rw[ztx,if_pos (by omega)]
   show(ztw (dv (shN N u)) (k:Int)).bind _=_
   rw[hb,obs]
   by_cases h:zxa (rN N u) k < N - S5 (qN N u)
   ·rw[if_pos h]
    show(idx (l5 (stF (zxi N u) (qN N u) k)) (k:Int)).bind _=_
    have ep:qN N u k+1=zxi N u k:=by unfold zxi; rw[if_pos h]
    rw[zwJ hk,obs,zwM,zqr (fI (by omega)),zqr (by omega),zqr (fI (by omega)),ep,e 0,e 1,e 2,e 3,e 4]
   ·rw[if_neg h,zqr (fI (by omega))]
    have ep:qN N u k=zxi N u k:=by unfold zxi; rw[if_neg h,Int.add_zero]
    have e1:∀j,stF (zxi N u) (qN N u) k j=stF (zxi N u) (qN N u) (k+1) j:=fun j=>by
     unfold stF
     by_cases h:j=k
     ·subst h; rw[if_neg (by omega),if_pos (by omega)]; exact ep
     ·by_cases h2:j < k
      ·rw[if_pos h2,if_pos (by omega)]
      ·rw[if_neg h2,if_neg (by omega)]
    rw[e1 0,e1 1,e1 2,e1 3,e1 4]
  ·show ztx _ _ _ _ _ _ _ _ _ _ _ _ _ (d+1) _ _ _ _ _ _=_
   rw[ztx,if_neg (by omega)]; rfl
 unfold ztz;rw[zwQ hbu,obs];have key:=zwH (n:=5) (fun d (s:(Nat->Int) × (Nat->Sh) × Option (Sh->Option Int)) x=>zty N (mk5 u) (S5 u) d (s.1 0) (s.1 1) (s.1 2) (s.1 3) (s.1 4) (s.2.1 0).pence (s.2.1 0).remainder (s.2.1 1).pence (s.2.1 1).remainder (s.2.1 2).pence (s.2.1 2).remainder (s.2.1 3).pence (s.2.1 3).remainder (s.2.1 4).pence (s.2.1 4).remainder s.2.2 x) (fun k=>(stF (qN N u) (fun _=>0) k,stF (shN N u) (fun _=>⟨0,0⟩) k,hM (shN N u) k)) (fin:=some (mk5 (zxi N u))) (fun d k hk=>?_) (fun d=>?_) 6 0 (by omega) (by omega)
 ·rw[zwL,zwL,zw8] at key; exact key
 ·have hq:=zxj hu hN.1 hk;have hr:=zxk (N:=N) hu k;have huk:=hu.bd k hk;have hm:=zxh (a:=N) (x:=u k) ⟨hN.1,hN.2⟩ huk;have hc:=zw5 (shN N u) (shN N u k) k;have hset:=zw9 (shN N u) k
  have fin:∀M',M'=hM (shN N u) (k+1)->zty N (mk5 u) (S5 u) d (sti (k:Int) 0 (qN N u k) (stF (qN N u) (fun _=>0) k 0)) (sti (k:Int) 1 (qN N u k) (stF (qN N u) (fun _=>0) k 1)) (sti (k:Int) 2 (qN N u k) (stF (qN N u) (fun _=>0) k 2)) (sti (k:Int) 3 (qN N u k) (stF (qN N u) (fun _=>0) k 3)) (sti (k:Int) 4 (qN N u k) (stF (qN N u) (fun _=>0) k 4)) (sti (k:Int) 0 (shN N u k) (stF (shN N u) (fun _=>⟨0,0⟩) k 0)).pence (sti (k:Int) 0 (shN N u k) (stF (shN N u) (fun _=>⟨0,0⟩) k 0)).remainder (sti (k:Int) 1 (shN N u k) (stF (shN N u) (fun _=>⟨0,0⟩) k 1)).pence (sti (k:Int) 1 (shN N u k) (stF (shN N u) (fun _=>⟨0,0⟩) k 1)).remainder (sti (k:Int) 2 (shN N u k) (stF (shN N u) (fun _=>⟨0,0⟩) k 2)).pence (sti (k:Int) 2 (shN N u k) (stF (shN N u) (fun _=>⟨0,0⟩) k 2)).remainder (sti (k:Int) 3 (shN N u k) (stF (shN N u) (fun _=>⟨0,0⟩) k 3)).pence (sti (k:Int) 3 (shN N u k) (stF (shN N u) (fun _=>⟨0,0⟩) k 3)).remainder (sti (k:Int) 4 (shN N u k) (stF (shN N u) (fun _=>⟨0,0⟩) k 4)).pence (sti (k:Int) 4 (shN N u k) (stF (shN N u) (fun _=>⟨0,0⟩) k 4)).remainder M' ((k:Int)+1)=zty N (mk5 u) (S5 u) d (stF (qN N u) (fun _=>0) (k+1) 0) (stF (qN N u) (fun _=>0) (k+1) 1) (stF (qN N u) (fun _=>0) (k+1) 2) (stF (qN N u) (fun _=>0) (k+1) 3) (stF (qN N u) (fun _=>0) (k+1) 4) (stF (shN N u) (fun _=>⟨0,0⟩) (k+1) 0).pence (stF (shN N u) (fun _=>⟨0,0⟩) (k+1) 0).remainder (stF (shN N u) (fun _=>⟨0,0⟩) (k+1) 1).pence (stF (shN N u) (fun _=>⟨0,0⟩) (k+1) 1).remainder (stF (shN N u) (fun _=>⟨0,0⟩) (k+1) 2).pence (stF (shN N u) (fun _=>⟨0,0⟩) (k+1) 2).remainder (stF (shN N u) (fun _=>⟨0,0⟩) (k+1) 3).pence (stF (shN N u) (fun _=>⟨0,0⟩) (k+1) 3).remainder (stF (shN N u) (fun _=>⟨0,0⟩) (k+1) 4).pence (stF (shN N u) (fun _=>⟨0,0⟩) (k+1) 4).remainder (hM (shN N u) (k+1)) ((k:Int)+1):=by
   intro M' hM';subst hM';have e:=zwN (qN N u) (fun _=>0) k;have e':=zwN (shN N u) (fun _=>(⟨0,0⟩:Sh)) k;rw[e 0,e 1,e 2,e 3,e 4,e' 0,e' 1,e' 2,e' 3,e' 4]
  show zty _ _ _ (d+1) _ _ _ _ _ _ _ _ _ _ _ _ _ _ _ _ _=_
  rw[zty,if_pos (by omega)]
  show(idx (l5 u) (k:Int)).bind _=_
  have hqf:zl6 .i64 (N * u k / S5 u):=fI (by unfold qN at hq; omega);have hrf:zl6 .i64 (N * u k % S5 u):=fI (by unfold rN at hr; omega);have hfit:MK.fit ({ pence:=N * u k / S5 u,remainder:=N * u k % S5 u }:Sh):=zxl hu hN hk;rw[zwJ hk,obs,zqr hN.1,zqr huk.1,zqr (fI (by omega)),zqr hm.1,zqr hU,zqr hqf,zqr hN.1,zqr huk.1,zqr (fI (by omega)),zqr hm.1,zqr hU,zqr hrf,zqr (by omega),zqr hfit]
  show zqQ (zqJ (hM (shN N u) k) (shN N u k)) _ _=_
  by_cases h0:cnt (shN N u) k (shN N u k)=0
  ·rw[zqR (by rw[zw7,if_pos h0]),zqr (fI (by omega)),zqr hfit];rw[h0] at hset;rw[show zqK (hM (shN N u) k) ({ pence:=N * u k / S5 u,remainder:=N * u k % S5 u }:Sh) 1=some (hM (shN N u) (k+1)) from hset,obs,zqr (by omega),zqr (fI (by omega))];exact fin _ rfl
  ·rw[zqS (show zqJ (hM (shN N u) k) (shN N u k)=some (cnt (shN N u) k (shN N u k)) by rw[zw7,if_neg h0]),zqr (fI (by omega)),zqr hfit];rw[show zqK (hM (shN N u) k) ({ pence:=N * u k / S5 u,remainder:=N * u k % S5 u }:Sh) (cnt (shN N u) k (shN N u k)+1)=some (hM (shN N u) (k+1)) from hset,obs,zqr (by omega),zqr (fI (by omega))];exact fin _ rfl
 ·show zty _ _ _ (d+1) _ _ _ _ _ _ _ _ _ _ _ _ _ _ _ _ _=_
  rw[zty,if_neg (by omega)]
  show(ztq (mk5 (qN N u))).bind _=_
  rw[zwQ hbq,obs,zqr (fI (by omega))];exact second
end
end
end Go.Proofs.Ytkclhciahokifaa

namespace Go.Proofs.Ytkclhciahokifaa
open _root_.Go.Proofs.Try
open Go.Abs
set_option maxRecDepth 100000
noncomputable section
def bfc(r:Nat->Int)(k i:Nat):Int:=if r i < r k then 1 else if r k=r i/\k < i then 1 else 0
theorem zxn(f:Nat->Int){i:Nat}(hi:i<=5):part f i=S5 fun k=>if k < i then f k else 0:=by
 match i,hi with
 | 0,_=>show(0:Int)=0+0+0+0+0; omega
 | 1,_=>show 0+f 0=f 0+0+0+0+0; omega
 | 2,_=>show 0+f 0+f 1=f 0+f 1+0+0+0; omega
 | 3,_=>show 0+f 0+f 1+f 2=f 0+f 1+f 2+0+0; omega
 | 4,_=>show 0+f 0+f 1+f 2+f 3=f 0+f 1+f 2+f 3+0; omega
 | 5,_=>show 0+f 0+f 1+f 2+f 3+f 4=f 0+f 1+f 2+f 3+f 4; omega
theorem zxo(r:Nat->Int){i:Nat}(hi:i < 5):zxa r i=S5 fun k=>bfc r k i:=by
 unfold zxa gtN eqN;rw[zxn _ (by omega),<- zw0];refine zw2 fun k _=>?_;unfold bfc
 by_cases h1:r i < r k
 ·rw[if_pos h1,if_pos h1,if_neg (show ¬ r k=r i by omega)]
  by_cases h2:k < i
  ·rw[if_pos h2]; rfl
  ·rw[if_neg h2]; rfl
 ·rw[if_neg h1,if_neg h1]
  by_cases h2:k < i
  ·rw[if_pos h2]
   by_cases h3:r k=r i
   ·rw[if_pos h3,if_pos ⟨h3,h2⟩]; rfl
   ·rw[if_neg h3,if_neg fun h=>h3 h.1]; rfl
  ·rw[if_neg h2,if_neg fun h=>h2 h.2]; rfl
theorem zxp{f g:Nat->Int}(h:∀i,i < 5->f i<=g i):S5 f<=S5 g:=by
 have:=h 0 (by omega); have:=h 1 (by omega); have:=h 2 (by omega); have:=h 3 (by omega); have:=h 4 (by omega);unfold S5; omega
theorem zxq{f g:Nat->Int}(h:∀i,i < 5->f i<=g i){k:Nat}(hk:k < 5)(hlt:f k < g k):S5 f < S5 g:=by
 have:=h 0 (by omega); have:=h 1 (by omega); have:=h 2 (by omega); have:=h 3 (by omega); have:=h 4 (by omega);unfold S5
 match k,hk with
 | 0,_=>omega
 | 1,_=>omega
 | 2,_=>omega
 | 3,_=>omega
 | 4,_=>omega
theorem zxr(r:Nat->Int)(k i:Nat):0<=bfc r k i/\bfc r k i<=1:=by unfold bfc; split <;> (try split) <;> omega
theorem zxs{r:Nat->Int}{k i:Nat}:bfc r k i=1↔r i < r k\/(r k=r i/\k < i):=by
 unfold bfc
 by_cases h1:r i < r k
 ·rw[if_pos h1]; exact⟨fun _=>.inl h1,fun _=>rfl⟩
 ·rw[if_neg h1]
  by_cases h2:r k=r i/\k < i
  ·rw[if_pos h2]; exact⟨fun _=>.inr h2,fun _=>rfl⟩
  ·rw[if_neg h2]; exact⟨fun h=>by omega,fun h=>h.elim (fun h=>absurd h h1) fun h=>absurd h h2⟩
theorem zj9{r:Nat->Int}{k i:Nat}(hk:k < 5)(hi:i < 5)(h:r i < r k\/(r k=r i/\k < i)):zxa r k < zxa r i:=by
 rw[zxo r hk,zxo r hi];refine zxq (fun j _=>?_) hk ?_
 ·have h1:=zxr r j k; have h2:=zxr r j i
  by_cases hj:bfc r j k=1
  ·have:=zxs.1 hj;have:bfc r j i=1:=zxs.2 (by omega)
   omega
  ·omega
 ·have h1:bfc r k i=1:=zxs.2 h
  have h2:¬ bfc r k k=1:=fun h=>by have:=zxs.1 h; omega
  have h3:=zxr r k k
  omega
theorem zxt{r:Nat->Int}{k i:Nat}(hk:k < 5)(hi:i < 5)(h:k ≠ i):zxa r k ≠ zxa r i:=by
 by_cases h1:r i < r k\/(r k=r i/\k < i)
 ·have:=zj9 hk hi h1; omega
 ·have:=zj9 hi hk (r:=r) (by omega); omega
theorem zxu(r:Nat->Int){i:Nat}(hi:i < 5):0<=zxa r i/\zxa r i<=4:=by
 have h0:=zxr r 0 i; have h1:=zxr r 1 i; have h2:=zxr r 2 i; have h3:=zxr r 3 i; have h4:=zxr r 4 i
 have hii:bfc r i i=0:=by
  have:=zxr r i i
  have:¬ bfc r i i=1:=fun h=>by have:=zxs.1 h; omega
  omega
 rw[zxo r hi];unfold S5
 dsimp only
 match i,hi with
 | 0,_=>omega
 | 1,_=>omega
 | 2,_=>omega
 | 3,_=>omega
 | 4,_=>omega
theorem zxv:∀a b:Fin 5,a ≠ b->∀c:Fin 5,a ≠ c->b ≠ c->∀d:Fin 5,a ≠ d->b ≠ d->c ≠ d->∀e:Fin 5,a ≠ e->b ≠ e->c ≠ e->d ≠ e->∀L:Fin 6,
  (if a.val < L.val then 1 else 0)+(if b.val < L.val then 1 else 0)+(if c.val < L.val then 1 else 0)+(if d.val < L.val then 1 else 0)+(if e.val < L.val then 1 else 0)=L.val:=by decide +kernel
theorem zxw(r:Nat->Int){L:Int}(hL:0<=L/\L<=5):S5 (fun i=>if zxa r i < L then 1 else 0)=L:=by
 have b:∀i,i < 5->0<=zxa r i/\zxa r i<=4:=fun i hi=>zxu r hi;have b0:=b 0 (by omega); have b1:=b 1 (by omega); have b2:=b 2 (by omega); have b3:=b 3 (by omega); have b4:=b 4 (by omega)
 have ne:∀i j (hi:i < 5) (hj:j < 5),i ≠ j->(⟨(zxa r i).toNat,by have:=b i hi; omega⟩:Fin 5) ≠ ⟨(zxa r j).toNat,by have:=b j hj; omega⟩:=fun i j hi hj hij h=>by
  have h1:=Fin.mk.inj h;have:=zxt (r:=r) hi hj hij;have:=b i hi; have:=b j hj
  omega
 have key:=zxv ⟨(zxa r 0).toNat,by omega⟩ ⟨(zxa r 1).toNat,by omega⟩ (ne 0 1 (by omega) (by omega) (by omega)) ⟨(zxa r 2).toNat,by omega⟩ (ne 0 2 (by omega) (by omega) (by omega)) (ne 1 2 (by omega) (by omega) (by omega)) ⟨(zxa r 3).toNat,by omega⟩ (ne 0 3 (by omega) (by omega) (by omega)) (ne 1 3 (by omega) (by omega) (by omega)) (ne 2 3 (by omega) (by omega) (by omega)) ⟨(zxa r 4).toNat,by omega⟩ (ne 0 4 (by omega) (by omega) (by omega)) (ne 1 4 (by omega) (by omega) (by omega)) (ne 2 4 (by omega) (by omega) (by omega)) (ne 3 4 (by omega) (by omega) (by omega)) ⟨L.toNat,by omega⟩
 dsimp only at key
 have e:∀i,i < 5->(if zxa r i < L then (1:Int) else 0)=((if (zxa r i).toNat < L.toNat then 1 else 0:Nat):Int):=fun i hi=>by
  have:=b i hi
  by_cases h:zxa r i < L
  ·rw[if_pos h,if_pos (by omega)]; rfl
  ·rw[if_neg h,if_neg (by omega)]; rfl
 unfold S5
 dsimp only
 rw[e 0 (by omega),e 1 (by omega),e 2 (by omega),e 3 (by omega),e 4 (by omega)]
 omega
section
variable {N:Int} {u:Nat->Int}
theorem zxx(N:Int)(u:Nat->Int):S5 u * (N - S5 (qN N u))=S5 (rN N u):=by
 have h:∀k,rN N u k+S5 u * qN N u k=N * u k:=fun k=>Int.emod_add_mul_ediv (N * u k) (S5 u);have h0:=h 0; have h1:=h 1; have h2:=h 2; have h3:=h 3; have h4:=h 4
 have e1:S5 u * N=N * u 0+N * u 1+N * u 2+N * u 3+N * u 4:=by
  rw[Int.mul_comm]; unfold S5; rw[Int.mul_add,Int.mul_add,Int.mul_add,Int.mul_add]
 have e2:S5 u * S5 (qN N u)=S5 u * qN N u 0+S5 u * qN N u 1+S5 u * qN N u 2+S5 u * qN N u 3+S5 u * qN N u 4:=by
  generalize S5 u=U;unfold S5; rw[Int.mul_add,Int.mul_add,Int.mul_add,Int.mul_add]
 rw[Int.mul_sub,e1,e2]
 show _=rN N u 0+rN N u 1+rN N u 2+rN N u 3+rN N u 4
 omega
theorem zxy(hu:UOk u)(N:Int):0<=N - S5 (qN N u)/\N - S5 (qN N u)<=gtN (rN N u) 0/\N - S5 (qN N u)<=4:=by
 have hU:=hu.pos;have hl:=zxx N u;have hr:=fun k=>zxk (N:=N) hu k;have r0:=hr 0; have r1:=hr 1; have r2:=hr 2; have r3:=hr 3; have r4:=hr 4;refine⟨?_,?_,?_⟩
 ·apply Classical.byContradiction
  intro hn;have:S5 u * (N - S5 (qN N u)) < 0:=Int.mul_neg_of_pos_of_neg hU (by omega);rw[hl] at this;unfold S5 at this; omega
 ·have h2:S5 (rN N u)<=S5 u * gtN (rN N u) 0:=by
   have e:S5 u * gtN (rN N u) 0=S5 (fun k=>S5 u * if 0 < rN N u k then 1 else 0):=by
    unfold gtN;generalize S5 u=U
    show U * S5 (fun k=>if 0 < rN N u k then 1 else 0)=_
    unfold S5;rw[Int.mul_add,Int.mul_add,Int.mul_add,Int.mul_add]
   rw[e];refine zxp fun k _=>?_;have:=hr k
   by_cases h:0 < rN N u k
   ·rw[if_pos h]; omega
   ·rw[if_neg h]; omega
  rw[<- hl] at h2;exact Int.le_of_mul_le_mul_left h2 hU
 ·apply Classical.byContradiction
  intro hn;have h2:S5 u * 5<=S5 u * (N - S5 (qN N u)):=Int.mul_le_mul_of_nonneg_left (by omega) (by omega);rw[hl] at h2;have h3:S5 (rN N u)=rN N u 0+rN N u 1+rN N u 2+rN N u 3+rN N u 4:=rfl
  omega
theorem zxz(hu:UOk u){k:Nat}(h0:rN N u k=0):¬ zxa (rN N u) k < N - S5 (qN N u):=by
 have h1:=(zxy hu N).2.1;have h2:=zxc (rN N u) (rN N u k) k
 have h3:zxa (rN N u) k=gtN (rN N u) 0+eqN (rN N u) (rN N u k) k:=by unfold zxa; rw[h0]
 omega
theorem zxA(hu:UOk u)(N:Int):S5 (zxi N u)=N:=by
 have h:=zxy hu N;have e:S5 (zxi N u)=S5 (qN N u)+S5 (fun i=>if zxa (rN N u) i < N - S5 (qN N u) then 1 else 0):=zw0 _ _;rw[e,zxw _ (by omega)]; omega
theorem zxB(N:Int)(u:Nat->Int)(k:Nat):qN N u k<=zxi N u k/\zxi N u k<=qN N u k+1:=by unfold zxi; split <;> omega
theorem zxC(hu:UOk u)(hN:0<=N){k:Nat}(hk:k < 5):0<=zxi N u k:=by have:=zxB N u k; have:=zxj hu hN hk; omega
theorem zxD(hu:UOk u)(hN:0<=N){k:Nat}(hk:k < 5):zxi N u k<=N:=by
 have hs:=zxA hu N;have h:∀i,i < 5->0<=zxi N u i:=fun i hi=>zxC hu hN hi;have:=h 0 (by omega); have:=h 1 (by omega); have:=h 2 (by omega); have:=h 3 (by omega); have:=h 4 (by omega);unfold S5 at hs
 match k,hk with
 | 0,_=>omega
 | 1,_=>omega
 | 2,_=>omega
 | 3,_=>omega
 | 4,_=>omega
theorem zxE(hu:UOk u){k:Nat}(h:u k=0):zxi N u k=0:=by
 have hq:qN N u k=0:=by unfold qN; rw[h,Int.mul_zero,Int.zero_ediv]
 have hr:rN N u k=0:=by unfold rN; rw[h,Int.mul_zero,Int.zero_emod]
 unfold zxi;rw[if_neg (zxz hu hr),hq]; rfl
end
end
end Go.Proofs.Ytkclhciahokifaa

namespace Go.Proofs.Ytkclhciahokifaa
open _root_.Go.Proofs.Try
open Go.Abs
set_option maxRecDepth 100000
noncomputable section
structure zxF (a:Mb):Prop where
 sum:1<=a.Sum/\a.Sum<=1000
 cls:1<=a.Class/\a.Class<=10
 most:0<=a.Most/\a.Most<=100000
def zxG(ms:List Mb):Prop:=ms.length<=5/\∀a∈ms,zxF a
def unN(a:Mb):Int:=a.Sum * a.Class
theorem zxH{a:Mb}(h:zxF a):1<=unN a/\unN a<=10000:=by
 have h1:=zxh (a:=a.Sum) (x:=a.Class) (A:=1000) (X:=10) ⟨by have:=h.sum; omega,h.sum.2⟩ ⟨by have:=h.cls; omega,h.cls.2⟩;have h2:a.Sum * 1<=a.Sum * a.Class:=Int.mul_le_mul_of_nonneg_left h.cls.1 (by have:=h.sum; omega);have:=h.sum;unfold unN; omega
def uF(ms:List Mb)(sh:Nat->Bool):Nat->Int:=zwT ms sh unN
def mF(ms:List Mb)(sh:Nat->Bool):Nat->Int:=zwT ms sh (·.Most)
def zxI(sh:Nat->Bool):Bool:=(sh 0 == false) && ((sh 1 == false) && ((sh 2 == false) && ((sh 3 == false) && (sh 4 == false))))
def zxJ(a b:Nat->Bool):Bool:=(a 0 == b 0) && ((a 1 == b 1) && ((a 2 == b 2) && ((a 3 == b 3) && (a 4 == b 4))))
def zxK(ms:List Mb)(sh:Nat->Bool):Prop:=∀i,sh i=true->i < ms.length
def roundsN(ms:List Mb):Nat->(Nat->Bool)->Int->(Nat->Int)->(Nat->Int) × Int
 | 0,_,N,c=>(c,N)
 | d+1,sh,N,c=>if zxI sh=true then (c,N) else
   if zxJ (zwV ms sh (zxi N (uF ms sh))) sh=true then (fun i=>c i+zxi N (uF ms sh) i,0) else
    roundsN ms d (zwV ms sh (zxi N (uF ms sh))) (N - S5 (mF ms fun i=>sh i && !zwV ms sh (zxi N (uF ms sh)) i)) (fun i=>c i+mF ms (fun i=>sh i && !zwV ms sh (zxi N (uF ms sh)) i) i)
def cF(sh:Nat->Bool):Nat:=(sh 0).toNat+(sh 1).toNat+(sh 2).toNat+(sh 3).toNat+(sh 4).toNat
theorem zxL{sh:Nat->Bool}:zxI sh=true↔∀i,i < 5->sh i=false:=by
 unfold zxI
 simp only[Bool.and_eq_true,beq_iff_eq]
 constructor
 ·rintro⟨h0,h1,h2,h3,h4⟩ i hi
  match i,hi with
  | 0,_=>exact h0
  | 1,_=>exact h1
  | 2,_=>exact h2
  | 3,_=>exact h3
  | 4,_=>exact h4
 ·intro h; exact⟨h 0 (by omega),h 1 (by omega),h 2 (by omega),h 3 (by omega),h 4 (by omega)⟩
theorem zxM{a b:Nat->Bool}:zxJ a b=true↔∀i,i < 5->a i=b i:=by
 unfold zxJ
 simp only[Bool.and_eq_true,beq_iff_eq]
 constructor
 ·rintro⟨h0,h1,h2,h3,h4⟩ i hi
  match i,hi with
  | 0,_=>exact h0
  | 1,_=>exact h1
  | 2,_=>exact h2
  | 3,_=>exact h3
  | 4,_=>exact h4
 ·intro h; exact⟨h 0 (by omega),h 1 (by omega),h 2 (by omega),h 3 (by omega),h 4 (by omega)⟩
theorem zxN{ms:List Mb}{sh:Nat->Bool}{p:Nat->Int}{i:Nat}(h:zwV ms sh p i=true):sh i=true:=by
 unfold zwV at h
 cases hm:ms[i]? with
 | none=>rw[hm] at h; exact h
 | some a=>rw[hm] at h; exact(Bool.and_eq_true _ _ ▸ h).1
theorem zxO{ms:List Mb}{sh:Nat->Bool}{p:Nat->Int}{i:Nat}{a:Mb}(hm:ms[i]? = some a):zwV ms sh p i=(sh i && decide (p i<=a.Most)):=by unfold zwV; rw[hm]
theorem zxP{ms:List Mb}{sh:Nat->Bool}{p:Nat->Int}(h:¬ zxJ (zwV ms sh p) sh=true):cF (zwV ms sh p) < cF sh:=by
 have hle:∀i,(zwV ms sh p i).toNat<=(sh i).toNat:=fun i=>by
  cases ha:zwV ms sh p i with
  | false=>exact Nat.zero_le _
  | true=>rw[zxN ha]; exact Nat.le_refl _
 have hne:∃i,i < 5/\(zwV ms sh p i).toNat ≠ (sh i).toNat:=by
  apply Classical.byContradiction
  intro hn;refine h (zxM.2 fun i hi=>?_)
  apply Classical.byContradiction
  intro h2;refine hn ⟨i,hi,fun h3=>h2 ?_⟩
  revert h3; cases zwV ms sh p i <;> cases sh i <;> decide
 obtain⟨i,hi,h2⟩:=hne;have l0:=hle 0; have l1:=hle 1; have l2:=hle 2; have l3:=hle 3; have l4:=hle 4;unfold cF
 match i,hi with
 | 0,_=>omega
 | 1,_=>omega
 | 2,_=>omega
 | 3,_=>omega
 | 4,_=>omega
theorem zxQ{ms:List Mb}{sh:Nat->Bool}{num:Mb->Int}{i:Nat}(h:sh i=false):zwT ms sh num i=0:=by
 unfold zwT
 cases ms[i]? with
 | none=>rfl
 | some a=>show(if sh i=true then num a else 0)=0; rw[h]; rfl
theorem zxR{ms:List Mb}{sh:Nat->Bool}{num:Mb->Int}{i:Nat}{a:Mb}(hm:ms[i]? = some a)(h:sh i=true):zwT ms sh num i=num a:=by
 unfold zwT; rw[hm]; show(if sh i=true then num a else 0)=_; rw[h,if_pos rfl]
theorem zxS{ms:List Mb}(hms:zxG ms)(sh:Nat->Bool)(i:Nat):0<=uF ms sh i/\uF ms sh i<=10000:=by
 unfold uF
 cases hs:sh i with
 | false=>rw[zxQ hs]; omega
 | true=>
  cases hm:ms[i]? with
  | none=>unfold zwT; rw[hm]; show(0:Int)<=0/\(0:Int)<=_; omega
  | some a=>rw[zxR hm hs]; have:=zxH (hms.2 a (List.mem_of_getElem? hm)); omega
theorem zxT{ms:List Mb}(hms:zxG ms){sh:Nat->Bool}(hs:zxK ms sh)(hn:¬ zxI sh=true):UOk (uF ms sh):=by
 have hb:=zxS hms sh;refine⟨fun i _=>by have:=hb i; omega,?_⟩
 obtain⟨i,hi,hsi⟩:∃i,i < 5/\sh i=true:=by
  apply Classical.byContradiction
  intro h;refine hn (zxL.2 fun i hi=>?_)
  cases hq:sh i with
  | false=>rfl
  | true=>exact absurd ⟨i,hi,hq⟩ h
 have hl:=hs i hsi
 have h1:1<=uF ms sh i:=by unfold uF; rw[zxR (List.getElem?_eq_getElem hl) hsi]; exact(zxH (hms.2 _ (List.getElem_mem hl))).1
 have b0:=hb 0; have b1:=hb 1; have b2:=hb 2; have b3:=hb 3; have b4:=hb 4;unfold S5
 match i,hi with
 | 0,_=>omega
 | 1,_=>omega
 | 2,_=>omega
 | 3,_=>omega
 | 4,_=>omega
structure RI (ms:List Mb) (sh:Nat->Bool) (N:Int) (c:Nat->Int):Prop where
 sup:zxK ms sh
 nn:0<=N/\N<=1000000
 cb:∀i,i < 5->0<=c i/\c i<=1000000
 c0:∀i,sh i=true->c i=0
section
variable {ms:List Mb} {sh:Nat->Bool} {N:Int} {c:Nat->Int}
theorem zxU(p:Nat->Int){i:Nat}:(sh i && !zwV ms sh p i)=true↔sh i=true/\∃a,ms[i]? = some a/\a.Most < p i:=by
 cases hm:ms[i]? with
 | none=>unfold zwV; rw[hm]; cases sh i <;> simp
 | some a=>
  rw[zxO hm]
  cases sh i with
  | false=>simp
  | true=>simp
theorem zxV(hms:zxG ms)(hs:zxK ms sh)(hn:¬ zxI sh=true)(hN:0<=N){i:Nat}(hi:i < 5) :
  0<=mF ms (fun i=>sh i && !zwV ms sh (zxi N (uF ms sh)) i) i/\mF ms (fun i=>sh i && !zwV ms sh (zxi N (uF ms sh)) i) i<=qN N (uF ms sh) i:=by
 have hu:=zxT hms hs hn;have hq:=zxj hu hN hi;unfold mF
 cases ho:(sh i && !zwV ms sh (zxi N (uF ms sh)) i) with
 | false=>rw[zxQ (by exact ho)]; omega
 | true=>
  obtain⟨h1,a,h2,h3⟩:=(zxU _).1 ho;have hb:=(hms.2 a (List.mem_of_getElem? h2)).most;have hp:=zxB N (uF ms sh) i;rw[zxR h2 (by exact ho)]; omega
theorem RI.next(hms:zxG ms)(h:RI ms sh N c)(hn:¬ zxI sh=true):RI ms (zwV ms sh (zxi N (uF ms sh))) (N - S5 (mF ms fun i=>sh i && !zwV ms sh (zxi N (uF ms sh)) i)) (fun i=>c i+mF ms (fun i=>sh i && !zwV ms sh (zxi N (uF ms sh)) i) i):=by
 have hu:=zxT hms h.sup hn;have hm:=fun i (hi:i < 5)=>zxV hms h.sup hn h.nn.1 hi
 have hs:S5 (mF ms fun i=>sh i && !zwV ms sh (zxi N (uF ms sh)) i)<=S5 (zxi N (uF ms sh)):=zxp fun i hi=>by have:=hm i hi; have:=zxB N (uF ms sh) i; omega
 rw[zxA hu] at hs
 have hs0:0<=S5 (mF ms fun i=>sh i && !zwV ms sh (zxi N (uF ms sh)) i):=by
  have:=hm 0 (by omega); have:=hm 1 (by omega); have:=hm 2 (by omega); have:=hm 3 (by omega); have:=hm 4 (by omega);unfold S5; omega
 have hnn:=h.nn;refine⟨fun i hi=>h.sup i (zxN hi),by omega,fun i hi=>?_,fun i hi=>?_⟩
 ·have h1:=hm i hi;have h2:=h.cb i hi
  have h3:mF ms (fun i=>sh i && !zwV ms sh (zxi N (uF ms sh)) i) i<=N:=by have:=zxj hu h.nn.1 hi; omega
  show 0<=c i+_/\c i+_<=_
  cases ho:(sh i && !zwV ms sh (zxi N (uF ms sh)) i) with
  | false=>
   have e:mF ms (fun i=>sh i && !zwV ms sh (zxi N (uF ms sh)) i) i=0:=zxQ (by exact ho);rw[e]; omega
  | true=>
   have hc:=h.c0 i ((zxU _).1 ho).1;rw[hc]; omega
 ·have h1:=zxN hi
  show c i+_=0
  have e:mF ms (fun i=>sh i && !zwV ms sh (zxi N (uF ms sh)) i) i=0:=zxQ (by show(sh i && !zwV ms sh _ i)=false; rw[hi]; simp);rw[h.c0 i h1,e]; rfl
theorem zxW{w:Wk}(hms:zxG w.s.Members):ztH w (mkF sh)=some (mk5 (uF w.s.Members sh)):=by
 unfold ztH;rw[zwU (num:=unN) (fun a ha=>?_) hms.1,obs]; rfl;have h:=hms.2 a ha;have:=h.sum; have:=h.cls;have hb:=zxH h;unfold unN at hb
 show ztD a=some (unN a)
 unfold ztD unN;rw[zqr (by omega),zqr (by omega),zqr (fI (by omega))]
theorem zxX{w:Wk}(hms:zxG w.s.Members):ztI w (mkF sh)=some (mk5 (mF w.s.Members sh)):=by
 unfold ztI;rw[zwU (number:=fun a=>ztE a) (num:=(·.Most)) (fun a _=>rfl) hms.1,obs]; rfl
theorem zxY{w:Wk}(hms:zxG w.s.Members)(need0:Int){need:Int}:∀(n D:Nat) (sh:Nat->Bool) (N:Int) (c:Nat->Int),RI w.s.Members sh N c->N+S5 c=need->need<=1000000->cF sh < n->cF sh < D ->
  ztL w need0 D need (c 0) (c 1) (c 2) (c 3) (c 4) (sh 0) (sh 1) (sh 2) (sh 3) (sh 4)=some { need:=need,calls:=mk5 (roundsN w.s.Members n sh N c).1 }
 | 0,_,_,_,_,_,_,_,h,_=>by omega
 | _+1,0,_,_,_,_,_,_,_,h=>by omega
 | n+1,D+1,sh,N,c,hr,hs,hneed,hn,hD=>by
  rw[ztL,roundsN]
  show(if zxI sh=true then _ else _)=_
  by_cases h0:zxI sh=true
  ·rw[if_pos h0,if_pos h0]; rfl
  ·rw[if_neg h0,if_neg h0];have hu:=zxT hms hr.sup h0
   have hbc:Bd 1000000000000 c:=fun i hi=>by have:=hr.cb i hi; omega
   have hcb:=hr.cb;have hc0:=hcb 0 (by omega); have hc1:=hcb 1 (by omega); have hc2:=hcb 2 (by omega); have hc3:=hcb 3 (by omega); have hc4:=hcb 4 (by omega)
   have hsc:0<=S5 c/\S5 c<=5000000:=by unfold S5; omega
   have hNN:0<=N/\N<=1000000:=hr.nn
   have e1:ztB ({ need:=need,calls:=mk5 c }:Oc)=some N:=by
    unfold ztB
    show(ztq (mk5 c)).bind _=_
    rw[zwQ hbc,obs,zqr (fI (by show -9223372036854775808<=need - S5 c/\need - S5 c < _; omega))];exact congrArg some (show need - S5 c=N by omega)
   show(ztB ({ need:=need,calls:=mk5 c }:Oc)).bind _=_
   rw[e1,obs]
   show(ztH w (mkF sh)).bind _=_
   rw[zxW hms,obs,zxm hu hNN,obs]
   show(ztK w (mkF sh) (mk5 (zxi N (uF w.s.Members sh)))).bind _=_
   rw[zwW hms.1,obs]
   have hbp:Bd 1000000000000 (zxi N (uF w.s.Members sh)):=fun i hi=>by have:=zxC hu hNN.1 hi; have:=zxD hu hNN.1 hi; omega
   show(if zxJ (zwV w.s.Members sh (zxi N (uF w.s.Members sh))) sh=true then _ else _)=_
   by_cases h1:zxJ (zwV w.s.Members sh (zxi N (uF w.s.Members sh))) sh=true
   ·rw[if_pos h1,if_pos h1]
    have e2:ztC ({ need:=need,calls:=mk5 c }:Oc) (mk5 (zxi N (uF w.s.Members sh)))=some { need:=need,calls:=mk5 fun i=>c i+zxi N (uF w.s.Members sh) i }:=by
     unfold ztC
     show(zts (mk5 c) _).bind _=_
     rw[zwR hbc hbp,obs]
    show(ztC ({ need:=need,calls:=mk5 c }:Oc) _).bind _=_
    rw[e2,obs]
   ·rw[if_neg h1,if_neg h1]
    show(ztu (mkF sh) (mkF (zwV w.s.Members sh (zxi N (uF w.s.Members sh))))).bind _=_
    rw[zwS,obs,zxX hms,obs];have hnext:=hr.next hms h0;have hm:=fun i (hi:i < 5)=>zxV hms hr.sup h0 hNN.1 hi
    have hbm:Bd 1000000000000 (mF w.s.Members fun i=>sh i && !zwV w.s.Members sh (zxi N (uF w.s.Members sh)) i):=fun i hi=>by have:=hm i hi; have:=zxj hu hNN.1 hi; omega
    have e2:ztC ({ need:=need,calls:=mk5 c }:Oc) (mk5 (mF w.s.Members fun i=>sh i && !zwV w.s.Members sh (zxi N (uF w.s.Members sh)) i))=some { need:=need,calls:=mk5 fun i=>c i+mF w.s.Members (fun i=>sh i && !zwV w.s.Members sh (zxi N (uF w.s.Members sh)) i) i }:=by
     unfold ztC
     show(zts (mk5 c) _).bind _=_
     rw[zwR hbc hbm,obs]
    show(ztC ({ need:=need,calls:=mk5 c }:Oc) _).bind _=_
    rw[e2,obs];have hless:=zxP h1;have e3:S5 (fun i=>c i+mF w.s.Members (fun i=>sh i && !zwV w.s.Members sh (zxi N (uF w.s.Members sh)) i) i)=S5 c+S5 (mF w.s.Members fun i=>sh i && !zwV w.s.Members sh (zxi N (uF w.s.Members sh)) i):=zw0 _ _
    have e4:N - S5 (mF w.s.Members fun i=>sh i && !zwV w.s.Members sh (zxi N (uF w.s.Members sh)) i)+S5 (fun i=>c i+mF w.s.Members (fun i=>sh i && !zwV w.s.Members sh (zxi N (uF w.s.Members sh)) i) i)=need:=by rw[e3]; omega
    exact zxY hms need0 n D _ _ _ hnext e4 hneed (by omega) (by omega)
end
def zxZ(ms:List Mb)(ask:Nat->Bool)(need:Int):(Nat->Int) × Int:=roundsN ms 6 ask need fun _=>0
theorem zx0(sh:Nat->Bool):cF sh<=5:=by
 have h:∀b:Bool,b.toNat<=1:=fun b=>by cases b <;> decide
 have:=h (sh 0); have:=h (sh 1); have:=h (sh 2); have:=h (sh 3); have:=h (sh 4);unfold cF; omega
theorem zx1{w:Wk}(hms:zxG w.s.Members){ask:Nat->Bool}(ha:w.asked=mkF ask)(hsup:zxK w.s.Members ask){need:Int}(hn:0<=need/\need<=1000000):ztM w need=some { need:=need,calls:=mk5 (zxZ w.s.Members ask need).1 }:=by
 unfold ztM;rw[ha];have hc:=zx0 ask;exact zxY hms need 6 1000000 ask need (fun _=>0) ⟨hsup,hn,fun _ _=>by omega,fun _ _=>rfl⟩ (by rw[zw1]; omega) hn.2 (by omega) (by omega)
end
end Go.Proofs.Ytkclhciahokifaa

namespace Go.Proofs.Ytkclhciahokifaa
open _root_.Go.Proofs.Try
open Go.Abs
set_option maxRecDepth 100000
noncomputable section
section
variable {ms:List Mb}
theorem zx2(hms:zxG ms):∀(n:Nat) (sh:Nat->Bool) (N:Int) (c:Nat->Int),RI ms sh N c->cF sh < n->S5 (roundsN ms n sh N c).1+(roundsN ms n sh N c).2=N+S5 c/\0<=(roundsN ms n sh N c).2
 | 0,_,_,_,_,h=>by omega
 | n+1,sh,N,c,hr,h=>by
  unfold roundsN
  by_cases h0:zxI sh=true
  ·rw[if_pos h0]; have:=hr.nn; exact⟨by show S5 c+N=_; omega,hr.nn.1⟩
  ·rw[if_neg h0];have hu:=zxT hms hr.sup h0
   by_cases h1:zxJ (zwV ms sh (zxi N (uF ms sh))) sh=true
   ·rw[if_pos h1];have e:S5 (fun i=>c i+zxi N (uF ms sh) i)=S5 c+S5 (zxi N (uF ms sh)):=zw0 _ _;have hp:=zxA hu N;exact⟨by show S5 (fun i=>c i+zxi N (uF ms sh) i)+0=_; omega,Int.le_refl _⟩
   ·rw[if_neg h1];have hless:=zxP h1;have ih:=zx2 hms n _ _ _ (hr.next hms h0) (by omega);have e:S5 (fun i=>c i+mF ms (fun i=>sh i && !zwV ms sh (zxi N (uF ms sh)) i) i)=S5 c+S5 (mF ms fun i=>sh i && !zwV ms sh (zxi N (uF ms sh)) i):=zw0 _ _;rw[e] at ih;exact⟨by rw[ih.1]; omega,ih.2⟩
theorem zx3(hms:zxG ms):∀(n:Nat) (sh:Nat->Bool) (N:Int) (c:Nat->Int),RI ms sh N c->cF sh < n->∀i,i < 5->sh i=false->(roundsN ms n sh N c).1 i=c i
 | 0,_,_,_,_,h=>by omega
 | n+1,sh,N,c,hr,h=>fun i hi hs=>by
  unfold roundsN
  by_cases h0:zxI sh=true
  ·rw[if_pos h0]
  ·rw[if_neg h0];have hu:=zxT hms hr.sup h0
   by_cases h1:zxJ (zwV ms sh (zxi N (uF ms sh))) sh=true
   ·rw[if_pos h1]
    show c i+_=_
    rw[zxE hu (show uF ms sh i=0 from zxQ hs),Int.add_zero]
   ·rw[if_neg h1];have hless:=zxP h1
    have ha:zwV ms sh (zxi N (uF ms sh)) i=false:=by
     cases hq:zwV ms sh (zxi N (uF ms sh)) i with
     | false=>rfl
     | true=>rw[zxN hq] at hs; cases hs
    rw[zx3 hms n _ _ _ (hr.next hms h0) (by omega) i hi ha];have e:mF ms (fun i=>sh i && !zwV ms sh (zxi N (uF ms sh)) i) i=0:=zxQ (by show(sh i && _)=false; rw[hs]; rfl);rw[e,Int.add_zero]
theorem zx4(hms:zxG ms):∀(n:Nat) (sh:Nat->Bool) (N:Int) (c:Nat->Int),RI ms sh N c->cF sh < n->∀i a,i < 5->ms[i]? = some a->sh i=true->(0<=(roundsN ms n sh N c).1 i/\(roundsN ms n sh N c).1 i<=a.Most)/\(0 < (roundsN ms n sh N c).2->(roundsN ms n sh N c).1 i=a.Most)
 | 0,_,_,_,_,h=>by omega
 | n+1,sh,N,c,hr,h=>fun i a hi hm hs=>by
  unfold roundsN
  by_cases h0:zxI sh=true
  ·have:=zxL.1 h0 i hi; rw[hs] at this; cases this
  ·rw[if_neg h0];have hu:=zxT hms hr.sup h0;have hc:=hr.c0 i hs;have hp:=zxC hu hr.nn.1 hi
   by_cases h1:zxJ (zwV ms sh (zxi N (uF ms sh))) sh=true
   ·rw[if_pos h1];have h2:=zxM.1 h1 i hi;rw[zxO hm,hs,Bool.true_and] at h2;have h3:zxi N (uF ms sh) i<=a.Most:=of_decide_eq_true h2;exact⟨by show 0<=c i+_/\c i+_<=_; omega,fun h=>absurd h (Int.lt_irrefl _)⟩
   ·rw[if_neg h1];have hless:=zxP h1
    cases hq:zwV ms sh (zxi N (uF ms sh)) i with
    | true=>exact zx4 hms n _ _ _ (hr.next hms h0) (by omega) i a hi hm hq
    | false=>
     rw[zx3 hms n _ _ _ (hr.next hms h0) (by omega) i hi hq];have e:mF ms (fun i=>sh i && !zwV ms sh (zxi N (uF ms sh)) i) i=a.Most:=zxR hm (by show(sh i && !zwV ms sh _ i)=true; rw[hs,hq]; rfl);have hb:=(hms.2 a (List.mem_of_getElem? hm)).most;rw[e,hc];exact⟨by omega,fun _=>by omega⟩
end
section
variable {ms:List Mb} {ask:Nat->Bool} {N:Int}
theorem RI0(hs:zxK ms ask)(hN:0<=N/\N<=1000000):RI ms ask N fun _=>0:=⟨hs,hN,fun _ _=>by omega,fun _ _=>rfl⟩
theorem zx5(hms:zxG ms)(hs:zxK ms ask)(hN:0<=N/\N<=1000000):S5 (zxZ ms ask N).1+(zxZ ms ask N).2=N/\0<=(zxZ ms ask N).2:=by
 have:=zx0 ask;have h:=zx2 hms 6 ask N (fun _=>0) (RI0 hs hN) (by omega);rw[zw1] at h;exact⟨by rw[Int.add_zero] at h; exact h.1,h.2⟩
theorem zx6(hms:zxG ms)(hs:zxK ms ask)(hN:0<=N/\N<=1000000){i:Nat}(hi:i < 5)(ha:ask i=false):(zxZ ms ask N).1 i=0:=by
 have:=zx0 ask;exact zx3 hms 6 ask N (fun _=>0) (RI0 hs hN) (by omega) i hi ha
theorem zx7(hms:zxG ms)(hs:zxK ms ask)(hN:0<=N/\N<=1000000){i:Nat}{a:Mb}(hi:i < 5)(hm:ms[i]? = some a)(ha:ask i=true):(0<=(zxZ ms ask N).1 i/\(zxZ ms ask N).1 i<=a.Most)/\(0 < (zxZ ms ask N).2->(zxZ ms ask N).1 i=a.Most):=by
 have:=zx0 ask;exact zx4 hms 6 ask N (fun _=>0) (RI0 hs hN) (by omega) i a hi hm ha
theorem zx8(hms:zxG ms)(hs:zxK ms ask)(hN:0<=N/\N<=1000000){i:Nat}(hi:i < 5):0<=(zxZ ms ask N).1 i/\(zxZ ms ask N).1 i<=100000:=by
 cases ha:ask i with
 | false=>rw[zx6 hms hs hN hi ha]; omega
 | true=>
  have hm:=List.getElem?_eq_getElem (hs i ha);have h:=zx7 hms hs hN hi hm ha;have hb:=(hms.2 _ (List.getElem_mem (hs i ha))).most
  omega
theorem zx9(hms:zxG ms)(hs:zxK ms ask)(hN:0<=N/\N<=1000000){i:Nat}(hi:i < 5):(zxZ ms ask N).1 i<=mF ms ask i/\(0 < (zxZ ms ask N).2->(zxZ ms ask N).1 i=mF ms ask i):=by
 cases ha:ask i with
 | false=>
  have e:mF ms ask i=0:=zxQ ha;rw[zx6 hms hs hN hi ha,e]; exact⟨Int.le_refl _,fun _=>rfl⟩
 | true=>
  have hm:=List.getElem?_eq_getElem (hs i ha);have e:mF ms ask i=(ms[i]'(hs i ha)).Most:=zxR hm ha;have h:=zx7 hms hs hN hi hm ha;rw[e]; exact⟨h.1.2,h.2⟩
theorem zya(hms:zxG ms)(hs:zxK ms ask)(hN:0<=N/\N<=1000000):(zxZ ms ask N).2=max 0 (N - S5 (mF ms ask)):=by
 have h1:=zx5 hms hs hN;have h2:S5 (zxZ ms ask N).1<=S5 (mF ms ask):=zxp fun i hi=>(zx9 hms hs hN hi).1
 by_cases h:0 < (zxZ ms ask N).2
 ·have h3:S5 (zxZ ms ask N).1=S5 (mF ms ask):=zw2 fun i hi=>(zx9 hms hs hN hi).2 h
  omega
 ·omega
end
end
end Go.Proofs.Ytkclhciahokifaa

namespace Go.Proofs.Ytkclhciahokifaa
open _root_.Go.Proofs.Try
open Go.Abs
set_option maxRecDepth 100000
noncomputable section
def RgV(r:Rg):Prop:=0<=r.Lo/\r.Lo<=r.Hi/\r.Hi<=100000/\r.Hi - r.Lo<=30
instance (r:Rg):Decidable (RgV r):=by unfold RgV; infer_instance
structure zyb (s:Soc):Prop where
 pos:0 < s.Members.length
 ms:∀a∈s.Members,zxF a
 ls:∀r∈s.Losses,RgV r
 tr:RgV s.Treaty
 rs:0<=s.Reserve/\s.Reserve<=100000
structure zyc (s:Soc):Prop where
 m5:s.Members.length<=5
 l3:s.Losses.length<=3
 full:zyb s
theorem zyc.msOk{s:Soc}(h:zyc s):zxG s.Members:=⟨h.m5,h.full.ms⟩
open Classical in
def zyd(s:Soc):Int:=if 5 < s.Members.length\/3 < s.Losses.length then 3 else if zyb s then 0 else 1
theorem zye{s:Soc}:zyd s=0↔zyc s:=by
 unfold zyd
 by_cases h:5 < s.Members.length\/3 < s.Losses.length
 ·rw[if_pos h]; exact⟨fun h=>by omega,fun h2=>by have:=h2.m5; have:=h2.l3; omega⟩
 ·rw[if_neg h]
  by_cases hf:zyb s
  ·rw[if_pos hf]; exact⟨fun _=>⟨by omega,by omega,hf⟩,fun _=>rfl⟩
  ·rw[if_neg hf]; exact⟨fun h=>by omega,fun h=>absurd h.full hf⟩
theorem zyf{r:Rg}{n:Int}:Ev (zsK r n) (r.Lo<=n/\n<=r.Hi):=Ev.ite fun _=>Ev.dec Iff.rfl
theorem zyg{n:Int}:Ev (zsL n) (0<=n/\n<=100000):=zyf.ret
theorem zyh{r:Rg}:Ev (zsM r) (RgV r):=by
 refine(zyg.and fun h1=>zyg.and fun h2=>Ev.ite (K:=r.Hi - r.Lo<=30) fun _=>Ev.gd (fI (by omega)) (Ev.dec Iff.rfl)).imp ?_;unfold RgV; omega
theorem zyi{a:Mb}:Ev (zsN ({ su:=({ Lo:=(1:Int),Hi:=(1000:Int) }:Rg),cl:=({ Lo:=(1:Int),Hi:=(10:Int) }:Rg),mo:=({ Lo:=(0:Int),Hi:=(100000:Int) }:Rg) }:Lm) a) (zxF a):=
 (zyf.and fun _=>zyf.and fun _=>zyf.ret).imp ⟨fun⟨h1,h2,h3⟩=>⟨h1,h2,h3⟩,fun⟨h1,h2,h3⟩=>⟨h1,h2,h3⟩⟩
theorem gM{l:List Mb}{p:Mb->Option Bool}:∀{d:Nat} {x:Int},zsP l p d x=gIdx l p d x
 | 0,_=>rfl
 | d+1,x=>by unfold zsP gIdx; simp only[gM]
theorem gR{l:List Rg}{p:Rg->Option Bool}:∀{d:Nat} {x:Int},zsU l p d x=gIdx l p d x
 | 0,_=>rfl
 | d+1,x=>by unfold zsU gIdx; simp only[gR]
theorem gI{l:List Int}{p:Int->Option Bool}:∀{d:Nat} {x:Int},zsZ l p d x=gIdx l p d x
 | 0,_=>rfl
 | d+1,x=>by unfold zsZ gIdx; simp only[gI]
theorem zyj{s:Soc}(h1:zrP s.Members)(h2:zrP s.Losses):Ev (zs6 s) (zyb s):=by
 refine(Ev.ite fun _=>(Ev.each (q:=zxF) (fun a _=>zyi) h1.lt gM).and fun _=>(Ev.each (q:=RgV) (fun a _=>zyh) h2.lt gR).and fun _=>zyh.and fun _=>zyg.ret).imp ?_;exact⟨fun⟨a,b,c,d,e⟩=>⟨by omega,b,c,d,e⟩,fun⟨a,b,c,d,e⟩=>⟨by omega,b,c,d,e⟩⟩
theorem zyk{s:Soc}:Ev (zs5 s) (5 < s.Members.length\/3 < s.Losses.length):=by
 unfold zs5
 by_cases h:(5:Int) < s.Members.length
 ·rw[if_pos h]; exact Ev.tt (by omega)
 ·rw[if_neg h]; exact Ev.dec (by omega)
theorem zyl{s:Soc}(h1:zrP s.Members)(h2:zrP s.Losses):zs7 s=some (zyd s):=by
 unfold zs7 zyd;refine zyk.pick (fun h=>?_) fun h=>?_
 ·rw[if_pos rfl,if_pos h]
 ·rw[if_neg (by decide),if_neg h];refine(zyj h1 h2).pick (fun h=>?_) fun h=>?_
  ·rw[if_pos rfl,if_pos h]
  ·rw[if_neg (by decide),if_neg h]
theorem zym{n lo hi:Int}:Ev (zsd n lo hi) (lo<=n/\n<=hi):=Ev.ite fun _=>Ev.dec Iff.rfl
theorem zyn{r:Rg}:Ev (zse r) (RgV r):=Ev.ite fun h1=>Ev.ite fun h2=>Ev.ite fun h3=>Ev.gd (fI (by omega)) (Ev.dec Iff.rfl)
theorem zyo{s:Soc}(h1:s.Members.length<=8)(h2:s.Losses.length<=6):zsg s=some (zyd s):=by
 unfold zsg zyd
 by_cases c1:5 < s.Members.length
 ·rw[if_pos (by omega),if_pos (.inl c1)]
 rw[if_neg (by omega)]
 by_cases c2:3 < s.Losses.length
 ·rw[if_pos (by omega),if_pos (.inr c2)]
 rw[if_neg (show ¬ (3:Int) < s.Losses.length by omega),if_neg (show ¬ (5 < s.Members.length\/3 < s.Losses.length) by omega)]
 by_cases c3:s.Members.length=0
 ·rw[if_pos (by omega),if_neg fun h:zyb s=>by have:=h.pos; omega]
 rw[if_neg (show ¬ (s.Members.length:Int)=0 by omega)]
 refine zyn.pick (fun c4=>?_) fun c4=>by rw[if_neg (by decide),if_neg fun h=>c4 h.tr]
 rw[if_pos rfl]
 refine zym.pick (fun c5=>?_) fun c5=>by rw[if_neg (by decide),if_neg fun h=>c5 h.rs]
 rw[if_pos rfl]
 have kL:=zrO (l:=s.Losses) (F:=fun d x=>prFault_L1 s d x) (ok:=RgV) (bad:=some 1) (fin:=some 0) (fun d k a hk=>by
  have hkl:=(List.getElem?_eq_some_iff.1 hk).1
  show(RgV a->prFault_L1 s (d+1) (k:Int)=_)/\_
  rw[prFault_L1,if_pos (by omega),zrF hk,obs]
  exact Ev.step zyn (by rw[if_pos rfl,zqr (fI (by omega))]) (by rw[if_neg (by decide)])) (fun d=>by show prFault_L1 s (d+1) _=_; rw[prFault_L1,if_neg (Int.lt_irrefl _)]) (d:=1000000) (by omega)
 have kM:=zrO (l:=s.Members) (F:=fun d x=>zsf s d 0 x) (ok:=zxF) (bad:=some 1) (fin:=prFault_L1 s 1000000 0) (fun d k a hk=>by
  have hkl:=(List.getElem?_eq_some_iff.1 hk).1
  show(zxF a->zsf s (d+1) 0 (k:Int)=_)/\_
  rw[zsf,if_pos (by omega),zrF hk,obs];refine⟨fun h=>?_,fun h=>?_⟩
  ·rw[zym.some_of h.sum,obs,if_pos rfl,zym.some_of h.cls,obs,if_pos rfl,zym.some_of h.most,obs,if_pos rfl,zqr (fI (by omega))]
  ·refine zym.pick (fun q1=>?_) fun q1=>by rw[if_neg (by decide)]
   rw[if_pos rfl]
   refine zym.pick (fun q2=>?_) fun q2=>by rw[if_neg (by decide)]
   rw[if_pos rfl]
   refine zym.pick (fun q3=>absurd ⟨q1,q2,q3⟩ h) fun q3=>by rw[if_neg (by decide)]) (fun d=>by show zsf s (d+1) 0 _=_; rw[zsf,if_neg (Int.lt_irrefl _)]) (d:=1000000) (by omega)
 by_cases c6:∀a∈s.Members,zxF a
 ·refine(kM.1 c6).trans ?_
  by_cases c7:∀r∈s.Losses,RgV r
  ·refine(kL.1 c7).trans ?_;rw[if_pos ⟨by omega,c6,c7,c4,c5⟩]
  ·refine(kL.2 c7).trans ?_;rw[if_neg fun h=>c7 h.ls]
 ·refine(kM.2 c6).trans ?_;rw[if_neg fun h=>c6 h.ms]
theorem zyp{s:Soc}(h1:s.Members.length<=8)(h2:s.Losses.length<=6):zug s=some (zyd s):=by unfold zug; rw[zyo h1 h2]; rfl
def zyq(n:Nat)(out:List Int):Nat->Bool:=fun i=>decide (i < n) && !decide ((i:Int)∈out)
def zyr(s:Soc)(out:List Int):Wk:={ s:=s,asked:=mkF (zyq s.Members.length out) }
theorem zys(ms:List Mb)(out:List Int):zxK ms (zyq ms.length out):=fun i h=>by
 unfold zyq at h
 simp at h; exact h.1
theorem zyt{l:List Int}{v:Int}(hl:zrP l):∀d (k:Nat),k<=l.length->l.length - k < d->∃r,ztc l v d (k:Int)=some r/\(0<=r↔v∈l.drop k)
 | 0,k,_,h=>by omega
 | d+1,k,hk,h=>by
  unfold zrP at hl;unfold ztc
  by_cases hkn:k=l.length
  ·subst hkn; rw[if_neg (Int.lt_irrefl _)]; exact⟨_,rfl,by simp⟩
  ·have hlt:k < l.length:=by omega
   rw[if_pos (by omega),zrF (List.getElem?_eq_getElem hlt),obs];have hd:=List.drop_eq_getElem_cons hlt
   by_cases hv:v=l[k]
   ·rw[if_pos hv]; exact⟨_,rfl,⟨fun _=>by rw[hd,<- hv]; exact List.mem_cons_self ..,fun _=>by omega⟩⟩
   ·rw[if_neg hv,zqr (fI (by omega)),show(k:Int)+1=((k+1:Nat):Int) by omega];obtain⟨r,h1,h2⟩:=zyt hl d (k+1) (by omega) (by omega);exact⟨r,h1,h2.trans ⟨fun h=>by rw[hd]; exact List.mem_cons_of_mem _ h,fun h=>by rw[hd] at h; exact(List.mem_cons.1 h).resolve_left hv⟩⟩
theorem zyu{l:List Int}{v:Int}(hl:zrP l):zte l v=some (decide (v∈l)):=by
 unfold zte ztd;obtain⟨r,h1,h2⟩:=zyt (v:=v) hl (l.length+1) 0 (Nat.zero_le _) (by omega);have h1:ztc l v (l.length+1) 0=some r:=h1;rw[h1,obs];exact congrArg some (decide_eq_decide.2 (h2.trans (by rw[List.drop_zero])))
theorem zyv{s:Soc}{out:List Int}(hl:zrP out)(h5:s.Members.length<=5):ztg s out=some (zyr s out):=by
 unfold ztg;have key:=zwH (n:=s.Members.length) (fun d st x=>ztf s out d s.Treaty.Lo s.Treaty.Hi s.Reserve (st 0) (st 1) (st 2) (st 3) (st 4) x) (stF (zyq s.Members.length out) fun _=>false) (fin:=some (zyr s out)) (fun d k hk=>?_) (fun d=>?_) (s.Members.length+1) 0 (by omega) (by omega)
 ·rw[zwL] at key; exact key
 ·show ztf s out (d+1) _ _ _ _ _ _ _ _ _=_
  rw[ztf,if_pos (by omega),zyu hl,obs,zqr (by omega),zqr (fI (by omega))];have e:=zwN (zyq s.Members.length out) (fun _=>false) k
  have e0:(!decide ((k:Int)∈out))=zyq s.Members.length out k:=by unfold zyq; rw[decide_eq_true hk,Bool.true_and]
  rw[e0,e 0,e 1,e 2,e 3,e 4]
 ·show ztf s out (d+1) _ _ _ _ _ _ _ _ _=_
  rw[ztf,if_neg (by omega)]
  have e1:∀j,stF (zyq s.Members.length out) (fun _=>false) s.Members.length j=zyq s.Members.length out j:=fun j=>by
   unfold stF
   by_cases h:j < s.Members.length
   ·rw[if_pos h]
   ·rw[if_neg h]; unfold zyq; rw[decide_eq_false h]; rfl
  rw[e1 0,e1 1,e1 2,e1 3,e1 4]; rfl
def zyw(n:Nat)(l:List Int):Prop:=l.Pairwise (· < ·)/\∀v∈l,0<=v/\v<=(n:Int) - 1
theorem zyx{l:List Int}:(∀j,0 < j->j < l.length->∀a b,l[j - 1]? = some a->l[j]? = some b->a < b)↔l.Pairwise (· < ·):=by
 constructor
 ·intro h;rw[List.pairwise_iff_getElem];intro i j hi hj hij
  have key:∀d,(hd:i+d+1 < l.length)->l[i] < l[i+d+1]:=fun d=>by
   induction d with
   | zero=>intro hd; exact h (i+1) (by omega) hd _ _ (List.getElem?_eq_getElem hi) (List.getElem?_eq_getElem hd)
   | succ d ih=>
    intro hd;have h1:=ih (by omega);have h2:=h (i+(d+1)+1) (by omega) hd _ _ (List.getElem?_eq_getElem (show i+d+1 < l.length by omega)) (List.getElem?_eq_getElem hd);exact Int.lt_trans h1 h2
  have:=key (j - i - 1) (by omega)
  simpa [show i+(j - i - 1)+1=j by omega] using this
 ·intro h j h0 hj a b ha hb;obtain⟨h1,rfl⟩:=List.getElem?_eq_some_iff.1 ha;obtain⟨h2,rfl⟩:=List.getElem?_eq_some_iff.1 hb;exact List.pairwise_iff_getElem.1 h (j - 1) j h1 h2 (by omega)
theorem zyy{l:List Int}(hl:zrP l):Ev (zs4 l) (l.Pairwise (· < ·)):=by
 unfold zrP at hl;unfold zs4
 by_cases h0:l.length=0
 ·have:l=[]:=List.eq_nil_of_length_eq_zero h0;subst this
  show Ev (zs3 [] 1 1) _
  rw[zs3,if_neg (by decide)];exact Ev.tt .nil
 ·have e:∃n,l.length=n+1:=⟨l.length - 1,by omega⟩;obtain⟨n,hn⟩:=e
  have key:=zrJ (n:=n) (F:=fun d x=>zs3 l d (x+1)) (ok:=fun j=>∀a b,l[j]? = some a->l[j+1]? = some b->a < b) (bad:=some false) (fin:=some true) (fun d k hk=>by
   show(_->zs3 l (d+1) ((k:Int)+1)=_)/\_
   have ha:=List.getElem?_eq_getElem (show k < l.length by omega);have hb:=List.getElem?_eq_getElem (show k+1 < l.length by omega);rw[zs3,if_pos (by omega),zrG (show(k:Int)+1=((k+1:Nat):Int) by omega) (show k+1 < l.length by omega),obs,zqr (fI (by omega)),zrG (show(k:Int)+1 - 1=(k:Int) by omega) (show k < l.length by omega),obs];refine⟨fun h=>?_,fun h=>?_⟩
   ·have:=h _ _ ha hb;rw[if_neg (by omega),zqr (fI (by omega))]
   ·rw[if_pos]
    apply Classical.byContradiction
    intro h2
    exact h fun a b h3 h4=>by rw[ha] at h3; rw[hb] at h4; cases h3; cases h4; omega) (fun d=>by show zs3 l (d+1) _=_; rw[zs3,if_neg (by omega)]) (d:=((l.length:Int) - 1).toNat+1) (by omega)
  have e0:zs3 l (((l.length:Int) - 1).toNat+1) (0+1)=zs3 l (((l.length:Int) - 1).toNat+1) 1:=rfl
  have hiff:(∀j,j < n->∀a b,l[j]? = some a->l[j+1]? = some b->a < b)↔l.Pairwise (· < ·):=by
   rw[<- zyx]
   constructor
   ·intro h j h0 hj a b h1 h2;have:=h (j - 1) (by omega) a b h1;rw[show j - 1+1=j by omega] at this;exact this h2
   ·intro h j hj a b h1 h2;exact h (j+1) (by omega) (by omega) a b (by rw[Nat.add_sub_cancel]; exact h1) h2
  by_cases hq:∀j,j < n->∀a b,l[j]? = some a->l[j+1]? = some b->a < b
  ·have:=key.1 hq;exact⟨true,this,⟨fun _=>hiff.1 hq,fun _=>rfl⟩⟩
  ·have:=key.2 hq;exact⟨false,this,⟨fun h=>(by cases h),fun h=>absurd (hiff.2 h) hq⟩⟩
theorem zyz{s:Soc}{l:List Int}(hl:zrP l)(hm:zrP s.Members):Ev (ztb s l) (zyw s.Members.length l):=by
 unfold zrP at hm;refine((zyy hl).and fun _=>(Ev.each (q:=fun v=>0<=v/\v<=(s.Members.length:Int) - 1) (fun v _=>?_) hl.lt gI).ret).imp Iff.rfl;exact Ev.gd (fI (by omega)) zyf.ret
theorem zyA{s:Soc}{out:List Int}(hs:zyc s)(hl:zrP out)(ho:zyw s.Members.length out):zth s out=some (zyr s out,0):=by
 have h1:=hs.m5; have h2:=hs.l3;unfold zth;rw[zyl (by unfold zrP; omega) (by unfold zrP; omega),obs,if_pos (zye.2 hs),(zyz hl (by unfold zrP; omega)).some_of ho,obs,if_pos rfl,zyv hl h1,obs]
theorem zyB(n:Nat):zyw n []:=⟨.nil,fun _ h=>by cases h⟩
def zyC(lo hi:Int):List Int:=(List.range (hi - lo+1).toNat).map fun(k:Nat)=>lo+(k:Int)
theorem zyD{lo hi x:Int}:x∈zyC lo hi↔lo<=x/\x<=hi:=by
 unfold zyC;rw[List.mem_map]
 constructor
 ·rintro⟨k,h1,rfl⟩
  have:=List.mem_range.1 h1
  omega
 ·intro h; exact⟨(x - lo).toNat,List.mem_range.2 (by omega),by omega⟩
def zyE(g:Rg->Int)(l:List Rg):Int:=zwY (l.map g)
theorem zyF{l:List Rg}(h:∀r∈l,RgV r):0<=zyE (·.Lo) l/\zyE (·.Lo) l<=zyE (·.Hi) l/\zyE (·.Hi) l<=100000 * l.length/\zyE (·.Hi) l<=zyE (·.Lo) l+30 * l.length:=by
 induction l with
 | nil=>exact⟨Int.le_refl _,Int.le_refl _,Int.le_refl _,Int.le_refl _⟩
 | cons r l ih=>
  have ih:=ih fun r hr=>h r (List.mem_cons_of_mem _ hr);have hr:=h r (List.mem_cons_self ..);unfold RgV at hr;have e1:zyE (·.Lo) (r::l)=r.Lo+zyE (·.Lo) l:=rfl;have e2:zyE (·.Hi) (r::l)=r.Hi+zyE (·.Hi) l:=rfl;rw[e1,e2,List.length_cons]
  omega
def loN(s:Soc):Int:=max 0 (zyE (·.Lo) s.Losses - s.Reserve - s.Treaty.Hi)
def hiN(s:Soc):Int:=max 0 (zyE (·.Hi) s.Losses - s.Reserve - s.Treaty.Lo)
theorem zyG{s:Soc}(hs:zyc s):0<=loN s/\loN s<=hiN s/\hiN s<=300000/\hiN s<=loN s+120:=by
 have h:=zyF hs.full.ls;have h1:=hs.l3;have h2:=hs.full.tr;have h3:=hs.full.rs;unfold RgV at h2;unfold loN hiN
 omega
theorem zyH{g:Rg->Int}{l:List Rg}{k:Nat}{a:Rg}(h:l[k]? = some a):zyE g (l.take (k+1))=zyE g (l.take k)+g a:=by
 unfold zyE;rw[List.take_add_one,h,List.map_append,zwZ]
 show _+(g a+0)=_; omega
theorem zyI{s:Soc}{a b:Int}(h:0<=a/\a<=1000000)(hb:0<=b/\b<=1000000)(hr:0<=s.Reserve/\s.Reserve<=100000):zti s a b=some (max 0 (a - s.Reserve - b)):=by
 unfold zti;rw[zqr (fI (by omega)),zqr (fI (by omega))]
theorem zyJ{hi:Int}(hh:hi<=1000000):∀(d:Nat) (x:Int),0<=x->(hi - x+1).toNat < d->ztl hi d x=some (zyC x hi)
 | 0,_,_,h=>by omega
 | d+1,x,hx,h=>by
  rw[ztl]
  by_cases hc:x<=hi
  ·rw[if_pos hc,zqr (fI (by omega)),zyJ hh d (x+1) (by omega) (by omega),obs]
   have e:(hi - x+1).toNat=(hi - (x+1)+1).toNat+1:=by omega
   have e2:zyC x hi=x::zyC (x+1) hi:=by
    unfold zyC;rw[e,List.range_succ_eq_map,List.map_cons,List.map_map];refine congr (congrArg List.cons (by show x+((0:Nat):Int)=x; omega)) (List.map_congr_left fun k _=>?_)
    show x+((k+1:Nat):Int)=x+1+(k:Int)
    omega
   rw[e2]
  ·rw[if_neg hc]
   have e:(hi - x+1).toNat=0:=by omega
   unfold zyC; rw[e]; rfl
theorem zyK{s:Soc}(hs:zyc s):zto s=some (zyC (loN s) (hiN s)):=by
 have hb:=zyF hs.full.ls;have hn:=zyG hs;have h3:=hs.l3;have htr:=hs.full.tr;unfold RgV at htr;have hrs:=hs.full.rs
 have e:ztn s=some (zyC (loN s) (hiN s)):=by
  unfold ztn;refine zwH (n:=s.Losses.length) (fun d (st:Int × Int) x=>ztm s d st.1 st.2 x) (fun k=>(zyE (·.Lo) (s.Losses.take k),zyE (·.Hi) (s.Losses.take k))) (fun d k hk=>?_) (fun d=>?_) (s.Losses.length+1) 0 (by omega) (by omega)
  ·have hg:=List.getElem?_eq_getElem hk;have h1:=zyF (l:=s.Losses.take k) fun r hr=>hs.full.ls r (List.mem_of_mem_take hr);have h2:=hs.full.ls _ (List.getElem_mem hk)
   have h4:(s.Losses.take k).length<=3:=by rw[List.length_take]; omega
   unfold RgV at h2
   show ztm s (d+1) (zyE _ _) (zyE _ _) (k:Int)=ztm s d (zyE _ _) (zyE _ _) _
   rw[ztm,if_pos (by omega),zrF hg,obs,zqr (fI (by omega)),zqr (fI (by omega)),zqr (fI (by omega)),zyH hg,zyH hg]
  ·show ztm s (d+1) (zyE _ _) (zyE _ _) _=_
   rw[ztm,if_neg (Int.lt_irrefl _),List.take_length,zyI (by omega) (by omega) hrs,obs,zyI (by omega) (by omega) hrs,obs];exact zyJ (by unfold hiN at hn; omega) _ _ (by omega) (by omega)
 unfold zto;rw[e]; rfl
end
end Go.Proofs.Ytkclhciahokifaa

namespace Go.Proofs.Ytkclhciahokifaa
open _root_.Go.Proofs.Try
open Go.Abs
set_option maxRecDepth 100000
noncomputable section
def Inc(n fr:Nat)(T:List Int):Prop:=T.Pairwise (· < ·)/\∀v∈T,(fr:Int)<=v/\v < n
theorem Inc.cons{n fr:Nat}{x:Int}{T:List Int}:Inc n fr (x::T)↔((fr:Int)<=x/\x < n)/\Inc n (x+1).toNat T:=by
 unfold Inc;rw[List.pairwise_cons]
 constructor
 ·rintro⟨⟨h1,h2⟩,h3⟩
  have hx:=h3 x (List.mem_cons_self ..);exact⟨hx,h2,fun v hv=>by have:=h1 v hv; have:=h3 v (List.mem_cons_of_mem _ hv); omega⟩
 ·rintro⟨hx,h2,h3⟩
  refine⟨⟨fun v hv=>by have:=h3 v hv; omega,h2⟩,fun v hv=>?_⟩
  rcases List.mem_cons.1 hv with rfl | hv
  ·exact hx
  ·have:=h3 v hv; omega
theorem zyL{n:Nat}{D:List Int}:∀{d:Nat} {pre:List Int} {fr:Nat},D∈zru n d pre fr↔∃T,D=pre++T/\T.length=d/\Inc n fr T
 | 0,pre,fr=>by
  show D∈[pre]↔_
  rw[List.mem_singleton]
  constructor
  ·rintro rfl; exact⟨[],by simp,rfl,.nil,fun v hv=>by cases hv⟩
  ·rintro⟨T,h1,h2,_⟩
   rw[List.eq_nil_of_length_eq_zero h2,List.append_nil] at h1; exact h1
 | d+1,pre,fr=>by
  show D∈zrt (fun x=>zru n d (pre++[(x:Int)]) (x+1)) (n - fr) fr↔_
  rw[zuR]
  constructor
  ·rintro⟨x,h1,h2,h3⟩
   obtain⟨T,h4,h5,h6⟩:=zyL.1 h3;refine⟨(x:Int)::T,by rw[h4]; simp,by simp[h5],Inc.cons.2 ⟨by omega,?_⟩⟩;rw[show((x:Int)+1).toNat=x+1 by omega]; exact h6
  ·rintro⟨T,h1,h2,h3⟩
   cases T with
   | nil=>simp at h2
   | cons v T=>
    obtain⟨h4,h5⟩:=Inc.cons.1 h3;refine⟨v.toNat,by omega,by omega,zyL.2 ⟨T,?_,by simpa using h2,?_⟩⟩
    ·rw[show((v.toNat:Nat):Int)=v by omega,h1]; simp
    ·rw[show v.toNat+1=(v+1).toNat by omega]; exact h5
theorem zyM{n:Nat}:∀{T:List Int} {fr:Nat},Inc n fr T->T.length<=n - fr
 | [],_,_=>Nat.zero_le _
 | v::T,fr,h=>by
  obtain⟨h1,h2⟩:=Inc.cons.1 h;have:=zyM h2
  simp only[List.length_cons]
  omega
theorem zyN{n:Nat}{D:List Int}:D∈zoh n↔Inc n 0 D:=by
 unfold zoh;rw[zuR]
 constructor
 ·rintro⟨s,_,_,h⟩
  obtain⟨T,h1,_,h2⟩:=zyL.1 h;rw[h1]; exact h2
 ·intro h;have:=zyM h;exact⟨D.length,Nat.zero_le _,by omega,zyL.2 ⟨D,rfl,rfl,h⟩⟩
def inD(D:List Int)(j:Nat):Bool:=decide ((j:Int)∈D)
def zyO(b:Nat):Nat->List Int
 | 0=>[]
 | p+1=>zyO b p++(if b.testBit p then [(p:Int)] else [])
def zyP(b:Nat):List Int:=zyO b 16
theorem zyQ{b:Nat}{v:Int}:∀{p:Nat},v∈zyO b p↔0<=v/\v < p/\b.testBit v.toNat=true
 | 0=>⟨fun h=>(by cases h),fun h=>by omega⟩
 | p+1=>by
  show v∈zyO b p++_↔_
  rw[List.mem_append,zyQ]
  constructor
  ·rintro (h | h)
   ·exact⟨h.1,by omega,h.2.2⟩
   ·by_cases hb:b.testBit p=true
    ·rw[if_pos hb,List.mem_singleton] at h;subst h; exact⟨by omega,by omega,hb⟩
    ·rw[if_neg hb] at h; cases h
  ·rintro⟨h1,h2,h3⟩
   by_cases hv:v=(p:Int)
   ·subst hv;have h4:b.testBit p=true:=h3;rw[if_pos h4]; exact .inr (List.mem_singleton.2 rfl)
   ·exact .inl ⟨h1,by omega,h3⟩
theorem zyR{b:Nat}:∀p:Nat,(zyO b p).Pairwise (· < ·)
 | 0=>.nil
 | p+1=>by
  show(zyO b p++_).Pairwise _
  rw[List.pairwise_append];refine⟨zyR p,?_,fun a ha c hc=>?_⟩
  ·split
   ·exact List.pairwise_singleton _ _
   ·exact .nil
  ·have:=zyQ.1 ha
   split at hc
   ·rw[List.mem_singleton] at hc; omega
   ·cases hc
theorem zyS{b p:Nat}(h:∀q,p<=q->b.testBit q=false):∀k,zyO b (p+k)=zyO b p
 | 0=>rfl
 | k+1=>by
  show zyO b (p+k)++(if b.testBit (p+k) then _ else _)=_
  rw[h (p+k) (by omega),zyS h k]; simp
theorem zyT{b:Nat}:∀p,(zyO b p).length<=p
 | 0=>Nat.le_refl _
 | p+1=>by
  show(zyO b p++_).length<=_
  rw[List.length_append];have:=zyT (b:=b) p
  split <;> simp <;> omega
theorem zyU(b p:Nat):(b:Int) / 2 ^ p=((b / 2 ^ p:Nat):Int):=by simp
theorem zjo{b p q:Nat}(h:b / 2 ^ p=0)(hq:p<=q):b.testBit q=false:=by
 have h1:b < 2 ^ p:=by
  rcases Nat.lt_or_ge b (2 ^ p) with h2 | h2
  ·exact h2
  ·have:=Nat.div_pos h2 (Nat.two_pow_pos p); omega
 exact Nat.testBit_lt_two_pow (Nat.lt_of_lt_of_le h1 (Nat.pow_le_pow_right (by omega) hq))
def bef:List Int->List Int->Bool
 | [],[]=>false
 | [],_::_=>true
 | _::_,[]=>false
 | x::a,y::b=>if x=y then bef a b else decide (x < y)
def shB(a b:List Int):Bool:=decide (a.length < b.length) || (decide (a.length=b.length) && bef a b)
theorem zyV:∀A:List Int,bef A A=false
 | []=>rfl
 | x::A=>by show(if x=x then bef A A else _)=_; rw[if_pos rfl,zyV A]
theorem zyW:∀{A B:List Int},bef A B=true->bef B A=false
 | [],[],h=>by cases h
 | [],_::_,_=>rfl
 | _::_,[],h=>by cases h
 | x::A,y::B,h=>by
  have h':(if x=y then bef A B else decide (x < y))=true:=h
  show(if y=x then bef B A else decide (y < x))=false
  by_cases hxy:x=y
  ·rw[if_pos hxy] at h'; rw[if_pos hxy.symm]; exact zyW h'
  ·rw[if_neg hxy] at h'; rw[if_neg fun h=>hxy h.symm];have:=of_decide_eq_true h';exact decide_eq_false (by omega)
theorem zyX:∀A B:List Int,A=B\/bef A B=true\/bef B A=true
 | [],[]=>.inl rfl
 | [],_::_=>.inr (.inl rfl)
 | _::_,[]=>.inr (.inr rfl)
 | x::A,y::B=>by
  show x::A=y::B\/(if x=y then bef A B else decide (x < y))=true\/(if y=x then bef B A else decide (y < x))=true
  by_cases hxy:x=y
  ·subst hxy;rw[if_pos rfl,if_pos rfl]
   rcases zyX A B with h | h | h
   ·exact .inl (by rw[h])
   ·exact .inr (.inl h)
   ·exact .inr (.inr h)
  ·rw[if_neg hxy,if_neg fun h=>hxy h.symm]
   by_cases h:x < y
   ·exact .inr (.inl (decide_eq_true h))
   ·exact .inr (.inr (decide_eq_true (by omega)))
theorem zyY(A:List Int):shB A A=false:=by unfold shB; rw[decide_eq_false (by omega),zyV]; simp
theorem zyZ{A B:List Int}(h:shB A B=true):shB B A=false:=by
 unfold shB at h ⊢;rw[Bool.or_eq_true,Bool.and_eq_true,decide_eq_true_eq,decide_eq_true_eq] at h
 rcases h with h | ⟨h1,h2⟩
 ·rw[decide_eq_false (by omega),decide_eq_false (by omega)]; rfl
 ·rw[decide_eq_false (by omega),zyW h2]; simp
theorem zy0(x y:Int)(A B:List Int)(hxy:x < y):∀pre:List Int,bef (pre++x::A) (pre++y::B)=true
 | []=>by show(if x=y then _ else decide (x < y))=true; rw[if_neg (by omega),decide_eq_true hxy]
 | p::pre=>by show(if p=p then bef (pre++x::A) (pre++y::B) else _)=true; rw[if_pos rfl]; exact zy0 x y A B hxy pre
theorem zy1{α:Type}{R:α->α->Prop}(g:Nat->List α)(h1:∀x,(g x).Pairwise R)(h2:∀x y,x < y->∀a∈g x,∀b∈g y,R a b):∀e x,(zrt g e x).Pairwise R
 | 0,_=>.nil
 | e+1,x=>by
  show(g x++zrt g e (x+1)).Pairwise R
  rw[List.pairwise_append];refine⟨h1 x,zy1 g h1 h2 e (x+1),fun a ha b hb=>?_⟩;obtain⟨j,h3,_,h4⟩:=(zuR g b e (x+1)).1 hb;exact h2 x j (by omega) a ha b h4
theorem zy2{n:Nat}:∀(d:Nat) (pre:List Int) (fr:Nat),(zru n d pre fr).Pairwise fun a b=>bef a b=true
 | 0,pre,fr=>List.pairwise_singleton _ _
 | d+1,pre,fr=>zy1 _ (fun x=>zy2 d _ _) (fun x y hxy a ha b hb=>by
  obtain⟨T,h1,_,_⟩:=zyL.1 ha;obtain⟨T',h2,_,_⟩:=zyL.1 hb;rw[h1,h2,List.append_assoc,List.append_assoc]
  exact zy0 _ _ _ _ (by omega) pre) _ _
theorem zy3(n:Nat):(zoh n).Pairwise fun a b=>shB a b=true:=
 zy1 _ (fun s=>(zy2 s [] 0).imp_of_mem fun {a b} ha hb hab=>by
  have h1:=zu0 ha;have h2:=zu0 hb;unfold shB
  rw[hab,decide_eq_true (show a.length=b.length by omega)]; simp) (fun s s' hs a ha b hb=>by
  have h1:=zu0 ha;have h2:=zu0 hb;unfold shB
  rw[decide_eq_true (by omega)]; rfl) _ _
theorem zy4{t:List Int->Bool}:∀{l:List (List Int)},l.Pairwise (fun a b=>shB a b=true)->∀{D D':List Int},l.find? t=some D->D'∈l->t D'=true->D'=D\/shB D D'=true
 | [],_,_,_,h,_,_=>by cases h
 | a::l,hp,D,D',h,hm,ht=>by
  rw[List.pairwise_cons] at hp;rw[List.find?_cons] at h
  cases hta:t a with
  | true=>
   rw[hta] at h;have:a=D:=oi h;subst this
   rcases List.mem_cons.1 hm with rfl | h1
   ·exact .inl rfl
   ·exact .inr (hp.1 _ h1)
  | false=>
   rw[hta] at h
   rcases List.mem_cons.1 hm with rfl | h1
   ·rw[hta] at ht; cases ht
   ·exact zy4 hp.2 h h1 ht
theorem zy5{n:Nat}{t:List Int->Bool}(h:∃D,Inc n 0 D/\t D=true):Inc n 0 (zrv n t)/\t (zrv n t)=true/\∀D,Inc n 0 D->t D=true->D=zrv n t\/shB (zrv n t) D=true:=by
 obtain⟨D0,h1,h2⟩:=h;unfold zrv
 cases hf:(zoh n).find? t with
 | none=>exact absurd h2 (by have:=List.find?_eq_none.1 hf D0 (zyN.2 h1); simpa using this)
 | some D=>exact⟨zyN.1 (List.mem_of_find?_eq_some hf),List.find?_some hf,fun D' h3 h4=>zy4 (zy3 n) hf (zyN.2 h3) h4⟩
theorem zy6:∀(n:Nat) (S:Nat->Bool),∃b,b < 2 ^ n/\∀q,q < n->b.testBit q=S q
 | 0,S=>⟨0,by decide,fun q hq=>by omega⟩
 | n+1,S=>by
  obtain⟨b,h1,h2⟩:=zy6 n fun q=>S (q+1);refine⟨2 * b+(if S 0 then 1 else 0),?_,fun q hq=>?_⟩
  ·rw[Nat.pow_succ]; split <;> omega
  ·cases q with
   | zero=>
    rw[Nat.testBit_zero]
    cases S 0 with
    | true=>exact decide_eq_true (by simp only[if_true]; omega)
    | false=>exact decide_eq_false (by simp)
   | succ q=>
    rw[Nat.testBit_succ,<- h2 q (by omega)]
    congr 1
    split <;> omega
theorem zy7:∀{A B:List Int},A.Pairwise (· < ·)->B.Pairwise (· < ·)->(∀v,v∈A↔v∈B)->A=B
 | [],[],_,_,_=>rfl
 | [],b::B,_,_,h=>by have:=(h b).2 (List.mem_cons_self ..); cases this
 | a::A,[],_,_,h=>by have:=(h a).1 (List.mem_cons_self ..); cases this
 | a::A,b::B,hA,hB,h=>by
  rw[List.pairwise_cons] at hA hB
  have hab:a=b:=by
   rcases List.mem_cons.1 ((h a).1 (List.mem_cons_self ..)) with h1 | h1
   ·exact h1
   ·rcases List.mem_cons.1 ((h b).2 (List.mem_cons_self ..)) with h2 | h2
    ·exact h2.symm
    ·have:=hA.1 _ h2; have:=hB.1 _ h1; omega
  subst hab
  congr 1
  refine zy7 hA.2 hB.2 fun v=>?_;have hv:=h v;rw[List.mem_cons,List.mem_cons] at hv
  constructor
  ·intro h1
   rcases hv.1 (.inr h1) with h2 | h2
   ·have:=hA.1 _ h1; omega
   ·exact h2
  ·intro h1
   rcases hv.2 (.inr h1) with h2 | h2
   ·have:=hB.1 _ h1; omega
   ·exact h2
theorem zy8{n b:Nat}(_hn:n<=16)(hb:b < 2 ^ n):Inc n 0 (zyP b):=
 ⟨zyR 16,fun v hv=>by
  obtain⟨h1,h2,h3⟩:=zyQ.1 hv;refine⟨by omega,?_⟩
  by_cases h4:v < n
  ·exact h4
  ·have:=Nat.testBit_lt_two_pow (Nat.lt_of_lt_of_le hb (Nat.pow_le_pow_right (by omega) (show n<=v.toNat by omega)))
   rw[this] at h3; cases h3⟩
theorem zy9{n:Nat}{D:List Int}(hn:n<=16)(hD:Inc n 0 D):∃b,b < 2 ^ n/\zyP b=D:=by
 obtain⟨b,h1,h2⟩:=zy6 n (inD D);refine⟨b,h1,zy7 (zyR 16) hD.1 fun v=>?_⟩
 constructor
 ·intro hv;obtain⟨h3,h4⟩:=(zy8 hn h1).2 v hv;obtain⟨_,_,h5⟩:=zyQ.1 hv;rw[h2 _ (by omega)] at h5;have:=of_decide_eq_true h5
  rwa [show((v.toNat:Nat):Int)=v by omega] at this
 ·intro hv;have h3:=hD.2 v hv;refine zyQ.2 ⟨by omega,by omega,?_⟩;rw[h2 _ (by omega)];exact decide_eq_true (by rw[show((v.toNat:Nat):Int)=v by omega]; exact hv)
theorem zza{l:List Int}(h:l ≠ [])(hl:l.length<=1048577):ztQ l=some (zrR l):=by
 unfold ztQ
 cases l with
 | nil=>exact absurd rfl h
 | cons x l=>
  rw[if_neg (by rw[List.length_cons]; omega),zrH rfl,obs];refine(zrQ (l:=x::l) (fun s a=>min s a) (fun d s k=>ztP (x::l) d s k) (fun s=>some s) (fun d k s a hk=>?_) (fun d s=>?_) _ 0 x (Nat.zero_le _) (by omega)).trans ?_
  ·have hkl:=(List.getElem?_eq_some_iff.1 hk).1
   show ztP (x::l) (d+1) s (k:Int)=_
   rw[ztP,if_pos (by omega),zrF hk,obs]
   by_cases hc:a < s
   ·rw[if_pos hc,zqr (fI (by omega)),Int.min_eq_right (by omega)]
   ·rw[if_neg hc,zqr (fI (by omega)),Int.min_eq_left (by omega)]
  ·show ztP (x::l) (d+1) s _=_
   rw[ztP,if_neg (Int.lt_irrefl _)]
  ·rw[List.drop_zero]
   show some (l.foldl min (min x x))=_
   rw[Int.min_self]; rfl
theorem zzb{l:List Int}(h:l ≠ [])(hl:l.length<=1048577):ztS l=some (zrS l):=by
 unfold ztS
 cases l with
 | nil=>exact absurd rfl h
 | cons x l=>
  rw[if_neg (by rw[List.length_cons]; omega),zrH rfl,obs];refine(zrQ (l:=x::l) (fun s a=>max s a) (fun d s k=>ztR (x::l) d s k) (fun s=>some s) (fun d k s a hk=>?_) (fun d s=>?_) _ 1 x (by rw[List.length_cons]; omega) (by rw[List.length_cons]; omega)).trans ?_
  ·have hkl:=(List.getElem?_eq_some_iff.1 hk).1
   show ztR (x::l) (d+1) s (k:Int)=_
   rw[ztR,if_pos (by omega),zrF hk,obs,zqr (fI (by omega))]
  ·show ztR (x::l) (d+1) s _=_
   rw[ztR,if_neg (Int.lt_irrefl _)]
  ·rfl
theorem zzc{l:List Int}(h:l ≠ []):zrR l∈l/\∀y∈l,zrR l<=y:=by
 cases l with
 | nil=>exact absurd rfl h
 | cons x l=>
  obtain⟨h1,h2,h3⟩:=zrT l x;refine⟨?_,fun y hy=>?_⟩
  ·rcases h1 with h1 | h1
   ·show l.foldl min x∈_; rw[h1]; exact List.mem_cons_self ..
   ·exact List.mem_cons_of_mem _ h1
  ·rcases List.mem_cons.1 hy with rfl | hy
   ·exact h2
   ·exact h3 y hy
theorem zzd{l:List Int}(h:l ≠ []):zrS l∈l/\∀y∈l,y<=zrS l:=by
 cases l with
 | nil=>exact absurd rfl h
 | cons x l=>
  obtain⟨h1,h2,h3⟩:=zrU l x;refine⟨?_,fun y hy=>?_⟩
  ·rcases h1 with h1 | h1
   ·show l.foldl max x∈_; rw[h1]; exact List.mem_cons_self ..
   ·exact List.mem_cons_of_mem _ h1
  ·rcases List.mem_cons.1 hy with rfl | hy
   ·exact h2
   ·exact h3 y hy
def bnd(s:Soc)(g:Int->Int):Rg:={ Lo:=zrR ((zyC (loN s) (hiN s)).map g),Hi:=zrS ((zyC (loN s) (hiN s)).map g) }
def zze(s:Soc)(out:List Int)(N:Int):Oc:={ need:=N,calls:=mk5 (zxZ s.Members (zyq s.Members.length out) N).1 }
theorem zzf{s:Soc}(hs:zyc s):(zyC (loN s) (hiN s)).length<=121:=by
 have:=zyG hs;unfold zyC; rw[List.length_map,List.length_range]; omega
theorem zzg{s:Soc}(hs:zyc s):zyC (loN s) (hiN s) ≠ []:=fun h=>by
 have:=zyG hs;have:loN s∈zyC (loN s) (hiN s):=zyD.2 (by omega)
 rw[h] at this; cases this
theorem zzh{s:Soc}(hs:zyc s)(g:Int->Int):(∃N,(loN s<=N/\N<=hiN s)/\g N=(bnd s g).Lo)/\(∃N,(loN s<=N/\N<=hiN s)/\g N=(bnd s g).Hi)/\∀N,loN s<=N/\N<=hiN s->(bnd s g).Lo<=g N/\g N<=(bnd s g).Hi:=by
 have hne:(zyC (loN s) (hiN s)).map g ≠ []:=fun h=>zzg hs (List.map_eq_nil_iff.1 h);obtain⟨a1,a2⟩:=zzc hne;obtain⟨b1,b2⟩:=zzd hne;obtain⟨x,hx,ex⟩:=List.mem_map.1 a1;obtain⟨y,hy,ey⟩:=List.mem_map.1 b1;exact⟨⟨x,zyD.1 hx,ex⟩,⟨y,zyD.1 hy,ey⟩,fun N hN=>⟨a2 _ (List.mem_map.2 ⟨N,zyD.2 hN,rfl⟩),b2 _ (List.mem_map.2 ⟨N,zyD.2 hN,rfl⟩)⟩⟩
theorem zzi{s:Soc}(hs:zyc s):bnd s (fun N=>N)={ Lo:=loN s,Hi:=hiN s }:=by
 obtain⟨⟨x,hx,ex⟩,⟨y,hy,ey⟩,h⟩:=zzh hs fun N=>N;have hb:=zyG hs;have h1:=(h (loN s) ⟨Int.le_refl _,hb.2.1⟩).1;have h2:=(h (hiN s) ⟨hb.2.1,Int.le_refl _⟩).2
 have e1:(bnd s fun N=>N).Lo=loN s:=by omega
 have e2:(bnd s fun N=>N).Hi=hiN s:=by omega
 revert e1 e2
 generalize bnd s (fun N=>N)=r;intro e1 e2
 cases r
 exact congr (congrArg Rg.mk e1) e2
theorem zzj{s:Soc}(hs:zyc s)(out:List Int){N:Int}(hN:0<=N/\N<=1000000):ztM (zyr s out) N=some (zze s out N):=zx1 (w:=zyr s out) hs.msOk rfl (zys s.Members out) hN
theorem zzk{s:Soc}(hs:zyc s){out:List Int}{q:Qu}{g:Int->Int}(hg:∀N,loN s<=N->N<=hiN s->q.ask (zze s out N)=some (g N)) :
  ∀(L:List Int) (acc:List Int),(∀N∈L,loN s<=N/\N<=hiN s)->acc.length+L.length<=1000->acc++L.map g ≠ []->ztT (zyr s out) q L acc=some { Lo:=zrR (acc++L.map g),Hi:=zrS (acc++L.map g) }
 | [],acc,_,hl,hne=>by
  rw[List.map_nil,List.append_nil] at hne ⊢;rw[ztT,zza hne (by omega),obs,zzb hne (by omega),obs]
 | N::L,acc,hN,hl,hne=>by
  have h1:=hN N (List.mem_cons_self ..);have hb:=zyG hs;rw[List.length_cons] at hl;rw[ztT,zzj hs out (by omega),obs,hg N h1.1 h1.2,obs,zqr (by omega),zzk hs hg L (acc++[g N]) (fun x hx=>hN x (List.mem_cons_of_mem _ hx)) (by rw[List.length_append]; show acc.length+1+_<=_; omega) (by simp)];rw[List.map_cons,List.append_assoc]; rfl
theorem zzl{s:Soc}(hs:zyc s){out:List Int}{q:Qu}{g:Int->Int}(hg:∀N,loN s<=N->N<=hiN s->q.ask (zze s out N)=some (g N)):ztU (zyr s out) q=some (bnd s g):=by
 unfold ztU;rw[show(zyr s out).s=s from rfl,zyK hs,obs];have hl:=zzf hs;exact zzk hs hg _ [] (fun N hN=>zyD.1 hN) (by show 0+_<=_; omega) (fun h=>zzg hs (List.map_eq_nil_iff.1 h))
theorem zzm{s:Soc}(hs:zyc s):zt2 s=some ({ Lo:=loN s,Hi:=hiN s },0):=by
 unfold zt2;rw[zyA hs (Nat.zero_le _) (zyB _),obs,if_pos rfl,zzl hs (g:=fun N=>N) (fun N _ _=>rfl),obs,zzi hs]
theorem zzn{s:Soc}(hs:zyc s)(out:List Int){N:Int}(hN:0<=N/\N<=1000000):ztB (zze s out N)=some (zxZ s.Members (zyq s.Members.length out) N).2:=by
 have hsup:=zys s.Members out;have h1:=zx5 hs.msOk hsup hN
 have hb:Bd 1000000000000 (zxZ s.Members (zyq s.Members.length out) N).1:=fun i hi=>by have:=zx8 hs.msOk hsup hN hi; omega
 have hb5:=fun i hi=>zx8 hs.msOk hsup hN (i:=i) hi;have b0:=hb5 0 (by omega); have b1:=hb5 1 (by omega); have b2:=hb5 2 (by omega); have b3:=hb5 3 (by omega); have b4:=hb5 4 (by omega)
 have hS:0<=S5 (zxZ s.Members (zyq s.Members.length out) N).1/\S5 (zxZ s.Members (zyq s.Members.length out) N).1<=500000:=by unfold S5; omega
 unfold ztB
 show(ztq (mk5 (zxZ s.Members (zyq s.Members.length out) N).1)).bind _=_
 rw[zwQ hb,obs,zqr (fI (by show -9223372036854775808<=N - S5 _/\N - S5 _ < _; omega))];exact congrArg some (show N - S5 (zxZ s.Members (zyq s.Members.length out) N).1=_ by omega)
def zzo(s:Soc)(out:List Int)(N:Int):List Int:=(l5 (zxZ s.Members (zyq s.Members.length out) N).1).take s.Members.length
theorem zzp{s:Soc}(out:List Int)(N:Int)(h5:s.Members.length<=5):(zzo s out N).length=s.Members.length:=by
 unfold zzo; rw[List.length_take]; show min _ 5=_; omega
theorem zzq{s:Soc}(hs:zyc s){N:Int}(hN:0<=N/\N<=300000):zt4 s N=some (zzo s [] N,(zxZ s.Members (zyq s.Members.length []) N).2,0):=by
 have h5:=hs.m5;unfold zt4;rw[zyA hs (Nat.zero_le _) (zyB _),obs,if_pos rfl,zyf.some_of hN,obs,if_pos rfl]
 show(ztM (zyr s []) N).bind _=_
 rw[zzj hs [] (by omega),obs,zqr (by omega)]
 have e:zt3 ((([(zze s [] N).calls.p0,(zze s [] N).calls.p1,(zze s [] N).calls.p2,(zze s [] N).calls.p3,(zze s [] N).calls.p4]:List Int).take (Int.toNat (s.Members.length:Int))).drop (Int.toNat (0:Int)))=some (zzo s [] N):=by
  have hl:=zzp [] N h5
  show zt3 (zzo s [] N)=_
  unfold zt3;rw[zqr (by rw[hl]; show 0+_<=_; omega)]; rfl
 rw[e,obs,zzn hs [] (by omega),obs]
theorem zzr{s:Soc}(hs:zyc s)(out:List Int)(N:Int){k:Nat}(hk:k < s.Members.length):ztN (zze s out N) (k:Int)=some ((zxZ s.Members (zyq s.Members.length out) N).1 k):=by
 have h5:=hs.m5;unfold ztN
 show(idx (l5 (zxZ s.Members (zyq s.Members.length out) N).1) (k:Int)).bind _=_
 rw[zwJ (by omega),obs]
def zzs(s:Soc)(out:List Int):List Rg:=(List.range s.Members.length).map fun k=>bnd s fun N=>(zxZ s.Members (zyq s.Members.length out) N).1 k
theorem zzt{s:Soc}(out:List Int):(zzs s out).length=s.Members.length:=by unfold zzs; rw[List.length_map,List.length_range]
theorem zzu{s:Soc}(out:List Int){k:Nat}(hk:k < s.Members.length):(zzs s out)[k]? = some (bnd s fun N=>(zxZ s.Members (zyq s.Members.length out) N).1 k):=by
 unfold zzs; rw[List.getElem?_map,List.getElem?_range hk]; rfl
theorem zzv{s:Soc}(hs:zyc s){out:List Int}(hl:zrP out)(ho:zyw s.Members.length out):zt6 s out=some (zzs s out,0):=by
 have h5:=hs.m5;unfold zt6;rw[zyA hs hl ho,obs,if_pos rfl];refine zwH (n:=s.Members.length) (fun d acc x=>zt5 s (zyr s out,0) d acc x) (fun k=>(zzs s out).take k) (fun d k hk=>?_) (fun d=>?_) (s.Members.length+1) 0 (by omega) (by omega)
 ·show zt5 s (zyr s out,0) (d+1) _ _=_
  have hb:ztO (k:Int)=some (fun o=>ztN o (k:Int)):=rfl;rw[zt5,if_pos (by omega),hb,obs]
  show(ztU (zyr s out) _).bind _=_
  rw[zzl hs (g:=fun N=>(zxZ s.Members (zyq s.Members.length out) N).1 k) (fun N _ _=>zzr hs out N hk),obs,zqr (by rw[List.length_take]; omega),zqr (fI (by omega))];rw[List.take_add_one,zzu out hk]; rfl
 ·show zt5 s (zyr s out,0) (d+1) _ _=_
  rw[zt5,if_neg (Int.lt_irrefl _),List.take_of_length_le (by rw[zzt]; exact Nat.le_refl _)]
theorem zzw{s:Soc}(hs:zyc s):zt7 s=some (zzs s [],0):=by
 unfold zt7;rw[zzv hs (Nat.zero_le _) (zyB _),obs]
def zzx(s:Soc)(out:List Int)(N:Int):Int:=(zxZ s.Members (zyq s.Members.length out) N).2
theorem zzy{s:Soc}(hs:zyc s):zt8 s=some (bnd s (zzx s []),0):=by
 have hb:=zyG hs;unfold zt8;rw[zyA hs (Nat.zero_le _) (zyB _),obs,if_pos rfl,zzl hs (g:=zzx s []) (fun N h1 h2=>zzn hs [] (by omega)),obs]
theorem zzz{s:Soc}(hs:zyc s)(out:List Int):ztV (zyr s out)=some (hiN s):=by
 unfold ztV;rw[zzl hs (g:=fun N=>N) (fun N _ _=>rfl),obs,zzi hs]
theorem zzA(a:Mb){r t:Int}(hu:0<=unN a)(h:r<=t):min (unN a * r / 100) a.Most<=min (unN a * t / 100) a.Most:=by
 have h1:unN a * r<=unN a * t:=Int.mul_le_mul_of_nonneg_left h hu;have h2:=Int.ediv_le_ediv (c:=100) (by omega) h1
 omega
def brN(ms:List Mb)(rate:Int):Int:=zwY (ms.map fun a=>min (unN a * rate / 100) a.Most)
theorem zzB{ms:List Mb}(hm:∀a∈ms,zxF a){r:Int}(hr:0<=r/\r<=10000):0<=brN ms r/\brN ms r<=100000 * ms.length:=by
 induction ms with
 | nil=>exact⟨Int.le_refl _,Int.le_refl _⟩
 | cons a ms ih=>
  have ih:=ih fun a ha=>hm a (List.mem_cons_of_mem _ ha);have ha:=hm a (List.mem_cons_self ..);have hu:=zxH ha;have hmo:=ha.most;have h1:0<=unN a * r / 100:=Int.ediv_nonneg (Int.mul_nonneg (by omega) hr.1) (by omega);have e:brN (a::ms) r=min (unN a * r / 100) a.Most+brN ms r:=rfl;rw[e,List.length_cons]; omega
theorem zzC{ms:List Mb}(hm:∀a∈ms,zxF a){r t:Int}(h:r<=t):brN ms r<=brN ms t:=by
 induction ms with
 | nil=>exact Int.le_refl _
 | cons a ms ih=>
  have ih:=ih fun a ha=>hm a (List.mem_cons_of_mem _ ha);have h2:=zzA a (by have:=zxH (hm a (List.mem_cons_self ..)); omega) h
  show min _ _+brN ms r<=min _ _+brN ms t
  omega
theorem zzD{ms:List Mb}{r:Int}{k:Nat}{a:Mb}(h:ms[k]? = some a):brN (ms.take (k+1)) r=brN (ms.take k) r+min (unN a * r / 100) a.Most:=by
 unfold brN;rw[List.take_add_one,h,List.map_append,zwZ]
 show _+(min (unN a * r / 100) a.Most+0)=_
 rw[Int.add_zero]
theorem zzE{s:Soc}(hs:zyc s)(out:List Int){r:Int}(hr:0<=r/\r<=10000):ztX (zyr s out) r=some (brN s.Members r):=by
 have h5:=hs.m5;unfold ztX;refine zwH (n:=s.Members.length) (fun d acc x=>ztW (zyr s out) r d acc x) (fun k=>brN (s.Members.take k) r) (fun d k hk=>?_) (fun d=>?_) (s.Members.length+1) 0 (by omega) (by omega)
 ·have hg:=List.getElem?_eq_getElem hk;have ha:=hs.full.ms _ (List.getElem_mem hk);have hu:=zxH ha;have hmo:=ha.most;have hb:=zzB (ms:=s.Members.take k) (fun a ha=>hs.full.ms a (List.mem_of_mem_take ha)) hr
  have hlk:(s.Members.take k).length<=5:=by rw[List.length_take]; omega
  have hm:=zxh (a:=unN s.Members[k]) (x:=r) (A:=10000) (X:=10000) (by omega) hr;have hq:0<=unN s.Members[k] * r / 100:=Int.ediv_nonneg hm.1 (by omega)
  have hun:ztD s.Members[k]=some (unN s.Members[k]):=by
   have h1:=ha.sum; have h2:=ha.cls;unfold unN at hu;unfold ztD unN;rw[zqr (by omega),zqr (by omega),zqr (fI (by omega))]
  show ztW (zyr s out) r (d+1) _ _=_
  rw[ztW,if_pos (show(k:Int) < ((zyr s out).s.Members.length:Int) by show(k:Int) < (s.Members.length:Int); omega),show idx (zyr s out).s.Members (k:Int)=some s.Members[k] from zrF hg,obs,hun,obs,zqr (by omega),zqr hr.1,zqr (fI (by omega)),zqr hm.1,zqr (by omega),zqr (fI (by omega)),zqr (fI (by omega)),zqr (fI (by omega)),zzD hg]
 ·show ztW (zyr s out) r (d+1) _ _=_
  rw[ztW,if_neg (show ¬ ((s.Members.length:Nat):Int) < ((zyr s out).s.Members.length:Int) from Int.lt_irrefl _),List.take_length]
def zzF(s:Soc)(r:Int):Bool:=decide (hiN s<=brN s.Members r)
theorem zzG{s:Soc}(hs:zyc s){r:Int}(hr:0<=r/\r<=10000):ztY (zyr s []) r=some (zzF s r):=by
 unfold ztY;rw[zzE hs [] hr,obs,zzz hs,obs]; rfl
theorem zzH{p:Int->Option Bool}{f:Nat->Bool}{n:Nat}(hn:n<=1000000)(hp:∀m,m < n->p (m:Int)=some (f m))(hm:∀m k,m<=k->k < n->f m=true->f k=true):∀d (i j:Nat),i<=j->j<=n->j - i < d->(∀m,m < i->f m=false)->(∀m,j<=m->m < n->f m=true) ->
  ∃k:Nat,zt0 p d (i:Int) (j:Int)=some (k:Int)/\k<=n/\(∀m,m < k->f m=false)/\(∀m,k<=m->m < n->f m=true)
 | 0,_,_,_,_,h,_,_=>by omega
 | d+1,i,j,hij,hj,h,hlo,hhi=>by
  rw[zt0]
  by_cases hc:i < j
  ·obtain⟨md,hmd⟩:∃md:Nat,md=(i+j) / 2:=⟨_,rfl⟩
   have hf:zl6 .u64 ((i:Int)+j):=show _/\_ by constructor <;> omega
   have e:zmb .i64 (zmb .u64 ((i:Int)+j) / 2)=(md:Int):=by
    rw[wz hf,wz (fI (by omega))]; omega
   rw[if_pos (by omega),zqr (fI (by omega)),zqr (by rw[wz hf]; omega),zqr (by omega),zqr (by omega),zqr (by rw[wz hf]; exact show _/\_ by constructor <;> omega),e,hp md (by omega),obs]
   cases hq:f md with
   | true=>
    rw[if_pos rfl];exact zzH hn hp hm d i md (by omega) (by omega) (by omega) hlo fun m h1 h2=>hm md m h1 h2 hq
   | false=>
    rw[if_neg (by decide),zqr (fI (by omega)),show(md:Int)+1=((md+1:Nat):Int) by omega]
    exact zzH hn hp hm d (md+1) j (by omega) hj (by omega) (fun m h1=>by
     cases hq2:f m with
     | false=>rfl
     | true=>have:=hm m md (by omega) (by omega) hq2; rw[hq] at this; cases this) hhi
  ·rw[if_neg (by omega)];exact⟨i,rfl,by omega,hlo,fun m h1 h2=>hhi m (by omega) h2⟩
theorem zzI{s:Soc}(hs:zyc s):∃k:Nat,zt1 10001 (fun r=>ztY (zyr s []) r)=some (k:Int)/\k<=10001/\(∀m:Nat,m < k->zzF s m=false)/\(∀m:Nat,k<=m->m < 10001->zzF s m=true):=by
 unfold zt1
 exact zzH (n:=10001) (f:=fun m=>zzF s (m:Int)) (by omega) (fun m hm=>zzG hs (by omega)) (fun m k h1 h2 h3=>by
  have h4:hiN s<=brN s.Members (m:Int):=of_decide_eq_true h3;have h5:=zzC hs.full.ms (r:=(m:Int)) (t:=(k:Int)) (by omega)
  exact decide_eq_true (by omega)) _ 0 10001 (by omega) (by omega) (by omega) (fun m h=>by omega) (fun m h1 h2=>by omega)
theorem zzJ{s:Soc}(hs:zyc s):(∃k:Nat,zt9 s=some ((k:Int),0)/\k<=10000/\hiN s<=brN s.Members (k:Int)/\∀m:Nat,m < k->brN s.Members (m:Int) < hiN s)\/(zt9 s=some (0,10)/\∀m:Nat,m<=10000->brN s.Members (m:Int) < hiN s):=by
 obtain⟨k,h1,h2,h3,h4⟩:=zzI hs
 have lt:∀m:Nat,zzF s (m:Int)=false->brN s.Members (m:Int) < hiN s:=fun m h=>by
  have:=of_decide_eq_false h; omega
 unfold zt9;rw[zyA hs (Nat.zero_le _) (zyB _),obs,if_pos rfl]
 show(∃k':Nat,(zt1 10001 (fun r=>ztY (zyr s []) r)).bind _=_/\_)\/((zt1 10001 (fun r=>ztY (zyr s []) r)).bind _=_/\_)
 rw[h1,obs]
 by_cases hk:k<=10000
 ·rw[if_neg (by omega)];exact .inl ⟨k,rfl,hk,of_decide_eq_true (h4 k (Nat.le_refl _) (by omega)),fun m hm=>lt m (h3 m hm)⟩
 ·rw[if_pos (by omega)];exact .inr ⟨rfl,fun m hm=>lt m (h3 m (by omega))⟩
def zzK(s:Soc)(l:List Int):Bool:=decide (0 < (bnd s (zzx s l)).Hi)
theorem zzL{s:Soc}(hs:zyc s)(l:List Int):zzK s l=true↔S5 (mF s.Members (zyq s.Members.length l)) < hiN s:=by
 unfold zzK;rw[decide_eq_true_iff];have hb:=zyG hs;obtain⟨_,⟨y,hy,ey⟩,h⟩:=zzh hs (zzx s l);have e:∀N,loN s<=N/\N<=hiN s->zzx s l N=max 0 (N - S5 (mF s.Members (zyq s.Members.length l))):=fun N hN=>zya hs.msOk (zys s.Members l) (by omega);have h1:=(h (hiN s) ⟨hb.2.1,Int.le_refl _⟩).2;rw[e _ ⟨hb.2.1,Int.le_refl _⟩] at h1;rw[e y hy] at ey
 omega
theorem zzM{s:Soc}(hs:zyc s){l:List Int}(hl:zrP l):ztZ s l=some (zzK s l):=by
 have hb:=zyG hs;unfold ztZ;rw[zyv hl hs.m5,obs,zzl hs (g:=zzx s l) (fun N h1 h2=>zzn hs l (by omega)),obs]; rfl
theorem zzN{s:Soc}(hs:zyc s)(h:hiN s=0):zua s=some ([],7):=by
 unfold zua;rw[zyA hs (Nat.zero_le _) (zyB _),obs,if_pos rfl,zzz hs,obs,if_pos h]
theorem zzO{s:Soc}(hs:zyc s)(h:hiN s ≠ 0):zua s=some (zrv s.Members.length (zzK s),0):=by
 have h5:=hs.m5
 have hlen:∀L∈zoh s.Members.length,zrP L:=fun L hL=>by have:=zyM (zyN.1 hL); unfold zrP; omega
 unfold zua;rw[zyA hs (Nat.zero_le _) (zyB _),obs,if_pos rfl,zzz hs,obs,if_neg h];unfold zrw;rw[zqr ⟨by omega,by omega,fun L hL=>by show(ztZ s L).isSome=true; rw[zzM hs (hlen L hL)]; rfl⟩,obs];refine congrArg (fun x=>some (x,(0:Int))) ?_
 have e:(zoh s.Members.length).find? (fun L=>((ztZ s L)).getD false)=(zoh s.Members.length).find? (zzK s):=by
  have:∀l:List (List Int),(∀L∈l,zrP L)->l.find? (fun L=>((ztZ s L)).getD false)=l.find? (zzK s):=by
   intro l
   induction l with
   | nil=>intro _; rfl
   | cons L l ih=>
    intro hl
    have h1:(ztZ s L).getD false=zzK s L:=by rw[zzM hs (hl L (List.mem_cons_self ..))]; rfl
    rw[List.find?_cons,List.find?_cons,h1,ih fun L hL=>hl L (List.mem_cons_of_mem _ hL)]
  exact this _ hlen
 show zrv s.Members.length (fun L=>((ztZ s L)).getD false)=_
 unfold zrv;rw[e]
theorem wu{n:Nat}(h:n<=64):zmb .u64 (n:Int)=(n:Int):=wz (show(0:Int)<=n/\(n:Int) < 18446744073709551616 by omega)
theorem zzP{b:Nat}(hb:b < 65536):∀(d p:Nat) (acc:List Int),p<=16->16 - p < d->acc=zyO b p->zsE (b:Int) d acc (p:Int)=some (zyP b)
 | 0,_,_,_,h,_=>by omega
 | d+1,p,acc,hp,h,ha=>by
  have hle:b / 2 ^ p<=b:=Nat.div_le_self _ _;rw[zsE,wu (show p<=64 by omega)]
  have hq:(b:Int) / 2 ^ ((p:Int)).toNat=((b / 2 ^ p:Nat):Int):=by rw[Int.toNat_natCast]; simp
  rw[hq]
  clear hq
  have hl:=zyT (b:=b) p;have hbit:b.testBit p=decide (b / 2 ^ p % 2=1):=Nat.testBit_eq_decide_div_mod_eq ..
  have h16:p=16->b / 2 ^ p=0:=fun he=>by subst he; exact Nat.div_eq_of_lt (by omega)
  have h0':b / 2 ^ p=0->zyO b p=zyP b:=fun h9=>by
   have:=zyS (b:=b) (p:=p) (fun q hq=>zjo h9 hq) (16 - p);rw[show p+(16 - p)=16 by omega] at this;exact this.symm
  generalize b / 2 ^ p=q at hle hbit h16 h0' ⊢;rw[zqr (by omega),zqr (by omega),zqr (by omega),zqr (fI (by omega))]
  by_cases h0:0 < q
  ·have hp16:p < 16:=by
    rcases Nat.lt_or_ge p 16 with h1 | h1
    ·exact h1
    ·have:=h16 (by omega); omega
   rw[if_pos (by omega),zqr (by omega),zqr (by omega),zqr (by omega),zqr (fI (by omega)),zqr (by omega),zqr (by omega),zqr (fI (by omega))]
   by_cases h1:q % 2=1
   ·rw[if_pos (by omega),zqr (show acc.length < 1048576 by rw[ha]; omega),zqr (fI (by omega)),show(p:Int)+1=((p+1:Nat):Int) by omega];refine zzP hb d (p+1) _ (by omega) (by omega) ?_
    show _=zyO b p++(if b.testBit p then [(p:Int)] else [])
    rw[ha,hbit,h1]; rfl
   ·rw[if_neg (by omega),zqr (fI (by omega)),show(p:Int)+1=((p+1:Nat):Int) by omega];refine zzP hb d (p+1) _ (by omega) (by omega) ?_
    show _=zyO b p++(if b.testBit p then [(p:Int)] else [])
    rw[ha,hbit,decide_eq_false h1]; simp
  ·rw[if_neg (by omega),ha];exact congrArg some (h0' (by omega))
theorem zzQ{b:Nat}(hb:b < 65536):zsF (b:Int)=some (zyP b):=zzP hb 1000000 0 [] (Nat.zero_le _) (by omega) rfl
theorem zzR{a b:List Int}(hl:a.length<=1000):∀(d k:Nat),k<=a.length->a.length - k < d->zsG a b d (k:Int)=some (bef (a.drop k) (b.drop k))
 | 0,_,_,h=>by omega
 | d+1,k,hk,h=>by
  rw[zsG]
  by_cases hka:k < a.length
  ·rw[if_pos (by omega)];have da:=List.drop_eq_getElem_cons hka;have ga:=List.getElem?_eq_getElem hka
   by_cases hkb:k < b.length
   ·have db:=List.drop_eq_getElem_cons hkb;have gb:=List.getElem?_eq_getElem hkb;rw[if_pos (by omega),zrF ga,obs,zrF gb,obs,da,db];unfold bef
    by_cases he:a[k]=b[k]
    ·rw[if_pos he,if_pos he,zqr (fI (by omega)),show(k:Int)+1=((k+1:Nat):Int) by omega];exact zzR hl d (k+1) (by omega) (by omega)
    ·rw[if_neg he,if_neg he,obs,obs]
   ·rw[if_neg (by omega),da,List.drop_eq_nil_of_le (show b.length<=k by omega),decide_eq_false (by omega)]; rfl
  ·rw[if_neg (by omega),List.drop_eq_nil_of_le (show a.length<=k by omega)]
   by_cases hkb:k < b.length
   ·rw[List.drop_eq_getElem_cons hkb,decide_eq_true (by omega)]; rfl
   ·rw[List.drop_eq_nil_of_le (show b.length<=k by omega),decide_eq_false (by omega)]; rfl
theorem zzS{a b:List Int}(hl:a.length<=1000):zsH a b=some (bef a b):=zzR hl (a.length+1) 0 (Nat.zero_le _) (by omega)
theorem zzT{a b:List Int}(hl:a.length<=1000):zsI a b=some (shB a b):=by
 unfold zsI shB
 by_cases h1:a.length < b.length
 ·rw[if_pos (by omega),decide_eq_true h1]; rfl
 ·rw[if_neg (by omega),decide_eq_false h1]
  by_cases h2:a.length=b.length
  ·rw[if_pos (by omega),zzS hl,decide_eq_true h2]; simp
  ·rw[if_neg (by omega),decide_eq_false h2]; simp
theorem zzU{b:Nat}:(zyP b).length<=16:=zyT 16
theorem zzV{a b:List Int}(hl:a.length=b.length):(bef a b=false/\bef b a=false)↔a=b:=by
 constructor
 ·rintro⟨h1,h2⟩
  rcases zyX a b with h | h | h
  ·exact h
  ·rw[h1] at h; cases h
  ·rw[h2] at h; cases h
 ·rintro rfl; exact⟨zyV _,zyV _⟩
theorem zzW{a b:List Int}(ha:a.length<=1000)(hb:b.length<=1000):zsJ a b=some (decide (a=b)):=by
 unfold zsJ
 by_cases hl:a.length=b.length
 ·rw[if_pos (by omega),zzS ha,obs];have h:=zzV hl
  cases h1:bef a b with
  | true=>rw[if_pos rfl,decide_eq_false fun he=>by have:=(h.2 he).1; rw[h1] at this; cases this]
  | false=>
   rw[if_neg (by decide),zzS hb,obs]
   cases h2:bef b a with
   | true=>rw[decide_eq_false fun he=>by have:=(h.2 he).2; rw[h2] at this; cases this]; rfl
   | false=>rw[decide_eq_true (h.1 ⟨h1,h2⟩)]; rfl
 ·rw[if_neg (by omega),decide_eq_false fun he=>hl (by rw[he])]
def zzX(s:Soc):Prop:=s.Members.length<=8/\s.Losses.length<=6
theorem zzY{s:Soc}:Ev (zuf s) (zzX s):=by
 unfold zuf zzX
 by_cases h:(s.Members.length:Int)<=8
 ·rw[if_pos h]; exact Ev.dec (by omega)
 ·rw[if_neg h]; exact Ev.ff (by omega)
theorem zyc.thin{s:Soc}(h:zyc s):zzX s:=⟨by have:=h.m5; omega,by have:=h.l3; omega⟩
theorem zzZ{s:Soc}(h:zzX s):zue s=some s:=by
 unfold zue
 show zud s 1000000 [] [] s.Treaty.Lo s.Treaty.Hi s.Reserve 0=_
 obtain⟨h1,h2⟩:=h
 have k1:zuc s s.Members 1000000 [] s.Treaty.Lo s.Treaty.Hi s.Reserve 0=some s:=by
  refine(zrL (l:=s.Losses) (fun r=>r) (F:=fun d acc x=>zuc s s.Members d acc s.Treaty.Lo s.Treaty.Hi s.Reserve x) (fun acc=>some ({ Members:=s.Members,Losses:=acc,Treaty:=s.Treaty,Reserve:=s.Reserve }:Soc)) (fun d k acc a hk ha=>?_) (fun d acc=>?_) (d:=1000000) (by omega)).trans (by rw[List.map_id'])
  ·have hkl:=(List.getElem?_eq_some_iff.1 hk).1
   show zuc s s.Members (d+1) _ _ _ _ _=_
   rw[zuc,if_pos (by omega),zrF hk,obs]
   show(some a).bind _=_
   rw[obs,zqr (by omega),zqr (fI (by omega))]
  ·show zuc s s.Members (d+1) _ _ _ _ _=_
   rw[zuc,if_neg (Int.lt_irrefl _)]
 refine(zrL (l:=s.Members) (fun r=>r) (F:=fun d acc x=>zud s d acc [] s.Treaty.Lo s.Treaty.Hi s.Reserve x) (fun acc=>zuc s acc 1000000 [] s.Treaty.Lo s.Treaty.Hi s.Reserve 0) (fun d k acc a hk ha=>?_) (fun d acc=>?_) (d:=1000000) (by omega)).trans (by rw[List.map_id']; exact k1)
 ·have hkl:=(List.getElem?_eq_some_iff.1 hk).1
  show zud s (d+1) _ _ _ _ _ _=_
  rw[zud,if_pos (by omega),zrF hk,obs,zqr (by omega),zqr (fI (by omega))]
 ·show zud s (d+1) _ _ _ _ _ _=_
  rw[zud,if_neg (Int.lt_irrefl _)]
theorem zz0{s:Soc}:Ev (zuk s) (zyc s):=by
 unfold zuk
 by_cases ht:zzX s
 ·rw[zzY.some_of ht,obs,if_pos rfl,zyp ht.1 ht.2,obs];exact Ev.dec zye
 ·rw[zzY.some_not ht,obs,if_neg (by decide)];exact Ev.ff fun h=>ht h.thin
def zz1(most:Int):Soc:={ Members:=[{ Sum:=100,Class:=2,Most:=most },{ Sum:=100,Class:=1,Most:=60 },{ Sum:=50,Class:=2,Most:=most }],Losses:=[{ Lo:=200,Hi:=210 },{ Lo:=90,Hi:=90 }],Treaty:={ Lo:=20,Hi:=25 },Reserve:=30 }
theorem zz2(most:Int):zui most=some (zz1 most):=rfl
theorem zz3{most:Int}(h:0<=most/\most<=100000):zyc (zz1 most):=by
 refine⟨Nat.le_of_ble_eq_true rfl,Nat.le_of_ble_eq_true rfl,Nat.le_of_ble_eq_true rfl,fun a ha=>?_,fun r hr=>?_,by show RgV ⟨20,25⟩; decide,by show(0:Int)<=30/\(30:Int)<=_; omega⟩
 ·rcases List.mem_cons.1 ha with rfl | ha
  ·exact⟨by show(1:Int)<=100/\(100:Int)<=1000; omega,by show(1:Int)<=2/\(2:Int)<=10; omega,h⟩
  rcases List.mem_cons.1 ha with rfl | ha
  ·exact⟨by decide,by decide,by decide⟩
  rcases List.mem_cons.1 ha with rfl | ha
  ·exact⟨by show(1:Int)<=50/\(50:Int)<=1000; omega,by show(1:Int)<=2/\(2:Int)<=10; omega,h⟩
  ·cases ha
 ·rcases List.mem_cons.1 hr with rfl | hr
  ·decide
  rcases List.mem_cons.1 hr with rfl | hr
  ·decide
  ·cases hr
theorem f64{n:Int}(h:-1000000<=n/\n<=1000000):zl6 .i64 n:=fI (by omega)
theorem zz4:zuj=some true:=by
 have h5:zyc (zz1 500):=zz3 (by omega);have h1:zyc (zz1 150):=zz3 (by omega)
 have n5:zt2 (zz1 500)=some ({ Lo:=235,Hi:=250 },0):=by
  rw[zzm h5]
  have e1:loN (zz1 500)=235:=by decide +kernel
  have e2:hiN (zz1 500)=250:=by decide +kernel
  rw[e1,e2]
 have c5:zt4 (zz1 500) 250=some ([127,60,63],0,0):=by
  rw[zzq h5 (by omega)]
  have e1:zzo (zz1 500) [] 250=[127,60,63]:=by decide +kernel
  have e2:(zxZ (zz1 500).Members (zyq (zz1 500).Members.length []) 250).2=0:=by decide +kernel
  rw[e1,e2]
 have b5:zt7 (zz1 500)=some (zzs (zz1 500) [],0):=zzw h5
 have eb:zzs (zz1 500) []=[{ Lo:=117,Hi:=127 },{ Lo:=59,Hi:=60 },{ Lo:=59,Hi:=63 }]:=by
  have e1:(zzs (zz1 500) []).map (·.Lo)=[117,59,59]:=by decide +kernel
  have e2:(zzs (zz1 500) []).map (·.Hi)=[127,60,63]:=by decide +kernel
  have e3:(zzs (zz1 500) []).length=3:=zzt []
  revert e1 e2 e3
  generalize zzs (zz1 500) []=l;intro e1 e2 e3
  match l,e3 with
  | [⟨a1,a2⟩,⟨b1,b2⟩,⟨c1,c2⟩],_=>
   simp only[List.map_cons,List.map_nil,List.cons.injEq,and_true] at e1 e2
   obtain⟨rfl,rfl,rfl⟩:=e1;obtain⟨rfl,rfl,rfl⟩:=e2
   rfl
 have r5:zt9 (zz1 500)=some (64,0):=by
  have m63:brN (zz1 500).Members 63 < 250:=by decide +kernel
  have m64:250<=brN (zz1 500).Members 64:=by decide +kernel
  have e2:hiN (zz1 500)=250:=by decide +kernel
  rcases zzJ h5 with ⟨k,q1,q2,q3,q4⟩ | ⟨q1,q2⟩
  ·rw[e2] at q3 q4
   have hk:k=64:=by
    apply Classical.byContradiction
    intro hne
    rcases Nat.lt_or_ge k 64 with h | h
    ·have:=zzC h5.full.ms (r:=(k:Int)) (t:=63) (by omega); omega
    ·have:=q4 64 (by omega);have e:((64:Nat):Int)=64:=rfl;rw[e] at this; omega
   subst hk; exact q1
  ·have:=q2 64 (by omega);have e:((64:Nat):Int)=64:=rfl;rw[e2,e] at this; omega
 have x5:zua (zz1 500)=some ([0,2],0):=by
  rw[zzO h5 (by decide +kernel)]
  have e:zrv (zz1 500).Members.length (zzK (zz1 500))=[0,2]:=by decide +kernel
  rw[e]
 have x1:zua (zz1 150)=some ([0],0):=by
  rw[zzO h1 (by decide +kernel)]
  have e:zrv (zz1 150).Members.length (zzK (zz1 150))=[0]:=by decide +kernel
  rw[e]
 unfold zuj;rw[zz2,obs,n5,obs,obs,c5,obs,obs,b5,obs,obs,r5,obs,obs,x5,obs,zz2,obs,x1,obs,eb];have s1:zsJ [127,60,63] [127,60,63]=some true:=zzW (by decide) (by decide);have s2:zsJ [0,2] [0,2]=some true:=zzW (by decide) (by decide);have s3:zsJ [0] [0]=some true:=zzW (by decide) (by decide);have f:∀n:Int,-1000000<=n/\n<=1000000->zl6 .i64 n:=fun n h=>f64 h
 simp only[zuh,obs,zqr (f 235 (by omega)),zqr (f 250 (by omega)),zqr (f 117 (by omega)),zqr (f 127 (by omega)),zqr (f 59 (by omega)),zqr (f 60 (by omega)),zqr (f 63 (by omega)),s1,s2,s3]
 simp[idx]
 rw[zqr (f 117 (by omega)),zqr (f 127 (by omega)),zqr (f 59 (by omega)),zqr (f 60 (by omega)),zqr (f 59 (by omega)),zqr (f 63 (by omega))]
theorem awk{β:Type}{f:Bool->Option β}:(zuj).bind f=f true:=by rw[zz4,obs]
structure zz5 (s:Soc) (t:Tr):Prop where
 len:t.Losses.length=s.Losses.length
 at_:∀(k:Nat) (r:Rg) (x:Int),s.Losses[k]? = some r->t.Losses[k]? = some x->r.Lo<=x/\x<=r.Hi
 tr:s.Treaty.Lo<=t.Treaty/\t.Treaty<=s.Treaty.Hi
def zz6(s:Soc)(t:Tr):Int:=max 0 (zwY t.Losses - s.Reserve - t.Treaty)
theorem zz7{s:Soc}{t:Tr}(h3:s.Losses.length<=1000):Ev (zs9 s t) (zz5 s t):=by
 unfold zs9
 by_cases hl:t.Losses.length=s.Losses.length
 ·rw[if_pos (by omega)];refine(Ev.loop (n:=s.Losses.length) (F:=fun d x=>zs8 s t d x) (ok:=fun k=>∀(r:Rg) (x:Int),s.Losses[k]? = some r->t.Losses[k]? = some x->r.Lo<=x/\x<=r.Hi) (fin:=(zsK s.Treaty t.Treaty).bind fun r=>some r) (P:=s.Treaty.Lo<=t.Treaty/\t.Treaty<=s.Treaty.Hi) (fun d k hk=>?_) (fun d=>?_) (by omega) fun _=>zyf.ret).imp ?_
  ·have h1:=List.getElem?_eq_getElem hk;have h2:=List.getElem?_eq_getElem (show k < t.Losses.length by omega)
   show(_->zs8 s t (d+1) (k:Int)=_)/\_
   rw[zs8,if_pos (by omega),zrF h1,obs,zrF h2,obs];have:=Ev.step (f:=fun r=>if r=true then gd (zl6 .i64 ((k:Int)+1)) (zs8 s t d ((k:Int)+1)) else some false) (zyf (r:=s.Losses[k]) (n:=t.Losses[k])) (by rw[if_pos rfl,zqr (fI (by omega))]) (by rw[if_neg (by decide)]);exact⟨fun h=>this.1 (h _ _ h1 h2),fun h=>this.2 fun h4=>h fun r x hr hx=>by rw[h1] at hr; rw[h2] at hx; cases hr; cases hx; exact h4⟩
  ·show zs8 s t (d+1) _=_
   rw[zs8,if_neg (Int.lt_irrefl _)]
  ·exact⟨fun⟨h1,h2⟩=>⟨hl,fun k r x hr hx=>h1 k (List.getElem?_eq_some_iff.1 hr).1 r x hr hx,h2⟩,fun h=>⟨fun k _ r x hr hx=>h.at_ k r x hr hx,h.tr⟩⟩
 ·rw[if_neg (by omega)]; exact Ev.ff fun h=>hl h.len
theorem zz8{l:List Int}{k:Nat}{a:Int}(h:l[k]? = some a):zwY (l.take (k+1))=zwY (l.take k)+a:=by
 rw[List.take_add_one,h,zwZ]
 show _+(a+0)=_; omega
theorem zz9{s:Soc}(hs:zyc s){t:Tr}(ht:zz5 s t):∀x∈t.Losses,0<=x/\x<=100000:=fun x hx=>by
 obtain⟨k,hk⟩:=List.mem_iff_getElem?.1 hx;have hlt:=(List.getElem?_eq_some_iff.1 hk).1;have hr:=List.getElem?_eq_getElem (show k < s.Losses.length by have:=ht.len; omega);have h1:=ht.at_ k _ x hr hk;have h2:=hs.full.ls _ (List.getElem_mem (show k < s.Losses.length by have:=ht.len; omega));unfold RgV at h2; omega
theorem zAa{l:List Int}{B:Int}(h:∀x∈l,0<=x/\x<=B):0<=zwY l/\zwY l<=B * l.length:=by
 induction l with
 | nil=>exact⟨Int.le_refl _,by show(0:Int)<=B * ((0:Nat):Int); simp⟩
 | cons a l ih=>
  have ih:=ih fun x hx=>h x (List.mem_cons_of_mem _ hx);have:=h a (List.mem_cons_self ..)
  show 0<=a+zwY l/\a+zwY l<=_
  rw[List.length_cons,Int.natCast_add,Int.mul_add]
  show _/\_<=_+B * 1
  omega
theorem zAb{s:Soc}(hs:zyc s){t:Tr}(ht:zz5 s t):ztk s t=some (zz6 s t,0):=by
 have h1:=hs.m5; have h2:=hs.l3;have htr:=hs.full.tr;unfold RgV at htr;have htt:=ht.tr;have hb:=zz9 hs ht;have hl:=ht.len;unfold ztk;rw[zyl (by unfold zrP; omega) (by unfold zrP; omega),obs,if_pos (zye.2 hs),(zz7 (by omega)).some_of ht,obs,if_pos rfl];refine zwH (n:=t.Losses.length) (fun d acc x=>ztj s t d acc x) (fun k=>zwY (t.Losses.take k)) (fun d k hk=>?_) (fun d=>?_) _ 0 (by omega) (by omega)
 ·have hg:=List.getElem?_eq_getElem hk;have h3:=zAa (l:=t.Losses.take k) (B:=100000) fun x hx=>hb x (List.mem_of_mem_take hx);have h4:=hb _ (List.getElem_mem hk)
  have h5:(t.Losses.take k).length<=3:=by rw[List.length_take]; omega
  show ztj s t (d+1) _ _=_
  rw[ztj,if_pos (by omega),zrF hg,obs,zqr (fI (by omega)),zqr (fI (by omega)),zz8 hg]
 ·have h3:=zAa (l:=t.Losses) (B:=100000) hb
  show ztj s t (d+1) _ _=_
  rw[ztj,if_neg (Int.lt_irrefl _),List.take_length,zyI (by omega) (by omega) hs.full.rs,obs]; rfl
theorem zAc{s:Soc}(hs:zyc s){t:Tr}(hl:t.Losses.length<=9)(hb:∀x∈t.Losses,0<=x/\x<=100000)(ht:0<=t.Treaty/\t.Treaty<=100000):zsi s t=some (zz6 s t):=by
 have hr:=hs.full.rs;unfold zsi;rw[zqr (fI (by omega)),zqr (fI (by omega))];have key:=zwH (n:=t.Losses.length) (fun d acc x=>zsh t d acc x) (fun k=>0 - s.Reserve - t.Treaty+zwY (t.Losses.take k)) (fin:=some (zz6 s t)) (fun d k hk=>?_) (fun d=>?_) 1000000 0 (by omega) (by omega)
 ·have e:0 - s.Reserve - t.Treaty+zwY (t.Losses.take 0)=0 - s.Reserve - t.Treaty:=by show _+0=_; omega
  rw[e] at key; exact key
 ·have hg:=List.getElem?_eq_getElem hk;have h3:=zAa (l:=t.Losses.take k) (B:=100000) fun x hx=>hb x (List.mem_of_mem_take hx);have h4:=hb _ (List.getElem_mem hk)
  have h5:(t.Losses.take k).length<=9:=by rw[List.length_take]; omega
  show zsh t (d+1) _ _=_
  rw[zsh,if_pos (by omega),zrF hg,obs,zqr (fI (by omega)),zqr (fI (by omega)),zz8 hg,Int.add_assoc]
 ·show zsh t (d+1) _ _=_
  rw[zsh,if_neg (Int.lt_irrefl _),List.take_length];unfold zz6;exact congrArg some (by omega)
theorem zAd{s:Soc}(hs:zyc s):zsk s=some { Lo:=loN s,Hi:=hiN s }:=by
 have h2:=hs.l3;have htr:=hs.full.tr;unfold RgV at htr
 have hb:∀r∈s.Losses,(0<=r.Lo/\r.Lo<=100000)/\0<=r.Hi/\r.Hi<=100000:=fun r hr=>by have:=hs.full.ls r hr; unfold RgV at this; omega
 unfold zsk;refine zwH (n:=s.Losses.length) (fun d (st:List Int × List Int) x=>zsj s d st.1 s.Treaty.Hi st.2 s.Treaty.Lo x) (fun k=>((s.Losses.take k).map (·.Lo),(s.Losses.take k).map (·.Hi))) (fun d k hk=>?_) (fun d=>?_) _ 0 (by omega) (by omega)
 ·have hg:=List.getElem?_eq_getElem hk
  show zsj s (d+1) ((s.Losses.take k).map (·.Lo)) _ ((s.Losses.take k).map (·.Hi)) _ _=_
  have hl1:((s.Losses.take k).map (·.Lo)).length<=3:=by rw[List.length_map,List.length_take]; omega
  have hl2:((s.Losses.take k).map (·.Hi)).length<=3:=by rw[List.length_map,List.length_take]; omega
  rw[zsj,if_pos (by omega),zrF hg,obs,zqr (by omega),obs,zqr (by show _+1<=_; omega),zqr (fI (by omega))];rw[List.take_add_one,hg,List.map_append,List.map_append]; rfl
 ·show zsj s (d+1) ((s.Losses.take s.Losses.length).map (·.Lo)) _ ((s.Losses.take s.Losses.length).map (·.Hi)) _ _=_
  rw[zsj,if_neg (Int.lt_irrefl _),List.take_length,zAc hs (t:={ Losses:=s.Losses.map (·.Lo),Treaty:=s.Treaty.Hi }) (by rw[List.length_map]; omega) (fun x hx=>by obtain⟨r,hr,rfl⟩:=List.mem_map.1 hx; exact(hb r hr).1) (by show 0<=s.Treaty.Hi/\s.Treaty.Hi<=100000; omega),obs,zAc hs (t:={ Losses:=s.Losses.map (·.Hi),Treaty:=s.Treaty.Lo }) (by rw[List.length_map]; omega) (fun x hx=>by obtain⟨r,hr,rfl⟩:=List.mem_map.1 hx; exact(hb r hr).2) (by show 0<=s.Treaty.Lo/\s.Treaty.Lo<=100000; omega),obs]; rfl
theorem zAe(f:Nat->Int){n:Nat}(hn:n<=5)(h:∀i,n<=i->i < 5->f i=0):part f n=S5 f:=by
 rw[zxn f hn];refine zw2 fun i hi=>?_
 by_cases hin:i < n
 ·rw[if_pos hin]
 ·rw[if_neg hin,h i (by omega) hi]
section
variable {ms:List Mb} {ask:Nat->Bool} {N:Int}
end
theorem zAf{n i:Nat}:zyq n [] i=decide (i < n):=by unfold zyq; simp
end
end Go.Proofs.Ytkclhciahokifaa

namespace Go.Proofs.Ytkclhciahokifaa
open _root_.Go.Proofs.Try
open Go.Abs
set_option maxRecDepth 100000
noncomputable section
theorem zAg(l:List Int):∀{k:Nat},k<=l.length->zwY (l.take k)=part (fun i=>l[i]?.getD 0) k
 | 0,_=>rfl
 | k+1,h=>by
  have hg:=List.getElem?_eq_getElem (show k < l.length by omega);rw[zz8 hg,zAg l (by omega)]
  show _=part _ k+(l[k]?.getD 0)
  rw[hg]; rfl
theorem zAh{i:Nat}(h:i<=8):2 ^ i<=256:=Nat.le_trans (Nat.pow_le_pow_right (by omega) h) (by decide)
def zAi(n:Nat):Nat:=2 ^ n - 1
theorem zAj(n:Nat):zAi n < 2 ^ n:=by have:0 < 2 ^ n:=Nat.two_pow_pos n; unfold zAi; omega
theorem zAk{s:Soc}(h:s.Members.length<=8):zsw s=some (zAi s.Members.length:Int):=by
 have hp:=zAh h;have hp0:0 < 2 ^ s.Members.length:=Nat.two_pow_pos _;have hw:zmb .u64 (s.Members.length:Int)=(s.Members.length:Int):=wz (show(0:Int)<=s.Members.length/\(s.Members.length:Int) < 18446744073709551616 by omega)
 have hpow:(1:Int) * 2 ^ (Int.toNat (zmb .u64 (s.Members.length:Int)))=((2 ^ s.Members.length:Nat):Int):=by rw[hw,Int.toNat_natCast,Int.one_mul,Int.natCast_pow]; rfl
 unfold zsw zAi;rw[hpow,zqr (by omega),hw,zqr (by omega),zqr (by omega),zqr (fI (by omega)),zqr (fI (by omega))]
 congr 1
 omega
def zAl(B n:Nat):Nat:=Nat.land B (zAi n)
theorem zAm(B n j:Nat):(zAl B n).testBit j=(B.testBit j && decide (j < n)):=by
 show(B &&& (2 ^ n - 1)).testBit j=_
 rw[Nat.testBit_and,Nat.testBit_two_pow_sub_one]
theorem zAn(B n:Nat):zAl B n < 2 ^ n:=Nat.lt_pow_two_of_testBit _ fun j hj=>by rw[zAm,decide_eq_false (by omega),Bool.and_false]
theorem zAo(B k:Nat):(B:Int) / 2 ^ k % 2=((B / 2 ^ k % 2:Nat):Int):=by rw[zyU]; rfl
theorem zAp{B k:Nat}:(B:Int) / 2 ^ k % 2=0↔B.testBit k=false:=by
 rw[zAo,Nat.testBit_eq_decide_div_mod_eq,decide_eq_false_iff_not]; omega
theorem zAq{B k:Nat}:(B:Int) / 2 ^ k % 2=1↔B.testBit k=true:=by
 rw[zAo,Nat.testBit_eq_decide_div_mod_eq,decide_eq_true_eq]; omega
theorem zAr{b n:Nat}(hn:n<=5)(hb:b < 2 ^ n)(j:Nat):(j:Int)∈zyP b↔j < n/\b.testBit j=true:=by
 unfold zyP;rw[zyQ]
 constructor
 ·rintro⟨_,_,h⟩
  rw[show((j:Int)).toNat=j from rfl] at h;refine⟨Nat.lt_of_not_le fun hj=>?_,h⟩
  rw[Nat.testBit_lt_two_pow (Nat.lt_of_lt_of_le hb (Nat.pow_le_pow_right (by omega) hj))] at h; cases h
 ·rintro⟨h1,h2⟩
  exact⟨by omega,by omega,h2⟩
theorem zAs{b n:Nat}(hn:n<=5)(hb:b < 2 ^ n)(j:Nat):zyq n (zyP b) j=(decide (j < n) && !b.testBit j):=by
 unfold zyq
 by_cases h:j < n
 ·have e:decide ((j:Int)∈zyP b)=b.testBit j:=by
   cases ht:b.testBit j with
   | true=>exact decide_eq_true ((zAr hn hb j).2 ⟨h,ht⟩)
   | false=>exact decide_eq_false fun hm=>by have:=((zAr hn hb j).1 hm).2; rw[ht] at this; cases this
  rw[e]
 ·rw[decide_eq_false h,Bool.false_and,Bool.false_and]
theorem zAt{n:Int}(h:zl6 .u8 n):∃B:Nat,n=(B:Int)/\B < 256:=⟨n.toNat,by have:=fU8 h; omega,by have:=fU8 h; omega⟩
def zAu(b:Nat)(ms:List Mb):Nat->List Mb
 | 0=>[]
 | k+1=>zAu b ms k++(if b.testBit k then [] else ms[k]?.toList)
theorem zAv{b:Nat}{ms:List Mb}:∀k,(zAu b ms k).length<=k
 | 0=>Nat.le_refl _
 | k+1=>by
  have:=zAv (b:=b) (ms:=ms) k
  show(zAu b ms k++_).length<=_
  rw[List.length_append]
  have:((if b.testBit k then ([]:List Mb) else ms[k]?.toList)).length<=1:=by
   split
   ·exact Nat.zero_le _
   ·cases ms[k]? <;> simp
  omega
theorem zAw{b:Nat}{ms:List Mb}{a:Mb}:∀k,a∈zAu b ms k->a∈ms
 | 0,h=>by cases h
 | k+1,h=>by
  rcases List.mem_append.1 (show a∈zAu b ms k++_ from h) with h | h
  ·exact zAw k h
  ·split at h
   ·cases h
   ·cases hm:ms[k]? with
    | none=>rw[hm] at h; cases h
    | some c=>
     rw[hm] at h;rw[List.mem_singleton.1 h];exact List.mem_of_getElem? hm
theorem zAx{b:Nat}{ms:List Mb}{n:Nat}(hn:ms.length=n)(h5:n<=5)(hb:b < 2 ^ n):∀k,k<=n->zwY ((zAu b ms k).map (·.Most))=part (mF ms (zyq n (zyP b))) k
 | 0,_=>rfl
 | k+1,h=>by
  have hg:=List.getElem?_eq_getElem (show k < ms.length by omega)
  show zwY ((zAu b ms k++_).map _)=part _ k+mF ms (zyq n (zyP b)) k
  rw[List.map_append,zwZ,zAx hn h5 hb k (by omega)]
  congr 1
  cases ht:b.testBit k with
  | true=>
   rw[if_pos rfl,show mF ms (zyq n (zyP b)) k=0 from zxQ (by rw[zAs h5 hb,ht]; simp)]; rfl
  | false=>
   rw[if_neg (by decide),hg,show mF ms (zyq n (zyP b)) k=ms[k].Most from zxR hg (by rw[zAs h5 hb,ht,decide_eq_true (by omega)]; rfl)]
   show ms[k].Most+0=_
   omega
theorem zAy(ms:List Mb)(i:Nat):mF ms (zyq ms.length []) i=(ms.map (·.Most))[i]?.getD 0:=by
 cases hm:ms[i]? with
 | none=>
  have:mF ms (zyq ms.length []) i=0:=by unfold mF zwT; rw[hm]
  rw[this,List.getElem?_map,hm]; rfl
 | some a=>
  have hi:=(List.getElem?_eq_some_iff.1 hm).1;have:mF ms (zyq ms.length []) i=a.Most:=zxR hm (by rw[zAf]; exact decide_eq_true hi);rw[this,List.getElem?_map,hm]; rfl
theorem zAz{ms:List Mb}(h:ms.length<=5):S5 (mF ms (zyq ms.length []))=zwY (ms.map (·.Most)):=by
 have e1:S5 (mF ms (zyq ms.length []))=S5 fun i=>(ms.map (·.Most))[i]?.getD 0:=zw2 fun i _=>zAy ms i;rw[e1,<- zAe (fun i=>(ms.map (·.Most))[i]?.getD 0) (n:=ms.length) h (fun i h1 _=>by rw[List.getElem?_eq_none (by rw[List.length_map]; exact h1)]; rfl),<- zAg _ (by rw[List.length_map]; exact Nat.le_refl _),List.take_of_length_le (by rw[List.length_map]; exact Nat.le_refl _)]
def zAA(s:Soc)(b:Nat):Soc:={ Members:=zAu b s.Members s.Members.length,Losses:=s.Losses,Treaty:={ Lo:=s.Treaty.Lo,Hi:=s.Treaty.Hi },Reserve:=s.Reserve }
theorem zAB{s:Soc}(h5:s.Members.length<=5){b:Nat}(hb:b < 256):∀(d k:Nat),k<=s.Members.length->s.Members.length - k < d->zum s (b:Int) d (zAu b s.Members k) s.Treaty.Lo s.Treaty.Hi s.Reserve (k:Int)=some (zAA s b,decide ((0:Int) < ((zAA s b).Members.length:Int)))
 | 0,_,_,h=>by omega
 | d+1,k,hk,hd=>by
  rw[zum]
  by_cases hkn:k < s.Members.length
  ·have hg:=List.getElem?_eq_getElem hkn
   have hbz:(b:Int) / 2 ^ k % 2=0\/(b:Int) / 2 ^ k % 2=1:=by omega
   have hq0:0<=(b:Int) / 2 ^ k:=by rw[zyU]; exact Int.natCast_nonneg _
   have hq1:(b:Int) / 2 ^ k<=b:=by rw[zyU]; exact Int.ofNat_le.2 (Nat.div_le_self _ _)
   have ek:(k:Int)+1=((k+1:Nat):Int):=by omega
   have hkl:=zAv (b:=b) (ms:=s.Members) k;rw[if_pos (by omega),wu (by omega),zqr (by omega),zqr (by omega),zqr (by omega),Int.toNat_natCast,zqr (fI (by omega)),zqr hq0,zqr (by omega),zqr (fI (by omega))]
   cases ht:b.testBit k with
   | false=>
    rw[if_pos (zAp.2 ht),zrF hg,obs,zqr (by omega),zqr (fI (by omega)),ek]
    have e:zAu b s.Members k++[s.Members[k]]=zAu b s.Members (k+1):=by
     show _=zAu b s.Members k++_
     rw[ht,if_neg (by decide),hg]; rfl
    rw[e];exact zAB h5 hb d (k+1) (by omega) (by omega)
   | true=>
    rw[if_neg (by have:=(zAq (B:=b) (k:=k)).2 ht; omega),zqr (fI (by omega)),ek]
    have e:zAu b s.Members k=zAu b s.Members (k+1):=by
     show _=zAu b s.Members k++_
     rw[ht,if_pos rfl,List.append_nil]
    rw[e];exact zAB h5 hb d (k+1) (by omega) (by omega)
  ·have hkn:k=s.Members.length:=by omega
   subst hkn;rw[if_neg (by omega)]; rfl
theorem zAC{s:Soc}(hs:zyc s){b:Nat}(hb:b < 2 ^ s.Members.length):zuo s (b:Int)=some (zzK s (zyP b),true):=by
 have h5:=hs.m5;have hpw:=zAh (show s.Members.length<=8 by omega);have hwo:zun s (b:Int)=some (zAA s b,decide ((0:Int) < ((zAA s b).Members.length:Int))):=zAB h5 (by omega) 1000000 0 (Nat.zero_le _) (by omega);have hsum:=zAx rfl h5 hb _ (Nat.le_refl _);have hpart:part (mF s.Members (zyq s.Members.length (zyP b))) s.Members.length=S5 (mF s.Members (zyq s.Members.length (zyP b))):=zAe _ h5 fun i h1 _=>zxQ (by rw[zAs h5 hb,decide_eq_false (by omega)]; rfl);rw[hpart] at hsum;have hm:=zzL hs (zyP b);unfold zuo;rw[hwo,obs];have hkl:(zAA s b).Members.length<=s.Members.length:=zAv _
 by_cases hp:(0:Int) < ((zAA s b).Members.length:Int)
 ·have hy:zyc (zAA s b):=⟨by omega,hs.l3,by omega,fun a ha=>hs.full.ms a (zAw _ ha),hs.full.ls,hs.full.tr,hs.full.rs⟩;have hm2:=zzL hy [];rw[zAz hy.m5,show(zAA s b).Members=zAu b s.Members s.Members.length from rfl,hsum] at hm2;have e:zzK (zAA s b) []=zzK s (zyP b):=Bool.eq_iff_iff.2 (hm2.trans hm.symm);rw[if_pos (decide_eq_true hp),zzZ hy.thin,obs,zzy hy,obs,<- e]
  rfl
 ·rw[if_neg (by rw[decide_eq_false hp]; intro h; cases h),zAd hs,obs];have hz:(zAu b s.Members s.Members.length)=[]:=List.length_eq_zero_iff.1 (by have:(zAu b s.Members s.Members.length).length=(zAA s b).Members.length:=rfl; omega);rw[hz] at hsum;have hsum:0=S5 (mF s.Members (zyq s.Members.length (zyP b))):=hsum;rw[<- hsum] at hm
  congr 2
  exact Bool.eq_iff_iff.2 (by rw[decide_eq_true_iff]; exact hm.symm)
theorem zAD{s:Soc}{l:List Int}(h5:s.Members.length<=5)(hl:l.length<=5)(ho:zyw s.Members.length l):∀(d k:Nat),k<=l.length->l.length - k < d->zsA s l d (k:Int)=some true
 | 0,_,_,h=>by omega
 | d+1,k,hk,hd=>by
  rw[zsA]
  by_cases hkn:k < l.length
  ·have hg:=List.getElem?_eq_getElem hkn;have hv:=ho.2 _ (List.getElem_mem hkn)
   have ek:(k:Int)+1=((k+1:Nat):Int):=by omega
   rw[if_pos (by omega),zrF hg,obs,zqr (fI (by omega)),zym.some_of hv,obs,if_pos rfl]
   by_cases h0:(0:Int) < (k:Int)
   ·have e1:(k:Int) - 1=((k - 1:Nat):Int):=by omega
    have hg2:=List.getElem?_eq_getElem (show k - 1 < l.length by omega);have hlt:=zyx.2 ho.1 k (by omega) hkn _ _ hg2 hg;rw[if_pos h0,obs,zqr (fI (by omega)),e1,zrF hg2,obs,if_neg (by omega),zqr (fI (by omega)),ek];exact zAD h5 hl ho d (k+1) (by omega) (by omega)
   ·rw[if_neg h0,zqr (fI (by omega)),ek];exact zAD h5 hl ho d (k+1) (by omega) (by omega)
  ·rw[if_neg (by omega)]
def zAE(l:List Int):Int:=zwY (l.map fun v=>((2 ^ v.toNat:Nat):Int))
theorem zAF(b:Nat):∀p,zAE (zyO b p)=((b % 2 ^ p:Nat):Int)
 | 0=>by show(0:Int)=((b % 1:Nat):Int); rw[Nat.mod_one]; rfl
 | p+1=>by
  show zwY ((zyO b p++_).map _)=_
  rw[List.map_append,zwZ,show zwY ((zyO b p).map fun v=>((2 ^ v.toNat:Nat):Int))=((b % 2 ^ p:Nat):Int) from zAF b p,Nat.mod_pow_succ];have hd:=Nat.testBit_eq_decide_div_mod_eq (x:=b) (i:=p)
  cases ht:b.testBit p with
  | true=>
   rw[ht] at hd;have:=of_decide_eq_true hd.symm;rw[if_pos rfl,this,Nat.mul_one]
   show _+(((2 ^ p:Nat):Int)+0)=_
   omega
  | false=>
   rw[ht] at hd;have:=of_decide_eq_false hd.symm;rw[if_neg (by decide),show b / 2 ^ p % 2=0 by omega,Nat.mul_zero]
   show _+(0:Int)=_
   omega
theorem zAG{n:Nat}{l:List Int}(h5:n<=5)(hl:l.length<=5)(ho:zyw n l){E:Int}(hE:0<=E/\E<=1000):∀(d k:Nat),k<=l.length->l.length - k < d->zsC l d (E - zAE (l.take k)) (k:Int)=some (E - zAE l)
 | 0,_,_,h=>by omega
 | d+1,k,hk,hd=>by
  rw[zsC]
  by_cases hkn:k < l.length
  ·have hg:=List.getElem?_eq_getElem hkn;have hv:=ho.2 _ (List.getElem_mem hkn)
   have ek:(k:Int)+1=((k+1:Nat):Int):=by omega
   have hw:zmb .u64 l[k]=l[k]:=wz (show(0:Int)<=l[k]/\l[k] < 18446744073709551616 by omega);have hpw:=zAh (show l[k].toNat<=8 by omega)
   have hpow:(1:Int) * 2 ^ (Int.toNat (zmb .u64 l[k]))=((2 ^ l[k].toNat:Nat):Int):=by rw[hw,Int.one_mul,Int.natCast_pow]; rfl
   have hbd:∀j,j<=l.length->0<=zAE (l.take j)/\zAE (l.take j)<=256 * j:=fun j hj=>by
    have:=zAa (l:=(l.take j).map fun v=>((2 ^ v.toNat:Nat):Int)) (B:=256) fun x hx=>by
     obtain⟨v,hv,rfl⟩:=List.mem_map.1 hx;have h1:=ho.2 v (List.mem_of_mem_take hv);have:=zAh (show v.toNat<=8 by omega);exact⟨Int.natCast_nonneg _,Int.ofNat_le.2 this⟩
    rw[List.length_map,List.length_take] at this;unfold zAE
    omega
   have hb1:=hbd k (by omega);have hb2:=hbd (k+1) (by omega)
   have et:zAE (l.take (k+1))=zAE (l.take k)+((2 ^ l[k].toNat:Nat):Int):=by
    unfold zAE;rw[List.take_add_one,hg,List.map_append,zwZ]
    show _+(((2 ^ l[k].toNat:Nat):Int)+0)=_
    rw[Int.add_zero]
   rw[if_pos (by omega),zrF hg,obs,hpow,hw,zqr (by omega),zqr (by omega),zqr (by omega),zqr (fI (by omega)),zqr (fI (by omega)),zqr (fI (by omega)),ek,
    show E - zAE (l.take k) - ((2 ^ l[k].toNat:Nat):Int)=E - zAE (l.take (k+1)) by rw[et]; omega]
   exact zAG h5 hl ho hE d (k+1) (by omega) (by omega)
  ·rw[if_neg (by omega),List.take_of_length_le (by omega)]
theorem zAH{n:Nat}{l:List Int}(h:Inc n 0 l):zyw n l:=⟨h.1,fun v hv=>by have:=h.2 v hv; omega⟩
theorem zAI{s:Soc}(hs:zyc s)(h:hiN s ≠ 0):∃D,Inc s.Members.length 0 D/\zzK s D=true:=by
 have hn:=zyG hs;have hf:=zAj s.Members.length;refine⟨zyP (zAi s.Members.length),zy8 (by have:=hs.m5; omega) hf,(zzL hs _).2 ?_⟩
 have:S5 (mF s.Members (zyq s.Members.length (zyP (zAi s.Members.length))))=S5 fun _=>0:=zw2 fun i _=>zxQ (by
  rw[zAs hs.m5 hf]
  show(_ && !(2 ^ s.Members.length - 1).testBit i)=false
  rw[Nat.testBit_two_pow_sub_one]
  cases decide (i < s.Members.length) <;> rfl)
 rw[this]
 show(0:Int)+0+0+0+0 < _
 omega
theorem zAJ{s:Soc}(hs:zyc s)(B:Nat):∃r:List Int × Int,zua s=some r/\((r.2=7/\zzK s (zyP (zAl B s.Members.length))=false)\/(r.2=0/\Inc s.Members.length 0 r.1/\zzK s r.1=true/\(zzK s (zyP (zAl B s.Members.length))=true->shB (zyP (zAl B s.Members.length)) r.1=false))):=by
 have h5:=hs.m5;have hnb:=zyG hs;have hml:=zAn B s.Members.length;have hpw:=zAh (show s.Members.length<=8 by omega)
 by_cases h0:hiN s=0
 ·refine⟨_,zzN hs h0,.inl ⟨rfl,?_⟩⟩
  cases hq:zzK s (zyP (zAl B s.Members.length)) with
  | false=>rfl
  | true=>
   have:=(zzL hs _).1 hq
   have hge:0<=S5 (mF s.Members (zyq s.Members.length (zyP (zAl B s.Members.length)))):=by
    have:=zya hs.msOk (zys s.Members (zyP (zAl B s.Members.length))) (N:=0) (by omega);have:=zx5 hs.msOk (zys s.Members (zyP (zAl B s.Members.length))) (N:=0) (by omega)
    have h6:S5 (fun _=>(0:Int))<=S5 (mF s.Members (zyq s.Members.length (zyP (zAl B s.Members.length)))):=zxp fun i hi=>by
     have h1:=zx9 hs.msOk (zys s.Members (zyP (zAl B s.Members.length))) (N:=0) (by omega) hi;have h2:=zx8 hs.msOk (zys s.Members (zyP (zAl B s.Members.length))) (N:=0) (by omega) hi
     omega
    have h7:S5 (fun _=>(0:Int))=0:=rfl
    omega
   omega
 ·obtain⟨k1,k2,k3⟩:=zy5 (zAI hs h0);refine⟨_,zzO hs h0,.inr ⟨rfl,k1,k2,fun hq=>?_⟩⟩
  rcases k3 _ (zy8 (by omega) hml) hq with h | h
  ·rw[h]; exact zyY _
  ·exact zyZ h
theorem zAK{s:Soc}{bits:Int}(_:zr9 s)(hb:zl6 .u8 bits):zup s bits=some true:=by
 obtain⟨B,rfl,hB⟩:=zAt hb;unfold zup
 refine zz0.pick (fun hs=>?_) fun _=>by rw[if_neg (by decide),awk]
 have h5:=hs.m5;have hnb:=zyG hs;have hw1:zmb .i64 (B:Int)=(B:Int):=wz (fI (by omega));have hpw:=zAh (show s.Members.length<=8 by omega);have hfl:=zAj s.Members.length;have hml:=zAn B s.Members.length;obtain⟨r,hr,hc⟩:=zAJ hs B;rw[if_pos rfl,zzZ hs.thin,obs,hr,obs,hw1,zAk (by omega),obs,zqr (by omega),zqr (by omega),zqr (fI (by omega)),zqr (fI (by omega)),Int.toNat_natCast,Int.toNat_natCast]
 show gd (zl6 .i64 (zAl B s.Members.length:Int)) ((zuo s (zAl B s.Members.length:Int)).bind _)=_
 rw[zqr (fI (by omega)),zAC hs hml,obs,if_pos rfl]
 rcases hc with ⟨h1,h2⟩ | ⟨h1,h2,h3,h4⟩
 ·rw[if_neg (by omega),if_pos h1,if_neg (by rw[h2]; decide),awk]
 ·have hlen:=zyM h2;obtain⟨b,hb1,hb2⟩:=zy9 (by omega) h2
  have hpb:zAE r.1=(b:Int):=by rw[<- hb2]; exact(zAF b 16).trans (by rw[Nat.mod_eq_of_lt (by omega)])
  have hbut:zsD s r.1=some ((zAi s.Members.length:Int) - (b:Int)):=by
   unfold zsD;rw[zAk (by omega),obs];have:=zAG h5 (by omega) (zAH h2) (E:=(zAi s.Members.length:Int)) (by omega) (r.1.length+1) 0 (Nat.zero_le _) (by omega);rw[hpb] at this
   have e0:(zAi s.Members.length:Int) - zAE (r.1.take 0)=(zAi s.Members.length:Int):=by show _ - (0:Int)=_; omega
   rw[e0] at this;exact this
  have e1:(zAi s.Members.length:Int) - ((zAi s.Members.length:Int) - (b:Int))=(b:Int):=by omega
  have hil:zsB s r.1=some true:=zAD h5 (by omega) (zAH h2) (r.1.length+1) 0 (Nat.zero_le _) (by omega);rw[if_pos h1,hil,obs,if_pos rfl,obs,hbut,obs,e1,zqr (fI (by omega)),zAC hs hb1,obs,if_pos rfl,hb2,if_pos h3]
  cases hq:zzK s (zyP (zAl B s.Members.length)) with
  | false=>rw[if_neg (by decide),awk]
  | true=>
   have hlb:=zzU (b:=zAl B s.Members.length);rw[if_pos rfl]
   show(zsF (zAl B s.Members.length:Int)).bind _=_
   rw[zzQ (by omega),obs,zzT (by omega),obs,if_neg (by rw[h4 hq]; decide),awk]
end
end Go.Proofs.Ytkclhciahokifaa

namespace Go.Proofs.Ytkclhciahokifaa
open _root_.Go.Proofs.Try
open Go.ChangeShapes Go.WideShapes Go.ChangeAt Go.RowKit Go.Abs
set_option maxRecDepth 100000
theorem op3:zrV prog 3 Int (zl6 .i64):=zrW (by kernel_rfl)
theorem zAL:zrV prog 82 Mb zr7:=zr3 (fs:=[(3,0),(3,1),(3,2)]) (by kernel_rfl) (by kernel_rfl) (zr2 (α:=Int) (ok:=zl6 .i64) (k:=1) op3 (by kernel_rfl) rfl (zr2 (α:=Int) (ok:=zl6 .i64) (k:=1) op3 (by kernel_rfl) rfl (zr2 (α:=Int) (ok:=zl6 .i64) (k:=1) op3 (by kernel_rfl) rfl zr1))) (by kernel_rfl) fun m vs h=>by
 obtain⟨a0,c0,r0,m0,h0,p0,k0,s0,⟨a1,c1,r1,m1,h1,p1,k1,s1,⟨a2,c2,r2,m2,h2,p2,k2,s2,rfl⟩⟩⟩:=h;have p0:c0=[.int .i64 a0]:=p0; subst p0;have p1:c1=[.int .i64 a1]:=p1; subst p1;have p2:c2=[.int .i64 a2]:=p2; subst p2;subst h2 h1 h0;exact⟨⟨a0,a1,a2⟩,rfl,⟨k0,k1,k2⟩⟩
theorem zAM:zrV prog 22 (List Mb) (fun l=>l.length<=maxLen/\∀a0∈l,zr7 a0):=zrY (by kernel_rfl) (by kernel_rfl) zAL
theorem zAN:zrV prog 25 Rg zr5:=zr3 (fs:=[(3,0),(3,1)]) (by kernel_rfl) (by kernel_rfl) (zr2 (α:=Int) (ok:=zl6 .i64) (k:=1) op3 (by kernel_rfl) rfl (zr2 (α:=Int) (ok:=zl6 .i64) (k:=1) op3 (by kernel_rfl) rfl zr1)) (by kernel_rfl) fun m vs h=>by
 obtain⟨a0,c0,r0,m0,h0,p0,k0,s0,⟨a1,c1,r1,m1,h1,p1,k1,s1,rfl⟩⟩:=h;have p0:c0=[.int .i64 a0]:=p0; subst p0;have p1:c1=[.int .i64 a1]:=p1; subst p1;subst h1 h0;exact⟨⟨a0,a1⟩,rfl,⟨k0,k1⟩⟩
theorem zAO:zrV prog 23 (List Rg) (fun l=>l.length<=maxLen/\∀a0∈l,zr5 a0):=zrY (by kernel_rfl) (by kernel_rfl) zAN
theorem zAP:zrV prog 27 Soc zr9:=zr3 (fs:=[(22,0),(23,1),(25,2),(3,4)]) (by kernel_rfl) (by kernel_rfl) (zr2 (α:=List Mb) (ok:=(fun l=>l.length<=maxLen/\∀a0∈l,zr7 a0)) (k:=1) zAM (by kernel_rfl) rfl (zr2 (α:=List Rg) (ok:=(fun l=>l.length<=maxLen/\∀a0∈l,zr5 a0)) (k:=1) zAO (by kernel_rfl) rfl (zr2 (α:=Rg) (ok:=zr5) (k:=2) zAN (by kernel_rfl) rfl (zr2 (α:=Int) (ok:=zl6 .i64) (k:=1) op3 (by kernel_rfl) rfl zr1)))) (by kernel_rfl) fun m vs h=>by
 obtain⟨a0,c0,r0,m0,h0,p0,k0,s0,⟨a1,c1,r1,m1,h1,p1,k1,s1,⟨a2,c2,r2,m2,h2,p2,k2,s2,⟨a3,c3,r3,m3,h3,p3,k3,s3,rfl⟩⟩⟩⟩:=h;obtain⟨d0,rfl,p0⟩:=p0;obtain⟨d1,rfl,p1⟩:=p1;have p2:c2=[.int .i64 a2.Lo,.int .i64 a2.Hi]:=p2; subst p2;have p3:c3=[.int .i64 a3]:=p3; subst p3;subst h3 h2 h1 h0;exact⟨⟨a0,a1,a2,a3⟩,⟨_,_,rfl,p0,p1⟩,⟨k0,k1,k2,k3⟩⟩
theorem zAQ:laidOutB prog=true:=by kernel_rfl
theorem zAR:ownKnob prog.godebug=none:=by kernel_rfl
theorem zAS(os:Os)(started:os.Started)(H:Type)(enc:TypeId × Value->H) :
    ReturnsInHanded {} Try.checked os 16 .any (Rows.callMissedSpec.pre6 enc Try.prog Try.f16 Rows.callMissedRow.domain false) (Rows.callMissedSpec.post enc Try.prog Try.f16 false true false false):=by
  refine returnsInHanded_of_change (C:=Try.checked) zAR started (by kernel_rfl) Try.func16
    (ChangeSpec.witness6 (enc:=enc) (C:=Try.checked) false ⟨#[],#[.agg #[.slice none 0 0,.slice none 0 0,.int .i64 0,.int .i64 0,.int .i64 0],.int .u8 0],[]⟩ 8 (by kernel_rfl) (by kernel_rfl) (by kernel_rfl) (by kernel_rfl)) ?_
  intro W base args ds gs before hval0 hW hcnd _;have hval:∀(j:Nat) t v,Try.f16.params[j]? = some t->args[j]? = some v->Value.okWide Try.prog W .any base t v:=hval0;have hW':=hW;obtain⟨p,q,hA0,hV,rfl,hfz,hnd⟩:=hW;have hA:DataW.TrodAll enc Try.prog W 0 (fun _=>true) true Try.f16.params.toList args.toList ds p:=hA0;rw[Try.params16] at hA hval;obtain⟨v0,v1,d0,d1,p0,p1,rfl,rfl,rfl,h0,h1⟩:=trodAll_two hA;obtain⟨rfl,rfl⟩:=trodVars_none hV;obtain⟨n1,hv1⟩:=okWide_int Try.underlying5 (hval 1 5 v1 rfl rfl)
  have hlt:∀x∈p0++p1,x.block < W.heap.size:=fun x hx=>by simpa using hW'.lt x (by simpa using hx)
  obtain⟨fu0,hf0⟩:=id h0;obtain⟨fu1,hf1⟩:=id h1
  clear hA0 hval0
  obtain⟨e0,m0,w0,a_0,le0,sv0,lay0,cr0,zuS,ok0⟩:=zAP H enc W true _ _ _ hf0 _ _ (Lay.nil W);obtain⟨i1,hc1,_,hw1⟩:=DataW.trod_int Try.underlying5 hf1;obtain⟨c0_0,c0_1,rfl,g0_0,g0_1⟩:=zuS
  obtain⟨cs0,hv0,cl0⟩:∃cs,v0=.agg cs/\v0.cells.toList=cs.toList:=by
    have hl:=cr0.length
    cases v0 with
    | agg cs=>exact⟨cs,rfl,rfl⟩
    | _=>exact absurd hl (by simp[Value.cells])
  subst hv0;subst hv1
  have hi1:i1=n1:=by
    have h:[Value.int .u8 n1]=[.int .u8 i1]:=hc1
    cases h; rfl
  subst hi1;have hargs:zeq (VR e0) [.agg 5 [c0_0,c0_1,.int .i64 a_0.Treaty.Lo,.int .i64 a_0.Treaty.Hi,.int .i64 a_0.Reserve],.c (.int .u8 i1)] [.agg cs0,.int .u8 i1]:=.cons ⟨cs0,rfl,cr0,rfl⟩ (.cons rfl .nil);refine(callsIn_wide.1 (zqB fits htab (zwG (s:=a_0) (bits:=i1) lay0.pre g0_0 g0_1 (zAK ok0 (zqz hw1)) (Q:=fun v _=>v=.c (.bool true)) fun _ _=>rfl) lay0.hr (args':=#[.agg cs0,.int .u8 i1]) hargs 0)).mono fun en W' hp=>?_;obtain⟨v,v',e',m',rfl,hst,hvr,rfl⟩:=hp;have hv':v'=.bool true:=hvr;subst hv';have hbelow:=lay0.below hst
  refine⟨_,rfl,[d0,d1],[],p0++p1,[],p0++p1,[],by simpa using hW',trodAll_mk1 (shut_bool Try.underlying4 _),
    trodAll_mk2 (Below.trod zAQ (by kernel_rfl) (of_decide_eq_true (by kernel_rfl)) h0 hbelow fun x hx=>hlt x (by simp[hx])) (Below.trod zAQ (by kernel_rfl) (of_decide_eq_true (by kernel_rfl)) h1 hbelow fun x hx=>hlt x (by simp[hx])),rfl,lay0.kept hst _,fun hc=>by cases hc⟩
theorem CallMissed_holds:Rows.CallMissedSaid:=
 OpenClaim.holds_of_wide 16 Try.f16 rfl rfl rfl rfl rfl rfl rfl ⟨rfl,rfl,rfl,rfl,rfl⟩ rfl rfl rfl rfl rfl (by kernel_rfl) Try.func16 (by kernel_rfl)
  (of_decide_eq_true (by kernel_rfl)) (by unfold Func.isWrapper; first | (rw[if_pos (by decide +kernel)]; kernel_rfl) | (rw[if_neg (by decide +kernel)]; exact⟨rfl,rfl⟩))
  (fun os started H enc _=>zAS os started H enc)
end Go.Proofs.Ytkclhciahokifaa

