/- CallTruth, for all that it can be called with, returns true. Condition: none. -/
import Derived.Test.YtkclhciahokifaaCaH
import GoSem.Step
import GoSem.ClaimKeys
import Derived.DeepKeys2
import Derived.RangeFuncLeaves
import Derived.OrdersIn
import Derived.Laws.World
import Derived.Laws.Sem
import Derived.RangeFuncRecord
import Derived.Laws.CopyRow
import Derived.Laws.Append
import Derived.Laws.Rows
import Derived.Laws.Slices
import Derived.Laws.Entries
import Derived.ChangeKeysEq
import Derived.IntWalk
import Derived.DeepKeys
import Derived.DeepKeys3
import Derived.Laws.StructEq
import Derived.MapKept
import Derived.Laws.AppendOwn
import Derived.ChangeArms
import Derived.ChangeOld
import Derived.Carry
import Derived.ChangeShapes
import Derived.KernelRfl
import Derived.ProofKit
import Derived.Test.YtkclhciahokifaaRows

namespace Go.Proofs.Ytkclhciahokifaa
open _root_.Go.Proofs.Try
open Go.Abs
set_option maxRecDepth 100000
noncomputable section
theorem zxe{a x s:Int}(hx:0<=x)(hxs:x<=s)(hs:0 < s)(ha:0<=a):0<=a * x / s/\a * x / s<=a:=by
 constructor
 ·exact Int.ediv_nonneg (Int.mul_nonneg ha hx) (Int.le_of_lt hs)
 ·have h1:a * x<=a * s:=Int.mul_le_mul_of_nonneg_left hxs ha;have h2:=Int.ediv_le_ediv hs h1
  rwa [Int.mul_ediv_cancel _ (by omega)] at h2
theorem zxf{a x A X:Int}(ha:0<=a/\a<=A)(hx:0<=x/\x<=X):0<=a * x/\a * x<=A * X:=by
 refine⟨Int.mul_nonneg ha.1 hx.1,?_⟩;have h1:a * x<=A * x:=Int.mul_le_mul_of_nonneg_right ha.2 hx.1;have h2:A * x<=A * X:=Int.mul_le_mul_of_nonneg_left hx.2 (by omega)
 omega
structure UOk (u:Nat->Int):Prop where
 bd:∀i,i < 5->0<=u i/\u i<=100000
 pos:0 < S5 u
theorem UOk.le{u:Nat->Int}(h:UOk u){i:Nat}(hi:i < 5):u i<=S5 u/\S5 u<=500000:=by
 have h0:=h.bd 0 (by omega); have h1:=h.bd 1 (by omega); have h2:=h.bd 2 (by omega); have h3:=h.bd 3 (by omega); have h4:=h.bd 4 (by omega);unfold S5
 match i,hi with
 | 0,_=>omega
 | 1,_=>omega
 | 2,_=>omega
 | 3,_=>omega
 | 4,_=>omega
def qN(N:Int)(u:Nat->Int)(k:Nat):Int:=N * u k / S5 u
def rN(N:Int)(u:Nat->Int)(k:Nat):Int:=N * u k % S5 u
def shN(N:Int)(u:Nat->Int)(k:Nat):Sh:={ pence:=qN N u k,remainder:=rN N u k }
def zxg(N:Int)(u:Nat->Int)(k:Nat):Int:=qN N u k+if zw8 (rN N u) k < N - S5 (qN N u) then 1 else 0
section
variable {N:Int} {u:Nat->Int}
theorem zxh(hu:UOk u)(hN:0<=N){k:Nat}(hk:k < 5):0<=qN N u k/\qN N u k<=N:=zxe (hu.bd k hk).1 (hu.le hk).1 hu.pos hN
theorem zxi(hu:UOk u)(k:Nat):0<=rN N u k/\rN N u k < S5 u:=⟨Int.emod_nonneg _ (by have:=hu.pos; omega),Int.emod_lt_of_pos _ hu.pos⟩
theorem zxj(hu:UOk u)(hN:0<=N/\N<=1000000){k:Nat}(hk:k < 5):MK.fit (shN N u k):=by
 have h1:=zxh hu hN.1 hk;have h2:=zxi (N:=N) hu k;have h3:=(hu.le hk).2;exact⟨fI (show _/\_ by show -9223372036854775808<=qN N u k/\qN N u k < _; omega),fI (show _/\_ by show -9223372036854775808<=rN N u k/\rN N u k < _; omega),trivial⟩
theorem zxk(hu:UOk u)(hN:0<=N/\N<=1000000):zts N (mk5 u)=some (mk5 (zxg N u)):=by
 have hbu:Bd 1000000000000 u:=fun i hi=>by have:=hu.bd i hi; omega
 have hbq:Bd 1000000000000 (qN N u):=fun i hi=>by have:=zxh hu hN.1 hi; omega
 have hU:=hu.pos;have hU2:=(hu.le (i:=0) (by omega)).2;have hq0:=zxh hu hN.1 (k:=0) (by omega); have hq1:=zxh hu hN.1 (k:=1) (by omega); have hq2:=zxh hu hN.1 (k:=2) (by omega); have hq3:=zxh hu hN.1 (k:=3) (by omega); have hq4:=zxh hu hN.1 (k:=4) (by omega)
 have hsq:0<=S5 (qN N u)/\S5 (qN N u)<=5000000:=by unfold S5; omega
 -- the second loop
 have second:ztq N (shN N u 0).pence (shN N u 0).remainder (shN N u 1).pence (shN N u 1).remainder (shN N u 2).pence (shN N u 2).remainder (shN N u 3).pence (shN N u 3).remainder (shN N u 4).pence (shN N u 4).remainder (hM (shN N u) 5) (S5 (qN N u)) (Int.toNat (5:Int)+1) (qN N u 0) (qN N u 1) (qN N u 2) (qN N u 3) (qN N u 4) (0:Int)=some (mk5 (zxg N u)):=by
  have key:=zwF (n:=5) (fun d s x=>ztq N (shN N u 0).pence (shN N u 0).remainder (shN N u 1).pence (shN N u 1).remainder (shN N u 2).pence (shN N u 2).remainder (shN N u 3).pence (shN N u 3).remainder (shN N u 4).pence (shN N u 4).remainder (hM (shN N u) 5) (S5 (qN N u)) d (s 0) (s 1) (s 2) (s 3) (s 4) x) (stF (zxg N u) (qN N u)) (fin:=some (mk5 (zxg N u))) (fun d k hk=>?_) (fun d=>?_) 6 0 (by omega) (by omega)
  ·rw[zwJ] at key; exact key
  ·have hb:ztp (dv (shN N u)) (k:Int)=some (zw8 (rN N u) k):=zxd (fun k hk=>zxj hu hN hk) hk;have hq:=zxh hu hN.1 hk;have e:=zwL (zxg N u) (qN N u) k
   show ztq _ _ _ _ _ _ _ _ _ _ _ _ _ (d+1) _ _ _ _ _ _=_
   rw[ztq,if_pos (by omega)]
   show(ztp (dv (shN N u)) (k:Int)).bind _=_
   rw[hb,obs]
   by_cases h:zw8 (rN N u) k < N - S5 (qN N u)
   ·rw[if_pos h]
    show(idx (l5 (stF (zxg N u) (qN N u) k)) (k:Int)).bind _=_
    have ep:qN N u k+1=zxg N u k:=by unfold zxg; rw[if_pos h]
    rw[zwH hk,obs,zwK,zqr (fI (by omega)),zqr (by omega),zqr (fI (by omega)),ep,e 0,e 1,e 2,e 3,e 4]
   ·rw[if_neg h,zqr (fI (by omega))]
    have ep:qN N u k=zxg N u k:=by unfold zxg; rw[if_neg h,Int.add_zero]
    have e1:∀j,stF (zxg N u) (qN N u) k j=stF (zxg N u) (qN N u) (k+1) j:=fun j=>by
     unfold stF
     by_cases h:j=k
     ·subst h; rw[if_neg (by omega),if_pos (by omega)]; exact ep
     ·by_cases h2:j < k
      ·rw[if_pos h2,if_pos (by omega)]
      ·rw[if_neg h2,if_neg (by omega)]
    rw[e1 0,e1 1,e1 2,e1 3,e1 4]
  ·show ztq _ _ _ _ _ _ _ _ _ _ _ _ _ (d+1) _ _ _ _ _ _=_
   rw[ztq,if_neg (by omega)]; rfl
 unfold zts;rw[zwO hbu,obs];have key:=zwF (n:=5) (fun d (s:(Nat->Int) × (Nat->Sh) × Option (Sh->Option Int)) x=>ztr N (mk5 u) (S5 u) d (s.1 0) (s.1 1) (s.1 2) (s.1 3) (s.1 4) (s.2.1 0).pence (s.2.1 0).remainder (s.2.1 1).pence (s.2.1 1).remainder (s.2.1 2).pence (s.2.1 2).remainder (s.2.1 3).pence (s.2.1 3).remainder (s.2.1 4).pence (s.2.1 4).remainder s.2.2 x) (fun k=>(stF (qN N u) (fun _=>0) k,stF (shN N u) (fun _=>⟨0,0⟩) k,hM (shN N u) k)) (fin:=some (mk5 (zxg N u))) (fun d k hk=>?_) (fun d=>?_) 6 0 (by omega) (by omega)
 ·rw[zwJ,zwJ,zw6] at key; exact key
 ·have hq:=zxh hu hN.1 hk;have hr:=zxi (N:=N) hu k;have huk:=hu.bd k hk;have hm:=zxf (a:=N) (x:=u k) ⟨hN.1,hN.2⟩ huk;have hc:=zw3 (shN N u) (shN N u k) k;have hset:=zw7 (shN N u) k
  have fin:∀M',M'=hM (shN N u) (k+1)->ztr N (mk5 u) (S5 u) d (sti (k:Int) 0 (qN N u k) (stF (qN N u) (fun _=>0) k 0)) (sti (k:Int) 1 (qN N u k) (stF (qN N u) (fun _=>0) k 1)) (sti (k:Int) 2 (qN N u k) (stF (qN N u) (fun _=>0) k 2)) (sti (k:Int) 3 (qN N u k) (stF (qN N u) (fun _=>0) k 3)) (sti (k:Int) 4 (qN N u k) (stF (qN N u) (fun _=>0) k 4)) (sti (k:Int) 0 (shN N u k) (stF (shN N u) (fun _=>⟨0,0⟩) k 0)).pence (sti (k:Int) 0 (shN N u k) (stF (shN N u) (fun _=>⟨0,0⟩) k 0)).remainder (sti (k:Int) 1 (shN N u k) (stF (shN N u) (fun _=>⟨0,0⟩) k 1)).pence (sti (k:Int) 1 (shN N u k) (stF (shN N u) (fun _=>⟨0,0⟩) k 1)).remainder (sti (k:Int) 2 (shN N u k) (stF (shN N u) (fun _=>⟨0,0⟩) k 2)).pence (sti (k:Int) 2 (shN N u k) (stF (shN N u) (fun _=>⟨0,0⟩) k 2)).remainder (sti (k:Int) 3 (shN N u k) (stF (shN N u) (fun _=>⟨0,0⟩) k 3)).pence (sti (k:Int) 3 (shN N u k) (stF (shN N u) (fun _=>⟨0,0⟩) k 3)).remainder (sti (k:Int) 4 (shN N u k) (stF (shN N u) (fun _=>⟨0,0⟩) k 4)).pence (sti (k:Int) 4 (shN N u k) (stF (shN N u) (fun _=>⟨0,0⟩) k 4)).remainder M' ((k:Int)+1)=ztr N (mk5 u) (S5 u) d (stF (qN N u) (fun _=>0) (k+1) 0) (stF (qN N u) (fun _=>0) (k+1) 1) (stF (qN N u) (fun _=>0) (k+1) 2) (stF (qN N u) (fun _=>0) (k+1) 3) (stF (qN N u) (fun _=>0) (k+1) 4) (stF (shN N u) (fun _=>⟨0,0⟩) (k+1) 0).pence (stF (shN N u) (fun _=>⟨0,0⟩) (k+1) 0).remainder (stF (shN N u) (fun _=>⟨0,0⟩) (k+1) 1).pence (stF (shN N u) (fun _=>⟨0,0⟩) (k+1) 1).remainder (stF (shN N u) (fun _=>⟨0,0⟩) (k+1) 2).pence (stF (shN N u) (fun _=>⟨0,0⟩) (k+1) 2).remainder (stF (shN N u) (fun _=>⟨0,0⟩) (k+1) 3).pence (stF (shN N u) (fun _=>⟨0,0⟩) (k+1) 3).remainder (stF (shN N u) (fun _=>⟨0,0⟩) (k+1) 4).pence (stF (shN N u) (fun _=>⟨0,0⟩) (k+1) 4).remainder (hM (shN N u) (k+1)) ((k:Int)+1):=by
   intro M' hM';subst hM';have e:=zwL (qN N u) (fun _=>0) k;have e':=zwL (shN N u) (fun _=>(⟨0,0⟩:Sh)) k;rw[e 0,e 1,e 2,e 3,e 4,e' 0,e' 1,e' 2,e' 3,e' 4]
  show ztr _ _ _ (d+1) _ _ _ _ _ _ _ _ _ _ _ _ _ _ _ _ _=_
  rw[ztr,if_pos (by omega)]
  show(idx (l5 u) (k:Int)).bind _=_
  have hqf:zl6 .i64 (N * u k / S5 u):=fI (by unfold qN at hq; omega);have hrf:zl6 .i64 (N * u k % S5 u):=fI (by unfold rN at hr; omega);have hfit:MK.fit ({ pence:=N * u k / S5 u,remainder:=N * u k % S5 u }:Sh):=zxj hu hN hk;rw[zwH hk,obs,zqr hN.1,zqr huk.1,zqr (fI (by omega)),zqr hm.1,zqr hU,zqr hqf,zqr hN.1,zqr huk.1,zqr (fI (by omega)),zqr hm.1,zqr hU,zqr hrf,zqr (by omega),zqr hfit]
  show zqQ (zqJ (hM (shN N u) k) (shN N u k)) _ _=_
  by_cases h0:cnt (shN N u) k (shN N u k)=0
  ·rw[zqR (by rw[zw5,if_pos h0]),zqr (fI (by omega)),zqr hfit];rw[h0] at hset;rw[show zqK (hM (shN N u) k) ({ pence:=N * u k / S5 u,remainder:=N * u k % S5 u }:Sh) 1=some (hM (shN N u) (k+1)) from hset,obs,zqr (by omega),zqr (fI (by omega))];exact fin _ rfl
  ·rw[zqS (show zqJ (hM (shN N u) k) (shN N u k)=some (cnt (shN N u) k (shN N u k)) by rw[zw5,if_neg h0]),zqr (fI (by omega)),zqr hfit];rw[show zqK (hM (shN N u) k) ({ pence:=N * u k / S5 u,remainder:=N * u k % S5 u }:Sh) (cnt (shN N u) k (shN N u k)+1)=some (hM (shN N u) (k+1)) from hset,obs,zqr (by omega),zqr (fI (by omega))];exact fin _ rfl
 ·show ztr _ _ _ (d+1) _ _ _ _ _ _ _ _ _ _ _ _ _ _ _ _ _=_
  rw[ztr,if_neg (by omega)]
  show(ztj (mk5 (qN N u))).bind _=_
  rw[zwO hbq,obs,zqr (fI (by omega))];exact second
end
end
end Go.Proofs.Ytkclhciahokifaa

namespace Go.Proofs.Ytkclhciahokifaa
open _root_.Go.Proofs.Try
open Go.Abs
set_option maxRecDepth 100000
noncomputable section
def bfc(r:Nat->Int)(k i:Nat):Int:=if r i < r k then 1 else if r k=r i/\k < i then 1 else 0
theorem zxl(f:Nat->Int){i:Nat}(hi:i<=5):part f i=S5 fun k=>if k < i then f k else 0:=by
 match i,hi with
 | 0,_=>show(0:Int)=0+0+0+0+0; omega
 | 1,_=>show 0+f 0=f 0+0+0+0+0; omega
 | 2,_=>show 0+f 0+f 1=f 0+f 1+0+0+0; omega
 | 3,_=>show 0+f 0+f 1+f 2=f 0+f 1+f 2+0+0; omega
 | 4,_=>show 0+f 0+f 1+f 2+f 3=f 0+f 1+f 2+f 3+0; omega
 | 5,_=>show 0+f 0+f 1+f 2+f 3+f 4=f 0+f 1+f 2+f 3+f 4; omega
theorem zxm(r:Nat->Int){i:Nat}(hi:i < 5):zw8 r i=S5 fun k=>bfc r k i:=by
 unfold zw8 gtN eqN;rw[zxl _ (by omega),<- zwY];refine zw0 fun k _=>?_;unfold bfc
 by_cases h1:r i < r k
 ·rw[if_pos h1,if_pos h1,if_neg (show ¬ r k=r i by omega)]
  by_cases h2:k < i
  ·rw[if_pos h2]; rfl
  ·rw[if_neg h2]; rfl
 ·rw[if_neg h1,if_neg h1]
  by_cases h2:k < i
  ·rw[if_pos h2]
   by_cases h3:r k=r i
   ·rw[if_pos h3,if_pos ⟨h3,h2⟩]; rfl
   ·rw[if_neg h3,if_neg fun h=>h3 h.1]; rfl
  ·rw[if_neg h2,if_neg fun h=>h2 h.2]; rfl
theorem zxn{f g:Nat->Int}(h:∀i,i < 5->f i<=g i):S5 f<=S5 g:=by
 have:=h 0 (by omega); have:=h 1 (by omega); have:=h 2 (by omega); have:=h 3 (by omega); have:=h 4 (by omega);unfold S5; omega
theorem zxo{f g:Nat->Int}(h:∀i,i < 5->f i<=g i){k:Nat}(hk:k < 5)(hlt:f k < g k):S5 f < S5 g:=by
 have:=h 0 (by omega); have:=h 1 (by omega); have:=h 2 (by omega); have:=h 3 (by omega); have:=h 4 (by omega);unfold S5
 match k,hk with
 | 0,_=>omega
 | 1,_=>omega
 | 2,_=>omega
 | 3,_=>omega
 | 4,_=>omega
theorem zxp(r:Nat->Int)(k i:Nat):0<=bfc r k i/\bfc r k i<=1:=by unfold bfc; split <;> (try split) <;> omega
theorem zxq{r:Nat->Int}{k i:Nat}:bfc r k i=1↔r i < r k\/(r k=r i/\k < i):=by
 unfold bfc
 by_cases h1:r i < r k
 ·rw[if_pos h1]; exact⟨fun _=>.inl h1,fun _=>rfl⟩
 ·rw[if_neg h1]
  by_cases h2:r k=r i/\k < i
  ·rw[if_pos h2]; exact⟨fun _=>.inr h2,fun _=>rfl⟩
  ·rw[if_neg h2]; exact⟨fun h=>by omega,fun h=>h.elim (fun h=>absurd h h1) fun h=>absurd h h2⟩
theorem zj9{r:Nat->Int}{k i:Nat}(hk:k < 5)(hi:i < 5)(h:r i < r k\/(r k=r i/\k < i)):zw8 r k < zw8 r i:=by
 rw[zxm r hk,zxm r hi];refine zxo (fun j _=>?_) hk ?_
 ·have h1:=zxp r j k; have h2:=zxp r j i
  by_cases hj:bfc r j k=1
  ·have:=zxq.1 hj;have:bfc r j i=1:=zxq.2 (by omega)
   omega
  ·omega
 ·have h1:bfc r k i=1:=zxq.2 h
  have h2:¬ bfc r k k=1:=fun h=>by have:=zxq.1 h; omega
  have h3:=zxp r k k
  omega
theorem zxr{r:Nat->Int}{k i:Nat}(hk:k < 5)(hi:i < 5)(h:k ≠ i):zw8 r k ≠ zw8 r i:=by
 by_cases h1:r i < r k\/(r k=r i/\k < i)
 ·have:=zj9 hk hi h1; omega
 ·have:=zj9 hi hk (r:=r) (by omega); omega
theorem zxs(r:Nat->Int){i:Nat}(hi:i < 5):0<=zw8 r i/\zw8 r i<=4:=by
 have h0:=zxp r 0 i; have h1:=zxp r 1 i; have h2:=zxp r 2 i; have h3:=zxp r 3 i; have h4:=zxp r 4 i
 have hii:bfc r i i=0:=by
  have:=zxp r i i
  have:¬ bfc r i i=1:=fun h=>by have:=zxq.1 h; omega
  omega
 rw[zxm r hi];unfold S5
 dsimp only
 match i,hi with
 | 0,_=>omega
 | 1,_=>omega
 | 2,_=>omega
 | 3,_=>omega
 | 4,_=>omega
theorem zxt:∀a b:Fin 5,a ≠ b->∀c:Fin 5,a ≠ c->b ≠ c->∀d:Fin 5,a ≠ d->b ≠ d->c ≠ d->∀e:Fin 5,a ≠ e->b ≠ e->c ≠ e->d ≠ e->∀L:Fin 6,
  (if a.val < L.val then 1 else 0)+(if b.val < L.val then 1 else 0)+(if c.val < L.val then 1 else 0)+(if d.val < L.val then 1 else 0)+(if e.val < L.val then 1 else 0)=L.val:=by decide +kernel
theorem zxu(r:Nat->Int){L:Int}(hL:0<=L/\L<=5):S5 (fun i=>if zw8 r i < L then 1 else 0)=L:=by
 have b:∀i,i < 5->0<=zw8 r i/\zw8 r i<=4:=fun i hi=>zxs r hi;have b0:=b 0 (by omega); have b1:=b 1 (by omega); have b2:=b 2 (by omega); have b3:=b 3 (by omega); have b4:=b 4 (by omega)
 have ne:∀i j (hi:i < 5) (hj:j < 5),i ≠ j->(⟨(zw8 r i).toNat,by have:=b i hi; omega⟩:Fin 5) ≠ ⟨(zw8 r j).toNat,by have:=b j hj; omega⟩:=fun i j hi hj hij h=>by
  have h1:=Fin.mk.inj h;have:=zxr (r:=r) hi hj hij;have:=b i hi; have:=b j hj
  omega
 have key:=zxt ⟨(zw8 r 0).toNat,by omega⟩ ⟨(zw8 r 1).toNat,by omega⟩ (ne 0 1 (by omega) (by omega) (by omega)) ⟨(zw8 r 2).toNat,by omega⟩ (ne 0 2 (by omega) (by omega) (by omega)) (ne 1 2 (by omega) (by omega) (by omega)) ⟨(zw8 r 3).toNat,by omega⟩ (ne 0 3 (by omega) (by omega) (by omega)) (ne 1 3 (by omega) (by omega) (by omega)) (ne 2 3 (by omega) (by omega) (by omega)) ⟨(zw8 r 4).toNat,by omega⟩ (ne 0 4 (by omega) (by omega) (by omega)) (ne 1 4 (by omega) (by omega) (by omega)) (ne 2 4 (by omega) (by omega) (by omega)) (ne 3 4 (by omega) (by omega) (by omega)) ⟨L.toNat,by omega⟩
 dsimp only at key
 have e:∀i,i < 5->(if zw8 r i < L then (1:Int) else 0)=((if (zw8 r i).toNat < L.toNat then 1 else 0:Nat):Int):=fun i hi=>by
  have:=b i hi
  by_cases h:zw8 r i < L
  ·rw[if_pos h,if_pos (by omega)]; rfl
  ·rw[if_neg h,if_neg (by omega)]; rfl
 unfold S5
 dsimp only
 rw[e 0 (by omega),e 1 (by omega),e 2 (by omega),e 3 (by omega),e 4 (by omega)]
 omega
section
variable {N:Int} {u:Nat->Int}
theorem zxv(N:Int)(u:Nat->Int):S5 u * (N - S5 (qN N u))=S5 (rN N u):=by
 have h:∀k,rN N u k+S5 u * qN N u k=N * u k:=fun k=>Int.emod_add_mul_ediv (N * u k) (S5 u);have h0:=h 0; have h1:=h 1; have h2:=h 2; have h3:=h 3; have h4:=h 4
 have e1:S5 u * N=N * u 0+N * u 1+N * u 2+N * u 3+N * u 4:=by
  rw[Int.mul_comm]; unfold S5; rw[Int.mul_add,Int.mul_add,Int.mul_add,Int.mul_add]
 have e2:S5 u * S5 (qN N u)=S5 u * qN N u 0+S5 u * qN N u 1+S5 u * qN N u 2+S5 u * qN N u 3+S5 u * qN N u 4:=by
  generalize S5 u=U;unfold S5; rw[Int.mul_add,Int.mul_add,Int.mul_add,Int.mul_add]
 rw[Int.mul_sub,e1,e2]
 show _=rN N u 0+rN N u 1+rN N u 2+rN N u 3+rN N u 4
 omega
theorem zxw(hu:UOk u)(N:Int):0<=N - S5 (qN N u)/\N - S5 (qN N u)<=gtN (rN N u) 0/\N - S5 (qN N u)<=4:=by
 have hU:=hu.pos;have hl:=zxv N u;have hr:=fun k=>zxi (N:=N) hu k;have r0:=hr 0; have r1:=hr 1; have r2:=hr 2; have r3:=hr 3; have r4:=hr 4;refine⟨?_,?_,?_⟩
 ·apply Classical.byContradiction
  intro hn;have:S5 u * (N - S5 (qN N u)) < 0:=Int.mul_neg_of_pos_of_neg hU (by omega);rw[hl] at this;unfold S5 at this; omega
 ·have h2:S5 (rN N u)<=S5 u * gtN (rN N u) 0:=by
   have e:S5 u * gtN (rN N u) 0=S5 (fun k=>S5 u * if 0 < rN N u k then 1 else 0):=by
    unfold gtN;generalize S5 u=U
    show U * S5 (fun k=>if 0 < rN N u k then 1 else 0)=_
    unfold S5;rw[Int.mul_add,Int.mul_add,Int.mul_add,Int.mul_add]
   rw[e];refine zxn fun k _=>?_;have:=hr k
   by_cases h:0 < rN N u k
   ·rw[if_pos h]; omega
   ·rw[if_neg h]; omega
  rw[<- hl] at h2;exact Int.le_of_mul_le_mul_left h2 hU
 ·apply Classical.byContradiction
  intro hn;have h2:S5 u * 5<=S5 u * (N - S5 (qN N u)):=Int.mul_le_mul_of_nonneg_left (by omega) (by omega);rw[hl] at h2;have h3:S5 (rN N u)=rN N u 0+rN N u 1+rN N u 2+rN N u 3+rN N u 4:=rfl
  omega
theorem zxx(hu:UOk u){k:Nat}(h0:rN N u k=0):¬ zw8 (rN N u) k < N - S5 (qN N u):=by
 have h1:=(zxw hu N).2.1;have h2:=zxa (rN N u) (rN N u k) k
 have h3:zw8 (rN N u) k=gtN (rN N u) 0+eqN (rN N u) (rN N u k) k:=by unfold zw8; rw[h0]
 omega
theorem zxy(hu:UOk u)(N:Int):S5 (zxg N u)=N:=by
 have h:=zxw hu N;have e:S5 (zxg N u)=S5 (qN N u)+S5 (fun i=>if zw8 (rN N u) i < N - S5 (qN N u) then 1 else 0):=zwY _ _;rw[e,zxu _ (by omega)]; omega
theorem zxz(N:Int)(u:Nat->Int)(k:Nat):qN N u k<=zxg N u k/\zxg N u k<=qN N u k+1:=by unfold zxg; split <;> omega
theorem zxA(hu:UOk u)(hN:0<=N){k:Nat}(hk:k < 5):0<=zxg N u k:=by have:=zxz N u k; have:=zxh hu hN hk; omega
theorem zxB(hu:UOk u)(hN:0<=N){k:Nat}(hk:k < 5):zxg N u k<=N:=by
 have hs:=zxy hu N;have h:∀i,i < 5->0<=zxg N u i:=fun i hi=>zxA hu hN hi;have:=h 0 (by omega); have:=h 1 (by omega); have:=h 2 (by omega); have:=h 3 (by omega); have:=h 4 (by omega);unfold S5 at hs
 match k,hk with
 | 0,_=>omega
 | 1,_=>omega
 | 2,_=>omega
 | 3,_=>omega
 | 4,_=>omega
theorem zxC(hu:UOk u){k:Nat}(h:u k=0):zxg N u k=0:=by
 have hq:qN N u k=0:=by unfold qN; rw[h,Int.mul_zero,Int.zero_ediv]
 have hr:rN N u k=0:=by unfold rN; rw[h,Int.mul_zero,Int.zero_emod]
 unfold zxg;rw[if_neg (zxx hu hr),hq]; rfl
end
end
end Go.Proofs.Ytkclhciahokifaa

namespace Go.Proofs.Ytkclhciahokifaa
open _root_.Go.Proofs.Try
open Go.Abs
set_option maxRecDepth 100000
noncomputable section
structure zxD (a:Mb):Prop where
 sum:1<=a.Sum/\a.Sum<=1000
 cls:1<=a.Class/\a.Class<=10
 most:0<=a.Most/\a.Most<=100000
def zxE(ms:List Mb):Prop:=ms.length<=5/\∀a∈ms,zxD a
def unN(a:Mb):Int:=a.Sum * a.Class
theorem zxF{a:Mb}(h:zxD a):1<=unN a/\unN a<=10000:=by
 have h1:=zxf (a:=a.Sum) (x:=a.Class) (A:=1000) (X:=10) ⟨by have:=h.sum; omega,h.sum.2⟩ ⟨by have:=h.cls; omega,h.cls.2⟩;have h2:a.Sum * 1<=a.Sum * a.Class:=Int.mul_le_mul_of_nonneg_left h.cls.1 (by have:=h.sum; omega);have:=h.sum;unfold unN; omega
def uF(ms:List Mb)(sh:Nat->Bool):Nat->Int:=zwR ms sh unN
def mF(ms:List Mb)(sh:Nat->Bool):Nat->Int:=zwR ms sh (·.Most)
def zxG(sh:Nat->Bool):Bool:=(sh 0 == false) && ((sh 1 == false) && ((sh 2 == false) && ((sh 3 == false) && (sh 4 == false))))
def zxH(a b:Nat->Bool):Bool:=(a 0 == b 0) && ((a 1 == b 1) && ((a 2 == b 2) && ((a 3 == b 3) && (a 4 == b 4))))
def zxI(ms:List Mb)(sh:Nat->Bool):Prop:=∀i,sh i=true->i < ms.length
def roundsN(ms:List Mb):Nat->(Nat->Bool)->Int->(Nat->Int)->(Nat->Int) × Int
 | 0,_,N,c=>(c,N)
 | d+1,sh,N,c=>if zxG sh=true then (c,N) else
   if zxH (zwT ms sh (zxg N (uF ms sh))) sh=true then (fun i=>c i+zxg N (uF ms sh) i,0) else
    roundsN ms d (zwT ms sh (zxg N (uF ms sh))) (N - S5 (mF ms fun i=>sh i && !zwT ms sh (zxg N (uF ms sh)) i)) (fun i=>c i+mF ms (fun i=>sh i && !zwT ms sh (zxg N (uF ms sh)) i) i)
def cF(sh:Nat->Bool):Nat:=(sh 0).toNat+(sh 1).toNat+(sh 2).toNat+(sh 3).toNat+(sh 4).toNat
theorem zxJ{sh:Nat->Bool}:zxG sh=true↔∀i,i < 5->sh i=false:=by
 unfold zxG
 simp only[Bool.and_eq_true,beq_iff_eq]
 constructor
 ·rintro⟨h0,h1,h2,h3,h4⟩ i hi
  match i,hi with
  | 0,_=>exact h0
  | 1,_=>exact h1
  | 2,_=>exact h2
  | 3,_=>exact h3
  | 4,_=>exact h4
 ·intro h; exact⟨h 0 (by omega),h 1 (by omega),h 2 (by omega),h 3 (by omega),h 4 (by omega)⟩
theorem zxK{a b:Nat->Bool}:zxH a b=true↔∀i,i < 5->a i=b i:=by
 unfold zxH
 simp only[Bool.and_eq_true,beq_iff_eq]
 constructor
 ·rintro⟨h0,h1,h2,h3,h4⟩ i hi
  match i,hi with
  | 0,_=>exact h0
  | 1,_=>exact h1
  | 2,_=>exact h2
  | 3,_=>exact h3
  | 4,_=>exact h4
 ·intro h; exact⟨h 0 (by omega),h 1 (by omega),h 2 (by omega),h 3 (by omega),h 4 (by omega)⟩
theorem zxL{ms:List Mb}{sh:Nat->Bool}{p:Nat->Int}{i:Nat}(h:zwT ms sh p i=true):sh i=true:=by
 unfold zwT at h
 cases hm:ms[i]? with
 | none=>rw[hm] at h; exact h
 | some a=>rw[hm] at h; exact(Bool.and_eq_true _ _ ▸ h).1
theorem zxM{ms:List Mb}{sh:Nat->Bool}{p:Nat->Int}{i:Nat}{a:Mb}(hm:ms[i]? = some a):zwT ms sh p i=(sh i && decide (p i<=a.Most)):=by unfold zwT; rw[hm]
theorem zxN{ms:List Mb}{sh:Nat->Bool}{p:Nat->Int}(h:¬ zxH (zwT ms sh p) sh=true):cF (zwT ms sh p) < cF sh:=by
 have hle:∀i,(zwT ms sh p i).toNat<=(sh i).toNat:=fun i=>by
  cases ha:zwT ms sh p i with
  | false=>exact Nat.zero_le _
  | true=>rw[zxL ha]; exact Nat.le_refl _
 have hne:∃i,i < 5/\(zwT ms sh p i).toNat ≠ (sh i).toNat:=by
  apply Classical.byContradiction
  intro hn;refine h (zxK.2 fun i hi=>?_)
  apply Classical.byContradiction
  intro h2;refine hn ⟨i,hi,fun h3=>h2 ?_⟩
  revert h3; cases zwT ms sh p i <;> cases sh i <;> decide
 obtain⟨i,hi,h2⟩:=hne;have l0:=hle 0; have l1:=hle 1; have l2:=hle 2; have l3:=hle 3; have l4:=hle 4;unfold cF
 match i,hi with
 | 0,_=>omega
 | 1,_=>omega
 | 2,_=>omega
 | 3,_=>omega
 | 4,_=>omega
theorem zxO{ms:List Mb}{sh:Nat->Bool}{num:Mb->Int}{i:Nat}(h:sh i=false):zwR ms sh num i=0:=by
 unfold zwR
 cases ms[i]? with
 | none=>rfl
 | some a=>show(if sh i=true then num a else 0)=0; rw[h]; rfl
theorem zxP{ms:List Mb}{sh:Nat->Bool}{num:Mb->Int}{i:Nat}{a:Mb}(hm:ms[i]? = some a)(h:sh i=true):zwR ms sh num i=num a:=by
 unfold zwR; rw[hm]; show(if sh i=true then num a else 0)=_; rw[h,if_pos rfl]
theorem zxQ{ms:List Mb}(hms:zxE ms)(sh:Nat->Bool)(i:Nat):0<=uF ms sh i/\uF ms sh i<=10000:=by
 unfold uF
 cases hs:sh i with
 | false=>rw[zxO hs]; omega
 | true=>
  cases hm:ms[i]? with
  | none=>unfold zwR; rw[hm]; show(0:Int)<=0/\(0:Int)<=_; omega
  | some a=>rw[zxP hm hs]; have:=zxF (hms.2 a (List.mem_of_getElem? hm)); omega
theorem zxR{ms:List Mb}(hms:zxE ms){sh:Nat->Bool}(hs:zxI ms sh)(hn:¬ zxG sh=true):UOk (uF ms sh):=by
 have hb:=zxQ hms sh;refine⟨fun i _=>by have:=hb i; omega,?_⟩
 obtain⟨i,hi,hsi⟩:∃i,i < 5/\sh i=true:=by
  apply Classical.byContradiction
  intro h;refine hn (zxJ.2 fun i hi=>?_)
  cases hq:sh i with
  | false=>rfl
  | true=>exact absurd ⟨i,hi,hq⟩ h
 have hl:=hs i hsi
 have h1:1<=uF ms sh i:=by unfold uF; rw[zxP (List.getElem?_eq_getElem hl) hsi]; exact(zxF (hms.2 _ (List.getElem_mem hl))).1
 have b0:=hb 0; have b1:=hb 1; have b2:=hb 2; have b3:=hb 3; have b4:=hb 4;unfold S5
 match i,hi with
 | 0,_=>omega
 | 1,_=>omega
 | 2,_=>omega
 | 3,_=>omega
 | 4,_=>omega
structure RI (ms:List Mb) (sh:Nat->Bool) (N:Int) (c:Nat->Int):Prop where
 sup:zxI ms sh
 nn:0<=N/\N<=1000000
 cb:∀i,i < 5->0<=c i/\c i<=1000000
 c0:∀i,sh i=true->c i=0
section
variable {ms:List Mb} {sh:Nat->Bool} {N:Int} {c:Nat->Int}
theorem zxS(p:Nat->Int){i:Nat}:(sh i && !zwT ms sh p i)=true↔sh i=true/\∃a,ms[i]? = some a/\a.Most < p i:=by
 cases hm:ms[i]? with
 | none=>unfold zwT; rw[hm]; cases sh i <;> simp
 | some a=>
  rw[zxM hm]
  cases sh i with
  | false=>simp
  | true=>simp
theorem zxT(hms:zxE ms)(hs:zxI ms sh)(hn:¬ zxG sh=true)(hN:0<=N){i:Nat}(hi:i < 5) :
  0<=mF ms (fun i=>sh i && !zwT ms sh (zxg N (uF ms sh)) i) i/\mF ms (fun i=>sh i && !zwT ms sh (zxg N (uF ms sh)) i) i<=qN N (uF ms sh) i:=by
 have hu:=zxR hms hs hn;have hq:=zxh hu hN hi;unfold mF
 cases ho:(sh i && !zwT ms sh (zxg N (uF ms sh)) i) with
 | false=>rw[zxO (by exact ho)]; omega
 | true=>
  obtain⟨h1,a,h2,h3⟩:=(zxS _).1 ho;have hb:=(hms.2 a (List.mem_of_getElem? h2)).most;have hp:=zxz N (uF ms sh) i;rw[zxP h2 (by exact ho)]; omega
theorem RI.next(hms:zxE ms)(h:RI ms sh N c)(hn:¬ zxG sh=true):RI ms (zwT ms sh (zxg N (uF ms sh))) (N - S5 (mF ms fun i=>sh i && !zwT ms sh (zxg N (uF ms sh)) i)) (fun i=>c i+mF ms (fun i=>sh i && !zwT ms sh (zxg N (uF ms sh)) i) i):=by
 have hu:=zxR hms h.sup hn;have hm:=fun i (hi:i < 5)=>zxT hms h.sup hn h.nn.1 hi
 have hs:S5 (mF ms fun i=>sh i && !zwT ms sh (zxg N (uF ms sh)) i)<=S5 (zxg N (uF ms sh)):=zxn fun i hi=>by have:=hm i hi; have:=zxz N (uF ms sh) i; omega
 rw[zxy hu] at hs
 have hs0:0<=S5 (mF ms fun i=>sh i && !zwT ms sh (zxg N (uF ms sh)) i):=by
  have:=hm 0 (by omega); have:=hm 1 (by omega); have:=hm 2 (by omega); have:=hm 3 (by omega); have:=hm 4 (by omega);unfold S5; omega
 have hnn:=h.nn;refine⟨fun i hi=>h.sup i (zxL hi),by omega,fun i hi=>?_,fun i hi=>?_⟩
 ·have h1:=hm i hi;have h2:=h.cb i hi
  have h3:mF ms (fun i=>sh i && !zwT ms sh (zxg N (uF ms sh)) i) i<=N:=by have:=zxh hu h.nn.1 hi; omega
  show 0<=c i+_/\c i+_<=_
  cases ho:(sh i && !zwT ms sh (zxg N (uF ms sh)) i) with
  | false=>
   have e:mF ms (fun i=>sh i && !zwT ms sh (zxg N (uF ms sh)) i) i=0:=zxO (by exact ho);rw[e]; omega
  | true=>
   have hc:=h.c0 i ((zxS _).1 ho).1;rw[hc]; omega
 ·have h1:=zxL hi
  show c i+_=0
  have e:mF ms (fun i=>sh i && !zwT ms sh (zxg N (uF ms sh)) i) i=0:=zxO (by show(sh i && !zwT ms sh _ i)=false; rw[hi]; simp);rw[h.c0 i h1,e]; rfl
theorem zxU{w:Wk}(hms:zxE w.s.Members):ztA w (mkF sh)=some (mk5 (uF w.s.Members sh)):=by
 unfold ztA;rw[zwS (num:=unN) (fun a ha=>?_) hms.1,obs]; rfl;have h:=hms.2 a ha;have:=h.sum; have:=h.cls;have hb:=zxF h;unfold unN at hb
 show ztw a=some (unN a)
 unfold ztw unN;rw[zqr (by omega),zqr (by omega),zqr (fI (by omega))]
theorem zxV{w:Wk}(hms:zxE w.s.Members):ztB w (mkF sh)=some (mk5 (mF w.s.Members sh)):=by
 unfold ztB;rw[zwS (number:=fun a=>ztx a) (num:=(·.Most)) (fun a _=>rfl) hms.1,obs]; rfl
theorem zxW{w:Wk}(hms:zxE w.s.Members)(need0:Int){need:Int}:∀(n D:Nat) (sh:Nat->Bool) (N:Int) (c:Nat->Int),RI w.s.Members sh N c->N+S5 c=need->need<=1000000->cF sh < n->cF sh < D ->
  ztE w need0 D need (c 0) (c 1) (c 2) (c 3) (c 4) (sh 0) (sh 1) (sh 2) (sh 3) (sh 4)=some { need:=need,calls:=mk5 (roundsN w.s.Members n sh N c).1 }
 | 0,_,_,_,_,_,_,_,h,_=>by omega
 | _+1,0,_,_,_,_,_,_,_,h=>by omega
 | n+1,D+1,sh,N,c,hr,hs,hneed,hn,hD=>by
  rw[ztE,roundsN]
  show(if zxG sh=true then _ else _)=_
  by_cases h0:zxG sh=true
  ·rw[if_pos h0,if_pos h0]; rfl
  ·rw[if_neg h0,if_neg h0];have hu:=zxR hms hr.sup h0
   have hbc:Bd 1000000000000 c:=fun i hi=>by have:=hr.cb i hi; omega
   have hcb:=hr.cb;have hc0:=hcb 0 (by omega); have hc1:=hcb 1 (by omega); have hc2:=hcb 2 (by omega); have hc3:=hcb 3 (by omega); have hc4:=hcb 4 (by omega)
   have hsc:0<=S5 c/\S5 c<=5000000:=by unfold S5; omega
   have hNN:0<=N/\N<=1000000:=hr.nn
   have e1:ztu ({ need:=need,calls:=mk5 c }:Oc)=some N:=by
    unfold ztu
    show(ztj (mk5 c)).bind _=_
    rw[zwO hbc,obs,zqr (fI (by show -9223372036854775808<=need - S5 c/\need - S5 c < _; omega))];exact congrArg some (show need - S5 c=N by omega)
   show(ztu ({ need:=need,calls:=mk5 c }:Oc)).bind _=_
   rw[e1,obs]
   show(ztA w (mkF sh)).bind _=_
   rw[zxU hms,obs,zxk hu hNN,obs]
   show(ztD w (mkF sh) (mk5 (zxg N (uF w.s.Members sh)))).bind _=_
   rw[zwU hms.1,obs]
   have hbp:Bd 1000000000000 (zxg N (uF w.s.Members sh)):=fun i hi=>by have:=zxA hu hNN.1 hi; have:=zxB hu hNN.1 hi; omega
   show(if zxH (zwT w.s.Members sh (zxg N (uF w.s.Members sh))) sh=true then _ else _)=_
   by_cases h1:zxH (zwT w.s.Members sh (zxg N (uF w.s.Members sh))) sh=true
   ·rw[if_pos h1,if_pos h1]
    have e2:ztv ({ need:=need,calls:=mk5 c }:Oc) (mk5 (zxg N (uF w.s.Members sh)))=some { need:=need,calls:=mk5 fun i=>c i+zxg N (uF w.s.Members sh) i }:=by
     unfold ztv
     show(ztl (mk5 c) _).bind _=_
     rw[zwP hbc hbp,obs]
    show(ztv ({ need:=need,calls:=mk5 c }:Oc) _).bind _=_
    rw[e2,obs]
   ·rw[if_neg h1,if_neg h1]
    show(ztn (mkF sh) (mkF (zwT w.s.Members sh (zxg N (uF w.s.Members sh))))).bind _=_
    rw[zwQ,obs,zxV hms,obs];have hnext:=hr.next hms h0;have hm:=fun i (hi:i < 5)=>zxT hms hr.sup h0 hNN.1 hi
    have hbm:Bd 1000000000000 (mF w.s.Members fun i=>sh i && !zwT w.s.Members sh (zxg N (uF w.s.Members sh)) i):=fun i hi=>by have:=hm i hi; have:=zxh hu hNN.1 hi; omega
    have e2:ztv ({ need:=need,calls:=mk5 c }:Oc) (mk5 (mF w.s.Members fun i=>sh i && !zwT w.s.Members sh (zxg N (uF w.s.Members sh)) i))=some { need:=need,calls:=mk5 fun i=>c i+mF w.s.Members (fun i=>sh i && !zwT w.s.Members sh (zxg N (uF w.s.Members sh)) i) i }:=by
     unfold ztv
     show(ztl (mk5 c) _).bind _=_
     rw[zwP hbc hbm,obs]
    show(ztv ({ need:=need,calls:=mk5 c }:Oc) _).bind _=_
    rw[e2,obs];have hless:=zxN h1;have e3:S5 (fun i=>c i+mF w.s.Members (fun i=>sh i && !zwT w.s.Members sh (zxg N (uF w.s.Members sh)) i) i)=S5 c+S5 (mF w.s.Members fun i=>sh i && !zwT w.s.Members sh (zxg N (uF w.s.Members sh)) i):=zwY _ _
    have e4:N - S5 (mF w.s.Members fun i=>sh i && !zwT w.s.Members sh (zxg N (uF w.s.Members sh)) i)+S5 (fun i=>c i+mF w.s.Members (fun i=>sh i && !zwT w.s.Members sh (zxg N (uF w.s.Members sh)) i) i)=need:=by rw[e3]; omega
    exact zxW hms need0 n D _ _ _ hnext e4 hneed (by omega) (by omega)
end
def zxX(ms:List Mb)(ask:Nat->Bool)(need:Int):(Nat->Int) × Int:=roundsN ms 6 ask need fun _=>0
theorem zxY(sh:Nat->Bool):cF sh<=5:=by
 have h:∀b:Bool,b.toNat<=1:=fun b=>by cases b <;> decide
 have:=h (sh 0); have:=h (sh 1); have:=h (sh 2); have:=h (sh 3); have:=h (sh 4);unfold cF; omega
theorem zxZ{w:Wk}(hms:zxE w.s.Members){ask:Nat->Bool}(ha:w.asked=mkF ask)(hsup:zxI w.s.Members ask){need:Int}(hn:0<=need/\need<=1000000):ztF w need=some { need:=need,calls:=mk5 (zxX w.s.Members ask need).1 }:=by
 unfold ztF;rw[ha];have hc:=zxY ask;exact zxW hms need 6 1000000 ask need (fun _=>0) ⟨hsup,hn,fun _ _=>by omega,fun _ _=>rfl⟩ (by rw[zwZ]; omega) hn.2 (by omega) (by omega)
end
end Go.Proofs.Ytkclhciahokifaa

namespace Go.Proofs.Ytkclhciahokifaa
open _root_.Go.Proofs.Try
open Go.Abs
set_option maxRecDepth 100000
noncomputable section
section
variable {ms:List Mb}
theorem zx0(hms:zxE ms):∀(n:Nat) (sh:Nat->Bool) (N:Int) (c:Nat->Int),RI ms sh N c->cF sh < n->S5 (roundsN ms n sh N c).1+(roundsN ms n sh N c).2=N+S5 c/\0<=(roundsN ms n sh N c).2
 | 0,_,_,_,_,h=>by omega
 | n+1,sh,N,c,hr,h=>by
  unfold roundsN
  by_cases h0:zxG sh=true
  ·rw[if_pos h0]; have:=hr.nn; exact⟨by show S5 c+N=_; omega,hr.nn.1⟩
  ·rw[if_neg h0];have hu:=zxR hms hr.sup h0
   by_cases h1:zxH (zwT ms sh (zxg N (uF ms sh))) sh=true
   ·rw[if_pos h1];have e:S5 (fun i=>c i+zxg N (uF ms sh) i)=S5 c+S5 (zxg N (uF ms sh)):=zwY _ _;have hp:=zxy hu N;exact⟨by show S5 (fun i=>c i+zxg N (uF ms sh) i)+0=_; omega,Int.le_refl _⟩
   ·rw[if_neg h1];have hless:=zxN h1;have ih:=zx0 hms n _ _ _ (hr.next hms h0) (by omega);have e:S5 (fun i=>c i+mF ms (fun i=>sh i && !zwT ms sh (zxg N (uF ms sh)) i) i)=S5 c+S5 (mF ms fun i=>sh i && !zwT ms sh (zxg N (uF ms sh)) i):=zwY _ _;rw[e] at ih;exact⟨by rw[ih.1]; omega,ih.2⟩
theorem zx1(hms:zxE ms):∀(n:Nat) (sh:Nat->Bool) (N:Int) (c:Nat->Int),RI ms sh N c->cF sh < n->∀i,i < 5->sh i=false->(roundsN ms n sh N c).1 i=c i
 | 0,_,_,_,_,h=>by omega
 | n+1,sh,N,c,hr,h=>fun i hi hs=>by
  unfold roundsN
  by_cases h0:zxG sh=true
  ·rw[if_pos h0]
  ·rw[if_neg h0];have hu:=zxR hms hr.sup h0
   by_cases h1:zxH (zwT ms sh (zxg N (uF ms sh))) sh=true
   ·rw[if_pos h1]
    show c i+_=_
    rw[zxC hu (show uF ms sh i=0 from zxO hs),Int.add_zero]
   ·rw[if_neg h1];have hless:=zxN h1
    have ha:zwT ms sh (zxg N (uF ms sh)) i=false:=by
     cases hq:zwT ms sh (zxg N (uF ms sh)) i with
     | false=>rfl
     | true=>rw[zxL hq] at hs; cases hs
    rw[zx1 hms n _ _ _ (hr.next hms h0) (by omega) i hi ha];have e:mF ms (fun i=>sh i && !zwT ms sh (zxg N (uF ms sh)) i) i=0:=zxO (by show(sh i && _)=false; rw[hs]; rfl);rw[e,Int.add_zero]
theorem zx2(hms:zxE ms):∀(n:Nat) (sh:Nat->Bool) (N:Int) (c:Nat->Int),RI ms sh N c->cF sh < n->∀i a,i < 5->ms[i]? = some a->sh i=true->(0<=(roundsN ms n sh N c).1 i/\(roundsN ms n sh N c).1 i<=a.Most)/\(0 < (roundsN ms n sh N c).2->(roundsN ms n sh N c).1 i=a.Most)
 | 0,_,_,_,_,h=>by omega
 | n+1,sh,N,c,hr,h=>fun i a hi hm hs=>by
  unfold roundsN
  by_cases h0:zxG sh=true
  ·have:=zxJ.1 h0 i hi; rw[hs] at this; cases this
  ·rw[if_neg h0];have hu:=zxR hms hr.sup h0;have hc:=hr.c0 i hs;have hp:=zxA hu hr.nn.1 hi
   by_cases h1:zxH (zwT ms sh (zxg N (uF ms sh))) sh=true
   ·rw[if_pos h1];have h2:=zxK.1 h1 i hi;rw[zxM hm,hs,Bool.true_and] at h2;have h3:zxg N (uF ms sh) i<=a.Most:=of_decide_eq_true h2;exact⟨by show 0<=c i+_/\c i+_<=_; omega,fun h=>absurd h (Int.lt_irrefl _)⟩
   ·rw[if_neg h1];have hless:=zxN h1
    cases hq:zwT ms sh (zxg N (uF ms sh)) i with
    | true=>exact zx2 hms n _ _ _ (hr.next hms h0) (by omega) i a hi hm hq
    | false=>
     rw[zx1 hms n _ _ _ (hr.next hms h0) (by omega) i hi hq];have e:mF ms (fun i=>sh i && !zwT ms sh (zxg N (uF ms sh)) i) i=a.Most:=zxP hm (by show(sh i && !zwT ms sh _ i)=true; rw[hs,hq]; rfl);have hb:=(hms.2 a (List.mem_of_getElem? hm)).most;rw[e,hc];exact⟨by omega,fun _=>by omega⟩
end
section
variable {ms:List Mb} {ask:Nat->Bool} {N:Int}
theorem RI0(hs:zxI ms ask)(hN:0<=N/\N<=1000000):RI ms ask N fun _=>0:=⟨hs,hN,fun _ _=>by omega,fun _ _=>rfl⟩
theorem zx3(hms:zxE ms)(hs:zxI ms ask)(hN:0<=N/\N<=1000000):S5 (zxX ms ask N).1+(zxX ms ask N).2=N/\0<=(zxX ms ask N).2:=by
 have:=zxY ask;have h:=zx0 hms 6 ask N (fun _=>0) (RI0 hs hN) (by omega);rw[zwZ] at h;exact⟨by rw[Int.add_zero] at h; exact h.1,h.2⟩
theorem zx4(hms:zxE ms)(hs:zxI ms ask)(hN:0<=N/\N<=1000000){i:Nat}(hi:i < 5)(ha:ask i=false):(zxX ms ask N).1 i=0:=by
 have:=zxY ask;exact zx1 hms 6 ask N (fun _=>0) (RI0 hs hN) (by omega) i hi ha
theorem zx5(hms:zxE ms)(hs:zxI ms ask)(hN:0<=N/\N<=1000000){i:Nat}{a:Mb}(hi:i < 5)(hm:ms[i]? = some a)(ha:ask i=true):(0<=(zxX ms ask N).1 i/\(zxX ms ask N).1 i<=a.Most)/\(0 < (zxX ms ask N).2->(zxX ms ask N).1 i=a.Most):=by
 have:=zxY ask;exact zx2 hms 6 ask N (fun _=>0) (RI0 hs hN) (by omega) i a hi hm ha
theorem zx6(hms:zxE ms)(hs:zxI ms ask)(hN:0<=N/\N<=1000000){i:Nat}(hi:i < 5):0<=(zxX ms ask N).1 i/\(zxX ms ask N).1 i<=100000:=by
 cases ha:ask i with
 | false=>rw[zx4 hms hs hN hi ha]; omega
 | true=>
  have hm:=List.getElem?_eq_getElem (hs i ha);have h:=zx5 hms hs hN hi hm ha;have hb:=(hms.2 _ (List.getElem_mem (hs i ha))).most
  omega
end
end
end Go.Proofs.Ytkclhciahokifaa

namespace Go.Proofs.Ytkclhciahokifaa
open _root_.Go.Proofs.Try
open Go.Abs
set_option maxRecDepth 100000
noncomputable section
def RgV(r:Rg):Prop:=0<=r.Lo/\r.Lo<=r.Hi/\r.Hi<=100000/\r.Hi - r.Lo<=30
instance (r:Rg):Decidable (RgV r):=by unfold RgV; infer_instance
structure zx7 (s:Soc):Prop where
 pos:0 < s.Members.length
 ms:∀a∈s.Members,zxD a
 ls:∀r∈s.Losses,RgV r
 tr:RgV s.Treaty
 rs:0<=s.Reserve/\s.Reserve<=100000
structure zx8 (s:Soc):Prop where
 m5:s.Members.length<=5
 l3:s.Losses.length<=3
 full:zx7 s
theorem zx8.msOk{s:Soc}(h:zx8 s):zxE s.Members:=⟨h.m5,h.full.ms⟩
open Classical in
def zx9(s:Soc):Int:=if 5 < s.Members.length\/3 < s.Losses.length then 3 else if zx7 s then 0 else 1
theorem zya{s:Soc}:zx9 s=0↔zx8 s:=by
 unfold zx9
 by_cases h:5 < s.Members.length\/3 < s.Losses.length
 ·rw[if_pos h]; exact⟨fun h=>by omega,fun h2=>by have:=h2.m5; have:=h2.l3; omega⟩
 ·rw[if_neg h]
  by_cases hf:zx7 s
  ·rw[if_pos hf]; exact⟨fun _=>⟨by omega,by omega,hf⟩,fun _=>rfl⟩
  ·rw[if_neg hf]; exact⟨fun h=>by omega,fun h=>absurd h.full hf⟩
theorem zyb{r:Rg}{n:Int}:Ev (zsD r n) (r.Lo<=n/\n<=r.Hi):=Ev.ite fun _=>Ev.dec Iff.rfl
theorem zyc{n:Int}:Ev (zsE n) (0<=n/\n<=100000):=zyb.ret
theorem zyd{r:Rg}:Ev (zsF r) (RgV r):=by
 refine(zyc.and fun h1=>zyc.and fun h2=>Ev.ite (K:=r.Hi - r.Lo<=30) fun _=>Ev.gd (fI (by omega)) (Ev.dec Iff.rfl)).imp ?_;unfold RgV; omega
theorem zye{a:Mb}:Ev (zsG ({ su:=({ Lo:=(1:Int),Hi:=(1000:Int) }:Rg),cl:=({ Lo:=(1:Int),Hi:=(10:Int) }:Rg),mo:=({ Lo:=(0:Int),Hi:=(100000:Int) }:Rg) }:Lm) a) (zxD a):=
 (zyb.and fun _=>zyb.and fun _=>zyb.ret).imp ⟨fun⟨h1,h2,h3⟩=>⟨h1,h2,h3⟩,fun⟨h1,h2,h3⟩=>⟨h1,h2,h3⟩⟩
theorem gM{l:List Mb}{p:Mb->Option Bool}:∀{d:Nat} {x:Int},zsI l p d x=gIdx l p d x
 | 0,_=>rfl
 | d+1,x=>by unfold zsI gIdx; simp only[gM]
theorem gR{l:List Rg}{p:Rg->Option Bool}:∀{d:Nat} {x:Int},zsN l p d x=gIdx l p d x
 | 0,_=>rfl
 | d+1,x=>by unfold zsN gIdx; simp only[gR]
theorem gI{l:List Int}{p:Int->Option Bool}:∀{d:Nat} {x:Int},zsS l p d x=gIdx l p d x
 | 0,_=>rfl
 | d+1,x=>by unfold zsS gIdx; simp only[gI]
theorem zyf{s:Soc}(h1:zrR s.Members)(h2:zrR s.Losses):Ev (zsZ s) (zx7 s):=by
 refine(Ev.ite fun _=>(Ev.each (q:=zxD) (fun a _=>zye) h1.lt gM).and fun _=>(Ev.each (q:=RgV) (fun a _=>zyd) h2.lt gR).and fun _=>zyd.and fun _=>zyc.ret).imp ?_;exact⟨fun⟨a,b,c,d,e⟩=>⟨by omega,b,c,d,e⟩,fun⟨a,b,c,d,e⟩=>⟨by omega,b,c,d,e⟩⟩
theorem zyg{s:Soc}:Ev (zsY s) (5 < s.Members.length\/3 < s.Losses.length):=by
 unfold zsY
 by_cases h:(5:Int) < s.Members.length
 ·rw[if_pos h]; exact Ev.tt (by omega)
 ·rw[if_neg h]; exact Ev.dec (by omega)
theorem zyh{s:Soc}(h1:zrR s.Members)(h2:zrR s.Losses):zs0 s=some (zx9 s):=by
 unfold zs0 zx9;refine zyg.pick (fun h=>?_) fun h=>?_
 ·rw[if_pos rfl,if_pos h]
 ·rw[if_neg (by decide),if_neg h];refine(zyf h1 h2).pick (fun h=>?_) fun h=>?_
  ·rw[if_pos rfl,if_pos h]
  ·rw[if_neg (by decide),if_neg h]
theorem zyi{n lo hi:Int}:Ev (zsh n lo hi) (lo<=n/\n<=hi):=Ev.ite fun _=>Ev.dec Iff.rfl
theorem zyj{r:Rg}:Ev (zsi r) (RgV r):=Ev.ite fun h1=>Ev.ite fun h2=>Ev.ite fun h3=>Ev.gd (fI (by omega)) (Ev.dec Iff.rfl)
theorem zyk{s:Soc}(h1:s.Members.length<=8)(h2:s.Losses.length<=6):zsk s=some (zx9 s):=by
 unfold zsk zx9
 by_cases c1:5 < s.Members.length
 ·rw[if_pos (by omega),if_pos (.inl c1)]
 rw[if_neg (by omega)]
 by_cases c2:3 < s.Losses.length
 ·rw[if_pos (by omega),if_pos (.inr c2)]
 rw[if_neg (show ¬ (3:Int) < s.Losses.length by omega),if_neg (show ¬ (5 < s.Members.length\/3 < s.Losses.length) by omega)]
 by_cases c3:s.Members.length=0
 ·rw[if_pos (by omega),if_neg fun h:zx7 s=>by have:=h.pos; omega]
 rw[if_neg (show ¬ (s.Members.length:Int)=0 by omega)]
 refine zyj.pick (fun c4=>?_) fun c4=>by rw[if_neg (by decide),if_neg fun h=>c4 h.tr]
 rw[if_pos rfl]
 refine zyi.pick (fun c5=>?_) fun c5=>by rw[if_neg (by decide),if_neg fun h=>c5 h.rs]
 rw[if_pos rfl]
 have kL:=zrQ (l:=s.Losses) (F:=fun d x=>prFault_L1 s d x) (ok:=RgV) (bad:=some 1) (fin:=some 0) (fun d k a hk=>by
  have hkl:=(List.getElem?_eq_some_iff.1 hk).1
  show(RgV a->prFault_L1 s (d+1) (k:Int)=_)/\_
  rw[prFault_L1,if_pos (by omega),zrH hk,obs]
  exact Ev.step zyj (by rw[if_pos rfl,zqr (fI (by omega))]) (by rw[if_neg (by decide)])) (fun d=>by show prFault_L1 s (d+1) _=_; rw[prFault_L1,if_neg (Int.lt_irrefl _)]) (d:=1000000) (by omega)
 have kM:=zrQ (l:=s.Members) (F:=fun d x=>zsj s d 0 x) (ok:=zxD) (bad:=some 1) (fin:=prFault_L1 s 1000000 0) (fun d k a hk=>by
  have hkl:=(List.getElem?_eq_some_iff.1 hk).1
  show(zxD a->zsj s (d+1) 0 (k:Int)=_)/\_
  rw[zsj,if_pos (by omega),zrH hk,obs];refine⟨fun h=>?_,fun h=>?_⟩
  ·rw[zyi.some_of h.sum,obs,if_pos rfl,zyi.some_of h.cls,obs,if_pos rfl,zyi.some_of h.most,obs,if_pos rfl,zqr (fI (by omega))]
  ·refine zyi.pick (fun q1=>?_) fun q1=>by rw[if_neg (by decide)]
   rw[if_pos rfl]
   refine zyi.pick (fun q2=>?_) fun q2=>by rw[if_neg (by decide)]
   rw[if_pos rfl]
   refine zyi.pick (fun q3=>absurd ⟨q1,q2,q3⟩ h) fun q3=>by rw[if_neg (by decide)]) (fun d=>by show zsj s (d+1) 0 _=_; rw[zsj,if_neg (Int.lt_irrefl _)]) (d:=1000000) (by omega)
 by_cases c6:∀a∈s.Members,zxD a
 ·refine(kM.1 c6).trans ?_
  by_cases c7:∀r∈s.Losses,RgV r
  ·refine(kL.1 c7).trans ?_;rw[if_pos ⟨by omega,c6,c7,c4,c5⟩]
  ·refine(kL.2 c7).trans ?_;rw[if_neg fun h=>c7 h.ls]
 ·refine(kM.2 c6).trans ?_;rw[if_neg fun h=>c6 h.ms]
theorem zyl{s:Soc}(h1:s.Members.length<=8)(h2:s.Losses.length<=6):zue s=some (zx9 s):=by unfold zue; rw[zyk h1 h2]; rfl
def zym(n:Nat)(out:List Int):Nat->Bool:=fun i=>decide (i < n) && !decide ((i:Int)∈out)
def zyn(s:Soc)(out:List Int):Wk:={ s:=s,asked:=mkF (zym s.Members.length out) }
theorem zyo(ms:List Mb)(out:List Int):zxI ms (zym ms.length out):=fun i h=>by
 unfold zym at h
 simp at h; exact h.1
theorem zyp{l:List Int}{v:Int}(hl:zrR l):∀d (k:Nat),k<=l.length->l.length - k < d->∃r,zs5 l v d (k:Int)=some r/\(0<=r↔v∈l.drop k)
 | 0,k,_,h=>by omega
 | d+1,k,hk,h=>by
  unfold zrR at hl;unfold zs5
  by_cases hkn:k=l.length
  ·subst hkn; rw[if_neg (Int.lt_irrefl _)]; exact⟨_,rfl,by simp⟩
  ·have hlt:k < l.length:=by omega
   rw[if_pos (by omega),zrH (List.getElem?_eq_getElem hlt),obs];have hd:=List.drop_eq_getElem_cons hlt
   by_cases hv:v=l[k]
   ·rw[if_pos hv]; exact⟨_,rfl,⟨fun _=>by rw[hd,<- hv]; exact List.mem_cons_self ..,fun _=>by omega⟩⟩
   ·rw[if_neg hv,zqr (fI (by omega)),show(k:Int)+1=((k+1:Nat):Int) by omega];obtain⟨r,h1,h2⟩:=zyp hl d (k+1) (by omega) (by omega);exact⟨r,h1,h2.trans ⟨fun h=>by rw[hd]; exact List.mem_cons_of_mem _ h,fun h=>by rw[hd] at h; exact(List.mem_cons.1 h).resolve_left hv⟩⟩
theorem zyq{l:List Int}{v:Int}(hl:zrR l):zs7 l v=some (decide (v∈l)):=by
 unfold zs7 zs6;obtain⟨r,h1,h2⟩:=zyp (v:=v) hl (l.length+1) 0 (Nat.zero_le _) (by omega);have h1:zs5 l v (l.length+1) 0=some r:=h1;rw[h1,obs];exact congrArg some (decide_eq_decide.2 (h2.trans (by rw[List.drop_zero])))
theorem zyr{s:Soc}{out:List Int}(hl:zrR out)(h5:s.Members.length<=5):zs9 s out=some (zyn s out):=by
 unfold zs9;have key:=zwF (n:=s.Members.length) (fun d st x=>zs8 s out d s.Treaty.Lo s.Treaty.Hi s.Reserve (st 0) (st 1) (st 2) (st 3) (st 4) x) (stF (zym s.Members.length out) fun _=>false) (fin:=some (zyn s out)) (fun d k hk=>?_) (fun d=>?_) (s.Members.length+1) 0 (by omega) (by omega)
 ·rw[zwJ] at key; exact key
 ·show zs8 s out (d+1) _ _ _ _ _ _ _ _ _=_
  rw[zs8,if_pos (by omega),zyq hl,obs,zqr (by omega),zqr (fI (by omega))];have e:=zwL (zym s.Members.length out) (fun _=>false) k
  have e0:(!decide ((k:Int)∈out))=zym s.Members.length out k:=by unfold zym; rw[decide_eq_true hk,Bool.true_and]
  rw[e0,e 0,e 1,e 2,e 3,e 4]
 ·show zs8 s out (d+1) _ _ _ _ _ _ _ _ _=_
  rw[zs8,if_neg (by omega)]
  have e1:∀j,stF (zym s.Members.length out) (fun _=>false) s.Members.length j=zym s.Members.length out j:=fun j=>by
   unfold stF
   by_cases h:j < s.Members.length
   ·rw[if_pos h]
   ·rw[if_neg h]; unfold zym; rw[decide_eq_false h]; rfl
  rw[e1 0,e1 1,e1 2,e1 3,e1 4]; rfl
def zys(n:Nat)(l:List Int):Prop:=l.Pairwise (· < ·)/\∀v∈l,0<=v/\v<=(n:Int) - 1
theorem zyt{l:List Int}:(∀j,0 < j->j < l.length->∀a b,l[j - 1]? = some a->l[j]? = some b->a < b)↔l.Pairwise (· < ·):=by
 constructor
 ·intro h;rw[List.pairwise_iff_getElem];intro i j hi hj hij
  have key:∀d,(hd:i+d+1 < l.length)->l[i] < l[i+d+1]:=fun d=>by
   induction d with
   | zero=>intro hd; exact h (i+1) (by omega) hd _ _ (List.getElem?_eq_getElem hi) (List.getElem?_eq_getElem hd)
   | succ d ih=>
    intro hd;have h1:=ih (by omega);have h2:=h (i+(d+1)+1) (by omega) hd _ _ (List.getElem?_eq_getElem (show i+d+1 < l.length by omega)) (List.getElem?_eq_getElem hd);exact Int.lt_trans h1 h2
  have:=key (j - i - 1) (by omega)
  simpa [show i+(j - i - 1)+1=j by omega] using this
 ·intro h j h0 hj a b ha hb;obtain⟨h1,rfl⟩:=List.getElem?_eq_some_iff.1 ha;obtain⟨h2,rfl⟩:=List.getElem?_eq_some_iff.1 hb;exact List.pairwise_iff_getElem.1 h (j - 1) j h1 h2 (by omega)
theorem zyu{l:List Int}(hl:zrR l):Ev (zsX l) (l.Pairwise (· < ·)):=by
 unfold zrR at hl;unfold zsX
 by_cases h0:l.length=0
 ·have:l=[]:=List.eq_nil_of_length_eq_zero h0;subst this
  show Ev (zsW [] 1 1) _
  rw[zsW,if_neg (by decide)];exact Ev.tt .nil
 ·have e:∃n,l.length=n+1:=⟨l.length - 1,by omega⟩;obtain⟨n,hn⟩:=e
  have key:=zrL (n:=n) (F:=fun d x=>zsW l d (x+1)) (ok:=fun j=>∀a b,l[j]? = some a->l[j+1]? = some b->a < b) (bad:=some false) (fin:=some true) (fun d k hk=>by
   show(_->zsW l (d+1) ((k:Int)+1)=_)/\_
   have ha:=List.getElem?_eq_getElem (show k < l.length by omega);have hb:=List.getElem?_eq_getElem (show k+1 < l.length by omega);rw[zsW,if_pos (by omega),zrI (show(k:Int)+1=((k+1:Nat):Int) by omega) (show k+1 < l.length by omega),obs,zqr (fI (by omega)),zrI (show(k:Int)+1 - 1=(k:Int) by omega) (show k < l.length by omega),obs];refine⟨fun h=>?_,fun h=>?_⟩
   ·have:=h _ _ ha hb;rw[if_neg (by omega),zqr (fI (by omega))]
   ·rw[if_pos]
    apply Classical.byContradiction
    intro h2
    exact h fun a b h3 h4=>by rw[ha] at h3; rw[hb] at h4; cases h3; cases h4; omega) (fun d=>by show zsW l (d+1) _=_; rw[zsW,if_neg (by omega)]) (d:=((l.length:Int) - 1).toNat+1) (by omega)
  have e0:zsW l (((l.length:Int) - 1).toNat+1) (0+1)=zsW l (((l.length:Int) - 1).toNat+1) 1:=rfl
  have hiff:(∀j,j < n->∀a b,l[j]? = some a->l[j+1]? = some b->a < b)↔l.Pairwise (· < ·):=by
   rw[<- zyt]
   constructor
   ·intro h j h0 hj a b h1 h2;have:=h (j - 1) (by omega) a b h1;rw[show j - 1+1=j by omega] at this;exact this h2
   ·intro h j hj a b h1 h2;exact h (j+1) (by omega) (by omega) a b (by rw[Nat.add_sub_cancel]; exact h1) h2
  by_cases hq:∀j,j < n->∀a b,l[j]? = some a->l[j+1]? = some b->a < b
  ·have:=key.1 hq;exact⟨true,this,⟨fun _=>hiff.1 hq,fun _=>rfl⟩⟩
  ·have:=key.2 hq;exact⟨false,this,⟨fun h=>(by cases h),fun h=>absurd (hiff.2 h) hq⟩⟩
theorem zyv{s:Soc}{l:List Int}(hl:zrR l)(hm:zrR s.Members):Ev (zs4 s l) (zys s.Members.length l):=by
 unfold zrR at hm;refine((zyu hl).and fun _=>(Ev.each (q:=fun v=>0<=v/\v<=(s.Members.length:Int) - 1) (fun v _=>?_) hl.lt gI).ret).imp Iff.rfl;exact Ev.gd (fI (by omega)) zyb.ret
theorem zyw{s:Soc}{out:List Int}(hs:zx8 s)(hl:zrR out)(ho:zys s.Members.length out):zta s out=some (zyn s out,0):=by
 have h1:=hs.m5; have h2:=hs.l3;unfold zta;rw[zyh (by unfold zrR; omega) (by unfold zrR; omega),obs,if_pos (zya.2 hs),(zyv hl (by unfold zrR; omega)).some_of ho,obs,if_pos rfl,zyr hl h1,obs]
theorem zyx(n:Nat):zys n []:=⟨.nil,fun _ h=>by cases h⟩
def zyy(lo hi:Int):List Int:=(List.range (hi - lo+1).toNat).map fun(k:Nat)=>lo+(k:Int)
theorem zyz{lo hi x:Int}:x∈zyy lo hi↔lo<=x/\x<=hi:=by
 unfold zyy;rw[List.mem_map]
 constructor
 ·rintro⟨k,h1,rfl⟩
  have:=List.mem_range.1 h1
  omega
 ·intro h; exact⟨(x - lo).toNat,List.mem_range.2 (by omega),by omega⟩
def zyA(g:Rg->Int)(l:List Rg):Int:=zwW (l.map g)
theorem zyB{l:List Rg}(h:∀r∈l,RgV r):0<=zyA (·.Lo) l/\zyA (·.Lo) l<=zyA (·.Hi) l/\zyA (·.Hi) l<=100000 * l.length/\zyA (·.Hi) l<=zyA (·.Lo) l+30 * l.length:=by
 induction l with
 | nil=>exact⟨Int.le_refl _,Int.le_refl _,Int.le_refl _,Int.le_refl _⟩
 | cons r l ih=>
  have ih:=ih fun r hr=>h r (List.mem_cons_of_mem _ hr);have hr:=h r (List.mem_cons_self ..);unfold RgV at hr;have e1:zyA (·.Lo) (r::l)=r.Lo+zyA (·.Lo) l:=rfl;have e2:zyA (·.Hi) (r::l)=r.Hi+zyA (·.Hi) l:=rfl;rw[e1,e2,List.length_cons]
  omega
def loN(s:Soc):Int:=max 0 (zyA (·.Lo) s.Losses - s.Reserve - s.Treaty.Hi)
def hiN(s:Soc):Int:=max 0 (zyA (·.Hi) s.Losses - s.Reserve - s.Treaty.Lo)
theorem zyC{s:Soc}(hs:zx8 s):0<=loN s/\loN s<=hiN s/\hiN s<=300000/\hiN s<=loN s+120:=by
 have h:=zyB hs.full.ls;have h1:=hs.l3;have h2:=hs.full.tr;have h3:=hs.full.rs;unfold RgV at h2;unfold loN hiN
 omega
theorem zyD{g:Rg->Int}{l:List Rg}{k:Nat}{a:Rg}(h:l[k]? = some a):zyA g (l.take (k+1))=zyA g (l.take k)+g a:=by
 unfold zyA;rw[List.take_add_one,h,List.map_append,zwX]
 show _+(g a+0)=_; omega
theorem zyE{s:Soc}{a b:Int}(h:0<=a/\a<=1000000)(hb:0<=b/\b<=1000000)(hr:0<=s.Reserve/\s.Reserve<=100000):ztb s a b=some (max 0 (a - s.Reserve - b)):=by
 unfold ztb;rw[zqr (fI (by omega)),zqr (fI (by omega))]
theorem zyF{hi:Int}(hh:hi<=1000000):∀(d:Nat) (x:Int),0<=x->(hi - x+1).toNat < d->zte hi d x=some (zyy x hi)
 | 0,_,_,h=>by omega
 | d+1,x,hx,h=>by
  rw[zte]
  by_cases hc:x<=hi
  ·rw[if_pos hc,zqr (fI (by omega)),zyF hh d (x+1) (by omega) (by omega),obs]
   have e:(hi - x+1).toNat=(hi - (x+1)+1).toNat+1:=by omega
   have e2:zyy x hi=x::zyy (x+1) hi:=by
    unfold zyy;rw[e,List.range_succ_eq_map,List.map_cons,List.map_map];refine congr (congrArg List.cons (by show x+((0:Nat):Int)=x; omega)) (List.map_congr_left fun k _=>?_)
    show x+((k+1:Nat):Int)=x+1+(k:Int)
    omega
   rw[e2]
  ·rw[if_neg hc]
   have e:(hi - x+1).toNat=0:=by omega
   unfold zyy; rw[e]; rfl
theorem zyG{s:Soc}(hs:zx8 s):zth s=some (zyy (loN s) (hiN s)):=by
 have hb:=zyB hs.full.ls;have hn:=zyC hs;have h3:=hs.l3;have htr:=hs.full.tr;unfold RgV at htr;have hrs:=hs.full.rs
 have e:ztg s=some (zyy (loN s) (hiN s)):=by
  unfold ztg;refine zwF (n:=s.Losses.length) (fun d (st:Int × Int) x=>ztf s d st.1 st.2 x) (fun k=>(zyA (·.Lo) (s.Losses.take k),zyA (·.Hi) (s.Losses.take k))) (fun d k hk=>?_) (fun d=>?_) (s.Losses.length+1) 0 (by omega) (by omega)
  ·have hg:=List.getElem?_eq_getElem hk;have h1:=zyB (l:=s.Losses.take k) fun r hr=>hs.full.ls r (List.mem_of_mem_take hr);have h2:=hs.full.ls _ (List.getElem_mem hk)
   have h4:(s.Losses.take k).length<=3:=by rw[List.length_take]; omega
   unfold RgV at h2
   show ztf s (d+1) (zyA _ _) (zyA _ _) (k:Int)=ztf s d (zyA _ _) (zyA _ _) _
   rw[ztf,if_pos (by omega),zrH hg,obs,zqr (fI (by omega)),zqr (fI (by omega)),zqr (fI (by omega)),zyD hg,zyD hg]
  ·show ztf s (d+1) (zyA _ _) (zyA _ _) _=_
   rw[ztf,if_neg (Int.lt_irrefl _),List.take_length,zyE (by omega) (by omega) hrs,obs,zyE (by omega) (by omega) hrs,obs];exact zyF (by unfold hiN at hn; omega) _ _ (by omega) (by omega)
 unfold zth;rw[e]; rfl
end
end Go.Proofs.Ytkclhciahokifaa

namespace Go.Proofs.Ytkclhciahokifaa
open _root_.Go.Proofs.Try
open Go.Abs
set_option maxRecDepth 100000
noncomputable section
def Inc(n fr:Nat)(T:List Int):Prop:=T.Pairwise (· < ·)/\∀v∈T,(fr:Int)<=v/\v < n
theorem Inc.cons{n fr:Nat}{x:Int}{T:List Int}:Inc n fr (x::T)↔((fr:Int)<=x/\x < n)/\Inc n (x+1).toNat T:=by
 unfold Inc;rw[List.pairwise_cons]
 constructor
 ·rintro⟨⟨h1,h2⟩,h3⟩
  have hx:=h3 x (List.mem_cons_self ..);exact⟨hx,h2,fun v hv=>by have:=h1 v hv; have:=h3 v (List.mem_cons_of_mem _ hv); omega⟩
 ·rintro⟨hx,h2,h3⟩
  refine⟨⟨fun v hv=>by have:=h3 v hv; omega,h2⟩,fun v hv=>?_⟩
  rcases List.mem_cons.1 hv with rfl | hv
  ·exact hx
  ·have:=h3 v hv; omega
theorem zyH{n:Nat}{D:List Int}:∀{d:Nat} {pre:List Int} {fr:Nat},D∈zrw n d pre fr↔∃T,D=pre++T/\T.length=d/\Inc n fr T
 | 0,pre,fr=>by
  show D∈[pre]↔_
  rw[List.mem_singleton]
  constructor
  ·rintro rfl; exact⟨[],by simp,rfl,.nil,fun v hv=>by cases hv⟩
  ·rintro⟨T,h1,h2,_⟩
   rw[List.eq_nil_of_length_eq_zero h2,List.append_nil] at h1; exact h1
 | d+1,pre,fr=>by
  show D∈zrv (fun x=>zrw n d (pre++[(x:Int)]) (x+1)) (n - fr) fr↔_
  rw[zuR]
  constructor
  ·rintro⟨x,h1,h2,h3⟩
   obtain⟨T,h4,h5,h6⟩:=zyH.1 h3;refine⟨(x:Int)::T,by rw[h4]; simp,by simp[h5],Inc.cons.2 ⟨by omega,?_⟩⟩;rw[show((x:Int)+1).toNat=x+1 by omega]; exact h6
  ·rintro⟨T,h1,h2,h3⟩
   cases T with
   | nil=>simp at h2
   | cons v T=>
    obtain⟨h4,h5⟩:=Inc.cons.1 h3;refine⟨v.toNat,by omega,by omega,zyH.2 ⟨T,?_,by simpa using h2,?_⟩⟩
    ·rw[show((v.toNat:Nat):Int)=v by omega,h1]; simp
    ·rw[show v.toNat+1=(v+1).toNat by omega]; exact h5
theorem zyI{n:Nat}:∀{T:List Int} {fr:Nat},Inc n fr T->T.length<=n - fr
 | [],_,_=>Nat.zero_le _
 | v::T,fr,h=>by
  obtain⟨h1,h2⟩:=Inc.cons.1 h;have:=zyI h2
  simp only[List.length_cons]
  omega
theorem zyJ{n:Nat}{D:List Int}:D∈zoh n↔Inc n 0 D:=by
 unfold zoh;rw[zuR]
 constructor
 ·rintro⟨s,_,_,h⟩
  obtain⟨T,h1,_,h2⟩:=zyH.1 h;rw[h1]; exact h2
 ·intro h;have:=zyI h;exact⟨D.length,Nat.zero_le _,by omega,zyH.2 ⟨D,rfl,rfl,h⟩⟩
def bef:List Int->List Int->Bool
 | [],[]=>false
 | [],_::_=>true
 | _::_,[]=>false
 | x::a,y::b=>if x=y then bef a b else decide (x < y)
def shB(a b:List Int):Bool:=decide (a.length < b.length) || (decide (a.length=b.length) && bef a b)
theorem zyK:∀A:List Int,bef A A=false
 | []=>rfl
 | x::A=>by show(if x=x then bef A A else _)=_; rw[if_pos rfl,zyK A]
theorem zyL:∀A B:List Int,A=B\/bef A B=true\/bef B A=true
 | [],[]=>.inl rfl
 | [],_::_=>.inr (.inl rfl)
 | _::_,[]=>.inr (.inr rfl)
 | x::A,y::B=>by
  show x::A=y::B\/(if x=y then bef A B else decide (x < y))=true\/(if y=x then bef B A else decide (y < x))=true
  by_cases hxy:x=y
  ·subst hxy;rw[if_pos rfl,if_pos rfl]
   rcases zyL A B with h | h | h
   ·exact .inl (by rw[h])
   ·exact .inr (.inl h)
   ·exact .inr (.inr h)
  ·rw[if_neg hxy,if_neg fun h=>hxy h.symm]
   by_cases h:x < y
   ·exact .inr (.inl (decide_eq_true h))
   ·exact .inr (.inr (decide_eq_true (by omega)))
theorem zyM{l:List Int}(h:l ≠ [])(hl:l.length<=1048577):ztJ l=some (zrT l):=by
 unfold ztJ
 cases l with
 | nil=>exact absurd rfl h
 | cons x l=>
  rw[if_neg (by rw[List.length_cons]; omega),zrJ rfl,obs];refine(zrS (l:=x::l) (fun s a=>min s a) (fun d s k=>ztI (x::l) d s k) (fun s=>some s) (fun d k s a hk=>?_) (fun d s=>?_) _ 0 x (Nat.zero_le _) (by omega)).trans ?_
  ·have hkl:=(List.getElem?_eq_some_iff.1 hk).1
   show ztI (x::l) (d+1) s (k:Int)=_
   rw[ztI,if_pos (by omega),zrH hk,obs]
   by_cases hc:a < s
   ·rw[if_pos hc,zqr (fI (by omega)),Int.min_eq_right (by omega)]
   ·rw[if_neg hc,zqr (fI (by omega)),Int.min_eq_left (by omega)]
  ·show ztI (x::l) (d+1) s _=_
   rw[ztI,if_neg (Int.lt_irrefl _)]
  ·rw[List.drop_zero]
   show some (l.foldl min (min x x))=_
   rw[Int.min_self]; rfl
theorem zyN{l:List Int}(h:l ≠ [])(hl:l.length<=1048577):ztL l=some (zrU l):=by
 unfold ztL
 cases l with
 | nil=>exact absurd rfl h
 | cons x l=>
  rw[if_neg (by rw[List.length_cons]; omega),zrJ rfl,obs];refine(zrS (l:=x::l) (fun s a=>max s a) (fun d s k=>ztK (x::l) d s k) (fun s=>some s) (fun d k s a hk=>?_) (fun d s=>?_) _ 1 x (by rw[List.length_cons]; omega) (by rw[List.length_cons]; omega)).trans ?_
  ·have hkl:=(List.getElem?_eq_some_iff.1 hk).1
   show ztK (x::l) (d+1) s (k:Int)=_
   rw[ztK,if_pos (by omega),zrH hk,obs,zqr (fI (by omega))]
  ·show ztK (x::l) (d+1) s _=_
   rw[ztK,if_neg (Int.lt_irrefl _)]
  ·rfl
theorem zyO{l:List Int}(h:l ≠ []):zrT l∈l/\∀y∈l,zrT l<=y:=by
 cases l with
 | nil=>exact absurd rfl h
 | cons x l=>
  obtain⟨h1,h2,h3⟩:=zrV l x;refine⟨?_,fun y hy=>?_⟩
  ·rcases h1 with h1 | h1
   ·show l.foldl min x∈_; rw[h1]; exact List.mem_cons_self ..
   ·exact List.mem_cons_of_mem _ h1
  ·rcases List.mem_cons.1 hy with rfl | hy
   ·exact h2
   ·exact h3 y hy
theorem zyP{l:List Int}(h:l ≠ []):zrU l∈l/\∀y∈l,y<=zrU l:=by
 cases l with
 | nil=>exact absurd rfl h
 | cons x l=>
  obtain⟨h1,h2,h3⟩:=zrW l x;refine⟨?_,fun y hy=>?_⟩
  ·rcases h1 with h1 | h1
   ·show l.foldl max x∈_; rw[h1]; exact List.mem_cons_self ..
   ·exact List.mem_cons_of_mem _ h1
  ·rcases List.mem_cons.1 hy with rfl | hy
   ·exact h2
   ·exact h3 y hy
def bnd(s:Soc)(g:Int->Int):Rg:={ Lo:=zrT ((zyy (loN s) (hiN s)).map g),Hi:=zrU ((zyy (loN s) (hiN s)).map g) }
def zyQ(s:Soc)(out:List Int)(N:Int):Oc:={ need:=N,calls:=mk5 (zxX s.Members (zym s.Members.length out) N).1 }
theorem zyR{s:Soc}(hs:zx8 s):(zyy (loN s) (hiN s)).length<=121:=by
 have:=zyC hs;unfold zyy; rw[List.length_map,List.length_range]; omega
theorem zyS{s:Soc}(hs:zx8 s):zyy (loN s) (hiN s) ≠ []:=fun h=>by
 have:=zyC hs;have:loN s∈zyy (loN s) (hiN s):=zyz.2 (by omega)
 rw[h] at this; cases this
theorem zyT{s:Soc}(hs:zx8 s)(g:Int->Int):(∃N,(loN s<=N/\N<=hiN s)/\g N=(bnd s g).Lo)/\(∃N,(loN s<=N/\N<=hiN s)/\g N=(bnd s g).Hi)/\∀N,loN s<=N/\N<=hiN s->(bnd s g).Lo<=g N/\g N<=(bnd s g).Hi:=by
 have hne:(zyy (loN s) (hiN s)).map g ≠ []:=fun h=>zyS hs (List.map_eq_nil_iff.1 h);obtain⟨a1,a2⟩:=zyO hne;obtain⟨b1,b2⟩:=zyP hne;obtain⟨x,hx,ex⟩:=List.mem_map.1 a1;obtain⟨y,hy,ey⟩:=List.mem_map.1 b1;exact⟨⟨x,zyz.1 hx,ex⟩,⟨y,zyz.1 hy,ey⟩,fun N hN=>⟨a2 _ (List.mem_map.2 ⟨N,zyz.2 hN,rfl⟩),b2 _ (List.mem_map.2 ⟨N,zyz.2 hN,rfl⟩)⟩⟩
theorem zyU{s:Soc}(hs:zx8 s):bnd s (fun N=>N)={ Lo:=loN s,Hi:=hiN s }:=by
 obtain⟨⟨x,hx,ex⟩,⟨y,hy,ey⟩,h⟩:=zyT hs fun N=>N;have hb:=zyC hs;have h1:=(h (loN s) ⟨Int.le_refl _,hb.2.1⟩).1;have h2:=(h (hiN s) ⟨hb.2.1,Int.le_refl _⟩).2
 have e1:(bnd s fun N=>N).Lo=loN s:=by omega
 have e2:(bnd s fun N=>N).Hi=hiN s:=by omega
 revert e1 e2
 generalize bnd s (fun N=>N)=r;intro e1 e2
 cases r
 exact congr (congrArg Rg.mk e1) e2
theorem zyV{s:Soc}(hs:zx8 s)(out:List Int){N:Int}(hN:0<=N/\N<=1000000):ztF (zyn s out) N=some (zyQ s out N):=zxZ (w:=zyn s out) hs.msOk rfl (zyo s.Members out) hN
theorem zyW{s:Soc}(hs:zx8 s){out:List Int}{q:Qu}{g:Int->Int}(hg:∀N,loN s<=N->N<=hiN s->q.ask (zyQ s out N)=some (g N)) :
  ∀(L:List Int) (acc:List Int),(∀N∈L,loN s<=N/\N<=hiN s)->acc.length+L.length<=1000->acc++L.map g ≠ []->ztM (zyn s out) q L acc=some { Lo:=zrT (acc++L.map g),Hi:=zrU (acc++L.map g) }
 | [],acc,_,hl,hne=>by
  rw[List.map_nil,List.append_nil] at hne ⊢;rw[ztM,zyM hne (by omega),obs,zyN hne (by omega),obs]
 | N::L,acc,hN,hl,hne=>by
  have h1:=hN N (List.mem_cons_self ..);have hb:=zyC hs;rw[List.length_cons] at hl;rw[ztM,zyV hs out (by omega),obs,hg N h1.1 h1.2,obs,zqr (by omega),zyW hs hg L (acc++[g N]) (fun x hx=>hN x (List.mem_cons_of_mem _ hx)) (by rw[List.length_append]; show acc.length+1+_<=_; omega) (by simp)];rw[List.map_cons,List.append_assoc]; rfl
theorem zyX{s:Soc}(hs:zx8 s){out:List Int}{q:Qu}{g:Int->Int}(hg:∀N,loN s<=N->N<=hiN s->q.ask (zyQ s out N)=some (g N)):ztN (zyn s out) q=some (bnd s g):=by
 unfold ztN;rw[show(zyn s out).s=s from rfl,zyG hs,obs];have hl:=zyR hs;exact zyW hs hg _ [] (fun N hN=>zyz.1 hN) (by show 0+_<=_; omega) (fun h=>zyS hs (List.map_eq_nil_iff.1 h))
theorem zyY{s:Soc}(hs:zx8 s):ztV s=some ({ Lo:=loN s,Hi:=hiN s },0):=by
 unfold ztV;rw[zyw hs (Nat.zero_le _) (zyx _),obs,if_pos rfl,zyX hs (g:=fun N=>N) (fun N _ _=>rfl),obs,zyU hs]
theorem zyZ{s:Soc}(hs:zx8 s)(out:List Int){N:Int}(hN:0<=N/\N<=1000000):ztu (zyQ s out N)=some (zxX s.Members (zym s.Members.length out) N).2:=by
 have hsup:=zyo s.Members out;have h1:=zx3 hs.msOk hsup hN
 have hb:Bd 1000000000000 (zxX s.Members (zym s.Members.length out) N).1:=fun i hi=>by have:=zx6 hs.msOk hsup hN hi; omega
 have hb5:=fun i hi=>zx6 hs.msOk hsup hN (i:=i) hi;have b0:=hb5 0 (by omega); have b1:=hb5 1 (by omega); have b2:=hb5 2 (by omega); have b3:=hb5 3 (by omega); have b4:=hb5 4 (by omega)
 have hS:0<=S5 (zxX s.Members (zym s.Members.length out) N).1/\S5 (zxX s.Members (zym s.Members.length out) N).1<=500000:=by unfold S5; omega
 unfold ztu
 show(ztj (mk5 (zxX s.Members (zym s.Members.length out) N).1)).bind _=_
 rw[zwO hb,obs,zqr (fI (by show -9223372036854775808<=N - S5 _/\N - S5 _ < _; omega))];exact congrArg some (show N - S5 (zxX s.Members (zym s.Members.length out) N).1=_ by omega)
def zy0(s:Soc)(out:List Int)(N:Int):List Int:=(l5 (zxX s.Members (zym s.Members.length out) N).1).take s.Members.length
theorem zy1{s:Soc}(out:List Int)(N:Int)(h5:s.Members.length<=5):(zy0 s out N).length=s.Members.length:=by
 unfold zy0; rw[List.length_take]; show min _ 5=_; omega
theorem zy2{s:Soc}(out:List Int)(N:Int)(h5:s.Members.length<=5){k:Nat}(hk:k < s.Members.length):(zy0 s out N)[k]? = some ((zxX s.Members (zym s.Members.length out) N).1 k):=by
 unfold zy0; rw[List.getElem?_take,if_pos hk]; exact zwG (by omega)
theorem zy3{s:Soc}(hs:zx8 s){N:Int}(hN:0<=N/\N<=300000):ztX s N=some (zy0 s [] N,(zxX s.Members (zym s.Members.length []) N).2,0):=by
 have h5:=hs.m5;unfold ztX;rw[zyw hs (Nat.zero_le _) (zyx _),obs,if_pos rfl,zyb.some_of hN,obs,if_pos rfl]
 show(ztF (zyn s []) N).bind _=_
 rw[zyV hs [] (by omega),obs,zqr (by omega)]
 have e:ztW ((([(zyQ s [] N).calls.p0,(zyQ s [] N).calls.p1,(zyQ s [] N).calls.p2,(zyQ s [] N).calls.p3,(zyQ s [] N).calls.p4]:List Int).take (Int.toNat (s.Members.length:Int))).drop (Int.toNat (0:Int)))=some (zy0 s [] N):=by
  have hl:=zy1 [] N h5
  show ztW (zy0 s [] N)=_
  unfold ztW;rw[zqr (by rw[hl]; show 0+_<=_; omega)]; rfl
 rw[e,obs,zyZ hs [] (by omega),obs]
theorem zy4{s:Soc}(hs:zx8 s)(out:List Int)(N:Int){k:Nat}(hk:k < s.Members.length):ztG (zyQ s out N) (k:Int)=some ((zxX s.Members (zym s.Members.length out) N).1 k):=by
 have h5:=hs.m5;unfold ztG
 show(idx (l5 (zxX s.Members (zym s.Members.length out) N).1) (k:Int)).bind _=_
 rw[zwH (by omega),obs]
def zy5(s:Soc)(out:List Int):List Rg:=(List.range s.Members.length).map fun k=>bnd s fun N=>(zxX s.Members (zym s.Members.length out) N).1 k
theorem zy6{s:Soc}(out:List Int):(zy5 s out).length=s.Members.length:=by unfold zy5; rw[List.length_map,List.length_range]
theorem zy7{s:Soc}(out:List Int){k:Nat}(hk:k < s.Members.length):(zy5 s out)[k]? = some (bnd s fun N=>(zxX s.Members (zym s.Members.length out) N).1 k):=by
 unfold zy5; rw[List.getElem?_map,List.getElem?_range hk]; rfl
theorem zy8{s:Soc}(hs:zx8 s){out:List Int}(hl:zrR out)(ho:zys s.Members.length out):ztZ s out=some (zy5 s out,0):=by
 have h5:=hs.m5;unfold ztZ;rw[zyw hs hl ho,obs,if_pos rfl];refine zwF (n:=s.Members.length) (fun d acc x=>ztY s (zyn s out,0) d acc x) (fun k=>(zy5 s out).take k) (fun d k hk=>?_) (fun d=>?_) (s.Members.length+1) 0 (by omega) (by omega)
 ·show ztY s (zyn s out,0) (d+1) _ _=_
  have hb:ztH (k:Int)=some (fun o=>ztG o (k:Int)):=rfl;rw[ztY,if_pos (by omega),hb,obs]
  show(ztN (zyn s out) _).bind _=_
  rw[zyX hs (g:=fun N=>(zxX s.Members (zym s.Members.length out) N).1 k) (fun N _ _=>zy4 hs out N hk),obs,zqr (by rw[List.length_take]; omega),zqr (fI (by omega))];rw[List.take_add_one,zy7 out hk]; rfl
 ·show ztY s (zyn s out,0) (d+1) _ _=_
  rw[ztY,if_neg (Int.lt_irrefl _),List.take_of_length_le (by rw[zy6]; exact Nat.le_refl _)]
theorem zy9{s:Soc}(hs:zx8 s):zt0 s=some (zy5 s [],0):=by
 unfold zt0;rw[zy8 hs (Nat.zero_le _) (zyx _),obs]
def zza(s:Soc)(out:List Int)(N:Int):Int:=(zxX s.Members (zym s.Members.length out) N).2
theorem zzb{s:Soc}(hs:zx8 s):zt1 s=some (bnd s (zza s []),0):=by
 have hb:=zyC hs;unfold zt1;rw[zyw hs (Nat.zero_le _) (zyx _),obs,if_pos rfl,zyX hs (g:=zza s []) (fun N h1 h2=>zyZ hs [] (by omega)),obs]
theorem zzc{s:Soc}(hs:zx8 s)(out:List Int):ztO (zyn s out)=some (hiN s):=by
 unfold ztO;rw[zyX hs (g:=fun N=>N) (fun N _ _=>rfl),obs,zyU hs]
theorem zzd(a:Mb){r t:Int}(hu:0<=unN a)(h:r<=t):min (unN a * r / 100) a.Most<=min (unN a * t / 100) a.Most:=by
 have h1:unN a * r<=unN a * t:=Int.mul_le_mul_of_nonneg_left h hu;have h2:=Int.ediv_le_ediv (c:=100) (by omega) h1
 omega
def brN(ms:List Mb)(rate:Int):Int:=zwW (ms.map fun a=>min (unN a * rate / 100) a.Most)
theorem zze{ms:List Mb}(hm:∀a∈ms,zxD a){r:Int}(hr:0<=r/\r<=10000):0<=brN ms r/\brN ms r<=100000 * ms.length:=by
 induction ms with
 | nil=>exact⟨Int.le_refl _,Int.le_refl _⟩
 | cons a ms ih=>
  have ih:=ih fun a ha=>hm a (List.mem_cons_of_mem _ ha);have ha:=hm a (List.mem_cons_self ..);have hu:=zxF ha;have hmo:=ha.most;have h1:0<=unN a * r / 100:=Int.ediv_nonneg (Int.mul_nonneg (by omega) hr.1) (by omega);have e:brN (a::ms) r=min (unN a * r / 100) a.Most+brN ms r:=rfl;rw[e,List.length_cons]; omega
theorem zzf{ms:List Mb}(hm:∀a∈ms,zxD a){r t:Int}(h:r<=t):brN ms r<=brN ms t:=by
 induction ms with
 | nil=>exact Int.le_refl _
 | cons a ms ih=>
  have ih:=ih fun a ha=>hm a (List.mem_cons_of_mem _ ha);have h2:=zzd a (by have:=zxF (hm a (List.mem_cons_self ..)); omega) h
  show min _ _+brN ms r<=min _ _+brN ms t
  omega
theorem zzg{ms:List Mb}{r:Int}{k:Nat}{a:Mb}(h:ms[k]? = some a):brN (ms.take (k+1)) r=brN (ms.take k) r+min (unN a * r / 100) a.Most:=by
 unfold brN;rw[List.take_add_one,h,List.map_append,zwX]
 show _+(min (unN a * r / 100) a.Most+0)=_
 rw[Int.add_zero]
theorem zzh{s:Soc}(hs:zx8 s)(out:List Int){r:Int}(hr:0<=r/\r<=10000):ztQ (zyn s out) r=some (brN s.Members r):=by
 have h5:=hs.m5;unfold ztQ;refine zwF (n:=s.Members.length) (fun d acc x=>ztP (zyn s out) r d acc x) (fun k=>brN (s.Members.take k) r) (fun d k hk=>?_) (fun d=>?_) (s.Members.length+1) 0 (by omega) (by omega)
 ·have hg:=List.getElem?_eq_getElem hk;have ha:=hs.full.ms _ (List.getElem_mem hk);have hu:=zxF ha;have hmo:=ha.most;have hb:=zze (ms:=s.Members.take k) (fun a ha=>hs.full.ms a (List.mem_of_mem_take ha)) hr
  have hlk:(s.Members.take k).length<=5:=by rw[List.length_take]; omega
  have hm:=zxf (a:=unN s.Members[k]) (x:=r) (A:=10000) (X:=10000) (by omega) hr;have hq:0<=unN s.Members[k] * r / 100:=Int.ediv_nonneg hm.1 (by omega)
  have hun:ztw s.Members[k]=some (unN s.Members[k]):=by
   have h1:=ha.sum; have h2:=ha.cls;unfold unN at hu;unfold ztw unN;rw[zqr (by omega),zqr (by omega),zqr (fI (by omega))]
  show ztP (zyn s out) r (d+1) _ _=_
  rw[ztP,if_pos (show(k:Int) < ((zyn s out).s.Members.length:Int) by show(k:Int) < (s.Members.length:Int); omega),show idx (zyn s out).s.Members (k:Int)=some s.Members[k] from zrH hg,obs,hun,obs,zqr (by omega),zqr hr.1,zqr (fI (by omega)),zqr hm.1,zqr (by omega),zqr (fI (by omega)),zqr (fI (by omega)),zqr (fI (by omega)),zzg hg]
 ·show ztP (zyn s out) r (d+1) _ _=_
  rw[ztP,if_neg (show ¬ ((s.Members.length:Nat):Int) < ((zyn s out).s.Members.length:Int) from Int.lt_irrefl _),List.take_length]
def zzi(s:Soc)(r:Int):Bool:=decide (hiN s<=brN s.Members r)
theorem zzj{s:Soc}(hs:zx8 s){r:Int}(hr:0<=r/\r<=10000):ztR (zyn s []) r=some (zzi s r):=by
 unfold ztR;rw[zzh hs [] hr,obs,zzc hs,obs]; rfl
theorem zzk{p:Int->Option Bool}{f:Nat->Bool}{n:Nat}(hn:n<=1000000)(hp:∀m,m < n->p (m:Int)=some (f m))(hm:∀m k,m<=k->k < n->f m=true->f k=true):∀d (i j:Nat),i<=j->j<=n->j - i < d->(∀m,m < i->f m=false)->(∀m,j<=m->m < n->f m=true) ->
  ∃k:Nat,ztT p d (i:Int) (j:Int)=some (k:Int)/\k<=n/\(∀m,m < k->f m=false)/\(∀m,k<=m->m < n->f m=true)
 | 0,_,_,_,_,h,_,_=>by omega
 | d+1,i,j,hij,hj,h,hlo,hhi=>by
  rw[ztT]
  by_cases hc:i < j
  ·obtain⟨md,hmd⟩:∃md:Nat,md=(i+j) / 2:=⟨_,rfl⟩
   have hf:zl6 .u64 ((i:Int)+j):=show _/\_ by constructor <;> omega
   have e:zmb .i64 (zmb .u64 ((i:Int)+j) / 2)=(md:Int):=by
    rw[wz hf,wz (fI (by omega))]; omega
   rw[if_pos (by omega),zqr (fI (by omega)),zqr (by rw[wz hf]; omega),zqr (by omega),zqr (by omega),zqr (by rw[wz hf]; exact show _/\_ by constructor <;> omega),e,hp md (by omega),obs]
   cases hq:f md with
   | true=>
    rw[if_pos rfl];exact zzk hn hp hm d i md (by omega) (by omega) (by omega) hlo fun m h1 h2=>hm md m h1 h2 hq
   | false=>
    rw[if_neg (by decide),zqr (fI (by omega)),show(md:Int)+1=((md+1:Nat):Int) by omega]
    exact zzk hn hp hm d (md+1) j (by omega) hj (by omega) (fun m h1=>by
     cases hq2:f m with
     | false=>rfl
     | true=>have:=hm m md (by omega) (by omega) hq2; rw[hq] at this; cases this) hhi
  ·rw[if_neg (by omega)];exact⟨i,rfl,by omega,hlo,fun m h1 h2=>hhi m (by omega) h2⟩
theorem zzl{s:Soc}(hs:zx8 s):∃k:Nat,ztU 10001 (fun r=>ztR (zyn s []) r)=some (k:Int)/\k<=10001/\(∀m:Nat,m < k->zzi s m=false)/\(∀m:Nat,k<=m->m < 10001->zzi s m=true):=by
 unfold ztU
 exact zzk (n:=10001) (f:=fun m=>zzi s (m:Int)) (by omega) (fun m hm=>zzj hs (by omega)) (fun m k h1 h2 h3=>by
  have h4:hiN s<=brN s.Members (m:Int):=of_decide_eq_true h3;have h5:=zzf hs.full.ms (r:=(m:Int)) (t:=(k:Int)) (by omega)
  exact decide_eq_true (by omega)) _ 0 10001 (by omega) (by omega) (by omega) (fun m h=>by omega) (fun m h1 h2=>by omega)
theorem zzm{s:Soc}(hs:zx8 s):(∃k:Nat,zt2 s=some ((k:Int),0)/\k<=10000/\hiN s<=brN s.Members (k:Int)/\∀m:Nat,m < k->brN s.Members (m:Int) < hiN s)\/(zt2 s=some (0,10)/\∀m:Nat,m<=10000->brN s.Members (m:Int) < hiN s):=by
 obtain⟨k,h1,h2,h3,h4⟩:=zzl hs
 have lt:∀m:Nat,zzi s (m:Int)=false->brN s.Members (m:Int) < hiN s:=fun m h=>by
  have:=of_decide_eq_false h; omega
 unfold zt2;rw[zyw hs (Nat.zero_le _) (zyx _),obs,if_pos rfl]
 show(∃k':Nat,(ztU 10001 (fun r=>ztR (zyn s []) r)).bind _=_/\_)\/((ztU 10001 (fun r=>ztR (zyn s []) r)).bind _=_/\_)
 rw[h1,obs]
 by_cases hk:k<=10000
 ·rw[if_neg (by omega)];exact .inl ⟨k,rfl,hk,of_decide_eq_true (h4 k (Nat.le_refl _) (by omega)),fun m hm=>lt m (h3 m hm)⟩
 ·rw[if_pos (by omega)];exact .inr ⟨rfl,fun m hm=>lt m (h3 m (by omega))⟩
def zzn(s:Soc)(l:List Int):Bool:=decide (0 < (bnd s (zza s l)).Hi)
theorem zzo{s:Soc}(hs:zx8 s){l:List Int}(hl:zrR l):ztS s l=some (zzn s l):=by
 have hb:=zyC hs;unfold ztS;rw[zyr hl hs.m5,obs,zyX hs (g:=zza s l) (fun N h1 h2=>zyZ hs l (by omega)),obs]; rfl
theorem zzp{s:Soc}(hs:zx8 s)(h:hiN s ≠ 0):zt3 s=some (zrx s.Members.length (zzn s),0):=by
 have h5:=hs.m5
 have hlen:∀L∈zoh s.Members.length,zrR L:=fun L hL=>by have:=zyI (zyJ.1 hL); unfold zrR; omega
 unfold zt3;rw[zyw hs (Nat.zero_le _) (zyx _),obs,if_pos rfl,zzc hs,obs,if_neg h];unfold zry;rw[zqr ⟨by omega,by omega,fun L hL=>by show(ztS s L).isSome=true; rw[zzo hs (hlen L hL)]; rfl⟩,obs];refine congrArg (fun x=>some (x,(0:Int))) ?_
 have e:(zoh s.Members.length).find? (fun L=>((ztS s L)).getD false)=(zoh s.Members.length).find? (zzn s):=by
  have:∀l:List (List Int),(∀L∈l,zrR L)->l.find? (fun L=>((ztS s L)).getD false)=l.find? (zzn s):=by
   intro l
   induction l with
   | nil=>intro _; rfl
   | cons L l ih=>
    intro hl
    have h1:(ztS s L).getD false=zzn s L:=by rw[zzo hs (hl L (List.mem_cons_self ..))]; rfl
    rw[List.find?_cons,List.find?_cons,h1,ih fun L hL=>hl L (List.mem_cons_of_mem _ hL)]
  exact this _ hlen
 show zrx s.Members.length (fun L=>((ztS s L)).getD false)=_
 unfold zrx;rw[e]
theorem zzq{a b:List Int}(hl:a.length<=1000):∀(d k:Nat),k<=a.length->a.length - k < d->zsz a b d (k:Int)=some (bef (a.drop k) (b.drop k))
 | 0,_,_,h=>by omega
 | d+1,k,hk,h=>by
  rw[zsz]
  by_cases hka:k < a.length
  ·rw[if_pos (by omega)];have da:=List.drop_eq_getElem_cons hka;have ga:=List.getElem?_eq_getElem hka
   by_cases hkb:k < b.length
   ·have db:=List.drop_eq_getElem_cons hkb;have gb:=List.getElem?_eq_getElem hkb;rw[if_pos (by omega),zrH ga,obs,zrH gb,obs,da,db];unfold bef
    by_cases he:a[k]=b[k]
    ·rw[if_pos he,if_pos he,zqr (fI (by omega)),show(k:Int)+1=((k+1:Nat):Int) by omega];exact zzq hl d (k+1) (by omega) (by omega)
    ·rw[if_neg he,if_neg he,obs,obs]
   ·rw[if_neg (by omega),da,List.drop_eq_nil_of_le (show b.length<=k by omega),decide_eq_false (by omega)]; rfl
  ·rw[if_neg (by omega),List.drop_eq_nil_of_le (show a.length<=k by omega)]
   by_cases hkb:k < b.length
   ·rw[List.drop_eq_getElem_cons hkb,decide_eq_true (by omega)]; rfl
   ·rw[List.drop_eq_nil_of_le (show b.length<=k by omega),decide_eq_false (by omega)]; rfl
theorem zzr{a b:List Int}(hl:a.length<=1000):zsA a b=some (bef a b):=zzq hl (a.length+1) 0 (Nat.zero_le _) (by omega)
theorem zzs{a b:List Int}(hl:a.length<=1000):zsB a b=some (shB a b):=by
 unfold zsB shB
 by_cases h1:a.length < b.length
 ·rw[if_pos (by omega),decide_eq_true h1]; rfl
 ·rw[if_neg (by omega),decide_eq_false h1]
  by_cases h2:a.length=b.length
  ·rw[if_pos (by omega),zzr hl,decide_eq_true h2]; simp
  ·rw[if_neg (by omega),decide_eq_false h2]; simp
theorem zzt{a b:List Int}(hl:a.length=b.length):(bef a b=false/\bef b a=false)↔a=b:=by
 constructor
 ·rintro⟨h1,h2⟩
  rcases zyL a b with h | h | h
  ·exact h
  ·rw[h1] at h; cases h
  ·rw[h2] at h; cases h
 ·rintro rfl; exact⟨zyK _,zyK _⟩
theorem zzu{a b:List Int}(ha:a.length<=1000)(hb:b.length<=1000):zsC a b=some (decide (a=b)):=by
 unfold zsC
 by_cases hl:a.length=b.length
 ·rw[if_pos (by omega),zzr ha,obs];have h:=zzt hl
  cases h1:bef a b with
  | true=>rw[if_pos rfl,decide_eq_false fun he=>by have:=(h.2 he).1; rw[h1] at this; cases this]
  | false=>
   rw[if_neg (by decide),zzr hb,obs]
   cases h2:bef b a with
   | true=>rw[decide_eq_false fun he=>by have:=(h.2 he).2; rw[h2] at this; cases this]; rfl
   | false=>rw[decide_eq_true (h.1 ⟨h1,h2⟩)]; rfl
 ·rw[if_neg (by omega),decide_eq_false fun he=>hl (by rw[he])]
theorem zzv{l:List Int}(h:l.length<=1000):zt7 l=some l:=by
 unfold zt7;rw[zqr (show([]:List Int).length+l.length<=1048576 by show 0+_<=_; omega)]; rfl
theorem zzw{t:Tr}(h:t.Losses.length<=1000):zuc t=some t:=by
 unfold zuc; rw[zzv h]; rfl
def zzx(s:Soc):Prop:=s.Members.length<=8/\s.Losses.length<=6
theorem zzy{s:Soc}:Ev (zud s) (zzx s):=by
 unfold zud zzx
 by_cases h:(s.Members.length:Int)<=8
 ·rw[if_pos h]; exact Ev.dec (by omega)
 ·rw[if_neg h]; exact Ev.ff (by omega)
theorem zx8.thin{s:Soc}(h:zx8 s):zzx s:=⟨by have:=h.m5; omega,by have:=h.l3; omega⟩
theorem zzz{s:Soc}(h:zzx s):zub s=some s:=by
 unfold zub
 show zua s 1000000 [] [] s.Treaty.Lo s.Treaty.Hi s.Reserve 0=_
 obtain⟨h1,h2⟩:=h
 have k1:zt9 s s.Members 1000000 [] s.Treaty.Lo s.Treaty.Hi s.Reserve 0=some s:=by
  refine(zrN (l:=s.Losses) (fun r=>r) (F:=fun d acc x=>zt9 s s.Members d acc s.Treaty.Lo s.Treaty.Hi s.Reserve x) (fun acc=>some ({ Members:=s.Members,Losses:=acc,Treaty:=s.Treaty,Reserve:=s.Reserve }:Soc)) (fun d k acc a hk ha=>?_) (fun d acc=>?_) (d:=1000000) (by omega)).trans (by rw[List.map_id'])
  ·have hkl:=(List.getElem?_eq_some_iff.1 hk).1
   show zt9 s s.Members (d+1) _ _ _ _ _=_
   rw[zt9,if_pos (by omega),zrH hk,obs]
   show(some a).bind _=_
   rw[obs,zqr (by omega),zqr (fI (by omega))]
  ·show zt9 s s.Members (d+1) _ _ _ _ _=_
   rw[zt9,if_neg (Int.lt_irrefl _)]
 refine(zrN (l:=s.Members) (fun r=>r) (F:=fun d acc x=>zua s d acc [] s.Treaty.Lo s.Treaty.Hi s.Reserve x) (fun acc=>zt9 s acc 1000000 [] s.Treaty.Lo s.Treaty.Hi s.Reserve 0) (fun d k acc a hk ha=>?_) (fun d acc=>?_) (d:=1000000) (by omega)).trans (by rw[List.map_id']; exact k1)
 ·have hkl:=(List.getElem?_eq_some_iff.1 hk).1
  show zua s (d+1) _ _ _ _ _ _=_
  rw[zua,if_pos (by omega),zrH hk,obs,zqr (by omega),zqr (fI (by omega))]
 ·show zua s (d+1) _ _ _ _ _ _=_
  rw[zua,if_neg (Int.lt_irrefl _)]
theorem zzA{s:Soc}:Ev (zuj s) (zx8 s):=by
 unfold zuj
 by_cases ht:zzx s
 ·rw[zzy.some_of ht,obs,if_pos rfl,zyl ht.1 ht.2,obs];exact Ev.dec zya
 ·rw[zzy.some_not ht,obs,if_neg (by decide)];exact Ev.ff fun h=>ht h.thin
def zzB(most:Int):Soc:={ Members:=[{ Sum:=100,Class:=2,Most:=most },{ Sum:=100,Class:=1,Most:=60 },{ Sum:=50,Class:=2,Most:=most }],Losses:=[{ Lo:=200,Hi:=210 },{ Lo:=90,Hi:=90 }],Treaty:={ Lo:=20,Hi:=25 },Reserve:=30 }
theorem zzC(most:Int):zuh most=some (zzB most):=rfl
theorem zzD{most:Int}(h:0<=most/\most<=100000):zx8 (zzB most):=by
 refine⟨Nat.le_of_ble_eq_true rfl,Nat.le_of_ble_eq_true rfl,Nat.le_of_ble_eq_true rfl,fun a ha=>?_,fun r hr=>?_,by show RgV ⟨20,25⟩; decide,by show(0:Int)<=30/\(30:Int)<=_; omega⟩
 ·rcases List.mem_cons.1 ha with rfl | ha
  ·exact⟨by show(1:Int)<=100/\(100:Int)<=1000; omega,by show(1:Int)<=2/\(2:Int)<=10; omega,h⟩
  rcases List.mem_cons.1 ha with rfl | ha
  ·exact⟨by decide,by decide,by decide⟩
  rcases List.mem_cons.1 ha with rfl | ha
  ·exact⟨by show(1:Int)<=50/\(50:Int)<=1000; omega,by show(1:Int)<=2/\(2:Int)<=10; omega,h⟩
  ·cases ha
 ·rcases List.mem_cons.1 hr with rfl | hr
  ·decide
  rcases List.mem_cons.1 hr with rfl | hr
  ·decide
  ·cases hr
theorem f64{n:Int}(h:-1000000<=n/\n<=1000000):zl6 .i64 n:=fI (by omega)
theorem zzE:zui=some true:=by
 have h5:zx8 (zzB 500):=zzD (by omega);have h1:zx8 (zzB 150):=zzD (by omega)
 have n5:ztV (zzB 500)=some ({ Lo:=235,Hi:=250 },0):=by
  rw[zyY h5]
  have e1:loN (zzB 500)=235:=by decide +kernel
  have e2:hiN (zzB 500)=250:=by decide +kernel
  rw[e1,e2]
 have c5:ztX (zzB 500) 250=some ([127,60,63],0,0):=by
  rw[zy3 h5 (by omega)]
  have e1:zy0 (zzB 500) [] 250=[127,60,63]:=by decide +kernel
  have e2:(zxX (zzB 500).Members (zym (zzB 500).Members.length []) 250).2=0:=by decide +kernel
  rw[e1,e2]
 have b5:zt0 (zzB 500)=some (zy5 (zzB 500) [],0):=zy9 h5
 have eb:zy5 (zzB 500) []=[{ Lo:=117,Hi:=127 },{ Lo:=59,Hi:=60 },{ Lo:=59,Hi:=63 }]:=by
  have e1:(zy5 (zzB 500) []).map (·.Lo)=[117,59,59]:=by decide +kernel
  have e2:(zy5 (zzB 500) []).map (·.Hi)=[127,60,63]:=by decide +kernel
  have e3:(zy5 (zzB 500) []).length=3:=zy6 []
  revert e1 e2 e3
  generalize zy5 (zzB 500) []=l;intro e1 e2 e3
  match l,e3 with
  | [⟨a1,a2⟩,⟨b1,b2⟩,⟨c1,c2⟩],_=>
   simp only[List.map_cons,List.map_nil,List.cons.injEq,and_true] at e1 e2
   obtain⟨rfl,rfl,rfl⟩:=e1;obtain⟨rfl,rfl,rfl⟩:=e2
   rfl
 have r5:zt2 (zzB 500)=some (64,0):=by
  have m63:brN (zzB 500).Members 63 < 250:=by decide +kernel
  have m64:250<=brN (zzB 500).Members 64:=by decide +kernel
  have e2:hiN (zzB 500)=250:=by decide +kernel
  rcases zzm h5 with ⟨k,q1,q2,q3,q4⟩ | ⟨q1,q2⟩
  ·rw[e2] at q3 q4
   have hk:k=64:=by
    apply Classical.byContradiction
    intro hne
    rcases Nat.lt_or_ge k 64 with h | h
    ·have:=zzf h5.full.ms (r:=(k:Int)) (t:=63) (by omega); omega
    ·have:=q4 64 (by omega);have e:((64:Nat):Int)=64:=rfl;rw[e] at this; omega
   subst hk; exact q1
  ·have:=q2 64 (by omega);have e:((64:Nat):Int)=64:=rfl;rw[e2,e] at this; omega
 have x5:zt3 (zzB 500)=some ([0,2],0):=by
  rw[zzp h5 (by decide +kernel)]
  have e:zrx (zzB 500).Members.length (zzn (zzB 500))=[0,2]:=by decide +kernel
  rw[e]
 have x1:zt3 (zzB 150)=some ([0],0):=by
  rw[zzp h1 (by decide +kernel)]
  have e:zrx (zzB 150).Members.length (zzn (zzB 150))=[0]:=by decide +kernel
  rw[e]
 unfold zui;rw[zzC,obs,n5,obs,obs,c5,obs,obs,b5,obs,obs,r5,obs,obs,x5,obs,zzC,obs,x1,obs,eb];have s1:zsC [127,60,63] [127,60,63]=some true:=zzu (by decide) (by decide);have s2:zsC [0,2] [0,2]=some true:=zzu (by decide) (by decide);have s3:zsC [0] [0]=some true:=zzu (by decide) (by decide);have f:∀n:Int,-1000000<=n/\n<=1000000->zl6 .i64 n:=fun n h=>f64 h
 simp only[zug,obs,zqr (f 235 (by omega)),zqr (f 250 (by omega)),zqr (f 117 (by omega)),zqr (f 127 (by omega)),zqr (f 59 (by omega)),zqr (f 60 (by omega)),zqr (f 63 (by omega)),s1,s2,s3]
 simp[idx]
 rw[zqr (f 117 (by omega)),zqr (f 127 (by omega)),zqr (f 59 (by omega)),zqr (f 60 (by omega)),zqr (f 59 (by omega)),zqr (f 63 (by omega))]
theorem awk{β:Type}{f:Bool->Option β}:(zui).bind f=f true:=by rw[zzE,obs]
structure zzF (s:Soc) (t:Tr):Prop where
 len:t.Losses.length=s.Losses.length
 at_:∀(k:Nat) (r:Rg) (x:Int),s.Losses[k]? = some r->t.Losses[k]? = some x->r.Lo<=x/\x<=r.Hi
 tr:s.Treaty.Lo<=t.Treaty/\t.Treaty<=s.Treaty.Hi
theorem zzG:∀{l:List Rg} {xs:List Int},xs.length=l.length->(∀(k:Nat) (r:Rg) (x:Int),l[k]? = some r->xs[k]? = some x->r.Lo<=x/\x<=r.Hi)->zyA (·.Lo) l<=zwW xs/\zwW xs<=zyA (·.Hi) l
 | [],[],_,_=>⟨Int.le_refl _,Int.le_refl _⟩
 | r::l,x::xs,hl,h=>by
  have ih:=zzG (l:=l) (xs:=xs) (by simpa using hl) fun k r x h1 h2=>h (k+1) r x h1 h2;have h0:=h 0 r x rfl rfl;have e1:zyA (·.Lo) (r::l)=r.Lo+zyA (·.Lo) l:=rfl;have e2:zyA (·.Hi) (r::l)=r.Hi+zyA (·.Hi) l:=rfl;have e3:zwW (x::xs)=x+zwW xs:=rfl
  omega
 | [],_::_,hl,_=>by cases hl
 | _::_,[],hl,_=>by cases hl
def zzH(s:Soc)(t:Tr):Int:=max 0 (zwW t.Losses - s.Reserve - t.Treaty)
theorem zzI{s:Soc}{t:Tr}(ht:zzF s t):loN s<=zzH s t/\zzH s t<=hiN s:=by
 have h1:=zzG ht.len ht.at_;have h2:=ht.tr;unfold loN hiN zzH
 omega
theorem zzJ{s:Soc}{t:Tr}(h3:s.Losses.length<=1000):Ev (zs2 s t) (zzF s t):=by
 unfold zs2
 by_cases hl:t.Losses.length=s.Losses.length
 ·rw[if_pos (by omega)];refine(Ev.loop (n:=s.Losses.length) (F:=fun d x=>zs1 s t d x) (ok:=fun k=>∀(r:Rg) (x:Int),s.Losses[k]? = some r->t.Losses[k]? = some x->r.Lo<=x/\x<=r.Hi) (fin:=(zsD s.Treaty t.Treaty).bind fun r=>some r) (P:=s.Treaty.Lo<=t.Treaty/\t.Treaty<=s.Treaty.Hi) (fun d k hk=>?_) (fun d=>?_) (by omega) fun _=>zyb.ret).imp ?_
  ·have h1:=List.getElem?_eq_getElem hk;have h2:=List.getElem?_eq_getElem (show k < t.Losses.length by omega)
   show(_->zs1 s t (d+1) (k:Int)=_)/\_
   rw[zs1,if_pos (by omega),zrH h1,obs,zrH h2,obs];have:=Ev.step (f:=fun r=>if r=true then gd (zl6 .i64 ((k:Int)+1)) (zs1 s t d ((k:Int)+1)) else some false) (zyb (r:=s.Losses[k]) (n:=t.Losses[k])) (by rw[if_pos rfl,zqr (fI (by omega))]) (by rw[if_neg (by decide)]);exact⟨fun h=>this.1 (h _ _ h1 h2),fun h=>this.2 fun h4=>h fun r x hr hx=>by rw[h1] at hr; rw[h2] at hx; cases hr; cases hx; exact h4⟩
  ·show zs1 s t (d+1) _=_
   rw[zs1,if_neg (Int.lt_irrefl _)]
  ·exact⟨fun⟨h1,h2⟩=>⟨hl,fun k r x hr hx=>h1 k (List.getElem?_eq_some_iff.1 hr).1 r x hr hx,h2⟩,fun h=>⟨fun k _ r x hr hx=>h.at_ k r x hr hx,h.tr⟩⟩
 ·rw[if_neg (by omega)]; exact Ev.ff fun h=>hl h.len
theorem zzK{l:List Int}{k:Nat}{a:Int}(h:l[k]? = some a):zwW (l.take (k+1))=zwW (l.take k)+a:=by
 rw[List.take_add_one,h,zwX]
 show _+(a+0)=_; omega
theorem zzL{s:Soc}(hs:zx8 s){t:Tr}(ht:zzF s t):∀x∈t.Losses,0<=x/\x<=100000:=fun x hx=>by
 obtain⟨k,hk⟩:=List.mem_iff_getElem?.1 hx;have hlt:=(List.getElem?_eq_some_iff.1 hk).1;have hr:=List.getElem?_eq_getElem (show k < s.Losses.length by have:=ht.len; omega);have h1:=ht.at_ k _ x hr hk;have h2:=hs.full.ls _ (List.getElem_mem (show k < s.Losses.length by have:=ht.len; omega));unfold RgV at h2; omega
theorem zzM{l:List Int}{B:Int}(h:∀x∈l,0<=x/\x<=B):0<=zwW l/\zwW l<=B * l.length:=by
 induction l with
 | nil=>exact⟨Int.le_refl _,by show(0:Int)<=B * ((0:Nat):Int); simp⟩
 | cons a l ih=>
  have ih:=ih fun x hx=>h x (List.mem_cons_of_mem _ hx);have:=h a (List.mem_cons_self ..)
  show 0<=a+zwW l/\a+zwW l<=_
  rw[List.length_cons,Int.natCast_add,Int.mul_add]
  show _/\_<=_+B * 1
  omega
theorem zzN{s:Soc}(hs:zx8 s){t:Tr}(ht:zzF s t):ztd s t=some (zzH s t,0):=by
 have h1:=hs.m5; have h2:=hs.l3;have htr:=hs.full.tr;unfold RgV at htr;have htt:=ht.tr;have hb:=zzL hs ht;have hl:=ht.len;unfold ztd;rw[zyh (by unfold zrR; omega) (by unfold zrR; omega),obs,if_pos (zya.2 hs),(zzJ (by omega)).some_of ht,obs,if_pos rfl];refine zwF (n:=t.Losses.length) (fun d acc x=>ztc s t d acc x) (fun k=>zwW (t.Losses.take k)) (fun d k hk=>?_) (fun d=>?_) _ 0 (by omega) (by omega)
 ·have hg:=List.getElem?_eq_getElem hk;have h3:=zzM (l:=t.Losses.take k) (B:=100000) fun x hx=>hb x (List.mem_of_mem_take hx);have h4:=hb _ (List.getElem_mem hk)
  have h5:(t.Losses.take k).length<=3:=by rw[List.length_take]; omega
  show ztc s t (d+1) _ _=_
  rw[ztc,if_pos (by omega),zrH hg,obs,zqr (fI (by omega)),zqr (fI (by omega)),zzK hg]
 ·have h3:=zzM (l:=t.Losses) (B:=100000) hb
  show ztc s t (d+1) _ _=_
  rw[ztc,if_neg (Int.lt_irrefl _),List.take_length,zyE (by omega) (by omega) hs.full.rs,obs]; rfl
theorem zzO{l:List Int}(hl:l.length<=9)(hb:∀x∈l,0<=x/\x<=1000000):zul l=some (zwW l):=by
 unfold zul;refine zwF (n:=l.length) (fun d acc x=>zuk l d acc x) (fun k=>zwW (l.take k)) (fun d k hk=>?_) (fun d=>?_) _ 0 (by omega) (by omega)
 ·have hg:=List.getElem?_eq_getElem hk;have h3:=zzM (l:=l.take k) (B:=1000000) fun x hx=>hb x (List.mem_of_mem_take hx);have h4:=hb _ (List.getElem_mem hk)
  have h5:(l.take k).length<=9:=by rw[List.length_take]; omega
  show zuk l (d+1) _ _=_
  rw[zuk,if_pos (by omega),zrH hg,obs,zqr (fI (by omega)),zqr (fI (by omega)),zzK hg]
 ·show zuk l (d+1) _ _=_
  rw[zuk,if_neg (Int.lt_irrefl _),List.take_length]
theorem zzP(f:Nat->Int){n:Nat}(hn:n<=5):zwW ((l5 f).take n)=part f n:=by
 match n,hn with
 | 0,_=>rfl
 | 1,_=>show f 0+0=0+f 0; omega
 | 2,_=>show f 0+(f 1+0)=0+f 0+f 1; omega
 | 3,_=>show f 0+(f 1+(f 2+0))=0+f 0+f 1+f 2; omega
 | 4,_=>show f 0+(f 1+(f 2+(f 3+0)))=0+f 0+f 1+f 2+f 3; omega
 | 5,_=>show f 0+(f 1+(f 2+(f 3+(f 4+0))))=0+f 0+f 1+f 2+f 3+f 4; omega
theorem zzQ(f:Nat->Int){n:Nat}(hn:n<=5)(h:∀i,n<=i->i < 5->f i=0):part f n=S5 f:=by
 rw[zxl f hn];refine zw0 fun i hi=>?_
 by_cases hin:i < n
 ·rw[if_pos hin]
 ·rw[if_neg hin,h i (by omega) hi]
theorem zzR{s:Soc}(hs:zx8 s)(out:List Int){N:Int}(hN:0<=N/\N<=1000000):zwW (zy0 s out N)=S5 (zxX s.Members (zym s.Members.length out) N).1:=by
 unfold zy0;rw[zzP _ hs.m5,zzQ _ hs.m5];intro i h1 h2
 exact zx4 hs.msOk (zyo s.Members out) hN h2 (by
  cases hq:zym s.Members.length out i with
  | false=>rfl
  | true=>have:=zyo s.Members out i hq; omega)
theorem zzS{s:Soc}(hs:zx8 s)(out:List Int){N:Int}(hN:0<=N/\N<=1000000):∀x∈zy0 s out N,0<=x/\x<=1000000:=fun x hx=>by
 have h5:=hs.m5;obtain⟨k,hk⟩:=List.mem_iff_getElem?.1 hx;have hlt:=(List.getElem?_eq_some_iff.1 hk).1;rw[zy1 out N h5] at hlt;rw[zy2 out N h5 hlt] at hk;have:=zx6 hs.msOk (zyo s.Members out) hN (i:=k) (by omega);have:=oi hk
 omega
theorem zzT{a b:List Int}(h:a.length<=1000):zt5 a b=some (decide (a=b)):=by
 unfold zt5
 by_cases hl:a.length=b.length
 ·rw[if_pos (by omega)]
  have key:=zrL (n:=a.length) (F:=fun d x=>zt4 a b d x) (ok:=fun k=>a[k]? = b[k]?) (bad:=some false) (fin:=some true) (fun d k hk=>by
   have h1:=List.getElem?_eq_getElem hk;have h2:=List.getElem?_eq_getElem (show k < b.length by omega)
   show(_->zt4 a b (d+1) (k:Int)=_)/\_
   rw[zt4,if_pos (by omega),zrH h1,obs,zrH h2,obs];refine⟨fun h=>?_,fun h=>?_⟩
   ·rw[h1,h2] at h; rw[if_pos (oi h),zqr (fI (by omega))]
   ·rw[if_neg fun he=>h (by rw[h1,h2,he])]) (fun d=>by show zt4 a b (d+1) _=_; rw[zt4,if_neg (Int.lt_irrefl _)]) (d:=a.length+1) (by omega)
  have hiff:(∀j,j < a.length->a[j]? = b[j]?)↔a=b:=by
   constructor
   ·intro h
    apply List.ext_getElem?
    intro j
    by_cases hj:j < a.length
    ·exact h j hj
    ·rw[List.getElem?_eq_none (by omega),List.getElem?_eq_none (by omega)]
   ·rintro rfl; exact fun _ _=>rfl
  by_cases hq:a=b
  ·rw[decide_eq_true hq]; exact key.1 (hiff.2 hq)
  ·rw[decide_eq_false hq]; exact key.2 fun h=>hq (hiff.1 h)
 ·rw[if_neg (by omega),decide_eq_false fun he=>hl (by rw[he])]
theorem zzU{s:Soc}(hs:zx8 s){N:Int}(hN:0<=N/\N<=300000){l:List Int}(hl:l.length<=1000):zt6 s N l=some (decide (l=zy0 s [] N)):=by
 unfold zt6;rw[zy3 hs hN,obs,if_pos rfl,zzT hl,obs]
theorem zzV{s:Soc}(hs:zx8 s){words:List W8}(hw:words.length<=maxLen/\∀a∈words,zr7 a):∃t,zun s words=some t/\zzF s t:=by
 have h3:=hs.l3;have htr:=hs.full.tr;unfold RgV at htr
 -- one word
 have word:∀k:Nat,k<=3->∀{r:Rg},RgV r->∃n,(r.Lo<=n/\n<=r.Hi)/\∀{β:Type} (f:Int->Option β),(if (0:Int) < (words.length:Int) then (gd ((0:Int)<=(k:Int)) (gd ((0:Int) < (words.length:Int)) (gd (zl6 .i64 ((k:Int) % (words.length:Int))) ((idx words ((k:Int) % (words.length:Int))).bind fun v816=>gd (zl6 .i64 (r.Hi - r.Lo)) (gd (zl6 .i64 ((r.Hi - r.Lo)+(1:Int))) (gd ((0:Int)<=(zmb .i64 v816.v)) (gd ((0:Int) < ((r.Hi - r.Lo)+(1:Int))) (gd (zl6 .i64 ((zmb .i64 v816.v) % ((r.Hi - r.Lo)+(1:Int)))) (gd (zl6 .i64 (r.Lo+((zmb .i64 v816.v) % ((r.Hi - r.Lo)+(1:Int))))) (f (r.Lo+((zmb .i64 v816.v) % ((r.Hi - r.Lo)+(1:Int)))))))))))))) else gd (zl6 .i64 (r.Hi - r.Lo)) (gd (zl6 .i64 ((r.Hi - r.Lo)+(1:Int))) (gd ((0:Int)<=(0:Int)) (gd ((0:Int) < ((r.Hi - r.Lo)+(1:Int))) (gd (zl6 .i64 ((0:Int) % ((r.Hi - r.Lo)+(1:Int)))) (gd (zl6 .i64 (r.Lo+((0:Int) % ((r.Hi - r.Lo)+(1:Int))))) (f (r.Lo+((0:Int) % ((r.Hi - r.Lo)+(1:Int)))))))))))=f n:=by
  intro k hk r hr;unfold RgV at hr
  by_cases h0:(0:Int) < words.length
  ·obtain⟨j,hjk,hjl,hj⟩:∃j:Nat,j<=k/\j < words.length/\(k:Int) % (words.length:Int)=(j:Int):=⟨k % words.length,Nat.mod_le _ _,Nat.mod_lt _ (by omega),rfl⟩;have hv:=hw.2 _ (List.getElem_mem hjl);have hv:0<=(words[j]).v/\(words[j]).v < 256:=fU8 hv;have hm3:=Int.emod_nonneg (words[j]).v (show r.Hi - r.Lo+1 ≠ 0 by omega);have hm4:=Int.emod_lt_of_pos (words[j]).v (show 0 < r.Hi - r.Lo+1 by omega);have hwz:zmb .i64 (words[j]).v=(words[j]).v:=wz (fI (by omega));refine⟨r.Lo+(words[j]).v % (r.Hi - r.Lo+1),by omega,fun f=>?_⟩;rw[if_pos h0,zqr (show(0:Int)<=(k:Int) by omega),zqr h0,hj,zqr (fI (show -9223372036854775808<=(j:Int)/\(j:Int) < 9223372036854775808 by omega)),zrH (List.getElem?_eq_getElem hjl),obs,hwz,zqr (fI (by omega)),zqr (fI (by omega)),zqr (by omega),zqr (by omega),zqr (fI (by omega)),zqr (fI (by omega))]
  ·refine⟨r.Lo,by omega,fun f=>?_⟩;have e:(0:Int) % (r.Hi - r.Lo+1)=0:=Int.zero_emod _;rw[if_neg h0,zqr (fI (by omega)),zqr (fI (by omega)),zqr (by omega),zqr (by omega),e,zqr (fI (by omega)),zqr (fI (by omega)),Int.add_zero]
 -- all of them
 have key:∀(d k:Nat) (acc:List Int) (x:Int),k<=s.Losses.length->s.Losses.length+1 - k < d->acc.length=k->(∀(j:Nat) (r:Rg) (y:Int),s.Losses[j]? = some r->acc[j]? = some y->r.Lo<=y/\y<=r.Hi)->∃t,zum s words d acc x (k:Int)=some t/\zzF s t:=by
  intro d
  induction d with
  | zero=>intro k acc x _ h; omega
  | succ d ih=>
   intro k acc x hk hd hl ha
   have hfin:∀(d:Nat) (y:Int),zum s words (d+1) acc y ((s.Losses.length:Int)+1)=some ({ Losses:=acc,Treaty:=y }:Tr):=fun d y=>by
    rw[zum,if_neg (by omega)]
   rw[zum,if_pos (by omega)]
   by_cases hkl:k < s.Losses.length
   ·have hg:=List.getElem?_eq_getElem hkl;obtain⟨n,hn,hf⟩:=word k (by omega) (hs.full.ls _ (List.getElem_mem hkl))
    have hnx:=ih (k+1) (acc++[n]) x (by omega) (by omega) (by rw[List.length_append,hl]; rfl) (fun j r y hr hy=>by
     by_cases hj:j < k
     ·rw[List.getElem?_append_left (by omega)] at hy; exact ha j r y hr hy
     ·have hj2:=(List.getElem?_eq_some_iff.1 hy).1;rw[List.length_append] at hj2
      have hjk:j=k:=by have:j < acc.length+1:=hj2; omega
      subst hjk;rw[List.getElem?_append_right (by omega),hl,Nat.sub_self] at hy;have:n=y:=oi hy;rw[hg] at hr
      cases hr
      omega)
    obtain⟨t,h1,h2⟩:=hnx;refine⟨t,?_,h2⟩;have e:=(hf fun n=>gd (acc.length < 1048576) (gd (zl6 .i64 ((k:Int)+1)) (zum s words d (acc++[n]) x ((k:Int)+1)))).trans (show gd (acc.length < 1048576) (gd (zl6 .i64 ((k:Int)+1)) (zum s words d (acc++[n]) x ((k:Int)+1)))=some t by rw[zqr (by omega),zqr (fI (by omega)),show(k:Int)+1=((k+1:Nat):Int) by omega,h1]);refine Eq.trans ?_ e
    have hc:(k:Int) < (s.Losses.length:Int):=by omega
    simp only[if_pos hc,zrH hg,obs]
   ·have hkl':k=s.Losses.length:=by omega
    obtain⟨n,hn,hf⟩:=word k (by omega) hs.full.tr;obtain⟨d',rfl⟩:∃d',d=d'+1:=⟨d - 1,by omega⟩;refine⟨{ Losses:=acc,Treaty:=n },?_,by show acc.length=_; omega,ha,hn⟩;have e:=(hf fun n=>gd (zl6 .i64 ((k:Int)+1)) (zum s words (d'+1) acc n ((k:Int)+1))).trans (show gd (zl6 .i64 ((k:Int)+1)) (zum s words (d'+1) acc n ((k:Int)+1))=some ({ Losses:=acc,Treaty:=n }:Tr) by rw[zqr (fI (by omega)),show(k:Int)=(s.Losses.length:Int) by omega,hfin]);refine Eq.trans ?_ e
    have hc:¬ (k:Int) < (s.Losses.length:Int):=by omega
    simp only[if_neg hc]
 exact key 1000000 0 [] 0 (Nat.zero_le _) (by omega) rfl (fun j r y _ hy=>by cases hy)
theorem zzW{s:Soc}{words:List W8}(_:zsd s)(hw:words.length<=maxLen/\∀a∈words,zr7 a):zup s words=some true:=by
 unfold zup
 refine zzA.pick (fun hs=>?_) fun _=>by rw[if_neg (by decide),awk]
 obtain⟨t,h1,ht⟩:=zzV hs hw;have hl3:=hs.l3;have h5:=hs.m5;have hlt:=ht.len;have hin:=zzI ht;have hb:=zyC hs
 have hN:0<=zzH s t/\zzH s t<=300000:=by omega
 have hms:=hs.msOk;have hsup:=zyo s.Members [];have hsum:=zx3 hms hsup (N:=zzH s t) (by omega);have hcl:=zzR hs [] (N:=zzH s t) (by omega);have hlen:=zy1 (s:=s) [] (zzH s t) h5;have hbl:=zy6 (s:=s) [];have hsh:=(zyT hs (zza s [])).2.2 (zzH s t) hin;have hshv:zza s [] (zzH s t)=(zxX s.Members (zym s.Members.length []) (zzH s t)).2:=rfl;rw[hshv] at hsh;have hS:=zzS hs [] (N:=zzH s t) (by omega);rw[if_pos rfl,zzz hs.thin,obs,h1,obs,zzw (by omega),obs,zzN hs ht,obs,obs,zyY hs,obs,obs,zy9 hs,obs,obs,zzb hs,obs,if_pos rfl,if_pos rfl,if_pos rfl,if_pos rfl,if_neg (by show ¬ zzH s t < loN s; omega),if_neg (by show ¬ hiN s < zzH s t; omega),if_pos (by rw[hbl]),if_neg (by show ¬ (300000:Int) < zzH s t; omega),obs,zy3 hs hN,obs,if_pos rfl,if_pos (by rw[hlen,hbl]),if_neg (by show ¬ (zxX s.Members (zym s.Members.length []) (zzH s t)).2 < (bnd s (zza s [])).Lo; omega),if_neg (by show ¬ (bnd s (zza s [])).Hi < (zxX s.Members (zym s.Members.length []) (zzH s t)).2; omega),zzO (by rw[hlen]; omega) hS,obs,hcl,hsum.1,zqr (fI (by omega)),if_pos rfl,if_neg (by show ¬ (zxX s.Members (zym s.Members.length []) (zzH s t)).2 < 0; omega),obs,zzv (by rw[hlen]; omega),obs,zzU hs hN (by rw[hlen]; omega),obs,if_pos (decide_eq_true rfl)]
 have key:=zrL (n:=s.Members.length) (F:=fun d x=>zuo s (zy5 s [],0) (zy0 s [] (zzH s t),(zxX s.Members (zym s.Members.length []) (zzH s t)).2,0) d x) (ok:=fun _=>True) (bad:=some false) (fin:=some true) (fun d k hk=>by
  refine⟨fun _=>?_,fun h=>absurd trivial h⟩;have g1:=zy2 (s:=s) [] (zzH s t) h5 hk;have g2:=zy7 (s:=s) [] hk;have g3:=List.getElem?_eq_getElem hk;have b2:=(zyT hs (fun N=>(zxX s.Members (zym s.Members.length []) N).1 k)).2.2 (zzH s t) hin
  have hask:zym s.Members.length [] k=true:=by unfold zym; rw[decide_eq_true hk]; simp
  have hm:=zx5 hms hsup (N:=zzH s t) (by omega) (i:=k) (by omega) g3 hask
  show zuo s _ _ (d+1) (k:Int)=_
  rw[zuo,if_pos (by rw[hlen]; omega),zrH g1,obs,zrH g2,obs,if_neg (by omega),obs,obs,if_neg (by omega),obs,if_neg (by omega),obs,zrH g3,obs,if_neg (by omega)]
  by_cases hp:(0:Int) < (zxX s.Members (zym s.Members.length []) (zzH s t)).2
  ·have:=hm.2 hp;rw[if_pos hp,obs,obs,if_neg (by omega),zqr (fI (by omega))]
  ·rw[if_neg hp,zqr (fI (by omega))]) (fun d=>by
   show zuo s _ _ (d+1) _=_
   rw[zuo,if_neg (by rw[hlen]; omega),awk]) (d:=s.Members.length+1) (by omega)
 have:=key.1 fun _ _=>trivial
 show zuo s (zy5 s [],0) (zy0 s [] (zzH s t),(zxX s.Members (zym s.Members.length []) (zzH s t)).2,0) ((zy0 s [] (zzH s t)).length+1) 0=some true
 rw[hlen];exact this
end
end Go.Proofs.Ytkclhciahokifaa

namespace Go.Proofs.Ytkclhciahokifaa
open _root_.Go.Proofs.Try
open Go.ChangeShapes Go.WideShapes Go.ChangeAt Go.RowKit Go.Abs
set_option maxRecDepth 100000
theorem op3:zrX prog 3 Int (zl6 .i64):=zrY (by kernel_rfl)
theorem zzX:zrX prog 82 Mb zsb:=zr5 (fs:=[(3,0),(3,1),(3,2)]) (by kernel_rfl) (by kernel_rfl) (zr4 (α:=Int) (ok:=zl6 .i64) (k:=1) op3 (by kernel_rfl) rfl (zr4 (α:=Int) (ok:=zl6 .i64) (k:=1) op3 (by kernel_rfl) rfl (zr4 (α:=Int) (ok:=zl6 .i64) (k:=1) op3 (by kernel_rfl) rfl zr3))) (by kernel_rfl) fun m vs h=>by
 obtain⟨a0,c0,r0,m0,h0,p0,k0,s0,⟨a1,c1,r1,m1,h1,p1,k1,s1,⟨a2,c2,r2,m2,h2,p2,k2,s2,rfl⟩⟩⟩:=h;have p0:c0=[.int .i64 a0]:=p0; subst p0;have p1:c1=[.int .i64 a1]:=p1; subst p1;have p2:c2=[.int .i64 a2]:=p2; subst p2;subst h2 h1 h0;exact⟨⟨a0,a1,a2⟩,rfl,⟨k0,k1,k2⟩⟩
theorem zzY:zrX prog 22 (List Mb) (fun l=>l.length<=maxLen/\∀a0∈l,zsb a0):=zr0 (by kernel_rfl) (by kernel_rfl) zzX
theorem zzZ:zrX prog 25 Rg zr9:=zr5 (fs:=[(3,0),(3,1)]) (by kernel_rfl) (by kernel_rfl) (zr4 (α:=Int) (ok:=zl6 .i64) (k:=1) op3 (by kernel_rfl) rfl (zr4 (α:=Int) (ok:=zl6 .i64) (k:=1) op3 (by kernel_rfl) rfl zr3)) (by kernel_rfl) fun m vs h=>by
 obtain⟨a0,c0,r0,m0,h0,p0,k0,s0,⟨a1,c1,r1,m1,h1,p1,k1,s1,rfl⟩⟩:=h;have p0:c0=[.int .i64 a0]:=p0; subst p0;have p1:c1=[.int .i64 a1]:=p1; subst p1;subst h1 h0;exact⟨⟨a0,a1⟩,rfl,⟨k0,k1⟩⟩
theorem zz0:zrX prog 23 (List Rg) (fun l=>l.length<=maxLen/\∀a0∈l,zr9 a0):=zr0 (by kernel_rfl) (by kernel_rfl) zzZ
theorem zz1:zrX prog 27 Soc zsd:=zr5 (fs:=[(22,0),(23,1),(25,2),(3,4)]) (by kernel_rfl) (by kernel_rfl) (zr4 (α:=List Mb) (ok:=(fun l=>l.length<=maxLen/\∀a0∈l,zsb a0)) (k:=1) zzY (by kernel_rfl) rfl (zr4 (α:=List Rg) (ok:=(fun l=>l.length<=maxLen/\∀a0∈l,zr9 a0)) (k:=1) zz0 (by kernel_rfl) rfl (zr4 (α:=Rg) (ok:=zr9) (k:=2) zzZ (by kernel_rfl) rfl (zr4 (α:=Int) (ok:=zl6 .i64) (k:=1) op3 (by kernel_rfl) rfl zr3)))) (by kernel_rfl) fun m vs h=>by
 obtain⟨a0,c0,r0,m0,h0,p0,k0,s0,⟨a1,c1,r1,m1,h1,p1,k1,s1,⟨a2,c2,r2,m2,h2,p2,k2,s2,⟨a3,c3,r3,m3,h3,p3,k3,s3,rfl⟩⟩⟩⟩:=h;obtain⟨d0,rfl,p0⟩:=p0;obtain⟨d1,rfl,p1⟩:=p1;have p2:c2=[.int .i64 a2.Lo,.int .i64 a2.Hi]:=p2; subst p2;have p3:c3=[.int .i64 a3]:=p3; subst p3;subst h3 h2 h1 h0;exact⟨⟨a0,a1,a2,a3⟩,⟨_,_,rfl,p0,p1⟩,⟨k0,k1,k2,k3⟩⟩
theorem op5:zrX prog 5 W8 zr7:=fun H enc W held n cs x hx e m hl=>by
 obtain⟨i,rfl,_,hw⟩:=DataW.trod_int (show prog.underlying 5=some (.int .u8) by kernel_rfl) hx;exact⟨e,m,[.int .u8 i],⟨i⟩,.refl _,.refl _,hl,.cons rfl .nil,rfl,zqz hw⟩
theorem zz2:zrX prog 79 (List W8) (fun l=>l.length<=maxLen/\∀a0∈l,zr7 a0):=zr0 (by kernel_rfl) (by kernel_rfl) op5
theorem zz3:laidOutB prog=true:=by kernel_rfl
theorem zz4:ownKnob prog.godebug=none:=by kernel_rfl
theorem zz5(os:Os)(started:os.Started)(H:Type)(enc:TypeId × Value->H) :
    ReturnsInHanded {} Try.checked os 8 .any (Rows.callTruthSpec.pre6 enc Try.prog Try.f8 Rows.callTruthRow.domain false) (Rows.callTruthSpec.post enc Try.prog Try.f8 false true false false):=by
  refine returnsInHanded_of_change (C:=Try.checked) zz4 started (by kernel_rfl) Try.func8
    (ChangeSpec.witness6 (enc:=enc) (C:=Try.checked) false ⟨#[],#[.agg #[.slice none 0 0,.slice none 0 0,.int .i64 0,.int .i64 0,.int .i64 0],.slice none 0 0],[]⟩ 8 (by kernel_rfl) (by kernel_rfl) (by kernel_rfl) (by kernel_rfl)) ?_
  intro W base args ds gs before hval0 hW hcnd _;have hval:∀(j:Nat) t v,Try.f8.params[j]? = some t->args[j]? = some v->Value.okWide Try.prog W .any base t v:=hval0;have hW':=hW;obtain⟨p,q,hA0,hV,rfl,hfz,hnd⟩:=hW;have hA:DataW.TrodAll enc Try.prog W 0 (fun _=>true) true Try.f8.params.toList args.toList ds p:=hA0;rw[Try.params8] at hA hval;obtain⟨v0,v1,d0,d1,p0,p1,rfl,rfl,rfl,h0,h1⟩:=trodAll_two hA;obtain⟨rfl,rfl⟩:=trodVars_none hV;obtain⟨a1,len1,cap1,hv1⟩:=okWide_slice Try.underlying79 (hval 1 79 v1 rfl rfl)
  have hlt:∀x∈p0++p1,x.block < W.heap.size:=fun x hx=>by simpa using hW'.lt x (by simpa using hx)
  obtain⟨fu0,hf0⟩:=id h0;obtain⟨fu1,hf1⟩:=id h1
  clear hA0 hval0
  obtain⟨e0,m0,w0,a_0,le0,sv0,lay0,cr0,zuS,ok0⟩:=zz1 H enc W true _ _ _ hf0 _ _ (Lay.nil W);obtain⟨e1,m1,w1,a_1,le1,sv1,lay1,cr1,rep1,ok1⟩:=zz2 H enc W true _ _ _ hf1 e0 m0 lay0;obtain⟨c0_0,c0_1,rfl,g0_0,g0_1⟩:=zuS
  obtain⟨cs0,hv0,cl0⟩:∃cs,v0=.agg cs/\v0.cells.toList=cs.toList:=by
    have hl:=cr0.length
    cases v0 with
    | agg cs=>exact⟨cs,rfl,rfl⟩
    | _=>exact absurd hl (by simp[Value.cells])
  subst hv0;subst hv1;obtain⟨c1,rfl,rep1⟩:=rep1
  have cv1:CR e1 c1 (.slice a1 len1 cap1):=by
    cases cr1 with
    | cons h _=>exact h
  have hargs:zeq (VR e1) [.agg 5 [c0_0,c0_1,.int .i64 a_0.Treaty.Lo,.int .i64 a_0.Treaty.Hi,.int .i64 a_0.Reserve],.c c1] [.agg cs0,.slice a1 len1 cap1]:=.cons ⟨cs0,rfl,(cr0.mono fun _ _=>CR.mono le1),rfl⟩ (.cons cv1 .nil);refine(callsIn_wide.1 (zqB fits htab (zwE (s:=a_0) (words:=a_1) lay1.pre (g0_0.subv sv1) (g0_1.subv sv1) rep1 (zzW ok0 ok1) (Q:=fun v _=>v=.c (.bool true)) fun _ _=>rfl) lay1.hr (args':=#[.agg cs0,.slice a1 len1 cap1]) hargs 0)).mono fun en W' hp=>?_;obtain⟨v,v',e',m',rfl,hst,hvr,rfl⟩:=hp;have hv':v'=.bool true:=hvr;subst hv';have hbelow:=lay1.below hst
  refine⟨_,rfl,[d0,d1],[],p0++p1,[],p0++p1,[],by simpa using hW',trodAll_mk1 (shut_bool Try.underlying4 _),
    trodAll_mk2 (Below.trod zz3 (by kernel_rfl) (of_decide_eq_true (by kernel_rfl)) h0 hbelow fun x hx=>hlt x (by simp[hx])) (Below.trod zz3 (by kernel_rfl) (of_decide_eq_true (by kernel_rfl)) h1 hbelow fun x hx=>hlt x (by simp[hx])),rfl,lay1.kept hst _,fun hc=>by cases hc⟩
theorem CallTruth_holds:Rows.CallTruthSaid:=
 OpenClaim.holds_of_wide 8 Try.f8 rfl rfl rfl rfl rfl rfl rfl ⟨rfl,rfl,rfl,rfl,rfl⟩ rfl rfl rfl rfl rfl (by kernel_rfl) Try.func8 (by kernel_rfl)
  (of_decide_eq_true (by kernel_rfl)) (by unfold Func.isWrapper; first | (rw[if_pos (by decide +kernel)]; kernel_rfl) | (rw[if_neg (by decide +kernel)]; exact⟨rfl,rfl⟩))
  (fun os started H enc _=>zz5 os started H enc)
end Go.Proofs.Ytkclhciahokifaa

