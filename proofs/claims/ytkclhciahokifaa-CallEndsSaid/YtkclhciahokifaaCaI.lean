/- CallEnds, for all that it can be called with, returns true. Condition: none. -/
import Derived.Test.YtkclhciahokifaaCaH
import GoSem.Step
import GoSem.ClaimKeys
import Derived.DeepKeys2
import Derived.RangeFuncLeaves
import Derived.OrdersIn
import Derived.Laws.World
import Derived.Laws.Sem
import Derived.RangeFuncRecord
import Derived.Laws.CopyRow
import Derived.Laws.Append
import Derived.Laws.Rows
import Derived.Laws.Slices
import Derived.Laws.Entries
import Derived.ChangeKeysEq
import Derived.IntWalk
import Derived.DeepKeys
import Derived.DeepKeys3
import Derived.Laws.StructEq
import Derived.MapKept
import Derived.Laws.AppendOwn
import Derived.ChangeArms
import Derived.ChangeOld
import Derived.Carry
import Derived.ChangeShapes
import Derived.KernelRfl
import Derived.ProofKit
import Derived.Test.YtkclhciahokifaaRows

namespace Go.Proofs.Ytkclhciahokifaa
open _root_.Go.Proofs.Try
open Go.Abs
set_option maxRecDepth 100000
noncomputable section
theorem zw6{a x s:Int}(hx:0<=x)(hxs:x<=s)(hs:0 < s)(ha:0<=a):0<=a * x / s/\a * x / s<=a:=by
 constructor
 ·exact Int.ediv_nonneg (Int.mul_nonneg ha hx) (Int.le_of_lt hs)
 ·have h1:a * x<=a * s:=Int.mul_le_mul_of_nonneg_left hxs ha;have h2:=Int.ediv_le_ediv hs h1
  rwa [Int.mul_ediv_cancel _ (by omega)] at h2
theorem zw7{a x A X:Int}(ha:0<=a/\a<=A)(hx:0<=x/\x<=X):0<=a * x/\a * x<=A * X:=by
 refine⟨Int.mul_nonneg ha.1 hx.1,?_⟩;have h1:a * x<=A * x:=Int.mul_le_mul_of_nonneg_right ha.2 hx.1;have h2:A * x<=A * X:=Int.mul_le_mul_of_nonneg_left hx.2 (by omega)
 omega
structure UOk (u:Nat->Int):Prop where
 bd:∀i,i < 5->0<=u i/\u i<=100000
 pos:0 < S5 u
theorem UOk.le{u:Nat->Int}(h:UOk u){i:Nat}(hi:i < 5):u i<=S5 u/\S5 u<=500000:=by
 have h0:=h.bd 0 (by omega); have h1:=h.bd 1 (by omega); have h2:=h.bd 2 (by omega); have h3:=h.bd 3 (by omega); have h4:=h.bd 4 (by omega);unfold S5
 match i,hi with
 | 0,_=>omega
 | 1,_=>omega
 | 2,_=>omega
 | 3,_=>omega
 | 4,_=>omega
def qN(N:Int)(u:Nat->Int)(k:Nat):Int:=N * u k / S5 u
def rN(N:Int)(u:Nat->Int)(k:Nat):Int:=N * u k % S5 u
def shN(N:Int)(u:Nat->Int)(k:Nat):Sh:={ pence:=qN N u k,remainder:=rN N u k }
def zw8(N:Int)(u:Nat->Int)(k:Nat):Int:=qN N u k+if zw0 (rN N u) k < N - S5 (qN N u) then 1 else 0
section
variable {N:Int} {u:Nat->Int}
theorem zw9(hu:UOk u)(hN:0<=N){k:Nat}(hk:k < 5):0<=qN N u k/\qN N u k<=N:=zw6 (hu.bd k hk).1 (hu.le hk).1 hu.pos hN
theorem zxa(hu:UOk u)(k:Nat):0<=rN N u k/\rN N u k < S5 u:=⟨Int.emod_nonneg _ (by have:=hu.pos; omega),Int.emod_lt_of_pos _ hu.pos⟩
theorem zxb(hu:UOk u)(hN:0<=N/\N<=1000000){k:Nat}(hk:k < 5):MK.fit (shN N u k):=by
 have h1:=zw9 hu hN.1 hk;have h2:=zxa (N:=N) hu k;have h3:=(hu.le hk).2;exact⟨fI (show _/\_ by show -9223372036854775808<=qN N u k/\qN N u k < _; omega),fI (show _/\_ by show -9223372036854775808<=rN N u k/\rN N u k < _; omega),trivial⟩
theorem zxc(hu:UOk u)(hN:0<=N/\N<=1000000):ztv N (mk5 u)=some (mk5 (zw8 N u)):=by
 have hbu:Bd 1000000000000 u:=fun i hi=>by have:=hu.bd i hi; omega
 have hbq:Bd 1000000000000 (qN N u):=fun i hi=>by have:=zw9 hu hN.1 hi; omega
 have hU:=hu.pos;have hU2:=(hu.le (i:=0) (by omega)).2;have hq0:=zw9 hu hN.1 (k:=0) (by omega); have hq1:=zw9 hu hN.1 (k:=1) (by omega); have hq2:=zw9 hu hN.1 (k:=2) (by omega); have hq3:=zw9 hu hN.1 (k:=3) (by omega); have hq4:=zw9 hu hN.1 (k:=4) (by omega)
 have hsq:0<=S5 (qN N u)/\S5 (qN N u)<=5000000:=by unfold S5; omega
 -- the second loop
 have second:ztt N (shN N u 0).pence (shN N u 0).remainder (shN N u 1).pence (shN N u 1).remainder (shN N u 2).pence (shN N u 2).remainder (shN N u 3).pence (shN N u 3).remainder (shN N u 4).pence (shN N u 4).remainder (hM (shN N u) 5) (S5 (qN N u)) (Int.toNat (5:Int)+1) (qN N u 0) (qN N u 1) (qN N u 2) (qN N u 3) (qN N u 4) (0:Int)=some (mk5 (zw8 N u)):=by
  have key:=zww (n:=5) (fun d s x=>ztt N (shN N u 0).pence (shN N u 0).remainder (shN N u 1).pence (shN N u 1).remainder (shN N u 2).pence (shN N u 2).remainder (shN N u 3).pence (shN N u 3).remainder (shN N u 4).pence (shN N u 4).remainder (hM (shN N u) 5) (S5 (qN N u)) d (s 0) (s 1) (s 2) (s 3) (s 4) x) (stF (zw8 N u) (qN N u)) (fin:=some (mk5 (zw8 N u))) (fun d k hk=>?_) (fun d=>?_) 6 0 (by omega) (by omega)
  ·rw[zwA] at key; exact key
  ·have hb:zts (dv (shN N u)) (k:Int)=some (zw0 (rN N u) k):=zw5 (fun k hk=>zxb hu hN hk) hk;have hq:=zw9 hu hN.1 hk;have e:=zwD (zw8 N u) (qN N u) k
   show ztt _ _ _ _ _ _ _ _ _ _ _ _ _ (d+1) _ _ _ _ _ _=_
   rw[ztt,if_pos (by omega)]
   show(zts (dv (shN N u)) (k:Int)).bind _=_
   rw[hb,obs]
   by_cases h:zw0 (rN N u) k < N - S5 (qN N u)
   ·rw[if_pos h]
    show(idx (l5 (stF (zw8 N u) (qN N u) k)) (k:Int)).bind _=_
    have ep:qN N u k+1=zw8 N u k:=by unfold zw8; rw[if_pos h]
    rw[zwy hk,obs,zwB,zqr (fI (by omega)),zqr (by omega),zqr (fI (by omega)),ep,e 0,e 1,e 2,e 3,e 4]
   ·rw[if_neg h,zqr (fI (by omega))]
    have ep:qN N u k=zw8 N u k:=by unfold zw8; rw[if_neg h,Int.add_zero]
    have e1:∀j,stF (zw8 N u) (qN N u) k j=stF (zw8 N u) (qN N u) (k+1) j:=fun j=>by
     unfold stF
     by_cases h:j=k
     ·subst h; rw[if_neg (by omega),if_pos (by omega)]; exact ep
     ·by_cases h2:j < k
      ·rw[if_pos h2,if_pos (by omega)]
      ·rw[if_neg h2,if_neg (by omega)]
    rw[e1 0,e1 1,e1 2,e1 3,e1 4]
  ·show ztt _ _ _ _ _ _ _ _ _ _ _ _ _ (d+1) _ _ _ _ _ _=_
   rw[ztt,if_neg (by omega)]; rfl
 unfold ztv;rw[zwG hbu,obs];have key:=zww (n:=5) (fun d (s:(Nat->Int) × (Nat->Sh) × Option (Sh->Option Int)) x=>ztu N (mk5 u) (S5 u) d (s.1 0) (s.1 1) (s.1 2) (s.1 3) (s.1 4) (s.2.1 0).pence (s.2.1 0).remainder (s.2.1 1).pence (s.2.1 1).remainder (s.2.1 2).pence (s.2.1 2).remainder (s.2.1 3).pence (s.2.1 3).remainder (s.2.1 4).pence (s.2.1 4).remainder s.2.2 x) (fun k=>(stF (qN N u) (fun _=>0) k,stF (shN N u) (fun _=>⟨0,0⟩) k,hM (shN N u) k)) (fin:=some (mk5 (zw8 N u))) (fun d k hk=>?_) (fun d=>?_) 6 0 (by omega) (by omega)
 ·rw[zwA,zwA,zwY] at key; exact key
 ·have hq:=zw9 hu hN.1 hk;have hr:=zxa (N:=N) hu k;have huk:=hu.bd k hk;have hm:=zw7 (a:=N) (x:=u k) ⟨hN.1,hN.2⟩ huk;have hc:=zwV (shN N u) (shN N u k) k;have hset:=zwZ (shN N u) k
  have fin:∀M',M'=hM (shN N u) (k+1)->ztu N (mk5 u) (S5 u) d (sti (k:Int) 0 (qN N u k) (stF (qN N u) (fun _=>0) k 0)) (sti (k:Int) 1 (qN N u k) (stF (qN N u) (fun _=>0) k 1)) (sti (k:Int) 2 (qN N u k) (stF (qN N u) (fun _=>0) k 2)) (sti (k:Int) 3 (qN N u k) (stF (qN N u) (fun _=>0) k 3)) (sti (k:Int) 4 (qN N u k) (stF (qN N u) (fun _=>0) k 4)) (sti (k:Int) 0 (shN N u k) (stF (shN N u) (fun _=>⟨0,0⟩) k 0)).pence (sti (k:Int) 0 (shN N u k) (stF (shN N u) (fun _=>⟨0,0⟩) k 0)).remainder (sti (k:Int) 1 (shN N u k) (stF (shN N u) (fun _=>⟨0,0⟩) k 1)).pence (sti (k:Int) 1 (shN N u k) (stF (shN N u) (fun _=>⟨0,0⟩) k 1)).remainder (sti (k:Int) 2 (shN N u k) (stF (shN N u) (fun _=>⟨0,0⟩) k 2)).pence (sti (k:Int) 2 (shN N u k) (stF (shN N u) (fun _=>⟨0,0⟩) k 2)).remainder (sti (k:Int) 3 (shN N u k) (stF (shN N u) (fun _=>⟨0,0⟩) k 3)).pence (sti (k:Int) 3 (shN N u k) (stF (shN N u) (fun _=>⟨0,0⟩) k 3)).remainder (sti (k:Int) 4 (shN N u k) (stF (shN N u) (fun _=>⟨0,0⟩) k 4)).pence (sti (k:Int) 4 (shN N u k) (stF (shN N u) (fun _=>⟨0,0⟩) k 4)).remainder M' ((k:Int)+1)=ztu N (mk5 u) (S5 u) d (stF (qN N u) (fun _=>0) (k+1) 0) (stF (qN N u) (fun _=>0) (k+1) 1) (stF (qN N u) (fun _=>0) (k+1) 2) (stF (qN N u) (fun _=>0) (k+1) 3) (stF (qN N u) (fun _=>0) (k+1) 4) (stF (shN N u) (fun _=>⟨0,0⟩) (k+1) 0).pence (stF (shN N u) (fun _=>⟨0,0⟩) (k+1) 0).remainder (stF (shN N u) (fun _=>⟨0,0⟩) (k+1) 1).pence (stF (shN N u) (fun _=>⟨0,0⟩) (k+1) 1).remainder (stF (shN N u) (fun _=>⟨0,0⟩) (k+1) 2).pence (stF (shN N u) (fun _=>⟨0,0⟩) (k+1) 2).remainder (stF (shN N u) (fun _=>⟨0,0⟩) (k+1) 3).pence (stF (shN N u) (fun _=>⟨0,0⟩) (k+1) 3).remainder (stF (shN N u) (fun _=>⟨0,0⟩) (k+1) 4).pence (stF (shN N u) (fun _=>⟨0,0⟩) (k+1) 4).remainder (hM (shN N u) (k+1)) ((k:Int)+1):=by
   intro M' hM';subst hM';have e:=zwD (qN N u) (fun _=>0) k;have e':=zwD (shN N u) (fun _=>(⟨0,0⟩:Sh)) k;rw[e 0,e 1,e 2,e 3,e 4,e' 0,e' 1,e' 2,e' 3,e' 4]
  show ztu _ _ _ (d+1) _ _ _ _ _ _ _ _ _ _ _ _ _ _ _ _ _=_
  rw[ztu,if_pos (by omega)]
  show(idx (l5 u) (k:Int)).bind _=_
  have hqf:zl6 .i64 (N * u k / S5 u):=fI (by unfold qN at hq; omega);have hrf:zl6 .i64 (N * u k % S5 u):=fI (by unfold rN at hr; omega);have hfit:MK.fit ({ pence:=N * u k / S5 u,remainder:=N * u k % S5 u }:Sh):=zxb hu hN hk;rw[zwy hk,obs,zqr hN.1,zqr huk.1,zqr (fI (by omega)),zqr hm.1,zqr hU,zqr hqf,zqr hN.1,zqr huk.1,zqr (fI (by omega)),zqr hm.1,zqr hU,zqr hrf,zqr (by omega),zqr hfit]
  show zqQ (zqJ (hM (shN N u) k) (shN N u k)) _ _=_
  by_cases h0:cnt (shN N u) k (shN N u k)=0
  ·rw[zqR (by rw[zwX,if_pos h0]),zqr (fI (by omega)),zqr hfit];rw[h0] at hset;rw[show zqK (hM (shN N u) k) ({ pence:=N * u k / S5 u,remainder:=N * u k % S5 u }:Sh) 1=some (hM (shN N u) (k+1)) from hset,obs,zqr (by omega),zqr (fI (by omega))];exact fin _ rfl
  ·rw[zqS (show zqJ (hM (shN N u) k) (shN N u k)=some (cnt (shN N u) k (shN N u k)) by rw[zwX,if_neg h0]),zqr (fI (by omega)),zqr hfit];rw[show zqK (hM (shN N u) k) ({ pence:=N * u k / S5 u,remainder:=N * u k % S5 u }:Sh) (cnt (shN N u) k (shN N u k)+1)=some (hM (shN N u) (k+1)) from hset,obs,zqr (by omega),zqr (fI (by omega))];exact fin _ rfl
 ·show ztu _ _ _ (d+1) _ _ _ _ _ _ _ _ _ _ _ _ _ _ _ _ _=_
  rw[ztu,if_neg (by omega)]
  show(ztm (mk5 (qN N u))).bind _=_
  rw[zwG hbq,obs,zqr (fI (by omega))];exact second
end
end
end Go.Proofs.Ytkclhciahokifaa

namespace Go.Proofs.Ytkclhciahokifaa
open _root_.Go.Proofs.Try
open Go.Abs
set_option maxRecDepth 100000
noncomputable section
def bfc(r:Nat->Int)(k i:Nat):Int:=if r i < r k then 1 else if r k=r i/\k < i then 1 else 0
theorem zxd(f:Nat->Int){i:Nat}(hi:i<=5):part f i=S5 fun k=>if k < i then f k else 0:=by
 match i,hi with
 | 0,_=>show(0:Int)=0+0+0+0+0; omega
 | 1,_=>show 0+f 0=f 0+0+0+0+0; omega
 | 2,_=>show 0+f 0+f 1=f 0+f 1+0+0+0; omega
 | 3,_=>show 0+f 0+f 1+f 2=f 0+f 1+f 2+0+0; omega
 | 4,_=>show 0+f 0+f 1+f 2+f 3=f 0+f 1+f 2+f 3+0; omega
 | 5,_=>show 0+f 0+f 1+f 2+f 3+f 4=f 0+f 1+f 2+f 3+f 4; omega
theorem zxe(r:Nat->Int){i:Nat}(hi:i < 5):zw0 r i=S5 fun k=>bfc r k i:=by
 unfold zw0 gtN eqN;rw[zxd _ (by omega),<- zwQ];refine zwS fun k _=>?_;unfold bfc
 by_cases h1:r i < r k
 ·rw[if_pos h1,if_pos h1,if_neg (show ¬ r k=r i by omega)]
  by_cases h2:k < i
  ·rw[if_pos h2]; rfl
  ·rw[if_neg h2]; rfl
 ·rw[if_neg h1,if_neg h1]
  by_cases h2:k < i
  ·rw[if_pos h2]
   by_cases h3:r k=r i
   ·rw[if_pos h3,if_pos ⟨h3,h2⟩]; rfl
   ·rw[if_neg h3,if_neg fun h=>h3 h.1]; rfl
  ·rw[if_neg h2,if_neg fun h=>h2 h.2]; rfl
theorem zxf{f g:Nat->Int}(h:∀i,i < 5->f i<=g i):S5 f<=S5 g:=by
 have:=h 0 (by omega); have:=h 1 (by omega); have:=h 2 (by omega); have:=h 3 (by omega); have:=h 4 (by omega);unfold S5; omega
theorem zxg{f g:Nat->Int}(h:∀i,i < 5->f i<=g i){k:Nat}(hk:k < 5)(hlt:f k < g k):S5 f < S5 g:=by
 have:=h 0 (by omega); have:=h 1 (by omega); have:=h 2 (by omega); have:=h 3 (by omega); have:=h 4 (by omega);unfold S5
 match k,hk with
 | 0,_=>omega
 | 1,_=>omega
 | 2,_=>omega
 | 3,_=>omega
 | 4,_=>omega
theorem zxh(r:Nat->Int)(k i:Nat):0<=bfc r k i/\bfc r k i<=1:=by unfold bfc; split <;> (try split) <;> omega
theorem zxi{r:Nat->Int}{k i:Nat}:bfc r k i=1↔r i < r k\/(r k=r i/\k < i):=by
 unfold bfc
 by_cases h1:r i < r k
 ·rw[if_pos h1]; exact⟨fun _=>.inl h1,fun _=>rfl⟩
 ·rw[if_neg h1]
  by_cases h2:r k=r i/\k < i
  ·rw[if_pos h2]; exact⟨fun _=>.inr h2,fun _=>rfl⟩
  ·rw[if_neg h2]; exact⟨fun h=>by omega,fun h=>h.elim (fun h=>absurd h h1) fun h=>absurd h h2⟩
theorem zj9{r:Nat->Int}{k i:Nat}(hk:k < 5)(hi:i < 5)(h:r i < r k\/(r k=r i/\k < i)):zw0 r k < zw0 r i:=by
 rw[zxe r hk,zxe r hi];refine zxg (fun j _=>?_) hk ?_
 ·have h1:=zxh r j k; have h2:=zxh r j i
  by_cases hj:bfc r j k=1
  ·have:=zxi.1 hj;have:bfc r j i=1:=zxi.2 (by omega)
   omega
  ·omega
 ·have h1:bfc r k i=1:=zxi.2 h
  have h2:¬ bfc r k k=1:=fun h=>by have:=zxi.1 h; omega
  have h3:=zxh r k k
  omega
theorem zxj{r:Nat->Int}{k i:Nat}(hk:k < 5)(hi:i < 5)(h:k ≠ i):zw0 r k ≠ zw0 r i:=by
 by_cases h1:r i < r k\/(r k=r i/\k < i)
 ·have:=zj9 hk hi h1; omega
 ·have:=zj9 hi hk (r:=r) (by omega); omega
theorem zxk(r:Nat->Int){i:Nat}(hi:i < 5):0<=zw0 r i/\zw0 r i<=4:=by
 have h0:=zxh r 0 i; have h1:=zxh r 1 i; have h2:=zxh r 2 i; have h3:=zxh r 3 i; have h4:=zxh r 4 i
 have hii:bfc r i i=0:=by
  have:=zxh r i i
  have:¬ bfc r i i=1:=fun h=>by have:=zxi.1 h; omega
  omega
 rw[zxe r hi];unfold S5
 dsimp only
 match i,hi with
 | 0,_=>omega
 | 1,_=>omega
 | 2,_=>omega
 | 3,_=>omega
 | 4,_=>omega
theorem zxl:∀a b:Fin 5,a ≠ b->∀c:Fin 5,a ≠ c->b ≠ c->∀d:Fin 5,a ≠ d->b ≠ d->c ≠ d->∀e:Fin 5,a ≠ e->b ≠ e->c ≠ e->d ≠ e->∀L:Fin 6,
  (if a.val < L.val then 1 else 0)+(if b.val < L.val then 1 else 0)+(if c.val < L.val then 1 else 0)+(if d.val < L.val then 1 else 0)+(if e.val < L.val then 1 else 0)=L.val:=by decide +kernel
theorem zxm(r:Nat->Int){L:Int}(hL:0<=L/\L<=5):S5 (fun i=>if zw0 r i < L then 1 else 0)=L:=by
 have b:∀i,i < 5->0<=zw0 r i/\zw0 r i<=4:=fun i hi=>zxk r hi;have b0:=b 0 (by omega); have b1:=b 1 (by omega); have b2:=b 2 (by omega); have b3:=b 3 (by omega); have b4:=b 4 (by omega)
 have ne:∀i j (hi:i < 5) (hj:j < 5),i ≠ j->(⟨(zw0 r i).toNat,by have:=b i hi; omega⟩:Fin 5) ≠ ⟨(zw0 r j).toNat,by have:=b j hj; omega⟩:=fun i j hi hj hij h=>by
  have h1:=Fin.mk.inj h;have:=zxj (r:=r) hi hj hij;have:=b i hi; have:=b j hj
  omega
 have key:=zxl ⟨(zw0 r 0).toNat,by omega⟩ ⟨(zw0 r 1).toNat,by omega⟩ (ne 0 1 (by omega) (by omega) (by omega)) ⟨(zw0 r 2).toNat,by omega⟩ (ne 0 2 (by omega) (by omega) (by omega)) (ne 1 2 (by omega) (by omega) (by omega)) ⟨(zw0 r 3).toNat,by omega⟩ (ne 0 3 (by omega) (by omega) (by omega)) (ne 1 3 (by omega) (by omega) (by omega)) (ne 2 3 (by omega) (by omega) (by omega)) ⟨(zw0 r 4).toNat,by omega⟩ (ne 0 4 (by omega) (by omega) (by omega)) (ne 1 4 (by omega) (by omega) (by omega)) (ne 2 4 (by omega) (by omega) (by omega)) (ne 3 4 (by omega) (by omega) (by omega)) ⟨L.toNat,by omega⟩
 dsimp only at key
 have e:∀i,i < 5->(if zw0 r i < L then (1:Int) else 0)=((if (zw0 r i).toNat < L.toNat then 1 else 0:Nat):Int):=fun i hi=>by
  have:=b i hi
  by_cases h:zw0 r i < L
  ·rw[if_pos h,if_pos (by omega)]; rfl
  ·rw[if_neg h,if_neg (by omega)]; rfl
 unfold S5
 dsimp only
 rw[e 0 (by omega),e 1 (by omega),e 2 (by omega),e 3 (by omega),e 4 (by omega)]
 omega
section
variable {N:Int} {u:Nat->Int}
theorem zxn(N:Int)(u:Nat->Int):S5 u * (N - S5 (qN N u))=S5 (rN N u):=by
 have h:∀k,rN N u k+S5 u * qN N u k=N * u k:=fun k=>Int.emod_add_mul_ediv (N * u k) (S5 u);have h0:=h 0; have h1:=h 1; have h2:=h 2; have h3:=h 3; have h4:=h 4
 have e1:S5 u * N=N * u 0+N * u 1+N * u 2+N * u 3+N * u 4:=by
  rw[Int.mul_comm]; unfold S5; rw[Int.mul_add,Int.mul_add,Int.mul_add,Int.mul_add]
 have e2:S5 u * S5 (qN N u)=S5 u * qN N u 0+S5 u * qN N u 1+S5 u * qN N u 2+S5 u * qN N u 3+S5 u * qN N u 4:=by
  generalize S5 u=U;unfold S5; rw[Int.mul_add,Int.mul_add,Int.mul_add,Int.mul_add]
 rw[Int.mul_sub,e1,e2]
 show _=rN N u 0+rN N u 1+rN N u 2+rN N u 3+rN N u 4
 omega
theorem zxo(hu:UOk u)(N:Int):0<=N - S5 (qN N u)/\N - S5 (qN N u)<=gtN (rN N u) 0/\N - S5 (qN N u)<=4:=by
 have hU:=hu.pos;have hl:=zxn N u;have hr:=fun k=>zxa (N:=N) hu k;have r0:=hr 0; have r1:=hr 1; have r2:=hr 2; have r3:=hr 3; have r4:=hr 4;refine⟨?_,?_,?_⟩
 ·apply Classical.byContradiction
  intro hn;have:S5 u * (N - S5 (qN N u)) < 0:=Int.mul_neg_of_pos_of_neg hU (by omega);rw[hl] at this;unfold S5 at this; omega
 ·have h2:S5 (rN N u)<=S5 u * gtN (rN N u) 0:=by
   have e:S5 u * gtN (rN N u) 0=S5 (fun k=>S5 u * if 0 < rN N u k then 1 else 0):=by
    unfold gtN;generalize S5 u=U
    show U * S5 (fun k=>if 0 < rN N u k then 1 else 0)=_
    unfold S5;rw[Int.mul_add,Int.mul_add,Int.mul_add,Int.mul_add]
   rw[e];refine zxf fun k _=>?_;have:=hr k
   by_cases h:0 < rN N u k
   ·rw[if_pos h]; omega
   ·rw[if_neg h]; omega
  rw[<- hl] at h2;exact Int.le_of_mul_le_mul_left h2 hU
 ·apply Classical.byContradiction
  intro hn;have h2:S5 u * 5<=S5 u * (N - S5 (qN N u)):=Int.mul_le_mul_of_nonneg_left (by omega) (by omega);rw[hl] at h2;have h3:S5 (rN N u)=rN N u 0+rN N u 1+rN N u 2+rN N u 3+rN N u 4:=rfl
  omega
theorem zxp(hu:UOk u){k:Nat}(h0:rN N u k=0):¬ zw0 (rN N u) k < N - S5 (qN N u):=by
 have h1:=(zxo hu N).2.1;have h2:=zw2 (rN N u) (rN N u k) k
 have h3:zw0 (rN N u) k=gtN (rN N u) 0+eqN (rN N u) (rN N u k) k:=by unfold zw0; rw[h0]
 omega
theorem zxq(hu:UOk u)(N:Int):S5 (zw8 N u)=N:=by
 have h:=zxo hu N;have e:S5 (zw8 N u)=S5 (qN N u)+S5 (fun i=>if zw0 (rN N u) i < N - S5 (qN N u) then 1 else 0):=zwQ _ _;rw[e,zxm _ (by omega)]; omega
theorem zxr(N:Int)(u:Nat->Int)(k:Nat):qN N u k<=zw8 N u k/\zw8 N u k<=qN N u k+1:=by unfold zw8; split <;> omega
theorem zxs(hu:UOk u)(hN:0<=N){k:Nat}(hk:k < 5):0<=zw8 N u k:=by have:=zxr N u k; have:=zw9 hu hN hk; omega
theorem zxt(hu:UOk u)(hN:0<=N){k:Nat}(hk:k < 5):zw8 N u k<=N:=by
 have hs:=zxq hu N;have h:∀i,i < 5->0<=zw8 N u i:=fun i hi=>zxs hu hN hi;have:=h 0 (by omega); have:=h 1 (by omega); have:=h 2 (by omega); have:=h 3 (by omega); have:=h 4 (by omega);unfold S5 at hs
 match k,hk with
 | 0,_=>omega
 | 1,_=>omega
 | 2,_=>omega
 | 3,_=>omega
 | 4,_=>omega
theorem zxu(hu:UOk u){k:Nat}(h:u k=0):zw8 N u k=0:=by
 have hq:qN N u k=0:=by unfold qN; rw[h,Int.mul_zero,Int.zero_ediv]
 have hr:rN N u k=0:=by unfold rN; rw[h,Int.mul_zero,Int.zero_emod]
 unfold zw8;rw[if_neg (zxp hu hr),hq]; rfl
end
end
end Go.Proofs.Ytkclhciahokifaa

namespace Go.Proofs.Ytkclhciahokifaa
open _root_.Go.Proofs.Try
open Go.Abs
set_option maxRecDepth 100000
noncomputable section
structure zxv (a:Mb):Prop where
 sum:1<=a.Sum/\a.Sum<=1000
 cls:1<=a.Class/\a.Class<=10
 most:0<=a.Most/\a.Most<=100000
def zxw(ms:List Mb):Prop:=ms.length<=5/\∀a∈ms,zxv a
def unN(a:Mb):Int:=a.Sum * a.Class
theorem zxx{a:Mb}(h:zxv a):1<=unN a/\unN a<=10000:=by
 have h1:=zw7 (a:=a.Sum) (x:=a.Class) (A:=1000) (X:=10) ⟨by have:=h.sum; omega,h.sum.2⟩ ⟨by have:=h.cls; omega,h.cls.2⟩;have h2:a.Sum * 1<=a.Sum * a.Class:=Int.mul_le_mul_of_nonneg_left h.cls.1 (by have:=h.sum; omega);have:=h.sum;unfold unN; omega
def uF(ms:List Mb)(sh:Nat->Bool):Nat->Int:=zwJ ms sh unN
def mF(ms:List Mb)(sh:Nat->Bool):Nat->Int:=zwJ ms sh (·.Most)
def zxy(sh:Nat->Bool):Bool:=(sh 0 == false) && ((sh 1 == false) && ((sh 2 == false) && ((sh 3 == false) && (sh 4 == false))))
def zxz(a b:Nat->Bool):Bool:=(a 0 == b 0) && ((a 1 == b 1) && ((a 2 == b 2) && ((a 3 == b 3) && (a 4 == b 4))))
def zxA(ms:List Mb)(sh:Nat->Bool):Prop:=∀i,sh i=true->i < ms.length
def roundsN(ms:List Mb):Nat->(Nat->Bool)->Int->(Nat->Int)->(Nat->Int) × Int
 | 0,_,N,c=>(c,N)
 | d+1,sh,N,c=>if zxy sh=true then (c,N) else
   if zxz (zwL ms sh (zw8 N (uF ms sh))) sh=true then (fun i=>c i+zw8 N (uF ms sh) i,0) else
    roundsN ms d (zwL ms sh (zw8 N (uF ms sh))) (N - S5 (mF ms fun i=>sh i && !zwL ms sh (zw8 N (uF ms sh)) i)) (fun i=>c i+mF ms (fun i=>sh i && !zwL ms sh (zw8 N (uF ms sh)) i) i)
def cF(sh:Nat->Bool):Nat:=(sh 0).toNat+(sh 1).toNat+(sh 2).toNat+(sh 3).toNat+(sh 4).toNat
theorem zxB{sh:Nat->Bool}:zxy sh=true↔∀i,i < 5->sh i=false:=by
 unfold zxy
 simp only[Bool.and_eq_true,beq_iff_eq]
 constructor
 ·rintro⟨h0,h1,h2,h3,h4⟩ i hi
  match i,hi with
  | 0,_=>exact h0
  | 1,_=>exact h1
  | 2,_=>exact h2
  | 3,_=>exact h3
  | 4,_=>exact h4
 ·intro h; exact⟨h 0 (by omega),h 1 (by omega),h 2 (by omega),h 3 (by omega),h 4 (by omega)⟩
theorem zxC{a b:Nat->Bool}:zxz a b=true↔∀i,i < 5->a i=b i:=by
 unfold zxz
 simp only[Bool.and_eq_true,beq_iff_eq]
 constructor
 ·rintro⟨h0,h1,h2,h3,h4⟩ i hi
  match i,hi with
  | 0,_=>exact h0
  | 1,_=>exact h1
  | 2,_=>exact h2
  | 3,_=>exact h3
  | 4,_=>exact h4
 ·intro h; exact⟨h 0 (by omega),h 1 (by omega),h 2 (by omega),h 3 (by omega),h 4 (by omega)⟩
theorem zxD{ms:List Mb}{sh:Nat->Bool}{p:Nat->Int}{i:Nat}(h:zwL ms sh p i=true):sh i=true:=by
 unfold zwL at h
 cases hm:ms[i]? with
 | none=>rw[hm] at h; exact h
 | some a=>rw[hm] at h; exact(Bool.and_eq_true _ _ ▸ h).1
theorem zxE{ms:List Mb}{sh:Nat->Bool}{p:Nat->Int}{i:Nat}{a:Mb}(hm:ms[i]? = some a):zwL ms sh p i=(sh i && decide (p i<=a.Most)):=by unfold zwL; rw[hm]
theorem zxF{ms:List Mb}{sh:Nat->Bool}{p:Nat->Int}(h:¬ zxz (zwL ms sh p) sh=true):cF (zwL ms sh p) < cF sh:=by
 have hle:∀i,(zwL ms sh p i).toNat<=(sh i).toNat:=fun i=>by
  cases ha:zwL ms sh p i with
  | false=>exact Nat.zero_le _
  | true=>rw[zxD ha]; exact Nat.le_refl _
 have hne:∃i,i < 5/\(zwL ms sh p i).toNat ≠ (sh i).toNat:=by
  apply Classical.byContradiction
  intro hn;refine h (zxC.2 fun i hi=>?_)
  apply Classical.byContradiction
  intro h2;refine hn ⟨i,hi,fun h3=>h2 ?_⟩
  revert h3; cases zwL ms sh p i <;> cases sh i <;> decide
 obtain⟨i,hi,h2⟩:=hne;have l0:=hle 0; have l1:=hle 1; have l2:=hle 2; have l3:=hle 3; have l4:=hle 4;unfold cF
 match i,hi with
 | 0,_=>omega
 | 1,_=>omega
 | 2,_=>omega
 | 3,_=>omega
 | 4,_=>omega
theorem zxG{ms:List Mb}{sh:Nat->Bool}{num:Mb->Int}{i:Nat}(h:sh i=false):zwJ ms sh num i=0:=by
 unfold zwJ
 cases ms[i]? with
 | none=>rfl
 | some a=>show(if sh i=true then num a else 0)=0; rw[h]; rfl
theorem zxH{ms:List Mb}{sh:Nat->Bool}{num:Mb->Int}{i:Nat}{a:Mb}(hm:ms[i]? = some a)(h:sh i=true):zwJ ms sh num i=num a:=by
 unfold zwJ; rw[hm]; show(if sh i=true then num a else 0)=_; rw[h,if_pos rfl]
theorem zxI{ms:List Mb}(hms:zxw ms)(sh:Nat->Bool)(i:Nat):0<=uF ms sh i/\uF ms sh i<=10000:=by
 unfold uF
 cases hs:sh i with
 | false=>rw[zxG hs]; omega
 | true=>
  cases hm:ms[i]? with
  | none=>unfold zwJ; rw[hm]; show(0:Int)<=0/\(0:Int)<=_; omega
  | some a=>rw[zxH hm hs]; have:=zxx (hms.2 a (List.mem_of_getElem? hm)); omega
theorem zxJ{ms:List Mb}(hms:zxw ms){sh:Nat->Bool}(hs:zxA ms sh)(hn:¬ zxy sh=true):UOk (uF ms sh):=by
 have hb:=zxI hms sh;refine⟨fun i _=>by have:=hb i; omega,?_⟩
 obtain⟨i,hi,hsi⟩:∃i,i < 5/\sh i=true:=by
  apply Classical.byContradiction
  intro h;refine hn (zxB.2 fun i hi=>?_)
  cases hq:sh i with
  | false=>rfl
  | true=>exact absurd ⟨i,hi,hq⟩ h
 have hl:=hs i hsi
 have h1:1<=uF ms sh i:=by unfold uF; rw[zxH (List.getElem?_eq_getElem hl) hsi]; exact(zxx (hms.2 _ (List.getElem_mem hl))).1
 have b0:=hb 0; have b1:=hb 1; have b2:=hb 2; have b3:=hb 3; have b4:=hb 4;unfold S5
 match i,hi with
 | 0,_=>omega
 | 1,_=>omega
 | 2,_=>omega
 | 3,_=>omega
 | 4,_=>omega
structure RI (ms:List Mb) (sh:Nat->Bool) (N:Int) (c:Nat->Int):Prop where
 sup:zxA ms sh
 nn:0<=N/\N<=1000000
 cb:∀i,i < 5->0<=c i/\c i<=1000000
 c0:∀i,sh i=true->c i=0
section
variable {ms:List Mb} {sh:Nat->Bool} {N:Int} {c:Nat->Int}
theorem zxK(p:Nat->Int){i:Nat}:(sh i && !zwL ms sh p i)=true↔sh i=true/\∃a,ms[i]? = some a/\a.Most < p i:=by
 cases hm:ms[i]? with
 | none=>unfold zwL; rw[hm]; cases sh i <;> simp
 | some a=>
  rw[zxE hm]
  cases sh i with
  | false=>simp
  | true=>simp
theorem zxL(hms:zxw ms)(hs:zxA ms sh)(hn:¬ zxy sh=true)(hN:0<=N){i:Nat}(hi:i < 5) :
  0<=mF ms (fun i=>sh i && !zwL ms sh (zw8 N (uF ms sh)) i) i/\mF ms (fun i=>sh i && !zwL ms sh (zw8 N (uF ms sh)) i) i<=qN N (uF ms sh) i:=by
 have hu:=zxJ hms hs hn;have hq:=zw9 hu hN hi;unfold mF
 cases ho:(sh i && !zwL ms sh (zw8 N (uF ms sh)) i) with
 | false=>rw[zxG (by exact ho)]; omega
 | true=>
  obtain⟨h1,a,h2,h3⟩:=(zxK _).1 ho;have hb:=(hms.2 a (List.mem_of_getElem? h2)).most;have hp:=zxr N (uF ms sh) i;rw[zxH h2 (by exact ho)]; omega
theorem RI.next(hms:zxw ms)(h:RI ms sh N c)(hn:¬ zxy sh=true):RI ms (zwL ms sh (zw8 N (uF ms sh))) (N - S5 (mF ms fun i=>sh i && !zwL ms sh (zw8 N (uF ms sh)) i)) (fun i=>c i+mF ms (fun i=>sh i && !zwL ms sh (zw8 N (uF ms sh)) i) i):=by
 have hu:=zxJ hms h.sup hn;have hm:=fun i (hi:i < 5)=>zxL hms h.sup hn h.nn.1 hi
 have hs:S5 (mF ms fun i=>sh i && !zwL ms sh (zw8 N (uF ms sh)) i)<=S5 (zw8 N (uF ms sh)):=zxf fun i hi=>by have:=hm i hi; have:=zxr N (uF ms sh) i; omega
 rw[zxq hu] at hs
 have hs0:0<=S5 (mF ms fun i=>sh i && !zwL ms sh (zw8 N (uF ms sh)) i):=by
  have:=hm 0 (by omega); have:=hm 1 (by omega); have:=hm 2 (by omega); have:=hm 3 (by omega); have:=hm 4 (by omega);unfold S5; omega
 have hnn:=h.nn;refine⟨fun i hi=>h.sup i (zxD hi),by omega,fun i hi=>?_,fun i hi=>?_⟩
 ·have h1:=hm i hi;have h2:=h.cb i hi
  have h3:mF ms (fun i=>sh i && !zwL ms sh (zw8 N (uF ms sh)) i) i<=N:=by have:=zw9 hu h.nn.1 hi; omega
  show 0<=c i+_/\c i+_<=_
  cases ho:(sh i && !zwL ms sh (zw8 N (uF ms sh)) i) with
  | false=>
   have e:mF ms (fun i=>sh i && !zwL ms sh (zw8 N (uF ms sh)) i) i=0:=zxG (by exact ho);rw[e]; omega
  | true=>
   have hc:=h.c0 i ((zxK _).1 ho).1;rw[hc]; omega
 ·have h1:=zxD hi
  show c i+_=0
  have e:mF ms (fun i=>sh i && !zwL ms sh (zw8 N (uF ms sh)) i) i=0:=zxG (by show(sh i && !zwL ms sh _ i)=false; rw[hi]; simp);rw[h.c0 i h1,e]; rfl
theorem zxM{w:Wk}(hms:zxw w.s.Members):ztD w (mkF sh)=some (mk5 (uF w.s.Members sh)):=by
 unfold ztD;rw[zwK (num:=unN) (fun a ha=>?_) hms.1,obs]; rfl;have h:=hms.2 a ha;have:=h.sum; have:=h.cls;have hb:=zxx h;unfold unN at hb
 show ztz a=some (unN a)
 unfold ztz unN;rw[zqr (by omega),zqr (by omega),zqr (fI (by omega))]
theorem zxN{w:Wk}(hms:zxw w.s.Members):ztE w (mkF sh)=some (mk5 (mF w.s.Members sh)):=by
 unfold ztE;rw[zwK (number:=fun a=>ztA a) (num:=(·.Most)) (fun a _=>rfl) hms.1,obs]; rfl
theorem zxO{w:Wk}(hms:zxw w.s.Members)(need0:Int){need:Int}:∀(n D:Nat) (sh:Nat->Bool) (N:Int) (c:Nat->Int),RI w.s.Members sh N c->N+S5 c=need->need<=1000000->cF sh < n->cF sh < D ->
  ztH w need0 D need (c 0) (c 1) (c 2) (c 3) (c 4) (sh 0) (sh 1) (sh 2) (sh 3) (sh 4)=some { need:=need,calls:=mk5 (roundsN w.s.Members n sh N c).1 }
 | 0,_,_,_,_,_,_,_,h,_=>by omega
 | _+1,0,_,_,_,_,_,_,_,h=>by omega
 | n+1,D+1,sh,N,c,hr,hs,hneed,hn,hD=>by
  rw[ztH,roundsN]
  show(if zxy sh=true then _ else _)=_
  by_cases h0:zxy sh=true
  ·rw[if_pos h0,if_pos h0]; rfl
  ·rw[if_neg h0,if_neg h0];have hu:=zxJ hms hr.sup h0
   have hbc:Bd 1000000000000 c:=fun i hi=>by have:=hr.cb i hi; omega
   have hcb:=hr.cb;have hc0:=hcb 0 (by omega); have hc1:=hcb 1 (by omega); have hc2:=hcb 2 (by omega); have hc3:=hcb 3 (by omega); have hc4:=hcb 4 (by omega)
   have hsc:0<=S5 c/\S5 c<=5000000:=by unfold S5; omega
   have hNN:0<=N/\N<=1000000:=hr.nn
   have e1:ztx ({ need:=need,calls:=mk5 c }:Oc)=some N:=by
    unfold ztx
    show(ztm (mk5 c)).bind _=_
    rw[zwG hbc,obs,zqr (fI (by show -9223372036854775808<=need - S5 c/\need - S5 c < _; omega))];exact congrArg some (show need - S5 c=N by omega)
   show(ztx ({ need:=need,calls:=mk5 c }:Oc)).bind _=_
   rw[e1,obs]
   show(ztD w (mkF sh)).bind _=_
   rw[zxM hms,obs,zxc hu hNN,obs]
   show(ztG w (mkF sh) (mk5 (zw8 N (uF w.s.Members sh)))).bind _=_
   rw[zwM hms.1,obs]
   have hbp:Bd 1000000000000 (zw8 N (uF w.s.Members sh)):=fun i hi=>by have:=zxs hu hNN.1 hi; have:=zxt hu hNN.1 hi; omega
   show(if zxz (zwL w.s.Members sh (zw8 N (uF w.s.Members sh))) sh=true then _ else _)=_
   by_cases h1:zxz (zwL w.s.Members sh (zw8 N (uF w.s.Members sh))) sh=true
   ·rw[if_pos h1,if_pos h1]
    have e2:zty ({ need:=need,calls:=mk5 c }:Oc) (mk5 (zw8 N (uF w.s.Members sh)))=some { need:=need,calls:=mk5 fun i=>c i+zw8 N (uF w.s.Members sh) i }:=by
     unfold zty
     show(zto (mk5 c) _).bind _=_
     rw[zwH hbc hbp,obs]
    show(zty ({ need:=need,calls:=mk5 c }:Oc) _).bind _=_
    rw[e2,obs]
   ·rw[if_neg h1,if_neg h1]
    show(ztq (mkF sh) (mkF (zwL w.s.Members sh (zw8 N (uF w.s.Members sh))))).bind _=_
    rw[zwI,obs,zxN hms,obs];have hnext:=hr.next hms h0;have hm:=fun i (hi:i < 5)=>zxL hms hr.sup h0 hNN.1 hi
    have hbm:Bd 1000000000000 (mF w.s.Members fun i=>sh i && !zwL w.s.Members sh (zw8 N (uF w.s.Members sh)) i):=fun i hi=>by have:=hm i hi; have:=zw9 hu hNN.1 hi; omega
    have e2:zty ({ need:=need,calls:=mk5 c }:Oc) (mk5 (mF w.s.Members fun i=>sh i && !zwL w.s.Members sh (zw8 N (uF w.s.Members sh)) i))=some { need:=need,calls:=mk5 fun i=>c i+mF w.s.Members (fun i=>sh i && !zwL w.s.Members sh (zw8 N (uF w.s.Members sh)) i) i }:=by
     unfold zty
     show(zto (mk5 c) _).bind _=_
     rw[zwH hbc hbm,obs]
    show(zty ({ need:=need,calls:=mk5 c }:Oc) _).bind _=_
    rw[e2,obs];have hless:=zxF h1;have e3:S5 (fun i=>c i+mF w.s.Members (fun i=>sh i && !zwL w.s.Members sh (zw8 N (uF w.s.Members sh)) i) i)=S5 c+S5 (mF w.s.Members fun i=>sh i && !zwL w.s.Members sh (zw8 N (uF w.s.Members sh)) i):=zwQ _ _
    have e4:N - S5 (mF w.s.Members fun i=>sh i && !zwL w.s.Members sh (zw8 N (uF w.s.Members sh)) i)+S5 (fun i=>c i+mF w.s.Members (fun i=>sh i && !zwL w.s.Members sh (zw8 N (uF w.s.Members sh)) i) i)=need:=by rw[e3]; omega
    exact zxO hms need0 n D _ _ _ hnext e4 hneed (by omega) (by omega)
end
def zxP(ms:List Mb)(ask:Nat->Bool)(need:Int):(Nat->Int) × Int:=roundsN ms 6 ask need fun _=>0
theorem zxQ(sh:Nat->Bool):cF sh<=5:=by
 have h:∀b:Bool,b.toNat<=1:=fun b=>by cases b <;> decide
 have:=h (sh 0); have:=h (sh 1); have:=h (sh 2); have:=h (sh 3); have:=h (sh 4);unfold cF; omega
theorem zxR{w:Wk}(hms:zxw w.s.Members){ask:Nat->Bool}(ha:w.asked=mkF ask)(hsup:zxA w.s.Members ask){need:Int}(hn:0<=need/\need<=1000000):ztI w need=some { need:=need,calls:=mk5 (zxP w.s.Members ask need).1 }:=by
 unfold ztI;rw[ha];have hc:=zxQ ask;exact zxO hms need 6 1000000 ask need (fun _=>0) ⟨hsup,hn,fun _ _=>by omega,fun _ _=>rfl⟩ (by rw[zwR]; omega) hn.2 (by omega) (by omega)
end
end Go.Proofs.Ytkclhciahokifaa

namespace Go.Proofs.Ytkclhciahokifaa
open _root_.Go.Proofs.Try
open Go.Abs
set_option maxRecDepth 100000
noncomputable section
section
variable {ms:List Mb}
theorem zxS(hms:zxw ms):∀(n:Nat) (sh:Nat->Bool) (N:Int) (c:Nat->Int),RI ms sh N c->cF sh < n->S5 (roundsN ms n sh N c).1+(roundsN ms n sh N c).2=N+S5 c/\0<=(roundsN ms n sh N c).2
 | 0,_,_,_,_,h=>by omega
 | n+1,sh,N,c,hr,h=>by
  unfold roundsN
  by_cases h0:zxy sh=true
  ·rw[if_pos h0]; have:=hr.nn; exact⟨by show S5 c+N=_; omega,hr.nn.1⟩
  ·rw[if_neg h0];have hu:=zxJ hms hr.sup h0
   by_cases h1:zxz (zwL ms sh (zw8 N (uF ms sh))) sh=true
   ·rw[if_pos h1];have e:S5 (fun i=>c i+zw8 N (uF ms sh) i)=S5 c+S5 (zw8 N (uF ms sh)):=zwQ _ _;have hp:=zxq hu N;exact⟨by show S5 (fun i=>c i+zw8 N (uF ms sh) i)+0=_; omega,Int.le_refl _⟩
   ·rw[if_neg h1];have hless:=zxF h1;have ih:=zxS hms n _ _ _ (hr.next hms h0) (by omega);have e:S5 (fun i=>c i+mF ms (fun i=>sh i && !zwL ms sh (zw8 N (uF ms sh)) i) i)=S5 c+S5 (mF ms fun i=>sh i && !zwL ms sh (zw8 N (uF ms sh)) i):=zwQ _ _;rw[e] at ih;exact⟨by rw[ih.1]; omega,ih.2⟩
theorem zxT(hms:zxw ms):∀(n:Nat) (sh:Nat->Bool) (N:Int) (c:Nat->Int),RI ms sh N c->cF sh < n->∀i,i < 5->sh i=false->(roundsN ms n sh N c).1 i=c i
 | 0,_,_,_,_,h=>by omega
 | n+1,sh,N,c,hr,h=>fun i hi hs=>by
  unfold roundsN
  by_cases h0:zxy sh=true
  ·rw[if_pos h0]
  ·rw[if_neg h0];have hu:=zxJ hms hr.sup h0
   by_cases h1:zxz (zwL ms sh (zw8 N (uF ms sh))) sh=true
   ·rw[if_pos h1]
    show c i+_=_
    rw[zxu hu (show uF ms sh i=0 from zxG hs),Int.add_zero]
   ·rw[if_neg h1];have hless:=zxF h1
    have ha:zwL ms sh (zw8 N (uF ms sh)) i=false:=by
     cases hq:zwL ms sh (zw8 N (uF ms sh)) i with
     | false=>rfl
     | true=>rw[zxD hq] at hs; cases hs
    rw[zxT hms n _ _ _ (hr.next hms h0) (by omega) i hi ha];have e:mF ms (fun i=>sh i && !zwL ms sh (zw8 N (uF ms sh)) i) i=0:=zxG (by show(sh i && _)=false; rw[hs]; rfl);rw[e,Int.add_zero]
theorem zxU(hms:zxw ms):∀(n:Nat) (sh:Nat->Bool) (N:Int) (c:Nat->Int),RI ms sh N c->cF sh < n->∀i a,i < 5->ms[i]? = some a->sh i=true->(0<=(roundsN ms n sh N c).1 i/\(roundsN ms n sh N c).1 i<=a.Most)/\(0 < (roundsN ms n sh N c).2->(roundsN ms n sh N c).1 i=a.Most)
 | 0,_,_,_,_,h=>by omega
 | n+1,sh,N,c,hr,h=>fun i a hi hm hs=>by
  unfold roundsN
  by_cases h0:zxy sh=true
  ·have:=zxB.1 h0 i hi; rw[hs] at this; cases this
  ·rw[if_neg h0];have hu:=zxJ hms hr.sup h0;have hc:=hr.c0 i hs;have hp:=zxs hu hr.nn.1 hi
   by_cases h1:zxz (zwL ms sh (zw8 N (uF ms sh))) sh=true
   ·rw[if_pos h1];have h2:=zxC.1 h1 i hi;rw[zxE hm,hs,Bool.true_and] at h2;have h3:zw8 N (uF ms sh) i<=a.Most:=of_decide_eq_true h2;exact⟨by show 0<=c i+_/\c i+_<=_; omega,fun h=>absurd h (Int.lt_irrefl _)⟩
   ·rw[if_neg h1];have hless:=zxF h1
    cases hq:zwL ms sh (zw8 N (uF ms sh)) i with
    | true=>exact zxU hms n _ _ _ (hr.next hms h0) (by omega) i a hi hm hq
    | false=>
     rw[zxT hms n _ _ _ (hr.next hms h0) (by omega) i hi hq];have e:mF ms (fun i=>sh i && !zwL ms sh (zw8 N (uF ms sh)) i) i=a.Most:=zxH hm (by show(sh i && !zwL ms sh _ i)=true; rw[hs,hq]; rfl);have hb:=(hms.2 a (List.mem_of_getElem? hm)).most;rw[e,hc];exact⟨by omega,fun _=>by omega⟩
end
section
variable {ms:List Mb} {ask:Nat->Bool} {N:Int}
theorem RI0(hs:zxA ms ask)(hN:0<=N/\N<=1000000):RI ms ask N fun _=>0:=⟨hs,hN,fun _ _=>by omega,fun _ _=>rfl⟩
theorem zxV(hms:zxw ms)(hs:zxA ms ask)(hN:0<=N/\N<=1000000):S5 (zxP ms ask N).1+(zxP ms ask N).2=N/\0<=(zxP ms ask N).2:=by
 have:=zxQ ask;have h:=zxS hms 6 ask N (fun _=>0) (RI0 hs hN) (by omega);rw[zwR] at h;exact⟨by rw[Int.add_zero] at h; exact h.1,h.2⟩
theorem zxW(hms:zxw ms)(hs:zxA ms ask)(hN:0<=N/\N<=1000000){i:Nat}(hi:i < 5)(ha:ask i=false):(zxP ms ask N).1 i=0:=by
 have:=zxQ ask;exact zxT hms 6 ask N (fun _=>0) (RI0 hs hN) (by omega) i hi ha
theorem zxX(hms:zxw ms)(hs:zxA ms ask)(hN:0<=N/\N<=1000000){i:Nat}{a:Mb}(hi:i < 5)(hm:ms[i]? = some a)(ha:ask i=true):(0<=(zxP ms ask N).1 i/\(zxP ms ask N).1 i<=a.Most)/\(0 < (zxP ms ask N).2->(zxP ms ask N).1 i=a.Most):=by
 have:=zxQ ask;exact zxU hms 6 ask N (fun _=>0) (RI0 hs hN) (by omega) i a hi hm ha
theorem zxY(hms:zxw ms)(hs:zxA ms ask)(hN:0<=N/\N<=1000000){i:Nat}(hi:i < 5):0<=(zxP ms ask N).1 i/\(zxP ms ask N).1 i<=100000:=by
 cases ha:ask i with
 | false=>rw[zxW hms hs hN hi ha]; omega
 | true=>
  have hm:=List.getElem?_eq_getElem (hs i ha);have h:=zxX hms hs hN hi hm ha;have hb:=(hms.2 _ (List.getElem_mem (hs i ha))).most
  omega
end
end
end Go.Proofs.Ytkclhciahokifaa

namespace Go.Proofs.Ytkclhciahokifaa
open _root_.Go.Proofs.Try
open Go.Abs
set_option maxRecDepth 100000
noncomputable section
def RgV(r:Rg):Prop:=0<=r.Lo/\r.Lo<=r.Hi/\r.Hi<=100000/\r.Hi - r.Lo<=30
instance (r:Rg):Decidable (RgV r):=by unfold RgV; infer_instance
structure zxZ (s:Soc):Prop where
 pos:0 < s.Members.length
 ms:∀a∈s.Members,zxv a
 ls:∀r∈s.Losses,RgV r
 tr:RgV s.Treaty
 rs:0<=s.Reserve/\s.Reserve<=100000
structure zx0 (s:Soc):Prop where
 m5:s.Members.length<=5
 l3:s.Losses.length<=3
 full:zxZ s
theorem zx0.msOk{s:Soc}(h:zx0 s):zxw s.Members:=⟨h.m5,h.full.ms⟩
open Classical in
def zx1(s:Soc):Int:=if 5 < s.Members.length\/3 < s.Losses.length then 3 else if zxZ s then 0 else 1
theorem zx2{s:Soc}:zx1 s=0↔zx0 s:=by
 unfold zx1
 by_cases h:5 < s.Members.length\/3 < s.Losses.length
 ·rw[if_pos h]; exact⟨fun h=>by omega,fun h2=>by have:=h2.m5; have:=h2.l3; omega⟩
 ·rw[if_neg h]
  by_cases hf:zxZ s
  ·rw[if_pos hf]; exact⟨fun _=>⟨by omega,by omega,hf⟩,fun _=>rfl⟩
  ·rw[if_neg hf]; exact⟨fun h=>by omega,fun h=>absurd h.full hf⟩
theorem zx3{r:Rg}{n:Int}:Ev (zsG r n) (r.Lo<=n/\n<=r.Hi):=Ev.ite fun _=>Ev.dec Iff.rfl
theorem zx4{n:Int}:Ev (zsH n) (0<=n/\n<=100000):=zx3.ret
theorem zx5{r:Rg}:Ev (zsI r) (RgV r):=by
 refine(zx4.and fun h1=>zx4.and fun h2=>Ev.ite (K:=r.Hi - r.Lo<=30) fun _=>Ev.gd (fI (by omega)) (Ev.dec Iff.rfl)).imp ?_;unfold RgV; omega
theorem zx6{a:Mb}:Ev (zsJ ({ su:=({ Lo:=(1:Int),Hi:=(1000:Int) }:Rg),cl:=({ Lo:=(1:Int),Hi:=(10:Int) }:Rg),mo:=({ Lo:=(0:Int),Hi:=(100000:Int) }:Rg) }:Lm) a) (zxv a):=
 (zx3.and fun _=>zx3.and fun _=>zx3.ret).imp ⟨fun⟨h1,h2,h3⟩=>⟨h1,h2,h3⟩,fun⟨h1,h2,h3⟩=>⟨h1,h2,h3⟩⟩
theorem gM{l:List Mb}{p:Mb->Option Bool}:∀{d:Nat} {x:Int},zsL l p d x=gIdx l p d x
 | 0,_=>rfl
 | d+1,x=>by unfold zsL gIdx; simp only[gM]
theorem gR{l:List Rg}{p:Rg->Option Bool}:∀{d:Nat} {x:Int},zsQ l p d x=gIdx l p d x
 | 0,_=>rfl
 | d+1,x=>by unfold zsQ gIdx; simp only[gR]
theorem gI{l:List Int}{p:Int->Option Bool}:∀{d:Nat} {x:Int},zsV l p d x=gIdx l p d x
 | 0,_=>rfl
 | d+1,x=>by unfold zsV gIdx; simp only[gI]
theorem zx7{s:Soc}(h1:zrP s.Members)(h2:zrP s.Losses):Ev (zs2 s) (zxZ s):=by
 refine(Ev.ite fun _=>(Ev.each (q:=zxv) (fun a _=>zx6) h1.lt gM).and fun _=>(Ev.each (q:=RgV) (fun a _=>zx5) h2.lt gR).and fun _=>zx5.and fun _=>zx4.ret).imp ?_;exact⟨fun⟨a,b,c,d,e⟩=>⟨by omega,b,c,d,e⟩,fun⟨a,b,c,d,e⟩=>⟨by omega,b,c,d,e⟩⟩
theorem zx8{s:Soc}:Ev (zs1 s) (5 < s.Members.length\/3 < s.Losses.length):=by
 unfold zs1
 by_cases h:(5:Int) < s.Members.length
 ·rw[if_pos h]; exact Ev.tt (by omega)
 ·rw[if_neg h]; exact Ev.dec (by omega)
theorem zx9{s:Soc}(h1:zrP s.Members)(h2:zrP s.Losses):zs3 s=some (zx1 s):=by
 unfold zs3 zx1;refine zx8.pick (fun h=>?_) fun h=>?_
 ·rw[if_pos rfl,if_pos h]
 ·rw[if_neg (by decide),if_neg h];refine(zx7 h1 h2).pick (fun h=>?_) fun h=>?_
  ·rw[if_pos rfl,if_pos h]
  ·rw[if_neg (by decide),if_neg h]
theorem zya{n lo hi:Int}:Ev (zsd n lo hi) (lo<=n/\n<=hi):=Ev.ite fun _=>Ev.dec Iff.rfl
theorem zyb{r:Rg}:Ev (zse r) (RgV r):=Ev.ite fun h1=>Ev.ite fun h2=>Ev.ite fun h3=>Ev.gd (fI (by omega)) (Ev.dec Iff.rfl)
theorem zyc{s:Soc}(h1:s.Members.length<=8)(h2:s.Losses.length<=6):zsg s=some (zx1 s):=by
 unfold zsg zx1
 by_cases c1:5 < s.Members.length
 ·rw[if_pos (by omega),if_pos (.inl c1)]
 rw[if_neg (by omega)]
 by_cases c2:3 < s.Losses.length
 ·rw[if_pos (by omega),if_pos (.inr c2)]
 rw[if_neg (show ¬ (3:Int) < s.Losses.length by omega),if_neg (show ¬ (5 < s.Members.length\/3 < s.Losses.length) by omega)]
 by_cases c3:s.Members.length=0
 ·rw[if_pos (by omega),if_neg fun h:zxZ s=>by have:=h.pos; omega]
 rw[if_neg (show ¬ (s.Members.length:Int)=0 by omega)]
 refine zyb.pick (fun c4=>?_) fun c4=>by rw[if_neg (by decide),if_neg fun h=>c4 h.tr]
 rw[if_pos rfl]
 refine zya.pick (fun c5=>?_) fun c5=>by rw[if_neg (by decide),if_neg fun h=>c5 h.rs]
 rw[if_pos rfl]
 have kL:=zrO (l:=s.Losses) (F:=fun d x=>prFault_L1 s d x) (ok:=RgV) (bad:=some 1) (fin:=some 0) (fun d k a hk=>by
  have hkl:=(List.getElem?_eq_some_iff.1 hk).1
  show(RgV a->prFault_L1 s (d+1) (k:Int)=_)/\_
  rw[prFault_L1,if_pos (by omega),zrF hk,obs]
  exact Ev.step zyb (by rw[if_pos rfl,zqr (fI (by omega))]) (by rw[if_neg (by decide)])) (fun d=>by show prFault_L1 s (d+1) _=_; rw[prFault_L1,if_neg (Int.lt_irrefl _)]) (d:=1000000) (by omega)
 have kM:=zrO (l:=s.Members) (F:=fun d x=>zsf s d 0 x) (ok:=zxv) (bad:=some 1) (fin:=prFault_L1 s 1000000 0) (fun d k a hk=>by
  have hkl:=(List.getElem?_eq_some_iff.1 hk).1
  show(zxv a->zsf s (d+1) 0 (k:Int)=_)/\_
  rw[zsf,if_pos (by omega),zrF hk,obs];refine⟨fun h=>?_,fun h=>?_⟩
  ·rw[zya.some_of h.sum,obs,if_pos rfl,zya.some_of h.cls,obs,if_pos rfl,zya.some_of h.most,obs,if_pos rfl,zqr (fI (by omega))]
  ·refine zya.pick (fun q1=>?_) fun q1=>by rw[if_neg (by decide)]
   rw[if_pos rfl]
   refine zya.pick (fun q2=>?_) fun q2=>by rw[if_neg (by decide)]
   rw[if_pos rfl]
   refine zya.pick (fun q3=>absurd ⟨q1,q2,q3⟩ h) fun q3=>by rw[if_neg (by decide)]) (fun d=>by show zsf s (d+1) 0 _=_; rw[zsf,if_neg (Int.lt_irrefl _)]) (d:=1000000) (by omega)
 by_cases c6:∀a∈s.Members,zxv a
 ·refine(kM.1 c6).trans ?_
  by_cases c7:∀r∈s.Losses,RgV r
  ·refine(kL.1 c7).trans ?_;rw[if_pos ⟨by omega,c6,c7,c4,c5⟩]
  ·refine(kL.2 c7).trans ?_;rw[if_neg fun h=>c7 h.ls]
 ·refine(kM.2 c6).trans ?_;rw[if_neg fun h=>c6 h.ms]
theorem zyd{s:Soc}(h1:s.Members.length<=8)(h2:s.Losses.length<=6):zuc s=some (zx1 s):=by unfold zuc; rw[zyc h1 h2]; rfl
def zye(n:Nat)(out:List Int):Nat->Bool:=fun i=>decide (i < n) && !decide ((i:Int)∈out)
def zyf(s:Soc)(out:List Int):Wk:={ s:=s,asked:=mkF (zye s.Members.length out) }
theorem zyg(ms:List Mb)(out:List Int):zxA ms (zye ms.length out):=fun i h=>by
 unfold zye at h
 simp at h; exact h.1
theorem zyh{l:List Int}{v:Int}(hl:zrP l):∀d (k:Nat),k<=l.length->l.length - k < d->∃r,zs8 l v d (k:Int)=some r/\(0<=r↔v∈l.drop k)
 | 0,k,_,h=>by omega
 | d+1,k,hk,h=>by
  unfold zrP at hl;unfold zs8
  by_cases hkn:k=l.length
  ·subst hkn; rw[if_neg (Int.lt_irrefl _)]; exact⟨_,rfl,by simp⟩
  ·have hlt:k < l.length:=by omega
   rw[if_pos (by omega),zrF (List.getElem?_eq_getElem hlt),obs];have hd:=List.drop_eq_getElem_cons hlt
   by_cases hv:v=l[k]
   ·rw[if_pos hv]; exact⟨_,rfl,⟨fun _=>by rw[hd,<- hv]; exact List.mem_cons_self ..,fun _=>by omega⟩⟩
   ·rw[if_neg hv,zqr (fI (by omega)),show(k:Int)+1=((k+1:Nat):Int) by omega];obtain⟨r,h1,h2⟩:=zyh hl d (k+1) (by omega) (by omega);exact⟨r,h1,h2.trans ⟨fun h=>by rw[hd]; exact List.mem_cons_of_mem _ h,fun h=>by rw[hd] at h; exact(List.mem_cons.1 h).resolve_left hv⟩⟩
theorem zyi{l:List Int}{v:Int}(hl:zrP l):zta l v=some (decide (v∈l)):=by
 unfold zta zs9;obtain⟨r,h1,h2⟩:=zyh (v:=v) hl (l.length+1) 0 (Nat.zero_le _) (by omega);have h1:zs8 l v (l.length+1) 0=some r:=h1;rw[h1,obs];exact congrArg some (decide_eq_decide.2 (h2.trans (by rw[List.drop_zero])))
theorem zyj{s:Soc}{out:List Int}(hl:zrP out)(h5:s.Members.length<=5):ztc s out=some (zyf s out):=by
 unfold ztc;have key:=zww (n:=s.Members.length) (fun d st x=>ztb s out d s.Treaty.Lo s.Treaty.Hi s.Reserve (st 0) (st 1) (st 2) (st 3) (st 4) x) (stF (zye s.Members.length out) fun _=>false) (fin:=some (zyf s out)) (fun d k hk=>?_) (fun d=>?_) (s.Members.length+1) 0 (by omega) (by omega)
 ·rw[zwA] at key; exact key
 ·show ztb s out (d+1) _ _ _ _ _ _ _ _ _=_
  rw[ztb,if_pos (by omega),zyi hl,obs,zqr (by omega),zqr (fI (by omega))];have e:=zwD (zye s.Members.length out) (fun _=>false) k
  have e0:(!decide ((k:Int)∈out))=zye s.Members.length out k:=by unfold zye; rw[decide_eq_true hk,Bool.true_and]
  rw[e0,e 0,e 1,e 2,e 3,e 4]
 ·show ztb s out (d+1) _ _ _ _ _ _ _ _ _=_
  rw[ztb,if_neg (by omega)]
  have e1:∀j,stF (zye s.Members.length out) (fun _=>false) s.Members.length j=zye s.Members.length out j:=fun j=>by
   unfold stF
   by_cases h:j < s.Members.length
   ·rw[if_pos h]
   ·rw[if_neg h]; unfold zye; rw[decide_eq_false h]; rfl
  rw[e1 0,e1 1,e1 2,e1 3,e1 4]; rfl
def zyk(n:Nat)(l:List Int):Prop:=l.Pairwise (· < ·)/\∀v∈l,0<=v/\v<=(n:Int) - 1
theorem zyl{l:List Int}:(∀j,0 < j->j < l.length->∀a b,l[j - 1]? = some a->l[j]? = some b->a < b)↔l.Pairwise (· < ·):=by
 constructor
 ·intro h;rw[List.pairwise_iff_getElem];intro i j hi hj hij
  have key:∀d,(hd:i+d+1 < l.length)->l[i] < l[i+d+1]:=fun d=>by
   induction d with
   | zero=>intro hd; exact h (i+1) (by omega) hd _ _ (List.getElem?_eq_getElem hi) (List.getElem?_eq_getElem hd)
   | succ d ih=>
    intro hd;have h1:=ih (by omega);have h2:=h (i+(d+1)+1) (by omega) hd _ _ (List.getElem?_eq_getElem (show i+d+1 < l.length by omega)) (List.getElem?_eq_getElem hd);exact Int.lt_trans h1 h2
  have:=key (j - i - 1) (by omega)
  simpa [show i+(j - i - 1)+1=j by omega] using this
 ·intro h j h0 hj a b ha hb;obtain⟨h1,rfl⟩:=List.getElem?_eq_some_iff.1 ha;obtain⟨h2,rfl⟩:=List.getElem?_eq_some_iff.1 hb;exact List.pairwise_iff_getElem.1 h (j - 1) j h1 h2 (by omega)
theorem zym{l:List Int}(hl:zrP l):Ev (zs0 l) (l.Pairwise (· < ·)):=by
 unfold zrP at hl;unfold zs0
 by_cases h0:l.length=0
 ·have:l=[]:=List.eq_nil_of_length_eq_zero h0;subst this
  show Ev (zsZ [] 1 1) _
  rw[zsZ,if_neg (by decide)];exact Ev.tt .nil
 ·have e:∃n,l.length=n+1:=⟨l.length - 1,by omega⟩;obtain⟨n,hn⟩:=e
  have key:=zrJ (n:=n) (F:=fun d x=>zsZ l d (x+1)) (ok:=fun j=>∀a b,l[j]? = some a->l[j+1]? = some b->a < b) (bad:=some false) (fin:=some true) (fun d k hk=>by
   show(_->zsZ l (d+1) ((k:Int)+1)=_)/\_
   have ha:=List.getElem?_eq_getElem (show k < l.length by omega);have hb:=List.getElem?_eq_getElem (show k+1 < l.length by omega);rw[zsZ,if_pos (by omega),zrG (show(k:Int)+1=((k+1:Nat):Int) by omega) (show k+1 < l.length by omega),obs,zqr (fI (by omega)),zrG (show(k:Int)+1 - 1=(k:Int) by omega) (show k < l.length by omega),obs];refine⟨fun h=>?_,fun h=>?_⟩
   ·have:=h _ _ ha hb;rw[if_neg (by omega),zqr (fI (by omega))]
   ·rw[if_pos]
    apply Classical.byContradiction
    intro h2
    exact h fun a b h3 h4=>by rw[ha] at h3; rw[hb] at h4; cases h3; cases h4; omega) (fun d=>by show zsZ l (d+1) _=_; rw[zsZ,if_neg (by omega)]) (d:=((l.length:Int) - 1).toNat+1) (by omega)
  have e0:zsZ l (((l.length:Int) - 1).toNat+1) (0+1)=zsZ l (((l.length:Int) - 1).toNat+1) 1:=rfl
  have hiff:(∀j,j < n->∀a b,l[j]? = some a->l[j+1]? = some b->a < b)↔l.Pairwise (· < ·):=by
   rw[<- zyl]
   constructor
   ·intro h j h0 hj a b h1 h2;have:=h (j - 1) (by omega) a b h1;rw[show j - 1+1=j by omega] at this;exact this h2
   ·intro h j hj a b h1 h2;exact h (j+1) (by omega) (by omega) a b (by rw[Nat.add_sub_cancel]; exact h1) h2
  by_cases hq:∀j,j < n->∀a b,l[j]? = some a->l[j+1]? = some b->a < b
  ·have:=key.1 hq;exact⟨true,this,⟨fun _=>hiff.1 hq,fun _=>rfl⟩⟩
  ·have:=key.2 hq;exact⟨false,this,⟨fun h=>(by cases h),fun h=>absurd (hiff.2 h) hq⟩⟩
theorem zyn{s:Soc}{l:List Int}(hl:zrP l)(hm:zrP s.Members):Ev (zs7 s l) (zyk s.Members.length l):=by
 unfold zrP at hm;refine((zym hl).and fun _=>(Ev.each (q:=fun v=>0<=v/\v<=(s.Members.length:Int) - 1) (fun v _=>?_) hl.lt gI).ret).imp Iff.rfl;exact Ev.gd (fI (by omega)) zx3.ret
theorem zyo{s:Soc}{out:List Int}(hs:zx0 s)(hl:zrP out)(ho:zyk s.Members.length out):ztd s out=some (zyf s out,0):=by
 have h1:=hs.m5; have h2:=hs.l3;unfold ztd;rw[zx9 (by unfold zrP; omega) (by unfold zrP; omega),obs,if_pos (zx2.2 hs),(zyn hl (by unfold zrP; omega)).some_of ho,obs,if_pos rfl,zyj hl h1,obs]
theorem zyp(n:Nat):zyk n []:=⟨.nil,fun _ h=>by cases h⟩
def zyq(lo hi:Int):List Int:=(List.range (hi - lo+1).toNat).map fun(k:Nat)=>lo+(k:Int)
theorem zyr{lo hi x:Int}:x∈zyq lo hi↔lo<=x/\x<=hi:=by
 unfold zyq;rw[List.mem_map]
 constructor
 ·rintro⟨k,h1,rfl⟩
  have:=List.mem_range.1 h1
  omega
 ·intro h; exact⟨(x - lo).toNat,List.mem_range.2 (by omega),by omega⟩
def zys(g:Rg->Int)(l:List Rg):Int:=zwO (l.map g)
theorem zyt{l:List Rg}(h:∀r∈l,RgV r):0<=zys (·.Lo) l/\zys (·.Lo) l<=zys (·.Hi) l/\zys (·.Hi) l<=100000 * l.length/\zys (·.Hi) l<=zys (·.Lo) l+30 * l.length:=by
 induction l with
 | nil=>exact⟨Int.le_refl _,Int.le_refl _,Int.le_refl _,Int.le_refl _⟩
 | cons r l ih=>
  have ih:=ih fun r hr=>h r (List.mem_cons_of_mem _ hr);have hr:=h r (List.mem_cons_self ..);unfold RgV at hr;have e1:zys (·.Lo) (r::l)=r.Lo+zys (·.Lo) l:=rfl;have e2:zys (·.Hi) (r::l)=r.Hi+zys (·.Hi) l:=rfl;rw[e1,e2,List.length_cons]
  omega
def loN(s:Soc):Int:=max 0 (zys (·.Lo) s.Losses - s.Reserve - s.Treaty.Hi)
def hiN(s:Soc):Int:=max 0 (zys (·.Hi) s.Losses - s.Reserve - s.Treaty.Lo)
theorem zyu{s:Soc}(hs:zx0 s):0<=loN s/\loN s<=hiN s/\hiN s<=300000/\hiN s<=loN s+120:=by
 have h:=zyt hs.full.ls;have h1:=hs.l3;have h2:=hs.full.tr;have h3:=hs.full.rs;unfold RgV at h2;unfold loN hiN
 omega
theorem zyv{g:Rg->Int}{l:List Rg}{k:Nat}{a:Rg}(h:l[k]? = some a):zys g (l.take (k+1))=zys g (l.take k)+g a:=by
 unfold zys;rw[List.take_add_one,h,List.map_append,zwP]
 show _+(g a+0)=_; omega
theorem zyw{s:Soc}{a b:Int}(h:0<=a/\a<=1000000)(hb:0<=b/\b<=1000000)(hr:0<=s.Reserve/\s.Reserve<=100000):zte s a b=some (max 0 (a - s.Reserve - b)):=by
 unfold zte;rw[zqr (fI (by omega)),zqr (fI (by omega))]
theorem zyx{hi:Int}(hh:hi<=1000000):∀(d:Nat) (x:Int),0<=x->(hi - x+1).toNat < d->zth hi d x=some (zyq x hi)
 | 0,_,_,h=>by omega
 | d+1,x,hx,h=>by
  rw[zth]
  by_cases hc:x<=hi
  ·rw[if_pos hc,zqr (fI (by omega)),zyx hh d (x+1) (by omega) (by omega),obs]
   have e:(hi - x+1).toNat=(hi - (x+1)+1).toNat+1:=by omega
   have e2:zyq x hi=x::zyq (x+1) hi:=by
    unfold zyq;rw[e,List.range_succ_eq_map,List.map_cons,List.map_map];refine congr (congrArg List.cons (by show x+((0:Nat):Int)=x; omega)) (List.map_congr_left fun k _=>?_)
    show x+((k+1:Nat):Int)=x+1+(k:Int)
    omega
   rw[e2]
  ·rw[if_neg hc]
   have e:(hi - x+1).toNat=0:=by omega
   unfold zyq; rw[e]; rfl
theorem zyy{s:Soc}(hs:zx0 s):ztk s=some (zyq (loN s) (hiN s)):=by
 have hb:=zyt hs.full.ls;have hn:=zyu hs;have h3:=hs.l3;have htr:=hs.full.tr;unfold RgV at htr;have hrs:=hs.full.rs
 have e:ztj s=some (zyq (loN s) (hiN s)):=by
  unfold ztj;refine zww (n:=s.Losses.length) (fun d (st:Int × Int) x=>zti s d st.1 st.2 x) (fun k=>(zys (·.Lo) (s.Losses.take k),zys (·.Hi) (s.Losses.take k))) (fun d k hk=>?_) (fun d=>?_) (s.Losses.length+1) 0 (by omega) (by omega)
  ·have hg:=List.getElem?_eq_getElem hk;have h1:=zyt (l:=s.Losses.take k) fun r hr=>hs.full.ls r (List.mem_of_mem_take hr);have h2:=hs.full.ls _ (List.getElem_mem hk)
   have h4:(s.Losses.take k).length<=3:=by rw[List.length_take]; omega
   unfold RgV at h2
   show zti s (d+1) (zys _ _) (zys _ _) (k:Int)=zti s d (zys _ _) (zys _ _) _
   rw[zti,if_pos (by omega),zrF hg,obs,zqr (fI (by omega)),zqr (fI (by omega)),zqr (fI (by omega)),zyv hg,zyv hg]
  ·show zti s (d+1) (zys _ _) (zys _ _) _=_
   rw[zti,if_neg (Int.lt_irrefl _),List.take_length,zyw (by omega) (by omega) hrs,obs,zyw (by omega) (by omega) hrs,obs];exact zyx (by unfold hiN at hn; omega) _ _ (by omega) (by omega)
 unfold ztk;rw[e]; rfl
end
end Go.Proofs.Ytkclhciahokifaa

namespace Go.Proofs.Ytkclhciahokifaa
open _root_.Go.Proofs.Try
open Go.Abs
set_option maxRecDepth 100000
noncomputable section
def Inc(n fr:Nat)(T:List Int):Prop:=T.Pairwise (· < ·)/\∀v∈T,(fr:Int)<=v/\v < n
theorem Inc.cons{n fr:Nat}{x:Int}{T:List Int}:Inc n fr (x::T)↔((fr:Int)<=x/\x < n)/\Inc n (x+1).toNat T:=by
 unfold Inc;rw[List.pairwise_cons]
 constructor
 ·rintro⟨⟨h1,h2⟩,h3⟩
  have hx:=h3 x (List.mem_cons_self ..);exact⟨hx,h2,fun v hv=>by have:=h1 v hv; have:=h3 v (List.mem_cons_of_mem _ hv); omega⟩
 ·rintro⟨hx,h2,h3⟩
  refine⟨⟨fun v hv=>by have:=h3 v hv; omega,h2⟩,fun v hv=>?_⟩
  rcases List.mem_cons.1 hv with rfl | hv
  ·exact hx
  ·have:=h3 v hv; omega
theorem zyz{n:Nat}{D:List Int}:∀{d:Nat} {pre:List Int} {fr:Nat},D∈zru n d pre fr↔∃T,D=pre++T/\T.length=d/\Inc n fr T
 | 0,pre,fr=>by
  show D∈[pre]↔_
  rw[List.mem_singleton]
  constructor
  ·rintro rfl; exact⟨[],by simp,rfl,.nil,fun v hv=>by cases hv⟩
  ·rintro⟨T,h1,h2,_⟩
   rw[List.eq_nil_of_length_eq_zero h2,List.append_nil] at h1; exact h1
 | d+1,pre,fr=>by
  show D∈zrt (fun x=>zru n d (pre++[(x:Int)]) (x+1)) (n - fr) fr↔_
  rw[zuN]
  constructor
  ·rintro⟨x,h1,h2,h3⟩
   obtain⟨T,h4,h5,h6⟩:=zyz.1 h3;refine⟨(x:Int)::T,by rw[h4]; simp,by simp[h5],Inc.cons.2 ⟨by omega,?_⟩⟩;rw[show((x:Int)+1).toNat=x+1 by omega]; exact h6
  ·rintro⟨T,h1,h2,h3⟩
   cases T with
   | nil=>simp at h2
   | cons v T=>
    obtain⟨h4,h5⟩:=Inc.cons.1 h3;refine⟨v.toNat,by omega,by omega,zyz.2 ⟨T,?_,by simpa using h2,?_⟩⟩
    ·rw[show((v.toNat:Nat):Int)=v by omega,h1]; simp
    ·rw[show v.toNat+1=(v+1).toNat by omega]; exact h5
theorem zyA{n:Nat}:∀{T:List Int} {fr:Nat},Inc n fr T->T.length<=n - fr
 | [],_,_=>Nat.zero_le _
 | v::T,fr,h=>by
  obtain⟨h1,h2⟩:=Inc.cons.1 h;have:=zyA h2
  simp only[List.length_cons]
  omega
theorem zyB{n:Nat}{D:List Int}:D∈zoh n↔Inc n 0 D:=by
 unfold zoh;rw[zuN]
 constructor
 ·rintro⟨s,_,_,h⟩
  obtain⟨T,h1,_,h2⟩:=zyz.1 h;rw[h1]; exact h2
 ·intro h;have:=zyA h;exact⟨D.length,Nat.zero_le _,by omega,zyz.2 ⟨D,rfl,rfl,h⟩⟩
def zyC(b:Nat):Nat->List Int
 | 0=>[]
 | p+1=>zyC b p++(if b.testBit p then [(p:Int)] else [])
def zyD(b:Nat):List Int:=zyC b 16
theorem zyE{b:Nat}{v:Int}:∀{p:Nat},v∈zyC b p↔0<=v/\v < p/\b.testBit v.toNat=true
 | 0=>⟨fun h=>(by cases h),fun h=>by omega⟩
 | p+1=>by
  show v∈zyC b p++_↔_
  rw[List.mem_append,zyE]
  constructor
  ·rintro (h | h)
   ·exact⟨h.1,by omega,h.2.2⟩
   ·by_cases hb:b.testBit p=true
    ·rw[if_pos hb,List.mem_singleton] at h;subst h; exact⟨by omega,by omega,hb⟩
    ·rw[if_neg hb] at h; cases h
  ·rintro⟨h1,h2,h3⟩
   by_cases hv:v=(p:Int)
   ·subst hv;have h4:b.testBit p=true:=h3;rw[if_pos h4]; exact .inr (List.mem_singleton.2 rfl)
   ·exact .inl ⟨h1,by omega,h3⟩
theorem zyF{b:Nat}:∀p:Nat,(zyC b p).Pairwise (· < ·)
 | 0=>.nil
 | p+1=>by
  show(zyC b p++_).Pairwise _
  rw[List.pairwise_append];refine⟨zyF p,?_,fun a ha c hc=>?_⟩
  ·split
   ·exact List.pairwise_singleton _ _
   ·exact .nil
  ·have:=zyE.1 ha
   split at hc
   ·rw[List.mem_singleton] at hc; omega
   ·cases hc
theorem zyG{b p:Nat}(h:∀q,p<=q->b.testBit q=false):∀k,zyC b (p+k)=zyC b p
 | 0=>rfl
 | k+1=>by
  show zyC b (p+k)++(if b.testBit (p+k) then _ else _)=_
  rw[h (p+k) (by omega),zyG h k]; simp
theorem zyH{b:Nat}:∀p,(zyC b p).length<=p
 | 0=>Nat.le_refl _
 | p+1=>by
  show(zyC b p++_).length<=_
  rw[List.length_append];have:=zyH (b:=b) p
  split <;> simp <;> omega
theorem zyI(b p:Nat):(b:Int) / 2 ^ p=((b / 2 ^ p:Nat):Int):=by simp
theorem zjo{b p q:Nat}(h:b / 2 ^ p=0)(hq:p<=q):b.testBit q=false:=by
 have h1:b < 2 ^ p:=by
  rcases Nat.lt_or_ge b (2 ^ p) with h2 | h2
  ·exact h2
  ·have:=Nat.div_pos h2 (Nat.two_pow_pos p); omega
 exact Nat.testBit_lt_two_pow (Nat.lt_of_lt_of_le h1 (Nat.pow_le_pow_right (by omega) hq))
def bef:List Int->List Int->Bool
 | [],[]=>false
 | [],_::_=>true
 | _::_,[]=>false
 | x::a,y::b=>if x=y then bef a b else decide (x < y)
def shB(a b:List Int):Bool:=decide (a.length < b.length) || (decide (a.length=b.length) && bef a b)
theorem zyJ:∀A:List Int,bef A A=false
 | []=>rfl
 | x::A=>by show(if x=x then bef A A else _)=_; rw[if_pos rfl,zyJ A]
theorem zyK:∀A B:List Int,A=B\/bef A B=true\/bef B A=true
 | [],[]=>.inl rfl
 | [],_::_=>.inr (.inl rfl)
 | _::_,[]=>.inr (.inr rfl)
 | x::A,y::B=>by
  show x::A=y::B\/(if x=y then bef A B else decide (x < y))=true\/(if y=x then bef B A else decide (y < x))=true
  by_cases hxy:x=y
  ·subst hxy;rw[if_pos rfl,if_pos rfl]
   rcases zyK A B with h | h | h
   ·exact .inl (by rw[h])
   ·exact .inr (.inl h)
   ·exact .inr (.inr h)
  ·rw[if_neg hxy,if_neg fun h=>hxy h.symm]
   by_cases h:x < y
   ·exact .inr (.inl (decide_eq_true h))
   ·exact .inr (.inr (decide_eq_true (by omega)))
theorem zyL{n b:Nat}(_hn:n<=16)(hb:b < 2 ^ n):Inc n 0 (zyD b):=
 ⟨zyF 16,fun v hv=>by
  obtain⟨h1,h2,h3⟩:=zyE.1 hv;refine⟨by omega,?_⟩
  by_cases h4:v < n
  ·exact h4
  ·have:=Nat.testBit_lt_two_pow (Nat.lt_of_lt_of_le hb (Nat.pow_le_pow_right (by omega) (show n<=v.toNat by omega)))
   rw[this] at h3; cases h3⟩
theorem zyM{l:List Int}(h:l ≠ [])(hl:l.length<=1048577):ztM l=some (zrR l):=by
 unfold ztM
 cases l with
 | nil=>exact absurd rfl h
 | cons x l=>
  rw[if_neg (by rw[List.length_cons]; omega),zrH rfl,obs];refine(zrQ (l:=x::l) (fun s a=>min s a) (fun d s k=>ztL (x::l) d s k) (fun s=>some s) (fun d k s a hk=>?_) (fun d s=>?_) _ 0 x (Nat.zero_le _) (by omega)).trans ?_
  ·have hkl:=(List.getElem?_eq_some_iff.1 hk).1
   show ztL (x::l) (d+1) s (k:Int)=_
   rw[ztL,if_pos (by omega),zrF hk,obs]
   by_cases hc:a < s
   ·rw[if_pos hc,zqr (fI (by omega)),Int.min_eq_right (by omega)]
   ·rw[if_neg hc,zqr (fI (by omega)),Int.min_eq_left (by omega)]
  ·show ztL (x::l) (d+1) s _=_
   rw[ztL,if_neg (Int.lt_irrefl _)]
  ·rw[List.drop_zero]
   show some (l.foldl min (min x x))=_
   rw[Int.min_self]; rfl
theorem zyN{l:List Int}(h:l ≠ [])(hl:l.length<=1048577):ztO l=some (zrS l):=by
 unfold ztO
 cases l with
 | nil=>exact absurd rfl h
 | cons x l=>
  rw[if_neg (by rw[List.length_cons]; omega),zrH rfl,obs];refine(zrQ (l:=x::l) (fun s a=>max s a) (fun d s k=>ztN (x::l) d s k) (fun s=>some s) (fun d k s a hk=>?_) (fun d s=>?_) _ 1 x (by rw[List.length_cons]; omega) (by rw[List.length_cons]; omega)).trans ?_
  ·have hkl:=(List.getElem?_eq_some_iff.1 hk).1
   show ztN (x::l) (d+1) s (k:Int)=_
   rw[ztN,if_pos (by omega),zrF hk,obs,zqr (fI (by omega))]
  ·show ztN (x::l) (d+1) s _=_
   rw[ztN,if_neg (Int.lt_irrefl _)]
  ·rfl
theorem zyO{l:List Int}(h:l ≠ []):zrR l∈l/\∀y∈l,zrR l<=y:=by
 cases l with
 | nil=>exact absurd rfl h
 | cons x l=>
  obtain⟨h1,h2,h3⟩:=zrT l x;refine⟨?_,fun y hy=>?_⟩
  ·rcases h1 with h1 | h1
   ·show l.foldl min x∈_; rw[h1]; exact List.mem_cons_self ..
   ·exact List.mem_cons_of_mem _ h1
  ·rcases List.mem_cons.1 hy with rfl | hy
   ·exact h2
   ·exact h3 y hy
theorem zyP{l:List Int}(h:l ≠ []):zrS l∈l/\∀y∈l,y<=zrS l:=by
 cases l with
 | nil=>exact absurd rfl h
 | cons x l=>
  obtain⟨h1,h2,h3⟩:=zrU l x;refine⟨?_,fun y hy=>?_⟩
  ·rcases h1 with h1 | h1
   ·show l.foldl max x∈_; rw[h1]; exact List.mem_cons_self ..
   ·exact List.mem_cons_of_mem _ h1
  ·rcases List.mem_cons.1 hy with rfl | hy
   ·exact h2
   ·exact h3 y hy
def bnd(s:Soc)(g:Int->Int):Rg:={ Lo:=zrR ((zyq (loN s) (hiN s)).map g),Hi:=zrS ((zyq (loN s) (hiN s)).map g) }
def zyQ(s:Soc)(out:List Int)(N:Int):Oc:={ need:=N,calls:=mk5 (zxP s.Members (zye s.Members.length out) N).1 }
theorem zyR{s:Soc}(hs:zx0 s):(zyq (loN s) (hiN s)).length<=121:=by
 have:=zyu hs;unfold zyq; rw[List.length_map,List.length_range]; omega
theorem zyS{s:Soc}(hs:zx0 s):zyq (loN s) (hiN s) ≠ []:=fun h=>by
 have:=zyu hs;have:loN s∈zyq (loN s) (hiN s):=zyr.2 (by omega)
 rw[h] at this; cases this
theorem zyT{s:Soc}(hs:zx0 s)(g:Int->Int):(∃N,(loN s<=N/\N<=hiN s)/\g N=(bnd s g).Lo)/\(∃N,(loN s<=N/\N<=hiN s)/\g N=(bnd s g).Hi)/\∀N,loN s<=N/\N<=hiN s->(bnd s g).Lo<=g N/\g N<=(bnd s g).Hi:=by
 have hne:(zyq (loN s) (hiN s)).map g ≠ []:=fun h=>zyS hs (List.map_eq_nil_iff.1 h);obtain⟨a1,a2⟩:=zyO hne;obtain⟨b1,b2⟩:=zyP hne;obtain⟨x,hx,ex⟩:=List.mem_map.1 a1;obtain⟨y,hy,ey⟩:=List.mem_map.1 b1;exact⟨⟨x,zyr.1 hx,ex⟩,⟨y,zyr.1 hy,ey⟩,fun N hN=>⟨a2 _ (List.mem_map.2 ⟨N,zyr.2 hN,rfl⟩),b2 _ (List.mem_map.2 ⟨N,zyr.2 hN,rfl⟩)⟩⟩
theorem zyU{s:Soc}(hs:zx0 s):bnd s (fun N=>N)={ Lo:=loN s,Hi:=hiN s }:=by
 obtain⟨⟨x,hx,ex⟩,⟨y,hy,ey⟩,h⟩:=zyT hs fun N=>N;have hb:=zyu hs;have h1:=(h (loN s) ⟨Int.le_refl _,hb.2.1⟩).1;have h2:=(h (hiN s) ⟨hb.2.1,Int.le_refl _⟩).2
 have e1:(bnd s fun N=>N).Lo=loN s:=by omega
 have e2:(bnd s fun N=>N).Hi=hiN s:=by omega
 revert e1 e2
 generalize bnd s (fun N=>N)=r;intro e1 e2
 cases r
 exact congr (congrArg Rg.mk e1) e2
theorem zyV{s:Soc}(hs:zx0 s)(out:List Int){N:Int}(hN:0<=N/\N<=1000000):ztI (zyf s out) N=some (zyQ s out N):=zxR (w:=zyf s out) hs.msOk rfl (zyg s.Members out) hN
theorem zyW{s:Soc}(hs:zx0 s){out:List Int}{q:Qu}{g:Int->Int}(hg:∀N,loN s<=N->N<=hiN s->q.ask (zyQ s out N)=some (g N)) :
  ∀(L:List Int) (acc:List Int),(∀N∈L,loN s<=N/\N<=hiN s)->acc.length+L.length<=1000->acc++L.map g ≠ []->ztP (zyf s out) q L acc=some { Lo:=zrR (acc++L.map g),Hi:=zrS (acc++L.map g) }
 | [],acc,_,hl,hne=>by
  rw[List.map_nil,List.append_nil] at hne ⊢;rw[ztP,zyM hne (by omega),obs,zyN hne (by omega),obs]
 | N::L,acc,hN,hl,hne=>by
  have h1:=hN N (List.mem_cons_self ..);have hb:=zyu hs;rw[List.length_cons] at hl;rw[ztP,zyV hs out (by omega),obs,hg N h1.1 h1.2,obs,zqr (by omega),zyW hs hg L (acc++[g N]) (fun x hx=>hN x (List.mem_cons_of_mem _ hx)) (by rw[List.length_append]; show acc.length+1+_<=_; omega) (by simp)];rw[List.map_cons,List.append_assoc]; rfl
theorem zyX{s:Soc}(hs:zx0 s){out:List Int}{q:Qu}{g:Int->Int}(hg:∀N,loN s<=N->N<=hiN s->q.ask (zyQ s out N)=some (g N)):ztQ (zyf s out) q=some (bnd s g):=by
 unfold ztQ;rw[show(zyf s out).s=s from rfl,zyy hs,obs];have hl:=zyR hs;exact zyW hs hg _ [] (fun N hN=>zyr.1 hN) (by show 0+_<=_; omega) (fun h=>zyS hs (List.map_eq_nil_iff.1 h))
theorem zyY{s:Soc}(hs:zx0 s):ztY s=some ({ Lo:=loN s,Hi:=hiN s },0):=by
 unfold ztY;rw[zyo hs (Nat.zero_le _) (zyp _),obs,if_pos rfl,zyX hs (g:=fun N=>N) (fun N _ _=>rfl),obs,zyU hs]
theorem zyZ{s:Soc}(hs:zx0 s)(out:List Int){N:Int}(hN:0<=N/\N<=1000000):ztx (zyQ s out N)=some (zxP s.Members (zye s.Members.length out) N).2:=by
 have hsup:=zyg s.Members out;have h1:=zxV hs.msOk hsup hN
 have hb:Bd 1000000000000 (zxP s.Members (zye s.Members.length out) N).1:=fun i hi=>by have:=zxY hs.msOk hsup hN hi; omega
 have hb5:=fun i hi=>zxY hs.msOk hsup hN (i:=i) hi;have b0:=hb5 0 (by omega); have b1:=hb5 1 (by omega); have b2:=hb5 2 (by omega); have b3:=hb5 3 (by omega); have b4:=hb5 4 (by omega)
 have hS:0<=S5 (zxP s.Members (zye s.Members.length out) N).1/\S5 (zxP s.Members (zye s.Members.length out) N).1<=500000:=by unfold S5; omega
 unfold ztx
 show(ztm (mk5 (zxP s.Members (zye s.Members.length out) N).1)).bind _=_
 rw[zwG hb,obs,zqr (fI (by show -9223372036854775808<=N - S5 _/\N - S5 _ < _; omega))];exact congrArg some (show N - S5 (zxP s.Members (zye s.Members.length out) N).1=_ by omega)
def zy0(s:Soc)(out:List Int)(N:Int):List Int:=(l5 (zxP s.Members (zye s.Members.length out) N).1).take s.Members.length
theorem zy1{s:Soc}(out:List Int)(N:Int)(h5:s.Members.length<=5):(zy0 s out N).length=s.Members.length:=by
 unfold zy0; rw[List.length_take]; show min _ 5=_; omega
theorem zy2{s:Soc}(out:List Int)(N:Int)(h5:s.Members.length<=5){k:Nat}(hk:k < s.Members.length):(zy0 s out N)[k]? = some ((zxP s.Members (zye s.Members.length out) N).1 k):=by
 unfold zy0; rw[List.getElem?_take,if_pos hk]; exact zwx (by omega)
theorem zy3{s:Soc}(hs:zx0 s){N:Int}(hN:0<=N/\N<=300000):zt0 s N=some (zy0 s [] N,(zxP s.Members (zye s.Members.length []) N).2,0):=by
 have h5:=hs.m5;unfold zt0;rw[zyo hs (Nat.zero_le _) (zyp _),obs,if_pos rfl,zx3.some_of hN,obs,if_pos rfl]
 show(ztI (zyf s []) N).bind _=_
 rw[zyV hs [] (by omega),obs,zqr (by omega)]
 have e:ztZ ((([(zyQ s [] N).calls.p0,(zyQ s [] N).calls.p1,(zyQ s [] N).calls.p2,(zyQ s [] N).calls.p3,(zyQ s [] N).calls.p4]:List Int).take (Int.toNat (s.Members.length:Int))).drop (Int.toNat (0:Int)))=some (zy0 s [] N):=by
  have hl:=zy1 [] N h5
  show ztZ (zy0 s [] N)=_
  unfold ztZ;rw[zqr (by rw[hl]; show 0+_<=_; omega)]; rfl
 rw[e,obs,zyZ hs [] (by omega),obs]
theorem zy4{s:Soc}(hs:zx0 s)(out:List Int)(N:Int){k:Nat}(hk:k < s.Members.length):ztJ (zyQ s out N) (k:Int)=some ((zxP s.Members (zye s.Members.length out) N).1 k):=by
 have h5:=hs.m5;unfold ztJ
 show(idx (l5 (zxP s.Members (zye s.Members.length out) N).1) (k:Int)).bind _=_
 rw[zwy (by omega),obs]
def zy5(s:Soc)(out:List Int):List Rg:=(List.range s.Members.length).map fun k=>bnd s fun N=>(zxP s.Members (zye s.Members.length out) N).1 k
theorem zy6{s:Soc}(out:List Int):(zy5 s out).length=s.Members.length:=by unfold zy5; rw[List.length_map,List.length_range]
theorem zy7{s:Soc}(out:List Int){k:Nat}(hk:k < s.Members.length):(zy5 s out)[k]? = some (bnd s fun N=>(zxP s.Members (zye s.Members.length out) N).1 k):=by
 unfold zy5; rw[List.getElem?_map,List.getElem?_range hk]; rfl
theorem zy8{s:Soc}(hs:zx0 s){out:List Int}(hl:zrP out)(ho:zyk s.Members.length out):zt2 s out=some (zy5 s out,0):=by
 have h5:=hs.m5;unfold zt2;rw[zyo hs hl ho,obs,if_pos rfl];refine zww (n:=s.Members.length) (fun d acc x=>zt1 s (zyf s out,0) d acc x) (fun k=>(zy5 s out).take k) (fun d k hk=>?_) (fun d=>?_) (s.Members.length+1) 0 (by omega) (by omega)
 ·show zt1 s (zyf s out,0) (d+1) _ _=_
  have hb:ztK (k:Int)=some (fun o=>ztJ o (k:Int)):=rfl;rw[zt1,if_pos (by omega),hb,obs]
  show(ztQ (zyf s out) _).bind _=_
  rw[zyX hs (g:=fun N=>(zxP s.Members (zye s.Members.length out) N).1 k) (fun N _ _=>zy4 hs out N hk),obs,zqr (by rw[List.length_take]; omega),zqr (fI (by omega))];rw[List.take_add_one,zy7 out hk]; rfl
 ·show zt1 s (zyf s out,0) (d+1) _ _=_
  rw[zt1,if_neg (Int.lt_irrefl _),List.take_of_length_le (by rw[zy6]; exact Nat.le_refl _)]
theorem zy9{s:Soc}(hs:zx0 s):zt3 s=some (zy5 s [],0):=by
 unfold zt3;rw[zy8 hs (Nat.zero_le _) (zyp _),obs]
def zza(s:Soc)(out:List Int)(N:Int):Int:=(zxP s.Members (zye s.Members.length out) N).2
theorem zzb{s:Soc}(hs:zx0 s):zt4 s=some (bnd s (zza s []),0):=by
 have hb:=zyu hs;unfold zt4;rw[zyo hs (Nat.zero_le _) (zyp _),obs,if_pos rfl,zyX hs (g:=zza s []) (fun N h1 h2=>zyZ hs [] (by omega)),obs]
theorem zzc{s:Soc}(hs:zx0 s)(out:List Int):ztR (zyf s out)=some (hiN s):=by
 unfold ztR;rw[zyX hs (g:=fun N=>N) (fun N _ _=>rfl),obs,zyU hs]
theorem zzd(a:Mb){r t:Int}(hu:0<=unN a)(h:r<=t):min (unN a * r / 100) a.Most<=min (unN a * t / 100) a.Most:=by
 have h1:unN a * r<=unN a * t:=Int.mul_le_mul_of_nonneg_left h hu;have h2:=Int.ediv_le_ediv (c:=100) (by omega) h1
 omega
def brN(ms:List Mb)(rate:Int):Int:=zwO (ms.map fun a=>min (unN a * rate / 100) a.Most)
theorem zze{ms:List Mb}(hm:∀a∈ms,zxv a){r:Int}(hr:0<=r/\r<=10000):0<=brN ms r/\brN ms r<=100000 * ms.length:=by
 induction ms with
 | nil=>exact⟨Int.le_refl _,Int.le_refl _⟩
 | cons a ms ih=>
  have ih:=ih fun a ha=>hm a (List.mem_cons_of_mem _ ha);have ha:=hm a (List.mem_cons_self ..);have hu:=zxx ha;have hmo:=ha.most;have h1:0<=unN a * r / 100:=Int.ediv_nonneg (Int.mul_nonneg (by omega) hr.1) (by omega);have e:brN (a::ms) r=min (unN a * r / 100) a.Most+brN ms r:=rfl;rw[e,List.length_cons]; omega
theorem zzf{ms:List Mb}(hm:∀a∈ms,zxv a){r t:Int}(h:r<=t):brN ms r<=brN ms t:=by
 induction ms with
 | nil=>exact Int.le_refl _
 | cons a ms ih=>
  have ih:=ih fun a ha=>hm a (List.mem_cons_of_mem _ ha);have h2:=zzd a (by have:=zxx (hm a (List.mem_cons_self ..)); omega) h
  show min _ _+brN ms r<=min _ _+brN ms t
  omega
theorem zzg{ms:List Mb}{r:Int}{k:Nat}{a:Mb}(h:ms[k]? = some a):brN (ms.take (k+1)) r=brN (ms.take k) r+min (unN a * r / 100) a.Most:=by
 unfold brN;rw[List.take_add_one,h,List.map_append,zwP]
 show _+(min (unN a * r / 100) a.Most+0)=_
 rw[Int.add_zero]
theorem zzh{s:Soc}(hs:zx0 s)(out:List Int){r:Int}(hr:0<=r/\r<=10000):ztT (zyf s out) r=some (brN s.Members r):=by
 have h5:=hs.m5;unfold ztT;refine zww (n:=s.Members.length) (fun d acc x=>ztS (zyf s out) r d acc x) (fun k=>brN (s.Members.take k) r) (fun d k hk=>?_) (fun d=>?_) (s.Members.length+1) 0 (by omega) (by omega)
 ·have hg:=List.getElem?_eq_getElem hk;have ha:=hs.full.ms _ (List.getElem_mem hk);have hu:=zxx ha;have hmo:=ha.most;have hb:=zze (ms:=s.Members.take k) (fun a ha=>hs.full.ms a (List.mem_of_mem_take ha)) hr
  have hlk:(s.Members.take k).length<=5:=by rw[List.length_take]; omega
  have hm:=zw7 (a:=unN s.Members[k]) (x:=r) (A:=10000) (X:=10000) (by omega) hr;have hq:0<=unN s.Members[k] * r / 100:=Int.ediv_nonneg hm.1 (by omega)
  have hun:ztz s.Members[k]=some (unN s.Members[k]):=by
   have h1:=ha.sum; have h2:=ha.cls;unfold unN at hu;unfold ztz unN;rw[zqr (by omega),zqr (by omega),zqr (fI (by omega))]
  show ztS (zyf s out) r (d+1) _ _=_
  rw[ztS,if_pos (show(k:Int) < ((zyf s out).s.Members.length:Int) by show(k:Int) < (s.Members.length:Int); omega),show idx (zyf s out).s.Members (k:Int)=some s.Members[k] from zrF hg,obs,hun,obs,zqr (by omega),zqr hr.1,zqr (fI (by omega)),zqr hm.1,zqr (by omega),zqr (fI (by omega)),zqr (fI (by omega)),zqr (fI (by omega)),zzg hg]
 ·show ztS (zyf s out) r (d+1) _ _=_
  rw[ztS,if_neg (show ¬ ((s.Members.length:Nat):Int) < ((zyf s out).s.Members.length:Int) from Int.lt_irrefl _),List.take_length]
def zzi(s:Soc)(r:Int):Bool:=decide (hiN s<=brN s.Members r)
theorem zzj{s:Soc}(hs:zx0 s){r:Int}(hr:0<=r/\r<=10000):ztU (zyf s []) r=some (zzi s r):=by
 unfold ztU;rw[zzh hs [] hr,obs,zzc hs,obs]; rfl
theorem zzk{p:Int->Option Bool}{f:Nat->Bool}{n:Nat}(hn:n<=1000000)(hp:∀m,m < n->p (m:Int)=some (f m))(hm:∀m k,m<=k->k < n->f m=true->f k=true):∀d (i j:Nat),i<=j->j<=n->j - i < d->(∀m,m < i->f m=false)->(∀m,j<=m->m < n->f m=true) ->
  ∃k:Nat,ztW p d (i:Int) (j:Int)=some (k:Int)/\k<=n/\(∀m,m < k->f m=false)/\(∀m,k<=m->m < n->f m=true)
 | 0,_,_,_,_,h,_,_=>by omega
 | d+1,i,j,hij,hj,h,hlo,hhi=>by
  rw[ztW]
  by_cases hc:i < j
  ·obtain⟨md,hmd⟩:∃md:Nat,md=(i+j) / 2:=⟨_,rfl⟩
   have hf:zl6 .u64 ((i:Int)+j):=show _/\_ by constructor <;> omega
   have e:zmb .i64 (zmb .u64 ((i:Int)+j) / 2)=(md:Int):=by
    rw[wz hf,wz (fI (by omega))]; omega
   rw[if_pos (by omega),zqr (fI (by omega)),zqr (by rw[wz hf]; omega),zqr (by omega),zqr (by omega),zqr (by rw[wz hf]; exact show _/\_ by constructor <;> omega),e,hp md (by omega),obs]
   cases hq:f md with
   | true=>
    rw[if_pos rfl];exact zzk hn hp hm d i md (by omega) (by omega) (by omega) hlo fun m h1 h2=>hm md m h1 h2 hq
   | false=>
    rw[if_neg (by decide),zqr (fI (by omega)),show(md:Int)+1=((md+1:Nat):Int) by omega]
    exact zzk hn hp hm d (md+1) j (by omega) hj (by omega) (fun m h1=>by
     cases hq2:f m with
     | false=>rfl
     | true=>have:=hm m md (by omega) (by omega) hq2; rw[hq] at this; cases this) hhi
  ·rw[if_neg (by omega)];exact⟨i,rfl,by omega,hlo,fun m h1 h2=>hhi m (by omega) h2⟩
theorem zzl{s:Soc}(hs:zx0 s):∃k:Nat,ztX 10001 (fun r=>ztU (zyf s []) r)=some (k:Int)/\k<=10001/\(∀m:Nat,m < k->zzi s m=false)/\(∀m:Nat,k<=m->m < 10001->zzi s m=true):=by
 unfold ztX
 exact zzk (n:=10001) (f:=fun m=>zzi s (m:Int)) (by omega) (fun m hm=>zzj hs (by omega)) (fun m k h1 h2 h3=>by
  have h4:hiN s<=brN s.Members (m:Int):=of_decide_eq_true h3;have h5:=zzf hs.full.ms (r:=(m:Int)) (t:=(k:Int)) (by omega)
  exact decide_eq_true (by omega)) _ 0 10001 (by omega) (by omega) (by omega) (fun m h=>by omega) (fun m h1 h2=>by omega)
theorem zzm{s:Soc}(hs:zx0 s):(∃k:Nat,zt5 s=some ((k:Int),0)/\k<=10000/\hiN s<=brN s.Members (k:Int)/\∀m:Nat,m < k->brN s.Members (m:Int) < hiN s)\/(zt5 s=some (0,10)/\∀m:Nat,m<=10000->brN s.Members (m:Int) < hiN s):=by
 obtain⟨k,h1,h2,h3,h4⟩:=zzl hs
 have lt:∀m:Nat,zzi s (m:Int)=false->brN s.Members (m:Int) < hiN s:=fun m h=>by
  have:=of_decide_eq_false h; omega
 unfold zt5;rw[zyo hs (Nat.zero_le _) (zyp _),obs,if_pos rfl]
 show(∃k':Nat,(ztX 10001 (fun r=>ztU (zyf s []) r)).bind _=_/\_)\/((ztX 10001 (fun r=>ztU (zyf s []) r)).bind _=_/\_)
 rw[h1,obs]
 by_cases hk:k<=10000
 ·rw[if_neg (by omega)];exact .inl ⟨k,rfl,hk,of_decide_eq_true (h4 k (Nat.le_refl _) (by omega)),fun m hm=>lt m (h3 m hm)⟩
 ·rw[if_pos (by omega)];exact .inr ⟨rfl,fun m hm=>lt m (h3 m (by omega))⟩
def zzn(s:Soc)(l:List Int):Bool:=decide (0 < (bnd s (zza s l)).Hi)
theorem zzo{s:Soc}(hs:zx0 s){l:List Int}(hl:zrP l):ztV s l=some (zzn s l):=by
 have hb:=zyu hs;unfold ztV;rw[zyj hl hs.m5,obs,zyX hs (g:=zza s l) (fun N h1 h2=>zyZ hs l (by omega)),obs]; rfl
theorem zzp{s:Soc}(hs:zx0 s)(h:hiN s ≠ 0):zt6 s=some (zrv s.Members.length (zzn s),0):=by
 have h5:=hs.m5
 have hlen:∀L∈zoh s.Members.length,zrP L:=fun L hL=>by have:=zyA (zyB.1 hL); unfold zrP; omega
 unfold zt6;rw[zyo hs (Nat.zero_le _) (zyp _),obs,if_pos rfl,zzc hs,obs,if_neg h];unfold zrw;rw[zqr ⟨by omega,by omega,fun L hL=>by show(ztV s L).isSome=true; rw[zzo hs (hlen L hL)]; rfl⟩,obs];refine congrArg (fun x=>some (x,(0:Int))) ?_
 have e:(zoh s.Members.length).find? (fun L=>((ztV s L)).getD false)=(zoh s.Members.length).find? (zzn s):=by
  have:∀l:List (List Int),(∀L∈l,zrP L)->l.find? (fun L=>((ztV s L)).getD false)=l.find? (zzn s):=by
   intro l
   induction l with
   | nil=>intro _; rfl
   | cons L l ih=>
    intro hl
    have h1:(ztV s L).getD false=zzn s L:=by rw[zzo hs (hl L (List.mem_cons_self ..))]; rfl
    rw[List.find?_cons,List.find?_cons,h1,ih fun L hL=>hl L (List.mem_cons_of_mem _ hL)]
  exact this _ hlen
 show zrv s.Members.length (fun L=>((ztV s L)).getD false)=_
 unfold zrv;rw[e]
theorem wu{n:Nat}(h:n<=64):zmb .u64 (n:Int)=(n:Int):=wz (show(0:Int)<=n/\(n:Int) < 18446744073709551616 by omega)
theorem zzq{b:Nat}(hb:b < 65536):∀(d p:Nat) (acc:List Int),p<=16->16 - p < d->acc=zyC b p->zsA (b:Int) d acc (p:Int)=some (zyD b)
 | 0,_,_,_,h,_=>by omega
 | d+1,p,acc,hp,h,ha=>by
  have hle:b / 2 ^ p<=b:=Nat.div_le_self _ _;rw[zsA,wu (show p<=64 by omega)]
  have hq:(b:Int) / 2 ^ ((p:Int)).toNat=((b / 2 ^ p:Nat):Int):=by rw[Int.toNat_natCast]; simp
  rw[hq]
  clear hq
  have hl:=zyH (b:=b) p;have hbit:b.testBit p=decide (b / 2 ^ p % 2=1):=Nat.testBit_eq_decide_div_mod_eq ..
  have h16:p=16->b / 2 ^ p=0:=fun he=>by subst he; exact Nat.div_eq_of_lt (by omega)
  have h0':b / 2 ^ p=0->zyC b p=zyD b:=fun h9=>by
   have:=zyG (b:=b) (p:=p) (fun q hq=>zjo h9 hq) (16 - p);rw[show p+(16 - p)=16 by omega] at this;exact this.symm
  generalize b / 2 ^ p=q at hle hbit h16 h0' ⊢;rw[zqr (by omega),zqr (by omega),zqr (by omega),zqr (fI (by omega))]
  by_cases h0:0 < q
  ·have hp16:p < 16:=by
    rcases Nat.lt_or_ge p 16 with h1 | h1
    ·exact h1
    ·have:=h16 (by omega); omega
   rw[if_pos (by omega),zqr (by omega),zqr (by omega),zqr (by omega),zqr (fI (by omega)),zqr (by omega),zqr (by omega),zqr (fI (by omega))]
   by_cases h1:q % 2=1
   ·rw[if_pos (by omega),zqr (show acc.length < 1048576 by rw[ha]; omega),zqr (fI (by omega)),show(p:Int)+1=((p+1:Nat):Int) by omega];refine zzq hb d (p+1) _ (by omega) (by omega) ?_
    show _=zyC b p++(if b.testBit p then [(p:Int)] else [])
    rw[ha,hbit,h1]; rfl
   ·rw[if_neg (by omega),zqr (fI (by omega)),show(p:Int)+1=((p+1:Nat):Int) by omega];refine zzq hb d (p+1) _ (by omega) (by omega) ?_
    show _=zyC b p++(if b.testBit p then [(p:Int)] else [])
    rw[ha,hbit,decide_eq_false h1]; simp
  ·rw[if_neg (by omega),ha];exact congrArg some (h0' (by omega))
theorem zzr{b:Nat}(hb:b < 65536):zsB (b:Int)=some (zyD b):=zzq hb 1000000 0 [] (Nat.zero_le _) (by omega) rfl
theorem zzs{a b:List Int}(hl:a.length<=1000):∀(d k:Nat),k<=a.length->a.length - k < d->zsC a b d (k:Int)=some (bef (a.drop k) (b.drop k))
 | 0,_,_,h=>by omega
 | d+1,k,hk,h=>by
  rw[zsC]
  by_cases hka:k < a.length
  ·rw[if_pos (by omega)];have da:=List.drop_eq_getElem_cons hka;have ga:=List.getElem?_eq_getElem hka
   by_cases hkb:k < b.length
   ·have db:=List.drop_eq_getElem_cons hkb;have gb:=List.getElem?_eq_getElem hkb;rw[if_pos (by omega),zrF ga,obs,zrF gb,obs,da,db];unfold bef
    by_cases he:a[k]=b[k]
    ·rw[if_pos he,if_pos he,zqr (fI (by omega)),show(k:Int)+1=((k+1:Nat):Int) by omega];exact zzs hl d (k+1) (by omega) (by omega)
    ·rw[if_neg he,if_neg he,obs,obs]
   ·rw[if_neg (by omega),da,List.drop_eq_nil_of_le (show b.length<=k by omega),decide_eq_false (by omega)]; rfl
  ·rw[if_neg (by omega),List.drop_eq_nil_of_le (show a.length<=k by omega)]
   by_cases hkb:k < b.length
   ·rw[List.drop_eq_getElem_cons hkb,decide_eq_true (by omega)]; rfl
   ·rw[List.drop_eq_nil_of_le (show b.length<=k by omega),decide_eq_false (by omega)]; rfl
theorem zzt{a b:List Int}(hl:a.length<=1000):zsD a b=some (bef a b):=zzs hl (a.length+1) 0 (Nat.zero_le _) (by omega)
theorem zzu{a b:List Int}(hl:a.length<=1000):zsE a b=some (shB a b):=by
 unfold zsE shB
 by_cases h1:a.length < b.length
 ·rw[if_pos (by omega),decide_eq_true h1]; rfl
 ·rw[if_neg (by omega),decide_eq_false h1]
  by_cases h2:a.length=b.length
  ·rw[if_pos (by omega),zzt hl,decide_eq_true h2]; simp
  ·rw[if_neg (by omega),decide_eq_false h2]; simp
theorem zzv{b:Nat}:(zyD b).length<=16:=zyH 16
theorem zzw{a b:List Int}(hl:a.length=b.length):(bef a b=false/\bef b a=false)↔a=b:=by
 constructor
 ·rintro⟨h1,h2⟩
  rcases zyK a b with h | h | h
  ·exact h
  ·rw[h1] at h; cases h
  ·rw[h2] at h; cases h
 ·rintro rfl; exact⟨zyJ _,zyJ _⟩
theorem zzx{a b:List Int}(ha:a.length<=1000)(hb:b.length<=1000):zsF a b=some (decide (a=b)):=by
 unfold zsF
 by_cases hl:a.length=b.length
 ·rw[if_pos (by omega),zzt ha,obs];have h:=zzw hl
  cases h1:bef a b with
  | true=>rw[if_pos rfl,decide_eq_false fun he=>by have:=(h.2 he).1; rw[h1] at this; cases this]
  | false=>
   rw[if_neg (by decide),zzt hb,obs]
   cases h2:bef b a with
   | true=>rw[decide_eq_false fun he=>by have:=(h.2 he).2; rw[h2] at this; cases this]; rfl
   | false=>rw[decide_eq_true (h.1 ⟨h1,h2⟩)]; rfl
 ·rw[if_neg (by omega),decide_eq_false fun he=>hl (by rw[he])]
def zzy(s:Soc):Prop:=s.Members.length<=8/\s.Losses.length<=6
theorem zzz{s:Soc}:Ev (zub s) (zzy s):=by
 unfold zub zzy
 by_cases h:(s.Members.length:Int)<=8
 ·rw[if_pos h]; exact Ev.dec (by omega)
 ·rw[if_neg h]; exact Ev.ff (by omega)
theorem zx0.thin{s:Soc}(h:zx0 s):zzy s:=⟨by have:=h.m5; omega,by have:=h.l3; omega⟩
theorem zzA{s:Soc}(h:zzy s):zua s=some s:=by
 unfold zua
 show zt9 s 1000000 [] [] s.Treaty.Lo s.Treaty.Hi s.Reserve 0=_
 obtain⟨h1,h2⟩:=h
 have k1:zt8 s s.Members 1000000 [] s.Treaty.Lo s.Treaty.Hi s.Reserve 0=some s:=by
  refine(zrL (l:=s.Losses) (fun r=>r) (F:=fun d acc x=>zt8 s s.Members d acc s.Treaty.Lo s.Treaty.Hi s.Reserve x) (fun acc=>some ({ Members:=s.Members,Losses:=acc,Treaty:=s.Treaty,Reserve:=s.Reserve }:Soc)) (fun d k acc a hk ha=>?_) (fun d acc=>?_) (d:=1000000) (by omega)).trans (by rw[List.map_id'])
  ·have hkl:=(List.getElem?_eq_some_iff.1 hk).1
   show zt8 s s.Members (d+1) _ _ _ _ _=_
   rw[zt8,if_pos (by omega),zrF hk,obs]
   show(some a).bind _=_
   rw[obs,zqr (by omega),zqr (fI (by omega))]
  ·show zt8 s s.Members (d+1) _ _ _ _ _=_
   rw[zt8,if_neg (Int.lt_irrefl _)]
 refine(zrL (l:=s.Members) (fun r=>r) (F:=fun d acc x=>zt9 s d acc [] s.Treaty.Lo s.Treaty.Hi s.Reserve x) (fun acc=>zt8 s acc 1000000 [] s.Treaty.Lo s.Treaty.Hi s.Reserve 0) (fun d k acc a hk ha=>?_) (fun d acc=>?_) (d:=1000000) (by omega)).trans (by rw[List.map_id']; exact k1)
 ·have hkl:=(List.getElem?_eq_some_iff.1 hk).1
  show zt9 s (d+1) _ _ _ _ _ _=_
  rw[zt9,if_pos (by omega),zrF hk,obs,zqr (by omega),zqr (fI (by omega))]
 ·show zt9 s (d+1) _ _ _ _ _ _=_
  rw[zt9,if_neg (Int.lt_irrefl _)]
theorem zzB{s:Soc}:Ev (zuh s) (zx0 s):=by
 unfold zuh
 by_cases ht:zzy s
 ·rw[zzz.some_of ht,obs,if_pos rfl,zyd ht.1 ht.2,obs];exact Ev.dec zx2
 ·rw[zzz.some_not ht,obs,if_neg (by decide)];exact Ev.ff fun h=>ht h.thin
def zzC(most:Int):Soc:={ Members:=[{ Sum:=100,Class:=2,Most:=most },{ Sum:=100,Class:=1,Most:=60 },{ Sum:=50,Class:=2,Most:=most }],Losses:=[{ Lo:=200,Hi:=210 },{ Lo:=90,Hi:=90 }],Treaty:={ Lo:=20,Hi:=25 },Reserve:=30 }
theorem zzD(most:Int):zuf most=some (zzC most):=rfl
theorem zzE{most:Int}(h:0<=most/\most<=100000):zx0 (zzC most):=by
 refine⟨Nat.le_of_ble_eq_true rfl,Nat.le_of_ble_eq_true rfl,Nat.le_of_ble_eq_true rfl,fun a ha=>?_,fun r hr=>?_,by show RgV ⟨20,25⟩; decide,by show(0:Int)<=30/\(30:Int)<=_; omega⟩
 ·rcases List.mem_cons.1 ha with rfl | ha
  ·exact⟨by show(1:Int)<=100/\(100:Int)<=1000; omega,by show(1:Int)<=2/\(2:Int)<=10; omega,h⟩
  rcases List.mem_cons.1 ha with rfl | ha
  ·exact⟨by decide,by decide,by decide⟩
  rcases List.mem_cons.1 ha with rfl | ha
  ·exact⟨by show(1:Int)<=50/\(50:Int)<=1000; omega,by show(1:Int)<=2/\(2:Int)<=10; omega,h⟩
  ·cases ha
 ·rcases List.mem_cons.1 hr with rfl | hr
  ·decide
  rcases List.mem_cons.1 hr with rfl | hr
  ·decide
  ·cases hr
theorem f64{n:Int}(h:-1000000<=n/\n<=1000000):zl6 .i64 n:=fI (by omega)
theorem zzF:zug=some true:=by
 have h5:zx0 (zzC 500):=zzE (by omega);have h1:zx0 (zzC 150):=zzE (by omega)
 have n5:ztY (zzC 500)=some ({ Lo:=235,Hi:=250 },0):=by
  rw[zyY h5]
  have e1:loN (zzC 500)=235:=by decide +kernel
  have e2:hiN (zzC 500)=250:=by decide +kernel
  rw[e1,e2]
 have c5:zt0 (zzC 500) 250=some ([127,60,63],0,0):=by
  rw[zy3 h5 (by omega)]
  have e1:zy0 (zzC 500) [] 250=[127,60,63]:=by decide +kernel
  have e2:(zxP (zzC 500).Members (zye (zzC 500).Members.length []) 250).2=0:=by decide +kernel
  rw[e1,e2]
 have b5:zt3 (zzC 500)=some (zy5 (zzC 500) [],0):=zy9 h5
 have eb:zy5 (zzC 500) []=[{ Lo:=117,Hi:=127 },{ Lo:=59,Hi:=60 },{ Lo:=59,Hi:=63 }]:=by
  have e1:(zy5 (zzC 500) []).map (·.Lo)=[117,59,59]:=by decide +kernel
  have e2:(zy5 (zzC 500) []).map (·.Hi)=[127,60,63]:=by decide +kernel
  have e3:(zy5 (zzC 500) []).length=3:=zy6 []
  revert e1 e2 e3
  generalize zy5 (zzC 500) []=l;intro e1 e2 e3
  match l,e3 with
  | [⟨a1,a2⟩,⟨b1,b2⟩,⟨c1,c2⟩],_=>
   simp only[List.map_cons,List.map_nil,List.cons.injEq,and_true] at e1 e2
   obtain⟨rfl,rfl,rfl⟩:=e1;obtain⟨rfl,rfl,rfl⟩:=e2
   rfl
 have r5:zt5 (zzC 500)=some (64,0):=by
  have m63:brN (zzC 500).Members 63 < 250:=by decide +kernel
  have m64:250<=brN (zzC 500).Members 64:=by decide +kernel
  have e2:hiN (zzC 500)=250:=by decide +kernel
  rcases zzm h5 with ⟨k,q1,q2,q3,q4⟩ | ⟨q1,q2⟩
  ·rw[e2] at q3 q4
   have hk:k=64:=by
    apply Classical.byContradiction
    intro hne
    rcases Nat.lt_or_ge k 64 with h | h
    ·have:=zzf h5.full.ms (r:=(k:Int)) (t:=63) (by omega); omega
    ·have:=q4 64 (by omega);have e:((64:Nat):Int)=64:=rfl;rw[e] at this; omega
   subst hk; exact q1
  ·have:=q2 64 (by omega);have e:((64:Nat):Int)=64:=rfl;rw[e2,e] at this; omega
 have x5:zt6 (zzC 500)=some ([0,2],0):=by
  rw[zzp h5 (by decide +kernel)]
  have e:zrv (zzC 500).Members.length (zzn (zzC 500))=[0,2]:=by decide +kernel
  rw[e]
 have x1:zt6 (zzC 150)=some ([0],0):=by
  rw[zzp h1 (by decide +kernel)]
  have e:zrv (zzC 150).Members.length (zzn (zzC 150))=[0]:=by decide +kernel
  rw[e]
 unfold zug;rw[zzD,obs,n5,obs,obs,c5,obs,obs,b5,obs,obs,r5,obs,obs,x5,obs,zzD,obs,x1,obs,eb];have s1:zsF [127,60,63] [127,60,63]=some true:=zzx (by decide) (by decide);have s2:zsF [0,2] [0,2]=some true:=zzx (by decide) (by decide);have s3:zsF [0] [0]=some true:=zzx (by decide) (by decide);have f:∀n:Int,-1000000<=n/\n<=1000000->zl6 .i64 n:=fun n h=>f64 h
 simp only[zue,obs,zqr (f 235 (by omega)),zqr (f 250 (by omega)),zqr (f 117 (by omega)),zqr (f 127 (by omega)),zqr (f 59 (by omega)),zqr (f 60 (by omega)),zqr (f 63 (by omega)),s1,s2,s3]
 simp[idx]
 rw[zqr (f 117 (by omega)),zqr (f 127 (by omega)),zqr (f 59 (by omega)),zqr (f 60 (by omega)),zqr (f 59 (by omega)),zqr (f 63 (by omega))]
theorem awk{β:Type}{f:Bool->Option β}:(zug).bind f=f true:=by rw[zzF,obs]
structure zzG (s:Soc) (t:Tr):Prop where
 len:t.Losses.length=s.Losses.length
 at_:∀(k:Nat) (r:Rg) (x:Int),s.Losses[k]? = some r->t.Losses[k]? = some x->r.Lo<=x/\x<=r.Hi
 tr:s.Treaty.Lo<=t.Treaty/\t.Treaty<=s.Treaty.Hi
def zzH(s:Soc)(t:Tr):Int:=max 0 (zwO t.Losses - s.Reserve - t.Treaty)
theorem zzI{s:Soc}{t:Tr}(h3:s.Losses.length<=1000):Ev (zs5 s t) (zzG s t):=by
 unfold zs5
 by_cases hl:t.Losses.length=s.Losses.length
 ·rw[if_pos (by omega)];refine(Ev.loop (n:=s.Losses.length) (F:=fun d x=>zs4 s t d x) (ok:=fun k=>∀(r:Rg) (x:Int),s.Losses[k]? = some r->t.Losses[k]? = some x->r.Lo<=x/\x<=r.Hi) (fin:=(zsG s.Treaty t.Treaty).bind fun r=>some r) (P:=s.Treaty.Lo<=t.Treaty/\t.Treaty<=s.Treaty.Hi) (fun d k hk=>?_) (fun d=>?_) (by omega) fun _=>zx3.ret).imp ?_
  ·have h1:=List.getElem?_eq_getElem hk;have h2:=List.getElem?_eq_getElem (show k < t.Losses.length by omega)
   show(_->zs4 s t (d+1) (k:Int)=_)/\_
   rw[zs4,if_pos (by omega),zrF h1,obs,zrF h2,obs];have:=Ev.step (f:=fun r=>if r=true then gd (zl6 .i64 ((k:Int)+1)) (zs4 s t d ((k:Int)+1)) else some false) (zx3 (r:=s.Losses[k]) (n:=t.Losses[k])) (by rw[if_pos rfl,zqr (fI (by omega))]) (by rw[if_neg (by decide)]);exact⟨fun h=>this.1 (h _ _ h1 h2),fun h=>this.2 fun h4=>h fun r x hr hx=>by rw[h1] at hr; rw[h2] at hx; cases hr; cases hx; exact h4⟩
  ·show zs4 s t (d+1) _=_
   rw[zs4,if_neg (Int.lt_irrefl _)]
  ·exact⟨fun⟨h1,h2⟩=>⟨hl,fun k r x hr hx=>h1 k (List.getElem?_eq_some_iff.1 hr).1 r x hr hx,h2⟩,fun h=>⟨fun k _ r x hr hx=>h.at_ k r x hr hx,h.tr⟩⟩
 ·rw[if_neg (by omega)]; exact Ev.ff fun h=>hl h.len
theorem zzJ{l:List Int}{k:Nat}{a:Int}(h:l[k]? = some a):zwO (l.take (k+1))=zwO (l.take k)+a:=by
 rw[List.take_add_one,h,zwP]
 show _+(a+0)=_; omega
theorem zzK{s:Soc}(hs:zx0 s){t:Tr}(ht:zzG s t):∀x∈t.Losses,0<=x/\x<=100000:=fun x hx=>by
 obtain⟨k,hk⟩:=List.mem_iff_getElem?.1 hx;have hlt:=(List.getElem?_eq_some_iff.1 hk).1;have hr:=List.getElem?_eq_getElem (show k < s.Losses.length by have:=ht.len; omega);have h1:=ht.at_ k _ x hr hk;have h2:=hs.full.ls _ (List.getElem_mem (show k < s.Losses.length by have:=ht.len; omega));unfold RgV at h2; omega
theorem zzL{l:List Int}{B:Int}(h:∀x∈l,0<=x/\x<=B):0<=zwO l/\zwO l<=B * l.length:=by
 induction l with
 | nil=>exact⟨Int.le_refl _,by show(0:Int)<=B * ((0:Nat):Int); simp⟩
 | cons a l ih=>
  have ih:=ih fun x hx=>h x (List.mem_cons_of_mem _ hx);have:=h a (List.mem_cons_self ..)
  show 0<=a+zwO l/\a+zwO l<=_
  rw[List.length_cons,Int.natCast_add,Int.mul_add]
  show _/\_<=_+B * 1
  omega
theorem zzM{s:Soc}(hs:zx0 s){t:Tr}(ht:zzG s t):ztg s t=some (zzH s t,0):=by
 have h1:=hs.m5; have h2:=hs.l3;have htr:=hs.full.tr;unfold RgV at htr;have htt:=ht.tr;have hb:=zzK hs ht;have hl:=ht.len;unfold ztg;rw[zx9 (by unfold zrP; omega) (by unfold zrP; omega),obs,if_pos (zx2.2 hs),(zzI (by omega)).some_of ht,obs,if_pos rfl];refine zww (n:=t.Losses.length) (fun d acc x=>ztf s t d acc x) (fun k=>zwO (t.Losses.take k)) (fun d k hk=>?_) (fun d=>?_) _ 0 (by omega) (by omega)
 ·have hg:=List.getElem?_eq_getElem hk;have h3:=zzL (l:=t.Losses.take k) (B:=100000) fun x hx=>hb x (List.mem_of_mem_take hx);have h4:=hb _ (List.getElem_mem hk)
  have h5:(t.Losses.take k).length<=3:=by rw[List.length_take]; omega
  show ztf s t (d+1) _ _=_
  rw[ztf,if_pos (by omega),zrF hg,obs,zqr (fI (by omega)),zqr (fI (by omega)),zzJ hg]
 ·have h3:=zzL (l:=t.Losses) (B:=100000) hb
  show ztf s t (d+1) _ _=_
  rw[ztf,if_neg (Int.lt_irrefl _),List.take_length,zyw (by omega) (by omega) hs.full.rs,obs]; rfl
theorem zzN{s:Soc}(hs:zx0 s){t:Tr}(hl:t.Losses.length<=9)(hb:∀x∈t.Losses,0<=x/\x<=100000)(ht:0<=t.Treaty/\t.Treaty<=100000):zsi s t=some (zzH s t):=by
 have hr:=hs.full.rs;unfold zsi;rw[zqr (fI (by omega)),zqr (fI (by omega))];have key:=zww (n:=t.Losses.length) (fun d acc x=>zsh t d acc x) (fun k=>0 - s.Reserve - t.Treaty+zwO (t.Losses.take k)) (fin:=some (zzH s t)) (fun d k hk=>?_) (fun d=>?_) 1000000 0 (by omega) (by omega)
 ·have e:0 - s.Reserve - t.Treaty+zwO (t.Losses.take 0)=0 - s.Reserve - t.Treaty:=by show _+0=_; omega
  rw[e] at key; exact key
 ·have hg:=List.getElem?_eq_getElem hk;have h3:=zzL (l:=t.Losses.take k) (B:=100000) fun x hx=>hb x (List.mem_of_mem_take hx);have h4:=hb _ (List.getElem_mem hk)
  have h5:(t.Losses.take k).length<=9:=by rw[List.length_take]; omega
  show zsh t (d+1) _ _=_
  rw[zsh,if_pos (by omega),zrF hg,obs,zqr (fI (by omega)),zqr (fI (by omega)),zzJ hg,Int.add_assoc]
 ·show zsh t (d+1) _ _=_
  rw[zsh,if_neg (Int.lt_irrefl _),List.take_length];unfold zzH;exact congrArg some (by omega)
theorem zzO{s:Soc}(hs:zx0 s):zsk s=some { Lo:=loN s,Hi:=hiN s }:=by
 have h2:=hs.l3;have htr:=hs.full.tr;unfold RgV at htr
 have hb:∀r∈s.Losses,(0<=r.Lo/\r.Lo<=100000)/\0<=r.Hi/\r.Hi<=100000:=fun r hr=>by have:=hs.full.ls r hr; unfold RgV at this; omega
 unfold zsk;refine zww (n:=s.Losses.length) (fun d (st:List Int × List Int) x=>zsj s d st.1 s.Treaty.Hi st.2 s.Treaty.Lo x) (fun k=>((s.Losses.take k).map (·.Lo),(s.Losses.take k).map (·.Hi))) (fun d k hk=>?_) (fun d=>?_) _ 0 (by omega) (by omega)
 ·have hg:=List.getElem?_eq_getElem hk
  show zsj s (d+1) ((s.Losses.take k).map (·.Lo)) _ ((s.Losses.take k).map (·.Hi)) _ _=_
  have hl1:((s.Losses.take k).map (·.Lo)).length<=3:=by rw[List.length_map,List.length_take]; omega
  have hl2:((s.Losses.take k).map (·.Hi)).length<=3:=by rw[List.length_map,List.length_take]; omega
  rw[zsj,if_pos (by omega),zrF hg,obs,zqr (by omega),obs,zqr (by show _+1<=_; omega),zqr (fI (by omega))];rw[List.take_add_one,hg,List.map_append,List.map_append]; rfl
 ·show zsj s (d+1) ((s.Losses.take s.Losses.length).map (·.Lo)) _ ((s.Losses.take s.Losses.length).map (·.Hi)) _ _=_
  rw[zsj,if_neg (Int.lt_irrefl _),List.take_length,zzN hs (t:={ Losses:=s.Losses.map (·.Lo),Treaty:=s.Treaty.Hi }) (by rw[List.length_map]; omega) (fun x hx=>by obtain⟨r,hr,rfl⟩:=List.mem_map.1 hx; exact(hb r hr).1) (by show 0<=s.Treaty.Hi/\s.Treaty.Hi<=100000; omega),obs,zzN hs (t:={ Losses:=s.Losses.map (·.Hi),Treaty:=s.Treaty.Lo }) (by rw[List.length_map]; omega) (fun x hx=>by obtain⟨r,hr,rfl⟩:=List.mem_map.1 hx; exact(hb r hr).2) (by show 0<=s.Treaty.Lo/\s.Treaty.Lo<=100000; omega),obs]; rfl
theorem zzP{i:Nat}(h:i<=8):2 ^ i<=256:=Nat.le_trans (Nat.pow_le_pow_right (by omega) h) (by decide)
def zzQ(n:Nat):Nat:=2 ^ n - 1
theorem zzR(n:Nat):zzQ n < 2 ^ n:=by have:0 < 2 ^ n:=Nat.two_pow_pos n; unfold zzQ; omega
theorem zzS{s:Soc}(h:s.Members.length<=8):zsw s=some (zzQ s.Members.length:Int):=by
 have hp:=zzP h;have hp0:0 < 2 ^ s.Members.length:=Nat.two_pow_pos _;have hw:zmb .u64 (s.Members.length:Int)=(s.Members.length:Int):=wz (show(0:Int)<=s.Members.length/\(s.Members.length:Int) < 18446744073709551616 by omega)
 have hpow:(1:Int) * 2 ^ (Int.toNat (zmb .u64 (s.Members.length:Int)))=((2 ^ s.Members.length:Nat):Int):=by rw[hw,Int.toNat_natCast,Int.one_mul,Int.natCast_pow]; rfl
 unfold zsw zzQ;rw[hpow,zqr (by omega),hw,zqr (by omega),zqr (by omega),zqr (fI (by omega)),zqr (fI (by omega))]
 congr 1
 omega
def zzT(B n:Nat):Nat:=Nat.land B (zzQ n)
theorem zzU(B n j:Nat):(zzT B n).testBit j=(B.testBit j && decide (j < n)):=by
 show(B &&& (2 ^ n - 1)).testBit j=_
 rw[Nat.testBit_and,Nat.testBit_two_pow_sub_one]
theorem zzV(B n:Nat):zzT B n < 2 ^ n:=Nat.lt_pow_two_of_testBit _ fun j hj=>by rw[zzU,decide_eq_false (by omega),Bool.and_false]
theorem zzW(B k:Nat):(B:Int) / 2 ^ k % 2=((B / 2 ^ k % 2:Nat):Int):=by rw[zyI]; rfl
theorem zzX{B k:Nat}:(B:Int) / 2 ^ k % 2=0↔B.testBit k=false:=by
 rw[zzW,Nat.testBit_eq_decide_div_mod_eq,decide_eq_false_iff_not]; omega
theorem zzY{B k:Nat}:(B:Int) / 2 ^ k % 2=1↔B.testBit k=true:=by
 rw[zzW,Nat.testBit_eq_decide_div_mod_eq,decide_eq_true_eq]; omega
theorem zzZ{b n:Nat}(hn:n<=5)(hb:b < 2 ^ n)(j:Nat):(j:Int)∈zyD b↔j < n/\b.testBit j=true:=by
 unfold zyD;rw[zyE]
 constructor
 ·rintro⟨_,_,h⟩
  rw[show((j:Int)).toNat=j from rfl] at h;refine⟨Nat.lt_of_not_le fun hj=>?_,h⟩
  rw[Nat.testBit_lt_two_pow (Nat.lt_of_lt_of_le hb (Nat.pow_le_pow_right (by omega) hj))] at h; cases h
 ·rintro⟨h1,h2⟩
  exact⟨by omega,by omega,h2⟩
theorem zz0{b n:Nat}(hn:n<=5)(hb:b < 2 ^ n):zyk n (zyD b):=by
 have h:=zyL (show n<=16 by omega) hb;exact⟨h.1,fun v hv=>by have:=h.2 v hv; omega⟩
theorem zz1{b n:Nat}(hn:n<=5)(hb:b < 2 ^ n)(j:Nat):zye n (zyD b) j=(decide (j < n) && !b.testBit j):=by
 unfold zye
 by_cases h:j < n
 ·have e:decide ((j:Int)∈zyD b)=b.testBit j:=by
   cases ht:b.testBit j with
   | true=>exact decide_eq_true ((zzZ hn hb j).2 ⟨h,ht⟩)
   | false=>exact decide_eq_false fun hm=>by have:=((zzZ hn hb j).1 hm).2; rw[ht] at this; cases this
  rw[e]
 ·rw[decide_eq_false h,Bool.false_and,Bool.false_and]
theorem zz2{n:Int}(h:zl6 .u8 n):∃B:Nat,n=(B:Int)/\B < 256:=⟨n.toNat,by have:=fU8 h; omega,by have:=fU8 h; omega⟩
def zz3(f:Nat->Bool)(c b:Nat->Int):Nat->Bool:=fun j=>f j || decide (c j=b j)
theorem zz4{n:Nat}(h5:n<=5){rs:List Rg}{cs:List Int}{sh:Int}{c lo hi:Nat->Int}(hc:cs.length=n)(hci:∀k,k < n->cs[k]? = some (c k))(hr:∀k,k < n->rs[k]? = some ({ Lo:=lo k,Hi:=hi k }:Rg))(b94:Bool)(x95:Int)(hx:0<=x95/\x95<=1000000)
  (K:Bool->Bool->Bool->Bool->Bool->Bool->Bool->Bool->Bool->Bool->Bool->Int->Option (Bool)) (lw hg:Nat->Bool) :
  zui (rs,0) b94 x95 (cs,sh,0) K (cs.length+1) (lw 0) (lw 1) (lw 2) (lw 3) (lw 4) (hg 0) (hg 1) (hg 2) (hg 3) (hg 4) 0 =
   K (stF (zz3 lw c lo) lw n 0) (stF (zz3 lw c lo) lw n 1) (stF (zz3 lw c lo) lw n 2) (stF (zz3 lw c lo) lw n 3) (stF (zz3 lw c lo) lw n 4) (stF (zz3 hg c hi) hg n 0) (stF (zz3 hg c hi) hg n 1) (stF (zz3 hg c hi) hg n 2) (stF (zz3 hg c hi) hg n 3) (stF (zz3 hg c hi) hg n 4) b94 (x95+1):=by
 have key:=zww (n:=n) (fun d (p:(Nat->Bool) × (Nat->Bool)) x=>zui (rs,0) b94 x95 (cs,sh,0) K d (p.1 0) (p.1 1) (p.1 2) (p.1 3) (p.1 4) (p.2 0) (p.2 1) (p.2 2) (p.2 3) (p.2 4) x) (fun k=>(stF (zz3 lw c lo) lw k,stF (zz3 hg c hi) hg k)) (fin:=K (stF (zz3 lw c lo) lw n 0) (stF (zz3 lw c lo) lw n 1) (stF (zz3 lw c lo) lw n 2) (stF (zz3 lw c lo) lw n 3) (stF (zz3 lw c lo) lw n 4) (stF (zz3 hg c hi) hg n 0) (stF (zz3 hg c hi) hg n 1) (stF (zz3 hg c hi) hg n 2) (stF (zz3 hg c hi) hg n 3) (stF (zz3 hg c hi) hg n 4) b94 (x95+1)) (fun d k hk=>?_) (fun d=>?_) (cs.length+1) 0 (by omega) (by omega)
 ·rw[zwA,zwA] at key; exact key
 ·have fin:∀a b:Bool,a=zz3 lw c lo k->b=zz3 hg c hi k ->
    zui (rs,0) b94 x95 (cs,sh,0) K d (sti (k:Int) 0 a (stF (zz3 lw c lo) lw k 0)) (sti (k:Int) 1 a (stF (zz3 lw c lo) lw k 1)) (sti (k:Int) 2 a (stF (zz3 lw c lo) lw k 2)) (sti (k:Int) 3 a (stF (zz3 lw c lo) lw k 3)) (sti (k:Int) 4 a (stF (zz3 lw c lo) lw k 4)) (sti (k:Int) 0 b (stF (zz3 hg c hi) hg k 0)) (sti (k:Int) 1 b (stF (zz3 hg c hi) hg k 1)) (sti (k:Int) 2 b (stF (zz3 hg c hi) hg k 2)) (sti (k:Int) 3 b (stF (zz3 hg c hi) hg k 3)) (sti (k:Int) 4 b (stF (zz3 hg c hi) hg k 4)) ((k:Int)+1) =
    zui (rs,0) b94 x95 (cs,sh,0) K d (stF (zz3 lw c lo) lw (k+1) 0) (stF (zz3 lw c lo) lw (k+1) 1) (stF (zz3 lw c lo) lw (k+1) 2) (stF (zz3 lw c lo) lw (k+1) 3) (stF (zz3 lw c lo) lw (k+1) 4) (stF (zz3 hg c hi) hg (k+1) 0) (stF (zz3 hg c hi) hg (k+1) 1) (stF (zz3 hg c hi) hg (k+1) 2) (stF (zz3 hg c hi) hg (k+1) 3) (stF (zz3 hg c hi) hg (k+1) 4) ((k:Int)+1):=fun a b ha hb=>by
   subst ha; subst hb
   simp only[zwD]
  show zui (rs,0) b94 x95 (cs,sh,0) K (d+1) _ _ _ _ _ _ _ _ _ _ _=_
  rw[zui,if_pos (by show(k:Int) < (cs.length:Int); omega)]
  show(idx (l5 (stF (zz3 lw c lo) lw k)) (k:Int)).bind _=_
  rw[zwy (by omega),obs,zwB];have eh:idx ([stF (zz3 hg c hi) hg k 0,stF (zz3 hg c hi) hg k 1,stF (zz3 hg c hi) hg k 2,stF (zz3 hg c hi) hg k 3,stF (zz3 hg c hi) hg k 4]:List Bool) (k:Int)=some (hg k):=(zwy (f:=stF (zz3 hg c hi) hg k) (by omega)).trans (by rw[zwB]);have ec:idx (cs,sh,(0:Int)).1 (k:Int)=some (c k):=zrF (hci k hk);have er:idx (rs,(0:Int)).1 (k:Int)=some ({ Lo:=lo k,Hi:=hi k }:Rg):=zrF (hr k hk)
  have hk5:(k:Int) < 5:=by omega
  have hk0:(0:Int)<=k:=by omega
  have hf:zl6 .i64 ((k:Int)+1):=fI (by omega)
  cases hl:lw k with
  | true=>
   rw[if_pos rfl,eh,obs]
   cases hh:hg k with
   | true=>
    rw[if_pos rfl,zqr ⟨hk0,hk5⟩,zqr ⟨hk0,hk5⟩,zqr hf];exact fin true true (by unfold zz3; rw[hl]; rfl) (by unfold zz3; rw[hh]; rfl)
   | false=>
    rw[if_neg (by decide),ec,obs,er,obs,zqr ⟨hk0,hk5⟩,zqr ⟨hk0,hk5⟩,zqr hf];exact fin true (decide (c k=hi k)) (by unfold zz3; rw[hl]; rfl) (by unfold zz3; rw[hh]; rfl)
  | false=>
   rw[if_neg (by decide),ec,obs,er,obs,eh,obs]
   cases hh:hg k with
   | true=>
    rw[if_pos rfl,zqr ⟨hk0,hk5⟩,zqr ⟨hk0,hk5⟩,zqr hf];exact fin (decide (c k=lo k)) true (by unfold zz3; rw[hl]; rfl) (by unfold zz3; rw[hh]; rfl)
   | false=>
    rw[if_neg (by decide),obs,obs,zqr ⟨hk0,hk5⟩,zqr ⟨hk0,hk5⟩,zqr hf];exact fin (decide (c k=lo k)) (decide (c k=hi k)) (by unfold zz3; rw[hl]; rfl) (by unfold zz3; rw[hh]; rfl)
 ·show zui (rs,0) b94 x95 (cs,sh,0) K (d+1) _ _ _ _ _ _ _ _ _ _ _=_
  rw[zui,if_neg (by show ¬ (n:Int) < (cs.length:Int); omega),zqr (fI (by omega))]
theorem zz5{B n:Nat}(hB:B < 256)(h5:n<=5){rs ws:List Rg}(hr:rs.length=n)(hw:∀k,k < n->B.testBit k=true->ws[k]? = some ({ Lo:=0,Hi:=0 }:Rg)){lw hg:Nat->Bool}(hlw:∀k,k < n->lw k=true)(hhg:∀k,k < n->hg k=true) :
  ∀(d k:Nat),k<=n->n - k < d->zuj (B:Int) (rs,0) (ws,0) (lw 0) (lw 1) (lw 2) (lw 3) (lw 4) (hg 0) (hg 1) (hg 2) (hg 3) (hg 4) d (k:Int)=some true
 | 0,_,_,h=>by omega
 | d+1,k,hk,hd=>by
  rw[zuj]
  by_cases hkn:k < n
  ·have hbz:(B:Int) / 2 ^ k % 2=0\/(B:Int) / 2 ^ k % 2=1:=by omega
   have hq0:0<=(B:Int) / 2 ^ k:=by rw[zyI]; exact Int.natCast_nonneg _
   have hq1:(B:Int) / 2 ^ k<=B:=by rw[zyI]; exact Int.ofNat_le.2 (Nat.div_le_self _ _)
   have hw1:zmb .i64 (B:Int)=(B:Int):=wz (fI (by omega))
   have ek:(k:Int)+1=((k+1:Nat):Int):=by omega
   rw[if_pos (by show(k:Int) < (rs.length:Int); omega)]
   show(idx (l5 lw) (k:Int)).bind _=_
   rw[zwy (by omega),obs,if_pos (hlw k hkn)]
   show(idx (l5 hg) (k:Int)).bind _=_
   rw[zwy (by omega),obs,if_pos (hhg k hkn),hw1,wu (by omega),zqr (by omega),zqr (by omega),zqr (by omega),Int.toNat_natCast,zqr (fI (by omega)),zqr hq0,zqr (by omega),zqr (fI (by omega))]
   cases hb:B.testBit k with
   | false=>
    rw[if_neg (by have:=(zzX (B:=B) (k:=k)).2 hb; omega),zqr (fI (by omega)),ek];exact zz5 hB h5 hr hw hlw hhg d (k+1) (by omega) (by omega)
   | true=>
    rw[if_pos (zzY.2 hb)]
    show(idx ws (k:Int)).bind _=_
    rw[zrF (hw k hkn hb),obs,zqr (show zl6 .i64 (0:Int) from fI (by omega)),zqr (fI (by omega)),zqr (show zl6 .i64 (0:Int) from fI (by omega)),zqr (fI (by omega)),if_pos (by decide),zqr (fI (by omega)),ek];exact zz5 hB h5 hr hw hlw hhg d (k+1) (by omega) (by omega)
  ·rw[if_neg (by show ¬ (k:Int) < (rs.length:Int); omega),awk]
def clS(s:Soc)(k:Nat)(N:Int):Int:=(zxP s.Members (zye s.Members.length []) N).1 k
theorem zz6{s:Soc}(hs:zx0 s){B:Nat}(hB:B < 256){ws:List Rg}(hw:∀k,k < s.Members.length->B.testBit k=true->ws[k]? = some ({ Lo:=0,Hi:=0 }:Rg)):∀(d:Nat) (b94:Bool) (N:Int) (lw hg:Nat->Bool),loN s<=N->(hiN s+1 - N).toNat < d ->
  (∀k,k < s.Members.length->∀M,loN s<=M->M < N->M<=hiN s->(clS s k M=(bnd s (clS s k)).Lo->lw k=true)/\(clS s k M=(bnd s (clS s k)).Hi->hg k=true)) ->
  zuk s (B:Int) ({ Lo:=loN s,Hi:=hiN s },0) (zy5 s [],0) (ws,0) d (lw 0) (lw 1) (lw 2) (lw 3) (lw 4) (hg 0) (hg 1) (hg 2) (hg 3) (hg 4) b94 N=some true
 | 0,_,_,_,_,_,hd,_=>by omega
 | d+1,b94,N,lw,hg,hlo,hd,hinv=>by
  have hnb:=zyu hs;have h5:=hs.m5;have l1:=zy6 (s:=s) [];rw[zuk]
  by_cases hN:N<=hiN s
  ·have l2:=zy1 (s:=s) [] N h5;rw[if_pos (by show N<=hiN s; exact hN),zzA hs.thin,obs,zy3 hs (by omega),obs,if_pos rfl,if_pos (by show((zy0 s [] N).length:Int)=((zy5 s []).length:Int); rw[l1,l2])];refine(zz4 (n:=s.Members.length) h5 (c:=fun k=>clS s k N) (lo:=fun k=>(bnd s (clS s k)).Lo) (hi:=fun k=>(bnd s (clS s k)).Hi) l2 (fun k hk=>zy2 [] N h5 hk) (fun k hk=>zy7 [] hk) b94 N (by omega) _ lw hg).trans ?_;refine zz6 hs hB hw d b94 (N+1) _ _ (by omega) (by omega) fun k hk M h1 h2 h3=>?_;rw[zwC _ _ hk,zwC _ _ hk]
   by_cases hM:M < N
   ·have:=hinv k hk M h1 hM h3;exact⟨fun h=>by show(lw k || _)=true; rw[this.1 h]; rfl,fun h=>by show(hg k || _)=true; rw[this.2 h]; rfl⟩
   ·have hM:M=N:=by omega
    subst hM;exact⟨fun h=>by show(lw k || decide _)=true; rw[decide_eq_true h]; simp,fun h=>by show(hg k || decide _)=true; rw[decide_eq_true h]; simp⟩
  ·rw[if_neg (by show ¬ N<=hiN s; exact hN)];refine zz5 hB h5 l1 hw (fun k hk=>?_) (fun k hk=>?_) _ 0 (Nat.zero_le _) (by show s.Members.length - 0 < (zy5 s []).length+1; omega)
   ·obtain⟨⟨M,hM,e⟩,_,_⟩:=zyT hs (clS s k);exact(hinv k hk M hM.1 (by omega) hM.2).1 e
   ·obtain⟨_,⟨M,hM,e⟩,_⟩:=zyT hs (clS s k);exact(hinv k hk M hM.1 (by omega) hM.2).2 e
theorem zz7{s:Soc}{bits:Int}(_:zr9 s)(hb:zl6 .u8 bits):zul s bits=some true:=by
 obtain⟨B,rfl,hB⟩:=zz2 hb;unfold zul
 refine zzB.pick (fun hs=>?_) fun _=>by rw[if_neg (by decide),awk]
 have h5:=hs.m5;have hnb:=zyu hs;have hw1:zmb .i64 (B:Int)=(B:Int):=wz (fI (by omega));have hpw:=zzP (show s.Members.length<=8 by omega);have hfl:=zzR s.Members.length;have hml:=zzV B s.Members.length;rw[if_pos rfl,hw1,zzA hs.thin,obs,zyY hs,obs,obs,zy9 hs,obs,obs,zzS (by omega),obs,zqr (by omega),zqr (by omega),zqr (fI (by omega)),zqr (fI (by omega)),Int.toNat_natCast,Int.toNat_natCast]
 show gd (zl6 .i64 (zzT B s.Members.length:Int)) ((zsB (zzT B s.Members.length:Int)).bind _)=_
 have hlb:=zzv (b:=zzT B s.Members.length)
 have hshrt:zrP (zyD (zzT B s.Members.length)):=by unfold zrP; omega
 have l1:=zy6 (s:=s) [];have l2:=zy6 (s:=s) (zyD (zzT B s.Members.length));rw[zqr (fI (by omega)),zzr (by omega),obs,zy8 hs hshrt (zz0 h5 hml),obs,if_pos rfl,if_pos rfl,if_pos rfl,zzO hs,obs]
 show gd (zl6 .i64 (loN s)) _=_
 rw[zqr (fI (by omega)),zqr (show zl6 .i64 (loN s) from fI (by omega)),zqr (show zl6 .i64 (hiN s) from fI (by omega)),zqr (show zl6 .i64 (hiN s) from fI (by omega)),if_pos (by rw[decide_eq_true rfl,decide_eq_true rfl]; rfl),if_pos (by show((zy5 s []).length:Int)=_; rw[l1]),if_pos (by show((zy5 s (zyD _)).length:Int)=((zy5 s []).length:Int); rw[l1,l2])]
 refine zz6 hs hB (fun k hk hbk=>?_) 1000000 false (loN s) (fun _=>false) (fun _=>false) (Int.le_refl _) (by omega) fun k hk M h1 h2 h3=>by omega
 rw[zy7 _ hk]
 have hz:∀N,loN s<=N/\N<=hiN s->(zxP s.Members (zye s.Members.length (zyD (zzT B s.Members.length))) N).1 k=0:=fun N hN=>
  zxW hs.msOk (zyg s.Members _) (by omega) (by omega) (by rw[zz1 h5 hml,zzU,hbk,decide_eq_true hk]; rfl)
 obtain⟨⟨a,ha,ea⟩,⟨b,hb',eb⟩,_⟩:=zyT hs fun N=>(zxP s.Members (zye s.Members.length (zyD (zzT B s.Members.length))) N).1 k;have e1:=hz a ha;have e2:=hz b hb'
 congr 1
 generalize bnd s _=r at ea eb
 cases r
 simp only at ea eb
 rw[<- ea,<- eb,e1,e2]
end
end Go.Proofs.Ytkclhciahokifaa

namespace Go.Proofs.Ytkclhciahokifaa
open _root_.Go.Proofs.Try
open Go.ChangeShapes Go.WideShapes Go.ChangeAt Go.RowKit Go.Abs
set_option maxRecDepth 100000
theorem op3:zrV prog 3 Int (zl6 .i64):=zrW (by kernel_rfl)
theorem zz8:zrV prog 82 Mb zr7:=zr3 (fs:=[(3,0),(3,1),(3,2)]) (by kernel_rfl) (by kernel_rfl) (zr2 (α:=Int) (ok:=zl6 .i64) (k:=1) op3 (by kernel_rfl) rfl (zr2 (α:=Int) (ok:=zl6 .i64) (k:=1) op3 (by kernel_rfl) rfl (zr2 (α:=Int) (ok:=zl6 .i64) (k:=1) op3 (by kernel_rfl) rfl zr1))) (by kernel_rfl) fun m vs h=>by
 obtain⟨a0,c0,r0,m0,h0,p0,k0,s0,⟨a1,c1,r1,m1,h1,p1,k1,s1,⟨a2,c2,r2,m2,h2,p2,k2,s2,rfl⟩⟩⟩:=h;have p0:c0=[.int .i64 a0]:=p0; subst p0;have p1:c1=[.int .i64 a1]:=p1; subst p1;have p2:c2=[.int .i64 a2]:=p2; subst p2;subst h2 h1 h0;exact⟨⟨a0,a1,a2⟩,rfl,⟨k0,k1,k2⟩⟩
theorem zz9:zrV prog 22 (List Mb) (fun l=>l.length<=maxLen/\∀a0∈l,zr7 a0):=zrY (by kernel_rfl) (by kernel_rfl) zz8
theorem zAa:zrV prog 25 Rg zr5:=zr3 (fs:=[(3,0),(3,1)]) (by kernel_rfl) (by kernel_rfl) (zr2 (α:=Int) (ok:=zl6 .i64) (k:=1) op3 (by kernel_rfl) rfl (zr2 (α:=Int) (ok:=zl6 .i64) (k:=1) op3 (by kernel_rfl) rfl zr1)) (by kernel_rfl) fun m vs h=>by
 obtain⟨a0,c0,r0,m0,h0,p0,k0,s0,⟨a1,c1,r1,m1,h1,p1,k1,s1,rfl⟩⟩:=h;have p0:c0=[.int .i64 a0]:=p0; subst p0;have p1:c1=[.int .i64 a1]:=p1; subst p1;subst h1 h0;exact⟨⟨a0,a1⟩,rfl,⟨k0,k1⟩⟩
theorem zAb:zrV prog 23 (List Rg) (fun l=>l.length<=maxLen/\∀a0∈l,zr5 a0):=zrY (by kernel_rfl) (by kernel_rfl) zAa
theorem zAc:zrV prog 27 Soc zr9:=zr3 (fs:=[(22,0),(23,1),(25,2),(3,4)]) (by kernel_rfl) (by kernel_rfl) (zr2 (α:=List Mb) (ok:=(fun l=>l.length<=maxLen/\∀a0∈l,zr7 a0)) (k:=1) zz9 (by kernel_rfl) rfl (zr2 (α:=List Rg) (ok:=(fun l=>l.length<=maxLen/\∀a0∈l,zr5 a0)) (k:=1) zAb (by kernel_rfl) rfl (zr2 (α:=Rg) (ok:=zr5) (k:=2) zAa (by kernel_rfl) rfl (zr2 (α:=Int) (ok:=zl6 .i64) (k:=1) op3 (by kernel_rfl) rfl zr1)))) (by kernel_rfl) fun m vs h=>by
 obtain⟨a0,c0,r0,m0,h0,p0,k0,s0,⟨a1,c1,r1,m1,h1,p1,k1,s1,⟨a2,c2,r2,m2,h2,p2,k2,s2,⟨a3,c3,r3,m3,h3,p3,k3,s3,rfl⟩⟩⟩⟩:=h;obtain⟨d0,rfl,p0⟩:=p0;obtain⟨d1,rfl,p1⟩:=p1;have p2:c2=[.int .i64 a2.Lo,.int .i64 a2.Hi]:=p2; subst p2;have p3:c3=[.int .i64 a3]:=p3; subst p3;subst h3 h2 h1 h0;exact⟨⟨a0,a1,a2,a3⟩,⟨_,_,rfl,p0,p1⟩,⟨k0,k1,k2,k3⟩⟩
theorem zAd:laidOutB prog=true:=by kernel_rfl
theorem zAe:ownKnob prog.godebug=none:=by kernel_rfl
theorem zAf(os:Os)(started:os.Started)(H:Type)(enc:TypeId × Value->H) :
    ReturnsInHanded {} Try.checked os 9 .any (Rows.callEndsSpec.pre6 enc Try.prog Try.f9 Rows.callEndsRow.domain false) (Rows.callEndsSpec.post enc Try.prog Try.f9 false true false false):=by
  refine returnsInHanded_of_change (C:=Try.checked) zAe started (by kernel_rfl) Try.func9
    (ChangeSpec.witness6 (enc:=enc) (C:=Try.checked) false ⟨#[],#[.agg #[.slice none 0 0,.slice none 0 0,.int .i64 0,.int .i64 0,.int .i64 0],.int .u8 0],[]⟩ 8 (by kernel_rfl) (by kernel_rfl) (by kernel_rfl) (by kernel_rfl)) ?_
  intro W base args ds gs before hval0 hW hcnd _;have hval:∀(j:Nat) t v,Try.f9.params[j]? = some t->args[j]? = some v->Value.okWide Try.prog W .any base t v:=hval0;have hW':=hW;obtain⟨p,q,hA0,hV,rfl,hfz,hnd⟩:=hW;have hA:DataW.TrodAll enc Try.prog W 0 (fun _=>true) true Try.f9.params.toList args.toList ds p:=hA0;rw[Try.params9] at hA hval;obtain⟨v0,v1,d0,d1,p0,p1,rfl,rfl,rfl,h0,h1⟩:=trodAll_two hA;obtain⟨rfl,rfl⟩:=trodVars_none hV;obtain⟨n1,hv1⟩:=okWide_int Try.underlying5 (hval 1 5 v1 rfl rfl)
  have hlt:∀x∈p0++p1,x.block < W.heap.size:=fun x hx=>by simpa using hW'.lt x (by simpa using hx)
  obtain⟨fu0,hf0⟩:=id h0;obtain⟨fu1,hf1⟩:=id h1
  clear hA0 hval0
  obtain⟨e0,m0,w0,a_0,le0,sv0,lay0,cr0,zuO,ok0⟩:=zAc H enc W true _ _ _ hf0 _ _ (Lay.nil W);obtain⟨i1,hc1,_,hw1⟩:=DataW.trod_int Try.underlying5 hf1;obtain⟨c0_0,c0_1,rfl,g0_0,g0_1⟩:=zuO
  obtain⟨cs0,hv0,cl0⟩:∃cs,v0=.agg cs/\v0.cells.toList=cs.toList:=by
    have hl:=cr0.length
    cases v0 with
    | agg cs=>exact⟨cs,rfl,rfl⟩
    | _=>exact absurd hl (by simp[Value.cells])
  subst hv0;subst hv1
  have hi1:i1=n1:=by
    have h:[Value.int .u8 n1]=[.int .u8 i1]:=hc1
    cases h; rfl
  subst hi1;have hargs:zeq (VR e0) [.agg 5 [c0_0,c0_1,.int .i64 a_0.Treaty.Lo,.int .i64 a_0.Treaty.Hi,.int .i64 a_0.Reserve],.c (.int .u8 i1)] [.agg cs0,.int .u8 i1]:=.cons ⟨cs0,rfl,cr0,rfl⟩ (.cons rfl .nil);refine(callsIn_wide.1 (zqB fits htab (zwv (s:=a_0) (bits:=i1) lay0.pre g0_0 g0_1 (zz7 ok0 (zqz hw1)) (Q:=fun v _=>v=.c (.bool true)) fun _ _=>rfl) lay0.hr (args':=#[.agg cs0,.int .u8 i1]) hargs 0)).mono fun en W' hp=>?_;obtain⟨v,v',e',m',rfl,hst,hvr,rfl⟩:=hp;have hv':v'=.bool true:=hvr;subst hv';have hbelow:=lay0.below hst
  refine⟨_,rfl,[d0,d1],[],p0++p1,[],p0++p1,[],by simpa using hW',trodAll_mk1 (shut_bool Try.underlying4 _),
    trodAll_mk2 (Below.trod zAd (by kernel_rfl) (of_decide_eq_true (by kernel_rfl)) h0 hbelow fun x hx=>hlt x (by simp[hx])) (Below.trod zAd (by kernel_rfl) (of_decide_eq_true (by kernel_rfl)) h1 hbelow fun x hx=>hlt x (by simp[hx])),rfl,lay0.kept hst _,fun hc=>by cases hc⟩
theorem CallEnds_holds:Rows.CallEndsSaid:=
 OpenClaim.holds_of_wide 9 Try.f9 rfl rfl rfl rfl rfl rfl rfl ⟨rfl,rfl,rfl,rfl,rfl⟩ rfl rfl rfl rfl rfl (by kernel_rfl) Try.func9 (by kernel_rfl)
  (of_decide_eq_true (by kernel_rfl)) (by unfold Func.isWrapper; first | (rw[if_pos (by decide +kernel)]; kernel_rfl) | (rw[if_neg (by decide +kernel)]; exact⟨rfl,rfl⟩))
  (fun os started H enc _=>zAf os started H enc)
end Go.Proofs.Ytkclhciahokifaa

