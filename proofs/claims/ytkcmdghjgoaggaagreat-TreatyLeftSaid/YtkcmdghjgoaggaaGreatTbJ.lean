/- TreatyLeft, for all that it can be called with, returns true. Condition: none. -/
import Derived.Test.YtkcmdghjgoaggaaGreatTbI
import GoSem.Step
import GoSem.ClaimKeys
import Derived.DeepKeys2
import Derived.RangeFuncLeaves
import Derived.OrdersIn
import Derived.Laws.World
import Derived.Laws.Sem
import Derived.RangeFuncRecord
import Derived.Laws.CopyRow
import Derived.Laws.Append
import Derived.Laws.Rows
import Derived.Laws.Slices
import Derived.Laws.Entries
import Derived.ChangeKeysEq
import Derived.IntWalk
import Derived.DeepKeys
import Derived.DeepKeys3
import Derived.Laws.StructEq
import Derived.MapKept
import Derived.Laws.AppendOwn
import Derived.ChangeArms
import Derived.ChangeOld
import Derived.Carry
import Derived.ChangeShapes
import Derived.KernelRfl
import Derived.ProofKit
import Derived.Test.YtkcmdghjgoaggaaGreatRows

namespace Go.Proofs.YtkcmdghjgoaggaaGreat
open _root_.Go.Proofs.Tryz
open Go.Abs
set_option maxRecDepth 100000
noncomputable section
theorem zAl{n:Nat}(h:n<=5)(f:Nat->Int){k:Nat}(hk:k < n):idx (lN n f) (k:Int)=some (f k):=zrQ (zAd h f hk)
theorem zAm{n:Nat}(h:n<=5)(f:Nat->Int){i:Int}(h0:0<=i)(hk:i < n):idx (lN n f) i=some (f i.toNat):=by
 have:=zAl h f (k:=i.toNat) (by omega)
 rwa [show((i.toNat:Nat):Int)=i by omega] at this
theorem zAn{n:Nat}(h:n<=5){l:List Int}{f:Nat->Int}(hl:l.length=n)(ha:∀k,k < n->l[k]? = some (f k)):l=lN n f:=by
 refine List.ext_getElem? fun k=>?_
 by_cases hk:k < n
 ·rw[ha k hk,zAd h f hk]
 ·rw[List.getElem?_eq_none (by omega),List.getElem?_eq_none (by rw[zAc h]; omega)]
theorem zAo{n:Nat}(h:n<=5)(f:Nat->Int){k:Nat}(hk:k < n)(a:Int):(lN n f).set k a=lN n (upF f k a):=by
 refine zAn h (by rw[List.length_set,zAc h]) fun j hj=>?_
 by_cases hjk:j=k
 ·subst hjk; rw[List.getElem?_set_self (by rw[zAc h]; exact hj),zyj]
 ·rw[List.getElem?_set_ne (Ne.symm hjk),zAd h f hj,zyk _ _ hjk]
theorem zAp{n:Nat}(h:n<=5):List.replicate n (0:Int)=lN n fun _=>0:=zAn h (List.length_replicate ..) fun k hk=>by rw[List.getElem?_replicate,if_pos hk]
theorem zAq{n:Nat}(h:n<=5){f g:Nat->Int}(hfg:∀k,k < n->f k=g k):lN n f=lN n g:=zAn h (zAc h f) fun k hk=>by rw[zAd h f hk,hfg k hk]
def a1(ts:List Ty)(th:Nat->Bool)(P:Nat->Int)(x:Int):Nat->(Nat->Int) × Int
 | 0=>(fun _=>0,x)
 | k+1=>match ts[k]? with
  | some t=>if t.Of < 0/\th k=true then (upF (a1 ts th P x k).1 k (zy0 t (a1 ts th P x k).2 (P k)),(a1 ts th P x k).2 - zy0 t (a1 ts th P x k).2 (P k)) else a1 ts th P x k
  | none=>a1 ts th P x k
theorem zAr{ts:List Ty}{th:Nat->Bool}{P:Nat->Int}{x:Int}{k:Nat}{t:Ty}(h:ts[k]? = some t):a1 ts th P x (k+1)=if t.Of < 0/\th k=true then (upF (a1 ts th P x k).1 k (zy0 t (a1 ts th P x k).2 (P k)),(a1 ts th P x k).2 - zy0 t (a1 ts th P x k).2 (P k)) else a1 ts th P x k:=by
 show(match ts[k]? with | some t=>_ | none=>_)=_
 rw[h]
def a2(ts:List Ty)(P:Nat->Int)(now:Nat->Int):Nat->(Nat->Int) × (Nat->Int)
 | 0=>(now,now)
 | k+1=>match ts[k]? with
  | some t=>if 0<=t.Of then (upF (a2 ts P now k).1 k (zy0 t ((a2 ts P now k).2 t.Of.toNat) (P k)),upF (upF (a2 ts P now k).2 k (zy0 t ((a2 ts P now k).2 t.Of.toNat) (P k))) t.Of.toNat ((a2 ts P now k).2 t.Of.toNat - zy0 t ((a2 ts P now k).2 t.Of.toNat) (P k))) else a2 ts P now k
  | none=>a2 ts P now k
theorem zAs{ts:List Ty}{P now:Nat->Int}{k:Nat}{t:Ty}(h:ts[k]? = some t):a2 ts P now (k+1)=if 0<=t.Of then (upF (a2 ts P now k).1 k (zy0 t ((a2 ts P now k).2 t.Of.toNat) (P k)),upF (upF (a2 ts P now k).2 k (zy0 t ((a2 ts P now k).2 t.Of.toNat) (P k))) t.Of.toNat ((a2 ts P now k).2 t.Of.toNat - zy0 t ((a2 ts P now k).2 t.Of.toNat) (P k))) else a2 ts P now k:=by
 show(match ts[k]? with | some t=>_ | none=>_)=_
 rw[h]
structure I1 (ts:List Ty) (P:Nat->Int) (x:Int) (s:(Nat->Int) × Int):Prop where
 left:0<=s.2/\s.2<=x
 now:∀j,0<=s.1 j/\s.1 j<=x
 cap:zy9 ts fun j=>P j+s.1 j
theorem zAt{ts:List Ty}{th:Nat->Bool}(hts:zza ts){P:Nat->Int}(hP:zy9 ts P){x:Int}(hx:0<=x/\x<=100000):∀k,k<=ts.length->I1 ts P x (a1 ts th P x k)
 | 0,_=>⟨⟨hx.1,Int.le_refl _⟩,fun _=>⟨Int.le_refl _,hx.1⟩,fun j t ht h1=>by have:=hP j t ht h1; show P j+0<=_; omega⟩
 | k+1,hk=>by
  have ih:=zAt (th:=th) hts hP hx k (by omega);have hg:=List.getElem?_eq_getElem (show k < ts.length by omega);have hkd:=hts.k _ (List.getElem_mem (show k < ts.length by omega));rw[zAr hg];generalize a1 ts th P x k=s at ih ⊢;generalize ts[k]'(by omega)=t at hg hkd
  by_cases hc:t.Of < 0/\th k=true
  ·rw[if_pos hc];have hl:=ih.left;have hb:=zy3 hkd (a:=s.2) (b:=P k) (by omega) (hP k t hg);refine⟨by show 0<=s.2 - _/\s.2 - _<=x; omega,fun j=>?_,fun j t' ht' h'=>?_⟩
   ·show 0<=upF s.1 k _ j/\upF s.1 k _ j<=x
    by_cases hjk:j=k
    ·subst hjk; rw[zyj]; omega
    ·rw[zyk _ _ hjk]; exact ih.now j
   ·show P j+upF s.1 k _ j<=_
    by_cases hjk:j=k
    ·subst hjk; rw[hg] at ht'; cases ht'; rw[zyj]; exact hb.2.2 h'
    ·rw[zyk _ _ hjk]; exact ih.cap j t' ht' h'
  ·rw[if_neg hc]; exact ih
structure I2 (ts:List Ty) (P:Nat->Int) (x:Int) (s:(Nat->Int) × (Nat->Int)):Prop where
 now:∀j,0<=s.1 j/\s.1 j<=x
 rest:∀j,0<=s.2 j/\s.2 j<=x
 cap:zy9 ts fun j=>P j+s.1 j
theorem zAu{ts:List Ty}(hts:zza ts){P now:Nat->Int}(hP:zy9 ts P){x:Int}(hx:0<=x/\x<=100000)(hn:∀j,0<=now j/\now j<=x)(hc:zy9 ts fun j=>P j+now j):∀k,k<=ts.length->I2 ts P x (a2 ts P now k)
 | 0,_=>⟨hn,hn,hc⟩
 | k+1,hk=>by
  have ih:=zAu hts hP hx hn hc k (by omega);have hg:=List.getElem?_eq_getElem (show k < ts.length by omega);have hkd:=hts.k _ (List.getElem_mem (show k < ts.length by omega));rw[zAs hg];generalize a2 ts P now k=s at ih ⊢;generalize ts[k]'(by omega)=t at hg hkd
  by_cases ho:0<=t.Of
  ·rw[if_pos ho];have hr:=ih.rest t.Of.toNat;have hb:=zy3 hkd (a:=s.2 t.Of.toNat) (b:=P k) (by omega) (hP k t hg);refine⟨fun j=>?_,fun j=>?_,fun j t' ht' h'=>?_⟩
   ·show 0<=upF s.1 k _ j/\upF s.1 k _ j<=x
    by_cases hjk:j=k
    ·subst hjk; rw[zyj]; omega
    ·rw[zyk _ _ hjk]; exact ih.now j
   ·show 0<=upF (upF s.2 k _) _ _ j/\upF (upF s.2 k _) _ _ j<=x
    by_cases hjo:j=t.Of.toNat
    ·subst hjo; rw[zyj]; omega
    ·rw[zyk _ _ hjo]
     by_cases hjk:j=k
     ·subst hjk; rw[zyj]; omega
     ·rw[zyk _ _ hjk]; exact ih.rest j
   ·show P j+upF s.1 k _ j<=_
    by_cases hjk:j=k
    ·subst hjk; rw[hg] at ht'; cases ht'; rw[zyj]; exact hb.2.2 h'
    ·rw[zyk _ _ hjk]; exact ih.cap j t' ht' h'
  ·rw[if_neg ho]; exact ih
def zAv(ts:List Ty)(th:Nat->Bool)(s:(Nat->Int) × Int)(x:Int):(Nat->Int) × Int:=
 (fun j=>s.1 j+(a2 ts s.1 (a1 ts th s.1 x ts.length).1 ts.length).1 j,s.2+(a1 ts th s.1 x ts.length).2)
def zAw(ts:List Ty)(th:Nat->Bool)(L:List Int):(Nat->Int) × Int:=L.foldl (zAv ts th) (fun _=>0,0)
structure RI (ts:List Ty) (B:Int) (s:(Nat->Int) × Int):Prop where
 net:0<=s.2/\s.2<=B
 pays:∀j,0<=s.1 j/\s.1 j<=B
 cap:zy9 ts s.1
theorem RI.step{ts:List Ty}{th:Nat->Bool}(hts:zza ts){B:Int}{s:(Nat->Int) × Int}(h:RI ts B s){x:Int}(hx:0<=x/\x<=100000):RI ts (B+x) (zAv ts th s x):=by
 have h1:=zAt (th:=th) hts h.cap hx ts.length (Nat.le_refl _);have h2:=zAu hts h.cap hx h1.now h1.cap ts.length (Nat.le_refl _);refine⟨?_,fun j=>?_,h2.cap⟩
 ·have:=h.net; have:=h1.left; show 0<=s.2+_/\s.2+_<=_; omega
 ·have:=h.pays j; have:=h2.now j; show 0<=s.1 j+_/\s.1 j+_<=_; omega
theorem wu{n:Nat}(h:n<=64):zmc .u64 (n:Int)=(n:Int):=wz (show(0:Int)<=n/\(n:Int) < 18446744073709551616 by omega)
theorem zAx(B k:Nat):(B:Int) / 2 ^ k % 2=((B / 2 ^ k % 2:Nat):Int):=by rw[zxY]; rfl
theorem zAy{B k:Nat}:(B:Int) / 2 ^ k % 2=1↔B.testBit k=true:=by
 rw[zAx,Nat.testBit_eq_decide_div_mod_eq,decide_eq_true_eq]; omega
section
variable {p:Pg} (h:VP p)
theorem zAz(h:VP p){x6 x7 x16:Int}{now:Nat->Int}{K:Int->Int->List Int->Option (List Int × Int)}{P:Nat->Int}(hP:∀j,0<=P j/\P j<=100000)(hn:∀j,0<=now j/\now j<=100000)(hx:0<=x7/\x7<=100000):zsF p x6 x7 x16 (lN p.Treaties.length now) K 1000000 0 (lN p.Treaties.length P)=K (x6+x16) (x7+1) (lN p.Treaties.length fun j=>P j+now j):=by
 have h5:=h.t5
 let st:Nat->List Int:=fun k=>lN p.Treaties.length fun j=>if j < k then P j+now j else P j
 have key:=zye (n:=p.Treaties.length) (fun d (s:List Int) y=>zsF p x6 x7 x16 (lN p.Treaties.length now) K d y s) st (fin:=K (x6+x16) (x7+1) (lN p.Treaties.length fun j=>P j+now j)) (fun d k hk=>?_) (fun d=>?_) 1000000 0 (by omega) (by omega)
 ·exact key
 ·have h1:=hP k;have h2:=hn k
  show zsF p x6 x7 x16 (lN p.Treaties.length now) K (d+1) (k:Int) (lN p.Treaties.length fun j=>if j < k then P j+now j else P j)=_
  rw[zsF,if_pos (by omega),zAl h5 _ hk,obs,zAl h5 _ hk,obs,if_neg (by omega),zqs (fI (by omega)),obs,zqs (fI (by omega)),Int.toNat_natCast,zAo h5 _ hk]
  have e:(lN p.Treaties.length (upF (fun j=>if j < k then P j+now j else P j) k (P k+now k)))=st (k+1):=zAq h5 fun j hj=>by
   by_cases hjk:j=k
   ·subst hjk; rw[zyj,if_pos (by omega)]
   ·rw[zyk _ _ hjk]
    by_cases h3:j < k
    ·rw[if_pos h3,if_pos (by omega)]
    ·rw[if_neg h3,if_neg (by omega)]
  rw[e]
 ·show zsF p x6 x7 x16 (lN p.Treaties.length now) K (d+1) (p.Treaties.length:Int) (lN p.Treaties.length fun j=>if j < p.Treaties.length then P j+now j else P j)=_
  rw[zsF,if_neg (by omega),zqs (fI (by omega))]
  have e:(lN p.Treaties.length fun j=>if j < p.Treaties.length then P j+now j else P j)=lN p.Treaties.length fun j=>P j+now j:=zAq h5 fun j hj=>by rw[if_pos hj]
  rw[e]
theorem zAA(h:VP p){x6 x7 x16:Int}{K:Int->Int->List Int->Option (List Int × Int)}{P now:Nat->Int}(hP:∀j,0<=P j/\P j<=100000)(hcap:zy9 p.Treaties P){x:Int}(hx:0<=x/\x<=1000)(hn:∀j,0<=now j/\now j<=x)(hcn:zy9 p.Treaties fun j=>P j+now j)(hx7:0<=x7/\x7<=100000) :
  zsG p x6 x7 x16 K 1000000 0 (lN p.Treaties.length P) (lN p.Treaties.length now) (lN p.Treaties.length now)=K (x6+x16) (x7+1) (lN p.Treaties.length fun j=>P j+(a2 p.Treaties P now p.Treaties.length).1 j):=by
 have h5:=h.t5;have key:=zye (n:=p.Treaties.length) (fun d (s:(Nat->Int) × (Nat->Int)) y=>zsG p x6 x7 x16 K d y (lN p.Treaties.length P) (lN p.Treaties.length s.1) (lN p.Treaties.length s.2)) (fun k=>a2 p.Treaties P now k) (fin:=K (x6+x16) (x7+1) (lN p.Treaties.length fun j=>P j+(a2 p.Treaties P now p.Treaties.length).1 j)) (fun d k hk=>?_) (fun d=>?_) 1000000 0 (by omega) (by omega)
 ·exact key
 ·have hg:=List.getElem?_eq_getElem hk;have hkd:=h.tsOk.k _ (List.getElem_mem hk);have hof:=h.of' k _ hg;have ih:=zAu h.tsOk hcap (x:=x) (by omega) hn hcn k (by omega);rw[zAs hg];generalize a2 p.Treaties P now k=s at ih ⊢;rw[zsG,if_pos (by omega),zrQ hg,obs];generalize p.Treaties[k]=t at hg hkd hof
  by_cases ho:0<=t.Of
  ·have hr:=ih.rest t.Of.toNat;have hb:=zy3 hkd (a:=s.2 t.Of.toNat) (b:=P k) (by omega) (hcap k t hg);have hPk:=hP k;have htk:=zy6 hkd (a:=s.2 t.Of.toNat) (b:=P k) (by omega) (by omega)
   have hne:t.Of.toNat ≠ k:=by omega
   have hoo:((t.Of.toNat:Nat):Int)=t.Of:=by omega
   rw[if_pos ho,if_pos ho,zAm h5 _ ho (by omega),obs,zAl h5 _ hk,obs,htk,obs,zAl h5 _ hk,obs,Int.toNat_natCast,zAo h5 _ hk,zAl h5 _ hk,obs,zyj,zAl h5 _ hk,obs,zAo h5 _ hk,zAm h5 _ ho (by omega),obs,zyk _ _ hne,obs,zqs (fI (by omega)),obs,zqs (fI (by omega)),zAo h5 _ (show t.Of.toNat < p.Treaties.length by omega)]
  ·rw[if_neg ho,if_neg ho,zqs (fI (by omega))]
 ·have i2:=zAu h.tsOk hcap (x:=x) (by omega) hn hcn p.Treaties.length (Nat.le_refl _);rw[zsG,if_neg (by omega)];exact zAz h hP (fun j=>by have:=i2.now j; omega) hx7
theorem zAB(h:VP p){b:Nat}(hb:b < 1000000){x6 x7:Int}{K:Int->Int->List Int->Option (List Int × Int)}{P:Nat->Int}(hP:∀j,0<=P j/\P j<=100000)(hcap:zy9 p.Treaties P){x:Int}(hx:0<=x/\x<=1000)(hx6:0<=x6/\x6<=100000)(hx7:0<=x7/\x7<=100000) :
  zsH p (b:Int) x6 x7 K 1000000 x 0 (lN p.Treaties.length P) (List.replicate (Int.toNat (p.Treaties.length:Int)) 0)=K (x6+(a1 p.Treaties (fun k=>b.testBit k) P x p.Treaties.length).2) (x7+1) (lN p.Treaties.length fun j=>P j+(a2 p.Treaties P (a1 p.Treaties (fun k=>b.testBit k) P x p.Treaties.length).1 p.Treaties.length).1 j):=by
 have h5:=h.t5;rw[Int.toNat_natCast,zAp h5];have key:=zye (n:=p.Treaties.length) (fun d (s:(Nat->Int) × Int) y=>zsH p (b:Int) x6 x7 K d s.2 y (lN p.Treaties.length P) (lN p.Treaties.length s.1)) (fun k=>a1 p.Treaties (fun k=>b.testBit k) P x k) (fin:=K (x6+(a1 p.Treaties (fun k=>b.testBit k) P x p.Treaties.length).2) (x7+1) (lN p.Treaties.length fun j=>P j+(a2 p.Treaties P (a1 p.Treaties (fun k=>b.testBit k) P x p.Treaties.length).1 p.Treaties.length).1 j)) (fun d k hk=>?_) (fun d=>?_) 1000000 0 (by omega) (by omega)
 ·exact key
 ·have hg:=List.getElem?_eq_getElem hk;have hkd:=h.tsOk.k _ (List.getElem_mem hk);have hof:=h.of' k _ hg;have ih:=zAt (th:=fun k=>b.testBit k) h.tsOk hcap (x:=x) (by omega) k (by omega);rw[zAr hg];generalize a1 p.Treaties (fun k=>b.testBit k) P x k=s at ih ⊢;rw[zsH,if_pos (by omega),zrQ hg,obs];generalize p.Treaties[k]=t at hg hkd hof
  by_cases ho:t.Of < 0
  ·have hdv:(0:Int)<=(b:Int) / 2 ^ k/\(b:Int) / 2 ^ k<=1000000:=by
    have hq0:=Nat.div_le_self b (2 ^ k);rw[zxY];generalize b / 2 ^ k=q at hq0
    omega
   rw[if_pos ho,zqs (by omega),wu (show k<=64 by omega),zqs (by omega),zqs (by omega),Int.toNat_natCast,zqs (fI (by omega)),zqs hdv.1,zqs (by omega),zqs (fI (by omega))]
   by_cases hbt:b.testBit k=true
   ·have hl:=ih.left;have hbd:=zy3 hkd (a:=s.2) (b:=P k) (by omega) (hcap k t hg);have hPk:=hP k;have htk:=zy6 hkd (a:=s.2) (b:=P k) (by omega) (by omega);rw[if_pos (zAy.2 hbt),if_pos ⟨ho,hbt⟩,zAl h5 _ hk,obs,htk,obs,zAl h5 _ hk,obs,zAo h5 _ hk,zAl h5 _ hk,obs,zyj,zqs (fI (by omega)),zqs (fI (by omega))]
   ·rw[if_neg fun hc=>hbt (zAy.1 hc),if_neg fun hc=>hbt hc.2,zqs (fI (by omega))]
  ·rw[if_neg ho,if_neg fun hc=>ho hc.1,zqs (fI (by omega))]
 ·have i1:=zAt (th:=fun k=>b.testBit k) h.tsOk hcap (x:=x) (by omega) p.Treaties.length (Nat.le_refl _);have hl:=i1.left;rw[zsH,if_neg (by omega),zqs (fI (by omega)),zqs (by rw[zAc h5]; simp only[List.length_nil]; omega),List.nil_append];exact zAA h hP hcap hx i1.now i1.cap hx7
theorem zAC(h:VP p){b:Nat}(hb:b < 1000000){L:List Int}(hL:∀x∈L,0<=x/\x<=1000)(hl:L.length<=9):∀(d k:Nat) (s:(Nat->Int) × Int),k<=L.length->L.length - k < d->RI p.Treaties (1000 * k) s ->
  zsI p L (b:Int) d s.2 (k:Int) (lN p.Treaties.length s.1)=some (lN p.Treaties.length ((L.drop k).foldl (zAv p.Treaties fun k=>b.testBit k) s).1,((L.drop k).foldl (zAv p.Treaties fun k=>b.testBit k) s).2)
 | 0,_,_,_,hd,_=>by omega
 | d+1,k,s,hk,hd,hs=>by
  have h5:=h.t5;rw[zsI]
  by_cases hkl:k < L.length
  ·have hg:=List.getElem?_eq_getElem hkl;have hx:=hL _ (List.getElem_mem hkl);have hn:=hs.net;rw[if_pos (by omega),zrQ hg,obs,zqs (by omega),zAB h hb (fun j=>by have:=hs.pays j; omega) hs.cap hx (by omega) (by omega),show(k:Int)+1=((k+1:Nat):Int) by omega,List.drop_eq_getElem_cons hkl];have hs':=hs.step (th:=fun k=>b.testBit k) h.tsOk (x:=L[k]) (by omega);exact zAC h hb hL hl d (k+1) (zAv p.Treaties (fun k=>b.testBit k) s L[k]) (by omega) (by omega) ⟨by have:=hs'.net; omega,fun j=>by have:=hs'.pays j; omega,hs'.cap⟩
  ·rw[if_neg (by omega),List.drop_eq_nil_of_le (by omega)]
   rfl
theorem zAD(h:VP p){b:Nat}(hb:b < 1000000){L:List Int}(hL:∀x∈L,0<=x/\x<=1000)(hl:L.length<=9):zsJ p L (b:Int)=some (lN p.Treaties.length (zAw p.Treaties (fun k=>b.testBit k) L).1,(zAw p.Treaties (fun k=>b.testBit k) L).2):=by
 have h5:=h.t5;unfold zsJ;rw[zqs (by omega),Int.toNat_natCast,zAp h5];exact zAC h hb hL hl (L.length+1) 0 (fun _=>0,0) (Nat.zero_le _) (by omega) ⟨⟨Int.le_refl _,Int.le_refl _⟩,fun _=>⟨Int.le_refl _,Int.le_refl _⟩,zzh h.tsOk⟩
end
def ofB(ts:List Ty)(j:Nat):Bool:=match ts[j]? with | some t=>decide (t.Of < 0) | none=>false
theorem zAE{ts:List Ty}{j:Nat}{t:Ty}(h:ts[j]? = some t):ofB ts j=decide (t.Of < 0):=by unfold ofB; rw[h]
end
end Go.Proofs.YtkcmdghjgoaggaaGreat

namespace Go.Proofs.YtkcmdghjgoaggaaGreat
open _root_.Go.Proofs.Tryz
open Go.Abs
set_option maxRecDepth 100000
noncomputable section
theorem zAF{b:Nat}(hb:b < 65536):∀(d p:Nat) (acc:List Int),p<=16->16 - p < d->acc=zxS b p->zsR (b:Int) d acc (p:Int)=some (zxT b)
 | 0,_,_,_,h,_=>by omega
 | d+1,p,acc,hp,h,ha=>by
  have hle:b / 2 ^ p<=b:=Nat.div_le_self _ _;rw[zsR,wu (show p<=64 by omega)]
  have hq:(b:Int) / 2 ^ ((p:Int)).toNat=((b / 2 ^ p:Nat):Int):=by rw[Int.toNat_natCast]; simp
  rw[hq]
  clear hq
  have hl:=zxX (b:=b) p;have hbit:b.testBit p=decide (b / 2 ^ p % 2=1):=Nat.testBit_eq_decide_div_mod_eq ..
  have h16:p=16->b / 2 ^ p=0:=fun he=>by subst he; exact Nat.div_eq_of_lt (by omega)
  have h0':b / 2 ^ p=0->zxS b p=zxT b:=fun h9=>by
   have:=zxW (b:=b) (p:=p) (fun q hq=>zjo h9 hq) (16 - p);rw[show p+(16 - p)=16 by omega] at this;exact this.symm
  generalize b / 2 ^ p=q at hle hbit h16 h0' ⊢;rw[zqs (by omega),zqs (by omega),zqs (by omega),zqs (fI (by omega))]
  by_cases h0:0 < q
  ·have hp16:p < 16:=by
    rcases Nat.lt_or_ge p 16 with h1 | h1
    ·exact h1
    ·have:=h16 (by omega); omega
   rw[if_pos (by omega),zqs (by omega),zqs (by omega),zqs (by omega),zqs (fI (by omega)),zqs (by omega),zqs (by omega),zqs (fI (by omega))]
   by_cases h1:q % 2=1
   ·rw[if_pos (by omega),zqs (show acc.length < 1048576 by rw[ha]; omega),zqs (fI (by omega)),show(p:Int)+1=((p+1:Nat):Int) by omega];refine zAF hb d (p+1) _ (by omega) (by omega) ?_
    show _=zxS b p++(if b.testBit p then [(p:Int)] else [])
    rw[ha,hbit,h1]; rfl
   ·rw[if_neg (by omega),zqs (fI (by omega)),show(p:Int)+1=((p+1:Nat):Int) by omega];refine zAF hb d (p+1) _ (by omega) (by omega) ?_
    show _=zxS b p++(if b.testBit p then [(p:Int)] else [])
    rw[ha,hbit,decide_eq_false h1]; simp
  ·rw[if_neg (by omega),ha];exact congrArg some (h0' (by omega))
theorem zAG{b:Nat}(hb:b < 65536):zsS (b:Int)=some (zxT b):=zAF hb 1000000 0 [] (Nat.zero_le _) (by omega) rfl
theorem zAH{a b:List Int}(hl:a.length<=1000):∀(d k:Nat),k<=a.length->a.length - k < d->zsT a b d (k:Int)=some (bef (a.drop k) (b.drop k))
 | 0,_,_,h=>by omega
 | d+1,k,hk,h=>by
  rw[zsT]
  by_cases hka:k < a.length
  ·rw[if_pos (by omega)];have da:=List.drop_eq_getElem_cons hka;have ga:=List.getElem?_eq_getElem hka
   by_cases hkb:k < b.length
   ·have db:=List.drop_eq_getElem_cons hkb;have gb:=List.getElem?_eq_getElem hkb;rw[if_pos (by omega),zrQ ga,obs,zrQ gb,obs,da,db];unfold bef
    by_cases he:a[k]=b[k]
    ·rw[if_pos he,if_pos he,zqs (fI (by omega)),show(k:Int)+1=((k+1:Nat):Int) by omega];exact zAH hl d (k+1) (by omega) (by omega)
    ·rw[if_neg he,if_neg he,obs,obs]
   ·rw[if_neg (by omega),da,List.drop_eq_nil_of_le (show b.length<=k by omega),decide_eq_false (by omega)]; rfl
  ·rw[if_neg (by omega),List.drop_eq_nil_of_le (show a.length<=k by omega)]
   by_cases hkb:k < b.length
   ·rw[List.drop_eq_getElem_cons hkb,decide_eq_true (by omega)]; rfl
   ·rw[List.drop_eq_nil_of_le (show b.length<=k by omega),decide_eq_false (by omega)]; rfl
theorem zAI{a b:List Int}(hl:a.length<=1000):zsU a b=some (bef a b):=zAH hl (a.length+1) 0 (Nat.zero_le _) (by omega)
theorem zAJ{a b:List Int}(hl:a.length<=1000):zsV a b=some (shB a b):=by
 unfold zsV shB
 by_cases h1:a.length < b.length
 ·rw[if_pos (by omega),decide_eq_true h1]; rfl
 ·rw[if_neg (by omega),decide_eq_false h1]
  by_cases h2:a.length=b.length
  ·rw[if_pos (by omega),zAI hl,decide_eq_true h2]; simp
  ·rw[if_neg (by omega),decide_eq_false h2]; simp
def zAK(n:Nat):List Int:=(List.range n).map fun j=>((j:Nat):Int)
theorem zAL(n:Nat):Inc n 0 (zAK n):=by
 refine⟨?_,fun v hv=>?_⟩
 ·unfold zAK;rw[List.pairwise_map]
  exact List.pairwise_lt_range.imp fun h=>by omega
 ·obtain⟨j,hj,rfl⟩:=List.mem_map.1 hv;have:=List.mem_range.1 hj
  omega
theorem zAM{n j:Nat}(h:j < n):inD (zAK n) j=true:=decide_eq_true (List.mem_map.2 ⟨j,List.mem_range.2 h,rfl⟩)
theorem zAN{b:Nat}:(zxT b).length<=16:=zxX 16
structure zAO (n:Nat) (P:(Nat->Bool)->Prop) (M:List Int):Prop where
 inc:Inc n 0 M
 ok:P (inD M)
 min:∀D,Inc n 0 D->P (inD D)->D=M\/shB M D=true
theorem zAO.uniq{n:Nat}{P:(Nat->Bool)->Prop}{M M':List Int}(h:zAO n P M)(h':zAO n P M'):M=M':=by
 rcases h.min M' h'.inc h'.ok with h1 | h1
 ·exact h1.symm
 ·rcases h'.min M h.inc h.ok with h2 | h2
  ·exact h2
  ·rw[zx2 h1] at h2; cases h2
def macc(S:Nat->Bool):Nat->Nat
 | 0=>0
 | i+1=>if S i=true then macc S i ||| 2 ^ i else macc S i
theorem zAP(S:Nat->Bool)(j:Nat):∀i,(macc S i).testBit j=(decide (j < i) && S j)
 | 0=>by simp[macc]
 | i+1=>by
  have ih:=zAP S j i;unfold macc
  by_cases hs:S i=true
  ·rw[if_pos hs,Nat.testBit_or,ih,Nat.testBit_two_pow]
   by_cases h:i=j
   ·subst h; simp[hs]
   ·have:decide (j < i+1)=decide (j < i):=decide_eq_decide.2 (by omega);rw[this]; simp[h]
  ·rw[if_neg hs,ih]
   by_cases h:i=j
   ·subst h
    have:S i=false:=by simpa using hs
    rw[this]; simp
   ·have:decide (j < i+1)=decide (j < i):=decide_eq_decide.2 (by omega);rw[this]
theorem zAQ{n:Nat}:2 ^ n - 1 < 2 ^ n:=by have:=Nat.two_pow_pos n; omega
theorem zAR{n b:Nat}(_hb:b < 2 ^ n):Nat.xor (2 ^ n - 1) (Nat.land (2 ^ n - 1) b) < 2 ^ n/\∀j,j < n->(Nat.xor (2 ^ n - 1) (Nat.land (2 ^ n - 1) b)).testBit j = !b.testBit j:=by
 have e:∀j,(Nat.xor (2 ^ n - 1) (Nat.land (2 ^ n - 1) b)).testBit j=(decide (j < n) ^^ (decide (j < n) && b.testBit j)):=fun j=>by
  show((2 ^ n - 1) ^^^ ((2 ^ n - 1) &&& b)).testBit j=_
  rw[Nat.testBit_xor,Nat.testBit_and,Nat.testBit_two_pow_sub_one]
 refine⟨Nat.lt_pow_two_of_testBit _ fun j hj=>?_,fun j hj=>?_⟩
 ·rw[e,decide_eq_false (by omega)]; rfl
 ·rw[e,decide_eq_true hj]
  cases b.testBit j <;> rfl
theorem zAS{i:Nat}(h:i<=6):2 ^ i<=64:=Nat.pow_le_pow_right (n:=2) (by omega) h
def zAT:List Rg->Int->List Int
 | [],_=>[]
 | r::rs,n=>(r.Lo+n % (r.Hi - r.Lo+1))::zAT rs (n / (r.Hi - r.Lo+1))
theorem zAU:∀{rs:List Rg} {n:Int},(∀r∈rs,r.Lo<=r.Hi)->0<=n->inL rs (zAT rs n)
 | [],_,_,_=>trivial
 | r::rs,n,h,h0=>by
  have hr:=h r (List.mem_cons_self ..);have h1:=Int.emod_nonneg n (show r.Hi - r.Lo+1 ≠ 0 by omega);have h2:=Int.emod_lt_of_pos n (show 0 < r.Hi - r.Lo+1 by omega);exact⟨⟨by omega,by omega⟩,zAU (fun r hr=>h r (List.mem_cons_of_mem _ hr)) (Int.ediv_nonneg h0 (by omega))⟩
theorem zAV:∀{rs:List Rg} {L:List Int},inL rs L->∃n,0<=n/\n < zys rs/\zAT rs n=L
 | [],[],_=>⟨0,Int.le_refl _,by show(0:Int) < 1; omega,rfl⟩
 | [],_::_,h=>h.elim
 | _::_,[],h=>h.elim
 | r::rs,x::xs,h=>by
  obtain⟨n,h0,h1,h2⟩:=zAV h.2;have hx:=h.1;obtain⟨c,hc⟩:∃c,c=r.Hi - r.Lo+1:=⟨_,rfl⟩;refine⟨(x - r.Lo)+c * n,?_,?_,?_⟩
  ·have:=Int.mul_nonneg (show 0<=c by omega) h0; omega
  ·show _ < (r.Hi - r.Lo+1) * zys rs
   rw[<- hc];have:=Int.mul_le_mul_of_nonneg_left (show n+1<=zys rs by omega) (show 0<=c by omega);rw[Int.mul_add,Int.mul_one] at this
   omega
  ·show(r.Lo+_ % (r.Hi - r.Lo+1))::zAT rs (_ / (r.Hi - r.Lo+1))=_
   rw[<- hc,Int.add_mul_emod_self_left,Int.emod_eq_of_lt (by omega) (by omega),Int.add_mul_ediv_left _ _ (by omega),Int.ediv_eq_zero_of_lt (by omega) (by omega),Int.zero_add,h2]
   congr 1; omega
theorem zAW{p:Pg}(h:VP p):∀(d k:Nat) (acc:List Int) (n:Int),k<=p.Losses.length->p.Losses.length - k < d->acc.length=k->0<=n/\n<=100000->zsB p d acc n (k:Int)=some (acc++zAT (p.Losses.drop k) n)
 | 0,_,_,_,_,hd,_,_=>by omega
 | d+1,k,acc,n,hk,hd,ha,hn=>by
  have h4:=h.l4;rw[zsB]
  by_cases hkl:k < p.Losses.length
  ·have hg:=List.getElem?_eq_getElem hkl;have hr:=h.ls _ (List.getElem_mem hkl);rw[List.drop_eq_getElem_cons hkl];generalize p.Losses[k]=r at hg hr;have hr':=hr;unfold RgV at hr';have h1:=Int.emod_nonneg n (show r.Hi - r.Lo+1 ≠ 0 by omega);have h2:=Int.emod_lt_of_pos n (show 0 < r.Hi - r.Lo+1 by omega);have h3:=Int.ediv_nonneg hn.1 (show 0<=r.Hi - r.Lo+1 by omega);have h5:=Int.ediv_le_self (r.Hi - r.Lo+1) hn.1
   simp only[zrQ hg,obs,zyR hr]
   rw[if_pos (by omega),zqs hn.1,zqs (by omega),zqs (fI (by omega)),zqs (fI (by omega)),zqs (by omega),zqs hn.1,zqs (by omega),zqs (fI (by omega)),zqs (fI (by omega)),show(k:Int)+1=((k+1:Nat):Int) by omega];refine(zAW h d (k+1) (acc++[r.Lo+n % (r.Hi - r.Lo+1)]) (n / (r.Hi - r.Lo+1)) (by omega) (by omega) (by rw[List.length_append,ha]; rfl) (by omega)).trans ?_;rw[List.append_assoc]; rfl
  ·rw[if_neg (by omega),List.drop_eq_nil_of_le (by omega)]
   show _=some (acc++[])
   rw[List.append_nil]
theorem zAX{p:Pg}(h:VP p){n:Int}(hn:0<=n/\n<=100000):zsC p n=some (zAT p.Losses n):=zAW h 1000000 0 [] n (Nat.zero_le _) (by have:=h.l4; omega) rfl hn
theorem VP.nthIn{p:Pg}(h:VP p){n:Int}(hn:0<=n):inL p.Losses (zAT p.Losses n):=zAU (fun r hr=>(h.ls r hr).2.1) hn
theorem zAY{n:Nat}(h:n<=6):(1:Int) * 2 ^ (Int.toNat (zmc .u64 (n:Int)))=((2 ^ n:Nat):Int):=by rw[wu (by omega),Int.toNat_natCast,Int.one_mul,Int.natCast_pow]; rfl
theorem zAZ{n:Nat}(h:n<=6):(gd ((0:Int)<=(1:Int)) (gd ((0:Int)<=(zmc .u64 (n:Int))) (gd ((zmc .u64 (n:Int))<=(64:Int)) (gd (zl7 .i64 ((1:Int) * ((2:Int) ^ (Int.toNat (zmc .u64 (n:Int)))))) (gd (zl7 .i64 (((1:Int) * ((2:Int) ^ (Int.toNat (zmc .u64 (n:Int))))) - (1:Int))) (some (((1:Int) * ((2:Int) ^ (Int.toNat (zmc .u64 (n:Int))))) - (1:Int))))))))=some ((2 ^ n - 1:Nat):Int):=by
 have hp:=zAS h;have hp0:0 < 2 ^ n:=Nat.two_pow_pos _;rw[zAY h,zqs (by omega),wu (by omega),zqs (by omega),zqs (by omega),zqs (fI (by omega)),zqs (fI (by omega))]
 congr 1
 omega
theorem zA0{p:Pg}(h:VP p):zsM p=some ((2 ^ p.Reports.length - 1:Nat):Int):=zAZ (by have:=h.r5; omega)
theorem l9{p:Pg}(h:VP p){L:List Int}(hL:inL p.Losses L):L.length<=9:=by rw[zzt hL]; have:=h.l4; omega
open Classical in
def agR(P:Nat->Int)(r:Rpt):Prop:=r.Paid.Lo<=P r.Treaty.toNat/\P r.Treaty.toNat<=r.Paid.Hi
open Classical in
def agf(p:Pg)(L:List Int)(j:Nat):Bool:=decide (∀r,p.Reports[j]? = some r->agR (zzg p.Treaties L).pays r)
open Classical in
theorem zA1{p:Pg}{L:List Int}{j:Nat}{r:Rpt}(h:p.Reports[j]? = some r):agf p L j=true↔agR (zzg p.Treaties L).pays r:=by
 unfold agf;rw[decide_eq_true_eq];exact⟨fun q=>q r h,fun q r' h'=>by rw[h] at h'; cases h'; exact q⟩
def zA2(p:Pg)(L:List Int):Nat:=macc (agf p L) p.Reports.length
def PL(p:Pg)(S:Nat->Bool):Prop:=∃L,inL p.Losses L/\∀j,j < p.Reports.length->S j=false->agf p L j=true
theorem PL.congr{p:Pg}{S S':Nat->Bool}(h:∀j,j < p.Reports.length->S j=S' j):PL p S↔PL p S':=
 exists_congr fun _=>and_congr_right fun _=>forall_congr' fun j=>forall_congr' fun hj=>by rw[h j hj]
theorem zA3{p:Pg}(h:VP p){L:List Int}(hL:inL p.Losses L):(∀j,0<=(zzg p.Treaties L).pays j/\(zzg p.Treaties L).pays j<=4000)/\(∀j,0<=(zzg p.Treaties L).keeps j/\(zzg p.Treaties L).keeps j<=4000)/\0<=(zzg p.Treaties L).soc/\(zzg p.Treaties L).soc<=4000:=by
 obtain⟨h1,h2,h3⟩:=zzK h hL;refine⟨fun j=>?_,fun j=>?_,?_⟩
 ·have:=h1.pays j; omega
 ·have:=h1.keeps j; omega
 ·have:=h1.soc; omega
theorem VP.prodPos{p:Pg}(h:VP p):1<=zys p.Losses:=(zyH h.ls h.l4).1
end
end Go.Proofs.YtkcmdghjgoaggaaGreat

namespace Go.Proofs.YtkcmdghjgoaggaaGreat
open _root_.Go.Proofs.Tryz
open Go.Abs
set_option maxRecDepth 100000
noncomputable section
theorem zA4{p:Pg}{L:List Int}:zA2 p L=2 ^ p.Reports.length - 1↔agN (zzg p.Treaties L).pays p.Reports:=by
 constructor
 ·intro h r hr;obtain⟨j,hj⟩:=List.mem_iff_getElem?.1 hr;have hjl:=(List.getElem?_eq_some_iff.1 hj).1
  have e:(zA2 p L).testBit j=true:=by rw[h,Nat.testBit_two_pow_sub_one,decide_eq_true hjl]
  unfold zA2 at e;rw[zAP] at e;exact(zA1 hj).1 (Bool.and_eq_true_iff.1 e).2
 ·intro h
  apply Nat.eq_of_testBit_eq
  intro j;unfold zA2;rw[zAP,Nat.testBit_two_pow_sub_one]
  by_cases hj:j < p.Reports.length
  ·have hg:=List.getElem?_eq_getElem hj;rw[decide_eq_true hj,(zA1 hg).2 (h _ (List.getElem_mem hj))]; rfl
  ·rw[decide_eq_false hj]; rfl
def trL(p:Pg):List (List Int):=((List.range (zys p.Losses).toNat).filter fun n:Nat=>decide (zA2 p (zAT p.Losses (n:Int))=2 ^ p.Reports.length - 1)).map fun n:Nat=>zAT p.Losses (n:Int)
theorem zA5{p:Pg}(h:VP p){L:List Int}:L∈trL p↔TrS p p.Reports L:=by
 unfold trL TrS;rw[List.mem_map]
 constructor
 ·rintro⟨n,hn,rfl⟩
  obtain⟨_,h2⟩:=List.mem_filter.1 hn;exact⟨h.nthIn (by omega),zA4.1 (of_decide_eq_true h2)⟩
 ·rintro⟨hL,hA⟩
  obtain⟨n,n0,n1,rfl⟩:=zAV hL;refine⟨n.toNat,List.mem_filter.2 ⟨List.mem_range.2 (by omega),decide_eq_true ?_⟩,?_⟩
  ·rw[show((n.toNat:Nat):Int)=n by omega]; exact zA4.2 hA
  ·show zAT p.Losses ((n.toNat:Nat):Int)=_
   rw[show((n.toNat:Nat):Int)=n by omega]
theorem zA6{p:Pg}:zzY p p.Reports↔PL p fun j=>!(2 ^ p.Reports.length - 1).testBit j:=by
 constructor
 ·rintro⟨L,h1,h2⟩
  exact⟨L,h1,fun j hj _=>(zA1 (List.getElem?_eq_getElem hj)).2 (h2 _ (List.getElem_mem hj))⟩
 ·rintro⟨L,h1,h2⟩
  refine⟨L,h1,fun r hr=>?_⟩;obtain⟨j,hj⟩:=List.mem_iff_getElem?.1 hr;have hjl:=(List.getElem?_eq_some_iff.1 hj).1;exact(zA1 hj).1 (h2 j hjl (by show(!(2 ^ p.Reports.length - 1).testBit j)=false; rw[Nat.testBit_two_pow_sub_one,decide_eq_true hjl]; rfl))
def wd(r:Rg)(x:Int):Rg:={ Lo:=min r.Lo x,Hi:=max r.Hi x }
def emp:Rg:={ Lo:=1099511627776,Hi:=-1099511627776 }
def wdL(g:List Int->Int)(l:List (List Int)):Rg:=l.foldl (fun r L=>wd r (g L)) emp
theorem zA7{g:List Int->Int}{l:List (List Int)}{k:Nat}{L:List Int}(h:l[k]? = some L):wdL g (l.take (k+1))=wd (wdL g (l.take k)) (g L):=by
 unfold wdL;rw[List.take_add_one,h,List.foldl_append]; rfl
theorem zA8{g:List Int->Int}:∀(l:List (List Int)) (r:Rg),((l.foldl (fun r L=>wd r (g L)) r).Lo=r.Lo\/∃L∈l,g L=(l.foldl (fun r L=>wd r (g L)) r).Lo)/\((l.foldl (fun r L=>wd r (g L)) r).Hi=r.Hi\/∃L∈l,g L=(l.foldl (fun r L=>wd r (g L)) r).Hi)/\(l.foldl (fun r L=>wd r (g L)) r).Lo<=r.Lo/\r.Hi<=(l.foldl (fun r L=>wd r (g L)) r).Hi/\∀L∈l,(l.foldl (fun r L=>wd r (g L)) r).Lo<=g L/\g L<=(l.foldl (fun r L=>wd r (g L)) r).Hi
 | [],r=>⟨.inl rfl,.inl rfl,Int.le_refl _,Int.le_refl _,fun L hL=>by cases hL⟩
 | L::l,r=>by
  obtain⟨a,b,c,d,e⟩:=zA8 (g:=g) l (wd r (g L));have h1:(wd r (g L)).Lo=min r.Lo (g L):=rfl;have h2:(wd r (g L)).Hi=max r.Hi (g L):=rfl;rw[h1] at a c;rw[h2] at b d;rw[List.foldl_cons];generalize l.foldl (fun r L=>wd r (g L)) (wd r (g L))=R at a b c d e ⊢;refine⟨?_,?_,by clear a b; omega,by clear a b; omega,fun L' hL'=>?_⟩
  ·clear b
   rcases a with a | ⟨L',q1,q2⟩
   ·rcases Int.le_total r.Lo (g L) with h | h
    ·exact .inl (by omega)
    ·exact .inr ⟨L,List.mem_cons_self ..,by omega⟩
   ·exact .inr ⟨L',List.mem_cons_of_mem _ q1,q2⟩
  ·clear a
   rcases b with b | ⟨L',q1,q2⟩
   ·rcases Int.le_total (g L) r.Hi with h | h
    ·exact .inl (by omega)
    ·exact .inr ⟨L,List.mem_cons_self ..,by omega⟩
   ·exact .inr ⟨L',List.mem_cons_of_mem _ q1,q2⟩
  ·clear a b
   rcases List.mem_cons.1 hL' with h | h
   ·subst h; omega
   ·exact e L' h
theorem zA9{g:List Int->Int}{l:List (List Int)}(hne:l ≠ [])(hb:∀L∈l,-1000000<=g L/\g L<=1000000):IsB (·∈l) g (wdL g l):=by
 obtain⟨a,b,c,d,e⟩:=zA8 (g:=g) l emp;have h1:emp.Lo=1099511627776:=rfl;have h2:emp.Hi = -1099511627776:=rfl;rw[h1] at a c;rw[h2] at b d;obtain⟨L0,hL0⟩:=List.exists_mem_of_ne_nil l hne;have q1:=hb L0 hL0;have q2:=e L0 hL0;unfold wdL;generalize l.foldl (fun r L=>wd r (g L)) emp=R at a b c d e q2 ⊢;refine⟨?_,?_,e⟩
 ·clear b
  rcases a with a | a
  ·omega
  ·exact a
 ·clear a
  rcases b with b | b
  ·omega
  ·exact b
def bsN(n:Nat)(f:Nat->Bd):List Bd:=(List.range n).map f
theorem zBa{n:Nat}{f:Nat->Bd}:(bsN n f).length=n:=by unfold bsN; rw[List.length_map,List.length_range]
theorem zBb{n:Nat}{f:Nat->Bd}{k:Nat}(h:k < n):(bsN n f)[k]? = some (f k):=by unfold bsN; rw[List.getElem?_map,List.getElem?_range h]; rfl
def bdF(p:Pg)(l:List (List Int))(k:Nat):Bd:={ Pays:=wdL (fun L=>(zzg p.Treaties L).pays k) l,Keeps:=wdL (fun L=>(zzg p.Treaties L).keeps k) l }
theorem zBc{p:Pg}(h:VP p)(hc:zzY p p.Reports):zAh p (bsN p.Treaties.length (bdF p (trL p)))/\IsB (TrS p p.Reports) (fun L=>(zzg p.Treaties L).soc) (wdL (fun L=>(zzg p.Treaties L).soc) (trL p)):=by
 have hne:trL p ≠ []:=fun e=>by
  obtain⟨L,hL⟩:=hc;have:=(zA5 h).2 hL
  rw[e] at this; cases this
 have hb:∀L∈trL p,inL p.Losses L:=fun L hL=>((zA5 h).1 hL).1;refine⟨⟨zBa,fun k b hk=>?_⟩,?_⟩
 ·have hkl:=(List.getElem?_eq_some_iff.1 hk).1;rw[zBa] at hkl;rw[zBb hkl] at hk
  cases hk
  refine⟨(zA9 hne fun L hL=>?_).congr (fun L=>zA5 h) fun _ _=>rfl,(zA9 hne fun L hL=>?_).congr (fun L=>zA5 h) fun _ _=>rfl⟩
  ·have:=(zA3 h (hb L hL)).1 k; omega
  ·have:=(zA3 h (hb L hL)).2.1 k; omega
 ·refine(zA9 hne fun L hL=>?_).congr (fun L=>zA5 h) fun _ _=>rfl;have:=(zA3 h (hb L hL)).2.2; omega
def kpF:List Rpt->Nat->(Nat->Bool)->List Rpt
 | [],_,_=>[]
 | v::V,i,S=>if S i=true then v::kpF V (i+1) S else kpF V (i+1) S
theorem zBd{S:Nat->Bool}{v:Rpt}:∀(V:List Rpt) (i:Nat),v∈kpF V i S↔∃j,V[j]? = some v/\S (i+j)=true
 | [],i=>by simp[kpF]
 | a::V,i=>by
  have ih:=zBd (S:=S) (v:=v) V (i+1)
  have e:(∃j,(a::V)[j]? = some v/\S (i+j)=true)↔(a=v/\S i=true)\/∃j,V[j]? = some v/\S (i+1+j)=true:=by
   constructor
   ·rintro⟨j,h1,h2⟩
    cases j with
    | zero=>exact .inl ⟨by simpa using h1,h2⟩
    | succ j=>exact .inr ⟨j,by simpa using h1,by rw[show i+1+j=i+(j+1) by omega]; exact h2⟩
   ·rintro (⟨h1,h2⟩ | ⟨j,h1,h2⟩)
    ·exact⟨0,by simpa using h1,h2⟩
    ·exact⟨j+1,by simpa using h1,by rw[show i+(j+1)=i+1+j by omega]; exact h2⟩
  rw[e];unfold kpF
  by_cases hs:S i=true
  ·rw[if_pos hs,List.mem_cons,ih];exact or_congr ⟨fun h=>⟨h.symm,hs⟩,fun h=>h.1.symm⟩ Iff.rfl
  ·rw[if_neg hs,ih];exact⟨.inr,fun h=>h.elim (fun h=>absurd h.2 hs) id⟩
theorem zBe{S:Nat->Bool}:∀(V:List Rpt) (i:Nat),(kpF V i S).length<=V.length
 | [],_=>Nat.le_refl _
 | a::V,i=>by
  have:=zBe (S:=S) V (i+1);unfold kpF
  split <;> simp only[List.length_cons] <;> omega
theorem zBf{l:List Int}{v:Int}(hl:zr0 l):∀d (k:Nat),k<=l.length->l.length - k < d->∃r,ztY l v d (k:Int)=some r/\(0<=r↔v∈l.drop k)
 | 0,k,_,h=>by omega
 | d+1,k,hk,h=>by
  unfold zr0 at hl;unfold ztY
  by_cases hkn:k=l.length
  ·subst hkn; rw[if_neg (Int.lt_irrefl _)]; exact⟨_,rfl,by simp⟩
  ·have hlt:k < l.length:=by omega
   rw[if_pos (by omega),zrQ (List.getElem?_eq_getElem hlt),obs];have hd:=List.drop_eq_getElem_cons hlt
   by_cases hv:v=l[k]
   ·rw[if_pos hv]; exact⟨_,rfl,⟨fun _=>by rw[hd,<- hv]; exact List.mem_cons_self ..,fun _=>by omega⟩⟩
   ·rw[if_neg hv,zqs (fI (by omega)),show(k:Int)+1=((k+1:Nat):Int) by omega];obtain⟨r,h1,h2⟩:=zBf hl d (k+1) (by omega) (by omega);exact⟨r,h1,h2.trans ⟨fun h=>by rw[hd]; exact List.mem_cons_of_mem _ h,fun h=>by rw[hd] at h; exact(List.mem_cons.1 h).resolve_left hv⟩⟩
theorem zBg{l:List Int}{v:Int}(hl:zr0 l):zt0 l v=some (decide (v∈l)):=by
 unfold zt0 ztZ;obtain⟨r,h1,h2⟩:=zBf (v:=v) hl (l.length+1) 0 (Nat.zero_le _) (by omega);have h1:ztY l v (l.length+1) 0=some r:=h1;rw[h1,obs];exact congrArg some (decide_eq_decide.2 (h2.trans (by rw[List.drop_zero])))
theorem zBh{p:Int->Option Bool}{f:Nat->Bool}{n:Nat}(hn:n<=1000000)(hp:∀m,m < n->p (m:Int)=some (f m))(hm:∀m k,m<=k->k < n->f m=true->f k=true):∀d (i j:Nat),i<=j->j<=n->j - i < d->(∀m,m < i->f m=false)->(∀m,j<=m->m < n->f m=true) ->
  ∃k:Nat,zur p d (i:Int) (j:Int)=some (k:Int)/\k<=n/\(∀m,m < k->f m=false)/\(∀m,k<=m->m < n->f m=true)
 | 0,_,_,_,_,h,_,_=>by omega
 | d+1,i,j,hij,hj,h,hlo,hhi=>by
  rw[zur]
  by_cases hc:i < j
  ·obtain⟨md,hmd⟩:∃md:Nat,md=(i+j) / 2:=⟨_,rfl⟩
   have hf:zl7 .u64 ((i:Int)+j):=show _/\_ by constructor <;> omega
   have e:zmc .i64 (zmc .u64 ((i:Int)+j) / 2)=(md:Int):=by
    rw[wz hf,wz (fI (by omega))]; omega
   rw[if_pos (by omega),zqs (fI (by omega)),zqs (by rw[wz hf]; omega),zqs (by omega),zqs (by omega),zqs (by rw[wz hf]; exact show _/\_ by constructor <;> omega),e,hp md (by omega),obs]
   cases hq:f md with
   | true=>
    rw[if_pos rfl];exact zBh hn hp hm d i md (by omega) (by omega) (by omega) hlo fun m h1 h2=>hm md m h1 h2 hq
   | false=>
    rw[if_neg (by decide),zqs (fI (by omega)),show(md:Int)+1=((md+1:Nat):Int) by omega]
    exact zBh hn hp hm d (md+1) j (by omega) hj (by omega) (fun m h1=>by
     cases hq2:f m with
     | false=>rfl
     | true=>have:=hm m md (by omega) (by omega) hq2; rw[hq] at this; cases this) hhi
  ·rw[if_neg (by omega)];exact⟨i,rfl,by omega,hlo,fun m h1 h2=>hhi m (by omega) h2⟩
theorem zBi{p:Pg}{L:List Int}{S:Nat->Bool}:agN (zzg p.Treaties L).pays (kpF p.Reports 0 S)↔∀j,j < p.Reports.length->S j=true->agf p L j=true:=by
 constructor
 ·intro h j hj hs;have hg:=List.getElem?_eq_getElem hj;exact(zA1 hg).2 (h _ ((zBd _ _).2 ⟨j,hg,by rw[Nat.zero_add]; exact hs⟩))
 ·intro h r hr;obtain⟨j,h1,h2⟩:=(zBd _ _).1 hr;rw[Nat.zero_add] at h2;exact(zA1 h1).1 (h j (List.getElem?_eq_some_iff.1 h1).1 h2)
theorem zBj{p:Pg}{S:Nat->Bool}:zzY p (kpF p.Reports 0 S)↔PL p fun j=>!S j:=by
 unfold zzY PL;refine exists_congr fun L=>and_congr_right fun _=>zBi.trans ?_;refine forall_congr' fun j=>forall_congr' fun _=>?_
 show(S j=true->_)↔((!S j)=false->_)
 cases S j <;> simp
theorem zBk{l:List Rpt}{D:List Int}(hl:l.length<=1000)(hD:zr0 D):zt2 l D=some (kpF l 0 fun j=>!inD D j):=by
 have key:∀(d k:Nat) (acc:List Rpt),k<=l.length->l.length - k < d->acc.length<=k->zt1 l D d acc (k:Int)=some (acc++kpF (l.drop k) k fun j=>!inD D j):=by
  intro d
  induction d with
  | zero=>intro k _ _ h _; omega
  | succ d ih=>
   intro k acc hk hd ha;rw[zt1]
   by_cases hkl:k < l.length
   ·rw[if_pos (by omega),zrQ (List.getElem?_eq_getElem hkl),obs,zBg hD,obs,List.drop_eq_getElem_cons hkl,kpF]
    by_cases hin:(k:Int)∈D
    ·have e:inD D k=true:=decide_eq_true hin;rw[decide_eq_true hin,if_pos rfl,zqs (fI (by omega)),show(k:Int)+1=((k+1:Nat):Int) by omega,if_neg (by rw[e]; simp)];exact ih (k+1) acc (by omega) (by omega) (by omega)
    ·have e:inD D k=false:=decide_eq_false hin;rw[decide_eq_false hin,if_neg (by decide),zqs (by omega),zqs (fI (by omega)),show(k:Int)+1=((k+1:Nat):Int) by omega,if_pos (by rw[e]; rfl)];refine(ih (k+1) _ (by omega) (by omega) (by rw[List.length_append]; show acc.length+1<=_; omega)).trans ?_;rw[List.append_assoc]; rfl
   ·rw[if_neg (by omega),List.drop_eq_nil_of_le (by omega)]
    show _=some (acc++[])
    rw[List.append_nil]
 exact key (l.length+1) 0 [] (Nat.zero_le _) (by omega) (Nat.le_refl _)
theorem zzP.kp{p:Pg}(h:VP p)(S:Nat->Bool):zzP (kpF p.Reports 0 S):=fun r hr=>by
 obtain⟨j,h1,_⟩:=(zBd _ _).1 hr;exact h.rsOk r (List.mem_of_getElem? h1)
theorem zBl{p:Pg}(h:VP p){D:List Int}(hD:zr0 D):Ev (zuu D (zzI p (zzA p)) p) (PL p (inD D)):=by
 have hr5:=h.r5;unfold zuu;rw[zBk (by omega) hD,obs]
 show Ev ((zt9 (zzI p (zzA p)) (kpF p.Reports 0 fun j=>!inD D j)).bind _) _
 have hlen:=zBe (S:=fun j=>!inD D j) p.Reports 0;refine(zzZ h (zzP.kp h _) (zr1 hlen (by omega))).ret.imp (zBj.trans (PL.congr fun j _=>?_))
 simp
theorem zBm{p:Pg}(h:VP p):PL p (inD (zAK p.Reports.length)):=by
 obtain⟨L,hL⟩:=zzE h;exact⟨L,hL,fun j hj hs=>by rw[zAM hj] at hs; cases hs⟩
theorem zBn{p:Pg}(h:VP p):∃M,zuv p=some (M,0)/\zAO p.Reports.length (PL p) M:=by
 have h4:=h.r5;have hsh:∀D,Inc p.Reports.length 0 D->zr0 D:=fun D hD=>zr1 (Nat.le_refl D.length) (by have:=zxQ hD; omega)
 have ht:∀D,Inc p.Reports.length 0 D->((zuu D (zzI p (zzA p)) p).getD false=true↔PL p (inD D)):=fun D hD=>by
  obtain⟨b,q1,q2⟩:=zBl h (hsh D hD);rw[q1]; exact q2
 obtain⟨s1,s2,s3⟩:=zx8 (n:=p.Reports.length) (t:=fun L=>(zuu L (zzI p (zzA p)) p).getD false) ⟨zAK p.Reports.length,zAL _,(ht _ (zAL _)).2 (zBm h)⟩;refine⟨zrx p.Reports.length fun L=>(zuu L (zzI p (zzA p)) p).getD false,?_,s1,(ht _ s1).1 s2,fun D hD hD2=>s3 D hD ((ht D hD).2 hD2)⟩;unfold zuv zry
 rw[zAa h,obs,if_pos rfl,zzO h,obs,zqs ⟨by omega,by omega,fun L hL=>by
  have hI:Inc p.Reports.length 0 L:=by rw[Int.toNat_natCast] at hL; exact zxR.1 hL
  obtain⟨b,q1,_⟩:=zBl h (hsh L hI)
  show(zuu L (zzI p (zzA p)) p).isSome=true
  rw[q1]; rfl⟩,obs,Int.toNat_natCast]
def FP(p:Pg)(j:Nat):Prop:=zzY p (p.Reports.take (j+1))
theorem zBo{p:Pg}{i j:Nat}(hij:i<=j)(h:FP p j):FP p i:=by
 obtain⟨L,h1,h2⟩:=h;refine⟨L,h1,fun r hr=>h2 r ?_⟩
 have e:p.Reports.take (i+1)=(p.Reports.take (j+1)).take (i+1):=by rw[List.take_take,show min (i+1) (j+1)=i+1 by omega]
 rw[e] at hr;exact List.mem_of_mem_take hr
open Classical in
theorem zBp{p:Pg}(h:VP p):(∃j,j < p.Reports.length/\¬ FP p j/\(∀i,i < j->FP p i)/\zut p=some ((j:Int),0))\/((∀j,j < p.Reports.length->FP p j)/\zut p=some (0,7)):=by
 have h4:=h.r5
 have hf:∀m,m < p.Reports.length->zuq (m:Int) (zzI p (zzA p)) p=some (decide (¬ FP p m)):=fun m hm=>by
  unfold zuq;rw[zqs (fI (by omega)),zqs (by omega),show Int.toNat ((m:Int)+1)=m+1 by omega,show Int.toNat (0:Int)=0 from rfl,List.drop_zero]
  show(zt9 (zzI p (zzA p)) (p.Reports.take (m+1))).bind _=_
  have hlen:(p.Reports.take (m+1)).length<=5:=by rw[List.length_take]; omega
  have hc:=zzZ h (rs:=p.Reports.take (m+1)) (fun r hr=>h.rsOk r (List.mem_of_mem_take hr)) (zr1 hlen (by omega))
  by_cases hq:FP p m
  ·rw[hc.some_of hq,obs,decide_eq_false (not_not_intro hq)]; rfl
  ·rw[hc.some_not hq,obs,decide_eq_true hq]; rfl
 obtain⟨k,q1,q2,q3,q4⟩:=zBh (n:=p.Reports.length) (p:=fun a=>zuq a (zzI p (zzA p)) p) (f:=fun m=>decide (¬ FP p m)) (by omega) hf (fun m k h1 h2 h3=>decide_eq_true fun hk=>of_decide_eq_true h3 (zBo h1 hk)) ((p.Reports.length:Int).toNat+1) 0 p.Reports.length (Nat.zero_le _) (Nat.le_refl _) (by omega) (fun m hm=>by omega) fun m h1 h2=>by omega
 have e:zut p=if ((k:Nat):Int)=(p.Reports.length:Int) then some (0,7) else some ((k:Int),0):=by
  unfold zut zus;rw[zAa h,obs,if_pos rfl,zzO h,obs];have q1:zur (fun a=>zuq a (zzI p (zzA p)) p) ((p.Reports.length:Int).toNat+1) 0 (p.Reports.length:Int)=some (k:Int):=q1;rw[q1,obs]
 have hlt:∀i,i < k->FP p i:=fun i hi=>Classical.not_not.1 (of_decide_eq_false (q3 i hi))
 by_cases hk:k=p.Reports.length
 ·rw[if_pos (by omega)] at e;exact .inr ⟨fun j hj=>hlt j (by omega),e⟩
 ·rw[if_neg (by omega)] at e;exact .inl ⟨k,by omega,of_decide_eq_true (q4 k (Nat.le_refl _) (by omega)),hlt,e⟩
theorem zBq{p:Pg}(h:VP p){b:Nat}:PL p (inD (zxT b))↔PL p fun j=>b.testBit j:=PL.congr fun j hj=>zyc (n:=p.Reports.length) (by have:=h.r5; omega) hj
theorem zBr{p:Pg}{b b':Nat}(hb:∀j,j < p.Reports.length->b'.testBit j = !b.testBit j):(PL p fun j=>!b'.testBit j)↔PL p fun j=>b.testBit j:=PL.congr fun j hj=>by rw[hb j hj,Bool.not_not]
theorem zBs{p:Pg}{j j':Nat}(h1:¬ FP p j)(h2:∀i,i < j->FP p i)(h3:¬ FP p j')(h4:∀i,i < j'->FP p i):j=j':=by
 rcases Nat.lt_trichotomy j j' with h | h | h
 ·exact absurd (h4 j h) h1
 ·exact h
 ·exact absurd (h2 j' h) h3
end
end Go.Proofs.YtkcmdghjgoaggaaGreat

namespace Go.Proofs.YtkcmdghjgoaggaaGreat
open _root_.Go.Proofs.Tryz
open Go.Abs
set_option maxRecDepth 100000
noncomputable section
theorem zBt{l:List Int}:(∀j,0 < j->j < l.length->∀a b,l[j - 1]? = some a->l[j]? = some b->a < b)↔l.Pairwise (· < ·):=by
 constructor
 ·intro h;rw[List.pairwise_iff_getElem];intro i j hi hj hij
  have key:∀d,(hd:i+d+1 < l.length)->l[i] < l[i+d+1]:=fun d=>by
   induction d with
   | zero=>intro hd; exact h (i+1) (by omega) hd _ _ (List.getElem?_eq_getElem hi) (List.getElem?_eq_getElem hd)
   | succ d ih=>
    intro hd;have h1:=ih (by omega);have h2:=h (i+(d+1)+1) (by omega) hd _ _ (List.getElem?_eq_getElem (show i+d+1 < l.length by omega)) (List.getElem?_eq_getElem hd);exact Int.lt_trans h1 h2
  have:=key (j - i - 1) (by omega)
  simpa [show i+(j - i - 1)+1=j by omega] using this
 ·intro h j h0 hj a b ha hb;obtain⟨h1,rfl⟩:=List.getElem?_eq_some_iff.1 ha;obtain⟨h2,rfl⟩:=List.getElem?_eq_some_iff.1 hb;exact List.pairwise_iff_getElem.1 h (j - 1) j h1 h2 (by omega)
theorem zBu{l:List Int}(hl:zr0 l):Ev (zty l) (l.Pairwise (· < ·)):=by
 unfold zr0 at hl;unfold zty
 by_cases h0:l.length=0
 ·have:l=[]:=List.eq_nil_of_length_eq_zero h0;subst this
  show Ev (ztx [] 1 1) _
  rw[ztx,if_neg (by decide)];exact Ev.tt .nil
 ·have e:∃n,l.length=n+1:=⟨l.length - 1,by omega⟩;obtain⟨n,hn⟩:=e
  have key:=zrU (n:=n) (F:=fun d x=>ztx l d (x+1)) (ok:=fun j=>∀a b,l[j]? = some a->l[j+1]? = some b->a < b) (bad:=some false) (fin:=some true) (fun d k hk=>by
   show(_->ztx l (d+1) ((k:Int)+1)=_)/\_
   have ha:=List.getElem?_eq_getElem (show k < l.length by omega);have hb:=List.getElem?_eq_getElem (show k+1 < l.length by omega);rw[ztx,if_pos (by omega),zrR (show(k:Int)+1=((k+1:Nat):Int) by omega) (show k+1 < l.length by omega),obs,zqs (fI (by omega)),zrR (show(k:Int)+1 - 1=(k:Int) by omega) (show k < l.length by omega),obs];refine⟨fun h=>?_,fun h=>?_⟩
   ·have:=h _ _ ha hb;rw[if_neg (by omega),zqs (fI (by omega))]
   ·rw[if_pos]
    apply Classical.byContradiction
    intro h2
    exact h fun a b h3 h4=>by rw[ha] at h3; rw[hb] at h4; cases h3; cases h4; omega) (fun d=>by show ztx l (d+1) _=_; rw[ztx,if_neg (by omega)]) (d:=((l.length:Int) - 1).toNat+1) (by omega)
  have e0:ztx l (((l.length:Int) - 1).toNat+1) (0+1)=ztx l (((l.length:Int) - 1).toNat+1) 1:=rfl
  have hiff:(∀j,j < n->∀a b,l[j]? = some a->l[j+1]? = some b->a < b)↔l.Pairwise (· < ·):=by
   rw[<- zBt]
   constructor
   ·intro h j h0 hj a b h1 h2;have:=h (j - 1) (by omega) a b h1;rw[show j - 1+1=j by omega] at this;exact this h2
   ·intro h j hj a b h1 h2;exact h (j+1) (by omega) (by omega) a b (by rw[Nat.add_sub_cancel]; exact h1) h2
  by_cases hq:∀j,j < n->∀a b,l[j]? = some a->l[j+1]? = some b->a < b
  ·have:=key.1 hq;exact⟨true,this,⟨fun _=>hiff.1 hq,fun _=>rfl⟩⟩
  ·have:=key.2 hq;exact⟨false,this,⟨fun h=>(by cases h),fun h=>absurd (hiff.2 h) hq⟩⟩
def zke(p:Pg)(l:List Int):Prop:=l.Pairwise (· < ·)/\∀v∈l,(0<=v/\v<=(p.Treaties.length:Int) - 1)/\ofB p.Treaties v.toNat=true
theorem zke.inc{p:Pg}{l:List Int}(h:zke p l):Inc p.Treaties.length 0 l:=⟨h.1,fun v hv=>by have:=(h.2 v hv).1; omega⟩
theorem zke.len{p:Pg}{l:List Int}(h:zke p l):l.length<=p.Treaties.length:=by have:=zxQ h.inc; omega
theorem zBv{p:Pg}(h:VP p){n:Int}:Ev (ztI p n) ((0<=n/\n<=(p.Treaties.length:Int) - 1)/\ofB p.Treaties n.toNat=true):=by
 have h5:=h.t5;refine(zyB (zz9 h).2.1).and fun hc=>?_;have hg:=List.getElem?_eq_getElem (show n.toNat < p.Treaties.length by omega);have e:=zrQ hg;rw[show((n.toNat:Nat):Int)=n by omega] at e;rw[e,obs];have ho:=h.of' _ _ hg;exact Ev.dec (by rw[zAE hg,decide_eq_true_eq]; omega)
theorem zBw{p:Pg}(h:VP p){l:List Int}(hl:zr0 l):Ev (ztJ p l) (zke p l):=
 (zBu hl).and fun _=>(Ev.each (p:=fun a=>ztI p a) (q:=fun v=>(0<=v/\v<=(p.Treaties.length:Int) - 1)/\ofB p.Treaties v.toNat=true) (fun _ _=>zBv h) hl.lt gI).ret
def tyD:Ty:={ Kind:=0,Part:=0,Above:=0,Most:=0,Times:=0,Price:=0,Of:=-1 }
def tyA(ts:List Ty)(v:Int):Ty:=(ts[v.toNat]?).getD tyD
theorem zBx{ts:List Ty}{v:Int}{t:Ty}(h:ts[v.toNat]? = some t):tyA ts v=t:=by unfold tyA; rw[h]; rfl
theorem zBy{ts:List Ty}{v:Int}(h0:0<=v)(h1:v<=(ts.length:Int) - 1):ts[v.toNat]? = some (tyA ts v):=by
 have hg:=List.getElem?_eq_getElem (show v.toNat < ts.length by omega);rw[zBx hg,hg]
theorem zBz{ts:List Ty}{v:Int}(h0:0<=v)(h1:v<=(ts.length:Int) - 1):idx ts v=some (tyA ts v):=by
 have:=zrQ (zBy h0 h1)
 rwa [show((v.toNat:Nat):Int)=v by omega] at this
def zBA(ts:List Ty):List Int->Int
 | []=>0
 | v::l=>(tyA ts v).Price+zBA ts l
theorem zBB{ts:List Ty}{v:Int}:∀l,zBA ts (l++[v])=zBA ts l+(tyA ts v).Price
 | []=>by show _+(0:Int)=0+_; omega
 | a::l=>by show _+zBA ts (l++[v])=_+zBA ts l+_; rw[zBB l]; omega
def InT(p:Pg)(l:List Int):Prop:=∀v∈l,0<=v/\v<=(p.Treaties.length:Int) - 1
theorem zBC{p:Pg}(h:VP p):∀{l:List Int},InT p l->0<=zBA p.Treaties l/\zBA p.Treaties l<=1000 * l.length
 | [],_=>⟨Int.le_refl _,by show(0:Int)<=1000 * ((0:Nat):Int); omega⟩
 | v::l,hl=>by
  have ih:=zBC h (l:=l) fun v hv=>hl v (List.mem_cons_of_mem _ hv);have hv:=hl v (List.mem_cons_self ..);have ht:=h.ts _ (List.mem_of_getElem? (zBy hv.1 hv.2));have h1:=ht.2
  show 0<=(tyA p.Treaties v).Price+zBA p.Treaties l/\(tyA p.Treaties v).Price+zBA p.Treaties l<=1000 * ((l.length+1:Nat):Int)
  omega
theorem zBD{α:Type}{l:List α}{k:Nat}{a:α}(h:l[k]? = some a):l.take (k+1)=l.take k++[a]:=by rw[List.take_add_one,h]; rfl
theorem zBE{p:Pg}(h:VP p){l:List Int}(hl:InT p l)(h9:l.length<=9):ztL p l=some (zBA p.Treaties l):=by
 refine zye (n:=l.length) (fun d (s:Int) y=>ztK p l d s y) (fun k=>zBA p.Treaties (l.take k)) (fun d k hk=>?_) (fun d=>?_) (l.length+1) 0 (by omega) (by omega)
 ·have hg:=List.getElem?_eq_getElem hk;have hv:=hl _ (List.getElem_mem hk);have hb:=zBC h (l:=l.take (k+1)) fun v hv=>hl v (List.mem_of_mem_take hv)
  have hlen:(l.take (k+1)).length<=9:=by rw[List.length_take]; omega
  rw[zBD hg,zBB] at hb;rw[List.length_append,List.length_take] at hb
  simp only[List.length_singleton] at hb
  show ztK p l (d+1) _ _=_
  rw[ztK,if_pos (by omega),zrQ hg,obs,zBz hv.1 hv.2,obs,zqs (fI (by omega)),zqs (fI (by omega)),zBD hg,zBB]
 ·show ztK p l (d+1) _ _=_
  rw[ztK,if_neg (Int.lt_irrefl _),List.take_length]
def zBF(p:Pg)(l:List Int):Pg:={ Losses:=p.Losses,Reserve:=p.Reserve,Treaties:=l.map (tyA p.Treaties),Reports:=[] }
theorem zBG{p:Pg}{l:List Int}(hl:InT p l)(h9:l.length<=9):ztN p l=some (zBF p l):=by
 refine zye (n:=l.length) (fun d (s:List Ty) y=>ztM p l d p.Reserve s y) (fun k=>(l.take k).map (tyA p.Treaties)) (fun d k hk=>?_) (fun d=>?_) (l.length+1) 0 (by omega) (by omega)
 ·have hg:=List.getElem?_eq_getElem hk;have hv:=hl _ (List.getElem_mem hk)
  show ztM p l (d+1) _ _ _=_
  rw[ztM,if_pos (by omega),zrQ hg,obs,zBz hv.1 hv.2,obs,zqs (by rw[List.length_map,List.length_take]; omega),zqs (fI (by omega)),zBD hg,List.map_append]; rfl
 ·show ztM p l (d+1) _ _ _=_
  rw[ztM,if_neg (Int.lt_irrefl _),List.take_length]; rfl
theorem zke.inT{p:Pg}{l:List Int}(h:zke p l):InT p l:=fun v hv=>(h.2 v hv).1
theorem zke.ty{p:Pg}(h:VP p){l:List Int}(hs:zke p l){v:Int}(hv:v∈l):(tyA p.Treaties v).Of = -1:=by
 obtain⟨h1,h2⟩:=hs.2 v hv;have hg:=zBy h1.1 h1.2;rw[zAE hg,decide_eq_true_eq] at h2;have:=h.of' _ _ hg
 omega
theorem zBH{p:Pg}(h:VP p){l:List Int}(hs:zke p l):VP (zBF p l):=by
 have h5:=h.t5;have hl:=hs.len;refine { ls:=h.ls,res:=h.res,ts:=fun t ht=>?_,of':=fun i t ht=>?_,rs:=fun r hr=>(by cases hr),l4:=h.l4,t5:=?_,r5:=Nat.zero_le _,many:=h.many }
 ·obtain⟨v,hv,rfl⟩:=List.mem_map.1 ht;have:=hs.inT v hv;exact h.ts _ (List.mem_of_getElem? (zBy this.1 this.2))
 ·obtain⟨v,hv,rfl⟩:=List.mem_map.1 (List.mem_of_getElem? ht);rw[hs.ty h hv]; omega
 ·show(l.map (tyA p.Treaties)).length<=5
  rw[List.length_map]; omega
theorem zBI{b k:Nat}:∀e,∃T,zxS b (k+e)=zxS b k++T
 | 0=>⟨[],(List.append_nil _).symm⟩
 | e+1=>by
  obtain⟨T,hT⟩:=zBI (b:=b) (k:=k) e;refine⟨T++(if b.testBit (k+e) then [((k+e:Nat):Int)] else []),?_⟩
  show zxS b (k+e)++_=_
  rw[hT,List.append_assoc]; rfl
theorem zBJ{b n:Nat}(hn:n<=16)(hb:b < 2 ^ n):zxT b=zxS b n:=by
 unfold zxT;obtain⟨e,he⟩:∃e,16=n+e:=⟨16 - n,by omega⟩;rw[he];exact zxW (fun q hq=>Nat.testBit_lt_two_pow (Nat.lt_of_lt_of_le hb (Nat.pow_le_pow_right (by omega) hq))) e
theorem zBK{b k n j:Nat}(hk:k<=n)(hj:j < (zxS b k).length):(zxS b n)[j]? = (zxS b k)[j]?:=by
 obtain⟨T,hT⟩:=zBI (b:=b) (k:=k) (n - k);rw[show k+(n - k)=n by omega] at hT;rw[hT,List.getElem?_append_left hj]
theorem zBL{ts:List Ty}{b n:Nat}(hn:n=ts.length)(hof:∀k t,ts[k]? = some t->b.testBit k=true->t.Of = -1){P P':Nat->Int}(hP:∀(j:Nat) (v:Int),(zxS b n)[j]? = some v->P' j=P v.toNat){x:Int}:∀k,k<=n ->
  (dN ((zxS b n).map (tyA ts)) P' x (zxS b k).length).soc=(a1 ts (fun k=>b.testBit k) P x k).2/\∀(j:Nat) (v:Int),j < (zxS b k).length->(zxS b n)[j]? = some v->(dN ((zxS b n).map (tyA ts)) P' x (zxS b k).length).pays j=(a1 ts (fun k=>b.testBit k) P x k).1 v.toNat
 | 0,_=>⟨rfl,fun j v h=>by cases h⟩
 | k+1,hk=>by
  obtain⟨i1,i2⟩:=zBL hn hof hP (x:=x) k (by omega);have hg:=List.getElem?_eq_getElem (show k < ts.length by omega);rw[zAr hg];have ht:=hof k _ hg;generalize ts[k]'(by omega)=t at hg ht
  cases hb:b.testBit k with
  | true=>
   have ho:=ht hb
   have e:zxS b (k+1)=zxS b k++[(k:Int)]:=by show zxS b k++(if b.testBit k then _ else _)=_; rw[hb]; rfl
   have el:(zxS b (k+1)).length=(zxS b k).length+1:=by rw[e,List.length_append]; rfl
   have hm:(zxS b n)[(zxS b k).length]? = some (k:Int):=by
    rw[zBK (k:=k+1) hk (by omega),e,List.getElem?_append_right (Nat.le_refl _),Nat.sub_self]; rfl
   have hmt:((zxS b n).map (tyA ts))[(zxS b k).length]? = some t:=by
    rw[List.getElem?_map,hm];exact congrArg some (zBx (by rw[Int.toNat_natCast]; exact hg))
   rw[el,zy8 hmt,if_pos ⟨by omega,rfl⟩];unfold zy7;rw[if_pos ho,i1,hP _ _ hm,Int.toNat_natCast];refine⟨rfl,fun j v hj hv=>?_⟩
   show upF _ (zxS b k).length _ j=upF (a1 ts (fun k=>b.testBit k) P x k).1 k _ v.toNat
   by_cases hjm:j=(zxS b k).length
   ·subst hjm;rw[hm] at hv
    cases hv
    rw[zyj,Int.toNat_natCast,zyj]
   ·rw[zyk _ _ hjm,i2 j v (by omega) hv];have hv2:=hv;rw[zBK (k:=k) (by omega) (by omega)] at hv2;have:=zxU.1 (List.mem_of_getElem? hv2);rw[zyk _ _ (by omega)]
  | false=>
   have e:zxS b (k+1)=zxS b k:=by show zxS b k++(if b.testBit k then _ else _)=_; rw[hb]; exact List.append_nil _
   rw[e,if_neg fun h=>by cases h.2];exact⟨i1,i2⟩
theorem zBM{ts:List Ty}{P now:Nat->Int}{j:Nat}(hj:ofB ts j=true):∀k,k<=ts.length->(a2 ts P now k).1 j=now j
 | 0,_=>rfl
 | k+1,hk=>by
  have hg:=List.getElem?_eq_getElem (show k < ts.length by omega);have hfk:=zAE hg;have ih:=zBM (P:=P) (now:=now) hj k (by omega);rw[zAs hg];generalize ts[k]'(by omega)=t at hg hfk
  by_cases ho:0<=t.Of
  ·rw[if_pos ho]
   show upF (a2 ts P now k).1 k _ j=_
   rw[zyk _ _ fun e=>by subst e; rw[hfk,decide_eq_true_eq] at hj; omega,ih]
  ·rw[if_neg ho,ih]
theorem zBN{ts:List Ty}{b:Nat}(hof:∀k t,ts[k]? = some t->b.testBit k=true->t.Of = -1):∀(L:List Int) (s:(Nat->Int) × Int) (o:DS),(∀(j:Nat) (v:Int),(zxS b ts.length)[j]? = some v->o.pays j=s.1 v.toNat)->o.soc=s.2 ->
  (L.foldl (zzf ((zxS b ts.length).map (tyA ts))) o).soc=(L.foldl (zAv ts fun k=>b.testBit k) s).2
 | [],_,_,_,h2=>h2
 | x::L,s,o,h1,h2=>by
  obtain⟨c1,c2⟩:=zBL rfl hof h1 (x:=x) ts.length (Nat.le_refl _);refine zBN hof L (zAv ts (fun k=>b.testBit k) s x) (zzf ((zxS b ts.length).map (tyA ts)) o x) (fun j v hv=>?_) ?_
  ·show o.pays j+(dN ((zxS b ts.length).map (tyA ts)) o.pays x ((zxS b ts.length).map (tyA ts)).length).pays j=s.1 v.toNat+(a2 ts s.1 (a1 ts (fun k=>b.testBit k) s.1 x ts.length).1 ts.length).1 v.toNat
   have hjl:=(List.getElem?_eq_some_iff.1 hv).1;have hmem:=zxU.1 (List.mem_of_getElem? hv);have hg:=List.getElem?_eq_getElem (show v.toNat < ts.length by omega);rw[List.length_map,h1 j v hv,c2 j v hjl hv,zBM (by rw[zAE hg,hof _ _ hg hmem.2.2]; rfl) ts.length (Nat.le_refl _)]
  ·show o.soc+(dN ((zxS b ts.length).map (tyA ts)) o.pays x ((zxS b ts.length).map (tyA ts)).length).soc=s.2+(a1 ts (fun k=>b.testBit k) s.1 x ts.length).2
   rw[List.length_map,c1,h2]
theorem zBO{ts:List Ty}{b:Nat}(hof:∀k t,ts[k]? = some t->b.testBit k=true->t.Of = -1)(L:List Int):(zzg ((zxS b ts.length).map (tyA ts)) L).soc=(zAw ts (fun k=>b.testBit k) L).2:=
 zBN hof L (fun _=>0,0) zze (fun _ _ _=>rfl) rfl
theorem zBP{ts:List Ty}{th th':Nat->Bool}{P:Nat->Int}{x:Int}(h:∀j,j < ts.length->th j=th' j):∀k,k<=ts.length->a1 ts th P x k=a1 ts th' P x k
 | 0,_=>rfl
 | k+1,hk=>by
  have hg:=List.getElem?_eq_getElem (show k < ts.length by omega);rw[zAr hg,zAr hg,zBP h k (by omega),h k (by omega)]
theorem zBQ{ts:List Ty}{th th':Nat->Bool}(h:∀j,j < ts.length->th j=th' j)(L:List Int):zAw ts th L=zAw ts th' L:=by
 have e:zAv ts th=zAv ts th':=by
  funext s x
  unfold zAv;rw[zBP h ts.length (Nat.le_refl _)]
 unfold zAw;rw[e]
theorem RI.mono{ts:List Ty}{B B':Int}{s:(Nat->Int) × Int}(h:RI ts B s)(hB:B<=B'):RI ts B' s:=⟨by have:=h.net; omega,fun j=>by have:=h.pays j; omega,h.cap⟩
theorem zBR{ts:List Ty}{th:Nat->Bool}(hts:zza ts):∀(L:List Int) (s:(Nat->Int) × Int) (B:Int),(∀x∈L,0<=x/\x<=1000)->RI ts B s->RI ts (B+1000 * L.length) (L.foldl (zAv ts th) s)
 | [],s,B,_,h=>h.mono (by show B<=B+1000 * ((0:Nat):Int); omega)
 | x::L,s,B,hL,h=>by
  have hx:=hL x (List.mem_cons_self ..);have h1:=(h.step (th:=th) hts (x:=x) (by omega)).mono (B':=B+1000) (by omega);refine(zBR hts L _ _ (fun x hx=>hL x (List.mem_cons_of_mem _ hx)) h1).mono ?_;rw[List.length_cons]; omega
theorem zBS{p:Pg}(h:VP p){th:Nat->Bool}{L:List Int}(hL:inL p.Losses L):0<=(zAw p.Treaties th L).2/\(zAw p.Treaties th L).2<=4000:=by
 have h4:=h.l4;have hl:=zzt hL;have:=(zBR (th:=th) h.tsOk L (fun _=>0,0) 0 (zzw hL h.ls) ⟨⟨Int.le_refl _,Int.le_refl _⟩,fun _=>⟨Int.le_refl _,Int.le_refl _⟩,zzh h.tsOk⟩).net;unfold zAw
 omega
def zBT(p:Pg):List (List Int):=(List.range (zys p.Losses).toNat).map fun n:Nat=>zAT p.Losses (n:Int)
theorem zBU{p:Pg}(h:VP p){L:List Int}:L∈zBT p↔inL p.Losses L:=by
 unfold zBT;rw[List.mem_map]
 constructor
 ·rintro⟨n,_,rfl⟩; exact h.nthIn (by omega)
 ·intro hL;obtain⟨n,n0,n1,rfl⟩:=zAV hL;exact⟨n.toNat,List.mem_range.2 (by omega),by rw[show((n.toNat:Nat):Int)=n by omega]⟩
def zBV(p:Pg)(th:Nat->Bool):Rg:=wdL (fun L=>(zAw p.Treaties th L).2) (zBT p)
theorem zBW{p:Pg}{th th':Nat->Bool}(h:∀j,j < p.Treaties.length->th j=th' j):zBV p th=zBV p th':=by
 unfold zBV
 have:(fun L=>(zAw p.Treaties th L).2)=fun L=>(zAw p.Treaties th' L).2:=funext fun L=>by rw[zBQ h]
 rw[this]
theorem zBX{p:Pg}(h:VP p)(th:Nat->Bool):IsB (inL p.Losses) (fun L=>(zAw p.Treaties th L).2) (zBV p th):=by
 obtain⟨L,hL⟩:=zzE h;refine(zA9 (fun e=>?_) fun L hL=>?_).congr (fun L=>zBU h) fun _ _=>rfl
 ·have:=(zBU h).2 hL
  rw[e] at this; cases this
 ·have:=zBS h (th:=th) ((zBU h).1 hL); omega
theorem zBY{p:Pg}(h:VP p){b:Nat}(hb:b < 1000000):zsQ p (b:Int)=some (zBV p fun k=>b.testBit k):=by
 have hm:=h.many;have h1:=h.prodPos
 show(some emp).bind _=_
 rw[obs]
 have hlen:(zBT p).length=(zys p.Losses).toNat:=by unfold zBT; rw[List.length_map,List.length_range]
 refine zye (n:=(zys p.Losses).toNat) (fun d (s:Rg) y=>zsP p (b:Int) d s.Lo s.Hi y) (fun k=>wdL (fun L=>(zAw p.Treaties (fun k=>b.testBit k) L).2) ((zBT p).take k)) (fun d k hk=>?_) (fun d=>?_) 1000000 0 (by omega) (by omega)
 ·have hin:=h.nthIn (n:=(k:Int)) (by omega)
  have hg:(zBT p)[k]? = some (zAT p.Losses (k:Int)):=by unfold zBT; rw[List.getElem?_map,List.getElem?_range hk]; rfl
  show zsP p (b:Int) (d+1) _ _ _=_
  rw[zsP,zyV h,obs,if_pos (by omega),zAX h (by omega),obs,zAD h hb (zzw hin h.ls) (l9 h hin),obs,zA7 hg]
  show(some (wd _ _)).bind _=_
  rw[obs,zqs (fI (by omega))]
 ·show zsP p (b:Int) (d+1) _ _ _=_
  rw[zsP,zyV h,obs,if_neg (by omega),List.take_of_length_le (by rw[hlen]; exact Nat.le_refl _)]; rfl
theorem zke.bits{p:Pg}(h:VP p){b:Nat}(_hb:b < 2 ^ p.Treaties.length)(hs:zke p (zxT b)):∀k t,p.Treaties[k]? = some t->b.testBit k=true->t.Of = -1:=fun k t hk hbk=>by
 have hkl:=(List.getElem?_eq_some_iff.1 hk).1;have h5:=h.t5
 have hm:((k:Nat):Int)∈zxT b:=by unfold zxT; exact zxU.2 ⟨by omega,by omega,hbk⟩
 have:=hs.ty h hm
 rwa [zBx (t:=t) (by rw[Int.toNat_natCast]; exact hk)] at this
theorem zBZ{p:Pg}(h:VP p){l:List Int}(hs:zke p l):zui p l=some (zBV p (inD l)):=by
 have h5:=h.t5;obtain⟨b,hb,hlb⟩:=zyd (n:=p.Treaties.length) (by omega) hs.inc;have hv:=zBH h hs;have hlen:=hs.len;have hof:=zke.bits h hb (by rw[hlb]; exact hs)
 have hth:∀j,j < p.Treaties.length->inD l j=b.testBit j:=fun j hj=>by
  rw[<- hlb]; exact zyc (n:=p.Treaties.length) (by omega) hj
 have hlF:l=zxS b p.Treaties.length:=by rw[<- hlb]; exact zBJ (by omega) hb
 obtain⟨L0,hL0⟩:=zzE h;have hcan:zzY (zBF p l) (zBF p l).Reports:=⟨L0,hL0,fun r hr=>by cases hr⟩;obtain⟨r,a1,a2⟩:=zz8 hv (number:=fun a=>ztQ a) (g:=fun o=>o.society) (fun L _=>rfl) hcan
 have hnet:∀L,(zzg (l.map (tyA p.Treaties)) L).soc=(zAw p.Treaties (fun k=>b.testBit k) L).2:=fun L=>by
  rw[hlF]; exact zBO hof L
 have e:r=zBV p (inD l):=by
  rw[zBW hth];have q:IsB (inL p.Losses) (fun L=>(zAw p.Treaties (fun k=>b.testBit k) L).2) r:=a2.congr (fun L=>⟨fun q=>q.1,fun q=>⟨q,fun r hr=>by cases hr⟩⟩) fun L _=>hnet L;exact q.uniq (zBX h fun k=>b.testBit k)
 unfold zui;rw[zBG hs.inT (by omega),obs,zzO hv,obs];have a1':zub ({ p:=(zzI (zBF p l) (zzA (zBF p l))).p,kinds:=(zzI (zBF p l) (zzA (zBF p l))).kinds,shared:=(),played:=(zzI (zBF p l) (zzA (zBF p l))).played }:Wk) (fun a=>ztQ a)=some r:=a1;rw[a1',obs,e]
theorem zB0{p:Pg}(h:VP p){l:List Int}(hs:zke p l):zuj p l=some (decide ((zBV p (inD l)).Hi<=p.Reserve)):=by
 unfold zuj;rw[zBZ h hs,obs]
theorem zB1{p:Pg}(h:VP p){l:List Int}(hl:zr0 l)(hs:zke p l):zuk p l=some (zBV p (inD l),0):=by
 unfold zuk;rw[zAa h,obs,if_pos rfl,(zBw h hl).some_of hs,obs,if_pos rfl,zBZ h hs,obs]
def zB2(p:Pg)(l:List Int)(m:Int):Prop:=zke p l/\zBA p.Treaties l<=m/\(zBV p (inD l)).Hi<=p.Reserve
theorem zB3{p:Pg}(h:VP p){l:List Int}(hl:zr0 l){m:Int}:Ev (zup p l m) (zB2 p l m):=by
 have h5:=h.t5;unfold zup;rw[zAa h,obs,if_pos rfl];refine((zBw h hl).and fun hs=>(?_:Ev _ (zBA p.Treaties l<=m/\(zBV p (inD l)).Hi<=p.Reserve)));have:=hs.len;rw[zBE h hs.inT (by omega),obs];refine Ev.ite fun _=>?_;rw[zB0 h hs,obs];exact Ev.dec Iff.rfl
theorem zB4{l:List Int}(h:l.length<=100000):zt3 l=some l:=by
 unfold zt3;rw[zqs (by simp only[List.length_nil]; omega)]; rfl
def zB5(p:Pg)(D:List Int):Prop:=zke p D/\(zBV p (inD D)).Hi<=p.Reserve
structure zB6 (p:Pg) (M:List Int):Prop where
 good:zB5 p M
 min:∀D,zB5 p D->zBA p.Treaties M < zBA p.Treaties D\/(zBA p.Treaties M=zBA p.Treaties D/\(D=M\/shB M D=true))
theorem zB6.uniq{p:Pg}{M M':List Int}(h:zB6 p M)(h':zB6 p M'):M=M':=by
 rcases h.min M' h'.good with h1 | ⟨h1,h1'⟩ <;> rcases h'.min M h.good with h2 | ⟨h2,h2'⟩
 ·omega
 ·omega
 ·omega
 ·rcases h1' with h3 | h3
  ·exact h3.symm
  ·rcases h2' with h4 | h4
   ·exact h4
   ·rw[zx2 h3] at h4; cases h4
open Classical in
def zB7(p:Pg)(s:List Int × Bool)(D:List Int):List Int × Bool:=if zB5 p D/\(s.2=true->zBA p.Treaties D < zBA p.Treaties s.1) then (D,true) else s
theorem zB8{p:Pg}{s:List Int × Bool}(h:s.2=true->zke p s.1)(D:List Int):(zB7 p s D).2=true->zke p (zB7 p s D).1:=by
 unfold zB7
 split
 ·rename_i hc; exact fun _=>hc.1.1
 ·exact h
theorem zB9{p:Pg}(h:VP p){x:Int}(hx:0<=x/\x<=1000){K:List Int->Bool->Int->Option (List Int × Bool)}:∀(q:List (List Int)) (s:List Int × Bool),(∀D∈q,Inc p.Treaties.length 0 D)->(s.2=true->zke p s.1) ->
  zul p x K q s.1 s.2=K (q.foldl (zB7 p) s).1 (q.foldl (zB7 p) s).2 (x+1)/\((q.foldl (zB7 p) s).2=true->zke p (q.foldl (zB7 p) s).1)
 | [],s,_,hs=>⟨by rw[zul,zqs (fI (by omega))]; rfl,hs⟩
 | D::q,s,hq,hs=>by
  have h5:=h.t5;have hD:=zxQ (hq D (List.mem_cons_self ..));have ih:=zB9 h hx (K:=K) q (zB7 p s D) (fun D hD=>hq D (List.mem_cons_of_mem _ hD)) (zB8 hs D);refine⟨?_,ih.2⟩;refine Eq.trans ?_ ih.1;rw[zul]
  have hD5:D.length<=5:=by omega
  by_cases hset:zke p D
  ·rw[(zBw h (zr1 hD5 (by omega))).some_of hset,obs,if_pos rfl];have hg:zB5 p D↔(zBV p (inD D)).Hi<=p.Reserve:=⟨fun q=>q.2,fun q=>⟨hset,q⟩⟩;obtain⟨M,b⟩:=s
   cases b with
   | true=>
    have hM:=hs rfl;have hMl:M.length<=p.Treaties.length:=hM.len
    show(if true=true then _ else _)=_
    rw[if_pos rfl,zBE h hset.inT (by omega),obs]
    show(ztL p M).bind _=_
    rw[zBE h hM.inT (by show M.length<=9; omega),obs]
    by_cases hp:zBA p.Treaties M<=zBA p.Treaties D
    ·rw[if_pos hp]
     have e:zB7 p (M,true) D=(M,true):=if_neg fun q=>by have:zBA p.Treaties D < zBA p.Treaties M:=q.2 rfl; omega
     rw[e]
    ·rw[if_neg hp,zB0 h hset,obs]
     by_cases hk:(zBV p (inD D)).Hi<=p.Reserve
     ·have e:zB7 p (M,true) D=(D,true):=if_pos ⟨hg.2 hk,fun _=>by show zBA p.Treaties D < zBA p.Treaties M; omega⟩;rw[decide_eq_true hk,if_pos rfl,zB4 (by omega),obs,e]
     ·have e:zB7 p (M,true) D=(M,true):=if_neg fun q=>hk (hg.1 q.1);rw[decide_eq_false hk,if_neg (by decide),e]
   | false=>
    show(if false=true then _ else _)=_
    rw[if_neg (by decide),zB0 h hset,obs]
    by_cases hk:(zBV p (inD D)).Hi<=p.Reserve
    ·have e:zB7 p (M,false) D=(D,true):=if_pos ⟨hg.2 hk,fun q=>(by cases q)⟩;rw[decide_eq_true hk,if_pos rfl,zB4 (by omega),obs,e]
    ·have e:zB7 p (M,false) D=(M,false):=if_neg fun q=>hk (hg.1 q.1);rw[decide_eq_false hk,if_neg (by decide),e]
  ·rw[(zBw h (zr1 hD5 (by omega))).some_not hset,obs,if_neg (by decide)];have e:zB7 p s D=s:=if_neg fun q=>hset q.1.1;rw[e]
theorem zCa{p:Pg}(h:VP p):∀(d e k:Nat) (s:List Int × Bool),k+e=p.Treaties.length+1->e < d->(s.2=true->zke p s.1)->zum p d s.1 s.2 (k:Int)=some ((zrv (fun s=>zrw p.Treaties.length s [] 0) e k).foldl (zB7 p) s)
 | 0,_,_,_,_,hd,_=>by omega
 | d+1,0,k,s,hk,hd,hs=>by
  rw[zum,if_neg (by omega)]; rfl
 | d+1,e+1,k,s,hk,hd,hs=>by
  have h5:=h.t5
  have hinc:∀D∈zrw p.Treaties.length k [] 0,Inc p.Treaties.length 0 D:=fun D hD=>by
   obtain⟨T,h1,_,h3⟩:=zxP.1 hD;rw[List.nil_append] at h1;rw[h1]; exact h3
  obtain⟨q1,q2⟩:=zB9 h (x:=(k:Int)) (by omega) (K:=zum p d) (zrw p.Treaties.length k [] 0) s hinc hs;rw[zum,if_pos (by omega)];unfold zrz;rw[zqs (by omega),obs,Int.toNat_natCast,Int.toNat_natCast,q1,show(k:Int)+1=((k+1:Nat):Int) by omega];refine(zCa h d e (k+1) _ (by omega) (by omega) q2).trans ?_
  show _=some ((zrw p.Treaties.length k [] 0++zrv (fun s=>zrw p.Treaties.length s [] 0) e (k+1)).foldl (zB7 p) s)
  rw[List.foldl_append]
theorem zCb{p:Pg}(h:VP p):zun p=some ((zoj p.Treaties.length).foldl (zB7 p) ([],false)):=by
 have h5:=h.t5;unfold zun;rw[zqs (fI (by omega))]
 exact zCa h _ (p.Treaties.length+1) 0 ([],false) (by omega) (by omega) fun q=>by cases q
structure zCc (p:Pg) (A:List (List Int)) (s:List Int × Bool):Prop where
 yes:s.2=true->s.1∈A/\zB5 p s.1/\∀D∈A,zB5 p D->zBA p.Treaties s.1 < zBA p.Treaties D\/(zBA p.Treaties s.1=zBA p.Treaties D/\(D=s.1\/shB s.1 D=true))
 no:s.2=false->s.1=[]/\∀D∈A,¬ zB5 p D
theorem zCd{p:Pg}:∀(q A:List (List Int)) (s:List Int × Bool),(A++q).Pairwise (fun a b=>shB a b=true)->zCc p A s->zCc p (A++q) (q.foldl (zB7 p) s)
 | [],A,s,_,h=>by rw[List.append_nil]; exact h
 | D::q,A,s,hp,h=>by
  have e:A++D::q=(A++[D])++q:=by rw[List.append_assoc]; rfl
  rw[e] at hp ⊢;refine zCd q (A++[D]) (zB7 p s D) hp ?_;have hAD:∀a∈A,shB a D=true:=fun a ha=>(List.pairwise_append.1 (List.pairwise_append.1 hp).1).2.2 a ha D (List.mem_singleton.2 rfl)
  have hmem:∀D',D'∈A++[D]->D'∈A\/D'=D:=fun D' hD'=>by
   rcases List.mem_append.1 hD' with q | q
   ·exact .inl q
   ·exact .inr (List.mem_singleton.1 q)
  obtain⟨M,b⟩:=s
  by_cases hc:zB5 p D/\(b=true->zBA p.Treaties D < zBA p.Treaties M)
  ·have e2:zB7 p (M,b) D=(D,true):=if_pos hc;rw[e2];refine⟨fun _=>⟨List.mem_append_right _ (List.mem_singleton.2 rfl),hc.1,fun D' hD' hg=>?_⟩,fun q=>(by cases q)⟩
   rcases hmem D' hD' with hq | rfl
   ·cases b with
    | true=>
     have h1:zBA p.Treaties D < zBA p.Treaties M:=hc.2 rfl
     rcases (h.yes rfl).2.2 D' hq hg with h2 | ⟨h2,_⟩
     ·have h2:zBA p.Treaties M < zBA p.Treaties D':=h2;exact .inl (by show zBA p.Treaties D < _; omega)
     ·have h2:zBA p.Treaties M=zBA p.Treaties D':=h2;exact .inl (by show zBA p.Treaties D < _; omega)
    | false=>exact absurd hg ((h.no rfl).2 D' hq)
   ·exact .inr ⟨rfl,.inl rfl⟩
  ·have e2:zB7 p (M,b) D=(M,b):=if_neg hc;rw[e2]
   cases b with
   | true=>
    refine⟨fun _=>?_,fun q=>(by cases q)⟩;obtain⟨y1,y2,y3⟩:=h.yes rfl;refine⟨List.mem_append_left _ y1,y2,fun D' hD' hg=>?_⟩
    rcases hmem D' hD' with hq | rfl
    ·exact y3 D' hq hg
    ·have h1:¬ zBA p.Treaties D' < zBA p.Treaties M:=fun q=>hc ⟨hg,fun _=>q⟩
     rcases Int.lt_or_eq_of_le (show zBA p.Treaties M<=zBA p.Treaties D' by omega) with h2 | h2
     ·exact .inl h2
     ·exact .inr ⟨h2,.inr (hAD M y1)⟩
   | false=>
    refine⟨fun q=>(by cases q),fun _=>⟨(h.no rfl).1,fun D' hD' hg=>?_⟩⟩
    rcases hmem D' hD' with hq | rfl
    ·exact(h.no rfl).2 D' hq hg
    ·exact hc ⟨hg,fun q=>(by cases q)⟩
theorem zCe{p:Pg}(h:VP p):(∃M,zun p=some (M,true)/\zB6 p M)\/(zun p=some ([],false)/\∀D,¬ zB5 p D):=by
 have hi:=zCd (p:=p) (zoj p.Treaties.length) [] ([],false) (zx6 _) ⟨fun q=>(by cases q),fun _=>⟨rfl,fun D hD=>by cases hD⟩⟩;rw[List.nil_append] at hi;rw[zCb h];generalize (zoj p.Treaties.length).foldl (zB7 p) ([],false)=s at hi;have hall:∀D,zB5 p D->D∈zoj p.Treaties.length:=fun D hD=>zxR.2 hD.1.inc;obtain⟨M,b⟩:=s
 cases b with
 | true=>
  obtain⟨_,y2,y3⟩:=hi.yes rfl;exact .inl ⟨M,rfl,y2,fun D hD=>y3 D (hall D hD) hD⟩
 | false=>
  obtain⟨n1,n2⟩:=hi.no rfl;have n1:M=[]:=n1;subst n1;exact .inr ⟨rfl,fun D hD=>n2 D (hall D hD) hD⟩
theorem zCf{p:Pg}(h:VP p):(∃M,zuo p=some (M,zBA p.Treaties M,0)/\zB6 p M)\/(zuo p=some ([],0,10)/\∀D,¬ zB5 p D):=by
 have h5:=h.t5;unfold zuo;rw[zAa h,obs,if_pos rfl]
 rcases zCe h with ⟨M,q1,q2⟩ | ⟨q1,q2⟩
 ·have hl:=q2.good.1.len;refine .inl ⟨M,?_,q2⟩;rw[q1,obs]
  show(ztL p M).bind _=_
  rw[zBE h q2.good.1.inT (by omega),obs]
 ·refine .inr ⟨?_,q2⟩;rw[q1,obs]; rfl
def mkL(l:List Int):Nat:=l.foldl (fun m v=>Nat.lor m (2 ^ v.toNat)) 0
theorem zCg{l:List Int}{k:Nat}{v:Int}(h:l[k]? = some v):mkL (l.take (k+1))=Nat.lor (mkL (l.take k)) (2 ^ v.toNat):=by
 unfold mkL;rw[zBD h,List.foldl_append]; rfl
theorem zCh:∀(l:List Int) (m j:Nat),(∀v∈l,0<=v)->(l.foldl (fun m v=>Nat.lor m (2 ^ v.toNat)) m).testBit j=(m.testBit j || inD l j)
 | [],m,j,_=>by show m.testBit j=(m.testBit j || decide ((j:Int)∈[])); rw[decide_eq_false (by simp)]; simp
 | v::l,m,j,h=>by
  have hv:=h v (List.mem_cons_self ..);rw[List.foldl_cons,zCh l _ j fun v hv=>h v (List.mem_cons_of_mem _ hv)]
  show((m ||| 2 ^ v.toNat).testBit j || _)=_
  rw[Nat.testBit_or,Nat.testBit_two_pow]
  have e:inD (v::l) j=(decide (v.toNat=j) || inD l j):=by
   unfold inD;rw[<- Bool.decide_or];exact decide_eq_decide.2 (by rw[List.mem_cons]; exact or_congr (by omega) Iff.rfl)
  rw[e,Bool.or_assoc]
theorem zCi{n:Nat}{l:List Int}(h:∀v∈l,0<=v/\v < n):mkL l < 2 ^ n:=by
 apply Nat.lt_pow_two_of_testBit
 intro j hj;unfold mkL;rw[zCh l 0 j fun v hv=>(h v hv).1,Nat.zero_testBit,Bool.false_or]
 exact decide_eq_false fun hm=>by have:=h _ hm; omega
theorem zCj{n:Nat}(hn:n<=16){l:List Int}(h:Inc n 0 l):zxT (mkL l)=l:=by
 obtain⟨b,hb,e⟩:=zyd hn h
 have hlt:mkL l < 2 ^ n:=zCi fun v hv=>by have:=h.2 v hv; omega
 have:mkL l=b:=by
  apply Nat.eq_of_testBit_eq
  intro j
  by_cases hj:j < n
  ·rw[<- zyc (b:=b) hn hj,e];unfold mkL;rw[zCh l 0 j fun v hv=>by have:=h.2 v hv; omega,Nat.zero_testBit,Bool.false_or]
  ·rw[Nat.testBit_lt_two_pow (Nat.lt_of_lt_of_le hlt (Nat.pow_le_pow_right (by omega) (by omega))),Nat.testBit_lt_two_pow (Nat.lt_of_lt_of_le hb (Nat.pow_le_pow_right (by omega) (by omega)))]
 rw[this,e]
end
end Go.Proofs.YtkcmdghjgoaggaaGreat

namespace Go.Proofs.YtkcmdghjgoaggaaGreat
open _root_.Go.Proofs.Tryz
open Go.Abs
set_option maxRecDepth 100000
noncomputable section
def zCk(p:Pg):Prop:=p.Losses.length<=7/\p.Treaties.length<=8/\p.Reports.length<=8
theorem VP.thin{p:Pg}(h:VP p):zCk p:=by
 have:=h.l4; have:=h.t5; have:=h.r5;exact⟨by omega,by omega,by omega⟩
def zCl(p:Pg):Prop:=zCk p/\(VP p->zys p.Losses<=300)
theorem zCm{p:Pg}:Ev (zuD p) (zCl p):=by
 unfold zuD zCl zCk
 by_cases h1:p.Losses.length<=7
 ·rw[if_pos (by omega)]
  by_cases h2:p.Treaties.length<=8
  ·rw[if_pos (by omega)]
   by_cases h3:p.Reports.length<=8
   ·rw[if_pos (by omega),zyW (by omega) (by omega) (by omega),obs]
    by_cases hf:zyt p=0
    ·have hv:=zyu.1 hf;rw[if_pos hf,zyV hv,obs];exact Ev.dec ⟨fun q=>⟨⟨h1,h2,h3⟩,fun _=>q⟩,fun q=>q.2 hv⟩
    ·rw[if_neg hf];exact Ev.tt ⟨⟨h1,h2,h3⟩,fun q=>absurd (zyu.2 q) hf⟩
   ·rw[if_neg (by omega)]; exact Ev.ff fun q=>h3 q.1.2.2
  ·rw[if_neg (by omega)]; exact Ev.ff fun q=>h2 q.1.2.1
 ·rw[if_neg (by omega)]; exact Ev.ff fun q=>h1 q.1.1
theorem zCn{p:Pg}:Ev (zuJ p) (VP p/\zys p.Losses<=300):=by
 unfold zuJ
 by_cases ht:zCl p
 ·obtain⟨⟨a,b,c⟩,ht2⟩:=ht;rw[zCm.some_of ⟨⟨a,b,c⟩,ht2⟩,obs,if_pos rfl,zyW (by omega) (by omega) (by omega),obs];exact Ev.dec (zyu.trans ⟨fun q=>⟨q,ht2 q⟩,fun q=>q.1⟩)
 ·rw[zCm.some_not ht,obs,if_neg (by decide)];exact Ev.ff fun q=>ht ⟨q.1.thin,fun _=>q.2⟩
theorem zCo{p:Pg}(h:zCk p):zuA p=some p:=by
 obtain⟨h1,h2,h3⟩:=h
 have k2:zux p p.Losses p.Treaties 1000000 p.Reserve [] 0=some p:=by
  refine(zrW (l:=p.Reports) (fun r=>r) (F:=fun d acc x=>zux p p.Losses p.Treaties d p.Reserve acc x) (fun acc=>some ({ Losses:=p.Losses,Reserve:=p.Reserve,Treaties:=p.Treaties,Reports:=acc }:Pg)) (fun d k acc a hk ha=>?_) (fun d acc=>?_) (d:=1000000) (by omega)).trans (by rw[List.map_id'])
  ·have hkl:=(List.getElem?_eq_some_iff.1 hk).1
   show zux p p.Losses p.Treaties (d+1) _ _ _=_
   rw[zux,if_pos (by omega),zrQ hk,obs,obs]
   show(some a.Paid).bind _=_
   rw[obs,zqs (by omega),zqs (fI (by omega))]
  ·show zux p p.Losses p.Treaties (d+1) _ _ _=_
   rw[zux,if_neg (Int.lt_irrefl _)]
 have k1:zuy p p.Losses 1000000 p.Reserve [] [] 0=some p:=by
  refine(zrW (l:=p.Treaties) (fun r=>r) (F:=fun d acc x=>zuy p p.Losses d p.Reserve acc [] x) (fun acc=>zux p p.Losses acc 1000000 p.Reserve [] 0) (fun d k acc a hk ha=>?_) (fun d acc=>?_) (d:=1000000) (by omega)).trans (by rw[List.map_id']; exact k2)
  ·have hkl:=(List.getElem?_eq_some_iff.1 hk).1
   show zuy p p.Losses (d+1) _ _ _ _=_
   rw[zuy,if_pos (by omega),zrQ hk,obs,zqs (by omega),zqs (fI (by omega))]
  ·show zuy p p.Losses (d+1) _ _ _ _=_
   rw[zuy,if_neg (Int.lt_irrefl _)]
 refine(zrW (l:=p.Losses) (fun r=>r) (F:=fun d acc x=>zuz p d acc p.Reserve [] [] x) (fun acc=>zuy p acc 1000000 p.Reserve [] [] 0) (fun d k acc a hk ha=>?_) (fun d acc=>?_) (d:=1000000) (by omega)).trans (by rw[List.map_id']; exact k1)
 ·have hkl:=(List.getElem?_eq_some_iff.1 hk).1
  show zuz p (d+1) _ _ _ _ _=_
  rw[zuz,if_pos (by omega),zrQ hk,obs]
  show(some a).bind _=_
  rw[obs,zqs (by omega),zqs (fI (by omega))]
 ·show zuz p (d+1) _ _ _ _ _=_
  rw[zuz,if_neg (Int.lt_irrefl _)]
theorem zCp{l:List Int}(hl:l.length<=1000):zuC l l=some true:=by
 unfold zuC;rw[if_pos rfl]
 have key:=zrZ (l:=l) (F:=zuB l l) (ok:=fun _=>True) (bad:=some false) (fin:=some true) (fun d k a ha=>by
  have hk:=(List.getElem?_eq_some_iff.1 ha).1;refine⟨fun _=>?_,fun h=>absurd trivial h⟩
  rw[zuB,if_pos (by omega),zrQ ha,obs,obs,if_pos rfl,zqs (fI (by omega))]) (fun d=>by rw[zuB,if_neg (Int.lt_irrefl _)]) (d:=l.length+1) (by omega)
 exact key.1 fun _ _=>trivial
def zCq(n:Int)(rs:List Rpt):Pg:={ Losses:=[{ Lo:=100,Hi:=120 },{ Lo:=300,Hi:=300 }],Reserve:=n,Treaties:=[{ Kind:=0,Part:=25,Above:=0,Most:=0,Times:=0,Price:=50,Of:=-1 },{ Kind:=1,Part:=0,Above:=50,Most:=100,Times:=0,Price:=30,Of:=-1 },{ Kind:=1,Part:=0,Above:=20,Most:=40,Times:=1,Price:=5,Of:=0 }],Reports:=rs }
def zCr:List Rpt:=[{ Treaty:=0,Paid:={ Lo:=103,Hi:=110 } },{ Treaty:=2,Paid:={ Lo:=45,Hi:=46 } }]
theorem zCs(rs:List Rpt):zuF rs=some (zCq 200 rs):=rfl
theorem zCt:zuG=some zCr:=rfl
theorem zCu(n:Int):zuH n=some (zCq n []):=rfl
theorem zCv{a b hi:Int}(h1:0<=a)(h2:a<=b)(h3:b<=hi):RgV { Lo:=a,Hi:=b } hi:=⟨h1,h2,h3⟩
theorem zCw{n:Int}{rs:List Rpt}(hn:0<=n/\n<=10000)(hr:rs.length<=5)(hrs:∀r∈rs,(0<=r.Treaty/\r.Treaty<=2)/\RgV r.Paid 10000):VP (zCq n rs):=by
 refine { ls:=fun r hr=>?_,res:=hn,ts:=fun t ht=>?_,of':=fun i t ht=>?_,rs:=fun r hr=>?_,l4:=by show 2<=4; omega,t5:=by show 3<=5; omega,r5:=hr,many:=by show zys [{ Lo:=100,Hi:=120 },{ Lo:=300,Hi:=300 }]<=1500; decide }
 ·rcases List.mem_cons.1 hr with rfl | hr
  ·exact zCv (by omega) (by omega) (by omega)
  rcases List.mem_cons.1 hr with rfl | hr
  ·exact zCv (by omega) (by omega) (by omega)
  ·cases hr
 ·rcases List.mem_cons.1 ht with rfl | ht
  ·exact⟨by unfold zgo; decide,by decide,by decide⟩
  rcases List.mem_cons.1 ht with rfl | ht
  ·exact⟨by unfold zgo; decide,by decide,by decide⟩
  rcases List.mem_cons.1 ht with rfl | ht
  ·exact⟨by unfold zgo; decide,by decide,by decide⟩
  ·cases ht
 ·match i,ht with
  | 0,ht=>cases ht; exact⟨by decide,by decide⟩
  | 1,ht=>cases ht; exact⟨by decide,by decide⟩
  | 2,ht=>cases ht; exact⟨by decide,by decide⟩
  | k+3,ht=>cases ht
 ·exact⟨(hrs r hr).1,(hrs r hr).2⟩
theorem vp3(n:Int)(hn:0<=n/\n<=10000):VP (zCq n []):=zCw hn (by show 0<=5; omega) fun r hr=>by cases hr
theorem zCx:VP (zCq 200 zCr):=zCw (by omega) (by show 2<=5; omega) fun r hr=>by
 rcases List.mem_cons.1 hr with rfl | hr
 ·exact⟨⟨by decide,by decide⟩,zCv (by omega) (by omega) (by omega)⟩
 rcases List.mem_cons.1 hr with rfl | hr
 ·exact⟨⟨by decide,by decide⟩,zCv (by omega) (by omega) (by omega)⟩
 ·cases hr
theorem zCy{p:Pg}(h:VP p){D:List Int}(hD:Inc p.Treaties.length 0 D):∃b,b < 2 ^ p.Treaties.length/\zxT b=D:=zyd (by have:=h.t5; omega) hD
theorem zCz:zke (zCq 200 []) [1]:=⟨List.pairwise_singleton _ _,fun v hv=>by
 have:=List.mem_singleton.1 hv; subst this
 exact⟨⟨by decide,by decide⟩,by decide +kernel⟩⟩
theorem zCA:zB6 (zCq 300 []) [0,1]:=by
 have hs:zke (zCq 300 []) [0,1]:=⟨by simp,fun v hv=>by
  rcases List.mem_cons.1 hv with rfl | hv
  ·exact⟨⟨by decide,by decide⟩,by decide +kernel⟩
  ·have:=List.mem_singleton.1 hv; subst this
   exact⟨⟨by decide,by decide⟩,by decide +kernel⟩⟩
 refine⟨⟨hs,by decide +kernel⟩,fun D hD=>?_⟩;obtain⟨b,hb,rfl⟩:=zCy (vp3 300 (by omega)) hD.1.inc;have hb:b < 8:=hb
 have:b=0\/b=1\/b=2\/b=3\/b=4\/b=5\/b=6\/b=7:=by omega
 rcases this with rfl | rfl | rfl | rfl | rfl | rfl | rfl | rfl
 ·exact absurd hD.2 (by decide +kernel)
 ·exact absurd hD.2 (by decide +kernel)
 ·exact absurd hD.2 (by decide +kernel)
 ·have e:zxT 3=[0,1]:=by decide +kernel
  rw[e]; exact .inr ⟨rfl,.inl rfl⟩
 ·exact absurd (hD.1.2 2 (by decide +kernel)).2 (by decide +kernel)
 ·exact absurd (hD.1.2 2 (by decide +kernel)).2 (by decide +kernel)
 ·exact absurd (hD.1.2 2 (by decide +kernel)).2 (by decide +kernel)
 ·exact absurd (hD.1.2 2 (by decide +kernel)).2 (by decide +kernel)
def okT(L:List Int):Bool:=decide (103<=(zzg (zCq 200 zCr).Treaties L).pays 0/\(zzg (zCq 200 zCr).Treaties L).pays 0<=110) && decide (45<=(zzg (zCq 200 zCr).Treaties L).pays 2/\(zzg (zCq 200 zCr).Treaties L).pays 2<=46)
theorem zCB:(zBT (zCq 200 zCr)).all (fun L=>!okT L)=true:=by decide +kernel
theorem zCC:¬ zzY (zCq 200 zCr) zCr:=by
 rintro⟨L,hL,hA⟩
 have h1:=hA _ (List.mem_cons_self ..);have h2:=hA _ (List.mem_cons_of_mem _ (List.mem_cons_self ..));have h3:=List.all_eq_true.1 zCB L ((zBU zCx).2 hL)
 have h4:okT L=true:=by
  unfold okT;rw[Bool.and_eq_true_iff];exact⟨decide_eq_true h1,decide_eq_true h2⟩
 rw[h4] at h3; cases h3
theorem fp0:FP (zCq 200 zCr) 0:=⟨[112,300],⟨⟨by decide,by decide⟩,⟨by decide,by decide⟩,trivial⟩,fun r hr=>by
 have hr:r∈[({ Treaty:=0,Paid:={ Lo:=103,Hi:=110 } }:Rpt)]:=hr;have:=List.mem_singleton.1 hr; subst this
 exact(by decide +kernel:(103:Int)<=(zzg (zCq 200 zCr).Treaties [112,300]).pays 0/\(zzg (zCq 200 zCr).Treaties [112,300]).pays 0<=110)⟩
theorem zCD:zut (zCq 200 zCr)=some (1,0):=by
 rcases zBp zCx with ⟨j,a1,a2,a3,a4⟩ | ⟨a1,a2⟩
 ·have:j=1:=zBs (p:=zCq 200 zCr) a2 a3 (j':=1) zCC fun i hi=>by
   rw[show i=0 by omega]; exact fp0
  subst this; exact a4
 ·exact absurd (a1 1 (by show 1 < 2; omega)) zCC
theorem zCE:zuv (zCq 200 zCr)=some ([0],0):=by
 obtain⟨M,q1,q2⟩:=zBn zCx
 have hm:zAO 2 (PL (zCq 200 zCr)) [0]:=by
  refine⟨⟨List.pairwise_singleton _ _,fun v hv=>by have:=List.mem_singleton.1 hv; subst this; exact⟨by decide,by decide⟩⟩,⟨[100,300],⟨⟨by decide,by decide⟩,⟨by decide,by decide⟩,trivial⟩,fun j hj hs=>?_⟩,fun D hD hP=>?_⟩
  ·have hj:j < 2:=hj
   have:j=0\/j=1:=by omega
   rcases this with rfl | rfl
   ·exact absurd hs (by decide +kernel)
   ·refine(zA1 (p:=zCq 200 zCr) (j:=1) rfl).2 ?_;exact(by decide +kernel:(45:Int)<=(zzg (zCq 200 zCr).Treaties [100,300]).pays 2/\(zzg (zCq 200 zCr).Treaties [100,300]).pays 2<=46)
  ·obtain⟨b,hb,rfl⟩:=zyd (n:=2) (by omega) hD;have hb:b < 4:=hb
   have:b=0\/b=1\/b=2\/b=3:=by omega
   rcases this with rfl | rfl | rfl | rfl
   ·refine absurd (zA6.2 ((PL.congr fun j hj=>?_).1 hP)) zCC;have hj:j < 2:=hj
    have:j=0\/j=1:=by omega
    rcases this with rfl | rfl <;> decide +kernel
   ·exact .inl (by decide +kernel)
   ·exact .inr (by decide +kernel)
   ·exact .inr (by decide +kernel)
 rw[q2.uniq hm] at q1;exact q1
theorem zCF:zzY (zCq 200 []) (zCq 200 []).Reports:=⟨[100,300],⟨⟨by decide,by decide⟩,⟨by decide,by decide⟩,trivial⟩,fun r hr=>by cases hr⟩
theorem zCG:zt6 (zCq 200 []) [100,300]=some ([100,100,45],200,0):=by
 rw[zAe (vp3 200 (by omega)) (L:=[100,300]) ⟨⟨by decide,by decide⟩,⟨by decide,by decide⟩,trivial⟩]
 have e1:lN (zCq 200 []).Treaties.length (zzg (zCq 200 []).Treaties [100,300]).pays=[100,100,45]:=by decide +kernel
 have e2:(zzg (zCq 200 []).Treaties [100,300]).soc=200:=by decide +kernel
 rw[e1,e2]
theorem zCH{r:Rg}{a b:Int}(h1:r.Lo=a)(h2:r.Hi=b):r={ Lo:=a,Hi:=b }:=by cases r; subst h1; subst h2; rfl
theorem zCI:zug (zCq 200 [])=some (bsN 3 (bdF (zCq 200 []) (trL (zCq 200 []))),0):=by
 have h:=vp3 200 (by omega);obtain⟨bs,q1,q2⟩:=zAi h zCF;rw[q1,q2.uniq (zBc h zCF).1]; rfl
theorem bd0:bdF (zCq 200 []) (trL (zCq 200 [])) 0={ Pays:={ Lo:=100,Hi:=105 },Keeps:={ Lo:=55,Hi:=55 } }:=by
 have e1:=zCH (r:=(bdF (zCq 200 []) (trL (zCq 200 [])) 0).Pays) (a:=100) (b:=105) (by decide +kernel) (by decide +kernel);have e2:=zCH (r:=(bdF (zCq 200 []) (trL (zCq 200 [])) 0).Keeps) (a:=55) (b:=55) (by decide +kernel) (by decide +kernel);generalize bdF (zCq 200 []) (trL (zCq 200 [])) 0=b at e1 e2
 cases b; simp only at e1 e2; rw[e1,e2]
theorem bd2:bdF (zCq 200 []) (trL (zCq 200 [])) 2={ Pays:={ Lo:=45,Hi:=50 },Keeps:={ Lo:=45,Hi:=50 } }:=by
 have e1:=zCH (r:=(bdF (zCq 200 []) (trL (zCq 200 [])) 2).Pays) (a:=45) (b:=50) (by decide +kernel) (by decide +kernel);have e2:=zCH (r:=(bdF (zCq 200 []) (trL (zCq 200 [])) 2).Keeps) (a:=45) (b:=50) (by decide +kernel) (by decide +kernel);generalize bdF (zCq 200 []) (trL (zCq 200 [])) 2=b at e1 e2
 cases b; simp only at e1 e2; rw[e1,e2]
theorem zCJ:zuh (zCq 200 [])=some ({ Lo:=200,Hi:=215 },0):=by
 have h:=vp3 200 (by omega);obtain⟨r,q1,q2⟩:=zAj h zCF;rw[q1,q2.uniq (zBc h zCF).2,zCH (r:=wdL (fun L=>(zzg (zCq 200 []).Treaties L).soc) (trL (zCq 200 []))) (a:=200) (b:=215) (by decide +kernel) (by decide +kernel)]
theorem zCK:zuk (zCq 200 []) [1]=some ({ Lo:=300,Hi:=320 },0):=by
 rw[zB1 (vp3 200 (by omega)) (by unfold zr0; decide) zCz,zCH (r:=zBV (zCq 200 []) (inD [1])) (a:=300) (b:=320) (by decide +kernel) (by decide +kernel)]
theorem zCL:zuo (zCq 300 [])=some ([0,1],80,0):=by
 rcases zCf (vp3 300 (by omega)) with ⟨M,q1,q2⟩ | ⟨_,q2⟩
 ·rw[q1,q2.uniq zCA]; rfl
 ·exact absurd zCA.good (q2 _)
theorem zCM:zup (zCq 300 []) [0,1] 80=some true:=
 (zB3 (vp3 300 (by omega)) (by unfold zr0; decide)).some_of ⟨zCA.good.1,by decide +kernel,zCA.good.2⟩
theorem f64{n:Int}(h:-1000000<=n/\n<=1000000):zl7 .i64 n:=fI (by omega)
theorem zCN:zuI=some true:=by
 have i0:idx (bsN 3 (bdF (zCq 200 []) (trL (zCq 200 [])))) 0=some { Pays:={ Lo:=100,Hi:=105 },Keeps:={ Lo:=55,Hi:=55 } }:=by
  have:=zrQ (zBb (n:=3) (f:=bdF (zCq 200 []) (trL (zCq 200 []))) (k:=0) (by omega));rw[bd0] at this; exact this
 have i2:idx (bsN 3 (bdF (zCq 200 []) (trL (zCq 200 [])))) 2=some { Pays:={ Lo:=45,Hi:=50 },Keeps:={ Lo:=45,Hi:=50 } }:=by
  have:=zrQ (zBb (n:=3) (f:=bdF (zCq 200 []) (trL (zCq 200 []))) (k:=2) (by omega));rw[bd2] at this; exact this
 have hl:((bsN 3 (bdF (zCq 200 []) (trL (zCq 200 [])))).length:Int)=3:=by rw[zBa]; rfl
 have s1:zuC [100,100,45] [100,100,45]=some true:=zCp (by decide);have s2:zuC [0,1] [0,1]=some true:=zCp (by decide);have s3:zuC [0] [0]=some true:=zCp (by decide);have f:∀n:Int,-1000000<=n/\n<=1000000->zl7 .i64 n:=fun n h=>f64 h;unfold zuI
 simp only[zCs,zCt,zCu,obs,zCG,zCI,zCJ,zCK,zCL,zCD,zCE,s1,s2,s3,if_true,hl,i0,i2,zuE]
 rw[zqs (f 100 (by omega)),zqs (f 100 (by omega)),zqs (f 105 (by omega)),zqs (f 105 (by omega)),zqs (f 55 (by omega)),zqs (f 55 (by omega)),zqs (f 55 (by omega)),zqs (f 55 (by omega)),if_pos (by decide),zqs (f 45 (by omega)),zqs (f 45 (by omega)),zqs (f 50 (by omega)),zqs (f 50 (by omega)),zqs (f 45 (by omega)),zqs (f 45 (by omega)),zqs (f 50 (by omega)),zqs (f 50 (by omega)),if_pos (by decide),zqs (f 200 (by omega)),zqs (f 200 (by omega)),zqs (f 215 (by omega)),zqs (f 215 (by omega)),if_pos (by decide),zqs (f 300 (by omega)),zqs (f 300 (by omega)),zqs (f 320 (by omega)),zqs (f 320 (by omega)),if_pos (by decide)]
 simp only[zCM,obs,if_true]
theorem aw:((zuI).bind fun r=>some r)=some true:=by rw[zCN]; rfl
def zCO(p:Pg)(S:Nat->Bool):Pg:={ Losses:=p.Losses,Reserve:=p.Reserve,Treaties:=p.Treaties,Reports:=kpF p.Reports 0 S }
theorem zCP{p:Pg}(h:VP p)(S:Nat->Bool):VP (zCO p S):=by
 have h5:=h.r5;have hl:=zBe (S:=S) p.Reports 0;refine { ls:=h.ls,res:=h.res,ts:=h.ts,of':=h.of',rs:=fun r hr=>?_,l4:=h.l4,t5:=h.t5,r5:=?_,many:=h.many }
 ·obtain⟨j,h1,_⟩:=(zBd _ _).1 hr;exact h.rs r (List.mem_of_getElem? h1)
 ·show(kpF p.Reports 0 S).length<=5
  omega
theorem zCQ{p:Pg}{S:Nat->Bool}:zzY (zCO p S) (zCO p S).Reports↔PL p fun j=>!S j:=by
 show zzY p (kpF p.Reports 0 S)↔_
 exact zBj
theorem zCR{p:Pg}(h:VP p){b:Nat}(hb:b < 1000000):zuL p (b:Int)=some (zCO p fun j=>b.testBit j):=by
 have h5:=h.r5
 have key:∀(d k:Nat) (acc:List Rpt),k<=p.Reports.length->p.Reports.length - k < d->acc.length<=k->zuK p (b:Int) d p.Reserve acc (k:Int)=some { Losses:=p.Losses,Reserve:=p.Reserve,Treaties:=p.Treaties,Reports:=acc++kpF (p.Reports.drop k) k fun j=>b.testBit j }:=by
  intro d
  induction d with
  | zero=>intro k _ _ h _; omega
  | succ d ih=>
   intro k acc hk hd ha;rw[zuK]
   by_cases hkl:k < p.Reports.length
   ·have hg:=List.getElem?_eq_getElem hkl;have hq0:=Nat.div_le_self b (2 ^ k)
    have hdv:(0:Int)<=(b:Int) / 2 ^ k/\(b:Int) / 2 ^ k<=1000000:=by
     rw[zxY];generalize b / 2 ^ k=q at hq0
     omega
    rw[if_pos (by omega),zqs (by omega),wu (show k<=64 by omega),zqs (by omega),zqs (by omega),Int.toNat_natCast,zqs (fI (by omega)),zqs hdv.1,zqs (by omega),zqs (fI (by omega)),List.drop_eq_getElem_cons hkl,kpF]
    by_cases hbt:b.testBit k=true
    ·rw[if_pos (zAy.2 hbt),zrQ hg,obs,zqs (by omega),zqs (fI (by omega)),show(k:Int)+1=((k+1:Nat):Int) by omega,if_pos hbt];refine(ih (k+1) _ (by omega) (by omega) (by rw[List.length_append]; show acc.length+1<=_; omega)).trans ?_;rw[List.append_assoc]; rfl
    ·rw[if_neg fun hc=>hbt (zAy.1 hc),zqs (fI (by omega)),show(k:Int)+1=((k+1:Nat):Int) by omega,if_neg hbt];exact ih (k+1) acc (by omega) (by omega) (by omega)
   ·rw[if_neg (by omega),List.drop_eq_nil_of_le (by omega)]
    show _=some ({ Losses:=p.Losses,Reserve:=p.Reserve,Treaties:=p.Treaties,Reports:=acc++[] }:Pg)
    rw[List.append_nil]
 exact key 1000000 0 [] (Nat.zero_le _) (by omega) (Nat.le_refl _)
theorem zCS{p:Pg}(h:VP p){b:Nat}(hb:b < 2 ^ p.Reports.length):(Nat.xor (2 ^ p.Reports.length - 1) (Nat.land (2 ^ p.Reports.length - 1) b)) < 1000000/\((PL p fun j=>!(Nat.xor (2 ^ p.Reports.length - 1) (Nat.land (2 ^ p.Reports.length - 1) b)).testBit j)↔PL p (inD (zxT b))):=by
 have hp:=zAS (i:=p.Reports.length) (by have:=h.r5; omega);obtain⟨c1,c2⟩:=zAR (n:=p.Reports.length) hb;exact⟨by omega,(zBr c2).trans (zBq h).symm⟩
theorem zCT{n a:Nat}:Nat.land a (2 ^ n - 1) < 2 ^ n:=by
 have h1:Nat.land a (2 ^ n - 1)<=2 ^ n - 1:=Nat.and_le_right;have h2:=zAQ (n:=n)
 omega
theorem u8w{x:Int}(h:zl7 .u8 x):zmc .i64 x=x/\0<=x/\x < 256:=by
 have h':0<=x/\x < 256:=h;exact⟨wz (fI (by omega)),h'⟩
theorem zCU{p:Pg}{tried:Int}(_:zsp p)(ht:zl7 .u8 tried):zuN p tried=some true:=by
 unfold zuN
 refine zCn.pick (fun hv=>?_) fun _=>by rw[if_neg (by decide),aw]
 have h:=hv.1;have h5:=h.r5;have hp:=zAS (i:=p.Reports.length) (by omega);obtain⟨w1,w2⟩:=u8w ht;obtain⟨M,q1,q2⟩:=zBn h;have hMl:=zxQ q2.inc
 have hMin:∀v∈M,0<=v/\v < p.Reports.length:=fun v hv=>by have:=q2.inc.2 v hv; omega
 rw[if_pos rfl,zCo h.thin,obs,q1,obs]
 show(if (0:Int)=0 then _ else _)=_
 rw[if_pos rfl];refine zye (n:=M.length) (fun d (s:Int) y=>zuM p tried (M,0) d s y) (fun k=>(mkL (M.take k):Int)) (fun d k hk=>?_) (fun d=>?_) (M.length+1) 0 (by omega) (by omega)
 ·have hg:=List.getElem?_eq_getElem hk;have hv:=hMin _ (List.getElem_mem hk);have hprev:∀u,0 < k->M[k - 1]? = some u->u < M[k]:=fun u h0 hu=>zBt.2 q2.inc.1 k h0 hk u _ hu hg;have hm0:mkL (M.take k) < 2 ^ p.Reports.length:=zCi fun v hv=>hMin v (List.mem_of_mem_take hv);have hm1:mkL (M.take (k+1)) < 2 ^ p.Reports.length:=zCi fun v hv=>hMin v (List.mem_of_mem_take hv);rw[zCg hg] at hm1 ⊢;generalize M[k]=v at hg hv hprev hm1
  show zuM p tried (M,0) (d+1) _ _=_
  rw[zuM]
  show(if (k:Int) < (M.length:Int) then ((idx M (k:Int)).bind fun x4359=>_) else _)=_
  have hv64:zmc .u64 v=v:=wz (show(0:Int)<=v/\v < 18446744073709551616 by omega);obtain⟨w,hw⟩:∃w:Nat,w=2 ^ v.toNat:=⟨_,rfl⟩
  have hpv:w<=64:=by rw[hw]; exact zAS (by omega)
  have hpow:(1:Int) * 2 ^ v.toNat=(w:Int):=by rw[hw,Int.one_mul,Int.natCast_pow]; rfl
  rw[<- hw] at hm1 ⊢;rw[if_pos (by omega)]
  simp only[zrQ hg,obs]
  rw[if_neg (by omega),if_neg (by omega)]
  by_cases h0:0 < k
  ·have hg1:=List.getElem?_eq_getElem (show k - 1 < M.length by omega);have hi1:idx M ((k:Int) - 1)=some M[k - 1]:=zrR (by omega) (by omega);have hlt:=hprev _ h0 hg1;rw[if_pos (by omega),zqs (fI (by omega)),hi1,obs,if_neg (by omega),hv64,hpow,zqs (by omega),zqs (by omega),zqs (by omega),zqs (fI (by omega)),zqs (by omega),zqs (by omega),zqs (fI (by omega)),zqs (fI (by omega)),Int.toNat_natCast,Int.toNat_natCast,zqs (fI (by omega)),zqs (fI (by omega))]
  ·rw[if_neg (by omega),hv64,hpow,zqs (by omega),zqs (by omega),zqs (by omega),zqs (fI (by omega)),zqs (by omega),zqs (by omega),zqs (fI (by omega)),zqs (fI (by omega)),Int.toNat_natCast,Int.toNat_natCast,zqs (fI (by omega)),zqs (fI (by omega))]
 ·show zuM p tried (M,0) (d+1) _ _=_
  rw[zuM]
  show(if (M.length:Int) < (M.length:Int) then _ else _)=_
  have hmk:mkL M < 2 ^ p.Reports.length:=zCi hMin;have hbm:zxT (mkL M)=M:=zCj (n:=p.Reports.length) (by omega) q2.inc;obtain⟨t,ht1⟩:∃t:Nat,t=Nat.land tried.toNat (2 ^ p.Reports.length - 1):=⟨_,rfl⟩
  have htl:t < 2 ^ p.Reports.length:=by rw[ht1]; exact zCT
  obtain⟨s1,s2⟩:=zCS h hmk;obtain⟨s3,s4⟩:=zCS h htl;rw[hbm] at s2;have sv1:=zCP h fun j=>(Nat.xor (2 ^ p.Reports.length - 1) (Nat.land (2 ^ p.Reports.length - 1) (mkL M))).testBit j;have sv2:=zCP h fun j=>(Nat.xor (2 ^ p.Reports.length - 1) (Nat.land (2 ^ p.Reports.length - 1) t)).testBit j;obtain⟨r1,n1,_⟩:=zAj sv1 (zCQ.2 (s2.2 q2.ok));have hlb:=zAN (b:=t);rw[if_neg (Int.lt_irrefl _),List.take_length]
  simp only[zA0 h,obs,w1]
  rw[zqs w2.1,zqs (by omega),zqs (fI (by omega)),zqs (fI (by omega)),Int.toNat_natCast,<- ht1,zqs (fI (by omega)),zqs (by omega),zqs (by omega),zqs (fI (by omega)),zqs (fI (by omega)),Int.toNat_natCast,zqs (fI (by omega)),zCR h s1,obs,zCo sv1.thin,obs,n1,obs,zqs (by omega),zqs (by omega),zqs (fI (by omega)),zqs (fI (by omega)),Int.toNat_natCast,zqs (fI (by omega)),zCR h s3,obs,zCo sv2.thin,obs]
  by_cases hc:PL p (inD (zxT t))
  ·obtain⟨r2,n2,_⟩:=zAj sv2 (zCQ.2 (s4.2 hc));have hmin:=q2.min (zxT t) (zyb (by omega) htl) hc
   have hsh:shB (zxT t) M=false:=by
    rcases hmin with h1 | h1
    ·rw[h1]; exact zx1 _
    ·exact zx2 h1
   rw[n2,obs]
   show(if (0:Int)=0 then (if (0:Int)=11 then _ else (if (0:Int)=0 then _ else _)) else _)=_
   rw[if_pos rfl,if_neg (by decide),if_pos rfl,zAG (by omega),obs,zAJ (by omega),obs,hsh,if_neg (by decide),aw]
  ·rw[zAk sv2 (fun q=>hc (s4.1 (zCQ.1 q))),obs]
   show(if (0:Int)=0 then (if (11:Int)=11 then _ else _) else _)=_
   rw[if_pos rfl,if_pos rfl,aw]
end
end Go.Proofs.YtkcmdghjgoaggaaGreat

namespace Go.Proofs.YtkcmdghjgoaggaaGreat
open _root_.Go.Proofs.Tryz
open Go.ChangeShapes Go.WideShapes Go.ChangeAt Go.RowKit Go.Abs
set_option maxRecDepth 100000
theorem op3:zr9 prog 3 Int (zl7 .i64):=zsa (by kernel_rfl)
theorem zCV:zr9 prog 55 Rg zsj:=zsh (fs:=[(3,0),(3,1)]) (by kernel_rfl) (by kernel_rfl) (zsg (α:=Int) (ok:=zl7 .i64) (k:=1) op3 (by kernel_rfl) rfl (zsg (α:=Int) (ok:=zl7 .i64) (k:=1) op3 (by kernel_rfl) rfl zsf)) (by kernel_rfl) fun m vs h=>by
 obtain⟨a0,c0,r0,m0,h0,p0,k0,s0,⟨a1,c1,r1,m1,h1,p1,k1,s1,rfl⟩⟩:=h;have p0:c0=[.int .i64 a0]:=p0; subst p0;have p1:c1=[.int .i64 a1]:=p1; subst p1;subst h1 h0;exact⟨⟨a0,a1⟩,rfl,⟨k0,k1⟩⟩
theorem zCW:zr9 prog 22 (List Rg) (fun l=>l.length<=maxLen/\∀a0∈l,zsj a0):=zsc (by kernel_rfl) (by kernel_rfl) zCV
theorem zCX:zr9 prog 87 Ty zsl:=zsh (fs:=[(3,0),(3,1),(3,2),(3,3),(3,4),(3,5),(3,6)]) (by kernel_rfl) (by kernel_rfl) (zsg (α:=Int) (ok:=zl7 .i64) (k:=1) op3 (by kernel_rfl) rfl (zsg (α:=Int) (ok:=zl7 .i64) (k:=1) op3 (by kernel_rfl) rfl (zsg (α:=Int) (ok:=zl7 .i64) (k:=1) op3 (by kernel_rfl) rfl (zsg (α:=Int) (ok:=zl7 .i64) (k:=1) op3 (by kernel_rfl) rfl (zsg (α:=Int) (ok:=zl7 .i64) (k:=1) op3 (by kernel_rfl) rfl (zsg (α:=Int) (ok:=zl7 .i64) (k:=1) op3 (by kernel_rfl) rfl (zsg (α:=Int) (ok:=zl7 .i64) (k:=1) op3 (by kernel_rfl) rfl zsf))))))) (by kernel_rfl) fun m vs h=>by
 obtain⟨a0,c0,r0,m0,h0,p0,k0,s0,⟨a1,c1,r1,m1,h1,p1,k1,s1,⟨a2,c2,r2,m2,h2,p2,k2,s2,⟨a3,c3,r3,m3,h3,p3,k3,s3,⟨a4,c4,r4,m4,h4,p4,k4,s4,⟨a5,c5,r5,m5,h5,p5,k5,s5,⟨a6,c6,r6,m6,h6,p6,k6,s6,rfl⟩⟩⟩⟩⟩⟩⟩:=h;have p0:c0=[.int .i64 a0]:=p0; subst p0;have p1:c1=[.int .i64 a1]:=p1; subst p1;have p2:c2=[.int .i64 a2]:=p2; subst p2;have p3:c3=[.int .i64 a3]:=p3; subst p3;have p4:c4=[.int .i64 a4]:=p4; subst p4;have p5:c5=[.int .i64 a5]:=p5; subst p5;have p6:c6=[.int .i64 a6]:=p6; subst p6;subst h6 h5 h4 h3 h2 h1 h0;exact⟨⟨a0,a1,a2,a3,a4,a5,a6⟩,rfl,⟨k0,k1,k2,k3,k4,k5,k6⟩⟩
theorem zCY:zr9 prog 23 (List Ty) (fun l=>l.length<=maxLen/\∀a0∈l,zsl a0):=zsc (by kernel_rfl) (by kernel_rfl) zCX
theorem zCZ:zr9 prog 96 Rpt zsn:=zsh (fs:=[(3,0),(55,1)]) (by kernel_rfl) (by kernel_rfl) (zsg (α:=Int) (ok:=zl7 .i64) (k:=1) op3 (by kernel_rfl) rfl (zsg (α:=Rg) (ok:=zsj) (k:=2) zCV (by kernel_rfl) rfl zsf)) (by kernel_rfl) fun m vs h=>by
 obtain⟨a0,c0,r0,m0,h0,p0,k0,s0,⟨a1,c1,r1,m1,h1,p1,k1,s1,rfl⟩⟩:=h;have p0:c0=[.int .i64 a0]:=p0; subst p0;have p1:c1=[.int .i64 a1.Lo,.int .i64 a1.Hi]:=p1; subst p1;subst h1 h0;exact⟨⟨a0,a1⟩,rfl,⟨k0,k1⟩⟩
theorem zC0:zr9 prog 24 (List Rpt) (fun l=>l.length<=maxLen/\∀a0∈l,zsn a0):=zsc (by kernel_rfl) (by kernel_rfl) zCZ
theorem zC1:zr9 prog 26 Pg zsp:=zsh (fs:=[(22,0),(3,1),(23,2),(24,3)]) (by kernel_rfl) (by kernel_rfl) (zsg (α:=List Rg) (ok:=(fun l=>l.length<=maxLen/\∀a0∈l,zsj a0)) (k:=1) zCW (by kernel_rfl) rfl (zsg (α:=Int) (ok:=zl7 .i64) (k:=1) op3 (by kernel_rfl) rfl (zsg (α:=List Ty) (ok:=(fun l=>l.length<=maxLen/\∀a0∈l,zsl a0)) (k:=1) zCY (by kernel_rfl) rfl (zsg (α:=List Rpt) (ok:=(fun l=>l.length<=maxLen/\∀a0∈l,zsn a0)) (k:=1) zC0 (by kernel_rfl) rfl zsf)))) (by kernel_rfl) fun m vs h=>by
 obtain⟨a0,c0,r0,m0,h0,p0,k0,s0,⟨a1,c1,r1,m1,h1,p1,k1,s1,⟨a2,c2,r2,m2,h2,p2,k2,s2,⟨a3,c3,r3,m3,h3,p3,k3,s3,rfl⟩⟩⟩⟩:=h;obtain⟨d0,rfl,p0⟩:=p0;have p1:c1=[.int .i64 a1]:=p1; subst p1;obtain⟨d2,rfl,p2⟩:=p2;obtain⟨d3,rfl,p3⟩:=p3;subst h3 h2 h1 h0;exact⟨⟨a0,a1,a2,a3⟩,⟨_,_,_,rfl,p0,p2,p3⟩,⟨k0,k1,k2,k3⟩⟩
theorem zC2:laidOutB prog=true:=by kernel_rfl
theorem zC3:ownKnob prog.godebug=none:=by kernel_rfl
theorem zC4(os:Os)(started:os.Started)(H:Type)(enc:TypeId × Value->H) :
    ReturnsInHanded {} Tryz.checked os 11 .any (Rows.treatyLeftSpec.pre6 enc Tryz.prog Tryz.f11 Rows.treatyLeftRow.domain false) (Rows.treatyLeftSpec.post enc Tryz.prog Tryz.f11 false true false false):=by
  refine returnsInHanded_of_change (C:=Tryz.checked) zC3 started (by kernel_rfl) Tryz.func11
    (ChangeSpec.witness6 (enc:=enc) (C:=Tryz.checked) false ⟨#[],#[.agg #[.slice none 0 0,.int .i64 0,.slice none 0 0,.slice none 0 0],.int .u8 0],[]⟩ 8 (by kernel_rfl) (by kernel_rfl) (by kernel_rfl) (by kernel_rfl)) ?_
  intro W base args ds gs before hval0 hW hcnd _;have hval:∀(j:Nat) t v,Tryz.f11.params[j]? = some t->args[j]? = some v->Value.okWide Tryz.prog W .any base t v:=hval0;have hW':=hW;obtain⟨p,q,hA0,hV,rfl,hfz,hnd⟩:=hW;have hA:DataW.TrodAll enc Tryz.prog W 0 (fun _=>true) true Tryz.f11.params.toList args.toList ds p:=hA0;rw[Tryz.params11] at hA hval;obtain⟨v0,v1,d0,d1,p0,p1,rfl,rfl,rfl,h0,h1⟩:=trodAll_two hA;obtain⟨rfl,rfl⟩:=trodVars_none hV;obtain⟨n1,hv1⟩:=okWide_int Tryz.underlying5 (hval 1 5 v1 rfl rfl)
  have hlt:∀x∈p0++p1,x.block < W.heap.size:=fun x hx=>by simpa using hW'.lt x (by simpa using hx)
  obtain⟨fu0,hf0⟩:=id h0;obtain⟨fu1,hf1⟩:=id h1
  clear hA0 hval0
  obtain⟨e0,m0,w0,a_0,le0,sv0,lay0,cr0,zwG,ok0⟩:=zC1 H enc W true _ _ _ hf0 _ _ (Lay.nil W);obtain⟨i1,hc1,_,hw1⟩:=DataW.trod_int Tryz.underlying5 hf1;obtain⟨c0_0,c0_2,c0_3,rfl,g0_0,g0_2,g0_3⟩:=zwG
  obtain⟨cs0,hv0,cl0⟩:∃cs,v0=.agg cs/\v0.cells.toList=cs.toList:=by
    have hl:=cr0.length
    cases v0 with
    | agg cs=>exact⟨cs,rfl,rfl⟩
    | _=>exact absurd hl (by simp[Value.cells])
  subst hv0;subst hv1
  have hi1:i1=n1:=by
    have h:[Value.int .u8 n1]=[.int .u8 i1]:=hc1
    cases h; rfl
  subst hi1;have hargs:zeq (VR e0) [.agg 4 [c0_0,.int .i64 a_0.Reserve,c0_2,c0_3],.c (.int .u8 i1)] [.agg cs0,.int .u8 i1]:=.cons ⟨cs0,rfl,cr0,rfl⟩ (.cons rfl .nil);refine(callsIn_wide.1 (zqC fits htab (zxO (p:=a_0) (tried:=i1) lay0.pre g0_0 g0_2 g0_3 (zCU ok0 (zqA hw1)) (Q:=fun v _=>v=.c (.bool true)) fun _ _=>rfl) lay0.hr (args':=#[.agg cs0,.int .u8 i1]) hargs 0)).mono fun en W' hp=>?_;obtain⟨v,v',e',m',rfl,hst,hvr,rfl⟩:=hp;have hv':v'=.bool true:=hvr;subst hv';have hbelow:=lay0.below hst
  refine⟨_,rfl,[d0,d1],[],p0++p1,[],p0++p1,[],by simpa using hW',trodAll_mk1 (shut_bool Tryz.underlying4 _),
    trodAll_mk2 (Below.trod zC2 (by kernel_rfl) (of_decide_eq_true (by kernel_rfl)) h0 hbelow fun x hx=>hlt x (by simp[hx])) (Below.trod zC2 (by kernel_rfl) (of_decide_eq_true (by kernel_rfl)) h1 hbelow fun x hx=>hlt x (by simp[hx])),rfl,lay0.kept hst _,fun hc=>by cases hc⟩
theorem TreatyLeft_holds:Rows.TreatyLeftSaid:=
 OpenClaim.holds_of_wide 11 Tryz.f11 rfl rfl rfl rfl rfl rfl rfl ⟨rfl,rfl,rfl,rfl,rfl⟩ rfl rfl rfl rfl rfl (by kernel_rfl) Tryz.func11 (by kernel_rfl)
  (of_decide_eq_true (by kernel_rfl)) (by unfold Func.isWrapper; first | (rw[if_pos (by decide +kernel)]; kernel_rfl) | (rw[if_neg (by decide +kernel)]; exact⟨rfl,rfl⟩))
  (fun os started H enc _=>zC4 os started H enc)
end Go.Proofs.YtkcmdghjgoaggaaGreat

