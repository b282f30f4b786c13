/- TreatyLeaves, for all that it can be called with, returns true. Condition: none. -/
import Derived.Test.YtkcmdghjgoaggaaGreatTbI
import GoSem.Step
import GoSem.ClaimKeys
import Derived.DeepKeys2
import Derived.RangeFuncLeaves
import Derived.OrdersIn
import Derived.Laws.World
import Derived.Laws.Sem
import Derived.RangeFuncRecord
import Derived.Laws.CopyRow
import Derived.Laws.Append
import Derived.Laws.Rows
import Derived.Laws.Slices
import Derived.Laws.Entries
import Derived.ChangeKeysEq
import Derived.IntWalk
import Derived.DeepKeys
import Derived.DeepKeys3
import Derived.Laws.StructEq
import Derived.MapKept
import Derived.Laws.AppendOwn
import Derived.ChangeArms
import Derived.ChangeOld
import Derived.Carry
import Derived.ChangeShapes
import Derived.KernelRfl
import Derived.ProofKit
import Derived.Test.YtkcmdghjgoaggaaGreatRows

namespace Go.Proofs.YtkcmdghjgoaggaaGreat
open _root_.Go.Proofs.Tryz
open Go.Abs
set_option maxRecDepth 100000
noncomputable section
theorem zAB{n:Nat}(h:n<=5)(f:Nat->Int){k:Nat}(hk:k < n):idx (lN n f) (k:Int)=some (f k):=zrT (zAv h f hk)
theorem zAC{n:Nat}(h:n<=5)(f:Nat->Int){i:Int}(h0:0<=i)(hk:i < n):idx (lN n f) i=some (f i.toNat):=by
 have:=zAB h f (k:=i.toNat) (by omega)
 rwa [show((i.toNat:Nat):Int)=i by omega] at this
theorem zAD{n:Nat}(h:n<=5){l:List Int}{f:Nat->Int}(hl:l.length=n)(ha:∀k,k < n->l[k]? = some (f k)):l=lN n f:=by
 refine List.ext_getElem? fun k=>?_
 by_cases hk:k < n
 ·rw[ha k hk,zAv h f hk]
 ·rw[List.getElem?_eq_none (by omega),List.getElem?_eq_none (by rw[zAu h]; omega)]
theorem zAE{n:Nat}(h:n<=5)(f:Nat->Int){k:Nat}(hk:k < n)(a:Int):(lN n f).set k a=lN n (upF f k a):=by
 refine zAD h (by rw[List.length_set,zAu h]) fun j hj=>?_
 by_cases hjk:j=k
 ·subst hjk; rw[List.getElem?_set_self (by rw[zAu h]; exact hj),zyA]
 ·rw[List.getElem?_set_ne (Ne.symm hjk),zAv h f hj,zyB _ _ hjk]
theorem zAF{n:Nat}(h:n<=5):List.replicate n (0:Int)=lN n fun _=>0:=zAD h (List.length_replicate ..) fun k hk=>by rw[List.getElem?_replicate,if_pos hk]
theorem zAG{n:Nat}(h:n<=5){f g:Nat->Int}(hfg:∀k,k < n->f k=g k):lN n f=lN n g:=zAD h (zAu h f) fun k hk=>by rw[zAv h f hk,hfg k hk]
def a1(ts:List Ty)(th:Nat->Bool)(P:Nat->Int)(x:Int):Nat->(Nat->Int) × Int
 | 0=>(fun _=>0,x)
 | k+1=>match ts[k]? with
  | some t=>if t.Of < 0/\th k=true then (upF (a1 ts th P x k).1 k (zzi t (a1 ts th P x k).2 (P k)),(a1 ts th P x k).2 - zzi t (a1 ts th P x k).2 (P k)) else a1 ts th P x k
  | none=>a1 ts th P x k
theorem zAH{ts:List Ty}{th:Nat->Bool}{P:Nat->Int}{x:Int}{k:Nat}{t:Ty}(h:ts[k]? = some t):a1 ts th P x (k+1)=if t.Of < 0/\th k=true then (upF (a1 ts th P x k).1 k (zzi t (a1 ts th P x k).2 (P k)),(a1 ts th P x k).2 - zzi t (a1 ts th P x k).2 (P k)) else a1 ts th P x k:=by
 show(match ts[k]? with | some t=>_ | none=>_)=_
 rw[h]
def a2(ts:List Ty)(P:Nat->Int)(now:Nat->Int):Nat->(Nat->Int) × (Nat->Int)
 | 0=>(now,now)
 | k+1=>match ts[k]? with
  | some t=>if 0<=t.Of then (upF (a2 ts P now k).1 k (zzi t ((a2 ts P now k).2 t.Of.toNat) (P k)),upF (upF (a2 ts P now k).2 k (zzi t ((a2 ts P now k).2 t.Of.toNat) (P k))) t.Of.toNat ((a2 ts P now k).2 t.Of.toNat - zzi t ((a2 ts P now k).2 t.Of.toNat) (P k))) else a2 ts P now k
  | none=>a2 ts P now k
theorem zAI{ts:List Ty}{P now:Nat->Int}{k:Nat}{t:Ty}(h:ts[k]? = some t):a2 ts P now (k+1)=if 0<=t.Of then (upF (a2 ts P now k).1 k (zzi t ((a2 ts P now k).2 t.Of.toNat) (P k)),upF (upF (a2 ts P now k).2 k (zzi t ((a2 ts P now k).2 t.Of.toNat) (P k))) t.Of.toNat ((a2 ts P now k).2 t.Of.toNat - zzi t ((a2 ts P now k).2 t.Of.toNat) (P k))) else a2 ts P now k:=by
 show(match ts[k]? with | some t=>_ | none=>_)=_
 rw[h]
structure I1 (ts:List Ty) (P:Nat->Int) (x:Int) (s:(Nat->Int) × Int):Prop where
 left:0<=s.2/\s.2<=x
 now:∀j,0<=s.1 j/\s.1 j<=x
 cap:zzr ts fun j=>P j+s.1 j
theorem zAJ{ts:List Ty}{th:Nat->Bool}(hts:zzs ts){P:Nat->Int}(hP:zzr ts P){x:Int}(hx:0<=x/\x<=100000):∀k,k<=ts.length->I1 ts P x (a1 ts th P x k)
 | 0,_=>⟨⟨hx.1,Int.le_refl _⟩,fun _=>⟨Int.le_refl _,hx.1⟩,fun j t ht h1=>by have:=hP j t ht h1; show P j+0<=_; omega⟩
 | k+1,hk=>by
  have ih:=zAJ (th:=th) hts hP hx k (by omega);have hg:=List.getElem?_eq_getElem (show k < ts.length by omega);have hkd:=hts.k _ (List.getElem_mem (show k < ts.length by omega));rw[zAH hg];generalize a1 ts th P x k=s at ih ⊢;generalize ts[k]'(by omega)=t at hg hkd
  by_cases hc:t.Of < 0/\th k=true
  ·rw[if_pos hc];have hl:=ih.left;have hb:=zzl hkd (a:=s.2) (b:=P k) (by omega) (hP k t hg);refine⟨by show 0<=s.2 - _/\s.2 - _<=x; omega,fun j=>?_,fun j t' ht' h'=>?_⟩
   ·show 0<=upF s.1 k _ j/\upF s.1 k _ j<=x
    by_cases hjk:j=k
    ·subst hjk; rw[zyA]; omega
    ·rw[zyB _ _ hjk]; exact ih.now j
   ·show P j+upF s.1 k _ j<=_
    by_cases hjk:j=k
    ·subst hjk; rw[hg] at ht'; cases ht'; rw[zyA]; exact hb.2.2 h'
    ·rw[zyB _ _ hjk]; exact ih.cap j t' ht' h'
  ·rw[if_neg hc]; exact ih
structure I2 (ts:List Ty) (P:Nat->Int) (x:Int) (s:(Nat->Int) × (Nat->Int)):Prop where
 now:∀j,0<=s.1 j/\s.1 j<=x
 rest:∀j,0<=s.2 j/\s.2 j<=x
 cap:zzr ts fun j=>P j+s.1 j
theorem zAK{ts:List Ty}(hts:zzs ts){P now:Nat->Int}(hP:zzr ts P){x:Int}(hx:0<=x/\x<=100000)(hn:∀j,0<=now j/\now j<=x)(hc:zzr ts fun j=>P j+now j):∀k,k<=ts.length->I2 ts P x (a2 ts P now k)
 | 0,_=>⟨hn,hn,hc⟩
 | k+1,hk=>by
  have ih:=zAK hts hP hx hn hc k (by omega);have hg:=List.getElem?_eq_getElem (show k < ts.length by omega);have hkd:=hts.k _ (List.getElem_mem (show k < ts.length by omega));rw[zAI hg];generalize a2 ts P now k=s at ih ⊢;generalize ts[k]'(by omega)=t at hg hkd
  by_cases ho:0<=t.Of
  ·rw[if_pos ho];have hr:=ih.rest t.Of.toNat;have hb:=zzl hkd (a:=s.2 t.Of.toNat) (b:=P k) (by omega) (hP k t hg);refine⟨fun j=>?_,fun j=>?_,fun j t' ht' h'=>?_⟩
   ·show 0<=upF s.1 k _ j/\upF s.1 k _ j<=x
    by_cases hjk:j=k
    ·subst hjk; rw[zyA]; omega
    ·rw[zyB _ _ hjk]; exact ih.now j
   ·show 0<=upF (upF s.2 k _) _ _ j/\upF (upF s.2 k _) _ _ j<=x
    by_cases hjo:j=t.Of.toNat
    ·subst hjo; rw[zyA]; omega
    ·rw[zyB _ _ hjo]
     by_cases hjk:j=k
     ·subst hjk; rw[zyA]; omega
     ·rw[zyB _ _ hjk]; exact ih.rest j
   ·show P j+upF s.1 k _ j<=_
    by_cases hjk:j=k
    ·subst hjk; rw[hg] at ht'; cases ht'; rw[zyA]; exact hb.2.2 h'
    ·rw[zyB _ _ hjk]; exact ih.cap j t' ht' h'
  ·rw[if_neg ho]; exact ih
def zAL(ts:List Ty)(th:Nat->Bool)(s:(Nat->Int) × Int)(x:Int):(Nat->Int) × Int:=
 (fun j=>s.1 j+(a2 ts s.1 (a1 ts th s.1 x ts.length).1 ts.length).1 j,s.2+(a1 ts th s.1 x ts.length).2)
def zAM(ts:List Ty)(th:Nat->Bool)(L:List Int):(Nat->Int) × Int:=L.foldl (zAL ts th) (fun _=>0,0)
structure RI (ts:List Ty) (B:Int) (s:(Nat->Int) × Int):Prop where
 net:0<=s.2/\s.2<=B
 pays:∀j,0<=s.1 j/\s.1 j<=B
 cap:zzr ts s.1
theorem RI.step{ts:List Ty}{th:Nat->Bool}(hts:zzs ts){B:Int}{s:(Nat->Int) × Int}(h:RI ts B s){x:Int}(hx:0<=x/\x<=100000):RI ts (B+x) (zAL ts th s x):=by
 have h1:=zAJ (th:=th) hts h.cap hx ts.length (Nat.le_refl _);have h2:=zAK hts h.cap hx h1.now h1.cap ts.length (Nat.le_refl _);refine⟨?_,fun j=>?_,h2.cap⟩
 ·have:=h.net; have:=h1.left; show 0<=s.2+_/\s.2+_<=_; omega
 ·have:=h.pays j; have:=h2.now j; show 0<=s.1 j+_/\s.1 j+_<=_; omega
theorem wu{n:Nat}(h:n<=64):zmc .u64 (n:Int)=(n:Int):=wz (show(0:Int)<=n/\(n:Int) < 18446744073709551616 by omega)
theorem zAN(B k:Nat):(B:Int) / 2 ^ k % 2=((B / 2 ^ k % 2:Nat):Int):=by rw[zyb]; rfl
theorem zAO{B k:Nat}:(B:Int) / 2 ^ k % 2=1↔B.testBit k=true:=by
 rw[zAN,Nat.testBit_eq_decide_div_mod_eq,decide_eq_true_eq]; omega
section
variable {p:Pg} (h:VP p)
theorem zAP(h:VP p){x6 x7 x16:Int}{now:Nat->Int}{K:Int->Int->List Int->Option (List Int × Int)}{P:Nat->Int}(hP:∀j,0<=P j/\P j<=100000)(hn:∀j,0<=now j/\now j<=100000)(hx:0<=x7/\x7<=100000):zsI p x6 x7 x16 (lN p.Treaties.length now) K 1000000 0 (lN p.Treaties.length P)=K (x6+x16) (x7+1) (lN p.Treaties.length fun j=>P j+now j):=by
 have h5:=h.t5
 let st:Nat->List Int:=fun k=>lN p.Treaties.length fun j=>if j < k then P j+now j else P j
 have key:=zyv (n:=p.Treaties.length) (fun d (s:List Int) y=>zsI p x6 x7 x16 (lN p.Treaties.length now) K d y s) st (fin:=K (x6+x16) (x7+1) (lN p.Treaties.length fun j=>P j+now j)) (fun d k hk=>?_) (fun d=>?_) 1000000 0 (by omega) (by omega)
 ·exact key
 ·have h1:=hP k;have h2:=hn k
  show zsI p x6 x7 x16 (lN p.Treaties.length now) K (d+1) (k:Int) (lN p.Treaties.length fun j=>if j < k then P j+now j else P j)=_
  rw[zsI,if_pos (by omega),zAB h5 _ hk,obs,zAB h5 _ hk,obs,if_neg (by omega),zqs (fI (by omega)),obs,zqs (fI (by omega)),Int.toNat_natCast,zAE h5 _ hk]
  have e:(lN p.Treaties.length (upF (fun j=>if j < k then P j+now j else P j) k (P k+now k)))=st (k+1):=zAG h5 fun j hj=>by
   by_cases hjk:j=k
   ·subst hjk; rw[zyA,if_pos (by omega)]
   ·rw[zyB _ _ hjk]
    by_cases h3:j < k
    ·rw[if_pos h3,if_pos (by omega)]
    ·rw[if_neg h3,if_neg (by omega)]
  rw[e]
 ·show zsI p x6 x7 x16 (lN p.Treaties.length now) K (d+1) (p.Treaties.length:Int) (lN p.Treaties.length fun j=>if j < p.Treaties.length then P j+now j else P j)=_
  rw[zsI,if_neg (by omega),zqs (fI (by omega))]
  have e:(lN p.Treaties.length fun j=>if j < p.Treaties.length then P j+now j else P j)=lN p.Treaties.length fun j=>P j+now j:=zAG h5 fun j hj=>by rw[if_pos hj]
  rw[e]
theorem zAQ(h:VP p){x6 x7 x16:Int}{K:Int->Int->List Int->Option (List Int × Int)}{P now:Nat->Int}(hP:∀j,0<=P j/\P j<=100000)(hcap:zzr p.Treaties P){x:Int}(hx:0<=x/\x<=1000)(hn:∀j,0<=now j/\now j<=x)(hcn:zzr p.Treaties fun j=>P j+now j)(hx7:0<=x7/\x7<=100000) :
  zsJ p x6 x7 x16 K 1000000 0 (lN p.Treaties.length P) (lN p.Treaties.length now) (lN p.Treaties.length now)=K (x6+x16) (x7+1) (lN p.Treaties.length fun j=>P j+(a2 p.Treaties P now p.Treaties.length).1 j):=by
 have h5:=h.t5;have key:=zyv (n:=p.Treaties.length) (fun d (s:(Nat->Int) × (Nat->Int)) y=>zsJ p x6 x7 x16 K d y (lN p.Treaties.length P) (lN p.Treaties.length s.1) (lN p.Treaties.length s.2)) (fun k=>a2 p.Treaties P now k) (fin:=K (x6+x16) (x7+1) (lN p.Treaties.length fun j=>P j+(a2 p.Treaties P now p.Treaties.length).1 j)) (fun d k hk=>?_) (fun d=>?_) 1000000 0 (by omega) (by omega)
 ·exact key
 ·have hg:=List.getElem?_eq_getElem hk;have hkd:=h.tsOk.k _ (List.getElem_mem hk);have hof:=h.of' k _ hg;have ih:=zAK h.tsOk hcap (x:=x) (by omega) hn hcn k (by omega);rw[zAI hg];generalize a2 p.Treaties P now k=s at ih ⊢;rw[zsJ,if_pos (by omega),zrT hg,obs];generalize p.Treaties[k]=t at hg hkd hof
  by_cases ho:0<=t.Of
  ·have hr:=ih.rest t.Of.toNat;have hb:=zzl hkd (a:=s.2 t.Of.toNat) (b:=P k) (by omega) (hcap k t hg);have hPk:=hP k;have htk:=zzo hkd (a:=s.2 t.Of.toNat) (b:=P k) (by omega) (by omega)
   have hne:t.Of.toNat ≠ k:=by omega
   have hoo:((t.Of.toNat:Nat):Int)=t.Of:=by omega
   rw[if_pos ho,if_pos ho,zAC h5 _ ho (by omega),obs,zAB h5 _ hk,obs,htk,obs,zAB h5 _ hk,obs,Int.toNat_natCast,zAE h5 _ hk,zAB h5 _ hk,obs,zyA,zAB h5 _ hk,obs,zAE h5 _ hk,zAC h5 _ ho (by omega),obs,zyB _ _ hne,obs,zqs (fI (by omega)),obs,zqs (fI (by omega)),zAE h5 _ (show t.Of.toNat < p.Treaties.length by omega)]
  ·rw[if_neg ho,if_neg ho,zqs (fI (by omega))]
 ·have i2:=zAK h.tsOk hcap (x:=x) (by omega) hn hcn p.Treaties.length (Nat.le_refl _);rw[zsJ,if_neg (by omega)];exact zAP h hP (fun j=>by have:=i2.now j; omega) hx7
theorem zAR(h:VP p){b:Nat}(hb:b < 1000000){x6 x7:Int}{K:Int->Int->List Int->Option (List Int × Int)}{P:Nat->Int}(hP:∀j,0<=P j/\P j<=100000)(hcap:zzr p.Treaties P){x:Int}(hx:0<=x/\x<=1000)(hx6:0<=x6/\x6<=100000)(hx7:0<=x7/\x7<=100000) :
  zsK p (b:Int) x6 x7 K 1000000 x 0 (lN p.Treaties.length P) (List.replicate (Int.toNat (p.Treaties.length:Int)) 0)=K (x6+(a1 p.Treaties (fun k=>b.testBit k) P x p.Treaties.length).2) (x7+1) (lN p.Treaties.length fun j=>P j+(a2 p.Treaties P (a1 p.Treaties (fun k=>b.testBit k) P x p.Treaties.length).1 p.Treaties.length).1 j):=by
 have h5:=h.t5;rw[Int.toNat_natCast,zAF h5];have key:=zyv (n:=p.Treaties.length) (fun d (s:(Nat->Int) × Int) y=>zsK p (b:Int) x6 x7 K d s.2 y (lN p.Treaties.length P) (lN p.Treaties.length s.1)) (fun k=>a1 p.Treaties (fun k=>b.testBit k) P x k) (fin:=K (x6+(a1 p.Treaties (fun k=>b.testBit k) P x p.Treaties.length).2) (x7+1) (lN p.Treaties.length fun j=>P j+(a2 p.Treaties P (a1 p.Treaties (fun k=>b.testBit k) P x p.Treaties.length).1 p.Treaties.length).1 j)) (fun d k hk=>?_) (fun d=>?_) 1000000 0 (by omega) (by omega)
 ·exact key
 ·have hg:=List.getElem?_eq_getElem hk;have hkd:=h.tsOk.k _ (List.getElem_mem hk);have hof:=h.of' k _ hg;have ih:=zAJ (th:=fun k=>b.testBit k) h.tsOk hcap (x:=x) (by omega) k (by omega);rw[zAH hg];generalize a1 p.Treaties (fun k=>b.testBit k) P x k=s at ih ⊢;rw[zsK,if_pos (by omega),zrT hg,obs];generalize p.Treaties[k]=t at hg hkd hof
  by_cases ho:t.Of < 0
  ·have hdv:(0:Int)<=(b:Int) / 2 ^ k/\(b:Int) / 2 ^ k<=1000000:=by
    have hq0:=Nat.div_le_self b (2 ^ k);rw[zyb];generalize b / 2 ^ k=q at hq0
    omega
   rw[if_pos ho,zqs (by omega),wu (show k<=64 by omega),zqs (by omega),zqs (by omega),Int.toNat_natCast,zqs (fI (by omega)),zqs hdv.1,zqs (by omega),zqs (fI (by omega))]
   by_cases hbt:b.testBit k=true
   ·have hl:=ih.left;have hbd:=zzl hkd (a:=s.2) (b:=P k) (by omega) (hcap k t hg);have hPk:=hP k;have htk:=zzo hkd (a:=s.2) (b:=P k) (by omega) (by omega);rw[if_pos (zAO.2 hbt),if_pos ⟨ho,hbt⟩,zAB h5 _ hk,obs,htk,obs,zAB h5 _ hk,obs,zAE h5 _ hk,zAB h5 _ hk,obs,zyA,zqs (fI (by omega)),zqs (fI (by omega))]
   ·rw[if_neg fun hc=>hbt (zAO.1 hc),if_neg fun hc=>hbt hc.2,zqs (fI (by omega))]
  ·rw[if_neg ho,if_neg fun hc=>ho hc.1,zqs (fI (by omega))]
 ·have i1:=zAJ (th:=fun k=>b.testBit k) h.tsOk hcap (x:=x) (by omega) p.Treaties.length (Nat.le_refl _);have hl:=i1.left;rw[zsK,if_neg (by omega),zqs (fI (by omega)),zqs (by rw[zAu h5]; simp only[List.length_nil]; omega),List.nil_append];exact zAQ h hP hcap hx i1.now i1.cap hx7
theorem zAS(h:VP p){b:Nat}(hb:b < 1000000){L:List Int}(hL:∀x∈L,0<=x/\x<=1000)(hl:L.length<=9):∀(d k:Nat) (s:(Nat->Int) × Int),k<=L.length->L.length - k < d->RI p.Treaties (1000 * k) s ->
  zsL p L (b:Int) d s.2 (k:Int) (lN p.Treaties.length s.1)=some (lN p.Treaties.length ((L.drop k).foldl (zAL p.Treaties fun k=>b.testBit k) s).1,((L.drop k).foldl (zAL p.Treaties fun k=>b.testBit k) s).2)
 | 0,_,_,_,hd,_=>by omega
 | d+1,k,s,hk,hd,hs=>by
  have h5:=h.t5;rw[zsL]
  by_cases hkl:k < L.length
  ·have hg:=List.getElem?_eq_getElem hkl;have hx:=hL _ (List.getElem_mem hkl);have hn:=hs.net;rw[if_pos (by omega),zrT hg,obs,zqs (by omega),zAR h hb (fun j=>by have:=hs.pays j; omega) hs.cap hx (by omega) (by omega),show(k:Int)+1=((k+1:Nat):Int) by omega,List.drop_eq_getElem_cons hkl];have hs':=hs.step (th:=fun k=>b.testBit k) h.tsOk (x:=L[k]) (by omega);exact zAS h hb hL hl d (k+1) (zAL p.Treaties (fun k=>b.testBit k) s L[k]) (by omega) (by omega) ⟨by have:=hs'.net; omega,fun j=>by have:=hs'.pays j; omega,hs'.cap⟩
  ·rw[if_neg (by omega),List.drop_eq_nil_of_le (by omega)]
   rfl
theorem zAT(h:VP p){b:Nat}(hb:b < 1000000){L:List Int}(hL:∀x∈L,0<=x/\x<=1000)(hl:L.length<=9):zsM p L (b:Int)=some (lN p.Treaties.length (zAM p.Treaties (fun k=>b.testBit k) L).1,(zAM p.Treaties (fun k=>b.testBit k) L).2):=by
 have h5:=h.t5;unfold zsM;rw[zqs (by omega),Int.toNat_natCast,zAF h5];exact zAS h hb hL hl (L.length+1) 0 (fun _=>0,0) (Nat.zero_le _) (by omega) ⟨⟨Int.le_refl _,Int.le_refl _⟩,fun _=>⟨Int.le_refl _,Int.le_refl _⟩,zzz h.tsOk⟩
end
def ofB(ts:List Ty)(j:Nat):Bool:=match ts[j]? with | some t=>decide (t.Of < 0) | none=>false
theorem zAU{ts:List Ty}{j:Nat}{t:Ty}(h:ts[j]? = some t):ofB ts j=decide (t.Of < 0):=by unfold ofB; rw[h]
theorem zAV{ts:List Ty}{P:Nat->Int}{x:Int}{j:Nat}:∀{k i:Nat},j < k->k<=i->(dN ts P x i).pays j=(dN ts P x k).pays j:=fun {k i} hj hk=>by
 obtain⟨e,rfl⟩:∃e,i=k+e:=⟨i - k,by omega⟩
 clear hk
 induction e with
 | zero=>rfl
 | succ e ih=>
  rw[<- ih]
  show(match ts[k+e]? with | some t=>zzp t (k+e) P (dN ts P x (k+e)) | none=>dN ts P x (k+e)).pays j=_
  cases ts[k+e]? with
  | none=>rfl
  | some t=>
   show(zzp t (k+e) P (dN ts P x (k+e))).pays j=_
   unfold zzp
   split
   ·exact zyB _ _ (by omega)
   ·exact zyB _ _ (by omega)
theorem zAW{ts:List Ty}(hts:zzs ts){th:Nat->Bool}(hth:∀j,j < ts.length->th j=true){P:Nat->Int}{x:Int}:∀k,k<=ts.length->(a1 ts th P x k).2=(dN ts P x k).soc/\∀j,(a1 ts th P x k).1 j=if j < k/\ofB ts j=true then (dN ts P x k).pays j else 0
 | 0,_=>⟨rfl,fun j=>by rw[if_neg (by omega)]; rfl⟩
 | k+1,hk=>by
  obtain⟨i1,i2⟩:=zAW hts hth (P:=P) (x:=x) k (by omega);have hg:=List.getElem?_eq_getElem (show k < ts.length by omega);have hof:=hts.o k _ hg;rw[zAH hg,zzq hg];have hfk:=zAU hg;generalize ts[k]'(by omega)=t at hg hof hfk;unfold zzp
  by_cases ho:t.Of < 0
  ·rw[if_pos ⟨ho,hth k (by omega)⟩,if_pos (show t.Of = -1 by omega),i1];refine⟨rfl,fun j=>?_⟩
   show upF (a1 ts th P x k).1 k _ j=if _ then upF (dN ts P x k).pays k _ j else 0
   by_cases hjk:j=k
   ·subst hjk; rw[zyA,zyA,if_pos ⟨by omega,by rw[hfk]; exact decide_eq_true ho⟩]
   ·rw[zyB _ _ hjk,zyB _ _ hjk,i2]
    by_cases hj:j < k/\ofB ts j=true
    ·rw[if_pos hj,if_pos ⟨by omega,hj.2⟩]
    ·rw[if_neg hj,if_neg fun h=>hj ⟨by omega,h.2⟩]
  ·rw[if_neg fun h=>ho h.1,if_neg (show ¬ t.Of = -1 by omega)];refine⟨i1,fun j=>?_⟩
   show(a1 ts th P x k).1 j=if _ then upF (dN ts P x k).pays k _ j else 0
   by_cases hjk:j=k
   ·subst hjk;rw[i2,if_neg (by omega),if_neg fun h=>ho (by rw[hfk] at h; exact of_decide_eq_true h.2)]
   ·rw[zyB _ _ hjk,i2]
    by_cases hj:j < k/\ofB ts j=true
    ·rw[if_pos hj,if_pos ⟨by omega,hj.2⟩]
    ·rw[if_neg hj,if_neg fun h=>hj ⟨by omega,h.2⟩]
theorem zAX{ts:List Ty}(hts:zzs ts){P now:Nat->Int}{x:Int}(hn:∀j,now j=if j < ts.length/\ofB ts j=true then (dN ts P x ts.length).pays j else 0):∀k,k<=ts.length->(∀j,(a2 ts P now k).1 j=if j < k then (dN ts P x k).pays j else now j)/\∀j,(a2 ts P now k).2 j=if j < k then (dN ts P x k).keeps j else now j
 | 0,_=>⟨fun j=>by rw[if_neg (by omega)]; rfl,fun j=>by rw[if_neg (by omega)]; rfl⟩
 | k+1,hk=>by
  obtain⟨i1,i2⟩:=zAX hts hn k (by omega);have hg:=List.getElem?_eq_getElem (show k < ts.length by omega);have hof:=hts.o k _ hg;have hst:(dN ts P x ts.length).pays k=(dN ts P x (k+1)).pays k:=zAV (by omega) (by omega);rw[zzq hg] at hst;rw[zAI hg,zzq hg];have hfk:=zAU hg;have hnk:=hn k;generalize ts[k]'(by omega)=t at hg hof hfk hst
  by_cases ho:0<=t.Of
  ·have hne:t.Of.toNat ≠ k:=by omega
   have hlt:t.Of.toNat < k:=by omega
   have er:(a2 ts P now k).2 t.Of.toNat=(dN ts P x k).keeps t.Of.toNat:=by rw[i2,if_pos hlt]
   unfold zzp;rw[if_pos ho,if_neg (show ¬ t.Of = -1 by omega),er];refine⟨fun j=>?_,fun j=>?_⟩
   ·show upF (a2 ts P now k).1 k _ j=if j < k+1 then upF (dN ts P x k).pays k _ j else now j
    by_cases hjk:j=k
    ·subst hjk; rw[zyA,zyA,if_pos (by omega)]
    ·rw[zyB _ _ hjk,zyB _ _ hjk,i1]
     by_cases hj:j < k
     ·rw[if_pos hj,if_pos (by omega)]
     ·rw[if_neg hj,if_neg (by omega)]
   ·show upF (upF (a2 ts P now k).2 k _) _ _ j=if j < k+1 then upF (upF (dN ts P x k).keeps _ _) k _ j else now j
    by_cases hjk:j=k
    ·subst hjk; rw[zyB _ _ (Ne.symm hne),zyA,zyA,if_pos (by omega)]
    ·rw[zyB _ (zzi t _ _) hjk]
     by_cases hjo:j=t.Of.toNat
     ·subst hjo; rw[zyA,zyA,if_pos (by omega)]
     ·rw[zyB _ _ hjo,zyB _ _ hjo,zyB _ _ hjk,i2]
      by_cases hj:j < k
      ·rw[if_pos hj,if_pos (by omega)]
      ·rw[if_neg hj,if_neg (by omega)]
  ·rw[if_neg ho]
   have hfk':ofB ts k=true:=by rw[hfk]; exact decide_eq_true (by omega)
   rw[if_pos ⟨by omega,hfk'⟩,hst] at hnk;unfold zzp at hnk ⊢;rw[if_pos (show t.Of = -1 by omega)] at hnk ⊢;have hnk:now k=upF (dN ts P x k).pays k (zzi t (dN ts P x k).soc (P k)) k:=hnk;rw[zyA] at hnk;refine⟨fun j=>?_,fun j=>?_⟩
   ·show(a2 ts P now k).1 j=if j < k+1 then upF (dN ts P x k).pays k _ j else now j
    by_cases hjk:j=k
    ·subst hjk; rw[zyA,if_pos (by omega),i1,if_neg (by omega)]; exact hnk
    ·rw[zyB _ _ hjk,i1]
     by_cases hj:j < k
     ·rw[if_pos hj,if_pos (by omega)]
     ·rw[if_neg hj,if_neg (by omega)]
   ·show(a2 ts P now k).2 j=if j < k+1 then upF (dN ts P x k).keeps k _ j else now j
    by_cases hjk:j=k
    ·subst hjk; rw[zyA,if_pos (by omega),i2,if_neg (by omega)]; exact hnk
    ·rw[zyB _ _ hjk,i2]
     by_cases hj:j < k
     ·rw[if_pos hj,if_pos (by omega)]
     ·rw[if_neg hj,if_neg (by omega)]
theorem zAY{ts:List Ty}(hts:zzs ts){th:Nat->Bool}(hth:∀j,j < ts.length->th j=true):∀(L:List Int) (s:(Nat->Int) × Int) (o:DS),(∀j,s.1 j=o.pays j)->s.2=o.soc->(∀j,ts.length<=j->o.pays j=0) ->
  (∀j,(L.foldl (zAL ts th) s).1 j=(L.foldl (zzx ts) o).pays j)/\(L.foldl (zAL ts th) s).2=(L.foldl (zzx ts) o).soc
 | [],s,o,h1,h2,_=>⟨h1,h2⟩
 | x::L,s,o,h1,h2,h3=>by
  have hs1:s.1=o.pays:=funext h1;obtain⟨c1,c2⟩:=zAW hts hth (P:=o.pays) (x:=x) ts.length (Nat.le_refl _);obtain⟨c3,_⟩:=zAX hts (P:=o.pays) (x:=x) c2 ts.length (Nat.le_refl _)
  have hz:∀(k j:Nat),k<=ts.length->k<=j->(dN ts o.pays x k).pays j=0:=fun k=>by
   induction k with
   | zero=>intro j _ _; rfl
   | succ k ih=>
    intro j hk hj;have hg:=List.getElem?_eq_getElem (show k < ts.length by omega);rw[zzq hg];unfold zzp
    split
    ·show upF _ k _ j=0; rw[zyB _ _ (by omega)]; exact ih j (by omega) (by omega)
    ·show upF _ k _ j=0; rw[zyB _ _ (by omega)]; exact ih j (by omega) (by omega)
  have e1:∀j,(zAL ts th s x).1 j=(zzx ts o x).pays j:=fun j=>by
   show s.1 j+(a2 ts s.1 (a1 ts th s.1 x ts.length).1 ts.length).1 j=o.pays j+(dN ts o.pays x ts.length).pays j
   rw[hs1,c3]
   by_cases hj:j < ts.length
   ·rw[if_pos hj]
   ·rw[if_neg hj,c2,if_neg fun h=>hj h.1,hz ts.length j (Nat.le_refl _) (by omega)]
  refine zAY hts hth L (zAL ts th s x) (zzx ts o x) e1 ?_ fun j hj=>?_
  ·show s.2+(a1 ts th s.1 x ts.length).2=o.soc+(dN ts o.pays x ts.length).soc
   rw[hs1,c1,h2]
  ·show o.pays j+(dN ts o.pays x ts.length).pays j=0
   rw[h3 j hj,hz ts.length j (Nat.le_refl _) hj]; rfl
theorem zAZ{ts:List Ty}(hts:zzs ts){th:Nat->Bool}(hth:∀j,j < ts.length->th j=true)(L:List Int):(∀j,(zAM ts th L).1 j=(zzy ts L).pays j)/\(zAM ts th L).2=(zzy ts L).soc:=
 zAY hts hth L _ _ (fun _=>rfl) rfl fun _ _=>rfl
end
end Go.Proofs.YtkcmdghjgoaggaaGreat

namespace Go.Proofs.YtkcmdghjgoaggaaGreat
open _root_.Go.Proofs.Tryz
open Go.Abs
set_option maxRecDepth 100000
noncomputable section
theorem zA0{b:Nat}(hb:b < 65536):∀(d p:Nat) (acc:List Int),p<=16->16 - p < d->acc=zx5 b p->zsX (b:Int) d acc (p:Int)=some (zx6 b)
 | 0,_,_,_,h,_=>by omega
 | d+1,p,acc,hp,h,ha=>by
  have hle:b / 2 ^ p<=b:=Nat.div_le_self _ _;rw[zsX,wu (show p<=64 by omega)]
  have hq:(b:Int) / 2 ^ ((p:Int)).toNat=((b / 2 ^ p:Nat):Int):=by rw[Int.toNat_natCast]; simp
  rw[hq]
  clear hq
  have hl:=zya (b:=b) p;have hbit:b.testBit p=decide (b / 2 ^ p % 2=1):=Nat.testBit_eq_decide_div_mod_eq ..
  have h16:p=16->b / 2 ^ p=0:=fun he=>by subst he; exact Nat.div_eq_of_lt (by omega)
  have h0':b / 2 ^ p=0->zx5 b p=zx6 b:=fun h9=>by
   have:=zx9 (b:=b) (p:=p) (fun q hq=>zjo h9 hq) (16 - p);rw[show p+(16 - p)=16 by omega] at this;exact this.symm
  generalize b / 2 ^ p=q at hle hbit h16 h0' ⊢;rw[zqs (by omega),zqs (by omega),zqs (by omega),zqs (fI (by omega))]
  by_cases h0:0 < q
  ·have hp16:p < 16:=by
    rcases Nat.lt_or_ge p 16 with h1 | h1
    ·exact h1
    ·have:=h16 (by omega); omega
   rw[if_pos (by omega),zqs (by omega),zqs (by omega),zqs (by omega),zqs (fI (by omega)),zqs (by omega),zqs (by omega),zqs (fI (by omega))]
   by_cases h1:q % 2=1
   ·rw[if_pos (by omega),zqs (show acc.length < 1048576 by rw[ha]; omega),zqs (fI (by omega)),show(p:Int)+1=((p+1:Nat):Int) by omega];refine zA0 hb d (p+1) _ (by omega) (by omega) ?_
    show _=zx5 b p++(if b.testBit p then [(p:Int)] else [])
    rw[ha,hbit,h1]; rfl
   ·rw[if_neg (by omega),zqs (fI (by omega)),show(p:Int)+1=((p+1:Nat):Int) by omega];refine zA0 hb d (p+1) _ (by omega) (by omega) ?_
    show _=zx5 b p++(if b.testBit p then [(p:Int)] else [])
    rw[ha,hbit,decide_eq_false h1]; simp
  ·rw[if_neg (by omega),ha];exact congrArg some (h0' (by omega))
theorem zA1{b:Nat}(hb:b < 65536):zsY (b:Int)=some (zx6 b):=zA0 hb 1000000 0 [] (Nat.zero_le _) (by omega) rfl
theorem zA2{a b:List Int}(hl:a.length<=1000):∀(d k:Nat),k<=a.length->a.length - k < d->zsZ a b d (k:Int)=some (bef (a.drop k) (b.drop k))
 | 0,_,_,h=>by omega
 | d+1,k,hk,h=>by
  rw[zsZ]
  by_cases hka:k < a.length
  ·rw[if_pos (by omega)];have da:=List.drop_eq_getElem_cons hka;have ga:=List.getElem?_eq_getElem hka
   by_cases hkb:k < b.length
   ·have db:=List.drop_eq_getElem_cons hkb;have gb:=List.getElem?_eq_getElem hkb;rw[if_pos (by omega),zrT ga,obs,zrT gb,obs,da,db];unfold bef
    by_cases he:a[k]=b[k]
    ·rw[if_pos he,if_pos he,zqs (fI (by omega)),show(k:Int)+1=((k+1:Nat):Int) by omega];exact zA2 hl d (k+1) (by omega) (by omega)
    ·rw[if_neg he,if_neg he,obs,obs]
   ·rw[if_neg (by omega),da,List.drop_eq_nil_of_le (show b.length<=k by omega),decide_eq_false (by omega)]; rfl
  ·rw[if_neg (by omega),List.drop_eq_nil_of_le (show a.length<=k by omega)]
   by_cases hkb:k < b.length
   ·rw[List.drop_eq_getElem_cons hkb,decide_eq_true (by omega)]; rfl
   ·rw[List.drop_eq_nil_of_le (show b.length<=k by omega),decide_eq_false (by omega)]; rfl
theorem zA3{a b:List Int}(hl:a.length<=1000):zs0 a b=some (bef a b):=zA2 hl (a.length+1) 0 (Nat.zero_le _) (by omega)
theorem zA4{a b:List Int}(hl:a.length<=1000):zs1 a b=some (shB a b):=by
 unfold zs1 shB
 by_cases h1:a.length < b.length
 ·rw[if_pos (by omega),decide_eq_true h1]; rfl
 ·rw[if_neg (by omega),decide_eq_false h1]
  by_cases h2:a.length=b.length
  ·rw[if_pos (by omega),zA3 hl,decide_eq_true h2]; simp
  ·rw[if_neg (by omega),decide_eq_false h2]; simp
def zA5(n:Nat):List Int:=(List.range n).map fun j=>((j:Nat):Int)
theorem zA6(n:Nat):Inc n 0 (zA5 n):=by
 refine⟨?_,fun v hv=>?_⟩
 ·unfold zA5;rw[List.pairwise_map]
  exact List.pairwise_lt_range.imp fun h=>by omega
 ·obtain⟨j,hj,rfl⟩:=List.mem_map.1 hv;have:=List.mem_range.1 hj
  omega
theorem zA7{n j:Nat}(h:j < n):inD (zA5 n) j=true:=decide_eq_true (List.mem_map.2 ⟨j,List.mem_range.2 h,rfl⟩)
theorem zA8{b:Nat}:(zx6 b).length<=16:=zya 16
structure zA9 (n:Nat) (P:(Nat->Bool)->Prop) (M:List Int):Prop where
 inc:Inc n 0 M
 ok:P (inD M)
 min:∀D,Inc n 0 D->P (inD D)->D=M\/shB M D=true
theorem zA9.uniq{n:Nat}{P:(Nat->Bool)->Prop}{M M':List Int}(h:zA9 n P M)(h':zA9 n P M'):M=M':=by
 rcases h.min M' h'.inc h'.ok with h1 | h1
 ·exact h1.symm
 ·rcases h'.min M h.inc h.ok with h2 | h2
  ·exact h2
  ·rw[zyj h1] at h2; cases h2
def macc(S:Nat->Bool):Nat->Nat
 | 0=>0
 | i+1=>if S i=true then macc S i ||| 2 ^ i else macc S i
theorem zBa(S:Nat->Bool)(j:Nat):∀i,(macc S i).testBit j=(decide (j < i) && S j)
 | 0=>by simp[macc]
 | i+1=>by
  have ih:=zBa S j i;unfold macc
  by_cases hs:S i=true
  ·rw[if_pos hs,Nat.testBit_or,ih,Nat.testBit_two_pow]
   by_cases h:i=j
   ·subst h; simp[hs]
   ·have:decide (j < i+1)=decide (j < i):=decide_eq_decide.2 (by omega);rw[this]; simp[h]
  ·rw[if_neg hs,ih]
   by_cases h:i=j
   ·subst h
    have:S i=false:=by simpa using hs
    rw[this]; simp
   ·have:decide (j < i+1)=decide (j < i):=decide_eq_decide.2 (by omega);rw[this]
theorem zBb(S:Nat->Bool)(i:Nat):macc S i < 2 ^ i:=by
 apply Nat.lt_pow_two_of_testBit
 intro j hj;rw[zBa,decide_eq_false (by omega)]; rfl
theorem zBc{a b:Nat}:Nat.land a b=b↔∀j,b.testBit j=true->a.testBit j=true:=by
 have e:Nat.land a b=a &&& b:=rfl;rw[e]
 constructor
 ·intro h j hj;have:=congrArg (fun x=>x.testBit j) h
  simp only[Nat.testBit_and] at this
  rw[hj] at this
  simpa using this
 ·intro h
  apply Nat.eq_of_testBit_eq
  intro j;rw[Nat.testBit_and]
  cases hb:b.testBit j with
  | true=>rw[h j hb]; rfl
  | false=>simp
theorem zBd{n:Nat}:2 ^ n - 1 < 2 ^ n:=by have:=Nat.two_pow_pos n; omega
theorem zBe{n b:Nat}(_hb:b < 2 ^ n):Nat.xor (2 ^ n - 1) (Nat.land (2 ^ n - 1) b) < 2 ^ n/\∀j,j < n->(Nat.xor (2 ^ n - 1) (Nat.land (2 ^ n - 1) b)).testBit j = !b.testBit j:=by
 have e:∀j,(Nat.xor (2 ^ n - 1) (Nat.land (2 ^ n - 1) b)).testBit j=(decide (j < n) ^^ (decide (j < n) && b.testBit j)):=fun j=>by
  show((2 ^ n - 1) ^^^ ((2 ^ n - 1) &&& b)).testBit j=_
  rw[Nat.testBit_xor,Nat.testBit_and,Nat.testBit_two_pow_sub_one]
 refine⟨Nat.lt_pow_two_of_testBit _ fun j hj=>?_,fun j hj=>?_⟩
 ·rw[e,decide_eq_false (by omega)]; rfl
 ·rw[e,decide_eq_true hj]
  cases b.testBit j <;> rfl
theorem zBf{β:Type}{n:Nat}{F:Nat->Int->Option β}{ok:Nat->Prop}{res:Nat->Option β}{fin:Option β}(hstep:∀d k,k < n->(ok k->F (d+1) (k:Int)=F d ((k:Int)+1))/\(¬ ok k->F (d+1) (k:Int)=res k))(hend:∀d,F (d+1) (n:Int)=fin) :
  ∀(d k:Nat),k<=n->n - k < d->(∃j,k<=j/\j < n/\¬ ok j/\(∀i,k<=i->i < j->ok i)/\F d (k:Int)=res j)\/((∀j,k<=j->j < n->ok j)/\F d (k:Int)=fin)
 | 0,k,_,h=>by omega
 | d+1,k,hk,hd=>by
  by_cases hkn:k=n
  ·subst hkn;exact .inr ⟨fun j h1 h2=>by omega,hend d⟩
  ·by_cases ho:ok k
   ·rw[(hstep d k (by omega)).1 ho,show(k:Int)+1=((k+1:Nat):Int) by omega]
    have hor:∀i,k<=i->(k+1<=i->ok i)->ok i:=fun i h1 h2=>by
     rcases Nat.eq_or_lt_of_le h1 with h3 | h3
     ·subst h3; exact ho
     ·exact h2 h3
    rcases zBf hstep hend d (k+1) (by omega) (by omega) with ⟨j,q1,q2,q3,q4,q5⟩ | ⟨q1,q2⟩
    ·exact .inl ⟨j,by omega,q2,q3,fun i h1 h2=>hor i h1 fun h3=>q4 i h3 h2,q5⟩
    ·exact .inr ⟨fun j h1 h2=>hor j h1 fun h3=>q1 j h3 h2,q2⟩
   ·exact .inl ⟨k,Nat.le_refl _,by omega,ho,fun i h1 h2=>by omega,(hstep d k (by omega)).2 ho⟩
theorem zBg{i:Nat}(h:i<=6):2 ^ i<=64:=Nat.pow_le_pow_right (n:=2) (by omega) h
def zBh:List Rg->Int->List Int
 | [],_=>[]
 | r::rs,n=>(r.Lo+n % (r.Hi - r.Lo+1))::zBh rs (n / (r.Hi - r.Lo+1))
theorem zBi:∀{rs:List Rg} {n:Int},(∀r∈rs,r.Lo<=r.Hi)->0<=n->inL rs (zBh rs n)
 | [],_,_,_=>trivial
 | r::rs,n,h,h0=>by
  have hr:=h r (List.mem_cons_self ..);have h1:=Int.emod_nonneg n (show r.Hi - r.Lo+1 ≠ 0 by omega);have h2:=Int.emod_lt_of_pos n (show 0 < r.Hi - r.Lo+1 by omega);exact⟨⟨by omega,by omega⟩,zBi (fun r hr=>h r (List.mem_cons_of_mem _ hr)) (Int.ediv_nonneg h0 (by omega))⟩
theorem zBj:∀{rs:List Rg} {L:List Int},inL rs L->∃n,0<=n/\n < zyJ rs/\zBh rs n=L
 | [],[],_=>⟨0,Int.le_refl _,by show(0:Int) < 1; omega,rfl⟩
 | [],_::_,h=>h.elim
 | _::_,[],h=>h.elim
 | r::rs,x::xs,h=>by
  obtain⟨n,h0,h1,h2⟩:=zBj h.2;have hx:=h.1;obtain⟨c,hc⟩:∃c,c=r.Hi - r.Lo+1:=⟨_,rfl⟩;refine⟨(x - r.Lo)+c * n,?_,?_,?_⟩
  ·have:=Int.mul_nonneg (show 0<=c by omega) h0; omega
  ·show _ < (r.Hi - r.Lo+1) * zyJ rs
   rw[<- hc];have:=Int.mul_le_mul_of_nonneg_left (show n+1<=zyJ rs by omega) (show 0<=c by omega);rw[Int.mul_add,Int.mul_one] at this
   omega
  ·show(r.Lo+_ % (r.Hi - r.Lo+1))::zBh rs (_ / (r.Hi - r.Lo+1))=_
   rw[<- hc,Int.add_mul_emod_self_left,Int.emod_eq_of_lt (by omega) (by omega),Int.add_mul_ediv_left _ _ (by omega),Int.ediv_eq_zero_of_lt (by omega) (by omega),Int.zero_add,h2]
   congr 1; omega
theorem zBk{p:Pg}(h:VP p):∀(d k:Nat) (acc:List Int) (n:Int),k<=p.Losses.length->p.Losses.length - k < d->acc.length=k->0<=n/\n<=100000->zsE p d acc n (k:Int)=some (acc++zBh (p.Losses.drop k) n)
 | 0,_,_,_,_,hd,_,_=>by omega
 | d+1,k,acc,n,hk,hd,ha,hn=>by
  have h4:=h.l4;rw[zsE]
  by_cases hkl:k < p.Losses.length
  ·have hg:=List.getElem?_eq_getElem hkl;have hr:=h.ls _ (List.getElem_mem hkl);rw[List.drop_eq_getElem_cons hkl];generalize p.Losses[k]=r at hg hr;have hr':=hr;unfold RgV at hr';have h1:=Int.emod_nonneg n (show r.Hi - r.Lo+1 ≠ 0 by omega);have h2:=Int.emod_lt_of_pos n (show 0 < r.Hi - r.Lo+1 by omega);have h3:=Int.ediv_nonneg hn.1 (show 0<=r.Hi - r.Lo+1 by omega);have h5:=Int.ediv_le_self (r.Hi - r.Lo+1) hn.1
   simp only[zrT hg,obs,zy8 hr]
   rw[if_pos (by omega),zqs hn.1,zqs (by omega),zqs (fI (by omega)),zqs (fI (by omega)),zqs (by omega),zqs hn.1,zqs (by omega),zqs (fI (by omega)),zqs (fI (by omega)),show(k:Int)+1=((k+1:Nat):Int) by omega];refine(zBk h d (k+1) (acc++[r.Lo+n % (r.Hi - r.Lo+1)]) (n / (r.Hi - r.Lo+1)) (by omega) (by omega) (by rw[List.length_append,ha]; rfl) (by omega)).trans ?_;rw[List.append_assoc]; rfl
  ·rw[if_neg (by omega),List.drop_eq_nil_of_le (by omega)]
   show _=some (acc++[])
   rw[List.append_nil]
theorem zBl{p:Pg}(h:VP p){n:Int}(hn:0<=n/\n<=100000):zsF p n=some (zBh p.Losses n):=zBk h 1000000 0 [] n (Nat.zero_le _) (by have:=h.l4; omega) rfl hn
theorem VP.nthIn{p:Pg}(h:VP p){n:Int}(hn:0<=n):inL p.Losses (zBh p.Losses n):=zBi (fun r hr=>(h.ls r hr).2.1) hn
theorem zBm{n:Nat}(h:n<=6):(1:Int) * 2 ^ (Int.toNat (zmc .u64 (n:Int)))=((2 ^ n:Nat):Int):=by rw[wu (by omega),Int.toNat_natCast,Int.one_mul,Int.natCast_pow]; rfl
theorem zBn{n:Nat}(h:n<=6):(gd ((0:Int)<=(1:Int)) (gd ((0:Int)<=(zmc .u64 (n:Int))) (gd ((zmc .u64 (n:Int))<=(64:Int)) (gd (zl7 .i64 ((1:Int) * ((2:Int) ^ (Int.toNat (zmc .u64 (n:Int)))))) (gd (zl7 .i64 (((1:Int) * ((2:Int) ^ (Int.toNat (zmc .u64 (n:Int))))) - (1:Int))) (some (((1:Int) * ((2:Int) ^ (Int.toNat (zmc .u64 (n:Int))))) - (1:Int))))))))=some ((2 ^ n - 1:Nat):Int):=by
 have hp:=zBg h;have hp0:0 < 2 ^ n:=Nat.two_pow_pos _;rw[zBm h,zqs (by omega),wu (by omega),zqs (by omega),zqs (by omega),zqs (fI (by omega)),zqs (fI (by omega))]
 congr 1
 omega
theorem zBo{p:Pg}(h:VP p):zsQ p=some ((2 ^ p.Reports.length - 1:Nat):Int):=zBn (by have:=h.r5; omega)
theorem zBp{p:Pg}(h:VP p):zsH p=some ((2 ^ p.Treaties.length - 1:Nat):Int):=zBn (by have:=h.t5; omega)
theorem l9{p:Pg}(h:VP p){L:List Int}(hL:inL p.Losses L):L.length<=9:=by rw[zzL hL]; have:=h.l4; omega
theorem zBq{p:Pg}(h:VP p){L:List Int}(hL:inL p.Losses L):zsM p L ((2 ^ p.Treaties.length - 1:Nat):Int)=some (lN p.Treaties.length (zzy p.Treaties L).pays,(zzy p.Treaties L).soc):=by
 have h5:=h.t5;have hp:=zBg (i:=p.Treaties.length) (by omega);rw[zAT h (by omega) (zzO hL h.ls) (l9 h hL)];obtain⟨e1,e2⟩:=zAZ h.tsOk (th:=fun k=>(2 ^ p.Treaties.length - 1).testBit k) (fun j hj=>by rw[Nat.testBit_two_pow_sub_one,decide_eq_true hj]) L;rw[zAG h5 fun j _=>e1 j,e2]
open Classical in
def agR(P:Nat->Int)(r:Rpt):Prop:=r.Paid.Lo<=P r.Treaty.toNat/\P r.Treaty.toNat<=r.Paid.Hi
open Classical in
def agf(p:Pg)(L:List Int)(j:Nat):Bool:=decide (∀r,p.Reports[j]? = some r->agR (zzy p.Treaties L).pays r)
open Classical in
theorem zBr{p:Pg}{L:List Int}{j:Nat}{r:Rpt}(h:p.Reports[j]? = some r):agf p L j=true↔agR (zzy p.Treaties L).pays r:=by
 unfold agf;rw[decide_eq_true_eq];exact⟨fun q=>q r h,fun q r' h'=>by rw[h] at h'; cases h'; exact q⟩
def zBs(p:Pg)(L:List Int):Nat:=macc (agf p L) p.Reports.length
def PL(p:Pg)(S:Nat->Bool):Prop:=∃L,inL p.Losses L/\∀j,j < p.Reports.length->S j=false->agf p L j=true
theorem PL.congr{p:Pg}{S S':Nat->Bool}(h:∀j,j < p.Reports.length->S j=S' j):PL p S↔PL p S':=
 exists_congr fun _=>and_congr_right fun _=>forall_congr' fun j=>forall_congr' fun hj=>by rw[h j hj]
theorem zBt{p:Pg}(h:VP p){L:List Int}(hL:inL p.Losses L):(∀j,0<=(zzy p.Treaties L).pays j/\(zzy p.Treaties L).pays j<=4000)/\(∀j,0<=(zzy p.Treaties L).keeps j/\(zzy p.Treaties L).keeps j<=4000)/\0<=(zzy p.Treaties L).soc/\(zzy p.Treaties L).soc<=4000:=by
 obtain⟨h1,h2,h3⟩:=zz2 h hL;refine⟨fun j=>?_,fun j=>?_,?_⟩
 ·have:=h1.pays j; omega
 ·have:=h1.keeps j; omega
 ·have:=h1.soc; omega
theorem zBu{p:Pg}(h:VP p){L:List Int}(_hL:inL p.Losses L){l:List Int}(hl:l.length < 1000000){x:Int}(hx:0<=x/\x<=100000){K:List Int->Int->Option (List Int)}:zsN p l x (lN p.Treaties.length (zzy p.Treaties L).pays,(zzy p.Treaties L).soc) K 1000000 0 0=K (l++[(zBs p L:Int)]) (x+1):=by
 have h5:=h.t5;have hr5:=h.r5;refine zyv (n:=p.Reports.length) (fun d (s:Int) y=>zsN p l x (lN p.Treaties.length (zzy p.Treaties L).pays,(zzy p.Treaties L).soc) K d s y) (fun k=>(macc (agf p L) k:Int)) (fun d k hk=>?_) (fun d=>?_) 1000000 0 (by omega) (by omega)
 ·have hg:=List.getElem?_eq_getElem hk;have hr:=(h.rs _ (List.getElem_mem hk)).1;have hag:=zBr (L:=L) hg;generalize p.Reports[k]=r at hg hr hag;have hm:=zBb (agf p L) k;have hm':=zBb (agf p L) (k+1);have hp:=zBg (i:=k) (by omega);have hp':=zBg (i:=k+1) (by omega)
  show zsN p l x _ K (d+1) _ _=_
  rw[zsN,if_pos (by omega),zrT hg,obs,zAC h5 _ hr.1 (by omega),obs]
  show(zsv ((zzy p.Treaties L).pays r.Treaty.toNat) r.Paid.Lo r.Paid.Hi).bind _=_
  by_cases hc:agR (zzy p.Treaties L).pays r
  ·have hs:agf p L k=true:=hag.2 hc
   have hmm:Nat.lor (macc (agf p L) k) (2 ^ k)=macc (agf p L) (k+1):=by
    conv=>rhs; unfold macc
    rw[if_pos hs]; rfl
   rw[zy5.some_of hc,obs,if_pos rfl,zBm (by omega),zqs (by omega),wu (by omega),zqs (by omega),zqs (by omega),zqs (fI (by omega)),zqs (by omega),zqs (by omega),zqs (fI (by omega)),zqs (fI (by omega)),Int.toNat_natCast,Int.toNat_natCast,hmm,zqs (fI (by omega)),zqs (fI (by omega))]
  ·have hs:¬ agf p L k=true:=fun q=>hc (hag.1 q)
   have hmm:macc (agf p L) (k+1)=macc (agf p L) k:=by
    conv=>lhs; unfold macc
    rw[if_neg hs]
   rw[zy5.some_not hc,obs,if_neg (by decide),zqs (fI (by omega)),hmm]
 ·show zsN p l x _ K (d+1) _ _=_
  rw[zsN,if_neg (Int.lt_irrefl _),zqs (by omega),zqs (fI (by omega))]; rfl
def zBv(p:Pg):List Int:=(List.range (zyJ p.Losses).toNat).map fun n:Nat=>(zBs p (zBh p.Losses (n:Int)):Int)
theorem zBw{p:Pg}:(zBv p).length=(zyJ p.Losses).toNat:=by unfold zBv; rw[List.length_map,List.length_range]
theorem zBx{p:Pg}{n:Nat}(h:n < (zyJ p.Losses).toNat):(zBv p)[n]? = some (zBs p (zBh p.Losses (n:Int)):Int):=by unfold zBv; rw[List.getElem?_map,List.getElem?_range h]; rfl
theorem VP.prodPos{p:Pg}(h:VP p):1<=zyJ p.Losses:=(zyY h.ls h.l4).1
theorem zBy{p:Pg}(h:VP p):zsP p=some (zBv p):=by
 have hm:=h.many;have h1:=h.prodPos;refine zyv (n:=(zyJ p.Losses).toNat) (fun d (s:List Int) y=>zsO p d s y) (fun k=>(zBv p).take k) (fun d k hk=>?_) (fun d=>?_) 1000000 0 (by omega) (by omega)
 ·show zsO p (d+1) _ _=_
  have hin:=h.nthIn (n:=(k:Int)) (by omega);rw[zsO,zzc h,obs,if_pos (by omega),zBl h (by omega),obs,zBp h,obs,zBq h hin,obs,zBu h hin (by rw[List.length_take,zBw]; omega) (by omega),List.take_add_one,zBx hk]; rfl
 ·show zsO p (d+1) _ _=_
  rw[zsO,zzc h,obs,if_neg (by omega),List.take_of_length_le (by rw[zBw]; exact Nat.le_refl _)]
theorem zBz{p:Pg}(h:VP p){b:Nat}(hb:b < 2 ^ p.Reports.length):Ev (zsS (zBv p) (b:Int)) (PL p fun j=>!b.testBit j):=by
 have hm:=h.many;have hr5:=h.r5;have hp:=zBg (i:=p.Reports.length) (by omega)
 have key:=zr2 (l:=zBv p) (F:=zsR (zBv p) (b:Int)) (ok:=fun a=>¬ Nat.land a.toNat b=b) (bad:=some true) (fin:=some false) (fun d k a ha=>by
  have hk:=(List.getElem?_eq_some_iff.1 ha).1;rw[zBw] at hk;have ha2:=ha;rw[zBx hk] at ha2
  cases ha2
  have hml:=zBb (agf p (zBh p.Losses (k:Int))) p.Reports.length;have hle:Nat.land (zBs p (zBh p.Losses (k:Int))) b<=b:=Nat.and_le_right;have hml':zBs p (zBh p.Losses (k:Int)) < 2 ^ p.Reports.length:=hml;rw[zsR,if_pos (by rw[zBw]; omega),zrT ha,obs,zqs (by omega),zqs (by omega),zqs (fI (by omega)),zqs (fI (by omega)),Int.toNat_natCast,Int.toNat_natCast,zqs (fI (by omega))];refine⟨fun q=>?_,fun q=>?_⟩
  ·rw[if_neg fun e=>q (Int.ofNat_inj.1 e),zqs (fI (by omega))]
  ·rw[if_pos (congrArg _ (Classical.not_not.1 q))]) (fun d=>by rw[zsR,if_neg (Int.lt_irrefl _)]) (d:=(zBv p).length+1) (by omega)
 have e:(∃a∈zBv p,Nat.land a.toNat b=b)↔PL p fun j=>!b.testBit j:=by
  constructor
  ·rintro⟨a,ha,q⟩
   obtain⟨n,hn,rfl⟩:=List.mem_map.1 ha;refine⟨_,h.nthIn (n:=(n:Int)) (by omega),fun j hj hS=>?_⟩;rw[Int.toNat_natCast] at q;have:=zBc.1 q j (by simpa using hS);unfold zBs at this;rw[zBa] at this;exact(Bool.and_eq_true_iff.1 this).2
  ·rintro⟨L,hL,q⟩
   obtain⟨n,n0,n1,rfl⟩:=zBj hL;refine⟨_,List.mem_map.2 ⟨n.toNat,List.mem_range.2 (by omega),rfl⟩,?_⟩;rw[Int.toNat_natCast,show((n.toNat:Nat):Int)=n by omega];refine zBc.2 fun j hj=>?_;unfold zBs
   have hjr:j < p.Reports.length:=by
    rcases Nat.lt_or_ge j p.Reports.length with h1 | h1
    ·exact h1
    ·rw[Nat.testBit_lt_two_pow (Nat.lt_of_lt_of_le hb (Nat.pow_le_pow_right (by omega) h1))] at hj; cases hj
   rw[zBa,decide_eq_true hjr,q j hjr (by show(!b.testBit j)=false; rw[hj]; rfl)]; rfl
 unfold zsS
 by_cases hh:∃a∈zBv p,Nat.land a.toNat b=b
 ·rw[key.2 fun q=>by obtain⟨a,h1,h2⟩:=hh; exact q a h1 h2]; exact Ev.tt (e.1 hh)
 ·rw[key.1 fun a h1 h2=>hh ⟨a,h1,h2⟩]; exact Ev.ff fun q=>hh (e.2 q)
end
end Go.Proofs.YtkcmdghjgoaggaaGreat

namespace Go.Proofs.YtkcmdghjgoaggaaGreat
open _root_.Go.Proofs.Tryz
open Go.Abs
set_option maxRecDepth 100000
noncomputable section
theorem zBA{p:Pg}{L:List Int}:zBs p L=2 ^ p.Reports.length - 1↔agN (zzy p.Treaties L).pays p.Reports:=by
 constructor
 ·intro h r hr;obtain⟨j,hj⟩:=List.mem_iff_getElem?.1 hr;have hjl:=(List.getElem?_eq_some_iff.1 hj).1
  have e:(zBs p L).testBit j=true:=by rw[h,Nat.testBit_two_pow_sub_one,decide_eq_true hjl]
  unfold zBs at e;rw[zBa] at e;exact(zBr hj).1 (Bool.and_eq_true_iff.1 e).2
 ·intro h
  apply Nat.eq_of_testBit_eq
  intro j;unfold zBs;rw[zBa,Nat.testBit_two_pow_sub_one]
  by_cases hj:j < p.Reports.length
  ·have hg:=List.getElem?_eq_getElem hj;rw[decide_eq_true hj,(zBr hg).2 (h _ (List.getElem_mem hj))]; rfl
  ·rw[decide_eq_false hj]; rfl
def trL(p:Pg):List (List Int):=((List.range (zyJ p.Losses).toNat).filter fun n:Nat=>decide (zBs p (zBh p.Losses (n:Int))=2 ^ p.Reports.length - 1)).map fun n:Nat=>zBh p.Losses (n:Int)
theorem zBB{p:Pg}(h:VP p){L:List Int}:L∈trL p↔TrS p p.Reports L:=by
 unfold trL TrS;rw[List.mem_map]
 constructor
 ·rintro⟨n,hn,rfl⟩
  obtain⟨_,h2⟩:=List.mem_filter.1 hn;exact⟨h.nthIn (by omega),zBA.1 (of_decide_eq_true h2)⟩
 ·rintro⟨hL,hA⟩
  obtain⟨n,n0,n1,rfl⟩:=zBj hL;refine⟨n.toNat,List.mem_filter.2 ⟨List.mem_range.2 (by omega),decide_eq_true ?_⟩,?_⟩
  ·rw[show((n.toNat:Nat):Int)=n by omega]; exact zBA.2 hA
  ·show zBh p.Losses ((n.toNat:Nat):Int)=_
   rw[show((n.toNat:Nat):Int)=n by omega]
theorem zBC{p:Pg}:zAg p p.Reports↔PL p fun j=>!(2 ^ p.Reports.length - 1).testBit j:=by
 constructor
 ·rintro⟨L,h1,h2⟩
  exact⟨L,h1,fun j hj _=>(zBr (List.getElem?_eq_getElem hj)).2 (h2 _ (List.getElem_mem hj))⟩
 ·rintro⟨L,h1,h2⟩
  refine⟨L,h1,fun r hr=>?_⟩;obtain⟨j,hj⟩:=List.mem_iff_getElem?.1 hr;have hjl:=(List.getElem?_eq_some_iff.1 hj).1;exact(zBr hj).1 (h2 j hjl (by show(!(2 ^ p.Reports.length - 1).testBit j)=false; rw[Nat.testBit_two_pow_sub_one,decide_eq_true hjl]; rfl))
def wd(r:Rg)(x:Int):Rg:={ Lo:=min r.Lo x,Hi:=max r.Hi x }
def emp:Rg:={ Lo:=1099511627776,Hi:=-1099511627776 }
def wdL(g:List Int->Int)(l:List (List Int)):Rg:=l.foldl (fun r L=>wd r (g L)) emp
theorem zBD{g:List Int->Int}{l:List (List Int)}{k:Nat}{L:List Int}(h:l[k]? = some L):wdL g (l.take (k+1))=wd (wdL g (l.take k)) (g L):=by
 unfold wdL;rw[List.take_add_one,h,List.foldl_append]; rfl
theorem zBE{g:List Int->Int}:∀(l:List (List Int)) (r:Rg),((l.foldl (fun r L=>wd r (g L)) r).Lo=r.Lo\/∃L∈l,g L=(l.foldl (fun r L=>wd r (g L)) r).Lo)/\((l.foldl (fun r L=>wd r (g L)) r).Hi=r.Hi\/∃L∈l,g L=(l.foldl (fun r L=>wd r (g L)) r).Hi)/\(l.foldl (fun r L=>wd r (g L)) r).Lo<=r.Lo/\r.Hi<=(l.foldl (fun r L=>wd r (g L)) r).Hi/\∀L∈l,(l.foldl (fun r L=>wd r (g L)) r).Lo<=g L/\g L<=(l.foldl (fun r L=>wd r (g L)) r).Hi
 | [],r=>⟨.inl rfl,.inl rfl,Int.le_refl _,Int.le_refl _,fun L hL=>by cases hL⟩
 | L::l,r=>by
  obtain⟨a,b,c,d,e⟩:=zBE (g:=g) l (wd r (g L));have h1:(wd r (g L)).Lo=min r.Lo (g L):=rfl;have h2:(wd r (g L)).Hi=max r.Hi (g L):=rfl;rw[h1] at a c;rw[h2] at b d;rw[List.foldl_cons];generalize l.foldl (fun r L=>wd r (g L)) (wd r (g L))=R at a b c d e ⊢;refine⟨?_,?_,by clear a b; omega,by clear a b; omega,fun L' hL'=>?_⟩
  ·clear b
   rcases a with a | ⟨L',q1,q2⟩
   ·rcases Int.le_total r.Lo (g L) with h | h
    ·exact .inl (by omega)
    ·exact .inr ⟨L,List.mem_cons_self ..,by omega⟩
   ·exact .inr ⟨L',List.mem_cons_of_mem _ q1,q2⟩
  ·clear a
   rcases b with b | ⟨L',q1,q2⟩
   ·rcases Int.le_total (g L) r.Hi with h | h
    ·exact .inl (by omega)
    ·exact .inr ⟨L,List.mem_cons_self ..,by omega⟩
   ·exact .inr ⟨L',List.mem_cons_of_mem _ q1,q2⟩
  ·clear a b
   rcases List.mem_cons.1 hL' with h | h
   ·subst h; omega
   ·exact e L' h
theorem zBF{g:List Int->Int}{l:List (List Int)}(hne:l ≠ [])(hb:∀L∈l,-1000000<=g L/\g L<=1000000):IsB (·∈l) g (wdL g l):=by
 obtain⟨a,b,c,d,e⟩:=zBE (g:=g) l emp;have h1:emp.Lo=1099511627776:=rfl;have h2:emp.Hi = -1099511627776:=rfl;rw[h1] at a c;rw[h2] at b d;obtain⟨L0,hL0⟩:=List.exists_mem_of_ne_nil l hne;have q1:=hb L0 hL0;have q2:=e L0 hL0;unfold wdL;generalize l.foldl (fun r L=>wd r (g L)) emp=R at a b c d e q2 ⊢;refine⟨?_,?_,e⟩
 ·clear b
  rcases a with a | a
  ·omega
  ·exact a
 ·clear a
  rcases b with b | b
  ·omega
  ·exact b
def bsN(n:Nat)(f:Nat->Bd):List Bd:=(List.range n).map f
theorem zBG{n:Nat}{f:Nat->Bd}:(bsN n f).length=n:=by unfold bsN; rw[List.length_map,List.length_range]
theorem zBH{n:Nat}{f:Nat->Bd}{k:Nat}(h:k < n):(bsN n f)[k]? = some (f k):=by unfold bsN; rw[List.getElem?_map,List.getElem?_range h]; rfl
def bdF(p:Pg)(l:List (List Int))(k:Nat):Bd:={ Pays:=wdL (fun L=>(zzy p.Treaties L).pays k) l,Keeps:=wdL (fun L=>(zzy p.Treaties L).keeps k) l }
theorem zBI{p:Pg}(h:VP p)(hc:zAg p p.Reports):zAy p (bsN p.Treaties.length (bdF p (trL p)))/\IsB (TrS p p.Reports) (fun L=>(zzy p.Treaties L).soc) (wdL (fun L=>(zzy p.Treaties L).soc) (trL p)):=by
 have hne:trL p ≠ []:=fun e=>by
  obtain⟨L,hL⟩:=hc;have:=(zBB h).2 hL
  rw[e] at this; cases this
 have hb:∀L∈trL p,inL p.Losses L:=fun L hL=>((zBB h).1 hL).1;refine⟨⟨zBG,fun k b hk=>?_⟩,?_⟩
 ·have hkl:=(List.getElem?_eq_some_iff.1 hk).1;rw[zBG] at hkl;rw[zBH hkl] at hk
  cases hk
  refine⟨(zBF hne fun L hL=>?_).congr (fun L=>zBB h) fun _ _=>rfl,(zBF hne fun L hL=>?_).congr (fun L=>zBB h) fun _ _=>rfl⟩
  ·have:=(zBt h (hb L hL)).1 k; omega
  ·have:=(zBt h (hb L hL)).2.1 k; omega
 ·refine(zBF hne fun L hL=>?_).congr (fun L=>zBB h) fun _ _=>rfl;have:=(zBt h (hb L hL)).2.2; omega
def kpF:List Rpt->Nat->(Nat->Bool)->List Rpt
 | [],_,_=>[]
 | v::V,i,S=>if S i=true then v::kpF V (i+1) S else kpF V (i+1) S
theorem zBJ{S:Nat->Bool}{v:Rpt}:∀(V:List Rpt) (i:Nat),v∈kpF V i S↔∃j,V[j]? = some v/\S (i+j)=true
 | [],i=>by simp[kpF]
 | a::V,i=>by
  have ih:=zBJ (S:=S) (v:=v) V (i+1)
  have e:(∃j,(a::V)[j]? = some v/\S (i+j)=true)↔(a=v/\S i=true)\/∃j,V[j]? = some v/\S (i+1+j)=true:=by
   constructor
   ·rintro⟨j,h1,h2⟩
    cases j with
    | zero=>exact .inl ⟨by simpa using h1,h2⟩
    | succ j=>exact .inr ⟨j,by simpa using h1,by rw[show i+1+j=i+(j+1) by omega]; exact h2⟩
   ·rintro (⟨h1,h2⟩ | ⟨j,h1,h2⟩)
    ·exact⟨0,by simpa using h1,h2⟩
    ·exact⟨j+1,by simpa using h1,by rw[show i+(j+1)=i+1+j by omega]; exact h2⟩
  rw[e];unfold kpF
  by_cases hs:S i=true
  ·rw[if_pos hs,List.mem_cons,ih];exact or_congr ⟨fun h=>⟨h.symm,hs⟩,fun h=>h.1.symm⟩ Iff.rfl
  ·rw[if_neg hs,ih];exact⟨.inr,fun h=>h.elim (fun h=>absurd h.2 hs) id⟩
theorem zBK{S:Nat->Bool}:∀(V:List Rpt) (i:Nat),(kpF V i S).length<=V.length
 | [],_=>Nat.le_refl _
 | a::V,i=>by
  have:=zBK (S:=S) V (i+1);unfold kpF
  split <;> simp only[List.length_cons] <;> omega
theorem zBL{l:List Int}{v:Int}(hl:zr3 l):∀d (k:Nat),k<=l.length->l.length - k < d->∃r,zt8 l v d (k:Int)=some r/\(0<=r↔v∈l.drop k)
 | 0,k,_,h=>by omega
 | d+1,k,hk,h=>by
  unfold zr3 at hl;unfold zt8
  by_cases hkn:k=l.length
  ·subst hkn; rw[if_neg (Int.lt_irrefl _)]; exact⟨_,rfl,by simp⟩
  ·have hlt:k < l.length:=by omega
   rw[if_pos (by omega),zrT (List.getElem?_eq_getElem hlt),obs];have hd:=List.drop_eq_getElem_cons hlt
   by_cases hv:v=l[k]
   ·rw[if_pos hv]; exact⟨_,rfl,⟨fun _=>by rw[hd,<- hv]; exact List.mem_cons_self ..,fun _=>by omega⟩⟩
   ·rw[if_neg hv,zqs (fI (by omega)),show(k:Int)+1=((k+1:Nat):Int) by omega];obtain⟨r,h1,h2⟩:=zBL hl d (k+1) (by omega) (by omega);exact⟨r,h1,h2.trans ⟨fun h=>by rw[hd]; exact List.mem_cons_of_mem _ h,fun h=>by rw[hd] at h; exact(List.mem_cons.1 h).resolve_left hv⟩⟩
theorem zBM{l:List Int}{v:Int}(hl:zr3 l):zua l v=some (decide (v∈l)):=by
 unfold zua zt9;obtain⟨r,h1,h2⟩:=zBL (v:=v) hl (l.length+1) 0 (Nat.zero_le _) (by omega);have h1:zt8 l v (l.length+1) 0=some r:=h1;rw[h1,obs];exact congrArg some (decide_eq_decide.2 (h2.trans (by rw[List.drop_zero])))
theorem zBN{p:Int->Option Bool}{f:Nat->Bool}{n:Nat}(hn:n<=1000000)(hp:∀m,m < n->p (m:Int)=some (f m))(hm:∀m k,m<=k->k < n->f m=true->f k=true):∀d (i j:Nat),i<=j->j<=n->j - i < d->(∀m,m < i->f m=false)->(∀m,j<=m->m < n->f m=true) ->
  ∃k:Nat,zuB p d (i:Int) (j:Int)=some (k:Int)/\k<=n/\(∀m,m < k->f m=false)/\(∀m,k<=m->m < n->f m=true)
 | 0,_,_,_,_,h,_,_=>by omega
 | d+1,i,j,hij,hj,h,hlo,hhi=>by
  rw[zuB]
  by_cases hc:i < j
  ·obtain⟨md,hmd⟩:∃md:Nat,md=(i+j) / 2:=⟨_,rfl⟩
   have hf:zl7 .u64 ((i:Int)+j):=show _/\_ by constructor <;> omega
   have e:zmc .i64 (zmc .u64 ((i:Int)+j) / 2)=(md:Int):=by
    rw[wz hf,wz (fI (by omega))]; omega
   rw[if_pos (by omega),zqs (fI (by omega)),zqs (by rw[wz hf]; omega),zqs (by omega),zqs (by omega),zqs (by rw[wz hf]; exact show _/\_ by constructor <;> omega),e,hp md (by omega),obs]
   cases hq:f md with
   | true=>
    rw[if_pos rfl];exact zBN hn hp hm d i md (by omega) (by omega) (by omega) hlo fun m h1 h2=>hm md m h1 h2 hq
   | false=>
    rw[if_neg (by decide),zqs (fI (by omega)),show(md:Int)+1=((md+1:Nat):Int) by omega]
    exact zBN hn hp hm d (md+1) j (by omega) hj (by omega) (fun m h1=>by
     cases hq2:f m with
     | false=>rfl
     | true=>have:=hm m md (by omega) (by omega) hq2; rw[hq] at this; cases this) hhi
  ·rw[if_neg (by omega)];exact⟨i,rfl,by omega,hlo,fun m h1 h2=>hhi m (by omega) h2⟩
theorem zBO{S:Nat->Bool}:∀(V:List Rpt) (i n:Nat),(∀j,S j=decide (j < i+n))->kpF V i S=V.take n
 | [],_,_,_=>by simp[kpF]
 | v::V,i,n,h=>by
  rw[kpF]
  cases n with
  | zero=>
   rw[if_neg (by rw[h]; simp),List.take_zero]
   have:∀(V:List Rpt) (i':Nat),i<=i'->kpF V i' S=[]:=by
    intro V
    induction V with
    | nil=>intro i' _; rfl
    | cons a V ih=>intro i' hi; rw[kpF,if_neg (by rw[h]; simp; omega)]; exact ih (i'+1) (by omega)
   exact this V (i+1) (by omega)
  | succ n=>
   rw[if_pos (by rw[h]; simp),List.take_succ_cons,zBO V (i+1) n fun j=>by rw[h]; exact decide_eq_decide.2 (by omega)]
theorem zBP{p:Pg}{L:List Int}{S:Nat->Bool}:agN (zzy p.Treaties L).pays (kpF p.Reports 0 S)↔∀j,j < p.Reports.length->S j=true->agf p L j=true:=by
 constructor
 ·intro h j hj hs;have hg:=List.getElem?_eq_getElem hj;exact(zBr hg).2 (h _ ((zBJ _ _).2 ⟨j,hg,by rw[Nat.zero_add]; exact hs⟩))
 ·intro h r hr;obtain⟨j,h1,h2⟩:=(zBJ _ _).1 hr;rw[Nat.zero_add] at h2;exact(zBr h1).1 (h j (List.getElem?_eq_some_iff.1 h1).1 h2)
theorem zBQ{p:Pg}{S:Nat->Bool}:zAg p (kpF p.Reports 0 S)↔PL p fun j=>!S j:=by
 unfold zAg PL;refine exists_congr fun L=>and_congr_right fun _=>zBP.trans ?_;refine forall_congr' fun j=>forall_congr' fun _=>?_
 show(S j=true->_)↔((!S j)=false->_)
 cases S j <;> simp
theorem zBR{l:List Rpt}{D:List Int}(hl:l.length<=1000)(hD:zr3 D):zuc l D=some (kpF l 0 fun j=>!inD D j):=by
 have key:∀(d k:Nat) (acc:List Rpt),k<=l.length->l.length - k < d->acc.length<=k->zub l D d acc (k:Int)=some (acc++kpF (l.drop k) k fun j=>!inD D j):=by
  intro d
  induction d with
  | zero=>intro k _ _ h _; omega
  | succ d ih=>
   intro k acc hk hd ha;rw[zub]
   by_cases hkl:k < l.length
   ·rw[if_pos (by omega),zrT (List.getElem?_eq_getElem hkl),obs,zBM hD,obs,List.drop_eq_getElem_cons hkl,kpF]
    by_cases hin:(k:Int)∈D
    ·have e:inD D k=true:=decide_eq_true hin;rw[decide_eq_true hin,if_pos rfl,zqs (fI (by omega)),show(k:Int)+1=((k+1:Nat):Int) by omega,if_neg (by rw[e]; simp)];exact ih (k+1) acc (by omega) (by omega) (by omega)
    ·have e:inD D k=false:=decide_eq_false hin;rw[decide_eq_false hin,if_neg (by decide),zqs (by omega),zqs (fI (by omega)),show(k:Int)+1=((k+1:Nat):Int) by omega,if_pos (by rw[e]; rfl)];refine(ih (k+1) _ (by omega) (by omega) (by rw[List.length_append]; show acc.length+1<=_; omega)).trans ?_;rw[List.append_assoc]; rfl
   ·rw[if_neg (by omega),List.drop_eq_nil_of_le (by omega)]
    show _=some (acc++[])
    rw[List.append_nil]
 exact key (l.length+1) 0 [] (Nat.zero_le _) (by omega) (Nat.le_refl _)
theorem zz7.kp{p:Pg}(h:VP p)(S:Nat->Bool):zz7 (kpF p.Reports 0 S):=fun r hr=>by
 obtain⟨j,h1,_⟩:=(zBJ _ _).1 hr;exact h.rsOk r (List.mem_of_getElem? h1)
theorem zBS{p:Pg}(h:VP p){D:List Int}(hD:zr3 D):Ev (zuE D (zz0 p (zzS p)) p) (PL p (inD D)):=by
 have hr5:=h.r5;unfold zuE;rw[zBR (by omega) hD,obs]
 show Ev ((zuj (zz0 p (zzS p)) (kpF p.Reports 0 fun j=>!inD D j)).bind _) _
 have hlen:=zBK (S:=fun j=>!inD D j) p.Reports 0;refine(zAh h (zz7.kp h _) (zr4 hlen (by omega))).ret.imp (zBQ.trans (PL.congr fun j _=>?_))
 simp
theorem zBT{p:Pg}(h:VP p):PL p (inD (zA5 p.Reports.length)):=by
 obtain⟨L,hL⟩:=zzW h;exact⟨L,hL,fun j hj hs=>by rw[zA7 hj] at hs; cases hs⟩
theorem zBU{p:Pg}(h:VP p):∃M,zuF p=some (M,0)/\zA9 p.Reports.length (PL p) M:=by
 have h4:=h.r5;have hsh:∀D,Inc p.Reports.length 0 D->zr3 D:=fun D hD=>zr4 (Nat.le_refl D.length) (by have:=zx3 hD; omega)
 have ht:∀D,Inc p.Reports.length 0 D->((zuE D (zz0 p (zzS p)) p).getD false=true↔PL p (inD D)):=fun D hD=>by
  obtain⟨b,q1,q2⟩:=zBS h (hsh D hD);rw[q1]; exact q2
 obtain⟨s1,s2,s3⟩:=zyp (n:=p.Reports.length) (t:=fun L=>(zuE L (zz0 p (zzS p)) p).getD false) ⟨zA5 p.Reports.length,zA6 _,(ht _ (zA6 _)).2 (zBT h)⟩;refine⟨zrA p.Reports.length fun L=>(zuE L (zz0 p (zzS p)) p).getD false,?_,s1,(ht _ s1).1 s2,fun D hD hD2=>s3 D hD ((ht D hD).2 hD2)⟩;unfold zuF zrB
 rw[zAs h,obs,if_pos rfl,zz6 h,obs,zqs ⟨by omega,by omega,fun L hL=>by
  have hI:Inc p.Reports.length 0 L:=by rw[Int.toNat_natCast] at hL; exact zx4.1 hL
  obtain⟨b,q1,_⟩:=zBS h (hsh L hI)
  show(zuE L (zz0 p (zzS p)) p).isSome=true
  rw[q1]; rfl⟩,obs,Int.toNat_natCast]
theorem zBV{p:Pg}(hp:ShP p)(hf:zyK p ≠ 0):zuF p=some ([],zyK p):=by
 unfold zuF;rw[zy4 hp.1 hp.2.1 hp.2.2,obs,if_neg hf]
def FP(p:Pg)(j:Nat):Prop:=zAg p (p.Reports.take (j+1))
theorem zBW{p:Pg}{j:Nat}:FP p j↔PL p fun i=>!decide (i < j+1):=by
 unfold FP;rw[<- zBO (S:=fun i=>decide (i < j+1)) p.Reports 0 (j+1) fun i=>by rw[Nat.zero_add],zBQ]
theorem zBX{p:Pg}{i j:Nat}(hij:i<=j)(h:FP p j):FP p i:=by
 obtain⟨L,h1,h2⟩:=h;refine⟨L,h1,fun r hr=>h2 r ?_⟩
 have e:p.Reports.take (i+1)=(p.Reports.take (j+1)).take (i+1):=by rw[List.take_take,show min (i+1) (j+1)=i+1 by omega]
 rw[e] at hr;exact List.mem_of_mem_take hr
open Classical in
theorem zBY{p:Pg}(h:VP p):(∃j,j < p.Reports.length/\¬ FP p j/\(∀i,i < j->FP p i)/\zuD p=some ((j:Int),0))\/((∀j,j < p.Reports.length->FP p j)/\zuD p=some (0,7)):=by
 have h4:=h.r5
 have hf:∀m,m < p.Reports.length->zuA (m:Int) (zz0 p (zzS p)) p=some (decide (¬ FP p m)):=fun m hm=>by
  unfold zuA;rw[zqs (fI (by omega)),zqs (by omega),show Int.toNat ((m:Int)+1)=m+1 by omega,show Int.toNat (0:Int)=0 from rfl,List.drop_zero]
  show(zuj (zz0 p (zzS p)) (p.Reports.take (m+1))).bind _=_
  have hlen:(p.Reports.take (m+1)).length<=5:=by rw[List.length_take]; omega
  have hc:=zAh h (rs:=p.Reports.take (m+1)) (fun r hr=>h.rsOk r (List.mem_of_mem_take hr)) (zr4 hlen (by omega))
  by_cases hq:FP p m
  ·rw[hc.some_of hq,obs,decide_eq_false (not_not_intro hq)]; rfl
  ·rw[hc.some_not hq,obs,decide_eq_true hq]; rfl
 obtain⟨k,q1,q2,q3,q4⟩:=zBN (n:=p.Reports.length) (p:=fun a=>zuA a (zz0 p (zzS p)) p) (f:=fun m=>decide (¬ FP p m)) (by omega) hf (fun m k h1 h2 h3=>decide_eq_true fun hk=>of_decide_eq_true h3 (zBX h1 hk)) ((p.Reports.length:Int).toNat+1) 0 p.Reports.length (Nat.zero_le _) (Nat.le_refl _) (by omega) (fun m hm=>by omega) fun m h1 h2=>by omega
 have e:zuD p=if ((k:Nat):Int)=(p.Reports.length:Int) then some (0,7) else some ((k:Int),0):=by
  unfold zuD zuC;rw[zAs h,obs,if_pos rfl,zz6 h,obs];have q1:zuB (fun a=>zuA a (zz0 p (zzS p)) p) ((p.Reports.length:Int).toNat+1) 0 (p.Reports.length:Int)=some (k:Int):=q1;rw[q1,obs]
 have hlt:∀i,i < k->FP p i:=fun i hi=>Classical.not_not.1 (of_decide_eq_false (q3 i hi))
 by_cases hk:k=p.Reports.length
 ·rw[if_pos (by omega)] at e;exact .inr ⟨fun j hj=>hlt j (by omega),e⟩
 ·rw[if_neg (by omega)] at e;exact .inl ⟨k,by omega,of_decide_eq_true (q4 k (Nat.le_refl _) (by omega)),hlt,e⟩
theorem zBZ{p:Pg}(hp:ShP p)(hf:zyK p ≠ 0):zuD p=some (0,zyK p):=by
 unfold zuD;rw[zy4 hp.1 hp.2.1 hp.2.2,obs,if_neg hf]
theorem zB0{p:Pg}(h:VP p){b:Nat}:PL p (inD (zx6 b))↔PL p fun j=>b.testBit j:=PL.congr fun j hj=>zyt (n:=p.Reports.length) (by have:=h.r5; omega) hj
theorem zB1{p:Pg}{b b':Nat}(hb:∀j,j < p.Reports.length->b'.testBit j = !b.testBit j):(PL p fun j=>!b'.testBit j)↔PL p fun j=>b.testBit j:=PL.congr fun j hj=>by rw[hb j hj,Bool.not_not]
theorem zB2{p:Pg}(h:VP p):∀(d x:Nat) (best:List Int),x<=2 ^ p.Reports.length->2 ^ p.Reports.length - x < d->Inc p.Reports.length 0 best->PL p (inD best)->(∀b,b < x->(PL p fun j=>b.testBit j)->zx6 b=best\/shB best (zx6 b)=true) ->
  ∃M,zs4 p (zBv p) d best (x:Int)=some M/\zA9 p.Reports.length (PL p) M
 | 0,x,best,_,hd,_,_,_=>by omega
 | d+1,x,best,hx,hd,h1,h2,h3=>by
  have h4:=h.r5;have hp:=zBg (i:=p.Reports.length) (by omega);have hp0:=Nat.two_pow_pos p.Reports.length;rw[zs4,zBo h,obs]
  by_cases hxe:x=2 ^ p.Reports.length
  ·rw[if_neg (by omega)];refine⟨best,rfl,h1,h2,fun D hD hD2=>?_⟩;obtain⟨b,hb,rfl⟩:=zyu (n:=p.Reports.length) (by omega) hD;exact h3 b (by omega) ((zB0 h).1 hD2)
  ·have hl:=zA8 (b:=x)
   have hxl:x < 2 ^ p.Reports.length:=by omega
   rw[if_pos (by omega),zA1 (by omega),obs,zA4 (by omega),obs];have hi:Inc p.Reports.length 0 (zx6 x):=zys (by omega) hxl
   have hnext:(x:Int)+1=((x+1:Nat):Int):=by omega
   obtain⟨c1,c2⟩:=zBe (n:=p.Reports.length) hxl
   cases hs:shB (zx6 x) best with
   | true=>
    rw[if_pos rfl,obs,zqs (by omega),zqs (by omega),zqs (fI (by omega)),zqs (fI (by omega)),Int.toNat_natCast,Int.toNat_natCast,zqs (fI (by omega))];have hc:=(zBz h (b:=Nat.xor (2 ^ p.Reports.length - 1) (Nat.land (2 ^ p.Reports.length - 1) x)) c1).imp (zB1 c2);obtain⟨c,hc1,hc2⟩:=hc;rw[hc1,obs]
    cases c with
    | true=>
     rw[if_pos rfl,zqs (fI (by omega)),hnext];refine zB2 h d (x+1) _ (by omega) (by omega) hi ((zB0 h).2 (hc2.1 rfl)) fun b hb hbr=>?_
     rcases Nat.lt_or_ge b x with h5 | h5
     ·rcases h3 b h5 hbr with h6 | h6
      ·rw[h6]; exact .inr hs
      ·exact .inr (zyh hs h6)
     ·rw[show b=x by omega]; exact .inl rfl
    | false=>
     rw[if_neg (by simp),zqs (fI (by omega)),hnext];refine zB2 h d (x+1) _ (by omega) (by omega) h1 h2 fun b hb hbr=>?_
     rcases Nat.lt_or_ge b x with h5 | h5
     ·exact h3 b h5 hbr
     ·rw[show b=x by omega] at hbr;have:=hc2.2 hbr
      cases this
   | false=>
    rw[if_neg (by simp),zqs (fI (by omega)),hnext];refine zB2 h d (x+1) _ (by omega) (by omega) h1 h2 fun b hb hbr=>?_
    rcases Nat.lt_or_ge b x with h5 | h5
    ·exact h3 b h5 hbr
    ·rw[show b=x by omega]
     rcases zyi (zx6 x) best with h6 | h6 | h6
     ·exact .inl h6
     ·rw[hs] at h6; cases h6
     ·exact .inr h6
theorem zB3{p:Pg}(h:VP p):∃M,zs5 p (zBv p)=some M/\zA9 p.Reports.length (PL p) M:=by
 have h4:=h.r5;have hp:=zBg (i:=p.Reports.length) (by omega);have hp0:=Nat.two_pow_pos p.Reports.length;unfold zs5;rw[zBo h,obs,zA1 (by omega),obs]
 refine zB2 h 1000000 0 _ (Nat.zero_le _) (by omega) (zys (by omega) zBd) ?_ fun b hb=>by omega
 obtain⟨t,ht⟩:=zzW h;refine⟨t,ht,fun j hj hs=>?_⟩;rw[zyt (n:=p.Reports.length) (by omega) hj,Nat.testBit_two_pow_sub_one,decide_eq_true hj] at hs
 cases hs
theorem zB4{p:Pg}(h:VP p):(∃j,j < p.Reports.length/\¬ FP p j/\(∀i,i < j->FP p i)/\zs3 p (zBv p)=some (j:Int))\/((∀j,j < p.Reports.length->FP p j)/\zs3 p (zBv p)=some (-1)):=by
 have h4:=h.r5
 have key:=zBf (n:=p.Reports.length) (F:=zs2 p (zBv p)) (ok:=FP p) (res:=fun j=>some (j:Int)) (fin:=some (-1)) (fun d k hk=>by
  have hp:=zBg (i:=k+1) (by omega);have hp0:=Nat.two_pow_pos (k+1)
  have hpw:(2:Int) * 2 ^ (Int.toNat (k:Int))=((2 ^ (k+1):Nat):Int):=by rw[Int.toNat_natCast,Nat.pow_succ,Nat.mul_comm]; simp
  rw[zs2,if_pos (by omega),zqs (by omega),wu (show k<=64 by omega),zqs (by omega),zqs (by omega),hpw,zqs (fI (by omega)),zqs (fI (by omega)),show((2 ^ (k+1):Nat):Int) - 1=((2 ^ (k+1) - 1:Nat):Int) by omega];have hlt:2 ^ (k+1) - 1 < 2 ^ p.Reports.length:=Nat.lt_of_lt_of_le (zBd (n:=k+1)) (Nat.pow_le_pow_right (by omega) (by omega));have hc:=((zBz h (b:=2 ^ (k+1) - 1) hlt).imp (PL.congr fun j _=>by rw[Nat.testBit_two_pow_sub_one])).imp zBW.symm
  exact hc.step (by rw[if_pos rfl,zqs (fI (by omega))]) (by rw[if_neg (by simp)])) (fun d=>by rw[zs2,if_neg (Int.lt_irrefl _)]) 1000000 0 (Nat.zero_le _) (by omega)
 unfold zs3
 rcases key with ⟨j,_,q2,q3,q4,q5⟩ | ⟨q1,q2⟩
 ·exact .inl ⟨j,q2,q3,fun i hi=>q4 i (Nat.zero_le _) hi,q5⟩
 ·exact .inr ⟨fun j hj=>q1 j (Nat.zero_le _) hj,q2⟩
theorem zB5{p:Pg}{j j':Nat}(h1:¬ FP p j)(h2:∀i,i < j->FP p i)(h3:¬ FP p j')(h4:∀i,i < j'->FP p i):j=j':=by
 rcases Nat.lt_trichotomy j j' with h | h | h
 ·exact absurd (h4 j h) h1
 ·exact h
 ·exact absurd (h2 j' h) h3
end
end Go.Proofs.YtkcmdghjgoaggaaGreat

namespace Go.Proofs.YtkcmdghjgoaggaaGreat
open _root_.Go.Proofs.Tryz
open Go.Abs
set_option maxRecDepth 100000
noncomputable section
theorem zB6{l:List Int}:(∀j,0 < j->j < l.length->∀a b,l[j - 1]? = some a->l[j]? = some b->a < b)↔l.Pairwise (· < ·):=by
 constructor
 ·intro h;rw[List.pairwise_iff_getElem];intro i j hi hj hij
  have key:∀d,(hd:i+d+1 < l.length)->l[i] < l[i+d+1]:=fun d=>by
   induction d with
   | zero=>intro hd; exact h (i+1) (by omega) hd _ _ (List.getElem?_eq_getElem hi) (List.getElem?_eq_getElem hd)
   | succ d ih=>
    intro hd;have h1:=ih (by omega);have h2:=h (i+(d+1)+1) (by omega) hd _ _ (List.getElem?_eq_getElem (show i+d+1 < l.length by omega)) (List.getElem?_eq_getElem hd);exact Int.lt_trans h1 h2
  have:=key (j - i - 1) (by omega)
  simpa [show i+(j - i - 1)+1=j by omega] using this
 ·intro h j h0 hj a b ha hb;obtain⟨h1,rfl⟩:=List.getElem?_eq_some_iff.1 ha;obtain⟨h2,rfl⟩:=List.getElem?_eq_some_iff.1 hb;exact List.pairwise_iff_getElem.1 h (j - 1) j h1 h2 (by omega)
theorem zB7{l:List Int}(hl:zr3 l):Ev (ztI l) (l.Pairwise (· < ·)):=by
 unfold zr3 at hl;unfold ztI
 by_cases h0:l.length=0
 ·have:l=[]:=List.eq_nil_of_length_eq_zero h0;subst this
  show Ev (ztH [] 1 1) _
  rw[ztH,if_neg (by decide)];exact Ev.tt .nil
 ·have e:∃n,l.length=n+1:=⟨l.length - 1,by omega⟩;obtain⟨n,hn⟩:=e
  have key:=zrX (n:=n) (F:=fun d x=>ztH l d (x+1)) (ok:=fun j=>∀a b,l[j]? = some a->l[j+1]? = some b->a < b) (bad:=some false) (fin:=some true) (fun d k hk=>by
   show(_->ztH l (d+1) ((k:Int)+1)=_)/\_
   have ha:=List.getElem?_eq_getElem (show k < l.length by omega);have hb:=List.getElem?_eq_getElem (show k+1 < l.length by omega);rw[ztH,if_pos (by omega),zrU (show(k:Int)+1=((k+1:Nat):Int) by omega) (show k+1 < l.length by omega),obs,zqs (fI (by omega)),zrU (show(k:Int)+1 - 1=(k:Int) by omega) (show k < l.length by omega),obs];refine⟨fun h=>?_,fun h=>?_⟩
   ·have:=h _ _ ha hb;rw[if_neg (by omega),zqs (fI (by omega))]
   ·rw[if_pos]
    apply Classical.byContradiction
    intro h2
    exact h fun a b h3 h4=>by rw[ha] at h3; rw[hb] at h4; cases h3; cases h4; omega) (fun d=>by show ztH l (d+1) _=_; rw[ztH,if_neg (by omega)]) (d:=((l.length:Int) - 1).toNat+1) (by omega)
  have e0:ztH l (((l.length:Int) - 1).toNat+1) (0+1)=ztH l (((l.length:Int) - 1).toNat+1) 1:=rfl
  have hiff:(∀j,j < n->∀a b,l[j]? = some a->l[j+1]? = some b->a < b)↔l.Pairwise (· < ·):=by
   rw[<- zB6]
   constructor
   ·intro h j h0 hj a b h1 h2;have:=h (j - 1) (by omega) a b h1;rw[show j - 1+1=j by omega] at this;exact this h2
   ·intro h j hj a b h1 h2;exact h (j+1) (by omega) (by omega) a b (by rw[Nat.add_sub_cancel]; exact h1) h2
  by_cases hq:∀j,j < n->∀a b,l[j]? = some a->l[j+1]? = some b->a < b
  ·have:=key.1 hq;exact⟨true,this,⟨fun _=>hiff.1 hq,fun _=>rfl⟩⟩
  ·have:=key.2 hq;exact⟨false,this,⟨fun h=>(by cases h),fun h=>absurd (hiff.2 h) hq⟩⟩
def zke(p:Pg)(l:List Int):Prop:=l.Pairwise (· < ·)/\∀v∈l,(0<=v/\v<=(p.Treaties.length:Int) - 1)/\ofB p.Treaties v.toNat=true
theorem zke.inc{p:Pg}{l:List Int}(h:zke p l):Inc p.Treaties.length 0 l:=⟨h.1,fun v hv=>by have:=(h.2 v hv).1; omega⟩
theorem zke.len{p:Pg}{l:List Int}(h:zke p l):l.length<=p.Treaties.length:=by have:=zx3 h.inc; omega
theorem zB8{p:Pg}(h:VP p){n:Int}:Ev (ztS p n) ((0<=n/\n<=(p.Treaties.length:Int) - 1)/\ofB p.Treaties n.toNat=true):=by
 have h5:=h.t5;refine(zyS (zAr h).2.1).and fun hc=>?_;have hg:=List.getElem?_eq_getElem (show n.toNat < p.Treaties.length by omega);have e:=zrT hg;rw[show((n.toNat:Nat):Int)=n by omega] at e;rw[e,obs];have ho:=h.of' _ _ hg;exact Ev.dec (by rw[zAU hg,decide_eq_true_eq]; omega)
theorem zB9{p:Pg}(h:VP p){l:List Int}(hl:zr3 l):Ev (ztT p l) (zke p l):=
 (zB7 hl).and fun _=>(Ev.each (p:=fun a=>ztS p a) (q:=fun v=>(0<=v/\v<=(p.Treaties.length:Int) - 1)/\ofB p.Treaties v.toNat=true) (fun _ _=>zB8 h) hl.lt gI).ret
def tyD:Ty:={ Kind:=0,Part:=0,Above:=0,Most:=0,Times:=0,Price:=0,Of:=-1 }
def tyA(ts:List Ty)(v:Int):Ty:=(ts[v.toNat]?).getD tyD
theorem zCa{ts:List Ty}{v:Int}{t:Ty}(h:ts[v.toNat]? = some t):tyA ts v=t:=by unfold tyA; rw[h]; rfl
theorem zCb{ts:List Ty}{v:Int}(h0:0<=v)(h1:v<=(ts.length:Int) - 1):ts[v.toNat]? = some (tyA ts v):=by
 have hg:=List.getElem?_eq_getElem (show v.toNat < ts.length by omega);rw[zCa hg,hg]
theorem zCc{ts:List Ty}{v:Int}(h0:0<=v)(h1:v<=(ts.length:Int) - 1):idx ts v=some (tyA ts v):=by
 have:=zrT (zCb h0 h1)
 rwa [show((v.toNat:Nat):Int)=v by omega] at this
def zCd(ts:List Ty):List Int->Int
 | []=>0
 | v::l=>(tyA ts v).Price+zCd ts l
theorem zCe{ts:List Ty}{v:Int}:∀l,zCd ts (l++[v])=zCd ts l+(tyA ts v).Price
 | []=>by show _+(0:Int)=0+_; omega
 | a::l=>by show _+zCd ts (l++[v])=_+zCd ts l+_; rw[zCe l]; omega
def InT(p:Pg)(l:List Int):Prop:=∀v∈l,0<=v/\v<=(p.Treaties.length:Int) - 1
theorem zCf{p:Pg}(h:VP p):∀{l:List Int},InT p l->0<=zCd p.Treaties l/\zCd p.Treaties l<=1000 * l.length
 | [],_=>⟨Int.le_refl _,by show(0:Int)<=1000 * ((0:Nat):Int); omega⟩
 | v::l,hl=>by
  have ih:=zCf h (l:=l) fun v hv=>hl v (List.mem_cons_of_mem _ hv);have hv:=hl v (List.mem_cons_self ..);have ht:=h.ts _ (List.mem_of_getElem? (zCb hv.1 hv.2));have h1:=ht.2
  show 0<=(tyA p.Treaties v).Price+zCd p.Treaties l/\(tyA p.Treaties v).Price+zCd p.Treaties l<=1000 * ((l.length+1:Nat):Int)
  omega
theorem zCg{α:Type}{l:List α}{k:Nat}{a:α}(h:l[k]? = some a):l.take (k+1)=l.take k++[a]:=by rw[List.take_add_one,h]; rfl
theorem zCh{p:Pg}(h:VP p){l:List Int}(hl:InT p l)(h9:l.length<=9):ztV p l=some (zCd p.Treaties l):=by
 refine zyv (n:=l.length) (fun d (s:Int) y=>ztU p l d s y) (fun k=>zCd p.Treaties (l.take k)) (fun d k hk=>?_) (fun d=>?_) (l.length+1) 0 (by omega) (by omega)
 ·have hg:=List.getElem?_eq_getElem hk;have hv:=hl _ (List.getElem_mem hk);have hb:=zCf h (l:=l.take (k+1)) fun v hv=>hl v (List.mem_of_mem_take hv)
  have hlen:(l.take (k+1)).length<=9:=by rw[List.length_take]; omega
  rw[zCg hg,zCe] at hb;rw[List.length_append,List.length_take] at hb
  simp only[List.length_singleton] at hb
  show ztU p l (d+1) _ _=_
  rw[ztU,if_pos (by omega),zrT hg,obs,zCc hv.1 hv.2,obs,zqs (fI (by omega)),zqs (fI (by omega)),zCg hg,zCe]
 ·show ztU p l (d+1) _ _=_
  rw[ztU,if_neg (Int.lt_irrefl _),List.take_length]
def zCi(p:Pg)(l:List Int):Pg:={ Losses:=p.Losses,Reserve:=p.Reserve,Treaties:=l.map (tyA p.Treaties),Reports:=[] }
theorem zCj{p:Pg}{l:List Int}(hl:InT p l)(h9:l.length<=9):ztX p l=some (zCi p l):=by
 refine zyv (n:=l.length) (fun d (s:List Ty) y=>ztW p l d p.Reserve s y) (fun k=>(l.take k).map (tyA p.Treaties)) (fun d k hk=>?_) (fun d=>?_) (l.length+1) 0 (by omega) (by omega)
 ·have hg:=List.getElem?_eq_getElem hk;have hv:=hl _ (List.getElem_mem hk)
  show ztW p l (d+1) _ _ _=_
  rw[ztW,if_pos (by omega),zrT hg,obs,zCc hv.1 hv.2,obs,zqs (by rw[List.length_map,List.length_take]; omega),zqs (fI (by omega)),zCg hg,List.map_append]; rfl
 ·show ztW p l (d+1) _ _ _=_
  rw[ztW,if_neg (Int.lt_irrefl _),List.take_length]; rfl
theorem zke.inT{p:Pg}{l:List Int}(h:zke p l):InT p l:=fun v hv=>(h.2 v hv).1
theorem zke.ty{p:Pg}(h:VP p){l:List Int}(hs:zke p l){v:Int}(hv:v∈l):(tyA p.Treaties v).Of = -1:=by
 obtain⟨h1,h2⟩:=hs.2 v hv;have hg:=zCb h1.1 h1.2;rw[zAU hg,decide_eq_true_eq] at h2;have:=h.of' _ _ hg
 omega
theorem zCk{p:Pg}(h:VP p){l:List Int}(hs:zke p l):VP (zCi p l):=by
 have h5:=h.t5;have hl:=hs.len;refine { ls:=h.ls,res:=h.res,ts:=fun t ht=>?_,of':=fun i t ht=>?_,rs:=fun r hr=>(by cases hr),l4:=h.l4,t5:=?_,r5:=Nat.zero_le _,many:=h.many }
 ·obtain⟨v,hv,rfl⟩:=List.mem_map.1 ht;have:=hs.inT v hv;exact h.ts _ (List.mem_of_getElem? (zCb this.1 this.2))
 ·obtain⟨v,hv,rfl⟩:=List.mem_map.1 (List.mem_of_getElem? ht);rw[hs.ty h hv]; omega
 ·show(l.map (tyA p.Treaties)).length<=5
  rw[List.length_map]; omega
theorem zCl{b k:Nat}:∀e,∃T,zx5 b (k+e)=zx5 b k++T
 | 0=>⟨[],(List.append_nil _).symm⟩
 | e+1=>by
  obtain⟨T,hT⟩:=zCl (b:=b) (k:=k) e;refine⟨T++(if b.testBit (k+e) then [((k+e:Nat):Int)] else []),?_⟩
  show zx5 b (k+e)++_=_
  rw[hT,List.append_assoc]; rfl
theorem zCm{b n:Nat}(hn:n<=16)(hb:b < 2 ^ n):zx6 b=zx5 b n:=by
 unfold zx6;obtain⟨e,he⟩:∃e,16=n+e:=⟨16 - n,by omega⟩;rw[he];exact zx9 (fun q hq=>Nat.testBit_lt_two_pow (Nat.lt_of_lt_of_le hb (Nat.pow_le_pow_right (by omega) hq))) e
theorem zCn{b k n j:Nat}(hk:k<=n)(hj:j < (zx5 b k).length):(zx5 b n)[j]? = (zx5 b k)[j]?:=by
 obtain⟨T,hT⟩:=zCl (b:=b) (k:=k) (n - k);rw[show k+(n - k)=n by omega] at hT;rw[hT,List.getElem?_append_left hj]
theorem zCo{ts:List Ty}{b n:Nat}(hn:n=ts.length)(hof:∀k t,ts[k]? = some t->b.testBit k=true->t.Of = -1){P P':Nat->Int}(hP:∀(j:Nat) (v:Int),(zx5 b n)[j]? = some v->P' j=P v.toNat){x:Int}:∀k,k<=n ->
  (dN ((zx5 b n).map (tyA ts)) P' x (zx5 b k).length).soc=(a1 ts (fun k=>b.testBit k) P x k).2/\∀(j:Nat) (v:Int),j < (zx5 b k).length->(zx5 b n)[j]? = some v->(dN ((zx5 b n).map (tyA ts)) P' x (zx5 b k).length).pays j=(a1 ts (fun k=>b.testBit k) P x k).1 v.toNat
 | 0,_=>⟨rfl,fun j v h=>by cases h⟩
 | k+1,hk=>by
  obtain⟨i1,i2⟩:=zCo hn hof hP (x:=x) k (by omega);have hg:=List.getElem?_eq_getElem (show k < ts.length by omega);rw[zAH hg];have ht:=hof k _ hg;generalize ts[k]'(by omega)=t at hg ht
  cases hb:b.testBit k with
  | true=>
   have ho:=ht hb
   have e:zx5 b (k+1)=zx5 b k++[(k:Int)]:=by show zx5 b k++(if b.testBit k then _ else _)=_; rw[hb]; rfl
   have el:(zx5 b (k+1)).length=(zx5 b k).length+1:=by rw[e,List.length_append]; rfl
   have hm:(zx5 b n)[(zx5 b k).length]? = some (k:Int):=by
    rw[zCn (k:=k+1) hk (by omega),e,List.getElem?_append_right (Nat.le_refl _),Nat.sub_self]; rfl
   have hmt:((zx5 b n).map (tyA ts))[(zx5 b k).length]? = some t:=by
    rw[List.getElem?_map,hm];exact congrArg some (zCa (by rw[Int.toNat_natCast]; exact hg))
   rw[el,zzq hmt,if_pos ⟨by omega,rfl⟩];unfold zzp;rw[if_pos ho,i1,hP _ _ hm,Int.toNat_natCast];refine⟨rfl,fun j v hj hv=>?_⟩
   show upF _ (zx5 b k).length _ j=upF (a1 ts (fun k=>b.testBit k) P x k).1 k _ v.toNat
   by_cases hjm:j=(zx5 b k).length
   ·subst hjm;rw[hm] at hv
    cases hv
    rw[zyA,Int.toNat_natCast,zyA]
   ·rw[zyB _ _ hjm,i2 j v (by omega) hv];have hv2:=hv;rw[zCn (k:=k) (by omega) (by omega)] at hv2;have:=zx7.1 (List.mem_of_getElem? hv2);rw[zyB _ _ (by omega)]
  | false=>
   have e:zx5 b (k+1)=zx5 b k:=by show zx5 b k++(if b.testBit k then _ else _)=_; rw[hb]; exact List.append_nil _
   rw[e,if_neg fun h=>by cases h.2];exact⟨i1,i2⟩
theorem zCp{ts:List Ty}{P now:Nat->Int}{j:Nat}(hj:ofB ts j=true):∀k,k<=ts.length->(a2 ts P now k).1 j=now j
 | 0,_=>rfl
 | k+1,hk=>by
  have hg:=List.getElem?_eq_getElem (show k < ts.length by omega);have hfk:=zAU hg;have ih:=zCp (P:=P) (now:=now) hj k (by omega);rw[zAI hg];generalize ts[k]'(by omega)=t at hg hfk
  by_cases ho:0<=t.Of
  ·rw[if_pos ho]
   show upF (a2 ts P now k).1 k _ j=_
   rw[zyB _ _ fun e=>by subst e; rw[hfk,decide_eq_true_eq] at hj; omega,ih]
  ·rw[if_neg ho,ih]
theorem zCq{ts:List Ty}{b:Nat}(hof:∀k t,ts[k]? = some t->b.testBit k=true->t.Of = -1):∀(L:List Int) (s:(Nat->Int) × Int) (o:DS),(∀(j:Nat) (v:Int),(zx5 b ts.length)[j]? = some v->o.pays j=s.1 v.toNat)->o.soc=s.2 ->
  (L.foldl (zzx ((zx5 b ts.length).map (tyA ts))) o).soc=(L.foldl (zAL ts fun k=>b.testBit k) s).2
 | [],_,_,_,h2=>h2
 | x::L,s,o,h1,h2=>by
  obtain⟨c1,c2⟩:=zCo rfl hof h1 (x:=x) ts.length (Nat.le_refl _);refine zCq hof L (zAL ts (fun k=>b.testBit k) s x) (zzx ((zx5 b ts.length).map (tyA ts)) o x) (fun j v hv=>?_) ?_
  ·show o.pays j+(dN ((zx5 b ts.length).map (tyA ts)) o.pays x ((zx5 b ts.length).map (tyA ts)).length).pays j=s.1 v.toNat+(a2 ts s.1 (a1 ts (fun k=>b.testBit k) s.1 x ts.length).1 ts.length).1 v.toNat
   have hjl:=(List.getElem?_eq_some_iff.1 hv).1;have hmem:=zx7.1 (List.mem_of_getElem? hv);have hg:=List.getElem?_eq_getElem (show v.toNat < ts.length by omega);rw[List.length_map,h1 j v hv,c2 j v hjl hv,zCp (by rw[zAU hg,hof _ _ hg hmem.2.2]; rfl) ts.length (Nat.le_refl _)]
  ·show o.soc+(dN ((zx5 b ts.length).map (tyA ts)) o.pays x ((zx5 b ts.length).map (tyA ts)).length).soc=s.2+(a1 ts (fun k=>b.testBit k) s.1 x ts.length).2
   rw[List.length_map,c1,h2]
theorem zCr{ts:List Ty}{b:Nat}(hof:∀k t,ts[k]? = some t->b.testBit k=true->t.Of = -1)(L:List Int):(zzy ((zx5 b ts.length).map (tyA ts)) L).soc=(zAM ts (fun k=>b.testBit k) L).2:=
 zCq hof L (fun _=>0,0) zzw (fun _ _ _=>rfl) rfl
theorem zCs{ts:List Ty}{th th':Nat->Bool}{P:Nat->Int}{x:Int}(h:∀j,j < ts.length->th j=th' j):∀k,k<=ts.length->a1 ts th P x k=a1 ts th' P x k
 | 0,_=>rfl
 | k+1,hk=>by
  have hg:=List.getElem?_eq_getElem (show k < ts.length by omega);rw[zAH hg,zAH hg,zCs h k (by omega),h k (by omega)]
theorem zCt{ts:List Ty}{th th':Nat->Bool}(h:∀j,j < ts.length->th j=th' j)(L:List Int):zAM ts th L=zAM ts th' L:=by
 have e:zAL ts th=zAL ts th':=by
  funext s x
  unfold zAL;rw[zCs h ts.length (Nat.le_refl _)]
 unfold zAM;rw[e]
theorem RI.mono{ts:List Ty}{B B':Int}{s:(Nat->Int) × Int}(h:RI ts B s)(hB:B<=B'):RI ts B' s:=⟨by have:=h.net; omega,fun j=>by have:=h.pays j; omega,h.cap⟩
theorem zCu{ts:List Ty}{th:Nat->Bool}(hts:zzs ts):∀(L:List Int) (s:(Nat->Int) × Int) (B:Int),(∀x∈L,0<=x/\x<=1000)->RI ts B s->RI ts (B+1000 * L.length) (L.foldl (zAL ts th) s)
 | [],s,B,_,h=>h.mono (by show B<=B+1000 * ((0:Nat):Int); omega)
 | x::L,s,B,hL,h=>by
  have hx:=hL x (List.mem_cons_self ..);have h1:=(h.step (th:=th) hts (x:=x) (by omega)).mono (B':=B+1000) (by omega);refine(zCu hts L _ _ (fun x hx=>hL x (List.mem_cons_of_mem _ hx)) h1).mono ?_;rw[List.length_cons]; omega
theorem zCv{p:Pg}(h:VP p){th:Nat->Bool}{L:List Int}(hL:inL p.Losses L):0<=(zAM p.Treaties th L).2/\(zAM p.Treaties th L).2<=4000:=by
 have h4:=h.l4;have hl:=zzL hL;have:=(zCu (th:=th) h.tsOk L (fun _=>0,0) 0 (zzO hL h.ls) ⟨⟨Int.le_refl _,Int.le_refl _⟩,fun _=>⟨Int.le_refl _,Int.le_refl _⟩,zzz h.tsOk⟩).net;unfold zAM
 omega
def zCw(p:Pg):List (List Int):=(List.range (zyJ p.Losses).toNat).map fun n:Nat=>zBh p.Losses (n:Int)
theorem zCx{p:Pg}(h:VP p){L:List Int}:L∈zCw p↔inL p.Losses L:=by
 unfold zCw;rw[List.mem_map]
 constructor
 ·rintro⟨n,_,rfl⟩; exact h.nthIn (by omega)
 ·intro hL;obtain⟨n,n0,n1,rfl⟩:=zBj hL;exact⟨n.toNat,List.mem_range.2 (by omega),by rw[show((n.toNat:Nat):Int)=n by omega]⟩
def zCy(p:Pg)(th:Nat->Bool):Rg:=wdL (fun L=>(zAM p.Treaties th L).2) (zCw p)
theorem zCz{p:Pg}{th th':Nat->Bool}(h:∀j,j < p.Treaties.length->th j=th' j):zCy p th=zCy p th':=by
 unfold zCy
 have:(fun L=>(zAM p.Treaties th L).2)=fun L=>(zAM p.Treaties th' L).2:=funext fun L=>by rw[zCt h]
 rw[this]
theorem zCA{p:Pg}(h:VP p)(th:Nat->Bool):IsB (inL p.Losses) (fun L=>(zAM p.Treaties th L).2) (zCy p th):=by
 obtain⟨L,hL⟩:=zzW h;refine(zBF (fun e=>?_) fun L hL=>?_).congr (fun L=>zCx h) fun _ _=>rfl
 ·have:=(zCx h).2 hL
  rw[e] at this; cases this
 ·have:=zCv h (th:=th) ((zCx h).1 hL); omega
theorem zCB{p:Pg}(h:VP p){b:Nat}(hb:b < 1000000):zsW p (b:Int)=some (zCy p fun k=>b.testBit k):=by
 have hm:=h.many;have h1:=h.prodPos
 show(some emp).bind _=_
 rw[obs]
 have hlen:(zCw p).length=(zyJ p.Losses).toNat:=by unfold zCw; rw[List.length_map,List.length_range]
 refine zyv (n:=(zyJ p.Losses).toNat) (fun d (s:Rg) y=>zsV p (b:Int) d s.Lo s.Hi y) (fun k=>wdL (fun L=>(zAM p.Treaties (fun k=>b.testBit k) L).2) ((zCw p).take k)) (fun d k hk=>?_) (fun d=>?_) 1000000 0 (by omega) (by omega)
 ·have hin:=h.nthIn (n:=(k:Int)) (by omega)
  have hg:(zCw p)[k]? = some (zBh p.Losses (k:Int)):=by unfold zCw; rw[List.getElem?_map,List.getElem?_range hk]; rfl
  show zsV p (b:Int) (d+1) _ _ _=_
  rw[zsV,zzc h,obs,if_pos (by omega),zBl h (by omega),obs,zAT h hb (zzO hin h.ls) (l9 h hin),obs,zBD hg]
  show(some (wd _ _)).bind _=_
  rw[obs,zqs (fI (by omega))]
 ·show zsV p (b:Int) (d+1) _ _ _=_
  rw[zsV,zzc h,obs,if_neg (by omega),List.take_of_length_le (by rw[hlen]; exact Nat.le_refl _)]; rfl
theorem zke.bits{p:Pg}(h:VP p){b:Nat}(_hb:b < 2 ^ p.Treaties.length)(hs:zke p (zx6 b)):∀k t,p.Treaties[k]? = some t->b.testBit k=true->t.Of = -1:=fun k t hk hbk=>by
 have hkl:=(List.getElem?_eq_some_iff.1 hk).1;have h5:=h.t5
 have hm:((k:Nat):Int)∈zx6 b:=by unfold zx6; exact zx7.2 ⟨by omega,by omega,hbk⟩
 have:=hs.ty h hm
 rwa [zCa (t:=t) (by rw[Int.toNat_natCast]; exact hk)] at this
theorem zCC{p:Pg}(h:VP p){l:List Int}(hs:zke p l):zus p l=some (zCy p (inD l)):=by
 have h5:=h.t5;obtain⟨b,hb,hlb⟩:=zyu (n:=p.Treaties.length) (by omega) hs.inc;have hv:=zCk h hs;have hlen:=hs.len;have hof:=zke.bits h hb (by rw[hlb]; exact hs)
 have hth:∀j,j < p.Treaties.length->inD l j=b.testBit j:=fun j hj=>by
  rw[<- hlb]; exact zyt (n:=p.Treaties.length) (by omega) hj
 have hlF:l=zx5 b p.Treaties.length:=by rw[<- hlb]; exact zCm (by omega) hb
 obtain⟨L0,hL0⟩:=zzW h;have hcan:zAg (zCi p l) (zCi p l).Reports:=⟨L0,hL0,fun r hr=>by cases hr⟩;obtain⟨r,a1,a2⟩:=zAq hv (number:=fun a=>zt0 a) (g:=fun o=>o.society) (fun L _=>rfl) hcan
 have hnet:∀L,(zzy (l.map (tyA p.Treaties)) L).soc=(zAM p.Treaties (fun k=>b.testBit k) L).2:=fun L=>by
  rw[hlF]; exact zCr hof L
 have e:r=zCy p (inD l):=by
  rw[zCz hth];have q:IsB (inL p.Losses) (fun L=>(zAM p.Treaties (fun k=>b.testBit k) L).2) r:=a2.congr (fun L=>⟨fun q=>q.1,fun q=>⟨q,fun r hr=>by cases hr⟩⟩) fun L _=>hnet L;exact q.uniq (zCA h fun k=>b.testBit k)
 unfold zus;rw[zCj hs.inT (by omega),obs,zz6 hv,obs];have a1':zul ({ p:=(zz0 (zCi p l) (zzS (zCi p l))).p,kinds:=(zz0 (zCi p l) (zzS (zCi p l))).kinds,shared:=(),played:=(zz0 (zCi p l) (zzS (zCi p l))).played }:Wk) (fun a=>zt0 a)=some r:=a1;rw[a1',obs,e]
theorem zCD{p:Pg}(h:VP p){l:List Int}(hs:zke p l):zut p l=some (decide ((zCy p (inD l)).Hi<=p.Reserve)):=by
 unfold zut;rw[zCC h hs,obs]
theorem zCE{p:Pg}(h:VP p){l:List Int}(hl:zr3 l)(hs:zke p l):zuu p l=some (zCy p (inD l),0):=by
 unfold zuu;rw[zAs h,obs,if_pos rfl,(zB9 h hl).some_of hs,obs,if_pos rfl,zCC h hs,obs]
def zCF(p:Pg)(l:List Int)(m:Int):Prop:=zke p l/\zCd p.Treaties l<=m/\(zCy p (inD l)).Hi<=p.Reserve
theorem zCG{p:Pg}(h:VP p){l:List Int}(hl:zr3 l){m:Int}:Ev (zuz p l m) (zCF p l m):=by
 have h5:=h.t5;unfold zuz;rw[zAs h,obs,if_pos rfl];refine((zB9 h hl).and fun hs=>(?_:Ev _ (zCd p.Treaties l<=m/\(zCy p (inD l)).Hi<=p.Reserve)));have:=hs.len;rw[zCh h hs.inT (by omega),obs];refine Ev.ite fun _=>?_;rw[zCD h hs,obs];exact Ev.dec Iff.rfl
theorem zCH{l:List Int}(h:l.length<=100000):zud l=some l:=by
 unfold zud;rw[zqs (by simp only[List.length_nil]; omega)]; rfl
def zCI(p:Pg)(D:List Int):Prop:=zke p D/\(zCy p (inD D)).Hi<=p.Reserve
structure zCJ (p:Pg) (M:List Int):Prop where
 good:zCI p M
 min:∀D,zCI p D->zCd p.Treaties M < zCd p.Treaties D\/(zCd p.Treaties M=zCd p.Treaties D/\(D=M\/shB M D=true))
theorem zCJ.uniq{p:Pg}{M M':List Int}(h:zCJ p M)(h':zCJ p M'):M=M':=by
 rcases h.min M' h'.good with h1 | ⟨h1,h1'⟩ <;> rcases h'.min M h.good with h2 | ⟨h2,h2'⟩
 ·omega
 ·omega
 ·omega
 ·rcases h1' with h3 | h3
  ·exact h3.symm
  ·rcases h2' with h4 | h4
   ·exact h4
   ·rw[zyj h3] at h4; cases h4
open Classical in
def zCK(p:Pg)(s:List Int × Bool)(D:List Int):List Int × Bool:=if zCI p D/\(s.2=true->zCd p.Treaties D < zCd p.Treaties s.1) then (D,true) else s
theorem zCL{p:Pg}{s:List Int × Bool}(h:s.2=true->zke p s.1)(D:List Int):(zCK p s D).2=true->zke p (zCK p s D).1:=by
 unfold zCK
 split
 ·rename_i hc; exact fun _=>hc.1.1
 ·exact h
theorem zCM{p:Pg}(h:VP p){x:Int}(hx:0<=x/\x<=1000){K:List Int->Bool->Int->Option (List Int × Bool)}:∀(q:List (List Int)) (s:List Int × Bool),(∀D∈q,Inc p.Treaties.length 0 D)->(s.2=true->zke p s.1) ->
  zuv p x K q s.1 s.2=K (q.foldl (zCK p) s).1 (q.foldl (zCK p) s).2 (x+1)/\((q.foldl (zCK p) s).2=true->zke p (q.foldl (zCK p) s).1)
 | [],s,_,hs=>⟨by rw[zuv,zqs (fI (by omega))]; rfl,hs⟩
 | D::q,s,hq,hs=>by
  have h5:=h.t5;have hD:=zx3 (hq D (List.mem_cons_self ..));have ih:=zCM h hx (K:=K) q (zCK p s D) (fun D hD=>hq D (List.mem_cons_of_mem _ hD)) (zCL hs D);refine⟨?_,ih.2⟩;refine Eq.trans ?_ ih.1;rw[zuv]
  have hD5:D.length<=5:=by omega
  by_cases hset:zke p D
  ·rw[(zB9 h (zr4 hD5 (by omega))).some_of hset,obs,if_pos rfl];have hg:zCI p D↔(zCy p (inD D)).Hi<=p.Reserve:=⟨fun q=>q.2,fun q=>⟨hset,q⟩⟩;obtain⟨M,b⟩:=s
   cases b with
   | true=>
    have hM:=hs rfl;have hMl:M.length<=p.Treaties.length:=hM.len
    show(if true=true then _ else _)=_
    rw[if_pos rfl,zCh h hset.inT (by omega),obs]
    show(ztV p M).bind _=_
    rw[zCh h hM.inT (by show M.length<=9; omega),obs]
    by_cases hp:zCd p.Treaties M<=zCd p.Treaties D
    ·rw[if_pos hp]
     have e:zCK p (M,true) D=(M,true):=if_neg fun q=>by have:zCd p.Treaties D < zCd p.Treaties M:=q.2 rfl; omega
     rw[e]
    ·rw[if_neg hp,zCD h hset,obs]
     by_cases hk:(zCy p (inD D)).Hi<=p.Reserve
     ·have e:zCK p (M,true) D=(D,true):=if_pos ⟨hg.2 hk,fun _=>by show zCd p.Treaties D < zCd p.Treaties M; omega⟩;rw[decide_eq_true hk,if_pos rfl,zCH (by omega),obs,e]
     ·have e:zCK p (M,true) D=(M,true):=if_neg fun q=>hk (hg.1 q.1);rw[decide_eq_false hk,if_neg (by decide),e]
   | false=>
    show(if false=true then _ else _)=_
    rw[if_neg (by decide),zCD h hset,obs]
    by_cases hk:(zCy p (inD D)).Hi<=p.Reserve
    ·have e:zCK p (M,false) D=(D,true):=if_pos ⟨hg.2 hk,fun q=>(by cases q)⟩;rw[decide_eq_true hk,if_pos rfl,zCH (by omega),obs,e]
    ·have e:zCK p (M,false) D=(M,false):=if_neg fun q=>hk (hg.1 q.1);rw[decide_eq_false hk,if_neg (by decide),e]
  ·rw[(zB9 h (zr4 hD5 (by omega))).some_not hset,obs,if_neg (by decide)];have e:zCK p s D=s:=if_neg fun q=>hset q.1.1;rw[e]
theorem zCN{p:Pg}(h:VP p):∀(d e k:Nat) (s:List Int × Bool),k+e=p.Treaties.length+1->e < d->(s.2=true->zke p s.1)->zuw p d s.1 s.2 (k:Int)=some ((zry (fun s=>zrz p.Treaties.length s [] 0) e k).foldl (zCK p) s)
 | 0,_,_,_,_,hd,_=>by omega
 | d+1,0,k,s,hk,hd,hs=>by
  rw[zuw,if_neg (by omega)]; rfl
 | d+1,e+1,k,s,hk,hd,hs=>by
  have h5:=h.t5
  have hinc:∀D∈zrz p.Treaties.length k [] 0,Inc p.Treaties.length 0 D:=fun D hD=>by
   obtain⟨T,h1,_,h3⟩:=zx2.1 hD;rw[List.nil_append] at h1;rw[h1]; exact h3
  obtain⟨q1,q2⟩:=zCM h (x:=(k:Int)) (by omega) (K:=zuw p d) (zrz p.Treaties.length k [] 0) s hinc hs;rw[zuw,if_pos (by omega)];unfold zrC;rw[zqs (by omega),obs,Int.toNat_natCast,Int.toNat_natCast,q1,show(k:Int)+1=((k+1:Nat):Int) by omega];refine(zCN h d e (k+1) _ (by omega) (by omega) q2).trans ?_
  show _=some ((zrz p.Treaties.length k [] 0++zry (fun s=>zrz p.Treaties.length s [] 0) e (k+1)).foldl (zCK p) s)
  rw[List.foldl_append]
theorem zCO{p:Pg}(h:VP p):zux p=some ((zoj p.Treaties.length).foldl (zCK p) ([],false)):=by
 have h5:=h.t5;unfold zux;rw[zqs (fI (by omega))]
 exact zCN h _ (p.Treaties.length+1) 0 ([],false) (by omega) (by omega) fun q=>by cases q
structure zCP (p:Pg) (A:List (List Int)) (s:List Int × Bool):Prop where
 yes:s.2=true->s.1∈A/\zCI p s.1/\∀D∈A,zCI p D->zCd p.Treaties s.1 < zCd p.Treaties D\/(zCd p.Treaties s.1=zCd p.Treaties D/\(D=s.1\/shB s.1 D=true))
 no:s.2=false->s.1=[]/\∀D∈A,¬ zCI p D
theorem zCQ{p:Pg}:∀(q A:List (List Int)) (s:List Int × Bool),(A++q).Pairwise (fun a b=>shB a b=true)->zCP p A s->zCP p (A++q) (q.foldl (zCK p) s)
 | [],A,s,_,h=>by rw[List.append_nil]; exact h
 | D::q,A,s,hp,h=>by
  have e:A++D::q=(A++[D])++q:=by rw[List.append_assoc]; rfl
  rw[e] at hp ⊢;refine zCQ q (A++[D]) (zCK p s D) hp ?_;have hAD:∀a∈A,shB a D=true:=fun a ha=>(List.pairwise_append.1 (List.pairwise_append.1 hp).1).2.2 a ha D (List.mem_singleton.2 rfl)
  have hmem:∀D',D'∈A++[D]->D'∈A\/D'=D:=fun D' hD'=>by
   rcases List.mem_append.1 hD' with q | q
   ·exact .inl q
   ·exact .inr (List.mem_singleton.1 q)
  obtain⟨M,b⟩:=s
  by_cases hc:zCI p D/\(b=true->zCd p.Treaties D < zCd p.Treaties M)
  ·have e2:zCK p (M,b) D=(D,true):=if_pos hc;rw[e2];refine⟨fun _=>⟨List.mem_append_right _ (List.mem_singleton.2 rfl),hc.1,fun D' hD' hg=>?_⟩,fun q=>(by cases q)⟩
   rcases hmem D' hD' with hq | rfl
   ·cases b with
    | true=>
     have h1:zCd p.Treaties D < zCd p.Treaties M:=hc.2 rfl
     rcases (h.yes rfl).2.2 D' hq hg with h2 | ⟨h2,_⟩
     ·have h2:zCd p.Treaties M < zCd p.Treaties D':=h2;exact .inl (by show zCd p.Treaties D < _; omega)
     ·have h2:zCd p.Treaties M=zCd p.Treaties D':=h2;exact .inl (by show zCd p.Treaties D < _; omega)
    | false=>exact absurd hg ((h.no rfl).2 D' hq)
   ·exact .inr ⟨rfl,.inl rfl⟩
  ·have e2:zCK p (M,b) D=(M,b):=if_neg hc;rw[e2]
   cases b with
   | true=>
    refine⟨fun _=>?_,fun q=>(by cases q)⟩;obtain⟨y1,y2,y3⟩:=h.yes rfl;refine⟨List.mem_append_left _ y1,y2,fun D' hD' hg=>?_⟩
    rcases hmem D' hD' with hq | rfl
    ·exact y3 D' hq hg
    ·have h1:¬ zCd p.Treaties D' < zCd p.Treaties M:=fun q=>hc ⟨hg,fun _=>q⟩
     rcases Int.lt_or_eq_of_le (show zCd p.Treaties M<=zCd p.Treaties D' by omega) with h2 | h2
     ·exact .inl h2
     ·exact .inr ⟨h2,.inr (hAD M y1)⟩
   | false=>
    refine⟨fun q=>(by cases q),fun _=>⟨(h.no rfl).1,fun D' hD' hg=>?_⟩⟩
    rcases hmem D' hD' with hq | rfl
    ·exact(h.no rfl).2 D' hq hg
    ·exact hc ⟨hg,fun q=>(by cases q)⟩
theorem zCR{p:Pg}(h:VP p):(∃M,zux p=some (M,true)/\zCJ p M)\/(zux p=some ([],false)/\∀D,¬ zCI p D):=by
 have hi:=zCQ (p:=p) (zoj p.Treaties.length) [] ([],false) (zyn _) ⟨fun q=>(by cases q),fun _=>⟨rfl,fun D hD=>by cases hD⟩⟩;rw[List.nil_append] at hi;rw[zCO h];generalize (zoj p.Treaties.length).foldl (zCK p) ([],false)=s at hi;have hall:∀D,zCI p D->D∈zoj p.Treaties.length:=fun D hD=>zx4.2 hD.1.inc;obtain⟨M,b⟩:=s
 cases b with
 | true=>
  obtain⟨_,y2,y3⟩:=hi.yes rfl;exact .inl ⟨M,rfl,y2,fun D hD=>y3 D (hall D hD) hD⟩
 | false=>
  obtain⟨n1,n2⟩:=hi.no rfl;have n1:M=[]:=n1;subst n1;exact .inr ⟨rfl,fun D hD=>n2 D (hall D hD) hD⟩
theorem zCS{p:Pg}(h:VP p):(∃M,zuy p=some (M,zCd p.Treaties M,0)/\zCJ p M)\/(zuy p=some ([],0,10)/\∀D,¬ zCI p D):=by
 have h5:=h.t5;unfold zuy;rw[zAs h,obs,if_pos rfl]
 rcases zCR h with ⟨M,q1,q2⟩ | ⟨q1,q2⟩
 ·have hl:=q2.good.1.len;refine .inl ⟨M,?_,q2⟩;rw[q1,obs]
  show(ztV p M).bind _=_
  rw[zCh h q2.good.1.inT (by omega),obs]
 ·refine .inr ⟨?_,q2⟩;rw[q1,obs]; rfl
end
end Go.Proofs.YtkcmdghjgoaggaaGreat

namespace Go.Proofs.YtkcmdghjgoaggaaGreat
open _root_.Go.Proofs.Tryz
open Go.Abs
set_option maxRecDepth 100000
noncomputable section
def zCT(p:Pg):Prop:=p.Losses.length<=7/\p.Treaties.length<=8/\p.Reports.length<=8
theorem zCT.sh{p:Pg}(h:zCT p):ShP p:=by
 obtain⟨a,b,c⟩:=h;exact⟨zr4 a (by omega),zr4 b (by omega),zr4 c (by omega)⟩
def zCU(p:Pg):Prop:=zCT p/\(VP p->zyJ p.Losses<=300)
theorem zCV{p:Pg}:Ev (zuN p) (zCU p):=by
 unfold zuN zCU zCT
 by_cases h1:p.Losses.length<=7
 ·rw[if_pos (by omega)]
  by_cases h2:p.Treaties.length<=8
  ·rw[if_pos (by omega)]
   by_cases h3:p.Reports.length<=8
   ·rw[if_pos (by omega),zzd (by omega) (by omega) (by omega),obs]
    by_cases hf:zyK p=0
    ·have hv:=zyL.1 hf;rw[if_pos hf,zzc hv,obs];exact Ev.dec ⟨fun q=>⟨⟨h1,h2,h3⟩,fun _=>q⟩,fun q=>q.2 hv⟩
    ·rw[if_neg hf];exact Ev.tt ⟨⟨h1,h2,h3⟩,fun q=>absurd (zyL.2 q) hf⟩
   ·rw[if_neg (by omega)]; exact Ev.ff fun q=>h3 q.1.2.2
  ·rw[if_neg (by omega)]; exact Ev.ff fun q=>h2 q.1.2.1
 ·rw[if_neg (by omega)]; exact Ev.ff fun q=>h1 q.1.1
theorem zCW{p:Pg}(h:zCT p):zuO p=some (zyK p):=by
 obtain⟨a,b,c⟩:=h;exact zze (by omega) (by omega) (by omega)
theorem zCX{p:Pg}(h:zCT p):zuK p=some p:=by
 obtain⟨h1,h2,h3⟩:=h
 have k2:zuH p p.Losses p.Treaties 1000000 p.Reserve [] 0=some p:=by
  refine(zrZ (l:=p.Reports) (fun r=>r) (F:=fun d acc x=>zuH p p.Losses p.Treaties d p.Reserve acc x) (fun acc=>some ({ Losses:=p.Losses,Reserve:=p.Reserve,Treaties:=p.Treaties,Reports:=acc }:Pg)) (fun d k acc a hk ha=>?_) (fun d acc=>?_) (d:=1000000) (by omega)).trans (by rw[List.map_id'])
  ·have hkl:=(List.getElem?_eq_some_iff.1 hk).1
   show zuH p p.Losses p.Treaties (d+1) _ _ _=_
   rw[zuH,if_pos (by omega),zrT hk,obs,obs]
   show(some a.Paid).bind _=_
   rw[obs,zqs (by omega),zqs (fI (by omega))]
  ·show zuH p p.Losses p.Treaties (d+1) _ _ _=_
   rw[zuH,if_neg (Int.lt_irrefl _)]
 have k1:zuI p p.Losses 1000000 p.Reserve [] [] 0=some p:=by
  refine(zrZ (l:=p.Treaties) (fun r=>r) (F:=fun d acc x=>zuI p p.Losses d p.Reserve acc [] x) (fun acc=>zuH p p.Losses acc 1000000 p.Reserve [] 0) (fun d k acc a hk ha=>?_) (fun d acc=>?_) (d:=1000000) (by omega)).trans (by rw[List.map_id']; exact k2)
  ·have hkl:=(List.getElem?_eq_some_iff.1 hk).1
   show zuI p p.Losses (d+1) _ _ _ _=_
   rw[zuI,if_pos (by omega),zrT hk,obs,zqs (by omega),zqs (fI (by omega))]
  ·show zuI p p.Losses (d+1) _ _ _ _=_
   rw[zuI,if_neg (Int.lt_irrefl _)]
 refine(zrZ (l:=p.Losses) (fun r=>r) (F:=fun d acc x=>zuJ p d acc p.Reserve [] [] x) (fun acc=>zuI p acc 1000000 p.Reserve [] [] 0) (fun d k acc a hk ha=>?_) (fun d acc=>?_) (d:=1000000) (by omega)).trans (by rw[List.map_id']; exact k1)
 ·have hkl:=(List.getElem?_eq_some_iff.1 hk).1
  show zuJ p (d+1) _ _ _ _ _=_
  rw[zuJ,if_pos (by omega),zrT hk,obs]
  show(some a).bind _=_
  rw[obs,zqs (by omega),zqs (fI (by omega))]
 ·show zuJ p (d+1) _ _ _ _ _=_
  rw[zuJ,if_neg (Int.lt_irrefl _)]
theorem zCY{l:List Int}(hl:l.length<=1000):zuM l l=some true:=by
 unfold zuM;rw[if_pos rfl]
 have key:=zr2 (l:=l) (F:=zuL l l) (ok:=fun _=>True) (bad:=some false) (fin:=some true) (fun d k a ha=>by
  have hk:=(List.getElem?_eq_some_iff.1 ha).1;refine⟨fun _=>?_,fun h=>absurd trivial h⟩
  rw[zuL,if_pos (by omega),zrT ha,obs,obs,if_pos rfl,zqs (fI (by omega))]) (fun d=>by rw[zuL,if_neg (Int.lt_irrefl _)]) (d:=l.length+1) (by omega)
 exact key.1 fun _ _=>trivial
def zCZ(n:Int)(rs:List Rpt):Pg:={ Losses:=[{ Lo:=100,Hi:=120 },{ Lo:=300,Hi:=300 }],Reserve:=n,Treaties:=[{ Kind:=0,Part:=25,Above:=0,Most:=0,Times:=0,Price:=50,Of:=-1 },{ Kind:=1,Part:=0,Above:=50,Most:=100,Times:=0,Price:=30,Of:=-1 },{ Kind:=1,Part:=0,Above:=20,Most:=40,Times:=1,Price:=5,Of:=0 }],Reports:=rs }
def zC0:List Rpt:=[{ Treaty:=0,Paid:={ Lo:=103,Hi:=110 } },{ Treaty:=2,Paid:={ Lo:=45,Hi:=46 } }]
theorem zC1(rs:List Rpt):zuQ rs=some (zCZ 200 rs):=rfl
theorem zC2:zuR=some zC0:=rfl
theorem zC3(n:Int):zuS n=some (zCZ n []):=rfl
theorem zC4{a b hi:Int}(h1:0<=a)(h2:a<=b)(h3:b<=hi):RgV { Lo:=a,Hi:=b } hi:=⟨h1,h2,h3⟩
theorem zC5{n:Int}{rs:List Rpt}(hn:0<=n/\n<=10000)(hr:rs.length<=5)(hrs:∀r∈rs,(0<=r.Treaty/\r.Treaty<=2)/\RgV r.Paid 10000):VP (zCZ n rs):=by
 refine { ls:=fun r hr=>?_,res:=hn,ts:=fun t ht=>?_,of':=fun i t ht=>?_,rs:=fun r hr=>?_,l4:=by show 2<=4; omega,t5:=by show 3<=5; omega,r5:=hr,many:=by show zyJ [{ Lo:=100,Hi:=120 },{ Lo:=300,Hi:=300 }]<=1500; decide }
 ·rcases List.mem_cons.1 hr with rfl | hr
  ·exact zC4 (by omega) (by omega) (by omega)
  rcases List.mem_cons.1 hr with rfl | hr
  ·exact zC4 (by omega) (by omega) (by omega)
  ·cases hr
 ·rcases List.mem_cons.1 ht with rfl | ht
  ·exact⟨by unfold zgo; decide,by decide,by decide⟩
  rcases List.mem_cons.1 ht with rfl | ht
  ·exact⟨by unfold zgo; decide,by decide,by decide⟩
  rcases List.mem_cons.1 ht with rfl | ht
  ·exact⟨by unfold zgo; decide,by decide,by decide⟩
  ·cases ht
 ·match i,ht with
  | 0,ht=>cases ht; exact⟨by decide,by decide⟩
  | 1,ht=>cases ht; exact⟨by decide,by decide⟩
  | 2,ht=>cases ht; exact⟨by decide,by decide⟩
  | k+3,ht=>cases ht
 ·exact⟨(hrs r hr).1,(hrs r hr).2⟩
theorem vp3(n:Int)(hn:0<=n/\n<=10000):VP (zCZ n []):=zC5 hn (by show 0<=5; omega) fun r hr=>by cases hr
theorem zC6:VP (zCZ 200 zC0):=zC5 (by omega) (by show 2<=5; omega) fun r hr=>by
 rcases List.mem_cons.1 hr with rfl | hr
 ·exact⟨⟨by decide,by decide⟩,zC4 (by omega) (by omega) (by omega)⟩
 rcases List.mem_cons.1 hr with rfl | hr
 ·exact⟨⟨by decide,by decide⟩,zC4 (by omega) (by omega) (by omega)⟩
 ·cases hr
theorem zC7{p:Pg}(h:VP p){D:List Int}(hD:Inc p.Treaties.length 0 D):∃b,b < 2 ^ p.Treaties.length/\zx6 b=D:=zyu (by have:=h.t5; omega) hD
theorem zC8:zke (zCZ 200 []) [1]:=⟨List.pairwise_singleton _ _,fun v hv=>by
 have:=List.mem_singleton.1 hv; subst this
 exact⟨⟨by decide,by decide⟩,by decide +kernel⟩⟩
theorem zC9:zCJ (zCZ 300 []) [0,1]:=by
 have hs:zke (zCZ 300 []) [0,1]:=⟨by simp,fun v hv=>by
  rcases List.mem_cons.1 hv with rfl | hv
  ·exact⟨⟨by decide,by decide⟩,by decide +kernel⟩
  ·have:=List.mem_singleton.1 hv; subst this
   exact⟨⟨by decide,by decide⟩,by decide +kernel⟩⟩
 refine⟨⟨hs,by decide +kernel⟩,fun D hD=>?_⟩;obtain⟨b,hb,rfl⟩:=zC7 (vp3 300 (by omega)) hD.1.inc;have hb:b < 8:=hb
 have:b=0\/b=1\/b=2\/b=3\/b=4\/b=5\/b=6\/b=7:=by omega
 rcases this with rfl | rfl | rfl | rfl | rfl | rfl | rfl | rfl
 ·exact absurd hD.2 (by decide +kernel)
 ·exact absurd hD.2 (by decide +kernel)
 ·exact absurd hD.2 (by decide +kernel)
 ·have e:zx6 3=[0,1]:=by decide +kernel
  rw[e]; exact .inr ⟨rfl,.inl rfl⟩
 ·exact absurd (hD.1.2 2 (by decide +kernel)).2 (by decide +kernel)
 ·exact absurd (hD.1.2 2 (by decide +kernel)).2 (by decide +kernel)
 ·exact absurd (hD.1.2 2 (by decide +kernel)).2 (by decide +kernel)
 ·exact absurd (hD.1.2 2 (by decide +kernel)).2 (by decide +kernel)
def okT(L:List Int):Bool:=decide (103<=(zzy (zCZ 200 zC0).Treaties L).pays 0/\(zzy (zCZ 200 zC0).Treaties L).pays 0<=110) && decide (45<=(zzy (zCZ 200 zC0).Treaties L).pays 2/\(zzy (zCZ 200 zC0).Treaties L).pays 2<=46)
theorem zDa:(zCw (zCZ 200 zC0)).all (fun L=>!okT L)=true:=by decide +kernel
theorem zDb:¬ zAg (zCZ 200 zC0) zC0:=by
 rintro⟨L,hL,hA⟩
 have h1:=hA _ (List.mem_cons_self ..);have h2:=hA _ (List.mem_cons_of_mem _ (List.mem_cons_self ..));have h3:=List.all_eq_true.1 zDa L ((zCx zC6).2 hL)
 have h4:okT L=true:=by
  unfold okT;rw[Bool.and_eq_true_iff];exact⟨decide_eq_true h1,decide_eq_true h2⟩
 rw[h4] at h3; cases h3
theorem fp0:FP (zCZ 200 zC0) 0:=⟨[112,300],⟨⟨by decide,by decide⟩,⟨by decide,by decide⟩,trivial⟩,fun r hr=>by
 have hr:r∈[({ Treaty:=0,Paid:={ Lo:=103,Hi:=110 } }:Rpt)]:=hr;have:=List.mem_singleton.1 hr; subst this
 exact(by decide +kernel:(103:Int)<=(zzy (zCZ 200 zC0).Treaties [112,300]).pays 0/\(zzy (zCZ 200 zC0).Treaties [112,300]).pays 0<=110)⟩
theorem zDc:zuD (zCZ 200 zC0)=some (1,0):=by
 rcases zBY zC6 with ⟨j,a1,a2,a3,a4⟩ | ⟨a1,a2⟩
 ·have:j=1:=zB5 (p:=zCZ 200 zC0) a2 a3 (j':=1) zDb fun i hi=>by
   rw[show i=0 by omega]; exact fp0
  subst this; exact a4
 ·exact absurd (a1 1 (by show 1 < 2; omega)) zDb
theorem zDd:zuF (zCZ 200 zC0)=some ([0],0):=by
 obtain⟨M,q1,q2⟩:=zBU zC6
 have hm:zA9 2 (PL (zCZ 200 zC0)) [0]:=by
  refine⟨⟨List.pairwise_singleton _ _,fun v hv=>by have:=List.mem_singleton.1 hv; subst this; exact⟨by decide,by decide⟩⟩,⟨[100,300],⟨⟨by decide,by decide⟩,⟨by decide,by decide⟩,trivial⟩,fun j hj hs=>?_⟩,fun D hD hP=>?_⟩
  ·have hj:j < 2:=hj
   have:j=0\/j=1:=by omega
   rcases this with rfl | rfl
   ·exact absurd hs (by decide +kernel)
   ·refine(zBr (p:=zCZ 200 zC0) (j:=1) rfl).2 ?_;exact(by decide +kernel:(45:Int)<=(zzy (zCZ 200 zC0).Treaties [100,300]).pays 2/\(zzy (zCZ 200 zC0).Treaties [100,300]).pays 2<=46)
  ·obtain⟨b,hb,rfl⟩:=zyu (n:=2) (by omega) hD;have hb:b < 4:=hb
   have:b=0\/b=1\/b=2\/b=3:=by omega
   rcases this with rfl | rfl | rfl | rfl
   ·refine absurd (zBC.2 ((PL.congr fun j hj=>?_).1 hP)) zDb;have hj:j < 2:=hj
    have:j=0\/j=1:=by omega
    rcases this with rfl | rfl <;> decide +kernel
   ·exact .inl (by decide +kernel)
   ·exact .inr (by decide +kernel)
   ·exact .inr (by decide +kernel)
 rw[q2.uniq hm] at q1;exact q1
theorem zDe:zAg (zCZ 200 []) (zCZ 200 []).Reports:=⟨[100,300],⟨⟨by decide,by decide⟩,⟨by decide,by decide⟩,trivial⟩,fun r hr=>by cases hr⟩
theorem zDf:zug (zCZ 200 []) [100,300]=some ([100,100,45],200,0):=by
 rw[zAw (vp3 200 (by omega)) (L:=[100,300]) ⟨⟨by decide,by decide⟩,⟨by decide,by decide⟩,trivial⟩]
 have e1:lN (zCZ 200 []).Treaties.length (zzy (zCZ 200 []).Treaties [100,300]).pays=[100,100,45]:=by decide +kernel
 have e2:(zzy (zCZ 200 []).Treaties [100,300]).soc=200:=by decide +kernel
 rw[e1,e2]
theorem zDg{r:Rg}{a b:Int}(h1:r.Lo=a)(h2:r.Hi=b):r={ Lo:=a,Hi:=b }:=by cases r; subst h1; subst h2; rfl
theorem zDh:zuq (zCZ 200 [])=some (bsN 3 (bdF (zCZ 200 []) (trL (zCZ 200 []))),0):=by
 have h:=vp3 200 (by omega);obtain⟨bs,q1,q2⟩:=zAz h zDe;rw[q1,q2.uniq (zBI h zDe).1]; rfl
theorem bd0:bdF (zCZ 200 []) (trL (zCZ 200 [])) 0={ Pays:={ Lo:=100,Hi:=105 },Keeps:={ Lo:=55,Hi:=55 } }:=by
 have e1:=zDg (r:=(bdF (zCZ 200 []) (trL (zCZ 200 [])) 0).Pays) (a:=100) (b:=105) (by decide +kernel) (by decide +kernel);have e2:=zDg (r:=(bdF (zCZ 200 []) (trL (zCZ 200 [])) 0).Keeps) (a:=55) (b:=55) (by decide +kernel) (by decide +kernel);generalize bdF (zCZ 200 []) (trL (zCZ 200 [])) 0=b at e1 e2
 cases b; simp only at e1 e2; rw[e1,e2]
theorem bd2:bdF (zCZ 200 []) (trL (zCZ 200 [])) 2={ Pays:={ Lo:=45,Hi:=50 },Keeps:={ Lo:=45,Hi:=50 } }:=by
 have e1:=zDg (r:=(bdF (zCZ 200 []) (trL (zCZ 200 [])) 2).Pays) (a:=45) (b:=50) (by decide +kernel) (by decide +kernel);have e2:=zDg (r:=(bdF (zCZ 200 []) (trL (zCZ 200 [])) 2).Keeps) (a:=45) (b:=50) (by decide +kernel) (by decide +kernel);generalize bdF (zCZ 200 []) (trL (zCZ 200 [])) 2=b at e1 e2
 cases b; simp only at e1 e2; rw[e1,e2]
theorem zDi:zur (zCZ 200 [])=some ({ Lo:=200,Hi:=215 },0):=by
 have h:=vp3 200 (by omega);obtain⟨r,q1,q2⟩:=zAA h zDe;rw[q1,q2.uniq (zBI h zDe).2,zDg (r:=wdL (fun L=>(zzy (zCZ 200 []).Treaties L).soc) (trL (zCZ 200 []))) (a:=200) (b:=215) (by decide +kernel) (by decide +kernel)]
theorem zDj:zuu (zCZ 200 []) [1]=some ({ Lo:=300,Hi:=320 },0):=by
 rw[zCE (vp3 200 (by omega)) (by unfold zr3; decide) zC8,zDg (r:=zCy (zCZ 200 []) (inD [1])) (a:=300) (b:=320) (by decide +kernel) (by decide +kernel)]
theorem zDk:zuy (zCZ 300 [])=some ([0,1],80,0):=by
 rcases zCS (vp3 300 (by omega)) with ⟨M,q1,q2⟩ | ⟨_,q2⟩
 ·rw[q1,q2.uniq zC9]; rfl
 ·exact absurd zC9.good (q2 _)
theorem zDl:zuz (zCZ 300 []) [0,1] 80=some true:=
 (zCG (vp3 300 (by omega)) (by unfold zr3; decide)).some_of ⟨zC9.good.1,by decide +kernel,zC9.good.2⟩
theorem f64{n:Int}(h:-1000000<=n/\n<=1000000):zl7 .i64 n:=fI (by omega)
theorem zDm:zuT=some true:=by
 have i0:idx (bsN 3 (bdF (zCZ 200 []) (trL (zCZ 200 [])))) 0=some { Pays:={ Lo:=100,Hi:=105 },Keeps:={ Lo:=55,Hi:=55 } }:=by
  have:=zrT (zBH (n:=3) (f:=bdF (zCZ 200 []) (trL (zCZ 200 []))) (k:=0) (by omega));rw[bd0] at this; exact this
 have i2:idx (bsN 3 (bdF (zCZ 200 []) (trL (zCZ 200 [])))) 2=some { Pays:={ Lo:=45,Hi:=50 },Keeps:={ Lo:=45,Hi:=50 } }:=by
  have:=zrT (zBH (n:=3) (f:=bdF (zCZ 200 []) (trL (zCZ 200 []))) (k:=2) (by omega));rw[bd2] at this; exact this
 have hl:((bsN 3 (bdF (zCZ 200 []) (trL (zCZ 200 [])))).length:Int)=3:=by rw[zBG]; rfl
 have s1:zuM [100,100,45] [100,100,45]=some true:=zCY (by decide);have s2:zuM [0,1] [0,1]=some true:=zCY (by decide);have s3:zuM [0] [0]=some true:=zCY (by decide);have f:∀n:Int,-1000000<=n/\n<=1000000->zl7 .i64 n:=fun n h=>f64 h;unfold zuT
 simp only[zC1,zC2,zC3,obs,zDf,zDh,zDi,zDj,zDk,zDc,zDd,s1,s2,s3,if_true,hl,i0,i2,zuP]
 rw[zqs (f 100 (by omega)),zqs (f 100 (by omega)),zqs (f 105 (by omega)),zqs (f 105 (by omega)),zqs (f 55 (by omega)),zqs (f 55 (by omega)),zqs (f 55 (by omega)),zqs (f 55 (by omega)),if_pos (by decide),zqs (f 45 (by omega)),zqs (f 45 (by omega)),zqs (f 50 (by omega)),zqs (f 50 (by omega)),zqs (f 45 (by omega)),zqs (f 45 (by omega)),zqs (f 50 (by omega)),zqs (f 50 (by omega)),if_pos (by decide),zqs (f 200 (by omega)),zqs (f 200 (by omega)),zqs (f 215 (by omega)),zqs (f 215 (by omega)),if_pos (by decide),zqs (f 300 (by omega)),zqs (f 300 (by omega)),zqs (f 320 (by omega)),zqs (f 320 (by omega)),if_pos (by decide)]
 simp only[zDl,obs,if_true]
theorem aw:((zuT).bind fun r=>some r)=some true:=by rw[zDm]; rfl
theorem zDn{p:Pg}(_:zss p):zuU p=some true:=by
 unfold zuU
 refine zCV.pick (fun ht=>?_) fun _=>by rw[if_neg (by decide),aw]
 rw[if_pos rfl];have hsh:=ht.1.sh
 simp only[zCX ht.1,zCW ht.1,obs,aw]
 by_cases hf:zyK p=0
 ·have h:=zyL.1 hf;obtain⟨M,q1,q2⟩:=zBU h;obtain⟨M',q3,q4⟩:=zB3 h;have:=q2.uniq q4;subst this;have hl:=zx3 q2.inc;have h4:=h.r5
  simp only[q1,q3,zBy h,obs,hf,if_true,zCY (l:=M) (by omega)]
  rcases zBY h with ⟨j,a1,a2,a3,a4⟩ | ⟨a1,a2⟩ <;> rcases zB4 h with ⟨j',b1,b2,b3,b4⟩ | ⟨b1,b2⟩
  ·have:=zB5 a2 a3 b2 b3;subst this
   simp[a4,b4]
  ·exact absurd (b1 j a1) a2
  ·exact absurd (a1 j' b1) b2
  ·simp[a2,b2]
 ·simp[zBZ hsh hf,zBV hsh hf,hf]
end
end Go.Proofs.YtkcmdghjgoaggaaGreat

namespace Go.Proofs.YtkcmdghjgoaggaaGreat
open _root_.Go.Proofs.Tryz
open Go.ChangeShapes Go.WideShapes Go.ChangeAt Go.RowKit Go.Abs
set_option maxRecDepth 100000
theorem op3:zsc prog 3 Int (zl7 .i64):=zsd (by kernel_rfl)
theorem zDo:zsc prog 55 Rg zsm:=zsk (fs:=[(3,0),(3,1)]) (by kernel_rfl) (by kernel_rfl) (zsj (α:=Int) (ok:=zl7 .i64) (k:=1) op3 (by kernel_rfl) rfl (zsj (α:=Int) (ok:=zl7 .i64) (k:=1) op3 (by kernel_rfl) rfl zsi)) (by kernel_rfl) fun m vs h=>by
 obtain⟨a0,c0,r0,m0,h0,p0,k0,s0,⟨a1,c1,r1,m1,h1,p1,k1,s1,rfl⟩⟩:=h;have p0:c0=[.int .i64 a0]:=p0; subst p0;have p1:c1=[.int .i64 a1]:=p1; subst p1;subst h1 h0;exact⟨⟨a0,a1⟩,rfl,⟨k0,k1⟩⟩
theorem zDp:zsc prog 22 (List Rg) (fun l=>l.length<=maxLen/\∀a0∈l,zsm a0):=zsf (by kernel_rfl) (by kernel_rfl) zDo
theorem zDq:zsc prog 87 Ty zso:=zsk (fs:=[(3,0),(3,1),(3,2),(3,3),(3,4),(3,5),(3,6)]) (by kernel_rfl) (by kernel_rfl) (zsj (α:=Int) (ok:=zl7 .i64) (k:=1) op3 (by kernel_rfl) rfl (zsj (α:=Int) (ok:=zl7 .i64) (k:=1) op3 (by kernel_rfl) rfl (zsj (α:=Int) (ok:=zl7 .i64) (k:=1) op3 (by kernel_rfl) rfl (zsj (α:=Int) (ok:=zl7 .i64) (k:=1) op3 (by kernel_rfl) rfl (zsj (α:=Int) (ok:=zl7 .i64) (k:=1) op3 (by kernel_rfl) rfl (zsj (α:=Int) (ok:=zl7 .i64) (k:=1) op3 (by kernel_rfl) rfl (zsj (α:=Int) (ok:=zl7 .i64) (k:=1) op3 (by kernel_rfl) rfl zsi))))))) (by kernel_rfl) fun m vs h=>by
 obtain⟨a0,c0,r0,m0,h0,p0,k0,s0,⟨a1,c1,r1,m1,h1,p1,k1,s1,⟨a2,c2,r2,m2,h2,p2,k2,s2,⟨a3,c3,r3,m3,h3,p3,k3,s3,⟨a4,c4,r4,m4,h4,p4,k4,s4,⟨a5,c5,r5,m5,h5,p5,k5,s5,⟨a6,c6,r6,m6,h6,p6,k6,s6,rfl⟩⟩⟩⟩⟩⟩⟩:=h;have p0:c0=[.int .i64 a0]:=p0; subst p0;have p1:c1=[.int .i64 a1]:=p1; subst p1;have p2:c2=[.int .i64 a2]:=p2; subst p2;have p3:c3=[.int .i64 a3]:=p3; subst p3;have p4:c4=[.int .i64 a4]:=p4; subst p4;have p5:c5=[.int .i64 a5]:=p5; subst p5;have p6:c6=[.int .i64 a6]:=p6; subst p6;subst h6 h5 h4 h3 h2 h1 h0;exact⟨⟨a0,a1,a2,a3,a4,a5,a6⟩,rfl,⟨k0,k1,k2,k3,k4,k5,k6⟩⟩
theorem zDr:zsc prog 23 (List Ty) (fun l=>l.length<=maxLen/\∀a0∈l,zso a0):=zsf (by kernel_rfl) (by kernel_rfl) zDq
theorem zDs:zsc prog 96 Rpt zsq:=zsk (fs:=[(3,0),(55,1)]) (by kernel_rfl) (by kernel_rfl) (zsj (α:=Int) (ok:=zl7 .i64) (k:=1) op3 (by kernel_rfl) rfl (zsj (α:=Rg) (ok:=zsm) (k:=2) zDo (by kernel_rfl) rfl zsi)) (by kernel_rfl) fun m vs h=>by
 obtain⟨a0,c0,r0,m0,h0,p0,k0,s0,⟨a1,c1,r1,m1,h1,p1,k1,s1,rfl⟩⟩:=h;have p0:c0=[.int .i64 a0]:=p0; subst p0;have p1:c1=[.int .i64 a1.Lo,.int .i64 a1.Hi]:=p1; subst p1;subst h1 h0;exact⟨⟨a0,a1⟩,rfl,⟨k0,k1⟩⟩
theorem zDt:zsc prog 24 (List Rpt) (fun l=>l.length<=maxLen/\∀a0∈l,zsq a0):=zsf (by kernel_rfl) (by kernel_rfl) zDs
theorem zDu:zsc prog 26 Pg zss:=zsk (fs:=[(22,0),(3,1),(23,2),(24,3)]) (by kernel_rfl) (by kernel_rfl) (zsj (α:=List Rg) (ok:=(fun l=>l.length<=maxLen/\∀a0∈l,zsm a0)) (k:=1) zDp (by kernel_rfl) rfl (zsj (α:=Int) (ok:=zl7 .i64) (k:=1) op3 (by kernel_rfl) rfl (zsj (α:=List Ty) (ok:=(fun l=>l.length<=maxLen/\∀a0∈l,zso a0)) (k:=1) zDr (by kernel_rfl) rfl (zsj (α:=List Rpt) (ok:=(fun l=>l.length<=maxLen/\∀a0∈l,zsq a0)) (k:=1) zDt (by kernel_rfl) rfl zsi)))) (by kernel_rfl) fun m vs h=>by
 obtain⟨a0,c0,r0,m0,h0,p0,k0,s0,⟨a1,c1,r1,m1,h1,p1,k1,s1,⟨a2,c2,r2,m2,h2,p2,k2,s2,⟨a3,c3,r3,m3,h3,p3,k3,s3,rfl⟩⟩⟩⟩:=h;obtain⟨d0,rfl,p0⟩:=p0;have p1:c1=[.int .i64 a1]:=p1; subst p1;obtain⟨d2,rfl,p2⟩:=p2;obtain⟨d3,rfl,p3⟩:=p3;subst h3 h2 h1 h0;exact⟨⟨a0,a1,a2,a3⟩,⟨_,_,_,rfl,p0,p2,p3⟩,⟨k0,k1,k2,k3⟩⟩
theorem zDv:laidOutB prog=true:=by kernel_rfl
theorem zDw:ownKnob prog.godebug=none:=by kernel_rfl
theorem zDx(os:Os)(started:os.Started)(H:Type)(enc:TypeId × Value->H) :
    ReturnsInHanded {} Tryz.checked os 7 .any (Rows.treatyLeavesSpec.pre6 enc Tryz.prog Tryz.f7 Rows.treatyLeavesRow.domain false) (Rows.treatyLeavesSpec.post enc Tryz.prog Tryz.f7 false true false false):=by
  refine returnsInHanded_of_change (C:=Tryz.checked) zDw started (by kernel_rfl) Tryz.func7
    (ChangeSpec.witness6 (enc:=enc) (C:=Tryz.checked) false ⟨#[],#[.agg #[.slice none 0 0,.int .i64 0,.slice none 0 0,.slice none 0 0]],[]⟩ 8 (by kernel_rfl) (by kernel_rfl) (by kernel_rfl) (by kernel_rfl)) ?_
  intro W base args ds gs before hval0 hW hcnd _;have hval:∀(j:Nat) t v,Tryz.f7.params[j]? = some t->args[j]? = some v->Value.okWide Tryz.prog W .any base t v:=hval0;have hW':=hW;obtain⟨p,q,hA0,hV,rfl,hfz,hnd⟩:=hW;have hA:DataW.TrodAll enc Tryz.prog W 0 (fun _=>true) true Tryz.f7.params.toList args.toList ds p:=hA0;rw[Tryz.params7] at hA hval;obtain⟨v0,d0,rfl,rfl,h0⟩:=trodAll_one hA;obtain⟨rfl,rfl⟩:=trodVars_none hV
  have hlt:∀x∈p,x.block < W.heap.size:=fun x hx=>by simpa using hW'.lt x (by simpa using hx)
  obtain⟨fu0,hf0⟩:=id h0
  clear hA0 hval0
  obtain⟨e0,m0,w0,a_0,le0,sv0,lay0,cr0,zwV,ok0⟩:=zDu H enc W true _ _ _ hf0 _ _ (Lay.nil W);obtain⟨c0_0,c0_2,c0_3,rfl,g0_0,g0_2,g0_3⟩:=zwV
  obtain⟨cs0,hv0,cl0⟩:∃cs,v0=.agg cs/\v0.cells.toList=cs.toList:=by
    have hl:=cr0.length
    cases v0 with
    | agg cs=>exact⟨cs,rfl,rfl⟩
    | _=>exact absurd hl (by simp[Value.cells])
  subst hv0;have hargs:zeq (VR e0) [.agg 4 [c0_0,.int .i64 a_0.Reserve,c0_2,c0_3]] [.agg cs0]:=.cons ⟨cs0,rfl,cr0,rfl⟩ .nil;refine(callsIn_wide.1 (zqD fits htab (zx1 (p:=a_0) lay0.pre g0_0 g0_2 g0_3 (zDn ok0) (Q:=fun v _=>v=.c (.bool true)) fun _ _=>rfl) lay0.hr (args':=#[.agg cs0]) hargs 0)).mono fun en W' hp=>?_;obtain⟨v,v',e',m',rfl,hst,hvr,rfl⟩:=hp;have hv':v'=.bool true:=hvr;subst hv';have hbelow:=lay0.below hst
  refine⟨_,rfl,[d0],[],p,[],p,[],by simpa using hW',trodAll_mk1 (shut_bool Tryz.underlying4 _),
    trodAll_mk1 (Below.trod zDv (by kernel_rfl) (of_decide_eq_true (by kernel_rfl)) h0 hbelow fun x hx=>hlt x (by simp[hx])),rfl,lay0.kept hst _,fun hc=>by cases hc⟩
theorem TreatyLeaves_holds:Rows.TreatyLeavesSaid:=
 OpenClaim.holds_of_wide 7 Tryz.f7 rfl rfl rfl rfl rfl rfl rfl ⟨rfl,rfl,rfl,rfl,rfl⟩ rfl rfl rfl rfl rfl (by kernel_rfl) Tryz.func7 (by kernel_rfl)
  (of_decide_eq_true (by kernel_rfl)) (by unfold Func.isWrapper; first | (rw[if_pos (by decide +kernel)]; kernel_rfl) | (rw[if_neg (by decide +kernel)]; exact⟨rfl,rfl⟩))
  (fun os started H enc _=>zDx os started H enc)
end Go.Proofs.YtkcmdghjgoaggaaGreat

