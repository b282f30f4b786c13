/- TreatyKept, for all that it can be called with, returns true. Condition: none. -/
import Derived.Test.YtkcmdghjgoaggaaGreatTbI
import GoSem.Step
import GoSem.ClaimKeys
import Derived.DeepKeys2
import Derived.RangeFuncLeaves
import Derived.OrdersIn
import Derived.Laws.World
import Derived.Laws.Sem
import Derived.RangeFuncRecord
import Derived.Laws.CopyRow
import Derived.Laws.Append
import Derived.Laws.Rows
import Derived.Laws.Slices
import Derived.Laws.Entries
import Derived.ChangeKeysEq
import Derived.IntWalk
import Derived.DeepKeys
import Derived.DeepKeys3
import Derived.Laws.StructEq
import Derived.MapKept
import Derived.Laws.AppendOwn
import Derived.ChangeArms
import Derived.ChangeOld
import Derived.Carry
import Derived.ChangeShapes
import Derived.KernelRfl
import Derived.ProofKit
import Derived.Test.YtkcmdghjgoaggaaGreatRows

namespace Go.Proofs.YtkcmdghjgoaggaaGreat
open _root_.Go.Proofs.Tryz
open Go.Abs
set_option maxRecDepth 100000
noncomputable section
theorem zAp{n:Nat}(h:n<=5)(f:Nat->Int){k:Nat}(hk:k < n):idx (lN n f) (k:Int)=some (f k):=zrT (zAh h f hk)
theorem zAq{n:Nat}(h:n<=5)(f:Nat->Int){i:Int}(h0:0<=i)(hk:i < n):idx (lN n f) i=some (f i.toNat):=by
 have:=zAp h f (k:=i.toNat) (by omega)
 rwa [show((i.toNat:Nat):Int)=i by omega] at this
theorem zAr{n:Nat}(h:n<=5){l:List Int}{f:Nat->Int}(hl:l.length=n)(ha:∀k,k < n->l[k]? = some (f k)):l=lN n f:=by
 refine List.ext_getElem? fun k=>?_
 by_cases hk:k < n
 ·rw[ha k hk,zAh h f hk]
 ·rw[List.getElem?_eq_none (by omega),List.getElem?_eq_none (by rw[zAg h]; omega)]
theorem zAs{n:Nat}(h:n<=5)(f:Nat->Int){k:Nat}(hk:k < n)(a:Int):(lN n f).set k a=lN n (upF f k a):=by
 refine zAr h (by rw[List.length_set,zAg h]) fun j hj=>?_
 by_cases hjk:j=k
 ·subst hjk; rw[List.getElem?_set_self (by rw[zAg h]; exact hj),zym]
 ·rw[List.getElem?_set_ne (Ne.symm hjk),zAh h f hj,zyn _ _ hjk]
theorem zAt{n:Nat}(h:n<=5):List.replicate n (0:Int)=lN n fun _=>0:=zAr h (List.length_replicate ..) fun k hk=>by rw[List.getElem?_replicate,if_pos hk]
theorem zAu{n:Nat}(h:n<=5){f g:Nat->Int}(hfg:∀k,k < n->f k=g k):lN n f=lN n g:=zAr h (zAg h f) fun k hk=>by rw[zAh h f hk,hfg k hk]
def a1(ts:List Ty)(th:Nat->Bool)(P:Nat->Int)(x:Int):Nat->(Nat->Int) × Int
 | 0=>(fun _=>0,x)
 | k+1=>match ts[k]? with
  | some t=>if t.Of < 0/\th k=true then (upF (a1 ts th P x k).1 k (zy4 t (a1 ts th P x k).2 (P k)),(a1 ts th P x k).2 - zy4 t (a1 ts th P x k).2 (P k)) else a1 ts th P x k
  | none=>a1 ts th P x k
theorem zAv{ts:List Ty}{th:Nat->Bool}{P:Nat->Int}{x:Int}{k:Nat}{t:Ty}(h:ts[k]? = some t):a1 ts th P x (k+1)=if t.Of < 0/\th k=true then (upF (a1 ts th P x k).1 k (zy4 t (a1 ts th P x k).2 (P k)),(a1 ts th P x k).2 - zy4 t (a1 ts th P x k).2 (P k)) else a1 ts th P x k:=by
 show(match ts[k]? with | some t=>_ | none=>_)=_
 rw[h]
def a2(ts:List Ty)(P:Nat->Int)(now:Nat->Int):Nat->(Nat->Int) × (Nat->Int)
 | 0=>(now,now)
 | k+1=>match ts[k]? with
  | some t=>if 0<=t.Of then (upF (a2 ts P now k).1 k (zy4 t ((a2 ts P now k).2 t.Of.toNat) (P k)),upF (upF (a2 ts P now k).2 k (zy4 t ((a2 ts P now k).2 t.Of.toNat) (P k))) t.Of.toNat ((a2 ts P now k).2 t.Of.toNat - zy4 t ((a2 ts P now k).2 t.Of.toNat) (P k))) else a2 ts P now k
  | none=>a2 ts P now k
theorem zAw{ts:List Ty}{P now:Nat->Int}{k:Nat}{t:Ty}(h:ts[k]? = some t):a2 ts P now (k+1)=if 0<=t.Of then (upF (a2 ts P now k).1 k (zy4 t ((a2 ts P now k).2 t.Of.toNat) (P k)),upF (upF (a2 ts P now k).2 k (zy4 t ((a2 ts P now k).2 t.Of.toNat) (P k))) t.Of.toNat ((a2 ts P now k).2 t.Of.toNat - zy4 t ((a2 ts P now k).2 t.Of.toNat) (P k))) else a2 ts P now k:=by
 show(match ts[k]? with | some t=>_ | none=>_)=_
 rw[h]
structure I1 (ts:List Ty) (P:Nat->Int) (x:Int) (s:(Nat->Int) × Int):Prop where
 left:0<=s.2/\s.2<=x
 now:∀j,0<=s.1 j/\s.1 j<=x
 cap:zzd ts fun j=>P j+s.1 j
theorem zAx{ts:List Ty}{th:Nat->Bool}(hts:zze ts){P:Nat->Int}(hP:zzd ts P){x:Int}(hx:0<=x/\x<=100000):∀k,k<=ts.length->I1 ts P x (a1 ts th P x k)
 | 0,_=>⟨⟨hx.1,Int.le_refl _⟩,fun _=>⟨Int.le_refl _,hx.1⟩,fun j t ht h1=>by have:=hP j t ht h1; show P j+0<=_; omega⟩
 | k+1,hk=>by
  have ih:=zAx (th:=th) hts hP hx k (by omega);have hg:=List.getElem?_eq_getElem (show k < ts.length by omega);have hkd:=hts.k _ (List.getElem_mem (show k < ts.length by omega));rw[zAv hg];generalize a1 ts th P x k=s at ih ⊢;generalize ts[k]'(by omega)=t at hg hkd
  by_cases hc:t.Of < 0/\th k=true
  ·rw[if_pos hc];have hl:=ih.left;have hb:=zy7 hkd (a:=s.2) (b:=P k) (by omega) (hP k t hg);refine⟨by show 0<=s.2 - _/\s.2 - _<=x; omega,fun j=>?_,fun j t' ht' h'=>?_⟩
   ·show 0<=upF s.1 k _ j/\upF s.1 k _ j<=x
    by_cases hjk:j=k
    ·subst hjk; rw[zym]; omega
    ·rw[zyn _ _ hjk]; exact ih.now j
   ·show P j+upF s.1 k _ j<=_
    by_cases hjk:j=k
    ·subst hjk; rw[hg] at ht'; cases ht'; rw[zym]; exact hb.2.2 h'
    ·rw[zyn _ _ hjk]; exact ih.cap j t' ht' h'
  ·rw[if_neg hc]; exact ih
structure I2 (ts:List Ty) (P:Nat->Int) (x:Int) (s:(Nat->Int) × (Nat->Int)):Prop where
 now:∀j,0<=s.1 j/\s.1 j<=x
 rest:∀j,0<=s.2 j/\s.2 j<=x
 cap:zzd ts fun j=>P j+s.1 j
theorem zAy{ts:List Ty}(hts:zze ts){P now:Nat->Int}(hP:zzd ts P){x:Int}(hx:0<=x/\x<=100000)(hn:∀j,0<=now j/\now j<=x)(hc:zzd ts fun j=>P j+now j):∀k,k<=ts.length->I2 ts P x (a2 ts P now k)
 | 0,_=>⟨hn,hn,hc⟩
 | k+1,hk=>by
  have ih:=zAy hts hP hx hn hc k (by omega);have hg:=List.getElem?_eq_getElem (show k < ts.length by omega);have hkd:=hts.k _ (List.getElem_mem (show k < ts.length by omega));rw[zAw hg];generalize a2 ts P now k=s at ih ⊢;generalize ts[k]'(by omega)=t at hg hkd
  by_cases ho:0<=t.Of
  ·rw[if_pos ho];have hr:=ih.rest t.Of.toNat;have hb:=zy7 hkd (a:=s.2 t.Of.toNat) (b:=P k) (by omega) (hP k t hg);refine⟨fun j=>?_,fun j=>?_,fun j t' ht' h'=>?_⟩
   ·show 0<=upF s.1 k _ j/\upF s.1 k _ j<=x
    by_cases hjk:j=k
    ·subst hjk; rw[zym]; omega
    ·rw[zyn _ _ hjk]; exact ih.now j
   ·show 0<=upF (upF s.2 k _) _ _ j/\upF (upF s.2 k _) _ _ j<=x
    by_cases hjo:j=t.Of.toNat
    ·subst hjo; rw[zym]; omega
    ·rw[zyn _ _ hjo]
     by_cases hjk:j=k
     ·subst hjk; rw[zym]; omega
     ·rw[zyn _ _ hjk]; exact ih.rest j
   ·show P j+upF s.1 k _ j<=_
    by_cases hjk:j=k
    ·subst hjk; rw[hg] at ht'; cases ht'; rw[zym]; exact hb.2.2 h'
    ·rw[zyn _ _ hjk]; exact ih.cap j t' ht' h'
  ·rw[if_neg ho]; exact ih
def zAz(ts:List Ty)(th:Nat->Bool)(s:(Nat->Int) × Int)(x:Int):(Nat->Int) × Int:=
 (fun j=>s.1 j+(a2 ts s.1 (a1 ts th s.1 x ts.length).1 ts.length).1 j,s.2+(a1 ts th s.1 x ts.length).2)
def zAA(ts:List Ty)(th:Nat->Bool)(L:List Int):(Nat->Int) × Int:=L.foldl (zAz ts th) (fun _=>0,0)
structure RI (ts:List Ty) (B:Int) (s:(Nat->Int) × Int):Prop where
 net:0<=s.2/\s.2<=B
 pays:∀j,0<=s.1 j/\s.1 j<=B
 cap:zzd ts s.1
theorem RI.step{ts:List Ty}{th:Nat->Bool}(hts:zze ts){B:Int}{s:(Nat->Int) × Int}(h:RI ts B s){x:Int}(hx:0<=x/\x<=100000):RI ts (B+x) (zAz ts th s x):=by
 have h1:=zAx (th:=th) hts h.cap hx ts.length (Nat.le_refl _);have h2:=zAy hts h.cap hx h1.now h1.cap ts.length (Nat.le_refl _);refine⟨?_,fun j=>?_,h2.cap⟩
 ·have:=h.net; have:=h1.left; show 0<=s.2+_/\s.2+_<=_; omega
 ·have:=h.pays j; have:=h2.now j; show 0<=s.1 j+_/\s.1 j+_<=_; omega
theorem wu{n:Nat}(h:n<=64):zmc .u64 (n:Int)=(n:Int):=wz (show(0:Int)<=n/\(n:Int) < 18446744073709551616 by omega)
theorem zAB(B k:Nat):(B:Int) / 2 ^ k % 2=((B / 2 ^ k % 2:Nat):Int):=by rw[zx2]; rfl
theorem zAC{B k:Nat}:(B:Int) / 2 ^ k % 2=1↔B.testBit k=true:=by
 rw[zAB,Nat.testBit_eq_decide_div_mod_eq,decide_eq_true_eq]; omega
section
variable {p:Pg} (h:VP p)
theorem zAD(h:VP p){x6 x7 x16:Int}{now:Nat->Int}{K:Int->Int->List Int->Option (List Int × Int)}{P:Nat->Int}(hP:∀j,0<=P j/\P j<=100000)(hn:∀j,0<=now j/\now j<=100000)(hx:0<=x7/\x7<=100000):zsK p x6 x7 x16 (lN p.Treaties.length now) K 1000000 0 (lN p.Treaties.length P)=K (x6+x16) (x7+1) (lN p.Treaties.length fun j=>P j+now j):=by
 have h5:=h.t5
 let st:Nat->List Int:=fun k=>lN p.Treaties.length fun j=>if j < k then P j+now j else P j
 have key:=zyh (n:=p.Treaties.length) (fun d (s:List Int) y=>zsK p x6 x7 x16 (lN p.Treaties.length now) K d y s) st (fin:=K (x6+x16) (x7+1) (lN p.Treaties.length fun j=>P j+now j)) (fun d k hk=>?_) (fun d=>?_) 1000000 0 (by omega) (by omega)
 ·exact key
 ·have h1:=hP k;have h2:=hn k
  show zsK p x6 x7 x16 (lN p.Treaties.length now) K (d+1) (k:Int) (lN p.Treaties.length fun j=>if j < k then P j+now j else P j)=_
  rw[zsK,if_pos (by omega),zAp h5 _ hk,obs,zAp h5 _ hk,obs,if_neg (by omega),zqs (fI (by omega)),obs,zqs (fI (by omega)),Int.toNat_natCast,zAs h5 _ hk]
  have e:(lN p.Treaties.length (upF (fun j=>if j < k then P j+now j else P j) k (P k+now k)))=st (k+1):=zAu h5 fun j hj=>by
   by_cases hjk:j=k
   ·subst hjk; rw[zym,if_pos (by omega)]
   ·rw[zyn _ _ hjk]
    by_cases h3:j < k
    ·rw[if_pos h3,if_pos (by omega)]
    ·rw[if_neg h3,if_neg (by omega)]
  rw[e]
 ·show zsK p x6 x7 x16 (lN p.Treaties.length now) K (d+1) (p.Treaties.length:Int) (lN p.Treaties.length fun j=>if j < p.Treaties.length then P j+now j else P j)=_
  rw[zsK,if_neg (by omega),zqs (fI (by omega))]
  have e:(lN p.Treaties.length fun j=>if j < p.Treaties.length then P j+now j else P j)=lN p.Treaties.length fun j=>P j+now j:=zAu h5 fun j hj=>by rw[if_pos hj]
  rw[e]
theorem zAE(h:VP p){x6 x7 x16:Int}{K:Int->Int->List Int->Option (List Int × Int)}{P now:Nat->Int}(hP:∀j,0<=P j/\P j<=100000)(hcap:zzd p.Treaties P){x:Int}(hx:0<=x/\x<=1000)(hn:∀j,0<=now j/\now j<=x)(hcn:zzd p.Treaties fun j=>P j+now j)(hx7:0<=x7/\x7<=100000) :
  zsL p x6 x7 x16 K 1000000 0 (lN p.Treaties.length P) (lN p.Treaties.length now) (lN p.Treaties.length now)=K (x6+x16) (x7+1) (lN p.Treaties.length fun j=>P j+(a2 p.Treaties P now p.Treaties.length).1 j):=by
 have h5:=h.t5;have key:=zyh (n:=p.Treaties.length) (fun d (s:(Nat->Int) × (Nat->Int)) y=>zsL p x6 x7 x16 K d y (lN p.Treaties.length P) (lN p.Treaties.length s.1) (lN p.Treaties.length s.2)) (fun k=>a2 p.Treaties P now k) (fin:=K (x6+x16) (x7+1) (lN p.Treaties.length fun j=>P j+(a2 p.Treaties P now p.Treaties.length).1 j)) (fun d k hk=>?_) (fun d=>?_) 1000000 0 (by omega) (by omega)
 ·exact key
 ·have hg:=List.getElem?_eq_getElem hk;have hkd:=h.tsOk.k _ (List.getElem_mem hk);have hof:=h.of' k _ hg;have ih:=zAy h.tsOk hcap (x:=x) (by omega) hn hcn k (by omega);rw[zAw hg];generalize a2 p.Treaties P now k=s at ih ⊢;rw[zsL,if_pos (by omega),zrT hg,obs];generalize p.Treaties[k]=t at hg hkd hof
  by_cases ho:0<=t.Of
  ·have hr:=ih.rest t.Of.toNat;have hb:=zy7 hkd (a:=s.2 t.Of.toNat) (b:=P k) (by omega) (hcap k t hg);have hPk:=hP k;have htk:=zza hkd (a:=s.2 t.Of.toNat) (b:=P k) (by omega) (by omega)
   have hne:t.Of.toNat ≠ k:=by omega
   have hoo:((t.Of.toNat:Nat):Int)=t.Of:=by omega
   rw[if_pos ho,if_pos ho,zAq h5 _ ho (by omega),obs,zAp h5 _ hk,obs,htk,obs,zAp h5 _ hk,obs,Int.toNat_natCast,zAs h5 _ hk,zAp h5 _ hk,obs,zym,zAp h5 _ hk,obs,zAs h5 _ hk,zAq h5 _ ho (by omega),obs,zyn _ _ hne,obs,zqs (fI (by omega)),obs,zqs (fI (by omega)),zAs h5 _ (show t.Of.toNat < p.Treaties.length by omega)]
  ·rw[if_neg ho,if_neg ho,zqs (fI (by omega))]
 ·have i2:=zAy h.tsOk hcap (x:=x) (by omega) hn hcn p.Treaties.length (Nat.le_refl _);rw[zsL,if_neg (by omega)];exact zAD h hP (fun j=>by have:=i2.now j; omega) hx7
theorem zAF(h:VP p){b:Nat}(hb:b < 1000000){x6 x7:Int}{K:Int->Int->List Int->Option (List Int × Int)}{P:Nat->Int}(hP:∀j,0<=P j/\P j<=100000)(hcap:zzd p.Treaties P){x:Int}(hx:0<=x/\x<=1000)(hx6:0<=x6/\x6<=100000)(hx7:0<=x7/\x7<=100000) :
  zsM p (b:Int) x6 x7 K 1000000 x 0 (lN p.Treaties.length P) (List.replicate (Int.toNat (p.Treaties.length:Int)) 0)=K (x6+(a1 p.Treaties (fun k=>b.testBit k) P x p.Treaties.length).2) (x7+1) (lN p.Treaties.length fun j=>P j+(a2 p.Treaties P (a1 p.Treaties (fun k=>b.testBit k) P x p.Treaties.length).1 p.Treaties.length).1 j):=by
 have h5:=h.t5;rw[Int.toNat_natCast,zAt h5];have key:=zyh (n:=p.Treaties.length) (fun d (s:(Nat->Int) × Int) y=>zsM p (b:Int) x6 x7 K d s.2 y (lN p.Treaties.length P) (lN p.Treaties.length s.1)) (fun k=>a1 p.Treaties (fun k=>b.testBit k) P x k) (fin:=K (x6+(a1 p.Treaties (fun k=>b.testBit k) P x p.Treaties.length).2) (x7+1) (lN p.Treaties.length fun j=>P j+(a2 p.Treaties P (a1 p.Treaties (fun k=>b.testBit k) P x p.Treaties.length).1 p.Treaties.length).1 j)) (fun d k hk=>?_) (fun d=>?_) 1000000 0 (by omega) (by omega)
 ·exact key
 ·have hg:=List.getElem?_eq_getElem hk;have hkd:=h.tsOk.k _ (List.getElem_mem hk);have hof:=h.of' k _ hg;have ih:=zAx (th:=fun k=>b.testBit k) h.tsOk hcap (x:=x) (by omega) k (by omega);rw[zAv hg];generalize a1 p.Treaties (fun k=>b.testBit k) P x k=s at ih ⊢;rw[zsM,if_pos (by omega),zrT hg,obs];generalize p.Treaties[k]=t at hg hkd hof
  by_cases ho:t.Of < 0
  ·have hdv:(0:Int)<=(b:Int) / 2 ^ k/\(b:Int) / 2 ^ k<=1000000:=by
    have hq0:=Nat.div_le_self b (2 ^ k);rw[zx2];generalize b / 2 ^ k=q at hq0
    omega
   rw[if_pos ho,zqs (by omega),wu (show k<=64 by omega),zqs (by omega),zqs (by omega),Int.toNat_natCast,zqs (fI (by omega)),zqs hdv.1,zqs (by omega),zqs (fI (by omega))]
   by_cases hbt:b.testBit k=true
   ·have hl:=ih.left;have hbd:=zy7 hkd (a:=s.2) (b:=P k) (by omega) (hcap k t hg);have hPk:=hP k;have htk:=zza hkd (a:=s.2) (b:=P k) (by omega) (by omega);rw[if_pos (zAC.2 hbt),if_pos ⟨ho,hbt⟩,zAp h5 _ hk,obs,htk,obs,zAp h5 _ hk,obs,zAs h5 _ hk,zAp h5 _ hk,obs,zym,zqs (fI (by omega)),zqs (fI (by omega))]
   ·rw[if_neg fun hc=>hbt (zAC.1 hc),if_neg fun hc=>hbt hc.2,zqs (fI (by omega))]
  ·rw[if_neg ho,if_neg fun hc=>ho hc.1,zqs (fI (by omega))]
 ·have i1:=zAx (th:=fun k=>b.testBit k) h.tsOk hcap (x:=x) (by omega) p.Treaties.length (Nat.le_refl _);have hl:=i1.left;rw[zsM,if_neg (by omega),zqs (fI (by omega)),zqs (by rw[zAg h5]; simp only[List.length_nil]; omega),List.nil_append];exact zAE h hP hcap hx i1.now i1.cap hx7
theorem zAG(h:VP p){b:Nat}(hb:b < 1000000){L:List Int}(hL:∀x∈L,0<=x/\x<=1000)(hl:L.length<=9):∀(d k:Nat) (s:(Nat->Int) × Int),k<=L.length->L.length - k < d->RI p.Treaties (1000 * k) s ->
  zsN p L (b:Int) d s.2 (k:Int) (lN p.Treaties.length s.1)=some (lN p.Treaties.length ((L.drop k).foldl (zAz p.Treaties fun k=>b.testBit k) s).1,((L.drop k).foldl (zAz p.Treaties fun k=>b.testBit k) s).2)
 | 0,_,_,_,hd,_=>by omega
 | d+1,k,s,hk,hd,hs=>by
  have h5:=h.t5;rw[zsN]
  by_cases hkl:k < L.length
  ·have hg:=List.getElem?_eq_getElem hkl;have hx:=hL _ (List.getElem_mem hkl);have hn:=hs.net;rw[if_pos (by omega),zrT hg,obs,zqs (by omega),zAF h hb (fun j=>by have:=hs.pays j; omega) hs.cap hx (by omega) (by omega),show(k:Int)+1=((k+1:Nat):Int) by omega,List.drop_eq_getElem_cons hkl];have hs':=hs.step (th:=fun k=>b.testBit k) h.tsOk (x:=L[k]) (by omega);exact zAG h hb hL hl d (k+1) (zAz p.Treaties (fun k=>b.testBit k) s L[k]) (by omega) (by omega) ⟨by have:=hs'.net; omega,fun j=>by have:=hs'.pays j; omega,hs'.cap⟩
  ·rw[if_neg (by omega),List.drop_eq_nil_of_le (by omega)]
   rfl
theorem zAH(h:VP p){b:Nat}(hb:b < 1000000){L:List Int}(hL:∀x∈L,0<=x/\x<=1000)(hl:L.length<=9):zsO p L (b:Int)=some (lN p.Treaties.length (zAA p.Treaties (fun k=>b.testBit k) L).1,(zAA p.Treaties (fun k=>b.testBit k) L).2):=by
 have h5:=h.t5;unfold zsO;rw[zqs (by omega),Int.toNat_natCast,zAt h5];exact zAG h hb hL hl (L.length+1) 0 (fun _=>0,0) (Nat.zero_le _) (by omega) ⟨⟨Int.le_refl _,Int.le_refl _⟩,fun _=>⟨Int.le_refl _,Int.le_refl _⟩,zzl h.tsOk⟩
end
def ofB(ts:List Ty)(j:Nat):Bool:=match ts[j]? with | some t=>decide (t.Of < 0) | none=>false
theorem zAI{ts:List Ty}{j:Nat}{t:Ty}(h:ts[j]? = some t):ofB ts j=decide (t.Of < 0):=by unfold ofB; rw[h]
theorem zAJ{ts:List Ty}{P:Nat->Int}{x:Int}{j:Nat}:∀{k i:Nat},j < k->k<=i->(dN ts P x i).pays j=(dN ts P x k).pays j:=fun {k i} hj hk=>by
 obtain⟨e,rfl⟩:∃e,i=k+e:=⟨i - k,by omega⟩
 clear hk
 induction e with
 | zero=>rfl
 | succ e ih=>
  rw[<- ih]
  show(match ts[k+e]? with | some t=>zzb t (k+e) P (dN ts P x (k+e)) | none=>dN ts P x (k+e)).pays j=_
  cases ts[k+e]? with
  | none=>rfl
  | some t=>
   show(zzb t (k+e) P (dN ts P x (k+e))).pays j=_
   unfold zzb
   split
   ·exact zyn _ _ (by omega)
   ·exact zyn _ _ (by omega)
theorem zAK{ts:List Ty}(hts:zze ts){th:Nat->Bool}(hth:∀j,j < ts.length->th j=true){P:Nat->Int}{x:Int}:∀k,k<=ts.length->(a1 ts th P x k).2=(dN ts P x k).soc/\∀j,(a1 ts th P x k).1 j=if j < k/\ofB ts j=true then (dN ts P x k).pays j else 0
 | 0,_=>⟨rfl,fun j=>by rw[if_neg (by omega)]; rfl⟩
 | k+1,hk=>by
  obtain⟨i1,i2⟩:=zAK hts hth (P:=P) (x:=x) k (by omega);have hg:=List.getElem?_eq_getElem (show k < ts.length by omega);have hof:=hts.o k _ hg;rw[zAv hg,zzc hg];have hfk:=zAI hg;generalize ts[k]'(by omega)=t at hg hof hfk;unfold zzb
  by_cases ho:t.Of < 0
  ·rw[if_pos ⟨ho,hth k (by omega)⟩,if_pos (show t.Of = -1 by omega),i1];refine⟨rfl,fun j=>?_⟩
   show upF (a1 ts th P x k).1 k _ j=if _ then upF (dN ts P x k).pays k _ j else 0
   by_cases hjk:j=k
   ·subst hjk; rw[zym,zym,if_pos ⟨by omega,by rw[hfk]; exact decide_eq_true ho⟩]
   ·rw[zyn _ _ hjk,zyn _ _ hjk,i2]
    by_cases hj:j < k/\ofB ts j=true
    ·rw[if_pos hj,if_pos ⟨by omega,hj.2⟩]
    ·rw[if_neg hj,if_neg fun h=>hj ⟨by omega,h.2⟩]
  ·rw[if_neg fun h=>ho h.1,if_neg (show ¬ t.Of = -1 by omega)];refine⟨i1,fun j=>?_⟩
   show(a1 ts th P x k).1 j=if _ then upF (dN ts P x k).pays k _ j else 0
   by_cases hjk:j=k
   ·subst hjk;rw[i2,if_neg (by omega),if_neg fun h=>ho (by rw[hfk] at h; exact of_decide_eq_true h.2)]
   ·rw[zyn _ _ hjk,i2]
    by_cases hj:j < k/\ofB ts j=true
    ·rw[if_pos hj,if_pos ⟨by omega,hj.2⟩]
    ·rw[if_neg hj,if_neg fun h=>hj ⟨by omega,h.2⟩]
theorem zAL{ts:List Ty}(hts:zze ts){P now:Nat->Int}{x:Int}(hn:∀j,now j=if j < ts.length/\ofB ts j=true then (dN ts P x ts.length).pays j else 0):∀k,k<=ts.length->(∀j,(a2 ts P now k).1 j=if j < k then (dN ts P x k).pays j else now j)/\∀j,(a2 ts P now k).2 j=if j < k then (dN ts P x k).keeps j else now j
 | 0,_=>⟨fun j=>by rw[if_neg (by omega)]; rfl,fun j=>by rw[if_neg (by omega)]; rfl⟩
 | k+1,hk=>by
  obtain⟨i1,i2⟩:=zAL hts hn k (by omega);have hg:=List.getElem?_eq_getElem (show k < ts.length by omega);have hof:=hts.o k _ hg;have hst:(dN ts P x ts.length).pays k=(dN ts P x (k+1)).pays k:=zAJ (by omega) (by omega);rw[zzc hg] at hst;rw[zAw hg,zzc hg];have hfk:=zAI hg;have hnk:=hn k;generalize ts[k]'(by omega)=t at hg hof hfk hst
  by_cases ho:0<=t.Of
  ·have hne:t.Of.toNat ≠ k:=by omega
   have hlt:t.Of.toNat < k:=by omega
   have er:(a2 ts P now k).2 t.Of.toNat=(dN ts P x k).keeps t.Of.toNat:=by rw[i2,if_pos hlt]
   unfold zzb;rw[if_pos ho,if_neg (show ¬ t.Of = -1 by omega),er];refine⟨fun j=>?_,fun j=>?_⟩
   ·show upF (a2 ts P now k).1 k _ j=if j < k+1 then upF (dN ts P x k).pays k _ j else now j
    by_cases hjk:j=k
    ·subst hjk; rw[zym,zym,if_pos (by omega)]
    ·rw[zyn _ _ hjk,zyn _ _ hjk,i1]
     by_cases hj:j < k
     ·rw[if_pos hj,if_pos (by omega)]
     ·rw[if_neg hj,if_neg (by omega)]
   ·show upF (upF (a2 ts P now k).2 k _) _ _ j=if j < k+1 then upF (upF (dN ts P x k).keeps _ _) k _ j else now j
    by_cases hjk:j=k
    ·subst hjk; rw[zyn _ _ (Ne.symm hne),zym,zym,if_pos (by omega)]
    ·rw[zyn _ (zy4 t _ _) hjk]
     by_cases hjo:j=t.Of.toNat
     ·subst hjo; rw[zym,zym,if_pos (by omega)]
     ·rw[zyn _ _ hjo,zyn _ _ hjo,zyn _ _ hjk,i2]
      by_cases hj:j < k
      ·rw[if_pos hj,if_pos (by omega)]
      ·rw[if_neg hj,if_neg (by omega)]
  ·rw[if_neg ho]
   have hfk':ofB ts k=true:=by rw[hfk]; exact decide_eq_true (by omega)
   rw[if_pos ⟨by omega,hfk'⟩,hst] at hnk;unfold zzb at hnk ⊢;rw[if_pos (show t.Of = -1 by omega)] at hnk ⊢;have hnk:now k=upF (dN ts P x k).pays k (zy4 t (dN ts P x k).soc (P k)) k:=hnk;rw[zym] at hnk;refine⟨fun j=>?_,fun j=>?_⟩
   ·show(a2 ts P now k).1 j=if j < k+1 then upF (dN ts P x k).pays k _ j else now j
    by_cases hjk:j=k
    ·subst hjk; rw[zym,if_pos (by omega),i1,if_neg (by omega)]; exact hnk
    ·rw[zyn _ _ hjk,i1]
     by_cases hj:j < k
     ·rw[if_pos hj,if_pos (by omega)]
     ·rw[if_neg hj,if_neg (by omega)]
   ·show(a2 ts P now k).2 j=if j < k+1 then upF (dN ts P x k).keeps k _ j else now j
    by_cases hjk:j=k
    ·subst hjk; rw[zym,if_pos (by omega),i2,if_neg (by omega)]; exact hnk
    ·rw[zyn _ _ hjk,i2]
     by_cases hj:j < k
     ·rw[if_pos hj,if_pos (by omega)]
     ·rw[if_neg hj,if_neg (by omega)]
theorem zAM{ts:List Ty}(hts:zze ts){th:Nat->Bool}(hth:∀j,j < ts.length->th j=true):∀(L:List Int) (s:(Nat->Int) × Int) (o:DS),(∀j,s.1 j=o.pays j)->s.2=o.soc->(∀j,ts.length<=j->o.pays j=0) ->
  (∀j,(L.foldl (zAz ts th) s).1 j=(L.foldl (zzj ts) o).pays j)/\(L.foldl (zAz ts th) s).2=(L.foldl (zzj ts) o).soc
 | [],s,o,h1,h2,_=>⟨h1,h2⟩
 | x::L,s,o,h1,h2,h3=>by
  have hs1:s.1=o.pays:=funext h1;obtain⟨c1,c2⟩:=zAK hts hth (P:=o.pays) (x:=x) ts.length (Nat.le_refl _);obtain⟨c3,_⟩:=zAL hts (P:=o.pays) (x:=x) c2 ts.length (Nat.le_refl _)
  have hz:∀(k j:Nat),k<=ts.length->k<=j->(dN ts o.pays x k).pays j=0:=fun k=>by
   induction k with
   | zero=>intro j _ _; rfl
   | succ k ih=>
    intro j hk hj;have hg:=List.getElem?_eq_getElem (show k < ts.length by omega);rw[zzc hg];unfold zzb
    split
    ·show upF _ k _ j=0; rw[zyn _ _ (by omega)]; exact ih j (by omega) (by omega)
    ·show upF _ k _ j=0; rw[zyn _ _ (by omega)]; exact ih j (by omega) (by omega)
  have e1:∀j,(zAz ts th s x).1 j=(zzj ts o x).pays j:=fun j=>by
   show s.1 j+(a2 ts s.1 (a1 ts th s.1 x ts.length).1 ts.length).1 j=o.pays j+(dN ts o.pays x ts.length).pays j
   rw[hs1,c3]
   by_cases hj:j < ts.length
   ·rw[if_pos hj]
   ·rw[if_neg hj,c2,if_neg fun h=>hj h.1,hz ts.length j (Nat.le_refl _) (by omega)]
  refine zAM hts hth L (zAz ts th s x) (zzj ts o x) e1 ?_ fun j hj=>?_
  ·show s.2+(a1 ts th s.1 x ts.length).2=o.soc+(dN ts o.pays x ts.length).soc
   rw[hs1,c1,h2]
  ·show o.pays j+(dN ts o.pays x ts.length).pays j=0
   rw[h3 j hj,hz ts.length j (Nat.le_refl _) hj]; rfl
theorem zAN{ts:List Ty}(hts:zze ts){th:Nat->Bool}(hth:∀j,j < ts.length->th j=true)(L:List Int):(∀j,(zAA ts th L).1 j=(zzk ts L).pays j)/\(zAA ts th L).2=(zzk ts L).soc:=
 zAM hts hth L _ _ (fun _=>rfl) rfl fun _ _=>rfl
end
end Go.Proofs.YtkcmdghjgoaggaaGreat

namespace Go.Proofs.YtkcmdghjgoaggaaGreat
open _root_.Go.Proofs.Tryz
open Go.Abs
set_option maxRecDepth 100000
noncomputable section
theorem zAO{a b:List Int}(hl:a.length<=1000):∀(d k:Nat),k<=a.length->a.length - k < d->zsX a b d (k:Int)=some (bef (a.drop k) (b.drop k))
 | 0,_,_,h=>by omega
 | d+1,k,hk,h=>by
  rw[zsX]
  by_cases hka:k < a.length
  ·rw[if_pos (by omega)];have da:=List.drop_eq_getElem_cons hka;have ga:=List.getElem?_eq_getElem hka
   by_cases hkb:k < b.length
   ·have db:=List.drop_eq_getElem_cons hkb;have gb:=List.getElem?_eq_getElem hkb;rw[if_pos (by omega),zrT ga,obs,zrT gb,obs,da,db];unfold bef
    by_cases he:a[k]=b[k]
    ·rw[if_pos he,if_pos he,zqs (fI (by omega)),show(k:Int)+1=((k+1:Nat):Int) by omega];exact zAO hl d (k+1) (by omega) (by omega)
    ·rw[if_neg he,if_neg he,obs,obs]
   ·rw[if_neg (by omega),da,List.drop_eq_nil_of_le (show b.length<=k by omega),decide_eq_false (by omega)]; rfl
  ·rw[if_neg (by omega),List.drop_eq_nil_of_le (show a.length<=k by omega)]
   by_cases hkb:k < b.length
   ·rw[List.drop_eq_getElem_cons hkb,decide_eq_true (by omega)]; rfl
   ·rw[List.drop_eq_nil_of_le (show b.length<=k by omega),decide_eq_false (by omega)]; rfl
def zAP(n:Nat):List Int:=(List.range n).map fun j=>((j:Nat):Int)
theorem zAQ(n:Nat):Inc n 0 (zAP n):=by
 refine⟨?_,fun v hv=>?_⟩
 ·unfold zAP;rw[List.pairwise_map]
  exact List.pairwise_lt_range.imp fun h=>by omega
 ·obtain⟨j,hj,rfl⟩:=List.mem_map.1 hv;have:=List.mem_range.1 hj
  omega
theorem zAR{n j:Nat}(h:j < n):inD (zAP n) j=true:=decide_eq_true (List.mem_map.2 ⟨j,List.mem_range.2 h,rfl⟩)
structure zAS (n:Nat) (P:(Nat->Bool)->Prop) (M:List Int):Prop where
 inc:Inc n 0 M
 ok:P (inD M)
 min:∀D,Inc n 0 D->P (inD D)->D=M\/shB M D=true
theorem zAS.uniq{n:Nat}{P:(Nat->Bool)->Prop}{M M':List Int}(h:zAS n P M)(h':zAS n P M'):M=M':=by
 rcases h.min M' h'.inc h'.ok with h1 | h1
 ·exact h1.symm
 ·rcases h'.min M h.inc h.ok with h2 | h2
  ·exact h2
  ·rw[zx5 h1] at h2; cases h2
def macc(S:Nat->Bool):Nat->Nat
 | 0=>0
 | i+1=>if S i=true then macc S i ||| 2 ^ i else macc S i
theorem zAT(S:Nat->Bool)(j:Nat):∀i,(macc S i).testBit j=(decide (j < i) && S j)
 | 0=>by simp[macc]
 | i+1=>by
  have ih:=zAT S j i;unfold macc
  by_cases hs:S i=true
  ·rw[if_pos hs,Nat.testBit_or,ih,Nat.testBit_two_pow]
   by_cases h:i=j
   ·subst h; simp[hs]
   ·have:decide (j < i+1)=decide (j < i):=decide_eq_decide.2 (by omega);rw[this]; simp[h]
  ·rw[if_neg hs,ih]
   by_cases h:i=j
   ·subst h
    have:S i=false:=by simpa using hs
    rw[this]; simp
   ·have:decide (j < i+1)=decide (j < i):=decide_eq_decide.2 (by omega);rw[this]
theorem zAU{i:Nat}(h:i<=6):2 ^ i<=64:=Nat.pow_le_pow_right (n:=2) (by omega) h
def zAV:List Rg->Int->List Int
 | [],_=>[]
 | r::rs,n=>(r.Lo+n % (r.Hi - r.Lo+1))::zAV rs (n / (r.Hi - r.Lo+1))
theorem zAW:∀{rs:List Rg} {n:Int},(∀r∈rs,r.Lo<=r.Hi)->0<=n->inL rs (zAV rs n)
 | [],_,_,_=>trivial
 | r::rs,n,h,h0=>by
  have hr:=h r (List.mem_cons_self ..);have h1:=Int.emod_nonneg n (show r.Hi - r.Lo+1 ≠ 0 by omega);have h2:=Int.emod_lt_of_pos n (show 0 < r.Hi - r.Lo+1 by omega);exact⟨⟨by omega,by omega⟩,zAW (fun r hr=>h r (List.mem_cons_of_mem _ hr)) (Int.ediv_nonneg h0 (by omega))⟩
theorem zAX:∀{rs:List Rg} {L:List Int},inL rs L->∃n,0<=n/\n < zyv rs/\zAV rs n=L
 | [],[],_=>⟨0,Int.le_refl _,by show(0:Int) < 1; omega,rfl⟩
 | [],_::_,h=>h.elim
 | _::_,[],h=>h.elim
 | r::rs,x::xs,h=>by
  obtain⟨n,h0,h1,h2⟩:=zAX h.2;have hx:=h.1;obtain⟨c,hc⟩:∃c,c=r.Hi - r.Lo+1:=⟨_,rfl⟩;refine⟨(x - r.Lo)+c * n,?_,?_,?_⟩
  ·have:=Int.mul_nonneg (show 0<=c by omega) h0; omega
  ·show _ < (r.Hi - r.Lo+1) * zyv rs
   rw[<- hc];have:=Int.mul_le_mul_of_nonneg_left (show n+1<=zyv rs by omega) (show 0<=c by omega);rw[Int.mul_add,Int.mul_one] at this
   omega
  ·show(r.Lo+_ % (r.Hi - r.Lo+1))::zAV rs (_ / (r.Hi - r.Lo+1))=_
   rw[<- hc,Int.add_mul_emod_self_left,Int.emod_eq_of_lt (by omega) (by omega),Int.add_mul_ediv_left _ _ (by omega),Int.ediv_eq_zero_of_lt (by omega) (by omega),Int.zero_add,h2]
   congr 1; omega
theorem zAY{p:Pg}(h:VP p):∀(d k:Nat) (acc:List Int) (n:Int),k<=p.Losses.length->p.Losses.length - k < d->acc.length=k->0<=n/\n<=100000->zsE p d acc n (k:Int)=some (acc++zAV (p.Losses.drop k) n)
 | 0,_,_,_,_,hd,_,_=>by omega
 | d+1,k,acc,n,hk,hd,ha,hn=>by
  have h4:=h.l4;rw[zsE]
  by_cases hkl:k < p.Losses.length
  ·have hg:=List.getElem?_eq_getElem hkl;have hr:=h.ls _ (List.getElem_mem hkl);rw[List.drop_eq_getElem_cons hkl];generalize p.Losses[k]=r at hg hr;have hr':=hr;unfold RgV at hr';have h1:=Int.emod_nonneg n (show r.Hi - r.Lo+1 ≠ 0 by omega);have h2:=Int.emod_lt_of_pos n (show 0 < r.Hi - r.Lo+1 by omega);have h3:=Int.ediv_nonneg hn.1 (show 0<=r.Hi - r.Lo+1 by omega);have h5:=Int.ediv_le_self (r.Hi - r.Lo+1) hn.1
   simp only[zrT hg,obs,zyU hr]
   rw[if_pos (by omega),zqs hn.1,zqs (by omega),zqs (fI (by omega)),zqs (fI (by omega)),zqs (by omega),zqs hn.1,zqs (by omega),zqs (fI (by omega)),zqs (fI (by omega)),show(k:Int)+1=((k+1:Nat):Int) by omega];refine(zAY h d (k+1) (acc++[r.Lo+n % (r.Hi - r.Lo+1)]) (n / (r.Hi - r.Lo+1)) (by omega) (by omega) (by rw[List.length_append,ha]; rfl) (by omega)).trans ?_;rw[List.append_assoc]; rfl
  ·rw[if_neg (by omega),List.drop_eq_nil_of_le (by omega)]
   show _=some (acc++[])
   rw[List.append_nil]
theorem zAZ{p:Pg}(h:VP p){n:Int}(hn:0<=n/\n<=100000):zsF p n=some (zAV p.Losses n):=zAY h 1000000 0 [] n (Nat.zero_le _) (by have:=h.l4; omega) rfl hn
theorem VP.nthIn{p:Pg}(h:VP p){n:Int}(hn:0<=n):inL p.Losses (zAV p.Losses n):=zAW (fun r hr=>(h.ls r hr).2.1) hn
theorem zA0{p:Pg}{L:List Int}(hL:L.length<=9):∀(d k:Nat),k<=L.length->L.length - k < d->Ev (zsG p L d (k:Int)) (L.length=p.Losses.length/\∀i,k<=i->∀(r:Rg) (x:Int),p.Losses[i]? = some r->L[i]? = some x->r.Lo<=x/\x<=r.Hi)
 | 0,_,_,hd=>by omega
 | d+1,k,hk,hd=>by
  rw[zsG]
  by_cases h1:k < L.length
  ·rw[if_pos (by omega)]
   by_cases h2:k < p.Losses.length
   ·have g1:=List.getElem?_eq_getElem h1;have g2:=List.getElem?_eq_getElem h2;rw[if_pos (by omega),zrT g1,obs,zrT g2,obs,obs];generalize p.Losses[k]=r at g2;generalize L[k]=x at g1
    by_cases hc:r.Lo<=x/\x<=r.Hi
    ·rw[zyR.some_of hc,obs,if_pos rfl,zqs (fI (by omega)),show(k:Int)+1=((k+1:Nat):Int) by omega];refine(zA0 hL d (k+1) (by omega) (by omega)).imp ?_;refine and_congr_right fun _=>⟨fun q i hi r' x' a b=>?_,fun q i hi=>q i (by omega)⟩
     rcases Nat.eq_or_lt_of_le hi with h3 | h3
     ·subst h3; rw[g2] at a; rw[g1] at b; cases a; cases b; exact hc
     ·exact q i h3 r' x' a b
    ·rw[zyR.some_not hc,obs,if_neg (by decide)];exact Ev.ff fun q=>hc (q.2 k (Nat.le_refl _) _ _ g2 g1)
   ·rw[if_neg (by omega)];exact Ev.dec ⟨fun q=>⟨by omega,fun i hi r x a b=>by rw[List.getElem?_eq_none (by omega)] at a; cases a⟩,fun q=>by have:=q.1; omega⟩
  ·rw[if_neg (by omega)];exact Ev.dec ⟨fun q=>⟨by omega,fun i hi r x a b=>by rw[List.getElem?_eq_none (l:=L) (by omega)] at b; cases b⟩,fun q=>by have:=q.1; omega⟩
theorem zA1{p:Pg}{L:List Int}(hL:L.length<=9):Ev (zsH p L) (inL p.Losses L):=
 (zA0 (p:=p) hL (L.length+1) 0 (Nat.zero_le _) (by omega)).imp ⟨fun q=>zzz q.1 fun i r x=>q.2 i (Nat.zero_le _) r x,fun q=>⟨zzx q,fun i _ r x a b=>zzy q a b⟩⟩
theorem zA2{n:Nat}(h:n<=6):(1:Int) * 2 ^ (Int.toNat (zmc .u64 (n:Int)))=((2 ^ n:Nat):Int):=by rw[wu (by omega),Int.toNat_natCast,Int.one_mul,Int.natCast_pow]; rfl
theorem zA3{n:Nat}(h:n<=6):(gd ((0:Int)<=(1:Int)) (gd ((0:Int)<=(zmc .u64 (n:Int))) (gd ((zmc .u64 (n:Int))<=(64:Int)) (gd (zl7 .i64 ((1:Int) * ((2:Int) ^ (Int.toNat (zmc .u64 (n:Int)))))) (gd (zl7 .i64 (((1:Int) * ((2:Int) ^ (Int.toNat (zmc .u64 (n:Int))))) - (1:Int))) (some (((1:Int) * ((2:Int) ^ (Int.toNat (zmc .u64 (n:Int))))) - (1:Int))))))))=some ((2 ^ n - 1:Nat):Int):=by
 have hp:=zAU h;have hp0:0 < 2 ^ n:=Nat.two_pow_pos _;rw[zA2 h,zqs (by omega),wu (by omega),zqs (by omega),zqs (by omega),zqs (fI (by omega)),zqs (fI (by omega))]
 congr 1
 omega
theorem zA4{p:Pg}(h:VP p):zsJ p=some ((2 ^ p.Treaties.length - 1:Nat):Int):=zA3 (by have:=h.t5; omega)
theorem l9{p:Pg}(h:VP p){L:List Int}(hL:inL p.Losses L):L.length<=9:=by rw[zzx hL]; have:=h.l4; omega
theorem zA5{p:Pg}(h:VP p){L:List Int}(hL:inL p.Losses L):zsO p L ((2 ^ p.Treaties.length - 1:Nat):Int)=some (lN p.Treaties.length (zzk p.Treaties L).pays,(zzk p.Treaties L).soc):=by
 have h5:=h.t5;have hp:=zAU (i:=p.Treaties.length) (by omega);rw[zAH h (by omega) (zzA hL h.ls) (l9 h hL)];obtain⟨e1,e2⟩:=zAN h.tsOk (th:=fun k=>(2 ^ p.Treaties.length - 1).testBit k) (fun j hj=>by rw[Nat.testBit_two_pow_sub_one,decide_eq_true hj]) L;rw[zAu h5 fun j _=>e1 j,e2]
open Classical in
def agR(P:Nat->Int)(r:Rpt):Prop:=r.Paid.Lo<=P r.Treaty.toNat/\P r.Treaty.toNat<=r.Paid.Hi
open Classical in
def agf(p:Pg)(L:List Int)(j:Nat):Bool:=decide (∀r,p.Reports[j]? = some r->agR (zzk p.Treaties L).pays r)
open Classical in
theorem zA6{p:Pg}{L:List Int}{j:Nat}{r:Rpt}(h:p.Reports[j]? = some r):agf p L j=true↔agR (zzk p.Treaties L).pays r:=by
 unfold agf;rw[decide_eq_true_eq];exact⟨fun q=>q r h,fun q r' h'=>by rw[h] at h'; cases h'; exact q⟩
def zA7(p:Pg)(L:List Int):Nat:=macc (agf p L) p.Reports.length
def PL(p:Pg)(S:Nat->Bool):Prop:=∃L,inL p.Losses L/\∀j,j < p.Reports.length->S j=false->agf p L j=true
theorem PL.congr{p:Pg}{S S':Nat->Bool}(h:∀j,j < p.Reports.length->S j=S' j):PL p S↔PL p S':=
 exists_congr fun _=>and_congr_right fun _=>forall_congr' fun j=>forall_congr' fun hj=>by rw[h j hj]
theorem zA8{p:Pg}(h:VP p){L:List Int}(hL:inL p.Losses L):(∀j,0<=(zzk p.Treaties L).pays j/\(zzk p.Treaties L).pays j<=4000)/\(∀j,0<=(zzk p.Treaties L).keeps j/\(zzk p.Treaties L).keeps j<=4000)/\0<=(zzk p.Treaties L).soc/\(zzk p.Treaties L).soc<=4000:=by
 obtain⟨h1,h2,h3⟩:=zzO h hL;refine⟨fun j=>?_,fun j=>?_,?_⟩
 ·have:=h1.pays j; omega
 ·have:=h1.keeps j; omega
 ·have:=h1.soc; omega
theorem VP.prodPos{p:Pg}(h:VP p):1<=zyv p.Losses:=(zyK h.ls h.l4).1
end
end Go.Proofs.YtkcmdghjgoaggaaGreat

namespace Go.Proofs.YtkcmdghjgoaggaaGreat
open _root_.Go.Proofs.Tryz
open Go.Abs
set_option maxRecDepth 100000
noncomputable section
theorem zA9{p:Pg}{L:List Int}:zA7 p L=2 ^ p.Reports.length - 1↔agN (zzk p.Treaties L).pays p.Reports:=by
 constructor
 ·intro h r hr;obtain⟨j,hj⟩:=List.mem_iff_getElem?.1 hr;have hjl:=(List.getElem?_eq_some_iff.1 hj).1
  have e:(zA7 p L).testBit j=true:=by rw[h,Nat.testBit_two_pow_sub_one,decide_eq_true hjl]
  unfold zA7 at e;rw[zAT] at e;exact(zA6 hj).1 (Bool.and_eq_true_iff.1 e).2
 ·intro h
  apply Nat.eq_of_testBit_eq
  intro j;unfold zA7;rw[zAT,Nat.testBit_two_pow_sub_one]
  by_cases hj:j < p.Reports.length
  ·have hg:=List.getElem?_eq_getElem hj;rw[decide_eq_true hj,(zA6 hg).2 (h _ (List.getElem_mem hj))]; rfl
  ·rw[decide_eq_false hj]; rfl
def trL(p:Pg):List (List Int):=((List.range (zyv p.Losses).toNat).filter fun n:Nat=>decide (zA7 p (zAV p.Losses (n:Int))=2 ^ p.Reports.length - 1)).map fun n:Nat=>zAV p.Losses (n:Int)
theorem zBa{p:Pg}(h:VP p){L:List Int}:L∈trL p↔TrS p p.Reports L:=by
 unfold trL TrS;rw[List.mem_map]
 constructor
 ·rintro⟨n,hn,rfl⟩
  obtain⟨_,h2⟩:=List.mem_filter.1 hn;exact⟨h.nthIn (by omega),zA9.1 (of_decide_eq_true h2)⟩
 ·rintro⟨hL,hA⟩
  obtain⟨n,n0,n1,rfl⟩:=zAX hL;refine⟨n.toNat,List.mem_filter.2 ⟨List.mem_range.2 (by omega),decide_eq_true ?_⟩,?_⟩
  ·rw[show((n.toNat:Nat):Int)=n by omega]; exact zA9.2 hA
  ·show zAV p.Losses ((n.toNat:Nat):Int)=_
   rw[show((n.toNat:Nat):Int)=n by omega]
theorem zBb{p:Pg}:zz2 p p.Reports↔PL p fun j=>!(2 ^ p.Reports.length - 1).testBit j:=by
 constructor
 ·rintro⟨L,h1,h2⟩
  exact⟨L,h1,fun j hj _=>(zA6 (List.getElem?_eq_getElem hj)).2 (h2 _ (List.getElem_mem hj))⟩
 ·rintro⟨L,h1,h2⟩
  refine⟨L,h1,fun r hr=>?_⟩;obtain⟨j,hj⟩:=List.mem_iff_getElem?.1 hr;have hjl:=(List.getElem?_eq_some_iff.1 hj).1;exact(zA6 hj).1 (h2 j hjl (by show(!(2 ^ p.Reports.length - 1).testBit j)=false; rw[Nat.testBit_two_pow_sub_one,decide_eq_true hjl]; rfl))
def wd(r:Rg)(x:Int):Rg:={ Lo:=min r.Lo x,Hi:=max r.Hi x }
def emp:Rg:={ Lo:=1099511627776,Hi:=-1099511627776 }
def wdL(g:List Int->Int)(l:List (List Int)):Rg:=l.foldl (fun r L=>wd r (g L)) emp
theorem zBc{g:List Int->Int}{l:List (List Int)}{k:Nat}{L:List Int}(h:l[k]? = some L):wdL g (l.take (k+1))=wd (wdL g (l.take k)) (g L):=by
 unfold wdL;rw[List.take_add_one,h,List.foldl_append]; rfl
theorem zBd{g:List Int->Int}:∀(l:List (List Int)) (r:Rg),((l.foldl (fun r L=>wd r (g L)) r).Lo=r.Lo\/∃L∈l,g L=(l.foldl (fun r L=>wd r (g L)) r).Lo)/\((l.foldl (fun r L=>wd r (g L)) r).Hi=r.Hi\/∃L∈l,g L=(l.foldl (fun r L=>wd r (g L)) r).Hi)/\(l.foldl (fun r L=>wd r (g L)) r).Lo<=r.Lo/\r.Hi<=(l.foldl (fun r L=>wd r (g L)) r).Hi/\∀L∈l,(l.foldl (fun r L=>wd r (g L)) r).Lo<=g L/\g L<=(l.foldl (fun r L=>wd r (g L)) r).Hi
 | [],r=>⟨.inl rfl,.inl rfl,Int.le_refl _,Int.le_refl _,fun L hL=>by cases hL⟩
 | L::l,r=>by
  obtain⟨a,b,c,d,e⟩:=zBd (g:=g) l (wd r (g L));have h1:(wd r (g L)).Lo=min r.Lo (g L):=rfl;have h2:(wd r (g L)).Hi=max r.Hi (g L):=rfl;rw[h1] at a c;rw[h2] at b d;rw[List.foldl_cons];generalize l.foldl (fun r L=>wd r (g L)) (wd r (g L))=R at a b c d e ⊢;refine⟨?_,?_,by clear a b; omega,by clear a b; omega,fun L' hL'=>?_⟩
  ·clear b
   rcases a with a | ⟨L',q1,q2⟩
   ·rcases Int.le_total r.Lo (g L) with h | h
    ·exact .inl (by omega)
    ·exact .inr ⟨L,List.mem_cons_self ..,by omega⟩
   ·exact .inr ⟨L',List.mem_cons_of_mem _ q1,q2⟩
  ·clear a
   rcases b with b | ⟨L',q1,q2⟩
   ·rcases Int.le_total (g L) r.Hi with h | h
    ·exact .inl (by omega)
    ·exact .inr ⟨L,List.mem_cons_self ..,by omega⟩
   ·exact .inr ⟨L',List.mem_cons_of_mem _ q1,q2⟩
  ·clear a b
   rcases List.mem_cons.1 hL' with h | h
   ·subst h; omega
   ·exact e L' h
theorem zBe{g:List Int->Int}{l:List (List Int)}(hne:l ≠ [])(hb:∀L∈l,-1000000<=g L/\g L<=1000000):IsB (·∈l) g (wdL g l):=by
 obtain⟨a,b,c,d,e⟩:=zBd (g:=g) l emp;have h1:emp.Lo=1099511627776:=rfl;have h2:emp.Hi = -1099511627776:=rfl;rw[h1] at a c;rw[h2] at b d;obtain⟨L0,hL0⟩:=List.exists_mem_of_ne_nil l hne;have q1:=hb L0 hL0;have q2:=e L0 hL0;unfold wdL;generalize l.foldl (fun r L=>wd r (g L)) emp=R at a b c d e q2 ⊢;refine⟨?_,?_,e⟩
 ·clear b
  rcases a with a | a
  ·omega
  ·exact a
 ·clear a
  rcases b with b | b
  ·omega
  ·exact b
theorem zBf{g:List Int->Int}{l:List (List Int)}(hb:∀L∈l,-1000000<=g L/\g L<=1000000):-1099511627776<=(wdL g l).Lo/\(wdL g l).Lo<=1099511627776/\-1099511627776<=(wdL g l).Hi/\(wdL g l).Hi<=1099511627776:=by
 by_cases hne:l=[]
 ·subst hne; exact⟨by show -1099511627776<=(1099511627776:Int); omega,by show(1099511627776:Int)<=1099511627776; omega,by show -1099511627776<=(-1099511627776:Int); omega,by show(-1099511627776:Int)<=1099511627776; omega⟩
 ·obtain⟨⟨a,a1,a2⟩,⟨b,b1,b2⟩,_⟩:=zBe hne hb;have:=hb a a1;have:=hb b b1
  omega
def bsN(n:Nat)(f:Nat->Bd):List Bd:=(List.range n).map f
theorem zBg{n:Nat}{f:Nat->Bd}:(bsN n f).length=n:=by unfold bsN; rw[List.length_map,List.length_range]
theorem zBh{n:Nat}{f:Nat->Bd}{k:Nat}(h:k < n):(bsN n f)[k]? = some (f k):=by unfold bsN; rw[List.getElem?_map,List.getElem?_range h]; rfl
def bdF(p:Pg)(l:List (List Int))(k:Nat):Bd:={ Pays:=wdL (fun L=>(zzk p.Treaties L).pays k) l,Keeps:=wdL (fun L=>(zzk p.Treaties L).keeps k) l }
theorem zBi{p:Pg}(h:VP p)(hc:zz2 p p.Reports):zAm p (bsN p.Treaties.length (bdF p (trL p)))/\IsB (TrS p p.Reports) (fun L=>(zzk p.Treaties L).soc) (wdL (fun L=>(zzk p.Treaties L).soc) (trL p)):=by
 have hne:trL p ≠ []:=fun e=>by
  obtain⟨L,hL⟩:=hc;have:=(zBa h).2 hL
  rw[e] at this; cases this
 have hb:∀L∈trL p,inL p.Losses L:=fun L hL=>((zBa h).1 hL).1;refine⟨⟨zBg,fun k b hk=>?_⟩,?_⟩
 ·have hkl:=(List.getElem?_eq_some_iff.1 hk).1;rw[zBg] at hkl;rw[zBh hkl] at hk
  cases hk
  refine⟨(zBe hne fun L hL=>?_).congr (fun L=>zBa h) fun _ _=>rfl,(zBe hne fun L hL=>?_).congr (fun L=>zBa h) fun _ _=>rfl⟩
  ·have:=(zA8 h (hb L hL)).1 k; omega
  ·have:=(zA8 h (hb L hL)).2.1 k; omega
 ·refine(zBe hne fun L hL=>?_).congr (fun L=>zBa h) fun _ _=>rfl;have:=(zA8 h (hb L hL)).2.2; omega
def kpF:List Rpt->Nat->(Nat->Bool)->List Rpt
 | [],_,_=>[]
 | v::V,i,S=>if S i=true then v::kpF V (i+1) S else kpF V (i+1) S
theorem zBj{S:Nat->Bool}{v:Rpt}:∀(V:List Rpt) (i:Nat),v∈kpF V i S↔∃j,V[j]? = some v/\S (i+j)=true
 | [],i=>by simp[kpF]
 | a::V,i=>by
  have ih:=zBj (S:=S) (v:=v) V (i+1)
  have e:(∃j,(a::V)[j]? = some v/\S (i+j)=true)↔(a=v/\S i=true)\/∃j,V[j]? = some v/\S (i+1+j)=true:=by
   constructor
   ·rintro⟨j,h1,h2⟩
    cases j with
    | zero=>exact .inl ⟨by simpa using h1,h2⟩
    | succ j=>exact .inr ⟨j,by simpa using h1,by rw[show i+1+j=i+(j+1) by omega]; exact h2⟩
   ·rintro (⟨h1,h2⟩ | ⟨j,h1,h2⟩)
    ·exact⟨0,by simpa using h1,h2⟩
    ·exact⟨j+1,by simpa using h1,by rw[show i+(j+1)=i+1+j by omega]; exact h2⟩
  rw[e];unfold kpF
  by_cases hs:S i=true
  ·rw[if_pos hs,List.mem_cons,ih];exact or_congr ⟨fun h=>⟨h.symm,hs⟩,fun h=>h.1.symm⟩ Iff.rfl
  ·rw[if_neg hs,ih];exact⟨.inr,fun h=>h.elim (fun h=>absurd h.2 hs) id⟩
theorem zBk{S:Nat->Bool}:∀(V:List Rpt) (i:Nat),(kpF V i S).length<=V.length
 | [],_=>Nat.le_refl _
 | a::V,i=>by
  have:=zBk (S:=S) V (i+1);unfold kpF
  split <;> simp only[List.length_cons] <;> omega
theorem zBl{l:List Int}{v:Int}(hl:zr3 l):∀d (k:Nat),k<=l.length->l.length - k < d->∃r,zt0 l v d (k:Int)=some r/\(0<=r↔v∈l.drop k)
 | 0,k,_,h=>by omega
 | d+1,k,hk,h=>by
  unfold zr3 at hl;unfold zt0
  by_cases hkn:k=l.length
  ·subst hkn; rw[if_neg (Int.lt_irrefl _)]; exact⟨_,rfl,by simp⟩
  ·have hlt:k < l.length:=by omega
   rw[if_pos (by omega),zrT (List.getElem?_eq_getElem hlt),obs];have hd:=List.drop_eq_getElem_cons hlt
   by_cases hv:v=l[k]
   ·rw[if_pos hv]; exact⟨_,rfl,⟨fun _=>by rw[hd,<- hv]; exact List.mem_cons_self ..,fun _=>by omega⟩⟩
   ·rw[if_neg hv,zqs (fI (by omega)),show(k:Int)+1=((k+1:Nat):Int) by omega];obtain⟨r,h1,h2⟩:=zBl hl d (k+1) (by omega) (by omega);exact⟨r,h1,h2.trans ⟨fun h=>by rw[hd]; exact List.mem_cons_of_mem _ h,fun h=>by rw[hd] at h; exact(List.mem_cons.1 h).resolve_left hv⟩⟩
theorem zBm{l:List Int}{v:Int}(hl:zr3 l):zt2 l v=some (decide (v∈l)):=by
 unfold zt2 zt1;obtain⟨r,h1,h2⟩:=zBl (v:=v) hl (l.length+1) 0 (Nat.zero_le _) (by omega);have h1:zt0 l v (l.length+1) 0=some r:=h1;rw[h1,obs];exact congrArg some (decide_eq_decide.2 (h2.trans (by rw[List.drop_zero])))
theorem zBn{p:Int->Option Bool}{f:Nat->Bool}{n:Nat}(hn:n<=1000000)(hp:∀m,m < n->p (m:Int)=some (f m))(hm:∀m k,m<=k->k < n->f m=true->f k=true):∀d (i j:Nat),i<=j->j<=n->j - i < d->(∀m,m < i->f m=false)->(∀m,j<=m->m < n->f m=true) ->
  ∃k:Nat,zut p d (i:Int) (j:Int)=some (k:Int)/\k<=n/\(∀m,m < k->f m=false)/\(∀m,k<=m->m < n->f m=true)
 | 0,_,_,_,_,h,_,_=>by omega
 | d+1,i,j,hij,hj,h,hlo,hhi=>by
  rw[zut]
  by_cases hc:i < j
  ·obtain⟨md,hmd⟩:∃md:Nat,md=(i+j) / 2:=⟨_,rfl⟩
   have hf:zl7 .u64 ((i:Int)+j):=show _/\_ by constructor <;> omega
   have e:zmc .i64 (zmc .u64 ((i:Int)+j) / 2)=(md:Int):=by
    rw[wz hf,wz (fI (by omega))]; omega
   rw[if_pos (by omega),zqs (fI (by omega)),zqs (by rw[wz hf]; omega),zqs (by omega),zqs (by omega),zqs (by rw[wz hf]; exact show _/\_ by constructor <;> omega),e,hp md (by omega),obs]
   cases hq:f md with
   | true=>
    rw[if_pos rfl];exact zBn hn hp hm d i md (by omega) (by omega) (by omega) hlo fun m h1 h2=>hm md m h1 h2 hq
   | false=>
    rw[if_neg (by decide),zqs (fI (by omega)),show(md:Int)+1=((md+1:Nat):Int) by omega]
    exact zBn hn hp hm d (md+1) j (by omega) hj (by omega) (fun m h1=>by
     cases hq2:f m with
     | false=>rfl
     | true=>have:=hm m md (by omega) (by omega) hq2; rw[hq] at this; cases this) hhi
  ·rw[if_neg (by omega)];exact⟨i,rfl,by omega,hlo,fun m h1 h2=>hhi m (by omega) h2⟩
theorem zBo{p:Pg}{L:List Int}{S:Nat->Bool}:agN (zzk p.Treaties L).pays (kpF p.Reports 0 S)↔∀j,j < p.Reports.length->S j=true->agf p L j=true:=by
 constructor
 ·intro h j hj hs;have hg:=List.getElem?_eq_getElem hj;exact(zA6 hg).2 (h _ ((zBj _ _).2 ⟨j,hg,by rw[Nat.zero_add]; exact hs⟩))
 ·intro h r hr;obtain⟨j,h1,h2⟩:=(zBj _ _).1 hr;rw[Nat.zero_add] at h2;exact(zA6 h1).1 (h j (List.getElem?_eq_some_iff.1 h1).1 h2)
theorem zBp{p:Pg}{S:Nat->Bool}:zz2 p (kpF p.Reports 0 S)↔PL p fun j=>!S j:=by
 unfold zz2 PL;refine exists_congr fun L=>and_congr_right fun _=>zBo.trans ?_;refine forall_congr' fun j=>forall_congr' fun _=>?_
 show(S j=true->_)↔((!S j)=false->_)
 cases S j <;> simp
theorem zBq{l:List Rpt}{D:List Int}(hl:l.length<=1000)(hD:zr3 D):zt4 l D=some (kpF l 0 fun j=>!inD D j):=by
 have key:∀(d k:Nat) (acc:List Rpt),k<=l.length->l.length - k < d->acc.length<=k->zt3 l D d acc (k:Int)=some (acc++kpF (l.drop k) k fun j=>!inD D j):=by
  intro d
  induction d with
  | zero=>intro k _ _ h _; omega
  | succ d ih=>
   intro k acc hk hd ha;rw[zt3]
   by_cases hkl:k < l.length
   ·rw[if_pos (by omega),zrT (List.getElem?_eq_getElem hkl),obs,zBm hD,obs,List.drop_eq_getElem_cons hkl,kpF]
    by_cases hin:(k:Int)∈D
    ·have e:inD D k=true:=decide_eq_true hin;rw[decide_eq_true hin,if_pos rfl,zqs (fI (by omega)),show(k:Int)+1=((k+1:Nat):Int) by omega,if_neg (by rw[e]; simp)];exact ih (k+1) acc (by omega) (by omega) (by omega)
    ·have e:inD D k=false:=decide_eq_false hin;rw[decide_eq_false hin,if_neg (by decide),zqs (by omega),zqs (fI (by omega)),show(k:Int)+1=((k+1:Nat):Int) by omega,if_pos (by rw[e]; rfl)];refine(ih (k+1) _ (by omega) (by omega) (by rw[List.length_append]; show acc.length+1<=_; omega)).trans ?_;rw[List.append_assoc]; rfl
   ·rw[if_neg (by omega),List.drop_eq_nil_of_le (by omega)]
    show _=some (acc++[])
    rw[List.append_nil]
 exact key (l.length+1) 0 [] (Nat.zero_le _) (by omega) (Nat.le_refl _)
theorem zzT.kp{p:Pg}(h:VP p)(S:Nat->Bool):zzT (kpF p.Reports 0 S):=fun r hr=>by
 obtain⟨j,h1,_⟩:=(zBj _ _).1 hr;exact h.rsOk r (List.mem_of_getElem? h1)
theorem zBr{p:Pg}(h:VP p){D:List Int}(hD:zr3 D):Ev (zuw D (zzM p (zzE p)) p) (PL p (inD D)):=by
 have hr5:=h.r5;unfold zuw;rw[zBq (by omega) hD,obs]
 show Ev ((zub (zzM p (zzE p)) (kpF p.Reports 0 fun j=>!inD D j)).bind _) _
 have hlen:=zBk (S:=fun j=>!inD D j) p.Reports 0;refine(zz3 h (zzT.kp h _) (zr4 hlen (by omega))).ret.imp (zBp.trans (PL.congr fun j _=>?_))
 simp
theorem zBs{p:Pg}(h:VP p):PL p (inD (zAP p.Reports.length)):=by
 obtain⟨L,hL⟩:=zzI h;exact⟨L,hL,fun j hj hs=>by rw[zAR hj] at hs; cases hs⟩
theorem zBt{p:Pg}(h:VP p):∃M,zux p=some (M,0)/\zAS p.Reports.length (PL p) M:=by
 have h4:=h.r5;have hsh:∀D,Inc p.Reports.length 0 D->zr3 D:=fun D hD=>zr4 (Nat.le_refl D.length) (by have:=zxU hD; omega)
 have ht:∀D,Inc p.Reports.length 0 D->((zuw D (zzM p (zzE p)) p).getD false=true↔PL p (inD D)):=fun D hD=>by
  obtain⟨b,q1,q2⟩:=zBr h (hsh D hD);rw[q1]; exact q2
 obtain⟨s1,s2,s3⟩:=zyb (n:=p.Reports.length) (t:=fun L=>(zuw L (zzM p (zzE p)) p).getD false) ⟨zAP p.Reports.length,zAQ _,(ht _ (zAQ _)).2 (zBs h)⟩;refine⟨zrA p.Reports.length fun L=>(zuw L (zzM p (zzE p)) p).getD false,?_,s1,(ht _ s1).1 s2,fun D hD hD2=>s3 D hD ((ht D hD).2 hD2)⟩;unfold zux zrB
 rw[zAe h,obs,if_pos rfl,zzS h,obs,zqs ⟨by omega,by omega,fun L hL=>by
  have hI:Inc p.Reports.length 0 L:=by rw[Int.toNat_natCast] at hL; exact zxV.1 hL
  obtain⟨b,q1,_⟩:=zBr h (hsh L hI)
  show(zuw L (zzM p (zzE p)) p).isSome=true
  rw[q1]; rfl⟩,obs,Int.toNat_natCast]
def FP(p:Pg)(j:Nat):Prop:=zz2 p (p.Reports.take (j+1))
theorem zBu{p:Pg}{i j:Nat}(hij:i<=j)(h:FP p j):FP p i:=by
 obtain⟨L,h1,h2⟩:=h;refine⟨L,h1,fun r hr=>h2 r ?_⟩
 have e:p.Reports.take (i+1)=(p.Reports.take (j+1)).take (i+1):=by rw[List.take_take,show min (i+1) (j+1)=i+1 by omega]
 rw[e] at hr;exact List.mem_of_mem_take hr
open Classical in
theorem zBv{p:Pg}(h:VP p):(∃j,j < p.Reports.length/\¬ FP p j/\(∀i,i < j->FP p i)/\zuv p=some ((j:Int),0))\/((∀j,j < p.Reports.length->FP p j)/\zuv p=some (0,7)):=by
 have h4:=h.r5
 have hf:∀m,m < p.Reports.length->zus (m:Int) (zzM p (zzE p)) p=some (decide (¬ FP p m)):=fun m hm=>by
  unfold zus;rw[zqs (fI (by omega)),zqs (by omega),show Int.toNat ((m:Int)+1)=m+1 by omega,show Int.toNat (0:Int)=0 from rfl,List.drop_zero]
  show(zub (zzM p (zzE p)) (p.Reports.take (m+1))).bind _=_
  have hlen:(p.Reports.take (m+1)).length<=5:=by rw[List.length_take]; omega
  have hc:=zz3 h (rs:=p.Reports.take (m+1)) (fun r hr=>h.rsOk r (List.mem_of_mem_take hr)) (zr4 hlen (by omega))
  by_cases hq:FP p m
  ·rw[hc.some_of hq,obs,decide_eq_false (not_not_intro hq)]; rfl
  ·rw[hc.some_not hq,obs,decide_eq_true hq]; rfl
 obtain⟨k,q1,q2,q3,q4⟩:=zBn (n:=p.Reports.length) (p:=fun a=>zus a (zzM p (zzE p)) p) (f:=fun m=>decide (¬ FP p m)) (by omega) hf (fun m k h1 h2 h3=>decide_eq_true fun hk=>of_decide_eq_true h3 (zBu h1 hk)) ((p.Reports.length:Int).toNat+1) 0 p.Reports.length (Nat.zero_le _) (Nat.le_refl _) (by omega) (fun m hm=>by omega) fun m h1 h2=>by omega
 have e:zuv p=if ((k:Nat):Int)=(p.Reports.length:Int) then some (0,7) else some ((k:Int),0):=by
  unfold zuv zuu;rw[zAe h,obs,if_pos rfl,zzS h,obs];have q1:zut (fun a=>zus a (zzM p (zzE p)) p) ((p.Reports.length:Int).toNat+1) 0 (p.Reports.length:Int)=some (k:Int):=q1;rw[q1,obs]
 have hlt:∀i,i < k->FP p i:=fun i hi=>Classical.not_not.1 (of_decide_eq_false (q3 i hi))
 by_cases hk:k=p.Reports.length
 ·rw[if_pos (by omega)] at e;exact .inr ⟨fun j hj=>hlt j (by omega),e⟩
 ·rw[if_neg (by omega)] at e;exact .inl ⟨k,by omega,of_decide_eq_true (q4 k (Nat.le_refl _) (by omega)),hlt,e⟩
theorem zBw{p:Pg}{j j':Nat}(h1:¬ FP p j)(h2:∀i,i < j->FP p i)(h3:¬ FP p j')(h4:∀i,i < j'->FP p i):j=j':=by
 rcases Nat.lt_trichotomy j j' with h | h | h
 ·exact absurd (h4 j h) h1
 ·exact h
 ·exact absurd (h2 j' h) h3
end
end Go.Proofs.YtkcmdghjgoaggaaGreat

namespace Go.Proofs.YtkcmdghjgoaggaaGreat
open _root_.Go.Proofs.Tryz
open Go.Abs
set_option maxRecDepth 100000
noncomputable section
theorem zBx{l:List Int}:(∀j,0 < j->j < l.length->∀a b,l[j - 1]? = some a->l[j]? = some b->a < b)↔l.Pairwise (· < ·):=by
 constructor
 ·intro h;rw[List.pairwise_iff_getElem];intro i j hi hj hij
  have key:∀d,(hd:i+d+1 < l.length)->l[i] < l[i+d+1]:=fun d=>by
   induction d with
   | zero=>intro hd; exact h (i+1) (by omega) hd _ _ (List.getElem?_eq_getElem hi) (List.getElem?_eq_getElem hd)
   | succ d ih=>
    intro hd;have h1:=ih (by omega);have h2:=h (i+(d+1)+1) (by omega) hd _ _ (List.getElem?_eq_getElem (show i+d+1 < l.length by omega)) (List.getElem?_eq_getElem hd);exact Int.lt_trans h1 h2
  have:=key (j - i - 1) (by omega)
  simpa [show i+(j - i - 1)+1=j by omega] using this
 ·intro h j h0 hj a b ha hb;obtain⟨h1,rfl⟩:=List.getElem?_eq_some_iff.1 ha;obtain⟨h2,rfl⟩:=List.getElem?_eq_some_iff.1 hb;exact List.pairwise_iff_getElem.1 h (j - 1) j h1 h2 (by omega)
theorem zBy{l:List Int}(hl:zr3 l):Ev (ztA l) (l.Pairwise (· < ·)):=by
 unfold zr3 at hl;unfold ztA
 by_cases h0:l.length=0
 ·have:l=[]:=List.eq_nil_of_length_eq_zero h0;subst this
  show Ev (ztz [] 1 1) _
  rw[ztz,if_neg (by decide)];exact Ev.tt .nil
 ·have e:∃n,l.length=n+1:=⟨l.length - 1,by omega⟩;obtain⟨n,hn⟩:=e
  have key:=zrX (n:=n) (F:=fun d x=>ztz l d (x+1)) (ok:=fun j=>∀a b,l[j]? = some a->l[j+1]? = some b->a < b) (bad:=some false) (fin:=some true) (fun d k hk=>by
   show(_->ztz l (d+1) ((k:Int)+1)=_)/\_
   have ha:=List.getElem?_eq_getElem (show k < l.length by omega);have hb:=List.getElem?_eq_getElem (show k+1 < l.length by omega);rw[ztz,if_pos (by omega),zrU (show(k:Int)+1=((k+1:Nat):Int) by omega) (show k+1 < l.length by omega),obs,zqs (fI (by omega)),zrU (show(k:Int)+1 - 1=(k:Int) by omega) (show k < l.length by omega),obs];refine⟨fun h=>?_,fun h=>?_⟩
   ·have:=h _ _ ha hb;rw[if_neg (by omega),zqs (fI (by omega))]
   ·rw[if_pos]
    apply Classical.byContradiction
    intro h2
    exact h fun a b h3 h4=>by rw[ha] at h3; rw[hb] at h4; cases h3; cases h4; omega) (fun d=>by show ztz l (d+1) _=_; rw[ztz,if_neg (by omega)]) (d:=((l.length:Int) - 1).toNat+1) (by omega)
  have e0:ztz l (((l.length:Int) - 1).toNat+1) (0+1)=ztz l (((l.length:Int) - 1).toNat+1) 1:=rfl
  have hiff:(∀j,j < n->∀a b,l[j]? = some a->l[j+1]? = some b->a < b)↔l.Pairwise (· < ·):=by
   rw[<- zBx]
   constructor
   ·intro h j h0 hj a b h1 h2;have:=h (j - 1) (by omega) a b h1;rw[show j - 1+1=j by omega] at this;exact this h2
   ·intro h j hj a b h1 h2;exact h (j+1) (by omega) (by omega) a b (by rw[Nat.add_sub_cancel]; exact h1) h2
  by_cases hq:∀j,j < n->∀a b,l[j]? = some a->l[j+1]? = some b->a < b
  ·have:=key.1 hq;exact⟨true,this,⟨fun _=>hiff.1 hq,fun _=>rfl⟩⟩
  ·have:=key.2 hq;exact⟨false,this,⟨fun h=>(by cases h),fun h=>absurd (hiff.2 h) hq⟩⟩
def zke(p:Pg)(l:List Int):Prop:=l.Pairwise (· < ·)/\∀v∈l,(0<=v/\v<=(p.Treaties.length:Int) - 1)/\ofB p.Treaties v.toNat=true
theorem zke.inc{p:Pg}{l:List Int}(h:zke p l):Inc p.Treaties.length 0 l:=⟨h.1,fun v hv=>by have:=(h.2 v hv).1; omega⟩
theorem zke.len{p:Pg}{l:List Int}(h:zke p l):l.length<=p.Treaties.length:=by have:=zxU h.inc; omega
theorem zBz{p:Pg}(h:VP p){n:Int}:Ev (ztK p n) ((0<=n/\n<=(p.Treaties.length:Int) - 1)/\ofB p.Treaties n.toNat=true):=by
 have h5:=h.t5;refine(zyE (zAd h).2.1).and fun hc=>?_;have hg:=List.getElem?_eq_getElem (show n.toNat < p.Treaties.length by omega);have e:=zrT hg;rw[show((n.toNat:Nat):Int)=n by omega] at e;rw[e,obs];have ho:=h.of' _ _ hg;exact Ev.dec (by rw[zAI hg,decide_eq_true_eq]; omega)
theorem zBA{p:Pg}(h:VP p){l:List Int}(hl:zr3 l):Ev (ztL p l) (zke p l):=
 (zBy hl).and fun _=>(Ev.each (p:=fun a=>ztK p a) (q:=fun v=>(0<=v/\v<=(p.Treaties.length:Int) - 1)/\ofB p.Treaties v.toNat=true) (fun _ _=>zBz h) hl.lt gI).ret
def tyD:Ty:={ Kind:=0,Part:=0,Above:=0,Most:=0,Times:=0,Price:=0,Of:=-1 }
def tyA(ts:List Ty)(v:Int):Ty:=(ts[v.toNat]?).getD tyD
theorem zBB{ts:List Ty}{v:Int}{t:Ty}(h:ts[v.toNat]? = some t):tyA ts v=t:=by unfold tyA; rw[h]; rfl
theorem zBC{ts:List Ty}{v:Int}(h0:0<=v)(h1:v<=(ts.length:Int) - 1):ts[v.toNat]? = some (tyA ts v):=by
 have hg:=List.getElem?_eq_getElem (show v.toNat < ts.length by omega);rw[zBB hg,hg]
theorem zBD{ts:List Ty}{v:Int}(h0:0<=v)(h1:v<=(ts.length:Int) - 1):idx ts v=some (tyA ts v):=by
 have:=zrT (zBC h0 h1)
 rwa [show((v.toNat:Nat):Int)=v by omega] at this
def zBE(ts:List Ty):List Int->Int
 | []=>0
 | v::l=>(tyA ts v).Price+zBE ts l
theorem zBF{ts:List Ty}{v:Int}:∀l,zBE ts (l++[v])=zBE ts l+(tyA ts v).Price
 | []=>by show _+(0:Int)=0+_; omega
 | a::l=>by show _+zBE ts (l++[v])=_+zBE ts l+_; rw[zBF l]; omega
def InT(p:Pg)(l:List Int):Prop:=∀v∈l,0<=v/\v<=(p.Treaties.length:Int) - 1
theorem zBG{p:Pg}(h:VP p):∀{l:List Int},InT p l->0<=zBE p.Treaties l/\zBE p.Treaties l<=1000 * l.length
 | [],_=>⟨Int.le_refl _,by show(0:Int)<=1000 * ((0:Nat):Int); omega⟩
 | v::l,hl=>by
  have ih:=zBG h (l:=l) fun v hv=>hl v (List.mem_cons_of_mem _ hv);have hv:=hl v (List.mem_cons_self ..);have ht:=h.ts _ (List.mem_of_getElem? (zBC hv.1 hv.2));have h1:=ht.2
  show 0<=(tyA p.Treaties v).Price+zBE p.Treaties l/\(tyA p.Treaties v).Price+zBE p.Treaties l<=1000 * ((l.length+1:Nat):Int)
  omega
theorem zBH{α:Type}{l:List α}{k:Nat}{a:α}(h:l[k]? = some a):l.take (k+1)=l.take k++[a]:=by rw[List.take_add_one,h]; rfl
theorem zBI{p:Pg}(h:VP p){l:List Int}(hl:InT p l)(h9:l.length<=9):ztN p l=some (zBE p.Treaties l):=by
 refine zyh (n:=l.length) (fun d (s:Int) y=>ztM p l d s y) (fun k=>zBE p.Treaties (l.take k)) (fun d k hk=>?_) (fun d=>?_) (l.length+1) 0 (by omega) (by omega)
 ·have hg:=List.getElem?_eq_getElem hk;have hv:=hl _ (List.getElem_mem hk);have hb:=zBG h (l:=l.take (k+1)) fun v hv=>hl v (List.mem_of_mem_take hv)
  have hlen:(l.take (k+1)).length<=9:=by rw[List.length_take]; omega
  rw[zBH hg,zBF] at hb;rw[List.length_append,List.length_take] at hb
  simp only[List.length_singleton] at hb
  show ztM p l (d+1) _ _=_
  rw[ztM,if_pos (by omega),zrT hg,obs,zBD hv.1 hv.2,obs,zqs (fI (by omega)),zqs (fI (by omega)),zBH hg,zBF]
 ·show ztM p l (d+1) _ _=_
  rw[ztM,if_neg (Int.lt_irrefl _),List.take_length]
def zBJ(p:Pg)(l:List Int):Pg:={ Losses:=p.Losses,Reserve:=p.Reserve,Treaties:=l.map (tyA p.Treaties),Reports:=[] }
theorem zBK{p:Pg}{l:List Int}(hl:InT p l)(h9:l.length<=9):ztP p l=some (zBJ p l):=by
 refine zyh (n:=l.length) (fun d (s:List Ty) y=>ztO p l d p.Reserve s y) (fun k=>(l.take k).map (tyA p.Treaties)) (fun d k hk=>?_) (fun d=>?_) (l.length+1) 0 (by omega) (by omega)
 ·have hg:=List.getElem?_eq_getElem hk;have hv:=hl _ (List.getElem_mem hk)
  show ztO p l (d+1) _ _ _=_
  rw[ztO,if_pos (by omega),zrT hg,obs,zBD hv.1 hv.2,obs,zqs (by rw[List.length_map,List.length_take]; omega),zqs (fI (by omega)),zBH hg,List.map_append]; rfl
 ·show ztO p l (d+1) _ _ _=_
  rw[ztO,if_neg (Int.lt_irrefl _),List.take_length]; rfl
theorem zke.inT{p:Pg}{l:List Int}(h:zke p l):InT p l:=fun v hv=>(h.2 v hv).1
theorem zke.ty{p:Pg}(h:VP p){l:List Int}(hs:zke p l){v:Int}(hv:v∈l):(tyA p.Treaties v).Of = -1:=by
 obtain⟨h1,h2⟩:=hs.2 v hv;have hg:=zBC h1.1 h1.2;rw[zAI hg,decide_eq_true_eq] at h2;have:=h.of' _ _ hg
 omega
theorem zBL{p:Pg}(h:VP p){l:List Int}(hs:zke p l):VP (zBJ p l):=by
 have h5:=h.t5;have hl:=hs.len;refine { ls:=h.ls,res:=h.res,ts:=fun t ht=>?_,of':=fun i t ht=>?_,rs:=fun r hr=>(by cases hr),l4:=h.l4,t5:=?_,r5:=Nat.zero_le _,many:=h.many }
 ·obtain⟨v,hv,rfl⟩:=List.mem_map.1 ht;have:=hs.inT v hv;exact h.ts _ (List.mem_of_getElem? (zBC this.1 this.2))
 ·obtain⟨v,hv,rfl⟩:=List.mem_map.1 (List.mem_of_getElem? ht);rw[hs.ty h hv]; omega
 ·show(l.map (tyA p.Treaties)).length<=5
  rw[List.length_map]; omega
theorem zBM{b k:Nat}:∀e,∃T,zxW b (k+e)=zxW b k++T
 | 0=>⟨[],(List.append_nil _).symm⟩
 | e+1=>by
  obtain⟨T,hT⟩:=zBM (b:=b) (k:=k) e;refine⟨T++(if b.testBit (k+e) then [((k+e:Nat):Int)] else []),?_⟩
  show zxW b (k+e)++_=_
  rw[hT,List.append_assoc]; rfl
theorem zBN{b n:Nat}(hn:n<=16)(hb:b < 2 ^ n):zxX b=zxW b n:=by
 unfold zxX;obtain⟨e,he⟩:∃e,16=n+e:=⟨16 - n,by omega⟩;rw[he];exact zx0 (fun q hq=>Nat.testBit_lt_two_pow (Nat.lt_of_lt_of_le hb (Nat.pow_le_pow_right (by omega) hq))) e
theorem zBO{b k n j:Nat}(hk:k<=n)(hj:j < (zxW b k).length):(zxW b n)[j]? = (zxW b k)[j]?:=by
 obtain⟨T,hT⟩:=zBM (b:=b) (k:=k) (n - k);rw[show k+(n - k)=n by omega] at hT;rw[hT,List.getElem?_append_left hj]
theorem zBP{ts:List Ty}{b n:Nat}(hn:n=ts.length)(hof:∀k t,ts[k]? = some t->b.testBit k=true->t.Of = -1){P P':Nat->Int}(hP:∀(j:Nat) (v:Int),(zxW b n)[j]? = some v->P' j=P v.toNat){x:Int}:∀k,k<=n ->
  (dN ((zxW b n).map (tyA ts)) P' x (zxW b k).length).soc=(a1 ts (fun k=>b.testBit k) P x k).2/\∀(j:Nat) (v:Int),j < (zxW b k).length->(zxW b n)[j]? = some v->(dN ((zxW b n).map (tyA ts)) P' x (zxW b k).length).pays j=(a1 ts (fun k=>b.testBit k) P x k).1 v.toNat
 | 0,_=>⟨rfl,fun j v h=>by cases h⟩
 | k+1,hk=>by
  obtain⟨i1,i2⟩:=zBP hn hof hP (x:=x) k (by omega);have hg:=List.getElem?_eq_getElem (show k < ts.length by omega);rw[zAv hg];have ht:=hof k _ hg;generalize ts[k]'(by omega)=t at hg ht
  cases hb:b.testBit k with
  | true=>
   have ho:=ht hb
   have e:zxW b (k+1)=zxW b k++[(k:Int)]:=by show zxW b k++(if b.testBit k then _ else _)=_; rw[hb]; rfl
   have el:(zxW b (k+1)).length=(zxW b k).length+1:=by rw[e,List.length_append]; rfl
   have hm:(zxW b n)[(zxW b k).length]? = some (k:Int):=by
    rw[zBO (k:=k+1) hk (by omega),e,List.getElem?_append_right (Nat.le_refl _),Nat.sub_self]; rfl
   have hmt:((zxW b n).map (tyA ts))[(zxW b k).length]? = some t:=by
    rw[List.getElem?_map,hm];exact congrArg some (zBB (by rw[Int.toNat_natCast]; exact hg))
   rw[el,zzc hmt,if_pos ⟨by omega,rfl⟩];unfold zzb;rw[if_pos ho,i1,hP _ _ hm,Int.toNat_natCast];refine⟨rfl,fun j v hj hv=>?_⟩
   show upF _ (zxW b k).length _ j=upF (a1 ts (fun k=>b.testBit k) P x k).1 k _ v.toNat
   by_cases hjm:j=(zxW b k).length
   ·subst hjm;rw[hm] at hv
    cases hv
    rw[zym,Int.toNat_natCast,zym]
   ·rw[zyn _ _ hjm,i2 j v (by omega) hv];have hv2:=hv;rw[zBO (k:=k) (by omega) (by omega)] at hv2;have:=zxY.1 (List.mem_of_getElem? hv2);rw[zyn _ _ (by omega)]
  | false=>
   have e:zxW b (k+1)=zxW b k:=by show zxW b k++(if b.testBit k then _ else _)=_; rw[hb]; exact List.append_nil _
   rw[e,if_neg fun h=>by cases h.2];exact⟨i1,i2⟩
theorem zBQ{ts:List Ty}{P now:Nat->Int}{j:Nat}(hj:ofB ts j=true):∀k,k<=ts.length->(a2 ts P now k).1 j=now j
 | 0,_=>rfl
 | k+1,hk=>by
  have hg:=List.getElem?_eq_getElem (show k < ts.length by omega);have hfk:=zAI hg;have ih:=zBQ (P:=P) (now:=now) hj k (by omega);rw[zAw hg];generalize ts[k]'(by omega)=t at hg hfk
  by_cases ho:0<=t.Of
  ·rw[if_pos ho]
   show upF (a2 ts P now k).1 k _ j=_
   rw[zyn _ _ fun e=>by subst e; rw[hfk,decide_eq_true_eq] at hj; omega,ih]
  ·rw[if_neg ho,ih]
theorem zBR{ts:List Ty}{b:Nat}(hof:∀k t,ts[k]? = some t->b.testBit k=true->t.Of = -1):∀(L:List Int) (s:(Nat->Int) × Int) (o:DS),(∀(j:Nat) (v:Int),(zxW b ts.length)[j]? = some v->o.pays j=s.1 v.toNat)->o.soc=s.2 ->
  (L.foldl (zzj ((zxW b ts.length).map (tyA ts))) o).soc=(L.foldl (zAz ts fun k=>b.testBit k) s).2
 | [],_,_,_,h2=>h2
 | x::L,s,o,h1,h2=>by
  obtain⟨c1,c2⟩:=zBP rfl hof h1 (x:=x) ts.length (Nat.le_refl _);refine zBR hof L (zAz ts (fun k=>b.testBit k) s x) (zzj ((zxW b ts.length).map (tyA ts)) o x) (fun j v hv=>?_) ?_
  ·show o.pays j+(dN ((zxW b ts.length).map (tyA ts)) o.pays x ((zxW b ts.length).map (tyA ts)).length).pays j=s.1 v.toNat+(a2 ts s.1 (a1 ts (fun k=>b.testBit k) s.1 x ts.length).1 ts.length).1 v.toNat
   have hjl:=(List.getElem?_eq_some_iff.1 hv).1;have hmem:=zxY.1 (List.mem_of_getElem? hv);have hg:=List.getElem?_eq_getElem (show v.toNat < ts.length by omega);rw[List.length_map,h1 j v hv,c2 j v hjl hv,zBQ (by rw[zAI hg,hof _ _ hg hmem.2.2]; rfl) ts.length (Nat.le_refl _)]
  ·show o.soc+(dN ((zxW b ts.length).map (tyA ts)) o.pays x ((zxW b ts.length).map (tyA ts)).length).soc=s.2+(a1 ts (fun k=>b.testBit k) s.1 x ts.length).2
   rw[List.length_map,c1,h2]
theorem zBS{ts:List Ty}{b:Nat}(hof:∀k t,ts[k]? = some t->b.testBit k=true->t.Of = -1)(L:List Int):(zzk ((zxW b ts.length).map (tyA ts)) L).soc=(zAA ts (fun k=>b.testBit k) L).2:=
 zBR hof L (fun _=>0,0) zzi (fun _ _ _=>rfl) rfl
theorem zBT{ts:List Ty}{th th':Nat->Bool}{P:Nat->Int}{x:Int}(h:∀j,j < ts.length->th j=th' j):∀k,k<=ts.length->a1 ts th P x k=a1 ts th' P x k
 | 0,_=>rfl
 | k+1,hk=>by
  have hg:=List.getElem?_eq_getElem (show k < ts.length by omega);rw[zAv hg,zAv hg,zBT h k (by omega),h k (by omega)]
theorem zBU{ts:List Ty}{th th':Nat->Bool}(h:∀j,j < ts.length->th j=th' j)(L:List Int):zAA ts th L=zAA ts th' L:=by
 have e:zAz ts th=zAz ts th':=by
  funext s x
  unfold zAz;rw[zBT h ts.length (Nat.le_refl _)]
 unfold zAA;rw[e]
theorem RI.mono{ts:List Ty}{B B':Int}{s:(Nat->Int) × Int}(h:RI ts B s)(hB:B<=B'):RI ts B' s:=⟨by have:=h.net; omega,fun j=>by have:=h.pays j; omega,h.cap⟩
theorem zBV{ts:List Ty}{th:Nat->Bool}(hts:zze ts):∀(L:List Int) (s:(Nat->Int) × Int) (B:Int),(∀x∈L,0<=x/\x<=1000)->RI ts B s->RI ts (B+1000 * L.length) (L.foldl (zAz ts th) s)
 | [],s,B,_,h=>h.mono (by show B<=B+1000 * ((0:Nat):Int); omega)
 | x::L,s,B,hL,h=>by
  have hx:=hL x (List.mem_cons_self ..);have h1:=(h.step (th:=th) hts (x:=x) (by omega)).mono (B':=B+1000) (by omega);refine(zBV hts L _ _ (fun x hx=>hL x (List.mem_cons_of_mem _ hx)) h1).mono ?_;rw[List.length_cons]; omega
theorem zBW{p:Pg}(h:VP p){th:Nat->Bool}{L:List Int}(hL:inL p.Losses L):0<=(zAA p.Treaties th L).2/\(zAA p.Treaties th L).2<=4000:=by
 have h4:=h.l4;have hl:=zzx hL;have:=(zBV (th:=th) h.tsOk L (fun _=>0,0) 0 (zzA hL h.ls) ⟨⟨Int.le_refl _,Int.le_refl _⟩,fun _=>⟨Int.le_refl _,Int.le_refl _⟩,zzl h.tsOk⟩).net;unfold zAA
 omega
def zBX(p:Pg):List (List Int):=(List.range (zyv p.Losses).toNat).map fun n:Nat=>zAV p.Losses (n:Int)
theorem zBY{p:Pg}(h:VP p){L:List Int}:L∈zBX p↔inL p.Losses L:=by
 unfold zBX;rw[List.mem_map]
 constructor
 ·rintro⟨n,_,rfl⟩; exact h.nthIn (by omega)
 ·intro hL;obtain⟨n,n0,n1,rfl⟩:=zAX hL;exact⟨n.toNat,List.mem_range.2 (by omega),by rw[show((n.toNat:Nat):Int)=n by omega]⟩
def zBZ(p:Pg)(th:Nat->Bool):Rg:=wdL (fun L=>(zAA p.Treaties th L).2) (zBX p)
theorem zB0{p:Pg}{th th':Nat->Bool}(h:∀j,j < p.Treaties.length->th j=th' j):zBZ p th=zBZ p th':=by
 unfold zBZ
 have:(fun L=>(zAA p.Treaties th L).2)=fun L=>(zAA p.Treaties th' L).2:=funext fun L=>by rw[zBU h]
 rw[this]
theorem zB1{p:Pg}(h:VP p)(th:Nat->Bool):IsB (inL p.Losses) (fun L=>(zAA p.Treaties th L).2) (zBZ p th):=by
 obtain⟨L,hL⟩:=zzI h;refine(zBe (fun e=>?_) fun L hL=>?_).congr (fun L=>zBY h) fun _ _=>rfl
 ·have:=(zBY h).2 hL
  rw[e] at this; cases this
 ·have:=zBW h (th:=th) ((zBY h).1 hL); omega
theorem zB2{p:Pg}(h:VP p){b:Nat}(hb:b < 1000000):zsU p (b:Int)=some (zBZ p fun k=>b.testBit k):=by
 have hm:=h.many;have h1:=h.prodPos
 show(some emp).bind _=_
 rw[obs]
 have hlen:(zBX p).length=(zyv p.Losses).toNat:=by unfold zBX; rw[List.length_map,List.length_range]
 refine zyh (n:=(zyv p.Losses).toNat) (fun d (s:Rg) y=>zsT p (b:Int) d s.Lo s.Hi y) (fun k=>wdL (fun L=>(zAA p.Treaties (fun k=>b.testBit k) L).2) ((zBX p).take k)) (fun d k hk=>?_) (fun d=>?_) 1000000 0 (by omega) (by omega)
 ·have hin:=h.nthIn (n:=(k:Int)) (by omega)
  have hg:(zBX p)[k]? = some (zAV p.Losses (k:Int)):=by unfold zBX; rw[List.getElem?_map,List.getElem?_range hk]; rfl
  show zsT p (b:Int) (d+1) _ _ _=_
  rw[zsT,zyY h,obs,if_pos (by omega),zAZ h (by omega),obs,zAH h hb (zzA hin h.ls) (l9 h hin),obs,zBc hg]
  show(some (wd _ _)).bind _=_
  rw[obs,zqs (fI (by omega))]
 ·show zsT p (b:Int) (d+1) _ _ _=_
  rw[zsT,zyY h,obs,if_neg (by omega),List.take_of_length_le (by rw[hlen]; exact Nat.le_refl _)]; rfl
theorem zke.bits{p:Pg}(h:VP p){b:Nat}(_hb:b < 2 ^ p.Treaties.length)(hs:zke p (zxX b)):∀k t,p.Treaties[k]? = some t->b.testBit k=true->t.Of = -1:=fun k t hk hbk=>by
 have hkl:=(List.getElem?_eq_some_iff.1 hk).1;have h5:=h.t5
 have hm:((k:Nat):Int)∈zxX b:=by unfold zxX; exact zxY.2 ⟨by omega,by omega,hbk⟩
 have:=hs.ty h hm
 rwa [zBB (t:=t) (by rw[Int.toNat_natCast]; exact hk)] at this
theorem zB3{p:Pg}(h:VP p){l:List Int}(hs:zke p l):zuk p l=some (zBZ p (inD l)):=by
 have h5:=h.t5;obtain⟨b,hb,hlb⟩:=zyg (n:=p.Treaties.length) (by omega) hs.inc;have hv:=zBL h hs;have hlen:=hs.len;have hof:=zke.bits h hb (by rw[hlb]; exact hs)
 have hth:∀j,j < p.Treaties.length->inD l j=b.testBit j:=fun j hj=>by
  rw[<- hlb]; exact zyf (n:=p.Treaties.length) (by omega) hj
 have hlF:l=zxW b p.Treaties.length:=by rw[<- hlb]; exact zBN (by omega) hb
 obtain⟨L0,hL0⟩:=zzI h;have hcan:zz2 (zBJ p l) (zBJ p l).Reports:=⟨L0,hL0,fun r hr=>by cases hr⟩;obtain⟨r,a1,a2⟩:=zAc hv (number:=fun a=>ztS a) (g:=fun o=>o.society) (fun L _=>rfl) hcan
 have hnet:∀L,(zzk (l.map (tyA p.Treaties)) L).soc=(zAA p.Treaties (fun k=>b.testBit k) L).2:=fun L=>by
  rw[hlF]; exact zBS hof L
 have e:r=zBZ p (inD l):=by
  rw[zB0 hth];have q:IsB (inL p.Losses) (fun L=>(zAA p.Treaties (fun k=>b.testBit k) L).2) r:=a2.congr (fun L=>⟨fun q=>q.1,fun q=>⟨q,fun r hr=>by cases hr⟩⟩) fun L _=>hnet L;exact q.uniq (zB1 h fun k=>b.testBit k)
 unfold zuk;rw[zBK hs.inT (by omega),obs,zzS hv,obs];have a1':zud ({ p:=(zzM (zBJ p l) (zzE (zBJ p l))).p,kinds:=(zzM (zBJ p l) (zzE (zBJ p l))).kinds,shared:=(),played:=(zzM (zBJ p l) (zzE (zBJ p l))).played }:Wk) (fun a=>ztS a)=some r:=a1;rw[a1',obs,e]
theorem zB4{p:Pg}(h:VP p){l:List Int}(hs:zke p l):zul p l=some (decide ((zBZ p (inD l)).Hi<=p.Reserve)):=by
 unfold zul;rw[zB3 h hs,obs]
theorem zB5{p:Pg}(h:VP p){l:List Int}(hl:zr3 l)(hs:zke p l):zum p l=some (zBZ p (inD l),0):=by
 unfold zum;rw[zAe h,obs,if_pos rfl,(zBA h hl).some_of hs,obs,if_pos rfl,zB3 h hs,obs]
theorem zB6{p:Pg}(h:VP p){l:List Int}(hl:zr3 l)(hs:¬ zke p l):zum p l=some ({ Lo:=0,Hi:=0 },2):=by
 unfold zum;rw[zAe h,obs,if_pos rfl,(zBA h hl).some_not hs,obs,if_neg (by decide)]
theorem zB7{p:Pg}(hp:ShP p)(hf:zyw p ≠ 0){l:List Int}:zum p l=some ({ Lo:=0,Hi:=0 },zyw p):=by
 unfold zum;rw[zyQ hp.1 hp.2.1 hp.2.2,obs,if_neg hf]
def zB8(p:Pg)(l:List Int)(m:Int):Prop:=zke p l/\zBE p.Treaties l<=m/\(zBZ p (inD l)).Hi<=p.Reserve
theorem zB9{p:Pg}(h:VP p){l:List Int}(hl:zr3 l){m:Int}:Ev (zur p l m) (zB8 p l m):=by
 have h5:=h.t5;unfold zur;rw[zAe h,obs,if_pos rfl];refine((zBA h hl).and fun hs=>(?_:Ev _ (zBE p.Treaties l<=m/\(zBZ p (inD l)).Hi<=p.Reserve)));have:=hs.len;rw[zBI h hs.inT (by omega),obs];refine Ev.ite fun _=>?_;rw[zB4 h hs,obs];exact Ev.dec Iff.rfl
theorem zCa{p:Pg}(hp:ShP p)(hf:zyw p ≠ 0){l:List Int}{m:Int}:zur p l m=some false:=by
 unfold zur;rw[zyQ hp.1 hp.2.1 hp.2.2,obs,if_neg hf]
theorem zCb{l:List Int}(h:l.length<=100000):zt5 l=some l:=by
 unfold zt5;rw[zqs (by simp only[List.length_nil]; omega)]; rfl
def zCc(p:Pg)(D:List Int):Prop:=zke p D/\(zBZ p (inD D)).Hi<=p.Reserve
structure zCd (p:Pg) (M:List Int):Prop where
 good:zCc p M
 min:∀D,zCc p D->zBE p.Treaties M < zBE p.Treaties D\/(zBE p.Treaties M=zBE p.Treaties D/\(D=M\/shB M D=true))
theorem zCd.uniq{p:Pg}{M M':List Int}(h:zCd p M)(h':zCd p M'):M=M':=by
 rcases h.min M' h'.good with h1 | ⟨h1,h1'⟩ <;> rcases h'.min M h.good with h2 | ⟨h2,h2'⟩
 ·omega
 ·omega
 ·omega
 ·rcases h1' with h3 | h3
  ·exact h3.symm
  ·rcases h2' with h4 | h4
   ·exact h4
   ·rw[zx5 h3] at h4; cases h4
open Classical in
def zCe(p:Pg)(s:List Int × Bool)(D:List Int):List Int × Bool:=if zCc p D/\(s.2=true->zBE p.Treaties D < zBE p.Treaties s.1) then (D,true) else s
theorem zCf{p:Pg}{s:List Int × Bool}(h:s.2=true->zke p s.1)(D:List Int):(zCe p s D).2=true->zke p (zCe p s D).1:=by
 unfold zCe
 split
 ·rename_i hc; exact fun _=>hc.1.1
 ·exact h
theorem zCg{p:Pg}(h:VP p){x:Int}(hx:0<=x/\x<=1000){K:List Int->Bool->Int->Option (List Int × Bool)}:∀(q:List (List Int)) (s:List Int × Bool),(∀D∈q,Inc p.Treaties.length 0 D)->(s.2=true->zke p s.1) ->
  zun p x K q s.1 s.2=K (q.foldl (zCe p) s).1 (q.foldl (zCe p) s).2 (x+1)/\((q.foldl (zCe p) s).2=true->zke p (q.foldl (zCe p) s).1)
 | [],s,_,hs=>⟨by rw[zun,zqs (fI (by omega))]; rfl,hs⟩
 | D::q,s,hq,hs=>by
  have h5:=h.t5;have hD:=zxU (hq D (List.mem_cons_self ..));have ih:=zCg h hx (K:=K) q (zCe p s D) (fun D hD=>hq D (List.mem_cons_of_mem _ hD)) (zCf hs D);refine⟨?_,ih.2⟩;refine Eq.trans ?_ ih.1;rw[zun]
  have hD5:D.length<=5:=by omega
  by_cases hset:zke p D
  ·rw[(zBA h (zr4 hD5 (by omega))).some_of hset,obs,if_pos rfl];have hg:zCc p D↔(zBZ p (inD D)).Hi<=p.Reserve:=⟨fun q=>q.2,fun q=>⟨hset,q⟩⟩;obtain⟨M,b⟩:=s
   cases b with
   | true=>
    have hM:=hs rfl;have hMl:M.length<=p.Treaties.length:=hM.len
    show(if true=true then _ else _)=_
    rw[if_pos rfl,zBI h hset.inT (by omega),obs]
    show(ztN p M).bind _=_
    rw[zBI h hM.inT (by show M.length<=9; omega),obs]
    by_cases hp:zBE p.Treaties M<=zBE p.Treaties D
    ·rw[if_pos hp]
     have e:zCe p (M,true) D=(M,true):=if_neg fun q=>by have:zBE p.Treaties D < zBE p.Treaties M:=q.2 rfl; omega
     rw[e]
    ·rw[if_neg hp,zB4 h hset,obs]
     by_cases hk:(zBZ p (inD D)).Hi<=p.Reserve
     ·have e:zCe p (M,true) D=(D,true):=if_pos ⟨hg.2 hk,fun _=>by show zBE p.Treaties D < zBE p.Treaties M; omega⟩;rw[decide_eq_true hk,if_pos rfl,zCb (by omega),obs,e]
     ·have e:zCe p (M,true) D=(M,true):=if_neg fun q=>hk (hg.1 q.1);rw[decide_eq_false hk,if_neg (by decide),e]
   | false=>
    show(if false=true then _ else _)=_
    rw[if_neg (by decide),zB4 h hset,obs]
    by_cases hk:(zBZ p (inD D)).Hi<=p.Reserve
    ·have e:zCe p (M,false) D=(D,true):=if_pos ⟨hg.2 hk,fun q=>(by cases q)⟩;rw[decide_eq_true hk,if_pos rfl,zCb (by omega),obs,e]
    ·have e:zCe p (M,false) D=(M,false):=if_neg fun q=>hk (hg.1 q.1);rw[decide_eq_false hk,if_neg (by decide),e]
  ·rw[(zBA h (zr4 hD5 (by omega))).some_not hset,obs,if_neg (by decide)];have e:zCe p s D=s:=if_neg fun q=>hset q.1.1;rw[e]
theorem zCh{p:Pg}(h:VP p):∀(d e k:Nat) (s:List Int × Bool),k+e=p.Treaties.length+1->e < d->(s.2=true->zke p s.1)->zuo p d s.1 s.2 (k:Int)=some ((zry (fun s=>zrz p.Treaties.length s [] 0) e k).foldl (zCe p) s)
 | 0,_,_,_,_,hd,_=>by omega
 | d+1,0,k,s,hk,hd,hs=>by
  rw[zuo,if_neg (by omega)]; rfl
 | d+1,e+1,k,s,hk,hd,hs=>by
  have h5:=h.t5
  have hinc:∀D∈zrz p.Treaties.length k [] 0,Inc p.Treaties.length 0 D:=fun D hD=>by
   obtain⟨T,h1,_,h3⟩:=zxT.1 hD;rw[List.nil_append] at h1;rw[h1]; exact h3
  obtain⟨q1,q2⟩:=zCg h (x:=(k:Int)) (by omega) (K:=zuo p d) (zrz p.Treaties.length k [] 0) s hinc hs;rw[zuo,if_pos (by omega)];unfold zrC;rw[zqs (by omega),obs,Int.toNat_natCast,Int.toNat_natCast,q1,show(k:Int)+1=((k+1:Nat):Int) by omega];refine(zCh h d e (k+1) _ (by omega) (by omega) q2).trans ?_
  show _=some ((zrz p.Treaties.length k [] 0++zry (fun s=>zrz p.Treaties.length s [] 0) e (k+1)).foldl (zCe p) s)
  rw[List.foldl_append]
theorem zCi{p:Pg}(h:VP p):zup p=some ((zoj p.Treaties.length).foldl (zCe p) ([],false)):=by
 have h5:=h.t5;unfold zup;rw[zqs (fI (by omega))]
 exact zCh h _ (p.Treaties.length+1) 0 ([],false) (by omega) (by omega) fun q=>by cases q
structure zCj (p:Pg) (A:List (List Int)) (s:List Int × Bool):Prop where
 yes:s.2=true->s.1∈A/\zCc p s.1/\∀D∈A,zCc p D->zBE p.Treaties s.1 < zBE p.Treaties D\/(zBE p.Treaties s.1=zBE p.Treaties D/\(D=s.1\/shB s.1 D=true))
 no:s.2=false->s.1=[]/\∀D∈A,¬ zCc p D
theorem zCk{p:Pg}:∀(q A:List (List Int)) (s:List Int × Bool),(A++q).Pairwise (fun a b=>shB a b=true)->zCj p A s->zCj p (A++q) (q.foldl (zCe p) s)
 | [],A,s,_,h=>by rw[List.append_nil]; exact h
 | D::q,A,s,hp,h=>by
  have e:A++D::q=(A++[D])++q:=by rw[List.append_assoc]; rfl
  rw[e] at hp ⊢;refine zCk q (A++[D]) (zCe p s D) hp ?_;have hAD:∀a∈A,shB a D=true:=fun a ha=>(List.pairwise_append.1 (List.pairwise_append.1 hp).1).2.2 a ha D (List.mem_singleton.2 rfl)
  have hmem:∀D',D'∈A++[D]->D'∈A\/D'=D:=fun D' hD'=>by
   rcases List.mem_append.1 hD' with q | q
   ·exact .inl q
   ·exact .inr (List.mem_singleton.1 q)
  obtain⟨M,b⟩:=s
  by_cases hc:zCc p D/\(b=true->zBE p.Treaties D < zBE p.Treaties M)
  ·have e2:zCe p (M,b) D=(D,true):=if_pos hc;rw[e2];refine⟨fun _=>⟨List.mem_append_right _ (List.mem_singleton.2 rfl),hc.1,fun D' hD' hg=>?_⟩,fun q=>(by cases q)⟩
   rcases hmem D' hD' with hq | rfl
   ·cases b with
    | true=>
     have h1:zBE p.Treaties D < zBE p.Treaties M:=hc.2 rfl
     rcases (h.yes rfl).2.2 D' hq hg with h2 | ⟨h2,_⟩
     ·have h2:zBE p.Treaties M < zBE p.Treaties D':=h2;exact .inl (by show zBE p.Treaties D < _; omega)
     ·have h2:zBE p.Treaties M=zBE p.Treaties D':=h2;exact .inl (by show zBE p.Treaties D < _; omega)
    | false=>exact absurd hg ((h.no rfl).2 D' hq)
   ·exact .inr ⟨rfl,.inl rfl⟩
  ·have e2:zCe p (M,b) D=(M,b):=if_neg hc;rw[e2]
   cases b with
   | true=>
    refine⟨fun _=>?_,fun q=>(by cases q)⟩;obtain⟨y1,y2,y3⟩:=h.yes rfl;refine⟨List.mem_append_left _ y1,y2,fun D' hD' hg=>?_⟩
    rcases hmem D' hD' with hq | rfl
    ·exact y3 D' hq hg
    ·have h1:¬ zBE p.Treaties D' < zBE p.Treaties M:=fun q=>hc ⟨hg,fun _=>q⟩
     rcases Int.lt_or_eq_of_le (show zBE p.Treaties M<=zBE p.Treaties D' by omega) with h2 | h2
     ·exact .inl h2
     ·exact .inr ⟨h2,.inr (hAD M y1)⟩
   | false=>
    refine⟨fun q=>(by cases q),fun _=>⟨(h.no rfl).1,fun D' hD' hg=>?_⟩⟩
    rcases hmem D' hD' with hq | rfl
    ·exact(h.no rfl).2 D' hq hg
    ·exact hc ⟨hg,fun q=>(by cases q)⟩
theorem zCl{p:Pg}(h:VP p):(∃M,zup p=some (M,true)/\zCd p M)\/(zup p=some ([],false)/\∀D,¬ zCc p D):=by
 have hi:=zCk (p:=p) (zoj p.Treaties.length) [] ([],false) (zx9 _) ⟨fun q=>(by cases q),fun _=>⟨rfl,fun D hD=>by cases hD⟩⟩;rw[List.nil_append] at hi;rw[zCi h];generalize (zoj p.Treaties.length).foldl (zCe p) ([],false)=s at hi;have hall:∀D,zCc p D->D∈zoj p.Treaties.length:=fun D hD=>zxV.2 hD.1.inc;obtain⟨M,b⟩:=s
 cases b with
 | true=>
  obtain⟨_,y2,y3⟩:=hi.yes rfl;exact .inl ⟨M,rfl,y2,fun D hD=>y3 D (hall D hD) hD⟩
 | false=>
  obtain⟨n1,n2⟩:=hi.no rfl;have n1:M=[]:=n1;subst n1;exact .inr ⟨rfl,fun D hD=>n2 D (hall D hD) hD⟩
theorem zCm{p:Pg}(h:VP p):(∃M,zuq p=some (M,zBE p.Treaties M,0)/\zCd p M)\/(zuq p=some ([],0,10)/\∀D,¬ zCc p D):=by
 have h5:=h.t5;unfold zuq;rw[zAe h,obs,if_pos rfl]
 rcases zCl h with ⟨M,q1,q2⟩ | ⟨q1,q2⟩
 ·have hl:=q2.good.1.len;refine .inl ⟨M,?_,q2⟩;rw[q1,obs]
  show(ztN p M).bind _=_
  rw[zBI h q2.good.1.inT (by omega),obs]
 ·refine .inr ⟨?_,q2⟩;rw[q1,obs]; rfl
def okE(p:Pg)(l:List Int)(i:Nat):Prop:=∀v,l[i]? = some v->((0<=v/\v<=(p.Treaties.length:Int) - 1)/\ofB p.Treaties v.toNat=true)/\(0 < i->∀u,l[i - 1]? = some u->u < v)
theorem zCn{p:Pg}{l:List Int}:(∀i,i < l.length->okE p l i)↔zke p l:=by
 constructor
 ·intro h;refine⟨zBx.1 fun j h0 hj a b ha hb=>(h j hj b hb).2 h0 a ha,fun v hv=>?_⟩;obtain⟨i,hi⟩:=List.mem_iff_getElem?.1 hv;exact(h i (List.getElem?_eq_some_iff.1 hi).1 v hi).1
 ·intro h i hi v hv;refine⟨h.2 v (List.mem_of_getElem? hv),fun h0 u hu=>zBx.2 h.1 i h0 hi u v hu hv⟩
def mkL(l:List Int):Nat:=l.foldl (fun m v=>Nat.lor m (2 ^ v.toNat)) 0
theorem zCo{l:List Int}{k:Nat}{v:Int}(h:l[k]? = some v):mkL (l.take (k+1))=Nat.lor (mkL (l.take k)) (2 ^ v.toNat):=by
 unfold mkL;rw[zBH h,List.foldl_append]; rfl
theorem zCp:∀(l:List Int) (m j:Nat),(∀v∈l,0<=v)->(l.foldl (fun m v=>Nat.lor m (2 ^ v.toNat)) m).testBit j=(m.testBit j || inD l j)
 | [],m,j,_=>by show m.testBit j=(m.testBit j || decide ((j:Int)∈[])); rw[decide_eq_false (by simp)]; simp
 | v::l,m,j,h=>by
  have hv:=h v (List.mem_cons_self ..);rw[List.foldl_cons,zCp l _ j fun v hv=>h v (List.mem_cons_of_mem _ hv)]
  show((m ||| 2 ^ v.toNat).testBit j || _)=_
  rw[Nat.testBit_or,Nat.testBit_two_pow]
  have e:inD (v::l) j=(decide (v.toNat=j) || inD l j):=by
   unfold inD;rw[<- Bool.decide_or];exact decide_eq_decide.2 (by rw[List.mem_cons]; exact or_congr (by omega) Iff.rfl)
  rw[e,Bool.or_assoc]
theorem zCq{n:Nat}{l:List Int}(h:∀v∈l,0<=v/\v < n):mkL l < 2 ^ n:=by
 apply Nat.lt_pow_two_of_testBit
 intro j hj;unfold mkL;rw[zCp l 0 j fun v hv=>(h v hv).1,Nat.zero_testBit,Bool.false_or]
 exact decide_eq_false fun hm=>by have:=h _ hm; omega
theorem zCr{n:Nat}(hn:n<=16){l:List Int}(h:Inc n 0 l):zxX (mkL l)=l:=by
 obtain⟨b,hb,e⟩:=zyg hn h
 have hlt:mkL l < 2 ^ n:=zCq fun v hv=>by have:=h.2 v hv; omega
 have:mkL l=b:=by
  apply Nat.eq_of_testBit_eq
  intro j
  by_cases hj:j < n
  ·rw[<- zyf (b:=b) hn hj,e];unfold mkL;rw[zCp l 0 j fun v hv=>by have:=h.2 v hv; omega,Nat.zero_testBit,Bool.false_or]
  ·rw[Nat.testBit_lt_two_pow (Nat.lt_of_lt_of_le hlt (Nat.pow_le_pow_right (by omega) (by omega))),Nat.testBit_lt_two_pow (Nat.lt_of_lt_of_le hb (Nat.pow_le_pow_right (by omega) (by omega)))]
 rw[this,e]
open Classical in
theorem zCs{p:Pg}(h:VP p){l:List Int}(hl:l.length<=16):∀(d k:Nat),k<=l.length->l.length - k < d->(∀i,i < k->okE p l i)->zsR p l d (mkL (l.take k):Int) (k:Int)=if zke p l then some ((mkL l:Int),true) else some (0,false)
 | 0,_,_,hd,_=>by omega
 | d+1,k,hk,hd,ho=>by
  have h5:=h.t5;rw[zsR]
  by_cases hkl:k < l.length
  ·have hg:=List.getElem?_eq_getElem hkl;have hno:¬ okE p l k->¬ zke p l:=fun q hs=>q (zCn.2 hs k hkl)
   have htk:∀i,i < k+1->okE p l k->okE p l i:=fun i hi hok=>by
    rcases Nat.lt_or_ge i k with h1 | h1
    ·exact ho i h1
    ·rw[show i=k by omega]; exact hok
   generalize l[k]=v at hg
   have hin:∀u∈l.take k,0<=u/\u < p.Treaties.length:=fun u hu=>by
    obtain⟨i,hi⟩:=List.mem_iff_getElem?.1 hu;have hil:=(List.getElem?_eq_some_iff.1 hi).1;rw[List.length_take] at hil;rw[List.getElem?_take,if_pos (by omega)] at hi;have:=(ho i (by omega) u hi).1.1
    omega
   have hm0:=zCq hin;have hp5:=zAU (i:=p.Treaties.length) (by omega);rw[if_pos (by omega)]
   simp only[zrT hg,obs]
   rw[zqs (fI (by omega))]
   by_cases c1:0<=v/\v<=(p.Treaties.length:Int) - 1
   ·rw[zyR.some_of c1,obs,if_pos rfl,zBD c1.1 c1.2,obs];have hgt:=zBC c1.1 c1.2;have hob:=zAI hgt;generalize tyA p.Treaties v=t at hgt hob
    by_cases c2:0<=t.Of
    ·rw[if_pos c2,if_neg (hno fun q=>by have:=(q v hg).1.2; rw[hob,decide_eq_true_eq] at this; omega)]
    ·rw[if_neg c2];have hv64:zmc .u64 v=v:=wz (show(0:Int)<=v/\v < 18446744073709551616 by omega);obtain⟨w,hw⟩:∃w:Nat,w=2 ^ v.toNat:=⟨_,rfl⟩
     have hpv:w<=64:=by rw[hw]; exact zAU (by omega)
     have hpow:(1:Int) * 2 ^ v.toNat=(w:Int):=by rw[hw,Int.one_mul,Int.natCast_pow]; rfl
     have hm1:Nat.lor (mkL (l.take k)) w < 64:=by
      rw[hw]
      have:mkL (l.take (k+1)) < 2 ^ p.Treaties.length:=zCq fun u hu=>by
       rw[zBH hg] at hu
       rcases List.mem_append.1 hu with hu | hu
       ·exact hin u hu
       ·have:=List.mem_singleton.1 hu; omega
      rw[zCo hg] at this
      omega
     have hnx:okE p l k->zsR p l d ((Nat.lor (mkL (l.take k)) w:Nat):Int) ((k:Int)+1)=if zke p l then some ((mkL l:Int),true) else some (0,false):=fun hok=>by
      rw[hw,<- zCo hg,show(k:Int)+1=((k+1:Nat):Int) by omega];exact zCs h hl d (k+1) (by omega) (by omega) fun i hi=>htk i hi hok
     have hofv:ofB p.Treaties v.toNat=true:=by rw[hob,decide_eq_true_eq]; omega
     by_cases c3:0 < k
     ·have hg1:=List.getElem?_eq_getElem (show k - 1 < l.length by omega);have hi1:idx l ((k:Int) - 1)=some l[k - 1]:=zrU (by omega) (by omega);generalize l[k - 1]=u at hg1 hi1;rw[if_pos (by omega),zqs (fI (by omega)),hi1,obs]
      by_cases c4:v<=u
      ·rw[if_pos c4,if_neg (hno fun q=>by have:=(q v hg).2 c3 u hg1; omega)]
      ·rw[if_neg c4,hv64,hpow,zqs (by omega),zqs (by omega),zqs (by omega),zqs (fI (by omega)),zqs (by omega),zqs (by omega),zqs (fI (by omega)),zqs (fI (by omega)),Int.toNat_natCast,Int.toNat_natCast,zqs (fI (by omega)),zqs (fI (by omega))]
       exact hnx fun v' hv'=>by
        rw[hg] at hv'; cases hv'
        exact⟨⟨c1,hofv⟩,fun _ u' hu'=>by rw[hg1] at hu'; cases hu'; omega⟩
     ·rw[if_neg (by omega),hv64,hpow,zqs (by omega),zqs (by omega),zqs (by omega),zqs (fI (by omega)),zqs (by omega),zqs (by omega),zqs (fI (by omega)),zqs (fI (by omega)),Int.toNat_natCast,Int.toNat_natCast,zqs (fI (by omega)),zqs (fI (by omega))]
      exact hnx fun v' hv'=>by
       rw[hg] at hv'; cases hv'
       exact⟨⟨c1,hofv⟩,fun q=>absurd q c3⟩
   ·rw[zyR.some_not c1,obs,if_neg (by decide),if_neg (hno fun q=>c1 (q v hg).1.1)]
  ·have hke:k=l.length:=by omega
   subst hke;rw[if_neg (by omega),List.take_length,if_pos (zCn.1 ho)]
open Classical in
theorem zCt{p:Pg}(h:VP p){l:List Int}(hl:l.length<=16):zsS p l=if zke p l then some ((mkL l:Int),true) else some (0,false):=
 zCs h hl (l.length+1) 0 (Nat.zero_le _) (by omega) fun i hi=>by omega
theorem zCu{p:Pg}{b:Nat}{k:Nat}(hk:k<=p.Treaties.length):InT p (zxW b k):=fun v hv=>by have:=zxY.1 hv; omega
theorem zCv{p:Pg}(h:VP p){b:Nat}(hb:b < 2 ^ p.Treaties.length):zsW p (b:Int)=some (zBE p.Treaties (zxX b)):=by
 have h5:=h.t5;have hp:=zAU (i:=p.Treaties.length) (by omega);rw[zBN (n:=p.Treaties.length) (by omega) hb];refine zyh (n:=p.Treaties.length) (fun d (s:Int) y=>zsV p (b:Int) d s y) (fun k=>zBE p.Treaties (zxW b k)) (fun d k hk=>?_) (fun d=>?_) 1000000 0 (by omega) (by omega)
 ·have hg:=List.getElem?_eq_getElem hk;have hB:=zBG h (zCu (p:=p) (b:=b) (k:=k) (by omega));have hln:=zx1 (b:=b) k;have ht:=h.ts _ (List.getElem_mem hk);have h1:=ht.2;have hq0:=Nat.div_le_self b (2 ^ k)
  have hdv:(0:Int)<=(b:Int) / 2 ^ k/\(b:Int) / 2 ^ k<=1000000:=by
   rw[zx2];generalize b / 2 ^ k=q at hq0
   omega
  show zsV p (b:Int) (d+1) _ _=_
  rw[zsV,if_pos (by omega),zqs (by omega),wu (show k<=64 by omega),zqs (by omega),zqs (by omega),Int.toNat_natCast,zqs (fI (by omega)),zqs hdv.1,zqs (by omega),zqs (fI (by omega))]
  by_cases hbt:b.testBit k=true
  ·have e:zxW b (k+1)=zxW b k++[(k:Int)]:=by show zxW b k++(if b.testBit k then _ else _)=_; rw[hbt]; rfl
   rw[if_pos (zAC.2 hbt),zrT hg,obs,e,zBF,zBB (t:=p.Treaties[k]) (by rw[Int.toNat_natCast]; exact hg),zqs (fI (by omega)),zqs (fI (by omega))]
  ·have e:zxW b (k+1)=zxW b k:=by
    show zxW b k++(if b.testBit k then _ else _)=_
    rw[if_neg hbt]; exact List.append_nil _
   rw[if_neg fun hc=>hbt (zAC.1 hc),zqs (fI (by omega)),e]
 ·show zsV p (b:Int) (d+1) _ _=_
  rw[zsV,if_neg (Int.lt_irrefl _)]
end
end Go.Proofs.YtkcmdghjgoaggaaGreat

namespace Go.Proofs.YtkcmdghjgoaggaaGreat
open _root_.Go.Proofs.Tryz
open Go.Abs
set_option maxRecDepth 100000
noncomputable section
def zCw(p:Pg):Prop:=p.Losses.length<=7/\p.Treaties.length<=8/\p.Reports.length<=8
theorem zCw.sh{p:Pg}(h:zCw p):ShP p:=by
 obtain⟨a,b,c⟩:=h;exact⟨zr4 a (by omega),zr4 b (by omega),zr4 c (by omega)⟩
def zCx(p:Pg):Prop:=zCw p/\(VP p->zyv p.Losses<=300)
theorem zCy{p:Pg}:Ev (zuG p) (zCx p):=by
 unfold zuG zCx zCw
 by_cases h1:p.Losses.length<=7
 ·rw[if_pos (by omega)]
  by_cases h2:p.Treaties.length<=8
  ·rw[if_pos (by omega)]
   by_cases h3:p.Reports.length<=8
   ·rw[if_pos (by omega),zyZ (by omega) (by omega) (by omega),obs]
    by_cases hf:zyw p=0
    ·have hv:=zyx.1 hf;rw[if_pos hf,zyY hv,obs];exact Ev.dec ⟨fun q=>⟨⟨h1,h2,h3⟩,fun _=>q⟩,fun q=>q.2 hv⟩
    ·rw[if_neg hf];exact Ev.tt ⟨⟨h1,h2,h3⟩,fun q=>absurd (zyx.2 q) hf⟩
   ·rw[if_neg (by omega)]; exact Ev.ff fun q=>h3 q.1.2.2
  ·rw[if_neg (by omega)]; exact Ev.ff fun q=>h2 q.1.2.1
 ·rw[if_neg (by omega)]; exact Ev.ff fun q=>h1 q.1.1
theorem zCz{p:Pg}(h:zCw p):zuH p=some (zyw p):=by
 obtain⟨a,b,c⟩:=h;exact zy0 (by omega) (by omega) (by omega)
theorem zCA{p:Pg}(h:zCw p):zuD p=some p:=by
 obtain⟨h1,h2,h3⟩:=h
 have k2:zuA p p.Losses p.Treaties 1000000 p.Reserve [] 0=some p:=by
  refine(zrZ (l:=p.Reports) (fun r=>r) (F:=fun d acc x=>zuA p p.Losses p.Treaties d p.Reserve acc x) (fun acc=>some ({ Losses:=p.Losses,Reserve:=p.Reserve,Treaties:=p.Treaties,Reports:=acc }:Pg)) (fun d k acc a hk ha=>?_) (fun d acc=>?_) (d:=1000000) (by omega)).trans (by rw[List.map_id'])
  ·have hkl:=(List.getElem?_eq_some_iff.1 hk).1
   show zuA p p.Losses p.Treaties (d+1) _ _ _=_
   rw[zuA,if_pos (by omega),zrT hk,obs,obs]
   show(some a.Paid).bind _=_
   rw[obs,zqs (by omega),zqs (fI (by omega))]
  ·show zuA p p.Losses p.Treaties (d+1) _ _ _=_
   rw[zuA,if_neg (Int.lt_irrefl _)]
 have k1:zuB p p.Losses 1000000 p.Reserve [] [] 0=some p:=by
  refine(zrZ (l:=p.Treaties) (fun r=>r) (F:=fun d acc x=>zuB p p.Losses d p.Reserve acc [] x) (fun acc=>zuA p p.Losses acc 1000000 p.Reserve [] 0) (fun d k acc a hk ha=>?_) (fun d acc=>?_) (d:=1000000) (by omega)).trans (by rw[List.map_id']; exact k2)
  ·have hkl:=(List.getElem?_eq_some_iff.1 hk).1
   show zuB p p.Losses (d+1) _ _ _ _=_
   rw[zuB,if_pos (by omega),zrT hk,obs,zqs (by omega),zqs (fI (by omega))]
  ·show zuB p p.Losses (d+1) _ _ _ _=_
   rw[zuB,if_neg (Int.lt_irrefl _)]
 refine(zrZ (l:=p.Losses) (fun r=>r) (F:=fun d acc x=>zuC p d acc p.Reserve [] [] x) (fun acc=>zuB p acc 1000000 p.Reserve [] [] 0) (fun d k acc a hk ha=>?_) (fun d acc=>?_) (d:=1000000) (by omega)).trans (by rw[List.map_id']; exact k1)
 ·have hkl:=(List.getElem?_eq_some_iff.1 hk).1
  show zuC p (d+1) _ _ _ _ _=_
  rw[zuC,if_pos (by omega),zrT hk,obs]
  show(some a).bind _=_
  rw[obs,zqs (by omega),zqs (fI (by omega))]
 ·show zuC p (d+1) _ _ _ _ _=_
  rw[zuC,if_neg (Int.lt_irrefl _)]
theorem zCB{l:List Int}(h:l.length<=1000):zuy l=some l:=by
 unfold zuy;rw[zqs (show([]:List Int).length+l.length<=1048576 by show 0+_<=_; omega)]; rfl
theorem zCC{l:List Int}(hl:l.length<=1000):zuF l l=some true:=by
 unfold zuF;rw[if_pos rfl]
 have key:=zr2 (l:=l) (F:=zuE l l) (ok:=fun _=>True) (bad:=some false) (fin:=some true) (fun d k a ha=>by
  have hk:=(List.getElem?_eq_some_iff.1 ha).1;refine⟨fun _=>?_,fun h=>absurd trivial h⟩
  rw[zuE,if_pos (by omega),zrT ha,obs,obs,if_pos rfl,zqs (fI (by omega))]) (fun d=>by rw[zuE,if_neg (Int.lt_irrefl _)]) (d:=l.length+1) (by omega)
 exact key.1 fun _ _=>trivial
def zCD(n:Int)(rs:List Rpt):Pg:={ Losses:=[{ Lo:=100,Hi:=120 },{ Lo:=300,Hi:=300 }],Reserve:=n,Treaties:=[{ Kind:=0,Part:=25,Above:=0,Most:=0,Times:=0,Price:=50,Of:=-1 },{ Kind:=1,Part:=0,Above:=50,Most:=100,Times:=0,Price:=30,Of:=-1 },{ Kind:=1,Part:=0,Above:=20,Most:=40,Times:=1,Price:=5,Of:=0 }],Reports:=rs }
def zCE:List Rpt:=[{ Treaty:=0,Paid:={ Lo:=103,Hi:=110 } },{ Treaty:=2,Paid:={ Lo:=45,Hi:=46 } }]
theorem zCF(rs:List Rpt):zuJ rs=some (zCD 200 rs):=rfl
theorem zCG:zuK=some zCE:=rfl
theorem zCH(n:Int):zuL n=some (zCD n []):=rfl
theorem zCI{a b hi:Int}(h1:0<=a)(h2:a<=b)(h3:b<=hi):RgV { Lo:=a,Hi:=b } hi:=⟨h1,h2,h3⟩
theorem zCJ{n:Int}{rs:List Rpt}(hn:0<=n/\n<=10000)(hr:rs.length<=5)(hrs:∀r∈rs,(0<=r.Treaty/\r.Treaty<=2)/\RgV r.Paid 10000):VP (zCD n rs):=by
 refine { ls:=fun r hr=>?_,res:=hn,ts:=fun t ht=>?_,of':=fun i t ht=>?_,rs:=fun r hr=>?_,l4:=by show 2<=4; omega,t5:=by show 3<=5; omega,r5:=hr,many:=by show zyv [{ Lo:=100,Hi:=120 },{ Lo:=300,Hi:=300 }]<=1500; decide }
 ·rcases List.mem_cons.1 hr with rfl | hr
  ·exact zCI (by omega) (by omega) (by omega)
  rcases List.mem_cons.1 hr with rfl | hr
  ·exact zCI (by omega) (by omega) (by omega)
  ·cases hr
 ·rcases List.mem_cons.1 ht with rfl | ht
  ·exact⟨by unfold zgo; decide,by decide,by decide⟩
  rcases List.mem_cons.1 ht with rfl | ht
  ·exact⟨by unfold zgo; decide,by decide,by decide⟩
  rcases List.mem_cons.1 ht with rfl | ht
  ·exact⟨by unfold zgo; decide,by decide,by decide⟩
  ·cases ht
 ·match i,ht with
  | 0,ht=>cases ht; exact⟨by decide,by decide⟩
  | 1,ht=>cases ht; exact⟨by decide,by decide⟩
  | 2,ht=>cases ht; exact⟨by decide,by decide⟩
  | k+3,ht=>cases ht
 ·exact⟨(hrs r hr).1,(hrs r hr).2⟩
theorem vp3(n:Int)(hn:0<=n/\n<=10000):VP (zCD n []):=zCJ hn (by show 0<=5; omega) fun r hr=>by cases hr
theorem zCK:VP (zCD 200 zCE):=zCJ (by omega) (by show 2<=5; omega) fun r hr=>by
 rcases List.mem_cons.1 hr with rfl | hr
 ·exact⟨⟨by decide,by decide⟩,zCI (by omega) (by omega) (by omega)⟩
 rcases List.mem_cons.1 hr with rfl | hr
 ·exact⟨⟨by decide,by decide⟩,zCI (by omega) (by omega) (by omega)⟩
 ·cases hr
theorem zCL{p:Pg}(h:VP p){D:List Int}(hD:Inc p.Treaties.length 0 D):∃b,b < 2 ^ p.Treaties.length/\zxX b=D:=zyg (by have:=h.t5; omega) hD
theorem zCM:zke (zCD 200 []) [1]:=⟨List.pairwise_singleton _ _,fun v hv=>by
 have:=List.mem_singleton.1 hv; subst this
 exact⟨⟨by decide,by decide⟩,by decide +kernel⟩⟩
theorem zCN:zCd (zCD 300 []) [0,1]:=by
 have hs:zke (zCD 300 []) [0,1]:=⟨by simp,fun v hv=>by
  rcases List.mem_cons.1 hv with rfl | hv
  ·exact⟨⟨by decide,by decide⟩,by decide +kernel⟩
  ·have:=List.mem_singleton.1 hv; subst this
   exact⟨⟨by decide,by decide⟩,by decide +kernel⟩⟩
 refine⟨⟨hs,by decide +kernel⟩,fun D hD=>?_⟩;obtain⟨b,hb,rfl⟩:=zCL (vp3 300 (by omega)) hD.1.inc;have hb:b < 8:=hb
 have:b=0\/b=1\/b=2\/b=3\/b=4\/b=5\/b=6\/b=7:=by omega
 rcases this with rfl | rfl | rfl | rfl | rfl | rfl | rfl | rfl
 ·exact absurd hD.2 (by decide +kernel)
 ·exact absurd hD.2 (by decide +kernel)
 ·exact absurd hD.2 (by decide +kernel)
 ·have e:zxX 3=[0,1]:=by decide +kernel
  rw[e]; exact .inr ⟨rfl,.inl rfl⟩
 ·exact absurd (hD.1.2 2 (by decide +kernel)).2 (by decide +kernel)
 ·exact absurd (hD.1.2 2 (by decide +kernel)).2 (by decide +kernel)
 ·exact absurd (hD.1.2 2 (by decide +kernel)).2 (by decide +kernel)
 ·exact absurd (hD.1.2 2 (by decide +kernel)).2 (by decide +kernel)
def okT(L:List Int):Bool:=decide (103<=(zzk (zCD 200 zCE).Treaties L).pays 0/\(zzk (zCD 200 zCE).Treaties L).pays 0<=110) && decide (45<=(zzk (zCD 200 zCE).Treaties L).pays 2/\(zzk (zCD 200 zCE).Treaties L).pays 2<=46)
theorem zCO:(zBX (zCD 200 zCE)).all (fun L=>!okT L)=true:=by decide +kernel
theorem zCP:¬ zz2 (zCD 200 zCE) zCE:=by
 rintro⟨L,hL,hA⟩
 have h1:=hA _ (List.mem_cons_self ..);have h2:=hA _ (List.mem_cons_of_mem _ (List.mem_cons_self ..));have h3:=List.all_eq_true.1 zCO L ((zBY zCK).2 hL)
 have h4:okT L=true:=by
  unfold okT;rw[Bool.and_eq_true_iff];exact⟨decide_eq_true h1,decide_eq_true h2⟩
 rw[h4] at h3; cases h3
theorem fp0:FP (zCD 200 zCE) 0:=⟨[112,300],⟨⟨by decide,by decide⟩,⟨by decide,by decide⟩,trivial⟩,fun r hr=>by
 have hr:r∈[({ Treaty:=0,Paid:={ Lo:=103,Hi:=110 } }:Rpt)]:=hr;have:=List.mem_singleton.1 hr; subst this
 exact(by decide +kernel:(103:Int)<=(zzk (zCD 200 zCE).Treaties [112,300]).pays 0/\(zzk (zCD 200 zCE).Treaties [112,300]).pays 0<=110)⟩
theorem zCQ:zuv (zCD 200 zCE)=some (1,0):=by
 rcases zBv zCK with ⟨j,a1,a2,a3,a4⟩ | ⟨a1,a2⟩
 ·have:j=1:=zBw (p:=zCD 200 zCE) a2 a3 (j':=1) zCP fun i hi=>by
   rw[show i=0 by omega]; exact fp0
  subst this; exact a4
 ·exact absurd (a1 1 (by show 1 < 2; omega)) zCP
theorem zCR:zux (zCD 200 zCE)=some ([0],0):=by
 obtain⟨M,q1,q2⟩:=zBt zCK
 have hm:zAS 2 (PL (zCD 200 zCE)) [0]:=by
  refine⟨⟨List.pairwise_singleton _ _,fun v hv=>by have:=List.mem_singleton.1 hv; subst this; exact⟨by decide,by decide⟩⟩,⟨[100,300],⟨⟨by decide,by decide⟩,⟨by decide,by decide⟩,trivial⟩,fun j hj hs=>?_⟩,fun D hD hP=>?_⟩
  ·have hj:j < 2:=hj
   have:j=0\/j=1:=by omega
   rcases this with rfl | rfl
   ·exact absurd hs (by decide +kernel)
   ·refine(zA6 (p:=zCD 200 zCE) (j:=1) rfl).2 ?_;exact(by decide +kernel:(45:Int)<=(zzk (zCD 200 zCE).Treaties [100,300]).pays 2/\(zzk (zCD 200 zCE).Treaties [100,300]).pays 2<=46)
  ·obtain⟨b,hb,rfl⟩:=zyg (n:=2) (by omega) hD;have hb:b < 4:=hb
   have:b=0\/b=1\/b=2\/b=3:=by omega
   rcases this with rfl | rfl | rfl | rfl
   ·refine absurd (zBb.2 ((PL.congr fun j hj=>?_).1 hP)) zCP;have hj:j < 2:=hj
    have:j=0\/j=1:=by omega
    rcases this with rfl | rfl <;> decide +kernel
   ·exact .inl (by decide +kernel)
   ·exact .inr (by decide +kernel)
   ·exact .inr (by decide +kernel)
 rw[q2.uniq hm] at q1;exact q1
theorem zCS:zz2 (zCD 200 []) (zCD 200 []).Reports:=⟨[100,300],⟨⟨by decide,by decide⟩,⟨by decide,by decide⟩,trivial⟩,fun r hr=>by cases hr⟩
theorem zCT:zt8 (zCD 200 []) [100,300]=some ([100,100,45],200,0):=by
 rw[zAi (vp3 200 (by omega)) (L:=[100,300]) ⟨⟨by decide,by decide⟩,⟨by decide,by decide⟩,trivial⟩]
 have e1:lN (zCD 200 []).Treaties.length (zzk (zCD 200 []).Treaties [100,300]).pays=[100,100,45]:=by decide +kernel
 have e2:(zzk (zCD 200 []).Treaties [100,300]).soc=200:=by decide +kernel
 rw[e1,e2]
theorem zCU{r:Rg}{a b:Int}(h1:r.Lo=a)(h2:r.Hi=b):r={ Lo:=a,Hi:=b }:=by cases r; subst h1; subst h2; rfl
theorem zCV:zui (zCD 200 [])=some (bsN 3 (bdF (zCD 200 []) (trL (zCD 200 []))),0):=by
 have h:=vp3 200 (by omega);obtain⟨bs,q1,q2⟩:=zAn h zCS;rw[q1,q2.uniq (zBi h zCS).1]; rfl
theorem bd0:bdF (zCD 200 []) (trL (zCD 200 [])) 0={ Pays:={ Lo:=100,Hi:=105 },Keeps:={ Lo:=55,Hi:=55 } }:=by
 have e1:=zCU (r:=(bdF (zCD 200 []) (trL (zCD 200 [])) 0).Pays) (a:=100) (b:=105) (by decide +kernel) (by decide +kernel);have e2:=zCU (r:=(bdF (zCD 200 []) (trL (zCD 200 [])) 0).Keeps) (a:=55) (b:=55) (by decide +kernel) (by decide +kernel);generalize bdF (zCD 200 []) (trL (zCD 200 [])) 0=b at e1 e2
 cases b; simp only at e1 e2; rw[e1,e2]
theorem bd2:bdF (zCD 200 []) (trL (zCD 200 [])) 2={ Pays:={ Lo:=45,Hi:=50 },Keeps:={ Lo:=45,Hi:=50 } }:=by
 have e1:=zCU (r:=(bdF (zCD 200 []) (trL (zCD 200 [])) 2).Pays) (a:=45) (b:=50) (by decide +kernel) (by decide +kernel);have e2:=zCU (r:=(bdF (zCD 200 []) (trL (zCD 200 [])) 2).Keeps) (a:=45) (b:=50) (by decide +kernel) (by decide +kernel);generalize bdF (zCD 200 []) (trL (zCD 200 [])) 2=b at e1 e2
 cases b; simp only at e1 e2; rw[e1,e2]
theorem zCW:zuj (zCD 200 [])=some ({ Lo:=200,Hi:=215 },0):=by
 have h:=vp3 200 (by omega);obtain⟨r,q1,q2⟩:=zAo h zCS;rw[q1,q2.uniq (zBi h zCS).2,zCU (r:=wdL (fun L=>(zzk (zCD 200 []).Treaties L).soc) (trL (zCD 200 []))) (a:=200) (b:=215) (by decide +kernel) (by decide +kernel)]
theorem zCX:zum (zCD 200 []) [1]=some ({ Lo:=300,Hi:=320 },0):=by
 rw[zB5 (vp3 200 (by omega)) (by unfold zr3; decide) zCM,zCU (r:=zBZ (zCD 200 []) (inD [1])) (a:=300) (b:=320) (by decide +kernel) (by decide +kernel)]
theorem zCY:zuq (zCD 300 [])=some ([0,1],80,0):=by
 rcases zCm (vp3 300 (by omega)) with ⟨M,q1,q2⟩ | ⟨_,q2⟩
 ·rw[q1,q2.uniq zCN]; rfl
 ·exact absurd zCN.good (q2 _)
theorem zCZ:zur (zCD 300 []) [0,1] 80=some true:=
 (zB9 (vp3 300 (by omega)) (by unfold zr3; decide)).some_of ⟨zCN.good.1,by decide +kernel,zCN.good.2⟩
theorem f64{n:Int}(h:-1000000<=n/\n<=1000000):zl7 .i64 n:=fI (by omega)
theorem zC0:zuM=some true:=by
 have i0:idx (bsN 3 (bdF (zCD 200 []) (trL (zCD 200 [])))) 0=some { Pays:={ Lo:=100,Hi:=105 },Keeps:={ Lo:=55,Hi:=55 } }:=by
  have:=zrT (zBh (n:=3) (f:=bdF (zCD 200 []) (trL (zCD 200 []))) (k:=0) (by omega));rw[bd0] at this; exact this
 have i2:idx (bsN 3 (bdF (zCD 200 []) (trL (zCD 200 [])))) 2=some { Pays:={ Lo:=45,Hi:=50 },Keeps:={ Lo:=45,Hi:=50 } }:=by
  have:=zrT (zBh (n:=3) (f:=bdF (zCD 200 []) (trL (zCD 200 []))) (k:=2) (by omega));rw[bd2] at this; exact this
 have hl:((bsN 3 (bdF (zCD 200 []) (trL (zCD 200 [])))).length:Int)=3:=by rw[zBg]; rfl
 have s1:zuF [100,100,45] [100,100,45]=some true:=zCC (by decide);have s2:zuF [0,1] [0,1]=some true:=zCC (by decide);have s3:zuF [0] [0]=some true:=zCC (by decide);have f:∀n:Int,-1000000<=n/\n<=1000000->zl7 .i64 n:=fun n h=>f64 h;unfold zuM
 simp only[zCF,zCG,zCH,obs,zCT,zCV,zCW,zCX,zCY,zCQ,zCR,s1,s2,s3,if_true,hl,i0,i2,zuI]
 rw[zqs (f 100 (by omega)),zqs (f 100 (by omega)),zqs (f 105 (by omega)),zqs (f 105 (by omega)),zqs (f 55 (by omega)),zqs (f 55 (by omega)),zqs (f 55 (by omega)),zqs (f 55 (by omega)),if_pos (by decide),zqs (f 45 (by omega)),zqs (f 45 (by omega)),zqs (f 50 (by omega)),zqs (f 50 (by omega)),zqs (f 45 (by omega)),zqs (f 45 (by omega)),zqs (f 50 (by omega)),zqs (f 50 (by omega)),if_pos (by decide),zqs (f 200 (by omega)),zqs (f 200 (by omega)),zqs (f 215 (by omega)),zqs (f 215 (by omega)),if_pos (by decide),zqs (f 300 (by omega)),zqs (f 300 (by omega)),zqs (f 320 (by omega)),zqs (f 320 (by omega)),if_pos (by decide)]
 simp only[zCZ,obs,if_true]
theorem aw:((zuM).bind fun r=>some r)=some true:=by rw[zC0]; rfl
theorem zC1{p:Pg}{losses:List Int}(_:zss p)(_:losses.length<=maxLen/\∀a∈losses,zl7 .i64 a):zuN p losses=some true:=by
 unfold zuN
 refine zCy.pick (fun ht=>?_) fun _=>by rw[if_neg (by decide),aw]
 rw[if_pos rfl]
 by_cases h9:(9:Int) < losses.length
 ·rw[if_pos h9,aw]
 rw[if_neg h9];have hsh:=ht.1.sh
 simp only[zCA ht.1,zCB (show losses.length<=1000 by omega),zCz ht.1,obs,zyQ hsh.1 hsh.2.1 hsh.2.2,if_true,aw]
 by_cases hf:zyw p=0
 ·have h:=zyx.1 hf;have h5:=h.t5
  simp only[if_pos hf]
  by_cases hL:inL p.Losses losses
  ·rw[zAi h hL,obs,(zA1 (p:=p) (show losses.length<=9 by omega)).some_of hL,obs,if_pos rfl,zA4 h,obs,zA5 h hL,obs]
   show(if (0:Int)=0 then _ else _)=_
   rw[if_pos rfl,zCC (by rw[zAg h5]; omega),obs,if_pos rfl,if_pos rfl]
  ·rw[zAj h hL,obs,(zA1 (p:=p) (show losses.length<=9 by omega)).some_not hL,obs,if_neg (by decide)]
   rfl
 ·rw[zAk hsh hf,obs,if_neg hf]
  show(if zyw p=zyw p then _ else _)=_
  rw[if_pos rfl]; rfl
theorem zC2{p:Pg}{set:List Int}{price:Int}(_:zss p)(_:set.length<=maxLen/\∀a∈set,zl7 .i64 a)(_:zl7 .i64 price):zuO p set price=some true:=by
 unfold zuO
 refine zCy.pick (fun ht=>?_) fun _=>by rw[if_neg (by decide),aw]
 rw[if_pos rfl]
 by_cases h9:(9:Int) < set.length
 ·rw[if_pos h9,aw]
 rw[if_neg h9];have hsh:=ht.1.sh;have hs9:zr3 set:=zr4 (n:=9) (by omega) (by omega);have f0:zl7 .i64 0:=fI (by omega)
 simp only[zCA ht.1,zCB (show set.length<=1000 by omega),zCz ht.1,obs,aw]
 by_cases hf:zyw p=0
 ·have h:=zyx.1 hf;have h5:=h.t5;have hp:=zAU (i:=p.Treaties.length) (by omega)
  simp only[if_pos hf]
  rw[zCt h (by omega)]
  by_cases hS:zke p set
  ·have hlt:mkL set < 2 ^ p.Treaties.length:=zCq fun v hv=>by have:=(hS.2 v hv).1; omega
   have hb:=zCr (n:=p.Treaties.length) (by omega) hS.inc
   have hk:(zBZ p fun k=>(mkL set).testBit k)=zBZ p (inD set):=zB0 fun j hj=>by
    rw[<- zyf (n:=p.Treaties.length) (by omega) hj,hb]
   have hbd:=zBf (g:=fun L=>(zAA p.Treaties (inD set) L).2) (l:=zBX p) fun L hL=>by have:=zBW h (th:=inD set) ((zBY h).1 hL); omega
   have hbd:-1099511627776<=(zBZ p (inD set)).Lo/\(zBZ p (inD set)).Lo<=1099511627776/\-1099511627776<=(zBZ p (inD set)).Hi/\(zBZ p (inD set)).Hi<=1099511627776:=hbd;rw[if_pos hS,zB5 h hs9 hS,obs];have hpr:=zB9 h hs9 (m:=price);obtain⟨b,e1,e2⟩:=hpr;rw[e1,obs,obs]
   show(if true=true then _ else _)=_
   rw[if_pos rfl,zB2 h (by omega),obs,hk]
   show(if (0:Int)=0 then _ else _)=_
   rw[if_pos rfl]
   show(some (zBZ p (inD set))).bind _=_
   rw[obs]
   show gd (zl7 .i64 (zBZ p (inD set)).Lo) (gd (zl7 .i64 (zBZ p (inD set)).Lo) (gd (zl7 .i64 (zBZ p (inD set)).Hi) (gd (zl7 .i64 (zBZ p (inD set)).Hi) (if ((decide ((zBZ p (inD set)).Lo=(zBZ p (inD set)).Lo)) && (decide ((zBZ p (inD set)).Hi=(zBZ p (inD set)).Hi)))=true then _ else _))))=_
   rw[zqs (fI (by omega)),zqs (fI (by omega)),zqs (fI (by omega)),zqs (fI (by omega)),if_pos (by simp)]
   by_cases hr:(zBZ p (inD set)).Hi<=p.Reserve
   ·rw[if_pos hr,zCv h hlt,obs,hb]
    by_cases hpp:zBE p.Treaties set<=price
    ·rw[e2.2 ⟨hS,hpp,hr⟩,decide_eq_true hpp]; rfl
    ·have:b=false:=by cases b with
      | false=>rfl
      | true=>exact absurd (e2.1 rfl).2.1 hpp
     rw[this,decide_eq_false hpp]; rfl
   ·rw[if_neg hr]
    have:b=false:=by cases b with
     | false=>rfl
     | true=>exact absurd (e2.1 rfl).2.2 hr
    rw[this]; rfl
  ·rw[if_neg hS,zB6 h hs9 hS,obs,(zB9 h hs9 (m:=price)).some_not fun q=>hS q.1,obs,obs]
   show(if false=true then _ else (if (2:Int)=2 then _ else _))=_
   rw[if_neg (by decide),if_pos rfl,zqs f0,zqs f0,zqs f0,zqs f0]
   rfl
 ·rw[zB7 hsh hf,zCa hsh hf,obs,obs,if_neg hf]
  show(if zyw p=zyw p then _ else _)=_
  rw[if_pos rfl,zqs f0,zqs f0,zqs f0,zqs f0]
  rfl
end
end Go.Proofs.YtkcmdghjgoaggaaGreat

namespace Go.Proofs.YtkcmdghjgoaggaaGreat
open _root_.Go.Proofs.Tryz
open Go.ChangeShapes Go.WideShapes Go.ChangeAt Go.RowKit Go.Abs
set_option maxRecDepth 100000
theorem op3:zsc prog 3 Int (zl7 .i64):=zsd (by kernel_rfl)
theorem zC3:zsc prog 55 Rg zsm:=zsk (fs:=[(3,0),(3,1)]) (by kernel_rfl) (by kernel_rfl) (zsj (α:=Int) (ok:=zl7 .i64) (k:=1) op3 (by kernel_rfl) rfl (zsj (α:=Int) (ok:=zl7 .i64) (k:=1) op3 (by kernel_rfl) rfl zsi)) (by kernel_rfl) fun m vs h=>by
 obtain⟨a0,c0,r0,m0,h0,p0,k0,s0,⟨a1,c1,r1,m1,h1,p1,k1,s1,rfl⟩⟩:=h;have p0:c0=[.int .i64 a0]:=p0; subst p0;have p1:c1=[.int .i64 a1]:=p1; subst p1;subst h1 h0;exact⟨⟨a0,a1⟩,rfl,⟨k0,k1⟩⟩
theorem zC4:zsc prog 22 (List Rg) (fun l=>l.length<=maxLen/\∀a0∈l,zsm a0):=zsf (by kernel_rfl) (by kernel_rfl) zC3
theorem zC5:zsc prog 87 Ty zso:=zsk (fs:=[(3,0),(3,1),(3,2),(3,3),(3,4),(3,5),(3,6)]) (by kernel_rfl) (by kernel_rfl) (zsj (α:=Int) (ok:=zl7 .i64) (k:=1) op3 (by kernel_rfl) rfl (zsj (α:=Int) (ok:=zl7 .i64) (k:=1) op3 (by kernel_rfl) rfl (zsj (α:=Int) (ok:=zl7 .i64) (k:=1) op3 (by kernel_rfl) rfl (zsj (α:=Int) (ok:=zl7 .i64) (k:=1) op3 (by kernel_rfl) rfl (zsj (α:=Int) (ok:=zl7 .i64) (k:=1) op3 (by kernel_rfl) rfl (zsj (α:=Int) (ok:=zl7 .i64) (k:=1) op3 (by kernel_rfl) rfl (zsj (α:=Int) (ok:=zl7 .i64) (k:=1) op3 (by kernel_rfl) rfl zsi))))))) (by kernel_rfl) fun m vs h=>by
 obtain⟨a0,c0,r0,m0,h0,p0,k0,s0,⟨a1,c1,r1,m1,h1,p1,k1,s1,⟨a2,c2,r2,m2,h2,p2,k2,s2,⟨a3,c3,r3,m3,h3,p3,k3,s3,⟨a4,c4,r4,m4,h4,p4,k4,s4,⟨a5,c5,r5,m5,h5,p5,k5,s5,⟨a6,c6,r6,m6,h6,p6,k6,s6,rfl⟩⟩⟩⟩⟩⟩⟩:=h;have p0:c0=[.int .i64 a0]:=p0; subst p0;have p1:c1=[.int .i64 a1]:=p1; subst p1;have p2:c2=[.int .i64 a2]:=p2; subst p2;have p3:c3=[.int .i64 a3]:=p3; subst p3;have p4:c4=[.int .i64 a4]:=p4; subst p4;have p5:c5=[.int .i64 a5]:=p5; subst p5;have p6:c6=[.int .i64 a6]:=p6; subst p6;subst h6 h5 h4 h3 h2 h1 h0;exact⟨⟨a0,a1,a2,a3,a4,a5,a6⟩,rfl,⟨k0,k1,k2,k3,k4,k5,k6⟩⟩
theorem zC6:zsc prog 23 (List Ty) (fun l=>l.length<=maxLen/\∀a0∈l,zso a0):=zsf (by kernel_rfl) (by kernel_rfl) zC5
theorem zC7:zsc prog 96 Rpt zsq:=zsk (fs:=[(3,0),(55,1)]) (by kernel_rfl) (by kernel_rfl) (zsj (α:=Int) (ok:=zl7 .i64) (k:=1) op3 (by kernel_rfl) rfl (zsj (α:=Rg) (ok:=zsm) (k:=2) zC3 (by kernel_rfl) rfl zsi)) (by kernel_rfl) fun m vs h=>by
 obtain⟨a0,c0,r0,m0,h0,p0,k0,s0,⟨a1,c1,r1,m1,h1,p1,k1,s1,rfl⟩⟩:=h;have p0:c0=[.int .i64 a0]:=p0; subst p0;have p1:c1=[.int .i64 a1.Lo,.int .i64 a1.Hi]:=p1; subst p1;subst h1 h0;exact⟨⟨a0,a1⟩,rfl,⟨k0,k1⟩⟩
theorem zC8:zsc prog 24 (List Rpt) (fun l=>l.length<=maxLen/\∀a0∈l,zsq a0):=zsf (by kernel_rfl) (by kernel_rfl) zC7
theorem zC9:zsc prog 26 Pg zss:=zsk (fs:=[(22,0),(3,1),(23,2),(24,3)]) (by kernel_rfl) (by kernel_rfl) (zsj (α:=List Rg) (ok:=(fun l=>l.length<=maxLen/\∀a0∈l,zsm a0)) (k:=1) zC4 (by kernel_rfl) rfl (zsj (α:=Int) (ok:=zl7 .i64) (k:=1) op3 (by kernel_rfl) rfl (zsj (α:=List Ty) (ok:=(fun l=>l.length<=maxLen/\∀a0∈l,zso a0)) (k:=1) zC6 (by kernel_rfl) rfl (zsj (α:=List Rpt) (ok:=(fun l=>l.length<=maxLen/\∀a0∈l,zsq a0)) (k:=1) zC8 (by kernel_rfl) rfl zsi)))) (by kernel_rfl) fun m vs h=>by
 obtain⟨a0,c0,r0,m0,h0,p0,k0,s0,⟨a1,c1,r1,m1,h1,p1,k1,s1,⟨a2,c2,r2,m2,h2,p2,k2,s2,⟨a3,c3,r3,m3,h3,p3,k3,s3,rfl⟩⟩⟩⟩:=h;obtain⟨d0,rfl,p0⟩:=p0;have p1:c1=[.int .i64 a1]:=p1; subst p1;obtain⟨d2,rfl,p2⟩:=p2;obtain⟨d3,rfl,p3⟩:=p3;subst h3 h2 h1 h0;exact⟨⟨a0,a1,a2,a3⟩,⟨_,_,_,rfl,p0,p2,p3⟩,⟨k0,k1,k2,k3⟩⟩
theorem zDa:zsc prog 27 (List Int) (fun l=>l.length<=maxLen/\∀a0∈l,zl7 .i64 a0):=zsf (by kernel_rfl) (by kernel_rfl) op3
theorem zDb:laidOutB prog=true:=by kernel_rfl
theorem zDc:ownKnob prog.godebug=none:=by kernel_rfl
theorem zDd(os:Os)(started:os.Started)(H:Type)(enc:TypeId × Value->H) :
    ReturnsInHanded {} Tryz.checked os 5 .any (Rows.treatyKeptSpec.pre6 enc Tryz.prog Tryz.f5 Rows.treatyKeptRow.domain false) (Rows.treatyKeptSpec.post enc Tryz.prog Tryz.f5 false true false false):=by
  refine returnsInHanded_of_change (C:=Tryz.checked) zDc started (by kernel_rfl) Tryz.func5
    (ChangeSpec.witness6 (enc:=enc) (C:=Tryz.checked) false ⟨#[],#[.agg #[.slice none 0 0,.int .i64 0,.slice none 0 0,.slice none 0 0],.slice none 0 0,.int .i64 0],[]⟩ 8 (by kernel_rfl) (by kernel_rfl) (by kernel_rfl) (by kernel_rfl)) ?_
  intro W base args ds gs before hval0 hW hcnd _;have hval:∀(j:Nat) t v,Tryz.f5.params[j]? = some t->args[j]? = some v->Value.okWide Tryz.prog W .any base t v:=hval0;have hW':=hW;obtain⟨p,q,hA0,hV,rfl,hfz,hnd⟩:=hW;have hA:DataW.TrodAll enc Tryz.prog W 0 (fun _=>true) true Tryz.f5.params.toList args.toList ds p:=hA0;rw[Tryz.params5] at hA hval;obtain⟨v0,v1,v2,d0,d1,d2,p0,p1,p2,rfl,rfl,rfl,h0,h1,h2⟩:=trodAll_three hA;obtain⟨rfl,rfl⟩:=trodVars_none hV;obtain⟨a1,len1,cap1,hv1⟩:=okWide_slice Tryz.underlying27 (hval 1 27 v1 rfl rfl);obtain⟨n2,hv2⟩:=okWide_int Tryz.underlying3 (hval 2 3 v2 rfl rfl)
  have hlt:∀x∈p0++p1++p2,x.block < W.heap.size:=fun x hx=>by simpa using hW'.lt x (by simpa using hx)
  obtain⟨fu0,hf0⟩:=id h0;obtain⟨fu1,hf1⟩:=id h1;obtain⟨fu2,hf2⟩:=id h2
  clear hA0 hval0
  obtain⟨e0,m0,w0,a_0,le0,sv0,lay0,cr0,zwL,ok0⟩:=zC9 H enc W true _ _ _ hf0 _ _ (Lay.nil W);obtain⟨e1,m1,w1,a_1,le1,sv1,lay1,cr1,rep1,ok1⟩:=zDa H enc W true _ _ _ hf1 e0 m0 lay0;obtain⟨e2,m2,w2,a_2,le2,sv2,lay2,cr2,rep2,ok2⟩:=op3 H enc W true _ _ _ hf2 e1 m1 lay1;obtain⟨c0_0,c0_2,c0_3,rfl,g0_0,g0_2,g0_3⟩:=zwL
  obtain⟨cs0,hv0,cl0⟩:∃cs,v0=.agg cs/\v0.cells.toList=cs.toList:=by
    have hl:=cr0.length
    cases v0 with
    | agg cs=>exact⟨cs,rfl,rfl⟩
    | _=>exact absurd hl (by simp[Value.cells])
  subst hv0;subst hv1;obtain⟨c1,rfl,rep1⟩:=rep1
  have cv1:CR e2 c1 (.slice a1 len1 cap1):=by
    cases cr1 with
    | cons h _=>exact CR.mono le2 h
  have rep2:w2=[.int .i64 a_2]:=rep2;subst rep2 hv2
  have ha2:n2=a_2:=by
    cases cr2 with
    | cons h _=>have h:Value.int .i64 n2=.int .i64 a_2:=h; cases h; rfl
  subst ha2;have hargs:zeq (VR e2) [.agg 4 [c0_0,.int .i64 a_0.Reserve,c0_2,c0_3],.c c1,.c (.int .i64 n2)] [.agg cs0,.slice a1 len1 cap1,.int .i64 n2]:=.cons ⟨cs0,rfl,(cr0.mono fun _ _=>CR.mono (le1.trans le2)),rfl⟩ (.cons cv1 (.cons rfl .nil));refine(callsIn_wide.1 (zqD fits htab (zxS (p:=a_0) (set:=a_1) (price:=n2) lay2.pre ((g0_0.subv sv1).subv sv2) ((g0_2.subv sv1).subv sv2) ((g0_3.subv sv1).subv sv2) (rep1.subv sv2) (zC2 ok0 ok1 ok2) (Q:=fun v _=>v=.c (.bool true)) fun _ _=>rfl) lay2.hr (args':=#[.agg cs0,.slice a1 len1 cap1,.int .i64 n2]) hargs 0)).mono fun en W' hp=>?_;obtain⟨v,v',e',m',rfl,hst,hvr,rfl⟩:=hp;have hv':v'=.bool true:=hvr;subst hv';have hbelow:=lay2.below hst
  refine⟨_,rfl,[d0,d1,d2],[],p0++p1++p2,[],p0++(p1++p2),[],by simpa using hW',trodAll_mk1 (shut_bool Tryz.underlying4 _),
    trodAll_mk3 (Below.trod zDb (by kernel_rfl) (of_decide_eq_true (by kernel_rfl)) h0 hbelow fun x hx=>hlt x (by simp[hx])) (Below.trod zDb (by kernel_rfl) (of_decide_eq_true (by kernel_rfl)) h1 hbelow fun x hx=>hlt x (by simp[hx])) (Below.trod zDb (by kernel_rfl) (of_decide_eq_true (by kernel_rfl)) h2 hbelow fun x hx=>hlt x (by simp[hx])),rfl,lay2.kept hst _,fun hc=>by cases hc⟩
theorem TreatyKept_holds:Rows.TreatyKeptSaid:=
 OpenClaim.holds_of_wide 5 Tryz.f5 rfl rfl rfl rfl rfl rfl rfl ⟨rfl,rfl,rfl,rfl,rfl⟩ rfl rfl rfl rfl rfl (by kernel_rfl) Tryz.func5 (by kernel_rfl)
  (of_decide_eq_true (by kernel_rfl)) (by unfold Func.isWrapper; first | (rw[if_pos (by decide +kernel)]; kernel_rfl) | (rw[if_neg (by decide +kernel)]; exact⟨rfl,rfl⟩))
  (fun os started H enc _=>zDd os started H enc)
end Go.Proofs.YtkcmdghjgoaggaaGreat

