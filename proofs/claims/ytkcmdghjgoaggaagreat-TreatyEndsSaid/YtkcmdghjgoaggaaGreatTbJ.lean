/- TreatyEnds, for all that it can be called with, returns true. Condition: none. -/
import Derived.Test.YtkcmdghjgoaggaaGreatTbI
import GoSem.Step
import GoSem.ClaimKeys
import Derived.DeepKeys2
import Derived.RangeFuncLeaves
import Derived.OrdersIn
import Derived.Laws.World
import Derived.Laws.Sem
import Derived.RangeFuncRecord
import Derived.Laws.CopyRow
import Derived.Laws.Append
import Derived.Laws.Rows
import Derived.Laws.Slices
import Derived.Laws.Entries
import Derived.ChangeKeysEq
import Derived.IntWalk
import Derived.DeepKeys
import Derived.DeepKeys3
import Derived.Laws.StructEq
import Derived.MapKept
import Derived.Laws.AppendOwn
import Derived.ChangeArms
import Derived.ChangeOld
import Derived.Carry
import Derived.ChangeShapes
import Derived.KernelRfl
import Derived.ProofKit
import Derived.Test.YtkcmdghjgoaggaaGreatRows

namespace Go.Proofs.YtkcmdghjgoaggaaGreat
open _root_.Go.Proofs.Tryz
open Go.Abs
set_option maxRecDepth 100000
noncomputable section
theorem zAs{n:Nat}(h:n<=5)(f:Nat->Int){k:Nat}(hk:k < n):idx (lN n f) (k:Int)=some (f k):=zrU (zAj h f hk)
theorem zAt{n:Nat}(h:n<=5)(f:Nat->Int){i:Int}(h0:0<=i)(hk:i < n):idx (lN n f) i=some (f i.toNat):=by
 have:=zAs h f (k:=i.toNat) (by omega)
 rwa [show((i.toNat:Nat):Int)=i by omega] at this
theorem zAu{n:Nat}(h:n<=5){l:List Int}{f:Nat->Int}(hl:l.length=n)(ha:∀k,k < n->l[k]? = some (f k)):l=lN n f:=by
 refine List.ext_getElem? fun k=>?_
 by_cases hk:k < n
 ·rw[ha k hk,zAj h f hk]
 ·rw[List.getElem?_eq_none (by omega),List.getElem?_eq_none (by rw[zAi h]; omega)]
theorem zAv{n:Nat}(h:n<=5)(f:Nat->Int){k:Nat}(hk:k < n)(a:Int):(lN n f).set k a=lN n (upF f k a):=by
 refine zAu h (by rw[List.length_set,zAi h]) fun j hj=>?_
 by_cases hjk:j=k
 ·subst hjk; rw[List.getElem?_set_self (by rw[zAi h]; exact hj),zyp]
 ·rw[List.getElem?_set_ne (Ne.symm hjk),zAj h f hj,zyq _ _ hjk]
theorem zAw{n:Nat}(h:n<=5):List.replicate n (0:Int)=lN n fun _=>0:=zAu h (List.length_replicate ..) fun k hk=>by rw[List.getElem?_replicate,if_pos hk]
theorem zAx{n:Nat}(h:n<=5){f g:Nat->Int}(hfg:∀k,k < n->f k=g k):lN n f=lN n g:=zAu h (zAi h f) fun k hk=>by rw[zAj h f hk,hfg k hk]
def a1(ts:List Ty)(th:Nat->Bool)(P:Nat->Int)(x:Int):Nat->(Nat->Int) × Int
 | 0=>(fun _=>0,x)
 | k+1=>match ts[k]? with
  | some t=>if t.Of < 0/\th k=true then (upF (a1 ts th P x k).1 k (zy6 t (a1 ts th P x k).2 (P k)),(a1 ts th P x k).2 - zy6 t (a1 ts th P x k).2 (P k)) else a1 ts th P x k
  | none=>a1 ts th P x k
theorem zAy{ts:List Ty}{th:Nat->Bool}{P:Nat->Int}{x:Int}{k:Nat}{t:Ty}(h:ts[k]? = some t):a1 ts th P x (k+1)=if t.Of < 0/\th k=true then (upF (a1 ts th P x k).1 k (zy6 t (a1 ts th P x k).2 (P k)),(a1 ts th P x k).2 - zy6 t (a1 ts th P x k).2 (P k)) else a1 ts th P x k:=by
 show(match ts[k]? with | some t=>_ | none=>_)=_
 rw[h]
def a2(ts:List Ty)(P:Nat->Int)(now:Nat->Int):Nat->(Nat->Int) × (Nat->Int)
 | 0=>(now,now)
 | k+1=>match ts[k]? with
  | some t=>if 0<=t.Of then (upF (a2 ts P now k).1 k (zy6 t ((a2 ts P now k).2 t.Of.toNat) (P k)),upF (upF (a2 ts P now k).2 k (zy6 t ((a2 ts P now k).2 t.Of.toNat) (P k))) t.Of.toNat ((a2 ts P now k).2 t.Of.toNat - zy6 t ((a2 ts P now k).2 t.Of.toNat) (P k))) else a2 ts P now k
  | none=>a2 ts P now k
theorem zAz{ts:List Ty}{P now:Nat->Int}{k:Nat}{t:Ty}(h:ts[k]? = some t):a2 ts P now (k+1)=if 0<=t.Of then (upF (a2 ts P now k).1 k (zy6 t ((a2 ts P now k).2 t.Of.toNat) (P k)),upF (upF (a2 ts P now k).2 k (zy6 t ((a2 ts P now k).2 t.Of.toNat) (P k))) t.Of.toNat ((a2 ts P now k).2 t.Of.toNat - zy6 t ((a2 ts P now k).2 t.Of.toNat) (P k))) else a2 ts P now k:=by
 show(match ts[k]? with | some t=>_ | none=>_)=_
 rw[h]
structure I1 (ts:List Ty) (P:Nat->Int) (x:Int) (s:(Nat->Int) × Int):Prop where
 left:0<=s.2/\s.2<=x
 now:∀j,0<=s.1 j/\s.1 j<=x
 cap:zzf ts fun j=>P j+s.1 j
theorem zAA{ts:List Ty}{th:Nat->Bool}(hts:zzg ts){P:Nat->Int}(hP:zzf ts P){x:Int}(hx:0<=x/\x<=100000):∀k,k<=ts.length->I1 ts P x (a1 ts th P x k)
 | 0,_=>⟨⟨hx.1,Int.le_refl _⟩,fun _=>⟨Int.le_refl _,hx.1⟩,fun j t ht h1=>by have:=hP j t ht h1; show P j+0<=_; omega⟩
 | k+1,hk=>by
  have ih:=zAA (th:=th) hts hP hx k (by omega);have hg:=List.getElem?_eq_getElem (show k < ts.length by omega);have hkd:=hts.k _ (List.getElem_mem (show k < ts.length by omega));rw[zAy hg];generalize a1 ts th P x k=s at ih ⊢;generalize ts[k]'(by omega)=t at hg hkd
  by_cases hc:t.Of < 0/\th k=true
  ·rw[if_pos hc];have hl:=ih.left;have hb:=zy9 hkd (a:=s.2) (b:=P k) (by omega) (hP k t hg);refine⟨by show 0<=s.2 - _/\s.2 - _<=x; omega,fun j=>?_,fun j t' ht' h'=>?_⟩
   ·show 0<=upF s.1 k _ j/\upF s.1 k _ j<=x
    by_cases hjk:j=k
    ·subst hjk; rw[zyp]; omega
    ·rw[zyq _ _ hjk]; exact ih.now j
   ·show P j+upF s.1 k _ j<=_
    by_cases hjk:j=k
    ·subst hjk; rw[hg] at ht'; cases ht'; rw[zyp]; exact hb.2.2 h'
    ·rw[zyq _ _ hjk]; exact ih.cap j t' ht' h'
  ·rw[if_neg hc]; exact ih
structure I2 (ts:List Ty) (P:Nat->Int) (x:Int) (s:(Nat->Int) × (Nat->Int)):Prop where
 now:∀j,0<=s.1 j/\s.1 j<=x
 rest:∀j,0<=s.2 j/\s.2 j<=x
 cap:zzf ts fun j=>P j+s.1 j
theorem zAB{ts:List Ty}(hts:zzg ts){P now:Nat->Int}(hP:zzf ts P){x:Int}(hx:0<=x/\x<=100000)(hn:∀j,0<=now j/\now j<=x)(hc:zzf ts fun j=>P j+now j):∀k,k<=ts.length->I2 ts P x (a2 ts P now k)
 | 0,_=>⟨hn,hn,hc⟩
 | k+1,hk=>by
  have ih:=zAB hts hP hx hn hc k (by omega);have hg:=List.getElem?_eq_getElem (show k < ts.length by omega);have hkd:=hts.k _ (List.getElem_mem (show k < ts.length by omega));rw[zAz hg];generalize a2 ts P now k=s at ih ⊢;generalize ts[k]'(by omega)=t at hg hkd
  by_cases ho:0<=t.Of
  ·rw[if_pos ho];have hr:=ih.rest t.Of.toNat;have hb:=zy9 hkd (a:=s.2 t.Of.toNat) (b:=P k) (by omega) (hP k t hg);refine⟨fun j=>?_,fun j=>?_,fun j t' ht' h'=>?_⟩
   ·show 0<=upF s.1 k _ j/\upF s.1 k _ j<=x
    by_cases hjk:j=k
    ·subst hjk; rw[zyp]; omega
    ·rw[zyq _ _ hjk]; exact ih.now j
   ·show 0<=upF (upF s.2 k _) _ _ j/\upF (upF s.2 k _) _ _ j<=x
    by_cases hjo:j=t.Of.toNat
    ·subst hjo; rw[zyp]; omega
    ·rw[zyq _ _ hjo]
     by_cases hjk:j=k
     ·subst hjk; rw[zyp]; omega
     ·rw[zyq _ _ hjk]; exact ih.rest j
   ·show P j+upF s.1 k _ j<=_
    by_cases hjk:j=k
    ·subst hjk; rw[hg] at ht'; cases ht'; rw[zyp]; exact hb.2.2 h'
    ·rw[zyq _ _ hjk]; exact ih.cap j t' ht' h'
  ·rw[if_neg ho]; exact ih
def zAC(ts:List Ty)(th:Nat->Bool)(s:(Nat->Int) × Int)(x:Int):(Nat->Int) × Int:=
 (fun j=>s.1 j+(a2 ts s.1 (a1 ts th s.1 x ts.length).1 ts.length).1 j,s.2+(a1 ts th s.1 x ts.length).2)
def zAD(ts:List Ty)(th:Nat->Bool)(L:List Int):(Nat->Int) × Int:=L.foldl (zAC ts th) (fun _=>0,0)
structure RI (ts:List Ty) (B:Int) (s:(Nat->Int) × Int):Prop where
 net:0<=s.2/\s.2<=B
 pays:∀j,0<=s.1 j/\s.1 j<=B
 cap:zzf ts s.1
theorem RI.step{ts:List Ty}{th:Nat->Bool}(hts:zzg ts){B:Int}{s:(Nat->Int) × Int}(h:RI ts B s){x:Int}(hx:0<=x/\x<=100000):RI ts (B+x) (zAC ts th s x):=by
 have h1:=zAA (th:=th) hts h.cap hx ts.length (Nat.le_refl _);have h2:=zAB hts h.cap hx h1.now h1.cap ts.length (Nat.le_refl _);refine⟨?_,fun j=>?_,h2.cap⟩
 ·have:=h.net; have:=h1.left; show 0<=s.2+_/\s.2+_<=_; omega
 ·have:=h.pays j; have:=h2.now j; show 0<=s.1 j+_/\s.1 j+_<=_; omega
theorem wu{n:Nat}(h:n<=64):zmc .u64 (n:Int)=(n:Int):=wz (show(0:Int)<=n/\(n:Int) < 18446744073709551616 by omega)
theorem zAE(B k:Nat):(B:Int) / 2 ^ k % 2=((B / 2 ^ k % 2:Nat):Int):=by rw[zx5]; rfl
theorem zAF{B k:Nat}:(B:Int) / 2 ^ k % 2=1↔B.testBit k=true:=by
 rw[zAE,Nat.testBit_eq_decide_div_mod_eq,decide_eq_true_eq]; omega
section
variable {p:Pg} (h:VP p)
theorem zAG(h:VP p){x6 x7 x16:Int}{now:Nat->Int}{K:Int->Int->List Int->Option (List Int × Int)}{P:Nat->Int}(hP:∀j,0<=P j/\P j<=100000)(hn:∀j,0<=now j/\now j<=100000)(hx:0<=x7/\x7<=100000):zsJ p x6 x7 x16 (lN p.Treaties.length now) K 1000000 0 (lN p.Treaties.length P)=K (x6+x16) (x7+1) (lN p.Treaties.length fun j=>P j+now j):=by
 have h5:=h.t5
 let st:Nat->List Int:=fun k=>lN p.Treaties.length fun j=>if j < k then P j+now j else P j
 have key:=zyk (n:=p.Treaties.length) (fun d (s:List Int) y=>zsJ p x6 x7 x16 (lN p.Treaties.length now) K d y s) st (fin:=K (x6+x16) (x7+1) (lN p.Treaties.length fun j=>P j+now j)) (fun d k hk=>?_) (fun d=>?_) 1000000 0 (by omega) (by omega)
 ·exact key
 ·have h1:=hP k;have h2:=hn k
  show zsJ p x6 x7 x16 (lN p.Treaties.length now) K (d+1) (k:Int) (lN p.Treaties.length fun j=>if j < k then P j+now j else P j)=_
  rw[zsJ,if_pos (by omega),zAs h5 _ hk,obs,zAs h5 _ hk,obs,if_neg (by omega),zqs (fI (by omega)),obs,zqs (fI (by omega)),Int.toNat_natCast,zAv h5 _ hk]
  have e:(lN p.Treaties.length (upF (fun j=>if j < k then P j+now j else P j) k (P k+now k)))=st (k+1):=zAx h5 fun j hj=>by
   by_cases hjk:j=k
   ·subst hjk; rw[zyp,if_pos (by omega)]
   ·rw[zyq _ _ hjk]
    by_cases h3:j < k
    ·rw[if_pos h3,if_pos (by omega)]
    ·rw[if_neg h3,if_neg (by omega)]
  rw[e]
 ·show zsJ p x6 x7 x16 (lN p.Treaties.length now) K (d+1) (p.Treaties.length:Int) (lN p.Treaties.length fun j=>if j < p.Treaties.length then P j+now j else P j)=_
  rw[zsJ,if_neg (by omega),zqs (fI (by omega))]
  have e:(lN p.Treaties.length fun j=>if j < p.Treaties.length then P j+now j else P j)=lN p.Treaties.length fun j=>P j+now j:=zAx h5 fun j hj=>by rw[if_pos hj]
  rw[e]
theorem zAH(h:VP p){x6 x7 x16:Int}{K:Int->Int->List Int->Option (List Int × Int)}{P now:Nat->Int}(hP:∀j,0<=P j/\P j<=100000)(hcap:zzf p.Treaties P){x:Int}(hx:0<=x/\x<=1000)(hn:∀j,0<=now j/\now j<=x)(hcn:zzf p.Treaties fun j=>P j+now j)(hx7:0<=x7/\x7<=100000) :
  zsK p x6 x7 x16 K 1000000 0 (lN p.Treaties.length P) (lN p.Treaties.length now) (lN p.Treaties.length now)=K (x6+x16) (x7+1) (lN p.Treaties.length fun j=>P j+(a2 p.Treaties P now p.Treaties.length).1 j):=by
 have h5:=h.t5;have key:=zyk (n:=p.Treaties.length) (fun d (s:(Nat->Int) × (Nat->Int)) y=>zsK p x6 x7 x16 K d y (lN p.Treaties.length P) (lN p.Treaties.length s.1) (lN p.Treaties.length s.2)) (fun k=>a2 p.Treaties P now k) (fin:=K (x6+x16) (x7+1) (lN p.Treaties.length fun j=>P j+(a2 p.Treaties P now p.Treaties.length).1 j)) (fun d k hk=>?_) (fun d=>?_) 1000000 0 (by omega) (by omega)
 ·exact key
 ·have hg:=List.getElem?_eq_getElem hk;have hkd:=h.tsOk.k _ (List.getElem_mem hk);have hof:=h.of' k _ hg;have ih:=zAB h.tsOk hcap (x:=x) (by omega) hn hcn k (by omega);rw[zAz hg];generalize a2 p.Treaties P now k=s at ih ⊢;rw[zsK,if_pos (by omega),zrU hg,obs];generalize p.Treaties[k]=t at hg hkd hof
  by_cases ho:0<=t.Of
  ·have hr:=ih.rest t.Of.toNat;have hb:=zy9 hkd (a:=s.2 t.Of.toNat) (b:=P k) (by omega) (hcap k t hg);have hPk:=hP k;have htk:=zzc hkd (a:=s.2 t.Of.toNat) (b:=P k) (by omega) (by omega)
   have hne:t.Of.toNat ≠ k:=by omega
   have hoo:((t.Of.toNat:Nat):Int)=t.Of:=by omega
   rw[if_pos ho,if_pos ho,zAt h5 _ ho (by omega),obs,zAs h5 _ hk,obs,htk,obs,zAs h5 _ hk,obs,Int.toNat_natCast,zAv h5 _ hk,zAs h5 _ hk,obs,zyp,zAs h5 _ hk,obs,zAv h5 _ hk,zAt h5 _ ho (by omega),obs,zyq _ _ hne,obs,zqs (fI (by omega)),obs,zqs (fI (by omega)),zAv h5 _ (show t.Of.toNat < p.Treaties.length by omega)]
  ·rw[if_neg ho,if_neg ho,zqs (fI (by omega))]
 ·have i2:=zAB h.tsOk hcap (x:=x) (by omega) hn hcn p.Treaties.length (Nat.le_refl _);rw[zsK,if_neg (by omega)];exact zAG h hP (fun j=>by have:=i2.now j; omega) hx7
theorem zAI(h:VP p){b:Nat}(hb:b < 1000000){x6 x7:Int}{K:Int->Int->List Int->Option (List Int × Int)}{P:Nat->Int}(hP:∀j,0<=P j/\P j<=100000)(hcap:zzf p.Treaties P){x:Int}(hx:0<=x/\x<=1000)(hx6:0<=x6/\x6<=100000)(hx7:0<=x7/\x7<=100000) :
  zsL p (b:Int) x6 x7 K 1000000 x 0 (lN p.Treaties.length P) (List.replicate (Int.toNat (p.Treaties.length:Int)) 0)=K (x6+(a1 p.Treaties (fun k=>b.testBit k) P x p.Treaties.length).2) (x7+1) (lN p.Treaties.length fun j=>P j+(a2 p.Treaties P (a1 p.Treaties (fun k=>b.testBit k) P x p.Treaties.length).1 p.Treaties.length).1 j):=by
 have h5:=h.t5;rw[Int.toNat_natCast,zAw h5];have key:=zyk (n:=p.Treaties.length) (fun d (s:(Nat->Int) × Int) y=>zsL p (b:Int) x6 x7 K d s.2 y (lN p.Treaties.length P) (lN p.Treaties.length s.1)) (fun k=>a1 p.Treaties (fun k=>b.testBit k) P x k) (fin:=K (x6+(a1 p.Treaties (fun k=>b.testBit k) P x p.Treaties.length).2) (x7+1) (lN p.Treaties.length fun j=>P j+(a2 p.Treaties P (a1 p.Treaties (fun k=>b.testBit k) P x p.Treaties.length).1 p.Treaties.length).1 j)) (fun d k hk=>?_) (fun d=>?_) 1000000 0 (by omega) (by omega)
 ·exact key
 ·have hg:=List.getElem?_eq_getElem hk;have hkd:=h.tsOk.k _ (List.getElem_mem hk);have hof:=h.of' k _ hg;have ih:=zAA (th:=fun k=>b.testBit k) h.tsOk hcap (x:=x) (by omega) k (by omega);rw[zAy hg];generalize a1 p.Treaties (fun k=>b.testBit k) P x k=s at ih ⊢;rw[zsL,if_pos (by omega),zrU hg,obs];generalize p.Treaties[k]=t at hg hkd hof
  by_cases ho:t.Of < 0
  ·have hdv:(0:Int)<=(b:Int) / 2 ^ k/\(b:Int) / 2 ^ k<=1000000:=by
    have hq0:=Nat.div_le_self b (2 ^ k);rw[zx5];generalize b / 2 ^ k=q at hq0
    omega
   rw[if_pos ho,zqs (by omega),wu (show k<=64 by omega),zqs (by omega),zqs (by omega),Int.toNat_natCast,zqs (fI (by omega)),zqs hdv.1,zqs (by omega),zqs (fI (by omega))]
   by_cases hbt:b.testBit k=true
   ·have hl:=ih.left;have hbd:=zy9 hkd (a:=s.2) (b:=P k) (by omega) (hcap k t hg);have hPk:=hP k;have htk:=zzc hkd (a:=s.2) (b:=P k) (by omega) (by omega);rw[if_pos (zAF.2 hbt),if_pos ⟨ho,hbt⟩,zAs h5 _ hk,obs,htk,obs,zAs h5 _ hk,obs,zAv h5 _ hk,zAs h5 _ hk,obs,zyp,zqs (fI (by omega)),zqs (fI (by omega))]
   ·rw[if_neg fun hc=>hbt (zAF.1 hc),if_neg fun hc=>hbt hc.2,zqs (fI (by omega))]
  ·rw[if_neg ho,if_neg fun hc=>ho hc.1,zqs (fI (by omega))]
 ·have i1:=zAA (th:=fun k=>b.testBit k) h.tsOk hcap (x:=x) (by omega) p.Treaties.length (Nat.le_refl _);have hl:=i1.left;rw[zsL,if_neg (by omega),zqs (fI (by omega)),zqs (by rw[zAi h5]; simp only[List.length_nil]; omega),List.nil_append];exact zAH h hP hcap hx i1.now i1.cap hx7
theorem zAJ(h:VP p){b:Nat}(hb:b < 1000000){L:List Int}(hL:∀x∈L,0<=x/\x<=1000)(hl:L.length<=9):∀(d k:Nat) (s:(Nat->Int) × Int),k<=L.length->L.length - k < d->RI p.Treaties (1000 * k) s ->
  zsM p L (b:Int) d s.2 (k:Int) (lN p.Treaties.length s.1)=some (lN p.Treaties.length ((L.drop k).foldl (zAC p.Treaties fun k=>b.testBit k) s).1,((L.drop k).foldl (zAC p.Treaties fun k=>b.testBit k) s).2)
 | 0,_,_,_,hd,_=>by omega
 | d+1,k,s,hk,hd,hs=>by
  have h5:=h.t5;rw[zsM]
  by_cases hkl:k < L.length
  ·have hg:=List.getElem?_eq_getElem hkl;have hx:=hL _ (List.getElem_mem hkl);have hn:=hs.net;rw[if_pos (by omega),zrU hg,obs,zqs (by omega),zAI h hb (fun j=>by have:=hs.pays j; omega) hs.cap hx (by omega) (by omega),show(k:Int)+1=((k+1:Nat):Int) by omega,List.drop_eq_getElem_cons hkl];have hs':=hs.step (th:=fun k=>b.testBit k) h.tsOk (x:=L[k]) (by omega);exact zAJ h hb hL hl d (k+1) (zAC p.Treaties (fun k=>b.testBit k) s L[k]) (by omega) (by omega) ⟨by have:=hs'.net; omega,fun j=>by have:=hs'.pays j; omega,hs'.cap⟩
  ·rw[if_neg (by omega),List.drop_eq_nil_of_le (by omega)]
   rfl
theorem zAK(h:VP p){b:Nat}(hb:b < 1000000){L:List Int}(hL:∀x∈L,0<=x/\x<=1000)(hl:L.length<=9):zsN p L (b:Int)=some (lN p.Treaties.length (zAD p.Treaties (fun k=>b.testBit k) L).1,(zAD p.Treaties (fun k=>b.testBit k) L).2):=by
 have h5:=h.t5;unfold zsN;rw[zqs (by omega),Int.toNat_natCast,zAw h5];exact zAJ h hb hL hl (L.length+1) 0 (fun _=>0,0) (Nat.zero_le _) (by omega) ⟨⟨Int.le_refl _,Int.le_refl _⟩,fun _=>⟨Int.le_refl _,Int.le_refl _⟩,zzn h.tsOk⟩
end
def ofB(ts:List Ty)(j:Nat):Bool:=match ts[j]? with | some t=>decide (t.Of < 0) | none=>false
theorem zAL{ts:List Ty}{j:Nat}{t:Ty}(h:ts[j]? = some t):ofB ts j=decide (t.Of < 0):=by unfold ofB; rw[h]
theorem zAM{ts:List Ty}{P:Nat->Int}{x:Int}{j:Nat}:∀{k i:Nat},j < k->k<=i->(dN ts P x i).pays j=(dN ts P x k).pays j:=fun {k i} hj hk=>by
 obtain⟨e,rfl⟩:∃e,i=k+e:=⟨i - k,by omega⟩
 clear hk
 induction e with
 | zero=>rfl
 | succ e ih=>
  rw[<- ih]
  show(match ts[k+e]? with | some t=>zzd t (k+e) P (dN ts P x (k+e)) | none=>dN ts P x (k+e)).pays j=_
  cases ts[k+e]? with
  | none=>rfl
  | some t=>
   show(zzd t (k+e) P (dN ts P x (k+e))).pays j=_
   unfold zzd
   split
   ·exact zyq _ _ (by omega)
   ·exact zyq _ _ (by omega)
theorem zAN{ts:List Ty}(hts:zzg ts){th:Nat->Bool}(hth:∀j,j < ts.length->th j=true){P:Nat->Int}{x:Int}:∀k,k<=ts.length->(a1 ts th P x k).2=(dN ts P x k).soc/\∀j,(a1 ts th P x k).1 j=if j < k/\ofB ts j=true then (dN ts P x k).pays j else 0
 | 0,_=>⟨rfl,fun j=>by rw[if_neg (by omega)]; rfl⟩
 | k+1,hk=>by
  obtain⟨i1,i2⟩:=zAN hts hth (P:=P) (x:=x) k (by omega);have hg:=List.getElem?_eq_getElem (show k < ts.length by omega);have hof:=hts.o k _ hg;rw[zAy hg,zze hg];have hfk:=zAL hg;generalize ts[k]'(by omega)=t at hg hof hfk;unfold zzd
  by_cases ho:t.Of < 0
  ·rw[if_pos ⟨ho,hth k (by omega)⟩,if_pos (show t.Of = -1 by omega),i1];refine⟨rfl,fun j=>?_⟩
   show upF (a1 ts th P x k).1 k _ j=if _ then upF (dN ts P x k).pays k _ j else 0
   by_cases hjk:j=k
   ·subst hjk; rw[zyp,zyp,if_pos ⟨by omega,by rw[hfk]; exact decide_eq_true ho⟩]
   ·rw[zyq _ _ hjk,zyq _ _ hjk,i2]
    by_cases hj:j < k/\ofB ts j=true
    ·rw[if_pos hj,if_pos ⟨by omega,hj.2⟩]
    ·rw[if_neg hj,if_neg fun h=>hj ⟨by omega,h.2⟩]
  ·rw[if_neg fun h=>ho h.1,if_neg (show ¬ t.Of = -1 by omega)];refine⟨i1,fun j=>?_⟩
   show(a1 ts th P x k).1 j=if _ then upF (dN ts P x k).pays k _ j else 0
   by_cases hjk:j=k
   ·subst hjk;rw[i2,if_neg (by omega),if_neg fun h=>ho (by rw[hfk] at h; exact of_decide_eq_true h.2)]
   ·rw[zyq _ _ hjk,i2]
    by_cases hj:j < k/\ofB ts j=true
    ·rw[if_pos hj,if_pos ⟨by omega,hj.2⟩]
    ·rw[if_neg hj,if_neg fun h=>hj ⟨by omega,h.2⟩]
theorem zAO{ts:List Ty}(hts:zzg ts){P now:Nat->Int}{x:Int}(hn:∀j,now j=if j < ts.length/\ofB ts j=true then (dN ts P x ts.length).pays j else 0):∀k,k<=ts.length->(∀j,(a2 ts P now k).1 j=if j < k then (dN ts P x k).pays j else now j)/\∀j,(a2 ts P now k).2 j=if j < k then (dN ts P x k).keeps j else now j
 | 0,_=>⟨fun j=>by rw[if_neg (by omega)]; rfl,fun j=>by rw[if_neg (by omega)]; rfl⟩
 | k+1,hk=>by
  obtain⟨i1,i2⟩:=zAO hts hn k (by omega);have hg:=List.getElem?_eq_getElem (show k < ts.length by omega);have hof:=hts.o k _ hg;have hst:(dN ts P x ts.length).pays k=(dN ts P x (k+1)).pays k:=zAM (by omega) (by omega);rw[zze hg] at hst;rw[zAz hg,zze hg];have hfk:=zAL hg;have hnk:=hn k;generalize ts[k]'(by omega)=t at hg hof hfk hst
  by_cases ho:0<=t.Of
  ·have hne:t.Of.toNat ≠ k:=by omega
   have hlt:t.Of.toNat < k:=by omega
   have er:(a2 ts P now k).2 t.Of.toNat=(dN ts P x k).keeps t.Of.toNat:=by rw[i2,if_pos hlt]
   unfold zzd;rw[if_pos ho,if_neg (show ¬ t.Of = -1 by omega),er];refine⟨fun j=>?_,fun j=>?_⟩
   ·show upF (a2 ts P now k).1 k _ j=if j < k+1 then upF (dN ts P x k).pays k _ j else now j
    by_cases hjk:j=k
    ·subst hjk; rw[zyp,zyp,if_pos (by omega)]
    ·rw[zyq _ _ hjk,zyq _ _ hjk,i1]
     by_cases hj:j < k
     ·rw[if_pos hj,if_pos (by omega)]
     ·rw[if_neg hj,if_neg (by omega)]
   ·show upF (upF (a2 ts P now k).2 k _) _ _ j=if j < k+1 then upF (upF (dN ts P x k).keeps _ _) k _ j else now j
    by_cases hjk:j=k
    ·subst hjk; rw[zyq _ _ (Ne.symm hne),zyp,zyp,if_pos (by omega)]
    ·rw[zyq _ (zy6 t _ _) hjk]
     by_cases hjo:j=t.Of.toNat
     ·subst hjo; rw[zyp,zyp,if_pos (by omega)]
     ·rw[zyq _ _ hjo,zyq _ _ hjo,zyq _ _ hjk,i2]
      by_cases hj:j < k
      ·rw[if_pos hj,if_pos (by omega)]
      ·rw[if_neg hj,if_neg (by omega)]
  ·rw[if_neg ho]
   have hfk':ofB ts k=true:=by rw[hfk]; exact decide_eq_true (by omega)
   rw[if_pos ⟨by omega,hfk'⟩,hst] at hnk;unfold zzd at hnk ⊢;rw[if_pos (show t.Of = -1 by omega)] at hnk ⊢;have hnk:now k=upF (dN ts P x k).pays k (zy6 t (dN ts P x k).soc (P k)) k:=hnk;rw[zyp] at hnk;refine⟨fun j=>?_,fun j=>?_⟩
   ·show(a2 ts P now k).1 j=if j < k+1 then upF (dN ts P x k).pays k _ j else now j
    by_cases hjk:j=k
    ·subst hjk; rw[zyp,if_pos (by omega),i1,if_neg (by omega)]; exact hnk
    ·rw[zyq _ _ hjk,i1]
     by_cases hj:j < k
     ·rw[if_pos hj,if_pos (by omega)]
     ·rw[if_neg hj,if_neg (by omega)]
   ·show(a2 ts P now k).2 j=if j < k+1 then upF (dN ts P x k).keeps k _ j else now j
    by_cases hjk:j=k
    ·subst hjk; rw[zyp,if_pos (by omega),i2,if_neg (by omega)]; exact hnk
    ·rw[zyq _ _ hjk,i2]
     by_cases hj:j < k
     ·rw[if_pos hj,if_pos (by omega)]
     ·rw[if_neg hj,if_neg (by omega)]
theorem zAP{ts:List Ty}(hts:zzg ts){th:Nat->Bool}(hth:∀j,j < ts.length->th j=true):∀(L:List Int) (s:(Nat->Int) × Int) (o:DS),(∀j,s.1 j=o.pays j)->s.2=o.soc->(∀j,ts.length<=j->o.pays j=0) ->
  (∀j,(L.foldl (zAC ts th) s).1 j=(L.foldl (zzl ts) o).pays j)/\(L.foldl (zAC ts th) s).2=(L.foldl (zzl ts) o).soc
 | [],s,o,h1,h2,_=>⟨h1,h2⟩
 | x::L,s,o,h1,h2,h3=>by
  have hs1:s.1=o.pays:=funext h1;obtain⟨c1,c2⟩:=zAN hts hth (P:=o.pays) (x:=x) ts.length (Nat.le_refl _);obtain⟨c3,_⟩:=zAO hts (P:=o.pays) (x:=x) c2 ts.length (Nat.le_refl _)
  have hz:∀(k j:Nat),k<=ts.length->k<=j->(dN ts o.pays x k).pays j=0:=fun k=>by
   induction k with
   | zero=>intro j _ _; rfl
   | succ k ih=>
    intro j hk hj;have hg:=List.getElem?_eq_getElem (show k < ts.length by omega);rw[zze hg];unfold zzd
    split
    ·show upF _ k _ j=0; rw[zyq _ _ (by omega)]; exact ih j (by omega) (by omega)
    ·show upF _ k _ j=0; rw[zyq _ _ (by omega)]; exact ih j (by omega) (by omega)
  have e1:∀j,(zAC ts th s x).1 j=(zzl ts o x).pays j:=fun j=>by
   show s.1 j+(a2 ts s.1 (a1 ts th s.1 x ts.length).1 ts.length).1 j=o.pays j+(dN ts o.pays x ts.length).pays j
   rw[hs1,c3]
   by_cases hj:j < ts.length
   ·rw[if_pos hj]
   ·rw[if_neg hj,c2,if_neg fun h=>hj h.1,hz ts.length j (Nat.le_refl _) (by omega)]
  refine zAP hts hth L (zAC ts th s x) (zzl ts o x) e1 ?_ fun j hj=>?_
  ·show s.2+(a1 ts th s.1 x ts.length).2=o.soc+(dN ts o.pays x ts.length).soc
   rw[hs1,c1,h2]
  ·show o.pays j+(dN ts o.pays x ts.length).pays j=0
   rw[h3 j hj,hz ts.length j (Nat.le_refl _) hj]; rfl
theorem zAQ{ts:List Ty}(hts:zzg ts){th:Nat->Bool}(hth:∀j,j < ts.length->th j=true)(L:List Int):(∀j,(zAD ts th L).1 j=(zzm ts L).pays j)/\(zAD ts th L).2=(zzm ts L).soc:=
 zAP hts hth L _ _ (fun _=>rfl) rfl fun _ _=>rfl
end
end Go.Proofs.YtkcmdghjgoaggaaGreat

namespace Go.Proofs.YtkcmdghjgoaggaaGreat
open _root_.Go.Proofs.Tryz
open Go.Abs
set_option maxRecDepth 100000
noncomputable section
def zAR(n:Nat):List Int:=(List.range n).map fun j=>((j:Nat):Int)
theorem zAS(n:Nat):Inc n 0 (zAR n):=by
 refine⟨?_,fun v hv=>?_⟩
 ·unfold zAR;rw[List.pairwise_map]
  exact List.pairwise_lt_range.imp fun h=>by omega
 ·obtain⟨j,hj,rfl⟩:=List.mem_map.1 hv;have:=List.mem_range.1 hj
  omega
theorem zAT{n j:Nat}(h:j < n):inD (zAR n) j=true:=decide_eq_true (List.mem_map.2 ⟨j,List.mem_range.2 h,rfl⟩)
structure zAU (n:Nat) (P:(Nat->Bool)->Prop) (M:List Int):Prop where
 inc:Inc n 0 M
 ok:P (inD M)
 min:∀D,Inc n 0 D->P (inD D)->D=M\/shB M D=true
theorem zAU.uniq{n:Nat}{P:(Nat->Bool)->Prop}{M M':List Int}(h:zAU n P M)(h':zAU n P M'):M=M':=by
 rcases h.min M' h'.inc h'.ok with h1 | h1
 ·exact h1.symm
 ·rcases h'.min M h.inc h.ok with h2 | h2
  ·exact h2
  ·rw[zx8 h1] at h2; cases h2
def macc(S:Nat->Bool):Nat->Nat
 | 0=>0
 | i+1=>if S i=true then macc S i ||| 2 ^ i else macc S i
theorem zAV(S:Nat->Bool)(j:Nat):∀i,(macc S i).testBit j=(decide (j < i) && S j)
 | 0=>by simp[macc]
 | i+1=>by
  have ih:=zAV S j i;unfold macc
  by_cases hs:S i=true
  ·rw[if_pos hs,Nat.testBit_or,ih,Nat.testBit_two_pow]
   by_cases h:i=j
   ·subst h; simp[hs]
   ·have:decide (j < i+1)=decide (j < i):=decide_eq_decide.2 (by omega);rw[this]; simp[h]
  ·rw[if_neg hs,ih]
   by_cases h:i=j
   ·subst h
    have:S i=false:=by simpa using hs
    rw[this]; simp
   ·have:decide (j < i+1)=decide (j < i):=decide_eq_decide.2 (by omega);rw[this]
theorem zAW(S:Nat->Bool)(i:Nat):macc S i < 2 ^ i:=by
 apply Nat.lt_pow_two_of_testBit
 intro j hj;rw[zAV,decide_eq_false (by omega)]; rfl
theorem zAX{i:Nat}(h:i<=6):2 ^ i<=64:=Nat.pow_le_pow_right (n:=2) (by omega) h
def zAY:List Rg->Int->List Int
 | [],_=>[]
 | r::rs,n=>(r.Lo+n % (r.Hi - r.Lo+1))::zAY rs (n / (r.Hi - r.Lo+1))
theorem zAZ:∀{rs:List Rg} {n:Int},(∀r∈rs,r.Lo<=r.Hi)->0<=n->inL rs (zAY rs n)
 | [],_,_,_=>trivial
 | r::rs,n,h,h0=>by
  have hr:=h r (List.mem_cons_self ..);have h1:=Int.emod_nonneg n (show r.Hi - r.Lo+1 ≠ 0 by omega);have h2:=Int.emod_lt_of_pos n (show 0 < r.Hi - r.Lo+1 by omega);exact⟨⟨by omega,by omega⟩,zAZ (fun r hr=>h r (List.mem_cons_of_mem _ hr)) (Int.ediv_nonneg h0 (by omega))⟩
theorem zA0:∀{rs:List Rg} {L:List Int},inL rs L->∃n,0<=n/\n < zyy rs/\zAY rs n=L
 | [],[],_=>⟨0,Int.le_refl _,by show(0:Int) < 1; omega,rfl⟩
 | [],_::_,h=>h.elim
 | _::_,[],h=>h.elim
 | r::rs,x::xs,h=>by
  obtain⟨n,h0,h1,h2⟩:=zA0 h.2;have hx:=h.1;obtain⟨c,hc⟩:∃c,c=r.Hi - r.Lo+1:=⟨_,rfl⟩;refine⟨(x - r.Lo)+c * n,?_,?_,?_⟩
  ·have:=Int.mul_nonneg (show 0<=c by omega) h0; omega
  ·show _ < (r.Hi - r.Lo+1) * zyy rs
   rw[<- hc];have:=Int.mul_le_mul_of_nonneg_left (show n+1<=zyy rs by omega) (show 0<=c by omega);rw[Int.mul_add,Int.mul_one] at this
   omega
  ·show(r.Lo+_ % (r.Hi - r.Lo+1))::zAY rs (_ / (r.Hi - r.Lo+1))=_
   rw[<- hc,Int.add_mul_emod_self_left,Int.emod_eq_of_lt (by omega) (by omega),Int.add_mul_ediv_left _ _ (by omega),Int.ediv_eq_zero_of_lt (by omega) (by omega),Int.zero_add,h2]
   congr 1; omega
theorem zA1{p:Pg}(h:VP p):∀(d k:Nat) (acc:List Int) (n:Int),k<=p.Losses.length->p.Losses.length - k < d->acc.length=k->0<=n/\n<=100000->zsF p d acc n (k:Int)=some (acc++zAY (p.Losses.drop k) n)
 | 0,_,_,_,_,hd,_,_=>by omega
 | d+1,k,acc,n,hk,hd,ha,hn=>by
  have h4:=h.l4;rw[zsF]
  by_cases hkl:k < p.Losses.length
  ·have hg:=List.getElem?_eq_getElem hkl;have hr:=h.ls _ (List.getElem_mem hkl);rw[List.drop_eq_getElem_cons hkl];generalize p.Losses[k]=r at hg hr;have hr':=hr;unfold RgV at hr';have h1:=Int.emod_nonneg n (show r.Hi - r.Lo+1 ≠ 0 by omega);have h2:=Int.emod_lt_of_pos n (show 0 < r.Hi - r.Lo+1 by omega);have h3:=Int.ediv_nonneg hn.1 (show 0<=r.Hi - r.Lo+1 by omega);have h5:=Int.ediv_le_self (r.Hi - r.Lo+1) hn.1
   simp only[zrU hg,obs,zyX hr]
   rw[if_pos (by omega),zqs hn.1,zqs (by omega),zqs (fI (by omega)),zqs (fI (by omega)),zqs (by omega),zqs hn.1,zqs (by omega),zqs (fI (by omega)),zqs (fI (by omega)),show(k:Int)+1=((k+1:Nat):Int) by omega];refine(zA1 h d (k+1) (acc++[r.Lo+n % (r.Hi - r.Lo+1)]) (n / (r.Hi - r.Lo+1)) (by omega) (by omega) (by rw[List.length_append,ha]; rfl) (by omega)).trans ?_;rw[List.append_assoc]; rfl
  ·rw[if_neg (by omega),List.drop_eq_nil_of_le (by omega)]
   show _=some (acc++[])
   rw[List.append_nil]
theorem zA2{p:Pg}(h:VP p){n:Int}(hn:0<=n/\n<=100000):zsG p n=some (zAY p.Losses n):=zA1 h 1000000 0 [] n (Nat.zero_le _) (by have:=h.l4; omega) rfl hn
theorem VP.nthIn{p:Pg}(h:VP p){n:Int}(hn:0<=n):inL p.Losses (zAY p.Losses n):=zAZ (fun r hr=>(h.ls r hr).2.1) hn
def kpN(ts:List Ty)(P:Nat->Int)(k:Nat):Nat->Int
 | 0=>P k
 | m+1=>match ts[m]? with
  | some t=>if t.Of=(k:Int) then kpN ts P k m - P m else kpN ts P k m
  | none=>kpN ts P k m
theorem zA3{ts:List Ty}{P:Nat->Int}{k m:Nat}{t:Ty}(h:ts[m]? = some t):kpN ts P k (m+1)=if t.Of=(k:Int) then kpN ts P k m - P m else kpN ts P k m:=by
 show(match ts[m]? with | some t=>_ | none=>_)=_
 rw[h]
theorem zA4{ts:List Ty}{P:Nat->Int}{k:Nat}(hP:∀j,0<=P j/\P j<=100000):∀m,-100000 * m<=kpN ts P k m/\kpN ts P k m<=100000
 | 0=>by have:=hP k; show -100000 * ((0:Nat):Int)<=P k/\P k<=_; omega
 | m+1=>by
  have ih:=zA4 (ts:=ts) (k:=k) hP m;have hm:=hP m
  show -100000 * ((m+1:Nat):Int)<=(match ts[m]? with | some t=>if t.Of=(k:Int) then kpN ts P k m - P m else kpN ts P k m | none=>kpN ts P k m)/\(match ts[m]? with | some t=>if t.Of=(k:Int) then kpN ts P k m - P m else kpN ts P k m | none=>kpN ts P k m)<=_
  cases ts[m]? with
  | none=>exact⟨by show _<=kpN ts P k m; omega,ih.2⟩
  | some t=>
   show _<=(if t.Of=(k:Int) then kpN ts P k m - P m else kpN ts P k m)/\(if t.Of=(k:Int) then kpN ts P k m - P m else kpN ts P k m)<=_
   split <;> omega
theorem zA5{ts:List Ty}{P P':Nat->Int}{k:Nat}(h0:P k=P' k):∀m,(∀j,j < m->P j=P' j)->kpN ts P k m=kpN ts P' k m
 | 0,_=>h0
 | m+1,h=>by
  show(match ts[m]? with | some t=>if t.Of=(k:Int) then kpN ts P k m - P m else kpN ts P k m | none=>kpN ts P k m)=(match ts[m]? with | some t=>if t.Of=(k:Int) then kpN ts P' k m - P' m else kpN ts P' k m | none=>kpN ts P' k m)
  rw[zA5 h0 m fun j hj=>h j (by omega),h m (by omega)]
theorem zA6{ts:List Ty}(ho:zyu ts){P:Nat->Int}{k:Nat}:∀m,m<=k+1->kpN ts P k m=P k
 | 0,_=>rfl
 | m+1,h=>by
  have ih:=zA6 ho (P:=P) (k:=k) m (by omega)
  cases hg:ts[m]? with
  | none=>show(match ts[m]? with | some t=>if t.Of=(k:Int) then kpN ts P k m - P m else kpN ts P k m | none=>kpN ts P k m)=_; rw[hg]; exact ih
  | some t=>rw[zA3 hg,if_neg (by have:=ho m t hg; omega),ih]
theorem zA7{ts:List Ty}{P Q:Nat->Int}{k:Nat}:∀m,kpN ts (fun j=>P j+Q j) k m=kpN ts P k m+kpN ts Q k m
 | 0=>rfl
 | m+1=>by
  have ih:=zA7 (ts:=ts) (P:=P) (Q:=Q) (k:=k) m
  cases hg:ts[m]? with
  | none=>
   have e:∀P,kpN ts P k (m+1)=kpN ts P k m:=fun P=>by show(match ts[m]? with | some t=>if t.Of=(k:Int) then kpN ts P k m - P m else kpN ts P k m | none=>kpN ts P k m)=_; rw[hg]
   rw[e,e,e,ih]
  | some t=>
   rw[zA3 hg,zA3 hg,zA3 hg,ih]
   by_cases hc:t.Of=(k:Int)
   ·rw[if_pos hc,if_pos hc,if_pos hc]; omega
   ·rw[if_neg hc,if_neg hc,if_neg hc]
theorem zA8{ts:List Ty}{k:Nat}:∀m,kpN ts (fun _=>0) k m=0
 | 0=>rfl
 | m+1=>by
  show(match ts[m]? with | some t=>if t.Of=(k:Int) then kpN ts (fun _=>0) k m - 0 else kpN ts (fun _=>0) k m | none=>kpN ts (fun _=>0) k m)=0
  rw[zA8 m]
  cases ts[m]? with
  | none=>rfl
  | some t=>show(if _ then (0:Int) - 0 else 0)=0; split <;> rfl
theorem zA9{ts:List Ty}(hts:zzg ts){P:Nat->Int}{x:Int}:∀m,m<=ts.length->∀k,k < m->(dN ts P x m).keeps k=kpN ts (dN ts P x m).pays k m
 | 0,_,_,h=>by omega
 | m+1,hm,k,hk=>by
  have ih:=zA9 hts (P:=P) (x:=x) m (by omega);have hg:=List.getElem?_eq_getElem (show m < ts.length by omega);have ho:=hts.o m _ hg;rw[zze hg,zA3 hg];generalize ts[m]'(by omega)=t at hg ho;unfold zzd
  by_cases h1:t.Of = -1
  ·rw[if_pos h1,if_neg (by omega)]
   show upF (dN ts P x m).keeps m _ k=kpN ts (upF (dN ts P x m).pays m _) k m
   by_cases hkm:k=m
   ·subst hkm; rw[zA6 hts.o _ (by omega),zyp,zyp]
   ·rw[zyq _ _ hkm,ih k (by omega)];exact zA5 (zyq _ _ hkm).symm m fun j hj=>(zyq _ _ (by omega)).symm
  ·rw[if_neg h1]
   show upF (upF (dN ts P x m).keeps t.Of.toNat _) m _ k=if t.Of=(k:Int) then kpN ts (upF (dN ts P x m).pays m _) k m - upF (dN ts P x m).pays m _ m else kpN ts (upF (dN ts P x m).pays m _) k m
   rw[zyp]
   by_cases hkm:k=m
   ·subst hkm; rw[if_neg (by omega),zA6 hts.o _ (by omega),zyp,zyp]
   ·have e:∀a,kpN ts (upF (dN ts P x m).pays m a) k m=(dN ts P x m).keeps k:=fun a=>by
     rw[ih k (by omega)];exact zA5 (zyq _ _ hkm) m fun j hj=>zyq _ _ (by omega)
    rw[zyq _ _ hkm,e]
    by_cases hc:t.Of=(k:Int)
    ·rw[if_pos hc,show t.Of.toNat=k by omega,zyp]
    ·rw[if_neg hc,zyq _ _ (by omega)]
theorem zBa{ts:List Ty}(hts:zzg ts){k:Nat}(hk:k < ts.length):∀(L:List Int) (s:DS),s.keeps k=kpN ts s.pays k ts.length->(L.foldl (zzl ts) s).keeps k=kpN ts (L.foldl (zzl ts) s).pays k ts.length
 | [],_,h=>h
 | x::L,s,h=>zBa hts hk L (zzl ts s x) (by
  show s.keeps k+(dN ts s.pays x ts.length).keeps k=kpN ts (fun j=>s.pays j+(dN ts s.pays x ts.length).pays j) k ts.length
  rw[zA7,<- h,zA9 hts ts.length (Nat.le_refl _) k hk])
theorem zBb{ts:List Ty}(hts:zzg ts){k:Nat}(hk:k < ts.length)(L:List Int):(zzm ts L).keeps k=kpN ts (zzm ts L).pays k ts.length:=zBa hts hk L zzk (zA8 _).symm
theorem zBc{p:Pg}(h:VP p){P:Nat->Int}(hP:∀j,0<=P j/\P j<=100000){k:Nat}(hk:k < p.Treaties.length):zsP p (lN p.Treaties.length P) (k:Int)=some (kpN p.Treaties P k p.Treaties.length):=by
 have h5:=h.t5;unfold zsP;rw[zAs h5 _ hk,obs];refine zyk (n:=p.Treaties.length) (fun d acc x=>zsO p (lN p.Treaties.length P) (k:Int) d acc x) (fun m=>kpN p.Treaties P k m) (fun d m hm=>?_) (fun d=>?_) 1000000 0 (by omega) (by omega)
 ·have hg:=List.getElem?_eq_getElem hm;have hb:=zA4 (ts:=p.Treaties) (k:=k) hP m;have hPm:=hP m
  show zsO p _ _ (d+1) _ _=_
  rw[zsO,if_pos (by omega),zrU hg,obs,zA3 hg]
  by_cases hc:(p.Treaties[m]).Of=(k:Int)
  ·rw[if_pos hc,if_pos hc,zAs h5 _ hm,obs,zqs (fI (by omega)),zqs (fI (by omega))]
  ·rw[if_neg hc,if_neg hc,zqs (fI (by omega))]
 ·show zsO p _ _ (d+1) _ _=_
  rw[zsO,if_neg (Int.lt_irrefl _)]
theorem zBd{p:Pg}(h:VP p){P:Nat->Int}(hP:∀j,0<=P j/\P j<=100000){k:Nat}(hk:k < p.Treaties.length):zuP p (lN p.Treaties.length P) (k:Int)=some (kpN p.Treaties P k p.Treaties.length):=by
 have h5:=h.t5;unfold zuP;rw[zAs h5 _ hk,obs];refine zyk (n:=p.Treaties.length) (fun d acc x=>zuO p (lN p.Treaties.length P) (k:Int) d acc x) (fun m=>kpN p.Treaties P k m) (fun d m hm=>?_) (fun d=>?_) 1000000 0 (by omega) (by omega)
 ·have hg:=List.getElem?_eq_getElem hm;have hb:=zA4 (ts:=p.Treaties) (k:=k) hP m;have hPm:=hP m
  show zuO p _ _ (d+1) _ _=_
  rw[zuO,if_pos (by omega),if_pos (by rw[zAi h5]; omega),zrU hg,obs,zA3 hg]
  by_cases hc:(p.Treaties[m]).Of=(k:Int)
  ·rw[if_pos hc,if_pos hc,zAs h5 _ hm,obs,zqs (fI (by omega)),zqs (fI (by omega))]
  ·rw[if_neg hc,if_neg hc,zqs (fI (by omega))]
 ·show zuO p _ _ (d+1) _ _=_
  rw[zuO,if_neg (Int.lt_irrefl _)]
theorem zBe{n:Nat}(h:n<=6):(1:Int) * 2 ^ (Int.toNat (zmc .u64 (n:Int)))=((2 ^ n:Nat):Int):=by rw[wu (by omega),Int.toNat_natCast,Int.one_mul,Int.natCast_pow]; rfl
theorem zBf{n:Nat}(h:n<=6):(gd ((0:Int)<=(1:Int)) (gd ((0:Int)<=(zmc .u64 (n:Int))) (gd ((zmc .u64 (n:Int))<=(64:Int)) (gd (zl7 .i64 ((1:Int) * ((2:Int) ^ (Int.toNat (zmc .u64 (n:Int)))))) (gd (zl7 .i64 (((1:Int) * ((2:Int) ^ (Int.toNat (zmc .u64 (n:Int))))) - (1:Int))) (some (((1:Int) * ((2:Int) ^ (Int.toNat (zmc .u64 (n:Int))))) - (1:Int))))))))=some ((2 ^ n - 1:Nat):Int):=by
 have hp:=zAX h;have hp0:0 < 2 ^ n:=Nat.two_pow_pos _;rw[zBe h,zqs (by omega),wu (by omega),zqs (by omega),zqs (by omega),zqs (fI (by omega)),zqs (fI (by omega))]
 congr 1
 omega
theorem zBg{p:Pg}(h:VP p):zsT p=some ((2 ^ p.Reports.length - 1:Nat):Int):=zBf (by have:=h.r5; omega)
theorem zBh{p:Pg}(h:VP p):zsI p=some ((2 ^ p.Treaties.length - 1:Nat):Int):=zBf (by have:=h.t5; omega)
theorem l9{p:Pg}(h:VP p){L:List Int}(hL:inL p.Losses L):L.length<=9:=by rw[zzz hL]; have:=h.l4; omega
theorem zBi{p:Pg}(h:VP p){L:List Int}(hL:inL p.Losses L):zsN p L ((2 ^ p.Treaties.length - 1:Nat):Int)=some (lN p.Treaties.length (zzm p.Treaties L).pays,(zzm p.Treaties L).soc):=by
 have h5:=h.t5;have hp:=zAX (i:=p.Treaties.length) (by omega);rw[zAK h (by omega) (zzC hL h.ls) (l9 h hL)];obtain⟨e1,e2⟩:=zAQ h.tsOk (th:=fun k=>(2 ^ p.Treaties.length - 1).testBit k) (fun j hj=>by rw[Nat.testBit_two_pow_sub_one,decide_eq_true hj]) L;rw[zAx h5 fun j _=>e1 j,e2]
open Classical in
def agR(P:Nat->Int)(r:Rpt):Prop:=r.Paid.Lo<=P r.Treaty.toNat/\P r.Treaty.toNat<=r.Paid.Hi
open Classical in
def agf(p:Pg)(L:List Int)(j:Nat):Bool:=decide (∀r,p.Reports[j]? = some r->agR (zzm p.Treaties L).pays r)
open Classical in
theorem zBj{p:Pg}{L:List Int}{j:Nat}{r:Rpt}(h:p.Reports[j]? = some r):agf p L j=true↔agR (zzm p.Treaties L).pays r:=by
 unfold agf;rw[decide_eq_true_eq];exact⟨fun q=>q r h,fun q r' h'=>by rw[h] at h'; cases h'; exact q⟩
def zBk(p:Pg)(L:List Int):Nat:=macc (agf p L) p.Reports.length
def PL(p:Pg)(S:Nat->Bool):Prop:=∃L,inL p.Losses L/\∀j,j < p.Reports.length->S j=false->agf p L j=true
theorem PL.congr{p:Pg}{S S':Nat->Bool}(h:∀j,j < p.Reports.length->S j=S' j):PL p S↔PL p S':=
 exists_congr fun _=>and_congr_right fun _=>forall_congr' fun j=>forall_congr' fun hj=>by rw[h j hj]
theorem zBl{p:Pg}(h:VP p){L:List Int}(hL:inL p.Losses L):(∀j,0<=(zzm p.Treaties L).pays j/\(zzm p.Treaties L).pays j<=4000)/\(∀j,0<=(zzm p.Treaties L).keeps j/\(zzm p.Treaties L).keeps j<=4000)/\0<=(zzm p.Treaties L).soc/\(zzm p.Treaties L).soc<=4000:=by
 obtain⟨h1,h2,h3⟩:=zzQ h hL;refine⟨fun j=>?_,fun j=>?_,?_⟩
 ·have:=h1.pays j; omega
 ·have:=h1.keeps j; omega
 ·have:=h1.soc; omega
theorem zBm{p:Pg}(h:VP p){L:List Int}(_hL:inL p.Losses L){l:List Int}(hl:l.length < 1000000){x:Int}(hx:0<=x/\x<=100000){K:List Int->Int->Option (List Int)}:zsQ p l x (lN p.Treaties.length (zzm p.Treaties L).pays,(zzm p.Treaties L).soc) K 1000000 0 0=K (l++[(zBk p L:Int)]) (x+1):=by
 have h5:=h.t5;have hr5:=h.r5;refine zyk (n:=p.Reports.length) (fun d (s:Int) y=>zsQ p l x (lN p.Treaties.length (zzm p.Treaties L).pays,(zzm p.Treaties L).soc) K d s y) (fun k=>(macc (agf p L) k:Int)) (fun d k hk=>?_) (fun d=>?_) 1000000 0 (by omega) (by omega)
 ·have hg:=List.getElem?_eq_getElem hk;have hr:=(h.rs _ (List.getElem_mem hk)).1;have hag:=zBj (L:=L) hg;generalize p.Reports[k]=r at hg hr hag;have hm:=zAW (agf p L) k;have hm':=zAW (agf p L) (k+1);have hp:=zAX (i:=k) (by omega);have hp':=zAX (i:=k+1) (by omega)
  show zsQ p l x _ K (d+1) _ _=_
  rw[zsQ,if_pos (by omega),zrU hg,obs,zAt h5 _ hr.1 (by omega),obs]
  show(zsw ((zzm p.Treaties L).pays r.Treaty.toNat) r.Paid.Lo r.Paid.Hi).bind _=_
  by_cases hc:agR (zzm p.Treaties L).pays r
  ·have hs:agf p L k=true:=hag.2 hc
   have hmm:Nat.lor (macc (agf p L) k) (2 ^ k)=macc (agf p L) (k+1):=by
    conv=>rhs; unfold macc
    rw[if_pos hs]; rfl
   rw[zyU.some_of hc,obs,if_pos rfl,zBe (by omega),zqs (by omega),wu (by omega),zqs (by omega),zqs (by omega),zqs (fI (by omega)),zqs (by omega),zqs (by omega),zqs (fI (by omega)),zqs (fI (by omega)),Int.toNat_natCast,Int.toNat_natCast,hmm,zqs (fI (by omega)),zqs (fI (by omega))]
  ·have hs:¬ agf p L k=true:=fun q=>hc (hag.1 q)
   have hmm:macc (agf p L) (k+1)=macc (agf p L) k:=by
    conv=>lhs; unfold macc
    rw[if_neg hs]
   rw[zyU.some_not hc,obs,if_neg (by decide),zqs (fI (by omega)),hmm]
 ·show zsQ p l x _ K (d+1) _ _=_
  rw[zsQ,if_neg (Int.lt_irrefl _),zqs (by omega),zqs (fI (by omega))]; rfl
def zBn(p:Pg):List Int:=(List.range (zyy p.Losses).toNat).map fun n:Nat=>(zBk p (zAY p.Losses (n:Int)):Int)
theorem zBo{p:Pg}:(zBn p).length=(zyy p.Losses).toNat:=by unfold zBn; rw[List.length_map,List.length_range]
theorem zBp{p:Pg}{n:Nat}(h:n < (zyy p.Losses).toNat):(zBn p)[n]? = some (zBk p (zAY p.Losses (n:Int)):Int):=by unfold zBn; rw[List.getElem?_map,List.getElem?_range h]; rfl
theorem VP.prodPos{p:Pg}(h:VP p):1<=zyy p.Losses:=(zyN h.ls h.l4).1
theorem zBq{p:Pg}(h:VP p):zsS p=some (zBn p):=by
 have hm:=h.many;have h1:=h.prodPos;refine zyk (n:=(zyy p.Losses).toNat) (fun d (s:List Int) y=>zsR p d s y) (fun k=>(zBn p).take k) (fun d k hk=>?_) (fun d=>?_) 1000000 0 (by omega) (by omega)
 ·show zsR p (d+1) _ _=_
  have hin:=h.nthIn (n:=(k:Int)) (by omega);rw[zsR,zy1 h,obs,if_pos (by omega),zA2 h (by omega),obs,zBh h,obs,zBi h hin,obs,zBm h hin (by rw[List.length_take,zBo]; omega) (by omega),List.take_add_one,zBp hk]; rfl
 ·show zsR p (d+1) _ _=_
  rw[zsR,zy1 h,obs,if_neg (by omega),List.take_of_length_le (by rw[zBo]; exact Nat.le_refl _)]
end
end Go.Proofs.YtkcmdghjgoaggaaGreat

namespace Go.Proofs.YtkcmdghjgoaggaaGreat
open _root_.Go.Proofs.Tryz
open Go.Abs
set_option maxRecDepth 100000
noncomputable section
theorem zBr{p:Pg}{L:List Int}:zBk p L=2 ^ p.Reports.length - 1↔agN (zzm p.Treaties L).pays p.Reports:=by
 constructor
 ·intro h r hr;obtain⟨j,hj⟩:=List.mem_iff_getElem?.1 hr;have hjl:=(List.getElem?_eq_some_iff.1 hj).1
  have e:(zBk p L).testBit j=true:=by rw[h,Nat.testBit_two_pow_sub_one,decide_eq_true hjl]
  unfold zBk at e;rw[zAV] at e;exact(zBj hj).1 (Bool.and_eq_true_iff.1 e).2
 ·intro h
  apply Nat.eq_of_testBit_eq
  intro j;unfold zBk;rw[zAV,Nat.testBit_two_pow_sub_one]
  by_cases hj:j < p.Reports.length
  ·have hg:=List.getElem?_eq_getElem hj;rw[decide_eq_true hj,(zBj hg).2 (h _ (List.getElem_mem hj))]; rfl
  ·rw[decide_eq_false hj]; rfl
def trL(p:Pg):List (List Int):=((List.range (zyy p.Losses).toNat).filter fun n:Nat=>decide (zBk p (zAY p.Losses (n:Int))=2 ^ p.Reports.length - 1)).map fun n:Nat=>zAY p.Losses (n:Int)
theorem zBs{p:Pg}(h:VP p){L:List Int}:L∈trL p↔TrS p p.Reports L:=by
 unfold trL TrS;rw[List.mem_map]
 constructor
 ·rintro⟨n,hn,rfl⟩
  obtain⟨_,h2⟩:=List.mem_filter.1 hn;exact⟨h.nthIn (by omega),zBr.1 (of_decide_eq_true h2)⟩
 ·rintro⟨hL,hA⟩
  obtain⟨n,n0,n1,rfl⟩:=zA0 hL;refine⟨n.toNat,List.mem_filter.2 ⟨List.mem_range.2 (by omega),decide_eq_true ?_⟩,?_⟩
  ·rw[show((n.toNat:Nat):Int)=n by omega]; exact zBr.2 hA
  ·show zAY p.Losses ((n.toNat:Nat):Int)=_
   rw[show((n.toNat:Nat):Int)=n by omega]
theorem zBt{p:Pg}(h:VP p):(trL p).length<=1500:=by
 have h1:=h.many;have h2:=h.prodPos;unfold trL;rw[List.length_map];have:=List.length_filter_le (fun n:Nat=>decide (zBk p (zAY p.Losses (n:Int))=2 ^ p.Reports.length - 1)) (List.range (zyy p.Losses).toNat);rw[List.length_range] at this
 omega
theorem zBu{p:Pg}(h:VP p):zsV p=some (trL p):=by
 have hm:=h.many;have h1:=h.prodPos;have hp:=zAX (i:=p.Reports.length) (by have:=h.r5; omega);have hp0:=Nat.two_pow_pos p.Reports.length;unfold zsV;rw[zBq h,obs];refine zyk (n:=(zyy p.Losses).toNat) (fun d (s:List (List Int)) y=>zsU p (zBn p) d s y) (fun k=>((List.range k).filter fun n:Nat=>decide (zBk p (zAY p.Losses (n:Int))=2 ^ p.Reports.length - 1)).map fun n:Nat=>zAY p.Losses (n:Int)) (fun d k hk=>?_) (fun d=>?_) ((zBn p).length+1) 0 (by omega) (by rw[zBo]; omega)
 ·show zsU p (zBn p) (d+1) _ _=_
  have hle:=List.length_filter_le (fun n:Nat=>decide (zBk p (zAY p.Losses (n:Int))=2 ^ p.Reports.length - 1)) (List.range k);rw[List.length_range] at hle;rw[zsU,if_pos (by rw[zBo]; omega),zrU (zBp hk),obs,zBg h,obs,List.range_succ,List.filter_append,List.map_append]
  by_cases hc:zBk p (zAY p.Losses (k:Int))=2 ^ p.Reports.length - 1
  ·rw[if_pos (by rw[hc]),zA2 h (by omega),obs,zqs (by rw[List.length_map]; omega),zqs (fI (by omega)),List.filter_cons,if_pos (decide_eq_true hc)]; rfl
  ·rw[if_neg fun e=>hc (Int.ofNat_inj.1 e),zqs (fI (by omega)),List.filter_cons,if_neg fun e=>hc (of_decide_eq_true e)];rw[List.filter_nil,List.map_nil,List.append_nil]
 ·show zsU p (zBn p) (d+1) _ _=_
  rw[zsU,if_neg (by rw[zBo]; omega)]; rfl
theorem zBv{p:Pg}:zz4 p p.Reports↔PL p fun j=>!(2 ^ p.Reports.length - 1).testBit j:=by
 constructor
 ·rintro⟨L,h1,h2⟩
  exact⟨L,h1,fun j hj _=>(zBj (List.getElem?_eq_getElem hj)).2 (h2 _ (List.getElem_mem hj))⟩
 ·rintro⟨L,h1,h2⟩
  refine⟨L,h1,fun r hr=>?_⟩;obtain⟨j,hj⟩:=List.mem_iff_getElem?.1 hr;have hjl:=(List.getElem?_eq_some_iff.1 hj).1;exact(zBj hj).1 (h2 j hjl (by show(!(2 ^ p.Reports.length - 1).testBit j)=false; rw[Nat.testBit_two_pow_sub_one,decide_eq_true hjl]; rfl))
def wd(r:Rg)(x:Int):Rg:={ Lo:=min r.Lo x,Hi:=max r.Hi x }
def emp:Rg:={ Lo:=1099511627776,Hi:=-1099511627776 }
def wdL(g:List Int->Int)(l:List (List Int)):Rg:=l.foldl (fun r L=>wd r (g L)) emp
theorem zBw{g:List Int->Int}{l:List (List Int)}{k:Nat}{L:List Int}(h:l[k]? = some L):wdL g (l.take (k+1))=wd (wdL g (l.take k)) (g L):=by
 unfold wdL;rw[List.take_add_one,h,List.foldl_append]; rfl
theorem zBx{g:List Int->Int}:∀(l:List (List Int)) (r:Rg),((l.foldl (fun r L=>wd r (g L)) r).Lo=r.Lo\/∃L∈l,g L=(l.foldl (fun r L=>wd r (g L)) r).Lo)/\((l.foldl (fun r L=>wd r (g L)) r).Hi=r.Hi\/∃L∈l,g L=(l.foldl (fun r L=>wd r (g L)) r).Hi)/\(l.foldl (fun r L=>wd r (g L)) r).Lo<=r.Lo/\r.Hi<=(l.foldl (fun r L=>wd r (g L)) r).Hi/\∀L∈l,(l.foldl (fun r L=>wd r (g L)) r).Lo<=g L/\g L<=(l.foldl (fun r L=>wd r (g L)) r).Hi
 | [],r=>⟨.inl rfl,.inl rfl,Int.le_refl _,Int.le_refl _,fun L hL=>by cases hL⟩
 | L::l,r=>by
  obtain⟨a,b,c,d,e⟩:=zBx (g:=g) l (wd r (g L));have h1:(wd r (g L)).Lo=min r.Lo (g L):=rfl;have h2:(wd r (g L)).Hi=max r.Hi (g L):=rfl;rw[h1] at a c;rw[h2] at b d;rw[List.foldl_cons];generalize l.foldl (fun r L=>wd r (g L)) (wd r (g L))=R at a b c d e ⊢;refine⟨?_,?_,by clear a b; omega,by clear a b; omega,fun L' hL'=>?_⟩
  ·clear b
   rcases a with a | ⟨L',q1,q2⟩
   ·rcases Int.le_total r.Lo (g L) with h | h
    ·exact .inl (by omega)
    ·exact .inr ⟨L,List.mem_cons_self ..,by omega⟩
   ·exact .inr ⟨L',List.mem_cons_of_mem _ q1,q2⟩
  ·clear a
   rcases b with b | ⟨L',q1,q2⟩
   ·rcases Int.le_total (g L) r.Hi with h | h
    ·exact .inl (by omega)
    ·exact .inr ⟨L,List.mem_cons_self ..,by omega⟩
   ·exact .inr ⟨L',List.mem_cons_of_mem _ q1,q2⟩
  ·clear a b
   rcases List.mem_cons.1 hL' with h | h
   ·subst h; omega
   ·exact e L' h
theorem zBy{g:List Int->Int}{l:List (List Int)}(hne:l ≠ [])(hb:∀L∈l,-1000000<=g L/\g L<=1000000):IsB (·∈l) g (wdL g l):=by
 obtain⟨a,b,c,d,e⟩:=zBx (g:=g) l emp;have h1:emp.Lo=1099511627776:=rfl;have h2:emp.Hi = -1099511627776:=rfl;rw[h1] at a c;rw[h2] at b d;obtain⟨L0,hL0⟩:=List.exists_mem_of_ne_nil l hne;have q1:=hb L0 hL0;have q2:=e L0 hL0;unfold wdL;generalize l.foldl (fun r L=>wd r (g L)) emp=R at a b c d e q2 ⊢;refine⟨?_,?_,e⟩
 ·clear b
  rcases a with a | a
  ·omega
  ·exact a
 ·clear a
  rcases b with b | b
  ·omega
  ·exact b
def bsN(n:Nat)(f:Nat->Bd):List Bd:=(List.range n).map f
theorem zBz{n:Nat}{f:Nat->Bd}:(bsN n f).length=n:=by unfold bsN; rw[List.length_map,List.length_range]
theorem zBA{n:Nat}{f:Nat->Bd}{k:Nat}(h:k < n):(bsN n f)[k]? = some (f k):=by unfold bsN; rw[List.getElem?_map,List.getElem?_range h]; rfl
def bdF(p:Pg)(l:List (List Int))(k:Nat):Bd:={ Pays:=wdL (fun L=>(zzm p.Treaties L).pays k) l,Keeps:=wdL (fun L=>(zzm p.Treaties L).keeps k) l }
theorem zBB{p:Pg}(h:VP p)(hc:zz4 p p.Reports):zAn p (bsN p.Treaties.length (bdF p (trL p)))/\IsB (TrS p p.Reports) (fun L=>(zzm p.Treaties L).soc) (wdL (fun L=>(zzm p.Treaties L).soc) (trL p)):=by
 have hne:trL p ≠ []:=fun e=>by
  obtain⟨L,hL⟩:=hc;have:=(zBs h).2 hL
  rw[e] at this; cases this
 have hb:∀L∈trL p,inL p.Losses L:=fun L hL=>((zBs h).1 hL).1;refine⟨⟨zBz,fun k b hk=>?_⟩,?_⟩
 ·have hkl:=(List.getElem?_eq_some_iff.1 hk).1;rw[zBz] at hkl;rw[zBA hkl] at hk
  cases hk
  refine⟨(zBy hne fun L hL=>?_).congr (fun L=>zBs h) fun _ _=>rfl,(zBy hne fun L hL=>?_).congr (fun L=>zBs h) fun _ _=>rfl⟩
  ·have:=(zBl h (hb L hL)).1 k; omega
  ·have:=(zBl h (hb L hL)).2.1 k; omega
 ·refine(zBy hne fun L hL=>?_).congr (fun L=>zBs h) fun _ _=>rfl;have:=(zBl h (hb L hL)).2.2; omega
def kpF:List Rpt->Nat->(Nat->Bool)->List Rpt
 | [],_,_=>[]
 | v::V,i,S=>if S i=true then v::kpF V (i+1) S else kpF V (i+1) S
theorem zBC{S:Nat->Bool}{v:Rpt}:∀(V:List Rpt) (i:Nat),v∈kpF V i S↔∃j,V[j]? = some v/\S (i+j)=true
 | [],i=>by simp[kpF]
 | a::V,i=>by
  have ih:=zBC (S:=S) (v:=v) V (i+1)
  have e:(∃j,(a::V)[j]? = some v/\S (i+j)=true)↔(a=v/\S i=true)\/∃j,V[j]? = some v/\S (i+1+j)=true:=by
   constructor
   ·rintro⟨j,h1,h2⟩
    cases j with
    | zero=>exact .inl ⟨by simpa using h1,h2⟩
    | succ j=>exact .inr ⟨j,by simpa using h1,by rw[show i+1+j=i+(j+1) by omega]; exact h2⟩
   ·rintro (⟨h1,h2⟩ | ⟨j,h1,h2⟩)
    ·exact⟨0,by simpa using h1,h2⟩
    ·exact⟨j+1,by simpa using h1,by rw[show i+(j+1)=i+1+j by omega]; exact h2⟩
  rw[e];unfold kpF
  by_cases hs:S i=true
  ·rw[if_pos hs,List.mem_cons,ih];exact or_congr ⟨fun h=>⟨h.symm,hs⟩,fun h=>h.1.symm⟩ Iff.rfl
  ·rw[if_neg hs,ih];exact⟨.inr,fun h=>h.elim (fun h=>absurd h.2 hs) id⟩
theorem zBD{S:Nat->Bool}:∀(V:List Rpt) (i:Nat),(kpF V i S).length<=V.length
 | [],_=>Nat.le_refl _
 | a::V,i=>by
  have:=zBD (S:=S) V (i+1);unfold kpF
  split <;> simp only[List.length_cons] <;> omega
theorem zBE{l:List Int}{v:Int}(hl:zr4 l):∀d (k:Nat),k<=l.length->l.length - k < d->∃r,zt2 l v d (k:Int)=some r/\(0<=r↔v∈l.drop k)
 | 0,k,_,h=>by omega
 | d+1,k,hk,h=>by
  unfold zr4 at hl;unfold zt2
  by_cases hkn:k=l.length
  ·subst hkn; rw[if_neg (Int.lt_irrefl _)]; exact⟨_,rfl,by simp⟩
  ·have hlt:k < l.length:=by omega
   rw[if_pos (by omega),zrU (List.getElem?_eq_getElem hlt),obs];have hd:=List.drop_eq_getElem_cons hlt
   by_cases hv:v=l[k]
   ·rw[if_pos hv]; exact⟨_,rfl,⟨fun _=>by rw[hd,<- hv]; exact List.mem_cons_self ..,fun _=>by omega⟩⟩
   ·rw[if_neg hv,zqs (fI (by omega)),show(k:Int)+1=((k+1:Nat):Int) by omega];obtain⟨r,h1,h2⟩:=zBE hl d (k+1) (by omega) (by omega);exact⟨r,h1,h2.trans ⟨fun h=>by rw[hd]; exact List.mem_cons_of_mem _ h,fun h=>by rw[hd] at h; exact(List.mem_cons.1 h).resolve_left hv⟩⟩
theorem zBF{l:List Int}{v:Int}(hl:zr4 l):zt4 l v=some (decide (v∈l)):=by
 unfold zt4 zt3;obtain⟨r,h1,h2⟩:=zBE (v:=v) hl (l.length+1) 0 (Nat.zero_le _) (by omega);have h1:zt2 l v (l.length+1) 0=some r:=h1;rw[h1,obs];exact congrArg some (decide_eq_decide.2 (h2.trans (by rw[List.drop_zero])))
theorem zBG{p:Int->Option Bool}{f:Nat->Bool}{n:Nat}(hn:n<=1000000)(hp:∀m,m < n->p (m:Int)=some (f m))(hm:∀m k,m<=k->k < n->f m=true->f k=true):∀d (i j:Nat),i<=j->j<=n->j - i < d->(∀m,m < i->f m=false)->(∀m,j<=m->m < n->f m=true) ->
  ∃k:Nat,zuv p d (i:Int) (j:Int)=some (k:Int)/\k<=n/\(∀m,m < k->f m=false)/\(∀m,k<=m->m < n->f m=true)
 | 0,_,_,_,_,h,_,_=>by omega
 | d+1,i,j,hij,hj,h,hlo,hhi=>by
  rw[zuv]
  by_cases hc:i < j
  ·obtain⟨md,hmd⟩:∃md:Nat,md=(i+j) / 2:=⟨_,rfl⟩
   have hf:zl7 .u64 ((i:Int)+j):=show _/\_ by constructor <;> omega
   have e:zmc .i64 (zmc .u64 ((i:Int)+j) / 2)=(md:Int):=by
    rw[wz hf,wz (fI (by omega))]; omega
   rw[if_pos (by omega),zqs (fI (by omega)),zqs (by rw[wz hf]; omega),zqs (by omega),zqs (by omega),zqs (by rw[wz hf]; exact show _/\_ by constructor <;> omega),e,hp md (by omega),obs]
   cases hq:f md with
   | true=>
    rw[if_pos rfl];exact zBG hn hp hm d i md (by omega) (by omega) (by omega) hlo fun m h1 h2=>hm md m h1 h2 hq
   | false=>
    rw[if_neg (by decide),zqs (fI (by omega)),show(md:Int)+1=((md+1:Nat):Int) by omega]
    exact zBG hn hp hm d (md+1) j (by omega) hj (by omega) (fun m h1=>by
     cases hq2:f m with
     | false=>rfl
     | true=>have:=hm m md (by omega) (by omega) hq2; rw[hq] at this; cases this) hhi
  ·rw[if_neg (by omega)];exact⟨i,rfl,by omega,hlo,fun m h1 h2=>hhi m (by omega) h2⟩
theorem zBH{p:Pg}{L:List Int}{S:Nat->Bool}:agN (zzm p.Treaties L).pays (kpF p.Reports 0 S)↔∀j,j < p.Reports.length->S j=true->agf p L j=true:=by
 constructor
 ·intro h j hj hs;have hg:=List.getElem?_eq_getElem hj;exact(zBj hg).2 (h _ ((zBC _ _).2 ⟨j,hg,by rw[Nat.zero_add]; exact hs⟩))
 ·intro h r hr;obtain⟨j,h1,h2⟩:=(zBC _ _).1 hr;rw[Nat.zero_add] at h2;exact(zBj h1).1 (h j (List.getElem?_eq_some_iff.1 h1).1 h2)
theorem zBI{p:Pg}{S:Nat->Bool}:zz4 p (kpF p.Reports 0 S)↔PL p fun j=>!S j:=by
 unfold zz4 PL;refine exists_congr fun L=>and_congr_right fun _=>zBH.trans ?_;refine forall_congr' fun j=>forall_congr' fun _=>?_
 show(S j=true->_)↔((!S j)=false->_)
 cases S j <;> simp
theorem zBJ{l:List Rpt}{D:List Int}(hl:l.length<=1000)(hD:zr4 D):zt6 l D=some (kpF l 0 fun j=>!inD D j):=by
 have key:∀(d k:Nat) (acc:List Rpt),k<=l.length->l.length - k < d->acc.length<=k->zt5 l D d acc (k:Int)=some (acc++kpF (l.drop k) k fun j=>!inD D j):=by
  intro d
  induction d with
  | zero=>intro k _ _ h _; omega
  | succ d ih=>
   intro k acc hk hd ha;rw[zt5]
   by_cases hkl:k < l.length
   ·rw[if_pos (by omega),zrU (List.getElem?_eq_getElem hkl),obs,zBF hD,obs,List.drop_eq_getElem_cons hkl,kpF]
    by_cases hin:(k:Int)∈D
    ·have e:inD D k=true:=decide_eq_true hin;rw[decide_eq_true hin,if_pos rfl,zqs (fI (by omega)),show(k:Int)+1=((k+1:Nat):Int) by omega,if_neg (by rw[e]; simp)];exact ih (k+1) acc (by omega) (by omega) (by omega)
    ·have e:inD D k=false:=decide_eq_false hin;rw[decide_eq_false hin,if_neg (by decide),zqs (by omega),zqs (fI (by omega)),show(k:Int)+1=((k+1:Nat):Int) by omega,if_pos (by rw[e]; rfl)];refine(ih (k+1) _ (by omega) (by omega) (by rw[List.length_append]; show acc.length+1<=_; omega)).trans ?_;rw[List.append_assoc]; rfl
   ·rw[if_neg (by omega),List.drop_eq_nil_of_le (by omega)]
    show _=some (acc++[])
    rw[List.append_nil]
 exact key (l.length+1) 0 [] (Nat.zero_le _) (by omega) (Nat.le_refl _)
theorem zzV.kp{p:Pg}(h:VP p)(S:Nat->Bool):zzV (kpF p.Reports 0 S):=fun r hr=>by
 obtain⟨j,h1,_⟩:=(zBC _ _).1 hr;exact h.rsOk r (List.mem_of_getElem? h1)
theorem zBK{p:Pg}(h:VP p){D:List Int}(hD:zr4 D):Ev (zuy D (zzO p (zzG p)) p) (PL p (inD D)):=by
 have hr5:=h.r5;unfold zuy;rw[zBJ (by omega) hD,obs]
 show Ev ((zud (zzO p (zzG p)) (kpF p.Reports 0 fun j=>!inD D j)).bind _) _
 have hlen:=zBD (S:=fun j=>!inD D j) p.Reports 0;refine(zz5 h (zzV.kp h _) (zr5 hlen (by omega))).ret.imp (zBI.trans (PL.congr fun j _=>?_))
 simp
theorem zBL{p:Pg}(h:VP p):PL p (inD (zAR p.Reports.length)):=by
 obtain⟨L,hL⟩:=zzK h;exact⟨L,hL,fun j hj hs=>by rw[zAT hj] at hs; cases hs⟩
theorem zBM{p:Pg}(h:VP p):∃M,zuz p=some (M,0)/\zAU p.Reports.length (PL p) M:=by
 have h4:=h.r5;have hsh:∀D,Inc p.Reports.length 0 D->zr4 D:=fun D hD=>zr5 (Nat.le_refl D.length) (by have:=zxY hD; omega)
 have ht:∀D,Inc p.Reports.length 0 D->((zuy D (zzO p (zzG p)) p).getD false=true↔PL p (inD D)):=fun D hD=>by
  obtain⟨b,q1,q2⟩:=zBK h (hsh D hD);rw[q1]; exact q2
 obtain⟨s1,s2,s3⟩:=zye (n:=p.Reports.length) (t:=fun L=>(zuy L (zzO p (zzG p)) p).getD false) ⟨zAR p.Reports.length,zAS _,(ht _ (zAS _)).2 (zBL h)⟩;refine⟨zrA p.Reports.length fun L=>(zuy L (zzO p (zzG p)) p).getD false,?_,s1,(ht _ s1).1 s2,fun D hD hD2=>s3 D hD ((ht D hD).2 hD2)⟩;unfold zuz zrB
 rw[zAg h,obs,if_pos rfl,zzU h,obs,zqs ⟨by omega,by omega,fun L hL=>by
  have hI:Inc p.Reports.length 0 L:=by rw[Int.toNat_natCast] at hL; exact zxZ.1 hL
  obtain⟨b,q1,_⟩:=zBK h (hsh L hI)
  show(zuy L (zzO p (zzG p)) p).isSome=true
  rw[q1]; rfl⟩,obs,Int.toNat_natCast]
def FP(p:Pg)(j:Nat):Prop:=zz4 p (p.Reports.take (j+1))
theorem zBN{p:Pg}{i j:Nat}(hij:i<=j)(h:FP p j):FP p i:=by
 obtain⟨L,h1,h2⟩:=h;refine⟨L,h1,fun r hr=>h2 r ?_⟩
 have e:p.Reports.take (i+1)=(p.Reports.take (j+1)).take (i+1):=by rw[List.take_take,show min (i+1) (j+1)=i+1 by omega]
 rw[e] at hr;exact List.mem_of_mem_take hr
open Classical in
theorem zBO{p:Pg}(h:VP p):(∃j,j < p.Reports.length/\¬ FP p j/\(∀i,i < j->FP p i)/\zux p=some ((j:Int),0))\/((∀j,j < p.Reports.length->FP p j)/\zux p=some (0,7)):=by
 have h4:=h.r5
 have hf:∀m,m < p.Reports.length->zuu (m:Int) (zzO p (zzG p)) p=some (decide (¬ FP p m)):=fun m hm=>by
  unfold zuu;rw[zqs (fI (by omega)),zqs (by omega),show Int.toNat ((m:Int)+1)=m+1 by omega,show Int.toNat (0:Int)=0 from rfl,List.drop_zero]
  show(zud (zzO p (zzG p)) (p.Reports.take (m+1))).bind _=_
  have hlen:(p.Reports.take (m+1)).length<=5:=by rw[List.length_take]; omega
  have hc:=zz5 h (rs:=p.Reports.take (m+1)) (fun r hr=>h.rsOk r (List.mem_of_mem_take hr)) (zr5 hlen (by omega))
  by_cases hq:FP p m
  ·rw[hc.some_of hq,obs,decide_eq_false (not_not_intro hq)]; rfl
  ·rw[hc.some_not hq,obs,decide_eq_true hq]; rfl
 obtain⟨k,q1,q2,q3,q4⟩:=zBG (n:=p.Reports.length) (p:=fun a=>zuu a (zzO p (zzG p)) p) (f:=fun m=>decide (¬ FP p m)) (by omega) hf (fun m k h1 h2 h3=>decide_eq_true fun hk=>of_decide_eq_true h3 (zBN h1 hk)) ((p.Reports.length:Int).toNat+1) 0 p.Reports.length (Nat.zero_le _) (Nat.le_refl _) (by omega) (fun m hm=>by omega) fun m h1 h2=>by omega
 have e:zux p=if ((k:Nat):Int)=(p.Reports.length:Int) then some (0,7) else some ((k:Int),0):=by
  unfold zux zuw;rw[zAg h,obs,if_pos rfl,zzU h,obs];have q1:zuv (fun a=>zuu a (zzO p (zzG p)) p) ((p.Reports.length:Int).toNat+1) 0 (p.Reports.length:Int)=some (k:Int):=q1;rw[q1,obs]
 have hlt:∀i,i < k->FP p i:=fun i hi=>Classical.not_not.1 (of_decide_eq_false (q3 i hi))
 by_cases hk:k=p.Reports.length
 ·rw[if_pos (by omega)] at e;exact .inr ⟨fun j hj=>hlt j (by omega),e⟩
 ·rw[if_neg (by omega)] at e;exact .inl ⟨k,by omega,of_decide_eq_true (q4 k (Nat.le_refl _) (by omega)),hlt,e⟩
theorem zBP{p:Pg}{j j':Nat}(h1:¬ FP p j)(h2:∀i,i < j->FP p i)(h3:¬ FP p j')(h4:∀i,i < j'->FP p i):j=j':=by
 rcases Nat.lt_trichotomy j j' with h | h | h
 ·exact absurd (h4 j h) h1
 ·exact h
 ·exact absurd (h2 j' h) h3
end
end Go.Proofs.YtkcmdghjgoaggaaGreat

namespace Go.Proofs.YtkcmdghjgoaggaaGreat
open _root_.Go.Proofs.Tryz
open Go.Abs
set_option maxRecDepth 100000
noncomputable section
theorem zBQ{l:List Int}:(∀j,0 < j->j < l.length->∀a b,l[j - 1]? = some a->l[j]? = some b->a < b)↔l.Pairwise (· < ·):=by
 constructor
 ·intro h;rw[List.pairwise_iff_getElem];intro i j hi hj hij
  have key:∀d,(hd:i+d+1 < l.length)->l[i] < l[i+d+1]:=fun d=>by
   induction d with
   | zero=>intro hd; exact h (i+1) (by omega) hd _ _ (List.getElem?_eq_getElem hi) (List.getElem?_eq_getElem hd)
   | succ d ih=>
    intro hd;have h1:=ih (by omega);have h2:=h (i+(d+1)+1) (by omega) hd _ _ (List.getElem?_eq_getElem (show i+d+1 < l.length by omega)) (List.getElem?_eq_getElem hd);exact Int.lt_trans h1 h2
  have:=key (j - i - 1) (by omega)
  simpa [show i+(j - i - 1)+1=j by omega] using this
 ·intro h j h0 hj a b ha hb;obtain⟨h1,rfl⟩:=List.getElem?_eq_some_iff.1 ha;obtain⟨h2,rfl⟩:=List.getElem?_eq_some_iff.1 hb;exact List.pairwise_iff_getElem.1 h (j - 1) j h1 h2 (by omega)
theorem zBR{l:List Int}(hl:zr4 l):Ev (ztC l) (l.Pairwise (· < ·)):=by
 unfold zr4 at hl;unfold ztC
 by_cases h0:l.length=0
 ·have:l=[]:=List.eq_nil_of_length_eq_zero h0;subst this
  show Ev (ztB [] 1 1) _
  rw[ztB,if_neg (by decide)];exact Ev.tt .nil
 ·have e:∃n,l.length=n+1:=⟨l.length - 1,by omega⟩;obtain⟨n,hn⟩:=e
  have key:=zrY (n:=n) (F:=fun d x=>ztB l d (x+1)) (ok:=fun j=>∀a b,l[j]? = some a->l[j+1]? = some b->a < b) (bad:=some false) (fin:=some true) (fun d k hk=>by
   show(_->ztB l (d+1) ((k:Int)+1)=_)/\_
   have ha:=List.getElem?_eq_getElem (show k < l.length by omega);have hb:=List.getElem?_eq_getElem (show k+1 < l.length by omega);rw[ztB,if_pos (by omega),zrV (show(k:Int)+1=((k+1:Nat):Int) by omega) (show k+1 < l.length by omega),obs,zqs (fI (by omega)),zrV (show(k:Int)+1 - 1=(k:Int) by omega) (show k < l.length by omega),obs];refine⟨fun h=>?_,fun h=>?_⟩
   ·have:=h _ _ ha hb;rw[if_neg (by omega),zqs (fI (by omega))]
   ·rw[if_pos]
    apply Classical.byContradiction
    intro h2
    exact h fun a b h3 h4=>by rw[ha] at h3; rw[hb] at h4; cases h3; cases h4; omega) (fun d=>by show ztB l (d+1) _=_; rw[ztB,if_neg (by omega)]) (d:=((l.length:Int) - 1).toNat+1) (by omega)
  have e0:ztB l (((l.length:Int) - 1).toNat+1) (0+1)=ztB l (((l.length:Int) - 1).toNat+1) 1:=rfl
  have hiff:(∀j,j < n->∀a b,l[j]? = some a->l[j+1]? = some b->a < b)↔l.Pairwise (· < ·):=by
   rw[<- zBQ]
   constructor
   ·intro h j h0 hj a b h1 h2;have:=h (j - 1) (by omega) a b h1;rw[show j - 1+1=j by omega] at this;exact this h2
   ·intro h j hj a b h1 h2;exact h (j+1) (by omega) (by omega) a b (by rw[Nat.add_sub_cancel]; exact h1) h2
  by_cases hq:∀j,j < n->∀a b,l[j]? = some a->l[j+1]? = some b->a < b
  ·have:=key.1 hq;exact⟨true,this,⟨fun _=>hiff.1 hq,fun _=>rfl⟩⟩
  ·have:=key.2 hq;exact⟨false,this,⟨fun h=>(by cases h),fun h=>absurd (hiff.2 h) hq⟩⟩
def zke(p:Pg)(l:List Int):Prop:=l.Pairwise (· < ·)/\∀v∈l,(0<=v/\v<=(p.Treaties.length:Int) - 1)/\ofB p.Treaties v.toNat=true
theorem zke.inc{p:Pg}{l:List Int}(h:zke p l):Inc p.Treaties.length 0 l:=⟨h.1,fun v hv=>by have:=(h.2 v hv).1; omega⟩
theorem zke.len{p:Pg}{l:List Int}(h:zke p l):l.length<=p.Treaties.length:=by have:=zxY h.inc; omega
theorem zBS{p:Pg}(h:VP p){n:Int}:Ev (ztM p n) ((0<=n/\n<=(p.Treaties.length:Int) - 1)/\ofB p.Treaties n.toNat=true):=by
 have h5:=h.t5;refine(zyH (zAf h).2.1).and fun hc=>?_;have hg:=List.getElem?_eq_getElem (show n.toNat < p.Treaties.length by omega);have e:=zrU hg;rw[show((n.toNat:Nat):Int)=n by omega] at e;rw[e,obs];have ho:=h.of' _ _ hg;exact Ev.dec (by rw[zAL hg,decide_eq_true_eq]; omega)
theorem zBT{p:Pg}(h:VP p){l:List Int}(hl:zr4 l):Ev (ztN p l) (zke p l):=
 (zBR hl).and fun _=>(Ev.each (p:=fun a=>ztM p a) (q:=fun v=>(0<=v/\v<=(p.Treaties.length:Int) - 1)/\ofB p.Treaties v.toNat=true) (fun _ _=>zBS h) hl.lt gI).ret
def tyD:Ty:={ Kind:=0,Part:=0,Above:=0,Most:=0,Times:=0,Price:=0,Of:=-1 }
def tyA(ts:List Ty)(v:Int):Ty:=(ts[v.toNat]?).getD tyD
theorem zBU{ts:List Ty}{v:Int}{t:Ty}(h:ts[v.toNat]? = some t):tyA ts v=t:=by unfold tyA; rw[h]; rfl
theorem zBV{ts:List Ty}{v:Int}(h0:0<=v)(h1:v<=(ts.length:Int) - 1):ts[v.toNat]? = some (tyA ts v):=by
 have hg:=List.getElem?_eq_getElem (show v.toNat < ts.length by omega);rw[zBU hg,hg]
theorem zBW{ts:List Ty}{v:Int}(h0:0<=v)(h1:v<=(ts.length:Int) - 1):idx ts v=some (tyA ts v):=by
 have:=zrU (zBV h0 h1)
 rwa [show((v.toNat:Nat):Int)=v by omega] at this
def zBX(ts:List Ty):List Int->Int
 | []=>0
 | v::l=>(tyA ts v).Price+zBX ts l
theorem zBY{ts:List Ty}{v:Int}:∀l,zBX ts (l++[v])=zBX ts l+(tyA ts v).Price
 | []=>by show _+(0:Int)=0+_; omega
 | a::l=>by show _+zBX ts (l++[v])=_+zBX ts l+_; rw[zBY l]; omega
def InT(p:Pg)(l:List Int):Prop:=∀v∈l,0<=v/\v<=(p.Treaties.length:Int) - 1
theorem zBZ{p:Pg}(h:VP p):∀{l:List Int},InT p l->0<=zBX p.Treaties l/\zBX p.Treaties l<=1000 * l.length
 | [],_=>⟨Int.le_refl _,by show(0:Int)<=1000 * ((0:Nat):Int); omega⟩
 | v::l,hl=>by
  have ih:=zBZ h (l:=l) fun v hv=>hl v (List.mem_cons_of_mem _ hv);have hv:=hl v (List.mem_cons_self ..);have ht:=h.ts _ (List.mem_of_getElem? (zBV hv.1 hv.2));have h1:=ht.2
  show 0<=(tyA p.Treaties v).Price+zBX p.Treaties l/\(tyA p.Treaties v).Price+zBX p.Treaties l<=1000 * ((l.length+1:Nat):Int)
  omega
theorem zB0{α:Type}{l:List α}{k:Nat}{a:α}(h:l[k]? = some a):l.take (k+1)=l.take k++[a]:=by rw[List.take_add_one,h]; rfl
theorem zB1{p:Pg}(h:VP p){l:List Int}(hl:InT p l)(h9:l.length<=9):ztP p l=some (zBX p.Treaties l):=by
 refine zyk (n:=l.length) (fun d (s:Int) y=>ztO p l d s y) (fun k=>zBX p.Treaties (l.take k)) (fun d k hk=>?_) (fun d=>?_) (l.length+1) 0 (by omega) (by omega)
 ·have hg:=List.getElem?_eq_getElem hk;have hv:=hl _ (List.getElem_mem hk);have hb:=zBZ h (l:=l.take (k+1)) fun v hv=>hl v (List.mem_of_mem_take hv)
  have hlen:(l.take (k+1)).length<=9:=by rw[List.length_take]; omega
  rw[zB0 hg,zBY] at hb;rw[List.length_append,List.length_take] at hb
  simp only[List.length_singleton] at hb
  show ztO p l (d+1) _ _=_
  rw[ztO,if_pos (by omega),zrU hg,obs,zBW hv.1 hv.2,obs,zqs (fI (by omega)),zqs (fI (by omega)),zB0 hg,zBY]
 ·show ztO p l (d+1) _ _=_
  rw[ztO,if_neg (Int.lt_irrefl _),List.take_length]
def zB2(p:Pg)(l:List Int):Pg:={ Losses:=p.Losses,Reserve:=p.Reserve,Treaties:=l.map (tyA p.Treaties),Reports:=[] }
theorem zB3{p:Pg}{l:List Int}(hl:InT p l)(h9:l.length<=9):ztR p l=some (zB2 p l):=by
 refine zyk (n:=l.length) (fun d (s:List Ty) y=>ztQ p l d p.Reserve s y) (fun k=>(l.take k).map (tyA p.Treaties)) (fun d k hk=>?_) (fun d=>?_) (l.length+1) 0 (by omega) (by omega)
 ·have hg:=List.getElem?_eq_getElem hk;have hv:=hl _ (List.getElem_mem hk)
  show ztQ p l (d+1) _ _ _=_
  rw[ztQ,if_pos (by omega),zrU hg,obs,zBW hv.1 hv.2,obs,zqs (by rw[List.length_map,List.length_take]; omega),zqs (fI (by omega)),zB0 hg,List.map_append]; rfl
 ·show ztQ p l (d+1) _ _ _=_
  rw[ztQ,if_neg (Int.lt_irrefl _),List.take_length]; rfl
theorem zke.inT{p:Pg}{l:List Int}(h:zke p l):InT p l:=fun v hv=>(h.2 v hv).1
theorem zke.ty{p:Pg}(h:VP p){l:List Int}(hs:zke p l){v:Int}(hv:v∈l):(tyA p.Treaties v).Of = -1:=by
 obtain⟨h1,h2⟩:=hs.2 v hv;have hg:=zBV h1.1 h1.2;rw[zAL hg,decide_eq_true_eq] at h2;have:=h.of' _ _ hg
 omega
theorem zB4{p:Pg}(h:VP p){l:List Int}(hs:zke p l):VP (zB2 p l):=by
 have h5:=h.t5;have hl:=hs.len;refine { ls:=h.ls,res:=h.res,ts:=fun t ht=>?_,of':=fun i t ht=>?_,rs:=fun r hr=>(by cases hr),l4:=h.l4,t5:=?_,r5:=Nat.zero_le _,many:=h.many }
 ·obtain⟨v,hv,rfl⟩:=List.mem_map.1 ht;have:=hs.inT v hv;exact h.ts _ (List.mem_of_getElem? (zBV this.1 this.2))
 ·obtain⟨v,hv,rfl⟩:=List.mem_map.1 (List.mem_of_getElem? ht);rw[hs.ty h hv]; omega
 ·show(l.map (tyA p.Treaties)).length<=5
  rw[List.length_map]; omega
theorem zB5{b k:Nat}:∀e,∃T,zx0 b (k+e)=zx0 b k++T
 | 0=>⟨[],(List.append_nil _).symm⟩
 | e+1=>by
  obtain⟨T,hT⟩:=zB5 (b:=b) (k:=k) e;refine⟨T++(if b.testBit (k+e) then [((k+e:Nat):Int)] else []),?_⟩
  show zx0 b (k+e)++_=_
  rw[hT,List.append_assoc]; rfl
theorem zB6{b n:Nat}(hn:n<=16)(hb:b < 2 ^ n):zx1 b=zx0 b n:=by
 unfold zx1;obtain⟨e,he⟩:∃e,16=n+e:=⟨16 - n,by omega⟩;rw[he];exact zx4 (fun q hq=>Nat.testBit_lt_two_pow (Nat.lt_of_lt_of_le hb (Nat.pow_le_pow_right (by omega) hq))) e
theorem zB7{b k n j:Nat}(hk:k<=n)(hj:j < (zx0 b k).length):(zx0 b n)[j]? = (zx0 b k)[j]?:=by
 obtain⟨T,hT⟩:=zB5 (b:=b) (k:=k) (n - k);rw[show k+(n - k)=n by omega] at hT;rw[hT,List.getElem?_append_left hj]
theorem zB8{ts:List Ty}{b n:Nat}(hn:n=ts.length)(hof:∀k t,ts[k]? = some t->b.testBit k=true->t.Of = -1){P P':Nat->Int}(hP:∀(j:Nat) (v:Int),(zx0 b n)[j]? = some v->P' j=P v.toNat){x:Int}:∀k,k<=n ->
  (dN ((zx0 b n).map (tyA ts)) P' x (zx0 b k).length).soc=(a1 ts (fun k=>b.testBit k) P x k).2/\∀(j:Nat) (v:Int),j < (zx0 b k).length->(zx0 b n)[j]? = some v->(dN ((zx0 b n).map (tyA ts)) P' x (zx0 b k).length).pays j=(a1 ts (fun k=>b.testBit k) P x k).1 v.toNat
 | 0,_=>⟨rfl,fun j v h=>by cases h⟩
 | k+1,hk=>by
  obtain⟨i1,i2⟩:=zB8 hn hof hP (x:=x) k (by omega);have hg:=List.getElem?_eq_getElem (show k < ts.length by omega);rw[zAy hg];have ht:=hof k _ hg;generalize ts[k]'(by omega)=t at hg ht
  cases hb:b.testBit k with
  | true=>
   have ho:=ht hb
   have e:zx0 b (k+1)=zx0 b k++[(k:Int)]:=by show zx0 b k++(if b.testBit k then _ else _)=_; rw[hb]; rfl
   have el:(zx0 b (k+1)).length=(zx0 b k).length+1:=by rw[e,List.length_append]; rfl
   have hm:(zx0 b n)[(zx0 b k).length]? = some (k:Int):=by
    rw[zB7 (k:=k+1) hk (by omega),e,List.getElem?_append_right (Nat.le_refl _),Nat.sub_self]; rfl
   have hmt:((zx0 b n).map (tyA ts))[(zx0 b k).length]? = some t:=by
    rw[List.getElem?_map,hm];exact congrArg some (zBU (by rw[Int.toNat_natCast]; exact hg))
   rw[el,zze hmt,if_pos ⟨by omega,rfl⟩];unfold zzd;rw[if_pos ho,i1,hP _ _ hm,Int.toNat_natCast];refine⟨rfl,fun j v hj hv=>?_⟩
   show upF _ (zx0 b k).length _ j=upF (a1 ts (fun k=>b.testBit k) P x k).1 k _ v.toNat
   by_cases hjm:j=(zx0 b k).length
   ·subst hjm;rw[hm] at hv
    cases hv
    rw[zyp,Int.toNat_natCast,zyp]
   ·rw[zyq _ _ hjm,i2 j v (by omega) hv];have hv2:=hv;rw[zB7 (k:=k) (by omega) (by omega)] at hv2;have:=zx2.1 (List.mem_of_getElem? hv2);rw[zyq _ _ (by omega)]
  | false=>
   have e:zx0 b (k+1)=zx0 b k:=by show zx0 b k++(if b.testBit k then _ else _)=_; rw[hb]; exact List.append_nil _
   rw[e,if_neg fun h=>by cases h.2];exact⟨i1,i2⟩
theorem zB9{ts:List Ty}{P now:Nat->Int}{j:Nat}(hj:ofB ts j=true):∀k,k<=ts.length->(a2 ts P now k).1 j=now j
 | 0,_=>rfl
 | k+1,hk=>by
  have hg:=List.getElem?_eq_getElem (show k < ts.length by omega);have hfk:=zAL hg;have ih:=zB9 (P:=P) (now:=now) hj k (by omega);rw[zAz hg];generalize ts[k]'(by omega)=t at hg hfk
  by_cases ho:0<=t.Of
  ·rw[if_pos ho]
   show upF (a2 ts P now k).1 k _ j=_
   rw[zyq _ _ fun e=>by subst e; rw[hfk,decide_eq_true_eq] at hj; omega,ih]
  ·rw[if_neg ho,ih]
theorem zCa{ts:List Ty}{b:Nat}(hof:∀k t,ts[k]? = some t->b.testBit k=true->t.Of = -1):∀(L:List Int) (s:(Nat->Int) × Int) (o:DS),(∀(j:Nat) (v:Int),(zx0 b ts.length)[j]? = some v->o.pays j=s.1 v.toNat)->o.soc=s.2 ->
  (L.foldl (zzl ((zx0 b ts.length).map (tyA ts))) o).soc=(L.foldl (zAC ts fun k=>b.testBit k) s).2
 | [],_,_,_,h2=>h2
 | x::L,s,o,h1,h2=>by
  obtain⟨c1,c2⟩:=zB8 rfl hof h1 (x:=x) ts.length (Nat.le_refl _);refine zCa hof L (zAC ts (fun k=>b.testBit k) s x) (zzl ((zx0 b ts.length).map (tyA ts)) o x) (fun j v hv=>?_) ?_
  ·show o.pays j+(dN ((zx0 b ts.length).map (tyA ts)) o.pays x ((zx0 b ts.length).map (tyA ts)).length).pays j=s.1 v.toNat+(a2 ts s.1 (a1 ts (fun k=>b.testBit k) s.1 x ts.length).1 ts.length).1 v.toNat
   have hjl:=(List.getElem?_eq_some_iff.1 hv).1;have hmem:=zx2.1 (List.mem_of_getElem? hv);have hg:=List.getElem?_eq_getElem (show v.toNat < ts.length by omega);rw[List.length_map,h1 j v hv,c2 j v hjl hv,zB9 (by rw[zAL hg,hof _ _ hg hmem.2.2]; rfl) ts.length (Nat.le_refl _)]
  ·show o.soc+(dN ((zx0 b ts.length).map (tyA ts)) o.pays x ((zx0 b ts.length).map (tyA ts)).length).soc=s.2+(a1 ts (fun k=>b.testBit k) s.1 x ts.length).2
   rw[List.length_map,c1,h2]
theorem zCb{ts:List Ty}{b:Nat}(hof:∀k t,ts[k]? = some t->b.testBit k=true->t.Of = -1)(L:List Int):(zzm ((zx0 b ts.length).map (tyA ts)) L).soc=(zAD ts (fun k=>b.testBit k) L).2:=
 zCa hof L (fun _=>0,0) zzk (fun _ _ _=>rfl) rfl
theorem zCc{ts:List Ty}{th th':Nat->Bool}{P:Nat->Int}{x:Int}(h:∀j,j < ts.length->th j=th' j):∀k,k<=ts.length->a1 ts th P x k=a1 ts th' P x k
 | 0,_=>rfl
 | k+1,hk=>by
  have hg:=List.getElem?_eq_getElem (show k < ts.length by omega);rw[zAy hg,zAy hg,zCc h k (by omega),h k (by omega)]
theorem zCd{ts:List Ty}{th th':Nat->Bool}(h:∀j,j < ts.length->th j=th' j)(L:List Int):zAD ts th L=zAD ts th' L:=by
 have e:zAC ts th=zAC ts th':=by
  funext s x
  unfold zAC;rw[zCc h ts.length (Nat.le_refl _)]
 unfold zAD;rw[e]
theorem RI.mono{ts:List Ty}{B B':Int}{s:(Nat->Int) × Int}(h:RI ts B s)(hB:B<=B'):RI ts B' s:=⟨by have:=h.net; omega,fun j=>by have:=h.pays j; omega,h.cap⟩
theorem zCe{ts:List Ty}{th:Nat->Bool}(hts:zzg ts):∀(L:List Int) (s:(Nat->Int) × Int) (B:Int),(∀x∈L,0<=x/\x<=1000)->RI ts B s->RI ts (B+1000 * L.length) (L.foldl (zAC ts th) s)
 | [],s,B,_,h=>h.mono (by show B<=B+1000 * ((0:Nat):Int); omega)
 | x::L,s,B,hL,h=>by
  have hx:=hL x (List.mem_cons_self ..);have h1:=(h.step (th:=th) hts (x:=x) (by omega)).mono (B':=B+1000) (by omega);refine(zCe hts L _ _ (fun x hx=>hL x (List.mem_cons_of_mem _ hx)) h1).mono ?_;rw[List.length_cons]; omega
theorem zCf{p:Pg}(h:VP p){th:Nat->Bool}{L:List Int}(hL:inL p.Losses L):0<=(zAD p.Treaties th L).2/\(zAD p.Treaties th L).2<=4000:=by
 have h4:=h.l4;have hl:=zzz hL;have:=(zCe (th:=th) h.tsOk L (fun _=>0,0) 0 (zzC hL h.ls) ⟨⟨Int.le_refl _,Int.le_refl _⟩,fun _=>⟨Int.le_refl _,Int.le_refl _⟩,zzn h.tsOk⟩).net;unfold zAD
 omega
def zCg(p:Pg):List (List Int):=(List.range (zyy p.Losses).toNat).map fun n:Nat=>zAY p.Losses (n:Int)
theorem zCh{p:Pg}(h:VP p){L:List Int}:L∈zCg p↔inL p.Losses L:=by
 unfold zCg;rw[List.mem_map]
 constructor
 ·rintro⟨n,_,rfl⟩; exact h.nthIn (by omega)
 ·intro hL;obtain⟨n,n0,n1,rfl⟩:=zA0 hL;exact⟨n.toNat,List.mem_range.2 (by omega),by rw[show((n.toNat:Nat):Int)=n by omega]⟩
def zCi(p:Pg)(th:Nat->Bool):Rg:=wdL (fun L=>(zAD p.Treaties th L).2) (zCg p)
theorem zCj{p:Pg}{th th':Nat->Bool}(h:∀j,j < p.Treaties.length->th j=th' j):zCi p th=zCi p th':=by
 unfold zCi
 have:(fun L=>(zAD p.Treaties th L).2)=fun L=>(zAD p.Treaties th' L).2:=funext fun L=>by rw[zCd h]
 rw[this]
theorem zCk{p:Pg}(h:VP p)(th:Nat->Bool):IsB (inL p.Losses) (fun L=>(zAD p.Treaties th L).2) (zCi p th):=by
 obtain⟨L,hL⟩:=zzK h;refine(zBy (fun e=>?_) fun L hL=>?_).congr (fun L=>zCh h) fun _ _=>rfl
 ·have:=(zCh h).2 hL
  rw[e] at this; cases this
 ·have:=zCf h (th:=th) ((zCh h).1 hL); omega
theorem zCl{p:Pg}(h:VP p){b:Nat}(hb:b < 1000000):zsZ p (b:Int)=some (zCi p fun k=>b.testBit k):=by
 have hm:=h.many;have h1:=h.prodPos
 show(some emp).bind _=_
 rw[obs]
 have hlen:(zCg p).length=(zyy p.Losses).toNat:=by unfold zCg; rw[List.length_map,List.length_range]
 refine zyk (n:=(zyy p.Losses).toNat) (fun d (s:Rg) y=>zsY p (b:Int) d s.Lo s.Hi y) (fun k=>wdL (fun L=>(zAD p.Treaties (fun k=>b.testBit k) L).2) ((zCg p).take k)) (fun d k hk=>?_) (fun d=>?_) 1000000 0 (by omega) (by omega)
 ·have hin:=h.nthIn (n:=(k:Int)) (by omega)
  have hg:(zCg p)[k]? = some (zAY p.Losses (k:Int)):=by unfold zCg; rw[List.getElem?_map,List.getElem?_range hk]; rfl
  show zsY p (b:Int) (d+1) _ _ _=_
  rw[zsY,zy1 h,obs,if_pos (by omega),zA2 h (by omega),obs,zAK h hb (zzC hin h.ls) (l9 h hin),obs,zBw hg]
  show(some (wd _ _)).bind _=_
  rw[obs,zqs (fI (by omega))]
 ·show zsY p (b:Int) (d+1) _ _ _=_
  rw[zsY,zy1 h,obs,if_neg (by omega),List.take_of_length_le (by rw[hlen]; exact Nat.le_refl _)]; rfl
theorem zke.bits{p:Pg}(h:VP p){b:Nat}(_hb:b < 2 ^ p.Treaties.length)(hs:zke p (zx1 b)):∀k t,p.Treaties[k]? = some t->b.testBit k=true->t.Of = -1:=fun k t hk hbk=>by
 have hkl:=(List.getElem?_eq_some_iff.1 hk).1;have h5:=h.t5
 have hm:((k:Nat):Int)∈zx1 b:=by unfold zx1; exact zx2.2 ⟨by omega,by omega,hbk⟩
 have:=hs.ty h hm
 rwa [zBU (t:=t) (by rw[Int.toNat_natCast]; exact hk)] at this
theorem zCm{p:Pg}(h:VP p){l:List Int}(hs:zke p l):zum p l=some (zCi p (inD l)):=by
 have h5:=h.t5;obtain⟨b,hb,hlb⟩:=zyj (n:=p.Treaties.length) (by omega) hs.inc;have hv:=zB4 h hs;have hlen:=hs.len;have hof:=zke.bits h hb (by rw[hlb]; exact hs)
 have hth:∀j,j < p.Treaties.length->inD l j=b.testBit j:=fun j hj=>by
  rw[<- hlb]; exact zyi (n:=p.Treaties.length) (by omega) hj
 have hlF:l=zx0 b p.Treaties.length:=by rw[<- hlb]; exact zB6 (by omega) hb
 obtain⟨L0,hL0⟩:=zzK h;have hcan:zz4 (zB2 p l) (zB2 p l).Reports:=⟨L0,hL0,fun r hr=>by cases hr⟩;obtain⟨r,a1,a2⟩:=zAe hv (number:=fun a=>ztU a) (g:=fun o=>o.society) (fun L _=>rfl) hcan
 have hnet:∀L,(zzm (l.map (tyA p.Treaties)) L).soc=(zAD p.Treaties (fun k=>b.testBit k) L).2:=fun L=>by
  rw[hlF]; exact zCb hof L
 have e:r=zCi p (inD l):=by
  rw[zCj hth];have q:IsB (inL p.Losses) (fun L=>(zAD p.Treaties (fun k=>b.testBit k) L).2) r:=a2.congr (fun L=>⟨fun q=>q.1,fun q=>⟨q,fun r hr=>by cases hr⟩⟩) fun L _=>hnet L;exact q.uniq (zCk h fun k=>b.testBit k)
 unfold zum;rw[zB3 hs.inT (by omega),obs,zzU hv,obs];have a1':zuf ({ p:=(zzO (zB2 p l) (zzG (zB2 p l))).p,kinds:=(zzO (zB2 p l) (zzG (zB2 p l))).kinds,shared:=(),played:=(zzO (zB2 p l) (zzG (zB2 p l))).played }:Wk) (fun a=>ztU a)=some r:=a1;rw[a1',obs,e]
theorem zCn{p:Pg}(h:VP p){l:List Int}(hs:zke p l):zun p l=some (decide ((zCi p (inD l)).Hi<=p.Reserve)):=by
 unfold zun;rw[zCm h hs,obs]
theorem zCo{p:Pg}(h:VP p){l:List Int}(hl:zr4 l)(hs:zke p l):zuo p l=some (zCi p (inD l),0):=by
 unfold zuo;rw[zAg h,obs,if_pos rfl,(zBT h hl).some_of hs,obs,if_pos rfl,zCm h hs,obs]
def zCp(p:Pg)(l:List Int)(m:Int):Prop:=zke p l/\zBX p.Treaties l<=m/\(zCi p (inD l)).Hi<=p.Reserve
theorem zCq{p:Pg}(h:VP p){l:List Int}(hl:zr4 l){m:Int}:Ev (zut p l m) (zCp p l m):=by
 have h5:=h.t5;unfold zut;rw[zAg h,obs,if_pos rfl];refine((zBT h hl).and fun hs=>(?_:Ev _ (zBX p.Treaties l<=m/\(zCi p (inD l)).Hi<=p.Reserve)));have:=hs.len;rw[zB1 h hs.inT (by omega),obs];refine Ev.ite fun _=>?_;rw[zCn h hs,obs];exact Ev.dec Iff.rfl
theorem zCr{l:List Int}(h:l.length<=100000):zt7 l=some l:=by
 unfold zt7;rw[zqs (by simp only[List.length_nil]; omega)]; rfl
def zCs(p:Pg)(D:List Int):Prop:=zke p D/\(zCi p (inD D)).Hi<=p.Reserve
structure zCt (p:Pg) (M:List Int):Prop where
 good:zCs p M
 min:∀D,zCs p D->zBX p.Treaties M < zBX p.Treaties D\/(zBX p.Treaties M=zBX p.Treaties D/\(D=M\/shB M D=true))
theorem zCt.uniq{p:Pg}{M M':List Int}(h:zCt p M)(h':zCt p M'):M=M':=by
 rcases h.min M' h'.good with h1 | ⟨h1,h1'⟩ <;> rcases h'.min M h.good with h2 | ⟨h2,h2'⟩
 ·omega
 ·omega
 ·omega
 ·rcases h1' with h3 | h3
  ·exact h3.symm
  ·rcases h2' with h4 | h4
   ·exact h4
   ·rw[zx8 h3] at h4; cases h4
open Classical in
def zCu(p:Pg)(s:List Int × Bool)(D:List Int):List Int × Bool:=if zCs p D/\(s.2=true->zBX p.Treaties D < zBX p.Treaties s.1) then (D,true) else s
theorem zCv{p:Pg}{s:List Int × Bool}(h:s.2=true->zke p s.1)(D:List Int):(zCu p s D).2=true->zke p (zCu p s D).1:=by
 unfold zCu
 split
 ·rename_i hc; exact fun _=>hc.1.1
 ·exact h
theorem zCw{p:Pg}(h:VP p){x:Int}(hx:0<=x/\x<=1000){K:List Int->Bool->Int->Option (List Int × Bool)}:∀(q:List (List Int)) (s:List Int × Bool),(∀D∈q,Inc p.Treaties.length 0 D)->(s.2=true->zke p s.1) ->
  zup p x K q s.1 s.2=K (q.foldl (zCu p) s).1 (q.foldl (zCu p) s).2 (x+1)/\((q.foldl (zCu p) s).2=true->zke p (q.foldl (zCu p) s).1)
 | [],s,_,hs=>⟨by rw[zup,zqs (fI (by omega))]; rfl,hs⟩
 | D::q,s,hq,hs=>by
  have h5:=h.t5;have hD:=zxY (hq D (List.mem_cons_self ..));have ih:=zCw h hx (K:=K) q (zCu p s D) (fun D hD=>hq D (List.mem_cons_of_mem _ hD)) (zCv hs D);refine⟨?_,ih.2⟩;refine Eq.trans ?_ ih.1;rw[zup]
  have hD5:D.length<=5:=by omega
  by_cases hset:zke p D
  ·rw[(zBT h (zr5 hD5 (by omega))).some_of hset,obs,if_pos rfl];have hg:zCs p D↔(zCi p (inD D)).Hi<=p.Reserve:=⟨fun q=>q.2,fun q=>⟨hset,q⟩⟩;obtain⟨M,b⟩:=s
   cases b with
   | true=>
    have hM:=hs rfl;have hMl:M.length<=p.Treaties.length:=hM.len
    show(if true=true then _ else _)=_
    rw[if_pos rfl,zB1 h hset.inT (by omega),obs]
    show(ztP p M).bind _=_
    rw[zB1 h hM.inT (by show M.length<=9; omega),obs]
    by_cases hp:zBX p.Treaties M<=zBX p.Treaties D
    ·rw[if_pos hp]
     have e:zCu p (M,true) D=(M,true):=if_neg fun q=>by have:zBX p.Treaties D < zBX p.Treaties M:=q.2 rfl; omega
     rw[e]
    ·rw[if_neg hp,zCn h hset,obs]
     by_cases hk:(zCi p (inD D)).Hi<=p.Reserve
     ·have e:zCu p (M,true) D=(D,true):=if_pos ⟨hg.2 hk,fun _=>by show zBX p.Treaties D < zBX p.Treaties M; omega⟩;rw[decide_eq_true hk,if_pos rfl,zCr (by omega),obs,e]
     ·have e:zCu p (M,true) D=(M,true):=if_neg fun q=>hk (hg.1 q.1);rw[decide_eq_false hk,if_neg (by decide),e]
   | false=>
    show(if false=true then _ else _)=_
    rw[if_neg (by decide),zCn h hset,obs]
    by_cases hk:(zCi p (inD D)).Hi<=p.Reserve
    ·have e:zCu p (M,false) D=(D,true):=if_pos ⟨hg.2 hk,fun q=>(by cases q)⟩;rw[decide_eq_true hk,if_pos rfl,zCr (by omega),obs,e]
    ·have e:zCu p (M,false) D=(M,false):=if_neg fun q=>hk (hg.1 q.1);rw[decide_eq_false hk,if_neg (by decide),e]
  ·rw[(zBT h (zr5 hD5 (by omega))).some_not hset,obs,if_neg (by decide)];have e:zCu p s D=s:=if_neg fun q=>hset q.1.1;rw[e]
theorem zCx{p:Pg}(h:VP p):∀(d e k:Nat) (s:List Int × Bool),k+e=p.Treaties.length+1->e < d->(s.2=true->zke p s.1)->zuq p d s.1 s.2 (k:Int)=some ((zry (fun s=>zrz p.Treaties.length s [] 0) e k).foldl (zCu p) s)
 | 0,_,_,_,_,hd,_=>by omega
 | d+1,0,k,s,hk,hd,hs=>by
  rw[zuq,if_neg (by omega)]; rfl
 | d+1,e+1,k,s,hk,hd,hs=>by
  have h5:=h.t5
  have hinc:∀D∈zrz p.Treaties.length k [] 0,Inc p.Treaties.length 0 D:=fun D hD=>by
   obtain⟨T,h1,_,h3⟩:=zxX.1 hD;rw[List.nil_append] at h1;rw[h1]; exact h3
  obtain⟨q1,q2⟩:=zCw h (x:=(k:Int)) (by omega) (K:=zuq p d) (zrz p.Treaties.length k [] 0) s hinc hs;rw[zuq,if_pos (by omega)];unfold zrC;rw[zqs (by omega),obs,Int.toNat_natCast,Int.toNat_natCast,q1,show(k:Int)+1=((k+1:Nat):Int) by omega];refine(zCx h d e (k+1) _ (by omega) (by omega) q2).trans ?_
  show _=some ((zrz p.Treaties.length k [] 0++zry (fun s=>zrz p.Treaties.length s [] 0) e (k+1)).foldl (zCu p) s)
  rw[List.foldl_append]
theorem zCy{p:Pg}(h:VP p):zur p=some ((zoj p.Treaties.length).foldl (zCu p) ([],false)):=by
 have h5:=h.t5;unfold zur;rw[zqs (fI (by omega))]
 exact zCx h _ (p.Treaties.length+1) 0 ([],false) (by omega) (by omega) fun q=>by cases q
structure zCz (p:Pg) (A:List (List Int)) (s:List Int × Bool):Prop where
 yes:s.2=true->s.1∈A/\zCs p s.1/\∀D∈A,zCs p D->zBX p.Treaties s.1 < zBX p.Treaties D\/(zBX p.Treaties s.1=zBX p.Treaties D/\(D=s.1\/shB s.1 D=true))
 no:s.2=false->s.1=[]/\∀D∈A,¬ zCs p D
theorem zCA{p:Pg}:∀(q A:List (List Int)) (s:List Int × Bool),(A++q).Pairwise (fun a b=>shB a b=true)->zCz p A s->zCz p (A++q) (q.foldl (zCu p) s)
 | [],A,s,_,h=>by rw[List.append_nil]; exact h
 | D::q,A,s,hp,h=>by
  have e:A++D::q=(A++[D])++q:=by rw[List.append_assoc]; rfl
  rw[e] at hp ⊢;refine zCA q (A++[D]) (zCu p s D) hp ?_;have hAD:∀a∈A,shB a D=true:=fun a ha=>(List.pairwise_append.1 (List.pairwise_append.1 hp).1).2.2 a ha D (List.mem_singleton.2 rfl)
  have hmem:∀D',D'∈A++[D]->D'∈A\/D'=D:=fun D' hD'=>by
   rcases List.mem_append.1 hD' with q | q
   ·exact .inl q
   ·exact .inr (List.mem_singleton.1 q)
  obtain⟨M,b⟩:=s
  by_cases hc:zCs p D/\(b=true->zBX p.Treaties D < zBX p.Treaties M)
  ·have e2:zCu p (M,b) D=(D,true):=if_pos hc;rw[e2];refine⟨fun _=>⟨List.mem_append_right _ (List.mem_singleton.2 rfl),hc.1,fun D' hD' hg=>?_⟩,fun q=>(by cases q)⟩
   rcases hmem D' hD' with hq | rfl
   ·cases b with
    | true=>
     have h1:zBX p.Treaties D < zBX p.Treaties M:=hc.2 rfl
     rcases (h.yes rfl).2.2 D' hq hg with h2 | ⟨h2,_⟩
     ·have h2:zBX p.Treaties M < zBX p.Treaties D':=h2;exact .inl (by show zBX p.Treaties D < _; omega)
     ·have h2:zBX p.Treaties M=zBX p.Treaties D':=h2;exact .inl (by show zBX p.Treaties D < _; omega)
    | false=>exact absurd hg ((h.no rfl).2 D' hq)
   ·exact .inr ⟨rfl,.inl rfl⟩
  ·have e2:zCu p (M,b) D=(M,b):=if_neg hc;rw[e2]
   cases b with
   | true=>
    refine⟨fun _=>?_,fun q=>(by cases q)⟩;obtain⟨y1,y2,y3⟩:=h.yes rfl;refine⟨List.mem_append_left _ y1,y2,fun D' hD' hg=>?_⟩
    rcases hmem D' hD' with hq | rfl
    ·exact y3 D' hq hg
    ·have h1:¬ zBX p.Treaties D' < zBX p.Treaties M:=fun q=>hc ⟨hg,fun _=>q⟩
     rcases Int.lt_or_eq_of_le (show zBX p.Treaties M<=zBX p.Treaties D' by omega) with h2 | h2
     ·exact .inl h2
     ·exact .inr ⟨h2,.inr (hAD M y1)⟩
   | false=>
    refine⟨fun q=>(by cases q),fun _=>⟨(h.no rfl).1,fun D' hD' hg=>?_⟩⟩
    rcases hmem D' hD' with hq | rfl
    ·exact(h.no rfl).2 D' hq hg
    ·exact hc ⟨hg,fun q=>(by cases q)⟩
theorem zCB{p:Pg}(h:VP p):(∃M,zur p=some (M,true)/\zCt p M)\/(zur p=some ([],false)/\∀D,¬ zCs p D):=by
 have hi:=zCA (p:=p) (zoj p.Treaties.length) [] ([],false) (zyc _) ⟨fun q=>(by cases q),fun _=>⟨rfl,fun D hD=>by cases hD⟩⟩;rw[List.nil_append] at hi;rw[zCy h];generalize (zoj p.Treaties.length).foldl (zCu p) ([],false)=s at hi;have hall:∀D,zCs p D->D∈zoj p.Treaties.length:=fun D hD=>zxZ.2 hD.1.inc;obtain⟨M,b⟩:=s
 cases b with
 | true=>
  obtain⟨_,y2,y3⟩:=hi.yes rfl;exact .inl ⟨M,rfl,y2,fun D hD=>y3 D (hall D hD) hD⟩
 | false=>
  obtain⟨n1,n2⟩:=hi.no rfl;have n1:M=[]:=n1;subst n1;exact .inr ⟨rfl,fun D hD=>n2 D (hall D hD) hD⟩
theorem zCC{p:Pg}(h:VP p):(∃M,zus p=some (M,zBX p.Treaties M,0)/\zCt p M)\/(zus p=some ([],0,10)/\∀D,¬ zCs p D):=by
 have h5:=h.t5;unfold zus;rw[zAg h,obs,if_pos rfl]
 rcases zCB h with ⟨M,q1,q2⟩ | ⟨q1,q2⟩
 ·have hl:=q2.good.1.len;refine .inl ⟨M,?_,q2⟩;rw[q1,obs]
  show(ztP p M).bind _=_
  rw[zB1 h q2.good.1.inT (by omega),obs]
 ·refine .inr ⟨?_,q2⟩;rw[q1,obs]; rfl
end
end Go.Proofs.YtkcmdghjgoaggaaGreat

namespace Go.Proofs.YtkcmdghjgoaggaaGreat
open _root_.Go.Proofs.Tryz
open Go.Abs
set_option maxRecDepth 100000
noncomputable section
def zCD(p:Pg):Prop:=p.Losses.length<=7/\p.Treaties.length<=8/\p.Reports.length<=8
theorem VP.thin{p:Pg}(h:VP p):zCD p:=by
 have:=h.l4; have:=h.t5; have:=h.r5;exact⟨by omega,by omega,by omega⟩
def zCE(p:Pg):Prop:=zCD p/\(VP p->zyy p.Losses<=300)
theorem zCF{p:Pg}:Ev (zuH p) (zCE p):=by
 unfold zuH zCE zCD
 by_cases h1:p.Losses.length<=7
 ·rw[if_pos (by omega)]
  by_cases h2:p.Treaties.length<=8
  ·rw[if_pos (by omega)]
   by_cases h3:p.Reports.length<=8
   ·rw[if_pos (by omega),zy2 (by omega) (by omega) (by omega),obs]
    by_cases hf:zyz p=0
    ·have hv:=zyA.1 hf;rw[if_pos hf,zy1 hv,obs];exact Ev.dec ⟨fun q=>⟨⟨h1,h2,h3⟩,fun _=>q⟩,fun q=>q.2 hv⟩
    ·rw[if_neg hf];exact Ev.tt ⟨⟨h1,h2,h3⟩,fun q=>absurd (zyA.2 q) hf⟩
   ·rw[if_neg (by omega)]; exact Ev.ff fun q=>h3 q.1.2.2
  ·rw[if_neg (by omega)]; exact Ev.ff fun q=>h2 q.1.2.1
 ·rw[if_neg (by omega)]; exact Ev.ff fun q=>h1 q.1.1
theorem zCG{p:Pg}:Ev (zuN p) (VP p/\zyy p.Losses<=300):=by
 unfold zuN
 by_cases ht:zCE p
 ·obtain⟨⟨a,b,c⟩,ht2⟩:=ht;rw[zCF.some_of ⟨⟨a,b,c⟩,ht2⟩,obs,if_pos rfl,zy2 (by omega) (by omega) (by omega),obs];exact Ev.dec (zyA.trans ⟨fun q=>⟨q,ht2 q⟩,fun q=>q.1⟩)
 ·rw[zCF.some_not ht,obs,if_neg (by decide)];exact Ev.ff fun q=>ht ⟨q.1.thin,fun _=>q.2⟩
theorem zCH{p:Pg}(h:zCD p):zuE p=some p:=by
 obtain⟨h1,h2,h3⟩:=h
 have k2:zuB p p.Losses p.Treaties 1000000 p.Reserve [] 0=some p:=by
  refine(zr0 (l:=p.Reports) (fun r=>r) (F:=fun d acc x=>zuB p p.Losses p.Treaties d p.Reserve acc x) (fun acc=>some ({ Losses:=p.Losses,Reserve:=p.Reserve,Treaties:=p.Treaties,Reports:=acc }:Pg)) (fun d k acc a hk ha=>?_) (fun d acc=>?_) (d:=1000000) (by omega)).trans (by rw[List.map_id'])
  ·have hkl:=(List.getElem?_eq_some_iff.1 hk).1
   show zuB p p.Losses p.Treaties (d+1) _ _ _=_
   rw[zuB,if_pos (by omega),zrU hk,obs,obs]
   show(some a.Paid).bind _=_
   rw[obs,zqs (by omega),zqs (fI (by omega))]
  ·show zuB p p.Losses p.Treaties (d+1) _ _ _=_
   rw[zuB,if_neg (Int.lt_irrefl _)]
 have k1:zuC p p.Losses 1000000 p.Reserve [] [] 0=some p:=by
  refine(zr0 (l:=p.Treaties) (fun r=>r) (F:=fun d acc x=>zuC p p.Losses d p.Reserve acc [] x) (fun acc=>zuB p p.Losses acc 1000000 p.Reserve [] 0) (fun d k acc a hk ha=>?_) (fun d acc=>?_) (d:=1000000) (by omega)).trans (by rw[List.map_id']; exact k2)
  ·have hkl:=(List.getElem?_eq_some_iff.1 hk).1
   show zuC p p.Losses (d+1) _ _ _ _=_
   rw[zuC,if_pos (by omega),zrU hk,obs,zqs (by omega),zqs (fI (by omega))]
  ·show zuC p p.Losses (d+1) _ _ _ _=_
   rw[zuC,if_neg (Int.lt_irrefl _)]
 refine(zr0 (l:=p.Losses) (fun r=>r) (F:=fun d acc x=>zuD p d acc p.Reserve [] [] x) (fun acc=>zuC p acc 1000000 p.Reserve [] [] 0) (fun d k acc a hk ha=>?_) (fun d acc=>?_) (d:=1000000) (by omega)).trans (by rw[List.map_id']; exact k1)
 ·have hkl:=(List.getElem?_eq_some_iff.1 hk).1
  show zuD p (d+1) _ _ _ _ _=_
  rw[zuD,if_pos (by omega),zrU hk,obs]
  show(some a).bind _=_
  rw[obs,zqs (by omega),zqs (fI (by omega))]
 ·show zuD p (d+1) _ _ _ _ _=_
  rw[zuD,if_neg (Int.lt_irrefl _)]
theorem zCI{l:List Int}(hl:l.length<=1000):zuG l l=some true:=by
 unfold zuG;rw[if_pos rfl]
 have key:=zr3 (l:=l) (F:=zuF l l) (ok:=fun _=>True) (bad:=some false) (fin:=some true) (fun d k a ha=>by
  have hk:=(List.getElem?_eq_some_iff.1 ha).1;refine⟨fun _=>?_,fun h=>absurd trivial h⟩
  rw[zuF,if_pos (by omega),zrU ha,obs,obs,if_pos rfl,zqs (fI (by omega))]) (fun d=>by rw[zuF,if_neg (Int.lt_irrefl _)]) (d:=l.length+1) (by omega)
 exact key.1 fun _ _=>trivial
def zCJ(n:Int)(rs:List Rpt):Pg:={ Losses:=[{ Lo:=100,Hi:=120 },{ Lo:=300,Hi:=300 }],Reserve:=n,Treaties:=[{ Kind:=0,Part:=25,Above:=0,Most:=0,Times:=0,Price:=50,Of:=-1 },{ Kind:=1,Part:=0,Above:=50,Most:=100,Times:=0,Price:=30,Of:=-1 },{ Kind:=1,Part:=0,Above:=20,Most:=40,Times:=1,Price:=5,Of:=0 }],Reports:=rs }
def zCK:List Rpt:=[{ Treaty:=0,Paid:={ Lo:=103,Hi:=110 } },{ Treaty:=2,Paid:={ Lo:=45,Hi:=46 } }]
theorem zCL(rs:List Rpt):zuJ rs=some (zCJ 200 rs):=rfl
theorem zCM:zuK=some zCK:=rfl
theorem zCN(n:Int):zuL n=some (zCJ n []):=rfl
theorem zCO{a b hi:Int}(h1:0<=a)(h2:a<=b)(h3:b<=hi):RgV { Lo:=a,Hi:=b } hi:=⟨h1,h2,h3⟩
theorem zCP{n:Int}{rs:List Rpt}(hn:0<=n/\n<=10000)(hr:rs.length<=5)(hrs:∀r∈rs,(0<=r.Treaty/\r.Treaty<=2)/\RgV r.Paid 10000):VP (zCJ n rs):=by
 refine { ls:=fun r hr=>?_,res:=hn,ts:=fun t ht=>?_,of':=fun i t ht=>?_,rs:=fun r hr=>?_,l4:=by show 2<=4; omega,t5:=by show 3<=5; omega,r5:=hr,many:=by show zyy [{ Lo:=100,Hi:=120 },{ Lo:=300,Hi:=300 }]<=1500; decide }
 ·rcases List.mem_cons.1 hr with rfl | hr
  ·exact zCO (by omega) (by omega) (by omega)
  rcases List.mem_cons.1 hr with rfl | hr
  ·exact zCO (by omega) (by omega) (by omega)
  ·cases hr
 ·rcases List.mem_cons.1 ht with rfl | ht
  ·exact⟨by unfold zgo; decide,by decide,by decide⟩
  rcases List.mem_cons.1 ht with rfl | ht
  ·exact⟨by unfold zgo; decide,by decide,by decide⟩
  rcases List.mem_cons.1 ht with rfl | ht
  ·exact⟨by unfold zgo; decide,by decide,by decide⟩
  ·cases ht
 ·match i,ht with
  | 0,ht=>cases ht; exact⟨by decide,by decide⟩
  | 1,ht=>cases ht; exact⟨by decide,by decide⟩
  | 2,ht=>cases ht; exact⟨by decide,by decide⟩
  | k+3,ht=>cases ht
 ·exact⟨(hrs r hr).1,(hrs r hr).2⟩
theorem vp3(n:Int)(hn:0<=n/\n<=10000):VP (zCJ n []):=zCP hn (by show 0<=5; omega) fun r hr=>by cases hr
theorem zCQ:VP (zCJ 200 zCK):=zCP (by omega) (by show 2<=5; omega) fun r hr=>by
 rcases List.mem_cons.1 hr with rfl | hr
 ·exact⟨⟨by decide,by decide⟩,zCO (by omega) (by omega) (by omega)⟩
 rcases List.mem_cons.1 hr with rfl | hr
 ·exact⟨⟨by decide,by decide⟩,zCO (by omega) (by omega) (by omega)⟩
 ·cases hr
theorem zCR{p:Pg}(h:VP p){D:List Int}(hD:Inc p.Treaties.length 0 D):∃b,b < 2 ^ p.Treaties.length/\zx1 b=D:=zyj (by have:=h.t5; omega) hD
theorem zCS:zke (zCJ 200 []) [1]:=⟨List.pairwise_singleton _ _,fun v hv=>by
 have:=List.mem_singleton.1 hv; subst this
 exact⟨⟨by decide,by decide⟩,by decide +kernel⟩⟩
theorem zCT:zCt (zCJ 300 []) [0,1]:=by
 have hs:zke (zCJ 300 []) [0,1]:=⟨by simp,fun v hv=>by
  rcases List.mem_cons.1 hv with rfl | hv
  ·exact⟨⟨by decide,by decide⟩,by decide +kernel⟩
  ·have:=List.mem_singleton.1 hv; subst this
   exact⟨⟨by decide,by decide⟩,by decide +kernel⟩⟩
 refine⟨⟨hs,by decide +kernel⟩,fun D hD=>?_⟩;obtain⟨b,hb,rfl⟩:=zCR (vp3 300 (by omega)) hD.1.inc;have hb:b < 8:=hb
 have:b=0\/b=1\/b=2\/b=3\/b=4\/b=5\/b=6\/b=7:=by omega
 rcases this with rfl | rfl | rfl | rfl | rfl | rfl | rfl | rfl
 ·exact absurd hD.2 (by decide +kernel)
 ·exact absurd hD.2 (by decide +kernel)
 ·exact absurd hD.2 (by decide +kernel)
 ·have e:zx1 3=[0,1]:=by decide +kernel
  rw[e]; exact .inr ⟨rfl,.inl rfl⟩
 ·exact absurd (hD.1.2 2 (by decide +kernel)).2 (by decide +kernel)
 ·exact absurd (hD.1.2 2 (by decide +kernel)).2 (by decide +kernel)
 ·exact absurd (hD.1.2 2 (by decide +kernel)).2 (by decide +kernel)
 ·exact absurd (hD.1.2 2 (by decide +kernel)).2 (by decide +kernel)
def okT(L:List Int):Bool:=decide (103<=(zzm (zCJ 200 zCK).Treaties L).pays 0/\(zzm (zCJ 200 zCK).Treaties L).pays 0<=110) && decide (45<=(zzm (zCJ 200 zCK).Treaties L).pays 2/\(zzm (zCJ 200 zCK).Treaties L).pays 2<=46)
theorem zCU:(zCg (zCJ 200 zCK)).all (fun L=>!okT L)=true:=by decide +kernel
theorem zCV:¬ zz4 (zCJ 200 zCK) zCK:=by
 rintro⟨L,hL,hA⟩
 have h1:=hA _ (List.mem_cons_self ..);have h2:=hA _ (List.mem_cons_of_mem _ (List.mem_cons_self ..));have h3:=List.all_eq_true.1 zCU L ((zCh zCQ).2 hL)
 have h4:okT L=true:=by
  unfold okT;rw[Bool.and_eq_true_iff];exact⟨decide_eq_true h1,decide_eq_true h2⟩
 rw[h4] at h3; cases h3
theorem fp0:FP (zCJ 200 zCK) 0:=⟨[112,300],⟨⟨by decide,by decide⟩,⟨by decide,by decide⟩,trivial⟩,fun r hr=>by
 have hr:r∈[({ Treaty:=0,Paid:={ Lo:=103,Hi:=110 } }:Rpt)]:=hr;have:=List.mem_singleton.1 hr; subst this
 exact(by decide +kernel:(103:Int)<=(zzm (zCJ 200 zCK).Treaties [112,300]).pays 0/\(zzm (zCJ 200 zCK).Treaties [112,300]).pays 0<=110)⟩
theorem zCW:zux (zCJ 200 zCK)=some (1,0):=by
 rcases zBO zCQ with ⟨j,a1,a2,a3,a4⟩ | ⟨a1,a2⟩
 ·have:j=1:=zBP (p:=zCJ 200 zCK) a2 a3 (j':=1) zCV fun i hi=>by
   rw[show i=0 by omega]; exact fp0
  subst this; exact a4
 ·exact absurd (a1 1 (by show 1 < 2; omega)) zCV
theorem zCX:zuz (zCJ 200 zCK)=some ([0],0):=by
 obtain⟨M,q1,q2⟩:=zBM zCQ
 have hm:zAU 2 (PL (zCJ 200 zCK)) [0]:=by
  refine⟨⟨List.pairwise_singleton _ _,fun v hv=>by have:=List.mem_singleton.1 hv; subst this; exact⟨by decide,by decide⟩⟩,⟨[100,300],⟨⟨by decide,by decide⟩,⟨by decide,by decide⟩,trivial⟩,fun j hj hs=>?_⟩,fun D hD hP=>?_⟩
  ·have hj:j < 2:=hj
   have:j=0\/j=1:=by omega
   rcases this with rfl | rfl
   ·exact absurd hs (by decide +kernel)
   ·refine(zBj (p:=zCJ 200 zCK) (j:=1) rfl).2 ?_;exact(by decide +kernel:(45:Int)<=(zzm (zCJ 200 zCK).Treaties [100,300]).pays 2/\(zzm (zCJ 200 zCK).Treaties [100,300]).pays 2<=46)
  ·obtain⟨b,hb,rfl⟩:=zyj (n:=2) (by omega) hD;have hb:b < 4:=hb
   have:b=0\/b=1\/b=2\/b=3:=by omega
   rcases this with rfl | rfl | rfl | rfl
   ·refine absurd (zBv.2 ((PL.congr fun j hj=>?_).1 hP)) zCV;have hj:j < 2:=hj
    have:j=0\/j=1:=by omega
    rcases this with rfl | rfl <;> decide +kernel
   ·exact .inl (by decide +kernel)
   ·exact .inr (by decide +kernel)
   ·exact .inr (by decide +kernel)
 rw[q2.uniq hm] at q1;exact q1
theorem zCY:zz4 (zCJ 200 []) (zCJ 200 []).Reports:=⟨[100,300],⟨⟨by decide,by decide⟩,⟨by decide,by decide⟩,trivial⟩,fun r hr=>by cases hr⟩
theorem zCZ:zua (zCJ 200 []) [100,300]=some ([100,100,45],200,0):=by
 rw[zAk (vp3 200 (by omega)) (L:=[100,300]) ⟨⟨by decide,by decide⟩,⟨by decide,by decide⟩,trivial⟩]
 have e1:lN (zCJ 200 []).Treaties.length (zzm (zCJ 200 []).Treaties [100,300]).pays=[100,100,45]:=by decide +kernel
 have e2:(zzm (zCJ 200 []).Treaties [100,300]).soc=200:=by decide +kernel
 rw[e1,e2]
theorem zC0{r:Rg}{a b:Int}(h1:r.Lo=a)(h2:r.Hi=b):r={ Lo:=a,Hi:=b }:=by cases r; subst h1; subst h2; rfl
theorem zC1:zuk (zCJ 200 [])=some (bsN 3 (bdF (zCJ 200 []) (trL (zCJ 200 []))),0):=by
 have h:=vp3 200 (by omega);obtain⟨bs,q1,q2⟩:=zAo h zCY;rw[q1,q2.uniq (zBB h zCY).1]; rfl
theorem bd0:bdF (zCJ 200 []) (trL (zCJ 200 [])) 0={ Pays:={ Lo:=100,Hi:=105 },Keeps:={ Lo:=55,Hi:=55 } }:=by
 have e1:=zC0 (r:=(bdF (zCJ 200 []) (trL (zCJ 200 [])) 0).Pays) (a:=100) (b:=105) (by decide +kernel) (by decide +kernel);have e2:=zC0 (r:=(bdF (zCJ 200 []) (trL (zCJ 200 [])) 0).Keeps) (a:=55) (b:=55) (by decide +kernel) (by decide +kernel);generalize bdF (zCJ 200 []) (trL (zCJ 200 [])) 0=b at e1 e2
 cases b; simp only at e1 e2; rw[e1,e2]
theorem bd2:bdF (zCJ 200 []) (trL (zCJ 200 [])) 2={ Pays:={ Lo:=45,Hi:=50 },Keeps:={ Lo:=45,Hi:=50 } }:=by
 have e1:=zC0 (r:=(bdF (zCJ 200 []) (trL (zCJ 200 [])) 2).Pays) (a:=45) (b:=50) (by decide +kernel) (by decide +kernel);have e2:=zC0 (r:=(bdF (zCJ 200 []) (trL (zCJ 200 [])) 2).Keeps) (a:=45) (b:=50) (by decide +kernel) (by decide +kernel);generalize bdF (zCJ 200 []) (trL (zCJ 200 [])) 2=b at e1 e2
 cases b; simp only at e1 e2; rw[e1,e2]
theorem zC2:zul (zCJ 200 [])=some ({ Lo:=200,Hi:=215 },0):=by
 have h:=vp3 200 (by omega);obtain⟨r,q1,q2⟩:=zAq h zCY;rw[q1,q2.uniq (zBB h zCY).2,zC0 (r:=wdL (fun L=>(zzm (zCJ 200 []).Treaties L).soc) (trL (zCJ 200 []))) (a:=200) (b:=215) (by decide +kernel) (by decide +kernel)]
theorem zC3:zuo (zCJ 200 []) [1]=some ({ Lo:=300,Hi:=320 },0):=by
 rw[zCo (vp3 200 (by omega)) (by unfold zr4; decide) zCS,zC0 (r:=zCi (zCJ 200 []) (inD [1])) (a:=300) (b:=320) (by decide +kernel) (by decide +kernel)]
theorem zC4:zus (zCJ 300 [])=some ([0,1],80,0):=by
 rcases zCC (vp3 300 (by omega)) with ⟨M,q1,q2⟩ | ⟨_,q2⟩
 ·rw[q1,q2.uniq zCT]; rfl
 ·exact absurd zCT.good (q2 _)
theorem zC5:zut (zCJ 300 []) [0,1] 80=some true:=
 (zCq (vp3 300 (by omega)) (by unfold zr4; decide)).some_of ⟨zCT.good.1,by decide +kernel,zCT.good.2⟩
theorem f64{n:Int}(h:-1000000<=n/\n<=1000000):zl7 .i64 n:=fI (by omega)
theorem zC6:zuM=some true:=by
 have i0:idx (bsN 3 (bdF (zCJ 200 []) (trL (zCJ 200 [])))) 0=some { Pays:={ Lo:=100,Hi:=105 },Keeps:={ Lo:=55,Hi:=55 } }:=by
  have:=zrU (zBA (n:=3) (f:=bdF (zCJ 200 []) (trL (zCJ 200 []))) (k:=0) (by omega));rw[bd0] at this; exact this
 have i2:idx (bsN 3 (bdF (zCJ 200 []) (trL (zCJ 200 [])))) 2=some { Pays:={ Lo:=45,Hi:=50 },Keeps:={ Lo:=45,Hi:=50 } }:=by
  have:=zrU (zBA (n:=3) (f:=bdF (zCJ 200 []) (trL (zCJ 200 []))) (k:=2) (by omega));rw[bd2] at this; exact this
 have hl:((bsN 3 (bdF (zCJ 200 []) (trL (zCJ 200 [])))).length:Int)=3:=by rw[zBz]; rfl
 have s1:zuG [100,100,45] [100,100,45]=some true:=zCI (by decide);have s2:zuG [0,1] [0,1]=some true:=zCI (by decide);have s3:zuG [0] [0]=some true:=zCI (by decide);have f:∀n:Int,-1000000<=n/\n<=1000000->zl7 .i64 n:=fun n h=>f64 h;unfold zuM
 simp only[zCL,zCM,zCN,obs,zCZ,zC1,zC2,zC3,zC4,zCW,zCX,s1,s2,s3,if_true,hl,i0,i2,zuI]
 rw[zqs (f 100 (by omega)),zqs (f 100 (by omega)),zqs (f 105 (by omega)),zqs (f 105 (by omega)),zqs (f 55 (by omega)),zqs (f 55 (by omega)),zqs (f 55 (by omega)),zqs (f 55 (by omega)),if_pos (by decide),zqs (f 45 (by omega)),zqs (f 45 (by omega)),zqs (f 50 (by omega)),zqs (f 50 (by omega)),zqs (f 45 (by omega)),zqs (f 45 (by omega)),zqs (f 50 (by omega)),zqs (f 50 (by omega)),if_pos (by decide),zqs (f 200 (by omega)),zqs (f 200 (by omega)),zqs (f 215 (by omega)),zqs (f 215 (by omega)),if_pos (by decide),zqs (f 300 (by omega)),zqs (f 300 (by omega)),zqs (f 320 (by omega)),zqs (f 320 (by omega)),if_pos (by decide)]
 simp only[zC5,obs,if_true]
theorem aw:((zuM).bind fun r=>some r)=some true:=by rw[zC6]; rfl
theorem u8w{x:Int}(h:zl7 .u8 x):zmc .i64 x=x/\0<=x/\x < 256:=by
 have h':0<=x/\x < 256:=h;exact⟨wz (fI (by omega)),h'⟩
def fl6(a b c d e g:Bool):Nat->Bool
 | 0=>a
 | 1=>b
 | 2=>c
 | 3=>d
 | 4=>e
 | _=>g
theorem zC7{a b c d e g:Bool}{i:Nat}(h:i < 6):idx ([a,b,c,d,e,g]:List Bool) (i:Int)=some (fl6 a b c d e g i):=by
 have:i=0\/i=1\/i=2\/i=3\/i=4\/i=5:=by omega
 rcases this with rfl | rfl | rfl | rfl | rfl | rfl <;> exact zrU rfl
theorem zC8{S:Nat->Bool}{i:Nat}(h:S i=true):macc S (i+1)=macc S i ||| 2 ^ i:=by
 show(if S i=true then _ else _)=_
 rw[if_pos h]
theorem zC9{S:Nat->Bool}{i:Nat}(h:¬ S i=true):macc S (i+1)=macc S i:=by
 show(if S i=true then _ else _)=_
 rw[if_neg h]
theorem zDa{a b n:Nat}(ha:a < 2 ^ n)(hb:b < 2 ^ n):Nat.lor a b < 2 ^ n:=Nat.or_lt_two_pow ha hb
theorem zDb{r:Rg × Int}{x:Nat}(hx:x<=100000){o:List Int × Int}{kp pa pb:Int}{v1 v2 v3 v4:Bd}{K:Int->Int->Option Bool}{m:Nat}(hm:m < 64):zuQ r (x:Int) o kp pa v1 pb v2 v3 v4 K (Int.toNat 6+1) (m:Int) 0=K ((Nat.lor m (macc (fl6 (decide (pa=v1.Pays.Lo)) (decide (pb=v2.Pays.Hi)) (decide (kp=v3.Keeps.Lo)) (decide (kp=v4.Keeps.Hi)) (decide (o.2=r.1.Lo)) (decide (o.2=r.1.Hi))) 6):Nat):Int) ((x:Int)+1):=by
 generalize hf:fl6 (decide (pa=v1.Pays.Lo)) (decide (pb=v2.Pays.Hi)) (decide (kp=v3.Keeps.Lo)) (decide (kp=v4.Keeps.Hi)) (decide (o.2=r.1.Lo)) (decide (o.2=r.1.Hi))=f;have key:=zyk (n:=6) (fun d (s:Int) y=>zuQ r (x:Int) o kp pa v1 pb v2 v3 v4 K d s y) (fun k=>((Nat.lor m (macc f k):Nat):Int)) (fin:=K ((Nat.lor m (macc f 6):Nat):Int) ((x:Int)+1)) (fun d k hk=>?_) (fun d=>?_) (Int.toNat 6+1) 0 (by omega) (by decide)
 ·have e0:Nat.lor m (macc f 0)=m:=Nat.or_zero m;rw[e0] at key;exact key
 ·have h1:=zDa (n:=6) hm (Nat.lt_of_lt_of_le (zAW f k) (Nat.pow_le_pow_right (by omega) (by omega)));have h2:=zDa (n:=6) hm (Nat.lt_of_lt_of_le (zAW f (k+1)) (Nat.pow_le_pow_right (by omega) (by omega)));obtain⟨w,hw⟩:∃w:Nat,w=2 ^ k:=⟨_,rfl⟩
  have hp:w<=64:=by rw[hw]; exact zAX (by omega)
  have h1:Nat.lor m (macc f k) < 64:=h1;have h2:Nat.lor m (macc f (k+1)) < 64:=h2
  show zuQ r (x:Int) o kp pa v1 pb v2 v3 v4 K (d+1) _ _=_
  rw[zuQ,if_pos (by omega),zC7 hk,obs,hf]
  by_cases hs:f k=true
  ·have hmm:Nat.lor (Nat.lor m (macc f k)) w=Nat.lor m (macc f (k+1)):=by
    rw[hw,zC8 hs];exact Nat.or_assoc _ _ _
   rw[if_pos hs,zBe (by omega),<- hw,zqs (by omega),wu (by omega),zqs (by omega),zqs (by omega),zqs (fI (by omega)),zqs (by omega),zqs (by omega),zqs (fI (by omega)),zqs (fI (by omega)),Int.toNat_natCast,Int.toNat_natCast,hmm,zqs (fI (by omega)),zqs (fI (by omega))]
  ·rw[if_neg hs,zqs (fI (by omega)),zC9 hs]
 ·show zuQ r (x:Int) o kp pa v1 pb v2 v3 v4 K (d+1) _ _=_
  rw[zuQ,if_neg (by omega),zqs (fI (by omega))]
def mmN(g:List Int->Nat)(l:List (List Int)):Nat:=l.foldl (fun m L=>Nat.lor m (g L)) 0
theorem zDc{g:List Int->Nat}{l:List (List Int)}{k:Nat}{L:List Int}(h:l[k]? = some L):mmN g (l.take (k+1))=Nat.lor (mmN g (l.take k)) (g L):=by
 unfold mmN;rw[zB0 h,List.foldl_append]; rfl
theorem zDd{g:List Int->Nat}{j:Nat}:∀(l:List (List Int)) (m:Nat),(l.foldl (fun m L=>Nat.lor m (g L)) m).testBit j=true↔m.testBit j=true\/∃L∈l,(g L).testBit j=true
 | [],m=>⟨.inl,fun h=>h.elim id fun⟨_,h,_⟩=>by cases h⟩
 | L::l,m=>by
  rw[List.foldl_cons,zDd l];have e:(Nat.lor m (g L)).testBit j=(m.testBit j || (g L).testBit j):=Nat.testBit_or ..;rw[e,Bool.or_eq_true]
  constructor
  ·rintro ((h | h) | ⟨L',h1,h2⟩)
   ·exact .inl h
   ·exact .inr ⟨L,List.mem_cons_self ..,h⟩
   ·exact .inr ⟨L',List.mem_cons_of_mem _ h1,h2⟩
  ·rintro (h | ⟨L',h1,h2⟩)
   ·exact .inl (.inl h)
   ·rcases List.mem_cons.1 h1 with rfl | h1
    ·exact .inl (.inr h2)
    ·exact .inr ⟨L',h1,h2⟩
theorem zDe{g:List Int->Nat}(hg:∀L,g L < 64)(l:List (List Int)):mmN g l < 64:=by
 have:mmN g l < 2 ^ 6:=by
  apply Nat.lt_pow_two_of_testBit
  intro j hj
  cases hb:(mmN g l).testBit j with
  | false=>rfl
  | true=>
   rcases (zDd l 0).1 hb with h | ⟨L,_,h⟩
   ·rw[Nat.zero_testBit] at h; cases h
   ·rw[Nat.testBit_lt_two_pow (Nat.lt_of_lt_of_le (hg L) (Nat.pow_le_pow_right (n:=2) (by omega) hj:2 ^ 6<=2 ^ j))] at h; cases h
 exact this
def gE(p:Pg)(t:Nat)(b:Bd)(rn:Rg)(L:List Int):Nat:=macc (fl6 (decide ((zzm p.Treaties L).pays t=b.Pays.Lo)) (decide ((zzm p.Treaties L).pays t=b.Pays.Hi)) (decide ((zzm p.Treaties L).keeps t=b.Keeps.Lo)) (decide ((zzm p.Treaties L).keeps t=b.Keeps.Hi)) (decide ((zzm p.Treaties L).soc=rn.Lo)) (decide ((zzm p.Treaties L).soc=rn.Hi))) 6
theorem zDf{p:Pg}{t:Nat}{b:Bd}{rn:Rg}(L:List Int):gE p t b rn L < 64:=zAW _ 6
theorem zDg{p:Pg}{t:Nat}{b:Bd}{rn:Rg}{L:List Int}{j:Nat}(hj:j < 6)(h:fl6 (decide ((zzm p.Treaties L).pays t=b.Pays.Lo)) (decide ((zzm p.Treaties L).pays t=b.Pays.Hi)) (decide ((zzm p.Treaties L).keeps t=b.Keeps.Lo)) (decide ((zzm p.Treaties L).keeps t=b.Keeps.Hi)) (decide ((zzm p.Treaties L).soc=rn.Lo)) (decide ((zzm p.Treaties L).soc=rn.Hi)) j=true):(gE p t b rn L).testBit j=true:=by
 unfold gE;rw[zAV,decide_eq_true hj,h]; rfl
theorem zDh{m:Nat}(h64:m < 2 ^ 6)(hb:∀j,j < 6->m.testBit j=true):m=2 ^ 6 - 1:=by
 apply Nat.eq_of_testBit_eq
 intro j;rw[Nat.testBit_two_pow_sub_one]
 by_cases hj:j < 6
 ·rw[hb j hj,decide_eq_true hj]
 ·rw[Nat.testBit_lt_two_pow (Nat.lt_of_lt_of_le h64 (Nat.pow_le_pow_right (by omega) (by omega))),decide_eq_false hj]
theorem zDi{p:Pg}(h:VP p){l:List (List Int)}(hl:∀L,L∈l↔TrS p p.Reports L)(htr:l.length<=1500){which:Int}{t:Nat}(w1:zmc .i64 which % (p.Treaties.length:Int)=(t:Int))(htl:t < p.Treaties.length){bs:List Bd}{b:Bd}{rn:Rg}(hgb:bs[t]? = some b)
  (bp:IsB (TrS p p.Reports) (fun L=>(zzm p.Treaties L).pays t) b.Pays) (bk:IsB (TrS p p.Reports) (fun L=>(zzm p.Treaties L).keeps t) b.Keeps) (q4:IsB (TrS p p.Reports) (fun L=>(zzm p.Treaties L).soc) rn) :
  zuR p which (bs,0) (rn,0) l (l.length+1) 0 0=some true:=by
 have h5:=h.t5;refine zyk (n:=l.length) (fun d (s:Int) y=>zuR p which (bs,0) (rn,0) l d s y) (fun k=>(mmN (gE p t b rn) (l.take k):Int)) (fun d k hk=>?_) (fun d=>?_) (l.length+1) 0 (by omega) (by omega)
 ·have hg:=List.getElem?_eq_getElem hk;have hin:=((hl _).1 (List.getElem_mem hk)).1;have hm:=zDe (zDf (p:=p) (t:=t) (b:=b) (rn:=rn)) (l.take k);obtain⟨ob,_,_⟩:=zBl h hin;generalize l[k]=L at hg hin ob
  have hkp:zuP p (lN p.Treaties.length (zzm p.Treaties L).pays) (t:Int)=some ((zzm p.Treaties L).keeps t):=by
   rw[zBb h.tsOk htl];exact zBd h (fun j=>by have:=ob j; omega) htl
  show zuR p which (bs,0) (rn,0) l (d+1) _ _=_
  obtain⟨r,hr,hr1,hr2⟩:∃r,zsN p L ((2 ^ p.Treaties.length - 1:Nat):Int)=some r/\r.1=lN p.Treaties.length (zzm p.Treaties L).pays/\r.2=(zzm p.Treaties L).soc:=⟨_,zBi h hin,rfl,rfl⟩;rw[zuR,if_pos (by omega),zrU hg,obs,zBh h,obs,hr,obs,w1,hr1];have hgb':idx ((bs,(0:Int)):List Bd × Int).1 (t:Int)=some b:=zrU hgb;rw[hkp,obs,zAs h5 _ htl,obs,hgb',obs,obs,obs,obs,obs];rw[zDb (by omega) hm,zDc hg,hr2];unfold gE
  rfl
 ·have hall:=zDh (zDe (zDf (p:=p) (t:=t) (b:=b) (rn:=rn)) l) fun j hj=>by
   refine(zDd l 0).2 (.inr ?_)
   have:j=0\/j=1\/j=2\/j=3\/j=4\/j=5:=by omega
   rcases this with rfl | rfl | rfl | rfl | rfl | rfl
   ·obtain⟨L,h1,h2⟩:=bp.1; exact⟨L,(hl _).2 h1,zDg hj (decide_eq_true h2)⟩
   ·obtain⟨L,h1,h2⟩:=bp.2.1; exact⟨L,(hl _).2 h1,zDg hj (decide_eq_true h2)⟩
   ·obtain⟨L,h1,h2⟩:=bk.1; exact⟨L,(hl _).2 h1,zDg hj (decide_eq_true h2)⟩
   ·obtain⟨L,h1,h2⟩:=bk.2.1; exact⟨L,(hl _).2 h1,zDg hj (decide_eq_true h2)⟩
   ·obtain⟨L,h1,h2⟩:=q4.1; exact⟨L,(hl _).2 h1,zDg hj (decide_eq_true h2)⟩
   ·obtain⟨L,h1,h2⟩:=q4.2.1; exact⟨L,(hl _).2 h1,zDg hj (decide_eq_true h2)⟩
  show zuR p which (bs,0) (rn,0) l (d+1) _ _=_
  rw[zuR,if_neg (Int.lt_irrefl _),List.take_length,hall,if_pos (show((2 ^ 6 - 1:Nat):Int)=63 by decide),aw]
theorem zDj{p:Pg}{which:Int}(_:zst p)(hw:zl7 .u8 which):zuS p which=some true:=by
 unfold zuS
 refine zCG.pick (fun hv=>?_) fun _=>by rw[if_neg (by decide),aw]
 have h:=hv.1;have h5:=h.t5;obtain⟨w1,w2⟩:=u8w hw;rw[if_pos rfl]
 by_cases hn:(p.Treaties.length:Int)=0
 ·rw[if_pos hn,aw]
 have m1:=Int.emod_nonneg which hn;have m2:=Int.emod_lt_of_pos which (show(0:Int) < p.Treaties.length by omega);obtain⟨t,ht⟩:∃t:Nat,which % (p.Treaties.length:Int)=(t:Int):=⟨(which % (p.Treaties.length:Int)).toNat,by omega⟩
 have htl:t < p.Treaties.length:=by omega
 rw[if_neg hn]
 simp only[zCH h.thin,obs]
 rw[zqs (by omega),zqs (by omega),zqs (fI (by rw[w1]; omega))]
 by_cases hc:zz4 p p.Reports
 ·obtain⟨bs,q1,q2⟩:=zAo h hc;obtain⟨rn,q3,q4⟩:=zAq h hc;have hbl:=q2.len;have hgb:=List.getElem?_eq_getElem (show t < bs.length by omega);obtain⟨bp,bk⟩:=q2.at' t _ hgb;rw[q1,q3,obs,obs]
  show(if (0:Int)=0 then (if (0:Int)=0 then (if (bs.length:Int)=(p.Treaties.length:Int) then _ else _) else _) else _)=_
  rw[if_pos rfl,if_pos rfl,if_pos (by omega),zBu h,obs];exact zDi h (fun L=>zBs h) (zBt h) (by rw[w1]; exact ht) htl hgb bp bk q4
 ·rw[zAp h hc,zAr h hc,obs,obs]
  show(if (11:Int)=0 then _ else (if (11:Int)=11 then (if (11:Int)=11 then _ else _) else _))=_
  rw[if_neg (by decide),if_pos rfl,if_pos rfl,aw]
end
end Go.Proofs.YtkcmdghjgoaggaaGreat

namespace Go.Proofs.YtkcmdghjgoaggaaGreat
open _root_.Go.Proofs.Tryz
open Go.ChangeShapes Go.WideShapes Go.ChangeAt Go.RowKit Go.Abs
set_option maxRecDepth 100000
theorem op3:zsd prog 3 Int (zl7 .i64):=zse (by kernel_rfl)
theorem zDk:zsd prog 55 Rg zsn:=zsl (fs:=[(3,0),(3,1)]) (by kernel_rfl) (by kernel_rfl) (zsk (α:=Int) (ok:=zl7 .i64) (k:=1) op3 (by kernel_rfl) rfl (zsk (α:=Int) (ok:=zl7 .i64) (k:=1) op3 (by kernel_rfl) rfl zsj)) (by kernel_rfl) fun m vs h=>by
 obtain⟨a0,c0,r0,m0,h0,p0,k0,s0,⟨a1,c1,r1,m1,h1,p1,k1,s1,rfl⟩⟩:=h;have p0:c0=[.int .i64 a0]:=p0; subst p0;have p1:c1=[.int .i64 a1]:=p1; subst p1;subst h1 h0;exact⟨⟨a0,a1⟩,rfl,⟨k0,k1⟩⟩
theorem zDl:zsd prog 22 (List Rg) (fun l=>l.length<=maxLen/\∀a0∈l,zsn a0):=zsg (by kernel_rfl) (by kernel_rfl) zDk
theorem zDm:zsd prog 87 Ty zsp:=zsl (fs:=[(3,0),(3,1),(3,2),(3,3),(3,4),(3,5),(3,6)]) (by kernel_rfl) (by kernel_rfl) (zsk (α:=Int) (ok:=zl7 .i64) (k:=1) op3 (by kernel_rfl) rfl (zsk (α:=Int) (ok:=zl7 .i64) (k:=1) op3 (by kernel_rfl) rfl (zsk (α:=Int) (ok:=zl7 .i64) (k:=1) op3 (by kernel_rfl) rfl (zsk (α:=Int) (ok:=zl7 .i64) (k:=1) op3 (by kernel_rfl) rfl (zsk (α:=Int) (ok:=zl7 .i64) (k:=1) op3 (by kernel_rfl) rfl (zsk (α:=Int) (ok:=zl7 .i64) (k:=1) op3 (by kernel_rfl) rfl (zsk (α:=Int) (ok:=zl7 .i64) (k:=1) op3 (by kernel_rfl) rfl zsj))))))) (by kernel_rfl) fun m vs h=>by
 obtain⟨a0,c0,r0,m0,h0,p0,k0,s0,⟨a1,c1,r1,m1,h1,p1,k1,s1,⟨a2,c2,r2,m2,h2,p2,k2,s2,⟨a3,c3,r3,m3,h3,p3,k3,s3,⟨a4,c4,r4,m4,h4,p4,k4,s4,⟨a5,c5,r5,m5,h5,p5,k5,s5,⟨a6,c6,r6,m6,h6,p6,k6,s6,rfl⟩⟩⟩⟩⟩⟩⟩:=h;have p0:c0=[.int .i64 a0]:=p0; subst p0;have p1:c1=[.int .i64 a1]:=p1; subst p1;have p2:c2=[.int .i64 a2]:=p2; subst p2;have p3:c3=[.int .i64 a3]:=p3; subst p3;have p4:c4=[.int .i64 a4]:=p4; subst p4;have p5:c5=[.int .i64 a5]:=p5; subst p5;have p6:c6=[.int .i64 a6]:=p6; subst p6;subst h6 h5 h4 h3 h2 h1 h0;exact⟨⟨a0,a1,a2,a3,a4,a5,a6⟩,rfl,⟨k0,k1,k2,k3,k4,k5,k6⟩⟩
theorem zDn:zsd prog 23 (List Ty) (fun l=>l.length<=maxLen/\∀a0∈l,zsp a0):=zsg (by kernel_rfl) (by kernel_rfl) zDm
theorem zDo:zsd prog 96 Rpt zsr:=zsl (fs:=[(3,0),(55,1)]) (by kernel_rfl) (by kernel_rfl) (zsk (α:=Int) (ok:=zl7 .i64) (k:=1) op3 (by kernel_rfl) rfl (zsk (α:=Rg) (ok:=zsn) (k:=2) zDk (by kernel_rfl) rfl zsj)) (by kernel_rfl) fun m vs h=>by
 obtain⟨a0,c0,r0,m0,h0,p0,k0,s0,⟨a1,c1,r1,m1,h1,p1,k1,s1,rfl⟩⟩:=h;have p0:c0=[.int .i64 a0]:=p0; subst p0;have p1:c1=[.int .i64 a1.Lo,.int .i64 a1.Hi]:=p1; subst p1;subst h1 h0;exact⟨⟨a0,a1⟩,rfl,⟨k0,k1⟩⟩
theorem zDp:zsd prog 24 (List Rpt) (fun l=>l.length<=maxLen/\∀a0∈l,zsr a0):=zsg (by kernel_rfl) (by kernel_rfl) zDo
theorem zDq:zsd prog 26 Pg zst:=zsl (fs:=[(22,0),(3,1),(23,2),(24,3)]) (by kernel_rfl) (by kernel_rfl) (zsk (α:=List Rg) (ok:=(fun l=>l.length<=maxLen/\∀a0∈l,zsn a0)) (k:=1) zDl (by kernel_rfl) rfl (zsk (α:=Int) (ok:=zl7 .i64) (k:=1) op3 (by kernel_rfl) rfl (zsk (α:=List Ty) (ok:=(fun l=>l.length<=maxLen/\∀a0∈l,zsp a0)) (k:=1) zDn (by kernel_rfl) rfl (zsk (α:=List Rpt) (ok:=(fun l=>l.length<=maxLen/\∀a0∈l,zsr a0)) (k:=1) zDp (by kernel_rfl) rfl zsj)))) (by kernel_rfl) fun m vs h=>by
 obtain⟨a0,c0,r0,m0,h0,p0,k0,s0,⟨a1,c1,r1,m1,h1,p1,k1,s1,⟨a2,c2,r2,m2,h2,p2,k2,s2,⟨a3,c3,r3,m3,h3,p3,k3,s3,rfl⟩⟩⟩⟩:=h;obtain⟨d0,rfl,p0⟩:=p0;have p1:c1=[.int .i64 a1]:=p1; subst p1;obtain⟨d2,rfl,p2⟩:=p2;obtain⟨d3,rfl,p3⟩:=p3;subst h3 h2 h1 h0;exact⟨⟨a0,a1,a2,a3⟩,⟨_,_,_,rfl,p0,p2,p3⟩,⟨k0,k1,k2,k3⟩⟩
theorem zDr:laidOutB prog=true:=by kernel_rfl
theorem zDs:ownKnob prog.godebug=none:=by kernel_rfl
theorem zDt(os:Os)(started:os.Started)(H:Type)(enc:TypeId × Value->H) :
    ReturnsInHanded {} Tryz.checked os 9 .any (Rows.treatyEndsSpec.pre6 enc Tryz.prog Tryz.f9 Rows.treatyEndsRow.domain false) (Rows.treatyEndsSpec.post enc Tryz.prog Tryz.f9 false true false false):=by
  refine returnsInHanded_of_change (C:=Tryz.checked) zDs started (by kernel_rfl) Tryz.func9
    (ChangeSpec.witness6 (enc:=enc) (C:=Tryz.checked) false ⟨#[],#[.agg #[.slice none 0 0,.int .i64 0,.slice none 0 0,.slice none 0 0],.int .u8 0],[]⟩ 8 (by kernel_rfl) (by kernel_rfl) (by kernel_rfl) (by kernel_rfl)) ?_
  intro W base args ds gs before hval0 hW hcnd _;have hval:∀(j:Nat) t v,Tryz.f9.params[j]? = some t->args[j]? = some v->Value.okWide Tryz.prog W .any base t v:=hval0;have hW':=hW;obtain⟨p,q,hA0,hV,rfl,hfz,hnd⟩:=hW;have hA:DataW.TrodAll enc Tryz.prog W 0 (fun _=>true) true Tryz.f9.params.toList args.toList ds p:=hA0;rw[Tryz.params9] at hA hval;obtain⟨v0,v1,d0,d1,p0,p1,rfl,rfl,rfl,h0,h1⟩:=trodAll_two hA;obtain⟨rfl,rfl⟩:=trodVars_none hV;obtain⟨n1,hv1⟩:=okWide_int Tryz.underlying5 (hval 1 5 v1 rfl rfl)
  have hlt:∀x∈p0++p1,x.block < W.heap.size:=fun x hx=>by simpa using hW'.lt x (by simpa using hx)
  obtain⟨fu0,hf0⟩:=id h0;obtain⟨fu1,hf1⟩:=id h1
  clear hA0 hval0
  obtain⟨e0,m0,w0,a_0,le0,sv0,lay0,cr0,zwP,ok0⟩:=zDq H enc W true _ _ _ hf0 _ _ (Lay.nil W);obtain⟨i1,hc1,_,hw1⟩:=DataW.trod_int Tryz.underlying5 hf1;obtain⟨c0_0,c0_2,c0_3,rfl,g0_0,g0_2,g0_3⟩:=zwP
  obtain⟨cs0,hv0,cl0⟩:∃cs,v0=.agg cs/\v0.cells.toList=cs.toList:=by
    have hl:=cr0.length
    cases v0 with
    | agg cs=>exact⟨cs,rfl,rfl⟩
    | _=>exact absurd hl (by simp[Value.cells])
  subst hv0;subst hv1
  have hi1:i1=n1:=by
    have h:[Value.int .u8 n1]=[.int .u8 i1]:=hc1
    cases h; rfl
  subst hi1;have hargs:zeq (VR e0) [.agg 4 [c0_0,.int .i64 a_0.Reserve,c0_2,c0_3],.c (.int .u8 i1)] [.agg cs0,.int .u8 i1]:=.cons ⟨cs0,rfl,cr0,rfl⟩ (.cons rfl .nil);refine(callsIn_wide.1 (zqD fits htab (zxW (p:=a_0) (which:=i1) lay0.pre g0_0 g0_2 g0_3 (zDj ok0 (zqB hw1)) (Q:=fun v _=>v=.c (.bool true)) fun _ _=>rfl) lay0.hr (args':=#[.agg cs0,.int .u8 i1]) hargs 0)).mono fun en W' hp=>?_;obtain⟨v,v',e',m',rfl,hst,hvr,rfl⟩:=hp;have hv':v'=.bool true:=hvr;subst hv';have hbelow:=lay0.below hst
  refine⟨_,rfl,[d0,d1],[],p0++p1,[],p0++p1,[],by simpa using hW',trodAll_mk1 (shut_bool Tryz.underlying4 _),
    trodAll_mk2 (Below.trod zDr (by kernel_rfl) (of_decide_eq_true (by kernel_rfl)) h0 hbelow fun x hx=>hlt x (by simp[hx])) (Below.trod zDr (by kernel_rfl) (of_decide_eq_true (by kernel_rfl)) h1 hbelow fun x hx=>hlt x (by simp[hx])),rfl,lay0.kept hst _,fun hc=>by cases hc⟩
theorem TreatyEnds_holds:Rows.TreatyEndsSaid:=
 OpenClaim.holds_of_wide 9 Tryz.f9 rfl rfl rfl rfl rfl rfl rfl ⟨rfl,rfl,rfl,rfl,rfl⟩ rfl rfl rfl rfl rfl (by kernel_rfl) Tryz.func9 (by kernel_rfl)
  (of_decide_eq_true (by kernel_rfl)) (by unfold Func.isWrapper; first | (rw[if_pos (by decide +kernel)]; kernel_rfl) | (rw[if_neg (by decide +kernel)]; exact⟨rfl,rfl⟩))
  (fun os started H enc _=>zDt os started H enc)
end Go.Proofs.YtkcmdghjgoaggaaGreat

