/- CallWider, for all that it can be called with, returns true. Condition: none. -/
import Derived.Test.YtkclhciahokifaaCaH
import GoSem.Step
import GoSem.ClaimKeys
import Derived.DeepKeys2
import Derived.RangeFuncLeaves
import Derived.OrdersIn
import Derived.Laws.World
import Derived.Laws.Sem
import Derived.RangeFuncRecord
import Derived.Laws.CopyRow
import Derived.Laws.Append
import Derived.Laws.Rows
import Derived.Laws.Slices
import Derived.Laws.Entries
import Derived.ChangeKeysEq
import Derived.IntWalk
import Derived.DeepKeys
import Derived.DeepKeys3
import Derived.Laws.StructEq
import Derived.MapKept
import Derived.Laws.AppendOwn
import Derived.ChangeArms
import Derived.ChangeOld
import Derived.Carry
import Derived.ChangeShapes
import Derived.KernelRfl
import Derived.ProofKit
import Derived.Test.YtkclhciahokifaaRows

namespace Go.Proofs.Ytkclhciahokifaa
open _root_.Go.Proofs.Try
open Go.Abs
set_option maxRecDepth 100000
noncomputable section
def bfc(r:Nat->Int)(k i:Nat):Int:=if r i < r k then 1 else if r k=r i/\k < i then 1 else 0
theorem zwZ(f:Nat->Int){i:Nat}(hi:i<=5):part f i=S5 fun k=>if k < i then f k else 0:=by
 match i,hi with
 | 0,_=>show(0:Int)=0+0+0+0+0; omega
 | 1,_=>show 0+f 0=f 0+0+0+0+0; omega
 | 2,_=>show 0+f 0+f 1=f 0+f 1+0+0+0; omega
 | 3,_=>show 0+f 0+f 1+f 2=f 0+f 1+f 2+0+0; omega
 | 4,_=>show 0+f 0+f 1+f 2+f 3=f 0+f 1+f 2+f 3+0; omega
 | 5,_=>show 0+f 0+f 1+f 2+f 3+f 4=f 0+f 1+f 2+f 3+f 4; omega
theorem zw0(r:Nat->Int){i:Nat}(hi:i < 5):zwM r i=S5 fun k=>bfc r k i:=by
 unfold zwM gtN eqN;rw[zwZ _ (by omega),<- zwC];refine zwE fun k _=>?_;unfold bfc
 by_cases h1:r i < r k
 ·rw[if_pos h1,if_pos h1,if_neg (show ¬ r k=r i by omega)]
  by_cases h2:k < i
  ·rw[if_pos h2]; rfl
  ·rw[if_neg h2]; rfl
 ·rw[if_neg h1,if_neg h1]
  by_cases h2:k < i
  ·rw[if_pos h2]
   by_cases h3:r k=r i
   ·rw[if_pos h3,if_pos ⟨h3,h2⟩]; rfl
   ·rw[if_neg h3,if_neg fun h=>h3 h.1]; rfl
  ·rw[if_neg h2,if_neg fun h=>h2 h.2]; rfl
theorem zw1{f g:Nat->Int}(h:∀i,i < 5->f i<=g i):S5 f<=S5 g:=by
 have:=h 0 (by omega); have:=h 1 (by omega); have:=h 2 (by omega); have:=h 3 (by omega); have:=h 4 (by omega);unfold S5; omega
theorem zw2{f g:Nat->Int}(h:∀i,i < 5->f i<=g i){k:Nat}(hk:k < 5)(hlt:f k < g k):S5 f < S5 g:=by
 have:=h 0 (by omega); have:=h 1 (by omega); have:=h 2 (by omega); have:=h 3 (by omega); have:=h 4 (by omega);unfold S5
 match k,hk with
 | 0,_=>omega
 | 1,_=>omega
 | 2,_=>omega
 | 3,_=>omega
 | 4,_=>omega
theorem zw3(r:Nat->Int)(k i:Nat):0<=bfc r k i/\bfc r k i<=1:=by unfold bfc; split <;> (try split) <;> omega
theorem zw4{r:Nat->Int}{k i:Nat}:bfc r k i=1↔r i < r k\/(r k=r i/\k < i):=by
 unfold bfc
 by_cases h1:r i < r k
 ·rw[if_pos h1]; exact⟨fun _=>.inl h1,fun _=>rfl⟩
 ·rw[if_neg h1]
  by_cases h2:r k=r i/\k < i
  ·rw[if_pos h2]; exact⟨fun _=>.inr h2,fun _=>rfl⟩
  ·rw[if_neg h2]; exact⟨fun h=>by omega,fun h=>h.elim (fun h=>absurd h h1) fun h=>absurd h h2⟩
theorem zj9{r:Nat->Int}{k i:Nat}(hk:k < 5)(hi:i < 5)(h:r i < r k\/(r k=r i/\k < i)):zwM r k < zwM r i:=by
 rw[zw0 r hk,zw0 r hi];refine zw2 (fun j _=>?_) hk ?_
 ·have h1:=zw3 r j k; have h2:=zw3 r j i
  by_cases hj:bfc r j k=1
  ·have:=zw4.1 hj;have:bfc r j i=1:=zw4.2 (by omega)
   omega
  ·omega
 ·have h1:bfc r k i=1:=zw4.2 h
  have h2:¬ bfc r k k=1:=fun h=>by have:=zw4.1 h; omega
  have h3:=zw3 r k k
  omega
theorem zw5{r:Nat->Int}{k i:Nat}(hk:k < 5)(hi:i < 5)(h:k ≠ i):zwM r k ≠ zwM r i:=by
 by_cases h1:r i < r k\/(r k=r i/\k < i)
 ·have:=zj9 hk hi h1; omega
 ·have:=zj9 hi hk (r:=r) (by omega); omega
theorem zw6(r:Nat->Int){i:Nat}(hi:i < 5):0<=zwM r i/\zwM r i<=4:=by
 have h0:=zw3 r 0 i; have h1:=zw3 r 1 i; have h2:=zw3 r 2 i; have h3:=zw3 r 3 i; have h4:=zw3 r 4 i
 have hii:bfc r i i=0:=by
  have:=zw3 r i i
  have:¬ bfc r i i=1:=fun h=>by have:=zw4.1 h; omega
  omega
 rw[zw0 r hi];unfold S5
 dsimp only
 match i,hi with
 | 0,_=>omega
 | 1,_=>omega
 | 2,_=>omega
 | 3,_=>omega
 | 4,_=>omega
theorem zw7:∀a b:Fin 5,a ≠ b->∀c:Fin 5,a ≠ c->b ≠ c->∀d:Fin 5,a ≠ d->b ≠ d->c ≠ d->∀e:Fin 5,a ≠ e->b ≠ e->c ≠ e->d ≠ e->∀L:Fin 6,
  (if a.val < L.val then 1 else 0)+(if b.val < L.val then 1 else 0)+(if c.val < L.val then 1 else 0)+(if d.val < L.val then 1 else 0)+(if e.val < L.val then 1 else 0)=L.val:=by decide +kernel
theorem zw8(r:Nat->Int){L:Int}(hL:0<=L/\L<=5):S5 (fun i=>if zwM r i < L then 1 else 0)=L:=by
 have b:∀i,i < 5->0<=zwM r i/\zwM r i<=4:=fun i hi=>zw6 r hi;have b0:=b 0 (by omega); have b1:=b 1 (by omega); have b2:=b 2 (by omega); have b3:=b 3 (by omega); have b4:=b 4 (by omega)
 have ne:∀i j (hi:i < 5) (hj:j < 5),i ≠ j->(⟨(zwM r i).toNat,by have:=b i hi; omega⟩:Fin 5) ≠ ⟨(zwM r j).toNat,by have:=b j hj; omega⟩:=fun i j hi hj hij h=>by
  have h1:=Fin.mk.inj h;have:=zw5 (r:=r) hi hj hij;have:=b i hi; have:=b j hj
  omega
 have key:=zw7 ⟨(zwM r 0).toNat,by omega⟩ ⟨(zwM r 1).toNat,by omega⟩ (ne 0 1 (by omega) (by omega) (by omega)) ⟨(zwM r 2).toNat,by omega⟩ (ne 0 2 (by omega) (by omega) (by omega)) (ne 1 2 (by omega) (by omega) (by omega)) ⟨(zwM r 3).toNat,by omega⟩ (ne 0 3 (by omega) (by omega) (by omega)) (ne 1 3 (by omega) (by omega) (by omega)) (ne 2 3 (by omega) (by omega) (by omega)) ⟨(zwM r 4).toNat,by omega⟩ (ne 0 4 (by omega) (by omega) (by omega)) (ne 1 4 (by omega) (by omega) (by omega)) (ne 2 4 (by omega) (by omega) (by omega)) (ne 3 4 (by omega) (by omega) (by omega)) ⟨L.toNat,by omega⟩
 dsimp only at key
 have e:∀i,i < 5->(if zwM r i < L then (1:Int) else 0)=((if (zwM r i).toNat < L.toNat then 1 else 0:Nat):Int):=fun i hi=>by
  have:=b i hi
  by_cases h:zwM r i < L
  ·rw[if_pos h,if_pos (by omega)]; rfl
  ·rw[if_neg h,if_neg (by omega)]; rfl
 unfold S5
 dsimp only
 rw[e 0 (by omega),e 1 (by omega),e 2 (by omega),e 3 (by omega),e 4 (by omega)]
 omega
section
variable {N:Int} {u:Nat->Int}
theorem zw9(N:Int)(u:Nat->Int):S5 u * (N - S5 (qN N u))=S5 (rN N u):=by
 have h:∀k,rN N u k+S5 u * qN N u k=N * u k:=fun k=>Int.emod_add_mul_ediv (N * u k) (S5 u);have h0:=h 0; have h1:=h 1; have h2:=h 2; have h3:=h 3; have h4:=h 4
 have e1:S5 u * N=N * u 0+N * u 1+N * u 2+N * u 3+N * u 4:=by
  rw[Int.mul_comm]; unfold S5; rw[Int.mul_add,Int.mul_add,Int.mul_add,Int.mul_add]
 have e2:S5 u * S5 (qN N u)=S5 u * qN N u 0+S5 u * qN N u 1+S5 u * qN N u 2+S5 u * qN N u 3+S5 u * qN N u 4:=by
  generalize S5 u=U;unfold S5; rw[Int.mul_add,Int.mul_add,Int.mul_add,Int.mul_add]
 rw[Int.mul_sub,e1,e2]
 show _=rN N u 0+rN N u 1+rN N u 2+rN N u 3+rN N u 4
 omega
theorem zxa(hu:UOk u)(N:Int):0<=N - S5 (qN N u)/\N - S5 (qN N u)<=gtN (rN N u) 0/\N - S5 (qN N u)<=4:=by
 have hU:=hu.pos;have hl:=zw9 N u;have hr:=fun k=>zwW (N:=N) hu k;have r0:=hr 0; have r1:=hr 1; have r2:=hr 2; have r3:=hr 3; have r4:=hr 4;refine⟨?_,?_,?_⟩
 ·apply Classical.byContradiction
  intro hn;have:S5 u * (N - S5 (qN N u)) < 0:=Int.mul_neg_of_pos_of_neg hU (by omega);rw[hl] at this;unfold S5 at this; omega
 ·have h2:S5 (rN N u)<=S5 u * gtN (rN N u) 0:=by
   have e:S5 u * gtN (rN N u) 0=S5 (fun k=>S5 u * if 0 < rN N u k then 1 else 0):=by
    unfold gtN;generalize S5 u=U
    show U * S5 (fun k=>if 0 < rN N u k then 1 else 0)=_
    unfold S5;rw[Int.mul_add,Int.mul_add,Int.mul_add,Int.mul_add]
   rw[e];refine zw1 fun k _=>?_;have:=hr k
   by_cases h:0 < rN N u k
   ·rw[if_pos h]; omega
   ·rw[if_neg h]; omega
  rw[<- hl] at h2;exact Int.le_of_mul_le_mul_left h2 hU
 ·apply Classical.byContradiction
  intro hn;have h2:S5 u * 5<=S5 u * (N - S5 (qN N u)):=Int.mul_le_mul_of_nonneg_left (by omega) (by omega);rw[hl] at h2;have h3:S5 (rN N u)=rN N u 0+rN N u 1+rN N u 2+rN N u 3+rN N u 4:=rfl
  omega
theorem zxb(hu:UOk u){k:Nat}(h0:rN N u k=0):¬ zwM (rN N u) k < N - S5 (qN N u):=by
 have h1:=(zxa hu N).2.1;have h2:=zwO (rN N u) (rN N u k) k
 have h3:zwM (rN N u) k=gtN (rN N u) 0+eqN (rN N u) (rN N u k) k:=by unfold zwM; rw[h0]
 omega
theorem zxc(hu:UOk u)(N:Int):S5 (zwU N u)=N:=by
 have h:=zxa hu N;have e:S5 (zwU N u)=S5 (qN N u)+S5 (fun i=>if zwM (rN N u) i < N - S5 (qN N u) then 1 else 0):=zwC _ _;rw[e,zw8 _ (by omega)]; omega
theorem zxd(N:Int)(u:Nat->Int)(k:Nat):qN N u k<=zwU N u k/\zwU N u k<=qN N u k+1:=by unfold zwU; split <;> omega
theorem zxe(hu:UOk u)(hN:0<=N){k:Nat}(hk:k < 5):0<=zwU N u k:=by have:=zxd N u k; have:=zwV hu hN hk; omega
theorem zxf(hu:UOk u)(hN:0<=N){k:Nat}(hk:k < 5):zwU N u k<=N:=by
 have hs:=zxc hu N;have h:∀i,i < 5->0<=zwU N u i:=fun i hi=>zxe hu hN hi;have:=h 0 (by omega); have:=h 1 (by omega); have:=h 2 (by omega); have:=h 3 (by omega); have:=h 4 (by omega);unfold S5 at hs
 match k,hk with
 | 0,_=>omega
 | 1,_=>omega
 | 2,_=>omega
 | 3,_=>omega
 | 4,_=>omega
theorem zxg(hu:UOk u){k:Nat}(h:u k=0):zwU N u k=0:=by
 have hq:qN N u k=0:=by unfold qN; rw[h,Int.mul_zero,Int.zero_ediv]
 have hr:rN N u k=0:=by unfold rN; rw[h,Int.mul_zero,Int.zero_emod]
 unfold zwU;rw[if_neg (zxb hu hr),hq]; rfl
end
end
end Go.Proofs.Ytkclhciahokifaa

namespace Go.Proofs.Ytkclhciahokifaa
open _root_.Go.Proofs.Try
open Go.Abs
set_option maxRecDepth 100000
noncomputable section
structure zxh (a:Mb):Prop where
 sum:1<=a.Sum/\a.Sum<=1000
 cls:1<=a.Class/\a.Class<=10
 most:0<=a.Most/\a.Most<=100000
def zxi(ms:List Mb):Prop:=ms.length<=5/\∀a∈ms,zxh a
def unN(a:Mb):Int:=a.Sum * a.Class
theorem zxj{a:Mb}(h:zxh a):1<=unN a/\unN a<=10000:=by
 have h1:=zwT (a:=a.Sum) (x:=a.Class) (A:=1000) (X:=10) ⟨by have:=h.sum; omega,h.sum.2⟩ ⟨by have:=h.cls; omega,h.cls.2⟩;have h2:a.Sum * 1<=a.Sum * a.Class:=Int.mul_le_mul_of_nonneg_left h.cls.1 (by have:=h.sum; omega);have:=h.sum;unfold unN; omega
def uF(ms:List Mb)(sh:Nat->Bool):Nat->Int:=zwv ms sh unN
def mF(ms:List Mb)(sh:Nat->Bool):Nat->Int:=zwv ms sh (·.Most)
def zxk(sh:Nat->Bool):Bool:=(sh 0 == false) && ((sh 1 == false) && ((sh 2 == false) && ((sh 3 == false) && (sh 4 == false))))
def zxl(a b:Nat->Bool):Bool:=(a 0 == b 0) && ((a 1 == b 1) && ((a 2 == b 2) && ((a 3 == b 3) && (a 4 == b 4))))
def zxm(ms:List Mb)(sh:Nat->Bool):Prop:=∀i,sh i=true->i < ms.length
def roundsN(ms:List Mb):Nat->(Nat->Bool)->Int->(Nat->Int)->(Nat->Int) × Int
 | 0,_,N,c=>(c,N)
 | d+1,sh,N,c=>if zxk sh=true then (c,N) else
   if zxl (zwx ms sh (zwU N (uF ms sh))) sh=true then (fun i=>c i+zwU N (uF ms sh) i,0) else
    roundsN ms d (zwx ms sh (zwU N (uF ms sh))) (N - S5 (mF ms fun i=>sh i && !zwx ms sh (zwU N (uF ms sh)) i)) (fun i=>c i+mF ms (fun i=>sh i && !zwx ms sh (zwU N (uF ms sh)) i) i)
def cF(sh:Nat->Bool):Nat:=(sh 0).toNat+(sh 1).toNat+(sh 2).toNat+(sh 3).toNat+(sh 4).toNat
theorem zxn{sh:Nat->Bool}:zxk sh=true↔∀i,i < 5->sh i=false:=by
 unfold zxk
 simp only[Bool.and_eq_true,beq_iff_eq]
 constructor
 ·rintro⟨h0,h1,h2,h3,h4⟩ i hi
  match i,hi with
  | 0,_=>exact h0
  | 1,_=>exact h1
  | 2,_=>exact h2
  | 3,_=>exact h3
  | 4,_=>exact h4
 ·intro h; exact⟨h 0 (by omega),h 1 (by omega),h 2 (by omega),h 3 (by omega),h 4 (by omega)⟩
theorem zxo{a b:Nat->Bool}:zxl a b=true↔∀i,i < 5->a i=b i:=by
 unfold zxl
 simp only[Bool.and_eq_true,beq_iff_eq]
 constructor
 ·rintro⟨h0,h1,h2,h3,h4⟩ i hi
  match i,hi with
  | 0,_=>exact h0
  | 1,_=>exact h1
  | 2,_=>exact h2
  | 3,_=>exact h3
  | 4,_=>exact h4
 ·intro h; exact⟨h 0 (by omega),h 1 (by omega),h 2 (by omega),h 3 (by omega),h 4 (by omega)⟩
theorem zxp{ms:List Mb}{sh:Nat->Bool}{p:Nat->Int}{i:Nat}(h:zwx ms sh p i=true):sh i=true:=by
 unfold zwx at h
 cases hm:ms[i]? with
 | none=>rw[hm] at h; exact h
 | some a=>rw[hm] at h; exact(Bool.and_eq_true _ _ ▸ h).1
theorem zxq{ms:List Mb}{sh:Nat->Bool}{p:Nat->Int}{i:Nat}{a:Mb}(hm:ms[i]? = some a):zwx ms sh p i=(sh i && decide (p i<=a.Most)):=by unfold zwx; rw[hm]
theorem zxr{ms:List Mb}{sh:Nat->Bool}{p:Nat->Int}(h:¬ zxl (zwx ms sh p) sh=true):cF (zwx ms sh p) < cF sh:=by
 have hle:∀i,(zwx ms sh p i).toNat<=(sh i).toNat:=fun i=>by
  cases ha:zwx ms sh p i with
  | false=>exact Nat.zero_le _
  | true=>rw[zxp ha]; exact Nat.le_refl _
 have hne:∃i,i < 5/\(zwx ms sh p i).toNat ≠ (sh i).toNat:=by
  apply Classical.byContradiction
  intro hn;refine h (zxo.2 fun i hi=>?_)
  apply Classical.byContradiction
  intro h2;refine hn ⟨i,hi,fun h3=>h2 ?_⟩
  revert h3; cases zwx ms sh p i <;> cases sh i <;> decide
 obtain⟨i,hi,h2⟩:=hne;have l0:=hle 0; have l1:=hle 1; have l2:=hle 2; have l3:=hle 3; have l4:=hle 4;unfold cF
 match i,hi with
 | 0,_=>omega
 | 1,_=>omega
 | 2,_=>omega
 | 3,_=>omega
 | 4,_=>omega
theorem zxs{ms:List Mb}{sh:Nat->Bool}{num:Mb->Int}{i:Nat}(h:sh i=false):zwv ms sh num i=0:=by
 unfold zwv
 cases ms[i]? with
 | none=>rfl
 | some a=>show(if sh i=true then num a else 0)=0; rw[h]; rfl
theorem zxt{ms:List Mb}{sh:Nat->Bool}{num:Mb->Int}{i:Nat}{a:Mb}(hm:ms[i]? = some a)(h:sh i=true):zwv ms sh num i=num a:=by
 unfold zwv; rw[hm]; show(if sh i=true then num a else 0)=_; rw[h,if_pos rfl]
theorem zxu{ms:List Mb}(hms:zxi ms)(sh:Nat->Bool)(i:Nat):0<=uF ms sh i/\uF ms sh i<=10000:=by
 unfold uF
 cases hs:sh i with
 | false=>rw[zxs hs]; omega
 | true=>
  cases hm:ms[i]? with
  | none=>unfold zwv; rw[hm]; show(0:Int)<=0/\(0:Int)<=_; omega
  | some a=>rw[zxt hm hs]; have:=zxj (hms.2 a (List.mem_of_getElem? hm)); omega
theorem zxv{ms:List Mb}(hms:zxi ms){sh:Nat->Bool}(hs:zxm ms sh)(hn:¬ zxk sh=true):UOk (uF ms sh):=by
 have hb:=zxu hms sh;refine⟨fun i _=>by have:=hb i; omega,?_⟩
 obtain⟨i,hi,hsi⟩:∃i,i < 5/\sh i=true:=by
  apply Classical.byContradiction
  intro h;refine hn (zxn.2 fun i hi=>?_)
  cases hq:sh i with
  | false=>rfl
  | true=>exact absurd ⟨i,hi,hq⟩ h
 have hl:=hs i hsi
 have h1:1<=uF ms sh i:=by unfold uF; rw[zxt (List.getElem?_eq_getElem hl) hsi]; exact(zxj (hms.2 _ (List.getElem_mem hl))).1
 have b0:=hb 0; have b1:=hb 1; have b2:=hb 2; have b3:=hb 3; have b4:=hb 4;unfold S5
 match i,hi with
 | 0,_=>omega
 | 1,_=>omega
 | 2,_=>omega
 | 3,_=>omega
 | 4,_=>omega
structure RI (ms:List Mb) (sh:Nat->Bool) (N:Int) (c:Nat->Int):Prop where
 sup:zxm ms sh
 nn:0<=N/\N<=1000000
 cb:∀i,i < 5->0<=c i/\c i<=1000000
 c0:∀i,sh i=true->c i=0
section
variable {ms:List Mb} {sh:Nat->Bool} {N:Int} {c:Nat->Int}
theorem zxw(p:Nat->Int){i:Nat}:(sh i && !zwx ms sh p i)=true↔sh i=true/\∃a,ms[i]? = some a/\a.Most < p i:=by
 cases hm:ms[i]? with
 | none=>unfold zwx; rw[hm]; cases sh i <;> simp
 | some a=>
  rw[zxq hm]
  cases sh i with
  | false=>simp
  | true=>simp
theorem zxx(hms:zxi ms)(hs:zxm ms sh)(hn:¬ zxk sh=true)(hN:0<=N){i:Nat}(hi:i < 5) :
  0<=mF ms (fun i=>sh i && !zwx ms sh (zwU N (uF ms sh)) i) i/\mF ms (fun i=>sh i && !zwx ms sh (zwU N (uF ms sh)) i) i<=qN N (uF ms sh) i:=by
 have hu:=zxv hms hs hn;have hq:=zwV hu hN hi;unfold mF
 cases ho:(sh i && !zwx ms sh (zwU N (uF ms sh)) i) with
 | false=>rw[zxs (by exact ho)]; omega
 | true=>
  obtain⟨h1,a,h2,h3⟩:=(zxw _).1 ho;have hb:=(hms.2 a (List.mem_of_getElem? h2)).most;have hp:=zxd N (uF ms sh) i;rw[zxt h2 (by exact ho)]; omega
theorem RI.next(hms:zxi ms)(h:RI ms sh N c)(hn:¬ zxk sh=true):RI ms (zwx ms sh (zwU N (uF ms sh))) (N - S5 (mF ms fun i=>sh i && !zwx ms sh (zwU N (uF ms sh)) i)) (fun i=>c i+mF ms (fun i=>sh i && !zwx ms sh (zwU N (uF ms sh)) i) i):=by
 have hu:=zxv hms h.sup hn;have hm:=fun i (hi:i < 5)=>zxx hms h.sup hn h.nn.1 hi
 have hs:S5 (mF ms fun i=>sh i && !zwx ms sh (zwU N (uF ms sh)) i)<=S5 (zwU N (uF ms sh)):=zw1 fun i hi=>by have:=hm i hi; have:=zxd N (uF ms sh) i; omega
 rw[zxc hu] at hs
 have hs0:0<=S5 (mF ms fun i=>sh i && !zwx ms sh (zwU N (uF ms sh)) i):=by
  have:=hm 0 (by omega); have:=hm 1 (by omega); have:=hm 2 (by omega); have:=hm 3 (by omega); have:=hm 4 (by omega);unfold S5; omega
 have hnn:=h.nn;refine⟨fun i hi=>h.sup i (zxp hi),by omega,fun i hi=>?_,fun i hi=>?_⟩
 ·have h1:=hm i hi;have h2:=h.cb i hi
  have h3:mF ms (fun i=>sh i && !zwx ms sh (zwU N (uF ms sh)) i) i<=N:=by have:=zwV hu h.nn.1 hi; omega
  show 0<=c i+_/\c i+_<=_
  cases ho:(sh i && !zwx ms sh (zwU N (uF ms sh)) i) with
  | false=>
   have e:mF ms (fun i=>sh i && !zwx ms sh (zwU N (uF ms sh)) i) i=0:=zxs (by exact ho);rw[e]; omega
  | true=>
   have hc:=h.c0 i ((zxw _).1 ho).1;rw[hc]; omega
 ·have h1:=zxp hi
  show c i+_=0
  have e:mF ms (fun i=>sh i && !zwx ms sh (zwU N (uF ms sh)) i) i=0:=zxs (by show(sh i && !zwx ms sh _ i)=false; rw[hi]; simp);rw[h.c0 i h1,e]; rfl
theorem zxy{w:Wk}(hms:zxi w.s.Members):zts w (mkF sh)=some (mk5 (uF w.s.Members sh)):=by
 unfold zts;rw[zww (num:=unN) (fun a ha=>?_) hms.1,obs]; rfl;have h:=hms.2 a ha;have:=h.sum; have:=h.cls;have hb:=zxj h;unfold unN at hb
 show zto a=some (unN a)
 unfold zto unN;rw[zqq (by omega),zqq (by omega),zqq (fI (by omega))]
theorem zxz{w:Wk}(hms:zxi w.s.Members):ztt w (mkF sh)=some (mk5 (mF w.s.Members sh)):=by
 unfold ztt;rw[zww (number:=fun a=>ztp a) (num:=(·.Most)) (fun a _=>rfl) hms.1,obs]; rfl
theorem zxA{w:Wk}(hms:zxi w.s.Members)(need0:Int){need:Int}:∀(n D:Nat) (sh:Nat->Bool) (N:Int) (c:Nat->Int),RI w.s.Members sh N c->N+S5 c=need->need<=1000000->cF sh < n->cF sh < D ->
  ztw w need0 D need (c 0) (c 1) (c 2) (c 3) (c 4) (sh 0) (sh 1) (sh 2) (sh 3) (sh 4)=some { need:=need,calls:=mk5 (roundsN w.s.Members n sh N c).1 }
 | 0,_,_,_,_,_,_,_,h,_=>by omega
 | _+1,0,_,_,_,_,_,_,_,h=>by omega
 | n+1,D+1,sh,N,c,hr,hs,hneed,hn,hD=>by
  rw[ztw,roundsN]
  show(if zxk sh=true then _ else _)=_
  by_cases h0:zxk sh=true
  ·rw[if_pos h0,if_pos h0]; rfl
  ·rw[if_neg h0,if_neg h0];have hu:=zxv hms hr.sup h0
   have hbc:Bd 1000000000000 c:=fun i hi=>by have:=hr.cb i hi; omega
   have hcb:=hr.cb;have hc0:=hcb 0 (by omega); have hc1:=hcb 1 (by omega); have hc2:=hcb 2 (by omega); have hc3:=hcb 3 (by omega); have hc4:=hcb 4 (by omega)
   have hsc:0<=S5 c/\S5 c<=5000000:=by unfold S5; omega
   have hNN:0<=N/\N<=1000000:=hr.nn
   have e1:ztm ({ need:=need,calls:=mk5 c }:Oc)=some N:=by
    unfold ztm
    show(ztb (mk5 c)).bind _=_
    rw[zws hbc,obs,zqq (fI (by show -9223372036854775808<=need - S5 c/\need - S5 c < _; omega))];exact congrArg some (show need - S5 c=N by omega)
   show(ztm ({ need:=need,calls:=mk5 c }:Oc)).bind _=_
   rw[e1,obs]
   show(zts w (mkF sh)).bind _=_
   rw[zxy hms,obs,zwY hu hNN,obs]
   show(ztv w (mkF sh) (mk5 (zwU N (uF w.s.Members sh)))).bind _=_
   rw[zwy hms.1,obs]
   have hbp:Bd 1000000000000 (zwU N (uF w.s.Members sh)):=fun i hi=>by have:=zxe hu hNN.1 hi; have:=zxf hu hNN.1 hi; omega
   show(if zxl (zwx w.s.Members sh (zwU N (uF w.s.Members sh))) sh=true then _ else _)=_
   by_cases h1:zxl (zwx w.s.Members sh (zwU N (uF w.s.Members sh))) sh=true
   ·rw[if_pos h1,if_pos h1]
    have e2:ztn ({ need:=need,calls:=mk5 c }:Oc) (mk5 (zwU N (uF w.s.Members sh)))=some { need:=need,calls:=mk5 fun i=>c i+zwU N (uF w.s.Members sh) i }:=by
     unfold ztn
     show(ztd (mk5 c) _).bind _=_
     rw[zwt hbc hbp,obs]
    show(ztn ({ need:=need,calls:=mk5 c }:Oc) _).bind _=_
    rw[e2,obs]
   ·rw[if_neg h1,if_neg h1]
    show(ztf (mkF sh) (mkF (zwx w.s.Members sh (zwU N (uF w.s.Members sh))))).bind _=_
    rw[zwu,obs,zxz hms,obs];have hnext:=hr.next hms h0;have hm:=fun i (hi:i < 5)=>zxx hms hr.sup h0 hNN.1 hi
    have hbm:Bd 1000000000000 (mF w.s.Members fun i=>sh i && !zwx w.s.Members sh (zwU N (uF w.s.Members sh)) i):=fun i hi=>by have:=hm i hi; have:=zwV hu hNN.1 hi; omega
    have e2:ztn ({ need:=need,calls:=mk5 c }:Oc) (mk5 (mF w.s.Members fun i=>sh i && !zwx w.s.Members sh (zwU N (uF w.s.Members sh)) i))=some { need:=need,calls:=mk5 fun i=>c i+mF w.s.Members (fun i=>sh i && !zwx w.s.Members sh (zwU N (uF w.s.Members sh)) i) i }:=by
     unfold ztn
     show(ztd (mk5 c) _).bind _=_
     rw[zwt hbc hbm,obs]
    show(ztn ({ need:=need,calls:=mk5 c }:Oc) _).bind _=_
    rw[e2,obs];have hless:=zxr h1;have e3:S5 (fun i=>c i+mF w.s.Members (fun i=>sh i && !zwx w.s.Members sh (zwU N (uF w.s.Members sh)) i) i)=S5 c+S5 (mF w.s.Members fun i=>sh i && !zwx w.s.Members sh (zwU N (uF w.s.Members sh)) i):=zwC _ _
    have e4:N - S5 (mF w.s.Members fun i=>sh i && !zwx w.s.Members sh (zwU N (uF w.s.Members sh)) i)+S5 (fun i=>c i+mF w.s.Members (fun i=>sh i && !zwx w.s.Members sh (zwU N (uF w.s.Members sh)) i) i)=need:=by rw[e3]; omega
    exact zxA hms need0 n D _ _ _ hnext e4 hneed (by omega) (by omega)
end
def zxB(ms:List Mb)(ask:Nat->Bool)(need:Int):(Nat->Int) × Int:=roundsN ms 6 ask need fun _=>0
theorem zxC(sh:Nat->Bool):cF sh<=5:=by
 have h:∀b:Bool,b.toNat<=1:=fun b=>by cases b <;> decide
 have:=h (sh 0); have:=h (sh 1); have:=h (sh 2); have:=h (sh 3); have:=h (sh 4);unfold cF; omega
theorem zxD{w:Wk}(hms:zxi w.s.Members){ask:Nat->Bool}(ha:w.asked=mkF ask)(hsup:zxm w.s.Members ask){need:Int}(hn:0<=need/\need<=1000000):ztx w need=some { need:=need,calls:=mk5 (zxB w.s.Members ask need).1 }:=by
 unfold ztx;rw[ha];have hc:=zxC ask;exact zxA hms need 6 1000000 ask need (fun _=>0) ⟨hsup,hn,fun _ _=>by omega,fun _ _=>rfl⟩ (by rw[zwD]; omega) hn.2 (by omega) (by omega)
end
end Go.Proofs.Ytkclhciahokifaa

namespace Go.Proofs.Ytkclhciahokifaa
open _root_.Go.Proofs.Try
open Go.Abs
set_option maxRecDepth 100000
noncomputable section
section
variable {ms:List Mb}
theorem zxE(hms:zxi ms):∀(n:Nat) (sh:Nat->Bool) (N:Int) (c:Nat->Int),RI ms sh N c->cF sh < n->S5 (roundsN ms n sh N c).1+(roundsN ms n sh N c).2=N+S5 c/\0<=(roundsN ms n sh N c).2
 | 0,_,_,_,_,h=>by omega
 | n+1,sh,N,c,hr,h=>by
  unfold roundsN
  by_cases h0:zxk sh=true
  ·rw[if_pos h0]; have:=hr.nn; exact⟨by show S5 c+N=_; omega,hr.nn.1⟩
  ·rw[if_neg h0];have hu:=zxv hms hr.sup h0
   by_cases h1:zxl (zwx ms sh (zwU N (uF ms sh))) sh=true
   ·rw[if_pos h1];have e:S5 (fun i=>c i+zwU N (uF ms sh) i)=S5 c+S5 (zwU N (uF ms sh)):=zwC _ _;have hp:=zxc hu N;exact⟨by show S5 (fun i=>c i+zwU N (uF ms sh) i)+0=_; omega,Int.le_refl _⟩
   ·rw[if_neg h1];have hless:=zxr h1;have ih:=zxE hms n _ _ _ (hr.next hms h0) (by omega);have e:S5 (fun i=>c i+mF ms (fun i=>sh i && !zwx ms sh (zwU N (uF ms sh)) i) i)=S5 c+S5 (mF ms fun i=>sh i && !zwx ms sh (zwU N (uF ms sh)) i):=zwC _ _;rw[e] at ih;exact⟨by rw[ih.1]; omega,ih.2⟩
theorem zxF(hms:zxi ms):∀(n:Nat) (sh:Nat->Bool) (N:Int) (c:Nat->Int),RI ms sh N c->cF sh < n->∀i,i < 5->sh i=false->(roundsN ms n sh N c).1 i=c i
 | 0,_,_,_,_,h=>by omega
 | n+1,sh,N,c,hr,h=>fun i hi hs=>by
  unfold roundsN
  by_cases h0:zxk sh=true
  ·rw[if_pos h0]
  ·rw[if_neg h0];have hu:=zxv hms hr.sup h0
   by_cases h1:zxl (zwx ms sh (zwU N (uF ms sh))) sh=true
   ·rw[if_pos h1]
    show c i+_=_
    rw[zxg hu (show uF ms sh i=0 from zxs hs),Int.add_zero]
   ·rw[if_neg h1];have hless:=zxr h1
    have ha:zwx ms sh (zwU N (uF ms sh)) i=false:=by
     cases hq:zwx ms sh (zwU N (uF ms sh)) i with
     | false=>rfl
     | true=>rw[zxp hq] at hs; cases hs
    rw[zxF hms n _ _ _ (hr.next hms h0) (by omega) i hi ha];have e:mF ms (fun i=>sh i && !zwx ms sh (zwU N (uF ms sh)) i) i=0:=zxs (by show(sh i && _)=false; rw[hs]; rfl);rw[e,Int.add_zero]
theorem zxG(hms:zxi ms):∀(n:Nat) (sh:Nat->Bool) (N:Int) (c:Nat->Int),RI ms sh N c->cF sh < n->∀i a,i < 5->ms[i]? = some a->sh i=true->(0<=(roundsN ms n sh N c).1 i/\(roundsN ms n sh N c).1 i<=a.Most)/\(0 < (roundsN ms n sh N c).2->(roundsN ms n sh N c).1 i=a.Most)
 | 0,_,_,_,_,h=>by omega
 | n+1,sh,N,c,hr,h=>fun i a hi hm hs=>by
  unfold roundsN
  by_cases h0:zxk sh=true
  ·have:=zxn.1 h0 i hi; rw[hs] at this; cases this
  ·rw[if_neg h0];have hu:=zxv hms hr.sup h0;have hc:=hr.c0 i hs;have hp:=zxe hu hr.nn.1 hi
   by_cases h1:zxl (zwx ms sh (zwU N (uF ms sh))) sh=true
   ·rw[if_pos h1];have h2:=zxo.1 h1 i hi;rw[zxq hm,hs,Bool.true_and] at h2;have h3:zwU N (uF ms sh) i<=a.Most:=of_decide_eq_true h2;exact⟨by show 0<=c i+_/\c i+_<=_; omega,fun h=>absurd h (Int.lt_irrefl _)⟩
   ·rw[if_neg h1];have hless:=zxr h1
    cases hq:zwx ms sh (zwU N (uF ms sh)) i with
    | true=>exact zxG hms n _ _ _ (hr.next hms h0) (by omega) i a hi hm hq
    | false=>
     rw[zxF hms n _ _ _ (hr.next hms h0) (by omega) i hi hq];have e:mF ms (fun i=>sh i && !zwx ms sh (zwU N (uF ms sh)) i) i=a.Most:=zxt hm (by show(sh i && !zwx ms sh _ i)=true; rw[hs,hq]; rfl);have hb:=(hms.2 a (List.mem_of_getElem? hm)).most;rw[e,hc];exact⟨by omega,fun _=>by omega⟩
end
section
variable {ms:List Mb} {ask:Nat->Bool} {N:Int}
theorem RI0(hs:zxm ms ask)(hN:0<=N/\N<=1000000):RI ms ask N fun _=>0:=⟨hs,hN,fun _ _=>by omega,fun _ _=>rfl⟩
theorem zxH(hms:zxi ms)(hs:zxm ms ask)(hN:0<=N/\N<=1000000):S5 (zxB ms ask N).1+(zxB ms ask N).2=N/\0<=(zxB ms ask N).2:=by
 have:=zxC ask;have h:=zxE hms 6 ask N (fun _=>0) (RI0 hs hN) (by omega);rw[zwD] at h;exact⟨by rw[Int.add_zero] at h; exact h.1,h.2⟩
theorem zxI(hms:zxi ms)(hs:zxm ms ask)(hN:0<=N/\N<=1000000){i:Nat}(hi:i < 5)(ha:ask i=false):(zxB ms ask N).1 i=0:=by
 have:=zxC ask;exact zxF hms 6 ask N (fun _=>0) (RI0 hs hN) (by omega) i hi ha
theorem zxJ(hms:zxi ms)(hs:zxm ms ask)(hN:0<=N/\N<=1000000){i:Nat}{a:Mb}(hi:i < 5)(hm:ms[i]? = some a)(ha:ask i=true):(0<=(zxB ms ask N).1 i/\(zxB ms ask N).1 i<=a.Most)/\(0 < (zxB ms ask N).2->(zxB ms ask N).1 i=a.Most):=by
 have:=zxC ask;exact zxG hms 6 ask N (fun _=>0) (RI0 hs hN) (by omega) i a hi hm ha
theorem zxK(hms:zxi ms)(hs:zxm ms ask)(hN:0<=N/\N<=1000000){i:Nat}(hi:i < 5):0<=(zxB ms ask N).1 i/\(zxB ms ask N).1 i<=100000:=by
 cases ha:ask i with
 | false=>rw[zxI hms hs hN hi ha]; omega
 | true=>
  have hm:=List.getElem?_eq_getElem (hs i ha);have h:=zxJ hms hs hN hi hm ha;have hb:=(hms.2 _ (List.getElem_mem (hs i ha))).most
  omega
end
end
end Go.Proofs.Ytkclhciahokifaa

namespace Go.Proofs.Ytkclhciahokifaa
open _root_.Go.Proofs.Try
open Go.Abs
set_option maxRecDepth 100000
noncomputable section
def RgV(r:Rg):Prop:=0<=r.Lo/\r.Lo<=r.Hi/\r.Hi<=100000/\r.Hi - r.Lo<=30
instance (r:Rg):Decidable (RgV r):=by unfold RgV; infer_instance
structure zxL (s:Soc):Prop where
 pos:0 < s.Members.length
 ms:∀a∈s.Members,zxh a
 ls:∀r∈s.Losses,RgV r
 tr:RgV s.Treaty
 rs:0<=s.Reserve/\s.Reserve<=100000
structure zxM (s:Soc):Prop where
 m5:s.Members.length<=5
 l3:s.Losses.length<=3
 full:zxL s
theorem zxM.msOk{s:Soc}(h:zxM s):zxi s.Members:=⟨h.m5,h.full.ms⟩
open Classical in
def zxN(s:Soc):Int:=if 5 < s.Members.length\/3 < s.Losses.length then 3 else if zxL s then 0 else 1
theorem zxO{s:Soc}:zxN s=0↔zxM s:=by
 unfold zxN
 by_cases h:5 < s.Members.length\/3 < s.Losses.length
 ·rw[if_pos h]; exact⟨fun h=>by omega,fun h2=>by have:=h2.m5; have:=h2.l3; omega⟩
 ·rw[if_neg h]
  by_cases hf:zxL s
  ·rw[if_pos hf]; exact⟨fun _=>⟨by omega,by omega,hf⟩,fun _=>rfl⟩
  ·rw[if_neg hf]; exact⟨fun h=>by omega,fun h=>absurd h.full hf⟩
theorem zxP{r:Rg}{n:Int}:Ev (zsz r n) (r.Lo<=n/\n<=r.Hi):=Ev.ite fun _=>Ev.dec Iff.rfl
theorem zxQ{n:Int}:Ev (zsA n) (0<=n/\n<=100000):=zxP.ret
theorem zxR{r:Rg}:Ev (zsB r) (RgV r):=by
 refine(zxQ.and fun h1=>zxQ.and fun h2=>Ev.ite (K:=r.Hi - r.Lo<=30) fun _=>Ev.gd (fI (by omega)) (Ev.dec Iff.rfl)).imp ?_;unfold RgV; omega
theorem zxS{a:Mb}:Ev (zsC ({ su:=({ Lo:=(1:Int),Hi:=(1000:Int) }:Rg),cl:=({ Lo:=(1:Int),Hi:=(10:Int) }:Rg),mo:=({ Lo:=(0:Int),Hi:=(100000:Int) }:Rg) }:Lm) a) (zxh a):=
 (zxP.and fun _=>zxP.and fun _=>zxP.ret).imp ⟨fun⟨h1,h2,h3⟩=>⟨h1,h2,h3⟩,fun⟨h1,h2,h3⟩=>⟨h1,h2,h3⟩⟩
theorem gM{l:List Mb}{p:Mb->Option Bool}:∀{d:Nat} {x:Int},zsE l p d x=gIdx l p d x
 | 0,_=>rfl
 | d+1,x=>by unfold zsE gIdx; simp only[gM]
theorem gR{l:List Rg}{p:Rg->Option Bool}:∀{d:Nat} {x:Int},zsJ l p d x=gIdx l p d x
 | 0,_=>rfl
 | d+1,x=>by unfold zsJ gIdx; simp only[gR]
theorem gI{l:List Int}{p:Int->Option Bool}:∀{d:Nat} {x:Int},zsO l p d x=gIdx l p d x
 | 0,_=>rfl
 | d+1,x=>by unfold zsO gIdx; simp only[gI]
theorem zxT{s:Soc}(h1:zrP s.Members)(h2:zrP s.Losses):Ev (zsV s) (zxL s):=by
 refine(Ev.ite fun _=>(Ev.each (q:=zxh) (fun a _=>zxS) h1.lt gM).and fun _=>(Ev.each (q:=RgV) (fun a _=>zxR) h2.lt gR).and fun _=>zxR.and fun _=>zxQ.ret).imp ?_;exact⟨fun⟨a,b,c,d,e⟩=>⟨by omega,b,c,d,e⟩,fun⟨a,b,c,d,e⟩=>⟨by omega,b,c,d,e⟩⟩
theorem zxU{s:Soc}:Ev (zsU s) (5 < s.Members.length\/3 < s.Losses.length):=by
 unfold zsU
 by_cases h:(5:Int) < s.Members.length
 ·rw[if_pos h]; exact Ev.tt (by omega)
 ·rw[if_neg h]; exact Ev.dec (by omega)
theorem zxV{s:Soc}(h1:zrP s.Members)(h2:zrP s.Losses):zsW s=some (zxN s):=by
 unfold zsW zxN;refine zxU.pick (fun h=>?_) fun h=>?_
 ·rw[if_pos rfl,if_pos h]
 ·rw[if_neg (by decide),if_neg h];refine(zxT h1 h2).pick (fun h=>?_) fun h=>?_
  ·rw[if_pos rfl,if_pos h]
  ·rw[if_neg (by decide),if_neg h]
theorem zxW{n lo hi:Int}:Ev (zsd n lo hi) (lo<=n/\n<=hi):=Ev.ite fun _=>Ev.dec Iff.rfl
theorem zxX{r:Rg}:Ev (zse r) (RgV r):=Ev.ite fun h1=>Ev.ite fun h2=>Ev.ite fun h3=>Ev.gd (fI (by omega)) (Ev.dec Iff.rfl)
theorem zxY{s:Soc}(h1:s.Members.length<=8)(h2:s.Losses.length<=6):zsg s=some (zxN s):=by
 unfold zsg zxN
 by_cases c1:5 < s.Members.length
 ·rw[if_pos (by omega),if_pos (.inl c1)]
 rw[if_neg (by omega)]
 by_cases c2:3 < s.Losses.length
 ·rw[if_pos (by omega),if_pos (.inr c2)]
 rw[if_neg (show ¬ (3:Int) < s.Losses.length by omega),if_neg (show ¬ (5 < s.Members.length\/3 < s.Losses.length) by omega)]
 by_cases c3:s.Members.length=0
 ·rw[if_pos (by omega),if_neg fun h:zxL s=>by have:=h.pos; omega]
 rw[if_neg (show ¬ (s.Members.length:Int)=0 by omega)]
 refine zxX.pick (fun c4=>?_) fun c4=>by rw[if_neg (by decide),if_neg fun h=>c4 h.tr]
 rw[if_pos rfl]
 refine zxW.pick (fun c5=>?_) fun c5=>by rw[if_neg (by decide),if_neg fun h=>c5 h.rs]
 rw[if_pos rfl]
 have kL:=zrO (l:=s.Losses) (F:=fun d x=>prFault_L1 s d x) (ok:=RgV) (bad:=some 1) (fin:=some 0) (fun d k a hk=>by
  have hkl:=(List.getElem?_eq_some_iff.1 hk).1
  show(RgV a->prFault_L1 s (d+1) (k:Int)=_)/\_
  rw[prFault_L1,if_pos (by omega),zrF hk,obs]
  exact Ev.step zxX (by rw[if_pos rfl,zqq (fI (by omega))]) (by rw[if_neg (by decide)])) (fun d=>by show prFault_L1 s (d+1) _=_; rw[prFault_L1,if_neg (Int.lt_irrefl _)]) (d:=1000000) (by omega)
 have kM:=zrO (l:=s.Members) (F:=fun d x=>zsf s d 0 x) (ok:=zxh) (bad:=some 1) (fin:=prFault_L1 s 1000000 0) (fun d k a hk=>by
  have hkl:=(List.getElem?_eq_some_iff.1 hk).1
  show(zxh a->zsf s (d+1) 0 (k:Int)=_)/\_
  rw[zsf,if_pos (by omega),zrF hk,obs];refine⟨fun h=>?_,fun h=>?_⟩
  ·rw[zxW.some_of h.sum,obs,if_pos rfl,zxW.some_of h.cls,obs,if_pos rfl,zxW.some_of h.most,obs,if_pos rfl,zqq (fI (by omega))]
  ·refine zxW.pick (fun q1=>?_) fun q1=>by rw[if_neg (by decide)]
   rw[if_pos rfl]
   refine zxW.pick (fun q2=>?_) fun q2=>by rw[if_neg (by decide)]
   rw[if_pos rfl]
   refine zxW.pick (fun q3=>absurd ⟨q1,q2,q3⟩ h) fun q3=>by rw[if_neg (by decide)]) (fun d=>by show zsf s (d+1) 0 _=_; rw[zsf,if_neg (Int.lt_irrefl _)]) (d:=1000000) (by omega)
 by_cases c6:∀a∈s.Members,zxh a
 ·refine(kM.1 c6).trans ?_
  by_cases c7:∀r∈s.Losses,RgV r
  ·refine(kL.1 c7).trans ?_;rw[if_pos ⟨by omega,c6,c7,c4,c5⟩]
  ·refine(kL.2 c7).trans ?_;rw[if_neg fun h=>c7 h.ls]
 ·refine(kM.2 c6).trans ?_;rw[if_neg fun h=>c6 h.ms]
theorem zxZ{s:Soc}(h1:s.Members.length<=8)(h2:s.Losses.length<=6):zt1 s=some (zxN s):=by unfold zt1; rw[zxY h1 h2]; rfl
def zx0(n:Nat)(out:List Int):Nat->Bool:=fun i=>decide (i < n) && !decide ((i:Int)∈out)
def zx1(s:Soc)(out:List Int):Wk:={ s:=s,asked:=mkF (zx0 s.Members.length out) }
theorem zx2(ms:List Mb)(out:List Int):zxm ms (zx0 ms.length out):=fun i h=>by
 unfold zx0 at h
 simp at h; exact h.1
theorem zx3{l:List Int}{v:Int}(hl:zrP l):∀d (k:Nat),k<=l.length->l.length - k < d->∃r,zsZ l v d (k:Int)=some r/\(0<=r↔v∈l.drop k)
 | 0,k,_,h=>by omega
 | d+1,k,hk,h=>by
  unfold zrP at hl;unfold zsZ
  by_cases hkn:k=l.length
  ·subst hkn; rw[if_neg (Int.lt_irrefl _)]; exact⟨_,rfl,by simp⟩
  ·have hlt:k < l.length:=by omega
   rw[if_pos (by omega),zrF (List.getElem?_eq_getElem hlt),obs];have hd:=List.drop_eq_getElem_cons hlt
   by_cases hv:v=l[k]
   ·rw[if_pos hv]; exact⟨_,rfl,⟨fun _=>by rw[hd,<- hv]; exact List.mem_cons_self ..,fun _=>by omega⟩⟩
   ·rw[if_neg hv,zqq (fI (by omega)),show(k:Int)+1=((k+1:Nat):Int) by omega];obtain⟨r,h1,h2⟩:=zx3 hl d (k+1) (by omega) (by omega);exact⟨r,h1,h2.trans ⟨fun h=>by rw[hd]; exact List.mem_cons_of_mem _ h,fun h=>by rw[hd] at h; exact(List.mem_cons.1 h).resolve_left hv⟩⟩
theorem zx4{l:List Int}{v:Int}(hl:zrP l):zs1 l v=some (decide (v∈l)):=by
 unfold zs1 zs0;obtain⟨r,h1,h2⟩:=zx3 (v:=v) hl (l.length+1) 0 (Nat.zero_le _) (by omega);have h1:zsZ l v (l.length+1) 0=some r:=h1;rw[h1,obs];exact congrArg some (decide_eq_decide.2 (h2.trans (by rw[List.drop_zero])))
theorem zx5{s:Soc}{out:List Int}(hl:zrP out)(h5:s.Members.length<=5):zs3 s out=some (zx1 s out):=by
 unfold zs3;have key:=zwj (n:=s.Members.length) (fun d st x=>zs2 s out d s.Treaty.Lo s.Treaty.Hi s.Reserve (st 0) (st 1) (st 2) (st 3) (st 4) x) (stF (zx0 s.Members.length out) fun _=>false) (fin:=some (zx1 s out)) (fun d k hk=>?_) (fun d=>?_) (s.Members.length+1) 0 (by omega) (by omega)
 ·rw[zwn] at key; exact key
 ·show zs2 s out (d+1) _ _ _ _ _ _ _ _ _=_
  rw[zs2,if_pos (by omega),zx4 hl,obs,zqq (by omega),zqq (fI (by omega))];have e:=zwp (zx0 s.Members.length out) (fun _=>false) k
  have e0:(!decide ((k:Int)∈out))=zx0 s.Members.length out k:=by unfold zx0; rw[decide_eq_true hk,Bool.true_and]
  rw[e0,e 0,e 1,e 2,e 3,e 4]
 ·show zs2 s out (d+1) _ _ _ _ _ _ _ _ _=_
  rw[zs2,if_neg (by omega)]
  have e1:∀j,stF (zx0 s.Members.length out) (fun _=>false) s.Members.length j=zx0 s.Members.length out j:=fun j=>by
   unfold stF
   by_cases h:j < s.Members.length
   ·rw[if_pos h]
   ·rw[if_neg h]; unfold zx0; rw[decide_eq_false h]; rfl
  rw[e1 0,e1 1,e1 2,e1 3,e1 4]; rfl
def zx6(n:Nat)(l:List Int):Prop:=l.Pairwise (· < ·)/\∀v∈l,0<=v/\v<=(n:Int) - 1
theorem zx7{l:List Int}:(∀j,0 < j->j < l.length->∀a b,l[j - 1]? = some a->l[j]? = some b->a < b)↔l.Pairwise (· < ·):=by
 constructor
 ·intro h;rw[List.pairwise_iff_getElem];intro i j hi hj hij
  have key:∀d,(hd:i+d+1 < l.length)->l[i] < l[i+d+1]:=fun d=>by
   induction d with
   | zero=>intro hd; exact h (i+1) (by omega) hd _ _ (List.getElem?_eq_getElem hi) (List.getElem?_eq_getElem hd)
   | succ d ih=>
    intro hd;have h1:=ih (by omega);have h2:=h (i+(d+1)+1) (by omega) hd _ _ (List.getElem?_eq_getElem (show i+d+1 < l.length by omega)) (List.getElem?_eq_getElem hd);exact Int.lt_trans h1 h2
  have:=key (j - i - 1) (by omega)
  simpa [show i+(j - i - 1)+1=j by omega] using this
 ·intro h j h0 hj a b ha hb;obtain⟨h1,rfl⟩:=List.getElem?_eq_some_iff.1 ha;obtain⟨h2,rfl⟩:=List.getElem?_eq_some_iff.1 hb;exact List.pairwise_iff_getElem.1 h (j - 1) j h1 h2 (by omega)
theorem zx8{l:List Int}(hl:zrP l):Ev (zsT l) (l.Pairwise (· < ·)):=by
 unfold zrP at hl;unfold zsT
 by_cases h0:l.length=0
 ·have:l=[]:=List.eq_nil_of_length_eq_zero h0;subst this
  show Ev (zsS [] 1 1) _
  rw[zsS,if_neg (by decide)];exact Ev.tt .nil
 ·have e:∃n,l.length=n+1:=⟨l.length - 1,by omega⟩;obtain⟨n,hn⟩:=e
  have key:=zrJ (n:=n) (F:=fun d x=>zsS l d (x+1)) (ok:=fun j=>∀a b,l[j]? = some a->l[j+1]? = some b->a < b) (bad:=some false) (fin:=some true) (fun d k hk=>by
   show(_->zsS l (d+1) ((k:Int)+1)=_)/\_
   have ha:=List.getElem?_eq_getElem (show k < l.length by omega);have hb:=List.getElem?_eq_getElem (show k+1 < l.length by omega);rw[zsS,if_pos (by omega),zrG (show(k:Int)+1=((k+1:Nat):Int) by omega) (show k+1 < l.length by omega),obs,zqq (fI (by omega)),zrG (show(k:Int)+1 - 1=(k:Int) by omega) (show k < l.length by omega),obs];refine⟨fun h=>?_,fun h=>?_⟩
   ·have:=h _ _ ha hb;rw[if_neg (by omega),zqq (fI (by omega))]
   ·rw[if_pos]
    apply Classical.byContradiction
    intro h2
    exact h fun a b h3 h4=>by rw[ha] at h3; rw[hb] at h4; cases h3; cases h4; omega) (fun d=>by show zsS l (d+1) _=_; rw[zsS,if_neg (by omega)]) (d:=((l.length:Int) - 1).toNat+1) (by omega)
  have e0:zsS l (((l.length:Int) - 1).toNat+1) (0+1)=zsS l (((l.length:Int) - 1).toNat+1) 1:=rfl
  have hiff:(∀j,j < n->∀a b,l[j]? = some a->l[j+1]? = some b->a < b)↔l.Pairwise (· < ·):=by
   rw[<- zx7]
   constructor
   ·intro h j h0 hj a b h1 h2;have:=h (j - 1) (by omega) a b h1;rw[show j - 1+1=j by omega] at this;exact this h2
   ·intro h j hj a b h1 h2;exact h (j+1) (by omega) (by omega) a b (by rw[Nat.add_sub_cancel]; exact h1) h2
  by_cases hq:∀j,j < n->∀a b,l[j]? = some a->l[j+1]? = some b->a < b
  ·have:=key.1 hq;exact⟨true,this,⟨fun _=>hiff.1 hq,fun _=>rfl⟩⟩
  ·have:=key.2 hq;exact⟨false,this,⟨fun h=>(by cases h),fun h=>absurd (hiff.2 h) hq⟩⟩
theorem zx9{s:Soc}{l:List Int}(hl:zrP l)(hm:zrP s.Members):Ev (zsY s l) (zx6 s.Members.length l):=by
 unfold zrP at hm;refine((zx8 hl).and fun _=>(Ev.each (q:=fun v=>0<=v/\v<=(s.Members.length:Int) - 1) (fun v _=>?_) hl.lt gI).ret).imp Iff.rfl;exact Ev.gd (fI (by omega)) zxP.ret
theorem zya{s:Soc}{out:List Int}(hs:zxM s)(hl:zrP out)(ho:zx6 s.Members.length out):zs4 s out=some (zx1 s out,0):=by
 have h1:=hs.m5; have h2:=hs.l3;unfold zs4;rw[zxV (by unfold zrP; omega) (by unfold zrP; omega),obs,if_pos (zxO.2 hs),(zx9 hl (by unfold zrP; omega)).some_of ho,obs,if_pos rfl,zx5 hl h1,obs]
theorem zyb(n:Nat):zx6 n []:=⟨.nil,fun _ h=>by cases h⟩
def zyc(lo hi:Int):List Int:=(List.range (hi - lo+1).toNat).map fun(k:Nat)=>lo+(k:Int)
theorem zyd{lo hi x:Int}:x∈zyc lo hi↔lo<=x/\x<=hi:=by
 unfold zyc;rw[List.mem_map]
 constructor
 ·rintro⟨k,h1,rfl⟩
  have:=List.mem_range.1 h1
  omega
 ·intro h; exact⟨(x - lo).toNat,List.mem_range.2 (by omega),by omega⟩
def zye(g:Rg->Int)(l:List Rg):Int:=zwA (l.map g)
theorem zyf{l:List Rg}(h:∀r∈l,RgV r):0<=zye (·.Lo) l/\zye (·.Lo) l<=zye (·.Hi) l/\zye (·.Hi) l<=100000 * l.length/\zye (·.Hi) l<=zye (·.Lo) l+30 * l.length:=by
 induction l with
 | nil=>exact⟨Int.le_refl _,Int.le_refl _,Int.le_refl _,Int.le_refl _⟩
 | cons r l ih=>
  have ih:=ih fun r hr=>h r (List.mem_cons_of_mem _ hr);have hr:=h r (List.mem_cons_self ..);unfold RgV at hr;have e1:zye (·.Lo) (r::l)=r.Lo+zye (·.Lo) l:=rfl;have e2:zye (·.Hi) (r::l)=r.Hi+zye (·.Hi) l:=rfl;rw[e1,e2,List.length_cons]
  omega
def loN(s:Soc):Int:=max 0 (zye (·.Lo) s.Losses - s.Reserve - s.Treaty.Hi)
def hiN(s:Soc):Int:=max 0 (zye (·.Hi) s.Losses - s.Reserve - s.Treaty.Lo)
theorem zyg{s:Soc}(hs:zxM s):0<=loN s/\loN s<=hiN s/\hiN s<=300000/\hiN s<=loN s+120:=by
 have h:=zyf hs.full.ls;have h1:=hs.l3;have h2:=hs.full.tr;have h3:=hs.full.rs;unfold RgV at h2;unfold loN hiN
 omega
theorem zyh{g:Rg->Int}{l:List Rg}{k:Nat}{a:Rg}(h:l[k]? = some a):zye g (l.take (k+1))=zye g (l.take k)+g a:=by
 unfold zye;rw[List.take_add_one,h,List.map_append,zwB]
 show _+(g a+0)=_; omega
theorem zyi{s:Soc}{a b:Int}(h:0<=a/\a<=1000000)(hb:0<=b/\b<=1000000)(hr:0<=s.Reserve/\s.Reserve<=100000):zs5 s a b=some (max 0 (a - s.Reserve - b)):=by
 unfold zs5;rw[zqq (fI (by omega)),zqq (fI (by omega))]
theorem zyj{hi:Int}(hh:hi<=1000000):∀(d:Nat) (x:Int),0<=x->(hi - x+1).toNat < d->zs6 hi d x=some (zyc x hi)
 | 0,_,_,h=>by omega
 | d+1,x,hx,h=>by
  rw[zs6]
  by_cases hc:x<=hi
  ·rw[if_pos hc,zqq (fI (by omega)),zyj hh d (x+1) (by omega) (by omega),obs]
   have e:(hi - x+1).toNat=(hi - (x+1)+1).toNat+1:=by omega
   have e2:zyc x hi=x::zyc (x+1) hi:=by
    unfold zyc;rw[e,List.range_succ_eq_map,List.map_cons,List.map_map];refine congr (congrArg List.cons (by show x+((0:Nat):Int)=x; omega)) (List.map_congr_left fun k _=>?_)
    show x+((k+1:Nat):Int)=x+1+(k:Int)
    omega
   rw[e2]
  ·rw[if_neg hc]
   have e:(hi - x+1).toNat=0:=by omega
   unfold zyc; rw[e]; rfl
theorem zyk{s:Soc}(hs:zxM s):zs9 s=some (zyc (loN s) (hiN s)):=by
 have hb:=zyf hs.full.ls;have hn:=zyg hs;have h3:=hs.l3;have htr:=hs.full.tr;unfold RgV at htr;have hrs:=hs.full.rs
 have e:zs8 s=some (zyc (loN s) (hiN s)):=by
  unfold zs8;refine zwj (n:=s.Losses.length) (fun d (st:Int × Int) x=>zs7 s d st.1 st.2 x) (fun k=>(zye (·.Lo) (s.Losses.take k),zye (·.Hi) (s.Losses.take k))) (fun d k hk=>?_) (fun d=>?_) (s.Losses.length+1) 0 (by omega) (by omega)
  ·have hg:=List.getElem?_eq_getElem hk;have h1:=zyf (l:=s.Losses.take k) fun r hr=>hs.full.ls r (List.mem_of_mem_take hr);have h2:=hs.full.ls _ (List.getElem_mem hk)
   have h4:(s.Losses.take k).length<=3:=by rw[List.length_take]; omega
   unfold RgV at h2
   show zs7 s (d+1) (zye _ _) (zye _ _) (k:Int)=zs7 s d (zye _ _) (zye _ _) _
   rw[zs7,if_pos (by omega),zrF hg,obs,zqq (fI (by omega)),zqq (fI (by omega)),zqq (fI (by omega)),zyh hg,zyh hg]
  ·show zs7 s (d+1) (zye _ _) (zye _ _) _=_
   rw[zs7,if_neg (Int.lt_irrefl _),List.take_length,zyi (by omega) (by omega) hrs,obs,zyi (by omega) (by omega) hrs,obs];exact zyj (by unfold hiN at hn; omega) _ _ (by omega) (by omega)
 unfold zs9;rw[e]; rfl
end
end Go.Proofs.Ytkclhciahokifaa

namespace Go.Proofs.Ytkclhciahokifaa
open _root_.Go.Proofs.Try
open Go.Abs
set_option maxRecDepth 100000
noncomputable section
def Inc(n fr:Nat)(T:List Int):Prop:=T.Pairwise (· < ·)/\∀v∈T,(fr:Int)<=v/\v < n
theorem Inc.cons{n fr:Nat}{x:Int}{T:List Int}:Inc n fr (x::T)↔((fr:Int)<=x/\x < n)/\Inc n (x+1).toNat T:=by
 unfold Inc;rw[List.pairwise_cons]
 constructor
 ·rintro⟨⟨h1,h2⟩,h3⟩
  have hx:=h3 x (List.mem_cons_self ..);exact⟨hx,h2,fun v hv=>by have:=h1 v hv; have:=h3 v (List.mem_cons_of_mem _ hv); omega⟩
 ·rintro⟨hx,h2,h3⟩
  refine⟨⟨fun v hv=>by have:=h3 v hv; omega,h2⟩,fun v hv=>?_⟩
  rcases List.mem_cons.1 hv with rfl | hv
  ·exact hx
  ·have:=h3 v hv; omega
theorem zyl{n:Nat}{D:List Int}:∀{d:Nat} {pre:List Int} {fr:Nat},D∈zru n d pre fr↔∃T,D=pre++T/\T.length=d/\Inc n fr T
 | 0,pre,fr=>by
  show D∈[pre]↔_
  rw[List.mem_singleton]
  constructor
  ·rintro rfl; exact⟨[],by simp,rfl,.nil,fun v hv=>by cases hv⟩
  ·rintro⟨T,h1,h2,_⟩
   rw[List.eq_nil_of_length_eq_zero h2,List.append_nil] at h1; exact h1
 | d+1,pre,fr=>by
  show D∈zrt (fun x=>zru n d (pre++[(x:Int)]) (x+1)) (n - fr) fr↔_
  rw[zuB]
  constructor
  ·rintro⟨x,h1,h2,h3⟩
   obtain⟨T,h4,h5,h6⟩:=zyl.1 h3;refine⟨(x:Int)::T,by rw[h4]; simp,by simp[h5],Inc.cons.2 ⟨by omega,?_⟩⟩;rw[show((x:Int)+1).toNat=x+1 by omega]; exact h6
  ·rintro⟨T,h1,h2,h3⟩
   cases T with
   | nil=>simp at h2
   | cons v T=>
    obtain⟨h4,h5⟩:=Inc.cons.1 h3;refine⟨v.toNat,by omega,by omega,zyl.2 ⟨T,?_,by simpa using h2,?_⟩⟩
    ·rw[show((v.toNat:Nat):Int)=v by omega,h1]; simp
    ·rw[show v.toNat+1=(v+1).toNat by omega]; exact h5
theorem zym{n:Nat}:∀{T:List Int} {fr:Nat},Inc n fr T->T.length<=n - fr
 | [],_,_=>Nat.zero_le _
 | v::T,fr,h=>by
  obtain⟨h1,h2⟩:=Inc.cons.1 h;have:=zym h2
  simp only[List.length_cons]
  omega
theorem zyn{n:Nat}{D:List Int}:D∈zog n↔Inc n 0 D:=by
 unfold zog;rw[zuB]
 constructor
 ·rintro⟨s,_,_,h⟩
  obtain⟨T,h1,_,h2⟩:=zyl.1 h;rw[h1]; exact h2
 ·intro h;have:=zym h;exact⟨D.length,Nat.zero_le _,by omega,zyl.2 ⟨D,rfl,rfl,h⟩⟩
def bef:List Int->List Int->Bool
 | [],[]=>false
 | [],_::_=>true
 | _::_,[]=>false
 | x::a,y::b=>if x=y then bef a b else decide (x < y)
def shB(a b:List Int):Bool:=decide (a.length < b.length) || (decide (a.length=b.length) && bef a b)
theorem zyo:∀A:List Int,bef A A=false
 | []=>rfl
 | x::A=>by show(if x=x then bef A A else _)=_; rw[if_pos rfl,zyo A]
theorem zyp:∀A B:List Int,A=B\/bef A B=true\/bef B A=true
 | [],[]=>.inl rfl
 | [],_::_=>.inr (.inl rfl)
 | _::_,[]=>.inr (.inr rfl)
 | x::A,y::B=>by
  show x::A=y::B\/(if x=y then bef A B else decide (x < y))=true\/(if y=x then bef B A else decide (y < x))=true
  by_cases hxy:x=y
  ·subst hxy;rw[if_pos rfl,if_pos rfl]
   rcases zyp A B with h | h | h
   ·exact .inl (by rw[h])
   ·exact .inr (.inl h)
   ·exact .inr (.inr h)
  ·rw[if_neg hxy,if_neg fun h=>hxy h.symm]
   by_cases h:x < y
   ·exact .inr (.inl (decide_eq_true h))
   ·exact .inr (.inr (decide_eq_true (by omega)))
theorem zyq{l:List Int}(h:l ≠ [])(hl:l.length<=1048577):ztB l=some (zrR l):=by
 unfold ztB
 cases l with
 | nil=>exact absurd rfl h
 | cons x l=>
  rw[if_neg (by rw[List.length_cons]; omega),zrH rfl,obs];refine(zrQ (l:=x::l) (fun s a=>min s a) (fun d s k=>ztA (x::l) d s k) (fun s=>some s) (fun d k s a hk=>?_) (fun d s=>?_) _ 0 x (Nat.zero_le _) (by omega)).trans ?_
  ·have hkl:=(List.getElem?_eq_some_iff.1 hk).1
   show ztA (x::l) (d+1) s (k:Int)=_
   rw[ztA,if_pos (by omega),zrF hk,obs]
   by_cases hc:a < s
   ·rw[if_pos hc,zqq (fI (by omega)),Int.min_eq_right (by omega)]
   ·rw[if_neg hc,zqq (fI (by omega)),Int.min_eq_left (by omega)]
  ·show ztA (x::l) (d+1) s _=_
   rw[ztA,if_neg (Int.lt_irrefl _)]
  ·rw[List.drop_zero]
   show some (l.foldl min (min x x))=_
   rw[Int.min_self]; rfl
theorem zyr{l:List Int}(h:l ≠ [])(hl:l.length<=1048577):ztD l=some (zrS l):=by
 unfold ztD
 cases l with
 | nil=>exact absurd rfl h
 | cons x l=>
  rw[if_neg (by rw[List.length_cons]; omega),zrH rfl,obs];refine(zrQ (l:=x::l) (fun s a=>max s a) (fun d s k=>ztC (x::l) d s k) (fun s=>some s) (fun d k s a hk=>?_) (fun d s=>?_) _ 1 x (by rw[List.length_cons]; omega) (by rw[List.length_cons]; omega)).trans ?_
  ·have hkl:=(List.getElem?_eq_some_iff.1 hk).1
   show ztC (x::l) (d+1) s (k:Int)=_
   rw[ztC,if_pos (by omega),zrF hk,obs,zqq (fI (by omega))]
  ·show ztC (x::l) (d+1) s _=_
   rw[ztC,if_neg (Int.lt_irrefl _)]
  ·rfl
theorem zys{l:List Int}(h:l ≠ []):zrR l∈l/\∀y∈l,zrR l<=y:=by
 cases l with
 | nil=>exact absurd rfl h
 | cons x l=>
  obtain⟨h1,h2,h3⟩:=zrT l x;refine⟨?_,fun y hy=>?_⟩
  ·rcases h1 with h1 | h1
   ·show l.foldl min x∈_; rw[h1]; exact List.mem_cons_self ..
   ·exact List.mem_cons_of_mem _ h1
  ·rcases List.mem_cons.1 hy with rfl | hy
   ·exact h2
   ·exact h3 y hy
theorem zyt{l:List Int}(h:l ≠ []):zrS l∈l/\∀y∈l,y<=zrS l:=by
 cases l with
 | nil=>exact absurd rfl h
 | cons x l=>
  obtain⟨h1,h2,h3⟩:=zrU l x;refine⟨?_,fun y hy=>?_⟩
  ·rcases h1 with h1 | h1
   ·show l.foldl max x∈_; rw[h1]; exact List.mem_cons_self ..
   ·exact List.mem_cons_of_mem _ h1
  ·rcases List.mem_cons.1 hy with rfl | hy
   ·exact h2
   ·exact h3 y hy
def bnd(s:Soc)(g:Int->Int):Rg:={ Lo:=zrR ((zyc (loN s) (hiN s)).map g),Hi:=zrS ((zyc (loN s) (hiN s)).map g) }
def zyu(s:Soc)(out:List Int)(N:Int):Oc:={ need:=N,calls:=mk5 (zxB s.Members (zx0 s.Members.length out) N).1 }
theorem zyv{s:Soc}(hs:zxM s):(zyc (loN s) (hiN s)).length<=121:=by
 have:=zyg hs;unfold zyc; rw[List.length_map,List.length_range]; omega
theorem zyw{s:Soc}(hs:zxM s):zyc (loN s) (hiN s) ≠ []:=fun h=>by
 have:=zyg hs;have:loN s∈zyc (loN s) (hiN s):=zyd.2 (by omega)
 rw[h] at this; cases this
theorem zyx{s:Soc}(hs:zxM s)(g:Int->Int):(∃N,(loN s<=N/\N<=hiN s)/\g N=(bnd s g).Lo)/\(∃N,(loN s<=N/\N<=hiN s)/\g N=(bnd s g).Hi)/\∀N,loN s<=N/\N<=hiN s->(bnd s g).Lo<=g N/\g N<=(bnd s g).Hi:=by
 have hne:(zyc (loN s) (hiN s)).map g ≠ []:=fun h=>zyw hs (List.map_eq_nil_iff.1 h);obtain⟨a1,a2⟩:=zys hne;obtain⟨b1,b2⟩:=zyt hne;obtain⟨x,hx,ex⟩:=List.mem_map.1 a1;obtain⟨y,hy,ey⟩:=List.mem_map.1 b1;exact⟨⟨x,zyd.1 hx,ex⟩,⟨y,zyd.1 hy,ey⟩,fun N hN=>⟨a2 _ (List.mem_map.2 ⟨N,zyd.2 hN,rfl⟩),b2 _ (List.mem_map.2 ⟨N,zyd.2 hN,rfl⟩)⟩⟩
theorem zyy{s:Soc}(hs:zxM s):bnd s (fun N=>N)={ Lo:=loN s,Hi:=hiN s }:=by
 obtain⟨⟨x,hx,ex⟩,⟨y,hy,ey⟩,h⟩:=zyx hs fun N=>N;have hb:=zyg hs;have h1:=(h (loN s) ⟨Int.le_refl _,hb.2.1⟩).1;have h2:=(h (hiN s) ⟨hb.2.1,Int.le_refl _⟩).2
 have e1:(bnd s fun N=>N).Lo=loN s:=by omega
 have e2:(bnd s fun N=>N).Hi=hiN s:=by omega
 revert e1 e2
 generalize bnd s (fun N=>N)=r;intro e1 e2
 cases r
 exact congr (congrArg Rg.mk e1) e2
theorem zyz{s:Soc}(hs:zxM s)(out:List Int){N:Int}(hN:0<=N/\N<=1000000):ztx (zx1 s out) N=some (zyu s out N):=zxD (w:=zx1 s out) hs.msOk rfl (zx2 s.Members out) hN
theorem zyA{s:Soc}(hs:zxM s){out:List Int}{q:Qu}{g:Int->Int}(hg:∀N,loN s<=N->N<=hiN s->q.ask (zyu s out N)=some (g N)) :
  ∀(L:List Int) (acc:List Int),(∀N∈L,loN s<=N/\N<=hiN s)->acc.length+L.length<=1000->acc++L.map g ≠ []->ztE (zx1 s out) q L acc=some { Lo:=zrR (acc++L.map g),Hi:=zrS (acc++L.map g) }
 | [],acc,_,hl,hne=>by
  rw[List.map_nil,List.append_nil] at hne ⊢;rw[ztE,zyq hne (by omega),obs,zyr hne (by omega),obs]
 | N::L,acc,hN,hl,hne=>by
  have h1:=hN N (List.mem_cons_self ..);have hb:=zyg hs;rw[List.length_cons] at hl;rw[ztE,zyz hs out (by omega),obs,hg N h1.1 h1.2,obs,zqq (by omega),zyA hs hg L (acc++[g N]) (fun x hx=>hN x (List.mem_cons_of_mem _ hx)) (by rw[List.length_append]; show acc.length+1+_<=_; omega) (by simp)];rw[List.map_cons,List.append_assoc]; rfl
theorem zyB{s:Soc}(hs:zxM s){out:List Int}{q:Qu}{g:Int->Int}(hg:∀N,loN s<=N->N<=hiN s->q.ask (zyu s out N)=some (g N)):ztF (zx1 s out) q=some (bnd s g):=by
 unfold ztF;rw[show(zx1 s out).s=s from rfl,zyk hs,obs];have hl:=zyv hs;exact zyA hs hg _ [] (fun N hN=>zyd.1 hN) (by show 0+_<=_; omega) (fun h=>zyw hs (List.map_eq_nil_iff.1 h))
theorem zyC{s:Soc}(hs:zxM s):ztN s=some ({ Lo:=loN s,Hi:=hiN s },0):=by
 unfold ztN;rw[zya hs (Nat.zero_le _) (zyb _),obs,if_pos rfl,zyB hs (g:=fun N=>N) (fun N _ _=>rfl),obs,zyy hs]
theorem zyD{s:Soc}(hs:zxM s)(out:List Int){N:Int}(hN:0<=N/\N<=1000000):ztm (zyu s out N)=some (zxB s.Members (zx0 s.Members.length out) N).2:=by
 have hsup:=zx2 s.Members out;have h1:=zxH hs.msOk hsup hN
 have hb:Bd 1000000000000 (zxB s.Members (zx0 s.Members.length out) N).1:=fun i hi=>by have:=zxK hs.msOk hsup hN hi; omega
 have hb5:=fun i hi=>zxK hs.msOk hsup hN (i:=i) hi;have b0:=hb5 0 (by omega); have b1:=hb5 1 (by omega); have b2:=hb5 2 (by omega); have b3:=hb5 3 (by omega); have b4:=hb5 4 (by omega)
 have hS:0<=S5 (zxB s.Members (zx0 s.Members.length out) N).1/\S5 (zxB s.Members (zx0 s.Members.length out) N).1<=500000:=by unfold S5; omega
 unfold ztm
 show(ztb (mk5 (zxB s.Members (zx0 s.Members.length out) N).1)).bind _=_
 rw[zws hb,obs,zqq (fI (by show -9223372036854775808<=N - S5 _/\N - S5 _ < _; omega))];exact congrArg some (show N - S5 (zxB s.Members (zx0 s.Members.length out) N).1=_ by omega)
def zyE(s:Soc)(out:List Int)(N:Int):List Int:=(l5 (zxB s.Members (zx0 s.Members.length out) N).1).take s.Members.length
theorem zyF{s:Soc}(out:List Int)(N:Int)(h5:s.Members.length<=5):(zyE s out N).length=s.Members.length:=by
 unfold zyE; rw[List.length_take]; show min _ 5=_; omega
theorem zyG{s:Soc}(hs:zxM s){N:Int}(hN:0<=N/\N<=300000):ztP s N=some (zyE s [] N,(zxB s.Members (zx0 s.Members.length []) N).2,0):=by
 have h5:=hs.m5;unfold ztP;rw[zya hs (Nat.zero_le _) (zyb _),obs,if_pos rfl,zxP.some_of hN,obs,if_pos rfl]
 show(ztx (zx1 s []) N).bind _=_
 rw[zyz hs [] (by omega),obs,zqq (by omega)]
 have e:ztO ((([(zyu s [] N).calls.p0,(zyu s [] N).calls.p1,(zyu s [] N).calls.p2,(zyu s [] N).calls.p3,(zyu s [] N).calls.p4]:List Int).take (Int.toNat (s.Members.length:Int))).drop (Int.toNat (0:Int)))=some (zyE s [] N):=by
  have hl:=zyF [] N h5
  show ztO (zyE s [] N)=_
  unfold ztO;rw[zqq (by rw[hl]; show 0+_<=_; omega)]; rfl
 rw[e,obs,zyD hs [] (by omega),obs]
theorem zyH{s:Soc}(hs:zxM s)(out:List Int)(N:Int){k:Nat}(hk:k < s.Members.length):zty (zyu s out N) (k:Int)=some ((zxB s.Members (zx0 s.Members.length out) N).1 k):=by
 have h5:=hs.m5;unfold zty
 show(idx (l5 (zxB s.Members (zx0 s.Members.length out) N).1) (k:Int)).bind _=_
 rw[zwl (by omega),obs]
def zyI(s:Soc)(out:List Int):List Rg:=(List.range s.Members.length).map fun k=>bnd s fun N=>(zxB s.Members (zx0 s.Members.length out) N).1 k
theorem zyJ{s:Soc}(out:List Int):(zyI s out).length=s.Members.length:=by unfold zyI; rw[List.length_map,List.length_range]
theorem zyK{s:Soc}(out:List Int){k:Nat}(hk:k < s.Members.length):(zyI s out)[k]? = some (bnd s fun N=>(zxB s.Members (zx0 s.Members.length out) N).1 k):=by
 unfold zyI; rw[List.getElem?_map,List.getElem?_range hk]; rfl
theorem zyL{s:Soc}(hs:zxM s){out:List Int}(hl:zrP out)(ho:zx6 s.Members.length out):ztR s out=some (zyI s out,0):=by
 have h5:=hs.m5;unfold ztR;rw[zya hs hl ho,obs,if_pos rfl];refine zwj (n:=s.Members.length) (fun d acc x=>ztQ s (zx1 s out,0) d acc x) (fun k=>(zyI s out).take k) (fun d k hk=>?_) (fun d=>?_) (s.Members.length+1) 0 (by omega) (by omega)
 ·show ztQ s (zx1 s out,0) (d+1) _ _=_
  have hb:ztz (k:Int)=some (fun o=>zty o (k:Int)):=rfl;rw[ztQ,if_pos (by omega),hb,obs]
  show(ztF (zx1 s out) _).bind _=_
  rw[zyB hs (g:=fun N=>(zxB s.Members (zx0 s.Members.length out) N).1 k) (fun N _ _=>zyH hs out N hk),obs,zqq (by rw[List.length_take]; omega),zqq (fI (by omega))];rw[List.take_add_one,zyK out hk]; rfl
 ·show ztQ s (zx1 s out,0) (d+1) _ _=_
  rw[ztQ,if_neg (Int.lt_irrefl _),List.take_of_length_le (by rw[zyJ]; exact Nat.le_refl _)]
theorem zyM{s:Soc}(hs:zxM s):ztS s=some (zyI s [],0):=by
 unfold ztS;rw[zyL hs (Nat.zero_le _) (zyb _),obs]
def zyN(s:Soc)(out:List Int)(N:Int):Int:=(zxB s.Members (zx0 s.Members.length out) N).2
theorem zyO{s:Soc}(hs:zxM s):ztT s=some (bnd s (zyN s []),0):=by
 have hb:=zyg hs;unfold ztT;rw[zya hs (Nat.zero_le _) (zyb _),obs,if_pos rfl,zyB hs (g:=zyN s []) (fun N h1 h2=>zyD hs [] (by omega)),obs]
theorem zyP{s:Soc}(hs:zxM s)(out:List Int):ztG (zx1 s out)=some (hiN s):=by
 unfold ztG;rw[zyB hs (g:=fun N=>N) (fun N _ _=>rfl),obs,zyy hs]
theorem zyQ(a:Mb){r t:Int}(hu:0<=unN a)(h:r<=t):min (unN a * r / 100) a.Most<=min (unN a * t / 100) a.Most:=by
 have h1:unN a * r<=unN a * t:=Int.mul_le_mul_of_nonneg_left h hu;have h2:=Int.ediv_le_ediv (c:=100) (by omega) h1
 omega
def brN(ms:List Mb)(rate:Int):Int:=zwA (ms.map fun a=>min (unN a * rate / 100) a.Most)
theorem zyR{ms:List Mb}(hm:∀a∈ms,zxh a){r:Int}(hr:0<=r/\r<=10000):0<=brN ms r/\brN ms r<=100000 * ms.length:=by
 induction ms with
 | nil=>exact⟨Int.le_refl _,Int.le_refl _⟩
 | cons a ms ih=>
  have ih:=ih fun a ha=>hm a (List.mem_cons_of_mem _ ha);have ha:=hm a (List.mem_cons_self ..);have hu:=zxj ha;have hmo:=ha.most;have h1:0<=unN a * r / 100:=Int.ediv_nonneg (Int.mul_nonneg (by omega) hr.1) (by omega);have e:brN (a::ms) r=min (unN a * r / 100) a.Most+brN ms r:=rfl;rw[e,List.length_cons]; omega
theorem zyS{ms:List Mb}(hm:∀a∈ms,zxh a){r t:Int}(h:r<=t):brN ms r<=brN ms t:=by
 induction ms with
 | nil=>exact Int.le_refl _
 | cons a ms ih=>
  have ih:=ih fun a ha=>hm a (List.mem_cons_of_mem _ ha);have h2:=zyQ a (by have:=zxj (hm a (List.mem_cons_self ..)); omega) h
  show min _ _+brN ms r<=min _ _+brN ms t
  omega
theorem zyT{ms:List Mb}{r:Int}{k:Nat}{a:Mb}(h:ms[k]? = some a):brN (ms.take (k+1)) r=brN (ms.take k) r+min (unN a * r / 100) a.Most:=by
 unfold brN;rw[List.take_add_one,h,List.map_append,zwB]
 show _+(min (unN a * r / 100) a.Most+0)=_
 rw[Int.add_zero]
theorem zyU{s:Soc}(hs:zxM s)(out:List Int){r:Int}(hr:0<=r/\r<=10000):ztI (zx1 s out) r=some (brN s.Members r):=by
 have h5:=hs.m5;unfold ztI;refine zwj (n:=s.Members.length) (fun d acc x=>ztH (zx1 s out) r d acc x) (fun k=>brN (s.Members.take k) r) (fun d k hk=>?_) (fun d=>?_) (s.Members.length+1) 0 (by omega) (by omega)
 ·have hg:=List.getElem?_eq_getElem hk;have ha:=hs.full.ms _ (List.getElem_mem hk);have hu:=zxj ha;have hmo:=ha.most;have hb:=zyR (ms:=s.Members.take k) (fun a ha=>hs.full.ms a (List.mem_of_mem_take ha)) hr
  have hlk:(s.Members.take k).length<=5:=by rw[List.length_take]; omega
  have hm:=zwT (a:=unN s.Members[k]) (x:=r) (A:=10000) (X:=10000) (by omega) hr;have hq:0<=unN s.Members[k] * r / 100:=Int.ediv_nonneg hm.1 (by omega)
  have hun:zto s.Members[k]=some (unN s.Members[k]):=by
   have h1:=ha.sum; have h2:=ha.cls;unfold unN at hu;unfold zto unN;rw[zqq (by omega),zqq (by omega),zqq (fI (by omega))]
  show ztH (zx1 s out) r (d+1) _ _=_
  rw[ztH,if_pos (show(k:Int) < ((zx1 s out).s.Members.length:Int) by show(k:Int) < (s.Members.length:Int); omega),show idx (zx1 s out).s.Members (k:Int)=some s.Members[k] from zrF hg,obs,hun,obs,zqq (by omega),zqq hr.1,zqq (fI (by omega)),zqq hm.1,zqq (by omega),zqq (fI (by omega)),zqq (fI (by omega)),zqq (fI (by omega)),zyT hg]
 ·show ztH (zx1 s out) r (d+1) _ _=_
  rw[ztH,if_neg (show ¬ ((s.Members.length:Nat):Int) < ((zx1 s out).s.Members.length:Int) from Int.lt_irrefl _),List.take_length]
def zyV(s:Soc)(r:Int):Bool:=decide (hiN s<=brN s.Members r)
theorem zyW{s:Soc}(hs:zxM s){r:Int}(hr:0<=r/\r<=10000):ztJ (zx1 s []) r=some (zyV s r):=by
 unfold ztJ;rw[zyU hs [] hr,obs,zyP hs,obs]; rfl
theorem zyX{p:Int->Option Bool}{f:Nat->Bool}{n:Nat}(hn:n<=1000000)(hp:∀m,m < n->p (m:Int)=some (f m))(hm:∀m k,m<=k->k < n->f m=true->f k=true):∀d (i j:Nat),i<=j->j<=n->j - i < d->(∀m,m < i->f m=false)->(∀m,j<=m->m < n->f m=true) ->
  ∃k:Nat,ztL p d (i:Int) (j:Int)=some (k:Int)/\k<=n/\(∀m,m < k->f m=false)/\(∀m,k<=m->m < n->f m=true)
 | 0,_,_,_,_,h,_,_=>by omega
 | d+1,i,j,hij,hj,h,hlo,hhi=>by
  rw[ztL]
  by_cases hc:i < j
  ·obtain⟨md,hmd⟩:∃md:Nat,md=(i+j) / 2:=⟨_,rfl⟩
   have hf:zl6 .u64 ((i:Int)+j):=show _/\_ by constructor <;> omega
   have e:zma .i64 (zma .u64 ((i:Int)+j) / 2)=(md:Int):=by
    rw[wz hf,wz (fI (by omega))]; omega
   rw[if_pos (by omega),zqq (fI (by omega)),zqq (by rw[wz hf]; omega),zqq (by omega),zqq (by omega),zqq (by rw[wz hf]; exact show _/\_ by constructor <;> omega),e,hp md (by omega),obs]
   cases hq:f md with
   | true=>
    rw[if_pos rfl];exact zyX hn hp hm d i md (by omega) (by omega) (by omega) hlo fun m h1 h2=>hm md m h1 h2 hq
   | false=>
    rw[if_neg (by decide),zqq (fI (by omega)),show(md:Int)+1=((md+1:Nat):Int) by omega]
    exact zyX hn hp hm d (md+1) j (by omega) hj (by omega) (fun m h1=>by
     cases hq2:f m with
     | false=>rfl
     | true=>have:=hm m md (by omega) (by omega) hq2; rw[hq] at this; cases this) hhi
  ·rw[if_neg (by omega)];exact⟨i,rfl,by omega,hlo,fun m h1 h2=>hhi m (by omega) h2⟩
theorem zyY{s:Soc}(hs:zxM s):∃k:Nat,ztM 10001 (fun r=>ztJ (zx1 s []) r)=some (k:Int)/\k<=10001/\(∀m:Nat,m < k->zyV s m=false)/\(∀m:Nat,k<=m->m < 10001->zyV s m=true):=by
 unfold ztM
 exact zyX (n:=10001) (f:=fun m=>zyV s (m:Int)) (by omega) (fun m hm=>zyW hs (by omega)) (fun m k h1 h2 h3=>by
  have h4:hiN s<=brN s.Members (m:Int):=of_decide_eq_true h3;have h5:=zyS hs.full.ms (r:=(m:Int)) (t:=(k:Int)) (by omega)
  exact decide_eq_true (by omega)) _ 0 10001 (by omega) (by omega) (by omega) (fun m h=>by omega) (fun m h1 h2=>by omega)
theorem zyZ{s:Soc}(hs:zxM s):(∃k:Nat,ztU s=some ((k:Int),0)/\k<=10000/\hiN s<=brN s.Members (k:Int)/\∀m:Nat,m < k->brN s.Members (m:Int) < hiN s)\/(ztU s=some (0,10)/\∀m:Nat,m<=10000->brN s.Members (m:Int) < hiN s):=by
 obtain⟨k,h1,h2,h3,h4⟩:=zyY hs
 have lt:∀m:Nat,zyV s (m:Int)=false->brN s.Members (m:Int) < hiN s:=fun m h=>by
  have:=of_decide_eq_false h; omega
 unfold ztU;rw[zya hs (Nat.zero_le _) (zyb _),obs,if_pos rfl]
 show(∃k':Nat,(ztM 10001 (fun r=>ztJ (zx1 s []) r)).bind _=_/\_)\/((ztM 10001 (fun r=>ztJ (zx1 s []) r)).bind _=_/\_)
 rw[h1,obs]
 by_cases hk:k<=10000
 ·rw[if_neg (by omega)];exact .inl ⟨k,rfl,hk,of_decide_eq_true (h4 k (Nat.le_refl _) (by omega)),fun m hm=>lt m (h3 m hm)⟩
 ·rw[if_pos (by omega)];exact .inr ⟨rfl,fun m hm=>lt m (h3 m (by omega))⟩
def zy0(s:Soc)(l:List Int):Bool:=decide (0 < (bnd s (zyN s l)).Hi)
theorem zy1{s:Soc}(hs:zxM s){l:List Int}(hl:zrP l):ztK s l=some (zy0 s l):=by
 have hb:=zyg hs;unfold ztK;rw[zx5 hl hs.m5,obs,zyB hs (g:=zyN s l) (fun N h1 h2=>zyD hs l (by omega)),obs]; rfl
theorem zy2{s:Soc}(hs:zxM s)(h:hiN s ≠ 0):ztV s=some (zrv s.Members.length (zy0 s),0):=by
 have h5:=hs.m5
 have hlen:∀L∈zog s.Members.length,zrP L:=fun L hL=>by have:=zym (zyn.1 hL); unfold zrP; omega
 unfold ztV;rw[zya hs (Nat.zero_le _) (zyb _),obs,if_pos rfl,zyP hs,obs,if_neg h];unfold zrw;rw[zqq ⟨by omega,by omega,fun L hL=>by show(ztK s L).isSome=true; rw[zy1 hs (hlen L hL)]; rfl⟩,obs];refine congrArg (fun x=>some (x,(0:Int))) ?_
 have e:(zog s.Members.length).find? (fun L=>((ztK s L)).getD false)=(zog s.Members.length).find? (zy0 s):=by
  have:∀l:List (List Int),(∀L∈l,zrP L)->l.find? (fun L=>((ztK s L)).getD false)=l.find? (zy0 s):=by
   intro l
   induction l with
   | nil=>intro _; rfl
   | cons L l ih=>
    intro hl
    have h1:(ztK s L).getD false=zy0 s L:=by rw[zy1 hs (hl L (List.mem_cons_self ..))]; rfl
    rw[List.find?_cons,List.find?_cons,h1,ih fun L hL=>hl L (List.mem_cons_of_mem _ hL)]
  exact this _ hlen
 show zrv s.Members.length (fun L=>((ztK s L)).getD false)=_
 unfold zrv;rw[e]
theorem zy3{a b:List Int}(hl:a.length<=1000):∀(d k:Nat),k<=a.length->a.length - k < d->zsv a b d (k:Int)=some (bef (a.drop k) (b.drop k))
 | 0,_,_,h=>by omega
 | d+1,k,hk,h=>by
  rw[zsv]
  by_cases hka:k < a.length
  ·rw[if_pos (by omega)];have da:=List.drop_eq_getElem_cons hka;have ga:=List.getElem?_eq_getElem hka
   by_cases hkb:k < b.length
   ·have db:=List.drop_eq_getElem_cons hkb;have gb:=List.getElem?_eq_getElem hkb;rw[if_pos (by omega),zrF ga,obs,zrF gb,obs,da,db];unfold bef
    by_cases he:a[k]=b[k]
    ·rw[if_pos he,if_pos he,zqq (fI (by omega)),show(k:Int)+1=((k+1:Nat):Int) by omega];exact zy3 hl d (k+1) (by omega) (by omega)
    ·rw[if_neg he,if_neg he,obs,obs]
   ·rw[if_neg (by omega),da,List.drop_eq_nil_of_le (show b.length<=k by omega),decide_eq_false (by omega)]; rfl
  ·rw[if_neg (by omega),List.drop_eq_nil_of_le (show a.length<=k by omega)]
   by_cases hkb:k < b.length
   ·rw[List.drop_eq_getElem_cons hkb,decide_eq_true (by omega)]; rfl
   ·rw[List.drop_eq_nil_of_le (show b.length<=k by omega),decide_eq_false (by omega)]; rfl
theorem zy4{a b:List Int}(hl:a.length<=1000):zsw a b=some (bef a b):=zy3 hl (a.length+1) 0 (Nat.zero_le _) (by omega)
theorem zy5{a b:List Int}(hl:a.length<=1000):zsx a b=some (shB a b):=by
 unfold zsx shB
 by_cases h1:a.length < b.length
 ·rw[if_pos (by omega),decide_eq_true h1]; rfl
 ·rw[if_neg (by omega),decide_eq_false h1]
  by_cases h2:a.length=b.length
  ·rw[if_pos (by omega),zy4 hl,decide_eq_true h2]; simp
  ·rw[if_neg (by omega),decide_eq_false h2]; simp
theorem zy6{a b:List Int}(hl:a.length=b.length):(bef a b=false/\bef b a=false)↔a=b:=by
 constructor
 ·rintro⟨h1,h2⟩
  rcases zyp a b with h | h | h
  ·exact h
  ·rw[h1] at h; cases h
  ·rw[h2] at h; cases h
 ·rintro rfl; exact⟨zyo _,zyo _⟩
theorem zy7{a b:List Int}(ha:a.length<=1000)(hb:b.length<=1000):zsy a b=some (decide (a=b)):=by
 unfold zsy
 by_cases hl:a.length=b.length
 ·rw[if_pos (by omega),zy4 ha,obs];have h:=zy6 hl
  cases h1:bef a b with
  | true=>rw[if_pos rfl,decide_eq_false fun he=>by have:=(h.2 he).1; rw[h1] at this; cases this]
  | false=>
   rw[if_neg (by decide),zy4 hb,obs]
   cases h2:bef b a with
   | true=>rw[decide_eq_false fun he=>by have:=(h.2 he).2; rw[h2] at this; cases this]; rfl
   | false=>rw[decide_eq_true (h.1 ⟨h1,h2⟩)]; rfl
 ·rw[if_neg (by omega),decide_eq_false fun he=>hl (by rw[he])]
def zy8(s:Soc):Prop:=s.Members.length<=8/\s.Losses.length<=6
theorem zy9{s:Soc}:Ev (zt0 s) (zy8 s):=by
 unfold zt0 zy8
 by_cases h:(s.Members.length:Int)<=8
 ·rw[if_pos h]; exact Ev.dec (by omega)
 ·rw[if_neg h]; exact Ev.ff (by omega)
theorem zxM.thin{s:Soc}(h:zxM s):zy8 s:=⟨by have:=h.m5; omega,by have:=h.l3; omega⟩
theorem zza{s:Soc}(h:zy8 s):ztZ s=some s:=by
 unfold ztZ
 show ztY s 1000000 [] [] s.Treaty.Lo s.Treaty.Hi s.Reserve 0=_
 obtain⟨h1,h2⟩:=h
 have k1:ztX s s.Members 1000000 [] s.Treaty.Lo s.Treaty.Hi s.Reserve 0=some s:=by
  refine(zrL (l:=s.Losses) (fun r=>r) (F:=fun d acc x=>ztX s s.Members d acc s.Treaty.Lo s.Treaty.Hi s.Reserve x) (fun acc=>some ({ Members:=s.Members,Losses:=acc,Treaty:=s.Treaty,Reserve:=s.Reserve }:Soc)) (fun d k acc a hk ha=>?_) (fun d acc=>?_) (d:=1000000) (by omega)).trans (by rw[List.map_id'])
  ·have hkl:=(List.getElem?_eq_some_iff.1 hk).1
   show ztX s s.Members (d+1) _ _ _ _ _=_
   rw[ztX,if_pos (by omega),zrF hk,obs]
   show(some a).bind _=_
   rw[obs,zqq (by omega),zqq (fI (by omega))]
  ·show ztX s s.Members (d+1) _ _ _ _ _=_
   rw[ztX,if_neg (Int.lt_irrefl _)]
 refine(zrL (l:=s.Members) (fun r=>r) (F:=fun d acc x=>ztY s d acc [] s.Treaty.Lo s.Treaty.Hi s.Reserve x) (fun acc=>ztX s acc 1000000 [] s.Treaty.Lo s.Treaty.Hi s.Reserve 0) (fun d k acc a hk ha=>?_) (fun d acc=>?_) (d:=1000000) (by omega)).trans (by rw[List.map_id']; exact k1)
 ·have hkl:=(List.getElem?_eq_some_iff.1 hk).1
  show ztY s (d+1) _ _ _ _ _ _=_
  rw[ztY,if_pos (by omega),zrF hk,obs,zqq (by omega),zqq (fI (by omega))]
 ·show ztY s (d+1) _ _ _ _ _ _=_
  rw[ztY,if_neg (Int.lt_irrefl _)]
theorem zzb{s:Soc}:Ev (zt6 s) (zxM s):=by
 unfold zt6
 by_cases ht:zy8 s
 ·rw[zy9.some_of ht,obs,if_pos rfl,zxZ ht.1 ht.2,obs];exact Ev.dec zxO
 ·rw[zy9.some_not ht,obs,if_neg (by decide)];exact Ev.ff fun h=>ht h.thin
def zzc(most:Int):Soc:={ Members:=[{ Sum:=100,Class:=2,Most:=most },{ Sum:=100,Class:=1,Most:=60 },{ Sum:=50,Class:=2,Most:=most }],Losses:=[{ Lo:=200,Hi:=210 },{ Lo:=90,Hi:=90 }],Treaty:={ Lo:=20,Hi:=25 },Reserve:=30 }
theorem zzd(most:Int):zt4 most=some (zzc most):=rfl
theorem zze{most:Int}(h:0<=most/\most<=100000):zxM (zzc most):=by
 refine⟨Nat.le_of_ble_eq_true rfl,Nat.le_of_ble_eq_true rfl,Nat.le_of_ble_eq_true rfl,fun a ha=>?_,fun r hr=>?_,by show RgV ⟨20,25⟩; decide,by show(0:Int)<=30/\(30:Int)<=_; omega⟩
 ·rcases List.mem_cons.1 ha with rfl | ha
  ·exact⟨by show(1:Int)<=100/\(100:Int)<=1000; omega,by show(1:Int)<=2/\(2:Int)<=10; omega,h⟩
  rcases List.mem_cons.1 ha with rfl | ha
  ·exact⟨by decide,by decide,by decide⟩
  rcases List.mem_cons.1 ha with rfl | ha
  ·exact⟨by show(1:Int)<=50/\(50:Int)<=1000; omega,by show(1:Int)<=2/\(2:Int)<=10; omega,h⟩
  ·cases ha
 ·rcases List.mem_cons.1 hr with rfl | hr
  ·decide
  rcases List.mem_cons.1 hr with rfl | hr
  ·decide
  ·cases hr
theorem f64{n:Int}(h:-1000000<=n/\n<=1000000):zl6 .i64 n:=fI (by omega)
theorem zzf:zt5=some true:=by
 have h5:zxM (zzc 500):=zze (by omega);have h1:zxM (zzc 150):=zze (by omega)
 have n5:ztN (zzc 500)=some ({ Lo:=235,Hi:=250 },0):=by
  rw[zyC h5]
  have e1:loN (zzc 500)=235:=by decide +kernel
  have e2:hiN (zzc 500)=250:=by decide +kernel
  rw[e1,e2]
 have c5:ztP (zzc 500) 250=some ([127,60,63],0,0):=by
  rw[zyG h5 (by omega)]
  have e1:zyE (zzc 500) [] 250=[127,60,63]:=by decide +kernel
  have e2:(zxB (zzc 500).Members (zx0 (zzc 500).Members.length []) 250).2=0:=by decide +kernel
  rw[e1,e2]
 have b5:ztS (zzc 500)=some (zyI (zzc 500) [],0):=zyM h5
 have eb:zyI (zzc 500) []=[{ Lo:=117,Hi:=127 },{ Lo:=59,Hi:=60 },{ Lo:=59,Hi:=63 }]:=by
  have e1:(zyI (zzc 500) []).map (·.Lo)=[117,59,59]:=by decide +kernel
  have e2:(zyI (zzc 500) []).map (·.Hi)=[127,60,63]:=by decide +kernel
  have e3:(zyI (zzc 500) []).length=3:=zyJ []
  revert e1 e2 e3
  generalize zyI (zzc 500) []=l;intro e1 e2 e3
  match l,e3 with
  | [⟨a1,a2⟩,⟨b1,b2⟩,⟨c1,c2⟩],_=>
   simp only[List.map_cons,List.map_nil,List.cons.injEq,and_true] at e1 e2
   obtain⟨rfl,rfl,rfl⟩:=e1;obtain⟨rfl,rfl,rfl⟩:=e2
   rfl
 have r5:ztU (zzc 500)=some (64,0):=by
  have m63:brN (zzc 500).Members 63 < 250:=by decide +kernel
  have m64:250<=brN (zzc 500).Members 64:=by decide +kernel
  have e2:hiN (zzc 500)=250:=by decide +kernel
  rcases zyZ h5 with ⟨k,q1,q2,q3,q4⟩ | ⟨q1,q2⟩
  ·rw[e2] at q3 q4
   have hk:k=64:=by
    apply Classical.byContradiction
    intro hne
    rcases Nat.lt_or_ge k 64 with h | h
    ·have:=zyS h5.full.ms (r:=(k:Int)) (t:=63) (by omega); omega
    ·have:=q4 64 (by omega);have e:((64:Nat):Int)=64:=rfl;rw[e] at this; omega
   subst hk; exact q1
  ·have:=q2 64 (by omega);have e:((64:Nat):Int)=64:=rfl;rw[e2,e] at this; omega
 have x5:ztV (zzc 500)=some ([0,2],0):=by
  rw[zy2 h5 (by decide +kernel)]
  have e:zrv (zzc 500).Members.length (zy0 (zzc 500))=[0,2]:=by decide +kernel
  rw[e]
 have x1:ztV (zzc 150)=some ([0],0):=by
  rw[zy2 h1 (by decide +kernel)]
  have e:zrv (zzc 150).Members.length (zy0 (zzc 150))=[0]:=by decide +kernel
  rw[e]
 unfold zt5;rw[zzd,obs,n5,obs,obs,c5,obs,obs,b5,obs,obs,r5,obs,obs,x5,obs,zzd,obs,x1,obs,eb];have s1:zsy [127,60,63] [127,60,63]=some true:=zy7 (by decide) (by decide);have s2:zsy [0,2] [0,2]=some true:=zy7 (by decide) (by decide);have s3:zsy [0] [0]=some true:=zy7 (by decide) (by decide);have f:∀n:Int,-1000000<=n/\n<=1000000->zl6 .i64 n:=fun n h=>f64 h
 simp only[zt3,obs,zqq (f 235 (by omega)),zqq (f 250 (by omega)),zqq (f 117 (by omega)),zqq (f 127 (by omega)),zqq (f 59 (by omega)),zqq (f 60 (by omega)),zqq (f 63 (by omega)),s1,s2,s3]
 simp[idx]
 rw[zqq (f 117 (by omega)),zqq (f 127 (by omega)),zqq (f 59 (by omega)),zqq (f 60 (by omega)),zqq (f 59 (by omega)),zqq (f 63 (by omega))]
theorem awk{β:Type}{f:Bool->Option β}:(zt5).bind f=f true:=by rw[zzf,obs]
section
variable {ms:List Mb} {ask:Nat->Bool} {N:Int}
end
theorem wzu{n:Int}(h:0<=n/\n < 4294967296):zma .i64 n=n:=wz (fI (by omega))
end
end Go.Proofs.Ytkclhciahokifaa

namespace Go.Proofs.Ytkclhciahokifaa
open _root_.Go.Proofs.Try
open Go.Abs
set_option maxRecDepth 100000
noncomputable section
theorem zzg{s x:Soc}(hs:zxM s)(hx:zxM x)(hlo:loN x<=loN s)(hhi:hiN s<=hiN x)(g:Int->Int):(bnd x g).Lo<=(bnd s g).Lo/\(bnd s g).Hi<=(bnd x g).Hi:=by
 obtain⟨⟨a,ha,ea⟩,⟨b,hb,eb⟩,_⟩:=zyx hs g;obtain⟨_,_,h⟩:=zyx hx g;rw[<- ea,<- eb];exact⟨(h a (by omega)).1,(h b (by omega)).2⟩
theorem zzh{s x:Soc}(hs:zxM s)(hM:x.Members=s.Members)(hl:x.Losses.length=s.Losses.length)(hlo:loN x<=loN s)(hhi:hiN s<=hiN x){L:List Rg × Int->List Rg × Int->Nat->Int->Option Bool}
  (hL:∀rs ts:List Rg,ts.length=rs.length->rs.length<=5->(∀k:Nat,k < rs.length->∃a b,rs[k]? = some a/\ts[k]? = some b/\b.Lo<=a.Lo/\a.Hi<=b.Hi)->L (rs,0) (ts,0) (rs.length+1) 0=some true) :
  ((zt1 x).bind fun r3876=>(if r3876=(0:Int) then ((ztZ s).bind fun r3894=>((ztS r3894).bind fun r3907=>((ztZ x).bind fun r3918=>((ztS r3918).bind fun r3932=>((ztZ s).bind fun r3943=>((ztT r3943).bind fun r3956=>((ztZ x).bind fun r3980=>((ztT r3980).bind fun r3995=>(if r3907.2=(0:Int) then (if r3932.2=(0:Int) then (if r3956.2=(0:Int) then (if r3995.2=(0:Int) then (if (r3907.1.length:Int)=(s.Members.length:Int) then (if (r3932.1.length:Int)=(r3907.1.length:Int) then (if r3956.1.Lo < r3995.1.Lo then (some false) else (if r3995.1.Hi < r3956.1.Hi then (some false) else (L r3907 r3932 (r3907.1.length+1) (0:Int)))) else (some false)) else (some false)) else (some false)) else (some false)) else (some false)) else (some false)))))))))) else ((zt5).bind fun r3886=>(some r3886))))=some true:=by
 have h5:=hs.m5;have h3:=hs.l3
 have hml:x.Members.length=s.Members.length:=by rw[hM]
 rw[zxZ (by omega) (by omega),obs]
 by_cases hf:zxN x=0
 ·have hx:=zxO.1 hf;have l1:=zyJ (s:=s) [];have l2:=zyJ (s:=x) []
  have hS:zyN x []=zyN s []:=by unfold zyN; rw[hM]
  have hSw:=zzg hs hx hlo hhi (zyN s [])
  rw[if_pos hf,zza hs.thin,obs,zyM hs,obs,zza hx.thin,obs,zyM hx,obs,obs,zyO hs,obs,obs,zyO hx,obs,if_pos rfl,if_pos rfl,if_pos rfl,if_pos rfl,if_pos (by show((zyI s []).length:Int)=_; rw[l1]),if_pos (by show((zyI x []).length:Int)=((zyI s []).length:Int); rw[l1,l2,hml]),
   if_neg (by show ¬ (bnd s (zyN s [])).Lo < (bnd x (zyN x [])).Lo; rw[hS]; omega),if_neg (by show ¬ (bnd x (zyN x [])).Hi < (bnd s (zyN s [])).Hi; rw[hS]; omega)]
  refine hL _ _ (by rw[l1,l2,hml]) (by omega) fun k hk=>⟨_,_,zyK _ (by omega),zyK _ (by omega),?_⟩;rw[hM];exact zzg hs hx hlo hhi _
 ·rw[if_neg hf,awk]
theorem zzi{rs ts:List Rg}(hl:ts.length=rs.length)(h5:rs.length<=5)(h:∀k:Nat,k < rs.length->∃a b,rs[k]? = some a/\ts[k]? = some b/\b.Lo<=a.Lo/\a.Hi<=b.Hi):∀(d k:Nat),k<=rs.length->rs.length - k < d->zt7 (rs,0) (ts,0) d (k:Int)=some true
 | 0,_,_,hd=>by omega
 | d+1,k,hk,hd=>by
  rw[zt7]
  by_cases hkn:k < rs.length
  ·obtain⟨a,b,ha,hb,h1,h2⟩:=h k hkn;rw[if_pos (by show(k:Int) < (rs.length:Int); omega)]
   show(idx rs (k:Int)).bind _=_
   rw[zrF ha,obs]
   show(idx ts (k:Int)).bind _=_
   rw[zrF hb,obs,if_neg (by omega),obs,obs,if_neg (by omega),zqq (fI (by omega)),show(k:Int)+1=((k+1:Nat):Int) by omega];exact zzi hl h5 h d (k+1) (by omega) (by omega)
  ·rw[if_neg (by show ¬ (k:Int) < (rs.length:Int); omega),awk]
theorem zzj{rs ts:List Rg}(hl:ts.length=rs.length)(h5:rs.length<=5)(h:∀k:Nat,k < rs.length->∃a b,rs[k]? = some a/\ts[k]? = some b/\b.Lo<=a.Lo/\a.Hi<=b.Hi):∀(d k:Nat),k<=rs.length->rs.length - k < d->zt8 (rs,0) (ts,0) d (k:Int)=some true
 | 0,_,_,hd=>by omega
 | d+1,k,hk,hd=>by
  rw[zt8]
  by_cases hkn:k < rs.length
  ·obtain⟨a,b,ha,hb,h1,h2⟩:=h k hkn;rw[if_pos (by show(k:Int) < (rs.length:Int); omega)]
   show(idx rs (k:Int)).bind _=_
   rw[zrF ha,obs]
   show(idx ts (k:Int)).bind _=_
   rw[zrF hb,obs,if_neg (by omega),obs,obs,if_neg (by omega),zqq (fI (by omega)),show(k:Int)+1=((k+1:Nat):Int) by omega];exact zzj hl h5 h d (k+1) (by omega) (by omega)
  ·rw[if_neg (by show ¬ (k:Int) < (rs.length:Int); omega),awk]
theorem zzk{g:Rg->Int}{r:Rg}:∀{l:List Rg} {i:Nat} {a:Rg},l[i]? = some a->zye g (l.set i r)=zye g l - g a+g r
 | [],_,_,h=>by cases h
 | b::l,0,a,h=>by
  have e:b=a:=oi h
  show g r+zye g l=g b+zye g l - g a+g r
  rw[e]; omega
 | b::l,i+1,a,h=>by
  have:=zzk (g:=g) (r:=r) (l:=l) (i:=i) (a:=a) h
  show g b+zye g (l.set i r)=g b+zye g l - g a+g r
  rw[this]; omega
theorem zzl{s:Soc}{which by_:Int}(_:zr9 s)(hw:zl6 .u8 which)(hb:zl6 .u8 by_):zt9 s which by_=some true:=by
 have hw:=fU8 hw;have hb:=fU8 hb;unfold zt9
 refine zzb.pick (fun hs=>?_) fun _=>by rw[if_neg (by decide),awk]
 have h3:=hs.l3;have hT:=hs.full.tr.1;have hT2:=hs.full.tr.2.1;have hT3:=hs.full.tr.2.2.1;rw[if_pos rfl,zqq (by show 0+_<=_; omega),wzu (n:=which) (by omega),wzu (n:=by_) (by omega),List.nil_append];have b1:=Int.emod_nonneg by_ (show(4:Int) ≠ 0 by omega)
 by_cases hl:(0:Int) < (s.Losses.length:Int)
 ·obtain⟨i,hi,ei⟩:∃i:Nat,i < s.Losses.length/\which % (s.Losses.length:Int)=(i:Int):=⟨(which % (s.Losses.length:Int)).toNat,by
   have a1:=Int.emod_nonneg which (show(s.Losses.length:Int) ≠ 0 by omega);have a2:=Int.emod_lt_of_pos which hl
   omega,by
   have a1:=Int.emod_nonneg which (show(s.Losses.length:Int) ≠ 0 by omega)
   omega⟩
  have gi:=List.getElem?_eq_getElem hi;obtain⟨v,hve⟩:∃v,v=s.Losses[i]:=⟨_,rfl⟩;rw[<- hve] at gi;have hv:=hs.full.ls v (List.mem_of_getElem? gi);have hv1:=hv.1;have hv2:=hv.2.1;have hv3:=hv.2.2.1;rw[if_pos hl,zqq (by omega),zqq hl,ei,zqq (fI (by omega)),zrF gi,obs]
  repeat rw[zqq (by first | omega | exact fI (by omega))]
  rw[Int.toNat_natCast,List.set_set];refine zzh (x:={ Members:=s.Members,Losses:=s.Losses.set i ({ Lo:=max 0 (v.Lo - by_ % 4),Hi:=min 100000 (v.Hi+by_ / 4 % 4) }:Rg),Treaty:=({ Lo:=max 0 (s.Treaty.Lo - by_ / 16 % 4),Hi:=min 100000 (s.Treaty.Hi+by_ / 64) }:Rg),Reserve:=s.Reserve }) (L:=zt7) hs rfl List.length_set ?_ ?_ fun rs ts e1 e2 e3=>zzi e1 e2 e3 _ 0 (Nat.zero_le _) (by omega)
  ·unfold loN
   show max 0 (zye (·.Lo) (s.Losses.set i _) - s.Reserve - min 100000 _)<=_
   rw[zzk gi]
   show max 0 (zye (·.Lo) s.Losses - v.Lo+max 0 (v.Lo - by_ % 4) - s.Reserve - min 100000 (s.Treaty.Hi+by_ / 64))<=_
   omega
  ·unfold hiN
   show _<=max 0 (zye (·.Hi) (s.Losses.set i _) - s.Reserve - max 0 _)
   rw[zzk gi]
   show _<=max 0 (zye (·.Hi) s.Losses - v.Hi+min 100000 (v.Hi+by_ / 4 % 4) - s.Reserve - max 0 (s.Treaty.Lo - by_ / 16 % 4))
   omega
 ·rw[if_neg hl]
  repeat rw[zqq (by first | omega | exact fI (by omega))]
  refine zzh (x:={ Members:=s.Members,Losses:=s.Losses,Treaty:=({ Lo:=max 0 (s.Treaty.Lo - by_ / 16 % 4),Hi:=min 100000 (s.Treaty.Hi+by_ / 64) }:Rg),Reserve:=s.Reserve }) (L:=zt8) hs rfl rfl ?_ ?_ fun rs ts e1 e2 e3=>zzj e1 e2 e3 _ 0 (Nat.zero_le _) (by omega)
  ·show max 0 (zye (·.Lo) s.Losses - s.Reserve - min 100000 _)<=max 0 (zye (·.Lo) s.Losses - s.Reserve - s.Treaty.Hi)
   omega
  ·show max 0 (zye (·.Hi) s.Losses - s.Reserve - s.Treaty.Lo)<=max 0 (zye (·.Hi) s.Losses - s.Reserve - max 0 _)
   omega
end
end Go.Proofs.Ytkclhciahokifaa

namespace Go.Proofs.Ytkclhciahokifaa
open _root_.Go.Proofs.Try
open Go.ChangeShapes Go.WideShapes Go.ChangeAt Go.RowKit Go.Abs
set_option maxRecDepth 100000
theorem op3:zrV prog 3 Int (zl6 .i64):=zrW (by kernel_rfl)
theorem zzm:zrV prog 82 Mb zr7:=zr3 (fs:=[(3,0),(3,1),(3,2)]) (by kernel_rfl) (by kernel_rfl) (zr2 (α:=Int) (ok:=zl6 .i64) (k:=1) op3 (by kernel_rfl) rfl (zr2 (α:=Int) (ok:=zl6 .i64) (k:=1) op3 (by kernel_rfl) rfl (zr2 (α:=Int) (ok:=zl6 .i64) (k:=1) op3 (by kernel_rfl) rfl zr1))) (by kernel_rfl) fun m vs h=>by
 obtain⟨a0,c0,r0,m0,h0,p0,k0,s0,⟨a1,c1,r1,m1,h1,p1,k1,s1,⟨a2,c2,r2,m2,h2,p2,k2,s2,rfl⟩⟩⟩:=h;have p0:c0=[.int .i64 a0]:=p0; subst p0;have p1:c1=[.int .i64 a1]:=p1; subst p1;have p2:c2=[.int .i64 a2]:=p2; subst p2;subst h2 h1 h0;exact⟨⟨a0,a1,a2⟩,rfl,⟨k0,k1,k2⟩⟩
theorem zzn:zrV prog 22 (List Mb) (fun l=>l.length<=maxLen/\∀a0∈l,zr7 a0):=zrY (by kernel_rfl) (by kernel_rfl) zzm
theorem zzo:zrV prog 25 Rg zr5:=zr3 (fs:=[(3,0),(3,1)]) (by kernel_rfl) (by kernel_rfl) (zr2 (α:=Int) (ok:=zl6 .i64) (k:=1) op3 (by kernel_rfl) rfl (zr2 (α:=Int) (ok:=zl6 .i64) (k:=1) op3 (by kernel_rfl) rfl zr1)) (by kernel_rfl) fun m vs h=>by
 obtain⟨a0,c0,r0,m0,h0,p0,k0,s0,⟨a1,c1,r1,m1,h1,p1,k1,s1,rfl⟩⟩:=h;have p0:c0=[.int .i64 a0]:=p0; subst p0;have p1:c1=[.int .i64 a1]:=p1; subst p1;subst h1 h0;exact⟨⟨a0,a1⟩,rfl,⟨k0,k1⟩⟩
theorem zzp:zrV prog 23 (List Rg) (fun l=>l.length<=maxLen/\∀a0∈l,zr5 a0):=zrY (by kernel_rfl) (by kernel_rfl) zzo
theorem zzq:zrV prog 27 Soc zr9:=zr3 (fs:=[(22,0),(23,1),(25,2),(3,4)]) (by kernel_rfl) (by kernel_rfl) (zr2 (α:=List Mb) (ok:=(fun l=>l.length<=maxLen/\∀a0∈l,zr7 a0)) (k:=1) zzn (by kernel_rfl) rfl (zr2 (α:=List Rg) (ok:=(fun l=>l.length<=maxLen/\∀a0∈l,zr5 a0)) (k:=1) zzp (by kernel_rfl) rfl (zr2 (α:=Rg) (ok:=zr5) (k:=2) zzo (by kernel_rfl) rfl (zr2 (α:=Int) (ok:=zl6 .i64) (k:=1) op3 (by kernel_rfl) rfl zr1)))) (by kernel_rfl) fun m vs h=>by
 obtain⟨a0,c0,r0,m0,h0,p0,k0,s0,⟨a1,c1,r1,m1,h1,p1,k1,s1,⟨a2,c2,r2,m2,h2,p2,k2,s2,⟨a3,c3,r3,m3,h3,p3,k3,s3,rfl⟩⟩⟩⟩:=h;obtain⟨d0,rfl,p0⟩:=p0;obtain⟨d1,rfl,p1⟩:=p1;have p2:c2=[.int .i64 a2.Lo,.int .i64 a2.Hi]:=p2; subst p2;have p3:c3=[.int .i64 a3]:=p3; subst p3;subst h3 h2 h1 h0;exact⟨⟨a0,a1,a2,a3⟩,⟨_,_,rfl,p0,p1⟩,⟨k0,k1,k2,k3⟩⟩
theorem zzr:laidOutB prog=true:=by kernel_rfl
theorem zzs:ownKnob prog.godebug=none:=by kernel_rfl
theorem zzt(os:Os)(started:os.Started)(H:Type)(enc:TypeId × Value->H) :
    ReturnsInHanded {} Try.checked os 17 .any (Rows.callWiderSpec.pre6 enc Try.prog Try.f17 Rows.callWiderRow.domain false) (Rows.callWiderSpec.post enc Try.prog Try.f17 false true false false):=by
  refine returnsInHanded_of_change (C:=Try.checked) zzs started (by kernel_rfl) Try.func17
    (ChangeSpec.witness6 (enc:=enc) (C:=Try.checked) false ⟨#[],#[.agg #[.slice none 0 0,.slice none 0 0,.int .i64 0,.int .i64 0,.int .i64 0],.int .u8 0,.int .u8 0],[]⟩ 8 (by kernel_rfl) (by kernel_rfl) (by kernel_rfl) (by kernel_rfl)) ?_
  intro W base args ds gs before hval0 hW hcnd _;have hval:∀(j:Nat) t v,Try.f17.params[j]? = some t->args[j]? = some v->Value.okWide Try.prog W .any base t v:=hval0;have hW':=hW;obtain⟨p,q,hA0,hV,rfl,hfz,hnd⟩:=hW;have hA:DataW.TrodAll enc Try.prog W 0 (fun _=>true) true Try.f17.params.toList args.toList ds p:=hA0;rw[Try.params17] at hA hval;obtain⟨v0,v1,v2,d0,d1,d2,p0,p1,p2,rfl,rfl,rfl,h0,h1,h2⟩:=trodAll_three hA;obtain⟨rfl,rfl⟩:=trodVars_none hV;obtain⟨n1,hv1⟩:=okWide_int Try.underlying5 (hval 1 5 v1 rfl rfl);obtain⟨n2,hv2⟩:=okWide_int Try.underlying5 (hval 2 5 v2 rfl rfl)
  have hlt:∀x∈p0++p1++p2,x.block < W.heap.size:=fun x hx=>by simpa using hW'.lt x (by simpa using hx)
  obtain⟨fu0,hf0⟩:=id h0;obtain⟨fu1,hf1⟩:=id h1;obtain⟨fu2,hf2⟩:=id h2
  clear hA0 hval0
  obtain⟨e0,m0,w0,a_0,le0,sv0,lay0,cr0,zuC,ok0⟩:=zzq H enc W true _ _ _ hf0 _ _ (Lay.nil W);obtain⟨i1,hc1,_,hw1⟩:=DataW.trod_int Try.underlying5 hf1;obtain⟨i2,hc2,_,hw2⟩:=DataW.trod_int Try.underlying5 hf2;obtain⟨c0_0,c0_1,rfl,g0_0,g0_1⟩:=zuC
  obtain⟨cs0,hv0,cl0⟩:∃cs,v0=.agg cs/\v0.cells.toList=cs.toList:=by
    have hl:=cr0.length
    cases v0 with
    | agg cs=>exact⟨cs,rfl,rfl⟩
    | _=>exact absurd hl (by simp[Value.cells])
  subst hv0;subst hv1
  have hi1:i1=n1:=by
    have h:[Value.int .u8 n1]=[.int .u8 i1]:=hc1
    cases h; rfl
  subst hi1;subst hv2
  have hi2:i2=n2:=by
    have h:[Value.int .u8 n2]=[.int .u8 i2]:=hc2
    cases h; rfl
  subst hi2;have hargs:zeq (VR e0) [.agg 5 [c0_0,c0_1,.int .i64 a_0.Treaty.Lo,.int .i64 a_0.Treaty.Hi,.int .i64 a_0.Reserve],.c (.int .u8 i1),.c (.int .u8 i2)] [.agg cs0,.int .u8 i1,.int .u8 i2]:=.cons ⟨cs0,rfl,cr0,rfl⟩ (.cons rfl (.cons rfl .nil));refine(callsIn_wide.1 (zqB fits htab (zwi (s:=a_0) (which:=i1) (by_:=i2) lay0.pre g0_0 g0_1 (zzl ok0 (zqz hw1) (zqz hw2)) (Q:=fun v _=>v=.c (.bool true)) fun _ _=>rfl) lay0.hr (args':=#[.agg cs0,.int .u8 i1,.int .u8 i2]) hargs 0)).mono fun en W' hp=>?_;obtain⟨v,v',e',m',rfl,hst,hvr,rfl⟩:=hp;have hv':v'=.bool true:=hvr;subst hv';have hbelow:=lay0.below hst
  refine⟨_,rfl,[d0,d1,d2],[],p0++p1++p2,[],p0++(p1++p2),[],by simpa using hW',trodAll_mk1 (shut_bool Try.underlying4 _),
    trodAll_mk3 (Below.trod zzr (by kernel_rfl) (of_decide_eq_true (by kernel_rfl)) h0 hbelow fun x hx=>hlt x (by simp[hx])) (Below.trod zzr (by kernel_rfl) (of_decide_eq_true (by kernel_rfl)) h1 hbelow fun x hx=>hlt x (by simp[hx])) (Below.trod zzr (by kernel_rfl) (of_decide_eq_true (by kernel_rfl)) h2 hbelow fun x hx=>hlt x (by simp[hx])),rfl,lay0.kept hst _,fun hc=>by cases hc⟩
theorem CallWider_holds:Rows.CallWiderSaid:=
 OpenClaim.holds_of_wide 17 Try.f17 rfl rfl rfl rfl rfl rfl rfl ⟨rfl,rfl,rfl,rfl,rfl⟩ rfl rfl rfl rfl rfl (by kernel_rfl) Try.func17 (by kernel_rfl)
  (of_decide_eq_true (by kernel_rfl)) (by unfold Func.isWrapper; first | (rw[if_pos (by decide +kernel)]; kernel_rfl) | (rw[if_neg (by decide +kernel)]; exact⟨rfl,rfl⟩))
  (fun os started H enc _=>zzt os started H enc)
end Go.Proofs.Ytkclhciahokifaa

